import PyProof.Rows.All
import Wide.All
import OpenK.AllK
import Wide.FinOn
import Lean
import PyProof.EqAt
import PyProof.EqKinds
import PyProof.TupleCall
import PyProof.NeKinds
import PyProof.IsInstanceH
import PyProof.SumWalkG
import PyProof.ConsumeWalk
import PyProof.IsiNone
import PyProof.WalksMore
import PyProof.PlainList
import PyProof.CompFree
import KE.KIntText
import PySem.Challenge.RW_sluiceway_k41_water_and_gone
set_option Elab.async false
set_option linter.all false
set_option maxRecDepth 100000
set_option maxHeartbeats 0
noncomputable section
namespace L2
open PySem PySem.Spec PyProof.Rows
variable {us:List Value} {u:Value} {a b f:Addr} {P:Program} {w:World} {h base:Heap} {t' i j k:Nat} {ch fp:List Addr} {x:Str} {Q:Unit->Shared->Prop} {e tg:Expr} {A:Around} {E:Value->Shared->Prop} {s:Shared} {pins:List (Addr×Obj)} {op:CmpOp} {K:PySem.W.Frag} {mg:Str->Option Value} {fd:FuncData} {ps:List Str} {kindOf:Str->Option NameKind}
abbrev Key:=Sum Int Str
def ZBI:Key->Value->Bool
 | .inl k,v=>Value.isInt k v
 | .inr x,v=>Value.isStrOf x v
def keyH (w:World):Key->Int
 | .inl k=>hashInt k
 | .inr x=>hashStr w x
theorem Gy:∀{k:Key} {v:Value},ZBI k v=true->(∃i t,k=Sum.inl i/\v=Value.int i t)∨(∃x t,k=Sum.inr x/\v=Value.str x t)
 | .inl i,v,h=>by obtain ⟨t,e⟩:=Value.isInt_shape (k:=i) (v:=v) h;exact .inl ⟨i,t,rfl,e⟩
 | .inr x,v,h=>by obtain ⟨t,e⟩:=Value.isStrOf_shape (x:=x) (v:=v) h;exact .inr ⟨x,t,rfl,e⟩
theorem ZFp (a b:Int):decide ((Sum.inl a:Key)=Sum.inl b)=(a == b):=by
 by_cases e:a=b
 ·subst e;simp
 ·have h:¬(Sum.inl a:Key)=Sum.inl b:=λq=>e (Sum.inl.inj q)
  rw [decide_eq_false h];exact (beq_eq_false_iff_ne.mpr e).symm
theorem ZDJ (a b:Str):decide ((Sum.inr a:Key)=Sum.inr b)=decide (a=b):=by
 by_cases e:a=b
 ·subst e;simp
 ·have h:¬(Sum.inr a:Key)=Sum.inr b:=λq=>e (Sum.inr.inj q)
  rw [decide_eq_false h,decide_eq_false e]
theorem ZDE (a:Int) (b:Str):decide ((Sum.inl a:Key)=Sum.inr b)=false:=decide_eq_false (λq=>nomatch q)
theorem ZF7 (a:Str) (b:Int):decide ((Sum.inr a:Key)=Sum.inl b)=false:=decide_eq_false (λq=>nomatch q)
def Yi (prog:Program) (w:World):PySem.KeyKind prog w Key where
 is:=ZBI
 hash:=keyH w
 inj:=λv a b ha hb=>by
  rcases Gy ha with ⟨i,t,rfl,rfl⟩ | ⟨x,t,rfl,rfl⟩
  ·rcases Gy hb with ⟨j,u,rfl,e⟩ | ⟨y,u,rfl,e⟩
   ·injection e with e1 _;rw [e1]
   ·exact nomatch e
  ·rcases Gy hb with ⟨j,u,rfl,e⟩ | ⟨y,u,rfl,e⟩
   ·exact nomatch e
   ·injection e with e1 _;rw [e1]
 byValue:=λk v h=>by rcases Gy h with ⟨i,t,rfl,rfl⟩ | ⟨x,t,rfl,rfl⟩ <;> rfl
 pyHash:=λhv h=>by
  rcases Gy hv with ⟨i,t,rfl,rfl⟩ | ⟨x,t,rfl,rfl⟩
  ·exact wpAny_pyHash_int h
  ·exact wpAny_pyHash_str h
 eqBool:=λhu hv h=>by
  rcases Gy hu with ⟨i,t,rfl,rfl⟩ | ⟨x,t,rfl,rfl⟩
  ·rcases Gy hv with ⟨j,u,rfl,rfl⟩ | ⟨y,u,rfl,rfl⟩
   ·rw [ZFp] at h;exact wpAny_eqBool_int h
   ·rw [ZDE] at h;exact SeqAt.EqAt.int_str i t y u _ _ _ _ h
  ·rcases Gy hv with ⟨j,u,rfl,rfl⟩ | ⟨y,u,rfl,rfl⟩
   ·rw [ZF7] at h;exact SeqAt.EqAt.str_int x t j u _ _ _ _ h
   ·rw [ZDJ] at h;exact wpAny_eqBool_str h
 «strs»:=λk x t v h=>by
  rcases Gy h with ⟨i,u,rfl,e⟩ | ⟨y,u,rfl,e⟩
  ·exact nomatch e
  ·injection e with e1 _
   subst e1
   cases v <;> rfl
inductive V where
 | non | bl (b:Bool) | int (i:Int) | str (x:Str) | byt (b:Array UInt8) | flt (b:UInt64) | ref (a:Addr) | ty (n:String)
 deriving DecidableEq
def RelV:V->Value->Prop
 | .non,u=>u=Value.none
 | .bl b,u=>u=Value.bool b
 | .int i,u=>∃t,u=Value.int i t
 | .str x,u=>∃t,u=Value.str x t
 | .byt b,u=>∃t,u=Value.bytes b t
 | .flt b,u=>∃t,u=Value.float b t
 | .ref a,u=>u=Value.ref a
 | .ty n,u=>u=Value.type n
abbrev Vals:List V->List Value->Prop:=Paired RelV
theorem Vals.length {xs:List V} (r:Vals xs us):xs.length=us.length:=Paired.length r
theorem Vals.get:∀{xs:List V} {us:List Value} {i:Nat} {x:V},Vals xs us->xs[i]? =some x->∃u,us[i]? =some u/\RelV x u
 | _,_,_,_,.nil,e=>by simp at e
 | _,_,0,_,.cons r _,e=>by simp at e;subst e;exact ⟨_,rfl,r⟩
 | _,_,i + 1,x,.cons _ t,e=>by obtain ⟨u,h1,h2⟩:=Vals.get (i:=i) (x:=x) t (by simpa using e);exact ⟨u,by simpa using h1,h2⟩
theorem Vals.set {x:V} (r:RelV x u):∀{xs:List V} {us:List Value} (i:Nat),Vals xs us->Vals (xs.set i x) (us.set i u)
 | _,_,_,.nil=>.nil
 | _,_,0,.cons _ t=>.cons r t
 | _,_,i + 1,.cons q t=>.cons q (Vals.set r i t)
theorem Vals.append:∀{xs ys:List V} {us ws:List Value},Vals xs us->Vals ys ws->Vals (xs++ys) (us++ws)
 | _,_,_,_,.nil,s=>s
 | _,_,_,_,.cons r t,s=>.cons r (Vals.append t s)
theorem Vals.take:∀{xs:List V} {us:List Value} (n:Nat),Vals xs us->Vals (xs.take n) (us.take n)
 | _,_,0,_=>.nil
 | _,_,_ + 1,.nil=>.nil
 | _,_,n + 1,.cons r t=>.cons r (Vals.take n t)
theorem Vals.drop:∀{xs:List V} {us:List Value} (n:Nat),Vals xs us->Vals (xs.drop n) (us.drop n)
 | _,_,0,r=>r
 | _,_,_ + 1,.nil=>.nil
 | _,_,n + 1,.cons _ t=>Vals.drop n t
def RelO:Option V->Option Value->Prop
 | some v,some u=>RelV v u
 | none,none=>True
 | _,_=>False
def KV {κ:Type}:List (κ×V)->List (κ×Value)->Prop:=Paired λ(p:κ×V) (q:κ×Value)=>p.1=q.1/\RelV p.2 q.2
def kV:Key->V
 | .inl i=>.int i
 | .inr x=>.str x
inductive HO where
 | lst (xs:List V)
 | tup (xs:List V)
 | dK (kvs:List (Key×V)) | dT (kvs:List (List Key×V))
 | set (S:Int->Bool) (n:Nat)
 | ins (C dx:Addr) (fs:List (Str×V))
 | own (x:Addr)
 | xd (fs:List (Str×V))
 | met (f x:Addr)
 | rng (lo hi:Int)
 | frz (o:Obj) (u:HO)
 | tbl (ps:Array Value)
 | ext (φ:Heap->Prop)
variable {o:HO}
abbrev Hp:=Addr->Option HO
variable {H:Hp}
def upd (H:Hp) (a:Addr) (o:HO):Hp:=λb=>if b=a then some o else H b
theorem Ej:upd H a o a=some o:=by unfold upd;rw [if_pos rfl]
theorem Az (h:b≠a):upd H a o b=H b:=by unfold upd;rw [if_neg h]
theorem Hm (h:H a=some o) (h':H b=none):a≠b:=by intro e;subst e;rw [h] at h';cases h'
section
variable (P:Program) (w:World)
def ObjOk (H:Hp) (h:Heap) (a:Addr):HO->Prop
 | .lst xs=>xs.length<=sizeLine/\∃(its:List Value) (n:Nat),Vals xs its/\h.get? a=some {cls:=.type "list",data:=.seq its.toArray n}
 | .tup xs=>xs.length<=sizeLine/\∃its:List Value,Vals xs its/\IsTup h a its.toArray
 | .dK kvs=>kvs.length<=sizeLine/\(a == sysModules)=false/\∃vs,KV kvs vs/\h.DictOf (Yi P w) a vs
 | .dT kvs=>kvs.length<=sizeLine/\(a == sysModules)=false/\∃xs:List (List Key×Addr×Value),
   Paired (λ(p:List Key×V) (q:List Key×Addr×Value)=>p.1=q.1/\H q.2.1=some (.tup (p.1.map kV))/\RelV p.2 q.2.2) kvs xs/\
   ∃o es ep,h.get? a=some o/\o.ExactDict/\o.data=.dict es ep/\es.toList=xs.map (entryOfKey (tupleKind (Yi P w)))/\(xs.map (·.1)).Nodup
 | .set S n=>h.SetOf (intKind P w) a S n
 | .ins C dx fs=>H dx=some (.own a)/\fs.length<=1000/\dx≠a/\h.get? a=some (PySem.W.instObj C dx)/\
   ∃mA,h.Ns1 dx mA/\(∀f,RelO (fs.lookup f) (mA f))/\PySem.Within mA (fs.map (·.1))
 | .own _=>∃o,h.get? a=some o
 | .xd fs=>∃mA,h.Ns1 a mA/\∀f,RelO (fs.lookup f) (mA f)
 | .rng lo hi=>∃t u v,h.get? a=some {cls:=.type "range",data:=.fields #[.int lo t,.int hi u,.int 1 v]}
 | .frz o u=>h.get? a=some o/\ObjOk H h a u
 | .tbl ps=>h.get? a=some {cls:=.none,data:=.fields ps}
 | .met f x=>h.get? a=some (PySem.W.methodObj (.ref f) (.ref x))
 | .ext φ=>φ h/\(∃o,h.get? a=some o)/\∀h1 h2:Heap,φ h1->(∀o,h1.get? a=some o->h2.get? a=some o)->φ h2
def HOk (H:Hp) (h:Heap):Prop:=∀a o,H a=some o->ObjOk P w H h a o
end
section
variable {P:Program} {w:World} {H H':Hp} {h h':Heap} {a:Addr} {o:HO}
theorem ObjOk.lt (x:ObjOk P w H h a o):a < h.objs.size:=by
 cases o with
 | lst xs=>obtain ⟨_,_,_,_,e⟩:=x;exact Heap.lt_size e
 | tup xs=>obtain ⟨_,_,_,p⟩:=x;exact p.lt
 | dK kvs=>obtain ⟨_,_,_,_,o,_,_,e,_⟩:=x;exact Heap.lt_size e
 | dT kvs=>obtain ⟨_,_,_,_,o,_,_,e,_⟩:=x;exact Heap.lt_size e
 | set S n=>obtain ⟨o,_,_,_,e,_⟩:=x;exact Heap.lt_size e
 | ins C dx fs=>obtain ⟨_,_,_,e,_⟩:=x;exact Heap.lt_size e
 | own y=>obtain ⟨_,e⟩:=x;exact Heap.lt_size e
 | xd fs=>obtain ⟨_,⟨_,_,_,e,_⟩,_⟩:=x;exact Heap.lt_size e
 | rng lo hi=>obtain ⟨_,_,_,e⟩:=x;exact Heap.lt_size e
 | frz ob u=>obtain ⟨e,_⟩:=x;exact Heap.lt_size e
 | tbl ps=>exact Heap.lt_size (show h.get? a=some _ from x)
 | met f y=>exact Heap.lt_size (show h.get? a=some _ from x)
 | ext φ=>obtain ⟨_,⟨_,e⟩,_⟩:=x;exact Heap.lt_size e
theorem Paired.Tz {α β:Type} {F G:α->β->Prop}:∀{l₁:List α} {l₂:List β},Paired F l₁ l₂->(∀a b,F a b->G a b)->Paired G l₁ l₂
 | _,_,.nil,_=>.nil
 | _,_,.cons r t,f=>.cons (f _ _ r) (Paired.Tz t f)
theorem ObjOk.stay (x:ObjOk P w H h a o) (k:∀b u,(b=a∨H b=some (.own a))->h.get? b=some u->h'.get? b=some u)
  (ho:∀b,H b=some (.own a)->H' b=some (.own a)) (ht:∀b xs,H b=some (.tup xs)->H' b=some (.tup xs)):ObjOk P w H' h' a o:=by
 induction o with
 | lst xs=>obtain ⟨z,its,n,r,e⟩:=x;exact ⟨z,its,n,r,k _ _ (.inl rfl) e⟩
 | tup xs=>obtain ⟨z,its,r,ob,e,c⟩:=x;exact ⟨z,its,r,ob,k _ _ (.inl rfl) e,c⟩
 | dK kvs=>obtain ⟨z,y,vs,r,ob,es,ep,e,c⟩:=x;exact ⟨z,y,vs,r,ob,es,ep,k _ _ (.inl rfl) e,c⟩
 | dT kvs=>
  obtain ⟨z,y,xs,r,ob,es,ep,e,c⟩:=x;exact ⟨z,y,xs,Paired.Tz r λp q z=>⟨z.1,ht _ _ z.2.1,z.2.2⟩,ob,es,ep,k _ _ (.inl rfl) e,c⟩
 | set S n=>obtain ⟨ob,es,ep,t,e,c⟩:=x;exact ⟨ob,es,ep,t,k _ _ (.inl rfl) e,c⟩
 | ins C dx fs=>
  obtain ⟨d,z,ne,e,mA,⟨od,es,ep,e2,c⟩,r⟩:=x;exact ⟨ho _ d,z,ne,k _ _ (.inl rfl) e,mA,⟨od,es,ep,k _ _ (.inr d) e2,c⟩,r⟩
 | own y=>obtain ⟨ob,e⟩:=x;exact ⟨ob,k _ _ (.inl rfl) e⟩
 | xd fs=>obtain ⟨mA,⟨od,es,ep,e,c⟩,r⟩:=x;exact ⟨mA,⟨od,es,ep,k _ _ (.inl rfl) e,c⟩,r⟩
 | rng lo hi=>obtain ⟨t,u,v,e⟩:=x;exact ⟨t,u,v,k _ _ (.inl rfl) e⟩
 | frz ob u ih=>obtain ⟨e,q⟩:=x;exact ⟨k _ _ (.inl rfl) e,ih q⟩
 | tbl ps=>
  have e:h.get? a=some {cls:=.none,data:=.fields ps}:=x;show h'.get? a=some {cls:=.none,data:=.fields ps};exact k a _ (.inl rfl) e
 | met f y=>
  have e:h.get? a=some (PySem.W.methodObj (.ref f) (.ref y)):=x;show h'.get? a=some (PySem.W.methodObj (.ref f) (.ref y));exact k a _ (.inl rfl) e
 | ext φ=>obtain ⟨p,⟨o,e⟩,st⟩:=x;exact ⟨st _ _ p λo q=>k _ _ (.inl rfl) q,⟨o,k _ _ (.inl rfl) e⟩,st⟩
theorem HOk.lt (x:HOk P w H h) (e:H a=some o):a < h.objs.size:=(x a o e).lt
theorem HOk.fresh (x:HOk P w H h) (e:h.objs.size<=a):H a=none:=by
 cases q:H a with
 | none=>rfl
 | some u=>exact absurd (Nat.lt_of_lt_of_le (x.lt q) e) (Nat.lt_irrefl _)
theorem HOk.kept (x:HOk P w H h) (k:∀b u,h.get? b=some u->h'.get? b=some u):HOk P w H h':=λa o e=>
 (x a o e).stay (λb u _ q=>k b u q) (λ_ q=>q) λ_ _ q=>q
theorem HOk.laid (x:HOk P w H h) (k:∀b u,h.get? b=some u->h'.get? b=some u) (hp:h.objs.size<=a) (new:ObjOk P w (upd H a o) h' a o):HOk P w (upd H a o) h':=λb u e=>by
 have hn:=x.fresh hp;by_cases hb:b=a
 ·subst hb;rw [Ej] at e;cases e;exact new
 ·rw [Az hb] at e;exact (x b u e).stay (λc v _ q=>k c v q) (λc q=>by rw [Az (Hm q hn)];exact q) λc xs q=>by rw [Az (Hm q hn)];exact q
end
def Rd (H:Hp) (a:Addr) (u:HO):Prop:=H a=some u∨∃o,H a=some (.frz o u)
theorem Rd.ok {u:HO} (r:Rd H a u) (x:HOk P w H h):ObjOk P w H h a u:=by
 rcases r with r | ⟨o,r⟩
 ·exact x a u r
 ·obtain ⟨_,q⟩:=x a _ r;exact q
def Mut:Option HO->Prop
 | some (.lst _)=>True
 | some (.dK _)=>True
 | some (.dT _)=>True
 | some (.set _ _)=>True
 | some (.ins _ _ _)=>True
 | some (.ext _)=>True
 | _=>False
section
variable {P:Program} {w:World} {H:Hp} {h h':Heap} {x e:Addr} {o':HO}
theorem HOk.write (ok:HOk P w H h) (mu:Mut (H x)) (he:e=x∨H e=some (.own x)) (k:∀b u,b≠e->h.get? b=some u->h'.get? b=some u) (heo:∃u,h'.get? e=some u)
  (new:ObjOk P w (upd H x o') h' x o'):HOk P w (upd H x o') h':=λb u q=>by
 have nown:∀c y,H c=some (.own y)->c≠x:=λc y r z=>by subst z;rw [r] at mu;exact mu
 have ntup:∀c xs,H c=some (.tup xs)->c≠x:=λc xs r z=>by subst z;rw [r] at mu;exact mu
 by_cases hb:b=x
 ·subst hb;rw [Ej] at q;cases q;exact new
 ·rw [Az hb] at q;by_cases hbe:b=e
  ·have q':H b=some (.own x):=by
    rcases he with z | z
    ·exact absurd (hbe.trans z) hb
    ·rw [hbe];exact z
   rw [q] at q';cases q';obtain ⟨v,hv⟩:=heo;exact ⟨v,by rw [hbe];exact hv⟩
  ·refine (ok b u q).stay (λc v hc r=>k c v ?_ r) (λc r=>by rw [Az (nown c b r)];exact r) λc xs r=>by rw [Az (ntup c xs r)];exact r
   rcases hc with rfl | hc
   ·exact hbe
   ·rintro rfl;rcases he with z | z
    ·exact nown c b hc z
    ·rw [hc] at z;cases z;exact hb rfl
end
structure Un (fs ex:List Addr) (H H':Hp) (h h':Heap):Prop where
 keep:∀b o,h.get? b=some o->H b=none->b ∉ fs->b ∉ ex->h'.get? b=some o
 slot:∀b o,h.get? b=some o->H b=none->b∈fs->b ∉ ex->∃sl,h'.get? b=some {o with slots:=sl}
 free:∀b o,h.get? b=some o->H b=none->b ∉ ex->H' b=none
 there:∀b o,h.get? b=some o->b ∉ ex->∃o',h'.get? b=some o'
 tups:∀b xs,H b=some (.tup xs)->H' b=some (.tup xs)
 frzs:∀b o u,H b=some (.frz o u)->H' b=some (.frz o u)
 tbls:∀b ps,H b=some (.tbl ps)->∃more,H' b=some (.tbl (ps++more))
section
variable {fs fs' ex ex':List Addr} {H H1 H2:Hp} {h h1 h2 h':Heap} {a x e:Addr} {o:HO}
theorem Un.any (u:Un fs ex H H1 h h1) {ob:Obj} (q:h.get? b=some ob) (n:H b=none) (hx:b ∉ ex):∃sl,h1.get? b=some {ob with slots:=sl}:=by
 by_cases hb:b∈fs
 ·exact u.slot b ob q n hb hx
 ·exact ⟨ob.slots,u.keep b ob q n hb hx⟩
theorem Un.trans (a:Un fs ex H H1 h h1) (b:Un fs ex H1 H2 h1 h2):Un fs ex H H2 h h2 where
 keep:=λc ob q n hc hx=>b.keep c ob (a.keep c ob q n hc hx) (a.free c ob q n hx) hc hx
 slot:=λc ob q n hc hx=>by obtain ⟨sl,e1⟩:=a.slot c ob q n hc hx;obtain ⟨sl',e2⟩:=b.slot c _ e1 (a.free c ob q n hx) hc hx;exact ⟨sl',e2⟩
 free:=λc ob q n hx=>by obtain ⟨o',e1⟩:=a.there c ob q hx;exact b.free c o' e1 (a.free c ob q n hx) hx
 there:=λc ob q hx=>by obtain ⟨o',e1⟩:=a.there c ob q hx;exact b.there c o' e1 hx
 tups:=λc xs q=>b.tups c xs (a.tups c xs q)
 frzs:=λc ob xs q=>b.frzs c ob xs (a.frzs c ob xs q)
 tbls:=λc ps q=>by obtain ⟨m1,e1⟩:=a.tbls c ps q;obtain ⟨m2,e2⟩:=b.tbls c _ e1;exact ⟨m1++m2,by rw [e2,Array.append_assoc]⟩
theorem Un.kept (k:∀b u,h.get? b=some u->h'.get? b=some u):Un fs ex H H h h':=
 ⟨λb ob q _ _ _=>k b ob q,λb ob q _ _ _=>⟨ob.slots,k b ob q⟩,λ_ _ _ n _=>n,λb ob q _=>⟨ob,k b ob q⟩,λ_ _ q=>q,λ_ _ _ q=>q,λ_ ps q=>⟨#[],by rw [q];simp⟩⟩
theorem Un.refl:Un fs ex H H h h:=Un.kept λ_ _ q=>q
theorem Un.laid (k:∀b u,h.get? b=some u->h'.get? b=some u) (hp:h.objs.size<=a) (hn:H a=none):Un fs ex H (upd H a o) h h' where
 keep:=λb u q _ _ _=>k b u q
 slot:=λb u q _ _ _=>⟨u.slots,k b u q⟩
 free:=λb u q n _=>by rw [Az (Nat.ne_of_lt (Nat.lt_of_lt_of_le (Heap.lt_size q) hp))];exact n
 there:=λb u q _=>⟨u,k b u q⟩
 tups:=λb xs q=>by rw [Az (Hm q hn)];exact q
 frzs:=λb u xs q=>by rw [Az (Hm q hn)];exact q
 tbls:=λb ps q=>⟨#[],by rw [Az (Hm q hn),q];simp⟩
theorem Un.write (mu:Mut (H x)) (he:e=x∨H e=some (.own x)) (k:∀b u,b≠e->h.get? b=some u->h'.get? b=some u) (heo:∃u,h'.get? e=some u):Un fs ex H (upd H x o) h h':=by
 have hx:∀b,H b=none->b≠x:=λb n z=>by subst z;rw [n] at mu;exact mu
 have hb:∀b,H b=none->b≠e:=λb n z=>by
  subst z;rcases he with r | r
  ·exact hx b n r
  ·rw [n] at r;cases r
 have hm:∀b u,H b=some u->¬Mut (some u)->b≠x:=λb u q nm z=>by subst z;rw [q] at mu;exact nm mu
 refine ⟨λb u q n _ _=>k b u (hb b n) q,λb u q n _ _=>⟨u.slots,k b u (hb b n) q⟩,λb u q n _=>by rw [Az (hx b n)];exact n,λb u q _=> ?_,
  λb xs q=>by rw [Az (hm b _ q λz=>z)];exact q,λb u xs q=>by rw [Az (hm b _ q λz=>z)];exact q,λb ps q=>⟨#[],by rw [Az (hm b _ q λz=>z),q];simp⟩⟩
 by_cases hbe:b=e
 ·subst hbe;exact heo
 ·exact ⟨u,k b u hbe q⟩
theorem Un.mono (u:Un fs ex H H1 h h1) (hs:∀b∈fs,b∈fs') (hx:∀b∈ex,b∈ex'):Un fs' ex' H H1 h h1:=
 ⟨λb ob q n hb he=>u.keep b ob q n (λz=>hb (hs b z)) λz=>he (hx b z),λ_ _ q n _ he=>u.any q n λz=>he (hx _ z),λb ob q n he=>u.free b ob q n λz=>he (hx b z),λb ob q he=>u.there b ob q λz=>he (hx b z),u.tups,u.frzs,u.tbls⟩
end
def trk (h:Heap) (H:Hp):List Addr:=(List.range h.objs.size).filter λa=>(H a).isSome
def Ha (h:Heap) (H:Hp):Heap:=PySem.W.hideAll h (trk h H)
theorem ZFl (h:Heap) (H:Hp):(Ha h H).objs.size=h.objs.size:=PySem.W.hideAll_size _ _
theorem ZEy {o:Obj} (e:h.get? b=some o) (n:H b=none):(Ha h H).get? b=some o:=
 PySem.W.hideAll_get _ e λhm=>by have q:(H b).isSome=true:=(List.mem_filter.mp hm).2;rw [n] at q;simp at q
theorem ZC9 {o:Obj} (e:(Ha h H).get? b=some o):h.get? b=some o/\H b=none:=by
 have e':h.get? b=some o:=PySem.W.of_hideAll (trk h H) e;refine ⟨e',?_⟩;cases q:H b with
 | none=>rfl
 | some x=>
  have hm:b∈trk h H:=List.mem_filter.mpr ⟨List.mem_range.mpr (Heap.lt_size e'),by simp [q]⟩;have z:(Ha h H).get? b=none:=PySem.W.hideAll_none (trk h H) hm;rw [z] at e;cases e
def ZDU (g h:Heap) (L:Addr):List (Addr×Obj):=(List.range h.objs.size).filterMap λa=>if a=L∨(g.get? a).isSome=true then none else (h.get? a).map λo=>(a,o)
def rest (g h:Heap) (L d:Addr):List (Addr×Obj):=(ZDU g h L).filter λp=>decide (p.1≠d)
structure Mod (K:PySem.W.Frag) (mg:Str->Option Value) (base:Heap):Prop where
 kin:K.In base
 glob:base.Ns mainGlobals mg
 blt:∃mb,base.Ns builtinsNs mb/\∀x:Str,x≠"__name__"->mb x=bootBuiltins x
 nolimit:base.NoLimit
structure Cx where
 prog:Program
 w:World
 K:PySem.W.Frag
 mg:Str->Option Value
 base:Heap
 A:Around
 N:List Str
 s₀:Shared
 H₀:Hp
 env:Env
 outer:List Env
 stack:List Env
 ex:List Addr
 fn:Str->Bool
 calm:Bool
 pn:List (Addr×Obj)
 xe:Value->Shared->Prop
variable {X:Cx}
def frs (l:List Env):List Addr:=l.filterMap (·.frame)
abbrev Cx.fs (X:Cx):List Addr:=frs X.outer
def Vis (sc:Scope) (x:Str):Prop:=sc.names.lookup x=some .local∨sc.names.lookup x=some .cell∨sc.names.lookup x=some .free
def Loc (sc:Scope) (x:Str):Prop:=sc.names.lookup x=some .local∨sc.names.lookup x=some .cell
def Look (env:Env) (h:Heap) (m:Str->Option Value) (x:Str) (u:Value):Prop:=
 (env.kindOf x=some .local/\m x=some u)∨((env.kindOf x=some .cell∨env.kindOf x=some .free)/\∃c,env.cells.lookup x=some c/\h.IsCell c (some u))
structure Cx.Ok (X:Cx):Prop where
 mod:Mod X.K X.mg X.base
 kind:X.env.scope.kind=.function
 glob:X.env.globals=mainGlobals
 blt:X.env.builtins=builtinsNs
 above:X.s₀.heap.objs.size<=X.env.locals
 inj:∀x y c,X.env.cells.lookup x=some c->X.env.cells.lookup y=some c->x=y
 has:∀x,(X.env.kindOf x=some .cell∨X.env.kindOf x=some .free)->∃c,X.env.cells.lookup x=some c
 cab:∀x c,X.fn x=true->X.env.cells.lookup x=some c->X.s₀.heap.objs.size<=c
 hd:X.calm=true->X.A.handled=none
 frames:X.A.frames=some X.stack
 stk:X.stack=X.outer∨(X.stack=X.env::X.outer/\X.env.frame=some X.env.locals)
 exf:∀b∈X.ex,b≠X.env.locals/\∀x c,X.env.cells.lookup x=some c->c≠b
 bs:∀b o,X.base.get? b=some o->X.s₀.heap.get? b=some o/\X.H₀ b=none
 bsz:X.base.objs.size<=X.s₀.heap.objs.size
 noex:∀b o,X.base.get? b=some o->b ∉ X.ex
 exfs:∀b∈X.ex,b ∉ X.fs
 funs:X.s₀.heap.FunFrames X.base X.outer
 frf:∀b∈X.fs,X.H₀ b=none
structure Inv (X:Cx) (pins:List (Addr×Obj)) (σ:List (Option V)) (H:Hp) (s:Shared):Prop where
 ok:X.Ok
 os:s.os=X.s₀.os
 bare:AllBare s.gens
 base:Un X.fs X.ex X.H₀ H X.s₀.heap s.heap
 loc:∃m,s.heap.Ns X.env.locals m/\∀(i:Nat) (x:Str) (v:V),X.N[i]? =some x->σ[i]? =some (some v)->Vis X.env.scope x->∃u,RelV v u/\Look X.env s.heap m x u
 cell:∀x c,X.env.cells.lookup x=some c->∃v,s.heap.IsCell c v
 free:H X.env.locals=none
 Fb:∀x c,X.env.cells.lookup x=some c->H c=none
 pin:∀p∈X.pn++pins,s.heap.get? p.1=some p.2/\H p.1=none/\p.1≠X.env.locals/\p.1 ∉ X.fs/\∀v,p.2.data≠ .cell v
 hok:HOk X.prog X.w H s.heap
 len:σ.length=X.N.length
section
variable {X:Cx} {pins:List (Addr×Obj)} {σ:List (Option V)} {H H':Hp} {s:Shared} {h':Heap}
theorem Cx.Ok.nofr (ok:X.Ok) {o:Obj} (e:X.base.get? b=some o):b ∉ X.fs:=λhb=>by have:=(ok.funs.mem hb).1;rw [e] at this;cases this
theorem Inv.bs (I:Inv X pins σ H s):∀b o,X.base.get? b=some o->s.heap.get? b=some o/\H b=none:=λb o e=>
 ⟨I.base.keep b o (I.ok.bs b o e).1 (I.ok.bs b o e).2 (I.ok.nofr e) (I.ok.noex b o e),I.base.free b o (I.ok.bs b o e).1 (I.ok.bs b o e).2 (I.ok.noex b o e)⟩
theorem Inv.bk (I:Inv X pins σ H s):∀b o,X.base.get? b=some o->s.heap.get? b=some o:=λb o e=>(I.bs b o e).1
theorem Inv.mod (I:Inv X pins σ H s):Mod X.K X.mg X.base:=I.ok.mod
theorem Inv.kIn (I:Inv X pins σ H s):X.K.In s.heap:=I.ok.mod.kin.keeps I.bk
theorem Inv.nolimit (I:Inv X pins σ H s):s.heap.NoLimit:=I.ok.mod.nolimit.keeps I.bk
theorem Inv.fr (I:Inv X pins σ H s):∃m,Fr X.base X.env.locals s.heap m:=
 let ⟨m,hn,_⟩:=I.loc
 ⟨m,hn,I.bk,Nat.le_trans I.ok.bsz I.ok.above⟩
theorem Inv.lt (I:Inv X pins σ H s):X.env.locals < s.heap.objs.size:=let ⟨_,hn,_⟩:=I.loc;hn.lt
theorem Inv.sz (I:Inv X pins σ H s):X.s₀.heap.objs.size<=s.heap.objs.size:=Nat.le_trans I.ok.above (Nat.le_of_lt I.lt)
theorem Inv.nofs (I:Inv X pins σ H s) (h:s.heap.objs.size<=a):a ∉ X.fs:=λhb=>by obtain ⟨_,o,ho,_⟩:=I.ok.funs.mem hb;exact absurd (Nat.lt_of_lt_of_le (Heap.lt_size ho) (Nat.le_trans I.sz h)) (Nat.lt_irrefl _)
theorem Inv.cne (I:Inv X pins σ H s):∀x c,X.env.cells.lookup x=some c->c≠X.env.locals:=λx c e z=>by obtain ⟨v,o,ho,hd⟩:=I.cell x c e;obtain ⟨m,⟨o',es,ep,ho',hd',_⟩,_⟩:=I.loc;rw [z,ho'] at ho;cases ho;rw [hd'] at hd;cases hd
theorem Inv.funs (I:Inv X pins σ H s):s.heap.FunFrames X.base X.outer:=by
 have all:∀(l:List Env),(∀b∈frs l,b∈X.fs)->X.s₀.heap.FunFrames X.base l->s.heap.FunFrames X.base l:=by
  intro l
  induction l with
  | nil=>intro _ _;trivial
  | cons env r ih=>
   intro hs hl;obtain ⟨hk,⟨L,o,hf,hn,ho,hd⟩,hr⟩:=hl;have hL:L∈X.fs:=hs L (by unfold frs;rw [List.filterMap_cons,hf];exact List.mem_cons_self);obtain ⟨sl,e⟩:=I.base.slot L o ho (I.ok.frf L hL) hL λz=>I.ok.exfs L z hL
   exact ⟨hk,⟨L,_,hf,hn,e,hd⟩,ih (λb hb=>hs b (by unfold frs;rw [List.filterMap_cons,hf];exact List.mem_cons_of_mem _ hb)) hr⟩
 exact all X.outer (λ_ hb=>hb) I.ok.funs
theorem Inv.stack (I:Inv X pins σ H s):s.heap.FunFrames X.base X.stack:=by
 rcases I.ok.stk with e | ⟨e,hf⟩
 ·rw [e];exact I.funs
 ·rw [e];obtain ⟨m,hn,_⟩:=I.loc;refine .cons (by rw [I.ok.kind];decide) hf hn ?_ I.funs;exact Heap.get?_none_of_le (Nat.le_trans I.ok.bsz I.ok.above)
theorem Inv.Oi (I:Inv X pins σ H s):∀b∈frs X.stack,b∈X.env.locals::X.fs:=λb hb=>by
 rcases I.ok.stk with e | ⟨e,hf⟩
 ·rw [e] at hb;exact List.mem_cons_of_mem _ hb
 ·rw [e] at hb;unfold frs at hb;rw [List.filterMap_cons,hf] at hb;exact hb
theorem Inv.Zh (I:Inv X pins σ H s):∀b∈frs X.stack,H b=none:=λb hb=>by
 rcases List.mem_cons.mp (I.Oi b hb) with e | hb
 ·rw [e];exact I.free
 ·obtain ⟨_,o,ho,_⟩:=I.ok.funs.mem hb;exact I.base.free b o ho (I.ok.frf b hb) λz=>I.ok.exfs b z hb
theorem Inv.step {g':Array GenState} {d':Drawn} (I:Inv X pins σ H s)
  (hch:∀b∈ch,(b∈X.ex∨X.s₀.heap.objs.size<=b)/\b≠X.env.locals/\(∀x c,X.env.cells.lookup x=some c->c≠b)/\∀p∈X.pn++pins,p.1≠b)
  (keep:∀b o,b≠X.env.locals->b ∉ X.fs->b ∉ ch->s.heap.get? b=some o->H b=none->h'.get? b=some o)
  (slot:∀b o,b≠X.env.locals->b∈X.fs->b ∉ ch->s.heap.get? b=some o->H b=none->∃sl,h'.get? b=some {o with slots:=sl}) (free:∀b o,b ∉ ch->s.heap.get? b=some o->H b=none->H' b=none)
  (there:∀b o,b ∉ ch->s.heap.get? b=some o->∃o',h'.get? b=some o')
  (tups:∀b xs,H b=some (.tup xs)->H' b=some (.tup xs)) (frzs:∀b o u,H b=some (.frz o u)->H' b=some (.frz o u)) (tbls:∀b ps,H b=some (.tbl ps)->∃more,H' b=some (.tbl (ps++more)))
  (ns:∀m,s.heap.Ns X.env.locals m->h'.Ns X.env.locals m) (hok:HOk X.prog X.w H' h') (hg:AllBare g'):
  Inv X pins σ H' {s with heap:=h',gens:=g',drawn:=d',toks:=t'}:=by
 have neL:∀b o,X.s₀.heap.get? b=some o->b≠X.env.locals:=λb o e=>Nat.ne_of_lt (Nat.lt_of_lt_of_le (Heap.lt_size e) I.ok.above)
 have neC:∀b o,X.s₀.heap.get? b=some o->b ∉ X.ex->b ∉ ch:=λb o e hx hb=>by
  rcases (hch b hb).1 with z | z
  ·exact hx z
  ·exact absurd (Nat.lt_of_lt_of_le (Heap.lt_size e) z) (Nat.lt_irrefl _)
 have cellK:∀x c,X.env.cells.lookup x=some c->∀v,s.heap.IsCell c v->h'.IsCell c v:=λx c e v ⟨o,ho,hd⟩=>by
  have nch:c ∉ ch:=λz=>(hch c z).2.2.1 x c e rfl
  by_cases hc:c∈X.fs
  ·obtain ⟨sl,q⟩:=slot c o (I.cne x c e) hc nch ho (I.Fb x c e);exact ⟨_,q,hd⟩
  ·exact ⟨o,keep c o (I.cne x c e) hc nch ho (I.Fb x c e),hd⟩
 refine ⟨I.ok,I.os,hg,⟨λb o e n hb hx=> ?_,λb o e n hb hx=> ?_,λb o e n hx=> ?_,λb o e hx=> ?_,λb xs e=>tups b xs (I.base.tups b xs e),λb o xs e=>frzs b o xs (I.base.frzs b o xs e),λb ps e=> ?_⟩,?_,λx c e=> ?_,?_,λx c e=> ?_,λp hp=> ?_,hok,I.len⟩
 ·exact keep b o (neL b o e) hb (neC b o e hx) (I.base.keep b o e n hb hx) (I.base.free b o e n hx)
 ·obtain ⟨sl,e1⟩:=I.base.slot b o e n hb hx;obtain ⟨sl',e2⟩:=slot b _ (neL b o e) hb (neC b o e hx) e1 (I.base.free b o e n hx);exact ⟨sl',e2⟩
 ·obtain ⟨o',e1⟩:=I.base.there b o e hx;exact free b o' (neC b o e hx) e1 (I.base.free b o e n hx)
 ·obtain ⟨o',e1⟩:=I.base.there b o e hx;exact there b o' (neC b o e hx) e1
 ·obtain ⟨m1,e1⟩:=I.base.tbls b ps e;obtain ⟨m2,e2⟩:=tbls b _ e1;exact ⟨m1++m2,by rw [e2,Array.append_assoc]⟩
 ·obtain ⟨m,hn,hl⟩:=I.loc;refine ⟨m,ns m hn,λi x v e1 e2 e3=> ?_⟩;obtain ⟨u,r,l⟩:=hl i x v e1 e2 e3;refine ⟨u,r,?_⟩;rcases l with l | ⟨k,c,e,z⟩
  ·exact .inl l
  ·exact .inr ⟨k,c,e,cellK x c e _ z⟩
 ·obtain ⟨v,z⟩:=I.cell x c e;exact ⟨v,cellK x c e v z⟩
 ·obtain ⟨m,⟨o,_,_,ho,_⟩,_⟩:=I.loc;exact free _ o (λz=>(hch _ z).2.1 rfl) ho I.free
 ·obtain ⟨v,o,ho,hd⟩:=I.cell x c e;exact free c o (λz=>(hch c z).2.2.1 x c e rfl) ho (I.Fb x c e)
 ·obtain ⟨e,n,ne,nf,d⟩:=I.pin p hp;have nch:p.1 ∉ ch:=λz=>(hch p.1 z).2.2.2 p hp rfl
  exact ⟨keep p.1 p.2 ne nf nch e n,free p.1 p.2 nch e n,ne,nf,d⟩
theorem Inv.un (I:Inv X pins σ H s) (u:Un X.fs [] H H' s.heap h') (hok:HOk X.prog X.w H' h'):Inv X pins σ H' {s with heap:=h',toks:=t'}:=by
 obtain ⟨m,⟨o,es,ep,ho,r⟩,_⟩:=id I.loc;obtain ⟨sl,hL⟩:=u.any ho I.free (by simp)
 exact I.step (g':=s.gens) (d':=s.drawn) (ch:= []) (λ_ z=>nomatch z) (λb o _ hb _ e n=>u.keep b o e n hb (by simp)) (λb o _ hb _ e n=>u.slot b o e n hb (by simp)) (λb o _ e n=>u.free b o e n (by simp)) (λb o _ e=>u.there b o e (by simp)) u.tups u.frzs u.tbls (λm' hm=>by obtain ⟨o',es',ep',ho',r'⟩:=hm;rw [ho] at ho';cases ho';exact ⟨_,es',ep',hL,r'⟩) hok I.bare
theorem Inv.call {g':Array GenState} {d':Drawn} (I:Inv X pins σ H s) (u:Un (frs X.stack) ch H H' s.heap h') (hok:HOk X.prog X.w H' h') (hg:AllBare g')
  (hch:∀b∈ch,(b∈X.ex∨X.s₀.heap.objs.size<=b)/\b≠X.env.locals/\(∀x c,X.env.cells.lookup x=some c->c≠b)/\∀p∈X.pn++pins,p.1≠b):
  Inv X pins σ H' {s with heap:=h',gens:=g',drawn:=d',toks:=t'}:=by
 obtain ⟨m,⟨o,es,ep,ho,r⟩,_⟩:=id I.loc;obtain ⟨sl,hL⟩:=u.any ho I.free λz=>(hch _ z).2.1 rfl
 exact I.step (ch:=ch) hch (λb o hL hb hc e n=>u.keep b o e n (λz=>(List.mem_cons.mp (I.Oi b z)).elim hL hb) hc) (λb o _ _ hc e n=>u.any e n hc) (λb o hc e n=>u.free b o e n hc) (λb o hc e=>u.there b o e hc) u.tups u.frzs u.tbls (λm' hm=>by obtain ⟨o',es',ep',ho',r'⟩:=hm;rw [ho] at ho';cases ho';exact ⟨_,es',ep',hL,r'⟩) hok hg
theorem Inv.turned {it:Addr} (I:Inv X pins σ H s) (k:∀b o,b≠it->s.heap.get? b=some o->h'.get? b=some o) (hn:H it=none) (hL:it≠X.env.locals)
  (h1:it∈X.ex∨X.s₀.heap.objs.size<=it) (h2:∀x c,X.env.cells.lookup x=some c->c≠it) (h3:∀p∈X.pn++pins,p.1≠it):Inv X pins σ H {s with heap:=h',toks:=t'}:=by
 have nit:∀b u,H b=some u->b≠it:=λb u e z=>by rw [z,hn] at e;cases e
 refine I.step (g':=s.gens) (d':=s.drawn) (ch:= [it]) (λb hb=> ?_) (λb o _ _ hc e _=>k b o (λz=>hc (by simp [z])) e) (λb o _ _ hc e _=>⟨o.slots,k b o (λz=>hc (by simp [z])) e⟩) (λ_ _ _ _ n=>n)
  (λb o hc e=>⟨o,k b o (λz=>hc (by simp [z])) e⟩) (λ_ _ e=>e) (λ_ _ _ e=>e) (λb ps e=>⟨#[],by rw [e];simp⟩) (λm hm=> ?_) (λb u e=> ?_) I.bare
 ·have e:b=it:=by simpa using hb
  subst e;exact ⟨h1,hL,h2,h3⟩
 ·obtain ⟨o,es,ep,ho,r⟩:=hm;exact ⟨o,es,ep,k _ o (Ne.symm hL) ho,r⟩
 ·refine (I.hok b u e).stay (λc v hc q=>k c v ?_ q) (λ_ q=>q) λ_ _ q=>q
  rcases hc with z | z
  ·rw [z];exact nit b u e
  ·exact nit c _ z
theorem Inv.tok (I:Inv X pins σ H s) (t:Nat):Inv X pins σ H {s with toks:=t}:=I.un (h':=s.heap) (t':=t) Un.refl I.hok
theorem Inv.kept (I:Inv X pins σ H s) (k:∀b u,s.heap.get? b=some u->h'.get? b=some u):Inv X pins σ H {s with heap:=h',toks:=t'}:=I.un (Un.kept k) (I.hok.kept k)
theorem Inv.laid (I:Inv X pins σ H s) (k:∀b u,s.heap.get? b=some u->h'.get? b=some u) (hp:s.heap.objs.size<=a) (new:ObjOk X.prog X.w (upd H a o) h' a o):
  Inv X pins σ (upd H a o) {s with heap:=h',toks:=t'}:=I.un (Un.laid k hp (I.hok.fresh hp)) (I.hok.laid k hp new)
theorem Inv.write {x e:Addr} (I:Inv X pins σ H s) (mu:Mut (H x)) (he:e=x∨H e=some (.own x)) (k:∀b u,b≠e->s.heap.get? b=some u->h'.get? b=some u) (heo:∃u,h'.get? e=some u)
  (new:ObjOk X.prog X.w (upd H x o) h' x o):Inv X pins σ (upd H x o) {s with heap:=h',toks:=t'}:=I.un (Un.write mu he k heo) (I.hok.write mu he k heo new)
theorem Inv.weak {σ':List (Option V)} (I:Inv X pins σ H s) (hl:σ'.length=σ.length) (w:∀(i:Nat) v,σ'[i]? =some (some v)->σ[i]? =some (some v)):Inv X pins σ' H s:=
 ⟨I.ok,I.os,I.bare,I.base,let ⟨m,hn,hl'⟩:=I.loc;⟨m,hn,λi x v e1 e2 e3=>hl' i x v e1 (w i v e2) e3⟩,I.cell,I.free,I.Fb,I.pin,I.hok,hl.trans I.len⟩
theorem Inv.Fj {pins':List (Addr×Obj)} (I:Inv X pins σ H s) (h:∀p∈pins',s.heap.get? p.1=some p.2/\H p.1=none/\p.1≠X.env.locals/\p.1 ∉ X.fs/\∀v,p.2.data≠ .cell v):Inv X pins' σ H s:=
 ⟨I.ok,I.os,I.bare,I.base,I.loc,I.cell,I.free,I.Fb,λp hp=>(List.mem_append.mp hp).elim (λz=>I.pin p (List.mem_append_left _ z)) (h p),I.hok,I.len⟩
theorem ZAC {N:List Str} (hN:N.Nodup) (a:N[i]? =some x) (b:N[j]? =some x):i=j:=by obtain ⟨h1,e1⟩:=List.getElem?_eq_some_iff.mp a;obtain ⟨h2,e2⟩:=List.getElem?_eq_some_iff.mp b;exact (List.getElem_inj hN).mp (e1.trans e2.symm)
theorem ZBT {M:Model} {A:Around} {E:Value->Shared->Prop} {v:V} (I:Inv X pins σ H s) (hN:X.N.Nodup) (hi:X.N[i]? =some x) (hx:Loc X.env.scope x) (r:RelV v u)
  (h:∀s',Inv X pins (σ.set i (some v)) H s'->(∃a,Heap.SameBut a s.heap s'.heap/\(a=X.env.locals∨X.env.cells.lookup x=some a))->Q () s') (hf:X.fn x=true∨X.env.scope.names.lookup x=some .local:=by first | exact .inl rfl | exact .inr rfl | assumption):wpAny M A (storeName X.env x u) Q E s:=by
 obtain ⟨m,hn,hl⟩:=id I.loc;have hcls:(X.env.scope.kind == .class || (X.env.scope.kind == .module && X.env.locals != X.env.globals))=false:=by rw [I.ok.kind];rfl
 have hiσ:i < σ.length:=by rw [I.len];exact (List.getElem?_eq_some_iff.mp hi).1
 have cne:=I.cne;have tracked:∀{a:Addr} {h':Heap},(∃o,s.heap.get? a=some o/\H a=none)->Heap.SameBut a s.heap h'->HOk X.prog X.w H h':=λ{a h'} ha hs b ob e=>by
  obtain ⟨_,_,hfree⟩:=ha;refine (I.hok b ob e).stay (λc w' hc q=>(hs.2 c ?_).trans q) (λ_ q=>q) λ_ _ q=>q
  rintro rfl;rcases hc with rfl | hc
  ·rw [hfree] at e;cases e
  ·rw [hfree] at hc;cases hc
 rcases hx with hk | hk
 ·refine wpAny_storeName_local hk hn (λh' hn' hs=> ?_) hcls;obtain ⟨oL,_,_,hoL,_⟩:=id hn;refine h _ ⟨I.ok,I.os,I.bare,⟨λb o e n hb hx=> ?_,λb o e n hb hx=> ?_,I.base.free,λb o e hx=> ?_,I.base.tups,I.base.frzs,I.base.tbls⟩,⟨_,hn',λj y v' e1 e2 e3=> ?_⟩,λy c e=> ?_,I.free,I.Fb,λp hp=> ?_,tracked ⟨oL,hoL,I.free⟩ hs,by simpa using I.len⟩ ⟨_,hs,.inl rfl⟩
  ·exact (hs.2 b (Nat.ne_of_lt (Nat.lt_of_lt_of_le (Heap.lt_size e) I.ok.above))).trans (I.base.keep b o e n hb hx)
  ·obtain ⟨sl,e1⟩:=I.base.slot b o e n hb hx;exact ⟨sl,(hs.2 b (Nat.ne_of_lt (Nat.lt_of_lt_of_le (Heap.lt_size e) I.ok.above))).trans e1⟩
  ·obtain ⟨o',e1⟩:=I.base.there b o e hx;exact ⟨o',(hs.2 b (Nat.ne_of_lt (Nat.lt_of_lt_of_le (Heap.lt_size e) I.ok.above))).trans e1⟩
  ·by_cases hj:j=i
   ·subst hj;rw [hi] at e1;cases e1;rw [List.getElem?_set_self hiσ] at e2;cases e2;exact ⟨u,r,.inl ⟨hk,by simp⟩⟩
   ·rw [List.getElem?_set_ne (Ne.symm hj)] at e2;obtain ⟨u',r',q⟩:=hl j y v' e1 e2 e3;refine ⟨u',r',?_⟩;rcases q with ⟨k,e⟩ | ⟨k,c,e,z⟩
    ·refine .inl ⟨k,?_⟩;have:y≠x:=λe=>hj (ZAC hN e1 (e ▸ hi))
     simp [this,e]
    ·exact .inr ⟨k,c,e,z.sameBut hs (cne y c e)⟩
  ·obtain ⟨w',z⟩:=I.cell y c e;exact ⟨w',z.sameBut hs (cne y c e)⟩
  ·obtain ⟨e,n,ne,nf,d⟩:=I.pin p hp;exact ⟨(hs.2 p.1 ne).trans e,n,ne,nf,d⟩
 ·have hfn:X.fn x=true:=by
   rcases hf with z | z
   ·exact z
   ·rw [z] at hk;cases hk
  obtain ⟨c,hc⟩:=I.ok.has x (.inl hk);obtain ⟨w',z⟩:=I.cell x c hc;refine wpAny_storeName_cell I.ok.kind hk hc z (λh' hc' hs=> ?_);obtain ⟨oc,hoc,hocd⟩:=id z;refine h {s with heap:=h'} ⟨I.ok,I.os,I.bare,⟨λb o e n hb hx=> ?_,λb o e n hb hx=> ?_,I.base.free,λb o e hx=> ?_,I.base.tups,I.base.frzs,I.base.tbls⟩,⟨m,hn.sameBut hs (Ne.symm (cne x c hc)),λj y v' e1 e2 e3=> ?_⟩,λy c' e=> ?_,I.free,I.Fb,λp hp=> ?_,tracked ⟨oc,hoc,I.Fb x c hc⟩ hs,by simpa using I.len⟩ ⟨c,hs,.inr hc⟩
  ·exact (hs.2 b (Nat.ne_of_lt (Nat.lt_of_lt_of_le (Heap.lt_size e) (I.ok.cab x c hfn hc)))).trans (I.base.keep b o e n hb hx)
  ·obtain ⟨sl,e1⟩:=I.base.slot b o e n hb hx;exact ⟨sl,(hs.2 b (Nat.ne_of_lt (Nat.lt_of_lt_of_le (Heap.lt_size e) (I.ok.cab x c hfn hc)))).trans e1⟩
  ·obtain ⟨o',e1⟩:=I.base.there b o e hx;exact ⟨o',(hs.2 b (Nat.ne_of_lt (Nat.lt_of_lt_of_le (Heap.lt_size e) (I.ok.cab x c hfn hc)))).trans e1⟩
  ·by_cases hj:j=i
   ·subst hj;rw [hi] at e1;cases e1;rw [List.getElem?_set_self hiσ] at e2;cases e2;exact ⟨u,r,.inr ⟨.inl hk,c,hc,hc'⟩⟩
   ·rw [List.getElem?_set_ne (Ne.symm hj)] at e2;obtain ⟨u',r',q⟩:=hl j y v' e1 e2 e3;refine ⟨u',r',?_⟩;rcases q with q | ⟨k,c',e,z'⟩
    ·exact .inl q
    ·refine .inr ⟨k,c',e,z'.sameBut hs ?_⟩;rintro rfl;exact hj (ZAC hN e1 (I.ok.inj _ _ _ e hc ▸ hi))
  ·by_cases hcc:c'=c
   ·subst hcc;exact ⟨_,hc'⟩
   ·obtain ⟨w2,z2⟩:=I.cell y c' e;exact ⟨w2,z2.sameBut hs hcc⟩
  ·obtain ⟨e,n,ne,nf,d⟩:=I.pin p hp;refine ⟨(hs.2 p.1 ?_).trans e,n,ne,nf,d⟩;intro q;rw [q,hoc] at e;have q':oc=p.2:=Option.some.inj e;exact d w' (by rw [<-q'];exact hocd)
theorem Y6 {M:Model} {A:Around} {E:Value->Shared->Prop} {v:V} (I:Inv X pins σ H s) (hN:X.N.Nodup) (hi:X.N[i]? =some x) (hx:Loc X.env.scope x) (r:RelV v u)
  (h:∀s',Inv X pins (σ.set i (some v)) H s'->Q () s') (hf:X.fn x=true∨X.env.scope.names.lookup x=some .local:=by first | exact .inl rfl | exact .inr rfl | assumption):wpAny M A (storeName X.env x u) Q E s:=
 ZBT I hN hi hx r (λs' I' _=>h s' I') hf
theorem Inv.call' {s':Shared} (I:Inv X pins σ H s) (ho:s'.os=s.os) (u:Un (frs X.stack) ch H H' s.heap s'.heap) (hok:HOk X.prog X.w H' s'.heap) (hg:AllBare s'.gens)
  (hch:∀b∈ch,(b∈X.ex∨X.s₀.heap.objs.size<=b)/\b≠X.env.locals/\(∀x c,X.env.cells.lookup x=some c->c≠b)/\∀p∈X.pn++pins,p.1≠b):Inv X pins σ H' s':=by
 obtain ⟨h',g',d',t',o'⟩:=s';have e:o'=s.os:=ho;subst e;exact I.call (g':=g') (t':=t') (d':=d') u hok hg hch
end
abbrev XK:=Value->Option Addr->Hp->Prop
abbrev St:=List (Option V)
variable {σ:St}
abbrev VK:=V->Hp->Prop
abbrev TE:=St->Hp->VK->Prop
variable {t:TE}
abbrev TT:=St->Hp->(Bool->Hp->Prop)->Prop
abbrev TA:=St->Hp->(List V->Hp->Prop)->Prop
structure Ends where
 nx:St->Hp->Prop
 rt:VK
 bk:St->Hp->Prop:=λ_ _=>False
 ct:St->Hp->Prop:=λ_ _=>False
abbrev TS:=Ends->St->Hp->Prop
def EP (X:Cx) (pins:List (Addr×Obj)) (σ:St) (Q:VK) (u:Value) (s':Shared):Prop:=∃v H',Inv X pins σ H' s'/\RelV v u/\Q v H'
def TP (X:Cx) (pins:List (Addr×Obj)) (σ:St) (Q:Bool->Hp->Prop) (b:Bool) (s':Shared):Prop:=∃H',Inv X pins σ H' s'/\Q b H'
def AP (X:Cx) (pins:List (Addr×Obj)) (σ:St) (Q:List V->Hp->Prop) (us:List Value) (s':Shared):Prop:=∃vs H',Inv X pins σ H' s'/\Vals vs us/\Q vs H'
def SP (X:Cx) (pins:List (Addr×Obj)) (D:Ends) (f:Flow) (s':Shared):Prop:=
 match f with
 | .next=>∃σ' H',Inv X pins σ' H' s'/\D.nx σ' H'
 | .brk=>∃σ' H',Inv X pins σ' H' s'/\D.bk σ' H'
 | .cont=>∃σ' H',Inv X pins σ' H' s'/\D.ct σ' H'
 | .ret u=>∃v σ' H',Inv X pins σ' H' s'/\RelV v u/\D.rt v H'
def PE (X:Cx) (e:Expr) (t:TE):Prop:=
 ∀(pins:List (Addr×Obj)) (s:Shared) (σ:St) (H:Hp) (Q:VK),Inv X pins σ H s->t σ H Q->wpAny (model X.prog X.w) X.A (eval e X.env) (EP X pins σ Q) X.xe s
def PT (X:Cx) (e:Expr) (t:TT):Prop:=
 ∀(pins:List (Addr×Obj)) (s:Shared) (σ:St) (H:Hp) (Q:Bool->Hp->Prop),Inv X pins σ H s->t σ H Q->wpAny (model X.prog X.w) X.A (isTrue e X.env (eval e X.env)) (TP X pins σ Q) X.xe s
def PW (X:Cx) (e:Expr) (t:TT):Prop:=
 ∀(whole:Sem Value) (pins:List (Addr×Obj)) (s:Shared) (σ:St) (H:Hp) (Q:Bool->Hp->Prop),Inv X pins σ H s->t σ H Q->wpAny (model X.prog X.w) X.A (isTrue e X.env whole) (TP X pins σ Q) X.xe s
theorem PW.pt {t:TT} (h:PW X e t):PT X e t:=h _
def PA (X:Cx) (es:List Expr) (t:TA):Prop:=
 ∀(pos:Pos) (pins:List (Addr×Obj)) (s:Shared) (σ:St) (H:Hp) (Q:List V->Hp->Prop),Inv X pins σ H s->t σ H Q->wpAny (model X.prog X.w) X.A (spliced (backTo pos (starEach es X.env))) (AP X pins σ Q) X.xe s
def PS (X:Cx) (st:Stmt) (t:TS):Prop:=
 ∀(pins:List (Addr×Obj)) (s:Shared) (σ:St) (H:Hp) (D:Ends),Inv X pins σ H s->t D σ H->wpAny (model X.prog X.w) X.A (exec st X.env) (SP X pins D) X.xe s
def PSs (X:Cx) (st:List Stmt) (t:TS):Prop:=
 ∀(pins:List (Addr×Obj)) (s:Shared) (σ:St) (H:Hp) (D:Ends),Inv X pins σ H s->t D σ H->wpAny (model X.prog X.w) X.A (execs st X.env) (SP X pins D) X.xe s
theorem thn {α:Type} {t:Sem α} {Q Q':α->Shared->Prop} {M:Model} (h:wpAny M A t Q E s) (hQ:∀a s,Q a s->Q' a s):wpAny M A t Q' E s:=wpAny_mono h hQ λ_ _ x=>x
section
variable {X:Cx}
theorem bin {a b:Expr} {ta tb:TE} (ha:PE X a ta) (hb:PE X b tb) {R:V->V->Hp->Prop} (I:Inv X pins σ H s) (h:ta σ H λx H1=>tb σ H1 λy H2=>R x y H2)
  {α:Type} {Q:α->Shared->Prop} {f:Value->Value->Sem α}
  (hf:∀v u s2 x y H2,Inv X pins σ H2 s2->RelV x v->RelV y u->R x y H2->wpAny (model X.prog X.w) X.A (f v u) Q X.xe s2):
  wpAny (model X.prog X.w) X.A (eval a X.env) (λv s₁=>wpAny (model X.prog X.w) X.A (eval b X.env) (λu s₂=>wpAny (model X.prog X.w) X.A (f v u) Q X.xe s₂) X.xe s₁) X.xe s:=by
 refine thn (ha pins s σ H _ I h) λv s1 ⟨x,H1,I1,r1,q1⟩=> ?_
 refine thn (hb pins s1 σ H1 _ I1 q1) λu s2 ⟨y,H2,I2,r2,q2⟩=> ?_
 exact hf v u s2 x y H2 I2 r1 r2 q2
def tVar (i:Nat):TE:=λσ H Q=>∃v,σ[i]? =some (some v)/\Q v H
def tC (v:V):TE:=λ_ H Q=>Q v H
theorem ZDh {pos:Pos} (hN:X.N[i]? =some x) (hv:Vis X.env.scope x) (hd:(x == ("__debug__":Str))=false:=by decide) (hcd:(x == ("__classdict__":Str))=false:=by decide):PE X (.Name x pos) (tVar i):=by
 intro pins s σ H Q I h;obtain ⟨v,e,h⟩:=h;obtain ⟨m,hn,hl⟩:=I.loc;obtain ⟨u,r,l⟩:=hl i x v hN e hv;have fin:EP X pins σ Q u s:=⟨v,H,I,r,h⟩;rcases l with ⟨hk,hm⟩ | ⟨hk,c,hc,hcell⟩
 ·exact wpAny_Name (wpAny_loadName_local I.ok.kind hk hn hm fin) hd
 ·rcases hk with hk | hk
  ·exact wpAny_Name (wpAny_loadName_cell I.ok.kind hk hc hcell fin) hd
  ·exact wpAny_Name (wpAny_loadName_free I.ok.kind hk hc hcell fin hcd) hd
theorem ZCy {i j pos}:PE X (.Constant (.int i) j pos) (tC (.int i)):=λ_ _ _ H _ I h=>wpAny_Constant_int ⟨.int i,H,I.tok _,⟨_,rfl⟩,h⟩
theorem ZEH {b j pos}:PE X (.Constant (.bool b) j pos) (tC (.bl b)):=λ_ _ _ H _ I h=>Constant_bool ⟨.bl b,H,I,rfl,h⟩
theorem ZBx {j pos}:PE X (.Constant .none j pos) (tC .non):=λ_ _ _ H _ I h=>Constant_none ⟨.non,H,I,rfl,h⟩
theorem ZCe {x j pos}:PE X (.Constant (.str x) j pos) (tC (.str x)):=λ_ _ _ H _ I h=>Calls.Constant_str ⟨.str x,H,I.tok _,⟨_,rfl⟩,h⟩
def Gl (X:Cx) (x:Str):Prop:=X.env.kindOf x=some .globalImplicit
theorem Zd {E:Value->Shared->Prop} {pos:Pos} {Q:Value->Shared->Prop} (I:Inv X pins σ H s) (hg:Gl X x) (hm:X.mg x=some u) (h:Q u s)
  (hd:(x == ("__debug__":Str))=false:=by decide):wpAny (model X.prog X.w) X.A (eval (.Name x pos) X.env) Q E s:=
 Calls.Name_function_global I.ok.kind hg (Calls.loadGlobal_global (by rw [I.ok.glob];exact I.mod.glob.keeps I.bk) hm h) hd
theorem Lr {E:Value->Shared->Prop} {pos:Pos} {Q:Value->Shared->Prop} (I:Inv X pins σ H s) (hg:Gl X x) (hm:X.mg x=none) (hv:bootBuiltins x=some u) (h:Q u s)
  (hn:x≠"__name__":=by decide) (hd:(x == ("__debug__":Str))=false:=by decide):wpAny (model X.prog X.w) X.A (eval (.Name x pos) X.env) Q E s:=by
 obtain ⟨mb,h1,h2⟩:=I.mod.blt;exact Calls.Name_function_global I.ok.kind hg (Calls.loadGlobal_builtin (by rw [I.ok.glob];exact I.mod.glob.keeps I.bk) hm (by rw [I.ok.blt];exact h1.keeps I.bk) ((h2 x hn).trans hv) h) hd
theorem ZFm {v:V} {pos:Pos} (hg:Gl X x) (hm:X.mg x=some u) (r:RelV v u) (hd:(x == ("__debug__":Str))=false:=by decide):PE X (.Name x pos) (tC v):=
 λ_ _ _ H _ I h=>Zd I hg hm ⟨v,H,I,r,h⟩ hd
theorem ZE1 {v:V} {pos:Pos} (hg:Gl X x) (hm:X.mg x=none) (hv:bootBuiltins x=some u) (r:RelV v u) (hn:x≠"__name__":=by decide) (hd:(x == ("__debug__":Str))=false:=by decide):PE X (.Name x pos) (tC v):=
 λ_ _ _ H _ I h=>Lr I hg hm hv ⟨v,H,I,r,h⟩ hn hd
variable {a b:Expr} {ta tb:TE} {pos:Pos}
def PC (X:Cx) (op:CmpOp) (a b:Expr) (t:TE):Prop:=
 ∀(pins:List (Addr×Obj)) (s:Shared) (σ:St) (H:Hp) (Q:VK),Inv X pins σ H s->t σ H Q->
  wpAny (model X.prog X.w) X.A (eval a X.env) (λv s₁=>wpAny (model X.prog X.w) X.A (eval b X.env) (λu s₂=>wpAny (model X.prog X.w) X.A (compareOp op v u) (EP X pins σ Q) X.xe s₂) X.xe s₁) X.xe s
theorem nobehind (b:Expr) (h:op≠ .In) (h2:op≠ .NotIn):behindInMarks op b=false:=by
 have e1:(op == CmpOp.In)=false:=by cases op <;> first | rfl | exact absurd rfl h
 have e2:(op == CmpOp.NotIn)=false:=by cases op <;> first | rfl | exact absurd rfl h2
 cases b <;> simp [behindInMarks,e1,e2]
def tB (t:TE):TT:=λσ H Q=>t σ H λx H1=>∃c,x=.bl c/\Q c H1
theorem pt_cmp (h:PC X op a b t) (h1:behindInMarks op b=false:=by first | exact nobehind _ (by decide) (by decide) | rfl):PT X (.Compare a [op] [b] pos) (tB t):=by intro pins s σ H Q I hw;refine wpAny_isTrue_Compare1 (thn (h pins s σ H _ I hw) λv s1 h1=>thn h1 λu s2 h2=>thn h2 λc s3 ⟨x,H1,I1,r1,q1⟩=> ?_) h1;obtain ⟨d,rfl,q⟩:=q1;cases r1;exact wpAny_truthy_bool ⟨H1,I1,q⟩
theorem ZF2 (h:PE X e t) (he:∀whole,isTrue e X.env whole=(do let v<-whole;standAt e.pos;holding [v] (truthy v)):=by intro _;rfl):PT X e (tB t):=by intro pins s σ H Q I hw;refine isTrue_plain (thn (h pins s σ H _ I hw) λv s1 ⟨x,H1,I1,r1,q1⟩=> ?_) (he _);obtain ⟨d,rfl,q⟩:=q1;cases r1;exact wpAny_truthy_bool ⟨H1,I1,q⟩
variable {tA tB':TT} {rest:List Expr}
def tAnd (t u:TT):TT:=λσ H Q=>t σ H λc H1=>if c=true then u σ H1 Q else Q false H1
def tOr (t u:TT):TT:=λσ H Q=>t σ H λc H1=>if c=true then Q true H1 else u σ H1 Q
def tNot (t:TT):TT:=λσ H Q=>t σ H λc H1=>Q (!c) H1
theorem ZB5 (ha:PT X a tA):PW X (.BoolOp .And [a] pos) tA:=by
 intro wh pins s σ H Q I h;refine isTrue_and (thn (ha pins s σ H Q I h) λc s1 e=> ?_);cases c with
 | true=>exact isTrue_and_nil e
 | false=>exact e
theorem ZEC (ha:PT X a tA):PW X (.BoolOp .Or [a] pos) tA:=by
 intro wh pins s σ H Q I h;refine isTrue_or (thn (ha pins s σ H Q I h) λc s1 e=> ?_);cases c with
 | false=>exact isTrue_or_nil e
 | true=>exact e
theorem ZB4 (ha:PT X a tA) (hb:PW X (.BoolOp .And (b::rest) pos) tB'):PW X (.BoolOp .And (a::b::rest) pos) (tAnd tA tB'):=by
 intro wh pins s σ H Q I h;refine isTrue_and (thn (ha pins s σ H _ I h) λc s1 ⟨H1,I1,q1⟩=> ?_);cases c with
 | true=>exact hb wh pins s1 σ H1 Q I1 q1
 | false=>exact ⟨H1,I1,q1⟩
theorem ZCH (ha:PT X a tA) (hb:PW X (.BoolOp .Or (b::rest) pos) tB'):PW X (.BoolOp .Or (a::b::rest) pos) (tOr tA tB'):=by
 intro wh pins s σ H Q I h;refine isTrue_or (thn (ha pins s σ H _ I h) λc s1 ⟨H1,I1,q1⟩=> ?_);cases c with
 | true=>exact ⟨H1,I1,q1⟩
 | false=>exact hb wh pins s1 σ H1 Q I1 q1
theorem ZEf (ha:PT X a tA):PT X (.UnaryOp .Not a pos) (tNot tA):=by intro pins s σ H Q I h;exact isTrue_not (ha pins s σ H (λc H1=>Q (!c) H1) I h)
def ZDD (ta tb:TE):TE:=λσ H Q=>ta σ H λx H1=>∃c,x=.bl c/\if c=true then tb σ H1 Q else Q (.bl false) H1
def ZFt (ta:TE):TE:=λσ H Q=>ta σ H λx H1=>∃c,x=.bl c/\Q (.bl (!c)) H1
theorem ZGL {op} (h:PE X a t):PE X (.BoolOp op [a] pos) t:=λpins s σ H Q I hw=>BoolOp_one (h pins s σ H Q I hw)
theorem ZEv (ha:PE X a ta) (hb:PE X (.BoolOp .And (b::rest) pos) tb):PE X (.BoolOp .And (a::b::rest) pos) (ZDD ta tb):=by
 intro pins s σ H Q I h;refine BoolOp_and (thn (ha pins s σ H _ I h) λv s1 ⟨x,H1,I1,r1,q1⟩=> ?_);obtain ⟨c,rfl,q1⟩:=q1;cases r1;refine wpAny_truthy_bool ?_;cases c with
 | true=>exact hb pins s1 σ H1 Q I1 q1
 | false=>exact ⟨.bl false,H1,I1,rfl,q1⟩
theorem ZFG (ha:PE X a ta):PE X (.UnaryOp .Not a pos) (ZFt ta):=by intro pins s σ H Q I h;refine UnaryOp_ (thn (ha pins s σ H _ I h) λv s1 ⟨x,H1,I1,r1,q1⟩=> ?_);obtain ⟨c,rfl,q1⟩:=q1;cases r1;exact not_of (wpAny_truthy_bool ⟨.bl (!c),H1,I1,rfl,q1⟩)
end
def SqL (K:PySem.W.Frag) (H:Hp) (a:Addr) (xs:List V):Prop:=
 Rd H a (.lst xs)∨
  ∃(o:Obj) (its:Array Value) (n:Nat),K.lookup a=some o/\o.cls=.type "list"/\o.dict=none/\o.data=.seq its n/\its.size<=sizeLine/\Vals xs its.toList
def SqT (K:PySem.W.Frag) (H:Hp) (a:Addr) (xs:List V):Prop:=
 Rd H a (.tup xs)∨
  ∃(o:Obj) (its:Array Value) (n:Nat),K.lookup a=some o/\o.cls=.type "tuple"/\o.data=.seq its n/\its.size<=sizeLine/\Vals xs its.toList
def absV:Value->Option V
 | .none=>some .non
 | .bool b=>some (.bl b)
 | .int i _=>some (.int i)
 | .str x _=>some (.str x)
 | .bytes b _=>some (.byt b)
 | .float b _=>some (.flt b)
 | .ref a=>some (.ref a)
 | .type n=>some (.ty n)
 | _=>none
theorem RelV.abs {x:V} (r:RelV x u):absV u=some x:=by
 cases x with
 | non=>cases r;rfl
 | bl _=>cases r;rfl
 | int _=>obtain ⟨t,rfl⟩:=r;rfl
 | str _=>obtain ⟨t,rfl⟩:=r;rfl
 | byt _=>obtain ⟨t,rfl⟩:=r;rfl
 | flt _=>obtain ⟨t,rfl⟩:=r;rfl
 | ref _=>cases r;rfl
 | ty _=>cases r;rfl
theorem RelV.inj {x y:V} (r:RelV x u) (q:RelV y u):x=y:=Option.some.inj (r.abs.symm.trans q.abs)
theorem Vals.inj:∀{xs ys:List V} {us:List Value},Vals xs us->Vals ys us->xs=ys
 | _,_,_,.nil,.nil=>rfl
 | _,_,_,.cons r t,.cons r' t'=>by rw [r.inj r',Vals.inj t t']
section
variable {X:Cx} {pins:List (Addr×Obj)} {σ:St} {H:Hp} {s:Shared} {a:Addr} {xs ys:List V}
theorem SqL.of (h:H a=some (.lst xs)):SqL K H a xs:=.inl (.inl h)
theorem SqT.of (h:H a=some (.tup xs)):SqT K H a xs:=.inl (.inl h)
theorem Inv.list (I:Inv X pins σ H s) (h:SqL X.K H a xs):∃its:List Value,Vals xs its/\PlainL s.heap a its.toArray/\xs.length<=sizeLine:=by
 rcases h with h | ⟨o,its,n,hk,hc,hd,hs,hz,r⟩
 ·obtain ⟨z,its,n,r,e⟩:=h.ok I.hok;exact ⟨its,r,⟨_,n,e,rfl,rfl,rfl⟩,z⟩
 ·refine ⟨its.toList,r,⟨o,n,I.kIn a o hk,hc,hd,by simpa using hs⟩,?_⟩;have e:=r.length;simp only [Array.length_toList] at e;omega
theorem Inv.tuple (I:Inv X pins σ H s) (h:SqT X.K H a xs):∃its:List Value,Vals xs its/\IsTup s.heap a its.toArray/\xs.length<=sizeLine:=by
 rcases h with h | ⟨o,its,n,hk,hc,hs,hz,r⟩
 ·obtain ⟨z,its,r,p⟩:=h.ok I.hok;exact ⟨its,r,p,z⟩
 ·refine ⟨its.toList,r,⟨o,I.kIn a o hk,hc,n,by simpa using hs⟩,?_⟩;have e:=r.length;simp only [Array.length_toList] at e;omega
theorem Inv.Vp (I:Inv X pins σ H s) (h:SqL X.K H a xs) (h':SqL X.K H a ys):xs=ys:=by
 obtain ⟨its,r,⟨o,n,e,_,_,d⟩,_⟩:=I.list h;obtain ⟨its',r',⟨o',n',e',_,_,d'⟩,_⟩:=I.list h';rw [e] at e';cases e';rw [d] at d';injection d' with d1 _
 have:its=its':=by simpa using congrArg Array.toList d1
 subst this;exact r.inj r'
theorem Inv.Uj (I:Inv X pins σ H s) (h:SqT X.K H a xs) (h':SqT X.K H a ys):xs=ys:=by
 obtain ⟨its,r,⟨o,e,_,n,d⟩,_⟩:=I.tuple h;obtain ⟨its',r',⟨o',e',_,n',d'⟩,_⟩:=I.tuple h';rw [e] at e';cases e';rw [d] at d';injection d' with d1 _
 have:its=its':=by simpa using congrArg Array.toList d1
 subst this;exact r.inj r'
end
abbrev Cx.wish (X:Cx) (E:Value->Shared->Prop):Cx:={X with xe:=E}
abbrev Cx.nox (X:Cx):Cx:=X.wish λ_ _=>False
theorem Cx.Ok.wish (ok:X.Ok) (E:Value->Shared->Prop):(X.wish E).Ok:=
 ⟨ok.mod,ok.kind,ok.glob,ok.blt,ok.above,ok.inj,ok.has,ok.cab,ok.hd,ok.frames,ok.stk,ok.exf,ok.bs,ok.bsz,ok.noex,ok.exfs,ok.funs,ok.frf⟩
theorem Cx.Ok.unwish (ok:(X.wish E).Ok):X.Ok:=
 ⟨ok.mod,ok.kind,ok.glob,ok.blt,ok.above,ok.inj,ok.has,ok.cab,ok.hd,ok.frames,ok.stk,ok.exf,ok.bs,ok.bsz,ok.noex,ok.exfs,ok.funs,ok.frf⟩
section
variable {X:Cx} {pins:List (Addr×Obj)} {σ:St} {H:Hp} {s:Shared} {E:Value->Shared->Prop}
theorem Inv.wish (I:Inv X pins σ H s) (E:Value->Shared->Prop):Inv (X.wish E) pins σ H s:=⟨I.ok.wish E,I.os,I.bare,I.base,I.loc,I.cell,I.free,I.Fb,I.pin,I.hok,I.len⟩
theorem Inv.unwish (I:Inv (X.wish E) pins σ H s):Inv X pins σ H s:=⟨I.ok.unwish,I.os,I.bare,I.base,I.loc,I.cell,I.free,I.Fb,I.pin,I.hok,I.len⟩
theorem SP.unwish {D:Ends} {f:Flow} {s':Shared} (h:SP (X.wish E) pins D f s'):SP X pins D f s':=by
 cases f with
 | next=>obtain ⟨σ',H',I,q⟩:=h;exact ⟨σ',H',I.unwish,q⟩
 | brk=>obtain ⟨σ',H',I,q⟩:=h;exact ⟨σ',H',I.unwish,q⟩
 | cont=>obtain ⟨σ',H',I,q⟩:=h;exact ⟨σ',H',I.unwish,q⟩
 | ret u=>obtain ⟨v,σ',H',I,r,q⟩:=h;exact ⟨v,σ',H',I.unwish,r,q⟩
theorem PE.nox (h:PE X.nox e t):PE X e t:=λpins s σ H Q I hw=>
 wpAny_mono (h pins s σ H Q (I.wish _) hw) (λ_ _ ⟨v,H',I',r,q⟩=>⟨v,H',I'.unwish,r,q⟩) λ_ _ z=>False.elim z
theorem PT.nox {t:TT} (h:PT X.nox e t):PT X e t:=λpins s σ H Q I hw=>
 wpAny_mono (h pins s σ H Q (I.wish _) hw) (λ_ _ ⟨H',I',q⟩=>⟨H',I'.unwish,q⟩) λ_ _ z=>False.elim z
theorem PSs.nox {st:List Stmt} {t:TS} (h:PSs X.nox st t):PSs X st t:=λpins s σ H D I hw=>
 wpAny_mono (h pins s σ H D (I.wish _) hw) (λ_ _ q=>q.unwish) λ_ _ z=>False.elim z
end
section
variable {X:Cx} {st:Stmt} {rest:List Stmt} {t u:TS} {e:Expr} {te:TE} {pos:Pos}
def ZE9:TS:=λD σ H=>D.nx σ H
def tSeq (t u:TS):TS:=λD σ H=>t {D with nx:=u D} σ H
theorem ZFZ:PSs X [] ZE9:=λ_ _ σ H _ I h=>wpAny_execs_nil ⟨σ,H,I,h⟩
theorem ZGI (h1:PS X st t) (h2:PSs X rest u):PSs X (st::rest) (tSeq t u):=by
 intro pins s σ H D I h;refine wpAny_execs_cons (thn (h1 pins s σ H {D with nx:=u D} I h) λf s1 q=> ?_);cases f with
 | next=>
  obtain ⟨σ',H',I',q⟩:=q;exact h2 pins s1 σ' H' D I' q
 | ret v=>exact q
 | brk=>exact q
 | cont=>exact q
theorem ZGO (h1:PS X st t):PSs X [st] t:=by
 intro pins s σ H D I h;refine wpAny_execs_cons (thn (h1 pins s σ H D I h) λf s1 q=> ?_);cases f with
 | next=>exact wpAny_execs_nil q
 | ret v=>exact q
 | brk=>exact q
 | cont=>exact q
theorem Inv.quiet (I:Inv X pins σ H s):interactive X.env=false:=by simp [interactive,I.ok.kind]
def ZCS (te:TE):TS:=λD σ H=>te σ H λ_ H1=>D.nx σ H1
theorem ZC6 (he:PE X e te) (hs:swapsWith e none pos.line X.env=pure false:=by rfl):PS X (.Expr e pos) (ZCS te):=by intro pins s σ H D I h;exact wpAny_Expr_any (thn (he pins s σ H _ I h) λv s1 ⟨x,H1,I1,r1,q1⟩=>⟨σ,H1,I1,q1⟩) I.quiet hs
def tRet (te:TE):TS:=λD σ H=>te σ H D.rt
theorem ZF3 (he:PE X e te):PS X (.Return (some e) pos) (tRet te):=by intro pins s σ H D I h;exact wpAny_Return_some (thn (he pins s σ H _ I h) λv s1 ⟨x,H1,I1,r1,q1⟩=>⟨x,σ,H1,I1,r1,q1⟩)
def tIfS (c:TT) (t u:TS):TS:=λD σ H=>c σ H λb H1=>if b=true then t D σ H1 else u D σ H1
theorem ZGE {c:Expr} {a b:List Stmt} {tc:TT} (hc:PT X c tc) (ha:PSs X a t) (hb:PSs X b u):PS X (.If c a b pos) (tIfS tc t u):=by
 intro pins s σ H D I h;refine wpAny_If (thn (hc pins s σ H _ I h) λd s1 ⟨H1,I1,q1⟩=> ?_);cases d with
 | true=>exact ha pins s1 σ H1 D I1 q1
 | false=>exact hb pins s1 σ H1 D I1 q1
end
abbrev TG:=V->St->Hp->(St->Hp->Prop)->Prop
abbrev TGs:=List V->St->Hp->(St->Hp->Prop)->Prop
def PG (X:Cx) (target:Expr) (t:TG):Prop:=
 ∀(pins:List (Addr×Obj)) (s:Shared) (σ:St) (H:Hp) (v:V) (u:Value) (Q:St->Hp->Prop),Inv X pins σ H s->RelV v u->t v σ H Q->
  wpAny (model X.prog X.w) X.A (assign target X.env u) (λ_ s'=>∃σ' H',Inv X pins σ' H' s'/\Q σ' H') X.xe s
def PGs (X:Cx) (ts:List Expr) (t:TGs):Prop:=
 ∀(pins:List (Addr×Obj)) (s:Shared) (σ:St) (H:Hp) (vs:List V) (us:List Value) (Q:St->Hp->Prop),Inv X pins σ H s->Vals vs us->t vs σ H Q->
  wpAny (model X.prog X.w) X.A (assignInOrder ((assignEach ts X.env).map (·.2)) us) (λ_ s'=>∃σ' H',Inv X pins σ' H' s'/\Q σ' H') X.xe s
section
variable {X:Cx} {pos:Pos}
def ZA6 (i:Nat):TG:=λv σ H Q=>Q (σ.set i (some v)) H
theorem ZFP (hN:X.N.Nodup) (hi:X.N[i]? =some x) (hx:Loc X.env.scope x) (hf:X.fn x=true∨X.env.scope.names.lookup x=some .local:=by first | exact .inl rfl | exact .inr rfl | assumption):PG X (.Name x pos) (ZA6 i):=by intro pins s σ H v u Q I r h;exact wpAny_assign_Name (Y6 I hN hi hx r (λs' I'=>⟨_,H,I',h⟩) hf)
def gNil:TGs:=λvs σ H Q=>vs= []/\Q σ H
def ZFa (t:TG) (u:TGs):TGs:=λvs σ H Q=>∃v r,vs=v::r/\t v σ H λσ' H'=>u r σ' H' Q
theorem ZCk:PGs X [] gNil:=by intro pins s σ H vs us Q I r h;obtain ⟨e,h⟩:=h;subst e;cases r;exact assignInOrder_nil ⟨σ,H,I,h⟩
theorem ZCF {es:List Expr} {t:TG} {u:TGs} (h1:PG X e t) (h2:PGs X es u)
  (hs:(assignEach (e::es) X.env).map (·.2)=assign e X.env::(assignEach es X.env).map (·.2):=by rfl):PGs X (e::es) (ZFa t u):=by
 intro pins s σ H vs us Q I r h;obtain ⟨v,vr,e1,h⟩:=h;subst e1;cases r with
 | cons r rr=>
  rw [hs];refine assignInOrder_cons (thn (h1 pins s σ H _ _ _ I r h) λ_ s1 ⟨σ1,H1,I1,q1⟩=> ?_);exact h2 pins s1 σ1 H1 _ _ Q I1 rr q1
def gTup (K:PySem.W.Frag) (n:Nat) (t:TGs):TG:=λv σ H Q=>∃a xs,v=.ref a/\SqT K H a xs/\xs.length=n/\t xs σ H Q
theorem ZCB {es:List Expr} {k:Nat} {t:TGs} {n:Nat} (hc:X.calm=true) (h:PGs X es t)
  (hn:(assignEach es X.env).length=n:=by rfl) (hst:(assignEach es X.env).findIdx? (·.1)=none:=by rfl):PG X (.Tuple es k pos) (gTup X.K n t):=by
 intro pins s σ H v u Q I r hw;obtain ⟨a,xs,e1,hq,hl,hw⟩:=hw;subst e1;cases r;obtain ⟨its,rv,ht,hz⟩:=I.tuple hq;refine assign_Tuple_tuple (I.ok.hd hc) ht (by simp [hn,<-hl,rv.length]) hst λh' hx=> ?_
 have I1:Inv X pins σ H {s with heap:=h'}:=I.kept (t':=s.toks) λb o e=>hx b o (Nat.ne_of_lt (Heap.lt_size e)) e
 exact h pins _ σ H xs _ Q I1 (by simpa using rv) hw
def Wq (te:TE) (g:TG):TS:=λD σ H=>te σ H λx H1=>g x σ H1 D.nx
theorem ZED {te:TE} {g:TG} (he:PE X e te) (hg:PG X tg g) (hs:swapsWithSole [tg] e pos.line X.env=pure false:=by rfl) (hw:swappedStores [tg] e X.env=pure none:=by rfl)
  (h1:(assignEach [tg] X.env).map (·.2)= [assign tg X.env]:=by rfl):PS X (.Assign [tg] e pos) (Wq te g):=by
 intro pins s σ H D I h;refine wpAny_Assign_stores (thn (he pins s σ H _ I h) λv s1 ⟨x,H1,I1,r1,q1⟩=> ?_) hs hw;rw [h1];exact thn (hg pins s1 σ H1 x v _ I1 r1 q1) λ_ s2 q=>q
theorem ZCo {te:TE} {pos':Pos} (hN:X.N.Nodup) (hi:X.N[i]? =some x) (hx:Loc X.env.scope x) (he:PE X e te) (hs:swapsWith e (some (.Name x pos')) pos.line X.env=pure false:=by rfl) (hf:X.fn x=true∨X.env.scope.names.lookup x=some .local:=by first | exact .inl rfl | exact .inr rfl | assumption):
  PS X (.Assign [.Name x pos'] e pos) (Wq te (ZA6 i)):=by
 intro pins s σ H D I h;refine wpAny_Assign_Name (thn (he pins s σ H _ I h) λv s1 ⟨y,H1,I1,r1,q1⟩=> ?_) hs;exact Y6 I1 hN hi hx r1 (λs2 I2=>⟨_,H1,I2,q1⟩) hf
end
section
variable {X:Cx} {pos:Pos}
end
structure It where
 go:Nat->Hp->Prop
 yld:Nat->Hp->V->Hp->Prop
 stop:Nat->Hp->Prop
def FpOk (X:Cx) (pins:List (Addr×Obj)) (H:Hp) (b:Addr):Prop:=
 H b=none/\b≠X.env.locals/\b ∉ X.fs/\(b∈X.ex∨X.s₀.heap.objs.size<=b)/\(∀x c,X.env.cells.lookup x=some c->c≠b)/\∀p∈X.pn++pins,p.1≠b
theorem Inv.Kh {H':Hp} (I:Inv X pins σ H s) (hb:s.heap.objs.size<=b) (hn:H' b=none):FpOk X pins H' b:=by
 refine ⟨hn,Nat.ne_of_gt (Nat.lt_of_lt_of_le I.lt hb),I.nofs hb,.inr (Nat.le_trans I.sz hb),λx c e z=> ?_,λp hp z=> ?_⟩
 ·obtain ⟨v,q⟩:=I.cell x c e;exact absurd (Nat.lt_of_lt_of_le q.lt (by rw [z];exact hb)) (Nat.lt_irrefl _)
 ·exact absurd (Nat.lt_of_lt_of_le (Heap.lt_size (I.pin p hp).1) (by rw [z];exact hb)) (Nat.lt_irrefl _)
structure Turn (P:Program) (w:World) (K:PySem.W.Frag) (tg:Expr) (J:It) (fp:List Addr) (it:Addr) (tn:Nat->Heap->Prop):Prop where
 mem:it∈fp
 obj:∀i h,tn i h->∀b∈fp,∃o,h.get? b=some o/\∀v,o.data≠ .cell v
 keep:∀i h h',tn i h->(∀b∈fp,∀o,h.get? b=some o->h'.get? b=some o)->tn i h'
 item:∀(X:Cx),X.prog=P->X.w=w->X.K=K->X.calm=true->∀(i:Nat) (pins:List (Addr×Obj)) (s:Shared) (σ:St) (H:Hp) (E:Value->Shared->Prop),Inv X pins σ H s->(∀b∈fp,FpOk X pins H b)->tn i s.heap->J.go i H->
  wpAny (model P w) X.A (pyNext (.ref it)) (λr s1=>∃u,r=some u/\
   wpAny (model P w) X.A (letOwnedTupleGo tg (.ref it) u) (λ_ s2=>∃x H',Inv X pins σ H' s2/\RelV x u/\J.yld i H x H'/\tn (i + 1) s2.heap/\∀b∈fp,H' b=none) E s1) E s
 done:∀(X:Cx),X.prog=P->X.w=w->X.K=K->X.calm=true->∀(i:Nat) (pins:List (Addr×Obj)) (s:Shared) (σ:St) (H:Hp) (E:Value->Shared->Prop),Inv X pins σ H s->(∀b∈fp,FpOk X pins H b)->tn i s.heap->J.stop i H->
  wpAny (model P w) X.A (pyNext (.ref it)) (λr s1=>r=none/\Inv X pins σ H s1) E s
 self:∀(A:Around) (i:Nat) (s:Shared) (Q:Value->Shared->Prop) (E:Value->Shared->Prop),tn i s.heap->Q (.ref it) s->wpAny (model P w) A (pyIter (.ref it)) Q E s
abbrev TI:=St->Hp->(It->Hp->Prop)->Prop
def PIE (X:Cx) (pins:List (Addr×Obj)) (σ:St) (tg:Expr) (R:It->Hp->Prop) (itv:Value) (s2:Shared):Prop:=
 ∃(it:Addr) (fp:List Addr) (tn:Nat->Heap->Prop) (J:It) (H':Hp),itv=.ref it/\Inv X pins σ H' s2/\Turn X.prog X.w X.K tg J fp it tn/\tn 0 s2.heap/\(∀b∈fp,FpOk X pins H' b)/\R J H'
def PI (X:Cx) (tg iter:Expr) (wi:TI):Prop:=
 ∀(pins:List (Addr×Obj)) (s:Shared) (σ:St) (H:Hp) (R:It->Hp->Prop),Inv X pins σ H s->wi σ H R->
  wpAny (model X.prog X.w) X.A (eval iter X.env) (λv s1=>wpAny (model X.prog X.w) X.A (pyIter v) (PIE X pins σ tg R) X.xe s1) X.xe s
theorem Ly {M:Model} {it:Addr} {o:Obj} {n:String} {vs:Array Value} (ho:s.heap.get? it=some o) (hc:o.cls=.type n) (hd:o.data=.fields vs)
  (hn: ["enumerate","zip","dict_itemiterator","dict_reverseitemiterator","odict_iterator","itertools.zip_longest","itertools.pairwise"].contains n=false) (hQ:Q () s):wpAny M A (letOwnedTupleGo tg (.ref it) u) Q E s:=by
 unfold letOwnedTupleGo
 cases tg <;> first
  | exact wpAny_pure hQ
  | (cases u <;> first
    | exact wpAny_pure hQ
    | (
      refine wpAny_bind (wpAny_load ho ?_);rw [hc,hd];show wpAny M A (if (["enumerate","zip","dict_itemiterator","dict_reverseitemiterator","odict_iterator","itertools.zip_longest","itertools.pairwise"].contains n && vs[0]? == some (rawInt _))=true then _ else _) Q E s;rw [if_neg (by intro h;rw [hn,Bool.false_and] at h;cases h)];exact wpAny_pure hQ))
def Itl (K:PySem.W.Frag) (a:Addr):It:=
 ⟨λi H=>∃xs x,SqL K H a xs/\xs[i]? =some x,λi H x H'=>H'=H/\∀xs,SqL K H a xs->xs[i]? =some x,λi H=>∃xs,SqL K H a xs/\xs.length<=i⟩
def Itt (K:PySem.W.Frag) (a:Addr):It:=
 ⟨λi H=>∃xs x,SqT K H a xs/\xs[i]? =some x,λi H x H'=>H'=H/\∀xs,SqT K H a xs->xs[i]? =some x,λi H=>∃xs,SqT K H a xs/\xs.length<=i⟩
def Itr (lo:Int) (n:Nat):It:=⟨λi _=>i < n,λi H x H'=>H'=H/\x=.int (lo + i),λi _=>n<=i⟩
theorem ZFq (a it:Addr):Turn P w K tg (Itl K a) [it] it (λi h=>h.IsListIter it a i) where
 mem:=by simp
 obj:=λi h st b hb=>by
  have e:b=it:=by simpa using hb
  subst e;obtain ⟨o,e,c,d⟩:=st;exact ⟨o,e,λv z=>by rw [d] at z;cases z⟩
 keep:=λi h h' st k=>st.at λo e=>k it (by simp) o e
 item:=by
  intro X hP hw hK hc i pins s σ H E I hf st hg;subst hP hw hK;obtain ⟨xs,x,hq,hx⟩:=hg;obtain ⟨its,rv,p,hz⟩:=I.list hq;obtain ⟨u,hu,ru⟩:=rv.get hx;obtain ⟨f0,f1,f2,f3,f4,f5⟩:=hf it (by simp);refine wpAny_pyNext_list_item st p.isList (x:=u) (by simpa using hu) λh' st' sb=> ?_
  have I1:Inv X pins σ H {s with heap:=h'}:=I.turned (t':=s.toks) (λb o hb e=>(sb.2 b hb).trans e) f0 f1 f3 f4 f5;obtain ⟨o,e,c,d⟩:=id st';exact ⟨u,rfl,Ly (s:={s with heap:=h'}) e c d (by decide) ⟨x,H,I1,ru,⟨rfl,λys hy=>by rw [I.Vp hy hq];exact hx⟩,st',λb hb=>(hf b hb).1⟩⟩
 done:=by intro X hP hw hK hc i pins s σ H E I hf st hg;subst hP hw hK;obtain ⟨xs,hq,hx⟩:=hg;obtain ⟨its,rv,p,hz⟩:=I.list hq;obtain ⟨f0,f1,f2,f3,f4,f5⟩:=hf it (by simp);have hl:=rv.length;exact wpAny_pyNext_list_end (I.ok.hd hc) st p.isList (by simp;omega) λh' eb=>⟨rfl,I.turned (t':=s.toks) (λb o hb e=>eb b o hb e) f0 f1 f3 f4 f5⟩
 self:=λ_ _ _ _ _ st h=>wpAny_pyIter_listiter st h
theorem ZDT (a it:Addr):Turn P w K tg (Itt K a) [it] it (λi h=>h.IsTupleIter it a i) where
 mem:=by simp
 obj:=λi h st b hb=>by
  have e:b=it:=by simpa using hb
  subst e;obtain ⟨o,e,c,d⟩:=st;exact ⟨o,e,λv z=>by rw [d] at z;cases z⟩
 keep:=λi h h' st k=>st.at λo e=>k it (by simp) o e
 item:=by
  intro X hP hw hK hc i pins s σ H E I hf st hg;subst hP hw hK;obtain ⟨xs,x,hq,hx⟩:=hg;obtain ⟨its,rv,p,hz⟩:=I.tuple hq;obtain ⟨u,hu,ru⟩:=rv.get hx;obtain ⟨f0,f1,f2,f3,f4,f5⟩:=hf it (by simp)
  refine wpAny_pyNext_tuple_item st (show s.heap.IsTuple a its.toArray from p) (x:=u) (by simpa using hu) λh' st' sb=> ?_
  have I1:Inv X pins σ H {s with heap:=h'}:=I.turned (t':=s.toks) (λb o hb e=>(sb.2 b hb).trans e) f0 f1 f3 f4 f5;obtain ⟨o,e,c,d⟩:=id st';exact ⟨u,rfl,Ly (s:={s with heap:=h'}) e c d (by decide) ⟨x,H,I1,ru,⟨rfl,λys hy=>by rw [I.Uj hy hq];exact hx⟩,st',λb hb=>(hf b hb).1⟩⟩
 done:=by
  intro X hP hw hK hc i pins s σ H E I hf st hg;subst hP hw hK;obtain ⟨xs,hq,hx⟩:=hg;obtain ⟨its,rv,p,hz⟩:=I.tuple hq;obtain ⟨f0,f1,f2,f3,f4,f5⟩:=hf it (by simp);have hl:=rv.length
  exact wpAny_pyNext_tuple_end (I.ok.hd hc) st (show s.heap.IsTuple a its.toArray from p) (by simp;omega) λh' eb=>⟨rfl,I.turned (t':=s.toks) (λb o hb e=>eb b o hb e) f0 f1 f3 f4 f5⟩
 self:=λ_ _ _ _ _ st h=>wpAny_pyIter_tupleiter st h
theorem ZEt (it:Addr) (lo:Int) (n:Nat):Turn P w K tg (Itr lo n) [it] it (λi h=>IsRangeIter h it (lo + (i:Nat) * 1) ((n:Int) - (i:Nat)) 1) where
 mem:=by simp
 obj:=λi h st b hb=>by
  have e:b=it:=by simpa using hb
  subst e;exact ⟨_,st,λv z=>by have z':Data.fields _=Data.cell v:=z;cases z'⟩
 keep:=λi h h' st k=>k it (by simp) _ st
 item:=by
  intro X hP hw hK hc i pins s σ H E I hf st hg;subst hP hw hK;obtain ⟨f0,f1,f2,f3,f4,f5⟩:=hf it (by simp);have W:=Walks.range (prog:=X.prog) (w:=X.w) (I.ok.hd hc) it lo 1 n;refine W.item i s _ _ hg st λv h' tk hv st' kk=> ?_
  obtain ⟨t,rfl⟩:=hv;have I1:Inv X pins σ H {s with heap:=h',toks:=tk}:=I.turned (λb o hb e=>kk b o (by simpa using hb) e) f0 f1 f3 f4 f5;refine ⟨_,rfl,Ly (s:={s with heap:=h',toks:=tk}) (n:="range_iterator") st' rfl rfl (by decide) ⟨.int (lo + i),H,I1,⟨t,?_⟩,⟨rfl,rfl⟩,st',λb hb=>(hf b hb).1⟩⟩;rw [Int.mul_one]
 done:=by intro X hP hw hK hc i pins s σ H E I hf st hg;subst hP hw hK;obtain ⟨f0,f1,f2,f3,f4,f5⟩:=hf it (by simp);exact wpAny_pyNext_range_end (I.ok.hd hc) st (by have:n<=i:=hg;omega) λh' eb=>⟨rfl,I.turned (t':=s.toks) (λb o hb e=>eb b o hb e) f0 f1 f3 f4 f5⟩
 self:=λ_ _ _ _ _ st h=>wpAny_pyIter_rangeiter st h
section
variable {X:Cx} {tg:Expr}
def ZCi (K:PySem.W.Frag) (tl:TE):TI:=λσ H R=>tl σ H λx H1=>∃a,x=.ref a/\(∃xs,SqL K H1 a xs)/\R (Itl K a) H1
def iTup (K:PySem.W.Frag) (tl:TE):TI:=λσ H R=>tl σ H λx H1=>∃a,x=.ref a/\(∃xs,SqT K H1 a xs)/\R (Itt K a) H1
theorem Uh {l:Expr} {tl:TE} (hl:PE X l tl):PI X tg l (ZCi X.K tl):=by
 intro pins s σ H R I h;refine thn (hl pins s σ H _ I h) λv s1 ⟨x,H1,I1,r1,q1⟩=> ?_
 obtain ⟨a,e,⟨xs,hq⟩,q⟩:=q1;subst e;cases r1;obtain ⟨its,rv,p,hz⟩:=I1.list hq;refine wpAny_pyIter_list p.isList ?_;refine ⟨s1.heap.objs.size,[s1.heap.objs.size],_,_,H1,rfl,I1.kept (t':=s1.toks) λb o e=>Heap.get?_push_of_some _ e,ZFq a _,⟨_,Heap.get?_push_size _ rfl,rfl,rfl⟩,λb hb=> ?_,q⟩;have e:b=s1.heap.objs.size:=by simpa using hb
 subst e;exact I1.Kh (Nat.le_refl _) (I1.hok.fresh (Nat.le_refl _))
theorem ZDs {l:Expr} {tl:TE} (hl:PE X l tl):PI X tg l (iTup X.K tl):=by
 intro pins s σ H R I h;refine thn (hl pins s σ H _ I h) λv s1 ⟨x,H1,I1,r1,q1⟩=> ?_
 obtain ⟨a,e,⟨xs,hq⟩,q⟩:=q1;subst e;cases r1;obtain ⟨its,rv,p,hz⟩:=I1.tuple hq
 refine wpAny_pyIter_tuple (show s1.heap.IsTuple a its.toArray from p) ?_
 refine ⟨s1.heap.objs.size,[s1.heap.objs.size],_,_,H1,rfl,I1.kept (t':=s1.toks) λb o e=>Heap.get?_push_of_some _ e,ZDT a _,⟨_,Heap.get?_push_size _ rfl,rfl,rfl⟩,λb hb=> ?_,q⟩;have e:b=s1.heap.objs.size:=by simpa using hb
 subst e;exact I1.Kh (Nat.le_refl _) (I1.hok.fresh (Nat.le_refl _))
theorem ZFH {R:It->Hp->Prop} {lo hi:Int} {t u v:Tok} {tk:Nat} (I:Inv X pins σ H s) (h1: -(2 ^ 62)<=lo) (h2:lo < 2 ^ 62) (h3: -(2 ^ 62)<=hi) (h4:hi < 2 ^ 62)
  (q:R (Itr lo (hi - lo).toNat) H):wpAny (model X.prog X.w) X.A (pyIter (.ref s.heap.objs.size)) (PIE X pins σ tg R) E {s with heap:=s.heap.push {cls:=.type "range",data:=.fields #[.int lo t,.int hi u,.int 1 v]},toks:=tk}:=by
 refine wpAny_pyIter_range (IsRange.new ..) (small_one h1 h2 h3 h4) ?_;have I1:Inv X pins σ H {s with heap:=s.heap.push {cls:=.type "range",data:=.fields #[.int lo t,.int hi u,.int 1 v]},toks:=tk}:=I.kept λb o e=>Heap.get?_push_of_some _ e
 refine ⟨(s.heap.push {cls:=.type "range",data:=.fields #[.int lo t,.int hi u,.int 1 v]}).objs.size,[(s.heap.push {cls:=.type "range",data:=.fields #[.int lo t,.int hi u,.int 1 v]}).objs.size],_,_,H,rfl,
  I1.kept (t':=tk) λb o e=>Heap.get?_push_of_some _ e,ZEt _ lo (hi - lo).toNat,?_,λb hb=> ?_,q⟩
 ·have e1:lo + ((0:Nat):Int) * 1=lo:=by simp
  have e2:(((hi - lo).toNat:Nat):Int) - ((0:Nat):Int)=Builtin.Range.rangeSize lo hi 1:=by rw [rangeSize_one];split <;> omega
  show IsRangeIter _ _ (lo + ((0:Nat):Int) * 1) ((((hi - lo).toNat:Nat):Int) - ((0:Nat):Int)) 1;rw [e1,e2];exact Heap.get?_push_size _ rfl
 ·have e:b=(s.heap.push {cls:=.type "range",data:=.fields #[.int lo t,.int hi u,.int 1 v]}).objs.size:=by simpa using hb
  subst e;exact I1.Kh (Nat.le_refl _) (I1.hok.fresh (Nat.le_refl _))
def ZGH (ta:TA):TI:=λσ H R=>ta σ H λvs H1=>∃j:Int,vs= [.int j]/\ -(2 ^ 62)<=j/\j < 2 ^ 62/\R (Itr 0 j.toNat) H1
theorem ZE7 {a:Expr} {ta:TA} {p pos:Pos} (hg:Gl X "range") (hm:X.mg "range"=none) (ha:PA X [a] ta) (hs:starEach [a] X.env= [(false,eval a X.env)]:=by rfl):PI X tg (.Call (.Name "range" p) [a] [] pos) (ZGH ta):=by
 intro pins s σ H R I h;refine Call_ (Lr I hg hm boot_range (PyProof.Rows.callWith_type1 (thn (ha pos pins s σ H _ I h) λus s1 ⟨vs,H1,I1,r1,q1⟩=> ?_) hs rfl));obtain ⟨j,e,q1,q2,q⟩:=q1;subst e;cases r1 with
 | cons r rr=>
  cases rr;obtain ⟨t,rfl⟩:=r;exact call_range_1 (ZFH I1 (by omega) (by omega) q1 q2 (by simpa using q))
def tFor (wi:TI) (g:TG) (tb:TS):TS:=λD σ H=>wi σ H λJ H1=>∃W:Nat->Nat->St->Hp->Prop,(∃m,W 0 m σ H1)/\∀i m σ H,W i m σ H->
 (J.stop i H/\D.nx σ H)∨(J.go i H/\∃N:St->Hp->Prop,(∀σ' H',N σ' H'->∃m',m' < m/\W (i + 1) m' σ' H')/\∀x H',J.yld i H x H'->g x σ H' λσ2 H2=>tb {D with nx:=N,ct:=N,bk:=D.nx} σ2 H2)
def Kl (fp:List Addr) (h:Heap):List (Addr×Obj):=fp.filterMap λb=>(h.get? b).map λo=>(b,o)
theorem R5 {o:Obj} (hb:b∈fp) (e:h.get? b=some o):(b,o)∈Kl fp h:=List.mem_filterMap.mpr ⟨b,hb,by rw [e];rfl⟩
theorem ZBN {p:Addr×Obj} (hp:p∈Kl fp h):p.1∈fp/\h.get? p.1=some p.2:=by
 obtain ⟨b,hb,e⟩:=List.mem_filterMap.mp hp;cases q:h.get? b with
 | none=>rw [q] at e;cases e
 | some o=>
  rw [q] at e;have e':(b,o)=p:=Option.some.inj e;subst e';exact ⟨hb,q⟩
theorem Inv.pinned (I:Inv X pins σ H s) (hf:∀b∈fp,FpOk X pins H b) (ho:∀b∈fp,∃o,s.heap.get? b=some o/\∀v,o.data≠ .cell v):Inv X (pins++Kl fp s.heap) σ H s:=
 I.Fj λp hp=>(List.mem_append.mp hp).elim (λz=>I.pin p (List.mem_append_right _ z)) λz=>by obtain ⟨hb,e⟩:=ZBN z;obtain ⟨f0,f1,f2,_⟩:=hf p.1 hb;obtain ⟨o,e',d⟩:=ho p.1 hb;rw [e] at e';cases e';exact ⟨e,f0,f1,f2,d⟩
theorem Inv.unpinned {pl:List (Addr×Obj)} (I:Inv X (pins++pl) σ H s):Inv X pins σ H s:=I.Fj λp hp=>I.pin p (List.mem_append_right _ (List.mem_append_left _ hp))
theorem ZDX {iter:Expr} {body:List Stmt} {wi:TI} {g:TG} {tb:TS} {pos:Pos} (hp:PassesOwn (model X.prog X.w) X.A X.env X.xe) (hc:X.calm=true) (hi:PI X tg iter wi) (hg:PG X tg g) (hb:PSs X body tb)
  (hs:∀x,foldedSetIterable iter X.env x=pure x:=by intro _;rfl):PS X (.For tg iter body [] pos) (tFor wi g tb):=by
 intro pins s σ H D I h;refine wpAny_For (thn (hi pins s σ H _ I h) λv s1 h1=>thn h1 λitv s2 h2=> ?_) hs;obtain ⟨it,fp,tn,J,H2,e,I2,T,st2,f2,W,⟨m0,w0⟩,turn⟩:=h2;subst e;have stat:∀{H':Hp},(∀b∈fp,H' b=none)->∀b∈fp,FpOk X pins H' b:=λhn b hb=>⟨hn b hb,(f2 b hb).2⟩
 refine codeAny_forLoop_any (λn s'=>∃i σ' H',Inv X pins σ' H' s'/\tn i s'.heap/\(∀b∈fp,H' b=none)/\W i n σ' H') ?_ m0 ⟨0,σ,H2,I2,st2,λb hb=>(f2 b hb).1,w0⟩;rintro n s3 ⟨i,σ3,H3,I3,st3,fr3,w3⟩;rcases turn i n σ3 H3 w3 with ⟨stop,qn⟩ | ⟨go,N,hN,step⟩
 ·refine wpAny_passesOwn hp (thn (T.done X rfl rfl rfl hc i pins s3 σ3 H3 X.xe I3 (stat fr3) st3 stop) λr s4 ⟨hr,I4⟩=> ?_);subst hr;exact wpAny_execs_nil ⟨σ3,H3,I4,qn⟩
 ·refine wpAny_passesOwn hp (thn (T.item X rfl rfl rfl hc i pins s3 σ3 H3 X.xe I3 (stat fr3) st3 go) λr s4 ⟨u,hr,h4⟩=> ?_);subst hr;refine wpAny_passesOwn hp (thn h4 λ_ s5 ⟨x,H5,I5,r5,y5,st5,fr5⟩=> ?_);have I5':=I5.pinned (stat fr5) (T.obj _ _ st5);refine wpAny_passesOwn hp (thn (hg _ s5 σ3 H5 x u _ I5' r5 (step x H5 y5)) λ_ s6 ⟨σ6,H6,I6,q6⟩=> ?_);refine wpAny_passesOwn hp (thn (hb _ s6 σ6 H6 _ I6 q6) λf s7 q7=> ?_)
  have again:∀{σ7:St} {H7:Hp},Inv X (pins++Kl fp s5.heap) σ7 H7 s7->N σ7 H7->∃m,m < n/\∃i σ' H',Inv X pins σ' H' s7/\tn i s7.heap/\(∀b∈fp,H' b=none)/\W i m σ' H':=λ{σ7 H7} I7 n7=>by obtain ⟨m',hm,w7⟩:=hN σ7 H7 n7;refine ⟨m',hm,i + 1,σ7,H7,I7.unpinned,T.keep _ _ _ st5 λb hb o e=>(I7.pin (b,o) (List.mem_append_right _ (List.mem_append_right _ (R5 hb e)))).1,λb hb=> ?_,w7⟩;obtain ⟨o,e,d⟩:=T.obj _ _ st5 b hb;exact (I7.pin (b,o) (List.mem_append_right _ (List.mem_append_right _ (R5 hb e)))).2.1
  cases f with
  | next=>obtain ⟨σ7,H7,I7,n7⟩:=q7;exact again I7 n7
  | cont=>obtain ⟨σ7,H7,I7,n7⟩:=q7;exact again I7 n7
  | brk=>obtain ⟨σ7,H7,I7,q7⟩:=q7;exact ⟨σ7,H7,I7.unpinned,q7⟩
  | ret v=>obtain ⟨x7,σ7,H7,I7,r7,q7⟩:=q7;exact ⟨x7,σ7,H7,I7.unpinned,r7,q7⟩
end
abbrev R2:=V->V->Hp->VK->Prop
variable {r:R2}
def OpR (X:Cx) (f:Value->Value->Sem Value) (r:R2):Prop:=
 ∀(pins:List (Addr×Obj)) (s:Shared) (σ:St) (H:Hp) (x y:V) (v u:Value) (Q:VK),Inv X pins σ H s->RelV x v->RelV y u->r x y H Q->
  wpAny (model X.prog X.w) X.A (f v u) (EP X pins σ Q) X.xe s
def UnR (X:Cx) (f:Value->Sem Value) (r:V->Hp->VK->Prop):Prop:=
 ∀(pins:List (Addr×Obj)) (s:Shared) (σ:St) (H:Hp) (x:V) (v:Value) (Q:VK),Inv X pins σ H s->RelV x v->r x H Q->
  wpAny (model X.prog X.w) X.A (f v) (EP X pins σ Q) X.xe s
def CallR (X:Cx) (f:Value) (r:List V->Hp->VK->Prop):Prop:=
 ∀(pins:List (Addr×Obj)) (s:Shared) (σ:St) (H:Hp) (xs:List V) (us:List Value) (Q:VK),Inv X pins σ H s->Vals xs us->r xs H Q->
  wpAny (model X.prog X.w) X.A (call f us) (EP X pins σ Q) X.xe s
def tOp (r:R2) (ta tb:TE):TE:=λσ H Q=>ta σ H λx H1=>tb σ H1 λy H2=>r x y H2 Q
def tUn (r:V->Hp->VK->Prop) (ta:TE):TE:=λσ H Q=>ta σ H λx H1=>r x H1 Q
def rI (C:Int->Int->Prop) (g:Int->Int->V):R2:=λx y H Q=>∃i j,x=.int i/\y=.int j/\C i j/\Q (g i j) H
def rI0 (g:Int->Int->V):R2:=λx y H Q=>∃i j,x=.int i/\y=.int j/\Q (g i j) H
def rU (g:Int->V):V->Hp->VK->Prop:=λx H Q=>∃i,x=.int i/\Q (g i) H
section
variable {X:Cx} {a b c:Expr} {ta tb tc:TE} {pos:Pos}
theorem Wa (ha:PE X a ta) (hb:PE X b tb) {R:V->V->Hp->Prop} (I:Inv X pins σ H s)
  (h:ta σ H λx H1=>tb σ H1 λy H2=>R x y H2) {Q:Value->Shared->Prop} {f:Value->Value->Sem Value}
  (hf:∀v u s2 x y H2,Inv X pins σ H2 s2->RelV x v->RelV y u->R x y H2->wpAny (model X.prog X.w) X.A (f v u) Q X.xe s2):
  wpAny (model X.prog X.w) X.A (eval a X.env) (λv s₁=>wpAny (model X.prog X.w) X.A (eval b X.env) (λu s₂=>wpAny (model X.prog X.w) X.A (f v u) Q X.xe s₂) X.xe s₁) X.xe s:=by
 refine thn (ha pins s σ H _ I h) λv s1 ⟨x,H1,I1,r1,q1⟩=> ?_
 refine thn (hb pins s1 σ H1 _ I1 q1) λu s2 ⟨y,H2,I2,r2,q2⟩=> ?_
 exact hf v u s2 x y H2 I2 r1 r2 q2
theorem ZEB {op:Operator} (ho:OpR X (binaryOp op) r) (ha:PE X a ta) (hb:PE X b tb):PE X (.BinOp a op b pos) (tOp r ta tb):=by intro pins s σ H Q I h;exact wpAny_BinOp (Wa ha hb I h λv u s2 x y H2 I2 rx ry q=>ho pins s2 σ H2 x y v u Q I2 rx ry q)
theorem ZEr {op:UnaryOp} {r:V->Hp->VK->Prop} (ho:UnR X (unaryOp op) r) (ha:PE X a ta):PE X (.UnaryOp op a pos) (tUn r ta):=by intro pins s σ H Q I h;exact UnaryOp_ (thn (ha pins s σ H _ I h) λv s1 ⟨x,H1,I1,r1,q1⟩=>ho pins s1 σ H1 x v Q I1 r1 q1)
theorem opI {f:Value->Value->Sem Value} {C:Int->Int->Prop} {g:Int->Int->Int}
  (rule:∀(i j:Int) (t u:Tok) (s:Shared) (Q:Value->Shared->Prop) (E:Value->Shared->Prop),C i j->Q (.int (g i j) s.toks) {s with toks:=s.toks + 1}->wpAny (model X.prog X.w) X.A (f (.int i t) (.int j u)) Q E s):
  OpR X f (rI C λi j=>.int (g i j)):=by
 intro pins s σ H x y v u Q I rx ry h;obtain ⟨i,j,rfl,rfl,hc,q⟩:=h;obtain ⟨t,rfl⟩:=rx;obtain ⟨t',rfl⟩:=ry;exact rule i j t t' s _ _ hc ⟨.int (g i j),H,I.tok _,⟨_,rfl⟩,q⟩
theorem opI0 {f:Value->Value->Sem Value} {g:Int->Int->Int}
  (rule:∀(i j:Int) (t u:Tok) (s:Shared) (Q:Value->Shared->Prop) (E:Value->Shared->Prop),Q (.int (g i j) s.toks) {s with toks:=s.toks + 1}->wpAny (model X.prog X.w) X.A (f (.int i t) (.int j u)) Q E s):
  OpR X f (rI0 λi j=>.int (g i j)):=by
 intro pins s σ H x y v u Q I rx ry h;obtain ⟨i,j,rfl,rfl,q⟩:=h;obtain ⟨t,rfl⟩:=rx;obtain ⟨t',rfl⟩:=ry;exact rule i j t t' s _ _ ⟨.int (g i j),H,I.tok _,⟨_,rfl⟩,q⟩
theorem Us {f:Value->Value->Sem Value} {g:Int->Int->Bool}
  (rule:∀(i j:Int) (t u:Tok) (s:Shared) (Q:Value->Shared->Prop) (E:Value->Shared->Prop),Q (.bool (g i j)) s->wpAny (model X.prog X.w) X.A (f (.int i t) (.int j u)) Q E s):
  OpR X f (rI0 λi j=>.bl (g i j)):=by
 intro pins s σ H x y v u Q I rx ry h;obtain ⟨i,j,rfl,rfl,q⟩:=h;obtain ⟨t,rfl⟩:=rx;obtain ⟨t',rfl⟩:=ry;exact rule i j t t' s _ _ ⟨.bl (g i j),H,I,rfl,q⟩
def CPow (i j:Int):Prop:=0<=j/\j<=1000000/\i.natAbs < 2 ^ 64
def CMul (i j:Int):Prop:=(-(2 ^ 64) < i/\i < 2 ^ 64)∨(-(2 ^ 64) < j/\j < 2 ^ 64)
theorem CMul.ok {i j:Int} (h:CMul i j):IntMulOk i j:=by
 rcases h with ⟨h1,h2⟩ | ⟨h1,h2⟩
 ·exact .of_left (intBits_le_64 h1 h2)
 ·exact .of_right (intBits_le_64 h1 h2)
theorem ZEu:OpR X (binaryOp .Add) (rI0 λi j=>.int (i + j)):=opI0 λ_ _ _ _ _ _ _ q=>add_int q
theorem ZFd:OpR X (binaryOp .Sub) (rI0 λi j=>.int (i - j)):=opI0 λ_ _ _ _ _ _ _ q=>sub_int q
theorem ZBo:OpR X (binaryOp .Mod) (rI (λ_ j=>0 < j) λi j=>.int (i % j)):=opI λi j _ _ _ _ _ hc q=>by have h1:(0:Int) < j:=hc;exact mod_int' (by omega) (by rw [Int.fmod_eq_emod_of_nonneg i (by omega)];exact q)
theorem ZES:OpR X (binaryOp .Pow) (rI CPow λi j=>.int (i ^ j.toNat)):=opI λ_ _ _ _ _ _ _ hc q=>pow_int_small hc.1 hc.2.1 hc.2.2 q
theorem unI {f:Value->Sem Value} {g:Int->Int}
  (rule:∀(i:Int) (t:Tok) (s:Shared) (Q:Value->Shared->Prop) (E:Value->Shared->Prop),Q (.int (g i) s.toks) {s with toks:=s.toks + 1}->wpAny (model X.prog X.w) X.A (f (.int i t)) Q E s):
  UnR X f (rU λi=>.int (g i)):=by
 intro pins s σ H x v Q I rx h;obtain ⟨i,rfl,q⟩:=h;obtain ⟨t,rfl⟩:=rx;exact rule i t s _ _ ⟨.int (g i),H,I.tok _,⟨_,rfl⟩,q⟩
theorem ZDm:UnR X (unaryOp .USub) (rU λi=>.int (-i)):=unI λ_ _ _ _ _ q=>neg_int q
end
section
variable {X:Cx} {a b c:Expr} {ta tb tc:TE} {pos:Pos}
theorem V9 {Q:VK} {k k':Bool} (I:Inv X pins σ H s) (q:Q (.bl k) H) (e:k=k'):EP X pins σ Q (.bool k') s:=by subst e;exact ⟨.bl k,H,I,rfl,q⟩
theorem ZGY:OpR X (compareOp .Lt) (rI0 λi j=>.bl (decide (i < j))):=Us λ_ _ _ _ _ _ _ q=>lt_int q
theorem ZDW:OpR X (compareOp .Gt) (rI0 λi j=>.bl (decide (j < i))):=Us λ_ _ _ _ _ _ _ q=>gt_int q
theorem ZFY:OpR X (compareOp .GtE) (rI0 λi j=>.bl (decide (j<=i))):=Us λ_ _ _ _ _ _ _ q=>ge_int q
theorem ZE6:OpR X (compareOp .Lt) (λx y H Q=>∃i j,x=.str i/\y=.str j/\Q (.bl (decide (i.cps.toList < j.cps.toList))) H):=by intro pins s σ H x y v u Q I rx ry h;obtain ⟨i,j,rfl,rfl,q⟩:=h;obtain ⟨t,rfl⟩:=rx;obtain ⟨t',rfl⟩:=ry;exact lt_str (V9 I q rfl)
theorem ZBY:OpR X (compareOp .IsNot) (λx y H Q=>y=.non/\Q (.bl (!decide (x=.non))) H):=by
 intro pins s σ H x y v u Q I rx ry h;obtain ⟨rfl,q⟩:=h;cases ry;refine isnot_none_gen (V9 I q ?_)
 cases x <;> first
  | (cases rx;rfl)
  | (obtain ⟨t,rfl⟩:=rx;rfl)
theorem ZDn:OpR X (compareOp .NotIn) (λx y H Q=>∃i j,x=.str i/\y=.str j/\Q (.bl (!(!(Builtin.Str.occurrences j i 0 j.length 1).isEmpty))) H):=by intro pins s σ H x y v u Q I rx ry h;obtain ⟨i,j,rfl,rfl,q⟩:=h;obtain ⟨t,rfl⟩:=rx;obtain ⟨t',rfl⟩:=ry;exact notIn_str (V9 I q rfl)
theorem OpR.or {f:Value->Value->Sem Value} {r':R2} (h:OpR X f r) (h':OpR X f r'):OpR X f (λx y H Q=>r x y H Q∨r' x y H Q):=by
 intro pins s σ H x y v u Q I rx ry q;rcases q with q | q
 ·exact h pins s σ H x y v u Q I rx ry q
 ·exact h' pins s σ H x y v u Q I rx ry q
theorem nomark (b:Expr) (h:op≠ .In:=by decide) (h2:op≠ .NotIn:=by decide):behindInMarks op b=false:=by
 have e1:(op == CmpOp.In)=false:=by cases op <;> first | rfl | exact absurd rfl h
 have e2:(op == CmpOp.NotIn)=false:=by cases op <;> first | rfl | exact absurd rfl h2
 cases b <;> simp [behindInMarks,e1,e2]
theorem ZFC (ho:OpR X (compareOp op) r) (ha:PE X a ta) (hb:PE X b tb) (hm:behindInMarks op b=false):PE X (.Compare a [op] [b] pos) (tOp r ta tb):=by intro pins s σ H Q I h;exact wpAny_Compare1 (Wa ha hb I h λv u s2 x y H2 I2 rx ry q=>ho pins s2 σ H2 x y v u Q I2 rx ry q) hm
def Pz (t:TE):TT:=λσ H Q=>t σ H λx H'=>∃k,x=.bl k/\Q k H'
theorem ZDZ (ho:OpR X (compareOp op) r) (ha:PE X a ta) (hb:PE X b tb) (hm:behindInMarks op b=false):PT X (.Compare a [op] [b] pos) (Pz (tOp r ta tb)):=by
 intro pins s σ H Q I h;refine wpAny_isTrue_Compare1 (thn (ha pins s σ H _ I h) λv s1 ⟨x,H1,I1,r1,q1⟩=>thn (hb pins s1 σ H1 _ I1 q1) λu s2 ⟨y,H2,I2,r2,q2⟩=>
  thn (ho pins s2 σ H2 x y v u _ I2 r1 r2 q2) λc s3 ⟨z,H3,I3,r3,k,e,q3⟩=> ?_) hm
 subst e;cases r3;exact wpAny_truthy_bool ⟨H3,I3,q3⟩
theorem line63:(sizeLine:Nat) < 2 ^ 63:=by rw [sizeLine_eq];decide
theorem ZCN:OpR X (binaryOp .Add) (λx y H Q=>∃i j,x=.str i/\y=.str j/\i.length + j.length<=sizeLine/\Q (.str (i++j)) H):=by intro pins s σ H x y v u Q I rx ry h;obtain ⟨i,j,rfl,rfl,hz,q⟩:=h;obtain ⟨t,rfl⟩:=rx;obtain ⟨t',rfl⟩:=ry;exact add_str (λt' tk=>⟨.str (i++j),H,I.tok _,⟨_,rfl⟩,q⟩) hz
theorem vals1 {x:V} (r:Vals [x] us):∃u,us= [u]/\RelV x u:=by
 cases r with
 | cons r1 r2=>cases r2;exact ⟨_,rfl,r1⟩
theorem vals2 {x y:V} (r:Vals [x,y] us):∃u w',us= [u,w']/\RelV x u/\RelV y w':=by
 cases r with
 | cons r1 r2=>
  cases r2 with
  | cons r3 r4=>cases r4;exact ⟨_,_,rfl,r1,r3⟩
theorem ZCp (hc:X.calm=true):CallR X (.builtin "max") (λxs H Q=>∃i j,xs= [.int i,.int j]/\Q (.int (if j > i then j else i)) H):=by
 intro pins s σ H xs us Q I r h;obtain ⟨i,j,rfl,q⟩:=h;obtain ⟨u,w',rfl,⟨t,rfl⟩,⟨t',rfl⟩⟩:=vals2 r;refine max_two_ints (I.ok.hd hc) λh' tk k=>⟨_,H,I.kept k,?_,q⟩
 by_cases hj:j > i
 ·rw [if_pos hj,if_pos hj];exact ⟨_,rfl⟩
 ·rw [if_neg hj,if_neg hj];exact ⟨_,rfl⟩
theorem ZC0 (hc:X.calm=true):CallR X (.builtin "min") (λxs H Q=>∃i j,xs= [.int i,.int j]/\Q (.int (if j < i then j else i)) H):=by
 intro pins s σ H xs us Q I r h;obtain ⟨i,j,rfl,q⟩:=h;obtain ⟨u,w',rfl,⟨t,rfl⟩,⟨t',rfl⟩⟩:=vals2 r;refine min_two_ints (I.ok.hd hc) λh' tk k=>⟨_,H,I.kept k,?_,q⟩
 by_cases hj:j < i
 ·rw [if_pos hj,if_pos hj];exact ⟨_,rfl⟩
 ·rw [if_neg hj,if_neg hj];exact ⟨_,rfl⟩
theorem ZFw:CallR X (.type "int") (λxs H Q=>(∃i,xs= [.int i]/\Q (.int i) H)∨∃k,xs= [.bl k]/\Q (.int (if k then 1 else 0)) H):=by
 intro pins s σ H xs us Q I r h;rcases h with ⟨i,rfl,q⟩ | ⟨k,rfl,q⟩
 ·obtain ⟨u,rfl,t,rfl⟩:=vals1 r;exact call_int_int ⟨.int i,H,I,⟨_,rfl⟩,q⟩
 ·obtain ⟨u,rfl,r1⟩:=vals1 r;cases r1;exact call_int_bool ⟨.int (if k then 1 else 0),H,I.tok _,⟨_,rfl⟩,q⟩
end
structure ObjM (h:Heap) (x dx C:Addr) (mA:Str->Option Value):Prop where
 obj:h.get? x=some (PySem.W.instObj C dx)
 ns:h.Ns1 dx mA
 ne:dx≠x
section
variable {prog:Program} {w:World} {A:Around} {E:Value->Shared->Prop} {s:Shared} {K:PySem.W.Frag} {x dx C f:Addr} {mA:Str->Option Value} {name:Str} {v:Value}
end
def Ug (f:Str) (v:V):List (Str×V)->List (Str×V)
 | []=> [(f,v)]
 | (g,x)::r=>if g=f then (g,v)::r else (g,x)::Ug f v r
section
variable {P:Program} {w:World} {H H':Hp} {h h':Heap} {a C dx:Addr} {fs fs':List (Str×V)}
end
structure Cls (K:PySem.W.Frag) (C:Addr):Prop where
 pg:PySem.W.plainGet K C Str.empty=true
 hd:PySem.W.hasDictIn K C=true
 po:PySem.W.plainOver K C=true
 sa:PySem.W.findIn K (.ref C) "__setattr__"=some (some (.builtin "object.__setattr__"))
theorem Cls.get {C:Addr} (c:Cls K C) (f:Str):PySem.W.plainGet K C f=true:=c.pg
structure Con (K:PySem.W.Frag) (C:Addr) (f:Str) (v:V) (u:Value):Prop where
 at_:PySem.W.findIn K (.ref C) f=some (some u)
 rel:RelV v u
 get:PySem.W.specialIn K u "__get__"=some none
 cp:PySem.W.copiedNames.contains f=false
structure Meth (K:PySem.W.Frag) (C:Addr) (m:Str) (f:Addr):Prop where
 at_:PySem.W.findIn K (.ref C) m=some (some (.ref f))
 fn:PySem.W.isFn K (.ref f)=true
 kp:PySem.W.keepIn K (.ref f)=true
section
variable {X:Cx} {pins:List (Addr×Obj)} {σ:St} {H:Hp} {s:Shared} {a C dx:Addr} {fs:List (Str×V)} {f:Str} {v:V} {A:Around} {E:Value->Shared->Prop}
theorem Inv.made (I:Inv X pins σ H s):Inv X pins σ (upd (upd H s.heap.objs.size (.own (s.heap.objs.size + 1))) (s.heap.objs.size + 1) (.ins C s.heap.objs.size []))
  {s with heap:=(s.heap.push PySem.W.emptyDict).push (PySem.W.instObj C s.heap.objs.size)}:=by
 have e1:(s.heap.push PySem.W.emptyDict).get? s.heap.objs.size=some PySem.W.emptyDict:=Heap.get?_push_size s.heap rfl;have e2:((s.heap.push PySem.W.emptyDict).push (PySem.W.instObj C s.heap.objs.size)).get? (s.heap.objs.size + 1)=some (PySem.W.instObj C s.heap.objs.size):=by have:=Heap.get?_push_size (s.heap.push PySem.W.emptyDict) (o:=PySem.W.instObj C s.heap.objs.size) rfl;rwa [Heap.size_push] at this
 have e3:(s.heap.push PySem.W.emptyDict).Ns s.heap.objs.size (λ_=>none):=⟨PySem.W.emptyDict,#[],_,e1,rfl,(λe he=>absurd he (by simp)),λ_=>rfl⟩;have I1:=I.laid (a:=s.heap.objs.size) (o:=.own (s.heap.objs.size + 1)) (h':=s.heap.push PySem.W.emptyDict) (t':=s.toks) (λb u q=>Heap.get?_push_of_some _ q) (Nat.le_refl _) ⟨_,e1⟩;refine I1.laid (a:=s.heap.objs.size + 1) (o:=.ins C s.heap.objs.size []) (t':=s.toks) (λb u q=>Heap.get?_push_of_some _ q) (Nat.le_of_eq (Heap.size_push _ _)) ?_
 have ne:s.heap.objs.size≠s.heap.objs.size + 1:=Nat.ne_of_lt (Nat.lt_succ_self _);refine ⟨by rw [Az ne,Ej],Nat.zero_le _,ne,e2,λ_=>none,(Heap.Ns1.of_empty e3).at λo q=>Heap.get?_push_of_some _ q,λ_=>True.intro,λy hy=>absurd rfl hy⟩
end
section
variable {X:Cx} {o e value:Expr} {f:Str} {pos pos' tpos:Pos} {ta tv:TE}
end
section
variable {X:Cx} {pins:List (Addr×Obj)} {σ:St} {H:Hp} {s:Shared} {A:Around} {E:Value->Shared->Prop} {Q:Value->Shared->Prop} {c:Value} {b:Bool}
inductive TyOf (K:PySem.W.Frag) (H:Hp):V->Value->Prop where
 | non:TyOf K H .non (.type "NoneType")
 | bl (x:Bool):TyOf K H (.bl x) (.type "bool")
 | int (i:Int):TyOf K H (.int i) (.type "int")
 | str (x:Str):TyOf K H (.str x) (.type "str")
 | flt (x:UInt64):TyOf K H (.flt x) (.type "float")
 | lst {a:Addr} {xs:List V} (e:H a=some (.lst xs)):TyOf K H (.ref a) (.type "list")
 | frz {a:Addr} {o:Obj} {xs:List V} (e:H a=some (.frz o (.lst xs))):TyOf K H (.ref a) (.type "list")
 | tup {a:Addr} {xs:List V} (e:H a=some (.tup xs)):TyOf K H (.ref a) (.type "tuple")
 | dK {a:Addr} {kvs:List (Key×V)} (e:H a=some (.dK kvs)):TyOf K H (.ref a) (.type "dict")
 | dT {a:Addr} {kvs:List (List Key×V)} (e:H a=some (.dT kvs)):TyOf K H (.ref a) (.type "dict")
 | ins {a C dx:Addr} {fs:List (Str×V)} (e:H a=some (.ins C dx fs)) (cl:Cls K C) (ha:PySem.W.findIn K (.ref C) "__class__"=some (some (.builtin "object.__class__")))
   (hn:PySem.W.specialIn K (.builtin "object.__class__") "__get__"=some (some (.builtin "getset_descriptor.__get__"))) (htk:PySem.W.takesIn K (.builtin "object.__class__")=some true)
   (hm:PySem.W.mroIn K C (.type "object")=some true):TyOf K H (.ref a) (.ref C)
end
structure Room (k:Nat) (A:Around):Prop where
 hd:A.handled=none
 dp:A.depth + 3 * k + 5 < recursionLimit
 un:A.units + 16 * k + 200 < cLine
theorem Room.mono (r:Room k A) (h:j<=k):Room j A:=⟨r.hd,by have:=r.dp;omega,by have:=r.un;omega⟩
theorem Room.deeper (r:Room (k + 1) A) (env:Env):Room k (A.deeper env):=
 ⟨r.hd,by have:=r.dp;show A.depth + 1 + 3 * k + 5 < _;omega,by have:=r.un;show A.units + 3 + 16 * k + 200 < _;omega⟩
theorem Room.in1 (r:Room (k + 1) A):Room k A.in1:=
 ⟨r.hd,by have:=r.dp;show A.depth + 3 * k + 5 < _;omega,by have:=r.un;show A.units + 1 + 16 * k + 200 < _;omega⟩
theorem Room.depth (r:Room k A):A.depth < recursionLimit:=by have:=r.dp;omega
theorem Room.units (r:Room k A):A.units + 64 < cLine:=by have:=r.un;omega
def tNil:TA:=λ_ H Q=>Q [] H
def ZD3 (ta:TE) (tr:TA):TA:=λσ H Q=>ta σ H λx H1=>tr σ H1 λxs H2=>Q (x::xs) H2
section
variable {X:Cx} {e:Expr} {es:List Expr} {te:TE} {t:TA} {pos:Pos}
theorem ZCg:PA X [] tNil:=λ_ _ _ _ H Q I h=>Calls.spliced_nil ⟨[],H,I,.nil,h⟩
theorem ZFQ (ha:PE X e te) (hr:PA X es t) (hs:starEach (e::es) X.env=(false,eval e X.env)::starEach es X.env:=by rfl):PA X (e::es) (ZD3 te t):=by intro pos pins s σ H Q I h;rw [hs];show wpAny _ _ (spliced ((false,eval e X.env)::backTo pos (starEach es X.env))) _ _ s;refine Calls.spliced_cons (thn (ha pins s σ H _ I h) λu s1 ⟨x,H1,I1,r1,q1⟩=> ?_);exact thn (hr pos pins s1 σ H1 _ I1 q1) λus s2 ⟨xs,H2,I2,r2,q2⟩=>⟨x::xs,H2,I2,.cons r1 r2,q2⟩
def tTup (t:TA):TE:=λσ H Q=>t σ H λxs H1=>xs.length<=sizeLine/\∀p,H1 p=none->Q (.ref p) (upd H1 p (.tup xs))
def tLst (t:TA):TE:=λσ H Q=>t σ H λxs H1=>xs.length<=sizeLine/\∀p,H1 p=none->Q (.ref p) (upd H1 p (.lst xs))
theorem ZDk {x1} (h:PA X es t):PE X (.Tuple es x1 pos) (tTup t):=by intro pins s σ H Q I hq;refine wpAny_Tuple_spliced (thn (h pos pins s σ H _ I hq) λus s1 ⟨xs,H1,I1,r,z,q⟩=>⟨by rw [<-r.length];exact z,?_⟩);have hf:H1 s1.heap.objs.size=none:=I1.hok.fresh (Nat.le_refl _);refine ⟨.ref s1.heap.objs.size,upd H1 s1.heap.objs.size (.tup xs),I1.laid (t':=s1.toks) (λb u e=>Heap.get?_push_of_some _ e) (Nat.le_refl _) ?_,rfl,q _ hf⟩;exact ⟨z,us,r,⟨_,Heap.get?_push_size _ rfl,rfl,_,rfl⟩⟩
theorem ZDy (h:PA X es t):PE X (.List es pos) (tLst t):=by intro pins s σ H Q I hq;refine wpAny_List_spliced (thn (h pos pins s σ H _ I hq) λus s1 ⟨xs,H1,I1,r,z,q⟩=>⟨by rw [<-r.length];exact z,?_⟩);have hf:H1 s1.heap.objs.size=none:=I1.hok.fresh (Nat.le_refl _);refine ⟨.ref s1.heap.objs.size,upd H1 s1.heap.objs.size (.lst xs),I1.laid (t':=s1.toks) (λb u e=>Heap.get?_push_of_some _ e) (Nat.le_refl _) ?_,rfl,q _ hf⟩;exact ⟨z,us,0,r,Heap.get?_push_size _ rfl⟩
end
abbrev Sp:=List V->Hp->VK->XK->Prop
abbrev CXT:=List Env->Hp->Shared->XK->Value->Shared->Prop
variable {CX:CXT}
structure Env0 (P:Program) (w:World) (K:PySem.W.Frag) (mg:Str->Option Value) (base:Heap) (A:Around) (outer:List Env) (s:Shared) (H:Hp):Prop where
 frames:A.frames=some outer
 mod:Mod K mg base
 bs:∀b o,base.get? b=some o->s.heap.get? b=some o/\H b=none
 bsz:base.objs.size<=s.heap.objs.size
 funs:s.heap.FunFrames base outer
 frf:∀b∈frs outer,H b=none
 hok:HOk P w H s.heap
 bare:AllBare s.gens
def CE (outer:List Env) (P:Program) (w:World) (H:Hp) (s:Shared) (Q:VK) (u:Value) (s':Shared):Prop:=
 ∃v H',s'.os=s.os/\AllBare s'.gens/\Un (frs outer) [] H H' s.heap s'.heap/\HOk P w H' s'.heap/\RelV v u/\Q v H'
def CR (CX:CXT) (outer:List Env) (P:Program) (w:World) (H:Hp) (s:Shared) (Q:VK) (E:XK) (r:Result) (s':Shared):Prop:=
 match r with
 | .ok (.ret u)=>CE outer P w H s Q u s'
 | .ok _=>False
 | .error e=>CX outer H s E e s'
structure FnOk (P:Program) (w:World) (K:PySem.W.Frag) (mg:Str->Option Value) (base:Heap) (CX:CXT) (k:Nat) (f:Addr) (fd:FuncData) (ps:List Str) (sp:Sp):Prop where
 len:∀vs H Q E,sp vs H Q E->vs.length=ps.length
 run:∀(A:Around) (outer:List Env) (s:Shared) (H:Hp) (args:Args) (us:List Value) (vs:List V) (Q:VK) (E:XK),Room k A->Env0 P w K mg base A outer s H->BindsTo s fd args (ps.zip us)->Vals vs us->sp vs H Q E->
  codeAny (model P w) A (.call (.ref f) args) (CR CX outer P w H s Q E) s
theorem FnOk.mono {sp:Sp} (F:FnOk P w K mg base CX j f fd ps sp) (h:j<=k):
  FnOk P w K mg base CX k f fd ps sp:=⟨F.len,λA outer s H args us vs Q E hr=>F.run A outer s H args us vs Q E (hr.mono h)⟩
theorem FnOk.imp {sp sp':Sp} (F:FnOk P w K mg base CX k f fd ps sp)
  (h:∀vs H Q E,sp' vs H Q E->sp vs H Q E):FnOk P w K mg base CX k f fd ps sp':=
 ⟨λvs H Q E q=>F.len vs H Q E (h _ _ _ _ q),λA outer s H args us vs Q E hr he hb hv hs=>F.run A outer s H args us vs Q E hr he hb hv (h _ _ _ _ hs)⟩
theorem Env0.in1 {outer:List Env} (e:Env0 P w K mg base A outer s H):
  Env0 P w K mg base A.in1 outer s H:=⟨e.frames,e.mod,e.bs,e.bsz,e.funs,e.frf,e.hok,e.bare⟩
section
variable {X:Cx} {pins:List (Addr×Obj)} {σ:St} {H:Hp} {s s':Shared}
theorem Inv.env0 (I:Inv X pins σ H s):Env0 X.prog X.w X.K X.mg X.base X.A X.stack s H:=
 ⟨I.ok.frames,I.ok.mod,I.bs,Nat.le_trans I.ok.bsz I.sz,I.stack,I.Zh,I.hok,I.bare⟩
theorem Inv.after {Q:VK} (I:Inv X pins σ H s) (h:CE X.stack X.prog X.w H s Q u s'):EP X pins σ Q u s':=by obtain ⟨v,H',os,bare,un,hok,r,q⟩:=h;obtain ⟨hh,g,d,t,os'⟩:=s';obtain rfl:os'=s.os:=os;exact ⟨v,H',I.call (h':=hh) (g':=g) (d':=d) (t':=t) (ch:= []) un hok bare (λb z=>absurd z (by simp)),r,q⟩
end
def ZDV (sp:Sp) (dvs:List V) (E:XK) (t:TA):TE:=λσ H Q=>t σ H λvs H1=>sp (vs++dvs) H1 Q E
def Binds (K:PySem.W.Frag) (fd:FuncData) (ps:List Str) (ds:List Value):Prop:=
 ∀(s:Shared) (us:List Value),K.In s.heap->(us++ds).length=ps.length->BindsTo s fd ⟨us,[]⟩ (ps.zip (us++ds))
theorem Binds.all (h:∀us:List Value,us.length=ps.length->bindArgs fd ⟨us,[]⟩=pure (ps.zip us)):Binds K fd ps []:=λs us _ hl=>by rw [List.append_nil] at hl ⊢;exact .of_eq (h us hl)
def Passes (CX:CXT) (X:Cx) (E:XK):Prop:=∀(pins:List (Addr×Obj)) (σ:St) (H:Hp) (s:Shared) (e:Value) (s':Shared),Inv X pins σ H s->CX X.stack H s E e s'->X.xe e s'
section
variable {X:Cx} {CX:CXT} {k:Nat} {f C:Addr} {fd:FuncData} {ps:List Str} {sp:Sp} {dvs:List V} {ds:List Value} {E:XK} {x m:Str} {p pos apos:Pos} {e o:Expr} {es:List Expr} {ta:TE} {t:TA}
theorem ZBa {Q:VK} {vs:List V} (F:FnOk X.prog X.w X.K X.mg X.base CX k f fd ps sp) (hr:Room k X.A) (hb:Binds X.K fd ps ds) (hd:Vals dvs ds) (hx:Passes CX X E)
  (I:Inv X pins σ H s) (r:Vals vs us) (h:sp (vs++dvs) H Q E):wpAny (model X.prog X.w) X.A (call (.ref f) us) (EP X pins σ Q) X.xe s:=by
 have r2:Vals (vs++dvs) (us++ds):=r.append hd;have hl:(us++ds).length=ps.length:=by rw [<-r2.length];exact F.len _ _ _ _ h
 refine wpAny_call (codeAny_mono (F.run X.A X.stack s H ⟨us,[]⟩ (us++ds) (vs++dvs) Q E hr I.env0 (hb s us I.kIn hl) r2 h) λr s' hq=> ?_);cases r with
 | error e=>exact hx pins σ H s e s' I hq
 | ok fl=>
  cases fl with
  | ret u=>exact I.after hq
  | next=>exact False.elim hq
  | brk=>exact False.elim hq
  | cont=>exact False.elim hq
theorem ZF5 (F:FnOk X.prog X.w X.K X.mg X.base CX k f fd ps sp) (hr:Room k X.A) (hg:Gl X x) (hm:X.mg x=some (.ref f)) (hk:PySem.W.keepIn X.K (.ref f)=true) (hb:Binds X.K fd ps ds) (hd:Vals dvs ds) (hx:Passes CX X E)
  (ha:PA X (e::es) t) (hdb:(x == ("__debug__":Str))=false:=by decide) (he:starEach (e::es) X.env=(false,eval e X.env)::starEach es X.env:=by rfl) (hpl:(backTo pos (starEach es X.env)).any (·.1)=false:=by rfl):
  PE X (.Call (.Name x p) (e::es) [] pos) (ZDV sp dvs E t):=by
 intro pins s σ H Q I h;refine wpAny_Call_Name_kw (Zd I hg hm ?_ hdb);refine PySem.W.callWith_K (h₀:=X.base) I.ok.mod.kin hk (thn (ha pos pins s σ H _ I h) λus s1 ⟨vs,H1,I1,r,q⟩=>⟨I1.kIn,?_⟩) he hpl;exact ZBa F hr hb hd hx I1 r q
end
section
variable {X:Cx} {CX:CXT} {k:Nat} {f C:Addr} {fd:FuncData} {ps ks:List Str} {sp:Sp} {E:XK} {x m:Str} {p pos apos kpos:Pos} {e o:Expr} {es:List Expr} {kws:List Keyword} {te ta:TE} {t tk:TA} {nm:Option Str}
structure KBinds (K:PySem.W.Frag) (fd:FuncData) (ps ks:List Str) (g:List Value->List Value->List Value) (gV:List V->List V->List V):Prop where
 to:∀(s:Shared) (us ws:List Value),K.In s.heap->(g us ws).length=ps.length->BindsTo s fd ⟨us,ks.zip ws⟩ (ps.zip (g us ws))
 rel:∀{vs:List V} {us:List Value} {zs:List V} {ws:List Value},Vals vs us->Vals zs ws->Vals (gV vs zs) (g us ws)
variable {g:List Value->List Value->List Value} {gV:List V->List V->List V}
end
structure FnScope (N P:List Str) (sc:Scope):Prop where
 kind:sc.kind=.function
 co:sc.isCoroutine=false
 gen:sc.isGenerator=false
 nd:N.Nodup
 pre:N.take P.length=P
 par:∀x∈P,sc.names.lookup x=some .local∨sc.names.lookup x=some .cell
 nofree:∀y∈sc.names,y.2≠ .free
theorem ZBQ:∀{binds:List (Str×Value)} {m:Str->Option Value},(∀v,(x,v) ∉ binds)->bindL kindOf binds m x=m x
 | [],_,_=>rfl
 | (n,v)::r,m,h=>by
  unfold bindL;rw [ZBQ λw hw=>h w (List.mem_cons_of_mem _ hw)];split
  ·have:x≠n:=by rintro rfl;exact h v List.mem_cons_self
   simp [this]
  ·rfl
theorem ZA3:∀{binds:List (Str×Value)} {m:Str->Option Value},(∀v,(x,v) ∉ binds)->bindC kindOf binds m x=m x
 | [],_,_=>rfl
 | (n,v)::r,m,h=>by
  unfold bindC;rw [ZA3 λw hw=>h w (List.mem_cons_of_mem _ hw)];split
  ·rfl
  ·have:x≠n:=by rintro rfl;exact h v List.mem_cons_self
   simp [this]
theorem Yr {v:Value}:∀{P:List Str} {vs:List Value} {i:Nat} {m:Str->Option Value},P.Nodup->P[i]? =some x->vs[i]? =some v->kindOf x=some .local->
  bindL kindOf (P.zip vs) m x=some v
 | [],_,_,_,_,h,_,_=>by simp at h
 | _::_,[],_,_,_,_,h,_=>by simp at h
 | p::P,w::vs,0,m,nd,h1,h2,hk=>by simp at h1 h2;subst h1;subst h2;show bindL kindOf ((p,w)::P.zip vs) m p=_;unfold bindL;rw [ZBQ λv hv=>(List.nodup_cons.mp nd).1 (List.of_mem_zip hv).1,if_pos hk];simp
 | p::P,w::vs,i + 1,m,nd,h1,h2,hk=>by show bindL kindOf ((p,w)::P.zip vs) m x=_;unfold bindL;exact Yr (i:=i) (List.nodup_cons.mp nd).2 (by simpa using h1) (by simpa using h2) hk
theorem Yq {v:Value}:∀{P:List Str} {vs:List Value} {i:Nat} {m:Str->Option Value},P.Nodup->P[i]? =some x->vs[i]? =some v->kindOf x≠some .local->
  bindC kindOf (P.zip vs) m x=some v
 | [],_,_,_,_,h,_,_=>by simp at h
 | _::_,[],_,_,_,_,h,_=>by simp at h
 | p::P,w::vs,0,m,nd,h1,h2,hk=>by simp at h1 h2;subst h1;subst h2;show bindC kindOf ((p,w)::P.zip vs) m p=_;unfold bindC;rw [ZA3 λv hv=>(List.nodup_cons.mp nd).1 (List.of_mem_zip hv).1,if_neg hk];simp
 | p::P,w::vs,i + 1,m,nd,h1,h2,hk=>by show bindC kindOf ((p,w)::P.zip vs) m x=_;unfold bindC;exact Yq (i:=i) (List.nodup_cons.mp nd).2 (by simpa using h1) (by simpa using h2) hk
def start (N:List Str) (vs:List V):St:=vs.map some++List.replicate (N.length - vs.length) none
def J6 (CX:CXT) (P:Program) (w:World) (K:PySem.W.Frag) (mg:Str->Option Value) (base:Heap) (N:List Str) (qual:Str) (scope:Scope) (f:Addr) (cd:Value) (A:Around) (outer:List Env) (s:Shared) (H:Hp) (E:XK):Cx where
 prog:=P
 w:=w
 K:=K
 mg:=mg
 base:=base
 A:=A.deeper (envOfC qual scope s.heap.objs.size f cd)
 N:=N
 s₀:=s
 H₀:=H
 env:=envOfC qual scope s.heap.objs.size f cd
 outer:=outer
 stack:=envOfC qual scope s.heap.objs.size f cd::outer
 ex:= []
 calm:=true
 fn:=λ_=>true
 pn:= []
 xe:=λe s'=>wpAny (model P w) (A.deeper (envOfC qual scope s.heap.objs.size f cd)) (leaving (envOfC qual scope s.heap.objs.size f cd) e) (λ_ s''=>CX outer H s E e s'') (λe' s''=>CX outer H s E e' s'') s'
theorem ZAY {sc:Scope} {n:Nat} (h:sc.names.lookup x=some .cell):∃c,(cellsFrom n sc.names []).lookup x=some c:=by have q:=PySem.W.cellsFrom_some sc.names n [] (.inl h);exact Option.isSome_iff_exists.mp q
theorem ZDj {N:List Str} {qual:Str} {scope:Scope} {cd:Value} {outer:List Env} {s1:Shared} {E:XK} {vs:List V}
  (S:FnScope N ps scope) (hd:A.handled=none) (e0:Env0 P w K mg base A outer s H) (hl:vs.length=ps.length) (r:Vals vs us)
  (x:InCallC s s.heap.objs.size (bindL (envOfC qual scope s.heap.objs.size f cd).kindOf (ps.zip us) λ_=>none) (cellsFrom (s.heap.objs.size + 1) scope.names []) (bindC (envOfC qual scope s.heap.objs.size f cd).kindOf (ps.zip us) λ_=>none) s1):
  Inv (J6 CX P w K mg base N qual scope f cd A outer s H E) [] (start N vs) H s1:=by
 have hpl:ps.length<=N.length:=by have:=congrArg List.length S.pre;rw [List.length_take] at this;omega
 obtain ⟨h1,tk,rfl,hk⟩:=x.done
 have noA:∀b:Addr,b ∉ (J6 CX P w K mg base N qual scope f cd A outer s H E).ex:=λb z=>absurd (show b∈([]:List Addr) from z) (by simp)
 refine ⟨⟨e0.mod,S.kind,rfl,rfl,Nat.le_refl _,λy z c h1 h2=> ?_,λy hy=> ?_,λy c _ h=> ?_,λ_=>hd,Around.frames_deeper e0.frames,.inr ⟨rfl,rfl⟩,λb z=>absurd z (noA b),e0.bs,e0.bsz,λb _ _=>noA b,λb z=>absurd z (noA b),e0.funs,e0.frf⟩,
  rfl,e0.bare,Un.kept hk,⟨_,x.toInCall.ns,λi y v h1 h2 h3=> ?_⟩,λy c h=>⟨_,x.cell y c h⟩,e0.hok.fresh (Nat.le_refl _),λy c h=> ?_,λp hp=>absurd (show p∈([]:List (Addr×Obj)) from hp) (by simp),e0.hok.kept hk,?_⟩
 ·exact name_of_addr x.apart (PySem.mem_of_lookup h1) (PySem.mem_of_lookup h2)
 ·have hy:scope.names.lookup y=some .cell∨scope.names.lookup y=some .free:=hy;rcases hy with hy | hy
  ·exact ZAY hy
  ·exact absurd rfl (S.nofree _ (PySem.mem_of_lookup hy))
 ·exact Nat.le_of_lt (x.above y c (PySem.mem_of_lookup h))
 ·have hi:i < vs.length:=by
   unfold start at h2;by_cases hi:i < vs.length
   ·exact hi
   ·rw [List.getElem?_append_right (by simpa using hi)] at h2;rw [List.getElem?_replicate] at h2
    split at h2 <;> cases h2
  have ha:vs[i]? =some v:=by
   unfold start at h2;rw [List.getElem?_append_left (by simpa using hi),List.getElem?_map] at h2;cases e:vs[i]? with
   | none=>rw [e] at h2;cases h2
   | some a=>rw [e] at h2;cases h2;rfl
  obtain ⟨u,hu,rv⟩:=r.get ha;have hp:ps[i]? =some y:=by rw [<-S.pre,List.getElem?_take_of_lt (by omega)];exact h1
  have ndP:ps.Nodup:=by rw [<-S.pre];exact S.nd.sublist (List.take_sublist _ _)
  refine ⟨u,rv,?_⟩;rcases S.par y (List.mem_of_getElem? hp) with k | k
  ·exact .inl ⟨k,Yr ndP hp hu k⟩
  ·obtain ⟨c,e⟩:=ZAY (n:=s.heap.objs.size + 1) k;refine .inr ⟨.inl k,c,e,?_⟩;have q:=x.cell y c e;rw [Yq ndP hp hu (by show scope.names.lookup y≠_;rw [k];decide)] at q;exact q
 ·exact e0.hok.fresh (Nat.le_of_lt (x.above y c (PySem.mem_of_lookup h)))
 ·unfold start;show _=N.length;rw [List.length_append,List.length_map,List.length_replicate];omega
theorem ZCC {name qual:Str} {params:Arguments} {body:List Stmt} {scope:Scope} {dV kV doc pm cdv ct oc:Value} {an od:Option Addr}
  {osl:Array (Option Value)} {N ps:List Str} {sp:Sp} (lk:K.lookup f=some ⟨oc,od,.func (PySem.W.fnOf name qual params body scope dV kV doc pm an cdv ct),osl⟩) (hcd:PySem.W.codeIn K cdv qual=true) (S:FnScope N ps scope)
  (len:∀vs H Q E,sp vs H Q E->vs.length=ps.length)
  (hbody:∀(A:Around) (outer:List Env) (s:Shared) (H:Hp) (vs:List V) (Q:VK) (E:XK),Room k (A.deeper (envOfC qual scope s.heap.objs.size f cdv))->sp vs H Q E->
   ∃t,PSs (J6 CX P w K mg base N qual scope f cdv A outer s H E) body t/\t {nx:=λ_ H'=>Q .non H',rt:=Q} (start N vs) H):
  FnOk P w K mg base CX (k + 1) f (PySem.W.fnOf name qual params body scope dV kV doc pm an cdv ct) ps sp:=by
 refine ⟨len,λA outer s H args us vs Q E hr e0 hb r hsp=> ?_⟩;have hl:=len _ _ _ _ hsp;have KX:K.In s.heap:=e0.mod.kin.keeps λb o e=>(e0.bs b o e).1
 have lim:s.heap.NoLimit:=e0.mod.nolimit.keeps λb o e=>(e0.bs b o e).1
 have hkind:∀y∈ps.zip us,scope.names.lookup y.1=some .local∨(scope.names.lookup y.1=some .cell/\((cellsFrom (s.heap.objs.size + 1) scope.names []).lookup y.1).isSome=true):=λ⟨n,v⟩ hy=>by
  rcases S.par n (List.of_mem_zip hy).1 with q | q
  ·exact .inl q
  ·exact .inr ⟨q,PySem.W.cellsFrom_some _ _ _ (.inl q)⟩
 refine codeAny_call_function hr.depth (KX _ _ lk) rfl S.co S.gen rfl (PySem.W.codeRec_of KX hcd) (hb _ _ _ _ ?_);refine wpAny_newFunctionEnv_cells S.kind hkind λenv he s1 x=> ?_
 subst he;refine ⟨lim.keeps x.toInCall.keep,codeAny_func ?_⟩;obtain ⟨t,ht,hq⟩:=hbody A outer s H vs Q E (hr.deeper _) hsp;have I:Inv (J6 CX P w K mg base N qual scope f cdv A outer s H E) [] (start N vs) H s1:=ZDj S hr.hd e0 hl r x;refine wpAny_mono (ht [] s1 (start N vs) H _ I hq) (λfl s' hs=> ?_) λe s' hs=>hs
 have fin:∀{σ':St} {H':Hp} {v:V} {u:Value},Inv (J6 CX P w K mg base N qual scope f cdv A outer s H E) [] σ' H' s'->RelV v u->Q v H'->CE outer P w H s Q u s':=
  λ{σ' H' v u} J rv q=>⟨v,H',J.os,J.bare,J.base,J.hok,rv,q⟩
 cases fl with
 | ret u=>
  obtain ⟨v,σ',H',J,rv,q⟩:=hs;exact fin J rv q
 | next=>
  obtain ⟨σ',H',J,q⟩:=hs;exact fin (v:=V.non) (u:=Value.none) J rfl q
 | brk=>
  obtain ⟨_,_,_,q⟩:=hs;exact False.elim q
 | cont=>
  obtain ⟨_,_,_,q⟩:=hs;exact False.elim q
section
variable {X:Cx} {x:Str} {p pos:Pos} {e:Expr} {es:List Expr} {t:TA} {id T:String} {r:List V->Hp->VK->Prop}
def tCB (r:List V->Hp->VK->Prop) (t:TA):TE:=λσ H Q=>t σ H λvs H1=>r vs H1 Q
theorem ZGU (hc:CallR X (.builtin id) r) (hg:Gl X x) (hm:X.mg x=none) (hv:bootBuiltins x=some (.builtin id)) (ha:PA X (e::es) t) (hn:x≠"__name__":=by decide) (hdb:(x == ("__debug__":Str))=false:=by decide)
  (he:starEach (e::es) X.env=(false,eval e X.env)::starEach es X.env:=by rfl) (hpl:(backTo pos (starEach es X.env)).any (·.1)=false:=by rfl):PE X (.Call (.Name x p) (e::es) [] pos) (tCB r t):=by
 intro pins s σ H Q I h;refine wpAny_Call_Name_kw (Lr I hg hm hv ?_ hn hdb);exact PyProof.Rows.callWith_builtin1 (thn (ha pos pins s σ H _ I h) λus s1 ⟨vs,H1,I1,r1,q1⟩=>hc pins s1 σ H1 vs us Q I1 r1 q1) he hpl
theorem ZGC (hc:CallR X (.type T) r) (hg:Gl X x) (hm:X.mg x=none) (hv:bootBuiltins x=some (.type T)) (ha:PA X (e::es) t) (hn:x≠"__name__":=by decide) (hdb:(x == ("__debug__":Str))=false:=by decide)
  (he:starEach (e::es) X.env=(false,eval e X.env)::starEach es X.env:=by rfl) (hpl:(backTo pos (starEach es X.env)).any (·.1)=false:=by rfl):PE X (.Call (.Name x p) (e::es) [] pos) (tCB r t):=by
 intro pins s σ H Q I h;refine wpAny_Call_Name_kw (Lr I hg hm hv ?_ hn hdb);exact PyProof.Rows.callWith_type1 (thn (ha pos pins s σ H _ I h) λus s1 ⟨vs,H1,I1,r1,q1⟩=>hc pins s1 σ H1 vs us Q I1 r1 q1) he hpl
end
end L2
namespace HT
open PySem PyProof.Rows
section
open PySem.SeqAt
open PySem.AutoSeq1 (wpAny_loadPart')
open PySem.MeetsSeq PySem.MeetsSeq2 PySem.MeetsSeq3
end
section
variable {prog:Program} {w:World} {A:Around} {E:Value->Shared->Prop} {s:Shared}
theorem ZCE {t b:Addr} {vs ws:List Value} {Q:Value->Shared->Prop} (ht:IsTup s.heap t vs.toArray) (hb:IsTup s.heap b ws.toArray) (hv:vs≠ [])
  (h1:ws= []->Q (.ref t) s) (h2:ws≠ []->Q (.ref s.heap.objs.size) {s with heap:=s.heap.push {cls:=.type "tuple",data:=.seq (vs++ws).toArray}})
  (hsz:vs.length + ws.length<=sizeLine):wpAny (model prog w) A (binaryOp .Add (.ref t) (.ref b)) Q E s:=by
 obtain ⟨⟨cls,dd,data,sl⟩,ho,hc,n,hd⟩:=id ht;obtain ⟨⟨cls2,dd2,data2,sl2⟩,ho2,hc2,n2,hd2⟩:=id hb;simp only at hc hd hc2 hd2;subst hc hd hc2 hd2;have e:vs.toArray++ws.toArray=(vs++ws).toArray:=by simp
 by_cases hw:ws= []
 ·exact concat_meets ⟨_,ho,rfl⟩ ⟨_,ho2,rfl⟩ noFill_tuple_add seq_tuple_add PySem.F.slot_tuple_add PySem.F.entry_tuple_add (PySem.F.args_tuple_add_2 _ _)
   (tuple_addW1 t b vs.toArray ws.toArray n n2 dd dd2 sl sl2 (by simpa using hv) (by simp [hw])) ⟨ho,ho2,h1 hw⟩
 ·refine concat_meets ⟨_,ho,rfl⟩ ⟨_,ho2,rfl⟩ noFill_tuple_add seq_tuple_add PySem.F.slot_tuple_add PySem.F.entry_tuple_add (PySem.F.args_tuple_add_2 _ _)
   (tuple_addW2 t b vs.toArray ws.toArray n n2 dd dd2 sl sl2 (by simpa using hv) (by simpa using hw) (by rw [List.size_toArray,List.size_toArray];exact hsz)) ⟨ho,ho2,?_⟩
  rw [e];exact h2 hw
def sIx (n d:Nat):Option Int->Nat
 | none=>d
 | some v=>if v < 0 then (v + (n:Int)).toNat else min v.toNat n
theorem Yu (n d:Nat) (hd:d<=n) (o:Option Int):sIx n d o<=n:=by
 cases o with
 | none=>exact hd
 | some v=>
  show (if v < 0 then (v + (n:Int)).toNat else min v.toNat n)<=n;by_cases hv:v < 0
  ·rw [if_pos hv];omega
  ·rw [if_neg hv];exact Nat.min_le_right _ _
theorem Zf (v:Int) (n d:Nat):(if v < 0 then max (v + (n:Int)) 0 else min v (n:Int))=((sIx n d (some v):Nat):Int):=by
 show (if v < 0 then max (v + (n:Int)) 0 else min v (n:Int))=(((if v < 0 then (v + (n:Int)).toNat else min v.toNat n):Nat):Int);by_cases hv:v < 0
 ·simp only [if_pos hv];omega
 ·simp only [if_neg hv];omega
theorem ZB6 (lo hi:Option Int) (n:Nat):Builtin.Slice.sliceAdjust lo hi 1 (n:Int)=(((sIx n 0 lo:Nat):Int),((sIx n n hi:Nat):Int)):=by
 have h1:¬((1:Int) < 0):=by omega
 unfold Builtin.Slice.sliceAdjust;simp only [h1,if_false];refine Prod.ext ?_ ?_
 ·cases lo with
  | none=>rfl
  | some v=>exact Zf v n 0
 ·cases hi with
  | none=>rfl
  | some v=>exact Zf v n n
theorem ZEa (i j:Nat):Builtin.Slice.slicePlaces (i:Int) (j:Int) 1=j - i:=by
 unfold Builtin.Slice.slicePlaces;have h1:(1:Int) > 0:=by omega
 simp only [h1,if_true,Int.ediv_one]
 split <;> omega
theorem Yg {v:Value} {o:Option Int} {Q:Option Int->Shared->Prop} (p:IsPart v o) (h:Q o s):wpAny (model prog w) A (Builtin.Slice.slicePartIndex v) Q E s:=by
 cases p with
 | none=>exact slicePart_none h
 | int i t=>exact slicePart_int h
theorem ZBB {sl:Addr} {vl vu:Value} {lo hi:Option Int} {n:Nat} {Q:Int×Int×Nat->Shared->Prop} (hs:s.heap.IsSliceOf sl vl vu .none) (pl:IsPart vl lo) (pu:IsPart vu hi)
  (h:Q (((sIx n 0 lo:Nat):Int),1,sIx n n hi - sIx n 0 lo) s):wpAny (model prog w) A (Builtin.Slice.sliceApplied (.ref sl) (pure (n:Int))) Q E s:=by
 obtain ⟨os,hos,hcs,hds⟩:=id hs;unfold Builtin.Slice.sliceApplied Builtin.Slice.sliceFields;refine wpAny_bind (wpAny_bind (wpAny_field hos hds (x:=vl) rfl (wpAny_bind (wpAny_field hos hds (x:=vu) rfl (wpAny_bind (wpAny_field hos hds (x:=.none) rfl (wpAny_pure ?_)))))));refine wpAny_bind (slicePart_none ?_);show wpAny _ _ (if ((1:Int) == 0)=true then _ else _) _ _ s;rw [if_neg (by decide)];refine wpAny_bind (Yg pl (wpAny_bind (Yg pu (wpAny_bind (wpAny_pure ?_)))))
 show wpAny _ _ (match Builtin.Slice.sliceAdjust lo hi 1 (n:Int) with | (lo,hi)=>pure (lo,(1:Int),Builtin.Slice.slicePlaces lo hi 1)) _ _ s
 rw [ZB6 lo hi n];show wpAny _ _ (pure (((sIx n 0 lo:Nat):Int),(1:Int),Builtin.Slice.slicePlaces ((sIx n 0 lo:Nat):Int) ((sIx n n hi:Nat):Int) 1)) _ _ s;rw [ZEa];exact wpAny_pure h
theorem ZFs (xs:Array Value) (i k:Nat):((List.range k).filterMap λ(m:Nat)=>xs[((i:Int) + (m:Int) * 1).toNat]?).toArray=((xs.toList.drop i).take k).toArray:=by
 have e:(λ(m:Nat)=>xs[((i:Int) + (m:Int) * 1).toNat]?)=λm=>xs[i + m]? :=by
  funext m;have:((i:Int) + (m:Int) * 1).toNat=i + m:=by omega
  rw [this]
 rw [e];have:=pick_run xs i k;rw [List.filterMap_map] at this;have e2:((λx=>xs[x]?) ∘ λx=>i + x)=λm=>xs[i + m]? :=rfl
 rw [e2] at this;rw [this]
theorem ZFR {t sl:Addr} {items:Array Value} {vl vu:Value} {lo hi:Option Int} {Q:Value->Shared->Prop} (ht:IsTup s.heap t items) (hs:s.heap.IsSliceOf sl vl vu .none) (pl:IsPart vl lo) (pu:IsPart vu hi)
  (hw:¬(sIx items.size 0 lo=0/\sIx items.size items.size hi=items.size))
  (h:Q (.ref s.heap.objs.size) {s with heap:=s.heap.push {cls:=.type "tuple",data:=.seq ((items.toList.drop (sIx items.size 0 lo)).take (sIx items.size items.size hi - sIx items.size 0 lo)).toArray}})
  (hsz:items.size<=sizeLine):wpAny (model prog w) A (getItem (.ref t) (.ref sl)) Q E s:=by
 have htake:sizeOk (.seq ((items.toList.drop (sIx items.size 0 lo)).take (sIx items.size items.size hi - sIx items.size 0 lo)).toArray):=by show ((items.toList.drop (sIx items.size 0 lo)).take (sIx items.size items.size hi - sIx items.size 0 lo)).toArray.size<=sizeLine;rw [List.size_toArray,List.length_take,List.length_drop,Array.length_toList];omega
 have hj:sIx items.size items.size hi<=items.size:=Yu _ _ (Nat.le_refl _) hi;obtain ⟨os,hos,hcs,hds⟩:=id hs;have hTs:s.TypeIs (.ref sl) "slice":=⟨os,hos,hcs⟩;unfold getItem
 try with_reducible refine wpAny_holding ?_
 first | refine wpAny_bind (wpAny_pure ?_) | skip
 refine wpAny_bind (wpAny_sequenceKey ht.typeIs (by decide) ?_);refine wpAny_bind (wpAny_callSpecial?_slot (name:=Str.ofString "__getitem__") ht.typeIs PyProof.Rows.slot_tuple_getitem
  (wpAny_call_entry PyProof.Rows.slot_tuple_getitem ht.typeIs entry_tuple_getitem ?_ (args_tuple_getitem _ _)))
 show wpAny _ _ (Builtin.Tuple.tupleItemsOf (.ref t) >>=_) _ _ s;refine wpAny_bind (tupleItemsOf_ ht ?_);refine wpAny_bind (wpAny_typeOf hTs ?_);rw [if_pos (by decide)];refine wpAny_bind (ZBB hs pl pu ?_);have hno:¬((((sIx items.size 0 lo:Nat):Int) == 0 && (1:Int) == 1 && (sIx items.size items.size hi - sIx items.size 0 lo) == items.size)=true):=by intro q;rw [Bool.and_eq_true,Bool.and_eq_true] at q;have q1:((sIx items.size 0 lo:Nat):Int)=0:=eq_of_beq q.1.1;have q2:sIx items.size items.size hi - sIx items.size 0 lo=items.size:=eq_of_beq q.2;exact hw ⟨by omega,by omega⟩
 show wpAny _ _ (if (((sIx items.size 0 lo:Nat):Int) == 0 && (1:Int) == 1 && (sIx items.size items.size hi - sIx items.size 0 lo) == items.size)=true then _ else _) _ _ s;rw [if_neg hno,ZFs]
 first
  | exact wpAny_bind (m:=Builtin.Tuple.tupleExact _) (wpAny_newObj_type (wpAny_pure ⟨_,rfl,wpAny_pure h⟩) htake)
  | exact wpAny_bind (m:=Builtin.Tuple.tupleExact _) (wpAny_newObj_type (wpAny_bind (wpAny_pure (wpAny_pure ⟨_,rfl,wpAny_pure h⟩))) htake)
  | exact wpAny_bind (wpAny_bind (m:=Builtin.Tuple.tupleExact _) (wpAny_newObj_type (wpAny_pure (wpAny_pure ⟨_,rfl,wpAny_pure h⟩)) htake))
  | exact wpAny_bind (wpAny_bind (m:=Builtin.Tuple.tupleExact _) (wpAny_newObj_type (wpAny_pure ⟨_,rfl,wpAny_pure h⟩) htake))
end
end HT
namespace L2
open PySem PySem.Spec PyProof.Rows
variable {xs:List V} {s:Shared} {v:Value}
abbrev TO:=St->Hp->(Option Int->Hp->Prop)->Prop
def PO (X:Cx) (e:Option Expr) (t:TO):Prop:=
 ∀(pins:List (Addr×Obj)) (s:Shared) (σ:St) (H:Hp) (Q:Option Int->Hp->Prop),Inv X pins σ H s->t σ H Q->
  wpAny (model X.prog X.w) X.A (evalPart e X.env) (λu s'=>∃o H',Inv X pins σ H' s'/\IsPart u o/\Q o H') X.xe s
def ZCx:TO:=λ_ H Q=>Q none H
def ZBl (t:TE):TO:=λσ H Q=>t σ H λx H1=>∃i,x=.int i/\Q (some i) H1
section
variable {X:Cx} {e:Expr} {te:TE} {lo hi:Option Expr} {tl th:TO} {pos p2:Pos}
theorem ZC2:PO X none ZCx:=by intro pins s σ H Q I h;rw [evalPart_none];exact wpAny_pure ⟨none,H,I,.none,h⟩
theorem ZCG (h:PE X e te):PO X (some e) (ZBl te):=by
 intro pins s σ H Q I hw;rw [evalPart_some];refine thn (h pins s σ H _ I hw) λu s1 ⟨x,H1,I1,r1,q1⟩=> ?_
 obtain ⟨i,rfl,q⟩:=q1;obtain ⟨t,rfl⟩:=r1;exact ⟨some i,H1,I1,.int i t,q⟩
def SlR (X:Cx) (r:V->Option Int->Option Int->Hp->VK->Prop):Prop:=
 ∀(pins:List (Addr×Obj)) (s:Shared) (σ:St) (H:Hp) (x:V) (v vl vu:Value) (lo hi:Option Int) (sl:Addr) (Q:VK),Inv X pins σ H s->RelV x v->s.heap.IsSliceOf sl vl vu .none->IsPart vl lo->IsPart vu hi->r x lo hi H Q->
  ∃T id,typeLookup (.type T) "__getitem__"=pure (some (.builtin id))/\s.TypeIs v T/\wpAny (model X.prog X.w) X.A (getItem v (.ref sl)) (EP X pins σ Q) X.xe s
theorem SlR.or {r r':V->Option Int->Option Int->Hp->VK->Prop} (h:SlR X r) (h':SlR X r'):SlR X (λx lo hi H Q=>r x lo hi H Q∨r' x lo hi H Q):=by
 intro pins s σ H x v vl vu lo hi sl Q I rx hs pl pu q;rcases q with q | q
 ·exact h pins s σ H x v vl vu lo hi sl Q I rx hs pl pu q
 ·exact h' pins s σ H x v vl vu lo hi sl Q I rx hs pl pu q
def tSl (r:V->Option Int->Option Int->Hp->VK->Prop) (te:TE) (tl th:TO):TE:=λσ H Q=>te σ H λx H1=>tl σ H1 λl H2=>th σ H2 λu H3=>r x l u H3 Q
theorem ZD4 {r:V->Option Int->Option Int->Hp->VK->Prop} (hr:SlR X r) (he:PE X e te) (hl:PO X lo tl) (hu:PO X hi th):PE X (.Subscript e (.Slice lo hi none p2) pos) (tSl r te tl th):=by
 intro pins s σ H Q I h;refine Subscript_ (thn (he pins s σ H _ I h) λv s1 ⟨x,H1,I1,r1,q1⟩=> ?_);refine wpAny_Slice (thn (hl pins s1 σ H1 _ I1 q1) λvl s2 ⟨l,H2,I2,pl,q2⟩=>thn (hu pins s2 σ H2 _ I2 q2) λvu s3 ⟨u,H3,I3,pu,q3⟩=> ?_);rw [evalPart_none];refine wpAny_pure ?_;have I4:Inv X pins σ H3 {s3 with heap:=s3.heap.push {cls:=.type "slice",data:=.fields #[vl,vu,.none]}}:=I3.kept (t':=s3.toks) λb ob q=>Heap.get?_push_of_some _ q
 obtain ⟨T,id,hT,ht,hg⟩:=hr pins {s3 with heap:=s3.heap.push {cls:=.type "slice",data:=.fields #[vl,vu,.none]}} σ H3 x v vl vu l u s3.heap.objs.size Q I4 r1 (Heap.IsSliceOf.new ..) pl pu q3;show wpAny (model X.prog X.w) X.A (subscriptTail e (.Slice lo hi none p2) v (.ref s3.heap.objs.size)) (EP X pins σ Q) X.xe {s3 with heap:=s3.heap.push {cls:=.type "slice",data:=.fields #[vl,vu,.none]}}
 exact tail_any (ops:= [.ref s3.heap.objs.size,v]) ht hT hg (by with_unfolding_all rfl)
def Hu (xs:List V) (lo hi:Option Int):List V:=(xs.drop (HT.sIx xs.length 0 lo)).take (HT.sIx xs.length xs.length hi - HT.sIx xs.length 0 lo)
theorem Yt (xs:List V) (lo hi:Option Int):(Hu xs lo hi).length<=xs.length:=by unfold Hu;rw [List.length_take,List.length_drop];omega
def rSlT (K:PySem.W.Frag):V->Option Int->Option Int->Hp->VK->Prop:=λx lo hi H Q=>∃a xs,x=.ref a/\SqT K H a xs/\
 ¬(HT.sIx xs.length 0 lo=0/\HT.sIx xs.length xs.length hi=xs.length)/\∀p,H p=none->Q (.ref p) (upd H p (.tup (Hu xs lo hi)))
theorem ZCd:SlR X (rSlT X.K):=by
 intro pins s σ H x v vl vu lo hi sl Q I rx hs pl pu h;obtain ⟨a,xs,rfl,hx,hw,q⟩:=h;cases rx;obtain ⟨its,r,ht,hz⟩:=I.tuple hx;have hlen:its.toArray.size=xs.length:=by rw [List.size_toArray];exact r.length.symm
 refine ⟨"tuple",_,PyProof.Rows.slot_tuple_getitem.lookup,ht.typeIs,?_⟩;refine HT.ZFR ht hs pl pu (by rw [hlen];exact hw) ?_ (by rw [hlen];exact hz);rw [hlen];refine ⟨.ref s.heap.objs.size,_,I.laid (t':=s.toks) (o:=.tup (Hu xs lo hi)) (λb ob q=>Heap.get?_push_of_some _ q) (Nat.le_refl _) ?_,rfl,q _ (I.hok.fresh (Nat.le_refl _))⟩;exact ⟨Nat.le_trans (Yt xs lo hi) hz,_,(r.drop (HT.sIx xs.length 0 lo)).take (HT.sIx xs.length xs.length hi - HT.sIx xs.length 0 lo),IsTup.new _ _⟩
def Zm (K:PySem.W.Frag):R2:=λx y H Q=>∃a b xs ys,x=.ref a/\y=.ref b/\SqT K H a xs/\SqT K H b ys/\xs≠ []/\xs.length + ys.length<=sizeLine/\
 (ys= []->Q (.ref a) H)/\(ys≠ []->∀p,H p=none->Q (.ref p) (upd H p (.tup (xs++ys))))
theorem Vals.Tn {us:List Value} (r:Vals xs us):us= []↔xs= []:=by
 cases r with
 | nil=>simp
 | cons _ _=>simp
theorem ZBs:OpR X (binaryOp .Add) (Zm X.K):=by
 intro pins s σ H x y v u Q I rx ry h;obtain ⟨a,b,xs,ys,rfl,rfl,ha,hb,hx,hz,q1,q2⟩:=h;cases rx;cases ry;obtain ⟨its,r1,p1,_⟩:=I.tuple ha;obtain ⟨its2,r2,p2,_⟩:=I.tuple hb;refine HT.ZCE p1 p2 (λz=>hx (r1.Tn.mp z)) (λz=>⟨.ref a,H,I,rfl,q1 (r2.Tn.mp z)⟩) (λz=> ?_) (by rw [<-r1.length,<-r2.length];exact hz);refine ⟨.ref s.heap.objs.size,_,I.laid (t':=s.toks) (o:=.tup (xs++ys)) (λb ob q=>Heap.get?_push_of_some _ q) (Nat.le_refl _) ?_,rfl,q2 (λw=>z (r2.Tn.mpr w)) _ (I.hok.fresh (Nat.le_refl _))⟩
 exact ⟨by rw [List.length_append];exact hz,_,r1.append r2,IsTup.new _ _⟩
end
def ixN (n:Nat) (i:Int):Option Nat:=if 0<=i then (if i < n then some i.toNat else none) else if -(n:Int)<=i then some (i + n).toNat else none
def atI {α:Type} (xs:List α) (i:Int):Option α:=(ixN xs.length i).bind λj=>xs[j]?
theorem ZDF {n:Nat} {i:Int} {j:Nat} (h:ixN n i=some j):seqIndex? i n=some j/\j < n/\ -(n:Int)<=i/\i < n:=by
 unfold ixN at h;by_cases h0:0<=i
 ·rw [if_pos h0] at h;by_cases h1:i < n
  ·rw [if_pos h1] at h;have e:i.toNat=j:=Option.some.inj h;exact ⟨by rw [seqIndex_of h0 h1,e],by omega,by omega,h1⟩
  ·rw [if_neg h1] at h;cases h
 ·rw [if_neg h0] at h;by_cases h1: -(n:Int)<=i
  ·rw [if_pos h1] at h;have e:(i + n).toNat=j:=Option.some.inj h;exact ⟨by rw [seqIndex_neg (by omega) h1,e],by omega,h1,by omega⟩
  ·rw [if_neg h1] at h;cases h
theorem Va {α:Type} {xs:List α} {i:Int} {v:α} (h:atI xs i=some v):∃j,seqIndex? i xs.length=some j/\xs[j]? =some v/\j < xs.length/\ -(xs.length:Int)<=i/\i < xs.length:=by
 unfold atI at h;cases e:ixN xs.length i with
 | none=>rw [e] at h;cases h
 | some j=>
  rw [e] at h;obtain ⟨h1,h2,h3,h4⟩:=ZDF e;exact ⟨j,h1,h,h2,h3,h4⟩
def PlainIx (b:Expr):Prop:=∀o i,subscripted b false o i=operate [o,i] (getItem o i)
def IxR (X:Cx) (r:R2):Prop:=
 ∀(value slice:Expr) (pins:List (Addr×Obj)) (s:Shared) (σ:St) (H:Hp) (x y:V) (v u:Value) (Q:VK),Inv X pins σ H s->RelV x v->RelV y u->r x y H Q->
  subscripted slice false v u=operate [v,u] (getItem v u)->wpAny (model X.prog X.w) X.A (subscriptTail value slice v u) (EP X pins σ Q) X.xe s
def MtR (X:Cx) (id:String) (r:V->List V->Hp->VK->Prop):Prop:=
 ∀(pins:List (Addr×Obj)) (s:Shared) (σ:St) (H:Hp) (x:V) (xs:List V) (v:Value) (us:List Value) (Q:VK),Inv X pins σ H s->RelV x v->Vals xs us->r x xs H Q->
  wpAny (model X.prog X.w) X.A (call (.builtin id) (v::us)) (EP X pins σ Q) X.xe s
section
variable {X:Cx} {a b:Expr} {ta tb:TE} {pos:Pos}
theorem IxR.or {r r':R2} (h:IxR X r) (h':IxR X r'):IxR X (λx y H Q=>r x y H Q∨r' x y H Q):=by
 intro value slice pins s σ H x y v u Q I rx ry q hs;rcases q with q | q
 ·exact h value slice pins s σ H x y v u Q I rx ry q hs
 ·exact h' value slice pins s σ H x y v u Q I rx ry q hs
theorem ZBe {r:R2} (hr:IxR X r) (ha:PE X a ta) (hb:PE X b tb) (hs:PlainIx b):PE X (.Subscript a b pos) (tOp r ta tb):=by intro pins s σ H Q I h;exact Subscript_ (Wa ha hb I h λv u s2 x y H2 I2 rx ry q=>hr a b pins s2 σ H2 x y v u Q I2 rx ry q (hs _ _))
def rIxL (K:PySem.W.Frag):R2:=λx y H Q=>∃p xs i v,x=.ref p/\y=.int i/\SqL K H p xs/\atI xs i=some v/\Q v H
def rIxT (K:PySem.W.Frag):R2:=λx y H Q=>∃p xs i v,x=.ref p/\y=.int i/\SqT K H p xs/\atI xs i=some v/\Q v H
def rIxS:R2:=λx y H Q=>∃z i c,x=.str z/\y=.int i/\z.length<=sizeLine/\atI z.cps.toList i=some c/\Q (.str ⟨#[c]⟩) H
theorem ZFO:IxR X (rIxL X.K):=by
 intro value slice pins s σ H x y v u Q I rx ry h hs;obtain ⟨p,xs,i,z,rfl,rfl,hq,he,q⟩:=h;cases rx;obtain ⟨t,rfl⟩:=ry;obtain ⟨its,r,pl,hz⟩:=I.list hq;obtain ⟨j,h1,h2,h3,h4,h5⟩:=Va he;obtain ⟨w,ew,rw'⟩:=r.get h2;have hl:=r.length;have hn:=line63;have fin:EP X pins σ Q w s:=⟨z,H,I,rw',q⟩;by_cases h0:0<=i
 ·have hj:i.toNat=j:=by rw [seqIndex_of h0 h5] at h1;exact Option.some.inj h1
  exact item_listR pl.isList h0 (by omega) (by rw [hj];simpa using ew) fin hs
 ·have hj:(i + (its.toArray.size:Int)).toNat=j:=by rw [seqIndex_neg (by omega) h4] at h1;rw [List.size_toArray,<-hl];exact Option.some.inj h1
  exact subscriptTail_builtinR (x:=w) pl.isList.typeIs slot_list_getitem.lookup
   (wpAny_getItem_list_neg (Q:=λr s'=>r=w/\EP X pins σ Q r s') pl.isList (by omega) (by rw [List.size_toArray] <;> omega) (by omega) (by rw [hj];simpa using ew) ⟨rfl,fin⟩) hs
theorem ZCV:IxR X (rIxT X.K):=by
 intro value slice pins s σ H x y v u Q I rx ry h hs;obtain ⟨p,xs,i,z,rfl,rfl,hq,he,q⟩:=h;cases rx;obtain ⟨t,rfl⟩:=ry;obtain ⟨its,r,pl,hz⟩:=I.tuple hq;obtain ⟨j,h1,h2,h3,h4,h5⟩:=Va he;obtain ⟨w,ew,rw'⟩:=r.get h2;have hl:=r.length;have hn:=line63;have fin:EP X pins σ Q w s:=⟨z,H,I,rw',q⟩;exact subscriptTail_builtinR (x:=w) pl.typeIs slot_tuple_getitem.lookup
  (getItem_tuple (j:=j) (Q:=λr s'=>r=w/\EP X pins σ Q r s') pl (by omega) (by omega) (by rw [List.size_toArray,<-hl];exact h1) (by simpa using ew) ⟨rfl,fin⟩) hs
theorem ZBh:IxR X rIxS:=by
 intro value slice pins s σ H x y v u Q I rx ry h hs;obtain ⟨z,i,c,rfl,rfl,hz,he,q⟩:=h;obtain ⟨t,rfl⟩:=rx;obtain ⟨t',rfl⟩:=ry;obtain ⟨j,h1,h2,h3,h4,h5⟩:=Va he;have hl:z.cps.toList.length=z.length:=by simp [Str.length]
 rw [hl] at h1 h4 h5;have hn:=line63;exact tail_any (typeIs_str s z t) slot_str_getitem.lookup (getItem_str (c:=c) (by have e1:decide (i < -(2 ^ 63:Int))=false:=decide_eq_false (by omega);have e2:decide (i ≥ 2 ^ 63)=false:=decide_eq_false (by omega);rw [e1,e2,Bool.or_false]) (by rw [h1];simpa using h2) ⟨.str ⟨#[c]⟩,H,I.tok _,⟨_,rfl⟩,q⟩) hs
def rIx (K:PySem.W.Frag):R2:=λx y H Q=>rIxL K x y H Q∨rIxT K x y H Q∨rIxS x y H Q
theorem ZFM:IxR X (rIx X.K):=ZFO.or (ZCV.or ZBh)
theorem Inv.lst {pins:List (Addr×Obj)} {σ:St} {H:Hp} {p:Addr} (I:Inv X pins σ H s) (h:H p=some (.lst xs)):
  ∃(its:List Value) (n:Nat),Vals xs its/\s.heap.get? p=some {cls:=.type "list",data:=.seq its.toArray n}/\xs.length<=sizeLine:=by
 obtain ⟨z,its,n,r,e⟩:=I.hok p _ h;exact ⟨its,n,r,e,z⟩
theorem ZDg (lo hi:Option Int) (n:Nat):(sliceBounds lo hi none n).1=((HT.sIx n 0 lo:Nat):Int)/\(sliceBounds lo hi none n).2.1=((HT.sIx n n hi:Nat):Int)/\(sliceBounds lo hi none n).2.2=1:=by
 refine ⟨?_,?_,rfl⟩
 ·cases lo with
  | none=>simp [sliceBounds,HT.sIx]
  | some i=>
   simp only [sliceBounds,HT.sIx,Option.getD_none,show (1:Int) > 0 by decide,if_true];by_cases h:i < 0
   ·simp only [h,if_true] <;> omega
   ·simp only [h,if_false] <;> omega
 ·cases hi with
  | none=>simp [sliceBounds,HT.sIx]
  | some i=>
   simp only [sliceBounds,HT.sIx,Option.getD_none,show (1:Int) > 0 by decide,if_true];by_cases h:i < 0
   ·simp only [h,if_true] <;> omega
   ·simp only [h,if_false] <;> omega
theorem ZD1 (its:List Value) (lo hi:Option Int):slicePick its.toArray lo hi none=((its.drop (HT.sIx its.length 0 lo)).take (HT.sIx its.length its.length hi - HT.sIx its.length 0 lo)).toArray:=by
 obtain ⟨h1,h2,h3⟩:=ZDg lo hi its.toArray.size;unfold slicePick;rw [h1,h2,h3]
 simp only [sliceRange_one,pick_run,List.size_toArray] <;> rfl
def rSlL (K:PySem.W.Frag):V->Option Int->Option Int->Hp->VK->Prop:=λx lo hi H Q=>∃a xs,x=.ref a/\SqL K H a xs/\∀p,H p=none->Q (.ref p) (upd H p (.lst (Hu xs lo hi)))
theorem ZEd:SlR X (rSlL X.K):=by
 intro pins s σ H x v vl vu lo hi sl Q I rx hs pl pu h;obtain ⟨a,xs,rfl,hx,q⟩:=h;cases rx;obtain ⟨its,r,ht,hz⟩:=I.list hx;have hlen:=r.length;refine ⟨"list",_,slot_list_getitem.lookup,ht.isList.typeIs,?_⟩
 refine wpAny_getItem_list_slice ht.isList hs pl pu .none (by simp) ?_ (by rw [List.size_toArray] <;> omega)
 rw [ZD1,<-hlen];refine ⟨.ref s.heap.objs.size,_,I.laid (t':=s.toks) (o:=.lst (Hu xs lo hi)) (λb ob q=>Heap.get?_push_of_some _ q) (Nat.le_refl _) ?_,rfl,q _ (I.hok.fresh (Nat.le_refl _))⟩;exact ⟨Nat.le_trans (Yt xs lo hi) hz,_,0,(r.drop (HT.sIx xs.length 0 lo)).take (HT.sIx xs.length xs.length hi - HT.sIx xs.length 0 lo),Heap.get?_push_size _ rfl⟩
def Ci:V->Bool
 | .non=>true
 | .bl _=>true
 | .int _=>true
 | .str _=>true
 | _=>false
def eqV:V->V->Bool
 | .non,.non=>true
 | .bl a,.bl b=>a == b
 | .bl a,.int b=>(if a then 1 else 0) == b
 | .int a,.bl b=>a == (if b then 1 else 0)
 | .int a,.int b=>a == b
 | .str a,.str b=>a == b
 | _,_=>false
theorem ZA5 {A:Around} {y x:V} {u:Value} (ry:RelV y u) (rx:RelV x v) (fy:Ci y=true) (fx:Ci x=true):SeqAt.EqAt A s u v (eqV y x):=by
 cases y with
 | non=>
  cases ry;cases x with
  | non=>cases rx;exact SeqAt.EqAt.same _
  | bl b=>cases rx;exact SeqAt.EqAt.none_bool b
  | int b=>obtain ⟨t,rfl⟩:=rx;exact SeqAt.EqAt.none_int b t
  | str b=>obtain ⟨t,rfl⟩:=rx;exact SeqAt.EqAt.none_str b t
  | _=>exact absurd (show false=true from fx) Bool.false_ne_true
 | bl a=>
  cases ry;cases x with
  | non=>cases rx;exact SeqAt.EqAt.bool_none a
  | bl b=>cases rx;exact SeqAt.EqAt.bool_bool a b
  | int b=>obtain ⟨t,rfl⟩:=rx;exact SeqAt.EqAt.bool_int a b t
  | str b=>obtain ⟨t,rfl⟩:=rx;exact SeqAt.EqAt.bool_str a b t
  | _=>exact absurd (show false=true from fx) Bool.false_ne_true
 | int a=>
  obtain ⟨t',rfl⟩:=ry;cases x with
  | non=>cases rx;exact SeqAt.EqAt.int_none a t'
  | bl b=>cases rx;exact SeqAt.EqAt.int_bool a t' b
  | int b=>obtain ⟨t,rfl⟩:=rx;exact SeqAt.EqAt.int_int a t' b t
  | str b=>obtain ⟨t,rfl⟩:=rx;exact SeqAt.EqAt.int_str a t' b t
  | _=>exact absurd (show false=true from fx) Bool.false_ne_true
 | str a=>
  obtain ⟨t',rfl⟩:=ry;cases x with
  | non=>cases rx;exact SeqAt.EqAt.str_none a t'
  | bl b=>cases rx;exact SeqAt.EqAt.str_bool a t' b
  | int b=>obtain ⟨t,rfl⟩:=rx;exact SeqAt.EqAt.str_int a t' b t
  | str b=>obtain ⟨t,rfl⟩:=rx;exact SeqAt.EqAt.str_str a t' b t
  | _=>exact absurd (show false=true from fx) Bool.false_ne_true
 | _=>exact absurd (show false=true from fy) Bool.false_ne_true
def eqU (x:V) (u:Value):Bool:=match u with
 | .none=>eqV .non x
 | .bool b=>eqV (.bl b) x
 | .int i _=>eqV (.int i) x
 | .str z _=>eqV (.str z) x
 | _=>false
theorem ZBL {x y:V} {u:Value} (r:RelV y u) (f:Ci y=true):eqU x u=eqV y x:=by
 cases y with
 | non=>cases r;rfl
 | bl b=>cases r;rfl
 | int i=>obtain ⟨t,rfl⟩:=r;rfl
 | str z=>obtain ⟨t,rfl⟩:=r;rfl
 | _=>exact absurd (show false=true from f) Bool.false_ne_true
theorem Ti {x:V}:∀{xs:List V} {us:List Value},Vals xs us->xs.all Ci=true->us.any (eqU x)=xs.any λy=>eqV y x
 | _,_,.nil,_=>rfl
 | y::xs,u::us,.cons r t,f=>by rw [List.all_cons,Bool.and_eq_true] at f;rw [List.any_cons,List.any_cons,ZBL r f.1,Ti t f.2]
theorem Vj {A:Around} {x:V} (rx:RelV x v) (fx:Ci x=true):∀{xs:List V} {us:List Value},Vals xs us->xs.all Ci=true->∀u∈us,SeqAt.EqAt A s u v (eqU x u)
 | _,_,.nil,_=>λu hu=>by cases hu
 | y::xs,u::us,.cons r t,f=>λu' hu=>by
  rw [List.all_cons,Bool.and_eq_true] at f;rcases List.mem_cons.mp hu with rfl | hu
  ·rw [ZBL r f.1];exact ZA5 r rx f.1 fx
  ·exact Vj rx fx t f.2 u' hu
def inV (x:V) (xs:List V):Bool:=xs.any λy=>eqV y x
def rIn (K:PySem.W.Frag) (neg:Bool):R2:=λx y H Q=>∃p xs,y=.ref p/\(SqL K H p xs∨SqT K H p xs)/\Ci x=true/\xs.all Ci=true/\Q (.bl (if neg then !inV x xs else inV x xs)) H
theorem ZF9:OpR X (compareOp .NotIn) (rIn X.K true):=by
 intro pins s σ H x y v u Q I rx ry h;obtain ⟨p,xs,rfl,hq,fx,fs,q⟩:=h;cases ry;rcases hq with hq | hq
 ·obtain ⟨its,r,pl,hz⟩:=I.list hq;refine SeqAt.notIn_listAt (eqU x) pl.isList (λw hw=>Vj rx fx r fs w (by simpa using hw)) ⟨.bl _,H,I,rfl,?_⟩;rw [show its.toArray.any (eqU x)=its.any (eqU x) by simp,Ti r fs];exact q
 ·obtain ⟨its,r,pl,hz⟩:=I.tuple hq;refine SeqAt.notIn_tupleAt (eqU x) pl (λw hw=>Vj rx fx r fs w (by simpa using hw)) ⟨.bl _,H,I,rfl,?_⟩;rw [show its.toArray.any (eqU x)=its.any (eqU x) by simp,Ti r fs];exact q
theorem ZGZ:CallR X (.builtin "len") (λxs H Q=>∃p ys,xs= [.ref p]/\(SqL X.K H p ys∨SqT X.K H p ys)/\Q (.int ys.length) H):=by
 intro pins s σ H xs us Q I r h;obtain ⟨p,ys,rfl,hq,q⟩:=h;obtain ⟨u,rfl,rx⟩:=vals1 r;cases rx;have hn:=line63;rcases hq with hq | hq
 ·obtain ⟨its,r',pl,hz⟩:=I.list hq;have hlen:=r'.length
  exact Calls.call_len_list pl.isList (by simp only [List.size_toArray] <;> omega) ⟨.int ys.length,H,I.tok _,⟨s.toks + 1,by rw [List.size_toArray,hlen]⟩,q⟩
 ·obtain ⟨its,r',pl,hz⟩:=I.tuple hq;have hlen:=r'.length
  exact len_tuple pl (by simp only [List.size_toArray] <;> omega) ⟨.int ys.length,H,I.tok _,⟨s.toks + 1,by rw [List.size_toArray,hlen]⟩,q⟩
theorem ZFx:CallR X (.builtin "len") (λxs H Q=>∃z,xs= [.str z]/\z.length<=sizeLine/\Q (.int z.length) H):=by intro pins s σ H xs us Q I r h;obtain ⟨z,rfl,hz,q⟩:=h;obtain ⟨u,rfl,t,rfl⟩:=vals1 r;have hn:=line63;exact len_str (by omega) ⟨.int z.length,H,I.tok _,⟨_,rfl⟩,q⟩
theorem CallR.or {f:Value} {r r':List V->Hp->VK->Prop} (h:CallR X f r) (h':CallR X f r'):CallR X f (λxs H Q=>r xs H Q∨r' xs H Q):=by
 intro pins s σ H xs us Q I rs q;rcases q with q | q
 ·exact h pins s σ H xs us Q I rs q
 ·exact h' pins s σ H xs us Q I rs q
theorem ZDx:CallR X (.type "tuple") (λxs H Q=>∃p ys,xs= [.ref p]/\((SqL X.K H p ys/\∀l,H l=none->Q (.ref l) (upd H l (.tup ys)))∨(SqT X.K H p ys/\Q (.ref p) H))):=by
 intro pins s σ H xs us Q I r h;obtain ⟨p,ys,rfl,h⟩:=h;obtain ⟨u,rfl,rx⟩:=vals1 r;cases rx;rcases h with ⟨hq,q⟩ | ⟨hq,q⟩
 ·obtain ⟨its,r',pl,hz⟩:=I.list hq;have hlen:=r'.length
  refine call_tuple_list pl.isList (λh' kp=> ?_) (by simp only [List.size_toArray] <;> omega)
  have I1:Inv X pins σ H {s with heap:=h'}:=I.kept (t':=s.toks) kp;have I2:Inv X pins σ (upd H h'.objs.size (.tup ys)) {s with heap:=h'.push {cls:=.type "tuple",data:=.seq its.toArray}}:=
   I1.laid (t':=s.toks) (λb o e=>Heap.get?_push_of_some _ e) (Nat.le_refl _) (show ObjOk X.prog X.w _ _ _ (.tup ys) from ⟨hz,its,r',IsTup.new _ _⟩)
  exact ⟨.ref h'.objs.size,_,I2,rfl,q _ (I1.hok.fresh (Nat.le_refl _))⟩
 ·obtain ⟨its,r',pl,hz⟩:=I.tuple hq;exact call_tuple_same pl ⟨.ref p,H,I,rfl,q⟩
def tyV (K:PySem.W.Frag) (T:String) (x:V) (H:Hp):Prop:=match x with
 | .str _=>T="str"
 | .int _=>T="int"
 | .ref p=>(T="list"/\∃xs,SqL K H p xs)∨(T="tuple"/\∃o,K.lookup p=some o/\o.cls=.type "tuple"/\o.dict=none)∨
   (T="dict"/\((∃kvs,H p=some (.dK kvs))∨∃kvs,H p=some (.dT kvs)))∨(T="set"/\∃S n,H p=some (.set S n))
 | _=>False
theorem ZGQ {pins:List (Addr×Obj)} {σ:St} {H:Hp} {T:String} {x:V} (I:Inv X pins σ H s) (r:RelV x v) (ty:tyV X.K T x H):
  s.TypeIs v T/\∀a,v=.ref a->∃ob,s.heap.get? a=some ob/\ob.dict=none:=by
 cases x with
 | str z=>
  obtain ⟨t,rfl⟩:=r
  cases (show T="str" from ty)
  exact ⟨typeIs_str s z t,λ_ e=>nomatch e⟩
 | int i=>
  obtain ⟨t,rfl⟩:=r
  cases (show T="int" from ty)
  exact ⟨typeIs_int s i t,λ_ e=>nomatch e⟩
 | ref p=>
  cases r;rcases ty with ⟨rfl,xs,hq⟩ | ⟨rfl,o,hk,hc,hd⟩ | ⟨rfl,hk⟩ | ⟨rfl,S,n,hk⟩
  ·obtain ⟨its,_,pl,_⟩:=I.list hq;refine ⟨pl.isList.typeIs,λa e=> ?_⟩;cases e;obtain ⟨o,n,e,c,hd,_⟩:=pl;exact ⟨o,e,hd⟩
  ·refine ⟨⟨o,I.kIn p o hk,hc⟩,λa e=> ?_⟩;cases e;exact ⟨o,I.kIn _ o hk,hd⟩
  ·have z:∃o,s.heap.get? p=some o/\o.ExactDict:=by
    rcases hk with ⟨kvs,hk⟩ | ⟨kvs,hk⟩
    ·obtain ⟨_,_,_,_,o,_,_,e,ex,_⟩:=I.hok p _ hk;exact ⟨o,e,ex⟩
    ·obtain ⟨_,_,_,_,o,_,_,e,ex,_⟩:=I.hok p _ hk;exact ⟨o,e,ex⟩
   obtain ⟨o,e,ex⟩:=z;refine ⟨⟨o,e,ex.1⟩,λa e2=> ?_⟩;cases e2;exact ⟨o,e,ex.2.1⟩
  ·obtain ⟨o,_,_,_,e,ex,_⟩:=I.hok p _ hk;refine ⟨⟨o,e,ex.1⟩,λa e2=> ?_⟩;cases e2;exact ⟨o,e,ex.2.1⟩
 | _=>exact False.elim ty
def tBM (K:PySem.W.Frag) (T:String) (r:V->List V->Hp->VK->Prop) (to:TE) (t:TA):TE:=λσ H Q=>to σ H λx H1=>tyV K T x H1/\t σ H1 λxs H2=>r x xs H2 Q
variable {o e:Expr} {es:List Expr} {to:TE} {t:TA} {name:Str} {apos cpos:Pos} {T id:String} {r:V->List V->Hp->VK->Prop}
theorem ZBM (pa:PlainAttrs T) (slot:Slot T name id) (hty:typeOf (.builtin id)=pure (.type "method_descriptor")) (hm:MtR X id r) (ho:PE X o to) (ha:PA X (e::es) t)
  (hbase:attributeBase o name X.env (eval o X.env)=eval o X.env:=by rfl)
  (hfew:((backTo cpos (starEach (e::es) X.env)).all (λx=> !x.1) && (backToKw cpos (keywordEach [] X.env)).all (λx=>x.1.isSome)
   && decide ((e::es).length + ([]:List Keyword).length + (if ([]:List Keyword).isEmpty then 0 else 1) < 30))=true:=by rfl)
  (hline:(apos.endLine == cpos.line)=true:=by rfl) (hs:starEach (e::es) X.env=(false,eval e X.env)::starEach es X.env:=by rfl) (hplain:(backTo cpos (starEach es X.env)).any (·.1)=false:=by rfl):
  PE X (.Call (.Attribute o name apos) (e::es) [] cpos) (tBM X.K T r to t):=by
 intro pins s σ H Q I h;refine wpAny_Call_method_late hbase hfew hline rfl (thn (ho pins s σ H _ I h) λv s1 ⟨x,H1,I1,r1,ty,q1⟩=> ?_);obtain ⟨h1,h2⟩:=ZGQ I1 r1 ty;refine ⟨T,id,pa,slot,hty,h1,h2,?_⟩;have hA:=ha cpos pins s1 σ H1 _ I1 q1;rw [hs] at hA ⊢
 refine Calls.callWith_builtin (by show (false || (backTo cpos (starEach es X.env)).any (·.1))=false;rw [hplain] <;> rfl) (Calls.evalArgs_plain ?_)
 exact thn hA λus s2 ⟨vs,H2,I2,r2,q2⟩=>hm pins s2 σ H2 x vs v us Q I2 r1 r2 q2
end
def MtM (X:Cx) (id:String) (r:V->List V->Hp->VK->Prop):Prop:=
 ∀(pins:List (Addr×Obj)) (s:Shared) (σ:St) (H:Hp) (x:V) (xs:List V) (v:Value) (us:List Value) (Q:VK),Inv X pins σ H s->RelV x v->Vals xs us->r x xs H Q->
  wpAny (model X.prog X.w) X.A (call (.builtin id) (v::us)) (EP X pins σ Q) X.xe s
theorem Vals.one:∀{x:V} {us:List Value},Vals [x] us->∃u,us= [u]/\RelV x u
 | _,_,.cons r .nil=>⟨_,rfl,r⟩
theorem Vals.two:∀{x y:V} {us:List Value},Vals [x,y] us->∃u v,us= [u,v]/\RelV x u/\RelV y v
 | _,_,_,.cons r (.cons q .nil)=>⟨_,_,rfl,r,q⟩
theorem Vals.zero:∀{us:List Value},Vals [] us->us= []
 | _,.nil=>rfl
theorem Vals.reverse {us:List Value} (h:Vals xs us):Vals xs.reverse us.reverse:=by
 induction h with
 | nil=>exact .nil
 | cons r t ih=>rw [List.reverse_cons,List.reverse_cons];exact Vals.append ih (.cons r .nil)
section
variable {X:Cx} {pins:List (Addr×Obj)} {σ:St} {H:Hp} {s:Shared} {l b:Addr} {xs ys zs:List V}
theorem Inv.lset {its its':List Value} {n:Nat} {f:Array Value->Array Value} {t':Nat} (I:Inv X pins σ H s) (hH:H l=some (.lst xs))
  (e:s.heap.get? l=some {cls:=.type "list",data:=.seq its.toArray n}) (hf:f its.toArray=its'.toArray) (hv:Vals ys its') (hz:ys.length<=sizeLine):
  Inv X pins σ (upd H l (.lst ys)) {s with heap:=s.heap.update l (Obj.mapSeq f),toks:=t'}:=by
 have q:=PySem.IsL.update e f;rw [hf] at q;refine I.write (x:=l) (e:=l) (by rw [hH];exact trivial) (.inl rfl) (λb' u hb hu=>(Heap.get?_update_other s.heap (Obj.mapSeq f) (Ne.symm hb)).trans hu) ⟨_,q⟩ ?_;exact ⟨hz,its',_,hv,q⟩
theorem Inv.lnew {its:List Value} {t':Nat} (I:Inv X pins σ H s) (hv:Vals ys its) (hz:ys.length<=sizeLine):
  Inv X pins σ (upd H s.heap.objs.size (.lst ys)) {s with heap:=s.heap.push {cls:=.type "list",data:=.seq its.toArray},toks:=t'}:=
 I.laid (λ_ _ q=>Heap.get?_push_of_some _ q) (Nat.le_refl _) ⟨hz,its,0,hv,Heap.get?_push_size _ rfl⟩
theorem Inv.fresh (I:Inv X pins σ H s):H s.heap.objs.size=none:=I.hok.fresh (Nat.le_refl _)
theorem Inv.lstM (I:Inv X pins σ H s) (hH:H l=some (.lst xs)):xs.length<=sizeLine/\∃(its:List Value) (n:Nat),Vals xs its/\xs.length=its.length/\s.heap.get? l=some {cls:=.type "list",data:=.seq its.toArray n}:=by obtain ⟨z,its,n,r,e⟩:=I.hok l _ hH;exact ⟨z,its,n,r,r.length,e⟩
end
section
variable {X:Cx}
def ZFU:V->List V->Hp->VK->Prop:=λx vs H Q=>∃l xs y,x=.ref l/\vs= [y]/\H l=some (.lst xs)/\xs.length < sizeLine/\Q .non (upd H l (.lst (xs++ [y])))
theorem ZB7:MtM X "list.append" ZFU:=by
 intro pins s σ H x vs v us Q I rx rv h;obtain ⟨l,xs,y,rfl,rfl,hH,hz,q⟩:=h;cases rx;obtain ⟨u,rfl,ru⟩:=rv.one;obtain ⟨z,its,n,r,hl,e⟩:=I.lstM hH;refine call_meets F.slot_list_append ⟨_,e,rfl⟩ F.entry_list_append (F.args_list_append_2 _ _) (PySem.list_append l its.toArray n u (by rw [List.size_toArray];omega)) ⟨e,?_⟩;refine ⟨.non,_,I.lset (its':=its++ [u]) hH e (by simp) (r.append (.cons ru .nil)) ?_,rfl,q⟩
 rw [List.length_append,List.length_singleton];omega
end
section
variable {prog:Program} {w:World} {A:Around} {E:Value->Shared->Prop} {s:Shared}
end
section
variable {X:Cx}
end
end L2
namespace Att
open PySem PySem.W PySem.Calls PyProof.Rows
theorem ZDM {P:Params} {h:Heap}:∀(ns:List Int) (vs:List Value),WellAll P h vs (ns.map WData.int)->IntsAre vs ns:=by
 intro ns
 induction ns with
 | nil=>
  intro vs w;rw [List.map_nil] at w;cases w;exact .nil
 | cons n ns ih=>
  intro vs w;rw [List.map_cons] at w;cases w with
  | cons a b=>
   cases a;exact .cons _ _ (ih _ b)
theorem ZD9 {l:OpenLaw} {n:Nat} (hn:l.most=some n) {P:Params} {h:Heap} {args:List WData} {vals:List Value}
  (hpre:l.row.toRowW.claim.pre args=true) (hwl:WellAll P h vals args):
  ∃a vs ns,vals= [Value.ref a]/\args= [WData.list (ns.map WData.int)]/\h.get? a=some {cls:=.type "list",data:=.seq vs.toArray}/\IntsAre vs ns/\ns.length<=n:=by
 have hsh:WShape.hasAll [] args [.list .int]=true:=(pre_splitW hpre).1;have hc:l.pre.holds [] {args:=args}=true:=(pre_splitW hpre).2;obtain ⟨d,r,rfl,h1,h2⟩:=hasAllW_cons hsh;obtain rfl:=hasAllW_nil h2;obtain ⟨xs,rfl,h3⟩:=hasW_list h1;obtain ⟨ns,rfl⟩:=items_int h3;have hlen:ns.length<=n:=by
  unfold OpenLaw.pre at hc;have h4:(WTm.not (.lt (.lit (.int (n:Int))) (.len (.arg 0)))).holds [] {args:= [.list (ns.map .int)]}=true:=by have h4:=(holds_andW hc).1;rw [hn] at h4;exact h4
  have h5:=condW_of h4 (w_not (w_lt w_lit (w_len_list (w_arg rfl))));rw [List.length_map] at h5;refine Nat.le_of_not_lt λq=> ?_
  have q':(n:Int) < ((ns.length:Nat):Int):=by omega
  first
   | (rw [decide_eq_true q'] at h5;exact absurd h5 (by decide))
   | (simp at h5;omega)
 cases hwl with
 | cons w1 w2=>
  cases w2;cases w1 with
  | list ho hall=>exact ⟨_,_,ns,rfl,rfl,ho,ZDM ns _ hall,hlen⟩
theorem ZCJ (l:OpenLaw) (args:List WData):l.row.toRowW.claim.post args (.bool true) args=true:=
 postW_of (r:=l.row.toRowW) (X:=(true == true))
  (show WShape.has [] (.bool true) .bool=true by first | rfl | decide | simp [WShape.has,WShape.arms,WShape.armsAll])
  (show (WTm.eq .res (.lit (.bool true))).value [] {args:=args,res:=some (.bool true),after:=args}=some (.bool (true == true)) from w_eq_bool (w_res rfl) w_lit) rfl
section
variable {prog:Program} {w:World} {A:Around} {E:Value->Shared->Prop} {s:Shared} {K:Frag}
end
end Att
namespace L2
open PySem PySem.Spec PyProof.Rows
variable {fd:FuncData} {x qual:Str} {st:Stmt} {f:Addr} {H H':Hp} {y:V} {u:Value} {kvs:List (List Key×V)}
theorem Qw:∀{vs:List Value} {ns:List Int},IntsAre vs ns->Vals (ns.map V.int) vs
 | _,_,.nil=>.nil
 | _,_,.cons n t h=>.cons ⟨t,rfl⟩ (Qw h)
def Only (H:Hp):Prop:=∀b,H b=none∨∃o xs,H b=some (.frz o (.lst xs))
theorem ZBn {P:Program} {w:World} {K:PySem.W.Frag} {mg mb:Str->Option Value} {CX:CXT} {k:Nat} {fa a:Addr} {sp:Sp} {s₁:Shared} {vs:List Value} {ns:List Int}
  (KX:K.In s₁.heap) (hns:s₁.heap.Ns mainGlobals mg) (hb:s₁.heap.Ns builtinsNs mb) (hbb:∀x:Str,x≠"__name__"->mb x=bootBuiltins x) (hlim:s₁.heap.NoLimit) (hg:s₁.gens= #[])
  (ha:s₁.heap.get? a=some {cls:=.type "list",data:=.seq vs.toArray}) (hi:IntsAre vs ns) (hl:ns.length<=sizeLine) (hr:Room k callerA)
  (F:∀base:Heap,K.In base->base.Ns mainGlobals mg->FnOk P w K mg base CX k fa fd [x] sp) (hbind:∀(s:Shared) (u:Value),BindsTo s fd ⟨[u],[]⟩ [(x,u)])
  (hsp:∀H:Hp,Only H->SqL K H a (ns.map V.int)->sp [.ref a] H (λv _=>v=.bl true) λ_ _ _=>False)
  (hCX:∀H e s',CX [] H s₁ (λ_ _ _=>False) e s'->False):
  codeAny (model P w) callerA (.call (.ref fa) ⟨[.ref a],[]⟩) (λr s'=>r=.ok (.ret (.bool true))/\OldK s₁.heap s'.heap/\s'.os=s₁.os/\AllBare s'.gens) s₁:=by
 have rv:=Qw hi;have lenV:=hi.length;have core:∀H:Hp,Only H->SqL K H a (ns.map V.int)->HOk P w H s₁.heap->(∀b,H b≠none->b=a)->(H a≠none->K.lookup a=none)->
   codeAny (model P w) callerA (.call (.ref fa) ⟨[.ref a],[]⟩) (λr s'=>r=.ok (.ret (.bool true))/\OldK s₁.heap s'.heap/\s'.os=s₁.os/\AllBare s'.gens) s₁:=by
  intro H hO hS hok hA hK;have base_of:∀{b:Addr} {o:Obj},s₁.heap.get? b=some o->H b=none->(Ha s₁.heap H).get? b=some o:=λe n=>ZEy e n
  have noA:∀{b:Addr} {o:Obj} {es:Array DictEntry} {ep:Nat},s₁.heap.get? b=some o->o.data=.dict es ep->H b=none:=λ{b o es ep} e d=>by
   cases q:H b with
   | none=>rfl
   | some u=>
    have e':b=a:=hA b (by rw [q];simp);subst e';rw [ha] at e;cases e;have d':Data.seq vs.toArray _=Data.dict es ep:=d;cases d'
  have nsK:∀{b:Addr} {m:Str->Option Value},s₁.heap.Ns b m->(Ha s₁.heap H).Ns b m:=λ{b m} ⟨o,es,ep,e,d,r⟩=>⟨o,es,ep,base_of e (noA e d),d,r⟩
  have hKb:K.In (Ha s₁.heap H):=λb o e=>base_of (KX b o e) (by
   cases q:H b with
   | none=>rfl
   | some u=>
    have e':b=a:=hA b (by rw [q];simp);subst e';rw [hK (by rw [q];simp)] at e;cases e)
  have hM:Mod K mg (Ha s₁.heap H):=⟨hKb,nsK hns,⟨mb,nsK hb,hbb⟩,let ⟨mc,h1,h2⟩:=hlim;⟨mc,nsK h1,h2⟩⟩
  have e0:Env0 P w K mg (Ha s₁.heap H) callerA [] s₁ H:=⟨rfl,hM,λb o e=>ZC9 e,Nat.le_of_eq (ZFl _ _),trivial,λb hb=>absurd (show b∈([]:List Addr) from hb) (by simp),hok,.of_eq hg⟩
  refine codeAny_mono ((F _ hKb (nsK hns)).run callerA [] s₁ H ⟨[.ref a],[]⟩ [.ref a] [.ref a] _ _ hr e0 (hbind s₁ (.ref a)) (.cons rfl .nil) (hsp H hO hS)) λr s' h=> ?_
  cases r with
  | error e=>exact (hCX H e s' h).elim
  | ok fl=>
   cases fl with
   | next=>exact False.elim h
   | brk=>exact False.elim h
   | cont=>exact False.elim h
   | ret u=>
    obtain ⟨v,H',os,bare,un,hok',r',q⟩:=h;have q':v=.bl true:=q;subst q';obtain rfl:u=Value.bool true:=r';refine ⟨rfl,OldK.of_keep λb o e=> ?_,os,bare⟩;cases q:H b with
    | none=>exact un.keep b o e q (by intro z;exact absurd (show b∈([]:List Addr) from z) (by simp)) (by simp)
    | some u=>
     rcases hO b with z | ⟨ob,xs,z⟩
     ·rw [q] at z;cases z
     ·have z2:=un.frzs b ob _ z;obtain ⟨e1,_⟩:=hok b _ z;obtain ⟨e2,_⟩:=hok' b _ z2;rw [e] at e1;cases e1;exact e2
 cases hk:K.lookup a with
 | some o=>
  have e:=KX a o hk;rw [ha] at e;cases e;refine core (λ_=>none) (λ_=>.inl rfl) (.inr ⟨_,vs.toArray,_,hk,rfl,rfl,rfl,by rw [List.size_toArray,lenV];exact hl,by simpa using rv⟩) (λb u z=>by have z':(none:Option HO)=some u:=z;cases z') (λb z=>absurd rfl z) λz=>absurd rfl z
 | none=>
  refine core (λb=>if b=a then some (.frz {cls:=.type "list",data:=.seq vs.toArray} (.lst (ns.map V.int))) else none) (λb=> ?_) (.inl (.inr ⟨{cls:=.type "list",data:=.seq vs.toArray},if_pos rfl⟩)) (λb u z=> ?_) (λb z=> ?_) λ_=>hk
  ·by_cases hb:b=a
   ·exact .inr ⟨_,_,if_pos hb⟩
   ·exact .inl (if_neg hb)
  ·by_cases hb:b=a
   ·have z':=(if_pos hb).symm.trans z;cases z';subst hb;exact ⟨ha,by rw [List.length_map];exact hl,vs,_,rv,ha⟩
   ·have z':=(if_neg hb).symm.trans z;cases z'
  ·by_cases hb:b=a
   ·exact hb
   ·exact absurd (if_neg hb) z
def Hw (s:Stmt):Arguments:=match s with
 | .FunctionDef _ a _ _ _ _ _ _ _ _=>a
 | _=>{posonlyargs:= [],args:= [],vararg:=none,kwonlyargs:= [],kw_defaults:= [],kwarg:=none,defaults:= []}
def Ge (s:Stmt):List Stmt:=match s with
 | .FunctionDef _ _ b _ _ _ _ _ _ _=>b
 | _=> []
def Bc (s:Stmt):Scope:=match s with
 | .FunctionDef _ _ _ _ _ _ sc _ _ _=>sc
 | _=>{kind:=.function,names:= [],isGenerator:=false,isCoroutine:=false}
abbrev CX0:CXT:=λ_ _ _ _ _ _=>False
abbrev E0:XK:=λ_ _ _=>False
theorem pass0 {X:Cx}:Passes CX0 X E0:=λ_ _ _ _ _ _ _ h=>h.elim
structure Fun (K:PySem.W.Frag) (x qual:Str) (st:Stmt) (f:Addr) (fd:FuncData):Prop where
 ex:∃(oc:Value) (od:Option Addr) (kV doc pm:Value) (an:Option Addr) (cdv ct:Value) (osl:Array (Option Value)),
  fd=PySem.W.fnOf x qual (Hw st) (Ge st) (Bc st) .none kV doc pm an cdv ct/\K.lookup f=some ⟨oc,od,.func fd,osl⟩/\PySem.W.codeIn K cdv qual=true
 kp:PySem.W.keepIn K (.ref f)=true
section
variable {P:Program} {w:World} {K:PySem.W.Frag} {mg:Str->Option Value} {base:Heap}
theorem Fun.ok {N ps:List Str} {k:Nat} {sp:Sp} (F:Fun K x qual st f fd) (S:FnScope N ps (Bc st)) (len:∀vs H Q E,sp vs H Q E->vs.length=ps.length)
  (hbody:∀(cdv:Value) (A:Around) (outer:List Env) (s:Shared) (H:Hp) (vs:List V) (Q:VK) (E:XK),Room k (A.deeper (envOfC qual (Bc st) s.heap.objs.size f cdv))->sp vs H Q E->
   ∃t,PSs (J6 CX0 P w K mg base N qual (Bc st) f cdv A outer s H E).nox (Ge st) t/\t {nx:=λ_ H'=>Q .non H',rt:=Q} (start N vs) H):FnOk P w K mg base CX0 (k + 1) f fd ps sp:=by
 obtain ⟨oc,od,kV,doc,pm,an,cdv,ct,osl,rfl,lk,hcd⟩:=F.ex;refine ZCC lk hcd S len λA outer s H vs Q E hr hsp=> ?_
 obtain ⟨t,h,q⟩:=hbody cdv A outer s H vs Q E hr hsp;exact ⟨t,h.nox,q⟩
theorem Fun.binds {ps:List Str} (F:Fun K x qual st f fd)
  (h:∀(kV doc pm:Value) (an:Option Addr) (cdv ct:Value) (us:List Value),us.length=ps.length->bindArgs (PySem.W.fnOf x qual (Hw st) (Ge st) (Bc st) .none kV doc pm an cdv ct) ⟨us,[]⟩=pure (ps.zip us)):Binds K fd ps []:=by
 obtain ⟨oc,od,kV,doc,pm,an,cdv,ct,osl,rfl,lk,hcd⟩:=F.ex;exact .all (h kV doc pm an cdv ct)
theorem Wj {oc:Value} {od an:Option Addr} {osl:Array (Option Value)} {kV doc pm cdv ct:Value} (l:K.lookup f=some ⟨oc,od,.func (PySem.W.fnOf x qual (Hw st) (Ge st) (Bc st) .none kV doc pm an cdv ct),osl⟩)
  (c:PySem.W.codeIn K cdv qual=true) (k:PySem.W.keepIn K (.ref f)=true):Fun K x qual st f (PySem.W.fnOf x qual (Hw st) (Ge st) (Bc st) .none kV doc pm an cdv ct):=⟨⟨oc,od,kV,doc,pm,an,cdv,ct,osl,rfl,l,c⟩,k⟩
end
section
variable {X:Cx}
end
def Same (H H':Hp):Prop:=∀b o,H b=some o->H' b=some o
theorem Same.refl (H:Hp):Same H H:=λ_ _ h=>h
theorem Same.trans {H1 H2:Hp} (a:Same H H1) (b:Same H1 H2):Same H H2:=λc o h=>b c o (a c o h)
theorem Same.free (e:Same H H') {l:Addr} (h:H' l=Option.none):H l=Option.none:=by
 cases q:H l with
 | none=>rfl
 | some o=>
  rw [e l o q] at h;cases h
theorem Same.seq {K:PySem.W.Frag} {a:Addr} {xs:List V} (e:Same H H') (h:SqL K H a xs):SqL K H' a xs:=by
 rcases h with (h | ⟨o,h⟩) | h
 ·exact .inl (.inl (e _ _ h))
 ·exact .inl (.inr ⟨o,e _ _ h⟩)
 ·exact .inr h
section
variable {κ:Type} [DecidableEq κ]
def Er (kvs:List (κ×V)) (k:κ):Option V:=(kvs.find? λkv=>decide (kv.1=k)).map (·.2)
def putK (kvs:List (κ×V)) (k:κ) (v:V):List (κ×V):=
 if (kvs.any λkv=>decide (kv.1=k))=true then kvs.map (λkv=>if kv.1=k then (kv.1,v) else kv) else kvs++ [(k,v)]
def ZBC (kvs:List (κ×V)) (k:κ):List (κ×V):=kvs.filter λkv=>decide (kv.1≠k)
theorem Vy {p:κ×V} {r:List (κ×V)} {k:κ} (e:p.1=k):Er (p::r) k=some p.2:=by simp [Er,List.find?_cons,e]
theorem V7 {p:κ×V} {r:List (κ×V)} {k:κ} (e:¬p.1=k):Er (p::r) k=Er r k:=by simp [Er,List.find?_cons,e]
theorem ZAb (k:κ):∀kvs:List (κ×V),(kvs.any λkv=>decide (kv.1=k))=(Er kvs k).isSome
 | []=>rfl
 | p::r=>by
  rw [List.any_cons];by_cases e:p.1=k
  ·simp only [Vy e,decide_eq_true e,Bool.true_or,Option.isSome_some]
  ·rw [V7 e,decide_eq_false e,Bool.false_or];exact ZAb k r
theorem RelO.ZB1 {o:Option V} {u:Option Value} (r:RelO o u):o.isSome=u.isSome:=by
 cases o with
 | none=>cases u with
  | none=>rfl
  | some _=>exact (show False from r).elim
 | some _=>cases u with
  | none=>exact (show False from r).elim
  | some _=>rfl
theorem RelO.getD {o:Option V} {u:Option Value} {d:V} {d':Value} (r:RelO o u) (rd:RelV d d'):RelV (o.getD d) (u.getD d'):=by
 cases o with
 | none=>cases u with
  | none=>exact rd
  | some _=>exact (show False from r).elim
 | some _=>cases u with
  | none=>exact (show False from r).elim
  | some _=>exact r
theorem KV.val {kvs:List (κ×V)} {vs:List (κ×Value)} (r:KV kvs vs) (k:κ):RelO (Er kvs k) (valueAt vs k):=by
 unfold KV at r
 induction r with
 | nil=>exact True.intro
 | @cons p q ps qs h t ih=>
  obtain ⟨h1,h2⟩:=h;by_cases e:p.1=k
  ·have e':q.1=k:=h1.symm.trans e;have b:valueAt (q::qs) k=some q.2:=by simp [valueAt,List.find?_cons,e']
   rw [Vy e,b];exact h2
  ·have e':¬q.1=k:=λz=>e (h1.trans z)
   have b:valueAt (q::qs) k=valueAt qs k:=by simp [valueAt,List.find?_cons,e']
   rw [V7 e,b];exact ih
theorem KV.any {kvs:List (κ×V)} {vs:List (κ×Value)} (r:KV kvs vs) (k:κ):(kvs.any λkv=>decide (kv.1=k))=vs.any λkv=>decide (kv.1=k):=by
 unfold KV at r
 induction r with
 | nil=>rfl
 | cons h t ih=>rw [List.any_cons,List.any_cons,ih,h.1]
theorem KV.repl {kvs:List (κ×V)} {vs:List (κ×Value)} (r:KV kvs vs) (k:κ) (ry:RelV y u):
  KV (kvs.map λkv=>if kv.1=k then (kv.1,y) else kv) (vs.map λkv=>if kv.1=k then (kv.1,u) else kv):=by
 unfold KV at r ⊢
 induction r with
 | nil=>exact .nil
 | @cons p q ps qs h t ih=>
  rw [List.map_cons,List.map_cons];refine .cons ?_ ih;obtain ⟨h1,h2⟩:=h;by_cases e:p.1=k
  ·rw [if_pos e,if_pos (h1.symm.trans e)];exact ⟨h1,ry⟩
  ·rw [if_neg e,if_neg (λz=>e (h1.trans z))];exact ⟨h1,h2⟩
theorem KV.put {kvs:List (κ×V)} {vs:List (κ×Value)} (r:KV kvs vs) (k:κ) (ry:RelV y u):KV (putK kvs k y) (stored vs k u):=by
 unfold putK stored;rw [r.any k];by_cases e:(vs.any λkv=>decide (kv.1=k))=true
 ·rw [if_pos e,if_pos e];exact r.repl k ry
 ·rw [if_neg e,if_neg e];exact Paired.snoc r ⟨rfl,ry⟩
theorem KV.drop {kvs:List (κ×V)} {vs:List (κ×Value)} (r:KV kvs vs) (k:κ):KV (ZBC kvs k) (without vs k):=by
 unfold KV at r ⊢;unfold ZBC without
 induction r with
 | nil=>exact .nil
 | @cons p q ps qs h t ih=>
  obtain ⟨h1,h2⟩:=h;rw [List.filter_cons,List.filter_cons];by_cases e:p.1=k
  ·have a:¬decide (p.1≠k)=true:=by simp [e]
   have b:¬decide (q.1≠k)=true:=by simp [h1.symm.trans e]
   rw [if_neg a,if_neg b];exact ih
  ·have e':¬q.1=k:=λz=>e (h1.trans z)
   have a:decide (p.1≠k)=true:=by simp [e]
   have b:decide (q.1≠k)=true:=by simp [e']
   rw [if_pos a,if_pos b];exact .cons ⟨h1,h2⟩ ih
theorem KV.keys {kvs:List (κ×V)} {vs:List (κ×Value)} (r:KV kvs vs):kvs.map (·.1)=vs.map (·.1):=by
 unfold KV at r
 induction r with
 | nil=>rfl
 | cons h t ih=>rw [List.map_cons,List.map_cons,ih,h.1]
theorem KV.length {kvs:List (κ×V)} {vs:List (κ×Value)} (r:KV kvs vs):kvs.length=vs.length:=Paired.length r
end
abbrev KT (H:Hp):List (List Key×V)->List (List Key×Addr×Value)->Prop:=Paired λp q=>p.1=q.1/\H q.2.1=some (.tup (p.1.map kV))/\RelV p.2 q.2.2
theorem KT.val {xs:List (List Key×Addr×Value)} (r:KT H kvs xs) (k:List Key):RelO (Er kvs k) ((atKey xs k).map (·.2)):=by
 induction r with
 | nil=>exact True.intro
 | @cons p q ps qs h t ih=>
  obtain ⟨h1,_,h2⟩:=h;by_cases e:p.1=k
  ·have e':q.1=k:=h1.symm.trans e;have b:atKey (q::qs) k=some q.2:=by simp [atKey,List.find?_cons,e']
   rw [Vy e,b];exact h2
  ·have e':¬q.1=k:=λz=>e (h1.trans z)
   have b:atKey (q::qs) k=atKey qs k:=by simp [atKey,List.find?_cons,e']
   rw [V7 e,b];exact ih
theorem KT.repl {xs:List (List Key×Addr×Value)} (r:KT H kvs xs) (k:List Key) (ry:RelV y u):
  KT H (kvs.map λkv=>if kv.1=k then (kv.1,y) else kv) (xs.map (putAt k u)):=by
 induction r with
 | nil=>exact .nil
 | @cons p q ps qs h t ih=>
  rw [List.map_cons,List.map_cons];refine .cons ?_ ih;obtain ⟨h1,h2,h3⟩:=h;unfold putAt;by_cases e:p.1=k
  ·rw [if_pos e,if_pos (h1.symm.trans e)];exact ⟨h1,h2,ry⟩
  ·rw [if_neg e,if_neg (λz=>e (h1.trans z))];exact ⟨h1,h2,h3⟩
theorem KT.put {xs:List (List Key×Addr×Value)} (r:KT H kvs xs) (k:List Key) {b:Addr} (hb:H b=some (.tup (k.map kV))) (ry:RelV y u):
  KT H (putK kvs k y) (storedH xs k b u):=by
 have e:(kvs.any λkv=>decide (kv.1=k))=(atKey xs k).isSome:=by rw [ZAb,(r.val k).ZB1,Option.isSome_map]
 unfold putK storedH;rw [e];by_cases q:(atKey xs k).isSome=true
 ·rw [if_pos q,if_pos q];exact r.repl k ry
 ·rw [if_neg q,if_neg q];exact Paired.snoc r ⟨rfl,hb,ry⟩
theorem KT.keeps {xs:List (List Key×Addr×Value)} (r:KT H kvs xs) (ht:∀b ys,H b=some (.tup ys)->H' b=some (.tup ys)):KT H' kvs xs:=
 Paired.Tz r λ_ _ z=>⟨z.1,ht _ _ z.2.1,z.2.2⟩
section
variable {P:Program} {w:World} {H:Hp} {h:Heap} {a:Addr}
end
section
variable {X:Cx} {pins:List (Addr×Obj)} {σ:St} {H:Hp} {s:Shared} {a:Addr} {y v:V} {u r:Value} {o:Option V} {A:Around} {E:Value->Shared->Prop}
theorem Inv.big (I:Inv X pins σ H s):sysModules < s.heap.objs.size:=by have h:mainGlobals < s.heap.objs.size:=(I.mod.glob.keeps I.bk).lt;exact Nat.lt_trans (by decide) h
end
section
variable {X:Cx} {pins:List (Addr×Obj)} {σ:St} {H:Hp} {s:Shared} {a:Addr} {kvs:List (Key×V)} {k:Key} {u:Value} {A:Around} {E:Value->Shared->Prop}
end
section
variable {X:Cx} {o i e value:Expr} {pos pos' tpos:Pos} {td ty tv:TE}
end
section
variable {X:Cx} {pos:Pos}
end
structure M1 (X:Cx) (o:Expr) (m:Str) (apos:Pos) (e:Expr) (cpos:Pos):Prop where
 base:attributeBase o m X.env (eval o X.env)=eval o X.env
 few:((backTo cpos (starEach [e] X.env)).all (λx=> !x.1) && (backToKw cpos (keywordEach [] X.env)).all (λx=>x.1.isSome)
  && decide (([e]:List Expr).length + ([]:List Keyword).length + (if ([]:List Keyword).isEmpty then 0 else 1) < 30))=true
 line:(apos.endLine == cpos.line)=true
 trees:backTo cpos (starEach [e] X.env)= [(false,eval e X.env)]
structure M2 (X:Cx) (o:Expr) (m:Str) (apos:Pos) (e f:Expr) (cpos:Pos):Prop where
 base:attributeBase o m X.env (eval o X.env)=eval o X.env
 few:((backTo cpos (starEach [e,f] X.env)).all (λx=> !x.1) && (backToKw cpos (keywordEach [] X.env)).all (λx=>x.1.isSome)
  && decide (([e,f]:List Expr).length + ([]:List Keyword).length + (if ([]:List Keyword).isEmpty then 0 else 1) < 30))=true
 line:(apos.endLine == cpos.line)=true
 trees:backTo cpos (starEach [e,f] X.env)= [(false,eval e X.env),(false,eval f X.env)]
section
variable {X:Cx} {pins:List (Addr×Obj)} {σ:St} {H:Hp} {s:Shared} {a:Addr} {y d:V} {u r:Value} {o:Option V} {A:Around} {E:Value->Shared->Prop}
end
section
variable {X:Cx} {o e f:Expr} {apos cpos:Pos} {td ty tx:TE}
end
section
variable {X:Cx} {pins:List (Addr×Obj)} {σ:St} {H:Hp} {s:Shared} {a:Addr} {kvs:List (Key×V)} {A:Around} {E:Value->Shared->Prop}
end
section
variable {X:Cx} {pins:List (Addr×Obj)} {σ:St} {H:Hp} {s:Shared} {a:Addr} {y:V} {u:Value} {A:Around} {E:Value->Shared->Prop}
end
section
variable {X:Cx}
end
end L2
namespace L2
section
variable {κ:Type} [DecidableEq κ]
end
end L2
namespace DL
open PySem PySem.Spec L2
open PyProof.Rows hiding St
variable {α:Type} {K:PySem.W.Frag} {H:Hp} {p:Addr} {v y:V} {vs:List V} {σ:St} {E:XK} {Q:VK} {W:Ends} {e tg:Expr} {ho:HO} {q:Option HO} {i n j k nt:Nat} {x:Str} {A:Around} {s:Shared} {P:Program} {w:World} {scope:Scope} {env:Env} {X:Cx} {lo hi:Option Int}
inductive D where
 | non | bl (b:Bool) | int (i:Int) | str (x:Str) | ty (n:String)
 | tup (xs:List D)
 | fl (xs:List D)
 | ref (i:Nat)
variable {d:D} {ds xs:List D} {kvs:List (Key×D)}
inductive DO where
 | lst (xs:List D)
 | dct (kvs:List (Key×D))
 | ins (c:Str) (fs:List (Str×D))
 | gone
variable {o:DO}
abbrev DH:=List DO
variable {G G' L:DH}
abbrev DSt:=List (Option D)
variable {S:DSt}
structure Xn where
 cls:Str
 fs:List (Str×D)
inductive R (α:Type) where
 | ok (a:α) (G:DH)
 | err (x:Xn) (G:DH)
 | bad
variable {r:R D} {f:D->D->DH->R D}
def R.bind {α β:Type} (r:R α) (f:α->DH->R β):R β:=match r with
 | .ok a G=>f a G
 | .err x G=>.err x G
 | .bad=>.bad
@[simp] theorem R.Rg {β:Type} (a:α) (G:DH) (f:α->DH->R β):(R.ok a G).bind f=f a G:=id rfl
inductive SR where
 | nx (S:DSt) (G:DH)
 | rt (d:D) (G:DH)
 | bk (S:DSt) (G:DH)
 | ct (S:DSt) (G:DH)
 | err (x:Xn) (G:DH)
 | bad
abbrev DE:=DSt->DH->R D
variable {t te:DE}
abbrev DB:=DSt->DH->R Bool
abbrev DA:=DSt->DH->R (List D)
abbrev DS:=DSt->DH->SR
variable {u:DS}
def FzL (K:PySem.W.Frag) (H:Hp) (a:Addr) (xs:List V):Prop:=
 (∃o,H a=some (.frz o (.lst xs)))∨
  ∃(o:Obj) (its:Array Value) (n:Nat),K.lookup a=some o/\o.cls=.type "list"/\o.dict=none/\o.data=.seq its n/\its.size<=sizeLine/\Vals xs its.toList
theorem FzL.sq {a:Addr} {xs:List V} (h:FzL K H a xs):SqL K H a xs:=by
 rcases h with ⟨o,h⟩ | h
 ·exact .inl (.inr ⟨o,h⟩)
 ·exact .inr h
structure Wd where
 K:PySem.W.Frag
 n:Nat
 m:Nat->Addr
 H:Hp
variable {a b c:Wd}
mutual
def Rep (a:Wd):D->V->Prop
 | .non,v=>v=.non
 | .bl b,v=>v=.bl b
 | .int i,v=>v=.int i
 | .str x,v=>v=.str x
 | .ty n,v=>v=.ty n
 | .tup ds,v=>∃p vs,v=.ref p/\SqT a.K a.H p vs/\Reps a ds vs
 | .fl ds,v=>∃p vs,v=.ref p/\FzL a.K a.H p vs/\Reps a ds vs
 | .ref i,v=>i < a.n/\v=.ref (a.m i)
def Reps (a:Wd):List D->List V->Prop
 | [],vs=>vs= []
 | d::ds,vs=>∃v r,vs=v::r/\Rep a d v/\Reps a ds r
end
structure Ext (a b:Wd):Prop where
 k:b.K=a.K
 n:a.n<=b.n
 m:∀i,i < a.n->b.m i=a.m i
 tup:∀p xs,a.H p=some (.tup xs)->b.H p=some (.tup xs)
 frz:∀p o u,a.H p=some (.frz o u)->b.H p=some (.frz o u)
theorem Ext.refl (a:Wd):Ext a a:=⟨rfl,Nat.le_refl _,λ_ _=>rfl,λ_ _ h=>h,λ_ _ _ h=>h⟩
theorem Ext.trans (x:Ext a b) (y:Ext b c):Ext a c:=
 ⟨y.k.trans x.k,Nat.le_trans x.n y.n,λi h=>(y.m i (Nat.lt_of_lt_of_le h x.n)).trans (x.m i h),λp xs h=>y.tup p xs (x.tup p xs h),λp o u h=>y.frz p o u (x.frz p o u h)⟩
theorem Ext.sqT (x:Ext a b) {xs:List V} (h:SqT a.K a.H p xs):SqT b.K b.H p xs:=by
 rcases h with (h | ⟨o,h⟩) | h
 ·exact .inl (.inl (x.tup _ _ h))
 ·exact .inl (.inr ⟨o,x.frz _ _ _ h⟩)
 ·exact .inr (by rw [x.k];exact h)
theorem Ext.fzL (x:Ext a b) {xs:List V} (h:FzL a.K a.H p xs):FzL b.K b.H p xs:=by
 rcases h with ⟨o,h⟩ | h
 ·exact .inl ⟨o,x.frz _ _ _ h⟩
 ·exact .inr (by rw [x.k];exact h)
mutual
theorem Rep.mono (x:Ext a b):∀{d:D} {v:V},Rep a d v->Rep b d v
 | .non,_,h=>h
 | .bl _,_,h=>h
 | .int _,_,h=>h
 | .str _,_,h=>h
 | .ty _,_,h=>h
 | .tup ds,v,h=>by obtain ⟨p,vs,e,q,r⟩:=h;exact ⟨p,vs,e,x.sqT q,Reps.mono x r⟩
 | .fl ds,v,h=>by obtain ⟨p,vs,e,q,r⟩:=h;exact ⟨p,vs,e,x.fzL q,Reps.mono x r⟩
 | .ref i,v,h=>by obtain ⟨l,e⟩:=h;exact ⟨Nat.lt_of_lt_of_le l x.n,by rw [x.m i l];exact e⟩
theorem Reps.mono (x:Ext a b):∀{ds:List D} {vs:List V},Reps a ds vs->Reps b ds vs
 | [],_,h=>h
 | d::ds,vs,h=>by obtain ⟨v,r,e,h1,h2⟩:=h;exact ⟨v,r,e,Rep.mono x h1,Reps.mono x h2⟩
end
theorem Reps.length:∀{ds:List D} {vs:List V},Reps a ds vs->ds.length=vs.length
 | [],vs,h=>by cases (show vs= [] from h);rfl
 | d::ds,vs,h=>by obtain ⟨v,r,e,h1,h2⟩:=h;subst e;show ds.length + 1=r.length + 1;rw [Reps.length h2]
theorem Reps.get:∀{ds:List D} {vs:List V} {i:Nat} {d:D},Reps a ds vs->ds[i]? =some d->∃v,vs[i]? =some v/\Rep a d v
 | [],vs,_,_,h,e=>by simp at e
 | d::ds,vs,0,d',h,e=>by obtain ⟨v,r,e1,h1,h2⟩:=h;subst e1;simp at e;subst e;exact ⟨v,rfl,h1⟩
 | d::ds,vs,i + 1,d',h,e=>by obtain ⟨v,r,e1,h1,h2⟩:=h;subst e1;obtain ⟨w,e2,h3⟩:=Reps.get (i:=i) (d:=d') h2 (by simpa using e);exact ⟨w,by simpa using e2,h3⟩
theorem Reps.get':∀{ds:List D} {vs:List V} {i:Nat} {v:V},Reps a ds vs->vs[i]? =some v->∃d,ds[i]? =some d/\Rep a d v
 | [],vs,_,_,h,e=>by cases (show vs= [] from h);simp at e
 | d::ds,vs,0,v',h,e=>by obtain ⟨v,r,e1,h1,h2⟩:=h;subst e1;simp at e;subst e;exact ⟨d,rfl,h1⟩
 | d::ds,vs,i + 1,v',h,e=>by obtain ⟨v,r,e1,h1,h2⟩:=h;subst e1;obtain ⟨w,e2,h3⟩:=Reps.get' (i:=i) (v:=v') h2 (by simpa using e);exact ⟨w,by simpa using e2,h3⟩
theorem Reps.append:∀{ds es:List D} {vs us:List V},Reps a ds vs->Reps a es us->Reps a (ds++es) (vs++us)
 | [],_,vs,_,h,h'=>by cases (show vs= [] from h);exact h'
 | d::ds,es,vs,us,h,h'=>by obtain ⟨v,r,e1,h1,h2⟩:=h;subst e1;exact ⟨v,r++us,rfl,h1,Reps.append h2 h'⟩
theorem Reps.cons (h:Rep a d v) (r:Reps a ds vs):Reps a (d::ds) (v::vs):=⟨v,vs,rfl,h,r⟩
theorem Reps.nil:Reps a [] []:=rfl
theorem Reps.set (h:Rep a d v):∀{ds:List D} {vs:List V} (i:Nat),Reps a ds vs->Reps a (ds.set i d) (vs.set i v)
 | [],vs,_,r=>by cases (show vs= [] from r);exact rfl
 | d'::ds,vs,0,r=>by obtain ⟨v',r',e1,h1,h2⟩:=r;subst e1;exact ⟨v,r',rfl,h,h2⟩
 | d'::ds,vs,i + 1,r=>by obtain ⟨v',r',e1,h1,h2⟩:=r;subst e1;exact ⟨v',r'.set i v,rfl,h1,Reps.set h i h2⟩
theorem Reps.take:∀{ds:List D} {vs:List V} (i:Nat),Reps a ds vs->Reps a (ds.take i) (vs.take i)
 | _,_,0,_=>rfl
 | [],vs,_ + 1,r=>by cases (show vs= [] from r);exact rfl
 | d'::ds,vs,i + 1,r=>by obtain ⟨v',r',e1,h1,h2⟩:=r;subst e1;exact ⟨v',r'.take i,rfl,h1,Reps.take i h2⟩
theorem Reps.drop:∀{ds:List D} {vs:List V} (i:Nat),Reps a ds vs->Reps a (ds.drop i) (vs.drop i)
 | _,_,0,r=>r
 | [],vs,_ + 1,r=>by cases (show vs= [] from r);exact rfl
 | d'::ds,vs,i + 1,r=>by obtain ⟨v',r',e1,h1,h2⟩:=r;subst e1;exact Reps.drop i h2
theorem Reps.ints:∀(ns:List Int),Reps a (ns.map D.int) (ns.map V.int)
 | []=>rfl
 | n::ns=>⟨.int n,ns.map V.int,rfl,rfl,Reps.ints ns⟩
def RepKV (a:Wd) (kvs:List (Key×D)) (us:List (Key×V)):Prop:=kvs.map (·.1)=us.map (·.1)/\Reps a (kvs.map (·.2)) (us.map (·.2))
def RepF (a:Wd) (fs:List (Str×D)) (us:List (Str×V)):Prop:=fs.map (·.1)=us.map (·.1)/\Reps a (fs.map (·.2)) (us.map (·.2))
def ORep (a:Wd):DO->Option HO->Prop
 | .lst ds,o=>∃vs,o=some (.lst vs)/\Reps a ds vs
 | .dct kvs,o=>∃us,o=some (.dK us)/\RepKV a kvs us
 | .ins c fs,o=>∃C dx us,PySem.W.nsIn a.K mainGlobals c=some (some (.ref C))/\o=some (.ins C dx us)/\RepF a fs us
 | .gone,_=>True
structure Sim (a:Wd) (G:DH):Prop where
 len:G.length=a.n
 inj:∀i j,i < a.n->j < a.n->a.m i=a.m j->i=j
 obj:∀(i:Nat) (o:DO),G[i]? =some o->ORep a o (a.H (a.m i))
 tr:∀i,i < a.n->a.H (a.m i)≠none
structure RepS (a:Wd) (S:DSt) (σ:St):Prop where
 len:S.length=σ.length
 get:∀(i:Nat) (d:D),S[i]? =some (some d)->∃v,σ[i]? =some (some v)/\Rep a d v
theorem RepS.mono (x:Ext a b) (r:RepS a S σ):RepS b S σ:=⟨r.len,λi d h=>let ⟨v,e,q⟩:=r.get i d h;⟨v,e,q.mono x⟩⟩
theorem RepS.set (r:RepS a S σ) (i:Nat) (h:Rep a d v):RepS a (S.set i (some d)) (σ.set i (some v)):=by
 refine ⟨by simpa using r.len,λj e he=> ?_⟩;rw [List.getElem?_set] at he ⊢;by_cases hij:i=j
 ·subst hij;rw [if_pos rfl] at he ⊢;by_cases hl:i < S.length
  ·rw [if_pos hl] at he;have e1:d=e:=by simpa using he
   subst e1;rw [if_pos (by rw [<-r.len];exact hl)];exact ⟨v,rfl,h⟩
  ·rw [if_neg hl] at he;cases he
 ·rw [if_neg hij] at he ⊢;exact r.get j e he
def XOk (E:XK) (a:Wd) (x:Xn) (G:DH):Prop:=False
def out (E:XK) (a:Wd) (r:R D) (Q:VK):Prop:=match r with
 | .ok d G=>∀(b:Wd) (v:V),Ext a b->Sim b G->Rep b d v->Q v b.H
 | .err x G=>XOk E a x G
 | .bad=>False
def Dk (E:XK) (a:Wd) (r:R Bool) (Q:Bool->Hp->Prop):Prop:=match r with
 | .ok k G=>∀(b:Wd),Ext a b->Sim b G->Q k b.H
 | .err x G=>XOk E a x G
 | .bad=>False
def Dj (E:XK) (a:Wd) (r:R (List D)) (Q:List V->Hp->Prop):Prop:=match r with
 | .ok ds G=>∀(b:Wd) (vs:List V),Ext a b->Sim b G->Reps b ds vs->Q vs b.H
 | .err x G=>XOk E a x G
 | .bad=>False
def Bj (E:XK) (a:Wd) (r:SR) (W:Ends):Prop:=match r with
 | .nx S G=>∀(b:Wd) (σ:St),Ext a b->Sim b G->RepS b S σ->W.nx σ b.H
 | .bk S G=>∀(b:Wd) (σ:St),Ext a b->Sim b G->RepS b S σ->W.bk σ b.H
 | .ct S G=>∀(b:Wd) (σ:St),Ext a b->Sim b G->RepS b S σ->W.ct σ b.H
 | .rt d G=>∀(b:Wd) (v:V),Ext a b->Sim b G->Rep b d v->W.rt v b.H
 | .err x G=>XOk E a x G
 | .bad=>False
theorem XOk.mono (x:Ext a b) {e:Xn} (h:XOk E a e G):XOk E b e G:=h
theorem out.mono (x:Ext a b) (h:out E a r Q):out E b r Q:=by
 cases r with
 | ok d G=>exact λc v y s q=>h c v (x.trans y) s q
 | err e G=>exact XOk.mono (E:=E) (e:=e) (G:=G) x h
 | bad=>exact h
theorem Dk.mono (x:Ext a b) {r:R Bool} {Q:Bool->Hp->Prop} (h:Dk E a r Q):Dk E b r Q:=by
 cases r with
 | ok d G=>exact λc y s=>h c (x.trans y) s
 | err e G=>exact XOk.mono (E:=E) (e:=e) (G:=G) x h
 | bad=>exact h
theorem Dj.mono (x:Ext a b) {r:R (List D)} {Q:List V->Hp->Prop} (h:Dj E a r Q):Dj E b r Q:=by
 cases r with
 | ok d G=>exact λc vs y s q=>h c vs (x.trans y) s q
 | err e G=>exact XOk.mono (E:=E) (e:=e) (G:=G) x h
 | bad=>exact h
theorem Bj.mono (x:Ext a b) {r:SR} (h:Bj E a r W):Bj E b r W:=by
 cases r with
 | nx d G=>exact λc vs y s q=>h c vs (x.trans y) s q
 | bk d G=>exact λc vs y s q=>h c vs (x.trans y) s q
 | ct d G=>exact λc vs y s q=>h c vs (x.trans y) s q
 | rt d G=>exact λc vs y s q=>h c vs (x.trans y) s q
 | err e G=>exact XOk.mono (E:=E) (e:=e) (G:=G) x h
 | bad=>exact h
def lE (K:PySem.W.Frag) (E:XK) (t:DE):TE:=λσ H Q=>∃(a:Wd) (S:DSt) (G:DH),a.K=K/\a.H=H/\Sim a G/\RepS a S σ/\out E a (t S G) Q
def lB (K:PySem.W.Frag) (E:XK) (t:DB):TT:=λσ H Q=>∃(a:Wd) (S:DSt) (G:DH),a.K=K/\a.H=H/\Sim a G/\RepS a S σ/\Dk E a (t S G) Q
def lA (K:PySem.W.Frag) (E:XK) (t:DA):TA:=λσ H Q=>∃(a:Wd) (S:DSt) (G:DH),a.K=K/\a.H=H/\Sim a G/\RepS a S σ/\Dj E a (t S G) Q
def lS (K:PySem.W.Frag) (E:XK) (t:DS):TS:=λW σ H=>∃(a:Wd) (S:DSt) (G:DH),a.K=K/\a.H=H/\Sim a G/\RepS a S σ/\Bj E a (t S G) W
def lR2 (K:PySem.W.Frag) (E:XK) (f:D->D->DH->R D):R2:=λx y H Q=>∃(a:Wd) (G:DH) (d e:D),a.K=K/\a.H=H/\Sim a G/\Rep a d x/\Rep a e y/\out E a (f d e G) Q
def lR1 (K:PySem.W.Frag) (E:XK) (f:D->DH->R D):V->Hp->VK->Prop:=λx H Q=>∃(a:Wd) (G:DH) (d:D),a.K=K/\a.H=H/\Sim a G/\Rep a d x/\out E a (f d G) Q
def lRn (K:PySem.W.Frag) (E:XK) (f:List D->DH->R D):List V->Hp->VK->Prop:=λxs H Q=>∃(a:Wd) (G:DH) (ds:List D),a.K=K/\a.H=H/\Sim a G/\Reps a ds xs/\out E a (f ds G) Q
def lF (K:PySem.W.Frag) (f:List D->DH->R D):Sp:=λxs H Q E=>∃(a:Wd) (G:DH) (ds:List D),a.K=K/\a.H=H/\Sim a G/\Reps a ds xs/\out E a (f ds G) Q
section
variable {X:Cx} {E:XK}
def QE (X:Cx) (E:XK) (e:Expr) (t:DE):Prop:=PE X e (lE X.K E t)
def QT (X:Cx) (E:XK) (e:Expr) (t:DB):Prop:=PT X e (lB X.K E t)
def QA (X:Cx) (E:XK) (es:List Expr) (t:DA):Prop:=PA X es (lA X.K E t)
def QS (X:Cx) (E:XK) (st:Stmt) (t:DS):Prop:=PS X st (lS X.K E t)
def QSs (X:Cx) (E:XK) (st:List Stmt) (t:DS):Prop:=PSs X st (lS X.K E t)
theorem _root_.L2.PE.mono {t t':TE} (h:PE X e t) (w:∀σ H Q,t' σ H Q->t σ H Q):PE X e t':=λpins s σ H Q I q=>h pins s σ H Q I (w σ H Q q)
theorem _root_.L2.PT.mono {t t':TT} (h:PT X e t) (w:∀σ H Q,t' σ H Q->t σ H Q):PT X e t':=λpins s σ H Q I q=>h pins s σ H Q I (w σ H Q q)
theorem _root_.L2.PA.mono {e:List Expr} {t t':TA} (h:PA X e t) (w:∀σ H Q,t' σ H Q->t σ H Q):PA X e t':=λpos pins s σ H Q I q=>h pos pins s σ H Q I (w σ H Q q)
theorem _root_.L2.PS.mono {e:Stmt} {t t':TS} (h:PS X e t) (w:∀W σ H,t' W σ H->t W σ H):PS X e t':=λpins s σ H W I q=>h pins s σ H W I (w W σ H q)
theorem _root_.L2.PSs.mono {e:List Stmt} {t t':TS} (h:PSs X e t) (w:∀W σ H,t' W σ H->t W σ H):PSs X e t':=λpins s σ H W I q=>h pins s σ H W I (w W σ H q)
theorem _root_.L2.OpR.mono {f:Value->Value->Sem Value} {r r':R2} (h:OpR X f r) (w:∀x y H Q,r' x y H Q->r x y H Q):OpR X f r':=λpins s σ H x y v u Q I rx ry q=>h pins s σ H x y v u Q I rx ry (w _ _ _ _ q)
end
theorem Gk {f:D->DH->R D} (h:out E a (r.bind f) Q):
  out E a r (λv H=>∃(b:Wd) (d:D) (G:DH),b.H=H/\Ext a b/\Sim b G/\Rep b d v/\r=.ok d G/\out E b (f d G) Q):=by
 cases r with
 | ok d G=>exact λb v x s q=>⟨b,d,G,rfl,x,s,q,rfl,out.mono x h⟩
 | err e G=>exact h
 | bad=>exact h
theorem Nf {r:R (List D)} {f:List D->DH->R D} (h:out E a (r.bind f) Q):
  Dj E a r (λvs H=>∃(b:Wd) (ds:List D) (G:DH),b.H=H/\Ext a b/\Sim b G/\Reps b ds vs/\r=.ok ds G/\out E b (f ds G) Q):=by
 cases r with
 | ok d G=>exact λb v x s q=>⟨b,d,G,rfl,x,s,q,rfl,out.mono x h⟩
 | err e G=>exact h
 | bad=>exact h
theorem ZCK {r:R Bool} {f:Bool->DH->R D} (h:out E a (r.bind f) Q):
  Dk E a r (λk H=>∃(b:Wd) (G:DH),b.H=H/\Ext a b/\Sim b G/\r=.ok k G/\out E b (f k G) Q):=by
 cases r with
 | ok d G=>exact λb x s=>⟨b,G,rfl,x,s,rfl,out.mono x h⟩
 | err e G=>exact h
 | bad=>exact h
theorem ZCh {f:D->DH->R Bool} {Q:Bool->Hp->Prop} (h:Dk E a (r.bind f) Q):
  out E a r (λv H=>∃(b:Wd) (d:D) (G:DH),b.H=H/\Ext a b/\Sim b G/\Rep b d v/\r=.ok d G/\Dk E b (f d G) Q):=by
 cases r with
 | ok d G=>exact λb v x s q=>⟨b,d,G,rfl,x,s,q,rfl,Dk.mono x h⟩
 | err e G=>exact h
 | bad=>exact h
theorem Up {r:R Bool} {f:Bool->DH->R Bool} {Q:Bool->Hp->Prop} (h:Dk E a (r.bind f) Q):
  Dk E a r (λk H=>∃(b:Wd) (G:DH),b.H=H/\Ext a b/\Sim b G/\r=.ok k G/\Dk E b (f k G) Q):=by
 cases r with
 | ok d G=>exact λb x s=>⟨b,G,rfl,x,s,rfl,Dk.mono x h⟩
 | err e G=>exact h
 | bad=>exact h
theorem ZDP {f:D->DH->R (List D)} {Q:List V->Hp->Prop} (h:Dj E a (r.bind f) Q):
  out E a r (λv H=>∃(b:Wd) (d:D) (G:DH),b.H=H/\Ext a b/\Sim b G/\Rep b d v/\r=.ok d G/\Dj E b (f d G) Q):=by
 cases r with
 | ok d G=>exact λb v x s q=>⟨b,d,G,rfl,x,s,q,rfl,Dj.mono x h⟩
 | err e G=>exact h
 | bad=>exact h
theorem ZDY {r:R (List D)} {f:List D->DH->R (List D)} {Q:List V->Hp->Prop} (h:Dj E a (r.bind f) Q):
  Dj E a r (λvs H=>∃(b:Wd) (ds:List D) (G:DH),b.H=H/\Ext a b/\Sim b G/\Reps b ds vs/\r=.ok ds G/\Dj E b (f ds G) Q):=by
 cases r with
 | ok d G=>exact λb v x s q=>⟨b,d,G,rfl,x,s,q,rfl,Dj.mono x h⟩
 | err e G=>exact h
 | bad=>exact h
def R.toS {α:Type} (r:R α) (f:α->DH->SR):SR:=match r with
 | .ok a G=>f a G
 | .err x G=>.err x G
 | .bad=>.bad
@[simp] theorem R.Dg (a:α) (G:DH) (f:α->DH->SR):(R.ok a G).toS f=f a G:=id rfl
theorem Nb {f:D->DH->SR} (h:Bj E a (r.toS f) W):
  out E a r (λv H=>∃(b:Wd) (d:D) (G:DH),b.H=H/\Ext a b/\Sim b G/\Rep b d v/\r=.ok d G/\Bj E b (f d G) W):=by
 cases r with
 | ok d G=>exact λb v x s q=>⟨b,d,G,rfl,x,s,q,rfl,Bj.mono x h⟩
 | err e G=>exact h
 | bad=>exact h
theorem ZGN {r:R Bool} {f:Bool->DH->SR} (h:Bj E a (r.toS f) W):
  Dk E a r (λk H=>∃(b:Wd) (G:DH),b.H=H/\Ext a b/\Sim b G/\r=.ok k G/\Bj E b (f k G) W):=by
 cases r with
 | ok d G=>exact λb x s=>⟨b,G,rfl,x,s,rfl,Bj.mono x h⟩
 | err e G=>exact h
 | bad=>exact h
section
theorem out.imp {Q':VK} (h:out E a r Q) (w:∀v H,Q v H->Q' v H):out E a r Q':=by
 cases r with
 | ok d G=>exact λb v x s q=>w _ _ (h b v x s q)
 | err e G=>exact h
 | bad=>exact h
theorem Dj.imp {r:R (List D)} {Q Q':List V->Hp->Prop} (h:Dj E a r Q) (w:∀v H,Q v H->Q' v H):Dj E a r Q':=by
 cases r with
 | ok d G=>exact λb v x s q=>w _ _ (h b v x s q)
 | err e G=>exact h
 | bad=>exact h
theorem Dk.imp {r:R Bool} {Q Q':Bool->Hp->Prop} (h:Dk E a r Q) (w:∀v H,Q v H->Q' v H):Dk E a r Q':=by
 cases r with
 | ok d G=>exact λb x s=>w _ _ (h b x s)
 | err e G=>exact h
 | bad=>exact h
def Wd.push (a:Wd) (p:Addr) (ho:HO):Wd:=⟨a.K,a.n + 1,λk=>if k=a.n then p else a.m k,upd a.H p ho⟩
def Wd.put (a:Wd) (p:Addr) (ho:HO):Wd:={a with H:=upd a.H p ho}
theorem Ext.put (h:a.H p=none):Ext a (a.put p ho):=
 ⟨rfl,Nat.le_refl _,λ_ _=>rfl,λq xs e=>by show upd a.H p ho q=_;rw [Az (Hm e h)];exact e,λq o u e=>by show upd a.H p ho q=_;rw [Az (Hm e h)];exact e⟩
theorem Ext.push (h:a.H p=none):Ext a (a.push p ho):=
 ⟨rfl,Nat.le_succ _,λi hi=>by show (if i=a.n then p else a.m i)=a.m i;rw [if_neg (Nat.ne_of_lt hi)],λq xs e=>by show upd a.H p ho q=_;rw [Az (Hm e h)];exact e,λq o u e=>by show upd a.H p ho q=_;rw [Az (Hm e h)];exact e⟩
theorem ORep.mono (x:Ext a b) (h:ORep a o q):ORep b o q:=by
 cases o with
 | lst ds=>obtain ⟨vs,e,r⟩:=h;exact ⟨vs,e,r.mono x⟩
 | dct kvs=>obtain ⟨us,e,k,r⟩:=h;exact ⟨us,e,k,r.mono x⟩
 | ins c fs=>obtain ⟨C,dx,us,n,e,k,r⟩:=h;exact ⟨C,dx,us,by rw [x.k];exact n,e,k,r.mono x⟩
 | gone=>trivial
theorem Sim.lt (s:Sim a G) (h:G[i]? =some o):i < a.n:=by rw [<-s.len];exact (List.getElem?_eq_some_iff.mp h).1
theorem Sim.put (s:Sim a G) (h:a.H p=none):Sim (a.put p ho) G:=by
 refine ⟨s.len,s.inj,λi o e=> ?_,λi hi=> ?_⟩
 ·have z:a.H (a.m i)≠none:=s.tr i (s.lt e);have ne:a.m i≠p:=λq=>z (by rw [q];exact h)
  show ORep _ o (upd a.H p ho (a.m i));rw [Az ne];exact (s.obj i o e).mono (Ext.put h)
 ·have z:a.H (a.m i)≠none:=s.tr i hi;have ne:a.m i≠p:=λq=>z (by rw [q];exact h)
  show upd a.H p ho (a.m i)≠none;rw [Az ne];exact z
theorem Sim.push (s:Sim a G) (h:a.H p=none) (r:ORep (a.push p ho) o (some ho)):Sim (a.push p ho) (G++ [o]):=by
 have nep:∀i,i < a.n->a.m i≠p:=λi hi q=>s.tr i hi (by rw [q];exact h)
 have old:∀i,i < a.n->(a.push p ho).m i=a.m i:=λi hi=>by show (if i=a.n then p else a.m i)=_;rw [if_neg (Nat.ne_of_lt hi)]
 have new:(a.push p ho).m a.n=p:=by show (if a.n=a.n then p else a.m a.n)=_;rw [if_pos rfl]
 refine ⟨by simp [s.len,Wd.push],λi j hi hj e=> ?_,λi u e=> ?_,λi hi=> ?_⟩
 ·have hi':i < a.n + 1:=hi;have hj':j < a.n + 1:=hj;by_cases h1:i < a.n
  ·by_cases h2:j < a.n
   ·rw [old i h1,old j h2] at e;exact s.inj i j h1 h2 e
   ·have:j=a.n:=by omega
    subst this;rw [old i h1,new] at e;exact absurd e (nep i h1)
  ·have:i=a.n:=by omega
   subst this;by_cases h2:j < a.n
   ·rw [old j h2,new] at e;exact absurd e.symm (nep j h2)
   ·omega
 ·by_cases h1:i < a.n
  ·rw [List.getElem?_append_left (by rw [s.len];exact h1)] at e;rw [old i h1];show ORep _ u (upd a.H p ho (a.m i));rw [Az (nep i h1)];exact (s.obj i u e).mono (Ext.push h)
  ·have hl:i < (G++ [o]).length:=(List.getElem?_eq_some_iff.mp e).1;have:i=a.n:=by rw [List.length_append,s.len] at hl;simp at hl;omega
   subst this;rw [List.getElem?_append_right (by rw [s.len];exact Nat.le_refl _),s.len] at e;simp at e;subst e;rw [new];show ORep _ o (upd a.H p ho p);rw [Ej];exact r
 ·have hi':i < a.n + 1:=hi;by_cases h1:i < a.n
  ·rw [old i h1];show upd a.H p ho (a.m i)≠none;rw [Az (nep i h1)];exact s.tr i h1
  ·have:i=a.n:=by omega
   subst this;rw [new];show upd a.H p ho p≠none;rw [Ej];simp
theorem Ext.wr (h:a.H p=some (.lst vs)):Ext a (a.put p ho):=
 ⟨rfl,Nat.le_refl _,λ_ _=>rfl,λq xs e=>by
  show upd a.H p ho q=_;rw [Az (λz=>by subst z;rw [h] at e;cases e)];exact e,λq o u e=>by
  show upd a.H p ho q=_;rw [Az (λz=>by subst z;rw [h] at e;cases e)];exact e⟩
theorem Sim.wr (s:Sim a G) (hi:i < a.n) {vs':List V} {ds':List D} (h:a.H (a.m i)=some (.lst vs)) (r:Reps (a.put (a.m i) (.lst vs')) ds' vs'):Sim (a.put (a.m i) (.lst vs')) (G.set i (.lst ds')):=by
 refine ⟨by rw [List.length_set];exact s.len,s.inj,λj o e=> ?_,λj hj=> ?_⟩
 ·rw [List.getElem?_set] at e;show ORep _ o (upd a.H (a.m i) (.lst vs') (a.m j));by_cases hij:i=j
  ·subst hij;rw [if_pos rfl,if_pos (by rw [s.len];exact hi)] at e;cases e;rw [Ej];exact ⟨vs',rfl,r⟩
  ·rw [if_neg hij] at e;rw [Az λz=>hij (s.inj _ _ (s.lt e) hi z).symm];exact (s.obj j o e).mono (Ext.wr h)
 ·show upd a.H (a.m i) (.lst vs') (a.m j)≠none;by_cases hij:a.m j=a.m i
  ·rw [hij,Ej];simp
  ·rw [Az hij];exact s.tr j hj
mutual
def bel (n:Nat):D->Bool
 | .ref i=>decide (i < n)
 | .tup ds=>bels n ds
 | .fl ds=>bels n ds
 | _=>true
def bels (n:Nat):List D->Bool
 | []=>true
 | d::ds=>bel n d && bels n ds
end
def Ik (n:Nat):DO->Bool
 | .lst ds=>bels n ds
 | .dct kvs=>bels n (kvs.map (·.2))
 | .ins _ fs=>bels n (fs.map (·.2))
 | .gone=>true
mutual
theorem Rep.bel:∀{d:D} {v:V},Rep a d v->bel a.n d=true
 | .non,_,_=>by simp [DL.bel]
 | .bl _,_,_=>by simp [DL.bel]
 | .int _,_,_=>by simp [DL.bel]
 | .str _,_,_=>by simp [DL.bel]
 | .ty _,_,_=>by simp [DL.bel]
 | .tup ds,v,h=>by obtain ⟨p,vs,e,q,r⟩:=h;simp only [DL.bel];exact Reps.bels r
 | .fl ds,v,h=>by obtain ⟨p,vs,e,q,r⟩:=h;simp only [DL.bel];exact Reps.bels r
 | .ref i,v,h=>by obtain ⟨l,e⟩:=h;simp only [DL.bel];exact decide_eq_true l
theorem Reps.bels:∀{ds:List D} {vs:List V},Reps a ds vs->bels a.n ds=true
 | [],_,_=>by simp [DL.bels]
 | d::ds,vs,h=>by
  obtain ⟨v,r,e,h1,h2⟩:=h;simp only [DL.bels];rw [Rep.bel h1,Reps.bels h2]
  rfl
end
structure Cut (b c:Wd):Prop where
 k:c.K=b.K
 h:c.H=b.H
mutual
theorem Rep.cut (x:Cut b c) (hn:n<=c.n) (hm:∀i,i < n->c.m i=b.m i):∀{d:D} {v:V},Rep b d v->bel n d=true->Rep c d v
 | .non,_,h,_=>h
 | .bl _,_,h,_=>h
 | .int _,_,h,_=>h
 | .str _,_,h,_=>h
 | .ty _,_,h,_=>h
 | .tup ds,v,h,q=>by obtain ⟨p,vs,e,t,r⟩:=h;simp only [DL.bel] at q;exact ⟨p,vs,e,by rw [x.k,x.h];exact t,Reps.cut x hn hm r q⟩
 | .fl ds,v,h,q=>by obtain ⟨p,vs,e,t,r⟩:=h;simp only [DL.bel] at q;exact ⟨p,vs,e,by rw [x.k,x.h];exact t,Reps.cut x hn hm r q⟩
 | .ref i,v,h,q=>by obtain ⟨l,e⟩:=h;simp only [DL.bel] at q;have q':=of_decide_eq_true q;exact ⟨Nat.lt_of_lt_of_le q' hn,by rw [hm i q'];exact e⟩
theorem Reps.cut (x:Cut b c) (hn:n<=c.n) (hm:∀i,i < n->c.m i=b.m i):∀{ds:List D} {vs:List V},Reps b ds vs->bels n ds=true->Reps c ds vs
 | [],_,h,_=>h
 | d::ds,vs,h,q=>by obtain ⟨v,r,e,h1,h2⟩:=h;simp only [DL.bels,Bool.and_eq_true] at q;exact ⟨v,r,e,Rep.cut x hn hm h1 q.1,Reps.cut x hn hm h2 q.2⟩
end
theorem ORep.cut (x:Cut b c) (hn:n<=c.n) (hm:∀i,i < n->c.m i=b.m i) (h:ORep b o q) (l:Ik n o=true):ORep c o q:=by
 cases o with
 | lst ds=>obtain ⟨vs,e,r⟩:=h;exact ⟨vs,e,Reps.cut x hn hm r l⟩
 | dct kvs=>obtain ⟨us,e,k,r⟩:=h;exact ⟨us,e,k,Reps.cut x hn hm r l⟩
 | ins c fs=>obtain ⟨C,dx,us,n,e,k,r⟩:=h;exact ⟨C,dx,us,by rw [x.k];exact n,e,k,Reps.cut x hn hm r l⟩
 | gone=>trivial
theorem ORep.Ik (h:ORep a o q):Ik a.n o=true:=by
 cases o with
 | lst ds=>obtain ⟨vs,e,r⟩:=h;exact r.bels
 | dct kvs=>obtain ⟨us,e,k,r⟩:=h;exact r.bels
 | ins c fs=>obtain ⟨C,dx,us,n,e,k,r⟩:=h;exact r.bels
 | gone=>rfl
open Classical in
def tidy (G:DH) (r:R D):R D:=match r with
 | .ok d G'=>if G'.take G.length=G then
   (if bel G.length d=true then .ok d G else match d with
    | .ref i=>match G'[i]? with
     | some o=>if Ik G.length o=true then .ok (.ref G.length) (G++ [o]) else .ok d G'
     | none=>.ok d G'
    | _=>.ok d G') else .ok d G'
 | r=>r
theorem Ye (s:Sim a G) (h:out E a (tidy G r) Q):out E a r Q:=by
 cases r with
 | err e G'=>exact h
 | bad=>exact h
 | ok d G'=>
  intro b v x sb rb;unfold tidy at h;dsimp only at h;split at h
  ·rename_i hG;have hlen:∀i o,G[i]? =some o->G'[i]? =some o:=λi o e=>by have hi:i < G.length:=(List.getElem?_eq_some_iff.mp e).1;rw [<-hG,List.getElem?_take_of_lt hi] at e;exact e
   have base:∀(c:Wd),Cut b c->a.n<=c.n->(∀i,i < a.n->c.m i=b.m i)->∀i o,G[i]? =some o->ORep c o (c.H (c.m i)):=λc cc hn hm i o e=>by have q:=sb.obj i o (hlen i o e);rw [cc.h,hm i (s.lt e)];exact q.cut cc hn hm (s.obj i o e).Ik
   split at h
   ·rename_i hb;rw [s.len] at hb;let c:Wd:=⟨b.K,a.n,b.m,b.H⟩;have cc:Cut b c:=⟨rfl,rfl⟩;refine h c v ⟨x.k,Nat.le_refl _,x.m,x.tup,x.frz⟩ ⟨s.len,λi j hi hj=>sb.inj i j (Nat.lt_of_lt_of_le hi x.n) (Nat.lt_of_lt_of_le hj x.n),base c cc (Nat.le_refl _) (λ_ _=>rfl),λi hi=>sb.tr i (Nat.lt_of_lt_of_le hi x.n)⟩ ?_;exact rb.cut cc (Nat.le_refl _) (λ_ _=>rfl) hb
   ·rename_i hb;split at h
    ·rename_i i;obtain ⟨il,iv⟩:=rb;split at h
     ·rename_i o ho;split at h
      ·rename_i hbo;rw [s.len] at hbo hb h;simp only [DL.bel,decide_eq_true_eq] at hb;let c:Wd:=⟨b.K,a.n + 1,λk=>if k=a.n then b.m i else b.m k,b.H⟩;have cc:Cut b c:=⟨rfl,rfl⟩;have cm:∀j,j < a.n->c.m j=b.m j:=λj hj=>by show (if j=a.n then b.m i else b.m j)=_;rw [if_neg (Nat.ne_of_lt hj)]
       have cn:c.m a.n=b.m i:=by show (if a.n=a.n then b.m i else b.m a.n)=_;rw [if_pos rfl]
       have lt':∀j,j < a.n->j < b.n:=λj hj=>Nat.lt_of_lt_of_le hj x.n
       refine h c v ⟨x.k,Nat.le_succ _,λj hj=>(cm j hj).trans (x.m j hj),x.tup,x.frz⟩ ⟨by simp [s.len,c],λj k hj hk e=> ?_,λj u e=> ?_,λj hj=> ?_⟩ ⟨Nat.lt_succ_self _,by rw [cn];exact iv⟩
       ·have hj':j < a.n + 1:=hj;have hk':k < a.n + 1:=hk;by_cases h1:j < a.n
        ·by_cases h2:k < a.n
         ·rw [cm j h1,cm k h2] at e;exact sb.inj j k (lt' j h1) (lt' k h2) e
         ·have:k=a.n:=by omega
          subst this;rw [cm j h1,cn] at e;have:=sb.inj j i (lt' j h1) il e;omega
        ·have:j=a.n:=by omega
         subst this;by_cases h2:k < a.n
         ·rw [cm k h2,cn] at e;have:=sb.inj i k il (lt' k h2) e;omega
         ·omega
       ·by_cases h1:j < a.n
        ·rw [List.getElem?_append_left (by rw [s.len];exact h1)] at e;exact base c cc (Nat.le_succ _) cm j u e
        ·have hl:j < (G++ [o]).length:=(List.getElem?_eq_some_iff.mp e).1;have:j=a.n:=by rw [List.length_append,s.len] at hl;simp at hl;omega
         subst this;rw [List.getElem?_append_right (by rw [s.len];exact Nat.le_refl _),s.len] at e;simp at e;subst e;rw [cn];exact (sb.obj i o ho).cut cc (Nat.le_succ _) cm hbo
       ·have hj':j < a.n + 1:=hj;by_cases h1:j < a.n
        ·rw [cm j h1];exact sb.tr j (lt' j h1)
        ·have:j=a.n:=by omega
         subst this;rw [cn];exact sb.tr i il
      ·exact h b v x sb ⟨il,iv⟩
     ·exact h b v x sb ⟨il,iv⟩
    ·exact h b v x sb rb
  ·exact h b v x sb rb
end
def dV (i:Nat):DE:=λS G=>match S[i]? with
 | some (some d)=>.ok d G
 | _=>.bad
def dC (d:D):DE:=λ_ G=>.ok d G
def dOp (f:D->D->DH->R D) (a b:DE):DE:=λS G=>(a S G).bind λx G1=>(b S G1).bind λy G2=>f x y G2
def dUn (f:D->DH->R D) (a:DE):DE:=λS G=>(a S G).bind f
def Af:DA:=λ_ G=>.ok [] G
def Ac (a:DE) (r:DA):DA:=λS G=>(a S G).bind λx G1=>(r S G1).bind λxs G2=>.ok (x::xs) G2
def dFn (f:List D->DH->R D) (t:DA):DE:=λS G=>(t S G).bind f
def Ew (t:DE):DE:=λS G=>tidy G (t S G)
def asB:D->DH->R Bool
 | .bl k,G=>.ok k G
 | _,_=>.bad
def Be (t:DE):DB:=λS G=>(t S G).bind asB
def J0 (t u:DB):DB:=λS G=>(t S G).bind λk G1=>if k=true then u S G1 else .ok false G1
def dOr (t u:DB):DB:=λS G=>(t S G).bind λk G1=>if k=true then .ok true G1 else u S G1
def S7 (t:DB):DB:=λS G=>(t S G).bind λk G1=>.ok (!k) G1
def Nm (t u:DE):DE:=λS G=>(t S G).bind λx G1=>(asB x G1).bind λk G2=>if k=true then u S G2 else .ok (.bl false) G2
def U5 (t:DE):DE:=λS G=>(t S G).bind λx G1=>(asB x G1).bind λk G2=>.ok (.bl (!k)) G2
def Cu (ds:List D) (G:DH):R D:=if ds.length<=1000000 then .ok (.tup ds) G else .bad
def Ax (ds:List D) (G:DH):R D:=if ds.length<=1000000 then .ok (.ref G.length) (G++ [.lst ds]) else .bad
def Bf (d:D) (G:DH):Option (List D):=match d with
 | .tup xs=>some xs
 | .fl xs=>some xs
 | .ref i=>match G[i]? with
  | some (.lst xs)=>some xs
  | _=>none
 | _=>none
theorem size6:(1000000:Nat)<=sizeLine:=by decide
section
variable {X:Cx} {E:XK} {a b c:Expr} {ta tb tc:DE} {pos:Pos}
theorem two (h:lE K E (dOp f ta tb) σ H Q):tOp (lR2 K E f) (lE K E ta) (lE K E tb) σ H Q:=by obtain ⟨a,S,G,hk,rfl,s,r,h⟩:=h;refine ⟨a,S,G,hk,rfl,s,r,(Gk h).imp ?_⟩;rintro v _ ⟨b,d,G1,rfl,x,s1,q,_,h1⟩;refine ⟨b,S,G1,x.k.trans hk,rfl,s1,r.mono x,(Gk h1).imp ?_⟩;rintro w _ ⟨c,e,G2,rfl,y,s2,q2,_,h2⟩;exact ⟨c,G2,d,e,y.k.trans (x.k.trans hk),rfl,s2,q.mono y,q2,h2⟩
theorem Aa (i:Nat) {pos:Pos} (hN:X.N[i]? =some x:=by rfl) (hv:Vis X.env.scope x:=by first | exact Or.inl rfl | exact Or.inr (Or.inl rfl) | exact Or.inr (Or.inr rfl)) (hd:(x == ("__debug__":Str))=false:=by decide)
  (hcd:(x == ("__classdict__":Str))=false:=by decide):QE X E (.Name x pos) (dV i):=by
 refine (ZDh hN hv hd hcd).mono λσ H Q h=> ?_
 obtain ⟨a,S,G,hk,rfl,s,r,h⟩:=h;unfold dV at h;split at h
 ·rename_i d e;obtain ⟨v,e',q⟩:=r.get i d e;exact ⟨v,e',h a v (Ext.refl a) s q⟩
 ·exact h.elim
theorem Ji (h:lE K E (dC d) σ H Q) (r:∀a:Wd,a.K=K->Rep a d v):Q v H:=by obtain ⟨a,S,G,hk,rfl,s,_,h⟩:=h;exact h a v (Ext.refl a) s (r a hk)
theorem Ab {i:Int} :QE X E (.Constant (.int i) j pos) (dC (.int i)):=ZCy.mono λσ H Q h=>Ji h λ_ _=>rfl
theorem Vg {i:Bool} :QE X E (.Constant (.bool i) j pos) (dC (.bl i)):=ZEH.mono λσ H Q h=>Ji h λ_ _=>rfl
theorem ZBO:QE X E (.Constant .none j pos) (dC .non):=ZBx.mono λσ H Q h=>Ji h λ_ _=>rfl
theorem Cd {i:Str} :QE X E (.Constant (.str i) j pos) (dC (.str i)):=ZCe.mono λσ H Q h=>Ji h λ_ _=>rfl
theorem Nv {u:Value} (hg:Gl X x) (hm:X.mg x=some u) (r:RelV v u) (rd:∀a:Wd,a.K=X.K->Rep a d v) (hd:(x == ("__debug__":Str))=false:=by decide):QE X E (.Name x pos) (dC d):=
 (ZFm hg hm r hd).mono λσ H Q h=>Ji h rd
theorem Ae {op:Operator} (ho:OpR X (binaryOp op) (lR2 X.K E f)) (ha:QE X E a ta) (hb:QE X E b tb):QE X E (.BinOp a op b pos) (dOp f ta tb):=
 (ZEB ho ha hb).mono λ_ _ _ h=>two h
theorem Jt {op:CmpOp} (ho:OpR X (compareOp op) (lR2 X.K E f)) (ha:QE X E a ta) (hb:QE X E b tb) (hm:behindInMarks op b=false):QE X E (.Compare a [op] [b] pos) (dOp f ta tb):=
 (ZFC ho ha hb hm).mono λ_ _ _ h=>two h
theorem Zn {Q:Bool->Hp->Prop} (h:lB K E (Be t) σ H Q):Pz (lE K E t) σ H Q:=by
 obtain ⟨a,S,G,hk,rfl,s,r,h⟩:=h;refine ⟨a,S,G,hk,rfl,s,r,(ZCh h).imp ?_⟩;rintro v _ ⟨b,d,G1,rfl,x,s1,q,_,h1⟩;cases d with
 | bl k=>exact ⟨k,q,h1 b (Ext.refl b) s1⟩
 | _=>exact h1.elim
theorem ZF0 {t t':TE} (w:∀σ H Q,t' σ H Q->t σ H Q) (σ:St) (H:Hp) (Q:Bool->Hp->Prop) (h:Pz t' σ H Q):Pz t σ H Q:=w _ _ _ h
theorem Bk {op:CmpOp} (ho:OpR X (compareOp op) (lR2 X.K E f)) (ha:QE X E a ta) (hb:QE X E b tb) (hm:behindInMarks op b=false):QT X E (.Compare a [op] [b] pos) (Be (dOp f ta tb)):=
 (ZDZ ho ha hb hm).mono λσ H Q h=>ZF0 (λ_ _ _ z=>two z) σ H Q (Zn h)
theorem Rp (ha:QE X E a ta) (he:∀whole,isTrue a X.env whole=(do let v<-whole;standAt a.pos;holding [v] (truthy v)):=by intro _;rfl):QT X E a (Be ta):=
 (ZF2 ha he).mono λσ H Q h=>Zn h
theorem Gf (ha:QE X E a ta):QE X E a (Ew ta):=L2.PE.mono ha λσ H Q h=>by obtain ⟨w,S,G,hk,rfl,s,r,h⟩:=h;exact ⟨w,S,G,hk,rfl,s,r,Ye s h⟩
def QW (X:Cx) (E:XK) (e:Expr) (t:DB):Prop:=PW X e (lB X.K E t)
theorem _root_.L2.PW.mono {t t':TT} (h:PW X e t) (w:∀σ H Q,t' σ H Q->t σ H Q):PW X e t':=λwh pins s σ H Q I q=>h wh pins s σ H Q I (w σ H Q q)
variable {u t:DB} {rest:List Expr}
theorem ZD8 {Q:Bool->Hp->Prop} (h:lB K E (J0 t u) σ H Q):tAnd (lB K E t) (lB K E u) σ H Q:=by
 obtain ⟨a,S,G,hk,rfl,s,r,h⟩:=h;refine ⟨a,S,G,hk,rfl,s,r,(Up h).imp ?_⟩;rintro k _ ⟨b,G1,rfl,x,s1,_,h1⟩;cases k with
 | true=>exact ⟨b,S,G1,x.k.trans hk,rfl,s1,r.mono x,h1⟩
 | false=>exact h1 b (Ext.refl b) s1
theorem ZEF {Q:Bool->Hp->Prop} (h:lB K E (dOr t u) σ H Q):tOr (lB K E t) (lB K E u) σ H Q:=by
 obtain ⟨a,S,G,hk,rfl,s,r,h⟩:=h;refine ⟨a,S,G,hk,rfl,s,r,(Up h).imp ?_⟩;rintro k _ ⟨b,G1,rfl,x,s1,_,h1⟩;cases k with
 | true=>exact h1 b (Ext.refl b) s1
 | false=>exact ⟨b,S,G1,x.k.trans hk,rfl,s1,r.mono x,h1⟩
theorem Sg (ha:QT X E a t):QW X E (.BoolOp .And [a] pos) t:=ZB5 ha
theorem Lq (ha:QT X E a t):QW X E (.BoolOp .Or [a] pos) t:=ZEC ha
theorem Qe (ha:QT X E a t) (hb:QW X E (.BoolOp .And (b::rest) pos) u):QW X E (.BoolOp .And (a::b::rest) pos) (J0 t u):=(ZB4 ha hb).mono λ_ _ _ h=>ZD8 h
theorem Nr (ha:QT X E a t) (hb:QW X E (.BoolOp .Or (b::rest) pos) u):QW X E (.BoolOp .Or (a::b::rest) pos) (dOr t u):=(ZCH ha hb).mono λ_ _ _ h=>ZEF h
theorem Hi (h:QW X E a t):QT X E a t:=L2.PW.pt h
theorem ZAi (ha:QT X E a t):QT X E (.UnaryOp .Not a pos) (S7 t):=(ZEf ha).mono λσ H Q h=>by obtain ⟨a,S,G,hk,rfl,s,r,h⟩:=h;refine ⟨a,S,G,hk,rfl,s,r,(Up h).imp ?_⟩;rintro k _ ⟨b,G1,rfl,x,s1,_,h1⟩;exact h1 b (Ext.refl b) s1
theorem We {op} (h:QE X E a ta):QE X E (.BoolOp op [a] pos) ta:=ZGL h
theorem Uw (ha:QE X E a ta) (hb:QE X E (.BoolOp .And (b::rest) pos) tb):QE X E (.BoolOp .And (a::b::rest) pos) (Nm ta tb):=(ZEv ha hb).mono λσ H Q h=>by
 obtain ⟨a,S,G,hk,rfl,s,r,h⟩:=h;refine ⟨a,S,G,hk,rfl,s,r,(Gk h).imp ?_⟩;rintro v _ ⟨b,d,G1,rfl,x,s1,q,_,h1⟩;cases d with
 | bl k=>
  refine ⟨k,q,?_⟩;cases k with
  | true=>exact ⟨b,S,G1,x.k.trans hk,rfl,s1,r.mono x,h1⟩
  | false=>exact h1 b _ (Ext.refl b) s1 rfl
 | _=>exact h1.elim
theorem ZCv (ha:QE X E a ta):QE X E (.UnaryOp .Not a pos) (U5 ta):=(ZFG ha).mono λσ H Q h=>by
 obtain ⟨a,S,G,hk,rfl,s,r,h⟩:=h;refine ⟨a,S,G,hk,rfl,s,r,(Gk h).imp ?_⟩;rintro v _ ⟨b,d,G1,rfl,x,s1,q,_,h1⟩;cases d with
 | bl k=>exact ⟨k,q,h1 b _ (Ext.refl b) s1 rfl⟩
 | _=>exact h1.elim
variable {es:List Expr} {tr:DA}
theorem Ag:QA X E [] Af:=ZCg.mono λσ H Q h=>by obtain ⟨a,S,G,hk,rfl,s,r,h⟩:=h;exact h a [] (Ext.refl a) s rfl
def notStar:Expr->Bool
 | .Starred _ _=>false
 | _=>true
theorem Nj (a:Expr) (es:List Expr) (env:Env) (h:notStar a=true):starEach (a::es) env=(false,eval a env)::starEach es env:=by
 cases a <;> first
  | exact absurd h Bool.false_ne_true
  | rfl
theorem Qx (pos:Pos) (env:Env):∀es:List Expr,es.all notStar=true->(backTo pos (starEach es env)).any (·.1)=false
 | [],_=>rfl
 | a::es,h=>by
  rw [List.all_cons,Bool.and_eq_true] at h;rw [Nj a es env h.1];have ih:=Qx pos env es h.2;unfold backTo at ih ⊢;rw [List.map_cons,List.any_cons,ih]
  rfl
theorem Ad (ha:QE X E a ta) (hr:QA X E es tr) (hs:notStar a=true:=by rfl):QA X E (a::es) (Ac ta tr):=(ZFQ ha hr (Nj a es X.env hs)).mono λσ H Q h=>by obtain ⟨a,S,G,hk,rfl,s,r,h⟩:=h;refine ⟨a,S,G,hk,rfl,s,r,(ZDP h).imp ?_⟩;rintro v _ ⟨b,d,G1,rfl,x,s1,q,_,h1⟩;refine ⟨b,S,G1,x.k.trans hk,rfl,s1,r.mono x,(ZDY h1).imp ?_⟩;rintro vs _ ⟨c,ds,G2,rfl,y,s2,q2,_,h2⟩;exact h2 c _ (Ext.refl c) s2 (Reps.cons (q.mono y) q2)
theorem Ds {x1} (h:QA X E es tr):QE X E (.Tuple es x1 pos) (dFn Cu tr):=(ZDk h).mono λσ H Q h=>by
 obtain ⟨a,S,G,hk,rfl,s,r,h⟩:=h;refine ⟨a,S,G,hk,rfl,s,r,(Nf h).imp ?_⟩;rintro vs _ ⟨b,ds,G1,rfl,x,s1,q,_,h1⟩;unfold Cu at h1;split at h1
 ·rename_i hl;refine ⟨by rw [<-q.length];exact Nat.le_trans hl size6,λp hp=> ?_⟩;exact h1 (b.put p (.tup vs)) (.ref p) (Ext.put hp) (s1.put hp) ⟨p,vs,rfl,.of Ej,q.mono (Ext.put hp)⟩
 ·exact h1.elim
theorem Du (h:QA X E es tr):QE X E (.List es pos) (dFn Ax tr):=(ZDy h).mono λσ H Q h=>by
 obtain ⟨a,S,G,hk,rfl,s,r,h⟩:=h;refine ⟨a,S,G,hk,rfl,s,r,(Nf h).imp ?_⟩;rintro vs _ ⟨b,ds,G1,rfl,x,s1,q,_,h1⟩;unfold Ax at h1;split at h1
 ·rename_i hl;refine ⟨by rw [<-q.length];exact Nat.le_trans hl size6,λp hp=> ?_⟩;refine h1 (b.push p (.lst vs)) (.ref p) (Ext.push hp) (s1.push hp ⟨vs,rfl,q.mono (Ext.push hp)⟩) ⟨?_,?_⟩
  ·rw [s1.len];exact Nat.lt_succ_self _
  ·rw [s1.len];show V.ref p=.ref (if b.n=b.n then p else b.m b.n);rw [if_pos rfl]
 ·exact h1.elim
variable {e:Expr} {x:Str} {p:Pos}
theorem Vl {f:List D->DH->R D} (h:lE K E (dFn f tr) σ H Q):lA K E tr σ H (λvs H1=>lRn K E f vs H1 Q):=by obtain ⟨a,S,G,hk,rfl,s,r,h⟩:=h;refine ⟨a,S,G,hk,rfl,s,r,(Nf h).imp ?_⟩;rintro vs _ ⟨b,ds,G1,rfl,x,s1,q,_,h1⟩;exact ⟨b,G1,ds,x.k.trans hk,rfl,s1,q,h1⟩
theorem Cq {id:String} {f:List D->DH->R D} (hc:CallR X (.builtin id) (lRn X.K E f)) (hg:Gl X x) (hm:X.mg x=none) (hv:bootBuiltins x=some (.builtin id)) (ha:QA X E (e::es) tr) (hn:x≠"__name__":=by decide) (hdb:(x == ("__debug__":Str))=false:=by decide)
  (he:notStar e=true:=by rfl) (hpl:es.all notStar=true:=by rfl):QE X E (.Call (.Name x p) (e::es) [] pos) (dFn f tr):=
 (ZGU hc hg hm hv ha hn hdb (Nj e es X.env he) (Qx pos X.env es hpl)).mono λσ H Q h=>Vl h
theorem Hn {id:String} {f:List D->DH->R D} (hc:CallR X (.type id) (lRn X.K E f)) (hg:Gl X x) (hm:X.mg x=none) (hv:bootBuiltins x=some (.type id)) (ha:QA X E (e::es) tr) (hn:x≠"__name__":=by decide) (hdb:(x == ("__debug__":Str))=false:=by decide)
  (he:notStar e=true:=by rfl) (hpl:es.all notStar=true:=by rfl):QE X E (.Call (.Name x p) (e::es) [] pos) (dFn f tr):=
 (ZGC hc hg hm hv ha hn hdb (Nj e es X.env he) (Qx pos X.env es hpl)).mono λσ H Q h=>Vl h
theorem Bb {CX:CXT} {f:Addr} {fd:FuncData} {ps:List Str} {F:List D->DH->R D} (FF:FnOk X.prog X.w X.K X.mg X.base CX k f fd ps (lF X.K F)) (hr:Room k X.A) (hg:Gl X x) (hm:X.mg x=some (.ref f)) (hk:PySem.W.keepIn X.K (.ref f)=true) (hb:Binds X.K fd ps [])
  (hx:Passes CX X E) (ha:QA X E (e::es) tr) (hdb:(x == ("__debug__":Str))=false:=by decide) (he:notStar e=true:=by rfl) (hpl:es.all notStar=true:=by rfl):
  QE X E (.Call (.Name x p) (e::es) [] pos) (dFn F tr):=
 (ZF5 FF hr hg hm hk hb .nil hx ha hdb (Nj e es X.env he) (Qx pos X.env es hpl)).mono λσ H Q h=>by obtain ⟨a,S,G,hk,rfl,s,r,h⟩:=Vl h;refine ⟨a,S,G,hk,rfl,s,r,h.imp ?_⟩;rintro vs _ ⟨b,G1,ds,hk,rfl,s1,q,h1⟩;exact ⟨b,G1,ds,hk,rfl,s1,by rw [List.append_nil];exact q,h1⟩
theorem Al (hr:IxR X (lR2 X.K E f)) (ha:QE X E a ta) (hb:QE X E b tb) (hs:PlainIx b:=by intro _ _;rfl):QE X E (.Subscript a b pos) (dOp f ta tb):=
 (ZBe hr ha hb hs).mono λ_ _ _ h=>two h
end
instance (i j:Int):Decidable (CMul i j):=by unfold CMul;infer_instance
instance (i j:Int):Decidable (CPow i j):=by unfold CPow;infer_instance
def CDivL (j:Int):Prop:=0 < j/\j.natAbs.log2 < 9000
instance (j:Int):Decidable (CDivL j):=by unfold CDivL;infer_instance
def Iz:D->D->DH->R D
 | .int i,.int j,G=>.ok (.int (i - j)) G
 | _,_,_=>.bad
def Ck:D->D->DH->R D
 | .int i,.int j,G=>if CDivL j then .ok (.int (i / j)) G else .bad
 | _,_,_=>.bad
def Av:D->D->DH->R D
 | .int i,.int j,G=>if 0 < j then .ok (.int (i % j)) G else .bad
 | _,_,_=>.bad
def G6:D->D->DH->R D
 | .int i,.int j,G=>if CPow i j then .ok (.int (i ^ j.toNat)) G else .bad
 | _,_,_=>.bad
def Mq:D->D->DH->R D
 | .int i,.int j,G=>.ok (.bl (decide (i < j))) G
 | .str i,.str j,G=>.ok (.bl (decide (i.cps.toList < j.cps.toList))) G
 | _,_,_=>.bad
def Fi:D->D->DH->R D
 | .int i,.int j,G=>.ok (.bl (decide (j < i))) G
 | .str i,.str j,G=>.ok (.bl (decide (j.cps.toList < i.cps.toList))) G
 | _,_,_=>.bad
def Ur:D->D->DH->R D
 | .int i,.int j,G=>.ok (.bl (decide (j<=i))) G
 | .str i,.str j,G=>.ok (.bl (!decide (i.cps.toList < j.cps.toList))) G
 | _,_,_=>.bad
def Ei (d:D) (G:DH):Option (List D):=match d with
 | .fl xs=>some xs
 | .ref i=>match G[i]? with
  | some (.lst xs)=>some xs
  | _=>none
 | _=>none
def An:D->D->DH->R D
 | .int i,.int j,G=>.ok (.int (i + j)) G
 | .str i,.str j,G=>if i.length + j.length<=1000000 then .ok (.str (i++j)) G else .bad
 | .tup xs,.tup ys,G=>if xs≠ []/\xs.length + ys.length<=1000000 then .ok (.tup (xs++ys)) G else .bad
 | d,e,G=>match Ei d G,Ei e G with
  | some xs,some ys=>if xs.length + ys.length<=1000000 then .ok (.ref G.length) (G++ [.lst (xs++ys)]) else .bad
  | _,_=>.bad
section
variable {X:Cx} {E:XK}
theorem Fy {f:Value->Value->Sem Value} {r:R2} {F:D->D->DH->R D} (ho:OpR X f r)
  (h:∀(a:Wd) (G:DH) (d e:D) (x y:V) (Q:VK),a.K=X.K->Sim a G->Rep a d x->Rep a e y->out E a (F d e G) Q->r x y a.H Q):OpR X f (lR2 X.K E F):=
 ho.mono λx y H Q ⟨a,G,d,e,hk,hH,s,rd,re,q⟩=>by subst hH;exact h a G d e x y Q hk s rd re q
theorem M8:OpR X (binaryOp .Sub) (lR2 X.K E Iz):=Fy ZFd λa G d e x y Q hk s rd re q=>by
 cases d <;> cases e <;> first
  | exact q.elim
  | exact ⟨_,_,rd,re,q a _ (Ext.refl a) s rfl⟩
theorem ZFe:OpR X (binaryOp .FloorDiv) (rI (λ_ j=>CDivL j) λi j=>.int (i / j)):=opI λi j _ _ _ _ _ hc q=>by have e:i.fdiv j=i / j:=Int.fdiv_eq_ediv_of_nonneg _ (Int.le_of_lt hc.1);refine floordiv_int (by have:=hc.1;omega) (by rw [e];exact q) (.inl (PyProof.noPylong_of_log2 hc.2))
theorem Di:OpR X (binaryOp .FloorDiv) (lR2 X.K E Ck):=Fy ZFe λa G d e x y Q hk s rd re q=>by
 cases d <;> cases e <;> first
  | exact q.elim
  | (
    rename_i i j;unfold Ck at q;dsimp only at q;split at q
    ·exact ⟨_,_,rd,re,by assumption,q a _ (Ext.refl a) s rfl⟩
    ·exact q.elim)
theorem Aw:OpR X (binaryOp .Mod) (lR2 X.K E Av):=Fy ZBo λa G d e x y Q hk s rd re q=>by
 cases d <;> cases e <;> first
  | exact q.elim
  | (
    rename_i i j;unfold Av at q;dsimp only at q;split at q
    ·exact ⟨_,_,rd,re,by assumption,q a _ (Ext.refl a) s rfl⟩
    ·exact q.elim)
theorem Hs:OpR X (binaryOp .Pow) (lR2 X.K E G6):=Fy ZES λa G d e x y Q hk s rd re q=>by
 cases d <;> cases e <;> first
  | exact q.elim
  | (
    rename_i i j;unfold G6 at q;dsimp only at q;split at q
    ·exact ⟨_,_,rd,re,by assumption,q a _ (Ext.refl a) s rfl⟩
    ·exact q.elim)
theorem U0:OpR X (compareOp .Lt) (lR2 X.K E Mq):=Fy (ZGY.or ZE6) λa G d e x y Q hk s rd re q=>by
 cases d <;> cases e <;> first
  | exact q.elim
  | exact .inl ⟨_,_,rd,re,q a _ (Ext.refl a) s rfl⟩
  | exact .inr ⟨_,_,rd,re,q a _ (Ext.refl a) s rfl⟩
theorem ZD2:OpR X (compareOp .Gt) (λx y H Q=>∃i j,x=.str i/\y=.str j/\Q (.bl (decide (j.cps.toList < i.cps.toList))) H):=by intro pins s σ H x y v u Q I rx ry h;obtain ⟨i,j,rfl,rfl,q⟩:=h;obtain ⟨t,rfl⟩:=rx;obtain ⟨t',rfl⟩:=ry;exact PySem.P.gt_str ⟨.bl _,H,I,rfl,q⟩
theorem ZGK:OpR X (compareOp .GtE) (λx y H Q=>∃i j,x=.str i/\y=.str j/\Q (.bl (!decide (i.cps.toList < j.cps.toList))) H):=by intro pins s σ H x y v u Q I rx ry h;obtain ⟨i,j,rfl,rfl,q⟩:=h;obtain ⟨t,rfl⟩:=rx;obtain ⟨t',rfl⟩:=ry;exact PySem.P.ge_str ⟨.bl _,H,I,rfl,q⟩
theorem Gg:OpR X (compareOp .Gt) (lR2 X.K E Fi):=Fy (ZDW.or ZD2) λa G d e x y Q hk s rd re q=>by
 cases d <;> cases e <;> first
  | exact q.elim
  | exact .inl ⟨_,_,rd,re,q a _ (Ext.refl a) s rfl⟩
  | exact .inr ⟨_,_,rd,re,q a _ (Ext.refl a) s rfl⟩
theorem o_ge:OpR X (compareOp .GtE) (lR2 X.K E Ur):=Fy (ZFY.or ZGK) λa G d e x y Q hk s rd re q=>by
 cases d <;> cases e <;> first
  | exact q.elim
  | exact .inl ⟨_,_,rd,re,q a _ (Ext.refl a) s rfl⟩
  | exact .inr ⟨_,_,rd,re,q a _ (Ext.refl a) s rfl⟩
theorem Sim.lst (s:Sim a G) (h:G[i]? =some (.lst xs)):∃vs,a.H (a.m i)=some (.lst vs)/\Reps a xs vs:=s.obj i _ h
theorem Pr (s:Sim a G) (r:Reps a ds vs) (h:out E a (.ok (.ref G.length) (G++ [.lst ds])) Q) (p:Addr) (hp:a.H p=none):Q (.ref p) (upd a.H p (.lst vs)):=by
 refine h (a.push p (.lst vs)) (.ref p) (Ext.push hp) (s.push hp ⟨vs,rfl,r.mono (Ext.push hp)⟩) ⟨?_,?_⟩
 ·rw [s.len];exact Nat.lt_succ_self _
 ·rw [s.len];show V.ref p=.ref (if a.n=a.n then p else a.m a.n);rw [if_pos rfl]
theorem Vf (s:Sim a G) (r:Reps a ds vs) (h:out E a (.ok (.tup ds) G) Q) (p:Addr) (hp:a.H p=none):Q (.ref p) (upd a.H p (.tup vs)):=
 h (a.put p (.tup vs)) (.ref p) (Ext.put hp) (s.put hp) ⟨p,vs,rfl,.of Ej,r.mono (Ext.put hp)⟩
theorem Rw {x:V} (s:Sim a G) (r:Rep a d x) (h:Ei d G=some xs):∃p vs,x=.ref p/\SqL a.K a.H p vs/\Reps a xs vs:=by
 cases d with
 | fl ys=>
  have e:ys=xs:=Option.some.inj h;subst e;obtain ⟨p,vs,e,q,rr⟩:=r;exact ⟨p,vs,e,q.sq,rr⟩
 | ref i=>
  unfold Ei at h;dsimp only at h;split at h
  ·rename_i ys hi;have e:ys=xs:=Option.some.inj h;subst e;obtain ⟨vs,e1,r1⟩:=s.lst hi;exact ⟨a.m i,vs,r.2,.of e1,r1⟩
  ·cases h
 | _=>cases h
def ZBV (K:PySem.W.Frag):R2:=λx y H Q=>∃l b xs zs,x=.ref l/\y=.ref b/\SqL K H l xs/\SqL K H b zs/\xs.length + zs.length<=sizeLine/\∀p,H p=none->Q (.ref p) (upd H p (.lst (xs++zs)))
theorem ZCT:OpR X (binaryOp .Add) (ZBV X.K):=by
 intro pins s σ H x y v u Q I rx ry h;obtain ⟨l,b,xs,zs,rfl,rfl,hH,hB,hz,q⟩:=h;cases rx;cases ry;obtain ⟨its,r,p1,_⟩:=I.list hH;obtain ⟨its2,r2,p2,_⟩:=I.list hB;obtain ⟨⟨cls,dd,data,sl⟩,n,ho,hc,_,hd⟩:=p1;obtain ⟨⟨cls2,dd2,data2,sl2⟩,n2,ho2,hc2,_,hd2⟩:=p2;cases hc;cases hd;cases hc2;cases hd2;have hl:=r.length;have hl2:=r2.length;refine concat_meets ⟨_,ho,rfl⟩ ⟨_,ho2,rfl⟩ noFill_list_add seq_list_add PySem.F.slot_list_add PySem.F.entry_list_add (PySem.F.args_list_add_2 _ _) (list_addW l b its.toArray its2.toArray n n2 dd dd2 sl sl2 (by rw [List.size_toArray,List.size_toArray];omega)) ⟨ho,ho2,?_⟩
 have ea:its.toArray++its2.toArray=(its++its2).toArray:=by simp
 rw [ea];exact ⟨.ref _,_,I.lnew (t':=s.toks) (r.append r2) (by rw [List.length_append];omega),rfl,q _ I.fresh⟩
theorem Aq:OpR X (binaryOp .Add) (lR2 X.K E An):=Fy (ZEu.or (ZCN.or (ZCT.or ZBs))) λa G d e x y Q hk s rd re q=>by
 have lst:out E a (match Ei d G,Ei e G with
  | some xs,some ys=>if xs.length + ys.length<=1000000 then .ok (.ref G.length) (G++ [.lst (xs++ys)]) else .bad
  | _,_=>.bad) Q->ZBV X.K x y a.H Q:=λq=>by
  split at q
  ·rename_i xs ys h1 h2;split at q
   ·rename_i hl;obtain ⟨p,vs,e1,q1,r1⟩:=Rw s rd h1;obtain ⟨p',vs',e2,q2,r2⟩:=Rw s re h2;rw [hk] at q1 q2;exact ⟨p,p',vs,vs',e1,e2,q1,q2,by rw [<-r1.length,<-r2.length];exact Nat.le_trans hl size6,λp hp=>Pr s (r1.append r2) q p hp⟩
   ·exact q.elim
  ·exact q.elim
 have L:=λq=>Or.inr (a:=rI0 (λi j=>V.int (i + j)) x y a.H Q) (Or.inr (a:=∃i j,x=.str i/\y=.str j/\i.length + j.length<=sizeLine/\Q (.str (i++j)) a.H) (Or.inl (b:=Zm X.K x y a.H Q) (lst q)))
 cases d <;> cases e <;> first
  | exact .inl ⟨_,_,rd,re,q a _ (Ext.refl a) s rfl⟩
  | exact L q
  | skip
 ·rename_i i j;unfold An at q;dsimp only at q;split at q
  ·rename_i hl;exact .inr (.inl ⟨_,_,rd,re,Nat.le_trans hl size6,q a _ (Ext.refl a) s rfl⟩)
  ·exact q.elim
 ·rename_i xs ys;unfold An at q;dsimp only at q;split at q
  ·rename_i hl;obtain ⟨p,vs,e1,h1,r1⟩:=rd;obtain ⟨p',vs',e2,h2,r2⟩:=re;rw [hk] at h1 h2;refine .inr (.inr (.inr ⟨p,p',vs,vs',e1,e2,h1,h2,λz=>hl.1 (List.eq_nil_of_length_eq_zero (by rw [r1.length,z];rfl)),by rw [<-r1.length,<-r2.length];exact Nat.le_trans hl.2 size6,λz=> ?_,λ_ p0 hp=> ?_⟩))
   ·refine q a (.ref p) (Ext.refl a) s ⟨p,vs,rfl,by rw [hk];exact h1,?_⟩;have e3:ys= []:=List.eq_nil_of_length_eq_zero (by rw [r2.length,z];rfl);rw [e3,List.append_nil];exact r1
   ·exact Vf s (r1.append r2) q p0 hp
  ·exact q.elim
inductive VD where
 | flat (v:V)
 | lst (xs:List D)
 | tup (xs:List D)
 | bad
def view (G:DH):D->VD
 | .non=>.flat .non
 | .bl b=>.flat (.bl b)
 | .int i=>.flat (.int i)
 | .str x=>.flat (.str x)
 | .ty _=>.bad
 | .tup xs=>.tup xs
 | .fl xs=>.lst xs
 | .ref i=>match G[i]? with
  | some (.lst xs)=>.lst xs
  | _=>.bad
def eqZ (f:D->D->Option Bool):List D->List D->Option Bool
 | x::xs,y::ys=>match f x y,eqZ f xs ys with
  | some a,some b=>some (a && b)
  | _,_=>none
 | _,_=>some true
def eqD:Nat->DH->D->D->Option Bool
 | 0=>λ_ _ _=>none
 | n + 1=>λG d e=>match view G d,view G e with
  | .flat a,.flat b=>some (eqV a b)
  | .lst xs,.lst ys=>if xs.length=ys.length then eqZ (eqD n G) xs ys else some false
  | .tup xs,.tup ys=>match eqZ (eqD n G) xs ys with
   | some b=>some (b && xs.length == ys.length)
   | none=>none
  | .bad,_=>none
  | _,.bad=>none
  | _,_=>some false
theorem Sh {f:D->D->Option Bool}:∀{xs ys:List D} {k:Bool},eqZ f xs ys=some k->∃e:Nat->Bool,(∀(j:Nat) (x y:D),xs[j]? =some x->ys[j]? =some y->f x y=some (e j))/\k=(List.range (min xs.length ys.length)).all e
 | [],ys,k,h=>⟨λ_=>true,λj x y e1 _=>by simp at e1,by
   have h':some true=some k:=by cases ys <;> exact h
   cases h';simp⟩
 | x::xs,[],k,h=>⟨λ_=>true,λj x y _ e1=>by simp at e1,by have h':some true=some k:=h;cases h';simp⟩
 | x::xs,y::ys,k,h=>by
  unfold eqZ at h;split at h
  ·rename_i a b h1 h2;obtain ⟨e,he,hk⟩:=Sh h2;have h':(a && b)=k:=Option.some.inj h
   refine ⟨λj=>match j with | 0=>a | j + 1=>e j,λj x' y' e1 e2=> ?_,?_⟩
   ·cases j with
    | zero=>simp at e1 e2;subst e1;subst e2;exact h1
    | succ j=>exact he j x' y' (by simpa using e1) (by simpa using e2)
   ·rw [<-h',hk];have:min (x::xs).length (y::ys).length=min xs.length ys.length + 1:=by simp only [List.length_cons];omega
    rw [this,List.range_succ_eq_map,List.all_cons,List.all_map]
    rfl
  ·cases h
theorem Og (s:Sim a G) {x:V} (r:Rep a d x):match view G d with
  | .flat v=>x=v/\Ci v=true
  | .lst xs=>∃p vs,x=.ref p/\SqL a.K a.H p vs/\Reps a xs vs
  | .tup xs=>∃p vs,x=.ref p/\SqT a.K a.H p vs/\Reps a xs vs
  | .bad=>True:=by
 cases d with
 | non=>exact ⟨r,rfl⟩
 | bl b=>exact ⟨r,rfl⟩
 | int b=>exact ⟨r,rfl⟩
 | str b=>exact ⟨r,rfl⟩
 | ty n=>trivial
 | tup xs=>
  obtain ⟨p,vs,e,h,q⟩:=r;exact ⟨p,vs,e,h,q⟩
 | fl xs=>
  obtain ⟨p,vs,e,h,q⟩:=r;exact ⟨p,vs,e,h.sq,q⟩
 | ref i=>
  unfold view;dsimp only;split
  ·rename_i v hv
   split at hv <;> cases hv
  ·rename_i xs hv;split at hv
   ·rename_i ys hi;cases hv;obtain ⟨vs,e1,r1⟩:=s.lst hi;exact ⟨a.m i,vs,r.2,.of e1,r1⟩
   ·cases hv
  ·rename_i xs hv
   split at hv <;> cases hv
  ·trivial
theorem ZC1 {x:V} {u v:Value} (ry:RelV y u) (rx:RelV x v) (fy:Ci y=true) (fx:Ci x=true):SeqAt.RcAt A s u v (eqV y x):=by
 cases y with
 | non=>
  cases ry;cases x with
  | non=>cases rx;exact SeqAt.RcAt.none_none
  | bl b=>cases rx;exact SeqAt.RcAt.none_bool b
  | int b=>obtain ⟨t,rfl⟩:=rx;exact SeqAt.RcAt.none_int b t
  | str b=>obtain ⟨t,rfl⟩:=rx;exact SeqAt.RcAt.none_str b t
  | _=>exact absurd (show false=true from fx) Bool.false_ne_true
 | bl a=>
  cases ry;cases x with
  | non=>cases rx;exact SeqAt.RcAt.bool_none a
  | bl b=>cases rx;exact SeqAt.RcAt.bool_bool a b
  | int b=>obtain ⟨t,rfl⟩:=rx;exact SeqAt.RcAt.bool_int a b t
  | str b=>obtain ⟨t,rfl⟩:=rx;exact SeqAt.RcAt.bool_str a b t
  | _=>exact absurd (show false=true from fx) Bool.false_ne_true
 | int a=>
  obtain ⟨t',rfl⟩:=ry;cases x with
  | non=>cases rx;exact SeqAt.RcAt.int_none a t'
  | bl b=>cases rx;exact SeqAt.RcAt.int_bool a t' b
  | int b=>obtain ⟨t,rfl⟩:=rx;exact SeqAt.RcAt.int_int a t' b t
  | str b=>obtain ⟨t,rfl⟩:=rx;exact SeqAt.RcAt.int_str a t' b t
  | _=>exact absurd (show false=true from fx) Bool.false_ne_true
 | str a=>
  obtain ⟨t',rfl⟩:=ry;cases x with
  | non=>cases rx;exact SeqAt.RcAt.str_none a t'
  | bl b=>cases rx;exact SeqAt.RcAt.str_bool a t' b
  | int b=>obtain ⟨t,rfl⟩:=rx;exact SeqAt.RcAt.str_int a t' b t
  | str b=>obtain ⟨t,rfl⟩:=rx;exact SeqAt.RcAt.str_str a t' b t
  | _=>exact absurd (show false=true from fx) Bool.false_ne_true
 | _=>exact absurd (show false=true from fy) Bool.false_ne_true
theorem ZEg {x:V} {u v:Value} (ry:RelV y u) (rx:RelV x v) (fy:Ci y=true) (fx:Ci x=true):SeqAt.RcNeAt A s u v (!eqV y x):=by
 cases y with
 | non=>
  cases ry;cases x with
  | non=>cases rx;exact SeqAt.RcNeAt.none_none
  | bl b=>cases rx;exact SeqAt.RcNeAt.none_bool b
  | int b=>obtain ⟨t,rfl⟩:=rx;exact SeqAt.RcNeAt.none_int b t
  | str b=>obtain ⟨t,rfl⟩:=rx;exact SeqAt.RcNeAt.none_str b t
  | _=>exact absurd (show false=true from fx) Bool.false_ne_true
 | bl a=>
  cases ry;cases x with
  | non=>cases rx;exact SeqAt.RcNeAt.bool_none a
  | bl b=>cases rx;exact SeqAt.RcNeAt.bool_bool a b
  | int b=>obtain ⟨t,rfl⟩:=rx;exact SeqAt.RcNeAt.bool_int a b t
  | str b=>obtain ⟨t,rfl⟩:=rx;exact SeqAt.RcNeAt.bool_str a b t
  | _=>exact absurd (show false=true from fx) Bool.false_ne_true
 | int a=>
  obtain ⟨t',rfl⟩:=ry;cases x with
  | non=>cases rx;exact SeqAt.RcNeAt.int_none a t'
  | bl b=>cases rx;exact SeqAt.RcNeAt.int_bool a t' b
  | int b=>obtain ⟨t,rfl⟩:=rx;exact SeqAt.RcNeAt.int_int a t' b t
  | str b=>obtain ⟨t,rfl⟩:=rx;exact SeqAt.RcNeAt.int_str a t' b t
  | _=>exact absurd (show false=true from fx) Bool.false_ne_true
 | str a=>
  obtain ⟨t',rfl⟩:=ry;cases x with
  | non=>cases rx;exact SeqAt.RcNeAt.str_none a t'
  | bl b=>cases rx;exact SeqAt.RcNeAt.str_bool a t' b
  | int b=>obtain ⟨t,rfl⟩:=rx;exact SeqAt.RcNeAt.str_int a t' b t
  | str b=>obtain ⟨t,rfl⟩:=rx;exact SeqAt.RcNeAt.str_str a t' b t
  | _=>exact absurd (show false=true from fx) Bool.false_ne_true
 | _=>exact absurd (show false=true from fy) Bool.false_ne_true
end
section
variable {X:Cx} {E:XK} {pins:List (Addr×Obj)} {σ:St} {s:Shared}
theorem ZGG (v:V) (h:Ci v=true):eqV v v=true:=by cases v <;> first | rfl | exact absurd (show false=true from h) Bool.false_ne_true | (simp [eqV])
theorem Zv (I:Inv X pins σ a.H s) (hk:a.K=X.K) (sm:Sim a G):∀(n:Nat) {d e:D} {x:V} {k:Bool},Rep a d x->Rep a e x->eqD n G d e=some k->k=true
 | 0,_,_,_,_,_,_,h=>by cases h
 | n + 1,d,e,x,k,rd,re,h=>by
  have vd:=Og sm rd;have ve:=Og sm re;have items:∀{xs ys:List D} {vs:List V} {b:Bool},Reps a xs vs->Reps a ys vs->eqZ (eqD n G) xs ys=some b->b=true:=λ{xs ys vs b} r1 r2 hz=>by obtain ⟨f,hf,hb⟩:=Sh hz;rw [hb,List.all_eq_true];intro j hj;have hj':j < min xs.length ys.length:=List.mem_range.mp hj;have h1:xs[j]? =some (xs[j]'(by omega)):=List.getElem?_eq_getElem (by omega);have h2:ys[j]? =some (ys[j]'(by omega)):=List.getElem?_eq_getElem (by omega);obtain ⟨v1,e1,q1⟩:=r1.get h1;obtain ⟨v2,e2,q2⟩:=r2.get h2;rw [e1] at e2;cases e2;exact Zv I hk sm n q1 q2 (hf j _ _ h1 h2)
  unfold eqD at h
  try dsimp only at h
  revert h vd ve
  cases view G d <;> cases view G e <;> intro vd ve h <;> dsimp only at h vd ve <;> first
   | cases h
   | skip
  ·
   rename_i v w;obtain ⟨rfl,f1⟩:=vd;obtain ⟨rfl,f2⟩:=ve;exact ZGG _ f1
  ·obtain ⟨rfl,f1⟩:=vd;obtain ⟨p,vs,e1,_⟩:=ve;subst e1;cases f1
  ·obtain ⟨rfl,f1⟩:=vd;obtain ⟨p,vs,e1,_⟩:=ve;subst e1;cases f1
  ·obtain ⟨rfl,f1⟩:=ve;obtain ⟨p,vs,e1,_⟩:=vd;subst e1;cases f1
  ·obtain ⟨p,vs,e1,h1,r1⟩:=vd;obtain ⟨p',vs',e2,h2,r2⟩:=ve;rw [e1] at e2;cases e2;rw [hk] at h1 h2;cases I.Vp h1 h2;split at h
   ·exact items r1 r2 h
   ·rename_i hl;exact absurd (r1.length.trans r2.length.symm) hl
  ·obtain ⟨p,vs,e1,h1,r1⟩:=vd;obtain ⟨p',vs',e2,h2,r2⟩:=ve;rw [e1] at e2;cases e2;rw [hk] at h1 h2;obtain ⟨_,_,pl,_⟩:=I.list h1;obtain ⟨_,_,pt,_⟩:=I.tuple h2;exact absurd rfl (SeqAt.ne_of_list_tuple pl.isList pt)
  ·obtain ⟨rfl,f1⟩:=ve;obtain ⟨p,vs,e1,_⟩:=vd;subst e1;cases f1
  ·obtain ⟨p,vs,e1,h1,r1⟩:=vd;obtain ⟨p',vs',e2,h2,r2⟩:=ve;rw [e1] at e2;cases e2;rw [hk] at h1 h2;obtain ⟨_,_,pl,_⟩:=I.list h2;obtain ⟨_,_,pt,_⟩:=I.tuple h1;exact absurd rfl (SeqAt.ne_of_list_tuple pl.isList pt)
  ·obtain ⟨p,vs,e1,h1,r1⟩:=vd;obtain ⟨p',vs',e2,h2,r2⟩:=ve;rw [e1] at e2;cases e2;rw [hk] at h1 h2;cases I.Uj h1 h2;split at h
   ·rename_i b hz;have h':(b && _)=k:=Option.some.inj h;rw [<-h',items r1 r2 hz,r1.length,r2.length];simp
   ·cases h
theorem S9 {its:List Value} (r:Reps a xs vs) (q:Vals vs its) (h:j < its.toArray.size):∃d v,xs[j]? =some d/\Rep a d v/\RelV v its.toArray[j]:=by
 have hl:j < its.length:=by simpa using h
 have h2:j < vs.length:=by rw [q.length];exact hl
 obtain ⟨v,e1⟩:∃v,vs[j]? =some v:=⟨vs[j],List.getElem?_eq_getElem h2⟩;obtain ⟨d,e2,rd⟩:=r.get' e1;obtain ⟨u,e3,ru⟩:=q.get e1;have e4:u=its.toArray[j]:=by have:its[j]? =some its[j]:=List.getElem?_eq_getElem hl;rw [this] at e3;simpa using (Option.some.inj e3).symm
 exact ⟨d,v,e2,rd,by rw [<-e4];exact ru⟩
theorem Rb (I:Inv X pins σ a.H s) (hk:a.K=X.K) (sm:Sim a G):∀(n:Nat) {A:Around} {d e:D} {x y:V} {u w:Value} {k:Bool},A.units + n < cLine->Rep a d x->Rep a e y->RelV x u->RelV y w->eqD n G d e=some k->
  SeqAt.EqAt A s u w k/\SeqAt.RcAt A s u w k/\SeqAt.RcNeAt A s u w (!k)
 | 0,_,_,_,_,_,_,_,_,_,_,_,_,_,h=>by cases h
 | n + 1,A,d,e,x,y,u,w,k,hu,rd,re,ru,rw',h=>by
  have vd:=Og sm rd;have ve:=Og sm re;have hu1:A.units < cLine:=by omega
  have hu2:A.in1.units + n < cLine:=by show A.units + 1 + n < cLine;omega
  have same:∀{z:V},Rep a d z->Rep a e z->eqD (n + 1) G d e=some k->k=true:=λr1 r2 r3=>Zv I hk sm (n + 1) r1 r2 r3
  have h0:=h;unfold eqD at h
  try dsimp only at h
  have refs:∀{p q:Addr} {k:Bool},(p=q->k=true)->SeqAt.RcAt A s (.ref p) (.ref q) k->SeqAt.EqAt A s (.ref p) (.ref q) k:=λ{p q k} hs hr=>by
   by_cases e:p=q
   ·rw [hs e,e];exact SeqAt.EqAt.same _
   ·exact SeqAt.EqAt.of_refs e hr
  revert h vd ve
  cases hvd:view G d <;> cases hve:view G e <;> intro vd ve h <;> dsimp only at h vd ve <;> first
   | cases h
   | skip
  ·
   obtain ⟨rfl,f1⟩:=vd;obtain ⟨rfl,f2⟩:=ve;exact ⟨ZA5 ru rw' f1 f2,ZC1 ru rw' f1 f2,ZEg ru rw' f1 f2⟩
  ·
   obtain ⟨rfl,f1⟩:=vd;obtain ⟨q,vs,rfl,h2,r2⟩:=ve;cases rw';rw [hk] at h2;obtain ⟨its,qv,pl,_⟩:=I.list h2;cases x with
   | non=>cases ru;exact ⟨SeqAt.EqAt.none_list pl.isList hu1,SeqAt.RcAt.none_list pl.isList hu1,SeqAt.RcNeAt.none_list pl.isList hu1⟩
   | bl b=>cases ru;exact ⟨SeqAt.EqAt.bool_list b pl.isList hu1,SeqAt.RcAt.bool_list b pl.isList hu1,SeqAt.RcNeAt.bool_list b pl.isList hu1⟩
   | int b=>obtain ⟨t,rfl⟩:=ru;exact ⟨SeqAt.EqAt.int_list b t pl.isList hu1,SeqAt.RcAt.int_list b t pl.isList hu1,SeqAt.RcNeAt.int_list b t pl.isList hu1⟩
   | str b=>obtain ⟨t,rfl⟩:=ru;exact ⟨SeqAt.EqAt.str_list b t pl.isList hu1,SeqAt.RcAt.str_list b t pl.isList hu1,SeqAt.RcNeAt.str_list b t pl.isList hu1⟩
   | _=>exact absurd (show false=true from f1) Bool.false_ne_true
  ·
   obtain ⟨rfl,f1⟩:=vd;obtain ⟨q,vs,rfl,h2,r2⟩:=ve;cases rw';rw [hk] at h2;obtain ⟨its,qv,pl,_⟩:=I.tuple h2;cases x with
   | non=>cases ru;exact ⟨SeqAt.EqAt.none_tuple pl hu1,SeqAt.RcAt.none_tuple pl hu1,SeqAt.RcNeAt.none_tuple pl hu1⟩
   | bl b=>cases ru;exact ⟨SeqAt.EqAt.bool_tuple b pl hu1,SeqAt.RcAt.bool_tuple b pl hu1,SeqAt.RcNeAt.bool_tuple b pl hu1⟩
   | int b=>obtain ⟨t,rfl⟩:=ru;exact ⟨SeqAt.EqAt.int_tuple b t pl hu1,SeqAt.RcAt.int_tuple b t pl hu1,SeqAt.RcNeAt.int_tuple b t pl hu1⟩
   | str b=>obtain ⟨t,rfl⟩:=ru;exact ⟨SeqAt.EqAt.str_tuple b t pl hu1,SeqAt.RcAt.str_tuple b t pl hu1,SeqAt.RcNeAt.str_tuple b t pl hu1⟩
   | _=>exact absurd (show false=true from f1) Bool.false_ne_true
  ·
   obtain ⟨rfl,f1⟩:=ve;obtain ⟨q,vs,rfl,h2,r2⟩:=vd;cases ru;rw [hk] at h2;obtain ⟨its,qv,pl,_⟩:=I.list h2;cases y with
   | non=>cases rw';exact ⟨SeqAt.EqAt.list_none pl.isList hu1,SeqAt.RcAt.list_none pl.isList hu1,SeqAt.RcNeAt.list_none pl.isList hu1⟩
   | bl b=>cases rw';exact ⟨SeqAt.EqAt.list_bool b pl.isList hu1,SeqAt.RcAt.list_bool b pl.isList hu1,SeqAt.RcNeAt.list_bool b pl.isList hu1⟩
   | int b=>obtain ⟨t,rfl⟩:=rw';exact ⟨SeqAt.EqAt.list_int b t pl.isList hu1,SeqAt.RcAt.list_int b t pl.isList hu1,SeqAt.RcNeAt.list_int b t pl.isList hu1⟩
   | str b=>obtain ⟨t,rfl⟩:=rw';exact ⟨SeqAt.EqAt.list_str b t pl.isList hu1,SeqAt.RcAt.list_str b t pl.isList hu1,SeqAt.RcNeAt.list_str b t pl.isList hu1⟩
   | _=>exact absurd (show false=true from f1) Bool.false_ne_true
  ·
   obtain ⟨p,vs,rfl,h1,r1⟩:=vd;obtain ⟨q,vs',rfl,h2,r2⟩:=ve;cases ru;cases rw';rw [hk] at h1 h2;obtain ⟨its,q1,p1,_⟩:=I.list h1;obtain ⟨its',q2,p2,_⟩:=I.list h2;have sz1:its.toArray.size=vs.length:=by rw [List.size_toArray];exact q1.length.symm
   have sz2:its'.toArray.size=vs'.length:=by rw [List.size_toArray];exact q2.length.symm
   split at h
   ·rename_i hl;obtain ⟨f,hf,hb⟩:=Sh h;have hsz:its.toArray.size=its'.toArray.size:=by rw [sz1,sz2,<-r1.length,<-r2.length];exact hl
    have he:∀j (g1:j < its.toArray.size) (g2:j < its'.toArray.size),SeqAt.EqAt A.in1 s its.toArray[j] its'.toArray[j] (f j):=λj g1 g2=>by obtain ⟨d1,v1,e1,rd1,rv1⟩:=S9 r1 q1 g1;obtain ⟨d2,v2,e2,rd2,rv2⟩:=S9 r2 q2 g2;exact (Rb I hk sm n hu2 rd1 rd2 rv1 rv2 (hf j d1 d2 e1 e2)).1
    have hk':k=(List.range its.toArray.size).all f:=by
     rw [hb]
     congr 2
     rw [sz1,<-r1.length,hl];omega
    have rc:SeqAt.RcAt A s (.ref p) (.ref q) k:=by rw [hk'];exact SeqAt.RcAt.lists p1.isList p2.isList hsz hu1 he
    refine ⟨refs (λe=> ?_) rc,rc,by rw [hk'];exact SeqAt.RcNeAt.lists p1.isList p2.isList hsz hu1 he⟩;subst e;exact same rd re h0
   ·rename_i hl;have h':false=k:=Option.some.inj h;subst h';have hsz:(its.toArray.size != its'.toArray.size)=true:=by rw [bne_iff_ne,sz1,sz2,<-r1.length,<-r2.length];exact hl
    refine ⟨refs (λe=> ?_) (SeqAt.RcAt.lists_lengths p1.isList p2.isList hsz hu1),SeqAt.RcAt.lists_lengths p1.isList p2.isList hsz hu1,SeqAt.RcNeAt.lists_lengths p1.isList p2.isList hsz hu1⟩;subst e;exact same rd re h0
  ·
   obtain ⟨p,vs,rfl,h1,r1⟩:=vd;obtain ⟨q,vs',rfl,h2,r2⟩:=ve;cases ru;cases rw';rw [hk] at h1 h2;obtain ⟨its,q1,p1,_⟩:=I.list h1;obtain ⟨its',q2,p2,_⟩:=I.tuple h2;exact ⟨SeqAt.EqAt.list_tuple p1.isList p2 hu1,SeqAt.RcAt.list_tuple p1.isList p2 hu1,SeqAt.RcNeAt.list_tuple p1.isList p2 hu1⟩
  ·
   obtain ⟨rfl,f1⟩:=ve;obtain ⟨q,vs,rfl,h2,r2⟩:=vd;cases ru;rw [hk] at h2;obtain ⟨its,qv,pl,_⟩:=I.tuple h2;cases y with
   | non=>cases rw';exact ⟨SeqAt.EqAt.tuple_none pl hu1,SeqAt.RcAt.tuple_none pl hu1,SeqAt.RcNeAt.tuple_none pl hu1⟩
   | bl b=>cases rw';exact ⟨SeqAt.EqAt.tuple_bool b pl hu1,SeqAt.RcAt.tuple_bool b pl hu1,SeqAt.RcNeAt.tuple_bool b pl hu1⟩
   | int b=>obtain ⟨t,rfl⟩:=rw';exact ⟨SeqAt.EqAt.tuple_int b t pl hu1,SeqAt.RcAt.tuple_int b t pl hu1,SeqAt.RcNeAt.tuple_int b t pl hu1⟩
   | str b=>obtain ⟨t,rfl⟩:=rw';exact ⟨SeqAt.EqAt.tuple_str b t pl hu1,SeqAt.RcAt.tuple_str b t pl hu1,SeqAt.RcNeAt.tuple_str b t pl hu1⟩
   | _=>exact absurd (show false=true from f1) Bool.false_ne_true
  ·
   obtain ⟨p,vs,rfl,h1,r1⟩:=vd;obtain ⟨q,vs',rfl,h2,r2⟩:=ve;cases ru;cases rw';rw [hk] at h1 h2;obtain ⟨its,q1,p1,_⟩:=I.tuple h1;obtain ⟨its',q2,p2,_⟩:=I.list h2;exact ⟨SeqAt.EqAt.tuple_list p1 p2.isList hu1,SeqAt.RcAt.tuple_list p1 p2.isList hu1,SeqAt.RcNeAt.tuple_list p1 p2.isList hu1⟩
  ·
   rename_i xs ys;obtain ⟨p,vs,rfl,h1,r1⟩:=vd;obtain ⟨q,vs',rfl,h2,r2⟩:=ve;cases ru;cases rw';rw [hk] at h1 h2;obtain ⟨its,q1,p1,_⟩:=I.tuple h1;obtain ⟨its',q2,p2,_⟩:=I.tuple h2;have sz1:its.toArray.size=xs.length:=by rw [List.size_toArray,r1.length];exact q1.length.symm
   have sz2:its'.toArray.size=ys.length:=by rw [List.size_toArray,r2.length];exact q2.length.symm
   split at h
   ·rename_i b hz;have h':(b && xs.length == ys.length)=k:=Option.some.inj h;obtain ⟨f,hf,hb⟩:=Sh hz;have he:∀j (g1:j < its.toArray.size) (g2:j < its'.toArray.size),SeqAt.EqAt A.in1 s its.toArray[j] its'.toArray[j] (f j):=λj g1 g2=>by obtain ⟨d1,v1,e1,rd1,rv1⟩:=S9 r1 q1 g1;obtain ⟨d2,v2,e2,rd2,rv2⟩:=S9 r2 q2 g2;exact (Rb I hk sm n hu2 rd1 rd2 rv1 rv2 (hf j d1 d2 e1 e2)).1
    have hk':k=((List.range (min its.toArray.size its'.toArray.size)).all f && its.toArray.size == its'.toArray.size):=by rw [<-h',hb,sz1,sz2]
    have rc:SeqAt.RcAt A s (.ref p) (.ref q) k:=by rw [hk'];exact SeqAt.RcAt.tuples p1 p2 hu1 he
    refine ⟨refs (λe=> ?_) rc,rc,by rw [hk'];exact SeqAt.RcNeAt.tuples p1 p2 hu1 he⟩;subst e;exact same rd re h0
   ·cases h
def By (d e:D) (G:DH):R D:=match eqD 30 G d e with
 | some k=>.ok (.bl k) G
 | none=>.bad
def Gr (d e:D) (G:DH):R D:=match eqD 30 G d e with
 | some k=>.ok (.bl (!k)) G
 | none=>.bad
theorem Cm (hu:X.A.units + 64 < cLine):OpR X (compareOp .Eq) (lR2 X.K E By):=by
 intro pins s σ H x y v u Q I rx ry ⟨a,G,d,e,hk,hH,sm,rd,re,q⟩;subst hH;unfold By at q;split at q
 ·rename_i k hd;exact (Rb I hk sm 30 (by omega) rd re rx ry hd).2.1 _ _ _ _ ⟨.bl k,a.H,I,rfl,q a _ (Ext.refl a) sm rfl⟩
 ·exact q.elim
theorem La (hu:X.A.units + 64 < cLine):OpR X (compareOp .NotEq) (lR2 X.K E Gr):=by
 intro pins s σ H x y v u Q I rx ry ⟨a,G,d,e,hk,hH,sm,rd,re,q⟩;subst hH;unfold Gr at q;split at q
 ·rename_i k hd;exact (Rb I hk sm 30 (by omega) rd re rx ry hd).2.2 _ _ _ _ ⟨.bl (!k),a.H,I,rfl,q a _ (Ext.refl a) sm rfl⟩
 ·exact q.elim
end
abbrev DG:=D->DSt->DH->R DSt
variable {g:DG}
def Ed (E:XK) (a:Wd) (r:R DSt) (Q:St->Hp->Prop):Prop:=match r with
 | .ok S G=>∀(b:Wd) (σ:St),Ext a b->Sim b G->RepS b S σ->Q σ b.H
 | .err x G=>XOk E a x G
 | .bad=>False
def lG (K:PySem.W.Frag) (E:XK) (t:DG):TG:=λv σ H Q=>∃(a:Wd) (S:DSt) (G:DH) (d:D),a.K=K/\a.H=H/\Sim a G/\RepS a S σ/\Rep a d v/\Ed E a (t d S G) Q
def QG (X:Cx) (E:XK) (tg:Expr) (t:DG):Prop:=PG X tg (lG X.K E t)
abbrev DGs:=List D->DSt->DH->R DSt
def lGs (K:PySem.W.Frag) (E:XK) (t:DGs):TGs:=λvs σ H Q=>∃(a:Wd) (S:DSt) (G:DH) (ds:List D),a.K=K/\a.H=H/\Sim a G/\RepS a S σ/\Reps a ds vs/\Ed E a (t ds S G) Q
def QGs (X:Cx) (E:XK) (tg:List Expr) (t:DGs):Prop:=PGs X tg (lGs X.K E t)
def gV (i:Nat):DG:=λd S G=>.ok (S.set i (some d)) G
def Ep:DGs:=λds S G=>match ds with
 | []=>.ok S G
 | _=>.bad
def Bt (t:DG) (u:DGs):DGs:=λds S G=>match ds with
 | d::r=>(t d S G).bind λS1 G1=>u r S1 G1
 | []=>.bad
def Dq (n:Nat) (t:DGs):DG:=λd S G=>match d with
 | .tup ds=>if ds.length=n then t ds S G else .bad
 | _=>.bad
theorem Ed.imp {r:R DSt} {Q Q':St->Hp->Prop} (h:Ed E a r Q) (w:∀v H,Q v H->Q' v H):Ed E a r Q':=by
 cases r with
 | ok d G=>exact λb v x s q=>w _ _ (h b v x s q)
 | err e G=>exact h
 | bad=>exact h
theorem Ed.mono (x:Ext a b) {r:R DSt} {Q:St->Hp->Prop} (h:Ed E a r Q):Ed E b r Q:=by
 cases r with
 | ok d G=>exact λc v y s q=>h c v (x.trans y) s q
 | err e G=>exact XOk.mono (E:=E) (e:=e) (G:=G) x h
 | bad=>exact h
theorem ZGF {r:R DSt} {f:DSt->DH->R DSt} {Q:St->Hp->Prop} (h:Ed E a (r.bind f) Q):
  Ed E a r (λσ H=>∃(b:Wd) (S:DSt) (G:DH),b.H=H/\Ext a b/\Sim b G/\RepS b S σ/\r=.ok S G/\Ed E b (f S G) Q):=by
 cases r with
 | ok d G=>exact λb v x s q=>⟨b,d,G,rfl,x,s,q,rfl,Ed.mono x h⟩
 | err e G=>exact h
 | bad=>exact h
theorem Qq {r:R DSt} {f:DSt->DH->SR} (h:Bj E a (r.toS f) W):
  Ed E a r (λσ H=>∃(b:Wd) (S:DSt) (G:DH),b.H=H/\Ext a b/\Sim b G/\RepS b S σ/\r=.ok S G/\Bj E b (f S G) W):=by
 cases r with
 | ok d G=>exact λb v x s q=>⟨b,d,G,rfl,x,s,q,rfl,Bj.mono x h⟩
 | err e G=>exact h
 | bad=>exact h
section
variable {X:Cx} {E:XK}
theorem _root_.L2.PG.mono {t t':TG} (h:PG X e t) (w:∀v σ H Q,t' v σ H Q->t v σ H Q):PG X e t':=λpins s σ H v u Q I r q=>h pins s σ H v u Q I r (w v σ H Q q)
theorem _root_.L2.PGs.mono {e:List Expr} {t t':TGs} (h:PGs X e t) (w:∀v σ H Q,t' v σ H Q->t v σ H Q):PGs X e t':=λpins s σ H v u Q I r q=>h pins s σ H v u Q I r (w v σ H Q q)
theorem Bl (i:Nat) {pos:Pos} (hN:X.N.Nodup) (hi:X.N[i]? =some x:=by rfl) (hx:Loc X.env.scope x:=by first | exact Or.inl rfl | exact Or.inr rfl)
  (hf:X.fn x=true∨X.env.scope.names.lookup x=some .local:=by first | exact .inl rfl | exact .inr rfl | assumption):QG X E (.Name x pos) (gV i):=
 (ZFP hN hi hx hf).mono λv σ H Q h=>by obtain ⟨a,S,G,d,hk,rfl,s,r,q,h⟩:=h;exact h a _ (Ext.refl a) s (r.set i q)
theorem Oa:QGs X E [] Ep:=ZCk.mono λvs σ H Q h=>by
 obtain ⟨a,S,G,ds,hk,rfl,s,r,q,h⟩:=h;cases ds with
 | nil=>exact ⟨q,h a σ (Ext.refl a) s r⟩
 | cons d ds=>exact h.elim
theorem Gq {es:List Expr} {t:DG} {u:DGs} (h1:QG X E e t) (h2:QGs X E es u)
  (hs:(assignEach (e::es) X.env).map (·.2)=assign e X.env::(assignEach es X.env).map (·.2):=by rfl):QGs X E (e::es) (Bt t u):=(ZCF h1 h2 hs).mono λvs σ H Q h=>by
 obtain ⟨a,S,G,ds,hk,rfl,s,r,q,h⟩:=h;cases ds with
 | nil=>exact h.elim
 | cons d ds=>
  obtain ⟨v,rest,e1,q1,q2⟩:=q;refine ⟨v,rest,e1,a,S,G,d,hk,rfl,s,r,q1,(ZGF h).imp ?_⟩;rintro σ' _ ⟨b,S1,G1,rfl,x,s1,r1,_,h1⟩;exact ⟨b,S1,G1,ds,x.k.trans hk,rfl,s1,r1,q2.mono x,h1⟩
theorem Pj {es:List Expr} {k:Nat} {t:DGs} {pos:Pos} (hc:X.calm=true) (h:QGs X E es t)
  (hn:(assignEach es X.env).length=n:=by rfl) (hst:(assignEach es X.env).findIdx? (·.1)=none:=by rfl):QG X E (.Tuple es k pos) (Dq n t):=(ZCB hc h hn hst).mono λv σ H Q h=>by
 obtain ⟨a,S,G,d,hk,rfl,s,r,q,h⟩:=h;cases d with
 | tup ds=>
  obtain ⟨p,vs,e,h1,r1⟩:=q;unfold Dq at h;dsimp only at h;split at h
  ·rename_i hl;exact ⟨p,vs,e,by rw [<-hk];exact h1,by rw [<-r1.length];exact hl,a,S,G,ds,hk,rfl,s,r,r1,h⟩
  ·exact h.elim
 | _=>exact h.elim
theorem ZFX {vs':List V} {ds':List D} (s:Sim a G) (hi:i < a.n) (h:a.H (a.m i)=some (.lst vs)) (r:Reps a ds' vs'):
  Ext a (a.put (a.m i) (.lst vs'))/\Sim (a.put (a.m i) (.lst vs')) (G.set i (.lst ds')):=⟨Ext.wr h,s.wr hi h (r.mono (Ext.wr h))⟩
variable {st:Stmt} {rest:List Stmt} {t u:DS} {e:Expr} {te:DE} {pos:Pos}
def sNx:DS:=λS G=>.nx S G
def Ah (t u:DS):DS:=λS G=>match t S G with
 | .nx S1 G1=>u S1 G1
 | r=>r
def sEx (te:DE):DS:=λS G=>(te S G).toS λ_ G1=>.nx S G1
def sRt (te:DE):DS:=λS G=>(te S G).toS λd G1=>.rt d G1
def sIf (c:DB) (t u:DS):DS:=λS G=>(c S G).toS λk G1=>if k=true then t S G1 else u S G1
def sAs (te:DE) (g:DG):DS:=λS G=>(te S G).toS λd G1=>(g d S G1).toS λS2 G2=>.nx S2 G2
theorem Bs:QSs X E [] sNx:=ZFZ.mono λW σ H h=>by obtain ⟨a,S,G,hk,rfl,s,r,h⟩:=h;exact h a σ (Ext.refl a) s r
theorem Bj.nxOf {t:DS} (hk:a.K=K) (h:Bj E a (Ah t u S G) W):Bj E a (t S G) {W with nx:=lS K E u W}:=by
 unfold Ah at h
 revert h
 cases t S G <;> intro h
 ·exact λb σ x s r=>⟨b,_,_,x.k.trans hk,rfl,s,r,Bj.mono x h⟩
 all_goals exact h
theorem Ai (h1:QS X E st t) (h2:QSs X E rest u):QSs X E (st::rest) (Ah t u):=(ZGI h1 h2).mono λW σ H h=>by obtain ⟨a,S,G,hk,rfl,s,r,h⟩:=h;exact ⟨a,S,G,hk,rfl,s,r,h.nxOf hk⟩
theorem Ar (h1:QS X E st t):QSs X E [st] t:=ZGO h1
theorem H8 (he:QE X E e te) (hs:swapsWith e none pos.line X.env=pure false:=by rfl):QS X E (.Expr e pos) (sEx te):=(ZC6 he hs).mono λW σ H h=>by obtain ⟨a,S,G,hk,rfl,s,r,h⟩:=h;refine ⟨a,S,G,hk,rfl,s,r,(Nb h).imp ?_⟩;rintro v _ ⟨b,d,G1,rfl,x,s1,q,_,h1⟩;exact h1 b σ (Ext.refl b) s1 (r.mono x)
theorem Bh (he:QE X E e te):QS X E (.Return (some e) pos) (sRt te):=(ZF3 he).mono λW σ H h=>by obtain ⟨a,S,G,hk,rfl,s,r,h⟩:=h;refine ⟨a,S,G,hk,rfl,s,r,(Nb h).imp ?_⟩;rintro v _ ⟨b,d,G1,rfl,x,s1,q,_,h1⟩;exact h1 b v (Ext.refl b) s1 q
theorem Br {c:Expr} {tc:DB} {a b:List Stmt} (hc:QT X E c tc) (ha:QSs X E a t) (hb:QSs X E b u):QS X E (.If c a b pos) (sIf tc t u):=(ZGE hc ha hb).mono λW σ H h=>by
 obtain ⟨a,S,G,hk,rfl,s,r,h⟩:=h;refine ⟨a,S,G,hk,rfl,s,r,(ZGN h).imp ?_⟩;rintro k _ ⟨b,G1,rfl,x,s1,_,h1⟩;cases k with
 | true=>exact ⟨b,S,G1,x.k.trans hk,rfl,s1,r.mono x,h1⟩
 | false=>exact ⟨b,S,G1,x.k.trans hk,rfl,s1,r.mono x,h1⟩
theorem ZGS (h:lS K E (sAs te g) W σ H):Wq (lE K E te) (lG K E g) W σ H:=by obtain ⟨a,S,G,hk,rfl,s,r,h⟩:=h;refine ⟨a,S,G,hk,rfl,s,r,(Nb h).imp ?_⟩;rintro v _ ⟨b,d,G1,rfl,x,s1,q,_,h1⟩;refine ⟨b,S,G1,d,x.k.trans hk,rfl,s1,r.mono x,q,(Qq h1).imp ?_⟩;rintro σ' _ ⟨c,S2,G2,rfl,y,s2,r2,_,h2⟩;exact h2 c σ' (Ext.refl c) s2 r2
theorem ZDz (he:QE X E e te) (hg:QG X E tg g) (hs:swapsWithSole [tg] e pos.line X.env=pure false:=by rfl) (hw:swappedStores [tg] e X.env=pure none:=by rfl)
  (h1:(assignEach [tg] X.env).map (·.2)= [assign tg X.env]:=by rfl):QS X E (.Assign [tg] e pos) (sAs te g):=(ZED he hg hs hw h1).mono λ_ _ _ h=>ZGS h
theorem Ao (i:Nat) {pos':Pos} (hN:X.N.Nodup) (he:QE X E e te) (hi:X.N[i]? =some x:=by rfl) (hx:Loc X.env.scope x:=by first | exact Or.inl rfl | exact Or.inr rfl) (hs:swapsWith e (some (.Name x pos')) pos.line X.env=pure false:=by rfl)
  (hf:X.fn x=true∨X.env.scope.names.lookup x=some .local:=by first | exact .inl rfl | exact .inr rfl | assumption):QS X E (.Assign [.Name x pos'] e pos) (sAs te (gV i)):=
 (ZCo hN hi hx he hs hf).mono λW σ H h=>by obtain ⟨a,S,G,hk,rfl,s,r,h⟩:=h;refine ⟨a,S,G,hk,rfl,s,r,(Nb h).imp ?_⟩;rintro v _ ⟨b,d,G1,rfl,x,s1,q,_,h1⟩;exact h1 b _ (Ext.refl b) s1 ((r.mono x).set i q)
end
def aft (r:SR) (k:DSt->DH->SR):SR:=match r with
 | .nx S G=>k S G
 | .ct S G=>k S G
 | .bk S G=>.nx S G
 | r=>r
def Bq (g:DG) (b:DS):List D->DS
 | [],S,G=>.nx S G
 | x::xs,S,G=>(g x S G).toS λS1 G1=>aft (b S1 G1) (Bq g b xs)
def forM (i:Nat) (g:DG) (b:DS):Nat->Nat->DS
 | 0,j,S,G=>match G[i]? with
  | some (.lst xs)=>if xs.length<=j then .nx S G else .bad
  | _=>.bad
 | k + 1,j,S,G=>match G[i]? with
  | some (.lst xs)=>match xs[j]? with
   | some x=>(g x S G).toS λS1 G1=>aft (b S1 G1) (forM i g b k (j + 1))
   | none=>.nx S G
  | _=>.bad
def J7 (f:Nat->DH->Option (Option D)) (g:DG) (b:DS):Nat->Nat->DS
 | 0,j,S,G=>match f j G with
  | some none=>.nx S G
  | _=>.bad
 | k + 1,j,S,G=>match f j G with
  | some (some x)=>(g x S G).toS λS1 G1=>aft (b S1 G1) (J7 f g b k (j + 1))
  | some none=>.nx S G
  | none=>.bad
inductive ItD where
 | pure (xs:List D)
 | mt (i:Nat)
 | fn (n:Nat) (f:Nat->DH->Option (Option D))
abbrev DI:=DSt->DH->R ItD
def Cw (it:DI) (g:DG) (b:DS):DS:=λS G=>(it S G).toS λJ G1=>match J with
 | .pure xs=>Bq g b xs S G1
 | .mt i=>match G1[i]? with
  | some (.lst xs)=>forM i g b xs.length 0 S G1
  | _=>.bad
 | .fn n f=>J7 f g b n 0 S G1
def RepI (a:Wd):ItD->It->Prop
 | .pure xs,J=>∃vs:List V,Reps a xs vs/\∀b:Wd,Ext a b->∀i,(∀v,vs[i]? =some v->J.go i b.H/\∀x H',J.yld i b.H x H'->x=v/\H'=b.H)/\(vs.length<=i->J.stop i b.H)
 | .mt k,J=>k < a.n/\∀b:Wd,Ext a b->∀vs,b.H (b.m k)=some (.lst vs)->∀i,(∀v,vs[i]? =some v->J.go i b.H/\∀x H',J.yld i b.H x H'->x=v/\H'=b.H)/\(vs.length<=i->J.stop i b.H)
 | .fn _ f,J=>∀b:Wd,Ext a b->∀G,Sim b G->∀i,(∀d,f i G=some (some d)->J.go i b.H/\∀x H',J.yld i b.H x H'->∃c:Wd,c.H=H'/\Ext b c/\Sim c G/\Rep c d x)/\(f i G=some none->J.stop i b.H)
def outI (E:XK) (a:Wd) (r:R ItD) (Q:It->Hp->Prop):Prop:=match r with
 | .ok J G=>∀(b:Wd) (JJ:It),Ext a b->Sim b G->RepI b J JJ->Q JJ b.H
 | .err x G=>XOk E a x G
 | .bad=>False
def lI (K:PySem.W.Frag) (E:XK) (t:DI):TI:=λσ H Q=>∃(a:Wd) (S:DSt) (G:DH),a.K=K/\a.H=H/\Sim a G/\RepS a S σ/\outI E a (t S G) Q
def QI (X:Cx) (E:XK) (tg iter:Expr) (t:DI):Prop:=PI X tg iter (lI X.K E t)
theorem outI.imp {r:R ItD} {Q Q':It->Hp->Prop} (h:outI E a r Q) (w:∀v H,Q v H->Q' v H):outI E a r Q':=by
 cases r with
 | ok d G=>exact λb v x s q=>w _ _ (h b v x s q)
 | err e G=>exact h
 | bad=>exact h
theorem ZEM {r:R ItD} {f:ItD->DH->SR} (h:Bj E a (r.toS f) W):
  outI E a r (λJ H=>∃(b:Wd) (d:ItD) (G:DH),b.H=H/\Ext a b/\Sim b G/\RepI b d J/\r=.ok d G/\Bj E b (f d G) W):=by
 cases r with
 | ok d G=>exact λb v x s q=>⟨b,d,G,rfl,x,s,q,rfl,Bj.mono x h⟩
 | err e G=>exact h
 | bad=>exact h
theorem Wh {r:SR} {k:DSt->DH->SR} (h:Bj E a (aft r k) W):
  Bj E a r {W with
            nx:=λσ H=>∃(b:Wd) (S:DSt) (G:DH),b.H=H/\Ext a b/\Sim b G/\RepS b S σ/\Bj E b (k S G) W,
            ct:=λσ H=>∃(b:Wd) (S:DSt) (G:DH),b.H=H/\Ext a b/\Sim b G/\RepS b S σ/\Bj E b (k S G) W,bk:=W.nx}:=by
 cases r with
 | nx S G=>exact λb σ x s q=>⟨b,S,G,rfl,x,s,q,Bj.mono x h⟩
 | ct S G=>exact λb σ x s q=>⟨b,S,G,rfl,x,s,q,Bj.mono x h⟩
 | bk S G=>exact h
 | rt d G=>exact h
 | err x G=>exact h
 | bad=>exact h
section
variable {X:Cx} {E:XK} {tg iter:Expr} {pos:Pos}
theorem ZB3 {it:DI} {b:DS} (h:lS K E (Cw it g b) W σ H):tFor (lI K E it) (lG K E g) (lS K E b) W σ H:=by
 obtain ⟨a,S,G,hk,rfl,s,r,h⟩:=h;refine ⟨a,S,G,hk,rfl,s,r,(ZEM h).imp ?_⟩;rintro J _ ⟨a1,d,G1,rfl,x1,s1,q1,_,h1⟩;have k1:a1.K=K:=x1.k.trans hk;cases d with
 | pure xs=>
  obtain ⟨vs,rv,walk⟩:=q1;refine ⟨λi m σ H=>m=vs.length - i/\i<=vs.length/\∃(c:Wd) (S:DSt) (G:DH),c.H=H/\Ext a1 c/\Sim c G/\RepS c S σ/\Bj E c (Bq g b (xs.drop i) S G) W,⟨_,rfl,Nat.zero_le _,a1,S,G1,rfl,Ext.refl _,s1,r.mono x1,h1⟩,?_⟩;rintro i m σ2 _ ⟨rfl,hi,c,S2,G2,rfl,x2,s2,r2,h2⟩;by_cases hl:i < vs.length
  ·have e1:vs[i]? =some vs[i]:=List.getElem?_eq_getElem hl;obtain ⟨d,e2,rd⟩:=rv.get' e1;have hd:xs.drop i=d::xs.drop (i + 1):=by
    have hlx:i < xs.length:=(List.getElem?_eq_some_iff.mp e2).1;rw [List.drop_eq_getElem_cons hlx]
    congr 1
    exact (List.getElem?_eq_some_iff.mp e2).2
   rw [hd] at h2;obtain ⟨go,yl⟩:=(walk c x2 i).1 _ e1;refine .inr ⟨go,λσ' H'=>∃m',m' < vs.length - i/\(m'=vs.length - (i + 1)/\i + 1<=vs.length/\∃(c:Wd) (S:DSt) (G:DH),c.H=H'/\Ext a1 c/\Sim c G/\RepS c S σ'/\Bj E c (Bq g b (xs.drop (i + 1)) S G) W),λσ' H' z=>z,λv H' y=> ?_⟩;obtain ⟨rfl,rfl⟩:=yl v H' y;refine ⟨c,S2,G2,d,x2.k.trans k1,rfl,s2,r2,rd.mono x2,(Qq h2).imp ?_⟩;rintro σ3 _ ⟨c3,S3,G3,rfl,x3,s3,r3,_,h3⟩
   have fin:=Wh h3;refine ⟨c3,S3,G3,x3.k.trans (x2.k.trans k1),rfl,s3,r3,?_⟩
   revert fin
   cases b S3 G3 with
   | nx S4 G4=>
     intro fin c4 σ4 x4 s4 q4;obtain ⟨c5,S5,G5,hh,x5,s5,r5,h5⟩:=fin c4 σ4 x4 s4 q4;exact ⟨vs.length - (i + 1),by omega,rfl,hl,c5,S5,G5,hh,x2.trans (x3.trans x5),s5,r5,h5⟩
   | ct S4 G4=>
     intro fin c4 σ4 x4 s4 q4;obtain ⟨c5,S5,G5,hh,x5,s5,r5,h5⟩:=fin c4 σ4 x4 s4 q4;exact ⟨vs.length - (i + 1),by omega,rfl,hl,c5,S5,G5,hh,x2.trans (x3.trans x5),s5,r5,h5⟩
   | bk S4 G4=>exact λfin=>fin
   | rt S4 G4=>exact λfin=>fin
   | err S4 G4=>exact λfin=>fin
   | bad=>exact λfin=>fin
  ·have e:i=vs.length:=by omega
   have hd:xs.drop i= []:=by rw [List.drop_eq_nil_iff,rv.length];omega
   rw [hd] at h2;exact .inl ⟨(walk c x2 i).2 (by omega),h2 c σ2 (Ext.refl c) s2 r2⟩
 | mt k=>
  obtain ⟨hkn,walk⟩:=q1;dsimp only at h1;split at h1
  ·rename_i xs0 hx0;refine ⟨λi m σ H=>∃(c:Wd) (S:DSt) (G:DH),c.H=H/\Ext a1 c/\Sim c G/\RepS c S σ/\Bj E c (forM k g b m i S G) W,⟨_,a1,S,G1,rfl,Ext.refl _,s1,r.mono x1,h1⟩,?_⟩;rintro i m σ2 _ ⟨c,S2,G2,rfl,x2,s2,r2,h2⟩;cases m with
   | zero=>
    unfold forM at h2;split at h2
    ·rename_i xs hx;obtain ⟨vs,e1,rv⟩:=s2.lst hx;split at h2
     ·rename_i hl;refine .inl ⟨((walk c x2 vs e1 i).2 (by rw [<-rv.length];exact hl)),h2 c σ2 (Ext.refl c) s2 r2⟩
     ·exact h2.elim
    ·exact h2.elim
   | succ m=>
    unfold forM at h2;split at h2
    ·rename_i xs hx;obtain ⟨vs,e1,rv⟩:=s2.lst hx;split at h2
     ·rename_i d hd;obtain ⟨v,ev,rd⟩:=rv.get hd;obtain ⟨go,yl⟩:=(walk c x2 vs e1 i).1 v ev;refine .inr ⟨go,λσ' H'=>∃(c:Wd) (S:DSt) (G:DH),c.H=H'/\Ext a1 c/\Sim c G/\RepS c S σ'/\Bj E c (forM k g b m (i + 1) S G) W,λσ' H' z=>⟨m,Nat.lt_succ_self _,z⟩,λw H' y=> ?_⟩;obtain ⟨rfl,rfl⟩:=yl w H' y;refine ⟨c,S2,G2,d,x2.k.trans k1,rfl,s2,r2,rd,(Qq h2).imp ?_⟩;rintro σ3 _ ⟨c3,S3,G3,rfl,x3,s3,r3,_,h3⟩;have fin:=Wh h3
      refine ⟨c3,S3,G3,x3.k.trans (x2.k.trans k1),rfl,s3,r3,?_⟩
      revert fin
      cases b S3 G3 with
      | nx S4 G4=>
        intro fin c4 σ4 x4 s4 q4;obtain ⟨c5,S5,G5,hh,x5,s5,r5,h5⟩:=fin c4 σ4 x4 s4 q4;exact ⟨c5,S5,G5,hh,x2.trans (x3.trans x5),s5,r5,h5⟩
      | ct S4 G4=>
        intro fin c4 σ4 x4 s4 q4;obtain ⟨c5,S5,G5,hh,x5,s5,r5,h5⟩:=fin c4 σ4 x4 s4 q4;exact ⟨c5,S5,G5,hh,x2.trans (x3.trans x5),s5,r5,h5⟩
      | bk S4 G4=>exact λfin=>fin
      | rt S4 G4=>exact λfin=>fin
      | err S4 G4=>exact λfin=>fin
      | bad=>exact λfin=>fin
     ·rename_i hd;have hl:xs.length<=i:=List.getElem?_eq_none_iff.mp hd;exact .inl ⟨((walk c x2 vs e1 i).2 (by rw [<-rv.length];exact hl)),h2 c σ2 (Ext.refl c) s2 r2⟩
    ·exact h2.elim
  ·exact h1.elim
 | fn n f=>
  have walk:∀b:Wd,Ext a1 b->∀G,Sim b G->∀i,(∀d,f i G=some (some d)->J.go i b.H/\∀x H',J.yld i b.H x H'->∃c:Wd,c.H=H'/\Ext b c/\Sim c G/\Rep c d x)/\(f i G=some none->J.stop i b.H):=q1;refine ⟨λi m σ H=>∃(c:Wd) (S:DSt) (G:DH),c.H=H/\Ext a1 c/\Sim c G/\RepS c S σ/\Bj E c (J7 f g b m i S G) W,⟨_,a1,S,G1,rfl,Ext.refl _,s1,r.mono x1,h1⟩,?_⟩;rintro i m σ2 _ ⟨c,S2,G2,rfl,x2,s2,r2,h2⟩;cases m with
  | zero=>
   unfold J7 at h2;split at h2
   ·rename_i hf;exact .inl ⟨(walk c x2 G2 s2 i).2 hf,h2 c σ2 (Ext.refl c) s2 r2⟩
   ·exact h2.elim
  | succ m=>
   unfold J7 at h2;split at h2
   ·rename_i d hf;obtain ⟨go,yl⟩:=(walk c x2 G2 s2 i).1 d hf;refine .inr ⟨go,λσ' H'=>∃(c:Wd) (S:DSt) (G:DH),c.H=H'/\Ext a1 c/\Sim c G/\RepS c S σ'/\Bj E c (J7 f g b m (i + 1) S G) W,λσ' H' z=>⟨m,Nat.lt_succ_self _,z⟩,λw H' y=> ?_⟩;obtain ⟨cc,rfl,xx,ss,rd⟩:=yl w H' y;refine ⟨cc,S2,G2,d,xx.k.trans (x2.k.trans k1),rfl,ss,r2.mono xx,rd,(Qq (Bj.mono xx h2)).imp ?_⟩;rintro σ3 _ ⟨c3,S3,G3,rfl,x3,s3,r3,_,h3⟩
    have fin:=Wh h3;refine ⟨c3,S3,G3,x3.k.trans (xx.k.trans (x2.k.trans k1)),rfl,s3,r3,?_⟩
    revert fin
    cases b S3 G3 with
    | nx S4 G4=>
      intro fin c4 σ4 x4 s4 q4;obtain ⟨c5,S5,G5,hh,x5,s5,r5,h5⟩:=fin c4 σ4 x4 s4 q4;exact ⟨c5,S5,G5,hh,x2.trans (xx.trans (x3.trans x5)),s5,r5,h5⟩
    | ct S4 G4=>
      intro fin c4 σ4 x4 s4 q4;obtain ⟨c5,S5,G5,hh,x5,s5,r5,h5⟩:=fin c4 σ4 x4 s4 q4;exact ⟨c5,S5,G5,hh,x2.trans (xx.trans (x3.trans x5)),s5,r5,h5⟩
    | bk S4 G4=>exact λfin=>fin
    | rt S4 G4=>exact λfin=>fin
    | err S4 G4=>exact λfin=>fin
    | bad=>exact λfin=>fin
   ·rename_i hf;exact .inl ⟨(walk c x2 G2 s2 i).2 hf,h2 c σ2 (Ext.refl c) s2 r2⟩
   ·exact h2.elim
theorem Dr {body:List Stmt} {it:DI} {b:DS} (hp:PassesOwn (model X.prog X.w) X.A X.env X.xe) (hc:X.calm=true) (hi:QI X E tg iter it) (hg:QG X E tg g) (hb:QSs X E body b)
  (hs:∀x,foldedSetIterable iter X.env x=pure x:=by intro _;rfl):QS X E (.For tg iter body [] pos) (Cw it g b):=(ZDX hp hc hi hg hb hs).mono λ_ _ _ h=>ZB3 h
theorem _root_.L2.PI.mono {t t':TI} (h:PI X tg iter t) (w:∀σ H Q,t' σ H Q->t σ H Q):PI X tg iter t':=λpins s σ H Q I q=>h pins s σ H Q I (w σ H Q q)
def sgn (c:Nat):D:=.str ⟨#[c]⟩
def signs (x:Str):List D:=x.cps.toList.map sgn
def Its (x:Str):It:=⟨λi _=>i < x.cps.size,λi H v H'=>H'=H/\∃c,x.cps[i]? =some c/\v=.str ⟨#[c]⟩,λi _=>x.cps.size<=i⟩
theorem ZEe (it:Addr) (x:Str) (t:Tok):Turn P w K tg (Its x) [it] it (λi h=>h.IsStrIter it "str_ascii_iterator" x t i) where
 mem:=by simp
 obj:=λi h st b hb=>by
  have e:b=it:=by simpa using hb
  subst e;obtain ⟨o,e,c,d⟩:=st;exact ⟨o,e,λv z=>by rw [d] at z;cases z⟩
 keep:=λi h h' st k=>let ⟨o,ho,r⟩:=st;⟨o,k it (by simp) o ho,r⟩
 item:=by
  intro X hP hw hK hc i pins s σ H E I hf st hg;subst hP hw hK;obtain ⟨f0,f1,f2,f3,f4,f5⟩:=hf it (by simp);have hi:i < x.cps.size:=hg;refine wpAny_pyNext_ascii_item st (c:=x.cps[i]) (by simp [hi]) λh' st' sb=> ?_
  have I1:Inv X pins σ H {s with heap:=h',toks:=s.toks + 1}:=I.turned (λb o hb e=>(sb.2 b hb).trans e) f0 f1 f3 f4 f5;obtain ⟨o,e,c,d⟩:=id st';exact ⟨_,rfl,Ly (s:={s with heap:=h',toks:=s.toks + 1}) e c d (by decide) ⟨.str ⟨#[x.cps[i]]⟩,H,I1,⟨_,rfl⟩,⟨rfl,_,by simp [hi],rfl⟩,st',λb hb=>(hf b hb).1⟩⟩
 done:=by intro X hP hw hK hc i pins s σ H E I hf st hg;subst hP hw hK;obtain ⟨f0,f1,f2,f3,f4,f5⟩:=hf it (by simp);have hi:x.cps.size<=i:=hg;exact wpAny_pyNext_ascii_end (I.ok.hd hc) st (by simp [hi]) λh' eb=>⟨rfl,I.turned (t':=s.toks) (λb o hb e=>eb b o hb e) f0 f1 f3 f4 f5⟩
 self:=λ_ _ _ _ _ st h=>wpAny_pyIter_striter_ascii st h
theorem ZEn (it:Addr) (x:Str) (t:Tok):Turn P w K tg (Its x) [it] it (λi h=>h.IsStrIter it "str_iterator" x t i) where
 mem:=by simp
 obj:=λi h st b hb=>by
  have e:b=it:=by simpa using hb
  subst e;obtain ⟨o,e,c,d⟩:=st;exact ⟨o,e,λv z=>by rw [d] at z;cases z⟩
 keep:=λi h h' st k=>let ⟨o,ho,r⟩:=st;⟨o,k it (by simp) o ho,r⟩
 item:=by
  intro X hP hw hK hc i pins s σ H E I hf st hg;subst hP hw hK;obtain ⟨f0,f1,f2,f3,f4,f5⟩:=hf it (by simp);have hi:i < x.cps.size:=hg;refine wpAny_pyNext_wide_item st (c:=x.cps[i]) (by simp [hi]) λh' st' sb=> ?_
  have I1:Inv X pins σ H {s with heap:=h',toks:=s.toks + 1}:=I.turned (λb o hb e=>(sb.2 b hb).trans e) f0 f1 f3 f4 f5;obtain ⟨o,e,c,d⟩:=id st';exact ⟨_,rfl,Ly (s:={s with heap:=h',toks:=s.toks + 1}) e c d (by decide) ⟨.str ⟨#[x.cps[i]]⟩,H,I1,⟨_,rfl⟩,⟨rfl,_,by simp [hi],rfl⟩,st',λb hb=>(hf b hb).1⟩⟩
 done:=by intro X hP hw hK hc i pins s σ H E I hf st hg;subst hP hw hK;obtain ⟨f0,f1,f2,f3,f4,f5⟩:=hf it (by simp);have hi:x.cps.size<=i:=hg;exact wpAny_pyNext_wide_end (I.ok.hd hc) st (by simp [hi]) λh' eb=>⟨rfl,I.turned (t':=s.toks) (λb o hb e=>eb b o hb e) f0 f1 f3 f4 f5⟩
 self:=λ_ _ _ _ _ st h=>wpAny_pyIter_striter_wide st h
def iStr (tl:TE):TI:=λσ H R=>tl σ H λx H1=>∃z,x=.str z/\R (Its z) H1
theorem ZEj {l:Expr} {tl:TE} (hl:PE X l tl):PI X tg l (iStr tl):=by
 intro pins s σ H R I h;refine thn (hl pins s σ H _ I h) λv s1 ⟨x,H1,I1,r1,q1⟩=> ?_
 obtain ⟨z,e,q⟩:=q1;subst e;obtain ⟨t,rfl⟩:=r1;have fp:∀b∈ [s1.heap.objs.size],FpOk X pins H1 b:=λb hb=>by
  have e:b=s1.heap.objs.size:=by simpa using hb
  subst e;exact I1.Kh (Nat.le_refl _) (I1.hok.fresh (Nat.le_refl _))
 cases ha:z.cps.all (· < 128)
 ·refine wpAny_pyIter_wide ha ?_;exact ⟨s1.heap.objs.size,[s1.heap.objs.size],_,_,H1,rfl,I1.kept (t':=s1.toks) λb o e=>Heap.get?_push_of_some _ e,ZEn _ z t,⟨_,Heap.get?_push_size _ rfl,rfl,rfl⟩,fp,q⟩
 ·refine wpAny_pyIter_ascii ha ?_;exact ⟨s1.heap.objs.size,[s1.heap.objs.size],_,_,H1,rfl,I1.kept (t':=s1.toks) λb o e=>Heap.get?_push_of_some _ e,ZEe _ z t,⟨_,Heap.get?_push_size _ rfl,rfl,rfl⟩,fp,q⟩
theorem Reps.signs (x:Str):Reps a (signs x) (x.cps.toList.map λc=>V.str ⟨#[c]⟩):=by
 unfold DL.signs
 induction x.cps.toList with
 | nil=>exact rfl
 | cons c r ih=>exact ⟨_,_,rfl,rfl,ih⟩
def Eh:D->DH->R ItD
 | .tup xs,G=>.ok (.pure xs) G
 | .str x,G=>.ok (.pure (signs x)) G
 | .fl xs,G=>.ok (.pure xs) G
 | .ref i,G=>match G[i]? with
  | some (.lst _)=>.ok (.mt i) G
  | _=>.bad
 | _,_=>.bad
def Dp (te:DE):DI:=λS G=>(te S G).bind Eh
theorem Eb (he:QE X E iter te):QI X E tg iter (Dp te):=by
 intro pins s σ H R I h;obtain ⟨a,S,G,hk,rfl,sm,r,h⟩:=h;cases ht:te S G with
 | bad=>
  have h':outI E a ((te S G).bind Eh) R:=h;rw [ht] at h';exact h'.elim
 | err e G1=>
  have h':outI E a ((te S G).bind Eh) R:=h;rw [ht] at h';refine Uh (tg:=tg) he pins s σ a.H R I ⟨a,S,G,hk,rfl,sm,r,?_⟩;rw [ht];exact h'
 | ok d G1=>
  have h':outI E a ((te S G).bind Eh) R:=h;rw [ht] at h';cases d with
  | tup xs=>
   refine ZDs (tg:=tg) he pins s σ a.H R I ⟨a,S,G,hk,rfl,sm,r,?_⟩;rw [ht];rintro b v x sb ⟨p,vs,rfl,hq,rv⟩;have hq':SqT X.K b.H p vs:=by rw [<-hk,<-x.k];exact hq
   refine ⟨p,rfl,⟨vs,hq'⟩,h' b _ x sb ⟨vs,rv,λc y i=>⟨λv hv=>⟨⟨vs,v,?_,hv⟩,λw H' z=> ?_⟩,λhl=>⟨vs,?_,hl⟩⟩⟩⟩
   ·have:=y.sqT hq;rw [y.k,x.k,hk] at this;exact this
   ·have:=y.sqT hq;rw [y.k,x.k,hk] at this;exact ⟨Option.some.inj ((z.2 vs this).symm.trans hv),z.1⟩
   ·have:=y.sqT hq;rw [y.k,x.k,hk] at this;exact this
  | fl xs=>
   refine Uh (tg:=tg) he pins s σ a.H R I ⟨a,S,G,hk,rfl,sm,r,?_⟩;rw [ht];rintro b v x sb ⟨p,vs,rfl,hq,rv⟩;have hq':SqL X.K b.H p vs:=by rw [<-hk,<-x.k];exact hq.sq
   refine ⟨p,rfl,⟨vs,hq'⟩,h' b _ x sb ⟨vs,rv,λc y i=>⟨λv hv=>⟨⟨vs,v,?_,hv⟩,λw H' z=> ?_⟩,λhl=>⟨vs,?_,hl⟩⟩⟩⟩
   ·have:=(y.fzL hq).sq;rw [y.k,x.k,hk] at this;exact this
   ·have:=(y.fzL hq).sq;rw [y.k,x.k,hk] at this;exact ⟨Option.some.inj ((z.2 vs this).symm.trans hv),z.1⟩
   ·have:=(y.fzL hq).sq;rw [y.k,x.k,hk] at this;exact this
  | ref k=>
   have h2:outI E a (Eh (.ref k) G1) R:=h';unfold Eh at h2;dsimp only at h2;split at h2
   ·rename_i xs hx;refine Uh (tg:=tg) he pins s σ a.H R I ⟨a,S,G,hk,rfl,sm,r,?_⟩;rw [ht];rintro b v x sb ⟨hkn,rfl⟩;obtain ⟨vs,hx,_⟩:=sb.lst hx;refine ⟨b.m k,rfl,⟨vs,.of hx⟩,h2 b _ x sb ⟨hkn,λc y us hu i=> ?_⟩⟩;rw [y.m k hkn] at hu;exact ⟨λv hv=>⟨⟨us,v,.of hu,hv⟩,λw H' z=>⟨Option.some.inj ((z.2 us (.of hu)).symm.trans hv),z.1⟩⟩,λhl=>⟨us,.of hu,hl⟩⟩
   ·exact h2.elim
  | str z=>
   refine ZEj (tg:=tg) he pins s σ a.H R I ⟨a,S,G,hk,rfl,sm,r,?_⟩;rw [ht];intro b v x sb rv
   cases (show v=V.str z from rv)
   refine ⟨z,rfl,h' b _ x sb ⟨_,Reps.signs z,λc y i=>⟨λv hv=> ?_,λhl=> ?_⟩⟩⟩
   ·rw [List.getElem?_map,Option.map_eq_some_iff] at hv;obtain ⟨k,hk1,rfl⟩:=hv;have hk2:z.cps[i]? =some k:=by rw [<-Array.getElem?_toList];exact hk1
    refine ⟨(Array.getElem?_eq_some_iff.mp hk2).1,λw H' q=> ?_⟩;obtain ⟨e1,k',e2,e3⟩:=q;rw [hk2] at e2;cases e2;exact ⟨e3,e1⟩
   ·rw [List.length_map,Array.length_toList] at hl;exact hl
  | _=>exact h'.elim
end
def Bp (lo:Int) (n:Nat):List D:=(List.range n).map λ(k:Nat)=>D.int (lo + (k:Int))
def inR (j:Int):Prop:= -(2 ^ 62)<=j/\j < 2 ^ 62
instance (j:Int):Decidable (inR j):=by unfold inR;infer_instance
def rng1 (ds:List D) (G:DH):R ItD:=match ds with
 | [.int j]=>if inR j then .ok (.pure (Bp 0 j.toNat)) G else .bad
 | _=>.bad
def Dh (f:List D->DH->R ItD) (ta:DA):DI:=λS G=>(ta S G).bind f
def Bv (np nl:Nat) (b:DS):List D->DH->R D:=λds G=>if ds.length=np then tidy G (match b (ds.map some++List.replicate nl none) G with
 | .nx _ G'=>.ok .non G'
 | .rt d G'=>.ok d G'
 | .err x G'=>.err x G'
 | _=>.bad) else .bad
theorem outI.mono (x:Ext a b) {r:R ItD} {Q:It->Hp->Prop} (h:outI E a r Q):outI E b r Q:=by
 cases r with
 | ok d G=>exact λc v y s q=>h c v (x.trans y) s q
 | err e G=>exact XOk.mono (E:=E) (e:=e) (G:=G) x h
 | bad=>exact h
theorem Yh {r:R (List D)} {f:List D->DH->R ItD} {Q:It->Hp->Prop} (h:outI E a (r.bind f) Q):
  Dj E a r (λvs H=>∃(b:Wd) (ds:List D) (G:DH),b.H=H/\Ext a b/\Sim b G/\Reps b ds vs/\r=.ok ds G/\outI E b (f ds G) Q):=by
 cases r with
 | ok d G=>exact λb v x s q=>⟨b,d,G,rfl,x,s,q,rfl,outI.mono x h⟩
 | err e G=>exact h
 | bad=>exact h
section
variable {X:Cx} {E:XK} {tg iter:Expr} {pos:Pos}
theorem ZGa (lo:Int) (n:Nat):RepI a (.pure (Bp lo n)) (Itr lo n):=by
 refine ⟨(List.range n).map λ(k:Nat)=>V.int (lo + (k:Int)),?_,λb x i=>⟨λv hv=> ?_,λhl=> ?_⟩⟩
 ·unfold Bp;generalize List.range n=l
  induction l with
  | nil=>exact rfl
  | cons k l ih=>exact ⟨_,_,rfl,rfl,ih⟩
 ·rw [List.getElem?_map] at hv;by_cases hi:i < n
  ·rw [List.getElem?_range hi] at hv;have hv':V.int (lo + (i:Int))=v:=by simpa using hv
   exact ⟨hi,λw H' y=>⟨y.2.trans hv',y.1⟩⟩
  ·rw [List.getElem?_eq_none (by simpa using hi)] at hv;cases hv
 ·show n<=i;simpa using hl
theorem Eu {ta:DA} {p pos:Pos} (hg:Gl X "range") (hm:X.mg "range"=none) (ha:QA X E [e] ta) (hs:starEach [e] X.env= [(false,eval e X.env)]:=by rfl):QI X E tg (.Call (.Name "range" p) [e] [] pos) (Dh rng1 ta):=
 (ZE7 hg hm ha hs).mono λσ H Q h=>by
  obtain ⟨a,S,G,hk,rfl,s,r,h⟩:=h;refine ⟨a,S,G,hk,rfl,s,r,(Yh h).imp ?_⟩;rintro vs _ ⟨b,ds,G1,rfl,x,s1,q,-,h1⟩;unfold rng1 at h1;split at h1
  ·rename_i j;split at h1
   ·rename_i hj;obtain ⟨v,r,e1,q1,q2⟩:=q
    cases (show v=V.int j from q1)
    cases (show r= [] from q2)
    exact ⟨j,e1,hj.1,hj.2,h1 b _ (Ext.refl b) s1 (ZGa 0 j.toNat)⟩
   ·exact h1.elim
  ·exact h1.elim
end
theorem ZFk (r:Reps a ds vs) (n m:Nat) (h:n=m):RepS a (ds.map some++List.replicate n none) (vs.map some++List.replicate m none):=by
 subst h;refine ⟨by simp [r.length],λi d hd=> ?_⟩;by_cases hi:i < ds.length
 ·rw [List.getElem?_append_left (by simpa using hi),List.getElem?_map] at hd;cases e:ds[i]? with
  | none=>rw [e] at hd;cases hd
  | some d'=>
   rw [e] at hd;have hd':d'=d:=by simpa using hd
   subst hd';obtain ⟨v,ev,q⟩:=r.get e;exact ⟨v,by rw [List.getElem?_append_left (by rw [List.length_map,<-r.length];exact hi),List.getElem?_map,ev];rfl,q⟩
 ·rw [List.getElem?_append_right (by simpa using hi),List.getElem?_replicate] at hd
  split at hd <;> cases hd
theorem Cj {mg:Str->Option Value} {base:Heap} {qual:Str} {st:Stmt} {f:Addr} {fd:FuncData} {N ps:List Str} {b:DS} (F:Fun K x qual st f fd) (S:FnScope N ps (Bc st))
  (hbody:∀(cdv:Value) (A:Around) (outer:List Env) (s:Shared) (H:Hp) (E:XK),Room k (A.deeper (envOfC qual (Bc st) s.heap.objs.size f cdv))->QSs (J6 CX0 P w K mg base N qual (Bc st) f cdv A outer s H E).nox E0 (Ge st) b):
  FnOk P w K mg base CX0 (k + 1) f fd ps (lF K (Bv ps.length (N.length - ps.length) b)):=by
 have hlen:∀vs H Q E,lF K (Bv ps.length (N.length - ps.length) b) vs H Q E->vs.length=ps.length:=λvs H Q E h=>by
  obtain ⟨a,G,ds,hk,rfl,sm,r,h⟩:=h;unfold Bv at h;split at h
  ·rename_i hl;rw [<-r.length];exact hl
  ·exact h.elim
 refine F.ok S hlen (λcdv A outer s H vs Q E hr h=> ?_);refine ⟨lS K E0 b,hbody cdv A outer s H E hr,?_⟩;have hl:=hlen vs H Q E h;obtain ⟨a,G,ds,hk,rfl,sm,r,h⟩:=h;unfold Bv at h;split at h
 ·have h2:=Ye sm h;refine ⟨a,ds.map some++List.replicate (N.length - ps.length) none,G,hk,rfl,sm,ZFk r _ _ (by rw [hl]),?_⟩
  revert h2
  cases b (ds.map some++List.replicate (N.length - ps.length) none) G with
  | nx S1 G1=>exact λh2 c σ x s1 _=>h2 c .non x s1 rfl
  | rt d G1=>exact λh2=>h2
  | err e G1=>exact λh2=>h2
  | bk S1 G1=>exact λh2=>h2.elim
  | ct S1 G1=>exact λh2=>h2.elim
  | bad=>exact λh2=>h2
 ·exact h.elim
theorem Jb {x:V} (s:Sim a G) (r:Rep a d x) (h:Bf d G=some xs):∃p vs,x=.ref p/\(SqL a.K a.H p vs∨SqT a.K a.H p vs)/\Reps a xs vs:=by
 cases d with
 | tup ys=>
  have e:ys=xs:=Option.some.inj h;subst e;obtain ⟨p,vs,e,q,rr⟩:=r;exact ⟨p,vs,e,.inr q,rr⟩
 | fl ys=>
  have e:ys=xs:=Option.some.inj h;subst e;obtain ⟨p,vs,e,q,rr⟩:=r;exact ⟨p,vs,e,.inl q.sq,rr⟩
 | ref i=>
  unfold Bf at h;dsimp only at h;split at h
  ·rename_i ys hi;have e:ys=xs:=Option.some.inj h;subst e;obtain ⟨vs,e1,r1⟩:=s.lst hi;exact ⟨a.m i,vs,r.2,.inl (.of e1),r1⟩
  ·cases h
 | _=>cases h
def Aj (d e:D) (G:DH):R D:=match e with
 | .int i=>match d with
  | .str z=>if z.length<=1000000 then (match atI z.cps.toList i with
    | some c=>.ok (.str ⟨#[c]⟩) G
    | none=>.bad) else .bad
  | d=>match Bf d G with
   | some xs=>match atI xs i with
    | some v=>.ok v G
    | none=>.bad
   | none=>.bad
 | _=>.bad
theorem ZEi {i:Int} (r:Reps a xs vs) (h:atI xs i=some d):∃v,atI vs i=some v/\Rep a d v:=by
 unfold atI at h ⊢;rw [<-r.length];cases e:ixN xs.length i with
 | none=>rw [e] at h;cases h
 | some j=>
  rw [e] at h
  obtain ⟨v,ev,q⟩:=r.get (show xs[j]? =some d from h)
  exact ⟨v,ev,q⟩
section
variable {X:Cx} {E:XK}
theorem _root_.L2.IxR.mono {r r':R2} (h:IxR X r) (w:∀x y H Q,r' x y H Q->r x y H Q):IxR X r':=λvalue slice pins s σ H x y v u Q I rx ry q hs=>h value slice pins s σ H x y v u Q I rx ry (w _ _ _ _ q) hs
theorem _root_.L2.CallR.mono {f:Value} {r r':List V->Hp->VK->Prop} (h:CallR X f r) (w:∀xs H Q,r' xs H Q->r xs H Q):CallR X f r':=λpins s σ H xs us Q I rs q=>h pins s σ H xs us Q I rs (w _ _ _ q)
theorem _root_.L2.MtM.mono {id:String} {r r':V->List V->Hp->VK->Prop} (h:MtM X id r) (w:∀x xs H Q,r' x xs H Q->r x xs H Q):MtM X id r':=λpins s σ H x xs v us Q I rx rs q=>h pins s σ H x xs v us Q I rx rs (w _ _ _ _ q)
theorem Ak:IxR X (lR2 X.K E Aj):=ZFM.mono λx y H Q h=>by
 obtain ⟨a,G,d,e,hk,rfl,s,rd,re,q⟩:=h;cases e with
 | int i=>
  have fin:∀{xs:List D},Bf d G=some xs->out E a (match atI xs i with | some v=>.ok v G | none=>.bad) Q->rIx X.K x y a.H Q:=λ{xs} hs q=>by
   obtain ⟨p,vs,e1,h1,r1⟩:=Jb s rd hs;rw [hk] at h1;split at q
   ·rename_i v hv;obtain ⟨u,hu,ru⟩:=ZEi r1 hv;have z:=q a u (Ext.refl a) s ru;rcases h1 with h1 | h1
    ·exact .inl ⟨p,vs,i,u,e1,re,h1,hu,z⟩
    ·exact .inr (.inl ⟨p,vs,i,u,e1,re,h1,hu,z⟩)
   ·exact q.elim
  have fin':out E a (match Bf d G with | some xs=>(match atI xs i with | some v=>.ok v G | none=>.bad) | none=>.bad) Q->rIx X.K x y a.H Q:=λq=>by
   cases hs:Bf d G with
   | none=>rw [hs] at q;exact q.elim
   | some xs=>rw [hs] at q;exact fin hs q
  cases d with
  | str z=>
   unfold Aj at q;dsimp only at q;split at q
   ·rename_i hl;split at q
    ·rename_i c hc;exact .inr (.inr ⟨z,i,c,rd,re,Nat.le_trans hl size6,hc,q a _ (Ext.refl a) s rfl⟩)
    ·exact q.elim
   ·exact q.elim
  | tup ys=>exact fin' q
  | fl ys=>exact fin' q
  | ref j=>exact fin' q
  | _=>exact fin' q
 | _=>exact q.elim
def Fp (ds:List D) (G:DH):R D:=match ds with
 | [.str z]=>if z.length<=1000000 then .ok (.int z.length) G else .bad
 | [d]=>match Bf d G with
  | some xs=>.ok (.int xs.length) G
  | none=>.bad
 | _=>.bad
theorem reps1 (r:Reps a [d] vs):∃v,vs= [v]/\Rep a d v:=by
 obtain ⟨v,r',e,q,z⟩:=r
 cases (show r'= [] from z)
 exact ⟨v,e,q⟩
theorem reps2 {d':D} (r:Reps a [d,d'] vs):∃v v',vs= [v,v']/\Rep a d v/\Rep a d' v':=by obtain ⟨v,r',e,q,z⟩:=r;obtain ⟨v',e',q'⟩:=reps1 z;subst e';exact ⟨v,v',e,q,q'⟩
theorem K8:CallR X (.builtin "len") (lRn X.K E Fp):=(ZGZ.or ZFx).mono λvs H Q h=>by
 obtain ⟨a,G,ds,hk,rfl,s,r,q⟩:=h;unfold Fp at q;split at q
 ·rename_i z;split at q
  ·rename_i hl;obtain ⟨v,rfl,rv⟩:=reps1 r
   cases (show v=V.str z from rv)
   exact .inr ⟨z,rfl,Nat.le_trans hl size6,q a _ (Ext.refl a) s rfl⟩
  ·exact q.elim
 ·rename_i d _;split at q
  ·rename_i xs hs;obtain ⟨v,rfl,rv⟩:=reps1 r;obtain ⟨p,us,rfl,h1,r1⟩:=Jb s rv hs;rw [hk] at h1;exact .inl ⟨p,us,rfl,h1,q a _ (Ext.refl a) s (by rw [<-r1.length];exact rfl)⟩
  ·exact q.elim
 ·exact q.elim
def Fd (ds:List D) (G:DH):R D:=match ds with
 | [d]=>match Bf d G with
  | some xs=>.ok (.tup xs) G
  | none=>.bad
 | _=>.bad
theorem Im:CallR X (.type "tuple") (lRn X.K E Fd):=ZDx.mono λvs H Q h=>by
 obtain ⟨a,G,ds,hk,rfl,s,r,q⟩:=h;unfold Fd at q;split at q
 ·rename_i d;split at q
  ·rename_i xs hs;obtain ⟨v,rfl,rv⟩:=reps1 r;obtain ⟨p,us,rfl,h1,r1⟩:=Jb s rv hs;refine ⟨p,us,rfl,?_⟩;rcases h1 with h1 | h1
   ·exact .inl ⟨by rw [<-hk];exact h1,λl hl=>Vf s r1 q l hl⟩
   ·exact .inr ⟨by rw [<-hk];exact h1,q a _ (Ext.refl a) s ⟨p,us,rfl,h1,r1⟩⟩
  ·exact q.elim
 ·exact q.elim
def S6 (ds:List D) (G:DH):R D:=match ds with
 | [.int i,.int j]=>.ok (.int (if j > i then j else i)) G
 | _=>.bad
def Jf (ds:List D) (G:DH):R D:=match ds with
 | [.int i,.int j]=>.ok (.int (if j < i then j else i)) G
 | _=>.bad
theorem ZCc (hc:X.calm=true):CallR X (.builtin "max") (lRn X.K E S6):=(ZCp hc).mono λvs H Q h=>by
 obtain ⟨a,G,ds,hk,rfl,s,r,q⟩:=h;unfold S6 at q;split at q
 ·obtain ⟨v,v',rfl,h1,h2⟩:=reps2 r
  cases (show v=V.int _ from h1)
  cases (show v'=V.int _ from h2)
  exact ⟨_,_,rfl,q a _ (Ext.refl a) s rfl⟩
 ·exact q.elim
theorem Sv (hc:X.calm=true):CallR X (.builtin "min") (lRn X.K E Jf):=(ZC0 hc).mono λvs H Q h=>by
 obtain ⟨a,G,ds,hk,rfl,s,r,q⟩:=h;unfold Jf at q;split at q
 ·obtain ⟨v,v',rfl,h1,h2⟩:=reps2 r
  cases (show v=V.int _ from h1)
  cases (show v'=V.int _ from h2)
  exact ⟨_,_,rfl,q a _ (Ext.refl a) s rfl⟩
 ·exact q.elim
def Ml (ds:List D) (G:DH):R D:=match ds with
 | [.int i]=>.ok (.int i) G
 | [.bl k]=>.ok (.int (if k then 1 else 0)) G
 | _=>.bad
theorem ZAr:CallR X (.type "int") (lRn X.K E Ml):=ZFw.mono λvs H Q h=>by
 obtain ⟨a,G,ds,hk,rfl,s,r,q⟩:=h;unfold Ml at q;split at q
 ·obtain ⟨v,rfl,h1⟩:=reps1 r
  cases (show v=V.int _ from h1)
  exact .inl ⟨_,rfl,q a _ (Ext.refl a) s rfl⟩
 ·obtain ⟨v,rfl,h1⟩:=reps1 r
  cases (show v=V.bl _ from h1)
  exact .inr ⟨_,rfl,q a _ (Ext.refl a) s rfl⟩
 ·exact q.elim
def Ex (o:D) (ds:List D) (G:DH):R D:=match o,ds with
 | .ref i,[d]=>match G[i]? with
  | some (.lst xs)=>if xs.length < 1000000 then .ok .non (G.set i (.lst (xs++ [d]))) else .bad
  | _=>.bad
 | _,_=>.bad
def lRm (K:PySem.W.Frag) (E:XK) (f:D->List D->DH->R D):V->List V->Hp->VK->Prop:=λx xs H Q=>∃(a:Wd) (G:DH) (d:D) (ds:List D),a.K=K/\a.H=H/\Sim a G/\Rep a d x/\Reps a ds xs/\out E a (f d ds G) Q
theorem Sim.isList (s:Sim a G) (h:G[i]? =some (.lst xs)):∃vs,SqL a.K a.H (a.m i) vs:=let ⟨vs,e,_⟩:=s.lst h;⟨vs,.of e⟩
theorem Gs:MtM X "list.append" (lRm X.K E Ex):=ZB7.mono λx xs H Q h=>by
 obtain ⟨a,G,d,ds,hk,rfl,s,rd,r,q⟩:=h;unfold Ex at q;split at q
 ·rename_i i d;obtain ⟨v,rfl,rv⟩:=reps1 r;split at q
  ·rename_i ys hy;split at q
   ·rename_i hl;obtain ⟨vs,e1,r1⟩:=s.lst hy;obtain ⟨x3,s3⟩:=ZFX s rd.1 e1 (r1.append (Reps.cons rv Reps.nil));refine ⟨a.m i,vs,v,rd.2,rfl,e1,by rw [<-r1.length];exact Nat.lt_of_lt_of_le hl size6,?_⟩;exact q _ .non x3 s3 rfl
   ·exact q.elim
  ·exact q.elim
 ·exact q.elim
variable {o e:Expr} {es:List Expr} {to:DE} {t:DA} {name:Str} {apos cpos:Pos} {T id:String} {f:D->List D->DH->R D}
def isL (d:D) (G:DH):Bool:=match d with
 | .ref i=>match G[i]? with
  | some (.lst _)=>true
  | _=>false
 | .fl _=>true
 | _=>false
def Ft (f:D->List D->DH->R D) (o:DE) (t:DA):DE:=λS G=>(o S G).bind λx G1=>if isL x G1=true then (t S G1).bind λxs G2=>f x xs G2 else .bad
theorem ZCn {x:V} (s:Sim a G) (r:Rep a d x) (h:isL d G=true):tyV a.K "list" x a.H:=by
 cases d with
 | ref i=>
  unfold isL at h;dsimp only at h;split at h
  ·rename_i xs hx;cases r.2;exact .inl ⟨rfl,s.isList hx⟩
  ·cases h
 | fl xs=>
  obtain ⟨p,vs,rfl,q,_⟩:=r;exact .inl ⟨rfl,vs,q.sq⟩
 | _=>cases h
theorem Hh (slot:Slot "list" name id) (hty:typeOf (.builtin id)=pure (.type "method_descriptor")) (hm:MtM X id (lRm X.K E f)) (ho:QE X E o to) (ha:QA X E (e::es) t)
  (hbase:attributeBase o name X.env (eval o X.env)=eval o X.env:=by rfl)
  (hfew:((backTo cpos (starEach (e::es) X.env)).all (λx=> !x.1) && (backToKw cpos (keywordEach [] X.env)).all (λx=>x.1.isSome)
   && decide ((e::es).length + ([]:List Keyword).length + (if ([]:List Keyword).isEmpty then 0 else 1) < 30))=true:=by rfl)
  (hline:(apos.endLine == cpos.line)=true:=by rfl) (hs:starEach (e::es) X.env=(false,eval e X.env)::starEach es X.env:=by rfl) (hplain:(backTo cpos (starEach es X.env)).any (·.1)=false:=by rfl):
  QE X E (.Call (.Attribute o name apos) (e::es) [] cpos) (Ft f to t):=(ZBM PySem.F.plainAttrs_list slot hty hm ho ha hbase hfew hline hs hplain).mono λσ H Q h=>by
 obtain ⟨a,S,G,hk,rfl,s,r,h⟩:=h;refine ⟨a,S,G,hk,rfl,s,r,(Gk h).imp ?_⟩;rintro v _ ⟨b,d,G1,rfl,x,s1,q,-,h1⟩;split at h1
 ·rename_i hl;have ty:=ZCn s1 q hl;rw [x.k,hk] at ty;refine ⟨ty,b,S,G1,x.k.trans hk,rfl,s1,r.mono x,(Nf h1).imp ?_⟩;rintro vs _ ⟨c,ds,G2,rfl,y,s2,q2,-,h2⟩;exact ⟨c,G2,d,ds,y.k.trans (x.k.trans hk),rfl,s2,q.mono y,q2,h2⟩
 ·exact h1.elim
end
inductive Ty where | non | bl | int | str | tup | lst
def Ty.name:Ty->String
 | .non=>"NoneType" | .bl=>"bool" | .int=>"int" | .str=>"str" | .tup=>"tuple" | .lst=>"list"
def tyD (G:DH):D->Option Ty
 | .non=>some .non
 | .bl _=>some .bl
 | .int _=>some .int
 | .str _=>some .str
 | .tup _=>some .tup
 | .fl _=>some .lst
 | .ref i=>match G[i]? with
  | some (.lst _)=>some .lst
  | _=>none
 | .ty _=>none
def Ty.sub (t:Ty):String->Option Bool
 | "int"=>some (match t with | .int=>true | .bl=>true | _=>false)
 | "bool"=>some (match t with | .bl=>true | _=>false)
 | "str"=>some (match t with | .str=>true | _=>false)
 | "tuple"=>some (match t with | .tup=>true | _=>false)
 | "list"=>some (match t with | .lst=>true | _=>false)
 | _=>none
def Hy (ds:List D) (G:DH):R D:=match ds with
 | [d,.ty T]=>match tyD G d with
  | some t=>match t.sub T with
   | some k=>.ok (.bl k) G
   | none=>.bad
  | none=>.bad
 | _=>.bad
section
variable {prog:Program} {w:World} {A:Around} {E:Value->Shared->Prop} {s:Shared}
theorem J9 {x:Value} {Tx T:String} {Q:Value->Shared->Prop} (hx:s.TypeIs x Tx) (hty:typeOf (.type T)=pure (.type "type")) (hsub:isSubtype (.type Tx) (.type T)=pure true) (h:Q (.bool true) s):
  wpAny (model prog w) A (call (.builtin "isinstance") [x,.type T]) Q E s:=call_isinstance (isinstance_true hty hsub) ⟨hx,h⟩
end
theorem ty_int:typeOf (.type "int")=pure (.type "type"):=by with_unfolding_all rfl
theorem ty_bool:typeOf (.type "bool")=pure (.type "type"):=by with_unfolding_all rfl
theorem ty_str:typeOf (.type "str")=pure (.type "type"):=by with_unfolding_all rfl
theorem ty_tuple:typeOf (.type "tuple")=pure (.type "type"):=by with_unfolding_all rfl
theorem ty_list:typeOf (.type "list")=pure (.type "type"):=by with_unfolding_all rfl
theorem ZEW:isSubtype (.type "NoneType") (.type "int")=pure false:=by with_unfolding_all rfl
theorem ZF4:isSubtype (.type "NoneType") (.type "bool")=pure false:=by with_unfolding_all rfl
theorem ZFi:isSubtype (.type "NoneType") (.type "str")=pure false:=by with_unfolding_all rfl
theorem ZGc:isSubtype (.type "NoneType") (.type "tuple")=pure false:=by with_unfolding_all rfl
theorem ZGW:isSubtype (.type "NoneType") (.type "list")=pure false:=by with_unfolding_all rfl
theorem ZFz:isSubtype (.type "bool") (.type "int")=pure true:=by with_unfolding_all rfl
theorem ZDv:isSubtype (.type "bool") (.type "bool")=pure true:=by with_unfolding_all rfl
theorem ZFL:isSubtype (.type "bool") (.type "str")=pure false:=by with_unfolding_all rfl
theorem ZCQ:isSubtype (.type "bool") (.type "tuple")=pure false:=by with_unfolding_all rfl
theorem ZGX:isSubtype (.type "bool") (.type "list")=pure false:=by with_unfolding_all rfl
theorem ZD6:isSubtype (.type "int") (.type "int")=pure true:=by with_unfolding_all rfl
theorem ZCa:isSubtype (.type "int") (.type "bool")=pure false:=by with_unfolding_all rfl
theorem ZGP:isSubtype (.type "int") (.type "str")=pure false:=by with_unfolding_all rfl
theorem ZBw:isSubtype (.type "int") (.type "tuple")=pure false:=by with_unfolding_all rfl
theorem ZEL:isSubtype (.type "int") (.type "list")=pure false:=by with_unfolding_all rfl
theorem ZE0:isSubtype (.type "str") (.type "int")=pure false:=by with_unfolding_all rfl
theorem ZD5:isSubtype (.type "str") (.type "bool")=pure false:=by with_unfolding_all rfl
theorem ZCA:isSubtype (.type "str") (.type "str")=pure true:=by with_unfolding_all rfl
theorem ZDB:isSubtype (.type "str") (.type "tuple")=pure false:=by with_unfolding_all rfl
theorem ZC8:isSubtype (.type "str") (.type "list")=pure false:=by with_unfolding_all rfl
theorem ZDA:isSubtype (.type "tuple") (.type "int")=pure false:=by with_unfolding_all rfl
theorem ZDp:isSubtype (.type "tuple") (.type "bool")=pure false:=by with_unfolding_all rfl
theorem ZCU:isSubtype (.type "tuple") (.type "str")=pure false:=by with_unfolding_all rfl
theorem ZE3:isSubtype (.type "tuple") (.type "tuple")=pure true:=by with_unfolding_all rfl
theorem ZDw:isSubtype (.type "tuple") (.type "list")=pure false:=by with_unfolding_all rfl
theorem Zz:isSubtype (.type "list") (.type "int")=pure false:=by with_unfolding_all rfl
theorem Zy:isSubtype (.type "list") (.type "bool")=pure false:=by with_unfolding_all rfl
theorem ZA1:isSubtype (.type "list") (.type "str")=pure false:=by with_unfolding_all rfl
theorem ZA8:isSubtype (.type "list") (.type "tuple")=pure false:=by with_unfolding_all rfl
theorem ZAh:isSubtype (.type "list") (.type "list")=pure true:=by with_unfolding_all rfl
section
variable {X:Cx} {E:XK}
theorem ZA9:CallR X (.builtin "isinstance") (lRn X.K E Hy):=by
 intro pins s σ H vs us Q I rs h;obtain ⟨a,G,ds,hk,rfl,sm,r,q⟩:=h;unfold Hy at q;split at q
 ·rename_i d T;obtain ⟨v,v',rfl,h1,h2⟩:=reps2 r
  cases (show v'=V.ty T from h2)
  obtain ⟨u,u',rfl,ru,ru'⟩:∃u u',us= [u,u']/\RelV v u/\RelV (.ty T) u':=by
   cases rs with
   | cons p q=>cases q with
    | cons p' q'=>cases q';exact ⟨_,_,rfl,p,p'⟩
  cases (show u'=Value.type T from ru')
  split at q
  ·rename_i t ht;split at q
   ·rename_i k hk';have fin:∀{n:Nat},EP X pins σ Q (.bool k) {s with toks:=n}:=λ{n}=>⟨.bl k,a.H,I.tok _,rfl,q a _ (Ext.refl a) sm rfl⟩
    have fin0:EP X pins σ Q (.bool k) s:=⟨.bl k,a.H,I,rfl,q a _ (Ext.refl a) sm rfl⟩;unfold Ty.sub at hk';split at hk'
    ·cases d with
     | non=>
      cases ht;cases hk'
      cases (show v=_ from h1)
      cases ru;exact call_isinstance (isinstance_false_none (by decide) ty_int ZEW) fin
     | bl b=>
      cases ht;cases hk'
      cases (show v=_ from h1)
      cases ru;exact J9 (Tx:="bool") rfl ty_int ZFz fin0
     | int b=>
      cases ht;cases hk'
      cases (show v=_ from h1)
      obtain ⟨tk,rfl⟩:=ru;exact J9 (Tx:="int") (typeIs_int s _ _) ty_int ZD6 fin0
     | str b=>
      cases ht;cases hk'
      cases (show v=_ from h1)
      obtain ⟨tk,rfl⟩:=ru;exact call_isinstance (isinstance_false_str (by decide) ty_int ZE0) fin
     | tup b=>
      cases ht;cases hk';obtain ⟨p,ws,rfl,hq,_⟩:=h1;cases ru;rw [hk] at hq;obtain ⟨its,_,pl,_⟩:=I.tuple hq;exact call_isinstance (isinstance_false_tuple (by decide) ty_int ZDA) ⟨(let ⟨o,e,c,_⟩:=pl;⟨o,e,c⟩),fin⟩
     | fl b=>
      cases ht;cases hk';obtain ⟨p,ws,rfl,hq,_⟩:=h1;cases ru;have hq:=hq.sq;rw [hk] at hq;obtain ⟨its,_,pl,_⟩:=I.list hq;exact call_isinstance (isinstance_false_list (by decide) ty_int Zz) ⟨(let ⟨o,e,c,_⟩:=pl.isList;⟨o,e,c⟩),fin⟩
     | ref b=>
      unfold tyD at ht;dsimp only at ht;split at ht
      ·rename_i xs hx;cases ht;cases hk';obtain ⟨ws,e1,_⟩:=sm.lst hx;cases h1.2;cases ru;obtain ⟨its,_,pl,_⟩:=I.list (.of e1);exact call_isinstance (isinstance_false_list (by decide) ty_int Zz) ⟨(let ⟨o,e,c,_⟩:=pl.isList;⟨o,e,c⟩),fin⟩
      ·cases ht
     | ty n=>cases ht
    ·cases d with
     | non=>
      cases ht;cases hk'
      cases (show v=_ from h1)
      cases ru;exact call_isinstance (isinstance_false_none (by decide) ty_bool ZF4) fin
     | bl b=>
      cases ht;cases hk'
      cases (show v=_ from h1)
      cases ru;exact J9 (Tx:="bool") rfl ty_bool ZDv fin0
     | int b=>
      cases ht;cases hk'
      cases (show v=_ from h1)
      obtain ⟨tk,rfl⟩:=ru;exact call_isinstance (isinstance_false_int (by decide) ty_bool ZCa) fin
     | str b=>
      cases ht;cases hk'
      cases (show v=_ from h1)
      obtain ⟨tk,rfl⟩:=ru;exact call_isinstance (isinstance_false_str (by decide) ty_bool ZD5) fin
     | tup b=>
      cases ht;cases hk';obtain ⟨p,ws,rfl,hq,_⟩:=h1;cases ru;rw [hk] at hq;obtain ⟨its,_,pl,_⟩:=I.tuple hq;exact call_isinstance (isinstance_false_tuple (by decide) ty_bool ZDp) ⟨(let ⟨o,e,c,_⟩:=pl;⟨o,e,c⟩),fin⟩
     | fl b=>
      cases ht;cases hk';obtain ⟨p,ws,rfl,hq,_⟩:=h1;cases ru;have hq:=hq.sq;rw [hk] at hq;obtain ⟨its,_,pl,_⟩:=I.list hq;exact call_isinstance (isinstance_false_list (by decide) ty_bool Zy) ⟨(let ⟨o,e,c,_⟩:=pl.isList;⟨o,e,c⟩),fin⟩
     | ref b=>
      unfold tyD at ht;dsimp only at ht;split at ht
      ·rename_i xs hx;cases ht;cases hk';obtain ⟨ws,e1,_⟩:=sm.lst hx;cases h1.2;cases ru;obtain ⟨its,_,pl,_⟩:=I.list (.of e1);exact call_isinstance (isinstance_false_list (by decide) ty_bool Zy) ⟨(let ⟨o,e,c,_⟩:=pl.isList;⟨o,e,c⟩),fin⟩
      ·cases ht
     | ty n=>cases ht
    ·cases d with
     | non=>
      cases ht;cases hk'
      cases (show v=_ from h1)
      cases ru;exact call_isinstance (isinstance_false_none (by decide) ty_str ZFi) fin
     | bl b=>
      cases ht;cases hk'
      cases (show v=_ from h1)
      cases ru;exact call_isinstance (isinstance_false_bool (by decide) ty_str ZFL) fin
     | int b=>
      cases ht;cases hk'
      cases (show v=_ from h1)
      obtain ⟨tk,rfl⟩:=ru;exact call_isinstance (isinstance_false_int (by decide) ty_str ZGP) fin
     | str b=>
      cases ht;cases hk'
      cases (show v=_ from h1)
      obtain ⟨tk,rfl⟩:=ru;exact J9 (Tx:="str") (typeIs_str s _ _) ty_str ZCA fin0
     | tup b=>
      cases ht;cases hk';obtain ⟨p,ws,rfl,hq,_⟩:=h1;cases ru;rw [hk] at hq;obtain ⟨its,_,pl,_⟩:=I.tuple hq;exact call_isinstance (isinstance_false_tuple (by decide) ty_str ZCU) ⟨(let ⟨o,e,c,_⟩:=pl;⟨o,e,c⟩),fin⟩
     | fl b=>
      cases ht;cases hk';obtain ⟨p,ws,rfl,hq,_⟩:=h1;cases ru;have hq:=hq.sq;rw [hk] at hq;obtain ⟨its,_,pl,_⟩:=I.list hq;exact call_isinstance (isinstance_false_list (by decide) ty_str ZA1) ⟨(let ⟨o,e,c,_⟩:=pl.isList;⟨o,e,c⟩),fin⟩
     | ref b=>
      unfold tyD at ht;dsimp only at ht;split at ht
      ·rename_i xs hx;cases ht;cases hk';obtain ⟨ws,e1,_⟩:=sm.lst hx;cases h1.2;cases ru;obtain ⟨its,_,pl,_⟩:=I.list (.of e1);exact call_isinstance (isinstance_false_list (by decide) ty_str ZA1) ⟨(let ⟨o,e,c,_⟩:=pl.isList;⟨o,e,c⟩),fin⟩
      ·cases ht
     | ty n=>cases ht
    ·cases d with
     | non=>
      cases ht;cases hk'
      cases (show v=_ from h1)
      cases ru;exact call_isinstance (isinstance_false_none (by decide) ty_tuple ZGc) fin
     | bl b=>
      cases ht;cases hk'
      cases (show v=_ from h1)
      cases ru;exact call_isinstance (isinstance_false_bool (by decide) ty_tuple ZCQ) fin
     | int b=>
      cases ht;cases hk'
      cases (show v=_ from h1)
      obtain ⟨tk,rfl⟩:=ru;exact call_isinstance (isinstance_false_int (by decide) ty_tuple ZBw) fin
     | str b=>
      cases ht;cases hk'
      cases (show v=_ from h1)
      obtain ⟨tk,rfl⟩:=ru;exact call_isinstance (isinstance_false_str (by decide) ty_tuple ZDB) fin
     | tup b=>
      cases ht;cases hk';obtain ⟨p,ws,rfl,hq,_⟩:=h1;cases ru;rw [hk] at hq;obtain ⟨its,_,pl,_⟩:=I.tuple hq;exact J9 (Tx:="tuple") pl.typeIs ty_tuple ZE3 fin0
     | fl b=>
      cases ht;cases hk';obtain ⟨p,ws,rfl,hq,_⟩:=h1;cases ru;have hq:=hq.sq;rw [hk] at hq;obtain ⟨its,_,pl,_⟩:=I.list hq;exact call_isinstance (isinstance_false_list (by decide) ty_tuple ZA8) ⟨(let ⟨o,e,c,_⟩:=pl.isList;⟨o,e,c⟩),fin⟩
     | ref b=>
      unfold tyD at ht;dsimp only at ht;split at ht
      ·rename_i xs hx;cases ht;cases hk';obtain ⟨ws,e1,_⟩:=sm.lst hx;cases h1.2;cases ru;obtain ⟨its,_,pl,_⟩:=I.list (.of e1);exact call_isinstance (isinstance_false_list (by decide) ty_tuple ZA8) ⟨(let ⟨o,e,c,_⟩:=pl.isList;⟨o,e,c⟩),fin⟩
      ·cases ht
     | ty n=>cases ht
    ·cases d with
     | non=>
      cases ht;cases hk'
      cases (show v=_ from h1)
      cases ru;exact call_isinstance (isinstance_false_none (by decide) ty_list ZGW) fin
     | bl b=>
      cases ht;cases hk'
      cases (show v=_ from h1)
      cases ru;exact call_isinstance (isinstance_false_bool (by decide) ty_list ZGX) fin
     | int b=>
      cases ht;cases hk'
      cases (show v=_ from h1)
      obtain ⟨tk,rfl⟩:=ru;exact call_isinstance (isinstance_false_int (by decide) ty_list ZEL) fin
     | str b=>
      cases ht;cases hk'
      cases (show v=_ from h1)
      obtain ⟨tk,rfl⟩:=ru;exact call_isinstance (isinstance_false_str (by decide) ty_list ZC8) fin
     | tup b=>
      cases ht;cases hk';obtain ⟨p,ws,rfl,hq,_⟩:=h1;cases ru;rw [hk] at hq;obtain ⟨its,_,pl,_⟩:=I.tuple hq;exact call_isinstance (isinstance_false_tuple (by decide) ty_list ZDw) ⟨(let ⟨o,e,c,_⟩:=pl;⟨o,e,c⟩),fin⟩
     | fl b=>
      cases ht;cases hk';obtain ⟨p,ws,rfl,hq,_⟩:=h1;cases ru;have hq:=hq.sq;rw [hk] at hq;obtain ⟨its,_,pl,_⟩:=I.list hq;exact J9 (Tx:="list") pl.isList.typeIs ty_list ZAh fin0
     | ref b=>
      unfold tyD at ht;dsimp only at ht;split at ht
      ·rename_i xs hx;cases ht;cases hk';obtain ⟨ws,e1,_⟩:=sm.lst hx;cases h1.2;cases ru;obtain ⟨its,_,pl,_⟩:=I.list (.of e1);exact J9 (Tx:="list") pl.isList.typeIs ty_list ZAh fin0
      ·cases ht
     | ty n=>cases ht
    ·cases hk'
   ·exact q.elim
  ·exact q.elim
 ·exact q.elim
end
def Dt:List D->Option (List Int)
 | []=>some []
 | .int i::r=>(Dt r).map (i::·)
 | _=>none
@[simp] theorem ZFS (ns:List Int):Dt (ns.map D.int)=some ns:=by
 induction ns with
 | nil=>rfl
 | cons n ns ih=>simp [Dt,ih]
theorem Vw:∀{xs:List D} {ns:List Int},Dt xs=some ns->xs=ns.map D.int
 | [],ns,h=>by cases h;rfl
 | .int i::r,ns,h=>by simp only [Dt,Option.map_eq_some_iff] at h;obtain ⟨ms,h1,rfl⟩:=h;rw [List.map_cons,Vw h1]
 | .non::r,ns,h=>by simp [Dt] at h
 | .bl _::r,ns,h=>by simp [Dt] at h
 | .str _::r,ns,h=>by simp [Dt] at h
 | .ty _::r,ns,h=>by simp [Dt] at h
 | .tup _::r,ns,h=>by simp [Dt] at h
 | .fl _::r,ns,h=>by simp [Dt] at h
 | .ref _::r,ns,h=>by simp [Dt] at h
def Dz (ds:List D) (G:DH):R D:=match ds with
 | [d]=>match Bf d G with
  | some xs=>match Dt xs with
   | some ns=>.ok (.int ns.sum) G
   | none=>.bad
  | none=>.bad
 | _=>.bad
section
variable {X:Cx} {E:XK} {pins:List (Addr×Obj)} {σ:St} {s:Shared} {H:Hp}
theorem Zg (I:Inv X pins σ H s) (hc:X.calm=true) (h:SqL X.K H p vs∨SqT X.K H p vs) {E':Value->Shared->Prop} {Q:Value->Shared->Prop}
  (hQ:∀(it:Addr) (fp wr:List Addr) (its:List Value) (St:Nat->Heap->Prop) (s₂:Shared),Vals vs its->Walks X.prog X.w X.A.in1 it fp wr its.toArray.size (λi v=>its.toArray[i]? =some v) St->St 0 s₂.heap->(∀b∈fp,b < s₂.heap.objs.size)->
   (∀h' tk,(∀b o,b ∉ wr->s₂.heap.get? b=some o->h'.get? b=some o)->Inv X pins σ H {s₂ with heap:=h',toks:=tk})->Q (.ref it) s₂):
  wpAny (model X.prog X.w) X.A.in1 (pyIter (.ref p)) Q E' s:=by
 have hh:X.A.in1.handled=none:=I.ok.hd hc;rcases h with h | h
 ·obtain ⟨its,r,pl,hz⟩:=I.list h;refine wpAny_pyIter_list pl.isList ?_;have hp:p < s.heap.objs.size:=by obtain ⟨o,e,_⟩:=pl.isList;exact Heap.lt_size e
  refine hQ _ _ _ its _ _ r (Walks.list hh _ p (Nat.ne_of_lt hp) its.toArray) ⟨⟨_,Heap.get?_push_size _ rfl,rfl,rfl⟩,?_⟩ (λb hb=> ?_) λh' tk kk=> ?_
  ·obtain ⟨o,e,c⟩:=pl.isList;exact ⟨o,Heap.get?_push_of_some _ e,c⟩
  ·show b < (s.heap.push _).objs.size;rw [Heap.size_push];rcases List.mem_cons.mp hb with rfl | hb
   ·exact Nat.lt_succ_self _
   ·have e:b=p:=by simpa using hb
    subst e;exact Nat.lt_succ_of_lt hp
  ·refine I.kept λb o e=>kk b o (λhb=> ?_) (Heap.get?_push_of_some _ e)
   have e2:b=s.heap.objs.size:=by simpa using hb
   subst e2;exact absurd (Heap.lt_size e) (Nat.lt_irrefl _)
 ·obtain ⟨its,r,pl,hz⟩:=I.tuple h
  refine wpAny_pyIter_tuple (show s.heap.IsTuple p its.toArray from pl) ?_
  have hp:p < s.heap.objs.size:=by obtain ⟨o,e,_⟩:=pl;exact Heap.lt_size e
  refine hQ _ _ _ its _ _ r (Walks.tuple hh _ p (Nat.ne_of_lt hp) its.toArray) ⟨⟨_,Heap.get?_push_size _ rfl,rfl,rfl⟩,?_⟩ (λb hb=> ?_) λh' tk kk=> ?_
  ·obtain ⟨o,e,c⟩:=pl;exact ⟨o,Heap.get?_push_of_some _ e,c⟩
  ·show b < (s.heap.push _).objs.size;rw [Heap.size_push];rcases List.mem_cons.mp hb with rfl | hb
   ·exact Nat.lt_succ_self _
   ·have e:b=p:=by simpa using hb
    subst e;exact Nat.lt_succ_of_lt hp
  ·refine I.kept λb o e=>kk b o (λhb=> ?_) (Heap.get?_push_of_some _ e)
   have e2:b=s.heap.objs.size:=by simpa using hb
   subst e2;exact absurd (Heap.lt_size e) (Nat.lt_irrefl _)
theorem ZAg (ns:List Int):∀n,n<=ns.length->preSum (λi=>ns.getD i 0) n=(ns.take n).sum
 | 0,_=>by simp [preSum]
 | n + 1,h=>by have hn:n < ns.length:=h;rw [preSum,ZAg ns n (by omega),List.take_succ_eq_append_getElem hn,List.sum_append];simp [hn]
theorem Te:∀{ns:List Int} {vs:List V},Reps a (ns.map D.int) vs->vs=ns.map V.int
 | [],vs,h=>h
 | n::ns,vs,h=>by
  obtain ⟨v,r,e,h1,h2⟩:=h
  cases (show v=V.int n from h1)
  rw [e,Te h2]
  rfl
theorem Ng (hc:X.calm=true):CallR X (.builtin "sum") (lRn X.K E Dz):=by
 intro pins s σ H vs us Q I rs h;obtain ⟨a,G,ds,hk,rfl,sm,r,q⟩:=h;unfold Dz at q;split at q
 ·rename_i d;obtain ⟨v,rfl,rv⟩:=reps1 r;split at q
  ·rename_i xs hs;split at q
   ·rename_i ns hn;cases Vw hn;obtain ⟨p,ws,rfl,h1,r1⟩:=Jb sm rv hs;cases Te r1;rw [hk] at h1;obtain ⟨u,rfl,ru⟩:=vals1 rs;cases ru;refine call_sum_walkG (Zg I hc h1 λit fp wr its St s₂ hv W st hfp fin=>⟨it,fp,wr,its.toArray.size,_,St,λi=>ns.getD i 0,rfl,W,st,hfp,λi w hw=> ?_,λh' tk t' kk=> ?_⟩)
    ·have hw':its[i]? =some w:=by simpa using hw
     have hl:i < (ns.map V.int).length:=by rw [hv.length];exact (List.getElem?_eq_some_iff.mp hw').1
     have hl':i < ns.length:=by simpa using hl
     obtain ⟨u,hu,ru⟩:=hv.get (i:=i) (x:=V.int ns[i]) (by simp [hl']);rw [hw'] at hu;cases hu;obtain ⟨t,rfl⟩:=ru;exact ⟨t,by simp [hl']⟩
    ·refine ⟨.int ns.sum,a.H,fin h' tk kk,⟨t',?_⟩,q a _ (Ext.refl a) sm rfl⟩;have hl:its.toArray.size=ns.length:=by rw [List.size_toArray,<-hv.length];simp
     rw [hl,ZAg ns ns.length (Nat.le_refl _),List.take_length]
   ·exact q.elim
  ·exact q.elim
 ·exact q.elim
end
section
variable {X:Cx} {pins:List (Addr×Obj)} {σ:St} {H:Hp} {s:Shared}
theorem Yj {a:Addr} {o:HO} (I:Inv X pins σ H s) (hn:H a=none) (hy:X.s₀.heap.objs.size<=a) (hL:a≠X.env.locals) (hc:∀x c,X.env.cells.lookup x=some c->c≠a) (hp:∀p∈X.pn++pins,p.1≠a)
  (new:ObjOk X.prog X.w (upd H a o) s.heap a o):Inv X pins σ (upd H a o) s:=by
 have ne:∀b u,H b=some u->b≠a:=λb u e z=>by rw [z,hn] at e;cases e
 refine ⟨I.ok,I.os,I.bare,⟨I.base.keep,I.base.slot,λb ob q n hx=> ?_,I.base.there,λb xs q=> ?_,λb ob u q=> ?_,λb ps q=> ?_⟩,I.loc,I.cell,?_,λx c e=> ?_,λp hp'=> ?_,λb u e=> ?_,I.len⟩
 ·rw [Az (Nat.ne_of_lt (Nat.lt_of_lt_of_le (Heap.lt_size q) hy))];exact I.base.free b ob q n hx
 ·have:=I.base.tups b xs q;rw [Az (ne _ _ this)];exact this
 ·have:=I.base.frzs b ob u q;rw [Az (ne _ _ this)];exact this
 ·obtain ⟨more,this⟩:=I.base.tbls b ps q;exact ⟨more,by rw [Az (ne _ _ this)];exact this⟩
 ·rw [Az (Ne.symm hL)];exact I.free
 ·rw [Az (hc x c e)];exact I.Fb x c e
 ·obtain ⟨e1,e2,e3⟩:=I.pin p hp';exact ⟨e1,by rw [Az (hp p hp')];exact e2,e3⟩
 ·by_cases hb:b=a
  ·subst hb;rw [Ej] at e;cases e;exact new
  ·rw [Az hb] at e;exact (I.hok b u e).stay (λ_ _ _ q=>q) (λc q=>by rw [Az (ne _ _ q)];exact q) λc xs q=>by rw [Az (ne _ _ q)];exact q
end
def Df (env:Env):List (Str×NameKind)->List (Str×Addr)->List (Str×Addr)
 | [],cs=>cs
 | (n,k)::r,cs=>if (k == NameKind.free)=true then Df env r ((n,(env.cells.lookup n).getD 0)::cs) else Df env r cs
theorem ZBR (h:∀y∈scope.names,y.2=.free->∃c,env.cells.lookup y.1=some c):closureFor scope env=pure (Df env scope.names []):=by
 unfold closureFor;obtain ⟨kind,names,g1,g2⟩:=scope;have key:∀(names:List (Str×NameKind)) (cs:List (Str×Addr)),(∀y∈names,y.2=.free->∃c,env.cells.lookup y.1=some c)->
   (forIn names cs (λx r=>match x with
    | (name,kind)=>if (kind == NameKind.free)=true then (do let c<-cellOf env name;pure (ForInStep.yield ((name,c)::r))) else pure (ForInStep.yield r)):Sem (List (Str×Addr)))=pure (Df env names cs):=by
  intro names
  induction names with
  | nil=>intro cs _;rfl
  | cons y r ih=>
   intro cs hy;obtain ⟨n,k⟩:=y;rw [List.forIn_cons];by_cases hk:(k == NameKind.free)=true
   ·obtain ⟨c,hc⟩:=hy (n,k) List.mem_cons_self (by simpa using hk)
    have e1:cellOf env n=pure c:=by unfold cellOf;rw [show env.cells.lookup n=some c from hc]
    have e2:Df env ((n,k)::r) cs=Df env r ((n,c)::cs):=by rw [Df,if_pos hk,show env.cells.lookup n=some c from hc];rfl
    rw [e2,<-ih ((n,c)::cs) λy' hy'=>hy y' (List.mem_cons_of_mem _ hy')];simp only [hk,if_true,e1]
    rfl
   ·have e2:Df env ((n,k)::r) cs=Df env r cs:=by rw [Df,if_neg hk]
    rw [e2,<-ih cs λy' hy'=>hy y' (List.mem_cons_of_mem _ hy')];simp only [hk]
    rfl
 have:=key names [] h;exact congrArg (λm:Sem (List (Str×Addr))=>m >>=λr=>pure r) this
theorem Uv:∀{names:List (Str×NameKind)} {cs:List (Str×Addr)},(∀y∈names,y.2=.free->∃c,env.cells.lookup y.1=some c)->(∀p∈cs,env.cells.lookup p.1=some p.2)->∀p∈Df env names cs,env.cells.lookup p.1=some p.2
 | [],cs,_,hc,p,hp=>hc p hp
 | (n,k)::r,cs,hn,hc,p,hp=>by
  rw [Df] at hp;split at hp
  ·rename_i hk;obtain ⟨c,e⟩:=hn (n,k) List.mem_cons_self (by simpa using hk);refine Uv (λy hy=>hn y (List.mem_cons_of_mem _ hy)) (λq hq=> ?_) p hp;rcases List.mem_cons.mp hq with rfl | hq
   ·rw [show env.cells.lookup n=some c from e];rfl
   ·exact hc q hq
  ·exact Uv (λy hy=>hn y (List.mem_cons_of_mem _ hy)) hc p hp
theorem Qg:∀{names:List (Str×NameKind)} {cs:List (Str×Addr)},((x,.free)∈names∨∃c,(x,c)∈cs)->∃c,(x,c)∈Df env names cs
 | [],cs,h=>by
  rcases h with h | h
  ·cases h
  ·exact h
 | (n,k)::r,cs,h=>by
  rw [Df];split
  ·refine Qg ?_;rcases h with h | ⟨c,h⟩
   ·rcases List.mem_cons.mp h with e | h
    ·cases e;exact .inr ⟨_,List.mem_cons_self⟩
    ·exact .inl h
   ·exact .inr ⟨c,List.mem_cons_of_mem _ h⟩
  ·rename_i hk;refine Qg ?_;rcases h with h | h
   ·rcases List.mem_cons.mp h with e | h
    ·cases e;exact absurd rfl hk
    ·exact .inl h
   ·exact .inr h
theorem Wl {c:Addr}:∀{l:List (Str×Addr)},(x,c)∈l->∃d,l.lookup x=some d
 | [],h=>by cases h
 | (y,d)::l,h=>by
  by_cases e:x=y
  ·subst e;exact ⟨d,by simp⟩
  ·rcases List.mem_cons.mp h with z | h
   ·cases z;exact absurd rfl e
   ·obtain ⟨d',q⟩:=Wl h;exact ⟨d',by rw [List.lookup_cons,beq_eq_false_iff_ne.mpr e];exact q⟩
theorem ZAy (x:Str):(relabel scope env).names.lookup x=(scope.names.lookup x).map λk=>if (k == NameKind.free && env.scope.kind == .function && env.kindOf x == some .cell)=true then .cell else k:=by
 unfold relabel;generalize scope.names=l
 induction l with
 | nil=>rfl
 | cons y r ih=>
  obtain ⟨n,k⟩:=y;by_cases e:x=n
  ·subst e;simp only [List.map_cons]
   cases hc:(k == NameKind.free && env.scope.kind == ScopeKind.function && env.kindOf x == some NameKind.cell) <;>
    simp only [hc,if_true,List.lookup_cons,beq_self_eq_true,Option.map_some,Bool.false_eq_true,if_false]
  ·have hb:(x == n)=false:=beq_eq_false_iff_ne.mpr e;simp only [List.map_cons];split
   ·rw [List.lookup_cons,List.lookup_cons,hb];exact ih
   ·rw [List.lookup_cons,List.lookup_cons,hb];exact ih
def blk (X:Cx) (N:List Str) (scope:Scope) (C:Addr) (s₀:Shared) (H₀:Hp) (ex:List Addr):Cx where
 prog:=X.prog
 w:=X.w
 K:=X.K
 mg:=X.mg
 base:=X.base
 A:=X.A
 N:=N
 s₀:=s₀
 H₀:=H₀
 env:=compEnvC scope (Df X.env scope.names []) C X.env
 outer:=X.stack
 stack:=X.stack
 ex:=ex
 fn:=λ_=>false
 calm:=X.calm
 pn:= []
 xe:=λ_ _=>False
structure CompSc (X:Cx) (N:List Str) (scope:Scope) (nt:Nat) (caps:List Nat):Prop where
 kind:scope.kind=.function
 names:∀y∈scope.names,y.2=.local->scope.names.lookup y.1=some .local
 nocell:∀y∈scope.names,y.2≠ .cell
 free:∀y∈scope.names,y.2=.free->X.env.kindOf y.1=some .cell∨X.env.kindOf y.1=some .free
 nd:N.Nodup
 len:N.length=nt + caps.length
 cap:∀(k j:Nat),caps[k]? =some j->∃x,X.N[j]? =some x/\N[nt + k]? =some x/\scope.names.lookup x=some .free
section
variable {X:Cx} {pins:List (Addr×Obj)} {σ:St} {H:Hp} {s:Shared} {N:List Str} {scope:Scope} {nt:Nat} {caps:List Nat}
theorem CompSc.cells (c:CompSc X N scope nt caps) (ok:X.Ok):∀y∈scope.names,y.2=.free->∃c,X.env.cells.lookup y.1=some c:=λy hy hk=>ok.has y.1 (c.free y hy hk)
theorem CompSc.cl (c:CompSc X N scope nt caps) (ok:X.Ok) {d:Addr} (h:(Df X.env scope.names []).lookup x=some d):X.env.cells.lookup x=some d:=
 Uv (c.cells ok) (λp hp=>by cases hp) (x,d) (PySem.mem_of_lookup h)
theorem ZBi (c:CompSc X N scope nt caps) (I:Inv X pins σ H s) {fp:List Addr} (hf:∀b∈fp,FpOk X pins H b) {C:Addr} (hC:s.heap.objs.size<=C) (hCf:C ∉ fp):(blk X N scope C s H fp).Ok where
 mod:=I.ok.mod
 kind:=c.kind
 glob:=I.ok.glob
 blt:=I.ok.blt
 above:=hC
 inj:=λx y d h1 h2=>I.ok.inj x y d (c.cl I.ok h1) (c.cl I.ok h2)
 has:=λx h=>by
  have h':(relabel scope X.env).names.lookup x=some .cell∨(relabel scope X.env).names.lookup x=some .free:=h;rw [ZAy] at h';have hfree:scope.names.lookup x=some .free:=by
   cases e:scope.names.lookup x with
   | none=>rw [e] at h';rcases h' with h' | h' <;> cases h'
   | some k=>
    rw [e] at h';cases k with
    | free=>rfl
    | cell=>exact absurd rfl (c.nocell _ (PySem.mem_of_lookup e))
    | _=>rcases h' with h' | h' <;> (simp at h')
  obtain ⟨d,hd⟩:=Qg (env:=X.env) (x:=x) (names:=scope.names) (cs:= []) (.inl (PySem.mem_of_lookup hfree));exact Wl hd
 cab:=λx d h=>by cases h
 hd:=I.ok.hd
 frames:=I.ok.frames
 stk:=.inl rfl
 exf:=λb hb=>⟨λz=>hCf (by rw [<-show b=C from z];exact hb),λx d h=>(hf b hb).2.2.2.2.1 x d (c.cl I.ok h)⟩
 bs:=I.bs
 bsz:=Nat.le_trans I.ok.bsz I.sz
 noex:=λb o e hb=>by
  rcases (hf b hb).2.2.2.1 with h | h
  ·exact I.ok.noex b o e h
  ·exact absurd (Nat.lt_of_lt_of_le (Heap.lt_size (I.ok.bs b o e).1) h) (Nat.lt_irrefl _)
 exfs:=λb hb hz=>by
  rcases List.mem_cons.mp (I.Oi b hz) with z | z
  ·exact (hf b hb).2.1 z
  ·exact (hf b hb).2.2.1 z
 funs:=I.stack
 frf:=I.Zh
end
def Bx (g:DG) (c:DB) (te:DE) (S:DSt):List D->DH->R (List D)
 | [],G=>.ok [] G
 | x::xs,G=>(g x S G).bind λS1 G1=>(c S1 G1).bind λk G2=>
   if k=true then (te S1 G2).bind λd G3=>(Bx g c te S xs G3).bind λds G4=>.ok (d::ds) G4 else Bx g c te S xs G2
def Do (i:Nat) (g:DG) (c:DB) (te:DE) (S:DSt):Nat->Nat->DH->R (List D)
 | 0,j,G=>match G[i]? with
  | some (.lst xs)=>if xs.length<=j then .ok [] G else .bad
  | _=>.bad
 | n + 1,j,G=>match G[i]? with
  | some (.lst xs)=>match xs[j]? with
   | some x=>(g x S G).bind λS1 G1=>(c S1 G1).bind λk G2=>
     if k=true then (te S1 G2).bind λd G3=>(Do i g c te S n (j + 1) G3).bind λds G4=>.ok (d::ds) G4 else Do i g c te S n (j + 1) G2
   | none=>.ok [] G
  | _=>.bad
def Dy (f:Nat->DH->Option (Option D)) (g:DG) (c:DB) (te:DE) (S:DSt):Nat->Nat->DH->R (List D)
 | 0,j,G=>match f j G with
  | some none=>.ok [] G
  | _=>.bad
 | n + 1,j,G=>match f j G with
  | some (some x)=>(g x S G).bind λS1 G1=>(c S1 G1).bind λk G2=>
     if k=true then (te S1 G2).bind λd G3=>(Dy f g c te S n (j + 1) G3).bind λds G4=>.ok (d::ds) G4 else Dy f g c te S n (j + 1) G2
  | some none=>.ok [] G
  | none=>.bad
def Ay (nt:Nat) (caps:List Nat) (S:DSt):DSt:=List.replicate nt none++caps.map λj=>(S[j]?).join
def Dw (it:DI) (nt:Nat) (caps:List Nat) (g:DG) (c:DB) (te:DE):DE:=λS G=>(it S G).bind λJ G1=>(match J with
 | .pure xs=>Bx g c te (Ay nt caps S) xs G1
 | .mt i=>match G1[i]? with
  | some (.lst xs)=>Do i g c te (Ay nt caps S) xs.length 0 G1
  | _=>.bad
 | .fn n f=>Dy f g c te (Ay nt caps S) n 0 G1).bind Ax
def Ca:DB:=λ_ G=>.ok true G
def GK (nt:Nat) (g:DG):Prop:=∀d S G S1 G1,g d S G=.ok S1 G1->∀i e,nt<=i->S[i]? =some (some e)->S1[i]? =some (some e)
def GKs (nt:Nat) (g:DGs):Prop:=∀d S G S1 G1,g d S G=.ok S1 G1->∀i e,nt<=i->S[i]? =some (some e)->S1[i]? =some (some e)
theorem Dl (h:i < nt):GK nt (gV i):=λd S G S1 G1 e j x hj hx=>by cases e;rw [List.getElem?_set_ne (by omega)];exact hx
theorem Vq:GKs nt Ep:=λd S G S1 G1 e j x hj hx=>by
 cases d with
 | nil=>cases e;exact hx
 | cons _ _=>cases e
theorem Ja {t:DG} {u:DGs} (h1:GK nt t) (h2:GKs nt u):GKs nt (Bt t u):=λd S G S1 G1 e j x hj hx=>by
 cases d with
 | nil=>cases e
 | cons a r=>
  have e':(t a S G).bind (λS1 G1=>u r S1 G1)=.ok S1 G1:=e;cases ht:t a S G with
  | ok S2 G2=>rw [ht] at e';exact h2 _ _ _ _ _ e' j x hj (h1 _ _ _ _ _ ht j x hj hx)
  | err _ _=>rw [ht] at e';cases e'
  | bad=>rw [ht] at e';cases e'
theorem Vv {t:DGs} (h:GKs nt t):GK nt (Dq n t):=λd S G S1 G1 e j x hj hx=>by
 cases d with
 | tup ds=>
  unfold Dq at e;dsimp only at e;split at e
  ·exact h _ _ _ _ _ e j x hj hx
  ·cases e
 | _=>cases e
theorem ZCl {r:R DSt} {f:DSt->DH->R D} (h:out E a (r.bind f) Q):
  Ed E a r (λσ H=>∃(b:Wd) (S:DSt) (G:DH),b.H=H/\Ext a b/\Sim b G/\RepS b S σ/\r=.ok S G/\out E b (f S G) Q):=by
 cases r with
 | ok d G=>exact λb v x s q=>⟨b,d,G,rfl,x,s,q,rfl,out.mono x h⟩
 | err e G=>exact h
 | bad=>exact h
theorem R.bind_assoc {β γ:Type} (r:R α) (f:α->DH->R β) (g:β->DH->R γ):(r.bind f).bind g=r.bind λa G=>(f a G).bind g:=by cases r <;> rfl
theorem Z6 {r:R ItD} {f:ItD->DH->R D} (h:out E a (r.bind f) Q):
  outI E a r (λJ H=>∃(b:Wd) (d:ItD) (G:DH),b.H=H/\Ext a b/\Sim b G/\RepI b d J/\r=.ok d G/\out E b (f d G) Q):=by
 cases r with
 | ok d G=>exact λb v x s q=>⟨b,d,G,rfl,x,s,q,rfl,out.mono x h⟩
 | err e G=>exact h
 | bad=>exact h
section
variable {prog:Program} {w:World} {A:Around} {R':Result->Shared->Prop} {s:Shared}
theorem Tr {elt target iter:Expr} {ifs:List Expr} {scope:Scope} {pos:Pos} {it acc:Value} {env:Env} (I:Nat->Shared->Prop)
  (turn:∀n s,I n s->wpAny (model prog w) A (pyNext it) (λr s₁=>match r with
   | none=>R' (.ok .next) s₁
   | some v=>wpAny (model prog w) A (letOwnedTupleGo target it v) (λ_ s₁=>wpAny (model prog w) A (assign target env v) (λ_ s₂=>
     wpAny (model prog w) A (forIn ifs true λc r=>if r=true then do let ok<-isTrue c env (eval c env);pure (ForInStep.yield ok) else pure (ForInStep.yield r)) (λok s₃=>
      if ok=true then wpAny (model prog w) A (eval elt env) (λx s₄=>
       wpAny (model prog w) A (call (.builtin "list.append") [acc,x]) (λ_ s₅=>∃m,m < n/\I m s₅) (λ_ _=>False) s₄) (λ_ _=>False) s₃
      else∃m,m < n/\I m s₃) (λ_ _=>False) s₂) (λ_ _=>False) s₁) (λ_ _=>False) s₁) (λ_ _=>False) s)
  (n:Nat) (h:I n s):
  codeAny (model prog w) A (.compLoop (.ListComp elt [⟨target,iter,ifs,0⟩] scope pos) 0 it acc env) R' s:=by
 refine codeAny_loop rfl I (λn s hI=> ?_) n h
 show wpAny _ A ((compTurn (.ListComp elt [⟨target,iter,ifs,0⟩] scope pos) 0 it acc env).onRaise (λx=>do noteFrame x env;theTreesLotGoes x)) _ _ s
 refine wpAny_noted ?_;rw [compTurn_list];refine wpAny_mono ?_ (λ_ _ q=>q) (λ_ _ (f:False)=>f.elim);refine wpAny_bind (wpAny_standAt (wpAny_bind (wpAny_mono (turn n s hI) (λr s₁ h₁=> ?_) λ_ _ h'=>h')));cases r with
 | none=>exact wpAny_pure h₁
 | some v=>
  refine wpAny_bind (wpAny_mono h₁ (λ_ s₂' h₁=> ?_) λ_ _ h'=>h');refine wpAny_bind (wpAny_mono h₁ (λ_ s₂ h₂=>wpAny_bind (wpAny_mono h₂ (λok s₃ h₃=> ?_) λ_ _ h'=>h')) λ_ _ h'=>h');cases ok with
  | false=>exact wpAny_pure ⟨rfl,h₃⟩
  | true=>
   exact wpAny_bind (wpAny_bind (wpAny_mono h₃ (λx s₄ h₄=>wpAny_bind (wpAny_mono h₄ (λ_ s₅ h₅=>wpAny_pure (wpAny_pure ⟨rfl,h₅⟩)) λ_ _ h'=>h')) λ_ _ h'=>h'))
end
def QTs (X:Cx) (E:XK) (ifs:List Expr) (t:DB):Prop:=
 ∀(pins:List (Addr×Obj)) (s:Shared) (σ:St) (H:Hp) (Q:Bool->Hp->Prop),Inv X pins σ H s->lB X.K E t σ H Q->
  wpAny (model X.prog X.w) X.A (forIn ifs true λc r=>if r=true then do let ok<-isTrue c X.env (eval c X.env);pure (ForInStep.yield ok) else pure (ForInStep.yield r)) (TP X pins σ Q) X.xe s
theorem Hl:QTs X E [] Ca:=λpins s σ H Q I h=>by obtain ⟨a,S,G,hk,rfl,sm,r,h⟩:=h;exact wpAny_tests_nil ⟨a.H,I,h a (Ext.refl a) sm⟩
theorem U8 {c:Expr} {t:DB} (hc:QT X E c t):QTs X E [c] t:=λpins s σ H Q I h=>wpAny_tests_one (hc pins s σ H Q I h)
section
variable {X:Cx} {E:XK} {N:List Str} {scope:Scope} {nt:Nat} {caps:List Nat} {tg elt iter:Expr} {ifs:List Expr} {pos:Pos} {it:DI} {g:DG} {c:DB} {te:DE}
theorem ZBj (r:RepS a S σ):RepS a (Ay nt caps S) (List.replicate nt none++caps.map λj=>(σ[j]?).join):=by
 refine ⟨by simp [Ay],λi d h=> ?_⟩;unfold Ay at h;by_cases hi:i < nt
 ·rw [List.getElem?_append_left (by simpa using hi),List.getElem?_replicate] at h
  split at h <;> cases h
 ·rw [List.getElem?_append_right (by simpa using hi),List.getElem?_map] at h;rw [List.getElem?_append_right (by simpa using hi),List.getElem?_map];rw [List.length_replicate] at h ⊢;cases e:caps[i - nt]? with
  | none=>rw [e] at h;cases h
  | some j=>
   rw [e] at h;have h1:(S[j]?).join=some d:=by simpa using h
   have h2:S[j]? =some (some d):=by
    cases q:S[j]? with
    | none=>rw [q] at h1;cases h1
    | some o=>
     rw [q] at h1;have h1':o=some d:=h1;rw [h1']
   obtain ⟨v,ev,rv⟩:=r.get j d h2;exact ⟨v,by simp [ev],rv⟩
theorem ZC3 (h:(Ay nt caps S)[i]? =some (some d)):nt<=i:=by
 unfold Ay at h;by_cases hi:i < nt
 ·rw [List.getElem?_append_left (by simpa using hi),List.getElem?_replicate] at h
  split at h <;> cases h
 ·omega
theorem ZAj (hc:X.calm=true) (cs:CompSc X N scope nt caps)
  (hg:∀C s₀ H₀ ex,QG (blk X N scope C s₀ H₀ ex) E0 tg g) (gk:GK nt g) (hts:∀C s₀ H₀ ex,QTs (blk X N scope C s₀ H₀ ex) E0 ifs c) (he:∀C s₀ H₀ ex,QE (blk X N scope C s₀ H₀ ex) E0 elt te)
  {pins:List (Addr×Obj)} {σ:St} {s:Shared} {a:Wd} {S:DSt} {G:DH} {J:It} {d:ItD} {i0:Addr} {fp:List Addr} {tn:Nat->Heap->Prop} (I:Inv X pins σ a.H s) (hk:a.K=X.K) (sm:Sim a G) (rS:RepS a S σ)
  (T:Turn X.prog X.w X.K tg J fp i0 tn) (t0:tn 0 s.heap) (hf:∀b∈fp,FpOk X pins a.H b) (rJ:RepI a d J) {Q:VK}
  (h:out E0 a ((match d with
   | .pure xs=>Bx g c te (Ay nt caps S) xs G
   | .mt i=>match G[i]? with
    | some (.lst xs)=>Do i g c te (Ay nt caps S) xs.length 0 G
    | _=>.bad
   | .fn n f=>Dy f g c te (Ay nt caps S) n 0 G).bind Ax) Q)
  {RR:Value->Addr->Result->Shared->Prop} {E':Value->Shared->Prop}
  (hRR:∀(D C:Addr) (s':Shared) (b:Wd) (vs:List V),Inv X pins σ (upd b.H D (.lst vs)) s'->b.H D=none->s.heap.objs.size<=C->D≠C->(∃m,s'.heap.Ns C m)->b.H C=none->Q (.ref D) (upd b.H D (.lst vs))->RR (.ref D) C (.ok .next) s'):
  wpAny (model X.prog X.w) X.A (newList []) (λacc s₃=>wpAny (model X.prog X.w) X.A (newFunctionEnv scope X.env.globals (Df X.env scope.names []) [] X.env.qual none .none (some X.env)) (λcenv s₄=>
   codeAny (model X.prog X.w) X.A (.compStart (.ListComp elt [⟨tg,iter,ifs,0⟩] scope pos) 0 (.ref i0) acc {cenv with scope:=relabel scope X.env}) (RR acc cenv.locals) s₄) E' s₃) E' s:=by
 refine wpAny_newObj_type (wpAny_newFunctionEnv cs.nocell (by intro y hy;simp at hy) (λh₁ hns₁ hsb₁=> ?_) cs.kind);dsimp only at hns₁ hsb₁ ⊢;generalize hH2:s.heap.push {cls:=.type "list",dict:=none,data:=.seq ([]:List Value).toArray}=H2 at hns₁ hsb₁ ⊢;have hC:H2.objs.size=s.heap.objs.size + 1:=by rw [<-hH2,Heap.size_push]
 have hDC:s.heap.objs.size≠H2.objs.size:=by rw [hC];exact Nat.ne_of_lt (Nat.lt_succ_self _)
 have hCle:s.heap.objs.size<=H2.objs.size:=by rw [hC];exact Nat.le_succ _
 have fpOld:∀b∈fp,b < s.heap.objs.size:=λb hb=>by obtain ⟨o,e,_⟩:=T.obj 0 _ t0 b hb;exact Heap.lt_size e
 have hDf:s.heap.objs.size ∉ fp:=λhm=>Nat.lt_irrefl _ (fpOld _ hm)
 have hCf:H2.objs.size ∉ fp:=λhm=>by have:=fpOld _ hm;rw [hC] at this;exact Nat.lt_irrefl _ (Nat.lt_of_succ_lt this)
 have old:∀b o,s.heap.get? b=some o->h₁.get? b=some o:=λb o e=>
  hsb₁.extBut b o (by rw [hC];exact Nat.ne_of_lt (Nat.lt_succ_of_lt (Heap.lt_size e))) (Heap.get?_push_of_some _ (hH2 ▸ Heap.get?_push_of_some _ e))
 have hacc:h₁.PlainList s.heap.objs.size ([]:List Value).toArray:=⟨_,hsb₁.extBut _ _ hDC (Heap.get?_push_of_some _ (hH2 ▸ Heap.get?_push_size _ rfl))⟩;generalize hCe:H2.objs.size=C at *;generalize hDe:s.heap.objs.size=Dd at *;let B:=blk X N scope C s a.H fp;have okB:B.Ok:=ZBi cs I hf (by rw [hDe];exact hCle) hCf;let σ0:St:=List.replicate nt none++caps.map λj=>(σ[j]?).join
 have start:∀tk,Inv B [] σ0 a.H {s with heap:=h₁,toks:=tk}:=λtk=>by
  refine ⟨okB,rfl,I.bare,Un.kept old,⟨_,hns₁,λi x v e1 e2 e3=> ?_⟩,λx d' e=> ?_,I.hok.fresh (by rw [hDe];exact hCle),λx d' e=> ?_,λp hp=> ?_,I.hok.kept old,?_⟩
  ·have hi:nt<=i:=by
    by_cases hi:i < nt
    ·have e2':σ0[i]? =some (some v):=e2;rw [List.getElem?_append_left (by simpa using hi),List.getElem?_replicate] at e2'
     split at e2' <;> cases e2'
    ·omega
   have e2':σ0[i]? =some (some v):=e2;rw [List.getElem?_append_right (by simpa using hi),List.getElem?_map,List.length_replicate] at e2';cases ej:caps[i - nt]? with
   | none=>rw [ej] at e2';cases e2'
   | some j=>
    rw [ej] at e2';have h1:(σ[j]?).join=some v:=by simpa using e2'
    have h2:σ[j]? =some (some v):=by
     cases q:σ[j]? with
     | none=>rw [q] at h1;cases h1
     | some o=>
      rw [q] at h1;have h1':o=some v:=h1;rw [h1']
    obtain ⟨y,ey,en,ek⟩:=cs.cap (i - nt) j ej;have exy:x=y:=by
     have:nt + (i - nt)=i:=by omega
     rw [this] at en;have e1':N[i]? =some x:=e1;rw [e1'] at en;exact Option.some.inj en
    subst exy;have kx:=cs.free (x,.free) (PySem.mem_of_lookup ek) rfl;have vis:Vis X.env.scope x:=by
     rcases kx with kx | kx
     ·exact .inr (.inl kx)
     ·exact .inr (.inr kx)
    obtain ⟨m,hn,hl⟩:=I.loc;obtain ⟨u,ru,lk⟩:=hl j x v ey h2 vis;refine ⟨u,ru,?_⟩;rcases lk with ⟨k1,_⟩ | ⟨k1,c1,ec,hcell⟩
    ·rcases kx with kx | kx
     ·rw [k1] at kx;cases kx
     ·rw [k1] at kx;cases kx
    ·refine .inr ⟨?_,c1,?_,?_⟩
     ·show (relabel scope X.env).names.lookup x=some .cell∨(relabel scope X.env).names.lookup x=some .free;rw [ZAy,ek];simp only [Option.map_some];split
      ·exact .inl rfl
      ·exact .inr rfl
     ·obtain ⟨d1,hd1⟩:=Qg (env:=X.env) (x:=x) (names:=scope.names) (cs:= []) (.inl (PySem.mem_of_lookup ek));obtain ⟨d2,hd2⟩:=Wl hd1;have:=cs.cl I.ok hd2;rw [ec] at this;cases this;exact hd2
     ·obtain ⟨o,e,dd⟩:=hcell;exact ⟨o,old _ _ e,dd⟩
  ·obtain ⟨v,o,e',dd⟩:=I.cell x d' (cs.cl I.ok e);exact ⟨v,o,old _ _ e',dd⟩
  ·exact I.Fb x d' (cs.cl I.ok e)
  ·exact absurd hp (by simp [B,blk])
  ·show σ0.length=N.length;rw [cs.len];simp [σ0]
 have rS0:RepS a (Ay nt caps S) σ0:=ZBj rS;have aD:a.H Dd=none:=I.hok.fresh (by rw [hDe];exact Nat.le_refl _);have young:∀b∈fp,b≠C:=λb hb z=>hCf (z ▸ hb)
 have fpB:∀{H':Hp} {ps:List (Addr×Obj)},(∀b∈fp,H' b=none)->(∀p∈ps,p.1 ∉ fp)->∀b∈fp,FpOk B ps H' b:=λ{H' ps} hn hps b hb=>
  ⟨hn b hb,young b hb,okB.exfs b hb,.inl hb,λx d' e=>(hf b hb).2.2.2.2.1 x d' (cs.cl I.ok e),λp hp z=>by
   have hp':p∈ps:=by simpa [B,blk] using hp
   exact hps p hp' (z ▸ hb)⟩
 have nstk:Dd ∉ frs X.stack:=λz=>by
  rcases List.mem_cons.mp (I.Oi Dd z) with z | z
  ·have:=I.lt;rw [hDe,<-z] at this;exact Nat.lt_irrefl _ this
  ·exact I.nofs (by rw [hDe];exact Nat.le_refl _) z
 have pinD:∀{σ':St} {H':Hp} {s':Shared} {its:List Value} {nD:Nat},Inv B [] σ' H' s'->s'.heap.get? Dd=some {cls:=.type "list",data:=.seq its.toArray nD}->H' Dd=none->Inv B [(Dd,{cls:=.type "list",data:=.seq its.toArray nD})] σ' H' s':=λ{σ' H' s' its nD} J e n=>
  J.Fj λp hp=>by
   have ep:p=(Dd,{cls:=.type "list",data:=.seq its.toArray nD}):=by simpa using hp
   subst ep;exact ⟨e,n,hDC,nstk,λv' z=>by cases z⟩
 have fin:∀(s':Shared) (b:Wd) (σ':St) (its:List Value) (ds:List D) (G':DH),Inv B [] σ' b.H s'->Ext a b->Sim b G'->s'.heap.PlainList Dd its.toArray->b.H Dd=none->(∃vs,Vals vs its/\Reps b ds vs)->out E0 b (Ax ds G') Q->RR (.ref Dd) C (.ok .next) s':=by
  intro s' b σ' its ds G' IB x sb pl hD ⟨vs,hv,rv⟩ hq;have hz:ds.length<=1000000:=by
   unfold Ax at hq;split at hq
   ·assumption
   ·exact hq.elim
  have Ix:Inv X pins σ b.H s':=I.call' IB.os IB.base IB.hok IB.bare λb hb=>⟨(hf b hb).2.2.2.1,(hf b hb).2.1,(hf b hb).2.2.2.2.1,(hf b hb).2.2.2.2.2⟩
  obtain ⟨n,eD⟩:=pl;have ylt:∀{q:Addr} {o:Obj},s.heap.get? q=some o->q≠Dd:=λe z=>by rw [z,<-hDe] at e;exact absurd (Heap.lt_size e) (Nat.lt_irrefl _)
  have Ia:Inv X pins σ (upd b.H Dd (.lst vs)) s':=by
   refine Yj Ix hD (by rw [<-hDe];exact I.sz) ?_ (λy c' ec=> ?_) (λp hp=> ?_) ⟨?_,its,n,hv,eD⟩
   ·rw [<-hDe];exact Nat.ne_of_gt I.lt
   ·obtain ⟨v,o,e,_⟩:=I.cell y c' ec;exact ylt e
   ·exact ylt (I.pin p hp).1
   ·rw [<-rv.length];exact Nat.le_trans hz size6
  refine hRR Dd C s' b vs Ia hD hCle hDC (let ⟨m,hn,_⟩:=IB.loc;⟨m,hn⟩) IB.free ?_;unfold Ax at hq;rw [if_pos hz] at hq;exact Pr sb rv hq Dd hD
 have turnX:∀(n:Nat) (P:Nat->Shared->Prop) (rest:DH->R (List D)) (s1:Shared) (b:Wd) (G1:DH) (σ1:St) (its:List Value) (acc:List D) (u:Value) (v:V) (x:D) (i:Nat),Inv B [] σ1 b.H s1->Ext a b->Sim b G1->RepS b (Ay nt caps S) σ1->tn i s1.heap->(∀q∈fp,b.H q=none)->
   s1.heap.PlainList Dd its.toArray->b.H Dd=none->(∃vs,Vals vs its/\Reps b acc vs)->RelV v u->Rep b x v->
   out E0 b (((g x (Ay nt caps S) G1).bind λS1 G1=>(c S1 G1).bind λk G2=>if k=true then (te S1 G2).bind λd G3=>(rest G3).bind λds G4=>.ok (d::ds) G4 else rest G2).bind λds G=>Ax (acc++ds) G) Q->
   (∀(s2:Shared) (b2:Wd) (G2:DH) (σ2:St) (its2:List Value) (acc2:List D),Inv B [] σ2 b2.H s2->Ext a b2->Sim b2 G2->RepS b2 (Ay nt caps S) σ2->tn i s2.heap->(∀q∈fp,b2.H q=none)->
    s2.heap.PlainList Dd its2.toArray->b2.H Dd=none->(∃vs,Vals vs its2/\Reps b2 acc2 vs)->out E0 b2 ((rest G2).bind λds G=>Ax (acc2++ds) G) Q->∃m,m < n/\P m s2)->
   wpAny (model X.prog X.w) X.A (assign tg B.env u) (λ_ s₂=>
     wpAny (model X.prog X.w) X.A (forIn ifs true λc r=>if r=true then do let ok<-isTrue c B.env (eval c B.env);pure (ForInStep.yield ok) else pure (ForInStep.yield r)) (λok s₃=>
      if ok=true then wpAny (model X.prog X.w) X.A (eval elt B.env) (λx s₄=>
       wpAny (model X.prog X.w) X.A (call (.builtin "list.append") [.ref Dd,x]) (λ_ s₅=>∃m,m < n/\P m s₅) (λ_ _=>False) s₄) (λ_ _=>False) s₃
      else∃m,m < n/\P m s₃) (λ_ _=>False) s₂) (λ_ _=>False) s1:=by
  intro n P rest s1 b G1 σ1 its acc u v x i I1 x1 sb rSb t1 hfp pl hD hacc' ru rx hq next
  rw [R.bind_assoc] at hq;obtain ⟨nD,eD⟩:=id pl;let pinD:List (Addr×Obj):= [(Dd,{cls:=.type "list",data:=.seq its.toArray nD})];have pinOk:∀{σ':St} {H':Hp} {s':Shared},Inv B (pinD++Kl fp s1.heap) σ' H' s'->s'.heap.PlainList Dd its.toArray/\H' Dd=none/\tn i s'.heap/\∀q∈fp,H' q=none:=λ{σ' H' s'} J=>by
   have p1:=J.pin (Dd,{cls:=.type "list",data:=.seq its.toArray nD}) (List.mem_append_right _ (List.mem_append_left _ (by simp [pinD])));refine ⟨⟨nD,p1.1⟩,p1.2.1,T.keep _ _ _ t1 λq hq' o e=>(J.pin (q,o) (List.mem_append_right _ (List.mem_append_right _ (R5 hq' e)))).1,λq hq'=> ?_⟩;obtain ⟨o,e,_⟩:=T.obj _ _ t1 q hq';exact (J.pin (q,o) (List.mem_append_right _ (List.mem_append_right _ (R5 hq' e)))).2.1
  have I2:Inv B (pinD++Kl fp s1.heap) σ1 b.H s1:=I1.Fj λp hp=>by
   rcases List.mem_append.mp hp with hp | hp
   ·have e:p=(Dd,{cls:=.type "list",data:=.seq its.toArray nD}):=by simpa [pinD] using hp
    subst e;refine ⟨eD,hD,hDC,λz=> ?_,λv' z=>by cases z⟩;exact nstk z
   ·obtain ⟨hb,e⟩:=ZBN hp;obtain ⟨f0,f1,f2,_⟩:=fpB (ps:= []) hfp (λp hp=>by cases hp) p.1 hb;obtain ⟨o,e',dd⟩:=T.obj _ _ t1 p.1 hb;rw [e] at e';cases e';exact ⟨e,f0,f1,f2,dd⟩
  refine thn (hg C s a.H fp _ s1 σ1 b.H v u _ I2 ru ⟨b,Ay nt caps S,G1,x,x1.k.trans hk,rfl,sb,rSb,rx,(ZCl hq).imp λ_ _ z=>z⟩) ?_;rintro _ s2 ⟨σ2,H2',J2,b2,S2,G2,rfl,y2,sb2,rS2,eg,hq2⟩;rw [R.bind_assoc] at hq2;have rS2':RepS b2 (Ay nt caps S) σ2:=⟨by have h1:=J2.len;have h2:σ1.length=N.length:=I1.len;rw [rSb.len,h2];exact h1.symm,λj e' hj=>rS2.get j e' (gk _ _ _ _ _ eg j e' (ZC3 hj) hj)⟩
  refine thn (hts C s a.H fp _ s2 σ2 b2.H _ J2 ⟨b2,S2,G2,y2.k.trans (x1.k.trans hk),rfl,sb2,rS2,(ZCK hq2).imp λ_ _ z=>z⟩) ?_;rintro k s3 ⟨H3,J3,b3,G3,rfl,y3,sb3,_,hq3⟩;cases k with
  | false=>
   obtain ⟨p1,p2,p3,p4⟩:=pinOk J3;have Jn:Inv B [] σ2 b3.H s3:=J3.Fj λp hp=>by cases hp
   obtain ⟨vs,hv,rv⟩:=hacc'
   exact next s3 b3 G3 σ2 its acc Jn (x1.trans (y2.trans y3)) sb3 (rS2'.mono y3) p3 p4 p1 p2 ⟨vs,hv,(rv.mono y2).mono y3⟩ hq3
  | true=>
   have hq3':out E0 b3 (((te S2 G3).bind λd G3=>(rest G3).bind λds G4=>.ok (d::ds) G4).bind λds G=>Ax (acc++ds) G) Q:=hq3;rw [R.bind_assoc] at hq3';refine thn (he C s a.H fp _ s3 σ2 b3.H _ J3 ⟨b3,S2,G3,y3.k.trans (y2.k.trans (x1.k.trans hk)),rfl,sb3,rS2.mono y3,(Gk hq3').imp λ_ _ z=>z⟩) ?_;rintro w s4 ⟨vw,H4,J4,rw',b4,d4,G4,rfl,y4,sb4,q4,_,hq4⟩;obtain ⟨p1,p2,p3,p4⟩:=pinOk J4;rw [R.bind_assoc] at hq4
   have hq4':out E0 b4 ((rest G4).bind λds G=>Ax ((acc++ [d4])++ds) G) Q:=by
    have e:(λ(ds:List D) (G:DH)=>(R.ok (d4::ds) G).bind λds G=>Ax (acc++ds) G)=λds G=>Ax ((acc++ [d4])++ds) G:=by funext ds G;simp
    rw [<-e];exact hq4
   obtain ⟨vs,hv,rv⟩:=hacc';have hsz:its.toArray.size<=sizeLine:=by
    have:acc.length<=1000000:=by
     cases hr:rest G4 with
     | ok ds G5=>
      rw [hr] at hq4';have hq5:out E0 b4 (Ax ((acc++ [d4])++ds) G5) Q:=hq4';unfold Ax at hq5;split at hq5
      ·rename_i hl;simp at hl;omega
      ·exact hq5.elim
     | err e' G5=>rw [hr] at hq4';exact hq4'.elim
     | bad=>rw [hr] at hq4';exact hq4'.elim
    rw [List.size_toArray,<-hv.length,<-rv.length];exact Nat.le_trans this size6
   refine wpAny_list_append_plain p1 (λh' hpl hsb=> ?_) hsz;have Jn:Inv B [] σ2 b4.H s4:=J4.Fj λp hp=>by cases hp
   have J5:Inv B [] σ2 b4.H {s4 with heap:=h'}:=by refine Jn.turned (it:=Dd) (t':=s4.toks) (λq o hq' e=>(hsb.2 q hq').trans e) p2 hDC (.inr (by show s.heap.objs.size<=Dd;rw [hDe];exact Nat.le_refl _)) (λy c' ec=> ?_) (λp hp=>absurd hp (by simp [B,blk]));obtain ⟨v',o,e,_⟩:=I.cell y c' (cs.cl I.ok ec);intro z;rw [z,<-hDe] at e;exact absurd (Heap.lt_size e) (Nat.lt_irrefl _)
   refine next _ b4 G4 σ2 (its++ [w]) (acc++ [d4]) J5 (x1.trans (y2.trans (y3.trans y4))) sb4 ((rS2'.mono y3).mono y4) (T.keep _ _ _ p3 λq hq' o e=>(hsb.2 q (λz=>hDf (z ▸ hq'))).trans e) p4 (by simpa using hpl) p2 ⟨vs++ [vw],hv.append (.cons rw' .nil),(((rv.mono y2).mono y3).mono y4).append (Reps.cons q4 Reps.nil)⟩ hq4'
 have loop:∀s₃:Shared,s₃={s with heap:=h₁,toks:=s.toks + ([]:List (Str×Value)).length}->
   codeAny (model X.prog X.w) X.A (.compLoop (.ListComp elt [⟨tg,iter,ifs,0⟩] scope pos) 0 (.ref i0) (.ref Dd) B.env) (RR (.ref Dd) C) s₃:=by
  rintro s₃ rfl;have t1:tn 0 h₁:=T.keep _ _ _ t0 λq _ o e=>old q o e
  have fp0:∀q∈fp,a.H q=none:=λq hq=>(hf q hq).1
  cases d with
  | pure xs=>
   obtain ⟨vs,rv,walk⟩:=rJ;refine Tr (λm s'=>∃(i:Nat) (b:Wd) (G':DH) (σ':St) (its:List Value) (acc:List D),m=vs.length - i/\i<=vs.length/\Inv B [] σ' b.H s'/\Ext a b/\Sim b G'/\RepS b (Ay nt caps S) σ'/\tn i s'.heap/\(∀q∈fp,b.H q=none)/\s'.heap.PlainList Dd its.toArray/\b.H Dd=none/\(∃vs,Vals vs its/\Reps b acc vs)/\
    out E0 b ((Bx g c te (Ay nt caps S) (xs.drop i) G').bind λds G=>Ax (acc++ds) G) Q) ?_ vs.length ⟨0,a,G,σ0,[],[],rfl,Nat.zero_le _,start _,Ext.refl a,sm,rS0,t1,fp0,hacc,aD,⟨[],.nil,rfl⟩,by simpa using h⟩
   rintro m s' ⟨i,b,G',σ',its,acc,rfl,hi,IB,x,sb,rSb,ti,hfp,pl,hD,hac,hq⟩;by_cases hl:i < vs.length
   ·have e1:vs[i]? =some vs[i]:=List.getElem?_eq_getElem hl;obtain ⟨d1,e2,rd⟩:=rv.get' e1;have hd:xs.drop i=d1::xs.drop (i + 1):=by
     have hlx:i < xs.length:=(List.getElem?_eq_some_iff.mp e2).1;rw [List.drop_eq_getElem_cons hlx]
     congr 1
     exact (List.getElem?_eq_some_iff.mp e2).2
    rw [hd] at hq;obtain ⟨go,yl⟩:=(walk b x i).1 _ e1;obtain ⟨nD,eD⟩:=pl;refine thn (T.item B rfl rfl rfl hc i _ s' σ' b.H _ (pinD IB eD hD) (fpB hfp (λp hp=>by
     have ep:p=(Dd,{cls:=.type "list",data:=.seq its.toArray nD}):=by simpa using hp
     subst ep;exact hDf)) ti go) ?_
    rintro r s1 ⟨u,rfl,hgo⟩;refine thn hgo ?_;rintro _ s2 ⟨v,H',I2,ru,y,t2,hfp2⟩;obtain ⟨rfl,rfl⟩:=yl v H' y;have pD:=(I2.pin (Dd,{cls:=.type "list",data:=.seq its.toArray nD}) (List.mem_append_right _ (by simp))).1;refine turnX _ _ (λG3=>Bx g c te (Ay nt caps S) (xs.drop (i + 1)) G3) s2 b G' σ' its acc u _ d1 (i + 1) (I2.Fj λp hp=>by cases hp) x sb rSb t2 hfp2 ⟨nD,pD⟩ hD hac ru (rd.mono x) hq ?_
    ·intro s3 b3 G3 σ3 its3 acc3 a1 a2 a3 a4 a5 a6 a7 a8 a9 a10;exact ⟨vs.length - (i + 1),by omega,i + 1,b3,G3,σ3,its3,acc3,rfl,hl,a1,a2,a3,a4,a5,a6,a7,a8,a9,a10⟩
   ·have e:i=vs.length:=by omega
    have hd:xs.drop i= []:=by rw [List.drop_eq_nil_iff,rv.length];omega
    rw [hd] at hq;have hq':out E0 b (Ax (acc++ []) G') Q:=hq;rw [List.append_nil] at hq';obtain ⟨nD,eD⟩:=pl;refine thn (T.done B rfl rfl rfl hc i _ s' σ' b.H _ (pinD IB eD hD) (fpB hfp (λp hp=>by
     have ep:p=(Dd,{cls:=.type "list",data:=.seq its.toArray nD}):=by simpa using hp
     subst ep;exact hDf)) ti ((walk b x i).2 (by omega))) ?_
    rintro r s1 ⟨rfl,I2⟩;have pD:=(I2.pin (Dd,{cls:=.type "list",data:=.seq its.toArray nD}) (List.mem_append_right _ (by simp))).1;exact fin s1 b σ' its acc G' (I2.Fj λp hp=>by cases hp) x sb ⟨nD,pD⟩ hD hac hq'
  | mt k=>
   obtain ⟨hkn,walk⟩:=rJ;dsimp only at h;split at h
   ·rename_i xs0 hx0;refine Tr (λm s'=>∃(i:Nat) (b:Wd) (G':DH) (σ':St) (its:List Value) (acc:List D),Inv B [] σ' b.H s'/\Ext a b/\Sim b G'/\RepS b (Ay nt caps S) σ'/\tn i s'.heap/\(∀q∈fp,b.H q=none)/\s'.heap.PlainList Dd its.toArray/\b.H Dd=none/\(∃vs,Vals vs its/\Reps b acc vs)/\
     out E0 b ((Do k g c te (Ay nt caps S) m i G').bind λds G=>Ax (acc++ds) G) Q) ?_ xs0.length ⟨0,a,G,σ0,[],[],start _,Ext.refl a,sm,rS0,t1,fp0,hacc,aD,⟨[],.nil,rfl⟩,by simpa using h⟩
    rintro m s' ⟨i,b,G',σ',its,acc,IB,x,sb,rSb,ti,hfp,pl,hD,hac,hq⟩;obtain ⟨nD,eD⟩:=pl;have I0:=pinD IB eD hD;have f0:=fpB (ps:= [(Dd,{cls:=.type "list",data:=.seq its.toArray nD})]) hfp (λp hp=>by
     have ep:p=(Dd,{cls:=.type "list",data:=.seq its.toArray nD}):=by simpa using hp
     subst ep;exact hDf)
    have stop:J.stop i b.H->out E0 b (Ax acc G') Q->wpAny (model X.prog X.w) X.A (pyNext (.ref i0)) (λr s₁=>match r with
      | none=>RR (.ref Dd) C (.ok .next) s₁
      | some v=>wpAny (model X.prog X.w) X.A (letOwnedTupleGo tg (.ref i0) v) (λ_ s₁=>wpAny (model X.prog X.w) X.A (assign tg B.env v) (λ_ s₂=>
       wpAny (model X.prog X.w) X.A (forIn ifs true λc r=>if r=true then do let ok<-isTrue c B.env (eval c B.env);pure (ForInStep.yield ok) else pure (ForInStep.yield r)) (λok s₃=>
        if ok=true then wpAny (model X.prog X.w) X.A (eval elt B.env) (λx s₄=>
         wpAny (model X.prog X.w) X.A (call (.builtin "list.append") [.ref Dd,x]) (λ_ s₅=>∃m',m' < m/\∃(i:Nat) (b:Wd) (G':DH) (σ':St) (its:List Value) (acc:List D),Inv B [] σ' b.H s₅/\Ext a b/\Sim b G'/\RepS b (Ay nt caps S) σ'/\tn i s₅.heap/\(∀q∈fp,b.H q=none)/\s₅.heap.PlainList Dd its.toArray/\b.H Dd=none/\(∃vs,Vals vs its/\Reps b acc vs)/\
          out E0 b ((Do k g c te (Ay nt caps S) m' i G').bind λds G=>Ax (acc++ds) G) Q) (λ_ _=>False) s₄) (λ_ _=>False) s₃
        else∃m',m' < m/\∃(i:Nat) (b:Wd) (G':DH) (σ':St) (its:List Value) (acc:List D),Inv B [] σ' b.H s₃/\Ext a b/\Sim b G'/\RepS b (Ay nt caps S) σ'/\tn i s₃.heap/\(∀q∈fp,b.H q=none)/\s₃.heap.PlainList Dd its.toArray/\b.H Dd=none/\(∃vs,Vals vs its/\Reps b acc vs)/\
          out E0 b ((Do k g c te (Ay nt caps S) m' i G').bind λds G=>Ax (acc++ds) G) Q) (λ_ _=>False) s₂) (λ_ _=>False) s₁) (λ_ _=>False) s₁) (λ_ _=>False) s':=by
     intro st hq';refine thn (T.done B rfl rfl rfl hc i _ s' σ' b.H _ I0 f0 ti st) ?_;rintro r s1 ⟨rfl,I2⟩;have pD:=(I2.pin (Dd,{cls:=.type "list",data:=.seq its.toArray nD}) (List.mem_append_right _ (by simp))).1;exact fin s1 b σ' its acc G' (I2.Fj λp hp=>by cases hp) x sb ⟨nD,pD⟩ hD hac hq'
    cases m with
    | zero=>
     unfold Do at hq;split at hq
     ·rename_i xs hx;obtain ⟨vs,e1,rv⟩:=sb.lst hx;split at hq
      ·rename_i hl;exact stop ((walk b x vs e1 i).2 (by rw [<-rv.length];exact hl)) (by have hq':out E0 b (Ax (acc++ []) G') Q:=hq;rw [List.append_nil] at hq';exact hq')
      ·exact hq.elim
     ·exact hq.elim
    | succ m=>
     unfold Do at hq;split at hq
     ·rename_i xs hx;obtain ⟨vs,e1,rv⟩:=sb.lst hx;split at hq
      ·rename_i d1 hd1;obtain ⟨v1,ev,rd⟩:=rv.get hd1;obtain ⟨go,yl⟩:=(walk b x vs e1 i).1 v1 ev;refine thn (T.item B rfl rfl rfl hc i _ s' σ' b.H _ I0 f0 ti go) ?_;rintro r s1 ⟨u,rfl,hgo⟩;refine thn hgo ?_;rintro _ s2 ⟨v,H',I2,ru,y,t2,hfp2⟩;obtain ⟨rfl,rfl⟩:=yl v H' y;have pD:=(I2.pin (Dd,{cls:=.type "list",data:=.seq its.toArray nD}) (List.mem_append_right _ (by simp))).1;refine turnX _ _ (λG3=>Do k g c te (Ay nt caps S) m (i + 1) G3) s2 b G' σ' its acc u _ d1 (i + 1) (I2.Fj λp hp=>by cases hp) x sb rSb t2 hfp2 ⟨nD,pD⟩ hD hac ru rd hq ?_
       intro s3 b3 G3 σ3 its3 acc3 a1 a2 a3 a4 a5 a6 a7 a8 a9 a10;exact ⟨m,Nat.lt_succ_self _,i + 1,b3,G3,σ3,its3,acc3,a1,a2,a3,a4,a5,a6,a7,a8,a9,a10⟩
      ·rename_i hd1;have hl:xs.length<=i:=List.getElem?_eq_none_iff.mp hd1;exact stop ((walk b x vs e1 i).2 (by rw [<-rv.length];exact hl)) (by have hq':out E0 b (Ax (acc++ []) G') Q:=hq;rw [List.append_nil] at hq';exact hq')
     ·exact hq.elim
   ·exact h.elim
  | fn n0 f=>
   have walk:∀b:Wd,Ext a b->∀G,Sim b G->∀i,(∀d,f i G=some (some d)->J.go i b.H/\∀x H',J.yld i b.H x H'->∃c:Wd,c.H=H'/\Ext b c/\Sim c G/\Rep c d x)/\(f i G=some none->J.stop i b.H):=rJ;dsimp only at h;refine Tr (λm s'=>∃(i:Nat) (b:Wd) (G':DH) (σ':St) (its:List Value) (acc:List D),Inv B [] σ' b.H s'/\Ext a b/\Sim b G'/\RepS b (Ay nt caps S) σ'/\tn i s'.heap/\(∀q∈fp,b.H q=none)/\s'.heap.PlainList Dd its.toArray/\b.H Dd=none/\(∃vs,Vals vs its/\Reps b acc vs)/\
    out E0 b ((Dy f g c te (Ay nt caps S) m i G').bind λds G=>Ax (acc++ds) G) Q) ?_ n0 ⟨0,a,G,σ0,[],[],start _,Ext.refl a,sm,rS0,t1,fp0,hacc,aD,⟨[],.nil,rfl⟩,by simpa using h⟩
   rintro m s' ⟨i,b,G',σ',its,acc,IB,x,sb,rSb,ti,hfp,pl,hD,hac,hq⟩;obtain ⟨nD,eD⟩:=pl;have I0:=pinD IB eD hD;have f0:=fpB (ps:= [(Dd,{cls:=.type "list",data:=.seq its.toArray nD})]) hfp (λp hp=>by
    have ep:p=(Dd,{cls:=.type "list",data:=.seq its.toArray nD}):=by simpa using hp
    subst ep;exact hDf)
   have stop:J.stop i b.H->out E0 b (Ax acc G') Q->wpAny (model X.prog X.w) X.A (pyNext (.ref i0)) (λr s₁=>match r with
     | none=>RR (.ref Dd) C (.ok .next) s₁
     | some v=>wpAny (model X.prog X.w) X.A (letOwnedTupleGo tg (.ref i0) v) (λ_ s₁=>wpAny (model X.prog X.w) X.A (assign tg B.env v) (λ_ s₂=>
      wpAny (model X.prog X.w) X.A (forIn ifs true λc r=>if r=true then do let ok<-isTrue c B.env (eval c B.env);pure (ForInStep.yield ok) else pure (ForInStep.yield r)) (λok s₃=>
       if ok=true then wpAny (model X.prog X.w) X.A (eval elt B.env) (λx s₄=>
        wpAny (model X.prog X.w) X.A (call (.builtin "list.append") [.ref Dd,x]) (λ_ s₅=>∃m',m' < m/\∃(i:Nat) (b:Wd) (G':DH) (σ':St) (its:List Value) (acc:List D),Inv B [] σ' b.H s₅/\Ext a b/\Sim b G'/\RepS b (Ay nt caps S) σ'/\tn i s₅.heap/\(∀q∈fp,b.H q=none)/\s₅.heap.PlainList Dd its.toArray/\b.H Dd=none/\(∃vs,Vals vs its/\Reps b acc vs)/\
         out E0 b ((Dy f g c te (Ay nt caps S) m' i G').bind λds G=>Ax (acc++ds) G) Q) (λ_ _=>False) s₄) (λ_ _=>False) s₃
       else∃m',m' < m/\∃(i:Nat) (b:Wd) (G':DH) (σ':St) (its:List Value) (acc:List D),Inv B [] σ' b.H s₃/\Ext a b/\Sim b G'/\RepS b (Ay nt caps S) σ'/\tn i s₃.heap/\(∀q∈fp,b.H q=none)/\s₃.heap.PlainList Dd its.toArray/\b.H Dd=none/\(∃vs,Vals vs its/\Reps b acc vs)/\
         out E0 b ((Dy f g c te (Ay nt caps S) m' i G').bind λds G=>Ax (acc++ds) G) Q) (λ_ _=>False) s₂) (λ_ _=>False) s₁) (λ_ _=>False) s₁) (λ_ _=>False) s':=by
    intro st hq';refine thn (T.done B rfl rfl rfl hc i _ s' σ' b.H _ I0 f0 ti st) ?_;rintro r s1 ⟨rfl,I2⟩;have pD:=(I2.pin (Dd,{cls:=.type "list",data:=.seq its.toArray nD}) (List.mem_append_right _ (by simp))).1;exact fin s1 b σ' its acc G' (I2.Fj λp hp=>by cases hp) x sb ⟨nD,pD⟩ hD hac hq'
   cases m with
   | zero=>
    unfold Dy at hq;split at hq
    ·rename_i hf;exact stop ((walk b x G' sb i).2 hf) (by have hq':out E0 b (Ax (acc++ []) G') Q:=hq;rw [List.append_nil] at hq';exact hq')
    ·exact hq.elim
   | succ m=>
    unfold Dy at hq;split at hq
    ·rename_i d1 hf;obtain ⟨go,yl⟩:=(walk b x G' sb i).1 d1 hf;refine thn (T.item B rfl rfl rfl hc i _ s' σ' b.H _ I0 f0 ti go) ?_;rintro r s1 ⟨u,rfl,hgo⟩;refine thn hgo ?_;rintro _ s2 ⟨v,H',I2,ru,y,t2,hfp2⟩;obtain ⟨cc,rfl,xx,ss,rd⟩:=yl v H' y;have pD:=I2.pin (Dd,{cls:=.type "list",data:=.seq its.toArray nD}) (List.mem_append_right _ (by simp));obtain ⟨vs1,hv1,rv1⟩:=hac;refine turnX _ _ (λG3=>Dy f g c te (Ay nt caps S) m (i + 1) G3) s2 cc G' σ' its acc u _ d1 (i + 1) (I2.Fj λp hp=>by cases hp) (x.trans xx) ss (rSb.mono xx) t2 hfp2 ⟨nD,pD.1⟩ pD.2.1 ⟨vs1,hv1,rv1.mono xx⟩ ru rd (out.mono xx hq) ?_
     intro s3 b3 G3 σ3 its3 acc3 a1 a2 a3 a4 a5 a6 a7 a8 a9 a10;exact ⟨m,Nat.lt_succ_self _,i + 1,b3,G3,σ3,its3,acc3,a1,a2,a3,a4,a5,a6,a7,a8,a9,a10⟩
    ·rename_i hf;exact stop ((walk b x G' sb i).2 hf) (by have hq':out E0 b (Ax (acc++ []) G') Q:=hq;rw [List.append_nil] at hq';exact hq')
    ·exact hq.elim
 exact codeAny_compStart_list (loop _ rfl) (T.self _ 0 _ _ _ (T.keep _ _ _ t0 λq _ o e=>old q o e) (loop _ rfl))
end
section
variable {X:Cx} {N:List Str} {scope:Scope} {nt:Nat} {caps:List Nat} {tg elt iter:Expr} {ifs:List Expr} {pos:Pos} {it:DI} {g:DG} {c:DB} {te:DE}
theorem letGo {pins:List (Addr×Obj)} {s2 s':Shared} {h':Heap} {C:Addr} {t':Nat} {σ2:St} {H2:Hp} (I2:Inv X pins σ2 H2 s2) (Ia:Inv X pins σ H s') (hC:s2.heap.objs.size<=C) (hn:H C=none) (hsb:Heap.SameBut C s'.heap h'):Inv X pins σ H {s' with heap:=h',toks:=t'}:=by
 have young:∀{b:Addr} {o:Obj},s2.heap.get? b=some o->b≠C:=λe z=>by rw [z] at e;exact absurd (Nat.lt_of_lt_of_le (Heap.lt_size e) hC) (Nat.lt_irrefl _)
 refine Ia.turned (it:=C) (λb o hb e=>(hsb.2 b hb).trans e) hn (Nat.ne_of_gt (Nat.lt_of_lt_of_le I2.lt hC)) (.inr (Nat.le_trans I2.sz hC)) (λx c' e=> ?_) λp hp=> ?_
 ·obtain ⟨v,o,e',_⟩:=I2.cell x c' e;exact young e'
 ·exact young (I2.pin p hp).1
theorem Gx (hc:X.calm=true) (cs:CompSc X N scope nt caps) (hi:QI X E0 tg iter it)
  (hg:∀C s₀ H₀ ex,QG (blk X N scope C s₀ H₀ ex) E0 tg g) (gk:GK nt g) (hts:∀C s₀ H₀ ex,QTs (blk X N scope C s₀ H₀ ex) E0 ifs c) (he:∀C s₀ H₀ ex,QE (blk X N scope C s₀ H₀ ex) E0 elt te)
  (hs:∀x,foldedSetIterable iter X.env x=pure x:=by intro _;rfl):QE X E0 (.ListComp elt [⟨tg,iter,ifs,0⟩] scope pos) (Dw it nt caps g c te):=by
 intro pins s σ H Q I h;obtain ⟨a,S,G,hk,rfl,sm,r,h⟩:=h;rw [eval_ListComp];refine wpAny_comprehension_free (use:=none) rfl hs (ZBR (cs.cells I.ok)) cs.kind cs.names (thn (hi pins s σ a.H _ I ⟨a,S,G,hk,rfl,sm,r,(Z6 h).imp λ_ _ z=>z⟩) λxv s1 h1=>thn h1 λitv s2 h2=> ?_);obtain ⟨i0,fp,tn,J,H2,rfl,I2,T,t0,f2,b,d,G1,rfl,x,sb,rJ,_,h1⟩:=h2;refine ZAj hc cs hg gk hts he I2 (x.k.trans hk) sb (r.mono x) T t0 f2 rJ h1 (RR:=λacc C=>compPost (model X.prog X.w) X.A X.xe none (EP X pins σ Q) acc C) ?_
 intro D C s' b vs Ia hD hCle hDC ⟨m,hn⟩ hCn hq;refine ⟨m,hn,λh' hsb=>⟨.ref D,_,letGo I2 Ia hCle ?_ hsb,rfl,hq⟩⟩;rw [Az (Ne.symm hDC)];exact hCn
theorem W9 (i:Nat) {y:Str} {py spos:Pos} (hc:X.calm=true) (hN:X.N.Nodup) (cs:CompSc X N scope nt caps) (hi:QI X E0 tg iter it)
  (hg:∀C s₀ H₀ ex,QG (blk X N scope C s₀ H₀ ex) E0 tg g) (gk:GK nt g) (hts:∀C s₀ H₀ ex,QTs (blk X N scope C s₀ H₀ ex) E0 ifs c) (he:∀C s₀ H₀ ex,QE (blk X N scope C s₀ H₀ ex) E0 elt te)
  (hy:X.N[i]? =some y:=by rfl) (hx:Loc X.env.scope y:=by first | exact Or.inl rfl | exact Or.inr rfl) (hf:X.fn y=true∨X.env.scope.names.lookup y=some .local:=by first | exact .inl rfl | exact .inr rfl | assumption)
  (hsw:swapsWith (.ListComp elt [⟨tg,iter,ifs,0⟩] scope pos) (some (.Name y py)) spos.line X.env=pure true:=by rfl)
  (hs:∀x,foldedSetIterable iter X.env x=pure x:=by intro _;rfl):QS X E0 (.Assign [.Name y py] (.ListComp elt [⟨tg,iter,ifs,0⟩] scope pos) spos) (sAs (Dw it nt caps g c te) (gV i)):=by
 intro pins s σ H W I h;obtain ⟨a,S,G,hk,rfl,sm,r,h⟩:=h;have h0:=Nb h;rw [exec_Assign_Name_used _ _ _ _ hsw];refine wpAny_bind (wpAny_standAt (wpAny_bind ?_))
 show wpAny _ X.A (do let _<-comprehension (.ListComp elt [⟨tg,iter,ifs,0⟩] scope pos) scope X.env _ (newList []) false (eval iter X.env) (some (assign (.Name y py) X.env))) _ _ s
 refine wpAny_bind (wpAny_mono (wpAny_comprehension_free (use:=some (assign (.Name y py) X.env)) (Q:=λ_ s'=>SP X pins W .next s') rfl hs (ZBR (cs.cells I.ok)) cs.kind cs.names
  (thn (hi pins s σ a.H _ I ⟨a,S,G,hk,rfl,sm,r,(Z6 h0).imp λ_ _ z=>z⟩) λxv s1 h1=>thn h1 λitv s2 h2=> ?_)) (λ_ s' hq=>wpAny_pure (wpAny_pure hq)) λ_ _ e=>e)
 obtain ⟨i0,fp,tn,J,H2,rfl,I2,T,t0,f2,b,d,G1,rfl,x,sb,rJ,_,h1⟩:=h2
 refine ZAj hc cs hg gk hts he I2 (x.k.trans hk) sb (r.mono x) T t0 f2 rJ h1 (RR:=λacc C=>compPost (model X.prog X.w) X.A X.xe (some (assign (.Name y py) X.env)) (λ_ s'=>SP X pins W .next s') acc C) ?_
 intro D C s' b' vs Ia hD hCle hDC ⟨m,hn⟩ hCn hq;show wpAny _ X.A (assign (.Name y py) X.env (.ref D)) _ _ _;refine wpAny_assign_Name (ZBT Ia hN hy hx (v:=.ref D) rfl (λs'' I'' hch=> ?_) hf);obtain ⟨a',hsb',ha'⟩:=hch;have hCa:C≠a':=by
  rintro rfl;rcases ha' with rfl | ha'
  ·exact absurd (Nat.lt_of_lt_of_le I2.lt hCle) (Nat.lt_irrefl _)
  ·obtain ⟨v,o,e',_⟩:=I2.cell _ _ ha';exact absurd (Nat.lt_of_lt_of_le (Heap.lt_size e') hCle) (Nat.lt_irrefl _)
 refine ⟨m,hn.sameBut hsb' hCa,λh' hsb=>⟨_,_,letGo I2 I'' hCle ?_ hsb,?_⟩⟩
 ·rw [Az (Ne.symm hDC)];exact hCn
 ·obtain ⟨b3,d3,G3,e3,x3,s3,q3,_,h3⟩:=hq;rw [<-e3];exact h3 b3 _ (Ext.refl b3) s3 ((r.mono x3).set i q3)
end
def Vn:D->DH->R D
 | .int i,G=>.ok (.int (-i)) G
 | _,_=>.bad
def Jw:D->Bool
 | .non=>true
 | _=>false
def opIs:D->D->DH->R D
 | d,.non,G=>.ok (.bl (Jw d)) G
 | _,_,_=>.bad
def W6:D->D->DH->R D
 | d,.non,G=>.ok (.bl (!Jw d)) G
 | _,_,_=>.bad
def Mz:D->Option V
 | .non=>some .non
 | .bl b=>some (.bl b)
 | .int i=>some (.int i)
 | .str x=>some (.str x)
 | _=>none
def Gz:List D->Option (List V)
 | []=>some []
 | d::r=>match Mz d,Gz r with
  | some v,some vs=>some (v::vs)
  | _,_=>none
def inD (d e:D) (G:DH):Option Bool:=match e with
 | .str j=>match d with
  | .str i=>some (!(Builtin.Str.occurrences j i 0 j.length 1).isEmpty)
  | _=>none
 | e=>match Bf e G,Mz d with
  | some xs,some v=>(Gz xs).map λvs=>inV v vs
  | _,_=>none
def opIn (d e:D) (G:DH):R D:=match inD d e G with
 | some k=>.ok (.bl k) G
 | none=>.bad
def Lh (d e:D) (G:DH):R D:=match inD d e G with
 | some k=>.ok (.bl (!k)) G
 | none=>.bad
section
variable {X:Cx} {E:XK} {a b:Expr} {ta tb:DE} {pos:Pos}
theorem ZET:UnR X (unaryOp .USub) (lR1 X.K E Vn):=λpins s σ H x v Q I rx h=>by
 obtain ⟨a,G,d,hk,rfl,sm,rd,q⟩:=h;cases d with
 | int i=>exact ZDm pins s σ a.H x v Q I rx ⟨i,rd,q a _ (Ext.refl a) sm rfl⟩
 | _=>exact q.elim
theorem ZDS {op:UnaryOp} {f:D->DH->R D} (ho:UnR X (unaryOp op) (lR1 X.K E f)) (ha:QE X E a ta):QE X E (.UnaryOp op a pos) (dUn f ta):=(ZEr ho ha).mono λσ H Q h=>by obtain ⟨a,S,G,hk,rfl,s,r,h⟩:=h;refine ⟨a,S,G,hk,rfl,s,r,(Gk h).imp ?_⟩;rintro v _ ⟨b,d,G1,rfl,x,s1,q,-,h1⟩;exact ⟨b,G1,d,x.k.trans hk,rfl,s1,q,h1⟩
theorem ZAB {n:String} (hg:Gl X x) (hm:X.mg x=none) (hv:bootBuiltins x=some (.type n)) (hn:x≠"__name__":=by decide) (hd:(x == ("__debug__":Str))=false:=by decide):QE X E (.Name x pos) (dC (.ty n)):=
 (ZE1 (v:=.ty n) hg hm hv rfl hn hd).mono λσ H Q h=>Ji h λ_ _=>rfl
theorem ZBZ {a:Wd} {x:V} (rd:Rep a d x):decide (x=V.non)=Jw d:=by
 cases d with
 | non=>rw [show x=V.non from rd];rfl
 | bl _=>rw [show x=V.bl _ from rd];rfl
 | int _=>rw [show x=V.int _ from rd];rfl
 | str _=>rw [show x=V.str _ from rd];rfl
 | ty _=>rw [show x=V.ty _ from rd];rfl
 | tup _=>obtain ⟨p,vs,rfl,_⟩:=rd;rfl
 | fl _=>obtain ⟨p,vs,rfl,_⟩:=rd;rfl
 | ref _=>rw [rd.2];rfl
theorem ZFj:OpR X (compareOp .IsNot) (lR2 X.K E W6):=Fy ZBY λa G d e x y Q hk s rd re q=>by
 cases e with
 | non=>exact ⟨re,by rw [ZBZ rd];cases d <;> exact q a _ (Ext.refl a) s rfl⟩
 | _=>cases d <;> exact q.elim
theorem ZAw {a:Wd} {x:V} (r:Rep a d x) (h:Mz d=some v):x=v/\Ci v=true:=by
 cases d <;> first
  | (cases h;exact ⟨r,rfl⟩)
  | cases h
theorem ZAM {a:Wd}:∀{ds:List D} {xs vs:List V},Reps a ds xs->Gz ds=some vs->xs=vs/\vs.all Ci=true
 | [],xs,vs,r,h=>by cases h;exact ⟨r,rfl⟩
 | d::ds,xs,vs,r,h=>by
  obtain ⟨x,r',rfl,r1,r2⟩:=r;unfold Gz at h;split at h
  ·rename_i v ws h1 h2;cases h;obtain ⟨e1,f1⟩:=ZAw r1 h1;obtain ⟨e2,f2⟩:=ZAM r2 h2;subst e1;subst e2;exact ⟨rfl,by rw [List.all_cons,f1,f2];rfl⟩
  ·cases h
theorem ZGA {a:Wd} {e:D} {x:V} {k:Bool} (s:Sim a G) (rd:Rep a d x) (re:Rep a e y) (h:inD d e G=some k):
  (∃i j,x=.str i/\y=.str j/\k= !(Builtin.Str.occurrences j i 0 j.length 1).isEmpty)∨(∃p xs,y=.ref p/\(SqL a.K a.H p xs∨SqT a.K a.H p xs)/\Ci x=true/\xs.all Ci=true/\k=inV x xs):=by
 have seq:(match Bf e G,Mz d with | some xs,some v=>(Gz xs).map λvs=>inV v vs | _,_=>none)=some k->(∃p xs,y=.ref p/\(SqL a.K a.H p xs∨SqT a.K a.H p xs)/\Ci x=true/\xs.all Ci=true/\k=inV x xs):=λh=>by
  split at h
  ·rename_i xs v h1 h2;obtain ⟨p,ws,e1,q,r1⟩:=Jb s re h1;obtain ⟨e2,f2⟩:=ZAw rd h2;subst e2;rw [Option.map_eq_some_iff] at h;obtain ⟨us,h3,h4⟩:=h;obtain ⟨e3,f3⟩:=ZAM r1 h3;subst e3;exact ⟨p,ws,e1,q,f2,f3,h4.symm⟩
  ·cases h
 cases e with
 | str j=>
  cases d with
  | str i=>exact .inl ⟨i,j,rd,re,(Option.some.inj h).symm⟩
  | _=>cases h
 | tup xs=>exact .inr (seq h)
 | fl xs=>exact .inr (seq h)
 | ref i=>exact .inr (seq h)
 | _=>exact .inr (seq h)
theorem ZGT:OpR X (compareOp .NotIn) (lR2 X.K E Lh):=Fy (ZDn.or ZF9) λa G d e x y Q hk s rd re q=>by
 unfold Lh at q;split at q
 ·rename_i k h;have z:=q a _ (Ext.refl a) s rfl;rcases ZGA s rd re h with ⟨i,j,e1,e2,rfl⟩ | ⟨p,xs,e1,hq,f1,f2,rfl⟩
  ·exact .inl ⟨i,j,e1,e2,z⟩
  ·exact .inr ⟨p,xs,e1,by rw [<-hk];exact hq,f1,f2,z⟩
 ·exact q.elim
end
theorem ZBU:bootBuiltins "isinstance"=some (.builtin "isinstance"):=by decide +kernel
theorem Lf:bootBuiltins "sum"=some (.builtin "sum"):=by decide +kernel
theorem ZAt:bootBuiltins "max"=some (.builtin "max"):=by decide +kernel
theorem Oz:bootBuiltins "min"=some (.builtin "min"):=by decide +kernel
theorem Jo:bootBuiltins "len"=some (.builtin "len"):=by decide +kernel
theorem Wb:bootBuiltins "int"=some (.type "int"):=by decide +kernel
theorem ZCu:bootBuiltins "bool"=some (.type "bool"):=by decide +kernel
theorem Iv:bootBuiltins "tuple"=some (.type "tuple"):=by decide +kernel
def Es:NameKind->Bool | .local=>true | _=>false
def Gw:NameKind->Bool | .cell=>true | _=>false
def Ga:NameKind->Bool | .free=>true | _=>false
def isK (p:NameKind->Bool):Option NameKind->Bool | some k=>p k | none=>false
theorem Yv {k:NameKind} (h:Es k=true):k=.local:=by cases k <;> first | rfl | cases h
theorem ZFK {k:NameKind} (h:Gw k=true):k=.cell:=by cases k <;> first | rfl | cases h
theorem ZAl {k:NameKind} (h:Ga k=true):k=.free:=by cases k <;> first | rfl | cases h
theorem M9 {p:NameKind->Bool} {k:NameKind} (hp:∀k',p k'=true->k'=k) {o:Option NameKind} (h:isK p o=true):o=some k:=by
 cases o with
 | none=>cases h
 | some k'=>rw [hp _ h]
def ZAn (dn:List (Str×NameKind)) (N0 N:List Str) (names:List (Str×NameKind)) (nt:Nat) (caps:List Nat):Bool:=
 names.all (λy=>(!Es y.2 || isK Es (names.lookup y.1)) && !Gw y.2 && (!Ga y.2 || isK Gw (dn.lookup y.1) || isK Ga (dn.lookup y.1))) && decide N.Nodup && decide (N.length=nt + caps.length) &&
 (List.range caps.length).all λk=>match caps[k]? with
  | some j=>match N0[j]? with
   | some x=>decide (N[nt + k]? =some x) && isK Ga (names.lookup x)
   | none=>false
  | none=>true
theorem Fq {X:Cx} {N0 N:List Str} {nt:Nat} {caps:List Nat} {dn:List (Str×NameKind)} (hk:scope.kind=.function:=by rfl) (hdn:∀x,X.env.kindOf x=dn.lookup x:=by intro _;rfl) (hN:X.N=N0:=by rfl)
  (h:ZAn dn N0 N scope.names nt caps=true:=by decide +kernel):CompSc X N scope nt caps:=by
 unfold ZAn at h;rw [Bool.and_eq_true,Bool.and_eq_true,Bool.and_eq_true] at h;obtain ⟨⟨⟨h1,h2⟩,h3⟩,h4⟩:=h;rw [List.all_eq_true] at h1 h4;have key:=λ(y:Str×NameKind) (hy:y∈scope.names)=>(by have:=h1 y hy;rw [Bool.and_eq_true,Bool.and_eq_true] at this;exact this:((!Es y.2 || isK Es (scope.names.lookup y.1))=true/\(!Gw y.2)=true)/\(!Ga y.2 || isK Gw (dn.lookup y.1) || isK Ga (dn.lookup y.1))=true)
 refine ⟨hk,λy hy hl=> ?_,λy hy hl=> ?_,λy hy hl=> ?_,of_decide_eq_true h2,of_decide_eq_true h3,λk j hj=> ?_⟩
 ·have:=(key y hy).1.1;rw [hl] at this;exact M9 (p:=Es) (λ_ h=>Yv h) (by have t:(false || isK Es (scope.names.lookup y.1))=true:=this;simpa using t)
 ·have:=(key y hy).1.2;rw [hl] at this;exact absurd this (by decide)
 ·have:=(key y hy).2;rw [hl,Bool.or_eq_true] at this;rw [hdn];rcases this with h | h
  ·exact .inl (M9 (p:=Gw) (λ_ h=>ZFK h) (by have t:(false || isK Gw (dn.lookup y.1))=true:=h;simpa using t))
  ·exact .inr (M9 (p:=Ga) (λ_ h=>ZAl h) h)
 ·have hk':k < caps.length:=(List.getElem?_eq_some_iff.mp hj).1;have:=h4 k (List.mem_range.mpr hk');rw [hj] at this;dsimp only at this;cases e:N0[j]? with
  | none=>rw [e] at this;cases this
  | some x=>
   rw [e] at this;dsimp only at this;rw [Bool.and_eq_true] at this;exact ⟨x,by rw [hN];exact e,of_decide_eq_true this.1,M9 (p:=Ga) (λ_ h=>ZAl h) this.2⟩
section
section
variable {X:Cx} {pins:List (Addr×Obj)} {σ:St} {H:Hp} {s:Shared}
theorem ZD7 {xs:List V} (I:Inv X pins σ H s) (h:H p=some (.lst xs)):∃o,Inv X pins σ (upd H p (.frz o (.lst xs))) s:=by
 obtain ⟨hl,its,n,r,e⟩:=I.hok p _ h;have nt:∀b (u:HO),H b=some u->u≠ .lst xs->b≠p:=λb u q d z=>by subst z;rw [h] at q;exact d (Option.some.inj q).symm
 refine ⟨_,I.un (t':=s.toks) (H':=upd H p (.frz {cls:=.type "list",data:=.seq its.toArray n} (.lst xs))) ⟨λb o q _ _ _=>q,λb o q _ _ _=>⟨o.slots,q⟩,λb o q z _=> ?_,λb o q _=>⟨o,q⟩,λb ys q=> ?_,λb o u q=> ?_,λb ps q=>⟨#[],?_⟩⟩ ?_⟩
 ·rw [Az (λz'=>by subst z';rw [h] at z;cases z)];exact z
 ·rw [Az (nt b _ q (by intro z;cases z))];exact q
 ·rw [Az (nt b _ q (by intro z;cases z))];exact q
 ·rw [Az (nt b _ q (by intro z;cases z)),Array.append_empty];exact q
 ·intro b u q;by_cases hb:b=p
  ·subst hb;rw [Ej] at q;cases q;exact ⟨e,hl,its,n,r,e⟩
  ·rw [Az hb] at q;exact (I.hok b u q).stay (λc v _ z=>z) (λc z=>by rw [Az (nt c _ z (by intro z;cases z))];exact z) λc ys z=>by rw [Az (nt c _ z (by intro z;cases z))];exact z
def Fz (P:Addr->Prop) (H H':Hp):Prop:=∀p,(H' p=H p/\(∀vs,H p=some (.lst vs)->¬P p))∨∃o vs,P p/\H p=some (.lst vs)/\H' p=some (.frz o (.lst vs))
theorem ZBD (I:Inv X pins σ H s) (m:Nat->Addr) (n:Nat):∀k:Nat,∃H',Inv X pins σ H' s/\Fz (λp=>∃i,n<=i/\i < n + k/\p=m i) H H'
 | 0=>⟨H,I,λp=>.inl ⟨rfl,λ_ _ ⟨i,h1,h2,_⟩=>by omega⟩⟩
 | k + 1=>by
  obtain ⟨H',I',F⟩:=ZBD I m n k;have keep:(∀vs,H' (m (n + k))≠some (.lst vs))->Fz (λp=>∃i,n<=i/\i < n + (k + 1)/\p=m i) H H':=λno p=>by
   rcases F p with ⟨e,z⟩ | ⟨o,vs,⟨i,h1,h2,h3⟩,e1,e2⟩
   ·refine .inl ⟨e,λvs e1 ⟨i,h1,h2,h3⟩=> ?_⟩;by_cases hi:i < n + k
    ·exact z vs e1 ⟨i,h1,hi,h3⟩
    ·have:i=n + k:=by omega
     subst this;subst h3;exact no vs (e.trans e1)
   ·exact .inr ⟨o,vs,⟨i,h1,by omega,h3⟩,e1,e2⟩
  cases hH:H' (m (n + k)) with
  | none=>exact ⟨H',I',keep λvs z=>by rw [hH] at z;cases z⟩
  | some u=>
   cases u with
   | lst vs=>
    obtain ⟨o,I2⟩:=ZD7 I' hH;refine ⟨_,I2,λp=> ?_⟩;by_cases hp:p=m (n + k)
    ·subst hp;rcases F (m (n + k)) with ⟨e,z⟩ | ⟨o',vs',_,e1,e2⟩
     ·exact .inr ⟨o,vs,⟨n + k,by omega,by omega,rfl⟩,e.symm.trans hH,Ej⟩
     ·rw [hH] at e2;cases e2
    ·rcases F p with ⟨e,z⟩ | ⟨o',vs',⟨i,h1,h2,h3⟩,e1,e2⟩
     ·refine .inl ⟨by rw [Az hp];exact e,λvs' e1 ⟨i,h1,h2,h3⟩=> ?_⟩;by_cases hi:i < n + k
      ·exact z vs' e1 ⟨i,h1,hi,h3⟩
      ·have:i=n + k:=by omega
       subst this;exact hp h3
     ·exact .inr ⟨o',vs',⟨i,h1,by omega,h3⟩,e1,by rw [Az hp];exact e2⟩
   | _=>exact ⟨H',I',keep λvs z=>by rw [hH] at z;cases z⟩
end
def Ib (f:D->Option D):List D->Option (List D)
 | []=>some []
 | d::r=>match f d,Ib f r with
  | some d',some r'=>some (d'::r')
  | _,_=>none
def Ez (G:DH) (n:Nat):Nat->D->Option D
 | 0,_=>none
 | k + 1,d=>if bel n d=true then some d else match d with
  | .ref i=>match G[i]? with
   | some (.lst xs)=>(Ib (Ez G n k) xs).map .fl
   | _=>none
  | .tup xs=>(Ib (Ez G n k) xs).map .tup
  | .fl xs=>(Ib (Ez G n k) xs).map .fl
  | _=>none
open Classical in
def freeze (G:DH) (r:R D):R D:=match r with
 | .ok d G'=>if G'.take G.length=G then (match Ez G' G.length 9 d with
   | some d'=>.ok d' G
   | none=>.ok d G') else .ok d G'
 | r=>r
def Ba (t:DE):DE:=λS G=>freeze G (t S G)
structure CutF (b c:Wd) (n:Nat):Prop where
 k:c.K=b.K
 n:c.n=n
 m:c.m=b.m
 tup:∀p xs,b.H p=some (.tup xs)->c.H p=some (.tup xs)
 frz:∀p o u,b.H p=some (.frz o u)->c.H p=some (.frz o u)
theorem CutF.sqT (x:CutF b c n) {xs:List V} (h:SqT b.K b.H p xs):SqT c.K c.H p xs:=by
 rcases h with (h | ⟨o,h⟩) | h
 ·exact .inl (.inl (x.tup _ _ h))
 ·exact .inl (.inr ⟨o,x.frz _ _ _ h⟩)
 ·exact .inr (by rw [x.k];exact h)
theorem CutF.fzL (x:CutF b c n) {xs:List V} (h:FzL b.K b.H p xs):FzL c.K c.H p xs:=by
 rcases h with ⟨o,h⟩ | h
 ·exact .inl ⟨o,x.frz _ _ _ h⟩
 ·exact .inr (by rw [x.k];exact h)
mutual
theorem Rep.G8 (x:CutF b c n):∀{d:D} {v:V},Rep b d v->bel n d=true->Rep c d v
 | .non,_,h,_=>h
 | .bl _,_,h,_=>h
 | .int _,_,h,_=>h
 | .str _,_,h,_=>h
 | .ty _,_,h,_=>h
 | .tup ds,v,h,q=>by obtain ⟨p,vs,e,t,r⟩:=h;simp only [DL.bel] at q;exact ⟨p,vs,e,x.sqT t,Reps.G8 x r q⟩
 | .fl ds,v,h,q=>by obtain ⟨p,vs,e,t,r⟩:=h;simp only [DL.bel] at q;exact ⟨p,vs,e,x.fzL t,Reps.G8 x r q⟩
 | .ref i,v,h,q=>by obtain ⟨l,e⟩:=h;simp only [DL.bel] at q;have q':=of_decide_eq_true q;exact ⟨by rw [x.n];exact q',by rw [x.m];exact e⟩
theorem Reps.G8 (x:CutF b c n):∀{ds:List D} {vs:List V},Reps b ds vs->bels n ds=true->Reps c ds vs
 | [],_,h,_=>h
 | d::ds,vs,h,q=>by obtain ⟨v,r,e,h1,h2⟩:=h;simp only [DL.bels,Bool.and_eq_true] at q;exact ⟨v,r,e,Rep.G8 x h1 q.1,Reps.G8 x h2 q.2⟩
end
theorem T5 {f:D->Option D} (hf:∀d d' v,f d=some d'->Rep b d v->Rep c d' v):∀{ds ds':List D} {vs:List V},Ib f ds=some ds'->Reps b ds vs->Reps c ds' vs
 | [],ds',vs,e,h=>by cases e;exact h
 | d::ds,ds',vs,e,h=>by
  obtain ⟨v,r,rfl,h1,h2⟩:=h;unfold Ib at e;split at e
  ·rename_i d' r' e1 e2;cases e;exact ⟨v,r,rfl,hf _ _ _ e1 h1,T5 hf e2 h2⟩
  ·cases e
theorem ZBH (s:Sim b G') (x:CutF b c n) (hz:∀i,n<=i->i < b.n->∀vs,b.H (b.m i)=some (.lst vs)->∃o,c.H (b.m i)=some (.frz o (.lst vs))):∀(k:Nat) (d d':D) (v:V),Ez G' n k d=some d'->Rep b d v->Rep c d' v
 | 0,d,d',v,e,h=>by cases e
 | k + 1,d,d',v,e,h=>by
  have ih:=ZBH s x hz k;unfold Ez at e;split at e
  ·rename_i hb;cases e;exact h.G8 x hb
  ·rename_i hb;cases d with
   | ref i=>
    dsimp only at e;split at e
    ·rename_i xs hx;rw [Option.map_eq_some_iff] at e;obtain ⟨ys,e1,rfl⟩:=e;obtain ⟨vs,e2,r2⟩:=s.obj i _ hx;obtain ⟨il,rfl⟩:=h;have hi:n<=i:=by simp only [DL.bel,decide_eq_true_eq] at hb;omega
     obtain ⟨o,e3⟩:=hz i hi il vs e2;exact ⟨_,vs,rfl,.inl ⟨o,e3⟩,T5 ih e1 r2⟩
    ·cases e
   | tup xs=>
    dsimp only at e;rw [Option.map_eq_some_iff] at e;obtain ⟨ys,e1,rfl⟩:=e;obtain ⟨p,vs,rfl,t,r⟩:=h;exact ⟨p,vs,rfl,x.sqT t,T5 ih e1 r⟩
   | fl xs=>
    dsimp only at e;rw [Option.map_eq_some_iff] at e;obtain ⟨ys,e1,rfl⟩:=e;obtain ⟨p,vs,rfl,t,r⟩:=h;exact ⟨p,vs,rfl,x.fzL t,T5 ih e1 r⟩
   | _=>cases e
theorem ZA4 {pins:List (Addr×Obj)} {sh:Shared} (s:Sim a G) (hG:G'.take G.length=G) (x:Ext a b) (sb:Sim b G') (I:Inv X pins σ b.H sh):
  ∃c:Wd,Inv X pins σ c.H sh/\Ext a c/\Sim c G/\CutF b c a.n/\∀(k:Nat) (d d':D) (v:V),Ez G' G.length k d=some d'->Rep b d v->Rep c d' v:=by
 have hlen:∀i o,G[i]? =some o->G'[i]? =some o:=λi o e=>by have hi:i < G.length:=(List.getElem?_eq_some_iff.mp e).1;rw [<-hG,List.getElem?_take_of_lt hi] at e;exact e
 obtain ⟨H',I',F⟩:=ZBD I b.m a.n (b.n - a.n);have hbn:a.n + (b.n - a.n)=b.n:=by have:=x.n;omega
 rw [hbn] at F;have ct:∀p (u:HO),(∀vs,u≠ .lst vs)->b.H p=some u->H' p=some u:=λp u nu e=>by
  rcases F p with ⟨e1,_⟩ | ⟨o,vs,_,e1,_⟩
  ·exact e1.trans e
  ·rw [e] at e1;exact absurd (Option.some.inj e1) (nu vs)
 have cc:CutF b ⟨b.K,a.n,b.m,H'⟩ a.n:=⟨rfl,rfl,rfl,λp xs e=>ct p _ (by intro _ z;cases z) e,λp o u e=>ct p _ (by intro _ z;cases z) e⟩;have old:∀i,i < a.n->H' (b.m i)=b.H (b.m i):=λi hi=>by
  rcases F (b.m i) with ⟨e1,_⟩ | ⟨o,vs,⟨j,h1,h2,h3⟩,e1,e2⟩
  ·exact e1
  ·have:=sb.inj i j (Nat.lt_of_lt_of_le hi x.n) h2 h3;omega
 refine ⟨⟨b.K,a.n,b.m,H'⟩,I',⟨x.k,Nat.le_refl _,x.m,λp xs e=>cc.tup p xs (x.tup p xs e),λp o u e=>cc.frz p o u (x.frz p o u e)⟩,⟨s.len,λi j hi hj=>sb.inj i j (Nat.lt_of_lt_of_le hi x.n) (Nat.lt_of_lt_of_le hj x.n),λi o e=> ?_,λi hi=> ?_⟩,cc,λk d d' v hd rb=> ?_⟩
 ·show ORep ⟨b.K,a.n,b.m,H'⟩ o (H' (b.m i));rw [old i (s.lt e)];have q:=sb.obj i o (hlen i o e);have lb:=(s.obj i o e).Ik;cases o with
  | lst ds=>obtain ⟨vs,e1,r1⟩:=q;exact ⟨vs,e1,r1.G8 cc lb⟩
  | dct kvs=>obtain ⟨us,e1,k1,r1⟩:=q;exact ⟨us,e1,k1,r1.G8 cc lb⟩
  | ins c fs=>obtain ⟨C,dx,us,n1,e1,k1,r1⟩:=q;exact ⟨C,dx,us,n1,e1,k1,r1.G8 cc lb⟩
  | gone=>trivial
 ·show H' (b.m i)≠none;rw [old i hi];exact sb.tr i (Nat.lt_of_lt_of_le hi x.n)
 ·rw [s.len] at hd;refine ZBH sb cc (λi h1 h2 vs e=> ?_) k d d' v hd rb;rcases F (b.m i) with ⟨e1,z⟩ | ⟨o,vs',_,e1,e2⟩
  ·exact absurd ⟨i,h1,h2,rfl⟩ (z vs e)
  ·rw [e] at e1;cases e1;exact ⟨o,e2⟩
theorem ZEO (s:Sim a G) (h:out E a (freeze G r) Q):
  out E a r λv H=>∀(pins:List (Addr×Obj)) (σ:St) (sh:Shared),Inv X pins σ H sh->∃H',Inv X pins σ H' sh/\Q v H':=by
 cases r with
 | err e G'=>exact h
 | bad=>exact h
 | ok d G'=>
  intro b v x sb rb pins σ sh I;unfold freeze at h;dsimp only at h;split at h
  ·rename_i hG;split at h
   ·rename_i d' hd;obtain ⟨c,Ic,xc,sc,cc,hr⟩:=ZA4 s hG x sb I;exact ⟨c.H,Ic,h c v xc sc (hr _ _ _ _ hd rb)⟩
   ·exact ⟨_,I,h b v x sb rb⟩
  ·exact ⟨_,I,h b v x sb rb⟩
theorem Bd (ha:QE X E e t):QE X E e (Ba t):=λpins s σ H Q I h=>by
 obtain ⟨a,S,G,hk,rfl,sm,r,h⟩:=h;refine thn (ha pins s σ a.H _ I ⟨a,S,G,hk,rfl,sm,r,ZEO (X:=X) sm h⟩) λu s' ⟨v,H',I',rv,q⟩=> ?_
 obtain ⟨H2,I2,q2⟩:=q pins σ s' I';exact ⟨v,H2,I2,rv,q2⟩
theorem ZDK {st:Stmt} (ha:QS X E st (sAs t (gV i))):QS X E st (sAs (Ba t) (gV i)):=λpins s σ H W I h=>by
 obtain ⟨a,S,G,hk,rfl,sm,r,h⟩:=h;have h2:Bj E a (sAs t (gV i) S G) {W with nx:=λσ H=>∀(pins:List (Addr×Obj)) (sh:Shared),Inv X pins σ H sh->∃H',Inv X pins σ H' sh/\W.nx σ H'}:=by
  unfold sAs Ba at h;unfold sAs;cases ht:t S G with
  | err e G'=>rw [ht] at h;exact h
  | bad=>rw [ht] at h;exact h
  | ok d G'=>
   rw [ht] at h;intro b σ' x sb rb pins sh I;unfold freeze at h;dsimp only at h;split at h
   ·rename_i hG;split at h
    ·rename_i d' hd;obtain ⟨c,Ic,xc,sc,cc,hr⟩:=ZA4 sm hG x sb I;refine ⟨c.H,Ic,h c σ' xc sc ⟨?_,λj e he=> ?_⟩⟩
     ·rw [List.length_set,<-rb.len,List.length_set]
     ·rw [List.getElem?_set] at he;by_cases hij:i=j
      ·subst hij;rw [if_pos rfl] at he;by_cases hl:i < S.length
       ·rw [if_pos hl] at he;have e1:d'=e:=by simpa using he
        subst e1;obtain ⟨v,e2,rv⟩:=rb.get i d (by rw [List.getElem?_set,if_pos rfl,if_pos hl]);exact ⟨v,e2,hr _ _ _ _ hd rv⟩
       ·rw [if_neg hl] at he;cases he
      ·rw [if_neg hij] at he;obtain ⟨v,e2,rv⟩:=rb.get j e (by rw [List.getElem?_set,if_neg hij];exact he);obtain ⟨v',_,rv'⟩:=r.get j e he;exact ⟨v,e2,rv.G8 cc rv'.bel⟩
    ·exact ⟨_,I,h b σ' x sb rb⟩
   ·exact ⟨_,I,h b σ' x sb rb⟩
 refine thn (ha pins s σ a.H _ I ⟨a,S,G,hk,rfl,sm,r,h2⟩) λf s' hf=> ?_
 cases f with
 | next=>
  obtain ⟨σ',H',I',q⟩:=hf;obtain ⟨H2,I2,q2⟩:=q pins s' I';exact ⟨σ',H2,I2,q2⟩
 | brk=>exact hf
 | cont=>exact hf
 | ret u=>exact hf
end
section
variable {S:DSt} {G:DH}
@[simp] theorem ev_V:dV i S G=(match S[i]? with | some (some d)=>.ok d G | _=>.bad):=id rfl
@[simp] theorem ev_C:dC d S G=.ok d G:=id rfl
@[simp] theorem ev_Op {a b:DE}:dOp f a b S G=(a S G).bind λx G1=>(b S G1).bind λy G2=>f x y G2:=id rfl
@[simp] theorem ev_Un {f:D->DH->R D} {a:DE}:dUn f a S G=(a S G).bind f:=id rfl
@[simp] theorem ev_Nil:Af S G=.ok [] G:=id rfl
@[simp] theorem ZHC {a:DE} {r:DA}:Ac a r S G=(a S G).bind λx G1=>(r S G1).bind λxs G2=>.ok (x::xs) G2:=id rfl
@[simp] theorem ev_Fn {f:List D->DH->R D} {t:DA}:dFn f t S G=(t S G).bind f:=id rfl
@[simp] theorem ZHP:Ew t S G=tidy G (t S G):=id rfl
@[simp] theorem ev_Frz:Ba t S G=freeze G (t S G):=id rfl
@[simp] theorem ev_asB {k:Bool}:asB (.bl k) G=.ok k G:=id rfl
@[simp] theorem ev_Tst:Be t S G=(t S G).bind asB:=id rfl
@[simp] theorem ev_And {t u:DB}:J0 t u S G=(t S G).bind λk G1=>if k=true then u S G1 else .ok false G1:=id rfl
@[simp] theorem ev_Or {t u:DB}:dOr t u S G=(t S G).bind λk G1=>if k=true then .ok true G1 else u S G1:=id rfl
@[simp] theorem ev_Not {t:DB}:S7 t S G=(t S G).bind λk G1=>.ok (!k) G1:=id rfl
@[simp] theorem ZGq {u:DE}:Nm t u S G=(t S G).bind λx G1=>(asB x G1).bind λk G2=>if k=true then u S G2 else .ok (.bl false) G2:=id rfl
@[simp] theorem ZGh:U5 t S G=(t S G).bind λx G1=>(asB x G1).bind λk G2=>.ok (.bl (!k)) G2:=id rfl
@[simp] theorem ev_sNx:sNx S G=.nx S G:=id rfl
def SR.then (r:SR) (u:DS):SR:=match r with
 | .nx S1 G1=>u S1 G1
 | r=>r
@[simp] theorem ZGy {t:DS}:Ah t u S G=(t S G).then u:=id rfl
@[simp] theorem ZHH:(SR.nx S G).then u=u S G:=id rfl
@[simp] theorem ZHQ:(SR.rt d G).then u=.rt d G:=id rfl
@[simp] theorem ev_sEx:sEx t S G=(t S G).toS λ_ G1=>.nx S G1:=id rfl
@[simp] theorem ev_sRt:sRt t S G=(t S G).toS λd G1=>.rt d G1:=id rfl
@[simp] theorem ev_sIf {c:DB} {t:DS}:sIf c t u S G=(c S G).toS λk G1=>if k=true then t S G1 else u S G1:=id rfl
@[simp] theorem ev_sAs:sAs t g S G=(t S G).toS λd G1=>(g d S G1).toS λS2 G2=>.nx S2 G2:=id rfl
@[simp] theorem ZG7 {it:DI} {b:DS}:Cw it g b S G=(it S G).toS λJ G1=>(match J with
 | .pure xs=>Bq g b xs S G1
 | .mt i=>match G1[i]? with
  | some (.lst xs)=>forM i g b xs.length 0 S G1
  | _=>.bad
 | .fn n f=>J7 f g b n 0 S G1):=id rfl
@[simp] theorem ZG0:Dp t S G=(t S G).bind Eh:=id rfl
@[simp] theorem ZG1 {f:List D->DH->R ItD} {t:DA}:Dh f t S G=(t S G).bind f:=id rfl
@[simp] theorem Cv:gV i d S G=.ok (S.set i (some d)) G:=id rfl
@[simp] theorem ZG4:Ep [] S G=.ok S G:=id rfl
@[simp] theorem ZGn {t:DG} {u:DGs} {r:List D}:Bt t u (d::r) S G=(t d S G).bind λS1 G1=>u r S1 G1:=id rfl
@[simp] theorem ZG8 {t:DGs} :Dq n t (.tup ds) S G=if ds.length=n then t ds S G else .bad:=id rfl
@[simp] theorem ev_MtL {f:D->List D->DH->R D} {o:DE} {t:DA}:Ft f o t S G=(o S G).bind λx G1=>if isL x G1=true then (t S G1).bind λxs G2=>f x xs G2 else .bad:=id rfl
@[simp] theorem ZHV {it:DI} {caps:List Nat} {c:DB} :Dw it nt caps g c te S G=(it S G).bind λJ G1=>(match J with
 | .pure xs=>Bx g c te (Ay nt caps S) xs G1
 | .mt i=>match G1[i]? with
  | some (.lst xs)=>Do i g c te (Ay nt caps S) xs.length 0 G1
  | _=>.bad
 | .fn n f=>Dy f g c te (Ay nt caps S) n 0 G1).bind Ax:=id rfl
@[simp] theorem ZHD:Ca S G=.ok true G:=id rfl
@[simp] theorem Dc {k:DSt->DH->SR}:aft (.nx S G) k=k S G:=id rfl
theorem Dv {b:DS}:Bq g b [] S G=.nx S G:=id rfl
theorem De {b:DS} {x:D} :Bq g b (x::xs) S G=(g x S G).toS λS1 G1=>aft (b S1 G1) (Bq g b xs):=id rfl
theorem Ih {c:DB} {x:D} :Bx g c te S (x::xs) G=(g x S G).bind λS1 G1=>(c S1 G1).bind λk G2=>
   if k=true then (te S1 G2).bind λd G3=>(Bx g c te S xs G3).bind λds G4=>.ok (d::ds) G4 else Bx g c te S xs G2:=id rfl
def SR.ret (r:SR):R D:=match r with
 | .nx _ G'=>.ok .non G'
 | .rt d G'=>.ok d G'
 | .err x G'=>.err x G'
 | _=>.bad
@[simp] theorem ret_rt:(SR.rt d G).ret=.ok d G:=id rfl
theorem Bm {np nl:Nat} {b:DS} :Bv np nl b ds G=if ds.length=np then tidy G (b (ds.map some++List.replicate nl none) G).ret else .bad:=id rfl
end
section
variable {n:Nat} {G:DH}
@[simp] theorem ZHM:bel n .non=true:=by simp [DL.bel]
@[simp] theorem bel_bl {b:Bool}:bel n (.bl b)=true:=by simp [DL.bel]
@[simp] theorem ZDi {b:Int}:bel n (.int b)=true:=by simp [DL.bel]
@[simp] theorem ZC4 {b:Str}:bel n (.str b)=true:=by simp [DL.bel]
@[simp] theorem ZG5 {b:List D}:bel n (.tup b)=bels n b:=by simp [DL.bel]
@[simp] theorem ZGv {b:Nat}:bel n (.ref b)=decide (b < n):=by simp [DL.bel]
@[simp] theorem ZGr:bels n []=true:=by simp [DL.bels]
@[simp] theorem ZE4:bels n (d::ds)=(bel n d && bels n ds):=by simp [DL.bels]
theorem ZCm:bels n ds=true↔∀d∈ds,bel n d=true:=by
 induction ds with
 | nil=>simp
 | cons d ds ih=>simp [ih]
theorem Fw {f:α->D} {xs:List α} (h:∀x∈xs,bel n (f x)=true):bels n (xs.map f)=true:=by rw [ZCm];intro d hd;obtain ⟨x,hx,rfl⟩:=List.mem_map.mp hd;exact h x hx
@[simp] theorem Ef {xs:List Int}:bels n (xs.map D.int)=true:=Fw λ_ _=>ZDi
@[simp] theorem Hc {xs:List Str}:bels n (xs.map D.str)=true:=Fw λ_ _=>ZC4
theorem Bo (h:bel G.length d=true):tidy G (.ok d G)=.ok d G:=by unfold tidy;simp [h]
theorem Vm (h:bel G.length d=true):tidy G (.ok d (G++L))=.ok d G:=by unfold tidy;simp [h]
theorem Y4 (L:DH) (hk:L[k]? =some (.lst ds)) (h:bels G.length ds=true):tidy G (.ok (.ref (G.length + k)) (G++L))=.ok (.ref G.length) (G++ [.lst ds]):=by
 unfold tidy;have e:(G++L)[G.length + k]? =some (.lst ds):=by rw [List.getElem?_append_right (by omega)];simpa using hk
 simp [e,Ik,h]
theorem Ff (h:bels G.length ds=true):tidy G (.ok (.ref G.length) (G++ .lst ds::L))=.ok (.ref G.length) (G++ [.lst ds]):=Y4 (.lst ds::L) (k:=0) rfl h
theorem ZCs (h:bel G.length d=true):freeze G (.ok d G)=.ok d G:=by unfold freeze;simp [h,Ez]
theorem ZAS:∀{ds:List D},bels n ds=true->Ib (Ez G' n (k + 1)) ds=some ds
 | [],_=>rfl
 | d::ds,h=>by simp only [ZE4,Bool.and_eq_true] at h;unfold Ib;rw [ZAS h.2];simp [Ez,h.1]
theorem ZEV (L:DH) (hk:L[k]? =some (.lst ds)) (h:bels G.length ds=true):freeze G (.ok (.ref (G.length + k)) (G++L))=.ok (.fl ds) G:=by
 unfold freeze;have e:(G++L)[G.length + k]? =some (.lst ds):=by rw [List.getElem?_append_right (by omega)];simpa using hk
 have m:Ez (G++L) G.length 9 (.ref (G.length + k))=some (.fl ds):=by unfold Ez;simp [e,ZAS h]
 simp [m]
theorem Cg (h:bels G.length ds=true):freeze G (.ok (.ref G.length) (G++ .lst ds::L))=.ok (.fl ds) G:=ZEV (.lst ds::L) (k:=0) rfl h
theorem ZDd (L:DH) (k:Nat):(G++L)[G.length + k]? =L[k]? :=by rw [List.getElem?_append_right (by omega)];simp
theorem Ea (L:DH):(G++L)[G.length]? =L[0]? :=ZDd L 0
theorem ZFh (L:DH) (k:Nat) (o:DO):(G++L).set (G.length + k) o=G++L.set k o:=by rw [List.set_append_right _ _ (by omega)];simp
theorem Gd (L:DH) (o:DO):(G++L).set G.length o=G++L.set 0 o:=ZFh L 0 o
theorem Hb {lo:Int}:Bp lo 0= []:=id rfl
theorem Fv {lo:Int} :Bp lo (n + 1)=.int lo::Bp (lo + 1) n:=by
 unfold Bp;rw [List.range_succ_eq_map,List.map_cons,List.map_map]
 congr 1
 ·simp
 ·apply List.map_congr_left;intro k _;simp only [Function.comp]
  congr 1
  omega
end
section
variable {G:DH} {i j:Int} {x y:Str} {k l:Bool}
@[simp] theorem ev_add:An (.int i) (.int j) G=.ok (.int (i + j)) G:=id rfl
@[simp] theorem Jc:An (.str x) (.str y) G=if x.length + y.length<=1000000 then .ok (.str (x++y)) G else .bad:=id rfl
@[simp] theorem Ko {ys:List D}:An (.tup xs) (.tup ys) G=if xs≠ []/\xs.length + ys.length<=1000000 then .ok (.tup (xs++ys)) G else .bad:=id rfl
@[simp] theorem ev_sub:Iz (.int i) (.int j) G=.ok (.int (i - j)) G:=id rfl
theorem log2_small (h:n < 10 ^ 100):n.log2 < 9000:=by
 by_cases hn:n=0
 ·subst hn;decide
 ·rw [Nat.log2_lt hn];exact Nat.lt_trans h (by decide)
@[simp] theorem ZGi [NeZero n] (h:n < 10 ^ 100):Ck (.int i) (.int (no_index (OfNat.ofNat n))) G=.ok (.int (i / OfNat.ofNat n)) G:=
 if_pos ⟨Int.ofNat_lt.mpr (Nat.pos_of_ne_zero (NeZero.ne n)),log2_small h⟩
@[simp] theorem ev_mod:Av (.int i) (.int j) G=if 0 < j then .ok (.int (i % j)) G else .bad:=id rfl
@[simp] theorem ev_pow:G6 (.int i) (.int j) G=if 0<=j/\j<=1000000/\i.natAbs < 18446744073709551616 then .ok (.int (i ^ j.toNat)) G else .bad:=id rfl
@[simp] theorem ev_lt:Mq (.int i) (.int j) G=.ok (.bl (decide (i < j))) G:=id rfl
@[simp] theorem ev_gt:Fi (.int i) (.int j) G=.ok (.bl (decide (j < i))) G:=id rfl
@[simp] theorem ev_ge:Ur (.int i) (.int j) G=.ok (.bl (decide (j<=i))) G:=id rfl
@[simp] theorem ev_eq:By (.int i) (.int j) G=.ok (.bl (decide (i=j))) G:=id rfl
@[simp] theorem ev_ne:Gr (.int i) (.int j) G=.ok (.bl (!decide (i=j))) G:=id rfl
@[simp] theorem ev_eqS:By (.str x) (.str y) G=.ok (.bl (decide (x=y))) G:=id rfl
@[simp] theorem ev_neS:Gr (.str x) (.str y) G=.ok (.bl (!decide (x=y))) G:=id rfl
@[simp] theorem ev_neg:Vn (.int i) G=.ok (.int (-i)) G:=id rfl
@[simp] theorem ZG2:W6 d .non G=.ok (.bl (!Jw d)) G:=by cases d <;> exact id rfl
@[simp] theorem ZHB:Jw .non=true:=id rfl
@[simp] theorem ZGz:Jw (.tup ds)=false:=id rfl
@[simp] theorem ev_max:S6 [.int i,.int j] G=.ok (.int (max i j)) G:=by
 show R.ok (D.int (if j > i then j else i)) G=_
 congr 2
 split <;> omega
@[simp] theorem ev_min:Jf [.int i,.int j] G=.ok (.int (min i j)) G:=by
 show R.ok (D.int (if j < i then j else i)) G=_
 congr 2
 split <;> omega
@[simp] theorem ZHT:Ml [.bl k] G=.ok (.int (if k then 1 else 0)) G:=id rfl
@[simp] theorem ZHK:Bf (.tup ds) G=some ds:=id rfl
@[simp] theorem ZHS:Bf (.fl ds) G=some ds:=id rfl
@[simp] theorem ZBX:Bf (.ref n) G=(match G[n]? with | some (.lst xs)=>some xs | _=>none):=id rfl
@[simp] theorem ZG6:Fp [.tup ds] G=.ok (.int ds.length) G:=id rfl
@[simp] theorem ZGs:Fp [.fl ds] G=.ok (.int ds.length) G:=id rfl
@[simp] theorem ev_ixT:Aj (.tup ds) (.int i) G=(match atI ds i with | some v=>.ok v G | none=>.bad):=id rfl
@[simp] theorem ev_ixF:Aj (.fl ds) (.int i) G=(match atI ds i with | some v=>.ok v G | none=>.bad):=id rfl
theorem ZDC {k:Nat} (h:k < n):ixN n (k:Int)=some k:=by unfold ixN;rw [if_pos (by omega),if_pos (by omega)];simp
theorem ZBu {xs:List α} {k:Nat} {d:α} (h:xs[k]? =some d):atI xs (k:Int)=some d:=by unfold atI;rw [ZDC (List.getElem?_eq_some_iff.mp h).1];exact h
theorem En {xs:List α} {j:Int} {k:Nat} {d:α} (e:j=k) (h:xs[k]? =some d):atI xs j=some d:=by subst e;exact ZBu h
@[simp] theorem atI_0 {a:α} {xs:List α}:atI (a::xs) 0=some a:=En (k:=0) rfl rfl
@[simp] theorem atI_1 {a b:α} {xs:List α}:atI (a::b::xs) 1=some b:=En (k:=1) rfl rfl
@[simp] theorem atI_2 {a b c:α} {xs:List α}:atI (a::b::c::xs) 2=some c:=En (k:=2) rfl rfl
@[simp] theorem atI_3 {a b c d:α} {xs:List α}:atI (a::b::c::d::xs) 3=some d:=En (k:=3) rfl rfl
@[simp] theorem atI_4 {a b c d e:α} {xs:List α}:atI (a::b::c::d::e::xs) 4=some e:=En (k:=4) rfl rfl
@[simp] theorem atI_6 {a b c d e f g:α} {xs:List α}:atI (a::b::c::d::e::f::g::xs) 6=some g:=En (k:=6) rfl rfl
@[simp] theorem ZGj:Cu ds G=if ds.length<=1000000 then .ok (.tup ds) G else .bad:=id rfl
@[simp] theorem ZGt:Ax ds G=if ds.length<=1000000 then .ok (.ref G.length) (G++ [.lst ds]) else .bad:=id rfl
@[simp] theorem ZHR:Fd [.fl ds] G=.ok (.tup ds) G:=id rfl
@[simp] theorem ZG3:Fd [.ref n] G=(match G[n]? with | some (.lst xs)=>.ok (.tup xs) G | _=>.bad):=by
 unfold Fd;simp only [ZBX];cases G[n]? with
 | none=>rfl
 | some o=>cases o <;> rfl
@[simp] theorem ev_itT:Eh (.tup ds) G=.ok (.pure ds) G:=id rfl
@[simp] theorem ev_itF:Eh (.fl ds) G=.ok (.pure ds) G:=id rfl
@[simp] theorem ZGw:rng1 [.int j] G=if inR j then .ok (.pure (Bp 0 j.toNat)) G else .bad:=id rfl
theorem Ey (h0: -1000000000<=i) (h:i<=1000000000):inR i:=⟨by omega,by omega⟩
@[simp] theorem ZGk:isL (.ref n) G=(match G[n]? with | some (.lst _)=>true | _=>false):=id rfl
@[simp] theorem ev_app:Ex (.ref n) [d] G=(match G[n]? with | some (.lst xs)=>if xs.length < 1000000 then .ok .non (G.set n (.lst (xs++ [d]))) else .bad | _=>.bad):=id rfl
@[simp] theorem Q9 {ks:List Int}:Dz [.fl (ks.map D.int)] G=.ok (.int ks.sum) G:=by simp [Dz]
@[simp] theorem Vc {ks:List Int}:Dz [.tup (ks.map D.int)] G=.ok (.int ks.sum) G:=by simp [Dz]
@[simp] theorem ZGp:Hy [d,.ty "int"] G=(match tyD G d with | some .int=>.ok (.bl true) G | some .bl=>.ok (.bl true) G | some _=>.ok (.bl false) G | none=>.bad):=by
 unfold Hy;dsimp only;cases tyD G d with
 | none=>rfl
 | some t=>cases t <;> rfl
@[simp] theorem ZHN:Hy [d,.ty "bool"] G=(match tyD G d with | some .bl=>.ok (.bl true) G | some _=>.ok (.bl false) G | none=>.bad):=by
 unfold Hy;dsimp only;cases tyD G d with
 | none=>rfl
 | some t=>cases t <;> rfl
end
section
variable {c:Prop} [Decidable c]
@[simp] theorem ite_ok {a b:α} :(if c then R.ok a G else R.ok b G)=R.ok (if c then a else b) G:=by split <;> rfl
theorem ZCO {S':DSt} :(if c then SR.nx S G else SR.nx S' G')=SR.nx (if c then S else S') (if c then G else G'):=by split <;> rfl
theorem ZDc {a b:α} {l m:List α}:(if c then a::l else b::m)=(if c then a else b)::(if c then l else m):=by split <;> rfl
theorem ZGB {a b:α}:(if c then some a else some b)=some (if c then a else b):=by split <;> rfl
theorem ite_int {a b:Int}:(if c then D.int a else D.int b)=D.int (if c then a else b):=by split <;> rfl
end
def Ld (kvs:List (Key×D)) (k:Key):Option D:=(kvs.find? λkv=>decide (kv.1=k)).map (·.2)
def putD (kvs:List (Key×D)) (k:Key) (v:D):List (Key×D):=
 if (kvs.any λkv=>decide (kv.1=k))=true then kvs.map (λkv=>if kv.1=k then (kv.1,v) else kv) else kvs++ [(k,v)]
def ZAV (d:D) (G:DH):Option (List (Key×D)):=match d with
 | .ref i=>match G[i]? with
  | some (.dct kvs)=>some kvs
  | _=>none
 | _=>none
theorem RepKV.nil:RepKV a [] []:=⟨rfl,rfl⟩
theorem RepKV.cons {k:Key} {us:List (Key×V)} (h:RepKV a ((k,d)::kvs) us):∃v r,us=(k,v)::r/\Rep a d v/\RepKV a kvs r:=by
 obtain ⟨h1,v,r,h2,h3,h4⟩:=h;cases us with
 | nil=>cases h2
 | cons p us=>
  obtain ⟨q,w⟩:=p;simp only [List.map_cons,List.cons.injEq] at h1 h2;obtain ⟨rfl,h1⟩:=h1;obtain ⟨rfl,rfl⟩:=h2;exact ⟨w,us,rfl,h3,h1,h4⟩
theorem RepKV.mk {k:Key} {us:List (Key×V)} (h:Rep a d v) (r:RepKV a kvs us):RepKV a ((k,d)::kvs) ((k,v)::us):=
 ⟨by simp only [List.map_cons,r.1],Reps.cons h r.2⟩
theorem RepKV.val {k:Key}:∀{kvs:List (Key×D)} {us:List (Key×V)},RepKV a kvs us->(Ld kvs k=none/\Er us k=none)∨∃d v,Ld kvs k=some d/\Er us k=some v/\Rep a d v
 | [],us,h=>by obtain ⟨h1,_⟩:=h;have:us= []:=List.map_eq_nil_iff.mp h1.symm;subst this;exact .inl ⟨rfl,rfl⟩
 | (q,d)::kvs,us,h=>by
  obtain ⟨v,r,rfl,h1,h2⟩:=RepKV.cons h;by_cases e:q=k
  ·exact .inr ⟨d,v,by simp [Ld,List.find?_cons,e],by simp [Er,List.find?_cons,e],h1⟩
  ·rcases RepKV.val (k:=k) h2 with ⟨e1,e2⟩ | ⟨d',v',e1,e2,e3⟩
   ·exact .inl ⟨by simpa [Ld,List.find?_cons,e] using e1,by simpa [Er,List.find?_cons,e] using e2⟩
   ·exact .inr ⟨d',v',by simpa [Ld,List.find?_cons,e] using e1,by simpa [Er,List.find?_cons,e] using e2,e3⟩
theorem RepKV.any {k:Key}:∀{kvs:List (Key×D)} {us:List (Key×V)},RepKV a kvs us->(kvs.any λkv=>decide (kv.1=k))=us.any λkv=>decide (kv.1=k)
 | [],us,h=>by
  obtain ⟨h1,_⟩:=h;have:us= []:=List.map_eq_nil_iff.mp h1.symm;subst this
  rfl
 | (q,d)::kvs,us,h=>by obtain ⟨v,r,rfl,h1,h2⟩:=RepKV.cons h;simp only [List.any_cons,RepKV.any (k:=k) h2]
theorem RepKV.repl {k:Key} (hv:Rep a d v):∀{kvs:List (Key×D)} {us:List (Key×V)},RepKV a kvs us->RepKV a (kvs.map λkv=>if kv.1=k then (kv.1,d) else kv) (us.map λkv=>if kv.1=k then (kv.1,v) else kv)
 | [],us,h=>by obtain ⟨h1,_⟩:=h;have:us= []:=List.map_eq_nil_iff.mp h1.symm;subst this;exact RepKV.nil
 | (q,e)::kvs,us,h=>by
  obtain ⟨w,r,rfl,h1,h2⟩:=RepKV.cons h;simp only [List.map_cons];by_cases hq:q=k
  ·rw [if_pos hq,if_pos hq];exact RepKV.mk hv (RepKV.repl hv h2)
  ·rw [if_neg hq,if_neg hq];exact RepKV.mk h1 (RepKV.repl hv h2)
theorem RepKV.put {k:Key} {us:List (Key×V)} (h:RepKV a kvs us) (hv:Rep a d v):RepKV a (putD kvs k d) (putK us k v):=by
 unfold putD putK;rw [RepKV.any (k:=k) h];split
 ·exact RepKV.repl hv h
 ·exact ⟨by simp [h.1],by have:=Reps.append h.2 (Reps.cons hv (Reps.nil));simpa using this⟩
theorem RepKV.len {us:List (Key×V)} (h:RepKV a kvs us):kvs.length=us.length:=by have:=congrArg List.length h.1;simpa using this
theorem Sim.dct {x:V} (s:Sim a G) (r:Rep a d x) (h:ZAV d G=some kvs):∃i us,d=.ref i/\i < a.n/\x=.ref (a.m i)/\G[i]? =some (.dct kvs)/\a.H (a.m i)=some (.dK us)/\RepKV a kvs us:=by
 cases d with
 | ref i=>
  unfold ZAV at h;dsimp only at h;split at h
  ·rename_i ks hi;cases h;obtain ⟨us,e1,r1⟩:=s.obj i _ hi;exact ⟨i,us,rfl,r.1,r.2,hi,e1,r1⟩
  ·cases h
 | _=>cases h
section
variable {X:Cx} {E:XK}
end
section
variable {S:DSt} {G:DH} {n:Nat} {kvs:List (Key×D)}
end
def cutD {α:Type} (xs:List α) (lo hi:Option Int):List α:=(xs.drop (HT.sIx xs.length 0 lo)).take (HT.sIx xs.length xs.length hi - HT.sIx xs.length 0 lo)
def Kv (z:Str) (lo hi:Option Int):Str:=⟨(cutD z.cps.toList lo hi).toArray⟩
theorem Pb (xs:List α) (lo hi:Option Int):(cutD xs lo hi).length<=xs.length:=by unfold cutD;rw [List.length_take,List.length_drop];omega
def H9 (t:Option DE) (S:DSt) (G:DH):R (Option Int):=match t with
 | none=>.ok none G
 | some t=>(t S G).bind λd G1=>match d with
  | .int i=>.ok (some i) G1
  | _=>.bad
def Ie (d:D) (lo hi:Option Int) (G:DH):R D:=match d with
 | .str z=>if z.length<=1000000 then .ok (.str (Kv z lo hi)) G else .bad
 | .tup xs=>.ok (.tup (cutD xs lo hi)) G
 | d=>match Ei d G with
  | some xs=>.ok (.ref G.length) (G++ [.lst (cutD xs lo hi)])
  | none=>.bad
def dSl (e:DE) (lo hi:Option DE):DE:=λS G=>(e S G).bind λd G1=>(H9 lo S G1).bind λl G2=>(H9 hi S G2).bind λh G3=>Ie d l h G3
theorem I9 (n:Nat) (v:Int):((HT.sIx n n (some v):Nat):Int)=max 0 (min (if v < 0 then v + (n:Int) else v) n)/\((HT.sIx n 0 (some v):Nat):Int)=max 0 (min (if v < 0 then v + (n:Int) else v) n):=by
 unfold HT.sIx;by_cases hv:v < 0
 ·simp only [if_pos hv];omega
 ·simp only [if_neg hv];omega
theorem ZEQ (xs:Array Nat) (i k:Nat):(List.range k).filterMap (λm=>xs[i + m]?)=(xs.toList.drop i).take k:=by
 induction k generalizing i with
 | zero=>simp
 | succ k ih=>
  rw [List.range_succ_eq_map,List.filterMap_cons];have e:(List.map Nat.succ (List.range k)).filterMap (λm=>xs[i + m]?)=(List.range k).filterMap (λm=>xs[i + 1 + m]?):=by
   rw [List.filterMap_map]
   congr 1
   funext m;simp only [Function.comp]
   congr 1
   omega
  rw [e,ih (i + 1)];by_cases hi:i < xs.size
  ·have h1:xs[i + 0]? =some xs[i]:=by simp [hi]
   rw [h1];have h2:xs.toList.drop i=xs[i]::xs.toList.drop (i + 1):=by rw [List.drop_eq_getElem_cons (by simpa using hi)];simp
   rw [h2];simp
  ·have h1:xs[i + 0]? =none:=by simp;omega
   rw [h1];simp only;rw [List.drop_of_length_le (by simp;omega),List.drop_of_length_le (by simp;omega)];simp
theorem ZEI (x:Str) (lo hi:Option Int):Txt.slice x lo hi=Kv x lo hi:=by
 have hlen:x.length=x.cps.toList.length:=by simp [Str.length]
 have key:(Builtin.Str.strSliceIndices lo hi 1 x.length).filterMap (x.cps[·]?)=cutD x.cps.toList lo hi:=by
  have e1:∀(v:Option Int),(match v with | none=>(0:Int) | some i=>max 0 (min (if i < 0 then i + (x.length:Int) else i) x.length))=((HT.sIx x.length 0 v:Nat):Int):=λv=>by
   cases v with
   | none=>rfl
   | some i=>exact (I9 x.length i).2.symm
  have e2:∀(v:Option Int),(match v with | none=>(x.length:Int) | some i=>max 0 (min (if i < 0 then i + (x.length:Int) else i) x.length))=((HT.sIx x.length x.length v:Nat):Int):=λv=>by
   cases v with
   | none=>rfl
   | some i=>exact (I9 x.length i).1.symm
  have e3:Builtin.Str.strSliceIndices lo hi 1 x.length=sliceRange ((HT.sIx x.length 0 lo:Nat):Int) ((HT.sIx x.length x.length hi:Nat):Int) 1:=by
   rw [<-e1 lo,<-e2 hi];unfold Builtin.Str.strSliceIndices
   cases lo <;> cases hi <;> simp
  rw [e3];unfold sliceRange cutD;rw [List.filterMap_map,<-hlen];generalize HT.sIx x.length 0 lo=i;generalize HT.sIx x.length x.length hi=j;have e4:((λa=>x.cps[a]?) ∘ λ(k:Nat)=>((i:Int) + 1 * (k:Int)).toNat)=λk=>x.cps[i + k]? :=by
   funext k;simp only [Function.comp]
   congr 1
   omega
  have e5:(if (1:Int) > 0 then if (i:Int) < (j:Int) then ((j:Int) - i + 1 - 1) / 1 else 0 else if (i:Int) > (j:Int) then ((i:Int) - j - 1 - 1) / -1 else 0).toNat=j - i:=by
   rw [if_pos (by omega)];split
   ·rw [Int.ediv_one];omega
   ·omega
  rw [e4,e5];exact ZEQ x.cps i (j - i)
 unfold Txt.slice Kv;split
 ·rename_i h;have h':(Builtin.Str.strSliceIndices lo hi 1 x.length).length=x.length:=by simpa using h
  have hsz:(cutD x.cps.toList lo hi).length=x.cps.toList.length∨(cutD x.cps.toList lo hi).length < x.cps.toList.length:=by have:=Pb x.cps.toList lo hi;omega
  have hall:(cutD x.cps.toList lo hi).length=x.cps.toList.length:=by
   have e3:(Builtin.Str.strSliceIndices lo hi 1 x.length).length=HT.sIx x.length x.length hi - HT.sIx x.length 0 lo:=by
    have e1:∀(v:Option Int),(match v with | none=>(0:Int) | some i=>max 0 (min (if i < 0 then i + (x.length:Int) else i) x.length))=((HT.sIx x.length 0 v:Nat):Int):=λv=>by
     cases v with
     | none=>rfl
     | some i=>exact (I9 x.length i).2.symm
    have e2:∀(v:Option Int),(match v with | none=>(x.length:Int) | some i=>max 0 (min (if i < 0 then i + (x.length:Int) else i) x.length))=((HT.sIx x.length x.length v:Nat):Int):=λv=>by
     cases v with
     | none=>rfl
     | some i=>exact (I9 x.length i).1.symm
    have e3:Builtin.Str.strSliceIndices lo hi 1 x.length=sliceRange ((HT.sIx x.length 0 lo:Nat):Int) ((HT.sIx x.length x.length hi:Nat):Int) 1:=by
     rw [<-e1 lo,<-e2 hi];unfold Builtin.Str.strSliceIndices
     cases lo <;> cases hi <;> simp
    rw [e3];unfold sliceRange;rw [List.length_map,List.length_range];generalize HT.sIx x.length 0 lo=i;generalize HT.sIx x.length x.length hi=j;rw [if_pos (by omega)];split
    ·rw [Int.ediv_one];omega
    ·omega
   have hj:HT.sIx x.length x.length hi<=x.length:=HT.Yu _ _ (Nat.le_refl _) hi;unfold cutD;rw [List.length_take,List.length_drop,<-hlen];omega
  have hs:(cutD x.cps.toList lo hi).Sublist x.cps.toList:=(List.take_sublist _ _).trans (List.drop_sublist _ _);rw [hs.eq_of_length hall]
 ·rw [key]
section
variable {X:Cx} {E:XK}
theorem Hf:SlR X (λx lo hi H Q=>∃z:Str,x=.str z/\z.length<=sizeLine/\Q (.str (Kv z lo hi)) H):=by
 intro pins s σ H x v vl vu lo hi sl Q I rx hs pl pu h;obtain ⟨z,rfl,hz,q⟩:=h;obtain ⟨t,rfl⟩:=rx;refine ⟨"str",_,PySem.F.slot_str_getitem.lookup,typeIs_str _ _ _,?_⟩
 have fin:∀(l u:Option (Int×Tok)),vl=partValue l->vu=partValue u->l.map (·.1)=lo->u.map (·.1)=hi->wpAny (model X.prog X.w) X.A (getItem (.str z t) (.ref sl)) (EP X pins σ Q) X.xe s:=by
  rintro l u rfl rfl rfl rfl
  refine wpAny_getItem_str_slice (l:=l) (u:=u) (st:=none) (show s.heap.IsSlice sl l u none from hs) rfl ?_
  have e:∀Q',(Txt.slice z (l.map (·.1)) (u.map (·.1))).length<=sizeLine/\(∀t' k,Q' (.str (Txt.slice z (l.map (·.1)) (u.map (·.1))) t') {s with toks:=k})->(sliceMade z t l u none).post Q' s:=λQ' hq=>post_val_or_str hq
  refine e _ ⟨Nat.le_trans (Txt.slice_le z _ _) hz,λt' k=> ?_⟩;rw [ZEI];exact ⟨.str _,H,I.tok k,⟨t',rfl⟩,q⟩
 cases pl with
 | none=>cases pu with
  | none=>exact fin none none rfl rfl rfl rfl
  | int j tj=>exact fin none (some (j,tj)) rfl rfl rfl rfl
 | int i ti=>cases pu with
  | none=>exact fin (some (i,ti)) none rfl rfl rfl rfl
  | int j tj=>exact fin (some (i,ti)) (some (j,tj)) rfl rfl rfl rfl
theorem ZBt {prog:Program} {E:Value->Shared->Prop} {t sl:Addr} {items:Array Value} {vl vu:Value} {Q:Value->Shared->Prop} (ht:IsTup s.heap t items) (hs:s.heap.IsSliceOf sl vl vu .none) (pl:IsPart vl lo) (pu:IsPart vu hi)
  (hw:HT.sIx items.size 0 lo=0/\HT.sIx items.size items.size hi=items.size) (h:Q (.ref t) s):wpAny (model prog w) A (getItem (.ref t) (.ref sl)) Q E s:=by
 obtain ⟨os,hos,hcs,hds⟩:=id hs;have hTs:s.TypeIs (.ref sl) "slice":=⟨os,hos,hcs⟩;unfold getItem
 try with_reducible refine wpAny_holding ?_
 first | refine wpAny_bind (wpAny_pure ?_) | skip
 refine wpAny_bind (wpAny_sequenceKey ht.typeIs (by decide) ?_);refine wpAny_bind (wpAny_callSpecial?_slot (name:=Str.ofString "__getitem__") ht.typeIs PyProof.Rows.slot_tuple_getitem
  (wpAny_call_entry PyProof.Rows.slot_tuple_getitem ht.typeIs entry_tuple_getitem ?_ (args_tuple_getitem _ _)))
 show wpAny _ _ (Builtin.Tuple.tupleItemsOf (.ref t) >>=_) _ _ s;refine wpAny_bind (tupleItemsOf_ ht ?_);refine wpAny_bind (wpAny_typeOf hTs ?_);rw [if_pos (by decide)];refine wpAny_bind (HT.ZBB hs pl pu ?_);have hyes:(((HT.sIx items.size 0 lo:Nat):Int) == 0 && (1:Int) == 1 && (HT.sIx items.size items.size hi - HT.sIx items.size 0 lo) == items.size)=true:=by rw [hw.1,hw.2];simp
 show wpAny _ _ (if (((HT.sIx items.size 0 lo:Nat):Int) == 0 && (1:Int) == 1 && (HT.sIx items.size items.size hi - HT.sIx items.size 0 lo) == items.size)=true then _ else _) _ _ s;rw [if_pos hyes];refine wpAny_bind ?_;unfold Builtin.Tuple.tupleIsExact;refine wpAny_bind (wpAny_typeOf ht.typeIs (wpAny_pure ?_));rw [if_pos (by decide)];exact wpAny_bind (wpAny_rule (wpAny_pure ⟨_,rfl,wpAny_pure h⟩))
theorem ZFF:SlR X (λx lo hi H Q=>∃a xs,x=.ref a/\SqT X.K H a xs/\(HT.sIx xs.length 0 lo=0/\HT.sIx xs.length xs.length hi=xs.length)/\Q (.ref a) H):=by
 intro pins s σ H x v vl vu lo hi sl Q I rx hs pl pu h;obtain ⟨a,xs,rfl,hx,hw,q⟩:=h;cases rx;obtain ⟨its,r,ht,hz⟩:=I.tuple hx;have hlen:its.toArray.size=xs.length:=by rw [List.size_toArray];exact r.length.symm
 exact ⟨"tuple",_,PyProof.Rows.slot_tuple_getitem.lookup,ht.typeIs,ZBt ht hs pl pu (by rw [hlen];exact hw) ⟨.ref a,H,I,rfl,q⟩⟩
def K9 (E:XK) (a:Wd) (r:R (Option Int)) (Q:Option Int->Hp->Prop):Prop:=match r with
 | .ok k G=>∀(b:Wd),Ext a b->Sim b G->Q k b.H
 | .err x G=>XOk E a x G
 | .bad=>False
def QO (X:Cx) (E:XK) (e:Option Expr) (t:Option DE):Prop:=PO X e (λσ H Q=>∃(a:Wd) (S:DSt) (G:DH),a.K=X.K/\a.H=H/\Sim a G/\RepS a S σ/\K9 E a (H9 t S G) Q)
theorem _root_.L2.PO.mono {e:Option Expr} {t t':TO} (h:PO X e t) (w:∀σ H Q,t' σ H Q->t σ H Q):PO X e t':=λpins s σ H Q I q=>h pins s σ H Q I (w σ H Q q)
theorem Ho:QO X E none none:=ZC2.mono λσ H Q h=>by obtain ⟨a,S,G,hk,rfl,s,r,h⟩:=h;exact h a (Ext.refl a) s
theorem Bw (he:QE X E e t):QO X E (some e) (some t):=(ZCG he).mono λσ H Q h=>by
 obtain ⟨a,S,G,hk,rfl,s,r,h⟩:=h;refine ⟨a,S,G,hk,rfl,s,r,?_⟩
 have h':K9 E a ((t S G).bind λd G1=>match d with | .int i=>.ok (some i) G1 | _=>.bad) Q:=h
 cases ht:t S G with
 | ok d G1=>
  rw [ht] at h';intro b v x sb rv;cases d with
  | int i=>exact ⟨i,rv,h' b x sb⟩
  | _=>exact h'.elim
 | err x G1=>rw [ht] at h';exact h'
 | bad=>rw [ht] at h';exact h'
theorem Reps.cutD (r:Reps a ds vs) (lo hi:Option Int):Reps a (DL.cutD ds lo hi) (Hu vs lo hi):=by unfold DL.cutD Hu;rw [r.length];exact (r.drop _).take _
theorem K9.imp {r:R (Option Int)} {Q Q':Option Int->Hp->Prop} (h:K9 E a r Q) (w:∀v H,Q v H->Q' v H):K9 E a r Q':=by
 cases r with
 | ok d G=>exact λb x s=>w _ _ (h b x s)
 | err e G=>exact h
 | bad=>exact h
theorem U9 {r:R (Option Int)} {f:Option Int->DH->R D} (h:out E a (r.bind f) Q):
  K9 E a r (λk H=>∃(b:Wd) (G:DH),b.H=H/\Ext a b/\Sim b G/\r=.ok k G/\out E b (f k G) Q):=by
 cases r with
 | ok d G=>exact λb x s=>⟨b,G,rfl,x,s,rfl,out.mono x h⟩
 | err e G=>exact h
 | bad=>exact h
theorem Dm {lo hi:Option Expr} {tl th:Option DE} {p2 pos:Pos} (he:QE X E e te) (hl:QO X E lo tl) (hu:QO X E hi th):QE X E (.Subscript e (.Slice lo hi none p2) pos) (dSl te tl th):=
 (ZD4 (ZEd.or (ZCd.or (ZFF.or Hf))) he hl hu).mono λσ H Q h=>by
 obtain ⟨a,S,G,hk,rfl,s,r,h⟩:=h;refine ⟨a,S,G,hk,rfl,s,r,(Gk h).imp ?_⟩;rintro v _ ⟨b,d,G1,rfl,x,s1,q,_,h1⟩;refine ⟨b,S,G1,x.k.trans hk,rfl,s1,r.mono x,(U9 h1).imp ?_⟩;rintro l _ ⟨c,G2,rfl,y,s2,_,h2⟩;refine ⟨c,S,G2,y.k.trans (x.k.trans hk),rfl,s2,(r.mono x).mono y,(U9 h2).imp ?_⟩;rintro u _ ⟨c3,G3,rfl,y3,s3,_,h3⟩;have hk3:=y3.k.trans (y.k.trans (x.k.trans hk));have q3:=(q.mono y).mono y3
 have lst:out E c3 (match Ei d G3 with | some xs=>.ok (.ref G3.length) (G3++ [.lst (cutD xs l u)]) | none=>.bad) Q->rSlL X.K v l u c3.H Q:=λh3=>by
  split at h3
  ·rename_i xs hx;obtain ⟨p,vs,e1,q1,r1⟩:=Rw s3 q3 hx;exact ⟨p,vs,e1,by rw [<-hk3];exact q1,λp hp=>Pr s3 (Reps.cutD r1 l u) h3 p hp⟩
  ·exact h3.elim
 cases d with
 | str z=>
  have h4:out E c3 (if z.length<=1000000 then .ok (.str (Kv z l u)) G3 else .bad) Q:=h3;split at h4
  ·rename_i hl
   cases (show v=V.str z from q3)
   exact .inr (.inr (.inr ⟨z,rfl,Nat.le_trans hl size6,h4 c3 _ (Ext.refl _) s3 rfl⟩))
  ·exact h4.elim
 | tup xs=>
  have h4:out E c3 (.ok (.tup (cutD xs l u)) G3) Q:=h3;obtain ⟨p,vs,e1,q1,r1⟩:=q3;by_cases hw:HT.sIx vs.length 0 l=0/\HT.sIx vs.length vs.length u=vs.length
  ·refine .inr (.inr (.inl ⟨p,vs,e1,by rw [<-hk3];exact q1,hw,h4 c3 _ (Ext.refl _) s3 ⟨p,vs,rfl,q1,?_⟩⟩));have:cutD xs l u=xs:=by unfold cutD;rw [r1.length,hw.1,hw.2,<-r1.length];simp
   rw [this];exact r1
  ·exact .inr (.inl ⟨p,vs,e1,by rw [<-hk3];exact q1,hw,λp hp=>Vf s3 (Reps.cutD r1 l u) h4 p hp⟩)
 | fl xs=>exact .inl (lst h3)
 | ref i=>exact .inl (lst h3)
 | non=>exact (show False from h3).elim
 | bl _=>exact (show False from h3).elim
 | int _=>exact (show False from h3).elim
 | ty _=>exact (show False from h3).elim
def isS:D->Bool
 | .str _=>true
 | _=>false
def Qz (f:D->List D->DH->R D) (o:DE) (t:DA):DE:=λS G=>(o S G).bind λx G1=>if isS x=true then (t S G1).bind λxs G2=>f x xs G2 else .bad
section
variable {name:Str} {id:String} {f:D->List D->DH->R D} {o e:Expr} {es:List Expr} {to:DE} {t:DA} {apos cpos:Pos}
theorem Yn (slot:Slot "str" name id) (hty:typeOf (.builtin id)=pure (.type "method_descriptor")) (hm:MtM X id (lRm X.K E f)) (ho:QE X E o to) (ha:QA X E (e::es) t)
  (hbase:attributeBase o name X.env (eval o X.env)=eval o X.env:=by rfl)
  (hfew:((backTo cpos (starEach (e::es) X.env)).all (λx=> !x.1) && (backToKw cpos (keywordEach [] X.env)).all (λx=>x.1.isSome)
   && decide ((e::es).length + ([]:List Keyword).length + (if ([]:List Keyword).isEmpty then 0 else 1) < 30))=true:=by rfl)
  (hline:(apos.endLine == cpos.line)=true:=by rfl) (hs:starEach (e::es) X.env=(false,eval e X.env)::starEach es X.env:=by rfl) (hplain:(backTo cpos (starEach es X.env)).any (·.1)=false:=by rfl):
  QE X E (.Call (.Attribute o name apos) (e::es) [] cpos) (Qz f to t):=(ZBM PySem.F.plainAttrs_str slot hty hm ho ha hbase hfew hline hs hplain).mono λσ H Q h=>by
 obtain ⟨a,S,G,hk,rfl,s,r,h⟩:=h;refine ⟨a,S,G,hk,rfl,s,r,(Gk h).imp ?_⟩;rintro v _ ⟨b,d,G1,rfl,x,s1,q,-,h1⟩;split at h1
 ·rename_i hl;have ty:tyV X.K "str" v b.H:=by
   cases d with
   | str z=>cases (show v=V.str z from q);exact rfl
   | _=>cases hl
  refine ⟨ty,b,S,G1,x.k.trans hk,rfl,s1,r.mono x,(Nf h1).imp ?_⟩;rintro vs _ ⟨c,ds,G2,rfl,y,s2,q2,-,h2⟩;exact ⟨c,G2,d,ds,y.k.trans (x.k.trans hk),rfl,s2,q.mono y,q2,h2⟩
 ·exact h1.elim
end
def Kr:List D->Option (List Str)
 | []=>some []
 | .str x::r=>(Kr r).map (x::·)
 | _=>none
@[simp] theorem ZHF (ns:List Str):Kr (ns.map D.str)=some ns:=by
 induction ns with
 | nil=>rfl
 | cons n ns ih=>simp [Kr,ih]
theorem ZAq:∀{xs:List D} {ns:List Str},Kr xs=some ns->xs=ns.map D.str
 | [],ns,h=>by cases h;rfl
 | .str i::r,ns,h=>by
  unfold Kr at h;rw [Option.map_eq_some_iff] at h;obtain ⟨m,e,rfl⟩:=h;rw [ZAq e]
  rfl
 | .non::_,_,h=>by cases h
 | .bl _::_,_,h=>by cases h
 | .int _::_,_,h=>by cases h
 | .ty _::_,_,h=>by cases h
 | .tup _::_,_,h=>by cases h
 | .fl _::_,_,h=>by cases h
 | .ref _::_,_,h=>by cases h
def Hk (sep:List Nat):List (List Nat)->List Nat
 | []=> []
 | [x]=>x
 | x::y::r=>x++sep++Hk sep (y::r)
def Km (o:D) (ds:List D) (G:DH):R D:=match o,ds with
 | .str sep,[d]=>match Bf d G with
  | some xs=>match Kr xs with
   | some ys=>if (ys.map (·.length)).sum + ys.length * sep.length<=1000000 then .ok (.str (Txt.join sep ys)) G else .bad
   | none=>.bad
  | none=>.bad
 | _,_=>.bad
theorem Ut:∀{ys:List Str} {us:List Value},Vals (ys.map V.str) us->StrsAre us ys
 | [],us,r=>by cases r;exact .nil
 | y::ys,us,r=>by
  cases r with
  | cons h t=>
   obtain ⟨tk,rfl⟩:=h;exact .cons _ _ (Ut t)
theorem Yy:∀{ys:List Str} {vs:List V},Reps a (ys.map D.str) vs->vs=ys.map V.str
 | [],vs,r=>r
 | y::ys,vs,r=>by
  obtain ⟨v,w,rfl,h1,h2⟩:=r
  cases (show v=V.str y from h1)
  rw [Yy h2]
  rfl
theorem ZFB:MtM X "str.join" (lRm X.K E Km):=λpins s σ H x xs v us Q I rx rs h=>by
 obtain ⟨a,G,d,ds,hk,rfl,sm,rd,r,q⟩:=h;unfold Km at q;split at q
 ·rename_i sep e;obtain ⟨w,rfl,rw'⟩:=reps1 r
  cases (show x=V.str sep from rd)
  obtain ⟨t,rfl⟩:=rx;split at q
  ·rename_i ys hs;split at q
   ·rename_i zs hz;split at q
    ·rename_i hl;obtain ⟨p,vs,rfl,h1,r1⟩:=Jb sm rw' hs;rw [ZAq hz] at r1;have ev:=Yy r1;subst ev;obtain ⟨u,rfl,ru⟩:=vals1 rs;cases ru;rw [hk] at h1;rcases h1 with h1 | h1
     ·obtain ⟨its,r2,pl,_⟩:=I.list h1;exact join_list pl.isList (by simpa using Ut r2) (Nat.le_trans hl (by decide)) λt' k=>⟨.str _,a.H,I.tok k,⟨t',rfl⟩,q a _ (Ext.refl a) sm rfl⟩
     ·obtain ⟨its,r2,pl,_⟩:=I.tuple h1;exact join_tuple pl (by simpa using Ut r2) (Nat.le_trans hl (by decide)) λt' k=>⟨.str _,a.H,I.tok k,⟨t',rfl⟩,q a _ (Ext.refl a) sm rfl⟩
    ·exact q.elim
   ·exact q.elim
  ·exact q.elim
 ·exact q.elim
def R3 (o:D) (ds:List D) (G:DH):R D:=match o,ds with
 | .str x,[.str y]=>.ok (.int (Txt.find x y)) G
 | _,_=>.bad
theorem m_find:MtM X "str.find" (lRm X.K E R3):=λpins s σ H x xs v us Q I rx rs h=>by
 obtain ⟨a,G,d,ds,hk,rfl,sm,rd,r,q⟩:=h;unfold R3 at q;split at q
 ·rename_i x' y;obtain ⟨w,rfl,rw'⟩:=reps1 r
  cases (show x=V.str x' from rd)
  cases (show w=V.str y from rw')
  obtain ⟨t,rfl⟩:=rx;obtain ⟨u,rfl,u',rfl⟩:=vals1 rs;exact SC.find ⟨.int _,a.H,I.tok _,⟨_,rfl⟩,q a _ (Ext.refl a) sm rfl⟩
 ·exact q.elim
end
section
variable {S:DSt} {G:DH}
@[simp] theorem ev_Sl {e:DE} {lo hi:Option DE}:dSl e lo hi S G=(e S G).bind λd G1=>(H9 lo S G1).bind λl G2=>(H9 hi S G2).bind λh G3=>Ie d l h G3:=id rfl
@[simp] theorem ZHL:H9 none S G=.ok none G:=id rfl
@[simp] theorem ZGm:H9 (some t) S G=(t S G).bind λd G1=>match d with | .int i=>.ok (some i) G1 | _=>.bad:=id rfl
@[simp] theorem Hx {z:Str} :Ie (.str z) lo hi G=if z.length<=1000000 then .ok (.str (Kv z lo hi)) G else .bad:=id rfl
@[simp] theorem ev_slF:Ie (.fl xs) lo hi G=.ok (.ref G.length) (G++ [.lst (cutD xs lo hi)]):=id rfl
@[simp] theorem ev_MtS {f:D->List D->DH->R D} {o:DE} {t:DA}:Qz f o t S G=(o S G).bind λx G1=>if isS x=true then (t S G1).bind λxs G2=>f x xs G2 else .bad:=id rfl
@[simp] theorem ev_isS:isS (.str x)=true:=id rfl
@[simp] theorem ZG9 {y:Str}:R3 (.str x) [.str y] G=.ok (.int (Txt.find x y)) G:=id rfl
@[simp] theorem ZBv:Eh (.str x) G=.ok (.pure (signs x)) G:=id rfl
@[simp] theorem ZGl {ys:List D}:An (.fl xs) (.fl ys) G=if xs.length + ys.length<=1000000 then .ok (.ref G.length) (G++ [.lst (xs++ys)]) else .bad:=id rfl
@[simp] theorem Ig {z:Str} {i:Int}:Aj (.str z) (.int i) G=if z.length<=1000000 then (match atI z.cps.toList i with | some c=>.ok (sgn c) G | none=>.bad) else .bad:=id rfl
theorem ZGb {sep:Str} {ys:List Str} (h:(ys.map (·.length)).sum + ys.length * sep.length<=1000000):Km (.str sep) [.fl (ys.map D.str)] G=.ok (.str (Txt.join sep ys)) G:=by simp [Km,h]
end
end DL
namespace DL
open PySem PySem.Spec L2
open PyProof.Rows hiding St
open Builtin.Str
variable {g:DG} {te:DE} {S:DSt} {G:DH} {F:D->Option D}
section
variable (p:Nat->Bool) (m:Nat)
end
theorem ZD0 (sep:Str):∀(xs:List Str),(Txt.join sep xs).cps.toList=Hk sep.cps.toList (xs.map (·.cps.toList))
 | []=>rfl
 | [x]=>by simp [Txt.join,glued,Hk]
 | x::y::r=>by
  have key:∀(r:List Str) (acc:Array Nat),(r.foldl (λacc p=>acc++sep.cps++p.cps) acc).toList=acc.toList++(r.map λp=>sep.cps.toList++p.cps.toList).flatten:=by
   intro r
   induction r with
   | nil=>intro acc;simp
   | cons p r ih=>intro acc;rw [List.foldl_cons,ih];simp
  have j:∀(x:Str) (r:List Str),Hk sep.cps.toList ((x::r).map (·.cps.toList))=x.cps.toList++(r.map λp=>sep.cps.toList++p.cps.toList).flatten:=by
   intro x r
   induction r generalizing x with
   | nil=>simp [Hk]
   | cons p r ih=>
    have:=ih p;simp only [List.map_cons] at this ⊢;rw [Hk,this];simp
  rw [j];show (glued sep (x::y::r)).cps.toList=_;unfold glued;simp only [List.drop_one,List.tail_cons,List.headD_cons];rw [key]
def CStep (g:DG) (c:DB) (te:DE) (S:DSt) (G:DH) (x:D) (r:Option D):Prop:=
 ∃S1,g x S G=.ok S1 G/\((c S1 G=.ok false G/\r=none)∨(c S1 G=.ok true G/\∃d,te S1 G=.ok d G/\r=some d))
theorem Yb {c:DB} :∀{xs:List D},(∀x∈xs,CStep g c te S G x (F x))->Bx g c te S xs G=.ok (xs.filterMap F) G
 | [],_=>rfl
 | x::xs,h=>by
  obtain ⟨S1,h1,h2⟩:=h x (by simp);have ih:=Yb (λy hy=>h y (List.mem_cons_of_mem _ hy));rw [Ih,h1];rcases h2 with ⟨h2,h3⟩ | ⟨h2,d,h3,h4⟩
  ·simp [h2,h3,ih,List.filterMap_cons]
  ·simp [h2,h3,h4,ih,List.filterMap_cons]
theorem Zu {i:Nat} {c:DB} {xs:List D} (hG:G[i]? =some (.lst xs)) (h:∀x∈xs,CStep g c te S G x (F x)):
  ∀(n j:Nat),j + n=xs.length->Do i g c te S n j G=.ok ((xs.drop j).filterMap F) G
 | 0,j,hj=>by
  unfold Do;rw [hG];simp only;rw [if_pos (by omega),List.drop_of_length_le (by omega)]
  rfl
 | n + 1,j,hj=>by
  have hlt:j < xs.length:=by omega
  have ih:=Zu hG h n (j + 1) (by omega);obtain ⟨S1,h1,h2⟩:=h xs[j] (List.getElem_mem hlt);unfold Do;rw [hG];simp only;rw [List.getElem?_eq_getElem hlt];simp only [h1,R.Rg];rw [List.drop_eq_getElem_cons hlt,List.filterMap_cons];rcases h2 with ⟨h2,h3⟩ | ⟨h2,d,h3,h4⟩
  ·simp [h2,h3,ih]
  ·simp [h2,h3,h4,ih]
theorem ZEq {i:Nat} {c:DB} {xs:List D} (hG:G[i]? =some (.lst xs)) (h:∀x∈xs,CStep g c te S G x (F x)):
  Do i g c te S xs.length 0 G=.ok (xs.filterMap F) G:=Zu hG h xs.length 0 (by omega)
theorem Y5:∀xs:List (List Nat),Hk [] xs=xs.flatten
 | []=>rfl
 | [x]=>by simp [Hk]
 | x::y::r=>by rw [Hk,Y5 (y::r)];simp
theorem ZCW (cs:List Nat):Txt.join ("":Str) (cs.map λc=>(⟨#[c]⟩:Str))=⟨cs.toArray⟩:=by
 have h:=ZD0 ("":Str) (cs.map λc=>(⟨#[c]⟩:Str));have e:("":Str).cps.toList= []:=by decide +kernel
 rw [e,Y5,List.map_map] at h;have e2:(cs.map ((λx:Str=>x.cps.toList) ∘ λc=>(⟨#[c]⟩:Str))).flatten=cs:=by
  clear h
  induction cs with
  | nil=>rfl
  | cons c cs ih=>simp only [List.map_cons,List.flatten_cons,ih];rfl
 rw [e2] at h;generalize Txt.join ("":Str) (cs.map λc=>(⟨#[c]⟩:Str))=z at h;obtain ⟨a⟩:=z;simp only at h;rw [<-h]
end DL
namespace DL
open PySem PySem.Spec L2
open PyProof.Rows hiding St
variable {h h':Heap} {p z:Addr} {k i:Nat} {os:List Value}
inductive Src where
 | l (a:Addr)
 | t (a:Addr)
variable {sr:Src} {l:List (Src×Addr)}
def Src.itn:Src->String
 | .l _=>"list_iterator"
 | .t _=>"tuple_iterator"
def Src.adr:Src->Addr
 | .l a=>a
 | .t a=>a
def Src.it (h:Heap) (p:Addr) (k:Nat) (sr:Src):Prop:=∃o,h.get? p=some o/\o.cls=.type sr.itn/\o.data=.fields #[.ref sr.adr,.int k 0]
def Src.val (h:Heap) (xs:Array Value):Src->Prop
 | .l a=>h.IsList a xs
 | .t a=>h.IsTuple a xs
theorem Src.it.at (x:sr.it h p k) (e:∀o,h.get? p=some o->h'.get? p=some o):sr.it h' p k:=let ⟨o,ho,r⟩:=x;⟨o,e o ho,r⟩
theorem Src.val.at {xs:Array Value} (x:sr.val h xs) (e:∀o,h.get? sr.adr=some o->h'.get? sr.adr=some o):sr.val h' xs:=by
 cases sr with
 | l a=>obtain ⟨o,ho,r⟩:=x;exact ⟨o,e o ho,r⟩
 | t a=>obtain ⟨o,ho,r⟩:=x;exact ⟨o,e o ho,r⟩
theorem Src.it.lt (x:sr.it h p k):p < h.objs.size:=let ⟨_,ho,_⟩:=x;Heap.lt_size ho
section
variable {prog:Program} {w:World} {A:Around} {E:Value->Shared->Prop} {s:Shared}
theorem Src.val.obj {xs:Array Value} (x:sr.val h xs):∃o n,h.get? sr.adr=some o/\o.data=.seq xs n:=by
 cases sr with
 | l a=>obtain ⟨o,ho,_,n,hd⟩:=x;exact ⟨o,n,ho,hd⟩
 | t a=>obtain ⟨o,ho,_,n,hd⟩:=x;exact ⟨o,n,ho,hd⟩
theorem Src.next_item {xs:Array Value} {x:Value} {Q:Value->Shared->Prop} (hit:sr.it s.heap p k) (hv:sr.val s.heap xs) (hx:xs[k]? =some x)
  (hQ:∀h',sr.it h' p (k + 1)->Heap.SameBut p s.heap h'->Q x {s with heap:=h'}):wpAny (model prog w) A (Builtin.SmallTypes.nextOf (.ref p)) Q E s:=by
 cases sr with
 | l a=>exact wpAny_nextOf_list_item (show s.heap.IsListIter p a k from hit) hv hx hQ
 | t a=>
  obtain ⟨o,ho,hc,hd⟩:=id hit;obtain ⟨ol,hol,_,nl,hdl⟩:=hv;have hT:s.TypeIs (.ref p) "tuple_iterator":=⟨o,ho,hc⟩;unfold Builtin.SmallTypes.nextOf;refine wpAny_bind (wpAny_callSpecial?_slot (name:=Str.ofString "__next__") hT PySem.F.slot_tuple_iterator_next (wpAny_call_entry PySem.F.slot_tuple_iterator_next hT PySem.F.entry_tuple_iterator_next ?_ (PySem.F.args_tuple_iterator_next_1 _)));refine wpAny_bind (m:=field (.ref p) 0) (wpAny_field ho hd (x:=.ref a) rfl ?_)
  show wpAny _ _ (if (Value.ref a == Value.none)=true then _ else (field (.ref p) 1 >>=_)) _ _ s
  rw [if_neg (show¬((Value.ref a == Value.none)=true) from Bool.false_ne_true)]
  refine wpAny_bind (m:=field (.ref p) 1) (wpAny_field ho hd (x:=.int k 0) rfl (wpAny_bind (m:=seqItems? (.ref a)) (wpAny_seqItems hol hdl ?_)));simp only [Int.toNat_natCast,hx];refine wpAny_bind (wpAny_setField ho hd (by simp) (wpAny_pure ⟨x,rfl,wpAny_pure (hQ _ ⟨_,Heap.get?_update_self _ ho (Obj.isFreed_of_fields (Obj.data_mapFields hd _)),(Obj.cls_mapFields ..).trans hc,?_⟩ (Heap.SameBut.update ..))⟩))
  rw [Obj.data_mapFields hd];simp [rawInt,Src.adr]
theorem Src.next_end {xs:Array Value} {Q:Value->Shared->Prop} (hh:A.handled=none) (hit:sr.it s.heap p k) (hv:sr.val s.heap xs) (hx:xs[k]? =none)
  (hE:∀h' e,Heap.ExtBut p s.heap h'->(∃o,h'.get? e=some o/\o.cls=.type "StopIteration")->E (.ref e) {s with heap:=h'}):wpAny (model prog w) A (Builtin.SmallTypes.nextOf (.ref p)) Q E s:=by
 cases sr with
 | l a=>exact wpAny_nextOf_list_end hh (show s.heap.IsListIter p a k from hit) hv hx hE
 | t a=>
  obtain ⟨o,ho,hc,hd⟩:=id hit;obtain ⟨ol,hol,_,nl,hdl⟩:=hv;have hT:s.TypeIs (.ref p) "tuple_iterator":=⟨o,ho,hc⟩;unfold Builtin.SmallTypes.nextOf;refine wpAny_bind (wpAny_callSpecial?_slot (name:=Str.ofString "__next__") hT PySem.F.slot_tuple_iterator_next (wpAny_call_entry PySem.F.slot_tuple_iterator_next hT PySem.F.entry_tuple_iterator_next ?_ (PySem.F.args_tuple_iterator_next_1 _)));refine wpAny_bind (m:=field (.ref p) 0) (wpAny_field ho hd (x:=.ref a) rfl ?_)
  show wpAny _ _ (if (Value.ref a == Value.none)=true then _ else (field (.ref p) 1 >>=_)) _ _ s
  rw [if_neg (show¬((Value.ref a == Value.none)=true) from Bool.false_ne_true)]
  refine wpAny_bind (m:=field (.ref p) 1) (wpAny_field ho hd (x:=.int k 0) rfl (wpAny_bind (m:=seqItems? (.ref a)) (wpAny_seqItems hol hdl ?_)));simp only [Int.toNat_natCast,hx];refine wpAny_bind (wpAny_rule (wpAny_bind (wpAny_setField ho hd (by simp) (wpAny_bind (m:=newExc (.type "StopIteration") []) ?_))));simp only [newExc,newTuple]
  refine wpAny_bind (wpAny_newObj_type (wpAny_bind (m:=firstArgMember _ _) (wpAny_of_eq (a:=Value.none) (by first | rfl | (simp only [firstArgMember];rfl)) (wpAny_newObj_type ?_ (by size_fits)))) (by size_fits))
  simp only [raiseNew];refine wpAny_bind (wpAny_handled ?_)
  first | rw [show A.in1.handled=none from hh] | rw [hh]
  exact wpAny_bind (wpAny_pure (wpAny_throw (hE _ _ (((Heap.SameBut.update ..).extBut.push _).push _) ⟨_,Heap.get?_push_size _ rfl,rfl⟩)))
theorem Src.iter {xs:Array Value} {Q:Value->Shared->Prop} (hv:sr.val s.heap xs)
  (hQ:Q (.ref s.heap.objs.size) {s with heap:=s.heap.push {cls:=.type sr.itn,data:=.fields #[.ref sr.adr,.int 0 0]}}):wpAny (model prog w) A (pyIter (.ref sr.adr)) Q E s:=by
 cases sr with
 | l a=>exact wpAny_pyIter_list hv hQ
 | t a=>exact wpAny_pyIter_tuple hv hQ
end
section
variable {prog:Program} {w:World} {A:Around} {E:Value->Shared->Prop} {s:Shared}
end
abbrev Tp (h:Heap) (T:Addr) (xs:List Value):Prop:=h.get? T=some {cls:=.type "tuple",data:=.seq xs.toArray}
inductive Drw (h:Heap) (i:Nat):List (Src×Addr)->List Value->Prop where
 | nil:Drw h i [] []
 | cons {sr p r x us xs} (hit:Src.it h p i sr) (hv:sr.val h xs) (hx:xs[i]? =some x) (t:Drw h i r us):Drw h i ((sr,p)::r) (x::us)
theorem Drw.length {us:List Value} (d:Drw h i l us):us.length=l.length:=by
 induction d with
 | nil=>rfl
 | cons _ _ _ _ ih=>simp [ih]
section
variable {prog:Program} {w:World} {A:Around} {E:Value->Shared->Prop} {s:Shared}
theorem ZDN {T:Addr} {xs:List Value} {x:Value} {Q:Unit->Shared->Prop} (hT:Tp s.heap T xs) (hz:xs.length<=1000000)
  (h:∀h',Tp h' T (xs.set k x)->Heap.SameBut T s.heap h'->Q () {s with heap:=h'}):wpAny (model prog w) A (updateSeq T (·.setIfInBounds k x)) Q E s:=by
 have h1:xs.toArray.size<=sizeLine:=by rw [List.size_toArray];exact Nat.le_trans hz size6
 refine wpAny_updateSeq hT rfl (h _ ?_ (Heap.SameBut.update ..)) h1 (by rw [Array.size_setIfInBounds];exact Nat.le_succ_of_le h1);show (s.heap.update T _).get? T=_;rw [Heap.get?_update_self _ hT rfl];simp [Obj.mapSeq]
def ZS (prog:Program) (w:World) (A:Around) (E:Value->Shared->Prop) (z TO p:Addr) (k:Nat) (R:Shared->Prop) (s:Shared):Prop:=
 wpAny (model prog w) A (Builtin.SmallTypes.nextOf (.ref p)) (λx s1=>∃os,Tp s1.heap TO os/\os.length<=1000000/\∀h',Tp h' TO (os.set k x)->Heap.SameBut TO s1.heap h'->R {s1 with heap:=h'})
  (λe s'=>wpAny (model prog w) A (setField (.ref z) 0 .none) (λ_ s''=>E e s'') E s') s
theorem Yo {TO:Addr} {xs:Array Value} {x:Value} {Q:Shared->Prop} (hTO:Tp s.heap TO os) (hz:os.length<=1000000) (hit:sr.it s.heap p i) (hv:sr.val s.heap xs) (hx:xs[i]? =some x)
  (h:∀h',Tp h' TO (os.set k x)->sr.it h' p (i + 1)->(∀b o,b≠TO->b≠p->s.heap.get? b=some o->h'.get? b=some o)->h'.objs.size=s.heap.objs.size->Q {s with heap:=h'}):ZS prog w A E z TO p k Q s:=by
 have hne:TO≠p:=λe=>by
  obtain ⟨o,ho,hc,_⟩:=hit;rw [<-e,hTO] at ho;cases ho
  cases sr <;> (simp [Src.itn] at hc)
 refine Src.next_item hit hv hx λh₁ it₁ sb₁=>⟨os,sb₁.extBut _ _ hne hTO,hz,λh₂ t₂ sb₂=> ?_⟩
 exact h h₂ t₂ (it₁.at λo e=>sb₂.extBut _ _ (Ne.symm hne) e) (λb o b1 b2 e=>sb₂.extBut b o b1 (sb₁.extBut b o b2 e)) (by rw [sb₂.1];show h₁.objs.size=_;rw [sb₁.1])
theorem ZAW {TO:Addr} {body:Value×Nat->Option Fin×PUnit->Sem (ForInStep (Option Fin×PUnit))} {R:Option Fin×PUnit->Shared->Prop}
  (hb:∀(p:Addr) (k:Nat) (s:Shared) (R':ForInStep (Option Fin×PUnit)->Shared->Prop),ZS prog w A E z TO p k (λs'=>R' (.yield (none,⟨⟩)) s') s->
   wpAny (model prog w) A (body (.ref p,k) (none,⟨⟩)) R' E s):
  ∀(l:List (Src×Addr)) (us pre post:List Value) (s:Shared),Drw s.heap i l us->Tp s.heap TO (pre++post)->post.length=l.length->(pre++post).length<=1000000->(l.map (·.2)).Nodup->(∀q∈l,q.1.adr≠TO)->(∀q∈l,∀r∈l,q.1.adr≠r.2)->
   (∀h',Tp h' TO (pre++us)->(∀q∈l,q.1.it h' q.2 (i + 1))->(∀b o,b≠TO->b ∉ l.map (·.2)->s.heap.get? b=some o->h'.get? b=some o)->h'.objs.size=s.heap.objs.size->R (none,⟨⟩) {s with heap:=h'})->
   wpAny (model prog w) A (forIn ((l.map λq=>Value.ref q.2).zipIdx pre.length) (none,⟨⟩) body) R E s
 | [],us,pre,post,s,d,hT,hl,hz,nd,na,np,hR=>by
  cases d;cases post with
  | cons _ _=>simp at hl
  | nil=>
   rw [List.map_nil,List.zipIdx_nil,List.forIn_nil];exact wpAny_pure (hR s.heap hT (λq hq=>by cases hq) (λb o _ _ e=>e) rfl)
 | (sr,p)::l,us,pre,post,s,d,hT,hl,hz,nd,na,np,hR=>by
  cases d with
  | @cons _ _ _ x us xs hit hv hx d=>
  cases post with
  | nil=>simp at hl
  | cons y post=>
   rw [List.map_cons,List.zipIdx_cons,List.forIn_cons];refine wpAny_bind (hb p pre.length s _ (Yo hT hz hit hv hx λh' hT' it' kp sz=> ?_));have e1:(pre++y::post).set pre.length x=(pre++ [x])++post:=by simp
   rw [e1] at hT';have e2:pre.length + 1=(pre++ [x]).length:=by simp
   dsimp only;rw [e2]
   have nd':p ∉ l.map (·.2)/\(l.map (·.2)).Nodup:=by simpa using nd
   have hTOp:∀q∈l,q.2≠TO:=λq hq e=>by
    have:∃sr k,Src.it s.heap q.2 k sr:=by
     clear hR na np nd nd' e1 e2 hl hT' hz
     induction d with
     | nil=>cases hq
     | cons hit _ _ _ ih=>
      rcases List.mem_cons.mp hq with rfl | hq
      ·exact ⟨_,_,hit⟩
      ·exact ih hq
    obtain ⟨sr',k,o,ho,hc,_⟩:=this;rw [e,hT] at ho;cases ho
    cases sr' <;> (simp [Src.itn] at hc)
   have d':Drw h' i l us:=by
    have na':∀q∈l,q.1.adr≠TO:=λq hq=>na q (List.mem_cons_of_mem _ hq)
    have np':∀q∈l,q.1.adr≠p:=λq hq=>np q (List.mem_cons_of_mem _ hq) (sr,p) List.mem_cons_self
    have pp:∀q∈l,q.2≠p:=λq hq e=>nd'.1 (List.mem_map.mpr ⟨q,hq,e⟩)
    clear hR na np nd nd' e1 e2 hl hT' hz
    induction d with
    | nil=>exact .nil
    | @cons sr1 p1 r1 x1 us1 xs1 hit1 hv1 hx1 t1 ih=>
     refine .cons (hit1.at λo e=>kp _ o (hTOp _ List.mem_cons_self) (pp _ List.mem_cons_self) e) (hv1.at λo e=>kp _ o (na' _ List.mem_cons_self) (np' _ List.mem_cons_self) e) hx1 ?_;exact ih (λq hq=>hTOp q (List.mem_cons_of_mem _ hq)) (λq hq=>na' q (List.mem_cons_of_mem _ hq)) (λq hq=>np' q (List.mem_cons_of_mem _ hq)) (λq hq=>pp q (List.mem_cons_of_mem _ hq))
   refine ZAW hb l us (pre++ [x]) post {s with heap:=h'} d' hT' (by simpa using hl) (by simpa using hz) nd'.2 (λq hq=>na q (List.mem_cons_of_mem _ hq)) (λq hq r hr=>np q (List.mem_cons_of_mem _ hq) r (List.mem_cons_of_mem _ hr)) λh'' t'' its'' kp'' sz''=> ?_
   have hpTO:p≠TO:=λe=>by
    obtain ⟨o,ho,hc,_⟩:=hit;rw [e,hT] at ho;cases ho
    cases sr <;> (simp [Src.itn] at hc)
   refine hR h'' (by simpa using t'') (λq hq=> ?_) (λb o b1 b2 e=> ?_) (sz''.trans sz)
   ·rcases List.mem_cons.mp hq with rfl | hq
    ·exact it'.at λo e=>kp'' _ o hpTO nd'.1 e
    ·exact its'' q hq
   ·simp only [List.map_cons,List.mem_cons,not_or] at b2;exact kp'' b o b1 b2.2 (kp b o b1 b2.1 e)
end
inductive DrwE (h:Heap) (i:Nat):List (Src×Addr)->Prop where
 | here {sr p r xs} (hit:Src.it h p i sr) (hv:sr.val h xs) (hx:xs[i]? =none):DrwE h i ((sr,p)::r)
 | there {sr p r x xs} (hit:Src.it h p i sr) (hv:sr.val h xs) (hx:xs[i]? =some x) (t:DrwE h i r):DrwE h i ((sr,p)::r)
structure ApZ (TO:Addr) (l:List (Src×Addr)):Prop where
 nd:(l.map (·.2)).Nodup
 na:∀q∈l,q.1.adr≠TO
 np:∀q∈l,∀r∈l,q.1.adr≠r.2
 to:∀q∈l,q.2≠TO
theorem ApZ.tail {TO:Addr} {q:Src×Addr} (a:ApZ TO (q::l)):ApZ TO l:=
 ⟨(List.nodup_cons.mp (by simpa using a.nd)).2,λq hq=>a.na q (List.mem_cons_of_mem _ hq),λq hq r hr=>a.np q (List.mem_cons_of_mem _ hq) r (List.mem_cons_of_mem _ hr),λq hq=>a.to q (List.mem_cons_of_mem _ hq)⟩
section
variable {prog:Program} {w:World} {A:Around} {E:Value->Shared->Prop} {s:Shared}
theorem DrwE.at {TO:Addr} (a:ApZ TO ((sr,p)::l)) (kp:∀b o,b≠TO->b≠p->h.get? b=some o->h'.get? b=some o) (d:DrwE h i l):DrwE h' i l:=by
 have pp:∀q∈l,q.2≠p:=λq hq e=>(List.nodup_cons.mp (by simpa using a.nd)).1 (List.mem_map.mpr ⟨q,hq,e⟩)
 have np:∀q∈l,q.1.adr≠p:=λq hq=>a.np q (List.mem_cons_of_mem _ hq) (sr,p) List.mem_cons_self
 have a':=a.tail;clear a
 induction d with
 | here hit hv hx=>exact .here (hit.at λo e=>kp _ o (a'.to _ List.mem_cons_self) (pp _ List.mem_cons_self) e) (hv.at λo e=>kp _ o (a'.na _ List.mem_cons_self) (np _ List.mem_cons_self) e) hx
 | there hit hv hx t ih=>
  exact .there (hit.at λo e=>kp _ o (a'.to _ List.mem_cons_self) (pp _ List.mem_cons_self) e) (hv.at λo e=>kp _ o (a'.na _ List.mem_cons_self) (np _ List.mem_cons_self) e) hx
   (ih (λq hq=>pp q (List.mem_cons_of_mem _ hq)) (λq hq=>np q (List.mem_cons_of_mem _ hq)) a'.tail)
theorem Yd {TO:Addr} {body:Value×Nat->Option Fin×PUnit->Sem (ForInStep (Option Fin×PUnit))} {R:Option Fin×PUnit->Shared->Prop} (hh:A.handled=none)
  (hb:∀(p:Addr) (k:Nat) (s:Shared) (R':ForInStep (Option Fin×PUnit)->Shared->Prop),ZS prog w A E z TO p k (λs'=>R' (.yield (none,⟨⟩)) s') s->
   wpAny (model prog w) A (body (.ref p,k) (none,⟨⟩)) R' E s):
  ∀(l:List (Src×Addr)) (os:List Value) (n:Nat) (s:Shared),DrwE s.heap i l->Tp s.heap TO os->os.length<=1000000->ApZ TO l->
   (∀h' e,(∀b o,b≠TO->b ∉ l.map (·.2)->s.heap.get? b=some o->h'.get? b=some o)->(∃o,h'.get? e=some o/\o.cls=.type "StopIteration")->wpAny (model prog w) A (setField (.ref z) 0 .none) (λ_ s''=>E (.ref e) s'') E {s with heap:=h'})->
   wpAny (model prog w) A (forIn ((l.map λq=>Value.ref q.2).zipIdx n) (none,⟨⟩) body) R E s
 | [],os,n,s,d,hT,hz,a,hE=>by cases d
 | (sr,p)::l,os,n,s,d,hT,hz,a,hE=>by
  rw [List.map_cons,List.zipIdx_cons,List.forIn_cons];refine wpAny_bind (hb p n s _ ?_);cases d with
  | here hit hv hx=>
   exact Src.next_end hh hit hv hx λh' e xb st=>hE h' e (λb o b1 b2 q=>xb b o (λz=>b2 (by rw [z];simp)) q) st
  | there hit hv hx t=>
   refine Yo hT hz hit hv hx λh' hT' it' kp sz=> ?_
   refine Yd hh hb l _ (n + 1) {s with heap:=h'} (t.at a kp) hT' (by simpa using hz) a.tail λh'' e kp'' st=> ?_
   refine hE h'' e (λb o b1 b2 q=> ?_) st;simp only [List.map_cons,List.mem_cons,not_or] at b2;exact kp'' b o b1 b2.2 (kp b o b1 b2.1 q)
theorem Yl {TI TO:Addr} {R:Fin->Shared->Prop} (hz:IsZip s.heap z TI TO .none) (hTI:Tp s.heap TI (l.map λq=>Value.ref q.2)) (hne:l≠ [])
  (h:∀h₁,IsZip h₁ z TI TO .ellipsis->Heap.SameBut z s.heap h₁->∀body:Value×Nat->Option Fin×PUnit->Sem (ForInStep (Option Fin×PUnit)),
   (∀(p:Addr) (k:Nat) (s:Shared) (R':ForInStep (Option Fin×PUnit)->Shared->Prop),ZS prog w A E z TO p k (λs'=>R' (.yield (none,⟨⟩)) s') s->
    wpAny (model prog w) A (body (.ref p,k) (none,⟨⟩)) R' E s)->
   wpAny (model prog w) A (forIn ((l.map λq=>Value.ref q.2).zipIdx 0) (none,⟨⟩) body) (λr s'=>r.1=none/\∃us,Tp s'.heap TO us/\us.length<=1000000/\IsZip s'.heap z TI TO .ellipsis/\
    ∀h',IsZip h' z TI TO (rawInt s'.heap.objs.size)->Tp h' s'.heap.objs.size us->h'.objs.size=s'.heap.objs.size + 1->(∀b o,b≠z->s'.heap.get? b=some o->h'.get? b=some o)->R (.done (.ret (.ref s'.heap.objs.size))) {s' with heap:=h'}) E {s with heap:=h₁}):
  wpAny (model prog w) A (Builtin.«zip.__next__» ⟨[.ref z],[]⟩) R E s:=by
 refine wpAny_bind (m:=field (.ref z) 2) (wpAny_field hz rfl (x:=.bool false) rfl (wpAny_bind (m:=field (.ref z) 3) (wpAny_field hz rfl (x:=.ref TI) rfl (wpAny_bind (m:=seqItems? (.ref TI)) (wpAny_seqItems hTI rfl ?_)))));dsimp only;have hemp:(l.map λq=>Value.ref q.2).toArray.isEmpty=false:=by cases l with
  | nil=>exact absurd rfl hne
  | cons _ _=>simp
 rw [hemp];refine wpAny_bind (m:=Builtin.SmallTypes.ownedTupleIsFree (.ref z)) ?_;unfold Builtin.SmallTypes.ownedTupleIsFree;refine wpAny_bind (wpAny_field hz rfl (x:=.none) rfl (wpAny_pure ?_));simp only [if_true];refine wpAny_bind (wpAny_rule (wpAny_bind (wpAny_field hz rfl (x:=.ref TO) rfl (wpAny_bind (wpAny_setField_rec hz (by simp) λh₁ hz₁ hs₁=> ?_)))));refine wpAny_bind (wpAny_mono (h h₁ hz₁ hs₁ _ λp k s R' hst=> ?_) (λr s' hr=> ?_) λ_ _ x=>x)
 ·refine wpAny_bind (wpAny_onRaise ?_);show wpAny _ _ (Builtin.SmallTypes.nextOf (.ref p) >>=λv=>pure (some v)) _ _ s;refine wpAny_bind (wpAny_mono hst (λx s1 hx=>wpAny_pure ?_) λ_ _ x=>x);obtain ⟨os,hT,hl,hR⟩:=hx;dsimp only;refine wpAny_bind (wpAny_seqItems hT rfl ?_);dsimp only;exact wpAny_bind (ZDN hT hl λh' t' sb=>wpAny_bind (wpAny_letGo (wpAny_pure (hR h' t' sb))))
 ·obtain ⟨hn,us,hT,hl,hzz,hR⟩:=hr;rw [hn];dsimp only;refine wpAny_bind (wpAny_seqItems hT rfl ?_);dsimp only;refine wpAny_bind (wpAny_newTuple ?_ (by show us.toArray.toList.length<=_;simpa using Nat.le_trans hl size6));have hzlt:z < s'.heap.objs.size:=Heap.lt_size hzz;refine wpAny_bind (m:=Builtin.SmallTypes.ownedTupleHandOut _ _) ?_;unfold Builtin.SmallTypes.ownedTupleHandOut;have e1:us.toArray.toList.toArray=us.toArray:=by simp
  rw [e1];have hz2:IsZip (s'.heap.push {cls:=.type "tuple",data:=.seq us.toArray}) z TI TO .ellipsis:=Heap.get?_push_of_some _ hzz;refine wpAny_bind (wpAny_setField_rec hz2 (by simp) λh₇ hz₇ hs₇=> ?_);refine wpAny_setField_rec hz₇ (by simp) λh₈ hz₈ hs₈=> ?_
  refine wpAny_pure (hR h₈ hz₈ ?_ ?_ λb o hb q=>hs₈.extBut _ _ hb (hs₇.extBut _ _ hb (Heap.get?_push_of_some _ q)))
  ·exact hs₈.extBut _ _ (Nat.ne_of_gt hzlt) (hs₇.extBut _ _ (Nat.ne_of_gt hzlt) (Heap.get?_push_size _ rfl))
  ·rw [hs₈.1];show h₇.objs.size=_;rw [hs₇.1,Heap.size_push]
theorem ZDl {TI TO:Addr} {us:List Value} {Q:Option Value->Shared->Prop} (hz:IsZip s.heap z TI TO .none) (hTI:Tp s.heap TI (l.map λq=>Value.ref q.2)) (hTO:Tp s.heap TO os) (hlen:os.length=l.length) (hsz:l.length<=1000000) (hne:l≠ [])
  (a:ApZ TO l) (zz:z≠TO/\(∀q∈l,q.2≠z/\q.1.adr≠z)) (d:Drw s.heap i l us)
  (hQ:∀h',IsZip h' z TI TO (rawInt s.heap.objs.size)->Tp h' TO us->(∀q∈l,q.1.it h' q.2 (i + 1))->Tp h' s.heap.objs.size us->h'.objs.size=s.heap.objs.size + 1->
   (∀b o,b≠z->b≠TO->b ∉ l.map (·.2)->s.heap.get? b=some o->h'.get? b=some o)->Q (some (.ref s.heap.objs.size)) {s with heap:=h'}):wpAny (model prog w) A (pyNext (.ref z)) Q E s:=by
 have hT:s.TypeIs (.ref z) "zip":=⟨_,hz,rfl⟩;unfold pyNext;refine wpAny_bind (wpAny_attempt (wpAny_callSpecial?_slot (name:=Str.ofString "__next__") hT PySem.F.slot_zip_next (wpAny_call_entry PySem.F.slot_zip_next hT PySem.F.entry_zip_next ?_ (PySem.F.args_zip_next_1 _))));refine Yl hz hTI hne λh₁ hz₁ hs₁ body hb=> ?_
 have k₁:∀b o,b≠z->s.heap.get? b=some o->h₁.get? b=some o:=λb o hb q=>hs₁.extBut b o hb q
 have d₁:Drw h₁ i l us:=by
  have h1:∀q∈l,q.2≠z/\q.1.adr≠z:=zz.2;clear hTI hlen hsz hne a zz hQ
  induction d with
  | nil=>exact .nil
  | cons hit hv hx t ih=>exact .cons (hit.at λo e=>k₁ _ o (h1 _ List.mem_cons_self).1 e) (hv.at λo e=>k₁ _ o (h1 _ List.mem_cons_self).2 e) hx (ih λq hq=>h1 q (List.mem_cons_of_mem _ hq))
 refine ZAW (z:=z) (TO:=TO) (i:=i) hb l us [] os {s with heap:=h₁} d₁ (k₁ _ _ (Ne.symm zz.1) hTO) hlen (by simpa [hlen] using hsz) a.nd a.na a.np λh₂ t₂ it₂ k₂ sz₂=>⟨rfl,us,t₂,by rw [d.length];exact hsz,?_,λh₃ z₃ p₃ s₃ k₃=> ?_⟩
 ·refine k₂ _ _ zz.1 (λhm=> ?_) hz₁;obtain ⟨q,hq,e⟩:=List.mem_map.mp hm;exact (zz.2 q hq).1 e
 ·have e2:h₂.objs.size=s.heap.objs.size:=by rw [sz₂];exact hs₁.1
  refine ⟨_,rfl,wpAny_pure ?_⟩;show Q (some (.ref h₂.objs.size)) _;have z₃':IsZip h₃ z TI TO (rawInt h₂.objs.size):=z₃;have p₃':Tp h₃ h₂.objs.size us:=p₃;have s₃':h₃.objs.size=h₂.objs.size + 1:=s₃;have k₃':∀b o,b≠z->h₂.get? b=some o->h₃.get? b=some o:=k₃;rw [e2] at z₃' p₃' s₃' ⊢;exact hQ h₃ z₃' (k₃' _ _ (Ne.symm zz.1) t₂) (λq hq=>(it₂ q hq).at λo e=>k₃' _ o (zz.2 q hq).1 e) p₃' s₃' λb o b1 b2 b3 q=>k₃' b o b1 (k₂ b o b2 b3 (k₁ b o b1 q))
theorem ZDH {TI TO:Addr} {Q:Option Value->Shared->Prop} (hh:A.handled=none) (hz:IsZip s.heap z TI TO .none) (hTI:Tp s.heap TI (l.map λq=>Value.ref q.2)) (hTO:Tp s.heap TO os) (hlen:os.length=l.length) (hsz:l.length<=1000000) (hne:l≠ [])
  (a:ApZ TO l) (zz:z≠TO/\(∀q∈l,q.2≠z/\q.1.adr≠z)) (d:DrwE s.heap i l)
  (hQ:∀h',(∀b o,b≠z->b≠TO->b ∉ l.map (·.2)->s.heap.get? b=some o->h'.get? b=some o)->Q none {s with heap:=h'}):wpAny (model prog w) A (pyNext (.ref z)) Q E s:=by
 have hT:s.TypeIs (.ref z) "zip":=⟨_,hz,rfl⟩;unfold pyNext;refine wpAny_bind (wpAny_attempt (wpAny_callSpecial?_slot (name:=Str.ofString "__next__") hT PySem.F.slot_zip_next (wpAny_call_entry PySem.F.slot_zip_next hT PySem.F.entry_zip_next ?_ (PySem.F.args_zip_next_1 _))));refine Yl hz hTI hne λh₁ hz₁ hs₁ body hb=> ?_
 have k₁:∀b o,b≠z->s.heap.get? b=some o->h₁.get? b=some o:=λb o hb q=>hs₁.extBut b o hb q
 have d₁:DrwE h₁ i l:=by
  have h1:∀q∈l,q.2≠z/\q.1.adr≠z:=zz.2;clear hTI hlen hsz hne a zz hQ
  induction d with
  | here hit hv hx=>exact .here (hit.at λo e=>k₁ _ o (h1 _ List.mem_cons_self).1 e) (hv.at λo e=>k₁ _ o (h1 _ List.mem_cons_self).2 e) hx
  | there hit hv hx t ih=>exact .there (hit.at λo e=>k₁ _ o (h1 _ List.mem_cons_self).1 e) (hv.at λo e=>k₁ _ o (h1 _ List.mem_cons_self).2 e) hx (ih λq hq=>h1 q (List.mem_cons_of_mem _ hq))
 refine Yd (A:=A.in1) (z:=z) (TO:=TO) (i:=i) (show A.in1.handled=none from hh) hb l os 0 {s with heap:=h₁} d₁ (k₁ _ _ (Ne.symm zz.1) hTO) (by rw [hlen];exact hsz) a λh₂ e k₂ st=> ?_
 have hz₂:IsZip h₂ z TI TO .ellipsis:=by refine k₂ _ _ zz.1 (λhm=> ?_) hz₁;obtain ⟨q,hq,e⟩:=List.mem_map.mp hm;exact (zz.2 q hq).1 e
 obtain ⟨o,ho,hc⟩:=st;have hez:e≠z:=λx=>by subst x;rw [hz₂] at ho;cases ho;simp at hc
 refine wpAny_setField_rec hz₂ (by simp) λh₃ _ hs₃=> ?_
 refine wpAny_bind (wpAny_isInstance (T:="StopIteration") (b:=true) ⟨o,hs₃.extBut _ _ hez ho,hc⟩ isSubtype_stop (wpAny_pure ?_));exact hQ h₃ λb o b1 b2 b3 q=>hs₃.extBut _ _ b1 (k₂ b o b2 b3 (k₁ b o b1 q))
theorem Za:∀(ls:List Src) (pre:Array Value) (s:Shared) {Q:Array Value->Shared->Prop},(∀sr∈ls,∃xs,sr.val s.heap xs)->
  (∀h',(∀q∈ls.zipIdx s.heap.objs.size,q.1.it h' q.2 0)->h'.objs.size=s.heap.objs.size + ls.length->(∀b o,s.heap.get? b=some o->h'.get? b=some o)->Q (pre++((ls.zipIdx s.heap.objs.size).map λq=>Value.ref q.2).toArray) {s with heap:=h'})->
  wpAny (model prog w) A (forIn (ls.map λsr=>Value.ref sr.adr) pre λx r=>do let v<-holding r.toList (pyIter x);pure (ForInStep.yield (r.push v))) Q E s
 | [],pre,s,Q,hv,h=>by rw [List.map_nil,List.forIn_nil];refine wpAny_pure ?_;have:=h s.heap (λq hq=>by cases hq) rfl (λ_ _ e=>e);simpa using this
 | sr::ls,pre,s,Q,hv,h=>by
  rw [List.map_cons,List.forIn_cons];obtain ⟨xs,hx⟩:=hv sr List.mem_cons_self;refine wpAny_bind (wpAny_bind (wpAny_holding (Src.iter hx (wpAny_pure ?_))));dsimp only;have z1:(s.heap.push {cls:=.type sr.itn,data:=.fields #[.ref sr.adr,.int 0 0]}).objs.size=s.heap.objs.size + 1:=Heap.size_push ..;refine Za ls (pre.push (.ref s.heap.objs.size)) {s with heap:=s.heap.push {cls:=.type sr.itn,data:=.fields #[.ref sr.adr,.int 0 0]}} (λsr' hm=> ?_) λh' hi hz kp=> ?_
  ·obtain ⟨ys,hy⟩:=hv sr' (List.mem_cons_of_mem _ hm);exact ⟨ys,hy.at λo e=>Heap.get?_push_of_some _ e⟩
  ·dsimp only at hi hz kp ⊢;rw [z1] at hi hz ⊢;have:=h h' (λq hq=> ?_) (by rw [hz,List.length_cons];omega) (λb o e=>kp b o (Heap.get?_push_of_some _ e))
   ·rw [List.zipIdx_cons,List.map_cons] at this;simpa using this
   ·rw [List.zipIdx_cons] at hq;rcases List.mem_cons.mp hq with rfl | hq
    ·exact ⟨_,kp _ _ (Heap.get?_push_size _ rfl),rfl,rfl⟩
    ·exact hi q hq
theorem ZBb {ls:List Src} {Q:Value->Shared->Prop} (hv:∀sr∈ls,∃xs,sr.val s.heap xs) (hl:ls.length<=1000000)
  (hct:checkTypeCall "zip" ⟨ls.map λsr=>Value.ref sr.adr,[]⟩=pure ()) (hcn:checkBuiltinCall "zip.__new__" ⟨.type "zip"::ls.map λsr=>Value.ref sr.adr,[]⟩=pure ()) (hok:∀obj,argsOk "object.__init__" ⟨obj::ls.map λsr=>Value.ref sr.adr,[]⟩)
  (h:∀h' n,n=s.heap.objs.size + ls.length->IsZip h' (n + 2) n (n + 1) .none->Tp h' n ((ls.zipIdx s.heap.objs.size).map λq=>Value.ref q.2)->Tp h' (n + 1) (ls.map λ_=>Value.none)->(∀q∈ls.zipIdx s.heap.objs.size,q.1.it h' q.2 0)->
   (∀b o,s.heap.get? b=some o->h'.get? b=some o)->Q (.ref (n + 2)) {s with heap:=h'}):
  wpAny (model prog w) A (call (.type "zip") (ls.map λsr=>Value.ref sr.adr)) Q E s:=by
 have g:Meets (Builtin.«zip.__new__» ⟨.type "zip"::ls.map λsr=>Value.ref sr.adr,[]⟩) (λ_ R s=>(∀sr∈ls,∃xs,sr.val s.heap xs)/\
   ∀h' n,n=s.heap.objs.size + ls.length->IsZip h' (n + 2) n (n + 1) .none->Tp h' n ((ls.zipIdx s.heap.objs.size).map λq=>Value.ref q.2)->Tp h' (n + 1) (ls.map λ_=>Value.none)->(∀q∈ls.zipIdx s.heap.objs.size,q.1.it h' q.2 0)->
    (∀b o,s.heap.get? b=some o->h'.get? b=some o)->R (.ok (.ret (.ref (n + 2)))) {s with heap:=h'}):=
  .of_wp λprog w A R s hh=>by
   obtain ⟨hv,hR⟩:=hh;have hsub:=sub_zip;unfold Builtin.«zip.__new__» Builtin.SmallTypes.newClass
   wp_walk
   refine Za ls #[] s hv λh1 hi hz kp=>wpAny_pure ?_
   have e1:(#[]++((ls.zipIdx s.heap.objs.size).map λq=>Value.ref q.2).toArray:Array Value).toList=(ls.zipIdx s.heap.objs.size).map λq=>Value.ref q.2:=by simp
   rw [e1];have hlen:((ls.zipIdx s.heap.objs.size).map λq=>Value.ref q.2).length=ls.length:=by simp
   refine wpAny_bind (wpAny_newTuple ?_ (by rw [hlen];exact Nat.le_trans hl size6));refine wpAny_bind (wpAny_newTuple ?_ (by rw [List.length_map,hlen];exact Nat.le_trans hl size6));refine wpAny_bind ?_;unfold Builtin.SmallTypes.newRecord;dsimp only;refine wpAny_newObj_type (wpAny_pure ⟨_,rfl,?_⟩) (by simp [sizeOk,Builtin.SmallTypes.ownedTupleFields,sizeLine_eq]);generalize e2:s.heap.objs.size + ls.length=n at *
   have e3:((ls.zipIdx s.heap.objs.size).map λq=>Value.ref q.2).map (λ_=>Value.none)=ls.map λ_=>Value.none:=by refine List.ext_getElem (by simp) λi h1 h2=>by simp
   dsimp only;rw [e3];generalize ((ls.zipIdx s.heap.objs.size).map λq=>Value.ref q.2)=us at *;generalize (ls.map λ_=>Value.none)=ns at *;have s1:(h1.push {cls:=.type "tuple",data:=.seq us.toArray}).objs.size=n + 1:=by rw [Heap.size_push,hz]
   have s2:((h1.push {cls:=.type "tuple",data:=.seq us.toArray}).push {cls:=.type "tuple",data:=.seq ns.toArray}).objs.size=n + 2:=by rw [Heap.size_push,s1]
   show R (.ok (.ret (.ref ((h1.push {cls:=.type "tuple",data:=.seq us.toArray}).push {cls:=.type "tuple",data:=.seq ns.toArray}).objs.size))) _;rw [s2];refine hR _ n rfl ?_ (Heap.get?_push_of_some _ (Heap.get?_push_of_some _ (by rw [<-hz];exact Heap.get?_push_size _ rfl))) (Heap.get?_push_of_some _ (by rw [<-s1];exact Heap.get?_push_size _ rfl)) (λq hq=>(hi q hq).at λo e=>Heap.get?_push_of_some _ (Heap.get?_push_of_some _ (Heap.get?_push_of_some _ e))) λb o e=>Heap.get?_push_of_some _ (Heap.get?_push_of_some _ (Heap.get?_push_of_some _ (kp b o e)))
   have:=Heap.get?_push_size ((h1.push {cls:=.type "tuple",data:=.seq us.toArray}).push {cls:=.type "tuple",data:=.seq ns.toArray}) (o:={cls:=.type "zip",data:=.fields #[.none,.bool false,.bool false,.ref h1.objs.size,.ref (h1.push {cls:=.type "tuple",data:=.seq us.toArray}).objs.size]}) rfl;rw [s2] at this;rw [hz,s1] at this;show _=_;rw [hz,s1];exact this
 refine callType_new PySem.F.called_zip (by decide) hct hcn hok PySem.F.entry_zip_new g ⟨hv,λh' n hn hz hTI hTO hi kp=>⟨⟨_,hz,rfl⟩,h h' n hn hz hTI hTO hi kp⟩⟩
end
end DL
namespace DL
open PySem PySem.W PyProof.Rows
section
structure WO (lt:Nat->Nat->Bool):Prop where
 asy:∀i j,lt i j=true->lt j i=false
 neg:∀i j k,lt i k=true->lt i j=true∨lt j k=true
variable {lt:Nat->Nat->Bool}
theorem WO.refl (o:WO lt) (i:Nat):lt i i=false:=by
 cases h:lt i i
 ·rfl
 ·have:=o.asy i i h;rw [h] at this;exact this
abbrev pt (p:Array Nat) (j:Nat):Nat:=p.getD j 0
theorem Y8 (p:Array Nat) (j:Nat):pt p j=(p[j]?).getD 0:=by simp [pt]
def NIn (lt:Nat->Nat->Bool) (p:Array Nat) (k:Nat):Prop:=∀i j,i<=j->j < k->lt (pt p i) (pt p j)=false
theorem ZAm {p:Array Nat} {i j:Nat} (hj:j<=p.size) (k:Nat):pt (kas_rev p i j) k=if i<=k/\k < j then pt p (i + j - 1 - k) else pt p k:=by
 rw [Y8,kas_rev,getElem?_mirror_all hj]
 split <;> exact (Y8 ..).symm
structure Dn (lt:Nat->Nat->Bool) (p:Array Nat) (n q:Nat):Prop where
 ni:NIn lt p n
 al:∀i j,n - (q + 1)<=i->i < n->n - (q + 1)<=j->j < n->lt (pt p i) (pt p j)=false
 qn:q + 1<=n
theorem NIn.rev {p:Array Nat} {n q:Nat} (d:Dn lt p n q) (hn:n<=p.size):NIn lt (kas_rev p (n - (q + 1)) n) n:=λi j hij hj=>by
 have:=d.qn;rw [ZAm hn,ZAm hn];by_cases h1:n - (q + 1)<=i
 ·rw [if_pos ⟨h1,by omega⟩,if_pos ⟨by omega,hj⟩];exact d.al _ _ (by omega) (by omega) (by omega) (by omega)
 ·rw [if_neg (by omega)];by_cases h2:n - (q + 1)<=j
  ·rw [if_pos ⟨h2,hj⟩];exact d.ni _ _ (by omega) (by omega)
  ·rw [if_neg (by omega)];exact d.ni i j hij hj
end
end DL
namespace DL
open PySem PySem.Spec L2
open PyProof.Rows hiding St
variable {pins:List (Addr×Obj)} {σ:St} {H:Hp} {s:Shared} {K:PySem.W.Frag} {i:Nat} {a:Wd}
section
variable {X:Cx} {pins:List (Addr×Obj)} {σ:St} {H:Hp} {s:Shared} {h':Heap}
theorem ZBS {t':Nat} {fp:List Addr} (I:Inv X pins σ H s) (k:∀b o,b ∉ fp->s.heap.get? b=some o->h'.get? b=some o) (hf:∀b∈fp,FpOk X pins H b):Inv X pins σ H {s with heap:=h',toks:=t'}:=by
 have nit:∀b u,H b=some u->b ∉ fp:=λb u e z=>by rw [(hf b z).1] at e;cases e
 refine I.step (g':=s.gens) (d':=s.drawn) (ch:=fp) (λb hb=> ?_) (λb o _ _ hc e _=>k b o hc e) (λb o _ _ hc e _=>⟨o.slots,k b o hc e⟩) (λ_ _ _ _ n=>n)
  (λb o hc e=>⟨o,k b o hc e⟩) (λ_ _ e=>e) (λ_ _ _ e=>e) (λb ps e=>⟨#[],by rw [e];simp⟩) (λm hm=> ?_) (λb u e=> ?_) I.bare
 ·obtain ⟨f0,f1,f2,f3,f4,f5⟩:=hf b hb;exact ⟨f3,f1,f4,f5⟩
 ·obtain ⟨o,es,ep,ho,r⟩:=hm;exact ⟨o,es,ep,k _ o (λz=>(hf _ z).2.1 rfl) ho,r⟩
 ·refine (I.hok b u e).stay (λc v hc q=>k c v ?_ q) (λ_ q=>q) λ_ _ q=>q
  rcases hc with z | z
  ·rw [z];exact nit b u e
  ·exact nit c _ z
theorem ZEh {t':Nat} {fp:List Addr} {p:Addr} {xs:List V} {its:List Value} (I:Inv X pins σ H s) (k:∀b o,b ∉ fp->s.heap.get? b=some o->h'.get? b=some o) (hf:∀b∈fp,FpOk X pins H b) (hp:s.heap.objs.size<=p)
  (hz:xs.length<=sizeLine) (r:Vals xs its) (ht:Tp h' p its):Inv X pins σ (upd H p (.tup xs)) {s with heap:=h',toks:=t'}:=by
 obtain ⟨g0,g1,g2,g3,g4,g5⟩:=I.Kh (H':=H) hp (I.hok.fresh hp);exact Yj (ZBS I k hf) g0 (Nat.le_trans I.sz hp) g1 g4 g5 ⟨hz,its,r,_,ht,rfl,_,rfl⟩
end
def Src.sq (K:PySem.W.Frag) (H:Hp) (xs:List V):Src->Prop
 | .l a=>SqL K H a xs
 | .t a=>SqT K H a xs
variable {ls:List Src}
theorem Src.sq.val {X:Cx} {sr:Src} {xs:List V} (I:Inv X pins σ H s) (h:sr.sq X.K H xs):∃its:List Value,Vals xs its/\sr.val s.heap its.toArray/\xs.length<=sizeLine:=by
 cases sr with
 | l a=>obtain ⟨its,r,p,hz⟩:=I.list h;exact ⟨its,r,p.isList,hz⟩
 | t a=>obtain ⟨its,r,p,hz⟩:=I.tuple h;exact ⟨its,r,p,hz⟩
theorem Src.sq.inj {X:Cx} {sr:Src} {xs ys:List V} (I:Inv X pins σ H s) (h:sr.sq X.K H xs) (h':sr.sq X.K H ys):xs=ys:=by
 cases sr with
 | l a=>exact I.Vp h h'
 | t a=>exact I.Uj h h'
section
variable {X:Cx} {E:XK}
end
inductive DrV (K:PySem.W.Frag) (H:Hp) (i:Nat):List Src->List V->Prop where
 | nil:DrV K H i [] []
 | cons {sr r v us xs} (hq:Src.sq K H xs sr) (hx:xs[i]? =some v) (t:DrV K H i r us):DrV K H i (sr::r) (v::us)
inductive StV (K:PySem.W.Frag) (H:Hp) (i:Nat):List Src->Prop where
 | here {sr r xs} (hq:Src.sq K H xs sr) (hx:xs.length<=i):StV K H i (sr::r)
 | there {sr r v xs} (hq:Src.sq K H xs sr) (hx:xs[i]? =some v) (t:StV K H i r):StV K H i (sr::r)
def Itz (K:PySem.W.Frag) (ls:List Src):It:=
 ⟨λi H=>∃us,DrV K H i ls us,λi H v H'=>∃p us,v=.ref p/\H p=none/\H'=upd H p (.tup us)/\∀us',DrV K H i ls us'->us'=us,λi H=>StV K H i ls⟩
theorem DrV.length {us:List V} (d:DrV K H i ls us):us.length=ls.length:=by
 induction d with
 | nil=>rfl
 | cons _ _ _ ih=>simp [ih]
section
variable {X:Cx} {pins:List (Addr×Obj)} {σ:St} {H:Hp} {s:Shared}
theorem DrV.inj (I:Inv X pins σ H s) :∀{ls:List Src} {us us':List V},DrV X.K H i ls us->DrV X.K H i ls us'->us=us'
 | [],_,_,d,d'=>by cases d;cases d';rfl
 | sr::ls,_,_,d,d'=>by
  cases d with
  | cons hq hx t=>
   cases d' with
   | cons hq' hx' t'=>
    have e:=Src.sq.inj I hq hq';subst e;rw [hx] at hx';cases hx';rw [DrV.inj I t t']
theorem DrV.drw (I:Inv X pins σ H s) :∀{l:List (Src×Addr)} {us:List V},DrV X.K H i (l.map (·.1)) us->(∀q∈l,q.1.it s.heap q.2 i)->∃ws,Drw s.heap i l ws/\Vals us ws
 | [],us,d,h=>by cases d;exact ⟨[],.nil,.nil⟩
 | (sr,p)::l,us,d,h=>by
  cases d with
  | cons hq hx t=>
   obtain ⟨its,rv,hv,hz⟩:=Src.sq.val I hq;obtain ⟨u,hu,ru⟩:=rv.get hx;obtain ⟨ws,d',r'⟩:=DrV.drw I t λq hq=>h q (List.mem_cons_of_mem _ hq)
   exact ⟨u::ws,.cons (h (sr,p) List.mem_cons_self) hv (by simpa using hu) d',.cons ru r'⟩
theorem StV.drw (I:Inv X pins σ H s) :∀{l:List (Src×Addr)},StV X.K H i (l.map (·.1))->(∀q∈l,q.1.it s.heap q.2 i)->DrwE s.heap i l
 | [],d,h=>by cases d
 | (sr,p)::l,d,h=>by
  cases d with
  | here hq hx=>
   obtain ⟨its,rv,hv,hz⟩:=Src.sq.val I hq;have hl:=rv.length;exact .here (h (sr,p) List.mem_cons_self) hv (by simp;omega)
  | there hq hx t=>
   obtain ⟨its,rv,hv,hz⟩:=Src.sq.val I hq;obtain ⟨u,hu,ru⟩:=rv.get hx;exact .there (h (sr,p) List.mem_cons_self) hv (by simpa using hu) (StV.drw I t λq hq=>h q (List.mem_cons_of_mem _ hq))
end
theorem ZB8 {P:Program} {w:World} {elts:List Expr} {x1} {pos:Pos} (l:List (Src×Addr)) (z TI TO:Addr) (a:ApZ TO l) (zz:z≠TO/\(∀q∈l,q.2≠z/\q.1.adr≠z)) (tt:TI≠z/\TI≠TO/\∀q∈l,q.2≠TI) (hsz:l.length<=1000000) (hne:l≠ []):
  Turn P w K (.Tuple elts x1 pos) (Itz K (l.map (·.1))) (z::TI::TO::l.map (·.2)) z
   (λi h=>IsZip h z TI TO .none/\Tp h TI (l.map λq=>Value.ref q.2)/\(∃os,Tp h TO os/\os.length=l.length)/\∀q∈l,q.1.it h q.2 i) where
 mem:=by simp
 obj:=λi h st b hb=>by
  obtain ⟨hz,hTI,⟨os,hTO,_⟩,hi⟩:=st;rcases List.mem_cons.mp hb with rfl | hb
  ·exact ⟨_,hz,λv z=>by cases z⟩
  ·rcases List.mem_cons.mp hb with rfl | hb
   ·exact ⟨_,hTI,λv z=>by cases z⟩
   ·rcases List.mem_cons.mp hb with rfl | hb
    ·exact ⟨_,hTO,λv z=>by cases z⟩
    ·obtain ⟨q,hq,rfl⟩:=List.mem_map.mp hb;obtain ⟨o,ho,_,hd⟩:=hi q hq;exact ⟨o,ho,λv z=>by rw [hd] at z;cases z⟩
 keep:=λi h h' st k=>by obtain ⟨hz,hTI,⟨os,hTO,ho⟩,hi⟩:=st;exact ⟨k z (by simp) _ hz,k TI (by simp) _ hTI,⟨os,k TO (by simp) _ hTO,ho⟩,λq hq=>(hi q hq).at λo e=>k q.2 (by simp only [List.mem_cons];exact .inr (.inr (.inr (List.mem_map.mpr ⟨q,hq,rfl⟩)))) o e⟩
 item:=by
  intro X hP hw hK hc i pins s σ H E I hf st hg;subst hP hw hK;obtain ⟨us,dv⟩:=hg;obtain ⟨hz,hTI,⟨os,hTO,ho⟩,hi⟩:=st;obtain ⟨ws,dw,rv⟩:=DrV.drw I dv hi;refine ZDl hz hTI hTO ho hsz hne a zz dw λh1 z1 t1 i1 p1 s1 k1=>⟨_,rfl,?_⟩
  refine wpAny_letOwnedTupleGo_zip (s:={s with heap:=h1}) z1 λh2 z2 sb=> ?_
  have hpz:s.heap.objs.size≠z:=Nat.ne_of_gt (Heap.lt_size hz);have hul:us.length<=sizeLine:=by rw [dv.length,List.length_map];exact Nat.le_trans hsz size6
  have I2:Inv X pins σ (upd H s.heap.objs.size (.tup us)) {s with heap:=h2}:=
   ZEh (t':=s.toks) (fp:=z::TI::TO::l.map (·.2)) (its:=ws) I (λb o hb q=>by simp only [List.mem_cons,not_or] at hb;exact sb.extBut b o hb.1 (k1 b o hb.1 hb.2.2.1 hb.2.2.2 q)) hf (Nat.le_refl _) hul rv (sb.extBut _ _ hpz p1)
  have hfr:H s.heap.objs.size=none:=I.hok.fresh (Nat.le_refl _)
  have up:∀b o,b≠z->b≠TO->b ∉ l.map (·.2)->s.heap.get? b=some o->h2.get? b=some o:=λb o b1 b2 b3 q=>sb.extBut b o b1 (k1 b o b1 b2 b3 q)
  refine ⟨.ref s.heap.objs.size,_,I2,rfl,⟨_,us,rfl,hfr,rfl,λus' d'=>DrV.inj I d' dv⟩,⟨z2,up TI _ tt.1 tt.2.1 (λhm=> ?_) hTI,⟨ws,sb.extBut _ _ (Ne.symm zz.1) t1,dw.length⟩,λq hq=>(i1 q hq).at λo e=>sb.extBut _ _ (zz.2 q hq).1 e⟩,λb hb=> ?_⟩
  ·obtain ⟨q,hq,e⟩:=List.mem_map.mp hm;exact tt.2.2 q hq e
  ·rw [Az (λe=> ?_)]
   ·exact (hf b hb).1
   ·have lt:b < s.heap.objs.size:=by
     rcases List.mem_cons.mp hb with rfl | hb
     ·exact Heap.lt_size hz
     ·rcases List.mem_cons.mp hb with rfl | hb
      ·exact Heap.lt_size hTI
      ·rcases List.mem_cons.mp hb with rfl | hb
       ·exact Heap.lt_size hTO
       ·obtain ⟨q,hq,rfl⟩:=List.mem_map.mp hb;exact (hi q hq).lt
    rw [e] at lt;exact Nat.lt_irrefl _ lt
 done:=by
  intro X hP hw hK hc i pins s σ H E I hf st hg;subst hP hw hK;obtain ⟨hz,hTI,⟨os,hTO,ho⟩,hi⟩:=st;have dw:=StV.drw I hg hi;refine ZDH (I.ok.hd hc) hz hTI hTO ho hsz hne a zz dw λh1 k1=>⟨rfl,?_⟩
  exact ZBS (t':=s.toks) (fp:=z::TI::TO::l.map (·.2)) I (λb o hb q=>by simp only [List.mem_cons,not_or] at hb;exact k1 b o hb.1 hb.2.2.1 hb.2.2.2 q) hf
 self:=λ_ _ _ _ _ st h=>wpAny_pyIter_zip st.1 h
def Fo (G:DH) (j:Nat):List D->Option (Option (List D))
 | []=>some (some [])
 | d::r=>match Bf d G with
  | none=>none
  | some xs=>match xs[j]? with
   | none=>some none
   | some x=>match Fo G j r with
    | some (some ys)=>some (some (x::ys))
    | o=>o
def Gm (ds:List D) (j:Nat) (G:DH):Option (Option D):=(Fo G j ds).map λo=>o.map D.tup
def lenOf (G:DH) (d:D):Nat:=match Bf d G with
 | some xs=>xs.length
 | none=>0
def Ua (G:DH) (d:D):Bool:=(Bf d G).isSome
def Ka (n:Nat) (ds:List D) (G:DH):R ItD:=if ds.all (Ua G)=true/\ds.length=n then .ok (.fn (lenOf G (ds.headD .non)) (Gm ds)) G else .bad
section
variable {X:Cx} {E:XK}
theorem ZDu {G:DH} {d:D} {v:V} {xs:List D} (s:Sim a G) (r:Rep a d v) (h:Bf d G=some xs):
  ∃sr:Src,v=.ref sr.adr/\(∃vs,sr.sq a.K a.H vs)/\∀b:Wd,Ext a b->∀G',Sim b G'->∀ys,Bf d G'=some ys->∃us,sr.sq b.K b.H us/\Reps b ys us:=by
 cases d with
 | tup ds=>
  obtain ⟨p,vs,rfl,hq,rv⟩:=r;refine ⟨.t p,rfl,⟨vs,hq⟩,λb x G' s' ys hy=> ?_⟩
  cases (show some ds=some ys from hy)
  exact ⟨vs,x.sqT hq,rv.mono x⟩
 | fl ds=>
  obtain ⟨p,vs,rfl,hq,rv⟩:=r;refine ⟨.l p,rfl,⟨vs,hq.sq⟩,λb x G' s' ys hy=> ?_⟩
  cases (show some ds=some ys from hy)
  exact ⟨vs,(x.fzL hq).sq,rv.mono x⟩
 | ref i=>
  obtain ⟨hi,rfl⟩:=r;have hx:∃zs,G[i]? =some (.lst zs):=by
   unfold Bf at h;dsimp only at h;split at h
   ·rename_i zs hz;exact ⟨zs,hz⟩
   ·cases h
  obtain ⟨zs,hz⟩:=hx;obtain ⟨vs,e1,_⟩:=s.lst hz;refine ⟨.l (a.m i),rfl,⟨vs,.of e1⟩,λb x G' s' ys hy=> ?_⟩;unfold Bf at hy;dsimp only at hy;split at hy
  ·rename_i zs' hz';cases hy;obtain ⟨us,e2,r2⟩:=s'.lst hz';rw [x.m i hi] at e2;exact ⟨us,.of e2,r2⟩
  ·cases hy
 | _=>cases h
theorem ZBJ {G:DH} (s:Sim a G):∀{ds:List D} {vs:List V},Reps a ds vs->ds.all (Ua G)=true->∃ls:List Src,vs=ls.map (λsr=>V.ref sr.adr)/\(∀sr∈ls,∃us,sr.sq a.K a.H us)/\
   ∀b:Wd,Ext a b->∀G',Sim b G'->∀i,(∀ys,Fo G' i ds=some (some ys)->∃us,DrV b.K b.H i ls us/\Reps b ys us)/\(Fo G' i ds=some none->StV b.K b.H i ls)
 | [],vs,r,_=>by
  cases (show vs= [] from r)
  refine ⟨[],rfl,(λ_ h=>nomatch h),λb x G' s' i=>⟨λys h=> ?_,λh=> ?_⟩⟩
  ·cases h;exact ⟨[],.nil,rfl⟩
  ·cases h
 | d::ds,vs,r,h=>by
  rw [List.all_cons,Bool.and_eq_true] at h;obtain ⟨v,vr,rfl,q1,q2⟩:=r
  obtain ⟨xs,hx⟩:=Option.isSome_iff_exists.mp (show (Bf d G).isSome=true from h.1)
  obtain ⟨sr,rfl,hq,rd⟩:=ZDu s q1 hx;obtain ⟨ls,rfl,hqs,rds⟩:=ZBJ s q2 h.2;refine ⟨sr::ls,rfl,λsr' hm=> ?_,λb x G' s' i=>⟨λys hy=> ?_,λhy=> ?_⟩⟩
  ·rcases List.mem_cons.mp hm with rfl | hm
   ·exact hq
   ·exact hqs sr' hm
  ·unfold Fo at hy;split at hy
   ·cases hy
   ·rename_i zs hz;obtain ⟨us,hu,ru⟩:=rd b x G' s' zs hz;split at hy
    ·cases hy
    ·rename_i y hyi;obtain ⟨u,hui,rx⟩:=ru.get hyi;split at hy
     ·rename_i ys' hys;cases hy;obtain ⟨us',d',r'⟩:=(rds b x G' s' i).1 ys' hys;exact ⟨u::us',.cons hu hui d',Reps.cons rx r'⟩
     ·rename_i hno;exact absurd hy (hno _)
  ·unfold Fo at hy;split at hy
   ·cases hy
   ·rename_i zs hz;obtain ⟨us,hu,ru⟩:=rd b x G' s' zs hz;split at hy
    ·rename_i hyi;exact .here hu (by rw [<-ru.length];exact List.getElem?_eq_none_iff.mp hyi)
    ·rename_i y hyi;obtain ⟨u,hui,rx⟩:=ru.get hyi;split at hy
     ·cases hy
     ·exact .there hu hui ((rds b x G' s' i).2 hy)
theorem ZEc {ds:List D} (hk:a.K=X.K) (rd:∀b:Wd,Ext a b->∀G',Sim b G'->∀i,(∀ys,Fo G' i ds=some (some ys)->∃us,DrV b.K b.H i ls us/\Reps b ys us)/\(Fo G' i ds=some none->StV b.K b.H i ls)) (n:Nat):
  RepI a (.fn n (Gm ds)) (Itz X.K ls):=by
 intro b x G' s' i;have kb:b.K=X.K:=x.k.trans hk;constructor
 ·intro e he;unfold Gm at he;cases hz:Fo G' i ds with
  | none=>rw [hz] at he;cases he
  | some o=>
   cases o with
   | none=>rw [hz] at he;cases he
   | some ys=>
    rw [hz] at he;have he':D.tup ys=e:=by simpa using he
    subst he';obtain ⟨us,d,ru⟩:=(rd b x G' s' i).1 ys hz;rw [kb] at d;refine ⟨⟨us,d⟩,?_⟩;rintro w H' ⟨p,us',rfl,hp,rfl,hu'⟩;cases hu' us d;exact ⟨b.put p (.tup us),rfl,Ext.put hp,s'.put hp,p,us,rfl,.of Ej,ru.mono (Ext.put hp)⟩
 ·intro he;unfold Gm at he;cases hz:Fo G' i ds with
  | none=>rw [hz] at he;cases he
  | some o=>
   cases o with
   | none=>
    have:=(rd b x G' s' i).2 hz;rw [kb] at this;exact this
   | some ys=>rw [hz] at he;cases he
def iZip (n:Nat) (K:PySem.W.Frag) (ta:TA):TI:=λσ H R=>ta σ H λvs H1=>∃ls:List Src,vs=ls.map (λsr=>V.ref sr.adr)/\(∀sr∈ls,∃us,sr.sq K H1 us)/\ls.length=n/\R (Itz K ls) H1
theorem ZBK:∀{ls:List Src} {us:List Value},Vals (ls.map λsr=>V.ref sr.adr) us->us=ls.map λsr=>Value.ref sr.adr
 | [],us,h=>by cases h;rfl
 | sr::ls,us,h=>by
  rw [List.map_cons] at h;cases h with
  | cons r rr=>
   cases r;rw [ZBK rr]
   rfl
theorem P0 {n:Nat} {q:Src×Nat} (h:q∈ls.zipIdx n):q.1∈ls/\n<=q.2/\q.2 < n + ls.length:=by obtain ⟨i,hi,rfl⟩:=List.getElem_of_mem h;simp only [List.length_zipIdx] at hi;simp only [List.getElem_zipIdx];exact ⟨List.getElem_mem hi,by omega,by omega⟩
theorem ZCM {elts:List Expr} {x1} {tp:Pos} {R:It->Hp->Prop} (I:Inv X pins σ H s) (hq:∀sr∈ls,∃us,sr.sq X.K H us) (hne:ls≠ []) (hl:ls.length<=1000000)
  (hct:checkTypeCall "zip" ⟨ls.map λsr=>Value.ref sr.adr,[]⟩=pure ()) (hcn:checkBuiltinCall "zip.__new__" ⟨.type "zip"::ls.map λsr=>Value.ref sr.adr,[]⟩=pure ()) (hok:∀obj,argsOk "object.__init__" ⟨obj::ls.map λsr=>Value.ref sr.adr,[]⟩)
  (q:R (Itz X.K ls) H):wpAny (model X.prog X.w) X.A (call (.type "zip") (ls.map λsr=>Value.ref sr.adr)) (λv s1=>wpAny (model X.prog X.w) X.A (pyIter v) (PIE X pins σ (.Tuple elts x1 tp) R) X.xe s1) X.xe s:=by
 have hv:∀sr∈ls,∃xs,sr.val s.heap xs:=λsr hm=>by obtain ⟨us,h⟩:=hq sr hm;obtain ⟨its,_,h',_⟩:=Src.sq.val I h;exact ⟨_,h'⟩
 have hlt:∀sr∈ls,sr.adr < s.heap.objs.size:=λsr hm=>by obtain ⟨xs,h⟩:=hv sr hm;obtain ⟨o,n,ho,_⟩:=h.obj;exact Heap.lt_size ho
 refine ZBb hv hl hct hcn hok λh' n hn hz hTI hTO hi kp=> ?_
 refine wpAny_pyIter_zip hz ?_;have I2:Inv X pins σ H {s with heap:=h'}:=I.kept (t':=s.toks) kp
 have em:(ls.zipIdx s.heap.objs.size).map (·.1)=ls:=by refine List.ext_getElem (by simp) λi h1 h2=>by simp
 have e2:(ls.zipIdx s.heap.objs.size).map (·.2)=List.range' s.heap.objs.size ls.length:=by refine List.ext_getElem (by simp) λi h1 h2=>by simp [Nat.add_comm]
 have qb:∀q∈ls.zipIdx s.heap.objs.size,q.1.adr < s.heap.objs.size/\s.heap.objs.size<=q.2/\q.2 < n:=λq hm=>⟨hlt _ (P0 hm).1,(P0 hm).2.1,by rw [hn];exact (P0 hm).2.2⟩
 have hsn:s.heap.objs.size<=n:=by rw [hn];exact Nat.le_add_right _ _
 have ap:ApZ (n + 1) (ls.zipIdx s.heap.objs.size):=⟨by rw [e2];exact List.nodup_range',λq hm=>Nat.ne_of_lt (Nat.lt_of_lt_of_le (qb q hm).1 (Nat.le_succ_of_le hsn)),λq hm r hr=>Nat.ne_of_lt (Nat.lt_of_lt_of_le (qb q hm).1 (qb r hr).2.1),λq hm=>Nat.ne_of_lt (Nat.lt_succ_of_lt (qb q hm).2.2)⟩;have T:=ZB8 (P:=X.prog) (w:=X.w) (K:=X.K) (elts:=elts) (x1:=x1) (pos:=tp) (ls.zipIdx s.heap.objs.size) (n + 2) n (n + 1) ap ⟨Nat.succ_ne_self (n + 1),λq hm=>⟨Nat.ne_of_lt (Nat.lt_of_lt_of_le (qb q hm).2.2 (Nat.le_add_right n 2)),Nat.ne_of_lt (Nat.lt_of_lt_of_le (qb q hm).1 (Nat.le_trans hsn (Nat.le_add_right n 2)))⟩⟩
  ⟨Nat.ne_of_lt (Nat.lt_add_of_pos_right (by decide)),Nat.ne_of_lt (Nat.lt_succ_self n),λq hm=>Nat.ne_of_lt (qb q hm).2.2⟩ (by simpa using hl) (by intro e;apply hne;rw [<-em,e];rfl)
 rw [em] at T;refine ⟨n + 2,_,_,_,H,rfl,I2,T,⟨hz,hTI,⟨_,hTO,by simp⟩,hi⟩,λb hb=> ?_,q⟩;have hle:s.heap.objs.size<=b:=by
  rcases List.mem_cons.mp hb with rfl | hb
  ·exact Nat.le_trans hsn (Nat.le_add_right n 2)
  ·rcases List.mem_cons.mp hb with rfl | hb
   ·exact hsn
   ·rcases List.mem_cons.mp hb with rfl | hb
    ·exact Nat.le_succ_of_le hsn
    ·obtain ⟨q,hq,rfl⟩:=List.mem_map.mp hb;exact (P0 hq).2.1
 exact I.Kh hle (I.hok.fresh hle)
theorem ZF1 {elts:List Expr} {x1} {tp:Pos} {a b:Expr} {ta:TA} {p pos:Pos} (hg:Gl X "zip") (hm:X.mg "zip"=none) (ha:PA X [a,b] ta) (hs:starEach [a,b] X.env= [(false,eval a X.env),(false,eval b X.env)]:=by rfl) (hs2:starEach [b] X.env= [(false,eval b X.env)]:=by rfl):
  PI X (.Tuple elts x1 tp) (.Call (.Name "zip" p) [a,b] [] pos) (iZip 2 X.K ta):=by
 intro pins s σ H R I h;refine Call_ (Lr I hg hm PyProof.Rows.boot_zip (PyProof.Rows.callWith_type1 (thn (ha pos pins s σ H _ I h) λus s1 ⟨vs,H1,I1,r1,q1⟩=> ?_) (by rw [hs,hs2]) (by rw [hs2];rfl)));obtain ⟨ls,rfl,hq,hl,q⟩:=q1;cases ZBK r1
 match ls,hl with
 | [x,y],_=>exact ZCM I1 hq (by simp) (by simp) (PySem.F.typeCall_zip_2 _ _) (PySem.F.newCall_zip_2 _ _) (λobj=>PySem.F.args_object_init_3 obj _ _) q
theorem ZDL {n:Nat} {ta:DA} {Q:It->Hp->Prop} (hK:K=X.K) (h:lI K E (Dh (Ka n) ta) σ H Q):iZip n K (lA K E ta) σ H Q:=by
 subst hK;obtain ⟨a,S,G,hk,rfl,s,r,h⟩:=h;refine ⟨a,S,G,hk,rfl,s,r,(Yh h).imp ?_⟩;rintro vs _ ⟨b,ds,G1,rfl,x,s1,q,-,h1⟩;unfold Ka at h1;split at h1
 ·rename_i hok;obtain ⟨ls,e,hq,rd⟩:=ZBJ s1 q hok.1;have kb:b.K=X.K:=x.k.trans hk;have hl:ls.length=n:=by have:=q.length;rw [e,List.length_map] at this;omega
  exact ⟨ls,e,λsr hm=>by rw [<-kb];exact hq sr hm,hl,h1 b _ (Ext.refl b) s1 (ZEc kb rd _)⟩
 ·exact h1.elim
theorem ZCj {elts:List Expr} {x1} {tp:Pos} {a b:Expr} {ta:DA} {p pos:Pos} (hg:Gl X "zip") (hm:X.mg "zip"=none) (ha:QA X E [a,b] ta) (hs:starEach [a,b] X.env= [(false,eval a X.env),(false,eval b X.env)]:=by rfl) (hs2:starEach [b] X.env= [(false,eval b X.env)]:=by rfl):
  QI X E (.Tuple elts x1 tp) (.Call (.Name "zip" p) [a,b] [] pos) (Dh (Ka 2) ta):=(ZF1 hg hm ha hs hs2).mono λσ H Q h=>ZDL rfl h
end
section
variable {X:Cx} {E:XK}
end
def fMinL (ds:List D) (G:DH):R D:=match ds with
 | [d]=>match Bf d G with
  | some xs=>match Dt xs with
   | some (n::ns)=>.ok (.int (ns.foldl min n)) G
   | _=>.bad
  | none=>.bad
 | _=>.bad
def Kq (ds:List D) (G:DH):R D:=match ds with
 | [d]=>match Bf d G with
  | some xs=>match Dt xs with
   | some (n::ns)=>.ok (.int (ns.foldl max n)) G
   | _=>.bad
  | none=>.bad
 | _=>.bad
theorem ZEl:∀(ns:List Int) (n:Int),ns.foldl min n<=n/\(∀x∈ns,ns.foldl min n<=x)/\(ns.foldl min n=n∨ns.foldl min n∈ns)
 | [],n=>⟨Int.le_refl _,λx h=>(by cases h),.inl rfl⟩
 | m::ns,n=>by
  obtain ⟨h1,h2,h3⟩:=ZEl ns (min n m);rw [List.foldl_cons];refine ⟨by omega,λx hx=> ?_,?_⟩
  ·rcases List.mem_cons.mp hx with rfl | hx
   ·omega
   ·exact h2 x hx
  ·rcases h3 with h | h
   ·by_cases e:n<=m
    ·exact .inl (by rw [h];omega)
    ·exact .inr (by rw [h];rw [show min n m=m by omega];exact List.mem_cons_self)
   ·exact .inr (List.mem_cons_of_mem _ h)
theorem Z8:∀(ns:List Int) (n:Int),n<=ns.foldl max n/\(∀x∈ns,x<=ns.foldl max n)/\(ns.foldl max n=n∨ns.foldl max n∈ns)
 | [],n=>⟨Int.le_refl _,λx h=>(by cases h),.inl rfl⟩
 | m::ns,n=>by
  obtain ⟨h1,h2,h3⟩:=Z8 ns (max n m);rw [List.foldl_cons];refine ⟨by omega,λx hx=> ?_,?_⟩
  ·rcases List.mem_cons.mp hx with rfl | hx
   ·omega
   ·exact h2 x hx
  ·rcases h3 with h | h
   ·by_cases e:m<=n
    ·exact .inl (by rw [h];omega)
    ·exact .inr (by rw [h];rw [show max n m=m by omega];exact List.mem_cons_self)
   ·exact .inr (List.mem_cons_of_mem _ h)
section
variable {X:Cx} {E:XK}
theorem intAt {ns:List Int} {its:List Value} {w:Value} (hv:Vals (ns.map V.int) its) (hw:its.toArray[i]? =some w):i < ns.length/\∃t,w=.int (ns.getD i 0) t:=by
 have hw':its[i]? =some w:=by simpa using hw
 have hl:i < (ns.map V.int).length:=by rw [hv.length];exact (List.getElem?_eq_some_iff.mp hw').1
 have hl':i < ns.length:=by simpa using hl
 obtain ⟨u,hu,ru⟩:=hv.get (i:=i) (x:=V.int ns[i]) (by simp [hl']);rw [hw'] at hu;cases hu;obtain ⟨t,rfl⟩:=ru;exact ⟨hl',t,by simp [hl']⟩
theorem ZBr (hc:X.calm=true):CallR X (.builtin "max") (lRn X.K E Kq):=by
 intro pins s σ H vs us Q I rs h;obtain ⟨a,G,ds,hk,rfl,sm,r,q⟩:=h;unfold Kq at q;split at q
 ·rename_i d;obtain ⟨v,rfl,rv⟩:=reps1 r;split at q
  ·rename_i xs hs;split at q
   ·rename_i n ns hn;cases Vw hn;obtain ⟨p,ws,rfl,h1,r1⟩:=Jb sm rv hs;cases Te r1;rw [hk] at h1;obtain ⟨u,rfl,ru⟩:=vals1 rs;cases ru;refine call_max_walk (Zg I hc h1 λit fp wr its St s₂ hv W st hfp fin=>⟨it,fp,wr,its.toArray.size,_,St,_,rfl,W,st,hfp,?_,CmpOf.ints_gt (λi=>(n::ns).getD i 0) (λi w hw=>(intAt hv hw).2),λw h' tk hw kk=> ?_⟩)
    ·rw [List.size_toArray,<-hv.length];simp
    ·obtain ⟨hl,t,rfl⟩:=intAt hv hw;obtain ⟨b1,b2⟩:=argBest_gt (λi=>(n::ns).getD i 0) (its.toArray.size - 1);refine ⟨.int (ns.foldl max n),a.H,fin h' tk kk,⟨t,?_⟩,q a _ (Ext.refl a) sm rfl⟩;have hsz:its.toArray.size=ns.length + 1:=by rw [List.size_toArray,<-hv.length];simp
     obtain ⟨m1,m2,m3⟩:=Z8 ns n;have hle:∀x∈n::ns,x<=ns.foldl max n:=λx hx=>by
      rcases List.mem_cons.mp hx with rfl | hx
      ·exact m1
      ·exact m2 x hx
     have hin:ns.foldl max n∈n::ns:=by
      rcases m3 with h | h
      ·rw [h];exact List.mem_cons_self
      ·exact List.mem_cons_of_mem _ h
     obtain ⟨j,hj,ej⟩:=List.getElem_of_mem hin;have c1:=b2 j (by simp at hj;omega);have c2:=hle _ (List.getElem_mem hl);have e1:(n::ns).getD j 0=ns.foldl max n:=by rw [List.getD_eq_getElem?_getD,List.getElem?_eq_getElem hj];exact ej
     have e2:(n::ns).getD (argBest (λi j=>decide ((λi=>(n::ns).getD i 0) i > (λi=>(n::ns).getD i 0) j)) (its.toArray.size - 1)) 0=(n::ns)[argBest (λi j=>decide ((λi=>(n::ns).getD i 0) i > (λi=>(n::ns).getD i 0) j)) (its.toArray.size - 1)]:=by rw [List.getD_eq_getElem?_getD,List.getElem?_eq_getElem hl];rfl
     have c1':=c1;rw [e1] at c1';rw [<-e2] at c2
     congr 1
     exact Int.le_antisymm c2 c1'
   ·exact q.elim
  ·exact q.elim
 ·exact q.elim
end
end DL
namespace DL
open PySem PySem.W PyProof.Rows
def Safe (n:Nat) {α:Type} (P:α->Prop):KasT α->Prop
 | .ret a=>P a
 | .ask i j k=>i < n/\j < n/\∀b,Safe n P (k b)
theorem Safe.bind {n:Nat} {α β:Type} {f:α->KasT β} {P:α->Prop} {Q:β->Prop} (h2:∀a,P a->Safe n Q (f a)):∀{t:KasT α},Safe n P t->Safe n Q (t.bind f)
 | .ret a,h=>h2 a h
 | .ask _ _ _,h=>⟨h.1,h.2.1,λb=>Safe.bind h2 (h.2.2 b)⟩
theorem Safe.imp {n:Nat} {α:Type} {P Q:α->Prop} (h2:∀a,P a->Q a):∀{t:KasT α},Safe n P t->Safe n Q t
 | .ret a,h=>h2 a h
 | .ask _ _ _,h=>⟨h.1,h.2.1,λb=>Safe.imp h2 (h.2.2 b)⟩
end DL
namespace DL
open PySem PySem.Spec L2
open PyProof.Rows hiding St
variable {d:D} {xs:List D} {a:Wd} {us:List (Str×V)}
section
variable {prog:Program} {w:World} {A:Around} {s:Shared}
end
section
variable {X:Cx} {E:XK} {pins:List (Addr×Obj)} {σ:St} {s:Shared} {H:Hp} {h':Heap}
end
section
variable {prog:Program} {w:World} {A:Around} {E:Value->Shared->Prop} {s:Shared}
end
section
variable {X:Cx} {E:XK} {pins:List (Addr×Obj)} {σ:St} {s:Shared} {H:Hp}
end
section
variable {X:Cx} {E:XK}
end
section
variable {S:DSt} {G:DH}
def Uk (xs ys:List D):List D:=(xs.zip ys).map λq=>.tup [q.1,q.2]
theorem ZBk {e:D} {ys:List D} (hd:Bf d G=some xs) (he:Bf e G=some ys) (j:Nat):Gm [d,e] j G=some (Uk xs ys)[j]? :=by
 unfold Gm Uk;simp only [Fo,hd,he,List.getElem?_map,List.getElem?_zip_eq_some]
 have ez:(xs.zip ys)[j]? =match xs[j]?,ys[j]? with
  | some x,some y=>some (x,y)
  | _,_=>none:=by
  rw [List.zip,List.getElem?_zipWith]
  cases xs[j]? <;> cases ys[j]? <;> rfl
 rw [ez];cases xs[j]? with
 | none=>rfl
 | some x=>
  cases ys[j]? with
  | none=>rfl
  | some y=>rfl
theorem ZDI {e:D} {ys:List D} (hd:Bf d G=some xs) (he:Bf e G=some ys):Ka 2 [d,e] G=.ok (.fn xs.length (Gm [d,e])) G:=by simp [Ka,Ua,hd,he,lenOf]
@[simp] theorem Yw:Bf (.tup xs) G=some xs:=id rfl
theorem ZGV {n:Int} {ns:List Int} (h:Bf d G=some ((n::ns).map D.int)):Kq [d] G=.ok (.int (ns.foldl max n)) G:=by simp only [Kq,h,ZFS]
end
def Bts (i:Int):Prop:=i.natAbs.log2 < 33554432
def MulB (i j:Int):Prop:=CMul i j∨(Bts i/\Bts j)
instance (i:Int):Decidable (Bts i):=by unfold Bts;infer_instance
instance (i j:Int):Decidable (MulB i j):=by unfold MulB;infer_instance
theorem MulB.ok {i j:Int} (h:MulB i j):IntMulOk i j:=by
 rcases h with h | ⟨h1,h2⟩
 ·exact h.ok
 ·have b:∀k:Int,Bts k->Builtin.Int.intBits k<=33554432:=λk hk=>by
   unfold Builtin.Int.intBits;split
   ·exact Nat.zero_le _
   ·exact hk
  have c1:=b i h1;have c2:=b j h2;have h:Builtin.Int.intTooBig (Builtin.Int.intBits i + Builtin.Int.intBits j)=false:=by unfold Builtin.Int.intTooBig bitsLine;exact decide_eq_false (by omega)
  unfold IntMulOk;rw [h];simp
def Bg:D->D->DH->R D
 | .int i,.int j,G=>if MulB i j then .ok (.int (i * j)) G else .bad
 | _,_,_=>.bad
section
variable {X:Cx} {E:XK}
theorem ZFT:OpR X (binaryOp .Mult) (rI MulB λi j=>.int (i * j)):=opI λ_ _ _ _ _ _ _ hc q=>mul_int q hc.ok
theorem Ce:OpR X (binaryOp .Mult) (lR2 X.K E Bg):=Fy ZFT λa G d e x y Q hk s rd re q=>by
 cases d <;> cases e <;> first
  | exact q.elim
  | (
    rename_i i j;unfold Bg at q;dsimp only at q;split at q
    ·exact ⟨_,_,rd,re,by assumption,q a _ (Ext.refl a) s rfl⟩
    ·exact q.elim)
end
section
variable {i j:Int} {G:DH}
theorem ZEY (h:MulB i j):Bg (.int i) (.int j) G=.ok (.int (i * j)) G:=if_pos h
theorem Fl (h1: -(2 ^ 64) < i) (h2:i < 2 ^ 64):Bg (.int i) (.int j) G=.ok (.int (i * j)) G:=if_pos (.inl (.inl ⟨h1,h2⟩))
theorem Ob (h1: -(2 ^ 64) < j) (h2:j < 2 ^ 64):Bg (.int i) (.int j) G=.ok (.int (i * j)) G:=if_pos (.inl (.inr ⟨h1,h2⟩))
@[simp] theorem ZGx {n:Nat} (h:n < 18446744073709551616):Bg (.int (no_index (OfNat.ofNat n))) (.int j) G=.ok (.int (OfNat.ofNat n * j)) G:=
 Fl (by have:(0:Int)<=(OfNat.ofNat n:Int):=Int.natCast_nonneg n;omega) (by have:(OfNat.ofNat n:Int) < 18446744073709551616:=Int.ofNat_lt.mpr h;omega)
theorem Bts.ZAc {m:Nat} (h:i.natAbs < 2 ^ m) (hm:m<=33554432) (h0:0 < m):Bts i:=by
 unfold Bts;rcases Nat.eq_zero_or_pos i.natAbs with z | z
 ·rw [z];decide
 ·exact Nat.lt_of_lt_of_le ((Nat.log2_lt (Nat.ne_of_gt z)).mpr h) hm
theorem Bts.lt (h:i.natAbs.log2 < 1048576):i.natAbs < 2 ^ 1048576:=by
 rcases Nat.eq_zero_or_pos i.natAbs with z | z
 ·rw [z];exact Nat.two_pow_pos _
 ·exact (Nat.log2_lt (Nat.ne_of_gt z)).mp h
end
theorem ZBA:∀{ns:List Int},PySem.W.WData.weightAll (ns.map PySem.W.WData.int)<=2 ^ 20->∀n∈ns,n.natAbs.log2 < 1048576
 | [],_,n,h=>nomatch h
 | m::ns,hw,n,h=>by
  rw [List.map_cons,PySem.W.WData.weightAll,PySem.W.WData.weight] at hw;rcases List.mem_cons.mp h with rfl | h
  ·split at hw
   ·rename_i hz;have:n=0:=by simpa using hz
    rw [this];decide
   ·omega
  ·exact ZBA (by omega) n h
theorem ZFf {l:PySem.W.OpenLaw} {n k:Nat} {q:Program} {loose:List Str} {XP:(Str->Option Value)->Heap->Prop} {YP:World->Heap->Prop} {d:DefRec} {K:Params->PySem.W.Frag} {CX:World->CXT} {sp:World->Sp} {x:Str}
  (hn:l.most=some n) (hn2:n<=sizeLine) (hdf:d.params.defaults= []) (hr:Room k callerA) (hY:∀(w:World) (h:Heap),YP w h->(K w.params).In h)
  (F:∀(w:World) (mg:Str->Option Value) (fa:Addr) (h:Heap),(K w.params).In h->h.Ns mainGlobals mg->mg d.name=some (.ref fa)->
   ∃fd:FuncData,(∀(s:Shared) (u:Value),BindsTo s fd ⟨[u],[]⟩ [(x,u)])/\∀base:Heap,(K w.params).In base->base.Ns mainGlobals mg->FnOk l.prog w (K w.params) mg base (CX w) k fa fd [x] (sp w))
  (hsp:∀(w:World) (H:Hp) (a:Addr) (ns:List Int),ns.length<=n->(∀m∈ns,m.natAbs.log2 < 1048576)->Only H->SqL (K w.params) H a (ns.map V.int)->sp w [.ref a] H (λv _=>v=.bl true) λ_ _ _=>False)
  (hCX:∀(w:World) (H:Hp) (s:Shared) (e:Value) (s':Shared),CX w [] H s (λ_ _ _=>False) e s'->False):PySem.W.WalkO q loose XP YP l.row.toRowW d [] (λf vs=>PySem.call f vs):=by
 intro w s₀ s₁ mg mb G Y fa o pm cd doc dV kV ho hd hcd hD hmg hg args vals as hpre hlay hrd hwl hlo;obtain rfl:dV=.none:=PySem.W.Dflts.none hD hdf;obtain rfl:kV=.none:=PySem.W.Dflts.noKw hD;obtain ⟨a,vs,ns,rfl,rfl,hobj,hints,hlen⟩:=Att.ZD9 hn hpre hwl;have KX:=hY w _ Y;obtain ⟨fd,hb,hF⟩:=F w mg fa _ KX G.T.g hmg;have hw:PySem.W.WData.weightAll (ns.map PySem.W.WData.int)<=2 ^ 20:=by
  have h1:PySem.W.WData.layable (.list (ns.map PySem.W.WData.int))=true:=by have:=hlay;simpa [PySem.W.WData.layableAll] using this
  have h2:=of_decide_eq_true (Bool.and_eq_true_iff.mp h1).2;simpa only [PySem.W.WData.weight] using h2
 refine PySem.W.enter_call (codeAny_mono (ZBn KX G.T.g G.T.b G.T.builtins G.T.nolimit hg hobj hints (Nat.le_trans hlen hn2) hr hF hb (λH hO hS=>hsp w H a ns hlen (ZBA hw) hO hS) λH e s'=>hCX w H s₁ e s') λr s' hq=> ?_);obtain ⟨rfl,h2,h3,h4⟩:=hq
 exact ⟨.inl ⟨.bool true,.bool true,[],rfl,λ_=>rfl,.bool true,Att.ZCJ l _,λ_=>⟨List.Pairwise.nil,λ_ hm=>(nomatch hm)⟩⟩,h2,h3,h4⟩
section
variable {X:Cx} {E:XK}
end
def Ui (f:Str) (v:D):List (Str×D)->List (Str×D)
 | []=> [(f,v)]
 | (g,x)::r=>if g=f then (g,v)::r else (g,x)::Ui f v r
theorem RepF.mono {b:Wd} (x:Ext a b) {fs:List (Str×D)} (h:RepF a fs us):RepF b fs us:=⟨h.1,h.2.mono x⟩
theorem RepF.cons {g:Str} {v:V} {fs:List (Str×D)} (h:Rep a d v) (r:RepF a fs us):RepF a ((g,d)::fs) ((g,v)::us):=
 ⟨by simp [r.1],v,us.map (·.2),rfl,h,r.2⟩
theorem RepF.uncons {g:Str} {fs:List (Str×D)} (h:RepF a ((g,d)::fs) us):∃v us',us=(g,v)::us'/\Rep a d v/\RepF a fs us':=by
 obtain ⟨h1,h2⟩:=h;cases us with
 | nil=>simp at h1
 | cons q us=>
  obtain ⟨g',y⟩:=q;simp only [List.map_cons,List.cons.injEq] at h1;obtain ⟨rfl,h1⟩:=h1;obtain ⟨v,r,e1,r1,r2⟩:=h2;simp only [List.map_cons,List.cons.injEq] at e1;obtain ⟨rfl,rfl⟩:=e1;exact ⟨y,us,rfl,r1,h1,r2⟩
theorem RepF.nil' (h:RepF a [] us):us= []:=by
 obtain ⟨h1,_⟩:=h;cases us with
 | nil=>rfl
 | cons q us=>simp at h1
theorem RepF.put {f:Str} {v:V} (q:Rep a d v):∀{fs:List (Str×D)} {us:List (Str×V)},RepF a fs us->RepF a (Ui f d fs) (Ug f v us)
 | [],us,h=>by rw [h.nil'];exact RepF.cons (fs:= []) (us:= []) q ⟨rfl,rfl⟩
 | (g,x)::fs,us,h=>by
  obtain ⟨w,us',rfl,hv,hr⟩:=h.uncons;unfold Ui Ug;by_cases e:g=f
  ·rw [if_pos e,if_pos e];exact .cons q hr
  ·rw [if_neg e,if_neg e];exact .cons hv (RepF.put q hr)
theorem RepF.len {fs:List (Str×D)} (h:RepF a fs us):us.length=fs.length:=by have:=congrArg List.length h.1;simpa using this.symm
def Zk (c:Str) (d:D) (G:DH):Option (List (Str×D)):=match d with
 | .ref i=>match G[i]? with
  | some (.ins c' fs)=>if c'=c then some fs else none
  | _=>none
 | _=>none
theorem Sim.ins {G:DH} {x:V} {c:Str} {fs:List (Str×D)} (s:Sim a G) (r:Rep a d x) (h:Zk c d G=some fs):
  ∃i C dx us,d=.ref i/\i < a.n/\x=.ref (a.m i)/\G[i]? =some (.ins c fs)/\PySem.W.nsIn a.K mainGlobals c=some (some (.ref C))/\a.H (a.m i)=some (.ins C dx us)/\RepF a fs us:=by
 unfold Zk at h;split at h
 ·rename_i i;split at h
  ·rename_i c' fs' e;split at h
   ·rename_i hc;subst hc;cases h;obtain ⟨l,ev⟩:=r;obtain ⟨C,dx,us,n,e1,r1⟩:=s.obj i _ e;exact ⟨i,C,dx,us,rfl,l,ev,e,n,e1,r1⟩
   ·cases h
  ·cases h
 ·cases h
section
variable {X:Cx} {E:XK} {c f m:Str} {C:Addr} {e o:Expr} {es:List Expr} {t ta tv:DE} {tr:DA} {pos apos pos':Pos}
end
theorem Qw:∀{ns:List Int} {us:List Value},Vals (ns.map V.int) us->us.length=ns.length/\∀(j:Nat) (u:Value),us[j]? =some u->∃t,∃h:j < ns.length,u=.int ns[j] t
 | [],us,h=>by cases h;exact ⟨rfl,λj u e=>by simp at e⟩
 | n::ns,us,h=>by
  cases h with
  | cons r rr=>
   obtain ⟨h1,h2⟩:=Qw rr;obtain ⟨t,rfl⟩:=r;refine ⟨by simp [h1],λj u e=> ?_⟩;cases j with
   | zero=>simp at e;exact ⟨t,by simp,by simpa using e.symm⟩
   | succ j=>
    obtain ⟨t',hj,e'⟩:=h2 j u (by simpa using e);exact ⟨t',by simpa using hj,by simpa using e'⟩
section
variable {X:Cx} {E:XK}
end
section
variable {prog:Program} {w:World} {A:Around} {E:Value->Shared->Prop} {s:Shared}
end
section
variable {X:Cx} {E:XK}
end
end DL
namespace DL
open PySem PySem.Spec L2
section
variable {S:DSt} {G:DH} {c f m:Str} {t to tv:DE} {ta:DA} {F:List D->DH->R D} {i:Nat} {fs:List (Str×D)} {v d:D}
end
end DL
namespace DL
open PySem PySem.Spec L2
open PyProof.Rows hiding St
section
variable {X:Cx} {E:XK}
end
section
variable {i j:Int} {G:DH}
end
def comp0 (N:List Str) (names:List (Str×NameKind)) (nt:Nat):Bool:=
 names.all (λy=>(!Es y.2 || isK Es (names.lookup y.1)) && !Gw y.2 && !Ga y.2) && decide N.Nodup && decide (N.length=nt)
theorem ZC7 {X:Cx} {N:List Str} {scope:Scope} {nt:Nat} (hk:scope.kind=.function:=by rfl) (h:comp0 N scope.names nt=true:=by decide +kernel):CompSc X N scope nt []:=by
 unfold comp0 at h;rw [Bool.and_eq_true,Bool.and_eq_true] at h;obtain ⟨⟨h1,h2⟩,h3⟩:=h;rw [List.all_eq_true] at h1;have key:=λ(y:Str×NameKind) (hy:y∈scope.names)=>(by have:=h1 y hy;rw [Bool.and_eq_true,Bool.and_eq_true] at this;exact this:((!Es y.2 || isK Es (scope.names.lookup y.1))=true/\(!Gw y.2)=true)/\(!Ga y.2)=true)
 refine ⟨hk,λy hy hl=> ?_,λy hy hl=> ?_,λy hy hl=> ?_,of_decide_eq_true h2,by rw [of_decide_eq_true h3];rfl,λk j hj=> ?_⟩
 ·have:=(key y hy).1.1;rw [hl] at this;exact M9 (p:=Es) (λ_ h=>Yv h) (by have t:(false || isK Es (scope.names.lookup y.1))=true:=this;simpa using t)
 ·have:=(key y hy).1.2;rw [hl] at this;exact absurd this (by decide)
 ·have:=(key y hy).2;rw [hl] at this;exact absurd this (by decide)
 ·cases hj
theorem ZCR (its:List Value):slicePick its.toArray none none (some (-1))=its.reverse.toArray:=by
 unfold slicePick;have hb:sliceBounds none none (some (-1)) its.toArray.size=((its.length:Int) - 1,-1,-1):=by simp [sliceBounds]
 rw [hb];have hr:sliceRange ((its.length:Int) - 1) (-1) (-1)=(List.range its.length).map λk=>its.length - 1 - k:=by
  unfold sliceRange;simp only [show¬(-1:Int) > 0 by decide,if_false];have hc:(if (its.length:Int) - 1 > -1 then ((its.length:Int) - 1 - -1 - -1 - 1) / - -1 else 0).toNat=its.length:=by
   split
   ·rw [show (- -1:Int)=1 by decide,Int.ediv_one];omega
   ·omega
  rw [hc];refine List.map_congr_left λk hk=> ?_
  have:=List.mem_range.mp hk;omega
 rw [hr]
 congr 1
 refine List.ext_getElem? λi=> ?_
 rw [List.filterMap_map];have hfm:(List.range its.length).filterMap ((λx=>its.toArray[x]?) ∘ λk=>its.length - 1 - k)=(List.range its.length).filterMap λk=>its[its.length - 1 - k]? :=by
  congr 1
  funext k;simp
 rw [hfm];have hm:∀n,n<=its.length->(List.range n).filterMap (λk=>its[its.length - 1 - k]?)=its.reverse.take n:=by
  intro n
  induction n with
  | zero=>intro _;rfl
  | succ n ih=>
   intro hn;rw [List.range_succ,List.filterMap_append,ih (by omega),List.take_succ]
   congr 1
   have h1:its.length - 1 - n < its.length:=by omega
   simp [List.getElem?_eq_getElem h1,List.getElem?_reverse (show n < its.length by omega)]
 rw [hm its.length (Nat.le_refl _),List.take_of_length_le (by simp)]
section
variable {X:Cx} {E:XK} {e st:Expr} {te:TE} {ts:TO} {p2 pos:Pos}
theorem ZEJ (he:PE X e te) (hu:PO X (some st) ts):PE X (.Subscript e (.Slice none none (some st) p2) pos) (λσ H Q=>te σ H λx H1=>ts σ H1 λl H2=>l=some (-1)/\∃a xs,x=.ref a/\SqL X.K H2 a xs/\∀p,H2 p=none->Q (.ref p) (upd H2 p (.lst xs.reverse))):=by
 intro pins s σ H Q I h;refine Subscript_ (thn (he pins s σ H _ I h) λv s1 ⟨x,H1,I1,r1,q1⟩=> ?_);refine wpAny_Slice ?_;rw [evalPart_none];refine wpAny_pure (wpAny_pure (thn (hu pins s1 σ H1 _ I1 q1) λvs s3 ⟨l,H3,I3,pl,q3⟩=> ?_));obtain ⟨rfl,a,xs,rfl,hx,q⟩:=q3;cases r1;have I4:Inv X pins σ H3 {s3 with heap:=s3.heap.push {cls:=.type "slice",data:=.fields #[.none,.none,vs]}}:=I3.kept (t':=s3.toks) λb ob q=>Heap.get?_push_of_some _ q
 obtain ⟨its,r,ht,hz⟩:=I4.list hx;have hlen:=r.length;show wpAny (model X.prog X.w) X.A (subscriptTail e (.Slice none none (some st) p2) (.ref a) (.ref s3.heap.objs.size)) (EP X pins σ Q) X.xe {s3 with heap:=s3.heap.push {cls:=.type "slice",data:=.fields #[.none,.none,vs]}}
 refine tail_any (ops:= [.ref a,.ref s3.heap.objs.size]) ht.isList.typeIs slot_list_getitem.lookup (wpAny_getItem_list_slice ht.isList (Heap.IsSliceOf.new ..) .none .none pl (by simp) ?_ (by rw [List.size_toArray] <;> omega)) (by with_unfolding_all rfl)
 rw [ZCR];refine ⟨.ref _,_,I4.laid (t':=s3.toks) (o:=.lst xs.reverse) (λb ob q=>Heap.get?_push_of_some _ q) (Nat.le_refl _) ?_,rfl,q _ (I4.hok.fresh (Nat.le_refl _))⟩;exact ⟨by rw [List.length_reverse];exact hz,_,0,r.reverse,Heap.get?_push_size _ rfl⟩
end
def Vh (t u:DE):DE:=λS G=>(t S G).bind λd G1=>(H9 (some u) S G1).bind λo G2=>match Ei d G2 with
 | some xs=>if o=some (-1) then .ok (.ref G2.length) (G2++ [.lst xs.reverse]) else .bad
 | none=>.bad
theorem Reps.rev {a:Wd}:∀{ds:List D} {vs:List V},Reps a ds vs->Reps a ds.reverse vs.reverse
 | [],vs,r=>by cases r;exact Reps.nil
 | d::ds,vs,r=>by obtain ⟨v,vs',rfl,h,r'⟩:=r;rw [List.reverse_cons,List.reverse_cons];exact Reps.append (Reps.rev r') (Reps.cons h Reps.nil)
theorem ZCZ {X:Cx} {E:XK} {e st:Expr} {te ts:DE} {p2 pos:Pos} (he:QE X E e te) (hs:QE X E st ts):QE X E (.Subscript e (.Slice none none (some st) p2) pos) (Vh te ts):=(ZEJ he (Bw hs)).mono λσ H Q h=>by
 obtain ⟨a,S,G,hk,rfl,s,r,h⟩:=h;refine ⟨a,S,G,hk,rfl,s,r,(Gk h).imp ?_⟩;rintro v _ ⟨b,d,G1,rfl,x,s1,q,_,h1⟩;refine ⟨b,S,G1,x.k.trans hk,rfl,s1,r.mono x,(U9 h1).imp ?_⟩;rintro l _ ⟨c,G2,rfl,y,s2,_,h2⟩;have hk2:=y.k.trans (x.k.trans hk);have q2:=q.mono y;split at h2
 ·rename_i xs hx;split at h2
  ·rename_i ho;obtain ⟨p,vs,e1,q1,r1⟩:=Rw s2 q2 hx;exact ⟨ho,p,vs,e1,by rw [<-hk2];exact q1,λp hp=>Pr s2 (Reps.rev r1) h2 p hp⟩
  ·exact h2.elim
 ·exact h2.elim
section
variable {S:DSt} {G:DH}
@[simp] theorem ev_Rev {t u:DE}:Vh t u S G=(t S G).bind λd G1=>(H9 (some u) S G1).bind λo G2=>match Ei d G2 with
 | some xs=>if o=some (-1) then .ok (.ref G2.length) (G2++ [.lst xs.reverse]) else .bad
 | none=>.bad:=id rfl
end
section
variable {X:Cx} {E:XK}
end
section
variable {S:DSt} {G:DH}
end
end DL
namespace Law
open PySem L2 DL
def top (i:Nat):Stmt:=PySem.Challenge.pw_sluiceway_k41_water_and_gone.main.body.getD i (.Pass ⟨0,0,0,0⟩)
abbrev Th:Stmt:=top 9
abbrev ZDQ:List Str:= ["_law_script","_law_k"]
theorem ZFc:FnScope ZDQ ["_law_script","_law_k"] (Bc Th):=⟨rfl,rfl,rfl,by decide +kernel,rfl,by decide +kernel,by decide +kernel⟩
abbrev N6:Stmt:=top 12
abbrev Wc:List Str:= ["_law_xs","_law_letters","_law_names_here","_law_x","_law_word","_law_rest","_law_j","_law_some"]
theorem Gi:FnScope Wc ["_law_xs"] (Bc N6):=⟨rfl,rfl,rfl,by decide +kernel,rfl,by decide +kernel,by decide +kernel⟩
abbrev Uq:Stmt:=top 11
abbrev ZFE:List Str:= ["_law_cell","_law_k","_law_many","_law_number_here","_law_left","_law_found","_law_j"]
theorem Ht:FnScope ZFE ["_law_cell","_law_k","_law_many"] (Bc Uq):=⟨rfl,rfl,rfl,by decide +kernel,rfl,by decide +kernel,by decide +kernel⟩
abbrev J1:Stmt:=top 13
abbrev Kz:List Str:= ["_law_cell","_law_letters","_law_xs","_law_word","_law_turned","_law_other","_law_names_here","_law_k","_law_name","_law_size","_law_at","_law_sign"]
theorem Cz:FnScope Kz ["_law_cell"] (Bc J1):=⟨rfl,rfl,rfl,by decide +kernel,rfl,by decide +kernel,by decide +kernel⟩
abbrev Vx:Stmt:=top 17
abbrev ZEG:List Str:= ["_law_x"]
theorem ZER:FnScope ZEG ["_law_x"] (Bc Vx):=⟨rfl,rfl,rfl,by decide +kernel,rfl,by decide +kernel,by decide +kernel⟩
abbrev Ul:Stmt:=top 14
abbrev ZFn:List Str:= ["_law_x","_law_cell"]
theorem ZC5:FnScope ZFn ["_law_x","_law_cell"] (Bc Ul):=⟨rfl,rfl,rfl,by decide +kernel,rfl,by decide +kernel,by decide +kernel⟩
abbrev Py:Stmt:=top 18
abbrev ZAQ:List Str:= ["_law_rule_here"]
theorem ZGD:FnScope ZAQ ["_law_rule_here"] (Bc Py):=⟨rfl,rfl,rfl,by decide +kernel,rfl,by decide +kernel,by decide +kernel⟩
abbrev W7:Stmt:=top 15
abbrev ZCY:List Str:= ["_law_xs","_law_cell","_law_pumps","_law_steps","_law_top","_law_j","_law_height","_law_many","_law_way"]
theorem Gu:FnScope ZCY ["_law_xs","_law_cell","_law_pumps"] (Bc W7):=⟨rfl,rfl,rfl,by decide +kernel,rfl,by decide +kernel,by decide +kernel⟩
abbrev W0:Stmt:=top 16
abbrev ZFI:List Str:= ["_law_xs","_law_cell","_law_year","_law_pumps","_law_seasons","_law_begin","_law_j"]
theorem Le:FnScope ZFI ["_law_xs","_law_cell","_law_year","_law_pumps"] (Bc W0):=⟨rfl,rfl,rfl,by decide +kernel,rfl,by decide +kernel,by decide +kernel⟩
abbrev Vr:Stmt:=top 19
abbrev ZEp:List Str:= ["_law_names_here","_law_many","_law_k","_law_year","_law_cell","_law_xs","_law_down","_law_head","_law_pumps","_law_rule_here","_law_pump","_law_to"]
theorem Gp:FnScope ZEp ["_law_names_here","_law_many","_law_k","_law_year","_law_cell"] (Bc Vr):=⟨rfl,rfl,rfl,by decide +kernel,rfl,by decide +kernel,by decide +kernel⟩
abbrev Pu:Stmt:=top 20
abbrev ZAx:List Str:= ["_law_script","_law_at","_law_many","_law_year","_law_names_here","_law_places"]
theorem Lb:FnScope ZAx ["_law_script","_law_at"] (Bc Pu):=⟨rfl,rfl,rfl,by decide +kernel,rfl,by decide +kernel,by decide +kernel⟩
abbrev Wg:Stmt:=top 25
abbrev ZB9:List Str:= ["_law_house_here","_law_page","_law_total","_law_k"]
theorem Sd:FnScope ZB9 ["_law_house_here","_law_page"] (Bc Wg):=⟨rfl,rfl,rfl,by decide +kernel,rfl,by decide +kernel,by decide +kernel⟩
abbrev Tt:Stmt:=top 22
abbrev ZBq:List Str:= ["_law_place_here","_law_xs","_law_cell","_law_passing","_law_took","_law_spilled","_law_lies","_law_pumped_here","_law_lay"]
theorem Gb:FnScope ZBq ["_law_place_here","_law_xs","_law_cell"] (Bc Tt):=⟨rfl,rfl,rfl,by decide +kernel,rfl,by decide +kernel,by decide +kernel⟩
abbrev Td:Stmt:=top 23
abbrev ZEU:List Str:= ["_law_house_here","_law_script","_law_at","_law_pages_here","_law_j","_law_cell","_law_page","_law_rows","_law_k"]
theorem Ij:FnScope ZEU ["_law_house_here","_law_script","_law_at"] (Bc Td):=⟨rfl,rfl,rfl,by decide +kernel,rfl,by decide +kernel,by decide +kernel⟩
abbrev Oo:Stmt:=top 21
abbrev ZBE:List Str:= ["_law_house_here","_law_cell","_law_levels","_law_coming","_law_rows","_law_k","_law_place_here","_law_xs","_law_level"]
theorem Gv:FnScope ZBE ["_law_house_here","_law_cell"] (Bc Oo):=⟨rfl,rfl,rfl,by decide +kernel,rfl,by decide +kernel,by decide +kernel⟩
abbrev V4:Stmt:=top 24
abbrev ZEw:List Str:= ["_law_state_here","_law_total","_law_level","_law_row","_law_cubes"]
theorem Ir:FnScope ZEw ["_law_state_here"] (Bc V4):=⟨rfl,rfl,rfl,by decide +kernel,rfl,by decide +kernel,by decide +kernel⟩
abbrev Tv:Stmt:=top 10
abbrev ZCb:List Str:= ["_law_found"]
theorem ZDG:FnScope ZCb ["_law_found"] (Bc Tv):=⟨rfl,rfl,rfl,by decide +kernel,rfl,by decide +kernel,by decide +kernel⟩
abbrev Qp:Stmt:=top 7
abbrev ZAv:List Str:= ["house","page"]
theorem ZEz:FnScope ZAv ["house","page"] (Bc Qp):=⟨rfl,rfl,rfl,by decide +kernel,rfl,by decide +kernel,by decide +kernel⟩
abbrev O7:Stmt:=top 6
abbrev ZAu:List Str:= ["state","levels","coming"]
theorem V8:FnScope ZAu ["state"] (Bc O7):=⟨rfl,rfl,rfl,by decide +kernel,rfl,by decide +kernel,by decide +kernel⟩
abbrev Eg:Stmt:=top 26
abbrev ZEk:List Str:= ["_law_script","_law_house_here","_law_state_here","_law_pages_here","_law_found","_law_page","_law_out_here","_law_other"]
theorem Hd:FnScope ZEk ["_law_script"] (Bc Eg):=⟨rfl,rfl,rfl,by decide +kernel,rfl,by decide +kernel,by decide +kernel⟩
def Fx:DS:=(Ah (sIf (Be (dOp Mq (dV 1) (dFn Fp (Ac (dV 0) Af)))) (sRt (dOp Aj (dV 0) (dV 1))) sNx) (sRt (dC (.int 0))))
def Cy:List D->DH->R D:=Bv 2 0 Fx
def Rv:DS:=(Ah (sAs (dOp An (dV 4) (dOp Aj (dV 1) (dOp Av (dV 5) (dC (.int 26))))) (gV 4)) (sAs (dOp Ck (dV 5) (dC (.int 26))) (gV 5)))
def Ot:DE:=(dOp An (dC (.str "z")) (dV 0))
def Od:DE:=(dV 0)
def R9:DB:=(J0 (Be (dOp Lh (dV 0) (dV 1))) (Be (dOp Gr (dV 0) (dC (.str "sea")))))
def Rc:DS:=(Ah (sAs (dC (.str "")) (gV 4)) (Ah (sAs (dOp Ck (dV 3) (dC (.int 8))) (gV 5)) (Ah (Cw (Dh rng1 (Ac (dOp An (dC (.int 1)) (dOp Av (dV 3) (dC (.int 8)))) Af)) (gV 6) Rv) (Ah (sAs (Ba (dOp An (Ba (dFn Ax (Ac (dV 4) Af))) (Ba (Dw (Dp (dV 1)) 1 [] (gV 0) Ca Ot)))) (gV 7)) (sEx (Ft Ex (dV 2) (Ac (dOp Aj (Ba (Dw (Dp (dV 7)) 1 [2] (gV 0) R9 Od)) (dC (.int 0))) Af)))))))
def Q6:DS:=(Ah (sAs (dC (.str "abcdefghijklmnopqrstuvwxyz")) (gV 1)) (Ah (sAs (Ew (dFn Ax Af)) (gV 2)) (Ah (Cw (Dp (dV 0)) (gV 3) Rc) (sRt (dV 2)))))
def Rq:List D->DH->R D:=Bv 1 7 Q6
def R8:DS:=(Ah (sAs (dOp Av (dOp An (dOp An (dOp Bg (dV 3) (dV 3)) (dOp Bg (dC (.int 48271)) (dV 6))) (dC (.int 11))) (dC (.int 2147483647))) (gV 3)) (Ah (sEx (Ft Ex (dV 5) (Ac (dOp Aj (Ba (dFn Ax (Ac (dV 3) (Ac (dOp Av (dV 4) (dOp G6 (dC (.int 10)) (dC (.int 42)))) Af)))) (dFn Ml (Ac (dOp Fi (dV 4) (dC (.int 0))) Af))) Af))) (sAs (dOp Ck (dV 4) (dOp G6 (dC (.int 10)) (dC (.int 42)))) (gV 4))))
def Jd:DS:=(Ah (sAs (dOp Av (dOp Bg (dOp An (dOp Av (dV 0) (dC (.int 999999937))) (dC (.int 2))) (dOp An (dOp Bg (dOp Bg (dC (.int 7919)) (dV 1)) (dV 1)) (dC (.int 48271)))) (dC (.int 2147483647))) (gV 3)) (Ah (sAs (dC (.int 0)) (gV 4)) (Ah (sIf (dOr (Be (dOp Mq (dV 0) (dC (.int 0)))) (Be (dOp Ur (dV 0) (dOp G6 (dC (.int 10)) (dC (.int 18)))))) (sAs (dFn S6 (Ac (dV 0) (Ac (dOp Iz (dC (.int 0)) (dV 0)) Af))) (gV 4)) sNx) (Ah (sAs (Ew (dFn Ax Af)) (gV 5)) (Ah (Cw (Dh rng1 (Ac (dV 2) Af)) (gV 6) R8) (sRt (dV 5)))))))
def El:List D->DH->R D:=Bv 3 4 Jd
def R1:DE:=(dOp Aj (dV 1) (dOp Av (dV 0) (dC (.int 26))))
def Rx:DE:=(Ba (dSl (dV 1) none (some (dOp An (dV 0) (dC (.int 1))))))
def R0:DE:=(Ba (dSl (dV 1) none (some (dOp An (dV 0) (dC (.int 1))))))
def Q7:DE:=(dOp Aj (Ba (dFn Ax (Ac (dV 0) (Ac (dC (.str "sa")) Af)))) (dFn Ml (Ac (dOp By (dV 0) (dC (.str "sea"))) Af)))
def Ls:DS:=(Ah (sAs (dOp Aj (dV 1) (dOp Av (dOp An (dOp Aj (dV 2) (dC (.int 10))) (dOp Bg (dC (.int 5)) (dV 7))) (dC (.int 26)))) (gV 11)) (Ah (sAs (Ba (dOp An (Ba (dOp An (Ba (dSl (dV 3) none (some (dV 10)))) (dV 11))) (Ba (dSl (dV 3) (some (dV 10)) (some (dV 9)))))) (gV 8)) (Ah (sIf (Be (dOp By (dV 8) (dC (.str "sea")))) (sAs (dC (.str "seat")) (gV 8)) sNx) (sEx (Ft Ex (dV 6) (Ac (dV 8) Af))))))
def ZAa:DS:=(sRt (dV 6))
def ZAE:DS:=(Ah (Cw (Dh rng1 (Ac (dC (.int 12)) Af)) (gV 7) Ls) ZAa)
def ZAe:DS:=(Ah (sAs (Ew (dFn Ax Af)) (gV 6)) ZAE)
def Zj:DS:=(Ah (sAs (dOp Av (dOp Aj (dV 2) (dC (.int 9))) (dOp An (dV 9) (dC (.int 1)))) (gV 10)) ZAe)
def ZBF:DS:=(Ah (sAs (dOp Av (dOp Ck (dOp Aj (dV 2) (dC (.int 8))) (dC (.int 3))) (dC (.int 8))) (gV 9)) Zj)
def My:DS:=(Ah (sIf (Be (dOp By (dOp Av (dOp Aj (dV 2) (dC (.int 8))) (dC (.int 3))) (dC (.int 0)))) (Ah (sAs (dOp Av (dOp An (dOp An (Qz R3 (dV 1) (Ac (dOp Aj (dV 3) (dC (.int 0))) Af)) (dC (.int 1))) (dOp Av (dOp Aj (dV 2) (dC (.int 9))) (dC (.int 25)))) (dC (.int 26))) (gV 4)) (Ah (sAs (Ba (dOp An (dOp Aj (dV 1) (dV 4)) (Ba (dSl (dV 3) (some (dC (.int 1))) none)))) (gV 5)) (Ah (sAs (Dw (Dh rng1 (Ac (dC (.int 8)) Af)) 1 [3] (gV 0) Ca Rx) (gV 6)) (Ah (sAs (Ew (dOp An (dV 6) (Ba (Dw (Dh rng1 (Ac (dC (.int 4)) Af)) 1 [5] (gV 0) Ca R0)))) (gV 6)) (Ah (sAs (Dw (Dp (dV 6)) 1 [] (gV 0) Ca Q7) (gV 6)) (sRt (dOp An (Ba (dSl (dV 6) (some (dOp Av (dOp Aj (dV 2) (dC (.int 10))) (dC (.int 12)))) none)) (Ba (dSl (dV 6) none (some (dOp Av (dOp Aj (dV 2) (dC (.int 10))) (dC (.int 12))))))))))))) sNx) ZBF)
def Ou:DS:=(Ah (sIf (Be (dOp By (dOp Av (dOp Ck (dOp Aj (dV 2) (dC (.int 10))) (dC (.int 26))) (dC (.int 4))) (dC (.int 0)))) (sAs (Ba (dSl (Ba (dOp An (dOp Aj (Ba (dFn Ax (Ac (dC (.str "sea")) (Ac (dC (.str "none")) Af)))) (dOp Av (dOp Ck (dOp Aj (dV 2) (dC (.int 10))) (dC (.int 104))) (dC (.int 2)))) (Ba (dSl (dV 3) (some (dC (.int 3))) none)))) none (some (dC (.int 8))))) (gV 3)) sNx) My)
def Rm:DS:=(Ah (sAs (Qz Km (dC (.str "")) (Ac (Ba (Dw (Dp (Ba (dSl (dV 2) none (some (dC (.int 8)))))) 1 [1] (gV 0) Ca R1)) Af)) (gV 3)) Ou)
def Lj:DS:=(Ah (sIf (Be (dOp Fi (dOp Aj (dV 2) (dC (.int 11))) (dC (.int 2147483647)))) (sRt (dFn Rq (Ac (Ba (dSl (dV 2) (some (dC (.int 11))) (some (dC (.int 23))))) Af))) sNx) Rm)
def Mj:DS:=(Ah (sAs (Ba (dFn El (Ac (dV 0) (Ac (dC (.int 0)) (Ac (dC (.int 24)) Af))))) (gV 2)) Lj)
def J8:DS:=(Ah (sAs (dC (.str "abcdefghijklmnopqrstuvwxyz")) (gV 1)) Mj)
def Hz:List D->DH->R D:=Bv 1 11 J8
def Ma:DS:=(Ah (sIf (Be (dOp Fi (dV 0) (dC (.int 2147483647)))) (sRt (dOp Bg (dOp Av (dOp Ck (dV 0) (dC (.int 2))) (dOp G6 (dC (.int 10)) (dC (.int 38)))) (dOp Av (dV 0) (dC (.int 2))))) sNx) (sRt (dOp Bg (dOp Av (dV 0) (dC (.int 50))) (dOp Av (dOp Ck (dV 0) (dC (.int 50))) (dC (.int 2))))))
def Nz:List D->DH->R D:=Bv 1 0 Ma
def Em:DS:=(Ah (sIf (Be (dOp By (dOp Av (dV 0) (dC (.int 4))) (dC (.int 0)))) (sRt (dC (.int 0))) sNx) (Ah (sIf (J0 (Be (dOp By (dOp Av (dV 0) (dC (.int 4))) (dC (.int 1)))) (Be (dOp Fi (dV 0) (dC (.int 2147483647))))) (sRt (dOp Av (dOp Ck (dV 0) (dC (.int 4))) (dOp G6 (dC (.int 10)) (dC (.int 38))))) sNx) (Ah (sIf (Be (dOp By (dOp Av (dV 0) (dC (.int 4))) (dC (.int 1)))) (sRt (dOp Av (dOp Bg (dV 1) (dOp An (dOp Ck (dV 0) (dC (.int 4))) (dC (.int 2)))) (dOp G6 (dC (.int 10)) (dC (.int 38))))) sNx) (sRt (dOp Av (dOp Ck (dV 0) (dC (.int 4))) (dC (.int 40)))))))
def Eo:List D->DH->R D:=Bv 2 0 Em
def Sq:DE:=(dV 1)
def Qj:DB:=(Be (dOp By (dV 2) (dC (.str "pump"))))
def Sx:DE:=(dFn Dz (Ac (Ba (Dw (Dp (dV 1)) 3 [] (Dq 3 (Bt (gV 0) (Bt (gV 1) (Bt (gV 2) Ep)))) Qj Sq)) Af))
def Rh:DS:=(sRt (dFn Kq (Ac (Ba (Dw (Dp (dV 0)) 2 [] (Dq 2 (Bt (gV 0) (Bt (gV 1) Ep))) Ca Sx)) Af)))
def Qa:List D->DH->R D:=Bv 1 0 Rh
def Pq:DS:=(Ah (sAs (dOp An (dV 4) (dFn Eo (Ac (dOp Aj (dV 0) (dOp An (dC (.int 1)) (dOp Bg (dC (.int 2)) (dV 5)))) (Ac (dV 1) Af)))) (gV 6)) (Ah (sAs (dOp An (dC (.int 1)) (dFn Eo (Ac (dOp Aj (dV 0) (dOp An (dC (.int 2)) (dOp Bg (dC (.int 2)) (dV 5)))) (Ac (dV 1) Af)))) (gV 7)) (Ah (sAs (dC (.str "river")) (gV 8)) (Ah (sIf (J0 (Be (dV 2)) (Be (dOp By (dOp Av (dOp Ck (dOp Aj (dV 0) (dOp An (dC (.int 2)) (dOp Bg (dC (.int 2)) (dV 5)))) (dC (.int 160))) (dC (.int 2))) (dC (.int 0))))) (sAs (dC (.str "pump")) (gV 8)) sNx) (Ah (sEx (Ft Ex (dV 3) (Ac (dFn Cu (Ac (dV 6) (Ac (dV 7) (Ac (dV 8) Af)))) Af))) (sAs (dOp An (dV 6) (dV 7)) (gV 4)))))))
def T6:DS:=(Ah (sAs (Ew (dFn Ax Af)) (gV 3)) (Ah (sAs (dC (.int 0)) (gV 4)) (Ah (Cw (Dh rng1 (Ac (dOp Av (dOp Aj (dV 0) (dC (.int 0))) (dC (.int 4))) Af)) (gV 5) Pq) (sRt (dFn Fd (Ac (dV 3) Af))))))
def Ss:List D->DH->R D:=Bv 3 6 T6
def Ks:DS:=(sIf (dOr (Be (dOp By (dV 6) (dC (.int 0)))) (J0 (Be (dOp Fi (dOp Av (dOp Aj (dV 0) (dV 6)) (dC (.int 3))) (dC (.int 0)))) (Be (dOp Mq (dV 5) (dV 2))))) (Ah (sEx (Ft Ex (dV 4) (Ac (dFn Cu (Ac (dV 5) (Ac (dFn Ss (Ac (Ba (dSl (dV 0) (some (dOp An (dC (.int 3)) (dOp Bg (dC (.int 7)) (dV 6)))) (some (dOp An (dC (.int 10)) (dOp Bg (dC (.int 7)) (dV 6)))))) (Ac (dV 1) (Ac (dV 3) Af)))) Af))) Af))) (sAs (dOp An (dOp An (dV 5) (dC (.int 1))) (dOp Av (dOp Ck (dOp Aj (dV 0) (dV 6)) (dC (.int 3))) (dC (.int 9)))) (gV 5))) sNx)
def Q8:DS:=(Ah (sAs (Ew (dFn Ax Af)) (gV 4)) (Ah (sAs (dC (.int 0)) (gV 5)) (Ah (Cw (Dh rng1 (Ac (dC (.int 3)) Af)) (gV 6) Ks) (sRt (dFn Fd (Ac (dV 4) Af))))))
def Q0:List D->DH->R D:=Bv 4 3 Q8
def Ux:DS:=(sRt (dOp An (dOp An (dFn Cu (Ac (dC (.str "basin")) Af)) (dV 7)) (dFn Cu (Ac (dFn Eo (Ac (dOp Aj (dV 5) (dC (.int 3))) (Ac (dV 4) Af))) (Ac (dV 9) (Ac (dV 10) Af))))))
def Wi:DS:=(Ah (sIf (Be (dV 8)) (Ah (sAs (dOp Av (dOp An (dOp An (dV 2) (dC (.int 1))) (dOp Av (dOp Aj (dV 5) (dC (.int 6))) (dOp Iz (dV 1) (dC (.int 1))))) (dV 1)) (gV 11)) (sAs (dFn Cu (Ac (dOp Aj (dV 0) (dV 11)) (Ac (dOp An (dC (.int 1)) (dOp Av (dOp Aj (dV 5) (dC (.int 7))) (dC (.int 5)))) (Ac (dOp An (dFn Qa (Ac (dV 9) Af)) (dFn Nz (Ac (dOp Aj (dV 5) (dC (.int 4))) Af))) Af)))) (gV 10))) sNx) Ux)
def Ub:DS:=(Ah (sAs (dC .non) (gV 10)) Wi)
def U3:DS:=(Ah (sAs (dFn Q0 (Ac (Ba (dSl (dV 5) (some (dC (.int 8))) (some (dC (.int 32))))) (Ac (dV 4) (Ac (dV 3) (Ac (dV 8) Af))))) (gV 9)) Ub)
def Wm:DS:=(Ah (sAs (Nm (dOp Fi (dV 1) (dC (.int 1))) (dOp Fi (dOp Av (dOp Aj (dV 5) (dC (.int 5))) (dC (.int 3))) (dC (.int 0)))) (gV 8)) U3)
def Qd:DS:=(Ah (sIf (Be (dOp By (dOp Av (dOp Aj (dV 5) (dC (.int 2))) (dC (.int 5))) (dC (.int 1)))) (sRt (dOp An (dOp An (dFn Cu (Ac (dC (.str "town")) Af)) (dV 7)) (dFn Cu (Ac (dFn Eo (Ac (dOp Aj (dV 5) (dC (.int 3))) (Ac (dV 4) Af))) (Ac (dFn Eo (Ac (dOp Aj (dV 5) (dC (.int 4))) (Ac (dV 4) Af))) Af))))) sNx) Wm)
def K6:DS:=(Ah (sIf (Be (dOp By (dOp Av (dOp Aj (dV 5) (dC (.int 2))) (dC (.int 5))) (dC (.int 0)))) (sRt (dOp An (dOp An (dFn Cu (Ac (dC (.str "mill")) Af)) (dV 7)) (dFn Cu (Ac (dFn Eo (Ac (dOp Aj (dV 5) (dC (.int 3))) (Ac (dV 4) Af))) Af)))) sNx) Qd)
def W8:DS:=(Ah (sAs (dFn Cu (Ac (dOp Aj (dV 0) (dV 2)) (Ac (dV 6) (Ac (dOp Av (dOp Aj (dV 5) (dC (.int 1))) (dC (.int 6))) Af)))) (gV 7)) K6)
def Vo:DS:=(Ah (sIf (Be (dOp Fi (dOp Av (dOp Aj (dV 5) (dC (.int 0))) (dOp Iz (dV 1) (dV 2))) (dC (.int 0)))) (sAs (dOp Aj (dV 0) (dOp An (dV 2) (dOp Av (dOp Aj (dV 5) (dC (.int 0))) (dOp Iz (dV 1) (dV 2))))) (gV 6)) sNx) W8)
def V6:DS:=(Ah (sAs (dC (.str "sea")) (gV 6)) Vo)
def Lk:DS:=(Ah (sAs (Ba (dFn El (Ac (dV 4) (Ac (dV 2) (Ac (dC (.int 33)) Af))))) (gV 5)) V6)
def Hq:List D->DH->R D:=Bv 5 7 Lk
def Oe:DE:=(dFn Hq (Ac (dV 5) (Ac (dV 3) (Ac (dV 0) (Ac (dV 4) (Ac (dFn Cy (Ac (dV 1) (Ac (dOp An (dOp An (dV 2) (dC (.int 3))) (dV 0)) Af))) Af))))))
def Su:DS:=(Ah (sAs (dOp An (dC (.int 1)) (dOp Av (dFn Cy (Ac (dV 0) (Ac (dV 1) Af))) (dC (.int 12)))) (gV 2)) (Ah (sAs (dOp An (dC (.int 1)) (dOp Av (dFn Cy (Ac (dV 0) (Ac (dOp An (dV 1) (dC (.int 1))) Af))) (dC (.int 24)))) (gV 3)) (Ah (sAs (Ba (dFn Hz (Ac (dFn Cy (Ac (dV 0) (Ac (dOp An (dV 1) (dC (.int 2))) Af))) Af))) (gV 4)) (Ah (sAs (Ba (Dw (Dh rng1 (Ac (dV 2) Af)) 1 [0,1,2,3,4] (gV 0) Ca Oe)) (gV 5)) (sRt (dFn Cu (Ac (dV 3) (Ac (dFn Fd (Ac (dV 5) Af)) Af))))))))
def Mm:List D->DH->R D:=Bv 2 4 Su
def Io:DS:=(sIf (Be (dOp By (dOp Aj (dOp Aj (dOp Aj (dV 0) (dC (.int 1))) (dV 3)) (dC (.int 2))) (dC (.str "sea")))) (sAs (dOp An (dOp An (dV 2) (dOp Aj (dOp Aj (dV 1) (dV 3)) (dC (.int 3)))) (dOp Aj (dOp Aj (dV 1) (dV 3)) (dC (.int 2)))) (gV 2)) sNx)
def Mu:DS:=(Ah (sAs (dC (.int 0)) (gV 2)) (Ah (Cw (Dh rng1 (Ac (dFn Fp (Ac (dV 1) Af)) Af)) (gV 3) Io) (sRt (dV 2))))
def Np:List D->DH->R D:=Bv 2 2 Mu
def Gn:DS:=(Ah (sAs (dFn Eo (Ac (dOp Aj (dV 1) (dC (.int 0))) (Ac (dV 2) Af))) (gV 3)) (Ah (sIf (Be (dOp By (dOp Aj (dV 0) (dC (.int 0))) (dC (.str "mill")))) (sRt (dFn Cu (Ac (dV 3) (Ac (dC (.int 0)) (Ac (dC (.int 0)) (Ac (dV 3) (Ac (dC (.int 0)) (Ac (dC (.int 0)) Af)))))))) sNx) (Ah (sIf (Be (dOp By (dOp Aj (dV 0) (dC (.int 0))) (dC (.str "town")))) (Ah (sAs (dOp Aj (dV 0) (dC (.int 4))) (gV 4)) (Ah (sIf (Be (dOp Fi (dOp Av (dOp Aj (dV 1) (dC (.int 1))) (dC (.int 3))) (dC (.int 0)))) (sAs (dOp Av (dOp Ck (dOp Aj (dV 1) (dC (.int 1))) (dC (.int 3))) (dOp An (dOp Aj (dV 0) (dC (.int 4))) (dC (.int 1)))) (gV 4)) sNx) (sRt (dFn Cu (Ac (dOp An (dV 4) (dV 3)) (Ac (dV 4) (Ac (dC (.int 0)) (Ac (dV 3) (Ac (dC (.int 0)) (Ac (dC (.int 0)) Af)))))))))) sNx) (Ah (sAs (dFn Eo (Ac (dOp Aj (dV 1) (dC (.int 1))) (Ac (dV 2) Af))) (gV 5)) (Ah (sAs (dFn Jf (Ac (dOp Aj (dV 0) (dC (.int 4))) (Ac (dFn Eo (Ac (dOp Aj (dV 1) (dC (.int 2))) (Ac (dV 2) Af))) Af))) (gV 6)) (Ah (sIf (Be (dOp Fi (dV 5) (dC (.int 0)))) (sAs (dOp Aj (dV 0) (dC (.int 4))) (gV 6)) sNx) (Ah (sAs (dC (.int 0)) (gV 7)) (Ah (sIf (Be (dOp W6 (dOp Aj (dV 0) (dC (.int 6))) (dC .non))) (sAs (dFn Jf (Ac (dOp Aj (dOp Aj (dV 0) (dC (.int 6))) (dC (.int 2))) (Ac (dFn Eo (Ac (dOp Aj (dV 1) (dC (.int 3))) (Ac (dV 2) Af))) Af))) (gV 7)) sNx) (Ah (sAs (dFn Jf (Ac (dV 6) (Ac (dOp Av (dOp Aj (dV 1) (dC (.int 3))) (dC (.int 40))) Af))) (gV 8)) (sRt (dFn Cu (Ac (dOp Iz (dOp An (dOp An (dOp An (dV 5) (dV 3)) (dV 7)) (dV 6)) (dV 8)) (Ac (dC (.int 0)) (Ac (dV 5) (Ac (dV 3) (Ac (dV 7) (Ac (dV 6) Af)))))))))))))))))
def Ek:List D->DH->R D:=Bv 3 6 Gn
def M3:DS:=(sEx (Ft Ex (dV 6) (Ac (dFn Ek (Ac (dOp Aj (dOp Aj (dV 0) (dC (.int 1))) (dV 8)) (Ac (Ba (dSl (dV 7) (some (dOp Bg (dC (.int 4)) (dV 8))) (some (dOp An (dOp Bg (dC (.int 4)) (dV 8)) (dC (.int 4)))))) (Ac (dV 5) Af)))) Af)))
def Nu:DS:=(Ah (sAs (dFn Cy (Ac (dV 1) (Ac (dOp An (dOp An (dV 2) (dC (.int 1))) (dV 4)) Af))) (gV 5)) (Ah (sAs (Ew (dFn Ax Af)) (gV 6)) (Ah (sAs (Ba (dFn El (Ac (dV 5) (Ac (dOp An (dOp Bg (dC (.int 13)) (dV 4)) (dC (.int 20))) (Ac (dOp Bg (dC (.int 4)) (dFn Fp (Ac (dOp Aj (dV 0) (dC (.int 1))) Af))) Af))))) (gV 7)) (Ah (Cw (Dh rng1 (Ac (dFn Fp (Ac (dOp Aj (dV 0) (dC (.int 1))) Af)) Af)) (gV 8) M3) (sEx (Ft Ex (dV 3) (Ac (dFn Fd (Ac (dV 6) Af)) Af)))))))
def Ry:DS:=(Ah (sAs (Ew (dFn Ax Af)) (gV 3)) (Ah (Cw (Dh rng1 (Ac (dOp Av (dFn Cy (Ac (dV 1) (Ac (dV 2) Af))) (dC (.int 7))) Af)) (gV 4) Nu) (sRt (dV 3))))
def Mv:List D->DH->R D:=Bv 3 6 Ry
def Rn:DE:=(dOp Aj (Ba (dFn Ax (Ac (dC (.int 0)) (Ac (dOp Av (dOp Ck (dV 0) (dC (.int 3))) (dC (.int 30))) (Ac (dOp Av (dOp Bg (dOp An (dV 1) (dC (.int 1))) (dOp An (dOp Ck (dV 0) (dC (.int 3))) (dC (.int 2)))) (dOp G6 (dC (.int 10)) (dC (.int 37)))) Af))))) (dOp Av (dV 0) (dC (.int 3))))
def Zc:DS:=(sEx (Ft Ex (dV 3) (Ac (dFn Fd (Ac (Ba (Dw (Dp (Ba (dSl (dV 7) (some (dC (.int 3))) (some (dC (.int 8)))))) 1 [1] (gV 0) Ca Rn)) Af)) Af)))
def Vb:DS:=(Ah (sEx (Ft Ex (dV 2) (Ac (dV 8) Af))) Zc)
def Hj:DS:=(Ah (sIf (Be (dOp By (dOp Aj (dV 6) (dC (.int 0))) (dC (.str "basin")))) (sAs (dFn Jf (Ac (dOp Aj (dV 6) (dC (.int 4))) (Ac (dOp Aj (Ba (dFn Ax (Ac (dOp Av (dOp Aj (dV 7) (dC (.int 0))) (dC (.int 50))) (Ac (dOp Av (dOp An (dV 1) (dOp Aj (dV 7) (dC (.int 2)))) (dOp G6 (dC (.int 10)) (dC (.int 38)))) (Ac (dOp Aj (dV 6) (dC (.int 4))) (Ac (dC (.int 0)) Af)))))) (dOp Av (dOp Aj (dV 7) (dC (.int 1))) (dC (.int 4)))) Af))) (gV 8)) sNx) Vb)
def Y7:DS:=(Ah (sAs (dC (.int 0)) (gV 8)) Hj)
def Zb:DS:=(Ah (sAs (Ba (dSl (dV 4) (some (dOp Bg (dC (.int 8)) (dV 5))) (some (dOp An (dOp Bg (dC (.int 8)) (dV 5)) (dC (.int 8)))))) (gV 7)) Y7)
def Jq:DS:=(Ah (sAs (dOp Aj (dOp Aj (dV 0) (dC (.int 1))) (dV 5)) (gV 6)) Zb)
def M7:DS:=(Ah (sAs (Ew (dFn Ax Af)) (gV 2)) (Ah (sAs (Ew (dFn Ax Af)) (gV 3)) (Ah (sAs (Ba (dFn El (Ac (dV 1) (Ac (dC (.int 20)) (Ac (dOp Bg (dC (.int 8)) (dFn Fp (Ac (dOp Aj (dV 0) (dC (.int 1))) Af))) Af))))) (gV 4)) (Ah (Cw (Dh rng1 (Ac (dFn Fp (Ac (dOp Aj (dV 0) (dC (.int 1))) Af)) Af)) (gV 5) Jq) (sRt (dFn Cu (Ac (dFn Fd (Ac (dV 2) Af)) (Ac (dFn Fd (Ac (dV 3) Af)) Af))))))))
def Mw:List D->DH->R D:=Bv 2 7 M7
def Pk:DS:=(sAs (dOp An (dV 1) (dV 2)) (gV 1))
def Pn:DS:=(sAs (dOp An (dV 1) (dV 4)) (gV 1))
def Ox:DS:=(Cw (Dp (dV 3)) (gV 4) Pn)
def M4:DS:=(Ah (sAs (dC (.int 0)) (gV 1)) (Ah (Cw (Dp (dOp Aj (dV 0) (dC (.int 0)))) (gV 2) Pk) (Ah (Cw (Dp (dOp Aj (dV 0) (dC (.int 1)))) (gV 3) Ox) (sRt (dV 1)))))
def O5:List D->DH->R D:=Bv 1 4 M4
def N5:DS:=(sRt (Nm (dFn Hy (Ac (dV 0) (Ac (dC (.ty "int")) Af))) (U5 (dFn Hy (Ac (dV 0) (Ac (dC (.ty "bool")) Af))))))
def Lg:List D->DH->R D:=Bv 1 0 N5
def Wf:DE:=(dOp An (dOp Aj (dV 1) (dC (.int 2))) (dOp Aj (dV 1) (dC (.int 3))))
def V2:DB:=(Be (dOp By (dOp Aj (dV 0) (dC (.int 2))) (dC (.str "sea"))))
def Mr:DS:=(sRt (dFn Dz (Ac (Ba (Dw (Dh (Ka 2) (Ac (dOp Aj (dV 0) (dC (.int 1))) (Ac (dV 1) Af))) 2 [] (Dq 2 (Bt (gV 0) (Bt (gV 1) Ep))) V2 Wf)) Af)))
def Lw:List D->DH->R D:=Bv 2 0 Mr
def Oh:DE:=(dFn Dz (Ac (dV 0) Af))
def Ii:DS:=(Ah (sAs (dV 0) (Dq 2 (Bt (gV 1) (Bt (gV 2) Ep)))) (sRt (dOp An (dFn Dz (Ac (dV 1) Af)) (dFn Dz (Ac (Ba (Dw (Dp (dV 2)) 1 [] (gV 0) Ca Oh)) Af)))))
def Il:List D->DH->R D:=Bv 1 2 Ii
def O9:DS:=(Ah (sAs (dFn Lw (Ac (dV 1) (Ac (dV 5) Af))) (gV 6)) (sIf (dOr (S7 (Be (dFn Lg (Ac (dV 6) Af)))) (Be (dOp Gr (dV 6) (dFn Np (Ac (dV 1) (Ac (dV 5) Af)))))) (sRt (dC (.bl false))) sNx))
def Px:DS:=(sIf (dOr (Be (dOp Gr (dFn Lw (Ac (dV 1) (Ac (dV 5) Af))) (dFn Np (Ac (dV 1) (Ac (dV 5) Af))))) (Be (dOp Gr (dFn Il (Ac (dV 2) Af)) (dV 4)))) (sRt (dC (.bl false))) sNx)
def Y9:DS:=(sRt (Nm (dOp By (dFn Il (Ac (dV 7) Af)) (dFn O5 (Ac (dV 7) Af))) (dOp By (dFn Il (Ac (dV 2) Af)) (dV 4))))
def Ze:DS:=(Ah (sAs (dFn Mw (Ac (dV 1) (Ac (dFn Cy (Ac (dV 0) (Ac (dC (.int 23)) Af))) Af))) (gV 7)) Y9)
def ZAD:DS:=(Ah (Cw (Dp (Ba (Vh (dV 3) (dUn Vn (dC (.int 1)))))) (gV 5) Px) Ze)
def Z4:DS:=(Ah (Cw (Dp (dV 3)) (gV 5) O9) ZAD)
def ZAf:DS:=(Ah (sIf (dOr (S7 (Be (dFn Lg (Ac (dV 4) Af)))) (Be (dOp Gr (dV 4) (dFn O5 (Ac (dV 2) Af))))) (sRt (dC (.bl false))) sNx) Z4)
def Z2:DS:=(Ah (sAs (dFn Il (Ac (dV 2) Af)) (gV 4)) ZAf)
def Zo:DS:=(Ah (sAs (Ba (dFn Mv (Ac (dV 1) (Ac (dV 0) (Ac (dC (.int 16)) Af))))) (gV 3)) Z2)
def ZA2:DS:=(Ah (sAs (dFn Mw (Ac (dV 1) (Ac (dFn Cy (Ac (dV 0) (Ac (dC (.int 15)) Af))) Af))) (gV 2)) Zo)
def Wn:DS:=(Ah (sAs (dFn Mm (Ac (dV 0) (Ac (dC (.int 0)) Af))) (gV 1)) ZA2)
def Je:List D->DH->R D:=Bv 1 7 Wn
def Holds:Prop:=∀ns:List Int,ns.length<=63->(∀m∈ns,m.natAbs.log2 < 1048576)->∃G,Je [.fl (ns.map D.int)] []=.ok (.bl true) G
end Law
namespace Law
open PySem L2 DL
variable {ns xs:List Int} {k x cell yr y:Int} {G L:DH} {n a i at_:Nat} {A:DO} {ds:List D} {α:Type} {te:DE} {p:Bool} {l w:List Nat}
def cellAt (ns:List Int) (k:Int):Int:=ns.getD k.toNat 0
theorem Hv (hk:0<=k):Cy [.fl (ns.map D.int),.int k] G=.ok (.int (cellAt ns k)) G:=by
 unfold Cy Fx cellAt;rw [Bm];by_cases h:k < ns.length
 ·simp [h];rw [En (d:=D.int (ns[k.toNat]'(by omega))) (k:=k.toNat) (by omega) (by rw [List.getElem?_map,List.getElem?_eq_getElem (by omega)];rfl)];simp [Bo,List.getElem?_eq_getElem (show k.toNat < ns.length by omega)]
 ·simp [h,Bo,List.getElem?_eq_none (show ns.length<=k.toNat by omega)]
def number (x cell:Int):Int:=if x % 4=0 then 0 else if x % 4=1/\2147483647 < x then x / 4 % 10 ^ 38 else if x % 4=1 then cell * (x / 4 + 2) % 10 ^ 38 else x / 4 % 40
theorem Gh (hx:0<=x):Eo [.int x,.int cell] G=.ok (.int (number x cell)) G:=by
 unfold Eo Em number;rw [Bm];by_cases h0:x % 4=0
 ·simp [h0,Bo]
 by_cases h1:x % 4=1
 ·by_cases h2:2147483647 < x
  ·simp [h1,h2,Bo]
  ·simp [h1,h2];rw [Ob (by omega) (by omega)];simp [Bo]
 ·simp [h0,h1,Bo]
theorem Qh:0<=number x cell:=by
 unfold number;split
 ·omega
 split
 ·exact Int.emod_nonneg _ (by decide)
 split
 ·exact Int.emod_nonneg _ (by decide)
 ·omega
def strm:Nat->Int->Int->Int->List Int
 | 0,_,_,_=> []
 | n + 1,j,num,left=>(if 0 < left then left % 10 ^ 42 else (num * num + 48271 * j + 11) % 2147483647)::strm n (j + 1) ((num * num + 48271 * j + 11) % 2147483647) (left / 10 ^ 42)
theorem ZAJ:∀{n:Nat} {j num left:Int},(strm n j num left).length=n
 | 0,_,_,_=>rfl
 | n + 1,_,_,_=>by simp [strm,ZAJ]
theorem ZAz:∀{n:Nat} {j num left:Int},∀x∈strm n j num left,0<=x
 | 0,_,_,_,x,h=>by cases h
 | n + 1,j,num,left,x,h=>by
  simp only [strm,List.mem_cons] at h;rcases h with rfl | h
  ·split
   ·exact Int.emod_nonneg _ (by decide)
   ·exact Int.emod_nonneg _ (by decide)
  ·exact ZAz x h
theorem ZAF {c k m:D} {G:DH}:∀{n:Nat} {j num left:Int} {acc:List Int} {e:Option D},0<=num->num < 2147483647->0<=j->acc.length + n<=1000->∃a b d,Bq (gV 6) R8 (Bp j n) [some c,some k,some m,some (.int num),some (.int left),some (.ref G.length),e] (G++ [.lst (acc.map D.int)])=
  .nx [some c,some k,some m,a,b,some (.ref G.length),d] (G++ [.lst ((acc++strm n j num left).map D.int)])
 | 0,j,num,left,acc,e,h1,h2,h3,h4=>⟨some (.int num),some (.int left),e,by rw [Hb,Dv];simp [strm]⟩
 | n + 1,j,num,left,acc,e,h1,h2,h3,h4=>by
  obtain ⟨a,b,d,ih⟩:=ZAF (c:=c) (k:=k) (m:=m) (G:=G) (n:=n) (j:=j + 1) (num:=(num * num + 48271 * j + 11) % 2147483647) (left:=left / 10 ^ 42) (acc:=acc++ [if 0 < left then left % 10 ^ 42 else (num * num + 48271 * j + 11) % 2147483647]) (e:=some (.int j)) (Int.emod_nonneg _ (by decide)) (Int.emod_lt_of_pos _ (by decide)) (by omega) (by simp;omega);refine ⟨a,b,d,?_⟩;have hb:R8 [some c,some k,some m,some (.int num),some (.int left),some (.ref G.length),some (.int j)] (G++ [.lst (acc.map D.int)])=
    .nx [some c,some k,some m,some (.int ((num * num + 48271 * j + 11) % 2147483647)),some (.int (left / 10 ^ 42)),some (.ref G.length),some (.int j)] (G++ [.lst ((acc++ [if 0 < left then left % 10 ^ 42 else (num * num + 48271 * j + 11) % 2147483647]).map D.int)]):=by
   have hl:acc.length < 1000000:=by omega
   unfold R8
   by_cases hl0:0 < left <;> simp [Fl (i:=num) (j:=num) (by omega) (by omega),Ea,Cg,hl0,hl,Gd]
  rw [Fv,De];simp only [Cv,R.Dg,List.set,hb,Dc,ih];simp [strm]
theorem pr:¬(("river":Str)="pump"):=by decide
structure Stp where
 h:Int
 m:Int
 r:Bool
def wy (r:Bool):Str:=if r then "river" else "pump"
def Stp.enc (s:Stp):D:=.tup [.int s.h,.int s.m,.str (wy s.r)]
@[simp] theorem ZHJ {st:List Stp}:bels n (st.map Stp.enc)=true:=Fw λs _=>by simp [Stp.enc]
@[simp] theorem ZHG {r:Bool}:(wy r="pump")=(r=false):=by
 cases r
 ·exact propext ⟨λh=>rfl,λ_=>rfl⟩
 ·exact propext ⟨λh=>absurd h pr,λh=>by cases h⟩
abbrev Ssn:=Int×List Stp
def Cr (s:Ssn):D:=.tup [.int s.1,.tup (s.2.map Stp.enc)]
@[simp] theorem ZGg {ss:List Ssn}:bels n (ss.map Cr)=true:=Fw λs _=>by simp [Cr]
theorem Sy (h:bels (G.length + 1) ds=true):freeze (G++ [A]) (.ok (.ref (G.length + 1)) (G++A:: .lst ds::L))=.ok (.fl ds) (G++ [A]):=by have:=Cg (G:=G++ [A]) (ds:=ds) (L:=L) (by simpa using h);simpa using this
theorem Zt (h:bels (G.length + 1) ds=true):tidy (G++ [A]) (.ok (.ref (G.length + 1)) (G++A:: .lst ds::L))=.ok (.ref (G.length + 1)) (G++ [A,.lst ds]):=by have:=Ff (G:=G++ [A]) (ds:=ds) (L:=L) (by simpa using h);simpa using this
theorem ZE5 {B:DO} (h:bels (G.length + 2) ds=true):freeze (G++ [A,B]) (.ok (.ref (G.length + 2)) (G++A::B:: .lst ds::L))=.ok (.fl ds) (G++ [A,B]):=by have:=Cg (G:=G++ [A,B]) (ds:=ds) (L:=L) (by simpa using h);simpa using this
theorem V0 {xs:List α} (h:a<=xs.length):cutD xs none (some (a:Int))=xs.take a:=by
 have:=(I9 xs.length (a:Int)).1;have e:HT.sIx xs.length xs.length (some (a:Int))=a:=by omega
 unfold cutD;rw [e];simp [HT.sIx]
theorem ZAN {xs:List α} (h:a<=xs.length):cutD xs (some (a:Int)) none=xs.drop a:=by
 have:=(I9 xs.length (a:Int)).2;have e:HT.sIx xs.length 0 (some (a:Int))=a:=by omega
 unfold cutD;rw [e];simp only [HT.sIx];exact List.take_of_length_le (by simp)
theorem Tu {S:DSt} {F:Nat->D} (h:∀k:Nat,k < n->te (S.set 0 (some (.int k))) G=.ok (F k) G):Bx (gV 0) Ca te S (Bp 0 n) G=.ok ((List.range n).map F) G:=by
 have e:Bp 0 n=(List.range n).map λ(i:Nat)=>D.int (i:Int):=by
  refine List.ext_getElem? λi=> ?_
  simp [Bp]
 rw [Yb (F:=λd=>match d with | .int i=>some (F i.toNat) | _=>none) (λq hq=> ?_)]
 ·congr 1
  rw [e,List.filterMap_map];show (List.range n).filterMap (λ(i:Nat)=>some (F ((i:Int).toNat)))=_;rw [List.filterMap_eq_map'];simp
 ·rw [e] at hq;obtain ⟨i,hi,rfl⟩:=List.mem_map.mp hq;exact ⟨S.set 0 (some (.int i)),by simp,.inr ⟨rfl,F i,h i (List.mem_range.mp hi),by simp⟩⟩
def Cp (cell k:Int) (n:Nat):List Int:=strm n 0 ((cell % 999999937 + 2) * (7919 * k * k + 48271) % 2147483647) (if cell < 0∨10 ^ 18<=cell then max cell (-cell) else 0)
theorem Rk:(Cp cell k n).length=n:=ZAJ
theorem Qc:∀x∈Cp cell k n,0<=x:=λx h=>ZAz x h
theorem ZDt (hk:0<=k/\k < 100) (hn:n<=1000) (G:DH):El [.int cell,.int k,.int n] G=.ok (.ref G.length) (G++ [.lst ((Cp cell k n).map D.int)]):=by
 have hr:inR (n:Int):=Ey (by omega) (by omega);have h3:0<=7919 * k * k:=Int.mul_nonneg (by omega) (by omega);have h2:7919 * k * k<=791900 * 100:=Int.le_trans (Int.mul_le_mul_of_nonneg_right (c:=k) (by omega:7919 * k<=791900) (by omega)) (Int.mul_le_mul_of_nonneg_left (by omega) (by omega));have hnum:(cell % 999999937 + 2) * (7919 * k * k + 48271) % 2147483647 < 2147483647:=Int.emod_lt_of_pos _ (by decide)
 obtain ⟨a,b,d,h⟩:=ZAF (c:=.int cell) (k:=.int k) (m:=.int n) (G:=G) (n:=n) (j:=0) (num:=(cell % 999999937 + 2) * (7919 * k * k + 48271) % 2147483647) (left:=if cell < 0∨10 ^ 18<=cell then max cell (-cell) else 0) (acc:= []) (e:=none) (Int.emod_nonneg _ (by decide)) hnum (by omega) (by simp;omega);unfold Cp El Jd;rw [Bm];simp at h;simp [Fl (i:=7919 * k) (j:=k) (by omega) (by omega),Ob (i:=cell % 999999937 + 2) (j:=7919 * k * k + 48271) (by omega) (by omega),ZCO,ZDc,ZGB,ite_int,Ff,hr,h]
theorem Ef {m:Nat} :bels m (xs.map D.int)=true:=Fw λ_ _=>rfl
theorem Ph (hk:0<=k/\k < 100) (hn:n<=1000) (G:DH):freeze G (El [.int cell,.int k,.int n] G)=.ok (.fl ((Cp cell k n).map D.int)) G:=by rw [ZDt hk hn];exact Cg Ef
def gx (xs:List Int) (i:Nat):Int:=xs.getD i 0
theorem Bu (h:i < xs.length):atI (xs.map D.int) (i:Int)=some (.int (gx xs i)):=En rfl (by rw [List.getElem?_map,List.getElem?_eq_getElem h];simp [gx,List.getD_eq_getElem?_getD,h])
theorem Hg (hx:∀x∈xs,0<=x) (i:Nat):0<=gx xs i:=by
 unfold gx;rw [List.getD_eq_getElem?_getD];by_cases h:i < xs.length
 ·rw [List.getElem?_eq_getElem h];exact hx _ (List.getElem_mem h)
 ·rw [List.getElem?_eq_none (by omega)];exact Int.le_refl _
theorem Kp {b:Nat} (hab:a<=b) (hb:b<=xs.length):cutD (xs.map D.int) (some (a:Int)) (some (b:Int))=((xs.drop a).take (b - a)).map D.int:=by
 have h1:=(I9 (xs.map D.int).length (a:Int)).2;have h2:=(I9 (xs.map D.int).length (b:Int)).1;have l:(xs.map D.int).length=xs.length:=by simp
 have e1:HT.sIx (xs.map D.int).length 0 (some (a:Int))=a:=by omega
 have e2:HT.sIx (xs.map D.int).length (xs.map D.int).length (some (b:Int))=b:=by omega
 unfold cutD;rw [e1,e2,List.map_take,List.map_drop]
def stF (xs:List Int) (big:Int) (p:Bool):Nat->Nat->Int->List Stp
 | 0,_,_=> []
 | n + 1,j,top=>⟨top + number (gx xs (1 + 2 * j)) big,1 + number (gx xs (2 + 2 * j)) big, !(p && decide (gx xs (2 + 2 * j) / 160 % 2=0))⟩::stF xs big p n (j + 1) (top + number (gx xs (1 + 2 * j)) big + (1 + number (gx xs (2 + 2 * j)) big))
theorem Z3 {xs:List Int} {big:Int} {p:Bool} {G:DH} (hx:∀x∈xs,0<=x):∀(n j:Nat) (top:Int) (acc:List Stp) (a b d e:Option D),2 * (j + n) < xs.length->acc.length + n<=1000->∃a' b' d' e' t',Bq (gV 5) Pq (Bp j n) [some (.fl (xs.map D.int)),some (.int big),some (.bl p),some (.ref G.length),some (.int top),a,b,d,e] (G++ [.lst (acc.map Stp.enc)])=
  .nx [some (.fl (xs.map D.int)),some (.int big),some (.bl p),some (.ref G.length),t',a',b',d',e'] (G++ [.lst ((acc++stF xs big p n j top).map Stp.enc)])
 | 0,j,top,acc,a,b,d,e,h1,h2=>⟨a,b,d,e,some (.int top),by rw [Hb,Dv];simp [stF]⟩
 | n + 1,j,top,acc,a,b,d,e,h1,h2=>by
  have x0:=Hg hx (1 + 2 * j);have x1:=Hg hx (2 + 2 * j);have a0:atI (xs.map D.int) (1 + 2 * (j:Int))=some (.int (gx xs (1 + 2 * j))):=by have:=Bu (xs:=xs) (i:=1 + 2 * j) (by omega);rwa [show ((1 + 2 * j:Nat):Int)=1 + 2 * (j:Int) by omega] at this
  have a1:atI (xs.map D.int) (2 + 2 * (j:Int))=some (.int (gx xs (2 + 2 * j))):=by have:=Bu (xs:=xs) (i:=2 + 2 * j) (by omega);rwa [show ((2 + 2 * j:Nat):Int)=2 + 2 * (j:Int) by omega] at this
  unfold stF;generalize gx xs (1 + 2 * j)=u0 at *;generalize gx xs (2 + 2 * j)=u1 at *;obtain ⟨a',b',d',e',t',ih⟩:=Z3 (big:=big) (p:=p) (G:=G) hx n (j + 1) (top + number u0 big + (1 + number u1 big)) (acc++ [⟨top + number u0 big,1 + number u1 big, !(p && decide (u1 / 160 % 2=0))⟩]) (some (.int j)) (some (.int (top + number u0 big))) (some (.int (1 + number u1 big))) (some (.str (wy (!(p && decide (u1 / 160 % 2=0)))))) (by omega) (by simp;omega)
  refine ⟨a',b',d',e',t',?_⟩;have hb:Pq [some (.fl (xs.map D.int)),some (.int big),some (.bl p),some (.ref G.length),some (.int top),some (.int j),b,d,e] (G++ [.lst (acc.map Stp.enc)])=
    .nx [some (.fl (xs.map D.int)),some (.int big),some (.bl p),some (.ref G.length),some (.int (top + number u0 big + (1 + number u1 big))),some (.int j),some (.int (top + number u0 big)),some (.int (1 + number u1 big)),some (.str (wy (!(p && decide (u1 / 160 % 2=0)))))] (G++ [.lst ((acc++ [(⟨top + number u0 big,1 + number u1 big, !(p && decide (u1 / 160 % 2=0))⟩:Stp)]).map Stp.enc)]):=by
   have hl:acc.length < 1000000:=by omega
   have m2:∀G,Bg (.int 2) (.int (j:Int)) G=.ok (.int (2 * (j:Int))) G:=λG=>Fl (by omega) (by omega)
   unfold Pq;cases p with
   | false=>simp [m2,a0,a1,Gh x0,Gh x1,Ea,hl,Gd,Stp.enc,wy]
   | true=>by_cases hz:u1 / 160 % 2=0 <;> simp [m2,a0,a1,Gh x0,Gh x1,Ea,hl,Gd,Stp.enc,wy,hz]
  rw [Fv,De];simp only [Cv,R.Dg,List.set,hb,Dc];have e1:((j:Int) + 1)=((j + 1:Nat):Int):=by omega
  rw [e1,ih];simp
theorem ZBp {big:Int} (hx:∀x∈xs,0<=x) (hl:xs.length=7) (G:DH):Ss [.fl (xs.map D.int),.int big,.bl p] G=.ok (.tup ((stF xs big p (gx xs 0 % 4).toNat 0 0).map Stp.enc)) G:=by have a0:atI (xs.map D.int) 0=some (.int (gx xs 0)):=Bu (i:=0) (by omega);obtain ⟨n,hn⟩:∃n:Nat,gx xs 0 % 4=n:=⟨(gx xs 0 % 4).toNat,by omega⟩;obtain ⟨a,b,d,e,t,h⟩:=Z3 (big:=big) (p:=p) (G:=G) hx n 0 0 [] none none none none (by omega) (by simp;omega);rw [hn];unfold Ss T6;rw [Bm];have hr:inR (n:Int):=Ey (by omega) (by omega);simp at h;simp [a0,hn,Ff,hr,h,Ea,Vm]
def ruF (xs:List Int) (big yr:Int) (p:Bool):Nat->Nat->Int->List Ssn
 | 0,_,_=> []
 | m + 1,j,b=>if j=0∨(0 < gx xs j % 3/\b < yr) then (b,stF ((xs.drop (3 + 7 * j)).take 7) big p (gx ((xs.drop (3 + 7 * j)).take 7) 0 % 4).toNat 0 0)::ruF xs big yr p m (j + 1) (b + 1 + gx xs j / 3 % 9) else ruF xs big yr p m (j + 1) b
theorem Uc {xs:List Int} {big yr:Int} {p:Bool} {G:DH} (hx:∀x∈xs,0<=x) (hl:xs.length=24):∀(m j:Nat) (b:Int) (acc:List Ssn) (x:Option D),j + m=3->acc.length + m<=1000->∃b' x',Bq (gV 6) Ks (Bp j m) [some (.fl (xs.map D.int)),some (.int big),some (.int yr),some (.bl p),some (.ref G.length),some (.int b),x] (G++ [.lst (acc.map Cr)])=
  .nx [some (.fl (xs.map D.int)),some (.int big),some (.int yr),some (.bl p),some (.ref G.length),b',x'] (G++ [.lst ((acc++ruF xs big yr p m j b).map Cr)])
 | 0,j,b,acc,x,e,h2=>⟨some (.int b),x,by rw [Hb,Dv];simp [ruF]⟩
 | m + 1,j,b,acc,x,e,h2=>by
  have e1:((j:Int) + 1)=((j + 1:Nat):Int):=by omega
  have a0:atI (xs.map D.int) (j:Int)=some (.int (gx xs j)):=Bu (by omega);have m7:∀G,Bg (.int 7) (.int (j:Int)) G=.ok (.int (7 * (j:Int))) G:=λG=>Fl (by omega) (by omega)
  have cu:cutD (xs.map D.int) (some (3 + 7 * (j:Int))) (some (10 + 7 * (j:Int)))=((xs.drop (3 + 7 * j)).take 7).map D.int:=by have:=Kp (xs:=xs) (a:=3 + 7 * j) (b:=10 + 7 * j) (by omega) (by omega);rwa [show ((3 + 7 * j:Nat):Int)=3 + 7 * (j:Int) by omega,show ((10 + 7 * j:Nat):Int)=10 + 7 * (j:Int) by omega,show 10 + 7 * j - (3 + 7 * j)=7 by omega] at this
  have cs:=λG=>ZBp (xs:=(xs.drop (3 + 7 * j)).take 7) (big:=big) (p:=p) (λx h=>hx x (List.mem_of_mem_drop (List.mem_of_mem_take h))) (by simp;omega) G
  have hal:acc.length < 1000000:=by omega
  unfold ruF;generalize ((xs.drop (3 + 7 * j)).take 7)=zs at *;generalize stF zs big p (gx zs 0 % 4).toNat 0 0=st at *;have fz:∀A:DO,freeze (G++ [A]) (.ok (.ref (G.length + 1)) (G++ [A,.lst (zs.map D.int)]))=.ok (.fl (zs.map D.int)) (G++ [A]):=λA=>Sy Ef
  by_cases hc:j=0∨(0 < gx xs j % 3/\b < yr)
  ·rw [if_pos hc];obtain ⟨b',x',ih⟩:=Uc (big:=big) (yr:=yr) (p:=p) (G:=G) hx hl m (j + 1) (b + 1 + gx xs j / 3 % 9) (acc++ [(b,st)]) (some (.int j)) (by omega) (by simp;omega);refine ⟨b',x',?_⟩;have hb:Ks [some (.fl (xs.map D.int)),some (.int big),some (.int yr),some (.bl p),some (.ref G.length),some (.int b),some (.int j)] (G++ [.lst (acc.map Cr)])=
     .nx [some (.fl (xs.map D.int)),some (.int big),some (.int yr),some (.bl p),some (.ref G.length),some (.int (b + 1 + gx xs j / 3 % 9)),some (.int j)] (G++ [.lst ((acc++ [(b,st)]).map Cr)]):=by
    unfold Ks;rcases hc with h0 | ⟨h3,h4⟩
    ·have h0':(j:Int)=0:=by omega
     subst h0;simp at cu m7 a0;simp [m7,a0,cu,fz,cs,Ea,hal,Gd,Cr]
    ·by_cases h0:j=0
     ·subst h0;simp at cu m7 a0;simp [m7,a0,cu,fz,cs,Ea,hal,Gd,Cr]
     ·have h0':¬(j:Int)=0:=by omega
      simp [h0,h0',h3,h4,m7,a0,cu,fz,cs,Ea,hal,Gd,Cr]
   rw [Fv,De];simp only [Cv,R.Dg,List.set,hb,Dc];rw [e1,ih];simp
  ·rw [if_neg hc];obtain ⟨b',x',ih⟩:=Uc (big:=big) (yr:=yr) (p:=p) (G:=G) hx hl m (j + 1) b acc (some (.int j)) (by omega) (by omega);refine ⟨b',x',?_⟩;have hb:Ks [some (.fl (xs.map D.int)),some (.int big),some (.int yr),some (.bl p),some (.ref G.length),some (.int b),some (.int j)] (G++ [.lst (acc.map Cr)])=
     .nx [some (.fl (xs.map D.int)),some (.int big),some (.int yr),some (.bl p),some (.ref G.length),some (.int b),some (.int j)] (G++ [.lst (acc.map Cr)]):=by
    have h0:¬j=0:=λz=>hc (.inl z)
    have h0':¬(j:Int)=0:=by omega
    unfold Ks;by_cases h3:0 < gx xs j % 3
    ·have h4:¬b < yr:=λz=>hc (.inr ⟨h3,z⟩)
     simp [h0,h0',a0,h3,h4]
    ·simp [h0,h0',a0,h3]
   rw [Fv,De];simp only [Cv,R.Dg,List.set,hb,Dc];rw [e1,ih]
theorem ZFD {big:Int} (hx:∀x∈xs,0<=x) (hl:xs.length=24) (G:DH):Q0 [.fl (xs.map D.int),.int big,.int yr,.bl p] G=.ok (.tup ((ruF xs big yr p 3 0 0).map Cr)) G:=by obtain ⟨b',x',h⟩:=Uc (big:=big) (yr:=yr) (p:=p) (G:=G) hx hl 3 0 0 [] none (by omega) (by simp);have hr:inR 3:=Ey (by omega) (by omega);unfold Q0 Q8;rw [Bm];simp at h;simp [Ff,hr,h,Ea,Vm]
theorem ZFJ {big:Int} :∃s r,ruF xs big yr p 3 0 0=s::r:=by unfold ruF;rw [if_pos (.inl rfl)];exact ⟨_,_,rfl⟩
def pmps (st:List Stp):List Int:=(st.filter λs=> !s.r).map Stp.m
theorem ZFu {b:D} {st:List Stp} (hst:st.length<=1000) (G:DH):Sx [some b,some (.tup (st.map Stp.enc))] G=.ok (.int (pmps st).sum) G:=by
 have hc:Bx (Dq 3 (Bt (gV 0) (Bt (gV 1) (Bt (gV 2) Ep)))) Qj Sq [none,none,none] (st.map Stp.enc) G=.ok ((pmps st).map D.int) G:=by
  clear hst
  induction st with
  | nil=>rfl
  | cons s st ih=>
   have e0:Stp.enc s=.tup [.int s.h,.int s.m,.str (wy s.r)]:=rfl;have h1:Qj [some (.int s.h),some (.int s.m),some (.str (wy s.r))] G=.ok (!s.r) G:=by
    unfold Qj
    cases s.r <;> simp
   have h2:Sq [some (.int s.h),some (.int s.m),some (.str (wy s.r))] G=.ok (.int s.m) G:=by unfold Sq;simp
   rw [List.map_cons,Ih,e0];cases hs:s.r
   ·rw [hs] at h1 h2;simp [h1,h2,ih,pmps,hs]
   ·rw [hs] at h1;simp [h1,ih,pmps,hs]
 have fz:freeze G (.ok (.ref G.length) (G++ [.lst ((pmps st).map D.int)]))=.ok (.fl ((pmps st).map D.int)) G:=Cg Ef;have hcs:∀S:DSt,Ay 3 [] S= [none,none,none]:=λS=>rfl
 unfold Sx;have hl:(pmps st).length<=1000000:=by
  have:(pmps st).length<=st.length:=by unfold pmps;rw [List.length_map];exact List.length_filter_le _ _
  omega
 simp [hcs,hc,hl,fz]
theorem ZBG {big:Int} :∀(n j:Nat) (top:Int),(stF xs big p n j top).length=n
 | 0,j,top=>rfl
 | n + 1,j,top=>by simp [stF,ZBG n]
theorem Vs {xs:List Int} {big yr:Int} {p:Bool}:∀(m j:Nat) (b:Int),(ruF xs big yr p m j b).length<=m/\∀s∈ruF xs big yr p m j b,s.2.length<=1000
 | 0,j,b=>⟨Nat.le_refl _,λs h=>by cases h⟩
 | m + 1,j,b=>by
  unfold ruF;split
  ·have ih:=Vs (xs:=xs) (big:=big) (yr:=yr) (p:=p) m (j + 1) (b + 1 + gx xs j / 3 % 9);refine ⟨by simp [ih.1],λs h=> ?_⟩;rcases List.mem_cons.mp h with rfl | h
   ·show (stF _ _ _ _ _ _).length<=1000;rw [ZBG];omega
   ·exact ih.2 s h
  ·have ih:=Vs (xs:=xs) (big:=big) (yr:=yr) (p:=p) m (j + 1) b;exact ⟨by omega,ih.2⟩
theorem Yz {E X Y F:α->D} (hE:∀a,E a=.tup [X a,Y a]):∀{l:List α},(∀a∈l,te [some (X a),some (Y a)] G=.ok (F a) G)->Bx (Dq 2 (Bt (gV 0) (Bt (gV 1) Ep))) Ca te [none,none] (l.map E) G=.ok (l.map F) G
 | [],_=>rfl
 | a::l,h=>by
  have ih:=Yz hE (l:=l) λb hb=>h b (List.mem_cons_of_mem _ hb)
  rw [List.map_cons,Ih,hE];simp [h a (by simp),ih]
theorem ZFv {r:List Ssn} (hr:r.length<=1000) (h:∀s∈r,s.2.length<=1000) (hne:∃s r',r=s::r'):∃v:Int,∀G,Qa [.tup (r.map Cr)] G=.ok (.int v) G:=by
 obtain ⟨s,r',rfl⟩:=hne;refine ⟨(r'.map λs=>(pmps s.2).sum).foldl max (pmps s.2).sum,λG=> ?_⟩;have hc:Bx (Dq 2 (Bt (gV 0) (Bt (gV 1) Ep))) Ca Sx [none,none] ((s::r').map Cr) G=.ok (((s::r').map λs=>(pmps s.2).sum).map D.int) G:=by rw [List.map_map];exact Yz (X:=λs:Ssn=>.int s.1) (Y:=λs:Ssn=>.tup (s.2.map Stp.enc)) (F:=D.int ∘ λs:Ssn=>(pmps s.2).sum) (λ_=>rfl) λa ha=>ZFu (h a ha) G
 have hl:((s::r').map λs=>(pmps s.2).sum).length<=1000000:=by rw [List.length_map];omega
 have hm:Kq [.fl (((s::r').map λs=>(pmps s.2).sum).map D.int)] G=.ok (.int ((r'.map λs=>(pmps s.2).sum).foldl max (pmps s.2).sum)) G:=ZGV (by rw [List.map_cons];rfl);have fz:freeze G (.ok (.ref G.length) (G++ [.lst (((s::r').map λs=>(pmps s.2).sum).map D.int)]))=.ok (.fl (((s::r').map λs=>(pmps s.2).sum).map D.int)) G:=Cg Ef;have hcs:∀S:DSt,Ay 2 [] S= [none,none]:=λS=>rfl
 generalize ((s::r').map λs=>(pmps s.2).sum)=zs at *;generalize (s::r').map Cr=rs at *;unfold Qa Rh;rw [Bm];simp [hcs,hc,hl,fz,hm,Bo]
theorem ZCq (hx:0<=x):∃v:Int,∀G,Nz [.int x] G=.ok (.int v) G:=by
 by_cases h:2147483647 < x
 ·have m:=λG=>Ob (i:=x / 2 % 100000000000000000000000000000000000000) (j:=x % 2) (G:=G) (by omega) (by omega)
  exact ⟨_,λG=>by
   unfold Nz Ma;rw [Bm];simp [h,m,Bo]
   rfl⟩
 ·have m:=λG=>Ob (i:=x % 50) (j:=x / 50 % 2) (G:=G) (by omega) (by omega)
  exact ⟨_,λG=>by
   unfold Nz Ma;rw [Bm];simp [h,m,Bo]
   rfl⟩
def Am (l:List Nat):Str:=⟨l.toArray⟩
theorem ZDf {l':List Nat}:Am l++Am l'=Am (l++l'):=by show Str.append _ _=_;unfold Str.append Am;simp
def Iu:List Nat:=("abcdefghijklmnopqrstuvwxyz":Str).cps.toList
theorem ZBg:∀i,i < 26->Iu[i]? =some (97 + i):=by decide +kernel
theorem ZE8:("abcdefghijklmnopqrstuvwxyz":Str).length<=1000000:=by decide +kernel
theorem Oq {i:Int} (h0:0<=i) (h1:i < 26) (G:DH):Aj (.str ("abcdefghijklmnopqrstuvwxyz":Str)) (.int i) G=.ok (.str (Am [97 + i.toNat])) G:=by
 rw [Ig,if_pos ZE8]
 show (match atI Iu i with | some c=>R.ok (sgn c) G | none=>.bad)=_
 rw [En (k:=i.toNat) (by omega) (ZBg _ (by omega))]
 rfl
theorem add_str {l':List Nat} (h:l.length + l'.length<=1000000) (G:DH):An (.str (Am l)) (.str (Am l')) G=.ok (.str (Am (l++l'))) G:=by
 have e:An (.str (Am l)) (.str (Am l')) G=if (Am l).length + (Am l').length<=1000000 then .ok (.str (Am l++Am l')) G else .bad:=rfl
 rw [e,if_pos (by show l.toArray.size + l'.toArray.size<=1000000;simpa using h),ZDf]
theorem Hf {lo hi:Option Int} (h:l.length<=1000000) (G:DH):Ie (.str (Am l)) lo hi G=.ok (.str (Am (cutD l lo hi))) G:=by
 rw [Hx,if_pos (by show l.toArray.size<=1000000;simpa using h)]
 rfl
theorem ZFg {c:Nat} (h:(c::l).length<=1000000) (G:DH):Aj (.str (Am (c::l))) (.int 0) G=.ok (.str (Am [c])) G:=by
 rw [Ig,if_pos (by show (c::l).toArray.size<=1000000;simpa using h)]
 show (match atI (c::l) 0 with | some c=>R.ok (sgn c) G | none=>.bad)=_
 have h0:atI (c::l) (0:Int)=some c:=En (k:=0) rfl rfl;rw [h0]
 rfl
theorem Iw {x:Str} (G:DH):freeze G (.ok (.str x) G)=.ok (.str x) G:=ZCs rfl
theorem Hc {m:Nat} {l:List Str}:bels m (l.map D.str)=true:=Fw λ_ _=>rfl
theorem pigeon [DecidableEq α]:∀(zs l:List α),zs.Nodup->l.length < zs.length->∃z,z∈zs/\z ∉ l
 | [],l,_,h=>by simp at h
 | z::zs,l,hn,h=>by
  by_cases hz:z∈l
  ·have hn':=List.nodup_cons.mp hn;have hl:(l.erase z).length=l.length - 1:=List.length_erase_of_mem hz;have hp:0 < l.length:=List.length_pos_of_mem hz;obtain ⟨y,hy,hny⟩:=pigeon zs (l.erase z) hn'.2 (by simp only [List.length_cons] at h;omega);have hne:y≠z:=λe=>hn'.1 (e ▸ hy)
   exact ⟨y,List.mem_cons_of_mem _ hy,λhm=>hny ((List.mem_erase_of_ne hne).mpr hm)⟩
  ·exact ⟨z,by simp,hz⟩
def zsL:List Str:=Iu.map λc=>Am [122,c]
theorem ZEA:zsL.Nodup:=by decide +kernel
theorem Jh:zsL.length=26:=by decide +kernel
theorem ZB2:∀z∈zsL,z≠"sea":=by decide +kernel
theorem Ym:∀l:List Str,Gz (l.map D.str)=some (l.map V.str)
 | []=>rfl
 | a::l=>by
  rw [List.map_cons,Gz,Ym l]
  rfl
theorem Ys (x:Str):∀l:List Str,inV (.str x) (l.map V.str)=decide (x∈l)
 | []=>by simp [inV]
 | a::l=>by
  show (eqV (.str a) (.str x) || inV (.str x) (l.map V.str))=_;rw [Ys x l];show ((a == x) || decide (x∈l))=_;by_cases e:a=x
  ·subst e;simp
  ·have e2:¬x=a:=λz=>e z.symm
   simp [e,e2]
theorem ZEK {x:Str} {l:List Str} (h:G[i]? =some (.lst (l.map D.str))):Lh (.str x) (.ref i) G=.ok (.bl (!decide (x∈l))) G:=by
 have hs:Bf (.ref i) G=some (l.map D.str):=by simp [h]
 have key:inD (.str x) (.ref i) G=some (decide (x∈l)):=by
  show (match Bf (.ref i) G,Mz (.str x) with | some xs,some v=>(Gz xs).map λvs=>inV v vs | _,_=>none)=_
  rw [hs];show (Gz (l.map D.str)).map (λvs=>inV (.str x) vs)=_;rw [Ym];show some (inV _ _)=_;rw [Ys]
 unfold Lh;rw [key]
def wdF:Nat->Int->List Nat->List Nat
 | 0,_,w=>w
 | m + 1,rest,w=>wdF m (rest / 26) (w++ [97 + (rest % 26).toNat])
theorem ZA0 {s0 s2 s3 s7:Option D} {G:DH}:∀(m:Nat) (j rest:Int) (w:List Nat) (x:Option D),w.length + m<=1000->∃r y,Bq (gV 6) Rv (Bp j m) [s0,some (.str ("abcdefghijklmnopqrstuvwxyz":Str)),s2,s3,some (.str (Am w)),some (.int rest),x,s7] G=.nx [s0,some (.str ("abcdefghijklmnopqrstuvwxyz":Str)),s2,s3,some (.str (Am (wdF m rest w))),r,y,s7] G
 | 0,j,rest,w,x,h=>⟨some (.int rest),x,by rw [Hb,Dv];rfl⟩
 | m + 1,j,rest,w,x,h=>by
  obtain ⟨r,y,ih⟩:=ZA0 (s0:=s0) (s2:=s2) (s3:=s3) (s7:=s7) (G:=G) m (j + 1) (rest / 26) (w++ [97 + (rest % 26).toNat]) (some (.int j)) (by simp;omega);refine ⟨r,y,?_⟩;have hb:Rv [s0,some (.str ("abcdefghijklmnopqrstuvwxyz":Str)),s2,s3,some (.str (Am w)),some (.int rest),some (.int j),s7] G=.nx [s0,some (.str ("abcdefghijklmnopqrstuvwxyz":Str)),s2,s3,some (.str (Am (w++ [97 + (rest % 26).toNat]))),some (.int (rest / 26)),some (.int j),s7] G:=by
   have hi:=λG=>Oq (i:=rest % 26) (by omega) (by omega) G
   have ha:=λG=>add_str (l:=w) (l':= [97 + (rest % 26).toNat]) (by simp;omega) G
   generalize Am [97 + (rest % 26).toNat]=z at hi ha;generalize ("abcdefghijklmnopqrstuvwxyz":Str)=AB at hi;unfold Rv;simp [-Ig,-Jc,hi,ha]
  rw [Fv,De];simp only [Cv,R.Dg,List.set,hb,Dc];exact ih
theorem ZGR (G:DH):Bx (gV 0) Ca Ot [none] (Iu.map sgn) G=.ok (zsL.map D.str) G:=by
 unfold zsL;rw [List.map_map];generalize Iu=l
 induction l with
 | nil=>rfl
 | cons c l ih=>
  have he:Ot [some (sgn c)] G=.ok (.str (Am [122,c])) G:=by
   have ha:=add_str (l:= [122]) (l':= [c]) (by simp) G;have e1:Am [122]=("z":Str):=by decide +kernel
   rw [e1] at ha;have e2:sgn c=.str (Am [c]):=rfl;unfold Ot;rw [e2];simp [-Jc,ha]
  rw [List.map_cons,Ih];simp [he,ih]
theorem Yx {names:List Str} (hG:G[i]? =some (.lst (names.map D.str))):∀l:List Str,Bx (gV 0) R9 Od [none,some (.ref i)] (l.map D.str) G=.ok ((l.filter λx=>decide (x ∉ names) && decide (x≠"sea")).map D.str) G
 | []=>rfl
 | a::l=>by
  have ih:=Yx hG l;have h1:=ZEK (x:=a) hG;have ht:R9 [some (.str a),some (.ref i)] G=.ok (decide (a ∉ names) && decide (a≠"sea")) G:=by
   unfold R9;by_cases h:a∈names
   ·simp [h1,h]
   ·by_cases h2:a="sea"
    ·have h3:(a="sea")=True:=by simp [h2]
     simp [h1,h,h3]
    ·simp [h1,h,h2]
  have he:Od [some (.str a),some (.ref i)] G=.ok (.str a) G:=by unfold Od;simp
  rw [List.map_cons,Ih];simp only [Cv,R.Rg,List.set,ht,he,ih];rw [List.filter_cons]
  cases (decide (a ∉ names) && decide (a≠"sea")) <;> simp
theorem ZDr {names:List Str} (hx:0<=x) (hl:names.length < 26):∃nm:Str,∀(G:DH) (s0 x4 x5 x6 x7:Option D),∃y4 y5 y6 y7,
  Rc [s0,some (.str ("abcdefghijklmnopqrstuvwxyz":Str)),some (.ref G.length),some (.int x),x4,x5,x6,x7] (G++ [.lst (names.map D.str)])=
   .nx [s0,some (.str ("abcdefghijklmnopqrstuvwxyz":Str)),some (.ref G.length),some (.int x),y4,y5,y6,y7] (G++ [.lst ((names++ [nm]).map D.str)]):=by
 obtain ⟨m,hm⟩:∃m:Nat,1 + x % 8=m:=⟨(1 + x % 8).toNat,by omega⟩;have hm8:m<=8:=by omega
 obtain ⟨w,ew⟩:∃w:Str,Am (wdF m (x / 8) [])=w:=⟨_,rfl⟩;obtain ⟨z,hz,hzn⟩:=pigeon zsL names ZEA (by rw [Jh];exact hl);have hne:∃a r,((w::zsL).filter λx=>decide (x ∉ names) && decide (x≠"sea"))=a::r:=by
  have:z∈((w::zsL).filter λx=>decide (x ∉ names) && decide (x≠"sea")):=List.mem_filter.mpr ⟨List.mem_cons_of_mem _ hz,by simp [hzn,ZB2 z hz]⟩;cases e:((w::zsL).filter λx=>decide (x ∉ names) && decide (x≠"sea")) with
  | nil=>rw [e] at this;cases this
  | cons a r=>exact ⟨a,r,rfl⟩
 obtain ⟨a,r,har⟩:=hne;refine ⟨a,λG s0 x4 x5 x6 x7=> ?_⟩;obtain ⟨r5,y6,hw⟩:=ZA0 (s0:=s0) (s2:=some (.ref G.length)) (s3:=some (.int x)) (s7:=x7) (G:=G++ [.lst (names.map D.str)]) m 0 (x / 8) [] x6 (by simp;omega);refine ⟨some (.str w),r5,y6,some (.fl ((w::zsL).map D.str)),?_⟩;have hz0:=λG=>ZGR G
 have hk:=Yx (names:=names) (i:=G.length) (G:=G++ [.lst (names.map D.str)]) (by rw [Ea];rfl) (w::zsL);rw [har] at hk;have hlow:Eh (.str ("abcdefghijklmnopqrstuvwxyz":Str)) (G++ [DO.lst (names.map D.str)])=.ok (.pure (Iu.map sgn)) (G++ [DO.lst (names.map D.str)]):=rfl;have hzl:(zsL.map D.str).length<=1000000:=by rw [List.length_map,Jh];decide
 have hzl4:1 + (zsL.map D.str).length<=1000000:=by rw [List.length_map,Jh];decide
 have hzl2:zsL.length<=999999:=by rw [Jh];decide
 have hzl3:zsL.length<=1000000:=by rw [Jh];decide
 have e0:Am []=("":Str):=by decide +kernel
 have fz1:∀ls:List Str,freeze (G++ [.lst (names.map D.str)]) (.ok (.ref (G.length + 1)) (G++ [.lst (names.map D.str),.lst (ls.map D.str)]))=.ok (.fl (ls.map D.str)) (G++ [.lst (names.map D.str)]):=λls=>Sy Hc
 have fza:=fz1 [w];have fzb:=fz1 zsL;have fzc:=fz1 (w::zsL);have fzd:=fz1 (a::r);have hrl:r.length<=1000000/\r.length<=999999:=by
  have h1:(a::r).length<=(w::zsL).length:=by rw [<-har];exact List.length_filter_le _ _
  simp only [List.length_cons,Jh] at h1;omega
 have hnl:names.length < 1000000:=by omega
 have hr:inR (m:Int):=Ey (by omega) (by omega);rw [e0,ew] at hw;have hcs1:∀S:DSt,Ay 1 [] S= [none]:=λS=>rfl
 have hcs2:∀(a b c d e f g h:Option D),Ay 1 [2] [a,b,c,d,e,f,g,h]= [none,c]:=λ_ _ _ _ _ _ _ _=>rfl
 simp only [List.map_cons,List.map_nil] at fza fzc fzd hk ⊢;generalize zsL.map D.str=Z at *;generalize ("abcdefghijklmnopqrstuvwxyz":Str)=AB at *;generalize Iu.map sgn=LS at *;unfold Rc;simp [-ZBv,hm,hr,hw,hlow,hcs1,hz0,fza,hzl,fzb,fzc,hcs2,hk,hrl,fzd,Ea,Gd,hnl,hzl4]
theorem Zr:∀(xs:List Int) (acc:List Str),(∀x∈xs,0<=x)->acc.length + xs.length < 26->∃nm:List Str,nm.length=xs.length/\∀(G:DH) (s0 x3 x4 x5 x6 x7:Option D),∃y3 y4 y5 y6 y7,
  Bq (gV 3) Rc (xs.map D.int) [s0,some (.str ("abcdefghijklmnopqrstuvwxyz":Str)),some (.ref G.length),x3,x4,x5,x6,x7] (G++ [.lst (acc.map D.str)])=
   .nx [s0,some (.str ("abcdefghijklmnopqrstuvwxyz":Str)),some (.ref G.length),y3,y4,y5,y6,y7] (G++ [.lst ((acc++nm).map D.str)])
 | [],acc,_,_=>⟨[],rfl,λG s0 x3 x4 x5 x6 x7=>⟨x3,x4,x5,x6,x7,by rw [List.map_nil,Dv,List.append_nil]⟩⟩
 | x::xs,acc,hx,hl=>by
  simp only [List.length_cons] at hl;obtain ⟨a,ha⟩:=ZDr (names:=acc) (x:=x) (hx x (by simp)) (by omega);obtain ⟨nm,hn,ih⟩:=Zr xs (acc++ [a]) (λy hy=>hx y (List.mem_cons_of_mem _ hy)) (by simp;omega);refine ⟨a::nm,by simp [hn],λG s0 x3 x4 x5 x6 x7=> ?_⟩;obtain ⟨z4,z5,z6,z7,hb⟩:=ha G s0 x4 x5 x6 x7;obtain ⟨y3,y4,y5,y6,y7,hL⟩:=ih G s0 (some (.int x)) z4 z5 z6 z7;refine ⟨y3,y4,y5,y6,y7,?_⟩;rw [List.map_cons,De]
  simp only [Cv,R.Dg,List.set,hb,Dc];rw [hL,List.append_assoc]
  rfl
theorem ZF8 (hx:∀x∈xs,0<=x) (hl:xs.length < 26):∃nm:List Str,nm.length=xs.length/\∀G,Rq [.fl (xs.map D.int)] G=.ok (.ref G.length) (G++ [.lst (nm.map D.str)]):=by obtain ⟨nm,hn,h⟩:=Zr xs [] hx (by simpa using hl);refine ⟨nm,hn,λG=> ?_⟩;obtain ⟨y3,y4,y5,y6,y7,hL⟩:=h G (some (.fl (xs.map D.int))) none none none none none;simp only [List.map_nil,List.nil_append] at hL;have td:=Ff (G:=G) (ds:=nm.map D.str) (L:= []) Hc;unfold Rq Q6;rw [Bm];generalize ("abcdefghijklmnopqrstuvwxyz":Str)=AB at *;simp [Ax,Ff,hL,td]
def nmS (l:List Nat):Str:=if Am l="sea" then "seat" else Am l
def nmF (xs:List Int) (w:List Nat) (sz a:Nat) (k:Nat):List Nat:=cutD w none (some (a:Int))++ [97 + ((gx xs 10 + 5 * (k:Int)) % 26).toNat]++cutD w (some (a:Int)) (some (sz:Int))
theorem Zw (hxl:xs.length=24) (hw:w.length<=1000) {sz a:Nat} {s0 s4 s5:Option D} {G:DH}:∀(m k:Nat) (acc:List Str) (x7 x8 x11:Option D),k + m<=12->acc.length + m<=1000->∃y7 y8 y11,
  Bq (gV 7) Ls (Bp k m) [s0,some (.str ("abcdefghijklmnopqrstuvwxyz":Str)),some (.fl (xs.map D.int)),some (.str (Am w)),s4,s5,some (.ref G.length),x7,x8,some (.int sz),some (.int a),x11] (G++ [.lst (acc.map D.str)])=
   .nx [s0,some (.str ("abcdefghijklmnopqrstuvwxyz":Str)),some (.fl (xs.map D.int)),some (.str (Am w)),s4,s5,some (.ref G.length),y7,y8,some (.int sz),some (.int a),y11] (G++ [.lst ((acc++(List.range' k m).map λk=>nmS (nmF xs w sz a k)).map D.str)])
 | 0,k,acc,x7,x8,x11,e,h=>⟨x7,x8,x11,by rw [Hb,Dv];simp⟩
 | m + 1,k,acc,x7,x8,x11,e,h=>by
  obtain ⟨y7,y8,y11,ih⟩:=Zw hxl hw (sz:=sz) (a:=a) (s0:=s0) (s4:=s4) (s5:=s5) (G:=G) m (k + 1) (acc++ [nmS (nmF xs w sz a k)]) (some (.int k)) (some (.str (nmS (nmF xs w sz a k)))) (some (.str (Am [97 + ((gx xs 10 + 5 * (k:Int)) % 26).toNat]))) (by omega) (by simp;omega);refine ⟨y7,y8,y11,?_⟩;have a10:atI (xs.map D.int) 10=some (.int (gx xs 10)):=Bu (i:=10) (by omega);have m5:∀G,Bg (.int 5) (.int (k:Int)) G=.ok (.int (5 * (k:Int))) G:=λG=>Fl (by omega) (by omega)
  have hi:=λG=>Oq (i:=(gx xs 10 + 5 * (k:Int)) % 26) (by omega) (by omega) G
  have l1:=Pb w none (some (a:Int));have l2:=Pb w (some (a:Int)) (some (sz:Int));have h1:=λG=>Hf (l:=w) (lo:=none) (hi:=some (a:Int)) (by omega) G
  have h2:=λG=>Hf (l:=w) (lo:=some (a:Int)) (hi:=some (sz:Int)) (by omega) G
  have h3:=λG=>add_str (l:=cutD w none (some (a:Int))) (l':= [97 + ((gx xs 10 + 5 * (k:Int)) % 26).toNat]) (by simp;omega) G
  have h4:=λG=>add_str (l:=cutD w none (some (a:Int))++ [97 + ((gx xs 10 + 5 * (k:Int)) % 26).toNat]) (l':=cutD w (some (a:Int)) (some (sz:Int))) (by simp;omega) G
  have hb:Ls [s0,some (.str ("abcdefghijklmnopqrstuvwxyz":Str)),some (.fl (xs.map D.int)),some (.str (Am w)),s4,s5,some (.ref G.length),some (.int k),x8,some (.int sz),some (.int a),x11] (G++ [.lst (acc.map D.str)])=
    .nx [s0,some (.str ("abcdefghijklmnopqrstuvwxyz":Str)),some (.fl (xs.map D.int)),some (.str (Am w)),s4,s5,some (.ref G.length),some (.int k),some (.str (nmS (nmF xs w sz a k))),some (.int sz),some (.int a),some (.str (Am [97 + ((gx xs 10 + 5 * (k:Int)) % 26).toNat]))] (G++ [.lst ((acc++ [nmS (nmF xs w sz a k)]).map D.str)]):=by
   have hal:acc.length < 1000000:=by omega
   unfold nmF nmS;generalize Am (cutD w none (some (a:Int))++ [97 + ((gx xs 10 + 5 * (k:Int)) % 26).toNat]++cutD w (some (a:Int)) (some (sz:Int)))=nm at *;generalize Am (cutD w none (some (a:Int))++ [97 + ((gx xs 10 + 5 * (k:Int)) % 26).toNat])=nm1 at *;generalize Am (cutD w none (some (a:Int)))=nm2 at *;generalize Am [97 + ((gx xs 10 + 5 * (k:Int)) % 26).toNat]=nm3 at *;generalize Am (cutD w (some (a:Int)) (some (sz:Int)))=nm4 at *
   generalize Am w=W at *;generalize ("abcdefghijklmnopqrstuvwxyz":Str)=AB at *;unfold Ls;by_cases hs:nm="sea"
   ·have hs':(nm="sea")=True:=by simp [hs]
    simp [-Ig,-Jc,-Hx,a10,m5,hi,h1,h2,h3,h4,Iw,Ea,Gd,hal,hs']
   ·simp [-Ig,-Jc,-Hx,a10,m5,hi,h1,h2,h3,h4,Iw,Ea,Gd,hal,hs]
  rw [Fv,De];simp only [Cv,R.Dg,List.set,hb,Dc];have e1:((k:Int) + 1)=((k + 1:Nat):Int):=by omega
  rw [e1,ih,List.range'_succ,List.map_cons,List.append_assoc]
  rfl
def wd0 (xs:List Int):List Nat:=(xs.take 8).map λx=>97 + (x % 26).toNat
theorem ZDb (l:List Int) (G:DH):Bx (gV 0) Ca R1 [none,some (.str ("abcdefghijklmnopqrstuvwxyz":Str))] (l.map D.int) G=.ok ((l.map λx=>97 + (x % 26).toNat).map sgn) G:=by
 induction l with
 | nil=>rfl
 | cons x l ih=>
  have hi:=Oq (i:=x % 26) (by omega) (by omega) G;have he:R1 [some (.int x),some (.str ("abcdefghijklmnopqrstuvwxyz":Str))] G=.ok (sgn (97 + (x % 26).toNat)) G:=by have e2:sgn (97 + (x % 26).toNat)=.str (Am [97 + (x % 26).toNat]):=rfl;rw [e2];generalize ("abcdefghijklmnopqrstuvwxyz":Str)=AB at *;unfold R1;simp [-Ig,hi]
  rw [List.map_cons,Ih];simp [-Ig,he,ih]
theorem ZEm {cs:List Nat} (h:cs.length<=1000) (G:DH):Km (.str ("":Str)) [.fl (cs.map sgn)] G=.ok (.str (Am cs)) G:=by
 have h1:=ZGb (sep:=("":Str)) (ys:=cs.map λc=>(⟨#[c]⟩:Str)) (G:=G) (by
  have e:("":Str).length=0:=by decide +kernel
  rw [e]
  have:∀l:List Nat,((l.map λc=>(⟨#[c]⟩:Str)).map (·.length)).sum=l.length:=λl=>by
   induction l with
   | nil=>rfl
   | cons a l ih=>
    simp only [List.map_cons,List.sum_cons,ih,List.length_cons];show 1 + l.length=_;omega
  rw [this];omega)
 rw [ZCW,List.map_map] at h1;exact h1
theorem addR {p:Nat} {xs ys:List D} (h:G[p]? =some (.lst xs)) (hl:xs.length + ys.length<=1000000):An (.ref p) (.fl ys) G=.ok (.ref G.length) (G++ [.lst (xs++ys)]):=by simp [An,Ei,h,hl]
theorem slR {p:Nat} {xs:List D} {lo hi:Option Int} (h:G[p]? =some (.lst xs)):Ie (.ref p) lo hi G=.ok (.ref G.length) (G++ [.lst (cutD xs lo hi)]):=by simp [Ie,Ei,h]
def sea2 (x:Str):Str:=if x="sea" then "sa" else x
theorem ZDe {p:Nat} {l:List Str} (h:G[p]? =some (.lst (l.map D.str))):Do p (gV 0) Ca Q7 [none] l.length 0 G=.ok ((l.map sea2).map D.str) G:=by
 have h1:=ZEq (g:=gV 0) (c:=Ca) (te:=Q7) (S:= [none]) (F:=λd=>match d with
  | .str x=>some (.str (sea2 x))
  | _=>none) h (λx hx=>by
   obtain ⟨y,_,rfl⟩:=List.mem_map.mp hx;refine ⟨[some (.str y)],rfl,.inr ⟨rfl,.str (sea2 y),?_,rfl⟩⟩;have fz:freeze G (.ok (.ref G.length) (G++ [.lst [.str y,.str "sa"]]))=.ok (.fl [.str y,.str "sa"]) G:=Cg rfl;unfold Q7 sea2;by_cases hs:y="sea"
   ·have hs':(y="sea")=True:=by simp [hs]
    simp [fz,hs']
   ·simp [fz,hs])
 rw [List.length_map] at h1;rw [h1,List.filterMap_map,List.map_map]
 congr 1
 show List.filterMap (λx=>some ((D.str ∘ sea2) x)) l=_;rw [List.filterMap_eq_map']
theorem ZFN (hw:w.length<=1000) (n:Nat) (G:DH):Bx (gV 0) Ca Rx [none,some (.str (Am w))] (Bp 0 n) G=.ok (((List.range n).map λk:Nat=>Am (cutD w none (some ((k:Int) + 1)))).map D.str) G:=by
 rw [List.map_map];exact Tu (te:=Rx) (S:= [none,some (.str (Am w))]) λk _=>by have h:=Hf (l:=w) (lo:=none) (hi:=some ((k:Int) + 1)) (by omega) G;unfold Rx;simp [-Hx,h,Iw]
theorem ZBc (hw:w.length<=1000) (n:Nat) (G:DH):Bx (gV 0) Ca R0 [none,some (.str (Am w))] (Bp 0 n) G=.ok (((List.range n).map λk:Nat=>Am (cutD w none (some ((k:Int) + 1)))).map D.str) G:=by
 rw [List.map_map];exact Tu (te:=R0) (S:= [none,some (.str (Am w))]) λk _=>by have h:=Hf (l:=w) (lo:=none) (hi:=some ((k:Int) + 1)) (by omega) G;unfold R0;simp [-Hx,h,Iw]
theorem ZCr (hxl:xs.length=24) (hx:∀x∈xs,0<=x) {c:Nat} (hw:(c::w).length<=100):∃nm:List Str,nm.length=12/\∀(G:DH) (s0:Option D),∃k L,
  My [s0,some (.str ("abcdefghijklmnopqrstuvwxyz":Str)),some (.fl (xs.map D.int)),some (.str (Am (c::w))),none,none,none,none,none,none,none,none] G=.rt (.ref (G.length + k)) (G++L)/\L[k]? =some (.lst (nm.map D.str)):=by
 have a8:atI (xs.map D.int) 8=some (.int (gx xs 8)):=Bu (i:=8) (by omega);have a9:atI (xs.map D.int) 9=some (.int (gx xs 9)):=Bu (i:=9) (by omega);have a10:atI (xs.map D.int) 10=some (.int (gx xs 10)):=Bu (i:=10) (by omega);by_cases h8:gx xs 8 % 3=0
 ·obtain ⟨t,et⟩:∃t:Int,(Txt.find ("abcdefghijklmnopqrstuvwxyz":Str) (Am [c]) + 1 + gx xs 9 % 25) % 26=t:=⟨_,rfl⟩;have ht:0<=t/\t < 26:=by omega
  let o:List Nat:= [97 + t.toNat]++cutD (c::w) (some 1) none;obtain ⟨r,hr⟩:∃r:Nat,gx xs 10 % 12=r:=⟨(gx xs 10 % 12).toNat,by omega⟩;have hr12:r < 12:=by omega
  obtain ⟨A,hA⟩:∃A:List Str,((List.range 8).map λk:Nat=>Am (cutD (c::w) none (some ((k:Int) + 1))))=A:=⟨_,rfl⟩;obtain ⟨B,hB⟩:∃B:List Str,((List.range 4).map λk:Nat=>Am (cutD o none (some ((k:Int) + 1))))=B:=⟨_,rfl⟩;have lA:A.length=8:=by rw [<-hA];simp
  have lB:B.length=4:=by rw [<-hB];simp
  refine ⟨((A++B).map sea2).drop r++((A++B).map sea2).take r,by simp [lA,lB];omega,λG s0=> ?_⟩;have l1:=Pb (c::w) (some 1) none;have c1:=λG=>ZFN (w:=c::w) (by omega) 8 G
  have c2:=λG=>ZBc (w:=o) (by simp [o];omega) 4 G
  rw [hA] at c1;rw [hB] at c2;have hi:=λG=>Oq (i:=t) ht.1 ht.2 G
  have h0:=λG=>ZFg (c:=c) (l:=w) (by omega) G
  have h1:=λG=>Hf (l:=c::w) (lo:=some 1) (hi:=none) (by omega) G
  have h2:=λG=>add_str (l:= [97 + t.toNat]) (l':=cutD (c::w) (some 1) none) (by simp;omega) G
  have e2:Am ([97 + t.toNat]++cutD (c::w) (some 1) none)=Am o:=rfl;rw [e2] at h2
  clear_value o
  have r8:inR 8:=Ey (by omega) (by omega);have r4:inR 4:=Ey (by omega) (by omega);have lA':(A.map D.str).length<=1000000:=by simp [lA]
  have lB':(B.map D.str).length<=1000000:=by simp [lB]
  have hAB:A.map D.str++B.map D.str=(A++B).map D.str:=by simp
  have lAB:(A.map D.str).length + (B.map D.str).length<=1000000:=by simp [lA,lB]
  have ad:=addR (p:=G.length) (xs:=A.map D.str) (ys:=B.map D.str) (G:=G++ [.lst (A.map D.str)]) (by rw [Ea];rfl) lAB;rw [hAB] at ad;have fzB:freeze (G++ [.lst (A.map D.str)]) (.ok (.ref (G.length + 1)) (G++ [.lst (A.map D.str),.lst (B.map D.str)]))=.ok (.fl (B.map D.str)) (G++ [.lst (A.map D.str)]):=Sy Hc;have td1:tidy (G++ [.lst (A.map D.str)]) (.ok (.ref (G.length + 1)) (G++ [.lst (A.map D.str),.lst ((A++B).map D.str)]))=.ok (.ref (G.length + 1)) (G++ [.lst (A.map D.str),.lst ((A++B).map D.str)]):=Zt Hc
  have g2:(G++ [DO.lst (A.map D.str),DO.lst ((A++B).map D.str)])[G.length + 1]? =some (.lst ((A++B).map D.str)):=by simp
  have sc:=ZDe g2;have lC:((A++B).map D.str).length=(A++B).length:=by simp
  have lS:((A++B).map sea2).length=12:=by simp [lA,lB]
  have lAB2:(A++B).length=12:=by simp [lA,lB]
  generalize (A++B).map sea2=C at sc lS ⊢;generalize A++B=Q at *;have lC':(C.map D.str).length<=1000000:=by simp [lS]
  have ct:cutD (C.map D.str) none (some (r:Int))=(C.take r).map D.str:=by rw [V0 (by simp;omega),List.map_take]
  have cd:cutD (C.map D.str) (some (r:Int)) none=(C.drop r).map D.str:=by rw [ZAN (by simp;omega),List.map_drop]
  have sl1:=λlo hi=>slR (p:=G.length + 2) (xs:=C.map D.str) (lo:=lo) (hi:=hi) (G:=G++ [.lst (A.map D.str),.lst (Q.map D.str),.lst (C.map D.str)]) (by simp)
  have fz3:∀ls:List Str,freeze (G++ [.lst (A.map D.str),.lst (Q.map D.str),.lst (C.map D.str)]) (.ok (.ref (G.length + 3)) (G++ [.lst (A.map D.str),.lst (Q.map D.str),.lst (C.map D.str),.lst (ls.map D.str)]))=.ok (.fl (ls.map D.str)) (G++ [.lst (A.map D.str),.lst (Q.map D.str),.lst (C.map D.str)]):=λls=>by have:=Cg (G:=G++ [.lst (A.map D.str),.lst (Q.map D.str),.lst (C.map D.str)]) (ds:=ls.map D.str) (L:= []) Hc;simpa using this
  have lcc:((C.drop r).map D.str).length + ((C.take r).map D.str).length<=1000000:=by simp [lS];omega
  have fzd:=fz3 (C.drop r);have fzt:=fz3 (C.take r);refine ⟨3,[.lst (A.map D.str),.lst (Q.map D.str),.lst (C.map D.str),.lst ((C.drop r++C.take r).map D.str)],?_,rfl⟩;rw [List.map_append];generalize (C.drop r).map D.str=X1 at *;generalize (C.take r).map D.str=X2 at *;generalize C.map D.str=X3 at *;have it2:Eh (.ref (G.length + 1)) (G++ [DO.lst (A.map D.str),DO.lst (Q.map D.str)])=.ok (.mt (G.length + 1)) (G++ [DO.lst (A.map D.str),DO.lst (Q.map D.str)]):=by simp [Eh]
  rw [lAB2] at sc;have lQ:(Q.map D.str).length=12:=by rw [List.length_map,lAB2]
  generalize Q.map D.str=X4 at *;generalize A.map D.str=X5 at *;generalize B.map D.str=X6 at *;have cs1:∀a b c d e f' g h i j k' l:Option D,Ay 1 [3] [a,b,c,d,e,f',g,h,i,j,k',l]= [none,d]:=λ_ _ _ _ _ _ _ _ _ _ _ _=>rfl
  have cs2:∀a b c d e f' g h i j k' l:Option D,Ay 1 [5] [a,b,c,d,e,f',g,h,i,j,k',l]= [none,f']:=λ_ _ _ _ _ _ _ _ _ _ _ _=>rfl
  have cs3:∀S:DSt,Ay 1 [] S= [none]:=λ_=>rfl
  generalize Am o=O at *;generalize Am (cutD (c::w) (some 1) none)=O1 at *;generalize Am [97 + t.toNat]=O2 at *;generalize Am (c::w)=O3 at *;generalize Am [c]=O4 at *;generalize ("abcdefghijklmnopqrstuvwxyz":Str)=AL at *;unfold My;simp [-Ig,-Jc,-Hx,a8,a9,a10,h8,h0,et,hi,h1,Iw,h2,r8,cs1,c1,lA',r4,cs2,c2,lB',fzB,ad,td1,it2,g2,lQ,cs3,sc,lC',hr,sl1,ct,cd,fzd,fzt,lcc]
 ·obtain ⟨sz,hsz⟩:∃sz:Nat,gx xs 8 / 3 % 8=sz:=⟨(gx xs 8 / 3 % 8).toNat,by omega⟩;obtain ⟨a,ha⟩:∃a:Nat,gx xs 9 % ((sz:Int) + 1)=a:=⟨(gx xs 9 % ((sz:Int) + 1)).toNat,by have:=Int.emod_nonneg (gx xs 9) (show ((sz:Int) + 1)≠0 by omega);omega⟩
  refine ⟨(List.range' 0 12).map λk=>nmS (nmF xs (c::w) sz a k),by simp,λG s0=> ?_⟩;obtain ⟨y7,y8,y11,hL⟩:=Zw hxl (w:=c::w) (by omega) (sz:=sz) (a:=a) (s0:=s0) (s4:=none) (s5:=none) (G:=G) 12 0 [] none none none (by omega) (by simp);have hL':Bq (gV 7) Ls (Bp 0 12) [s0,some (.str ("abcdefghijklmnopqrstuvwxyz":Str)),some (.fl (xs.map D.int)),some (.str (Am (c::w))),none,none,some (.ref G.length),none,none,some (.int sz),some (.int a),none] (G++ [.lst []])=_:=hL
  rw [List.nil_append] at hL';refine ⟨0,[.lst (((List.range' 0 12).map λk=>nmS (nmF xs (c::w) sz a k)).map D.str)],?_,rfl⟩;generalize ((List.range' 0 12).map λk=>nmS (nmF xs (c::w) sz a k)).map D.str=Z at *;generalize Am (c::w)=W at *;generalize ("abcdefghijklmnopqrstuvwxyz":Str)=AL at *;have r12:inR 12:=Ey (by omega) (by omega);have hp:(0:Int) < (sz:Int) + 1:=by omega
  unfold My ZBF Zj ZAe ZAE ZAa;simp [a8,a9,h8,hsz,hp,ha,Ax,Ff,r12,hL']
theorem ZGJ:∃nm:List Str,nm.length=12/\∀G,Hz [.int cell] G=.ok (.ref G.length) (G++ [.lst (nm.map D.str)]):=by
 have hst:∀G,freeze G (El [.int cell,.int 0,.int 24] G)=.ok (.fl ((Cp cell 0 24).map D.int)) G:=λG=>Ph (cell:=cell) (k:=0) (n:=24) (by omega) (by omega) G
 have hxl:(Cp cell 0 24).length=24:=Rk;have hx:∀x∈Cp cell 0 24,0<=x:=Qc;generalize Cp cell 0 24=xs at *;have a10:atI (xs.map D.int) 10=some (.int (gx xs 10)):=Bu (i:=10) (by omega);have a11:atI (xs.map D.int) 11=some (.int (gx xs 11)):=Bu (i:=11) (by omega);by_cases h11:2147483647 < gx xs 11
 ·obtain ⟨nm,hn,hf⟩:=ZF8 (xs:=(xs.drop 11).take (23 - 11)) (λx h=>hx x (List.mem_of_mem_drop (List.mem_of_mem_take h))) (by simp;omega);refine ⟨nm,by rw [hn];simp;omega,λG=> ?_⟩;have cu:=Kp (xs:=xs) (a:=11) (b:=23) (by omega) (by omega);have cu':cutD (xs.map D.int) (some 11) (some 23)=((xs.drop 11).take (23 - 11)).map D.int:=cu;generalize (xs.drop 11).take (23 - 11)=ys at *;have fz:freeze G (.ok (.ref G.length) (G++ [.lst (ys.map D.int)]))=.ok (.fl (ys.map D.int)) G:=Cg Ef
  have td:=Ff (G:=G) (ds:=nm.map D.str) (L:= []) Hc;generalize nm.map D.str=N at *;unfold Hz J8 Mj Lj;rw [Bm];simp [hst,a11,h11,cu',fz,hf,td]
 ·have cu':cutD (xs.map D.int) none (some 8)=(xs.take 8).map D.int:=by rw [List.map_take];exact V0 (a:=8) (by simp;omega)
  have lw:(wd0 xs).length=8:=by simp [wd0];omega
  have wc:=λG=>ZDb (xs.take 8) G
  have jw:=λG=>ZEm (cs:=wd0 xs) (by omega) G
  have fz:∀G:DH,freeze G (.ok (.ref G.length) (G++ [.lst ((wd0 xs).map sgn)]))=.ok (.fl ((wd0 xs).map sgn)) G:=λG=>Cg (Fw λ_ _=>rfl)
  have fzi:∀G:DH,freeze G (.ok (.ref G.length) (G++ [.lst ((xs.take 8).map D.int)]))=.ok (.fl ((xs.take 8).map D.int)) G:=λG=>Cg Ef
  have ew:(xs.take 8).map (λx=>97 + (x % 26).toNat)=wd0 xs:=rfl;rw [ew] at wc;have cs1:∀a b c d e f' g h i j k' l:Option D,Ay 1 [1] [a,b,c,d,e,f',g,h,i,j,k',l]= [none,b]:=λ_ _ _ _ _ _ _ _ _ _ _ _=>rfl
  have lw2:(wd0 xs).length<=1000000:=by omega
  generalize (xs.take 8).map D.int=X8 at *;have fin:∃(c:Nat) (w:List Nat),(c::w).length<=100/\∀G,Hz [.int cell] G=tidy G (My [some (.int cell),some (.str ("abcdefghijklmnopqrstuvwxyz":Str)),some (.fl (xs.map D.int)),some (.str (Am (c::w))),none,none,none,none,none,none,none,none] G).ret:=by
   by_cases h10:gx xs 10 / 26 % 4=0
   ·have l5:(cutD (wd0 xs) (some 3) none).length=5:=by have:=ZAN (xs:=wd0 xs) (a:=3) (by omega);have e3:cutD (wd0 xs) (some 3) none=(wd0 xs).drop 3:=this;rw [e3,List.length_drop,lw]
    have s3:=λG=>Hf (l:=wd0 xs) (lo:=some 3) (hi:=none) (by omega) G
    have fz2:∀G:DH,freeze G (.ok (.ref G.length) (G++ [.lst [.str "sea",.str "none"]]))=.ok (.fl [.str "sea",.str "none"]) G:=λG=>Cg rfl
    have key:∀(c:Nat) (l0:List Nat),l0.length=2∨l0.length=3->∀G,An (.str (Am (c::l0))) (.str (Am (cutD (wd0 xs) (some 3) none))) G=.ok (.str (Am (c::(l0++cutD (wd0 xs) (some 3) none)))) G/\Ie (.str (Am (c::(l0++cutD (wd0 xs) (some 3) none)))) none (some 8) G=.ok (.str (Am (c::(l0++cutD (wd0 xs) (some 3) none).take 7))) G:=λc l0 h0 G=>by
     refine ⟨add_str (l:=c::l0) (l':=cutD (wd0 xs) (some 3) none) (by simp [l5];omega) G,?_⟩;rw [Hf (by simp [l5];omega)];have:=V0 (xs:=c::(l0++cutD (wd0 xs) (some 3) none)) (a:=8) (by simp [l5];omega);have e8:cutD (c::(l0++cutD (wd0 xs) (some 3) none)) none (some 8)=(c::(l0++cutD (wd0 xs) (some 3) none)).take 8:=this;rw [e8,List.take_succ_cons]
    rcases (by omega:gx xs 10 / 104 % 2=0∨gx xs 10 / 104 % 2=1) with z | z
    ·have es:("sea":Str)=Am (115:: [101,97]):=by decide +kernel
     have k1:=λG=>(key 115 [101,97] (by simp) G).1
     have k2:=λG=>(key 115 [101,97] (by simp) G).2
     refine ⟨115,([101,97]++cutD (wd0 xs) (some 3) none).take 7,by simp;omega,λG=> ?_⟩;rw [<-es] at k1;generalize Am (115::([101,97]++cutD (wd0 xs) (some 3) none))=Q1 at *;generalize Am (115::([101,97]++cutD (wd0 xs) (some 3) none).take 7)=Q2 at *;generalize Am (cutD (wd0 xs) (some 3) none)=Q3 at *;generalize Am (wd0 xs)=Q4 at *;unfold Hz J8 Mj Lj Rm Ou;rw [Bm];generalize ("abcdefghijklmnopqrstuvwxyz":Str)=AL at *
     simp [-Jc,-Hx,hst,a11,h11,cu',fzi,cs1,wc,lw2,fz,jw,a10,h10,z,fz2,s3,Iw,k1,k2]
    ·have es:("none":Str)=Am (110:: [111,110,101]):=by decide +kernel
     have k1:=λG=>(key 110 [111,110,101] (by simp) G).1
     have k2:=λG=>(key 110 [111,110,101] (by simp) G).2
     refine ⟨110,([111,110,101]++cutD (wd0 xs) (some 3) none).take 7,by simp;omega,λG=> ?_⟩;rw [<-es] at k1;generalize Am (110::([111,110,101]++cutD (wd0 xs) (some 3) none))=Q1 at *;generalize Am (110::([111,110,101]++cutD (wd0 xs) (some 3) none).take 7)=Q2 at *;generalize Am (cutD (wd0 xs) (some 3) none)=Q3 at *;generalize Am (wd0 xs)=Q4 at *;unfold Hz J8 Mj Lj Rm Ou;rw [Bm];generalize ("abcdefghijklmnopqrstuvwxyz":Str)=AL at *
     simp [-Jc,-Hx,hst,a11,h11,cu',fzi,cs1,wc,lw2,fz,jw,a10,h10,z,fz2,s3,Iw,k1,k2]
   ·cases hcw:wd0 xs with
    | nil=>rw [hcw] at lw;cases lw
    | cons c w=>
     refine ⟨c,w,by rw [<-hcw,lw];omega,λG=> ?_⟩;rw [<-hcw];generalize Am (wd0 xs)=Q4 at *;unfold Hz J8 Mj Lj Rm Ou;rw [Bm];generalize ("abcdefghijklmnopqrstuvwxyz":Str)=AL at *;simp [hst,a11,h11,cu',fzi,cs1,wc,lw2,fz,jw,a10,h10]
  obtain ⟨c,w,hw,hf⟩:=fin;obtain ⟨nm,hn,ht⟩:=ZCr hxl hx hw;refine ⟨nm,hn,λG=> ?_⟩;obtain ⟨k,L,h1,h2⟩:=ht G (some (.int cell));rw [hf,h1];exact Y4 L h2 Hc
inductive P2 where
 | mill (nm dn:Str) (dl a:Int)
 | town (nm dn:Str) (dl a b:Int)
 | basin (nm dn:Str) (dl a:Int) (r:List Ssn) (q:Option (Str×Int×Int))
variable {ps:List P2}
def pmp2:Option (Str×Int×Int)->D
 | none=>.non
 | some (t,d,m)=>.tup [.str t,.int d,.int m]
def P2.enc:P2->D
 | .mill nm dn dl a=>.tup [.str "mill",.str nm,.str dn,.int dl,.int a]
 | .town nm dn dl a b=>.tup [.str "town",.str nm,.str dn,.int dl,.int a,.int b]
 | .basin nm dn dl a r q=>.tup [.str "basin",.str nm,.str dn,.int dl,.int a,.tup (r.map Cr),pmp2 q]
def P2.num:P2->Int
 | .mill _ _ _ a=>a
 | .town _ _ _ a _=>a
 | .basin _ _ _ a _ _=>a
def P2.dn:P2->Str
 | .mill _ d _ _=>d
 | .town _ d _ _ _=>d
 | .basin _ d _ _ _ _=>d
@[simp] theorem ZGu {q:Option (Str×Int×Int)}:bel n (pmp2 q)=true:=by
 cases q with
 | none=>rfl
 | some x=>obtain ⟨a,b,c⟩:=x;simp [pmp2]
@[simp] theorem ZCz {p:P2}:bel n p.enc=true:=by cases p <;> simp [P2.enc]
theorem Z0:bels n (ps.map P2.enc)=true:=Fw λ_ _=>ZCz
theorem Uo {nm:List Str} (h:i < nm.length):atI (nm.map D.str) (i:Int)=some (.str nm[i]):=En rfl (by rw [List.getElem?_map,List.getElem?_eq_getElem h];rfl)
theorem add3 {t nm dn:Str} {dl:Int} (h:ds.length<=100) (G:DH):An (.tup [.str t]) (.tup [.str nm,.str dn,.int dl]) G=.ok (.tup [.str t,.str nm,.str dn,.int dl]) G/\An (.tup [.str t,.str nm,.str dn,.int dl]) (.tup ds) G=.ok (.tup (.str t:: .str nm:: .str dn:: .int dl::ds)) G:=by
 refine ⟨rfl,?_⟩;rw [Ko,if_pos ⟨by simp,by simp;omega⟩]
 rfl
theorem ZDo {nm:List Str} (hnm:nm.length=12) {k:Nat} (hn:n<=12) (hk:k < n) :∃p:P2,0<=p.num/\∀G,Hq [.fl (nm.map D.str),.int n,.int k,.int yr,.int cell] G=.ok p.enc G:=by
 have hst:∀G,freeze G (El [.int cell,.int (k:Int),.int 33] G)=.ok (.fl ((Cp cell k 33).map D.int)) G:=λG=>Ph (cell:=cell) (k:=k) (n:=33) (by omega) (by omega) G
 have hxl:(Cp cell k 33).length=33:=Rk;have hx:∀x∈Cp cell k 33,0<=x:=Qc;generalize Cp cell k 33=xs at *;have a0:atI (xs.map D.int) 0=some (.int (gx xs 0)):=Bu (i:=0) (by omega);have a1:atI (xs.map D.int) 1=some (.int (gx xs 1)):=Bu (i:=1) (by omega);have a2:atI (xs.map D.int) 2=some (.int (gx xs 2)):=Bu (i:=2) (by omega);have a3:atI (xs.map D.int) 3=some (.int (gx xs 3)):=Bu (i:=3) (by omega);have a4:atI (xs.map D.int) 4=some (.int (gx xs 4)):=Bu (i:=4) (by omega)
 have a5:atI (xs.map D.int) 5=some (.int (gx xs 5)):=Bu (i:=5) (by omega);have a6:atI (xs.map D.int) 6=some (.int (gx xs 6)):=Bu (i:=6) (by omega);have a7:atI (xs.map D.int) 7=some (.int (gx xs 7)):=Bu (i:=7) (by omega);have n3:=λG=>Gh (cell:=cell) (G:=G) (Hg hx 3)
 have n4:=λG=>Gh (cell:=cell) (G:=G) (Hg hx 4)
 have hp:(0:Int) < (n:Int) - (k:Int):=by omega
 have hnk:atI (nm.map D.str) (k:Int)=some (.str (nm[k]'(by omega))):=Uo (by omega);obtain ⟨s,es⟩:∃s:Nat,gx xs 0 % ((n:Int) - (k:Int))=s:=⟨(gx xs 0 % ((n:Int) - (k:Int))).toNat,by have:=Int.emod_nonneg (gx xs 0) (show (n:Int) - (k:Int)≠0 by omega);omega⟩
 have hs:k + s < n:=by have:=Int.emod_lt_of_pos (gx xs 0) hp;omega
 have hns:atI (nm.map D.str) ((k:Int) + (s:Int))=some (.str (nm[k + s]'(by omega))):=by have:=Uo (nm:=nm) (i:=k + s) (by omega);rwa [show ((k + s:Nat):Int)=(k:Int) + (s:Int) by omega] at this
 obtain ⟨dn,hd⟩:∃dn:Str,∀G,Hq [.fl (nm.map D.str),.int n,.int k,.int yr,.int cell] G=tidy G (K6 [some (.fl (nm.map D.str)),some (.int n),some (.int k),some (.int yr),some (.int cell),some (.fl (xs.map D.int)),some (.str dn),some (.tup [.str (nm[k]'(by omega)),.str dn,.int (gx xs 1 % 6)]),none,none,none,none] G).ret:=by
  by_cases h0:0 < s
  ·refine ⟨nm[k + s]'(by omega),λG=> ?_⟩;have h0':(0:Int) < (s:Int):=by omega
   unfold Hq Lk V6 Vo W8;rw [Bm];simp [hk,hst,a0,hp,es,h0,h0',hns,hnk,a1]
  ·refine ⟨"sea",λG=> ?_⟩;have h0':¬(0:Int) < (s:Int):=by omega
   unfold Hq Lk V6 Vo W8;rw [Bm];simp [hk,hst,a0,hp,es,h0,h0',hnk,a1]
 generalize (nm[k]'(by omega))=mk at *;by_cases h2:gx xs 2 % 5=0
 ·refine ⟨.mill mk dn (gx xs 1 % 6) (number (gx xs 3) cell),Qh,λG=> ?_⟩;have ad:=add3 (t:="mill") (nm:=mk) (dn:=dn) (dl:=gx xs 1 % 6) (ds:= [.int (number (gx xs 3) cell)]) (by simp);rw [hd];unfold K6;simp [-Ko,a2,h2,a3,n3,ad,P2.enc,Bo]
 ·by_cases h3:gx xs 2 % 5=1
  ·refine ⟨.town mk dn (gx xs 1 % 6) (number (gx xs 3) cell) (number (gx xs 4) cell),Qh,λG=> ?_⟩;have ad:=add3 (t:="town") (nm:=mk) (dn:=dn) (dl:=gx xs 1 % 6) (ds:= [.int (number (gx xs 3) cell),.int (number (gx xs 4) cell)]) (by simp);rw [hd];unfold K6 Qd;simp [-Ko,a2,h2,h3,a3,a4,n3,n4,ad,P2.enc,Bo]
  ·have cu':cutD (xs.map D.int) (some 8) (some 32)=((xs.drop 8).take (32 - 8)).map D.int:=Kp (xs:=xs) (a:=8) (b:=32) (by omega) (by omega);have hr:=λ(p:Bool) (G:DH)=>ZFD (xs:=(xs.drop 8).take (32 - 8)) (big:=cell) (yr:=yr) (p:=p) (λx h=>hx x (List.mem_of_mem_drop (List.mem_of_mem_take h))) (by simp;omega) G
   generalize (xs.drop 8).take (32 - 8)=ys at *;have fz:∀G:DH,freeze G (.ok (.ref G.length) (G++ [.lst (ys.map D.int)]))=.ok (.fl (ys.map D.int)) G:=λG=>Cg Ef
   by_cases hpm:1 < n/\0 < gx xs 5 % 3
   ·have hn1:(1:Int) < (n:Int):=by omega
    have hrt:=hr true;have ln:=Vs (xs:=ys) (big:=cell) (yr:=yr) (p:=true) 3 0 0;obtain ⟨v,hv⟩:=ZFv (r:=ruF ys cell yr true 3 0 0) (by omega) ln.2 ZFJ;obtain ⟨v2,hv2⟩:=ZCq (Hg hx 4);obtain ⟨t,et⟩:∃t:Nat,((k:Int) + 1 + gx xs 6 % ((n:Int) - 1)) % (n:Int)=t:=⟨(((k:Int) + 1 + gx xs 6 % ((n:Int) - 1)) % (n:Int)).toNat,by have:=Int.emod_nonneg ((k:Int) + 1 + gx xs 6 % ((n:Int) - 1)) (show (n:Int)≠0 by omega);omega⟩
    have ht:t < n:=by have:=Int.emod_lt_of_pos ((k:Int) + 1 + gx xs 6 % ((n:Int) - 1)) (show (0:Int) < (n:Int) by omega);omega
    have hnt:atI (nm.map D.str) (t:Int)=some (.str (nm[t]'(by omega))):=Uo (by omega);have hp1:(0:Int) < (n:Int) - 1:=by omega
    have hp2:(0:Int) < (n:Int):=by omega
    have hp3:0 < n:=by omega
    generalize (nm[t]'(by omega))=mt at *;generalize ruF ys cell yr true 3 0 0=r at *;refine ⟨.basin mk dn (gx xs 1 % 6) (number (gx xs 3) cell) r (some (mt,1 + gx xs 7 % 5,v + v2)),Qh,λG=> ?_⟩;have ad:=add3 (t:="basin") (nm:=mk) (dn:=dn) (dl:=gx xs 1 % 6) (ds:= [.int (number (gx xs 3) cell),.tup (r.map Cr),.tup [.str mt,.int (1 + gx xs 7 % 5),.int (v + v2)]]) (by simp);rw [hd];unfold K6 Qd Wm U3 Ub Wi Ux
    simp [-Ko,a2,h2,h3,hn1,hpm,a5,cu',fz,hrt,a6,hp1,hp2,hp3,et,hnt,a7,hv,a4,hv2,a3,n3,ad,P2.enc,pmp2,Bo]
   ·have hrt:=hr false;generalize ruF ys cell yr false 3 0 0=r at *;refine ⟨.basin mk dn (gx xs 1 % 6) (number (gx xs 3) cell) r none,Qh,λG=> ?_⟩;have ad:=add3 (t:="basin") (nm:=mk) (dn:=dn) (dl:=gx xs 1 % 6) (ds:= [.int (number (gx xs 3) cell),.tup (r.map Cr),.non]) (by simp);rw [hd];unfold K6 Qd Wm U3 Ub Wi Ux;by_cases hn1:1 < n
    ·have hn1':(1:Int) < (n:Int):=by omega
     have h5:¬0 < gx xs 5 % 3:=λz=>hpm ⟨hn1,z⟩
     simp [-Ko,a2,h2,h3,hn1,hn1',h5,a5,cu',fz,hrt,a3,n3,ad,P2.enc,pmp2,Bo]
    ·have hn1':¬(1:Int) < (n:Int):=by omega
     simp [-Ko,a2,h2,h3,hn1,hn1',cu',fz,hrt,a3,n3,ad,P2.enc,pmp2,Bo]
def hs2 (y:Int) (ps:List P2):D:=.tup [.int y,.tup (ps.map P2.enc)]
theorem ZCX (hat:at_<=1000) (G:DH):∃(y:Int) (ps:List P2),1<=ps.length/\ps.length<=12/\(∀p∈ps,0<=p.num)/\Mm [.fl (ns.map D.int),.int at_] G=.ok (hs2 y ps) G:=by
 have ca:=λ(k:Nat) (G:DH)=>Hv (ns:=ns) (k:=(k:Int)) (G:=G) (by omega)
 have c0:=ca at_;have c1:∀G,Cy [.fl (ns.map D.int),.int ((at_:Int) + 1)] G=.ok (.int (cellAt ns ((at_:Int) + 1))) G:=λG=>Hv (by omega)
 have c2:∀G,Cy [.fl (ns.map D.int),.int ((at_:Int) + 2)] G=.ok (.int (cellAt ns ((at_:Int) + 2))) G:=λG=>Hv (by omega)
 have c3:∀(k:Nat) G,Cy [.fl (ns.map D.int),.int ((at_:Int) + 3 + k)] G=.ok (.int (cellAt ns ((at_:Int) + 3 + k))) G:=λk G=>Hv (by omega)
 obtain ⟨n,en⟩:∃n:Nat,1 + cellAt ns (at_:Int) % 12=n:=⟨(1 + cellAt ns (at_:Int) % 12).toNat,by omega⟩;have hn:n<=12/\1<=n:=by omega
 obtain ⟨nm,hnm,hc⟩:=ZGJ (cell:=cellAt ns ((at_:Int) + 2));obtain ⟨y,ey⟩:∃y:Int,1 + cellAt ns ((at_:Int) + 1) % 24=y:=⟨_,rfl⟩;have ex:∀k:Nat,∃p:P2,k < n->(0<=p.num/\∀G,Hq [.fl (nm.map D.str),.int n,.int k,.int y,.int (cellAt ns ((at_:Int) + 3 + k))] G=.ok p.enc G):=λk=>by
  by_cases hk:k < n
  ·obtain ⟨p,hp⟩:=ZDo hnm hn.1 hk (yr:=y) (cell:=cellAt ns ((at_:Int) + 3 + k));exact ⟨p,λ_=>hp⟩
  ·exact ⟨.mill "" "" 0 0,λz=>absurd z hk⟩
 let P:Nat->P2:=λk=>(ex k).choose
 have hP:∀k,k < n->(0<=(P k).num/\∀G,Hq [.fl (nm.map D.str),.int n,.int k,.int y,.int (cellAt ns ((at_:Int) + 3 + k))] G=.ok (P k).enc G):=λk hk=>(ex k).choose_spec hk
 clear_value P
 refine ⟨y,(List.range n).map P,by simp;omega,by simp;omega,λp hp=> ?_,?_⟩
 ·obtain ⟨k,hk,rfl⟩:=List.mem_map.mp hp;exact (hP k (List.mem_range.mp hk)).1
 ·have fzn:∀G:DH,freeze G (.ok (.ref G.length) (G++ [.lst (nm.map D.str)]))=.ok (.fl (nm.map D.str)) G:=λG=>Cg Hc
  have cp:Bx (gV 0) Ca Oe [none,some (.fl (ns.map D.int)),some (.int at_),some (.int n),some (.int y),some (.fl (nm.map D.str))] (Bp 0 n) G=.ok (((List.range n).map P).map P2.enc) G:=by
   rw [List.map_map];exact Tu (te:=Oe) (S:= [none,some (.fl (ns.map D.int)),some (.int at_),some (.int n),some (.int y),some (.fl (nm.map D.str))]) λk hk=>by unfold Oe;simp [c3,(hP k hk).2]
  have lp:((List.range n).map P).length<=1000000:=by simp;omega
  generalize (List.range n).map P=ps at *;have fzp:freeze G (.ok (.ref G.length) (G++ [.lst (ps.map P2.enc)]))=.ok (.fl (ps.map P2.enc)) G:=Cg Z0;have cs:∀a b c d e f':Option D,Ay 1 [0,1,2,3,4] [a,b,c,d,e,f']= [none,a,b,c,d,e]:=λ_ _ _ _ _ _=>rfl
  have hr:inR (n:Int):=Ey (by omega) (by omega);have bp:bels G.length (ps.map P2.enc)=true:=Z0;unfold hs2 Mm Su;rw [Bm];simp [c0,en,c1,ey,c2,hc,fzn,hr,cs,cp,lp,fzp,bp,Bo]
structure R6 where
 a:Int
 b:Int
 c:Int
 d:Int
 e:Int
 f:Int
variable {pg:List R6}
def R6.enc (r:R6):D:=.tup [.int r.a,.int r.b,.int r.c,.int r.d,.int r.e,.int r.f]
def pgE (pg:List R6):D:=.tup (pg.map R6.enc)
@[simp] theorem ZFV {r:R6}:bel n r.enc=true:=by simp [R6.enc]
theorem ZF6 {rs:List R6}:bels n (rs.map R6.enc)=true:=Fw λ_ _=>ZFV
@[simp] theorem ZEb:bel n (pgE pg)=true:=by unfold pgE;simp [ZF6]
theorem U4 {pgs:List (List R6)}:bels n (pgs.map pgE)=true:=Fw λ_ _=>ZEb
theorem ZEZ {p:P2} (hp:0<=p.num) (hl:xs.length=4) (hx:∀x∈xs,0<=x) :∃r:R6,∀G,Ek [p.enc,.fl (xs.map D.int),.int cell] G=.ok r.enc G:=by
 have a0:atI (xs.map D.int) 0=some (.int (gx xs 0)):=Bu (i:=0) (by omega);have a1:atI (xs.map D.int) 1=some (.int (gx xs 1)):=Bu (i:=1) (by omega);have a2:atI (xs.map D.int) 2=some (.int (gx xs 2)):=Bu (i:=2) (by omega);have a3:atI (xs.map D.int) 3=some (.int (gx xs 3)):=Bu (i:=3) (by omega);have n0:=λG=>Gh (cell:=cell) (G:=G) (Hg hx 0)
 have n1:=λG=>Gh (cell:=cell) (G:=G) (Hg hx 1)
 have n2:=λG=>Gh (cell:=cell) (G:=G) (Hg hx 2)
 have n3:=λG=>Gh (cell:=cell) (G:=G) (Hg hx 3)
 cases p with
 | mill nm dn dl a=>
  refine ⟨⟨number (gx xs 0) cell,0,0,number (gx xs 0) cell,0,0⟩,λG=> ?_⟩;unfold P2.enc Ek Gn;rw [Bm];simp [a0,n0,R6.enc,Bo]
 | town nm dn dl a b=>
  have h0:(0:Int) < a + 1:=by have:0<=a:=hp;omega
  have h1:¬(("town":Str)="mill"):=by decide
  by_cases hz:0 < gx xs 1 % 3
  ·refine ⟨⟨gx xs 1 / 3 % (a + 1) + number (gx xs 0) cell,gx xs 1 / 3 % (a + 1),0,number (gx xs 0) cell,0,0⟩,λG=> ?_⟩;unfold P2.enc Ek Gn;rw [Bm];simp [a0,n0,h1,a1,hz,h0,R6.enc,Bo]
  ·refine ⟨⟨a + number (gx xs 0) cell,a,0,number (gx xs 0) cell,0,0⟩,λG=> ?_⟩;unfold P2.enc Ek Gn;rw [Bm];simp [a0,n0,h1,a1,hz,R6.enc,Bo]
 | basin nm dn dl a r q=>
  have h1:¬(("basin":Str)="mill"):=by decide
  have h2:¬(("basin":Str)="town"):=by decide
  cases q with
  | none=>
   by_cases hs:0 < number (gx xs 1) cell
   ·refine ⟨⟨number (gx xs 1) cell + number (gx xs 0) cell + 0 + a - min a (gx xs 3 % 40),0,number (gx xs 1) cell,number (gx xs 0) cell,0,a⟩,λG=> ?_⟩;unfold P2.enc pmp2 Ek Gn;rw [Bm];simp [a0,n0,h1,h2,a1,n1,a2,n2,hs,a3,R6.enc,Bo]
   ·refine ⟨⟨number (gx xs 1) cell + number (gx xs 0) cell + 0 + min a (number (gx xs 2) cell) - min (min a (number (gx xs 2) cell)) (gx xs 3 % 40),0,number (gx xs 1) cell,number (gx xs 0) cell,0,min a (number (gx xs 2) cell)⟩,λG=> ?_⟩;unfold P2.enc pmp2 Ek Gn;rw [Bm];simp [a0,n0,h1,h2,a1,n1,a2,n2,hs,a3,R6.enc,Bo]
  | some q=>
   obtain ⟨t,d,m⟩:=q;by_cases hs:0 < number (gx xs 1) cell
   ·refine ⟨⟨number (gx xs 1) cell + number (gx xs 0) cell + min m (number (gx xs 3) cell) + a - min a (gx xs 3 % 40),0,number (gx xs 1) cell,number (gx xs 0) cell,min m (number (gx xs 3) cell),a⟩,λG=> ?_⟩;unfold P2.enc pmp2 Ek Gn;rw [Bm];simp [a0,n0,h1,h2,a1,n1,a2,n2,hs,a3,n3,R6.enc,Bo]
   ·refine ⟨⟨number (gx xs 1) cell + number (gx xs 0) cell + min m (number (gx xs 3) cell) + min a (number (gx xs 2) cell) - min (min a (number (gx xs 2) cell)) (gx xs 3 % 40),0,number (gx xs 1) cell,number (gx xs 0) cell,min m (number (gx xs 3) cell),min a (number (gx xs 2) cell)⟩,λG=> ?_⟩;unfold P2.enc pmp2 Ek Gn;rw [Bm];simp [a0,n0,h1,h2,a1,n1,a2,n2,hs,a3,n3,R6.enc,Bo]
theorem Ip:Aj (hs2 y ps) (.int 1) G=.ok (.tup (ps.map P2.enc)) G:=by unfold hs2;simp
def p0:P2:=.mill "" "" 0 0
def gp (ps:List P2) (k:Nat):P2:=ps.getD k p0
theorem U6 {k:Nat} (h:k < ps.length):atI (ps.map P2.enc) (k:Int)=some (gp ps k).enc:=En rfl (by rw [List.getElem?_map,List.getElem?_eq_getElem h];simp [gp,List.getD_eq_getElem?_getD,h])
theorem ZFW {k:Nat} (h:k < ps.length):gp ps k∈ps:=by unfold gp;rw [List.getD_eq_getElem?_getD,List.getElem?_eq_getElem h];exact List.getElem_mem h
theorem Zq {y:Int} (hn:ps.length<=12) {xs:List Int} {RR:Nat->R6} (hxl:xs.length=4 * ps.length) (hR:∀k,k < ps.length->∀G,Ek [(gp ps k).enc,.fl (((xs.drop (4 * k)).take 4).map D.int),.int cell] G=.ok (RR k).enc G) {s1 s2 s3 s4:Option D} {G:DH}:∀(m k:Nat) (x:Option D),k + m=ps.length->∃x',
  Bq (gV 8) M3 (Bp k m) [some (hs2 y ps),s1,s2,s3,s4,some (.int cell),some (.ref G.length),some (.fl (xs.map D.int)),x] (G++ [.lst (((List.range k).map RR).map R6.enc)])=
   .nx [some (hs2 y ps),s1,s2,s3,s4,some (.int cell),some (.ref G.length),some (.fl (xs.map D.int)),x'] (G++ [.lst (((List.range ps.length).map RR).map R6.enc)])
 | 0,k,x,e=>by
  have e1:k=ps.length:=by omega
  subst e1;exact ⟨x,by rw [Hb,Dv]⟩
 | m + 1,k,x,e=>by
  have hk:k < ps.length:=by omega
  obtain ⟨x',ih⟩:=Zq (y:=y) hn hxl hR (s1:=s1) (s2:=s2) (s3:=s3) (s4:=s4) (G:=G) m (k + 1) (some (.int k)) (by omega);refine ⟨x',?_⟩;have ap:=U6 hk;have m4:∀G,Bg (.int 4) (.int (k:Int)) G=.ok (.int (4 * (k:Int))) G:=λG=>Fl (by omega) (by omega)
  have cu:cutD (xs.map D.int) (some (4 * (k:Int))) (some (4 * (k:Int) + 4))=((xs.drop (4 * k)).take 4).map D.int:=by have:=Kp (xs:=xs) (a:=4 * k) (b:=4 * k + 4) (by omega) (by omega);rwa [show ((4 * k:Nat):Int)=4 * (k:Int) by omega,show ((4 * k + 4:Nat):Int)=4 * (k:Int) + 4 by omega,show 4 * k + 4 - 4 * k=4 by omega] at this
  have hr:=hR k hk;generalize (xs.drop (4 * k)).take 4=zs at *;have fz:∀A:DO,freeze (G++ [A]) (.ok (.ref (G.length + 1)) (G++ [A,.lst (zs.map D.int)]))=.ok (.fl (zs.map D.int)) (G++ [A]):=λA=>Sy Ef
  have es:((List.range k).map RR).map R6.enc++ [(RR k).enc]=((List.range (k + 1)).map RR).map R6.enc:=by simp [List.range_succ]
  have hl:(((List.range k).map RR).map R6.enc).length < 1000000:=by simp;omega
  have hb:M3 [some (hs2 y ps),s1,s2,s3,s4,some (.int cell),some (.ref G.length),some (.fl (xs.map D.int)),some (.int k)] (G++ [.lst (((List.range k).map RR).map R6.enc)])=
    .nx [some (hs2 y ps),s1,s2,s3,s4,some (.int cell),some (.ref G.length),some (.fl (xs.map D.int)),some (.int k)] (G++ [.lst (((List.range (k + 1)).map RR).map R6.enc)]):=by
   rw [<-es];generalize ((List.range k).map RR).map R6.enc=X at *;unfold M3;simp [Ip,ap,m4,cu,fz,hr,Ea,Gd,hl]
  rw [Fv,De];simp only [Cv,R.Dg,List.set,hb,Dc];have e1:((k:Int) + 1)=((k + 1:Nat):Int):=by omega
  rw [e1,ih]
theorem ZCI (hn:ps.length<=12) (hp:∀p∈ps,0<=p.num) {j:Nat} (hj:j<=6):∃pg:List R6,pg.length=ps.length/\∀(G L:DH) (acc:List (List R6)) (x5 x6 x7 x8:Option D),acc.length<=100->∃L' y5 y6 y7 y8,
  Nu [some (hs2 y ps),some (.fl (ns.map D.int)),some (.int at_),some (.ref G.length),some (.int j),x5,x6,x7,x8] (G++ .lst (acc.map pgE)::L)=
   .nx [some (hs2 y ps),some (.fl (ns.map D.int)),some (.int at_),some (.ref G.length),some (.int j),y5,y6,y7,y8] (G++ .lst ((acc++ [pg]).map pgE)::L'):=by
 obtain ⟨cell,ec⟩:∃cell:Int,cellAt ns ((at_:Int) + 1 + j)=cell:=⟨_,rfl⟩;have hc:∀G,Cy [.fl (ns.map D.int),.int ((at_:Int) + 1 + j)] G=.ok (.int cell) G:=λG=>by rw [Hv (by omega),ec]
 have hst:=λG=>Ph (cell:=cell) (k:=13 * (j:Int) + 20) (n:=4 * ps.length) (by omega) (by omega) G
 have hxl:(Cp cell (13 * (j:Int) + 20) (4 * ps.length)).length=4 * ps.length:=Rk;have hx:∀x∈Cp cell (13 * (j:Int) + 20) (4 * ps.length),0<=x:=Qc;generalize Cp cell (13 * (j:Int) + 20) (4 * ps.length)=xs at *;have ex:∀k:Nat,∃r:R6,k < ps.length->∀G,Ek [(gp ps k).enc,.fl (((xs.drop (4 * k)).take 4).map D.int),.int cell] G=.ok r.enc G:=λk=>by
  by_cases hk:k < ps.length
  ·obtain ⟨r,hr⟩:=ZEZ (p:=gp ps k) (hp _ (ZFW hk)) (xs:=(xs.drop (4 * k)).take 4) (by simp;omega) (λx h=>hx x (List.mem_of_mem_drop (List.mem_of_mem_take h))) (cell:=cell);exact ⟨r,λ_=>hr⟩
  ·exact ⟨⟨0,0,0,0,0,0⟩,λz=>absurd z hk⟩
 let RR:Nat->R6:=λk=>(ex k).choose
 have hR:∀k,k < ps.length->∀G,Ek [(gp ps k).enc,.fl (((xs.drop (4 * k)).take 4).map D.int),.int cell] G=.ok (RR k).enc G:=λk hk=>(ex k).choose_spec hk
 clear_value RR
 refine ⟨(List.range ps.length).map RR,by simp,λG L acc x5 x6 x7 x8 ha=> ?_⟩;let G1:DH:=G++ .lst (acc.map pgE)::L;obtain ⟨x',hL⟩:=Zq (y:=y) hn hxl hR (s1:=some (.fl (ns.map D.int))) (s2:=some (.int at_)) (s3:=some (.ref G.length)) (s4:=some (.int j)) (G:=G1) ps.length 0 x8 (by omega);have hL':Bq (gV 8) M3 (Bp 0 ps.length) [some (hs2 y ps),some (.fl (ns.map D.int)),some (.int at_),some (.ref G.length),some (.int j),some (.int cell),some (.ref G1.length),some (.fl (xs.map D.int)),x8] (G1++ [.lst []])=_:=hL
 have m13:∀G,Bg (.int 13) (.int (j:Int)) G=.ok (.int (13 * (j:Int))) G:=λG=>Fl (by omega) (by omega)
 have m4:∀G,Bg (.int 4) (.int (ps.length:Int)) G=.ok (.int (4 * (ps.length:Int))) G:=λG=>Fl (by omega) (by omega)
 have hst':∀G,freeze G (El [.int cell,.int (13 * (j:Int) + 20),.int (4 * (ps.length:Int))] G)=.ok (.fl (xs.map D.int)) G:=λG=>by have:=hst G;rwa [show ((4 * ps.length:Nat):Int)=4 * (ps.length:Int) by omega] at this
 have hr:inR (ps.length:Int):=Ey (by omega) (by omega);have tn:tidy G1 (.ok (.ref G1.length) (G1++ [.lst []]))=.ok (.ref G1.length) (G1++ [.lst []]):=Ff rfl;have hstz:∀(A:DH),freeze A (El [.int cell,.int (13 * (j:Int) + 20),.int (4 * (ps.length:Int))] A)=.ok (.fl (xs.map D.int)) A:=hst';refine ⟨L++ [.lst (((List.range ps.length).map RR).map R6.enc)],some (.int cell),some (.ref G1.length),some (.fl (xs.map D.int)),x',?_⟩
 have ep:pgE ((List.range ps.length).map RR)=.tup (((List.range ps.length).map RR).map R6.enc):=rfl;rw [List.map_append,List.map_cons,List.map_nil,ep];generalize ((List.range ps.length).map RR).map R6.enc=Z at *;have hal:(acc.map pgE).length < 1000000:=by simp;omega
 have g1:(G1++ [DO.lst Z])[G1.length]? =some (.lst Z):=by simp
 have g0:(G1++ [DO.lst Z])[G.length]? =some (.lst (acc.map pgE)):=by simp [G1]
 have s0:∀c:DO,(G1++ [DO.lst Z]).set G.length c=G++c::(L++ [.lst Z]):=λc=>by simp [G1]
 have eG:G++ .lst (acc.map pgE)::L=G1:=rfl;rw [eG]
 clear_value G1
 generalize acc.map pgE=Y at *;have lp:(ps.map P2.enc).length=ps.length:=by simp
 unfold Nu;simp [hc,Ax,tn,m13,Ip,m4,hstz,hr,hL',g1,g0,s0,hal]
theorem Z1 {ns:List Int} {y:Int} (hn:ps.length<=12) (hp:∀p∈ps,0<=p.num) {at_:Nat}:∀(m j:Nat),j + m<=6->∃pgs:List (List R6),pgs.length=m/\(∀pg∈pgs,pg.length=ps.length)/\∀(G L:DH) (acc:List (List R6)) (x4 x5 x6 x7 x8:Option D),acc.length + m<=100->∃L' y4 y5 y6 y7 y8,
  Bq (gV 4) Nu (Bp j m) [some (hs2 y ps),some (.fl (ns.map D.int)),some (.int at_),some (.ref G.length),x4,x5,x6,x7,x8] (G++ .lst (acc.map pgE)::L)=
   .nx [some (hs2 y ps),some (.fl (ns.map D.int)),some (.int at_),some (.ref G.length),y4,y5,y6,y7,y8] (G++ .lst ((acc++pgs).map pgE)::L')
 | 0,j,h=>⟨[],rfl,(λ_ h=>absurd h (by simp)),λG L acc x4 x5 x6 x7 x8 ha=>⟨L,x4,x5,x6,x7,x8,by rw [Hb,Dv,List.append_nil]⟩⟩
 | m + 1,j,h=>by
  obtain ⟨pg,hl,hb⟩:=ZCI (ns:=ns) (y:=y) hn hp (at_:=at_) (j:=j) (by omega);obtain ⟨pgs,hl2,hm,ih⟩:=Z1 (ns:=ns) (y:=y) hn hp (at_:=at_) m (j + 1) (by omega);refine ⟨pg::pgs,by simp [hl2],λq hq=> ?_,λG L acc x4 x5 x6 x7 x8 ha=> ?_⟩
  ·rcases List.mem_cons.mp hq with rfl | hq
   ·exact hl
   ·exact hm q hq
  ·obtain ⟨L1,z5,z6,z7,z8,h1⟩:=hb G L acc x5 x6 x7 x8 (by omega);obtain ⟨L2,y4,y5,y6,y7,y8,h2⟩:=ih G L1 (acc++ [pg]) (some (.int j)) z5 z6 z7 z8 (by simp;omega);refine ⟨L2,y4,y5,y6,y7,y8,?_⟩;rw [Fv,De];simp only [Cv,R.Dg,List.set,h1,Dc];have e1:((j:Int) + 1)=((j + 1:Nat):Int):=by omega
   rw [e1,h2,List.append_assoc]
   rfl
theorem ZCP (hn:ps.length<=12) (hp:∀p∈ps,0<=p.num) :∃pgs:List (List R6),pgs.length<=6/\(∀pg∈pgs,pg.length=ps.length)/\∀G,freeze G (Mv [hs2 y ps,.fl (ns.map D.int),.int at_] G)=.ok (.fl (pgs.map pgE)) G:=by
 obtain ⟨m,em⟩:∃m:Nat,cellAt ns (at_:Int) % 7=m:=⟨(cellAt ns (at_:Int) % 7).toNat,by omega⟩;obtain ⟨pgs,hl,hm,h⟩:=Z1 (ns:=ns) (y:=y) hn hp (at_:=at_) m 0 (by omega);refine ⟨pgs,by omega,hm,λG=> ?_⟩;obtain ⟨L,y4,y5,y6,y7,y8,hL⟩:=h G [] [] none none none none none (by simp;omega);have hL':Bq (gV 4) Nu (Bp 0 m) [some (hs2 y ps),some (.fl (ns.map D.int)),some (.int at_),some (.ref G.length),none,none,none,none,none] (G++ [.lst []])=_:=hL
 rw [List.nil_append] at hL';have hc:∀G,Cy [.fl (ns.map D.int),.int (at_:Int)] G=.ok (.int (cellAt ns (at_:Int))) G:=λG=>Hv (by omega)
 have hr:inR (m:Int):=Ey (by omega) (by omega);have td:=Ff (G:=G) (ds:=pgs.map pgE) (L:=L) U4;have fz:=Cg (G:=G) (ds:=pgs.map pgE) (L:= []) U4;generalize pgs.map pgE=Z at *;unfold Mv Ry;rw [Bm];simp [Ax,Ff,hc,em,hr,hL',td,fz]
theorem ZAp:∀{n:Nat} {j num left:Int},∀x∈strm n j num left,x < 10 ^ 42
 | 0,_,_,_,x,h=>by cases h
 | n + 1,j,num,left,x,h=>by
  simp only [strm,List.mem_cons] at h;rcases h with rfl | h
  ·split
   ·exact Int.emod_lt_of_pos _ (by decide)
   ·have:=Int.emod_lt_of_pos (num * num + 48271 * j + 11) (show (0:Int) < 2147483647 by decide);exact Int.lt_trans this (by decide)
  ·exact ZAp x h
theorem ZFy (h0:0<=x) (h1:x < 10 ^ 42):Bts (x / 3 + 2):=Bts.ZAc (m:=200) (by
 have h2:x / 3 + 2 < 10 ^ 42 + 3:=by omega
 have h3:(10:Int) ^ 42 + 3 < 2 ^ 200:=by decide
 have h4:0<=x / 3 + 2:=by omega
 have h5:((x / 3 + 2).natAbs:Int) < ((2 ^ 200:Nat):Int):=by rw [Int.natAbs_of_nonneg h4];exact Int.lt_trans h2 h3
 exact Int.ofNat_lt.mp h5) (by decide) (by decide)
theorem ZDa {c:Int} (h:c.natAbs < 2 ^ n):(c + 1).natAbs < 2 ^ (n + 1):=by have h3:2 ^ (n + 1)=2 ^ n * 2:=Nat.pow_succ ..;have h4:0 < 2 ^ n:=Nat.pow_pos (by decide);omega
theorem Zx {c:Int} (h:c.natAbs.log2 < 1048576):Bts (c + 1):=Bts.ZAc (m:=1048576 + 1) (ZDa (Bts.lt h)) (by decide) (by decide)
def rwD (r:List Int):D:=.tup (r.map D.int)
@[simp] theorem ZCL {r:List Int}:bel n (rwD r)=true:=by unfold rwD;simp [Ef]
theorem ZBy {l:List (List Int)}:bels n (l.map rwD)=true:=Fw λ_ _=>ZCL
def cmF (cell x:Int):Int:=if x % 3=0 then 0 else if x % 3=1 then x / 3 % 30 else (cell + 1) * (x / 3 + 2) % 10 ^ 37
theorem ZAZ (hc:Bts (cell + 1)) (G:DH):∀xs:List Int,(∀x∈xs,0<=x/\x < 10 ^ 42)->Bx (gV 0) Ca Rn [none,some (.int cell)] (xs.map D.int) G=.ok ((xs.map (cmF cell)).map D.int) G
 | [],_=>rfl
 | x::xs,h=>by
  have ih:=ZAZ hc G xs λy hy=>h y (List.mem_cons_of_mem _ hy)
  have hx:=h x (by simp);have he:Rn [some (.int x),some (.int cell)] G=.ok (.int (cmF cell x)) G:=by
   have mm:∀G,Bg (.int (cell + 1)) (.int (x / 3 + 2)) G=.ok (.int ((cell + 1) * (x / 3 + 2))) G:=λG=>ZEY (.inr ⟨hc,ZFy hx.1 hx.2⟩)
   have fz:∀a b c:Int,freeze G (.ok (.ref G.length) (G++ [.lst [.int a,.int b,.int c]]))=.ok (.fl [.int a,.int b,.int c]) G:=λa b c=>Cg rfl
   have e37:(10000000000000000000000000000000000000:Int)=10 ^ 37:=by decide
   unfold Rn cmF;rcases (by omega:x % 3=0∨x % 3=1∨x % 3=2) with z | z | z
   ·simp [mm,fz,z]
   ·simp [mm,fz,z]
   ·simp [mm,fz,z]
  rw [List.map_cons,Ih];simp [he,ih]
theorem ZBz (hn:ps.length<=12) {k:Nat} (hk:k < ps.length) (hc:Bts (cell + 1)) (hxl:xs.length=8 * ps.length) (hx:∀x∈xs,0<=x/\x < 10 ^ 42):∃(v:Int) (r:List Int),∀(G:DH) (lv:List Int) (co:List (List Int)) (x6 x7 x8:Option D),lv.length<=100->co.length<=100->∃y6 y7 y8,
  Jq [some (hs2 y ps),some (.int cell),some (.ref G.length),some (.ref (G.length + 1)),some (.fl (xs.map D.int)),some (.int k),x6,x7,x8] (G++ [.lst (lv.map D.int),.lst (co.map rwD)])=
   .nx [some (hs2 y ps),some (.int cell),some (.ref G.length),some (.ref (G.length + 1)),some (.fl (xs.map D.int)),some (.int k),y6,y7,y8] (G++ [.lst ((lv++ [v]).map D.int),.lst ((co++ [r]).map rwD)]):=by
 have ap:=U6 hk;have m8:∀G,Bg (.int 8) (.int (k:Int)) G=.ok (.int (8 * (k:Int))) G:=λG=>Fl (by omega) (by omega)
 have cu:cutD (xs.map D.int) (some (8 * (k:Int))) (some (8 * (k:Int) + 8))=((xs.drop (8 * k)).take 8).map D.int:=by have:=Kp (xs:=xs) (a:=8 * k) (b:=8 * k + 8) (by omega) (by omega);rwa [show ((8 * k:Nat):Int)=8 * (k:Int) by omega,show ((8 * k + 8:Nat):Int)=8 * (k:Int) + 8 by omega,show 8 * k + 8 - 8 * k=8 by omega] at this
 have hz:∀x∈(xs.drop (8 * k)).take 8,0<=x/\x < 10 ^ 42:=λx h=>hx x (List.mem_of_mem_drop (List.mem_of_mem_take h))
 have hzl:((xs.drop (8 * k)).take 8).length=8:=by simp;omega
 generalize (xs.drop (8 * k)).take 8=zs at *;have a0:atI (zs.map D.int) 0=some (.int (gx zs 0)):=Bu (i:=0) (by omega);have a1:atI (zs.map D.int) 1=some (.int (gx zs 1)):=Bu (i:=1) (by omega);have a2:atI (zs.map D.int) 2=some (.int (gx zs 2)):=Bu (i:=2) (by omega);have cu2:cutD (zs.map D.int) (some 3) (some 8)=((zs.drop 3).take (8 - 3)).map D.int:=Kp (xs:=zs) (a:=3) (b:=8) (by omega) (by omega);have cc:=λG=>ZAZ hc G ((zs.drop 3).take (8 - 3)) λx h=>hz x (List.mem_of_mem_drop (List.mem_of_mem_take h))
 have lr:((zs.drop 3).take (8 - 3)).length<=1000:=by simp;omega
 generalize (zs.drop 3).take (8 - 3)=ws at *;obtain ⟨v,hv⟩:∃v:Int,∀(s0 s2 s3 s4 s5 x8:Option D) (G:DH),Hj [s0,some (.int cell),s2,s3,s4,s5,some (gp ps k).enc,some (.fl (zs.map D.int)),some (.int 0)] G=Vb [s0,some (.int cell),s2,s3,s4,s5,some (gp ps k).enc,some (.fl (zs.map D.int)),some (.int v)] G:=by
  cases gp ps k with
  | mill nm dn dl a=>
   have h1:¬(("mill":Str)="basin"):=by decide
   exact ⟨0,λs0 s2 s3 s4 s5 x8 G=>by unfold P2.enc Hj;simp [h1]⟩
  | town nm dn dl a b=>
   have h1:¬(("town":Str)="basin"):=by decide
   exact ⟨0,λs0 s2 s3 s4 s5 x8 G=>by unfold P2.enc Hj;simp [h1]⟩
  | basin nm dn dl a r q=>
   have fz:∀(a b c:Int) (G:DH),freeze G (.ok (.ref G.length) (G++ [.lst [.int a,.int b,.int c,.int 0]]))=.ok (.fl [.int a,.int b,.int c,.int 0]) G:=λa b c G=>Cg rfl
   rcases (by omega:gx zs 1 % 4=0∨gx zs 1 % 4=1∨gx zs 1 % 4=2∨gx zs 1 % 4=3) with z | z | z | z
   ·exact ⟨min a (gx zs 0 % 50),λs0 s2 s3 s4 s5 x8 G=>by unfold P2.enc Hj;simp [a0,a1,a2,fz,z]⟩
   ·exact ⟨min a ((cell + gx zs 2) % 100000000000000000000000000000000000000),λs0 s2 s3 s4 s5 x8 G=>by unfold P2.enc Hj;simp [a0,a1,a2,fz,z]⟩
   ·exact ⟨min a a,λs0 s2 s3 s4 s5 x8 G=>by unfold P2.enc Hj;simp [a0,a1,a2,fz,z]⟩
   ·exact ⟨min a 0,λs0 s2 s3 s4 s5 x8 G=>by unfold P2.enc Hj;simp [a0,a1,a2,fz,z]⟩
 refine ⟨v,ws.map (cmF cell),λG lv co x6 x7 x8 h1 h2=>⟨some (gp ps k).enc,some (.fl (zs.map D.int)),some (.int v),?_⟩⟩;have fzz:∀(A B:DO) (l:List Int),freeze (G++ [A,B]) (.ok (.ref (G.length + 2)) (G++ [A,B,.lst (l.map D.int)]))=.ok (.fl (l.map D.int)) (G++ [A,B]):=λA B l=>ZE5 Ef
 have f1:=λA B=>fzz A B zs
 have f2:=λA B=>fzz A B ws
 have f3:=λA B=>fzz A B (ws.map (cmF cell))
 have hl1:(lv.map D.int).length < 1000000:=by simp;omega
 have hl2:(co.map rwD).length < 1000000:=by simp;omega
 have g0:∀a b:DO,(G++ [a,b])[G.length]? =some a:=λa b=>by simp
 have g1:∀a b:DO,(G++ [a,b])[G.length + 1]? =some b:=λa b=>by simp
 have s0:∀a b c:DO,(G++ [a,b]).set G.length c=G++ [c,b]:=λa b c=>by simp
 have s1:∀a b c:DO,(G++ [a,b]).set (G.length + 1) c=G++ [a,c]:=λa b c=>by simp
 have cs:∀a b c d e f' g h i:Option D,Ay 1 [1] [a,b,c,d,e,f',g,h,i]= [none,b]:=λ_ _ _ _ _ _ _ _ _=>rfl
 have lw:((ws.map (cmF cell)).map D.int).length<=1000000:=by simp;omega
 have er:rwD (ws.map (cmF cell))=.tup ((ws.map (cmF cell)).map D.int):=rfl;rw [List.map_append,List.map_append,List.map_cons,List.map_nil,List.map_cons,List.map_nil,er];generalize (ws.map (cmF cell)).map D.int=W at *;generalize ws.map D.int=W2 at *;generalize zs.map D.int=W3 at *;generalize lv.map D.int=W4 at *;generalize co.map rwD=W5 at *;have st1:∀A B:DO,Jq [some (hs2 y ps),some (.int cell),some (.ref G.length),some (.ref (G.length + 1)),some (.fl (xs.map D.int)),some (.int k),x6,x7,x8] (G++ [A,B])=Hj [some (hs2 y ps),some (.int cell),some (.ref G.length),some (.ref (G.length + 1)),some (.fl (xs.map D.int)),some (.int k),some (gp ps k).enc,some (.fl W3),some (.int 0)] (G++ [A,B]):=λA B=>by
  unfold Jq Zb Y7;simp [Ip,ap,m8,cu,f1]
 rw [st1,hv _ _ _ _ _ none];unfold Vb Zc;simp [g0,g1,s0,s1,hl1,cu2,f2,cs,cc,lw,f3,hl2]
theorem ZAk {y:Int} (hn:ps.length<=12) (hc:Bts (cell + 1)) (hxl:xs.length=8 * ps.length) (hx:∀x∈xs,0<=x/\x < 10 ^ 42):∀(m k:Nat),k + m=ps.length->∃(lv:List Int) (co:List (List Int)),lv.length=m/\co.length=m/\∀(G:DH) (lv0:List Int) (co0:List (List Int)) (x5 x6 x7 x8:Option D),lv0.length + m<=100->co0.length + m<=100->∃y5 y6 y7 y8,
  Bq (gV 5) Jq (Bp k m) [some (hs2 y ps),some (.int cell),some (.ref G.length),some (.ref (G.length + 1)),some (.fl (xs.map D.int)),x5,x6,x7,x8] (G++ [.lst (lv0.map D.int),.lst (co0.map rwD)])=
   .nx [some (hs2 y ps),some (.int cell),some (.ref G.length),some (.ref (G.length + 1)),some (.fl (xs.map D.int)),y5,y6,y7,y8] (G++ [.lst ((lv0++lv).map D.int),.lst ((co0++co).map rwD)])
 | 0,k,e=>⟨[],[],rfl,rfl,λG lv0 co0 x5 x6 x7 x8 _ _=>⟨x5,x6,x7,x8,by rw [Hb,Dv,List.append_nil,List.append_nil]⟩⟩
 | m + 1,k,e=>by
  obtain ⟨v,r,hb⟩:=ZBz (y:=y) hn (k:=k) (by omega) hc hxl hx;obtain ⟨lv,co,l1,l2,ih⟩:=ZAk (y:=y) hn hc hxl hx m (k + 1) (by omega);refine ⟨v::lv,r::co,by simp [l1],by simp [l2],λG lv0 co0 x5 x6 x7 x8 h1 h2=> ?_⟩;obtain ⟨z6,z7,z8,hb1⟩:=hb G lv0 co0 x6 x7 x8 (by omega) (by omega);obtain ⟨y5,y6,y7,y8,ih1⟩:=ih G (lv0++ [v]) (co0++ [r]) (some (.int k)) z6 z7 z8 (by simp;omega) (by simp;omega);refine ⟨y5,y6,y7,y8,?_⟩
  rw [Fv,De];simp only [Cv,R.Dg,List.set,hb1,Dc];have e1:((k:Int) + 1)=((k + 1:Nat):Int):=by omega
  rw [e1,ih1,List.append_assoc,List.append_assoc]
  rfl
def stE (lv:List Int) (co:List (List Int)):D:=.tup [.tup (lv.map D.int),.tup (co.map rwD)]
theorem c_st (hn:ps.length<=12) (hc:Bts (cell + 1)):∃(lv:List Int) (co:List (List Int)),co.length<=12/\∀G,Mw [hs2 y ps,.int cell] G=.ok (stE lv co) G:=by
 have hst:=λG=>Ph (cell:=cell) (k:=20) (n:=8 * ps.length) (by omega) (by omega) G
 have hxl:(Cp cell 20 (8 * ps.length)).length=8 * ps.length:=Rk;have hx:∀x∈Cp cell 20 (8 * ps.length),0<=x/\x < 10 ^ 42:=λx h=>⟨Qc x h,ZAp x h⟩
 generalize Cp cell 20 (8 * ps.length)=xs at *;have hst':∀G,freeze G (El [.int cell,.int 20,.int (8 * (ps.length:Int))] G)=.ok (.fl (xs.map D.int)) G:=λG=>by have:=hst G;rwa [show ((8 * ps.length:Nat):Int)=8 * (ps.length:Int) by omega] at this
 obtain ⟨lv,co,l1,l2,h⟩:=ZAk (y:=y) hn hc hxl hx ps.length 0 (by omega);refine ⟨lv,co,by omega,λG=> ?_⟩;obtain ⟨y5,y6,y7,y8,hL⟩:=h G [] [] none none none none (by simp;omega) (by simp;omega);have hL':Bq (gV 5) Jq (Bp 0 ps.length) [some (hs2 y ps),some (.int cell),some (.ref G.length),some (.ref (G.length + 1)),some (.fl (xs.map D.int)),none,none,none,none] (G++ [.lst [],.lst []])=_:=hL;rw [List.nil_append,List.nil_append] at hL'
 have m8:∀G,Bg (.int 8) (.int (ps.length:Int)) G=.ok (.int (8 * (ps.length:Int))) G:=λG=>Fl (by omega) (by omega)
 have hr:inR (ps.length:Int):=Ey (by omega) (by omega);have t1:tidy (G++ [.lst []]) (.ok (.ref (G.length + 1)) (G++ [.lst [],.lst []]))=.ok (.ref (G.length + 1)) (G++ [.lst [],.lst []]):=Zt rfl;have g0:∀a b:DO,(G++ [a,b])[G.length]? =some a:=λa b=>by simp
 have g1:∀a b:DO,(G++ [a,b])[G.length + 1]? =some b:=λa b=>by simp
 have b1:bels G.length (lv.map D.int)=true:=Ef;have b2:bels G.length (co.map rwD)=true:=ZBy;unfold stE;generalize lv.map D.int=W1 at *;generalize co.map rwD=W2 at *;have td:∀L:DH,tidy G (.ok (.tup [.tup W1,.tup W2]) (G++L))=.ok (.tup [.tup W1,.tup W2]) G:=λL=>Vm (by simp [b1,b2])
 unfold Mw M7;rw [Bm];simp [Ax,Ff,t1,Ip,m8,hst',hr,hL',g0,g1,td]
def wat (lv:List Int) (co:List (List Int)):Int:=lv.sum + (co.map List.sum).sum
theorem Ud {lv:List Int} {co:List (List Int)} (hl:co.length<=12) (G:DH):Il [stE lv co] G=.ok (.int (wat lv co)) G:=by
 have hc:Bx (gV 0) Ca Oh [none] (co.map rwD) G=.ok ((co.map List.sum).map D.int) G:=by
  clear hl
  induction co with
  | nil=>rfl
  | cons r co ih=>
   have he:Oh [some (rwD r)] G=.ok (.int r.sum) G:=by have:=Vc (G:=G) (ks:=r);unfold Oh rwD;simp [this]
   rw [List.map_cons,Ih];simp [he,ih]
 have fz:freeze G (.ok (.ref G.length) (G++ [.lst ((co.map List.sum).map D.int)]))=.ok (.fl ((co.map List.sum).map D.int)) G:=Cg Ef;have sm:Dz [.fl ((co.map List.sum).map D.int)] G=.ok (.int (co.map List.sum).sum) G:=Q9;have ll:((co.map List.sum).map D.int).length<=1000000:=by simp;omega
 have sl:Dz [.tup (lv.map D.int)] G=.ok (.int lv.sum) G:=Vc;have hcs:∀S:DSt,Ay 1 [] S= [none]:=λ_=>rfl
 unfold stE wat;generalize (co.map List.sum).map D.int=Z at *;generalize (co.map List.sum).sum=z at *;generalize co.map rwD=Y at *;generalize lv.map D.int=X at *;unfold Il Ii;rw [Bm];simp [-Q9,-Vc,sl,hcs,hc,ll,fz,sm,Bo]
theorem sum_in {s0 s2 s3:Option D} {G:DH}:∀(l:List Int) (t:Int) (x:Option D),∃x',Bq (gV 4) Pn (l.map D.int) [s0,some (.int t),s2,s3,x] G=.nx [s0,some (.int (t + l.sum)),s2,s3,x'] G
 | [],t,x=>⟨x,by rw [List.map_nil,Dv];simp⟩
 | a::l,t,x=>by
  obtain ⟨x',ih⟩:=sum_in (s0:=s0) (s2:=s2) (s3:=s3) (G:=G) l (t + a) (some (.int a));refine ⟨x',?_⟩;have hb:Pn [s0,some (.int t),s2,s3,some (.int a)] G=.nx [s0,some (.int (t + a)),s2,s3,some (.int a)] G:=by unfold Pn;simp
  rw [List.map_cons,De];simp only [Cv,R.Dg,List.set,hb,Dc];rw [ih,List.sum_cons,Int.add_assoc]
theorem ZAO {s0 s3 s4:Option D} {G:DH}:∀(l:List Int) (t:Int) (x:Option D),∃x',Bq (gV 2) Pk (l.map D.int) [s0,some (.int t),x,s3,s4] G=.nx [s0,some (.int (t + l.sum)),x',s3,s4] G
 | [],t,x=>⟨x,by rw [List.map_nil,Dv];simp⟩
 | a::l,t,x=>by
  obtain ⟨x',ih⟩:=ZAO (s0:=s0) (s3:=s3) (s4:=s4) (G:=G) l (t + a) (some (.int a));refine ⟨x',?_⟩;have hb:Pk [s0,some (.int t),some (.int a),s3,s4] G=.nx [s0,some (.int (t + a)),some (.int a),s3,s4] G:=by unfold Pk;simp
  rw [List.map_cons,De];simp only [Cv,R.Dg,List.set,hb,Dc];rw [ih,List.sum_cons,Int.add_assoc]
theorem Yk {s0 s2:Option D} {G:DH}:∀(l:List (List Int)) (t:Int) (x x4:Option D),∃x' y4,Bq (gV 3) Ox (l.map rwD) [s0,some (.int t),s2,x,x4] G=.nx [s0,some (.int (t + (l.map List.sum).sum)),s2,x',y4] G
 | [],t,x,x4=>⟨x,x4,by rw [List.map_nil,Dv];simp⟩
 | a::l,t,x,x4=>by
  obtain ⟨z4,hin⟩:=sum_in (s0:=s0) (s2:=s2) (s3:=some (rwD a)) (G:=G) a t x4;obtain ⟨x',y4,ih⟩:=Yk (s0:=s0) (s2:=s2) (G:=G) l (t + a.sum) (some (rwD a)) z4;refine ⟨x',y4,?_⟩;have hb:Ox [s0,some (.int t),s2,some (rwD a),x4] G=.nx [s0,some (.int (t + a.sum)),s2,some (rwD a),z4] G:=by unfold rwD at hin ⊢;unfold Ox;simp [hin]
  rw [List.map_cons,De];simp only [Cv,R.Dg,List.set,hb,Dc];rw [ih,List.map_cons,List.sum_cons,Int.add_assoc]
theorem Yc {lv:List Int} {co:List (List Int)} (G:DH):O5 [stE lv co] G=.ok (.int (wat lv co)) G:=by
 obtain ⟨x',h1⟩:=ZAO (s0:=some (stE lv co)) (s3:=none) (s4:=none) (G:=G) lv 0 none;obtain ⟨x3,y4,h2⟩:=Yk (s0:=some (stE lv co)) (s2:=x') (G:=G) co (0 + lv.sum) none none;have ew:0 + lv.sum + (co.map List.sum).sum=wat lv co:=by unfold wat;omega
 rw [ew] at h2;unfold stE at h1 h2 ⊢;generalize (0 + lv.sum)=z at *;generalize co.map rwD=Y at *;generalize lv.map D.int=X at *;unfold O5 M4;rw [Bm];simp [h1,h2,Bo]
theorem ZCD {tc:DB} {S:DSt} {E1 E2 F:Nat->D} {T:Nat->Bool} {d e:D} (hd:Bf d G=some ((List.range n).map E1)) (he:Bf e G=some ((List.range n).map E2)) (ht:∀k,k < n->tc [some (E1 k),some (E2 k)] G=.ok (T k) G) (h:∀k,k < n->te [some (E1 k),some (E2 k)] G=.ok (F k) G):
  Dy (Gm [d,e]) (Dq 2 (Bt (gV 0) (Bt (gV 1) Ep))) tc te (Ay 2 [] S) n 0 G=.ok (((List.range n).filter T).map F) G:=by
 have hf:∀j,Gm [d,e] j G=some ((List.range n).map λi=>D.tup [E1 i,E2 i])[j]? :=λj=>by
  rw [ZBk hd he,Uk,List.zip_map',List.map_map]
  rfl
 have hc:Ay 2 [] S= [none,none]:=rfl;rw [hc];have key:∀m j,j + m=n->Dy (Gm [d,e]) (Dq 2 (Bt (gV 0) (Bt (gV 1) Ep))) tc te [none,none] m j G=.ok (((List.range' j m).filter T).map F) G:=by
  intro m
  induction m with
  | zero=>
   intro j hj;unfold Dy;rw [hf,List.getElem?_eq_none (by simp;omega)]
   rfl
  | succ m ih=>
   intro j hj;have hlt:j < n:=by omega
   unfold Dy;rw [hf,List.getElem?_map,List.getElem?_range hlt];have hg:(Dq 2 (Bt (gV 0) (Bt (gV 1) Ep))) (.tup [E1 j,E2 j]) [none,none] G=.ok [some (E1 j),some (E2 j)] G:=by simp
   rw [List.range'_succ,List.filter_cons];simp only [Option.map_some,hg,R.Rg,ht j hlt];cases hT:T j
   ·simp only [Bool.false_eq_true,if_false,ih (j + 1) (by omega)]
   ·simp only [if_true,h j hlt,R.Rg,ih (j + 1) (by omega),List.map_cons]
 have:=key n 0 (by omega);rw [this,List.range_eq_range']
theorem enc2 {p:P2} :Aj p.enc (.int 2) G=.ok (.str p.dn) G:=by cases p <;> simp [P2.enc,P2.dn]
def rg (pg:List R6) (k:Nat):R6:=pg.getD k ⟨0,0,0,0,0,0⟩
theorem ZBd:pg.map R6.enc=(List.range pg.length).map λk=>(rg pg k).enc:=by
 refine List.ext_getElem (by simp) λi h1 h2=> ?_
 have hi:i < pg.length:=by simpa using h1
 simp [rg,List.getD_eq_getElem?_getD,hi]
theorem ZDR:ps.map P2.enc=(List.range ps.length).map λk=>(gp ps k).enc:=by
 refine List.ext_getElem (by simp) λi h1 h2=> ?_
 have hi:i < ps.length:=by simpa using h1
 simp [gp,List.getD_eq_getElem?_getD,hi]
def Ec (ps:List P2) (k:Nat):Bool:=decide ((gp ps k).dn="sea")
def gnF (pg:List R6) (k:Nat):Int:=(rg pg k).c + (rg pg k).d
def gon (ps:List P2) (pg:List R6):Int:=(((List.range ps.length).filter (Ec ps)).map (gnF pg)).sum
theorem ZAd (hn:ps.length<=12) (hl:pg.length=ps.length) (G:DH):Lw [hs2 y ps,pgE pg] G=.ok (.int (gon ps pg)) G:=by
 have h1:Bf (.tup (ps.map P2.enc)) G=some ((List.range ps.length).map λk=>(gp ps k).enc):=by rw [Yw,ZDR]
 have h2:Bf (pgE pg) G=some ((List.range ps.length).map λk=>(rg pg k).enc):=by unfold pgE;rw [Yw,ZBd,hl]
 have hc:=ZCD (te:=Wf) (tc:=V2) (S:= [some (hs2 y ps),some (pgE pg)]) (n:=ps.length) (T:=Ec ps) (F:=λk=>.int (gnF pg k)) h1 h2 (λk hk=>by
  unfold V2 Ec;simp [enc2]) (λk hk=>by
  unfold Wf R6.enc gnF;simp)
 have hz:=ZDI h1 h2;have lz:((List.range ps.length).map λk=>(gp ps k).enc).length=ps.length:=by simp
 rw [lz] at hz;have em:((List.range ps.length).filter (Ec ps)).map (λk=>D.int (gnF pg k))=(((List.range ps.length).filter (Ec ps)).map (gnF pg)).map D.int:=by rw [List.map_map];rfl
 rw [em] at hc;have ll:(((List.range ps.length).filter (Ec ps)).map (gnF pg)).length<=1000000:=by rw [List.length_map];have:=List.length_filter_le (Ec ps) (List.range ps.length);rw [List.length_range] at this;omega
 have sm:Dz [.fl ((((List.range ps.length).filter (Ec ps)).map (gnF pg)).map D.int)] G=.ok (.int (gon ps pg)) G:=Q9;generalize ((List.range ps.length).filter (Ec ps)).map (gnF pg)=zs at *;have fz:freeze G (.ok (.ref G.length) (G++ [.lst (zs.map D.int)]))=.ok (.fl (zs.map D.int)) G:=Cg Ef;have hh:∀G,Aj (hs2 y ps) (.int 1) G=.ok (.tup (ps.map P2.enc)) G:=λG=>Ip
 generalize ps.map P2.enc=PP at *;generalize pgE pg=QQ at *;generalize hs2 y ps=HH at *;unfold Lw Mr;rw [Bm];simp [-Q9,hh,hz,hc,ll,fz,sm,Bo]
theorem Tj {y:Int} (hn:ps.length<=12) (hl:pg.length=ps.length) {G:DH}:∀(m k:Nat) (t:Int) (x:Option D),k + m=ps.length->∃x',Bq (gV 3) Io (Bp k m) [some (hs2 y ps),some (pgE pg),some (.int t),x] G=.nx [some (hs2 y ps),some (pgE pg),some (.int (t + (((List.range' k m).filter (Ec ps)).map (gnF pg)).sum)),x'] G
 | 0,k,t,x,e=>⟨x,by rw [Hb,Dv];simp⟩
 | m + 1,k,t,x,e=>by
  have hk:k < ps.length:=by omega
  have ap:=U6 hk;have ar:atI (pg.map R6.enc) (k:Int)=some (rg pg k).enc:=En rfl (by rw [List.getElem?_map,List.getElem?_eq_getElem (by omega)];simp [rg,List.getD_eq_getElem?_getD,show k < pg.length by omega]);have e1:((k:Int) + 1)=((k + 1:Nat):Int):=by omega
  by_cases hs:(gp ps k).dn="sea"
  ·obtain ⟨x',ih⟩:=Tj (y:=y) hn hl (G:=G) m (k + 1) (t + gnF pg k) (some (.int k)) (by omega);refine ⟨x',?_⟩;have hb:Io [some (hs2 y ps),some (pgE pg),some (.int t),some (.int k)] G=.nx [some (hs2 y ps),some (pgE pg),some (.int (t + gnF pg k)),some (.int k)] G:=by
    have ea:t + gnF pg k=t + (rg pg k).d + (rg pg k).c:=by unfold gnF;omega
    rw [ea];have i2:∀(r:R6) G,Aj r.enc (.int 2) G=.ok (.int r.c) G:=λr G=>by unfold R6.enc;simp
    have i3:∀(r:R6) G,Aj r.enc (.int 3) G=.ok (.int r.d) G:=λr G=>by unfold R6.enc;simp
    unfold pgE Io;simp [Ip,ap,enc2,hs,ar,i2,i3]
   have hT:Ec ps k=true:=by simp [Ec,hs]
   rw [Fv,De];simp only [Cv,R.Dg,List.set,hb,Dc];rw [e1,ih,List.range'_succ,List.filter_cons,if_pos hT,List.map_cons,List.sum_cons,Int.add_assoc]
  ·obtain ⟨x',ih⟩:=Tj (y:=y) hn hl (G:=G) m (k + 1) t (some (.int k)) (by omega);refine ⟨x',?_⟩;have hb:Io [some (hs2 y ps),some (pgE pg),some (.int t),some (.int k)] G=.nx [some (hs2 y ps),some (pgE pg),some (.int t),some (.int k)] G:=by unfold Io;simp [Ip,ap,enc2,hs]
   have hT:¬Ec ps k=true:=by simp [Ec,hs]
   rw [Fv,De];simp only [Cv,R.Dg,List.set,hb,Dc];rw [e1,ih,List.range'_succ,List.filter_cons,if_neg hT]
theorem Yp (hn:ps.length<=12) (hl:pg.length=ps.length) (G:DH):Np [hs2 y ps,pgE pg] G=.ok (.int (gon ps pg)) G:=by
 obtain ⟨x',hL⟩:=Tj (y:=y) hn hl (G:=G) ps.length 0 0 none (by omega);rw [<-List.range_eq_range',Int.zero_add] at hL;have hL':Bq (gV 3) Io (Bp 0 ps.length) [some (hs2 y ps),some (pgE pg),some (.int 0),none] G=.nx [some (hs2 y ps),some (pgE pg),some (.int (gon ps pg)),x'] G:=hL;have hr:inR (ps.length:Int):=Ey (by omega) (by omega);have ll:∀G,Fp [pgE pg] G=.ok (.int (ps.length:Int)) G:=λG=>by unfold pgE;simp [hl]
 generalize pgE pg=QQ at *;unfold Np Mu;rw [Bm];simp [ll,hr,hL',Bo]
theorem ZAR {i:Int} (G:DH):Lg [.int i] G=.ok (.bl true) G:=by unfold Lg N5;rw [Bm];simp [Bo,tyD]
theorem ZBP {y:Int} (hn:ps.length<=12) {s0 s2 s3 s4 s7:Option D} {G:DH}:∀(pgs:List (List R6)),(∀pg∈pgs,pg.length=ps.length)->∀(x5 x6:Option D),∃y5 y6,Bq (gV 5) O9 (pgs.map pgE) [s0,some (hs2 y ps),s2,s3,s4,x5,x6,s7] G=.nx [s0,some (hs2 y ps),s2,s3,s4,y5,y6,s7] G
 | [],_,x5,x6=>⟨x5,x6,by rw [List.map_nil,Dv]⟩
 | pg::pgs,h,x5,x6=>by
  obtain ⟨y5,y6,ih⟩:=ZBP (y:=y) hn (s0:=s0) (s2:=s2) (s3:=s3) (s4:=s4) (s7:=s7) (G:=G) pgs (λq hq=>h q (List.mem_cons_of_mem _ hq)) (some (pgE pg)) (some (.int (gon ps pg)));refine ⟨y5,y6,?_⟩;have h1:=λG=>ZAd (y:=y) hn (h pg (by simp)) G
  have h2:=λG=>Yp (y:=y) hn (h pg (by simp)) G
  have hb:O9 [s0,some (hs2 y ps),s2,s3,s4,some (pgE pg),x6,s7] G=.nx [s0,some (hs2 y ps),s2,s3,s4,some (pgE pg),some (.int (gon ps pg)),s7] G:=by generalize pgE pg=QQ at *;unfold O9;simp [h1,h2,ZAR]
  rw [List.map_cons,De];simp only [Cv,R.Dg,List.set,hb,Dc];exact ih
theorem ZAU {y:Int} (hn:ps.length<=12) {lv:List Int} {co:List (List Int)} (hl:co.length<=12) {s0 s3 s6 s7:Option D} {G:DH}:∀(pgs:List (List R6)),(∀pg∈pgs,pg.length=ps.length)->∀(x5:Option D),∃y5,Bq (gV 5) Px (pgs.map pgE) [s0,some (hs2 y ps),some (stE lv co),s3,some (.int (wat lv co)),x5,s6,s7] G=.nx [s0,some (hs2 y ps),some (stE lv co),s3,some (.int (wat lv co)),y5,s6,s7] G
 | [],_,x5=>⟨x5,by rw [List.map_nil,Dv]⟩
 | pg::pgs,h,x5=>by
  obtain ⟨y5,ih⟩:=ZAU (y:=y) hn (lv:=lv) (co:=co) hl (s0:=s0) (s3:=s3) (s6:=s6) (s7:=s7) (G:=G) pgs (λq hq=>h q (List.mem_cons_of_mem _ hq)) (some (pgE pg));refine ⟨y5,?_⟩;have h1:=λG=>ZAd (y:=y) hn (h pg (by simp)) G
  have h2:=λG=>Yp (y:=y) hn (h pg (by simp)) G
  have h3:=λG=>Ud (lv:=lv) hl G
  have hb:Px [s0,some (hs2 y ps),some (stE lv co),s3,some (.int (wat lv co)),some (pgE pg),s6,s7] G=.nx [s0,some (hs2 y ps),some (stE lv co),s3,some (.int (wat lv co)),some (pgE pg),s6,s7] G:=by generalize pgE pg=QQ at *;generalize stE lv co=SS at *;unfold Px;simp [h1,h2,h3]
  rw [List.map_cons,De];simp only [Cv,R.Dg,List.set,hb,Dc];exact ih
theorem ZBW (hb:∀m∈ns,m.natAbs.log2 < 1048576) (k:Int):(cellAt ns k).natAbs.log2 < 1048576:=by
 unfold cellAt;rw [List.getD_eq_getElem?_getD];by_cases h:k.toNat < ns.length
 ·rw [List.getElem?_eq_getElem h];exact hb _ (List.getElem_mem h)
 ·rw [List.getElem?_eq_none (by omega)]
  decide
theorem ZFo (hb:∀m∈ns,m.natAbs.log2 < 1048576) (G:DH):Je [.fl (ns.map D.int)] G=.ok (.bl true) G:=by
 obtain ⟨y,ps,hp1,hn,hp,ch⟩:=ZCX (ns:=ns) (at_:=0) (by omega) G;have ch':Mm [.fl (ns.map D.int),.int 0] G=.ok (hs2 y ps) G:=ch;obtain ⟨pgs,hpl,hpg,cp⟩:=ZCP (ns:=ns) (y:=y) hn hp (at_:=16);have cp':∀G,freeze G (Mv [hs2 y ps,.fl (ns.map D.int),.int 16] G)=.ok (.fl (pgs.map pgE)) G:=cp;obtain ⟨lv,co,hl,cs⟩:=c_st (y:=y) hn (Zx (ZBW hb 15));obtain ⟨lv2,co2,hl2,cs2⟩:=c_st (y:=y) hn (Zx (ZBW hb 23));have k15:∀G,Cy [.fl (ns.map D.int),.int 15] G=.ok (.int (cellAt ns 15)) G:=λG=>Hv (by omega)
 have k23:∀G,Cy [.fl (ns.map D.int),.int 23] G=.ok (.int (cellAt ns 23)) G:=λG=>Hv (by omega)
 have w1:=λG=>Ud (lv:=lv) hl G
 have w2:=λG=>Ud (lv:=lv2) hl2 G
 have u1:=λG=>Yc (lv:=lv) (co:=co) G
 have u2:=λG=>Yc (lv:=lv2) (co:=co2) G
 obtain ⟨y5,y6,hL1⟩:=ZBP (y:=y) hn (s0:=some (.fl (ns.map D.int))) (s2:=some (stE lv co)) (s3:=some (.fl (pgs.map pgE))) (s4:=some (.int (wat lv co))) (s7:=none) (G:=G) pgs hpg none none;obtain ⟨z5,hL2⟩:=ZAU (y:=y) hn (lv:=lv) hl (s0:=some (.fl (ns.map D.int))) (s3:=some (.fl (pgs.map pgE))) (s6:=y6) (s7:=none) (G:=G) pgs.reverse (λq hq=>hpg q (List.mem_reverse.mp hq)) y5;rw [List.map_reverse] at hL2
 have fz:freeze G (.ok (.ref G.length) (G++ [.lst (pgs.map pgE).reverse]))=.ok (.fl (pgs.map pgE).reverse) G:=by rw [<-List.map_reverse];exact Cg U4
 have lo:∀xs:List D,Ei (.fl xs) G=some xs:=λxs=>rfl
 generalize pgs.map pgE=PG at *;generalize hs2 y ps=HH at *;generalize stE lv co=S1 at *;generalize stE lv2 co2=S2 at *;unfold Je Wn ZA2 Zo Z2 ZAf Z4 ZAD Ze Y9;rw [Bm];simp [ch',k15,cs,cp',w1,ZAR,u1,hL1,lo,fz,hL2,k23,cs2,w2,u2,Bo]
theorem holds:Holds:=λns hl hb=>⟨[],ZFo hb []⟩
end Law
namespace Law
open PySem L2 DL
seal QE QT QA QS QSs QG QGs QI QTs QW QO
structure Adr where
 Js:Addr
 Li:FuncData
 Jk:Addr
 Mt:FuncData
 K7:Addr
 Ny:FuncData
 Jr:Addr
 Lp:FuncData
 Jm:Addr
 N7:FuncData
 K1:Addr
 Nx:FuncData
 Ke:Addr
 Ms:FuncData
 Jy:Addr
 Nq:FuncData
 K4:Addr
 Nh:FuncData
 Ky:Addr
 M5:FuncData
 K5:Addr
 Mx:FuncData
 Jz:Addr
 N8:FuncData
 Kf:Addr
 Mf:FuncData
 Kd:Addr
 Mh:FuncData
 Jx:Addr
 Nk:FuncData
 Jp:Addr
 O6:FuncData
 Kg:Addr
 Lx:FuncData
 Jj:Addr
 Mg:FuncData
 Kc:Addr
 Mi:FuncData
 I8:Addr
 Ve:FuncData
 Qf:Tok
 T4:Tok
 Ru:Tok
 S8:Tok
 Oc:Tok
structure Txt (K:PySem.W.Frag) (mg:Str->Option Value) (t:Adr):Prop where
 Qs:Fun K "_law_cell_at" "_law_cell_at" Th t.Js t.Li
 Fx:Binds K t.Li ["_law_script","_law_k"] []
 G9:mg "_law_cell_at"=some (.ref t.Js)
 Gj:PySem.W.keepIn K (.ref t.Js)=true
 Rt:Fun K "_law_free_names" "_law_free_names" N6 t.Jk t.Mt
 Q6:Binds K t.Mt ["_law_xs"] []
 Vz:mg "_law_free_names"=some (.ref t.Jk)
 Tg:PySem.W.keepIn K (.ref t.Jk)=true
 Oj:Fun K "_law_stream" "_law_stream" Uq t.K7 t.Ny
 Jd:Binds K t.Ny ["_law_cell","_law_k","_law_many"] []
 Ku:mg "_law_stream"=some (.ref t.K7)
 Jv:PySem.W.keepIn K (.ref t.K7)=true
 Ov:Fun K "_law_names" "_law_names" J1 t.Jr t.Lp
 J8:Binds K t.Lp ["_law_cell"] []
 Ue:mg "_law_names"=some (.ref t.Jr)
 Um:PySem.W.keepIn K (.ref t.Jr)=true
 O8:Fun K "_law_more" "_law_more" Vx t.Jm t.N7
 Ma:Binds K t.N7 ["_law_x"] []
 Wo:mg "_law_more"=some (.ref t.Jm)
 U7:PySem.W.keepIn K (.ref t.Jm)=true
 Qm:Fun K "_law_number" "_law_number" Ul t.K1 t.Nx
 Em:Binds K t.Nx ["_law_x","_law_cell"] []
 Fe:mg "_law_number"=some (.ref t.K1)
 Et:PySem.W.keepIn K (.ref t.K1)=true
 Ra:Fun K "_law_pumped" "_law_pumped" Py t.Ke t.Ms
 Rh:Binds K t.Ms ["_law_rule_here"] []
 Wk:mg "_law_pumped"=some (.ref t.Ke)
 Vi:PySem.W.keepIn K (.ref t.Ke)=true
 Ro:Fun K "_law_stairs" "_law_stairs" W7 t.Jy t.Nq
 T6:Binds K t.Nq ["_law_xs","_law_cell","_law_pumps"] []
 V5:mg "_law_stairs"=some (.ref t.Jy)
 V3:PySem.W.keepIn K (.ref t.Jy)=true
 Rf:Fun K "_law_rule" "_law_rule" W0 t.K4 t.Nh
 Q8:Binds K t.Nh ["_law_xs","_law_cell","_law_year","_law_pumps"] []
 Tq:mg "_law_rule"=some (.ref t.K4)
 Vd:PySem.W.keepIn K (.ref t.K4)=true
 Qn:Fun K "_law_place" "_law_place" Vr t.Ky t.M5
 Lk:Binds K t.M5 ["_law_names_here","_law_many","_law_k","_law_year","_law_cell"] []
 Tf:mg "_law_place"=some (.ref t.Ky)
 Vt:PySem.W.keepIn K (.ref t.Ky)=true
 R7:Fun K "_law_house" "_law_house" Pu t.K5 t.Mx
 Su:Binds K t.Mx ["_law_script","_law_at"] []
 Uu:mg "_law_house"=some (.ref t.K5)
 V1:PySem.W.keepIn K (.ref t.K5)=true
 Rr:Fun K "_law_out" "_law_out" Wg t.Jz t.N8
 Mu:Binds K t.N8 ["_law_house_here","_law_page"] []
 Pa:mg "_law_out"=some (.ref t.Jz)
 Pg:PySem.W.keepIn K (.ref t.Jz)=true
 Qy:Fun K "_law_page_row" "_law_page_row" Tt t.Kf t.Mf
 Gn:Binds K t.Mf ["_law_place_here","_law_xs","_law_cell"] []
 Tw:mg "_law_page_row"=some (.ref t.Kf)
 Uy:PySem.W.keepIn K (.ref t.Kf)=true
 Sw:Fun K "_law_pages" "_law_pages" Td t.Kd t.Mh
 Ry:Binds K t.Mh ["_law_house_here","_law_script","_law_at"] []
 Vu:mg "_law_pages"=some (.ref t.Kd)
 Uz:PySem.W.keepIn K (.ref t.Kd)=true
 Rz:Fun K "_law_state" "_law_state" Oo t.Jx t.Nk
 M7:Binds K t.Nk ["_law_house_here","_law_cell"] []
 Rj:mg "_law_state"=some (.ref t.Jx)
 Ow:PySem.W.keepIn K (.ref t.Jx)=true
 Ql:Fun K "_law_sum" "_law_sum" V4 t.Jp t.O6
 M4:Binds K t.O6 ["_law_state_here"] []
 Q5:mg "_law_sum"=some (.ref t.Jp)
 Qk:PySem.W.keepIn K (.ref t.Jp)=true
 Qv:Fun K "_law_whole" "_law_whole" Tv t.Kg t.Lx
 N5:Binds K t.Lx ["_law_found"] []
 Qu:mg "_law_whole"=some (.ref t.Kg)
 T3:PySem.W.keepIn K (.ref t.Kg)=true
 Ri:Fun K "gone" "gone" Qp t.Jj t.Mg
 Mr:Binds K t.Mg ["house","page"] []
 R4:mg "gone"=some (.ref t.Jj)
 Om:PySem.W.keepIn K (.ref t.Jj)=true
 Qo:Fun K "water" "water" O7 t.Kc t.Mi
 Ii:Binds K t.Mi ["state"] []
 K3:mg "water"=some (.ref t.Kc)
 Kw:PySem.W.keepIn K (.ref t.Kc)=true
 ZCt:Fun K "law" "law" Eg t.I8 t.Ve
 Wn:Binds K t.Ve ["_law_script"] []
 m_law:mg "law"=some (.ref t.I8)
 Ju:PySem.W.keepIn K (.ref t.I8)=true
 ZCw:mg "bool"=none
 Vk:mg "int"=none
 ZAs:mg "isinstance"=none
 Jl:mg "len"=none
 Z5:mg "max"=none
 Qi:mg "min"=none
 Fg:mg "range"=none
 Mp:mg "sum"=none
 Jg:mg "tuple"=none
 ZBm:mg "zip"=none
 Ln:mg "DOWN"=some (.int 2 t.Qf)
 M6:mg "LET"=some (.int 3 t.T4)
 Ni:mg "PLACES"=some (.int 1 t.Ru)
 Lz:mg "SEA"=some (.str "sea" t.S8)
 Nt:mg "SPILLED"=some (.int 2 t.Oc)
section
variable {P:Program} {w:World} {K:PySem.W.Frag} {mg:Str->Option Value} {base:Heap} {t:Adr}
theorem Hr (T:Txt K mg t):FnOk P w K mg base CX0 1 t.Js t.Li ["_law_script","_law_k"] (lF K Cy):=by
 refine Cj T.Qs ZFc λcdv A outer s H E hr=> ?_
 exact (Ai (Br (Bk U0 (Aa 1) (Cq K8 rfl T.Jl Jo (Ad (Aa 0) Ag)) (nomark _)) (Ar (Bh (Al Ak (Aa 0) (Aa 1)))) Bs) (Ar (Bh Ab)))
theorem ZFr (T:Txt K mg t):FnOk P w K mg base CX0 1 t.Jk t.Mt ["_law_xs"] (lF K Rq):=by
 refine Cj T.Rt Gi λcdv A outer s H E hr=> ?_
 exact (Ai (Ao 1 Gi.nd Cd) (Ai (Ao 2 Gi.nd (Gf (Du Ag))) (Ai (Dr PassesOwn.never rfl (Eb (Aa 0)) (Bl 3 Gi.nd) (Ai (Ao 4 Gi.nd Cd) (Ai (Ao 5 Gi.nd (Ae Di (Aa 3) Ab)) (Ai (Dr PassesOwn.never rfl (Eu rfl T.Fg (Ad (Ae Aq Ab (Ae Aw (Aa 3) Ab)) Ag)) (Bl 6 Gi.nd) (Ai (Ao 4 Gi.nd (Ae Aq (Aa 4) (Al Ak (Aa 1) (Ae Aw (Aa 5) Ab)))) (Ar (Ao 5 Gi.nd (Ae Di (Aa 5) Ab))))) (Ai (Ao 7 Gi.nd (Bd (Ae Aq (Bd (Du (Ad (Aa 4) Ag))) (Bd (Gx rfl (Fq (dn:=(Bc N6).names) (N0:=Wc) (N:= ["_law_letter"]) (nt:=1) (caps:= [])) (Eb (Aa 1)) (λC s₀ H₀ ex=>(Bl 0 (show (["_law_letter"]:List Str).Nodup by decide +kernel))) (Dl (by decide)) (λC s₀ H₀ ex=>Hl) (λC s₀ H₀ ex=>(Ae Aq Cd (Aa 0)))))))) (Ar (H8 (Hh PySem.F.slot_list_append PySem.F.type_list_append Gs (Aa 2) (Ad (Al Ak (Bd (Gx rfl (Fq (dn:=(Bc N6).names) (N0:=Wc) (N:= ["_law_one","_law_names_here"]) (nt:=1) (caps:= [2])) (Eb (Aa 7)) (λC s₀ H₀ ex=>(Bl 0 (show (["_law_one","_law_names_here"]:List Str).Nodup by decide +kernel))) (Dl (by decide)) (λC s₀ H₀ ex=>(U8 (Hi (Qe (Bk ZGT (Aa 0) (Aa 1) (by with_unfolding_all rfl)) (Sg (Bk (La hr.units) (Aa 0) Cd (nomark _))))))) (λC s₀ H₀ ex=>(Aa 0)))) Ab) Ag))))))))) (Ar (Bh (Aa 2))))))
theorem Ol (T:Txt K mg t):FnOk P w K mg base CX0 1 t.K7 t.Ny ["_law_cell","_law_k","_law_many"] (lF K El):=by
 refine Cj T.Oj Ht λcdv A outer s H E hr=> ?_
 exact (Ai (Ao 3 Ht.nd (Ae Aw (Ae Ce (Ae Aq (Ae Aw (Aa 0) Ab) Ab) (Ae Aq (Ae Ce (Ae Ce Ab (Aa 1)) (Aa 1)) Ab)) Ab)) (Ai (Ao 4 Ht.nd Ab) (Ai (Br (Hi (Nr (Bk U0 (Aa 0) Ab (nomark _)) (Lq (Bk o_ge (Aa 0) (Ae Hs Ab Ab) (nomark _))))) (Ar (Ao 4 Ht.nd (Cq (ZCc rfl) rfl T.Z5 ZAt (Ad (Aa 0) (Ad (Ae M8 Ab (Aa 0)) Ag))))) Bs) (Ai (Ao 5 Ht.nd (Gf (Du Ag))) (Ai (Dr PassesOwn.never rfl (Eu rfl T.Fg (Ad (Aa 2) Ag)) (Bl 6 Ht.nd) (Ai (Ao 3 Ht.nd (Ae Aw (Ae Aq (Ae Aq (Ae Ce (Aa 3) (Aa 3)) (Ae Ce Ab (Aa 6))) Ab) Ab)) (Ai (H8 (Hh PySem.F.slot_list_append PySem.F.type_list_append Gs (Aa 5) (Ad (Al Ak (Bd (Du (Ad (Aa 3) (Ad (Ae Aw (Aa 4) (Ae Hs Ab Ab)) Ag)))) (Hn ZAr rfl T.Vk Wb (Ad (Jt Gg (Aa 4) Ab (nomark _)) Ag))) Ag))) (Ar (Ao 4 Ht.nd (Ae Di (Aa 4) (Ae Hs Ab Ab))))))) (Ar (Bh (Aa 5))))))))
theorem ZCf (T:Txt K mg t):FnOk P w K mg base CX0 2 t.Jr t.Lp ["_law_cell"] (lF K Hz):=by
 refine Cj T.Ov Cz λcdv A outer s H E hr=> ?_
 exact (Ai (Ao 1 Cz.nd Cd) (Ai (Ao 2 Cz.nd (Bd (Bb (Ol T) (hr.mono (by decide)) rfl T.Ku T.Jv T.Jd pass0 (Ad (Aa 0) (Ad Ab (Ad Ab Ag)))))) (Ai (Br (Bk Gg (Al Ak (Aa 2) Ab) Ab (nomark _)) (Ar (Bh (Bb (ZFr T) (hr.mono (by decide)) rfl T.Vz T.Tg T.Q6 pass0 (Ad (Bd (Dm (Aa 2) (Bw Ab) (Bw Ab))) Ag)))) Bs) (Ai (Ao 3 Cz.nd (Yn PySem.F.slot_str_join PySem.F.type_str_join ZFB Cd (Ad (Bd (Gx rfl (Fq (dn:=(Bc J1).names) (N0:=Kz) (N:= ["_law_x","_law_letters"]) (nt:=1) (caps:= [1])) (Eb (Bd (Dm (Aa 2) Ho (Bw Ab)))) (λC s₀ H₀ ex=>(Bl 0 (show (["_law_x","_law_letters"]:List Str).Nodup by decide +kernel))) (Dl (by decide)) (λC s₀ H₀ ex=>Hl) (λC s₀ H₀ ex=>(Al Ak (Aa 1) (Ae Aw (Aa 0) Ab))))) Ag))) (Ai (Br (Bk (Cm hr.units) (Ae Aw (Ae Di (Al Ak (Aa 2) Ab) Ab) Ab) Ab (nomark _)) (Ar (Ao 3 Cz.nd (Bd (Dm (Bd (Ae Aq (Al Ak (Bd (Du (Ad Cd (Ad Cd Ag)))) (Ae Aw (Ae Di (Al Ak (Aa 2) Ab) Ab) Ab)) (Bd (Dm (Aa 3) (Bw Ab) Ho)))) Ho (Bw Ab))))) Bs) (Ai (Br (Bk (Cm hr.units) (Ae Aw (Al Ak (Aa 2) Ab) Ab) Ab (nomark _)) (Ai (Ao 4 Cz.nd (Ae Aw (Ae Aq (Ae Aq (Yn PySem.F.slot_str_find PySem.F.type_str_find m_find (Aa 1) (Ad (Al Ak (Aa 3) Ab) Ag)) Ab) (Ae Aw (Al Ak (Aa 2) Ab) Ab)) Ab)) (Ai (Ao 5 Cz.nd (Bd (Ae Aq (Al Ak (Aa 1) (Aa 4)) (Bd (Dm (Aa 3) (Bw Ab) Ho))))) (Ai (W9 6 rfl Cz.nd (Fq (dn:=(Bc J1).names) (N0:=Kz) (N:= ["_law_k","_law_word"]) (nt:=1) (caps:= [3])) (Eu rfl T.Fg (Ad Ab Ag)) (λC s₀ H₀ ex=>(Bl 0 (show (["_law_k","_law_word"]:List Str).Nodup by decide +kernel))) (Dl (by decide)) (λC s₀ H₀ ex=>Hl) (λC s₀ H₀ ex=>(Bd (Dm (Aa 1) Ho (Bw (Ae Aq (Aa 0) Ab)))))) (Ai (Ao 6 Cz.nd (Gf (Ae Aq (Aa 6) (Bd (Gx rfl (Fq (dn:=(Bc J1).names) (N0:=Kz) (N:= ["_law_k","_law_other"]) (nt:=1) (caps:= [5])) (Eu rfl T.Fg (Ad Ab Ag)) (λC s₀ H₀ ex=>(Bl 0 (show (["_law_k","_law_other"]:List Str).Nodup by decide +kernel))) (Dl (by decide)) (λC s₀ H₀ ex=>Hl) (λC s₀ H₀ ex=>(Bd (Dm (Aa 1) Ho (Bw (Ae Aq (Aa 0) Ab)))))))))) (Ai (W9 6 rfl Cz.nd (Fq (dn:=(Bc J1).names) (N0:=Kz) (N:= ["_law_name"]) (nt:=1) (caps:= [])) (Eb (Aa 6)) (λC s₀ H₀ ex=>(Bl 0 (show (["_law_name"]:List Str).Nodup by decide +kernel))) (Dl (by decide)) (λC s₀ H₀ ex=>Hl) (λC s₀ H₀ ex=>(Al Ak (Bd (Du (Ad (Aa 0) (Ad Cd Ag)))) (Hn ZAr rfl T.Vk Wb (Ad (Jt (Cm hr.units) (Aa 0) Cd (nomark _)) Ag))))) (Ar (Bh (Ae Aq (Bd (Dm (Aa 6) (Bw (Ae Aw (Al Ak (Aa 2) Ab) Ab)) Ho)) (Bd (Dm (Aa 6) Ho (Bw (Ae Aw (Al Ak (Aa 2) Ab) Ab)))))))))))) Bs) (Ai (Ao 9 Cz.nd (Ae Aw (Ae Di (Al Ak (Aa 2) Ab) Ab) Ab)) (Ai (Ao 10 Cz.nd (Ae Aw (Al Ak (Aa 2) Ab) (Ae Aq (Aa 9) Ab))) (Ai (Ao 6 Cz.nd (Gf (Du Ag))) (Ai (Dr PassesOwn.never rfl (Eu rfl T.Fg (Ad Ab Ag)) (Bl 7 Cz.nd) (Ai (Ao 11 Cz.nd (Al Ak (Aa 1) (Ae Aw (Ae Aq (Al Ak (Aa 2) Ab) (Ae Ce Ab (Aa 7))) Ab))) (Ai (Ao 8 Cz.nd (Bd (Ae Aq (Bd (Ae Aq (Bd (Dm (Aa 3) Ho (Bw (Aa 10)))) (Aa 11))) (Bd (Dm (Aa 3) (Bw (Aa 10)) (Bw (Aa 9))))))) (Ai (Br (Bk (Cm hr.units) (Aa 8) Cd (nomark _)) (Ar (Ao 8 Cz.nd Cd)) Bs) (Ar (H8 (Hh PySem.F.slot_list_append PySem.F.type_list_append Gs (Aa 6) (Ad (Aa 8) Ag)))))))) (Ar (Bh (Aa 6)))))))))))))
theorem ZEx (T:Txt K mg t):FnOk P w K mg base CX0 1 t.Jm t.N7 ["_law_x"] (lF K Nz):=by
 refine Cj T.O8 ZER λcdv A outer s H E hr=> ?_
 exact (Ai (Br (Bk Gg (Aa 0) Ab (nomark _)) (Ar (Bh (Ae Ce (Ae Aw (Ae Di (Aa 0) Ab) (Ae Hs Ab Ab)) (Ae Aw (Aa 0) Ab)))) Bs) (Ar (Bh (Ae Ce (Ae Aw (Aa 0) Ab) (Ae Aw (Ae Di (Aa 0) Ab) Ab)))))
theorem G7 (T:Txt K mg t):FnOk P w K mg base CX0 1 t.K1 t.Nx ["_law_x","_law_cell"] (lF K Eo):=by
 refine Cj T.Qm ZC5 λcdv A outer s H E hr=> ?_
 exact (Ai (Br (Bk (Cm hr.units) (Ae Aw (Aa 0) Ab) Ab (nomark _)) (Ar (Bh Ab)) Bs) (Ai (Br (Hi (Qe (Bk (Cm hr.units) (Ae Aw (Aa 0) Ab) Ab (nomark _)) (Sg (Bk Gg (Aa 0) Ab (nomark _))))) (Ar (Bh (Ae Aw (Ae Di (Aa 0) Ab) (Ae Hs Ab Ab)))) Bs) (Ai (Br (Bk (Cm hr.units) (Ae Aw (Aa 0) Ab) Ab (nomark _)) (Ar (Bh (Ae Aw (Ae Ce (Aa 1) (Ae Aq (Ae Di (Aa 0) Ab) Ab)) (Ae Hs Ab Ab)))) Bs) (Ar (Bh (Ae Aw (Ae Di (Aa 0) Ab) Ab))))))
theorem ZFb (T:Txt K mg t):FnOk P w K mg base CX0 1 t.Ke t.Ms ["_law_rule_here"] (lF K Qa):=by
 refine Cj T.Ra ZGD λcdv A outer s H E hr=> ?_
 exact (Ar (Bh (Cq (ZBr rfl) rfl T.Z5 ZAt (Ad (Bd (Gx rfl (Fq (dn:=(Bc Py).names) (N0:=ZAQ) (N:= ["_law_begin","_law_stairs_here"]) (nt:=2) (caps:= [])) (Eb (Aa 0)) (λC s₀ H₀ ex=>(Pj rfl (Gq (Bl 0 (show (["_law_begin","_law_stairs_here"]:List Str).Nodup by decide +kernel)) (Gq (Bl 1 (show (["_law_begin","_law_stairs_here"]:List Str).Nodup by decide +kernel)) Oa)))) (Vv (Ja (Dl (by decide)) (Ja (Dl (by decide)) Vq))) (λC s₀ H₀ ex=>Hl) (λC s₀ H₀ ex=>(Cq (Ng rfl) rfl T.Mp Lf (Ad (Bd (Gx rfl (ZC7 (N:= ["_law_height","_law_many","_law_way"]) (nt:=3)) (Eb (Aa 1)) (λC s₀ H₀ ex=>(Pj rfl (Gq (Bl 0 (show (["_law_height","_law_many","_law_way"]:List Str).Nodup by decide +kernel)) (Gq (Bl 1 (show (["_law_height","_law_many","_law_way"]:List Str).Nodup by decide +kernel)) (Gq (Bl 2 (show (["_law_height","_law_many","_law_way"]:List Str).Nodup by decide +kernel)) Oa))))) (Vv (Ja (Dl (by decide)) (Ja (Dl (by decide)) (Ja (Dl (by decide)) Vq)))) (λC s₀ H₀ ex=>(U8 (Bk (Cm hr.units) (Aa 2) Cd (nomark _)))) (λC s₀ H₀ ex=>(Aa 1)))) Ag))))) Ag))))
theorem ZDO (T:Txt K mg t):FnOk P w K mg base CX0 2 t.Jy t.Nq ["_law_xs","_law_cell","_law_pumps"] (lF K Ss):=by
 refine Cj T.Ro Gu λcdv A outer s H E hr=> ?_
 exact (Ai (Ao 3 Gu.nd (Gf (Du Ag))) (Ai (Ao 4 Gu.nd Ab) (Ai (Dr PassesOwn.never rfl (Eu rfl T.Fg (Ad (Ae Aw (Al Ak (Aa 0) Ab) Ab) Ag)) (Bl 5 Gu.nd) (Ai (Ao 6 Gu.nd (Ae Aq (Aa 4) (Bb (G7 T) (hr.mono (by decide)) rfl T.Fe T.Et T.Em pass0 (Ad (Al Ak (Aa 0) (Ae Aq Ab (Ae Ce Ab (Aa 5)))) (Ad (Aa 1) Ag))))) (Ai (Ao 7 Gu.nd (Ae Aq Ab (Bb (G7 T) (hr.mono (by decide)) rfl T.Fe T.Et T.Em pass0 (Ad (Al Ak (Aa 0) (Ae Aq Ab (Ae Ce Ab (Aa 5)))) (Ad (Aa 1) Ag))))) (Ai (Ao 8 Gu.nd Cd) (Ai (Br (Hi (Qe (Rp (Aa 2)) (Sg (Bk (Cm hr.units) (Ae Aw (Ae Di (Al Ak (Aa 0) (Ae Aq Ab (Ae Ce Ab (Aa 5)))) Ab) Ab) Ab (nomark _))))) (Ar (Ao 8 Gu.nd Cd)) Bs) (Ai (H8 (Hh PySem.F.slot_list_append PySem.F.type_list_append Gs (Aa 3) (Ad (Ds (Ad (Aa 6) (Ad (Aa 7) (Ad (Aa 8) Ag)))) Ag))) (Ar (Ao 4 Gu.nd (Ae Aq (Aa 6) (Aa 7)))))))))) (Ar (Bh (Hn Im rfl T.Jg Iv (Ad (Aa 3) Ag)))))))
theorem ZDq (T:Txt K mg t):FnOk P w K mg base CX0 3 t.K4 t.Nh ["_law_xs","_law_cell","_law_year","_law_pumps"] (lF K Q0):=by
 refine Cj T.Rf Le λcdv A outer s H E hr=> ?_
 exact (Ai (Ao 4 Le.nd (Gf (Du Ag))) (Ai (Ao 5 Le.nd Ab) (Ai (Dr PassesOwn.never rfl (Eu rfl T.Fg (Ad Ab Ag)) (Bl 6 Le.nd) (Ar (Br (Hi (Nr (Bk (Cm hr.units) (Aa 6) Ab (nomark _)) (Lq (Hi (Qe (Bk Gg (Ae Aw (Al Ak (Aa 0) (Aa 6)) Ab) Ab (nomark _)) (Sg (Bk U0 (Aa 5) (Aa 2) (nomark _)))))))) (Ai (H8 (Hh PySem.F.slot_list_append PySem.F.type_list_append Gs (Aa 4) (Ad (Ds (Ad (Aa 5) (Ad (Bb (ZDO T) (hr.mono (by decide)) rfl T.V5 T.V3 T.T6 pass0 (Ad (Bd (Dm (Aa 0) (Bw (Ae Aq Ab (Ae Ce Ab (Aa 6)))) (Bw (Ae Aq Ab (Ae Ce Ab (Aa 6)))))) (Ad (Aa 1) (Ad (Aa 3) Ag)))) Ag))) Ag))) (Ar (Ao 5 Le.nd (Ae Aq (Ae Aq (Aa 5) Ab) (Ae Aw (Ae Di (Al Ak (Aa 0) (Aa 6)) Ab) Ab))))) Bs))) (Ar (Bh (Hn Im rfl T.Jg Iv (Ad (Aa 4) Ag)))))))
theorem ZEs (T:Txt K mg t):FnOk P w K mg base CX0 4 t.Ky t.M5 ["_law_names_here","_law_many","_law_k","_law_year","_law_cell"] (lF K Hq):=by
 refine Cj T.Qn Gp λcdv A outer s H E hr=> ?_
 exact (Ai (Ao 5 Gp.nd (Bd (Bb (Ol T) (hr.mono (by decide)) rfl T.Ku T.Jv T.Jd pass0 (Ad (Aa 4) (Ad (Aa 2) (Ad Ab Ag)))))) (Ai (Ao 6 Gp.nd Cd) (Ai (Br (Bk Gg (Ae Aw (Al Ak (Aa 5) Ab) (Ae M8 (Aa 1) (Aa 2))) Ab (nomark _)) (Ar (Ao 6 Gp.nd (Al Ak (Aa 0) (Ae Aq (Aa 2) (Ae Aw (Al Ak (Aa 5) Ab) (Ae M8 (Aa 1) (Aa 2))))))) Bs) (Ai (Ao 7 Gp.nd (Ds (Ad (Al Ak (Aa 0) (Aa 2)) (Ad (Aa 6) (Ad (Ae Aw (Al Ak (Aa 5) Ab) Ab) Ag))))) (Ai (Br (Bk (Cm hr.units) (Ae Aw (Al Ak (Aa 5) Ab) Ab) Ab (nomark _)) (Ar (Bh (Ae Aq (Ae Aq (Ds (Ad Cd Ag)) (Aa 7)) (Ds (Ad (Bb (G7 T) (hr.mono (by decide)) rfl T.Fe T.Et T.Em pass0 (Ad (Al Ak (Aa 5) Ab) (Ad (Aa 4) Ag))) Ag))))) Bs) (Ai (Br (Bk (Cm hr.units) (Ae Aw (Al Ak (Aa 5) Ab) Ab) Ab (nomark _)) (Ar (Bh (Ae Aq (Ae Aq (Ds (Ad Cd Ag)) (Aa 7)) (Ds (Ad (Bb (G7 T) (hr.mono (by decide)) rfl T.Fe T.Et T.Em pass0 (Ad (Al Ak (Aa 5) Ab) (Ad (Aa 4) Ag))) (Ad (Bb (G7 T) (hr.mono (by decide)) rfl T.Fe T.Et T.Em pass0 (Ad (Al Ak (Aa 5) Ab) (Ad (Aa 4) Ag))) Ag)))))) Bs) (Ai (Ao 8 Gp.nd (Uw (Jt Gg (Aa 1) Ab (nomark _)) (We (Jt Gg (Ae Aw (Al Ak (Aa 5) Ab) Ab) Ab (nomark _))))) (Ai (Ao 9 Gp.nd (Bb (ZDq T) (hr.mono (by decide)) rfl T.Tq T.Vd T.Q8 pass0 (Ad (Bd (Dm (Aa 5) (Bw Ab) (Bw Ab))) (Ad (Aa 4) (Ad (Aa 3) (Ad (Aa 8) Ag)))))) (Ai (Ao 10 Gp.nd ZBO) (Ai (Br (Rp (Aa 8)) (Ai (Ao 11 Gp.nd (Ae Aw (Ae Aq (Ae Aq (Aa 2) Ab) (Ae Aw (Al Ak (Aa 5) Ab) (Ae M8 (Aa 1) Ab))) (Aa 1))) (Ar (Ao 10 Gp.nd (Ds (Ad (Al Ak (Aa 0) (Aa 11)) (Ad (Ae Aq Ab (Ae Aw (Al Ak (Aa 5) Ab) Ab)) (Ad (Ae Aq (Bb (ZFb T) (hr.mono (by decide)) rfl T.Wk T.Vi T.Rh pass0 (Ad (Aa 9) Ag)) (Bb (ZEx T) (hr.mono (by decide)) rfl T.Wo T.U7 T.Ma pass0 (Ad (Al Ak (Aa 5) Ab) Ag))) Ag))))))) Bs) (Ar (Bh (Ae Aq (Ae Aq (Ds (Ad Cd Ag)) (Aa 7)) (Ds (Ad (Bb (G7 T) (hr.mono (by decide)) rfl T.Fe T.Et T.Em pass0 (Ad (Al Ak (Aa 5) Ab) (Ad (Aa 4) Ag))) (Ad (Aa 9) (Ad (Aa 10) Ag)))))))))))))))))
theorem ZGM (T:Txt K mg t):FnOk P w K mg base CX0 5 t.K5 t.Mx ["_law_script","_law_at"] (lF K Mm):=by
 refine Cj T.R7 Lb λcdv A outer s H E hr=> ?_
 exact (Ai (Ao 2 Lb.nd (Ae Aq Ab (Ae Aw (Bb (Hr T) (hr.mono (by decide)) rfl T.G9 T.Gj T.Fx pass0 (Ad (Aa 0) (Ad (Aa 1) Ag))) Ab))) (Ai (Ao 3 Lb.nd (Ae Aq Ab (Ae Aw (Bb (Hr T) (hr.mono (by decide)) rfl T.G9 T.Gj T.Fx pass0 (Ad (Aa 0) (Ad (Ae Aq (Aa 1) Ab) Ag))) Ab))) (Ai (Ao 4 Lb.nd (Bd (Bb (ZCf T) (hr.mono (by decide)) rfl T.Ue T.Um T.J8 pass0 (Ad (Bb (Hr T) (hr.mono (by decide)) rfl T.G9 T.Gj T.Fx pass0 (Ad (Aa 0) (Ad (Ae Aq (Aa 1) Ab) Ag))) Ag)))) (Ai (ZDK (W9 5 rfl Lb.nd (Fq (dn:=(Bc Pu).names) (N0:=ZAx) (N:= ["_law_k","_law_script","_law_at","_law_many","_law_year","_law_names_here"]) (nt:=1) (caps:= [0,1,2,3,4])) (Eu rfl T.Fg (Ad (Aa 2) Ag)) (λC s₀ H₀ ex=>(Bl 0 (show (["_law_k","_law_script","_law_at","_law_many","_law_year","_law_names_here"]:List Str).Nodup by decide +kernel))) (Dl (by decide)) (λC s₀ H₀ ex=>Hl) (λC s₀ H₀ ex=>(Bb (ZEs T) (hr.mono (by decide)) rfl T.Tf T.Vt T.Lk pass0 (Ad (Aa 5) (Ad (Aa 3) (Ad (Aa 0) (Ad (Aa 4) (Ad (Bb (Hr T) (hr.mono (by decide)) rfl T.G9 T.Gj T.Fx pass0 (Ad (Aa 1) (Ad (Ae Aq (Ae Aq (Aa 2) Ab) (Aa 0)) Ag))) Ag))))))))) (Ar (Bh (Ds (Ad (Aa 3) (Ad (Hn Im rfl T.Jg Iv (Ad (Aa 5) Ag)) Ag)))))))))
theorem Z7 (T:Txt K mg t):FnOk P w K mg base CX0 1 t.Jz t.N8 ["_law_house_here","_law_page"] (lF K Np):=by
 refine Cj T.Rr Sd λcdv A outer s H E hr=> ?_
 exact (Ai (Ao 2 Sd.nd Ab) (Ai (Dr PassesOwn.never rfl (Eu rfl T.Fg (Ad (Cq K8 rfl T.Jl Jo (Ad (Aa 1) Ag)) Ag)) (Bl 3 Sd.nd) (Ar (Br (Bk (Cm hr.units) (Al Ak (Al Ak (Al Ak (Aa 0) Ab) (Aa 3)) Ab) Cd (nomark _)) (Ar (Ao 2 Sd.nd (Ae Aq (Ae Aq (Aa 2) (Al Ak (Al Ak (Aa 1) (Aa 3)) Ab)) (Al Ak (Al Ak (Aa 1) (Aa 3)) Ab)))) Bs))) (Ar (Bh (Aa 2)))))
theorem ZBf (T:Txt K mg t):FnOk P w K mg base CX0 2 t.Kf t.Mf ["_law_place_here","_law_xs","_law_cell"] (lF K Ek):=by
 refine Cj T.Qy Gb λcdv A outer s H E hr=> ?_
 exact (Ai (Ao 3 Gb.nd (Bb (G7 T) (hr.mono (by decide)) rfl T.Fe T.Et T.Em pass0 (Ad (Al Ak (Aa 1) Ab) (Ad (Aa 2) Ag)))) (Ai (Br (Bk (Cm hr.units) (Al Ak (Aa 0) Ab) Cd (nomark _)) (Ar (Bh (Ds (Ad (Aa 3) (Ad Ab (Ad Ab (Ad (Aa 3) (Ad Ab (Ad Ab Ag))))))))) Bs) (Ai (Br (Bk (Cm hr.units) (Al Ak (Aa 0) Ab) Cd (nomark _)) (Ai (Ao 4 Gb.nd (Al Ak (Aa 0) Ab)) (Ai (Br (Bk Gg (Ae Aw (Al Ak (Aa 1) Ab) Ab) Ab (nomark _)) (Ar (Ao 4 Gb.nd (Ae Aw (Ae Di (Al Ak (Aa 1) Ab) Ab) (Ae Aq (Al Ak (Aa 0) Ab) Ab)))) Bs) (Ar (Bh (Ds (Ad (Ae Aq (Aa 4) (Aa 3)) (Ad (Aa 4) (Ad Ab (Ad (Aa 3) (Ad Ab (Ad Ab Ag))))))))))) Bs) (Ai (Ao 5 Gb.nd (Bb (G7 T) (hr.mono (by decide)) rfl T.Fe T.Et T.Em pass0 (Ad (Al Ak (Aa 1) Ab) (Ad (Aa 2) Ag)))) (Ai (Ao 6 Gb.nd (Cq (Sv rfl) rfl T.Qi Oz (Ad (Al Ak (Aa 0) Ab) (Ad (Bb (G7 T) (hr.mono (by decide)) rfl T.Fe T.Et T.Em pass0 (Ad (Al Ak (Aa 1) Ab) (Ad (Aa 2) Ag))) Ag)))) (Ai (Br (Bk Gg (Aa 5) Ab (nomark _)) (Ar (Ao 6 Gb.nd (Al Ak (Aa 0) Ab))) Bs) (Ai (Ao 7 Gb.nd Ab) (Ai (Br (Bk ZFj (Al Ak (Aa 0) Ab) ZBO (nomark _)) (Ar (Ao 7 Gb.nd (Cq (Sv rfl) rfl T.Qi Oz (Ad (Al Ak (Al Ak (Aa 0) Ab) Ab) (Ad (Bb (G7 T) (hr.mono (by decide)) rfl T.Fe T.Et T.Em pass0 (Ad (Al Ak (Aa 1) Ab) (Ad (Aa 2) Ag))) Ag))))) Bs) (Ai (Ao 8 Gb.nd (Cq (Sv rfl) rfl T.Qi Oz (Ad (Aa 6) (Ad (Ae Aw (Al Ak (Aa 1) Ab) Ab) Ag)))) (Ar (Bh (Ds (Ad (Ae M8 (Ae Aq (Ae Aq (Ae Aq (Aa 5) (Aa 3)) (Aa 7)) (Aa 6)) (Aa 8)) (Ad Ab (Ad (Aa 5) (Ad (Aa 3) (Ad (Aa 7) (Ad (Aa 6) Ag))))))))))))))))))
theorem ZEo (T:Txt K mg t):FnOk P w K mg base CX0 3 t.Kd t.Mh ["_law_house_here","_law_script","_law_at"] (lF K Mv):=by
 refine Cj T.Sw Ij λcdv A outer s H E hr=> ?_
 exact (Ai (Ao 3 Ij.nd (Gf (Du Ag))) (Ai (Dr PassesOwn.never rfl (Eu rfl T.Fg (Ad (Ae Aw (Bb (Hr T) (hr.mono (by decide)) rfl T.G9 T.Gj T.Fx pass0 (Ad (Aa 1) (Ad (Aa 2) Ag))) Ab) Ag)) (Bl 4 Ij.nd) (Ai (Ao 5 Ij.nd (Bb (Hr T) (hr.mono (by decide)) rfl T.G9 T.Gj T.Fx pass0 (Ad (Aa 1) (Ad (Ae Aq (Ae Aq (Aa 2) Ab) (Aa 4)) Ag)))) (Ai (Ao 6 Ij.nd (Gf (Du Ag))) (Ai (Ao 7 Ij.nd (Bd (Bb (Ol T) (hr.mono (by decide)) rfl T.Ku T.Jv T.Jd pass0 (Ad (Aa 5) (Ad (Ae Aq (Ae Ce Ab (Aa 4)) Ab) (Ad (Ae Ce Ab (Cq K8 rfl T.Jl Jo (Ad (Al Ak (Aa 0) Ab) Ag))) Ag)))))) (Ai (Dr PassesOwn.never rfl (Eu rfl T.Fg (Ad (Cq K8 rfl T.Jl Jo (Ad (Al Ak (Aa 0) Ab) Ag)) Ag)) (Bl 8 Ij.nd) (Ar (H8 (Hh PySem.F.slot_list_append PySem.F.type_list_append Gs (Aa 6) (Ad (Bb (ZBf T) (hr.mono (by decide)) rfl T.Tw T.Uy T.Gn pass0 (Ad (Al Ak (Al Ak (Aa 0) Ab) (Aa 8)) (Ad (Bd (Dm (Aa 7) (Bw (Ae Ce Ab (Aa 8))) (Bw (Ae Aq (Ae Ce Ab (Aa 8)) Ab)))) (Ad (Aa 5) Ag)))) Ag))))) (Ar (H8 (Hh PySem.F.slot_list_append PySem.F.type_list_append Gs (Aa 3) (Ad (Hn Im rfl T.Jg Iv (Ad (Aa 6) Ag)) Ag))))))))) (Ar (Bh (Aa 3)))))
theorem ZAK (T:Txt K mg t):FnOk P w K mg base CX0 2 t.Jx t.Nk ["_law_house_here","_law_cell"] (lF K Mw):=by
 refine Cj T.Rz Gv λcdv A outer s H E hr=> ?_
 exact (Ai (Ao 2 Gv.nd (Gf (Du Ag))) (Ai (Ao 3 Gv.nd (Gf (Du Ag))) (Ai (Ao 4 Gv.nd (Bd (Bb (Ol T) (hr.mono (by decide)) rfl T.Ku T.Jv T.Jd pass0 (Ad (Aa 1) (Ad Ab (Ad (Ae Ce Ab (Cq K8 rfl T.Jl Jo (Ad (Al Ak (Aa 0) Ab) Ag))) Ag)))))) (Ai (Dr PassesOwn.never rfl (Eu rfl T.Fg (Ad (Cq K8 rfl T.Jl Jo (Ad (Al Ak (Aa 0) Ab) Ag)) Ag)) (Bl 5 Gv.nd) (Ai (Ao 6 Gv.nd (Al Ak (Al Ak (Aa 0) Ab) (Aa 5))) (Ai (Ao 7 Gv.nd (Bd (Dm (Aa 4) (Bw (Ae Ce Ab (Aa 5))) (Bw (Ae Aq (Ae Ce Ab (Aa 5)) Ab))))) (Ai (Ao 8 Gv.nd Ab) (Ai (Br (Bk (Cm hr.units) (Al Ak (Aa 6) Ab) Cd (nomark _)) (Ar (Ao 8 Gv.nd (Cq (Sv rfl) rfl T.Qi Oz (Ad (Al Ak (Aa 6) Ab) (Ad (Al Ak (Bd (Du (Ad (Ae Aw (Al Ak (Aa 7) Ab) Ab) (Ad (Ae Aw (Ae Aq (Aa 1) (Al Ak (Aa 7) Ab)) (Ae Hs Ab Ab)) (Ad (Al Ak (Aa 6) Ab) (Ad Ab Ag)))))) (Ae Aw (Al Ak (Aa 7) Ab) Ab)) Ag))))) Bs) (Ai (H8 (Hh PySem.F.slot_list_append PySem.F.type_list_append Gs (Aa 2) (Ad (Aa 8) Ag))) (Ar (H8 (Hh PySem.F.slot_list_append PySem.F.type_list_append Gs (Aa 3) (Ad (Hn Im rfl T.Jg Iv (Ad (Bd (Gx rfl (Fq (dn:=(Bc Oo).names) (N0:=ZBE) (N:= ["_law_x","_law_cell"]) (nt:=1) (caps:= [1])) (Eb (Bd (Dm (Aa 7) (Bw Ab) (Bw Ab)))) (λC s₀ H₀ ex=>(Bl 0 (show (["_law_x","_law_cell"]:List Str).Nodup by decide +kernel))) (Dl (by decide)) (λC s₀ H₀ ex=>Hl) (λC s₀ H₀ ex=>(Al Ak (Bd (Du (Ad Ab (Ad (Ae Aw (Ae Di (Aa 0) Ab) Ab) (Ad (Ae Aw (Ae Ce (Ae Aq (Aa 1) Ab) (Ae Aq (Ae Di (Aa 0) Ab) Ab)) (Ae Hs Ab Ab)) Ag))))) (Ae Aw (Aa 0) Ab))))) Ag)) Ag)))))))))) (Ar (Bh (Ds (Ad (Hn Im rfl T.Jg Iv (Ad (Aa 2) Ag)) (Ad (Hn Im rfl T.Jg Iv (Ad (Aa 3) Ag)) Ag)))))))))
theorem Z9 (T:Txt K mg t):FnOk P w K mg base CX0 1 t.Jp t.O6 ["_law_state_here"] (lF K O5):=by
 refine Cj T.Ql Ir λcdv A outer s H E hr=> ?_
 exact (Ai (Ao 1 Ir.nd Ab) (Ai (Dr PassesOwn.never rfl (Eb (Al Ak (Aa 0) Ab)) (Bl 2 Ir.nd) (Ar (Ao 1 Ir.nd (Ae Aq (Aa 1) (Aa 2))))) (Ai (Dr PassesOwn.never rfl (Eb (Al Ak (Aa 0) Ab)) (Bl 3 Ir.nd) (Ar (Dr PassesOwn.never rfl (Eb (Aa 3)) (Bl 4 Ir.nd) (Ar (Ao 1 Ir.nd (Ae Aq (Aa 1) (Aa 4))))))) (Ar (Bh (Aa 1))))))
theorem ZAo (T:Txt K mg t):FnOk P w K mg base CX0 1 t.Kg t.Lx ["_law_found"] (lF K Lg):=by
 refine Cj T.Qv ZDG λcdv A outer s H E hr=> ?_
 exact (Ar (Bh (Uw (Cq ZA9 rfl T.ZAs ZBU (Ad (Aa 0) (Ad (ZAB rfl T.Vk Wb) Ag))) (We (ZCv (Cq ZA9 rfl T.ZAs ZBU (Ad (Aa 0) (Ad (ZAB rfl T.ZCw ZCu) Ag))))))))
theorem Zi (T:Txt K mg t):FnOk P w K mg base CX0 1 t.Jj t.Mg ["house","page"] (lF K Lw):=by
 refine Cj T.Ri ZEz λcdv A outer s H E hr=> ?_
 exact (Ar (Bh (Cq (Ng rfl) rfl T.Mp Lf (Ad (Bd (Gx rfl (Fq (dn:=(Bc Qp).names) (N0:=ZAv) (N:= ["place","row"]) (nt:=2) (caps:= [])) (ZCj rfl T.ZBm (Ad (Al Ak (Aa 0) (Nv (v:=(.int 1)) rfl T.Ni ⟨_,rfl⟩ (λ_ _=>rfl))) (Ad (Aa 1) Ag))) (λC s₀ H₀ ex=>(Pj rfl (Gq (Bl 0 (show (["place","row"]:List Str).Nodup by decide +kernel)) (Gq (Bl 1 (show (["place","row"]:List Str).Nodup by decide +kernel)) Oa)))) (Vv (Ja (Dl (by decide)) (Ja (Dl (by decide)) Vq))) (λC s₀ H₀ ex=>(U8 (Bk (Cm hr.units) (Al Ak (Aa 0) (Nv (v:=(.int 2)) rfl T.Ln ⟨_,rfl⟩ (λ_ _=>rfl))) (Nv (v:=(.str "sea")) rfl T.Lz ⟨_,rfl⟩ (λ_ _=>rfl)) (nomark _)))) (λC s₀ H₀ ex=>(Ae Aq (Al Ak (Aa 1) (Nv (v:=(.int 2)) rfl T.Nt ⟨_,rfl⟩ (λ_ _=>rfl))) (Al Ak (Aa 1) (Nv (v:=(.int 3)) rfl T.M6 ⟨_,rfl⟩ (λ_ _=>rfl))))))) Ag))))
theorem Qt (T:Txt K mg t):FnOk P w K mg base CX0 1 t.Kc t.Mi ["state"] (lF K Il):=by
 refine Cj T.Qo V8 λcdv A outer s H E hr=> ?_
 exact (Ai (ZDz (Aa 0) (Pj rfl (Gq (Bl 1 V8.nd) (Gq (Bl 2 V8.nd) Oa)))) (Ar (Bh (Ae Aq (Cq (Ng rfl) rfl T.Mp Lf (Ad (Aa 1) Ag)) (Cq (Ng rfl) rfl T.Mp Lf (Ad (Bd (Gx rfl (Fq (dn:=(Bc O7).names) (N0:=ZAu) (N:= ["ahead"]) (nt:=1) (caps:= [])) (Eb (Aa 2)) (λC s₀ H₀ ex=>(Bl 0 (show (["ahead"]:List Str).Nodup by decide +kernel))) (Dl (by decide)) (λC s₀ H₀ ex=>Hl) (λC s₀ H₀ ex=>(Cq (Ng rfl) rfl T.Mp Lf (Ad (Aa 0) Ag))))) Ag))))))
theorem ZB0 (T:Txt K mg t):FnOk P w K mg base CX0 6 t.I8 t.Ve ["_law_script"] (lF K Je):=by
 refine Cj T.ZCt Hd λcdv A outer s H E hr=> ?_
 exact (Ai (Ao 1 Hd.nd (Bb (ZGM T) (hr.mono (by decide)) rfl T.Uu T.V1 T.Su pass0 (Ad (Aa 0) (Ad Ab Ag)))) (Ai (Ao 2 Hd.nd (Bb (ZAK T) (hr.mono (by decide)) rfl T.Rj T.Ow T.M7 pass0 (Ad (Aa 1) (Ad (Bb (Hr T) (hr.mono (by decide)) rfl T.G9 T.Gj T.Fx pass0 (Ad (Aa 0) (Ad Ab Ag))) Ag)))) (Ai (Ao 3 Hd.nd (Bd (Bb (ZEo T) (hr.mono (by decide)) rfl T.Vu T.Uz T.Ry pass0 (Ad (Aa 1) (Ad (Aa 0) (Ad Ab Ag)))))) (Ai (Ao 4 Hd.nd (Bb (Qt T) (hr.mono (by decide)) rfl T.K3 T.Kw T.Ii pass0 (Ad (Aa 2) Ag))) (Ai (Br (Hi (Nr (ZAi (Rp (Bb (ZAo T) (hr.mono (by decide)) rfl T.Qu T.T3 T.N5 pass0 (Ad (Aa 4) Ag)))) (Lq (Bk (La hr.units) (Aa 4) (Bb (Z9 T) (hr.mono (by decide)) rfl T.Q5 T.Qk T.M4 pass0 (Ad (Aa 2) Ag)) (nomark _))))) (Ar (Bh Vg)) Bs) (Ai (Dr PassesOwn.never rfl (Eb (Aa 3)) (Bl 5 Hd.nd) (Ai (Ao 6 Hd.nd (Bb (Zi T) (hr.mono (by decide)) rfl T.R4 T.Om T.Mr pass0 (Ad (Aa 1) (Ad (Aa 5) Ag)))) (Ar (Br (Hi (Nr (ZAi (Rp (Bb (ZAo T) (hr.mono (by decide)) rfl T.Qu T.T3 T.N5 pass0 (Ad (Aa 6) Ag)))) (Lq (Bk (La hr.units) (Aa 6) (Bb (Z7 T) (hr.mono (by decide)) rfl T.Pa T.Pg T.Mu pass0 (Ad (Aa 1) (Ad (Aa 5) Ag))) (nomark _))))) (Ar (Bh Vg)) Bs)))) (Ai (Dr PassesOwn.never rfl (Eb (Bd (ZCZ (Aa 3) (ZDS ZET Ab)))) (Bl 5 Hd.nd) (Ar (Br (Hi (Nr (Bk (La hr.units) (Bb (Zi T) (hr.mono (by decide)) rfl T.R4 T.Om T.Mr pass0 (Ad (Aa 1) (Ad (Aa 5) Ag))) (Bb (Z7 T) (hr.mono (by decide)) rfl T.Pa T.Pg T.Mu pass0 (Ad (Aa 1) (Ad (Aa 5) Ag))) (nomark _)) (Lq (Bk (La hr.units) (Bb (Qt T) (hr.mono (by decide)) rfl T.K3 T.Kw T.Ii pass0 (Ad (Aa 2) Ag)) (Aa 4) (nomark _))))) (Ar (Bh Vg)) Bs))) (Ai (Ao 7 Hd.nd (Bb (ZAK T) (hr.mono (by decide)) rfl T.Rj T.Ow T.M7 pass0 (Ad (Aa 1) (Ad (Bb (Hr T) (hr.mono (by decide)) rfl T.G9 T.Gj T.Fx pass0 (Ad (Aa 0) (Ad Ab Ag))) Ag)))) (Ar (Bh (Uw (Jt (Cm hr.units) (Bb (Qt T) (hr.mono (by decide)) rfl T.K3 T.Kw T.Ii pass0 (Ad (Aa 7) Ag)) (Bb (Z9 T) (hr.mono (by decide)) rfl T.Q5 T.Qk T.M4 pass0 (Ad (Aa 7) Ag)) (nomark _)) (We (Jt (Cm hr.units) (Bb (Qt T) (hr.mono (by decide)) rfl T.K3 T.Kw T.Ii pass0 (Ad (Aa 2) Ag)) (Aa 4) (nomark _))))))))))))))
end
def FX (K:PySem.W.Frag) (mg:Str->Option Value) (n:Str) (st:Stmt):Prop:=∃f d,Fun K n n st f d/\mg n=some (.ref f)/\PySem.W.keepIn K (.ref f)=true
theorem ZFA {K:PySem.W.Frag} {h:Heap} {mg:Str->Option Value} {n:Str} {st:Stmt} {f:Addr} {oc:Value} {od an:Option Addr} {sl:Array (Option Value)} {kV dc pm cd ct:Value} (X:K.In h) (G:h.Ns mainGlobals mg) (a:PySem.W.nsIn K mainGlobals n=some (some (.ref f)))
  (l:K.lookup f=some ⟨oc,od,.func (PySem.W.fnOf n n (Hw st) (Ge st) (Bc st) .none kV dc pm an cd ct),sl⟩) (c:PySem.W.codeIn K cd n=true) (k:PySem.W.keepIn K (.ref f)=true):FX K mg n st:=⟨f,_,Wj (st:=st) l c k,PySem.W.mg_of X G a,k⟩
theorem all_mk {l:PySem.W.OpenLaw} {w:World} {K:PySem.W.Frag} {h:Heap} {mg:Str->Option Value} {fa:Addr} (X:K.In h) (G:h.Ns mainGlobals mg) (hfa:mg "law"=some (.ref fa))
  {I8:Addr} {ZGd Wr:Option Addr} {ZGe:Array (Option Value)} {ZGf Ws Wt Wu T7 Wv:Value}
  {Qf:Tok}
  {T4:Tok}
  {Ru:Tok}
  {S8:Tok}
  {Oc:Tok}
  (T8:PySem.W.nsIn K mainGlobals "law"=some (some (.ref I8)))
  (T9:K.lookup I8=some ⟨ZGf,ZGd,.func (PySem.W.fnOf "law" "law" (Hw Eg) (Ge Eg) (Bc Eg) .none Ws Wt Wu Wr T7 Wv),ZGe⟩)
  (Tc:PySem.W.codeIn K T7 "law"=true)
  (Ju:PySem.W.keepIn K (.ref I8)=true)
  (Ww:FX K mg "_law_cell_at" Th)
  (Wx:FX K mg "_law_free_names" N6)
  (Wy:FX K mg "_law_stream" Uq)
  (Wz:FX K mg "_law_names" J1)
  (X7:FX K mg "_law_more" Vx)
  (Xa:FX K mg "_law_number" Ul)
  (Xb:FX K mg "_law_pumped" Py)
  (Xc:FX K mg "_law_stairs" W7)
  (Xd:FX K mg "_law_rule" W0)
  (Xe:FX K mg "_law_place" Vr)
  (Xf:FX K mg "_law_house" Pu)
  (Xg:FX K mg "_law_out" Wg)
  (Xh:FX K mg "_law_page_row" Tt)
  (Xi:FX K mg "_law_pages" Td)
  (Xj:FX K mg "_law_state" Oo)
  (Xk:FX K mg "_law_sum" V4)
  (Xl:FX K mg "_law_whole" Tv)
  (Xm:FX K mg "gone" Qp)
  (Xo:FX K mg "water" O7)
  (Xp:PySem.W.nsIn K mainGlobals "bool"=some none)
  (Xq:PySem.W.nsIn K mainGlobals "int"=some none)
  (Xr:PySem.W.nsIn K mainGlobals "isinstance"=some none)
  (Xu:PySem.W.nsIn K mainGlobals "len"=some none)
  (Xv:PySem.W.nsIn K mainGlobals "max"=some none)
  (Xw:PySem.W.nsIn K mainGlobals "min"=some none)
  (Xx:PySem.W.nsIn K mainGlobals "range"=some none)
  (Xy:PySem.W.nsIn K mainGlobals "sum"=some none)
  (Xz:PySem.W.nsIn K mainGlobals "tuple"=some none)
  (Y0:PySem.W.nsIn K mainGlobals "zip"=some none)
  (Ln:PySem.W.nsIn K mainGlobals "DOWN"=some (some (.int 2 Qf)))
  (M6:PySem.W.nsIn K mainGlobals "LET"=some (some (.int 3 T4)))
  (Ni:PySem.W.nsIn K mainGlobals "PLACES"=some (some (.int 1 Ru)))
  (Lz:PySem.W.nsIn K mainGlobals "SEA"=some (some (.str "sea" S8)))
  (Nt:PySem.W.nsIn K mainGlobals "SPILLED"=some (some (.int 2 Oc))):
  ∃fd:FuncData,(∀(s:Shared) (v:Value),BindsTo s fd ⟨[v],[]⟩ [("_law_script",v)])/\∀base:Heap,K.In base->base.Ns mainGlobals mg->FnOk l.prog w K mg base CX0 6 fa fd ["_law_script"] (lF K Je):=by
 have e:=hfa.symm.trans (PySem.W.mg_of X G T8);cases e;obtain ⟨Js,Li,Qs,G9,Gj⟩:=Ww;obtain ⟨Jk,Mt,Rt,Vz,Tg⟩:=Wx;obtain ⟨K7,Ny,Oj,Ku,Jv⟩:=Wy;obtain ⟨Jr,Lp,Ov,Ue,Um⟩:=Wz;obtain ⟨Jm,N7,O8,Wo,U7⟩:=X7;obtain ⟨K1,Nx,Qm,Fe,Et⟩:=Xa;obtain ⟨Ke,Ms,Ra,Wk,Vi⟩:=Xb;obtain ⟨Jy,Nq,Ro,V5,V3⟩:=Xc;obtain ⟨K4,Nh,Rf,Tq,Vd⟩:=Xd;obtain ⟨Ky,M5,Qn,Tf,Vt⟩:=Xe;obtain ⟨K5,Mx,R7,Uu,V1⟩:=Xf;obtain ⟨Jz,N8,Rr,Pa,Pg⟩:=Xg;obtain ⟨Kf,Mf,Qy,Tw,Uy⟩:=Xh
 obtain ⟨Kd,Mh,Sw,Vu,Uz⟩:=Xi;obtain ⟨Jx,Nk,Rz,Rj,Ow⟩:=Xj;obtain ⟨Jp,O6,Ql,Q5,Qk⟩:=Xk;obtain ⟨Kg,Lx,Qv,Qu,T3⟩:=Xl;obtain ⟨Jj,Mg,Ri,R4,Om⟩:=Xm;obtain ⟨Kc,Mi,Qo,K3,Kw⟩:=Xo
 have T:Txt K mg ⟨Js,Li,Jk,Mt,K7,Ny,Jr,Lp,Jm,N7,K1,Nx,Ke,Ms,Jy,Nq,K4,Nh,Ky,M5,K5,Mx,Jz,N8,Kf,Mf,Kd,Mh,Jx,Nk,Jp,O6,Kg,Lx,Jj,Mg,Kc,Mi,fa,PySem.W.fnOf "law" "law" (Hw Eg) (Ge Eg) (Bc Eg) .none Ws Wt Wu Wr T7 Wv,Qf,T4,Ru,S8,Oc⟩:=⟨Qs,Qs.binds (ps:= ["_law_script","_law_k"]) (λ_ _ _ _ _ _ us hl=>match us,hl with | [_,_],_=>rfl),G9,Gj,
  Rt,Rt.binds (ps:= ["_law_xs"]) (λ_ _ _ _ _ _ us hl=>match us,hl with | [_],_=>rfl),Vz,Tg,
  Oj,Oj.binds (ps:= ["_law_cell","_law_k","_law_many"]) (λ_ _ _ _ _ _ us hl=>match us,hl with | [_,_,_],_=>rfl),Ku,Jv,
  Ov,Ov.binds (ps:= ["_law_cell"]) (λ_ _ _ _ _ _ us hl=>match us,hl with | [_],_=>rfl),Ue,Um,
  O8,O8.binds (ps:= ["_law_x"]) (λ_ _ _ _ _ _ us hl=>match us,hl with | [_],_=>rfl),Wo,U7,
  Qm,Qm.binds (ps:= ["_law_x","_law_cell"]) (λ_ _ _ _ _ _ us hl=>match us,hl with | [_,_],_=>rfl),Fe,Et,
  Ra,Ra.binds (ps:= ["_law_rule_here"]) (λ_ _ _ _ _ _ us hl=>match us,hl with | [_],_=>rfl),Wk,Vi,
  Ro,Ro.binds (ps:= ["_law_xs","_law_cell","_law_pumps"]) (λ_ _ _ _ _ _ us hl=>match us,hl with | [_,_,_],_=>rfl),V5,V3,
  Rf,Rf.binds (ps:= ["_law_xs","_law_cell","_law_year","_law_pumps"]) (λ_ _ _ _ _ _ us hl=>match us,hl with | [_,_,_,_],_=>rfl),Tq,Vd,
  Qn,Qn.binds (ps:= ["_law_names_here","_law_many","_law_k","_law_year","_law_cell"]) (λ_ _ _ _ _ _ us hl=>match us,hl with | [_,_,_,_,_],_=>rfl),Tf,Vt,
  R7,R7.binds (ps:= ["_law_script","_law_at"]) (λ_ _ _ _ _ _ us hl=>match us,hl with | [_,_],_=>rfl),Uu,V1,
  Rr,Rr.binds (ps:= ["_law_house_here","_law_page"]) (λ_ _ _ _ _ _ us hl=>match us,hl with | [_,_],_=>rfl),Pa,Pg,
  Qy,Qy.binds (ps:= ["_law_place_here","_law_xs","_law_cell"]) (λ_ _ _ _ _ _ us hl=>match us,hl with | [_,_,_],_=>rfl),Tw,Uy,
  Sw,Sw.binds (ps:= ["_law_house_here","_law_script","_law_at"]) (λ_ _ _ _ _ _ us hl=>match us,hl with | [_,_,_],_=>rfl),Vu,Uz,
  Rz,Rz.binds (ps:= ["_law_house_here","_law_cell"]) (λ_ _ _ _ _ _ us hl=>match us,hl with | [_,_],_=>rfl),Rj,Ow,
  Ql,Ql.binds (ps:= ["_law_state_here"]) (λ_ _ _ _ _ _ us hl=>match us,hl with | [_],_=>rfl),Q5,Qk,
  Qv,Qv.binds (ps:= ["_law_found"]) (λ_ _ _ _ _ _ us hl=>match us,hl with | [_],_=>rfl),Qu,T3,
  Ri,Ri.binds (ps:= ["house","page"]) (λ_ _ _ _ _ _ us hl=>match us,hl with | [_,_],_=>rfl),R4,Om,
  Qo,Qo.binds (ps:= ["state"]) (λ_ _ _ _ _ _ us hl=>match us,hl with | [_],_=>rfl),K3,Kw,
  Wj (st:=Eg) T9 Tc Ju,(Wj (st:=Eg) T9 Tc Ju).binds (ps:= ["_law_script"]) (λ_ _ _ _ _ _ us hl=>match us,hl with | [_],_=>rfl),PySem.W.mg_of X G T8,Ju,
  PySem.W.mg_none_of X G Xp,
  PySem.W.mg_none_of X G Xq,
  PySem.W.mg_none_of X G Xr,
  PySem.W.mg_none_of X G Xu,
  PySem.W.mg_none_of X G Xv,
  PySem.W.mg_none_of X G Xw,
  PySem.W.mg_none_of X G Xx,
  PySem.W.mg_none_of X G Xy,
  PySem.W.mg_none_of X G Xz,
  PySem.W.mg_none_of X G Y0,
  PySem.W.mg_of X G Ln,
  PySem.W.mg_of X G M6,
  PySem.W.mg_of X G Ni,
  PySem.W.mg_of X G Lz,
  PySem.W.mg_of X G Nt⟩
 exact ⟨PySem.W.fnOf "law" "law" (Hw Eg) (Ge Eg) (Bc Eg) .none Ws Wt Wu Wr T7 Wv,λs v=>.of_eq rfl,λbase _ _=>ZB0 T⟩
theorem walk {l:PySem.W.OpenLaw} {q:Program} {loose:List Str} {XP:(Str->Option Value)->Heap->Prop} {YP:World->Heap->Prop} {d:DefRec} {K:Params->PySem.W.Frag} (hn:l.most=some 63) (hdf:d.params.defaults= []) (HH:Holds)
  (hY:∀(w:World) (h:Heap),YP w h->(K w.params).In h)
  (F:∀(w:World) (mg:Str->Option Value) (fa:Addr) (h:Heap),(K w.params).In h->h.Ns mainGlobals mg->mg d.name=some (.ref fa)->
   ∃fd:FuncData,(∀(s:Shared) (u:Value),BindsTo s fd ⟨[u],[]⟩ [("_law_script",u)])/\∀base:Heap,(K w.params).In base->base.Ns mainGlobals mg->FnOk l.prog w (K w.params) mg base CX0 6 fa fd ["_law_script"] (lF (K w.params) Je)):
  PySem.W.WalkO q loose XP YP l.row.toRowW d [] (λf vs=>PySem.call f vs):=
 ZFf (n:=63) (k:=6) (x:="_law_script") (CX:=λ_=>CX0) (sp:=λw=>lF (K w.params) Je) hn (by decide) hdf ⟨rfl,by decide,by decide⟩ hY F
  (λw H a ns hl hbt hO hS=>by
   obtain ⟨G,hG⟩:=HH ns hl hbt;refine ⟨⟨K w.params,0,λ_=>0,H⟩,[],[.fl (ns.map D.int)],rfl,rfl,⟨rfl,λi j h=>absurd h (Nat.not_lt_zero _),λi o h=>by simp at h,λi h=>absurd h (Nat.not_lt_zero _)⟩,Reps.cons ⟨a,ns.map V.int,rfl,?_,Reps.ints ns⟩ Reps.nil,?_⟩
   ·rcases hS with (hS | hS) | hS
    ·rcases hO a with z | ⟨o,xs,z⟩
     ·rw [z] at hS;cases hS
     ·rw [z] at hS;cases hS
    ·exact .inl hS
    ·exact .inr hS
   ·rw [hG];exact λb v _ _ r=>r) λ_ _ _ _ _ z=>z
end Law
open PySem PySem.W PyProof.Rows
set_option maxRecDepth 100000 in
theorem PySem.Challenge.cw_sluiceway_k41_water_and_gone_holds : PySem.Challenge.rw_sluiceway_k41_water_and_gone.Holds := by
 w_on;o_law;k_head;(case hw=>w_witness2)
 k_fill
 refine Law.walk (l:=PySem.Challenge.rw_sluiceway_k41_water_and_gone) rfl rfl Law.holds (λw h Y=>PySem.W.kIn_of Y) ?F
 case F=>
  intro w mg fa h KX G hmg;refine' Law.all_mk KX G hmg ?T8 ?T9 ?Tc ?Ju ?Ww ?Wx ?Wy ?Wz ?X7 ?Xa ?Xb ?Xc ?Xd ?Xe ?Xf ?Xg ?Xh ?Xi ?Xj ?Xk ?Xl ?Xm ?Xo ?Xp ?Xq ?Xr ?Xu ?Xv ?Xw ?Xx ?Xy ?Xz ?Y0 ?Ln ?M6 ?Ni ?Lz ?Nt
  case T8 | T9 | Tc | Ju | Xp | Xq | Xr | Xu | Xv | Xw | Xx | Xy | Xz | Y0 | Ln | M6 | Ni | Lz | Nt=>k_is
  case Ww | Wx | Wy | Wz | X7 | Xa | Xb | Xc | Xd | Xe | Xf | Xg | Xh | Xi | Xj | Xk | Xl | Xm | Xo=>refine' Law.ZFA KX G ?a ?l ?c ?k;(case a=>k_is);(case l=>k_is);(case c=>k_is);(case k=>k_is)
