import PyProof.Rows.All
import Wide.All
import OpenK.AllK
import Wide.FinOn
import Lean
import PyProof.EqAt
import PyProof.EqKinds
import PyProof.TupleCall
import PyProof.NeKinds
import PyProof.IsInstanceH
import PyProof.SumWalkG
import PyProof.ConsumeWalk
import PyProof.IsiNone
import PyProof.WalksMore
import PyProof.PlainList
import PyProof.CompFree
import PySem.Challenge.RW_sluiceway_k51_under
set_option Elab.async false
set_option linter.all false
set_option maxRecDepth 100000
set_option maxHeartbeats 0
noncomputable section
namespace L2
open PySem PySem.Spec PyProof.Rows
variable {us:List Value} {u:Value} {a b f:Addr} {P:Program} {w:World} {h base:Heap} {t' i j k:Nat} {ch fp:List Addr} {x:Str} {Q:Unit->Shared->Prop} {e tg:Expr} {A:Around} {E:Value->Shared->Prop} {s:Shared} {pins:List (Addr×Obj)} {op:CmpOp} {K:PySem.W.Frag} {mg:Str->Option Value} {fd:FuncData} {ps:List Str} {kindOf:Str->Option NameKind}
abbrev Key:=Sum Int Str
def Z7:Key->Value->Bool
 | .inl k,v=>Value.isInt k v
 | .inr x,v=>Value.isStrOf x v
def keyH (w:World):Key->Int
 | .inl k=>hashInt k
 | .inr x=>hashStr w x
theorem Hj:∀{k:Key} {v:Value},Z7 k v=true->(∃i t,k=Sum.inl i/\v=Value.int i t)∨(∃x t,k=Sum.inr x/\v=Value.str x t)
 | .inl i,v,h=>by obtain ⟨t,e⟩:=Value.isInt_shape (k:=i) (v:=v) h;exact .inl ⟨i,t,rfl,e⟩
 | .inr x,v,h=>by obtain ⟨t,e⟩:=Value.isStrOf_shape (x:=x) (v:=v) h;exact .inr ⟨x,t,rfl,e⟩
theorem ZGn (a b:Int):decide ((Sum.inl a:Key)=Sum.inl b)=(a == b):=by
 by_cases e:a=b
 ·subst e;simp
 ·have h:¬(Sum.inl a:Key)=Sum.inl b:=λq=>e (Sum.inl.inj q)
  rw [decide_eq_false h];exact (beq_eq_false_iff_ne.mpr e).symm
theorem ZDx (a b:Str):decide ((Sum.inr a:Key)=Sum.inr b)=decide (a=b):=by
 by_cases e:a=b
 ·subst e;simp
 ·have h:¬(Sum.inr a:Key)=Sum.inr b:=λq=>e (Sum.inr.inj q)
  rw [decide_eq_false h,decide_eq_false e]
theorem ZFp (a:Int) (b:Str):decide ((Sum.inl a:Key)=Sum.inr b)=false:=decide_eq_false (λq=>nomatch q)
theorem ZFW (a:Str) (b:Int):decide ((Sum.inr a:Key)=Sum.inl b)=false:=decide_eq_false (λq=>nomatch q)
def Zz (prog:Program) (w:World):PySem.KeyKind prog w Key where
 is:=Z7
 hash:=keyH w
 inj:=λv a b ha hb=>by
  rcases Hj ha with ⟨i,t,rfl,rfl⟩ | ⟨x,t,rfl,rfl⟩
  ·rcases Hj hb with ⟨j,u,rfl,e⟩ | ⟨y,u,rfl,e⟩
   ·injection e with e1 _;rw [e1]
   ·exact nomatch e
  ·rcases Hj hb with ⟨j,u,rfl,e⟩ | ⟨y,u,rfl,e⟩
   ·exact nomatch e
   ·injection e with e1 _;rw [e1]
 byValue:=λk v h=>by rcases Hj h with ⟨i,t,rfl,rfl⟩ | ⟨x,t,rfl,rfl⟩ <;> rfl
 pyHash:=λhv h=>by
  rcases Hj hv with ⟨i,t,rfl,rfl⟩ | ⟨x,t,rfl,rfl⟩
  ·exact wpAny_pyHash_int h
  ·exact wpAny_pyHash_str h
 eqBool:=λhu hv h=>by
  rcases Hj hu with ⟨i,t,rfl,rfl⟩ | ⟨x,t,rfl,rfl⟩
  ·rcases Hj hv with ⟨j,u,rfl,rfl⟩ | ⟨y,u,rfl,rfl⟩
   ·rw [ZGn] at h;exact wpAny_eqBool_int h
   ·rw [ZFp] at h;exact SeqAt.EqAt.int_str i t y u _ _ _ _ h
  ·rcases Hj hv with ⟨j,u,rfl,rfl⟩ | ⟨y,u,rfl,rfl⟩
   ·rw [ZFW] at h;exact SeqAt.EqAt.str_int x t j u _ _ _ _ h
   ·rw [ZDx] at h;exact wpAny_eqBool_str h
 «strs»:=λk x t v h=>by
  rcases Hj h with ⟨i,u,rfl,e⟩ | ⟨y,u,rfl,e⟩
  ·exact nomatch e
  ·injection e with e1 _
   subst e1
   cases v <;> rfl
inductive V where
 | non | bl (b:Bool) | int (i:Int) | str (x:Str) | byt (b:Array UInt8) | flt (b:UInt64) | ref (a:Addr) | ty (n:String)
 deriving DecidableEq
def RelV:V->Value->Prop
 | .non,u=>u=Value.none
 | .bl b,u=>u=Value.bool b
 | .int i,u=>∃t,u=Value.int i t
 | .str x,u=>∃t,u=Value.str x t
 | .byt b,u=>∃t,u=Value.bytes b t
 | .flt b,u=>∃t,u=Value.float b t
 | .ref a,u=>u=Value.ref a
 | .ty n,u=>u=Value.type n
abbrev Vals:List V->List Value->Prop:=Paired RelV
theorem Vals.length {xs:List V} (r:Vals xs us):xs.length=us.length:=Paired.length r
theorem Vals.get:∀{xs:List V} {us:List Value} {i:Nat} {x:V},Vals xs us->xs[i]? =some x->∃u,us[i]? =some u/\RelV x u
 | _,_,_,_,.nil,e=>by simp at e
 | _,_,0,_,.cons r _,e=>by simp at e;subst e;exact ⟨_,rfl,r⟩
 | _,_,i + 1,x,.cons _ t,e=>by obtain ⟨u,h1,h2⟩:=Vals.get (i:=i) (x:=x) t (by simpa using e);exact ⟨u,by simpa using h1,h2⟩
theorem Vals.set {x:V} (r:RelV x u):∀{xs:List V} {us:List Value} (i:Nat),Vals xs us->Vals (xs.set i x) (us.set i u)
 | _,_,_,.nil=>.nil
 | _,_,0,.cons _ t=>.cons r t
 | _,_,i + 1,.cons q t=>.cons q (Vals.set r i t)
theorem Vals.append:∀{xs ys:List V} {us ws:List Value},Vals xs us->Vals ys ws->Vals (xs++ys) (us++ws)
 | _,_,_,_,.nil,s=>s
 | _,_,_,_,.cons r t,s=>.cons r (Vals.append t s)
theorem Vals.take:∀{xs:List V} {us:List Value} (n:Nat),Vals xs us->Vals (xs.take n) (us.take n)
 | _,_,0,_=>.nil
 | _,_,_ + 1,.nil=>.nil
 | _,_,n + 1,.cons r t=>.cons r (Vals.take n t)
theorem Vals.drop:∀{xs:List V} {us:List Value} (n:Nat),Vals xs us->Vals (xs.drop n) (us.drop n)
 | _,_,0,r=>r
 | _,_,_ + 1,.nil=>.nil
 | _,_,n + 1,.cons _ t=>Vals.drop n t
def RelO:Option V->Option Value->Prop
 | some v,some u=>RelV v u
 | none,none=>True
 | _,_=>False
def KV {κ:Type}:List (κ×V)->List (κ×Value)->Prop:=Paired λ(p:κ×V) (q:κ×Value)=>p.1=q.1/\RelV p.2 q.2
def kV:Key->V
 | .inl i=>.int i
 | .inr x=>.str x
inductive HO where
 | lst (xs:List V)
 | tup (xs:List V)
 | dK (kvs:List (Key×V)) | dT (kvs:List (List Key×V))
 | set (S:Int->Bool) (n:Nat)
 | ins (C dx:Addr) (fs:List (Str×V))
 | own (x:Addr)
 | xd (fs:List (Str×V))
 | met (f x:Addr)
 | rng (lo hi:Int)
 | frz (o:Obj) (u:HO)
 | tbl (ps:Array Value)
 | ext (φ:Heap->Prop)
variable {o:HO}
abbrev Hp:=Addr->Option HO
variable {H:Hp}
def upd (H:Hp) (a:Addr) (o:HO):Hp:=λb=>if b=a then some o else H b
theorem Ff:upd H a o a=some o:=by unfold upd;rw [if_pos rfl]
theorem Be (h:b≠a):upd H a o b=H b:=by unfold upd;rw [if_neg h]
theorem Hq (h:H a=some o) (h':H b=none):a≠b:=by intro e;subst e;rw [h] at h';cases h'
section
variable (P:Program) (w:World)
def ObjOk (H:Hp) (h:Heap) (a:Addr):HO->Prop
 | .lst xs=>xs.length<=sizeLine/\∃(its:List Value) (n:Nat),Vals xs its/\h.get? a=some {cls:=.type "list",data:=.seq its.toArray n}
 | .tup xs=>xs.length<=sizeLine/\∃its:List Value,Vals xs its/\IsTup h a its.toArray
 | .dK kvs=>kvs.length<=sizeLine/\(a == sysModules)=false/\∃vs,KV kvs vs/\h.DictOf (Zz P w) a vs
 | .dT kvs=>kvs.length<=sizeLine/\(a == sysModules)=false/\∃xs:List (List Key×Addr×Value),
   Paired (λ(p:List Key×V) (q:List Key×Addr×Value)=>p.1=q.1/\H q.2.1=some (.tup (p.1.map kV))/\RelV p.2 q.2.2) kvs xs/\
   ∃o es ep,h.get? a=some o/\o.ExactDict/\o.data=.dict es ep/\es.toList=xs.map (entryOfKey (tupleKind (Zz P w)))/\(xs.map (·.1)).Nodup
 | .set S n=>h.SetOf (intKind P w) a S n
 | .ins C dx fs=>H dx=some (.own a)/\fs.length<=1000/\dx≠a/\h.get? a=some (PySem.W.instObj C dx)/\
   ∃mA,h.Ns1 dx mA/\(∀f,RelO (fs.lookup f) (mA f))/\PySem.Within mA (fs.map (·.1))
 | .own _=>∃o,h.get? a=some o
 | .xd fs=>∃mA,h.Ns1 a mA/\∀f,RelO (fs.lookup f) (mA f)
 | .rng lo hi=>∃t u v,h.get? a=some {cls:=.type "range",data:=.fields #[.int lo t,.int hi u,.int 1 v]}
 | .frz o u=>h.get? a=some o/\ObjOk H h a u
 | .tbl ps=>h.get? a=some {cls:=.none,data:=.fields ps}
 | .met f x=>h.get? a=some (PySem.W.methodObj (.ref f) (.ref x))
 | .ext φ=>φ h/\(∃o,h.get? a=some o)/\∀h1 h2:Heap,φ h1->(∀o,h1.get? a=some o->h2.get? a=some o)->φ h2
def HOk (H:Hp) (h:Heap):Prop:=∀a o,H a=some o->ObjOk P w H h a o
end
section
variable {P:Program} {w:World} {H H':Hp} {h h':Heap} {a:Addr} {o:HO}
theorem ObjOk.lt (x:ObjOk P w H h a o):a < h.objs.size:=by
 cases o with
 | lst xs=>obtain ⟨_,_,_,_,e⟩:=x;exact Heap.lt_size e
 | tup xs=>obtain ⟨_,_,_,p⟩:=x;exact p.lt
 | dK kvs=>obtain ⟨_,_,_,_,o,_,_,e,_⟩:=x;exact Heap.lt_size e
 | dT kvs=>obtain ⟨_,_,_,_,o,_,_,e,_⟩:=x;exact Heap.lt_size e
 | set S n=>obtain ⟨o,_,_,_,e,_⟩:=x;exact Heap.lt_size e
 | ins C dx fs=>obtain ⟨_,_,_,e,_⟩:=x;exact Heap.lt_size e
 | own y=>obtain ⟨_,e⟩:=x;exact Heap.lt_size e
 | xd fs=>obtain ⟨_,⟨_,_,_,e,_⟩,_⟩:=x;exact Heap.lt_size e
 | rng lo hi=>obtain ⟨_,_,_,e⟩:=x;exact Heap.lt_size e
 | frz ob u=>obtain ⟨e,_⟩:=x;exact Heap.lt_size e
 | tbl ps=>exact Heap.lt_size (show h.get? a=some _ from x)
 | met f y=>exact Heap.lt_size (show h.get? a=some _ from x)
 | ext φ=>obtain ⟨_,⟨_,e⟩,_⟩:=x;exact Heap.lt_size e
theorem Paired.X5 {α β:Type} {F G:α->β->Prop}:∀{l₁:List α} {l₂:List β},Paired F l₁ l₂->(∀a b,F a b->G a b)->Paired G l₁ l₂
 | _,_,.nil,_=>.nil
 | _,_,.cons r t,f=>.cons (f _ _ r) (Paired.X5 t f)
theorem ObjOk.stay (x:ObjOk P w H h a o) (k:∀b u,(b=a∨H b=some (.own a))->h.get? b=some u->h'.get? b=some u)
  (ho:∀b,H b=some (.own a)->H' b=some (.own a)) (ht:∀b xs,H b=some (.tup xs)->H' b=some (.tup xs)):ObjOk P w H' h' a o:=by
 induction o with
 | lst xs=>obtain ⟨z,its,n,r,e⟩:=x;exact ⟨z,its,n,r,k _ _ (.inl rfl) e⟩
 | tup xs=>obtain ⟨z,its,r,ob,e,c⟩:=x;exact ⟨z,its,r,ob,k _ _ (.inl rfl) e,c⟩
 | dK kvs=>obtain ⟨z,y,vs,r,ob,es,ep,e,c⟩:=x;exact ⟨z,y,vs,r,ob,es,ep,k _ _ (.inl rfl) e,c⟩
 | dT kvs=>
  obtain ⟨z,y,xs,r,ob,es,ep,e,c⟩:=x;exact ⟨z,y,xs,Paired.X5 r λp q z=>⟨z.1,ht _ _ z.2.1,z.2.2⟩,ob,es,ep,k _ _ (.inl rfl) e,c⟩
 | set S n=>obtain ⟨ob,es,ep,t,e,c⟩:=x;exact ⟨ob,es,ep,t,k _ _ (.inl rfl) e,c⟩
 | ins C dx fs=>
  obtain ⟨d,z,ne,e,mA,⟨od,es,ep,e2,c⟩,r⟩:=x;exact ⟨ho _ d,z,ne,k _ _ (.inl rfl) e,mA,⟨od,es,ep,k _ _ (.inr d) e2,c⟩,r⟩
 | own y=>obtain ⟨ob,e⟩:=x;exact ⟨ob,k _ _ (.inl rfl) e⟩
 | xd fs=>obtain ⟨mA,⟨od,es,ep,e,c⟩,r⟩:=x;exact ⟨mA,⟨od,es,ep,k _ _ (.inl rfl) e,c⟩,r⟩
 | rng lo hi=>obtain ⟨t,u,v,e⟩:=x;exact ⟨t,u,v,k _ _ (.inl rfl) e⟩
 | frz ob u ih=>obtain ⟨e,q⟩:=x;exact ⟨k _ _ (.inl rfl) e,ih q⟩
 | tbl ps=>
  have e:h.get? a=some {cls:=.none,data:=.fields ps}:=x;show h'.get? a=some {cls:=.none,data:=.fields ps};exact k a _ (.inl rfl) e
 | met f y=>
  have e:h.get? a=some (PySem.W.methodObj (.ref f) (.ref y)):=x;show h'.get? a=some (PySem.W.methodObj (.ref f) (.ref y));exact k a _ (.inl rfl) e
 | ext φ=>obtain ⟨p,⟨o,e⟩,st⟩:=x;exact ⟨st _ _ p λo q=>k _ _ (.inl rfl) q,⟨o,k _ _ (.inl rfl) e⟩,st⟩
theorem HOk.lt (x:HOk P w H h) (e:H a=some o):a < h.objs.size:=(x a o e).lt
theorem HOk.fresh (x:HOk P w H h) (e:h.objs.size<=a):H a=none:=by
 cases q:H a with
 | none=>rfl
 | some u=>exact absurd (Nat.lt_of_lt_of_le (x.lt q) e) (Nat.lt_irrefl _)
theorem HOk.kept (x:HOk P w H h) (k:∀b u,h.get? b=some u->h'.get? b=some u):HOk P w H h':=λa o e=>
 (x a o e).stay (λb u _ q=>k b u q) (λ_ q=>q) λ_ _ q=>q
theorem HOk.laid (x:HOk P w H h) (k:∀b u,h.get? b=some u->h'.get? b=some u) (hp:h.objs.size<=a) (new:ObjOk P w (upd H a o) h' a o):HOk P w (upd H a o) h':=λb u e=>by
 have hn:=x.fresh hp;by_cases hb:b=a
 ·subst hb;rw [Ff] at e;cases e;exact new
 ·rw [Be hb] at e;exact (x b u e).stay (λc v _ q=>k c v q) (λc q=>by rw [Be (Hq q hn)];exact q) λc xs q=>by rw [Be (Hq q hn)];exact q
end
def Rd (H:Hp) (a:Addr) (u:HO):Prop:=H a=some u∨∃o,H a=some (.frz o u)
theorem Rd.ok {u:HO} (r:Rd H a u) (x:HOk P w H h):ObjOk P w H h a u:=by
 rcases r with r | ⟨o,r⟩
 ·exact x a u r
 ·obtain ⟨_,q⟩:=x a _ r;exact q
def Mut:Option HO->Prop
 | some (.lst _)=>True
 | some (.dK _)=>True
 | some (.dT _)=>True
 | some (.set _ _)=>True
 | some (.ins _ _ _)=>True
 | some (.ext _)=>True
 | _=>False
section
variable {P:Program} {w:World} {H:Hp} {h h':Heap} {x e:Addr} {o':HO}
theorem HOk.write (ok:HOk P w H h) (mu:Mut (H x)) (he:e=x∨H e=some (.own x)) (k:∀b u,b≠e->h.get? b=some u->h'.get? b=some u) (heo:∃u,h'.get? e=some u)
  (new:ObjOk P w (upd H x o') h' x o'):HOk P w (upd H x o') h':=λb u q=>by
 have nown:∀c y,H c=some (.own y)->c≠x:=λc y r z=>by subst z;rw [r] at mu;exact mu
 have ntup:∀c xs,H c=some (.tup xs)->c≠x:=λc xs r z=>by subst z;rw [r] at mu;exact mu
 by_cases hb:b=x
 ·subst hb;rw [Ff] at q;cases q;exact new
 ·rw [Be hb] at q;by_cases hbe:b=e
  ·have q':H b=some (.own x):=by
    rcases he with z | z
    ·exact absurd (hbe.trans z) hb
    ·rw [hbe];exact z
   rw [q] at q';cases q';obtain ⟨v,hv⟩:=heo;exact ⟨v,by rw [hbe];exact hv⟩
  ·refine (ok b u q).stay (λc v hc r=>k c v ?_ r) (λc r=>by rw [Be (nown c b r)];exact r) λc xs r=>by rw [Be (ntup c xs r)];exact r
   rcases hc with rfl | hc
   ·exact hbe
   ·rintro rfl;rcases he with z | z
    ·exact nown c b hc z
    ·rw [hc] at z;cases z;exact hb rfl
end
structure Un (fs ex:List Addr) (H H':Hp) (h h':Heap):Prop where
 keep:∀b o,h.get? b=some o->H b=none->b ∉ fs->b ∉ ex->h'.get? b=some o
 slot:∀b o,h.get? b=some o->H b=none->b∈fs->b ∉ ex->∃sl,h'.get? b=some {o with slots:=sl}
 free:∀b o,h.get? b=some o->H b=none->b ∉ ex->H' b=none
 there:∀b o,h.get? b=some o->b ∉ ex->∃o',h'.get? b=some o'
 tups:∀b xs,H b=some (.tup xs)->H' b=some (.tup xs)
 frzs:∀b o u,H b=some (.frz o u)->H' b=some (.frz o u)
 tbls:∀b ps,H b=some (.tbl ps)->∃more,H' b=some (.tbl (ps++more))
section
variable {fs fs' ex ex':List Addr} {H H1 H2:Hp} {h h1 h2 h':Heap} {a x e:Addr} {o:HO}
theorem Un.any (u:Un fs ex H H1 h h1) {ob:Obj} (q:h.get? b=some ob) (n:H b=none) (hx:b ∉ ex):∃sl,h1.get? b=some {ob with slots:=sl}:=by
 by_cases hb:b∈fs
 ·exact u.slot b ob q n hb hx
 ·exact ⟨ob.slots,u.keep b ob q n hb hx⟩
theorem Un.trans (a:Un fs ex H H1 h h1) (b:Un fs ex H1 H2 h1 h2):Un fs ex H H2 h h2 where
 keep:=λc ob q n hc hx=>b.keep c ob (a.keep c ob q n hc hx) (a.free c ob q n hx) hc hx
 slot:=λc ob q n hc hx=>by obtain ⟨sl,e1⟩:=a.slot c ob q n hc hx;obtain ⟨sl',e2⟩:=b.slot c _ e1 (a.free c ob q n hx) hc hx;exact ⟨sl',e2⟩
 free:=λc ob q n hx=>by obtain ⟨o',e1⟩:=a.there c ob q hx;exact b.free c o' e1 (a.free c ob q n hx) hx
 there:=λc ob q hx=>by obtain ⟨o',e1⟩:=a.there c ob q hx;exact b.there c o' e1 hx
 tups:=λc xs q=>b.tups c xs (a.tups c xs q)
 frzs:=λc ob xs q=>b.frzs c ob xs (a.frzs c ob xs q)
 tbls:=λc ps q=>by obtain ⟨m1,e1⟩:=a.tbls c ps q;obtain ⟨m2,e2⟩:=b.tbls c _ e1;exact ⟨m1++m2,by rw [e2,Array.append_assoc]⟩
theorem Un.kept (k:∀b u,h.get? b=some u->h'.get? b=some u):Un fs ex H H h h':=
 ⟨λb ob q _ _ _=>k b ob q,λb ob q _ _ _=>⟨ob.slots,k b ob q⟩,λ_ _ _ n _=>n,λb ob q _=>⟨ob,k b ob q⟩,λ_ _ q=>q,λ_ _ _ q=>q,λ_ ps q=>⟨#[],by rw [q];simp⟩⟩
theorem Un.refl:Un fs ex H H h h:=Un.kept λ_ _ q=>q
theorem Un.laid (k:∀b u,h.get? b=some u->h'.get? b=some u) (hp:h.objs.size<=a) (hn:H a=none):Un fs ex H (upd H a o) h h' where
 keep:=λb u q _ _ _=>k b u q
 slot:=λb u q _ _ _=>⟨u.slots,k b u q⟩
 free:=λb u q n _=>by rw [Be (Nat.ne_of_lt (Nat.lt_of_lt_of_le (Heap.lt_size q) hp))];exact n
 there:=λb u q _=>⟨u,k b u q⟩
 tups:=λb xs q=>by rw [Be (Hq q hn)];exact q
 frzs:=λb u xs q=>by rw [Be (Hq q hn)];exact q
 tbls:=λb ps q=>⟨#[],by rw [Be (Hq q hn),q];simp⟩
theorem Un.write (mu:Mut (H x)) (he:e=x∨H e=some (.own x)) (k:∀b u,b≠e->h.get? b=some u->h'.get? b=some u) (heo:∃u,h'.get? e=some u):Un fs ex H (upd H x o) h h':=by
 have hx:∀b,H b=none->b≠x:=λb n z=>by subst z;rw [n] at mu;exact mu
 have hb:∀b,H b=none->b≠e:=λb n z=>by
  subst z;rcases he with r | r
  ·exact hx b n r
  ·rw [n] at r;cases r
 have hm:∀b u,H b=some u->¬Mut (some u)->b≠x:=λb u q nm z=>by subst z;rw [q] at mu;exact nm mu
 refine ⟨λb u q n _ _=>k b u (hb b n) q,λb u q n _ _=>⟨u.slots,k b u (hb b n) q⟩,λb u q n _=>by rw [Be (hx b n)];exact n,λb u q _=> ?_,
  λb xs q=>by rw [Be (hm b _ q λz=>z)];exact q,λb u xs q=>by rw [Be (hm b _ q λz=>z)];exact q,λb ps q=>⟨#[],by rw [Be (hm b _ q λz=>z),q];simp⟩⟩
 by_cases hbe:b=e
 ·subst hbe;exact heo
 ·exact ⟨u,k b u hbe q⟩
theorem Un.mono (u:Un fs ex H H1 h h1) (hs:∀b∈fs,b∈fs') (hx:∀b∈ex,b∈ex'):Un fs' ex' H H1 h h1:=
 ⟨λb ob q n hb he=>u.keep b ob q n (λz=>hb (hs b z)) λz=>he (hx b z),λ_ _ q n _ he=>u.any q n λz=>he (hx _ z),λb ob q n he=>u.free b ob q n λz=>he (hx b z),λb ob q he=>u.there b ob q λz=>he (hx b z),u.tups,u.frzs,u.tbls⟩
end
def trk (h:Heap) (H:Hp):List Addr:=(List.range h.objs.size).filter λa=>(H a).isSome
def Ho (h:Heap) (H:Hp):Heap:=PySem.W.hideAll h (trk h H)
theorem ZBz (h:Heap) (H:Hp):(Ho h H).objs.size=h.objs.size:=PySem.W.hideAll_size _ _
theorem ZEZ {o:Obj} (e:h.get? b=some o) (n:H b=none):(Ho h H).get? b=some o:=
 PySem.W.hideAll_get _ e λhm=>by have q:(H b).isSome=true:=(List.mem_filter.mp hm).2;rw [n] at q;simp at q
theorem ZDe {o:Obj} (e:(Ho h H).get? b=some o):h.get? b=some o/\H b=none:=by
 have e':h.get? b=some o:=PySem.W.of_hideAll (trk h H) e;refine ⟨e',?_⟩;cases q:H b with
 | none=>rfl
 | some x=>
  have hm:b∈trk h H:=List.mem_filter.mpr ⟨List.mem_range.mpr (Heap.lt_size e'),by simp [q]⟩;have z:(Ho h H).get? b=none:=PySem.W.hideAll_none (trk h H) hm;rw [z] at e;cases e
def ZFE (g h:Heap) (L:Addr):List (Addr×Obj):=(List.range h.objs.size).filterMap λa=>if a=L∨(g.get? a).isSome=true then none else (h.get? a).map λo=>(a,o)
def rest (g h:Heap) (L d:Addr):List (Addr×Obj):=(ZFE g h L).filter λp=>decide (p.1≠d)
structure Mod (K:PySem.W.Frag) (mg:Str->Option Value) (base:Heap):Prop where
 kin:K.In base
 glob:base.Ns mainGlobals mg
 blt:∃mb,base.Ns builtinsNs mb/\∀x:Str,x≠"__name__"->mb x=bootBuiltins x
 nolimit:base.NoLimit
structure Cx where
 prog:Program
 w:World
 K:PySem.W.Frag
 mg:Str->Option Value
 base:Heap
 A:Around
 N:List Str
 s₀:Shared
 H₀:Hp
 env:Env
 outer:List Env
 stack:List Env
 ex:List Addr
 fn:Str->Bool
 calm:Bool
 pn:List (Addr×Obj)
 xe:Value->Shared->Prop
variable {X:Cx}
def frs (l:List Env):List Addr:=l.filterMap (·.frame)
abbrev Cx.fs (X:Cx):List Addr:=frs X.outer
def Vis (sc:Scope) (x:Str):Prop:=sc.names.lookup x=some .local∨sc.names.lookup x=some .cell∨sc.names.lookup x=some .free
def Loc (sc:Scope) (x:Str):Prop:=sc.names.lookup x=some .local∨sc.names.lookup x=some .cell
def Look (env:Env) (h:Heap) (m:Str->Option Value) (x:Str) (u:Value):Prop:=
 (env.kindOf x=some .local/\m x=some u)∨((env.kindOf x=some .cell∨env.kindOf x=some .free)/\∃c,env.cells.lookup x=some c/\h.IsCell c (some u))
structure Cx.Ok (X:Cx):Prop where
 mod:Mod X.K X.mg X.base
 kind:X.env.scope.kind=.function
 glob:X.env.globals=mainGlobals
 blt:X.env.builtins=builtinsNs
 above:X.s₀.heap.objs.size<=X.env.locals
 inj:∀x y c,X.env.cells.lookup x=some c->X.env.cells.lookup y=some c->x=y
 has:∀x,(X.env.kindOf x=some .cell∨X.env.kindOf x=some .free)->∃c,X.env.cells.lookup x=some c
 cab:∀x c,X.fn x=true->X.env.cells.lookup x=some c->X.s₀.heap.objs.size<=c
 hd:X.calm=true->X.A.handled=none
 frames:X.A.frames=some X.stack
 stk:X.stack=X.outer∨(X.stack=X.env::X.outer/\X.env.frame=some X.env.locals)
 exf:∀b∈X.ex,b≠X.env.locals/\∀x c,X.env.cells.lookup x=some c->c≠b
 bs:∀b o,X.base.get? b=some o->X.s₀.heap.get? b=some o/\X.H₀ b=none
 bsz:X.base.objs.size<=X.s₀.heap.objs.size
 noex:∀b o,X.base.get? b=some o->b ∉ X.ex
 exfs:∀b∈X.ex,b ∉ X.fs
 funs:X.s₀.heap.FunFrames X.base X.outer
 frf:∀b∈X.fs,X.H₀ b=none
structure Inv (X:Cx) (pins:List (Addr×Obj)) (σ:List (Option V)) (H:Hp) (s:Shared):Prop where
 ok:X.Ok
 os:s.os=X.s₀.os
 bare:AllBare s.gens
 base:Un X.fs X.ex X.H₀ H X.s₀.heap s.heap
 loc:∃m,s.heap.Ns X.env.locals m/\∀(i:Nat) (x:Str) (v:V),X.N[i]? =some x->σ[i]? =some (some v)->Vis X.env.scope x->∃u,RelV v u/\Look X.env s.heap m x u
 cell:∀x c,X.env.cells.lookup x=some c->∃v,s.heap.IsCell c v
 free:H X.env.locals=none
 G7:∀x c,X.env.cells.lookup x=some c->H c=none
 pin:∀p∈X.pn++pins,s.heap.get? p.1=some p.2/\H p.1=none/\p.1≠X.env.locals/\p.1 ∉ X.fs/\∀v,p.2.data≠ .cell v
 hok:HOk X.prog X.w H s.heap
 len:σ.length=X.N.length
section
variable {X:Cx} {pins:List (Addr×Obj)} {σ:List (Option V)} {H H':Hp} {s:Shared} {h':Heap}
theorem Cx.Ok.nofr (ok:X.Ok) {o:Obj} (e:X.base.get? b=some o):b ∉ X.fs:=λhb=>by have:=(ok.funs.mem hb).1;rw [e] at this;cases this
theorem Inv.bs (I:Inv X pins σ H s):∀b o,X.base.get? b=some o->s.heap.get? b=some o/\H b=none:=λb o e=>
 ⟨I.base.keep b o (I.ok.bs b o e).1 (I.ok.bs b o e).2 (I.ok.nofr e) (I.ok.noex b o e),I.base.free b o (I.ok.bs b o e).1 (I.ok.bs b o e).2 (I.ok.noex b o e)⟩
theorem Inv.bk (I:Inv X pins σ H s):∀b o,X.base.get? b=some o->s.heap.get? b=some o:=λb o e=>(I.bs b o e).1
theorem Inv.mod (I:Inv X pins σ H s):Mod X.K X.mg X.base:=I.ok.mod
theorem Inv.kIn (I:Inv X pins σ H s):X.K.In s.heap:=I.ok.mod.kin.keeps I.bk
theorem Inv.nolimit (I:Inv X pins σ H s):s.heap.NoLimit:=I.ok.mod.nolimit.keeps I.bk
theorem Inv.fr (I:Inv X pins σ H s):∃m,Fr X.base X.env.locals s.heap m:=
 let ⟨m,hn,_⟩:=I.loc
 ⟨m,hn,I.bk,Nat.le_trans I.ok.bsz I.ok.above⟩
theorem Inv.lt (I:Inv X pins σ H s):X.env.locals < s.heap.objs.size:=let ⟨_,hn,_⟩:=I.loc;hn.lt
theorem Inv.sz (I:Inv X pins σ H s):X.s₀.heap.objs.size<=s.heap.objs.size:=Nat.le_trans I.ok.above (Nat.le_of_lt I.lt)
theorem Inv.nofs (I:Inv X pins σ H s) (h:s.heap.objs.size<=a):a ∉ X.fs:=λhb=>by obtain ⟨_,o,ho,_⟩:=I.ok.funs.mem hb;exact absurd (Nat.lt_of_lt_of_le (Heap.lt_size ho) (Nat.le_trans I.sz h)) (Nat.lt_irrefl _)
theorem Inv.cne (I:Inv X pins σ H s):∀x c,X.env.cells.lookup x=some c->c≠X.env.locals:=λx c e z=>by obtain ⟨v,o,ho,hd⟩:=I.cell x c e;obtain ⟨m,⟨o',es,ep,ho',hd',_⟩,_⟩:=I.loc;rw [z,ho'] at ho;cases ho;rw [hd'] at hd;cases hd
theorem Inv.funs (I:Inv X pins σ H s):s.heap.FunFrames X.base X.outer:=by
 have all:∀(l:List Env),(∀b∈frs l,b∈X.fs)->X.s₀.heap.FunFrames X.base l->s.heap.FunFrames X.base l:=by
  intro l
  induction l with
  | nil=>intro _ _;trivial
  | cons env r ih=>
   intro hs hl;obtain ⟨hk,⟨L,o,hf,hn,ho,hd⟩,hr⟩:=hl;have hL:L∈X.fs:=hs L (by unfold frs;rw [List.filterMap_cons,hf];exact List.mem_cons_self);obtain ⟨sl,e⟩:=I.base.slot L o ho (I.ok.frf L hL) hL λz=>I.ok.exfs L z hL
   exact ⟨hk,⟨L,_,hf,hn,e,hd⟩,ih (λb hb=>hs b (by unfold frs;rw [List.filterMap_cons,hf];exact List.mem_cons_of_mem _ hb)) hr⟩
 exact all X.outer (λ_ hb=>hb) I.ok.funs
theorem Inv.stack (I:Inv X pins σ H s):s.heap.FunFrames X.base X.stack:=by
 rcases I.ok.stk with e | ⟨e,hf⟩
 ·rw [e];exact I.funs
 ·rw [e];obtain ⟨m,hn,_⟩:=I.loc;refine .cons (by rw [I.ok.kind];decide) hf hn ?_ I.funs;exact Heap.get?_none_of_le (Nat.le_trans I.ok.bsz I.ok.above)
theorem Inv.Ro (I:Inv X pins σ H s):∀b∈frs X.stack,b∈X.env.locals::X.fs:=λb hb=>by
 rcases I.ok.stk with e | ⟨e,hf⟩
 ·rw [e] at hb;exact List.mem_cons_of_mem _ hb
 ·rw [e] at hb;unfold frs at hb;rw [List.filterMap_cons,hf] at hb;exact hb
theorem Inv.ZBP (I:Inv X pins σ H s):∀b∈frs X.stack,H b=none:=λb hb=>by
 rcases List.mem_cons.mp (I.Ro b hb) with e | hb
 ·rw [e];exact I.free
 ·obtain ⟨_,o,ho,_⟩:=I.ok.funs.mem hb;exact I.base.free b o ho (I.ok.frf b hb) λz=>I.ok.exfs b z hb
theorem Inv.step {g':Array GenState} {d':Drawn} (I:Inv X pins σ H s)
  (hch:∀b∈ch,(b∈X.ex∨X.s₀.heap.objs.size<=b)/\b≠X.env.locals/\(∀x c,X.env.cells.lookup x=some c->c≠b)/\∀p∈X.pn++pins,p.1≠b)
  (keep:∀b o,b≠X.env.locals->b ∉ X.fs->b ∉ ch->s.heap.get? b=some o->H b=none->h'.get? b=some o)
  (slot:∀b o,b≠X.env.locals->b∈X.fs->b ∉ ch->s.heap.get? b=some o->H b=none->∃sl,h'.get? b=some {o with slots:=sl}) (free:∀b o,b ∉ ch->s.heap.get? b=some o->H b=none->H' b=none)
  (there:∀b o,b ∉ ch->s.heap.get? b=some o->∃o',h'.get? b=some o')
  (tups:∀b xs,H b=some (.tup xs)->H' b=some (.tup xs)) (frzs:∀b o u,H b=some (.frz o u)->H' b=some (.frz o u)) (tbls:∀b ps,H b=some (.tbl ps)->∃more,H' b=some (.tbl (ps++more)))
  (ns:∀m,s.heap.Ns X.env.locals m->h'.Ns X.env.locals m) (hok:HOk X.prog X.w H' h') (hg:AllBare g'):
  Inv X pins σ H' {s with heap:=h',gens:=g',drawn:=d',toks:=t'}:=by
 have neL:∀b o,X.s₀.heap.get? b=some o->b≠X.env.locals:=λb o e=>Nat.ne_of_lt (Nat.lt_of_lt_of_le (Heap.lt_size e) I.ok.above)
 have neC:∀b o,X.s₀.heap.get? b=some o->b ∉ X.ex->b ∉ ch:=λb o e hx hb=>by
  rcases (hch b hb).1 with z | z
  ·exact hx z
  ·exact absurd (Nat.lt_of_lt_of_le (Heap.lt_size e) z) (Nat.lt_irrefl _)
 have cellK:∀x c,X.env.cells.lookup x=some c->∀v,s.heap.IsCell c v->h'.IsCell c v:=λx c e v ⟨o,ho,hd⟩=>by
  have nch:c ∉ ch:=λz=>(hch c z).2.2.1 x c e rfl
  by_cases hc:c∈X.fs
  ·obtain ⟨sl,q⟩:=slot c o (I.cne x c e) hc nch ho (I.G7 x c e);exact ⟨_,q,hd⟩
  ·exact ⟨o,keep c o (I.cne x c e) hc nch ho (I.G7 x c e),hd⟩
 refine ⟨I.ok,I.os,hg,⟨λb o e n hb hx=> ?_,λb o e n hb hx=> ?_,λb o e n hx=> ?_,λb o e hx=> ?_,λb xs e=>tups b xs (I.base.tups b xs e),λb o xs e=>frzs b o xs (I.base.frzs b o xs e),λb ps e=> ?_⟩,?_,λx c e=> ?_,?_,λx c e=> ?_,λp hp=> ?_,hok,I.len⟩
 ·exact keep b o (neL b o e) hb (neC b o e hx) (I.base.keep b o e n hb hx) (I.base.free b o e n hx)
 ·obtain ⟨sl,e1⟩:=I.base.slot b o e n hb hx;obtain ⟨sl',e2⟩:=slot b _ (neL b o e) hb (neC b o e hx) e1 (I.base.free b o e n hx);exact ⟨sl',e2⟩
 ·obtain ⟨o',e1⟩:=I.base.there b o e hx;exact free b o' (neC b o e hx) e1 (I.base.free b o e n hx)
 ·obtain ⟨o',e1⟩:=I.base.there b o e hx;exact there b o' (neC b o e hx) e1
 ·obtain ⟨m1,e1⟩:=I.base.tbls b ps e;obtain ⟨m2,e2⟩:=tbls b _ e1;exact ⟨m1++m2,by rw [e2,Array.append_assoc]⟩
 ·obtain ⟨m,hn,hl⟩:=I.loc;refine ⟨m,ns m hn,λi x v e1 e2 e3=> ?_⟩;obtain ⟨u,r,l⟩:=hl i x v e1 e2 e3;refine ⟨u,r,?_⟩;rcases l with l | ⟨k,c,e,z⟩
  ·exact .inl l
  ·exact .inr ⟨k,c,e,cellK x c e _ z⟩
 ·obtain ⟨v,z⟩:=I.cell x c e;exact ⟨v,cellK x c e v z⟩
 ·obtain ⟨m,⟨o,_,_,ho,_⟩,_⟩:=I.loc;exact free _ o (λz=>(hch _ z).2.1 rfl) ho I.free
 ·obtain ⟨v,o,ho,hd⟩:=I.cell x c e;exact free c o (λz=>(hch c z).2.2.1 x c e rfl) ho (I.G7 x c e)
 ·obtain ⟨e,n,ne,nf,d⟩:=I.pin p hp;have nch:p.1 ∉ ch:=λz=>(hch p.1 z).2.2.2 p hp rfl
  exact ⟨keep p.1 p.2 ne nf nch e n,free p.1 p.2 nch e n,ne,nf,d⟩
theorem Inv.un (I:Inv X pins σ H s) (u:Un X.fs [] H H' s.heap h') (hok:HOk X.prog X.w H' h'):Inv X pins σ H' {s with heap:=h',toks:=t'}:=by
 obtain ⟨m,⟨o,es,ep,ho,r⟩,_⟩:=id I.loc;obtain ⟨sl,hL⟩:=u.any ho I.free (by simp)
 exact I.step (g':=s.gens) (d':=s.drawn) (ch:= []) (λ_ z=>nomatch z) (λb o _ hb _ e n=>u.keep b o e n hb (by simp)) (λb o _ hb _ e n=>u.slot b o e n hb (by simp)) (λb o _ e n=>u.free b o e n (by simp)) (λb o _ e=>u.there b o e (by simp)) u.tups u.frzs u.tbls (λm' hm=>by obtain ⟨o',es',ep',ho',r'⟩:=hm;rw [ho] at ho';cases ho';exact ⟨_,es',ep',hL,r'⟩) hok I.bare
theorem Inv.call {g':Array GenState} {d':Drawn} (I:Inv X pins σ H s) (u:Un (frs X.stack) ch H H' s.heap h') (hok:HOk X.prog X.w H' h') (hg:AllBare g')
  (hch:∀b∈ch,(b∈X.ex∨X.s₀.heap.objs.size<=b)/\b≠X.env.locals/\(∀x c,X.env.cells.lookup x=some c->c≠b)/\∀p∈X.pn++pins,p.1≠b):
  Inv X pins σ H' {s with heap:=h',gens:=g',drawn:=d',toks:=t'}:=by
 obtain ⟨m,⟨o,es,ep,ho,r⟩,_⟩:=id I.loc;obtain ⟨sl,hL⟩:=u.any ho I.free λz=>(hch _ z).2.1 rfl
 exact I.step (ch:=ch) hch (λb o hL hb hc e n=>u.keep b o e n (λz=>(List.mem_cons.mp (I.Ro b z)).elim hL hb) hc) (λb o _ _ hc e n=>u.any e n hc) (λb o hc e n=>u.free b o e n hc) (λb o hc e=>u.there b o e hc) u.tups u.frzs u.tbls (λm' hm=>by obtain ⟨o',es',ep',ho',r'⟩:=hm;rw [ho] at ho';cases ho';exact ⟨_,es',ep',hL,r'⟩) hok hg
theorem Inv.turned {it:Addr} (I:Inv X pins σ H s) (k:∀b o,b≠it->s.heap.get? b=some o->h'.get? b=some o) (hn:H it=none) (hL:it≠X.env.locals)
  (h1:it∈X.ex∨X.s₀.heap.objs.size<=it) (h2:∀x c,X.env.cells.lookup x=some c->c≠it) (h3:∀p∈X.pn++pins,p.1≠it):Inv X pins σ H {s with heap:=h',toks:=t'}:=by
 have nit:∀b u,H b=some u->b≠it:=λb u e z=>by rw [z,hn] at e;cases e
 refine I.step (g':=s.gens) (d':=s.drawn) (ch:= [it]) (λb hb=> ?_) (λb o _ _ hc e _=>k b o (λz=>hc (by simp [z])) e) (λb o _ _ hc e _=>⟨o.slots,k b o (λz=>hc (by simp [z])) e⟩) (λ_ _ _ _ n=>n)
  (λb o hc e=>⟨o,k b o (λz=>hc (by simp [z])) e⟩) (λ_ _ e=>e) (λ_ _ _ e=>e) (λb ps e=>⟨#[],by rw [e];simp⟩) (λm hm=> ?_) (λb u e=> ?_) I.bare
 ·have e:b=it:=by simpa using hb
  subst e;exact ⟨h1,hL,h2,h3⟩
 ·obtain ⟨o,es,ep,ho,r⟩:=hm;exact ⟨o,es,ep,k _ o (Ne.symm hL) ho,r⟩
 ·refine (I.hok b u e).stay (λc v hc q=>k c v ?_ q) (λ_ q=>q) λ_ _ q=>q
  rcases hc with z | z
  ·rw [z];exact nit b u e
  ·exact nit c _ z
theorem Inv.tok (I:Inv X pins σ H s) (t:Nat):Inv X pins σ H {s with toks:=t}:=I.un (h':=s.heap) (t':=t) Un.refl I.hok
theorem Inv.kept (I:Inv X pins σ H s) (k:∀b u,s.heap.get? b=some u->h'.get? b=some u):Inv X pins σ H {s with heap:=h',toks:=t'}:=I.un (Un.kept k) (I.hok.kept k)
theorem Inv.laid (I:Inv X pins σ H s) (k:∀b u,s.heap.get? b=some u->h'.get? b=some u) (hp:s.heap.objs.size<=a) (new:ObjOk X.prog X.w (upd H a o) h' a o):
  Inv X pins σ (upd H a o) {s with heap:=h',toks:=t'}:=I.un (Un.laid k hp (I.hok.fresh hp)) (I.hok.laid k hp new)
theorem Inv.write {x e:Addr} (I:Inv X pins σ H s) (mu:Mut (H x)) (he:e=x∨H e=some (.own x)) (k:∀b u,b≠e->s.heap.get? b=some u->h'.get? b=some u) (heo:∃u,h'.get? e=some u)
  (new:ObjOk X.prog X.w (upd H x o) h' x o):Inv X pins σ (upd H x o) {s with heap:=h',toks:=t'}:=I.un (Un.write mu he k heo) (I.hok.write mu he k heo new)
theorem Inv.weak {σ':List (Option V)} (I:Inv X pins σ H s) (hl:σ'.length=σ.length) (w:∀(i:Nat) v,σ'[i]? =some (some v)->σ[i]? =some (some v)):Inv X pins σ' H s:=
 ⟨I.ok,I.os,I.bare,I.base,let ⟨m,hn,hl'⟩:=I.loc;⟨m,hn,λi x v e1 e2 e3=>hl' i x v e1 (w i v e2) e3⟩,I.cell,I.free,I.G7,I.pin,I.hok,hl.trans I.len⟩
theorem Inv.Gb {pins':List (Addr×Obj)} (I:Inv X pins σ H s) (h:∀p∈pins',s.heap.get? p.1=some p.2/\H p.1=none/\p.1≠X.env.locals/\p.1 ∉ X.fs/\∀v,p.2.data≠ .cell v):Inv X pins' σ H s:=
 ⟨I.ok,I.os,I.bare,I.base,I.loc,I.cell,I.free,I.G7,λp hp=>(List.mem_append.mp hp).elim (λz=>I.pin p (List.mem_append_left _ z)) (h p),I.hok,I.len⟩
theorem ZBe {N:List Str} (hN:N.Nodup) (a:N[i]? =some x) (b:N[j]? =some x):i=j:=by obtain ⟨h1,e1⟩:=List.getElem?_eq_some_iff.mp a;obtain ⟨h2,e2⟩:=List.getElem?_eq_some_iff.mp b;exact (List.getElem_inj hN).mp (e1.trans e2.symm)
theorem ZBF {M:Model} {A:Around} {E:Value->Shared->Prop} {v:V} (I:Inv X pins σ H s) (hN:X.N.Nodup) (hi:X.N[i]? =some x) (hx:Loc X.env.scope x) (r:RelV v u)
  (h:∀s',Inv X pins (σ.set i (some v)) H s'->(∃a,Heap.SameBut a s.heap s'.heap/\(a=X.env.locals∨X.env.cells.lookup x=some a))->Q () s') (hf:X.fn x=true∨X.env.scope.names.lookup x=some .local:=by first | exact .inl rfl | exact .inr rfl | assumption):wpAny M A (storeName X.env x u) Q E s:=by
 obtain ⟨m,hn,hl⟩:=id I.loc;have hcls:(X.env.scope.kind == .class || (X.env.scope.kind == .module && X.env.locals != X.env.globals))=false:=by rw [I.ok.kind];rfl
 have hiσ:i < σ.length:=by rw [I.len];exact (List.getElem?_eq_some_iff.mp hi).1
 have cne:=I.cne;have tracked:∀{a:Addr} {h':Heap},(∃o,s.heap.get? a=some o/\H a=none)->Heap.SameBut a s.heap h'->HOk X.prog X.w H h':=λ{a h'} ha hs b ob e=>by
  obtain ⟨_,_,hfree⟩:=ha;refine (I.hok b ob e).stay (λc w' hc q=>(hs.2 c ?_).trans q) (λ_ q=>q) λ_ _ q=>q
  rintro rfl;rcases hc with rfl | hc
  ·rw [hfree] at e;cases e
  ·rw [hfree] at hc;cases hc
 rcases hx with hk | hk
 ·refine wpAny_storeName_local hk hn (λh' hn' hs=> ?_) hcls;obtain ⟨oL,_,_,hoL,_⟩:=id hn;refine h _ ⟨I.ok,I.os,I.bare,⟨λb o e n hb hx=> ?_,λb o e n hb hx=> ?_,I.base.free,λb o e hx=> ?_,I.base.tups,I.base.frzs,I.base.tbls⟩,⟨_,hn',λj y v' e1 e2 e3=> ?_⟩,λy c e=> ?_,I.free,I.G7,λp hp=> ?_,tracked ⟨oL,hoL,I.free⟩ hs,by simpa using I.len⟩ ⟨_,hs,.inl rfl⟩
  ·exact (hs.2 b (Nat.ne_of_lt (Nat.lt_of_lt_of_le (Heap.lt_size e) I.ok.above))).trans (I.base.keep b o e n hb hx)
  ·obtain ⟨sl,e1⟩:=I.base.slot b o e n hb hx;exact ⟨sl,(hs.2 b (Nat.ne_of_lt (Nat.lt_of_lt_of_le (Heap.lt_size e) I.ok.above))).trans e1⟩
  ·obtain ⟨o',e1⟩:=I.base.there b o e hx;exact ⟨o',(hs.2 b (Nat.ne_of_lt (Nat.lt_of_lt_of_le (Heap.lt_size e) I.ok.above))).trans e1⟩
  ·by_cases hj:j=i
   ·subst hj;rw [hi] at e1;cases e1;rw [List.getElem?_set_self hiσ] at e2;cases e2;exact ⟨u,r,.inl ⟨hk,by simp⟩⟩
   ·rw [List.getElem?_set_ne (Ne.symm hj)] at e2;obtain ⟨u',r',q⟩:=hl j y v' e1 e2 e3;refine ⟨u',r',?_⟩;rcases q with ⟨k,e⟩ | ⟨k,c,e,z⟩
    ·refine .inl ⟨k,?_⟩;have:y≠x:=λe=>hj (ZBe hN e1 (e ▸ hi))
     simp [this,e]
    ·exact .inr ⟨k,c,e,z.sameBut hs (cne y c e)⟩
  ·obtain ⟨w',z⟩:=I.cell y c e;exact ⟨w',z.sameBut hs (cne y c e)⟩
  ·obtain ⟨e,n,ne,nf,d⟩:=I.pin p hp;exact ⟨(hs.2 p.1 ne).trans e,n,ne,nf,d⟩
 ·have hfn:X.fn x=true:=by
   rcases hf with z | z
   ·exact z
   ·rw [z] at hk;cases hk
  obtain ⟨c,hc⟩:=I.ok.has x (.inl hk);obtain ⟨w',z⟩:=I.cell x c hc;refine wpAny_storeName_cell I.ok.kind hk hc z (λh' hc' hs=> ?_);obtain ⟨oc,hoc,hocd⟩:=id z;refine h {s with heap:=h'} ⟨I.ok,I.os,I.bare,⟨λb o e n hb hx=> ?_,λb o e n hb hx=> ?_,I.base.free,λb o e hx=> ?_,I.base.tups,I.base.frzs,I.base.tbls⟩,⟨m,hn.sameBut hs (Ne.symm (cne x c hc)),λj y v' e1 e2 e3=> ?_⟩,λy c' e=> ?_,I.free,I.G7,λp hp=> ?_,tracked ⟨oc,hoc,I.G7 x c hc⟩ hs,by simpa using I.len⟩ ⟨c,hs,.inr hc⟩
  ·exact (hs.2 b (Nat.ne_of_lt (Nat.lt_of_lt_of_le (Heap.lt_size e) (I.ok.cab x c hfn hc)))).trans (I.base.keep b o e n hb hx)
  ·obtain ⟨sl,e1⟩:=I.base.slot b o e n hb hx;exact ⟨sl,(hs.2 b (Nat.ne_of_lt (Nat.lt_of_lt_of_le (Heap.lt_size e) (I.ok.cab x c hfn hc)))).trans e1⟩
  ·obtain ⟨o',e1⟩:=I.base.there b o e hx;exact ⟨o',(hs.2 b (Nat.ne_of_lt (Nat.lt_of_lt_of_le (Heap.lt_size e) (I.ok.cab x c hfn hc)))).trans e1⟩
  ·by_cases hj:j=i
   ·subst hj;rw [hi] at e1;cases e1;rw [List.getElem?_set_self hiσ] at e2;cases e2;exact ⟨u,r,.inr ⟨.inl hk,c,hc,hc'⟩⟩
   ·rw [List.getElem?_set_ne (Ne.symm hj)] at e2;obtain ⟨u',r',q⟩:=hl j y v' e1 e2 e3;refine ⟨u',r',?_⟩;rcases q with q | ⟨k,c',e,z'⟩
    ·exact .inl q
    ·refine .inr ⟨k,c',e,z'.sameBut hs ?_⟩;rintro rfl;exact hj (ZBe hN e1 (I.ok.inj _ _ _ e hc ▸ hi))
  ·by_cases hcc:c'=c
   ·subst hcc;exact ⟨_,hc'⟩
   ·obtain ⟨w2,z2⟩:=I.cell y c' e;exact ⟨w2,z2.sameBut hs hcc⟩
  ·obtain ⟨e,n,ne,nf,d⟩:=I.pin p hp;refine ⟨(hs.2 p.1 ?_).trans e,n,ne,nf,d⟩;intro q;rw [q,hoc] at e;have q':oc=p.2:=Option.some.inj e;exact d w' (by rw [<-q'];exact hocd)
theorem ZAQ {M:Model} {A:Around} {E:Value->Shared->Prop} {v:V} (I:Inv X pins σ H s) (hN:X.N.Nodup) (hi:X.N[i]? =some x) (hx:Loc X.env.scope x) (r:RelV v u)
  (h:∀s',Inv X pins (σ.set i (some v)) H s'->Q () s') (hf:X.fn x=true∨X.env.scope.names.lookup x=some .local:=by first | exact .inl rfl | exact .inr rfl | assumption):wpAny M A (storeName X.env x u) Q E s:=
 ZBF I hN hi hx r (λs' I' _=>h s' I') hf
theorem Inv.call' {s':Shared} (I:Inv X pins σ H s) (ho:s'.os=s.os) (u:Un (frs X.stack) ch H H' s.heap s'.heap) (hok:HOk X.prog X.w H' s'.heap) (hg:AllBare s'.gens)
  (hch:∀b∈ch,(b∈X.ex∨X.s₀.heap.objs.size<=b)/\b≠X.env.locals/\(∀x c,X.env.cells.lookup x=some c->c≠b)/\∀p∈X.pn++pins,p.1≠b):Inv X pins σ H' s':=by
 obtain ⟨h',g',d',t',o'⟩:=s';have e:o'=s.os:=ho;subst e;exact I.call (g':=g') (t':=t') (d':=d') u hok hg hch
end
abbrev XK:=Value->Option Addr->Hp->Prop
abbrev St:=List (Option V)
variable {σ:St}
abbrev VK:=V->Hp->Prop
abbrev TE:=St->Hp->VK->Prop
variable {t:TE}
abbrev TT:=St->Hp->(Bool->Hp->Prop)->Prop
abbrev TA:=St->Hp->(List V->Hp->Prop)->Prop
structure Ends where
 nx:St->Hp->Prop
 rt:VK
 bk:St->Hp->Prop:=λ_ _=>False
 ct:St->Hp->Prop:=λ_ _=>False
abbrev TS:=Ends->St->Hp->Prop
def EP (X:Cx) (pins:List (Addr×Obj)) (σ:St) (Q:VK) (u:Value) (s':Shared):Prop:=∃v H',Inv X pins σ H' s'/\RelV v u/\Q v H'
def TP (X:Cx) (pins:List (Addr×Obj)) (σ:St) (Q:Bool->Hp->Prop) (b:Bool) (s':Shared):Prop:=∃H',Inv X pins σ H' s'/\Q b H'
def AP (X:Cx) (pins:List (Addr×Obj)) (σ:St) (Q:List V->Hp->Prop) (us:List Value) (s':Shared):Prop:=∃vs H',Inv X pins σ H' s'/\Vals vs us/\Q vs H'
def SP (X:Cx) (pins:List (Addr×Obj)) (D:Ends) (f:Flow) (s':Shared):Prop:=
 match f with
 | .next=>∃σ' H',Inv X pins σ' H' s'/\D.nx σ' H'
 | .brk=>∃σ' H',Inv X pins σ' H' s'/\D.bk σ' H'
 | .cont=>∃σ' H',Inv X pins σ' H' s'/\D.ct σ' H'
 | .ret u=>∃v σ' H',Inv X pins σ' H' s'/\RelV v u/\D.rt v H'
def PE (X:Cx) (e:Expr) (t:TE):Prop:=
 ∀(pins:List (Addr×Obj)) (s:Shared) (σ:St) (H:Hp) (Q:VK),Inv X pins σ H s->t σ H Q->wpAny (model X.prog X.w) X.A (eval e X.env) (EP X pins σ Q) X.xe s
def PT (X:Cx) (e:Expr) (t:TT):Prop:=
 ∀(pins:List (Addr×Obj)) (s:Shared) (σ:St) (H:Hp) (Q:Bool->Hp->Prop),Inv X pins σ H s->t σ H Q->wpAny (model X.prog X.w) X.A (isTrue e X.env (eval e X.env)) (TP X pins σ Q) X.xe s
def PW (X:Cx) (e:Expr) (t:TT):Prop:=
 ∀(whole:Sem Value) (pins:List (Addr×Obj)) (s:Shared) (σ:St) (H:Hp) (Q:Bool->Hp->Prop),Inv X pins σ H s->t σ H Q->wpAny (model X.prog X.w) X.A (isTrue e X.env whole) (TP X pins σ Q) X.xe s
theorem PW.pt {t:TT} (h:PW X e t):PT X e t:=h _
def PA (X:Cx) (es:List Expr) (t:TA):Prop:=
 ∀(pos:Pos) (pins:List (Addr×Obj)) (s:Shared) (σ:St) (H:Hp) (Q:List V->Hp->Prop),Inv X pins σ H s->t σ H Q->wpAny (model X.prog X.w) X.A (spliced (backTo pos (starEach es X.env))) (AP X pins σ Q) X.xe s
def PS (X:Cx) (st:Stmt) (t:TS):Prop:=
 ∀(pins:List (Addr×Obj)) (s:Shared) (σ:St) (H:Hp) (D:Ends),Inv X pins σ H s->t D σ H->wpAny (model X.prog X.w) X.A (exec st X.env) (SP X pins D) X.xe s
def PSs (X:Cx) (st:List Stmt) (t:TS):Prop:=
 ∀(pins:List (Addr×Obj)) (s:Shared) (σ:St) (H:Hp) (D:Ends),Inv X pins σ H s->t D σ H->wpAny (model X.prog X.w) X.A (execs st X.env) (SP X pins D) X.xe s
theorem thn {α:Type} {t:Sem α} {Q Q':α->Shared->Prop} {M:Model} (h:wpAny M A t Q E s) (hQ:∀a s,Q a s->Q' a s):wpAny M A t Q' E s:=wpAny_mono h hQ λ_ _ x=>x
section
variable {X:Cx}
theorem bin {a b:Expr} {ta tb:TE} (ha:PE X a ta) (hb:PE X b tb) {R:V->V->Hp->Prop} (I:Inv X pins σ H s) (h:ta σ H λx H1=>tb σ H1 λy H2=>R x y H2)
  {α:Type} {Q:α->Shared->Prop} {f:Value->Value->Sem α}
  (hf:∀v u s2 x y H2,Inv X pins σ H2 s2->RelV x v->RelV y u->R x y H2->wpAny (model X.prog X.w) X.A (f v u) Q X.xe s2):
  wpAny (model X.prog X.w) X.A (eval a X.env) (λv s₁=>wpAny (model X.prog X.w) X.A (eval b X.env) (λu s₂=>wpAny (model X.prog X.w) X.A (f v u) Q X.xe s₂) X.xe s₁) X.xe s:=by
 refine thn (ha pins s σ H _ I h) λv s1 ⟨x,H1,I1,r1,q1⟩=> ?_
 refine thn (hb pins s1 σ H1 _ I1 q1) λu s2 ⟨y,H2,I2,r2,q2⟩=> ?_
 exact hf v u s2 x y H2 I2 r1 r2 q2
def tVar (i:Nat):TE:=λσ H Q=>∃v,σ[i]? =some (some v)/\Q v H
def tC (v:V):TE:=λ_ H Q=>Q v H
theorem ZEV {pos:Pos} (hN:X.N[i]? =some x) (hv:Vis X.env.scope x) (hd:(x == ("__debug__":Str))=false:=by decide) (hcd:(x == ("__classdict__":Str))=false:=by decide):PE X (.Name x pos) (tVar i):=by
 intro pins s σ H Q I h;obtain ⟨v,e,h⟩:=h;obtain ⟨m,hn,hl⟩:=I.loc;obtain ⟨u,r,l⟩:=hl i x v hN e hv;have fin:EP X pins σ Q u s:=⟨v,H,I,r,h⟩;rcases l with ⟨hk,hm⟩ | ⟨hk,c,hc,hcell⟩
 ·exact wpAny_Name (wpAny_loadName_local I.ok.kind hk hn hm fin) hd
 ·rcases hk with hk | hk
  ·exact wpAny_Name (wpAny_loadName_cell I.ok.kind hk hc hcell fin) hd
  ·exact wpAny_Name (wpAny_loadName_free I.ok.kind hk hc hcell fin hcd) hd
theorem ZF2 {i j pos}:PE X (.Constant (.int i) j pos) (tC (.int i)):=λ_ _ _ H _ I h=>wpAny_Constant_int ⟨.int i,H,I.tok _,⟨_,rfl⟩,h⟩
theorem ZDd {b j pos}:PE X (.Constant (.bool b) j pos) (tC (.bl b)):=λ_ _ _ H _ I h=>Constant_bool ⟨.bl b,H,I,rfl,h⟩
theorem ZFK {j pos}:PE X (.Constant .none j pos) (tC .non):=λ_ _ _ H _ I h=>Constant_none ⟨.non,H,I,rfl,h⟩
theorem ZCM {x j pos}:PE X (.Constant (.str x) j pos) (tC (.str x)):=λ_ _ _ H _ I h=>Calls.Constant_str ⟨.str x,H,I.tok _,⟨_,rfl⟩,h⟩
def Gl (X:Cx) (x:Str):Prop:=X.env.kindOf x=some .globalImplicit
theorem ZB4 {E:Value->Shared->Prop} {pos:Pos} {Q:Value->Shared->Prop} (I:Inv X pins σ H s) (hg:Gl X x) (hm:X.mg x=some u) (h:Q u s)
  (hd:(x == ("__debug__":Str))=false:=by decide):wpAny (model X.prog X.w) X.A (eval (.Name x pos) X.env) Q E s:=
 Calls.Name_function_global I.ok.kind hg (Calls.loadGlobal_global (by rw [I.ok.glob];exact I.mod.glob.keeps I.bk) hm h) hd
theorem Mr {E:Value->Shared->Prop} {pos:Pos} {Q:Value->Shared->Prop} (I:Inv X pins σ H s) (hg:Gl X x) (hm:X.mg x=none) (hv:bootBuiltins x=some u) (h:Q u s)
  (hn:x≠"__name__":=by decide) (hd:(x == ("__debug__":Str))=false:=by decide):wpAny (model X.prog X.w) X.A (eval (.Name x pos) X.env) Q E s:=by
 obtain ⟨mb,h1,h2⟩:=I.mod.blt;exact Calls.Name_function_global I.ok.kind hg (Calls.loadGlobal_builtin (by rw [I.ok.glob];exact I.mod.glob.keeps I.bk) hm (by rw [I.ok.blt];exact h1.keeps I.bk) ((h2 x hn).trans hv) h) hd
theorem ZDo {v:V} {pos:Pos} (hg:Gl X x) (hm:X.mg x=none) (hv:bootBuiltins x=some u) (r:RelV v u) (hn:x≠"__name__":=by decide) (hd:(x == ("__debug__":Str))=false:=by decide):PE X (.Name x pos) (tC v):=
 λ_ _ _ H _ I h=>Mr I hg hm hv ⟨v,H,I,r,h⟩ hn hd
variable {a b:Expr} {ta tb:TE} {pos:Pos}
def PC (X:Cx) (op:CmpOp) (a b:Expr) (t:TE):Prop:=
 ∀(pins:List (Addr×Obj)) (s:Shared) (σ:St) (H:Hp) (Q:VK),Inv X pins σ H s->t σ H Q->
  wpAny (model X.prog X.w) X.A (eval a X.env) (λv s₁=>wpAny (model X.prog X.w) X.A (eval b X.env) (λu s₂=>wpAny (model X.prog X.w) X.A (compareOp op v u) (EP X pins σ Q) X.xe s₂) X.xe s₁) X.xe s
theorem nobehind (b:Expr) (h:op≠ .In) (h2:op≠ .NotIn):behindInMarks op b=false:=by
 have e1:(op == CmpOp.In)=false:=by cases op <;> first | rfl | exact absurd rfl h
 have e2:(op == CmpOp.NotIn)=false:=by cases op <;> first | rfl | exact absurd rfl h2
 cases b <;> simp [behindInMarks,e1,e2]
def tB (t:TE):TT:=λσ H Q=>t σ H λx H1=>∃c,x=.bl c/\Q c H1
theorem pt_cmp (h:PC X op a b t) (h1:behindInMarks op b=false:=by first | exact nobehind _ (by decide) (by decide) | rfl):PT X (.Compare a [op] [b] pos) (tB t):=by intro pins s σ H Q I hw;refine wpAny_isTrue_Compare1 (thn (h pins s σ H _ I hw) λv s1 h1=>thn h1 λu s2 h2=>thn h2 λc s3 ⟨x,H1,I1,r1,q1⟩=> ?_) h1;obtain ⟨d,rfl,q⟩:=q1;cases r1;exact wpAny_truthy_bool ⟨H1,I1,q⟩
theorem ZGX (h:PE X e t) (he:∀whole,isTrue e X.env whole=(do let v<-whole;standAt e.pos;holding [v] (truthy v)):=by intro _;rfl):PT X e (tB t):=by intro pins s σ H Q I hw;refine isTrue_plain (thn (h pins s σ H _ I hw) λv s1 ⟨x,H1,I1,r1,q1⟩=> ?_) (he _);obtain ⟨d,rfl,q⟩:=q1;cases r1;exact wpAny_truthy_bool ⟨H1,I1,q⟩
variable {tA tB':TT} {rest:List Expr}
def tAnd (t u:TT):TT:=λσ H Q=>t σ H λc H1=>if c=true then u σ H1 Q else Q false H1
def tOr (t u:TT):TT:=λσ H Q=>t σ H λc H1=>if c=true then Q true H1 else u σ H1 Q
def tNot (t:TT):TT:=λσ H Q=>t σ H λc H1=>Q (!c) H1
theorem ZFr (ha:PT X a tA):PW X (.BoolOp .And [a] pos) tA:=by
 intro wh pins s σ H Q I h;refine isTrue_and (thn (ha pins s σ H Q I h) λc s1 e=> ?_);cases c with
 | true=>exact isTrue_and_nil e
 | false=>exact e
theorem ZCY (ha:PT X a tA):PW X (.BoolOp .Or [a] pos) tA:=by
 intro wh pins s σ H Q I h;refine isTrue_or (thn (ha pins s σ H Q I h) λc s1 e=> ?_);cases c with
 | false=>exact isTrue_or_nil e
 | true=>exact e
theorem ZDF (ha:PT X a tA) (hb:PW X (.BoolOp .And (b::rest) pos) tB'):PW X (.BoolOp .And (a::b::rest) pos) (tAnd tA tB'):=by
 intro wh pins s σ H Q I h;refine isTrue_and (thn (ha pins s σ H _ I h) λc s1 ⟨H1,I1,q1⟩=> ?_);cases c with
 | true=>exact hb wh pins s1 σ H1 Q I1 q1
 | false=>exact ⟨H1,I1,q1⟩
theorem ZFv (ha:PT X a tA) (hb:PW X (.BoolOp .Or (b::rest) pos) tB'):PW X (.BoolOp .Or (a::b::rest) pos) (tOr tA tB'):=by
 intro wh pins s σ H Q I h;refine isTrue_or (thn (ha pins s σ H _ I h) λc s1 ⟨H1,I1,q1⟩=> ?_);cases c with
 | true=>exact ⟨H1,I1,q1⟩
 | false=>exact hb wh pins s1 σ H1 Q I1 q1
theorem ZDN (ha:PT X a tA):PT X (.UnaryOp .Not a pos) (tNot tA):=by intro pins s σ H Q I h;exact isTrue_not (ha pins s σ H (λc H1=>Q (!c) H1) I h)
def ZER (ta tb:TE):TE:=λσ H Q=>ta σ H λx H1=>∃c,x=.bl c/\if c=true then tb σ H1 Q else Q (.bl false) H1
def tOrV (ta tb:TE):TE:=λσ H Q=>ta σ H λx H1=>∃c,x=.bl c/\if c=true then Q (.bl true) H1 else tb σ H1 Q
theorem ZGO {op} (h:PE X a t):PE X (.BoolOp op [a] pos) t:=λpins s σ H Q I hw=>BoolOp_one (h pins s σ H Q I hw)
theorem ZE8 (ha:PE X a ta) (hb:PE X (.BoolOp .And (b::rest) pos) tb):PE X (.BoolOp .And (a::b::rest) pos) (ZER ta tb):=by
 intro pins s σ H Q I h;refine BoolOp_and (thn (ha pins s σ H _ I h) λv s1 ⟨x,H1,I1,r1,q1⟩=> ?_);obtain ⟨c,rfl,q1⟩:=q1;cases r1;refine wpAny_truthy_bool ?_;cases c with
 | true=>exact hb pins s1 σ H1 Q I1 q1
 | false=>exact ⟨.bl false,H1,I1,rfl,q1⟩
theorem ZB7 (ha:PE X a ta) (hb:PE X (.BoolOp .Or (b::rest) pos) tb):PE X (.BoolOp .Or (a::b::rest) pos) (tOrV ta tb):=by
 intro pins s σ H Q I h;refine BoolOp_or (thn (ha pins s σ H _ I h) λv s1 ⟨x,H1,I1,r1,q1⟩=> ?_);obtain ⟨c,rfl,q1⟩:=q1;cases r1;refine wpAny_truthy_bool ?_;cases c with
 | false=>exact hb pins s1 σ H1 Q I1 q1
 | true=>exact ⟨.bl true,H1,I1,rfl,q1⟩
end
def SqL (K:PySem.W.Frag) (H:Hp) (a:Addr) (xs:List V):Prop:=
 Rd H a (.lst xs)∨
  ∃(o:Obj) (its:Array Value) (n:Nat),K.lookup a=some o/\o.cls=.type "list"/\o.dict=none/\o.data=.seq its n/\its.size<=sizeLine/\Vals xs its.toList
def SqT (K:PySem.W.Frag) (H:Hp) (a:Addr) (xs:List V):Prop:=
 Rd H a (.tup xs)∨
  ∃(o:Obj) (its:Array Value) (n:Nat),K.lookup a=some o/\o.cls=.type "tuple"/\o.data=.seq its n/\its.size<=sizeLine/\Vals xs its.toList
def absV:Value->Option V
 | .none=>some .non
 | .bool b=>some (.bl b)
 | .int i _=>some (.int i)
 | .str x _=>some (.str x)
 | .bytes b _=>some (.byt b)
 | .float b _=>some (.flt b)
 | .ref a=>some (.ref a)
 | .type n=>some (.ty n)
 | _=>none
theorem RelV.abs {x:V} (r:RelV x u):absV u=some x:=by
 cases x with
 | non=>cases r;rfl
 | bl _=>cases r;rfl
 | int _=>obtain ⟨t,rfl⟩:=r;rfl
 | str _=>obtain ⟨t,rfl⟩:=r;rfl
 | byt _=>obtain ⟨t,rfl⟩:=r;rfl
 | flt _=>obtain ⟨t,rfl⟩:=r;rfl
 | ref _=>cases r;rfl
 | ty _=>cases r;rfl
theorem RelV.inj {x y:V} (r:RelV x u) (q:RelV y u):x=y:=Option.some.inj (r.abs.symm.trans q.abs)
theorem Vals.inj:∀{xs ys:List V} {us:List Value},Vals xs us->Vals ys us->xs=ys
 | _,_,_,.nil,.nil=>rfl
 | _,_,_,.cons r t,.cons r' t'=>by rw [r.inj r',Vals.inj t t']
section
variable {X:Cx} {pins:List (Addr×Obj)} {σ:St} {H:Hp} {s:Shared} {a:Addr} {xs ys:List V}
theorem SqL.of (h:H a=some (.lst xs)):SqL K H a xs:=.inl (.inl h)
theorem SqT.of (h:H a=some (.tup xs)):SqT K H a xs:=.inl (.inl h)
theorem Inv.list (I:Inv X pins σ H s) (h:SqL X.K H a xs):∃its:List Value,Vals xs its/\PlainL s.heap a its.toArray/\xs.length<=sizeLine:=by
 rcases h with h | ⟨o,its,n,hk,hc,hd,hs,hz,r⟩
 ·obtain ⟨z,its,n,r,e⟩:=h.ok I.hok;exact ⟨its,r,⟨_,n,e,rfl,rfl,rfl⟩,z⟩
 ·refine ⟨its.toList,r,⟨o,n,I.kIn a o hk,hc,hd,by simpa using hs⟩,?_⟩;have e:=r.length;simp only [Array.length_toList] at e;omega
theorem Inv.tuple (I:Inv X pins σ H s) (h:SqT X.K H a xs):∃its:List Value,Vals xs its/\IsTup s.heap a its.toArray/\xs.length<=sizeLine:=by
 rcases h with h | ⟨o,its,n,hk,hc,hs,hz,r⟩
 ·obtain ⟨z,its,r,p⟩:=h.ok I.hok;exact ⟨its,r,p,z⟩
 ·refine ⟨its.toList,r,⟨o,I.kIn a o hk,hc,n,by simpa using hs⟩,?_⟩;have e:=r.length;simp only [Array.length_toList] at e;omega
theorem Inv.Wn (I:Inv X pins σ H s) (h:SqL X.K H a xs) (h':SqL X.K H a ys):xs=ys:=by
 obtain ⟨its,r,⟨o,n,e,_,_,d⟩,_⟩:=I.list h;obtain ⟨its',r',⟨o',n',e',_,_,d'⟩,_⟩:=I.list h';rw [e] at e';cases e';rw [d] at d';injection d' with d1 _
 have:its=its':=by simpa using congrArg Array.toList d1
 subst this;exact r.inj r'
theorem Inv.W3 (I:Inv X pins σ H s) (h:SqT X.K H a xs) (h':SqT X.K H a ys):xs=ys:=by
 obtain ⟨its,r,⟨o,e,_,n,d⟩,_⟩:=I.tuple h;obtain ⟨its',r',⟨o',e',_,n',d'⟩,_⟩:=I.tuple h';rw [e] at e';cases e';rw [d] at d';injection d' with d1 _
 have:its=its':=by simpa using congrArg Array.toList d1
 subst this;exact r.inj r'
end
abbrev Cx.wish (X:Cx) (E:Value->Shared->Prop):Cx:={X with xe:=E}
abbrev Cx.nox (X:Cx):Cx:=X.wish λ_ _=>False
theorem Cx.Ok.wish (ok:X.Ok) (E:Value->Shared->Prop):(X.wish E).Ok:=
 ⟨ok.mod,ok.kind,ok.glob,ok.blt,ok.above,ok.inj,ok.has,ok.cab,ok.hd,ok.frames,ok.stk,ok.exf,ok.bs,ok.bsz,ok.noex,ok.exfs,ok.funs,ok.frf⟩
theorem Cx.Ok.unwish (ok:(X.wish E).Ok):X.Ok:=
 ⟨ok.mod,ok.kind,ok.glob,ok.blt,ok.above,ok.inj,ok.has,ok.cab,ok.hd,ok.frames,ok.stk,ok.exf,ok.bs,ok.bsz,ok.noex,ok.exfs,ok.funs,ok.frf⟩
section
variable {X:Cx} {pins:List (Addr×Obj)} {σ:St} {H:Hp} {s:Shared} {E:Value->Shared->Prop}
theorem Inv.wish (I:Inv X pins σ H s) (E:Value->Shared->Prop):Inv (X.wish E) pins σ H s:=⟨I.ok.wish E,I.os,I.bare,I.base,I.loc,I.cell,I.free,I.G7,I.pin,I.hok,I.len⟩
theorem Inv.unwish (I:Inv (X.wish E) pins σ H s):Inv X pins σ H s:=⟨I.ok.unwish,I.os,I.bare,I.base,I.loc,I.cell,I.free,I.G7,I.pin,I.hok,I.len⟩
theorem SP.unwish {D:Ends} {f:Flow} {s':Shared} (h:SP (X.wish E) pins D f s'):SP X pins D f s':=by
 cases f with
 | next=>obtain ⟨σ',H',I,q⟩:=h;exact ⟨σ',H',I.unwish,q⟩
 | brk=>obtain ⟨σ',H',I,q⟩:=h;exact ⟨σ',H',I.unwish,q⟩
 | cont=>obtain ⟨σ',H',I,q⟩:=h;exact ⟨σ',H',I.unwish,q⟩
 | ret u=>obtain ⟨v,σ',H',I,r,q⟩:=h;exact ⟨v,σ',H',I.unwish,r,q⟩
theorem PE.nox (h:PE X.nox e t):PE X e t:=λpins s σ H Q I hw=>
 wpAny_mono (h pins s σ H Q (I.wish _) hw) (λ_ _ ⟨v,H',I',r,q⟩=>⟨v,H',I'.unwish,r,q⟩) λ_ _ z=>False.elim z
theorem PT.nox {t:TT} (h:PT X.nox e t):PT X e t:=λpins s σ H Q I hw=>
 wpAny_mono (h pins s σ H Q (I.wish _) hw) (λ_ _ ⟨H',I',q⟩=>⟨H',I'.unwish,q⟩) λ_ _ z=>False.elim z
theorem PSs.nox {st:List Stmt} {t:TS} (h:PSs X.nox st t):PSs X st t:=λpins s σ H D I hw=>
 wpAny_mono (h pins s σ H D (I.wish _) hw) (λ_ _ q=>q.unwish) λ_ _ z=>False.elim z
end
section
variable {X:Cx} {st:Stmt} {rest:List Stmt} {t u:TS} {e:Expr} {te:TE} {pos:Pos}
def ZCn:TS:=λD σ H=>D.nx σ H
def tSeq (t u:TS):TS:=λD σ H=>t {D with nx:=u D} σ H
theorem ZCQ:PSs X [] ZCn:=λ_ _ σ H _ I h=>wpAny_execs_nil ⟨σ,H,I,h⟩
theorem ZCZ (h1:PS X st t) (h2:PSs X rest u):PSs X (st::rest) (tSeq t u):=by
 intro pins s σ H D I h;refine wpAny_execs_cons (thn (h1 pins s σ H {D with nx:=u D} I h) λf s1 q=> ?_);cases f with
 | next=>
  obtain ⟨σ',H',I',q⟩:=q;exact h2 pins s1 σ' H' D I' q
 | ret v=>exact q
 | brk=>exact q
 | cont=>exact q
theorem ZGV (h1:PS X st t):PSs X [st] t:=by
 intro pins s σ H D I h;refine wpAny_execs_cons (thn (h1 pins s σ H D I h) λf s1 q=> ?_);cases f with
 | next=>exact wpAny_execs_nil q
 | ret v=>exact q
 | brk=>exact q
 | cont=>exact q
theorem Inv.quiet (I:Inv X pins σ H s):interactive X.env=false:=by simp [interactive,I.ok.kind]
def ZEl (te:TE):TS:=λD σ H=>te σ H λ_ H1=>D.nx σ H1
theorem ZEs (he:PE X e te) (hs:swapsWith e none pos.line X.env=pure false:=by rfl):PS X (.Expr e pos) (ZEl te):=by intro pins s σ H D I h;exact wpAny_Expr_any (thn (he pins s σ H _ I h) λv s1 ⟨x,H1,I1,r1,q1⟩=>⟨σ,H1,I1,q1⟩) I.quiet hs
def tRet (te:TE):TS:=λD σ H=>te σ H D.rt
theorem ZFw (he:PE X e te):PS X (.Return (some e) pos) (tRet te):=by intro pins s σ H D I h;exact wpAny_Return_some (thn (he pins s σ H _ I h) λv s1 ⟨x,H1,I1,r1,q1⟩=>⟨x,σ,H1,I1,r1,q1⟩)
def tIfS (c:TT) (t u:TS):TS:=λD σ H=>c σ H λb H1=>if b=true then t D σ H1 else u D σ H1
theorem ZCD {c:Expr} {a b:List Stmt} {tc:TT} (hc:PT X c tc) (ha:PSs X a t) (hb:PSs X b u):PS X (.If c a b pos) (tIfS tc t u):=by
 intro pins s σ H D I h;refine wpAny_If (thn (hc pins s σ H _ I h) λd s1 ⟨H1,I1,q1⟩=> ?_);cases d with
 | true=>exact ha pins s1 σ H1 D I1 q1
 | false=>exact hb pins s1 σ H1 D I1 q1
end
abbrev TG:=V->St->Hp->(St->Hp->Prop)->Prop
abbrev TGs:=List V->St->Hp->(St->Hp->Prop)->Prop
def PG (X:Cx) (target:Expr) (t:TG):Prop:=
 ∀(pins:List (Addr×Obj)) (s:Shared) (σ:St) (H:Hp) (v:V) (u:Value) (Q:St->Hp->Prop),Inv X pins σ H s->RelV v u->t v σ H Q->
  wpAny (model X.prog X.w) X.A (assign target X.env u) (λ_ s'=>∃σ' H',Inv X pins σ' H' s'/\Q σ' H') X.xe s
def PGs (X:Cx) (ts:List Expr) (t:TGs):Prop:=
 ∀(pins:List (Addr×Obj)) (s:Shared) (σ:St) (H:Hp) (vs:List V) (us:List Value) (Q:St->Hp->Prop),Inv X pins σ H s->Vals vs us->t vs σ H Q->
  wpAny (model X.prog X.w) X.A (assignInOrder ((assignEach ts X.env).map (·.2)) us) (λ_ s'=>∃σ' H',Inv X pins σ' H' s'/\Q σ' H') X.xe s
abbrev TSet:=V->V->V->Hp->(Hp->Prop)->Prop
def PSet (X:Cx) (t:TSet):Prop:=
 ∀(pins:List (Addr×Obj)) (s:Shared) (σ:St) (H:Hp) (o i v:V) (ov iv u:Value) (Q:Hp->Prop),Inv X pins σ H s->RelV o ov->RelV i iv->RelV v u->t o i v H Q->
  wpAny (model X.prog X.w) X.A (setItem ov iv u) (λ_ s'=>∃H',Inv X pins σ H' s'/\Q H') X.xe s
section
variable {X:Cx} {pos:Pos}
def ZAF (i:Nat):TG:=λv σ H Q=>Q (σ.set i (some v)) H
theorem ZE5 (hN:X.N.Nodup) (hi:X.N[i]? =some x) (hx:Loc X.env.scope x) (hf:X.fn x=true∨X.env.scope.names.lookup x=some .local:=by first | exact .inl rfl | exact .inr rfl | assumption):PG X (.Name x pos) (ZAF i):=by intro pins s σ H v u Q I r h;exact wpAny_assign_Name (ZAQ I hN hi hx r (λs' I'=>⟨_,H,I',h⟩) hf)
def gNil:TGs:=λvs σ H Q=>vs= []/\Q σ H
def ZCu (t:TG) (u:TGs):TGs:=λvs σ H Q=>∃v r,vs=v::r/\t v σ H λσ' H'=>u r σ' H' Q
theorem ZEn:PGs X [] gNil:=by intro pins s σ H vs us Q I r h;obtain ⟨e,h⟩:=h;subst e;cases r;exact assignInOrder_nil ⟨σ,H,I,h⟩
theorem ZCp {es:List Expr} {t:TG} {u:TGs} (h1:PG X e t) (h2:PGs X es u)
  (hs:(assignEach (e::es) X.env).map (·.2)=assign e X.env::(assignEach es X.env).map (·.2):=by rfl):PGs X (e::es) (ZCu t u):=by
 intro pins s σ H vs us Q I r h;obtain ⟨v,vr,e1,h⟩:=h;subst e1;cases r with
 | cons r rr=>
  rw [hs];refine assignInOrder_cons (thn (h1 pins s σ H _ _ _ I r h) λ_ s1 ⟨σ1,H1,I1,q1⟩=> ?_);exact h2 pins s1 σ1 H1 _ _ Q I1 rr q1
def gTup (K:PySem.W.Frag) (n:Nat) (t:TGs):TG:=λv σ H Q=>∃a xs,v=.ref a/\SqT K H a xs/\xs.length=n/\t xs σ H Q
theorem ZDg {es:List Expr} {k:Nat} {t:TGs} {n:Nat} (hc:X.calm=true) (h:PGs X es t)
  (hn:(assignEach es X.env).length=n:=by rfl) (hst:(assignEach es X.env).findIdx? (·.1)=none:=by rfl):PG X (.Tuple es k pos) (gTup X.K n t):=by
 intro pins s σ H v u Q I r hw;obtain ⟨a,xs,e1,hq,hl,hw⟩:=hw;subst e1;cases r;obtain ⟨its,rv,ht,hz⟩:=I.tuple hq;refine assign_Tuple_tuple (I.ok.hd hc) ht (by simp [hn,<-hl,rv.length]) hst λh' hx=> ?_
 have I1:Inv X pins σ H {s with heap:=h'}:=I.kept (t':=s.toks) λb o e=>hx b o (Nat.ne_of_lt (Heap.lt_size e)) e
 exact h pins _ σ H xs _ Q I1 (by simpa using rv) hw
def gSub (to ti:TE) (t:TSet):TG:=λv σ H Q=>to σ H λo H1=>ti σ H1 λi H2=>t o i v H2 λH3=>Q σ H3
theorem ZBl {o i:Expr} {to ti:TE} {t:TSet} (ho:PE X o to) (hi:PE X i ti) (hs:PSet X t)
  (ha:∀v,assign (.Subscript o i pos) X.env v=(do
   let ov<-holding [v] (eval o X.env);let iv<-holding [v,ov] (eval i X.env)
   standAt pos
   holding [v,ov,iv] (setItem ov iv v)
   release [v,ov,iv] []):=by intro _;rfl):PG X (.Subscript o i pos) (gSub to ti t):=by
 intro pins s σ H v u Q I r h;rw [ha];refine wpAny_bind (wpAny_holding (thn (ho pins s σ H _ I h) λov s1 ⟨x,H1,I1,r1,q1⟩=> ?_));refine wpAny_bind (wpAny_holding (thn (hi pins s1 σ H1 _ I1 q1) λiv s2 ⟨y,H2,I2,r2,q2⟩=> ?_));refine wpAny_bind (wpAny_standAt (wpAny_bind (wpAny_holding (thn (hs pins s2 σ H2 x y v ov iv u _ I2 r1 r2 r q2) λ_ s3 ⟨H3,I3,q3⟩=> ?_))));exact wpAny_release ⟨σ,H3,I3,q3⟩
def Tr (te:TE) (g:TG):TS:=λD σ H=>te σ H λx H1=>g x σ H1 D.nx
theorem ZFZ {te:TE} {g:TG} (he:PE X e te) (hg:PG X tg g) (hs:swapsWithSole [tg] e pos.line X.env=pure false:=by rfl) (hw:swappedStores [tg] e X.env=pure none:=by rfl)
  (h1:(assignEach [tg] X.env).map (·.2)= [assign tg X.env]:=by rfl):PS X (.Assign [tg] e pos) (Tr te g):=by
 intro pins s σ H D I h;refine wpAny_Assign_stores (thn (he pins s σ H _ I h) λv s1 ⟨x,H1,I1,r1,q1⟩=> ?_) hs hw;rw [h1];exact thn (hg pins s1 σ H1 x v _ I1 r1 q1) λ_ s2 q=>q
theorem ZFl {te:TE} {pos':Pos} (hN:X.N.Nodup) (hi:X.N[i]? =some x) (hx:Loc X.env.scope x) (he:PE X e te) (hs:swapsWith e (some (.Name x pos')) pos.line X.env=pure false:=by rfl) (hf:X.fn x=true∨X.env.scope.names.lookup x=some .local:=by first | exact .inl rfl | exact .inr rfl | assumption):
  PS X (.Assign [.Name x pos'] e pos) (Tr te (ZAF i)):=by
 intro pins s σ H D I h;refine wpAny_Assign_Name (thn (he pins s σ H _ I h) λv s1 ⟨y,H1,I1,r1,q1⟩=> ?_) hs;exact ZAQ I1 hN hi hx r1 (λs2 I2=>⟨_,H1,I2,q1⟩) hf
end
section
variable {X:Cx} {pos:Pos}
end
structure It where
 go:Nat->Hp->Prop
 yld:Nat->Hp->V->Hp->Prop
 stop:Nat->Hp->Prop
def FpOk (X:Cx) (pins:List (Addr×Obj)) (H:Hp) (b:Addr):Prop:=
 H b=none/\b≠X.env.locals/\b ∉ X.fs/\(b∈X.ex∨X.s₀.heap.objs.size<=b)/\(∀x c,X.env.cells.lookup x=some c->c≠b)/\∀p∈X.pn++pins,p.1≠b
theorem Inv.Ku {H':Hp} (I:Inv X pins σ H s) (hb:s.heap.objs.size<=b) (hn:H' b=none):FpOk X pins H' b:=by
 refine ⟨hn,Nat.ne_of_gt (Nat.lt_of_lt_of_le I.lt hb),I.nofs hb,.inr (Nat.le_trans I.sz hb),λx c e z=> ?_,λp hp z=> ?_⟩
 ·obtain ⟨v,q⟩:=I.cell x c e;exact absurd (Nat.lt_of_lt_of_le q.lt (by rw [z];exact hb)) (Nat.lt_irrefl _)
 ·exact absurd (Nat.lt_of_lt_of_le (Heap.lt_size (I.pin p hp).1) (by rw [z];exact hb)) (Nat.lt_irrefl _)
structure Turn (P:Program) (w:World) (K:PySem.W.Frag) (tg:Expr) (J:It) (fp:List Addr) (it:Addr) (tn:Nat->Heap->Prop):Prop where
 mem:it∈fp
 obj:∀i h,tn i h->∀b∈fp,∃o,h.get? b=some o/\∀v,o.data≠ .cell v
 keep:∀i h h',tn i h->(∀b∈fp,∀o,h.get? b=some o->h'.get? b=some o)->tn i h'
 item:∀(X:Cx),X.prog=P->X.w=w->X.K=K->X.calm=true->∀(i:Nat) (pins:List (Addr×Obj)) (s:Shared) (σ:St) (H:Hp) (E:Value->Shared->Prop),Inv X pins σ H s->(∀b∈fp,FpOk X pins H b)->tn i s.heap->J.go i H->
  wpAny (model P w) X.A (pyNext (.ref it)) (λr s1=>∃u,r=some u/\
   wpAny (model P w) X.A (letOwnedTupleGo tg (.ref it) u) (λ_ s2=>∃x H',Inv X pins σ H' s2/\RelV x u/\J.yld i H x H'/\tn (i + 1) s2.heap/\∀b∈fp,H' b=none) E s1) E s
 done:∀(X:Cx),X.prog=P->X.w=w->X.K=K->X.calm=true->∀(i:Nat) (pins:List (Addr×Obj)) (s:Shared) (σ:St) (H:Hp) (E:Value->Shared->Prop),Inv X pins σ H s->(∀b∈fp,FpOk X pins H b)->tn i s.heap->J.stop i H->
  wpAny (model P w) X.A (pyNext (.ref it)) (λr s1=>r=none/\Inv X pins σ H s1) E s
 self:∀(A:Around) (i:Nat) (s:Shared) (Q:Value->Shared->Prop) (E:Value->Shared->Prop),tn i s.heap->Q (.ref it) s->wpAny (model P w) A (pyIter (.ref it)) Q E s
abbrev TI:=St->Hp->(It->Hp->Prop)->Prop
def PIE (X:Cx) (pins:List (Addr×Obj)) (σ:St) (tg:Expr) (R:It->Hp->Prop) (itv:Value) (s2:Shared):Prop:=
 ∃(it:Addr) (fp:List Addr) (tn:Nat->Heap->Prop) (J:It) (H':Hp),itv=.ref it/\Inv X pins σ H' s2/\Turn X.prog X.w X.K tg J fp it tn/\tn 0 s2.heap/\(∀b∈fp,FpOk X pins H' b)/\R J H'
def PI (X:Cx) (tg iter:Expr) (wi:TI):Prop:=
 ∀(pins:List (Addr×Obj)) (s:Shared) (σ:St) (H:Hp) (R:It->Hp->Prop),Inv X pins σ H s->wi σ H R->
  wpAny (model X.prog X.w) X.A (eval iter X.env) (λv s1=>wpAny (model X.prog X.w) X.A (pyIter v) (PIE X pins σ tg R) X.xe s1) X.xe s
theorem Ml {M:Model} {it:Addr} {o:Obj} {n:String} {vs:Array Value} (ho:s.heap.get? it=some o) (hc:o.cls=.type n) (hd:o.data=.fields vs)
  (hn: ["enumerate","zip","dict_itemiterator","dict_reverseitemiterator","odict_iterator","itertools.zip_longest","itertools.pairwise"].contains n=false) (hQ:Q () s):wpAny M A (letOwnedTupleGo tg (.ref it) u) Q E s:=by
 unfold letOwnedTupleGo
 cases tg <;> first
  | exact wpAny_pure hQ
  | (cases u <;> first
    | exact wpAny_pure hQ
    | (
      refine wpAny_bind (wpAny_load ho ?_);rw [hc,hd];show wpAny M A (if (["enumerate","zip","dict_itemiterator","dict_reverseitemiterator","odict_iterator","itertools.zip_longest","itertools.pairwise"].contains n && vs[0]? == some (rawInt _))=true then _ else _) Q E s;rw [if_neg (by intro h;rw [hn,Bool.false_and] at h;cases h)];exact wpAny_pure hQ))
def Itl (K:PySem.W.Frag) (a:Addr):It:=
 ⟨λi H=>∃xs x,SqL K H a xs/\xs[i]? =some x,λi H x H'=>H'=H/\∀xs,SqL K H a xs->xs[i]? =some x,λi H=>∃xs,SqL K H a xs/\xs.length<=i⟩
def Itt (K:PySem.W.Frag) (a:Addr):It:=
 ⟨λi H=>∃xs x,SqT K H a xs/\xs[i]? =some x,λi H x H'=>H'=H/\∀xs,SqT K H a xs->xs[i]? =some x,λi H=>∃xs,SqT K H a xs/\xs.length<=i⟩
def Itr (lo:Int) (n:Nat):It:=⟨λi _=>i < n,λi H x H'=>H'=H/\x=.int (lo + i),λi _=>n<=i⟩
theorem ZGC (a it:Addr):Turn P w K tg (Itl K a) [it] it (λi h=>h.IsListIter it a i) where
 mem:=by simp
 obj:=λi h st b hb=>by
  have e:b=it:=by simpa using hb
  subst e;obtain ⟨o,e,c,d⟩:=st;exact ⟨o,e,λv z=>by rw [d] at z;cases z⟩
 keep:=λi h h' st k=>st.at λo e=>k it (by simp) o e
 item:=by
  intro X hP hw hK hc i pins s σ H E I hf st hg;subst hP hw hK;obtain ⟨xs,x,hq,hx⟩:=hg;obtain ⟨its,rv,p,hz⟩:=I.list hq;obtain ⟨u,hu,ru⟩:=rv.get hx;obtain ⟨f0,f1,f2,f3,f4,f5⟩:=hf it (by simp);refine wpAny_pyNext_list_item st p.isList (x:=u) (by simpa using hu) λh' st' sb=> ?_
  have I1:Inv X pins σ H {s with heap:=h'}:=I.turned (t':=s.toks) (λb o hb e=>(sb.2 b hb).trans e) f0 f1 f3 f4 f5;obtain ⟨o,e,c,d⟩:=id st';exact ⟨u,rfl,Ml (s:={s with heap:=h'}) e c d (by decide) ⟨x,H,I1,ru,⟨rfl,λys hy=>by rw [I.Wn hy hq];exact hx⟩,st',λb hb=>(hf b hb).1⟩⟩
 done:=by intro X hP hw hK hc i pins s σ H E I hf st hg;subst hP hw hK;obtain ⟨xs,hq,hx⟩:=hg;obtain ⟨its,rv,p,hz⟩:=I.list hq;obtain ⟨f0,f1,f2,f3,f4,f5⟩:=hf it (by simp);have hl:=rv.length;exact wpAny_pyNext_list_end (I.ok.hd hc) st p.isList (by simp;omega) λh' eb=>⟨rfl,I.turned (t':=s.toks) (λb o hb e=>eb b o hb e) f0 f1 f3 f4 f5⟩
 self:=λ_ _ _ _ _ st h=>wpAny_pyIter_listiter st h
theorem ZF7 (a it:Addr):Turn P w K tg (Itt K a) [it] it (λi h=>h.IsTupleIter it a i) where
 mem:=by simp
 obj:=λi h st b hb=>by
  have e:b=it:=by simpa using hb
  subst e;obtain ⟨o,e,c,d⟩:=st;exact ⟨o,e,λv z=>by rw [d] at z;cases z⟩
 keep:=λi h h' st k=>st.at λo e=>k it (by simp) o e
 item:=by
  intro X hP hw hK hc i pins s σ H E I hf st hg;subst hP hw hK;obtain ⟨xs,x,hq,hx⟩:=hg;obtain ⟨its,rv,p,hz⟩:=I.tuple hq;obtain ⟨u,hu,ru⟩:=rv.get hx;obtain ⟨f0,f1,f2,f3,f4,f5⟩:=hf it (by simp)
  refine wpAny_pyNext_tuple_item st (show s.heap.IsTuple a its.toArray from p) (x:=u) (by simpa using hu) λh' st' sb=> ?_
  have I1:Inv X pins σ H {s with heap:=h'}:=I.turned (t':=s.toks) (λb o hb e=>(sb.2 b hb).trans e) f0 f1 f3 f4 f5;obtain ⟨o,e,c,d⟩:=id st';exact ⟨u,rfl,Ml (s:={s with heap:=h'}) e c d (by decide) ⟨x,H,I1,ru,⟨rfl,λys hy=>by rw [I.W3 hy hq];exact hx⟩,st',λb hb=>(hf b hb).1⟩⟩
 done:=by
  intro X hP hw hK hc i pins s σ H E I hf st hg;subst hP hw hK;obtain ⟨xs,hq,hx⟩:=hg;obtain ⟨its,rv,p,hz⟩:=I.tuple hq;obtain ⟨f0,f1,f2,f3,f4,f5⟩:=hf it (by simp);have hl:=rv.length
  exact wpAny_pyNext_tuple_end (I.ok.hd hc) st (show s.heap.IsTuple a its.toArray from p) (by simp;omega) λh' eb=>⟨rfl,I.turned (t':=s.toks) (λb o hb e=>eb b o hb e) f0 f1 f3 f4 f5⟩
 self:=λ_ _ _ _ _ st h=>wpAny_pyIter_tupleiter st h
theorem ZD2 (it:Addr) (lo:Int) (n:Nat):Turn P w K tg (Itr lo n) [it] it (λi h=>IsRangeIter h it (lo + (i:Nat) * 1) ((n:Int) - (i:Nat)) 1) where
 mem:=by simp
 obj:=λi h st b hb=>by
  have e:b=it:=by simpa using hb
  subst e;exact ⟨_,st,λv z=>by have z':Data.fields _=Data.cell v:=z;cases z'⟩
 keep:=λi h h' st k=>k it (by simp) _ st
 item:=by
  intro X hP hw hK hc i pins s σ H E I hf st hg;subst hP hw hK;obtain ⟨f0,f1,f2,f3,f4,f5⟩:=hf it (by simp);have W:=Walks.range (prog:=X.prog) (w:=X.w) (I.ok.hd hc) it lo 1 n;refine W.item i s _ _ hg st λv h' tk hv st' kk=> ?_
  obtain ⟨t,rfl⟩:=hv;have I1:Inv X pins σ H {s with heap:=h',toks:=tk}:=I.turned (λb o hb e=>kk b o (by simpa using hb) e) f0 f1 f3 f4 f5;refine ⟨_,rfl,Ml (s:={s with heap:=h',toks:=tk}) (n:="range_iterator") st' rfl rfl (by decide) ⟨.int (lo + i),H,I1,⟨t,?_⟩,⟨rfl,rfl⟩,st',λb hb=>(hf b hb).1⟩⟩;rw [Int.mul_one]
 done:=by intro X hP hw hK hc i pins s σ H E I hf st hg;subst hP hw hK;obtain ⟨f0,f1,f2,f3,f4,f5⟩:=hf it (by simp);exact wpAny_pyNext_range_end (I.ok.hd hc) st (by have:n<=i:=hg;omega) λh' eb=>⟨rfl,I.turned (t':=s.toks) (λb o hb e=>eb b o hb e) f0 f1 f3 f4 f5⟩
 self:=λ_ _ _ _ _ st h=>wpAny_pyIter_rangeiter st h
section
variable {X:Cx} {tg:Expr}
def ZCo (K:PySem.W.Frag) (tl:TE):TI:=λσ H R=>tl σ H λx H1=>∃a,x=.ref a/\(∃xs,SqL K H1 a xs)/\R (Itl K a) H1
def iTup (K:PySem.W.Frag) (tl:TE):TI:=λσ H R=>tl σ H λx H1=>∃a,x=.ref a/\(∃xs,SqT K H1 a xs)/\R (Itt K a) H1
theorem Wl {l:Expr} {tl:TE} (hl:PE X l tl):PI X tg l (ZCo X.K tl):=by
 intro pins s σ H R I h;refine thn (hl pins s σ H _ I h) λv s1 ⟨x,H1,I1,r1,q1⟩=> ?_
 obtain ⟨a,e,⟨xs,hq⟩,q⟩:=q1;subst e;cases r1;obtain ⟨its,rv,p,hz⟩:=I1.list hq;refine wpAny_pyIter_list p.isList ?_;refine ⟨s1.heap.objs.size,[s1.heap.objs.size],_,_,H1,rfl,I1.kept (t':=s1.toks) λb o e=>Heap.get?_push_of_some _ e,ZGC a _,⟨_,Heap.get?_push_size _ rfl,rfl,rfl⟩,λb hb=> ?_,q⟩;have e:b=s1.heap.objs.size:=by simpa using hb
 subst e;exact I1.Ku (Nat.le_refl _) (I1.hok.fresh (Nat.le_refl _))
theorem ZFB {l:Expr} {tl:TE} (hl:PE X l tl):PI X tg l (iTup X.K tl):=by
 intro pins s σ H R I h;refine thn (hl pins s σ H _ I h) λv s1 ⟨x,H1,I1,r1,q1⟩=> ?_
 obtain ⟨a,e,⟨xs,hq⟩,q⟩:=q1;subst e;cases r1;obtain ⟨its,rv,p,hz⟩:=I1.tuple hq
 refine wpAny_pyIter_tuple (show s1.heap.IsTuple a its.toArray from p) ?_
 refine ⟨s1.heap.objs.size,[s1.heap.objs.size],_,_,H1,rfl,I1.kept (t':=s1.toks) λb o e=>Heap.get?_push_of_some _ e,ZF7 a _,⟨_,Heap.get?_push_size _ rfl,rfl,rfl⟩,λb hb=> ?_,q⟩;have e:b=s1.heap.objs.size:=by simpa using hb
 subst e;exact I1.Ku (Nat.le_refl _) (I1.hok.fresh (Nat.le_refl _))
theorem ZEi {R:It->Hp->Prop} {lo hi:Int} {t u v:Tok} {tk:Nat} (I:Inv X pins σ H s) (h1: -(2 ^ 62)<=lo) (h2:lo < 2 ^ 62) (h3: -(2 ^ 62)<=hi) (h4:hi < 2 ^ 62)
  (q:R (Itr lo (hi - lo).toNat) H):wpAny (model X.prog X.w) X.A (pyIter (.ref s.heap.objs.size)) (PIE X pins σ tg R) E {s with heap:=s.heap.push {cls:=.type "range",data:=.fields #[.int lo t,.int hi u,.int 1 v]},toks:=tk}:=by
 refine wpAny_pyIter_range (IsRange.new ..) (small_one h1 h2 h3 h4) ?_;have I1:Inv X pins σ H {s with heap:=s.heap.push {cls:=.type "range",data:=.fields #[.int lo t,.int hi u,.int 1 v]},toks:=tk}:=I.kept λb o e=>Heap.get?_push_of_some _ e
 refine ⟨(s.heap.push {cls:=.type "range",data:=.fields #[.int lo t,.int hi u,.int 1 v]}).objs.size,[(s.heap.push {cls:=.type "range",data:=.fields #[.int lo t,.int hi u,.int 1 v]}).objs.size],_,_,H,rfl,
  I1.kept (t':=tk) λb o e=>Heap.get?_push_of_some _ e,ZD2 _ lo (hi - lo).toNat,?_,λb hb=> ?_,q⟩
 ·have e1:lo + ((0:Nat):Int) * 1=lo:=by simp
  have e2:(((hi - lo).toNat:Nat):Int) - ((0:Nat):Int)=Builtin.Range.rangeSize lo hi 1:=by rw [rangeSize_one];split <;> omega
  show IsRangeIter _ _ (lo + ((0:Nat):Int) * 1) ((((hi - lo).toNat:Nat):Int) - ((0:Nat):Int)) 1;rw [e1,e2];exact Heap.get?_push_size _ rfl
 ·have e:b=(s.heap.push {cls:=.type "range",data:=.fields #[.int lo t,.int hi u,.int 1 v]}).objs.size:=by simpa using hb
  subst e;exact I1.Ku (Nat.le_refl _) (I1.hok.fresh (Nat.le_refl _))
def ZEh (ta:TA):TI:=λσ H R=>ta σ H λvs H1=>∃j:Int,vs= [.int j]/\ -(2 ^ 62)<=j/\j < 2 ^ 62/\R (Itr 0 j.toNat) H1
theorem ZFx {a:Expr} {ta:TA} {p pos:Pos} (hg:Gl X "range") (hm:X.mg "range"=none) (ha:PA X [a] ta) (hs:starEach [a] X.env= [(false,eval a X.env)]:=by rfl):PI X tg (.Call (.Name "range" p) [a] [] pos) (ZEh ta):=by
 intro pins s σ H R I h;refine Call_ (Mr I hg hm boot_range (PyProof.Rows.callWith_type1 (thn (ha pos pins s σ H _ I h) λus s1 ⟨vs,H1,I1,r1,q1⟩=> ?_) hs rfl));obtain ⟨j,e,q1,q2,q⟩:=q1;subst e;cases r1 with
 | cons r rr=>
  cases rr;obtain ⟨t,rfl⟩:=r;exact call_range_1 (ZEi I1 (by omega) (by omega) q1 q2 (by simpa using q))
def tFor (wi:TI) (g:TG) (tb:TS):TS:=λD σ H=>wi σ H λJ H1=>∃W:Nat->Nat->St->Hp->Prop,(∃m,W 0 m σ H1)/\∀i m σ H,W i m σ H->
 (J.stop i H/\D.nx σ H)∨(J.go i H/\∃N:St->Hp->Prop,(∀σ' H',N σ' H'->∃m',m' < m/\W (i + 1) m' σ' H')/\∀x H',J.yld i H x H'->g x σ H' λσ2 H2=>tb {D with nx:=N,ct:=N,bk:=D.nx} σ2 H2)
def Km (fp:List Addr) (h:Heap):List (Addr×Obj):=fp.filterMap λb=>(h.get? b).map λo=>(b,o)
theorem Qw {o:Obj} (hb:b∈fp) (e:h.get? b=some o):(b,o)∈Km fp h:=List.mem_filterMap.mpr ⟨b,hb,by rw [e];rfl⟩
theorem Zh {p:Addr×Obj} (hp:p∈Km fp h):p.1∈fp/\h.get? p.1=some p.2:=by
 obtain ⟨b,hb,e⟩:=List.mem_filterMap.mp hp;cases q:h.get? b with
 | none=>rw [q] at e;cases e
 | some o=>
  rw [q] at e;have e':(b,o)=p:=Option.some.inj e;subst e';exact ⟨hb,q⟩
theorem Inv.pinned (I:Inv X pins σ H s) (hf:∀b∈fp,FpOk X pins H b) (ho:∀b∈fp,∃o,s.heap.get? b=some o/\∀v,o.data≠ .cell v):Inv X (pins++Km fp s.heap) σ H s:=
 I.Gb λp hp=>(List.mem_append.mp hp).elim (λz=>I.pin p (List.mem_append_right _ z)) λz=>by obtain ⟨hb,e⟩:=Zh z;obtain ⟨f0,f1,f2,_⟩:=hf p.1 hb;obtain ⟨o,e',d⟩:=ho p.1 hb;rw [e] at e';cases e';exact ⟨e,f0,f1,f2,d⟩
theorem Inv.unpinned {pl:List (Addr×Obj)} (I:Inv X (pins++pl) σ H s):Inv X pins σ H s:=I.Gb λp hp=>I.pin p (List.mem_append_right _ (List.mem_append_left _ hp))
theorem ZEu {iter:Expr} {body:List Stmt} {wi:TI} {g:TG} {tb:TS} {pos:Pos} (hp:PassesOwn (model X.prog X.w) X.A X.env X.xe) (hc:X.calm=true) (hi:PI X tg iter wi) (hg:PG X tg g) (hb:PSs X body tb)
  (hs:∀x,foldedSetIterable iter X.env x=pure x:=by intro _;rfl):PS X (.For tg iter body [] pos) (tFor wi g tb):=by
 intro pins s σ H D I h;refine wpAny_For (thn (hi pins s σ H _ I h) λv s1 h1=>thn h1 λitv s2 h2=> ?_) hs;obtain ⟨it,fp,tn,J,H2,e,I2,T,st2,f2,W,⟨m0,w0⟩,turn⟩:=h2;subst e;have stat:∀{H':Hp},(∀b∈fp,H' b=none)->∀b∈fp,FpOk X pins H' b:=λhn b hb=>⟨hn b hb,(f2 b hb).2⟩
 refine codeAny_forLoop_any (λn s'=>∃i σ' H',Inv X pins σ' H' s'/\tn i s'.heap/\(∀b∈fp,H' b=none)/\W i n σ' H') ?_ m0 ⟨0,σ,H2,I2,st2,λb hb=>(f2 b hb).1,w0⟩;rintro n s3 ⟨i,σ3,H3,I3,st3,fr3,w3⟩;rcases turn i n σ3 H3 w3 with ⟨stop,qn⟩ | ⟨go,N,hN,step⟩
 ·refine wpAny_passesOwn hp (thn (T.done X rfl rfl rfl hc i pins s3 σ3 H3 X.xe I3 (stat fr3) st3 stop) λr s4 ⟨hr,I4⟩=> ?_);subst hr;exact wpAny_execs_nil ⟨σ3,H3,I4,qn⟩
 ·refine wpAny_passesOwn hp (thn (T.item X rfl rfl rfl hc i pins s3 σ3 H3 X.xe I3 (stat fr3) st3 go) λr s4 ⟨u,hr,h4⟩=> ?_);subst hr;refine wpAny_passesOwn hp (thn h4 λ_ s5 ⟨x,H5,I5,r5,y5,st5,fr5⟩=> ?_);have I5':=I5.pinned (stat fr5) (T.obj _ _ st5);refine wpAny_passesOwn hp (thn (hg _ s5 σ3 H5 x u _ I5' r5 (step x H5 y5)) λ_ s6 ⟨σ6,H6,I6,q6⟩=> ?_);refine wpAny_passesOwn hp (thn (hb _ s6 σ6 H6 _ I6 q6) λf s7 q7=> ?_)
  have again:∀{σ7:St} {H7:Hp},Inv X (pins++Km fp s5.heap) σ7 H7 s7->N σ7 H7->∃m,m < n/\∃i σ' H',Inv X pins σ' H' s7/\tn i s7.heap/\(∀b∈fp,H' b=none)/\W i m σ' H':=λ{σ7 H7} I7 n7=>by obtain ⟨m',hm,w7⟩:=hN σ7 H7 n7;refine ⟨m',hm,i + 1,σ7,H7,I7.unpinned,T.keep _ _ _ st5 λb hb o e=>(I7.pin (b,o) (List.mem_append_right _ (List.mem_append_right _ (Qw hb e)))).1,λb hb=> ?_,w7⟩;obtain ⟨o,e,d⟩:=T.obj _ _ st5 b hb;exact (I7.pin (b,o) (List.mem_append_right _ (List.mem_append_right _ (Qw hb e)))).2.1
  cases f with
  | next=>obtain ⟨σ7,H7,I7,n7⟩:=q7;exact again I7 n7
  | cont=>obtain ⟨σ7,H7,I7,n7⟩:=q7;exact again I7 n7
  | brk=>obtain ⟨σ7,H7,I7,q7⟩:=q7;exact ⟨σ7,H7,I7.unpinned,q7⟩
  | ret v=>obtain ⟨x7,σ7,H7,I7,r7,q7⟩:=q7;exact ⟨x7,σ7,H7,I7.unpinned,r7,q7⟩
end
abbrev R2:=V->V->Hp->VK->Prop
variable {r:R2}
def OpR (X:Cx) (f:Value->Value->Sem Value) (r:R2):Prop:=
 ∀(pins:List (Addr×Obj)) (s:Shared) (σ:St) (H:Hp) (x y:V) (v u:Value) (Q:VK),Inv X pins σ H s->RelV x v->RelV y u->r x y H Q->
  wpAny (model X.prog X.w) X.A (f v u) (EP X pins σ Q) X.xe s
def CallR (X:Cx) (f:Value) (r:List V->Hp->VK->Prop):Prop:=
 ∀(pins:List (Addr×Obj)) (s:Shared) (σ:St) (H:Hp) (xs:List V) (us:List Value) (Q:VK),Inv X pins σ H s->Vals xs us->r xs H Q->
  wpAny (model X.prog X.w) X.A (call f us) (EP X pins σ Q) X.xe s
def tOp (r:R2) (ta tb:TE):TE:=λσ H Q=>ta σ H λx H1=>tb σ H1 λy H2=>r x y H2 Q
def rI (C:Int->Int->Prop) (g:Int->Int->V):R2:=λx y H Q=>∃i j,x=.int i/\y=.int j/\C i j/\Q (g i j) H
def rI0 (g:Int->Int->V):R2:=λx y H Q=>∃i j,x=.int i/\y=.int j/\Q (g i j) H
section
variable {X:Cx} {a b c:Expr} {ta tb tc:TE} {pos:Pos}
theorem Wj (ha:PE X a ta) (hb:PE X b tb) {R:V->V->Hp->Prop} (I:Inv X pins σ H s)
  (h:ta σ H λx H1=>tb σ H1 λy H2=>R x y H2) {Q:Value->Shared->Prop} {f:Value->Value->Sem Value}
  (hf:∀v u s2 x y H2,Inv X pins σ H2 s2->RelV x v->RelV y u->R x y H2->wpAny (model X.prog X.w) X.A (f v u) Q X.xe s2):
  wpAny (model X.prog X.w) X.A (eval a X.env) (λv s₁=>wpAny (model X.prog X.w) X.A (eval b X.env) (λu s₂=>wpAny (model X.prog X.w) X.A (f v u) Q X.xe s₂) X.xe s₁) X.xe s:=by
 refine thn (ha pins s σ H _ I h) λv s1 ⟨x,H1,I1,r1,q1⟩=> ?_
 refine thn (hb pins s1 σ H1 _ I1 q1) λu s2 ⟨y,H2,I2,r2,q2⟩=> ?_
 exact hf v u s2 x y H2 I2 r1 r2 q2
theorem ZFH {op:Operator} (ho:OpR X (binaryOp op) r) (ha:PE X a ta) (hb:PE X b tb):PE X (.BinOp a op b pos) (tOp r ta tb):=by intro pins s σ H Q I h;exact wpAny_BinOp (Wj ha hb I h λv u s2 x y H2 I2 rx ry q=>ho pins s2 σ H2 x y v u Q I2 rx ry q)
theorem opI {f:Value->Value->Sem Value} {C:Int->Int->Prop} {g:Int->Int->Int}
  (rule:∀(i j:Int) (t u:Tok) (s:Shared) (Q:Value->Shared->Prop) (E:Value->Shared->Prop),C i j->Q (.int (g i j) s.toks) {s with toks:=s.toks + 1}->wpAny (model X.prog X.w) X.A (f (.int i t) (.int j u)) Q E s):
  OpR X f (rI C λi j=>.int (g i j)):=by
 intro pins s σ H x y v u Q I rx ry h;obtain ⟨i,j,rfl,rfl,hc,q⟩:=h;obtain ⟨t,rfl⟩:=rx;obtain ⟨t',rfl⟩:=ry;exact rule i j t t' s _ _ hc ⟨.int (g i j),H,I.tok _,⟨_,rfl⟩,q⟩
theorem opI0 {f:Value->Value->Sem Value} {g:Int->Int->Int}
  (rule:∀(i j:Int) (t u:Tok) (s:Shared) (Q:Value->Shared->Prop) (E:Value->Shared->Prop),Q (.int (g i j) s.toks) {s with toks:=s.toks + 1}->wpAny (model X.prog X.w) X.A (f (.int i t) (.int j u)) Q E s):
  OpR X f (rI0 λi j=>.int (g i j)):=by
 intro pins s σ H x y v u Q I rx ry h;obtain ⟨i,j,rfl,rfl,q⟩:=h;obtain ⟨t,rfl⟩:=rx;obtain ⟨t',rfl⟩:=ry;exact rule i j t t' s _ _ ⟨.int (g i j),H,I.tok _,⟨_,rfl⟩,q⟩
theorem Ry {f:Value->Value->Sem Value} {g:Int->Int->Bool}
  (rule:∀(i j:Int) (t u:Tok) (s:Shared) (Q:Value->Shared->Prop) (E:Value->Shared->Prop),Q (.bool (g i j)) s->wpAny (model X.prog X.w) X.A (f (.int i t) (.int j u)) Q E s):
  OpR X f (rI0 λi j=>.bl (g i j)):=by
 intro pins s σ H x y v u Q I rx ry h;obtain ⟨i,j,rfl,rfl,q⟩:=h;obtain ⟨t,rfl⟩:=rx;obtain ⟨t',rfl⟩:=ry;exact rule i j t t' s _ _ ⟨.bl (g i j),H,I,rfl,q⟩
def CPow (i j:Int):Prop:=0<=j/\j<=1000000/\i.natAbs < 2 ^ 64
def CMul (i j:Int):Prop:=(-(2 ^ 64) < i/\i < 2 ^ 64)∨(-(2 ^ 64) < j/\j < 2 ^ 64)
theorem CMul.ok {i j:Int} (h:CMul i j):IntMulOk i j:=by
 rcases h with ⟨h1,h2⟩ | ⟨h1,h2⟩
 ·exact .of_left (intBits_le_64 h1 h2)
 ·exact .of_right (intBits_le_64 h1 h2)
theorem ZDc:OpR X (binaryOp .Add) (rI0 λi j=>.int (i + j)):=opI0 λ_ _ _ _ _ _ _ q=>add_int q
theorem ZD4:OpR X (binaryOp .Sub) (rI0 λi j=>.int (i - j)):=opI0 λ_ _ _ _ _ _ _ q=>sub_int q
theorem ZEF:OpR X (binaryOp .Mod) (rI (λ_ j=>0 < j) λi j=>.int (i % j)):=opI λi j _ _ _ _ _ hc q=>by have h1:(0:Int) < j:=hc;exact mod_int' (by omega) (by rw [Int.fmod_eq_emod_of_nonneg i (by omega)];exact q)
theorem ZES:OpR X (binaryOp .Pow) (rI CPow λi j=>.int (i ^ j.toNat)):=opI λ_ _ _ _ _ _ _ hc q=>pow_int_small hc.1 hc.2.1 hc.2.2 q
end
section
variable {X:Cx} {a b c:Expr} {ta tb tc:TE} {pos:Pos}
theorem ZGB {Q:VK} {k k':Bool} (I:Inv X pins σ H s) (q:Q (.bl k) H) (e:k=k'):EP X pins σ Q (.bool k') s:=by subst e;exact ⟨.bl k,H,I,rfl,q⟩
theorem ZEx:OpR X (compareOp .Lt) (rI0 λi j=>.bl (decide (i < j))):=Ry λ_ _ _ _ _ _ _ q=>lt_int q
theorem ZF8:OpR X (compareOp .LtE) (rI0 λi j=>.bl (decide (i<=j))):=Ry λ_ _ _ _ _ _ _ q=>le_int q
theorem ZCk:OpR X (compareOp .Gt) (rI0 λi j=>.bl (decide (j < i))):=Ry λ_ _ _ _ _ _ _ q=>gt_int q
theorem ZE6:OpR X (compareOp .GtE) (rI0 λi j=>.bl (decide (j<=i))):=Ry λ_ _ _ _ _ _ _ q=>ge_int q
theorem ZGU:OpR X (compareOp .Lt) (λx y H Q=>∃i j,x=.str i/\y=.str j/\Q (.bl (decide (i.cps.toList < j.cps.toList))) H):=by intro pins s σ H x y v u Q I rx ry h;obtain ⟨i,j,rfl,rfl,q⟩:=h;obtain ⟨t,rfl⟩:=rx;obtain ⟨t',rfl⟩:=ry;exact lt_str (ZGB I q rfl)
theorem OpR.or {f:Value->Value->Sem Value} {r':R2} (h:OpR X f r) (h':OpR X f r'):OpR X f (λx y H Q=>r x y H Q∨r' x y H Q):=by
 intro pins s σ H x y v u Q I rx ry q;rcases q with q | q
 ·exact h pins s σ H x y v u Q I rx ry q
 ·exact h' pins s σ H x y v u Q I rx ry q
theorem nomark (b:Expr) (h:op≠ .In:=by decide) (h2:op≠ .NotIn:=by decide):behindInMarks op b=false:=by
 have e1:(op == CmpOp.In)=false:=by cases op <;> first | rfl | exact absurd rfl h
 have e2:(op == CmpOp.NotIn)=false:=by cases op <;> first | rfl | exact absurd rfl h2
 cases b <;> simp [behindInMarks,e1,e2]
theorem ZCa (ho:OpR X (compareOp op) r) (ha:PE X a ta) (hb:PE X b tb) (hm:behindInMarks op b=false):PE X (.Compare a [op] [b] pos) (tOp r ta tb):=by intro pins s σ H Q I h;exact wpAny_Compare1 (Wj ha hb I h λv u s2 x y H2 I2 rx ry q=>ho pins s2 σ H2 x y v u Q I2 rx ry q) hm
def Np (t:TE):TT:=λσ H Q=>t σ H λx H'=>∃k,x=.bl k/\Q k H'
theorem ZDP (ho:OpR X (compareOp op) r) (ha:PE X a ta) (hb:PE X b tb) (hm:behindInMarks op b=false):PT X (.Compare a [op] [b] pos) (Np (tOp r ta tb)):=by
 intro pins s σ H Q I h;refine wpAny_isTrue_Compare1 (thn (ha pins s σ H _ I h) λv s1 ⟨x,H1,I1,r1,q1⟩=>thn (hb pins s1 σ H1 _ I1 q1) λu s2 ⟨y,H2,I2,r2,q2⟩=>
  thn (ho pins s2 σ H2 x y v u _ I2 r1 r2 q2) λc s3 ⟨z,H3,I3,r3,k,e,q3⟩=> ?_) hm
 subst e;cases r3;exact wpAny_truthy_bool ⟨H3,I3,q3⟩
def ZBd (r r':R2) (ta tb tc:TE):TE:=λσ H Q=>ta σ H λx H1=>tb σ H1 λy H2=>r x y H2 λz H3=>∃k,z=.bl k/\
 (if k=true then tc σ H3 λw' H4=>r' y w' H4 Q else Q (.bl false) H3)
theorem ZGH {op':CmpOp} {r':R2} (ho:OpR X (compareOp op) r) (ho':OpR X (compareOp op') r') (ha:PE X a ta) (hb:PE X b tb) (hc:PE X c tc)
  (hm:lastMarks [op,op'] [b,c]=false:=by with_unfolding_all rfl):PT X (.Compare a [op,op'] [b,c] pos) (Np (ZBd r r' ta tb tc)):=by
 intro pins s σ H Q I h;refine isTrue_chain (thn (ha pins s σ H _ I h) λv s1 ⟨x,H1,I1,r1,q1⟩=>test_link (thn (hb pins s1 σ H1 _ I1 q1) λu s2 ⟨y,H2,I2,r2,q2⟩=>
  thn (ho pins s2 σ H2 x y v u _ I2 r1 r2 q2) λd s3 ⟨z,H3,I3,r3,k,e,q3⟩=> ?_)) hm
 subst e;cases r3;refine wpAny_truthy_bool ?_;cases k with
 | false=>
  obtain ⟨k',e',q'⟩:=q3;cases e';exact ite_ff ⟨H3,I3,q'⟩
 | true=>
  refine ite_tt (test_last (thn (hc pins s3 σ H3 _ I3 q3) λw' s4 ⟨z',H4,I4,r4,q4⟩=>thn (ho' pins s4 σ H4 y z' u w' _ I4 r2 r4 q4) λd' s5 ⟨z2,H5,I5,r5,k2,e2,q5⟩=> ?_));subst e2;cases r5;exact wpAny_truthy_bool ⟨H5,I5,q5⟩
theorem line63:(sizeLine:Nat) < 2 ^ 63:=by rw [sizeLine_eq];decide
theorem ZDp:OpR X (binaryOp .Add) (λx y H Q=>∃i j,x=.str i/\y=.str j/\i.length + j.length<=sizeLine/\Q (.str (i++j)) H):=by intro pins s σ H x y v u Q I rx ry h;obtain ⟨i,j,rfl,rfl,hz,q⟩:=h;obtain ⟨t,rfl⟩:=rx;obtain ⟨t',rfl⟩:=ry;exact add_str (λt' tk=>⟨.str (i++j),H,I.tok _,⟨_,rfl⟩,q⟩) hz
theorem vals1 {x:V} (r:Vals [x] us):∃u,us= [u]/\RelV x u:=by
 cases r with
 | cons r1 r2=>cases r2;exact ⟨_,rfl,r1⟩
theorem vals2 {x y:V} (r:Vals [x,y] us):∃u w',us= [u,w']/\RelV x u/\RelV y w':=by
 cases r with
 | cons r1 r2=>
  cases r2 with
  | cons r3 r4=>cases r4;exact ⟨_,_,rfl,r1,r3⟩
theorem ZCz (hc:X.calm=true):CallR X (.builtin "max") (λxs H Q=>∃i j,xs= [.int i,.int j]/\Q (.int (if j > i then j else i)) H):=by
 intro pins s σ H xs us Q I r h;obtain ⟨i,j,rfl,q⟩:=h;obtain ⟨u,w',rfl,⟨t,rfl⟩,⟨t',rfl⟩⟩:=vals2 r;refine max_two_ints (I.ok.hd hc) λh' tk k=>⟨_,H,I.kept k,?_,q⟩
 by_cases hj:j > i
 ·rw [if_pos hj,if_pos hj];exact ⟨_,rfl⟩
 ·rw [if_neg hj,if_neg hj];exact ⟨_,rfl⟩
theorem ZED (hc:X.calm=true):CallR X (.builtin "min") (λxs H Q=>∃i j,xs= [.int i,.int j]/\Q (.int (if j < i then j else i)) H):=by
 intro pins s σ H xs us Q I r h;obtain ⟨i,j,rfl,q⟩:=h;obtain ⟨u,w',rfl,⟨t,rfl⟩,⟨t',rfl⟩⟩:=vals2 r;refine min_two_ints (I.ok.hd hc) λh' tk k=>⟨_,H,I.kept k,?_,q⟩
 by_cases hj:j < i
 ·rw [if_pos hj,if_pos hj];exact ⟨_,rfl⟩
 ·rw [if_neg hj,if_neg hj];exact ⟨_,rfl⟩
end
structure ObjM (h:Heap) (x dx C:Addr) (mA:Str->Option Value):Prop where
 obj:h.get? x=some (PySem.W.instObj C dx)
 ns:h.Ns1 dx mA
 ne:dx≠x
section
variable {prog:Program} {w:World} {A:Around} {E:Value->Shared->Prop} {s:Shared} {K:PySem.W.Frag} {x dx C f:Addr} {mA:Str->Option Value} {name:Str} {v:Value}
end
def Vz (f:Str) (v:V):List (Str×V)->List (Str×V)
 | []=> [(f,v)]
 | (g,x)::r=>if g=f then (g,v)::r else (g,x)::Vz f v r
section
variable {P:Program} {w:World} {H H':Hp} {h h':Heap} {a C dx:Addr} {fs fs':List (Str×V)}
end
structure Cls (K:PySem.W.Frag) (C:Addr):Prop where
 pg:PySem.W.plainGet K C Str.empty=true
 hd:PySem.W.hasDictIn K C=true
 po:PySem.W.plainOver K C=true
 sa:PySem.W.findIn K (.ref C) "__setattr__"=some (some (.builtin "object.__setattr__"))
theorem Cls.get {C:Addr} (c:Cls K C) (f:Str):PySem.W.plainGet K C f=true:=c.pg
structure Con (K:PySem.W.Frag) (C:Addr) (f:Str) (v:V) (u:Value):Prop where
 at_:PySem.W.findIn K (.ref C) f=some (some u)
 rel:RelV v u
 get:PySem.W.specialIn K u "__get__"=some none
 cp:PySem.W.copiedNames.contains f=false
structure Meth (K:PySem.W.Frag) (C:Addr) (m:Str) (f:Addr):Prop where
 at_:PySem.W.findIn K (.ref C) m=some (some (.ref f))
 fn:PySem.W.isFn K (.ref f)=true
 kp:PySem.W.keepIn K (.ref f)=true
section
variable {X:Cx} {pins:List (Addr×Obj)} {σ:St} {H:Hp} {s:Shared} {a C dx:Addr} {fs:List (Str×V)} {f:Str} {v:V} {A:Around} {E:Value->Shared->Prop}
theorem Inv.made (I:Inv X pins σ H s):Inv X pins σ (upd (upd H s.heap.objs.size (.own (s.heap.objs.size + 1))) (s.heap.objs.size + 1) (.ins C s.heap.objs.size []))
  {s with heap:=(s.heap.push PySem.W.emptyDict).push (PySem.W.instObj C s.heap.objs.size)}:=by
 have e1:(s.heap.push PySem.W.emptyDict).get? s.heap.objs.size=some PySem.W.emptyDict:=Heap.get?_push_size s.heap rfl;have e2:((s.heap.push PySem.W.emptyDict).push (PySem.W.instObj C s.heap.objs.size)).get? (s.heap.objs.size + 1)=some (PySem.W.instObj C s.heap.objs.size):=by have:=Heap.get?_push_size (s.heap.push PySem.W.emptyDict) (o:=PySem.W.instObj C s.heap.objs.size) rfl;rwa [Heap.size_push] at this
 have e3:(s.heap.push PySem.W.emptyDict).Ns s.heap.objs.size (λ_=>none):=⟨PySem.W.emptyDict,#[],_,e1,rfl,(λe he=>absurd he (by simp)),λ_=>rfl⟩;have I1:=I.laid (a:=s.heap.objs.size) (o:=.own (s.heap.objs.size + 1)) (h':=s.heap.push PySem.W.emptyDict) (t':=s.toks) (λb u q=>Heap.get?_push_of_some _ q) (Nat.le_refl _) ⟨_,e1⟩;refine I1.laid (a:=s.heap.objs.size + 1) (o:=.ins C s.heap.objs.size []) (t':=s.toks) (λb u q=>Heap.get?_push_of_some _ q) (Nat.le_of_eq (Heap.size_push _ _)) ?_
 have ne:s.heap.objs.size≠s.heap.objs.size + 1:=Nat.ne_of_lt (Nat.lt_succ_self _);refine ⟨by rw [Be ne,Ff],Nat.zero_le _,ne,e2,λ_=>none,(Heap.Ns1.of_empty e3).at λo q=>Heap.get?_push_of_some _ q,λ_=>True.intro,λy hy=>absurd rfl hy⟩
end
section
variable {X:Cx} {o e value:Expr} {f:Str} {pos pos' tpos:Pos} {ta tv:TE}
end
section
variable {X:Cx} {pins:List (Addr×Obj)} {σ:St} {H:Hp} {s:Shared} {A:Around} {E:Value->Shared->Prop} {Q:Value->Shared->Prop} {c:Value} {b:Bool}
inductive TyOf (K:PySem.W.Frag) (H:Hp):V->Value->Prop where
 | non:TyOf K H .non (.type "NoneType")
 | bl (x:Bool):TyOf K H (.bl x) (.type "bool")
 | int (i:Int):TyOf K H (.int i) (.type "int")
 | str (x:Str):TyOf K H (.str x) (.type "str")
 | flt (x:UInt64):TyOf K H (.flt x) (.type "float")
 | lst {a:Addr} {xs:List V} (e:H a=some (.lst xs)):TyOf K H (.ref a) (.type "list")
 | frz {a:Addr} {o:Obj} {xs:List V} (e:H a=some (.frz o (.lst xs))):TyOf K H (.ref a) (.type "list")
 | tup {a:Addr} {xs:List V} (e:H a=some (.tup xs)):TyOf K H (.ref a) (.type "tuple")
 | dK {a:Addr} {kvs:List (Key×V)} (e:H a=some (.dK kvs)):TyOf K H (.ref a) (.type "dict")
 | dT {a:Addr} {kvs:List (List Key×V)} (e:H a=some (.dT kvs)):TyOf K H (.ref a) (.type "dict")
 | ins {a C dx:Addr} {fs:List (Str×V)} (e:H a=some (.ins C dx fs)) (cl:Cls K C) (ha:PySem.W.findIn K (.ref C) "__class__"=some (some (.builtin "object.__class__")))
   (hn:PySem.W.specialIn K (.builtin "object.__class__") "__get__"=some (some (.builtin "getset_descriptor.__get__"))) (htk:PySem.W.takesIn K (.builtin "object.__class__")=some true)
   (hm:PySem.W.mroIn K C (.type "object")=some true):TyOf K H (.ref a) (.ref C)
end
structure Room (k:Nat) (A:Around):Prop where
 hd:A.handled=none
 dp:A.depth + 3 * k + 5 < recursionLimit
 un:A.units + 16 * k + 200 < cLine
theorem Room.mono (r:Room k A) (h:j<=k):Room j A:=⟨r.hd,by have:=r.dp;omega,by have:=r.un;omega⟩
theorem Room.deeper (r:Room (k + 1) A) (env:Env):Room k (A.deeper env):=
 ⟨r.hd,by have:=r.dp;show A.depth + 1 + 3 * k + 5 < _;omega,by have:=r.un;show A.units + 3 + 16 * k + 200 < _;omega⟩
theorem Room.in1 (r:Room (k + 1) A):Room k A.in1:=
 ⟨r.hd,by have:=r.dp;show A.depth + 3 * k + 5 < _;omega,by have:=r.un;show A.units + 1 + 16 * k + 200 < _;omega⟩
theorem Room.depth (r:Room k A):A.depth < recursionLimit:=by have:=r.dp;omega
theorem Room.units (r:Room k A):A.units + 64 < cLine:=by have:=r.un;omega
def tNil:TA:=λ_ H Q=>Q [] H
def ZDJ (ta:TE) (tr:TA):TA:=λσ H Q=>ta σ H λx H1=>tr σ H1 λxs H2=>Q (x::xs) H2
section
variable {X:Cx} {e:Expr} {es:List Expr} {te:TE} {t:TA} {pos:Pos}
theorem ZC6:PA X [] tNil:=λ_ _ _ _ H Q I h=>Calls.spliced_nil ⟨[],H,I,.nil,h⟩
theorem ZCe (ha:PE X e te) (hr:PA X es t) (hs:starEach (e::es) X.env=(false,eval e X.env)::starEach es X.env:=by rfl):PA X (e::es) (ZDJ te t):=by intro pos pins s σ H Q I h;rw [hs];show wpAny _ _ (spliced ((false,eval e X.env)::backTo pos (starEach es X.env))) _ _ s;refine Calls.spliced_cons (thn (ha pins s σ H _ I h) λu s1 ⟨x,H1,I1,r1,q1⟩=> ?_);exact thn (hr pos pins s1 σ H1 _ I1 q1) λus s2 ⟨xs,H2,I2,r2,q2⟩=>⟨x::xs,H2,I2,.cons r1 r2,q2⟩
def tTup (t:TA):TE:=λσ H Q=>t σ H λxs H1=>xs.length<=sizeLine/\∀p,H1 p=none->Q (.ref p) (upd H1 p (.tup xs))
def tLst (t:TA):TE:=λσ H Q=>t σ H λxs H1=>xs.length<=sizeLine/\∀p,H1 p=none->Q (.ref p) (upd H1 p (.lst xs))
theorem ZC0 {x1} (h:PA X es t):PE X (.Tuple es x1 pos) (tTup t):=by intro pins s σ H Q I hq;refine wpAny_Tuple_spliced (thn (h pos pins s σ H _ I hq) λus s1 ⟨xs,H1,I1,r,z,q⟩=>⟨by rw [<-r.length];exact z,?_⟩);have hf:H1 s1.heap.objs.size=none:=I1.hok.fresh (Nat.le_refl _);refine ⟨.ref s1.heap.objs.size,upd H1 s1.heap.objs.size (.tup xs),I1.laid (t':=s1.toks) (λb u e=>Heap.get?_push_of_some _ e) (Nat.le_refl _) ?_,rfl,q _ hf⟩;exact ⟨z,us,r,⟨_,Heap.get?_push_size _ rfl,rfl,_,rfl⟩⟩
theorem ZGS (h:PA X es t):PE X (.List es pos) (tLst t):=by intro pins s σ H Q I hq;refine wpAny_List_spliced (thn (h pos pins s σ H _ I hq) λus s1 ⟨xs,H1,I1,r,z,q⟩=>⟨by rw [<-r.length];exact z,?_⟩);have hf:H1 s1.heap.objs.size=none:=I1.hok.fresh (Nat.le_refl _);refine ⟨.ref s1.heap.objs.size,upd H1 s1.heap.objs.size (.lst xs),I1.laid (t':=s1.toks) (λb u e=>Heap.get?_push_of_some _ e) (Nat.le_refl _) ?_,rfl,q _ hf⟩;exact ⟨z,us,0,r,Heap.get?_push_size _ rfl⟩
end
abbrev Sp:=List V->Hp->VK->XK->Prop
abbrev CXT:=List Env->Hp->Shared->XK->Value->Shared->Prop
variable {CX:CXT}
structure Env0 (P:Program) (w:World) (K:PySem.W.Frag) (mg:Str->Option Value) (base:Heap) (A:Around) (outer:List Env) (s:Shared) (H:Hp):Prop where
 frames:A.frames=some outer
 mod:Mod K mg base
 bs:∀b o,base.get? b=some o->s.heap.get? b=some o/\H b=none
 bsz:base.objs.size<=s.heap.objs.size
 funs:s.heap.FunFrames base outer
 frf:∀b∈frs outer,H b=none
 hok:HOk P w H s.heap
 bare:AllBare s.gens
def CE (outer:List Env) (P:Program) (w:World) (H:Hp) (s:Shared) (Q:VK) (u:Value) (s':Shared):Prop:=
 ∃v H',s'.os=s.os/\AllBare s'.gens/\Un (frs outer) [] H H' s.heap s'.heap/\HOk P w H' s'.heap/\RelV v u/\Q v H'
def CR (CX:CXT) (outer:List Env) (P:Program) (w:World) (H:Hp) (s:Shared) (Q:VK) (E:XK) (r:Result) (s':Shared):Prop:=
 match r with
 | .ok (.ret u)=>CE outer P w H s Q u s'
 | .ok _=>False
 | .error e=>CX outer H s E e s'
structure FnOk (P:Program) (w:World) (K:PySem.W.Frag) (mg:Str->Option Value) (base:Heap) (CX:CXT) (k:Nat) (f:Addr) (fd:FuncData) (ps:List Str) (sp:Sp):Prop where
 len:∀vs H Q E,sp vs H Q E->vs.length=ps.length
 run:∀(A:Around) (outer:List Env) (s:Shared) (H:Hp) (args:Args) (us:List Value) (vs:List V) (Q:VK) (E:XK),Room k A->Env0 P w K mg base A outer s H->BindsTo s fd args (ps.zip us)->Vals vs us->sp vs H Q E->
  codeAny (model P w) A (.call (.ref f) args) (CR CX outer P w H s Q E) s
theorem FnOk.mono {sp:Sp} (F:FnOk P w K mg base CX j f fd ps sp) (h:j<=k):
  FnOk P w K mg base CX k f fd ps sp:=⟨F.len,λA outer s H args us vs Q E hr=>F.run A outer s H args us vs Q E (hr.mono h)⟩
theorem FnOk.imp {sp sp':Sp} (F:FnOk P w K mg base CX k f fd ps sp)
  (h:∀vs H Q E,sp' vs H Q E->sp vs H Q E):FnOk P w K mg base CX k f fd ps sp':=
 ⟨λvs H Q E q=>F.len vs H Q E (h _ _ _ _ q),λA outer s H args us vs Q E hr he hb hv hs=>F.run A outer s H args us vs Q E hr he hb hv (h _ _ _ _ hs)⟩
theorem Env0.in1 {outer:List Env} (e:Env0 P w K mg base A outer s H):
  Env0 P w K mg base A.in1 outer s H:=⟨e.frames,e.mod,e.bs,e.bsz,e.funs,e.frf,e.hok,e.bare⟩
section
variable {X:Cx} {pins:List (Addr×Obj)} {σ:St} {H:Hp} {s s':Shared}
theorem Inv.env0 (I:Inv X pins σ H s):Env0 X.prog X.w X.K X.mg X.base X.A X.stack s H:=
 ⟨I.ok.frames,I.ok.mod,I.bs,Nat.le_trans I.ok.bsz I.sz,I.stack,I.ZBP,I.hok,I.bare⟩
theorem Inv.after {Q:VK} (I:Inv X pins σ H s) (h:CE X.stack X.prog X.w H s Q u s'):EP X pins σ Q u s':=by obtain ⟨v,H',os,bare,un,hok,r,q⟩:=h;obtain ⟨hh,g,d,t,os'⟩:=s';obtain rfl:os'=s.os:=os;exact ⟨v,H',I.call (h':=hh) (g':=g) (d':=d) (t':=t) (ch:= []) un hok bare (λb z=>absurd z (by simp)),r,q⟩
end
def ZFI (sp:Sp) (dvs:List V) (E:XK) (t:TA):TE:=λσ H Q=>t σ H λvs H1=>sp (vs++dvs) H1 Q E
def Binds (K:PySem.W.Frag) (fd:FuncData) (ps:List Str) (ds:List Value):Prop:=
 ∀(s:Shared) (us:List Value),K.In s.heap->(us++ds).length=ps.length->BindsTo s fd ⟨us,[]⟩ (ps.zip (us++ds))
theorem Binds.all (h:∀us:List Value,us.length=ps.length->bindArgs fd ⟨us,[]⟩=pure (ps.zip us)):Binds K fd ps []:=λs us _ hl=>by rw [List.append_nil] at hl ⊢;exact .of_eq (h us hl)
def Passes (CX:CXT) (X:Cx) (E:XK):Prop:=∀(pins:List (Addr×Obj)) (σ:St) (H:Hp) (s:Shared) (e:Value) (s':Shared),Inv X pins σ H s->CX X.stack H s E e s'->X.xe e s'
section
variable {X:Cx} {CX:CXT} {k:Nat} {f C:Addr} {fd:FuncData} {ps:List Str} {sp:Sp} {dvs:List V} {ds:List Value} {E:XK} {x m:Str} {p pos apos:Pos} {e o:Expr} {es:List Expr} {ta:TE} {t:TA}
theorem ZBu {Q:VK} {vs:List V} (F:FnOk X.prog X.w X.K X.mg X.base CX k f fd ps sp) (hr:Room k X.A) (hb:Binds X.K fd ps ds) (hd:Vals dvs ds) (hx:Passes CX X E)
  (I:Inv X pins σ H s) (r:Vals vs us) (h:sp (vs++dvs) H Q E):wpAny (model X.prog X.w) X.A (call (.ref f) us) (EP X pins σ Q) X.xe s:=by
 have r2:Vals (vs++dvs) (us++ds):=r.append hd;have hl:(us++ds).length=ps.length:=by rw [<-r2.length];exact F.len _ _ _ _ h
 refine wpAny_call (codeAny_mono (F.run X.A X.stack s H ⟨us,[]⟩ (us++ds) (vs++dvs) Q E hr I.env0 (hb s us I.kIn hl) r2 h) λr s' hq=> ?_);cases r with
 | error e=>exact hx pins σ H s e s' I hq
 | ok fl=>
  cases fl with
  | ret u=>exact I.after hq
  | next=>exact False.elim hq
  | brk=>exact False.elim hq
  | cont=>exact False.elim hq
theorem ZDA (F:FnOk X.prog X.w X.K X.mg X.base CX k f fd ps sp) (hr:Room k X.A) (hg:Gl X x) (hm:X.mg x=some (.ref f)) (hk:PySem.W.keepIn X.K (.ref f)=true) (hb:Binds X.K fd ps ds) (hd:Vals dvs ds) (hx:Passes CX X E)
  (ha:PA X (e::es) t) (hdb:(x == ("__debug__":Str))=false:=by decide) (he:starEach (e::es) X.env=(false,eval e X.env)::starEach es X.env:=by rfl) (hpl:(backTo pos (starEach es X.env)).any (·.1)=false:=by rfl):
  PE X (.Call (.Name x p) (e::es) [] pos) (ZFI sp dvs E t):=by
 intro pins s σ H Q I h;refine wpAny_Call_Name_kw (ZB4 I hg hm ?_ hdb);refine PySem.W.callWith_K (h₀:=X.base) I.ok.mod.kin hk (thn (ha pos pins s σ H _ I h) λus s1 ⟨vs,H1,I1,r,q⟩=>⟨I1.kIn,?_⟩) he hpl;exact ZBu F hr hb hd hx I1 r q
end
section
variable {X:Cx} {CX:CXT} {k:Nat} {f C:Addr} {fd:FuncData} {ps ks:List Str} {sp:Sp} {E:XK} {x m:Str} {p pos apos kpos:Pos} {e o:Expr} {es:List Expr} {kws:List Keyword} {te ta:TE} {t tk:TA} {nm:Option Str}
structure KBinds (K:PySem.W.Frag) (fd:FuncData) (ps ks:List Str) (g:List Value->List Value->List Value) (gV:List V->List V->List V):Prop where
 to:∀(s:Shared) (us ws:List Value),K.In s.heap->(g us ws).length=ps.length->BindsTo s fd ⟨us,ks.zip ws⟩ (ps.zip (g us ws))
 rel:∀{vs:List V} {us:List Value} {zs:List V} {ws:List Value},Vals vs us->Vals zs ws->Vals (gV vs zs) (g us ws)
variable {g:List Value->List Value->List Value} {gV:List V->List V->List V}
end
structure FnScope (N P:List Str) (sc:Scope):Prop where
 kind:sc.kind=.function
 co:sc.isCoroutine=false
 gen:sc.isGenerator=false
 nd:N.Nodup
 pre:N.take P.length=P
 par:∀x∈P,sc.names.lookup x=some .local∨sc.names.lookup x=some .cell
 nofree:∀y∈sc.names,y.2≠ .free
theorem ZBY:∀{binds:List (Str×Value)} {m:Str->Option Value},(∀v,(x,v) ∉ binds)->bindL kindOf binds m x=m x
 | [],_,_=>rfl
 | (n,v)::r,m,h=>by
  unfold bindL;rw [ZBY λw hw=>h w (List.mem_cons_of_mem _ hw)];split
  ·have:x≠n:=by rintro rfl;exact h v List.mem_cons_self
   simp [this]
  ·rfl
theorem ZAp:∀{binds:List (Str×Value)} {m:Str->Option Value},(∀v,(x,v) ∉ binds)->bindC kindOf binds m x=m x
 | [],_,_=>rfl
 | (n,v)::r,m,h=>by
  unfold bindC;rw [ZAp λw hw=>h w (List.mem_cons_of_mem _ hw)];split
  ·rfl
  ·have:x≠n:=by rintro rfl;exact h v List.mem_cons_self
   simp [this]
theorem ZAW {v:Value}:∀{P:List Str} {vs:List Value} {i:Nat} {m:Str->Option Value},P.Nodup->P[i]? =some x->vs[i]? =some v->kindOf x=some .local->
  bindL kindOf (P.zip vs) m x=some v
 | [],_,_,_,_,h,_,_=>by simp at h
 | _::_,[],_,_,_,_,h,_=>by simp at h
 | p::P,w::vs,0,m,nd,h1,h2,hk=>by simp at h1 h2;subst h1;subst h2;show bindL kindOf ((p,w)::P.zip vs) m p=_;unfold bindL;rw [ZBY λv hv=>(List.nodup_cons.mp nd).1 (List.of_mem_zip hv).1,if_pos hk];simp
 | p::P,w::vs,i + 1,m,nd,h1,h2,hk=>by show bindL kindOf ((p,w)::P.zip vs) m x=_;unfold bindL;exact ZAW (i:=i) (List.nodup_cons.mp nd).2 (by simpa using h1) (by simpa using h2) hk
theorem ZAc {v:Value}:∀{P:List Str} {vs:List Value} {i:Nat} {m:Str->Option Value},P.Nodup->P[i]? =some x->vs[i]? =some v->kindOf x≠some .local->
  bindC kindOf (P.zip vs) m x=some v
 | [],_,_,_,_,h,_,_=>by simp at h
 | _::_,[],_,_,_,_,h,_=>by simp at h
 | p::P,w::vs,0,m,nd,h1,h2,hk=>by simp at h1 h2;subst h1;subst h2;show bindC kindOf ((p,w)::P.zip vs) m p=_;unfold bindC;rw [ZAp λv hv=>(List.nodup_cons.mp nd).1 (List.of_mem_zip hv).1,if_neg hk];simp
 | p::P,w::vs,i + 1,m,nd,h1,h2,hk=>by show bindC kindOf ((p,w)::P.zip vs) m x=_;unfold bindC;exact ZAc (i:=i) (List.nodup_cons.mp nd).2 (by simpa using h1) (by simpa using h2) hk
def start (N:List Str) (vs:List V):St:=vs.map some++List.replicate (N.length - vs.length) none
def Jb (CX:CXT) (P:Program) (w:World) (K:PySem.W.Frag) (mg:Str->Option Value) (base:Heap) (N:List Str) (qual:Str) (scope:Scope) (f:Addr) (cd:Value) (A:Around) (outer:List Env) (s:Shared) (H:Hp) (E:XK):Cx where
 prog:=P
 w:=w
 K:=K
 mg:=mg
 base:=base
 A:=A.deeper (envOfC qual scope s.heap.objs.size f cd)
 N:=N
 s₀:=s
 H₀:=H
 env:=envOfC qual scope s.heap.objs.size f cd
 outer:=outer
 stack:=envOfC qual scope s.heap.objs.size f cd::outer
 ex:= []
 calm:=true
 fn:=λ_=>true
 pn:= []
 xe:=λe s'=>wpAny (model P w) (A.deeper (envOfC qual scope s.heap.objs.size f cd)) (leaving (envOfC qual scope s.heap.objs.size f cd) e) (λ_ s''=>CX outer H s E e s'') (λe' s''=>CX outer H s E e' s'') s'
theorem Z9 {sc:Scope} {n:Nat} (h:sc.names.lookup x=some .cell):∃c,(cellsFrom n sc.names []).lookup x=some c:=by have q:=PySem.W.cellsFrom_some sc.names n [] (.inl h);exact Option.isSome_iff_exists.mp q
theorem ZFe {N:List Str} {qual:Str} {scope:Scope} {cd:Value} {outer:List Env} {s1:Shared} {E:XK} {vs:List V}
  (S:FnScope N ps scope) (hd:A.handled=none) (e0:Env0 P w K mg base A outer s H) (hl:vs.length=ps.length) (r:Vals vs us)
  (x:InCallC s s.heap.objs.size (bindL (envOfC qual scope s.heap.objs.size f cd).kindOf (ps.zip us) λ_=>none) (cellsFrom (s.heap.objs.size + 1) scope.names []) (bindC (envOfC qual scope s.heap.objs.size f cd).kindOf (ps.zip us) λ_=>none) s1):
  Inv (Jb CX P w K mg base N qual scope f cd A outer s H E) [] (start N vs) H s1:=by
 have hpl:ps.length<=N.length:=by have:=congrArg List.length S.pre;rw [List.length_take] at this;omega
 obtain ⟨h1,tk,rfl,hk⟩:=x.done
 have noA:∀b:Addr,b ∉ (Jb CX P w K mg base N qual scope f cd A outer s H E).ex:=λb z=>absurd (show b∈([]:List Addr) from z) (by simp)
 refine ⟨⟨e0.mod,S.kind,rfl,rfl,Nat.le_refl _,λy z c h1 h2=> ?_,λy hy=> ?_,λy c _ h=> ?_,λ_=>hd,Around.frames_deeper e0.frames,.inr ⟨rfl,rfl⟩,λb z=>absurd z (noA b),e0.bs,e0.bsz,λb _ _=>noA b,λb z=>absurd z (noA b),e0.funs,e0.frf⟩,
  rfl,e0.bare,Un.kept hk,⟨_,x.toInCall.ns,λi y v h1 h2 h3=> ?_⟩,λy c h=>⟨_,x.cell y c h⟩,e0.hok.fresh (Nat.le_refl _),λy c h=> ?_,λp hp=>absurd (show p∈([]:List (Addr×Obj)) from hp) (by simp),e0.hok.kept hk,?_⟩
 ·exact name_of_addr x.apart (PySem.mem_of_lookup h1) (PySem.mem_of_lookup h2)
 ·have hy:scope.names.lookup y=some .cell∨scope.names.lookup y=some .free:=hy;rcases hy with hy | hy
  ·exact Z9 hy
  ·exact absurd rfl (S.nofree _ (PySem.mem_of_lookup hy))
 ·exact Nat.le_of_lt (x.above y c (PySem.mem_of_lookup h))
 ·have hi:i < vs.length:=by
   unfold start at h2;by_cases hi:i < vs.length
   ·exact hi
   ·rw [List.getElem?_append_right (by simpa using hi)] at h2;rw [List.getElem?_replicate] at h2
    split at h2 <;> cases h2
  have ha:vs[i]? =some v:=by
   unfold start at h2;rw [List.getElem?_append_left (by simpa using hi),List.getElem?_map] at h2;cases e:vs[i]? with
   | none=>rw [e] at h2;cases h2
   | some a=>rw [e] at h2;cases h2;rfl
  obtain ⟨u,hu,rv⟩:=r.get ha;have hp:ps[i]? =some y:=by rw [<-S.pre,List.getElem?_take_of_lt (by omega)];exact h1
  have ndP:ps.Nodup:=by rw [<-S.pre];exact S.nd.sublist (List.take_sublist _ _)
  refine ⟨u,rv,?_⟩;rcases S.par y (List.mem_of_getElem? hp) with k | k
  ·exact .inl ⟨k,ZAW ndP hp hu k⟩
  ·obtain ⟨c,e⟩:=Z9 (n:=s.heap.objs.size + 1) k;refine .inr ⟨.inl k,c,e,?_⟩;have q:=x.cell y c e;rw [ZAc ndP hp hu (by show scope.names.lookup y≠_;rw [k];decide)] at q;exact q
 ·exact e0.hok.fresh (Nat.le_of_lt (x.above y c (PySem.mem_of_lookup h)))
 ·unfold start;show _=N.length;rw [List.length_append,List.length_map,List.length_replicate];omega
theorem ZFg {name qual:Str} {params:Arguments} {body:List Stmt} {scope:Scope} {dV kV doc pm cdv ct oc:Value} {an od:Option Addr}
  {osl:Array (Option Value)} {N ps:List Str} {sp:Sp} (lk:K.lookup f=some ⟨oc,od,.func (PySem.W.fnOf name qual params body scope dV kV doc pm an cdv ct),osl⟩) (hcd:PySem.W.codeIn K cdv qual=true) (S:FnScope N ps scope)
  (len:∀vs H Q E,sp vs H Q E->vs.length=ps.length)
  (hbody:∀(A:Around) (outer:List Env) (s:Shared) (H:Hp) (vs:List V) (Q:VK) (E:XK),Room k (A.deeper (envOfC qual scope s.heap.objs.size f cdv))->sp vs H Q E->
   ∃t,PSs (Jb CX P w K mg base N qual scope f cdv A outer s H E) body t/\t {nx:=λ_ H'=>Q .non H',rt:=Q} (start N vs) H):
  FnOk P w K mg base CX (k + 1) f (PySem.W.fnOf name qual params body scope dV kV doc pm an cdv ct) ps sp:=by
 refine ⟨len,λA outer s H args us vs Q E hr e0 hb r hsp=> ?_⟩;have hl:=len _ _ _ _ hsp;have KX:K.In s.heap:=e0.mod.kin.keeps λb o e=>(e0.bs b o e).1
 have lim:s.heap.NoLimit:=e0.mod.nolimit.keeps λb o e=>(e0.bs b o e).1
 have hkind:∀y∈ps.zip us,scope.names.lookup y.1=some .local∨(scope.names.lookup y.1=some .cell/\((cellsFrom (s.heap.objs.size + 1) scope.names []).lookup y.1).isSome=true):=λ⟨n,v⟩ hy=>by
  rcases S.par n (List.of_mem_zip hy).1 with q | q
  ·exact .inl q
  ·exact .inr ⟨q,PySem.W.cellsFrom_some _ _ _ (.inl q)⟩
 refine codeAny_call_function hr.depth (KX _ _ lk) rfl S.co S.gen rfl (PySem.W.codeRec_of KX hcd) (hb _ _ _ _ ?_);refine wpAny_newFunctionEnv_cells S.kind hkind λenv he s1 x=> ?_
 subst he;refine ⟨lim.keeps x.toInCall.keep,codeAny_func ?_⟩;obtain ⟨t,ht,hq⟩:=hbody A outer s H vs Q E (hr.deeper _) hsp;have I:Inv (Jb CX P w K mg base N qual scope f cdv A outer s H E) [] (start N vs) H s1:=ZFe S hr.hd e0 hl r x;refine wpAny_mono (ht [] s1 (start N vs) H _ I hq) (λfl s' hs=> ?_) λe s' hs=>hs
 have fin:∀{σ':St} {H':Hp} {v:V} {u:Value},Inv (Jb CX P w K mg base N qual scope f cdv A outer s H E) [] σ' H' s'->RelV v u->Q v H'->CE outer P w H s Q u s':=
  λ{σ' H' v u} J rv q=>⟨v,H',J.os,J.bare,J.base,J.hok,rv,q⟩
 cases fl with
 | ret u=>
  obtain ⟨v,σ',H',J,rv,q⟩:=hs;exact fin J rv q
 | next=>
  obtain ⟨σ',H',J,q⟩:=hs;exact fin (v:=V.non) (u:=Value.none) J rfl q
 | brk=>
  obtain ⟨_,_,_,q⟩:=hs;exact False.elim q
 | cont=>
  obtain ⟨_,_,_,q⟩:=hs;exact False.elim q
section
variable {X:Cx} {x:Str} {p pos:Pos} {e:Expr} {es:List Expr} {t:TA} {id T:String} {r:List V->Hp->VK->Prop}
def tCB (r:List V->Hp->VK->Prop) (t:TA):TE:=λσ H Q=>t σ H λvs H1=>r vs H1 Q
theorem ZCR (hc:CallR X (.builtin id) r) (hg:Gl X x) (hm:X.mg x=none) (hv:bootBuiltins x=some (.builtin id)) (ha:PA X (e::es) t) (hn:x≠"__name__":=by decide) (hdb:(x == ("__debug__":Str))=false:=by decide)
  (he:starEach (e::es) X.env=(false,eval e X.env)::starEach es X.env:=by rfl) (hpl:(backTo pos (starEach es X.env)).any (·.1)=false:=by rfl):PE X (.Call (.Name x p) (e::es) [] pos) (tCB r t):=by
 intro pins s σ H Q I h;refine wpAny_Call_Name_kw (Mr I hg hm hv ?_ hn hdb);exact PyProof.Rows.callWith_builtin1 (thn (ha pos pins s σ H _ I h) λus s1 ⟨vs,H1,I1,r1,q1⟩=>hc pins s1 σ H1 vs us Q I1 r1 q1) he hpl
theorem ZF1 (hc:CallR X (.type T) r) (hg:Gl X x) (hm:X.mg x=none) (hv:bootBuiltins x=some (.type T)) (ha:PA X (e::es) t) (hn:x≠"__name__":=by decide) (hdb:(x == ("__debug__":Str))=false:=by decide)
  (he:starEach (e::es) X.env=(false,eval e X.env)::starEach es X.env:=by rfl) (hpl:(backTo pos (starEach es X.env)).any (·.1)=false:=by rfl):PE X (.Call (.Name x p) (e::es) [] pos) (tCB r t):=by
 intro pins s σ H Q I h;refine wpAny_Call_Name_kw (Mr I hg hm hv ?_ hn hdb);exact PyProof.Rows.callWith_type1 (thn (ha pos pins s σ H _ I h) λus s1 ⟨vs,H1,I1,r1,q1⟩=>hc pins s1 σ H1 vs us Q I1 r1 q1) he hpl
end
end L2
namespace HT
open PySem PyProof.Rows
section
open PySem.SeqAt
open PySem.AutoSeq1 (wpAny_loadPart')
open PySem.MeetsSeq PySem.MeetsSeq2 PySem.MeetsSeq3
end
section
variable {prog:Program} {w:World} {A:Around} {E:Value->Shared->Prop} {s:Shared}
theorem ZCd {t b:Addr} {vs ws:List Value} {Q:Value->Shared->Prop} (ht:IsTup s.heap t vs.toArray) (hb:IsTup s.heap b ws.toArray) (hv:vs≠ [])
  (h1:ws= []->Q (.ref t) s) (h2:ws≠ []->Q (.ref s.heap.objs.size) {s with heap:=s.heap.push {cls:=.type "tuple",data:=.seq (vs++ws).toArray}})
  (hsz:vs.length + ws.length<=sizeLine):wpAny (model prog w) A (binaryOp .Add (.ref t) (.ref b)) Q E s:=by
 obtain ⟨⟨cls,dd,data,sl⟩,ho,hc,n,hd⟩:=id ht;obtain ⟨⟨cls2,dd2,data2,sl2⟩,ho2,hc2,n2,hd2⟩:=id hb;simp only at hc hd hc2 hd2;subst hc hd hc2 hd2;have e:vs.toArray++ws.toArray=(vs++ws).toArray:=by simp
 by_cases hw:ws= []
 ·exact concat_meets ⟨_,ho,rfl⟩ ⟨_,ho2,rfl⟩ noFill_tuple_add seq_tuple_add PySem.F.slot_tuple_add PySem.F.entry_tuple_add (PySem.F.args_tuple_add_2 _ _)
   (tuple_addW1 t b vs.toArray ws.toArray n n2 dd dd2 sl sl2 (by simpa using hv) (by simp [hw])) ⟨ho,ho2,h1 hw⟩
 ·refine concat_meets ⟨_,ho,rfl⟩ ⟨_,ho2,rfl⟩ noFill_tuple_add seq_tuple_add PySem.F.slot_tuple_add PySem.F.entry_tuple_add (PySem.F.args_tuple_add_2 _ _)
   (tuple_addW2 t b vs.toArray ws.toArray n n2 dd dd2 sl sl2 (by simpa using hv) (by simpa using hw) (by rw [List.size_toArray,List.size_toArray];exact hsz)) ⟨ho,ho2,?_⟩
  rw [e];exact h2 hw
def sIx (n d:Nat):Option Int->Nat
 | none=>d
 | some v=>if v < 0 then (v + (n:Int)).toNat else min v.toNat n
theorem Zx (n d:Nat) (hd:d<=n) (o:Option Int):sIx n d o<=n:=by
 cases o with
 | none=>exact hd
 | some v=>
  show (if v < 0 then (v + (n:Int)).toNat else min v.toNat n)<=n;by_cases hv:v < 0
  ·rw [if_pos hv];omega
  ·rw [if_neg hv];exact Nat.min_le_right _ _
theorem ZAY (v:Int) (n d:Nat):(if v < 0 then max (v + (n:Int)) 0 else min v (n:Int))=((sIx n d (some v):Nat):Int):=by
 show (if v < 0 then max (v + (n:Int)) 0 else min v (n:Int))=(((if v < 0 then (v + (n:Int)).toNat else min v.toNat n):Nat):Int);by_cases hv:v < 0
 ·simp only [if_pos hv];omega
 ·simp only [if_neg hv];omega
theorem ZC7 (lo hi:Option Int) (n:Nat):Builtin.Slice.sliceAdjust lo hi 1 (n:Int)=(((sIx n 0 lo:Nat):Int),((sIx n n hi:Nat):Int)):=by
 have h1:¬((1:Int) < 0):=by omega
 unfold Builtin.Slice.sliceAdjust;simp only [h1,if_false];refine Prod.ext ?_ ?_
 ·cases lo with
  | none=>rfl
  | some v=>exact ZAY v n 0
 ·cases hi with
  | none=>rfl
  | some v=>exact ZAY v n n
theorem ZFV (i j:Nat):Builtin.Slice.slicePlaces (i:Int) (j:Int) 1=j - i:=by
 unfold Builtin.Slice.slicePlaces;have h1:(1:Int) > 0:=by omega
 simp only [h1,if_true,Int.ediv_one]
 split <;> omega
theorem ZAi {v:Value} {o:Option Int} {Q:Option Int->Shared->Prop} (p:IsPart v o) (h:Q o s):wpAny (model prog w) A (Builtin.Slice.slicePartIndex v) Q E s:=by
 cases p with
 | none=>exact slicePart_none h
 | int i t=>exact slicePart_int h
theorem ZAa {sl:Addr} {vl vu:Value} {lo hi:Option Int} {n:Nat} {Q:Int×Int×Nat->Shared->Prop} (hs:s.heap.IsSliceOf sl vl vu .none) (pl:IsPart vl lo) (pu:IsPart vu hi)
  (h:Q (((sIx n 0 lo:Nat):Int),1,sIx n n hi - sIx n 0 lo) s):wpAny (model prog w) A (Builtin.Slice.sliceApplied (.ref sl) (pure (n:Int))) Q E s:=by
 obtain ⟨os,hos,hcs,hds⟩:=id hs;unfold Builtin.Slice.sliceApplied Builtin.Slice.sliceFields;refine wpAny_bind (wpAny_bind (wpAny_field hos hds (x:=vl) rfl (wpAny_bind (wpAny_field hos hds (x:=vu) rfl (wpAny_bind (wpAny_field hos hds (x:=.none) rfl (wpAny_pure ?_)))))));refine wpAny_bind (slicePart_none ?_);show wpAny _ _ (if ((1:Int) == 0)=true then _ else _) _ _ s;rw [if_neg (by decide)];refine wpAny_bind (ZAi pl (wpAny_bind (ZAi pu (wpAny_bind (wpAny_pure ?_)))))
 show wpAny _ _ (match Builtin.Slice.sliceAdjust lo hi 1 (n:Int) with | (lo,hi)=>pure (lo,(1:Int),Builtin.Slice.slicePlaces lo hi 1)) _ _ s
 rw [ZC7 lo hi n];show wpAny _ _ (pure (((sIx n 0 lo:Nat):Int),(1:Int),Builtin.Slice.slicePlaces ((sIx n 0 lo:Nat):Int) ((sIx n n hi:Nat):Int) 1)) _ _ s;rw [ZFV];exact wpAny_pure h
theorem ZGT (xs:Array Value) (i k:Nat):((List.range k).filterMap λ(m:Nat)=>xs[((i:Int) + (m:Int) * 1).toNat]?).toArray=((xs.toList.drop i).take k).toArray:=by
 have e:(λ(m:Nat)=>xs[((i:Int) + (m:Int) * 1).toNat]?)=λm=>xs[i + m]? :=by
  funext m;have:((i:Int) + (m:Int) * 1).toNat=i + m:=by omega
  rw [this]
 rw [e];have:=pick_run xs i k;rw [List.filterMap_map] at this;have e2:((λx=>xs[x]?) ∘ λx=>i + x)=λm=>xs[i + m]? :=rfl
 rw [e2] at this;rw [this]
theorem ZFk {t sl:Addr} {items:Array Value} {vl vu:Value} {lo hi:Option Int} {Q:Value->Shared->Prop} (ht:IsTup s.heap t items) (hs:s.heap.IsSliceOf sl vl vu .none) (pl:IsPart vl lo) (pu:IsPart vu hi)
  (hw:¬(sIx items.size 0 lo=0/\sIx items.size items.size hi=items.size))
  (h:Q (.ref s.heap.objs.size) {s with heap:=s.heap.push {cls:=.type "tuple",data:=.seq ((items.toList.drop (sIx items.size 0 lo)).take (sIx items.size items.size hi - sIx items.size 0 lo)).toArray}})
  (hsz:items.size<=sizeLine):wpAny (model prog w) A (getItem (.ref t) (.ref sl)) Q E s:=by
 have htake:sizeOk (.seq ((items.toList.drop (sIx items.size 0 lo)).take (sIx items.size items.size hi - sIx items.size 0 lo)).toArray):=by show ((items.toList.drop (sIx items.size 0 lo)).take (sIx items.size items.size hi - sIx items.size 0 lo)).toArray.size<=sizeLine;rw [List.size_toArray,List.length_take,List.length_drop,Array.length_toList];omega
 have hj:sIx items.size items.size hi<=items.size:=Zx _ _ (Nat.le_refl _) hi;obtain ⟨os,hos,hcs,hds⟩:=id hs;have hTs:s.TypeIs (.ref sl) "slice":=⟨os,hos,hcs⟩;unfold getItem
 try with_reducible refine wpAny_holding ?_
 first | refine wpAny_bind (wpAny_pure ?_) | skip
 refine wpAny_bind (wpAny_sequenceKey ht.typeIs (by decide) ?_);refine wpAny_bind (wpAny_callSpecial?_slot (name:=Str.ofString "__getitem__") ht.typeIs PyProof.Rows.slot_tuple_getitem
  (wpAny_call_entry PyProof.Rows.slot_tuple_getitem ht.typeIs entry_tuple_getitem ?_ (args_tuple_getitem _ _)))
 show wpAny _ _ (Builtin.Tuple.tupleItemsOf (.ref t) >>=_) _ _ s;refine wpAny_bind (tupleItemsOf_ ht ?_);refine wpAny_bind (wpAny_typeOf hTs ?_);rw [if_pos (by decide)];refine wpAny_bind (ZAa hs pl pu ?_);have hno:¬((((sIx items.size 0 lo:Nat):Int) == 0 && (1:Int) == 1 && (sIx items.size items.size hi - sIx items.size 0 lo) == items.size)=true):=by intro q;rw [Bool.and_eq_true,Bool.and_eq_true] at q;have q1:((sIx items.size 0 lo:Nat):Int)=0:=eq_of_beq q.1.1;have q2:sIx items.size items.size hi - sIx items.size 0 lo=items.size:=eq_of_beq q.2;exact hw ⟨by omega,by omega⟩
 show wpAny _ _ (if (((sIx items.size 0 lo:Nat):Int) == 0 && (1:Int) == 1 && (sIx items.size items.size hi - sIx items.size 0 lo) == items.size)=true then _ else _) _ _ s;rw [if_neg hno,ZGT]
 first
  | exact wpAny_bind (m:=Builtin.Tuple.tupleExact _) (wpAny_newObj_type (wpAny_pure ⟨_,rfl,wpAny_pure h⟩) htake)
  | exact wpAny_bind (m:=Builtin.Tuple.tupleExact _) (wpAny_newObj_type (wpAny_bind (wpAny_pure (wpAny_pure ⟨_,rfl,wpAny_pure h⟩))) htake)
  | exact wpAny_bind (wpAny_bind (m:=Builtin.Tuple.tupleExact _) (wpAny_newObj_type (wpAny_pure (wpAny_pure ⟨_,rfl,wpAny_pure h⟩)) htake))
  | exact wpAny_bind (wpAny_bind (m:=Builtin.Tuple.tupleExact _) (wpAny_newObj_type (wpAny_pure ⟨_,rfl,wpAny_pure h⟩) htake))
end
end HT
namespace L2
open PySem PySem.Spec PyProof.Rows
variable {xs:List V} {pins:List (Addr×Obj)} {σ:St} {H:Hp} {s:Shared} {its:List Value}
abbrev TO:=St->Hp->(Option Int->Hp->Prop)->Prop
def PO (X:Cx) (e:Option Expr) (t:TO):Prop:=
 ∀(pins:List (Addr×Obj)) (s:Shared) (σ:St) (H:Hp) (Q:Option Int->Hp->Prop),Inv X pins σ H s->t σ H Q->
  wpAny (model X.prog X.w) X.A (evalPart e X.env) (λu s'=>∃o H',Inv X pins σ H' s'/\IsPart u o/\Q o H') X.xe s
def ZEt:TO:=λ_ H Q=>Q none H
def ZCl (t:TE):TO:=λσ H Q=>t σ H λx H1=>∃i,x=.int i/\Q (some i) H1
section
variable {X:Cx} {e:Expr} {te:TE} {lo hi:Option Expr} {tl th:TO} {pos p2:Pos}
theorem ZFS:PO X none ZEt:=by intro pins s σ H Q I h;rw [evalPart_none];exact wpAny_pure ⟨none,H,I,.none,h⟩
theorem ZDV (h:PE X e te):PO X (some e) (ZCl te):=by
 intro pins s σ H Q I hw;rw [evalPart_some];refine thn (h pins s σ H _ I hw) λu s1 ⟨x,H1,I1,r1,q1⟩=> ?_
 obtain ⟨i,rfl,q⟩:=q1;obtain ⟨t,rfl⟩:=r1;exact ⟨some i,H1,I1,.int i t,q⟩
def SlR (X:Cx) (r:V->Option Int->Option Int->Hp->VK->Prop):Prop:=
 ∀(pins:List (Addr×Obj)) (s:Shared) (σ:St) (H:Hp) (x:V) (v vl vu:Value) (lo hi:Option Int) (sl:Addr) (Q:VK),Inv X pins σ H s->RelV x v->s.heap.IsSliceOf sl vl vu .none->IsPart vl lo->IsPart vu hi->r x lo hi H Q->
  ∃T id,typeLookup (.type T) "__getitem__"=pure (some (.builtin id))/\s.TypeIs v T/\wpAny (model X.prog X.w) X.A (getItem v (.ref sl)) (EP X pins σ Q) X.xe s
theorem SlR.or {r r':V->Option Int->Option Int->Hp->VK->Prop} (h:SlR X r) (h':SlR X r'):SlR X (λx lo hi H Q=>r x lo hi H Q∨r' x lo hi H Q):=by
 intro pins s σ H x v vl vu lo hi sl Q I rx hs pl pu q;rcases q with q | q
 ·exact h pins s σ H x v vl vu lo hi sl Q I rx hs pl pu q
 ·exact h' pins s σ H x v vl vu lo hi sl Q I rx hs pl pu q
def tSl (r:V->Option Int->Option Int->Hp->VK->Prop) (te:TE) (tl th:TO):TE:=λσ H Q=>te σ H λx H1=>tl σ H1 λl H2=>th σ H2 λu H3=>r x l u H3 Q
theorem ZDZ {r:V->Option Int->Option Int->Hp->VK->Prop} (hr:SlR X r) (he:PE X e te) (hl:PO X lo tl) (hu:PO X hi th):PE X (.Subscript e (.Slice lo hi none p2) pos) (tSl r te tl th):=by
 intro pins s σ H Q I h;refine Subscript_ (thn (he pins s σ H _ I h) λv s1 ⟨x,H1,I1,r1,q1⟩=> ?_);refine wpAny_Slice (thn (hl pins s1 σ H1 _ I1 q1) λvl s2 ⟨l,H2,I2,pl,q2⟩=>thn (hu pins s2 σ H2 _ I2 q2) λvu s3 ⟨u,H3,I3,pu,q3⟩=> ?_);rw [evalPart_none];refine wpAny_pure ?_;have I4:Inv X pins σ H3 {s3 with heap:=s3.heap.push {cls:=.type "slice",data:=.fields #[vl,vu,.none]}}:=I3.kept (t':=s3.toks) λb ob q=>Heap.get?_push_of_some _ q
 obtain ⟨T,id,hT,ht,hg⟩:=hr pins {s3 with heap:=s3.heap.push {cls:=.type "slice",data:=.fields #[vl,vu,.none]}} σ H3 x v vl vu l u s3.heap.objs.size Q I4 r1 (Heap.IsSliceOf.new ..) pl pu q3;show wpAny (model X.prog X.w) X.A (subscriptTail e (.Slice lo hi none p2) v (.ref s3.heap.objs.size)) (EP X pins σ Q) X.xe {s3 with heap:=s3.heap.push {cls:=.type "slice",data:=.fields #[vl,vu,.none]}}
 exact tail_any (ops:= [.ref s3.heap.objs.size,v]) ht hT hg (by with_unfolding_all rfl)
def Ie (xs:List V) (lo hi:Option Int):List V:=(xs.drop (HT.sIx xs.length 0 lo)).take (HT.sIx xs.length xs.length hi - HT.sIx xs.length 0 lo)
theorem ZA8 (xs:List V) (lo hi:Option Int):(Ie xs lo hi).length<=xs.length:=by unfold Ie;rw [List.length_take,List.length_drop];omega
def rSlT (K:PySem.W.Frag):V->Option Int->Option Int->Hp->VK->Prop:=λx lo hi H Q=>∃a xs,x=.ref a/\SqT K H a xs/\
 ¬(HT.sIx xs.length 0 lo=0/\HT.sIx xs.length xs.length hi=xs.length)/\∀p,H p=none->Q (.ref p) (upd H p (.tup (Ie xs lo hi)))
theorem ZDS:SlR X (rSlT X.K):=by
 intro pins s σ H x v vl vu lo hi sl Q I rx hs pl pu h;obtain ⟨a,xs,rfl,hx,hw,q⟩:=h;cases rx;obtain ⟨its,r,ht,hz⟩:=I.tuple hx;have hlen:its.toArray.size=xs.length:=by rw [List.size_toArray];exact r.length.symm
 refine ⟨"tuple",_,PyProof.Rows.slot_tuple_getitem.lookup,ht.typeIs,?_⟩;refine HT.ZFk ht hs pl pu (by rw [hlen];exact hw) ?_ (by rw [hlen];exact hz);rw [hlen];refine ⟨.ref s.heap.objs.size,_,I.laid (t':=s.toks) (o:=.tup (Ie xs lo hi)) (λb ob q=>Heap.get?_push_of_some _ q) (Nat.le_refl _) ?_,rfl,q _ (I.hok.fresh (Nat.le_refl _))⟩;exact ⟨Nat.le_trans (ZA8 xs lo hi) hz,_,(r.drop (HT.sIx xs.length 0 lo)).take (HT.sIx xs.length xs.length hi - HT.sIx xs.length 0 lo),IsTup.new _ _⟩
def ZAE (K:PySem.W.Frag):R2:=λx y H Q=>∃a b xs ys,x=.ref a/\y=.ref b/\SqT K H a xs/\SqT K H b ys/\xs≠ []/\xs.length + ys.length<=sizeLine/\
 (ys= []->Q (.ref a) H)/\(ys≠ []->∀p,H p=none->Q (.ref p) (upd H p (.tup (xs++ys))))
theorem Vals.Vj {us:List Value} (r:Vals xs us):us= []↔xs= []:=by
 cases r with
 | nil=>simp
 | cons _ _=>simp
theorem ZBs:OpR X (binaryOp .Add) (ZAE X.K):=by
 intro pins s σ H x y v u Q I rx ry h;obtain ⟨a,b,xs,ys,rfl,rfl,ha,hb,hx,hz,q1,q2⟩:=h;cases rx;cases ry;obtain ⟨its,r1,p1,_⟩:=I.tuple ha;obtain ⟨its2,r2,p2,_⟩:=I.tuple hb;refine HT.ZCd p1 p2 (λz=>hx (r1.Vj.mp z)) (λz=>⟨.ref a,H,I,rfl,q1 (r2.Vj.mp z)⟩) (λz=> ?_) (by rw [<-r1.length,<-r2.length];exact hz);refine ⟨.ref s.heap.objs.size,_,I.laid (t':=s.toks) (o:=.tup (xs++ys)) (λb ob q=>Heap.get?_push_of_some _ q) (Nat.le_refl _) ?_,rfl,q2 (λw=>z (r2.Vj.mpr w)) _ (I.hok.fresh (Nat.le_refl _))⟩
 exact ⟨by rw [List.length_append];exact hz,_,r1.append r2,IsTup.new _ _⟩
end
def ixN (n:Nat) (i:Int):Option Nat:=if 0<=i then (if i < n then some i.toNat else none) else if -(n:Int)<=i then some (i + n).toNat else none
def atI {α:Type} (xs:List α) (i:Int):Option α:=(ixN xs.length i).bind λj=>xs[j]?
theorem ZAd {n:Nat} {i:Int} {j:Nat} (h:ixN n i=some j):seqIndex? i n=some j/\j < n/\ -(n:Int)<=i/\i < n:=by
 unfold ixN at h;by_cases h0:0<=i
 ·rw [if_pos h0] at h;by_cases h1:i < n
  ·rw [if_pos h1] at h;have e:i.toNat=j:=Option.some.inj h;exact ⟨by rw [seqIndex_of h0 h1,e],by omega,by omega,h1⟩
  ·rw [if_neg h1] at h;cases h
 ·rw [if_neg h0] at h;by_cases h1: -(n:Int)<=i
  ·rw [if_pos h1] at h;have e:(i + n).toNat=j:=Option.some.inj h;exact ⟨by rw [seqIndex_neg (by omega) h1,e],by omega,h1,by omega⟩
  ·rw [if_neg h1] at h;cases h
theorem Wt {α:Type} {xs:List α} {i:Int} {v:α} (h:atI xs i=some v):∃j,seqIndex? i xs.length=some j/\xs[j]? =some v/\j < xs.length/\ -(xs.length:Int)<=i/\i < xs.length:=by
 unfold atI at h;cases e:ixN xs.length i with
 | none=>rw [e] at h;cases h
 | some j=>
  rw [e] at h;obtain ⟨h1,h2,h3,h4⟩:=ZAd e;exact ⟨j,h1,h,h2,h3,h4⟩
def PlainIx (b:Expr):Prop:=∀o i,subscripted b false o i=operate [o,i] (getItem o i)
def IxR (X:Cx) (r:R2):Prop:=
 ∀(value slice:Expr) (pins:List (Addr×Obj)) (s:Shared) (σ:St) (H:Hp) (x y:V) (v u:Value) (Q:VK),Inv X pins σ H s->RelV x v->RelV y u->r x y H Q->
  subscripted slice false v u=operate [v,u] (getItem v u)->wpAny (model X.prog X.w) X.A (subscriptTail value slice v u) (EP X pins σ Q) X.xe s
def MtR (X:Cx) (id:String) (r:V->List V->Hp->VK->Prop):Prop:=
 ∀(pins:List (Addr×Obj)) (s:Shared) (σ:St) (H:Hp) (x:V) (xs:List V) (v:Value) (us:List Value) (Q:VK),Inv X pins σ H s->RelV x v->Vals xs us->r x xs H Q->
  wpAny (model X.prog X.w) X.A (call (.builtin id) (v::us)) (EP X pins σ Q) X.xe s
section
variable {X:Cx} {a b:Expr} {ta tb:TE} {pos:Pos}
theorem IxR.or {r r':R2} (h:IxR X r) (h':IxR X r'):IxR X (λx y H Q=>r x y H Q∨r' x y H Q):=by
 intro value slice pins s σ H x y v u Q I rx ry q hs;rcases q with q | q
 ·exact h value slice pins s σ H x y v u Q I rx ry q hs
 ·exact h' value slice pins s σ H x y v u Q I rx ry q hs
theorem ZDU {r:R2} (hr:IxR X r) (ha:PE X a ta) (hb:PE X b tb) (hs:PlainIx b):PE X (.Subscript a b pos) (tOp r ta tb):=by intro pins s σ H Q I h;exact Subscript_ (Wj ha hb I h λv u s2 x y H2 I2 rx ry q=>hr a b pins s2 σ H2 x y v u Q I2 rx ry q (hs _ _))
def rIxL (K:PySem.W.Frag):R2:=λx y H Q=>∃p xs i v,x=.ref p/\y=.int i/\SqL K H p xs/\atI xs i=some v/\Q v H
def rIxT (K:PySem.W.Frag):R2:=λx y H Q=>∃p xs i v,x=.ref p/\y=.int i/\SqT K H p xs/\atI xs i=some v/\Q v H
def rIxS:R2:=λx y H Q=>∃z i c,x=.str z/\y=.int i/\z.length<=sizeLine/\atI z.cps.toList i=some c/\Q (.str ⟨#[c]⟩) H
theorem ZDu:IxR X (rIxL X.K):=by
 intro value slice pins s σ H x y v u Q I rx ry h hs;obtain ⟨p,xs,i,z,rfl,rfl,hq,he,q⟩:=h;cases rx;obtain ⟨t,rfl⟩:=ry;obtain ⟨its,r,pl,hz⟩:=I.list hq;obtain ⟨j,h1,h2,h3,h4,h5⟩:=Wt he;obtain ⟨w,ew,rw'⟩:=r.get h2;have hl:=r.length;have hn:=line63;have fin:EP X pins σ Q w s:=⟨z,H,I,rw',q⟩;by_cases h0:0<=i
 ·have hj:i.toNat=j:=by rw [seqIndex_of h0 h5] at h1;exact Option.some.inj h1
  exact item_listR pl.isList h0 (by omega) (by rw [hj];simpa using ew) fin hs
 ·have hj:(i + (its.toArray.size:Int)).toNat=j:=by rw [seqIndex_neg (by omega) h4] at h1;rw [List.size_toArray,<-hl];exact Option.some.inj h1
  exact subscriptTail_builtinR (x:=w) pl.isList.typeIs slot_list_getitem.lookup
   (wpAny_getItem_list_neg (Q:=λr s'=>r=w/\EP X pins σ Q r s') pl.isList (by omega) (by rw [List.size_toArray] <;> omega) (by omega) (by rw [hj];simpa using ew) ⟨rfl,fin⟩) hs
theorem ZEy:IxR X (rIxT X.K):=by
 intro value slice pins s σ H x y v u Q I rx ry h hs;obtain ⟨p,xs,i,z,rfl,rfl,hq,he,q⟩:=h;cases rx;obtain ⟨t,rfl⟩:=ry;obtain ⟨its,r,pl,hz⟩:=I.tuple hq;obtain ⟨j,h1,h2,h3,h4,h5⟩:=Wt he;obtain ⟨w,ew,rw'⟩:=r.get h2;have hl:=r.length;have hn:=line63;have fin:EP X pins σ Q w s:=⟨z,H,I,rw',q⟩;exact subscriptTail_builtinR (x:=w) pl.typeIs slot_tuple_getitem.lookup
  (getItem_tuple (j:=j) (Q:=λr s'=>r=w/\EP X pins σ Q r s') pl (by omega) (by omega) (by rw [List.size_toArray,<-hl];exact h1) (by simpa using ew) ⟨rfl,fin⟩) hs
theorem ZCv:IxR X rIxS:=by
 intro value slice pins s σ H x y v u Q I rx ry h hs;obtain ⟨z,i,c,rfl,rfl,hz,he,q⟩:=h;obtain ⟨t,rfl⟩:=rx;obtain ⟨t',rfl⟩:=ry;obtain ⟨j,h1,h2,h3,h4,h5⟩:=Wt he;have hl:z.cps.toList.length=z.length:=by simp [Str.length]
 rw [hl] at h1 h4 h5;have hn:=line63;exact tail_any (typeIs_str s z t) slot_str_getitem.lookup (getItem_str (c:=c) (by have e1:decide (i < -(2 ^ 63:Int))=false:=decide_eq_false (by omega);have e2:decide (i ≥ 2 ^ 63)=false:=decide_eq_false (by omega);rw [e1,e2,Bool.or_false]) (by rw [h1];simpa using h2) ⟨.str ⟨#[c]⟩,H,I.tok _,⟨_,rfl⟩,q⟩) hs
def rIx (K:PySem.W.Frag):R2:=λx y H Q=>rIxL K x y H Q∨rIxT K x y H Q∨rIxS x y H Q
theorem ZFR:IxR X (rIx X.K):=ZDu.or (ZEy.or ZCv)
theorem ZEU (its:List Value) (n j:Nat) (u:Value):Obj.mapSeq (·.setIfInBounds j u) {cls:=.type "list",data:=.seq its.toArray n}={cls:=.type "list",data:=.seq (its.set j u).toArray n}:=by simp [Obj.mapSeq]
theorem Inv.lst {p:Addr} (I:Inv X pins σ H s) (h:H p=some (.lst xs)):
  ∃(its:List Value) (n:Nat),Vals xs its/\s.heap.get? p=some {cls:=.type "list",data:=.seq its.toArray n}/\xs.length<=sizeLine:=by
 obtain ⟨z,its,n,r,e⟩:=I.hok p _ h;exact ⟨its,n,r,e,z⟩
theorem Inv.ZDC {p:Addr} {ys:List V} {its':List Value} {n n':Nat} {f:Obj->Obj} (I:Inv X pins σ H s) (h:H p=some (.lst xs))
  (ho:s.heap.get? p=some {cls:=.type "list",data:=.seq its.toArray n}) (hf:f {cls:=.type "list",data:=.seq its.toArray n}={cls:=.type "list",data:=.seq its'.toArray n'}) (r:Vals ys its') (hz:ys.length<=sizeLine) (t:Nat):
  Inv X pins σ (upd H p (.lst ys)) {s with heap:=s.heap.update p f,toks:=t}:=by
 have e:(s.heap.update p f).get? p=some {cls:=.type "list",data:=.seq its'.toArray n'}:=by rw [Heap.get?_update_self f ho (by rw [hf] <;> rfl),hf]
 refine I.write (x:=p) (e:=p) (by rw [h];trivial) (.inl rfl) (λb u hb q=>(Heap.get?_update_other _ _ (Ne.symm hb)).trans q) ⟨_,e⟩ ?_;exact ⟨hz,its',n',r,e⟩
def ZCE:V->V->V->Hp->(Hp->Prop)->Prop:=λo i v H Q=>∃p xs k j,o=.ref p/\i=.int k/\H p=some (.lst xs)/\ixN xs.length k=some j/\Q (upd H p (.lst (xs.set j v)))
theorem set_list:PSet X ZCE:=by
 intro pins s σ H o i v ov iv u Q I ro ri rv h;obtain ⟨p,xs,k,j,rfl,rfl,hp,hj,q⟩:=h;cases ro;obtain ⟨t,rfl⟩:=ri;obtain ⟨its,n,r,ho,hz⟩:=I.lst hp;obtain ⟨h1,h2,h3,h4⟩:=ZAd hj;have hl:=r.length;have hn:=line63
 have I':Inv X pins σ (upd H p (.lst (xs.set j v))) {s with heap:=s.heap.update p (Obj.mapSeq (·.setIfInBounds j u))}:=
  I.ZDC hp ho (ZEU its n j u) (r.set rv j) (by rw [List.length_set];exact hz) s.toks
 by_cases h0:0<=k
 ·have hk:k.toNat=j:=by rw [seqIndex_of h0 h4] at h1;exact Option.some.inj h1
  exact PySem.W.ki_setAt ho h0 (by omega) (by rw [List.size_toArray,<-hl];exact h4) (by rw [hk];exact ⟨_,I',q⟩)
 ·have hk:(k + (its.toArray.size:Int)).toNat=j:=by rw [seqIndex_neg (by omega) h3] at h1;rw [List.size_toArray,<-hl];exact Option.some.inj h1
  exact PySem.W.ki_setBack ho (by omega) (by rw [List.size_toArray,<-hl];exact h3) (by omega) (by rw [hk];exact ⟨_,I',q⟩)
theorem ZCC (lo hi:Option Int) (n:Nat):(sliceBounds lo hi none n).1=((HT.sIx n 0 lo:Nat):Int)/\(sliceBounds lo hi none n).2.1=((HT.sIx n n hi:Nat):Int)/\(sliceBounds lo hi none n).2.2=1:=by
 refine ⟨?_,?_,rfl⟩
 ·cases lo with
  | none=>simp [sliceBounds,HT.sIx]
  | some i=>
   simp only [sliceBounds,HT.sIx,Option.getD_none,show (1:Int) > 0 by decide,if_true];by_cases h:i < 0
   ·simp only [h,if_true] <;> omega
   ·simp only [h,if_false] <;> omega
 ·cases hi with
  | none=>simp [sliceBounds,HT.sIx]
  | some i=>
   simp only [sliceBounds,HT.sIx,Option.getD_none,show (1:Int) > 0 by decide,if_true];by_cases h:i < 0
   ·simp only [h,if_true] <;> omega
   ·simp only [h,if_false] <;> omega
theorem ZC8 (its:List Value) (lo hi:Option Int):slicePick its.toArray lo hi none=((its.drop (HT.sIx its.length 0 lo)).take (HT.sIx its.length its.length hi - HT.sIx its.length 0 lo)).toArray:=by
 obtain ⟨h1,h2,h3⟩:=ZCC lo hi its.toArray.size;unfold slicePick;rw [h1,h2,h3]
 simp only [sliceRange_one,pick_run,List.size_toArray] <;> rfl
def rSlL (K:PySem.W.Frag):V->Option Int->Option Int->Hp->VK->Prop:=λx lo hi H Q=>∃a xs,x=.ref a/\SqL K H a xs/\∀p,H p=none->Q (.ref p) (upd H p (.lst (Ie xs lo hi)))
theorem ZGZ:SlR X (rSlL X.K):=by
 intro pins s σ H x v vl vu lo hi sl Q I rx hs pl pu h;obtain ⟨a,xs,rfl,hx,q⟩:=h;cases rx;obtain ⟨its,r,ht,hz⟩:=I.list hx;have hlen:=r.length;refine ⟨"list",_,slot_list_getitem.lookup,ht.isList.typeIs,?_⟩
 refine wpAny_getItem_list_slice ht.isList hs pl pu .none (by simp) ?_ (by rw [List.size_toArray] <;> omega)
 rw [ZC8,<-hlen];refine ⟨.ref s.heap.objs.size,_,I.laid (t':=s.toks) (o:=.lst (Ie xs lo hi)) (λb ob q=>Heap.get?_push_of_some _ q) (Nat.le_refl _) ?_,rfl,q _ (I.hok.fresh (Nat.le_refl _))⟩;exact ⟨Nat.le_trans (ZA8 xs lo hi) hz,_,0,(r.drop (HT.sIx xs.length 0 lo)).take (HT.sIx xs.length xs.length hi - HT.sIx xs.length 0 lo),Heap.get?_push_size _ rfl⟩
def Ig:V->Bool
 | .non=>true
 | .bl _=>true
 | .int _=>true
 | .str _=>true
 | _=>false
def eqV:V->V->Bool
 | .non,.non=>true
 | .bl a,.bl b=>a == b
 | .bl a,.int b=>(if a then 1 else 0) == b
 | .int a,.bl b=>a == (if b then 1 else 0)
 | .int a,.int b=>a == b
 | .str a,.str b=>a == b
 | _,_=>false
theorem ZGL {A:Around} {y x:V} {u v:Value} (ry:RelV y u) (rx:RelV x v) (fy:Ig y=true) (fx:Ig x=true):SeqAt.EqAt A s u v (eqV y x):=by
 cases y with
 | non=>
  cases ry;cases x with
  | non=>cases rx;exact SeqAt.EqAt.same _
  | bl b=>cases rx;exact SeqAt.EqAt.none_bool b
  | int b=>obtain ⟨t,rfl⟩:=rx;exact SeqAt.EqAt.none_int b t
  | str b=>obtain ⟨t,rfl⟩:=rx;exact SeqAt.EqAt.none_str b t
  | _=>exact absurd (show false=true from fx) Bool.false_ne_true
 | bl a=>
  cases ry;cases x with
  | non=>cases rx;exact SeqAt.EqAt.bool_none a
  | bl b=>cases rx;exact SeqAt.EqAt.bool_bool a b
  | int b=>obtain ⟨t,rfl⟩:=rx;exact SeqAt.EqAt.bool_int a b t
  | str b=>obtain ⟨t,rfl⟩:=rx;exact SeqAt.EqAt.bool_str a b t
  | _=>exact absurd (show false=true from fx) Bool.false_ne_true
 | int a=>
  obtain ⟨t',rfl⟩:=ry;cases x with
  | non=>cases rx;exact SeqAt.EqAt.int_none a t'
  | bl b=>cases rx;exact SeqAt.EqAt.int_bool a t' b
  | int b=>obtain ⟨t,rfl⟩:=rx;exact SeqAt.EqAt.int_int a t' b t
  | str b=>obtain ⟨t,rfl⟩:=rx;exact SeqAt.EqAt.int_str a t' b t
  | _=>exact absurd (show false=true from fx) Bool.false_ne_true
 | str a=>
  obtain ⟨t',rfl⟩:=ry;cases x with
  | non=>cases rx;exact SeqAt.EqAt.str_none a t'
  | bl b=>cases rx;exact SeqAt.EqAt.str_bool a t' b
  | int b=>obtain ⟨t,rfl⟩:=rx;exact SeqAt.EqAt.str_int a t' b t
  | str b=>obtain ⟨t,rfl⟩:=rx;exact SeqAt.EqAt.str_str a t' b t
  | _=>exact absurd (show false=true from fx) Bool.false_ne_true
 | _=>exact absurd (show false=true from fy) Bool.false_ne_true
theorem ZEA:CallR X (.builtin "len") (λxs H Q=>∃p ys,xs= [.ref p]/\(SqL X.K H p ys∨SqT X.K H p ys)/\Q (.int ys.length) H):=by
 intro pins s σ H xs us Q I r h;obtain ⟨p,ys,rfl,hq,q⟩:=h;obtain ⟨u,rfl,rx⟩:=vals1 r;cases rx;have hn:=line63;rcases hq with hq | hq
 ·obtain ⟨its,r',pl,hz⟩:=I.list hq;have hlen:=r'.length
  exact Calls.call_len_list pl.isList (by simp only [List.size_toArray] <;> omega) ⟨.int ys.length,H,I.tok _,⟨s.toks + 1,by rw [List.size_toArray,hlen]⟩,q⟩
 ·obtain ⟨its,r',pl,hz⟩:=I.tuple hq;have hlen:=r'.length
  exact len_tuple pl (by simp only [List.size_toArray] <;> omega) ⟨.int ys.length,H,I.tok _,⟨s.toks + 1,by rw [List.size_toArray,hlen]⟩,q⟩
theorem ZCq:CallR X (.builtin "len") (λxs H Q=>∃z,xs= [.str z]/\z.length<=sizeLine/\Q (.int z.length) H):=by intro pins s σ H xs us Q I r h;obtain ⟨z,rfl,hz,q⟩:=h;obtain ⟨u,rfl,t,rfl⟩:=vals1 r;have hn:=line63;exact len_str (by omega) ⟨.int z.length,H,I.tok _,⟨_,rfl⟩,q⟩
theorem CallR.or {f:Value} {r r':List V->Hp->VK->Prop} (h:CallR X f r) (h':CallR X f r'):CallR X f (λxs H Q=>r xs H Q∨r' xs H Q):=by
 intro pins s σ H xs us Q I rs q;rcases q with q | q
 ·exact h pins s σ H xs us Q I rs q
 ·exact h' pins s σ H xs us Q I rs q
theorem ZDf:CallR X (.type "list") (λxs H Q=>∃p ys,xs= [.ref p]/\(SqL X.K H p ys∨SqT X.K H p ys)/\∀l,H l=none->Q (.ref l) (upd H l (.lst ys))):=by
 intro pins s σ H xs us Q I r h;obtain ⟨p,ys,rfl,hq,q⟩:=h;obtain ⟨u,rfl,rx⟩:=vals1 r;cases rx;have fin:∀(its:List Value),Vals ys its->ys.length<=sizeLine->∀(h':Heap) (c':Nat),(∀b o',s.heap.get? b=some o'->h'.get? b=some o')->
   h'.get? s.heap.objs.size=some {cls:=.type "list",dict:=none,data:=.seq its.toArray c',slots:= #[]}->EP X pins σ Q (.ref s.heap.objs.size) {s with heap:=h'}:=λits r' hz h' c' kp e=>
  ⟨.ref s.heap.objs.size,_,I.laid (t':=s.toks) kp (Nat.le_refl _) (show ObjOk X.prog X.w _ h' _ (.lst ys) from ⟨hz,its,c',r',e⟩),rfl,q _ (I.hok.fresh (Nat.le_refl _))⟩
 rcases hq with hq | hq
 ·obtain ⟨its,r',pl,hz⟩:=I.list hq;have hlen:=r'.length;obtain ⟨o,ho,hc,n,hd⟩:=pl.isList
  exact call_list_seq p (.inl rfl) ho hc hd (λh' c' kp e=>fin its r' hz h' c' kp e) (by simp only [List.size_toArray] <;> omega)
 ·obtain ⟨its,r',pl,hz⟩:=I.tuple hq;have hlen:=r'.length;obtain ⟨o,ho,hc,n,hd⟩:=pl
  exact call_list_seq p (.inr rfl) ho hc hd (λh' c' kp e=>fin its r' hz h' c' kp e) (by simp only [List.size_toArray] <;> omega)
theorem ZDl:CallR X (.type "tuple") (λxs H Q=>∃p ys,xs= [.ref p]/\((SqL X.K H p ys/\∀l,H l=none->Q (.ref l) (upd H l (.tup ys)))∨(SqT X.K H p ys/\Q (.ref p) H))):=by
 intro pins s σ H xs us Q I r h;obtain ⟨p,ys,rfl,h⟩:=h;obtain ⟨u,rfl,rx⟩:=vals1 r;cases rx;rcases h with ⟨hq,q⟩ | ⟨hq,q⟩
 ·obtain ⟨its,r',pl,hz⟩:=I.list hq;have hlen:=r'.length
  refine call_tuple_list pl.isList (λh' kp=> ?_) (by simp only [List.size_toArray] <;> omega)
  have I1:Inv X pins σ H {s with heap:=h'}:=I.kept (t':=s.toks) kp;have I2:Inv X pins σ (upd H h'.objs.size (.tup ys)) {s with heap:=h'.push {cls:=.type "tuple",data:=.seq its.toArray}}:=
   I1.laid (t':=s.toks) (λb o e=>Heap.get?_push_of_some _ e) (Nat.le_refl _) (show ObjOk X.prog X.w _ _ _ (.tup ys) from ⟨hz,its,r',IsTup.new _ _⟩)
  exact ⟨.ref h'.objs.size,_,I2,rfl,q _ (I1.hok.fresh (Nat.le_refl _))⟩
 ·obtain ⟨its,r',pl,hz⟩:=I.tuple hq;exact call_tuple_same pl ⟨.ref p,H,I,rfl,q⟩
def tyV (K:PySem.W.Frag) (T:String) (x:V) (H:Hp):Prop:=match x with
 | .str _=>T="str"
 | .int _=>T="int"
 | .ref p=>(T="list"/\∃xs,SqL K H p xs)∨(T="tuple"/\∃o,K.lookup p=some o/\o.cls=.type "tuple"/\o.dict=none)∨
   (T="dict"/\((∃kvs,H p=some (.dK kvs))∨∃kvs,H p=some (.dT kvs)))∨(T="set"/\∃S n,H p=some (.set S n))
 | _=>False
theorem ZCU {T:String} {x:V} {v:Value} (I:Inv X pins σ H s) (r:RelV x v) (ty:tyV X.K T x H):
  s.TypeIs v T/\∀a,v=.ref a->∃ob,s.heap.get? a=some ob/\ob.dict=none:=by
 cases x with
 | str z=>
  obtain ⟨t,rfl⟩:=r
  cases (show T="str" from ty)
  exact ⟨typeIs_str s z t,λ_ e=>nomatch e⟩
 | int i=>
  obtain ⟨t,rfl⟩:=r
  cases (show T="int" from ty)
  exact ⟨typeIs_int s i t,λ_ e=>nomatch e⟩
 | ref p=>
  cases r;rcases ty with ⟨rfl,xs,hq⟩ | ⟨rfl,o,hk,hc,hd⟩ | ⟨rfl,hk⟩ | ⟨rfl,S,n,hk⟩
  ·obtain ⟨its,_,pl,_⟩:=I.list hq;refine ⟨pl.isList.typeIs,λa e=> ?_⟩;cases e;obtain ⟨o,n,e,c,hd,_⟩:=pl;exact ⟨o,e,hd⟩
  ·refine ⟨⟨o,I.kIn p o hk,hc⟩,λa e=> ?_⟩;cases e;exact ⟨o,I.kIn _ o hk,hd⟩
  ·have z:∃o,s.heap.get? p=some o/\o.ExactDict:=by
    rcases hk with ⟨kvs,hk⟩ | ⟨kvs,hk⟩
    ·obtain ⟨_,_,_,_,o,_,_,e,ex,_⟩:=I.hok p _ hk;exact ⟨o,e,ex⟩
    ·obtain ⟨_,_,_,_,o,_,_,e,ex,_⟩:=I.hok p _ hk;exact ⟨o,e,ex⟩
   obtain ⟨o,e,ex⟩:=z;refine ⟨⟨o,e,ex.1⟩,λa e2=> ?_⟩;cases e2;exact ⟨o,e,ex.2.1⟩
  ·obtain ⟨o,_,_,_,e,ex,_⟩:=I.hok p _ hk;refine ⟨⟨o,e,ex.1⟩,λa e2=> ?_⟩;cases e2;exact ⟨o,e,ex.2.1⟩
 | _=>exact False.elim ty
def tBM (K:PySem.W.Frag) (T:String) (r:V->List V->Hp->VK->Prop) (to:TE) (t:TA):TE:=λσ H Q=>to σ H λx H1=>tyV K T x H1/\t σ H1 λxs H2=>r x xs H2 Q
variable {o e:Expr} {es:List Expr} {to:TE} {t:TA} {name:Str} {apos cpos:Pos} {T id:String} {r:V->List V->Hp->VK->Prop}
theorem ZFU (pa:PlainAttrs T) (slot:Slot T name id) (hty:typeOf (.builtin id)=pure (.type "method_descriptor")) (hm:MtR X id r) (ho:PE X o to) (ha:PA X (e::es) t)
  (hbase:attributeBase o name X.env (eval o X.env)=eval o X.env:=by rfl)
  (hfew:((backTo cpos (starEach (e::es) X.env)).all (λx=> !x.1) && (backToKw cpos (keywordEach [] X.env)).all (λx=>x.1.isSome)
   && decide ((e::es).length + ([]:List Keyword).length + (if ([]:List Keyword).isEmpty then 0 else 1) < 30))=true:=by rfl)
  (hline:(apos.endLine == cpos.line)=true:=by rfl) (hs:starEach (e::es) X.env=(false,eval e X.env)::starEach es X.env:=by rfl) (hplain:(backTo cpos (starEach es X.env)).any (·.1)=false:=by rfl):
  PE X (.Call (.Attribute o name apos) (e::es) [] cpos) (tBM X.K T r to t):=by
 intro pins s σ H Q I h;refine wpAny_Call_method_late hbase hfew hline rfl (thn (ho pins s σ H _ I h) λv s1 ⟨x,H1,I1,r1,ty,q1⟩=> ?_);obtain ⟨h1,h2⟩:=ZCU I1 r1 ty;refine ⟨T,id,pa,slot,hty,h1,h2,?_⟩;have hA:=ha cpos pins s1 σ H1 _ I1 q1;rw [hs] at hA ⊢
 refine Calls.callWith_builtin (by show (false || (backTo cpos (starEach es X.env)).any (·.1))=false;rw [hplain] <;> rfl) (Calls.evalArgs_plain ?_)
 exact thn hA λus s2 ⟨vs,H2,I2,r2,q2⟩=>hm pins s2 σ H2 x vs v us Q I2 r1 r2 q2
end
def MtM (X:Cx) (id:String) (r:V->List V->Hp->VK->Prop):Prop:=
 ∀(pins:List (Addr×Obj)) (s:Shared) (σ:St) (H:Hp) (x:V) (xs:List V) (v:Value) (us:List Value) (Q:VK),Inv X pins σ H s->RelV x v->Vals xs us->r x xs H Q->
  wpAny (model X.prog X.w) X.A (call (.builtin id) (v::us)) (EP X pins σ Q) X.xe s
theorem Vals.one:∀{x:V} {us:List Value},Vals [x] us->∃u,us= [u]/\RelV x u
 | _,_,.cons r .nil=>⟨_,rfl,r⟩
theorem Vals.two:∀{x y:V} {us:List Value},Vals [x,y] us->∃u v,us= [u,v]/\RelV x u/\RelV y v
 | _,_,_,.cons r (.cons q .nil)=>⟨_,_,rfl,r,q⟩
theorem Vals.zero:∀{us:List Value},Vals [] us->us= []
 | _,.nil=>rfl
section
variable {X:Cx} {pins:List (Addr×Obj)} {σ:St} {H:Hp} {s:Shared} {l b:Addr} {xs ys zs:List V}
theorem Inv.lset {its':List Value} {n:Nat} {f:Array Value->Array Value} {t':Nat} (I:Inv X pins σ H s) (hH:H l=some (.lst xs))
  (e:s.heap.get? l=some {cls:=.type "list",data:=.seq its.toArray n}) (hf:f its.toArray=its'.toArray) (hv:Vals ys its') (hz:ys.length<=sizeLine):
  Inv X pins σ (upd H l (.lst ys)) {s with heap:=s.heap.update l (Obj.mapSeq f),toks:=t'}:=by
 have q:=PySem.IsL.update e f;rw [hf] at q;refine I.write (x:=l) (e:=l) (by rw [hH];exact trivial) (.inl rfl) (λb' u hb hu=>(Heap.get?_update_other s.heap (Obj.mapSeq f) (Ne.symm hb)).trans hu) ⟨_,q⟩ ?_;exact ⟨hz,its',_,hv,q⟩
theorem Inv.lnew {t':Nat} (I:Inv X pins σ H s) (hv:Vals ys its) (hz:ys.length<=sizeLine):
  Inv X pins σ (upd H s.heap.objs.size (.lst ys)) {s with heap:=s.heap.push {cls:=.type "list",data:=.seq its.toArray},toks:=t'}:=
 I.laid (λ_ _ q=>Heap.get?_push_of_some _ q) (Nat.le_refl _) ⟨hz,its,0,hv,Heap.get?_push_size _ rfl⟩
theorem Inv.fresh (I:Inv X pins σ H s):H s.heap.objs.size=none:=I.hok.fresh (Nat.le_refl _)
theorem Inv.lstM (I:Inv X pins σ H s) (hH:H l=some (.lst xs)):xs.length<=sizeLine/\∃(its:List Value) (n:Nat),Vals xs its/\xs.length=its.length/\s.heap.get? l=some {cls:=.type "list",data:=.seq its.toArray n}:=by obtain ⟨z,its,n,r,e⟩:=I.hok l _ hH;exact ⟨z,its,n,r,r.length,e⟩
end
section
variable {X:Cx}
def ZGF:V->List V->Hp->VK->Prop:=λx vs H Q=>∃l xs y,x=.ref l/\vs= [y]/\H l=some (.lst xs)/\xs.length < sizeLine/\Q .non (upd H l (.lst (xs++ [y])))
theorem ZFb:MtM X "list.append" ZGF:=by
 intro pins s σ H x vs v us Q I rx rv h;obtain ⟨l,xs,y,rfl,rfl,hH,hz,q⟩:=h;cases rx;obtain ⟨u,rfl,ru⟩:=rv.one;obtain ⟨z,its,n,r,hl,e⟩:=I.lstM hH;refine call_meets F.slot_list_append ⟨_,e,rfl⟩ F.entry_list_append (F.args_list_append_2 _ _) (PySem.list_append l its.toArray n u (by rw [List.size_toArray];omega)) ⟨e,?_⟩;refine ⟨.non,_,I.lset (its':=its++ [u]) hH e (by simp) (r.append (.cons ru .nil)) ?_,rfl,q⟩
 rw [List.length_append,List.length_singleton];omega
end
section
variable {prog:Program} {w:World} {A:Around} {E:Value->Shared->Prop} {s:Shared}
end
section
variable {X:Cx}
end
end L2
namespace Att
open PySem PySem.W PySem.Calls PyProof.Rows
theorem ZCN {P:Params} {h:Heap}:∀(ns:List Int) (vs:List Value),WellAll P h vs (ns.map WData.int)->IntsAre vs ns:=by
 intro ns
 induction ns with
 | nil=>
  intro vs w;rw [List.map_nil] at w;cases w;exact .nil
 | cons n ns ih=>
  intro vs w;rw [List.map_cons] at w;cases w with
  | cons a b=>
   cases a;exact .cons _ _ (ih _ b)
theorem ZF5 {l:OpenLaw} {n:Nat} (hn:l.most=some n) {P:Params} {h:Heap} {args:List WData} {vals:List Value}
  (hpre:l.row.toRowW.claim.pre args=true) (hwl:WellAll P h vals args):
  ∃a vs ns,vals= [Value.ref a]/\args= [WData.list (ns.map WData.int)]/\h.get? a=some {cls:=.type "list",data:=.seq vs.toArray}/\IntsAre vs ns/\ns.length<=n:=by
 have hsh:WShape.hasAll [] args [.list .int]=true:=(pre_splitW hpre).1;have hc:l.pre.holds [] {args:=args}=true:=(pre_splitW hpre).2;obtain ⟨d,r,rfl,h1,h2⟩:=hasAllW_cons hsh;obtain rfl:=hasAllW_nil h2;obtain ⟨xs,rfl,h3⟩:=hasW_list h1;obtain ⟨ns,rfl⟩:=items_int h3;have hlen:ns.length<=n:=by
  unfold OpenLaw.pre at hc;have h4:(WTm.not (.lt (.lit (.int (n:Int))) (.len (.arg 0)))).holds [] {args:= [.list (ns.map .int)]}=true:=by have h4:=(holds_andW hc).1;rw [hn] at h4;exact h4
  have h5:=condW_of h4 (w_not (w_lt w_lit (w_len_list (w_arg rfl))));rw [List.length_map] at h5;refine Nat.le_of_not_lt λq=> ?_
  have q':(n:Int) < ((ns.length:Nat):Int):=by omega
  first
   | (rw [decide_eq_true q'] at h5;exact absurd h5 (by decide))
   | (simp at h5;omega)
 cases hwl with
 | cons w1 w2=>
  cases w2;cases w1 with
  | list ho hall=>exact ⟨_,_,ns,rfl,rfl,ho,ZCN ns _ hall,hlen⟩
theorem ZC2 (l:OpenLaw) (args:List WData):l.row.toRowW.claim.post args (.bool true) args=true:=
 postW_of (r:=l.row.toRowW) (X:=(true == true))
  (show WShape.has [] (.bool true) .bool=true by first | rfl | decide | simp [WShape.has,WShape.arms,WShape.armsAll])
  (show (WTm.eq .res (.lit (.bool true))).value [] {args:=args,res:=some (.bool true),after:=args}=some (.bool (true == true)) from w_eq_bool (w_res rfl) w_lit) rfl
theorem ZEL {l:OpenLaw} {n:Nat} {q:Program} {loose:List Str} {XP:(Str->Option Value)->Heap->Prop} {YP:World->Heap->Prop} {d:DefRec}
  (hn:l.most=some n) (hdf:d.params.defaults= [])
  (call:∀(w:World) (s₀ s₁:Shared) (mg mb:Str->Option Value) (fa:Addr) (o:Obj) (pm cd doc:Value) (a:Addr) (vs:List Value) (ns:List Int),
   Ground q loose [] XP w s₀ mg mb s₁.heap->YP w s₁.heap->
   s₁.heap.get? fa=some o->o.data=.func (docDef d.name d.params d.body d.scope pm cd doc)->s₁.heap.CodeRec cd d.name->mg d.name=some (.ref fa)->
   s₁.heap.get? a=some {cls:=.type "list",data:=.seq vs.toArray}->IntsAre vs ns->ns.length<=n->s₁.gens= #[]->
   codeAny (model l.prog w) callerA (.call (.ref fa) ⟨[.ref a],[]⟩) (λr s'=>r=.ok (.ret (.bool true))/\OldK s₁.heap s'.heap/\s'.os=s₁.os/\AllBare s'.gens) s₁):
  WalkO q loose XP YP l.row.toRowW d [] (λf vs=>PySem.call f vs):=by
 intro w s₀ s₁ mg mb G Y fa o pm cd doc dV kV ho hd hcd hD hmg hg args vals as hpre hlay hrd hwl hlo;obtain rfl:dV=.none:=Dflts.none hD hdf;obtain rfl:kV=.none:=Dflts.noKw hD;obtain ⟨a,vs,ns,rfl,rfl,hobj,hints,hlen⟩:=ZF5 hn hpre hwl;refine enter_call (codeAny_mono (call w s₀ s₁ mg mb fa o pm cd doc a vs ns G Y ho (fd_plain hd) hcd hmg hobj hints hlen hg) λr s' hq=> ?_);obtain ⟨rfl,h2,h3,h4⟩:=hq
 exact ⟨.inl ⟨.bool true,.bool true,[],rfl,λ_=>rfl,.bool true,ZC2 l _,λ_=>⟨List.Pairwise.nil,λ_ hm=>(nomatch hm)⟩⟩,h2,h3,h4⟩
section
variable {prog:Program} {w:World} {A:Around} {E:Value->Shared->Prop} {s:Shared} {K:Frag}
end
end Att
namespace L2
open PySem PySem.Spec PyProof.Rows
variable {k:Nat} {fd:FuncData} {x qual:Str} {st:Stmt} {f:Addr} {H H':Hp} {y:V} {u:Value} {kvs:List (List Key×V)}
theorem S9:∀{vs:List Value} {ns:List Int},IntsAre vs ns->Vals (ns.map V.int) vs
 | _,_,.nil=>.nil
 | _,_,.cons n t h=>.cons ⟨t,rfl⟩ (S9 h)
def Only (H:Hp):Prop:=∀b,H b=none∨∃o xs,H b=some (.frz o (.lst xs))
theorem ZBr {P:Program} {w:World} {K:PySem.W.Frag} {mg mb:Str->Option Value} {CX:CXT} {fa a:Addr} {sp:Sp} {s₁:Shared} {vs:List Value} {ns:List Int}
  (KX:K.In s₁.heap) (hns:s₁.heap.Ns mainGlobals mg) (hb:s₁.heap.Ns builtinsNs mb) (hbb:∀x:Str,x≠"__name__"->mb x=bootBuiltins x) (hlim:s₁.heap.NoLimit) (hg:s₁.gens= #[])
  (ha:s₁.heap.get? a=some {cls:=.type "list",data:=.seq vs.toArray}) (hi:IntsAre vs ns) (hl:ns.length<=sizeLine) (hr:Room k callerA)
  (F:∀base:Heap,K.In base->base.Ns mainGlobals mg->FnOk P w K mg base CX k fa fd [x] sp) (hbind:∀(s:Shared) (u:Value),BindsTo s fd ⟨[u],[]⟩ [(x,u)])
  (hsp:∀H:Hp,Only H->SqL K H a (ns.map V.int)->sp [.ref a] H (λv _=>v=.bl true) λ_ _ _=>False)
  (hCX:∀H e s',CX [] H s₁ (λ_ _ _=>False) e s'->False):
  codeAny (model P w) callerA (.call (.ref fa) ⟨[.ref a],[]⟩) (λr s'=>r=.ok (.ret (.bool true))/\OldK s₁.heap s'.heap/\s'.os=s₁.os/\AllBare s'.gens) s₁:=by
 have rv:=S9 hi;have lenV:=hi.length;have core:∀H:Hp,Only H->SqL K H a (ns.map V.int)->HOk P w H s₁.heap->(∀b,H b≠none->b=a)->(H a≠none->K.lookup a=none)->
   codeAny (model P w) callerA (.call (.ref fa) ⟨[.ref a],[]⟩) (λr s'=>r=.ok (.ret (.bool true))/\OldK s₁.heap s'.heap/\s'.os=s₁.os/\AllBare s'.gens) s₁:=by
  intro H hO hS hok hA hK;have base_of:∀{b:Addr} {o:Obj},s₁.heap.get? b=some o->H b=none->(Ho s₁.heap H).get? b=some o:=λe n=>ZEZ e n
  have noA:∀{b:Addr} {o:Obj} {es:Array DictEntry} {ep:Nat},s₁.heap.get? b=some o->o.data=.dict es ep->H b=none:=λ{b o es ep} e d=>by
   cases q:H b with
   | none=>rfl
   | some u=>
    have e':b=a:=hA b (by rw [q];simp);subst e';rw [ha] at e;cases e;have d':Data.seq vs.toArray _=Data.dict es ep:=d;cases d'
  have nsK:∀{b:Addr} {m:Str->Option Value},s₁.heap.Ns b m->(Ho s₁.heap H).Ns b m:=λ{b m} ⟨o,es,ep,e,d,r⟩=>⟨o,es,ep,base_of e (noA e d),d,r⟩
  have hKb:K.In (Ho s₁.heap H):=λb o e=>base_of (KX b o e) (by
   cases q:H b with
   | none=>rfl
   | some u=>
    have e':b=a:=hA b (by rw [q];simp);subst e';rw [hK (by rw [q];simp)] at e;cases e)
  have hM:Mod K mg (Ho s₁.heap H):=⟨hKb,nsK hns,⟨mb,nsK hb,hbb⟩,let ⟨mc,h1,h2⟩:=hlim;⟨mc,nsK h1,h2⟩⟩
  have e0:Env0 P w K mg (Ho s₁.heap H) callerA [] s₁ H:=⟨rfl,hM,λb o e=>ZDe e,Nat.le_of_eq (ZBz _ _),trivial,λb hb=>absurd (show b∈([]:List Addr) from hb) (by simp),hok,.of_eq hg⟩
  refine codeAny_mono ((F _ hKb (nsK hns)).run callerA [] s₁ H ⟨[.ref a],[]⟩ [.ref a] [.ref a] _ _ hr e0 (hbind s₁ (.ref a)) (.cons rfl .nil) (hsp H hO hS)) λr s' h=> ?_
  cases r with
  | error e=>exact (hCX H e s' h).elim
  | ok fl=>
   cases fl with
   | next=>exact False.elim h
   | brk=>exact False.elim h
   | cont=>exact False.elim h
   | ret u=>
    obtain ⟨v,H',os,bare,un,hok',r',q⟩:=h;have q':v=.bl true:=q;subst q';obtain rfl:u=Value.bool true:=r';refine ⟨rfl,OldK.of_keep λb o e=> ?_,os,bare⟩;cases q:H b with
    | none=>exact un.keep b o e q (by intro z;exact absurd (show b∈([]:List Addr) from z) (by simp)) (by simp)
    | some u=>
     rcases hO b with z | ⟨ob,xs,z⟩
     ·rw [q] at z;cases z
     ·have z2:=un.frzs b ob _ z;obtain ⟨e1,_⟩:=hok b _ z;obtain ⟨e2,_⟩:=hok' b _ z2;rw [e] at e1;cases e1;exact e2
 cases hk:K.lookup a with
 | some o=>
  have e:=KX a o hk;rw [ha] at e;cases e;refine core (λ_=>none) (λ_=>.inl rfl) (.inr ⟨_,vs.toArray,_,hk,rfl,rfl,rfl,by rw [List.size_toArray,lenV];exact hl,by simpa using rv⟩) (λb u z=>by have z':(none:Option HO)=some u:=z;cases z') (λb z=>absurd rfl z) λz=>absurd rfl z
 | none=>
  refine core (λb=>if b=a then some (.frz {cls:=.type "list",data:=.seq vs.toArray} (.lst (ns.map V.int))) else none) (λb=> ?_) (.inl (.inr ⟨{cls:=.type "list",data:=.seq vs.toArray},if_pos rfl⟩)) (λb u z=> ?_) (λb z=> ?_) λ_=>hk
  ·by_cases hb:b=a
   ·exact .inr ⟨_,_,if_pos hb⟩
   ·exact .inl (if_neg hb)
  ·by_cases hb:b=a
   ·have z':=(if_pos hb).symm.trans z;cases z';subst hb;exact ⟨ha,by rw [List.length_map];exact hl,vs,_,rv,ha⟩
   ·have z':=(if_neg hb).symm.trans z;cases z'
  ·by_cases hb:b=a
   ·exact hb
   ·exact absurd (if_neg hb) z
theorem ZF4 {l:PySem.W.OpenLaw} {n:Nat} {q:Program} {loose:List Str} {XP:(Str->Option Value)->Heap->Prop} {YP:World->Heap->Prop} {d:DefRec} {K:Params->PySem.W.Frag} {CX:World->CXT} {sp:World->Sp} 
  (hn:l.most=some n) (hn2:n<=sizeLine) (hdf:d.params.defaults= []) (hr:Room k callerA)
  (hY:∀(w:World) (h:Heap),YP w h->(K w.params).In h)
  (F:∀(w:World) (mg:Str->Option Value) (fa:Addr) (h:Heap),(K w.params).In h->h.Ns mainGlobals mg->mg d.name=some (.ref fa)->
   ∃fd:FuncData,(∀(s:Shared) (u:Value),BindsTo s fd ⟨[u],[]⟩ [(x,u)])/\
    ∀base:Heap,(K w.params).In base->base.Ns mainGlobals mg->FnOk l.prog w (K w.params) mg base (CX w) k fa fd [x] (sp w))
  (hsp:∀(w:World) (H:Hp) (a:Addr) (ns:List Int),ns.length<=n->Only H->SqL (K w.params) H a (ns.map V.int)->sp w [.ref a] H (λv _=>v=.bl true) λ_ _ _=>False)
  (hCX:∀(w:World) (H:Hp) (s:Shared) (e:Value) (s':Shared),CX w [] H s (λ_ _ _=>False) e s'->False):
  PySem.W.WalkO q loose XP YP l.row.toRowW d [] (λf vs=>PySem.call f vs):=by
 refine Att.ZEL hn hdf λw s₀ s₁ mg mb fa o pm cd doc a vs ns G Y ho hd hcd hmg hobj hints hlen hg=> ?_
 have KX:=hY w _ Y;obtain ⟨fd,hb,hF⟩:=F w mg fa _ KX G.T.g hmg;exact ZBr KX G.T.g G.T.b G.T.builtins G.T.nolimit hg hobj hints (Nat.le_trans hlen hn2) hr hF hb (λH hO hS=>hsp w H a ns hlen hO hS) λH e s'=>hCX w H s₁ e s'
def Ib (s:Stmt):Arguments:=match s with
 | .FunctionDef _ a _ _ _ _ _ _ _ _=>a
 | _=>{posonlyargs:= [],args:= [],vararg:=none,kwonlyargs:= [],kw_defaults:= [],kwarg:=none,defaults:= []}
def Gy (s:Stmt):List Stmt:=match s with
 | .FunctionDef _ _ b _ _ _ _ _ _ _=>b
 | _=> []
def Bc (s:Stmt):Scope:=match s with
 | .FunctionDef _ _ _ _ _ _ sc _ _ _=>sc
 | _=>{kind:=.function,names:= [],isGenerator:=false,isCoroutine:=false}
abbrev CX0:CXT:=λ_ _ _ _ _ _=>False
abbrev E0:XK:=λ_ _ _=>False
theorem pass0 {X:Cx}:Passes CX0 X E0:=λ_ _ _ _ _ _ _ h=>h.elim
structure Fun (K:PySem.W.Frag) (x qual:Str) (st:Stmt) (f:Addr) (fd:FuncData):Prop where
 ex:∃(oc:Value) (od:Option Addr) (kV doc pm:Value) (an:Option Addr) (cdv ct:Value) (osl:Array (Option Value)),
  fd=PySem.W.fnOf x qual (Ib st) (Gy st) (Bc st) .none kV doc pm an cdv ct/\K.lookup f=some ⟨oc,od,.func fd,osl⟩/\PySem.W.codeIn K cdv qual=true
 kp:PySem.W.keepIn K (.ref f)=true
section
variable {P:Program} {w:World} {K:PySem.W.Frag} {mg:Str->Option Value} {base:Heap}
theorem Fun.ok {N ps:List Str} {sp:Sp} (F:Fun K x qual st f fd) (S:FnScope N ps (Bc st)) (len:∀vs H Q E,sp vs H Q E->vs.length=ps.length)
  (hbody:∀(cdv:Value) (A:Around) (outer:List Env) (s:Shared) (H:Hp) (vs:List V) (Q:VK) (E:XK),Room k (A.deeper (envOfC qual (Bc st) s.heap.objs.size f cdv))->sp vs H Q E->
   ∃t,PSs (Jb CX0 P w K mg base N qual (Bc st) f cdv A outer s H E).nox (Gy st) t/\t {nx:=λ_ H'=>Q .non H',rt:=Q} (start N vs) H):FnOk P w K mg base CX0 (k + 1) f fd ps sp:=by
 obtain ⟨oc,od,kV,doc,pm,an,cdv,ct,osl,rfl,lk,hcd⟩:=F.ex;refine ZFg lk hcd S len λA outer s H vs Q E hr hsp=> ?_
 obtain ⟨t,h,q⟩:=hbody cdv A outer s H vs Q E hr hsp;exact ⟨t,h.nox,q⟩
theorem Fun.binds {ps:List Str} (F:Fun K x qual st f fd)
  (h:∀(kV doc pm:Value) (an:Option Addr) (cdv ct:Value) (us:List Value),us.length=ps.length->bindArgs (PySem.W.fnOf x qual (Ib st) (Gy st) (Bc st) .none kV doc pm an cdv ct) ⟨us,[]⟩=pure (ps.zip us)):Binds K fd ps []:=by
 obtain ⟨oc,od,kV,doc,pm,an,cdv,ct,osl,rfl,lk,hcd⟩:=F.ex;exact .all (h kV doc pm an cdv ct)
theorem X3 {oc:Value} {od an:Option Addr} {osl:Array (Option Value)} {kV doc pm cdv ct:Value} (l:K.lookup f=some ⟨oc,od,.func (PySem.W.fnOf x qual (Ib st) (Gy st) (Bc st) .none kV doc pm an cdv ct),osl⟩)
  (c:PySem.W.codeIn K cdv qual=true) (k:PySem.W.keepIn K (.ref f)=true):Fun K x qual st f (PySem.W.fnOf x qual (Ib st) (Gy st) (Bc st) .none kV doc pm an cdv ct):=⟨⟨oc,od,kV,doc,pm,an,cdv,ct,osl,rfl,l,c⟩,k⟩
end
section
variable {X:Cx}
end
def Same (H H':Hp):Prop:=∀b o,H b=some o->H' b=some o
theorem Same.refl (H:Hp):Same H H:=λ_ _ h=>h
theorem Same.trans {H1 H2:Hp} (a:Same H H1) (b:Same H1 H2):Same H H2:=λc o h=>b c o (a c o h)
theorem Same.free (e:Same H H') {l:Addr} (h:H' l=Option.none):H l=Option.none:=by
 cases q:H l with
 | none=>rfl
 | some o=>
  rw [e l o q] at h;cases h
theorem Same.seq {K:PySem.W.Frag} {a:Addr} {xs:List V} (e:Same H H') (h:SqL K H a xs):SqL K H' a xs:=by
 rcases h with (h | ⟨o,h⟩) | h
 ·exact .inl (.inl (e _ _ h))
 ·exact .inl (.inr ⟨o,e _ _ h⟩)
 ·exact .inr h
section
variable {κ:Type} [DecidableEq κ]
def Fg (kvs:List (κ×V)) (k:κ):Option V:=(kvs.find? λkv=>decide (kv.1=k)).map (·.2)
def putK (kvs:List (κ×V)) (k:κ) (v:V):List (κ×V):=
 if (kvs.any λkv=>decide (kv.1=k))=true then kvs.map (λkv=>if kv.1=k then (kv.1,v) else kv) else kvs++ [(k,v)]
def Zv (kvs:List (κ×V)) (k:κ):List (κ×V):=kvs.filter λkv=>decide (kv.1≠k)
theorem Vg {p:κ×V} {r:List (κ×V)} {k:κ} (e:p.1=k):Fg (p::r) k=some p.2:=by simp [Fg,List.find?_cons,e]
theorem U9 {p:κ×V} {r:List (κ×V)} {k:κ} (e:¬p.1=k):Fg (p::r) k=Fg r k:=by simp [Fg,List.find?_cons,e]
theorem ZAj (k:κ):∀kvs:List (κ×V),(kvs.any λkv=>decide (kv.1=k))=(Fg kvs k).isSome
 | []=>rfl
 | p::r=>by
  rw [List.any_cons];by_cases e:p.1=k
  ·simp only [Vg e,decide_eq_true e,Bool.true_or,Option.isSome_some]
  ·rw [U9 e,decide_eq_false e,Bool.false_or];exact ZAj k r
theorem RelO.ZB9 {o:Option V} {u:Option Value} (r:RelO o u):o.isSome=u.isSome:=by
 cases o with
 | none=>cases u with
  | none=>rfl
  | some _=>exact (show False from r).elim
 | some _=>cases u with
  | none=>exact (show False from r).elim
  | some _=>rfl
theorem RelO.getD {o:Option V} {u:Option Value} {d:V} {d':Value} (r:RelO o u) (rd:RelV d d'):RelV (o.getD d) (u.getD d'):=by
 cases o with
 | none=>cases u with
  | none=>exact rd
  | some _=>exact (show False from r).elim
 | some _=>cases u with
  | none=>exact (show False from r).elim
  | some _=>exact r
theorem KV.val {kvs:List (κ×V)} {vs:List (κ×Value)} (r:KV kvs vs) (k:κ):RelO (Fg kvs k) (valueAt vs k):=by
 unfold KV at r
 induction r with
 | nil=>exact True.intro
 | @cons p q ps qs h t ih=>
  obtain ⟨h1,h2⟩:=h;by_cases e:p.1=k
  ·have e':q.1=k:=h1.symm.trans e;have b:valueAt (q::qs) k=some q.2:=by simp [valueAt,List.find?_cons,e']
   rw [Vg e,b];exact h2
  ·have e':¬q.1=k:=λz=>e (h1.trans z)
   have b:valueAt (q::qs) k=valueAt qs k:=by simp [valueAt,List.find?_cons,e']
   rw [U9 e,b];exact ih
theorem KV.any {kvs:List (κ×V)} {vs:List (κ×Value)} (r:KV kvs vs) (k:κ):(kvs.any λkv=>decide (kv.1=k))=vs.any λkv=>decide (kv.1=k):=by
 unfold KV at r
 induction r with
 | nil=>rfl
 | cons h t ih=>rw [List.any_cons,List.any_cons,ih,h.1]
theorem KV.repl {kvs:List (κ×V)} {vs:List (κ×Value)} (r:KV kvs vs) (k:κ) (ry:RelV y u):
  KV (kvs.map λkv=>if kv.1=k then (kv.1,y) else kv) (vs.map λkv=>if kv.1=k then (kv.1,u) else kv):=by
 unfold KV at r ⊢
 induction r with
 | nil=>exact .nil
 | @cons p q ps qs h t ih=>
  rw [List.map_cons,List.map_cons];refine .cons ?_ ih;obtain ⟨h1,h2⟩:=h;by_cases e:p.1=k
  ·rw [if_pos e,if_pos (h1.symm.trans e)];exact ⟨h1,ry⟩
  ·rw [if_neg e,if_neg (λz=>e (h1.trans z))];exact ⟨h1,h2⟩
theorem KV.put {kvs:List (κ×V)} {vs:List (κ×Value)} (r:KV kvs vs) (k:κ) (ry:RelV y u):KV (putK kvs k y) (stored vs k u):=by
 unfold putK stored;rw [r.any k];by_cases e:(vs.any λkv=>decide (kv.1=k))=true
 ·rw [if_pos e,if_pos e];exact r.repl k ry
 ·rw [if_neg e,if_neg e];exact Paired.snoc r ⟨rfl,ry⟩
theorem KV.drop {kvs:List (κ×V)} {vs:List (κ×Value)} (r:KV kvs vs) (k:κ):KV (Zv kvs k) (without vs k):=by
 unfold KV at r ⊢;unfold Zv without
 induction r with
 | nil=>exact .nil
 | @cons p q ps qs h t ih=>
  obtain ⟨h1,h2⟩:=h;rw [List.filter_cons,List.filter_cons];by_cases e:p.1=k
  ·have a:¬decide (p.1≠k)=true:=by simp [e]
   have b:¬decide (q.1≠k)=true:=by simp [h1.symm.trans e]
   rw [if_neg a,if_neg b];exact ih
  ·have e':¬q.1=k:=λz=>e (h1.trans z)
   have a:decide (p.1≠k)=true:=by simp [e]
   have b:decide (q.1≠k)=true:=by simp [e']
   rw [if_pos a,if_pos b];exact .cons ⟨h1,h2⟩ ih
theorem KV.keys {kvs:List (κ×V)} {vs:List (κ×Value)} (r:KV kvs vs):kvs.map (·.1)=vs.map (·.1):=by
 unfold KV at r
 induction r with
 | nil=>rfl
 | cons h t ih=>rw [List.map_cons,List.map_cons,ih,h.1]
theorem KV.length {kvs:List (κ×V)} {vs:List (κ×Value)} (r:KV kvs vs):kvs.length=vs.length:=Paired.length r
end
abbrev KT (H:Hp):List (List Key×V)->List (List Key×Addr×Value)->Prop:=Paired λp q=>p.1=q.1/\H q.2.1=some (.tup (p.1.map kV))/\RelV p.2 q.2.2
theorem KT.val {xs:List (List Key×Addr×Value)} (r:KT H kvs xs) (k:List Key):RelO (Fg kvs k) ((atKey xs k).map (·.2)):=by
 induction r with
 | nil=>exact True.intro
 | @cons p q ps qs h t ih=>
  obtain ⟨h1,_,h2⟩:=h;by_cases e:p.1=k
  ·have e':q.1=k:=h1.symm.trans e;have b:atKey (q::qs) k=some q.2:=by simp [atKey,List.find?_cons,e']
   rw [Vg e,b];exact h2
  ·have e':¬q.1=k:=λz=>e (h1.trans z)
   have b:atKey (q::qs) k=atKey qs k:=by simp [atKey,List.find?_cons,e']
   rw [U9 e,b];exact ih
theorem KT.repl {xs:List (List Key×Addr×Value)} (r:KT H kvs xs) (k:List Key) (ry:RelV y u):
  KT H (kvs.map λkv=>if kv.1=k then (kv.1,y) else kv) (xs.map (putAt k u)):=by
 induction r with
 | nil=>exact .nil
 | @cons p q ps qs h t ih=>
  rw [List.map_cons,List.map_cons];refine .cons ?_ ih;obtain ⟨h1,h2,h3⟩:=h;unfold putAt;by_cases e:p.1=k
  ·rw [if_pos e,if_pos (h1.symm.trans e)];exact ⟨h1,h2,ry⟩
  ·rw [if_neg e,if_neg (λz=>e (h1.trans z))];exact ⟨h1,h2,h3⟩
theorem KT.put {xs:List (List Key×Addr×Value)} (r:KT H kvs xs) (k:List Key) {b:Addr} (hb:H b=some (.tup (k.map kV))) (ry:RelV y u):
  KT H (putK kvs k y) (storedH xs k b u):=by
 have e:(kvs.any λkv=>decide (kv.1=k))=(atKey xs k).isSome:=by rw [ZAj,(r.val k).ZB9,Option.isSome_map]
 unfold putK storedH;rw [e];by_cases q:(atKey xs k).isSome=true
 ·rw [if_pos q,if_pos q];exact r.repl k ry
 ·rw [if_neg q,if_neg q];exact Paired.snoc r ⟨rfl,hb,ry⟩
theorem KT.keeps {xs:List (List Key×Addr×Value)} (r:KT H kvs xs) (ht:∀b ys,H b=some (.tup ys)->H' b=some (.tup ys)):KT H' kvs xs:=
 Paired.X5 r λ_ _ z=>⟨z.1,ht _ _ z.2.1,z.2.2⟩
section
variable {P:Program} {w:World} {H:Hp} {h:Heap} {a:Addr}
end
section
variable {X:Cx} {pins:List (Addr×Obj)} {σ:St} {H:Hp} {s:Shared} {a:Addr} {y v:V} {u r:Value} {o:Option V} {A:Around} {E:Value->Shared->Prop}
end
section
variable {X:Cx} {pins:List (Addr×Obj)} {σ:St} {H:Hp} {s:Shared} {a:Addr} {kvs:List (Key×V)} {k:Key} {u:Value} {A:Around} {E:Value->Shared->Prop}
end
section
variable {X:Cx} {o i e value:Expr} {pos pos' tpos:Pos} {td ty tv:TE}
end
section
variable {X:Cx} {pos:Pos}
end
structure M1 (X:Cx) (o:Expr) (m:Str) (apos:Pos) (e:Expr) (cpos:Pos):Prop where
 base:attributeBase o m X.env (eval o X.env)=eval o X.env
 few:((backTo cpos (starEach [e] X.env)).all (λx=> !x.1) && (backToKw cpos (keywordEach [] X.env)).all (λx=>x.1.isSome)
  && decide (([e]:List Expr).length + ([]:List Keyword).length + (if ([]:List Keyword).isEmpty then 0 else 1) < 30))=true
 line:(apos.endLine == cpos.line)=true
 trees:backTo cpos (starEach [e] X.env)= [(false,eval e X.env)]
structure M2 (X:Cx) (o:Expr) (m:Str) (apos:Pos) (e f:Expr) (cpos:Pos):Prop where
 base:attributeBase o m X.env (eval o X.env)=eval o X.env
 few:((backTo cpos (starEach [e,f] X.env)).all (λx=> !x.1) && (backToKw cpos (keywordEach [] X.env)).all (λx=>x.1.isSome)
  && decide (([e,f]:List Expr).length + ([]:List Keyword).length + (if ([]:List Keyword).isEmpty then 0 else 1) < 30))=true
 line:(apos.endLine == cpos.line)=true
 trees:backTo cpos (starEach [e,f] X.env)= [(false,eval e X.env),(false,eval f X.env)]
section
variable {X:Cx} {pins:List (Addr×Obj)} {σ:St} {H:Hp} {s:Shared} {a:Addr} {y d:V} {u r:Value} {o:Option V} {A:Around} {E:Value->Shared->Prop}
end
section
variable {X:Cx} {o e f:Expr} {apos cpos:Pos} {td ty tx:TE}
end
section
variable {X:Cx} {pins:List (Addr×Obj)} {σ:St} {H:Hp} {s:Shared} {a:Addr} {kvs:List (Key×V)} {A:Around} {E:Value->Shared->Prop}
end
section
variable {X:Cx} {pins:List (Addr×Obj)} {σ:St} {H:Hp} {s:Shared} {a:Addr} {y:V} {u:Value} {A:Around} {E:Value->Shared->Prop}
end
section
variable {X:Cx}
end
end L2
namespace L2
section
variable {κ:Type} [DecidableEq κ]
end
end L2
namespace DL
open PySem PySem.Spec L2
open PyProof.Rows hiding St
variable {α β:Type} {K:PySem.W.Frag} {H:Hp} {p:Addr} {v:V} {vs:List V} {σ:St} {E:XK} {Q:VK} {W:Ends} {e tg:Expr} {ho:HO} {q:Option HO} {i j k nt:Nat} {x:Str} {op:CmpOp} {A:Around} {s:Shared} {P:Program} {w:World} {scope:Scope} {env:Env} {X:Cx}
inductive D where
 | non | bl (b:Bool) | int (i:Int) | str (x:Str) | ty (n:String)
 | tup (xs:List D)
 | fl (xs:List D)
 | ref (i:Nat)
variable {d:D} {ds xs:List D} {kvs:List (Key×D)}
inductive DO where
 | lst (xs:List D)
 | dct (kvs:List (Key×D))
 | ins (c:Str) (fs:List (Str×D))
 | gone
variable {o:DO}
abbrev DH:=List DO
variable {G G' L:DH}
abbrev DSt:=List (Option D)
variable {S:DSt}
structure Xn where
 cls:Str
 fs:List (Str×D)
inductive R (α:Type) where
 | ok (a:α) (G:DH)
 | err (x:Xn) (G:DH)
 | bad
variable {r:R D} {f:D->D->DH->R D}
def R.bind {α β:Type} (r:R α) (f:α->DH->R β):R β:=match r with
 | .ok a G=>f a G
 | .err x G=>.err x G
 | .bad=>.bad
@[simp] theorem R.U8 (a:α) (G:DH) (f:α->DH->R β):(R.ok a G).bind f=f a G:=id rfl
@[simp] theorem R.ZHh (f:α->DH->R β):(R.bad:R α).bind f=.bad:=id rfl
inductive SR where
 | nx (S:DSt) (G:DH)
 | rt (d:D) (G:DH)
 | bk (S:DSt) (G:DH)
 | ct (S:DSt) (G:DH)
 | err (x:Xn) (G:DH)
 | bad
abbrev DE:=DSt->DH->R D
variable {t te:DE}
abbrev DB:=DSt->DH->R Bool
abbrev DA:=DSt->DH->R (List D)
abbrev DS:=DSt->DH->SR
variable {u:DS}
def FzL (K:PySem.W.Frag) (H:Hp) (a:Addr) (xs:List V):Prop:=
 (∃o,H a=some (.frz o (.lst xs)))∨
  ∃(o:Obj) (its:Array Value) (n:Nat),K.lookup a=some o/\o.cls=.type "list"/\o.dict=none/\o.data=.seq its n/\its.size<=sizeLine/\Vals xs its.toList
theorem FzL.sq {a:Addr} {xs:List V} (h:FzL K H a xs):SqL K H a xs:=by
 rcases h with ⟨o,h⟩ | h
 ·exact .inl (.inr ⟨o,h⟩)
 ·exact .inr h
structure Wd where
 K:PySem.W.Frag
 n:Nat
 m:Nat->Addr
 H:Hp
variable {a b c:Wd}
mutual
def Rep (a:Wd):D->V->Prop
 | .non,v=>v=.non
 | .bl b,v=>v=.bl b
 | .int i,v=>v=.int i
 | .str x,v=>v=.str x
 | .ty n,v=>v=.ty n
 | .tup ds,v=>∃p vs,v=.ref p/\SqT a.K a.H p vs/\Reps a ds vs
 | .fl ds,v=>∃p vs,v=.ref p/\FzL a.K a.H p vs/\Reps a ds vs
 | .ref i,v=>i < a.n/\v=.ref (a.m i)
def Reps (a:Wd):List D->List V->Prop
 | [],vs=>vs= []
 | d::ds,vs=>∃v r,vs=v::r/\Rep a d v/\Reps a ds r
end
structure Ext (a b:Wd):Prop where
 k:b.K=a.K
 n:a.n<=b.n
 m:∀i,i < a.n->b.m i=a.m i
 tup:∀p xs,a.H p=some (.tup xs)->b.H p=some (.tup xs)
 frz:∀p o u,a.H p=some (.frz o u)->b.H p=some (.frz o u)
theorem Ext.refl (a:Wd):Ext a a:=⟨rfl,Nat.le_refl _,λ_ _=>rfl,λ_ _ h=>h,λ_ _ _ h=>h⟩
theorem Ext.trans (x:Ext a b) (y:Ext b c):Ext a c:=
 ⟨y.k.trans x.k,Nat.le_trans x.n y.n,λi h=>(y.m i (Nat.lt_of_lt_of_le h x.n)).trans (x.m i h),λp xs h=>y.tup p xs (x.tup p xs h),λp o u h=>y.frz p o u (x.frz p o u h)⟩
theorem Ext.sqT (x:Ext a b) {xs:List V} (h:SqT a.K a.H p xs):SqT b.K b.H p xs:=by
 rcases h with (h | ⟨o,h⟩) | h
 ·exact .inl (.inl (x.tup _ _ h))
 ·exact .inl (.inr ⟨o,x.frz _ _ _ h⟩)
 ·exact .inr (by rw [x.k];exact h)
theorem Ext.fzL (x:Ext a b) {xs:List V} (h:FzL a.K a.H p xs):FzL b.K b.H p xs:=by
 rcases h with ⟨o,h⟩ | h
 ·exact .inl ⟨o,x.frz _ _ _ h⟩
 ·exact .inr (by rw [x.k];exact h)
mutual
theorem Rep.mono (x:Ext a b):∀{d:D} {v:V},Rep a d v->Rep b d v
 | .non,_,h=>h
 | .bl _,_,h=>h
 | .int _,_,h=>h
 | .str _,_,h=>h
 | .ty _,_,h=>h
 | .tup ds,v,h=>by obtain ⟨p,vs,e,q,r⟩:=h;exact ⟨p,vs,e,x.sqT q,Reps.mono x r⟩
 | .fl ds,v,h=>by obtain ⟨p,vs,e,q,r⟩:=h;exact ⟨p,vs,e,x.fzL q,Reps.mono x r⟩
 | .ref i,v,h=>by obtain ⟨l,e⟩:=h;exact ⟨Nat.lt_of_lt_of_le l x.n,by rw [x.m i l];exact e⟩
theorem Reps.mono (x:Ext a b):∀{ds:List D} {vs:List V},Reps a ds vs->Reps b ds vs
 | [],_,h=>h
 | d::ds,vs,h=>by obtain ⟨v,r,e,h1,h2⟩:=h;exact ⟨v,r,e,Rep.mono x h1,Reps.mono x h2⟩
end
theorem Reps.length:∀{ds:List D} {vs:List V},Reps a ds vs->ds.length=vs.length
 | [],vs,h=>by cases (show vs= [] from h);rfl
 | d::ds,vs,h=>by obtain ⟨v,r,e,h1,h2⟩:=h;subst e;show ds.length + 1=r.length + 1;rw [Reps.length h2]
theorem Reps.get:∀{ds:List D} {vs:List V} {i:Nat} {d:D},Reps a ds vs->ds[i]? =some d->∃v,vs[i]? =some v/\Rep a d v
 | [],vs,_,_,h,e=>by simp at e
 | d::ds,vs,0,d',h,e=>by obtain ⟨v,r,e1,h1,h2⟩:=h;subst e1;simp at e;subst e;exact ⟨v,rfl,h1⟩
 | d::ds,vs,i + 1,d',h,e=>by obtain ⟨v,r,e1,h1,h2⟩:=h;subst e1;obtain ⟨w,e2,h3⟩:=Reps.get (i:=i) (d:=d') h2 (by simpa using e);exact ⟨w,by simpa using e2,h3⟩
theorem Reps.get':∀{ds:List D} {vs:List V} {i:Nat} {v:V},Reps a ds vs->vs[i]? =some v->∃d,ds[i]? =some d/\Rep a d v
 | [],vs,_,_,h,e=>by cases (show vs= [] from h);simp at e
 | d::ds,vs,0,v',h,e=>by obtain ⟨v,r,e1,h1,h2⟩:=h;subst e1;simp at e;subst e;exact ⟨d,rfl,h1⟩
 | d::ds,vs,i + 1,v',h,e=>by obtain ⟨v,r,e1,h1,h2⟩:=h;subst e1;obtain ⟨w,e2,h3⟩:=Reps.get' (i:=i) (v:=v') h2 (by simpa using e);exact ⟨w,by simpa using e2,h3⟩
theorem Reps.append:∀{ds es:List D} {vs us:List V},Reps a ds vs->Reps a es us->Reps a (ds++es) (vs++us)
 | [],_,vs,_,h,h'=>by cases (show vs= [] from h);exact h'
 | d::ds,es,vs,us,h,h'=>by obtain ⟨v,r,e1,h1,h2⟩:=h;subst e1;exact ⟨v,r++us,rfl,h1,Reps.append h2 h'⟩
theorem Reps.cons (h:Rep a d v) (r:Reps a ds vs):Reps a (d::ds) (v::vs):=⟨v,vs,rfl,h,r⟩
theorem Reps.nil:Reps a [] []:=rfl
theorem Reps.set (h:Rep a d v):∀{ds:List D} {vs:List V} (i:Nat),Reps a ds vs->Reps a (ds.set i d) (vs.set i v)
 | [],vs,_,r=>by cases (show vs= [] from r);exact rfl
 | d'::ds,vs,0,r=>by obtain ⟨v',r',e1,h1,h2⟩:=r;subst e1;exact ⟨v,r',rfl,h,h2⟩
 | d'::ds,vs,i + 1,r=>by obtain ⟨v',r',e1,h1,h2⟩:=r;subst e1;exact ⟨v',r'.set i v,rfl,h1,Reps.set h i h2⟩
theorem Reps.take:∀{ds:List D} {vs:List V} (i:Nat),Reps a ds vs->Reps a (ds.take i) (vs.take i)
 | _,_,0,_=>rfl
 | [],vs,_ + 1,r=>by cases (show vs= [] from r);exact rfl
 | d'::ds,vs,i + 1,r=>by obtain ⟨v',r',e1,h1,h2⟩:=r;subst e1;exact ⟨v',r'.take i,rfl,h1,Reps.take i h2⟩
theorem Reps.drop:∀{ds:List D} {vs:List V} (i:Nat),Reps a ds vs->Reps a (ds.drop i) (vs.drop i)
 | _,_,0,r=>r
 | [],vs,_ + 1,r=>by cases (show vs= [] from r);exact rfl
 | d'::ds,vs,i + 1,r=>by obtain ⟨v',r',e1,h1,h2⟩:=r;subst e1;exact Reps.drop i h2
theorem Reps.ints:∀(ns:List Int),Reps a (ns.map D.int) (ns.map V.int)
 | []=>rfl
 | n::ns=>⟨.int n,ns.map V.int,rfl,rfl,Reps.ints ns⟩
def RepKV (a:Wd) (kvs:List (Key×D)) (us:List (Key×V)):Prop:=kvs.map (·.1)=us.map (·.1)/\Reps a (kvs.map (·.2)) (us.map (·.2))
def RepF (a:Wd) (fs:List (Str×D)) (us:List (Str×V)):Prop:=fs.map (·.1)=us.map (·.1)/\Reps a (fs.map (·.2)) (us.map (·.2))
def ORep (a:Wd):DO->Option HO->Prop
 | .lst ds,o=>∃vs,o=some (.lst vs)/\Reps a ds vs
 | .dct kvs,o=>∃us,o=some (.dK us)/\RepKV a kvs us
 | .ins c fs,o=>∃C dx us,PySem.W.nsIn a.K mainGlobals c=some (some (.ref C))/\o=some (.ins C dx us)/\RepF a fs us
 | .gone,_=>True
structure Sim (a:Wd) (G:DH):Prop where
 len:G.length=a.n
 inj:∀i j,i < a.n->j < a.n->a.m i=a.m j->i=j
 obj:∀(i:Nat) (o:DO),G[i]? =some o->ORep a o (a.H (a.m i))
 tr:∀i,i < a.n->a.H (a.m i)≠none
structure RepS (a:Wd) (S:DSt) (σ:St):Prop where
 len:S.length=σ.length
 get:∀(i:Nat) (d:D),S[i]? =some (some d)->∃v,σ[i]? =some (some v)/\Rep a d v
theorem RepS.mono (x:Ext a b) (r:RepS a S σ):RepS b S σ:=⟨r.len,λi d h=>let ⟨v,e,q⟩:=r.get i d h;⟨v,e,q.mono x⟩⟩
theorem RepS.set (r:RepS a S σ) (i:Nat) (h:Rep a d v):RepS a (S.set i (some d)) (σ.set i (some v)):=by
 refine ⟨by simpa using r.len,λj e he=> ?_⟩;rw [List.getElem?_set] at he ⊢;by_cases hij:i=j
 ·subst hij;rw [if_pos rfl] at he ⊢;by_cases hl:i < S.length
  ·rw [if_pos hl] at he;have e1:d=e:=by simpa using he
   subst e1;rw [if_pos (by rw [<-r.len];exact hl)];exact ⟨v,rfl,h⟩
  ·rw [if_neg hl] at he;cases he
 ·rw [if_neg hij] at he ⊢;exact r.get j e he
def XOk (E:XK) (a:Wd) (x:Xn) (G:DH):Prop:=False
def out (E:XK) (a:Wd) (r:R D) (Q:VK):Prop:=match r with
 | .ok d G=>∀(b:Wd) (v:V),Ext a b->Sim b G->Rep b d v->Q v b.H
 | .err x G=>XOk E a x G
 | .bad=>False
def Eh (E:XK) (a:Wd) (r:R Bool) (Q:Bool->Hp->Prop):Prop:=match r with
 | .ok k G=>∀(b:Wd),Ext a b->Sim b G->Q k b.H
 | .err x G=>XOk E a x G
 | .bad=>False
def Ef (E:XK) (a:Wd) (r:R (List D)) (Q:List V->Hp->Prop):Prop:=match r with
 | .ok ds G=>∀(b:Wd) (vs:List V),Ext a b->Sim b G->Reps b ds vs->Q vs b.H
 | .err x G=>XOk E a x G
 | .bad=>False
def Bv (E:XK) (a:Wd) (r:SR) (W:Ends):Prop:=match r with
 | .nx S G=>∀(b:Wd) (σ:St),Ext a b->Sim b G->RepS b S σ->W.nx σ b.H
 | .bk S G=>∀(b:Wd) (σ:St),Ext a b->Sim b G->RepS b S σ->W.bk σ b.H
 | .ct S G=>∀(b:Wd) (σ:St),Ext a b->Sim b G->RepS b S σ->W.ct σ b.H
 | .rt d G=>∀(b:Wd) (v:V),Ext a b->Sim b G->Rep b d v->W.rt v b.H
 | .err x G=>XOk E a x G
 | .bad=>False
theorem XOk.mono (x:Ext a b) {e:Xn} (h:XOk E a e G):XOk E b e G:=h
theorem out.mono (x:Ext a b) (h:out E a r Q):out E b r Q:=by
 cases r with
 | ok d G=>exact λc v y s q=>h c v (x.trans y) s q
 | err e G=>exact XOk.mono (E:=E) (e:=e) (G:=G) x h
 | bad=>exact h
theorem Eh.mono (x:Ext a b) {r:R Bool} {Q:Bool->Hp->Prop} (h:Eh E a r Q):Eh E b r Q:=by
 cases r with
 | ok d G=>exact λc y s=>h c (x.trans y) s
 | err e G=>exact XOk.mono (E:=E) (e:=e) (G:=G) x h
 | bad=>exact h
theorem Ef.mono (x:Ext a b) {r:R (List D)} {Q:List V->Hp->Prop} (h:Ef E a r Q):Ef E b r Q:=by
 cases r with
 | ok d G=>exact λc vs y s q=>h c vs (x.trans y) s q
 | err e G=>exact XOk.mono (E:=E) (e:=e) (G:=G) x h
 | bad=>exact h
theorem Bv.mono (x:Ext a b) {r:SR} (h:Bv E a r W):Bv E b r W:=by
 cases r with
 | nx d G=>exact λc vs y s q=>h c vs (x.trans y) s q
 | bk d G=>exact λc vs y s q=>h c vs (x.trans y) s q
 | ct d G=>exact λc vs y s q=>h c vs (x.trans y) s q
 | rt d G=>exact λc vs y s q=>h c vs (x.trans y) s q
 | err e G=>exact XOk.mono (E:=E) (e:=e) (G:=G) x h
 | bad=>exact h
def lE (K:PySem.W.Frag) (E:XK) (t:DE):TE:=λσ H Q=>∃(a:Wd) (S:DSt) (G:DH),a.K=K/\a.H=H/\Sim a G/\RepS a S σ/\out E a (t S G) Q
def lB (K:PySem.W.Frag) (E:XK) (t:DB):TT:=λσ H Q=>∃(a:Wd) (S:DSt) (G:DH),a.K=K/\a.H=H/\Sim a G/\RepS a S σ/\Eh E a (t S G) Q
def lA (K:PySem.W.Frag) (E:XK) (t:DA):TA:=λσ H Q=>∃(a:Wd) (S:DSt) (G:DH),a.K=K/\a.H=H/\Sim a G/\RepS a S σ/\Ef E a (t S G) Q
def lS (K:PySem.W.Frag) (E:XK) (t:DS):TS:=λW σ H=>∃(a:Wd) (S:DSt) (G:DH),a.K=K/\a.H=H/\Sim a G/\RepS a S σ/\Bv E a (t S G) W
def lR2 (K:PySem.W.Frag) (E:XK) (f:D->D->DH->R D):R2:=λx y H Q=>∃(a:Wd) (G:DH) (d e:D),a.K=K/\a.H=H/\Sim a G/\Rep a d x/\Rep a e y/\out E a (f d e G) Q
def lRn (K:PySem.W.Frag) (E:XK) (f:List D->DH->R D):List V->Hp->VK->Prop:=λxs H Q=>∃(a:Wd) (G:DH) (ds:List D),a.K=K/\a.H=H/\Sim a G/\Reps a ds xs/\out E a (f ds G) Q
def lF (K:PySem.W.Frag) (f:List D->DH->R D):Sp:=λxs H Q E=>∃(a:Wd) (G:DH) (ds:List D),a.K=K/\a.H=H/\Sim a G/\Reps a ds xs/\out E a (f ds G) Q
section
variable {X:Cx} {E:XK}
def QE (X:Cx) (E:XK) (e:Expr) (t:DE):Prop:=PE X e (lE X.K E t)
def QT (X:Cx) (E:XK) (e:Expr) (t:DB):Prop:=PT X e (lB X.K E t)
def QA (X:Cx) (E:XK) (es:List Expr) (t:DA):Prop:=PA X es (lA X.K E t)
def QS (X:Cx) (E:XK) (st:Stmt) (t:DS):Prop:=PS X st (lS X.K E t)
def QSs (X:Cx) (E:XK) (st:List Stmt) (t:DS):Prop:=PSs X st (lS X.K E t)
theorem _root_.L2.PE.mono {t t':TE} (h:PE X e t) (w:∀σ H Q,t' σ H Q->t σ H Q):PE X e t':=λpins s σ H Q I q=>h pins s σ H Q I (w σ H Q q)
theorem _root_.L2.PT.mono {t t':TT} (h:PT X e t) (w:∀σ H Q,t' σ H Q->t σ H Q):PT X e t':=λpins s σ H Q I q=>h pins s σ H Q I (w σ H Q q)
theorem _root_.L2.PA.mono {e:List Expr} {t t':TA} (h:PA X e t) (w:∀σ H Q,t' σ H Q->t σ H Q):PA X e t':=λpos pins s σ H Q I q=>h pos pins s σ H Q I (w σ H Q q)
theorem _root_.L2.PS.mono {e:Stmt} {t t':TS} (h:PS X e t) (w:∀W σ H,t' W σ H->t W σ H):PS X e t':=λpins s σ H W I q=>h pins s σ H W I (w W σ H q)
theorem _root_.L2.PSs.mono {e:List Stmt} {t t':TS} (h:PSs X e t) (w:∀W σ H,t' W σ H->t W σ H):PSs X e t':=λpins s σ H W I q=>h pins s σ H W I (w W σ H q)
theorem _root_.L2.OpR.mono {f:Value->Value->Sem Value} {r r':R2} (h:OpR X f r) (w:∀x y H Q,r' x y H Q->r x y H Q):OpR X f r':=λpins s σ H x y v u Q I rx ry q=>h pins s σ H x y v u Q I rx ry (w _ _ _ _ q)
end
theorem Gh {f:D->DH->R D} (h:out E a (r.bind f) Q):
  out E a r (λv H=>∃(b:Wd) (d:D) (G:DH),b.H=H/\Ext a b/\Sim b G/\Rep b d v/\r=.ok d G/\out E b (f d G) Q):=by
 cases r with
 | ok d G=>exact λb v x s q=>⟨b,d,G,rfl,x,s,q,rfl,out.mono x h⟩
 | err e G=>exact h
 | bad=>exact h
theorem Ox {r:R (List D)} {f:List D->DH->R D} (h:out E a (r.bind f) Q):
  Ef E a r (λvs H=>∃(b:Wd) (ds:List D) (G:DH),b.H=H/\Ext a b/\Sim b G/\Reps b ds vs/\r=.ok ds G/\out E b (f ds G) Q):=by
 cases r with
 | ok d G=>exact λb v x s q=>⟨b,d,G,rfl,x,s,q,rfl,out.mono x h⟩
 | err e G=>exact h
 | bad=>exact h
theorem ZEH {r:R Bool} {f:Bool->DH->R D} (h:out E a (r.bind f) Q):
  Eh E a r (λk H=>∃(b:Wd) (G:DH),b.H=H/\Ext a b/\Sim b G/\r=.ok k G/\out E b (f k G) Q):=by
 cases r with
 | ok d G=>exact λb x s=>⟨b,G,rfl,x,s,rfl,out.mono x h⟩
 | err e G=>exact h
 | bad=>exact h
theorem ZGt {f:D->DH->R Bool} {Q:Bool->Hp->Prop} (h:Eh E a (r.bind f) Q):
  out E a r (λv H=>∃(b:Wd) (d:D) (G:DH),b.H=H/\Ext a b/\Sim b G/\Rep b d v/\r=.ok d G/\Eh E b (f d G) Q):=by
 cases r with
 | ok d G=>exact λb v x s q=>⟨b,d,G,rfl,x,s,q,rfl,Eh.mono x h⟩
 | err e G=>exact h
 | bad=>exact h
theorem Tn {r:R Bool} {f:Bool->DH->R Bool} {Q:Bool->Hp->Prop} (h:Eh E a (r.bind f) Q):
  Eh E a r (λk H=>∃(b:Wd) (G:DH),b.H=H/\Ext a b/\Sim b G/\r=.ok k G/\Eh E b (f k G) Q):=by
 cases r with
 | ok d G=>exact λb x s=>⟨b,G,rfl,x,s,rfl,Eh.mono x h⟩
 | err e G=>exact h
 | bad=>exact h
theorem ZGA {f:D->DH->R (List D)} {Q:List V->Hp->Prop} (h:Ef E a (r.bind f) Q):
  out E a r (λv H=>∃(b:Wd) (d:D) (G:DH),b.H=H/\Ext a b/\Sim b G/\Rep b d v/\r=.ok d G/\Ef E b (f d G) Q):=by
 cases r with
 | ok d G=>exact λb v x s q=>⟨b,d,G,rfl,x,s,q,rfl,Ef.mono x h⟩
 | err e G=>exact h
 | bad=>exact h
theorem ZEI {r:R (List D)} {f:List D->DH->R (List D)} {Q:List V->Hp->Prop} (h:Ef E a (r.bind f) Q):
  Ef E a r (λvs H=>∃(b:Wd) (ds:List D) (G:DH),b.H=H/\Ext a b/\Sim b G/\Reps b ds vs/\r=.ok ds G/\Ef E b (f ds G) Q):=by
 cases r with
 | ok d G=>exact λb v x s q=>⟨b,d,G,rfl,x,s,q,rfl,Ef.mono x h⟩
 | err e G=>exact h
 | bad=>exact h
def R.toS {α:Type} (r:R α) (f:α->DH->SR):SR:=match r with
 | .ok a G=>f a G
 | .err x G=>.err x G
 | .bad=>.bad
@[simp] theorem R.Eg (a:α) (G:DH) (f:α->DH->SR):(R.ok a G).toS f=f a G:=id rfl
@[simp] theorem R.ZHn (f:α->DH->SR):(R.bad:R α).toS f=.bad:=id rfl
theorem O5 {f:D->DH->SR} (h:Bv E a (r.toS f) W):
  out E a r (λv H=>∃(b:Wd) (d:D) (G:DH),b.H=H/\Ext a b/\Sim b G/\Rep b d v/\r=.ok d G/\Bv E b (f d G) W):=by
 cases r with
 | ok d G=>exact λb v x s q=>⟨b,d,G,rfl,x,s,q,rfl,Bv.mono x h⟩
 | err e G=>exact h
 | bad=>exact h
theorem ZF9 {r:R Bool} {f:Bool->DH->SR} (h:Bv E a (r.toS f) W):
  Eh E a r (λk H=>∃(b:Wd) (G:DH),b.H=H/\Ext a b/\Sim b G/\r=.ok k G/\Bv E b (f k G) W):=by
 cases r with
 | ok d G=>exact λb x s=>⟨b,G,rfl,x,s,rfl,Bv.mono x h⟩
 | err e G=>exact h
 | bad=>exact h
section
theorem out.imp {Q':VK} (h:out E a r Q) (w:∀v H,Q v H->Q' v H):out E a r Q':=by
 cases r with
 | ok d G=>exact λb v x s q=>w _ _ (h b v x s q)
 | err e G=>exact h
 | bad=>exact h
theorem Ef.imp {r:R (List D)} {Q Q':List V->Hp->Prop} (h:Ef E a r Q) (w:∀v H,Q v H->Q' v H):Ef E a r Q':=by
 cases r with
 | ok d G=>exact λb v x s q=>w _ _ (h b v x s q)
 | err e G=>exact h
 | bad=>exact h
theorem Eh.imp {r:R Bool} {Q Q':Bool->Hp->Prop} (h:Eh E a r Q) (w:∀v H,Q v H->Q' v H):Eh E a r Q':=by
 cases r with
 | ok d G=>exact λb x s=>w _ _ (h b x s)
 | err e G=>exact h
 | bad=>exact h
def Wd.push (a:Wd) (p:Addr) (ho:HO):Wd:=⟨a.K,a.n + 1,λk=>if k=a.n then p else a.m k,upd a.H p ho⟩
def Wd.put (a:Wd) (p:Addr) (ho:HO):Wd:={a with H:=upd a.H p ho}
theorem Ext.put (h:a.H p=none):Ext a (a.put p ho):=
 ⟨rfl,Nat.le_refl _,λ_ _=>rfl,λq xs e=>by show upd a.H p ho q=_;rw [Be (Hq e h)];exact e,λq o u e=>by show upd a.H p ho q=_;rw [Be (Hq e h)];exact e⟩
theorem Ext.push (h:a.H p=none):Ext a (a.push p ho):=
 ⟨rfl,Nat.le_succ _,λi hi=>by show (if i=a.n then p else a.m i)=a.m i;rw [if_neg (Nat.ne_of_lt hi)],λq xs e=>by show upd a.H p ho q=_;rw [Be (Hq e h)];exact e,λq o u e=>by show upd a.H p ho q=_;rw [Be (Hq e h)];exact e⟩
theorem ORep.mono (x:Ext a b) (h:ORep a o q):ORep b o q:=by
 cases o with
 | lst ds=>obtain ⟨vs,e,r⟩:=h;exact ⟨vs,e,r.mono x⟩
 | dct kvs=>obtain ⟨us,e,k,r⟩:=h;exact ⟨us,e,k,r.mono x⟩
 | ins c fs=>obtain ⟨C,dx,us,n,e,k,r⟩:=h;exact ⟨C,dx,us,by rw [x.k];exact n,e,k,r.mono x⟩
 | gone=>trivial
theorem Sim.lt (s:Sim a G) (h:G[i]? =some o):i < a.n:=by rw [<-s.len];exact (List.getElem?_eq_some_iff.mp h).1
theorem Sim.put (s:Sim a G) (h:a.H p=none):Sim (a.put p ho) G:=by
 refine ⟨s.len,s.inj,λi o e=> ?_,λi hi=> ?_⟩
 ·have z:a.H (a.m i)≠none:=s.tr i (s.lt e);have ne:a.m i≠p:=λq=>z (by rw [q];exact h)
  show ORep _ o (upd a.H p ho (a.m i));rw [Be ne];exact (s.obj i o e).mono (Ext.put h)
 ·have z:a.H (a.m i)≠none:=s.tr i hi;have ne:a.m i≠p:=λq=>z (by rw [q];exact h)
  show upd a.H p ho (a.m i)≠none;rw [Be ne];exact z
theorem Sim.push (s:Sim a G) (h:a.H p=none) (r:ORep (a.push p ho) o (some ho)):Sim (a.push p ho) (G++ [o]):=by
 have nep:∀i,i < a.n->a.m i≠p:=λi hi q=>s.tr i hi (by rw [q];exact h)
 have old:∀i,i < a.n->(a.push p ho).m i=a.m i:=λi hi=>by show (if i=a.n then p else a.m i)=_;rw [if_neg (Nat.ne_of_lt hi)]
 have new:(a.push p ho).m a.n=p:=by show (if a.n=a.n then p else a.m a.n)=_;rw [if_pos rfl]
 refine ⟨by simp [s.len,Wd.push],λi j hi hj e=> ?_,λi u e=> ?_,λi hi=> ?_⟩
 ·have hi':i < a.n + 1:=hi;have hj':j < a.n + 1:=hj;by_cases h1:i < a.n
  ·by_cases h2:j < a.n
   ·rw [old i h1,old j h2] at e;exact s.inj i j h1 h2 e
   ·have:j=a.n:=by omega
    subst this;rw [old i h1,new] at e;exact absurd e (nep i h1)
  ·have:i=a.n:=by omega
   subst this;by_cases h2:j < a.n
   ·rw [old j h2,new] at e;exact absurd e.symm (nep j h2)
   ·omega
 ·by_cases h1:i < a.n
  ·rw [List.getElem?_append_left (by rw [s.len];exact h1)] at e;rw [old i h1];show ORep _ u (upd a.H p ho (a.m i));rw [Be (nep i h1)];exact (s.obj i u e).mono (Ext.push h)
  ·have hl:i < (G++ [o]).length:=(List.getElem?_eq_some_iff.mp e).1;have:i=a.n:=by rw [List.length_append,s.len] at hl;simp at hl;omega
   subst this;rw [List.getElem?_append_right (by rw [s.len];exact Nat.le_refl _),s.len] at e;simp at e;subst e;rw [new];show ORep _ o (upd a.H p ho p);rw [Ff];exact r
 ·have hi':i < a.n + 1:=hi;by_cases h1:i < a.n
  ·rw [old i h1];show upd a.H p ho (a.m i)≠none;rw [Be (nep i h1)];exact s.tr i h1
  ·have:i=a.n:=by omega
   subst this;rw [new];show upd a.H p ho p≠none;rw [Ff];simp
theorem Ext.wr (h:a.H p=some (.lst vs)):Ext a (a.put p ho):=
 ⟨rfl,Nat.le_refl _,λ_ _=>rfl,λq xs e=>by
  show upd a.H p ho q=_;rw [Be (λz=>by subst z;rw [h] at e;cases e)];exact e,λq o u e=>by
  show upd a.H p ho q=_;rw [Be (λz=>by subst z;rw [h] at e;cases e)];exact e⟩
theorem Sim.wr (s:Sim a G) (hi:i < a.n) {vs':List V} {ds':List D} (h:a.H (a.m i)=some (.lst vs)) (r:Reps (a.put (a.m i) (.lst vs')) ds' vs'):Sim (a.put (a.m i) (.lst vs')) (G.set i (.lst ds')):=by
 refine ⟨by rw [List.length_set];exact s.len,s.inj,λj o e=> ?_,λj hj=> ?_⟩
 ·rw [List.getElem?_set] at e;show ORep _ o (upd a.H (a.m i) (.lst vs') (a.m j));by_cases hij:i=j
  ·subst hij;rw [if_pos rfl,if_pos (by rw [s.len];exact hi)] at e;cases e;rw [Ff];exact ⟨vs',rfl,r⟩
  ·rw [if_neg hij] at e;rw [Be λz=>hij (s.inj _ _ (s.lt e) hi z).symm];exact (s.obj j o e).mono (Ext.wr h)
 ·show upd a.H (a.m i) (.lst vs') (a.m j)≠none;by_cases hij:a.m j=a.m i
  ·rw [hij,Ff];simp
  ·rw [Be hij];exact s.tr j hj
mutual
def bel (n:Nat):D->Bool
 | .ref i=>decide (i < n)
 | .tup ds=>bels n ds
 | .fl ds=>bels n ds
 | _=>true
def bels (n:Nat):List D->Bool
 | []=>true
 | d::ds=>bel n d && bels n ds
end
def Iz (n:Nat):DO->Bool
 | .lst ds=>bels n ds
 | .dct kvs=>bels n (kvs.map (·.2))
 | .ins _ fs=>bels n (fs.map (·.2))
 | .gone=>true
mutual
theorem Rep.bel:∀{d:D} {v:V},Rep a d v->bel a.n d=true
 | .non,_,_=>by simp [DL.bel]
 | .bl _,_,_=>by simp [DL.bel]
 | .int _,_,_=>by simp [DL.bel]
 | .str _,_,_=>by simp [DL.bel]
 | .ty _,_,_=>by simp [DL.bel]
 | .tup ds,v,h=>by obtain ⟨p,vs,e,q,r⟩:=h;simp only [DL.bel];exact Reps.bels r
 | .fl ds,v,h=>by obtain ⟨p,vs,e,q,r⟩:=h;simp only [DL.bel];exact Reps.bels r
 | .ref i,v,h=>by obtain ⟨l,e⟩:=h;simp only [DL.bel];exact decide_eq_true l
theorem Reps.bels:∀{ds:List D} {vs:List V},Reps a ds vs->bels a.n ds=true
 | [],_,_=>by simp [DL.bels]
 | d::ds,vs,h=>by
  obtain ⟨v,r,e,h1,h2⟩:=h;simp only [DL.bels];rw [Rep.bel h1,Reps.bels h2]
  rfl
end
structure Cut (b c:Wd):Prop where
 k:c.K=b.K
 h:c.H=b.H
mutual
theorem Rep.cut (x:Cut b c) {n:Nat} (hn:n<=c.n) (hm:∀i,i < n->c.m i=b.m i):∀{d:D} {v:V},Rep b d v->bel n d=true->Rep c d v
 | .non,_,h,_=>h
 | .bl _,_,h,_=>h
 | .int _,_,h,_=>h
 | .str _,_,h,_=>h
 | .ty _,_,h,_=>h
 | .tup ds,v,h,q=>by obtain ⟨p,vs,e,t,r⟩:=h;simp only [DL.bel] at q;exact ⟨p,vs,e,by rw [x.k,x.h];exact t,Reps.cut x hn hm r q⟩
 | .fl ds,v,h,q=>by obtain ⟨p,vs,e,t,r⟩:=h;simp only [DL.bel] at q;exact ⟨p,vs,e,by rw [x.k,x.h];exact t,Reps.cut x hn hm r q⟩
 | .ref i,v,h,q=>by obtain ⟨l,e⟩:=h;simp only [DL.bel] at q;have q':=of_decide_eq_true q;exact ⟨Nat.lt_of_lt_of_le q' hn,by rw [hm i q'];exact e⟩
theorem Reps.cut (x:Cut b c) {n:Nat} (hn:n<=c.n) (hm:∀i,i < n->c.m i=b.m i):∀{ds:List D} {vs:List V},Reps b ds vs->bels n ds=true->Reps c ds vs
 | [],_,h,_=>h
 | d::ds,vs,h,q=>by obtain ⟨v,r,e,h1,h2⟩:=h;simp only [DL.bels,Bool.and_eq_true] at q;exact ⟨v,r,e,Rep.cut x hn hm h1 q.1,Reps.cut x hn hm h2 q.2⟩
end
theorem ORep.cut (x:Cut b c) {n:Nat} (hn:n<=c.n) (hm:∀i,i < n->c.m i=b.m i) (h:ORep b o q) (l:Iz n o=true):ORep c o q:=by
 cases o with
 | lst ds=>obtain ⟨vs,e,r⟩:=h;exact ⟨vs,e,Reps.cut x hn hm r l⟩
 | dct kvs=>obtain ⟨us,e,k,r⟩:=h;exact ⟨us,e,k,Reps.cut x hn hm r l⟩
 | ins c fs=>obtain ⟨C,dx,us,n,e,k,r⟩:=h;exact ⟨C,dx,us,by rw [x.k];exact n,e,k,Reps.cut x hn hm r l⟩
 | gone=>trivial
theorem ORep.Iz (h:ORep a o q):Iz a.n o=true:=by
 cases o with
 | lst ds=>obtain ⟨vs,e,r⟩:=h;exact r.bels
 | dct kvs=>obtain ⟨us,e,k,r⟩:=h;exact r.bels
 | ins c fs=>obtain ⟨C,dx,us,n,e,k,r⟩:=h;exact r.bels
 | gone=>rfl
open Classical in
def tidy (G:DH) (r:R D):R D:=match r with
 | .ok d G'=>if G'.take G.length=G then
   (if bel G.length d=true then .ok d G else match d with
    | .ref i=>match G'[i]? with
     | some o=>if Iz G.length o=true then .ok (.ref G.length) (G++ [o]) else .ok d G'
     | none=>.ok d G'
    | _=>.ok d G') else .ok d G'
 | r=>r
theorem ZAy (s:Sim a G) (h:out E a (tidy G r) Q):out E a r Q:=by
 cases r with
 | err e G'=>exact h
 | bad=>exact h
 | ok d G'=>
  intro b v x sb rb;unfold tidy at h;dsimp only at h;split at h
  ·rename_i hG;have hlen:∀i o,G[i]? =some o->G'[i]? =some o:=λi o e=>by have hi:i < G.length:=(List.getElem?_eq_some_iff.mp e).1;rw [<-hG,List.getElem?_take_of_lt hi] at e;exact e
   have base:∀(c:Wd),Cut b c->a.n<=c.n->(∀i,i < a.n->c.m i=b.m i)->∀i o,G[i]? =some o->ORep c o (c.H (c.m i)):=λc cc hn hm i o e=>by have q:=sb.obj i o (hlen i o e);rw [cc.h,hm i (s.lt e)];exact q.cut cc hn hm (s.obj i o e).Iz
   split at h
   ·rename_i hb;rw [s.len] at hb;let c:Wd:=⟨b.K,a.n,b.m,b.H⟩;have cc:Cut b c:=⟨rfl,rfl⟩;refine h c v ⟨x.k,Nat.le_refl _,x.m,x.tup,x.frz⟩ ⟨s.len,λi j hi hj=>sb.inj i j (Nat.lt_of_lt_of_le hi x.n) (Nat.lt_of_lt_of_le hj x.n),base c cc (Nat.le_refl _) (λ_ _=>rfl),λi hi=>sb.tr i (Nat.lt_of_lt_of_le hi x.n)⟩ ?_;exact rb.cut cc (Nat.le_refl _) (λ_ _=>rfl) hb
   ·rename_i hb;split at h
    ·rename_i i;obtain ⟨il,iv⟩:=rb;split at h
     ·rename_i o ho;split at h
      ·rename_i hbo;rw [s.len] at hbo hb h;simp only [DL.bel,decide_eq_true_eq] at hb;let c:Wd:=⟨b.K,a.n + 1,λk=>if k=a.n then b.m i else b.m k,b.H⟩;have cc:Cut b c:=⟨rfl,rfl⟩;have cm:∀j,j < a.n->c.m j=b.m j:=λj hj=>by show (if j=a.n then b.m i else b.m j)=_;rw [if_neg (Nat.ne_of_lt hj)]
       have cn:c.m a.n=b.m i:=by show (if a.n=a.n then b.m i else b.m a.n)=_;rw [if_pos rfl]
       have lt':∀j,j < a.n->j < b.n:=λj hj=>Nat.lt_of_lt_of_le hj x.n
       refine h c v ⟨x.k,Nat.le_succ _,λj hj=>(cm j hj).trans (x.m j hj),x.tup,x.frz⟩ ⟨by simp [s.len,c],λj k hj hk e=> ?_,λj u e=> ?_,λj hj=> ?_⟩ ⟨Nat.lt_succ_self _,by rw [cn];exact iv⟩
       ·have hj':j < a.n + 1:=hj;have hk':k < a.n + 1:=hk;by_cases h1:j < a.n
        ·by_cases h2:k < a.n
         ·rw [cm j h1,cm k h2] at e;exact sb.inj j k (lt' j h1) (lt' k h2) e
         ·have:k=a.n:=by omega
          subst this;rw [cm j h1,cn] at e;have:=sb.inj j i (lt' j h1) il e;omega
        ·have:j=a.n:=by omega
         subst this;by_cases h2:k < a.n
         ·rw [cm k h2,cn] at e;have:=sb.inj i k il (lt' k h2) e;omega
         ·omega
       ·by_cases h1:j < a.n
        ·rw [List.getElem?_append_left (by rw [s.len];exact h1)] at e;exact base c cc (Nat.le_succ _) cm j u e
        ·have hl:j < (G++ [o]).length:=(List.getElem?_eq_some_iff.mp e).1;have:j=a.n:=by rw [List.length_append,s.len] at hl;simp at hl;omega
         subst this;rw [List.getElem?_append_right (by rw [s.len];exact Nat.le_refl _),s.len] at e;simp at e;subst e;rw [cn];exact (sb.obj i o ho).cut cc (Nat.le_succ _) cm hbo
       ·have hj':j < a.n + 1:=hj;by_cases h1:j < a.n
        ·rw [cm j h1];exact sb.tr j (lt' j h1)
        ·have:j=a.n:=by omega
         subst this;rw [cn];exact sb.tr i il
      ·exact h b v x sb ⟨il,iv⟩
     ·exact h b v x sb ⟨il,iv⟩
    ·exact h b v x sb rb
  ·exact h b v x sb rb
end
def dV (i:Nat):DE:=λS G=>match S[i]? with
 | some (some d)=>.ok d G
 | _=>.bad
def dC (d:D):DE:=λ_ G=>.ok d G
def dOp (f:D->D->DH->R D) (a b:DE):DE:=λS G=>(a S G).bind λx G1=>(b S G1).bind λy G2=>f x y G2
def Af:DA:=λ_ G=>.ok [] G
def Ab (a:DE) (r:DA):DA:=λS G=>(a S G).bind λx G1=>(r S G1).bind λxs G2=>.ok (x::xs) G2
def dFn (f:List D->DH->R D) (t:DA):DE:=λS G=>(t S G).bind f
def Ej (t:DE):DE:=λS G=>tidy G (t S G)
def asB:D->DH->R Bool
 | .bl k,G=>.ok k G
 | _,_=>.bad
def Bg (t:DE):DB:=λS G=>(t S G).bind asB
def Li (t u:DB):DB:=λS G=>(t S G).bind λk G1=>if k=true then u S G1 else .ok false G1
def dOr (t u:DB):DB:=λS G=>(t S G).bind λk G1=>if k=true then .ok true G1 else u S G1
def Q5 (t:DB):DB:=λS G=>(t S G).bind λk G1=>.ok (!k) G1
def J6 (t u:DE):DE:=λS G=>(t S G).bind λx G1=>(asB x G1).bind λk G2=>if k=true then u S G2 else .ok (.bl false) G2
def Uv (t u:DE):DE:=λS G=>(t S G).bind λx G1=>(asB x G1).bind λk G2=>if k=true then .ok (.bl true) G2 else u S G2
def Pz (f g:D->D->DH->R D) (a b c:DE):DE:=λS G=>(a S G).bind λx G1=>(b S G1).bind λy G2=>(f x y G2).bind λz G3=>(asB z G3).bind λk G4=>
 if k=true then (c S G4).bind λw G5=>g y w G5 else .ok (.bl false) G4
def By (ds:List D) (G:DH):R D:=if ds.length<=1000000 then .ok (.tup ds) G else .bad
def An (ds:List D) (G:DH):R D:=if ds.length<=1000000 then .ok (.ref G.length) (G++ [.lst ds]) else .bad
def Bt (d:D) (G:DH):Option (List D):=match d with
 | .tup xs=>some xs
 | .fl xs=>some xs
 | .ref i=>match G[i]? with
  | some (.lst xs)=>some xs
  | _=>none
 | _=>none
theorem size6:(1000000:Nat)<=sizeLine:=by decide
section
variable {X:Cx} {E:XK} {a b c:Expr} {ta tb tc:DE} {pos:Pos}
theorem two (h:lE K E (dOp f ta tb) σ H Q):tOp (lR2 K E f) (lE K E ta) (lE K E tb) σ H Q:=by obtain ⟨a,S,G,hk,rfl,s,r,h⟩:=h;refine ⟨a,S,G,hk,rfl,s,r,(Gh h).imp ?_⟩;rintro v _ ⟨b,d,G1,rfl,x,s1,q,_,h1⟩;refine ⟨b,S,G1,x.k.trans hk,rfl,s1,r.mono x,(Gh h1).imp ?_⟩;rintro w _ ⟨c,e,G2,rfl,y,s2,q2,_,h2⟩;exact ⟨c,G2,d,e,y.k.trans (x.k.trans hk),rfl,s2,q.mono y,q2,h2⟩
theorem Aa (i:Nat) {pos:Pos} (hN:X.N[i]? =some x:=by rfl) (hv:Vis X.env.scope x:=by first | exact Or.inl rfl | exact Or.inr (Or.inl rfl) | exact Or.inr (Or.inr rfl)) (hd:(x == ("__debug__":Str))=false:=by decide)
  (hcd:(x == ("__classdict__":Str))=false:=by decide):QE X E (.Name x pos) (dV i):=by
 refine (ZEV hN hv hd hcd).mono λσ H Q h=> ?_
 obtain ⟨a,S,G,hk,rfl,s,r,h⟩:=h;unfold dV at h;split at h
 ·rename_i d e;obtain ⟨v,e',q⟩:=r.get i d e;exact ⟨v,e',h a v (Ext.refl a) s q⟩
 ·exact h.elim
theorem Nk (h:lE K E (dC d) σ H Q) (r:∀a:Wd,a.K=K->Rep a d v):Q v H:=by obtain ⟨a,S,G,hk,rfl,s,_,h⟩:=h;exact h a v (Ext.refl a) s (r a hk)
theorem Ad {i:Int} :QE X E (.Constant (.int i) j pos) (dC (.int i)):=ZF2.mono λσ H Q h=>Nk h λ_ _=>rfl
theorem Ha {i:Bool} :QE X E (.Constant (.bool i) j pos) (dC (.bl i)):=ZDd.mono λσ H Q h=>Nk h λ_ _=>rfl
theorem ZFj:QE X E (.Constant .none j pos) (dC .non):=ZFK.mono λσ H Q h=>Nk h λ_ _=>rfl
theorem Gf {i:Str} :QE X E (.Constant (.str i) j pos) (dC (.str i)):=ZCM.mono λσ H Q h=>Nk h λ_ _=>rfl
theorem Ae {op:Operator} (ho:OpR X (binaryOp op) (lR2 X.K E f)) (ha:QE X E a ta) (hb:QE X E b tb):QE X E (.BinOp a op b pos) (dOp f ta tb):=
 (ZFH ho ha hb).mono λ_ _ _ h=>two h
theorem Ik (ho:OpR X (compareOp op) (lR2 X.K E f)) (ha:QE X E a ta) (hb:QE X E b tb) (hm:behindInMarks op b=false):QE X E (.Compare a [op] [b] pos) (dOp f ta tb):=
 (ZCa ho ha hb hm).mono λ_ _ _ h=>two h
theorem Wf {Q:Bool->Hp->Prop} (h:lB K E (Bg t) σ H Q):Np (lE K E t) σ H Q:=by
 obtain ⟨a,S,G,hk,rfl,s,r,h⟩:=h;refine ⟨a,S,G,hk,rfl,s,r,(ZGt h).imp ?_⟩;rintro v _ ⟨b,d,G1,rfl,x,s1,q,_,h1⟩;cases d with
 | bl k=>exact ⟨k,q,h1 b (Ext.refl b) s1⟩
 | _=>exact h1.elim
theorem Zt {t t':TE} (w:∀σ H Q,t' σ H Q->t σ H Q) (σ:St) (H:Hp) (Q:Bool->Hp->Prop) (h:Np t' σ H Q):Np t σ H Q:=w _ _ _ h
theorem Cg (ho:OpR X (compareOp op) (lR2 X.K E f)) (ha:QE X E a ta) (hb:QE X E b tb) (hm:behindInMarks op b=false):QT X E (.Compare a [op] [b] pos) (Bg (dOp f ta tb)):=
 (ZDP ho ha hb hm).mono λσ H Q h=>Zt (λ_ _ _ z=>two z) σ H Q (Wf h)
theorem chain {g:D->D->DH->R D} (h:lE K E (Pz f g ta tb tc) σ H Q):ZBd (lR2 K E f) (lR2 K E g) (lE K E ta) (lE K E tb) (lE K E tc) σ H Q:=by
 obtain ⟨a,S,G,hk,rfl,s,r,h⟩:=h;refine ⟨a,S,G,hk,rfl,s,r,(Gh h).imp ?_⟩;rintro v _ ⟨b,d,G1,rfl,x,s1,q,_,h1⟩;refine ⟨b,S,G1,x.k.trans hk,rfl,s1,r.mono x,(Gh h1).imp ?_⟩;rintro w _ ⟨c,e,G2,rfl,y,s2,q2,_,h2⟩;refine ⟨c,G2,d,e,y.k.trans (x.k.trans hk),rfl,s2,q.mono y,q2,(Gh h2).imp ?_⟩;rintro z _ ⟨c3,e3,G3,rfl,y3,s3,q3,_,h3⟩;cases e3 with
 | bl k=>
  refine ⟨k,q3,?_⟩;cases k with
  | false=>exact h3 c3 (.bl false) (Ext.refl _) s3 rfl
  | true=>
   refine ⟨c3,S,G3,(y3.k.trans (y.k.trans (x.k.trans hk))),rfl,s3,((r.mono x).mono y).mono y3,(Gh h3).imp ?_⟩;rintro z4 _ ⟨c4,e4,G4,rfl,y4,s4,q4,_,h4⟩;exact ⟨c4,G4,e,e4,y4.k.trans (y3.k.trans (y.k.trans (x.k.trans hk))),rfl,s4,(q2.mono y3).mono y4,q4,h4⟩
 | _=>exact h3.elim
theorem ZFC {op':CmpOp} {g:D->D->DH->R D} (ho:OpR X (compareOp op) (lR2 X.K E f)) (ho':OpR X (compareOp op') (lR2 X.K E g)) (ha:QE X E a ta) (hb:QE X E b tb) (hc:QE X E c tc)
  (hm:lastMarks [op,op'] [b,c]=false:=by with_unfolding_all rfl):QT X E (.Compare a [op,op'] [b,c] pos) (Bg (Pz f g ta tb tc)):=
 (ZGH ho ho' ha hb hc hm).mono λσ H Q h=>Zt (λ_ _ _ z=>chain z) σ H Q (Wf h)
theorem Jr (ha:QE X E a ta) (he:∀whole,isTrue a X.env whole=(do let v<-whole;standAt a.pos;holding [v] (truthy v)):=by intro _;rfl):QT X E a (Bg ta):=
 (ZGX ha he).mono λσ H Q h=>Wf h
theorem Fd (ha:QE X E a ta):QE X E a (Ej ta):=L2.PE.mono ha λσ H Q h=>by obtain ⟨w,S,G,hk,rfl,s,r,h⟩:=h;exact ⟨w,S,G,hk,rfl,s,r,ZAy s h⟩
def QW (X:Cx) (E:XK) (e:Expr) (t:DB):Prop:=PW X e (lB X.K E t)
theorem _root_.L2.PW.mono {t t':TT} (h:PW X e t) (w:∀σ H Q,t' σ H Q->t σ H Q):PW X e t':=λwh pins s σ H Q I q=>h wh pins s σ H Q I (w σ H Q q)
variable {u t:DB} {rest:List Expr}
theorem ZEb {Q:Bool->Hp->Prop} (h:lB K E (Li t u) σ H Q):tAnd (lB K E t) (lB K E u) σ H Q:=by
 obtain ⟨a,S,G,hk,rfl,s,r,h⟩:=h;refine ⟨a,S,G,hk,rfl,s,r,(Tn h).imp ?_⟩;rintro k _ ⟨b,G1,rfl,x,s1,_,h1⟩;cases k with
 | true=>exact ⟨b,S,G1,x.k.trans hk,rfl,s1,r.mono x,h1⟩
 | false=>exact h1 b (Ext.refl b) s1
theorem ZF0 {Q:Bool->Hp->Prop} (h:lB K E (dOr t u) σ H Q):tOr (lB K E t) (lB K E u) σ H Q:=by
 obtain ⟨a,S,G,hk,rfl,s,r,h⟩:=h;refine ⟨a,S,G,hk,rfl,s,r,(Tn h).imp ?_⟩;rintro k _ ⟨b,G1,rfl,x,s1,_,h1⟩;cases k with
 | true=>exact h1 b (Ext.refl b) s1
 | false=>exact ⟨b,S,G1,x.k.trans hk,rfl,s1,r.mono x,h1⟩
theorem Vn (ha:QT X E a t):QW X E (.BoolOp .And [a] pos) t:=ZFr ha
theorem ZBA (ha:QT X E a t):QW X E (.BoolOp .Or [a] pos) t:=ZCY ha
theorem Wb (ha:QT X E a t) (hb:QW X E (.BoolOp .And (b::rest) pos) u):QW X E (.BoolOp .And (a::b::rest) pos) (Li t u):=(ZDF ha hb).mono λ_ _ _ h=>ZEb h
theorem Z6 (ha:QT X E a t) (hb:QW X E (.BoolOp .Or (b::rest) pos) u):QW X E (.BoolOp .Or (a::b::rest) pos) (dOr t u):=(ZFv ha hb).mono λ_ _ _ h=>ZF0 h
theorem N6 (h:QW X E a t):QT X E a t:=L2.PW.pt h
theorem Yu (ha:QT X E a t):QT X E (.UnaryOp .Not a pos) (Q5 t):=(ZDN ha).mono λσ H Q h=>by obtain ⟨a,S,G,hk,rfl,s,r,h⟩:=h;refine ⟨a,S,G,hk,rfl,s,r,(Tn h).imp ?_⟩;rintro k _ ⟨b,G1,rfl,x,s1,_,h1⟩;exact h1 b (Ext.refl b) s1
theorem Oe {op} (h:QE X E a ta):QE X E (.BoolOp op [a] pos) ta:=ZGO h
theorem Nb (ha:QE X E a ta) (hb:QE X E (.BoolOp .And (b::rest) pos) tb):QE X E (.BoolOp .And (a::b::rest) pos) (J6 ta tb):=(ZE8 ha hb).mono λσ H Q h=>by
 obtain ⟨a,S,G,hk,rfl,s,r,h⟩:=h;refine ⟨a,S,G,hk,rfl,s,r,(Gh h).imp ?_⟩;rintro v _ ⟨b,d,G1,rfl,x,s1,q,_,h1⟩;cases d with
 | bl k=>
  refine ⟨k,q,?_⟩;cases k with
  | true=>exact ⟨b,S,G1,x.k.trans hk,rfl,s1,r.mono x,h1⟩
  | false=>exact h1 b _ (Ext.refl b) s1 rfl
 | _=>exact h1.elim
theorem ZDK (ha:QE X E a ta) (hb:QE X E (.BoolOp .Or (b::rest) pos) tb):QE X E (.BoolOp .Or (a::b::rest) pos) (Uv ta tb):=(ZB7 ha hb).mono λσ H Q h=>by
 obtain ⟨a,S,G,hk,rfl,s,r,h⟩:=h;refine ⟨a,S,G,hk,rfl,s,r,(Gh h).imp ?_⟩;rintro v _ ⟨b,d,G1,rfl,x,s1,q,_,h1⟩;cases d with
 | bl k=>
  refine ⟨k,q,?_⟩;cases k with
  | false=>exact ⟨b,S,G1,x.k.trans hk,rfl,s1,r.mono x,h1⟩
  | true=>exact h1 b _ (Ext.refl b) s1 rfl
 | _=>exact h1.elim
variable {es:List Expr} {tr:DA}
theorem Ag:QA X E [] Af:=ZC6.mono λσ H Q h=>by obtain ⟨a,S,G,hk,rfl,s,r,h⟩:=h;exact h a [] (Ext.refl a) s rfl
def notStar:Expr->Bool
 | .Starred _ _=>false
 | _=>true
theorem Nm (a:Expr) (es:List Expr) (env:Env) (h:notStar a=true):starEach (a::es) env=(false,eval a env)::starEach es env:=by
 cases a <;> first
  | exact absurd h Bool.false_ne_true
  | rfl
theorem Qd (pos:Pos) (env:Env):∀es:List Expr,es.all notStar=true->(backTo pos (starEach es env)).any (·.1)=false
 | [],_=>rfl
 | a::es,h=>by
  rw [List.all_cons,Bool.and_eq_true] at h;rw [Nm a es env h.1];have ih:=Qd pos env es h.2;unfold backTo at ih ⊢;rw [List.map_cons,List.any_cons,ih]
  rfl
theorem Ac (ha:QE X E a ta) (hr:QA X E es tr) (hs:notStar a=true:=by rfl):QA X E (a::es) (Ab ta tr):=(ZCe ha hr (Nm a es X.env hs)).mono λσ H Q h=>by obtain ⟨a,S,G,hk,rfl,s,r,h⟩:=h;refine ⟨a,S,G,hk,rfl,s,r,(ZGA h).imp ?_⟩;rintro v _ ⟨b,d,G1,rfl,x,s1,q,_,h1⟩;refine ⟨b,S,G1,x.k.trans hk,rfl,s1,r.mono x,(ZEI h1).imp ?_⟩;rintro vs _ ⟨c,ds,G2,rfl,y,s2,q2,_,h2⟩;exact h2 c _ (Ext.refl c) s2 (Reps.cons (q.mono y) q2)
theorem Fw {x1} (h:QA X E es tr):QE X E (.Tuple es x1 pos) (dFn By tr):=(ZC0 h).mono λσ H Q h=>by
 obtain ⟨a,S,G,hk,rfl,s,r,h⟩:=h;refine ⟨a,S,G,hk,rfl,s,r,(Ox h).imp ?_⟩;rintro vs _ ⟨b,ds,G1,rfl,x,s1,q,_,h1⟩;unfold By at h1;split at h1
 ·rename_i hl;refine ⟨by rw [<-q.length];exact Nat.le_trans hl size6,λp hp=> ?_⟩;exact h1 (b.put p (.tup vs)) (.ref p) (Ext.put hp) (s1.put hp) ⟨p,vs,rfl,.of Ff,q.mono (Ext.put hp)⟩
 ·exact h1.elim
theorem Dl (h:QA X E es tr):QE X E (.List es pos) (dFn An tr):=(ZGS h).mono λσ H Q h=>by
 obtain ⟨a,S,G,hk,rfl,s,r,h⟩:=h;refine ⟨a,S,G,hk,rfl,s,r,(Ox h).imp ?_⟩;rintro vs _ ⟨b,ds,G1,rfl,x,s1,q,_,h1⟩;unfold An at h1;split at h1
 ·rename_i hl;refine ⟨by rw [<-q.length];exact Nat.le_trans hl size6,λp hp=> ?_⟩;refine h1 (b.push p (.lst vs)) (.ref p) (Ext.push hp) (s1.push hp ⟨vs,rfl,q.mono (Ext.push hp)⟩) ⟨?_,?_⟩
  ·rw [s1.len];exact Nat.lt_succ_self _
  ·rw [s1.len];show V.ref p=.ref (if b.n=b.n then p else b.m b.n);rw [if_pos rfl]
 ·exact h1.elim
variable {e:Expr} {x:Str} {p:Pos}
theorem V7 {f:List D->DH->R D} (h:lE K E (dFn f tr) σ H Q):lA K E tr σ H (λvs H1=>lRn K E f vs H1 Q):=by obtain ⟨a,S,G,hk,rfl,s,r,h⟩:=h;refine ⟨a,S,G,hk,rfl,s,r,(Ox h).imp ?_⟩;rintro vs _ ⟨b,ds,G1,rfl,x,s1,q,_,h1⟩;exact ⟨b,G1,ds,x.k.trans hk,rfl,s1,q,h1⟩
theorem Bq {id:String} {f:List D->DH->R D} (hc:CallR X (.builtin id) (lRn X.K E f)) (hg:Gl X x) (hm:X.mg x=none) (hv:bootBuiltins x=some (.builtin id)) (ha:QA X E (e::es) tr) (hn:x≠"__name__":=by decide) (hdb:(x == ("__debug__":Str))=false:=by decide)
  (he:notStar e=true:=by rfl) (hpl:es.all notStar=true:=by rfl):QE X E (.Call (.Name x p) (e::es) [] pos) (dFn f tr):=
 (ZCR hc hg hm hv ha hn hdb (Nm e es X.env he) (Qd pos X.env es hpl)).mono λσ H Q h=>V7 h
theorem Dj {id:String} {f:List D->DH->R D} (hc:CallR X (.type id) (lRn X.K E f)) (hg:Gl X x) (hm:X.mg x=none) (hv:bootBuiltins x=some (.type id)) (ha:QA X E (e::es) tr) (hn:x≠"__name__":=by decide) (hdb:(x == ("__debug__":Str))=false:=by decide)
  (he:notStar e=true:=by rfl) (hpl:es.all notStar=true:=by rfl):QE X E (.Call (.Name x p) (e::es) [] pos) (dFn f tr):=
 (ZF1 hc hg hm hv ha hn hdb (Nm e es X.env he) (Qd pos X.env es hpl)).mono λσ H Q h=>V7 h
theorem Ax {CX:CXT} {f:Addr} {fd:FuncData} {ps:List Str} {F:List D->DH->R D} (FF:FnOk X.prog X.w X.K X.mg X.base CX k f fd ps (lF X.K F)) (hr:Room k X.A) (hg:Gl X x) (hm:X.mg x=some (.ref f)) (hk:PySem.W.keepIn X.K (.ref f)=true) (hb:Binds X.K fd ps [])
  (hx:Passes CX X E) (ha:QA X E (e::es) tr) (hdb:(x == ("__debug__":Str))=false:=by decide) (he:notStar e=true:=by rfl) (hpl:es.all notStar=true:=by rfl):
  QE X E (.Call (.Name x p) (e::es) [] pos) (dFn F tr):=
 (ZDA FF hr hg hm hk hb .nil hx ha hdb (Nm e es X.env he) (Qd pos X.env es hpl)).mono λσ H Q h=>by obtain ⟨a,S,G,hk,rfl,s,r,h⟩:=V7 h;refine ⟨a,S,G,hk,rfl,s,r,h.imp ?_⟩;rintro vs _ ⟨b,G1,ds,hk,rfl,s1,q,h1⟩;exact ⟨b,G1,ds,hk,rfl,s1,by rw [List.append_nil];exact q,h1⟩
theorem Ao (hr:IxR X (lR2 X.K E f)) (ha:QE X E a ta) (hb:QE X E b tb) (hs:PlainIx b:=by intro _ _;rfl):QE X E (.Subscript a b pos) (dOp f ta tb):=
 (ZDU hr ha hb hs).mono λ_ _ _ h=>two h
end
instance (i j:Int):Decidable (CMul i j):=by unfold CMul;infer_instance
instance (i j:Int):Decidable (CPow i j):=by unfold CPow;infer_instance
def CDivL (j:Int):Prop:=0 < j/\j.natAbs.log2 < 9000
instance (j:Int):Decidable (CDivL j):=by unfold CDivL;infer_instance
def Fp:D->D->DH->R D
 | .int i,.int j,G=>.ok (.int (i - j)) G
 | _,_,_=>.bad
def Br:D->D->DH->R D
 | .int i,.int j,G=>if CDivL j then .ok (.int (i / j)) G else .bad
 | _,_,_=>.bad
def Az:D->D->DH->R D
 | .int i,.int j,G=>if 0 < j then .ok (.int (i % j)) G else .bad
 | _,_,_=>.bad
def Hf:D->D->DH->R D
 | .int i,.int j,G=>if CPow i j then .ok (.int (i ^ j.toNat)) G else .bad
 | _,_,_=>.bad
def Gk:D->D->DH->R D
 | .int i,.int j,G=>.ok (.bl (decide (i < j))) G
 | .str i,.str j,G=>.ok (.bl (decide (i.cps.toList < j.cps.toList))) G
 | _,_,_=>.bad
def Q7:D->D->DH->R D
 | .int i,.int j,G=>.ok (.bl (decide (i<=j))) G
 | .str i,.str j,G=>.ok (.bl (!decide (j.cps.toList < i.cps.toList))) G
 | _,_,_=>.bad
def Hr:D->D->DH->R D
 | .int i,.int j,G=>.ok (.bl (decide (j < i))) G
 | .str i,.str j,G=>.ok (.bl (decide (j.cps.toList < i.cps.toList))) G
 | _,_,_=>.bad
def Um:D->D->DH->R D
 | .int i,.int j,G=>.ok (.bl (decide (j<=i))) G
 | .str i,.str j,G=>.ok (.bl (!decide (i.cps.toList < j.cps.toList))) G
 | _,_,_=>.bad
def Hk (d:D) (G:DH):Option (List D):=match d with
 | .fl xs=>some xs
 | .ref i=>match G[i]? with
  | some (.lst xs)=>some xs
  | _=>none
 | _=>none
def Am:D->D->DH->R D
 | .int i,.int j,G=>.ok (.int (i + j)) G
 | .str i,.str j,G=>if i.length + j.length<=1000000 then .ok (.str (i++j)) G else .bad
 | .tup xs,.tup ys,G=>if xs≠ []/\xs.length + ys.length<=1000000 then .ok (.tup (xs++ys)) G else .bad
 | d,e,G=>match Hk d G,Hk e G with
  | some xs,some ys=>if xs.length + ys.length<=1000000 then .ok (.ref G.length) (G++ [.lst (xs++ys)]) else .bad
  | _,_=>.bad
section
variable {X:Cx} {E:XK}
theorem Gs {f:Value->Value->Sem Value} {r:R2} {F:D->D->DH->R D} (ho:OpR X f r)
  (h:∀(a:Wd) (G:DH) (d e:D) (x y:V) (Q:VK),a.K=X.K->Sim a G->Rep a d x->Rep a e y->out E a (F d e G) Q->r x y a.H Q):OpR X f (lR2 X.K E F):=
 ho.mono λx y H Q ⟨a,G,d,e,hk,hH,s,rd,re,q⟩=>by subst hH;exact h a G d e x y Q hk s rd re q
theorem Ge:OpR X (binaryOp .Sub) (lR2 X.K E Fp):=Gs ZD4 λa G d e x y Q hk s rd re q=>by
 cases d <;> cases e <;> first
  | exact q.elim
  | exact ⟨_,_,rd,re,q a _ (Ext.refl a) s rfl⟩
theorem ZGG:OpR X (binaryOp .FloorDiv) (rI (λ_ j=>CDivL j) λi j=>.int (i / j)):=opI λi j _ _ _ _ _ hc q=>by have e:i.fdiv j=i / j:=Int.fdiv_eq_ediv_of_nonneg _ (Int.le_of_lt hc.1);refine floordiv_int (by have:=hc.1;omega) (by rw [e];exact q) (.inl (PyProof.noPylong_of_log2 hc.2))
theorem Cd:OpR X (binaryOp .FloorDiv) (lR2 X.K E Br):=Gs ZGG λa G d e x y Q hk s rd re q=>by
 cases d <;> cases e <;> first
  | exact q.elim
  | (
    rename_i i j;unfold Br at q;dsimp only at q;split at q
    ·exact ⟨_,_,rd,re,by assumption,q a _ (Ext.refl a) s rfl⟩
    ·exact q.elim)
theorem Ba:OpR X (binaryOp .Mod) (lR2 X.K E Az):=Gs ZEF λa G d e x y Q hk s rd re q=>by
 cases d <;> cases e <;> first
  | exact q.elim
  | (
    rename_i i j;unfold Az at q;dsimp only at q;split at q
    ·exact ⟨_,_,rd,re,by assumption,q a _ (Ext.refl a) s rfl⟩
    ·exact q.elim)
theorem Lk:OpR X (binaryOp .Pow) (lR2 X.K E Hf):=Gs ZES λa G d e x y Q hk s rd re q=>by
 cases d <;> cases e <;> first
  | exact q.elim
  | (
    rename_i i j;unfold Hf at q;dsimp only at q;split at q
    ·exact ⟨_,_,rd,re,by assumption,q a _ (Ext.refl a) s rfl⟩
    ·exact q.elim)
theorem Hc:OpR X (compareOp .Lt) (lR2 X.K E Gk):=Gs (ZEx.or ZGU) λa G d e x y Q hk s rd re q=>by
 cases d <;> cases e <;> first
  | exact q.elim
  | exact .inl ⟨_,_,rd,re,q a _ (Ext.refl a) s rfl⟩
  | exact .inr ⟨_,_,rd,re,q a _ (Ext.refl a) s rfl⟩
theorem ZEK:OpR X (compareOp .LtE) (λx y H Q=>∃i j,x=.str i/\y=.str j/\Q (.bl (!decide (j.cps.toList < i.cps.toList))) H):=by intro pins s σ H x y v u Q I rx ry h;obtain ⟨i,j,rfl,rfl,q⟩:=h;obtain ⟨t,rfl⟩:=rx;obtain ⟨t',rfl⟩:=ry;exact PySem.P.le_str ⟨.bl _,H,I,rfl,q⟩
theorem ZCm:OpR X (compareOp .Gt) (λx y H Q=>∃i j,x=.str i/\y=.str j/\Q (.bl (decide (j.cps.toList < i.cps.toList))) H):=by intro pins s σ H x y v u Q I rx ry h;obtain ⟨i,j,rfl,rfl,q⟩:=h;obtain ⟨t,rfl⟩:=rx;obtain ⟨t',rfl⟩:=ry;exact PySem.P.gt_str ⟨.bl _,H,I,rfl,q⟩
theorem ZGP:OpR X (compareOp .GtE) (λx y H Q=>∃i j,x=.str i/\y=.str j/\Q (.bl (!decide (i.cps.toList < j.cps.toList))) H):=by intro pins s σ H x y v u Q I rx ry h;obtain ⟨i,j,rfl,rfl,q⟩:=h;obtain ⟨t,rfl⟩:=rx;obtain ⟨t',rfl⟩:=ry;exact PySem.P.ge_str ⟨.bl _,H,I,rfl,q⟩
theorem o_le:OpR X (compareOp .LtE) (lR2 X.K E Q7):=Gs (ZF8.or ZEK) λa G d e x y Q hk s rd re q=>by
 cases d <;> cases e <;> first
  | exact q.elim
  | exact .inl ⟨_,_,rd,re,q a _ (Ext.refl a) s rfl⟩
  | exact .inr ⟨_,_,rd,re,q a _ (Ext.refl a) s rfl⟩
theorem Iw:OpR X (compareOp .Gt) (lR2 X.K E Hr):=Gs (ZCk.or ZCm) λa G d e x y Q hk s rd re q=>by
 cases d <;> cases e <;> first
  | exact q.elim
  | exact .inl ⟨_,_,rd,re,q a _ (Ext.refl a) s rfl⟩
  | exact .inr ⟨_,_,rd,re,q a _ (Ext.refl a) s rfl⟩
theorem o_ge:OpR X (compareOp .GtE) (lR2 X.K E Um):=Gs (ZE6.or ZGP) λa G d e x y Q hk s rd re q=>by
 cases d <;> cases e <;> first
  | exact q.elim
  | exact .inl ⟨_,_,rd,re,q a _ (Ext.refl a) s rfl⟩
  | exact .inr ⟨_,_,rd,re,q a _ (Ext.refl a) s rfl⟩
theorem Sim.lst (s:Sim a G) (h:G[i]? =some (.lst xs)):∃vs,a.H (a.m i)=some (.lst vs)/\Reps a xs vs:=s.obj i _ h
theorem Oh (s:Sim a G) (r:Reps a ds vs) (h:out E a (.ok (.ref G.length) (G++ [.lst ds])) Q) (p:Addr) (hp:a.H p=none):Q (.ref p) (upd a.H p (.lst vs)):=by
 refine h (a.push p (.lst vs)) (.ref p) (Ext.push hp) (s.push hp ⟨vs,rfl,r.mono (Ext.push hp)⟩) ⟨?_,?_⟩
 ·rw [s.len];exact Nat.lt_succ_self _
 ·rw [s.len];show V.ref p=.ref (if a.n=a.n then p else a.m a.n);rw [if_pos rfl]
theorem U5 (s:Sim a G) (r:Reps a ds vs) (h:out E a (.ok (.tup ds) G) Q) (p:Addr) (hp:a.H p=none):Q (.ref p) (upd a.H p (.tup vs)):=
 h (a.put p (.tup vs)) (.ref p) (Ext.put hp) (s.put hp) ⟨p,vs,rfl,.of Ff,r.mono (Ext.put hp)⟩
theorem W9 {x:V} (s:Sim a G) (r:Rep a d x) (h:Hk d G=some xs):∃p vs,x=.ref p/\SqL a.K a.H p vs/\Reps a xs vs:=by
 cases d with
 | fl ys=>
  have e:ys=xs:=Option.some.inj h;subst e;obtain ⟨p,vs,e,q,rr⟩:=r;exact ⟨p,vs,e,q.sq,rr⟩
 | ref i=>
  unfold Hk at h;dsimp only at h;split at h
  ·rename_i ys hi;have e:ys=xs:=Option.some.inj h;subst e;obtain ⟨vs,e1,r1⟩:=s.lst hi;exact ⟨a.m i,vs,r.2,.of e1,r1⟩
  ·cases h
 | _=>cases h
def ZBW (K:PySem.W.Frag):R2:=λx y H Q=>∃l b xs zs,x=.ref l/\y=.ref b/\SqL K H l xs/\SqL K H b zs/\xs.length + zs.length<=sizeLine/\∀p,H p=none->Q (.ref p) (upd H p (.lst (xs++zs)))
theorem ZCw:OpR X (binaryOp .Add) (ZBW X.K):=by
 intro pins s σ H x y v u Q I rx ry h;obtain ⟨l,b,xs,zs,rfl,rfl,hH,hB,hz,q⟩:=h;cases rx;cases ry;obtain ⟨its,r,p1,_⟩:=I.list hH;obtain ⟨its2,r2,p2,_⟩:=I.list hB;obtain ⟨⟨cls,dd,data,sl⟩,n,ho,hc,_,hd⟩:=p1;obtain ⟨⟨cls2,dd2,data2,sl2⟩,n2,ho2,hc2,_,hd2⟩:=p2;cases hc;cases hd;cases hc2;cases hd2;have hl:=r.length;have hl2:=r2.length;refine concat_meets ⟨_,ho,rfl⟩ ⟨_,ho2,rfl⟩ noFill_list_add seq_list_add PySem.F.slot_list_add PySem.F.entry_list_add (PySem.F.args_list_add_2 _ _) (list_addW l b its.toArray its2.toArray n n2 dd dd2 sl sl2 (by rw [List.size_toArray,List.size_toArray];omega)) ⟨ho,ho2,?_⟩
 have ea:its.toArray++its2.toArray=(its++its2).toArray:=by simp
 rw [ea];exact ⟨.ref _,_,I.lnew (t':=s.toks) (r.append r2) (by rw [List.length_append];omega),rfl,q _ I.fresh⟩
theorem Aw:OpR X (binaryOp .Add) (lR2 X.K E Am):=Gs (ZDc.or (ZDp.or (ZCw.or ZBs))) λa G d e x y Q hk s rd re q=>by
 have lst:out E a (match Hk d G,Hk e G with
  | some xs,some ys=>if xs.length + ys.length<=1000000 then .ok (.ref G.length) (G++ [.lst (xs++ys)]) else .bad
  | _,_=>.bad) Q->ZBW X.K x y a.H Q:=λq=>by
  split at q
  ·rename_i xs ys h1 h2;split at q
   ·rename_i hl;obtain ⟨p,vs,e1,q1,r1⟩:=W9 s rd h1;obtain ⟨p',vs',e2,q2,r2⟩:=W9 s re h2;rw [hk] at q1 q2;exact ⟨p,p',vs,vs',e1,e2,q1,q2,by rw [<-r1.length,<-r2.length];exact Nat.le_trans hl size6,λp hp=>Oh s (r1.append r2) q p hp⟩
   ·exact q.elim
  ·exact q.elim
 have L:=λq=>Or.inr (a:=rI0 (λi j=>V.int (i + j)) x y a.H Q) (Or.inr (a:=∃i j,x=.str i/\y=.str j/\i.length + j.length<=sizeLine/\Q (.str (i++j)) a.H) (Or.inl (b:=ZAE X.K x y a.H Q) (lst q)))
 cases d <;> cases e <;> first
  | exact .inl ⟨_,_,rd,re,q a _ (Ext.refl a) s rfl⟩
  | exact L q
  | skip
 ·rename_i i j;unfold Am at q;dsimp only at q;split at q
  ·rename_i hl;exact .inr (.inl ⟨_,_,rd,re,Nat.le_trans hl size6,q a _ (Ext.refl a) s rfl⟩)
  ·exact q.elim
 ·rename_i xs ys;unfold Am at q;dsimp only at q;split at q
  ·rename_i hl;obtain ⟨p,vs,e1,h1,r1⟩:=rd;obtain ⟨p',vs',e2,h2,r2⟩:=re;rw [hk] at h1 h2;refine .inr (.inr (.inr ⟨p,p',vs,vs',e1,e2,h1,h2,λz=>hl.1 (List.eq_nil_of_length_eq_zero (by rw [r1.length,z];rfl)),by rw [<-r1.length,<-r2.length];exact Nat.le_trans hl.2 size6,λz=> ?_,λ_ p0 hp=> ?_⟩))
   ·refine q a (.ref p) (Ext.refl a) s ⟨p,vs,rfl,by rw [hk];exact h1,?_⟩;have e3:ys= []:=List.eq_nil_of_length_eq_zero (by rw [r2.length,z];rfl);rw [e3,List.append_nil];exact r1
   ·exact U5 s (r1.append r2) q p0 hp
  ·exact q.elim
inductive VD where
 | flat (v:V)
 | lst (xs:List D)
 | tup (xs:List D)
 | bad
def view (G:DH):D->VD
 | .non=>.flat .non
 | .bl b=>.flat (.bl b)
 | .int i=>.flat (.int i)
 | .str x=>.flat (.str x)
 | .ty _=>.bad
 | .tup xs=>.tup xs
 | .fl xs=>.lst xs
 | .ref i=>match G[i]? with
  | some (.lst xs)=>.lst xs
  | _=>.bad
def eqZ (f:D->D->Option Bool):List D->List D->Option Bool
 | x::xs,y::ys=>match f x y,eqZ f xs ys with
  | some a,some b=>some (a && b)
  | _,_=>none
 | _,_=>some true
def eqD:Nat->DH->D->D->Option Bool
 | 0=>λ_ _ _=>none
 | n + 1=>λG d e=>match view G d,view G e with
  | .flat a,.flat b=>some (eqV a b)
  | .lst xs,.lst ys=>if xs.length=ys.length then eqZ (eqD n G) xs ys else some false
  | .tup xs,.tup ys=>match eqZ (eqD n G) xs ys with
   | some b=>some (b && xs.length == ys.length)
   | none=>none
  | .bad,_=>none
  | _,.bad=>none
  | _,_=>some false
theorem Q0 {f:D->D->Option Bool}:∀{xs ys:List D} {k:Bool},eqZ f xs ys=some k->∃e:Nat->Bool,(∀(j:Nat) (x y:D),xs[j]? =some x->ys[j]? =some y->f x y=some (e j))/\k=(List.range (min xs.length ys.length)).all e
 | [],ys,k,h=>⟨λ_=>true,λj x y e1 _=>by simp at e1,by
   have h':some true=some k:=by cases ys <;> exact h
   cases h';simp⟩
 | x::xs,[],k,h=>⟨λ_=>true,λj x y _ e1=>by simp at e1,by have h':some true=some k:=h;cases h';simp⟩
 | x::xs,y::ys,k,h=>by
  unfold eqZ at h;split at h
  ·rename_i a b h1 h2;obtain ⟨e,he,hk⟩:=Q0 h2;have h':(a && b)=k:=Option.some.inj h
   refine ⟨λj=>match j with | 0=>a | j + 1=>e j,λj x' y' e1 e2=> ?_,?_⟩
   ·cases j with
    | zero=>simp at e1 e2;subst e1;subst e2;exact h1
    | succ j=>exact he j x' y' (by simpa using e1) (by simpa using e2)
   ·rw [<-h',hk];have:min (x::xs).length (y::ys).length=min xs.length ys.length + 1:=by simp only [List.length_cons];omega
    rw [this,List.range_succ_eq_map,List.all_cons,List.all_map]
    rfl
  ·cases h
theorem T7 (s:Sim a G) {x:V} (r:Rep a d x):match view G d with
  | .flat v=>x=v/\Ig v=true
  | .lst xs=>∃p vs,x=.ref p/\SqL a.K a.H p vs/\Reps a xs vs
  | .tup xs=>∃p vs,x=.ref p/\SqT a.K a.H p vs/\Reps a xs vs
  | .bad=>True:=by
 cases d with
 | non=>exact ⟨r,rfl⟩
 | bl b=>exact ⟨r,rfl⟩
 | int b=>exact ⟨r,rfl⟩
 | str b=>exact ⟨r,rfl⟩
 | ty n=>trivial
 | tup xs=>
  obtain ⟨p,vs,e,h,q⟩:=r;exact ⟨p,vs,e,h,q⟩
 | fl xs=>
  obtain ⟨p,vs,e,h,q⟩:=r;exact ⟨p,vs,e,h.sq,q⟩
 | ref i=>
  unfold view;dsimp only;split
  ·rename_i v hv
   split at hv <;> cases hv
  ·rename_i xs hv;split at hv
   ·rename_i ys hi;cases hv;obtain ⟨vs,e1,r1⟩:=s.lst hi;exact ⟨a.m i,vs,r.2,.of e1,r1⟩
   ·cases hv
  ·rename_i xs hv
   split at hv <;> cases hv
  ·trivial
theorem ZGq {y x:V} {u v:Value} (ry:RelV y u) (rx:RelV x v) (fy:Ig y=true) (fx:Ig x=true):SeqAt.RcAt A s u v (eqV y x):=by
 cases y with
 | non=>
  cases ry;cases x with
  | non=>cases rx;exact SeqAt.RcAt.none_none
  | bl b=>cases rx;exact SeqAt.RcAt.none_bool b
  | int b=>obtain ⟨t,rfl⟩:=rx;exact SeqAt.RcAt.none_int b t
  | str b=>obtain ⟨t,rfl⟩:=rx;exact SeqAt.RcAt.none_str b t
  | _=>exact absurd (show false=true from fx) Bool.false_ne_true
 | bl a=>
  cases ry;cases x with
  | non=>cases rx;exact SeqAt.RcAt.bool_none a
  | bl b=>cases rx;exact SeqAt.RcAt.bool_bool a b
  | int b=>obtain ⟨t,rfl⟩:=rx;exact SeqAt.RcAt.bool_int a b t
  | str b=>obtain ⟨t,rfl⟩:=rx;exact SeqAt.RcAt.bool_str a b t
  | _=>exact absurd (show false=true from fx) Bool.false_ne_true
 | int a=>
  obtain ⟨t',rfl⟩:=ry;cases x with
  | non=>cases rx;exact SeqAt.RcAt.int_none a t'
  | bl b=>cases rx;exact SeqAt.RcAt.int_bool a t' b
  | int b=>obtain ⟨t,rfl⟩:=rx;exact SeqAt.RcAt.int_int a t' b t
  | str b=>obtain ⟨t,rfl⟩:=rx;exact SeqAt.RcAt.int_str a t' b t
  | _=>exact absurd (show false=true from fx) Bool.false_ne_true
 | str a=>
  obtain ⟨t',rfl⟩:=ry;cases x with
  | non=>cases rx;exact SeqAt.RcAt.str_none a t'
  | bl b=>cases rx;exact SeqAt.RcAt.str_bool a t' b
  | int b=>obtain ⟨t,rfl⟩:=rx;exact SeqAt.RcAt.str_int a t' b t
  | str b=>obtain ⟨t,rfl⟩:=rx;exact SeqAt.RcAt.str_str a t' b t
  | _=>exact absurd (show false=true from fx) Bool.false_ne_true
 | _=>exact absurd (show false=true from fy) Bool.false_ne_true
theorem ZEv {y x:V} {u v:Value} (ry:RelV y u) (rx:RelV x v) (fy:Ig y=true) (fx:Ig x=true):SeqAt.RcNeAt A s u v (!eqV y x):=by
 cases y with
 | non=>
  cases ry;cases x with
  | non=>cases rx;exact SeqAt.RcNeAt.none_none
  | bl b=>cases rx;exact SeqAt.RcNeAt.none_bool b
  | int b=>obtain ⟨t,rfl⟩:=rx;exact SeqAt.RcNeAt.none_int b t
  | str b=>obtain ⟨t,rfl⟩:=rx;exact SeqAt.RcNeAt.none_str b t
  | _=>exact absurd (show false=true from fx) Bool.false_ne_true
 | bl a=>
  cases ry;cases x with
  | non=>cases rx;exact SeqAt.RcNeAt.bool_none a
  | bl b=>cases rx;exact SeqAt.RcNeAt.bool_bool a b
  | int b=>obtain ⟨t,rfl⟩:=rx;exact SeqAt.RcNeAt.bool_int a b t
  | str b=>obtain ⟨t,rfl⟩:=rx;exact SeqAt.RcNeAt.bool_str a b t
  | _=>exact absurd (show false=true from fx) Bool.false_ne_true
 | int a=>
  obtain ⟨t',rfl⟩:=ry;cases x with
  | non=>cases rx;exact SeqAt.RcNeAt.int_none a t'
  | bl b=>cases rx;exact SeqAt.RcNeAt.int_bool a t' b
  | int b=>obtain ⟨t,rfl⟩:=rx;exact SeqAt.RcNeAt.int_int a t' b t
  | str b=>obtain ⟨t,rfl⟩:=rx;exact SeqAt.RcNeAt.int_str a t' b t
  | _=>exact absurd (show false=true from fx) Bool.false_ne_true
 | str a=>
  obtain ⟨t',rfl⟩:=ry;cases x with
  | non=>cases rx;exact SeqAt.RcNeAt.str_none a t'
  | bl b=>cases rx;exact SeqAt.RcNeAt.str_bool a t' b
  | int b=>obtain ⟨t,rfl⟩:=rx;exact SeqAt.RcNeAt.str_int a t' b t
  | str b=>obtain ⟨t,rfl⟩:=rx;exact SeqAt.RcNeAt.str_str a t' b t
  | _=>exact absurd (show false=true from fx) Bool.false_ne_true
 | _=>exact absurd (show false=true from fy) Bool.false_ne_true
end
section
variable {X:Cx} {E:XK} {pins:List (Addr×Obj)} {σ:St} {s:Shared}
theorem ZD1 (v:V) (h:Ig v=true):eqV v v=true:=by cases v <;> first | rfl | exact absurd (show false=true from h) Bool.false_ne_true | (simp [eqV])
theorem ZBX (I:Inv X pins σ a.H s) (hk:a.K=X.K) (sm:Sim a G):∀(n:Nat) {d e:D} {x:V} {k:Bool},Rep a d x->Rep a e x->eqD n G d e=some k->k=true
 | 0,_,_,_,_,_,_,h=>by cases h
 | n + 1,d,e,x,k,rd,re,h=>by
  have vd:=T7 sm rd;have ve:=T7 sm re;have items:∀{xs ys:List D} {vs:List V} {b:Bool},Reps a xs vs->Reps a ys vs->eqZ (eqD n G) xs ys=some b->b=true:=λ{xs ys vs b} r1 r2 hz=>by obtain ⟨f,hf,hb⟩:=Q0 hz;rw [hb,List.all_eq_true];intro j hj;have hj':j < min xs.length ys.length:=List.mem_range.mp hj;have h1:xs[j]? =some (xs[j]'(by omega)):=List.getElem?_eq_getElem (by omega);have h2:ys[j]? =some (ys[j]'(by omega)):=List.getElem?_eq_getElem (by omega);obtain ⟨v1,e1,q1⟩:=r1.get h1;obtain ⟨v2,e2,q2⟩:=r2.get h2;rw [e1] at e2;cases e2;exact ZBX I hk sm n q1 q2 (hf j _ _ h1 h2)
  unfold eqD at h
  try dsimp only at h
  revert h vd ve
  cases view G d <;> cases view G e <;> intro vd ve h <;> dsimp only at h vd ve <;> first
   | cases h
   | skip
  ·
   rename_i v w;obtain ⟨rfl,f1⟩:=vd;obtain ⟨rfl,f2⟩:=ve;exact ZD1 _ f1
  ·obtain ⟨rfl,f1⟩:=vd;obtain ⟨p,vs,e1,_⟩:=ve;subst e1;cases f1
  ·obtain ⟨rfl,f1⟩:=vd;obtain ⟨p,vs,e1,_⟩:=ve;subst e1;cases f1
  ·obtain ⟨rfl,f1⟩:=ve;obtain ⟨p,vs,e1,_⟩:=vd;subst e1;cases f1
  ·obtain ⟨p,vs,e1,h1,r1⟩:=vd;obtain ⟨p',vs',e2,h2,r2⟩:=ve;rw [e1] at e2;cases e2;rw [hk] at h1 h2;cases I.Wn h1 h2;split at h
   ·exact items r1 r2 h
   ·rename_i hl;exact absurd (r1.length.trans r2.length.symm) hl
  ·obtain ⟨p,vs,e1,h1,r1⟩:=vd;obtain ⟨p',vs',e2,h2,r2⟩:=ve;rw [e1] at e2;cases e2;rw [hk] at h1 h2;obtain ⟨_,_,pl,_⟩:=I.list h1;obtain ⟨_,_,pt,_⟩:=I.tuple h2;exact absurd rfl (SeqAt.ne_of_list_tuple pl.isList pt)
  ·obtain ⟨rfl,f1⟩:=ve;obtain ⟨p,vs,e1,_⟩:=vd;subst e1;cases f1
  ·obtain ⟨p,vs,e1,h1,r1⟩:=vd;obtain ⟨p',vs',e2,h2,r2⟩:=ve;rw [e1] at e2;cases e2;rw [hk] at h1 h2;obtain ⟨_,_,pl,_⟩:=I.list h2;obtain ⟨_,_,pt,_⟩:=I.tuple h1;exact absurd rfl (SeqAt.ne_of_list_tuple pl.isList pt)
  ·obtain ⟨p,vs,e1,h1,r1⟩:=vd;obtain ⟨p',vs',e2,h2,r2⟩:=ve;rw [e1] at e2;cases e2;rw [hk] at h1 h2;cases I.W3 h1 h2;split at h
   ·rename_i b hz;have h':(b && _)=k:=Option.some.inj h;rw [<-h',items r1 r2 hz,r1.length,r2.length];simp
   ·cases h
theorem T9 {its:List Value} (r:Reps a xs vs) (q:Vals vs its) (h:j < its.toArray.size):∃d v,xs[j]? =some d/\Rep a d v/\RelV v its.toArray[j]:=by
 have hl:j < its.length:=by simpa using h
 have h2:j < vs.length:=by rw [q.length];exact hl
 obtain ⟨v,e1⟩:∃v,vs[j]? =some v:=⟨vs[j],List.getElem?_eq_getElem h2⟩;obtain ⟨d,e2,rd⟩:=r.get' e1;obtain ⟨u,e3,ru⟩:=q.get e1;have e4:u=its.toArray[j]:=by have:its[j]? =some its[j]:=List.getElem?_eq_getElem hl;rw [this] at e3;simpa using (Option.some.inj e3).symm
 exact ⟨d,v,e2,rd,by rw [<-e4];exact ru⟩
theorem Su (I:Inv X pins σ a.H s) (hk:a.K=X.K) (sm:Sim a G):∀(n:Nat) {A:Around} {d e:D} {x y:V} {u w:Value} {k:Bool},A.units + n < cLine->Rep a d x->Rep a e y->RelV x u->RelV y w->eqD n G d e=some k->
  SeqAt.EqAt A s u w k/\SeqAt.RcAt A s u w k/\SeqAt.RcNeAt A s u w (!k)
 | 0,_,_,_,_,_,_,_,_,_,_,_,_,_,h=>by cases h
 | n + 1,A,d,e,x,y,u,w,k,hu,rd,re,ru,rw',h=>by
  have vd:=T7 sm rd;have ve:=T7 sm re;have hu1:A.units < cLine:=by omega
  have hu2:A.in1.units + n < cLine:=by show A.units + 1 + n < cLine;omega
  have same:∀{z:V},Rep a d z->Rep a e z->eqD (n + 1) G d e=some k->k=true:=λr1 r2 r3=>ZBX I hk sm (n + 1) r1 r2 r3
  have h0:=h;unfold eqD at h
  try dsimp only at h
  have refs:∀{p q:Addr} {k:Bool},(p=q->k=true)->SeqAt.RcAt A s (.ref p) (.ref q) k->SeqAt.EqAt A s (.ref p) (.ref q) k:=λ{p q k} hs hr=>by
   by_cases e:p=q
   ·rw [hs e,e];exact SeqAt.EqAt.same _
   ·exact SeqAt.EqAt.of_refs e hr
  revert h vd ve
  cases hvd:view G d <;> cases hve:view G e <;> intro vd ve h <;> dsimp only at h vd ve <;> first
   | cases h
   | skip
  ·
   obtain ⟨rfl,f1⟩:=vd;obtain ⟨rfl,f2⟩:=ve;exact ⟨ZGL ru rw' f1 f2,ZGq ru rw' f1 f2,ZEv ru rw' f1 f2⟩
  ·
   obtain ⟨rfl,f1⟩:=vd;obtain ⟨q,vs,rfl,h2,r2⟩:=ve;cases rw';rw [hk] at h2;obtain ⟨its,qv,pl,_⟩:=I.list h2;cases x with
   | non=>cases ru;exact ⟨SeqAt.EqAt.none_list pl.isList hu1,SeqAt.RcAt.none_list pl.isList hu1,SeqAt.RcNeAt.none_list pl.isList hu1⟩
   | bl b=>cases ru;exact ⟨SeqAt.EqAt.bool_list b pl.isList hu1,SeqAt.RcAt.bool_list b pl.isList hu1,SeqAt.RcNeAt.bool_list b pl.isList hu1⟩
   | int b=>obtain ⟨t,rfl⟩:=ru;exact ⟨SeqAt.EqAt.int_list b t pl.isList hu1,SeqAt.RcAt.int_list b t pl.isList hu1,SeqAt.RcNeAt.int_list b t pl.isList hu1⟩
   | str b=>obtain ⟨t,rfl⟩:=ru;exact ⟨SeqAt.EqAt.str_list b t pl.isList hu1,SeqAt.RcAt.str_list b t pl.isList hu1,SeqAt.RcNeAt.str_list b t pl.isList hu1⟩
   | _=>exact absurd (show false=true from f1) Bool.false_ne_true
  ·
   obtain ⟨rfl,f1⟩:=vd;obtain ⟨q,vs,rfl,h2,r2⟩:=ve;cases rw';rw [hk] at h2;obtain ⟨its,qv,pl,_⟩:=I.tuple h2;cases x with
   | non=>cases ru;exact ⟨SeqAt.EqAt.none_tuple pl hu1,SeqAt.RcAt.none_tuple pl hu1,SeqAt.RcNeAt.none_tuple pl hu1⟩
   | bl b=>cases ru;exact ⟨SeqAt.EqAt.bool_tuple b pl hu1,SeqAt.RcAt.bool_tuple b pl hu1,SeqAt.RcNeAt.bool_tuple b pl hu1⟩
   | int b=>obtain ⟨t,rfl⟩:=ru;exact ⟨SeqAt.EqAt.int_tuple b t pl hu1,SeqAt.RcAt.int_tuple b t pl hu1,SeqAt.RcNeAt.int_tuple b t pl hu1⟩
   | str b=>obtain ⟨t,rfl⟩:=ru;exact ⟨SeqAt.EqAt.str_tuple b t pl hu1,SeqAt.RcAt.str_tuple b t pl hu1,SeqAt.RcNeAt.str_tuple b t pl hu1⟩
   | _=>exact absurd (show false=true from f1) Bool.false_ne_true
  ·
   obtain ⟨rfl,f1⟩:=ve;obtain ⟨q,vs,rfl,h2,r2⟩:=vd;cases ru;rw [hk] at h2;obtain ⟨its,qv,pl,_⟩:=I.list h2;cases y with
   | non=>cases rw';exact ⟨SeqAt.EqAt.list_none pl.isList hu1,SeqAt.RcAt.list_none pl.isList hu1,SeqAt.RcNeAt.list_none pl.isList hu1⟩
   | bl b=>cases rw';exact ⟨SeqAt.EqAt.list_bool b pl.isList hu1,SeqAt.RcAt.list_bool b pl.isList hu1,SeqAt.RcNeAt.list_bool b pl.isList hu1⟩
   | int b=>obtain ⟨t,rfl⟩:=rw';exact ⟨SeqAt.EqAt.list_int b t pl.isList hu1,SeqAt.RcAt.list_int b t pl.isList hu1,SeqAt.RcNeAt.list_int b t pl.isList hu1⟩
   | str b=>obtain ⟨t,rfl⟩:=rw';exact ⟨SeqAt.EqAt.list_str b t pl.isList hu1,SeqAt.RcAt.list_str b t pl.isList hu1,SeqAt.RcNeAt.list_str b t pl.isList hu1⟩
   | _=>exact absurd (show false=true from f1) Bool.false_ne_true
  ·
   obtain ⟨p,vs,rfl,h1,r1⟩:=vd;obtain ⟨q,vs',rfl,h2,r2⟩:=ve;cases ru;cases rw';rw [hk] at h1 h2;obtain ⟨its,q1,p1,_⟩:=I.list h1;obtain ⟨its',q2,p2,_⟩:=I.list h2;have sz1:its.toArray.size=vs.length:=by rw [List.size_toArray];exact q1.length.symm
   have sz2:its'.toArray.size=vs'.length:=by rw [List.size_toArray];exact q2.length.symm
   split at h
   ·rename_i hl;obtain ⟨f,hf,hb⟩:=Q0 h;have hsz:its.toArray.size=its'.toArray.size:=by rw [sz1,sz2,<-r1.length,<-r2.length];exact hl
    have he:∀j (g1:j < its.toArray.size) (g2:j < its'.toArray.size),SeqAt.EqAt A.in1 s its.toArray[j] its'.toArray[j] (f j):=λj g1 g2=>by obtain ⟨d1,v1,e1,rd1,rv1⟩:=T9 r1 q1 g1;obtain ⟨d2,v2,e2,rd2,rv2⟩:=T9 r2 q2 g2;exact (Su I hk sm n hu2 rd1 rd2 rv1 rv2 (hf j d1 d2 e1 e2)).1
    have hk':k=(List.range its.toArray.size).all f:=by
     rw [hb]
     congr 2
     rw [sz1,<-r1.length,hl];omega
    have rc:SeqAt.RcAt A s (.ref p) (.ref q) k:=by rw [hk'];exact SeqAt.RcAt.lists p1.isList p2.isList hsz hu1 he
    refine ⟨refs (λe=> ?_) rc,rc,by rw [hk'];exact SeqAt.RcNeAt.lists p1.isList p2.isList hsz hu1 he⟩;subst e;exact same rd re h0
   ·rename_i hl;have h':false=k:=Option.some.inj h;subst h';have hsz:(its.toArray.size != its'.toArray.size)=true:=by rw [bne_iff_ne,sz1,sz2,<-r1.length,<-r2.length];exact hl
    refine ⟨refs (λe=> ?_) (SeqAt.RcAt.lists_lengths p1.isList p2.isList hsz hu1),SeqAt.RcAt.lists_lengths p1.isList p2.isList hsz hu1,SeqAt.RcNeAt.lists_lengths p1.isList p2.isList hsz hu1⟩;subst e;exact same rd re h0
  ·
   obtain ⟨p,vs,rfl,h1,r1⟩:=vd;obtain ⟨q,vs',rfl,h2,r2⟩:=ve;cases ru;cases rw';rw [hk] at h1 h2;obtain ⟨its,q1,p1,_⟩:=I.list h1;obtain ⟨its',q2,p2,_⟩:=I.tuple h2;exact ⟨SeqAt.EqAt.list_tuple p1.isList p2 hu1,SeqAt.RcAt.list_tuple p1.isList p2 hu1,SeqAt.RcNeAt.list_tuple p1.isList p2 hu1⟩
  ·
   obtain ⟨rfl,f1⟩:=ve;obtain ⟨q,vs,rfl,h2,r2⟩:=vd;cases ru;rw [hk] at h2;obtain ⟨its,qv,pl,_⟩:=I.tuple h2;cases y with
   | non=>cases rw';exact ⟨SeqAt.EqAt.tuple_none pl hu1,SeqAt.RcAt.tuple_none pl hu1,SeqAt.RcNeAt.tuple_none pl hu1⟩
   | bl b=>cases rw';exact ⟨SeqAt.EqAt.tuple_bool b pl hu1,SeqAt.RcAt.tuple_bool b pl hu1,SeqAt.RcNeAt.tuple_bool b pl hu1⟩
   | int b=>obtain ⟨t,rfl⟩:=rw';exact ⟨SeqAt.EqAt.tuple_int b t pl hu1,SeqAt.RcAt.tuple_int b t pl hu1,SeqAt.RcNeAt.tuple_int b t pl hu1⟩
   | str b=>obtain ⟨t,rfl⟩:=rw';exact ⟨SeqAt.EqAt.tuple_str b t pl hu1,SeqAt.RcAt.tuple_str b t pl hu1,SeqAt.RcNeAt.tuple_str b t pl hu1⟩
   | _=>exact absurd (show false=true from f1) Bool.false_ne_true
  ·
   obtain ⟨p,vs,rfl,h1,r1⟩:=vd;obtain ⟨q,vs',rfl,h2,r2⟩:=ve;cases ru;cases rw';rw [hk] at h1 h2;obtain ⟨its,q1,p1,_⟩:=I.tuple h1;obtain ⟨its',q2,p2,_⟩:=I.list h2;exact ⟨SeqAt.EqAt.tuple_list p1 p2.isList hu1,SeqAt.RcAt.tuple_list p1 p2.isList hu1,SeqAt.RcNeAt.tuple_list p1 p2.isList hu1⟩
  ·
   rename_i xs ys;obtain ⟨p,vs,rfl,h1,r1⟩:=vd;obtain ⟨q,vs',rfl,h2,r2⟩:=ve;cases ru;cases rw';rw [hk] at h1 h2;obtain ⟨its,q1,p1,_⟩:=I.tuple h1;obtain ⟨its',q2,p2,_⟩:=I.tuple h2;have sz1:its.toArray.size=xs.length:=by rw [List.size_toArray,r1.length];exact q1.length.symm
   have sz2:its'.toArray.size=ys.length:=by rw [List.size_toArray,r2.length];exact q2.length.symm
   split at h
   ·rename_i b hz;have h':(b && xs.length == ys.length)=k:=Option.some.inj h;obtain ⟨f,hf,hb⟩:=Q0 hz;have he:∀j (g1:j < its.toArray.size) (g2:j < its'.toArray.size),SeqAt.EqAt A.in1 s its.toArray[j] its'.toArray[j] (f j):=λj g1 g2=>by obtain ⟨d1,v1,e1,rd1,rv1⟩:=T9 r1 q1 g1;obtain ⟨d2,v2,e2,rd2,rv2⟩:=T9 r2 q2 g2;exact (Su I hk sm n hu2 rd1 rd2 rv1 rv2 (hf j d1 d2 e1 e2)).1
    have hk':k=((List.range (min its.toArray.size its'.toArray.size)).all f && its.toArray.size == its'.toArray.size):=by rw [<-h',hb,sz1,sz2]
    have rc:SeqAt.RcAt A s (.ref p) (.ref q) k:=by rw [hk'];exact SeqAt.RcAt.tuples p1 p2 hu1 he
    refine ⟨refs (λe=> ?_) rc,rc,by rw [hk'];exact SeqAt.RcNeAt.tuples p1 p2 hu1 he⟩;subst e;exact same rd re h0
   ·cases h
def Ce (d e:D) (G:DH):R D:=match eqD 30 G d e with
 | some k=>.ok (.bl k) G
 | none=>.bad
def Jy (d e:D) (G:DH):R D:=match eqD 30 G d e with
 | some k=>.ok (.bl (!k)) G
 | none=>.bad
theorem Ds (hu:X.A.units + 64 < cLine):OpR X (compareOp .Eq) (lR2 X.K E Ce):=by
 intro pins s σ H x y v u Q I rx ry ⟨a,G,d,e,hk,hH,sm,rd,re,q⟩;subst hH;unfold Ce at q;split at q
 ·rename_i k hd;exact (Su I hk sm 30 (by omega) rd re rx ry hd).2.1 _ _ _ _ ⟨.bl k,a.H,I,rfl,q a _ (Ext.refl a) sm rfl⟩
 ·exact q.elim
theorem Wc (hu:X.A.units + 64 < cLine):OpR X (compareOp .NotEq) (lR2 X.K E Jy):=by
 intro pins s σ H x y v u Q I rx ry ⟨a,G,d,e,hk,hH,sm,rd,re,q⟩;subst hH;unfold Jy at q;split at q
 ·rename_i k hd;exact (Su I hk sm 30 (by omega) rd re rx ry hd).2.2 _ _ _ _ ⟨.bl (!k),a.H,I,rfl,q a _ (Ext.refl a) sm rfl⟩
 ·exact q.elim
end
abbrev DG:=D->DSt->DH->R DSt
variable {g:DG}
def Dv (E:XK) (a:Wd) (r:R DSt) (Q:St->Hp->Prop):Prop:=match r with
 | .ok S G=>∀(b:Wd) (σ:St),Ext a b->Sim b G->RepS b S σ->Q σ b.H
 | .err x G=>XOk E a x G
 | .bad=>False
def lG (K:PySem.W.Frag) (E:XK) (t:DG):TG:=λv σ H Q=>∃(a:Wd) (S:DSt) (G:DH) (d:D),a.K=K/\a.H=H/\Sim a G/\RepS a S σ/\Rep a d v/\Dv E a (t d S G) Q
def QG (X:Cx) (E:XK) (tg:Expr) (t:DG):Prop:=PG X tg (lG X.K E t)
abbrev DGs:=List D->DSt->DH->R DSt
def lGs (K:PySem.W.Frag) (E:XK) (t:DGs):TGs:=λvs σ H Q=>∃(a:Wd) (S:DSt) (G:DH) (ds:List D),a.K=K/\a.H=H/\Sim a G/\RepS a S σ/\Reps a ds vs/\Dv E a (t ds S G) Q
def QGs (X:Cx) (E:XK) (tg:List Expr) (t:DGs):Prop:=PGs X tg (lGs X.K E t)
def gV (i:Nat):DG:=λd S G=>.ok (S.set i (some d)) G
def Fx:DGs:=λds S G=>match ds with
 | []=>.ok S G
 | _=>.bad
def Dc (t:DG) (u:DGs):DGs:=λds S G=>match ds with
 | d::r=>(t d S G).bind λS1 G1=>u r S1 G1
 | []=>.bad
def Es (n:Nat) (t:DGs):DG:=λd S G=>match d with
 | .tup ds=>if ds.length=n then t ds S G else .bad
 | _=>.bad
theorem Dv.imp {r:R DSt} {Q Q':St->Hp->Prop} (h:Dv E a r Q) (w:∀v H,Q v H->Q' v H):Dv E a r Q':=by
 cases r with
 | ok d G=>exact λb v x s q=>w _ _ (h b v x s q)
 | err e G=>exact h
 | bad=>exact h
theorem Dv.mono (x:Ext a b) {r:R DSt} {Q:St->Hp->Prop} (h:Dv E a r Q):Dv E b r Q:=by
 cases r with
 | ok d G=>exact λc v y s q=>h c v (x.trans y) s q
 | err e G=>exact XOk.mono (E:=E) (e:=e) (G:=G) x h
 | bad=>exact h
theorem ZEd {r:R DSt} {f:DSt->DH->R DSt} {Q:St->Hp->Prop} (h:Dv E a (r.bind f) Q):
  Dv E a r (λσ H=>∃(b:Wd) (S:DSt) (G:DH),b.H=H/\Ext a b/\Sim b G/\RepS b S σ/\r=.ok S G/\Dv E b (f S G) Q):=by
 cases r with
 | ok d G=>exact λb v x s q=>⟨b,d,G,rfl,x,s,q,rfl,Dv.mono x h⟩
 | err e G=>exact h
 | bad=>exact h
theorem ZA4 {f:D->DH->R DSt} {Q:St->Hp->Prop} (h:Dv E a (r.bind f) Q):
  out E a r (λv H=>∃(b:Wd) (d:D) (G:DH),b.H=H/\Ext a b/\Sim b G/\Rep b d v/\r=.ok d G/\Dv E b (f d G) Q):=by
 cases r with
 | ok d G=>exact λb v x s q=>⟨b,d,G,rfl,x,s,q,rfl,Dv.mono x h⟩
 | err e G=>exact h
 | bad=>exact h
theorem Ra {r:R DSt} {f:DSt->DH->SR} (h:Bv E a (r.toS f) W):
  Dv E a r (λσ H=>∃(b:Wd) (S:DSt) (G:DH),b.H=H/\Ext a b/\Sim b G/\RepS b S σ/\r=.ok S G/\Bv E b (f S G) W):=by
 cases r with
 | ok d G=>exact λb v x s q=>⟨b,d,G,rfl,x,s,q,rfl,Bv.mono x h⟩
 | err e G=>exact h
 | bad=>exact h
section
variable {X:Cx} {E:XK}
theorem _root_.L2.PG.mono {t t':TG} (h:PG X e t) (w:∀v σ H Q,t' v σ H Q->t v σ H Q):PG X e t':=λpins s σ H v u Q I r q=>h pins s σ H v u Q I r (w v σ H Q q)
theorem _root_.L2.PGs.mono {e:List Expr} {t t':TGs} (h:PGs X e t) (w:∀v σ H Q,t' v σ H Q->t v σ H Q):PGs X e t':=λpins s σ H v u Q I r q=>h pins s σ H v u Q I r (w v σ H Q q)
theorem Bj (i:Nat) {pos:Pos} (hN:X.N.Nodup) (hi:X.N[i]? =some x:=by rfl) (hx:Loc X.env.scope x:=by first | exact Or.inl rfl | exact Or.inr rfl)
  (hf:X.fn x=true∨X.env.scope.names.lookup x=some .local:=by first | exact .inl rfl | exact .inr rfl | assumption):QG X E (.Name x pos) (gV i):=
 (ZE5 hN hi hx hf).mono λv σ H Q h=>by obtain ⟨a,S,G,d,hk,rfl,s,r,q,h⟩:=h;exact h a _ (Ext.refl a) s (r.set i q)
theorem Ju:QGs X E [] Fx:=ZEn.mono λvs σ H Q h=>by
 obtain ⟨a,S,G,ds,hk,rfl,s,r,q,h⟩:=h;cases ds with
 | nil=>exact ⟨q,h a σ (Ext.refl a) s r⟩
 | cons d ds=>exact h.elim
theorem Fv {es:List Expr} {t:DG} {u:DGs} (h1:QG X E e t) (h2:QGs X E es u)
  (hs:(assignEach (e::es) X.env).map (·.2)=assign e X.env::(assignEach es X.env).map (·.2):=by rfl):QGs X E (e::es) (Dc t u):=(ZCp h1 h2 hs).mono λvs σ H Q h=>by
 obtain ⟨a,S,G,ds,hk,rfl,s,r,q,h⟩:=h;cases ds with
 | nil=>exact h.elim
 | cons d ds=>
  obtain ⟨v,rest,e1,q1,q2⟩:=q;refine ⟨v,rest,e1,a,S,G,d,hk,rfl,s,r,q1,(ZEd h).imp ?_⟩;rintro σ' _ ⟨b,S1,G1,rfl,x,s1,r1,_,h1⟩;exact ⟨b,S1,G1,ds,x.k.trans hk,rfl,s1,r1,q2.mono x,h1⟩
theorem Kv {es:List Expr} {k:Nat} {t:DGs} {n:Nat} {pos:Pos} (hc:X.calm=true) (h:QGs X E es t)
  (hn:(assignEach es X.env).length=n:=by rfl) (hst:(assignEach es X.env).findIdx? (·.1)=none:=by rfl):QG X E (.Tuple es k pos) (Es n t):=(ZDg hc h hn hst).mono λv σ H Q h=>by
 obtain ⟨a,S,G,d,hk,rfl,s,r,q,h⟩:=h;cases d with
 | tup ds=>
  obtain ⟨p,vs,e,h1,r1⟩:=q;unfold Es at h;dsimp only at h;split at h
  ·rename_i hl;exact ⟨p,vs,e,by rw [<-hk];exact h1,by rw [<-r1.length];exact hl,a,S,G,ds,hk,rfl,s,r,r1,h⟩
  ·exact h.elim
 | _=>exact h.elim
def Py (o i v:D) (G:DH):R D:=match o,i with
 | .ref p,.int k=>match G[p]? with
  | some (.lst xs)=>match ixN xs.length k with
   | some j=>.ok .non (G.set p (.lst (xs.set j v)))
   | none=>.bad
  | _=>.bad
 | _,_=>.bad
def gIx (to ti:DE):DG:=λv S G=>(to S G).bind λo G1=>(ti S G1).bind λi G2=>(Py o i v G2).bind λ_ G3=>.ok S G3
theorem ZAh {vs':List V} {ds':List D} (s:Sim a G) (hi:i < a.n) (h:a.H (a.m i)=some (.lst vs)) (r:Reps a ds' vs'):
  Ext a (a.put (a.m i) (.lst vs'))/\Sim (a.put (a.m i) (.lst vs')) (G.set i (.lst ds')):=⟨Ext.wr h,s.wr hi h (r.mono (Ext.wr h))⟩
theorem Rz {o i:Expr} {to ti:DE} {pos:Pos} (ho:QE X E o to) (hi:QE X E i ti)
  (ha:∀v,assign (.Subscript o i pos) X.env v=(do
   let ov<-holding [v] (eval o X.env);let iv<-holding [v,ov] (eval i X.env)
   standAt pos
   holding [v,ov,iv] (setItem ov iv v)
   release [v,ov,iv] []):=by intro _;rfl):QG X E (.Subscript o i pos) (gIx to ti):=(ZBl ho hi set_list ha).mono λv σ H Q h=>by
 obtain ⟨a,S,G,d,hk,rfl,s,r,q,h⟩:=h;refine ⟨a,S,G,hk,rfl,s,r,(ZA4 h).imp ?_⟩;rintro ov _ ⟨b,e,G1,rfl,x,s1,q1,_,h1⟩;refine ⟨b,S,G1,x.k.trans hk,rfl,s1,r.mono x,(ZA4 h1).imp ?_⟩;rintro iv _ ⟨c,f,G2,rfl,y,s2,q2,_,h2⟩;cases e with
 | ref p=>
  cases f with
  | int k=>
   unfold Py at h2;dsimp only at h2;split at h2
   ·rename_i xs hx;split at h2
    ·rename_i j hj;obtain ⟨vs,e1,r1⟩:=s2.lst hx;have q1':=q1.mono y;have rv:=(q.mono x).mono y;obtain ⟨x3,s3⟩:=ZAh s2 q1'.1 e1 (r1.set rv j);refine ⟨c.m p,vs,k,j,q1'.2,q2,e1,by rw [<-r1.length];exact hj,?_⟩;exact h2 _ σ x3 s3 (((r.mono x).mono y).mono x3)
    ·exact h2.elim
   ·exact h2.elim
  | _=>exact h2.elim
 | _=>exact h2.elim
variable {st:Stmt} {rest:List Stmt} {t u:DS} {e:Expr} {te:DE} {pos:Pos}
def sNx:DS:=λS G=>.nx S G
def Ah (t u:DS):DS:=λS G=>match t S G with
 | .nx S1 G1=>u S1 G1
 | r=>r
def sEx (te:DE):DS:=λS G=>(te S G).toS λ_ G1=>.nx S G1
def sRt (te:DE):DS:=λS G=>(te S G).toS λd G1=>.rt d G1
def sIf (c:DB) (t u:DS):DS:=λS G=>(c S G).toS λk G1=>if k=true then t S G1 else u S G1
def sAs (te:DE) (g:DG):DS:=λS G=>(te S G).toS λd G1=>(g d S G1).toS λS2 G2=>.nx S2 G2
theorem Ck:QSs X E [] sNx:=ZCQ.mono λW σ H h=>by obtain ⟨a,S,G,hk,rfl,s,r,h⟩:=h;exact h a σ (Ext.refl a) s r
theorem Bv.nxOf {t:DS} (hk:a.K=K) (h:Bv E a (Ah t u S G) W):Bv E a (t S G) {W with nx:=lS K E u W}:=by
 unfold Ah at h
 revert h
 cases t S G <;> intro h
 ·exact λb σ x s r=>⟨b,_,_,x.k.trans hk,rfl,s,r,Bv.mono x h⟩
 all_goals exact h
theorem Aj (h1:QS X E st t) (h2:QSs X E rest u):QSs X E (st::rest) (Ah t u):=(ZCZ h1 h2).mono λW σ H h=>by obtain ⟨a,S,G,hk,rfl,s,r,h⟩:=h;exact ⟨a,S,G,hk,rfl,s,r,h.nxOf hk⟩
theorem Av (h1:QS X E st t):QSs X E [st] t:=ZGV h1
theorem G9 (he:QE X E e te) (hs:swapsWith e none pos.line X.env=pure false:=by rfl):QS X E (.Expr e pos) (sEx te):=(ZEs he hs).mono λW σ H h=>by obtain ⟨a,S,G,hk,rfl,s,r,h⟩:=h;refine ⟨a,S,G,hk,rfl,s,r,(O5 h).imp ?_⟩;rintro v _ ⟨b,d,G1,rfl,x,s1,q,_,h1⟩;exact h1 b σ (Ext.refl b) s1 (r.mono x)
theorem Bk (he:QE X E e te):QS X E (.Return (some e) pos) (sRt te):=(ZFw he).mono λW σ H h=>by obtain ⟨a,S,G,hk,rfl,s,r,h⟩:=h;refine ⟨a,S,G,hk,rfl,s,r,(O5 h).imp ?_⟩;rintro v _ ⟨b,d,G1,rfl,x,s1,q,_,h1⟩;exact h1 b v (Ext.refl b) s1 q
theorem Ca {c:Expr} {tc:DB} {a b:List Stmt} (hc:QT X E c tc) (ha:QSs X E a t) (hb:QSs X E b u):QS X E (.If c a b pos) (sIf tc t u):=(ZCD hc ha hb).mono λW σ H h=>by
 obtain ⟨a,S,G,hk,rfl,s,r,h⟩:=h;refine ⟨a,S,G,hk,rfl,s,r,(ZF9 h).imp ?_⟩;rintro k _ ⟨b,G1,rfl,x,s1,_,h1⟩;cases k with
 | true=>exact ⟨b,S,G1,x.k.trans hk,rfl,s1,r.mono x,h1⟩
 | false=>exact ⟨b,S,G1,x.k.trans hk,rfl,s1,r.mono x,h1⟩
theorem ZDw (h:lS K E (sAs te g) W σ H):Tr (lE K E te) (lG K E g) W σ H:=by obtain ⟨a,S,G,hk,rfl,s,r,h⟩:=h;refine ⟨a,S,G,hk,rfl,s,r,(O5 h).imp ?_⟩;rintro v _ ⟨b,d,G1,rfl,x,s1,q,_,h1⟩;refine ⟨b,S,G1,d,x.k.trans hk,rfl,s1,r.mono x,q,(Ra h1).imp ?_⟩;rintro σ' _ ⟨c,S2,G2,rfl,y,s2,r2,_,h2⟩;exact h2 c σ' (Ext.refl c) s2 r2
theorem J8 (he:QE X E e te) (hg:QG X E tg g) (hs:swapsWithSole [tg] e pos.line X.env=pure false:=by rfl) (hw:swappedStores [tg] e X.env=pure none:=by rfl)
  (h1:(assignEach [tg] X.env).map (·.2)= [assign tg X.env]:=by rfl):QS X E (.Assign [tg] e pos) (sAs te g):=(ZFZ he hg hs hw h1).mono λ_ _ _ h=>ZDw h
theorem Al (i:Nat) {pos':Pos} (hN:X.N.Nodup) (he:QE X E e te) (hi:X.N[i]? =some x:=by rfl) (hx:Loc X.env.scope x:=by first | exact Or.inl rfl | exact Or.inr rfl) (hs:swapsWith e (some (.Name x pos')) pos.line X.env=pure false:=by rfl)
  (hf:X.fn x=true∨X.env.scope.names.lookup x=some .local:=by first | exact .inl rfl | exact .inr rfl | assumption):QS X E (.Assign [.Name x pos'] e pos) (sAs te (gV i)):=
 (ZFl hN hi hx he hs hf).mono λW σ H h=>by obtain ⟨a,S,G,hk,rfl,s,r,h⟩:=h;refine ⟨a,S,G,hk,rfl,s,r,(O5 h).imp ?_⟩;rintro v _ ⟨b,d,G1,rfl,x,s1,q,_,h1⟩;exact h1 b _ (Ext.refl b) s1 ((r.mono x).set i q)
end
def aft (r:SR) (k:DSt->DH->SR):SR:=match r with
 | .nx S G=>k S G
 | .ct S G=>k S G
 | .bk S G=>.nx S G
 | r=>r
def Cp (g:DG) (b:DS):List D->DS
 | [],S,G=>.nx S G
 | x::xs,S,G=>(g x S G).toS λS1 G1=>aft (b S1 G1) (Cp g b xs)
def forM (i:Nat) (g:DG) (b:DS):Nat->Nat->DS
 | 0,j,S,G=>match G[i]? with
  | some (.lst xs)=>if xs.length<=j then .nx S G else .bad
  | _=>.bad
 | k + 1,j,S,G=>match G[i]? with
  | some (.lst xs)=>match xs[j]? with
   | some x=>(g x S G).toS λS1 G1=>aft (b S1 G1) (forM i g b k (j + 1))
   | none=>.nx S G
  | _=>.bad
def Jf (f:Nat->DH->Option (Option D)) (g:DG) (b:DS):Nat->Nat->DS
 | 0,j,S,G=>match f j G with
  | some none=>.nx S G
  | _=>.bad
 | k + 1,j,S,G=>match f j G with
  | some (some x)=>(g x S G).toS λS1 G1=>aft (b S1 G1) (Jf f g b k (j + 1))
  | some none=>.nx S G
  | none=>.bad
inductive ItD where
 | pure (xs:List D)
 | mt (i:Nat)
 | fn (n:Nat) (f:Nat->DH->Option (Option D))
abbrev DI:=DSt->DH->R ItD
def Dw (it:DI) (g:DG) (b:DS):DS:=λS G=>(it S G).toS λJ G1=>match J with
 | .pure xs=>Cp g b xs S G1
 | .mt i=>match G1[i]? with
  | some (.lst xs)=>forM i g b xs.length 0 S G1
  | _=>.bad
 | .fn n f=>Jf f g b n 0 S G1
def RepI (a:Wd):ItD->It->Prop
 | .pure xs,J=>∃vs:List V,Reps a xs vs/\∀b:Wd,Ext a b->∀i,(∀v,vs[i]? =some v->J.go i b.H/\∀x H',J.yld i b.H x H'->x=v/\H'=b.H)/\(vs.length<=i->J.stop i b.H)
 | .mt k,J=>k < a.n/\∀b:Wd,Ext a b->∀vs,b.H (b.m k)=some (.lst vs)->∀i,(∀v,vs[i]? =some v->J.go i b.H/\∀x H',J.yld i b.H x H'->x=v/\H'=b.H)/\(vs.length<=i->J.stop i b.H)
 | .fn _ f,J=>∀b:Wd,Ext a b->∀G,Sim b G->∀i,(∀d,f i G=some (some d)->J.go i b.H/\∀x H',J.yld i b.H x H'->∃c:Wd,c.H=H'/\Ext b c/\Sim c G/\Rep c d x)/\(f i G=some none->J.stop i b.H)
def outI (E:XK) (a:Wd) (r:R ItD) (Q:It->Hp->Prop):Prop:=match r with
 | .ok J G=>∀(b:Wd) (JJ:It),Ext a b->Sim b G->RepI b J JJ->Q JJ b.H
 | .err x G=>XOk E a x G
 | .bad=>False
def lI (K:PySem.W.Frag) (E:XK) (t:DI):TI:=λσ H Q=>∃(a:Wd) (S:DSt) (G:DH),a.K=K/\a.H=H/\Sim a G/\RepS a S σ/\outI E a (t S G) Q
def QI (X:Cx) (E:XK) (tg iter:Expr) (t:DI):Prop:=PI X tg iter (lI X.K E t)
theorem outI.imp {r:R ItD} {Q Q':It->Hp->Prop} (h:outI E a r Q) (w:∀v H,Q v H->Q' v H):outI E a r Q':=by
 cases r with
 | ok d G=>exact λb v x s q=>w _ _ (h b v x s q)
 | err e G=>exact h
 | bad=>exact h
theorem ZB1 {r:R ItD} {f:ItD->DH->SR} (h:Bv E a (r.toS f) W):
  outI E a r (λJ H=>∃(b:Wd) (d:ItD) (G:DH),b.H=H/\Ext a b/\Sim b G/\RepI b d J/\r=.ok d G/\Bv E b (f d G) W):=by
 cases r with
 | ok d G=>exact λb v x s q=>⟨b,d,G,rfl,x,s,q,rfl,Bv.mono x h⟩
 | err e G=>exact h
 | bad=>exact h
theorem X6 {r:SR} {k:DSt->DH->SR} (h:Bv E a (aft r k) W):
  Bv E a r {W with
            nx:=λσ H=>∃(b:Wd) (S:DSt) (G:DH),b.H=H/\Ext a b/\Sim b G/\RepS b S σ/\Bv E b (k S G) W,
            ct:=λσ H=>∃(b:Wd) (S:DSt) (G:DH),b.H=H/\Ext a b/\Sim b G/\RepS b S σ/\Bv E b (k S G) W,bk:=W.nx}:=by
 cases r with
 | nx S G=>exact λb σ x s q=>⟨b,S,G,rfl,x,s,q,Bv.mono x h⟩
 | ct S G=>exact λb σ x s q=>⟨b,S,G,rfl,x,s,q,Bv.mono x h⟩
 | bk S G=>exact h
 | rt d G=>exact h
 | err x G=>exact h
 | bad=>exact h
section
variable {X:Cx} {E:XK} {tg iter:Expr} {pos:Pos}
theorem ZCW {it:DI} {b:DS} (h:lS K E (Dw it g b) W σ H):tFor (lI K E it) (lG K E g) (lS K E b) W σ H:=by
 obtain ⟨a,S,G,hk,rfl,s,r,h⟩:=h;refine ⟨a,S,G,hk,rfl,s,r,(ZB1 h).imp ?_⟩;rintro J _ ⟨a1,d,G1,rfl,x1,s1,q1,_,h1⟩;have k1:a1.K=K:=x1.k.trans hk;cases d with
 | pure xs=>
  obtain ⟨vs,rv,walk⟩:=q1;refine ⟨λi m σ H=>m=vs.length - i/\i<=vs.length/\∃(c:Wd) (S:DSt) (G:DH),c.H=H/\Ext a1 c/\Sim c G/\RepS c S σ/\Bv E c (Cp g b (xs.drop i) S G) W,⟨_,rfl,Nat.zero_le _,a1,S,G1,rfl,Ext.refl _,s1,r.mono x1,h1⟩,?_⟩;rintro i m σ2 _ ⟨rfl,hi,c,S2,G2,rfl,x2,s2,r2,h2⟩;by_cases hl:i < vs.length
  ·have e1:vs[i]? =some vs[i]:=List.getElem?_eq_getElem hl;obtain ⟨d,e2,rd⟩:=rv.get' e1;have hd:xs.drop i=d::xs.drop (i + 1):=by
    have hlx:i < xs.length:=(List.getElem?_eq_some_iff.mp e2).1;rw [List.drop_eq_getElem_cons hlx]
    congr 1
    exact (List.getElem?_eq_some_iff.mp e2).2
   rw [hd] at h2;obtain ⟨go,yl⟩:=(walk c x2 i).1 _ e1;refine .inr ⟨go,λσ' H'=>∃m',m' < vs.length - i/\(m'=vs.length - (i + 1)/\i + 1<=vs.length/\∃(c:Wd) (S:DSt) (G:DH),c.H=H'/\Ext a1 c/\Sim c G/\RepS c S σ'/\Bv E c (Cp g b (xs.drop (i + 1)) S G) W),λσ' H' z=>z,λv H' y=> ?_⟩;obtain ⟨rfl,rfl⟩:=yl v H' y;refine ⟨c,S2,G2,d,x2.k.trans k1,rfl,s2,r2,rd.mono x2,(Ra h2).imp ?_⟩;rintro σ3 _ ⟨c3,S3,G3,rfl,x3,s3,r3,_,h3⟩
   have fin:=X6 h3;refine ⟨c3,S3,G3,x3.k.trans (x2.k.trans k1),rfl,s3,r3,?_⟩
   revert fin
   cases b S3 G3 with
   | nx S4 G4=>
     intro fin c4 σ4 x4 s4 q4;obtain ⟨c5,S5,G5,hh,x5,s5,r5,h5⟩:=fin c4 σ4 x4 s4 q4;exact ⟨vs.length - (i + 1),by omega,rfl,hl,c5,S5,G5,hh,x2.trans (x3.trans x5),s5,r5,h5⟩
   | ct S4 G4=>
     intro fin c4 σ4 x4 s4 q4;obtain ⟨c5,S5,G5,hh,x5,s5,r5,h5⟩:=fin c4 σ4 x4 s4 q4;exact ⟨vs.length - (i + 1),by omega,rfl,hl,c5,S5,G5,hh,x2.trans (x3.trans x5),s5,r5,h5⟩
   | bk S4 G4=>exact λfin=>fin
   | rt S4 G4=>exact λfin=>fin
   | err S4 G4=>exact λfin=>fin
   | bad=>exact λfin=>fin
  ·have e:i=vs.length:=by omega
   have hd:xs.drop i= []:=by rw [List.drop_eq_nil_iff,rv.length];omega
   rw [hd] at h2;exact .inl ⟨(walk c x2 i).2 (by omega),h2 c σ2 (Ext.refl c) s2 r2⟩
 | mt k=>
  obtain ⟨hkn,walk⟩:=q1;dsimp only at h1;split at h1
  ·rename_i xs0 hx0;refine ⟨λi m σ H=>∃(c:Wd) (S:DSt) (G:DH),c.H=H/\Ext a1 c/\Sim c G/\RepS c S σ/\Bv E c (forM k g b m i S G) W,⟨_,a1,S,G1,rfl,Ext.refl _,s1,r.mono x1,h1⟩,?_⟩;rintro i m σ2 _ ⟨c,S2,G2,rfl,x2,s2,r2,h2⟩;cases m with
   | zero=>
    unfold forM at h2;split at h2
    ·rename_i xs hx;obtain ⟨vs,e1,rv⟩:=s2.lst hx;split at h2
     ·rename_i hl;refine .inl ⟨((walk c x2 vs e1 i).2 (by rw [<-rv.length];exact hl)),h2 c σ2 (Ext.refl c) s2 r2⟩
     ·exact h2.elim
    ·exact h2.elim
   | succ m=>
    unfold forM at h2;split at h2
    ·rename_i xs hx;obtain ⟨vs,e1,rv⟩:=s2.lst hx;split at h2
     ·rename_i d hd;obtain ⟨v,ev,rd⟩:=rv.get hd;obtain ⟨go,yl⟩:=(walk c x2 vs e1 i).1 v ev;refine .inr ⟨go,λσ' H'=>∃(c:Wd) (S:DSt) (G:DH),c.H=H'/\Ext a1 c/\Sim c G/\RepS c S σ'/\Bv E c (forM k g b m (i + 1) S G) W,λσ' H' z=>⟨m,Nat.lt_succ_self _,z⟩,λw H' y=> ?_⟩;obtain ⟨rfl,rfl⟩:=yl w H' y;refine ⟨c,S2,G2,d,x2.k.trans k1,rfl,s2,r2,rd,(Ra h2).imp ?_⟩;rintro σ3 _ ⟨c3,S3,G3,rfl,x3,s3,r3,_,h3⟩;have fin:=X6 h3
      refine ⟨c3,S3,G3,x3.k.trans (x2.k.trans k1),rfl,s3,r3,?_⟩
      revert fin
      cases b S3 G3 with
      | nx S4 G4=>
        intro fin c4 σ4 x4 s4 q4;obtain ⟨c5,S5,G5,hh,x5,s5,r5,h5⟩:=fin c4 σ4 x4 s4 q4;exact ⟨c5,S5,G5,hh,x2.trans (x3.trans x5),s5,r5,h5⟩
      | ct S4 G4=>
        intro fin c4 σ4 x4 s4 q4;obtain ⟨c5,S5,G5,hh,x5,s5,r5,h5⟩:=fin c4 σ4 x4 s4 q4;exact ⟨c5,S5,G5,hh,x2.trans (x3.trans x5),s5,r5,h5⟩
      | bk S4 G4=>exact λfin=>fin
      | rt S4 G4=>exact λfin=>fin
      | err S4 G4=>exact λfin=>fin
      | bad=>exact λfin=>fin
     ·rename_i hd;have hl:xs.length<=i:=List.getElem?_eq_none_iff.mp hd;exact .inl ⟨((walk c x2 vs e1 i).2 (by rw [<-rv.length];exact hl)),h2 c σ2 (Ext.refl c) s2 r2⟩
    ·exact h2.elim
  ·exact h1.elim
 | fn n f=>
  have walk:∀b:Wd,Ext a1 b->∀G,Sim b G->∀i,(∀d,f i G=some (some d)->J.go i b.H/\∀x H',J.yld i b.H x H'->∃c:Wd,c.H=H'/\Ext b c/\Sim c G/\Rep c d x)/\(f i G=some none->J.stop i b.H):=q1;refine ⟨λi m σ H=>∃(c:Wd) (S:DSt) (G:DH),c.H=H/\Ext a1 c/\Sim c G/\RepS c S σ/\Bv E c (Jf f g b m i S G) W,⟨_,a1,S,G1,rfl,Ext.refl _,s1,r.mono x1,h1⟩,?_⟩;rintro i m σ2 _ ⟨c,S2,G2,rfl,x2,s2,r2,h2⟩;cases m with
  | zero=>
   unfold Jf at h2;split at h2
   ·rename_i hf;exact .inl ⟨(walk c x2 G2 s2 i).2 hf,h2 c σ2 (Ext.refl c) s2 r2⟩
   ·exact h2.elim
  | succ m=>
   unfold Jf at h2;split at h2
   ·rename_i d hf;obtain ⟨go,yl⟩:=(walk c x2 G2 s2 i).1 d hf;refine .inr ⟨go,λσ' H'=>∃(c:Wd) (S:DSt) (G:DH),c.H=H'/\Ext a1 c/\Sim c G/\RepS c S σ'/\Bv E c (Jf f g b m (i + 1) S G) W,λσ' H' z=>⟨m,Nat.lt_succ_self _,z⟩,λw H' y=> ?_⟩;obtain ⟨cc,rfl,xx,ss,rd⟩:=yl w H' y;refine ⟨cc,S2,G2,d,xx.k.trans (x2.k.trans k1),rfl,ss,r2.mono xx,rd,(Ra (Bv.mono xx h2)).imp ?_⟩;rintro σ3 _ ⟨c3,S3,G3,rfl,x3,s3,r3,_,h3⟩
    have fin:=X6 h3;refine ⟨c3,S3,G3,x3.k.trans (xx.k.trans (x2.k.trans k1)),rfl,s3,r3,?_⟩
    revert fin
    cases b S3 G3 with
    | nx S4 G4=>
      intro fin c4 σ4 x4 s4 q4;obtain ⟨c5,S5,G5,hh,x5,s5,r5,h5⟩:=fin c4 σ4 x4 s4 q4;exact ⟨c5,S5,G5,hh,x2.trans (xx.trans (x3.trans x5)),s5,r5,h5⟩
    | ct S4 G4=>
      intro fin c4 σ4 x4 s4 q4;obtain ⟨c5,S5,G5,hh,x5,s5,r5,h5⟩:=fin c4 σ4 x4 s4 q4;exact ⟨c5,S5,G5,hh,x2.trans (xx.trans (x3.trans x5)),s5,r5,h5⟩
    | bk S4 G4=>exact λfin=>fin
    | rt S4 G4=>exact λfin=>fin
    | err S4 G4=>exact λfin=>fin
    | bad=>exact λfin=>fin
   ·rename_i hf;exact .inl ⟨(walk c x2 G2 s2 i).2 hf,h2 c σ2 (Ext.refl c) s2 r2⟩
   ·exact h2.elim
theorem Fj {body:List Stmt} {it:DI} {b:DS} (hp:PassesOwn (model X.prog X.w) X.A X.env X.xe) (hc:X.calm=true) (hi:QI X E tg iter it) (hg:QG X E tg g) (hb:QSs X E body b)
  (hs:∀x,foldedSetIterable iter X.env x=pure x:=by intro _;rfl):QS X E (.For tg iter body [] pos) (Dw it g b):=(ZEu hp hc hi hg hb hs).mono λ_ _ _ h=>ZCW h
theorem _root_.L2.PI.mono {t t':TI} (h:PI X tg iter t) (w:∀σ H Q,t' σ H Q->t σ H Q):PI X tg iter t':=λpins s σ H Q I q=>h pins s σ H Q I (w σ H Q q)
def sgn (c:Nat):D:=.str ⟨#[c]⟩
def signs (x:Str):List D:=x.cps.toList.map sgn
def Its (x:Str):It:=⟨λi _=>i < x.cps.size,λi H v H'=>H'=H/\∃c,x.cps[i]? =some c/\v=.str ⟨#[c]⟩,λi _=>x.cps.size<=i⟩
theorem ZGs (it:Addr) (x:Str) (t:Tok):Turn P w K tg (Its x) [it] it (λi h=>h.IsStrIter it "str_ascii_iterator" x t i) where
 mem:=by simp
 obj:=λi h st b hb=>by
  have e:b=it:=by simpa using hb
  subst e;obtain ⟨o,e,c,d⟩:=st;exact ⟨o,e,λv z=>by rw [d] at z;cases z⟩
 keep:=λi h h' st k=>let ⟨o,ho,r⟩:=st;⟨o,k it (by simp) o ho,r⟩
 item:=by
  intro X hP hw hK hc i pins s σ H E I hf st hg;subst hP hw hK;obtain ⟨f0,f1,f2,f3,f4,f5⟩:=hf it (by simp);have hi:i < x.cps.size:=hg;refine wpAny_pyNext_ascii_item st (c:=x.cps[i]) (by simp [hi]) λh' st' sb=> ?_
  have I1:Inv X pins σ H {s with heap:=h',toks:=s.toks + 1}:=I.turned (λb o hb e=>(sb.2 b hb).trans e) f0 f1 f3 f4 f5;obtain ⟨o,e,c,d⟩:=id st';exact ⟨_,rfl,Ml (s:={s with heap:=h',toks:=s.toks + 1}) e c d (by decide) ⟨.str ⟨#[x.cps[i]]⟩,H,I1,⟨_,rfl⟩,⟨rfl,_,by simp [hi],rfl⟩,st',λb hb=>(hf b hb).1⟩⟩
 done:=by intro X hP hw hK hc i pins s σ H E I hf st hg;subst hP hw hK;obtain ⟨f0,f1,f2,f3,f4,f5⟩:=hf it (by simp);have hi:x.cps.size<=i:=hg;exact wpAny_pyNext_ascii_end (I.ok.hd hc) st (by simp [hi]) λh' eb=>⟨rfl,I.turned (t':=s.toks) (λb o hb e=>eb b o hb e) f0 f1 f3 f4 f5⟩
 self:=λ_ _ _ _ _ st h=>wpAny_pyIter_striter_ascii st h
theorem ZCI (it:Addr) (x:Str) (t:Tok):Turn P w K tg (Its x) [it] it (λi h=>h.IsStrIter it "str_iterator" x t i) where
 mem:=by simp
 obj:=λi h st b hb=>by
  have e:b=it:=by simpa using hb
  subst e;obtain ⟨o,e,c,d⟩:=st;exact ⟨o,e,λv z=>by rw [d] at z;cases z⟩
 keep:=λi h h' st k=>let ⟨o,ho,r⟩:=st;⟨o,k it (by simp) o ho,r⟩
 item:=by
  intro X hP hw hK hc i pins s σ H E I hf st hg;subst hP hw hK;obtain ⟨f0,f1,f2,f3,f4,f5⟩:=hf it (by simp);have hi:i < x.cps.size:=hg;refine wpAny_pyNext_wide_item st (c:=x.cps[i]) (by simp [hi]) λh' st' sb=> ?_
  have I1:Inv X pins σ H {s with heap:=h',toks:=s.toks + 1}:=I.turned (λb o hb e=>(sb.2 b hb).trans e) f0 f1 f3 f4 f5;obtain ⟨o,e,c,d⟩:=id st';exact ⟨_,rfl,Ml (s:={s with heap:=h',toks:=s.toks + 1}) e c d (by decide) ⟨.str ⟨#[x.cps[i]]⟩,H,I1,⟨_,rfl⟩,⟨rfl,_,by simp [hi],rfl⟩,st',λb hb=>(hf b hb).1⟩⟩
 done:=by intro X hP hw hK hc i pins s σ H E I hf st hg;subst hP hw hK;obtain ⟨f0,f1,f2,f3,f4,f5⟩:=hf it (by simp);have hi:x.cps.size<=i:=hg;exact wpAny_pyNext_wide_end (I.ok.hd hc) st (by simp [hi]) λh' eb=>⟨rfl,I.turned (t':=s.toks) (λb o hb e=>eb b o hb e) f0 f1 f3 f4 f5⟩
 self:=λ_ _ _ _ _ st h=>wpAny_pyIter_striter_wide st h
def iStr (tl:TE):TI:=λσ H R=>tl σ H λx H1=>∃z,x=.str z/\R (Its z) H1
theorem ZEp {l:Expr} {tl:TE} (hl:PE X l tl):PI X tg l (iStr tl):=by
 intro pins s σ H R I h;refine thn (hl pins s σ H _ I h) λv s1 ⟨x,H1,I1,r1,q1⟩=> ?_
 obtain ⟨z,e,q⟩:=q1;subst e;obtain ⟨t,rfl⟩:=r1;have fp:∀b∈ [s1.heap.objs.size],FpOk X pins H1 b:=λb hb=>by
  have e:b=s1.heap.objs.size:=by simpa using hb
  subst e;exact I1.Ku (Nat.le_refl _) (I1.hok.fresh (Nat.le_refl _))
 cases ha:z.cps.all (· < 128)
 ·refine wpAny_pyIter_wide ha ?_;exact ⟨s1.heap.objs.size,[s1.heap.objs.size],_,_,H1,rfl,I1.kept (t':=s1.toks) λb o e=>Heap.get?_push_of_some _ e,ZCI _ z t,⟨_,Heap.get?_push_size _ rfl,rfl,rfl⟩,fp,q⟩
 ·refine wpAny_pyIter_ascii ha ?_;exact ⟨s1.heap.objs.size,[s1.heap.objs.size],_,_,H1,rfl,I1.kept (t':=s1.toks) λb o e=>Heap.get?_push_of_some _ e,ZGs _ z t,⟨_,Heap.get?_push_size _ rfl,rfl,rfl⟩,fp,q⟩
theorem Reps.signs (x:Str):Reps a (signs x) (x.cps.toList.map λc=>V.str ⟨#[c]⟩):=by
 unfold DL.signs
 induction x.cps.toList with
 | nil=>exact rfl
 | cons c r ih=>exact ⟨_,_,rfl,rfl,ih⟩
def Gd:D->DH->R ItD
 | .tup xs,G=>.ok (.pure xs) G
 | .str x,G=>.ok (.pure (signs x)) G
 | .fl xs,G=>.ok (.pure xs) G
 | .ref i,G=>match G[i]? with
  | some (.lst _)=>.ok (.mt i) G
  | _=>.bad
 | _,_=>.bad
def Gu (te:DE):DI:=λS G=>(te S G).bind Gd
theorem Hu (he:QE X E iter te):QI X E tg iter (Gu te):=by
 intro pins s σ H R I h;obtain ⟨a,S,G,hk,rfl,sm,r,h⟩:=h;cases ht:te S G with
 | bad=>
  have h':outI E a ((te S G).bind Gd) R:=h;rw [ht] at h';exact h'.elim
 | err e G1=>
  have h':outI E a ((te S G).bind Gd) R:=h;rw [ht] at h';refine Wl (tg:=tg) he pins s σ a.H R I ⟨a,S,G,hk,rfl,sm,r,?_⟩;rw [ht];exact h'
 | ok d G1=>
  have h':outI E a ((te S G).bind Gd) R:=h;rw [ht] at h';cases d with
  | tup xs=>
   refine ZFB (tg:=tg) he pins s σ a.H R I ⟨a,S,G,hk,rfl,sm,r,?_⟩;rw [ht];rintro b v x sb ⟨p,vs,rfl,hq,rv⟩;have hq':SqT X.K b.H p vs:=by rw [<-hk,<-x.k];exact hq
   refine ⟨p,rfl,⟨vs,hq'⟩,h' b _ x sb ⟨vs,rv,λc y i=>⟨λv hv=>⟨⟨vs,v,?_,hv⟩,λw H' z=> ?_⟩,λhl=>⟨vs,?_,hl⟩⟩⟩⟩
   ·have:=y.sqT hq;rw [y.k,x.k,hk] at this;exact this
   ·have:=y.sqT hq;rw [y.k,x.k,hk] at this;exact ⟨Option.some.inj ((z.2 vs this).symm.trans hv),z.1⟩
   ·have:=y.sqT hq;rw [y.k,x.k,hk] at this;exact this
  | fl xs=>
   refine Wl (tg:=tg) he pins s σ a.H R I ⟨a,S,G,hk,rfl,sm,r,?_⟩;rw [ht];rintro b v x sb ⟨p,vs,rfl,hq,rv⟩;have hq':SqL X.K b.H p vs:=by rw [<-hk,<-x.k];exact hq.sq
   refine ⟨p,rfl,⟨vs,hq'⟩,h' b _ x sb ⟨vs,rv,λc y i=>⟨λv hv=>⟨⟨vs,v,?_,hv⟩,λw H' z=> ?_⟩,λhl=>⟨vs,?_,hl⟩⟩⟩⟩
   ·have:=(y.fzL hq).sq;rw [y.k,x.k,hk] at this;exact this
   ·have:=(y.fzL hq).sq;rw [y.k,x.k,hk] at this;exact ⟨Option.some.inj ((z.2 vs this).symm.trans hv),z.1⟩
   ·have:=(y.fzL hq).sq;rw [y.k,x.k,hk] at this;exact this
  | ref k=>
   have h2:outI E a (Gd (.ref k) G1) R:=h';unfold Gd at h2;dsimp only at h2;split at h2
   ·rename_i xs hx;refine Wl (tg:=tg) he pins s σ a.H R I ⟨a,S,G,hk,rfl,sm,r,?_⟩;rw [ht];rintro b v x sb ⟨hkn,rfl⟩;obtain ⟨vs,hx,_⟩:=sb.lst hx;refine ⟨b.m k,rfl,⟨vs,.of hx⟩,h2 b _ x sb ⟨hkn,λc y us hu i=> ?_⟩⟩;rw [y.m k hkn] at hu;exact ⟨λv hv=>⟨⟨us,v,.of hu,hv⟩,λw H' z=>⟨Option.some.inj ((z.2 us (.of hu)).symm.trans hv),z.1⟩⟩,λhl=>⟨us,.of hu,hl⟩⟩
   ·exact h2.elim
  | str z=>
   refine ZEp (tg:=tg) he pins s σ a.H R I ⟨a,S,G,hk,rfl,sm,r,?_⟩;rw [ht];intro b v x sb rv
   cases (show v=V.str z from rv)
   refine ⟨z,rfl,h' b _ x sb ⟨_,Reps.signs z,λc y i=>⟨λv hv=> ?_,λhl=> ?_⟩⟩⟩
   ·rw [List.getElem?_map,Option.map_eq_some_iff] at hv;obtain ⟨k,hk1,rfl⟩:=hv;have hk2:z.cps[i]? =some k:=by rw [<-Array.getElem?_toList];exact hk1
    refine ⟨(Array.getElem?_eq_some_iff.mp hk2).1,λw H' q=> ?_⟩;obtain ⟨e1,k',e2,e3⟩:=q;rw [hk2] at e2;cases e2;exact ⟨e3,e1⟩
   ·rw [List.length_map,Array.length_toList] at hl;exact hl
  | _=>exact h'.elim
end
def Bl (lo:Int) (n:Nat):List D:=(List.range n).map λ(k:Nat)=>D.int (lo + (k:Int))
def inR (j:Int):Prop:= -(2 ^ 62)<=j/\j < 2 ^ 62
instance (j:Int):Decidable (inR j):=by unfold inR;infer_instance
def rng1 (ds:List D) (G:DH):R ItD:=match ds with
 | [.int j]=>if inR j then .ok (.pure (Bl 0 j.toNat)) G else .bad
 | _=>.bad
def Df (f:List D->DH->R ItD) (ta:DA):DI:=λS G=>(ta S G).bind f
def Cj (np nl:Nat) (b:DS):List D->DH->R D:=λds G=>if ds.length=np then tidy G (match b (ds.map some++List.replicate nl none) G with
 | .nx _ G'=>.ok .non G'
 | .rt d G'=>.ok d G'
 | .err x G'=>.err x G'
 | _=>.bad) else .bad
theorem outI.mono (x:Ext a b) {r:R ItD} {Q:It->Hp->Prop} (h:outI E a r Q):outI E b r Q:=by
 cases r with
 | ok d G=>exact λc v y s q=>h c v (x.trans y) s q
 | err e G=>exact XOk.mono (E:=E) (e:=e) (G:=G) x h
 | bad=>exact h
theorem Yt {r:R (List D)} {f:List D->DH->R ItD} {Q:It->Hp->Prop} (h:outI E a (r.bind f) Q):
  Ef E a r (λvs H=>∃(b:Wd) (ds:List D) (G:DH),b.H=H/\Ext a b/\Sim b G/\Reps b ds vs/\r=.ok ds G/\outI E b (f ds G) Q):=by
 cases r with
 | ok d G=>exact λb v x s q=>⟨b,d,G,rfl,x,s,q,rfl,outI.mono x h⟩
 | err e G=>exact h
 | bad=>exact h
section
variable {X:Cx} {E:XK} {tg iter:Expr} {pos:Pos}
theorem ZEM (lo:Int) (n:Nat):RepI a (.pure (Bl lo n)) (Itr lo n):=by
 refine ⟨(List.range n).map λ(k:Nat)=>V.int (lo + (k:Int)),?_,λb x i=>⟨λv hv=> ?_,λhl=> ?_⟩⟩
 ·unfold Bl;generalize List.range n=l
  induction l with
  | nil=>exact rfl
  | cons k l ih=>exact ⟨_,_,rfl,rfl,ih⟩
 ·rw [List.getElem?_map] at hv;by_cases hi:i < n
  ·rw [List.getElem?_range hi] at hv;have hv':V.int (lo + (i:Int))=v:=by simpa using hv
   exact ⟨hi,λw H' y=>⟨y.2.trans hv',y.1⟩⟩
  ·rw [List.getElem?_eq_none (by simpa using hi)] at hv;cases hv
 ·show n<=i;simpa using hl
theorem Dq {ta:DA} {p pos:Pos} (hg:Gl X "range") (hm:X.mg "range"=none) (ha:QA X E [e] ta) (hs:starEach [e] X.env= [(false,eval e X.env)]:=by rfl):QI X E tg (.Call (.Name "range" p) [e] [] pos) (Df rng1 ta):=
 (ZFx hg hm ha hs).mono λσ H Q h=>by
  obtain ⟨a,S,G,hk,rfl,s,r,h⟩:=h;refine ⟨a,S,G,hk,rfl,s,r,(Yt h).imp ?_⟩;rintro vs _ ⟨b,ds,G1,rfl,x,s1,q,-,h1⟩;unfold rng1 at h1;split at h1
  ·rename_i j;split at h1
   ·rename_i hj;obtain ⟨v,r,e1,q1,q2⟩:=q
    cases (show v=V.int j from q1)
    cases (show r= [] from q2)
    exact ⟨j,e1,hj.1,hj.2,h1 b _ (Ext.refl b) s1 (ZEM 0 j.toNat)⟩
   ·exact h1.elim
  ·exact h1.elim
end
theorem ZBn (r:Reps a ds vs) (n m:Nat) (h:n=m):RepS a (ds.map some++List.replicate n none) (vs.map some++List.replicate m none):=by
 subst h;refine ⟨by simp [r.length],λi d hd=> ?_⟩;by_cases hi:i < ds.length
 ·rw [List.getElem?_append_left (by simpa using hi),List.getElem?_map] at hd;cases e:ds[i]? with
  | none=>rw [e] at hd;cases hd
  | some d'=>
   rw [e] at hd;have hd':d'=d:=by simpa using hd
   subst hd';obtain ⟨v,ev,q⟩:=r.get e;exact ⟨v,by rw [List.getElem?_append_left (by rw [List.length_map,<-r.length];exact hi),List.getElem?_map,ev];rfl,q⟩
 ·rw [List.getElem?_append_right (by simpa using hi),List.getElem?_replicate] at hd
  split at hd <;> cases hd
theorem Dg {mg:Str->Option Value} {base:Heap} {qual:Str} {st:Stmt} {f:Addr} {fd:FuncData} {N ps:List Str} {b:DS} (F:Fun K x qual st f fd) (S:FnScope N ps (Bc st))
  (hbody:∀(cdv:Value) (A:Around) (outer:List Env) (s:Shared) (H:Hp) (E:XK),Room k (A.deeper (envOfC qual (Bc st) s.heap.objs.size f cdv))->QSs (Jb CX0 P w K mg base N qual (Bc st) f cdv A outer s H E).nox E0 (Gy st) b):
  FnOk P w K mg base CX0 (k + 1) f fd ps (lF K (Cj ps.length (N.length - ps.length) b)):=by
 have hlen:∀vs H Q E,lF K (Cj ps.length (N.length - ps.length) b) vs H Q E->vs.length=ps.length:=λvs H Q E h=>by
  obtain ⟨a,G,ds,hk,rfl,sm,r,h⟩:=h;unfold Cj at h;split at h
  ·rename_i hl;rw [<-r.length];exact hl
  ·exact h.elim
 refine F.ok S hlen (λcdv A outer s H vs Q E hr h=> ?_);refine ⟨lS K E0 b,hbody cdv A outer s H E hr,?_⟩;have hl:=hlen vs H Q E h;obtain ⟨a,G,ds,hk,rfl,sm,r,h⟩:=h;unfold Cj at h;split at h
 ·have h2:=ZAy sm h;refine ⟨a,ds.map some++List.replicate (N.length - ps.length) none,G,hk,rfl,sm,ZBn r _ _ (by rw [hl]),?_⟩
  revert h2
  cases b (ds.map some++List.replicate (N.length - ps.length) none) G with
  | nx S1 G1=>exact λh2 c σ x s1 _=>h2 c .non x s1 rfl
  | rt d G1=>exact λh2=>h2
  | err e G1=>exact λh2=>h2
  | bk S1 G1=>exact λh2=>h2.elim
  | ct S1 G1=>exact λh2=>h2.elim
  | bad=>exact λh2=>h2
 ·exact h.elim
theorem Lg {x:V} (s:Sim a G) (r:Rep a d x) (h:Bt d G=some xs):∃p vs,x=.ref p/\(SqL a.K a.H p vs∨SqT a.K a.H p vs)/\Reps a xs vs:=by
 cases d with
 | tup ys=>
  have e:ys=xs:=Option.some.inj h;subst e;obtain ⟨p,vs,e,q,rr⟩:=r;exact ⟨p,vs,e,.inr q,rr⟩
 | fl ys=>
  have e:ys=xs:=Option.some.inj h;subst e;obtain ⟨p,vs,e,q,rr⟩:=r;exact ⟨p,vs,e,.inl q.sq,rr⟩
 | ref i=>
  unfold Bt at h;dsimp only at h;split at h
  ·rename_i ys hi;have e:ys=xs:=Option.some.inj h;subst e;obtain ⟨vs,e1,r1⟩:=s.lst hi;exact ⟨a.m i,vs,r.2,.inl (.of e1),r1⟩
  ·cases h
 | _=>cases h
def Ak (d e:D) (G:DH):R D:=match e with
 | .int i=>match d with
  | .str z=>if z.length<=1000000 then (match atI z.cps.toList i with
    | some c=>.ok (.str ⟨#[c]⟩) G
    | none=>.bad) else .bad
  | d=>match Bt d G with
   | some xs=>match atI xs i with
    | some v=>.ok v G
    | none=>.bad
   | none=>.bad
 | _=>.bad
theorem ZE7 {i:Int} (r:Reps a xs vs) (h:atI xs i=some d):∃v,atI vs i=some v/\Rep a d v:=by
 unfold atI at h ⊢;rw [<-r.length];cases e:ixN xs.length i with
 | none=>rw [e] at h;cases h
 | some j=>
  rw [e] at h
  obtain ⟨v,ev,q⟩:=r.get (show xs[j]? =some d from h)
  exact ⟨v,ev,q⟩
section
variable {X:Cx} {E:XK}
theorem _root_.L2.IxR.mono {r r':R2} (h:IxR X r) (w:∀x y H Q,r' x y H Q->r x y H Q):IxR X r':=λvalue slice pins s σ H x y v u Q I rx ry q hs=>h value slice pins s σ H x y v u Q I rx ry (w _ _ _ _ q) hs
theorem _root_.L2.CallR.mono {f:Value} {r r':List V->Hp->VK->Prop} (h:CallR X f r) (w:∀xs H Q,r' xs H Q->r xs H Q):CallR X f r':=λpins s σ H xs us Q I rs q=>h pins s σ H xs us Q I rs (w _ _ _ q)
theorem _root_.L2.MtM.mono {id:String} {r r':V->List V->Hp->VK->Prop} (h:MtM X id r) (w:∀x xs H Q,r' x xs H Q->r x xs H Q):MtM X id r':=λpins s σ H x xs v us Q I rx rs q=>h pins s σ H x xs v us Q I rx rs (w _ _ _ _ q)
theorem Aq:IxR X (lR2 X.K E Ak):=ZFR.mono λx y H Q h=>by
 obtain ⟨a,G,d,e,hk,rfl,s,rd,re,q⟩:=h;cases e with
 | int i=>
  have fin:∀{xs:List D},Bt d G=some xs->out E a (match atI xs i with | some v=>.ok v G | none=>.bad) Q->rIx X.K x y a.H Q:=λ{xs} hs q=>by
   obtain ⟨p,vs,e1,h1,r1⟩:=Lg s rd hs;rw [hk] at h1;split at q
   ·rename_i v hv;obtain ⟨u,hu,ru⟩:=ZE7 r1 hv;have z:=q a u (Ext.refl a) s ru;rcases h1 with h1 | h1
    ·exact .inl ⟨p,vs,i,u,e1,re,h1,hu,z⟩
    ·exact .inr (.inl ⟨p,vs,i,u,e1,re,h1,hu,z⟩)
   ·exact q.elim
  have fin':out E a (match Bt d G with | some xs=>(match atI xs i with | some v=>.ok v G | none=>.bad) | none=>.bad) Q->rIx X.K x y a.H Q:=λq=>by
   cases hs:Bt d G with
   | none=>rw [hs] at q;exact q.elim
   | some xs=>rw [hs] at q;exact fin hs q
  cases d with
  | str z=>
   unfold Ak at q;dsimp only at q;split at q
   ·rename_i hl;split at q
    ·rename_i c hc;exact .inr (.inr ⟨z,i,c,rd,re,Nat.le_trans hl size6,hc,q a _ (Ext.refl a) s rfl⟩)
    ·exact q.elim
   ·exact q.elim
  | tup ys=>exact fin' q
  | fl ys=>exact fin' q
  | ref j=>exact fin' q
  | _=>exact fin' q
 | _=>exact q.elim
def Bs (ds:List D) (G:DH):R D:=match ds with
 | [.str z]=>if z.length<=1000000 then .ok (.int z.length) G else .bad
 | [d]=>match Bt d G with
  | some xs=>.ok (.int xs.length) G
  | none=>.bad
 | _=>.bad
theorem reps1 (r:Reps a [d] vs):∃v,vs= [v]/\Rep a d v:=by
 obtain ⟨v,r',e,q,z⟩:=r
 cases (show r'= [] from z)
 exact ⟨v,e,q⟩
theorem reps2 {d':D} (r:Reps a [d,d'] vs):∃v v',vs= [v,v']/\Rep a d v/\Rep a d' v':=by obtain ⟨v,r',e,q,z⟩:=r;obtain ⟨v',e',q'⟩:=reps1 z;subst e';exact ⟨v,v',e,q,q'⟩
theorem Cv:CallR X (.builtin "len") (lRn X.K E Bs):=(ZEA.or ZCq).mono λvs H Q h=>by
 obtain ⟨a,G,ds,hk,rfl,s,r,q⟩:=h;unfold Bs at q;split at q
 ·rename_i z;split at q
  ·rename_i hl;obtain ⟨v,rfl,rv⟩:=reps1 r
   cases (show v=V.str z from rv)
   exact .inr ⟨z,rfl,Nat.le_trans hl size6,q a _ (Ext.refl a) s rfl⟩
  ·exact q.elim
 ·rename_i d _;split at q
  ·rename_i xs hs;obtain ⟨v,rfl,rv⟩:=reps1 r;obtain ⟨p,us,rfl,h1,r1⟩:=Lg s rv hs;rw [hk] at h1;exact .inl ⟨p,us,rfl,h1,q a _ (Ext.refl a) s (by rw [<-r1.length];exact rfl)⟩
  ·exact q.elim
 ·exact q.elim
def Di (ds:List D) (G:DH):R D:=match ds with
 | [d]=>match Bt d G with
  | some xs=>.ok (.tup xs) G
  | none=>.bad
 | _=>.bad
theorem Ew:CallR X (.type "tuple") (lRn X.K E Di):=ZDl.mono λvs H Q h=>by
 obtain ⟨a,G,ds,hk,rfl,s,r,q⟩:=h;unfold Di at q;split at q
 ·rename_i d;split at q
  ·rename_i xs hs;obtain ⟨v,rfl,rv⟩:=reps1 r;obtain ⟨p,us,rfl,h1,r1⟩:=Lg s rv hs;refine ⟨p,us,rfl,?_⟩;rcases h1 with h1 | h1
   ·exact .inl ⟨by rw [<-hk];exact h1,λl hl=>U5 s r1 q l hl⟩
   ·exact .inr ⟨by rw [<-hk];exact h1,q a _ (Ext.refl a) s ⟨p,us,rfl,h1,r1⟩⟩
  ·exact q.elim
 ·exact q.elim
def Ga (ds:List D) (G:DH):R D:=match ds with
 | [.str z]=>if z.length<=1000000 then .ok (.ref G.length) (G++ [.lst (signs z)]) else .bad
 | [d]=>match Bt d G with
  | some xs=>.ok (.ref G.length) (G++ [.lst xs])
  | none=>.bad
 | _=>.bad
theorem ZAf:∀{vs:List V} {us:List Value},vs.length=us.length->(∀(i:Nat) (v:V) (u:Value),vs[i]? =some v->us[i]? =some u->RelV v u)->Vals vs us
 | [],[],_,_=>.nil
 | [],_::_,h,_=>by cases h
 | _::_,[],h,_=>by cases h
 | v::vs,u::us,h,f=>.cons (f 0 v u rfl rfl) (ZAf (by simpa using h) λi v' u' h1 h2=>f (i + 1) v' u' (by simpa using h1) (by simpa using h2))
theorem ZGb (hc:X.calm=true):CallR X (.type "list") (λxs H Q=>∃z:Str,xs= [.str z]/\z.length<=sizeLine/\∀l,H l=none->Q (.ref l) (upd H l (.lst (z.cps.toList.map λc=>V.str ⟨#[c]⟩)))):=by
 intro pins s σ H xs us Q I r h;obtain ⟨z,rfl,hz,q⟩:=h;obtain ⟨u,rfl,t,rfl⟩:=vals1 r;refine PySem.call_list_str (I.ok.hd hc) z t (λh' tk acc c hk hS hacc=> ?_) hz;have hn:H s.heap.objs.size=none:=I.hok.fresh (Nat.le_refl _);refine ⟨.ref s.heap.objs.size,upd H s.heap.objs.size (.lst (z.cps.toList.map λc=>V.str ⟨#[c]⟩)),I.laid (t':=tk) (h':=h') hk (Nat.le_refl _) ?_,rfl,q _ hn⟩;refine ⟨by rw [List.length_map,Array.length_toList];exact hz,acc.toList,c,ZAf ?_ λi v u h1 h2=> ?_,by simpa using hS⟩
 ·rw [List.length_map,Array.length_toList,Array.length_toList];exact hacc.1.symm
 ·rw [List.getElem?_map,Option.map_eq_some_iff] at h1;obtain ⟨k,e1,rfl⟩:=h1;obtain ⟨k',t',e2,rfl⟩:=hacc.2 i u (by rw [<-Array.getElem?_toList];exact h2);rw [Array.getElem?_toList,e2] at e1;cases e1;exact ⟨t',rfl⟩
theorem Ji (hc:X.calm=true):CallR X (.type "list") (lRn X.K E Ga):=(ZDf.or (ZGb hc)).mono λvs H Q h=>by
 obtain ⟨a,G,ds,hk,rfl,s,r,q⟩:=h;unfold Ga at q;split at q
 ·rename_i z;split at q
  ·rename_i hl;obtain ⟨v,rfl,rv⟩:=reps1 r
   cases (show v=V.str z from rv)
   exact .inr ⟨z,rfl,Nat.le_trans hl size6,λl hl=>Oh s (Reps.signs z) q l hl⟩
  ·exact q.elim
 ·rename_i d _;split at q
  ·rename_i xs hs;obtain ⟨v,rfl,rv⟩:=reps1 r;obtain ⟨p,us,rfl,h1,r1⟩:=Lg s rv hs;exact .inl ⟨p,us,rfl,by rw [<-hk];exact h1,λl hl=>Oh s r1 q l hl⟩
  ·exact q.elim
 ·exact q.elim
def Jt (ds:List D) (G:DH):R D:=match ds with
 | [.int i,.int j]=>.ok (.int (if j > i then j else i)) G
 | _=>.bad
def Ov (ds:List D) (G:DH):R D:=match ds with
 | [.int i,.int j]=>.ok (.int (if j < i then j else i)) G
 | _=>.bad
theorem Vm (hc:X.calm=true):CallR X (.builtin "max") (lRn X.K E Jt):=(ZCz hc).mono λvs H Q h=>by
 obtain ⟨a,G,ds,hk,rfl,s,r,q⟩:=h;unfold Jt at q;split at q
 ·obtain ⟨v,v',rfl,h1,h2⟩:=reps2 r
  cases (show v=V.int _ from h1)
  cases (show v'=V.int _ from h2)
  exact ⟨_,_,rfl,q a _ (Ext.refl a) s rfl⟩
 ·exact q.elim
theorem ZBp (hc:X.calm=true):CallR X (.builtin "min") (lRn X.K E Ov):=(ZED hc).mono λvs H Q h=>by
 obtain ⟨a,G,ds,hk,rfl,s,r,q⟩:=h;unfold Ov at q;split at q
 ·obtain ⟨v,v',rfl,h1,h2⟩:=reps2 r
  cases (show v=V.int _ from h1)
  cases (show v'=V.int _ from h2)
  exact ⟨_,_,rfl,q a _ (Ext.refl a) s rfl⟩
 ·exact q.elim
def El (o:D) (ds:List D) (G:DH):R D:=match o,ds with
 | .ref i,[d]=>match G[i]? with
  | some (.lst xs)=>if xs.length < 1000000 then .ok .non (G.set i (.lst (xs++ [d]))) else .bad
  | _=>.bad
 | _,_=>.bad
def lRm (K:PySem.W.Frag) (E:XK) (f:D->List D->DH->R D):V->List V->Hp->VK->Prop:=λx xs H Q=>∃(a:Wd) (G:DH) (d:D) (ds:List D),a.K=K/\a.H=H/\Sim a G/\Rep a d x/\Reps a ds xs/\out E a (f d ds G) Q
theorem Sim.isList (s:Sim a G) (h:G[i]? =some (.lst xs)):∃vs,SqL a.K a.H (a.m i) vs:=let ⟨vs,e,_⟩:=s.lst h;⟨vs,.of e⟩
theorem G8:MtM X "list.append" (lRm X.K E El):=ZFb.mono λx xs H Q h=>by
 obtain ⟨a,G,d,ds,hk,rfl,s,rd,r,q⟩:=h;unfold El at q;split at q
 ·rename_i i d;obtain ⟨v,rfl,rv⟩:=reps1 r;split at q
  ·rename_i ys hy;split at q
   ·rename_i hl;obtain ⟨vs,e1,r1⟩:=s.lst hy;obtain ⟨x3,s3⟩:=ZAh s rd.1 e1 (r1.append (Reps.cons rv Reps.nil));refine ⟨a.m i,vs,v,rd.2,rfl,e1,by rw [<-r1.length];exact Nat.lt_of_lt_of_le hl size6,?_⟩;exact q _ .non x3 s3 rfl
   ·exact q.elim
  ·exact q.elim
 ·exact q.elim
variable {o e:Expr} {es:List Expr} {to:DE} {t:DA} {name:Str} {apos cpos:Pos} {T id:String} {f:D->List D->DH->R D}
def isL (d:D) (G:DH):Bool:=match d with
 | .ref i=>match G[i]? with
  | some (.lst _)=>true
  | _=>false
 | .fl _=>true
 | _=>false
def Ey (f:D->List D->DH->R D) (o:DE) (t:DA):DE:=λS G=>(o S G).bind λx G1=>if isL x G1=true then (t S G1).bind λxs G2=>f x xs G2 else .bad
theorem ZGQ {x:V} (s:Sim a G) (r:Rep a d x) (h:isL d G=true):tyV a.K "list" x a.H:=by
 cases d with
 | ref i=>
  unfold isL at h;dsimp only at h;split at h
  ·rename_i xs hx;cases r.2;exact .inl ⟨rfl,s.isList hx⟩
  ·cases h
 | fl xs=>
  obtain ⟨p,vs,rfl,q,_⟩:=r;exact .inl ⟨rfl,vs,q.sq⟩
 | _=>cases h
theorem Fy (slot:Slot "list" name id) (hty:typeOf (.builtin id)=pure (.type "method_descriptor")) (hm:MtM X id (lRm X.K E f)) (ho:QE X E o to) (ha:QA X E (e::es) t)
  (hbase:attributeBase o name X.env (eval o X.env)=eval o X.env:=by rfl)
  (hfew:((backTo cpos (starEach (e::es) X.env)).all (λx=> !x.1) && (backToKw cpos (keywordEach [] X.env)).all (λx=>x.1.isSome)
   && decide ((e::es).length + ([]:List Keyword).length + (if ([]:List Keyword).isEmpty then 0 else 1) < 30))=true:=by rfl)
  (hline:(apos.endLine == cpos.line)=true:=by rfl) (hs:starEach (e::es) X.env=(false,eval e X.env)::starEach es X.env:=by rfl) (hplain:(backTo cpos (starEach es X.env)).any (·.1)=false:=by rfl):
  QE X E (.Call (.Attribute o name apos) (e::es) [] cpos) (Ey f to t):=(ZFU PySem.F.plainAttrs_list slot hty hm ho ha hbase hfew hline hs hplain).mono λσ H Q h=>by
 obtain ⟨a,S,G,hk,rfl,s,r,h⟩:=h;refine ⟨a,S,G,hk,rfl,s,r,(Gh h).imp ?_⟩;rintro v _ ⟨b,d,G1,rfl,x,s1,q,-,h1⟩;split at h1
 ·rename_i hl;have ty:=ZGQ s1 q hl;rw [x.k,hk] at ty;refine ⟨ty,b,S,G1,x.k.trans hk,rfl,s1,r.mono x,(Ox h1).imp ?_⟩;rintro vs _ ⟨c,ds,G2,rfl,y,s2,q2,-,h2⟩;exact ⟨c,G2,d,ds,y.k.trans (x.k.trans hk),rfl,s2,q.mono y,q2,h2⟩
 ·exact h1.elim
end
inductive Ty where | non | bl | int | str | tup | lst
def Ty.name:Ty->String
 | .non=>"NoneType" | .bl=>"bool" | .int=>"int" | .str=>"str" | .tup=>"tuple" | .lst=>"list"
def tyD (G:DH):D->Option Ty
 | .non=>some .non
 | .bl _=>some .bl
 | .int _=>some .int
 | .str _=>some .str
 | .tup _=>some .tup
 | .fl _=>some .lst
 | .ref i=>match G[i]? with
  | some (.lst _)=>some .lst
  | _=>none
 | .ty _=>none
def Ty.sub (t:Ty):String->Option Bool
 | "int"=>some (match t with | .int=>true | .bl=>true | _=>false)
 | "bool"=>some (match t with | .bl=>true | _=>false)
 | "str"=>some (match t with | .str=>true | _=>false)
 | "tuple"=>some (match t with | .tup=>true | _=>false)
 | "list"=>some (match t with | .lst=>true | _=>false)
 | _=>none
def M9 (ds:List D) (G:DH):R D:=match ds with
 | [d,.ty T]=>match tyD G d with
  | some t=>match t.sub T with
   | some k=>.ok (.bl k) G
   | none=>.bad
  | none=>.bad
 | _=>.bad
section
variable {prog:Program} {w:World} {A:Around} {E:Value->Shared->Prop} {s:Shared}
theorem Iu {x:Value} {Tx T:String} {Q:Value->Shared->Prop} (hx:s.TypeIs x Tx) (hty:typeOf (.type T)=pure (.type "type")) (hsub:isSubtype (.type Tx) (.type T)=pure true) (h:Q (.bool true) s):
  wpAny (model prog w) A (call (.builtin "isinstance") [x,.type T]) Q E s:=call_isinstance (isinstance_true hty hsub) ⟨hx,h⟩
end
theorem ty_int:typeOf (.type "int")=pure (.type "type"):=by with_unfolding_all rfl
theorem ty_bool:typeOf (.type "bool")=pure (.type "type"):=by with_unfolding_all rfl
theorem ty_str:typeOf (.type "str")=pure (.type "type"):=by with_unfolding_all rfl
theorem ty_tuple:typeOf (.type "tuple")=pure (.type "type"):=by with_unfolding_all rfl
theorem ty_list:typeOf (.type "list")=pure (.type "type"):=by with_unfolding_all rfl
theorem ZDL:isSubtype (.type "NoneType") (.type "int")=pure false:=by with_unfolding_all rfl
theorem ZCr:isSubtype (.type "NoneType") (.type "bool")=pure false:=by with_unfolding_all rfl
theorem ZEY:isSubtype (.type "NoneType") (.type "str")=pure false:=by with_unfolding_all rfl
theorem ZGh:isSubtype (.type "NoneType") (.type "tuple")=pure false:=by with_unfolding_all rfl
theorem ZFy:isSubtype (.type "NoneType") (.type "list")=pure false:=by with_unfolding_all rfl
theorem ZCX:isSubtype (.type "bool") (.type "int")=pure true:=by with_unfolding_all rfl
theorem ZDH:isSubtype (.type "bool") (.type "bool")=pure true:=by with_unfolding_all rfl
theorem ZBq:isSubtype (.type "bool") (.type "str")=pure false:=by with_unfolding_all rfl
theorem ZFL:isSubtype (.type "bool") (.type "tuple")=pure false:=by with_unfolding_all rfl
theorem ZGJ:isSubtype (.type "bool") (.type "list")=pure false:=by with_unfolding_all rfl
theorem ZFf:isSubtype (.type "int") (.type "int")=pure true:=by with_unfolding_all rfl
theorem ZDG:isSubtype (.type "int") (.type "bool")=pure false:=by with_unfolding_all rfl
theorem ZC9:isSubtype (.type "int") (.type "str")=pure false:=by with_unfolding_all rfl
theorem ZEg:isSubtype (.type "int") (.type "tuple")=pure false:=by with_unfolding_all rfl
theorem ZFP:isSubtype (.type "int") (.type "list")=pure false:=by with_unfolding_all rfl
theorem ZCt:isSubtype (.type "str") (.type "int")=pure false:=by with_unfolding_all rfl
theorem ZFA:isSubtype (.type "str") (.type "bool")=pure false:=by with_unfolding_all rfl
theorem ZEf:isSubtype (.type "str") (.type "str")=pure true:=by with_unfolding_all rfl
theorem ZEJ:isSubtype (.type "str") (.type "tuple")=pure false:=by with_unfolding_all rfl
theorem ZFc:isSubtype (.type "str") (.type "list")=pure false:=by with_unfolding_all rfl
theorem ZDs:isSubtype (.type "tuple") (.type "int")=pure false:=by with_unfolding_all rfl
theorem ZCK:isSubtype (.type "tuple") (.type "bool")=pure false:=by with_unfolding_all rfl
theorem ZF6:isSubtype (.type "tuple") (.type "str")=pure false:=by with_unfolding_all rfl
theorem ZDM:isSubtype (.type "tuple") (.type "tuple")=pure true:=by with_unfolding_all rfl
theorem ZBv:isSubtype (.type "tuple") (.type "list")=pure false:=by with_unfolding_all rfl
theorem Zi:isSubtype (.type "list") (.type "int")=pure false:=by with_unfolding_all rfl
theorem Yz:isSubtype (.type "list") (.type "bool")=pure false:=by with_unfolding_all rfl
theorem ZBB:isSubtype (.type "list") (.type "str")=pure false:=by with_unfolding_all rfl
theorem ZAK:isSubtype (.type "list") (.type "tuple")=pure false:=by with_unfolding_all rfl
theorem ZAV:isSubtype (.type "list") (.type "list")=pure true:=by with_unfolding_all rfl
section
variable {X:Cx} {E:XK}
theorem ZGl:CallR X (.builtin "isinstance") (lRn X.K E M9):=by
 intro pins s σ H vs us Q I rs h;obtain ⟨a,G,ds,hk,rfl,sm,r,q⟩:=h;unfold M9 at q;split at q
 ·rename_i d T;obtain ⟨v,v',rfl,h1,h2⟩:=reps2 r
  cases (show v'=V.ty T from h2)
  obtain ⟨u,u',rfl,ru,ru'⟩:∃u u',us= [u,u']/\RelV v u/\RelV (.ty T) u':=by
   cases rs with
   | cons p q=>cases q with
    | cons p' q'=>cases q';exact ⟨_,_,rfl,p,p'⟩
  cases (show u'=Value.type T from ru')
  split at q
  ·rename_i t ht;split at q
   ·rename_i k hk';have fin:∀{n:Nat},EP X pins σ Q (.bool k) {s with toks:=n}:=λ{n}=>⟨.bl k,a.H,I.tok _,rfl,q a _ (Ext.refl a) sm rfl⟩
    have fin0:EP X pins σ Q (.bool k) s:=⟨.bl k,a.H,I,rfl,q a _ (Ext.refl a) sm rfl⟩;unfold Ty.sub at hk';split at hk'
    ·cases d with
     | non=>
      cases ht;cases hk'
      cases (show v=_ from h1)
      cases ru;exact call_isinstance (isinstance_false_none (by decide) ty_int ZDL) fin
     | bl b=>
      cases ht;cases hk'
      cases (show v=_ from h1)
      cases ru;exact Iu (Tx:="bool") rfl ty_int ZCX fin0
     | int b=>
      cases ht;cases hk'
      cases (show v=_ from h1)
      obtain ⟨tk,rfl⟩:=ru;exact Iu (Tx:="int") (typeIs_int s _ _) ty_int ZFf fin0
     | str b=>
      cases ht;cases hk'
      cases (show v=_ from h1)
      obtain ⟨tk,rfl⟩:=ru;exact call_isinstance (isinstance_false_str (by decide) ty_int ZCt) fin
     | tup b=>
      cases ht;cases hk';obtain ⟨p,ws,rfl,hq,_⟩:=h1;cases ru;rw [hk] at hq;obtain ⟨its,_,pl,_⟩:=I.tuple hq;exact call_isinstance (isinstance_false_tuple (by decide) ty_int ZDs) ⟨(let ⟨o,e,c,_⟩:=pl;⟨o,e,c⟩),fin⟩
     | fl b=>
      cases ht;cases hk';obtain ⟨p,ws,rfl,hq,_⟩:=h1;cases ru;have hq:=hq.sq;rw [hk] at hq;obtain ⟨its,_,pl,_⟩:=I.list hq;exact call_isinstance (isinstance_false_list (by decide) ty_int Zi) ⟨(let ⟨o,e,c,_⟩:=pl.isList;⟨o,e,c⟩),fin⟩
     | ref b=>
      unfold tyD at ht;dsimp only at ht;split at ht
      ·rename_i xs hx;cases ht;cases hk';obtain ⟨ws,e1,_⟩:=sm.lst hx;cases h1.2;cases ru;obtain ⟨its,_,pl,_⟩:=I.list (.of e1);exact call_isinstance (isinstance_false_list (by decide) ty_int Zi) ⟨(let ⟨o,e,c,_⟩:=pl.isList;⟨o,e,c⟩),fin⟩
      ·cases ht
     | ty n=>cases ht
    ·cases d with
     | non=>
      cases ht;cases hk'
      cases (show v=_ from h1)
      cases ru;exact call_isinstance (isinstance_false_none (by decide) ty_bool ZCr) fin
     | bl b=>
      cases ht;cases hk'
      cases (show v=_ from h1)
      cases ru;exact Iu (Tx:="bool") rfl ty_bool ZDH fin0
     | int b=>
      cases ht;cases hk'
      cases (show v=_ from h1)
      obtain ⟨tk,rfl⟩:=ru;exact call_isinstance (isinstance_false_int (by decide) ty_bool ZDG) fin
     | str b=>
      cases ht;cases hk'
      cases (show v=_ from h1)
      obtain ⟨tk,rfl⟩:=ru;exact call_isinstance (isinstance_false_str (by decide) ty_bool ZFA) fin
     | tup b=>
      cases ht;cases hk';obtain ⟨p,ws,rfl,hq,_⟩:=h1;cases ru;rw [hk] at hq;obtain ⟨its,_,pl,_⟩:=I.tuple hq;exact call_isinstance (isinstance_false_tuple (by decide) ty_bool ZCK) ⟨(let ⟨o,e,c,_⟩:=pl;⟨o,e,c⟩),fin⟩
     | fl b=>
      cases ht;cases hk';obtain ⟨p,ws,rfl,hq,_⟩:=h1;cases ru;have hq:=hq.sq;rw [hk] at hq;obtain ⟨its,_,pl,_⟩:=I.list hq;exact call_isinstance (isinstance_false_list (by decide) ty_bool Yz) ⟨(let ⟨o,e,c,_⟩:=pl.isList;⟨o,e,c⟩),fin⟩
     | ref b=>
      unfold tyD at ht;dsimp only at ht;split at ht
      ·rename_i xs hx;cases ht;cases hk';obtain ⟨ws,e1,_⟩:=sm.lst hx;cases h1.2;cases ru;obtain ⟨its,_,pl,_⟩:=I.list (.of e1);exact call_isinstance (isinstance_false_list (by decide) ty_bool Yz) ⟨(let ⟨o,e,c,_⟩:=pl.isList;⟨o,e,c⟩),fin⟩
      ·cases ht
     | ty n=>cases ht
    ·cases d with
     | non=>
      cases ht;cases hk'
      cases (show v=_ from h1)
      cases ru;exact call_isinstance (isinstance_false_none (by decide) ty_str ZEY) fin
     | bl b=>
      cases ht;cases hk'
      cases (show v=_ from h1)
      cases ru;exact call_isinstance (isinstance_false_bool (by decide) ty_str ZBq) fin
     | int b=>
      cases ht;cases hk'
      cases (show v=_ from h1)
      obtain ⟨tk,rfl⟩:=ru;exact call_isinstance (isinstance_false_int (by decide) ty_str ZC9) fin
     | str b=>
      cases ht;cases hk'
      cases (show v=_ from h1)
      obtain ⟨tk,rfl⟩:=ru;exact Iu (Tx:="str") (typeIs_str s _ _) ty_str ZEf fin0
     | tup b=>
      cases ht;cases hk';obtain ⟨p,ws,rfl,hq,_⟩:=h1;cases ru;rw [hk] at hq;obtain ⟨its,_,pl,_⟩:=I.tuple hq;exact call_isinstance (isinstance_false_tuple (by decide) ty_str ZF6) ⟨(let ⟨o,e,c,_⟩:=pl;⟨o,e,c⟩),fin⟩
     | fl b=>
      cases ht;cases hk';obtain ⟨p,ws,rfl,hq,_⟩:=h1;cases ru;have hq:=hq.sq;rw [hk] at hq;obtain ⟨its,_,pl,_⟩:=I.list hq;exact call_isinstance (isinstance_false_list (by decide) ty_str ZBB) ⟨(let ⟨o,e,c,_⟩:=pl.isList;⟨o,e,c⟩),fin⟩
     | ref b=>
      unfold tyD at ht;dsimp only at ht;split at ht
      ·rename_i xs hx;cases ht;cases hk';obtain ⟨ws,e1,_⟩:=sm.lst hx;cases h1.2;cases ru;obtain ⟨its,_,pl,_⟩:=I.list (.of e1);exact call_isinstance (isinstance_false_list (by decide) ty_str ZBB) ⟨(let ⟨o,e,c,_⟩:=pl.isList;⟨o,e,c⟩),fin⟩
      ·cases ht
     | ty n=>cases ht
    ·cases d with
     | non=>
      cases ht;cases hk'
      cases (show v=_ from h1)
      cases ru;exact call_isinstance (isinstance_false_none (by decide) ty_tuple ZGh) fin
     | bl b=>
      cases ht;cases hk'
      cases (show v=_ from h1)
      cases ru;exact call_isinstance (isinstance_false_bool (by decide) ty_tuple ZFL) fin
     | int b=>
      cases ht;cases hk'
      cases (show v=_ from h1)
      obtain ⟨tk,rfl⟩:=ru;exact call_isinstance (isinstance_false_int (by decide) ty_tuple ZEg) fin
     | str b=>
      cases ht;cases hk'
      cases (show v=_ from h1)
      obtain ⟨tk,rfl⟩:=ru;exact call_isinstance (isinstance_false_str (by decide) ty_tuple ZEJ) fin
     | tup b=>
      cases ht;cases hk';obtain ⟨p,ws,rfl,hq,_⟩:=h1;cases ru;rw [hk] at hq;obtain ⟨its,_,pl,_⟩:=I.tuple hq;exact Iu (Tx:="tuple") pl.typeIs ty_tuple ZDM fin0
     | fl b=>
      cases ht;cases hk';obtain ⟨p,ws,rfl,hq,_⟩:=h1;cases ru;have hq:=hq.sq;rw [hk] at hq;obtain ⟨its,_,pl,_⟩:=I.list hq;exact call_isinstance (isinstance_false_list (by decide) ty_tuple ZAK) ⟨(let ⟨o,e,c,_⟩:=pl.isList;⟨o,e,c⟩),fin⟩
     | ref b=>
      unfold tyD at ht;dsimp only at ht;split at ht
      ·rename_i xs hx;cases ht;cases hk';obtain ⟨ws,e1,_⟩:=sm.lst hx;cases h1.2;cases ru;obtain ⟨its,_,pl,_⟩:=I.list (.of e1);exact call_isinstance (isinstance_false_list (by decide) ty_tuple ZAK) ⟨(let ⟨o,e,c,_⟩:=pl.isList;⟨o,e,c⟩),fin⟩
      ·cases ht
     | ty n=>cases ht
    ·cases d with
     | non=>
      cases ht;cases hk'
      cases (show v=_ from h1)
      cases ru;exact call_isinstance (isinstance_false_none (by decide) ty_list ZFy) fin
     | bl b=>
      cases ht;cases hk'
      cases (show v=_ from h1)
      cases ru;exact call_isinstance (isinstance_false_bool (by decide) ty_list ZGJ) fin
     | int b=>
      cases ht;cases hk'
      cases (show v=_ from h1)
      obtain ⟨tk,rfl⟩:=ru;exact call_isinstance (isinstance_false_int (by decide) ty_list ZFP) fin
     | str b=>
      cases ht;cases hk'
      cases (show v=_ from h1)
      obtain ⟨tk,rfl⟩:=ru;exact call_isinstance (isinstance_false_str (by decide) ty_list ZFc) fin
     | tup b=>
      cases ht;cases hk';obtain ⟨p,ws,rfl,hq,_⟩:=h1;cases ru;rw [hk] at hq;obtain ⟨its,_,pl,_⟩:=I.tuple hq;exact call_isinstance (isinstance_false_tuple (by decide) ty_list ZBv) ⟨(let ⟨o,e,c,_⟩:=pl;⟨o,e,c⟩),fin⟩
     | fl b=>
      cases ht;cases hk';obtain ⟨p,ws,rfl,hq,_⟩:=h1;cases ru;have hq:=hq.sq;rw [hk] at hq;obtain ⟨its,_,pl,_⟩:=I.list hq;exact Iu (Tx:="list") pl.isList.typeIs ty_list ZAV fin0
     | ref b=>
      unfold tyD at ht;dsimp only at ht;split at ht
      ·rename_i xs hx;cases ht;cases hk';obtain ⟨ws,e1,_⟩:=sm.lst hx;cases h1.2;cases ru;obtain ⟨its,_,pl,_⟩:=I.list (.of e1);exact Iu (Tx:="list") pl.isList.typeIs ty_list ZAV fin0
      ·cases ht
     | ty n=>cases ht
    ·cases hk'
   ·exact q.elim
  ·exact q.elim
 ·exact q.elim
end
def Ex:List D->Option (List Int)
 | []=>some []
 | .int i::r=>(Ex r).map (i::·)
 | _=>none
def Fq:List D->Option (List Bool)
 | []=>some []
 | .bl i::r=>(Fq r).map (i::·)
 | _=>none
@[simp] theorem ZDk (ns:List Int):Ex (ns.map D.int)=some ns:=by
 induction ns with
 | nil=>rfl
 | cons n ns ih=>simp [Ex,ih]
@[simp] theorem ZHk (ns:List Bool):Fq (ns.map D.bl)=some ns:=by
 induction ns with
 | nil=>rfl
 | cons n ns ih=>simp [Fq,ih]
theorem Yp:∀{xs:List D} {ns:List Int},Ex xs=some ns->xs=ns.map D.int
 | [],ns,h=>by cases h;rfl
 | .int i::r,ns,h=>by simp only [Ex,Option.map_eq_some_iff] at h;obtain ⟨ms,h1,rfl⟩:=h;rw [List.map_cons,Yp h1]
 | .non::r,ns,h=>by simp [Ex] at h
 | .bl _::r,ns,h=>by simp [Ex] at h
 | .str _::r,ns,h=>by simp [Ex] at h
 | .ty _::r,ns,h=>by simp [Ex] at h
 | .tup _::r,ns,h=>by simp [Ex] at h
 | .fl _::r,ns,h=>by simp [Ex] at h
 | .ref _::r,ns,h=>by simp [Ex] at h
theorem Yq:∀{xs:List D} {ns:List Bool},Fq xs=some ns->xs=ns.map D.bl
 | [],ns,h=>by cases h;rfl
 | .bl i::r,ns,h=>by simp only [Fq,Option.map_eq_some_iff] at h;obtain ⟨ms,h1,rfl⟩:=h;rw [List.map_cons,Yq h1]
 | .non::r,ns,h=>by simp [Fq] at h
 | .int _::r,ns,h=>by simp [Fq] at h
 | .str _::r,ns,h=>by simp [Fq] at h
 | .ty _::r,ns,h=>by simp [Fq] at h
 | .tup _::r,ns,h=>by simp [Fq] at h
 | .fl _::r,ns,h=>by simp [Fq] at h
 | .ref _::r,ns,h=>by simp [Fq] at h
def fSum (ds:List D) (G:DH):R D:=match ds with
 | [d]=>match Bt d G with
  | some xs=>match Ex xs with
   | some ns=>.ok (.int ns.sum) G
   | none=>.bad
  | none=>.bad
 | _=>.bad
def Hz (ds:List D) (G:DH):R D:=match ds with
 | [d]=>match Bt d G with
  | some xs=>match Fq xs with
   | some ns=>.ok (.bl (ns.all id)) G
   | none=>.bad
  | none=>.bad
 | _=>.bad
section
variable {X:Cx} {E:XK} {pins:List (Addr×Obj)} {σ:St} {s:Shared} {H:Hp}
theorem ZBG (I:Inv X pins σ H s) (hc:X.calm=true) (h:SqL X.K H p vs∨SqT X.K H p vs) {E':Value->Shared->Prop} {Q:Value->Shared->Prop}
  (hQ:∀(it:Addr) (fp wr:List Addr) (its:List Value) (St:Nat->Heap->Prop) (s₂:Shared),Vals vs its->Walks X.prog X.w X.A.in1 it fp wr its.toArray.size (λi v=>its.toArray[i]? =some v) St->St 0 s₂.heap->(∀b∈fp,b < s₂.heap.objs.size)->
   (∀h' tk,(∀b o,b ∉ wr->s₂.heap.get? b=some o->h'.get? b=some o)->Inv X pins σ H {s₂ with heap:=h',toks:=tk})->Q (.ref it) s₂):
  wpAny (model X.prog X.w) X.A.in1 (pyIter (.ref p)) Q E' s:=by
 have hh:X.A.in1.handled=none:=I.ok.hd hc;rcases h with h | h
 ·obtain ⟨its,r,pl,hz⟩:=I.list h;refine wpAny_pyIter_list pl.isList ?_;have hp:p < s.heap.objs.size:=by obtain ⟨o,e,_⟩:=pl.isList;exact Heap.lt_size e
  refine hQ _ _ _ its _ _ r (Walks.list hh _ p (Nat.ne_of_lt hp) its.toArray) ⟨⟨_,Heap.get?_push_size _ rfl,rfl,rfl⟩,?_⟩ (λb hb=> ?_) λh' tk kk=> ?_
  ·obtain ⟨o,e,c⟩:=pl.isList;exact ⟨o,Heap.get?_push_of_some _ e,c⟩
  ·show b < (s.heap.push _).objs.size;rw [Heap.size_push];rcases List.mem_cons.mp hb with rfl | hb
   ·exact Nat.lt_succ_self _
   ·have e:b=p:=by simpa using hb
    subst e;exact Nat.lt_succ_of_lt hp
  ·refine I.kept λb o e=>kk b o (λhb=> ?_) (Heap.get?_push_of_some _ e)
   have e2:b=s.heap.objs.size:=by simpa using hb
   subst e2;exact absurd (Heap.lt_size e) (Nat.lt_irrefl _)
 ·obtain ⟨its,r,pl,hz⟩:=I.tuple h
  refine wpAny_pyIter_tuple (show s.heap.IsTuple p its.toArray from pl) ?_
  have hp:p < s.heap.objs.size:=by obtain ⟨o,e,_⟩:=pl;exact Heap.lt_size e
  refine hQ _ _ _ its _ _ r (Walks.tuple hh _ p (Nat.ne_of_lt hp) its.toArray) ⟨⟨_,Heap.get?_push_size _ rfl,rfl,rfl⟩,?_⟩ (λb hb=> ?_) λh' tk kk=> ?_
  ·obtain ⟨o,e,c⟩:=pl;exact ⟨o,Heap.get?_push_of_some _ e,c⟩
  ·show b < (s.heap.push _).objs.size;rw [Heap.size_push];rcases List.mem_cons.mp hb with rfl | hb
   ·exact Nat.lt_succ_self _
   ·have e:b=p:=by simpa using hb
    subst e;exact Nat.lt_succ_of_lt hp
  ·refine I.kept λb o e=>kk b o (λhb=> ?_) (Heap.get?_push_of_some _ e)
   have e2:b=s.heap.objs.size:=by simpa using hb
   subst e2;exact absurd (Heap.lt_size e) (Nat.lt_irrefl _)
theorem Yw:∀{ns:List Int} {vs:List V},Reps a (ns.map D.int) vs->vs=ns.map V.int
 | [],vs,h=>h
 | n::ns,vs,h=>by
  obtain ⟨v,r,e,h1,h2⟩:=h
  cases (show v=V.int n from h1)
  rw [e,Yw h2]
  rfl
theorem ZAS:∀{ns:List Bool} {vs:List V},Reps a (ns.map D.bl) vs->vs=ns.map V.bl
 | [],vs,h=>h
 | n::ns,vs,h=>by
  obtain ⟨v,r,e,h1,h2⟩:=h
  cases (show v=V.bl n from h1)
  rw [e,ZAS h2]
  rfl
theorem all_range (ns:List Bool):(List.range ns.length).all (λi=>ns.getD i true)=ns.all id:=by
 rw [Bool.eq_iff_iff,List.all_eq_true,List.all_eq_true];constructor
 ·intro h b hb;obtain ⟨i,hi,rfl⟩:=List.getElem_of_mem hb;simpa [hi] using h i (List.mem_range.mpr hi)
 ·intro h i hi;have hi':i < ns.length:=List.mem_range.mp hi;simpa [hi'] using h ns[i] (List.getElem_mem hi')
theorem Wg (hc:X.calm=true):CallR X (.builtin "all") (lRn X.K E Hz):=by
 intro pins s σ H vs us Q I rs h;obtain ⟨a,G,ds,hk,rfl,sm,r,q⟩:=h;unfold Hz at q;split at q
 ·rename_i d;obtain ⟨v,rfl,rv⟩:=reps1 r;split at q
  ·rename_i xs hs;split at q
   ·rename_i ns hn;cases Yq hn;obtain ⟨p,ws,rfl,h1,r1⟩:=Lg sm rv hs;cases ZAS r1;rw [hk] at h1;obtain ⟨u,rfl,ru⟩:=vals1 rs;cases ru;refine call_all_walk (ZBG I hc h1 λit fp wr its St s₂ hv W st hfp fin=>⟨it,fp,wr,its.toArray.size,_,St,λi=>ns.getD i true,rfl,W,st,λi w s' Q' E' hw hQ'=> ?_,λh' tk kk=> ?_⟩)
    ·have hw':its[i]? =some w:=by simpa using hw
     have hl:i < (ns.map V.bl).length:=by rw [hv.length];exact (List.getElem?_eq_some_iff.mp hw').1
     have hl':i < ns.length:=by simpa using hl
     obtain ⟨u,hu,ru⟩:=hv.get (i:=i) (x:=V.bl ns[i]) (by simp [hl']);rw [hw'] at hu;cases hu;cases ru;refine wpAny_truthy_bool ?_;simpa [hl'] using hQ'
    ·refine ⟨.bl (ns.all id),a.H,fin h' tk kk,?_,q a _ (Ext.refl a) sm rfl⟩;have hl:its.toArray.size=ns.length:=by rw [List.size_toArray,<-hv.length];simp
     rw [hl,all_range]
     rfl
   ·exact q.elim
  ·exact q.elim
 ·exact q.elim
end
section
variable {X:Cx} {pins:List (Addr×Obj)} {σ:St} {H:Hp} {s:Shared}
theorem ZAq {a:Addr} {o:HO} (I:Inv X pins σ H s) (hn:H a=none) (hy:X.s₀.heap.objs.size<=a) (hL:a≠X.env.locals) (hc:∀x c,X.env.cells.lookup x=some c->c≠a) (hp:∀p∈X.pn++pins,p.1≠a)
  (new:ObjOk X.prog X.w (upd H a o) s.heap a o):Inv X pins σ (upd H a o) s:=by
 have ne:∀b u,H b=some u->b≠a:=λb u e z=>by rw [z,hn] at e;cases e
 refine ⟨I.ok,I.os,I.bare,⟨I.base.keep,I.base.slot,λb ob q n hx=> ?_,I.base.there,λb xs q=> ?_,λb ob u q=> ?_,λb ps q=> ?_⟩,I.loc,I.cell,?_,λx c e=> ?_,λp hp'=> ?_,λb u e=> ?_,I.len⟩
 ·rw [Be (Nat.ne_of_lt (Nat.lt_of_lt_of_le (Heap.lt_size q) hy))];exact I.base.free b ob q n hx
 ·have:=I.base.tups b xs q;rw [Be (ne _ _ this)];exact this
 ·have:=I.base.frzs b ob u q;rw [Be (ne _ _ this)];exact this
 ·obtain ⟨more,this⟩:=I.base.tbls b ps q;exact ⟨more,by rw [Be (ne _ _ this)];exact this⟩
 ·rw [Be (Ne.symm hL)];exact I.free
 ·rw [Be (hc x c e)];exact I.G7 x c e
 ·obtain ⟨e1,e2,e3⟩:=I.pin p hp';exact ⟨e1,by rw [Be (hp p hp')];exact e2,e3⟩
 ·by_cases hb:b=a
  ·subst hb;rw [Ff] at e;cases e;exact new
  ·rw [Be hb] at e;exact (I.hok b u e).stay (λ_ _ _ q=>q) (λc q=>by rw [Be (ne _ _ q)];exact q) λc xs q=>by rw [Be (ne _ _ q)];exact q
end
def Eb (env:Env):List (Str×NameKind)->List (Str×Addr)->List (Str×Addr)
 | [],cs=>cs
 | (n,k)::r,cs=>if (k == NameKind.free)=true then Eb env r ((n,(env.cells.lookup n).getD 0)::cs) else Eb env r cs
theorem Z8 (h:∀y∈scope.names,y.2=.free->∃c,env.cells.lookup y.1=some c):closureFor scope env=pure (Eb env scope.names []):=by
 unfold closureFor;obtain ⟨kind,names,g1,g2⟩:=scope;have key:∀(names:List (Str×NameKind)) (cs:List (Str×Addr)),(∀y∈names,y.2=.free->∃c,env.cells.lookup y.1=some c)->
   (forIn names cs (λx r=>match x with
    | (name,kind)=>if (kind == NameKind.free)=true then (do let c<-cellOf env name;pure (ForInStep.yield ((name,c)::r))) else pure (ForInStep.yield r)):Sem (List (Str×Addr)))=pure (Eb env names cs):=by
  intro names
  induction names with
  | nil=>intro cs _;rfl
  | cons y r ih=>
   intro cs hy;obtain ⟨n,k⟩:=y;rw [List.forIn_cons];by_cases hk:(k == NameKind.free)=true
   ·obtain ⟨c,hc⟩:=hy (n,k) List.mem_cons_self (by simpa using hk)
    have e1:cellOf env n=pure c:=by unfold cellOf;rw [show env.cells.lookup n=some c from hc]
    have e2:Eb env ((n,k)::r) cs=Eb env r ((n,c)::cs):=by rw [Eb,if_pos hk,show env.cells.lookup n=some c from hc];rfl
    rw [e2,<-ih ((n,c)::cs) λy' hy'=>hy y' (List.mem_cons_of_mem _ hy')];simp only [hk,if_true,e1]
    rfl
   ·have e2:Eb env ((n,k)::r) cs=Eb env r cs:=by rw [Eb,if_neg hk]
    rw [e2,<-ih cs λy' hy'=>hy y' (List.mem_cons_of_mem _ hy')];simp only [hk]
    rfl
 have:=key names [] h;exact congrArg (λm:Sem (List (Str×Addr))=>m >>=λr=>pure r) this
theorem Wz:∀{names:List (Str×NameKind)} {cs:List (Str×Addr)},(∀y∈names,y.2=.free->∃c,env.cells.lookup y.1=some c)->(∀p∈cs,env.cells.lookup p.1=some p.2)->∀p∈Eb env names cs,env.cells.lookup p.1=some p.2
 | [],cs,_,hc,p,hp=>hc p hp
 | (n,k)::r,cs,hn,hc,p,hp=>by
  rw [Eb] at hp;split at hp
  ·rename_i hk;obtain ⟨c,e⟩:=hn (n,k) List.mem_cons_self (by simpa using hk);refine Wz (λy hy=>hn y (List.mem_cons_of_mem _ hy)) (λq hq=> ?_) p hp;rcases List.mem_cons.mp hq with rfl | hq
   ·rw [show env.cells.lookup n=some c from e];rfl
   ·exact hc q hq
  ·exact Wz (λy hy=>hn y (List.mem_cons_of_mem _ hy)) hc p hp
theorem Ri:∀{names:List (Str×NameKind)} {cs:List (Str×Addr)},((x,.free)∈names∨∃c,(x,c)∈cs)->∃c,(x,c)∈Eb env names cs
 | [],cs,h=>by
  rcases h with h | h
  ·cases h
  ·exact h
 | (n,k)::r,cs,h=>by
  rw [Eb];split
  ·refine Ri ?_;rcases h with h | ⟨c,h⟩
   ·rcases List.mem_cons.mp h with e | h
    ·cases e;exact .inr ⟨_,List.mem_cons_self⟩
    ·exact .inl h
   ·exact .inr ⟨c,List.mem_cons_of_mem _ h⟩
  ·rename_i hk;refine Ri ?_;rcases h with h | h
   ·rcases List.mem_cons.mp h with e | h
    ·cases e;exact absurd rfl hk
    ·exact .inl h
   ·exact .inr h
theorem W5 {c:Addr}:∀{l:List (Str×Addr)},(x,c)∈l->∃d,l.lookup x=some d
 | [],h=>by cases h
 | (y,d)::l,h=>by
  by_cases e:x=y
  ·subst e;exact ⟨d,by simp⟩
  ·rcases List.mem_cons.mp h with z | h
   ·cases z;exact absurd rfl e
   ·obtain ⟨d',q⟩:=W5 h;exact ⟨d',by rw [List.lookup_cons,beq_eq_false_iff_ne.mpr e];exact q⟩
theorem Zo (x:Str):(relabel scope env).names.lookup x=(scope.names.lookup x).map λk=>if (k == NameKind.free && env.scope.kind == .function && env.kindOf x == some .cell)=true then .cell else k:=by
 unfold relabel;generalize scope.names=l
 induction l with
 | nil=>rfl
 | cons y r ih=>
  obtain ⟨n,k⟩:=y;by_cases e:x=n
  ·subst e;simp only [List.map_cons]
   cases hc:(k == NameKind.free && env.scope.kind == ScopeKind.function && env.kindOf x == some NameKind.cell) <;>
    simp only [hc,if_true,List.lookup_cons,beq_self_eq_true,Option.map_some,Bool.false_eq_true,if_false]
  ·have hb:(x == n)=false:=beq_eq_false_iff_ne.mpr e;simp only [List.map_cons];split
   ·rw [List.lookup_cons,List.lookup_cons,hb];exact ih
   ·rw [List.lookup_cons,List.lookup_cons,hb];exact ih
def blk (X:Cx) (N:List Str) (scope:Scope) (C:Addr) (s₀:Shared) (H₀:Hp) (ex:List Addr):Cx where
 prog:=X.prog
 w:=X.w
 K:=X.K
 mg:=X.mg
 base:=X.base
 A:=X.A
 N:=N
 s₀:=s₀
 H₀:=H₀
 env:=compEnvC scope (Eb X.env scope.names []) C X.env
 outer:=X.stack
 stack:=X.stack
 ex:=ex
 fn:=λ_=>false
 calm:=X.calm
 pn:= []
 xe:=λ_ _=>False
structure CompSc (X:Cx) (N:List Str) (scope:Scope) (nt:Nat) (caps:List Nat):Prop where
 kind:scope.kind=.function
 names:∀y∈scope.names,y.2=.local->scope.names.lookup y.1=some .local
 nocell:∀y∈scope.names,y.2≠ .cell
 free:∀y∈scope.names,y.2=.free->X.env.kindOf y.1=some .cell∨X.env.kindOf y.1=some .free
 nd:N.Nodup
 len:N.length=nt + caps.length
 cap:∀(k j:Nat),caps[k]? =some j->∃x,X.N[j]? =some x/\N[nt + k]? =some x/\scope.names.lookup x=some .free
section
variable {X:Cx} {pins:List (Addr×Obj)} {σ:St} {H:Hp} {s:Shared} {N:List Str} {scope:Scope} {nt:Nat} {caps:List Nat}
theorem CompSc.cells (c:CompSc X N scope nt caps) (ok:X.Ok):∀y∈scope.names,y.2=.free->∃c,X.env.cells.lookup y.1=some c:=λy hy hk=>ok.has y.1 (c.free y hy hk)
theorem CompSc.cl (c:CompSc X N scope nt caps) (ok:X.Ok) {d:Addr} (h:(Eb X.env scope.names []).lookup x=some d):X.env.cells.lookup x=some d:=
 Wz (c.cells ok) (λp hp=>by cases hp) (x,d) (PySem.mem_of_lookup h)
theorem ZC4 (c:CompSc X N scope nt caps) (I:Inv X pins σ H s) {fp:List Addr} (hf:∀b∈fp,FpOk X pins H b) {C:Addr} (hC:s.heap.objs.size<=C) (hCf:C ∉ fp):(blk X N scope C s H fp).Ok where
 mod:=I.ok.mod
 kind:=c.kind
 glob:=I.ok.glob
 blt:=I.ok.blt
 above:=hC
 inj:=λx y d h1 h2=>I.ok.inj x y d (c.cl I.ok h1) (c.cl I.ok h2)
 has:=λx h=>by
  have h':(relabel scope X.env).names.lookup x=some .cell∨(relabel scope X.env).names.lookup x=some .free:=h;rw [Zo] at h';have hfree:scope.names.lookup x=some .free:=by
   cases e:scope.names.lookup x with
   | none=>rw [e] at h';rcases h' with h' | h' <;> cases h'
   | some k=>
    rw [e] at h';cases k with
    | free=>rfl
    | cell=>exact absurd rfl (c.nocell _ (PySem.mem_of_lookup e))
    | _=>rcases h' with h' | h' <;> (simp at h')
  obtain ⟨d,hd⟩:=Ri (env:=X.env) (x:=x) (names:=scope.names) (cs:= []) (.inl (PySem.mem_of_lookup hfree));exact W5 hd
 cab:=λx d h=>by cases h
 hd:=I.ok.hd
 frames:=I.ok.frames
 stk:=.inl rfl
 exf:=λb hb=>⟨λz=>hCf (by rw [<-show b=C from z];exact hb),λx d h=>(hf b hb).2.2.2.2.1 x d (c.cl I.ok h)⟩
 bs:=I.bs
 bsz:=Nat.le_trans I.ok.bsz I.sz
 noex:=λb o e hb=>by
  rcases (hf b hb).2.2.2.1 with h | h
  ·exact I.ok.noex b o e h
  ·exact absurd (Nat.lt_of_lt_of_le (Heap.lt_size (I.ok.bs b o e).1) h) (Nat.lt_irrefl _)
 exfs:=λb hb hz=>by
  rcases List.mem_cons.mp (I.Ro b hz) with z | z
  ·exact (hf b hb).2.1 z
  ·exact (hf b hb).2.2.1 z
 funs:=I.stack
 frf:=I.ZBP
end
def Cu (g:DG) (c:DB) (te:DE) (S:DSt):List D->DH->R (List D)
 | [],G=>.ok [] G
 | x::xs,G=>(g x S G).bind λS1 G1=>(c S1 G1).bind λk G2=>
   if k=true then (te S1 G2).bind λd G3=>(Cu g c te S xs G3).bind λds G4=>.ok (d::ds) G4 else Cu g c te S xs G2
def Ed (i:Nat) (g:DG) (c:DB) (te:DE) (S:DSt):Nat->Nat->DH->R (List D)
 | 0,j,G=>match G[i]? with
  | some (.lst xs)=>if xs.length<=j then .ok [] G else .bad
  | _=>.bad
 | n + 1,j,G=>match G[i]? with
  | some (.lst xs)=>match xs[j]? with
   | some x=>(g x S G).bind λS1 G1=>(c S1 G1).bind λk G2=>
     if k=true then (te S1 G2).bind λd G3=>(Ed i g c te S n (j + 1) G3).bind λds G4=>.ok (d::ds) G4 else Ed i g c te S n (j + 1) G2
   | none=>.ok [] G
  | _=>.bad
def Ez (f:Nat->DH->Option (Option D)) (g:DG) (c:DB) (te:DE) (S:DSt):Nat->Nat->DH->R (List D)
 | 0,j,G=>match f j G with
  | some none=>.ok [] G
  | _=>.bad
 | n + 1,j,G=>match f j G with
  | some (some x)=>(g x S G).bind λS1 G1=>(c S1 G1).bind λk G2=>
     if k=true then (te S1 G2).bind λd G3=>(Ez f g c te S n (j + 1) G3).bind λds G4=>.ok (d::ds) G4 else Ez f g c te S n (j + 1) G2
  | some none=>.ok [] G
  | none=>.bad
def Bb (nt:Nat) (caps:List Nat) (S:DSt):DSt:=List.replicate nt none++caps.map λj=>(S[j]?).join
def Dp (it:DI) (nt:Nat) (caps:List Nat) (g:DG) (c:DB) (te:DE):DE:=λS G=>(it S G).bind λJ G1=>(match J with
 | .pure xs=>Cu g c te (Bb nt caps S) xs G1
 | .mt i=>match G1[i]? with
  | some (.lst xs)=>Ed i g c te (Bb nt caps S) xs.length 0 G1
  | _=>.bad
 | .fn n f=>Ez f g c te (Bb nt caps S) n 0 G1).bind An
def Bm:DB:=λ_ G=>.ok true G
def GK (nt:Nat) (g:DG):Prop:=∀d S G S1 G1,g d S G=.ok S1 G1->∀i e,nt<=i->S[i]? =some (some e)->S1[i]? =some (some e)
def GKs (nt:Nat) (g:DGs):Prop:=∀d S G S1 G1,g d S G=.ok S1 G1->∀i e,nt<=i->S[i]? =some (some e)->S1[i]? =some (some e)
theorem Du (h:i < nt):GK nt (gV i):=λd S G S1 G1 e j x hj hx=>by cases e;rw [List.getElem?_set_ne (by omega)];exact hx
theorem ZAz:GKs nt Fx:=λd S G S1 G1 e j x hj hx=>by
 cases d with
 | nil=>cases e;exact hx
 | cons _ _=>cases e
theorem Qt {t:DG} {u:DGs} (h1:GK nt t) (h2:GKs nt u):GKs nt (Dc t u):=λd S G S1 G1 e j x hj hx=>by
 cases d with
 | nil=>cases e
 | cons a r=>
  have e':(t a S G).bind (λS1 G1=>u r S1 G1)=.ok S1 G1:=e;cases ht:t a S G with
  | ok S2 G2=>rw [ht] at e';exact h2 _ _ _ _ _ e' j x hj (h1 _ _ _ _ _ ht j x hj hx)
  | err _ _=>rw [ht] at e';cases e'
  | bad=>rw [ht] at e';cases e'
theorem Yy {n:Nat} {t:DGs} (h:GKs nt t):GK nt (Es n t):=λd S G S1 G1 e j x hj hx=>by
 cases d with
 | tup ds=>
  unfold Es at e;dsimp only at e;split at e
  ·exact h _ _ _ _ _ e j x hj hx
  ·cases e
 | _=>cases e
theorem ZCG {r:R DSt} {f:DSt->DH->R D} (h:out E a (r.bind f) Q):
  Dv E a r (λσ H=>∃(b:Wd) (S:DSt) (G:DH),b.H=H/\Ext a b/\Sim b G/\RepS b S σ/\r=.ok S G/\out E b (f S G) Q):=by
 cases r with
 | ok d G=>exact λb v x s q=>⟨b,d,G,rfl,x,s,q,rfl,out.mono x h⟩
 | err e G=>exact h
 | bad=>exact h
theorem R.bind_assoc {γ:Type} (r:R α) (f:α->DH->R β) (g:β->DH->R γ):(r.bind f).bind g=r.bind λa G=>(f a G).bind g:=by cases r <;> rfl
theorem ZBL {r:R ItD} {f:ItD->DH->R D} (h:out E a (r.bind f) Q):
  outI E a r (λJ H=>∃(b:Wd) (d:ItD) (G:DH),b.H=H/\Ext a b/\Sim b G/\RepI b d J/\r=.ok d G/\out E b (f d G) Q):=by
 cases r with
 | ok d G=>exact λb v x s q=>⟨b,d,G,rfl,x,s,q,rfl,out.mono x h⟩
 | err e G=>exact h
 | bad=>exact h
section
variable {prog:Program} {w:World} {A:Around} {R':Result->Shared->Prop} {s:Shared}
theorem Vs {elt target iter:Expr} {ifs:List Expr} {scope:Scope} {pos:Pos} {it acc:Value} {env:Env} (I:Nat->Shared->Prop)
  (turn:∀n s,I n s->wpAny (model prog w) A (pyNext it) (λr s₁=>match r with
   | none=>R' (.ok .next) s₁
   | some v=>wpAny (model prog w) A (letOwnedTupleGo target it v) (λ_ s₁=>wpAny (model prog w) A (assign target env v) (λ_ s₂=>
     wpAny (model prog w) A (forIn ifs true λc r=>if r=true then do let ok<-isTrue c env (eval c env);pure (ForInStep.yield ok) else pure (ForInStep.yield r)) (λok s₃=>
      if ok=true then wpAny (model prog w) A (eval elt env) (λx s₄=>
       wpAny (model prog w) A (call (.builtin "list.append") [acc,x]) (λ_ s₅=>∃m,m < n/\I m s₅) (λ_ _=>False) s₄) (λ_ _=>False) s₃
      else∃m,m < n/\I m s₃) (λ_ _=>False) s₂) (λ_ _=>False) s₁) (λ_ _=>False) s₁) (λ_ _=>False) s)
  (n:Nat) (h:I n s):
  codeAny (model prog w) A (.compLoop (.ListComp elt [⟨target,iter,ifs,0⟩] scope pos) 0 it acc env) R' s:=by
 refine codeAny_loop rfl I (λn s hI=> ?_) n h
 show wpAny _ A ((compTurn (.ListComp elt [⟨target,iter,ifs,0⟩] scope pos) 0 it acc env).onRaise (λx=>do noteFrame x env;theTreesLotGoes x)) _ _ s
 refine wpAny_noted ?_;rw [compTurn_list];refine wpAny_mono ?_ (λ_ _ q=>q) (λ_ _ (f:False)=>f.elim);refine wpAny_bind (wpAny_standAt (wpAny_bind (wpAny_mono (turn n s hI) (λr s₁ h₁=> ?_) λ_ _ h'=>h')));cases r with
 | none=>exact wpAny_pure h₁
 | some v=>
  refine wpAny_bind (wpAny_mono h₁ (λ_ s₂' h₁=> ?_) λ_ _ h'=>h');refine wpAny_bind (wpAny_mono h₁ (λ_ s₂ h₂=>wpAny_bind (wpAny_mono h₂ (λok s₃ h₃=> ?_) λ_ _ h'=>h')) λ_ _ h'=>h');cases ok with
  | false=>exact wpAny_pure ⟨rfl,h₃⟩
  | true=>
   exact wpAny_bind (wpAny_bind (wpAny_mono h₃ (λx s₄ h₄=>wpAny_bind (wpAny_mono h₄ (λ_ s₅ h₅=>wpAny_pure (wpAny_pure ⟨rfl,h₅⟩)) λ_ _ h'=>h')) λ_ _ h'=>h'))
end
def QTs (X:Cx) (E:XK) (ifs:List Expr) (t:DB):Prop:=
 ∀(pins:List (Addr×Obj)) (s:Shared) (σ:St) (H:Hp) (Q:Bool->Hp->Prop),Inv X pins σ H s->lB X.K E t σ H Q->
  wpAny (model X.prog X.w) X.A (forIn ifs true λc r=>if r=true then do let ok<-isTrue c X.env (eval c X.env);pure (ForInStep.yield ok) else pure (ForInStep.yield r)) (TP X pins σ Q) X.xe s
theorem Eu:QTs X E [] Bm:=λpins s σ H Q I h=>by obtain ⟨a,S,G,hk,rfl,sm,r,h⟩:=h;exact wpAny_tests_nil ⟨a.H,I,h a (Ext.refl a) sm⟩
section
variable {X:Cx} {E:XK} {N:List Str} {scope:Scope} {nt:Nat} {caps:List Nat} {tg elt iter:Expr} {ifs:List Expr} {pos:Pos} {it:DI} {g:DG} {c:DB} {te:DE}
theorem ZFa (r:RepS a S σ):RepS a (Bb nt caps S) (List.replicate nt none++caps.map λj=>(σ[j]?).join):=by
 refine ⟨by simp [Bb],λi d h=> ?_⟩;unfold Bb at h;by_cases hi:i < nt
 ·rw [List.getElem?_append_left (by simpa using hi),List.getElem?_replicate] at h
  split at h <;> cases h
 ·rw [List.getElem?_append_right (by simpa using hi),List.getElem?_map] at h;rw [List.getElem?_append_right (by simpa using hi),List.getElem?_map];rw [List.length_replicate] at h ⊢;cases e:caps[i - nt]? with
  | none=>rw [e] at h;cases h
  | some j=>
   rw [e] at h;have h1:(S[j]?).join=some d:=by simpa using h
   have h2:S[j]? =some (some d):=by
    cases q:S[j]? with
    | none=>rw [q] at h1;cases h1
    | some o=>
     rw [q] at h1;have h1':o=some d:=h1;rw [h1']
   obtain ⟨v,ev,rv⟩:=r.get j d h2;exact ⟨v,by simp [ev],rv⟩
theorem ZD3 (h:(Bb nt caps S)[i]? =some (some d)):nt<=i:=by
 unfold Bb at h;by_cases hi:i < nt
 ·rw [List.getElem?_append_left (by simpa using hi),List.getElem?_replicate] at h
  split at h <;> cases h
 ·omega
theorem ZAJ (hc:X.calm=true) (cs:CompSc X N scope nt caps)
  (hg:∀C s₀ H₀ ex,QG (blk X N scope C s₀ H₀ ex) E0 tg g) (gk:GK nt g) (hts:∀C s₀ H₀ ex,QTs (blk X N scope C s₀ H₀ ex) E0 ifs c) (he:∀C s₀ H₀ ex,QE (blk X N scope C s₀ H₀ ex) E0 elt te)
  {pins:List (Addr×Obj)} {σ:St} {s:Shared} {a:Wd} {S:DSt} {G:DH} {J:It} {d:ItD} {i0:Addr} {fp:List Addr} {tn:Nat->Heap->Prop} (I:Inv X pins σ a.H s) (hk:a.K=X.K) (sm:Sim a G) (rS:RepS a S σ)
  (T:Turn X.prog X.w X.K tg J fp i0 tn) (t0:tn 0 s.heap) (hf:∀b∈fp,FpOk X pins a.H b) (rJ:RepI a d J) {Q:VK}
  (h:out E0 a ((match d with
   | .pure xs=>Cu g c te (Bb nt caps S) xs G
   | .mt i=>match G[i]? with
    | some (.lst xs)=>Ed i g c te (Bb nt caps S) xs.length 0 G
    | _=>.bad
   | .fn n f=>Ez f g c te (Bb nt caps S) n 0 G).bind An) Q)
  {RR:Value->Addr->Result->Shared->Prop} {E':Value->Shared->Prop}
  (hRR:∀(D C:Addr) (s':Shared) (b:Wd) (vs:List V),Inv X pins σ (upd b.H D (.lst vs)) s'->b.H D=none->s.heap.objs.size<=C->D≠C->(∃m,s'.heap.Ns C m)->b.H C=none->Q (.ref D) (upd b.H D (.lst vs))->RR (.ref D) C (.ok .next) s'):
  wpAny (model X.prog X.w) X.A (newList []) (λacc s₃=>wpAny (model X.prog X.w) X.A (newFunctionEnv scope X.env.globals (Eb X.env scope.names []) [] X.env.qual none .none (some X.env)) (λcenv s₄=>
   codeAny (model X.prog X.w) X.A (.compStart (.ListComp elt [⟨tg,iter,ifs,0⟩] scope pos) 0 (.ref i0) acc {cenv with scope:=relabel scope X.env}) (RR acc cenv.locals) s₄) E' s₃) E' s:=by
 refine wpAny_newObj_type (wpAny_newFunctionEnv cs.nocell (by intro y hy;simp at hy) (λh₁ hns₁ hsb₁=> ?_) cs.kind);dsimp only at hns₁ hsb₁ ⊢;generalize hH2:s.heap.push {cls:=.type "list",dict:=none,data:=.seq ([]:List Value).toArray}=H2 at hns₁ hsb₁ ⊢;have hC:H2.objs.size=s.heap.objs.size + 1:=by rw [<-hH2,Heap.size_push]
 have hDC:s.heap.objs.size≠H2.objs.size:=by rw [hC];exact Nat.ne_of_lt (Nat.lt_succ_self _)
 have hCle:s.heap.objs.size<=H2.objs.size:=by rw [hC];exact Nat.le_succ _
 have fpOld:∀b∈fp,b < s.heap.objs.size:=λb hb=>by obtain ⟨o,e,_⟩:=T.obj 0 _ t0 b hb;exact Heap.lt_size e
 have hDf:s.heap.objs.size ∉ fp:=λhm=>Nat.lt_irrefl _ (fpOld _ hm)
 have hCf:H2.objs.size ∉ fp:=λhm=>by have:=fpOld _ hm;rw [hC] at this;exact Nat.lt_irrefl _ (Nat.lt_of_succ_lt this)
 have old:∀b o,s.heap.get? b=some o->h₁.get? b=some o:=λb o e=>
  hsb₁.extBut b o (by rw [hC];exact Nat.ne_of_lt (Nat.lt_succ_of_lt (Heap.lt_size e))) (Heap.get?_push_of_some _ (hH2 ▸ Heap.get?_push_of_some _ e))
 have hacc:h₁.PlainList s.heap.objs.size ([]:List Value).toArray:=⟨_,hsb₁.extBut _ _ hDC (Heap.get?_push_of_some _ (hH2 ▸ Heap.get?_push_size _ rfl))⟩;generalize hCe:H2.objs.size=C at *;generalize hDe:s.heap.objs.size=Dd at *;let B:=blk X N scope C s a.H fp;have okB:B.Ok:=ZC4 cs I hf (by rw [hDe];exact hCle) hCf;let σ0:St:=List.replicate nt none++caps.map λj=>(σ[j]?).join
 have start:∀tk,Inv B [] σ0 a.H {s with heap:=h₁,toks:=tk}:=λtk=>by
  refine ⟨okB,rfl,I.bare,Un.kept old,⟨_,hns₁,λi x v e1 e2 e3=> ?_⟩,λx d' e=> ?_,I.hok.fresh (by rw [hDe];exact hCle),λx d' e=> ?_,λp hp=> ?_,I.hok.kept old,?_⟩
  ·have hi:nt<=i:=by
    by_cases hi:i < nt
    ·have e2':σ0[i]? =some (some v):=e2;rw [List.getElem?_append_left (by simpa using hi),List.getElem?_replicate] at e2'
     split at e2' <;> cases e2'
    ·omega
   have e2':σ0[i]? =some (some v):=e2;rw [List.getElem?_append_right (by simpa using hi),List.getElem?_map,List.length_replicate] at e2';cases ej:caps[i - nt]? with
   | none=>rw [ej] at e2';cases e2'
   | some j=>
    rw [ej] at e2';have h1:(σ[j]?).join=some v:=by simpa using e2'
    have h2:σ[j]? =some (some v):=by
     cases q:σ[j]? with
     | none=>rw [q] at h1;cases h1
     | some o=>
      rw [q] at h1;have h1':o=some v:=h1;rw [h1']
    obtain ⟨y,ey,en,ek⟩:=cs.cap (i - nt) j ej;have exy:x=y:=by
     have:nt + (i - nt)=i:=by omega
     rw [this] at en;have e1':N[i]? =some x:=e1;rw [e1'] at en;exact Option.some.inj en
    subst exy;have kx:=cs.free (x,.free) (PySem.mem_of_lookup ek) rfl;have vis:Vis X.env.scope x:=by
     rcases kx with kx | kx
     ·exact .inr (.inl kx)
     ·exact .inr (.inr kx)
    obtain ⟨m,hn,hl⟩:=I.loc;obtain ⟨u,ru,lk⟩:=hl j x v ey h2 vis;refine ⟨u,ru,?_⟩;rcases lk with ⟨k1,_⟩ | ⟨k1,c1,ec,hcell⟩
    ·rcases kx with kx | kx
     ·rw [k1] at kx;cases kx
     ·rw [k1] at kx;cases kx
    ·refine .inr ⟨?_,c1,?_,?_⟩
     ·show (relabel scope X.env).names.lookup x=some .cell∨(relabel scope X.env).names.lookup x=some .free;rw [Zo,ek];simp only [Option.map_some];split
      ·exact .inl rfl
      ·exact .inr rfl
     ·obtain ⟨d1,hd1⟩:=Ri (env:=X.env) (x:=x) (names:=scope.names) (cs:= []) (.inl (PySem.mem_of_lookup ek));obtain ⟨d2,hd2⟩:=W5 hd1;have:=cs.cl I.ok hd2;rw [ec] at this;cases this;exact hd2
     ·obtain ⟨o,e,dd⟩:=hcell;exact ⟨o,old _ _ e,dd⟩
  ·obtain ⟨v,o,e',dd⟩:=I.cell x d' (cs.cl I.ok e);exact ⟨v,o,old _ _ e',dd⟩
  ·exact I.G7 x d' (cs.cl I.ok e)
  ·exact absurd hp (by simp [B,blk])
  ·show σ0.length=N.length;rw [cs.len];simp [σ0]
 have rS0:RepS a (Bb nt caps S) σ0:=ZFa rS;have aD:a.H Dd=none:=I.hok.fresh (by rw [hDe];exact Nat.le_refl _);have young:∀b∈fp,b≠C:=λb hb z=>hCf (z ▸ hb)
 have fpB:∀{H':Hp} {ps:List (Addr×Obj)},(∀b∈fp,H' b=none)->(∀p∈ps,p.1 ∉ fp)->∀b∈fp,FpOk B ps H' b:=λ{H' ps} hn hps b hb=>
  ⟨hn b hb,young b hb,okB.exfs b hb,.inl hb,λx d' e=>(hf b hb).2.2.2.2.1 x d' (cs.cl I.ok e),λp hp z=>by
   have hp':p∈ps:=by simpa [B,blk] using hp
   exact hps p hp' (z ▸ hb)⟩
 have nstk:Dd ∉ frs X.stack:=λz=>by
  rcases List.mem_cons.mp (I.Ro Dd z) with z | z
  ·have:=I.lt;rw [hDe,<-z] at this;exact Nat.lt_irrefl _ this
  ·exact I.nofs (by rw [hDe];exact Nat.le_refl _) z
 have pinD:∀{σ':St} {H':Hp} {s':Shared} {its:List Value} {nD:Nat},Inv B [] σ' H' s'->s'.heap.get? Dd=some {cls:=.type "list",data:=.seq its.toArray nD}->H' Dd=none->Inv B [(Dd,{cls:=.type "list",data:=.seq its.toArray nD})] σ' H' s':=λ{σ' H' s' its nD} J e n=>
  J.Gb λp hp=>by
   have ep:p=(Dd,{cls:=.type "list",data:=.seq its.toArray nD}):=by simpa using hp
   subst ep;exact ⟨e,n,hDC,nstk,λv' z=>by cases z⟩
 have fin:∀(s':Shared) (b:Wd) (σ':St) (its:List Value) (ds:List D) (G':DH),Inv B [] σ' b.H s'->Ext a b->Sim b G'->s'.heap.PlainList Dd its.toArray->b.H Dd=none->(∃vs,Vals vs its/\Reps b ds vs)->out E0 b (An ds G') Q->RR (.ref Dd) C (.ok .next) s':=by
  intro s' b σ' its ds G' IB x sb pl hD ⟨vs,hv,rv⟩ hq;have hz:ds.length<=1000000:=by
   unfold An at hq;split at hq
   ·assumption
   ·exact hq.elim
  have Ix:Inv X pins σ b.H s':=I.call' IB.os IB.base IB.hok IB.bare λb hb=>⟨(hf b hb).2.2.2.1,(hf b hb).2.1,(hf b hb).2.2.2.2.1,(hf b hb).2.2.2.2.2⟩
  obtain ⟨n,eD⟩:=pl;have ylt:∀{q:Addr} {o:Obj},s.heap.get? q=some o->q≠Dd:=λe z=>by rw [z,<-hDe] at e;exact absurd (Heap.lt_size e) (Nat.lt_irrefl _)
  have Ia:Inv X pins σ (upd b.H Dd (.lst vs)) s':=by
   refine ZAq Ix hD (by rw [<-hDe];exact I.sz) ?_ (λy c' ec=> ?_) (λp hp=> ?_) ⟨?_,its,n,hv,eD⟩
   ·rw [<-hDe];exact Nat.ne_of_gt I.lt
   ·obtain ⟨v,o,e,_⟩:=I.cell y c' ec;exact ylt e
   ·exact ylt (I.pin p hp).1
   ·rw [<-rv.length];exact Nat.le_trans hz size6
  refine hRR Dd C s' b vs Ia hD hCle hDC (let ⟨m,hn,_⟩:=IB.loc;⟨m,hn⟩) IB.free ?_;unfold An at hq;rw [if_pos hz] at hq;exact Oh sb rv hq Dd hD
 have turnX:∀(n:Nat) (P:Nat->Shared->Prop) (rest:DH->R (List D)) (s1:Shared) (b:Wd) (G1:DH) (σ1:St) (its:List Value) (acc:List D) (u:Value) (v:V) (x:D) (i:Nat),Inv B [] σ1 b.H s1->Ext a b->Sim b G1->RepS b (Bb nt caps S) σ1->tn i s1.heap->(∀q∈fp,b.H q=none)->
   s1.heap.PlainList Dd its.toArray->b.H Dd=none->(∃vs,Vals vs its/\Reps b acc vs)->RelV v u->Rep b x v->
   out E0 b (((g x (Bb nt caps S) G1).bind λS1 G1=>(c S1 G1).bind λk G2=>if k=true then (te S1 G2).bind λd G3=>(rest G3).bind λds G4=>.ok (d::ds) G4 else rest G2).bind λds G=>An (acc++ds) G) Q->
   (∀(s2:Shared) (b2:Wd) (G2:DH) (σ2:St) (its2:List Value) (acc2:List D),Inv B [] σ2 b2.H s2->Ext a b2->Sim b2 G2->RepS b2 (Bb nt caps S) σ2->tn i s2.heap->(∀q∈fp,b2.H q=none)->
    s2.heap.PlainList Dd its2.toArray->b2.H Dd=none->(∃vs,Vals vs its2/\Reps b2 acc2 vs)->out E0 b2 ((rest G2).bind λds G=>An (acc2++ds) G) Q->∃m,m < n/\P m s2)->
   wpAny (model X.prog X.w) X.A (assign tg B.env u) (λ_ s₂=>
     wpAny (model X.prog X.w) X.A (forIn ifs true λc r=>if r=true then do let ok<-isTrue c B.env (eval c B.env);pure (ForInStep.yield ok) else pure (ForInStep.yield r)) (λok s₃=>
      if ok=true then wpAny (model X.prog X.w) X.A (eval elt B.env) (λx s₄=>
       wpAny (model X.prog X.w) X.A (call (.builtin "list.append") [.ref Dd,x]) (λ_ s₅=>∃m,m < n/\P m s₅) (λ_ _=>False) s₄) (λ_ _=>False) s₃
      else∃m,m < n/\P m s₃) (λ_ _=>False) s₂) (λ_ _=>False) s1:=by
  intro n P rest s1 b G1 σ1 its acc u v x i I1 x1 sb rSb t1 hfp pl hD hacc' ru rx hq next
  rw [R.bind_assoc] at hq;obtain ⟨nD,eD⟩:=id pl;let pinD:List (Addr×Obj):= [(Dd,{cls:=.type "list",data:=.seq its.toArray nD})];have pinOk:∀{σ':St} {H':Hp} {s':Shared},Inv B (pinD++Km fp s1.heap) σ' H' s'->s'.heap.PlainList Dd its.toArray/\H' Dd=none/\tn i s'.heap/\∀q∈fp,H' q=none:=λ{σ' H' s'} J=>by
   have p1:=J.pin (Dd,{cls:=.type "list",data:=.seq its.toArray nD}) (List.mem_append_right _ (List.mem_append_left _ (by simp [pinD])));refine ⟨⟨nD,p1.1⟩,p1.2.1,T.keep _ _ _ t1 λq hq' o e=>(J.pin (q,o) (List.mem_append_right _ (List.mem_append_right _ (Qw hq' e)))).1,λq hq'=> ?_⟩;obtain ⟨o,e,_⟩:=T.obj _ _ t1 q hq';exact (J.pin (q,o) (List.mem_append_right _ (List.mem_append_right _ (Qw hq' e)))).2.1
  have I2:Inv B (pinD++Km fp s1.heap) σ1 b.H s1:=I1.Gb λp hp=>by
   rcases List.mem_append.mp hp with hp | hp
   ·have e:p=(Dd,{cls:=.type "list",data:=.seq its.toArray nD}):=by simpa [pinD] using hp
    subst e;refine ⟨eD,hD,hDC,λz=> ?_,λv' z=>by cases z⟩;exact nstk z
   ·obtain ⟨hb,e⟩:=Zh hp;obtain ⟨f0,f1,f2,_⟩:=fpB (ps:= []) hfp (λp hp=>by cases hp) p.1 hb;obtain ⟨o,e',dd⟩:=T.obj _ _ t1 p.1 hb;rw [e] at e';cases e';exact ⟨e,f0,f1,f2,dd⟩
  refine thn (hg C s a.H fp _ s1 σ1 b.H v u _ I2 ru ⟨b,Bb nt caps S,G1,x,x1.k.trans hk,rfl,sb,rSb,rx,(ZCG hq).imp λ_ _ z=>z⟩) ?_;rintro _ s2 ⟨σ2,H2',J2,b2,S2,G2,rfl,y2,sb2,rS2,eg,hq2⟩;rw [R.bind_assoc] at hq2;have rS2':RepS b2 (Bb nt caps S) σ2:=⟨by have h1:=J2.len;have h2:σ1.length=N.length:=I1.len;rw [rSb.len,h2];exact h1.symm,λj e' hj=>rS2.get j e' (gk _ _ _ _ _ eg j e' (ZD3 hj) hj)⟩
  refine thn (hts C s a.H fp _ s2 σ2 b2.H _ J2 ⟨b2,S2,G2,y2.k.trans (x1.k.trans hk),rfl,sb2,rS2,(ZEH hq2).imp λ_ _ z=>z⟩) ?_;rintro k s3 ⟨H3,J3,b3,G3,rfl,y3,sb3,_,hq3⟩;cases k with
  | false=>
   obtain ⟨p1,p2,p3,p4⟩:=pinOk J3;have Jn:Inv B [] σ2 b3.H s3:=J3.Gb λp hp=>by cases hp
   obtain ⟨vs,hv,rv⟩:=hacc'
   exact next s3 b3 G3 σ2 its acc Jn (x1.trans (y2.trans y3)) sb3 (rS2'.mono y3) p3 p4 p1 p2 ⟨vs,hv,(rv.mono y2).mono y3⟩ hq3
  | true=>
   have hq3':out E0 b3 (((te S2 G3).bind λd G3=>(rest G3).bind λds G4=>.ok (d::ds) G4).bind λds G=>An (acc++ds) G) Q:=hq3;rw [R.bind_assoc] at hq3';refine thn (he C s a.H fp _ s3 σ2 b3.H _ J3 ⟨b3,S2,G3,y3.k.trans (y2.k.trans (x1.k.trans hk)),rfl,sb3,rS2.mono y3,(Gh hq3').imp λ_ _ z=>z⟩) ?_;rintro w s4 ⟨vw,H4,J4,rw',b4,d4,G4,rfl,y4,sb4,q4,_,hq4⟩;obtain ⟨p1,p2,p3,p4⟩:=pinOk J4;rw [R.bind_assoc] at hq4
   have hq4':out E0 b4 ((rest G4).bind λds G=>An ((acc++ [d4])++ds) G) Q:=by
    have e:(λ(ds:List D) (G:DH)=>(R.ok (d4::ds) G).bind λds G=>An (acc++ds) G)=λds G=>An ((acc++ [d4])++ds) G:=by funext ds G;simp
    rw [<-e];exact hq4
   obtain ⟨vs,hv,rv⟩:=hacc';have hsz:its.toArray.size<=sizeLine:=by
    have:acc.length<=1000000:=by
     cases hr:rest G4 with
     | ok ds G5=>
      rw [hr] at hq4';have hq5:out E0 b4 (An ((acc++ [d4])++ds) G5) Q:=hq4';unfold An at hq5;split at hq5
      ·rename_i hl;simp at hl;omega
      ·exact hq5.elim
     | err e' G5=>rw [hr] at hq4';exact hq4'.elim
     | bad=>rw [hr] at hq4';exact hq4'.elim
    rw [List.size_toArray,<-hv.length,<-rv.length];exact Nat.le_trans this size6
   refine wpAny_list_append_plain p1 (λh' hpl hsb=> ?_) hsz;have Jn:Inv B [] σ2 b4.H s4:=J4.Gb λp hp=>by cases hp
   have J5:Inv B [] σ2 b4.H {s4 with heap:=h'}:=by refine Jn.turned (it:=Dd) (t':=s4.toks) (λq o hq' e=>(hsb.2 q hq').trans e) p2 hDC (.inr (by show s.heap.objs.size<=Dd;rw [hDe];exact Nat.le_refl _)) (λy c' ec=> ?_) (λp hp=>absurd hp (by simp [B,blk]));obtain ⟨v',o,e,_⟩:=I.cell y c' (cs.cl I.ok ec);intro z;rw [z,<-hDe] at e;exact absurd (Heap.lt_size e) (Nat.lt_irrefl _)
   refine next _ b4 G4 σ2 (its++ [w]) (acc++ [d4]) J5 (x1.trans (y2.trans (y3.trans y4))) sb4 ((rS2'.mono y3).mono y4) (T.keep _ _ _ p3 λq hq' o e=>(hsb.2 q (λz=>hDf (z ▸ hq'))).trans e) p4 (by simpa using hpl) p2 ⟨vs++ [vw],hv.append (.cons rw' .nil),(((rv.mono y2).mono y3).mono y4).append (Reps.cons q4 Reps.nil)⟩ hq4'
 have loop:∀s₃:Shared,s₃={s with heap:=h₁,toks:=s.toks + ([]:List (Str×Value)).length}->
   codeAny (model X.prog X.w) X.A (.compLoop (.ListComp elt [⟨tg,iter,ifs,0⟩] scope pos) 0 (.ref i0) (.ref Dd) B.env) (RR (.ref Dd) C) s₃:=by
  rintro s₃ rfl;have t1:tn 0 h₁:=T.keep _ _ _ t0 λq _ o e=>old q o e
  have fp0:∀q∈fp,a.H q=none:=λq hq=>(hf q hq).1
  cases d with
  | pure xs=>
   obtain ⟨vs,rv,walk⟩:=rJ;refine Vs (λm s'=>∃(i:Nat) (b:Wd) (G':DH) (σ':St) (its:List Value) (acc:List D),m=vs.length - i/\i<=vs.length/\Inv B [] σ' b.H s'/\Ext a b/\Sim b G'/\RepS b (Bb nt caps S) σ'/\tn i s'.heap/\(∀q∈fp,b.H q=none)/\s'.heap.PlainList Dd its.toArray/\b.H Dd=none/\(∃vs,Vals vs its/\Reps b acc vs)/\
    out E0 b ((Cu g c te (Bb nt caps S) (xs.drop i) G').bind λds G=>An (acc++ds) G) Q) ?_ vs.length ⟨0,a,G,σ0,[],[],rfl,Nat.zero_le _,start _,Ext.refl a,sm,rS0,t1,fp0,hacc,aD,⟨[],.nil,rfl⟩,by simpa using h⟩
   rintro m s' ⟨i,b,G',σ',its,acc,rfl,hi,IB,x,sb,rSb,ti,hfp,pl,hD,hac,hq⟩;by_cases hl:i < vs.length
   ·have e1:vs[i]? =some vs[i]:=List.getElem?_eq_getElem hl;obtain ⟨d1,e2,rd⟩:=rv.get' e1;have hd:xs.drop i=d1::xs.drop (i + 1):=by
     have hlx:i < xs.length:=(List.getElem?_eq_some_iff.mp e2).1;rw [List.drop_eq_getElem_cons hlx]
     congr 1
     exact (List.getElem?_eq_some_iff.mp e2).2
    rw [hd] at hq;obtain ⟨go,yl⟩:=(walk b x i).1 _ e1;obtain ⟨nD,eD⟩:=pl;refine thn (T.item B rfl rfl rfl hc i _ s' σ' b.H _ (pinD IB eD hD) (fpB hfp (λp hp=>by
     have ep:p=(Dd,{cls:=.type "list",data:=.seq its.toArray nD}):=by simpa using hp
     subst ep;exact hDf)) ti go) ?_
    rintro r s1 ⟨u,rfl,hgo⟩;refine thn hgo ?_;rintro _ s2 ⟨v,H',I2,ru,y,t2,hfp2⟩;obtain ⟨rfl,rfl⟩:=yl v H' y;have pD:=(I2.pin (Dd,{cls:=.type "list",data:=.seq its.toArray nD}) (List.mem_append_right _ (by simp))).1;refine turnX _ _ (λG3=>Cu g c te (Bb nt caps S) (xs.drop (i + 1)) G3) s2 b G' σ' its acc u _ d1 (i + 1) (I2.Gb λp hp=>by cases hp) x sb rSb t2 hfp2 ⟨nD,pD⟩ hD hac ru (rd.mono x) hq ?_
    ·intro s3 b3 G3 σ3 its3 acc3 a1 a2 a3 a4 a5 a6 a7 a8 a9 a10;exact ⟨vs.length - (i + 1),by omega,i + 1,b3,G3,σ3,its3,acc3,rfl,hl,a1,a2,a3,a4,a5,a6,a7,a8,a9,a10⟩
   ·have e:i=vs.length:=by omega
    have hd:xs.drop i= []:=by rw [List.drop_eq_nil_iff,rv.length];omega
    rw [hd] at hq;have hq':out E0 b (An (acc++ []) G') Q:=hq;rw [List.append_nil] at hq';obtain ⟨nD,eD⟩:=pl;refine thn (T.done B rfl rfl rfl hc i _ s' σ' b.H _ (pinD IB eD hD) (fpB hfp (λp hp=>by
     have ep:p=(Dd,{cls:=.type "list",data:=.seq its.toArray nD}):=by simpa using hp
     subst ep;exact hDf)) ti ((walk b x i).2 (by omega))) ?_
    rintro r s1 ⟨rfl,I2⟩;have pD:=(I2.pin (Dd,{cls:=.type "list",data:=.seq its.toArray nD}) (List.mem_append_right _ (by simp))).1;exact fin s1 b σ' its acc G' (I2.Gb λp hp=>by cases hp) x sb ⟨nD,pD⟩ hD hac hq'
  | mt k=>
   obtain ⟨hkn,walk⟩:=rJ;dsimp only at h;split at h
   ·rename_i xs0 hx0;refine Vs (λm s'=>∃(i:Nat) (b:Wd) (G':DH) (σ':St) (its:List Value) (acc:List D),Inv B [] σ' b.H s'/\Ext a b/\Sim b G'/\RepS b (Bb nt caps S) σ'/\tn i s'.heap/\(∀q∈fp,b.H q=none)/\s'.heap.PlainList Dd its.toArray/\b.H Dd=none/\(∃vs,Vals vs its/\Reps b acc vs)/\
     out E0 b ((Ed k g c te (Bb nt caps S) m i G').bind λds G=>An (acc++ds) G) Q) ?_ xs0.length ⟨0,a,G,σ0,[],[],start _,Ext.refl a,sm,rS0,t1,fp0,hacc,aD,⟨[],.nil,rfl⟩,by simpa using h⟩
    rintro m s' ⟨i,b,G',σ',its,acc,IB,x,sb,rSb,ti,hfp,pl,hD,hac,hq⟩;obtain ⟨nD,eD⟩:=pl;have I0:=pinD IB eD hD;have f0:=fpB (ps:= [(Dd,{cls:=.type "list",data:=.seq its.toArray nD})]) hfp (λp hp=>by
     have ep:p=(Dd,{cls:=.type "list",data:=.seq its.toArray nD}):=by simpa using hp
     subst ep;exact hDf)
    have stop:J.stop i b.H->out E0 b (An acc G') Q->wpAny (model X.prog X.w) X.A (pyNext (.ref i0)) (λr s₁=>match r with
      | none=>RR (.ref Dd) C (.ok .next) s₁
      | some v=>wpAny (model X.prog X.w) X.A (letOwnedTupleGo tg (.ref i0) v) (λ_ s₁=>wpAny (model X.prog X.w) X.A (assign tg B.env v) (λ_ s₂=>
       wpAny (model X.prog X.w) X.A (forIn ifs true λc r=>if r=true then do let ok<-isTrue c B.env (eval c B.env);pure (ForInStep.yield ok) else pure (ForInStep.yield r)) (λok s₃=>
        if ok=true then wpAny (model X.prog X.w) X.A (eval elt B.env) (λx s₄=>
         wpAny (model X.prog X.w) X.A (call (.builtin "list.append") [.ref Dd,x]) (λ_ s₅=>∃m',m' < m/\∃(i:Nat) (b:Wd) (G':DH) (σ':St) (its:List Value) (acc:List D),Inv B [] σ' b.H s₅/\Ext a b/\Sim b G'/\RepS b (Bb nt caps S) σ'/\tn i s₅.heap/\(∀q∈fp,b.H q=none)/\s₅.heap.PlainList Dd its.toArray/\b.H Dd=none/\(∃vs,Vals vs its/\Reps b acc vs)/\
          out E0 b ((Ed k g c te (Bb nt caps S) m' i G').bind λds G=>An (acc++ds) G) Q) (λ_ _=>False) s₄) (λ_ _=>False) s₃
        else∃m',m' < m/\∃(i:Nat) (b:Wd) (G':DH) (σ':St) (its:List Value) (acc:List D),Inv B [] σ' b.H s₃/\Ext a b/\Sim b G'/\RepS b (Bb nt caps S) σ'/\tn i s₃.heap/\(∀q∈fp,b.H q=none)/\s₃.heap.PlainList Dd its.toArray/\b.H Dd=none/\(∃vs,Vals vs its/\Reps b acc vs)/\
          out E0 b ((Ed k g c te (Bb nt caps S) m' i G').bind λds G=>An (acc++ds) G) Q) (λ_ _=>False) s₂) (λ_ _=>False) s₁) (λ_ _=>False) s₁) (λ_ _=>False) s':=by
     intro st hq';refine thn (T.done B rfl rfl rfl hc i _ s' σ' b.H _ I0 f0 ti st) ?_;rintro r s1 ⟨rfl,I2⟩;have pD:=(I2.pin (Dd,{cls:=.type "list",data:=.seq its.toArray nD}) (List.mem_append_right _ (by simp))).1;exact fin s1 b σ' its acc G' (I2.Gb λp hp=>by cases hp) x sb ⟨nD,pD⟩ hD hac hq'
    cases m with
    | zero=>
     unfold Ed at hq;split at hq
     ·rename_i xs hx;obtain ⟨vs,e1,rv⟩:=sb.lst hx;split at hq
      ·rename_i hl;exact stop ((walk b x vs e1 i).2 (by rw [<-rv.length];exact hl)) (by have hq':out E0 b (An (acc++ []) G') Q:=hq;rw [List.append_nil] at hq';exact hq')
      ·exact hq.elim
     ·exact hq.elim
    | succ m=>
     unfold Ed at hq;split at hq
     ·rename_i xs hx;obtain ⟨vs,e1,rv⟩:=sb.lst hx;split at hq
      ·rename_i d1 hd1;obtain ⟨v1,ev,rd⟩:=rv.get hd1;obtain ⟨go,yl⟩:=(walk b x vs e1 i).1 v1 ev;refine thn (T.item B rfl rfl rfl hc i _ s' σ' b.H _ I0 f0 ti go) ?_;rintro r s1 ⟨u,rfl,hgo⟩;refine thn hgo ?_;rintro _ s2 ⟨v,H',I2,ru,y,t2,hfp2⟩;obtain ⟨rfl,rfl⟩:=yl v H' y;have pD:=(I2.pin (Dd,{cls:=.type "list",data:=.seq its.toArray nD}) (List.mem_append_right _ (by simp))).1;refine turnX _ _ (λG3=>Ed k g c te (Bb nt caps S) m (i + 1) G3) s2 b G' σ' its acc u _ d1 (i + 1) (I2.Gb λp hp=>by cases hp) x sb rSb t2 hfp2 ⟨nD,pD⟩ hD hac ru rd hq ?_
       intro s3 b3 G3 σ3 its3 acc3 a1 a2 a3 a4 a5 a6 a7 a8 a9 a10;exact ⟨m,Nat.lt_succ_self _,i + 1,b3,G3,σ3,its3,acc3,a1,a2,a3,a4,a5,a6,a7,a8,a9,a10⟩
      ·rename_i hd1;have hl:xs.length<=i:=List.getElem?_eq_none_iff.mp hd1;exact stop ((walk b x vs e1 i).2 (by rw [<-rv.length];exact hl)) (by have hq':out E0 b (An (acc++ []) G') Q:=hq;rw [List.append_nil] at hq';exact hq')
     ·exact hq.elim
   ·exact h.elim
  | fn n0 f=>
   have walk:∀b:Wd,Ext a b->∀G,Sim b G->∀i,(∀d,f i G=some (some d)->J.go i b.H/\∀x H',J.yld i b.H x H'->∃c:Wd,c.H=H'/\Ext b c/\Sim c G/\Rep c d x)/\(f i G=some none->J.stop i b.H):=rJ;dsimp only at h;refine Vs (λm s'=>∃(i:Nat) (b:Wd) (G':DH) (σ':St) (its:List Value) (acc:List D),Inv B [] σ' b.H s'/\Ext a b/\Sim b G'/\RepS b (Bb nt caps S) σ'/\tn i s'.heap/\(∀q∈fp,b.H q=none)/\s'.heap.PlainList Dd its.toArray/\b.H Dd=none/\(∃vs,Vals vs its/\Reps b acc vs)/\
    out E0 b ((Ez f g c te (Bb nt caps S) m i G').bind λds G=>An (acc++ds) G) Q) ?_ n0 ⟨0,a,G,σ0,[],[],start _,Ext.refl a,sm,rS0,t1,fp0,hacc,aD,⟨[],.nil,rfl⟩,by simpa using h⟩
   rintro m s' ⟨i,b,G',σ',its,acc,IB,x,sb,rSb,ti,hfp,pl,hD,hac,hq⟩;obtain ⟨nD,eD⟩:=pl;have I0:=pinD IB eD hD;have f0:=fpB (ps:= [(Dd,{cls:=.type "list",data:=.seq its.toArray nD})]) hfp (λp hp=>by
    have ep:p=(Dd,{cls:=.type "list",data:=.seq its.toArray nD}):=by simpa using hp
    subst ep;exact hDf)
   have stop:J.stop i b.H->out E0 b (An acc G') Q->wpAny (model X.prog X.w) X.A (pyNext (.ref i0)) (λr s₁=>match r with
     | none=>RR (.ref Dd) C (.ok .next) s₁
     | some v=>wpAny (model X.prog X.w) X.A (letOwnedTupleGo tg (.ref i0) v) (λ_ s₁=>wpAny (model X.prog X.w) X.A (assign tg B.env v) (λ_ s₂=>
      wpAny (model X.prog X.w) X.A (forIn ifs true λc r=>if r=true then do let ok<-isTrue c B.env (eval c B.env);pure (ForInStep.yield ok) else pure (ForInStep.yield r)) (λok s₃=>
       if ok=true then wpAny (model X.prog X.w) X.A (eval elt B.env) (λx s₄=>
        wpAny (model X.prog X.w) X.A (call (.builtin "list.append") [.ref Dd,x]) (λ_ s₅=>∃m',m' < m/\∃(i:Nat) (b:Wd) (G':DH) (σ':St) (its:List Value) (acc:List D),Inv B [] σ' b.H s₅/\Ext a b/\Sim b G'/\RepS b (Bb nt caps S) σ'/\tn i s₅.heap/\(∀q∈fp,b.H q=none)/\s₅.heap.PlainList Dd its.toArray/\b.H Dd=none/\(∃vs,Vals vs its/\Reps b acc vs)/\
         out E0 b ((Ez f g c te (Bb nt caps S) m' i G').bind λds G=>An (acc++ds) G) Q) (λ_ _=>False) s₄) (λ_ _=>False) s₃
       else∃m',m' < m/\∃(i:Nat) (b:Wd) (G':DH) (σ':St) (its:List Value) (acc:List D),Inv B [] σ' b.H s₃/\Ext a b/\Sim b G'/\RepS b (Bb nt caps S) σ'/\tn i s₃.heap/\(∀q∈fp,b.H q=none)/\s₃.heap.PlainList Dd its.toArray/\b.H Dd=none/\(∃vs,Vals vs its/\Reps b acc vs)/\
         out E0 b ((Ez f g c te (Bb nt caps S) m' i G').bind λds G=>An (acc++ds) G) Q) (λ_ _=>False) s₂) (λ_ _=>False) s₁) (λ_ _=>False) s₁) (λ_ _=>False) s':=by
    intro st hq';refine thn (T.done B rfl rfl rfl hc i _ s' σ' b.H _ I0 f0 ti st) ?_;rintro r s1 ⟨rfl,I2⟩;have pD:=(I2.pin (Dd,{cls:=.type "list",data:=.seq its.toArray nD}) (List.mem_append_right _ (by simp))).1;exact fin s1 b σ' its acc G' (I2.Gb λp hp=>by cases hp) x sb ⟨nD,pD⟩ hD hac hq'
   cases m with
   | zero=>
    unfold Ez at hq;split at hq
    ·rename_i hf;exact stop ((walk b x G' sb i).2 hf) (by have hq':out E0 b (An (acc++ []) G') Q:=hq;rw [List.append_nil] at hq';exact hq')
    ·exact hq.elim
   | succ m=>
    unfold Ez at hq;split at hq
    ·rename_i d1 hf;obtain ⟨go,yl⟩:=(walk b x G' sb i).1 d1 hf;refine thn (T.item B rfl rfl rfl hc i _ s' σ' b.H _ I0 f0 ti go) ?_;rintro r s1 ⟨u,rfl,hgo⟩;refine thn hgo ?_;rintro _ s2 ⟨v,H',I2,ru,y,t2,hfp2⟩;obtain ⟨cc,rfl,xx,ss,rd⟩:=yl v H' y;have pD:=I2.pin (Dd,{cls:=.type "list",data:=.seq its.toArray nD}) (List.mem_append_right _ (by simp));obtain ⟨vs1,hv1,rv1⟩:=hac;refine turnX _ _ (λG3=>Ez f g c te (Bb nt caps S) m (i + 1) G3) s2 cc G' σ' its acc u _ d1 (i + 1) (I2.Gb λp hp=>by cases hp) (x.trans xx) ss (rSb.mono xx) t2 hfp2 ⟨nD,pD.1⟩ pD.2.1 ⟨vs1,hv1,rv1.mono xx⟩ ru rd (out.mono xx hq) ?_
     intro s3 b3 G3 σ3 its3 acc3 a1 a2 a3 a4 a5 a6 a7 a8 a9 a10;exact ⟨m,Nat.lt_succ_self _,i + 1,b3,G3,σ3,its3,acc3,a1,a2,a3,a4,a5,a6,a7,a8,a9,a10⟩
    ·rename_i hf;exact stop ((walk b x G' sb i).2 hf) (by have hq':out E0 b (An (acc++ []) G') Q:=hq;rw [List.append_nil] at hq';exact hq')
    ·exact hq.elim
 exact codeAny_compStart_list (loop _ rfl) (T.self _ 0 _ _ _ (T.keep _ _ _ t0 λq _ o e=>old q o e) (loop _ rfl))
end
section
variable {X:Cx} {N:List Str} {scope:Scope} {nt:Nat} {caps:List Nat} {tg elt iter:Expr} {ifs:List Expr} {pos:Pos} {it:DI} {g:DG} {c:DB} {te:DE}
theorem letGo {pins:List (Addr×Obj)} {s2 s':Shared} {h':Heap} {C:Addr} {t':Nat} {σ2:St} {H2:Hp} (I2:Inv X pins σ2 H2 s2) (Ia:Inv X pins σ H s') (hC:s2.heap.objs.size<=C) (hn:H C=none) (hsb:Heap.SameBut C s'.heap h'):Inv X pins σ H {s' with heap:=h',toks:=t'}:=by
 have young:∀{b:Addr} {o:Obj},s2.heap.get? b=some o->b≠C:=λe z=>by rw [z] at e;exact absurd (Nat.lt_of_lt_of_le (Heap.lt_size e) hC) (Nat.lt_irrefl _)
 refine Ia.turned (it:=C) (λb o hb e=>(hsb.2 b hb).trans e) hn (Nat.ne_of_gt (Nat.lt_of_lt_of_le I2.lt hC)) (.inr (Nat.le_trans I2.sz hC)) (λx c' e=> ?_) λp hp=> ?_
 ·obtain ⟨v,o,e',_⟩:=I2.cell x c' e;exact young e'
 ·exact young (I2.pin p hp).1
theorem Hd (hc:X.calm=true) (cs:CompSc X N scope nt caps) (hi:QI X E0 tg iter it)
  (hg:∀C s₀ H₀ ex,QG (blk X N scope C s₀ H₀ ex) E0 tg g) (gk:GK nt g) (hts:∀C s₀ H₀ ex,QTs (blk X N scope C s₀ H₀ ex) E0 ifs c) (he:∀C s₀ H₀ ex,QE (blk X N scope C s₀ H₀ ex) E0 elt te)
  (hs:∀x,foldedSetIterable iter X.env x=pure x:=by intro _;rfl):QE X E0 (.ListComp elt [⟨tg,iter,ifs,0⟩] scope pos) (Dp it nt caps g c te):=by
 intro pins s σ H Q I h;obtain ⟨a,S,G,hk,rfl,sm,r,h⟩:=h;rw [eval_ListComp];refine wpAny_comprehension_free (use:=none) rfl hs (Z8 (cs.cells I.ok)) cs.kind cs.names (thn (hi pins s σ a.H _ I ⟨a,S,G,hk,rfl,sm,r,(ZBL h).imp λ_ _ z=>z⟩) λxv s1 h1=>thn h1 λitv s2 h2=> ?_);obtain ⟨i0,fp,tn,J,H2,rfl,I2,T,t0,f2,b,d,G1,rfl,x,sb,rJ,_,h1⟩:=h2;refine ZAJ hc cs hg gk hts he I2 (x.k.trans hk) sb (r.mono x) T t0 f2 rJ h1 (RR:=λacc C=>compPost (model X.prog X.w) X.A X.xe none (EP X pins σ Q) acc C) ?_
 intro D C s' b vs Ia hD hCle hDC ⟨m,hn⟩ hCn hq;refine ⟨m,hn,λh' hsb=>⟨.ref D,_,letGo I2 Ia hCle ?_ hsb,rfl,hq⟩⟩;rw [Be (Ne.symm hDC)];exact hCn
theorem Jo (i:Nat) {y:Str} {py spos:Pos} (hc:X.calm=true) (hN:X.N.Nodup) (cs:CompSc X N scope nt caps) (hi:QI X E0 tg iter it)
  (hg:∀C s₀ H₀ ex,QG (blk X N scope C s₀ H₀ ex) E0 tg g) (gk:GK nt g) (hts:∀C s₀ H₀ ex,QTs (blk X N scope C s₀ H₀ ex) E0 ifs c) (he:∀C s₀ H₀ ex,QE (blk X N scope C s₀ H₀ ex) E0 elt te)
  (hy:X.N[i]? =some y:=by rfl) (hx:Loc X.env.scope y:=by first | exact Or.inl rfl | exact Or.inr rfl) (hf:X.fn y=true∨X.env.scope.names.lookup y=some .local:=by first | exact .inl rfl | exact .inr rfl | assumption)
  (hsw:swapsWith (.ListComp elt [⟨tg,iter,ifs,0⟩] scope pos) (some (.Name y py)) spos.line X.env=pure true:=by rfl)
  (hs:∀x,foldedSetIterable iter X.env x=pure x:=by intro _;rfl):QS X E0 (.Assign [.Name y py] (.ListComp elt [⟨tg,iter,ifs,0⟩] scope pos) spos) (sAs (Dp it nt caps g c te) (gV i)):=by
 intro pins s σ H W I h;obtain ⟨a,S,G,hk,rfl,sm,r,h⟩:=h;have h0:=O5 h;rw [exec_Assign_Name_used _ _ _ _ hsw];refine wpAny_bind (wpAny_standAt (wpAny_bind ?_))
 show wpAny _ X.A (do let _<-comprehension (.ListComp elt [⟨tg,iter,ifs,0⟩] scope pos) scope X.env _ (newList []) false (eval iter X.env) (some (assign (.Name y py) X.env))) _ _ s
 refine wpAny_bind (wpAny_mono (wpAny_comprehension_free (use:=some (assign (.Name y py) X.env)) (Q:=λ_ s'=>SP X pins W .next s') rfl hs (Z8 (cs.cells I.ok)) cs.kind cs.names
  (thn (hi pins s σ a.H _ I ⟨a,S,G,hk,rfl,sm,r,(ZBL h0).imp λ_ _ z=>z⟩) λxv s1 h1=>thn h1 λitv s2 h2=> ?_)) (λ_ s' hq=>wpAny_pure (wpAny_pure hq)) λ_ _ e=>e)
 obtain ⟨i0,fp,tn,J,H2,rfl,I2,T,t0,f2,b,d,G1,rfl,x,sb,rJ,_,h1⟩:=h2
 refine ZAJ hc cs hg gk hts he I2 (x.k.trans hk) sb (r.mono x) T t0 f2 rJ h1 (RR:=λacc C=>compPost (model X.prog X.w) X.A X.xe (some (assign (.Name y py) X.env)) (λ_ s'=>SP X pins W .next s') acc C) ?_
 intro D C s' b' vs Ia hD hCle hDC ⟨m,hn⟩ hCn hq;show wpAny _ X.A (assign (.Name y py) X.env (.ref D)) _ _ _;refine wpAny_assign_Name (ZBF Ia hN hy hx (v:=.ref D) rfl (λs'' I'' hch=> ?_) hf);obtain ⟨a',hsb',ha'⟩:=hch;have hCa:C≠a':=by
  rintro rfl;rcases ha' with rfl | ha'
  ·exact absurd (Nat.lt_of_lt_of_le I2.lt hCle) (Nat.lt_irrefl _)
  ·obtain ⟨v,o,e',_⟩:=I2.cell _ _ ha';exact absurd (Nat.lt_of_lt_of_le (Heap.lt_size e') hCle) (Nat.lt_irrefl _)
 refine ⟨m,hn.sameBut hsb' hCa,λh' hsb=>⟨_,_,letGo I2 I'' hCle ?_ hsb,?_⟩⟩
 ·rw [Be (Ne.symm hDC)];exact hCn
 ·obtain ⟨b3,d3,G3,e3,x3,s3,q3,_,h3⟩:=hq;rw [<-e3];exact h3 b3 _ (Ext.refl b3) s3 ((r.mono x3).set i q3)
end
section
variable {X:Cx} {E:XK} {a b:Expr} {ta tb:DE} {pos:Pos}
theorem ZB0 {n:String} (hg:Gl X x) (hm:X.mg x=none) (hv:bootBuiltins x=some (.type n)) (hn:x≠"__name__":=by decide) (hd:(x == ("__debug__":Str))=false:=by decide):QE X E (.Name x pos) (dC (.ty n)):=
 (ZDo (v:=.ty n) hg hm hv rfl hn hd).mono λσ H Q h=>Nk h λ_ _=>rfl
end
theorem ZCT:bootBuiltins "isinstance"=some (.builtin "isinstance"):=by decide +kernel
theorem Vq:bootBuiltins "all"=some (.builtin "all"):=by decide +kernel
theorem Q9:bootBuiltins "max"=some (.builtin "max"):=by decide +kernel
theorem ZEW:bootBuiltins "min"=some (.builtin "min"):=by decide +kernel
theorem Cy:bootBuiltins "len"=some (.builtin "len"):=by decide +kernel
theorem ZBy:bootBuiltins "bool"=some (.type "bool"):=by decide +kernel
theorem Eo:bootBuiltins "tuple"=some (.type "tuple"):=by decide +kernel
theorem Jk:bootBuiltins "list"=some (.type "list"):=by decide +kernel
def J9:NameKind->Bool | .local=>true | _=>false
def J0:NameKind->Bool | .cell=>true | _=>false
def Ij:NameKind->Bool | .free=>true | _=>false
def isK (p:NameKind->Bool):Option NameKind->Bool | some k=>p k | none=>false
theorem ZGD {k:NameKind} (h:J9 k=true):k=.local:=by cases k <;> first | rfl | cases h
theorem ZDi {k:NameKind} (h:J0 k=true):k=.cell:=by cases k <;> first | rfl | cases h
theorem ZAm {k:NameKind} (h:Ij k=true):k=.free:=by cases k <;> first | rfl | cases h
theorem Pg {p:NameKind->Bool} {k:NameKind} (hp:∀k',p k'=true->k'=k) {o:Option NameKind} (h:isK p o=true):o=some k:=by
 cases o with
 | none=>cases h
 | some k'=>rw [hp _ h]
def Yn (dn:List (Str×NameKind)) (N0 N:List Str) (names:List (Str×NameKind)) (nt:Nat) (caps:List Nat):Bool:=
 names.all (λy=>(!J9 y.2 || isK J9 (names.lookup y.1)) && !J0 y.2 && (!Ij y.2 || isK J0 (dn.lookup y.1) || isK Ij (dn.lookup y.1))) && decide N.Nodup && decide (N.length=nt + caps.length) &&
 (List.range caps.length).all λk=>match caps[k]? with
  | some j=>match N0[j]? with
   | some x=>decide (N[nt + k]? =some x) && isK Ij (names.lookup x)
   | none=>false
  | none=>true
theorem Er {X:Cx} {N0 N:List Str} {nt:Nat} {caps:List Nat} {dn:List (Str×NameKind)} (hk:scope.kind=.function:=by rfl) (hdn:∀x,X.env.kindOf x=dn.lookup x:=by intro _;rfl) (hN:X.N=N0:=by rfl)
  (h:Yn dn N0 N scope.names nt caps=true:=by decide +kernel):CompSc X N scope nt caps:=by
 unfold Yn at h;rw [Bool.and_eq_true,Bool.and_eq_true,Bool.and_eq_true] at h;obtain ⟨⟨⟨h1,h2⟩,h3⟩,h4⟩:=h;rw [List.all_eq_true] at h1 h4;have key:=λ(y:Str×NameKind) (hy:y∈scope.names)=>(by have:=h1 y hy;rw [Bool.and_eq_true,Bool.and_eq_true] at this;exact this:((!J9 y.2 || isK J9 (scope.names.lookup y.1))=true/\(!J0 y.2)=true)/\(!Ij y.2 || isK J0 (dn.lookup y.1) || isK Ij (dn.lookup y.1))=true)
 refine ⟨hk,λy hy hl=> ?_,λy hy hl=> ?_,λy hy hl=> ?_,of_decide_eq_true h2,of_decide_eq_true h3,λk j hj=> ?_⟩
 ·have:=(key y hy).1.1;rw [hl] at this;exact Pg (p:=J9) (λ_ h=>ZGD h) (by have t:(false || isK J9 (scope.names.lookup y.1))=true:=this;simpa using t)
 ·have:=(key y hy).1.2;rw [hl] at this;exact absurd this (by decide)
 ·have:=(key y hy).2;rw [hl,Bool.or_eq_true] at this;rw [hdn];rcases this with h | h
  ·exact .inl (Pg (p:=J0) (λ_ h=>ZDi h) (by have t:(false || isK J0 (dn.lookup y.1))=true:=h;simpa using t))
  ·exact .inr (Pg (p:=Ij) (λ_ h=>ZAm h) h)
 ·have hk':k < caps.length:=(List.getElem?_eq_some_iff.mp hj).1;have:=h4 k (List.mem_range.mpr hk');rw [hj] at this;dsimp only at this;cases e:N0[j]? with
  | none=>rw [e] at this;cases this
  | some x=>
   rw [e] at this;dsimp only at this;rw [Bool.and_eq_true] at this;exact ⟨x,by rw [hN];exact e,of_decide_eq_true this.1,Pg (p:=Ij) (λ_ h=>ZAm h) this.2⟩
section
section
variable {X:Cx} {pins:List (Addr×Obj)} {σ:St} {H:Hp} {s:Shared}
theorem ZC3 {xs:List V} (I:Inv X pins σ H s) (h:H p=some (.lst xs)):∃o,Inv X pins σ (upd H p (.frz o (.lst xs))) s:=by
 obtain ⟨hl,its,n,r,e⟩:=I.hok p _ h;have nt:∀b (u:HO),H b=some u->u≠ .lst xs->b≠p:=λb u q d z=>by subst z;rw [h] at q;exact d (Option.some.inj q).symm
 refine ⟨_,I.un (t':=s.toks) (H':=upd H p (.frz {cls:=.type "list",data:=.seq its.toArray n} (.lst xs))) ⟨λb o q _ _ _=>q,λb o q _ _ _=>⟨o.slots,q⟩,λb o q z _=> ?_,λb o q _=>⟨o,q⟩,λb ys q=> ?_,λb o u q=> ?_,λb ps q=>⟨#[],?_⟩⟩ ?_⟩
 ·rw [Be (λz'=>by subst z';rw [h] at z;cases z)];exact z
 ·rw [Be (nt b _ q (by intro z;cases z))];exact q
 ·rw [Be (nt b _ q (by intro z;cases z))];exact q
 ·rw [Be (nt b _ q (by intro z;cases z)),Array.append_empty];exact q
 ·intro b u q;by_cases hb:b=p
  ·subst hb;rw [Ff] at q;cases q;exact ⟨e,hl,its,n,r,e⟩
  ·rw [Be hb] at q;exact (I.hok b u q).stay (λc v _ z=>z) (λc z=>by rw [Be (nt c _ z (by intro z;cases z))];exact z) λc ys z=>by rw [Be (nt c _ z (by intro z;cases z))];exact z
def Fz (P:Addr->Prop) (H H':Hp):Prop:=∀p,(H' p=H p/\(∀vs,H p=some (.lst vs)->¬P p))∨∃o vs,P p/\H p=some (.lst vs)/\H' p=some (.frz o (.lst vs))
theorem ZAk (I:Inv X pins σ H s) (m:Nat->Addr) (n:Nat):∀k:Nat,∃H',Inv X pins σ H' s/\Fz (λp=>∃i,n<=i/\i < n + k/\p=m i) H H'
 | 0=>⟨H,I,λp=>.inl ⟨rfl,λ_ _ ⟨i,h1,h2,_⟩=>by omega⟩⟩
 | k + 1=>by
  obtain ⟨H',I',F⟩:=ZAk I m n k;have keep:(∀vs,H' (m (n + k))≠some (.lst vs))->Fz (λp=>∃i,n<=i/\i < n + (k + 1)/\p=m i) H H':=λno p=>by
   rcases F p with ⟨e,z⟩ | ⟨o,vs,⟨i,h1,h2,h3⟩,e1,e2⟩
   ·refine .inl ⟨e,λvs e1 ⟨i,h1,h2,h3⟩=> ?_⟩;by_cases hi:i < n + k
    ·exact z vs e1 ⟨i,h1,hi,h3⟩
    ·have:i=n + k:=by omega
     subst this;subst h3;exact no vs (e.trans e1)
   ·exact .inr ⟨o,vs,⟨i,h1,by omega,h3⟩,e1,e2⟩
  cases hH:H' (m (n + k)) with
  | none=>exact ⟨H',I',keep λvs z=>by rw [hH] at z;cases z⟩
  | some u=>
   cases u with
   | lst vs=>
    obtain ⟨o,I2⟩:=ZC3 I' hH;refine ⟨_,I2,λp=> ?_⟩;by_cases hp:p=m (n + k)
    ·subst hp;rcases F (m (n + k)) with ⟨e,z⟩ | ⟨o',vs',_,e1,e2⟩
     ·exact .inr ⟨o,vs,⟨n + k,by omega,by omega,rfl⟩,e.symm.trans hH,Ff⟩
     ·rw [hH] at e2;cases e2
    ·rcases F p with ⟨e,z⟩ | ⟨o',vs',⟨i,h1,h2,h3⟩,e1,e2⟩
     ·refine .inl ⟨by rw [Be hp];exact e,λvs' e1 ⟨i,h1,h2,h3⟩=> ?_⟩;by_cases hi:i < n + k
      ·exact z vs' e1 ⟨i,h1,hi,h3⟩
      ·have:i=n + k:=by omega
       subst this;exact hp h3
     ·exact .inr ⟨o',vs',⟨i,h1,by omega,h3⟩,e1,by rw [Be hp];exact e2⟩
   | _=>exact ⟨H',I',keep λvs z=>by rw [hH] at z;cases z⟩
end
def Hh (f:D->Option D):List D->Option (List D)
 | []=>some []
 | d::r=>match f d,Hh f r with
  | some d',some r'=>some (d'::r')
  | _,_=>none
def Dn (G:DH) (n:Nat):Nat->D->Option D
 | 0,_=>none
 | k + 1,d=>if bel n d=true then some d else match d with
  | .ref i=>match G[i]? with
   | some (.lst xs)=>(Hh (Dn G n k) xs).map .fl
   | _=>none
  | .tup xs=>(Hh (Dn G n k) xs).map .tup
  | .fl xs=>(Hh (Dn G n k) xs).map .fl
  | _=>none
open Classical in
def freeze (G:DH) (r:R D):R D:=match r with
 | .ok d G'=>if G'.take G.length=G then (match Dn G' G.length 9 d with
   | some d'=>.ok d' G
   | none=>.ok d G') else .ok d G'
 | r=>r
def Bf (t:DE):DE:=λS G=>freeze G (t S G)
structure CutF (b c:Wd) (n:Nat):Prop where
 k:c.K=b.K
 n:c.n=n
 m:c.m=b.m
 tup:∀p xs,b.H p=some (.tup xs)->c.H p=some (.tup xs)
 frz:∀p o u,b.H p=some (.frz o u)->c.H p=some (.frz o u)
theorem CutF.sqT {n:Nat} (x:CutF b c n) {xs:List V} (h:SqT b.K b.H p xs):SqT c.K c.H p xs:=by
 rcases h with (h | ⟨o,h⟩) | h
 ·exact .inl (.inl (x.tup _ _ h))
 ·exact .inl (.inr ⟨o,x.frz _ _ _ h⟩)
 ·exact .inr (by rw [x.k];exact h)
theorem CutF.fzL {n:Nat} (x:CutF b c n) {xs:List V} (h:FzL b.K b.H p xs):FzL c.K c.H p xs:=by
 rcases h with ⟨o,h⟩ | h
 ·exact .inl ⟨o,x.frz _ _ _ h⟩
 ·exact .inr (by rw [x.k];exact h)
mutual
theorem Rep.Gq {n:Nat} (x:CutF b c n):∀{d:D} {v:V},Rep b d v->bel n d=true->Rep c d v
 | .non,_,h,_=>h
 | .bl _,_,h,_=>h
 | .int _,_,h,_=>h
 | .str _,_,h,_=>h
 | .ty _,_,h,_=>h
 | .tup ds,v,h,q=>by obtain ⟨p,vs,e,t,r⟩:=h;simp only [DL.bel] at q;exact ⟨p,vs,e,x.sqT t,Reps.Gq x r q⟩
 | .fl ds,v,h,q=>by obtain ⟨p,vs,e,t,r⟩:=h;simp only [DL.bel] at q;exact ⟨p,vs,e,x.fzL t,Reps.Gq x r q⟩
 | .ref i,v,h,q=>by obtain ⟨l,e⟩:=h;simp only [DL.bel] at q;have q':=of_decide_eq_true q;exact ⟨by rw [x.n];exact q',by rw [x.m];exact e⟩
theorem Reps.Gq {n:Nat} (x:CutF b c n):∀{ds:List D} {vs:List V},Reps b ds vs->bels n ds=true->Reps c ds vs
 | [],_,h,_=>h
 | d::ds,vs,h,q=>by obtain ⟨v,r,e,h1,h2⟩:=h;simp only [DL.bels,Bool.and_eq_true] at q;exact ⟨v,r,e,Rep.Gq x h1 q.1,Reps.Gq x h2 q.2⟩
end
theorem Rf {f:D->Option D} (hf:∀d d' v,f d=some d'->Rep b d v->Rep c d' v):∀{ds ds':List D} {vs:List V},Hh f ds=some ds'->Reps b ds vs->Reps c ds' vs
 | [],ds',vs,e,h=>by cases e;exact h
 | d::ds,ds',vs,e,h=>by
  obtain ⟨v,r,rfl,h1,h2⟩:=h;unfold Hh at e;split at e
  ·rename_i d' r' e1 e2;cases e;exact ⟨v,r,rfl,hf _ _ _ e1 h1,Rf hf e2 h2⟩
  ·cases e
theorem Z5 {n:Nat} (s:Sim b G') (x:CutF b c n) (hz:∀i,n<=i->i < b.n->∀vs,b.H (b.m i)=some (.lst vs)->∃o,c.H (b.m i)=some (.frz o (.lst vs))):∀(k:Nat) (d d':D) (v:V),Dn G' n k d=some d'->Rep b d v->Rep c d' v
 | 0,d,d',v,e,h=>by cases e
 | k + 1,d,d',v,e,h=>by
  have ih:=Z5 s x hz k;unfold Dn at e;split at e
  ·rename_i hb;cases e;exact h.Gq x hb
  ·rename_i hb;cases d with
   | ref i=>
    dsimp only at e;split at e
    ·rename_i xs hx;rw [Option.map_eq_some_iff] at e;obtain ⟨ys,e1,rfl⟩:=e;obtain ⟨vs,e2,r2⟩:=s.obj i _ hx;obtain ⟨il,rfl⟩:=h;have hi:n<=i:=by simp only [DL.bel,decide_eq_true_eq] at hb;omega
     obtain ⟨o,e3⟩:=hz i hi il vs e2;exact ⟨_,vs,rfl,.inl ⟨o,e3⟩,Rf ih e1 r2⟩
    ·cases e
   | tup xs=>
    dsimp only at e;rw [Option.map_eq_some_iff] at e;obtain ⟨ys,e1,rfl⟩:=e;obtain ⟨p,vs,rfl,t,r⟩:=h;exact ⟨p,vs,rfl,x.sqT t,Rf ih e1 r⟩
   | fl xs=>
    dsimp only at e;rw [Option.map_eq_some_iff] at e;obtain ⟨ys,e1,rfl⟩:=e;obtain ⟨p,vs,rfl,t,r⟩:=h;exact ⟨p,vs,rfl,x.fzL t,Rf ih e1 r⟩
   | _=>cases e
theorem Zf {pins:List (Addr×Obj)} {sh:Shared} (s:Sim a G) (hG:G'.take G.length=G) (x:Ext a b) (sb:Sim b G') (I:Inv X pins σ b.H sh):
  ∃c:Wd,Inv X pins σ c.H sh/\Ext a c/\Sim c G/\CutF b c a.n/\∀(k:Nat) (d d':D) (v:V),Dn G' G.length k d=some d'->Rep b d v->Rep c d' v:=by
 have hlen:∀i o,G[i]? =some o->G'[i]? =some o:=λi o e=>by have hi:i < G.length:=(List.getElem?_eq_some_iff.mp e).1;rw [<-hG,List.getElem?_take_of_lt hi] at e;exact e
 obtain ⟨H',I',F⟩:=ZAk I b.m a.n (b.n - a.n);have hbn:a.n + (b.n - a.n)=b.n:=by have:=x.n;omega
 rw [hbn] at F;have ct:∀p (u:HO),(∀vs,u≠ .lst vs)->b.H p=some u->H' p=some u:=λp u nu e=>by
  rcases F p with ⟨e1,_⟩ | ⟨o,vs,_,e1,_⟩
  ·exact e1.trans e
  ·rw [e] at e1;exact absurd (Option.some.inj e1) (nu vs)
 have cc:CutF b ⟨b.K,a.n,b.m,H'⟩ a.n:=⟨rfl,rfl,rfl,λp xs e=>ct p _ (by intro _ z;cases z) e,λp o u e=>ct p _ (by intro _ z;cases z) e⟩;have old:∀i,i < a.n->H' (b.m i)=b.H (b.m i):=λi hi=>by
  rcases F (b.m i) with ⟨e1,_⟩ | ⟨o,vs,⟨j,h1,h2,h3⟩,e1,e2⟩
  ·exact e1
  ·have:=sb.inj i j (Nat.lt_of_lt_of_le hi x.n) h2 h3;omega
 refine ⟨⟨b.K,a.n,b.m,H'⟩,I',⟨x.k,Nat.le_refl _,x.m,λp xs e=>cc.tup p xs (x.tup p xs e),λp o u e=>cc.frz p o u (x.frz p o u e)⟩,⟨s.len,λi j hi hj=>sb.inj i j (Nat.lt_of_lt_of_le hi x.n) (Nat.lt_of_lt_of_le hj x.n),λi o e=> ?_,λi hi=> ?_⟩,cc,λk d d' v hd rb=> ?_⟩
 ·show ORep ⟨b.K,a.n,b.m,H'⟩ o (H' (b.m i));rw [old i (s.lt e)];have q:=sb.obj i o (hlen i o e);have lb:=(s.obj i o e).Iz;cases o with
  | lst ds=>obtain ⟨vs,e1,r1⟩:=q;exact ⟨vs,e1,r1.Gq cc lb⟩
  | dct kvs=>obtain ⟨us,e1,k1,r1⟩:=q;exact ⟨us,e1,k1,r1.Gq cc lb⟩
  | ins c fs=>obtain ⟨C,dx,us,n1,e1,k1,r1⟩:=q;exact ⟨C,dx,us,n1,e1,k1,r1.Gq cc lb⟩
  | gone=>trivial
 ·show H' (b.m i)≠none;rw [old i hi];exact sb.tr i (Nat.lt_of_lt_of_le hi x.n)
 ·rw [s.len] at hd;refine Z5 sb cc (λi h1 h2 vs e=> ?_) k d d' v hd rb;rcases F (b.m i) with ⟨e1,z⟩ | ⟨o,vs',_,e1,e2⟩
  ·exact absurd ⟨i,h1,h2,rfl⟩ (z vs e)
  ·rw [e] at e1;cases e1;exact ⟨o,e2⟩
theorem ZBt (s:Sim a G) (h:out E a (freeze G r) Q):
  out E a r λv H=>∀(pins:List (Addr×Obj)) (σ:St) (sh:Shared),Inv X pins σ H sh->∃H',Inv X pins σ H' sh/\Q v H':=by
 cases r with
 | err e G'=>exact h
 | bad=>exact h
 | ok d G'=>
  intro b v x sb rb pins σ sh I;unfold freeze at h;dsimp only at h;split at h
  ·rename_i hG;split at h
   ·rename_i d' hd;obtain ⟨c,Ic,xc,sc,cc,hr⟩:=Zf s hG x sb I;exact ⟨c.H,Ic,h c v xc sc (hr _ _ _ _ hd rb)⟩
   ·exact ⟨_,I,h b v x sb rb⟩
  ·exact ⟨_,I,h b v x sb rb⟩
theorem Bo (ha:QE X E e t):QE X E e (Bf t):=λpins s σ H Q I h=>by
 obtain ⟨a,S,G,hk,rfl,sm,r,h⟩:=h;refine thn (ha pins s σ a.H _ I ⟨a,S,G,hk,rfl,sm,r,ZBt (X:=X) sm h⟩) λu s' ⟨v,H',I',rv,q⟩=> ?_
 obtain ⟨H2,I2,q2⟩:=q pins σ s' I';exact ⟨v,H2,I2,rv,q2⟩
theorem Kr {st:Stmt} (ha:QS X E st (sAs t (gV i))):QS X E st (sAs (Bf t) (gV i)):=λpins s σ H W I h=>by
 obtain ⟨a,S,G,hk,rfl,sm,r,h⟩:=h;have h2:Bv E a (sAs t (gV i) S G) {W with nx:=λσ H=>∀(pins:List (Addr×Obj)) (sh:Shared),Inv X pins σ H sh->∃H',Inv X pins σ H' sh/\W.nx σ H'}:=by
  unfold sAs Bf at h;unfold sAs;cases ht:t S G with
  | err e G'=>rw [ht] at h;exact h
  | bad=>rw [ht] at h;exact h
  | ok d G'=>
   rw [ht] at h;intro b σ' x sb rb pins sh I;unfold freeze at h;dsimp only at h;split at h
   ·rename_i hG;split at h
    ·rename_i d' hd;obtain ⟨c,Ic,xc,sc,cc,hr⟩:=Zf sm hG x sb I;refine ⟨c.H,Ic,h c σ' xc sc ⟨?_,λj e he=> ?_⟩⟩
     ·rw [List.length_set,<-rb.len,List.length_set]
     ·rw [List.getElem?_set] at he;by_cases hij:i=j
      ·subst hij;rw [if_pos rfl] at he;by_cases hl:i < S.length
       ·rw [if_pos hl] at he;have e1:d'=e:=by simpa using he
        subst e1;obtain ⟨v,e2,rv⟩:=rb.get i d (by rw [List.getElem?_set,if_pos rfl,if_pos hl]);exact ⟨v,e2,hr _ _ _ _ hd rv⟩
       ·rw [if_neg hl] at he;cases he
      ·rw [if_neg hij] at he;obtain ⟨v,e2,rv⟩:=rb.get j e (by rw [List.getElem?_set,if_neg hij];exact he);obtain ⟨v',_,rv'⟩:=r.get j e he;exact ⟨v,e2,rv.Gq cc rv'.bel⟩
    ·exact ⟨_,I,h b σ' x sb rb⟩
   ·exact ⟨_,I,h b σ' x sb rb⟩
 refine thn (ha pins s σ a.H _ I ⟨a,S,G,hk,rfl,sm,r,h2⟩) λf s' hf=> ?_
 cases f with
 | next=>
  obtain ⟨σ',H',I',q⟩:=hf;obtain ⟨H2,I2,q2⟩:=q pins s' I';exact ⟨σ',H2,I2,q2⟩
 | brk=>exact hf
 | cont=>exact hf
 | ret u=>exact hf
end
section
variable {S:DSt} {G:DH}
@[simp] theorem ev_V:dV i S G=(match S[i]? with | some (some d)=>.ok d G | _=>.bad):=id rfl
@[simp] theorem ev_C:dC d S G=.ok d G:=id rfl
@[simp] theorem ev_Op {a b:DE}:dOp f a b S G=(a S G).bind λx G1=>(b S G1).bind λy G2=>f x y G2:=id rfl
@[simp] theorem ev_Nil:Af S G=.ok [] G:=id rfl
@[simp] theorem ZHL {a:DE} {r:DA}:Ab a r S G=(a S G).bind λx G1=>(r S G1).bind λxs G2=>.ok (x::xs) G2:=id rfl
@[simp] theorem ev_Fn {f:List D->DH->R D} {t:DA}:dFn f t S G=(t S G).bind f:=id rfl
@[simp] theorem ZHZ:Ej t S G=tidy G (t S G):=id rfl
@[simp] theorem ev_Frz:Bf t S G=freeze G (t S G):=id rfl
@[simp] theorem ev_asB {k:Bool}:asB (.bl k) G=.ok k G:=id rfl
@[simp] theorem ev_Tst:Bg t S G=(t S G).bind asB:=id rfl
@[simp] theorem ev_And {t u:DB}:Li t u S G=(t S G).bind λk G1=>if k=true then u S G1 else .ok false G1:=id rfl
@[simp] theorem ev_Or {t u:DB}:dOr t u S G=(t S G).bind λk G1=>if k=true then .ok true G1 else u S G1:=id rfl
@[simp] theorem ev_Not {t:DB}:Q5 t S G=(t S G).bind λk G1=>.ok (!k) G1:=id rfl
@[simp] theorem ZHM {u:DE}:J6 t u S G=(t S G).bind λx G1=>(asB x G1).bind λk G2=>if k=true then u S G2 else .ok (.bl false) G2:=id rfl
@[simp] theorem ev_OrV {u:DE}:Uv t u S G=(t S G).bind λx G1=>(asB x G1).bind λk G2=>if k=true then .ok (.bl true) G2 else u S G2:=id rfl
@[simp] theorem ZHW {g:D->D->DH->R D} {a b c:DE}:Pz f g a b c S G=(a S G).bind λx G1=>(b S G1).bind λy G2=>(f x y G2).bind λz G3=>(asB z G3).bind λk G4=>
 if k=true then (c S G4).bind λw G5=>g y w G5 else .ok (.bl false) G4:=id rfl
@[simp] theorem ev_sNx:sNx S G=.nx S G:=id rfl
def SR.then (r:SR) (u:DS):SR:=match r with
 | .nx S1 G1=>u S1 G1
 | r=>r
@[simp] theorem Wy {t:DS}:Ah t u S G=(t S G).then u:=id rfl
@[simp] theorem V2:(SR.nx S G).then u=u S G:=id rfl
@[simp] theorem ZHm:(SR.rt d G).then u=.rt d G:=id rfl
@[simp] theorem ev_sEx:sEx t S G=(t S G).toS λ_ G1=>.nx S G1:=id rfl
@[simp] theorem ev_sRt:sRt t S G=(t S G).toS λd G1=>.rt d G1:=id rfl
@[simp] theorem ev_sIf {c:DB} {t:DS}:sIf c t u S G=(c S G).toS λk G1=>if k=true then t S G1 else u S G1:=id rfl
@[simp] theorem ev_sAs:sAs t g S G=(t S G).toS λd G1=>(g d S G1).toS λS2 G2=>.nx S2 G2:=id rfl
@[simp] theorem ZG6 {it:DI} {b:DS}:Dw it g b S G=(it S G).toS λJ G1=>(match J with
 | .pure xs=>Cp g b xs S G1
 | .mt i=>match G1[i]? with
  | some (.lst xs)=>forM i g b xs.length 0 S G1
  | _=>.bad
 | .fn n f=>Jf f g b n 0 S G1):=id rfl
@[simp] theorem ZHX:Gu t S G=(t S G).bind Gd:=id rfl
@[simp] theorem ZHe {f:List D->DH->R ItD} {t:DA}:Df f t S G=(t S G).bind f:=id rfl
@[simp] theorem Ea:gV i d S G=.ok (S.set i (some d)) G:=id rfl
@[simp] theorem ZG8:Fx [] S G=.ok S G:=id rfl
@[simp] theorem ZGx {t:DG} {u:DGs} {r:List D}:Dc t u (d::r) S G=(t d S G).bind λS1 G1=>u r S1 G1:=id rfl
@[simp] theorem ZG4 {n:Nat} {t:DGs} :Es n t (.tup ds) S G=if ds.length=n then t ds S G else .bad:=id rfl
@[simp] theorem ev_gIx {o i:DE} {v:D}:gIx o i v S G=(o S G).bind λo G1=>(i S G1).bind λi G2=>(Py o i v G2).bind λ_ G3=>.ok S G3:=id rfl
@[simp] theorem ev_MtL {f:D->List D->DH->R D} {o:DE} {t:DA}:Ey f o t S G=(o S G).bind λx G1=>if isL x G1=true then (t S G1).bind λxs G2=>f x xs G2 else .bad:=id rfl
@[simp] theorem ZHb {it:DI} {caps:List Nat} {c:DB} :Dp it nt caps g c te S G=(it S G).bind λJ G1=>(match J with
 | .pure xs=>Cu g c te (Bb nt caps S) xs G1
 | .mt i=>match G1[i]? with
  | some (.lst xs)=>Ed i g c te (Bb nt caps S) xs.length 0 G1
  | _=>.bad
 | .fn n f=>Ez f g c te (Bb nt caps S) n 0 G1).bind An:=id rfl
@[simp] theorem ZAU:Bm S G=.ok true G:=id rfl
@[simp] theorem Ek {k:DSt->DH->SR}:aft (.nx S G) k=k S G:=id rfl
@[simp] theorem aft_rt {k:DSt->DH->SR} :aft (.rt d G) k=.rt d G:=id rfl
theorem Ec {b:DS}:Cp g b [] S G=.nx S G:=id rfl
theorem Dz {b:DS} {x:D} :Cp g b (x::xs) S G=(g x S G).toS λS1 G1=>aft (b S1 G1) (Cp g b xs):=id rfl
theorem ZDO {c:DB} :Cu g c te S [] G=.ok [] G:=id rfl
theorem Qy {c:DB} {x:D} :Cu g c te S (x::xs) G=(g x S G).bind λS1 G1=>(c S1 G1).bind λk G2=>
   if k=true then (te S1 G2).bind λd G3=>(Cu g c te S xs G3).bind λds G4=>.ok (d::ds) G4 else Cu g c te S xs G2:=id rfl
def SR.ret (r:SR):R D:=match r with
 | .nx _ G'=>.ok .non G'
 | .rt d G'=>.ok d G'
 | .err x G'=>.err x G'
 | _=>.bad
@[simp] theorem ret_rt:(SR.rt d G).ret=.ok d G:=id rfl
theorem Bh {np nl:Nat} {b:DS} :Cj np nl b ds G=if ds.length=np then tidy G (b (ds.map some++List.replicate nl none) G).ret else .bad:=id rfl
end
section
variable {n:Nat} {G:DH}
@[simp] theorem ZHR:bel n .non=true:=by simp [DL.bel]
@[simp] theorem bel_bl {b:Bool}:bel n (.bl b)=true:=by simp [DL.bel]
@[simp] theorem ZHd {b:Int}:bel n (.int b)=true:=by simp [DL.bel]
@[simp] theorem ZHJ {b:Str}:bel n (.str b)=true:=by simp [DL.bel]
@[simp] theorem ZHB {b:List D}:bel n (.tup b)=bels n b:=by simp [DL.bel]
@[simp] theorem bel_fl {b:List D}:bel n (.fl b)=bels n b:=by simp [DL.bel]
@[simp] theorem ZHo {b:Nat}:bel n (.ref b)=decide (b < n):=by simp [DL.bel]
@[simp] theorem ZHT:bels n []=true:=by simp [DL.bels]
@[simp] theorem ZCf:bels n (d::ds)=(bel n d && bels n ds):=by simp [DL.bels]
theorem ZCh:bels n ds=true↔∀d∈ds,bel n d=true:=by
 induction ds with
 | nil=>simp
 | cons d ds ih=>simp [ih]
theorem Hm {f:α->D} {xs:List α} (h:∀x∈xs,bel n (f x)=true):bels n (xs.map f)=true:=by rw [ZCh];intro d hd;obtain ⟨x,hx,rfl⟩:=List.mem_map.mp hd;exact h x hx
theorem Bu (h:bel G.length d=true):tidy G (.ok d G)=.ok d G:=by unfold tidy;simp [h]
theorem Jh (h:bel G.length d=true):tidy G (.ok d (G++L))=.ok d G:=by unfold tidy;simp [h]
theorem Zc (L:DH) (hk:L[k]? =some (.lst ds)) (h:bels G.length ds=true):tidy G (.ok (.ref (G.length + k)) (G++L))=.ok (.ref G.length) (G++ [.lst ds]):=by
 unfold tidy;have e:(G++L)[G.length + k]? =some (.lst ds):=by rw [List.getElem?_append_right (by omega)];simpa using hk
 simp [e,Iz,h]
theorem Fb (h:bels G.length ds=true):tidy G (.ok (.ref G.length) (G++ .lst ds::L))=.ok (.ref G.length) (G++ [.lst ds]):=Zc (.lst ds::L) (k:=0) rfl h
theorem Ky (h:bel G.length d=true):freeze G (.ok d G)=.ok d G:=by unfold freeze;simp [h,Dn]
theorem U3 {n:Nat} :∀{ds:List D},bels n ds=true->Hh (Dn G' n (k + 1)) ds=some ds
 | [],_=>rfl
 | d::ds,h=>by simp only [ZCf,Bool.and_eq_true] at h;unfold Hh;rw [U3 h.2];simp [Dn,h.1]
theorem ZE1 (L:DH) (hk:L[k]? =some (.lst ds)) (h:bels G.length ds=true):freeze G (.ok (.ref (G.length + k)) (G++L))=.ok (.fl ds) G:=by
 unfold freeze;have e:(G++L)[G.length + k]? =some (.lst ds):=by rw [List.getElem?_append_right (by omega)];simpa using hk
 have m:Dn (G++L) G.length 9 (.ref (G.length + k))=some (.fl ds):=by unfold Dn;simp [e,U3 h]
 simp [m]
theorem Dt (h:bels G.length ds=true):freeze G (.ok (.ref G.length) (G++ .lst ds::L))=.ok (.fl ds) G:=ZE1 (.lst ds::L) (k:=0) rfl h
theorem Ux (L:DH) (k:Nat):(G++L)[G.length + k]? =L[k]? :=by rw [List.getElem?_append_right (by omega)];simp
theorem Dh (L:DH):(G++L)[G.length]? =L[0]? :=Ux L 0
theorem ZAe (L:DH) (k:Nat) (o:DO):(G++L).set (G.length + k) o=G++L.set k o:=by rw [List.set_append_right _ _ (by omega)];simp
theorem G6 (L:DH) (o:DO):(G++L).set G.length o=G++L.set 0 o:=ZAe L 0 o
theorem Hl {lo:Int}:Bl lo 0= []:=id rfl
theorem Gp {lo:Int} {n:Nat}:Bl lo (n + 1)=.int lo::Bl (lo + 1) n:=by
 unfold Bl;rw [List.range_succ_eq_map,List.map_cons,List.map_map]
 congr 1
 ·simp
 ·apply List.map_congr_left;intro k _;simp only [Function.comp]
  congr 1
  omega
end
section
variable {G:DH} {i j:Int} {x y:Str} {k l:Bool}
@[simp] theorem ev_add:Am (.int i) (.int j) G=.ok (.int (i + j)) G:=id rfl
@[simp] theorem ZHi:Am (.str x) (.str y) G=if x.length + y.length<=1000000 then .ok (.str (x++y)) G else .bad:=id rfl
@[simp] theorem ev_sub:Fp (.int i) (.int j) G=.ok (.int (i - j)) G:=id rfl
theorem log2_small {n:Nat} (h:n < 10 ^ 100):n.log2 < 9000:=by
 by_cases hn:n=0
 ·subst hn;decide
 ·rw [Nat.log2_lt hn];exact Nat.lt_trans h (by decide)
@[simp] theorem ZG5 {n:Nat} [NeZero n] (h:n < 10 ^ 100):Br (.int i) (.int (no_index (OfNat.ofNat n))) G=.ok (.int (i / OfNat.ofNat n)) G:=
 if_pos ⟨Int.ofNat_lt.mpr (Nat.pos_of_ne_zero (NeZero.ne n)),log2_small h⟩
@[simp] theorem ev_mod:Az (.int i) (.int j) G=if 0 < j then .ok (.int (i % j)) G else .bad:=id rfl
@[simp] theorem ev_pow:Hf (.int i) (.int j) G=if 0<=j/\j<=1000000/\i.natAbs < 18446744073709551616 then .ok (.int (i ^ j.toNat)) G else .bad:=id rfl
@[simp] theorem ev_lt:Gk (.int i) (.int j) G=.ok (.bl (decide (i < j))) G:=id rfl
@[simp] theorem ev_le:Q7 (.int i) (.int j) G=.ok (.bl (decide (i<=j))) G:=id rfl
@[simp] theorem ev_gt:Hr (.int i) (.int j) G=.ok (.bl (decide (j < i))) G:=id rfl
@[simp] theorem ev_ge:Um (.int i) (.int j) G=.ok (.bl (decide (j<=i))) G:=id rfl
@[simp] theorem ev_eq:Ce (.int i) (.int j) G=.ok (.bl (decide (i=j))) G:=id rfl
@[simp] theorem ev_ne:Jy (.int i) (.int j) G=.ok (.bl (!decide (i=j))) G:=id rfl
@[simp] theorem ev_eqS:Ce (.str x) (.str y) G=.ok (.bl (decide (x=y))) G:=id rfl
@[simp] theorem ev_max:Jt [.int i,.int j] G=.ok (.int (max i j)) G:=by
 show R.ok (D.int (if j > i then j else i)) G=_
 congr 2
 split <;> omega
@[simp] theorem ev_min:Ov [.int i,.int j] G=.ok (.int (min i j)) G:=by
 show R.ok (D.int (if j < i then j else i)) G=_
 congr 2
 split <;> omega
@[simp] theorem ZHV:Bt (.fl ds) G=some ds:=id rfl
@[simp] theorem V0 {n:Nat}:Bt (.ref n) G=(match G[n]? with | some (.lst xs)=>some xs | _=>none):=id rfl
@[simp] theorem ZHN:Bs [.tup ds] G=.ok (.int ds.length) G:=id rfl
@[simp] theorem ZHa:Bs [.fl ds] G=.ok (.int ds.length) G:=id rfl
@[simp] theorem ZHC {n:Nat}:Bs [.ref n] G=(match G[n]? with | some (.lst xs)=>.ok (.int xs.length) G | _=>.bad):=by
 unfold Bs;simp only [V0];cases G[n]? with
 | none=>rfl
 | some o=>cases o <;> rfl
@[simp] theorem ev_ixT:Ak (.tup ds) (.int i) G=(match atI ds i with | some v=>.ok v G | none=>.bad):=id rfl
@[simp] theorem ev_ixF:Ak (.fl ds) (.int i) G=(match atI ds i with | some v=>.ok v G | none=>.bad):=id rfl
@[simp] theorem ev_ixR {n:Nat}:Ak (.ref n) (.int i) G=(match G[n]? with | some (.lst xs)=>(match atI xs i with | some v=>.ok v G | none=>.bad) | _=>.bad):=by
 unfold Ak;simp only [V0];cases G[n]? with
 | none=>rfl
 | some o=>cases o <;> rfl
theorem Oj {n k:Nat} (h:k < n):ixN n (k:Int)=some k:=by unfold ixN;rw [if_pos (by omega),if_pos (by omega)];simp
theorem ZB8 {xs:List α} {k:Nat} {d:α} (h:xs[k]? =some d):atI xs (k:Int)=some d:=by unfold atI;rw [Oj (List.getElem?_eq_some_iff.mp h).1];exact h
theorem Dk {xs:List α} {j:Int} {k:Nat} {d:α} (e:j=k) (h:xs[k]? =some d):atI xs j=some d:=by subst e;exact ZB8 h
@[simp] theorem atI_0 {a:α} {xs:List α}:atI (a::xs) 0=some a:=Dk (k:=0) rfl rfl
@[simp] theorem atI_1 {a b:α} {xs:List α}:atI (a::b::xs) 1=some b:=Dk (k:=1) rfl rfl
@[simp] theorem atI_2 {a b c:α} {xs:List α}:atI (a::b::c::xs) 2=some c:=Dk (k:=2) rfl rfl
@[simp] theorem atI_3 {a b c d:α} {xs:List α}:atI (a::b::c::d::xs) 3=some d:=Dk (k:=3) rfl rfl
@[simp] theorem atI_4 {a b c d e:α} {xs:List α}:atI (a::b::c::d::e::xs) 4=some e:=Dk (k:=4) rfl rfl
@[simp] theorem ZHp:By ds G=if ds.length<=1000000 then .ok (.tup ds) G else .bad:=id rfl
@[simp] theorem ZHK:An ds G=if ds.length<=1000000 then .ok (.ref G.length) (G++ [.lst ds]) else .bad:=id rfl
@[simp] theorem ZHj:Di [.fl ds] G=.ok (.tup ds) G:=id rfl
@[simp] theorem ZGz {n:Nat}:Di [.ref n] G=(match G[n]? with | some (.lst xs)=>.ok (.tup xs) G | _=>.bad):=by
 unfold Di;simp only [V0];cases G[n]? with
 | none=>rfl
 | some o=>cases o <;> rfl
@[simp] theorem ev_itT:Gd (.tup ds) G=.ok (.pure ds) G:=id rfl
@[simp] theorem ev_itF:Gd (.fl ds) G=.ok (.pure ds) G:=id rfl
@[simp] theorem ZG1:rng1 [.int j] G=if inR j then .ok (.pure (Bl 0 j.toNat)) G else .bad:=id rfl
theorem Em (h0: -1000000000<=i) (h:i<=1000000000):inR i:=⟨by omega,by omega⟩
@[simp] theorem ZHD {n:Nat}:isL (.ref n) G=(match G[n]? with | some (.lst _)=>true | _=>false):=id rfl
@[simp] theorem ev_app {n:Nat} :El (.ref n) [d] G=(match G[n]? with | some (.lst xs)=>if xs.length < 1000000 then .ok .non (G.set n (.lst (xs++ [d]))) else .bad | _=>.bad):=id rfl
@[simp] theorem ZG9 {n:Nat} :Py (.ref n) (.int i) d G=(match G[n]? with | some (.lst xs)=>(match ixN xs.length i with | some j=>.ok .non (G.set n (.lst (xs.set j d))) | none=>.bad) | _=>.bad):=id rfl
@[simp] theorem ev_all {ks:List Bool}:Hz [.fl (ks.map D.bl)] G=.ok (.bl (ks.all id)) G:=by simp [Hz]
@[simp] theorem ZHG:M9 [d,.ty "bool"] G=(match tyD G d with | some .bl=>.ok (.bl true) G | some _=>.ok (.bl false) G | none=>.bad):=by
 unfold M9;dsimp only;cases tyD G d with
 | none=>rfl
 | some t=>cases t <;> rfl
end
section
variable {c:Prop} [Decidable c]
@[simp] theorem ite_ok {a b:α} :(if c then R.ok a G else R.ok b G)=R.ok (if c then a else b) G:=by split <;> rfl
end
def M4 (kvs:List (Key×D)) (k:Key):Option D:=(kvs.find? λkv=>decide (kv.1=k)).map (·.2)
def putD (kvs:List (Key×D)) (k:Key) (v:D):List (Key×D):=
 if (kvs.any λkv=>decide (kv.1=k))=true then kvs.map (λkv=>if kv.1=k then (kv.1,v) else kv) else kvs++ [(k,v)]
def Yv (d:D) (G:DH):Option (List (Key×D)):=match d with
 | .ref i=>match G[i]? with
  | some (.dct kvs)=>some kvs
  | _=>none
 | _=>none
theorem RepKV.nil:RepKV a [] []:=⟨rfl,rfl⟩
theorem RepKV.cons {k:Key} {us:List (Key×V)} (h:RepKV a ((k,d)::kvs) us):∃v r,us=(k,v)::r/\Rep a d v/\RepKV a kvs r:=by
 obtain ⟨h1,v,r,h2,h3,h4⟩:=h;cases us with
 | nil=>cases h2
 | cons p us=>
  obtain ⟨q,w⟩:=p;simp only [List.map_cons,List.cons.injEq] at h1 h2;obtain ⟨rfl,h1⟩:=h1;obtain ⟨rfl,rfl⟩:=h2;exact ⟨w,us,rfl,h3,h1,h4⟩
theorem RepKV.mk {k:Key} {us:List (Key×V)} (h:Rep a d v) (r:RepKV a kvs us):RepKV a ((k,d)::kvs) ((k,v)::us):=
 ⟨by simp only [List.map_cons,r.1],Reps.cons h r.2⟩
theorem RepKV.val {k:Key}:∀{kvs:List (Key×D)} {us:List (Key×V)},RepKV a kvs us->(M4 kvs k=none/\Fg us k=none)∨∃d v,M4 kvs k=some d/\Fg us k=some v/\Rep a d v
 | [],us,h=>by obtain ⟨h1,_⟩:=h;have:us= []:=List.map_eq_nil_iff.mp h1.symm;subst this;exact .inl ⟨rfl,rfl⟩
 | (q,d)::kvs,us,h=>by
  obtain ⟨v,r,rfl,h1,h2⟩:=RepKV.cons h;by_cases e:q=k
  ·exact .inr ⟨d,v,by simp [M4,List.find?_cons,e],by simp [Fg,List.find?_cons,e],h1⟩
  ·rcases RepKV.val (k:=k) h2 with ⟨e1,e2⟩ | ⟨d',v',e1,e2,e3⟩
   ·exact .inl ⟨by simpa [M4,List.find?_cons,e] using e1,by simpa [Fg,List.find?_cons,e] using e2⟩
   ·exact .inr ⟨d',v',by simpa [M4,List.find?_cons,e] using e1,by simpa [Fg,List.find?_cons,e] using e2,e3⟩
theorem RepKV.any {k:Key}:∀{kvs:List (Key×D)} {us:List (Key×V)},RepKV a kvs us->(kvs.any λkv=>decide (kv.1=k))=us.any λkv=>decide (kv.1=k)
 | [],us,h=>by
  obtain ⟨h1,_⟩:=h;have:us= []:=List.map_eq_nil_iff.mp h1.symm;subst this
  rfl
 | (q,d)::kvs,us,h=>by obtain ⟨v,r,rfl,h1,h2⟩:=RepKV.cons h;simp only [List.any_cons,RepKV.any (k:=k) h2]
theorem RepKV.repl {k:Key} (hv:Rep a d v):∀{kvs:List (Key×D)} {us:List (Key×V)},RepKV a kvs us->RepKV a (kvs.map λkv=>if kv.1=k then (kv.1,d) else kv) (us.map λkv=>if kv.1=k then (kv.1,v) else kv)
 | [],us,h=>by obtain ⟨h1,_⟩:=h;have:us= []:=List.map_eq_nil_iff.mp h1.symm;subst this;exact RepKV.nil
 | (q,e)::kvs,us,h=>by
  obtain ⟨w,r,rfl,h1,h2⟩:=RepKV.cons h;simp only [List.map_cons];by_cases hq:q=k
  ·rw [if_pos hq,if_pos hq];exact RepKV.mk hv (RepKV.repl hv h2)
  ·rw [if_neg hq,if_neg hq];exact RepKV.mk h1 (RepKV.repl hv h2)
theorem RepKV.put {k:Key} {us:List (Key×V)} (h:RepKV a kvs us) (hv:Rep a d v):RepKV a (putD kvs k d) (putK us k v):=by
 unfold putD putK;rw [RepKV.any (k:=k) h];split
 ·exact RepKV.repl hv h
 ·exact ⟨by simp [h.1],by have:=Reps.append h.2 (Reps.cons hv (Reps.nil));simpa using this⟩
theorem RepKV.len {us:List (Key×V)} (h:RepKV a kvs us):kvs.length=us.length:=by have:=congrArg List.length h.1;simpa using this
theorem Sim.dct {x:V} (s:Sim a G) (r:Rep a d x) (h:Yv d G=some kvs):∃i us,d=.ref i/\i < a.n/\x=.ref (a.m i)/\G[i]? =some (.dct kvs)/\a.H (a.m i)=some (.dK us)/\RepKV a kvs us:=by
 cases d with
 | ref i=>
  unfold Yv at h;dsimp only at h;split at h
  ·rename_i ks hi;cases h;obtain ⟨us,e1,r1⟩:=s.obj i _ hi;exact ⟨i,us,rfl,r.1,r.2,hi,e1,r1⟩
  ·cases h
 | _=>cases h
section
variable {X:Cx} {E:XK}
end
section
variable {S:DSt} {G:DH} {n:Nat} {kvs:List (Key×D)}
end
section
def okD:Nat->D->Bool
 | 0,_=>false
 | _ + 1,.non=>true
 | _ + 1,.int _=>true
 | _ + 1,.str _=>true
 | n + 1,.tup ds=>ds.all (okD n)
 | n + 1,.fl ds=>ds.all (okD n)
 | _ + 1,_=>false
theorem Ve:∀{n m:Nat} {d:D},okD n d=true->n<=m->okD m d=true
 | 0,_,_,h,_=>by cases h
 | n + 1,0,_,_,h=>by omega
 | n + 1,m + 1,d,h,hm=>by
  cases d with
  | tup ds=>
   simp only [okD,List.all_eq_true] at h ⊢;exact λx hx=>Ve (h x hx) (by omega)
  | fl ds=>
   simp only [okD,List.all_eq_true] at h ⊢;exact λx hx=>Ve (h x hx) (by omega)
  | _=>first | rfl | (simp [okD] at h)
theorem Vo {f:D->D->Option Bool} {P:D->Prop} (hf:∀x y,P x->P y->∃b,f x y=some b/\(b=true↔x=y)):∀{xs ys:List D},(∀x∈xs,P x)->(∀y∈ys,P y)->
  ∃b,eqZ f xs ys=some b/\(b=true↔xs.take ys.length=ys.take xs.length)
 | [],ys,_,_=>⟨true,by cases ys <;> rfl,by simp⟩
 | x::xs,[],_,_=>⟨true,rfl,by simp⟩
 | x::xs,y::ys,hx,hy=>by obtain ⟨b,e1,h1⟩:=hf x y (hx x (by simp)) (hy y (by simp));obtain ⟨c,e2,h2⟩:=Vo hf (λz hz=>hx z (List.mem_cons_of_mem _ hz)) (λz hz=>hy z (List.mem_cons_of_mem _ hz));refine ⟨b && c,by simp [eqZ,e1,e2],?_⟩;simp [h1,h2]
theorem ZBO {G:DH}:∀(n:Nat) (d e:D),okD n d=true->okD n e=true->∃b,eqD n G d e=some b/\(b=true↔d=e)
 | 0,d,e,h,_=>by cases h
 | n + 1,d,e,h1,h2=>by
  have ih:=ZBO (G:=G) n;cases d with
  | bl _=>simp [okD] at h1
  | ty _=>simp [okD] at h1
  | ref _=>simp [okD] at h1
  | tup xs=>
   cases e with
   | bl _=>simp [okD] at h2
   | ty _=>simp [okD] at h2
   | ref _=>simp [okD] at h2
   | tup ys=>
    simp only [okD,List.all_eq_true] at h1 h2;obtain ⟨b,e1,h3⟩:=Vo ih (λx hx=>h1 x hx) (λx hx=>h2 x hx);refine ⟨b && xs.length == ys.length,by simp [eqD,view,e1],?_⟩;simp only [Bool.and_eq_true,h3,beq_iff_eq,D.tup.injEq];constructor
    ·rintro ⟨e,hl⟩;rw [<-hl,List.take_length] at e;rw [e,hl,List.take_length]
    ·rintro rfl;exact ⟨rfl,rfl⟩
   | _=>exact ⟨false,by simp [eqD,view],by simp⟩
  | fl xs=>
   cases e with
   | bl _=>simp [okD] at h2
   | ty _=>simp [okD] at h2
   | ref _=>simp [okD] at h2
   | fl ys=>
    simp only [okD,List.all_eq_true] at h1 h2;by_cases hl:xs.length=ys.length
    ·obtain ⟨b,e1,h3⟩:=Vo ih (λx hx=>h1 x hx) (λx hx=>h2 x hx);refine ⟨b,by simp [eqD,view,hl,e1],?_⟩;rw [h3,<-hl,List.take_length,hl,List.take_length];simp
    ·exact ⟨false,by simp [eqD,view,hl],by simp;rintro rfl;exact hl rfl⟩
   | _=>exact ⟨false,by simp [eqD,view],by simp⟩
  | non=>cases e <;> first | (simp [okD] at h2;done) | exact ⟨_,rfl,by simp [eqV]⟩
  | int i=>cases e <;> first | (simp [okD] at h2;done) | exact ⟨_,rfl,by simp [eqV]⟩
  | str i=>cases e <;> first | (simp [okD] at h2;done) | exact ⟨_,rfl,by simp [eqV]⟩
open Classical in
theorem Yo {e:D} (h1:okD 30 d=true) (h2:okD 30 e=true):Ce d e G=.ok (.bl (decide (d=e))) G:=by
 obtain ⟨b,e1,h⟩:=ZBO (G:=G) 30 d e h1 h2;unfold Ce;rw [e1];cases b with
 | true=>simp [h.mp rfl]
 | false=>simp [show¬d=e from λz=>Bool.false_ne_true (h.mpr z)]
theorem ZEq (h1:okD 30 d=true):Ce d d G=.ok (.bl true) G:=by rw [Yo h1 h1];simp
theorem ZE4 {n:Nat} (h:∀d∈ds,okD n d=true):okD (n + 1) (.tup ds)=true:=by simpa [okD] using h
theorem ZAD {n:Nat} (h:∀d∈ds,okD n d=true):okD (n + 1) (.fl ds)=true:=by simpa [okD] using h
end
def cutD {α:Type} (xs:List α) (lo hi:Option Int):List α:=(xs.drop (HT.sIx xs.length 0 lo)).take (HT.sIx xs.length xs.length hi - HT.sIx xs.length 0 lo)
def Mj (z:Str) (lo hi:Option Int):Str:=⟨(cutD z.cps.toList lo hi).toArray⟩
theorem ZBx (xs:List α) (lo hi:Option Int):(cutD xs lo hi).length<=xs.length:=by unfold cutD;rw [List.length_take,List.length_drop];omega
def Io (t:Option DE) (S:DSt) (G:DH):R (Option Int):=match t with
 | none=>.ok none G
 | some t=>(t S G).bind λd G1=>match d with
  | .int i=>.ok (some i) G1
  | _=>.bad
def Ow (d:D) (lo hi:Option Int) (G:DH):R D:=match d with
 | .str z=>if z.length<=1000000 then .ok (.str (Mj z lo hi)) G else .bad
 | .tup xs=>.ok (.tup (cutD xs lo hi)) G
 | d=>match Hk d G with
  | some xs=>.ok (.ref G.length) (G++ [.lst (cutD xs lo hi)])
  | none=>.bad
def dSl (e:DE) (lo hi:Option DE):DE:=λS G=>(e S G).bind λd G1=>(Io lo S G1).bind λl G2=>(Io hi S G2).bind λh G3=>Ow d l h G3
theorem Kp (n:Nat) (v:Int):((HT.sIx n n (some v):Nat):Int)=max 0 (min (if v < 0 then v + (n:Int) else v) n)/\((HT.sIx n 0 (some v):Nat):Int)=max 0 (min (if v < 0 then v + (n:Int) else v) n):=by
 unfold HT.sIx;by_cases hv:v < 0
 ·simp only [if_pos hv];omega
 ·simp only [if_neg hv];omega
theorem ZF3 (xs:Array Nat) (i k:Nat):(List.range k).filterMap (λm=>xs[i + m]?)=(xs.toList.drop i).take k:=by
 induction k generalizing i with
 | zero=>simp
 | succ k ih=>
  rw [List.range_succ_eq_map,List.filterMap_cons];have e:(List.map Nat.succ (List.range k)).filterMap (λm=>xs[i + m]?)=(List.range k).filterMap (λm=>xs[i + 1 + m]?):=by
   rw [List.filterMap_map]
   congr 1
   funext m;simp only [Function.comp]
   congr 1
   omega
  rw [e,ih (i + 1)];by_cases hi:i < xs.size
  ·have h1:xs[i + 0]? =some xs[i]:=by simp [hi]
   rw [h1];have h2:xs.toList.drop i=xs[i]::xs.toList.drop (i + 1):=by rw [List.drop_eq_getElem_cons (by simpa using hi)];simp
   rw [h2];simp
  ·have h1:xs[i + 0]? =none:=by simp;omega
   rw [h1];simp only;rw [List.drop_of_length_le (by simp;omega),List.drop_of_length_le (by simp;omega)];simp
theorem ZGj (x:Str) (lo hi:Option Int):Txt.slice x lo hi=Mj x lo hi:=by
 have hlen:x.length=x.cps.toList.length:=by simp [Str.length]
 have key:(Builtin.Str.strSliceIndices lo hi 1 x.length).filterMap (x.cps[·]?)=cutD x.cps.toList lo hi:=by
  have e1:∀(v:Option Int),(match v with | none=>(0:Int) | some i=>max 0 (min (if i < 0 then i + (x.length:Int) else i) x.length))=((HT.sIx x.length 0 v:Nat):Int):=λv=>by
   cases v with
   | none=>rfl
   | some i=>exact (Kp x.length i).2.symm
  have e2:∀(v:Option Int),(match v with | none=>(x.length:Int) | some i=>max 0 (min (if i < 0 then i + (x.length:Int) else i) x.length))=((HT.sIx x.length x.length v:Nat):Int):=λv=>by
   cases v with
   | none=>rfl
   | some i=>exact (Kp x.length i).1.symm
  have e3:Builtin.Str.strSliceIndices lo hi 1 x.length=sliceRange ((HT.sIx x.length 0 lo:Nat):Int) ((HT.sIx x.length x.length hi:Nat):Int) 1:=by
   rw [<-e1 lo,<-e2 hi];unfold Builtin.Str.strSliceIndices
   cases lo <;> cases hi <;> simp
  rw [e3];unfold sliceRange cutD;rw [List.filterMap_map,<-hlen];generalize HT.sIx x.length 0 lo=i;generalize HT.sIx x.length x.length hi=j;have e4:((λa=>x.cps[a]?) ∘ λ(k:Nat)=>((i:Int) + 1 * (k:Int)).toNat)=λk=>x.cps[i + k]? :=by
   funext k;simp only [Function.comp]
   congr 1
   omega
  have e5:(if (1:Int) > 0 then if (i:Int) < (j:Int) then ((j:Int) - i + 1 - 1) / 1 else 0 else if (i:Int) > (j:Int) then ((i:Int) - j - 1 - 1) / -1 else 0).toNat=j - i:=by
   rw [if_pos (by omega)];split
   ·rw [Int.ediv_one];omega
   ·omega
  rw [e4,e5];exact ZF3 x.cps i (j - i)
 unfold Txt.slice Mj;split
 ·rename_i h;have h':(Builtin.Str.strSliceIndices lo hi 1 x.length).length=x.length:=by simpa using h
  have hsz:(cutD x.cps.toList lo hi).length=x.cps.toList.length∨(cutD x.cps.toList lo hi).length < x.cps.toList.length:=by have:=ZBx x.cps.toList lo hi;omega
  have hall:(cutD x.cps.toList lo hi).length=x.cps.toList.length:=by
   have e3:(Builtin.Str.strSliceIndices lo hi 1 x.length).length=HT.sIx x.length x.length hi - HT.sIx x.length 0 lo:=by
    have e1:∀(v:Option Int),(match v with | none=>(0:Int) | some i=>max 0 (min (if i < 0 then i + (x.length:Int) else i) x.length))=((HT.sIx x.length 0 v:Nat):Int):=λv=>by
     cases v with
     | none=>rfl
     | some i=>exact (Kp x.length i).2.symm
    have e2:∀(v:Option Int),(match v with | none=>(x.length:Int) | some i=>max 0 (min (if i < 0 then i + (x.length:Int) else i) x.length))=((HT.sIx x.length x.length v:Nat):Int):=λv=>by
     cases v with
     | none=>rfl
     | some i=>exact (Kp x.length i).1.symm
    have e3:Builtin.Str.strSliceIndices lo hi 1 x.length=sliceRange ((HT.sIx x.length 0 lo:Nat):Int) ((HT.sIx x.length x.length hi:Nat):Int) 1:=by
     rw [<-e1 lo,<-e2 hi];unfold Builtin.Str.strSliceIndices
     cases lo <;> cases hi <;> simp
    rw [e3];unfold sliceRange;rw [List.length_map,List.length_range];generalize HT.sIx x.length 0 lo=i;generalize HT.sIx x.length x.length hi=j;rw [if_pos (by omega)];split
    ·rw [Int.ediv_one];omega
    ·omega
   have hj:HT.sIx x.length x.length hi<=x.length:=HT.Zx _ _ (Nat.le_refl _) hi;unfold cutD;rw [List.length_take,List.length_drop,<-hlen];omega
  have hs:(cutD x.cps.toList lo hi).Sublist x.cps.toList:=(List.take_sublist _ _).trans (List.drop_sublist _ _);rw [hs.eq_of_length hall]
 ·rw [key]
section
variable {X:Cx} {E:XK}
theorem ZCg:SlR X (λx lo hi H Q=>∃z:Str,x=.str z/\z.length<=sizeLine/\Q (.str (Mj z lo hi)) H):=by
 intro pins s σ H x v vl vu lo hi sl Q I rx hs pl pu h;obtain ⟨z,rfl,hz,q⟩:=h;obtain ⟨t,rfl⟩:=rx;refine ⟨"str",_,PySem.F.slot_str_getitem.lookup,typeIs_str _ _ _,?_⟩
 have fin:∀(l u:Option (Int×Tok)),vl=partValue l->vu=partValue u->l.map (·.1)=lo->u.map (·.1)=hi->wpAny (model X.prog X.w) X.A (getItem (.str z t) (.ref sl)) (EP X pins σ Q) X.xe s:=by
  rintro l u rfl rfl rfl rfl
  refine wpAny_getItem_str_slice (l:=l) (u:=u) (st:=none) (show s.heap.IsSlice sl l u none from hs) rfl ?_
  have e:∀Q',(Txt.slice z (l.map (·.1)) (u.map (·.1))).length<=sizeLine/\(∀t' k,Q' (.str (Txt.slice z (l.map (·.1)) (u.map (·.1))) t') {s with toks:=k})->(sliceMade z t l u none).post Q' s:=λQ' hq=>post_val_or_str hq
  refine e _ ⟨Nat.le_trans (Txt.slice_le z _ _) hz,λt' k=> ?_⟩;rw [ZGj];exact ⟨.str _,H,I.tok k,⟨t',rfl⟩,q⟩
 cases pl with
 | none=>cases pu with
  | none=>exact fin none none rfl rfl rfl rfl
  | int j tj=>exact fin none (some (j,tj)) rfl rfl rfl rfl
 | int i ti=>cases pu with
  | none=>exact fin (some (i,ti)) none rfl rfl rfl rfl
  | int j tj=>exact fin (some (i,ti)) (some (j,tj)) rfl rfl rfl rfl
theorem ZEk {prog:Program} {E:Value->Shared->Prop} {t sl:Addr} {items:Array Value} {vl vu:Value} {lo hi:Option Int} {Q:Value->Shared->Prop} (ht:IsTup s.heap t items) (hs:s.heap.IsSliceOf sl vl vu .none) (pl:IsPart vl lo) (pu:IsPart vu hi)
  (hw:HT.sIx items.size 0 lo=0/\HT.sIx items.size items.size hi=items.size) (h:Q (.ref t) s):wpAny (model prog w) A (getItem (.ref t) (.ref sl)) Q E s:=by
 obtain ⟨os,hos,hcs,hds⟩:=id hs;have hTs:s.TypeIs (.ref sl) "slice":=⟨os,hos,hcs⟩;unfold getItem
 try with_reducible refine wpAny_holding ?_
 first | refine wpAny_bind (wpAny_pure ?_) | skip
 refine wpAny_bind (wpAny_sequenceKey ht.typeIs (by decide) ?_);refine wpAny_bind (wpAny_callSpecial?_slot (name:=Str.ofString "__getitem__") ht.typeIs PyProof.Rows.slot_tuple_getitem
  (wpAny_call_entry PyProof.Rows.slot_tuple_getitem ht.typeIs entry_tuple_getitem ?_ (args_tuple_getitem _ _)))
 show wpAny _ _ (Builtin.Tuple.tupleItemsOf (.ref t) >>=_) _ _ s;refine wpAny_bind (tupleItemsOf_ ht ?_);refine wpAny_bind (wpAny_typeOf hTs ?_);rw [if_pos (by decide)];refine wpAny_bind (HT.ZAa hs pl pu ?_);have hyes:(((HT.sIx items.size 0 lo:Nat):Int) == 0 && (1:Int) == 1 && (HT.sIx items.size items.size hi - HT.sIx items.size 0 lo) == items.size)=true:=by rw [hw.1,hw.2];simp
 show wpAny _ _ (if (((HT.sIx items.size 0 lo:Nat):Int) == 0 && (1:Int) == 1 && (HT.sIx items.size items.size hi - HT.sIx items.size 0 lo) == items.size)=true then _ else _) _ _ s;rw [if_pos hyes];refine wpAny_bind ?_;unfold Builtin.Tuple.tupleIsExact;refine wpAny_bind (wpAny_typeOf ht.typeIs (wpAny_pure ?_));rw [if_pos (by decide)];exact wpAny_bind (wpAny_rule (wpAny_pure ⟨_,rfl,wpAny_pure h⟩))
theorem ZEG:SlR X (λx lo hi H Q=>∃a xs,x=.ref a/\SqT X.K H a xs/\(HT.sIx xs.length 0 lo=0/\HT.sIx xs.length xs.length hi=xs.length)/\Q (.ref a) H):=by
 intro pins s σ H x v vl vu lo hi sl Q I rx hs pl pu h;obtain ⟨a,xs,rfl,hx,hw,q⟩:=h;cases rx;obtain ⟨its,r,ht,hz⟩:=I.tuple hx;have hlen:its.toArray.size=xs.length:=by rw [List.size_toArray];exact r.length.symm
 exact ⟨"tuple",_,PyProof.Rows.slot_tuple_getitem.lookup,ht.typeIs,ZEk ht hs pl pu (by rw [hlen];exact hw) ⟨.ref a,H,I,rfl,q⟩⟩
def Jm (E:XK) (a:Wd) (r:R (Option Int)) (Q:Option Int->Hp->Prop):Prop:=match r with
 | .ok k G=>∀(b:Wd),Ext a b->Sim b G->Q k b.H
 | .err x G=>XOk E a x G
 | .bad=>False
def QO (X:Cx) (E:XK) (e:Option Expr) (t:Option DE):Prop:=PO X e (λσ H Q=>∃(a:Wd) (S:DSt) (G:DH),a.K=X.K/\a.H=H/\Sim a G/\RepS a S σ/\Jm E a (Io t S G) Q)
theorem _root_.L2.PO.mono {e:Option Expr} {t t':TO} (h:PO X e t) (w:∀σ H Q,t' σ H Q->t σ H Q):PO X e t':=λpins s σ H Q I q=>h pins s σ H Q I (w σ H Q q)
theorem Q6:QO X E none none:=ZFS.mono λσ H Q h=>by obtain ⟨a,S,G,hk,rfl,s,r,h⟩:=h;exact h a (Ext.refl a) s
theorem Sq (he:QE X E e t):QO X E (some e) (some t):=(ZDV he).mono λσ H Q h=>by
 obtain ⟨a,S,G,hk,rfl,s,r,h⟩:=h;refine ⟨a,S,G,hk,rfl,s,r,?_⟩
 have h':Jm E a ((t S G).bind λd G1=>match d with | .int i=>.ok (some i) G1 | _=>.bad) Q:=h
 cases ht:t S G with
 | ok d G1=>
  rw [ht] at h';intro b v x sb rv;cases d with
  | int i=>exact ⟨i,rv,h' b x sb⟩
  | _=>exact h'.elim
 | err x G1=>rw [ht] at h';exact h'
 | bad=>rw [ht] at h';exact h'
theorem Reps.cutD (r:Reps a ds vs) (lo hi:Option Int):Reps a (DL.cutD ds lo hi) (Ie vs lo hi):=by unfold DL.cutD Ie;rw [r.length];exact (r.drop _).take _
theorem Jm.imp {r:R (Option Int)} {Q Q':Option Int->Hp->Prop} (h:Jm E a r Q) (w:∀v H,Q v H->Q' v H):Jm E a r Q':=by
 cases r with
 | ok d G=>exact λb x s=>w _ _ (h b x s)
 | err e G=>exact h
 | bad=>exact h
theorem ZAR {r:R (Option Int)} {f:Option Int->DH->R D} (h:out E a (r.bind f) Q):
  Jm E a r (λk H=>∃(b:Wd) (G:DH),b.H=H/\Ext a b/\Sim b G/\r=.ok k G/\out E b (f k G) Q):=by
 cases r with
 | ok d G=>exact λb x s=>⟨b,G,rfl,x,s,rfl,out.mono x h⟩
 | err e G=>exact h
 | bad=>exact h
theorem Qv {lo hi:Option Expr} {tl th:Option DE} {p2 pos:Pos} (he:QE X E e te) (hl:QO X E lo tl) (hu:QO X E hi th):QE X E (.Subscript e (.Slice lo hi none p2) pos) (dSl te tl th):=
 (ZDZ (ZGZ.or (ZDS.or (ZEG.or ZCg))) he hl hu).mono λσ H Q h=>by
 obtain ⟨a,S,G,hk,rfl,s,r,h⟩:=h;refine ⟨a,S,G,hk,rfl,s,r,(Gh h).imp ?_⟩;rintro v _ ⟨b,d,G1,rfl,x,s1,q,_,h1⟩;refine ⟨b,S,G1,x.k.trans hk,rfl,s1,r.mono x,(ZAR h1).imp ?_⟩;rintro l _ ⟨c,G2,rfl,y,s2,_,h2⟩;refine ⟨c,S,G2,y.k.trans (x.k.trans hk),rfl,s2,(r.mono x).mono y,(ZAR h2).imp ?_⟩;rintro u _ ⟨c3,G3,rfl,y3,s3,_,h3⟩;have hk3:=y3.k.trans (y.k.trans (x.k.trans hk));have q3:=(q.mono y).mono y3
 have lst:out E c3 (match Hk d G3 with | some xs=>.ok (.ref G3.length) (G3++ [.lst (cutD xs l u)]) | none=>.bad) Q->rSlL X.K v l u c3.H Q:=λh3=>by
  split at h3
  ·rename_i xs hx;obtain ⟨p,vs,e1,q1,r1⟩:=W9 s3 q3 hx;exact ⟨p,vs,e1,by rw [<-hk3];exact q1,λp hp=>Oh s3 (Reps.cutD r1 l u) h3 p hp⟩
  ·exact h3.elim
 cases d with
 | str z=>
  have h4:out E c3 (if z.length<=1000000 then .ok (.str (Mj z l u)) G3 else .bad) Q:=h3;split at h4
  ·rename_i hl
   cases (show v=V.str z from q3)
   exact .inr (.inr (.inr ⟨z,rfl,Nat.le_trans hl size6,h4 c3 _ (Ext.refl _) s3 rfl⟩))
  ·exact h4.elim
 | tup xs=>
  have h4:out E c3 (.ok (.tup (cutD xs l u)) G3) Q:=h3;obtain ⟨p,vs,e1,q1,r1⟩:=q3;by_cases hw:HT.sIx vs.length 0 l=0/\HT.sIx vs.length vs.length u=vs.length
  ·refine .inr (.inr (.inl ⟨p,vs,e1,by rw [<-hk3];exact q1,hw,h4 c3 _ (Ext.refl _) s3 ⟨p,vs,rfl,q1,?_⟩⟩));have:cutD xs l u=xs:=by unfold cutD;rw [r1.length,hw.1,hw.2,<-r1.length];simp
   rw [this];exact r1
  ·exact .inr (.inl ⟨p,vs,e1,by rw [<-hk3];exact q1,hw,λp hp=>U5 s3 (Reps.cutD r1 l u) h4 p hp⟩)
 | fl xs=>exact .inl (lst h3)
 | ref i=>exact .inl (lst h3)
 | non=>exact (show False from h3).elim
 | bl _=>exact (show False from h3).elim
 | int _=>exact (show False from h3).elim
 | ty _=>exact (show False from h3).elim
section
variable {name:Str} {id:String} {f:D->List D->DH->R D} {o e:Expr} {es:List Expr} {to:DE} {t:DA} {apos cpos:Pos}
end
end
section
variable {S:DSt} {G:DH}
@[simp] theorem ev_Sl {e:DE} {lo hi:Option DE}:dSl e lo hi S G=(e S G).bind λd G1=>(Io lo S G1).bind λl G2=>(Io hi S G2).bind λh G3=>Ow d l h G3:=id rfl
@[simp] theorem ZHq:Io none S G=.ok none G:=id rfl
@[simp] theorem ZGy:Io (some t) S G=(t S G).bind λd G1=>match d with | .int i=>.ok (some i) G1 | _=>.bad:=id rfl
@[simp] theorem ZHS:Ga [.fl xs] G=.ok (.ref G.length) (G++ [.lst xs]):=id rfl
@[simp] theorem ZG0:Ga [.tup xs] G=.ok (.ref G.length) (G++ [.lst xs]):=id rfl
@[simp] theorem ZHg {ys:List D}:Am (.fl xs) (.fl ys) G=if xs.length + ys.length<=1000000 then .ok (.ref G.length) (G++ [.lst (xs++ys)]) else .bad:=id rfl
@[simp] theorem Le {z:Str} {i:Int}:Ak (.str z) (.int i) G=if z.length<=1000000 then (match atI z.cps.toList i with | some c=>.ok (sgn c) G | none=>.bad) else .bad:=id rfl
end
end DL
namespace DL
open PySem PySem.Spec L2
open PyProof.Rows hiding St
open Builtin.Str
variable {g:DG} {te:DE} {S:DSt} {G:DH} {F:D->Option D} {i:Nat} {xs:List D}
section
variable (p:Nat->Bool) (m:Nat)
end
def CStep (g:DG) (c:DB) (te:DE) (S:DSt) (G:DH) (x:D) (r:Option D):Prop:=
 ∃S1,g x S G=.ok S1 G/\((c S1 G=.ok false G/\r=none)∨(c S1 G=.ok true G/\∃d,te S1 G=.ok d G/\r=some d))
theorem ZBH {c:DB} :∀{xs:List D},(∀x∈xs,CStep g c te S G x (F x))->Cu g c te S xs G=.ok (xs.filterMap F) G
 | [],_=>rfl
 | x::xs,h=>by
  obtain ⟨S1,h1,h2⟩:=h x (by simp);have ih:=ZBH (λy hy=>h y (List.mem_cons_of_mem _ hy));rw [Qy,h1];rcases h2 with ⟨h2,h3⟩ | ⟨h2,d,h3,h4⟩
  ·simp [h2,h3,ih,List.filterMap_cons]
  ·simp [h2,h3,h4,ih,List.filterMap_cons]
theorem Zw {c:DB} (hG:G[i]? =some (.lst xs)) (h:∀x∈xs,CStep g c te S G x (F x)):
  ∀(n j:Nat),j + n=xs.length->Ed i g c te S n j G=.ok ((xs.drop j).filterMap F) G
 | 0,j,hj=>by
  unfold Ed;rw [hG];simp only;rw [if_pos (by omega),List.drop_of_length_le (by omega)]
  rfl
 | n + 1,j,hj=>by
  have hlt:j < xs.length:=by omega
  have ih:=Zw hG h n (j + 1) (by omega);obtain ⟨S1,h1,h2⟩:=h xs[j] (List.getElem_mem hlt);unfold Ed;rw [hG];simp only;rw [List.getElem?_eq_getElem hlt];simp only [h1,R.U8];rw [List.drop_eq_getElem_cons hlt,List.filterMap_cons];rcases h2 with ⟨h2,h3⟩ | ⟨h2,d,h3,h4⟩
  ·simp [h2,h3,ih]
  ·simp [h2,h3,h4,ih]
theorem ZGR {c:DB} (hG:G[i]? =some (.lst xs)) (h:∀x∈xs,CStep g c te S G x (F x)):
  Ed i g c te S xs.length 0 G=.ok (xs.filterMap F) G:=Zw hG h xs.length 0 (by omega)
theorem ZCP (h:G[i]? =some (.lst xs)):view G (.ref i)=view G (.fl xs):=by simp [view,h]
theorem ZCy {n:Nat} {e:D} (h:G[i]? =some (.lst xs)):eqD n G (.ref i) e=eqD n G (.fl xs) e:=by
 cases n with
 | zero=>rfl
 | succ n=>simp only [eqD,ZCP h]
theorem ZC5 {e:D} (h:G[i]? =some (.lst xs)):Ce (.ref i) e G=Ce (.fl xs) e G:=by unfold Ce;rw [ZCy h]
theorem ZAN {x y:Str} (h:x.cps.toList=y.cps.toList):x=y:=by obtain ⟨a⟩:=x;obtain ⟨b⟩:=y;simp only at h;rw [Array.toList_inj.mp h]
end DL
namespace DL
open PySem PySem.Spec L2
open PyProof.Rows hiding St
variable {h h':Heap} {p z:Addr} {k i:Nat} {os:List Value}
inductive Src where
 | l (a:Addr)
 | t (a:Addr)
variable {sr:Src} {l:List (Src×Addr)}
def Src.itn:Src->String
 | .l _=>"list_iterator"
 | .t _=>"tuple_iterator"
def Src.adr:Src->Addr
 | .l a=>a
 | .t a=>a
def Src.it (h:Heap) (p:Addr) (k:Nat) (sr:Src):Prop:=∃o,h.get? p=some o/\o.cls=.type sr.itn/\o.data=.fields #[.ref sr.adr,.int k 0]
def Src.val (h:Heap) (xs:Array Value):Src->Prop
 | .l a=>h.IsList a xs
 | .t a=>h.IsTuple a xs
theorem Src.it.at (x:sr.it h p k) (e:∀o,h.get? p=some o->h'.get? p=some o):sr.it h' p k:=let ⟨o,ho,r⟩:=x;⟨o,e o ho,r⟩
theorem Src.val.at {xs:Array Value} (x:sr.val h xs) (e:∀o,h.get? sr.adr=some o->h'.get? sr.adr=some o):sr.val h' xs:=by
 cases sr with
 | l a=>obtain ⟨o,ho,r⟩:=x;exact ⟨o,e o ho,r⟩
 | t a=>obtain ⟨o,ho,r⟩:=x;exact ⟨o,e o ho,r⟩
theorem Src.it.lt (x:sr.it h p k):p < h.objs.size:=let ⟨_,ho,_⟩:=x;Heap.lt_size ho
section
variable {prog:Program} {w:World} {A:Around} {E:Value->Shared->Prop} {s:Shared}
theorem Src.val.obj {xs:Array Value} (x:sr.val h xs):∃o n,h.get? sr.adr=some o/\o.data=.seq xs n:=by
 cases sr with
 | l a=>obtain ⟨o,ho,_,n,hd⟩:=x;exact ⟨o,n,ho,hd⟩
 | t a=>obtain ⟨o,ho,_,n,hd⟩:=x;exact ⟨o,n,ho,hd⟩
theorem Src.next_item {xs:Array Value} {x:Value} {Q:Value->Shared->Prop} (hit:sr.it s.heap p k) (hv:sr.val s.heap xs) (hx:xs[k]? =some x)
  (hQ:∀h',sr.it h' p (k + 1)->Heap.SameBut p s.heap h'->Q x {s with heap:=h'}):wpAny (model prog w) A (Builtin.SmallTypes.nextOf (.ref p)) Q E s:=by
 cases sr with
 | l a=>exact wpAny_nextOf_list_item (show s.heap.IsListIter p a k from hit) hv hx hQ
 | t a=>
  obtain ⟨o,ho,hc,hd⟩:=id hit;obtain ⟨ol,hol,_,nl,hdl⟩:=hv;have hT:s.TypeIs (.ref p) "tuple_iterator":=⟨o,ho,hc⟩;unfold Builtin.SmallTypes.nextOf;refine wpAny_bind (wpAny_callSpecial?_slot (name:=Str.ofString "__next__") hT PySem.F.slot_tuple_iterator_next (wpAny_call_entry PySem.F.slot_tuple_iterator_next hT PySem.F.entry_tuple_iterator_next ?_ (PySem.F.args_tuple_iterator_next_1 _)));refine wpAny_bind (m:=field (.ref p) 0) (wpAny_field ho hd (x:=.ref a) rfl ?_)
  show wpAny _ _ (if (Value.ref a == Value.none)=true then _ else (field (.ref p) 1 >>=_)) _ _ s
  rw [if_neg (show¬((Value.ref a == Value.none)=true) from Bool.false_ne_true)]
  refine wpAny_bind (m:=field (.ref p) 1) (wpAny_field ho hd (x:=.int k 0) rfl (wpAny_bind (m:=seqItems? (.ref a)) (wpAny_seqItems hol hdl ?_)));simp only [Int.toNat_natCast,hx];refine wpAny_bind (wpAny_setField ho hd (by simp) (wpAny_pure ⟨x,rfl,wpAny_pure (hQ _ ⟨_,Heap.get?_update_self _ ho (Obj.isFreed_of_fields (Obj.data_mapFields hd _)),(Obj.cls_mapFields ..).trans hc,?_⟩ (Heap.SameBut.update ..))⟩))
  rw [Obj.data_mapFields hd];simp [rawInt,Src.adr]
theorem Src.next_end {xs:Array Value} {Q:Value->Shared->Prop} (hh:A.handled=none) (hit:sr.it s.heap p k) (hv:sr.val s.heap xs) (hx:xs[k]? =none)
  (hE:∀h' e,Heap.ExtBut p s.heap h'->(∃o,h'.get? e=some o/\o.cls=.type "StopIteration")->E (.ref e) {s with heap:=h'}):wpAny (model prog w) A (Builtin.SmallTypes.nextOf (.ref p)) Q E s:=by
 cases sr with
 | l a=>exact wpAny_nextOf_list_end hh (show s.heap.IsListIter p a k from hit) hv hx hE
 | t a=>
  obtain ⟨o,ho,hc,hd⟩:=id hit;obtain ⟨ol,hol,_,nl,hdl⟩:=hv;have hT:s.TypeIs (.ref p) "tuple_iterator":=⟨o,ho,hc⟩;unfold Builtin.SmallTypes.nextOf;refine wpAny_bind (wpAny_callSpecial?_slot (name:=Str.ofString "__next__") hT PySem.F.slot_tuple_iterator_next (wpAny_call_entry PySem.F.slot_tuple_iterator_next hT PySem.F.entry_tuple_iterator_next ?_ (PySem.F.args_tuple_iterator_next_1 _)));refine wpAny_bind (m:=field (.ref p) 0) (wpAny_field ho hd (x:=.ref a) rfl ?_)
  show wpAny _ _ (if (Value.ref a == Value.none)=true then _ else (field (.ref p) 1 >>=_)) _ _ s
  rw [if_neg (show¬((Value.ref a == Value.none)=true) from Bool.false_ne_true)]
  refine wpAny_bind (m:=field (.ref p) 1) (wpAny_field ho hd (x:=.int k 0) rfl (wpAny_bind (m:=seqItems? (.ref a)) (wpAny_seqItems hol hdl ?_)));simp only [Int.toNat_natCast,hx];refine wpAny_bind (wpAny_rule (wpAny_bind (wpAny_setField ho hd (by simp) (wpAny_bind (m:=newExc (.type "StopIteration") []) ?_))));simp only [newExc,newTuple]
  refine wpAny_bind (wpAny_newObj_type (wpAny_bind (m:=firstArgMember _ _) (wpAny_of_eq (a:=Value.none) (by first | rfl | (simp only [firstArgMember];rfl)) (wpAny_newObj_type ?_ (by size_fits)))) (by size_fits))
  simp only [raiseNew];refine wpAny_bind (wpAny_handled ?_)
  first | rw [show A.in1.handled=none from hh] | rw [hh]
  exact wpAny_bind (wpAny_pure (wpAny_throw (hE _ _ (((Heap.SameBut.update ..).extBut.push _).push _) ⟨_,Heap.get?_push_size _ rfl,rfl⟩)))
theorem Src.iter {xs:Array Value} {Q:Value->Shared->Prop} (hv:sr.val s.heap xs)
  (hQ:Q (.ref s.heap.objs.size) {s with heap:=s.heap.push {cls:=.type sr.itn,data:=.fields #[.ref sr.adr,.int 0 0]}}):wpAny (model prog w) A (pyIter (.ref sr.adr)) Q E s:=by
 cases sr with
 | l a=>exact wpAny_pyIter_list hv hQ
 | t a=>exact wpAny_pyIter_tuple hv hQ
end
section
variable {prog:Program} {w:World} {A:Around} {E:Value->Shared->Prop} {s:Shared}
end
abbrev Tp (h:Heap) (T:Addr) (xs:List Value):Prop:=h.get? T=some {cls:=.type "tuple",data:=.seq xs.toArray}
inductive Drw (h:Heap) (i:Nat):List (Src×Addr)->List Value->Prop where
 | nil:Drw h i [] []
 | cons {sr p r x us xs} (hit:Src.it h p i sr) (hv:sr.val h xs) (hx:xs[i]? =some x) (t:Drw h i r us):Drw h i ((sr,p)::r) (x::us)
theorem Drw.length {us:List Value} (d:Drw h i l us):us.length=l.length:=by
 induction d with
 | nil=>rfl
 | cons _ _ _ _ ih=>simp [ih]
section
variable {prog:Program} {w:World} {A:Around} {E:Value->Shared->Prop} {s:Shared}
theorem ZCj {T:Addr} {xs:List Value} {x:Value} {Q:Unit->Shared->Prop} (hT:Tp s.heap T xs) (hz:xs.length<=1000000)
  (h:∀h',Tp h' T (xs.set k x)->Heap.SameBut T s.heap h'->Q () {s with heap:=h'}):wpAny (model prog w) A (updateSeq T (·.setIfInBounds k x)) Q E s:=by
 have h1:xs.toArray.size<=sizeLine:=by rw [List.size_toArray];exact Nat.le_trans hz size6
 refine wpAny_updateSeq hT rfl (h _ ?_ (Heap.SameBut.update ..)) h1 (by rw [Array.size_setIfInBounds];exact Nat.le_succ_of_le h1);show (s.heap.update T _).get? T=_;rw [Heap.get?_update_self _ hT rfl];simp [Obj.mapSeq]
def ZS (prog:Program) (w:World) (A:Around) (E:Value->Shared->Prop) (z TO p:Addr) (k:Nat) (R:Shared->Prop) (s:Shared):Prop:=
 wpAny (model prog w) A (Builtin.SmallTypes.nextOf (.ref p)) (λx s1=>∃os,Tp s1.heap TO os/\os.length<=1000000/\∀h',Tp h' TO (os.set k x)->Heap.SameBut TO s1.heap h'->R {s1 with heap:=h'})
  (λe s'=>wpAny (model prog w) A (setField (.ref z) 0 .none) (λ_ s''=>E e s'') E s') s
theorem ZBE {TO:Addr} {xs:Array Value} {x:Value} {Q:Shared->Prop} (hTO:Tp s.heap TO os) (hz:os.length<=1000000) (hit:sr.it s.heap p i) (hv:sr.val s.heap xs) (hx:xs[i]? =some x)
  (h:∀h',Tp h' TO (os.set k x)->sr.it h' p (i + 1)->(∀b o,b≠TO->b≠p->s.heap.get? b=some o->h'.get? b=some o)->h'.objs.size=s.heap.objs.size->Q {s with heap:=h'}):ZS prog w A E z TO p k Q s:=by
 have hne:TO≠p:=λe=>by
  obtain ⟨o,ho,hc,_⟩:=hit;rw [<-e,hTO] at ho;cases ho
  cases sr <;> (simp [Src.itn] at hc)
 refine Src.next_item hit hv hx λh₁ it₁ sb₁=>⟨os,sb₁.extBut _ _ hne hTO,hz,λh₂ t₂ sb₂=> ?_⟩
 exact h h₂ t₂ (it₁.at λo e=>sb₂.extBut _ _ (Ne.symm hne) e) (λb o b1 b2 e=>sb₂.extBut b o b1 (sb₁.extBut b o b2 e)) (by rw [sb₂.1];show h₁.objs.size=_;rw [sb₁.1])
theorem Za {TO:Addr} {body:Value×Nat->Option Fin×PUnit->Sem (ForInStep (Option Fin×PUnit))} {R:Option Fin×PUnit->Shared->Prop}
  (hb:∀(p:Addr) (k:Nat) (s:Shared) (R':ForInStep (Option Fin×PUnit)->Shared->Prop),ZS prog w A E z TO p k (λs'=>R' (.yield (none,⟨⟩)) s') s->
   wpAny (model prog w) A (body (.ref p,k) (none,⟨⟩)) R' E s):
  ∀(l:List (Src×Addr)) (us pre post:List Value) (s:Shared),Drw s.heap i l us->Tp s.heap TO (pre++post)->post.length=l.length->(pre++post).length<=1000000->(l.map (·.2)).Nodup->(∀q∈l,q.1.adr≠TO)->(∀q∈l,∀r∈l,q.1.adr≠r.2)->
   (∀h',Tp h' TO (pre++us)->(∀q∈l,q.1.it h' q.2 (i + 1))->(∀b o,b≠TO->b ∉ l.map (·.2)->s.heap.get? b=some o->h'.get? b=some o)->h'.objs.size=s.heap.objs.size->R (none,⟨⟩) {s with heap:=h'})->
   wpAny (model prog w) A (forIn ((l.map λq=>Value.ref q.2).zipIdx pre.length) (none,⟨⟩) body) R E s
 | [],us,pre,post,s,d,hT,hl,hz,nd,na,np,hR=>by
  cases d;cases post with
  | cons _ _=>simp at hl
  | nil=>
   rw [List.map_nil,List.zipIdx_nil,List.forIn_nil];exact wpAny_pure (hR s.heap hT (λq hq=>by cases hq) (λb o _ _ e=>e) rfl)
 | (sr,p)::l,us,pre,post,s,d,hT,hl,hz,nd,na,np,hR=>by
  cases d with
  | @cons _ _ _ x us xs hit hv hx d=>
  cases post with
  | nil=>simp at hl
  | cons y post=>
   rw [List.map_cons,List.zipIdx_cons,List.forIn_cons];refine wpAny_bind (hb p pre.length s _ (ZBE hT hz hit hv hx λh' hT' it' kp sz=> ?_));have e1:(pre++y::post).set pre.length x=(pre++ [x])++post:=by simp
   rw [e1] at hT';have e2:pre.length + 1=(pre++ [x]).length:=by simp
   dsimp only;rw [e2]
   have nd':p ∉ l.map (·.2)/\(l.map (·.2)).Nodup:=by simpa using nd
   have hTOp:∀q∈l,q.2≠TO:=λq hq e=>by
    have:∃sr k,Src.it s.heap q.2 k sr:=by
     clear hR na np nd nd' e1 e2 hl hT' hz
     induction d with
     | nil=>cases hq
     | cons hit _ _ _ ih=>
      rcases List.mem_cons.mp hq with rfl | hq
      ·exact ⟨_,_,hit⟩
      ·exact ih hq
    obtain ⟨sr',k,o,ho,hc,_⟩:=this;rw [e,hT] at ho;cases ho
    cases sr' <;> (simp [Src.itn] at hc)
   have d':Drw h' i l us:=by
    have na':∀q∈l,q.1.adr≠TO:=λq hq=>na q (List.mem_cons_of_mem _ hq)
    have np':∀q∈l,q.1.adr≠p:=λq hq=>np q (List.mem_cons_of_mem _ hq) (sr,p) List.mem_cons_self
    have pp:∀q∈l,q.2≠p:=λq hq e=>nd'.1 (List.mem_map.mpr ⟨q,hq,e⟩)
    clear hR na np nd nd' e1 e2 hl hT' hz
    induction d with
    | nil=>exact .nil
    | @cons sr1 p1 r1 x1 us1 xs1 hit1 hv1 hx1 t1 ih=>
     refine .cons (hit1.at λo e=>kp _ o (hTOp _ List.mem_cons_self) (pp _ List.mem_cons_self) e) (hv1.at λo e=>kp _ o (na' _ List.mem_cons_self) (np' _ List.mem_cons_self) e) hx1 ?_;exact ih (λq hq=>hTOp q (List.mem_cons_of_mem _ hq)) (λq hq=>na' q (List.mem_cons_of_mem _ hq)) (λq hq=>np' q (List.mem_cons_of_mem _ hq)) (λq hq=>pp q (List.mem_cons_of_mem _ hq))
   refine Za hb l us (pre++ [x]) post {s with heap:=h'} d' hT' (by simpa using hl) (by simpa using hz) nd'.2 (λq hq=>na q (List.mem_cons_of_mem _ hq)) (λq hq r hr=>np q (List.mem_cons_of_mem _ hq) r (List.mem_cons_of_mem _ hr)) λh'' t'' its'' kp'' sz''=> ?_
   have hpTO:p≠TO:=λe=>by
    obtain ⟨o,ho,hc,_⟩:=hit;rw [e,hT] at ho;cases ho
    cases sr <;> (simp [Src.itn] at hc)
   refine hR h'' (by simpa using t'') (λq hq=> ?_) (λb o b1 b2 e=> ?_) (sz''.trans sz)
   ·rcases List.mem_cons.mp hq with rfl | hq
    ·exact it'.at λo e=>kp'' _ o hpTO nd'.1 e
    ·exact its'' q hq
   ·simp only [List.map_cons,List.mem_cons,not_or] at b2;exact kp'' b o b1 b2.2 (kp b o b1 b2.1 e)
end
inductive DrwE (h:Heap) (i:Nat):List (Src×Addr)->Prop where
 | here {sr p r xs} (hit:Src.it h p i sr) (hv:sr.val h xs) (hx:xs[i]? =none):DrwE h i ((sr,p)::r)
 | there {sr p r x xs} (hit:Src.it h p i sr) (hv:sr.val h xs) (hx:xs[i]? =some x) (t:DrwE h i r):DrwE h i ((sr,p)::r)
structure ApZ (TO:Addr) (l:List (Src×Addr)):Prop where
 nd:(l.map (·.2)).Nodup
 na:∀q∈l,q.1.adr≠TO
 np:∀q∈l,∀r∈l,q.1.adr≠r.2
 to:∀q∈l,q.2≠TO
theorem ApZ.tail {TO:Addr} {q:Src×Addr} (a:ApZ TO (q::l)):ApZ TO l:=
 ⟨(List.nodup_cons.mp (by simpa using a.nd)).2,λq hq=>a.na q (List.mem_cons_of_mem _ hq),λq hq r hr=>a.np q (List.mem_cons_of_mem _ hq) r (List.mem_cons_of_mem _ hr),λq hq=>a.to q (List.mem_cons_of_mem _ hq)⟩
section
variable {prog:Program} {w:World} {A:Around} {E:Value->Shared->Prop} {s:Shared}
theorem DrwE.at {TO:Addr} (a:ApZ TO ((sr,p)::l)) (kp:∀b o,b≠TO->b≠p->h.get? b=some o->h'.get? b=some o) (d:DrwE h i l):DrwE h' i l:=by
 have pp:∀q∈l,q.2≠p:=λq hq e=>(List.nodup_cons.mp (by simpa using a.nd)).1 (List.mem_map.mpr ⟨q,hq,e⟩)
 have np:∀q∈l,q.1.adr≠p:=λq hq=>a.np q (List.mem_cons_of_mem _ hq) (sr,p) List.mem_cons_self
 have a':=a.tail;clear a
 induction d with
 | here hit hv hx=>exact .here (hit.at λo e=>kp _ o (a'.to _ List.mem_cons_self) (pp _ List.mem_cons_self) e) (hv.at λo e=>kp _ o (a'.na _ List.mem_cons_self) (np _ List.mem_cons_self) e) hx
 | there hit hv hx t ih=>
  exact .there (hit.at λo e=>kp _ o (a'.to _ List.mem_cons_self) (pp _ List.mem_cons_self) e) (hv.at λo e=>kp _ o (a'.na _ List.mem_cons_self) (np _ List.mem_cons_self) e) hx
   (ih (λq hq=>pp q (List.mem_cons_of_mem _ hq)) (λq hq=>np q (List.mem_cons_of_mem _ hq)) a'.tail)
theorem Z2 {TO:Addr} {body:Value×Nat->Option Fin×PUnit->Sem (ForInStep (Option Fin×PUnit))} {R:Option Fin×PUnit->Shared->Prop} (hh:A.handled=none)
  (hb:∀(p:Addr) (k:Nat) (s:Shared) (R':ForInStep (Option Fin×PUnit)->Shared->Prop),ZS prog w A E z TO p k (λs'=>R' (.yield (none,⟨⟩)) s') s->
   wpAny (model prog w) A (body (.ref p,k) (none,⟨⟩)) R' E s):
  ∀(l:List (Src×Addr)) (os:List Value) (n:Nat) (s:Shared),DrwE s.heap i l->Tp s.heap TO os->os.length<=1000000->ApZ TO l->
   (∀h' e,(∀b o,b≠TO->b ∉ l.map (·.2)->s.heap.get? b=some o->h'.get? b=some o)->(∃o,h'.get? e=some o/\o.cls=.type "StopIteration")->wpAny (model prog w) A (setField (.ref z) 0 .none) (λ_ s''=>E (.ref e) s'') E {s with heap:=h'})->
   wpAny (model prog w) A (forIn ((l.map λq=>Value.ref q.2).zipIdx n) (none,⟨⟩) body) R E s
 | [],os,n,s,d,hT,hz,a,hE=>by cases d
 | (sr,p)::l,os,n,s,d,hT,hz,a,hE=>by
  rw [List.map_cons,List.zipIdx_cons,List.forIn_cons];refine wpAny_bind (hb p n s _ ?_);cases d with
  | here hit hv hx=>
   exact Src.next_end hh hit hv hx λh' e xb st=>hE h' e (λb o b1 b2 q=>xb b o (λz=>b2 (by rw [z];simp)) q) st
  | there hit hv hx t=>
   refine ZBE hT hz hit hv hx λh' hT' it' kp sz=> ?_
   refine Z2 hh hb l _ (n + 1) {s with heap:=h'} (t.at a kp) hT' (by simpa using hz) a.tail λh'' e kp'' st=> ?_
   refine hE h'' e (λb o b1 b2 q=> ?_) st;simp only [List.map_cons,List.mem_cons,not_or] at b2;exact kp'' b o b1 b2.2 (kp b o b1 b2.1 q)
theorem ZBb {TI TO:Addr} {R:Fin->Shared->Prop} (hz:IsZip s.heap z TI TO .none) (hTI:Tp s.heap TI (l.map λq=>Value.ref q.2)) (hne:l≠ [])
  (h:∀h₁,IsZip h₁ z TI TO .ellipsis->Heap.SameBut z s.heap h₁->∀body:Value×Nat->Option Fin×PUnit->Sem (ForInStep (Option Fin×PUnit)),
   (∀(p:Addr) (k:Nat) (s:Shared) (R':ForInStep (Option Fin×PUnit)->Shared->Prop),ZS prog w A E z TO p k (λs'=>R' (.yield (none,⟨⟩)) s') s->
    wpAny (model prog w) A (body (.ref p,k) (none,⟨⟩)) R' E s)->
   wpAny (model prog w) A (forIn ((l.map λq=>Value.ref q.2).zipIdx 0) (none,⟨⟩) body) (λr s'=>r.1=none/\∃us,Tp s'.heap TO us/\us.length<=1000000/\IsZip s'.heap z TI TO .ellipsis/\
    ∀h',IsZip h' z TI TO (rawInt s'.heap.objs.size)->Tp h' s'.heap.objs.size us->h'.objs.size=s'.heap.objs.size + 1->(∀b o,b≠z->s'.heap.get? b=some o->h'.get? b=some o)->R (.done (.ret (.ref s'.heap.objs.size))) {s' with heap:=h'}) E {s with heap:=h₁}):
  wpAny (model prog w) A (Builtin.«zip.__next__» ⟨[.ref z],[]⟩) R E s:=by
 refine wpAny_bind (m:=field (.ref z) 2) (wpAny_field hz rfl (x:=.bool false) rfl (wpAny_bind (m:=field (.ref z) 3) (wpAny_field hz rfl (x:=.ref TI) rfl (wpAny_bind (m:=seqItems? (.ref TI)) (wpAny_seqItems hTI rfl ?_)))));dsimp only;have hemp:(l.map λq=>Value.ref q.2).toArray.isEmpty=false:=by cases l with
  | nil=>exact absurd rfl hne
  | cons _ _=>simp
 rw [hemp];refine wpAny_bind (m:=Builtin.SmallTypes.ownedTupleIsFree (.ref z)) ?_;unfold Builtin.SmallTypes.ownedTupleIsFree;refine wpAny_bind (wpAny_field hz rfl (x:=.none) rfl (wpAny_pure ?_));simp only [if_true];refine wpAny_bind (wpAny_rule (wpAny_bind (wpAny_field hz rfl (x:=.ref TO) rfl (wpAny_bind (wpAny_setField_rec hz (by simp) λh₁ hz₁ hs₁=> ?_)))));refine wpAny_bind (wpAny_mono (h h₁ hz₁ hs₁ _ λp k s R' hst=> ?_) (λr s' hr=> ?_) λ_ _ x=>x)
 ·refine wpAny_bind (wpAny_onRaise ?_);show wpAny _ _ (Builtin.SmallTypes.nextOf (.ref p) >>=λv=>pure (some v)) _ _ s;refine wpAny_bind (wpAny_mono hst (λx s1 hx=>wpAny_pure ?_) λ_ _ x=>x);obtain ⟨os,hT,hl,hR⟩:=hx;dsimp only;refine wpAny_bind (wpAny_seqItems hT rfl ?_);dsimp only;exact wpAny_bind (ZCj hT hl λh' t' sb=>wpAny_bind (wpAny_letGo (wpAny_pure (hR h' t' sb))))
 ·obtain ⟨hn,us,hT,hl,hzz,hR⟩:=hr;rw [hn];dsimp only;refine wpAny_bind (wpAny_seqItems hT rfl ?_);dsimp only;refine wpAny_bind (wpAny_newTuple ?_ (by show us.toArray.toList.length<=_;simpa using Nat.le_trans hl size6));have hzlt:z < s'.heap.objs.size:=Heap.lt_size hzz;refine wpAny_bind (m:=Builtin.SmallTypes.ownedTupleHandOut _ _) ?_;unfold Builtin.SmallTypes.ownedTupleHandOut;have e1:us.toArray.toList.toArray=us.toArray:=by simp
  rw [e1];have hz2:IsZip (s'.heap.push {cls:=.type "tuple",data:=.seq us.toArray}) z TI TO .ellipsis:=Heap.get?_push_of_some _ hzz;refine wpAny_bind (wpAny_setField_rec hz2 (by simp) λh₇ hz₇ hs₇=> ?_);refine wpAny_setField_rec hz₇ (by simp) λh₈ hz₈ hs₈=> ?_
  refine wpAny_pure (hR h₈ hz₈ ?_ ?_ λb o hb q=>hs₈.extBut _ _ hb (hs₇.extBut _ _ hb (Heap.get?_push_of_some _ q)))
  ·exact hs₈.extBut _ _ (Nat.ne_of_gt hzlt) (hs₇.extBut _ _ (Nat.ne_of_gt hzlt) (Heap.get?_push_size _ rfl))
  ·rw [hs₈.1];show h₇.objs.size=_;rw [hs₇.1,Heap.size_push]
theorem ZFd {TI TO:Addr} {us:List Value} {Q:Option Value->Shared->Prop} (hz:IsZip s.heap z TI TO .none) (hTI:Tp s.heap TI (l.map λq=>Value.ref q.2)) (hTO:Tp s.heap TO os) (hlen:os.length=l.length) (hsz:l.length<=1000000) (hne:l≠ [])
  (a:ApZ TO l) (zz:z≠TO/\(∀q∈l,q.2≠z/\q.1.adr≠z)) (d:Drw s.heap i l us)
  (hQ:∀h',IsZip h' z TI TO (rawInt s.heap.objs.size)->Tp h' TO us->(∀q∈l,q.1.it h' q.2 (i + 1))->Tp h' s.heap.objs.size us->h'.objs.size=s.heap.objs.size + 1->
   (∀b o,b≠z->b≠TO->b ∉ l.map (·.2)->s.heap.get? b=some o->h'.get? b=some o)->Q (some (.ref s.heap.objs.size)) {s with heap:=h'}):wpAny (model prog w) A (pyNext (.ref z)) Q E s:=by
 have hT:s.TypeIs (.ref z) "zip":=⟨_,hz,rfl⟩;unfold pyNext;refine wpAny_bind (wpAny_attempt (wpAny_callSpecial?_slot (name:=Str.ofString "__next__") hT PySem.F.slot_zip_next (wpAny_call_entry PySem.F.slot_zip_next hT PySem.F.entry_zip_next ?_ (PySem.F.args_zip_next_1 _))));refine ZBb hz hTI hne λh₁ hz₁ hs₁ body hb=> ?_
 have k₁:∀b o,b≠z->s.heap.get? b=some o->h₁.get? b=some o:=λb o hb q=>hs₁.extBut b o hb q
 have d₁:Drw h₁ i l us:=by
  have h1:∀q∈l,q.2≠z/\q.1.adr≠z:=zz.2;clear hTI hlen hsz hne a zz hQ
  induction d with
  | nil=>exact .nil
  | cons hit hv hx t ih=>exact .cons (hit.at λo e=>k₁ _ o (h1 _ List.mem_cons_self).1 e) (hv.at λo e=>k₁ _ o (h1 _ List.mem_cons_self).2 e) hx (ih λq hq=>h1 q (List.mem_cons_of_mem _ hq))
 refine Za (z:=z) (TO:=TO) (i:=i) hb l us [] os {s with heap:=h₁} d₁ (k₁ _ _ (Ne.symm zz.1) hTO) hlen (by simpa [hlen] using hsz) a.nd a.na a.np λh₂ t₂ it₂ k₂ sz₂=>⟨rfl,us,t₂,by rw [d.length];exact hsz,?_,λh₃ z₃ p₃ s₃ k₃=> ?_⟩
 ·refine k₂ _ _ zz.1 (λhm=> ?_) hz₁;obtain ⟨q,hq,e⟩:=List.mem_map.mp hm;exact (zz.2 q hq).1 e
 ·have e2:h₂.objs.size=s.heap.objs.size:=by rw [sz₂];exact hs₁.1
  refine ⟨_,rfl,wpAny_pure ?_⟩;show Q (some (.ref h₂.objs.size)) _;have z₃':IsZip h₃ z TI TO (rawInt h₂.objs.size):=z₃;have p₃':Tp h₃ h₂.objs.size us:=p₃;have s₃':h₃.objs.size=h₂.objs.size + 1:=s₃;have k₃':∀b o,b≠z->h₂.get? b=some o->h₃.get? b=some o:=k₃;rw [e2] at z₃' p₃' s₃' ⊢;exact hQ h₃ z₃' (k₃' _ _ (Ne.symm zz.1) t₂) (λq hq=>(it₂ q hq).at λo e=>k₃' _ o (zz.2 q hq).1 e) p₃' s₃' λb o b1 b2 b3 q=>k₃' b o b1 (k₂ b o b2 b3 (k₁ b o b1 q))
theorem ZEB {TI TO:Addr} {Q:Option Value->Shared->Prop} (hh:A.handled=none) (hz:IsZip s.heap z TI TO .none) (hTI:Tp s.heap TI (l.map λq=>Value.ref q.2)) (hTO:Tp s.heap TO os) (hlen:os.length=l.length) (hsz:l.length<=1000000) (hne:l≠ [])
  (a:ApZ TO l) (zz:z≠TO/\(∀q∈l,q.2≠z/\q.1.adr≠z)) (d:DrwE s.heap i l)
  (hQ:∀h',(∀b o,b≠z->b≠TO->b ∉ l.map (·.2)->s.heap.get? b=some o->h'.get? b=some o)->Q none {s with heap:=h'}):wpAny (model prog w) A (pyNext (.ref z)) Q E s:=by
 have hT:s.TypeIs (.ref z) "zip":=⟨_,hz,rfl⟩;unfold pyNext;refine wpAny_bind (wpAny_attempt (wpAny_callSpecial?_slot (name:=Str.ofString "__next__") hT PySem.F.slot_zip_next (wpAny_call_entry PySem.F.slot_zip_next hT PySem.F.entry_zip_next ?_ (PySem.F.args_zip_next_1 _))));refine ZBb hz hTI hne λh₁ hz₁ hs₁ body hb=> ?_
 have k₁:∀b o,b≠z->s.heap.get? b=some o->h₁.get? b=some o:=λb o hb q=>hs₁.extBut b o hb q
 have d₁:DrwE h₁ i l:=by
  have h1:∀q∈l,q.2≠z/\q.1.adr≠z:=zz.2;clear hTI hlen hsz hne a zz hQ
  induction d with
  | here hit hv hx=>exact .here (hit.at λo e=>k₁ _ o (h1 _ List.mem_cons_self).1 e) (hv.at λo e=>k₁ _ o (h1 _ List.mem_cons_self).2 e) hx
  | there hit hv hx t ih=>exact .there (hit.at λo e=>k₁ _ o (h1 _ List.mem_cons_self).1 e) (hv.at λo e=>k₁ _ o (h1 _ List.mem_cons_self).2 e) hx (ih λq hq=>h1 q (List.mem_cons_of_mem _ hq))
 refine Z2 (A:=A.in1) (z:=z) (TO:=TO) (i:=i) (show A.in1.handled=none from hh) hb l os 0 {s with heap:=h₁} d₁ (k₁ _ _ (Ne.symm zz.1) hTO) (by rw [hlen];exact hsz) a λh₂ e k₂ st=> ?_
 have hz₂:IsZip h₂ z TI TO .ellipsis:=by refine k₂ _ _ zz.1 (λhm=> ?_) hz₁;obtain ⟨q,hq,e⟩:=List.mem_map.mp hm;exact (zz.2 q hq).1 e
 obtain ⟨o,ho,hc⟩:=st;have hez:e≠z:=λx=>by subst x;rw [hz₂] at ho;cases ho;simp at hc
 refine wpAny_setField_rec hz₂ (by simp) λh₃ _ hs₃=> ?_
 refine wpAny_bind (wpAny_isInstance (T:="StopIteration") (b:=true) ⟨o,hs₃.extBut _ _ hez ho,hc⟩ isSubtype_stop (wpAny_pure ?_));exact hQ h₃ λb o b1 b2 b3 q=>hs₃.extBut _ _ b1 (k₂ b o b2 b3 (k₁ b o b1 q))
theorem Zb:∀(ls:List Src) (pre:Array Value) (s:Shared) {Q:Array Value->Shared->Prop},(∀sr∈ls,∃xs,sr.val s.heap xs)->
  (∀h',(∀q∈ls.zipIdx s.heap.objs.size,q.1.it h' q.2 0)->h'.objs.size=s.heap.objs.size + ls.length->(∀b o,s.heap.get? b=some o->h'.get? b=some o)->Q (pre++((ls.zipIdx s.heap.objs.size).map λq=>Value.ref q.2).toArray) {s with heap:=h'})->
  wpAny (model prog w) A (forIn (ls.map λsr=>Value.ref sr.adr) pre λx r=>do let v<-holding r.toList (pyIter x);pure (ForInStep.yield (r.push v))) Q E s
 | [],pre,s,Q,hv,h=>by rw [List.map_nil,List.forIn_nil];refine wpAny_pure ?_;have:=h s.heap (λq hq=>by cases hq) rfl (λ_ _ e=>e);simpa using this
 | sr::ls,pre,s,Q,hv,h=>by
  rw [List.map_cons,List.forIn_cons];obtain ⟨xs,hx⟩:=hv sr List.mem_cons_self;refine wpAny_bind (wpAny_bind (wpAny_holding (Src.iter hx (wpAny_pure ?_))));dsimp only;have z1:(s.heap.push {cls:=.type sr.itn,data:=.fields #[.ref sr.adr,.int 0 0]}).objs.size=s.heap.objs.size + 1:=Heap.size_push ..;refine Zb ls (pre.push (.ref s.heap.objs.size)) {s with heap:=s.heap.push {cls:=.type sr.itn,data:=.fields #[.ref sr.adr,.int 0 0]}} (λsr' hm=> ?_) λh' hi hz kp=> ?_
  ·obtain ⟨ys,hy⟩:=hv sr' (List.mem_cons_of_mem _ hm);exact ⟨ys,hy.at λo e=>Heap.get?_push_of_some _ e⟩
  ·dsimp only at hi hz kp ⊢;rw [z1] at hi hz ⊢;have:=h h' (λq hq=> ?_) (by rw [hz,List.length_cons];omega) (λb o e=>kp b o (Heap.get?_push_of_some _ e))
   ·rw [List.zipIdx_cons,List.map_cons] at this;simpa using this
   ·rw [List.zipIdx_cons] at hq;rcases List.mem_cons.mp hq with rfl | hq
    ·exact ⟨_,kp _ _ (Heap.get?_push_size _ rfl),rfl,rfl⟩
    ·exact hi q hq
theorem ZFD {ls:List Src} {Q:Value->Shared->Prop} (hv:∀sr∈ls,∃xs,sr.val s.heap xs) (hl:ls.length<=1000000)
  (hct:checkTypeCall "zip" ⟨ls.map λsr=>Value.ref sr.adr,[]⟩=pure ()) (hcn:checkBuiltinCall "zip.__new__" ⟨.type "zip"::ls.map λsr=>Value.ref sr.adr,[]⟩=pure ()) (hok:∀obj,argsOk "object.__init__" ⟨obj::ls.map λsr=>Value.ref sr.adr,[]⟩)
  (h:∀h' n,n=s.heap.objs.size + ls.length->IsZip h' (n + 2) n (n + 1) .none->Tp h' n ((ls.zipIdx s.heap.objs.size).map λq=>Value.ref q.2)->Tp h' (n + 1) (ls.map λ_=>Value.none)->(∀q∈ls.zipIdx s.heap.objs.size,q.1.it h' q.2 0)->
   (∀b o,s.heap.get? b=some o->h'.get? b=some o)->Q (.ref (n + 2)) {s with heap:=h'}):
  wpAny (model prog w) A (call (.type "zip") (ls.map λsr=>Value.ref sr.adr)) Q E s:=by
 have g:Meets (Builtin.«zip.__new__» ⟨.type "zip"::ls.map λsr=>Value.ref sr.adr,[]⟩) (λ_ R s=>(∀sr∈ls,∃xs,sr.val s.heap xs)/\
   ∀h' n,n=s.heap.objs.size + ls.length->IsZip h' (n + 2) n (n + 1) .none->Tp h' n ((ls.zipIdx s.heap.objs.size).map λq=>Value.ref q.2)->Tp h' (n + 1) (ls.map λ_=>Value.none)->(∀q∈ls.zipIdx s.heap.objs.size,q.1.it h' q.2 0)->
    (∀b o,s.heap.get? b=some o->h'.get? b=some o)->R (.ok (.ret (.ref (n + 2)))) {s with heap:=h'}):=
  .of_wp λprog w A R s hh=>by
   obtain ⟨hv,hR⟩:=hh;have hsub:=sub_zip;unfold Builtin.«zip.__new__» Builtin.SmallTypes.newClass
   wp_walk
   refine Zb ls #[] s hv λh1 hi hz kp=>wpAny_pure ?_
   have e1:(#[]++((ls.zipIdx s.heap.objs.size).map λq=>Value.ref q.2).toArray:Array Value).toList=(ls.zipIdx s.heap.objs.size).map λq=>Value.ref q.2:=by simp
   rw [e1];have hlen:((ls.zipIdx s.heap.objs.size).map λq=>Value.ref q.2).length=ls.length:=by simp
   refine wpAny_bind (wpAny_newTuple ?_ (by rw [hlen];exact Nat.le_trans hl size6));refine wpAny_bind (wpAny_newTuple ?_ (by rw [List.length_map,hlen];exact Nat.le_trans hl size6));refine wpAny_bind ?_;unfold Builtin.SmallTypes.newRecord;dsimp only;refine wpAny_newObj_type (wpAny_pure ⟨_,rfl,?_⟩) (by simp [sizeOk,Builtin.SmallTypes.ownedTupleFields,sizeLine_eq]);generalize e2:s.heap.objs.size + ls.length=n at *
   have e3:((ls.zipIdx s.heap.objs.size).map λq=>Value.ref q.2).map (λ_=>Value.none)=ls.map λ_=>Value.none:=by refine List.ext_getElem (by simp) λi h1 h2=>by simp
   dsimp only;rw [e3];generalize ((ls.zipIdx s.heap.objs.size).map λq=>Value.ref q.2)=us at *;generalize (ls.map λ_=>Value.none)=ns at *;have s1:(h1.push {cls:=.type "tuple",data:=.seq us.toArray}).objs.size=n + 1:=by rw [Heap.size_push,hz]
   have s2:((h1.push {cls:=.type "tuple",data:=.seq us.toArray}).push {cls:=.type "tuple",data:=.seq ns.toArray}).objs.size=n + 2:=by rw [Heap.size_push,s1]
   show R (.ok (.ret (.ref ((h1.push {cls:=.type "tuple",data:=.seq us.toArray}).push {cls:=.type "tuple",data:=.seq ns.toArray}).objs.size))) _;rw [s2];refine hR _ n rfl ?_ (Heap.get?_push_of_some _ (Heap.get?_push_of_some _ (by rw [<-hz];exact Heap.get?_push_size _ rfl))) (Heap.get?_push_of_some _ (by rw [<-s1];exact Heap.get?_push_size _ rfl)) (λq hq=>(hi q hq).at λo e=>Heap.get?_push_of_some _ (Heap.get?_push_of_some _ (Heap.get?_push_of_some _ e))) λb o e=>Heap.get?_push_of_some _ (Heap.get?_push_of_some _ (Heap.get?_push_of_some _ (kp b o e)))
   have:=Heap.get?_push_size ((h1.push {cls:=.type "tuple",data:=.seq us.toArray}).push {cls:=.type "tuple",data:=.seq ns.toArray}) (o:={cls:=.type "zip",data:=.fields #[.none,.bool false,.bool false,.ref h1.objs.size,.ref (h1.push {cls:=.type "tuple",data:=.seq us.toArray}).objs.size]}) rfl;rw [s2] at this;rw [hz,s1] at this;show _=_;rw [hz,s1];exact this
 refine callType_new PySem.F.called_zip (by decide) hct hcn hok PySem.F.entry_zip_new g ⟨hv,λh' n hn hz hTI hTO hi kp=>⟨⟨_,hz,rfl⟩,h h' n hn hz hTI hTO hi kp⟩⟩
end
end DL
namespace DL
open PySem PySem.W PyProof.Rows
section
structure WO (lt:Nat->Nat->Bool):Prop where
 asy:∀i j,lt i j=true->lt j i=false
 neg:∀i j k,lt i k=true->lt i j=true∨lt j k=true
variable {lt:Nat->Nat->Bool}
theorem WO.refl (o:WO lt) (i:Nat):lt i i=false:=by
 cases h:lt i i
 ·rfl
 ·have:=o.asy i i h;rw [h] at this;exact this
end
end DL
namespace DL
open PySem PySem.Spec L2
open PyProof.Rows hiding St
variable {pins:List (Addr×Obj)} {σ:St} {H:Hp} {s:Shared} {K:PySem.W.Frag} {i:Nat} {a:Wd}
section
variable {X:Cx} {pins:List (Addr×Obj)} {σ:St} {H:Hp} {s:Shared} {h':Heap}
theorem Z1 {t':Nat} {fp:List Addr} (I:Inv X pins σ H s) (k:∀b o,b ∉ fp->s.heap.get? b=some o->h'.get? b=some o) (hf:∀b∈fp,FpOk X pins H b):Inv X pins σ H {s with heap:=h',toks:=t'}:=by
 have nit:∀b u,H b=some u->b ∉ fp:=λb u e z=>by rw [(hf b z).1] at e;cases e
 refine I.step (g':=s.gens) (d':=s.drawn) (ch:=fp) (λb hb=> ?_) (λb o _ _ hc e _=>k b o hc e) (λb o _ _ hc e _=>⟨o.slots,k b o hc e⟩) (λ_ _ _ _ n=>n)
  (λb o hc e=>⟨o,k b o hc e⟩) (λ_ _ e=>e) (λ_ _ _ e=>e) (λb ps e=>⟨#[],by rw [e];simp⟩) (λm hm=> ?_) (λb u e=> ?_) I.bare
 ·obtain ⟨f0,f1,f2,f3,f4,f5⟩:=hf b hb;exact ⟨f3,f1,f4,f5⟩
 ·obtain ⟨o,es,ep,ho,r⟩:=hm;exact ⟨o,es,ep,k _ o (λz=>(hf _ z).2.1 rfl) ho,r⟩
 ·refine (I.hok b u e).stay (λc v hc q=>k c v ?_ q) (λ_ q=>q) λ_ _ q=>q
  rcases hc with z | z
  ·rw [z];exact nit b u e
  ·exact nit c _ z
theorem ZGI {t':Nat} {fp:List Addr} {p:Addr} {xs:List V} {its:List Value} (I:Inv X pins σ H s) (k:∀b o,b ∉ fp->s.heap.get? b=some o->h'.get? b=some o) (hf:∀b∈fp,FpOk X pins H b) (hp:s.heap.objs.size<=p)
  (hz:xs.length<=sizeLine) (r:Vals xs its) (ht:Tp h' p its):Inv X pins σ (upd H p (.tup xs)) {s with heap:=h',toks:=t'}:=by
 obtain ⟨g0,g1,g2,g3,g4,g5⟩:=I.Ku (H':=H) hp (I.hok.fresh hp);exact ZAq (Z1 I k hf) g0 (Nat.le_trans I.sz hp) g1 g4 g5 ⟨hz,its,r,_,ht,rfl,_,rfl⟩
end
def Src.sq (K:PySem.W.Frag) (H:Hp) (xs:List V):Src->Prop
 | .l a=>SqL K H a xs
 | .t a=>SqT K H a xs
variable {ls:List Src}
theorem Src.sq.val {X:Cx} {sr:Src} {xs:List V} (I:Inv X pins σ H s) (h:sr.sq X.K H xs):∃its:List Value,Vals xs its/\sr.val s.heap its.toArray/\xs.length<=sizeLine:=by
 cases sr with
 | l a=>obtain ⟨its,r,p,hz⟩:=I.list h;exact ⟨its,r,p.isList,hz⟩
 | t a=>obtain ⟨its,r,p,hz⟩:=I.tuple h;exact ⟨its,r,p,hz⟩
theorem Src.sq.inj {X:Cx} {sr:Src} {xs ys:List V} (I:Inv X pins σ H s) (h:sr.sq X.K H xs) (h':sr.sq X.K H ys):xs=ys:=by
 cases sr with
 | l a=>exact I.Wn h h'
 | t a=>exact I.W3 h h'
section
variable {X:Cx} {E:XK}
end
inductive DrV (K:PySem.W.Frag) (H:Hp) (i:Nat):List Src->List V->Prop where
 | nil:DrV K H i [] []
 | cons {sr r v us xs} (hq:Src.sq K H xs sr) (hx:xs[i]? =some v) (t:DrV K H i r us):DrV K H i (sr::r) (v::us)
inductive StV (K:PySem.W.Frag) (H:Hp) (i:Nat):List Src->Prop where
 | here {sr r xs} (hq:Src.sq K H xs sr) (hx:xs.length<=i):StV K H i (sr::r)
 | there {sr r v xs} (hq:Src.sq K H xs sr) (hx:xs[i]? =some v) (t:StV K H i r):StV K H i (sr::r)
def Itz (K:PySem.W.Frag) (ls:List Src):It:=
 ⟨λi H=>∃us,DrV K H i ls us,λi H v H'=>∃p us,v=.ref p/\H p=none/\H'=upd H p (.tup us)/\∀us',DrV K H i ls us'->us'=us,λi H=>StV K H i ls⟩
theorem DrV.length {us:List V} (d:DrV K H i ls us):us.length=ls.length:=by
 induction d with
 | nil=>rfl
 | cons _ _ _ ih=>simp [ih]
section
variable {X:Cx} {pins:List (Addr×Obj)} {σ:St} {H:Hp} {s:Shared}
theorem DrV.inj (I:Inv X pins σ H s) :∀{ls:List Src} {us us':List V},DrV X.K H i ls us->DrV X.K H i ls us'->us=us'
 | [],_,_,d,d'=>by cases d;cases d';rfl
 | sr::ls,_,_,d,d'=>by
  cases d with
  | cons hq hx t=>
   cases d' with
   | cons hq' hx' t'=>
    have e:=Src.sq.inj I hq hq';subst e;rw [hx] at hx';cases hx';rw [DrV.inj I t t']
theorem DrV.drw (I:Inv X pins σ H s) :∀{l:List (Src×Addr)} {us:List V},DrV X.K H i (l.map (·.1)) us->(∀q∈l,q.1.it s.heap q.2 i)->∃ws,Drw s.heap i l ws/\Vals us ws
 | [],us,d,h=>by cases d;exact ⟨[],.nil,.nil⟩
 | (sr,p)::l,us,d,h=>by
  cases d with
  | cons hq hx t=>
   obtain ⟨its,rv,hv,hz⟩:=Src.sq.val I hq;obtain ⟨u,hu,ru⟩:=rv.get hx;obtain ⟨ws,d',r'⟩:=DrV.drw I t λq hq=>h q (List.mem_cons_of_mem _ hq)
   exact ⟨u::ws,.cons (h (sr,p) List.mem_cons_self) hv (by simpa using hu) d',.cons ru r'⟩
theorem StV.drw (I:Inv X pins σ H s) :∀{l:List (Src×Addr)},StV X.K H i (l.map (·.1))->(∀q∈l,q.1.it s.heap q.2 i)->DrwE s.heap i l
 | [],d,h=>by cases d
 | (sr,p)::l,d,h=>by
  cases d with
  | here hq hx=>
   obtain ⟨its,rv,hv,hz⟩:=Src.sq.val I hq;have hl:=rv.length;exact .here (h (sr,p) List.mem_cons_self) hv (by simp;omega)
  | there hq hx t=>
   obtain ⟨its,rv,hv,hz⟩:=Src.sq.val I hq;obtain ⟨u,hu,ru⟩:=rv.get hx;exact .there (h (sr,p) List.mem_cons_self) hv (by simpa using hu) (StV.drw I t λq hq=>h q (List.mem_cons_of_mem _ hq))
end
theorem ZFX {P:Program} {w:World} {elts:List Expr} {x1} {pos:Pos} (l:List (Src×Addr)) (z TI TO:Addr) (a:ApZ TO l) (zz:z≠TO/\(∀q∈l,q.2≠z/\q.1.adr≠z)) (tt:TI≠z/\TI≠TO/\∀q∈l,q.2≠TI) (hsz:l.length<=1000000) (hne:l≠ []):
  Turn P w K (.Tuple elts x1 pos) (Itz K (l.map (·.1))) (z::TI::TO::l.map (·.2)) z
   (λi h=>IsZip h z TI TO .none/\Tp h TI (l.map λq=>Value.ref q.2)/\(∃os,Tp h TO os/\os.length=l.length)/\∀q∈l,q.1.it h q.2 i) where
 mem:=by simp
 obj:=λi h st b hb=>by
  obtain ⟨hz,hTI,⟨os,hTO,_⟩,hi⟩:=st;rcases List.mem_cons.mp hb with rfl | hb
  ·exact ⟨_,hz,λv z=>by cases z⟩
  ·rcases List.mem_cons.mp hb with rfl | hb
   ·exact ⟨_,hTI,λv z=>by cases z⟩
   ·rcases List.mem_cons.mp hb with rfl | hb
    ·exact ⟨_,hTO,λv z=>by cases z⟩
    ·obtain ⟨q,hq,rfl⟩:=List.mem_map.mp hb;obtain ⟨o,ho,_,hd⟩:=hi q hq;exact ⟨o,ho,λv z=>by rw [hd] at z;cases z⟩
 keep:=λi h h' st k=>by obtain ⟨hz,hTI,⟨os,hTO,ho⟩,hi⟩:=st;exact ⟨k z (by simp) _ hz,k TI (by simp) _ hTI,⟨os,k TO (by simp) _ hTO,ho⟩,λq hq=>(hi q hq).at λo e=>k q.2 (by simp only [List.mem_cons];exact .inr (.inr (.inr (List.mem_map.mpr ⟨q,hq,rfl⟩)))) o e⟩
 item:=by
  intro X hP hw hK hc i pins s σ H E I hf st hg;subst hP hw hK;obtain ⟨us,dv⟩:=hg;obtain ⟨hz,hTI,⟨os,hTO,ho⟩,hi⟩:=st;obtain ⟨ws,dw,rv⟩:=DrV.drw I dv hi;refine ZFd hz hTI hTO ho hsz hne a zz dw λh1 z1 t1 i1 p1 s1 k1=>⟨_,rfl,?_⟩
  refine wpAny_letOwnedTupleGo_zip (s:={s with heap:=h1}) z1 λh2 z2 sb=> ?_
  have hpz:s.heap.objs.size≠z:=Nat.ne_of_gt (Heap.lt_size hz);have hul:us.length<=sizeLine:=by rw [dv.length,List.length_map];exact Nat.le_trans hsz size6
  have I2:Inv X pins σ (upd H s.heap.objs.size (.tup us)) {s with heap:=h2}:=
   ZGI (t':=s.toks) (fp:=z::TI::TO::l.map (·.2)) (its:=ws) I (λb o hb q=>by simp only [List.mem_cons,not_or] at hb;exact sb.extBut b o hb.1 (k1 b o hb.1 hb.2.2.1 hb.2.2.2 q)) hf (Nat.le_refl _) hul rv (sb.extBut _ _ hpz p1)
  have hfr:H s.heap.objs.size=none:=I.hok.fresh (Nat.le_refl _)
  have up:∀b o,b≠z->b≠TO->b ∉ l.map (·.2)->s.heap.get? b=some o->h2.get? b=some o:=λb o b1 b2 b3 q=>sb.extBut b o b1 (k1 b o b1 b2 b3 q)
  refine ⟨.ref s.heap.objs.size,_,I2,rfl,⟨_,us,rfl,hfr,rfl,λus' d'=>DrV.inj I d' dv⟩,⟨z2,up TI _ tt.1 tt.2.1 (λhm=> ?_) hTI,⟨ws,sb.extBut _ _ (Ne.symm zz.1) t1,dw.length⟩,λq hq=>(i1 q hq).at λo e=>sb.extBut _ _ (zz.2 q hq).1 e⟩,λb hb=> ?_⟩
  ·obtain ⟨q,hq,e⟩:=List.mem_map.mp hm;exact tt.2.2 q hq e
  ·rw [Be (λe=> ?_)]
   ·exact (hf b hb).1
   ·have lt:b < s.heap.objs.size:=by
     rcases List.mem_cons.mp hb with rfl | hb
     ·exact Heap.lt_size hz
     ·rcases List.mem_cons.mp hb with rfl | hb
      ·exact Heap.lt_size hTI
      ·rcases List.mem_cons.mp hb with rfl | hb
       ·exact Heap.lt_size hTO
       ·obtain ⟨q,hq,rfl⟩:=List.mem_map.mp hb;exact (hi q hq).lt
    rw [e] at lt;exact Nat.lt_irrefl _ lt
 done:=by
  intro X hP hw hK hc i pins s σ H E I hf st hg;subst hP hw hK;obtain ⟨hz,hTI,⟨os,hTO,ho⟩,hi⟩:=st;have dw:=StV.drw I hg hi;refine ZEB (I.ok.hd hc) hz hTI hTO ho hsz hne a zz dw λh1 k1=>⟨rfl,?_⟩
  exact Z1 (t':=s.toks) (fp:=z::TI::TO::l.map (·.2)) I (λb o hb q=>by simp only [List.mem_cons,not_or] at hb;exact k1 b o hb.1 hb.2.2.1 hb.2.2.2 q) hf
 self:=λ_ _ _ _ _ st h=>wpAny_pyIter_zip st.1 h
def Gi (G:DH) (j:Nat):List D->Option (Option (List D))
 | []=>some (some [])
 | d::r=>match Bt d G with
  | none=>none
  | some xs=>match xs[j]? with
   | none=>some none
   | some x=>match Gi G j r with
    | some (some ys)=>some (some (x::ys))
    | o=>o
def Gn (ds:List D) (j:Nat) (G:DH):Option (Option D):=(Gi G j ds).map λo=>o.map D.tup
def lenOf (G:DH) (d:D):Nat:=match Bt d G with
 | some xs=>xs.length
 | none=>0
def Tw (G:DH) (d:D):Bool:=(Bt d G).isSome
def J1 (n:Nat) (ds:List D) (G:DH):R ItD:=if ds.all (Tw G)=true/\ds.length=n then .ok (.fn (lenOf G (ds.headD .non)) (Gn ds)) G else .bad
section
variable {X:Cx} {E:XK}
theorem ZEm {G:DH} {d:D} {v:V} {xs:List D} (s:Sim a G) (r:Rep a d v) (h:Bt d G=some xs):
  ∃sr:Src,v=.ref sr.adr/\(∃vs,sr.sq a.K a.H vs)/\∀b:Wd,Ext a b->∀G',Sim b G'->∀ys,Bt d G'=some ys->∃us,sr.sq b.K b.H us/\Reps b ys us:=by
 cases d with
 | tup ds=>
  obtain ⟨p,vs,rfl,hq,rv⟩:=r;refine ⟨.t p,rfl,⟨vs,hq⟩,λb x G' s' ys hy=> ?_⟩
  cases (show some ds=some ys from hy)
  exact ⟨vs,x.sqT hq,rv.mono x⟩
 | fl ds=>
  obtain ⟨p,vs,rfl,hq,rv⟩:=r;refine ⟨.l p,rfl,⟨vs,hq.sq⟩,λb x G' s' ys hy=> ?_⟩
  cases (show some ds=some ys from hy)
  exact ⟨vs,(x.fzL hq).sq,rv.mono x⟩
 | ref i=>
  obtain ⟨hi,rfl⟩:=r;have hx:∃zs,G[i]? =some (.lst zs):=by
   unfold Bt at h;dsimp only at h;split at h
   ·rename_i zs hz;exact ⟨zs,hz⟩
   ·cases h
  obtain ⟨zs,hz⟩:=hx;obtain ⟨vs,e1,_⟩:=s.lst hz;refine ⟨.l (a.m i),rfl,⟨vs,.of e1⟩,λb x G' s' ys hy=> ?_⟩;unfold Bt at hy;dsimp only at hy;split at hy
  ·rename_i zs' hz';cases hy;obtain ⟨us,e2,r2⟩:=s'.lst hz';rw [x.m i hi] at e2;exact ⟨us,.of e2,r2⟩
  ·cases hy
 | _=>cases h
theorem Z3 {G:DH} (s:Sim a G):∀{ds:List D} {vs:List V},Reps a ds vs->ds.all (Tw G)=true->∃ls:List Src,vs=ls.map (λsr=>V.ref sr.adr)/\(∀sr∈ls,∃us,sr.sq a.K a.H us)/\
   ∀b:Wd,Ext a b->∀G',Sim b G'->∀i,(∀ys,Gi G' i ds=some (some ys)->∃us,DrV b.K b.H i ls us/\Reps b ys us)/\(Gi G' i ds=some none->StV b.K b.H i ls)
 | [],vs,r,_=>by
  cases (show vs= [] from r)
  refine ⟨[],rfl,(λ_ h=>nomatch h),λb x G' s' i=>⟨λys h=> ?_,λh=> ?_⟩⟩
  ·cases h;exact ⟨[],.nil,rfl⟩
  ·cases h
 | d::ds,vs,r,h=>by
  rw [List.all_cons,Bool.and_eq_true] at h;obtain ⟨v,vr,rfl,q1,q2⟩:=r
  obtain ⟨xs,hx⟩:=Option.isSome_iff_exists.mp (show (Bt d G).isSome=true from h.1)
  obtain ⟨sr,rfl,hq,rd⟩:=ZEm s q1 hx;obtain ⟨ls,rfl,hqs,rds⟩:=Z3 s q2 h.2;refine ⟨sr::ls,rfl,λsr' hm=> ?_,λb x G' s' i=>⟨λys hy=> ?_,λhy=> ?_⟩⟩
  ·rcases List.mem_cons.mp hm with rfl | hm
   ·exact hq
   ·exact hqs sr' hm
  ·unfold Gi at hy;split at hy
   ·cases hy
   ·rename_i zs hz;obtain ⟨us,hu,ru⟩:=rd b x G' s' zs hz;split at hy
    ·cases hy
    ·rename_i y hyi;obtain ⟨u,hui,rx⟩:=ru.get hyi;split at hy
     ·rename_i ys' hys;cases hy;obtain ⟨us',d',r'⟩:=(rds b x G' s' i).1 ys' hys;exact ⟨u::us',.cons hu hui d',Reps.cons rx r'⟩
     ·rename_i hno;exact absurd hy (hno _)
  ·unfold Gi at hy;split at hy
   ·cases hy
   ·rename_i zs hz;obtain ⟨us,hu,ru⟩:=rd b x G' s' zs hz;split at hy
    ·rename_i hyi;exact .here hu (by rw [<-ru.length];exact List.getElem?_eq_none_iff.mp hyi)
    ·rename_i y hyi;obtain ⟨u,hui,rx⟩:=ru.get hyi;split at hy
     ·cases hy
     ·exact .there hu hui ((rds b x G' s' i).2 hy)
theorem ZGW {ds:List D} (hk:a.K=X.K) (rd:∀b:Wd,Ext a b->∀G',Sim b G'->∀i,(∀ys,Gi G' i ds=some (some ys)->∃us,DrV b.K b.H i ls us/\Reps b ys us)/\(Gi G' i ds=some none->StV b.K b.H i ls)) (n:Nat):
  RepI a (.fn n (Gn ds)) (Itz X.K ls):=by
 intro b x G' s' i;have kb:b.K=X.K:=x.k.trans hk;constructor
 ·intro e he;unfold Gn at he;cases hz:Gi G' i ds with
  | none=>rw [hz] at he;cases he
  | some o=>
   cases o with
   | none=>rw [hz] at he;cases he
   | some ys=>
    rw [hz] at he;have he':D.tup ys=e:=by simpa using he
    subst he';obtain ⟨us,d,ru⟩:=(rd b x G' s' i).1 ys hz;rw [kb] at d;refine ⟨⟨us,d⟩,?_⟩;rintro w H' ⟨p,us',rfl,hp,rfl,hu'⟩;cases hu' us d;exact ⟨b.put p (.tup us),rfl,Ext.put hp,s'.put hp,p,us,rfl,.of Ff,ru.mono (Ext.put hp)⟩
 ·intro he;unfold Gn at he;cases hz:Gi G' i ds with
  | none=>rw [hz] at he;cases he
  | some o=>
   cases o with
   | none=>
    have:=(rd b x G' s' i).2 hz;rw [kb] at this;exact this
   | some ys=>rw [hz] at he;cases he
def iZip (n:Nat) (K:PySem.W.Frag) (ta:TA):TI:=λσ H R=>ta σ H λvs H1=>∃ls:List Src,vs=ls.map (λsr=>V.ref sr.adr)/\(∀sr∈ls,∃us,sr.sq K H1 us)/\ls.length=n/\R (Itz K ls) H1
theorem ZBQ:∀{ls:List Src} {us:List Value},Vals (ls.map λsr=>V.ref sr.adr) us->us=ls.map λsr=>Value.ref sr.adr
 | [],us,h=>by cases h;rfl
 | sr::ls,us,h=>by
  rw [List.map_cons] at h;cases h with
  | cons r rr=>
   cases r;rw [ZBQ rr]
   rfl
theorem Qx {n:Nat} {q:Src×Nat} (h:q∈ls.zipIdx n):q.1∈ls/\n<=q.2/\q.2 < n + ls.length:=by obtain ⟨i,hi,rfl⟩:=List.getElem_of_mem h;simp only [List.length_zipIdx] at hi;simp only [List.getElem_zipIdx];exact ⟨List.getElem_mem hi,by omega,by omega⟩
theorem ZCs {elts:List Expr} {x1} {tp:Pos} {R:It->Hp->Prop} (I:Inv X pins σ H s) (hq:∀sr∈ls,∃us,sr.sq X.K H us) (hne:ls≠ []) (hl:ls.length<=1000000)
  (hct:checkTypeCall "zip" ⟨ls.map λsr=>Value.ref sr.adr,[]⟩=pure ()) (hcn:checkBuiltinCall "zip.__new__" ⟨.type "zip"::ls.map λsr=>Value.ref sr.adr,[]⟩=pure ()) (hok:∀obj,argsOk "object.__init__" ⟨obj::ls.map λsr=>Value.ref sr.adr,[]⟩)
  (q:R (Itz X.K ls) H):wpAny (model X.prog X.w) X.A (call (.type "zip") (ls.map λsr=>Value.ref sr.adr)) (λv s1=>wpAny (model X.prog X.w) X.A (pyIter v) (PIE X pins σ (.Tuple elts x1 tp) R) X.xe s1) X.xe s:=by
 have hv:∀sr∈ls,∃xs,sr.val s.heap xs:=λsr hm=>by obtain ⟨us,h⟩:=hq sr hm;obtain ⟨its,_,h',_⟩:=Src.sq.val I h;exact ⟨_,h'⟩
 have hlt:∀sr∈ls,sr.adr < s.heap.objs.size:=λsr hm=>by obtain ⟨xs,h⟩:=hv sr hm;obtain ⟨o,n,ho,_⟩:=h.obj;exact Heap.lt_size ho
 refine ZFD hv hl hct hcn hok λh' n hn hz hTI hTO hi kp=> ?_
 refine wpAny_pyIter_zip hz ?_;have I2:Inv X pins σ H {s with heap:=h'}:=I.kept (t':=s.toks) kp
 have em:(ls.zipIdx s.heap.objs.size).map (·.1)=ls:=by refine List.ext_getElem (by simp) λi h1 h2=>by simp
 have e2:(ls.zipIdx s.heap.objs.size).map (·.2)=List.range' s.heap.objs.size ls.length:=by refine List.ext_getElem (by simp) λi h1 h2=>by simp [Nat.add_comm]
 have qb:∀q∈ls.zipIdx s.heap.objs.size,q.1.adr < s.heap.objs.size/\s.heap.objs.size<=q.2/\q.2 < n:=λq hm=>⟨hlt _ (Qx hm).1,(Qx hm).2.1,by rw [hn];exact (Qx hm).2.2⟩
 have hsn:s.heap.objs.size<=n:=by rw [hn];exact Nat.le_add_right _ _
 have ap:ApZ (n + 1) (ls.zipIdx s.heap.objs.size):=⟨by rw [e2];exact List.nodup_range',λq hm=>Nat.ne_of_lt (Nat.lt_of_lt_of_le (qb q hm).1 (Nat.le_succ_of_le hsn)),λq hm r hr=>Nat.ne_of_lt (Nat.lt_of_lt_of_le (qb q hm).1 (qb r hr).2.1),λq hm=>Nat.ne_of_lt (Nat.lt_succ_of_lt (qb q hm).2.2)⟩;have T:=ZFX (P:=X.prog) (w:=X.w) (K:=X.K) (elts:=elts) (x1:=x1) (pos:=tp) (ls.zipIdx s.heap.objs.size) (n + 2) n (n + 1) ap ⟨Nat.succ_ne_self (n + 1),λq hm=>⟨Nat.ne_of_lt (Nat.lt_of_lt_of_le (qb q hm).2.2 (Nat.le_add_right n 2)),Nat.ne_of_lt (Nat.lt_of_lt_of_le (qb q hm).1 (Nat.le_trans hsn (Nat.le_add_right n 2)))⟩⟩
  ⟨Nat.ne_of_lt (Nat.lt_add_of_pos_right (by decide)),Nat.ne_of_lt (Nat.lt_succ_self n),λq hm=>Nat.ne_of_lt (qb q hm).2.2⟩ (by simpa using hl) (by intro e;apply hne;rw [<-em,e];rfl)
 rw [em] at T;refine ⟨n + 2,_,_,_,H,rfl,I2,T,⟨hz,hTI,⟨_,hTO,by simp⟩,hi⟩,λb hb=> ?_,q⟩;have hle:s.heap.objs.size<=b:=by
  rcases List.mem_cons.mp hb with rfl | hb
  ·exact Nat.le_trans hsn (Nat.le_add_right n 2)
  ·rcases List.mem_cons.mp hb with rfl | hb
   ·exact hsn
   ·rcases List.mem_cons.mp hb with rfl | hb
    ·exact Nat.le_succ_of_le hsn
    ·obtain ⟨q,hq,rfl⟩:=List.mem_map.mp hb;exact (Qx hq).2.1
 exact I.Ku hle (I.hok.fresh hle)
theorem ZDh {elts:List Expr} {x1} {tp:Pos} {a b:Expr} {ta:TA} {p pos:Pos} (hg:Gl X "zip") (hm:X.mg "zip"=none) (ha:PA X [a,b] ta) (hs:starEach [a,b] X.env= [(false,eval a X.env),(false,eval b X.env)]:=by rfl) (hs2:starEach [b] X.env= [(false,eval b X.env)]:=by rfl):
  PI X (.Tuple elts x1 tp) (.Call (.Name "zip" p) [a,b] [] pos) (iZip 2 X.K ta):=by
 intro pins s σ H R I h;refine Call_ (Mr I hg hm PyProof.Rows.boot_zip (PyProof.Rows.callWith_type1 (thn (ha pos pins s σ H _ I h) λus s1 ⟨vs,H1,I1,r1,q1⟩=> ?_) (by rw [hs,hs2]) (by rw [hs2];rfl)));obtain ⟨ls,rfl,hq,hl,q⟩:=q1;cases ZBQ r1
 match ls,hl with
 | [x,y],_=>exact ZCs I1 hq (by simp) (by simp) (PySem.F.typeCall_zip_2 _ _) (PySem.F.newCall_zip_2 _ _) (λobj=>PySem.F.args_object_init_3 obj _ _) q
theorem ZEC {n:Nat} {ta:DA} {Q:It->Hp->Prop} (hK:K=X.K) (h:lI K E (Df (J1 n) ta) σ H Q):iZip n K (lA K E ta) σ H Q:=by
 subst hK;obtain ⟨a,S,G,hk,rfl,s,r,h⟩:=h;refine ⟨a,S,G,hk,rfl,s,r,(Yt h).imp ?_⟩;rintro vs _ ⟨b,ds,G1,rfl,x,s1,q,-,h1⟩;unfold J1 at h1;split at h1
 ·rename_i hok;obtain ⟨ls,e,hq,rd⟩:=Z3 s1 q hok.1;have kb:b.K=X.K:=x.k.trans hk;have hl:ls.length=n:=by have:=q.length;rw [e,List.length_map] at this;omega
  exact ⟨ls,e,λsr hm=>by rw [<-kb];exact hq sr hm,hl,h1 b _ (Ext.refl b) s1 (ZGW kb rd _)⟩
 ·exact h1.elim
theorem ZBj {elts:List Expr} {x1} {tp:Pos} {a b:Expr} {ta:DA} {p pos:Pos} (hg:Gl X "zip") (hm:X.mg "zip"=none) (ha:QA X E [a,b] ta) (hs:starEach [a,b] X.env= [(false,eval a X.env),(false,eval b X.env)]:=by rfl) (hs2:starEach [b] X.env= [(false,eval b X.env)]:=by rfl):
  QI X E (.Tuple elts x1 tp) (.Call (.Name "zip" p) [a,b] [] pos) (Df (J1 2) ta):=(ZDh hg hm ha hs hs2).mono λσ H Q h=>ZEC rfl h
end
section
variable {X:Cx} {E:XK}
end
def fMinL (ds:List D) (G:DH):R D:=match ds with
 | [d]=>match Bt d G with
  | some xs=>match Ex xs with
   | some (n::ns)=>.ok (.int (ns.foldl min n)) G
   | _=>.bad
  | none=>.bad
 | _=>.bad
def Kz (ds:List D) (G:DH):R D:=match ds with
 | [d]=>match Bt d G with
  | some xs=>match Ex xs with
   | some (n::ns)=>.ok (.int (ns.foldl max n)) G
   | _=>.bad
  | none=>.bad
 | _=>.bad
theorem ZGd:∀(ns:List Int) (n:Int),ns.foldl min n<=n/\(∀x∈ns,ns.foldl min n<=x)/\(ns.foldl min n=n∨ns.foldl min n∈ns)
 | [],n=>⟨Int.le_refl _,λx h=>(by cases h),.inl rfl⟩
 | m::ns,n=>by
  obtain ⟨h1,h2,h3⟩:=ZGd ns (min n m);rw [List.foldl_cons];refine ⟨by omega,λx hx=> ?_,?_⟩
  ·rcases List.mem_cons.mp hx with rfl | hx
   ·omega
   ·exact h2 x hx
  ·rcases h3 with h | h
   ·by_cases e:n<=m
    ·exact .inl (by rw [h];omega)
    ·exact .inr (by rw [h];rw [show min n m=m by omega];exact List.mem_cons_self)
   ·exact .inr (List.mem_cons_of_mem _ h)
theorem ZBV:∀(ns:List Int) (n:Int),n<=ns.foldl max n/\(∀x∈ns,x<=ns.foldl max n)/\(ns.foldl max n=n∨ns.foldl max n∈ns)
 | [],n=>⟨Int.le_refl _,λx h=>(by cases h),.inl rfl⟩
 | m::ns,n=>by
  obtain ⟨h1,h2,h3⟩:=ZBV ns (max n m);rw [List.foldl_cons];refine ⟨by omega,λx hx=> ?_,?_⟩
  ·rcases List.mem_cons.mp hx with rfl | hx
   ·omega
   ·exact h2 x hx
  ·rcases h3 with h | h
   ·by_cases e:m<=n
    ·exact .inl (by rw [h];omega)
    ·exact .inr (by rw [h];rw [show max n m=m by omega];exact List.mem_cons_self)
   ·exact .inr (List.mem_cons_of_mem _ h)
section
variable {X:Cx} {E:XK}
theorem intAt {ns:List Int} {its:List Value} {w:Value} (hv:Vals (ns.map V.int) its) (hw:its.toArray[i]? =some w):i < ns.length/\∃t,w=.int (ns.getD i 0) t:=by
 have hw':its[i]? =some w:=by simpa using hw
 have hl:i < (ns.map V.int).length:=by rw [hv.length];exact (List.getElem?_eq_some_iff.mp hw').1
 have hl':i < ns.length:=by simpa using hl
 obtain ⟨u,hu,ru⟩:=hv.get (i:=i) (x:=V.int ns[i]) (by simp [hl']);rw [hw'] at hu;cases hu;obtain ⟨t,rfl⟩:=ru;exact ⟨hl',t,by simp [hl']⟩
theorem ZDW (hc:X.calm=true):CallR X (.builtin "max") (lRn X.K E Kz):=by
 intro pins s σ H vs us Q I rs h;obtain ⟨a,G,ds,hk,rfl,sm,r,q⟩:=h;unfold Kz at q;split at q
 ·rename_i d;obtain ⟨v,rfl,rv⟩:=reps1 r;split at q
  ·rename_i xs hs;split at q
   ·rename_i n ns hn;cases Yp hn;obtain ⟨p,ws,rfl,h1,r1⟩:=Lg sm rv hs;cases Yw r1;rw [hk] at h1;obtain ⟨u,rfl,ru⟩:=vals1 rs;cases ru;refine call_max_walk (ZBG I hc h1 λit fp wr its St s₂ hv W st hfp fin=>⟨it,fp,wr,its.toArray.size,_,St,_,rfl,W,st,hfp,?_,CmpOf.ints_gt (λi=>(n::ns).getD i 0) (λi w hw=>(intAt hv hw).2),λw h' tk hw kk=> ?_⟩)
    ·rw [List.size_toArray,<-hv.length];simp
    ·obtain ⟨hl,t,rfl⟩:=intAt hv hw;obtain ⟨b1,b2⟩:=argBest_gt (λi=>(n::ns).getD i 0) (its.toArray.size - 1);refine ⟨.int (ns.foldl max n),a.H,fin h' tk kk,⟨t,?_⟩,q a _ (Ext.refl a) sm rfl⟩;have hsz:its.toArray.size=ns.length + 1:=by rw [List.size_toArray,<-hv.length];simp
     obtain ⟨m1,m2,m3⟩:=ZBV ns n;have hle:∀x∈n::ns,x<=ns.foldl max n:=λx hx=>by
      rcases List.mem_cons.mp hx with rfl | hx
      ·exact m1
      ·exact m2 x hx
     have hin:ns.foldl max n∈n::ns:=by
      rcases m3 with h | h
      ·rw [h];exact List.mem_cons_self
      ·exact List.mem_cons_of_mem _ h
     obtain ⟨j,hj,ej⟩:=List.getElem_of_mem hin;have c1:=b2 j (by simp at hj;omega);have c2:=hle _ (List.getElem_mem hl);have e1:(n::ns).getD j 0=ns.foldl max n:=by rw [List.getD_eq_getElem?_getD,List.getElem?_eq_getElem hj];exact ej
     have e2:(n::ns).getD (argBest (λi j=>decide ((λi=>(n::ns).getD i 0) i > (λi=>(n::ns).getD i 0) j)) (its.toArray.size - 1)) 0=(n::ns)[argBest (λi j=>decide ((λi=>(n::ns).getD i 0) i > (λi=>(n::ns).getD i 0) j)) (its.toArray.size - 1)]:=by rw [List.getD_eq_getElem?_getD,List.getElem?_eq_getElem hl];rfl
     have c1':=c1;rw [e1] at c1';rw [<-e2] at c2
     congr 1
     exact Int.le_antisymm c2 c1'
   ·exact q.elim
  ·exact q.elim
 ·exact q.elim
end
end DL
namespace DL
open PySem PySem.W PyProof.Rows
def Safe (n:Nat) {α:Type} (P:α->Prop):KasT α->Prop
 | .ret a=>P a
 | .ask i j k=>i < n/\j < n/\∀b,Safe n P (k b)
theorem Safe.bind {n:Nat} {α β:Type} {f:α->KasT β} {P:α->Prop} {Q:β->Prop} (h2:∀a,P a->Safe n Q (f a)):∀{t:KasT α},Safe n P t->Safe n Q (t.bind f)
 | .ret a,h=>h2 a h
 | .ask _ _ _,h=>⟨h.1,h.2.1,λb=>Safe.bind h2 (h.2.2 b)⟩
theorem Safe.imp {n:Nat} {α:Type} {P Q:α->Prop} (h2:∀a,P a->Q a):∀{t:KasT α},Safe n P t->Safe n Q t
 | .ret a,h=>h2 a h
 | .ask _ _ _,h=>⟨h.1,h.2.1,λb=>Safe.imp h2 (h.2.2 b)⟩
end DL
namespace DL
open PySem PySem.Spec L2
open PyProof.Rows hiding St
variable {d:D} {xs:List D} {a:Wd} {us:List (Str×V)}
section
variable {prog:Program} {w:World} {A:Around} {s:Shared}
end
section
variable {X:Cx} {E:XK} {pins:List (Addr×Obj)} {σ:St} {s:Shared} {H:Hp} {h':Heap}
end
section
variable {prog:Program} {w:World} {A:Around} {E:Value->Shared->Prop} {s:Shared}
end
section
variable {X:Cx} {E:XK} {pins:List (Addr×Obj)} {σ:St} {s:Shared} {H:Hp}
end
section
variable {X:Cx} {E:XK}
end
section
variable {S:DSt} {G:DH}
def Wv (xs ys:List D):List D:=(xs.zip ys).map λq=>.tup [q.1,q.2]
theorem ZB6 {e:D} {ys:List D} (hd:Bt d G=some xs) (he:Bt e G=some ys) (j:Nat):Gn [d,e] j G=some (Wv xs ys)[j]? :=by
 unfold Gn Wv;simp only [Gi,hd,he,List.getElem?_map,List.getElem?_zip_eq_some]
 have ez:(xs.zip ys)[j]? =match xs[j]?,ys[j]? with
  | some x,some y=>some (x,y)
  | _,_=>none:=by
  rw [List.zip,List.getElem?_zipWith]
  cases xs[j]? <;> cases ys[j]? <;> rfl
 rw [ez];cases xs[j]? with
 | none=>rfl
 | some x=>
  cases ys[j]? with
  | none=>rfl
  | some y=>rfl
theorem Yr {e:D} {ys:List D} (hd:Bt d G=some xs) (he:Bt e G=some ys):J1 2 [d,e] G=.ok (.fn xs.length (Gn [d,e])) G:=by simp [J1,Tw,hd,he,lenOf]
@[simp] theorem Sg:Bt (.tup xs) G=some xs:=id rfl
theorem ZCc {n:Int} {ns:List Int} (h:Bt d G=some ((n::ns).map D.int)):Kz [d] G=.ok (.int (ns.foldl max n)) G:=by simp only [Kz,h,ZDk]
end
def Bts (i:Int):Prop:=i.natAbs.log2 < 33554432
def MulB (i j:Int):Prop:=CMul i j∨(Bts i/\Bts j)
instance (i:Int):Decidable (Bts i):=by unfold Bts;infer_instance
instance (i j:Int):Decidable (MulB i j):=by unfold MulB;infer_instance
theorem MulB.ok {i j:Int} (h:MulB i j):IntMulOk i j:=by
 rcases h with h | ⟨h1,h2⟩
 ·exact h.ok
 ·have b:∀k:Int,Bts k->Builtin.Int.intBits k<=33554432:=λk hk=>by
   unfold Builtin.Int.intBits;split
   ·exact Nat.zero_le _
   ·exact hk
  have c1:=b i h1;have c2:=b j h2;have h:Builtin.Int.intTooBig (Builtin.Int.intBits i + Builtin.Int.intBits j)=false:=by unfold Builtin.Int.intTooBig bitsLine;exact decide_eq_false (by omega)
  unfold IntMulOk;rw [h];simp
section
variable {X:Cx} {E:XK}
theorem ZD8:OpR X (binaryOp .Mult) (rI MulB λi j=>.int (i * j)):=opI λ_ _ _ _ _ _ _ hc q=>mul_int q hc.ok
end
section
variable {i j:Int} {G:DH}
end
section
variable {X:Cx} {E:XK}
end
def Ui (f:Str) (v:D):List (Str×D)->List (Str×D)
 | []=> [(f,v)]
 | (g,x)::r=>if g=f then (g,v)::r else (g,x)::Ui f v r
theorem RepF.mono {b:Wd} (x:Ext a b) {fs:List (Str×D)} (h:RepF a fs us):RepF b fs us:=⟨h.1,h.2.mono x⟩
theorem RepF.cons {g:Str} {v:V} {fs:List (Str×D)} (h:Rep a d v) (r:RepF a fs us):RepF a ((g,d)::fs) ((g,v)::us):=
 ⟨by simp [r.1],v,us.map (·.2),rfl,h,r.2⟩
theorem RepF.uncons {g:Str} {fs:List (Str×D)} (h:RepF a ((g,d)::fs) us):∃v us',us=(g,v)::us'/\Rep a d v/\RepF a fs us':=by
 obtain ⟨h1,h2⟩:=h;cases us with
 | nil=>simp at h1
 | cons q us=>
  obtain ⟨g',y⟩:=q;simp only [List.map_cons,List.cons.injEq] at h1;obtain ⟨rfl,h1⟩:=h1;obtain ⟨v,r,e1,r1,r2⟩:=h2;simp only [List.map_cons,List.cons.injEq] at e1;obtain ⟨rfl,rfl⟩:=e1;exact ⟨y,us,rfl,r1,h1,r2⟩
theorem RepF.nil' (h:RepF a [] us):us= []:=by
 obtain ⟨h1,_⟩:=h;cases us with
 | nil=>rfl
 | cons q us=>simp at h1
theorem RepF.put {f:Str} {v:V} (q:Rep a d v):∀{fs:List (Str×D)} {us:List (Str×V)},RepF a fs us->RepF a (Ui f d fs) (Vz f v us)
 | [],us,h=>by rw [h.nil'];exact RepF.cons (fs:= []) (us:= []) q ⟨rfl,rfl⟩
 | (g,x)::fs,us,h=>by
  obtain ⟨w,us',rfl,hv,hr⟩:=h.uncons;unfold Ui Vz;by_cases e:g=f
  ·rw [if_pos e,if_pos e];exact .cons q hr
  ·rw [if_neg e,if_neg e];exact .cons hv (RepF.put q hr)
theorem RepF.len {fs:List (Str×D)} (h:RepF a fs us):us.length=fs.length:=by have:=congrArg List.length h.1;simpa using this.symm
def ZAw (c:Str) (d:D) (G:DH):Option (List (Str×D)):=match d with
 | .ref i=>match G[i]? with
  | some (.ins c' fs)=>if c'=c then some fs else none
  | _=>none
 | _=>none
theorem Sim.ins {G:DH} {x:V} {c:Str} {fs:List (Str×D)} (s:Sim a G) (r:Rep a d x) (h:ZAw c d G=some fs):
  ∃i C dx us,d=.ref i/\i < a.n/\x=.ref (a.m i)/\G[i]? =some (.ins c fs)/\PySem.W.nsIn a.K mainGlobals c=some (some (.ref C))/\a.H (a.m i)=some (.ins C dx us)/\RepF a fs us:=by
 unfold ZAw at h;split at h
 ·rename_i i;split at h
  ·rename_i c' fs' e;split at h
   ·rename_i hc;subst hc;cases h;obtain ⟨l,ev⟩:=r;obtain ⟨C,dx,us,n,e1,r1⟩:=s.obj i _ e;exact ⟨i,C,dx,us,rfl,l,ev,e,n,e1,r1⟩
   ·cases h
  ·cases h
 ·cases h
section
variable {X:Cx} {E:XK} {c f m:Str} {C:Addr} {e o:Expr} {es:List Expr} {t ta tv:DE} {tr:DA} {pos apos pos':Pos}
end
theorem S9:∀{ns:List Int} {us:List Value},Vals (ns.map V.int) us->us.length=ns.length/\∀(j:Nat) (u:Value),us[j]? =some u->∃t,∃h:j < ns.length,u=.int ns[j] t
 | [],us,h=>by cases h;exact ⟨rfl,λj u e=>by simp at e⟩
 | n::ns,us,h=>by
  cases h with
  | cons r rr=>
   obtain ⟨h1,h2⟩:=S9 rr;obtain ⟨t,rfl⟩:=r;refine ⟨by simp [h1],λj u e=> ?_⟩;cases j with
   | zero=>simp at e;exact ⟨t,by simp,by simpa using e.symm⟩
   | succ j=>
    obtain ⟨t',hj,e'⟩:=h2 j u (by simpa using e);exact ⟨t',by simpa using hj,by simpa using e'⟩
section
variable {X:Cx} {E:XK}
end
section
variable {prog:Program} {w:World} {A:Around} {E:Value->Shared->Prop} {s:Shared}
end
section
variable {X:Cx} {E:XK}
end
end DL
namespace DL
open PySem PySem.Spec L2
section
variable {S:DSt} {G:DH} {c f m:Str} {t to tv:DE} {ta:DA} {F:List D->DH->R D} {i:Nat} {fs:List (Str×D)} {v d:D}
end
end DL
namespace DL
open PySem PySem.Spec L2
open PyProof.Rows hiding St
def Ip (x:Str) (n:Int):Str:=if n < 1 then Str.empty else if (n == 1 || x.length == 0)=true then x else ⟨(List.replicate n.toNat x.cps).foldl (·++·) #[]⟩
theorem Vc {a:Array Nat}:∀(n:Nat) (b:Array Nat),((List.replicate n a).foldl (·++·) b).toList=b.toList++(List.replicate n a.toList).flatten
 | 0,b=>by simp
 | n + 1,b=>by rw [List.replicate_succ,List.foldl_cons,Vc n (b++a),List.replicate_succ,List.flatten_cons];simp
theorem ZEo {a:Array Nat} (n:Nat):((List.replicate n a).foldl (·++·) #[]).size=n * a.size:=by rw [<-Array.length_toList,Vc];simp
theorem ZDy {x:Str} {n:Int}:(Ip x n).cps.toList=(List.replicate n.toNat x.cps.toList).flatten:=by
 unfold Ip;split
 ·rename_i h;have e:n.toNat=0:=by omega
  rw [e];rfl
 ·rename_i h;split
  ·rename_i hx;rw [Bool.or_eq_true,beq_iff_eq,beq_iff_eq] at hx;rcases hx with rfl | hx
   ·simp
   ·have e:x.cps.toList= []:=by have:x.cps.size=0:=hx;rw [<-Array.length_toList] at this;exact List.eq_nil_of_length_eq_zero this
    rw [e];simp
  ·show ((List.replicate n.toNat x.cps).foldl (·++·) #[]).toList=_
   rw [Vc];simp
def Ay:D->D->DH->R D
 | .int i,.int j,G=>if MulB i j then .ok (.int (i * j)) G else .bad
 | .str x,.int n,G=>if -1000<=n/\n<=1000/\x.length<=1000 then .ok (.str (Ip x n)) G else .bad
 | _,_,_=>.bad
section
variable {X:Cx} {E:XK}
theorem ZGi:OpR X (binaryOp .Mult) (λx y H Q=>∃i n,x=.str i/\y=.int n/\(-1000<=n/\n<=1000/\i.length<=1000)/\Q (.str (Ip i n)) H):=by
 intro pins s σ H x y v u Q I rx ry h;obtain ⟨i,n,rfl,rfl,⟨h1,h2,h3⟩,q⟩:=h;obtain ⟨t,rfl⟩:=rx;obtain ⟨t',rfl⟩:=ry;have hlen:∀m:Nat,m<=1000->i.length * m<=1000000:=λm hm=>Nat.le_trans (Nat.mul_le_mul h3 hm) (by decide)
 refine P.mul_str ?_ (λhn hx=> ?_) (λhn hx=> ?_) ?_
 ·rw [decide_eq_false (by omega),decide_eq_false (by omega)];rfl
 ·intro hgt;have hm:0 < n:=by omega
  have:(i.length:Int) * n<=2 ^ 63 - 1:=by have h4:(i.length:Int) * n<=1000 * 1000:=Int.mul_le_mul (by omega) h2 (by omega) (by omega);omega
  have h5:=(Int.le_ediv_iff_mul_le hm).mpr this;omega
 ·have:=hlen n.toNat (by omega);unfold Builtin.Str.tooLong;rw [sizeLine_eq];exact decide_eq_false (by omega)
 ·unfold Ip at q;split
  ·rename_i hn;rw [if_pos hn] at q;exact ⟨by decide,.str Str.empty,H,I.tok _,⟨_,rfl⟩,q⟩
  ·rename_i hn;rw [if_neg hn] at q;split
   ·rename_i hx;rw [if_pos hx] at q;exact ⟨.str i,H,I,⟨t,rfl⟩,q⟩
   ·rename_i hx;rw [if_neg hx] at q;refine ⟨?_,.str _,H,I.tok _,⟨_,rfl⟩,q⟩
    show ((List.replicate n.toNat i.cps).foldl (·++·) #[]).size<=sizeLine
    have h6:i.cps.size<=1000:=h3;have h7:=Nat.mul_le_mul (show n.toNat<=1000 by omega) h6;rw [ZEo,sizeLine_eq];omega
theorem Bx:OpR X (binaryOp .Mult) (lR2 X.K E Ay):=Gs (ZD8.or ZGi) λa G d e x y Q hk s rd re q=>by
 cases d <;> cases e <;> first
  | exact q.elim
  | (
    rename_i i j;unfold Ay at q;dsimp only at q;split at q
    ·first
     | exact .inl ⟨_,_,rd,re,by assumption,q a _ (Ext.refl a) s rfl⟩
     | exact .inr ⟨_,_,rd,re,by assumption,q a _ (Ext.refl a) s rfl⟩
    ·exact q.elim)
end
section
variable {i j:Int} {G:DH}
theorem Gg (h1: -(2 ^ 64) < i) (h2:i < 2 ^ 64):Ay (.int i) (.int j) G=.ok (.int (i * j)) G:=if_pos (.inl (.inl ⟨h1,h2⟩))
theorem Gj (h1: -(2 ^ 64) < j) (h2:j < 2 ^ 64):Ay (.int i) (.int j) G=.ok (.int (i * j)) G:=if_pos (.inl (.inr ⟨h1,h2⟩))
@[simp] theorem ZHf {n:Nat} (h:n < 18446744073709551616):Ay (.int (no_index (OfNat.ofNat n))) (.int j) G=.ok (.int (OfNat.ofNat n * j)) G:=
 Gg (by have:(0:Int)<=(OfNat.ofNat n:Int):=Int.natCast_nonneg n;omega) (by have:(OfNat.ofNat n:Int) < 18446744073709551616:=Int.ofNat_lt.mpr h;omega)
@[simp] theorem ZHQ {n:Nat} (h:n < 18446744073709551616):Ay (.int i) (.int (no_index (OfNat.ofNat n))) G=.ok (.int (i * OfNat.ofNat n)) G:=
 Gj (by have:(0:Int)<=(OfNat.ofNat n:Int):=Int.natCast_nonneg n;omega) (by have:(OfNat.ofNat n:Int) < 18446744073709551616:=Int.ofNat_lt.mpr h;omega)
theorem ZEr {x:Str} {n:Int} (h: -1000<=n/\n<=1000/\x.length<=1000):Ay (.str x) (.int n) G=.ok (.str (Ip x n)) G:=if_pos h
end
end DL
namespace Law
open PySem L2 DL
def top (i:Nat):Stmt:=PySem.Challenge.pw_sluiceway_k51_under.main.body.getD i (.Pass ⟨0,0,0,0⟩)
abbrev Vt:Stmt:=top 10
abbrev ZCO:List Str:= ["_law_cell","_law_unit_here"]
theorem ZEj:FnScope ZCO ["_law_cell","_law_unit_here"] (Bc Vt):=⟨rfl,rfl,rfl,by decide +kernel,rfl,by decide +kernel,by decide +kernel⟩
abbrev V1:Stmt:=top 6
abbrev ZGm:List Str:= ["_law_number_here","_law_k","_law_digit"]
theorem Mi:FnScope ZGm ["_law_number_here","_law_k"] (Bc V1):=⟨rfl,rfl,rfl,by decide +kernel,rfl,by decide +kernel,by decide +kernel⟩
abbrev Tu:Stmt:=top 5
abbrev ZGk:List Str:= ["_law_script"]
theorem ZFM:FnScope ZGk ["_law_script"] (Bc Tu):=⟨rfl,rfl,rfl,by decide +kernel,rfl,by decide +kernel,by decide +kernel⟩
abbrev Ws:Stmt:=top 7
abbrev ZGN:List Str:= ["_law_script","_law_k","_law_number_here"]
theorem Nz:FnScope ZGN ["_law_script","_law_k"] (Bc Ws):=⟨rfl,rfl,rfl,by decide +kernel,rfl,by decide +kernel,by decide +kernel⟩
abbrev Uq:Stmt:=top 9
abbrev ZEa:List Str:= ["_law_script"]
theorem ZFq:FnScope ZEa ["_law_script"] (Bc Uq):=⟨rfl,rfl,rfl,by decide +kernel,rfl,by decide +kernel,by decide +kernel⟩
abbrev Je:Stmt:=top 20
abbrev O6:List Str:= ["_law_script","_law_house_here","_law_low","_law_lows","_law_unit_here","_law_many","_law_b","_law_levels","_law_coming","_law_k","_law_cell","_law_level","_law_room","_law_highs","_law_at","_law_cells","_law_added_here"]
theorem Et:FnScope O6 ["_law_script","_law_house_here","_law_low","_law_lows"] (Bc Je):=⟨rfl,rfl,rfl,by decide +kernel,rfl,by decide +kernel,by decide +kernel⟩
abbrev Mp:Stmt:=top 18
abbrev U7:List Str:= ["_law_script","_law_house_here","_law_turns","_law_many","_law_b","_law_floods_here","_law_at","_law_cells"]
theorem K9:FnScope U7 ["_law_script","_law_house_here","_law_turns"] (Bc Mp):=⟨rfl,rfl,rfl,by decide +kernel,rfl,by decide +kernel,by decide +kernel⟩
abbrev Wh:Stmt:=top 14
abbrev ZDr:List Str:= ["_law_steps_here","_law_total","_law_low","_law_many","_law_way"]
theorem K5:FnScope ZDr ["_law_steps_here"] (Bc Wh):=⟨rfl,rfl,rfl,by decide +kernel,rfl,by decide +kernel,by decide +kernel⟩
abbrev Ur:Stmt:=top 12
abbrev ZDa:List Str:= ["_law_cells","_law_unit_here","_law_pumps","_law_steps_here","_law_low","_law_k","_law_many","_law_way"]
theorem Hg:FnScope ZDa ["_law_cells","_law_unit_here","_law_pumps"] (Bc Ur):=⟨rfl,rfl,rfl,by decide +kernel,rfl,by decide +kernel,by decide +kernel⟩
abbrev Ut:Stmt:=top 11
abbrev ZD7:List Str:= ["_law_script"]
theorem ZBm:FnScope ZD7 ["_law_script"] (Bc Ut):=⟨rfl,rfl,rfl,by decide +kernel,rfl,by decide +kernel,by decide +kernel⟩
abbrev Nv:Stmt:=top 13
abbrev Uh:List Str:= ["_law_script","_law_b","_law_unit_here","_law_pumps","_law_year_here","_law_rule_here","_law_begin","_law_j","_law_later","_law_cells"]
theorem Gr:FnScope Uh ["_law_script","_law_b","_law_unit_here","_law_pumps"] (Bc Nv):=⟨rfl,rfl,rfl,by decide +kernel,rfl,by decide +kernel,by decide +kernel⟩
abbrev Qa:Stmt:=top 15
abbrev ZBK:List Str:= ["_law_script","_law_b","_law_k","_law_names","_law_river","_law_unit_here","_law_cell","_law_pumps","_law_rule_here","_law_pump","_law_most","_law_to","_law_brim"]
theorem Gz:FnScope ZBK ["_law_script","_law_b","_law_k","_law_names","_law_river"] (Bc Qa):=⟨rfl,rfl,rfl,by decide +kernel,rfl,by decide +kernel,by decide +kernel⟩
abbrev Uj:Stmt:=top 8
abbrev ZEQ:List Str:= ["_law_cell","_law_k","_law_many","_law_other","_law_telling"]
theorem Tj:FnScope ZEQ ["_law_cell","_law_k","_law_many"] (Bc Uj):=⟨rfl,rfl,rfl,by decide +kernel,rfl,by decide +kernel,by decide +kernel⟩
abbrev Qo:Stmt:=top 16
abbrev ZA9:List Str:= ["_law_script","_law_first","_law_many","_law_names","_law_k","_law_places","_law_b","_law_step","_law_delay","_law_river","_law_kind","_law_amount_here","_law_rank"]
theorem Ei:FnScope ZA9 ["_law_script"] (Bc Qo):=⟨rfl,rfl,rfl,by decide +kernel,rfl,by decide +kernel,by decide +kernel⟩
abbrev Oq:Stmt:=top 21
abbrev V3:List Str:= ["_law_state_here","_law_k","_law_j","_law_levels","_law_coming"]
theorem Tv:FnScope V3 ["_law_state_here","_law_k","_law_j"] (Bc Oq):=⟨rfl,rfl,rfl,by decide +kernel,rfl,by decide +kernel,by decide +kernel⟩
abbrev Ub:Stmt:=top 23
abbrev ZGr:List Str:= ["_law_some","_law_others","_law_k"]
theorem Ym:FnScope ZGr ["_law_some","_law_others"] (Bc Ub):=⟨rfl,rfl,rfl,by decide +kernel,rfl,by decide +kernel,by decide +kernel⟩
abbrev Ud:Stmt:=top 25
abbrev ZCJ:List Str:= ["_law_floods_here","_law_others","_law_k"]
theorem ZAn:FnScope ZCJ ["_law_floods_here","_law_others"] (Bc Ud):=⟨rfl,rfl,rfl,by decide +kernel,rfl,by decide +kernel,by decide +kernel⟩
abbrev Xa:Stmt:=top 17
abbrev ZDb:List Str:= ["_law_script","_law_house_here","_law_places","_law_unit_here","_law_b","_law_levels","_law_coming","_law_k","_law_level","_law_cell","_law_row","_law_j"]
theorem Ft:FnScope ZDb ["_law_script","_law_house_here"] (Bc Xa):=⟨rfl,rfl,rfl,by decide +kernel,rfl,by decide +kernel,by decide +kernel⟩
abbrev Th:Stmt:=top 24
abbrev ZGM:List Str:= ["_law_state_here","_law_other","_law_k"]
theorem ZAx:FnScope ZGM ["_law_state_here","_law_other"] (Bc Th):=⟨rfl,rfl,rfl,by decide +kernel,rfl,by decide +kernel,by decide +kernel⟩
abbrev Wa:Stmt:=top 22
abbrev ZFT:List Str:= ["_law_script","_law_floods_here","_law_many","_law_at","_law_some","_law_way","_law_flood","_law_k"]
theorem Im:FnScope ZFT ["_law_script","_law_floods_here","_law_many"] (Bc Wa):=⟨rfl,rfl,rfl,by decide +kernel,rfl,by decide +kernel,by decide +kernel⟩
abbrev S6:Stmt:=top 3
abbrev ZAB:List Str:= ["numbers","others"]
theorem ZFt:FnScope ZAB ["numbers","others"] (Bc S6):=⟨rfl,rfl,rfl,by decide +kernel,rfl,by decide +kernel,by decide +kernel⟩
abbrev Qz:Stmt:=top 2
abbrev Zr:List Str:= ["floods","others"]
theorem ZET:FnScope Zr ["floods","others"] (Bc Qz):=⟨rfl,rfl,rfl,by decide +kernel,rfl,by decide +kernel,by decide +kernel⟩
abbrev W0:Stmt:=top 1
abbrev ZFn:List Str:= ["state","other","levels","coming","other_levels","other_coming"]
theorem O3:FnScope ZFn ["state","other"] (Bc W0):=⟨rfl,rfl,rfl,by decide +kernel,rfl,by decide +kernel,by decide +kernel⟩
abbrev Fe:Stmt:=top 26
abbrev ZBJ:List Str:= ["_law_script","_law_house_here","_law_many","_law_low","_law_lows","_law_high","_law_highs","_law_handed","_law_found","_law_due"]
theorem Fo:FnScope ZBJ ["_law_script"] (Bc Fe):=⟨rfl,rfl,rfl,by decide +kernel,rfl,by decide +kernel,by decide +kernel⟩
def Hi:DS:=(sRt (dOp Am (dOp Ay (dV 1) (dOp Az (dV 0) (dC (.int 7)))) (dOp Az (dOp Br (dV 0) (dC (.int 7))) (dV 1))))
def Hb:List D->DH->R D:=Cj 2 0 Hi
def Nj:DS:=(sAs (dOp Br (dV 0) (dOp Hf (dC (.int 10)) (dC (.int 8)))) (gV 0))
def My:DS:=(Ah (sIf (Bg (Pz Q7 Gk (dC (.int 0)) (dV 0) (dOp Hf (dC (.int 10)) (dC (.int 18))))) (Ah (sAs (dOp Az (dOp Am (dOp Am (dV 0) (dOp Ay (dC (.int 1009)) (dV 1))) (dC (.int 7))) (dC (.int 999999937))) (gV 0)) (Ah (sAs (dOp Az (dOp Ay (dV 0) (dV 0)) (dC (.int 999999929))) (gV 0)) (sRt (dOp Az (dOp Ay (dV 0) (dOp Am (dV 0) (dV 1))) (dC (.int 99999989)))))) sNx) (Ah (Dw (Df rng1 (Ab (dV 1) Af)) (gV 2) Nj) (sRt (dOp Az (dV 0) (dOp Hf (dC (.int 10)) (dC (.int 8)))))))
def Nx:List D->DH->R D:=Cj 2 1 My
def K7:DS:=(sRt (J6 (dOp Hr (dFn Bs (Ab (dV 0) Af)) (dC (.int 0))) (Uv (dOp Gk (dOp Ak (dV 0) (dC (.int 0))) (dC (.int 0))) (dOp Um (dOp Ak (dV 0) (dC (.int 0))) (dOp Hf (dC (.int 10)) (dC (.int 18)))))))
def Jc:List D->DH->R D:=Cj 1 0 K7
def Bw:DS:=(Ah (sIf (Bg (dFn Jc (Ab (dV 0) Af))) (Ah (sAs (dC (.int 0)) (gV 2)) (Ah (sIf (Bg (dOp Gk (dOp Am (dC (.int 1)) (dOp Br (dV 1) (dC (.int 14)))) (dFn Bs (Ab (dV 0) Af)))) (sAs (dOp Ak (dV 0) (dOp Am (dC (.int 1)) (dOp Br (dV 1) (dC (.int 14))))) (gV 2)) sNx) (sRt (dFn Nx (Ab (dV 2) (Ab (dOp Az (dV 1) (dC (.int 14))) Af)))))) sNx) (Ah (sIf (Bg (dOp Gk (dV 1) (dFn Bs (Ab (dV 0) Af)))) (sRt (dOp Ak (dV 0) (dV 1))) sNx) (Ah (sAs (dOp Az (dOp Ay (dC (.int 48271)) (dOp Am (dOp Ay (dV 1) (dV 1)) (dOp Ay (dC (.int 7)) (dFn Bs (Ab (dV 0) Af))))) (dC (.int 2147483647))) (gV 2)) (Ah (sIf (Bg (dOp Hr (dFn Bs (Ab (dV 0) Af)) (dC (.int 0)))) (sAs (dOp Am (dV 2) (dOp Az (dOp Ay (dOp Ak (dV 0) (dOp Az (dV 1) (dFn Bs (Ab (dV 0) Af)))) (dC (.int 69621))) (dC (.int 2147483629)))) (gV 2)) sNx) (sRt (dV 2))))))
def Ar:List D->DH->R D:=Cj 2 1 Bw
def Gv:DS:=(sRt (dOp Ak (Bf (dFn An (Ab (dC (.int 1)) (Ab (dC (.int 1)) (Ab (dOp Hf (dC (.int 10)) (dC (.int 30))) Af))))) (dOp Az (dOp Br (dFn Ar (Ab (dV 0) (Ab (dC (.int 0)) Af))) (dC (.int 840))) (dC (.int 3)))))
def Do:List D->DH->R D:=Cj 1 0 Gv
def Wr:DE:=(dOp Am (dV 0) (dOp Ay (dV 1) (dOp Az (dOp Br (dV 2) (dC (.int 2))) (dC (.int 2)))))
def Jd:DS:=(Ah (sAs (dFn Ar (Ab (dV 0) (Ab (dOp Am (dV 6) (dV 9)) Af))) (gV 10)) (Ah (sAs (dOp Ak (dOp Ak (dV 2) (dC (.int 0))) (dV 9)) (gV 11)) (Ah (sIf (Bg (dOp Ce (dOp Ak (dOp Ak (dOp Ak (dV 1) (dC (.int 1))) (dV 9)) (dC (.int 0))) (dC (.str "basin")))) (Ah (sAs (dOp Am (dOp Fp (dOp Ak (dOp Ak (dOp Ak (dV 1) (dC (.int 1))) (dV 9)) (dC (.int 4))) (dV 11)) (dC (.int 1))) (gV 12)) (sAs (dOp Am (dV 11) (dOp Ay (dOp Az (dFn Hb (Ab (dOp Br (dV 10) (dC (.int 2))) (Ab (dV 4) Af))) (dV 12)) (dOp Az (dV 10) (dC (.int 2))))) (gV 11))) sNx) (Ah (sEx (Ey El (dV 7) (Ab (dV 11) Af))) (sEx (Ey El (dV 8) (Ab (dFn Di (Ab (Bf (Dp (Gu (dOp Ak (dOp Ak (dV 2) (dC (.int 1))) (dV 9))) 1 [4,10] (gV 0) Bm Wr)) Af)) Af)))))))
def Vl:DE:=(dFn Ar (Ab (dV 1) (Ab (dOp Am (dOp Am (dOp Am (dV 3) (dV 2)) (dOp Ay (dV 4) (dV 2))) (dV 0)) Af)))
def We:DE:=(dOp Ay (dFn Hb (Ab (dOp Br (dV 0) (dC (.int 2))) (Ab (dV 1) Af))) (dOp Az (dV 0) (dC (.int 2))))
def Vw:DE:=(dOp Am (dOp Ak (dOp Ak (dV 1) (dV 2)) (dV 0)) (dOp Ak (dV 3) (dV 0)))
def Mg:DS:=(Ah (sAs (Bf (Dp (Df rng1 (Ab (dV 5) Af)) 1 [0,5,6,14] (gV 0) Bm Vl)) (gV 15)) (Ah (sAs (Bf (Dp (Gu (dV 15)) 1 [4] (gV 0) Bm We)) (gV 16)) (sEx (Ey El (dV 13) (Ab (dFn Di (Ab (Bf (Dp (Df rng1 (Ab (dV 5) Af)) 1 [3,14,16] (gV 0) Bm Vw)) Af)) Af)))))
def Rk:DS:=(Ah (sAs (Bf (dFn Do (Ab (dV 0) Af))) (gV 4)) (Ah (sAs (dFn Bs (Ab (dOp Ak (dV 1) (dC (.int 1))) Af)) (gV 5)) (Ah (sAs (dOp Am (dC (.int 6)) (dOp Ay (dC (.int 24)) (dV 5))) (gV 6)) (Ah (sAs (Ej (dFn An Af)) (gV 7)) (Ah (sAs (Ej (dFn An Af)) (gV 8)) (Ah (Dw (Df rng1 (Ab (dV 5) Af)) (gV 9) Jd) (Ah (sAs (Ej (dFn An Af)) (gV 13)) (Ah (Dw (Df rng1 (Ab (dFn Bs (Ab (dV 3) Af)) Af)) (gV 14) Mg) (sRt (dFn By (Ab (dFn By (Ab (dFn Di (Ab (dV 7) Af)) (Ab (dFn Di (Ab (dV 8) Af)) Af))) (Ab (dV 13) Af))))))))))))
def Ms:List D->DH->R D:=Cj 4 13 Rk
def Ww:DE:=(dFn Ar (Ab (dV 1) (Ab (dOp Am (dOp Am (dV 3) (dOp Ay (dV 4) (dV 2))) (dV 0)) Af)))
def Vi:DE:=(dFn Hb (Ab (dV 0) (Ab (Bf (dFn Do (Ab (dV 1) Af))) Af)))
def Mw:DS:=(Ah (sAs (Bf (Dp (Df rng1 (Ab (dV 3) Af)) 1 [0,3,4,6] (gV 0) Bm Ww)) (gV 7)) (sEx (Ey El (dV 5) (Ab (dFn Di (Ab (Bf (Dp (Gu (dV 7)) 1 [0] (gV 0) Bm Vi)) Af)) Af))))
def Qq:DS:=(Ah (sAs (dFn Bs (Ab (dOp Ak (dV 1) (dC (.int 1))) Af)) (gV 3)) (Ah (sAs (dOp Am (dC (.int 6)) (dOp Ay (dC (.int 14)) (dV 3))) (gV 4)) (Ah (sAs (Ej (dFn An Af)) (gV 5)) (Ah (Dw (Df rng1 (Ab (dV 2) Af)) (gV 6) Mw) (sRt (dV 5))))))
def R0:List D->DH->R D:=Cj 3 5 Qq
def Sv:DS:=(sIf (Bg (dOp Ce (dV 4) (dC (.str "pump")))) (sAs (dOp Am (dV 1) (dV 3)) (gV 1)) sNx)
def R9:DS:=(Ah (sAs (dC (.int 0)) (gV 1)) (Ah (Dw (Gu (dV 0)) (Es 3 (Dc (gV 2) (Dc (gV 3) (Dc (gV 4) Fx)))) Sv) (sRt (dV 1))))
def Pr:List D->DH->R D:=Cj 1 4 R9
def O8:DS:=(Ah (sAs (dOp Am (dV 4) (dOp Ay (dV 1) (dOp Az (dOp Ak (dV 0) (dOp Am (dC (.int 1)) (dV 5))) (dC (.int 4))))) (gV 4)) (Ah (sAs (dOp Am (dC (.int 1)) (dOp Ay (dV 1) (dOp Az (dOp Br (dOp Ak (dV 0) (dOp Am (dC (.int 1)) (dV 5))) (dC (.int 4))) (dC (.int 4))))) (gV 6)) (Ah (sAs (dC (.str "river")) (gV 7)) (Ah (sIf (Li (Bg (dV 2)) (Bg (dOp Ce (dOp Az (dOp Br (dOp Ak (dV 0) (dOp Am (dC (.int 1)) (dV 5))) (dC (.int 16))) (dC (.int 2))) (dC (.int 1))))) (sAs (dC (.str "pump")) (gV 7)) sNx) (Ah (sEx (Ey El (dV 3) (Ab (dFn By (Ab (dV 4) (Ab (dV 6) (Ab (dV 7) Af)))) Af))) (sAs (dOp Am (dV 4) (dV 6)) (gV 4)))))))
def Px:DS:=(Ah (sAs (Ej (dFn An Af)) (gV 3)) (Ah (sAs (dC (.int 0)) (gV 4)) (Ah (Dw (Df rng1 (Ab (dOp Az (dOp Ak (dV 0) (dC (.int 0))) (dC (.int 4))) Af)) (gV 5) O8) (sRt (dFn Di (Ab (dV 3) Af))))))
def Sx:List D->DH->R D:=Cj 3 5 Px
def Ol:DS:=(sRt (dOp Am (dC (.int 1)) (dOp Az (dFn Ar (Ab (dV 0) (Ab (dC (.int 1)) Af))) (dC (.int 4)))))
def Hn:List D->DH->R D:=Cj 1 0 Ol
def Vf:DE:=(dOp Br (dFn Ar (Ab (dV 1) (Ab (dOp Am (dOp Am (dV 2) (dC (.int 5))) (dOp Az (dOp Am (dOp Ay (dC (.int 3)) (dV 3)) (dV 0)) (dC (.int 6)))) Af))) (dOp Am (dC (.int 1)) (dOp Ay (dC (.int 7)) (dOp Br (dV 3) (dC (.int 2))))))
def Tt:DE:=(dOp Br (dFn Ar (Ab (dV 1) (Ab (dOp Am (dOp Am (dV 2) (dC (.int 5))) (dV 0)) Af))) (dOp Ak (Bf (dFn An (Ab (dC (.int 1)) (Ab (dC (.int 64)) (Ab (dC (.int 4096)) (Ab (dC (.int 262144)) Af)))))) (dV 3)))
def Qs:DS:=(sIf (dOr (Bg (dOp Ce (dV 7) (dC (.int 0)))) (Li (Bg (dOp Ce (dOp Az (dV 8) (dC (.int 2))) (dC (.int 1)))) (Bg (dOp Gk (dOp Am (dV 6) (dC (.int 1))) (dV 4))))) (Ah (sIf (Bg (dOp Hr (dV 7) (dC (.int 0)))) (sAs (dOp Am (dOp Am (dV 6) (dC (.int 1))) (dOp Az (dOp Br (dV 8) (dC (.int 2))) (dOp Fp (dOp Fp (dV 4) (dV 6)) (dC (.int 1))))) (gV 6)) sNx) (sEx (Ey El (dV 5) (Ab (dFn By (Ab (dV 6) (Ab (dFn Sx (Ab (dV 9) (Ab (dV 2) (Ab (dV 3) Af)))) Af))) Af)))) sNx)
def Zk:DS:=(Ah (sIf (Bg (dFn Jc (Ab (dV 0) Af))) (Ah (sAs (dOp Br (dFn Ar (Ab (dV 0) (Ab (dOp Am (dV 1) (dC (.int 4))) Af))) (dOp Ak (Bf (dFn An (Ab (dC (.int 1)) (Ab (dC (.int 48)) (Ab (dC (.int 2304)) (Ab (dC (.int 110592)) Af)))))) (dV 7))) (gV 8)) (sAs (Bf (Dp (Df rng1 (Ab (dC (.int 4)) Af)) 1 [0,1,7] (gV 0) Bm Tt)) (gV 9))) sNx) Qs)
def ZAs:DS:=(Ah (sAs (Bf (Dp (Df rng1 (Ab (dC (.int 4)) Af)) 1 [0,1,7] (gV 0) Bm Vf)) (gV 9)) Zk)
def Hx:DS:=(Ah (sAs (dOp Az (dOp Ay (dOp Ay (dFn Ar (Ab (dV 0) (Ab (dOp Am (dV 1) (dC (.int 4))) Af))) (dC (.int 48271))) (dOp Am (dOp Ay (dV 7) (dV 7)) (dC (.int 1)))) (dC (.int 10007))) (gV 8)) ZAs)
def Qm:DS:=(Ah (sAs (dFn Hn (Ab (dV 0) Af)) (gV 4)) (Ah (sAs (Ej (dFn An Af)) (gV 5)) (Ah (sAs (dC (.int 0)) (gV 6)) (Ah (Dw (Df rng1 (Ab (dC (.int 4)) Af)) (gV 7) Hx) (sRt (dFn Di (Ab (dV 5) Af)))))))
def Tc:List D->DH->R D:=Cj 4 6 Qm
def Ue:DE:=(dFn Pr (Ab (dOp Ak (dV 0) (dC (.int 1))) Af))
def Mf:DS:=(Ah (sAs (Bf (dFn Do (Ab (dV 0) Af))) (gV 5)) (Ah (sAs (dFn Ar (Ab (dV 0) (Ab (dOp Am (dV 1) (dC (.int 11))) Af))) (gV 6)) (Ah (sAs (J6 (dOp Hr (dFn Bs (Ab (dV 3) Af)) (dC (.int 1))) (dOp Ce (dOp Az (dV 6) (dC (.int 2))) (dC (.int 1)))) (gV 7)) (Ah (sAs (dFn Tc (Ab (dV 0) (Ab (dV 1) (Ab (dV 5) (Ab (dV 7) Af))))) (gV 8)) (Ah (sAs (dC .non) (gV 9)) (Ah (sIf (Bg (dV 7)) (Ah (sAs (dOp Am (dFn Kz (Ab (Bf (Dp (Gu (dV 8)) 1 [] (gV 0) Bm Ue)) Af)) (dOp Ay (dV 5) (dOp Az (dOp Br (dV 6) (dC (.int 130))) (dC (.int 2))))) (gV 10)) (Ah (sAs (dOp Ak (dV 3) (dOp Az (dOp Am (dOp Am (dV 2) (dC (.int 1))) (dOp Az (dOp Br (dV 6) (dC (.int 2))) (dOp Fp (dFn Bs (Ab (dV 3) Af)) (dC (.int 1))))) (dFn Bs (Ab (dV 3) Af)))) (gV 11)) (sAs (dFn By (Ab (dV 11) (Ab (dOp Am (dC (.int 1)) (dOp Az (dOp Br (dV 6) (dC (.int 26))) (dC (.int 5)))) (Ab (dV 10) Af)))) (gV 9)))) sNx) (Ah (sAs (dFn Hb (Ab (dFn Ar (Ab (dV 0) (Ab (dOp Am (dV 1) (dC (.int 3))) Af))) (Ab (dV 5) Af))) (gV 12)) (sRt (dFn By (Ab (dC (.str "basin")) (Ab (dOp Ak (dV 3) (dV 2)) (Ab (dOp Ak (dV 4) (dC (.int 0))) (Ab (dOp Ak (dV 4) (dC (.int 1))) (Ab (dV 12) (Ab (dV 8) (Ab (dV 9) Af))))))))))))))))
def Ls:List D->DH->R D:=Cj 5 8 Mf
def Qe:DS:=(Ah (sAs (dOp Ak (dC (.str "abcdefghijklmnopqrstuvwxyz")) (dOp Az (dOp Br (dV 0) (dC (.int 21))) (dC (.int 26)))) (gV 3)) (Ah (sIf (Li (Bg (dOp Ce (dOp Az (dV 0) (dC (.int 3))) (dC (.int 1)))) (Bg (dOp Gk (dV 2) (dC (.int 9))))) (sRt (dOp Ay (dV 3) (dOp Am (dV 1) (dC (.int 1))))) sNx) (Ah (sAs (dOp Ak (dC (.str "abcdefghijkl")) (dOp Az (dOp Am (dOp Ay (dC (.int 5)) (dV 1)) (dOp Br (dV 0) (dC (.int 546)))) (dC (.int 12)))) (gV 4)) (Ah (sIf (Bg (dOp Ce (dOp Az (dV 0) (dC (.int 3))) (dC (.int 2)))) (sRt (dOp Am (dV 4) (dOp Ay (dV 3) (dOp Az (dOp Br (dV 0) (dC (.int 3))) (dC (.int 7)))))) sNx) (sRt (dOp Am (dOp Am (dOp Ay (dV 3) (dOp Az (dOp Br (dV 0) (dC (.int 3))) (dC (.int 7)))) (dV 4)) (dOp Ay (dV 3) (dOp Fp (dC (.int 6)) (dOp Az (dOp Br (dV 0) (dC (.int 3))) (dC (.int 7)))))))))))
def Rj:List D->DH->R D:=Cj 3 2 Qe
def Tz:DE:=(dFn Rj (Ab (dFn Ar (Ab (dV 1) (Ab (dC (.int 5)) Af))) (Ab (dV 0) (Ab (dV 2) Af))))
def Js:DS:=(sIf (Bg (dOp Gk (dV 10) (dC (.int 2)))) (sEx (Ey El (dV 5) (Ab (Bf (dFn Ls (Ab (dV 0) (Ab (dV 6) (Ab (dV 4) (Ab (dV 3) (Ab (dV 9) Af))))))) Af))) (sIf (Bg (dOp Gk (dV 10) (dC (.int 4)))) (sEx (Ey El (dV 5) (Ab (dFn By (Ab (dC (.str "town")) (Ab (dOp Ak (dV 3) (dV 4)) (Ab (dOp Ak (dV 9) (dC (.int 0))) (Ab (dOp Ak (dV 9) (dC (.int 1))) (Ab (dV 11) (Ab (dV 12) Af))))))) Af))) (sEx (Ey El (dV 5) (Ab (dFn By (Ab (dC (.str "mill")) (Ab (dOp Ak (dV 3) (dV 4)) (Ab (dOp Ak (dV 9) (dC (.int 0))) (Ab (dOp Ak (dV 9) (dC (.int 1))) (Ab (dV 11) Af)))))) Af)))))
def U4:DS:=(Ah (sAs (dOp Az (dFn Ar (Ab (dV 0) (Ab (dOp Am (dV 6) (dC (.int 4))) Af))) (dOp Ak (Bf (dFn An (Ab (dC (.int 4)) (Ab (dOp Hf (dC (.int 10)) (dC (.int 40))) Af)))) (dOp Az (dOp Br (dV 1) (dC (.int 840))) (dC (.int 2))))) (gV 12)) Js)
def X8:DS:=(Ah (sAs (dFn Hb (Ab (dFn Ar (Ab (dV 0) (Ab (dOp Am (dV 6) (dC (.int 3))) Af))) (Ab (Bf (dFn Do (Ab (dV 0) Af))) Af))) (gV 11)) U4)
def N5:DS:=(Ah (sAs (dOp Az (dFn Ar (Ab (dV 0) (Ab (dV 6) Af))) (dC (.int 5))) (gV 10)) X8)
def W2:DS:=(Ah (sIf (Bg (dOp Hr (dV 7) (dC (.int 0)))) (sAs (dFn By (Ab (dOp Ak (dV 3) (dOp Am (dV 4) (dV 7))) (Ab (dOp Ak (dV 9) (dC (.int 1))) Af))) (gV 9)) sNx) N5)
def W7:DS:=(Ah (sAs (dFn By (Ab (dC (.str "sea")) (Ab (dOp Ay (dOp Az (dV 8) (dC (.int 2))) (dOp Az (dOp Br (dV 8) (dC (.int 2))) (dC (.int 6)))) Af))) (gV 9)) W2)
def M3:DS:=(Ah (sAs (dFn Ar (Ab (dV 0) (Ab (dOp Am (dV 6) (dC (.int 2))) Af))) (gV 8)) W7)
def Wx:DS:=(Ah (sIf (Bg (dOp Ce (dOp Az (dOp Br (dV 1) (dC (.int 280))) (dC (.int 3))) (dC (.int 1)))) (sAs (dFn Ov (Ab (dC (.int 1)) (Ab (dOp Fp (dOp Fp (dV 2) (dC (.int 1))) (dV 4)) Af))) (gV 7)) sNx) M3)
def R7:DS:=(Ah (sAs (dOp Az (dFn Ar (Ab (dV 0) (Ab (dOp Am (dV 6) (dC (.int 1))) Af))) (dOp Fp (dV 2) (dV 4))) (gV 7)) Wx)
def Hv:DS:=(Ah (sAs (dOp Am (dC (.int 6)) (dOp Ay (dC (.int 12)) (dV 4))) (gV 6)) R7)
def R4:DS:=(Ah (sAs (dFn Ar (Ab (dV 0) (Ab (dC (.int 0)) Af))) (gV 1)) (Ah (sAs (dOp Am (dC (.int 1)) (dOp Az (dV 1) (dC (.int 5)))) (gV 2)) (Ah (sIf (Bg (dOp Ce (dOp Az (dOp Br (dV 1) (dC (.int 5))) (dC (.int 8))) (dC (.int 1)))) (sAs (dOp Am (dC (.int 6)) (dOp Az (dOp Br (dV 1) (dC (.int 40))) (dC (.int 7)))) (gV 2)) sNx) (Ah (sAs (Bf (Dp (Df rng1 (Ab (dV 2) Af)) 1 [0,2] (gV 0) Bm Tz)) (gV 3)) (Ah (sAs (Ej (dFn An Af)) (gV 5)) (Ah (Dw (Df rng1 (Ab (dV 2) Af)) (gV 4) Hv) (sRt (dFn By (Ab (dFn Hn (Ab (dV 0) Af)) (Ab (dFn Di (Ab (dV 5) Af)) Af))))))))))
def T6:List D->DH->R D:=Cj 1 12 R4
def Oc:DE:=(Ej (dFn Ga (Ab (dV 0) Af)))
def Pk:DE:=(dFn Di (Ab (dV 0) Af))
def Ni:DS:=(Ah (sAs (Ej (dFn Ga (Ab (dOp Ak (dV 0) (dC (.int 0))) Af))) (gV 3)) (Ah (sAs (Dp (Gu (dOp Ak (dV 0) (dC (.int 1)))) 1 [] (gV 0) Bm Oc) (gV 4)) (Ah (sIf (Bg (dOp Gk (dV 2) (dC (.int 5)))) (sAs (dFn Jt (Ab (dC (.int 0)) (Ab (dOp Fp (dOp Ak (dOp Ak (dV 4) (dV 1)) (dV 2)) (dC (.int 1))) Af))) (gIx (dOp Ak (dV 4) (dV 1)) (dV 2))) (sAs (dFn Jt (Ab (dC (.int 0)) (Ab (dOp Fp (dOp Ak (dV 3) (dV 1)) (dC (.int 1))) Af))) (gIx (dV 3) (dV 1)))) (sRt (dFn By (Ab (dFn Di (Ab (dV 3) Af)) (Ab (dFn Di (Ab (Bf (Dp (Gu (dV 4)) 1 [] (gV 0) Bm Pk)) Af)) Af)))))))
def Lz:List D->DH->R D:=Cj 3 2 Ni
def Vd:DS:=(sIf (Bg (dOp Hr (dOp Ak (dV 0) (dV 2)) (dOp Ak (dV 1) (dV 2)))) (sRt (dC (.bl false))) sNx)
def O2:DS:=(Ah (Dw (Df rng1 (Ab (dFn Bs (Ab (dV 0) Af)) Af)) (gV 2) Vd) (sRt (dC (.bl true))))
def Nt:List D->DH->R D:=Cj 2 1 O2
def Us:DS:=(sIf (Q5 (Bg (dFn Nt (Ab (dOp Ak (dV 0) (dV 2)) (Ab (dOp Ak (dV 1) (dV 2)) Af))))) (sRt (dC (.bl false))) sNx)
def Ka:DS:=(Ah (sIf (Bg (dOp Jy (dFn Bs (Ab (dV 0) Af)) (dFn Bs (Ab (dV 1) Af)))) (sRt (dC (.bl false))) sNx) (Ah (Dw (Df rng1 (Ab (dFn Bs (Ab (dV 0) Af)) Af)) (gV 2) Us) (sRt (dC (.bl true)))))
def J7:List D->DH->R D:=Cj 2 1 Ka
def ZBN:DS:=(sAs (dOp Br (dV 9) (dC (.int 3))) (gV 9))
def Ly:DS:=(Ah (sEx (Ey El (dV 10) (Ab (dOp Ay (dV 3) (dOp Az (dV 9) (dC (.int 3)))) Af))) ZBN)
def ZBf:DS:=(sEx (Ey El (dV 6) (Ab (dFn Di (Ab (dV 10) Af)) Af)))
def P0:DS:=(Ah (Dw (Df rng1 (Ab (dC (.int 5)) Af)) (gV 11) Ly) ZBf)
def Z0:DS:=(Ah (sAs (Ej (dFn An Af)) (gV 10)) P0)
def ZBR:DS:=(Ah (sAs (dFn Ar (Ab (dV 0) (Ab (dOp Am (dOp Am (dV 4) (dFn Bs (Ab (dV 2) Af))) (dV 7)) Af))) (gV 9)) Z0)
def Rr:DS:=(Ah (sEx (Ey El (dV 5) (Ab (dV 8) Af))) ZBR)
def Zj:DS:=(Ah (sIf (Bg (dOp Ce (dOp Ak (dOp Ak (dV 2) (dV 7)) (dC (.int 0))) (dC (.str "basin")))) (sAs (dOp Az (dFn Hb (Ab (dFn Ar (Ab (dV 0) (Ab (dOp Am (dV 4) (dV 7)) Af))) (Ab (dV 3) Af))) (dOp Am (dOp Ak (dOp Ak (dV 2) (dV 7)) (dC (.int 4))) (dC (.int 1)))) (gV 8)) sNx) Rr)
def M6:DS:=(Ah (sAs (dC (.int 0)) (gV 8)) Zj)
def S8:DS:=(Ah (sAs (dOp Ak (dV 1) (dC (.int 1))) (gV 2)) (Ah (sAs (Bf (dFn Do (Ab (dV 0) Af))) (gV 3)) (Ah (sAs (dOp Am (dC (.int 6)) (dOp Ay (dC (.int 12)) (dFn Bs (Ab (dV 2) Af)))) (gV 4)) (Ah (sAs (Ej (dFn An Af)) (gV 5)) (Ah (sAs (Ej (dFn An Af)) (gV 6)) (Ah (Dw (Df rng1 (Ab (dFn Bs (Ab (dV 2) Af)) Af)) (gV 7) M6) (sRt (dFn By (Ab (dFn Di (Ab (dV 5) Af)) (Ab (dFn Di (Ab (dV 6) Af)) Af))))))))))
def T8:List D->DH->R D:=Cj 2 10 S8
def U0:DS:=(sIf (dOr (Bg (dOp Hr (dOp Ak (dOp Ak (dV 0) (dC (.int 0))) (dV 2)) (dOp Ak (dOp Ak (dV 1) (dC (.int 0))) (dV 2)))) (Q5 (Bg (dFn Nt (Ab (dOp Ak (dOp Ak (dV 0) (dC (.int 1))) (dV 2)) (Ab (dOp Ak (dOp Ak (dV 1) (dC (.int 1))) (dV 2)) Af)))))) (sRt (dC (.bl false))) sNx)
def O9:DS:=(Ah (Dw (Df rng1 (Ab (dFn Bs (Ab (dOp Ak (dV 0) (dC (.int 0))) Af)) Af)) (gV 2) U0) (sRt (dC (.bl true))))
def Nr:List D->DH->R D:=Cj 2 1 O9
def Il:DS:=(Ah (sAs (dFn Ar (Ab (dV 0) (Ab (dC (.int 3)) Af))) (gV 3)) (Ah (sAs (Ej (dFn Ga (Ab (dV 1) Af))) (gV 4)) (Ah (sIf (Bg (dOp Ce (dV 4) (Bf (dFn An Af)))) (sRt (dV 4)) sNx) (Ah (sAs (dOp Az (dV 3) (dC (.int 4))) (gV 5)) (Ah (sAs (dOp Az (dOp Br (dV 3) (dC (.int 4))) (dFn Bs (Ab (dV 4) Af))) (gV 3)) (Ah (sIf (Bg (dOp Ce (dV 5) (dC (.int 0)))) (sRt (dOp Am (Bf (dSl (dV 4) none (some (dV 3)))) (Bf (dSl (dV 4) (some (dOp Am (dV 3) (dC (.int 1)))) none)))) sNx) (Ah (sIf (Bg (dOp Ce (dV 5) (dC (.int 1)))) (sRt (dOp Am (Bf (dOp Am (Bf (dSl (dV 4) none (some (dV 3)))) (Bf (dFn An (Ab (dOp Ak (dV 4) (dV 3)) Af))))) (Bf (dSl (dV 4) (some (dV 3)) none)))) sNx) (Ah (sIf (Bg (dOp Ce (dV 5) (dC (.int 2)))) (Ah (sAs (Ej (dFn Ga (Ab (dOp Ak (dV 4) (dV 3)) Af))) (gV 6)) (Ah (sAs (dOp Az (dFn Ar (Ab (dV 0) (Ab (dC (.int 4)) Af))) (dV 2)) (gV 7)) (Ah (sAs (dFn Jt (Ab (dC (.int 0)) (Ab (dOp Fp (dOp Ak (dV 6) (dV 7)) (dC (.int 1))) Af))) (gIx (dV 6) (dV 7))) (sAs (dFn Di (Ab (dV 6) Af)) (gIx (dV 4) (dV 3)))))) sNx) (sRt (dV 4))))))))))
def Hy:List D->DH->R D:=Cj 3 5 Il
def Va:DE:=(dOp Q7 (dV 0) (dV 1))
def Mm:DS:=(Ah (sIf (Bg (dOp Jy (dFn Bs (Ab (dV 0) Af)) (dFn Bs (Ab (dV 1) Af)))) (sRt (dC (.bl false))) sNx) (sRt (dFn Hz (Ab (Bf (Dp (Df (J1 2) (Ab (dV 0) (Ab (dV 1) Af))) 2 [] (Es 2 (Dc (gV 0) (Dc (gV 1) Fx))) Bm Va)) Af))))
def Mh:List D->DH->R D:=Cj 2 0 Mm
def W8:DE:=(dFn Mh (Ab (dV 0) (Ab (dV 1) Af)))
def Iv:DS:=(Ah (sIf (Bg (dOp Jy (dFn Bs (Ab (dV 0) Af)) (dFn Bs (Ab (dV 1) Af)))) (sRt (dC (.bl false))) sNx) (sRt (dFn Hz (Ab (Bf (Dp (Df (J1 2) (Ab (dV 0) (Ab (dV 1) Af))) 2 [] (Es 2 (Dc (gV 0) (Dc (gV 1) Fx))) Bm W8)) Af))))
def Ii:List D->DH->R D:=Cj 2 0 Iv
def Nu:DS:=(Ah (sAs (dV 0) (Es 2 (Dc (gV 2) (Dc (gV 3) Fx)))) (Ah (sAs (dV 1) (Es 2 (Dc (gV 4) (Dc (gV 5) Fx)))) (sRt (J6 (dFn Mh (Ab (dV 2) (Ab (dV 4) Af))) (dFn Ii (Ab (dV 3) (Ab (dV 5) Af)))))))
def Lx:List D->DH->R D:=Cj 2 4 Nu
def Ot:DE:=(dFn M9 (Ab (dV 0) (Ab (dC (.ty "bool")) Af)))
def Sh:DS:=(Ah (sAs (dFn T6 (Ab (dV 0) Af)) (gV 1)) (Ah (sAs (dFn Bs (Ab (dOp Ak (dV 1) (dC (.int 1))) Af)) (gV 2)) (Ah (sAs (dFn T8 (Ab (dV 0) (Ab (dV 1) Af))) (gV 3)) (Ah (sAs (Bf (dFn R0 (Ab (dV 0) (Ab (dV 1) (Ab (dOp Az (dFn Ar (Ab (dV 0) (Ab (dC (.int 2)) Af))) (dC (.int 7))) Af))))) (gV 4)) (Ah (sAs (Bf (dFn Ms (Ab (dV 0) (Ab (dV 1) (Ab (dV 3) (Ab (dV 4) Af)))))) (Es 2 (Dc (gV 5) (Dc (gV 6) Fx)))) (Ah (sIf (Bg (dOp Ce (dOp Az (dOp Br (dFn Ar (Ab (dV 0) (Ab (dC (.int 4)) Af))) (dC (.int 4))) (dC (.int 2))) (dC (.int 1)))) (Ah (sAs (dFn Lz (Ab (dV 5) (Ab (dOp Az (dFn Ar (Ab (dV 0) (Ab (dC (.int 4)) Af))) (dV 2)) (Ab (dOp Az (dFn Ar (Ab (dV 0) (Ab (dC (.int 3)) Af))) (dC (.int 6))) Af)))) (gV 5)) (sAs (Bf (dFn Hy (Ab (dV 0) (Ab (dV 6) (Ab (dV 2) Af))))) (gV 6))) sNx) (Ah (sAs (Bf (dFn An (Ab (Bf (dFn Ga (Ab (dV 4) Af))) (Ab (Bf (dFn Ga (Ab (dV 6) Af))) Af)))) (gV 7)) (Ah (sAs (Bf (dFn An (Ab (dFn Lx (Ab (dV 3) (Ab (dV 5) Af))) (Ab (dFn Lx (Ab (dV 5) (Ab (dV 3) Af))) Af)))) (gV 8)) (Ah (sAs (Bf (dOp Am (dV 8) (Bf (dFn An (Ab (dFn Ii (Ab (dOp Ak (dV 7) (dC (.int 0))) (Ab (dOp Ak (dV 7) (dC (.int 1))) Af))) (Ab (dFn Ii (Ab (dOp Ak (dV 7) (dC (.int 1))) (Ab (dOp Ak (dV 7) (dC (.int 0))) Af))) Af)))))) (gV 8)) (Ah (sAs (Bf (dFn An (Ab (dFn Nr (Ab (dV 3) (Ab (dV 5) Af))) (Ab (dFn Nr (Ab (dV 5) (Ab (dV 3) Af))) (Ab (dFn J7 (Ab (dV 4) (Ab (dV 6) Af))) (Ab (dFn J7 (Ab (dV 6) (Ab (dV 4) Af))) Af)))))) (gV 9)) (sRt (J6 (dFn Hz (Ab (Bf (Dp (Gu (dV 8)) 1 [] (gV 0) Bm Ot)) Af)) (J6 (dOp Ce (dV 8) (dV 9)) (dOp Ce (dV 7) (Bf (dFn An (Ab (dV 4) (Ab (dV 6) Af))))))))))))))))))
def I9:List D->DH->R D:=Cj 1 9 Sh
def Holds:Prop:=∀ns:List Int,ns.length<=63->∃G,I9 [.fl (ns.map D.int)] []=.ok (.bl true) G
end Law
namespace Law
open PySem L2 DL
variable {ns:List Int} {k m i b j t w a:Nat} {F lv f xs lv':Nat->Int} {G:DH} {A B:DO} {ds:List D} {co:Nat->Nat->Int} {c u yr:Int} {p:Bool} {S:DSt} {l:List Nat} {α:Type} {nm:Nat->Str} {s2:Option D} {fls:List (Nat->Int)} {e:D}
theorem Ze:∃b,∀G,Jc [.fl (ns.map D.int)] G=.ok (.bl b) G:=by
 cases ns with
 | nil=>exact ⟨false,λG=>by unfold Jc K7;rw [Bh];simp [Bu]⟩
 | cons n r=>
  refine ⟨decide (n < 0) || decide (1000000000000000000<=n),λG=> ?_⟩;unfold Jc K7;rw [Bh];have a0:atI ((n::r).map D.int) 0=some (.int n):=Dk (k:=0) rfl rfl;by_cases h:n < 0
  ·simp [a0,h,Bu]
  ·simp [a0,h,Bu]
def offV:Nat->Int->Int
 | 0,v=>v
 | n + 1,v=>offV n (v / 100000000)
theorem ZA5 {k:D} {G:DH}:∀(n:Nat) (j:Nat) (v:Int) (x:Option D),∃x',Cp (gV 2) Nj (Bl j n) [some (.int v),some k,x] G=.nx [some (.int (offV n v)),some k,x'] G
 | 0,j,v,x=>⟨x,by rw [Hl,Ec];rfl⟩
 | n + 1,j,v,x=>by
  obtain ⟨x',ih⟩:=ZA5 (k:=k) (G:=G) n (j + 1) (v / 100000000) (some (.int j));refine ⟨x',?_⟩;have hb:Nj [some (.int v),some k,some (.int j)] G=.nx [some (.int (v / 100000000)),some k,some (.int j)] G:=by unfold Nj;simp
  rw [Gp,Dz];simp only [Ea,R.Eg,List.set,hb,Ek];have e1:((j:Int) + 1)=((j + 1:Nat):Int):=by omega
  rw [e1,ih]
  rfl
theorem ZBc {v:Int} (hk:k<=1000):∃r:Int,(0<=r/\r < 100000000)/\∀G,Nx [.int v,.int k] G=.ok (.int r) G:=by
 by_cases h:0<=v/\v < 1000000000000000000
 ·let a:=(v + 1009 * (k:Int) + 7) % 999999937;let b:=a * a % 999999929;refine ⟨b * (b + k) % 99999989,by omega,λG=> ?_⟩;have ha:0<=a/\a < 999999937:=by omega
  have hb:0<=b/\b < 999999929:=by omega
  unfold Nx My;rw [Bh];have m1:Ay (.int a) (.int a)=λG=>R.ok (.int (a * a)) G:=by funext G;exact Gg (by omega) (by omega)
  have m2:Ay (.int b) (.int (b + k))=λG=>R.ok (.int (b * (b + k))) G:=by funext G;exact Gg (by omega) (by omega)
  simp [h.1,h.2]
  rw [show (v + 1009 * (k:Int) + 7) % 999999937=a from rfl,m1]
  simp
  rw [show a * a % 999999929=b from rfl,m2]
  simp [Bu]
 ·refine ⟨offV k v % 100000000,by omega,λG=> ?_⟩;obtain ⟨x',hx⟩:=ZA5 (k:=.int k) (G:=G) k 0 v none;have hx':Cp (gV 2) Nj (Bl 0 k) [some (.int v),some (.int k),none] G=.nx [some (.int (offV k v)),some (.int k),x'] G:=hx;unfold Nx My;rw [Bh];have hr:inR (k:Int):=Em (by omega) (by omega);by_cases h0:0<=v
  ·have h1:¬v < 1000000000000000000:=λz=>h ⟨h0,z⟩
   simp [h0,h1,hr,hx',Bu]
  ·simp [h0,hr,hx',Bu]
theorem ZAC (hl:ns.length<=63) (hk:k<=1000):∃v:Int,∀G,Ar [.fl (ns.map D.int),.int k] G=.ok (.int v) G:=by
 obtain ⟨b,ht⟩:=Ze (ns:=ns);have hd:((k:Int) / 14)=((k / 14:Nat):Int):=by omega
 have hm:((k:Int) % 14)=((k % 14:Nat):Int):=by omega
 cases b with
 | true=>
  by_cases h:1 + k / 14 < ns.length
  ·obtain ⟨r,hr,ho⟩:=ZBc (v:=ns[1 + k / 14]) (k:=k % 14) (by omega);refine ⟨r,λG=> ?_⟩;unfold Ar Bw;rw [Bh];have a1:atI (ns.map D.int) (1 + (k:Int) / 14)=some (.int ns[1 + k / 14]):=Dk (k:=1 + k / 14) (by omega) (by rw [List.getElem?_map,List.getElem?_eq_getElem h];rfl);have hc:(1 + (k:Int) / 14) < ns.length:=by omega
   simp [ht,hc,a1];rw [hm,ho];simp [Bu]
  ·obtain ⟨r,hr,ho⟩:=ZBc (v:=0) (k:=k % 14) (by omega);refine ⟨r,λG=> ?_⟩;unfold Ar Bw;rw [Bh];have hc:¬(1 + (k:Int) / 14) < ns.length:=by omega
   simp [ht,hc];rw [hm,ho];simp [Bu]
 | false=>
  by_cases h:k < ns.length
  ·refine ⟨ns[k],λG=> ?_⟩;unfold Ar Bw;rw [Bh];have a1:atI (ns.map D.int) (k:Int)=some (.int ns[k]):=Dk (k:=k) rfl (by rw [List.getElem?_map,List.getElem?_eq_getElem h];rfl);simp [ht,h,a1,Bu]
  ·have m0:∀G,Ay (.int k) (.int k) G=R.ok (.int ((k:Int) * k)) G:=λG=>Gg (by omega) (by omega)
   by_cases h0:0 < ns.length
   ·have hi:k % ns.length < ns.length:=Nat.mod_lt _ h0;refine ⟨48271 * ((k:Int) * k + 7 * ns.length) % 2147483647 + ns[k % ns.length] * 69621 % 2147483629,λG=> ?_⟩;unfold Ar Bw;rw [Bh];have a1:atI (ns.map D.int) ((k:Int) % ns.length)=some (.int ns[k % ns.length]):=Dk (k:=k % ns.length) (by simp) (by rw [List.getElem?_map,List.getElem?_eq_getElem hi];rfl);simp [ht,h,m0,h0,a1,Bu]
   ·have e:ns= []:=List.eq_nil_of_length_eq_zero (by omega);subst e;refine ⟨48271 * ((k:Int) * k + 7 * 0) % 2147483647,λG=> ?_⟩;unfold Ar Bw;rw [Bh];have ht':∀G,Jc [.fl []] G=.ok (.bl false) G:=ht;have hk0:¬(k:Int) < 0:=by omega
    simp [ht',hk0,m0,Bu]
theorem cells (hl:ns.length<=63):∃f:Nat->Int,∀k:Nat,k<=1000->∀G,Ar [.fl (ns.map D.int),.int k] G=.ok (.int (f k)) G:=by refine ⟨λk=>if h:k<=1000 then (ZAC hl h).choose else 0,λk hk=> ?_⟩;simp only [dif_pos hk];exact (ZAC hl hk).choose_spec
def tab (n:Nat) (F:Nat->Int):List D:=(List.range n).map λi=>D.int (F i)
def fset (F:Nat->Int) (d:Nat) (v:Int):Nat->Int:=λi=>if i=d then v else F i
@[simp] theorem ZD5 {n:Nat} :(tab n F).length=n:=by simp [tab]
@[simp] theorem Gw {n:Nat} :bels m (tab n F)=true:=Hm λ_ _=>rfl
theorem Jw {n:Nat} (h:i < n):(tab n F)[i]? =some (.int (F i)):=by unfold tab;rw [List.getElem?_map,List.getElem?_range h];rfl
theorem Gm {n:Nat} (h:i < n):atI (tab n F) (i:Int)=some (.int (F i)):=Dk rfl (Jw h)
theorem Vu {n:Nat} {d:Nat} {v:Int}:(tab n F).set d (.int v)=tab n (fset F d v):=by
 refine List.ext_getElem? λi=> ?_
 by_cases hi:i < n
 ·by_cases e:d=i
  ·subst e;rw [List.getElem?_set_self (by simpa using hi),Jw hi];simp [fset]
  ·rw [List.getElem?_set_ne e,Jw hi,Jw hi];have:i≠d:=λz=>e z.symm
   simp [fset,this]
 ·rw [List.getElem?_eq_none (by simp;omega),List.getElem?_eq_none (by simp;omega)]
theorem Rv {L:DH} (h:bels (G.length + 1) ds=true):freeze (G++ [A]) (.ok (.ref (G.length + 1)) (G++A:: .lst ds::L))=.ok (.fl ds) (G++ [A]):=by have:=Dt (G:=G++ [A]) (ds:=ds) (L:=L) (by simpa using h);simpa using this
theorem ZAb {L:DH} (h:bels (G.length + 1) ds=true):tidy (G++ [A]) (.ok (.ref (G.length + 1)) (G++A:: .lst ds::L))=.ok (.ref (G.length + 1)) (G++ [A,.lst ds]):=by have:=Fb (G:=G++ [A]) (ds:=ds) (L:=L) (by simpa using h);simpa using this
theorem pr:¬(("river":Str)="pump"):=by decide
structure Stp where
 h:Int
 m:Int
 r:Bool
def wy (r:Bool):Str:=if r then "river" else "pump"
def Stp.enc (s:Stp):D:=.tup [.int s.h,.int s.m,.str (wy s.r)]
@[simp] theorem ZHl {n:Nat} {st:List Stp}:bels n (st.map Stp.enc)=true:=Hm λs _=>by simp [Stp.enc]
@[simp] theorem ZG3 {r:Bool}:(wy r="pump")=(r=false):=by
 cases r
 ·exact propext ⟨λh=>rfl,λ_=>rfl⟩
 ·exact propext ⟨λh=>absurd h pr,λh=>by cases h⟩
abbrev Ssn:=Int×List Stp
def Ci (s:Ssn):D:=.tup [.int s.1,.tup (s.2.map Stp.enc)]
@[simp] theorem ZG2 {n:Nat} {ss:List Ssn}:bels n (ss.map Ci)=true:=Hm λs _=>by simp [Ci]
inductive Kd where
 | basin (brim:Int) (rule:List Ssn) (pump:Option (Nat×Nat×Int))
 | town (need rank:Int)
 | mill (most:Int)
structure Pl where
 nm:Str
 dn:Option Nat
 dl:Nat
 kd:Kd
def noPl:Pl:=⟨"",none,0,.mill 0⟩
structure Hs where
 yr:Int
 ps:List Pl
variable {h:Hs}
def Kd.txt:Kd->Str
 | .basin ..=>"basin"
 | .town ..=>"town"
 | .mill ..=>"mill"
def Kd.isB:Kd->Bool
 | .basin ..=>true
 | _=>false
def Hs.pl (h:Hs) (k:Nat):Pl:=h.ps.getD k noPl
def Hs.n (h:Hs):Nat:=h.ps.length
def Hs.dnT (h:Hs):Option Nat->Str
 | none=>"sea"
 | some d=>(h.pl d).nm
def Hs.Qh (h:Hs):Option (Nat×Nat×Int)->D
 | none=>.non
 | some (to,dl,m)=>.tup [.str (h.pl to).nm,.int dl,.int m]
def Hs.encP (h:Hs) (p:Pl):D:=match p.kd with
 | .basin b r q=>.tup [.str "basin",.str p.nm,.str (h.dnT p.dn),.int p.dl,.int b,.tup (r.map Ci),h.Qh q]
 | .town a b=>.tup [.str "town",.str p.nm,.str (h.dnT p.dn),.int p.dl,.int a,.int b]
 | .mill a=>.tup [.str "mill",.str p.nm,.str (h.dnT p.dn),.int p.dl,.int a]
def Hs.Cr (h:Hs):List D:=h.ps.map h.encP
def Hs.enc (h:Hs):D:=.tup [.int h.yr,.tup h.Cr]
def Good:Int->List Stp->Prop
 | _,[]=>True
 | t,s::r=>t<=s.h/\1<=s.m/\Good (s.h + s.m) r
structure GoodH (h:Hs):Prop where
 yr:0 < h.yr
 len:h.n<=12
 inj:∀i j,i < h.n->j < h.n->(h.pl i).nm=(h.pl j).nm->i=j
 sea:∀i,i < h.n->(h.pl i).nm≠"sea"
 dn:∀k d,k < h.n->(h.pl k).dn=some d->k < d/\d < h.n
 dl:∀k,k < h.n->(h.pl k).dl<=5
 pump:∀k b r to dl m,k < h.n->(h.pl k).kd=.basin b r (some (to,dl,m))->to < h.n/\1<=dl/\dl<=5
 brim:∀k b r q,k < h.n->(h.pl k).kd=.basin b r q->0<=b/\∀s∈r,Good 0 s.2
 town:∀k a b,k < h.n->(h.pl k).kd=.town a b->0<=a/\0<=b
theorem Hs.K6:h.Cr.length=h.n:=by simp [Hs.Cr,Hs.n]
theorem Hs.ZEw (hk:k < h.n):h.Cr[k]? =some (h.encP (h.pl k)):=by unfold Hs.Cr Hs.pl;rw [List.getElem?_map,List.getElem?_eq_getElem hk];simp [List.getD_eq_getElem?_getD,List.getElem?_eq_getElem hk]
theorem Hs.ZBa (hk:k < h.n):atI h.Cr (k:Int)=some (h.encP (h.pl k)):=Dk rfl (Hs.ZEw hk)
theorem Hs.ZDX {n:Nat} {q:Option (Nat×Nat×Int)}:bel n (h.Qh q)=true:=by
 cases q with
 | none=>rfl
 | some x=>obtain ⟨a,b,c⟩:=x;simp [Hs.Qh]
@[simp] theorem Hs.ZCH {n:Nat} {p:Pl}:bel n (h.encP p)=true:=by
 unfold Hs.encP
 cases p.kd <;> simp [Hs.ZDX]
@[simp] theorem Hs.ZHH {n:Nat}:bels n h.Cr=true:=Hm λ_ _=>Hs.ZCH
section
variable {h:Hs} {p:Pl} {G:DH}
@[simp] theorem encP0:Ak (h.encP p) (.int 0) G=.ok (.str p.kd.txt) G:=by
 unfold Hs.encP
 cases p.kd <;> simp [Kd.txt]
theorem I8:Ak h.enc (.int 1) G=.ok (.tup h.Cr) G:=by unfold Hs.enc;simp
theorem La {k:Kd}:(k.txt="basin")=(k.isB=true):=by cases k <;> simp [Kd.txt,Kd.isB] <;> decide
end
def Bd (n:Nat) (co:Nat->Nat->Int):List D:=(List.range n).map λk=>D.tup (tab 5 (co k))
def stD (n:Nat) (lv:Nat->Int) (co:Nat->Nat->Int):D:=.tup [.tup (tab n lv),.tup (Bd n co)]
@[simp] theorem ZD9 {n:Nat} :bels m (Bd n co)=true:=Hm λk _=>by simp [Gw]
@[simp] theorem ZHP {n:Nat} :(Bd n co).length=n:=by simp [Bd]
theorem tab5:tab 5 F= [.int (F 0),.int (F 1),.int (F 2),.int (F 3),.int (F 4)]:=rfl
@[simp] theorem ZD0 {n:Nat} :bel m (stD n lv co)=true:=by simp [stD]
theorem ZEc {G':DH} (h:bels G.length ds=false):tidy G (.ok (.tup ds) G')=.ok (.tup ds) G':=by unfold tidy;simp [h]
theorem ZBw (hf:∀k:Nat,k<=1000->∀G,Ar [.fl (ns.map D.int),.int k] G=.ok (.int (f k)) G):∃u:Int,(u=1∨u=1000000000000000000000000000000)/\∀G,Do [.fl (ns.map D.int)] G=.ok (.int u) G:=by
 have h0:∀G,Ar [.fl (ns.map D.int),.int 0] G=.ok (.int (f 0)) G:=hf 0 (by omega);have fz:∀G:DH,freeze G (.ok (.ref G.length) (G++ [.lst [.int 1,.int 1,.int 1000000000000000000000000000000]]))=.ok (.fl [.int 1,.int 1,.int 1000000000000000000000000000000]) G:=λG=>Dt rfl
 rcases (by omega:f 0 / 840 % 3=0∨f 0 / 840 % 3=1∨f 0 / 840 % 3=2) with h | h | h
 ·refine ⟨1,.inl rfl,λG=> ?_⟩;unfold Do Gv;rw [Bh];simp [h0,h,An,fz,Bu]
 ·refine ⟨1,.inl rfl,λG=> ?_⟩;unfold Do Gv;rw [Bh];simp [h0,h,An,fz,Bu]
 ·refine ⟨1000000000000000000000000000000,.inr rfl,λG=> ?_⟩;unfold Do Gv;rw [Bh];simp [h0,h,An,fz,Bu]
def amt (c u:Int):Int:=u * (c % 7) + c / 7 % u
theorem V5 (hu:0 < u):0<=amt c u:=by unfold amt;have h1:0<=u * (c % 7):=Int.mul_nonneg (by omega) (by omega);have h2:0<=c / 7 % u:=Int.emod_nonneg _ (by omega);omega
theorem H9 (hu:0 < u) (G:DH):Hb [.int c,.int u] G=.ok (.int (amt c u)) G:=by
 have m1:∀G,Ay (.int u) (.int (c % 7)) G=.ok (.int (u * (c % 7))) G:=λG=>Gj (by omega) (by omega)
 unfold Hb Hi;rw [Bh];simp [m1,hu,Bu,amt]
def Ir (xs:Nat->Int) (u:Int) (p:Bool):Nat->Nat->Int->List Stp
 | 0,_,_=> []
 | n + 1,j,low=>⟨low + u * (xs (1 + j) % 4),1 + u * (xs (1 + j) / 4 % 4), !(p && decide (xs (1 + j) / 16 % 2=1))⟩::Ir xs u p n (j + 1) (low + u * (xs (1 + j) % 4) + (1 + u * (xs (1 + j) / 4 % 4)))
theorem Yx (hu:0 < u) :∀(n j:Nat) (low:Int),Good low (Ir xs u p n j low)
 | 0,_,_=>trivial
 | n + 1,j,low=>by have h1:0<=u * (xs (1 + j) % 4):=Int.mul_nonneg (by omega) (by omega);have h2:0<=u * (xs (1 + j) / 4 % 4):=Int.mul_nonneg (by omega) (by omega);exact ⟨by show low<=low + _;omega,by show 1<=1 + _;omega,Yx hu n (j + 1) _⟩
theorem ZA0:∀(n j:Nat) (low:Int),∀s∈Ir xs u false n j low,s.r=true
 | 0,_,_,s,h=>by cases h
 | n + 1,j,low,s,h=>by
  rcases List.mem_cons.mp h with rfl | h
  ·simp
  ·exact ZA0 n (j + 1) _ s h
theorem ZBI {xs:Nat->Int} {u:Int} {p:Bool} {G:DH}:∀(n j:Nat) (low:Int) (acc:List Stp) (x y z:Option D),j + n<=3->acc.length + n<=10->∃x' y' z' l',
  Cp (gV 5) O8 (Bl j n) [some (.fl (tab 4 xs)),some (.int u),some (.bl p),some (.ref G.length),some (.int low),x,y,z] (G++ [.lst (acc.map Stp.enc)])=
   .nx [some (.fl (tab 4 xs)),some (.int u),some (.bl p),some (.ref G.length),l',x',y',z'] (G++ [.lst ((acc++Ir xs u p n j low).map Stp.enc)])
 | 0,j,low,acc,x,y,z,h,ha=>⟨x,y,z,some (.int low),by rw [Hl,Ec];simp [Ir]⟩
 | n + 1,j,low,acc,x,y,z,h,ha=>by
  have hj:1 + j < 4:=by omega
  have a1:atI (tab 4 xs) (1 + (j:Int))=some (.int (xs (1 + j))):=Dk (k:=1 + j) (by omega) (Jw hj);let s:Stp:=⟨low + u * (xs (1 + j) % 4),1 + u * (xs (1 + j) / 4 % 4), !(p && decide (xs (1 + j) / 16 % 2=1))⟩;obtain ⟨x',y',z',l',ih⟩:=ZBI (xs:=xs) (u:=u) (p:=p) (G:=G) n (j + 1) (s.h + s.m) (acc++ [s]) (some (.int j)) (some (.int s.m)) (some (.str (wy s.r))) (by omega) (by simp;omega);refine ⟨x',y',z',l',?_⟩
  have m1:∀G,Ay (.int u) (.int (xs (1 + j) % 4)) G=.ok (.int (u * (xs (1 + j) % 4))) G:=λG=>Gj (by omega) (by omega)
  have m2:∀G,Ay (.int u) (.int (xs (1 + j) / 4 % 4)) G=.ok (.int (u * (xs (1 + j) / 4 % 4))) G:=λG=>Gj (by omega) (by omega)
  have hal:acc.length < 1000000:=by omega
  have hb:O8 [some (.fl (tab 4 xs)),some (.int u),some (.bl p),some (.ref G.length),some (.int low),some (.int j),y,z] (G++ [.lst (acc.map Stp.enc)])=
    .nx [some (.fl (tab 4 xs)),some (.int u),some (.bl p),some (.ref G.length),some (.int (s.h + s.m)),some (.int j),some (.int s.m),some (.str (wy s.r))] (G++ [.lst ((acc++ [s]).map Stp.enc)]):=by
   unfold O8;cases p with
   | false=>simp [a1,m1,m2,Dh,G6,hal,By,s,Stp.enc,wy]
   | true=>
    by_cases h16:xs (1 + j) / 16 % 2=1
    ·simp [a1,m1,m2,h16,Dh,G6,hal,By,s,Stp.enc,wy]
    ·simp [a1,m1,m2,h16,Dh,G6,hal,By,s,Stp.enc,wy]
  rw [Gp,Dz];simp only [Ea,R.Eg,List.set,hb,Ek];have e1:((j:Int) + 1)=((j + 1:Nat):Int):=by omega
  rw [e1,ih];simp [Ir,s]
def stps (xs:Nat->Int) (u:Int) (p:Bool):List Stp:=Ir xs u p (xs 0 % 4).toNat 0 0
theorem ZBZ (G:DH):Sx [.fl (tab 4 xs),.int u,.bl p] G=.ok (.tup ((stps xs u p).map Stp.enc)) G:=by
 have hn:(xs 0 % 4).toNat<=3:=by omega
 obtain ⟨x',y',z',l',hL⟩:=ZBI (xs:=xs) (u:=u) (p:=p) (G:=G) (xs 0 % 4).toNat 0 0 [] none none none (by omega) (by simp;omega);have hL':Cp (gV 5) O8 (Bl 0 (xs 0 % 4).toNat) [some (.fl (tab 4 xs)),some (.int u),some (.bl p),some (.ref G.length),some (.int 0),none,none,none] (G++ [.lst []])=.nx [some (.fl (tab 4 xs)),some (.int u),some (.bl p),some (.ref G.length),l',x',y',z'] (G++ [.lst ((stps xs u p).map Stp.enc)]):=hL
 have a0:atI (tab 4 xs) 0=some (.int (xs 0)):=Dk (k:=0) rfl (Jw (by omega));have hr:inR (xs 0 % 4):=Em (by omega) (by omega);unfold Sx Px;rw [Bh];simp [An,Fb,a0,hr,hL',Dh,Jh]
def Fi (st:List Stp):Int:=match st with
 | []=>0
 | s::r=>(if s.r then 0 else s.m) + Fi r
theorem ZA6 {c:D} {G:DH}:∀(st:List Stp) (v:Int) (x y z:Option D),∃x' y' z',Cp (Es 3 (Dc (gV 2) (Dc (gV 3) (Dc (gV 4) Fx)))) Sv (st.map Stp.enc) [some c,some (.int v),x,y,z] G=.nx [some c,some (.int (v + Fi st)),x',y',z'] G
 | [],v,x,y,z=>⟨x,y,z,by simp [Fi,Ec]⟩
 | s::st,v,x,y,z=>by
  let v1:Int:=v + if s.r then 0 else s.m
  obtain ⟨x',y',z',ih⟩:=ZA6 (c:=c) (G:=G) st v1 (some (.int s.h)) (some (.int s.m)) (some (.str (wy s.r)));refine ⟨x',y',z',?_⟩;have hb:Sv [some c,some (.int v),some (.int s.h),some (.int s.m),some (.str (wy s.r))] G=.nx [some c,some (.int v1),some (.int s.h),some (.int s.m),some (.str (wy s.r))] G:=by
   unfold Sv
   cases e:s.r <;> simp [v1,e]
  rw [List.map_cons,Dz];simp [Stp.enc,hb];rw [ih];simp [Fi,v1,Int.add_assoc]
theorem ZDQ {st:List Stp} (G:DH):Pr [.tup (st.map Stp.enc)] G=.ok (.int (Fi st)) G:=by obtain ⟨x',y',z',hL⟩:=ZA6 (c:=.tup (st.map Stp.enc)) (G:=G) st 0 none none none;unfold Pr R9;rw [Bh];simp at hL;simp [hL,Bu]
theorem ZCS (hf:∀k:Nat,k<=1000->∀G,Ar [.fl (ns.map D.int),.int k] G=.ok (.int (f k)) G):∃y:Int,(1<=y/\y<=24)/\∀G,Hn [.fl (ns.map D.int)] G=.ok (.int y) G:=by have h1:∀G,Ar [.fl (ns.map D.int),.int 1] G=.ok (.int (f 1)) G:=hf 1 (by omega);refine ⟨1 + f 1 % 4,by omega,λG=> ?_⟩;unfold Hn Ol;rw [Bh];simp [h1,Bu]
def Dm (lat:Nat->Int) (cel:Nat->Nat->Int) (u:Int) (p:Bool) (yr:Int):Nat->Nat->Int->List Ssn
 | 0,_,_=> []
 | m + 1,j,bg=>if j=0∨(lat j % 2=1/\bg + 1 < yr) then (if 0 < j then bg + 1 + lat j / 2 % (yr - bg - 1) else bg,stps (cel j) u p)::Dm lat cel u p yr m (j + 1) (if 0 < j then bg + 1 + lat j / 2 % (yr - bg - 1) else bg)
  else Dm lat cel u p yr m (j + 1) bg
theorem V8 {lat:Nat->Int} {cel:Nat->Nat->Int} (hu:0 < u) :∀(m j:Nat) (bg:Int),∀s∈Dm lat cel u p yr m j bg,Good 0 s.2/\(p=false->∀t∈s.2,t.r=true)
 | 0,_,_,s,h=>by cases h
 | m + 1,j,bg,s,h=>by
  unfold Dm at h;split at h
  ·rcases List.mem_cons.mp h with rfl | h
   ·refine ⟨Yx hu _ _ _,λhp=> ?_⟩;subst hp;exact ZA0 _ _ _
   ·exact V8 hu m (j + 1) _ s h
  ·exact V8 hu m (j + 1) _ s h
theorem R8 {lat:Nat->Int} {cel:Nat->Nat->Int} {u:Int} {p:Bool} {yr:Int}:∀(m j:Nat) (bg:Int),0 < j->bg < yr->(∀s∈Dm lat cel u p yr m j bg,bg < s.1/\s.1 < yr)/\(Dm lat cel u p yr m j bg).Pairwise (λa b:Ssn=>a.1 < b.1)
 | 0,_,_,_,_=>⟨λs h=>(nomatch h),List.Pairwise.nil⟩
 | m + 1,j,bg,hj,hb=>by
  unfold Dm;split
  ·rename_i hc;have hc2:bg + 1 < yr:=by
    rcases hc with z | z
    ·omega
    ·exact z.2
   have h1:0<=lat j / 2 % (yr - bg - 1):=Int.emod_nonneg _ (by omega);have h2:lat j / 2 % (yr - bg - 1) < yr - bg - 1:=Int.emod_lt_of_pos _ (by omega);obtain ⟨i1,i2⟩:=R8 (lat:=lat) (cel:=cel) (u:=u) (p:=p) (yr:=yr) m (j + 1) (bg + 1 + lat j / 2 % (yr - bg - 1)) (by omega) (by omega);refine ⟨λs hs=> ?_,List.pairwise_cons.mpr ⟨λs hs=>(i1 s hs).1,i2⟩⟩;rcases List.mem_cons.mp hs with rfl | hs
   ·exact ⟨by show bg < bg + 1 + _;omega,by show bg + 1 + _ < yr;omega⟩
   ·have:=i1 s hs;omega
  ·exact R8 m (j + 1) bg (by omega) hb
theorem Kh {te:DE} {n:Nat} {F:Nat->D} (h:∀k:Nat,k < n->te (S.set 0 (some (.int k))) G=.ok (F k) G):Cu (gV 0) Bm te S (Bl 0 n) G=.ok ((List.range n).map F) G:=by
 have e:Bl 0 n=(List.range n).map λ(i:Nat)=>D.int (i:Int):=by
  refine List.ext_getElem? λi=> ?_
  simp [Bl]
 rw [ZBH (F:=λd=>match d with | .int i=>some (F i.toNat) | _=>none) (λq hq=> ?_)]
 ·congr 1
  rw [e,List.filterMap_map];show (List.range n).filterMap (λ(i:Nat)=>some (F ((i:Int).toNat)))=_;rw [List.filterMap_eq_map'];simp
 ·rw [e] at hq;obtain ⟨i,hi,rfl⟩:=List.mem_map.mp hq;exact ⟨S.set 0 (some (.int i)),by simp,.inr ⟨rfl,F i,h i (List.mem_range.mp hi),by simp⟩⟩
def Kw:Nat->Int
 | 0=>1
 | 1=>48
 | 2=>2304
 | _=>110592
def Nq:Nat->Int
 | 0=>1
 | 1=>64
 | 2=>4096
 | _=>262144
theorem Ys (hf:∀k:Nat,k<=1000->∀G,Ar [.fl (ns.map D.int),.int k] G=.ok (.int (f k)) G) (hb:b<=900) (hj:j < 4) (G:DH):
  Cu (gV 0) Bm Vf [none,some (.fl (ns.map D.int)),some (.int b),some (.int j)] (Bl 0 4) G=.ok (tab 4 λk=>f (b + 5 + (3 * j + k) % 6) / (1 + 7 * ((j:Int) / 2))) G:=
 Kh (n:=4) (F:=λk=>.int (f (b + 5 + (3 * j + k) % 6) / (1 + 7 * ((j:Int) / 2)))) λk hk=>by
  have h1:=hf (b + 5 + (3 * j + k) % 6) (by omega) G;have e1:((b + 5 + (3 * j + k) % 6:Nat):Int)=(b:Int) + 5 + (3 * (j:Int) + k) % 6:=by omega
  rw [e1] at h1;unfold Vf
  rcases (by omega:j=0∨j=1∨j=2∨j=3) with rfl | rfl | rfl | rfl <;> simp at h1 ⊢ <;> simp [h1]
theorem ZCb (hf:∀k:Nat,k<=1000->∀G,Ar [.fl (ns.map D.int),.int k] G=.ok (.int (f k)) G) (hb:b<=900) (hj:j < 4) (G:DH):
  Cu (gV 0) Bm Tt [none,some (.fl (ns.map D.int)),some (.int b),some (.int j)] (Bl 0 4) G=.ok (tab 4 λk=>f (b + 5 + k) / Nq j) G:=
 Kh (n:=4) (F:=λk=>.int (f (b + 5 + k) / Nq j)) λk hk=>by
  have h1:=hf (b + 5 + k) (by omega) G;have e1:((b + 5 + k:Nat):Int)=(b:Int) + 5 + k:=by omega
  rw [e1] at h1;have fz:freeze G (.ok (.ref G.length) (G++ [.lst [.int 1,.int 64,.int 4096,.int 262144]]))=.ok (.fl [.int 1,.int 64,.int 4096,.int 262144]) G:=Dt rfl;unfold Tt
  rcases (by omega:j=0∨j=1∨j=2∨j=3) with rfl | rfl | rfl | rfl <;> simp [h1,An,fz,Nq]
theorem ZB3 (hf:∀k:Nat,k<=1000->∀G,Ar [.fl (ns.map D.int),.int k] G=.ok (.int (f k)) G) (hb:b<=900) (hj:j < 4):∃(lat:Int) (xs:Nat->Int),∀(G:DH) (bg:Int) (acc:List Ssn) (x y:Option D),acc.length<=10->bg < yr->∃bg' acc',
   Hx [some (.fl (ns.map D.int)),some (.int b),some (.int u),some (.bl p),some (.int yr),some (.ref G.length),some (.int bg),some (.int j),x,y] (G++ [.lst (acc.map Ci)])=
    .nx [some (.fl (ns.map D.int)),some (.int b),some (.int u),some (.bl p),some (.int yr),some (.ref G.length),some (.int bg'),some (.int j),some (.int lat),some (.fl (tab 4 xs))] (G++ [.lst (acc'.map Ci)])/\
   ((j=0∨(lat % 2=1/\bg + 1 < yr))->bg'=(if 0 < j then bg + 1 + lat / 2 % (yr - bg - 1) else bg)/\acc'=acc++ [(bg',stps xs u p)])/\
   (¬(j=0∨(lat % 2=1/\bg + 1 < yr))->bg'=bg/\acc'=acc):=by
 obtain ⟨tp,ht⟩:=Ze (ns:=ns);have h4:=hf (b + 4) (by omega);have e4:((b + 4:Nat):Int)=(b:Int) + 4:=by omega
 rw [e4] at h4;let lat:Int:=if tp then f (b + 4) / Kw j else f (b + 4) * 48271 * ((j:Int) * j + 1) % 10007
 let xs:Nat->Int:=if tp then λk=>f (b + 5 + k) / Nq j else λk=>f (b + 5 + (3 * j + k) % 6) / (1 + 7 * ((j:Int) / 2))
 refine ⟨lat,xs,λG bg acc x y ha hbg=> ?_⟩;have hr:inR 4:=Em (by omega) (by omega);have hal:acc.length < 1000000:=by omega
 have fz:∀ds:List D,(∀m,bels m ds=true)->freeze (G++ [.lst (acc.map Ci)]) (.ok (.ref (G.length + 1)) (G++ [.lst (acc.map Ci),.lst ds]))=.ok (.fl ds) (G++ [.lst (acc.map Ci)]):=λds h=>Rv (h _)
 have cs1:∀a b c d e f' g h i j':Option D,Bb 1 [0,1,7] [a,b,c,d,e,f',g,h,i,j']= [none,a,b,h]:=λ_ _ _ _ _ _ _ _ _ _=>rfl
 have mj:∀G,Ay (.int (j:Int)) (.int (j:Int)) G=.ok (.int ((j:Int) * j)) G:=λG=>Gg (by omega) (by omega)
 have mj2:∀G,Ay (.int (f (b + 4) * 48271)) (.int ((j:Int) * j + 1)) G=.ok (.int (f (b + 4) * 48271 * ((j:Int) * j + 1))) G:=λG=>Gj (by
   have:=Int.mul_nonneg (show (0:Int)<=j by omega) (show (0:Int)<=j by omega);omega) (by
   rcases (by omega:j=0∨j=1∨j=2∨j=3) with rfl | rfl | rfl | rfl <;> decide)
 have head:Hx [some (.fl (ns.map D.int)),some (.int b),some (.int u),some (.bl p),some (.int yr),some (.ref G.length),some (.int bg),some (.int j),x,y] (G++ [.lst (acc.map Ci)])=
   Qs [some (.fl (ns.map D.int)),some (.int b),some (.int u),some (.bl p),some (.int yr),some (.ref G.length),some (.int bg),some (.int j),some (.int lat),some (.fl (tab 4 xs))] (G++ [.lst (acc.map Ci)]):=by
  unfold Hx ZAs Zk;cases htp:tp with
  | false=>
   have e1:lat=f (b + 4) * 48271 * ((j:Int) * j + 1) % 10007:=by simp [lat,htp]
   have e2:xs=λk=>f (b + 5 + (3 * j + k) % 6) / (1 + 7 * ((j:Int) / 2)):=by simp [xs,htp]
   rw [e1,e2];rw [htp] at ht;simp [h4,mj,mj2,hr,cs1,Ys hf hb hj,An,fz,ht]
  | true=>
   have e1:lat=f (b + 4) / Kw j:=by simp [lat,htp]
   have e2:xs=λk=>f (b + 5 + k) / Nq j:=by simp [xs,htp]
   rw [e1,e2];rw [htp] at ht;have dv:atI [D.int 1,D.int 48,D.int 2304,D.int 110592] (j:Int)=some (.int (Kw j)):=by rcases (by omega:j=0∨j=1∨j=2∨j=3) with rfl | rfl | rfl | rfl <;> rfl
   have dd:∀G',Br (.int (f (b + 4))) (.int (Kw j)) G'=.ok (.int (f (b + 4) / Kw j)) G':=λG'=>by rcases (by omega:j=0∨j=1∨j=2∨j=3) with rfl | rfl | rfl | rfl <;> simp [Kw]
   have fz4:freeze (G++ [.lst (acc.map Ci)]) (.ok (.ref (G.length + 1)) (G++ [.lst (acc.map Ci),.lst [D.int 1,D.int 48,D.int 2304,D.int 110592]]))=.ok (.fl [D.int 1,D.int 48,D.int 2304,D.int 110592]) (G++ [.lst (acc.map Ci)]):=Rv rfl;simp [h4,mj,mj2,hr,cs1,Ys hf hb hj,An,fz,ht,fz4,dv,dd,ZCb hf hb hj]
 rw [head]
 clear_value lat xs
 by_cases hc:j=0∨(lat % 2=1/\bg + 1 < yr)
 ·refine ⟨_,_,?_,λ_=>⟨rfl,rfl⟩,λz=>absurd hc z⟩;unfold Qs;by_cases h0:j=0
  ·subst h0;simp [ZBZ,By,Dh,G6,hal,Ci]
  ·have hc2:lat % 2=1/\bg + 1 < yr:=by
    rcases hc with z | z
    ·exact absurd z h0
    ·exact z
   have hj0:0 < j:=by omega
   have hp:0 < yr - bg - 1:=by omega
   have hp3:1 < yr - bg:=by omega
   simp [h0,hc2.1,hc2.2,hj0,hp3,ZBZ,By,Dh,G6,hal,Ci]
 ·refine ⟨bg,acc,?_,λz=>absurd z hc,λ_=>⟨rfl,rfl⟩⟩;have h0:¬j=0:=λz=>hc (.inl z)
  unfold Qs;by_cases h1:lat % 2=1
  ·have h2:¬bg + 1 < yr:=λz=>hc (.inr ⟨h1,z⟩)
   simp [h0,h1,h2]
  ·simp [h0,h1]
theorem V6 {lat:Nat->Int} {cel:Nat->Nat->Int}
  (hd:∀j:Nat,j < 4->∀(G:DH) (bg:Int) (acc:List Ssn) (x y:Option D),acc.length<=10->bg < yr->∃bg' acc',
   Hx [some (.fl (ns.map D.int)),some (.int b),some (.int u),some (.bl p),some (.int yr),some (.ref G.length),some (.int bg),some (.int j),x,y] (G++ [.lst (acc.map Ci)])=
    .nx [some (.fl (ns.map D.int)),some (.int b),some (.int u),some (.bl p),some (.int yr),some (.ref G.length),some (.int bg'),some (.int j),some (.int (lat j)),some (.fl (tab 4 (cel j)))] (G++ [.lst (acc'.map Ci)])/\
   ((j=0∨(lat j % 2=1/\bg + 1 < yr))->bg'=(if 0 < j then bg + 1 + lat j / 2 % (yr - bg - 1) else bg)/\acc'=acc++ [(bg',stps (cel j) u p)])/\
   (¬(j=0∨(lat j % 2=1/\bg + 1 < yr))->bg'=bg/\acc'=acc)) {G:DH}:∀(m j:Nat) (bg:Int) (acc:List Ssn) (x y z:Option D),j + m=4->acc.length<=j->bg < yr->∃x' y' z' w',
   Cp (gV 7) Hx (Bl j m) [some (.fl (ns.map D.int)),some (.int b),some (.int u),some (.bl p),some (.int yr),some (.ref G.length),some (.int bg),x,y,z] (G++ [.lst (acc.map Ci)])=
    .nx [some (.fl (ns.map D.int)),some (.int b),some (.int u),some (.bl p),some (.int yr),some (.ref G.length),x',y',z',w'] (G++ [.lst ((acc++Dm lat cel u p yr m j bg).map Ci)])
 | 0,j,bg,acc,x,y,z,e,ha,hb=>⟨some (.int bg),x,y,z,by rw [Hl,Ec];simp [Dm]⟩
 | m + 1,j,bg,acc,x,y,z,e,ha,hb=>by
  obtain ⟨bg',acc',h1,h2,h3⟩:=hd j (by omega) G bg acc y z (by omega) hb;have e1:((j:Int) + 1)=((j + 1:Nat):Int):=by omega
  by_cases hc:j=0∨(lat j % 2=1/\bg + 1 < yr)
  ·obtain ⟨r1,r2⟩:=h2 hc;have hbg:bg' < yr:=by
    rw [r1];split
    ·have h4:bg + 1 < yr:=by
      rcases hc with z | z
      ·omega
      ·exact z.2
     have h5:lat j / 2 % (yr - bg - 1) < yr - bg - 1:=Int.emod_lt_of_pos _ (by omega);omega
    ·exact hb
   obtain ⟨x',y',z',w',ih⟩:=V6 hd (G:=G) m (j + 1) bg' acc' (some (.int j)) (some (.int (lat j))) (some (.fl (tab 4 (cel j)))) (by omega) (by rw [r2];simp;omega) hbg;refine ⟨x',y',z',w',?_⟩;rw [Gp,Dz];simp only [Ea,R.Eg,List.set,h1,Ek];have er:Dm lat cel u p yr (m + 1) j bg=(bg',stps (cel j) u p)::Dm lat cel u p yr m (j + 1) bg':=by rw [r1];exact if_pos hc
   rw [e1,ih,r2,er];simp
  ·obtain ⟨r1,r2⟩:=h3 hc;obtain ⟨x',y',z',w',ih⟩:=V6 hd (G:=G) m (j + 1) bg' acc' (some (.int j)) (some (.int (lat j))) (some (.fl (tab 4 (cel j)))) (by omega) (by rw [r2];omega) (by rw [r1];exact hb);refine ⟨x',y',z',w',?_⟩;rw [Gp,Dz];simp only [Ea,R.Eg,List.set,h1,Ek];rw [e1,ih,r2,r1]
   conv=>rhs;unfold Dm
   rw [if_neg hc]
structure RuleOk (yr:Int) (p:Bool) (r:List Ssn):Prop where
 good:∀s∈r,Good 0 s.2/\(p=false->∀t∈s.2,t.r=true)
 cons:∃st rest,r=(0,st)::rest
 asc:r.Pairwise (λa b:Ssn=>a.1 < b.1)
 yr:∀s∈r,0<=s.1/\s.1 < yr
 len:r.length<=4
theorem Uk {lat:Nat->Int} {cel:Nat->Nat->Int} {u:Int} {p:Bool} {yr:Int}:∀(m j:Nat) (bg:Int),(Dm lat cel u p yr m j bg).length<=m
 | 0,_,_=>Nat.le_refl _
 | m + 1,j,bg=>by
  unfold Dm;split
  ·have:=Uk (lat:=lat) (cel:=cel) (u:=u) (p:=p) (yr:=yr) m (j + 1) (if 0 < j then bg + 1 + lat j / 2 % (yr - bg - 1) else bg);simp only [List.length_cons];omega
  ·have:=Uk (lat:=lat) (cel:=cel) (u:=u) (p:=p) (yr:=yr) m (j + 1) bg;omega
theorem ZAM (hf:∀k:Nat,k<=1000->∀G,Ar [.fl (ns.map D.int),.int k] G=.ok (.int (f k)) G) (hyr:1<=yr/\yr<=24) (cy:∀G,Hn [.fl (ns.map D.int)] G=.ok (.int yr) G) (hb:b<=900) (hu:0 < u) :
  ∃r:List Ssn,RuleOk yr p r/\∀G,Tc [.fl (ns.map D.int),.int b,.int u,.bl p] G=.ok (.tup (r.map Ci)) G:=by
 have ex:∀j:Nat,∃q:Int×(Nat->Int),j < 4->∀(G:DH) (bg:Int) (acc:List Ssn) (x y:Option D),acc.length<=10->bg < yr->∃bg' acc',
   Hx [some (.fl (ns.map D.int)),some (.int b),some (.int u),some (.bl p),some (.int yr),some (.ref G.length),some (.int bg),some (.int j),x,y] (G++ [.lst (acc.map Ci)])=
    .nx [some (.fl (ns.map D.int)),some (.int b),some (.int u),some (.bl p),some (.int yr),some (.ref G.length),some (.int bg'),some (.int j),some (.int q.1),some (.fl (tab 4 q.2))] (G++ [.lst (acc'.map Ci)])/\
   ((j=0∨(q.1 % 2=1/\bg + 1 < yr))->bg'=(if 0 < j then bg + 1 + q.1 / 2 % (yr - bg - 1) else bg)/\acc'=acc++ [(bg',stps q.2 u p)])/\
   (¬(j=0∨(q.1 % 2=1/\bg + 1 < yr))->bg'=bg/\acc'=acc):=λj=>by
  by_cases hj:j < 4
  ·obtain ⟨lat,xs,h⟩:=ZB3 (u:=u) (yr:=yr) (p:=p) hf hb hj;exact ⟨(lat,xs),λ_=>h⟩
  ·exact ⟨(0,λ_=>0),λz=>absurd z hj⟩
 let lat:Nat->Int:=λj=>(ex j).choose.1
 let cel:Nat->Nat->Int:=λj=>(ex j).choose.2
 have hd:=λ(j:Nat) (hj:j < 4)=>(ex j).choose_spec hj
 refine ⟨Dm lat cel u p yr 4 0 0,⟨V8 hu 4 0 0,?_,?_,?_,Uk 4 0 0⟩,λG=> ?_⟩
 ·unfold Dm;rw [if_pos (.inl rfl)];exact ⟨_,_,rfl⟩
 ·unfold Dm;rw [if_pos (.inl rfl)];obtain ⟨i1,i2⟩:=R8 (lat:=lat) (cel:=cel) (u:=u) (p:=p) (yr:=yr) 3 1 0 (by omega) (by omega);exact List.pairwise_cons.mpr ⟨λs hs=>(i1 s hs).1,i2⟩
 ·unfold Dm;rw [if_pos (.inl rfl)];obtain ⟨i1,i2⟩:=R8 (lat:=lat) (cel:=cel) (u:=u) (p:=p) (yr:=yr) 3 1 0 (by omega) (by omega);intro s hs;rcases List.mem_cons.mp hs with rfl | hs
  ·exact ⟨Int.le_refl _,by show (0:Int) < yr;omega⟩
  ·have:=i1 s hs;omega
 ·obtain ⟨x',y',z',w',hL⟩:=V6 (lat:=lat) (cel:=cel) hd (G:=G) 4 0 0 [] none none none (by omega) (by simp) (by omega);have hL':Cp (gV 7) Hx (Bl 0 4) [some (.fl (ns.map D.int)),some (.int b),some (.int u),some (.bl p),some (.int yr),some (.ref G.length),some (.int 0),none,none,none] (G++ [.lst []])=.nx [some (.fl (ns.map D.int)),some (.int b),some (.int u),some (.bl p),some (.int yr),some (.ref G.length),x',y',z',w'] (G++ [.lst ((Dm lat cel u p yr 4 0 0).map Ci)]):=hL
  have hr:inR 4:=Em (by omega) (by omega);generalize Dm lat cel u p yr 4 0 0=rl at hL';unfold Tc Qm;rw [Bh];simp [cy,An,Fb,hr,hL',Dh,Jh]
def Xb:List Nat:=("abcdefghijklmnopqrstuvwxyz":Str).cps.toList
def Vv:List Nat:=("abcdefghijkl":Str).cps.toList
theorem ZFu:∀i,i < 26->Xb[i]? =some (97 + i):=by decide +kernel
theorem ZDY:∀i,i < 12->Vv[i]? =some (97 + i):=by decide +kernel
def De (l:List Nat):Str:=⟨l.toArray⟩
theorem ZAl {l':List Nat} (h:De l=De l'):l=l':=by have h1:=congrArg (λs:Str=>s.cps.toList) h;simpa [De] using h1
theorem ZEz {l':List Nat}:De l++De l'=De (l++l'):=by show Str.append _ _=_;unfold Str.append De;simp
theorem ZAN {s:Str} (h:s.cps.toList=l):s=De l:=by obtain ⟨a⟩:=s;unfold De;simp only at h;rw [<-h]
theorem ZFm {o:Nat} {n:Int}:Ip ⟨#[o]⟩ n=De (List.replicate n.toNat o):=by
 refine ZAN ?_;rw [ZDy];show (List.replicate n.toNat [o]).flatten=_;generalize n.toNat=m
 induction m with
 | zero=>rfl
 | succ m ih=>rw [List.replicate_succ,List.flatten_cons,ih,List.replicate_succ];rfl
def ocF (c:Int):Nat:=97 + (c / 21 % 26).toNat
def tcF (c:Int) (k:Nat):Nat:=97 + ((5 * (k:Int) + c / 546) % 12).toNat
def Dy (c:Int) (n k:Nat):List Nat:=if c % 3=1/\n < 9 then List.replicate (k + 1) (ocF c) else if c % 3=2 then tcF c k::List.replicate (c / 3 % 7).toNat (ocF c) else List.replicate (c / 3 % 7).toNat (ocF c)++tcF c k::List.replicate (6 - (c / 3 % 7)).toNat (ocF c)
theorem ZGK {n:Nat} (hn:n<=12) (hk:k < n) (G:DH):Rj [.int c,.int k,.int n] G=.ok (.str (De (Dy c n k))) G:=by
 have a1:atI Xb (c / 21 % 26)=some (ocF c):=Dk (k:=(c / 21 % 26).toNat) (by omega) (ZFu _ (by omega));have a2:atI Vv ((5 * (k:Int) + c / 546) % 12)=some (tcF c k):=Dk (k:=((5 * (k:Int) + c / 546) % 12).toNat) (by omega) (ZDY _ (by omega));have l1:("abcdefghijklmnopqrstuvwxyz":Str).length<=1000000:=by decide +kernel
 have l2:("abcdefghijkl":Str).length<=1000000:=by decide +kernel
 have ho:∀m:Int,-1000<=m->m<=1000->∀G,Ay (.str ⟨#[ocF c]⟩) (.int m) G=.ok (.str (De (List.replicate m.toNat (ocF c)))) G:=λm h1 h2 G=>by rw [ZEr ⟨h1,h2,by show (#[ocF c]).size<=1000;simp⟩,ZFm]
 have e1:∀G,Ak (.str ("abcdefghijklmnopqrstuvwxyz":Str)) (.int (c / 21 % 26)) G=R.ok (.str ⟨#[ocF c]⟩) G:=λG=>by
  rw [Le,if_pos l1]
  show (match atI Xb (c / 21 % 26) with | some c=>R.ok (sgn c) G | none=>.bad)=_
  rw [a1]
  rfl
 have e2:∀G,Ak (.str ("abcdefghijkl":Str)) (.int ((5 * (k:Int) + c / 546) % 12)) G=R.ok (.str (De [tcF c k])) G:=λG=>by
  rw [Le,if_pos l2]
  show (match atI Vv ((5 * (k:Int) + c / 546) % 12) with | some c=>R.ok (sgn c) G | none=>.bad)=_
  rw [a2]
  rfl
 have hadd:∀(l l':List Nat) (G:DH),l.length + l'.length<=1000000->Am (.str (De l)) (.str (De l')) G=.ok (.str (De (l++l'))) G:=λl l' G h=>by
  have e:Am (.str (De l)) (.str (De l')) G=if (De l).length + (De l').length<=1000000 then .ok (.str (De l++De l')) G else .bad:=rfl
  rw [e,if_pos (by show l.toArray.size + l'.toArray.size<=1000000;simpa using h),ZEz]
 unfold Rj Qe;rw [Bh];by_cases h1:c % 3=1
 ·by_cases h9:n < 9
  ·have en:Dy c n k=List.replicate (k + 1) (ocF c):=if_pos ⟨h1,h9⟩;have hk2:=ho ((k:Int) + 1) (by omega) (by omega);have ek:((k:Int) + 1).toNat=k + 1:=by omega
   rw [ek] at hk2;rw [en];have h9':(n:Int) < 9:=by omega
   simp [-Le,e1,h1,h9',hk2,Bu]
  ·have en:Dy c n k=List.replicate (c / 3 % 7).toNat (ocF c)++tcF c k::List.replicate (6 - (c / 3 % 7)).toNat (ocF c):=by unfold Dy;rw [if_neg (λz=>h9 z.2),if_neg (by omega)]
   have r1:=ho (c / 3 % 7) (by omega) (by omega);have r2:=ho (6 - (c / 3 % 7)) (by omega) (by omega);have d1:=λG=>hadd (List.replicate (c / 3 % 7).toNat (ocF c)) [tcF c k] G (by simp;omega)
   have d2:=λG=>hadd (List.replicate (c / 3 % 7).toNat (ocF c)++ [tcF c k]) (List.replicate (6 - (c / 3 % 7)).toNat (ocF c)) G (by simp;omega)
   have ea:List.replicate (c / 3 % 7).toNat (ocF c)++ [tcF c k]++List.replicate (6 - (c / 3 % 7)).toNat (ocF c)=Dy c n k:=by rw [en];simp
   rw [ea] at d2;have h9':¬(n:Int) < 9:=by omega
   simp [-Le,e1,e2,h1,h9',r1,r2,d1,d2,Bu]
 ·by_cases h2:c % 3=2
  ·have en:Dy c n k=tcF c k::List.replicate (c / 3 % 7).toNat (ocF c):=by unfold Dy;rw [if_neg (λz=>h1 z.1),if_pos h2]
   have r1:=ho (c / 3 % 7) (by omega) (by omega);have d1:=λG=>hadd [tcF c k] (List.replicate (c / 3 % 7).toNat (ocF c)) G (by simp;omega)
   have ea: [tcF c k]++List.replicate (c / 3 % 7).toNat (ocF c)=Dy c n k:=by rw [en];rfl
   rw [ea] at d1;simp [-Le,e1,e2,h2,r1,d1,Bu]
  ·have en:Dy c n k=List.replicate (c / 3 % 7).toNat (ocF c)++tcF c k::List.replicate (6 - (c / 3 % 7)).toNat (ocF c):=by unfold Dy;rw [if_neg (λz=>h1 z.1),if_neg h2]
   have r1:=ho (c / 3 % 7) (by omega) (by omega);have r2:=ho (6 - (c / 3 % 7)) (by omega) (by omega);have d1:=λG=>hadd (List.replicate (c / 3 % 7).toNat (ocF c)) [tcF c k] G (by simp;omega)
   have d2:=λG=>hadd (List.replicate (c / 3 % 7).toNat (ocF c)++ [tcF c k]) (List.replicate (6 - (c / 3 % 7)).toNat (ocF c)) G (by simp;omega)
   have ea:List.replicate (c / 3 % 7).toNat (ocF c)++ [tcF c k]++List.replicate (6 - (c / 3 % 7)).toNat (ocF c)=Dy c n k:=by rw [en];simp
   rw [ea] at d2;simp [-Le,e1,e2,h1,h2,r1,r2,d1,d2,Bu]
theorem ZAv {k':Nat} (hk:k < 12) (hk':k' < 12) (h:tcF c k=tcF c k'):k=k':=by unfold tcF at h;omega
theorem ZE3 {n k':Nat} (hn:n<=12) (hk:k < n) (hk':k' < n) (h:Dy c n k=Dy c n k'):k=k':=by
 unfold Dy at h;split at h
 ·have:=congrArg List.length h;simp at this;exact this
 ·split at h
  ·exact ZAv (by omega) (by omega) (List.cons.inj h).1
  ·have:=List.append_cancel_left h;exact ZAv (by omega) (by omega) (List.cons.inj this).1
theorem ZCL:("sea":Str)=De [115,101,97]:=by decide +kernel
theorem ZDt {n:Nat}:De (Dy c n k)≠"sea":=λh=>by
 rw [ZCL] at h;have h:=ZAl h;unfold Dy at h;split at h
 ·have h1:∀x∈ [115,101,97],x=ocF c:=λx hx=>by rw [<-h] at hx;exact List.eq_of_mem_replicate hx
  have a:=h1 115 (by simp);have b:=h1 101 (by simp);omega
 ·split at h
  ·have:=(List.cons.inj h).1;unfold tcF at this;omega
  ·have:=congrArg List.length h;simp at this;omega
theorem M7 {te:DE} {S:DSt} {E:α->D} {F:α->D} {G:DH}:∀{l:List α},(∀a∈l,te (S.set 0 (some (E a))) G=.ok (F a) G)->Cu (gV 0) Bm te S (l.map E) G=.ok (l.map F) G
 | [],_=>rfl
 | a::l,h=>by
  have h1:=h a (by simp);have ih:=M7 (te:=te) (S:=S) (E:=E) (F:=F) (G:=G) (l:=l) λb hb=>h b (List.mem_cons_of_mem _ hb)
  rw [List.map_cons,Qy];simp [h1,ih]
def Bp (nm:Nat->Str) (n:Nat):List D:=(List.range n).map λk=>.str (nm k)
theorem Qj {n:Nat} (h:k < n):atI (Bp nm n) (k:Int)=some (.str (nm k)):=Dk rfl (by simp [Bp,h])
theorem Nf {n:Nat}:(Bp nm n).length=n:=by simp [Bp]
@[simp] theorem ZFz {n:Nat}:bels m (Bp nm n)=true:=Hm λ_ _=>rfl
def H8 (nm:Nat->Str):Option (Nat×Nat×Int)->D
 | none=>.non
 | some (to,dl,m)=>.tup [.str (nm to),.int dl,.int m]
@[simp] theorem ZHc {q:Option (Nat×Nat×Int)}:bel m (H8 nm q)=true:=by
 cases q with
 | none=>rfl
 | some q=>obtain ⟨a,b,c⟩:=q;simp [H8]
theorem ZGY (hf:∀k:Nat,k<=1000->∀G,Ar [.fl (ns.map D.int),.int k] G=.ok (.int (f k)) G) (hyr:1<=yr/\yr<=24) (cy:∀G,Hn [.fl (ns.map D.int)] G=.ok (.int yr) G) (hu:0 < u) (cu:∀G,Do [.fl (ns.map D.int)] G=.ok (.int u) G) {n:Nat} (hb:b<=900) (hk:k < n) (hn:n<=12) {d:Str} {dl:Int}:
  ∃(r:List Ssn) (q:Option (Nat×Nat×Int)),RuleOk yr q.isSome r/\(∀to dl m,q=some (to,dl,m)->to < n/\1<=dl/\dl<=5)/\
   ∀G,Ls [.fl (ns.map D.int),.int b,.int k,.fl (Bp nm n),.tup [.str d,.int dl]] G=.ok (.tup [.str "basin",.str (nm k),.str d,.int dl,.int (amt (f (b + 3)) u),.tup (r.map Ci),H8 nm q]) G:=by
 have h11:∀G,Ar [.fl (ns.map D.int),.int ((b:Int) + 11)] G=.ok (.int (f (b + 11))) G:=λG=>by have:=hf (b + 11) (by omega) G;rwa [show ((b + 11:Nat):Int)=(b:Int) + 11 by omega] at this
 have h3:∀G,Ar [.fl (ns.map D.int),.int ((b:Int) + 3)] G=.ok (.int (f (b + 3))) G:=λG=>by have:=hf (b + 3) (by omega) G;rwa [show ((b + 3:Nat):Int)=(b:Int) + 3 by omega] at this
 have ak:atI (Bp nm n) (k:Int)=some (.str (nm k)):=Qj hk;have fu:∀G,freeze G (.ok (.int u) G)=.ok (.int u) G:=λG=>Ky rfl
 generalize f (b + 11)=c at h11;by_cases hp:1 < n/\c % 2=1
 ·obtain ⟨r,hr,cr⟩:=ZAM (ns:=ns) (f:=f) hf hyr cy hb hu (p:=true);obtain ⟨st,rest,er⟩:=hr.cons;have hx0:0<=c / 2 % ((n:Int) - 1):=Int.emod_nonneg _ (by omega);have ht0:0<=((k:Int) + 1 + c / 2 % ((n:Int) - 1)) % n:=Int.emod_nonneg _ (by omega);have ht1:((k:Int) + 1 + c / 2 % ((n:Int) - 1)) % n < n:=Int.emod_lt_of_pos _ (by omega);generalize ht:((k:Int) + 1 + c / 2 % ((n:Int) - 1)) % n=t at ht0 ht1;have at_:atI (Bp nm n) t=some (.str (nm t.toNat)):=by have:=Qj (nm:=nm) (n:=n) (k:=t.toNat) (by omega);rwa [show ((t.toNat:Nat):Int)=t by omega] at this
  have mx:∀G,Kz [.fl (r.map λs=>.int (Fi s.2))] G=.ok (.int ((rest.map λs=>Fi s.2).foldl max (Fi st))) G:=λG=>ZCc (by rw [er];simp [Bt])
  have m2:∀G,Ay (.int u) (.int (c / 130 % 2)) G=.ok (.int (u * (c / 130 % 2))) G:=λG=>Gj (by omega) (by omega)
  have cp:∀(G:DH),Cu (gV 0) Bm Ue [none] (r.map Ci) G=.ok (r.map λs=>.int (Fi s.2)) G:=λG=>M7 λs _=>by unfold Ue;simp [Ci,ZDQ]
  have fz:∀G:DH,freeze G (.ok (.ref G.length) (G++ [.lst (r.map λs=>.int (Fi s.2))]))=.ok (.fl (r.map λs=>.int (Fi s.2))) G:=λG=>Dt (Hm λ_ _=>rfl)
  have hd:((1 + c / 26 % 5).toNat:Int)=1 + c / 26 % 5:=by omega
  refine ⟨r,some (t.toNat,(1 + c / 26 % 5).toNat,(rest.map λs=>Fi s.2).foldl max (Fi st) + u * (c / 130 % 2)),hr,?_,λG=> ?_⟩
  ·intro to dl m e;cases e;omega
  ·have h1:(1:Int) < n:=by omega
   have h1':0 < (n:Int) - 1:=by omega
   have hn0:0 < (n:Int):=by omega
   have hn0':0 < n:=by omega
   have hrl:r.length<=1000000:=by have:=hr.len;omega
   unfold Ls Mf;rw [Bh];simp [hrl,cu,fu,h11,Nf,hp.1,hp.2,h1,h1',hn0,hn0',cr,cp,Bb,fz,mx,m2,ht,at_,By,h3,H9 hu,ak,Bu,H8,hd]
 ·obtain ⟨r,hr,cr⟩:=ZAM (ns:=ns) (f:=f) hf hyr cy hb hu (p:=false)
  refine ⟨r,none,hr,(λto dl m e=>nomatch e),λG=> ?_⟩
  unfold Ls Mf;rw [Bh];by_cases h1:1 < n
  ·have h2:¬c % 2=1:=λz=>hp ⟨h1,z⟩
   have h1':(1:Int) < n:=by omega
   simp [cu,fu,h11,Nf,h1,h1',h2,cr,By,h3,H9 hu,ak,Bu,H8]
  ·have h1':¬(1:Int) < n:=by omega
   simp [cu,fu,h11,Nf,h1,h1',cr,By,h3,H9 hu,ak,Bu,H8]
def dnS (nm:Nat->Str):Option Nat->Str
 | none=>"sea"
 | some d=>nm d
def Fl (nm:Nat->Str) (p:Pl):D:=match p.kd with
 | .basin b r q=>.tup [.str "basin",.str p.nm,.str (dnS nm p.dn),.int p.dl,.int b,.tup (r.map Ci),H8 nm q]
 | .town a b=>.tup [.str "town",.str p.nm,.str (dnS nm p.dn),.int p.dl,.int a,.int b]
 | .mill a=>.tup [.str "mill",.str p.nm,.str (dnS nm p.dn),.int p.dl,.int a]
structure PlOk (yr:Int) (nm:Nat->Str) (n k:Nat) (p:Pl):Prop where
 nm:p.nm=nm k
 dn:∀d,p.dn=some d->k < d/\d < n
 dl:p.dl<=5
 basin:∀b r q,p.kd=.basin b r q->0<=b/\RuleOk yr q.isSome r/\∀to dl m,q=some (to,dl,m)->to < n/\1<=dl/\dl<=5
 town:∀a b,p.kd=.town a b->0<=a/\0<=b
 mill:∀a,p.kd=.mill a->0<=a
theorem ZCB (hf:∀k:Nat,k<=1000->∀G,Ar [.fl (ns.map D.int),.int k] G=.ok (.int (f k)) G) (hyr:1<=yr/\yr<=24) (cy:∀G,Hn [.fl (ns.map D.int)] G=.ok (.int yr) G) (hu:0 < u) (cu:∀G,Do [.fl (ns.map D.int)] G=.ok (.int u) G) {n:Nat} (hk:k < n) (hn:n<=12) :
  ∃p:Pl,PlOk yr nm n k p/\∀(G:DH) (acc:List D) (x6 x7 x8 x9 x10 x11 x12:Option D),acc.length<=20->∃y6 y7 y8 y9 y10 y11 y12,
   Hv [some (.fl (ns.map D.int)),some (.int c),some (.int n),some (.fl (Bp nm n)),some (.int k),some (.ref G.length),x6,x7,x8,x9,x10,x11,x12] (G++ [.lst acc])=
    .nx [some (.fl (ns.map D.int)),some (.int c),some (.int n),some (.fl (Bp nm n)),some (.int k),some (.ref G.length),y6,y7,y8,y9,y10,y11,y12] (G++ [.lst (acc++ [Fl nm p])]):=by
 have hc:∀j:Nat,j<=11->∀G,Ar [.fl (ns.map D.int),.int (((6 + 12 * k:Nat):Int) + j)] G=.ok (.int (f (6 + 12 * k + j))) G:=λj hj G=>by have:=hf (6 + 12 * k + j) (by omega) G;rwa [show ((6 + 12 * k + j:Nat):Int)=((6 + 12 * k:Nat):Int) + j by omega] at this
 have hb:6 + 12 * k<=900:=by omega
 have e6:(6 + 12 * (k:Int))=((6 + 12 * k:Nat):Int):=by omega
 have m12:∀G,Ay (.int 12) (.int (k:Int)) G=.ok (.int (12 * (k:Int))) G:=λG=>Gg (by omega) (by omega)
 have h0:∀G,Ar [.fl (ns.map D.int),.int ((6 + 12 * k:Nat):Int)] G=.ok (.int (f (6 + 12 * k))) G:=hf _ (by omega);have h1:∀G,Ar [.fl (ns.map D.int),.int (((6 + 12 * k:Nat):Int) + 1)] G=.ok (.int (f (6 + 12 * k + 1))) G:=hc 1 (by omega);have h2:∀G,Ar [.fl (ns.map D.int),.int (((6 + 12 * k:Nat):Int) + 2)] G=.ok (.int (f (6 + 12 * k + 2))) G:=hc 2 (by omega);have h3:∀G,Ar [.fl (ns.map D.int),.int (((6 + 12 * k:Nat):Int) + 3)] G=.ok (.int (f (6 + 12 * k + 3))) G:=hc 3 (by omega)
 have h4:∀G,Ar [.fl (ns.map D.int),.int (((6 + 12 * k:Nat):Int) + 4)] G=.ok (.int (f (6 + 12 * k + 4))) G:=hc 4 (by omega);have ak:atI (Bp nm n) (k:Int)=some (.str (nm k)):=Qj hk;have fu:∀G,freeze G (.ok (.int u) G)=.ok (.int u) G:=λG=>Ky rfl
 have cb:=λd dl=>ZGY (nm:=nm) (d:=d) (dl:=dl) hf hyr cy hu cu hb hk hn
 generalize 6 + 12 * k=b at hc hb e6 h0 h1 h2 h3 h4 cb;obtain ⟨s,hs0,hs1,hs⟩:∃s:Int,0<=s/\s < (n:Int) - k/\∀(H:DH) (x5 x7 x8 x9 x10 x11 x12:Option D),R7 [some (.fl (ns.map D.int)),some (.int c),some (.int n),some (.fl (Bp nm n)),some (.int k),x5,some (.int b),x7,x8,x9,x10,x11,x12] H=
   M3 [some (.fl (ns.map D.int)),some (.int c),some (.int n),some (.fl (Bp nm n)),some (.int k),x5,some (.int b),some (.int s),x8,x9,x10,x11,x12] H:=by
  have hm:0 < (n:Int) - k:=by omega
  have hm':(k:Int) < n:=by omega
  by_cases hw:c / 280 % 3=1
  ·refine ⟨min 1 ((n:Int) - 1 - k),by omega,by omega,λH x5 x7 x8 x9 x10 x11 x12=> ?_⟩;unfold R7 Wx;simp [h1,hm,hm',hk,hw]
  ·refine ⟨f (b + 1) % ((n:Int) - k),Int.emod_nonneg _ (by omega),Int.emod_lt_of_pos _ hm,λH x5 x7 x8 x9 x10 x11 x12=> ?_⟩;unfold R7 Wx;simp [h1,hm,hm',hk,hw]
 obtain ⟨dn,dl,hdn,hdl,hr⟩:∃(dn:Option Nat) (dl:Nat),(∀d,dn=some d->k < d/\d < n)/\dl<=5/\∀(H:DH) (x5 x8 x9 x10 x11 x12:Option D),M3 [some (.fl (ns.map D.int)),some (.int c),some (.int n),some (.fl (Bp nm n)),some (.int k),x5,some (.int b),some (.int s),x8,x9,x10,x11,x12] H=
   N5 [some (.fl (ns.map D.int)),some (.int c),some (.int n),some (.fl (Bp nm n)),some (.int k),x5,some (.int b),some (.int s),some (.int (f (b + 2))),some (.tup [.str (dnS nm dn),.int dl]),x10,x11,x12] H:=by
  have hd:((f (b + 2) % 2 * (f (b + 2) / 2 % 6)).toNat:Int)=f (b + 2) % 2 * (f (b + 2) / 2 % 6)/\(f (b + 2) % 2 * (f (b + 2) / 2 % 6)).toNat<=5:=by rcases (by omega:f (b + 2) % 2=0∨f (b + 2) % 2=1) with z | z <;> rw [z] <;> omega
  have md:∀G,Ay (.int (f (b + 2) % 2)) (.int (f (b + 2) / 2 % 6)) G=.ok (.int (f (b + 2) % 2 * (f (b + 2) / 2 % 6))) G:=λG=>Gj (by omega) (by omega)
  generalize f (b + 2) % 2 * (f (b + 2) / 2 % 6)=w at hd md;by_cases hp:0 < s
  ·have a2:atI (Bp nm n) ((k:Int) + s)=some (.str (nm (k + s.toNat))):=by have:=Qj (nm:=nm) (n:=n) (k:=k + s.toNat) (by omega);rwa [show ((k + s.toNat:Nat):Int)=(k:Int) + s by omega] at this
   refine ⟨some (k + s.toNat),w.toNat,λd e=>by cases e;omega,hd.2,λH x5 x8 x9 x10 x11 x12=> ?_⟩;unfold M3 W7 W2;simp [h2,md,hp,a2,By,dnS,hd.1]
  ·refine ⟨none,w.toNat,(λd e=>nomatch e),hd.2,λH x5 x8 x9 x10 x11 x12=> ?_⟩
   unfold M3 W7 W2;simp [h2,md,hp,By,dnS,hd.1]
 obtain ⟨rk,hrk,hk2⟩:∃rk:Int,0<=rk/\∀(H:DH) (x5 x7 x8 x9 x10 x11 x12:Option D),N5 [some (.fl (ns.map D.int)),some (.int c),some (.int n),some (.fl (Bp nm n)),some (.int k),x5,some (.int b),x7,x8,x9,x10,x11,x12] H=
   Js [some (.fl (ns.map D.int)),some (.int c),some (.int n),some (.fl (Bp nm n)),some (.int k),x5,some (.int b),x7,x8,x9,some (.int (f b % 5)),some (.int (amt (f (b + 3)) u)),some (.int rk)] H:=by
  have fz:∀G:DH,freeze G (.ok (.ref G.length) (G++ [.lst [.int 4,.int 10000000000000000000000000000000000000000]]))=.ok (.fl [.int 4,.int 10000000000000000000000000000000000000000]) G:=λG=>Dt rfl
  rcases (by omega:c / 840 % 2=0∨c / 840 % 2=1) with z | z
  ·refine ⟨f (b + 4) % 4,by omega,λH x5 x7 x8 x9 x10 x11 x12=> ?_⟩;unfold N5 X8 U4;simp [h0,h3,h4,cu,fu,H9 hu,z,An,fz]
  ·refine ⟨f (b + 4) % 10000000000000000000000000000000000000000,by omega,λH x5 x7 x8 x9 x10 x11 x12=> ?_⟩;unfold N5 X8 U4;simp [h0,h3,h4,cu,fu,H9 hu,z,An,fz]
 have hal:∀acc:List D,acc.length<=20->acc.length < 1000000:=λacc h=>by omega
 have go:∀p:Pl,(∀(G:DH) (acc:List D),acc.length<=20->
   Js [some (.fl (ns.map D.int)),some (.int c),some (.int n),some (.fl (Bp nm n)),some (.int k),some (.ref G.length),some (.int b),some (.int s),some (.int (f (b + 2))),some (.tup [.str (dnS nm dn),.int dl]),some (.int (f b % 5)),some (.int (amt (f (b + 3)) u)),some (.int rk)] (G++ [.lst acc])=
    .nx [some (.fl (ns.map D.int)),some (.int c),some (.int n),some (.fl (Bp nm n)),some (.int k),some (.ref G.length),some (.int b),some (.int s),some (.int (f (b + 2))),some (.tup [.str (dnS nm dn),.int dl]),some (.int (f b % 5)),some (.int (amt (f (b + 3)) u)),some (.int rk)] (G++ [.lst (acc++ [Fl nm p])]))->
   ∀(G:DH) (acc:List D) (x6 x7 x8 x9 x10 x11 x12:Option D),acc.length<=20->∃y6 y7 y8 y9 y10 y11 y12,
   Hv [some (.fl (ns.map D.int)),some (.int c),some (.int n),some (.fl (Bp nm n)),some (.int k),some (.ref G.length),x6,x7,x8,x9,x10,x11,x12] (G++ [.lst acc])=
    .nx [some (.fl (ns.map D.int)),some (.int c),some (.int n),some (.fl (Bp nm n)),some (.int k),some (.ref G.length),y6,y7,y8,y9,y10,y11,y12] (G++ [.lst (acc++ [Fl nm p])]):=λp h9 G acc x6 x7 x8 x9 x10 x11 x12 ha=>by
  refine ⟨some (.int b),some (.int s),some (.int (f (b + 2))),some (.tup [.str (dnS nm dn),.int dl]),some (.int (f b % 5)),some (.int (amt (f (b + 3)) u)),some (.int rk),?_⟩
  ·unfold Hv;have e:(sAs (dOp Am (dC (.int 6)) (dOp Ay (dC (.int 12)) (dV 4))) (gV 6)) [some (.fl (ns.map D.int)),some (.int c),some (.int n),some (.fl (Bp nm n)),some (.int k),some (.ref G.length),x6,x7,x8,x9,x10,x11,x12] (G++ [.lst acc])=.nx [some (.fl (ns.map D.int)),some (.int c),some (.int n),some (.fl (Bp nm n)),some (.int k),some (.ref G.length),some (.int b),x7,x8,x9,x10,x11,x12] (G++ [.lst acc]):=by simp [m12,e6]
   rw [Wy,e,V2,hs,hr,hk2];exact h9 G acc ha
 by_cases hk1:f b % 5 < 2
 ·obtain ⟨r,q,hr1,hq,cr⟩:=cb (dnS nm dn) dl
  refine ⟨⟨nm k,dn,dl,.basin (amt (f (b + 3)) u) r q⟩,⟨rfl,hdn,hdl,λb' r' q' e=> ?_,(λ_ _ e=>nomatch e),(λ_ e=>nomatch e)⟩,go _ λG acc ha=> ?_⟩
  ·cases e;exact ⟨V5 hu,hr1,hq⟩
  ·have fr:∀G:DH,freeze G (.ok (.tup [.str "basin",.str (nm k),.str (dnS nm dn),.int dl,.int (amt (f (b + 3)) u),.tup (r.map Ci),H8 nm q]) G)=.ok (.tup [.str "basin",.str (nm k),.str (dnS nm dn),.int dl,.int (amt (f (b + 3)) u),.tup (r.map Ci),H8 nm q]) G:=λG=>Ky (by simp)
   unfold Js;simp [hk1,cr,fr,Dh,G6,hal acc ha,Fl]
 ·by_cases hk3:f b % 5 < 4
  ·refine ⟨⟨nm k,dn,dl,.town (amt (f (b + 3)) u) rk⟩,⟨rfl,hdn,hdl,(λ_ _ _ e=>nomatch e),λa b' e=> ?_,(λ_ e=>nomatch e)⟩,go _ λG acc ha=> ?_⟩
   ·cases e;exact ⟨V5 hu,hrk⟩
   ·unfold Js;simp [hk1,hk3,ak,By,Dh,G6,hal acc ha,Fl]
  ·refine ⟨⟨nm k,dn,dl,.mill (amt (f (b + 3)) u)⟩,⟨rfl,hdn,hdl,(λ_ _ _ e=>nomatch e),(λ_ _ e=>nomatch e),λa e=> ?_⟩,go _ λG acc ha=> ?_⟩
   ·cases e;exact V5 hu
   ·unfold Js;simp [hk1,hk3,ak,By,Dh,G6,hal acc ha,Fl]
theorem ZBS {n:Nat} {P:Nat->Pl} 
  (hd:∀k,k < n->∀(acc:List D) (x6 x7 x8 x9 x10 x11 x12:Option D),acc.length<=20->∃y6 y7 y8 y9 y10 y11 y12,
   Hv [some (.fl (ns.map D.int)),some (.int c),some (.int n),some (.fl (Bp nm n)),some (.int k),some (.ref G.length),x6,x7,x8,x9,x10,x11,x12] (G++ [.lst acc])=
    .nx [some (.fl (ns.map D.int)),some (.int c),some (.int n),some (.fl (Bp nm n)),some (.int k),some (.ref G.length),y6,y7,y8,y9,y10,y11,y12] (G++ [.lst (acc++ [Fl nm (P k)])])):
  ∀(m k:Nat) (acc:List D) (x4 x6 x7 x8 x9 x10 x11 x12:Option D),k + m=n->acc.length + m<=20->∃y4 y6 y7 y8 y9 y10 y11 y12,
   Cp (gV 4) Hv (Bl k m) [some (.fl (ns.map D.int)),some (.int c),some (.int n),some (.fl (Bp nm n)),x4,some (.ref G.length),x6,x7,x8,x9,x10,x11,x12] (G++ [.lst acc])=
    .nx [some (.fl (ns.map D.int)),some (.int c),some (.int n),some (.fl (Bp nm n)),y4,some (.ref G.length),y6,y7,y8,y9,y10,y11,y12] (G++ [.lst (acc++(List.range' k m).map λi=>Fl nm (P i))])
 | 0,k,acc,x4,x6,x7,x8,x9,x10,x11,x12,e,ha=>⟨x4,x6,x7,x8,x9,x10,x11,x12,by rw [Hl,Ec];simp⟩
 | m + 1,k,acc,x4,x6,x7,x8,x9,x10,x11,x12,e,ha=>by
  obtain ⟨y6,y7,y8,y9,y10,y11,y12,hb⟩:=hd k (by omega) acc x6 x7 x8 x9 x10 x11 x12 (by omega);obtain ⟨z4,z6,z7,z8,z9,z10,z11,z12,ih⟩:=ZBS hd m (k + 1) (acc++ [Fl nm (P k)]) (some (.int k)) y6 y7 y8 y9 y10 y11 y12 (by omega) (by simp;omega);refine ⟨z4,z6,z7,z8,z9,z10,z11,z12,?_⟩;rw [Gp,Dz];simp only [Ea,R.Eg,List.set,hb,Ek];have e1:((k:Int) + 1)=((k + 1:Nat):Int):=by omega
  rw [e1,ih];simp [List.range'_succ]
structure Told (h:Hs) (yr:Int):Prop where
 good:GoodH h
 one:1<=h.n
 ey:h.yr=yr
 ok:∃nm:Nat->Str,∀k,k < h.n->PlOk yr nm h.n k (h.pl k)
theorem ZCV:∃n:Nat,1<=n/\n<=12/\(n:Int)=if c / 5 % 8=1 then 6 + c / 40 % 7 else 1 + c % 5:=by
 by_cases h:c / 5 % 8=1
 ·exact ⟨(6 + c / 40 % 7).toNat,by omega,by omega,by rw [if_pos h];omega⟩
 ·exact ⟨(1 + c % 5).toNat,by omega,by omega,by rw [if_neg h];omega⟩
theorem ZFG (hf:∀k:Nat,k<=1000->∀G,Ar [.fl (ns.map D.int),.int k] G=.ok (.int (f k)) G) (hyr:1<=yr/\yr<=24) (cy:∀G,Hn [.fl (ns.map D.int)] G=.ok (.int yr) G) (hu:0 < u) (cu:∀G,Do [.fl (ns.map D.int)] G=.ok (.int u) G):
  ∃h:Hs,Told h yr/\∀G,T6 [.fl (ns.map D.int)] G=.ok h.enc G:=by
 obtain ⟨n,hn1,hn,en⟩:=ZCV (c:=f 0);let nm:Nat->Str:=λk=>De (Dy (f 5) n k)
 have ex:∀k:Nat,∃p:Pl,k < n->(PlOk yr nm n k p/\∀(G:DH) (acc:List D) (x6 x7 x8 x9 x10 x11 x12:Option D),acc.length<=20->∃y6 y7 y8 y9 y10 y11 y12,
   Hv [some (.fl (ns.map D.int)),some (.int (f 0)),some (.int n),some (.fl (Bp nm n)),some (.int k),some (.ref G.length),x6,x7,x8,x9,x10,x11,x12] (G++ [.lst acc])=
    .nx [some (.fl (ns.map D.int)),some (.int (f 0)),some (.int n),some (.fl (Bp nm n)),some (.int k),some (.ref G.length),y6,y7,y8,y9,y10,y11,y12] (G++ [.lst (acc++ [Fl nm p])])):=λk=>by
  by_cases hk:k < n
  ·obtain ⟨p,hp⟩:=ZCB (nm:=nm) (c:=f 0) hf hyr cy hu cu hk hn;exact ⟨p,λ_=>hp⟩
  ·exact ⟨noPl,λz=>absurd z hk⟩
 let P:Nat->Pl:=λk=>(ex k).choose
 have hP:=λ(k:Nat) (hk:k < n)=>((ex k).choose_spec hk).1
 have hB:=λ(k:Nat) (hk:k < n)=>((ex k).choose_spec hk).2
 let h:Hs:=⟨yr,(List.range n).map P⟩;have hnn:h.n=n:=by simp [h,Hs.n]
 have hpl:∀k,k < n->h.pl k=P k:=λk hk=>by simp [h,Hs.pl,hk]
 have hg:GoodH h:=by
  refine ⟨?_,by omega,?_,?_,?_,?_,?_,?_,?_⟩
  ·show 0 < yr;omega
  ·intro i j hi hj e;rw [hnn] at hi hj;rw [hpl i hi,hpl j hj,(hP i hi).nm,(hP j hj).nm] at e;exact ZE3 hn hi hj (ZAl e)
  ·intro i hi;rw [hnn] at hi;rw [hpl i hi,(hP i hi).nm];exact ZDt
  ·intro k d hk e;rw [hnn] at hk ⊢;rw [hpl k hk] at e;exact (hP k hk).dn d e
  ·intro k hk;rw [hnn] at hk;rw [hpl k hk];exact (hP k hk).dl
  ·intro k b r to dl m hk e;rw [hnn] at hk ⊢;rw [hpl k hk] at e;exact ((hP k hk).basin _ _ _ e).2.2 to dl m rfl
  ·intro k b r q hk e;rw [hnn] at hk;rw [hpl k hk] at e;have:=(hP k hk).basin _ _ _ e;exact ⟨this.1,λs hs=>(this.2.1.good s hs).1⟩
  ·intro k a b hk e;rw [hnn] at hk;rw [hpl k hk] at e;exact (hP k hk).town _ _ e
 refine ⟨h,⟨hg,by omega,rfl,nm,λk hk=>by rw [hnn] at hk ⊢;rw [hpl k hk];exact hP k hk⟩,λG=> ?_⟩;have hdT:∀o:Option Nat,(∀d,o=some d->d < n)->h.dnT o=dnS nm o:=λo ho=>by
  cases o with
  | none=>rfl
  | some d=>
   show (h.pl d).nm=nm d;rw [hpl d (ho d rfl),(hP d (ho d rfl)).nm]
 have henc:h.Cr=(List.range' 0 n).map λi=>Fl nm (P i):=by
  show ((List.range n).map P).map h.encP=_;rw [List.map_map,List.range_eq_range'];refine List.map_congr_left λk hk=> ?_
  have hk':k < n:=by have:=List.mem_range'_1.mp hk;omega
  have ok:=hP k hk';show h.encP (P k)=Fl nm (P k);have ed:=hdT (P k).dn λd e=>(ok.dn d e).2
  unfold Hs.encP Fl;rw [ed];cases e:(P k).kd with
  | basin b r q=>
   have hq:=(ok.basin b r q e).2.2;cases q with
   | none=>rfl
   | some q=>
    obtain ⟨to,dl,m⟩:=q;have ht:=(hq to dl m rfl).1;have e2:(h.pl to).nm=nm to:=by rw [hpl to ht,(hP to ht).nm]
    simp [Hs.Qh,H8,e2]
  | town a b=>rfl
  | mill a=>rfl
 obtain ⟨y4,y6,y7,y8,y9,y10,y11,y12,hL⟩:=ZBS (G:=G) (P:=P) (nm:=nm) (c:=f 0) (n:=n) (ns:=ns) (λk hk=>hB k hk G) n 0 [] none none none none none none none none (by omega) (by simp;omega);rw [<-henc] at hL;have hL':Cp (gV 4) Hv (Bl 0 n) [some (.fl (ns.map D.int)),some (.int (f 0)),some (.int n),some (.fl (Bp nm n)),none,some (.ref G.length),none,none,none,none,none,none,none] (G++ [.lst []])=
    .nx [some (.fl (ns.map D.int)),some (.int (f 0)),some (.int n),some (.fl (Bp nm n)),y4,some (.ref G.length),y6,y7,y8,y9,y10,y11,y12] (G++ [.lst h.Cr]):=hL
 have f0:∀G,Ar [.fl (ns.map D.int),.int 0] G=.ok (.int (f 0)) G:=hf 0 (by omega);have f5:∀G,Ar [.fl (ns.map D.int),.int 5] G=.ok (.int (f 5)) G:=hf 5 (by omega);have cp:∀G:DH,Cu (gV 0) Bm Tz [none,some (.fl (ns.map D.int)),some (.int n)] (Bl 0 n) G=.ok (Bp nm n) G:=λG=>Kh λk hk=>by unfold Tz;simp [f5,ZGK hn hk,nm]
 have fz:freeze G (.ok (.ref G.length) (G++ [.lst (Bp nm n)]))=.ok (.fl (Bp nm n)) G:=Dt ZFz;have hr:inR (n:Int):=Em (by omega) (by omega);have hnl:n<=1000000:=by omega
 have eh:h.enc=.tup [.int yr,.tup h.Cr]:=rfl;unfold T6 R4;rw [Bh];by_cases hw:f 0 / 5 % 8=1
 ·rw [if_pos hw] at en;simp [Nf,hnl,f0,hw,<-en,hr,Bb,cp,fz,An,Fb,hL',cy,Dh,By,Jh,eh]
 ·rw [if_neg hw] at en;simp [Nf,hnl,f0,hw,<-en,hr,Bb,cp,fz,An,Fb,hL',cy,Dh,By,Jh,eh]
def thr (c:Int):Nat->Int
 | 0=>c
 | j + 1=>thr (c / 3) j
theorem ZGc {s0 s1 s4 s5 s6 s7 s8 x:Option D} (G:DH):
  ∃y,Cp (gV 11) Ly (Bl 0 5) [s0,s1,s2,some (.int u),s4,s5,s6,s7,s8,some (.int c),some (.ref G.length),x] (G++ [.lst []])=.nx [s0,s1,s2,some (.int u),s4,s5,s6,s7,s8,y,some (.ref G.length),some (.int 4)] (G++ [.lst (tab 5 λj=>u * (thr c j % 3))]):=by
 have hb:∀(c:Int) (acc:List D) (x:Option D),acc.length<=10->Ly [s0,s1,s2,some (.int u),s4,s5,s6,s7,s8,some (.int c),some (.ref G.length),x] (G++ [.lst acc])=.nx [s0,s1,s2,some (.int u),s4,s5,s6,s7,s8,some (.int (c / 3)),some (.ref G.length),x] (G++ [.lst (acc++ [.int (u * (c % 3))])]):=λc acc x ha=>by
  have m:∀G,Ay (.int u) (.int (c % 3)) G=.ok (.int (u * (c % 3))) G:=λG=>Gj (by omega) (by omega)
  have hal:acc.length < 1000000:=by omega
  unfold Ly ZBN;simp [m,Dh,G6,hal]
 have e:Bl 0 5= [.int 0,.int 1,.int 2,.int 3,.int 4]:=rfl;refine ⟨some (.int (c / 3 / 3 / 3 / 3 / 3)),?_⟩;rw [e];simp only [Dz,Ec,Ea,R.Eg,List.set,Ek];rw [hb _ _ _ (by simp)];simp only [Ek,Dz,Ec,Ea,R.Eg,List.set];rw [hb _ _ _ (by simp)];simp only [Ek,Dz,Ec,Ea,R.Eg,List.set];rw [hb _ _ _ (by simp)];simp only [Ek,Dz,Ec,Ea,R.Eg,List.set];rw [hb _ _ _ (by simp)];simp only [Ek,Dz,Ec,Ea,R.Eg,List.set];rw [hb _ _ _ (by simp)]
 simp only [Ek,Dz,Ec,Ea,R.Eg,List.set];simp [tab5,thr]
def lvS (h:Hs) (f:Nat->Int) (u:Int) (k:Nat):Int:=match (h.pl k).kd with
 | .basin b _ _=>amt (f (6 + 12 * h.n + k)) u % (b + 1)
 | _=>0
def coS (h:Hs) (f:Nat->Int) (u:Int) (k j:Nat):Int:=u * (thr (f (6 + 12 * h.n + h.n + k)) j % 3)
theorem ZGe (g:GoodH h) (hk:k < h.n):0<=lvS h f u k/\(∀b r q,(h.pl k).kd=.basin b r q->lvS h f u k<=b)/\((h.pl k).kd.isB=false->lvS h f u k=0):=by
 unfold lvS;cases e:(h.pl k).kd with
 | basin b r q=>
  have:=(g.brim k b r q hk e).1
  refine ⟨Int.emod_nonneg _ (by omega),λb' r' q' e'=> ?_,λz=>nomatch z⟩
  cases e';show amt (f (6 + 12 * h.n + k)) u % (b + 1)<=b;have:=Int.emod_lt_of_pos (amt (f (6 + 12 * h.n + k)) u) (show 0 < b + 1 by omega);omega
 | town a b=>exact ⟨Int.le_refl _,(λ_ _ _ z=>nomatch z),λ_=>rfl⟩
 | mill a=>exact ⟨Int.le_refl _,(λ_ _ _ z=>nomatch z),λ_=>rfl⟩
theorem ZAt (hf:∀k:Nat,k<=1000->∀G,Ar [.fl (ns.map D.int),.int k] G=.ok (.int (f k)) G) {u:Int} (hu:0 < u) (g:GoodH h) {s1:Option D} {G:DH}:∀(m k:Nat) (L:DH) (x7 x8 x9 x10 x11:Option D),k + m=h.n->∃L' y7 y8 y9 y10 y11,
  Cp (gV 7) M6 (Bl k m) [some (.fl (ns.map D.int)),s1,some (.tup h.Cr),some (.int u),some (.int ((6 + 12 * h.n:Nat):Int)),some (.ref G.length),some (.ref (G.length + 1)),x7,x8,x9,x10,x11] (G++ .lst (tab k (lvS h f u)):: .lst (Bd k (coS h f u))::L)=
   .nx [some (.fl (ns.map D.int)),s1,some (.tup h.Cr),some (.int u),some (.int ((6 + 12 * h.n:Nat):Int)),some (.ref G.length),some (.ref (G.length + 1)),y7,y8,y9,y10,y11] (G++ .lst (tab h.n (lvS h f u)):: .lst (Bd h.n (coS h f u))::L')
 | 0,k,L,x7,x8,x9,x10,x11,e=>by
  have e1:k=h.n:=by omega
  subst e1;exact ⟨L,x7,x8,x9,x10,x11,by rw [Hl,Ec]⟩
 | m + 1,k,L,x7,x8,x9,x10,x11,e=>by
  have hk:k < h.n:=by omega
  have hn:=g.len;let c:Int:=f (6 + 12 * h.n + h.n + k);let G1:DH:=G++ .lst (tab (k + 1) (lvS h f u)):: .lst (Bd k (coS h f u))::L;obtain ⟨y,hR⟩:=ZGc (u:=u) (c:=c) (s0:=some (.fl (ns.map D.int))) (s1:=s1) (s2:=some (.tup h.Cr)) (s4:=some (.int ((6 + 12 * h.n:Nat):Int))) (s5:=some (.ref G.length)) (s6:=some (.ref (G.length + 1))) (s7:=some (.int k)) (s8:=some (.int (lvS h f u k))) (x:=x11) G1;obtain ⟨L',y7,y8,y9,y10,y11,ih⟩:=ZAt hf hu g m (k + 1) (L++ [.lst (tab 5 (coS h f u k))]) (s1:=s1) (G:=G) (some (.int k)) (some (.int (lvS h f u k))) y (some (.ref G1.length)) (some (.int 4)) (by omega)
  refine ⟨L',y7,y8,y9,y10,y11,?_⟩;have ap:atI h.Cr (k:Int)=some (h.encP (h.pl k)):=Hs.ZBa hk;have c1:∀G,Ar [.fl (ns.map D.int),.int (((6 + 12 * h.n:Nat):Int) + (k:Int))] G=.ok (.int (f (6 + 12 * h.n + k))) G:=λG=>by have:=hf (6 + 12 * h.n + k) (by omega) G;rwa [show ((6 + 12 * h.n + k:Nat):Int)=((6 + 12 * h.n:Nat):Int) + k by omega] at this
  have c2:∀G,Ar [.fl (ns.map D.int),.int (((6 + 12 * h.n:Nat):Int) + (h.n:Int) + (k:Int))] G=.ok (.int c) G:=λG=>by have:=hf (6 + 12 * h.n + h.n + k) (by omega) G;rwa [show ((6 + 12 * h.n + h.n + k:Nat):Int)=((6 + 12 * h.n:Nat):Int) + h.n + k by omega] at this
  have hbb:(6 + 12 * h.n:Nat)=(6 + 12 * h.n):=rfl;generalize hB:((6 + 12 * h.n:Nat):Int)=B at c1 c2 hR ih ⊢;have t1:∀(H:DH) (x9 x10 x11:Option D),M6 [some (.fl (ns.map D.int)),s1,some (.tup h.Cr),some (.int u),some (.int B),some (.ref G.length),some (.ref (G.length + 1)),some (.int k),x8,x9,x10,x11] H=Rr [some (.fl (ns.map D.int)),s1,some (.tup h.Cr),some (.int u),some (.int B),some (.ref G.length),some (.ref (G.length + 1)),some (.int k),some (.int (lvS h f u k)),x9,x10,x11] H:=λH x9 x10 x11=>by
   unfold M6 Zj lvS;cases e:(h.pl k).kd with
   | basin b r q=>
    have hb0:=(g.brim k b r q hk e).1;have e4:∀G,Ak (h.encP (h.pl k)) (.int 4) G=.ok (.int b) G:=λG=>by unfold Hs.encP;rw [e];simp
    have hb1:0 < b + 1:=by omega
    have hb2:¬b + 1=0:=by omega
    simp [ap,La,e,Kd.isB,c1,H9 hu,e4,hb1,hb2]
   | town a b=>simp [ap,La,e,Kd.isB]
   | mill a=>simp [ap,La,e,Kd.isB]
  have hl1:k < 1000000:=by omega
  have et:tab k (lvS h f u)++ [.int (lvS h f u k)]=tab (k + 1) (lvS h f u):=by simp [tab,List.range_succ]
  have er:Bd k (coS h f u)++ [.tup (tab 5 (coS h f u k))]=Bd (k + 1) (coS h f u):=by simp [Bd,List.range_succ]
  have t2:Rr [some (.fl (ns.map D.int)),s1,some (.tup h.Cr),some (.int u),some (.int B),some (.ref G.length),some (.ref (G.length + 1)),some (.int k),some (.int (lvS h f u k)),x9,x10,x11] (G++ .lst (tab k (lvS h f u)):: .lst (Bd k (coS h f u))::L)=P0 [some (.fl (ns.map D.int)),s1,some (.tup h.Cr),some (.int u),some (.int B),some (.ref G.length),some (.ref (G.length + 1)),some (.int k),some (.int (lvS h f u k)),some (.int c),some (.ref G1.length),x11] (G1++ [.lst []]):=by
   have tn:tidy G1 (.ok (.ref G1.length) (G1++ [.lst []]))=.ok (.ref G1.length) (G1++ [.lst []]):=Fb rfl;unfold Rr ZBR Z0;have a1:(sEx (Ey El (dV 5) (Ab (dV 8) Af))) [some (.fl (ns.map D.int)),s1,some (.tup h.Cr),some (.int u),some (.int B),some (.ref G.length),some (.ref (G.length + 1)),some (.int k),some (.int (lvS h f u k)),x9,x10,x11] (G++ .lst (tab k (lvS h f u)):: .lst (Bd k (coS h f u))::L)=.nx [some (.fl (ns.map D.int)),s1,some (.tup h.Cr),some (.int u),some (.int B),some (.ref G.length),some (.ref (G.length + 1)),some (.int k),some (.int (lvS h f u k)),x9,x10,x11] G1:=by
    simp [Dh,G6,hl1,et,G1]
   rw [Wy,a1,V2]
   clear_value G1
   simp [Hs.K6,c2,An,tn]
  have t5:P0 [some (.fl (ns.map D.int)),s1,some (.tup h.Cr),some (.int u),some (.int B),some (.ref G.length),some (.ref (G.length + 1)),some (.int k),some (.int (lvS h f u k)),some (.int c),some (.ref G1.length),x11] (G1++ [.lst []])=.nx [some (.fl (ns.map D.int)),s1,some (.tup h.Cr),some (.int u),some (.int B),some (.ref G.length),some (.ref (G.length + 1)),some (.int k),some (.int (lvS h f u k)),y,some (.ref G1.length),some (.int 4)] (G++ .lst (tab (k + 1) (lvS h f u)):: .lst (Bd (k + 1) (coS h f u))::(L++ [.lst (tab 5 (coS h f u k))])):=by
   have hr:inR 5:=Em (by omega) (by omega);have eC:(tab 5 λj=>u * (thr c j % 3))=tab 5 (coS h f u k):=rfl;rw [eC] at hR;unfold P0;have a1:(Dw (Df rng1 (Ab (dC (.int 5)) Af)) (gV 11) Ly) [some (.fl (ns.map D.int)),s1,some (.tup h.Cr),some (.int u),some (.int B),some (.ref G.length),some (.ref (G.length + 1)),some (.int k),some (.int (lvS h f u k)),some (.int c),some (.ref G1.length),x11] (G1++ [.lst []])=.nx [some (.fl (ns.map D.int)),s1,some (.tup h.Cr),some (.int u),some (.int B),some (.ref G.length),some (.ref (G.length + 1)),some (.int k),some (.int (lvS h f u k)),y,some (.ref G1.length),some (.int 4)] (G1++ [.lst (tab 5 (coS h f u k))]):=by
    simp [hr,hR]
   rw [Wy,a1,V2];have gl:(G1++ [DO.lst (tab 5 (coS h f u k))])[G1.length]? =some (.lst (tab 5 (coS h f u k))):=by simp
   have gc:(G1++ [DO.lst (tab 5 (coS h f u k))])[G.length + 1]? =some (.lst (Bd k (coS h f u))):=by simp [G1]
   have gs:(G1++ [DO.lst (tab 5 (coS h f u k))]).set (G.length + 1) (.lst (Bd (k + 1) (coS h f u)))=(G++ .lst (tab (k + 1) (lvS h f u)):: .lst (Bd (k + 1) (coS h f u))::(L++ [.lst (tab 5 (coS h f u k))])):=by simp [G1]
   generalize G1++ [DO.lst (tab 5 (coS h f u k))]=G2 at gl gc gs;unfold ZBf;simp [gl,gc,hl1,er,gs]
  rw [Gp,Dz];simp only [Ea,R.Eg,List.set,t1,t2,t5,Ek];have e1:((k:Int) + 1)=((k + 1:Nat):Int):=by omega
  rw [e1,ih]
theorem ZFF (hf:∀k:Nat,k<=1000->∀G,Ar [.fl (ns.map D.int),.int k] G=.ok (.int (f k)) G) (hu:0 < u) (cu:∀G,Do [.fl (ns.map D.int)] G=.ok (.int u) G) (g:GoodH h) (G:DH):
  T8 [.fl (ns.map D.int),h.enc] G=.ok (stD h.n (lvS h f u) (coS h f u)) G:=by
 obtain ⟨L',y7,y8,y9,y10,y11,hL⟩:=ZAt hf hu g (s1:=some h.enc) (G:=G) h.n 0 [] none none none none none (by omega);have hL':Cp (gV 7) M6 (Bl 0 h.n) [some (.fl (ns.map D.int)),some h.enc,some (.tup h.Cr),some (.int u),some (.int ((6 + 12 * h.n:Nat):Int)),some (.ref G.length),some (.ref (G.length + 1)),none,none,none,none,none] (G++ [.lst [],.lst []])=
   .nx [some (.fl (ns.map D.int)),some h.enc,some (.tup h.Cr),some (.int u),some (.int ((6 + 12 * h.n:Nat):Int)),some (.ref G.length),some (.ref (G.length + 1)),y7,y8,y9,y10,y11] (G++ .lst (tab h.n (lvS h f u)):: .lst (Bd h.n (coS h f u))::L'):=hL
 have hn:=g.len;have m12:∀G,Ay (.int 12) (.int (h.n:Int)) G=.ok (.int (12 * (h.n:Int))) G:=λG=>Gg (by omega) (by omega)
 have e6:(6 + 12 * (h.n:Int))=((6 + 12 * h.n:Nat):Int):=by omega
 generalize hB:((6 + 12 * h.n:Nat):Int)=B at hL' e6;have fu:freeze G (.ok (.int u) G)=.ok (.int u) G:=Ky rfl;have hr:inR (h.n:Int):=Em (by omega) (by omega);have t1:tidy (G++ [.lst []]) (.ok (.ref (G.length + 1)) (G++ [.lst [],.lst []]))=.ok (.ref (G.length + 1)) (G++ [.lst [],.lst []]):=by have:=Fb (G:=G++ [.lst []]) (ds:= []) (L:= []) rfl;simpa using this
 have g0:(G++ .lst (tab h.n (lvS h f u)):: .lst (Bd h.n (coS h f u))::L')[G.length]? =some (.lst (tab h.n (lvS h f u))):=by simp
 have g1:(G++ .lst (tab h.n (lvS h f u)):: .lst (Bd h.n (coS h f u))::L')[G.length + 1]? =some (.lst (Bd h.n (coS h f u))):=by simp
 have tp:tidy G (.ok (stD h.n (lvS h f u) (coS h f u)) (G++ .lst (tab h.n (lvS h f u)):: .lst (Bd h.n (coS h f u))::L'))=.ok (stD h.n (lvS h f u) (coS h f u)) G:=Jh (by simp [stD,Gw]);generalize G++DO.lst (tab h.n (lvS h f u))::DO.lst (Bd h.n (coS h f u))::L'=G2 at hL' g0 g1 tp;unfold stD at tp ⊢;unfold T8 S8;rw [Bh];simp [I8,cu,fu,Hs.K6,m12,e6,An,Fb,t1,hr,hL',g0,g1,By,tp]
def flS (n:Nat) (f:Nat->Int) (u:Int) (i k:Nat):Int:=amt (f (6 + 14 * n + i * n + k)) u
def Ai (n:Nat) (fls:List (Nat->Int)):List D:=fls.map λfl=>.tup (tab n fl)
@[simp] theorem Lh {n:Nat} :bels m (Ai n fls)=true:=Hm λ_ _=>by simp
theorem Z4 {o:DO} (h:∀m,bels m ds=true):freeze (G++ [o]) (.ok (.ref (G.length + 1)) (G++ [o,.lst ds]))=.ok (.fl ds) (G++ [o]):=by have:=Dt (G:=G++ [o]) (ds:=ds) (L:= []) (h _);simpa using this
theorem ZE0 (hf:∀k:Nat,k<=1000->∀G,Ar [.fl (ns.map D.int),.int k] G=.ok (.int (f k)) G) (hu:0 < u) (cu:∀G,Do [.fl (ns.map D.int)] G=.ok (.int u) G) {n:Nat} (hi:6 + 14 * n + i * n + n<=1000) (hi2:i<=1000) (hn2:n<=1000) {s1 x:Option D} {acc:List D} (ha:acc.length<=1000) (G:DH):
  Mw [some (.fl (ns.map D.int)),s1,s2,some (.int n),some (.int ((6 + 14 * n:Nat):Int)),some (.ref G.length),some (.int i),x] (G++ [.lst acc])=
   .nx [some (.fl (ns.map D.int)),s1,s2,some (.int n),some (.int ((6 + 14 * n:Nat):Int)),some (.ref G.length),some (.int i),some (.fl (tab n λk=>f (6 + 14 * n + i * n + k)))] (G++ [.lst (acc++ [.tup (tab n (flS n f u i))])]):=by
 have hal:acc.length < 1000000:=by omega
 have mi:∀G,Ay (.int (i:Int)) (.int (n:Int)) G=.ok (.int ((i:Int) * n)) G:=λG=>Gg (by omega) (by omega)
 have fu:∀G,freeze G (.ok (.int u) G)=.ok (.int u) G:=λG=>Ky rfl
 have c1:∀G,Cu (gV 0) Bm Ww [none,some (.fl (ns.map D.int)),some (.int n),some (.int ((6 + 14 * n:Nat):Int)),some (.int i)] (Bl 0 n) G=.ok (tab n λk=>f (6 + 14 * n + i * n + k)) G:=λG=>
  Kh (F:=λk=>.int (f (6 + 14 * n + i * n + k))) λk hk=>by
   have h1:=hf (6 + 14 * n + i * n + k) (by omega) G;have e1:((6 + 14 * n + i * n + k:Nat):Int)=((6 + 14 * n:Nat):Int) + (i:Int) * n + k:=by rw [Int.natCast_add,Int.natCast_add,Int.natCast_mul]
   rw [e1] at h1;generalize ((6 + 14 * n:Nat):Int)=B at h1;unfold Ww;simp [mi,h1]
 have c2:∀G,Cu (gV 0) Bm Vi [none,some (.fl (ns.map D.int))] (tab n λk=>f (6 + 14 * n + i * n + k)) G=.ok (tab n (flS n f u i)) G:=λG=>
  M7 (E:=λk=>.int (f (6 + 14 * n + i * n + k))) (F:=λk=>.int (flS n f u i k)) λk hk=>by unfold Vi;simp [cu,fu,H9 hu,flS]
 have hr:inR (n:Int):=Em (by omega) (by omega);have cs1:∀a b c d e f' g h:Option D,Bb 1 [0,3,4,6] [a,b,c,d,e,f',g,h]= [none,a,d,e,g]:=λ_ _ _ _ _ _ _ _=>rfl
 have cs2:∀a b c d e f' g h:Option D,Bb 1 [0] [a,b,c,d,e,f',g,h]= [none,a]:=λ_ _ _ _ _ _ _ _=>rfl
 have fz1:=Z4 (G:=G) (o:=.lst acc) (ds:=tab n λk=>f (6 + 14 * n + i * n + k)) λ_=>Gw
 have fz2:=Z4 (G:=G) (o:=.lst acc) (ds:=tab n (flS n f u i)) λ_=>Gw
 generalize ((6 + 14 * n:Nat):Int)=B at c1;have hnl:n<=1000000:=by omega
 unfold Mw;simp [hnl,hr,cs1,cs2,c1,c2,fz1,fz2,Dh,G6,hal]
theorem ZBU (hf:∀k:Nat,k<=1000->∀G,Ar [.fl (ns.map D.int),.int k] G=.ok (.int (f k)) G) (hu:0 < u) (cu:∀G,Do [.fl (ns.map D.int)] G=.ok (.int u) G) {n:Nat} (ht:6 + 14 * n + t * n<=1000) (ht2:t<=100) (hn2:n<=1000) {s1 s2:Option D} (G:DH):∀(m i:Nat) (x6 x7:Option D),i + m=t->∃y6 y7,
  Cp (gV 6) Mw (Bl i m) [some (.fl (ns.map D.int)),s1,s2,some (.int n),some (.int ((6 + 14 * n:Nat):Int)),some (.ref G.length),x6,x7] (G++ [.lst (Ai n ((List.range i).map (flS n f u)))])=
   .nx [some (.fl (ns.map D.int)),s1,s2,some (.int n),some (.int ((6 + 14 * n:Nat):Int)),some (.ref G.length),y6,y7] (G++ [.lst (Ai n ((List.range t).map (flS n f u)))])
 | 0,i,x6,x7,e=>by
  have e1:i=t:=by omega
  subst e1;exact ⟨x6,x7,by rw [Hl,Ec]⟩
 | m + 1,i,x6,x7,e=>by
  obtain ⟨y6,y7,ih⟩:=ZBU hf hu cu ht ht2 hn2 (s1:=s1) (s2:=s2) G m (i + 1) (some (.int i)) (some (.fl (tab n λk=>f (6 + 14 * n + i * n + k)))) (by omega);refine ⟨y6,y7,?_⟩;have hm:(i + 1) * n<=t * n:=Nat.mul_le_mul_right n (by omega);have hm2:(i + 1) * n=i * n + n:=Nat.succ_mul i n;have hb:=ZE0 hf hu cu (n:=n) (i:=i) (by omega) (by omega) hn2 (s1:=s1) (s2:=s2) (x:=x7) (acc:=Ai n ((List.range i).map (flS n f u))) (by simp [Ai];omega) G
  have ea:Ai n ((List.range i).map (flS n f u))++ [.tup (tab n (flS n f u i))]=Ai n ((List.range (i + 1)).map (flS n f u)):=by simp [Ai,List.range_succ]
  rw [ea] at hb;rw [Gp,Dz];simp only [Ea,R.Eg,List.set,hb,Ek];have e1:((i:Int) + 1)=((i + 1:Nat):Int):=by omega
  rw [e1,ih]
theorem ZD6 (hf:∀k:Nat,k<=1000->∀G,Ar [.fl (ns.map D.int),.int k] G=.ok (.int (f k)) G) (hu:0 < u) (cu:∀G,Do [.fl (ns.map D.int)] G=.ok (.int u) G) (g:GoodH h) (ht:6 + 14 * h.n + t * h.n<=1000) (ht2:t<=100) (G:DH):
  R0 [.fl (ns.map D.int),h.enc,.int t] G=.ok (.ref G.length) (G++ [.lst (Ai h.n ((List.range t).map (flS h.n f u)))]):=by
 have hn:=g.len;obtain ⟨y6,y7,hL⟩:=ZBU hf hu cu ht ht2 (by omega) (s1:=some h.enc) (s2:=some (.int t)) G t 0 none none (by omega);have hL':Cp (gV 6) Mw (Bl 0 t) [some (.fl (ns.map D.int)),some h.enc,some (.int t),some (.int h.n),some (.int ((6 + 14 * h.n:Nat):Int)),some (.ref G.length),none,none] (G++ [.lst []])=
   .nx [some (.fl (ns.map D.int)),some h.enc,some (.int t),some (.int h.n),some (.int ((6 + 14 * h.n:Nat):Int)),some (.ref G.length),y6,y7] (G++ [.lst (Ai h.n ((List.range t).map (flS h.n f u)))]):=hL
 have m14:∀G,Ay (.int 14) (.int (h.n:Int)) G=.ok (.int (14 * (h.n:Int))) G:=λG=>Gg (by omega) (by omega)
 have e6:(6 + 14 * (h.n:Int))=((6 + 14 * h.n:Nat):Int):=by omega
 generalize hB:((6 + 14 * h.n:Nat):Int)=B at hL' e6;have hr:inR (t:Int):=Em (by omega) (by omega);unfold R0 Qq;rw [Bh];simp [I8,Hs.K6,m14,e6,An,Fb,hr,hL']
def mcell (h:Hs) (f:Nat->Int) (k:Nat):Int:=f (6 + 24 * h.n + k)
def lvM (h:Hs) (f:Nat->Int) (u:Int) (lv:Nat->Int) (k:Nat):Int:=match (h.pl k).kd with
 | .basin b _ _=>lv k + amt (mcell h f k / 2) u % (b - lv k + 1) * (mcell h f k % 2)
 | _=>lv k
def coM (h:Hs) (f:Nat->Int) (u:Int) (co:Nat->Nat->Int) (k j:Nat):Int:=co k j + u * (mcell h f k / 2 % 2)
def flM (h:Hs) (f:Nat->Int) (u:Int) (fl:Nat->Nat->Int) (i k:Nat):Int:=fl i k + amt (f (6 + 24 * h.n + h.n + i * h.n + k) / 2) u * (f (6 + 24 * h.n + h.n + i * h.n + k) % 2)
theorem ZBo:tab k F++ [.int (F k)]=tab (k + 1) F:=by simp [tab,List.range_succ]
theorem ZFh:Bd k co++ [.tup (tab 5 (co k))]=Bd (k + 1) co:=by simp [Bd,List.range_succ]
theorem Uz {n:Nat} (hk:k < n):atI (Bd n co) (k:Int)=some (.tup (tab 5 (co k))):=Dk rfl (by simp [Bd,hk])
theorem ZFJ (h:∀m,bels m ds=true):freeze (G++ [A,B]) (.ok (.ref (G.length + 2)) (G++ [A,B,.lst ds]))=.ok (.fl ds) (G++ [A,B]):=by have:=Dt (G:=G++ [A,B]) (ds:=ds) (L:= []) (h _);simpa using this
theorem Vr {C:DO} (h:∀m,bels m ds=true):freeze (G++ [A,B,C]) (.ok (.ref (G.length + 3)) (G++ [A,B,C,.lst ds]))=.ok (.fl ds) (G++ [A,B,C]):=by have:=Dt (G:=G++ [A,B,C]) (ds:=ds) (L:= []) (h _);simpa using this
section
variable {ns:List Int} {f:Nat->Int} {u:Int} {h:Hs}
theorem ZDv (hf:∀k:Nat,k<=1000->∀G,Ar [.fl (ns.map D.int),.int k] G=.ok (.int (f k)) G) (hu:0 < u) (g:GoodH h) (hb:∀k b r q,k < h.n->(h.pl k).kd=.basin b r q->lv k<=b) (hk:k < h.n) {s3 x10 x11 x12 s14 s15 s16 s17:Option D} (G:DH):∃y12,
  Jd [some (.fl (ns.map D.int)),some h.enc,some (stD h.n lv co),s3,some (.int u),some (.int h.n),some (.int ((6 + 24 * h.n:Nat):Int)),some (.ref G.length),some (.ref (G.length + 1)),some (.int k),x10,x11,x12,s14,s15,s16,s17] (G++ [.lst (tab k (lvM h f u lv)),.lst (Bd k (coM h f u co))])=
   .nx [some (.fl (ns.map D.int)),some h.enc,some (stD h.n lv co),s3,some (.int u),some (.int h.n),some (.int ((6 + 24 * h.n:Nat):Int)),some (.ref G.length),some (.ref (G.length + 1)),some (.int k),some (.int (mcell h f k)),some (.int (lvM h f u lv k)),y12,s14,s15,s16,s17] (G++ [.lst (tab (k + 1) (lvM h f u lv)),.lst (Bd (k + 1) (coM h f u co))]):=by
 have hn:=g.len;have hc:∀G,Ar [.fl (ns.map D.int),.int (((6 + 24 * h.n:Nat):Int) + (k:Int))] G=.ok (.int (mcell h f k)) G:=λG=>by have:=hf (6 + 24 * h.n + k) (by omega) G;rwa [show ((6 + 24 * h.n + k:Nat):Int)=((6 + 24 * h.n:Nat):Int) + k by omega] at this
 generalize ((6 + 24 * h.n:Nat):Int)=B at hc;have ap:atI h.Cr (k:Int)=some (h.encP (h.pl k)):=Hs.ZBa hk;have al:atI (tab h.n lv) (k:Int)=some (.int (lv k)):=Gm hk;have ar:atI (Bd h.n co) (k:Int)=some (.tup (tab 5 (co k))):=Uz hk;have mu:∀G,Ay (.int u) (.int (mcell h f k / 2 % 2)) G=.ok (.int (u * (mcell h f k / 2 % 2))) G:=λG=>Gj (by omega) (by omega)
 have cp:∀G,Cu (gV 0) Bm Wr [none,some (.int u),some (.int (mcell h f k))] (tab 5 (co k)) G=.ok (tab 5 (coM h f u co k)) G:=λG=>M7 (E:=λj=>D.int (co k j)) (F:=λj=>.int (coM h f u co k j)) λj _=>by unfold Wr;simp [mu,coM]
 have fz:∀ds ds':List D,freeze (G++ [.lst ds,.lst ds']) (.ok (.ref (G.length + 2)) (G++ [.lst ds,.lst ds',.lst (tab 5 (coM h f u co k))]))=.ok (.fl (tab 5 (coM h f u co k))) (G++ [.lst ds,.lst ds']):=λds ds'=>ZFJ λ_=>Gw
 have hl1:k < 1000000:=by omega
 have cs:∀a b c d e f' g h i j k' l m n o p q:Option D,Bb 1 [4,10] [a,b,c,d,e,f',g,h,i,j,k',l,m,n,o,p,q]= [none,e,k']:=λ_ _ _ _ _ _ _ _ _ _ _ _ _ _ _ _ _=>rfl
 have g0:∀a b:DO,(G++ [a,b])[G.length]? =some a:=λa b=>by simp
 have g1:∀a b:DO,(G++ [a,b])[G.length + 1]? =some b:=λa b=>by simp
 have s0:∀a b c:DO,(G++ [a,b]).set G.length c=G++ [c,b]:=λa b c=>by simp
 have s1:∀a b c:DO,(G++ [a,b]).set (G.length + 1) c=G++ [a,c]:=λa b c=>by simp
 have t1:=ZBo (k:=k) (F:=lvM h f u lv);have t2:=ZFh (k:=k) (co:=coM h f u co);have et:∀ds:List D,Di [.fl ds]=λG=>.ok (.tup ds) G:=λds=>rfl
 have hT5:(tab 5 (coM h f u co k)).length<=1000000:=by simp
 generalize tab 5 (coM h f u co k)=T5 at cp fz t2 hT5;generalize tab (k + 1) (lvM h f u lv)=TL at t1;generalize Bd (k + 1) (coM h f u co)=RL at t2;unfold stD;cases ek:(h.pl k).kd with
 | basin b r q=>
  have hbl:=hb k b r q hk ek;have hv:lvM h f u lv k=lv k + amt (mcell h f k / 2) u % (b - lv k + 1) * (mcell h f k % 2):=by unfold lvM;rw [ek]
  have e4:∀G,Ak (h.encP (h.pl k)) (.int 4) G=.ok (.int b) G:=λG=>by unfold Hs.encP;rw [ek];simp
  have r0:0 < b - lv k + 1:=by omega
  have m2:∀x G,Ay (.int x) (.int (mcell h f k % 2)) G=.ok (.int (x * (mcell h f k % 2))) G:=λx G=>Gj (by omega) (by omega)
  have om:∀x G,Az (.int x) (.int (b - lv k + 1)) G=.ok (.int (x % (b - lv k + 1))) G:=λx G=>by simp [r0]
  refine ⟨some (.int (b - lv k + 1)),?_⟩;rw [hv] at t1 ⊢;unfold Jd;simp [hT5,hc,al,I8,ap,La,ek,Kd.isB,e4,H9 hu,om,m2,g0,g1,s0,s1,hl1,t1,ar,cs,cp,fz,et,t2]
 | town a b=>
  have hv:lvM h f u lv k=lv k:=by unfold lvM;rw [ek]
  refine ⟨x12,?_⟩;rw [hv] at t1 ⊢;unfold Jd;simp [hT5,hc,al,I8,ap,La,ek,Kd.isB,g0,g1,s0,s1,hl1,t1,ar,cs,cp,fz,et,t2]
 | mill a=>
  have hv:lvM h f u lv k=lv k:=by unfold lvM;rw [ek]
  refine ⟨x12,?_⟩;rw [hv] at t1 ⊢;unfold Jd;simp [hT5,hc,al,I8,ap,La,ek,Kd.isB,g0,g1,s0,s1,hl1,t1,ar,cs,cp,fz,et,t2]
theorem ZAr (hf:∀k:Nat,k<=1000->∀G,Ar [.fl (ns.map D.int),.int k] G=.ok (.int (f k)) G) (hu:0 < u) (g:GoodH h) {co:Nat->Nat->Int} (hb:∀k b r q,k < h.n->(h.pl k).kd=.basin b r q->lv k<=b) {s3 s14 s15 s16 s17:Option D} (G:DH):∀(m k:Nat) (x9 x10 x11 x12:Option D),k + m=h.n->∃y9 y10 y11 y12,
  Cp (gV 9) Jd (Bl k m) [some (.fl (ns.map D.int)),some h.enc,some (stD h.n lv co),s3,some (.int u),some (.int h.n),some (.int ((6 + 24 * h.n:Nat):Int)),some (.ref G.length),some (.ref (G.length + 1)),x9,x10,x11,x12,s14,s15,s16,s17] (G++ [.lst (tab k (lvM h f u lv)),.lst (Bd k (coM h f u co))])=
   .nx [some (.fl (ns.map D.int)),some h.enc,some (stD h.n lv co),s3,some (.int u),some (.int h.n),some (.int ((6 + 24 * h.n:Nat):Int)),some (.ref G.length),some (.ref (G.length + 1)),y9,y10,y11,y12,s14,s15,s16,s17] (G++ [.lst (tab h.n (lvM h f u lv)),.lst (Bd h.n (coM h f u co))])
 | 0,k,x9,x10,x11,x12,e=>by
  have e1:k=h.n:=by omega
  subst e1;exact ⟨x9,x10,x11,x12,by rw [Hl,Ec]⟩
 | m + 1,k,x9,x10,x11,x12,e=>by
  obtain ⟨z12,hb1⟩:=ZDv hf hu g hb (k:=k) (by omega) (s3:=s3) (x10:=x10) (x11:=x11) (x12:=x12) (s14:=s14) (s15:=s15) (s16:=s16) (s17:=s17) (co:=co) G;obtain ⟨y9,y10,y11,y12,ih⟩:=ZAr hf hu g hb (s3:=s3) (s14:=s14) (s15:=s15) (s16:=s16) (s17:=s17) (co:=co) G m (k + 1) (some (.int k)) (some (.int (mcell h f k))) (some (.int (lvM h f u lv k))) z12 (by omega);refine ⟨y9,y10,y11,y12,?_⟩;rw [Gp,Dz];simp only [Ea,R.Eg,List.set,hb1,Ek]
  have e1:((k:Int) + 1)=((k + 1:Nat):Int):=by omega
  rw [e1,ih]
theorem ZCA (hf:∀k:Nat,k<=1000->∀G,Ar [.fl (ns.map D.int),.int k] G=.ok (.int (f k)) G) (hu:0 < u) (g:GoodH h) {fl:Nat->Nat->Int} (hi:i < t) (ht:t<=6) {s7 s8 s9 s10 s11 s12 s14 x16 x17:Option D} {acc:List D} (ha:acc.length<=100) (G:DH):∃y16 y17,
  Mg [some (.fl (ns.map D.int)),some h.enc,s2,some (.fl (Ai h.n ((List.range t).map fl))),some (.int u),some (.int h.n),some (.int ((6 + 24 * h.n:Nat):Int)),s7,s8,s9,s10,s11,s12,some (.ref (G.length + 2)),some (.int i),x16,x17] (G++ [A,B,.lst acc])=
   .nx [some (.fl (ns.map D.int)),some h.enc,s2,some (.fl (Ai h.n ((List.range t).map fl))),some (.int u),some (.int h.n),some (.int ((6 + 24 * h.n:Nat):Int)),s7,s8,s9,s10,s11,s12,some (.ref (G.length + 2)),some (.int i),y16,y17] (G++ [A,B,.lst (acc++ [.tup (tab h.n (flM h f u fl i))])]):=by
 have hn:=g.len;have hin:i * h.n<=6 * 12:=Nat.mul_le_mul (by omega) hn;have mi:∀G,Ay (.int (i:Int)) (.int (h.n:Int)) G=.ok (.int ((i:Int) * h.n)) G:=λG=>Gg (by omega) (by omega)
 have c3:∀G,Cu (gV 0) Bm Vl [none,some (.fl (ns.map D.int)),some (.int h.n),some (.int ((6 + 24 * h.n:Nat):Int)),some (.int i)] (Bl 0 h.n) G=.ok (tab h.n λk=>f (6 + 24 * h.n + h.n + i * h.n + k)) G:=λG=>
  Kh (F:=λk=>.int (f (6 + 24 * h.n + h.n + i * h.n + k))) λk hk=>by
   have h1:=hf (6 + 24 * h.n + h.n + i * h.n + k) (by omega) G;have e1:((6 + 24 * h.n + h.n + i * h.n + k:Nat):Int)=((6 + 24 * h.n:Nat):Int) + (h.n:Int) + (i:Int) * h.n + k:=by rw [Int.natCast_add,Int.natCast_add,Int.natCast_add,Int.natCast_mul]
   rw [e1] at h1;generalize ((6 + 24 * h.n:Nat):Int)=B at h1;unfold Vl;simp [mi,h1]
 have c4:∀G,Cu (gV 0) Bm We [none,some (.int u)] (tab h.n λk=>f (6 + 24 * h.n + h.n + i * h.n + k)) G=.ok (tab h.n λk=>amt (f (6 + 24 * h.n + h.n + i * h.n + k) / 2) u * (f (6 + 24 * h.n + h.n + i * h.n + k) % 2)) G:=λG=>
  M7 (E:=λk=>.int (f (6 + 24 * h.n + h.n + i * h.n + k))) (F:=λk=>.int (amt (f (6 + 24 * h.n + h.n + i * h.n + k) / 2) u * (f (6 + 24 * h.n + h.n + i * h.n + k) % 2))) λk _=>by
   generalize f (6 + 24 * h.n + h.n + i * h.n + k)=c;have m2:∀x G,Ay (.int x) (.int (c % 2)) G=.ok (.int (x * (c % 2))) G:=λx G=>Gj (by omega) (by omega)
   unfold We;simp [H9 hu,m2]
 have af:atI (Ai h.n ((List.range t).map fl)) (i:Int)=some (.tup (tab h.n (fl i))):=Dk rfl (by simp [Ai,hi]);have c5:∀G,Cu (gV 0) Bm Vw [none,some (.fl (Ai h.n ((List.range t).map fl))),some (.int i),some (.fl (tab h.n λk=>amt (f (6 + 24 * h.n + h.n + i * h.n + k) / 2) u * (f (6 + 24 * h.n + h.n + i * h.n + k) % 2)))] (Bl 0 h.n) G=.ok (tab h.n (flM h f u fl i)) G:=λG=>
  Kh (F:=λk=>.int (flM h f u fl i k)) λk hk=>by have a1:atI (tab h.n (fl i)) (k:Int)=some (.int (fl i k)):=Gm hk;have a2:atI (tab h.n λk=>amt (f (6 + 24 * h.n + h.n + i * h.n + k) / 2) u * (f (6 + 24 * h.n + h.n + i * h.n + k) % 2)) (k:Int)=some (.int (amt (f (6 + 24 * h.n + h.n + i * h.n + k) / 2) u * (f (6 + 24 * h.n + h.n + i * h.n + k) % 2))):=Gm hk;unfold Vw;simp [af,a1,a2,flM]
 have hr:inR (h.n:Int):=Em (by omega) (by omega);have cs3:∀a b c d e f' g h i j k' l m n o p q:Option D,Bb 1 [0,5,6,14] [a,b,c,d,e,f',g,h,i,j,k',l,m,n,o,p,q]= [none,a,f',g,o]:=λ_ _ _ _ _ _ _ _ _ _ _ _ _ _ _ _ _=>rfl
 have cs4:∀a b c d e f' g h i j k' l m n o p q:Option D,Bb 1 [4] [a,b,c,d,e,f',g,h,i,j,k',l,m,n,o,p,q]= [none,e]:=λ_ _ _ _ _ _ _ _ _ _ _ _ _ _ _ _ _=>rfl
 have cs5:∀a b c d e f' g h i j k' l m n o p q:Option D,Bb 1 [3,14,16] [a,b,c,d,e,f',g,h,i,j,k',l,m,n,o,p,q]= [none,d,o,q]:=λ_ _ _ _ _ _ _ _ _ _ _ _ _ _ _ _ _=>rfl
 have fz3:=Vr (G:=G) (A:=A) (B:=B) (C:=.lst acc) (ds:=tab h.n λk=>f (6 + 24 * h.n + h.n + i * h.n + k)) λ_=>Gw
 have fz4:=Vr (G:=G) (A:=A) (B:=B) (C:=.lst acc) (ds:=tab h.n λk=>amt (f (6 + 24 * h.n + h.n + i * h.n + k) / 2) u * (f (6 + 24 * h.n + h.n + i * h.n + k) % 2)) λ_=>Gw
 have fz5:=Vr (G:=G) (A:=A) (B:=B) (C:=.lst acc) (ds:=tab h.n (flM h f u fl i)) λ_=>Gw
 have g2:(G++ [A,B,.lst acc])[G.length + 2]? =some (.lst acc):=by simp
 have s2:∀c:DO,(G++ [A,B,.lst acc]).set (G.length + 2) c=G++ [A,B,c]:=λc=>by simp
 have hal:acc.length < 1000000:=by omega
 refine ⟨some (.fl (tab h.n λk=>f (6 + 24 * h.n + h.n + i * h.n + k))),some (.fl (tab h.n λk=>amt (f (6 + 24 * h.n + h.n + i * h.n + k) / 2) u * (f (6 + 24 * h.n + h.n + i * h.n + k) % 2))),?_⟩;generalize ((6 + 24 * h.n:Nat):Int)=BB at c3;have l4:(tab h.n λk=>amt (f (6 + 24 * h.n + h.n + i * h.n + k) / 2) u * (f (6 + 24 * h.n + h.n + i * h.n + k) % 2)).length<=1000000:=by simp;omega
 have l3:(tab h.n λk=>f (6 + 24 * h.n + h.n + i * h.n + k)).length<=1000000:=by simp;omega
 have l5:(tab h.n (flM h f u fl i)).length<=1000000:=by simp;omega
 generalize (tab h.n λk=>amt (f (6 + 24 * h.n + h.n + i * h.n + k) / 2) u * (f (6 + 24 * h.n + h.n + i * h.n + k) % 2))=T4 at c4 c5 fz4 l4;generalize (tab h.n λk=>f (6 + 24 * h.n + h.n + i * h.n + k))=T3 at c3 c4 fz3 l3;generalize tab h.n (flM h f u fl i)=T5 at c5 fz5 l5;unfold Mg;simp [l3,l4,l5,hr,cs3,cs4,cs5,c3,c4,c5,fz3,fz4,fz5,g2,s2,hal]
theorem ZAo (hf:∀k:Nat,k<=1000->∀G,Ar [.fl (ns.map D.int),.int k] G=.ok (.int (f k)) G) (hu:0 < u) (g:GoodH h) {fl:Nat->Nat->Int} {t:Nat} (ht:t<=6) {s2 s7 s8 s9 s10 s11 s12:Option D} {A B:DO} (G:DH):∀(m i:Nat) (x15 x16 x17:Option D),i + m=t->∃y15 y16 y17,
  Cp (gV 14) Mg (Bl i m) [some (.fl (ns.map D.int)),some h.enc,s2,some (.fl (Ai h.n ((List.range t).map fl))),some (.int u),some (.int h.n),some (.int ((6 + 24 * h.n:Nat):Int)),s7,s8,s9,s10,s11,s12,some (.ref (G.length + 2)),x15,x16,x17] (G++ [A,B,.lst (Ai h.n ((List.range i).map (flM h f u fl)))])=
   .nx [some (.fl (ns.map D.int)),some h.enc,s2,some (.fl (Ai h.n ((List.range t).map fl))),some (.int u),some (.int h.n),some (.int ((6 + 24 * h.n:Nat):Int)),s7,s8,s9,s10,s11,s12,some (.ref (G.length + 2)),y15,y16,y17] (G++ [A,B,.lst (Ai h.n ((List.range t).map (flM h f u fl)))])
 | 0,i,x15,x16,x17,e=>by
  have e1:i=t:=by omega
  subst e1;exact ⟨x15,x16,x17,by rw [Hl,Ec]⟩
 | m + 1,i,x15,x16,x17,e=>by
  obtain ⟨z16,z17,hb⟩:=ZCA hf hu g (fl:=fl) (t:=t) (i:=i) (by omega) ht (s2:=s2) (s7:=s7) (s8:=s8) (s9:=s9) (s10:=s10) (s11:=s11) (s12:=s12) (s14:=none) (x16:=x16) (x17:=x17) (A:=A) (B:=B) (acc:=Ai h.n ((List.range i).map (flM h f u fl))) (by simp [Ai];omega) G;obtain ⟨y15,y16,y17,ih⟩:=ZAo hf hu g (fl:=fl) ht (s2:=s2) (s7:=s7) (s8:=s8) (s9:=s9) (s10:=s10) (s11:=s11) (s12:=s12) (A:=A) (B:=B) G m (i + 1) (some (.int i)) z16 z17 (by omega)
  refine ⟨y15,y16,y17,?_⟩;have ea:Ai h.n ((List.range i).map (flM h f u fl))++ [.tup (tab h.n (flM h f u fl i))]=Ai h.n ((List.range (i + 1)).map (flM h f u fl)):=by simp [Ai,List.range_succ]
  rw [ea] at hb;rw [Gp,Dz];simp only [Ea,R.Eg,List.set,hb,Ek];have e1:((i:Int) + 1)=((i + 1:Nat):Int):=by omega
  rw [e1,ih]
theorem ZE9 (h1:bels G.length ds=true) (h2:bel G.length e=true):freeze G (.ok (.tup [e,.ref (G.length + 2)]) (G++ [A,B,.lst ds]))=.ok (.tup [e,.fl ds]) G:=by
 unfold freeze;have m:Dn (G++ [A,B,.lst ds]) G.length 9 (.tup [e,.ref (G.length + 2)])=some (.tup [e,.fl ds]):=by
  unfold Dn;have m1:Dn (G++ [A,B,.lst ds]) G.length 8 (.ref (G.length + 2))=some (.fl ds):=by unfold Dn;simp [U3 h1]
  have m2:Dn (G++ [A,B,.lst ds]) G.length 8 e=some e:=by unfold Dn;simp [h2]
  simp [Hh,m1,m2]
 simp [m]
theorem ZGf (hf:∀k:Nat,k<=1000->∀G,Ar [.fl (ns.map D.int),.int k] G=.ok (.int (f k)) G) (hu:0 < u) (cu:∀G,Do [.fl (ns.map D.int)] G=.ok (.int u) G) (g:GoodH h) (hb:∀k b r q,k < h.n->(h.pl k).kd=.basin b r q->lv k<=b) {fl:Nat->Nat->Int} (ht:t<=6) (G:DH):
  freeze G (Ms [.fl (ns.map D.int),h.enc,stD h.n lv co,.fl (Ai h.n ((List.range t).map fl))] G)=.ok (.tup [stD h.n (lvM h f u lv) (coM h f u co),.fl (Ai h.n ((List.range t).map (flM h f u fl)))]) G:=by
 have hn:=g.len;obtain ⟨y9,y10,y11,y12,h1⟩:=ZAr hf hu g hb (co:=co) (s3:=some (.fl (Ai h.n ((List.range t).map fl)))) (s14:=none) (s15:=none) (s16:=none) (s17:=none) G h.n 0 none none none none (by omega);obtain ⟨y15,y16,y17,h2⟩:=ZAo hf hu g (fl:=fl) ht (s2:=some (stD h.n lv co)) (s7:=some (.ref G.length)) (s8:=some (.ref (G.length + 1))) (s9:=y9) (s10:=y10) (s11:=y11) (s12:=y12) (A:=.lst (tab h.n (lvM h f u lv))) (B:=.lst (Bd h.n (coM h f u co))) G t 0 none none none (by omega)
 have h1':Cp (gV 9) Jd (Bl 0 h.n) [some (.fl (ns.map D.int)),some h.enc,some (stD h.n lv co),some (.fl (Ai h.n ((List.range t).map fl))),some (.int u),some (.int h.n),some (.int ((6 + 24 * h.n:Nat):Int)),some (.ref G.length),some (.ref (G.length + 1)),none,none,none,none,none,none,none,none] (G++ [.lst [],.lst []])=_:=h1;have h2':Cp (gV 14) Mg (Bl 0 t) [some (.fl (ns.map D.int)),some h.enc,some (stD h.n lv co),some (.fl (Ai h.n ((List.range t).map fl))),some (.int u),some (.int h.n),some (.int ((6 + 24 * h.n:Nat):Int)),some (.ref G.length),some (.ref (G.length + 1)),y9,y10,y11,y12,some (.ref (G.length + 2)),none,none,none] (G++ [.lst (tab h.n (lvM h f u lv)),.lst (Bd h.n (coM h f u co)),.lst []])=_:=h2
 have m24:∀G,Ay (.int 24) (.int (h.n:Int)) G=.ok (.int (24 * (h.n:Int))) G:=λG=>Gg (by omega) (by omega)
 have e6:(6 + 24 * (h.n:Int))=((6 + 24 * h.n:Nat):Int):=by omega
 have fu:freeze G (.ok (.int u) G)=.ok (.int u) G:=Ky rfl;have hr:inR (h.n:Int):=Em (by omega) (by omega);have hrt:inR (t:Int):=Em (by omega) (by omega);have t1:tidy (G++ [.lst []]) (.ok (.ref (G.length + 1)) (G++ [.lst [],.lst []]))=.ok (.ref (G.length + 1)) (G++ [.lst [],.lst []]):=ZAb rfl;have t2:∀A B:DO,tidy (G++ [A,B]) (.ok (.ref (G.length + 2)) (G++ [A,B,.lst []]))=.ok (.ref (G.length + 2)) (G++ [A,B,.lst []]):=λA B=>by have:=Fb (G:=G++ [A,B]) (ds:= []) (L:= []) rfl;simpa using this
 have lfl:(Ai h.n ((List.range t).map fl)).length=t:=by simp [Ai]
 have fm:=ZE9 (G:=G) (A:=.lst (tab h.n (lvM h f u lv))) (B:=.lst (Bd h.n (coM h f u co))) (ds:=Ai h.n ((List.range t).map (flM h f u fl))) (e:=stD h.n (lvM h f u lv) (coM h f u co)) Lh ZD0;have g0:∀b c:DO,(G++ [.lst (tab h.n (lvM h f u lv)),b,c])[G.length]? =some (.lst (tab h.n (lvM h f u lv))):=λb c=>by simp
 have g1:∀a c:DO,(G++ [a,.lst (Bd h.n (coM h f u co)),c])[G.length + 1]? =some (.lst (Bd h.n (coM h f u co))):=λa c=>by simp
 have tt:∀(e:D) (G':DH),tidy G (.ok (.tup [e,.ref (G.length + 2)]) G')=.ok (.tup [e,.ref (G.length + 2)]) G':=λe G'=>ZEc (by simp)
 have cm:Ms [.fl (ns.map D.int),h.enc,stD h.n lv co,.fl (Ai h.n ((List.range t).map fl))] G=.ok (.tup [stD h.n (lvM h f u lv) (coM h f u co),.ref (G.length + 2)]) (G++ [.lst (tab h.n (lvM h f u lv)),.lst (Bd h.n (coM h f u co)),.lst (Ai h.n ((List.range t).map (flM h f u fl)))]):=by
  generalize ((6 + 24 * h.n:Nat):Int)=BB at h1' h2' e6;generalize Ai h.n ((List.range t).map (flM h f u fl))=F2 at h2';generalize Ai h.n ((List.range t).map fl)=F1 at h1' h2' lfl;generalize stD h.n lv co=E0 at h1' h2';unfold stD;generalize tab h.n (lvM h f u lv)=TL at h1' h2' g0;generalize Bd h.n (coM h f u co)=RL at h1' h2' g1;unfold Ms Rk;rw [Bh];simp [cu,fu,I8,Hs.K6,m24,e6,An,Fb,t1,hr,h1',t2,lfl,hrt,h2',g0,g1,By,tt]
 rw [cm,fm]
end
theorem ZBD {te:DE} {n:Nat} {E1 E2 F:Nat->D} {d:D} (hd:Bt d G=some ((List.range n).map E1)) (he:Bt e G=some ((List.range n).map E2)) (h:∀k,k < n->te [some (E1 k),some (E2 k)] G=.ok (F k) G):
  Ez (Gn [d,e]) (Es 2 (Dc (gV 0) (Dc (gV 1) Fx))) Bm te (Bb 2 [] S) n 0 G=.ok ((List.range n).map F) G:=by
 have hf:∀j,Gn [d,e] j G=some ((List.range n).map λi=>D.tup [E1 i,E2 i])[j]? :=λj=>by
  rw [ZB6 hd he,Wv,List.zip_map',List.map_map]
  rfl
 have hc:Bb 2 [] S= [none,none]:=rfl;rw [hc];have key:∀m j,j + m=n->Ez (Gn [d,e]) (Es 2 (Dc (gV 0) (Dc (gV 1) Fx))) Bm te [none,none] m j G=.ok ((List.range' j m).map F) G:=by
  intro m
  induction m with
  | zero=>
   intro j hj;unfold Ez;rw [hf,List.getElem?_eq_none (by simp;omega)]
   rfl
  | succ m ih=>
   intro j hj;have hlt:j < n:=by omega
   unfold Ez;rw [hf,List.getElem?_map,List.getElem?_range hlt];have hg:(Es 2 (Dc (gV 0) (Dc (gV 1) Fx))) (.tup [E1 j,E2 j]) [none,none] G=.ok [some (E1 j),some (E2 j)] G:=by simp
   simp only [Option.map_some,hg,R.U8,ZAU,if_true,h j hlt,ih (j + 1) (by omega)];rw [List.range'_succ,List.map_cons]
 have:=key n 0 (by omega);rw [this,List.range_eq_range']
def leN (n:Nat) (a b:Nat->Int):Bool:=(List.range n).all λk=>decide (a k<=b k)
def Ep (w m:Nat) (A:Nat->Nat->Int):List D:=(List.range m).map λi=>D.tup (tab w (A i))
@[simp] theorem ZCF {A:Nat->Nat->Int}:(Ep w m A).length=m:=by simp [Ep]
theorem Zu {A:Nat->Nat->Int} (hk:k < m):atI (Ep w m A) (k:Int)=some (.tup (tab w (A k))):=Dk rfl (by simp [Ep,hk])
def leR (w m:Nat) (A B:Nat->Nat->Int):Bool:=(List.range m).all λi=>leN w (A i) (B i)
theorem ZAO {n:Nat} {p:Nat->Bool}:((List.range n).map λk=>D.bl (p k))=((List.range n).map p).map D.bl:=by rw [List.map_map];rfl
theorem ZAg {ks:List Bool}:bels m (ks.map D.bl)=true:=Hm λ_ _=>rfl
theorem ZBi {n:Nat} {a b:Nat->Int} (hn:n<=1000) (G:DH):Mh [.tup (tab n a),.tup (tab n b)] G=.ok (.bl (leN n a b)) G:=by
 have hz:=Yr (G:=G) (Sg (xs:=tab n a)) (Sg (xs:=tab n b));rw [ZD5] at hz;have hc:=ZBD (te:=Va) (S:= [some (.tup (tab n a)),some (.tup (tab n b))]) (n:=n) (E1:=λi=>.int (a i)) (E2:=λi=>.int (b i)) (F:=λk=>.bl (decide (a k<=b k))) (G:=G) (Sg (xs:=tab n a)) (Sg (xs:=tab n b)) λk _=>by unfold Va;simp
 rw [ZAO] at hc;have ha:((List.range n).map λk=>decide (a k<=b k)).all id=leN n a b:=by rw [List.all_map];rfl
 have hl:((List.range n).map λk=>decide (a k<=b k)).length<=1000000:=by simp;omega
 generalize ((List.range n).map λk=>decide (a k<=b k))=ks at hc ha hl;have fz:freeze G (.ok (.ref G.length) (G++ [.lst (ks.map D.bl)]))=.ok (.fl (ks.map D.bl)) G:=Dt ZAg;unfold Mh Mm;rw [Bh];simp [hz,hc,hl,fz,ha,Bu]
theorem ZA3 {m':Nat} {A B:Nat->Nat->Int} (hw:w<=1000) (hm:m<=1000) {d:D} (hd:Bt d G=some (Ep w m A)) (he:Bt e G=some (Ep w m' B)) (ld:Bs [d] G=.ok (.int m) G) (le':Bs [e] G=.ok (.int m') G):
  Ii [d,e] G=.ok (.bl (decide (m=m') && leR w m A B)) G:=by
 by_cases h:m=m'
 ·subst h;have hz:=Yr (G:=G) hd he;rw [ZCF] at hz;have hc:=ZBD (te:=W8) (S:= [some d,some e]) (n:=m) (E1:=λi=>.tup (tab w (A i))) (E2:=λi=>.tup (tab w (B i))) (F:=λk=>.bl (leN w (A k) (B k))) (G:=G) hd he λk _=>by unfold W8;simp [ZBi hw]
  rw [ZAO] at hc;have ha:((List.range m).map λk=>leN w (A k) (B k)).all id=leR w m A B:=by rw [List.all_map];rfl
  have hl:((List.range m).map λk=>leN w (A k) (B k)).length<=1000000:=by simp;omega
  generalize ((List.range m).map λk=>leN w (A k) (B k))=ks at hc ha hl;have fz:freeze G (.ok (.ref G.length) (G++ [.lst (ks.map D.bl)]))=.ok (.fl (ks.map D.bl)) G:=Dt ZAg;unfold Ii Iv;rw [Bh];simp [ld,le',hz,hc,hl,fz,ha,Bu]
 ·have h2:¬(m:Int)=(m':Int):=by omega
  unfold Ii Iv;rw [Bh];simp [ld,le',h,h2,Bu]
theorem ZDD {n:Nat} (hn:n<=1000) {co':Nat->Nat->Int} (G:DH):Lx [stD n lv co,stD n lv' co'] G=.ok (.bl (leN n lv lv' && leR 5 n co co')) G:=by
 have h1:=ZBi hn (a:=lv) (b:=lv') G;have h2:=ZA3 (w:=5) (m:=n) (m':=n) (A:=co) (B:=co') (by omega) hn (d:=.tup (Bd n co)) (e:=.tup (Bd n co')) (G:=G) rfl rfl (by simp) (by simp);simp at h2;unfold stD Lx Nu;rw [Bh]
 cases e:leN n lv lv' <;> simp [h1,h2,e,Bu]
theorem ZBT {b:DS} {u v:Option D} {p:Nat->Bool} {n:Nat} (h:∀k:Nat,k < n->b [u,v,some (.int k)] G=if p k=true then .nx [u,v,some (.int k)] G else .rt (.bl false) G):∀(m k:Nat) (x:Option D),k + m=n->∃y,Cp (gV 2) b (Bl k m) [u,v,x] G=if (List.range' k m).all p=true then .nx [u,v,y] G else .rt (.bl false) G
 | 0,k,x,e=>⟨x,by rw [Hl,Ec];rfl⟩
 | m + 1,k,x,e=>by
  obtain ⟨y,ih⟩:=ZBT h m (k + 1) (some (.int k)) (by omega);refine ⟨y,?_⟩;have hb:=h k (by omega);have e1:((k:Int) + 1)=((k + 1:Nat):Int):=by omega
  rw [Gp,Dz];simp only [Ea,R.Eg,List.set,hb];rw [List.range'_succ,List.all_cons];cases hp:p k
  ·simp
  ·simp only [if_true,Ek,e1,ih,Bool.true_and]
theorem Uy {b:DS} {u v:Option D} {p:Nat->Bool} {n:Nat} (h:∀k:Nat,k < n->b [u,v,some (.int k)] G=if p k=true then .nx [u,v,some (.int k)] G else .rt (.bl false) G):∃y,Cp (gV 2) b (Bl 0 n) [u,v,none] G=if (List.range' 0 n).all p=true then .nx [u,v,y] G else .rt (.bl false) G:=ZBT h n 0 none (by omega)
theorem Zn {n:Nat} (hn:n<=1000) {a b:Nat->Int} (G:DH):Nt [.tup (tab n a),.tup (tab n b)] G=.ok (.bl (leN n a b)) G:=by
 obtain ⟨y,hL⟩:=Uy (b:=Vd) (u:=some (.tup (tab n a))) (v:=some (.tup (tab n b))) (p:=λk=>decide (a k<=b k)) (G:=G) (n:=n) (λk hk=>by
  have a1:atI (tab n a) (k:Int)=some (.int (a k)):=Gm hk;have a2:atI (tab n b) (k:Int)=some (.int (b k)):=Gm hk;unfold Vd;by_cases h:a k<=b k
  ·have h':¬b k < a k:=by omega
   simp [a1,a2,h,h']
  ·have h':b k < a k:=by omega
   simp [a1,a2,h,h'])
 have hr:inR (n:Int):=Em (by omega) (by omega);have e:(List.range' 0 n).all (λk=>decide (a k<=b k))=leN n a b:=by rw [<-List.range_eq_range'];rfl
 rw [e] at hL;unfold Nt O2;rw [Bh]
 cases h:leN n a b <;> simp [hr,hL,h,Bu]
theorem ZEO {p q:Nat->Bool}:l.all (λk=>p k && q k)=(l.all p && l.all q):=by
 induction l with
 | nil=>rfl
 | cons a l ih=>simp only [List.all_cons,ih];cases p a <;> cases q a <;> simp
theorem ZDm {n:Nat} (hn:n<=1000) {co':Nat->Nat->Int} (G:DH):Nr [stD n lv co,stD n lv' co'] G=.ok (.bl (leN n lv lv' && leR 5 n co co')) G:=by
 obtain ⟨y,hL⟩:=Uy (b:=U0) (u:=some (stD n lv co)) (v:=some (stD n lv' co')) (p:=λk=>decide (lv k<=lv' k) && leN 5 (co k) (co' k)) (G:=G) (n:=n) (λk hk=>by
  have a1:atI (tab n lv) (k:Int)=some (.int (lv k)):=Gm hk;have a2:atI (tab n lv') (k:Int)=some (.int (lv' k)):=Gm hk;have a3:atI (Bd n co) (k:Int)=some (.tup (tab 5 (co k))):=Uz hk;have a4:atI (Bd n co') (k:Int)=some (.tup (tab 5 (co' k))):=Uz hk;have c:=λG=>Zn (n:=5) (by omega) (a:=co k) (b:=co' k) G
  unfold stD U0;by_cases h:lv k<=lv' k
  ·have h':¬lv' k < lv k:=by omega
   cases e:leN 5 (co k) (co' k) <;> simp [a1,a2,a3,a4,c,e,h,h']
  ·have h':lv' k < lv k:=by omega
   simp [a1,a2,h,h'])
 have hr:inR (n:Int):=Em (by omega) (by omega);have e:(List.range' 0 n).all (λk=>decide (lv k<=lv' k) && leN 5 (co k) (co' k))=(leN n lv lv' && leR 5 n co co'):=by rw [<-List.range_eq_range',ZEO];rfl
 rw [e] at hL;unfold stD at hL ⊢;unfold Nr O9;rw [Bh]
 cases h:(leN n lv lv' && leR 5 n co co') <;> simp only [h,Bool.false_eq_true,if_false,if_true] at hL <;> simp [hr,hL,h,Bu]
theorem ZFO {m':Nat} {A B:Nat->Nat->Int} (hw:w<=1000) (hm:m<=1000) (G:DH):J7 [.fl (Ep w m A),.fl (Ep w m' B)] G=.ok (.bl (decide (m=m') && leR w m A B)) G:=by
 by_cases h:m=m'
 ·subst h;obtain ⟨y,hL⟩:=Uy (b:=Us) (u:=some (.fl (Ep w m A))) (v:=some (.fl (Ep w m B))) (p:=λk=>leN w (A k) (B k)) (G:=G) (n:=m) (λk hk=>by
   have a1:atI (Ep w m A) (k:Int)=some (.tup (tab w (A k))):=Zu hk;have a2:atI (Ep w m B) (k:Int)=some (.tup (tab w (B k))):=Zu hk;have c:=λG=>Zn hw (a:=A k) (b:=B k) G
   unfold Us
   cases e:leN w (A k) (B k) <;> simp [a1,a2,c,e])
  have hr:inR (m:Int):=Em (by omega) (by omega);have e:(List.range' 0 m).all (λk=>leN w (A k) (B k))=leR w m A B:=by rw [<-List.range_eq_range'];rfl
  rw [e] at hL;unfold J7 Ka;rw [Bh]
  cases h:leR w m A B <;> simp [hr,hL,h,Bu]
 ·have h2:¬(m:Int)=(m':Int):=by omega
  unfold J7 Ka;rw [Bh];simp [h,h2,Bu]
theorem Zy {xs:List D} (h:G[i]? =some (.lst xs)):Gd (.ref i) G=.ok (.mt i) G:=by simp [Gd,h]
def rfs (b n:Nat):List D:=(List.range n).map λi=>D.ref (b + i)
def rws (n:Nat) (co:Nat->Nat->Int):DH:=(List.range n).map λi=>DO.lst (tab 5 (co i))
def hpL (G:DH) (n:Nat) (lv:Nat->Int) (co:Nat->Nat->Int):DH:=G++(.lst (tab n lv)::(rws n co++ [.lst (rfs (G.length + 1) n)]))
@[simp] theorem ZG7 {n:Nat} :(rws n co).length=n:=by simp [rws]
theorem Uw {n:Nat} :(hpL G n lv co)[G.length]? =some (.lst (tab n lv)):=by
 unfold hpL;rw [Dh]
 rfl
theorem U6 {n:Nat} (hk:k < n):(hpL G n lv co)[G.length + 1 + k]? =some (.lst (tab 5 (co k))):=by unfold hpL;rw [Nat.add_assoc,Ux,Nat.add_comm 1 k,List.getElem?_cons_succ,List.getElem?_append_left (by simpa using hk)];simp [rws,hk]
theorem Rw {n:Nat} :(hpL G n lv co)[G.length + 1 + n]? =some (.lst (rfs (G.length + 1) n)):=by unfold hpL;rw [Nat.add_assoc,Ux,Nat.add_comm 1 n,List.getElem?_cons_succ,List.getElem?_append_right (by simp)];simp
theorem ZB5 {n:Nat} :(hpL G n lv co).set G.length (.lst (tab n lv'))=hpL G n lv' co:=by
 unfold hpL;rw [G6]
 rfl
def Gx (co:Nat->Nat->Int) (k:Nat) (r:Nat->Int):Nat->Nat->Int:=λi=>if i=k then r else co i
theorem ZFs {n:Nat} {r:Nat->Int} (hk:k < n):(hpL G n lv co).set (G.length + 1 + k) (.lst (tab 5 r))=hpL G n lv (Gx co k r):=by
 unfold hpL;rw [Nat.add_assoc,ZAe,Nat.add_comm 1 k,List.set_cons_succ,List.set_append_left _ _ (by simpa using hk)]
 congr 3
 refine List.ext_getElem? λi=> ?_
 by_cases hi:i < n
 ·by_cases e:k=i
  ·subst e;rw [List.getElem?_set_self (by simpa using hi)];simp [rws,hi,Gx]
  ·rw [List.getElem?_set_ne e];have:¬i=k:=λz=>e z.symm
   simp [rws,hi,Gx,this]
 ·rw [List.getElem?_eq_none (by simp;omega),List.getElem?_eq_none (by simp;omega)]
theorem ZAu {co:Nat->Nat->Int}:∀(m k:Nat) (G:DH),Cu (gV 0) Bm Oc [none] ((List.range' k m).map λi=>D.tup (tab 5 (co i))) G=.ok ((List.range m).map λj=>D.ref (G.length + j)) (G++(List.range' k m).map λj=>DO.lst (tab 5 (co j)))
 | 0,k,G=>by simp [Cu]
 | m + 1,k,G=>by
  have ih:=ZAu (co:=co) m (k + 1) (G++ [.lst (tab 5 (co k))]);have he:Oc [some (.tup (tab 5 (co k)))] G=.ok (.ref G.length) (G++ [.lst (tab 5 (co k))]):=by unfold Oc;have h1:Ga [.tup (tab 5 (co k))] G=.ok (.ref G.length) (G++ [.lst (tab 5 (co k))]):=rfl;simp [h1,Fb]
  rw [List.range'_succ,List.map_cons,Qy];simp only [Ea,R.U8,List.set,ZAU,if_true,he,ih]
  congr 1
  ·rw [List.range_succ_eq_map,List.map_cons,List.map_map]
   congr 1
   refine List.map_congr_left λj _=> ?_
   simp only [Function.comp,List.length_append,List.length_singleton]
   congr 1
   omega
  ·rw [List.map_cons,List.append_assoc]
   rfl
theorem ZBC {n:Nat} {S:DSt}:Ed (G.length + 1 + n) (gV 0) Bm Pk [none] n 0 (hpL G n lv co)=.ok (Bd n co) (hpL G n lv co):=by
 have h:=ZGR (i:=G.length + 1 + n) (g:=gV 0) (c:=Bm) (te:=Pk) (S:= [none]) (G:=hpL G n lv co) (F:=λd=>match d with
  | .ref p=>(match (hpL G n lv co)[p]? with
   | some (.lst xs)=>some (.tup xs)
   | _=>none)
  | _=>none) (xs:=rfs (G.length + 1) n) Rw (λx hx=>by
   obtain ⟨i,hi,rfl⟩:=List.mem_map.mp hx;have hi':=U6 (G:=G) (lv:=lv) (co:=co) (List.mem_range.mp hi);refine ⟨[some (.ref (G.length + 1 + i))],rfl,.inr ⟨rfl,.tup (tab 5 (co i)),?_,?_⟩⟩
   ·unfold Pk;simp [hi']
   ·simp [hi'])
 have hl:(rfs (G.length + 1) n).length=n:=by simp [rfs]
 rw [hl] at h;rw [h]
 congr 1
 unfold rfs Bd;rw [List.filterMap_map]
 have:∀l:List Nat,(∀i∈l,i < n)->l.filterMap ((λd=>match d with
  | .ref p=>(match (hpL G n lv co)[p]? with
   | some (.lst xs)=>some (D.tup xs)
   | _=>none)
  | _=>none) ∘ λi=>D.ref (G.length + 1 + i))=l.map λk=>D.tup (tab 5 (co k)):=by
  intro l
  induction l with
  | nil=>intro _;rfl
  | cons a l ih=>
   intro hl;have ha:=U6 (G:=G) (lv:=lv) (co:=co) (hl a (by simp));rw [List.filterMap_cons,List.map_cons,ih λi hi=>hl i (List.mem_cons_of_mem _ hi)];simp [ha]
 exact this _ λi hi=>List.mem_range.mp hi
theorem ZDq {n:Nat} (hn:n<=1000) (hk:k < n) (hj:j < 6):∃lv' co',∀G,Lz [stD n lv co,.int k,.int j] G=.ok (stD n lv' co') G:=by
 have hl:∀G,Ga [.tup (tab n lv)] G=.ok (.ref G.length) (G++ [.lst (tab n lv)]):=λG=>rfl
 have hcp:∀G:DH,Cu (gV 0) Bm Oc [none] (Bd n co) (G++ [.lst (tab n lv)])=.ok (rfs (G.length + 1) n) (G++(.lst (tab n lv)::rws n co)):=λG=>by
  have:=ZAu (co:=co) n 0 (G++ [.lst (tab n lv)]);rw [<-List.range_eq_range'] at this;have e1:(List.range n).map (λj=>D.ref ((G++ [DO.lst (tab n lv)]).length + j))=rfs (G.length + 1) n:=by simp [rfs]
  rw [e1] at this;unfold Bd;rw [this,List.append_assoc]
  rfl
 have hrl:∀G:DH,(rfs (G.length + 1) n).length<=1000000:=λG=>by simp [rfs];omega
 have ehp:∀G:DH,(G++(.lst (tab n lv)::rws n co))++ [.lst (rfs (G.length + 1) n)]=hpL G n lv co:=λG=>by unfold hpL;simp
 have elen:∀G:DH,(G++(DO.lst (tab n lv)::rws n co)).length=G.length + 1 + n:=λG=>by simp;omega
 have hn6:n<=1000000:=by omega
 have ehq:∀G:DH,G++DO.lst (tab n lv)::(rws n co++ [DO.lst (rfs (G.length + 1) n)])=hpL G n lv co:=λG=>rfl
 have er:∀G:DH,G.length + (n + 1)=G.length + 1 + n:=λG=>by omega
 have fz:∀(G:DH) (lv':Nat->Int) (co':Nat->Nat->Int),freeze (hpL G n lv' co') (.ok (.ref (hpL G n lv' co').length) (hpL G n lv' co'++ [.lst (Bd n co')]))=.ok (.fl (Bd n co')) (hpL G n lv' co'):=λG lv' co'=>Dt ZD9
 have td:∀(G:DH) (lv':Nat->Int) (co':Nat->Nat->Int),tidy G (.ok (stD n lv' co') (hpL G n lv' co'))=.ok (stD n lv' co') G:=λG lv' co'=>Jh (by simp [stD])
 have tl:∀G:DH,tidy G (.ok (.ref G.length) (G++ [.lst (tab n lv)]))=.ok (.ref G.length) (G++ [.lst (tab n lv)]):=λG=>Fb Gw
 have ark:∀G:DH,atI (rfs (G.length + 1) n) (k:Int)=some (.ref (G.length + 1 + k)):=λG=>Dk rfl (by simp [rfs,hk])
 have hrn:∀G:DH,(rfs (G.length + 1) n).length=n:=λG=>by simp [rfs]
 by_cases h5:j < 5
 ·refine ⟨lv,Gx co k (fset (co k) j (max 0 (co k j - 1))),λG=> ?_⟩;have a5:atI (tab 5 (co k)) (j:Int)=some (.int (co k j)):=Gm h5;have i5:ixN 5 (j:Int)=some j:=Oj h5;have hj5:(j:Int) < 5:=by omega
  have hk':=U6 (G:=G) (lv:=lv) (co:=co) hk;have hs:=ZFs (G:=G) (lv:=lv) (co:=co) (r:=fset (co k) j (max 0 (co k j - 1))) hk;rw [<-Vu] at hs;have hr:=Rw (G:=G) (n:=n) (lv:=lv) (co:=co);have hb:=ZBC (G:=G) (n:=n) (lv:=lv) (co:=Gx co k (fset (co k) j (max 0 (co k j - 1)))) (S:= []);have h0:=Uw (G:=G) (n:=n) (lv:=lv) (co:=Gx co k (fset (co k) j (max 0 (co k j - 1))));have hr2:=Rw (G:=G) (n:=n) (lv:=lv) (co:=Gx co k (fset (co k) j (max 0 (co k j - 1))))
  have fz2:=fz G lv (Gx co k (fset (co k) j (max 0 (co k j - 1))));have td2:=td G lv (Gx co k (fset (co k) j (max 0 (co k j - 1))));generalize Gx co k (fset (co k) j (max 0 (co k j - 1)))=co' at *;have ec:Bb 1 [] [some (stD n lv co),some (.int k),some (.int j),some (.ref G.length),none]= [none]:=rfl;unfold stD at td2 ⊢;unfold Lz Ni;rw [Bh];simp [hl,tl,Bb,hcp,hrn,hn6,ehq,er,hj5,hr,ark,hk',a5,i5,hs,h0,Zy hr2,hr2,hb,fz2,td2]
 ·refine ⟨fset lv k (max 0 (lv k - 1)),co,λG=> ?_⟩;have a5:atI (tab n lv) (k:Int)=some (.int (lv k)):=Gm hk;have i5:ixN n (k:Int)=some k:=Oj hk;have hj5:¬(j:Int) < 5:=by omega
  have h0:=Uw (G:=G) (n:=n) (lv:=lv) (co:=co);have hs:=ZB5 (G:=G) (n:=n) (lv:=lv) (lv':=fset lv k (max 0 (lv k - 1))) (co:=co);rw [<-Vu] at hs;have hb:=ZBC (G:=G) (n:=n) (lv:=fset lv k (max 0 (lv k - 1))) (co:=co) (S:= []);have h02:=Uw (G:=G) (n:=n) (lv:=fset lv k (max 0 (lv k - 1))) (co:=co);have hr2:=Rw (G:=G) (n:=n) (lv:=fset lv k (max 0 (lv k - 1))) (co:=co);have fz2:=fz G (fset lv k (max 0 (lv k - 1))) co
  have td2:=td G (fset lv k (max 0 (lv k - 1))) co;generalize fset lv k (max 0 (lv k - 1))=lv' at *;unfold stD at td2 ⊢;unfold Lz Ni;rw [Bh];simp [hl,tl,Bb,hcp,hrn,hn6,ehq,er,hj5,h0,a5,i5,hs,h02,Zy hr2,hr2,hb,fz2,td2]
theorem ZB2 {xs:List α} (h:a<=xs.length):cutD xs none (some (a:Int))=xs.take a:=by
 have:=(Kp xs.length (a:Int)).1;have e:HT.sIx xs.length xs.length (some (a:Int))=a:=by omega
 unfold cutD;rw [e];simp [HT.sIx]
theorem Zm {xs:List α} (h:a<=xs.length):cutD xs (some (a:Int)) none=xs.drop a:=by
 have:=(Kp xs.length (a:Int)).2;have e:HT.sIx xs.length 0 (some (a:Int))=a:=by omega
 unfold cutD;rw [e];simp only [HT.sIx];exact List.take_of_length_le (by simp)
@[simp] theorem ZHF {n:Nat} :(Ai n fls).length=fls.length:=by simp [Ai]
theorem Zq {n:Nat} :okD 29 (.fl (Ai n fls))=true:=ZAD (n:=28) λd hd=>by
 obtain ⟨fl,_,rfl⟩:=List.mem_map.mp hd;refine ZE4 (n:=27) λd hd=> ?_
 obtain ⟨x,_,rfl⟩:=List.mem_map.mp hd
 rfl
theorem ZBk {n:Nat} (h:a < fls.length):atI (Ai n fls) (a:Int)=some (.tup (tab n fls[a])):=Dk rfl (by simp [Ai,h])
theorem ZDB (hf:∀k:Nat,k<=1000->∀G,Ar [.fl (ns.map D.int),.int k] G=.ok (.int (f k)) G) {n:Nat} (hn0:0 < n) (hn:n<=1000) (hl:fls.length<=7):
  ∃fls':List (Nat->Int),fls'.length<=8/\∀G,freeze G (Hy [.fl (ns.map D.int),.fl (Ai n fls),.int n] G)=.ok (.fl (Ai n fls')) G:=by
 have h3:∀G,Ar [.fl (ns.map D.int),.int 3] G=.ok (.int (f 3)) G:=hf 3 (by omega);have h4:∀G,Ar [.fl (ns.map D.int),.int 4] G=.ok (.int (f 4)) G:=hf 4 (by omega);have fz:∀(G:DH) (ls:List (Nat->Int)),freeze G (.ok (.ref G.length) (G++ [.lst (Ai n ls)]))=.ok (.fl (Ai n ls)) G:=λG ls=>Dt Lh
 have td:∀(G L:DH) (ls:List (Nat->Int)),tidy G (.ok (.ref G.length) (G++ .lst (Ai n ls)::L))=.ok (.ref G.length) (G++ [.lst (Ai n ls)]):=λG L ls=>Fb Lh
 have td1:∀(G:DH) (A:DO) (ls:List (Nat->Int)),tidy G (.ok (.ref (G.length + 1)) (G++ [A,.lst (Ai n ls)]))=.ok (.ref G.length) (G++ [.lst (Ai n ls)]):=λG A ls=>Zc [A,.lst (Ai n ls)] (k:=1) rfl Lh
 have fz0:∀(G:DH) (A:DO),freeze (G++ [A]) (.ok (.ref (G.length + 1)) (G++ [A,.lst []]))=.ok (.fl []) (G++ [A]):=λG A=>Rv rfl
 have fz1:∀(G:DH) (A:DO) (ls:List (Nat->Int)),freeze (G++ [A]) (.ok (.ref (G.length + 1)) (G++ [A,.lst (Ai n ls)]))=.ok (.fl (Ai n ls)) (G++ [A]):=λG A ls=>Rv Lh
 have eq0:∀G:DH,Ce (.ref G.length) (.fl []) (G++ [.lst (Ai n fls)])=.ok (.bl (decide (fls= []))) (G++ [.lst (Ai n fls)]):=λG=>by
  rw [ZC5 (xs:=Ai n fls) (by rw [Dh];rfl),Yo (Ve Zq (by omega)) rfl];cases fls with
  | nil=>simp [Ai]
  | cons a r=>simp [Ai]
 by_cases he:fls= []
 ·refine ⟨[],by simp,λG=> ?_⟩;have fzz:=fz G [];subst he;have e0:Ai n []= []:=rfl;have td':=td G [] [];have eq1:=eq0 G;simp only [e0] at eq1 td' fzz ⊢;unfold Hy Il;rw [Bh];simp [h3,td',An,fz0,eq1,fzz]
 ·have hp:0 < fls.length:=List.length_pos_iff.mpr he;obtain ⟨a,ea⟩:∃a:Nat,(a:Int)=f 3 / 4 % (fls.length:Int):=⟨(f 3 / 4 % (fls.length:Int)).toNat,by have:=Int.emod_nonneg (f 3 / 4) (show (fls.length:Int)≠0 by omega);omega⟩
  have ha:a < fls.length:=by have:=Int.emod_lt_of_pos (f 3 / 4) (show (0:Int) < (fls.length:Int) by omega);omega
  have hp':(0:Int) < (fls.length:Int):=by omega
  have sl0:∀(G L:DH) (lo hi:Option Int),Ow (.ref G.length) lo hi (G++ .lst (Ai n fls)::L)=.ok (.ref (G++ .lst (Ai n fls)::L).length) ((G++ .lst (Ai n fls)::L)++ [.lst (cutD (Ai n fls) lo hi)]):=λG L lo hi=>by unfold Ow;simp [Hk,Dh]
  have ct:cutD (Ai n fls) none (some (a:Int))=Ai n (fls.take a):=by rw [ZB2 (by simp;omega)];simp [Ai]
  have cd:cutD (Ai n fls) (some (a:Int)) none=Ai n (fls.drop a):=by rw [Zm (by simp;omega)];simp [Ai]
  have cd1:cutD (Ai n fls) (some ((a:Int) + 1)) none=Ai n (fls.drop (a + 1)):=by rw [show ((a:Int) + 1)=((a + 1:Nat):Int) by omega,Zm (by simp;omega)];simp [Ai]
  have at0:=ZBk (n:=n) ha;have ap:∀l l':List (Nat->Int),Ai n l++Ai n l'=Ai n (l++l'):=λl l'=>by simp [Ai]
  have tdl:=λG:DH=>td G [] fls
  rcases (by omega:f 3 % 4=0∨f 3 % 4=1∨f 3 % 4=2∨f 3 % 4=3) with z | z | z | z
  ·refine ⟨fls.take a++fls.drop (a + 1),by simp;omega,λG=> ?_⟩;have l1:(Ai n (fls.take a)).length + (Ai n (fls.drop (a + 1))).length<=1000000:=by simp;omega
   have hsl0:=λlo hi=>sl0 G [] lo hi
   have f1:=fz1 G (.lst (Ai n fls)) (fls.take a);have f2:=fz1 G (.lst (Ai n fls)) (fls.drop (a + 1));have t1:=td1 G (.lst (Ai n fls)) (fls.take a++fls.drop (a + 1));have f3:=fz G (fls.take a++fls.drop (a + 1));rw [<-ap] at t1 f3 ⊢;generalize Ai n (fls.take a)=X at *;generalize Ai n (fls.drop (a + 1))=Y at *;unfold Hy Il;rw [Bh];simp [h3,tdl,An,fz0,eq0,he,hp,hp',z,<-ea,hsl0,Dh,ct,cd1,f1,f2,l1,t1,f3]
  ·refine ⟨fls.take a++ [fls[a]]++fls.drop a,by simp;omega,λG=> ?_⟩;have e1:([.tup (tab n fls[a])]:List D)=Ai n [fls[a]]:=rfl;have l1:(Ai n (fls.take a)).length + (Ai n [fls[a]]).length<=1000000:=by simp;omega
   have l2:(Ai n (fls.take a)++Ai n [fls[a]]).length + (Ai n (fls.drop a)).length<=1000000:=by simp;omega
   have hsl0:=λlo hi=>sl0 G [] lo hi
   have f1:=fz1 G (.lst (Ai n fls)) (fls.take a);have f2:=fz1 G (.lst (Ai n fls)) [fls[a]];have f3:=fz1 G (.lst (Ai n fls)) (fls.drop a);have f4:=fz1 G (.lst (Ai n fls)) (fls.take a++ [fls[a]]);have t1:=td1 G (.lst (Ai n fls)) (fls.take a++ [fls[a]]++fls.drop a);have f5:=fz G (fls.take a++ [fls[a]]++fls.drop a);rw [<-ap,<-ap] at t1 f5 ⊢;rw [<-ap] at f4;have l3:(Ai n (fls.take a)++Ai n [fls[a]]).length + (Ai n (fls.drop a)).length<=1000000:=l2
   rw [<-e1] at *;rw [List.length_append] at l3;rw [List.append_assoc] at t1 f5 ⊢;generalize Ai n (fls.take a)=X at *;generalize Ai n (fls.drop a)=Z at *;have l4:X.length + 1<=1000000:=l1;have l5:X.length + 1 + Z.length<=1000000:=l3;unfold Hy Il;rw [Bh];simp only [List.cons_append,List.nil_append] at t1 f5 ⊢;have l6:X.length<=999999:=by omega
   have l7:X.length + (Z.length + 1)<=1000000:=by omega
   simp [h3,tdl,An,fz0,eq0,he,hp,hp',z,<-ea,hsl0,Dh,ct,cd,at0,f1,f2,f3,l4,l6,f4,l5,l7,t1,f5]
  ·have hk0:=Int.emod_nonneg (f 4) (show (n:Int)≠0 by omega);have hk1:=Int.emod_lt_of_pos (f 4) (show (0:Int) < (n:Int) by omega);obtain ⟨k,ek⟩:∃k:Nat,(k:Int)=f 4 % (n:Int):=⟨(f 4 % (n:Int)).toNat,by omega⟩;have hk:k < n:=by omega
   have hn':(0:Int) < (n:Int):=by omega
   refine ⟨fls.set a (fset fls[a] k (max 0 (fls[a] k - 1))),by simp;omega,λG=> ?_⟩;have ak:atI (tab n fls[a]) (k:Int)=some (.int (fls[a] k)):=Gm hk;have ik:ixN n (k:Int)=some k:=Oj hk;have ia:ixN fls.length (a:Int)=some a:=Oj ha;have tl:∀A:DO,tidy (G++ [A]) (.ok (.ref (G.length + 1)) (G++ [A,.lst (tab n fls[a])]))=.ok (.ref (G.length + 1)) (G++ [A,.lst (tab n fls[a])]):=λA=>ZAb Gw
   have g1:∀A B:DO,(G++ [A,B])[G.length + 1]? =some B:=λA B=>by simp
   have s1:∀A B C:DO,(G++ [A,B]).set (G.length + 1) C=G++ [A,C]:=λA B C=>by simp
   have g0:∀A B:DO,(G++ [A,B])[G.length]? =some A:=λA B=>by simp
   have s0:∀A B C:DO,(G++ [A,B]).set G.length C=G++ [C,B]:=λA B C=>by simp
   have es:(Ai n fls).set a (.tup (tab n (fset fls[a] k (max 0 (fls[a] k - 1)))))=Ai n (fls.set a (fset fls[a] k (max 0 (fls[a] k - 1)))):=by simp [Ai]
   have t2:=td G [.lst (tab n (fset fls[a] k (max 0 (fls[a] k - 1))))] (fls.set a (fset fls[a] k (max 0 (fls[a] k - 1))));have f2:=fz G (fls.set a (fset fls[a] k (max 0 (fls[a] k - 1))));unfold Hy Il;rw [Bh];simp [h3,h4,tdl,An,fz0,eq0,he,hp,hp',hn0,hn',z,<-ea,<-ek,Dh,at0,tl,g1,ak,ik,s1,Vu,g0,ia,s0,es,t2,f2]
  ·refine ⟨fls,by omega,λG=> ?_⟩;have f2:=fz G fls;unfold Hy Il;rw [Bh];simp [h3,tdl,An,fz0,eq0,he,hp,hp',z,<-ea,f2]
theorem Rt {n:Nat} :Ai n fls=Ep n fls.length λi=>fls.getD i λ_=>0:=by
 refine List.ext_getElem (by simp [Ai,Ep]) λi h1 h2=> ?_
 have hi:i < fls.length:=by simpa [Ai] using h1
 simp [Ai,Ep,List.getD_eq_getElem?_getD,hi]
theorem R5 {n:Nat} (hn:n<=1000) {fls':List (Nat->Int)} (hl:fls.length<=1000) (G:DH):Ii [.fl (Ai n fls),.fl (Ai n fls')] G=.ok (.bl (decide (fls.length=fls'.length) && leR n fls.length (λi=>fls.getD i λ_=>0) λi=>fls'.getD i λ_=>0)) G:=
 ZA3 hn hl (by rw [Rt];rfl) (by rw [Rt];rfl) (by simp) (by simp)
theorem Oz {n:Nat} (hn:n<=1000) {fls':List (Nat->Int)} (hl:fls.length<=1000) (G:DH):J7 [.fl (Ai n fls),.fl (Ai n fls')] G=.ok (.bl (decide (fls.length=fls'.length) && leR n fls.length (λi=>fls.getD i λ_=>0) λi=>fls'.getD i λ_=>0)) G:=by have:=ZFO hn hl (A:=λi=>fls.getD i λ_=>0) (B:=λi=>fls'.getD i λ_=>0) (m':=fls'.length) G;rw [<-Rt,<-Rt] at this;exact this
theorem frz4 {a b c d:Bool} (G:DH):freeze G (.ok (.ref G.length) (G++ [.lst [.bl a,.bl b,.bl c,.bl d]]))=.ok (.fl [.bl a,.bl b,.bl c,.bl d]) G:=Dt rfl
theorem frz2 {a b:Bool} (G:DH):freeze G (.ok (.ref G.length) (G++ [.lst [.bl a,.bl b]]))=.ok (.fl [.bl a,.bl b]) G:=Dt rfl
theorem bool4 {a b c d:Bool} (G:DH):Cu (gV 0) Bm Ot (Bb 1 [] S) [.bl a,.bl b,.bl c,.bl d] G=.ok [.bl true,.bl true,.bl true,.bl true] G:=by
 have he:∀a:Bool,Ot [some (.bl a)] G=.ok (.bl true) G:=λa=>by unfold Ot;simp [tyD]
 have hc:Bb 1 [] S= [none]:=rfl;rw [hc];simp [Qy,ZDO,he]
theorem all4 (G:DH):Hz [.fl [.bl true,.bl true,.bl true,.bl true]] G=.ok (.bl true) G:=rfl
theorem ZCi {n:Nat} {l l':List (Nat->Int)}:okD 30 (.fl [.fl (Ai n l),.fl (Ai n l')])=true:=ZAD (n:=29) λd hd=>by
 simp at hd
 rcases hd with rfl | rfl <;> exact Zq
theorem ZDT (hl:ns.length<=63) (G:DH):I9 [.fl (ns.map D.int)] G=.ok (.bl true) G:=by
 obtain ⟨f,hf⟩:=cells hl;obtain ⟨u,hu1,cu⟩:=ZBw hf;have hu:0 < u:=by omega
 obtain ⟨yr,hyr,cy⟩:=ZCS hf;obtain ⟨h,ht,ch⟩:=ZFG hf hyr cy hu cu;have g:=ht.good;have hn:=g.len;have hn1:=ht.one;obtain ⟨t,et⟩:∃t:Nat,(t:Int)=f 2 % 7:=⟨(f 2 % 7).toNat,by omega⟩;have ht6:t<=6:=by omega
 have htn:t * h.n<=6 * 12:=Nat.mul_le_mul ht6 hn;have cs:=ZFF hf hu cu g;have cf:=ZD6 hf hu cu g (t:=t) (by omega) (by omega);have f2:∀G,Ar [.fl (ns.map D.int),.int 2] G=.ok (.int (f 2)) G:=hf 2 (by omega);have f3:∀G,Ar [.fl (ns.map D.int),.int 3] G=.ok (.int (f 3)) G:=hf 3 (by omega);have f4:∀G,Ar [.fl (ns.map D.int),.int 4] G=.ok (.int (f 4)) G:=hf 4 (by omega);have hb:∀k b r q,k < h.n->(h.pl k).kd=.basin b r q->lvS h f u k<=b:=λk b r q hk e=>(ZGe g hk).2.1 b r q e
 have ca:=ZGf hf hu cu g (lv:=lvS h f u) (co:=coS h f u) hb (fl:=flS h.n f u) ht6;generalize hfl:(List.range t).map (flS h.n f u)=fls at cf ca;have hlen:fls.length=t:=by rw [<-hfl];simp
 generalize hfm:(List.range t).map (flM h f u (flS h.n f u))=flm at ca;have hlem:flm.length=t:=by rw [<-hfm];simp
 generalize lvS h f u=lv at *;generalize coS h f u=co at *;generalize lvM h f u lv=lvm at ca;generalize coM h f u co=com at ca;obtain ⟨k,ek⟩:∃k:Nat,(k:Int)=f 4 % (h.n:Int):=⟨(f 4 % (h.n:Int)).toNat,by have:=Int.emod_nonneg (f 4) (show (h.n:Int)≠0 by omega);omega⟩
 have hk:k < h.n:=by have:=Int.emod_lt_of_pos (f 4) (show (0:Int) < (h.n:Int) by omega);omega
 obtain ⟨j,ej⟩:∃j:Nat,(j:Int)=f 3 % 6:=⟨(f 3 % 6).toNat,by omega⟩;obtain ⟨lvl,col',clo⟩:=ZDq (n:=h.n) (by omega) (lv:=lvm) (co:=com) hk (j:=j) (by omega);obtain ⟨flt,hlet,ctu⟩:=ZDB hf (n:=h.n) (by omega) (by omega) (fls:=flm) (by omega);have hn0:0 < h.n:=by omega
 have hnp:(0:Int) < (h.n:Int):=by omega
 have fzf:∀(G:DH) (l:List (Nat->Int)),freeze G (.ok (.ref G.length) (G++ [.lst (Ai h.n l)]))=.ok (.fl (Ai h.n l)) G:=λG l=>Dt Lh
 have fzp:∀(G:DH) (l l':List (Nat->Int)),freeze G (.ok (.ref G.length) (G++ [.lst [.fl (Ai h.n l),.fl (Ai h.n l')]]))=.ok (.fl [.fl (Ai h.n l),.fl (Ai h.n l')]) G:=λG l l'=>Dt (by simp)
 have hn':h.n<=1000:=by omega
 have u1:=λ(a b:Nat->Int) (c d:Nat->Nat->Int) (G:DH)=>ZDD hn' (lv:=a) (lv':=b) (co:=c) (co':=d) G
 have u2:=λ(a b:Nat->Int) (c d:Nat->Nat->Int) (G:DH)=>ZDm hn' (lv:=a) (lv':=b) (co:=c) (co':=d) G
 have e1:∀l l' G,Ce (.fl [.fl (Ai h.n l),.fl (Ai h.n l')]) (.fl [.fl (Ai h.n l),.fl (Ai h.n l')]) G=.ok (.bl true) G:=λl l' G=>ZEq ZCi
 have e4:∀(a b c d:Bool) G,Ce (.fl [.bl a,.bl b,.bl c,.bl d]) (.fl [.bl a,.bl b,.bl c,.bl d]) G=.ok (.bl true) G:=λa b c d G=>by cases a <;> cases b <;> cases c <;> cases d <;> rfl
 by_cases hz:f 4 / 4 % 2=1
 ·have r1:=λG=>R5 hn' (fls:=fls) (fls':=flt) (by omega) G
  have r2:=λG=>R5 hn' (fls:=flt) (fls':=fls) (by omega) G
  have r3:=λG=>Oz hn' (fls:=fls) (fls':=flt) (by omega) G
  have r4:=λG=>Oz hn' (fls:=flt) (fls':=fls) (by omega) G
  have u3:=u1 lv lvl co col';have u4:=u1 lvl lv col' co;have u5:=u2 lv lvl co col';have u6:=u2 lvl lv col' co;have ep:=e1 fls flt;have fp:=λG=>fzp G fls flt
  have fa:=λG=>fzf G fls
  have fb:=λG=>fzf G flt
  generalize (leN h.n lv lvl && leR 5 h.n co col')=p1 at u3 u5;generalize (leN h.n lvl lv && leR 5 h.n col' co)=p2 at u4 u6;generalize stD h.n lv co=L at *;generalize stD h.n lvm com=L2 at *;generalize stD h.n lvl col'=L3 at *;generalize Ai h.n fls=X at *;generalize Ai h.n flm=X2 at *;generalize Ai h.n flt=Y at *
  revert r1 r2 r3 r4
  generalize (decide (fls.length=flt.length) && leR h.n fls.length (λi=>fls.getD i λ_=>0) λi=>flt.getD i λ_=>0)=q1;generalize (decide (flt.length=fls.length) && leR h.n flt.length (λi=>flt.getD i λ_=>0) λi=>fls.getD i λ_=>0)=q2;intro r1 r2 r3 r4;unfold I9 Sh;rw [Bh];simp [ch,I8,Hs.K6,cs,f2,<-et,cf,fa,ca,f4,hz,hn0,hnp,<-ek,f3,<-ej,clo,ctu,fb,An,fp,u3,u4,frz2,r1,r2,frz4,u5,u6,r3,r4,bool4,all4,e4,ep,Bu]
 ·have r1:=λG=>R5 hn' (fls:=fls) (fls':=flm) (by omega) G
  have r2:=λG=>R5 hn' (fls:=flm) (fls':=fls) (by omega) G
  have r3:=λG=>Oz hn' (fls:=fls) (fls':=flm) (by omega) G
  have r4:=λG=>Oz hn' (fls:=flm) (fls':=fls) (by omega) G
  have u3:=u1 lv lvm co com;have u4:=u1 lvm lv com co;have u5:=u2 lv lvm co com;have u6:=u2 lvm lv com co;have ep:=e1 fls flm;have fp:=λG=>fzp G fls flm
  have fa:=λG=>fzf G fls
  have fb:=λG=>fzf G flm
  generalize (leN h.n lv lvm && leR 5 h.n co com)=p1 at u3 u5;generalize (leN h.n lvm lv && leR 5 h.n com co)=p2 at u4 u6;generalize stD h.n lv co=L at *;generalize stD h.n lvm com=L2 at *;generalize Ai h.n fls=X at *;generalize Ai h.n flm=X2 at *
  revert r1 r2 r3 r4
  generalize (decide (fls.length=flm.length) && leR h.n fls.length (λi=>fls.getD i λ_=>0) λi=>flm.getD i λ_=>0)=q1;generalize (decide (flm.length=fls.length) && leR h.n flm.length (λi=>flm.getD i λ_=>0) λi=>fls.getD i λ_=>0)=q2;intro r1 r2 r3 r4;unfold I9 Sh;rw [Bh];simp [ch,I8,Hs.K6,cs,f2,<-et,cf,fa,ca,f4,hz,fb,An,fp,u3,u4,frz2,r1,r2,frz4,u5,u6,r3,r4,bool4,all4,e4,ep,Bu]
theorem holds:Holds:=λns hl=>⟨[],ZDT hl []⟩
end Law
namespace Law
open PySem L2 DL
seal QE QT QA QS QSs QG QGs QI QTs QW QO
structure Adr where
 Kf:Addr
 N8:FuncData
 Jl:Addr
 M8:FuncData
 Jz:Addr
 Ob:FuncData
 Lp:Addr
 Oa:FuncData
 Jx:Addr
 Lr:FuncData
 Ld:Addr
 O4:FuncData
 Ln:Addr
 O7:FuncData
 Ke:Addr
 N7:FuncData
 Ks:Addr
 M5:FuncData
 Kg:Addr
 Nh:FuncData
 K3:Addr
 Od:FuncData
 Jp:Addr
 Om:FuncData
 Kq:Addr
 O1:FuncData
 Lq:Addr
 Ng:FuncData
 Jj:Addr
 Ny:FuncData
 K4:Addr
 Mx:FuncData
 K1:Addr
 Mv:FuncData
 Lf:Addr
 Ma:FuncData
 Kl:Addr
 Og:FuncData
 Ko:Addr
 Oo:FuncData
 Lj:Addr
 Lw:FuncData
 Lb:Addr
 Mz:FuncData
 Jq:Addr
 Mq:FuncData
 Ht:Addr
 Vx:FuncData
structure Txt (K:PySem.W.Frag) (mg:Str->Option Value) (t:Adr):Prop where
 Rq:Fun K "_law_amount" "_law_amount" Vt t.Kf t.N8
 Hi:Binds K t.N8 ["_law_cell","_law_unit_here"] []
 Ih:mg "_law_amount"=some (.ref t.Kf)
 Hw:PySem.W.keepIn K (.ref t.Kf)=true
 Qg:Fun K "_law_off" "_law_off" V1 t.Jl t.M8
 My:Binds K t.M8 ["_law_number_here","_law_k"] []
 Wq:mg "_law_off"=some (.ref t.Jl)
 W4:PySem.W.keepIn K (.ref t.Jl)=true
 Rp:Fun K "_law_tape" "_law_tape" Tu t.Jz t.Ob
 K7:Binds K t.Ob ["_law_script"] []
 Ss:mg "_law_tape"=some (.ref t.Jz)
 R1:PySem.W.keepIn K (.ref t.Jz)=true
 Ql:Fun K "_law_cell_at" "_law_cell_at" Ws t.Lp t.Oa
 Bw:Binds K t.Oa ["_law_script","_law_k"] []
 Cq:mg "_law_cell_at"=some (.ref t.Lp)
 Cm:PySem.W.keepIn K (.ref t.Lp)=true
 Ou:Fun K "_law_unit" "_law_unit" Uq t.Jx t.Lr
 Gv:Binds K t.Lr ["_law_script"] []
 Jg:mg "_law_unit"=some (.ref t.Jx)
 Ja:PySem.W.keepIn K (.ref t.Jx)=true
 Q4:Fun K "_law_added" "_law_added" Je t.Ld t.O4
 Rk:Binds K t.O4 ["_law_script","_law_house_here","_law_low","_law_lows"] []
 Ug:mg "_law_added"=some (.ref t.Ld)
 V9:PySem.W.keepIn K (.ref t.Ld)=true
 Rn:Fun K "_law_floods" "_law_floods" Mp t.Ln t.O7
 Qq:Binds K t.O7 ["_law_script","_law_house_here","_law_turns"] []
 Wo:mg "_law_floods"=some (.ref t.Ln)
 Vb:PySem.W.keepIn K (.ref t.Ln)=true
 Pa:Fun K "_law_pumped" "_law_pumped" Wh t.Ke t.N7
 R9:Binds K t.N7 ["_law_steps_here"] []
 Wm:mg "_law_pumped"=some (.ref t.Ke)
 Uo:PySem.W.keepIn K (.ref t.Ke)=true
 Qp:Fun K "_law_steps" "_law_steps" Ur t.Ks t.M5
 Px:Binds K t.M5 ["_law_cells","_law_unit_here","_law_pumps"] []
 Wi:mg "_law_steps"=some (.ref t.Ks)
 Wu:PySem.W.keepIn K (.ref t.Ks)=true
 Sy:Fun K "_law_year" "_law_year" Ut t.Kg t.Nh
 Ol:Binds K t.Nh ["_law_script"] []
 Rb:mg "_law_year"=some (.ref t.Kg)
 Qi:PySem.W.keepIn K (.ref t.Kg)=true
 Pn:Fun K "_law_rule" "_law_rule" Nv t.K3 t.Od
 Qm:Binds K t.Od ["_law_script","_law_b","_law_unit_here","_law_pumps"] []
 Uu:mg "_law_rule"=some (.ref t.K3)
 Vh:PySem.W.keepIn K (.ref t.K3)=true
 R3:Fun K "_law_basin" "_law_basin" Qa t.Jp t.Om
 Mf:Binds K t.Om ["_law_script","_law_b","_law_k","_law_names","_law_river"] []
 Vp:mg "_law_basin"=some (.ref t.Jp)
 Vy:PySem.W.keepIn K (.ref t.Jp)=true
 Pq:Fun K "_law_name" "_law_name" Uj t.Kq t.O1
 Qe:Binds K t.O1 ["_law_cell","_law_k","_law_many"] []
 X7:mg "_law_name"=some (.ref t.Kq)
 Uc:PySem.W.keepIn K (.ref t.Kq)=true
 Rg:Fun K "_law_house" "_law_house" Qo t.Lq t.Ng
 R4:Binds K t.Ng ["_law_script"] []
 Tq:mg "_law_house"=some (.ref t.Lq)
 Ul:PySem.W.keepIn K (.ref t.Lq)=true
 Sd:Fun K "_law_lower" "_law_lower" Oq t.Jj t.Ny
 Ni:Binds K t.Ny ["_law_state_here","_law_k","_law_j"] []
 Vk:mg "_law_lower"=some (.ref t.Jj)
 Up:PySem.W.keepIn K (.ref t.Jj)=true
 Qu:Fun K "_law_no_more" "_law_no_more" Ub t.K4 t.Mx
 O2:Binds K t.Mx ["_law_some","_law_others"] []
 Ph:mg "_law_no_more"=some (.ref t.K4)
 Qn:PySem.W.keepIn K (.ref t.K4)=true
 Pu:Fun K "_law_rows" "_law_rows" Ud t.K1 t.Mv
 Ka:Binds K t.Mv ["_law_floods_here","_law_others"] []
 Q3:mg "_law_rows"=some (.ref t.K1)
 Qf:PySem.W.keepIn K (.ref t.K1)=true
 R6:Fun K "_law_state" "_law_state" Xa t.Lf t.Ma
 S8:Binds K t.Ma ["_law_script","_law_house_here"] []
 Wk:mg "_law_state"=some (.ref t.Lf)
 W6:PySem.W.keepIn K (.ref t.Lf)=true
 Rh:Fun K "_law_states" "_law_states" Th t.Kl t.Og
 O9:Binds K t.Og ["_law_state_here","_law_other"] []
 Rc:mg "_law_states"=some (.ref t.Kl)
 Qk:PySem.W.keepIn K (.ref t.Kl)=true
 Pj:Fun K "_law_turned" "_law_turned" Wa t.Ko t.Oo
 Il:Binds K t.Oo ["_law_script","_law_floods_here","_law_many"] []
 Ua:mg "_law_turned"=some (.ref t.Ko)
 V4:PySem.W.keepIn K (.ref t.Ko)=true
 Pb:Fun K "none_above" "none_above" S6 t.Lj t.Lw
 Mm:Binds K t.Lw ["numbers","others"] []
 Rx:mg "none_above"=some (.ref t.Lj)
 Ru:PySem.W.keepIn K (.ref t.Lj)=true
 Qc:Fun K "rows_under" "rows_under" Qz t.Lb t.Mz
 Iv:Binds K t.Mz ["floods","others"] []
 Mu:mg "rows_under"=some (.ref t.Lb)
 Mt:PySem.W.keepIn K (.ref t.Lb)=true
 S7:Fun K "under" "under" W0 t.Jq t.Mq
 Nu:Binds K t.Mq ["state","other"] []
 Sw:mg "under"=some (.ref t.Jq)
 Rm:PySem.W.keepIn K (.ref t.Jq)=true
 ZDI:Fun K "law" "law" Fe t.Ht t.Vx
 Sh:Binds K t.Vx ["_law_script"] []
 m_law:mg "law"=some (.ref t.Ht)
 K8:PySem.W.keepIn K (.ref t.Ht)=true
 X4:mg "all"=none
 ZFN:mg "bool"=none
 ZDR:mg "isinstance"=none
 Cz:mg "len"=none
 Kc:mg "list"=none
 Q8:mg "max"=none
 ZFi:mg "min"=none
 Dr:mg "range"=none
 En:mg "tuple"=none
 ZA2:mg "zip"=none
section
variable {P:Program} {w:World} {K:PySem.W.Frag} {mg:Str->Option Value} {base:Heap} {t:Adr}
theorem Jv (T:Txt K mg t):FnOk P w K mg base CX0 1 t.Kf t.N8 ["_law_cell","_law_unit_here"] (lF K Hb):=by
 refine Dg T.Rq ZEj λcdv A outer s H E hr=> ?_
 exact (Av (Bk (Ae Aw (Ae Bx (Aa 1) (Ae Ba (Aa 0) Ad)) (Ae Ba (Ae Cd (Aa 0) Ad) (Aa 1)))))
theorem ZGg (T:Txt K mg t):FnOk P w K mg base CX0 1 t.Jl t.M8 ["_law_number_here","_law_k"] (lF K Nx):=by
 refine Dg T.Qg Mi λcdv A outer s H E hr=> ?_
 exact (Aj (Ca (ZFC o_le Hc Ad (Aa 0) (Ae Lk Ad Ad)) (Aj (Al 0 Mi.nd (Ae Ba (Ae Aw (Ae Aw (Aa 0) (Ae Bx Ad (Aa 1))) Ad) Ad)) (Aj (Al 0 Mi.nd (Ae Ba (Ae Bx (Aa 0) (Aa 0)) Ad)) (Av (Bk (Ae Ba (Ae Bx (Aa 0) (Ae Aw (Aa 0) (Aa 1))) Ad))))) Ck) (Aj (Fj PassesOwn.never rfl (Dq rfl T.Dr (Ac (Aa 1) Ag)) (Bj 2 Mi.nd) (Av (Al 0 Mi.nd (Ae Cd (Aa 0) (Ae Lk Ad Ad))))) (Av (Bk (Ae Ba (Aa 0) (Ae Lk Ad Ad))))))
theorem ZAZ (T:Txt K mg t):FnOk P w K mg base CX0 1 t.Jz t.Ob ["_law_script"] (lF K Jc):=by
 refine Dg T.Rp ZFM λcdv A outer s H E hr=> ?_
 exact (Av (Bk (Nb (Ik Iw (Bq Cv rfl T.Cz Cy (Ac (Aa 0) Ag)) Ad (nomark _)) (Oe (ZDK (Ik Hc (Ao Aq (Aa 0) Ad) Ad (nomark _)) (Oe (Ik o_ge (Ao Aq (Aa 0) Ad) (Ae Lk Ad Ad) (nomark _))))))))
theorem Cw (T:Txt K mg t):FnOk P w K mg base CX0 2 t.Lp t.Oa ["_law_script","_law_k"] (lF K Ar):=by
 refine Dg T.Ql Nz λcdv A outer s H E hr=> ?_
 exact (Aj (Ca (Jr (Ax (ZAZ T) (hr.mono (by decide)) rfl T.Ss T.R1 T.K7 pass0 (Ac (Aa 0) Ag))) (Aj (Al 2 Nz.nd Ad) (Aj (Ca (Cg Hc (Ae Aw Ad (Ae Cd (Aa 1) Ad)) (Bq Cv rfl T.Cz Cy (Ac (Aa 0) Ag)) (nomark _)) (Av (Al 2 Nz.nd (Ao Aq (Aa 0) (Ae Aw Ad (Ae Cd (Aa 1) Ad))))) Ck) (Av (Bk (Ax (ZGg T) (hr.mono (by decide)) rfl T.Wq T.W4 T.My pass0 (Ac (Aa 2) (Ac (Ae Ba (Aa 1) Ad) Ag))))))) Ck) (Aj (Ca (Cg Hc (Aa 1) (Bq Cv rfl T.Cz Cy (Ac (Aa 0) Ag)) (nomark _)) (Av (Bk (Ao Aq (Aa 0) (Aa 1)))) Ck) (Aj (Al 2 Nz.nd (Ae Ba (Ae Bx Ad (Ae Aw (Ae Bx (Aa 1) (Aa 1)) (Ae Bx Ad (Bq Cv rfl T.Cz Cy (Ac (Aa 0) Ag))))) Ad)) (Aj (Ca (Cg Iw (Bq Cv rfl T.Cz Cy (Ac (Aa 0) Ag)) Ad (nomark _)) (Av (Al 2 Nz.nd (Ae Aw (Aa 2) (Ae Ba (Ae Bx (Ao Aq (Aa 0) (Ae Ba (Aa 1) (Bq Cv rfl T.Cz Cy (Ac (Aa 0) Ag)))) Ad) Ad)))) Ck) (Av (Bk (Aa 2)))))))
theorem Oi (T:Txt K mg t):FnOk P w K mg base CX0 3 t.Jx t.Lr ["_law_script"] (lF K Do):=by
 refine Dg T.Ou ZFq λcdv A outer s H E hr=> ?_
 exact (Av (Bk (Ao Aq (Bo (Dl (Ac Ad (Ac Ad (Ac (Ae Lk Ad Ad) Ag))))) (Ae Ba (Ae Cd (Ax (Cw T) (hr.mono (by decide)) rfl T.Cq T.Cm T.Bw pass0 (Ac (Aa 0) (Ac Ad Ag))) Ad) Ad))))
theorem ZDj (T:Txt K mg t):FnOk P w K mg base CX0 4 t.Ld t.O4 ["_law_script","_law_house_here","_law_low","_law_lows"] (lF K Ms):=by
 refine Dg T.Q4 Et λcdv A outer s H E hr=> ?_
 exact (Aj (Al 4 Et.nd (Bo (Ax (Oi T) (hr.mono (by decide)) rfl T.Jg T.Ja T.Gv pass0 (Ac (Aa 0) Ag)))) (Aj (Al 5 Et.nd (Bq Cv rfl T.Cz Cy (Ac (Ao Aq (Aa 1) Ad) Ag))) (Aj (Al 6 Et.nd (Ae Aw Ad (Ae Bx Ad (Aa 5)))) (Aj (Al 7 Et.nd (Fd (Dl Ag))) (Aj (Al 8 Et.nd (Fd (Dl Ag))) (Aj (Fj PassesOwn.never rfl (Dq rfl T.Dr (Ac (Aa 5) Ag)) (Bj 9 Et.nd) (Aj (Al 10 Et.nd (Ax (Cw T) (hr.mono (by decide)) rfl T.Cq T.Cm T.Bw pass0 (Ac (Aa 0) (Ac (Ae Aw (Aa 6) (Aa 9)) Ag)))) (Aj (Al 11 Et.nd (Ao Aq (Ao Aq (Aa 2) Ad) (Aa 9))) (Aj (Ca (Cg (Ds hr.units) (Ao Aq (Ao Aq (Ao Aq (Aa 1) Ad) (Aa 9)) Ad) Gf (nomark _)) (Aj (Al 12 Et.nd (Ae Aw (Ae Ge (Ao Aq (Ao Aq (Ao Aq (Aa 1) Ad) (Aa 9)) Ad) (Aa 11)) Ad)) (Av (Al 11 Et.nd (Ae Aw (Aa 11) (Ae Bx (Ae Ba (Ax (Jv T) (hr.mono (by decide)) rfl T.Ih T.Hw T.Hi pass0 (Ac (Ae Cd (Aa 10) Ad) (Ac (Aa 4) Ag))) (Aa 12)) (Ae Ba (Aa 10) Ad)))))) Ck) (Aj (G9 (Fy PySem.F.slot_list_append PySem.F.type_list_append G8 (Aa 7) (Ac (Aa 11) Ag))) (Av (G9 (Fy PySem.F.slot_list_append PySem.F.type_list_append G8 (Aa 8) (Ac (Dj Ew rfl T.En Eo (Ac (Bo (Hd rfl (Er (dn:=(Bc Je).names) (N0:=O6) (N:= ["_law_number_here","_law_unit_here","_law_cell"]) (nt:=1) (caps:= [4,10])) (Hu (Ao Aq (Ao Aq (Aa 2) Ad) (Aa 9))) (λC s₀ H₀ ex=>(Bj 0 (show (["_law_number_here","_law_unit_here","_law_cell"]:List Str).Nodup by decide +kernel))) (Du (by decide)) (λC s₀ H₀ ex=>Eu) (λC s₀ H₀ ex=>(Ae Aw (Aa 0) (Ae Bx (Aa 1) (Ae Ba (Ae Cd (Aa 2) Ad) Ad)))))) Ag)) Ag))))))))) (Aj (Al 13 Et.nd (Fd (Dl Ag))) (Aj (Fj PassesOwn.never rfl (Dq rfl T.Dr (Ac (Bq Cv rfl T.Cz Cy (Ac (Aa 3) Ag)) Ag)) (Bj 14 Et.nd) (Aj (Kr (Jo 15 rfl Et.nd (Er (dn:=(Bc Je).names) (N0:=O6) (N:= ["_law_k","_law_script","_law_many","_law_b","_law_at"]) (nt:=1) (caps:= [0,5,6,14])) (Dq rfl T.Dr (Ac (Aa 5) Ag)) (λC s₀ H₀ ex=>(Bj 0 (show (["_law_k","_law_script","_law_many","_law_b","_law_at"]:List Str).Nodup by decide +kernel))) (Du (by decide)) (λC s₀ H₀ ex=>Eu) (λC s₀ H₀ ex=>(Ax (Cw T) (hr.mono (by decide)) rfl T.Cq T.Cm T.Bw pass0 (Ac (Aa 1) (Ac (Ae Aw (Ae Aw (Ae Aw (Aa 3) (Aa 2)) (Ae Bx (Aa 4) (Aa 2))) (Aa 0)) Ag)))))) (Aj (Kr (Al 16 Et.nd (Hd rfl (Er (dn:=(Bc Je).names) (N0:=O6) (N:= ["_law_cell","_law_unit_here"]) (nt:=1) (caps:= [4])) (Hu (Aa 15)) (λC s₀ H₀ ex=>(Bj 0 (show (["_law_cell","_law_unit_here"]:List Str).Nodup by decide +kernel))) (Du (by decide)) (λC s₀ H₀ ex=>Eu) (λC s₀ H₀ ex=>(Ae Bx (Ax (Jv T) (hr.mono (by decide)) rfl T.Ih T.Hw T.Hi pass0 (Ac (Ae Cd (Aa 0) Ad) (Ac (Aa 1) Ag))) (Ae Ba (Aa 0) Ad)))))) (Av (G9 (Fy PySem.F.slot_list_append PySem.F.type_list_append G8 (Aa 13) (Ac (Dj Ew rfl T.En Eo (Ac (Bo (Hd rfl (Er (dn:=(Bc Je).names) (N0:=O6) (N:= ["_law_k","_law_lows","_law_at","_law_added_here"]) (nt:=1) (caps:= [3,14,16])) (Dq rfl T.Dr (Ac (Aa 5) Ag)) (λC s₀ H₀ ex=>(Bj 0 (show (["_law_k","_law_lows","_law_at","_law_added_here"]:List Str).Nodup by decide +kernel))) (Du (by decide)) (λC s₀ H₀ ex=>Eu) (λC s₀ H₀ ex=>(Ae Aw (Ao Aq (Ao Aq (Aa 1) (Aa 2)) (Aa 0)) (Ao Aq (Aa 3) (Aa 0)))))) Ag)) Ag))))))) (Av (Bk (Fw (Ac (Fw (Ac (Dj Ew rfl T.En Eo (Ac (Aa 7) Ag)) (Ac (Dj Ew rfl T.En Eo (Ac (Aa 8) Ag)) Ag))) (Ac (Aa 13) Ag)))))))))))))
theorem ZGa (T:Txt K mg t):FnOk P w K mg base CX0 4 t.Ln t.O7 ["_law_script","_law_house_here","_law_turns"] (lF K R0):=by
 refine Dg T.Rn K9 λcdv A outer s H E hr=> ?_
 exact (Aj (Al 3 K9.nd (Bq Cv rfl T.Cz Cy (Ac (Ao Aq (Aa 1) Ad) Ag))) (Aj (Al 4 K9.nd (Ae Aw Ad (Ae Bx Ad (Aa 3)))) (Aj (Al 5 K9.nd (Fd (Dl Ag))) (Aj (Fj PassesOwn.never rfl (Dq rfl T.Dr (Ac (Aa 2) Ag)) (Bj 6 K9.nd) (Aj (Kr (Jo 7 rfl K9.nd (Er (dn:=(Bc Mp).names) (N0:=U7) (N:= ["_law_k","_law_script","_law_many","_law_b","_law_at"]) (nt:=1) (caps:= [0,3,4,6])) (Dq rfl T.Dr (Ac (Aa 3) Ag)) (λC s₀ H₀ ex=>(Bj 0 (show (["_law_k","_law_script","_law_many","_law_b","_law_at"]:List Str).Nodup by decide +kernel))) (Du (by decide)) (λC s₀ H₀ ex=>Eu) (λC s₀ H₀ ex=>(Ax (Cw T) (hr.mono (by decide)) rfl T.Cq T.Cm T.Bw pass0 (Ac (Aa 1) (Ac (Ae Aw (Ae Aw (Aa 3) (Ae Bx (Aa 4) (Aa 2))) (Aa 0)) Ag)))))) (Av (G9 (Fy PySem.F.slot_list_append PySem.F.type_list_append G8 (Aa 5) (Ac (Dj Ew rfl T.En Eo (Ac (Bo (Hd rfl (Er (dn:=(Bc Mp).names) (N0:=U7) (N:= ["_law_cell","_law_script"]) (nt:=1) (caps:= [0])) (Hu (Aa 7)) (λC s₀ H₀ ex=>(Bj 0 (show (["_law_cell","_law_script"]:List Str).Nodup by decide +kernel))) (Du (by decide)) (λC s₀ H₀ ex=>Eu) (λC s₀ H₀ ex=>(Ax (Jv T) (hr.mono (by decide)) rfl T.Ih T.Hw T.Hi pass0 (Ac (Aa 0) (Ac (Bo (Ax (Oi T) (hr.mono (by decide)) rfl T.Jg T.Ja T.Gv pass0 (Ac (Aa 1) Ag))) Ag)))))) Ag)) Ag)))))) (Av (Bk (Aa 5)))))))
theorem ZFo (T:Txt K mg t):FnOk P w K mg base CX0 1 t.Ke t.N7 ["_law_steps_here"] (lF K Pr):=by
 refine Dg T.Pa K5 λcdv A outer s H E hr=> ?_
 exact (Aj (Al 1 K5.nd Ad) (Aj (Fj PassesOwn.never rfl (Hu (Aa 0)) (Kv rfl (Fv (Bj 2 K5.nd) (Fv (Bj 3 K5.nd) (Fv (Bj 4 K5.nd) Ju)))) (Av (Ca (Cg (Ds hr.units) (Aa 4) Gf (nomark _)) (Av (Al 1 K5.nd (Ae Aw (Aa 1) (Aa 3)))) Ck))) (Av (Bk (Aa 1)))))
theorem ZGE (T:Txt K mg t):FnOk P w K mg base CX0 1 t.Ks t.M5 ["_law_cells","_law_unit_here","_law_pumps"] (lF K Sx):=by
 refine Dg T.Qp Hg λcdv A outer s H E hr=> ?_
 exact (Aj (Al 3 Hg.nd (Fd (Dl Ag))) (Aj (Al 4 Hg.nd Ad) (Aj (Fj PassesOwn.never rfl (Dq rfl T.Dr (Ac (Ae Ba (Ao Aq (Aa 0) Ad) Ad) Ag)) (Bj 5 Hg.nd) (Aj (Al 4 Hg.nd (Ae Aw (Aa 4) (Ae Bx (Aa 1) (Ae Ba (Ao Aq (Aa 0) (Ae Aw Ad (Aa 5))) Ad)))) (Aj (Al 6 Hg.nd (Ae Aw Ad (Ae Bx (Aa 1) (Ae Ba (Ae Cd (Ao Aq (Aa 0) (Ae Aw Ad (Aa 5))) Ad) Ad)))) (Aj (Al 7 Hg.nd Gf) (Aj (Ca (N6 (Wb (Jr (Aa 2)) (Vn (Cg (Ds hr.units) (Ae Ba (Ae Cd (Ao Aq (Aa 0) (Ae Aw Ad (Aa 5))) Ad) Ad) Ad (nomark _))))) (Av (Al 7 Hg.nd Gf)) Ck) (Aj (G9 (Fy PySem.F.slot_list_append PySem.F.type_list_append G8 (Aa 3) (Ac (Fw (Ac (Aa 4) (Ac (Aa 6) (Ac (Aa 7) Ag)))) Ag))) (Av (Al 4 Hg.nd (Ae Aw (Aa 4) (Aa 6)))))))))) (Av (Bk (Dj Ew rfl T.En Eo (Ac (Aa 3) Ag)))))))
theorem ZBh (T:Txt K mg t):FnOk P w K mg base CX0 3 t.Kg t.Nh ["_law_script"] (lF K Hn):=by
 refine Dg T.Sy ZBm λcdv A outer s H E hr=> ?_
 exact (Av (Bk (Ae Aw Ad (Ae Ba (Ax (Cw T) (hr.mono (by decide)) rfl T.Cq T.Cm T.Bw pass0 (Ac (Aa 0) (Ac Ad Ag))) Ad))))
theorem ZDE (T:Txt K mg t):FnOk P w K mg base CX0 4 t.K3 t.Od ["_law_script","_law_b","_law_unit_here","_law_pumps"] (lF K Tc):=by
 refine Dg T.Pn Gr λcdv A outer s H E hr=> ?_
 exact (Aj (Al 4 Gr.nd (Ax (ZBh T) (hr.mono (by decide)) rfl T.Rb T.Qi T.Ol pass0 (Ac (Aa 0) Ag))) (Aj (Al 5 Gr.nd (Fd (Dl Ag))) (Aj (Al 6 Gr.nd Ad) (Aj (Fj PassesOwn.never rfl (Dq rfl T.Dr (Ac Ad Ag)) (Bj 7 Gr.nd) (Aj (Al 8 Gr.nd (Ae Ba (Ae Bx (Ae Bx (Ax (Cw T) (hr.mono (by decide)) rfl T.Cq T.Cm T.Bw pass0 (Ac (Aa 0) (Ac (Ae Aw (Aa 1) Ad) Ag))) Ad) (Ae Aw (Ae Bx (Aa 7) (Aa 7)) Ad)) Ad)) (Aj (Kr (Jo 9 rfl Gr.nd (Er (dn:=(Bc Nv).names) (N0:=Uh) (N:= ["_law_k","_law_script","_law_b","_law_j"]) (nt:=1) (caps:= [0,1,7])) (Dq rfl T.Dr (Ac Ad Ag)) (λC s₀ H₀ ex=>(Bj 0 (show (["_law_k","_law_script","_law_b","_law_j"]:List Str).Nodup by decide +kernel))) (Du (by decide)) (λC s₀ H₀ ex=>Eu) (λC s₀ H₀ ex=>(Ae Cd (Ax (Cw T) (hr.mono (by decide)) rfl T.Cq T.Cm T.Bw pass0 (Ac (Aa 1) (Ac (Ae Aw (Ae Aw (Aa 2) Ad) (Ae Ba (Ae Aw (Ae Bx Ad (Aa 3)) (Aa 0)) Ad)) Ag))) (Ae Aw Ad (Ae Bx Ad (Ae Cd (Aa 3) Ad))))))) (Aj (Ca (Jr (Ax (ZAZ T) (hr.mono (by decide)) rfl T.Ss T.R1 T.K7 pass0 (Ac (Aa 0) Ag))) (Aj (Al 8 Gr.nd (Ae Cd (Ax (Cw T) (hr.mono (by decide)) rfl T.Cq T.Cm T.Bw pass0 (Ac (Aa 0) (Ac (Ae Aw (Aa 1) Ad) Ag))) (Ao Aq (Bo (Dl (Ac Ad (Ac Ad (Ac Ad (Ac Ad Ag)))))) (Aa 7)))) (Av (Kr (Jo 9 rfl Gr.nd (Er (dn:=(Bc Nv).names) (N0:=Uh) (N:= ["_law_k","_law_script","_law_b","_law_j"]) (nt:=1) (caps:= [0,1,7])) (Dq rfl T.Dr (Ac Ad Ag)) (λC s₀ H₀ ex=>(Bj 0 (show (["_law_k","_law_script","_law_b","_law_j"]:List Str).Nodup by decide +kernel))) (Du (by decide)) (λC s₀ H₀ ex=>Eu) (λC s₀ H₀ ex=>(Ae Cd (Ax (Cw T) (hr.mono (by decide)) rfl T.Cq T.Cm T.Bw pass0 (Ac (Aa 1) (Ac (Ae Aw (Ae Aw (Aa 2) Ad) (Aa 0)) Ag))) (Ao Aq (Bo (Dl (Ac Ad (Ac Ad (Ac Ad (Ac Ad Ag)))))) (Aa 3)))))))) Ck) (Av (Ca (N6 (Z6 (Cg (Ds hr.units) (Aa 7) Ad (nomark _)) (ZBA (N6 (Wb (Cg (Ds hr.units) (Ae Ba (Aa 8) Ad) Ad (nomark _)) (Vn (Cg Hc (Ae Aw (Aa 6) Ad) (Aa 4) (nomark _)))))))) (Aj (Ca (Cg Iw (Aa 7) Ad (nomark _)) (Av (Al 6 Gr.nd (Ae Aw (Ae Aw (Aa 6) Ad) (Ae Ba (Ae Cd (Aa 8) Ad) (Ae Ge (Ae Ge (Aa 4) (Aa 6)) Ad))))) Ck) (Av (G9 (Fy PySem.F.slot_list_append PySem.F.type_list_append G8 (Aa 5) (Ac (Fw (Ac (Aa 6) (Ac (Ax (ZGE T) (hr.mono (by decide)) rfl T.Wi T.Wu T.Px pass0 (Ac (Aa 9) (Ac (Aa 2) (Ac (Aa 3) Ag)))) Ag))) Ag))))) Ck)))))) (Av (Bk (Dj Ew rfl T.En Eo (Ac (Aa 5) Ag))))))))
theorem ZDn (T:Txt K mg t):FnOk P w K mg base CX0 5 t.Jp t.Om ["_law_script","_law_b","_law_k","_law_names","_law_river"] (lF K Ls):=by
 refine Dg T.R3 Gz λcdv A outer s H E hr=> ?_
 exact (Aj (Al 5 Gz.nd (Bo (Ax (Oi T) (hr.mono (by decide)) rfl T.Jg T.Ja T.Gv pass0 (Ac (Aa 0) Ag)))) (Aj (Al 6 Gz.nd (Ax (Cw T) (hr.mono (by decide)) rfl T.Cq T.Cm T.Bw pass0 (Ac (Aa 0) (Ac (Ae Aw (Aa 1) Ad) Ag)))) (Aj (Al 7 Gz.nd (Nb (Ik Iw (Bq Cv rfl T.Cz Cy (Ac (Aa 3) Ag)) Ad (nomark _)) (Oe (Ik (Ds hr.units) (Ae Ba (Aa 6) Ad) Ad (nomark _))))) (Aj (Al 8 Gz.nd (Ax (ZDE T) (hr.mono (by decide)) rfl T.Uu T.Vh T.Qm pass0 (Ac (Aa 0) (Ac (Aa 1) (Ac (Aa 5) (Ac (Aa 7) Ag)))))) (Aj (Al 9 Gz.nd ZFj) (Aj (Ca (Jr (Aa 7)) (Aj (Al 10 Gz.nd (Ae Aw (Bq (ZDW rfl) rfl T.Q8 Q9 (Ac (Bo (Hd rfl (Er (dn:=(Bc Qa).names) (N0:=ZBK) (N:= ["_law_season"]) (nt:=1) (caps:= [])) (Hu (Aa 8)) (λC s₀ H₀ ex=>(Bj 0 (show (["_law_season"]:List Str).Nodup by decide +kernel))) (Du (by decide)) (λC s₀ H₀ ex=>Eu) (λC s₀ H₀ ex=>(Ax (ZFo T) (hr.mono (by decide)) rfl T.Wm T.Uo T.R9 pass0 (Ac (Ao Aq (Aa 0) Ad) Ag))))) Ag)) (Ae Bx (Aa 5) (Ae Ba (Ae Cd (Aa 6) Ad) Ad)))) (Aj (Al 11 Gz.nd (Ao Aq (Aa 3) (Ae Ba (Ae Aw (Ae Aw (Aa 2) Ad) (Ae Ba (Ae Cd (Aa 6) Ad) (Ae Ge (Bq Cv rfl T.Cz Cy (Ac (Aa 3) Ag)) Ad))) (Bq Cv rfl T.Cz Cy (Ac (Aa 3) Ag))))) (Av (Al 9 Gz.nd (Fw (Ac (Aa 11) (Ac (Ae Aw Ad (Ae Ba (Ae Cd (Aa 6) Ad) Ad)) (Ac (Aa 10) Ag)))))))) Ck) (Aj (Al 12 Gz.nd (Ax (Jv T) (hr.mono (by decide)) rfl T.Ih T.Hw T.Hi pass0 (Ac (Ax (Cw T) (hr.mono (by decide)) rfl T.Cq T.Cm T.Bw pass0 (Ac (Aa 0) (Ac (Ae Aw (Aa 1) Ad) Ag))) (Ac (Aa 5) Ag)))) (Av (Bk (Fw (Ac Gf (Ac (Ao Aq (Aa 3) (Aa 2)) (Ac (Ao Aq (Aa 4) Ad) (Ac (Ao Aq (Aa 4) Ad) (Ac (Aa 12) (Ac (Aa 8) (Ac (Aa 9) Ag)))))))))))))))))
theorem ZFQ (T:Txt K mg t):FnOk P w K mg base CX0 1 t.Kq t.O1 ["_law_cell","_law_k","_law_many"] (lF K Rj):=by
 refine Dg T.Pq Tj λcdv A outer s H E hr=> ?_
 exact (Aj (Al 3 Tj.nd (Ao Aq Gf (Ae Ba (Ae Cd (Aa 0) Ad) Ad))) (Aj (Ca (N6 (Wb (Cg (Ds hr.units) (Ae Ba (Aa 0) Ad) Ad (nomark _)) (Vn (Cg Hc (Aa 2) Ad (nomark _))))) (Av (Bk (Ae Bx (Aa 3) (Ae Aw (Aa 1) Ad)))) Ck) (Aj (Al 4 Tj.nd (Ao Aq Gf (Ae Ba (Ae Aw (Ae Bx Ad (Aa 1)) (Ae Cd (Aa 0) Ad)) Ad))) (Aj (Ca (Cg (Ds hr.units) (Ae Ba (Aa 0) Ad) Ad (nomark _)) (Av (Bk (Ae Aw (Aa 4) (Ae Bx (Aa 3) (Ae Ba (Ae Cd (Aa 0) Ad) Ad))))) Ck) (Av (Bk (Ae Aw (Ae Aw (Ae Bx (Aa 3) (Ae Ba (Ae Cd (Aa 0) Ad) Ad)) (Aa 4)) (Ae Bx (Aa 3) (Ae Ge Ad (Ae Ba (Ae Cd (Aa 0) Ad) Ad))))))))))
theorem ZC1 (T:Txt K mg t):FnOk P w K mg base CX0 6 t.Lq t.Ng ["_law_script"] (lF K T6):=by
 refine Dg T.Rg Ei λcdv A outer s H E hr=> ?_
 exact (Aj (Al 1 Ei.nd (Ax (Cw T) (hr.mono (by decide)) rfl T.Cq T.Cm T.Bw pass0 (Ac (Aa 0) (Ac Ad Ag)))) (Aj (Al 2 Ei.nd (Ae Aw Ad (Ae Ba (Aa 1) Ad))) (Aj (Ca (Cg (Ds hr.units) (Ae Ba (Ae Cd (Aa 1) Ad) Ad) Ad (nomark _)) (Av (Al 2 Ei.nd (Ae Aw Ad (Ae Ba (Ae Cd (Aa 1) Ad) Ad)))) Ck) (Aj (Kr (Jo 3 rfl Ei.nd (Er (dn:=(Bc Qo).names) (N0:=ZA9) (N:= ["_law_k","_law_script","_law_many"]) (nt:=1) (caps:= [0,2])) (Dq rfl T.Dr (Ac (Aa 2) Ag)) (λC s₀ H₀ ex=>(Bj 0 (show (["_law_k","_law_script","_law_many"]:List Str).Nodup by decide +kernel))) (Du (by decide)) (λC s₀ H₀ ex=>Eu) (λC s₀ H₀ ex=>(Ax (ZFQ T) (hr.mono (by decide)) rfl T.X7 T.Uc T.Qe pass0 (Ac (Ax (Cw T) (hr.mono (by decide)) rfl T.Cq T.Cm T.Bw pass0 (Ac (Aa 1) (Ac Ad Ag))) (Ac (Aa 0) (Ac (Aa 2) Ag))))))) (Aj (Al 5 Ei.nd (Fd (Dl Ag))) (Aj (Fj PassesOwn.never rfl (Dq rfl T.Dr (Ac (Aa 2) Ag)) (Bj 4 Ei.nd) (Aj (Al 6 Ei.nd (Ae Aw Ad (Ae Bx Ad (Aa 4)))) (Aj (Al 7 Ei.nd (Ae Ba (Ax (Cw T) (hr.mono (by decide)) rfl T.Cq T.Cm T.Bw pass0 (Ac (Aa 0) (Ac (Ae Aw (Aa 6) Ad) Ag))) (Ae Ge (Aa 2) (Aa 4)))) (Aj (Ca (Cg (Ds hr.units) (Ae Ba (Ae Cd (Aa 1) Ad) Ad) Ad (nomark _)) (Av (Al 7 Ei.nd (Bq (ZBp rfl) rfl T.ZFi ZEW (Ac Ad (Ac (Ae Ge (Ae Ge (Aa 2) Ad) (Aa 4)) Ag))))) Ck) (Aj (Al 8 Ei.nd (Ax (Cw T) (hr.mono (by decide)) rfl T.Cq T.Cm T.Bw pass0 (Ac (Aa 0) (Ac (Ae Aw (Aa 6) Ad) Ag)))) (Aj (Al 9 Ei.nd (Fw (Ac Gf (Ac (Ae Bx (Ae Ba (Aa 8) Ad) (Ae Ba (Ae Cd (Aa 8) Ad) Ad)) Ag)))) (Aj (Ca (Cg Iw (Aa 7) Ad (nomark _)) (Av (Al 9 Ei.nd (Fw (Ac (Ao Aq (Aa 3) (Ae Aw (Aa 4) (Aa 7))) (Ac (Ao Aq (Aa 9) Ad) Ag))))) Ck) (Aj (Al 10 Ei.nd (Ae Ba (Ax (Cw T) (hr.mono (by decide)) rfl T.Cq T.Cm T.Bw pass0 (Ac (Aa 0) (Ac (Aa 6) Ag))) Ad)) (Aj (Al 11 Ei.nd (Ax (Jv T) (hr.mono (by decide)) rfl T.Ih T.Hw T.Hi pass0 (Ac (Ax (Cw T) (hr.mono (by decide)) rfl T.Cq T.Cm T.Bw pass0 (Ac (Aa 0) (Ac (Ae Aw (Aa 6) Ad) Ag))) (Ac (Bo (Ax (Oi T) (hr.mono (by decide)) rfl T.Jg T.Ja T.Gv pass0 (Ac (Aa 0) Ag))) Ag)))) (Aj (Al 12 Ei.nd (Ae Ba (Ax (Cw T) (hr.mono (by decide)) rfl T.Cq T.Cm T.Bw pass0 (Ac (Aa 0) (Ac (Ae Aw (Aa 6) Ad) Ag))) (Ao Aq (Bo (Dl (Ac Ad (Ac (Ae Lk Ad Ad) Ag)))) (Ae Ba (Ae Cd (Aa 1) Ad) Ad)))) (Av (Ca (Cg Hc (Aa 10) Ad (nomark _)) (Av (G9 (Fy PySem.F.slot_list_append PySem.F.type_list_append G8 (Aa 5) (Ac (Bo (Ax (ZDn T) (hr.mono (by decide)) rfl T.Vp T.Vy T.Mf pass0 (Ac (Aa 0) (Ac (Aa 6) (Ac (Aa 4) (Ac (Aa 3) (Ac (Aa 9) Ag))))))) Ag)))) (Av (Ca (Cg Hc (Aa 10) Ad (nomark _)) (Av (G9 (Fy PySem.F.slot_list_append PySem.F.type_list_append G8 (Aa 5) (Ac (Fw (Ac Gf (Ac (Ao Aq (Aa 3) (Aa 4)) (Ac (Ao Aq (Aa 9) Ad) (Ac (Ao Aq (Aa 9) Ad) (Ac (Aa 11) (Ac (Aa 12) Ag))))))) Ag)))) (Av (G9 (Fy PySem.F.slot_list_append PySem.F.type_list_append G8 (Aa 5) (Ac (Fw (Ac Gf (Ac (Ao Aq (Aa 3) (Aa 4)) (Ac (Ao Aq (Aa 9) Ad) (Ac (Ao Aq (Aa 9) Ad) (Ac (Aa 11) Ag)))))) Ag)))))))))))))))))) (Av (Bk (Fw (Ac (Ax (ZBh T) (hr.mono (by decide)) rfl T.Rb T.Qi T.Ol pass0 (Ac (Aa 0) Ag)) (Ac (Dj Ew rfl T.En Eo (Ac (Aa 5) Ag)) Ag)))))))))))
theorem ZFY (T:Txt K mg t):FnOk P w K mg base CX0 1 t.Jj t.Ny ["_law_state_here","_law_k","_law_j"] (lF K Lz):=by
 refine Dg T.Sd Tv λcdv A outer s H E hr=> ?_
 exact (Aj (Al 3 Tv.nd (Fd (Dj (Ji rfl) rfl T.Kc Jk (Ac (Ao Aq (Aa 0) Ad) Ag)))) (Aj (Jo 4 rfl Tv.nd (Er (dn:=(Bc Oq).names) (N0:=V3) (N:= ["_law_row"]) (nt:=1) (caps:= [])) (Hu (Ao Aq (Aa 0) Ad)) (λC s₀ H₀ ex=>(Bj 0 (show (["_law_row"]:List Str).Nodup by decide +kernel))) (Du (by decide)) (λC s₀ H₀ ex=>Eu) (λC s₀ H₀ ex=>(Fd (Dj (Ji rfl) rfl T.Kc Jk (Ac (Aa 0) Ag))))) (Aj (Ca (Cg Hc (Aa 2) Ad (nomark _)) (Av (J8 (Bq (Vm rfl) rfl T.Q8 Q9 (Ac Ad (Ac (Ae Ge (Ao Aq (Ao Aq (Aa 4) (Aa 1)) (Aa 2)) Ad) Ag))) (Rz (Ao Aq (Aa 4) (Aa 1)) (Aa 2)))) (Av (J8 (Bq (Vm rfl) rfl T.Q8 Q9 (Ac Ad (Ac (Ae Ge (Ao Aq (Aa 3) (Aa 1)) Ad) Ag))) (Rz (Aa 3) (Aa 1))))) (Av (Bk (Fw (Ac (Dj Ew rfl T.En Eo (Ac (Aa 3) Ag)) (Ac (Dj Ew rfl T.En Eo (Ac (Bo (Hd rfl (Er (dn:=(Bc Oq).names) (N0:=V3) (N:= ["_law_row"]) (nt:=1) (caps:= [])) (Hu (Aa 4)) (λC s₀ H₀ ex=>(Bj 0 (show (["_law_row"]:List Str).Nodup by decide +kernel))) (Du (by decide)) (λC s₀ H₀ ex=>Eu) (λC s₀ H₀ ex=>(Dj Ew rfl T.En Eo (Ac (Aa 0) Ag))))) Ag)) Ag))))))))
theorem ZBg (T:Txt K mg t):FnOk P w K mg base CX0 1 t.K4 t.Mx ["_law_some","_law_others"] (lF K Nt):=by
 refine Dg T.Qu Ym λcdv A outer s H E hr=> ?_
 exact (Aj (Fj PassesOwn.never rfl (Dq rfl T.Dr (Ac (Bq Cv rfl T.Cz Cy (Ac (Aa 0) Ag)) Ag)) (Bj 2 Ym.nd) (Av (Ca (Cg Iw (Ao Aq (Aa 0) (Aa 2)) (Ao Aq (Aa 1) (Aa 2)) (nomark _)) (Av (Bk Ha)) Ck))) (Av (Bk Ha)))
theorem ZA1 (T:Txt K mg t):FnOk P w K mg base CX0 2 t.K1 t.Mv ["_law_floods_here","_law_others"] (lF K J7):=by
 refine Dg T.Pu ZAn λcdv A outer s H E hr=> ?_
 exact (Aj (Ca (Cg (Wc hr.units) (Bq Cv rfl T.Cz Cy (Ac (Aa 0) Ag)) (Bq Cv rfl T.Cz Cy (Ac (Aa 1) Ag)) (nomark _)) (Av (Bk Ha)) Ck) (Aj (Fj PassesOwn.never rfl (Dq rfl T.Dr (Ac (Bq Cv rfl T.Cz Cy (Ac (Aa 0) Ag)) Ag)) (Bj 2 ZAn.nd) (Av (Ca (Yu (Jr (Ax (ZBg T) (hr.mono (by decide)) rfl T.Ph T.Qn T.O2 pass0 (Ac (Ao Aq (Aa 0) (Aa 2)) (Ac (Ao Aq (Aa 1) (Aa 2)) Ag))))) (Av (Bk Ha)) Ck))) (Av (Bk Ha))))
theorem ZDz (T:Txt K mg t):FnOk P w K mg base CX0 4 t.Lf t.Ma ["_law_script","_law_house_here"] (lF K T8):=by
 refine Dg T.R6 Ft λcdv A outer s H E hr=> ?_
 exact (Aj (Al 2 Ft.nd (Ao Aq (Aa 1) Ad)) (Aj (Al 3 Ft.nd (Bo (Ax (Oi T) (hr.mono (by decide)) rfl T.Jg T.Ja T.Gv pass0 (Ac (Aa 0) Ag)))) (Aj (Al 4 Ft.nd (Ae Aw Ad (Ae Bx Ad (Bq Cv rfl T.Cz Cy (Ac (Aa 2) Ag))))) (Aj (Al 5 Ft.nd (Fd (Dl Ag))) (Aj (Al 6 Ft.nd (Fd (Dl Ag))) (Aj (Fj PassesOwn.never rfl (Dq rfl T.Dr (Ac (Bq Cv rfl T.Cz Cy (Ac (Aa 2) Ag)) Ag)) (Bj 7 Ft.nd) (Aj (Al 8 Ft.nd Ad) (Aj (Ca (Cg (Ds hr.units) (Ao Aq (Ao Aq (Aa 2) (Aa 7)) Ad) Gf (nomark _)) (Av (Al 8 Ft.nd (Ae Ba (Ax (Jv T) (hr.mono (by decide)) rfl T.Ih T.Hw T.Hi pass0 (Ac (Ax (Cw T) (hr.mono (by decide)) rfl T.Cq T.Cm T.Bw pass0 (Ac (Aa 0) (Ac (Ae Aw (Aa 4) (Aa 7)) Ag))) (Ac (Aa 3) Ag))) (Ae Aw (Ao Aq (Ao Aq (Aa 2) (Aa 7)) Ad) Ad)))) Ck) (Aj (G9 (Fy PySem.F.slot_list_append PySem.F.type_list_append G8 (Aa 5) (Ac (Aa 8) Ag))) (Aj (Al 9 Ft.nd (Ax (Cw T) (hr.mono (by decide)) rfl T.Cq T.Cm T.Bw pass0 (Ac (Aa 0) (Ac (Ae Aw (Ae Aw (Aa 4) (Bq Cv rfl T.Cz Cy (Ac (Aa 2) Ag))) (Aa 7)) Ag)))) (Aj (Al 10 Ft.nd (Fd (Dl Ag))) (Aj (Fj PassesOwn.never rfl (Dq rfl T.Dr (Ac Ad Ag)) (Bj 11 Ft.nd) (Aj (G9 (Fy PySem.F.slot_list_append PySem.F.type_list_append G8 (Aa 10) (Ac (Ae Bx (Aa 3) (Ae Ba (Aa 9) Ad)) Ag))) (Av (Al 9 Ft.nd (Ae Cd (Aa 9) Ad))))) (Av (G9 (Fy PySem.F.slot_list_append PySem.F.type_list_append G8 (Aa 6) (Ac (Dj Ew rfl T.En Eo (Ac (Aa 10) Ag)) Ag))))))))))) (Av (Bk (Fw (Ac (Dj Ew rfl T.En Eo (Ac (Aa 5) Ag)) (Ac (Dj Ew rfl T.En Eo (Ac (Aa 6) Ag)) Ag)))))))))))
theorem Zd (T:Txt K mg t):FnOk P w K mg base CX0 2 t.Kl t.Og ["_law_state_here","_law_other"] (lF K Nr):=by
 refine Dg T.Rh ZAx λcdv A outer s H E hr=> ?_
 exact (Aj (Fj PassesOwn.never rfl (Dq rfl T.Dr (Ac (Bq Cv rfl T.Cz Cy (Ac (Ao Aq (Aa 0) Ad) Ag)) Ag)) (Bj 2 ZAx.nd) (Av (Ca (N6 (Z6 (Cg Iw (Ao Aq (Ao Aq (Aa 0) Ad) (Aa 2)) (Ao Aq (Ao Aq (Aa 1) Ad) (Aa 2)) (nomark _)) (ZBA (Yu (Jr (Ax (ZBg T) (hr.mono (by decide)) rfl T.Ph T.Qn T.O2 pass0 (Ac (Ao Aq (Ao Aq (Aa 0) Ad) (Aa 2)) (Ac (Ao Aq (Ao Aq (Aa 1) Ad) (Aa 2)) Ag)))))))) (Av (Bk Ha)) Ck))) (Av (Bk Ha)))
theorem ZCx (T:Txt K mg t):FnOk P w K mg base CX0 3 t.Ko t.Oo ["_law_script","_law_floods_here","_law_many"] (lF K Hy):=by
 refine Dg T.Pj Im λcdv A outer s H E hr=> ?_
 exact (Aj (Al 3 Im.nd (Ax (Cw T) (hr.mono (by decide)) rfl T.Cq T.Cm T.Bw pass0 (Ac (Aa 0) (Ac Ad Ag)))) (Aj (Al 4 Im.nd (Fd (Dj (Ji rfl) rfl T.Kc Jk (Ac (Aa 1) Ag)))) (Aj (Ca (Cg (Ds hr.units) (Aa 4) (Bo (Dl Ag)) (nomark _)) (Av (Bk (Aa 4))) Ck) (Aj (Al 5 Im.nd (Ae Ba (Aa 3) Ad)) (Aj (Al 3 Im.nd (Ae Ba (Ae Cd (Aa 3) Ad) (Bq Cv rfl T.Cz Cy (Ac (Aa 4) Ag)))) (Aj (Ca (Cg (Ds hr.units) (Aa 5) Ad (nomark _)) (Av (Bk (Ae Aw (Bo (Qv (Aa 4) Q6 (Sq (Aa 3)))) (Bo (Qv (Aa 4) (Sq (Ae Aw (Aa 3) Ad)) Q6))))) Ck) (Aj (Ca (Cg (Ds hr.units) (Aa 5) Ad (nomark _)) (Av (Bk (Ae Aw (Bo (Ae Aw (Bo (Qv (Aa 4) Q6 (Sq (Aa 3)))) (Bo (Dl (Ac (Ao Aq (Aa 4) (Aa 3)) Ag))))) (Bo (Qv (Aa 4) (Sq (Aa 3)) Q6))))) Ck) (Aj (Ca (Cg (Ds hr.units) (Aa 5) Ad (nomark _)) (Aj (Al 6 Im.nd (Fd (Dj (Ji rfl) rfl T.Kc Jk (Ac (Ao Aq (Aa 4) (Aa 3)) Ag)))) (Aj (Al 7 Im.nd (Ae Ba (Ax (Cw T) (hr.mono (by decide)) rfl T.Cq T.Cm T.Bw pass0 (Ac (Aa 0) (Ac Ad Ag))) (Aa 2))) (Aj (J8 (Bq (Vm rfl) rfl T.Q8 Q9 (Ac Ad (Ac (Ae Ge (Ao Aq (Aa 6) (Aa 7)) Ad) Ag))) (Rz (Aa 6) (Aa 7))) (Av (J8 (Dj Ew rfl T.En Eo (Ac (Aa 6) Ag)) (Rz (Aa 4) (Aa 3))))))) Ck) (Av (Bk (Aa 4)))))))))))
theorem ZBM (T:Txt K mg t):FnOk P w K mg base CX0 1 t.Lj t.Lw ["numbers","others"] (lF K Mh):=by
 refine Dg T.Pb ZFt λcdv A outer s H E hr=> ?_
 exact (Aj (Ca (Cg (Wc hr.units) (Bq Cv rfl T.Cz Cy (Ac (Aa 0) Ag)) (Bq Cv rfl T.Cz Cy (Ac (Aa 1) Ag)) (nomark _)) (Av (Bk Ha)) Ck) (Av (Bk (Bq (Wg rfl) rfl T.X4 Vq (Ac (Bo (Hd rfl (Er (dn:=(Bc S6).names) (N0:=ZAB) (N:= ["number","other"]) (nt:=2) (caps:= [])) (ZBj rfl T.ZA2 (Ac (Aa 0) (Ac (Aa 1) Ag))) (λC s₀ H₀ ex=>(Kv rfl (Fv (Bj 0 (show (["number","other"]:List Str).Nodup by decide +kernel)) (Fv (Bj 1 (show (["number","other"]:List Str).Nodup by decide +kernel)) Ju)))) (Yy (Qt (Du (by decide)) (Qt (Du (by decide)) ZAz))) (λC s₀ H₀ ex=>Eu) (λC s₀ H₀ ex=>(Ik o_le (Aa 0) (Aa 1) (nomark _))))) Ag)))))
theorem Ti (T:Txt K mg t):FnOk P w K mg base CX0 2 t.Lb t.Mz ["floods","others"] (lF K Ii):=by
 refine Dg T.Qc ZET λcdv A outer s H E hr=> ?_
 exact (Aj (Ca (Cg (Wc hr.units) (Bq Cv rfl T.Cz Cy (Ac (Aa 0) Ag)) (Bq Cv rfl T.Cz Cy (Ac (Aa 1) Ag)) (nomark _)) (Av (Bk Ha)) Ck) (Av (Bk (Bq (Wg rfl) rfl T.X4 Vq (Ac (Bo (Hd rfl (Er (dn:=(Bc Qz).names) (N0:=Zr) (N:= ["flood","other"]) (nt:=2) (caps:= [])) (ZBj rfl T.ZA2 (Ac (Aa 0) (Ac (Aa 1) Ag))) (λC s₀ H₀ ex=>(Kv rfl (Fv (Bj 0 (show (["flood","other"]:List Str).Nodup by decide +kernel)) (Fv (Bj 1 (show (["flood","other"]:List Str).Nodup by decide +kernel)) Ju)))) (Yy (Qt (Du (by decide)) (Qt (Du (by decide)) ZAz))) (λC s₀ H₀ ex=>Eu) (λC s₀ H₀ ex=>(Ax (ZBM T) (hr.mono (by decide)) rfl T.Rx T.Ru T.Mm pass0 (Ac (Aa 0) (Ac (Aa 1) Ag)))))) Ag)))))
theorem Zg (T:Txt K mg t):FnOk P w K mg base CX0 3 t.Jq t.Mq ["state","other"] (lF K Lx):=by
 refine Dg T.S7 O3 λcdv A outer s H E hr=> ?_
 exact (Aj (J8 (Aa 0) (Kv rfl (Fv (Bj 2 O3.nd) (Fv (Bj 3 O3.nd) Ju)))) (Aj (J8 (Aa 1) (Kv rfl (Fv (Bj 4 O3.nd) (Fv (Bj 5 O3.nd) Ju)))) (Av (Bk (Nb (Ax (ZBM T) (hr.mono (by decide)) rfl T.Rx T.Ru T.Mm pass0 (Ac (Aa 2) (Ac (Aa 4) Ag))) (Oe (Ax (Ti T) (hr.mono (by decide)) rfl T.Mu T.Mt T.Iv pass0 (Ac (Aa 3) (Ac (Aa 5) Ag)))))))))
theorem ZEe (T:Txt K mg t):FnOk P w K mg base CX0 7 t.Ht t.Vx ["_law_script"] (lF K I9):=by
 refine Dg T.ZDI Fo λcdv A outer s H E hr=> ?_
 exact (Aj (Al 1 Fo.nd (Ax (ZC1 T) (hr.mono (by decide)) rfl T.Tq T.Ul T.R4 pass0 (Ac (Aa 0) Ag))) (Aj (Al 2 Fo.nd (Bq Cv rfl T.Cz Cy (Ac (Ao Aq (Aa 1) Ad) Ag))) (Aj (Al 3 Fo.nd (Ax (ZDz T) (hr.mono (by decide)) rfl T.Wk T.W6 T.S8 pass0 (Ac (Aa 0) (Ac (Aa 1) Ag)))) (Aj (Al 4 Fo.nd (Bo (Ax (ZGa T) (hr.mono (by decide)) rfl T.Wo T.Vb T.Qq pass0 (Ac (Aa 0) (Ac (Aa 1) (Ac (Ae Ba (Ax (Cw T) (hr.mono (by decide)) rfl T.Cq T.Cm T.Bw pass0 (Ac (Aa 0) (Ac Ad Ag))) Ad) Ag)))))) (Aj (J8 (Bo (Ax (ZDj T) (hr.mono (by decide)) rfl T.Ug T.V9 T.Rk pass0 (Ac (Aa 0) (Ac (Aa 1) (Ac (Aa 3) (Ac (Aa 4) Ag)))))) (Kv rfl (Fv (Bj 5 Fo.nd) (Fv (Bj 6 Fo.nd) Ju)))) (Aj (Ca (Cg (Ds hr.units) (Ae Ba (Ae Cd (Ax (Cw T) (hr.mono (by decide)) rfl T.Cq T.Cm T.Bw pass0 (Ac (Aa 0) (Ac Ad Ag))) Ad) Ad) Ad (nomark _)) (Aj (Al 5 Fo.nd (Ax (ZFY T) (hr.mono (by decide)) rfl T.Vk T.Up T.Ni pass0 (Ac (Aa 5) (Ac (Ae Ba (Ax (Cw T) (hr.mono (by decide)) rfl T.Cq T.Cm T.Bw pass0 (Ac (Aa 0) (Ac Ad Ag))) (Aa 2)) (Ac (Ae Ba (Ax (Cw T) (hr.mono (by decide)) rfl T.Cq T.Cm T.Bw pass0 (Ac (Aa 0) (Ac Ad Ag))) Ad) Ag))))) (Av (Al 6 Fo.nd (Bo (Ax (ZCx T) (hr.mono (by decide)) rfl T.Ua T.V4 T.Il pass0 (Ac (Aa 0) (Ac (Aa 6) (Ac (Aa 2) Ag)))))))) Ck) (Aj (Al 7 Fo.nd (Bo (Dl (Ac (Bo (Dj (Ji rfl) rfl T.Kc Jk (Ac (Aa 4) Ag))) (Ac (Bo (Dj (Ji rfl) rfl T.Kc Jk (Ac (Aa 6) Ag))) Ag))))) (Aj (Al 8 Fo.nd (Bo (Dl (Ac (Ax (Zg T) (hr.mono (by decide)) rfl T.Sw T.Rm T.Nu pass0 (Ac (Aa 3) (Ac (Aa 5) Ag))) (Ac (Ax (Zg T) (hr.mono (by decide)) rfl T.Sw T.Rm T.Nu pass0 (Ac (Aa 5) (Ac (Aa 3) Ag))) Ag))))) (Aj (Al 8 Fo.nd (Bo (Ae Aw (Aa 8) (Bo (Dl (Ac (Ax (Ti T) (hr.mono (by decide)) rfl T.Mu T.Mt T.Iv pass0 (Ac (Ao Aq (Aa 7) Ad) (Ac (Ao Aq (Aa 7) Ad) Ag))) (Ac (Ax (Ti T) (hr.mono (by decide)) rfl T.Mu T.Mt T.Iv pass0 (Ac (Ao Aq (Aa 7) Ad) (Ac (Ao Aq (Aa 7) Ad) Ag))) Ag))))))) (Aj (Al 9 Fo.nd (Bo (Dl (Ac (Ax (Zd T) (hr.mono (by decide)) rfl T.Rc T.Qk T.O9 pass0 (Ac (Aa 3) (Ac (Aa 5) Ag))) (Ac (Ax (Zd T) (hr.mono (by decide)) rfl T.Rc T.Qk T.O9 pass0 (Ac (Aa 5) (Ac (Aa 3) Ag))) (Ac (Ax (ZA1 T) (hr.mono (by decide)) rfl T.Q3 T.Qf T.Ka pass0 (Ac (Aa 4) (Ac (Aa 6) Ag))) (Ac (Ax (ZA1 T) (hr.mono (by decide)) rfl T.Q3 T.Qf T.Ka pass0 (Ac (Aa 6) (Ac (Aa 4) Ag))) Ag))))))) (Av (Bk (Nb (Bq (Wg rfl) rfl T.X4 Vq (Ac (Bo (Hd rfl (Er (dn:=(Bc Fe).names) (N0:=ZBJ) (N:= ["_law_truth"]) (nt:=1) (caps:= [])) (Hu (Aa 8)) (λC s₀ H₀ ex=>(Bj 0 (show (["_law_truth"]:List Str).Nodup by decide +kernel))) (Du (by decide)) (λC s₀ H₀ ex=>Eu) (λC s₀ H₀ ex=>(Bq ZGl rfl T.ZDR ZCT (Ac (Aa 0) (Ac (ZB0 rfl T.ZFN ZBy) Ag)))))) Ag)) (Nb (Ik (Ds hr.units) (Aa 8) (Aa 9) (nomark _)) (Oe (Ik (Ds hr.units) (Aa 7) (Bo (Dl (Ac (Aa 4) (Ac (Aa 6) Ag)))) (nomark _)))))))))))))))))
end
def FX (K:PySem.W.Frag) (mg:Str->Option Value) (n:Str) (st:Stmt):Prop:=∃f d,Fun K n n st f d/\mg n=some (.ref f)/\PySem.W.keepIn K (.ref f)=true
theorem ZGp {K:PySem.W.Frag} {h:Heap} {mg:Str->Option Value} {n:Str} {st:Stmt} {f:Addr} {oc:Value} {od an:Option Addr} {sl:Array (Option Value)} {kV dc pm cd ct:Value} (X:K.In h) (G:h.Ns mainGlobals mg) (a:PySem.W.nsIn K mainGlobals n=some (some (.ref f)))
  (l:K.lookup f=some ⟨oc,od,.func (PySem.W.fnOf n n (Ib st) (Gy st) (Bc st) .none kV dc pm an cd ct),sl⟩) (c:PySem.W.codeIn K cd n=true) (k:PySem.W.keepIn K (.ref f)=true):FX K mg n st:=⟨f,_,X3 (st:=st) l c k,PySem.W.mg_of X G a,k⟩
theorem all_mk {l:PySem.W.OpenLaw} {w:World} {K:PySem.W.Frag} {h:Heap} {mg:Str->Option Value} {fa:Addr} (X:K.In h) (G:h.Ns mainGlobals mg) (hfa:mg "law"=some (.ref fa))
  {Ht:Addr} {ZGu Xc:Option Addr} {ZGv:Array (Option Value)} {ZGw Xd Xe Xf Td Xg:Value}
  (Te:PySem.W.nsIn K mainGlobals "law"=some (some (.ref Ht)))
  (Tf:K.lookup Ht=some ⟨ZGw,ZGu,.func (PySem.W.fnOf "law" "law" (Ib Fe) (Gy Fe) (Bc Fe) .none Xd Xe Xf Xc Td Xg),ZGv⟩)
  (Tg:PySem.W.codeIn K Td "law"=true)
  (K8:PySem.W.keepIn K (.ref Ht)=true)
  (Xh:FX K mg "_law_amount" Vt)
  (Xi:FX K mg "_law_off" V1)
  (Xj:FX K mg "_law_tape" Tu)
  (Xk:FX K mg "_law_cell_at" Ws)
  (Xl:FX K mg "_law_unit" Uq)
  (Xm:FX K mg "_law_added" Je)
  (Xo:FX K mg "_law_floods" Mp)
  (Xp:FX K mg "_law_pumped" Wh)
  (Xq:FX K mg "_law_steps" Ur)
  (Xr:FX K mg "_law_year" Ut)
  (Xu:FX K mg "_law_rule" Nv)
  (Xv:FX K mg "_law_basin" Qa)
  (Xw:FX K mg "_law_name" Uj)
  (Xx:FX K mg "_law_house" Qo)
  (Xy:FX K mg "_law_lower" Oq)
  (Xz:FX K mg "_law_no_more" Ub)
  (Y0:FX K mg "_law_rows" Ud)
  (Y4:FX K mg "_law_state" Xa)
  (Y5:FX K mg "_law_states" Th)
  (Y6:FX K mg "_law_turned" Wa)
  (Y7:FX K mg "none_above" S6)
  (Y8:FX K mg "rows_under" Qz)
  (Y9:FX K mg "under" W0)
  (Yb:PySem.W.nsIn K mainGlobals "all"=some none)
  (Yc:PySem.W.nsIn K mainGlobals "bool"=some none)
  (Yd:PySem.W.nsIn K mainGlobals "isinstance"=some none)
  (Ye:PySem.W.nsIn K mainGlobals "len"=some none)
  (Yg:PySem.W.nsIn K mainGlobals "list"=some none)
  (Yh:PySem.W.nsIn K mainGlobals "max"=some none)
  (Yi:PySem.W.nsIn K mainGlobals "min"=some none)
  (Yj:PySem.W.nsIn K mainGlobals "range"=some none)
  (Yk:PySem.W.nsIn K mainGlobals "tuple"=some none)
  (Yl:PySem.W.nsIn K mainGlobals "zip"=some none):
  ∃fd:FuncData,(∀(s:Shared) (v:Value),BindsTo s fd ⟨[v],[]⟩ [("_law_script",v)])/\∀base:Heap,K.In base->base.Ns mainGlobals mg->FnOk l.prog w K mg base CX0 7 fa fd ["_law_script"] (lF K I9):=by
 have e:=hfa.symm.trans (PySem.W.mg_of X G Te);cases e;obtain ⟨Kf,N8,Rq,Ih,Hw⟩:=Xh;obtain ⟨Jl,M8,Qg,Wq,W4⟩:=Xi;obtain ⟨Jz,Ob,Rp,Ss,R1⟩:=Xj;obtain ⟨Lp,Oa,Ql,Cq,Cm⟩:=Xk;obtain ⟨Jx,Lr,Ou,Jg,Ja⟩:=Xl;obtain ⟨Ld,O4,Q4,Ug,V9⟩:=Xm;obtain ⟨Ln,O7,Rn,Wo,Vb⟩:=Xo;obtain ⟨Ke,N7,Pa,Wm,Uo⟩:=Xp;obtain ⟨Ks,M5,Qp,Wi,Wu⟩:=Xq;obtain ⟨Kg,Nh,Sy,Rb,Qi⟩:=Xr;obtain ⟨K3,Od,Pn,Uu,Vh⟩:=Xu;obtain ⟨Jp,Om,R3,Vp,Vy⟩:=Xv;obtain ⟨Kq,O1,Pq,X7,Uc⟩:=Xw
 obtain ⟨Lq,Ng,Rg,Tq,Ul⟩:=Xx;obtain ⟨Jj,Ny,Sd,Vk,Up⟩:=Xy;obtain ⟨K4,Mx,Qu,Ph,Qn⟩:=Xz;obtain ⟨K1,Mv,Pu,Q3,Qf⟩:=Y0;obtain ⟨Lf,Ma,R6,Wk,W6⟩:=Y4;obtain ⟨Kl,Og,Rh,Rc,Qk⟩:=Y5;obtain ⟨Ko,Oo,Pj,Ua,V4⟩:=Y6;obtain ⟨Lj,Lw,Pb,Rx,Ru⟩:=Y7;obtain ⟨Lb,Mz,Qc,Mu,Mt⟩:=Y8;obtain ⟨Jq,Mq,S7,Sw,Rm⟩:=Y9
 have T:Txt K mg ⟨Kf,N8,Jl,M8,Jz,Ob,Lp,Oa,Jx,Lr,Ld,O4,Ln,O7,Ke,N7,Ks,M5,Kg,Nh,K3,Od,Jp,Om,Kq,O1,Lq,Ng,Jj,Ny,K4,Mx,K1,Mv,Lf,Ma,Kl,Og,Ko,Oo,Lj,Lw,Lb,Mz,Jq,Mq,fa,PySem.W.fnOf "law" "law" (Ib Fe) (Gy Fe) (Bc Fe) .none Xd Xe Xf Xc Td Xg⟩:=⟨Rq,Rq.binds (ps:= ["_law_cell","_law_unit_here"]) (λ_ _ _ _ _ _ us hl=>match us,hl with | [_,_],_=>rfl),Ih,Hw,
  Qg,Qg.binds (ps:= ["_law_number_here","_law_k"]) (λ_ _ _ _ _ _ us hl=>match us,hl with | [_,_],_=>rfl),Wq,W4,
  Rp,Rp.binds (ps:= ["_law_script"]) (λ_ _ _ _ _ _ us hl=>match us,hl with | [_],_=>rfl),Ss,R1,
  Ql,Ql.binds (ps:= ["_law_script","_law_k"]) (λ_ _ _ _ _ _ us hl=>match us,hl with | [_,_],_=>rfl),Cq,Cm,
  Ou,Ou.binds (ps:= ["_law_script"]) (λ_ _ _ _ _ _ us hl=>match us,hl with | [_],_=>rfl),Jg,Ja,
  Q4,Q4.binds (ps:= ["_law_script","_law_house_here","_law_low","_law_lows"]) (λ_ _ _ _ _ _ us hl=>match us,hl with | [_,_,_,_],_=>rfl),Ug,V9,
  Rn,Rn.binds (ps:= ["_law_script","_law_house_here","_law_turns"]) (λ_ _ _ _ _ _ us hl=>match us,hl with | [_,_,_],_=>rfl),Wo,Vb,
  Pa,Pa.binds (ps:= ["_law_steps_here"]) (λ_ _ _ _ _ _ us hl=>match us,hl with | [_],_=>rfl),Wm,Uo,
  Qp,Qp.binds (ps:= ["_law_cells","_law_unit_here","_law_pumps"]) (λ_ _ _ _ _ _ us hl=>match us,hl with | [_,_,_],_=>rfl),Wi,Wu,
  Sy,Sy.binds (ps:= ["_law_script"]) (λ_ _ _ _ _ _ us hl=>match us,hl with | [_],_=>rfl),Rb,Qi,
  Pn,Pn.binds (ps:= ["_law_script","_law_b","_law_unit_here","_law_pumps"]) (λ_ _ _ _ _ _ us hl=>match us,hl with | [_,_,_,_],_=>rfl),Uu,Vh,
  R3,R3.binds (ps:= ["_law_script","_law_b","_law_k","_law_names","_law_river"]) (λ_ _ _ _ _ _ us hl=>match us,hl with | [_,_,_,_,_],_=>rfl),Vp,Vy,
  Pq,Pq.binds (ps:= ["_law_cell","_law_k","_law_many"]) (λ_ _ _ _ _ _ us hl=>match us,hl with | [_,_,_],_=>rfl),X7,Uc,
  Rg,Rg.binds (ps:= ["_law_script"]) (λ_ _ _ _ _ _ us hl=>match us,hl with | [_],_=>rfl),Tq,Ul,
  Sd,Sd.binds (ps:= ["_law_state_here","_law_k","_law_j"]) (λ_ _ _ _ _ _ us hl=>match us,hl with | [_,_,_],_=>rfl),Vk,Up,
  Qu,Qu.binds (ps:= ["_law_some","_law_others"]) (λ_ _ _ _ _ _ us hl=>match us,hl with | [_,_],_=>rfl),Ph,Qn,
  Pu,Pu.binds (ps:= ["_law_floods_here","_law_others"]) (λ_ _ _ _ _ _ us hl=>match us,hl with | [_,_],_=>rfl),Q3,Qf,
  R6,R6.binds (ps:= ["_law_script","_law_house_here"]) (λ_ _ _ _ _ _ us hl=>match us,hl with | [_,_],_=>rfl),Wk,W6,
  Rh,Rh.binds (ps:= ["_law_state_here","_law_other"]) (λ_ _ _ _ _ _ us hl=>match us,hl with | [_,_],_=>rfl),Rc,Qk,
  Pj,Pj.binds (ps:= ["_law_script","_law_floods_here","_law_many"]) (λ_ _ _ _ _ _ us hl=>match us,hl with | [_,_,_],_=>rfl),Ua,V4,
  Pb,Pb.binds (ps:= ["numbers","others"]) (λ_ _ _ _ _ _ us hl=>match us,hl with | [_,_],_=>rfl),Rx,Ru,
  Qc,Qc.binds (ps:= ["floods","others"]) (λ_ _ _ _ _ _ us hl=>match us,hl with | [_,_],_=>rfl),Mu,Mt,
  S7,S7.binds (ps:= ["state","other"]) (λ_ _ _ _ _ _ us hl=>match us,hl with | [_,_],_=>rfl),Sw,Rm,
  X3 (st:=Fe) Tf Tg K8,(X3 (st:=Fe) Tf Tg K8).binds (ps:= ["_law_script"]) (λ_ _ _ _ _ _ us hl=>match us,hl with | [_],_=>rfl),PySem.W.mg_of X G Te,K8,
  PySem.W.mg_none_of X G Yb,
  PySem.W.mg_none_of X G Yc,
  PySem.W.mg_none_of X G Yd,
  PySem.W.mg_none_of X G Ye,
  PySem.W.mg_none_of X G Yg,
  PySem.W.mg_none_of X G Yh,
  PySem.W.mg_none_of X G Yi,
  PySem.W.mg_none_of X G Yj,
  PySem.W.mg_none_of X G Yk,
  PySem.W.mg_none_of X G Yl⟩
 exact ⟨PySem.W.fnOf "law" "law" (Ib Fe) (Gy Fe) (Bc Fe) .none Xd Xe Xf Xc Td Xg,λs v=>.of_eq rfl,λbase _ _=>ZEe T⟩
theorem walk {l:PySem.W.OpenLaw} {q:Program} {loose:List Str} {XP:(Str->Option Value)->Heap->Prop} {YP:World->Heap->Prop} {d:DefRec} {K:Params->PySem.W.Frag} (hn:l.most=some 63) (hdf:d.params.defaults= []) (HH:Holds)
  (hY:∀(w:World) (h:Heap),YP w h->(K w.params).In h)
  (F:∀(w:World) (mg:Str->Option Value) (fa:Addr) (h:Heap),(K w.params).In h->h.Ns mainGlobals mg->mg d.name=some (.ref fa)->
   ∃fd:FuncData,(∀(s:Shared) (u:Value),BindsTo s fd ⟨[u],[]⟩ [("_law_script",u)])/\∀base:Heap,(K w.params).In base->base.Ns mainGlobals mg->FnOk l.prog w (K w.params) mg base CX0 7 fa fd ["_law_script"] (lF (K w.params) I9)):
  PySem.W.WalkO q loose XP YP l.row.toRowW d [] (λf vs=>PySem.call f vs):=
 L2.ZF4 (n:=63) (k:=7) (x:="_law_script") (CX:=λ_=>CX0) (sp:=λw=>lF (K w.params) I9) hn (by decide) hdf ⟨rfl,by decide,by decide⟩ hY F
  (λw H a ns hl hO hS=>by
   obtain ⟨G,hG⟩:=HH ns hl;refine ⟨⟨K w.params,0,λ_=>0,H⟩,[],[.fl (ns.map D.int)],rfl,rfl,⟨rfl,λi j h=>absurd h (Nat.not_lt_zero _),λi o h=>by simp at h,λi h=>absurd h (Nat.not_lt_zero _)⟩,Reps.cons ⟨a,ns.map V.int,rfl,?_,Reps.ints ns⟩ Reps.nil,?_⟩
   ·rcases hS with (hS | hS) | hS
    ·rcases hO a with z | ⟨o,xs,z⟩
     ·rw [z] at hS;cases hS
     ·rw [z] at hS;cases hS
    ·exact .inl hS
    ·exact .inr hS
   ·rw [hG];exact λb v _ _ r=>r) λ_ _ _ _ _ z=>z
end Law
open PySem PySem.W PyProof.Rows
set_option maxRecDepth 100000 in
theorem PySem.Challenge.cw_sluiceway_k51_under_holds : PySem.Challenge.rw_sluiceway_k51_under.Holds := by
 w_on;o_law;k_head;(case hw=>w_witness2)
 k_fill
 refine Law.walk (l:=PySem.Challenge.rw_sluiceway_k51_under) rfl rfl Law.holds (λw h Y=>PySem.W.kIn_of Y) ?F
 case F=>
  intro w mg fa h KX G hmg;refine' Law.all_mk KX G hmg ?Te ?Tf ?Tg ?K8 ?Xh ?Xi ?Xj ?Xk ?Xl ?Xm ?Xo ?Xp ?Xq ?Xr ?Xu ?Xv ?Xw ?Xx ?Xy ?Xz ?Y0 ?Y4 ?Y5 ?Y6 ?Y7 ?Y8 ?Y9 ?Yb ?Yc ?Yd ?Ye ?Yg ?Yh ?Yi ?Yj ?Yk ?Yl
  case Te | Tf | Tg | K8 | Yb | Yc | Yd | Ye | Yg | Yh | Yi | Yj | Yk | Yl=>k_is
  case Xh | Xi | Xj | Xk | Xl | Xm | Xo | Xp | Xq | Xr | Xu | Xv | Xw | Xx | Xy | Xz | Y0 | Y4 | Y5 | Y6 | Y7 | Y8 | Y9=>refine' Law.ZGp KX G ?a ?l ?c ?k;(case a=>k_is);(case l=>k_is);(case c=>k_is);(case k=>k_is)
