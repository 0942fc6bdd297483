import PyProof.Rows.All
import Wide.All
import OpenK.AllK
import Wide.FinOn
import Lean
import PyProof.EqAt
import PyProof.EqKinds
import PyProof.TupleCall
import PyProof.NeKinds
import PyProof.IsInstanceH
import PyProof.SumWalkG
import PyProof.ConsumeWalk
import PyProof.IsiNone
import PyProof.WalksMore
import PyProof.PlainList
import PyProof.CompFree
import KE.KIntText
import PySem.Challenge.RW_sluiceway_k13_rules_written
set_option Elab.async false
set_option linter.all false
set_option maxRecDepth 100000
set_option maxHeartbeats 0
noncomputable section
namespace L2
open PySem PySem.Spec PyProof.Rows
variable {us:List Value} {u:Value} {a b f:Addr} {P:Program} {w:World} {h base:Heap} {t' i j k:Nat} {ch fp:List Addr} {x:Str} {Q:Unit->Shared->Prop} {e tg:Expr} {A:Around} {E:Value->Shared->Prop} {s:Shared} {pins:List (Addr×Obj)} {op:CmpOp} {K:PySem.W.Frag} {mg:Str->Option Value} {fd:FuncData} {ps:List Str} {kindOf:Str->Option NameKind}
abbrev Key:=Sum Int Str
def Xf:Key->Value->Bool
 | .inl k,v=>Value.isInt k v
 | .inr x,v=>Value.isStrOf x v
def keyH (w:World):Key->Int
 | .inl k=>hashInt k
 | .inr x=>hashStr w x
theorem Es:∀{k:Key} {v:Value},Xf k v=true->(∃i t,k=Sum.inl i/\v=Value.int i t)∨(∃x t,k=Sum.inr x/\v=Value.str x t)
 | .inl i,v,h=>by obtain ⟨t,e⟩:=Value.isInt_shape (k:=i) (v:=v) h;exact .inl ⟨i,t,rfl,e⟩
 | .inr x,v,h=>by obtain ⟨t,e⟩:=Value.isStrOf_shape (x:=x) (v:=v) h;exact .inr ⟨x,t,rfl,e⟩
theorem ZCD (a b:Int):decide ((Sum.inl a:Key)=Sum.inl b)=(a == b):=by
 by_cases e:a=b
 ·subst e;simp
 ·have h:¬(Sum.inl a:Key)=Sum.inl b:=λq=>e (Sum.inl.inj q)
  rw [decide_eq_false h];exact (beq_eq_false_iff_ne.mpr e).symm
theorem ZAj (a b:Str):decide ((Sum.inr a:Key)=Sum.inr b)=decide (a=b):=by
 by_cases e:a=b
 ·subst e;simp
 ·have h:¬(Sum.inr a:Key)=Sum.inr b:=λq=>e (Sum.inr.inj q)
  rw [decide_eq_false h,decide_eq_false e]
theorem Yw (a:Int) (b:Str):decide ((Sum.inl a:Key)=Sum.inr b)=false:=decide_eq_false (λq=>nomatch q)
theorem ZB5 (a:Str) (b:Int):decide ((Sum.inr a:Key)=Sum.inl b)=false:=decide_eq_false (λq=>nomatch q)
def Y7 (prog:Program) (w:World):PySem.KeyKind prog w Key where
 is:=Xf
 hash:=keyH w
 inj:=λv a b ha hb=>by
  rcases Es ha with ⟨i,t,rfl,rfl⟩ | ⟨x,t,rfl,rfl⟩
  ·rcases Es hb with ⟨j,u,rfl,e⟩ | ⟨y,u,rfl,e⟩
   ·injection e with e1 _;rw [e1]
   ·exact nomatch e
  ·rcases Es hb with ⟨j,u,rfl,e⟩ | ⟨y,u,rfl,e⟩
   ·exact nomatch e
   ·injection e with e1 _;rw [e1]
 byValue:=λk v h=>by rcases Es h with ⟨i,t,rfl,rfl⟩ | ⟨x,t,rfl,rfl⟩ <;> rfl
 pyHash:=λhv h=>by
  rcases Es hv with ⟨i,t,rfl,rfl⟩ | ⟨x,t,rfl,rfl⟩
  ·exact wpAny_pyHash_int h
  ·exact wpAny_pyHash_str h
 eqBool:=λhu hv h=>by
  rcases Es hu with ⟨i,t,rfl,rfl⟩ | ⟨x,t,rfl,rfl⟩
  ·rcases Es hv with ⟨j,u,rfl,rfl⟩ | ⟨y,u,rfl,rfl⟩
   ·rw [ZCD] at h;exact wpAny_eqBool_int h
   ·rw [Yw] at h;exact SeqAt.EqAt.int_str i t y u _ _ _ _ h
  ·rcases Es hv with ⟨j,u,rfl,rfl⟩ | ⟨y,u,rfl,rfl⟩
   ·rw [ZB5] at h;exact SeqAt.EqAt.str_int x t j u _ _ _ _ h
   ·rw [ZAj] at h;exact wpAny_eqBool_str h
 «strs»:=λk x t v h=>by
  rcases Es h with ⟨i,u,rfl,e⟩ | ⟨y,u,rfl,e⟩
  ·exact nomatch e
  ·injection e with e1 _
   subst e1
   cases v <;> rfl
inductive V where
 | non | bl (b:Bool) | int (i:Int) | str (x:Str) | byt (b:Array UInt8) | flt (b:UInt64) | ref (a:Addr) | ty (n:String)
 deriving DecidableEq
def RelV:V->Value->Prop
 | .non,u=>u=Value.none
 | .bl b,u=>u=Value.bool b
 | .int i,u=>∃t,u=Value.int i t
 | .str x,u=>∃t,u=Value.str x t
 | .byt b,u=>∃t,u=Value.bytes b t
 | .flt b,u=>∃t,u=Value.float b t
 | .ref a,u=>u=Value.ref a
 | .ty n,u=>u=Value.type n
abbrev Vals:List V->List Value->Prop:=Paired RelV
theorem Vals.length {xs:List V} (r:Vals xs us):xs.length=us.length:=Paired.length r
theorem Vals.get:∀{xs:List V} {us:List Value} {i:Nat} {x:V},Vals xs us->xs[i]? =some x->∃u,us[i]? =some u/\RelV x u
 | _,_,_,_,.nil,e=>by simp at e
 | _,_,0,_,.cons r _,e=>by simp at e;subst e;exact ⟨_,rfl,r⟩
 | _,_,i + 1,x,.cons _ t,e=>by obtain ⟨u,h1,h2⟩:=Vals.get (i:=i) (x:=x) t (by simpa using e);exact ⟨u,by simpa using h1,h2⟩
theorem Vals.set {x:V} (r:RelV x u):∀{xs:List V} {us:List Value} (i:Nat),Vals xs us->Vals (xs.set i x) (us.set i u)
 | _,_,_,.nil=>.nil
 | _,_,0,.cons _ t=>.cons r t
 | _,_,i + 1,.cons q t=>.cons q (Vals.set r i t)
theorem Vals.append:∀{xs ys:List V} {us ws:List Value},Vals xs us->Vals ys ws->Vals (xs++ys) (us++ws)
 | _,_,_,_,.nil,s=>s
 | _,_,_,_,.cons r t,s=>.cons r (Vals.append t s)
theorem Vals.take:∀{xs:List V} {us:List Value} (n:Nat),Vals xs us->Vals (xs.take n) (us.take n)
 | _,_,0,_=>.nil
 | _,_,_ + 1,.nil=>.nil
 | _,_,n + 1,.cons r t=>.cons r (Vals.take n t)
theorem Vals.drop:∀{xs:List V} {us:List Value} (n:Nat),Vals xs us->Vals (xs.drop n) (us.drop n)
 | _,_,0,r=>r
 | _,_,_ + 1,.nil=>.nil
 | _,_,n + 1,.cons _ t=>Vals.drop n t
def RelO:Option V->Option Value->Prop
 | some v,some u=>RelV v u
 | none,none=>True
 | _,_=>False
def KV {κ:Type}:List (κ×V)->List (κ×Value)->Prop:=Paired λ(p:κ×V) (q:κ×Value)=>p.1=q.1/\RelV p.2 q.2
def kV:Key->V
 | .inl i=>.int i
 | .inr x=>.str x
inductive HO where
 | lst (xs:List V)
 | tup (xs:List V)
 | dK (kvs:List (Key×V)) | dT (kvs:List (List Key×V))
 | set (S:Int->Bool) (n:Nat)
 | ins (C dx:Addr) (fs:List (Str×V))
 | own (x:Addr)
 | xd (fs:List (Str×V))
 | met (f x:Addr)
 | rng (lo hi:Int)
 | frz (o:Obj) (u:HO)
 | tbl (ps:Array Value)
 | ext (φ:Heap->Prop)
variable {o:HO}
abbrev Hp:=Addr->Option HO
variable {H:Hp}
def upd (H:Hp) (a:Addr) (o:HO):Hp:=λb=>if b=a then some o else H b
theorem Do:upd H a o a=some o:=by unfold upd;rw [if_pos rfl]
theorem Aj (h:b≠a):upd H a o b=H b:=by unfold upd;rw [if_neg h]
theorem De (h:H a=some o) (h':H b=none):a≠b:=by intro e;subst e;rw [h] at h';cases h'
section
variable (P:Program) (w:World)
def ObjOk (H:Hp) (h:Heap) (a:Addr):HO->Prop
 | .lst xs=>xs.length<=sizeLine/\∃(its:List Value) (n:Nat),Vals xs its/\h.get? a=some {cls:=.type "list",data:=.seq its.toArray n}
 | .tup xs=>xs.length<=sizeLine/\∃its:List Value,Vals xs its/\IsTup h a its.toArray
 | .dK kvs=>kvs.length<=sizeLine/\(a == sysModules)=false/\∃vs,KV kvs vs/\h.DictOf (Y7 P w) a vs
 | .dT kvs=>kvs.length<=sizeLine/\(a == sysModules)=false/\∃xs:List (List Key×Addr×Value),
   Paired (λ(p:List Key×V) (q:List Key×Addr×Value)=>p.1=q.1/\H q.2.1=some (.tup (p.1.map kV))/\RelV p.2 q.2.2) kvs xs/\
   ∃o es ep,h.get? a=some o/\o.ExactDict/\o.data=.dict es ep/\es.toList=xs.map (entryOfKey (tupleKind (Y7 P w)))/\(xs.map (·.1)).Nodup
 | .set S n=>h.SetOf (intKind P w) a S n
 | .ins C dx fs=>H dx=some (.own a)/\fs.length<=1000/\dx≠a/\h.get? a=some (PySem.W.instObj C dx)/\
   ∃mA,h.Ns1 dx mA/\(∀f,RelO (fs.lookup f) (mA f))/\PySem.Within mA (fs.map (·.1))
 | .own _=>∃o,h.get? a=some o
 | .xd fs=>∃mA,h.Ns1 a mA/\∀f,RelO (fs.lookup f) (mA f)
 | .rng lo hi=>∃t u v,h.get? a=some {cls:=.type "range",data:=.fields #[.int lo t,.int hi u,.int 1 v]}
 | .frz o u=>h.get? a=some o/\ObjOk H h a u
 | .tbl ps=>h.get? a=some {cls:=.none,data:=.fields ps}
 | .met f x=>h.get? a=some (PySem.W.methodObj (.ref f) (.ref x))
 | .ext φ=>φ h/\(∃o,h.get? a=some o)/\∀h1 h2:Heap,φ h1->(∀o,h1.get? a=some o->h2.get? a=some o)->φ h2
def HOk (H:Hp) (h:Heap):Prop:=∀a o,H a=some o->ObjOk P w H h a o
end
section
variable {P:Program} {w:World} {H H':Hp} {h h':Heap} {a:Addr} {o:HO}
theorem ObjOk.lt (x:ObjOk P w H h a o):a < h.objs.size:=by
 cases o with
 | lst xs=>obtain ⟨_,_,_,_,e⟩:=x;exact Heap.lt_size e
 | tup xs=>obtain ⟨_,_,_,p⟩:=x;exact p.lt
 | dK kvs=>obtain ⟨_,_,_,_,o,_,_,e,_⟩:=x;exact Heap.lt_size e
 | dT kvs=>obtain ⟨_,_,_,_,o,_,_,e,_⟩:=x;exact Heap.lt_size e
 | set S n=>obtain ⟨o,_,_,_,e,_⟩:=x;exact Heap.lt_size e
 | ins C dx fs=>obtain ⟨_,_,_,e,_⟩:=x;exact Heap.lt_size e
 | own y=>obtain ⟨_,e⟩:=x;exact Heap.lt_size e
 | xd fs=>obtain ⟨_,⟨_,_,_,e,_⟩,_⟩:=x;exact Heap.lt_size e
 | rng lo hi=>obtain ⟨_,_,_,e⟩:=x;exact Heap.lt_size e
 | frz ob u=>obtain ⟨e,_⟩:=x;exact Heap.lt_size e
 | tbl ps=>exact Heap.lt_size (show h.get? a=some _ from x)
 | met f y=>exact Heap.lt_size (show h.get? a=some _ from x)
 | ext φ=>obtain ⟨_,⟨_,e⟩,_⟩:=x;exact Heap.lt_size e
theorem Paired.Rf {α β:Type} {F G:α->β->Prop}:∀{l₁:List α} {l₂:List β},Paired F l₁ l₂->(∀a b,F a b->G a b)->Paired G l₁ l₂
 | _,_,.nil,_=>.nil
 | _,_,.cons r t,f=>.cons (f _ _ r) (Paired.Rf t f)
theorem ObjOk.stay (x:ObjOk P w H h a o) (k:∀b u,(b=a∨H b=some (.own a))->h.get? b=some u->h'.get? b=some u)
  (ho:∀b,H b=some (.own a)->H' b=some (.own a)) (ht:∀b xs,H b=some (.tup xs)->H' b=some (.tup xs)):ObjOk P w H' h' a o:=by
 induction o with
 | lst xs=>obtain ⟨z,its,n,r,e⟩:=x;exact ⟨z,its,n,r,k _ _ (.inl rfl) e⟩
 | tup xs=>obtain ⟨z,its,r,ob,e,c⟩:=x;exact ⟨z,its,r,ob,k _ _ (.inl rfl) e,c⟩
 | dK kvs=>obtain ⟨z,y,vs,r,ob,es,ep,e,c⟩:=x;exact ⟨z,y,vs,r,ob,es,ep,k _ _ (.inl rfl) e,c⟩
 | dT kvs=>
  obtain ⟨z,y,xs,r,ob,es,ep,e,c⟩:=x;exact ⟨z,y,xs,Paired.Rf r λp q z=>⟨z.1,ht _ _ z.2.1,z.2.2⟩,ob,es,ep,k _ _ (.inl rfl) e,c⟩
 | set S n=>obtain ⟨ob,es,ep,t,e,c⟩:=x;exact ⟨ob,es,ep,t,k _ _ (.inl rfl) e,c⟩
 | ins C dx fs=>
  obtain ⟨d,z,ne,e,mA,⟨od,es,ep,e2,c⟩,r⟩:=x;exact ⟨ho _ d,z,ne,k _ _ (.inl rfl) e,mA,⟨od,es,ep,k _ _ (.inr d) e2,c⟩,r⟩
 | own y=>obtain ⟨ob,e⟩:=x;exact ⟨ob,k _ _ (.inl rfl) e⟩
 | xd fs=>obtain ⟨mA,⟨od,es,ep,e,c⟩,r⟩:=x;exact ⟨mA,⟨od,es,ep,k _ _ (.inl rfl) e,c⟩,r⟩
 | rng lo hi=>obtain ⟨t,u,v,e⟩:=x;exact ⟨t,u,v,k _ _ (.inl rfl) e⟩
 | frz ob u ih=>obtain ⟨e,q⟩:=x;exact ⟨k _ _ (.inl rfl) e,ih q⟩
 | tbl ps=>
  have e:h.get? a=some {cls:=.none,data:=.fields ps}:=x;show h'.get? a=some {cls:=.none,data:=.fields ps};exact k a _ (.inl rfl) e
 | met f y=>
  have e:h.get? a=some (PySem.W.methodObj (.ref f) (.ref y)):=x;show h'.get? a=some (PySem.W.methodObj (.ref f) (.ref y));exact k a _ (.inl rfl) e
 | ext φ=>obtain ⟨p,⟨o,e⟩,st⟩:=x;exact ⟨st _ _ p λo q=>k _ _ (.inl rfl) q,⟨o,k _ _ (.inl rfl) e⟩,st⟩
theorem HOk.lt (x:HOk P w H h) (e:H a=some o):a < h.objs.size:=(x a o e).lt
theorem HOk.fresh (x:HOk P w H h) (e:h.objs.size<=a):H a=none:=by
 cases q:H a with
 | none=>rfl
 | some u=>exact absurd (Nat.lt_of_lt_of_le (x.lt q) e) (Nat.lt_irrefl _)
theorem HOk.kept (x:HOk P w H h) (k:∀b u,h.get? b=some u->h'.get? b=some u):HOk P w H h':=λa o e=>
 (x a o e).stay (λb u _ q=>k b u q) (λ_ q=>q) λ_ _ q=>q
theorem HOk.laid (x:HOk P w H h) (k:∀b u,h.get? b=some u->h'.get? b=some u) (hp:h.objs.size<=a) (new:ObjOk P w (upd H a o) h' a o):HOk P w (upd H a o) h':=λb u e=>by
 have hn:=x.fresh hp;by_cases hb:b=a
 ·subst hb;rw [Do] at e;cases e;exact new
 ·rw [Aj hb] at e;exact (x b u e).stay (λc v _ q=>k c v q) (λc q=>by rw [Aj (De q hn)];exact q) λc xs q=>by rw [Aj (De q hn)];exact q
end
def Rd (H:Hp) (a:Addr) (u:HO):Prop:=H a=some u∨∃o,H a=some (.frz o u)
theorem Rd.ok {u:HO} (r:Rd H a u) (x:HOk P w H h):ObjOk P w H h a u:=by
 rcases r with r | ⟨o,r⟩
 ·exact x a u r
 ·obtain ⟨_,q⟩:=x a _ r;exact q
def Mut:Option HO->Prop
 | some (.lst _)=>True
 | some (.dK _)=>True
 | some (.dT _)=>True
 | some (.set _ _)=>True
 | some (.ins _ _ _)=>True
 | some (.ext _)=>True
 | _=>False
section
variable {P:Program} {w:World} {H:Hp} {h h':Heap} {x e:Addr} {o':HO}
theorem HOk.write (ok:HOk P w H h) (mu:Mut (H x)) (he:e=x∨H e=some (.own x)) (k:∀b u,b≠e->h.get? b=some u->h'.get? b=some u) (heo:∃u,h'.get? e=some u)
  (new:ObjOk P w (upd H x o') h' x o'):HOk P w (upd H x o') h':=λb u q=>by
 have nown:∀c y,H c=some (.own y)->c≠x:=λc y r z=>by subst z;rw [r] at mu;exact mu
 have ntup:∀c xs,H c=some (.tup xs)->c≠x:=λc xs r z=>by subst z;rw [r] at mu;exact mu
 by_cases hb:b=x
 ·subst hb;rw [Do] at q;cases q;exact new
 ·rw [Aj hb] at q;by_cases hbe:b=e
  ·have q':H b=some (.own x):=by
    rcases he with z | z
    ·exact absurd (hbe.trans z) hb
    ·rw [hbe];exact z
   rw [q] at q';cases q';obtain ⟨v,hv⟩:=heo;exact ⟨v,by rw [hbe];exact hv⟩
  ·refine (ok b u q).stay (λc v hc r=>k c v ?_ r) (λc r=>by rw [Aj (nown c b r)];exact r) λc xs r=>by rw [Aj (ntup c xs r)];exact r
   rcases hc with rfl | hc
   ·exact hbe
   ·rintro rfl;rcases he with z | z
    ·exact nown c b hc z
    ·rw [hc] at z;cases z;exact hb rfl
end
structure Un (fs ex:List Addr) (H H':Hp) (h h':Heap):Prop where
 keep:∀b o,h.get? b=some o->H b=none->b ∉ fs->b ∉ ex->h'.get? b=some o
 slot:∀b o,h.get? b=some o->H b=none->b∈fs->b ∉ ex->∃sl,h'.get? b=some {o with slots:=sl}
 free:∀b o,h.get? b=some o->H b=none->b ∉ ex->H' b=none
 there:∀b o,h.get? b=some o->b ∉ ex->∃o',h'.get? b=some o'
 tups:∀b xs,H b=some (.tup xs)->H' b=some (.tup xs)
 frzs:∀b o u,H b=some (.frz o u)->H' b=some (.frz o u)
 tbls:∀b ps,H b=some (.tbl ps)->∃more,H' b=some (.tbl (ps++more))
section
variable {fs fs' ex ex':List Addr} {H H1 H2:Hp} {h h1 h2 h':Heap} {a x e:Addr} {o:HO}
theorem Un.any (u:Un fs ex H H1 h h1) {ob:Obj} (q:h.get? b=some ob) (n:H b=none) (hx:b ∉ ex):∃sl,h1.get? b=some {ob with slots:=sl}:=by
 by_cases hb:b∈fs
 ·exact u.slot b ob q n hb hx
 ·exact ⟨ob.slots,u.keep b ob q n hb hx⟩
theorem Un.trans (a:Un fs ex H H1 h h1) (b:Un fs ex H1 H2 h1 h2):Un fs ex H H2 h h2 where
 keep:=λc ob q n hc hx=>b.keep c ob (a.keep c ob q n hc hx) (a.free c ob q n hx) hc hx
 slot:=λc ob q n hc hx=>by obtain ⟨sl,e1⟩:=a.slot c ob q n hc hx;obtain ⟨sl',e2⟩:=b.slot c _ e1 (a.free c ob q n hx) hc hx;exact ⟨sl',e2⟩
 free:=λc ob q n hx=>by obtain ⟨o',e1⟩:=a.there c ob q hx;exact b.free c o' e1 (a.free c ob q n hx) hx
 there:=λc ob q hx=>by obtain ⟨o',e1⟩:=a.there c ob q hx;exact b.there c o' e1 hx
 tups:=λc xs q=>b.tups c xs (a.tups c xs q)
 frzs:=λc ob xs q=>b.frzs c ob xs (a.frzs c ob xs q)
 tbls:=λc ps q=>by obtain ⟨m1,e1⟩:=a.tbls c ps q;obtain ⟨m2,e2⟩:=b.tbls c _ e1;exact ⟨m1++m2,by rw [e2,Array.append_assoc]⟩
theorem Un.kept (k:∀b u,h.get? b=some u->h'.get? b=some u):Un fs ex H H h h':=
 ⟨λb ob q _ _ _=>k b ob q,λb ob q _ _ _=>⟨ob.slots,k b ob q⟩,λ_ _ _ n _=>n,λb ob q _=>⟨ob,k b ob q⟩,λ_ _ q=>q,λ_ _ _ q=>q,λ_ ps q=>⟨#[],by rw [q];simp⟩⟩
theorem Un.refl:Un fs ex H H h h:=Un.kept λ_ _ q=>q
theorem Un.laid (k:∀b u,h.get? b=some u->h'.get? b=some u) (hp:h.objs.size<=a) (hn:H a=none):Un fs ex H (upd H a o) h h' where
 keep:=λb u q _ _ _=>k b u q
 slot:=λb u q _ _ _=>⟨u.slots,k b u q⟩
 free:=λb u q n _=>by rw [Aj (Nat.ne_of_lt (Nat.lt_of_lt_of_le (Heap.lt_size q) hp))];exact n
 there:=λb u q _=>⟨u,k b u q⟩
 tups:=λb xs q=>by rw [Aj (De q hn)];exact q
 frzs:=λb u xs q=>by rw [Aj (De q hn)];exact q
 tbls:=λb ps q=>⟨#[],by rw [Aj (De q hn),q];simp⟩
theorem Un.write (mu:Mut (H x)) (he:e=x∨H e=some (.own x)) (k:∀b u,b≠e->h.get? b=some u->h'.get? b=some u) (heo:∃u,h'.get? e=some u):Un fs ex H (upd H x o) h h':=by
 have hx:∀b,H b=none->b≠x:=λb n z=>by subst z;rw [n] at mu;exact mu
 have hb:∀b,H b=none->b≠e:=λb n z=>by
  subst z;rcases he with r | r
  ·exact hx b n r
  ·rw [n] at r;cases r
 have hm:∀b u,H b=some u->¬Mut (some u)->b≠x:=λb u q nm z=>by subst z;rw [q] at mu;exact nm mu
 refine ⟨λb u q n _ _=>k b u (hb b n) q,λb u q n _ _=>⟨u.slots,k b u (hb b n) q⟩,λb u q n _=>by rw [Aj (hx b n)];exact n,λb u q _=> ?_,
  λb xs q=>by rw [Aj (hm b _ q λz=>z)];exact q,λb u xs q=>by rw [Aj (hm b _ q λz=>z)];exact q,λb ps q=>⟨#[],by rw [Aj (hm b _ q λz=>z),q];simp⟩⟩
 by_cases hbe:b=e
 ·subst hbe;exact heo
 ·exact ⟨u,k b u hbe q⟩
theorem Un.mono (u:Un fs ex H H1 h h1) (hs:∀b∈fs,b∈fs') (hx:∀b∈ex,b∈ex'):Un fs' ex' H H1 h h1:=
 ⟨λb ob q n hb he=>u.keep b ob q n (λz=>hb (hs b z)) λz=>he (hx b z),λ_ _ q n _ he=>u.any q n λz=>he (hx _ z),λb ob q n he=>u.free b ob q n λz=>he (hx b z),λb ob q he=>u.there b ob q λz=>he (hx b z),u.tups,u.frzs,u.tbls⟩
end
def trk (h:Heap) (H:Hp):List Addr:=(List.range h.objs.size).filter λa=>(H a).isSome
def Ek (h:Heap) (H:Hp):Heap:=PySem.W.hideAll h (trk h H)
theorem ZBH (h:Heap) (H:Hp):(Ek h H).objs.size=h.objs.size:=PySem.W.hideAll_size _ _
theorem ZCm {o:Obj} (e:h.get? b=some o) (n:H b=none):(Ek h H).get? b=some o:=
 PySem.W.hideAll_get _ e λhm=>by have q:(H b).isSome=true:=(List.mem_filter.mp hm).2;rw [n] at q;simp at q
theorem ZBk {o:Obj} (e:(Ek h H).get? b=some o):h.get? b=some o/\H b=none:=by
 have e':h.get? b=some o:=PySem.W.of_hideAll (trk h H) e;refine ⟨e',?_⟩;cases q:H b with
 | none=>rfl
 | some x=>
  have hm:b∈trk h H:=List.mem_filter.mpr ⟨List.mem_range.mpr (Heap.lt_size e'),by simp [q]⟩;have z:(Ek h H).get? b=none:=PySem.W.hideAll_none (trk h H) hm;rw [z] at e;cases e
def ZEY (g h:Heap) (L:Addr):List (Addr×Obj):=(List.range h.objs.size).filterMap λa=>if a=L∨(g.get? a).isSome=true then none else (h.get? a).map λo=>(a,o)
def rest (g h:Heap) (L d:Addr):List (Addr×Obj):=(ZEY g h L).filter λp=>decide (p.1≠d)
structure Mod (K:PySem.W.Frag) (mg:Str->Option Value) (base:Heap):Prop where
 kin:K.In base
 glob:base.Ns mainGlobals mg
 blt:∃mb,base.Ns builtinsNs mb/\∀x:Str,x≠"__name__"->mb x=bootBuiltins x
 nolimit:base.NoLimit
structure Cx where
 prog:Program
 w:World
 K:PySem.W.Frag
 mg:Str->Option Value
 base:Heap
 A:Around
 N:List Str
 s₀:Shared
 H₀:Hp
 env:Env
 outer:List Env
 stack:List Env
 ex:List Addr
 fn:Str->Bool
 calm:Bool
 pn:List (Addr×Obj)
 xe:Value->Shared->Prop
variable {X:Cx}
def frs (l:List Env):List Addr:=l.filterMap (·.frame)
abbrev Cx.fs (X:Cx):List Addr:=frs X.outer
def Vis (sc:Scope) (x:Str):Prop:=sc.names.lookup x=some .local∨sc.names.lookup x=some .cell∨sc.names.lookup x=some .free
def Loc (sc:Scope) (x:Str):Prop:=sc.names.lookup x=some .local∨sc.names.lookup x=some .cell
def Look (env:Env) (h:Heap) (m:Str->Option Value) (x:Str) (u:Value):Prop:=
 (env.kindOf x=some .local/\m x=some u)∨((env.kindOf x=some .cell∨env.kindOf x=some .free)/\∃c,env.cells.lookup x=some c/\h.IsCell c (some u))
structure Cx.Ok (X:Cx):Prop where
 mod:Mod X.K X.mg X.base
 kind:X.env.scope.kind=.function
 glob:X.env.globals=mainGlobals
 blt:X.env.builtins=builtinsNs
 above:X.s₀.heap.objs.size<=X.env.locals
 inj:∀x y c,X.env.cells.lookup x=some c->X.env.cells.lookup y=some c->x=y
 has:∀x,(X.env.kindOf x=some .cell∨X.env.kindOf x=some .free)->∃c,X.env.cells.lookup x=some c
 cab:∀x c,X.fn x=true->X.env.cells.lookup x=some c->X.s₀.heap.objs.size<=c
 hd:X.calm=true->X.A.handled=none
 frames:X.A.frames=some X.stack
 stk:X.stack=X.outer∨(X.stack=X.env::X.outer/\X.env.frame=some X.env.locals)
 exf:∀b∈X.ex,b≠X.env.locals/\∀x c,X.env.cells.lookup x=some c->c≠b
 bs:∀b o,X.base.get? b=some o->X.s₀.heap.get? b=some o/\X.H₀ b=none
 bsz:X.base.objs.size<=X.s₀.heap.objs.size
 noex:∀b o,X.base.get? b=some o->b ∉ X.ex
 exfs:∀b∈X.ex,b ∉ X.fs
 funs:X.s₀.heap.FunFrames X.base X.outer
 frf:∀b∈X.fs,X.H₀ b=none
structure Inv (X:Cx) (pins:List (Addr×Obj)) (σ:List (Option V)) (H:Hp) (s:Shared):Prop where
 ok:X.Ok
 os:s.os=X.s₀.os
 bare:AllBare s.gens
 base:Un X.fs X.ex X.H₀ H X.s₀.heap s.heap
 loc:∃m,s.heap.Ns X.env.locals m/\∀(i:Nat) (x:Str) (v:V),X.N[i]? =some x->σ[i]? =some (some v)->Vis X.env.scope x->∃u,RelV v u/\Look X.env s.heap m x u
 cell:∀x c,X.env.cells.lookup x=some c->∃v,s.heap.IsCell c v
 free:H X.env.locals=none
 Dp:∀x c,X.env.cells.lookup x=some c->H c=none
 pin:∀p∈X.pn++pins,s.heap.get? p.1=some p.2/\H p.1=none/\p.1≠X.env.locals/\p.1 ∉ X.fs/\∀v,p.2.data≠ .cell v
 hok:HOk X.prog X.w H s.heap
 len:σ.length=X.N.length
section
variable {X:Cx} {pins:List (Addr×Obj)} {σ:List (Option V)} {H H':Hp} {s:Shared} {h':Heap}
theorem Cx.Ok.nofr (ok:X.Ok) {o:Obj} (e:X.base.get? b=some o):b ∉ X.fs:=λhb=>by have:=(ok.funs.mem hb).1;rw [e] at this;cases this
theorem Inv.bs (I:Inv X pins σ H s):∀b o,X.base.get? b=some o->s.heap.get? b=some o/\H b=none:=λb o e=>
 ⟨I.base.keep b o (I.ok.bs b o e).1 (I.ok.bs b o e).2 (I.ok.nofr e) (I.ok.noex b o e),I.base.free b o (I.ok.bs b o e).1 (I.ok.bs b o e).2 (I.ok.noex b o e)⟩
theorem Inv.bk (I:Inv X pins σ H s):∀b o,X.base.get? b=some o->s.heap.get? b=some o:=λb o e=>(I.bs b o e).1
theorem Inv.mod (I:Inv X pins σ H s):Mod X.K X.mg X.base:=I.ok.mod
theorem Inv.kIn (I:Inv X pins σ H s):X.K.In s.heap:=I.ok.mod.kin.keeps I.bk
theorem Inv.nolimit (I:Inv X pins σ H s):s.heap.NoLimit:=I.ok.mod.nolimit.keeps I.bk
theorem Inv.fr (I:Inv X pins σ H s):∃m,Fr X.base X.env.locals s.heap m:=
 let ⟨m,hn,_⟩:=I.loc
 ⟨m,hn,I.bk,Nat.le_trans I.ok.bsz I.ok.above⟩
theorem Inv.lt (I:Inv X pins σ H s):X.env.locals < s.heap.objs.size:=let ⟨_,hn,_⟩:=I.loc;hn.lt
theorem Inv.sz (I:Inv X pins σ H s):X.s₀.heap.objs.size<=s.heap.objs.size:=Nat.le_trans I.ok.above (Nat.le_of_lt I.lt)
theorem Inv.nofs (I:Inv X pins σ H s) (h:s.heap.objs.size<=a):a ∉ X.fs:=λhb=>by obtain ⟨_,o,ho,_⟩:=I.ok.funs.mem hb;exact absurd (Nat.lt_of_lt_of_le (Heap.lt_size ho) (Nat.le_trans I.sz h)) (Nat.lt_irrefl _)
theorem Inv.cne (I:Inv X pins σ H s):∀x c,X.env.cells.lookup x=some c->c≠X.env.locals:=λx c e z=>by obtain ⟨v,o,ho,hd⟩:=I.cell x c e;obtain ⟨m,⟨o',es,ep,ho',hd',_⟩,_⟩:=I.loc;rw [z,ho'] at ho;cases ho;rw [hd'] at hd;cases hd
theorem Inv.funs (I:Inv X pins σ H s):s.heap.FunFrames X.base X.outer:=by
 have all:∀(l:List Env),(∀b∈frs l,b∈X.fs)->X.s₀.heap.FunFrames X.base l->s.heap.FunFrames X.base l:=by
  intro l
  induction l with
  | nil=>intro _ _;trivial
  | cons env r ih=>
   intro hs hl;obtain ⟨hk,⟨L,o,hf,hn,ho,hd⟩,hr⟩:=hl;have hL:L∈X.fs:=hs L (by unfold frs;rw [List.filterMap_cons,hf];exact List.mem_cons_self);obtain ⟨sl,e⟩:=I.base.slot L o ho (I.ok.frf L hL) hL λz=>I.ok.exfs L z hL
   exact ⟨hk,⟨L,_,hf,hn,e,hd⟩,ih (λb hb=>hs b (by unfold frs;rw [List.filterMap_cons,hf];exact List.mem_cons_of_mem _ hb)) hr⟩
 exact all X.outer (λ_ hb=>hb) I.ok.funs
theorem Inv.stack (I:Inv X pins σ H s):s.heap.FunFrames X.base X.stack:=by
 rcases I.ok.stk with e | ⟨e,hf⟩
 ·rw [e];exact I.funs
 ·rw [e];obtain ⟨m,hn,_⟩:=I.loc;refine .cons (by rw [I.ok.kind];decide) hf hn ?_ I.funs;exact Heap.get?_none_of_le (Nat.le_trans I.ok.bsz I.ok.above)
theorem Inv.M3 (I:Inv X pins σ H s):∀b∈frs X.stack,b∈X.env.locals::X.fs:=λb hb=>by
 rcases I.ok.stk with e | ⟨e,hf⟩
 ·rw [e] at hb;exact List.mem_cons_of_mem _ hb
 ·rw [e] at hb;unfold frs at hb;rw [List.filterMap_cons,hf] at hb;exact hb
theorem Inv.Vf (I:Inv X pins σ H s):∀b∈frs X.stack,H b=none:=λb hb=>by
 rcases List.mem_cons.mp (I.M3 b hb) with e | hb
 ·rw [e];exact I.free
 ·obtain ⟨_,o,ho,_⟩:=I.ok.funs.mem hb;exact I.base.free b o ho (I.ok.frf b hb) λz=>I.ok.exfs b z hb
theorem Inv.step {g':Array GenState} {d':Drawn} (I:Inv X pins σ H s)
  (hch:∀b∈ch,(b∈X.ex∨X.s₀.heap.objs.size<=b)/\b≠X.env.locals/\(∀x c,X.env.cells.lookup x=some c->c≠b)/\∀p∈X.pn++pins,p.1≠b)
  (keep:∀b o,b≠X.env.locals->b ∉ X.fs->b ∉ ch->s.heap.get? b=some o->H b=none->h'.get? b=some o)
  (slot:∀b o,b≠X.env.locals->b∈X.fs->b ∉ ch->s.heap.get? b=some o->H b=none->∃sl,h'.get? b=some {o with slots:=sl}) (free:∀b o,b ∉ ch->s.heap.get? b=some o->H b=none->H' b=none)
  (there:∀b o,b ∉ ch->s.heap.get? b=some o->∃o',h'.get? b=some o')
  (tups:∀b xs,H b=some (.tup xs)->H' b=some (.tup xs)) (frzs:∀b o u,H b=some (.frz o u)->H' b=some (.frz o u)) (tbls:∀b ps,H b=some (.tbl ps)->∃more,H' b=some (.tbl (ps++more)))
  (ns:∀m,s.heap.Ns X.env.locals m->h'.Ns X.env.locals m) (hok:HOk X.prog X.w H' h') (hg:AllBare g'):
  Inv X pins σ H' {s with heap:=h',gens:=g',drawn:=d',toks:=t'}:=by
 have neL:∀b o,X.s₀.heap.get? b=some o->b≠X.env.locals:=λb o e=>Nat.ne_of_lt (Nat.lt_of_lt_of_le (Heap.lt_size e) I.ok.above)
 have neC:∀b o,X.s₀.heap.get? b=some o->b ∉ X.ex->b ∉ ch:=λb o e hx hb=>by
  rcases (hch b hb).1 with z | z
  ·exact hx z
  ·exact absurd (Nat.lt_of_lt_of_le (Heap.lt_size e) z) (Nat.lt_irrefl _)
 have cellK:∀x c,X.env.cells.lookup x=some c->∀v,s.heap.IsCell c v->h'.IsCell c v:=λx c e v ⟨o,ho,hd⟩=>by
  have nch:c ∉ ch:=λz=>(hch c z).2.2.1 x c e rfl
  by_cases hc:c∈X.fs
  ·obtain ⟨sl,q⟩:=slot c o (I.cne x c e) hc nch ho (I.Dp x c e);exact ⟨_,q,hd⟩
  ·exact ⟨o,keep c o (I.cne x c e) hc nch ho (I.Dp x c e),hd⟩
 refine ⟨I.ok,I.os,hg,⟨λb o e n hb hx=> ?_,λb o e n hb hx=> ?_,λb o e n hx=> ?_,λb o e hx=> ?_,λb xs e=>tups b xs (I.base.tups b xs e),λb o xs e=>frzs b o xs (I.base.frzs b o xs e),λb ps e=> ?_⟩,?_,λx c e=> ?_,?_,λx c e=> ?_,λp hp=> ?_,hok,I.len⟩
 ·exact keep b o (neL b o e) hb (neC b o e hx) (I.base.keep b o e n hb hx) (I.base.free b o e n hx)
 ·obtain ⟨sl,e1⟩:=I.base.slot b o e n hb hx;obtain ⟨sl',e2⟩:=slot b _ (neL b o e) hb (neC b o e hx) e1 (I.base.free b o e n hx);exact ⟨sl',e2⟩
 ·obtain ⟨o',e1⟩:=I.base.there b o e hx;exact free b o' (neC b o e hx) e1 (I.base.free b o e n hx)
 ·obtain ⟨o',e1⟩:=I.base.there b o e hx;exact there b o' (neC b o e hx) e1
 ·obtain ⟨m1,e1⟩:=I.base.tbls b ps e;obtain ⟨m2,e2⟩:=tbls b _ e1;exact ⟨m1++m2,by rw [e2,Array.append_assoc]⟩
 ·obtain ⟨m,hn,hl⟩:=I.loc;refine ⟨m,ns m hn,λi x v e1 e2 e3=> ?_⟩;obtain ⟨u,r,l⟩:=hl i x v e1 e2 e3;refine ⟨u,r,?_⟩;rcases l with l | ⟨k,c,e,z⟩
  ·exact .inl l
  ·exact .inr ⟨k,c,e,cellK x c e _ z⟩
 ·obtain ⟨v,z⟩:=I.cell x c e;exact ⟨v,cellK x c e v z⟩
 ·obtain ⟨m,⟨o,_,_,ho,_⟩,_⟩:=I.loc;exact free _ o (λz=>(hch _ z).2.1 rfl) ho I.free
 ·obtain ⟨v,o,ho,hd⟩:=I.cell x c e;exact free c o (λz=>(hch c z).2.2.1 x c e rfl) ho (I.Dp x c e)
 ·obtain ⟨e,n,ne,nf,d⟩:=I.pin p hp;have nch:p.1 ∉ ch:=λz=>(hch p.1 z).2.2.2 p hp rfl
  exact ⟨keep p.1 p.2 ne nf nch e n,free p.1 p.2 nch e n,ne,nf,d⟩
theorem Inv.un (I:Inv X pins σ H s) (u:Un X.fs [] H H' s.heap h') (hok:HOk X.prog X.w H' h'):Inv X pins σ H' {s with heap:=h',toks:=t'}:=by
 obtain ⟨m,⟨o,es,ep,ho,r⟩,_⟩:=id I.loc;obtain ⟨sl,hL⟩:=u.any ho I.free (by simp)
 exact I.step (g':=s.gens) (d':=s.drawn) (ch:= []) (λ_ z=>nomatch z) (λb o _ hb _ e n=>u.keep b o e n hb (by simp)) (λb o _ hb _ e n=>u.slot b o e n hb (by simp)) (λb o _ e n=>u.free b o e n (by simp)) (λb o _ e=>u.there b o e (by simp)) u.tups u.frzs u.tbls (λm' hm=>by obtain ⟨o',es',ep',ho',r'⟩:=hm;rw [ho] at ho';cases ho';exact ⟨_,es',ep',hL,r'⟩) hok I.bare
theorem Inv.call {g':Array GenState} {d':Drawn} (I:Inv X pins σ H s) (u:Un (frs X.stack) ch H H' s.heap h') (hok:HOk X.prog X.w H' h') (hg:AllBare g')
  (hch:∀b∈ch,(b∈X.ex∨X.s₀.heap.objs.size<=b)/\b≠X.env.locals/\(∀x c,X.env.cells.lookup x=some c->c≠b)/\∀p∈X.pn++pins,p.1≠b):
  Inv X pins σ H' {s with heap:=h',gens:=g',drawn:=d',toks:=t'}:=by
 obtain ⟨m,⟨o,es,ep,ho,r⟩,_⟩:=id I.loc;obtain ⟨sl,hL⟩:=u.any ho I.free λz=>(hch _ z).2.1 rfl
 exact I.step (ch:=ch) hch (λb o hL hb hc e n=>u.keep b o e n (λz=>(List.mem_cons.mp (I.M3 b z)).elim hL hb) hc) (λb o _ _ hc e n=>u.any e n hc) (λb o hc e n=>u.free b o e n hc) (λb o hc e=>u.there b o e hc) u.tups u.frzs u.tbls (λm' hm=>by obtain ⟨o',es',ep',ho',r'⟩:=hm;rw [ho] at ho';cases ho';exact ⟨_,es',ep',hL,r'⟩) hok hg
theorem Inv.turned {it:Addr} (I:Inv X pins σ H s) (k:∀b o,b≠it->s.heap.get? b=some o->h'.get? b=some o) (hn:H it=none) (hL:it≠X.env.locals)
  (h1:it∈X.ex∨X.s₀.heap.objs.size<=it) (h2:∀x c,X.env.cells.lookup x=some c->c≠it) (h3:∀p∈X.pn++pins,p.1≠it):Inv X pins σ H {s with heap:=h',toks:=t'}:=by
 have nit:∀b u,H b=some u->b≠it:=λb u e z=>by rw [z,hn] at e;cases e
 refine I.step (g':=s.gens) (d':=s.drawn) (ch:= [it]) (λb hb=> ?_) (λb o _ _ hc e _=>k b o (λz=>hc (by simp [z])) e) (λb o _ _ hc e _=>⟨o.slots,k b o (λz=>hc (by simp [z])) e⟩) (λ_ _ _ _ n=>n)
  (λb o hc e=>⟨o,k b o (λz=>hc (by simp [z])) e⟩) (λ_ _ e=>e) (λ_ _ _ e=>e) (λb ps e=>⟨#[],by rw [e];simp⟩) (λm hm=> ?_) (λb u e=> ?_) I.bare
 ·have e:b=it:=by simpa using hb
  subst e;exact ⟨h1,hL,h2,h3⟩
 ·obtain ⟨o,es,ep,ho,r⟩:=hm;exact ⟨o,es,ep,k _ o (Ne.symm hL) ho,r⟩
 ·refine (I.hok b u e).stay (λc v hc q=>k c v ?_ q) (λ_ q=>q) λ_ _ q=>q
  rcases hc with z | z
  ·rw [z];exact nit b u e
  ·exact nit c _ z
theorem Inv.tok (I:Inv X pins σ H s) (t:Nat):Inv X pins σ H {s with toks:=t}:=I.un (h':=s.heap) (t':=t) Un.refl I.hok
theorem Inv.kept (I:Inv X pins σ H s) (k:∀b u,s.heap.get? b=some u->h'.get? b=some u):Inv X pins σ H {s with heap:=h',toks:=t'}:=I.un (Un.kept k) (I.hok.kept k)
theorem Inv.laid (I:Inv X pins σ H s) (k:∀b u,s.heap.get? b=some u->h'.get? b=some u) (hp:s.heap.objs.size<=a) (new:ObjOk X.prog X.w (upd H a o) h' a o):
  Inv X pins σ (upd H a o) {s with heap:=h',toks:=t'}:=I.un (Un.laid k hp (I.hok.fresh hp)) (I.hok.laid k hp new)
theorem Inv.write {x e:Addr} (I:Inv X pins σ H s) (mu:Mut (H x)) (he:e=x∨H e=some (.own x)) (k:∀b u,b≠e->s.heap.get? b=some u->h'.get? b=some u) (heo:∃u,h'.get? e=some u)
  (new:ObjOk X.prog X.w (upd H x o) h' x o):Inv X pins σ (upd H x o) {s with heap:=h',toks:=t'}:=I.un (Un.write mu he k heo) (I.hok.write mu he k heo new)
theorem Inv.weak {σ':List (Option V)} (I:Inv X pins σ H s) (hl:σ'.length=σ.length) (w:∀(i:Nat) v,σ'[i]? =some (some v)->σ[i]? =some (some v)):Inv X pins σ' H s:=
 ⟨I.ok,I.os,I.bare,I.base,let ⟨m,hn,hl'⟩:=I.loc;⟨m,hn,λi x v e1 e2 e3=>hl' i x v e1 (w i v e2) e3⟩,I.cell,I.free,I.Dp,I.pin,I.hok,hl.trans I.len⟩
theorem Inv.Dr {pins':List (Addr×Obj)} (I:Inv X pins σ H s) (h:∀p∈pins',s.heap.get? p.1=some p.2/\H p.1=none/\p.1≠X.env.locals/\p.1 ∉ X.fs/\∀v,p.2.data≠ .cell v):Inv X pins' σ H s:=
 ⟨I.ok,I.os,I.bare,I.base,I.loc,I.cell,I.free,I.Dp,λp hp=>(List.mem_append.mp hp).elim (λz=>I.pin p (List.mem_append_left _ z)) (h p),I.hok,I.len⟩
theorem Vc {N:List Str} (hN:N.Nodup) (a:N[i]? =some x) (b:N[j]? =some x):i=j:=by obtain ⟨h1,e1⟩:=List.getElem?_eq_some_iff.mp a;obtain ⟨h2,e2⟩:=List.getElem?_eq_some_iff.mp b;exact (List.getElem_inj hN).mp (e1.trans e2.symm)
theorem ZDp {M:Model} {A:Around} {E:Value->Shared->Prop} {v:V} (I:Inv X pins σ H s) (hN:X.N.Nodup) (hi:X.N[i]? =some x) (hx:Loc X.env.scope x) (r:RelV v u)
  (h:∀s',Inv X pins (σ.set i (some v)) H s'->(∃a,Heap.SameBut a s.heap s'.heap/\(a=X.env.locals∨X.env.cells.lookup x=some a))->Q () s') (hf:X.fn x=true∨X.env.scope.names.lookup x=some .local:=by first | exact .inl rfl | exact .inr rfl | assumption):wpAny M A (storeName X.env x u) Q E s:=by
 obtain ⟨m,hn,hl⟩:=id I.loc;have hcls:(X.env.scope.kind == .class || (X.env.scope.kind == .module && X.env.locals != X.env.globals))=false:=by rw [I.ok.kind];rfl
 have hiσ:i < σ.length:=by rw [I.len];exact (List.getElem?_eq_some_iff.mp hi).1
 have cne:=I.cne;have tracked:∀{a:Addr} {h':Heap},(∃o,s.heap.get? a=some o/\H a=none)->Heap.SameBut a s.heap h'->HOk X.prog X.w H h':=λ{a h'} ha hs b ob e=>by
  obtain ⟨_,_,hfree⟩:=ha;refine (I.hok b ob e).stay (λc w' hc q=>(hs.2 c ?_).trans q) (λ_ q=>q) λ_ _ q=>q
  rintro rfl;rcases hc with rfl | hc
  ·rw [hfree] at e;cases e
  ·rw [hfree] at hc;cases hc
 rcases hx with hk | hk
 ·refine wpAny_storeName_local hk hn (λh' hn' hs=> ?_) hcls;obtain ⟨oL,_,_,hoL,_⟩:=id hn;refine h _ ⟨I.ok,I.os,I.bare,⟨λb o e n hb hx=> ?_,λb o e n hb hx=> ?_,I.base.free,λb o e hx=> ?_,I.base.tups,I.base.frzs,I.base.tbls⟩,⟨_,hn',λj y v' e1 e2 e3=> ?_⟩,λy c e=> ?_,I.free,I.Dp,λp hp=> ?_,tracked ⟨oL,hoL,I.free⟩ hs,by simpa using I.len⟩ ⟨_,hs,.inl rfl⟩
  ·exact (hs.2 b (Nat.ne_of_lt (Nat.lt_of_lt_of_le (Heap.lt_size e) I.ok.above))).trans (I.base.keep b o e n hb hx)
  ·obtain ⟨sl,e1⟩:=I.base.slot b o e n hb hx;exact ⟨sl,(hs.2 b (Nat.ne_of_lt (Nat.lt_of_lt_of_le (Heap.lt_size e) I.ok.above))).trans e1⟩
  ·obtain ⟨o',e1⟩:=I.base.there b o e hx;exact ⟨o',(hs.2 b (Nat.ne_of_lt (Nat.lt_of_lt_of_le (Heap.lt_size e) I.ok.above))).trans e1⟩
  ·by_cases hj:j=i
   ·subst hj;rw [hi] at e1;cases e1;rw [List.getElem?_set_self hiσ] at e2;cases e2;exact ⟨u,r,.inl ⟨hk,by simp⟩⟩
   ·rw [List.getElem?_set_ne (Ne.symm hj)] at e2;obtain ⟨u',r',q⟩:=hl j y v' e1 e2 e3;refine ⟨u',r',?_⟩;rcases q with ⟨k,e⟩ | ⟨k,c,e,z⟩
    ·refine .inl ⟨k,?_⟩;have:y≠x:=λe=>hj (Vc hN e1 (e ▸ hi))
     simp [this,e]
    ·exact .inr ⟨k,c,e,z.sameBut hs (cne y c e)⟩
  ·obtain ⟨w',z⟩:=I.cell y c e;exact ⟨w',z.sameBut hs (cne y c e)⟩
  ·obtain ⟨e,n,ne,nf,d⟩:=I.pin p hp;exact ⟨(hs.2 p.1 ne).trans e,n,ne,nf,d⟩
 ·have hfn:X.fn x=true:=by
   rcases hf with z | z
   ·exact z
   ·rw [z] at hk;cases hk
  obtain ⟨c,hc⟩:=I.ok.has x (.inl hk);obtain ⟨w',z⟩:=I.cell x c hc;refine wpAny_storeName_cell I.ok.kind hk hc z (λh' hc' hs=> ?_);obtain ⟨oc,hoc,hocd⟩:=id z;refine h {s with heap:=h'} ⟨I.ok,I.os,I.bare,⟨λb o e n hb hx=> ?_,λb o e n hb hx=> ?_,I.base.free,λb o e hx=> ?_,I.base.tups,I.base.frzs,I.base.tbls⟩,⟨m,hn.sameBut hs (Ne.symm (cne x c hc)),λj y v' e1 e2 e3=> ?_⟩,λy c' e=> ?_,I.free,I.Dp,λp hp=> ?_,tracked ⟨oc,hoc,I.Dp x c hc⟩ hs,by simpa using I.len⟩ ⟨c,hs,.inr hc⟩
  ·exact (hs.2 b (Nat.ne_of_lt (Nat.lt_of_lt_of_le (Heap.lt_size e) (I.ok.cab x c hfn hc)))).trans (I.base.keep b o e n hb hx)
  ·obtain ⟨sl,e1⟩:=I.base.slot b o e n hb hx;exact ⟨sl,(hs.2 b (Nat.ne_of_lt (Nat.lt_of_lt_of_le (Heap.lt_size e) (I.ok.cab x c hfn hc)))).trans e1⟩
  ·obtain ⟨o',e1⟩:=I.base.there b o e hx;exact ⟨o',(hs.2 b (Nat.ne_of_lt (Nat.lt_of_lt_of_le (Heap.lt_size e) (I.ok.cab x c hfn hc)))).trans e1⟩
  ·by_cases hj:j=i
   ·subst hj;rw [hi] at e1;cases e1;rw [List.getElem?_set_self hiσ] at e2;cases e2;exact ⟨u,r,.inr ⟨.inl hk,c,hc,hc'⟩⟩
   ·rw [List.getElem?_set_ne (Ne.symm hj)] at e2;obtain ⟨u',r',q⟩:=hl j y v' e1 e2 e3;refine ⟨u',r',?_⟩;rcases q with q | ⟨k,c',e,z'⟩
    ·exact .inl q
    ·refine .inr ⟨k,c',e,z'.sameBut hs ?_⟩;rintro rfl;exact hj (Vc hN e1 (I.ok.inj _ _ _ e hc ▸ hi))
  ·by_cases hcc:c'=c
   ·subst hcc;exact ⟨_,hc'⟩
   ·obtain ⟨w2,z2⟩:=I.cell y c' e;exact ⟨w2,z2.sameBut hs hcc⟩
  ·obtain ⟨e,n,ne,nf,d⟩:=I.pin p hp;refine ⟨(hs.2 p.1 ?_).trans e,n,ne,nf,d⟩;intro q;rw [q,hoc] at e;have q':oc=p.2:=Option.some.inj e;exact d w' (by rw [<-q'];exact hocd)
theorem Xg {M:Model} {A:Around} {E:Value->Shared->Prop} {v:V} (I:Inv X pins σ H s) (hN:X.N.Nodup) (hi:X.N[i]? =some x) (hx:Loc X.env.scope x) (r:RelV v u)
  (h:∀s',Inv X pins (σ.set i (some v)) H s'->Q () s') (hf:X.fn x=true∨X.env.scope.names.lookup x=some .local:=by first | exact .inl rfl | exact .inr rfl | assumption):wpAny M A (storeName X.env x u) Q E s:=
 ZDp I hN hi hx r (λs' I' _=>h s' I') hf
theorem Inv.call' {s':Shared} (I:Inv X pins σ H s) (ho:s'.os=s.os) (u:Un (frs X.stack) ch H H' s.heap s'.heap) (hok:HOk X.prog X.w H' s'.heap) (hg:AllBare s'.gens)
  (hch:∀b∈ch,(b∈X.ex∨X.s₀.heap.objs.size<=b)/\b≠X.env.locals/\(∀x c,X.env.cells.lookup x=some c->c≠b)/\∀p∈X.pn++pins,p.1≠b):Inv X pins σ H' s':=by
 obtain ⟨h',g',d',t',o'⟩:=s';have e:o'=s.os:=ho;subst e;exact I.call (g':=g') (t':=t') (d':=d') u hok hg hch
end
abbrev XK:=Value->Option Addr->Hp->Prop
abbrev St:=List (Option V)
variable {σ:St}
abbrev VK:=V->Hp->Prop
abbrev TE:=St->Hp->VK->Prop
variable {t:TE}
abbrev TT:=St->Hp->(Bool->Hp->Prop)->Prop
abbrev TA:=St->Hp->(List V->Hp->Prop)->Prop
structure Ends where
 nx:St->Hp->Prop
 rt:VK
 bk:St->Hp->Prop:=λ_ _=>False
 ct:St->Hp->Prop:=λ_ _=>False
abbrev TS:=Ends->St->Hp->Prop
def EP (X:Cx) (pins:List (Addr×Obj)) (σ:St) (Q:VK) (u:Value) (s':Shared):Prop:=∃v H',Inv X pins σ H' s'/\RelV v u/\Q v H'
def TP (X:Cx) (pins:List (Addr×Obj)) (σ:St) (Q:Bool->Hp->Prop) (b:Bool) (s':Shared):Prop:=∃H',Inv X pins σ H' s'/\Q b H'
def AP (X:Cx) (pins:List (Addr×Obj)) (σ:St) (Q:List V->Hp->Prop) (us:List Value) (s':Shared):Prop:=∃vs H',Inv X pins σ H' s'/\Vals vs us/\Q vs H'
def SP (X:Cx) (pins:List (Addr×Obj)) (D:Ends) (f:Flow) (s':Shared):Prop:=
 match f with
 | .next=>∃σ' H',Inv X pins σ' H' s'/\D.nx σ' H'
 | .brk=>∃σ' H',Inv X pins σ' H' s'/\D.bk σ' H'
 | .cont=>∃σ' H',Inv X pins σ' H' s'/\D.ct σ' H'
 | .ret u=>∃v σ' H',Inv X pins σ' H' s'/\RelV v u/\D.rt v H'
def PE (X:Cx) (e:Expr) (t:TE):Prop:=
 ∀(pins:List (Addr×Obj)) (s:Shared) (σ:St) (H:Hp) (Q:VK),Inv X pins σ H s->t σ H Q->wpAny (model X.prog X.w) X.A (eval e X.env) (EP X pins σ Q) X.xe s
def PT (X:Cx) (e:Expr) (t:TT):Prop:=
 ∀(pins:List (Addr×Obj)) (s:Shared) (σ:St) (H:Hp) (Q:Bool->Hp->Prop),Inv X pins σ H s->t σ H Q->wpAny (model X.prog X.w) X.A (isTrue e X.env (eval e X.env)) (TP X pins σ Q) X.xe s
def PW (X:Cx) (e:Expr) (t:TT):Prop:=
 ∀(whole:Sem Value) (pins:List (Addr×Obj)) (s:Shared) (σ:St) (H:Hp) (Q:Bool->Hp->Prop),Inv X pins σ H s->t σ H Q->wpAny (model X.prog X.w) X.A (isTrue e X.env whole) (TP X pins σ Q) X.xe s
theorem PW.pt {t:TT} (h:PW X e t):PT X e t:=h _
def PA (X:Cx) (es:List Expr) (t:TA):Prop:=
 ∀(pos:Pos) (pins:List (Addr×Obj)) (s:Shared) (σ:St) (H:Hp) (Q:List V->Hp->Prop),Inv X pins σ H s->t σ H Q->wpAny (model X.prog X.w) X.A (spliced (backTo pos (starEach es X.env))) (AP X pins σ Q) X.xe s
def PS (X:Cx) (st:Stmt) (t:TS):Prop:=
 ∀(pins:List (Addr×Obj)) (s:Shared) (σ:St) (H:Hp) (D:Ends),Inv X pins σ H s->t D σ H->wpAny (model X.prog X.w) X.A (exec st X.env) (SP X pins D) X.xe s
def PSs (X:Cx) (st:List Stmt) (t:TS):Prop:=
 ∀(pins:List (Addr×Obj)) (s:Shared) (σ:St) (H:Hp) (D:Ends),Inv X pins σ H s->t D σ H->wpAny (model X.prog X.w) X.A (execs st X.env) (SP X pins D) X.xe s
theorem thn {α:Type} {t:Sem α} {Q Q':α->Shared->Prop} {M:Model} (h:wpAny M A t Q E s) (hQ:∀a s,Q a s->Q' a s):wpAny M A t Q' E s:=wpAny_mono h hQ λ_ _ x=>x
section
variable {X:Cx}
theorem bin {a b:Expr} {ta tb:TE} (ha:PE X a ta) (hb:PE X b tb) {R:V->V->Hp->Prop} (I:Inv X pins σ H s) (h:ta σ H λx H1=>tb σ H1 λy H2=>R x y H2)
  {α:Type} {Q:α->Shared->Prop} {f:Value->Value->Sem α}
  (hf:∀v u s2 x y H2,Inv X pins σ H2 s2->RelV x v->RelV y u->R x y H2->wpAny (model X.prog X.w) X.A (f v u) Q X.xe s2):
  wpAny (model X.prog X.w) X.A (eval a X.env) (λv s₁=>wpAny (model X.prog X.w) X.A (eval b X.env) (λu s₂=>wpAny (model X.prog X.w) X.A (f v u) Q X.xe s₂) X.xe s₁) X.xe s:=by
 refine thn (ha pins s σ H _ I h) λv s1 ⟨x,H1,I1,r1,q1⟩=> ?_
 refine thn (hb pins s1 σ H1 _ I1 q1) λu s2 ⟨y,H2,I2,r2,q2⟩=> ?_
 exact hf v u s2 x y H2 I2 r1 r2 q2
def tVar (i:Nat):TE:=λσ H Q=>∃v,σ[i]? =some (some v)/\Q v H
def tC (v:V):TE:=λ_ H Q=>Q v H
theorem ZD5 {pos:Pos} (hN:X.N[i]? =some x) (hv:Vis X.env.scope x) (hd:(x == ("__debug__":Str))=false:=by decide) (hcd:(x == ("__classdict__":Str))=false:=by decide):PE X (.Name x pos) (tVar i):=by
 intro pins s σ H Q I h;obtain ⟨v,e,h⟩:=h;obtain ⟨m,hn,hl⟩:=I.loc;obtain ⟨u,r,l⟩:=hl i x v hN e hv;have fin:EP X pins σ Q u s:=⟨v,H,I,r,h⟩;rcases l with ⟨hk,hm⟩ | ⟨hk,c,hc,hcell⟩
 ·exact wpAny_Name (wpAny_loadName_local I.ok.kind hk hn hm fin) hd
 ·rcases hk with hk | hk
  ·exact wpAny_Name (wpAny_loadName_cell I.ok.kind hk hc hcell fin) hd
  ·exact wpAny_Name (wpAny_loadName_free I.ok.kind hk hc hcell fin hcd) hd
theorem ZBg {i j pos}:PE X (.Constant (.int i) j pos) (tC (.int i)):=λ_ _ _ H _ I h=>wpAny_Constant_int ⟨.int i,H,I.tok _,⟨_,rfl⟩,h⟩
theorem Zi {b j pos}:PE X (.Constant (.bool b) j pos) (tC (.bl b)):=λ_ _ _ H _ I h=>Constant_bool ⟨.bl b,H,I,rfl,h⟩
theorem ZCq {x j pos}:PE X (.Constant (.str x) j pos) (tC (.str x)):=λ_ _ _ H _ I h=>Calls.Constant_str ⟨.str x,H,I.tok _,⟨_,rfl⟩,h⟩
def Gl (X:Cx) (x:Str):Prop:=X.env.kindOf x=some .globalImplicit
theorem Yi {E:Value->Shared->Prop} {pos:Pos} {Q:Value->Shared->Prop} (I:Inv X pins σ H s) (hg:Gl X x) (hm:X.mg x=some u) (h:Q u s)
  (hd:(x == ("__debug__":Str))=false:=by decide):wpAny (model X.prog X.w) X.A (eval (.Name x pos) X.env) Q E s:=
 Calls.Name_function_global I.ok.kind hg (Calls.loadGlobal_global (by rw [I.ok.glob];exact I.mod.glob.keeps I.bk) hm h) hd
theorem Pa {E:Value->Shared->Prop} {pos:Pos} {Q:Value->Shared->Prop} (I:Inv X pins σ H s) (hg:Gl X x) (hm:X.mg x=none) (hv:bootBuiltins x=some u) (h:Q u s)
  (hn:x≠"__name__":=by decide) (hd:(x == ("__debug__":Str))=false:=by decide):wpAny (model X.prog X.w) X.A (eval (.Name x pos) X.env) Q E s:=by
 obtain ⟨mb,h1,h2⟩:=I.mod.blt;exact Calls.Name_function_global I.ok.kind hg (Calls.loadGlobal_builtin (by rw [I.ok.glob];exact I.mod.glob.keeps I.bk) hm (by rw [I.ok.blt];exact h1.keeps I.bk) ((h2 x hn).trans hv) h) hd
theorem ZBW {v:V} {pos:Pos} (hg:Gl X x) (hm:X.mg x=some u) (r:RelV v u) (hd:(x == ("__debug__":Str))=false:=by decide):PE X (.Name x pos) (tC v):=
 λ_ _ _ H _ I h=>Yi I hg hm ⟨v,H,I,r,h⟩ hd
theorem ZBo {v:V} {pos:Pos} (hg:Gl X x) (hm:X.mg x=none) (hv:bootBuiltins x=some u) (r:RelV v u) (hn:x≠"__name__":=by decide) (hd:(x == ("__debug__":Str))=false:=by decide):PE X (.Name x pos) (tC v):=
 λ_ _ _ H _ I h=>Pa I hg hm hv ⟨v,H,I,r,h⟩ hn hd
variable {a b:Expr} {ta tb:TE} {pos:Pos}
def PC (X:Cx) (op:CmpOp) (a b:Expr) (t:TE):Prop:=
 ∀(pins:List (Addr×Obj)) (s:Shared) (σ:St) (H:Hp) (Q:VK),Inv X pins σ H s->t σ H Q->
  wpAny (model X.prog X.w) X.A (eval a X.env) (λv s₁=>wpAny (model X.prog X.w) X.A (eval b X.env) (λu s₂=>wpAny (model X.prog X.w) X.A (compareOp op v u) (EP X pins σ Q) X.xe s₂) X.xe s₁) X.xe s
theorem nobehind (b:Expr) (h:op≠ .In) (h2:op≠ .NotIn):behindInMarks op b=false:=by
 have e1:(op == CmpOp.In)=false:=by cases op <;> first | rfl | exact absurd rfl h
 have e2:(op == CmpOp.NotIn)=false:=by cases op <;> first | rfl | exact absurd rfl h2
 cases b <;> simp [behindInMarks,e1,e2]
def tB (t:TE):TT:=λσ H Q=>t σ H λx H1=>∃c,x=.bl c/\Q c H1
theorem pt_cmp (h:PC X op a b t) (h1:behindInMarks op b=false:=by first | exact nobehind _ (by decide) (by decide) | rfl):PT X (.Compare a [op] [b] pos) (tB t):=by intro pins s σ H Q I hw;refine wpAny_isTrue_Compare1 (thn (h pins s σ H _ I hw) λv s1 h1=>thn h1 λu s2 h2=>thn h2 λc s3 ⟨x,H1,I1,r1,q1⟩=> ?_) h1;obtain ⟨d,rfl,q⟩:=q1;cases r1;exact wpAny_truthy_bool ⟨H1,I1,q⟩
theorem ZEb (h:PE X e t) (he:∀whole,isTrue e X.env whole=(do let v<-whole;standAt e.pos;holding [v] (truthy v)):=by intro _;rfl):PT X e (tB t):=by intro pins s σ H Q I hw;refine isTrue_plain (thn (h pins s σ H _ I hw) λv s1 ⟨x,H1,I1,r1,q1⟩=> ?_) (he _);obtain ⟨d,rfl,q⟩:=q1;cases r1;exact wpAny_truthy_bool ⟨H1,I1,q⟩
variable {tA tB':TT} {rest:List Expr}
def tOr (t u:TT):TT:=λσ H Q=>t σ H λc H1=>if c=true then Q true H1 else u σ H1 Q
def tNot (t:TT):TT:=λσ H Q=>t σ H λc H1=>Q (!c) H1
theorem ZCh (ha:PT X a tA):PW X (.BoolOp .Or [a] pos) tA:=by
 intro wh pins s σ H Q I h;refine isTrue_or (thn (ha pins s σ H Q I h) λc s1 e=> ?_);cases c with
 | false=>exact isTrue_or_nil e
 | true=>exact e
theorem ZDi (ha:PT X a tA) (hb:PW X (.BoolOp .Or (b::rest) pos) tB'):PW X (.BoolOp .Or (a::b::rest) pos) (tOr tA tB'):=by
 intro wh pins s σ H Q I h;refine isTrue_or (thn (ha pins s σ H _ I h) λc s1 ⟨H1,I1,q1⟩=> ?_);cases c with
 | true=>exact ⟨H1,I1,q1⟩
 | false=>exact hb wh pins s1 σ H1 Q I1 q1
theorem ZDY (ha:PT X a tA):PT X (.UnaryOp .Not a pos) (tNot tA):=by intro pins s σ H Q I h;exact isTrue_not (ha pins s σ H (λc H1=>Q (!c) H1) I h)
def ZBy (ta tb:TE):TE:=λσ H Q=>ta σ H λx H1=>∃c,x=.bl c/\if c=true then tb σ H1 Q else Q (.bl false) H1
def tOrV (ta tb:TE):TE:=λσ H Q=>ta σ H λx H1=>∃c,x=.bl c/\if c=true then Q (.bl true) H1 else tb σ H1 Q
def Z4 (ta:TE):TE:=λσ H Q=>ta σ H λx H1=>∃c,x=.bl c/\Q (.bl (!c)) H1
theorem ZDU {op} (h:PE X a t):PE X (.BoolOp op [a] pos) t:=λpins s σ H Q I hw=>BoolOp_one (h pins s σ H Q I hw)
theorem ZBX (ha:PE X a ta) (hb:PE X (.BoolOp .And (b::rest) pos) tb):PE X (.BoolOp .And (a::b::rest) pos) (ZBy ta tb):=by
 intro pins s σ H Q I h;refine BoolOp_and (thn (ha pins s σ H _ I h) λv s1 ⟨x,H1,I1,r1,q1⟩=> ?_);obtain ⟨c,rfl,q1⟩:=q1;cases r1;refine wpAny_truthy_bool ?_;cases c with
 | true=>exact hb pins s1 σ H1 Q I1 q1
 | false=>exact ⟨.bl false,H1,I1,rfl,q1⟩
theorem ZDm (ha:PE X a ta) (hb:PE X (.BoolOp .Or (b::rest) pos) tb):PE X (.BoolOp .Or (a::b::rest) pos) (tOrV ta tb):=by
 intro pins s σ H Q I h;refine BoolOp_or (thn (ha pins s σ H _ I h) λv s1 ⟨x,H1,I1,r1,q1⟩=> ?_);obtain ⟨c,rfl,q1⟩:=q1;cases r1;refine wpAny_truthy_bool ?_;cases c with
 | false=>exact hb pins s1 σ H1 Q I1 q1
 | true=>exact ⟨.bl true,H1,I1,rfl,q1⟩
theorem ZDF (ha:PE X a ta):PE X (.UnaryOp .Not a pos) (Z4 ta):=by intro pins s σ H Q I h;refine UnaryOp_ (thn (ha pins s σ H _ I h) λv s1 ⟨x,H1,I1,r1,q1⟩=> ?_);obtain ⟨c,rfl,q1⟩:=q1;cases r1;exact not_of (wpAny_truthy_bool ⟨.bl (!c),H1,I1,rfl,q1⟩)
end
def SqL (K:PySem.W.Frag) (H:Hp) (a:Addr) (xs:List V):Prop:=
 Rd H a (.lst xs)∨
  ∃(o:Obj) (its:Array Value) (n:Nat),K.lookup a=some o/\o.cls=.type "list"/\o.dict=none/\o.data=.seq its n/\its.size<=sizeLine/\Vals xs its.toList
def SqT (K:PySem.W.Frag) (H:Hp) (a:Addr) (xs:List V):Prop:=
 Rd H a (.tup xs)∨
  ∃(o:Obj) (its:Array Value) (n:Nat),K.lookup a=some o/\o.cls=.type "tuple"/\o.data=.seq its n/\its.size<=sizeLine/\Vals xs its.toList
def absV:Value->Option V
 | .none=>some .non
 | .bool b=>some (.bl b)
 | .int i _=>some (.int i)
 | .str x _=>some (.str x)
 | .bytes b _=>some (.byt b)
 | .float b _=>some (.flt b)
 | .ref a=>some (.ref a)
 | .type n=>some (.ty n)
 | _=>none
theorem RelV.abs {x:V} (r:RelV x u):absV u=some x:=by
 cases x with
 | non=>cases r;rfl
 | bl _=>cases r;rfl
 | int _=>obtain ⟨t,rfl⟩:=r;rfl
 | str _=>obtain ⟨t,rfl⟩:=r;rfl
 | byt _=>obtain ⟨t,rfl⟩:=r;rfl
 | flt _=>obtain ⟨t,rfl⟩:=r;rfl
 | ref _=>cases r;rfl
 | ty _=>cases r;rfl
theorem RelV.inj {x y:V} (r:RelV x u) (q:RelV y u):x=y:=Option.some.inj (r.abs.symm.trans q.abs)
theorem Vals.inj:∀{xs ys:List V} {us:List Value},Vals xs us->Vals ys us->xs=ys
 | _,_,_,.nil,.nil=>rfl
 | _,_,_,.cons r t,.cons r' t'=>by rw [r.inj r',Vals.inj t t']
section
variable {X:Cx} {pins:List (Addr×Obj)} {σ:St} {H:Hp} {s:Shared} {a:Addr} {xs ys:List V}
theorem SqL.of (h:H a=some (.lst xs)):SqL K H a xs:=.inl (.inl h)
theorem SqT.of (h:H a=some (.tup xs)):SqT K H a xs:=.inl (.inl h)
theorem Inv.list (I:Inv X pins σ H s) (h:SqL X.K H a xs):∃its:List Value,Vals xs its/\PlainL s.heap a its.toArray/\xs.length<=sizeLine:=by
 rcases h with h | ⟨o,its,n,hk,hc,hd,hs,hz,r⟩
 ·obtain ⟨z,its,n,r,e⟩:=h.ok I.hok;exact ⟨its,r,⟨_,n,e,rfl,rfl,rfl⟩,z⟩
 ·refine ⟨its.toList,r,⟨o,n,I.kIn a o hk,hc,hd,by simpa using hs⟩,?_⟩;have e:=r.length;simp only [Array.length_toList] at e;omega
theorem Inv.tuple (I:Inv X pins σ H s) (h:SqT X.K H a xs):∃its:List Value,Vals xs its/\IsTup s.heap a its.toArray/\xs.length<=sizeLine:=by
 rcases h with h | ⟨o,its,n,hk,hc,hs,hz,r⟩
 ·obtain ⟨z,its,r,p⟩:=h.ok I.hok;exact ⟨its,r,p,z⟩
 ·refine ⟨its.toList,r,⟨o,I.kIn a o hk,hc,n,by simpa using hs⟩,?_⟩;have e:=r.length;simp only [Array.length_toList] at e;omega
theorem Inv.Ud (I:Inv X pins σ H s) (h:SqL X.K H a xs) (h':SqL X.K H a ys):xs=ys:=by
 obtain ⟨its,r,⟨o,n,e,_,_,d⟩,_⟩:=I.list h;obtain ⟨its',r',⟨o',n',e',_,_,d'⟩,_⟩:=I.list h';rw [e] at e';cases e';rw [d] at d';injection d' with d1 _
 have:its=its':=by simpa using congrArg Array.toList d1
 subst this;exact r.inj r'
theorem Inv.Td (I:Inv X pins σ H s) (h:SqT X.K H a xs) (h':SqT X.K H a ys):xs=ys:=by
 obtain ⟨its,r,⟨o,e,_,n,d⟩,_⟩:=I.tuple h;obtain ⟨its',r',⟨o',e',_,n',d'⟩,_⟩:=I.tuple h';rw [e] at e';cases e';rw [d] at d';injection d' with d1 _
 have:its=its':=by simpa using congrArg Array.toList d1
 subst this;exact r.inj r'
end
abbrev Cx.wish (X:Cx) (E:Value->Shared->Prop):Cx:={X with xe:=E}
abbrev Cx.nox (X:Cx):Cx:=X.wish λ_ _=>False
theorem Cx.Ok.wish (ok:X.Ok) (E:Value->Shared->Prop):(X.wish E).Ok:=
 ⟨ok.mod,ok.kind,ok.glob,ok.blt,ok.above,ok.inj,ok.has,ok.cab,ok.hd,ok.frames,ok.stk,ok.exf,ok.bs,ok.bsz,ok.noex,ok.exfs,ok.funs,ok.frf⟩
theorem Cx.Ok.unwish (ok:(X.wish E).Ok):X.Ok:=
 ⟨ok.mod,ok.kind,ok.glob,ok.blt,ok.above,ok.inj,ok.has,ok.cab,ok.hd,ok.frames,ok.stk,ok.exf,ok.bs,ok.bsz,ok.noex,ok.exfs,ok.funs,ok.frf⟩
section
variable {X:Cx} {pins:List (Addr×Obj)} {σ:St} {H:Hp} {s:Shared} {E:Value->Shared->Prop}
theorem Inv.wish (I:Inv X pins σ H s) (E:Value->Shared->Prop):Inv (X.wish E) pins σ H s:=⟨I.ok.wish E,I.os,I.bare,I.base,I.loc,I.cell,I.free,I.Dp,I.pin,I.hok,I.len⟩
theorem Inv.unwish (I:Inv (X.wish E) pins σ H s):Inv X pins σ H s:=⟨I.ok.unwish,I.os,I.bare,I.base,I.loc,I.cell,I.free,I.Dp,I.pin,I.hok,I.len⟩
theorem SP.unwish {D:Ends} {f:Flow} {s':Shared} (h:SP (X.wish E) pins D f s'):SP X pins D f s':=by
 cases f with
 | next=>obtain ⟨σ',H',I,q⟩:=h;exact ⟨σ',H',I.unwish,q⟩
 | brk=>obtain ⟨σ',H',I,q⟩:=h;exact ⟨σ',H',I.unwish,q⟩
 | cont=>obtain ⟨σ',H',I,q⟩:=h;exact ⟨σ',H',I.unwish,q⟩
 | ret u=>obtain ⟨v,σ',H',I,r,q⟩:=h;exact ⟨v,σ',H',I.unwish,r,q⟩
theorem PE.nox (h:PE X.nox e t):PE X e t:=λpins s σ H Q I hw=>
 wpAny_mono (h pins s σ H Q (I.wish _) hw) (λ_ _ ⟨v,H',I',r,q⟩=>⟨v,H',I'.unwish,r,q⟩) λ_ _ z=>False.elim z
theorem PT.nox {t:TT} (h:PT X.nox e t):PT X e t:=λpins s σ H Q I hw=>
 wpAny_mono (h pins s σ H Q (I.wish _) hw) (λ_ _ ⟨H',I',q⟩=>⟨H',I'.unwish,q⟩) λ_ _ z=>False.elim z
theorem PSs.nox {st:List Stmt} {t:TS} (h:PSs X.nox st t):PSs X st t:=λpins s σ H D I hw=>
 wpAny_mono (h pins s σ H D (I.wish _) hw) (λ_ _ q=>q.unwish) λ_ _ z=>False.elim z
end
section
variable {X:Cx} {st:Stmt} {rest:List Stmt} {t u:TS} {e:Expr} {te:TE} {pos:Pos}
def ZCc:TS:=λD σ H=>D.nx σ H
def tSeq (t u:TS):TS:=λD σ H=>t {D with nx:=u D} σ H
theorem ZAM:PSs X [] ZCc:=λ_ _ σ H _ I h=>wpAny_execs_nil ⟨σ,H,I,h⟩
theorem ZAW (h1:PS X st t) (h2:PSs X rest u):PSs X (st::rest) (tSeq t u):=by
 intro pins s σ H D I h;refine wpAny_execs_cons (thn (h1 pins s σ H {D with nx:=u D} I h) λf s1 q=> ?_);cases f with
 | next=>
  obtain ⟨σ',H',I',q⟩:=q;exact h2 pins s1 σ' H' D I' q
 | ret v=>exact q
 | brk=>exact q
 | cont=>exact q
theorem ZBx (h1:PS X st t):PSs X [st] t:=by
 intro pins s σ H D I h;refine wpAny_execs_cons (thn (h1 pins s σ H D I h) λf s1 q=> ?_);cases f with
 | next=>exact wpAny_execs_nil q
 | ret v=>exact q
 | brk=>exact q
 | cont=>exact q
theorem Inv.quiet (I:Inv X pins σ H s):interactive X.env=false:=by simp [interactive,I.ok.kind]
def ZBZ (te:TE):TS:=λD σ H=>te σ H λ_ H1=>D.nx σ H1
theorem ZDQ (he:PE X e te) (hs:swapsWith e none pos.line X.env=pure false:=by rfl):PS X (.Expr e pos) (ZBZ te):=by intro pins s σ H D I h;exact wpAny_Expr_any (thn (he pins s σ H _ I h) λv s1 ⟨x,H1,I1,r1,q1⟩=>⟨σ,H1,I1,q1⟩) I.quiet hs
def tRet (te:TE):TS:=λD σ H=>te σ H D.rt
theorem ZDX (he:PE X e te):PS X (.Return (some e) pos) (tRet te):=by intro pins s σ H D I h;exact wpAny_Return_some (thn (he pins s σ H _ I h) λv s1 ⟨x,H1,I1,r1,q1⟩=>⟨x,σ,H1,I1,r1,q1⟩)
def tIfS (c:TT) (t u:TS):TS:=λD σ H=>c σ H λb H1=>if b=true then t D σ H1 else u D σ H1
theorem ZAr {c:Expr} {a b:List Stmt} {tc:TT} (hc:PT X c tc) (ha:PSs X a t) (hb:PSs X b u):PS X (.If c a b pos) (tIfS tc t u):=by
 intro pins s σ H D I h;refine wpAny_If (thn (hc pins s σ H _ I h) λd s1 ⟨H1,I1,q1⟩=> ?_);cases d with
 | true=>exact ha pins s1 σ H1 D I1 q1
 | false=>exact hb pins s1 σ H1 D I1 q1
end
abbrev TG:=V->St->Hp->(St->Hp->Prop)->Prop
abbrev TGs:=List V->St->Hp->(St->Hp->Prop)->Prop
def PG (X:Cx) (target:Expr) (t:TG):Prop:=
 ∀(pins:List (Addr×Obj)) (s:Shared) (σ:St) (H:Hp) (v:V) (u:Value) (Q:St->Hp->Prop),Inv X pins σ H s->RelV v u->t v σ H Q->
  wpAny (model X.prog X.w) X.A (assign target X.env u) (λ_ s'=>∃σ' H',Inv X pins σ' H' s'/\Q σ' H') X.xe s
def PGs (X:Cx) (ts:List Expr) (t:TGs):Prop:=
 ∀(pins:List (Addr×Obj)) (s:Shared) (σ:St) (H:Hp) (vs:List V) (us:List Value) (Q:St->Hp->Prop),Inv X pins σ H s->Vals vs us->t vs σ H Q->
  wpAny (model X.prog X.w) X.A (assignInOrder ((assignEach ts X.env).map (·.2)) us) (λ_ s'=>∃σ' H',Inv X pins σ' H' s'/\Q σ' H') X.xe s
section
variable {X:Cx} {pos:Pos}
def Vj (i:Nat):TG:=λv σ H Q=>Q (σ.set i (some v)) H
theorem Zz (hN:X.N.Nodup) (hi:X.N[i]? =some x) (hx:Loc X.env.scope x) (hf:X.fn x=true∨X.env.scope.names.lookup x=some .local:=by first | exact .inl rfl | exact .inr rfl | assumption):PG X (.Name x pos) (Vj i):=by intro pins s σ H v u Q I r h;exact wpAny_assign_Name (Xg I hN hi hx r (λs' I'=>⟨_,H,I',h⟩) hf)
def gNil:TGs:=λvs σ H Q=>vs= []/\Q σ H
def ZA3 (t:TG) (u:TGs):TGs:=λvs σ H Q=>∃v r,vs=v::r/\t v σ H λσ' H'=>u r σ' H' Q
theorem ZD4:PGs X [] gNil:=by intro pins s σ H vs us Q I r h;obtain ⟨e,h⟩:=h;subst e;cases r;exact assignInOrder_nil ⟨σ,H,I,h⟩
theorem ZDr {es:List Expr} {t:TG} {u:TGs} (h1:PG X e t) (h2:PGs X es u)
  (hs:(assignEach (e::es) X.env).map (·.2)=assign e X.env::(assignEach es X.env).map (·.2):=by rfl):PGs X (e::es) (ZA3 t u):=by
 intro pins s σ H vs us Q I r h;obtain ⟨v,vr,e1,h⟩:=h;subst e1;cases r with
 | cons r rr=>
  rw [hs];refine assignInOrder_cons (thn (h1 pins s σ H _ _ _ I r h) λ_ s1 ⟨σ1,H1,I1,q1⟩=> ?_);exact h2 pins s1 σ1 H1 _ _ Q I1 rr q1
def gTup (K:PySem.W.Frag) (n:Nat) (t:TGs):TG:=λv σ H Q=>∃a xs,v=.ref a/\SqT K H a xs/\xs.length=n/\t xs σ H Q
theorem ZCP {es:List Expr} {k:Nat} {t:TGs} {n:Nat} (hc:X.calm=true) (h:PGs X es t)
  (hn:(assignEach es X.env).length=n:=by rfl) (hst:(assignEach es X.env).findIdx? (·.1)=none:=by rfl):PG X (.Tuple es k pos) (gTup X.K n t):=by
 intro pins s σ H v u Q I r hw;obtain ⟨a,xs,e1,hq,hl,hw⟩:=hw;subst e1;cases r;obtain ⟨its,rv,ht,hz⟩:=I.tuple hq;refine assign_Tuple_tuple (I.ok.hd hc) ht (by simp [hn,<-hl,rv.length]) hst λh' hx=> ?_
 have I1:Inv X pins σ H {s with heap:=h'}:=I.kept (t':=s.toks) λb o e=>hx b o (Nat.ne_of_lt (Heap.lt_size e)) e
 exact h pins _ σ H xs _ Q I1 (by simpa using rv) hw
def Sw (te:TE) (g:TG):TS:=λD σ H=>te σ H λx H1=>g x σ H1 D.nx
theorem ZCV {te:TE} {g:TG} (he:PE X e te) (hg:PG X tg g) (hs:swapsWithSole [tg] e pos.line X.env=pure false:=by rfl) (hw:swappedStores [tg] e X.env=pure none:=by rfl)
  (h1:(assignEach [tg] X.env).map (·.2)= [assign tg X.env]:=by rfl):PS X (.Assign [tg] e pos) (Sw te g):=by
 intro pins s σ H D I h;refine wpAny_Assign_stores (thn (he pins s σ H _ I h) λv s1 ⟨x,H1,I1,r1,q1⟩=> ?_) hs hw;rw [h1];exact thn (hg pins s1 σ H1 x v _ I1 r1 q1) λ_ s2 q=>q
theorem Zb {te:TE} {pos':Pos} (hN:X.N.Nodup) (hi:X.N[i]? =some x) (hx:Loc X.env.scope x) (he:PE X e te) (hs:swapsWith e (some (.Name x pos')) pos.line X.env=pure false:=by rfl) (hf:X.fn x=true∨X.env.scope.names.lookup x=some .local:=by first | exact .inl rfl | exact .inr rfl | assumption):
  PS X (.Assign [.Name x pos'] e pos) (Sw te (Vj i)):=by
 intro pins s σ H D I h;refine wpAny_Assign_Name (thn (he pins s σ H _ I h) λv s1 ⟨y,H1,I1,r1,q1⟩=> ?_) hs;exact Xg I1 hN hi hx r1 (λs2 I2=>⟨_,H1,I2,q1⟩) hf
end
section
variable {X:Cx} {pos:Pos}
end
structure It where
 go:Nat->Hp->Prop
 yld:Nat->Hp->V->Hp->Prop
 stop:Nat->Hp->Prop
def FpOk (X:Cx) (pins:List (Addr×Obj)) (H:Hp) (b:Addr):Prop:=
 H b=none/\b≠X.env.locals/\b ∉ X.fs/\(b∈X.ex∨X.s₀.heap.objs.size<=b)/\(∀x c,X.env.cells.lookup x=some c->c≠b)/\∀p∈X.pn++pins,p.1≠b
theorem Inv.Pj {H':Hp} (I:Inv X pins σ H s) (hb:s.heap.objs.size<=b) (hn:H' b=none):FpOk X pins H' b:=by
 refine ⟨hn,Nat.ne_of_gt (Nat.lt_of_lt_of_le I.lt hb),I.nofs hb,.inr (Nat.le_trans I.sz hb),λx c e z=> ?_,λp hp z=> ?_⟩
 ·obtain ⟨v,q⟩:=I.cell x c e;exact absurd (Nat.lt_of_lt_of_le q.lt (by rw [z];exact hb)) (Nat.lt_irrefl _)
 ·exact absurd (Nat.lt_of_lt_of_le (Heap.lt_size (I.pin p hp).1) (by rw [z];exact hb)) (Nat.lt_irrefl _)
structure Turn (P:Program) (w:World) (K:PySem.W.Frag) (tg:Expr) (J:It) (fp:List Addr) (it:Addr) (tn:Nat->Heap->Prop):Prop where
 mem:it∈fp
 obj:∀i h,tn i h->∀b∈fp,∃o,h.get? b=some o/\∀v,o.data≠ .cell v
 keep:∀i h h',tn i h->(∀b∈fp,∀o,h.get? b=some o->h'.get? b=some o)->tn i h'
 item:∀(X:Cx),X.prog=P->X.w=w->X.K=K->X.calm=true->∀(i:Nat) (pins:List (Addr×Obj)) (s:Shared) (σ:St) (H:Hp) (E:Value->Shared->Prop),Inv X pins σ H s->(∀b∈fp,FpOk X pins H b)->tn i s.heap->J.go i H->
  wpAny (model P w) X.A (pyNext (.ref it)) (λr s1=>∃u,r=some u/\
   wpAny (model P w) X.A (letOwnedTupleGo tg (.ref it) u) (λ_ s2=>∃x H',Inv X pins σ H' s2/\RelV x u/\J.yld i H x H'/\tn (i + 1) s2.heap/\∀b∈fp,H' b=none) E s1) E s
 done:∀(X:Cx),X.prog=P->X.w=w->X.K=K->X.calm=true->∀(i:Nat) (pins:List (Addr×Obj)) (s:Shared) (σ:St) (H:Hp) (E:Value->Shared->Prop),Inv X pins σ H s->(∀b∈fp,FpOk X pins H b)->tn i s.heap->J.stop i H->
  wpAny (model P w) X.A (pyNext (.ref it)) (λr s1=>r=none/\Inv X pins σ H s1) E s
 self:∀(A:Around) (i:Nat) (s:Shared) (Q:Value->Shared->Prop) (E:Value->Shared->Prop),tn i s.heap->Q (.ref it) s->wpAny (model P w) A (pyIter (.ref it)) Q E s
abbrev TI:=St->Hp->(It->Hp->Prop)->Prop
def PIE (X:Cx) (pins:List (Addr×Obj)) (σ:St) (tg:Expr) (R:It->Hp->Prop) (itv:Value) (s2:Shared):Prop:=
 ∃(it:Addr) (fp:List Addr) (tn:Nat->Heap->Prop) (J:It) (H':Hp),itv=.ref it/\Inv X pins σ H' s2/\Turn X.prog X.w X.K tg J fp it tn/\tn 0 s2.heap/\(∀b∈fp,FpOk X pins H' b)/\R J H'
def PI (X:Cx) (tg iter:Expr) (wi:TI):Prop:=
 ∀(pins:List (Addr×Obj)) (s:Shared) (σ:St) (H:Hp) (R:It->Hp->Prop),Inv X pins σ H s->wi σ H R->
  wpAny (model X.prog X.w) X.A (eval iter X.env) (λv s1=>wpAny (model X.prog X.w) X.A (pyIter v) (PIE X pins σ tg R) X.xe s1) X.xe s
theorem K1 {M:Model} {it:Addr} {o:Obj} {n:String} {vs:Array Value} (ho:s.heap.get? it=some o) (hc:o.cls=.type n) (hd:o.data=.fields vs)
  (hn: ["enumerate","zip","dict_itemiterator","dict_reverseitemiterator","odict_iterator","itertools.zip_longest","itertools.pairwise"].contains n=false) (hQ:Q () s):wpAny M A (letOwnedTupleGo tg (.ref it) u) Q E s:=by
 unfold letOwnedTupleGo
 cases tg <;> first
  | exact wpAny_pure hQ
  | (cases u <;> first
    | exact wpAny_pure hQ
    | (
      refine wpAny_bind (wpAny_load ho ?_);rw [hc,hd];show wpAny M A (if (["enumerate","zip","dict_itemiterator","dict_reverseitemiterator","odict_iterator","itertools.zip_longest","itertools.pairwise"].contains n && vs[0]? == some (rawInt _))=true then _ else _) Q E s;rw [if_neg (by intro h;rw [hn,Bool.false_and] at h;cases h)];exact wpAny_pure hQ))
def Itl (K:PySem.W.Frag) (a:Addr):It:=
 ⟨λi H=>∃xs x,SqL K H a xs/\xs[i]? =some x,λi H x H'=>H'=H/\∀xs,SqL K H a xs->xs[i]? =some x,λi H=>∃xs,SqL K H a xs/\xs.length<=i⟩
def Itt (K:PySem.W.Frag) (a:Addr):It:=
 ⟨λi H=>∃xs x,SqT K H a xs/\xs[i]? =some x,λi H x H'=>H'=H/\∀xs,SqT K H a xs->xs[i]? =some x,λi H=>∃xs,SqT K H a xs/\xs.length<=i⟩
def Itr (lo:Int) (n:Nat):It:=⟨λi _=>i < n,λi H x H'=>H'=H/\x=.int (lo + i),λi _=>n<=i⟩
theorem ZBi (a it:Addr):Turn P w K tg (Itl K a) [it] it (λi h=>h.IsListIter it a i) where
 mem:=by simp
 obj:=λi h st b hb=>by
  have e:b=it:=by simpa using hb
  subst e;obtain ⟨o,e,c,d⟩:=st;exact ⟨o,e,λv z=>by rw [d] at z;cases z⟩
 keep:=λi h h' st k=>st.at λo e=>k it (by simp) o e
 item:=by
  intro X hP hw hK hc i pins s σ H E I hf st hg;subst hP hw hK;obtain ⟨xs,x,hq,hx⟩:=hg;obtain ⟨its,rv,p,hz⟩:=I.list hq;obtain ⟨u,hu,ru⟩:=rv.get hx;obtain ⟨f0,f1,f2,f3,f4,f5⟩:=hf it (by simp);refine wpAny_pyNext_list_item st p.isList (x:=u) (by simpa using hu) λh' st' sb=> ?_
  have I1:Inv X pins σ H {s with heap:=h'}:=I.turned (t':=s.toks) (λb o hb e=>(sb.2 b hb).trans e) f0 f1 f3 f4 f5;obtain ⟨o,e,c,d⟩:=id st';exact ⟨u,rfl,K1 (s:={s with heap:=h'}) e c d (by decide) ⟨x,H,I1,ru,⟨rfl,λys hy=>by rw [I.Ud hy hq];exact hx⟩,st',λb hb=>(hf b hb).1⟩⟩
 done:=by intro X hP hw hK hc i pins s σ H E I hf st hg;subst hP hw hK;obtain ⟨xs,hq,hx⟩:=hg;obtain ⟨its,rv,p,hz⟩:=I.list hq;obtain ⟨f0,f1,f2,f3,f4,f5⟩:=hf it (by simp);have hl:=rv.length;exact wpAny_pyNext_list_end (I.ok.hd hc) st p.isList (by simp;omega) λh' eb=>⟨rfl,I.turned (t':=s.toks) (λb o hb e=>eb b o hb e) f0 f1 f3 f4 f5⟩
 self:=λ_ _ _ _ _ st h=>wpAny_pyIter_listiter st h
theorem ZCf (a it:Addr):Turn P w K tg (Itt K a) [it] it (λi h=>h.IsTupleIter it a i) where
 mem:=by simp
 obj:=λi h st b hb=>by
  have e:b=it:=by simpa using hb
  subst e;obtain ⟨o,e,c,d⟩:=st;exact ⟨o,e,λv z=>by rw [d] at z;cases z⟩
 keep:=λi h h' st k=>st.at λo e=>k it (by simp) o e
 item:=by
  intro X hP hw hK hc i pins s σ H E I hf st hg;subst hP hw hK;obtain ⟨xs,x,hq,hx⟩:=hg;obtain ⟨its,rv,p,hz⟩:=I.tuple hq;obtain ⟨u,hu,ru⟩:=rv.get hx;obtain ⟨f0,f1,f2,f3,f4,f5⟩:=hf it (by simp)
  refine wpAny_pyNext_tuple_item st (show s.heap.IsTuple a its.toArray from p) (x:=u) (by simpa using hu) λh' st' sb=> ?_
  have I1:Inv X pins σ H {s with heap:=h'}:=I.turned (t':=s.toks) (λb o hb e=>(sb.2 b hb).trans e) f0 f1 f3 f4 f5;obtain ⟨o,e,c,d⟩:=id st';exact ⟨u,rfl,K1 (s:={s with heap:=h'}) e c d (by decide) ⟨x,H,I1,ru,⟨rfl,λys hy=>by rw [I.Td hy hq];exact hx⟩,st',λb hb=>(hf b hb).1⟩⟩
 done:=by
  intro X hP hw hK hc i pins s σ H E I hf st hg;subst hP hw hK;obtain ⟨xs,hq,hx⟩:=hg;obtain ⟨its,rv,p,hz⟩:=I.tuple hq;obtain ⟨f0,f1,f2,f3,f4,f5⟩:=hf it (by simp);have hl:=rv.length
  exact wpAny_pyNext_tuple_end (I.ok.hd hc) st (show s.heap.IsTuple a its.toArray from p) (by simp;omega) λh' eb=>⟨rfl,I.turned (t':=s.toks) (λb o hb e=>eb b o hb e) f0 f1 f3 f4 f5⟩
 self:=λ_ _ _ _ _ st h=>wpAny_pyIter_tupleiter st h
theorem ZCT (it:Addr) (lo:Int) (n:Nat):Turn P w K tg (Itr lo n) [it] it (λi h=>IsRangeIter h it (lo + (i:Nat) * 1) ((n:Int) - (i:Nat)) 1) where
 mem:=by simp
 obj:=λi h st b hb=>by
  have e:b=it:=by simpa using hb
  subst e;exact ⟨_,st,λv z=>by have z':Data.fields _=Data.cell v:=z;cases z'⟩
 keep:=λi h h' st k=>k it (by simp) _ st
 item:=by
  intro X hP hw hK hc i pins s σ H E I hf st hg;subst hP hw hK;obtain ⟨f0,f1,f2,f3,f4,f5⟩:=hf it (by simp);have W:=Walks.range (prog:=X.prog) (w:=X.w) (I.ok.hd hc) it lo 1 n;refine W.item i s _ _ hg st λv h' tk hv st' kk=> ?_
  obtain ⟨t,rfl⟩:=hv;have I1:Inv X pins σ H {s with heap:=h',toks:=tk}:=I.turned (λb o hb e=>kk b o (by simpa using hb) e) f0 f1 f3 f4 f5;refine ⟨_,rfl,K1 (s:={s with heap:=h',toks:=tk}) (n:="range_iterator") st' rfl rfl (by decide) ⟨.int (lo + i),H,I1,⟨t,?_⟩,⟨rfl,rfl⟩,st',λb hb=>(hf b hb).1⟩⟩;rw [Int.mul_one]
 done:=by intro X hP hw hK hc i pins s σ H E I hf st hg;subst hP hw hK;obtain ⟨f0,f1,f2,f3,f4,f5⟩:=hf it (by simp);exact wpAny_pyNext_range_end (I.ok.hd hc) st (by have:n<=i:=hg;omega) λh' eb=>⟨rfl,I.turned (t':=s.toks) (λb o hb e=>eb b o hb e) f0 f1 f3 f4 f5⟩
 self:=λ_ _ _ _ _ st h=>wpAny_pyIter_rangeiter st h
section
variable {X:Cx} {tg:Expr}
def ZDn (K:PySem.W.Frag) (tl:TE):TI:=λσ H R=>tl σ H λx H1=>∃a,x=.ref a/\(∃xs,SqL K H1 a xs)/\R (Itl K a) H1
def iTup (K:PySem.W.Frag) (tl:TE):TI:=λσ H R=>tl σ H λx H1=>∃a,x=.ref a/\(∃xs,SqT K H1 a xs)/\R (Itt K a) H1
theorem T5 {l:Expr} {tl:TE} (hl:PE X l tl):PI X tg l (ZDn X.K tl):=by
 intro pins s σ H R I h;refine thn (hl pins s σ H _ I h) λv s1 ⟨x,H1,I1,r1,q1⟩=> ?_
 obtain ⟨a,e,⟨xs,hq⟩,q⟩:=q1;subst e;cases r1;obtain ⟨its,rv,p,hz⟩:=I1.list hq;refine wpAny_pyIter_list p.isList ?_;refine ⟨s1.heap.objs.size,[s1.heap.objs.size],_,_,H1,rfl,I1.kept (t':=s1.toks) λb o e=>Heap.get?_push_of_some _ e,ZBi a _,⟨_,Heap.get?_push_size _ rfl,rfl,rfl⟩,λb hb=> ?_,q⟩;have e:b=s1.heap.objs.size:=by simpa using hb
 subst e;exact I1.Pj (Nat.le_refl _) (I1.hok.fresh (Nat.le_refl _))
theorem ZEB {l:Expr} {tl:TE} (hl:PE X l tl):PI X tg l (iTup X.K tl):=by
 intro pins s σ H R I h;refine thn (hl pins s σ H _ I h) λv s1 ⟨x,H1,I1,r1,q1⟩=> ?_
 obtain ⟨a,e,⟨xs,hq⟩,q⟩:=q1;subst e;cases r1;obtain ⟨its,rv,p,hz⟩:=I1.tuple hq
 refine wpAny_pyIter_tuple (show s1.heap.IsTuple a its.toArray from p) ?_
 refine ⟨s1.heap.objs.size,[s1.heap.objs.size],_,_,H1,rfl,I1.kept (t':=s1.toks) λb o e=>Heap.get?_push_of_some _ e,ZCf a _,⟨_,Heap.get?_push_size _ rfl,rfl,rfl⟩,λb hb=> ?_,q⟩;have e:b=s1.heap.objs.size:=by simpa using hb
 subst e;exact I1.Pj (Nat.le_refl _) (I1.hok.fresh (Nat.le_refl _))
theorem ZCQ {R:It->Hp->Prop} {lo hi:Int} {t u v:Tok} {tk:Nat} (I:Inv X pins σ H s) (h1: -(2 ^ 62)<=lo) (h2:lo < 2 ^ 62) (h3: -(2 ^ 62)<=hi) (h4:hi < 2 ^ 62)
  (q:R (Itr lo (hi - lo).toNat) H):wpAny (model X.prog X.w) X.A (pyIter (.ref s.heap.objs.size)) (PIE X pins σ tg R) E {s with heap:=s.heap.push {cls:=.type "range",data:=.fields #[.int lo t,.int hi u,.int 1 v]},toks:=tk}:=by
 refine wpAny_pyIter_range (IsRange.new ..) (small_one h1 h2 h3 h4) ?_;have I1:Inv X pins σ H {s with heap:=s.heap.push {cls:=.type "range",data:=.fields #[.int lo t,.int hi u,.int 1 v]},toks:=tk}:=I.kept λb o e=>Heap.get?_push_of_some _ e
 refine ⟨(s.heap.push {cls:=.type "range",data:=.fields #[.int lo t,.int hi u,.int 1 v]}).objs.size,[(s.heap.push {cls:=.type "range",data:=.fields #[.int lo t,.int hi u,.int 1 v]}).objs.size],_,_,H,rfl,
  I1.kept (t':=tk) λb o e=>Heap.get?_push_of_some _ e,ZCT _ lo (hi - lo).toNat,?_,λb hb=> ?_,q⟩
 ·have e1:lo + ((0:Nat):Int) * 1=lo:=by simp
  have e2:(((hi - lo).toNat:Nat):Int) - ((0:Nat):Int)=Builtin.Range.rangeSize lo hi 1:=by rw [rangeSize_one];split <;> omega
  show IsRangeIter _ _ (lo + ((0:Nat):Int) * 1) ((((hi - lo).toNat:Nat):Int) - ((0:Nat):Int)) 1;rw [e1,e2];exact Heap.get?_push_size _ rfl
 ·have e:b=(s.heap.push {cls:=.type "range",data:=.fields #[.int lo t,.int hi u,.int 1 v]}).objs.size:=by simpa using hb
  subst e;exact I1.Pj (Nat.le_refl _) (I1.hok.fresh (Nat.le_refl _))
def Z0 (ta:TA):TI:=λσ H R=>ta σ H λvs H1=>∃j:Int,vs= [.int j]/\ -(2 ^ 62)<=j/\j < 2 ^ 62/\R (Itr 0 j.toNat) H1
theorem Z3 {a:Expr} {ta:TA} {p pos:Pos} (hg:Gl X "range") (hm:X.mg "range"=none) (ha:PA X [a] ta) (hs:starEach [a] X.env= [(false,eval a X.env)]:=by rfl):PI X tg (.Call (.Name "range" p) [a] [] pos) (Z0 ta):=by
 intro pins s σ H R I h;refine Call_ (Pa I hg hm boot_range (PyProof.Rows.callWith_type1 (thn (ha pos pins s σ H _ I h) λus s1 ⟨vs,H1,I1,r1,q1⟩=> ?_) hs rfl));obtain ⟨j,e,q1,q2,q⟩:=q1;subst e;cases r1 with
 | cons r rr=>
  cases rr;obtain ⟨t,rfl⟩:=r;exact call_range_1 (ZCQ I1 (by omega) (by omega) q1 q2 (by simpa using q))
def tFor (wi:TI) (g:TG) (tb:TS):TS:=λD σ H=>wi σ H λJ H1=>∃W:Nat->Nat->St->Hp->Prop,(∃m,W 0 m σ H1)/\∀i m σ H,W i m σ H->
 (J.stop i H/\D.nx σ H)∨(J.go i H/\∃N:St->Hp->Prop,(∀σ' H',N σ' H'->∃m',m' < m/\W (i + 1) m' σ' H')/\∀x H',J.yld i H x H'->g x σ H' λσ2 H2=>tb {D with nx:=N,ct:=N,bk:=D.nx} σ2 H2)
def Iw (fp:List Addr) (h:Heap):List (Addr×Obj):=fp.filterMap λb=>(h.get? b).map λo=>(b,o)
theorem Lz {o:Obj} (hb:b∈fp) (e:h.get? b=some o):(b,o)∈Iw fp h:=List.mem_filterMap.mpr ⟨b,hb,by rw [e];rfl⟩
theorem Wo {p:Addr×Obj} (hp:p∈Iw fp h):p.1∈fp/\h.get? p.1=some p.2:=by
 obtain ⟨b,hb,e⟩:=List.mem_filterMap.mp hp;cases q:h.get? b with
 | none=>rw [q] at e;cases e
 | some o=>
  rw [q] at e;have e':(b,o)=p:=Option.some.inj e;subst e';exact ⟨hb,q⟩
theorem Inv.pinned (I:Inv X pins σ H s) (hf:∀b∈fp,FpOk X pins H b) (ho:∀b∈fp,∃o,s.heap.get? b=some o/\∀v,o.data≠ .cell v):Inv X (pins++Iw fp s.heap) σ H s:=
 I.Dr λp hp=>(List.mem_append.mp hp).elim (λz=>I.pin p (List.mem_append_right _ z)) λz=>by obtain ⟨hb,e⟩:=Wo z;obtain ⟨f0,f1,f2,_⟩:=hf p.1 hb;obtain ⟨o,e',d⟩:=ho p.1 hb;rw [e] at e';cases e';exact ⟨e,f0,f1,f2,d⟩
theorem Inv.unpinned {pl:List (Addr×Obj)} (I:Inv X (pins++pl) σ H s):Inv X pins σ H s:=I.Dr λp hp=>I.pin p (List.mem_append_right _ (List.mem_append_left _ hp))
theorem ZDJ {iter:Expr} {body:List Stmt} {wi:TI} {g:TG} {tb:TS} {pos:Pos} (hp:PassesOwn (model X.prog X.w) X.A X.env X.xe) (hc:X.calm=true) (hi:PI X tg iter wi) (hg:PG X tg g) (hb:PSs X body tb)
  (hs:∀x,foldedSetIterable iter X.env x=pure x:=by intro _;rfl):PS X (.For tg iter body [] pos) (tFor wi g tb):=by
 intro pins s σ H D I h;refine wpAny_For (thn (hi pins s σ H _ I h) λv s1 h1=>thn h1 λitv s2 h2=> ?_) hs;obtain ⟨it,fp,tn,J,H2,e,I2,T,st2,f2,W,⟨m0,w0⟩,turn⟩:=h2;subst e;have stat:∀{H':Hp},(∀b∈fp,H' b=none)->∀b∈fp,FpOk X pins H' b:=λhn b hb=>⟨hn b hb,(f2 b hb).2⟩
 refine codeAny_forLoop_any (λn s'=>∃i σ' H',Inv X pins σ' H' s'/\tn i s'.heap/\(∀b∈fp,H' b=none)/\W i n σ' H') ?_ m0 ⟨0,σ,H2,I2,st2,λb hb=>(f2 b hb).1,w0⟩;rintro n s3 ⟨i,σ3,H3,I3,st3,fr3,w3⟩;rcases turn i n σ3 H3 w3 with ⟨stop,qn⟩ | ⟨go,N,hN,step⟩
 ·refine wpAny_passesOwn hp (thn (T.done X rfl rfl rfl hc i pins s3 σ3 H3 X.xe I3 (stat fr3) st3 stop) λr s4 ⟨hr,I4⟩=> ?_);subst hr;exact wpAny_execs_nil ⟨σ3,H3,I4,qn⟩
 ·refine wpAny_passesOwn hp (thn (T.item X rfl rfl rfl hc i pins s3 σ3 H3 X.xe I3 (stat fr3) st3 go) λr s4 ⟨u,hr,h4⟩=> ?_);subst hr;refine wpAny_passesOwn hp (thn h4 λ_ s5 ⟨x,H5,I5,r5,y5,st5,fr5⟩=> ?_);have I5':=I5.pinned (stat fr5) (T.obj _ _ st5);refine wpAny_passesOwn hp (thn (hg _ s5 σ3 H5 x u _ I5' r5 (step x H5 y5)) λ_ s6 ⟨σ6,H6,I6,q6⟩=> ?_);refine wpAny_passesOwn hp (thn (hb _ s6 σ6 H6 _ I6 q6) λf s7 q7=> ?_)
  have again:∀{σ7:St} {H7:Hp},Inv X (pins++Iw fp s5.heap) σ7 H7 s7->N σ7 H7->∃m,m < n/\∃i σ' H',Inv X pins σ' H' s7/\tn i s7.heap/\(∀b∈fp,H' b=none)/\W i m σ' H':=λ{σ7 H7} I7 n7=>by obtain ⟨m',hm,w7⟩:=hN σ7 H7 n7;refine ⟨m',hm,i + 1,σ7,H7,I7.unpinned,T.keep _ _ _ st5 λb hb o e=>(I7.pin (b,o) (List.mem_append_right _ (List.mem_append_right _ (Lz hb e)))).1,λb hb=> ?_,w7⟩;obtain ⟨o,e,d⟩:=T.obj _ _ st5 b hb;exact (I7.pin (b,o) (List.mem_append_right _ (List.mem_append_right _ (Lz hb e)))).2.1
  cases f with
  | next=>obtain ⟨σ7,H7,I7,n7⟩:=q7;exact again I7 n7
  | cont=>obtain ⟨σ7,H7,I7,n7⟩:=q7;exact again I7 n7
  | brk=>obtain ⟨σ7,H7,I7,q7⟩:=q7;exact ⟨σ7,H7,I7.unpinned,q7⟩
  | ret v=>obtain ⟨x7,σ7,H7,I7,r7,q7⟩:=q7;exact ⟨x7,σ7,H7,I7.unpinned,r7,q7⟩
end
abbrev R2:=V->V->Hp->VK->Prop
variable {r:R2}
def OpR (X:Cx) (f:Value->Value->Sem Value) (r:R2):Prop:=
 ∀(pins:List (Addr×Obj)) (s:Shared) (σ:St) (H:Hp) (x y:V) (v u:Value) (Q:VK),Inv X pins σ H s->RelV x v->RelV y u->r x y H Q->
  wpAny (model X.prog X.w) X.A (f v u) (EP X pins σ Q) X.xe s
def CallR (X:Cx) (f:Value) (r:List V->Hp->VK->Prop):Prop:=
 ∀(pins:List (Addr×Obj)) (s:Shared) (σ:St) (H:Hp) (xs:List V) (us:List Value) (Q:VK),Inv X pins σ H s->Vals xs us->r xs H Q->
  wpAny (model X.prog X.w) X.A (call f us) (EP X pins σ Q) X.xe s
def tOp (r:R2) (ta tb:TE):TE:=λσ H Q=>ta σ H λx H1=>tb σ H1 λy H2=>r x y H2 Q
def rI (C:Int->Int->Prop) (g:Int->Int->V):R2:=λx y H Q=>∃i j,x=.int i/\y=.int j/\C i j/\Q (g i j) H
def rI0 (g:Int->Int->V):R2:=λx y H Q=>∃i j,x=.int i/\y=.int j/\Q (g i j) H
section
variable {X:Cx} {a b c:Expr} {ta tb tc:TE} {pos:Pos}
theorem Sd (ha:PE X a ta) (hb:PE X b tb) {R:V->V->Hp->Prop} (I:Inv X pins σ H s)
  (h:ta σ H λx H1=>tb σ H1 λy H2=>R x y H2) {Q:Value->Shared->Prop} {f:Value->Value->Sem Value}
  (hf:∀v u s2 x y H2,Inv X pins σ H2 s2->RelV x v->RelV y u->R x y H2->wpAny (model X.prog X.w) X.A (f v u) Q X.xe s2):
  wpAny (model X.prog X.w) X.A (eval a X.env) (λv s₁=>wpAny (model X.prog X.w) X.A (eval b X.env) (λu s₂=>wpAny (model X.prog X.w) X.A (f v u) Q X.xe s₂) X.xe s₁) X.xe s:=by
 refine thn (ha pins s σ H _ I h) λv s1 ⟨x,H1,I1,r1,q1⟩=> ?_
 refine thn (hb pins s1 σ H1 _ I1 q1) λu s2 ⟨y,H2,I2,r2,q2⟩=> ?_
 exact hf v u s2 x y H2 I2 r1 r2 q2
theorem Z2 {op:Operator} (ho:OpR X (binaryOp op) r) (ha:PE X a ta) (hb:PE X b tb):PE X (.BinOp a op b pos) (tOp r ta tb):=by intro pins s σ H Q I h;exact wpAny_BinOp (Sd ha hb I h λv u s2 x y H2 I2 rx ry q=>ho pins s2 σ H2 x y v u Q I2 rx ry q)
theorem opI {f:Value->Value->Sem Value} {C:Int->Int->Prop} {g:Int->Int->Int}
  (rule:∀(i j:Int) (t u:Tok) (s:Shared) (Q:Value->Shared->Prop) (E:Value->Shared->Prop),C i j->Q (.int (g i j) s.toks) {s with toks:=s.toks + 1}->wpAny (model X.prog X.w) X.A (f (.int i t) (.int j u)) Q E s):
  OpR X f (rI C λi j=>.int (g i j)):=by
 intro pins s σ H x y v u Q I rx ry h;obtain ⟨i,j,rfl,rfl,hc,q⟩:=h;obtain ⟨t,rfl⟩:=rx;obtain ⟨t',rfl⟩:=ry;exact rule i j t t' s _ _ hc ⟨.int (g i j),H,I.tok _,⟨_,rfl⟩,q⟩
theorem opI0 {f:Value->Value->Sem Value} {g:Int->Int->Int}
  (rule:∀(i j:Int) (t u:Tok) (s:Shared) (Q:Value->Shared->Prop) (E:Value->Shared->Prop),Q (.int (g i j) s.toks) {s with toks:=s.toks + 1}->wpAny (model X.prog X.w) X.A (f (.int i t) (.int j u)) Q E s):
  OpR X f (rI0 λi j=>.int (g i j)):=by
 intro pins s σ H x y v u Q I rx ry h;obtain ⟨i,j,rfl,rfl,q⟩:=h;obtain ⟨t,rfl⟩:=rx;obtain ⟨t',rfl⟩:=ry;exact rule i j t t' s _ _ ⟨.int (g i j),H,I.tok _,⟨_,rfl⟩,q⟩
theorem Nt {f:Value->Value->Sem Value} {g:Int->Int->Bool}
  (rule:∀(i j:Int) (t u:Tok) (s:Shared) (Q:Value->Shared->Prop) (E:Value->Shared->Prop),Q (.bool (g i j)) s->wpAny (model X.prog X.w) X.A (f (.int i t) (.int j u)) Q E s):
  OpR X f (rI0 λi j=>.bl (g i j)):=by
 intro pins s σ H x y v u Q I rx ry h;obtain ⟨i,j,rfl,rfl,q⟩:=h;obtain ⟨t,rfl⟩:=rx;obtain ⟨t',rfl⟩:=ry;exact rule i j t t' s _ _ ⟨.bl (g i j),H,I,rfl,q⟩
def CPow (i j:Int):Prop:=0<=j/\j<=1000000/\i.natAbs < 2 ^ 64
def CMul (i j:Int):Prop:=(-(2 ^ 64) < i/\i < 2 ^ 64)∨(-(2 ^ 64) < j/\j < 2 ^ 64)
theorem CMul.ok {i j:Int} (h:CMul i j):IntMulOk i j:=by
 rcases h with ⟨h1,h2⟩ | ⟨h1,h2⟩
 ·exact .of_left (intBits_le_64 h1 h2)
 ·exact .of_right (intBits_le_64 h1 h2)
theorem Z8:OpR X (binaryOp .Add) (rI0 λi j=>.int (i + j)):=opI0 λ_ _ _ _ _ _ _ q=>add_int q
theorem ZAN:OpR X (binaryOp .Sub) (rI0 λi j=>.int (i - j)):=opI0 λ_ _ _ _ _ _ _ q=>sub_int q
theorem ZDy:OpR X (binaryOp .Mod) (rI (λ_ j=>0 < j) λi j=>.int (i % j)):=opI λi j _ _ _ _ _ hc q=>by have h1:(0:Int) < j:=hc;exact mod_int' (by omega) (by rw [Int.fmod_eq_emod_of_nonneg i (by omega)];exact q)
theorem ZAZ:OpR X (binaryOp .Pow) (rI CPow λi j=>.int (i ^ j.toNat)):=opI λ_ _ _ _ _ _ _ hc q=>pow_int_small hc.1 hc.2.1 hc.2.2 q
end
section
variable {X:Cx} {a b c:Expr} {ta tb tc:TE} {pos:Pos}
theorem Qi {Q:VK} {k k':Bool} (I:Inv X pins σ H s) (q:Q (.bl k) H) (e:k=k'):EP X pins σ Q (.bool k') s:=by subst e;exact ⟨.bl k,H,I,rfl,q⟩
theorem ZCF:OpR X (compareOp .Lt) (rI0 λi j=>.bl (decide (i < j))):=Nt λ_ _ _ _ _ _ _ q=>lt_int q
theorem ZAC:OpR X (compareOp .LtE) (rI0 λi j=>.bl (decide (i<=j))):=Nt λ_ _ _ _ _ _ _ q=>le_int q
theorem ZBG:OpR X (compareOp .Gt) (rI0 λi j=>.bl (decide (j < i))):=Nt λ_ _ _ _ _ _ _ q=>gt_int q
theorem ZCy:OpR X (compareOp .GtE) (rI0 λi j=>.bl (decide (j<=i))):=Nt λ_ _ _ _ _ _ _ q=>ge_int q
theorem ZBP:OpR X (compareOp .Lt) (λx y H Q=>∃i j,x=.str i/\y=.str j/\Q (.bl (decide (i.cps.toList < j.cps.toList))) H):=by intro pins s σ H x y v u Q I rx ry h;obtain ⟨i,j,rfl,rfl,q⟩:=h;obtain ⟨t,rfl⟩:=rx;obtain ⟨t',rfl⟩:=ry;exact lt_str (Qi I q rfl)
theorem ZCo:OpR X (compareOp .In) (λx y H Q=>∃i j,x=.str i/\y=.str j/\Q (.bl (!(Builtin.Str.occurrences j i 0 j.length 1).isEmpty)) H):=by intro pins s σ H x y v u Q I rx ry h;obtain ⟨i,j,rfl,rfl,q⟩:=h;obtain ⟨t,rfl⟩:=rx;obtain ⟨t',rfl⟩:=ry;exact in_str (Qi I q rfl)
theorem ZAF:OpR X (compareOp .NotIn) (λx y H Q=>∃i j,x=.str i/\y=.str j/\Q (.bl (!(!(Builtin.Str.occurrences j i 0 j.length 1).isEmpty))) H):=by intro pins s σ H x y v u Q I rx ry h;obtain ⟨i,j,rfl,rfl,q⟩:=h;obtain ⟨t,rfl⟩:=rx;obtain ⟨t',rfl⟩:=ry;exact notIn_str (Qi I q rfl)
theorem OpR.or {f:Value->Value->Sem Value} {r':R2} (h:OpR X f r) (h':OpR X f r'):OpR X f (λx y H Q=>r x y H Q∨r' x y H Q):=by
 intro pins s σ H x y v u Q I rx ry q;rcases q with q | q
 ·exact h pins s σ H x y v u Q I rx ry q
 ·exact h' pins s σ H x y v u Q I rx ry q
theorem nomark (b:Expr) (h:op≠ .In:=by decide) (h2:op≠ .NotIn:=by decide):behindInMarks op b=false:=by
 have e1:(op == CmpOp.In)=false:=by cases op <;> first | rfl | exact absurd rfl h
 have e2:(op == CmpOp.NotIn)=false:=by cases op <;> first | rfl | exact absurd rfl h2
 cases b <;> simp [behindInMarks,e1,e2]
theorem ZCJ (ho:OpR X (compareOp op) r) (ha:PE X a ta) (hb:PE X b tb) (hm:behindInMarks op b=false):PE X (.Compare a [op] [b] pos) (tOp r ta tb):=by intro pins s σ H Q I h;exact wpAny_Compare1 (Sd ha hb I h λv u s2 x y H2 I2 rx ry q=>ho pins s2 σ H2 x y v u Q I2 rx ry q) hm
def Jr (t:TE):TT:=λσ H Q=>t σ H λx H'=>∃k,x=.bl k/\Q k H'
theorem ZB1 (ho:OpR X (compareOp op) r) (ha:PE X a ta) (hb:PE X b tb) (hm:behindInMarks op b=false):PT X (.Compare a [op] [b] pos) (Jr (tOp r ta tb)):=by
 intro pins s σ H Q I h;refine wpAny_isTrue_Compare1 (thn (ha pins s σ H _ I h) λv s1 ⟨x,H1,I1,r1,q1⟩=>thn (hb pins s1 σ H1 _ I1 q1) λu s2 ⟨y,H2,I2,r2,q2⟩=>
  thn (ho pins s2 σ H2 x y v u _ I2 r1 r2 q2) λc s3 ⟨z,H3,I3,r3,k,e,q3⟩=> ?_) hm
 subst e;cases r3;exact wpAny_truthy_bool ⟨H3,I3,q3⟩
def Wy (r r':R2) (ta tb tc:TE):TE:=λσ H Q=>ta σ H λx H1=>tb σ H1 λy H2=>r x y H2 λz H3=>∃k,z=.bl k/\
 (if k=true then tc σ H3 λw' H4=>r' y w' H4 Q else Q (.bl false) H3)
theorem ZBC {op':CmpOp} {r':R2} (ho:OpR X (compareOp op) r) (ho':OpR X (compareOp op') r') (ha:PE X a ta) (hb:PE X b tb) (hc:PE X c tc)
  (hm:lastMarks [op,op'] [b,c]=false:=by with_unfolding_all rfl):PT X (.Compare a [op,op'] [b,c] pos) (Jr (Wy r r' ta tb tc)):=by
 intro pins s σ H Q I h;refine isTrue_chain (thn (ha pins s σ H _ I h) λv s1 ⟨x,H1,I1,r1,q1⟩=>test_link (thn (hb pins s1 σ H1 _ I1 q1) λu s2 ⟨y,H2,I2,r2,q2⟩=>
  thn (ho pins s2 σ H2 x y v u _ I2 r1 r2 q2) λd s3 ⟨z,H3,I3,r3,k,e,q3⟩=> ?_)) hm
 subst e;cases r3;refine wpAny_truthy_bool ?_;cases k with
 | false=>
  obtain ⟨k',e',q'⟩:=q3;cases e';exact ite_ff ⟨H3,I3,q'⟩
 | true=>
  refine ite_tt (test_last (thn (hc pins s3 σ H3 _ I3 q3) λw' s4 ⟨z',H4,I4,r4,q4⟩=>thn (ho' pins s4 σ H4 y z' u w' _ I4 r2 r4 q4) λd' s5 ⟨z2,H5,I5,r5,k2,e2,q5⟩=> ?_));subst e2;cases r5;exact wpAny_truthy_bool ⟨H5,I5,q5⟩
theorem line63:(sizeLine:Nat) < 2 ^ 63:=by rw [sizeLine_eq];decide
theorem Ze:OpR X (binaryOp .Add) (λx y H Q=>∃i j,x=.str i/\y=.str j/\i.length + j.length<=sizeLine/\Q (.str (i++j)) H):=by intro pins s σ H x y v u Q I rx ry h;obtain ⟨i,j,rfl,rfl,hz,q⟩:=h;obtain ⟨t,rfl⟩:=rx;obtain ⟨t',rfl⟩:=ry;exact add_str (λt' tk=>⟨.str (i++j),H,I.tok _,⟨_,rfl⟩,q⟩) hz
theorem vals1 {x:V} (r:Vals [x] us):∃u,us= [u]/\RelV x u:=by
 cases r with
 | cons r1 r2=>cases r2;exact ⟨_,rfl,r1⟩
theorem vals2 {x y:V} (r:Vals [x,y] us):∃u w',us= [u,w']/\RelV x u/\RelV y w':=by
 cases r with
 | cons r1 r2=>
  cases r2 with
  | cons r3 r4=>cases r4;exact ⟨_,_,rfl,r1,r3⟩
theorem ZDZ (hc:X.calm=true):CallR X (.builtin "max") (λxs H Q=>∃i j,xs= [.int i,.int j]/\Q (.int (if j > i then j else i)) H):=by
 intro pins s σ H xs us Q I r h;obtain ⟨i,j,rfl,q⟩:=h;obtain ⟨u,w',rfl,⟨t,rfl⟩,⟨t',rfl⟩⟩:=vals2 r;refine max_two_ints (I.ok.hd hc) λh' tk k=>⟨_,H,I.kept k,?_,q⟩
 by_cases hj:j > i
 ·rw [if_pos hj,if_pos hj];exact ⟨_,rfl⟩
 ·rw [if_neg hj,if_neg hj];exact ⟨_,rfl⟩
theorem ZDM:CallR X (.type "int") (λxs H Q=>(∃i,xs= [.int i]/\Q (.int i) H)∨∃k,xs= [.bl k]/\Q (.int (if k then 1 else 0)) H):=by
 intro pins s σ H xs us Q I r h;rcases h with ⟨i,rfl,q⟩ | ⟨k,rfl,q⟩
 ·obtain ⟨u,rfl,t,rfl⟩:=vals1 r;exact call_int_int ⟨.int i,H,I,⟨_,rfl⟩,q⟩
 ·obtain ⟨u,rfl,r1⟩:=vals1 r;cases r1;exact call_int_bool ⟨.int (if k then 1 else 0),H,I.tok _,⟨_,rfl⟩,q⟩
theorem ZCs:CallR X (.type "str") (λxs H Q=>∃i,xs= [.int i]/\i.natAbs.log2 < 1920/\Q (.str (toString i)) H):=by intro pins s σ H xs us Q I r h;obtain ⟨i,rfl,hz,q⟩:=h;obtain ⟨u,rfl,t,rfl⟩:=vals1 r;exact PySem.P.str_of_int hz ⟨.str _,H,I.tok _,⟨_,rfl⟩,q⟩
end
structure ObjM (h:Heap) (x dx C:Addr) (mA:Str->Option Value):Prop where
 obj:h.get? x=some (PySem.W.instObj C dx)
 ns:h.Ns1 dx mA
 ne:dx≠x
section
variable {prog:Program} {w:World} {A:Around} {E:Value->Shared->Prop} {s:Shared} {K:PySem.W.Frag} {x dx C f:Addr} {mA:Str->Option Value} {name:Str} {v:Value}
end
def Rq (f:Str) (v:V):List (Str×V)->List (Str×V)
 | []=> [(f,v)]
 | (g,x)::r=>if g=f then (g,v)::r else (g,x)::Rq f v r
section
variable {P:Program} {w:World} {H H':Hp} {h h':Heap} {a C dx:Addr} {fs fs':List (Str×V)}
end
structure Cls (K:PySem.W.Frag) (C:Addr):Prop where
 pg:PySem.W.plainGet K C Str.empty=true
 hd:PySem.W.hasDictIn K C=true
 po:PySem.W.plainOver K C=true
 sa:PySem.W.findIn K (.ref C) "__setattr__"=some (some (.builtin "object.__setattr__"))
theorem Cls.get {C:Addr} (c:Cls K C) (f:Str):PySem.W.plainGet K C f=true:=c.pg
structure Con (K:PySem.W.Frag) (C:Addr) (f:Str) (v:V) (u:Value):Prop where
 at_:PySem.W.findIn K (.ref C) f=some (some u)
 rel:RelV v u
 get:PySem.W.specialIn K u "__get__"=some none
 cp:PySem.W.copiedNames.contains f=false
structure Meth (K:PySem.W.Frag) (C:Addr) (m:Str) (f:Addr):Prop where
 at_:PySem.W.findIn K (.ref C) m=some (some (.ref f))
 fn:PySem.W.isFn K (.ref f)=true
 kp:PySem.W.keepIn K (.ref f)=true
section
variable {X:Cx} {pins:List (Addr×Obj)} {σ:St} {H:Hp} {s:Shared} {a C dx:Addr} {fs:List (Str×V)} {f:Str} {v:V} {A:Around} {E:Value->Shared->Prop}
theorem Inv.made (I:Inv X pins σ H s):Inv X pins σ (upd (upd H s.heap.objs.size (.own (s.heap.objs.size + 1))) (s.heap.objs.size + 1) (.ins C s.heap.objs.size []))
  {s with heap:=(s.heap.push PySem.W.emptyDict).push (PySem.W.instObj C s.heap.objs.size)}:=by
 have e1:(s.heap.push PySem.W.emptyDict).get? s.heap.objs.size=some PySem.W.emptyDict:=Heap.get?_push_size s.heap rfl;have e2:((s.heap.push PySem.W.emptyDict).push (PySem.W.instObj C s.heap.objs.size)).get? (s.heap.objs.size + 1)=some (PySem.W.instObj C s.heap.objs.size):=by have:=Heap.get?_push_size (s.heap.push PySem.W.emptyDict) (o:=PySem.W.instObj C s.heap.objs.size) rfl;rwa [Heap.size_push] at this
 have e3:(s.heap.push PySem.W.emptyDict).Ns s.heap.objs.size (λ_=>none):=⟨PySem.W.emptyDict,#[],_,e1,rfl,(λe he=>absurd he (by simp)),λ_=>rfl⟩;have I1:=I.laid (a:=s.heap.objs.size) (o:=.own (s.heap.objs.size + 1)) (h':=s.heap.push PySem.W.emptyDict) (t':=s.toks) (λb u q=>Heap.get?_push_of_some _ q) (Nat.le_refl _) ⟨_,e1⟩;refine I1.laid (a:=s.heap.objs.size + 1) (o:=.ins C s.heap.objs.size []) (t':=s.toks) (λb u q=>Heap.get?_push_of_some _ q) (Nat.le_of_eq (Heap.size_push _ _)) ?_
 have ne:s.heap.objs.size≠s.heap.objs.size + 1:=Nat.ne_of_lt (Nat.lt_succ_self _);refine ⟨by rw [Aj ne,Do],Nat.zero_le _,ne,e2,λ_=>none,(Heap.Ns1.of_empty e3).at λo q=>Heap.get?_push_of_some _ q,λ_=>True.intro,λy hy=>absurd rfl hy⟩
end
section
variable {X:Cx} {o e value:Expr} {f:Str} {pos pos' tpos:Pos} {ta tv:TE}
end
section
variable {X:Cx} {pins:List (Addr×Obj)} {σ:St} {H:Hp} {s:Shared} {A:Around} {E:Value->Shared->Prop} {Q:Value->Shared->Prop} {c:Value} {b:Bool}
inductive TyOf (K:PySem.W.Frag) (H:Hp):V->Value->Prop where
 | non:TyOf K H .non (.type "NoneType")
 | bl (x:Bool):TyOf K H (.bl x) (.type "bool")
 | int (i:Int):TyOf K H (.int i) (.type "int")
 | str (x:Str):TyOf K H (.str x) (.type "str")
 | flt (x:UInt64):TyOf K H (.flt x) (.type "float")
 | lst {a:Addr} {xs:List V} (e:H a=some (.lst xs)):TyOf K H (.ref a) (.type "list")
 | frz {a:Addr} {o:Obj} {xs:List V} (e:H a=some (.frz o (.lst xs))):TyOf K H (.ref a) (.type "list")
 | tup {a:Addr} {xs:List V} (e:H a=some (.tup xs)):TyOf K H (.ref a) (.type "tuple")
 | dK {a:Addr} {kvs:List (Key×V)} (e:H a=some (.dK kvs)):TyOf K H (.ref a) (.type "dict")
 | dT {a:Addr} {kvs:List (List Key×V)} (e:H a=some (.dT kvs)):TyOf K H (.ref a) (.type "dict")
 | ins {a C dx:Addr} {fs:List (Str×V)} (e:H a=some (.ins C dx fs)) (cl:Cls K C) (ha:PySem.W.findIn K (.ref C) "__class__"=some (some (.builtin "object.__class__")))
   (hn:PySem.W.specialIn K (.builtin "object.__class__") "__get__"=some (some (.builtin "getset_descriptor.__get__"))) (htk:PySem.W.takesIn K (.builtin "object.__class__")=some true)
   (hm:PySem.W.mroIn K C (.type "object")=some true):TyOf K H (.ref a) (.ref C)
end
structure Room (k:Nat) (A:Around):Prop where
 hd:A.handled=none
 dp:A.depth + 3 * k + 5 < recursionLimit
 un:A.units + 16 * k + 200 < cLine
theorem Room.mono (r:Room k A) (h:j<=k):Room j A:=⟨r.hd,by have:=r.dp;omega,by have:=r.un;omega⟩
theorem Room.deeper (r:Room (k + 1) A) (env:Env):Room k (A.deeper env):=
 ⟨r.hd,by have:=r.dp;show A.depth + 1 + 3 * k + 5 < _;omega,by have:=r.un;show A.units + 3 + 16 * k + 200 < _;omega⟩
theorem Room.in1 (r:Room (k + 1) A):Room k A.in1:=
 ⟨r.hd,by have:=r.dp;show A.depth + 3 * k + 5 < _;omega,by have:=r.un;show A.units + 1 + 16 * k + 200 < _;omega⟩
theorem Room.depth (r:Room k A):A.depth < recursionLimit:=by have:=r.dp;omega
theorem Room.units (r:Room k A):A.units + 64 < cLine:=by have:=r.un;omega
def tNil:TA:=λ_ H Q=>Q [] H
def ZEL (ta:TE) (tr:TA):TA:=λσ H Q=>ta σ H λx H1=>tr σ H1 λxs H2=>Q (x::xs) H2
section
variable {X:Cx} {e:Expr} {es:List Expr} {te:TE} {t:TA} {pos:Pos}
theorem ZC6:PA X [] tNil:=λ_ _ _ _ H Q I h=>Calls.spliced_nil ⟨[],H,I,.nil,h⟩
theorem ZCU (ha:PE X e te) (hr:PA X es t) (hs:starEach (e::es) X.env=(false,eval e X.env)::starEach es X.env:=by rfl):PA X (e::es) (ZEL te t):=by intro pos pins s σ H Q I h;rw [hs];show wpAny _ _ (spliced ((false,eval e X.env)::backTo pos (starEach es X.env))) _ _ s;refine Calls.spliced_cons (thn (ha pins s σ H _ I h) λu s1 ⟨x,H1,I1,r1,q1⟩=> ?_);exact thn (hr pos pins s1 σ H1 _ I1 q1) λus s2 ⟨xs,H2,I2,r2,q2⟩=>⟨x::xs,H2,I2,.cons r1 r2,q2⟩
def tTup (t:TA):TE:=λσ H Q=>t σ H λxs H1=>xs.length<=sizeLine/\∀p,H1 p=none->Q (.ref p) (upd H1 p (.tup xs))
def tLst (t:TA):TE:=λσ H Q=>t σ H λxs H1=>xs.length<=sizeLine/\∀p,H1 p=none->Q (.ref p) (upd H1 p (.lst xs))
theorem ZBR {x1} (h:PA X es t):PE X (.Tuple es x1 pos) (tTup t):=by intro pins s σ H Q I hq;refine wpAny_Tuple_spliced (thn (h pos pins s σ H _ I hq) λus s1 ⟨xs,H1,I1,r,z,q⟩=>⟨by rw [<-r.length];exact z,?_⟩);have hf:H1 s1.heap.objs.size=none:=I1.hok.fresh (Nat.le_refl _);refine ⟨.ref s1.heap.objs.size,upd H1 s1.heap.objs.size (.tup xs),I1.laid (t':=s1.toks) (λb u e=>Heap.get?_push_of_some _ e) (Nat.le_refl _) ?_,rfl,q _ hf⟩;exact ⟨z,us,r,⟨_,Heap.get?_push_size _ rfl,rfl,_,rfl⟩⟩
theorem Zt (h:PA X es t):PE X (.List es pos) (tLst t):=by intro pins s σ H Q I hq;refine wpAny_List_spliced (thn (h pos pins s σ H _ I hq) λus s1 ⟨xs,H1,I1,r,z,q⟩=>⟨by rw [<-r.length];exact z,?_⟩);have hf:H1 s1.heap.objs.size=none:=I1.hok.fresh (Nat.le_refl _);refine ⟨.ref s1.heap.objs.size,upd H1 s1.heap.objs.size (.lst xs),I1.laid (t':=s1.toks) (λb u e=>Heap.get?_push_of_some _ e) (Nat.le_refl _) ?_,rfl,q _ hf⟩;exact ⟨z,us,0,r,Heap.get?_push_size _ rfl⟩
end
abbrev Sp:=List V->Hp->VK->XK->Prop
abbrev CXT:=List Env->Hp->Shared->XK->Value->Shared->Prop
variable {CX:CXT}
structure Env0 (P:Program) (w:World) (K:PySem.W.Frag) (mg:Str->Option Value) (base:Heap) (A:Around) (outer:List Env) (s:Shared) (H:Hp):Prop where
 frames:A.frames=some outer
 mod:Mod K mg base
 bs:∀b o,base.get? b=some o->s.heap.get? b=some o/\H b=none
 bsz:base.objs.size<=s.heap.objs.size
 funs:s.heap.FunFrames base outer
 frf:∀b∈frs outer,H b=none
 hok:HOk P w H s.heap
 bare:AllBare s.gens
def CE (outer:List Env) (P:Program) (w:World) (H:Hp) (s:Shared) (Q:VK) (u:Value) (s':Shared):Prop:=
 ∃v H',s'.os=s.os/\AllBare s'.gens/\Un (frs outer) [] H H' s.heap s'.heap/\HOk P w H' s'.heap/\RelV v u/\Q v H'
def CR (CX:CXT) (outer:List Env) (P:Program) (w:World) (H:Hp) (s:Shared) (Q:VK) (E:XK) (r:Result) (s':Shared):Prop:=
 match r with
 | .ok (.ret u)=>CE outer P w H s Q u s'
 | .ok _=>False
 | .error e=>CX outer H s E e s'
structure FnOk (P:Program) (w:World) (K:PySem.W.Frag) (mg:Str->Option Value) (base:Heap) (CX:CXT) (k:Nat) (f:Addr) (fd:FuncData) (ps:List Str) (sp:Sp):Prop where
 len:∀vs H Q E,sp vs H Q E->vs.length=ps.length
 run:∀(A:Around) (outer:List Env) (s:Shared) (H:Hp) (args:Args) (us:List Value) (vs:List V) (Q:VK) (E:XK),Room k A->Env0 P w K mg base A outer s H->BindsTo s fd args (ps.zip us)->Vals vs us->sp vs H Q E->
  codeAny (model P w) A (.call (.ref f) args) (CR CX outer P w H s Q E) s
theorem FnOk.mono {sp:Sp} (F:FnOk P w K mg base CX j f fd ps sp) (h:j<=k):
  FnOk P w K mg base CX k f fd ps sp:=⟨F.len,λA outer s H args us vs Q E hr=>F.run A outer s H args us vs Q E (hr.mono h)⟩
theorem FnOk.imp {sp sp':Sp} (F:FnOk P w K mg base CX k f fd ps sp)
  (h:∀vs H Q E,sp' vs H Q E->sp vs H Q E):FnOk P w K mg base CX k f fd ps sp':=
 ⟨λvs H Q E q=>F.len vs H Q E (h _ _ _ _ q),λA outer s H args us vs Q E hr he hb hv hs=>F.run A outer s H args us vs Q E hr he hb hv (h _ _ _ _ hs)⟩
theorem Env0.in1 {outer:List Env} (e:Env0 P w K mg base A outer s H):
  Env0 P w K mg base A.in1 outer s H:=⟨e.frames,e.mod,e.bs,e.bsz,e.funs,e.frf,e.hok,e.bare⟩
section
variable {X:Cx} {pins:List (Addr×Obj)} {σ:St} {H:Hp} {s s':Shared}
theorem Inv.env0 (I:Inv X pins σ H s):Env0 X.prog X.w X.K X.mg X.base X.A X.stack s H:=
 ⟨I.ok.frames,I.ok.mod,I.bs,Nat.le_trans I.ok.bsz I.sz,I.stack,I.Vf,I.hok,I.bare⟩
theorem Inv.after {Q:VK} (I:Inv X pins σ H s) (h:CE X.stack X.prog X.w H s Q u s'):EP X pins σ Q u s':=by obtain ⟨v,H',os,bare,un,hok,r,q⟩:=h;obtain ⟨hh,g,d,t,os'⟩:=s';obtain rfl:os'=s.os:=os;exact ⟨v,H',I.call (h':=hh) (g':=g) (d':=d) (t':=t) (ch:= []) un hok bare (λb z=>absurd z (by simp)),r,q⟩
end
def ZAQ (sp:Sp) (dvs:List V) (E:XK) (t:TA):TE:=λσ H Q=>t σ H λvs H1=>sp (vs++dvs) H1 Q E
def Binds (K:PySem.W.Frag) (fd:FuncData) (ps:List Str) (ds:List Value):Prop:=
 ∀(s:Shared) (us:List Value),K.In s.heap->(us++ds).length=ps.length->BindsTo s fd ⟨us,[]⟩ (ps.zip (us++ds))
theorem Binds.all (h:∀us:List Value,us.length=ps.length->bindArgs fd ⟨us,[]⟩=pure (ps.zip us)):Binds K fd ps []:=λs us _ hl=>by rw [List.append_nil] at hl ⊢;exact .of_eq (h us hl)
def Passes (CX:CXT) (X:Cx) (E:XK):Prop:=∀(pins:List (Addr×Obj)) (σ:St) (H:Hp) (s:Shared) (e:Value) (s':Shared),Inv X pins σ H s->CX X.stack H s E e s'->X.xe e s'
section
variable {X:Cx} {CX:CXT} {k:Nat} {f C:Addr} {fd:FuncData} {ps:List Str} {sp:Sp} {dvs:List V} {ds:List Value} {E:XK} {x m:Str} {p pos apos:Pos} {e o:Expr} {es:List Expr} {ta:TE} {t:TA}
theorem ZDk {Q:VK} {vs:List V} (F:FnOk X.prog X.w X.K X.mg X.base CX k f fd ps sp) (hr:Room k X.A) (hb:Binds X.K fd ps ds) (hd:Vals dvs ds) (hx:Passes CX X E)
  (I:Inv X pins σ H s) (r:Vals vs us) (h:sp (vs++dvs) H Q E):wpAny (model X.prog X.w) X.A (call (.ref f) us) (EP X pins σ Q) X.xe s:=by
 have r2:Vals (vs++dvs) (us++ds):=r.append hd;have hl:(us++ds).length=ps.length:=by rw [<-r2.length];exact F.len _ _ _ _ h
 refine wpAny_call (codeAny_mono (F.run X.A X.stack s H ⟨us,[]⟩ (us++ds) (vs++dvs) Q E hr I.env0 (hb s us I.kIn hl) r2 h) λr s' hq=> ?_);cases r with
 | error e=>exact hx pins σ H s e s' I hq
 | ok fl=>
  cases fl with
  | ret u=>exact I.after hq
  | next=>exact False.elim hq
  | brk=>exact False.elim hq
  | cont=>exact False.elim hq
theorem ZC0 (F:FnOk X.prog X.w X.K X.mg X.base CX k f fd ps sp) (hr:Room k X.A) (hg:Gl X x) (hm:X.mg x=some (.ref f)) (hk:PySem.W.keepIn X.K (.ref f)=true) (hb:Binds X.K fd ps ds) (hd:Vals dvs ds) (hx:Passes CX X E)
  (ha:PA X (e::es) t) (hdb:(x == ("__debug__":Str))=false:=by decide) (he:starEach (e::es) X.env=(false,eval e X.env)::starEach es X.env:=by rfl) (hpl:(backTo pos (starEach es X.env)).any (·.1)=false:=by rfl):
  PE X (.Call (.Name x p) (e::es) [] pos) (ZAQ sp dvs E t):=by
 intro pins s σ H Q I h;refine wpAny_Call_Name_kw (Yi I hg hm ?_ hdb);refine PySem.W.callWith_K (h₀:=X.base) I.ok.mod.kin hk (thn (ha pos pins s σ H _ I h) λus s1 ⟨vs,H1,I1,r,q⟩=>⟨I1.kIn,?_⟩) he hpl;exact ZDk F hr hb hd hx I1 r q
end
section
variable {X:Cx} {CX:CXT} {k:Nat} {f C:Addr} {fd:FuncData} {ps ks:List Str} {sp:Sp} {E:XK} {x m:Str} {p pos apos kpos:Pos} {e o:Expr} {es:List Expr} {kws:List Keyword} {te ta:TE} {t tk:TA} {nm:Option Str}
structure KBinds (K:PySem.W.Frag) (fd:FuncData) (ps ks:List Str) (g:List Value->List Value->List Value) (gV:List V->List V->List V):Prop where
 to:∀(s:Shared) (us ws:List Value),K.In s.heap->(g us ws).length=ps.length->BindsTo s fd ⟨us,ks.zip ws⟩ (ps.zip (g us ws))
 rel:∀{vs:List V} {us:List Value} {zs:List V} {ws:List Value},Vals vs us->Vals zs ws->Vals (gV vs zs) (g us ws)
variable {g:List Value->List Value->List Value} {gV:List V->List V->List V}
end
structure FnScope (N P:List Str) (sc:Scope):Prop where
 kind:sc.kind=.function
 co:sc.isCoroutine=false
 gen:sc.isGenerator=false
 nd:N.Nodup
 pre:N.take P.length=P
 par:∀x∈P,sc.names.lookup x=some .local∨sc.names.lookup x=some .cell
 nofree:∀y∈sc.names,y.2≠ .free
theorem Xo:∀{binds:List (Str×Value)} {m:Str->Option Value},(∀v,(x,v) ∉ binds)->bindL kindOf binds m x=m x
 | [],_,_=>rfl
 | (n,v)::r,m,h=>by
  unfold bindL;rw [Xo λw hw=>h w (List.mem_cons_of_mem _ hw)];split
  ·have:x≠n:=by rintro rfl;exact h v List.mem_cons_self
   simp [this]
  ·rfl
theorem Vw:∀{binds:List (Str×Value)} {m:Str->Option Value},(∀v,(x,v) ∉ binds)->bindC kindOf binds m x=m x
 | [],_,_=>rfl
 | (n,v)::r,m,h=>by
  unfold bindC;rw [Vw λw hw=>h w (List.mem_cons_of_mem _ hw)];split
  ·rfl
  ·have:x≠n:=by rintro rfl;exact h v List.mem_cons_self
   simp [this]
theorem Wf {v:Value}:∀{P:List Str} {vs:List Value} {i:Nat} {m:Str->Option Value},P.Nodup->P[i]? =some x->vs[i]? =some v->kindOf x=some .local->
  bindL kindOf (P.zip vs) m x=some v
 | [],_,_,_,_,h,_,_=>by simp at h
 | _::_,[],_,_,_,_,h,_=>by simp at h
 | p::P,w::vs,0,m,nd,h1,h2,hk=>by simp at h1 h2;subst h1;subst h2;show bindL kindOf ((p,w)::P.zip vs) m p=_;unfold bindL;rw [Xo λv hv=>(List.nodup_cons.mp nd).1 (List.of_mem_zip hv).1,if_pos hk];simp
 | p::P,w::vs,i + 1,m,nd,h1,h2,hk=>by show bindL kindOf ((p,w)::P.zip vs) m x=_;unfold bindL;exact Wf (i:=i) (List.nodup_cons.mp nd).2 (by simpa using h1) (by simpa using h2) hk
theorem W3 {v:Value}:∀{P:List Str} {vs:List Value} {i:Nat} {m:Str->Option Value},P.Nodup->P[i]? =some x->vs[i]? =some v->kindOf x≠some .local->
  bindC kindOf (P.zip vs) m x=some v
 | [],_,_,_,_,h,_,_=>by simp at h
 | _::_,[],_,_,_,_,h,_=>by simp at h
 | p::P,w::vs,0,m,nd,h1,h2,hk=>by simp at h1 h2;subst h1;subst h2;show bindC kindOf ((p,w)::P.zip vs) m p=_;unfold bindC;rw [Vw λv hv=>(List.nodup_cons.mp nd).1 (List.of_mem_zip hv).1,if_neg hk];simp
 | p::P,w::vs,i + 1,m,nd,h1,h2,hk=>by show bindC kindOf ((p,w)::P.zip vs) m x=_;unfold bindC;exact W3 (i:=i) (List.nodup_cons.mp nd).2 (by simpa using h1) (by simpa using h2) hk
def start (N:List Str) (vs:List V):St:=vs.map some++List.replicate (N.length - vs.length) none
def Gn (CX:CXT) (P:Program) (w:World) (K:PySem.W.Frag) (mg:Str->Option Value) (base:Heap) (N:List Str) (qual:Str) (scope:Scope) (f:Addr) (cd:Value) (A:Around) (outer:List Env) (s:Shared) (H:Hp) (E:XK):Cx where
 prog:=P
 w:=w
 K:=K
 mg:=mg
 base:=base
 A:=A.deeper (envOfC qual scope s.heap.objs.size f cd)
 N:=N
 s₀:=s
 H₀:=H
 env:=envOfC qual scope s.heap.objs.size f cd
 outer:=outer
 stack:=envOfC qual scope s.heap.objs.size f cd::outer
 ex:= []
 calm:=true
 fn:=λ_=>true
 pn:= []
 xe:=λe s'=>wpAny (model P w) (A.deeper (envOfC qual scope s.heap.objs.size f cd)) (leaving (envOfC qual scope s.heap.objs.size f cd) e) (λ_ s''=>CX outer H s E e s'') (λe' s''=>CX outer H s E e' s'') s'
theorem Xu {sc:Scope} {n:Nat} (h:sc.names.lookup x=some .cell):∃c,(cellsFrom n sc.names []).lookup x=some c:=by have q:=PySem.W.cellsFrom_some sc.names n [] (.inl h);exact Option.isSome_iff_exists.mp q
theorem ZAw {N:List Str} {qual:Str} {scope:Scope} {cd:Value} {outer:List Env} {s1:Shared} {E:XK} {vs:List V}
  (S:FnScope N ps scope) (hd:A.handled=none) (e0:Env0 P w K mg base A outer s H) (hl:vs.length=ps.length) (r:Vals vs us)
  (x:InCallC s s.heap.objs.size (bindL (envOfC qual scope s.heap.objs.size f cd).kindOf (ps.zip us) λ_=>none) (cellsFrom (s.heap.objs.size + 1) scope.names []) (bindC (envOfC qual scope s.heap.objs.size f cd).kindOf (ps.zip us) λ_=>none) s1):
  Inv (Gn CX P w K mg base N qual scope f cd A outer s H E) [] (start N vs) H s1:=by
 have hpl:ps.length<=N.length:=by have:=congrArg List.length S.pre;rw [List.length_take] at this;omega
 obtain ⟨h1,tk,rfl,hk⟩:=x.done
 have noA:∀b:Addr,b ∉ (Gn CX P w K mg base N qual scope f cd A outer s H E).ex:=λb z=>absurd (show b∈([]:List Addr) from z) (by simp)
 refine ⟨⟨e0.mod,S.kind,rfl,rfl,Nat.le_refl _,λy z c h1 h2=> ?_,λy hy=> ?_,λy c _ h=> ?_,λ_=>hd,Around.frames_deeper e0.frames,.inr ⟨rfl,rfl⟩,λb z=>absurd z (noA b),e0.bs,e0.bsz,λb _ _=>noA b,λb z=>absurd z (noA b),e0.funs,e0.frf⟩,
  rfl,e0.bare,Un.kept hk,⟨_,x.toInCall.ns,λi y v h1 h2 h3=> ?_⟩,λy c h=>⟨_,x.cell y c h⟩,e0.hok.fresh (Nat.le_refl _),λy c h=> ?_,λp hp=>absurd (show p∈([]:List (Addr×Obj)) from hp) (by simp),e0.hok.kept hk,?_⟩
 ·exact name_of_addr x.apart (PySem.mem_of_lookup h1) (PySem.mem_of_lookup h2)
 ·have hy:scope.names.lookup y=some .cell∨scope.names.lookup y=some .free:=hy;rcases hy with hy | hy
  ·exact Xu hy
  ·exact absurd rfl (S.nofree _ (PySem.mem_of_lookup hy))
 ·exact Nat.le_of_lt (x.above y c (PySem.mem_of_lookup h))
 ·have hi:i < vs.length:=by
   unfold start at h2;by_cases hi:i < vs.length
   ·exact hi
   ·rw [List.getElem?_append_right (by simpa using hi)] at h2;rw [List.getElem?_replicate] at h2
    split at h2 <;> cases h2
  have ha:vs[i]? =some v:=by
   unfold start at h2;rw [List.getElem?_append_left (by simpa using hi),List.getElem?_map] at h2;cases e:vs[i]? with
   | none=>rw [e] at h2;cases h2
   | some a=>rw [e] at h2;cases h2;rfl
  obtain ⟨u,hu,rv⟩:=r.get ha;have hp:ps[i]? =some y:=by rw [<-S.pre,List.getElem?_take_of_lt (by omega)];exact h1
  have ndP:ps.Nodup:=by rw [<-S.pre];exact S.nd.sublist (List.take_sublist _ _)
  refine ⟨u,rv,?_⟩;rcases S.par y (List.mem_of_getElem? hp) with k | k
  ·exact .inl ⟨k,Wf ndP hp hu k⟩
  ·obtain ⟨c,e⟩:=Xu (n:=s.heap.objs.size + 1) k;refine .inr ⟨.inl k,c,e,?_⟩;have q:=x.cell y c e;rw [W3 ndP hp hu (by show scope.names.lookup y≠_;rw [k];decide)] at q;exact q
 ·exact e0.hok.fresh (Nat.le_of_lt (x.above y c (PySem.mem_of_lookup h)))
 ·unfold start;show _=N.length;rw [List.length_append,List.length_map,List.length_replicate];omega
theorem Zc {name qual:Str} {params:Arguments} {body:List Stmt} {scope:Scope} {dV kV doc pm cdv ct oc:Value} {an od:Option Addr}
  {osl:Array (Option Value)} {N ps:List Str} {sp:Sp} (lk:K.lookup f=some ⟨oc,od,.func (PySem.W.fnOf name qual params body scope dV kV doc pm an cdv ct),osl⟩) (hcd:PySem.W.codeIn K cdv qual=true) (S:FnScope N ps scope)
  (len:∀vs H Q E,sp vs H Q E->vs.length=ps.length)
  (hbody:∀(A:Around) (outer:List Env) (s:Shared) (H:Hp) (vs:List V) (Q:VK) (E:XK),Room k (A.deeper (envOfC qual scope s.heap.objs.size f cdv))->sp vs H Q E->
   ∃t,PSs (Gn CX P w K mg base N qual scope f cdv A outer s H E) body t/\t {nx:=λ_ H'=>Q .non H',rt:=Q} (start N vs) H):
  FnOk P w K mg base CX (k + 1) f (PySem.W.fnOf name qual params body scope dV kV doc pm an cdv ct) ps sp:=by
 refine ⟨len,λA outer s H args us vs Q E hr e0 hb r hsp=> ?_⟩;have hl:=len _ _ _ _ hsp;have KX:K.In s.heap:=e0.mod.kin.keeps λb o e=>(e0.bs b o e).1
 have lim:s.heap.NoLimit:=e0.mod.nolimit.keeps λb o e=>(e0.bs b o e).1
 have hkind:∀y∈ps.zip us,scope.names.lookup y.1=some .local∨(scope.names.lookup y.1=some .cell/\((cellsFrom (s.heap.objs.size + 1) scope.names []).lookup y.1).isSome=true):=λ⟨n,v⟩ hy=>by
  rcases S.par n (List.of_mem_zip hy).1 with q | q
  ·exact .inl q
  ·exact .inr ⟨q,PySem.W.cellsFrom_some _ _ _ (.inl q)⟩
 refine codeAny_call_function hr.depth (KX _ _ lk) rfl S.co S.gen rfl (PySem.W.codeRec_of KX hcd) (hb _ _ _ _ ?_);refine wpAny_newFunctionEnv_cells S.kind hkind λenv he s1 x=> ?_
 subst he;refine ⟨lim.keeps x.toInCall.keep,codeAny_func ?_⟩;obtain ⟨t,ht,hq⟩:=hbody A outer s H vs Q E (hr.deeper _) hsp;have I:Inv (Gn CX P w K mg base N qual scope f cdv A outer s H E) [] (start N vs) H s1:=ZAw S hr.hd e0 hl r x;refine wpAny_mono (ht [] s1 (start N vs) H _ I hq) (λfl s' hs=> ?_) λe s' hs=>hs
 have fin:∀{σ':St} {H':Hp} {v:V} {u:Value},Inv (Gn CX P w K mg base N qual scope f cdv A outer s H E) [] σ' H' s'->RelV v u->Q v H'->CE outer P w H s Q u s':=
  λ{σ' H' v u} J rv q=>⟨v,H',J.os,J.bare,J.base,J.hok,rv,q⟩
 cases fl with
 | ret u=>
  obtain ⟨v,σ',H',J,rv,q⟩:=hs;exact fin J rv q
 | next=>
  obtain ⟨σ',H',J,q⟩:=hs;exact fin (v:=V.non) (u:=Value.none) J rfl q
 | brk=>
  obtain ⟨_,_,_,q⟩:=hs;exact False.elim q
 | cont=>
  obtain ⟨_,_,_,q⟩:=hs;exact False.elim q
section
variable {X:Cx} {x:Str} {p pos:Pos} {e:Expr} {es:List Expr} {t:TA} {id T:String} {r:List V->Hp->VK->Prop}
def tCB (r:List V->Hp->VK->Prop) (t:TA):TE:=λσ H Q=>t σ H λvs H1=>r vs H1 Q
theorem ZDD (hc:CallR X (.builtin id) r) (hg:Gl X x) (hm:X.mg x=none) (hv:bootBuiltins x=some (.builtin id)) (ha:PA X (e::es) t) (hn:x≠"__name__":=by decide) (hdb:(x == ("__debug__":Str))=false:=by decide)
  (he:starEach (e::es) X.env=(false,eval e X.env)::starEach es X.env:=by rfl) (hpl:(backTo pos (starEach es X.env)).any (·.1)=false:=by rfl):PE X (.Call (.Name x p) (e::es) [] pos) (tCB r t):=by
 intro pins s σ H Q I h;refine wpAny_Call_Name_kw (Pa I hg hm hv ?_ hn hdb);exact PyProof.Rows.callWith_builtin1 (thn (ha pos pins s σ H _ I h) λus s1 ⟨vs,H1,I1,r1,q1⟩=>hc pins s1 σ H1 vs us Q I1 r1 q1) he hpl
theorem ZB8 (hc:CallR X (.type T) r) (hg:Gl X x) (hm:X.mg x=none) (hv:bootBuiltins x=some (.type T)) (ha:PA X (e::es) t) (hn:x≠"__name__":=by decide) (hdb:(x == ("__debug__":Str))=false:=by decide)
  (he:starEach (e::es) X.env=(false,eval e X.env)::starEach es X.env:=by rfl) (hpl:(backTo pos (starEach es X.env)).any (·.1)=false:=by rfl):PE X (.Call (.Name x p) (e::es) [] pos) (tCB r t):=by
 intro pins s σ H Q I h;refine wpAny_Call_Name_kw (Pa I hg hm hv ?_ hn hdb);exact PyProof.Rows.callWith_type1 (thn (ha pos pins s σ H _ I h) λus s1 ⟨vs,H1,I1,r1,q1⟩=>hc pins s1 σ H1 vs us Q I1 r1 q1) he hpl
end
end L2
namespace HT
open PySem PyProof.Rows
section
open PySem.SeqAt
open PySem.AutoSeq1 (wpAny_loadPart')
open PySem.MeetsSeq PySem.MeetsSeq2 PySem.MeetsSeq3
end
section
variable {prog:Program} {w:World} {A:Around} {E:Value->Shared->Prop} {s:Shared}
theorem ZEa {t b:Addr} {vs ws:List Value} {Q:Value->Shared->Prop} (ht:IsTup s.heap t vs.toArray) (hb:IsTup s.heap b ws.toArray) (hv:vs≠ [])
  (h1:ws= []->Q (.ref t) s) (h2:ws≠ []->Q (.ref s.heap.objs.size) {s with heap:=s.heap.push {cls:=.type "tuple",data:=.seq (vs++ws).toArray}})
  (hsz:vs.length + ws.length<=sizeLine):wpAny (model prog w) A (binaryOp .Add (.ref t) (.ref b)) Q E s:=by
 obtain ⟨⟨cls,dd,data,sl⟩,ho,hc,n,hd⟩:=id ht;obtain ⟨⟨cls2,dd2,data2,sl2⟩,ho2,hc2,n2,hd2⟩:=id hb;simp only at hc hd hc2 hd2;subst hc hd hc2 hd2;have e:vs.toArray++ws.toArray=(vs++ws).toArray:=by simp
 by_cases hw:ws= []
 ·exact concat_meets ⟨_,ho,rfl⟩ ⟨_,ho2,rfl⟩ noFill_tuple_add seq_tuple_add PySem.F.slot_tuple_add PySem.F.entry_tuple_add (PySem.F.args_tuple_add_2 _ _)
   (tuple_addW1 t b vs.toArray ws.toArray n n2 dd dd2 sl sl2 (by simpa using hv) (by simp [hw])) ⟨ho,ho2,h1 hw⟩
 ·refine concat_meets ⟨_,ho,rfl⟩ ⟨_,ho2,rfl⟩ noFill_tuple_add seq_tuple_add PySem.F.slot_tuple_add PySem.F.entry_tuple_add (PySem.F.args_tuple_add_2 _ _)
   (tuple_addW2 t b vs.toArray ws.toArray n n2 dd dd2 sl sl2 (by simpa using hv) (by simpa using hw) (by rw [List.size_toArray,List.size_toArray];exact hsz)) ⟨ho,ho2,?_⟩
  rw [e];exact h2 hw
def sIx (n d:Nat):Option Int->Nat
 | none=>d
 | some v=>if v < 0 then (v + (n:Int)).toNat else min v.toNat n
theorem Vk (n d:Nat) (hd:d<=n) (o:Option Int):sIx n d o<=n:=by
 cases o with
 | none=>exact hd
 | some v=>
  show (if v < 0 then (v + (n:Int)).toNat else min v.toNat n)<=n;by_cases hv:v < 0
  ·rw [if_pos hv];omega
  ·rw [if_neg hv];exact Nat.min_le_right _ _
theorem Ws (v:Int) (n d:Nat):(if v < 0 then max (v + (n:Int)) 0 else min v (n:Int))=((sIx n d (some v):Nat):Int):=by
 show (if v < 0 then max (v + (n:Int)) 0 else min v (n:Int))=(((if v < 0 then (v + (n:Int)).toNat else min v.toNat n):Nat):Int);by_cases hv:v < 0
 ·simp only [if_pos hv];omega
 ·simp only [if_neg hv];omega
theorem ZDx (lo hi:Option Int) (n:Nat):Builtin.Slice.sliceAdjust lo hi 1 (n:Int)=(((sIx n 0 lo:Nat):Int),((sIx n n hi:Nat):Int)):=by
 have h1:¬((1:Int) < 0):=by omega
 unfold Builtin.Slice.sliceAdjust;simp only [h1,if_false];refine Prod.ext ?_ ?_
 ·cases lo with
  | none=>rfl
  | some v=>exact Ws v n 0
 ·cases hi with
  | none=>rfl
  | some v=>exact Ws v n n
theorem ZD9 (i j:Nat):Builtin.Slice.slicePlaces (i:Int) (j:Int) 1=j - i:=by
 unfold Builtin.Slice.slicePlaces;have h1:(1:Int) > 0:=by omega
 simp only [h1,if_true,Int.ediv_one]
 split <;> omega
theorem Ww {v:Value} {o:Option Int} {Q:Option Int->Shared->Prop} (p:IsPart v o) (h:Q o s):wpAny (model prog w) A (Builtin.Slice.slicePartIndex v) Q E s:=by
 cases p with
 | none=>exact slicePart_none h
 | int i t=>exact slicePart_int h
theorem Vt {sl:Addr} {vl vu:Value} {lo hi:Option Int} {n:Nat} {Q:Int×Int×Nat->Shared->Prop} (hs:s.heap.IsSliceOf sl vl vu .none) (pl:IsPart vl lo) (pu:IsPart vu hi)
  (h:Q (((sIx n 0 lo:Nat):Int),1,sIx n n hi - sIx n 0 lo) s):wpAny (model prog w) A (Builtin.Slice.sliceApplied (.ref sl) (pure (n:Int))) Q E s:=by
 obtain ⟨os,hos,hcs,hds⟩:=id hs;unfold Builtin.Slice.sliceApplied Builtin.Slice.sliceFields;refine wpAny_bind (wpAny_bind (wpAny_field hos hds (x:=vl) rfl (wpAny_bind (wpAny_field hos hds (x:=vu) rfl (wpAny_bind (wpAny_field hos hds (x:=.none) rfl (wpAny_pure ?_)))))));refine wpAny_bind (slicePart_none ?_);show wpAny _ _ (if ((1:Int) == 0)=true then _ else _) _ _ s;rw [if_neg (by decide)];refine wpAny_bind (Ww pl (wpAny_bind (Ww pu (wpAny_bind (wpAny_pure ?_)))))
 show wpAny _ _ (match Builtin.Slice.sliceAdjust lo hi 1 (n:Int) with | (lo,hi)=>pure (lo,(1:Int),Builtin.Slice.slicePlaces lo hi 1)) _ _ s
 rw [ZDx lo hi n];show wpAny _ _ (pure (((sIx n 0 lo:Nat):Int),(1:Int),Builtin.Slice.slicePlaces ((sIx n 0 lo:Nat):Int) ((sIx n n hi:Nat):Int) 1)) _ _ s;rw [ZD9];exact wpAny_pure h
theorem Z5 (xs:Array Value) (i k:Nat):((List.range k).filterMap λ(m:Nat)=>xs[((i:Int) + (m:Int) * 1).toNat]?).toArray=((xs.toList.drop i).take k).toArray:=by
 have e:(λ(m:Nat)=>xs[((i:Int) + (m:Int) * 1).toNat]?)=λm=>xs[i + m]? :=by
  funext m;have:((i:Int) + (m:Int) * 1).toNat=i + m:=by omega
  rw [this]
 rw [e];have:=pick_run xs i k;rw [List.filterMap_map] at this;have e2:((λx=>xs[x]?) ∘ λx=>i + x)=λm=>xs[i + m]? :=rfl
 rw [e2] at this;rw [this]
theorem ZDg {t sl:Addr} {items:Array Value} {vl vu:Value} {lo hi:Option Int} {Q:Value->Shared->Prop} (ht:IsTup s.heap t items) (hs:s.heap.IsSliceOf sl vl vu .none) (pl:IsPart vl lo) (pu:IsPart vu hi)
  (hw:¬(sIx items.size 0 lo=0/\sIx items.size items.size hi=items.size))
  (h:Q (.ref s.heap.objs.size) {s with heap:=s.heap.push {cls:=.type "tuple",data:=.seq ((items.toList.drop (sIx items.size 0 lo)).take (sIx items.size items.size hi - sIx items.size 0 lo)).toArray}})
  (hsz:items.size<=sizeLine):wpAny (model prog w) A (getItem (.ref t) (.ref sl)) Q E s:=by
 have htake:sizeOk (.seq ((items.toList.drop (sIx items.size 0 lo)).take (sIx items.size items.size hi - sIx items.size 0 lo)).toArray):=by show ((items.toList.drop (sIx items.size 0 lo)).take (sIx items.size items.size hi - sIx items.size 0 lo)).toArray.size<=sizeLine;rw [List.size_toArray,List.length_take,List.length_drop,Array.length_toList];omega
 have hj:sIx items.size items.size hi<=items.size:=Vk _ _ (Nat.le_refl _) hi;obtain ⟨os,hos,hcs,hds⟩:=id hs;have hTs:s.TypeIs (.ref sl) "slice":=⟨os,hos,hcs⟩;unfold getItem
 try with_reducible refine wpAny_holding ?_
 first | refine wpAny_bind (wpAny_pure ?_) | skip
 refine wpAny_bind (wpAny_sequenceKey ht.typeIs (by decide) ?_);refine wpAny_bind (wpAny_callSpecial?_slot (name:=Str.ofString "__getitem__") ht.typeIs PyProof.Rows.slot_tuple_getitem
  (wpAny_call_entry PyProof.Rows.slot_tuple_getitem ht.typeIs entry_tuple_getitem ?_ (args_tuple_getitem _ _)))
 show wpAny _ _ (Builtin.Tuple.tupleItemsOf (.ref t) >>=_) _ _ s;refine wpAny_bind (tupleItemsOf_ ht ?_);refine wpAny_bind (wpAny_typeOf hTs ?_);rw [if_pos (by decide)];refine wpAny_bind (Vt hs pl pu ?_);have hno:¬((((sIx items.size 0 lo:Nat):Int) == 0 && (1:Int) == 1 && (sIx items.size items.size hi - sIx items.size 0 lo) == items.size)=true):=by intro q;rw [Bool.and_eq_true,Bool.and_eq_true] at q;have q1:((sIx items.size 0 lo:Nat):Int)=0:=eq_of_beq q.1.1;have q2:sIx items.size items.size hi - sIx items.size 0 lo=items.size:=eq_of_beq q.2;exact hw ⟨by omega,by omega⟩
 show wpAny _ _ (if (((sIx items.size 0 lo:Nat):Int) == 0 && (1:Int) == 1 && (sIx items.size items.size hi - sIx items.size 0 lo) == items.size)=true then _ else _) _ _ s;rw [if_neg hno,Z5]
 first
  | exact wpAny_bind (m:=Builtin.Tuple.tupleExact _) (wpAny_newObj_type (wpAny_pure ⟨_,rfl,wpAny_pure h⟩) htake)
  | exact wpAny_bind (m:=Builtin.Tuple.tupleExact _) (wpAny_newObj_type (wpAny_bind (wpAny_pure (wpAny_pure ⟨_,rfl,wpAny_pure h⟩))) htake)
  | exact wpAny_bind (wpAny_bind (m:=Builtin.Tuple.tupleExact _) (wpAny_newObj_type (wpAny_pure (wpAny_pure ⟨_,rfl,wpAny_pure h⟩)) htake))
  | exact wpAny_bind (wpAny_bind (m:=Builtin.Tuple.tupleExact _) (wpAny_newObj_type (wpAny_pure ⟨_,rfl,wpAny_pure h⟩) htake))
end
end HT
namespace L2
open PySem PySem.Spec PyProof.Rows
variable {s:Shared} {v:Value}
abbrev TO:=St->Hp->(Option Int->Hp->Prop)->Prop
def PO (X:Cx) (e:Option Expr) (t:TO):Prop:=
 ∀(pins:List (Addr×Obj)) (s:Shared) (σ:St) (H:Hp) (Q:Option Int->Hp->Prop),Inv X pins σ H s->t σ H Q->
  wpAny (model X.prog X.w) X.A (evalPart e X.env) (λu s'=>∃o H',Inv X pins σ H' s'/\IsPart u o/\Q o H') X.xe s
def ZDd:TO:=λ_ H Q=>Q none H
def ZDO (t:TE):TO:=λσ H Q=>t σ H λx H1=>∃i,x=.int i/\Q (some i) H1
section
variable {X:Cx} {e:Expr} {te:TE} {lo hi:Option Expr} {tl th:TO} {pos p2:Pos}
theorem ZAp:PO X none ZDd:=by intro pins s σ H Q I h;rw [evalPart_none];exact wpAny_pure ⟨none,H,I,.none,h⟩
theorem ZAB (h:PE X e te):PO X (some e) (ZDO te):=by
 intro pins s σ H Q I hw;rw [evalPart_some];refine thn (h pins s σ H _ I hw) λu s1 ⟨x,H1,I1,r1,q1⟩=> ?_
 obtain ⟨i,rfl,q⟩:=q1;obtain ⟨t,rfl⟩:=r1;exact ⟨some i,H1,I1,.int i t,q⟩
def SlR (X:Cx) (r:V->Option Int->Option Int->Hp->VK->Prop):Prop:=
 ∀(pins:List (Addr×Obj)) (s:Shared) (σ:St) (H:Hp) (x:V) (v vl vu:Value) (lo hi:Option Int) (sl:Addr) (Q:VK),Inv X pins σ H s->RelV x v->s.heap.IsSliceOf sl vl vu .none->IsPart vl lo->IsPart vu hi->r x lo hi H Q->
  ∃T id,typeLookup (.type T) "__getitem__"=pure (some (.builtin id))/\s.TypeIs v T/\wpAny (model X.prog X.w) X.A (getItem v (.ref sl)) (EP X pins σ Q) X.xe s
theorem SlR.or {r r':V->Option Int->Option Int->Hp->VK->Prop} (h:SlR X r) (h':SlR X r'):SlR X (λx lo hi H Q=>r x lo hi H Q∨r' x lo hi H Q):=by
 intro pins s σ H x v vl vu lo hi sl Q I rx hs pl pu q;rcases q with q | q
 ·exact h pins s σ H x v vl vu lo hi sl Q I rx hs pl pu q
 ·exact h' pins s σ H x v vl vu lo hi sl Q I rx hs pl pu q
def tSl (r:V->Option Int->Option Int->Hp->VK->Prop) (te:TE) (tl th:TO):TE:=λσ H Q=>te σ H λx H1=>tl σ H1 λl H2=>th σ H2 λu H3=>r x l u H3 Q
theorem ZAb {r:V->Option Int->Option Int->Hp->VK->Prop} (hr:SlR X r) (he:PE X e te) (hl:PO X lo tl) (hu:PO X hi th):PE X (.Subscript e (.Slice lo hi none p2) pos) (tSl r te tl th):=by
 intro pins s σ H Q I h;refine Subscript_ (thn (he pins s σ H _ I h) λv s1 ⟨x,H1,I1,r1,q1⟩=> ?_);refine wpAny_Slice (thn (hl pins s1 σ H1 _ I1 q1) λvl s2 ⟨l,H2,I2,pl,q2⟩=>thn (hu pins s2 σ H2 _ I2 q2) λvu s3 ⟨u,H3,I3,pu,q3⟩=> ?_);rw [evalPart_none];refine wpAny_pure ?_;have I4:Inv X pins σ H3 {s3 with heap:=s3.heap.push {cls:=.type "slice",data:=.fields #[vl,vu,.none]}}:=I3.kept (t':=s3.toks) λb ob q=>Heap.get?_push_of_some _ q
 obtain ⟨T,id,hT,ht,hg⟩:=hr pins {s3 with heap:=s3.heap.push {cls:=.type "slice",data:=.fields #[vl,vu,.none]}} σ H3 x v vl vu l u s3.heap.objs.size Q I4 r1 (Heap.IsSliceOf.new ..) pl pu q3;show wpAny (model X.prog X.w) X.A (subscriptTail e (.Slice lo hi none p2) v (.ref s3.heap.objs.size)) (EP X pins σ Q) X.xe {s3 with heap:=s3.heap.push {cls:=.type "slice",data:=.fields #[vl,vu,.none]}}
 exact tail_any (ops:= [.ref s3.heap.objs.size,v]) ht hT hg (by with_unfolding_all rfl)
def Fq (xs:List V) (lo hi:Option Int):List V:=(xs.drop (HT.sIx xs.length 0 lo)).take (HT.sIx xs.length xs.length hi - HT.sIx xs.length 0 lo)
theorem Xh (xs:List V) (lo hi:Option Int):(Fq xs lo hi).length<=xs.length:=by unfold Fq;rw [List.length_take,List.length_drop];omega
def rSlT (K:PySem.W.Frag):V->Option Int->Option Int->Hp->VK->Prop:=λx lo hi H Q=>∃a xs,x=.ref a/\SqT K H a xs/\
 ¬(HT.sIx xs.length 0 lo=0/\HT.sIx xs.length xs.length hi=xs.length)/\∀p,H p=none->Q (.ref p) (upd H p (.tup (Fq xs lo hi)))
theorem ZC7:SlR X (rSlT X.K):=by
 intro pins s σ H x v vl vu lo hi sl Q I rx hs pl pu h;obtain ⟨a,xs,rfl,hx,hw,q⟩:=h;cases rx;obtain ⟨its,r,ht,hz⟩:=I.tuple hx;have hlen:its.toArray.size=xs.length:=by rw [List.size_toArray];exact r.length.symm
 refine ⟨"tuple",_,PyProof.Rows.slot_tuple_getitem.lookup,ht.typeIs,?_⟩;refine HT.ZDg ht hs pl pu (by rw [hlen];exact hw) ?_ (by rw [hlen];exact hz);rw [hlen];refine ⟨.ref s.heap.objs.size,_,I.laid (t':=s.toks) (o:=.tup (Fq xs lo hi)) (λb ob q=>Heap.get?_push_of_some _ q) (Nat.le_refl _) ?_,rfl,q _ (I.hok.fresh (Nat.le_refl _))⟩;exact ⟨Nat.le_trans (Xh xs lo hi) hz,_,(r.drop (HT.sIx xs.length 0 lo)).take (HT.sIx xs.length xs.length hi - HT.sIx xs.length 0 lo),IsTup.new _ _⟩
def Wg (K:PySem.W.Frag):R2:=λx y H Q=>∃a b xs ys,x=.ref a/\y=.ref b/\SqT K H a xs/\SqT K H b ys/\xs≠ []/\xs.length + ys.length<=sizeLine/\
 (ys= []->Q (.ref a) H)/\(ys≠ []->∀p,H p=none->Q (.ref p) (upd H p (.tup (xs++ys))))
theorem Vals.T4 {xs:List V} {us:List Value} (r:Vals xs us):us= []↔xs= []:=by
 cases r with
 | nil=>simp
 | cons _ _=>simp
theorem ZBF:OpR X (binaryOp .Add) (Wg X.K):=by
 intro pins s σ H x y v u Q I rx ry h;obtain ⟨a,b,xs,ys,rfl,rfl,ha,hb,hx,hz,q1,q2⟩:=h;cases rx;cases ry;obtain ⟨its,r1,p1,_⟩:=I.tuple ha;obtain ⟨its2,r2,p2,_⟩:=I.tuple hb;refine HT.ZEa p1 p2 (λz=>hx (r1.T4.mp z)) (λz=>⟨.ref a,H,I,rfl,q1 (r2.T4.mp z)⟩) (λz=> ?_) (by rw [<-r1.length,<-r2.length];exact hz);refine ⟨.ref s.heap.objs.size,_,I.laid (t':=s.toks) (o:=.tup (xs++ys)) (λb ob q=>Heap.get?_push_of_some _ q) (Nat.le_refl _) ?_,rfl,q2 (λw=>z (r2.T4.mpr w)) _ (I.hok.fresh (Nat.le_refl _))⟩
 exact ⟨by rw [List.length_append];exact hz,_,r1.append r2,IsTup.new _ _⟩
end
def ixN (n:Nat) (i:Int):Option Nat:=if 0<=i then (if i < n then some i.toNat else none) else if -(n:Int)<=i then some (i + n).toNat else none
def atI {α:Type} (xs:List α) (i:Int):Option α:=(ixN xs.length i).bind λj=>xs[j]?
theorem ZBS {n:Nat} {i:Int} {j:Nat} (h:ixN n i=some j):seqIndex? i n=some j/\j < n/\ -(n:Int)<=i/\i < n:=by
 unfold ixN at h;by_cases h0:0<=i
 ·rw [if_pos h0] at h;by_cases h1:i < n
  ·rw [if_pos h1] at h;have e:i.toNat=j:=Option.some.inj h;exact ⟨by rw [seqIndex_of h0 h1,e],by omega,by omega,h1⟩
  ·rw [if_neg h1] at h;cases h
 ·rw [if_neg h0] at h;by_cases h1: -(n:Int)<=i
  ·rw [if_pos h1] at h;have e:(i + n).toNat=j:=Option.some.inj h;exact ⟨by rw [seqIndex_neg (by omega) h1,e],by omega,h1,by omega⟩
  ·rw [if_neg h1] at h;cases h
theorem Ro {α:Type} {xs:List α} {i:Int} {v:α} (h:atI xs i=some v):∃j,seqIndex? i xs.length=some j/\xs[j]? =some v/\j < xs.length/\ -(xs.length:Int)<=i/\i < xs.length:=by
 unfold atI at h;cases e:ixN xs.length i with
 | none=>rw [e] at h;cases h
 | some j=>
  rw [e] at h;obtain ⟨h1,h2,h3,h4⟩:=ZBS e;exact ⟨j,h1,h,h2,h3,h4⟩
def PlainIx (b:Expr):Prop:=∀o i,subscripted b false o i=operate [o,i] (getItem o i)
def IxR (X:Cx) (r:R2):Prop:=
 ∀(value slice:Expr) (pins:List (Addr×Obj)) (s:Shared) (σ:St) (H:Hp) (x y:V) (v u:Value) (Q:VK),Inv X pins σ H s->RelV x v->RelV y u->r x y H Q->
  subscripted slice false v u=operate [v,u] (getItem v u)->wpAny (model X.prog X.w) X.A (subscriptTail value slice v u) (EP X pins σ Q) X.xe s
def MtR (X:Cx) (id:String) (r:V->List V->Hp->VK->Prop):Prop:=
 ∀(pins:List (Addr×Obj)) (s:Shared) (σ:St) (H:Hp) (x:V) (xs:List V) (v:Value) (us:List Value) (Q:VK),Inv X pins σ H s->RelV x v->Vals xs us->r x xs H Q->
  wpAny (model X.prog X.w) X.A (call (.builtin id) (v::us)) (EP X pins σ Q) X.xe s
section
variable {X:Cx} {a b:Expr} {ta tb:TE} {pos:Pos}
theorem IxR.or {r r':R2} (h:IxR X r) (h':IxR X r'):IxR X (λx y H Q=>r x y H Q∨r' x y H Q):=by
 intro value slice pins s σ H x y v u Q I rx ry q hs;rcases q with q | q
 ·exact h value slice pins s σ H x y v u Q I rx ry q hs
 ·exact h' value slice pins s σ H x y v u Q I rx ry q hs
theorem ZC1 {r:R2} (hr:IxR X r) (ha:PE X a ta) (hb:PE X b tb) (hs:PlainIx b):PE X (.Subscript a b pos) (tOp r ta tb):=by intro pins s σ H Q I h;exact Subscript_ (Sd ha hb I h λv u s2 x y H2 I2 rx ry q=>hr a b pins s2 σ H2 x y v u Q I2 rx ry q (hs _ _))
def rIxL (K:PySem.W.Frag):R2:=λx y H Q=>∃p xs i v,x=.ref p/\y=.int i/\SqL K H p xs/\atI xs i=some v/\Q v H
def rIxT (K:PySem.W.Frag):R2:=λx y H Q=>∃p xs i v,x=.ref p/\y=.int i/\SqT K H p xs/\atI xs i=some v/\Q v H
def rIxS:R2:=λx y H Q=>∃z i c,x=.str z/\y=.int i/\z.length<=sizeLine/\atI z.cps.toList i=some c/\Q (.str ⟨#[c]⟩) H
theorem ZAs:IxR X (rIxL X.K):=by
 intro value slice pins s σ H x y v u Q I rx ry h hs;obtain ⟨p,xs,i,z,rfl,rfl,hq,he,q⟩:=h;cases rx;obtain ⟨t,rfl⟩:=ry;obtain ⟨its,r,pl,hz⟩:=I.list hq;obtain ⟨j,h1,h2,h3,h4,h5⟩:=Ro he;obtain ⟨w,ew,rw'⟩:=r.get h2;have hl:=r.length;have hn:=line63;have fin:EP X pins σ Q w s:=⟨z,H,I,rw',q⟩;by_cases h0:0<=i
 ·have hj:i.toNat=j:=by rw [seqIndex_of h0 h5] at h1;exact Option.some.inj h1
  exact item_listR pl.isList h0 (by omega) (by rw [hj];simpa using ew) fin hs
 ·have hj:(i + (its.toArray.size:Int)).toNat=j:=by rw [seqIndex_neg (by omega) h4] at h1;rw [List.size_toArray,<-hl];exact Option.some.inj h1
  exact subscriptTail_builtinR (x:=w) pl.isList.typeIs slot_list_getitem.lookup
   (wpAny_getItem_list_neg (Q:=λr s'=>r=w/\EP X pins σ Q r s') pl.isList (by omega) (by rw [List.size_toArray] <;> omega) (by omega) (by rw [hj];simpa using ew) ⟨rfl,fin⟩) hs
theorem ZAo:IxR X (rIxT X.K):=by
 intro value slice pins s σ H x y v u Q I rx ry h hs;obtain ⟨p,xs,i,z,rfl,rfl,hq,he,q⟩:=h;cases rx;obtain ⟨t,rfl⟩:=ry;obtain ⟨its,r,pl,hz⟩:=I.tuple hq;obtain ⟨j,h1,h2,h3,h4,h5⟩:=Ro he;obtain ⟨w,ew,rw'⟩:=r.get h2;have hl:=r.length;have hn:=line63;have fin:EP X pins σ Q w s:=⟨z,H,I,rw',q⟩;exact subscriptTail_builtinR (x:=w) pl.typeIs slot_tuple_getitem.lookup
  (getItem_tuple (j:=j) (Q:=λr s'=>r=w/\EP X pins σ Q r s') pl (by omega) (by omega) (by rw [List.size_toArray,<-hl];exact h1) (by simpa using ew) ⟨rfl,fin⟩) hs
theorem ZEJ:IxR X rIxS:=by
 intro value slice pins s σ H x y v u Q I rx ry h hs;obtain ⟨z,i,c,rfl,rfl,hz,he,q⟩:=h;obtain ⟨t,rfl⟩:=rx;obtain ⟨t',rfl⟩:=ry;obtain ⟨j,h1,h2,h3,h4,h5⟩:=Ro he;have hl:z.cps.toList.length=z.length:=by simp [Str.length]
 rw [hl] at h1 h4 h5;have hn:=line63;exact tail_any (typeIs_str s z t) slot_str_getitem.lookup (getItem_str (c:=c) (by have e1:decide (i < -(2 ^ 63:Int))=false:=decide_eq_false (by omega);have e2:decide (i ≥ 2 ^ 63)=false:=decide_eq_false (by omega);rw [e1,e2,Bool.or_false]) (by rw [h1];simpa using h2) ⟨.str ⟨#[c]⟩,H,I.tok _,⟨_,rfl⟩,q⟩) hs
def rIx (K:PySem.W.Frag):R2:=λx y H Q=>rIxL K x y H Q∨rIxT K x y H Q∨rIxS x y H Q
theorem ZB7:IxR X (rIx X.K):=ZAs.or (ZAo.or ZEJ)
theorem Inv.lst {pins:List (Addr×Obj)} {σ:St} {H:Hp} {p:Addr} {xs:List V} (I:Inv X pins σ H s) (h:H p=some (.lst xs)):
  ∃(its:List Value) (n:Nat),Vals xs its/\s.heap.get? p=some {cls:=.type "list",data:=.seq its.toArray n}/\xs.length<=sizeLine:=by
 obtain ⟨z,its,n,r,e⟩:=I.hok p _ h;exact ⟨its,n,r,e,z⟩
theorem ZCt (lo hi:Option Int) (n:Nat):(sliceBounds lo hi none n).1=((HT.sIx n 0 lo:Nat):Int)/\(sliceBounds lo hi none n).2.1=((HT.sIx n n hi:Nat):Int)/\(sliceBounds lo hi none n).2.2=1:=by
 refine ⟨?_,?_,rfl⟩
 ·cases lo with
  | none=>simp [sliceBounds,HT.sIx]
  | some i=>
   simp only [sliceBounds,HT.sIx,Option.getD_none,show (1:Int) > 0 by decide,if_true];by_cases h:i < 0
   ·simp only [h,if_true] <;> omega
   ·simp only [h,if_false] <;> omega
 ·cases hi with
  | none=>simp [sliceBounds,HT.sIx]
  | some i=>
   simp only [sliceBounds,HT.sIx,Option.getD_none,show (1:Int) > 0 by decide,if_true];by_cases h:i < 0
   ·simp only [h,if_true] <;> omega
   ·simp only [h,if_false] <;> omega
theorem ZCB (its:List Value) (lo hi:Option Int):slicePick its.toArray lo hi none=((its.drop (HT.sIx its.length 0 lo)).take (HT.sIx its.length its.length hi - HT.sIx its.length 0 lo)).toArray:=by
 obtain ⟨h1,h2,h3⟩:=ZCt lo hi its.toArray.size;unfold slicePick;rw [h1,h2,h3]
 simp only [sliceRange_one,pick_run,List.size_toArray] <;> rfl
def rSlL (K:PySem.W.Frag):V->Option Int->Option Int->Hp->VK->Prop:=λx lo hi H Q=>∃a xs,x=.ref a/\SqL K H a xs/\∀p,H p=none->Q (.ref p) (upd H p (.lst (Fq xs lo hi)))
theorem ZBv:SlR X (rSlL X.K):=by
 intro pins s σ H x v vl vu lo hi sl Q I rx hs pl pu h;obtain ⟨a,xs,rfl,hx,q⟩:=h;cases rx;obtain ⟨its,r,ht,hz⟩:=I.list hx;have hlen:=r.length;refine ⟨"list",_,slot_list_getitem.lookup,ht.isList.typeIs,?_⟩
 refine wpAny_getItem_list_slice ht.isList hs pl pu .none (by simp) ?_ (by rw [List.size_toArray] <;> omega)
 rw [ZCB,<-hlen];refine ⟨.ref s.heap.objs.size,_,I.laid (t':=s.toks) (o:=.lst (Fq xs lo hi)) (λb ob q=>Heap.get?_push_of_some _ q) (Nat.le_refl _) ?_,rfl,q _ (I.hok.fresh (Nat.le_refl _))⟩;exact ⟨Nat.le_trans (Xh xs lo hi) hz,_,0,(r.drop (HT.sIx xs.length 0 lo)).take (HT.sIx xs.length xs.length hi - HT.sIx xs.length 0 lo),Heap.get?_push_size _ rfl⟩
def Bj:V->Bool
 | .non=>true
 | .bl _=>true
 | .int _=>true
 | .str _=>true
 | _=>false
def eqV:V->V->Bool
 | .non,.non=>true
 | .bl a,.bl b=>a == b
 | .bl a,.int b=>(if a then 1 else 0) == b
 | .int a,.bl b=>a == (if b then 1 else 0)
 | .int a,.int b=>a == b
 | .str a,.str b=>a == b
 | _,_=>false
theorem Wa {A:Around} {y x:V} {u:Value} (ry:RelV y u) (rx:RelV x v) (fy:Bj y=true) (fx:Bj x=true):SeqAt.EqAt A s u v (eqV y x):=by
 cases y with
 | non=>
  cases ry;cases x with
  | non=>cases rx;exact SeqAt.EqAt.same _
  | bl b=>cases rx;exact SeqAt.EqAt.none_bool b
  | int b=>obtain ⟨t,rfl⟩:=rx;exact SeqAt.EqAt.none_int b t
  | str b=>obtain ⟨t,rfl⟩:=rx;exact SeqAt.EqAt.none_str b t
  | _=>exact absurd (show false=true from fx) Bool.false_ne_true
 | bl a=>
  cases ry;cases x with
  | non=>cases rx;exact SeqAt.EqAt.bool_none a
  | bl b=>cases rx;exact SeqAt.EqAt.bool_bool a b
  | int b=>obtain ⟨t,rfl⟩:=rx;exact SeqAt.EqAt.bool_int a b t
  | str b=>obtain ⟨t,rfl⟩:=rx;exact SeqAt.EqAt.bool_str a b t
  | _=>exact absurd (show false=true from fx) Bool.false_ne_true
 | int a=>
  obtain ⟨t',rfl⟩:=ry;cases x with
  | non=>cases rx;exact SeqAt.EqAt.int_none a t'
  | bl b=>cases rx;exact SeqAt.EqAt.int_bool a t' b
  | int b=>obtain ⟨t,rfl⟩:=rx;exact SeqAt.EqAt.int_int a t' b t
  | str b=>obtain ⟨t,rfl⟩:=rx;exact SeqAt.EqAt.int_str a t' b t
  | _=>exact absurd (show false=true from fx) Bool.false_ne_true
 | str a=>
  obtain ⟨t',rfl⟩:=ry;cases x with
  | non=>cases rx;exact SeqAt.EqAt.str_none a t'
  | bl b=>cases rx;exact SeqAt.EqAt.str_bool a t' b
  | int b=>obtain ⟨t,rfl⟩:=rx;exact SeqAt.EqAt.str_int a t' b t
  | str b=>obtain ⟨t,rfl⟩:=rx;exact SeqAt.EqAt.str_str a t' b t
  | _=>exact absurd (show false=true from fx) Bool.false_ne_true
 | _=>exact absurd (show false=true from fy) Bool.false_ne_true
def eqU (x:V) (u:Value):Bool:=match u with
 | .none=>eqV .non x
 | .bool b=>eqV (.bl b) x
 | .int i _=>eqV (.int i) x
 | .str z _=>eqV (.str z) x
 | _=>false
theorem Vx {x y:V} {u:Value} (r:RelV y u) (f:Bj y=true):eqU x u=eqV y x:=by
 cases y with
 | non=>cases r;rfl
 | bl b=>cases r;rfl
 | int i=>obtain ⟨t,rfl⟩:=r;rfl
 | str z=>obtain ⟨t,rfl⟩:=r;rfl
 | _=>exact absurd (show false=true from f) Bool.false_ne_true
theorem Jz {x:V}:∀{xs:List V} {us:List Value},Vals xs us->xs.all Bj=true->us.any (eqU x)=xs.any λy=>eqV y x
 | _,_,.nil,_=>rfl
 | y::xs,u::us,.cons r t,f=>by rw [List.all_cons,Bool.and_eq_true] at f;rw [List.any_cons,List.any_cons,Vx r f.1,Jz t f.2]
theorem Km {A:Around} {x:V} (rx:RelV x v) (fx:Bj x=true):∀{xs:List V} {us:List Value},Vals xs us->xs.all Bj=true->∀u∈us,SeqAt.EqAt A s u v (eqU x u)
 | _,_,.nil,_=>λu hu=>by cases hu
 | y::xs,u::us,.cons r t,f=>λu' hu=>by
  rw [List.all_cons,Bool.and_eq_true] at f;rcases List.mem_cons.mp hu with rfl | hu
  ·rw [Vx r f.1];exact Wa r rx f.1 fx
  ·exact Km rx fx t f.2 u' hu
def inV (x:V) (xs:List V):Bool:=xs.any λy=>eqV y x
def rIn (K:PySem.W.Frag) (neg:Bool):R2:=λx y H Q=>∃p xs,y=.ref p/\(SqL K H p xs∨SqT K H p xs)/\Bj x=true/\xs.all Bj=true/\Q (.bl (if neg then !inV x xs else inV x xs)) H
theorem ZEO:OpR X (compareOp .In) (rIn X.K false):=by
 intro pins s σ H x y v u Q I rx ry h;obtain ⟨p,xs,rfl,hq,fx,fs,q⟩:=h;cases ry;rcases hq with hq | hq
 ·obtain ⟨its,r,pl,hz⟩:=I.list hq;refine SeqAt.in_listAt (eqU x) pl.isList (λw hw=>Km rx fx r fs w (by simpa using hw)) ⟨.bl _,H,I,rfl,?_⟩;rw [show its.toArray.any (eqU x)=its.any (eqU x) by simp,Jz r fs];exact q
 ·obtain ⟨its,r,pl,hz⟩:=I.tuple hq;refine SeqAt.in_tupleAt (eqU x) pl (λw hw=>Km rx fx r fs w (by simpa using hw)) ⟨.bl _,H,I,rfl,?_⟩;rw [show its.toArray.any (eqU x)=its.any (eqU x) by simp,Jz r fs];exact q
theorem ZAD:OpR X (compareOp .NotIn) (rIn X.K true):=by
 intro pins s σ H x y v u Q I rx ry h;obtain ⟨p,xs,rfl,hq,fx,fs,q⟩:=h;cases ry;rcases hq with hq | hq
 ·obtain ⟨its,r,pl,hz⟩:=I.list hq;refine SeqAt.notIn_listAt (eqU x) pl.isList (λw hw=>Km rx fx r fs w (by simpa using hw)) ⟨.bl _,H,I,rfl,?_⟩;rw [show its.toArray.any (eqU x)=its.any (eqU x) by simp,Jz r fs];exact q
 ·obtain ⟨its,r,pl,hz⟩:=I.tuple hq;refine SeqAt.notIn_tupleAt (eqU x) pl (λw hw=>Km rx fx r fs w (by simpa using hw)) ⟨.bl _,H,I,rfl,?_⟩;rw [show its.toArray.any (eqU x)=its.any (eqU x) by simp,Jz r fs];exact q
theorem ZDc:CallR X (.builtin "len") (λxs H Q=>∃p ys,xs= [.ref p]/\(SqL X.K H p ys∨SqT X.K H p ys)/\Q (.int ys.length) H):=by
 intro pins s σ H xs us Q I r h;obtain ⟨p,ys,rfl,hq,q⟩:=h;obtain ⟨u,rfl,rx⟩:=vals1 r;cases rx;have hn:=line63;rcases hq with hq | hq
 ·obtain ⟨its,r',pl,hz⟩:=I.list hq;have hlen:=r'.length
  exact Calls.call_len_list pl.isList (by simp only [List.size_toArray] <;> omega) ⟨.int ys.length,H,I.tok _,⟨s.toks + 1,by rw [List.size_toArray,hlen]⟩,q⟩
 ·obtain ⟨its,r',pl,hz⟩:=I.tuple hq;have hlen:=r'.length
  exact len_tuple pl (by simp only [List.size_toArray] <;> omega) ⟨.int ys.length,H,I.tok _,⟨s.toks + 1,by rw [List.size_toArray,hlen]⟩,q⟩
theorem ZEF:CallR X (.builtin "len") (λxs H Q=>∃z,xs= [.str z]/\z.length<=sizeLine/\Q (.int z.length) H):=by intro pins s σ H xs us Q I r h;obtain ⟨z,rfl,hz,q⟩:=h;obtain ⟨u,rfl,t,rfl⟩:=vals1 r;have hn:=line63;exact len_str (by omega) ⟨.int z.length,H,I.tok _,⟨_,rfl⟩,q⟩
theorem CallR.or {f:Value} {r r':List V->Hp->VK->Prop} (h:CallR X f r) (h':CallR X f r'):CallR X f (λxs H Q=>r xs H Q∨r' xs H Q):=by
 intro pins s σ H xs us Q I rs q;rcases q with q | q
 ·exact h pins s σ H xs us Q I rs q
 ·exact h' pins s σ H xs us Q I rs q
theorem ZBf:CallR X (.type "tuple") (λxs H Q=>∃p ys,xs= [.ref p]/\((SqL X.K H p ys/\∀l,H l=none->Q (.ref l) (upd H l (.tup ys)))∨(SqT X.K H p ys/\Q (.ref p) H))):=by
 intro pins s σ H xs us Q I r h;obtain ⟨p,ys,rfl,h⟩:=h;obtain ⟨u,rfl,rx⟩:=vals1 r;cases rx;rcases h with ⟨hq,q⟩ | ⟨hq,q⟩
 ·obtain ⟨its,r',pl,hz⟩:=I.list hq;have hlen:=r'.length
  refine call_tuple_list pl.isList (λh' kp=> ?_) (by simp only [List.size_toArray] <;> omega)
  have I1:Inv X pins σ H {s with heap:=h'}:=I.kept (t':=s.toks) kp;have I2:Inv X pins σ (upd H h'.objs.size (.tup ys)) {s with heap:=h'.push {cls:=.type "tuple",data:=.seq its.toArray}}:=
   I1.laid (t':=s.toks) (λb o e=>Heap.get?_push_of_some _ e) (Nat.le_refl _) (show ObjOk X.prog X.w _ _ _ (.tup ys) from ⟨hz,its,r',IsTup.new _ _⟩)
  exact ⟨.ref h'.objs.size,_,I2,rfl,q _ (I1.hok.fresh (Nat.le_refl _))⟩
 ·obtain ⟨its,r',pl,hz⟩:=I.tuple hq;exact call_tuple_same pl ⟨.ref p,H,I,rfl,q⟩
def tyV (K:PySem.W.Frag) (T:String) (x:V) (H:Hp):Prop:=match x with
 | .str _=>T="str"
 | .int _=>T="int"
 | .ref p=>(T="list"/\∃xs,SqL K H p xs)∨(T="tuple"/\∃o,K.lookup p=some o/\o.cls=.type "tuple"/\o.dict=none)∨
   (T="dict"/\((∃kvs,H p=some (.dK kvs))∨∃kvs,H p=some (.dT kvs)))∨(T="set"/\∃S n,H p=some (.set S n))
 | _=>False
theorem Z1 {pins:List (Addr×Obj)} {σ:St} {H:Hp} {T:String} {x:V} (I:Inv X pins σ H s) (r:RelV x v) (ty:tyV X.K T x H):
  s.TypeIs v T/\∀a,v=.ref a->∃ob,s.heap.get? a=some ob/\ob.dict=none:=by
 cases x with
 | str z=>
  obtain ⟨t,rfl⟩:=r
  cases (show T="str" from ty)
  exact ⟨typeIs_str s z t,λ_ e=>nomatch e⟩
 | int i=>
  obtain ⟨t,rfl⟩:=r
  cases (show T="int" from ty)
  exact ⟨typeIs_int s i t,λ_ e=>nomatch e⟩
 | ref p=>
  cases r;rcases ty with ⟨rfl,xs,hq⟩ | ⟨rfl,o,hk,hc,hd⟩ | ⟨rfl,hk⟩ | ⟨rfl,S,n,hk⟩
  ·obtain ⟨its,_,pl,_⟩:=I.list hq;refine ⟨pl.isList.typeIs,λa e=> ?_⟩;cases e;obtain ⟨o,n,e,c,hd,_⟩:=pl;exact ⟨o,e,hd⟩
  ·refine ⟨⟨o,I.kIn p o hk,hc⟩,λa e=> ?_⟩;cases e;exact ⟨o,I.kIn _ o hk,hd⟩
  ·have z:∃o,s.heap.get? p=some o/\o.ExactDict:=by
    rcases hk with ⟨kvs,hk⟩ | ⟨kvs,hk⟩
    ·obtain ⟨_,_,_,_,o,_,_,e,ex,_⟩:=I.hok p _ hk;exact ⟨o,e,ex⟩
    ·obtain ⟨_,_,_,_,o,_,_,e,ex,_⟩:=I.hok p _ hk;exact ⟨o,e,ex⟩
   obtain ⟨o,e,ex⟩:=z;refine ⟨⟨o,e,ex.1⟩,λa e2=> ?_⟩;cases e2;exact ⟨o,e,ex.2.1⟩
  ·obtain ⟨o,_,_,_,e,ex,_⟩:=I.hok p _ hk;refine ⟨⟨o,e,ex.1⟩,λa e2=> ?_⟩;cases e2;exact ⟨o,e,ex.2.1⟩
 | _=>exact False.elim ty
def tBM (K:PySem.W.Frag) (T:String) (r:V->List V->Hp->VK->Prop) (to:TE) (t:TA):TE:=λσ H Q=>to σ H λx H1=>tyV K T x H1/\t σ H1 λxs H2=>r x xs H2 Q
variable {o e:Expr} {es:List Expr} {to:TE} {t:TA} {name:Str} {apos cpos:Pos} {T id:String} {r:V->List V->Hp->VK->Prop}
theorem Vo (pa:PlainAttrs T) (slot:Slot T name id) (hty:typeOf (.builtin id)=pure (.type "method_descriptor")) (hm:MtR X id r) (ho:PE X o to) (ha:PA X (e::es) t)
  (hbase:attributeBase o name X.env (eval o X.env)=eval o X.env:=by rfl)
  (hfew:((backTo cpos (starEach (e::es) X.env)).all (λx=> !x.1) && (backToKw cpos (keywordEach [] X.env)).all (λx=>x.1.isSome)
   && decide ((e::es).length + ([]:List Keyword).length + (if ([]:List Keyword).isEmpty then 0 else 1) < 30))=true:=by rfl)
  (hline:(apos.endLine == cpos.line)=true:=by rfl) (hs:starEach (e::es) X.env=(false,eval e X.env)::starEach es X.env:=by rfl) (hplain:(backTo cpos (starEach es X.env)).any (·.1)=false:=by rfl):
  PE X (.Call (.Attribute o name apos) (e::es) [] cpos) (tBM X.K T r to t):=by
 intro pins s σ H Q I h;refine wpAny_Call_method_late hbase hfew hline rfl (thn (ho pins s σ H _ I h) λv s1 ⟨x,H1,I1,r1,ty,q1⟩=> ?_);obtain ⟨h1,h2⟩:=Z1 I1 r1 ty;refine ⟨T,id,pa,slot,hty,h1,h2,?_⟩;have hA:=ha cpos pins s1 σ H1 _ I1 q1;rw [hs] at hA ⊢
 refine Calls.callWith_builtin (by show (false || (backTo cpos (starEach es X.env)).any (·.1))=false;rw [hplain] <;> rfl) (Calls.evalArgs_plain ?_)
 exact thn hA λus s2 ⟨vs,H2,I2,r2,q2⟩=>hm pins s2 σ H2 x vs v us Q I2 r1 r2 q2
end
def MtM (X:Cx) (id:String) (r:V->List V->Hp->VK->Prop):Prop:=
 ∀(pins:List (Addr×Obj)) (s:Shared) (σ:St) (H:Hp) (x:V) (xs:List V) (v:Value) (us:List Value) (Q:VK),Inv X pins σ H s->RelV x v->Vals xs us->r x xs H Q->
  wpAny (model X.prog X.w) X.A (call (.builtin id) (v::us)) (EP X pins σ Q) X.xe s
theorem Vals.one:∀{x:V} {us:List Value},Vals [x] us->∃u,us= [u]/\RelV x u
 | _,_,.cons r .nil=>⟨_,rfl,r⟩
theorem Vals.two:∀{x y:V} {us:List Value},Vals [x,y] us->∃u v,us= [u,v]/\RelV x u/\RelV y v
 | _,_,_,.cons r (.cons q .nil)=>⟨_,_,rfl,r,q⟩
theorem Vals.zero:∀{us:List Value},Vals [] us->us= []
 | _,.nil=>rfl
section
variable {X:Cx} {pins:List (Addr×Obj)} {σ:St} {H:Hp} {s:Shared} {l b:Addr} {xs ys zs:List V}
theorem Inv.lset {its its':List Value} {n:Nat} {f:Array Value->Array Value} {t':Nat} (I:Inv X pins σ H s) (hH:H l=some (.lst xs))
  (e:s.heap.get? l=some {cls:=.type "list",data:=.seq its.toArray n}) (hf:f its.toArray=its'.toArray) (hv:Vals ys its') (hz:ys.length<=sizeLine):
  Inv X pins σ (upd H l (.lst ys)) {s with heap:=s.heap.update l (Obj.mapSeq f),toks:=t'}:=by
 have q:=PySem.IsL.update e f;rw [hf] at q;refine I.write (x:=l) (e:=l) (by rw [hH];exact trivial) (.inl rfl) (λb' u hb hu=>(Heap.get?_update_other s.heap (Obj.mapSeq f) (Ne.symm hb)).trans hu) ⟨_,q⟩ ?_;exact ⟨hz,its',_,hv,q⟩
theorem Inv.lnew {its:List Value} {t':Nat} (I:Inv X pins σ H s) (hv:Vals ys its) (hz:ys.length<=sizeLine):
  Inv X pins σ (upd H s.heap.objs.size (.lst ys)) {s with heap:=s.heap.push {cls:=.type "list",data:=.seq its.toArray},toks:=t'}:=
 I.laid (λ_ _ q=>Heap.get?_push_of_some _ q) (Nat.le_refl _) ⟨hz,its,0,hv,Heap.get?_push_size _ rfl⟩
theorem Inv.fresh (I:Inv X pins σ H s):H s.heap.objs.size=none:=I.hok.fresh (Nat.le_refl _)
theorem Inv.lstM (I:Inv X pins σ H s) (hH:H l=some (.lst xs)):xs.length<=sizeLine/\∃(its:List Value) (n:Nat),Vals xs its/\xs.length=its.length/\s.heap.get? l=some {cls:=.type "list",data:=.seq its.toArray n}:=by obtain ⟨z,its,n,r,e⟩:=I.hok l _ hH;exact ⟨z,its,n,r,r.length,e⟩
end
section
variable {X:Cx}
def ZDf:V->List V->Hp->VK->Prop:=λx vs H Q=>∃l xs y,x=.ref l/\vs= [y]/\H l=some (.lst xs)/\xs.length < sizeLine/\Q .non (upd H l (.lst (xs++ [y])))
theorem ZAJ:MtM X "list.append" ZDf:=by
 intro pins s σ H x vs v us Q I rx rv h;obtain ⟨l,xs,y,rfl,rfl,hH,hz,q⟩:=h;cases rx;obtain ⟨u,rfl,ru⟩:=rv.one;obtain ⟨z,its,n,r,hl,e⟩:=I.lstM hH;refine call_meets F.slot_list_append ⟨_,e,rfl⟩ F.entry_list_append (F.args_list_append_2 _ _) (PySem.list_append l its.toArray n u (by rw [List.size_toArray];omega)) ⟨e,?_⟩;refine ⟨.non,_,I.lset (its':=its++ [u]) hH e (by simp) (r.append (.cons ru .nil)) ?_,rfl,q⟩
 rw [List.length_append,List.length_singleton];omega
end
section
variable {prog:Program} {w:World} {A:Around} {E:Value->Shared->Prop} {s:Shared}
end
section
variable {X:Cx}
end
end L2
namespace Att
open PySem PySem.W PySem.Calls PyProof.Rows
theorem ZAg {P:Params} {h:Heap}:∀(ns:List Int) (vs:List Value),WellAll P h vs (ns.map WData.int)->IntsAre vs ns:=by
 intro ns
 induction ns with
 | nil=>
  intro vs w;rw [List.map_nil] at w;cases w;exact .nil
 | cons n ns ih=>
  intro vs w;rw [List.map_cons] at w;cases w with
  | cons a b=>
   cases a;exact .cons _ _ (ih _ b)
theorem ZDs {l:OpenLaw} {n:Nat} (hn:l.most=some n) {P:Params} {h:Heap} {args:List WData} {vals:List Value}
  (hpre:l.row.toRowW.claim.pre args=true) (hwl:WellAll P h vals args):
  ∃a vs ns,vals= [Value.ref a]/\args= [WData.list (ns.map WData.int)]/\h.get? a=some {cls:=.type "list",data:=.seq vs.toArray}/\IntsAre vs ns/\ns.length<=n:=by
 have hsh:WShape.hasAll [] args [.list .int]=true:=(pre_splitW hpre).1;have hc:l.pre.holds [] {args:=args}=true:=(pre_splitW hpre).2;obtain ⟨d,r,rfl,h1,h2⟩:=hasAllW_cons hsh;obtain rfl:=hasAllW_nil h2;obtain ⟨xs,rfl,h3⟩:=hasW_list h1;obtain ⟨ns,rfl⟩:=items_int h3;have hlen:ns.length<=n:=by
  unfold OpenLaw.pre at hc;have h4:(WTm.not (.lt (.lit (.int (n:Int))) (.len (.arg 0)))).holds [] {args:= [.list (ns.map .int)]}=true:=by have h4:=(holds_andW hc).1;rw [hn] at h4;exact h4
  have h5:=condW_of h4 (w_not (w_lt w_lit (w_len_list (w_arg rfl))));rw [List.length_map] at h5;refine Nat.le_of_not_lt λq=> ?_
  have q':(n:Int) < ((ns.length:Nat):Int):=by omega
  first
   | (rw [decide_eq_true q'] at h5;exact absurd h5 (by decide))
   | (simp at h5;omega)
 cases hwl with
 | cons w1 w2=>
  cases w2;cases w1 with
  | list ho hall=>exact ⟨_,_,ns,rfl,rfl,ho,ZAg ns _ hall,hlen⟩
theorem ZAh (l:OpenLaw) (args:List WData):l.row.toRowW.claim.post args (.bool true) args=true:=
 postW_of (r:=l.row.toRowW) (X:=(true == true))
  (show WShape.has [] (.bool true) .bool=true by first | rfl | decide | simp [WShape.has,WShape.arms,WShape.armsAll])
  (show (WTm.eq .res (.lit (.bool true))).value [] {args:=args,res:=some (.bool true),after:=args}=some (.bool (true == true)) from w_eq_bool (w_res rfl) w_lit) rfl
section
variable {prog:Program} {w:World} {A:Around} {E:Value->Shared->Prop} {s:Shared} {K:Frag}
end
end Att
namespace L2
open PySem PySem.Spec PyProof.Rows
variable {fd:FuncData} {x qual:Str} {st:Stmt} {f:Addr} {H H':Hp} {y:V} {u:Value} {kvs:List (List Key×V)}
theorem Mh:∀{vs:List Value} {ns:List Int},IntsAre vs ns->Vals (ns.map V.int) vs
 | _,_,.nil=>.nil
 | _,_,.cons n t h=>.cons ⟨t,rfl⟩ (Mh h)
def Only (H:Hp):Prop:=∀b,H b=none∨∃o xs,H b=some (.frz o (.lst xs))
theorem ZAK {P:Program} {w:World} {K:PySem.W.Frag} {mg mb:Str->Option Value} {CX:CXT} {k:Nat} {fa a:Addr} {sp:Sp} {s₁:Shared} {vs:List Value} {ns:List Int}
  (KX:K.In s₁.heap) (hns:s₁.heap.Ns mainGlobals mg) (hb:s₁.heap.Ns builtinsNs mb) (hbb:∀x:Str,x≠"__name__"->mb x=bootBuiltins x) (hlim:s₁.heap.NoLimit) (hg:s₁.gens= #[])
  (ha:s₁.heap.get? a=some {cls:=.type "list",data:=.seq vs.toArray}) (hi:IntsAre vs ns) (hl:ns.length<=sizeLine) (hr:Room k callerA)
  (F:∀base:Heap,K.In base->base.Ns mainGlobals mg->FnOk P w K mg base CX k fa fd [x] sp) (hbind:∀(s:Shared) (u:Value),BindsTo s fd ⟨[u],[]⟩ [(x,u)])
  (hsp:∀H:Hp,Only H->SqL K H a (ns.map V.int)->sp [.ref a] H (λv _=>v=.bl true) λ_ _ _=>False)
  (hCX:∀H e s',CX [] H s₁ (λ_ _ _=>False) e s'->False):
  codeAny (model P w) callerA (.call (.ref fa) ⟨[.ref a],[]⟩) (λr s'=>r=.ok (.ret (.bool true))/\OldK s₁.heap s'.heap/\s'.os=s₁.os/\AllBare s'.gens) s₁:=by
 have rv:=Mh hi;have lenV:=hi.length;have core:∀H:Hp,Only H->SqL K H a (ns.map V.int)->HOk P w H s₁.heap->(∀b,H b≠none->b=a)->(H a≠none->K.lookup a=none)->
   codeAny (model P w) callerA (.call (.ref fa) ⟨[.ref a],[]⟩) (λr s'=>r=.ok (.ret (.bool true))/\OldK s₁.heap s'.heap/\s'.os=s₁.os/\AllBare s'.gens) s₁:=by
  intro H hO hS hok hA hK;have base_of:∀{b:Addr} {o:Obj},s₁.heap.get? b=some o->H b=none->(Ek s₁.heap H).get? b=some o:=λe n=>ZCm e n
  have noA:∀{b:Addr} {o:Obj} {es:Array DictEntry} {ep:Nat},s₁.heap.get? b=some o->o.data=.dict es ep->H b=none:=λ{b o es ep} e d=>by
   cases q:H b with
   | none=>rfl
   | some u=>
    have e':b=a:=hA b (by rw [q];simp);subst e';rw [ha] at e;cases e;have d':Data.seq vs.toArray _=Data.dict es ep:=d;cases d'
  have nsK:∀{b:Addr} {m:Str->Option Value},s₁.heap.Ns b m->(Ek s₁.heap H).Ns b m:=λ{b m} ⟨o,es,ep,e,d,r⟩=>⟨o,es,ep,base_of e (noA e d),d,r⟩
  have hKb:K.In (Ek s₁.heap H):=λb o e=>base_of (KX b o e) (by
   cases q:H b with
   | none=>rfl
   | some u=>
    have e':b=a:=hA b (by rw [q];simp);subst e';rw [hK (by rw [q];simp)] at e;cases e)
  have hM:Mod K mg (Ek s₁.heap H):=⟨hKb,nsK hns,⟨mb,nsK hb,hbb⟩,let ⟨mc,h1,h2⟩:=hlim;⟨mc,nsK h1,h2⟩⟩
  have e0:Env0 P w K mg (Ek s₁.heap H) callerA [] s₁ H:=⟨rfl,hM,λb o e=>ZBk e,Nat.le_of_eq (ZBH _ _),trivial,λb hb=>absurd (show b∈([]:List Addr) from hb) (by simp),hok,.of_eq hg⟩
  refine codeAny_mono ((F _ hKb (nsK hns)).run callerA [] s₁ H ⟨[.ref a],[]⟩ [.ref a] [.ref a] _ _ hr e0 (hbind s₁ (.ref a)) (.cons rfl .nil) (hsp H hO hS)) λr s' h=> ?_
  cases r with
  | error e=>exact (hCX H e s' h).elim
  | ok fl=>
   cases fl with
   | next=>exact False.elim h
   | brk=>exact False.elim h
   | cont=>exact False.elim h
   | ret u=>
    obtain ⟨v,H',os,bare,un,hok',r',q⟩:=h;have q':v=.bl true:=q;subst q';obtain rfl:u=Value.bool true:=r';refine ⟨rfl,OldK.of_keep λb o e=> ?_,os,bare⟩;cases q:H b with
    | none=>exact un.keep b o e q (by intro z;exact absurd (show b∈([]:List Addr) from z) (by simp)) (by simp)
    | some u=>
     rcases hO b with z | ⟨ob,xs,z⟩
     ·rw [q] at z;cases z
     ·have z2:=un.frzs b ob _ z;obtain ⟨e1,_⟩:=hok b _ z;obtain ⟨e2,_⟩:=hok' b _ z2;rw [e] at e1;cases e1;exact e2
 cases hk:K.lookup a with
 | some o=>
  have e:=KX a o hk;rw [ha] at e;cases e;refine core (λ_=>none) (λ_=>.inl rfl) (.inr ⟨_,vs.toArray,_,hk,rfl,rfl,rfl,by rw [List.size_toArray,lenV];exact hl,by simpa using rv⟩) (λb u z=>by have z':(none:Option HO)=some u:=z;cases z') (λb z=>absurd rfl z) λz=>absurd rfl z
 | none=>
  refine core (λb=>if b=a then some (.frz {cls:=.type "list",data:=.seq vs.toArray} (.lst (ns.map V.int))) else none) (λb=> ?_) (.inl (.inr ⟨{cls:=.type "list",data:=.seq vs.toArray},if_pos rfl⟩)) (λb u z=> ?_) (λb z=> ?_) λ_=>hk
  ·by_cases hb:b=a
   ·exact .inr ⟨_,_,if_pos hb⟩
   ·exact .inl (if_neg hb)
  ·by_cases hb:b=a
   ·have z':=(if_pos hb).symm.trans z;cases z';subst hb;exact ⟨ha,by rw [List.length_map];exact hl,vs,_,rv,ha⟩
   ·have z':=(if_neg hb).symm.trans z;cases z'
  ·by_cases hb:b=a
   ·exact hb
   ·exact absurd (if_neg hb) z
def Fj (s:Stmt):Arguments:=match s with
 | .FunctionDef _ a _ _ _ _ _ _ _ _=>a
 | _=>{posonlyargs:= [],args:= [],vararg:=none,kwonlyargs:= [],kw_defaults:= [],kwarg:=none,defaults:= []}
def Ei (s:Stmt):List Stmt:=match s with
 | .FunctionDef _ _ b _ _ _ _ _ _ _=>b
 | _=> []
def Av (s:Stmt):Scope:=match s with
 | .FunctionDef _ _ _ _ _ _ sc _ _ _=>sc
 | _=>{kind:=.function,names:= [],isGenerator:=false,isCoroutine:=false}
abbrev CX0:CXT:=λ_ _ _ _ _ _=>False
abbrev E0:XK:=λ_ _ _=>False
theorem pass0 {X:Cx}:Passes CX0 X E0:=λ_ _ _ _ _ _ _ h=>h.elim
structure Fun (K:PySem.W.Frag) (x qual:Str) (st:Stmt) (f:Addr) (fd:FuncData):Prop where
 ex:∃(oc:Value) (od:Option Addr) (kV doc pm:Value) (an:Option Addr) (cdv ct:Value) (osl:Array (Option Value)),
  fd=PySem.W.fnOf x qual (Fj st) (Ei st) (Av st) .none kV doc pm an cdv ct/\K.lookup f=some ⟨oc,od,.func fd,osl⟩/\PySem.W.codeIn K cdv qual=true
 kp:PySem.W.keepIn K (.ref f)=true
section
variable {P:Program} {w:World} {K:PySem.W.Frag} {mg:Str->Option Value} {base:Heap}
theorem Fun.ok {N ps:List Str} {k:Nat} {sp:Sp} (F:Fun K x qual st f fd) (S:FnScope N ps (Av st)) (len:∀vs H Q E,sp vs H Q E->vs.length=ps.length)
  (hbody:∀(cdv:Value) (A:Around) (outer:List Env) (s:Shared) (H:Hp) (vs:List V) (Q:VK) (E:XK),Room k (A.deeper (envOfC qual (Av st) s.heap.objs.size f cdv))->sp vs H Q E->
   ∃t,PSs (Gn CX0 P w K mg base N qual (Av st) f cdv A outer s H E).nox (Ei st) t/\t {nx:=λ_ H'=>Q .non H',rt:=Q} (start N vs) H):FnOk P w K mg base CX0 (k + 1) f fd ps sp:=by
 obtain ⟨oc,od,kV,doc,pm,an,cdv,ct,osl,rfl,lk,hcd⟩:=F.ex;refine Zc lk hcd S len λA outer s H vs Q E hr hsp=> ?_
 obtain ⟨t,h,q⟩:=hbody cdv A outer s H vs Q E hr hsp;exact ⟨t,h.nox,q⟩
theorem Fun.binds {ps:List Str} (F:Fun K x qual st f fd)
  (h:∀(kV doc pm:Value) (an:Option Addr) (cdv ct:Value) (us:List Value),us.length=ps.length->bindArgs (PySem.W.fnOf x qual (Fj st) (Ei st) (Av st) .none kV doc pm an cdv ct) ⟨us,[]⟩=pure (ps.zip us)):Binds K fd ps []:=by
 obtain ⟨oc,od,kV,doc,pm,an,cdv,ct,osl,rfl,lk,hcd⟩:=F.ex;exact .all (h kV doc pm an cdv ct)
theorem Rc {oc:Value} {od an:Option Addr} {osl:Array (Option Value)} {kV doc pm cdv ct:Value} (l:K.lookup f=some ⟨oc,od,.func (PySem.W.fnOf x qual (Fj st) (Ei st) (Av st) .none kV doc pm an cdv ct),osl⟩)
  (c:PySem.W.codeIn K cdv qual=true) (k:PySem.W.keepIn K (.ref f)=true):Fun K x qual st f (PySem.W.fnOf x qual (Fj st) (Ei st) (Av st) .none kV doc pm an cdv ct):=⟨⟨oc,od,kV,doc,pm,an,cdv,ct,osl,rfl,l,c⟩,k⟩
end
section
variable {X:Cx}
end
def Same (H H':Hp):Prop:=∀b o,H b=some o->H' b=some o
theorem Same.refl (H:Hp):Same H H:=λ_ _ h=>h
theorem Same.trans {H1 H2:Hp} (a:Same H H1) (b:Same H1 H2):Same H H2:=λc o h=>b c o (a c o h)
theorem Same.free (e:Same H H') {l:Addr} (h:H' l=Option.none):H l=Option.none:=by
 cases q:H l with
 | none=>rfl
 | some o=>
  rw [e l o q] at h;cases h
theorem Same.seq {K:PySem.W.Frag} {a:Addr} {xs:List V} (e:Same H H') (h:SqL K H a xs):SqL K H' a xs:=by
 rcases h with (h | ⟨o,h⟩) | h
 ·exact .inl (.inl (e _ _ h))
 ·exact .inl (.inr ⟨o,e _ _ h⟩)
 ·exact .inr h
section
variable {κ:Type} [DecidableEq κ]
def Dh (kvs:List (κ×V)) (k:κ):Option V:=(kvs.find? λkv=>decide (kv.1=k)).map (·.2)
def putK (kvs:List (κ×V)) (k:κ) (v:V):List (κ×V):=
 if (kvs.any λkv=>decide (kv.1=k))=true then kvs.map (λkv=>if kv.1=k then (kv.1,v) else kv) else kvs++ [(k,v)]
def Xa (kvs:List (κ×V)) (k:κ):List (κ×V):=kvs.filter λkv=>decide (kv.1≠k)
theorem Te {p:κ×V} {r:List (κ×V)} {k:κ} (e:p.1=k):Dh (p::r) k=some p.2:=by simp [Dh,List.find?_cons,e]
theorem Rv {p:κ×V} {r:List (κ×V)} {k:κ} (e:¬p.1=k):Dh (p::r) k=Dh r k:=by simp [Dh,List.find?_cons,e]
theorem W7 (k:κ):∀kvs:List (κ×V),(kvs.any λkv=>decide (kv.1=k))=(Dh kvs k).isSome
 | []=>rfl
 | p::r=>by
  rw [List.any_cons];by_cases e:p.1=k
  ·simp only [Te e,decide_eq_true e,Bool.true_or,Option.isSome_some]
  ·rw [Rv e,decide_eq_false e,Bool.false_or];exact W7 k r
theorem RelO.ZDv {o:Option V} {u:Option Value} (r:RelO o u):o.isSome=u.isSome:=by
 cases o with
 | none=>cases u with
  | none=>rfl
  | some _=>exact (show False from r).elim
 | some _=>cases u with
  | none=>exact (show False from r).elim
  | some _=>rfl
theorem RelO.getD {o:Option V} {u:Option Value} {d:V} {d':Value} (r:RelO o u) (rd:RelV d d'):RelV (o.getD d) (u.getD d'):=by
 cases o with
 | none=>cases u with
  | none=>exact rd
  | some _=>exact (show False from r).elim
 | some _=>cases u with
  | none=>exact (show False from r).elim
  | some _=>exact r
theorem KV.val {kvs:List (κ×V)} {vs:List (κ×Value)} (r:KV kvs vs) (k:κ):RelO (Dh kvs k) (valueAt vs k):=by
 unfold KV at r
 induction r with
 | nil=>exact True.intro
 | @cons p q ps qs h t ih=>
  obtain ⟨h1,h2⟩:=h;by_cases e:p.1=k
  ·have e':q.1=k:=h1.symm.trans e;have b:valueAt (q::qs) k=some q.2:=by simp [valueAt,List.find?_cons,e']
   rw [Te e,b];exact h2
  ·have e':¬q.1=k:=λz=>e (h1.trans z)
   have b:valueAt (q::qs) k=valueAt qs k:=by simp [valueAt,List.find?_cons,e']
   rw [Rv e,b];exact ih
theorem KV.any {kvs:List (κ×V)} {vs:List (κ×Value)} (r:KV kvs vs) (k:κ):(kvs.any λkv=>decide (kv.1=k))=vs.any λkv=>decide (kv.1=k):=by
 unfold KV at r
 induction r with
 | nil=>rfl
 | cons h t ih=>rw [List.any_cons,List.any_cons,ih,h.1]
theorem KV.repl {kvs:List (κ×V)} {vs:List (κ×Value)} (r:KV kvs vs) (k:κ) (ry:RelV y u):
  KV (kvs.map λkv=>if kv.1=k then (kv.1,y) else kv) (vs.map λkv=>if kv.1=k then (kv.1,u) else kv):=by
 unfold KV at r ⊢
 induction r with
 | nil=>exact .nil
 | @cons p q ps qs h t ih=>
  rw [List.map_cons,List.map_cons];refine .cons ?_ ih;obtain ⟨h1,h2⟩:=h;by_cases e:p.1=k
  ·rw [if_pos e,if_pos (h1.symm.trans e)];exact ⟨h1,ry⟩
  ·rw [if_neg e,if_neg (λz=>e (h1.trans z))];exact ⟨h1,h2⟩
theorem KV.put {kvs:List (κ×V)} {vs:List (κ×Value)} (r:KV kvs vs) (k:κ) (ry:RelV y u):KV (putK kvs k y) (stored vs k u):=by
 unfold putK stored;rw [r.any k];by_cases e:(vs.any λkv=>decide (kv.1=k))=true
 ·rw [if_pos e,if_pos e];exact r.repl k ry
 ·rw [if_neg e,if_neg e];exact Paired.snoc r ⟨rfl,ry⟩
theorem KV.drop {kvs:List (κ×V)} {vs:List (κ×Value)} (r:KV kvs vs) (k:κ):KV (Xa kvs k) (without vs k):=by
 unfold KV at r ⊢;unfold Xa without
 induction r with
 | nil=>exact .nil
 | @cons p q ps qs h t ih=>
  obtain ⟨h1,h2⟩:=h;rw [List.filter_cons,List.filter_cons];by_cases e:p.1=k
  ·have a:¬decide (p.1≠k)=true:=by simp [e]
   have b:¬decide (q.1≠k)=true:=by simp [h1.symm.trans e]
   rw [if_neg a,if_neg b];exact ih
  ·have e':¬q.1=k:=λz=>e (h1.trans z)
   have a:decide (p.1≠k)=true:=by simp [e]
   have b:decide (q.1≠k)=true:=by simp [e']
   rw [if_pos a,if_pos b];exact .cons ⟨h1,h2⟩ ih
theorem KV.keys {kvs:List (κ×V)} {vs:List (κ×Value)} (r:KV kvs vs):kvs.map (·.1)=vs.map (·.1):=by
 unfold KV at r
 induction r with
 | nil=>rfl
 | cons h t ih=>rw [List.map_cons,List.map_cons,ih,h.1]
theorem KV.length {kvs:List (κ×V)} {vs:List (κ×Value)} (r:KV kvs vs):kvs.length=vs.length:=Paired.length r
end
abbrev KT (H:Hp):List (List Key×V)->List (List Key×Addr×Value)->Prop:=Paired λp q=>p.1=q.1/\H q.2.1=some (.tup (p.1.map kV))/\RelV p.2 q.2.2
theorem KT.val {xs:List (List Key×Addr×Value)} (r:KT H kvs xs) (k:List Key):RelO (Dh kvs k) ((atKey xs k).map (·.2)):=by
 induction r with
 | nil=>exact True.intro
 | @cons p q ps qs h t ih=>
  obtain ⟨h1,_,h2⟩:=h;by_cases e:p.1=k
  ·have e':q.1=k:=h1.symm.trans e;have b:atKey (q::qs) k=some q.2:=by simp [atKey,List.find?_cons,e']
   rw [Te e,b];exact h2
  ·have e':¬q.1=k:=λz=>e (h1.trans z)
   have b:atKey (q::qs) k=atKey qs k:=by simp [atKey,List.find?_cons,e']
   rw [Rv e,b];exact ih
theorem KT.repl {xs:List (List Key×Addr×Value)} (r:KT H kvs xs) (k:List Key) (ry:RelV y u):
  KT H (kvs.map λkv=>if kv.1=k then (kv.1,y) else kv) (xs.map (putAt k u)):=by
 induction r with
 | nil=>exact .nil
 | @cons p q ps qs h t ih=>
  rw [List.map_cons,List.map_cons];refine .cons ?_ ih;obtain ⟨h1,h2,h3⟩:=h;unfold putAt;by_cases e:p.1=k
  ·rw [if_pos e,if_pos (h1.symm.trans e)];exact ⟨h1,h2,ry⟩
  ·rw [if_neg e,if_neg (λz=>e (h1.trans z))];exact ⟨h1,h2,h3⟩
theorem KT.put {xs:List (List Key×Addr×Value)} (r:KT H kvs xs) (k:List Key) {b:Addr} (hb:H b=some (.tup (k.map kV))) (ry:RelV y u):
  KT H (putK kvs k y) (storedH xs k b u):=by
 have e:(kvs.any λkv=>decide (kv.1=k))=(atKey xs k).isSome:=by rw [W7,(r.val k).ZDv,Option.isSome_map]
 unfold putK storedH;rw [e];by_cases q:(atKey xs k).isSome=true
 ·rw [if_pos q,if_pos q];exact r.repl k ry
 ·rw [if_neg q,if_neg q];exact Paired.snoc r ⟨rfl,hb,ry⟩
theorem KT.keeps {xs:List (List Key×Addr×Value)} (r:KT H kvs xs) (ht:∀b ys,H b=some (.tup ys)->H' b=some (.tup ys)):KT H' kvs xs:=
 Paired.Rf r λ_ _ z=>⟨z.1,ht _ _ z.2.1,z.2.2⟩
section
variable {P:Program} {w:World} {H:Hp} {h:Heap} {a:Addr}
end
section
variable {X:Cx} {pins:List (Addr×Obj)} {σ:St} {H:Hp} {s:Shared} {a:Addr} {y v:V} {u r:Value} {o:Option V} {A:Around} {E:Value->Shared->Prop}
end
section
variable {X:Cx} {pins:List (Addr×Obj)} {σ:St} {H:Hp} {s:Shared} {a:Addr} {kvs:List (Key×V)} {k:Key} {u:Value} {A:Around} {E:Value->Shared->Prop}
end
section
variable {X:Cx} {o i e value:Expr} {pos pos' tpos:Pos} {td ty tv:TE}
end
section
variable {X:Cx} {pos:Pos}
end
structure M1 (X:Cx) (o:Expr) (m:Str) (apos:Pos) (e:Expr) (cpos:Pos):Prop where
 base:attributeBase o m X.env (eval o X.env)=eval o X.env
 few:((backTo cpos (starEach [e] X.env)).all (λx=> !x.1) && (backToKw cpos (keywordEach [] X.env)).all (λx=>x.1.isSome)
  && decide (([e]:List Expr).length + ([]:List Keyword).length + (if ([]:List Keyword).isEmpty then 0 else 1) < 30))=true
 line:(apos.endLine == cpos.line)=true
 trees:backTo cpos (starEach [e] X.env)= [(false,eval e X.env)]
structure M2 (X:Cx) (o:Expr) (m:Str) (apos:Pos) (e f:Expr) (cpos:Pos):Prop where
 base:attributeBase o m X.env (eval o X.env)=eval o X.env
 few:((backTo cpos (starEach [e,f] X.env)).all (λx=> !x.1) && (backToKw cpos (keywordEach [] X.env)).all (λx=>x.1.isSome)
  && decide (([e,f]:List Expr).length + ([]:List Keyword).length + (if ([]:List Keyword).isEmpty then 0 else 1) < 30))=true
 line:(apos.endLine == cpos.line)=true
 trees:backTo cpos (starEach [e,f] X.env)= [(false,eval e X.env),(false,eval f X.env)]
section
variable {X:Cx} {pins:List (Addr×Obj)} {σ:St} {H:Hp} {s:Shared} {a:Addr} {y d:V} {u r:Value} {o:Option V} {A:Around} {E:Value->Shared->Prop}
end
section
variable {X:Cx} {o e f:Expr} {apos cpos:Pos} {td ty tx:TE}
end
section
variable {X:Cx} {pins:List (Addr×Obj)} {σ:St} {H:Hp} {s:Shared} {a:Addr} {kvs:List (Key×V)} {A:Around} {E:Value->Shared->Prop}
end
section
variable {X:Cx} {pins:List (Addr×Obj)} {σ:St} {H:Hp} {s:Shared} {a:Addr} {y:V} {u:Value} {A:Around} {E:Value->Shared->Prop}
end
section
variable {X:Cx}
end
end L2
namespace L2
section
variable {κ:Type} [DecidableEq κ]
end
end L2
namespace DL
open PySem PySem.Spec L2
open PyProof.Rows hiding St
variable {α:Type} {K:PySem.W.Frag} {H:Hp} {xs vs:List V} {p:Addr} {v y:V} {σ:St} {E:XK} {Q:VK} {W:Ends} {e tg:Expr} {ho:HO} {q:Option HO} {i n j k nt:Nat} {x:Str} {op:CmpOp} {A:Around} {s:Shared} {P:Program} {w:World} {scope:Scope} {env:Env} {X:Cx}
inductive D where
 | non | bl (b:Bool) | int (i:Int) | str (x:Str) | ty (n:String)
 | tup (xs:List D)
 | fl (xs:List D)
 | ref (i:Nat)
variable {d:D} {ds:List D} {kvs:List (Key×D)}
inductive DO where
 | lst (xs:List D)
 | dct (kvs:List (Key×D))
 | ins (c:Str) (fs:List (Str×D))
 | tab (c m:Str)
 | gone
variable {o:DO}
abbrev DH:=List DO
variable {G G' L:DH}
abbrev DSt:=List (Option D)
variable {S:DSt}
structure Xn where
 cls:Str
 fs:List (Str×D)
inductive R (α:Type) where
 | ok (a:α) (G:DH)
 | err (x:Xn) (G:DH)
 | bad
variable {r:R D} {f:D->D->DH->R D}
def R.bind {α β:Type} (r:R α) (f:α->DH->R β):R β:=match r with
 | .ok a G=>f a G
 | .err x G=>.err x G
 | .bad=>.bad
@[simp] theorem R.Gd {β:Type} (a:α) (G:DH) (f:α->DH->R β):(R.ok a G).bind f=f a G:=id rfl
inductive SR where
 | nx (S:DSt) (G:DH)
 | rt (d:D) (G:DH)
 | bk (S:DSt) (G:DH)
 | ct (S:DSt) (G:DH)
 | err (x:Xn) (G:DH)
 | bad
abbrev DE:=DSt->DH->R D
variable {t te:DE}
abbrev DB:=DSt->DH->R Bool
abbrev DA:=DSt->DH->R (List D)
abbrev DS:=DSt->DH->SR
variable {u:DS}
def FzL (K:PySem.W.Frag) (H:Hp) (a:Addr) (xs:List V):Prop:=
 (∃o,H a=some (.frz o (.lst xs)))∨
  ∃(o:Obj) (its:Array Value) (n:Nat),K.lookup a=some o/\o.cls=.type "list"/\o.dict=none/\o.data=.seq its n/\its.size<=sizeLine/\Vals xs its.toList
theorem FzL.sq {a:Addr} (h:FzL K H a xs):SqL K H a xs:=by
 rcases h with ⟨o,h⟩ | h
 ·exact .inl (.inr ⟨o,h⟩)
 ·exact .inr h
structure Wd where
 K:PySem.W.Frag
 n:Nat
 m:Nat->Addr
 H:Hp
variable {a b c:Wd}
mutual
def Rep (a:Wd):D->V->Prop
 | .non,v=>v=.non
 | .bl b,v=>v=.bl b
 | .int i,v=>v=.int i
 | .str x,v=>v=.str x
 | .ty n,v=>v=.ty n
 | .tup ds,v=>∃p vs,v=.ref p/\SqT a.K a.H p vs/\Reps a ds vs
 | .fl ds,v=>∃p vs,v=.ref p/\FzL a.K a.H p vs/\Reps a ds vs
 | .ref i,v=>i < a.n/\v=.ref (a.m i)
def Reps (a:Wd):List D->List V->Prop
 | [],vs=>vs= []
 | d::ds,vs=>∃v r,vs=v::r/\Rep a d v/\Reps a ds r
end
def lamQ:Str:="Sending.send_by.<locals>.<lambda>"
def TabOk (H:Hp) (P:Addr):Prop:=
 ∃ps:Array Value,H P=some (.tbl ps)/\TriplesOk ps.toList/\∀pos cv,codeAmong pos ps.toList=some cv->∃(c:Addr) (oc:Obj) (vs:Array Value) (t:Tok),cv=.ref c/\H c=some (.frz oc (.own 0))/\oc.data=.fields vs/\vs[1]? =some (.str lamQ t)
theorem TabOk.mono {H':Hp} {P:Addr} (h:TabOk H P) (ht:∀p ps,H p=some (.tbl ps)->H' p=some (.tbl ps)) (hf:∀p o u,H p=some (.frz o u)->H' p=some (.frz o u)):TabOk H' P:=by obtain ⟨ps,e,t,k⟩:=h;refine ⟨ps,ht _ _ e,t,λpos cv hc=> ?_⟩;obtain ⟨c,oc,vs,tk,e1,e2,e3,e4⟩:=k pos cv hc;exact ⟨c,oc,vs,tk,e1,hf _ _ _ e2,e3,e4⟩
def TabAt (K:PySem.W.Frag) (C m:Str) (c P:Addr):Prop:=
 ∃(Ca f:Addr) (oc:Value) (od:Option Addr) (fd:FuncData) (sl:Array (Option Value)),PySem.W.nsIn K mainGlobals C=some (some (.ref Ca))/\PySem.W.findIn K (.ref Ca) m=some (some (.ref f))/\K.lookup f=some ⟨oc,od,.func fd,sl⟩/\fd.code=.ref c/\PySem.W.codeHdIn K c P=true
structure Ext (a b:Wd):Prop where
 k:b.K=a.K
 n:a.n<=b.n
 m:∀i,i < a.n->b.m i=a.m i
 tup:∀p xs,a.H p=some (.tup xs)->b.H p=some (.tup xs)
 frz:∀p o u,a.H p=some (.frz o u)->b.H p=some (.frz o u)
 tab:∀p,TabOk a.H p->TabOk b.H p
theorem Ext.refl (a:Wd):Ext a a:=⟨rfl,Nat.le_refl _,λ_ _=>rfl,λ_ _ h=>h,λ_ _ _ h=>h,λ_ h=>h⟩
theorem Ext.trans (x:Ext a b) (y:Ext b c):Ext a c:=
 ⟨y.k.trans x.k,Nat.le_trans x.n y.n,λi h=>(y.m i (Nat.lt_of_lt_of_le h x.n)).trans (x.m i h),λp xs h=>y.tup p xs (x.tup p xs h),λp o u h=>y.frz p o u (x.frz p o u h),λp h=>y.tab p (x.tab p h)⟩
theorem Ext.sqT (x:Ext a b) (h:SqT a.K a.H p xs):SqT b.K b.H p xs:=by
 rcases h with (h | ⟨o,h⟩) | h
 ·exact .inl (.inl (x.tup _ _ h))
 ·exact .inl (.inr ⟨o,x.frz _ _ _ h⟩)
 ·exact .inr (by rw [x.k];exact h)
theorem Ext.fzL (x:Ext a b) (h:FzL a.K a.H p xs):FzL b.K b.H p xs:=by
 rcases h with ⟨o,h⟩ | h
 ·exact .inl ⟨o,x.frz _ _ _ h⟩
 ·exact .inr (by rw [x.k];exact h)
mutual
theorem Rep.mono (x:Ext a b):∀{d:D} {v:V},Rep a d v->Rep b d v
 | .non,_,h=>h
 | .bl _,_,h=>h
 | .int _,_,h=>h
 | .str _,_,h=>h
 | .ty _,_,h=>h
 | .tup ds,v,h=>by obtain ⟨p,vs,e,q,r⟩:=h;exact ⟨p,vs,e,x.sqT q,Reps.mono x r⟩
 | .fl ds,v,h=>by obtain ⟨p,vs,e,q,r⟩:=h;exact ⟨p,vs,e,x.fzL q,Reps.mono x r⟩
 | .ref i,v,h=>by obtain ⟨l,e⟩:=h;exact ⟨Nat.lt_of_lt_of_le l x.n,by rw [x.m i l];exact e⟩
theorem Reps.mono (x:Ext a b):∀{ds:List D} {vs:List V},Reps a ds vs->Reps b ds vs
 | [],_,h=>h
 | d::ds,vs,h=>by obtain ⟨v,r,e,h1,h2⟩:=h;exact ⟨v,r,e,Rep.mono x h1,Reps.mono x h2⟩
end
theorem Reps.length:∀{ds:List D} {vs:List V},Reps a ds vs->ds.length=vs.length
 | [],vs,h=>by cases (show vs= [] from h);rfl
 | d::ds,vs,h=>by obtain ⟨v,r,e,h1,h2⟩:=h;subst e;show ds.length + 1=r.length + 1;rw [Reps.length h2]
theorem Reps.get:∀{ds:List D} {vs:List V} {i:Nat} {d:D},Reps a ds vs->ds[i]? =some d->∃v,vs[i]? =some v/\Rep a d v
 | [],vs,_,_,h,e=>by simp at e
 | d::ds,vs,0,d',h,e=>by obtain ⟨v,r,e1,h1,h2⟩:=h;subst e1;simp at e;subst e;exact ⟨v,rfl,h1⟩
 | d::ds,vs,i + 1,d',h,e=>by obtain ⟨v,r,e1,h1,h2⟩:=h;subst e1;obtain ⟨w,e2,h3⟩:=Reps.get (i:=i) (d:=d') h2 (by simpa using e);exact ⟨w,by simpa using e2,h3⟩
theorem Reps.get':∀{ds:List D} {vs:List V} {i:Nat} {v:V},Reps a ds vs->vs[i]? =some v->∃d,ds[i]? =some d/\Rep a d v
 | [],vs,_,_,h,e=>by cases (show vs= [] from h);simp at e
 | d::ds,vs,0,v',h,e=>by obtain ⟨v,r,e1,h1,h2⟩:=h;subst e1;simp at e;subst e;exact ⟨d,rfl,h1⟩
 | d::ds,vs,i + 1,v',h,e=>by obtain ⟨v,r,e1,h1,h2⟩:=h;subst e1;obtain ⟨w,e2,h3⟩:=Reps.get' (i:=i) (v:=v') h2 (by simpa using e);exact ⟨w,by simpa using e2,h3⟩
theorem Reps.append:∀{ds es:List D} {vs us:List V},Reps a ds vs->Reps a es us->Reps a (ds++es) (vs++us)
 | [],_,vs,_,h,h'=>by cases (show vs= [] from h);exact h'
 | d::ds,es,vs,us,h,h'=>by obtain ⟨v,r,e1,h1,h2⟩:=h;subst e1;exact ⟨v,r++us,rfl,h1,Reps.append h2 h'⟩
theorem Reps.cons (h:Rep a d v) (r:Reps a ds vs):Reps a (d::ds) (v::vs):=⟨v,vs,rfl,h,r⟩
theorem Reps.nil:Reps a [] []:=rfl
theorem Reps.set (h:Rep a d v):∀{ds:List D} {vs:List V} (i:Nat),Reps a ds vs->Reps a (ds.set i d) (vs.set i v)
 | [],vs,_,r=>by cases (show vs= [] from r);exact rfl
 | d'::ds,vs,0,r=>by obtain ⟨v',r',e1,h1,h2⟩:=r;subst e1;exact ⟨v,r',rfl,h,h2⟩
 | d'::ds,vs,i + 1,r=>by obtain ⟨v',r',e1,h1,h2⟩:=r;subst e1;exact ⟨v',r'.set i v,rfl,h1,Reps.set h i h2⟩
theorem Reps.take:∀{ds:List D} {vs:List V} (i:Nat),Reps a ds vs->Reps a (ds.take i) (vs.take i)
 | _,_,0,_=>rfl
 | [],vs,_ + 1,r=>by cases (show vs= [] from r);exact rfl
 | d'::ds,vs,i + 1,r=>by obtain ⟨v',r',e1,h1,h2⟩:=r;subst e1;exact ⟨v',r'.take i,rfl,h1,Reps.take i h2⟩
theorem Reps.drop:∀{ds:List D} {vs:List V} (i:Nat),Reps a ds vs->Reps a (ds.drop i) (vs.drop i)
 | _,_,0,r=>r
 | [],vs,_ + 1,r=>by cases (show vs= [] from r);exact rfl
 | d'::ds,vs,i + 1,r=>by obtain ⟨v',r',e1,h1,h2⟩:=r;subst e1;exact Reps.drop i h2
theorem Reps.ints:∀(ns:List Int),Reps a (ns.map D.int) (ns.map V.int)
 | []=>rfl
 | n::ns=>⟨.int n,ns.map V.int,rfl,rfl,Reps.ints ns⟩
def RepKV (a:Wd) (kvs:List (Key×D)) (us:List (Key×V)):Prop:=kvs.map (·.1)=us.map (·.1)/\Reps a (kvs.map (·.2)) (us.map (·.2))
def RepF (a:Wd) (fs:List (Str×D)) (us:List (Str×V)):Prop:=fs.map (·.1)=us.map (·.1)/\Reps a (fs.map (·.2)) (us.map (·.2))
def ORep (a:Wd):DO->Option HO->Prop
 | .lst ds,o=>∃vs,o=some (.lst vs)/\Reps a ds vs
 | .dct kvs,o=>∃us,o=some (.dK us)/\RepKV a kvs us
 | .ins c fs,o=>∃C dx us,PySem.W.nsIn a.K mainGlobals c=some (some (.ref C))/\o=some (.ins C dx us)/\RepF a fs us
 | .tab C m,_=>∃c P,TabAt a.K C m c P/\TabOk a.H P
 | .gone,_=>True
structure Sim (a:Wd) (G:DH):Prop where
 len:G.length=a.n
 inj:∀i j,i < a.n->j < a.n->a.m i=a.m j->i=j
 obj:∀(i:Nat) (o:DO),G[i]? =some o->ORep a o (a.H (a.m i))
 tr:∀i,i < a.n->a.H (a.m i)≠none
structure RepS (a:Wd) (S:DSt) (σ:St):Prop where
 len:S.length=σ.length
 get:∀(i:Nat) (d:D),S[i]? =some (some d)->∃v,σ[i]? =some (some v)/\Rep a d v
theorem RepS.mono (x:Ext a b) (r:RepS a S σ):RepS b S σ:=⟨r.len,λi d h=>let ⟨v,e,q⟩:=r.get i d h;⟨v,e,q.mono x⟩⟩
theorem RepS.set (r:RepS a S σ) (i:Nat) (h:Rep a d v):RepS a (S.set i (some d)) (σ.set i (some v)):=by
 refine ⟨by simpa using r.len,λj e he=> ?_⟩;rw [List.getElem?_set] at he ⊢;by_cases hij:i=j
 ·subst hij;rw [if_pos rfl] at he ⊢;by_cases hl:i < S.length
  ·rw [if_pos hl] at he;have e1:d=e:=by simpa using he
   subst e1;rw [if_pos (by rw [<-r.len];exact hl)];exact ⟨v,rfl,h⟩
  ·rw [if_neg hl] at he;cases he
 ·rw [if_neg hij] at he ⊢;exact r.get j e he
def XOk (E:XK) (a:Wd) (x:Xn) (G:DH):Prop:=False
def out (E:XK) (a:Wd) (r:R D) (Q:VK):Prop:=match r with
 | .ok d G=>∀(b:Wd) (v:V),Ext a b->Sim b G->Rep b d v->Q v b.H
 | .err x G=>XOk E a x G
 | .bad=>False
def Cg (E:XK) (a:Wd) (r:R Bool) (Q:Bool->Hp->Prop):Prop:=match r with
 | .ok k G=>∀(b:Wd),Ext a b->Sim b G->Q k b.H
 | .err x G=>XOk E a x G
 | .bad=>False
def Ci (E:XK) (a:Wd) (r:R (List D)) (Q:List V->Hp->Prop):Prop:=match r with
 | .ok ds G=>∀(b:Wd) (vs:List V),Ext a b->Sim b G->Reps b ds vs->Q vs b.H
 | .err x G=>XOk E a x G
 | .bad=>False
def Aw (E:XK) (a:Wd) (r:SR) (W:Ends):Prop:=match r with
 | .nx S G=>∀(b:Wd) (σ:St),Ext a b->Sim b G->RepS b S σ->W.nx σ b.H
 | .bk S G=>∀(b:Wd) (σ:St),Ext a b->Sim b G->RepS b S σ->W.bk σ b.H
 | .ct S G=>∀(b:Wd) (σ:St),Ext a b->Sim b G->RepS b S σ->W.ct σ b.H
 | .rt d G=>∀(b:Wd) (v:V),Ext a b->Sim b G->Rep b d v->W.rt v b.H
 | .err x G=>XOk E a x G
 | .bad=>False
theorem XOk.mono (x:Ext a b) {e:Xn} (h:XOk E a e G):XOk E b e G:=h
theorem out.mono (x:Ext a b) (h:out E a r Q):out E b r Q:=by
 cases r with
 | ok d G=>exact λc v y s q=>h c v (x.trans y) s q
 | err e G=>exact XOk.mono (E:=E) (e:=e) (G:=G) x h
 | bad=>exact h
theorem Cg.mono (x:Ext a b) {r:R Bool} {Q:Bool->Hp->Prop} (h:Cg E a r Q):Cg E b r Q:=by
 cases r with
 | ok d G=>exact λc y s=>h c (x.trans y) s
 | err e G=>exact XOk.mono (E:=E) (e:=e) (G:=G) x h
 | bad=>exact h
theorem Ci.mono (x:Ext a b) {r:R (List D)} {Q:List V->Hp->Prop} (h:Ci E a r Q):Ci E b r Q:=by
 cases r with
 | ok d G=>exact λc vs y s q=>h c vs (x.trans y) s q
 | err e G=>exact XOk.mono (E:=E) (e:=e) (G:=G) x h
 | bad=>exact h
theorem Aw.mono (x:Ext a b) {r:SR} (h:Aw E a r W):Aw E b r W:=by
 cases r with
 | nx d G=>exact λc vs y s q=>h c vs (x.trans y) s q
 | bk d G=>exact λc vs y s q=>h c vs (x.trans y) s q
 | ct d G=>exact λc vs y s q=>h c vs (x.trans y) s q
 | rt d G=>exact λc vs y s q=>h c vs (x.trans y) s q
 | err e G=>exact XOk.mono (E:=E) (e:=e) (G:=G) x h
 | bad=>exact h
def lE (K:PySem.W.Frag) (E:XK) (t:DE):TE:=λσ H Q=>∃(a:Wd) (S:DSt) (G:DH),a.K=K/\a.H=H/\Sim a G/\RepS a S σ/\out E a (t S G) Q
def lB (K:PySem.W.Frag) (E:XK) (t:DB):TT:=λσ H Q=>∃(a:Wd) (S:DSt) (G:DH),a.K=K/\a.H=H/\Sim a G/\RepS a S σ/\Cg E a (t S G) Q
def lA (K:PySem.W.Frag) (E:XK) (t:DA):TA:=λσ H Q=>∃(a:Wd) (S:DSt) (G:DH),a.K=K/\a.H=H/\Sim a G/\RepS a S σ/\Ci E a (t S G) Q
def lS (K:PySem.W.Frag) (E:XK) (t:DS):TS:=λW σ H=>∃(a:Wd) (S:DSt) (G:DH),a.K=K/\a.H=H/\Sim a G/\RepS a S σ/\Aw E a (t S G) W
def lR2 (K:PySem.W.Frag) (E:XK) (f:D->D->DH->R D):R2:=λx y H Q=>∃(a:Wd) (G:DH) (d e:D),a.K=K/\a.H=H/\Sim a G/\Rep a d x/\Rep a e y/\out E a (f d e G) Q
def lRn (K:PySem.W.Frag) (E:XK) (f:List D->DH->R D):List V->Hp->VK->Prop:=λxs H Q=>∃(a:Wd) (G:DH) (ds:List D),a.K=K/\a.H=H/\Sim a G/\Reps a ds xs/\out E a (f ds G) Q
def lF (K:PySem.W.Frag) (f:List D->DH->R D):Sp:=λxs H Q E=>∃(a:Wd) (G:DH) (ds:List D),a.K=K/\a.H=H/\Sim a G/\Reps a ds xs/\out E a (f ds G) Q
section
variable {X:Cx} {E:XK}
def QE (X:Cx) (E:XK) (e:Expr) (t:DE):Prop:=PE X e (lE X.K E t)
def QT (X:Cx) (E:XK) (e:Expr) (t:DB):Prop:=PT X e (lB X.K E t)
def QA (X:Cx) (E:XK) (es:List Expr) (t:DA):Prop:=PA X es (lA X.K E t)
def QS (X:Cx) (E:XK) (st:Stmt) (t:DS):Prop:=PS X st (lS X.K E t)
def QSs (X:Cx) (E:XK) (st:List Stmt) (t:DS):Prop:=PSs X st (lS X.K E t)
theorem _root_.L2.PE.mono {t t':TE} (h:PE X e t) (w:∀σ H Q,t' σ H Q->t σ H Q):PE X e t':=λpins s σ H Q I q=>h pins s σ H Q I (w σ H Q q)
theorem _root_.L2.PT.mono {t t':TT} (h:PT X e t) (w:∀σ H Q,t' σ H Q->t σ H Q):PT X e t':=λpins s σ H Q I q=>h pins s σ H Q I (w σ H Q q)
theorem _root_.L2.PA.mono {e:List Expr} {t t':TA} (h:PA X e t) (w:∀σ H Q,t' σ H Q->t σ H Q):PA X e t':=λpos pins s σ H Q I q=>h pos pins s σ H Q I (w σ H Q q)
theorem _root_.L2.PS.mono {e:Stmt} {t t':TS} (h:PS X e t) (w:∀W σ H,t' W σ H->t W σ H):PS X e t':=λpins s σ H W I q=>h pins s σ H W I (w W σ H q)
theorem _root_.L2.PSs.mono {e:List Stmt} {t t':TS} (h:PSs X e t) (w:∀W σ H,t' W σ H->t W σ H):PSs X e t':=λpins s σ H W I q=>h pins s σ H W I (w W σ H q)
theorem _root_.L2.OpR.mono {f:Value->Value->Sem Value} {r r':R2} (h:OpR X f r) (w:∀x y H Q,r' x y H Q->r x y H Q):OpR X f r':=λpins s σ H x y v u Q I rx ry q=>h pins s σ H x y v u Q I rx ry (w _ _ _ _ q)
end
theorem Cm {f:D->DH->R D} (h:out E a (r.bind f) Q):
  out E a r (λv H=>∃(b:Wd) (d:D) (G:DH),b.H=H/\Ext a b/\Sim b G/\Rep b d v/\r=.ok d G/\out E b (f d G) Q):=by
 cases r with
 | ok d G=>exact λb v x s q=>⟨b,d,G,rfl,x,s,q,rfl,out.mono x h⟩
 | err e G=>exact h
 | bad=>exact h
theorem Jf {r:R (List D)} {f:List D->DH->R D} (h:out E a (r.bind f) Q):
  Ci E a r (λvs H=>∃(b:Wd) (ds:List D) (G:DH),b.H=H/\Ext a b/\Sim b G/\Reps b ds vs/\r=.ok ds G/\out E b (f ds G) Q):=by
 cases r with
 | ok d G=>exact λb v x s q=>⟨b,d,G,rfl,x,s,q,rfl,out.mono x h⟩
 | err e G=>exact h
 | bad=>exact h
theorem ZCp {r:R Bool} {f:Bool->DH->R D} (h:out E a (r.bind f) Q):
  Cg E a r (λk H=>∃(b:Wd) (G:DH),b.H=H/\Ext a b/\Sim b G/\r=.ok k G/\out E b (f k G) Q):=by
 cases r with
 | ok d G=>exact λb x s=>⟨b,G,rfl,x,s,rfl,out.mono x h⟩
 | err e G=>exact h
 | bad=>exact h
theorem ZEH {f:D->DH->R Bool} {Q:Bool->Hp->Prop} (h:Cg E a (r.bind f) Q):
  out E a r (λv H=>∃(b:Wd) (d:D) (G:DH),b.H=H/\Ext a b/\Sim b G/\Rep b d v/\r=.ok d G/\Cg E b (f d G) Q):=by
 cases r with
 | ok d G=>exact λb v x s q=>⟨b,d,G,rfl,x,s,q,rfl,Cg.mono x h⟩
 | err e G=>exact h
 | bad=>exact h
theorem Xx {r:R Bool} {f:Bool->DH->R Bool} {Q:Bool->Hp->Prop} (h:Cg E a (r.bind f) Q):
  Cg E a r (λk H=>∃(b:Wd) (G:DH),b.H=H/\Ext a b/\Sim b G/\r=.ok k G/\Cg E b (f k G) Q):=by
 cases r with
 | ok d G=>exact λb x s=>⟨b,G,rfl,x,s,rfl,Cg.mono x h⟩
 | err e G=>exact h
 | bad=>exact h
theorem ZDT {f:D->DH->R (List D)} {Q:List V->Hp->Prop} (h:Ci E a (r.bind f) Q):
  out E a r (λv H=>∃(b:Wd) (d:D) (G:DH),b.H=H/\Ext a b/\Sim b G/\Rep b d v/\r=.ok d G/\Ci E b (f d G) Q):=by
 cases r with
 | ok d G=>exact λb v x s q=>⟨b,d,G,rfl,x,s,q,rfl,Ci.mono x h⟩
 | err e G=>exact h
 | bad=>exact h
theorem ZCC {r:R (List D)} {f:List D->DH->R (List D)} {Q:List V->Hp->Prop} (h:Ci E a (r.bind f) Q):
  Ci E a r (λvs H=>∃(b:Wd) (ds:List D) (G:DH),b.H=H/\Ext a b/\Sim b G/\Reps b ds vs/\r=.ok ds G/\Ci E b (f ds G) Q):=by
 cases r with
 | ok d G=>exact λb v x s q=>⟨b,d,G,rfl,x,s,q,rfl,Ci.mono x h⟩
 | err e G=>exact h
 | bad=>exact h
def R.toS {α:Type} (r:R α) (f:α->DH->SR):SR:=match r with
 | .ok a G=>f a G
 | .err x G=>.err x G
 | .bad=>.bad
@[simp] theorem R.Gq (a:α) (G:DH) (f:α->DH->SR):(R.ok a G).toS f=f a G:=id rfl
theorem Mq {f:D->DH->SR} (h:Aw E a (r.toS f) W):
  out E a r (λv H=>∃(b:Wd) (d:D) (G:DH),b.H=H/\Ext a b/\Sim b G/\Rep b d v/\r=.ok d G/\Aw E b (f d G) W):=by
 cases r with
 | ok d G=>exact λb v x s q=>⟨b,d,G,rfl,x,s,q,rfl,Aw.mono x h⟩
 | err e G=>exact h
 | bad=>exact h
theorem ZCA {r:R Bool} {f:Bool->DH->SR} (h:Aw E a (r.toS f) W):
  Cg E a r (λk H=>∃(b:Wd) (G:DH),b.H=H/\Ext a b/\Sim b G/\r=.ok k G/\Aw E b (f k G) W):=by
 cases r with
 | ok d G=>exact λb x s=>⟨b,G,rfl,x,s,rfl,Aw.mono x h⟩
 | err e G=>exact h
 | bad=>exact h
section
theorem out.imp {Q':VK} (h:out E a r Q) (w:∀v H,Q v H->Q' v H):out E a r Q':=by
 cases r with
 | ok d G=>exact λb v x s q=>w _ _ (h b v x s q)
 | err e G=>exact h
 | bad=>exact h
theorem Ci.imp {r:R (List D)} {Q Q':List V->Hp->Prop} (h:Ci E a r Q) (w:∀v H,Q v H->Q' v H):Ci E a r Q':=by
 cases r with
 | ok d G=>exact λb v x s q=>w _ _ (h b v x s q)
 | err e G=>exact h
 | bad=>exact h
theorem Cg.imp {r:R Bool} {Q Q':Bool->Hp->Prop} (h:Cg E a r Q) (w:∀v H,Q v H->Q' v H):Cg E a r Q':=by
 cases r with
 | ok d G=>exact λb x s=>w _ _ (h b x s)
 | err e G=>exact h
 | bad=>exact h
def Wd.push (a:Wd) (p:Addr) (ho:HO):Wd:=⟨a.K,a.n + 1,λk=>if k=a.n then p else a.m k,upd a.H p ho⟩
def Wd.put (a:Wd) (p:Addr) (ho:HO):Wd:={a with H:=upd a.H p ho}
theorem Ext.put (h:a.H p=none):Ext a (a.put p ho):=
 ⟨rfl,Nat.le_refl _,λ_ _=>rfl,λq xs e=>by show upd a.H p ho q=_;rw [Aj (De e h)];exact e,λq o u e=>by show upd a.H p ho q=_;rw [Aj (De e h)];exact e,λ_ t=>t.mono (λq ps e=>by show upd a.H p ho q=_;rw [Aj (De e h)];exact e) (λq o u e=>by show upd a.H p ho q=_;rw [Aj (De e h)];exact e)⟩
theorem Ext.push (h:a.H p=none):Ext a (a.push p ho):=
 ⟨rfl,Nat.le_succ _,λi hi=>by show (if i=a.n then p else a.m i)=a.m i;rw [if_neg (Nat.ne_of_lt hi)],λq xs e=>by show upd a.H p ho q=_;rw [Aj (De e h)];exact e,λq o u e=>by show upd a.H p ho q=_;rw [Aj (De e h)];exact e,λ_ t=>t.mono (λq ps e=>by show upd a.H p ho q=_;rw [Aj (De e h)];exact e) (λq o u e=>by show upd a.H p ho q=_;rw [Aj (De e h)];exact e)⟩
theorem ORep.mono (x:Ext a b) (h:ORep a o q):ORep b o q:=by
 cases o with
 | lst ds=>obtain ⟨vs,e,r⟩:=h;exact ⟨vs,e,r.mono x⟩
 | dct kvs=>obtain ⟨us,e,k,r⟩:=h;exact ⟨us,e,k,r.mono x⟩
 | ins c fs=>obtain ⟨C,dx,us,n,e,k,r⟩:=h;exact ⟨C,dx,us,by rw [x.k];exact n,e,k,r.mono x⟩
 | tab C m=>obtain ⟨c,P,e,t⟩:=h;exact ⟨c,P,by rw [x.k];exact e,x.tab _ t⟩
 | gone=>trivial
theorem Sim.lt (s:Sim a G) (h:G[i]? =some o):i < a.n:=by rw [<-s.len];exact (List.getElem?_eq_some_iff.mp h).1
theorem Sim.put (s:Sim a G) (h:a.H p=none):Sim (a.put p ho) G:=by
 refine ⟨s.len,s.inj,λi o e=> ?_,λi hi=> ?_⟩
 ·have z:a.H (a.m i)≠none:=s.tr i (s.lt e);have ne:a.m i≠p:=λq=>z (by rw [q];exact h)
  show ORep _ o (upd a.H p ho (a.m i));rw [Aj ne];exact (s.obj i o e).mono (Ext.put h)
 ·have z:a.H (a.m i)≠none:=s.tr i hi;have ne:a.m i≠p:=λq=>z (by rw [q];exact h)
  show upd a.H p ho (a.m i)≠none;rw [Aj ne];exact z
theorem Sim.push (s:Sim a G) (h:a.H p=none) (r:ORep (a.push p ho) o (some ho)):Sim (a.push p ho) (G++ [o]):=by
 have nep:∀i,i < a.n->a.m i≠p:=λi hi q=>s.tr i hi (by rw [q];exact h)
 have old:∀i,i < a.n->(a.push p ho).m i=a.m i:=λi hi=>by show (if i=a.n then p else a.m i)=_;rw [if_neg (Nat.ne_of_lt hi)]
 have new:(a.push p ho).m a.n=p:=by show (if a.n=a.n then p else a.m a.n)=_;rw [if_pos rfl]
 refine ⟨by simp [s.len,Wd.push],λi j hi hj e=> ?_,λi u e=> ?_,λi hi=> ?_⟩
 ·have hi':i < a.n + 1:=hi;have hj':j < a.n + 1:=hj;by_cases h1:i < a.n
  ·by_cases h2:j < a.n
   ·rw [old i h1,old j h2] at e;exact s.inj i j h1 h2 e
   ·have:j=a.n:=by omega
    subst this;rw [old i h1,new] at e;exact absurd e (nep i h1)
  ·have:i=a.n:=by omega
   subst this;by_cases h2:j < a.n
   ·rw [old j h2,new] at e;exact absurd e.symm (nep j h2)
   ·omega
 ·by_cases h1:i < a.n
  ·rw [List.getElem?_append_left (by rw [s.len];exact h1)] at e;rw [old i h1];show ORep _ u (upd a.H p ho (a.m i));rw [Aj (nep i h1)];exact (s.obj i u e).mono (Ext.push h)
  ·have hl:i < (G++ [o]).length:=(List.getElem?_eq_some_iff.mp e).1;have:i=a.n:=by rw [List.length_append,s.len] at hl;simp at hl;omega
   subst this;rw [List.getElem?_append_right (by rw [s.len];exact Nat.le_refl _),s.len] at e;simp at e;subst e;rw [new];show ORep _ o (upd a.H p ho p);rw [Do];exact r
 ·have hi':i < a.n + 1:=hi;by_cases h1:i < a.n
  ·rw [old i h1];show upd a.H p ho (a.m i)≠none;rw [Aj (nep i h1)];exact s.tr i h1
  ·have:i=a.n:=by omega
   subst this;rw [new];show upd a.H p ho p≠none;rw [Do];simp
theorem Ext.wr (h:a.H p=some (.lst vs)):Ext a (a.put p ho):=
 ⟨rfl,Nat.le_refl _,λ_ _=>rfl,λq xs e=>by
  show upd a.H p ho q=_;rw [Aj (λz=>by subst z;rw [h] at e;cases e)];exact e,λq o u e=>by
  show upd a.H p ho q=_;rw [Aj (λz=>by subst z;rw [h] at e;cases e)];exact e,λ_ t=>t.mono (λq ps e=>by show upd a.H p ho q=_;rw [Aj (λz=>by subst z;rw [h] at e;cases e)];exact e) (λq o u e=>by show upd a.H p ho q=_;rw [Aj (λz=>by subst z;rw [h] at e;cases e)];exact e)⟩
theorem Sim.wr (s:Sim a G) (hi:i < a.n) {vs':List V} {ds':List D} (h:a.H (a.m i)=some (.lst vs)) (r:Reps (a.put (a.m i) (.lst vs')) ds' vs'):Sim (a.put (a.m i) (.lst vs')) (G.set i (.lst ds')):=by
 refine ⟨by rw [List.length_set];exact s.len,s.inj,λj o e=> ?_,λj hj=> ?_⟩
 ·rw [List.getElem?_set] at e;show ORep _ o (upd a.H (a.m i) (.lst vs') (a.m j));by_cases hij:i=j
  ·subst hij;rw [if_pos rfl,if_pos (by rw [s.len];exact hi)] at e;cases e;rw [Do];exact ⟨vs',rfl,r⟩
  ·rw [if_neg hij] at e;rw [Aj λz=>hij (s.inj _ _ (s.lt e) hi z).symm];exact (s.obj j o e).mono (Ext.wr h)
 ·show upd a.H (a.m i) (.lst vs') (a.m j)≠none;by_cases hij:a.m j=a.m i
  ·rw [hij,Do];simp
  ·rw [Aj hij];exact s.tr j hj
mutual
def bel (n:Nat):D->Bool
 | .ref i=>decide (i < n)
 | .tup ds=>bels n ds
 | .fl ds=>bels n ds
 | _=>true
def bels (n:Nat):List D->Bool
 | []=>true
 | d::ds=>bel n d && bels n ds
end
def Gz (n:Nat):DO->Bool
 | .lst ds=>bels n ds
 | .dct kvs=>bels n (kvs.map (·.2))
 | .ins _ fs=>bels n (fs.map (·.2))
 | .tab _ _=>true
 | .gone=>true
mutual
theorem Rep.bel:∀{d:D} {v:V},Rep a d v->bel a.n d=true
 | .non,_,_=>by simp [DL.bel]
 | .bl _,_,_=>by simp [DL.bel]
 | .int _,_,_=>by simp [DL.bel]
 | .str _,_,_=>by simp [DL.bel]
 | .ty _,_,_=>by simp [DL.bel]
 | .tup ds,v,h=>by obtain ⟨p,vs,e,q,r⟩:=h;simp only [DL.bel];exact Reps.bels r
 | .fl ds,v,h=>by obtain ⟨p,vs,e,q,r⟩:=h;simp only [DL.bel];exact Reps.bels r
 | .ref i,v,h=>by obtain ⟨l,e⟩:=h;simp only [DL.bel];exact decide_eq_true l
theorem Reps.bels:∀{ds:List D} {vs:List V},Reps a ds vs->bels a.n ds=true
 | [],_,_=>by simp [DL.bels]
 | d::ds,vs,h=>by
  obtain ⟨v,r,e,h1,h2⟩:=h;simp only [DL.bels];rw [Rep.bel h1,Reps.bels h2]
  rfl
end
structure Cut (b c:Wd):Prop where
 k:c.K=b.K
 h:c.H=b.H
mutual
theorem Rep.cut (x:Cut b c) (hn:n<=c.n) (hm:∀i,i < n->c.m i=b.m i):∀{d:D} {v:V},Rep b d v->bel n d=true->Rep c d v
 | .non,_,h,_=>h
 | .bl _,_,h,_=>h
 | .int _,_,h,_=>h
 | .str _,_,h,_=>h
 | .ty _,_,h,_=>h
 | .tup ds,v,h,q=>by obtain ⟨p,vs,e,t,r⟩:=h;simp only [DL.bel] at q;exact ⟨p,vs,e,by rw [x.k,x.h];exact t,Reps.cut x hn hm r q⟩
 | .fl ds,v,h,q=>by obtain ⟨p,vs,e,t,r⟩:=h;simp only [DL.bel] at q;exact ⟨p,vs,e,by rw [x.k,x.h];exact t,Reps.cut x hn hm r q⟩
 | .ref i,v,h,q=>by obtain ⟨l,e⟩:=h;simp only [DL.bel] at q;have q':=of_decide_eq_true q;exact ⟨Nat.lt_of_lt_of_le q' hn,by rw [hm i q'];exact e⟩
theorem Reps.cut (x:Cut b c) (hn:n<=c.n) (hm:∀i,i < n->c.m i=b.m i):∀{ds:List D} {vs:List V},Reps b ds vs->bels n ds=true->Reps c ds vs
 | [],_,h,_=>h
 | d::ds,vs,h,q=>by obtain ⟨v,r,e,h1,h2⟩:=h;simp only [DL.bels,Bool.and_eq_true] at q;exact ⟨v,r,e,Rep.cut x hn hm h1 q.1,Reps.cut x hn hm h2 q.2⟩
end
theorem ORep.cut (x:Cut b c) (hn:n<=c.n) (hm:∀i,i < n->c.m i=b.m i) (h:ORep b o q) (l:Gz n o=true):ORep c o q:=by
 cases o with
 | lst ds=>obtain ⟨vs,e,r⟩:=h;exact ⟨vs,e,Reps.cut x hn hm r l⟩
 | dct kvs=>obtain ⟨us,e,k,r⟩:=h;exact ⟨us,e,k,Reps.cut x hn hm r l⟩
 | ins c fs=>obtain ⟨C,dx,us,n,e,k,r⟩:=h;exact ⟨C,dx,us,by rw [x.k];exact n,e,k,Reps.cut x hn hm r l⟩
 | tab C m=>obtain ⟨c,P,e,t⟩:=h;exact ⟨c,P,by rw [x.k];exact e,by rw [x.h];exact t⟩
 | gone=>trivial
theorem ORep.Gz (h:ORep a o q):Gz a.n o=true:=by
 cases o with
 | lst ds=>obtain ⟨vs,e,r⟩:=h;exact r.bels
 | dct kvs=>obtain ⟨us,e,k,r⟩:=h;exact r.bels
 | ins c fs=>obtain ⟨C,dx,us,n,e,k,r⟩:=h;exact r.bels
 | tab C m=>rfl
 | gone=>rfl
open Classical in
def tidy (G:DH) (r:R D):R D:=match r with
 | .ok d G'=>if G'.take G.length=G then
   (if bel G.length d=true then .ok d G else match d with
    | .ref i=>match G'[i]? with
     | some o=>if Gz G.length o=true then .ok (.ref G.length) (G++ [o]) else .ok d G'
     | none=>.ok d G'
    | _=>.ok d G') else .ok d G'
 | r=>r
theorem Ym (s:Sim a G) (h:out E a (tidy G r) Q):out E a r Q:=by
 cases r with
 | err e G'=>exact h
 | bad=>exact h
 | ok d G'=>
  intro b v x sb rb;unfold tidy at h;dsimp only at h;split at h
  ·rename_i hG;have hlen:∀i o,G[i]? =some o->G'[i]? =some o:=λi o e=>by have hi:i < G.length:=(List.getElem?_eq_some_iff.mp e).1;rw [<-hG,List.getElem?_take_of_lt hi] at e;exact e
   have base:∀(c:Wd),Cut b c->a.n<=c.n->(∀i,i < a.n->c.m i=b.m i)->∀i o,G[i]? =some o->ORep c o (c.H (c.m i)):=λc cc hn hm i o e=>by have q:=sb.obj i o (hlen i o e);rw [cc.h,hm i (s.lt e)];exact q.cut cc hn hm (s.obj i o e).Gz
   split at h
   ·rename_i hb;rw [s.len] at hb;let c:Wd:=⟨b.K,a.n,b.m,b.H⟩;have cc:Cut b c:=⟨rfl,rfl⟩;refine h c v ⟨x.k,Nat.le_refl _,x.m,x.tup,x.frz,x.tab⟩ ⟨s.len,λi j hi hj=>sb.inj i j (Nat.lt_of_lt_of_le hi x.n) (Nat.lt_of_lt_of_le hj x.n),base c cc (Nat.le_refl _) (λ_ _=>rfl),λi hi=>sb.tr i (Nat.lt_of_lt_of_le hi x.n)⟩ ?_;exact rb.cut cc (Nat.le_refl _) (λ_ _=>rfl) hb
   ·rename_i hb;split at h
    ·rename_i i;obtain ⟨il,iv⟩:=rb;split at h
     ·rename_i o ho;split at h
      ·rename_i hbo;rw [s.len] at hbo hb h;simp only [DL.bel,decide_eq_true_eq] at hb;let c:Wd:=⟨b.K,a.n + 1,λk=>if k=a.n then b.m i else b.m k,b.H⟩;have cc:Cut b c:=⟨rfl,rfl⟩;have cm:∀j,j < a.n->c.m j=b.m j:=λj hj=>by show (if j=a.n then b.m i else b.m j)=_;rw [if_neg (Nat.ne_of_lt hj)]
       have cn:c.m a.n=b.m i:=by show (if a.n=a.n then b.m i else b.m a.n)=_;rw [if_pos rfl]
       have lt':∀j,j < a.n->j < b.n:=λj hj=>Nat.lt_of_lt_of_le hj x.n
       refine h c v ⟨x.k,Nat.le_succ _,λj hj=>(cm j hj).trans (x.m j hj),x.tup,x.frz,x.tab⟩ ⟨by simp [s.len,c],λj k hj hk e=> ?_,λj u e=> ?_,λj hj=> ?_⟩ ⟨Nat.lt_succ_self _,by rw [cn];exact iv⟩
       ·have hj':j < a.n + 1:=hj;have hk':k < a.n + 1:=hk;by_cases h1:j < a.n
        ·by_cases h2:k < a.n
         ·rw [cm j h1,cm k h2] at e;exact sb.inj j k (lt' j h1) (lt' k h2) e
         ·have:k=a.n:=by omega
          subst this;rw [cm j h1,cn] at e;have:=sb.inj j i (lt' j h1) il e;omega
        ·have:j=a.n:=by omega
         subst this;by_cases h2:k < a.n
         ·rw [cm k h2,cn] at e;have:=sb.inj i k il (lt' k h2) e;omega
         ·omega
       ·by_cases h1:j < a.n
        ·rw [List.getElem?_append_left (by rw [s.len];exact h1)] at e;exact base c cc (Nat.le_succ _) cm j u e
        ·have hl:j < (G++ [o]).length:=(List.getElem?_eq_some_iff.mp e).1;have:j=a.n:=by rw [List.length_append,s.len] at hl;simp at hl;omega
         subst this;rw [List.getElem?_append_right (by rw [s.len];exact Nat.le_refl _),s.len] at e;simp at e;subst e;rw [cn];exact (sb.obj i o ho).cut cc (Nat.le_succ _) cm hbo
       ·have hj':j < a.n + 1:=hj;by_cases h1:j < a.n
        ·rw [cm j h1];exact sb.tr j (lt' j h1)
        ·have:j=a.n:=by omega
         subst this;rw [cn];exact sb.tr i il
      ·exact h b v x sb ⟨il,iv⟩
     ·exact h b v x sb ⟨il,iv⟩
    ·exact h b v x sb rb
  ·exact h b v x sb rb
end
def dV (i:Nat):DE:=λS G=>match S[i]? with
 | some (some d)=>.ok d G
 | _=>.bad
def dC (d:D):DE:=λ_ G=>.ok d G
def dOp (f:D->D->DH->R D) (a b:DE):DE:=λS G=>(a S G).bind λx G1=>(b S G1).bind λy G2=>f x y G2
def Ae:DA:=λ_ G=>.ok [] G
def Ac (a:DE) (r:DA):DA:=λS G=>(a S G).bind λx G1=>(r S G1).bind λxs G2=>.ok (x::xs) G2
def dFn (f:List D->DH->R D) (t:DA):DE:=λS G=>(t S G).bind f
def Ip (t:DE):DE:=λS G=>tidy G (t S G)
def asB:D->DH->R Bool
 | .bl k,G=>.ok k G
 | _,_=>.bad
def Ax (t:DE):DB:=λS G=>(t S G).bind asB
def dOr (t u:DB):DB:=λS G=>(t S G).bind λk G1=>if k=true then .ok true G1 else u S G1
def Bu (t:DB):DB:=λS G=>(t S G).bind λk G1=>.ok (!k) G1
def Tp (t u:DE):DE:=λS G=>(t S G).bind λx G1=>(asB x G1).bind λk G2=>if k=true then u S G2 else .ok (.bl false) G2
def Rm (t u:DE):DE:=λS G=>(t S G).bind λx G1=>(asB x G1).bind λk G2=>if k=true then .ok (.bl true) G2 else u S G2
def M7 (t:DE):DE:=λS G=>(t S G).bind λx G1=>(asB x G1).bind λk G2=>.ok (.bl (!k)) G2
def Px (f g:D->D->DH->R D) (a b c:DE):DE:=λS G=>(a S G).bind λx G1=>(b S G1).bind λy G2=>(f x y G2).bind λz G3=>(asB z G3).bind λk G4=>
 if k=true then (c S G4).bind λw G5=>g y w G5 else .ok (.bl false) G4
def Ez (ds:List D) (G:DH):R D:=if ds.length<=1000000 then .ok (.tup ds) G else .bad
def Aq (ds:List D) (G:DH):R D:=if ds.length<=1000000 then .ok (.ref G.length) (G++ [.lst ds]) else .bad
def Bw (d:D) (G:DH):Option (List D):=match d with
 | .tup xs=>some xs
 | .fl xs=>some xs
 | .ref i=>match G[i]? with
  | some (.lst xs)=>some xs
  | _=>none
 | _=>none
theorem size6:(1000000:Nat)<=sizeLine:=by decide
section
variable {X:Cx} {E:XK} {a b c:Expr} {ta tb tc:DE} {pos:Pos}
theorem two (h:lE K E (dOp f ta tb) σ H Q):tOp (lR2 K E f) (lE K E ta) (lE K E tb) σ H Q:=by obtain ⟨a,S,G,hk,rfl,s,r,h⟩:=h;refine ⟨a,S,G,hk,rfl,s,r,(Cm h).imp ?_⟩;rintro v _ ⟨b,d,G1,rfl,x,s1,q,_,h1⟩;refine ⟨b,S,G1,x.k.trans hk,rfl,s1,r.mono x,(Cm h1).imp ?_⟩;rintro w _ ⟨c,e,G2,rfl,y,s2,q2,_,h2⟩;exact ⟨c,G2,d,e,y.k.trans (x.k.trans hk),rfl,s2,q.mono y,q2,h2⟩
theorem Ab (i:Nat) {pos:Pos} (hN:X.N[i]? =some x:=by rfl) (hv:Vis X.env.scope x:=by first | exact Or.inl rfl | exact Or.inr (Or.inl rfl) | exact Or.inr (Or.inr rfl)) (hd:(x == ("__debug__":Str))=false:=by decide)
  (hcd:(x == ("__classdict__":Str))=false:=by decide):QE X E (.Name x pos) (dV i):=by
 refine (ZD5 hN hv hd hcd).mono λσ H Q h=> ?_
 obtain ⟨a,S,G,hk,rfl,s,r,h⟩:=h;unfold dV at h;split at h
 ·rename_i d e;obtain ⟨v,e',q⟩:=r.get i d e;exact ⟨v,e',h a v (Ext.refl a) s q⟩
 ·exact h.elim
theorem Le (h:lE K E (dC d) σ H Q) (r:∀a:Wd,a.K=K->Rep a d v):Q v H:=by obtain ⟨a,S,G,hk,rfl,s,_,h⟩:=h;exact h a v (Ext.refl a) s (r a hk)
theorem Ah {i:Int} :QE X E (.Constant (.int i) j pos) (dC (.int i)):=ZBg.mono λσ H Q h=>Le h λ_ _=>rfl
theorem Fw {i:Bool} :QE X E (.Constant (.bool i) j pos) (dC (.bl i)):=Zi.mono λσ H Q h=>Le h λ_ _=>rfl
theorem Bc {i:Str} :QE X E (.Constant (.str i) j pos) (dC (.str i)):=ZCq.mono λσ H Q h=>Le h λ_ _=>rfl
theorem Tt {u:Value} (hg:Gl X x) (hm:X.mg x=some u) (r:RelV v u) (rd:∀a:Wd,a.K=X.K->Rep a d v) (hd:(x == ("__debug__":Str))=false:=by decide):QE X E (.Name x pos) (dC d):=
 (ZBW hg hm r hd).mono λσ H Q h=>Le h rd
theorem Al {op:Operator} (ho:OpR X (binaryOp op) (lR2 X.K E f)) (ha:QE X E a ta) (hb:QE X E b tb):QE X E (.BinOp a op b pos) (dOp f ta tb):=
 (Z2 ho ha hb).mono λ_ _ _ h=>two h
theorem Ob (ho:OpR X (compareOp op) (lR2 X.K E f)) (ha:QE X E a ta) (hb:QE X E b tb) (hm:behindInMarks op b=false):QE X E (.Compare a [op] [b] pos) (dOp f ta tb):=
 (ZCJ ho ha hb hm).mono λ_ _ _ h=>two h
theorem U9 {Q:Bool->Hp->Prop} (h:lB K E (Ax t) σ H Q):Jr (lE K E t) σ H Q:=by
 obtain ⟨a,S,G,hk,rfl,s,r,h⟩:=h;refine ⟨a,S,G,hk,rfl,s,r,(ZEH h).imp ?_⟩;rintro v _ ⟨b,d,G1,rfl,x,s1,q,_,h1⟩;cases d with
 | bl k=>exact ⟨k,q,h1 b (Ext.refl b) s1⟩
 | _=>exact h1.elim
theorem Y0 {t t':TE} (w:∀σ H Q,t' σ H Q->t σ H Q) (σ:St) (H:Hp) (Q:Bool->Hp->Prop) (h:Jr t' σ H Q):Jr t σ H Q:=w _ _ _ h
theorem Di (ho:OpR X (compareOp op) (lR2 X.K E f)) (ha:QE X E a ta) (hb:QE X E b tb) (hm:behindInMarks op b=false):QT X E (.Compare a [op] [b] pos) (Ax (dOp f ta tb)):=
 (ZB1 ho ha hb hm).mono λσ H Q h=>Y0 (λ_ _ _ z=>two z) σ H Q (U9 h)
theorem chain {g:D->D->DH->R D} (h:lE K E (Px f g ta tb tc) σ H Q):Wy (lR2 K E f) (lR2 K E g) (lE K E ta) (lE K E tb) (lE K E tc) σ H Q:=by
 obtain ⟨a,S,G,hk,rfl,s,r,h⟩:=h;refine ⟨a,S,G,hk,rfl,s,r,(Cm h).imp ?_⟩;rintro v _ ⟨b,d,G1,rfl,x,s1,q,_,h1⟩;refine ⟨b,S,G1,x.k.trans hk,rfl,s1,r.mono x,(Cm h1).imp ?_⟩;rintro w _ ⟨c,e,G2,rfl,y,s2,q2,_,h2⟩;refine ⟨c,G2,d,e,y.k.trans (x.k.trans hk),rfl,s2,q.mono y,q2,(Cm h2).imp ?_⟩;rintro z _ ⟨c3,e3,G3,rfl,y3,s3,q3,_,h3⟩;cases e3 with
 | bl k=>
  refine ⟨k,q3,?_⟩;cases k with
  | false=>exact h3 c3 (.bl false) (Ext.refl _) s3 rfl
  | true=>
   refine ⟨c3,S,G3,(y3.k.trans (y.k.trans (x.k.trans hk))),rfl,s3,((r.mono x).mono y).mono y3,(Cm h3).imp ?_⟩;rintro z4 _ ⟨c4,e4,G4,rfl,y4,s4,q4,_,h4⟩;exact ⟨c4,G4,e,e4,y4.k.trans (y3.k.trans (y.k.trans (x.k.trans hk))),rfl,s4,(q2.mono y3).mono y4,q4,h4⟩
 | _=>exact h3.elim
theorem ZDz {op':CmpOp} {g:D->D->DH->R D} (ho:OpR X (compareOp op) (lR2 X.K E f)) (ho':OpR X (compareOp op') (lR2 X.K E g)) (ha:QE X E a ta) (hb:QE X E b tb) (hc:QE X E c tc)
  (hm:lastMarks [op,op'] [b,c]=false:=by with_unfolding_all rfl):QT X E (.Compare a [op,op'] [b,c] pos) (Ax (Px f g ta tb tc)):=
 (ZBC ho ho' ha hb hc hm).mono λσ H Q h=>Y0 (λ_ _ _ z=>chain z) σ H Q (U9 h)
theorem Dc (ha:QE X E a ta) (he:∀whole,isTrue a X.env whole=(do let v<-whole;standAt a.pos;holding [v] (truthy v)):=by intro _;rfl):QT X E a (Ax ta):=
 (ZEb ha he).mono λσ H Q h=>U9 h
theorem Pg (ha:QE X E a ta):QE X E a (Ip ta):=L2.PE.mono ha λσ H Q h=>by obtain ⟨w,S,G,hk,rfl,s,r,h⟩:=h;exact ⟨w,S,G,hk,rfl,s,r,Ym s h⟩
def QW (X:Cx) (E:XK) (e:Expr) (t:DB):Prop:=PW X e (lB X.K E t)
theorem _root_.L2.PW.mono {t t':TT} (h:PW X e t) (w:∀σ H Q,t' σ H Q->t σ H Q):PW X e t':=λwh pins s σ H Q I q=>h wh pins s σ H Q I (w σ H Q q)
variable {u t:DB} {rest:List Expr}
theorem ZBN {Q:Bool->Hp->Prop} (h:lB K E (dOr t u) σ H Q):tOr (lB K E t) (lB K E u) σ H Q:=by
 obtain ⟨a,S,G,hk,rfl,s,r,h⟩:=h;refine ⟨a,S,G,hk,rfl,s,r,(Xx h).imp ?_⟩;rintro k _ ⟨b,G1,rfl,x,s1,_,h1⟩;cases k with
 | true=>exact h1 b (Ext.refl b) s1
 | false=>exact ⟨b,S,G1,x.k.trans hk,rfl,s1,r.mono x,h1⟩
theorem Et (ha:QT X E a t):QW X E (.BoolOp .Or [a] pos) t:=ZCh ha
theorem Ec (ha:QT X E a t) (hb:QW X E (.BoolOp .Or (b::rest) pos) u):QW X E (.BoolOp .Or (a::b::rest) pos) (dOr t u):=(ZDi ha hb).mono λ_ _ _ h=>ZBN h
theorem Ey (h:QW X E a t):QT X E a t:=L2.PW.pt h
theorem Cr (ha:QT X E a t):QT X E (.UnaryOp .Not a pos) (Bu t):=(ZDY ha).mono λσ H Q h=>by obtain ⟨a,S,G,hk,rfl,s,r,h⟩:=h;refine ⟨a,S,G,hk,rfl,s,r,(Xx h).imp ?_⟩;rintro k _ ⟨b,G1,rfl,x,s1,_,h1⟩;exact h1 b (Ext.refl b) s1
theorem Y9 {op} (h:QE X E a ta):QE X E (.BoolOp op [a] pos) ta:=ZDU h
theorem Yy (ha:QE X E a ta) (hb:QE X E (.BoolOp .And (b::rest) pos) tb):QE X E (.BoolOp .And (a::b::rest) pos) (Tp ta tb):=(ZBX ha hb).mono λσ H Q h=>by
 obtain ⟨a,S,G,hk,rfl,s,r,h⟩:=h;refine ⟨a,S,G,hk,rfl,s,r,(Cm h).imp ?_⟩;rintro v _ ⟨b,d,G1,rfl,x,s1,q,_,h1⟩;cases d with
 | bl k=>
  refine ⟨k,q,?_⟩;cases k with
  | true=>exact ⟨b,S,G1,x.k.trans hk,rfl,s1,r.mono x,h1⟩
  | false=>exact h1 b _ (Ext.refl b) s1 rfl
 | _=>exact h1.elim
theorem ZCk (ha:QE X E a ta) (hb:QE X E (.BoolOp .Or (b::rest) pos) tb):QE X E (.BoolOp .Or (a::b::rest) pos) (Rm ta tb):=(ZDm ha hb).mono λσ H Q h=>by
 obtain ⟨a,S,G,hk,rfl,s,r,h⟩:=h;refine ⟨a,S,G,hk,rfl,s,r,(Cm h).imp ?_⟩;rintro v _ ⟨b,d,G1,rfl,x,s1,q,_,h1⟩;cases d with
 | bl k=>
  refine ⟨k,q,?_⟩;cases k with
  | false=>exact ⟨b,S,G1,x.k.trans hk,rfl,s1,r.mono x,h1⟩
  | true=>exact h1 b _ (Ext.refl b) s1 rfl
 | _=>exact h1.elim
theorem Xw (ha:QE X E a ta):QE X E (.UnaryOp .Not a pos) (M7 ta):=(ZDF ha).mono λσ H Q h=>by
 obtain ⟨a,S,G,hk,rfl,s,r,h⟩:=h;refine ⟨a,S,G,hk,rfl,s,r,(Cm h).imp ?_⟩;rintro v _ ⟨b,d,G1,rfl,x,s1,q,_,h1⟩;cases d with
 | bl k=>exact ⟨k,q,h1 b _ (Ext.refl b) s1 rfl⟩
 | _=>exact h1.elim
variable {es:List Expr} {tr:DA}
theorem Af:QA X E [] Ae:=ZC6.mono λσ H Q h=>by obtain ⟨a,S,G,hk,rfl,s,r,h⟩:=h;exact h a [] (Ext.refl a) s rfl
def notStar:Expr->Bool
 | .Starred _ _=>false
 | _=>true
theorem Lh (a:Expr) (es:List Expr) (env:Env) (h:notStar a=true):starEach (a::es) env=(false,eval a env)::starEach es env:=by
 cases a <;> first
  | exact absurd h Bool.false_ne_true
  | rfl
theorem Nk (pos:Pos) (env:Env):∀es:List Expr,es.all notStar=true->(backTo pos (starEach es env)).any (·.1)=false
 | [],_=>rfl
 | a::es,h=>by
  rw [List.all_cons,Bool.and_eq_true] at h;rw [Lh a es env h.1];have ih:=Nk pos env es h.2;unfold backTo at ih ⊢;rw [List.map_cons,List.any_cons,ih]
  rfl
theorem Ad (ha:QE X E a ta) (hr:QA X E es tr) (hs:notStar a=true:=by rfl):QA X E (a::es) (Ac ta tr):=(ZCU ha hr (Lh a es X.env hs)).mono λσ H Q h=>by obtain ⟨a,S,G,hk,rfl,s,r,h⟩:=h;refine ⟨a,S,G,hk,rfl,s,r,(ZDT h).imp ?_⟩;rintro v _ ⟨b,d,G1,rfl,x,s1,q,_,h1⟩;refine ⟨b,S,G1,x.k.trans hk,rfl,s1,r.mono x,(ZCC h1).imp ?_⟩;rintro vs _ ⟨c,ds,G2,rfl,y,s2,q2,_,h2⟩;exact h2 c _ (Ext.refl c) s2 (Reps.cons (q.mono y) q2)
theorem Kz {x1} (h:QA X E es tr):QE X E (.Tuple es x1 pos) (dFn Ez tr):=(ZBR h).mono λσ H Q h=>by
 obtain ⟨a,S,G,hk,rfl,s,r,h⟩:=h;refine ⟨a,S,G,hk,rfl,s,r,(Jf h).imp ?_⟩;rintro vs _ ⟨b,ds,G1,rfl,x,s1,q,_,h1⟩;unfold Ez at h1;split at h1
 ·rename_i hl;refine ⟨by rw [<-q.length];exact Nat.le_trans hl size6,λp hp=> ?_⟩;exact h1 (b.put p (.tup vs)) (.ref p) (Ext.put hp) (s1.put hp) ⟨p,vs,rfl,.of Do,q.mono (Ext.put hp)⟩
 ·exact h1.elim
theorem Hu (h:QA X E es tr):QE X E (.List es pos) (dFn Aq tr):=(Zt h).mono λσ H Q h=>by
 obtain ⟨a,S,G,hk,rfl,s,r,h⟩:=h;refine ⟨a,S,G,hk,rfl,s,r,(Jf h).imp ?_⟩;rintro vs _ ⟨b,ds,G1,rfl,x,s1,q,_,h1⟩;unfold Aq at h1;split at h1
 ·rename_i hl;refine ⟨by rw [<-q.length];exact Nat.le_trans hl size6,λp hp=> ?_⟩;refine h1 (b.push p (.lst vs)) (.ref p) (Ext.push hp) (s1.push hp ⟨vs,rfl,q.mono (Ext.push hp)⟩) ⟨?_,?_⟩
  ·rw [s1.len];exact Nat.lt_succ_self _
  ·rw [s1.len];show V.ref p=.ref (if b.n=b.n then p else b.m b.n);rw [if_pos rfl]
 ·exact h1.elim
variable {e:Expr} {x:Str} {p:Pos}
theorem Ry {f:List D->DH->R D} (h:lE K E (dFn f tr) σ H Q):lA K E tr σ H (λvs H1=>lRn K E f vs H1 Q):=by obtain ⟨a,S,G,hk,rfl,s,r,h⟩:=h;refine ⟨a,S,G,hk,rfl,s,r,(Jf h).imp ?_⟩;rintro vs _ ⟨b,ds,G1,rfl,x,s1,q,_,h1⟩;exact ⟨b,G1,ds,x.k.trans hk,rfl,s1,q,h1⟩
theorem By {id:String} {f:List D->DH->R D} (hc:CallR X (.builtin id) (lRn X.K E f)) (hg:Gl X x) (hm:X.mg x=none) (hv:bootBuiltins x=some (.builtin id)) (ha:QA X E (e::es) tr) (hn:x≠"__name__":=by decide) (hdb:(x == ("__debug__":Str))=false:=by decide)
  (he:notStar e=true:=by rfl) (hpl:es.all notStar=true:=by rfl):QE X E (.Call (.Name x p) (e::es) [] pos) (dFn f tr):=
 (ZDD hc hg hm hv ha hn hdb (Lh e es X.env he) (Nk pos X.env es hpl)).mono λσ H Q h=>Ry h
theorem Em {id:String} {f:List D->DH->R D} (hc:CallR X (.type id) (lRn X.K E f)) (hg:Gl X x) (hm:X.mg x=none) (hv:bootBuiltins x=some (.type id)) (ha:QA X E (e::es) tr) (hn:x≠"__name__":=by decide) (hdb:(x == ("__debug__":Str))=false:=by decide)
  (he:notStar e=true:=by rfl) (hpl:es.all notStar=true:=by rfl):QE X E (.Call (.Name x p) (e::es) [] pos) (dFn f tr):=
 (ZB8 hc hg hm hv ha hn hdb (Lh e es X.env he) (Nk pos X.env es hpl)).mono λσ H Q h=>Ry h
theorem Az {CX:CXT} {f:Addr} {fd:FuncData} {ps:List Str} {F:List D->DH->R D} (FF:FnOk X.prog X.w X.K X.mg X.base CX k f fd ps (lF X.K F)) (hr:Room k X.A) (hg:Gl X x) (hm:X.mg x=some (.ref f)) (hk:PySem.W.keepIn X.K (.ref f)=true) (hb:Binds X.K fd ps [])
  (hx:Passes CX X E) (ha:QA X E (e::es) tr) (hdb:(x == ("__debug__":Str))=false:=by decide) (he:notStar e=true:=by rfl) (hpl:es.all notStar=true:=by rfl):
  QE X E (.Call (.Name x p) (e::es) [] pos) (dFn F tr):=
 (ZC0 FF hr hg hm hk hb .nil hx ha hdb (Lh e es X.env he) (Nk pos X.env es hpl)).mono λσ H Q h=>by obtain ⟨a,S,G,hk,rfl,s,r,h⟩:=Ry h;refine ⟨a,S,G,hk,rfl,s,r,h.imp ?_⟩;rintro vs _ ⟨b,G1,ds,hk,rfl,s1,q,h1⟩;exact ⟨b,G1,ds,hk,rfl,s1,by rw [List.append_nil];exact q,h1⟩
theorem Cv (hr:IxR X (lR2 X.K E f)) (ha:QE X E a ta) (hb:QE X E b tb) (hs:PlainIx b:=by intro _ _;rfl):QE X E (.Subscript a b pos) (dOp f ta tb):=
 (ZC1 hr ha hb hs).mono λ_ _ _ h=>two h
end
instance (i j:Int):Decidable (CMul i j):=by unfold CMul;infer_instance
instance (i j:Int):Decidable (CPow i j):=by unfold CPow;infer_instance
def CDivL (j:Int):Prop:=0 < j/\j.natAbs.log2 < 9000
instance (j:Int):Decidable (CDivL j):=by unfold CDivL;infer_instance
def Rn:D->D->DH->R D
 | .int i,.int j,G=>.ok (.int (i - j)) G
 | _,_,_=>.bad
def G6:D->D->DH->R D
 | .int i,.int j,G=>if CDivL j then .ok (.int (i / j)) G else .bad
 | _,_,_=>.bad
def Ck:D->D->DH->R D
 | .int i,.int j,G=>if 0 < j then .ok (.int (i % j)) G else .bad
 | _,_,_=>.bad
def Ew:D->D->DH->R D
 | .int i,.int j,G=>if CPow i j then .ok (.int (i ^ j.toNat)) G else .bad
 | _,_,_=>.bad
def O9:D->D->DH->R D
 | .int i,.int j,G=>.ok (.bl (decide (i < j))) G
 | .str i,.str j,G=>.ok (.bl (decide (i.cps.toList < j.cps.toList))) G
 | _,_,_=>.bad
def O8:D->D->DH->R D
 | .int i,.int j,G=>.ok (.bl (decide (i<=j))) G
 | .str i,.str j,G=>.ok (.bl (!decide (j.cps.toList < i.cps.toList))) G
 | _,_,_=>.bad
def Qn:D->D->DH->R D
 | .int i,.int j,G=>.ok (.bl (decide (j < i))) G
 | .str i,.str j,G=>.ok (.bl (decide (j.cps.toList < i.cps.toList))) G
 | _,_,_=>.bad
def Qs:D->D->DH->R D
 | .int i,.int j,G=>.ok (.bl (decide (j<=i))) G
 | .str i,.str j,G=>.ok (.bl (!decide (i.cps.toList < j.cps.toList))) G
 | _,_,_=>.bad
def Fd (d:D) (G:DH):Option (List D):=match d with
 | .fl xs=>some xs
 | .ref i=>match G[i]? with
  | some (.lst xs)=>some xs
  | _=>none
 | _=>none
def Bb:D->D->DH->R D
 | .int i,.int j,G=>.ok (.int (i + j)) G
 | .str i,.str j,G=>if i.length + j.length<=1000000 then .ok (.str (i++j)) G else .bad
 | .tup xs,.tup ys,G=>if xs≠ []/\xs.length + ys.length<=1000000 then .ok (.tup (xs++ys)) G else .bad
 | d,e,G=>match Fd d G,Fd e G with
  | some xs,some ys=>if xs.length + ys.length<=1000000 then .ok (.ref G.length) (G++ [.lst (xs++ys)]) else .bad
  | _,_=>.bad
section
variable {X:Cx} {E:XK}
theorem Dm {f:Value->Value->Sem Value} {r:R2} {F:D->D->DH->R D} (ho:OpR X f r)
  (h:∀(a:Wd) (G:DH) (d e:D) (x y:V) (Q:VK),a.K=X.K->Sim a G->Rep a d x->Rep a e y->out E a (F d e G) Q->r x y a.H Q):OpR X f (lR2 X.K E F):=
 ho.mono λx y H Q ⟨a,G,d,e,hk,hH,s,rd,re,q⟩=>by subst hH;exact h a G d e x y Q hk s rd re q
theorem ZAe:OpR X (binaryOp .Sub) (lR2 X.K E Rn):=Dm ZAN λa G d e x y Q hk s rd re q=>by
 cases d <;> cases e <;> first
  | exact q.elim
  | exact ⟨_,_,rd,re,q a _ (Ext.refl a) s rfl⟩
theorem ZBB:OpR X (binaryOp .FloorDiv) (rI (λ_ j=>CDivL j) λi j=>.int (i / j)):=opI λi j _ _ _ _ _ hc q=>by have e:i.fdiv j=i / j:=Int.fdiv_eq_ediv_of_nonneg _ (Int.le_of_lt hc.1);refine floordiv_int (by have:=hc.1;omega) (by rw [e];exact q) (.inl (PyProof.noPylong_of_log2 hc.2))
theorem Ly:OpR X (binaryOp .FloorDiv) (lR2 X.K E G6):=Dm ZBB λa G d e x y Q hk s rd re q=>by
 cases d <;> cases e <;> first
  | exact q.elim
  | (
    rename_i i j;unfold G6 at q;dsimp only at q;split at q
    ·exact ⟨_,_,rd,re,by assumption,q a _ (Ext.refl a) s rfl⟩
    ·exact q.elim)
theorem Ds:OpR X (binaryOp .Mod) (lR2 X.K E Ck):=Dm ZDy λa G d e x y Q hk s rd re q=>by
 cases d <;> cases e <;> first
  | exact q.elim
  | (
    rename_i i j;unfold Ck at q;dsimp only at q;split at q
    ·exact ⟨_,_,rd,re,by assumption,q a _ (Ext.refl a) s rfl⟩
    ·exact q.elim)
theorem La:OpR X (binaryOp .Pow) (lR2 X.K E Ew):=Dm ZAZ λa G d e x y Q hk s rd re q=>by
 cases d <;> cases e <;> first
  | exact q.elim
  | (
    rename_i i j;unfold Ew at q;dsimp only at q;split at q
    ·exact ⟨_,_,rd,re,by assumption,q a _ (Ext.refl a) s rfl⟩
    ·exact q.elim)
theorem o_lt:OpR X (compareOp .Lt) (lR2 X.K E O9):=Dm (ZCF.or ZBP) λa G d e x y Q hk s rd re q=>by
 cases d <;> cases e <;> first
  | exact q.elim
  | exact .inl ⟨_,_,rd,re,q a _ (Ext.refl a) s rfl⟩
  | exact .inr ⟨_,_,rd,re,q a _ (Ext.refl a) s rfl⟩
theorem ZCS:OpR X (compareOp .LtE) (λx y H Q=>∃i j,x=.str i/\y=.str j/\Q (.bl (!decide (j.cps.toList < i.cps.toList))) H):=by intro pins s σ H x y v u Q I rx ry h;obtain ⟨i,j,rfl,rfl,q⟩:=h;obtain ⟨t,rfl⟩:=rx;obtain ⟨t',rfl⟩:=ry;exact PySem.P.le_str ⟨.bl _,H,I,rfl,q⟩
theorem ZBJ:OpR X (compareOp .Gt) (λx y H Q=>∃i j,x=.str i/\y=.str j/\Q (.bl (decide (j.cps.toList < i.cps.toList))) H):=by intro pins s σ H x y v u Q I rx ry h;obtain ⟨i,j,rfl,rfl,q⟩:=h;obtain ⟨t,rfl⟩:=rx;obtain ⟨t',rfl⟩:=ry;exact PySem.P.gt_str ⟨.bl _,H,I,rfl,q⟩
theorem ZA5:OpR X (compareOp .GtE) (λx y H Q=>∃i j,x=.str i/\y=.str j/\Q (.bl (!decide (i.cps.toList < j.cps.toList))) H):=by intro pins s σ H x y v u Q I rx ry h;obtain ⟨i,j,rfl,rfl,q⟩:=h;obtain ⟨t,rfl⟩:=rx;obtain ⟨t',rfl⟩:=ry;exact PySem.P.ge_str ⟨.bl _,H,I,rfl,q⟩
theorem o_le:OpR X (compareOp .LtE) (lR2 X.K E O8):=Dm (ZAC.or ZCS) λa G d e x y Q hk s rd re q=>by
 cases d <;> cases e <;> first
  | exact q.elim
  | exact .inl ⟨_,_,rd,re,q a _ (Ext.refl a) s rfl⟩
  | exact .inr ⟨_,_,rd,re,q a _ (Ext.refl a) s rfl⟩
theorem o_gt:OpR X (compareOp .Gt) (lR2 X.K E Qn):=Dm (ZBG.or ZBJ) λa G d e x y Q hk s rd re q=>by
 cases d <;> cases e <;> first
  | exact q.elim
  | exact .inl ⟨_,_,rd,re,q a _ (Ext.refl a) s rfl⟩
  | exact .inr ⟨_,_,rd,re,q a _ (Ext.refl a) s rfl⟩
theorem o_ge:OpR X (compareOp .GtE) (lR2 X.K E Qs):=Dm (ZCy.or ZA5) λa G d e x y Q hk s rd re q=>by
 cases d <;> cases e <;> first
  | exact q.elim
  | exact .inl ⟨_,_,rd,re,q a _ (Ext.refl a) s rfl⟩
  | exact .inr ⟨_,_,rd,re,q a _ (Ext.refl a) s rfl⟩
theorem Sim.lst (s:Sim a G) {xs:List D} (h:G[i]? =some (.lst xs)):∃vs,a.H (a.m i)=some (.lst vs)/\Reps a xs vs:=s.obj i _ h
theorem O1 (s:Sim a G) (r:Reps a ds vs) (h:out E a (.ok (.ref G.length) (G++ [.lst ds])) Q) (p:Addr) (hp:a.H p=none):Q (.ref p) (upd a.H p (.lst vs)):=by
 refine h (a.push p (.lst vs)) (.ref p) (Ext.push hp) (s.push hp ⟨vs,rfl,r.mono (Ext.push hp)⟩) ⟨?_,?_⟩
 ·rw [s.len];exact Nat.lt_succ_self _
 ·rw [s.len];show V.ref p=.ref (if a.n=a.n then p else a.m a.n);rw [if_pos rfl]
theorem Lp (s:Sim a G) (r:Reps a ds vs) (h:out E a (.ok (.tup ds) G) Q) (p:Addr) (hp:a.H p=none):Q (.ref p) (upd a.H p (.tup vs)):=
 h (a.put p (.tup vs)) (.ref p) (Ext.put hp) (s.put hp) ⟨p,vs,rfl,.of Do,r.mono (Ext.put hp)⟩
theorem Rj {x:V} {xs:List D} (s:Sim a G) (r:Rep a d x) (h:Fd d G=some xs):∃p vs,x=.ref p/\SqL a.K a.H p vs/\Reps a xs vs:=by
 cases d with
 | fl ys=>
  have e:ys=xs:=Option.some.inj h;subst e;obtain ⟨p,vs,e,q,rr⟩:=r;exact ⟨p,vs,e,q.sq,rr⟩
 | ref i=>
  unfold Fd at h;dsimp only at h;split at h
  ·rename_i ys hi;have e:ys=xs:=Option.some.inj h;subst e;obtain ⟨vs,e1,r1⟩:=s.lst hi;exact ⟨a.m i,vs,r.2,.of e1,r1⟩
  ·cases h
 | _=>cases h
def Yg (K:PySem.W.Frag):R2:=λx y H Q=>∃l b xs zs,x=.ref l/\y=.ref b/\SqL K H l xs/\SqL K H b zs/\xs.length + zs.length<=sizeLine/\∀p,H p=none->Q (.ref p) (upd H p (.lst (xs++zs)))
theorem ZAU:OpR X (binaryOp .Add) (Yg X.K):=by
 intro pins s σ H x y v u Q I rx ry h;obtain ⟨l,b,xs,zs,rfl,rfl,hH,hB,hz,q⟩:=h;cases rx;cases ry;obtain ⟨its,r,p1,_⟩:=I.list hH;obtain ⟨its2,r2,p2,_⟩:=I.list hB;obtain ⟨⟨cls,dd,data,sl⟩,n,ho,hc,_,hd⟩:=p1;obtain ⟨⟨cls2,dd2,data2,sl2⟩,n2,ho2,hc2,_,hd2⟩:=p2;cases hc;cases hd;cases hc2;cases hd2;have hl:=r.length;have hl2:=r2.length;refine concat_meets ⟨_,ho,rfl⟩ ⟨_,ho2,rfl⟩ noFill_list_add seq_list_add PySem.F.slot_list_add PySem.F.entry_list_add (PySem.F.args_list_add_2 _ _) (list_addW l b its.toArray its2.toArray n n2 dd dd2 sl sl2 (by rw [List.size_toArray,List.size_toArray];omega)) ⟨ho,ho2,?_⟩
 have ea:its.toArray++its2.toArray=(its++its2).toArray:=by simp
 rw [ea];exact ⟨.ref _,_,I.lnew (t':=s.toks) (r.append r2) (by rw [List.length_append];omega),rfl,q _ I.fresh⟩
theorem Bt:OpR X (binaryOp .Add) (lR2 X.K E Bb):=Dm (Z8.or (Ze.or (ZAU.or ZBF))) λa G d e x y Q hk s rd re q=>by
 have lst:out E a (match Fd d G,Fd e G with
  | some xs,some ys=>if xs.length + ys.length<=1000000 then .ok (.ref G.length) (G++ [.lst (xs++ys)]) else .bad
  | _,_=>.bad) Q->Yg X.K x y a.H Q:=λq=>by
  split at q
  ·rename_i xs ys h1 h2;split at q
   ·rename_i hl;obtain ⟨p,vs,e1,q1,r1⟩:=Rj s rd h1;obtain ⟨p',vs',e2,q2,r2⟩:=Rj s re h2;rw [hk] at q1 q2;exact ⟨p,p',vs,vs',e1,e2,q1,q2,by rw [<-r1.length,<-r2.length];exact Nat.le_trans hl size6,λp hp=>O1 s (r1.append r2) q p hp⟩
   ·exact q.elim
  ·exact q.elim
 have L:=λq=>Or.inr (a:=rI0 (λi j=>V.int (i + j)) x y a.H Q) (Or.inr (a:=∃i j,x=.str i/\y=.str j/\i.length + j.length<=sizeLine/\Q (.str (i++j)) a.H) (Or.inl (b:=Wg X.K x y a.H Q) (lst q)))
 cases d <;> cases e <;> first
  | exact .inl ⟨_,_,rd,re,q a _ (Ext.refl a) s rfl⟩
  | exact L q
  | skip
 ·rename_i i j;unfold Bb at q;dsimp only at q;split at q
  ·rename_i hl;exact .inr (.inl ⟨_,_,rd,re,Nat.le_trans hl size6,q a _ (Ext.refl a) s rfl⟩)
  ·exact q.elim
 ·rename_i xs ys;unfold Bb at q;dsimp only at q;split at q
  ·rename_i hl;obtain ⟨p,vs,e1,h1,r1⟩:=rd;obtain ⟨p',vs',e2,h2,r2⟩:=re;rw [hk] at h1 h2;refine .inr (.inr (.inr ⟨p,p',vs,vs',e1,e2,h1,h2,λz=>hl.1 (List.eq_nil_of_length_eq_zero (by rw [r1.length,z];rfl)),by rw [<-r1.length,<-r2.length];exact Nat.le_trans hl.2 size6,λz=> ?_,λ_ p0 hp=> ?_⟩))
   ·refine q a (.ref p) (Ext.refl a) s ⟨p,vs,rfl,by rw [hk];exact h1,?_⟩;have e3:ys= []:=List.eq_nil_of_length_eq_zero (by rw [r2.length,z];rfl);rw [e3,List.append_nil];exact r1
   ·exact Lp s (r1.append r2) q p0 hp
  ·exact q.elim
inductive VD where
 | flat (v:V)
 | lst (xs:List D)
 | tup (xs:List D)
 | bad
def view (G:DH):D->VD
 | .non=>.flat .non
 | .bl b=>.flat (.bl b)
 | .int i=>.flat (.int i)
 | .str x=>.flat (.str x)
 | .ty _=>.bad
 | .tup xs=>.tup xs
 | .fl xs=>.lst xs
 | .ref i=>match G[i]? with
  | some (.lst xs)=>.lst xs
  | _=>.bad
def eqZ (f:D->D->Option Bool):List D->List D->Option Bool
 | x::xs,y::ys=>match f x y,eqZ f xs ys with
  | some a,some b=>some (a && b)
  | _,_=>none
 | _,_=>some true
def eqD:Nat->DH->D->D->Option Bool
 | 0=>λ_ _ _=>none
 | n + 1=>λG d e=>match view G d,view G e with
  | .flat a,.flat b=>some (eqV a b)
  | .lst xs,.lst ys=>if xs.length=ys.length then eqZ (eqD n G) xs ys else some false
  | .tup xs,.tup ys=>match eqZ (eqD n G) xs ys with
   | some b=>some (b && xs.length == ys.length)
   | none=>none
  | .bad,_=>none
  | _,.bad=>none
  | _,_=>some false
theorem Mz {f:D->D->Option Bool}:∀{xs ys:List D} {k:Bool},eqZ f xs ys=some k->∃e:Nat->Bool,(∀(j:Nat) (x y:D),xs[j]? =some x->ys[j]? =some y->f x y=some (e j))/\k=(List.range (min xs.length ys.length)).all e
 | [],ys,k,h=>⟨λ_=>true,λj x y e1 _=>by simp at e1,by
   have h':some true=some k:=by cases ys <;> exact h
   cases h';simp⟩
 | x::xs,[],k,h=>⟨λ_=>true,λj x y _ e1=>by simp at e1,by have h':some true=some k:=h;cases h';simp⟩
 | x::xs,y::ys,k,h=>by
  unfold eqZ at h;split at h
  ·rename_i a b h1 h2;obtain ⟨e,he,hk⟩:=Mz h2;have h':(a && b)=k:=Option.some.inj h
   refine ⟨λj=>match j with | 0=>a | j + 1=>e j,λj x' y' e1 e2=> ?_,?_⟩
   ·cases j with
    | zero=>simp at e1 e2;subst e1;subst e2;exact h1
    | succ j=>exact he j x' y' (by simpa using e1) (by simpa using e2)
   ·rw [<-h',hk];have:min (x::xs).length (y::ys).length=min xs.length ys.length + 1:=by simp only [List.length_cons];omega
    rw [this,List.range_succ_eq_map,List.all_cons,List.all_map]
    rfl
  ·cases h
theorem Ov (s:Sim a G) {x:V} (r:Rep a d x):match view G d with
  | .flat v=>x=v/\Bj v=true
  | .lst xs=>∃p vs,x=.ref p/\SqL a.K a.H p vs/\Reps a xs vs
  | .tup xs=>∃p vs,x=.ref p/\SqT a.K a.H p vs/\Reps a xs vs
  | .bad=>True:=by
 cases d with
 | non=>exact ⟨r,rfl⟩
 | bl b=>exact ⟨r,rfl⟩
 | int b=>exact ⟨r,rfl⟩
 | str b=>exact ⟨r,rfl⟩
 | ty n=>trivial
 | tup xs=>
  obtain ⟨p,vs,e,h,q⟩:=r;exact ⟨p,vs,e,h,q⟩
 | fl xs=>
  obtain ⟨p,vs,e,h,q⟩:=r;exact ⟨p,vs,e,h.sq,q⟩
 | ref i=>
  unfold view;dsimp only;split
  ·rename_i v hv
   split at hv <;> cases hv
  ·rename_i xs hv;split at hv
   ·rename_i ys hi;cases hv;obtain ⟨vs,e1,r1⟩:=s.lst hi;exact ⟨a.m i,vs,r.2,.of e1,r1⟩
   ·cases hv
  ·rename_i xs hv
   split at hv <;> cases hv
  ·trivial
theorem ZEZ {x:V} {u v:Value} (ry:RelV y u) (rx:RelV x v) (fy:Bj y=true) (fx:Bj x=true):SeqAt.RcAt A s u v (eqV y x):=by
 cases y with
 | non=>
  cases ry;cases x with
  | non=>cases rx;exact SeqAt.RcAt.none_none
  | bl b=>cases rx;exact SeqAt.RcAt.none_bool b
  | int b=>obtain ⟨t,rfl⟩:=rx;exact SeqAt.RcAt.none_int b t
  | str b=>obtain ⟨t,rfl⟩:=rx;exact SeqAt.RcAt.none_str b t
  | _=>exact absurd (show false=true from fx) Bool.false_ne_true
 | bl a=>
  cases ry;cases x with
  | non=>cases rx;exact SeqAt.RcAt.bool_none a
  | bl b=>cases rx;exact SeqAt.RcAt.bool_bool a b
  | int b=>obtain ⟨t,rfl⟩:=rx;exact SeqAt.RcAt.bool_int a b t
  | str b=>obtain ⟨t,rfl⟩:=rx;exact SeqAt.RcAt.bool_str a b t
  | _=>exact absurd (show false=true from fx) Bool.false_ne_true
 | int a=>
  obtain ⟨t',rfl⟩:=ry;cases x with
  | non=>cases rx;exact SeqAt.RcAt.int_none a t'
  | bl b=>cases rx;exact SeqAt.RcAt.int_bool a t' b
  | int b=>obtain ⟨t,rfl⟩:=rx;exact SeqAt.RcAt.int_int a t' b t
  | str b=>obtain ⟨t,rfl⟩:=rx;exact SeqAt.RcAt.int_str a t' b t
  | _=>exact absurd (show false=true from fx) Bool.false_ne_true
 | str a=>
  obtain ⟨t',rfl⟩:=ry;cases x with
  | non=>cases rx;exact SeqAt.RcAt.str_none a t'
  | bl b=>cases rx;exact SeqAt.RcAt.str_bool a t' b
  | int b=>obtain ⟨t,rfl⟩:=rx;exact SeqAt.RcAt.str_int a t' b t
  | str b=>obtain ⟨t,rfl⟩:=rx;exact SeqAt.RcAt.str_str a t' b t
  | _=>exact absurd (show false=true from fx) Bool.false_ne_true
 | _=>exact absurd (show false=true from fy) Bool.false_ne_true
theorem ZCM {x:V} {u v:Value} (ry:RelV y u) (rx:RelV x v) (fy:Bj y=true) (fx:Bj x=true):SeqAt.RcNeAt A s u v (!eqV y x):=by
 cases y with
 | non=>
  cases ry;cases x with
  | non=>cases rx;exact SeqAt.RcNeAt.none_none
  | bl b=>cases rx;exact SeqAt.RcNeAt.none_bool b
  | int b=>obtain ⟨t,rfl⟩:=rx;exact SeqAt.RcNeAt.none_int b t
  | str b=>obtain ⟨t,rfl⟩:=rx;exact SeqAt.RcNeAt.none_str b t
  | _=>exact absurd (show false=true from fx) Bool.false_ne_true
 | bl a=>
  cases ry;cases x with
  | non=>cases rx;exact SeqAt.RcNeAt.bool_none a
  | bl b=>cases rx;exact SeqAt.RcNeAt.bool_bool a b
  | int b=>obtain ⟨t,rfl⟩:=rx;exact SeqAt.RcNeAt.bool_int a b t
  | str b=>obtain ⟨t,rfl⟩:=rx;exact SeqAt.RcNeAt.bool_str a b t
  | _=>exact absurd (show false=true from fx) Bool.false_ne_true
 | int a=>
  obtain ⟨t',rfl⟩:=ry;cases x with
  | non=>cases rx;exact SeqAt.RcNeAt.int_none a t'
  | bl b=>cases rx;exact SeqAt.RcNeAt.int_bool a t' b
  | int b=>obtain ⟨t,rfl⟩:=rx;exact SeqAt.RcNeAt.int_int a t' b t
  | str b=>obtain ⟨t,rfl⟩:=rx;exact SeqAt.RcNeAt.int_str a t' b t
  | _=>exact absurd (show false=true from fx) Bool.false_ne_true
 | str a=>
  obtain ⟨t',rfl⟩:=ry;cases x with
  | non=>cases rx;exact SeqAt.RcNeAt.str_none a t'
  | bl b=>cases rx;exact SeqAt.RcNeAt.str_bool a t' b
  | int b=>obtain ⟨t,rfl⟩:=rx;exact SeqAt.RcNeAt.str_int a t' b t
  | str b=>obtain ⟨t,rfl⟩:=rx;exact SeqAt.RcNeAt.str_str a t' b t
  | _=>exact absurd (show false=true from fx) Bool.false_ne_true
 | _=>exact absurd (show false=true from fy) Bool.false_ne_true
end
section
variable {X:Cx} {E:XK} {pins:List (Addr×Obj)} {σ:St} {s:Shared}
theorem ZA9 (v:V) (h:Bj v=true):eqV v v=true:=by cases v <;> first | rfl | exact absurd (show false=true from h) Bool.false_ne_true | (simp [eqV])
theorem Xp (I:Inv X pins σ a.H s) (hk:a.K=X.K) (sm:Sim a G):∀(n:Nat) {d e:D} {x:V} {k:Bool},Rep a d x->Rep a e x->eqD n G d e=some k->k=true
 | 0,_,_,_,_,_,_,h=>by cases h
 | n + 1,d,e,x,k,rd,re,h=>by
  have vd:=Ov sm rd;have ve:=Ov sm re;have items:∀{xs ys:List D} {vs:List V} {b:Bool},Reps a xs vs->Reps a ys vs->eqZ (eqD n G) xs ys=some b->b=true:=λ{xs ys vs b} r1 r2 hz=>by obtain ⟨f,hf,hb⟩:=Mz hz;rw [hb,List.all_eq_true];intro j hj;have hj':j < min xs.length ys.length:=List.mem_range.mp hj;have h1:xs[j]? =some (xs[j]'(by omega)):=List.getElem?_eq_getElem (by omega);have h2:ys[j]? =some (ys[j]'(by omega)):=List.getElem?_eq_getElem (by omega);obtain ⟨v1,e1,q1⟩:=r1.get h1;obtain ⟨v2,e2,q2⟩:=r2.get h2;rw [e1] at e2;cases e2;exact Xp I hk sm n q1 q2 (hf j _ _ h1 h2)
  unfold eqD at h
  try dsimp only at h
  revert h vd ve
  cases view G d <;> cases view G e <;> intro vd ve h <;> dsimp only at h vd ve <;> first
   | cases h
   | skip
  ·
   rename_i v w;obtain ⟨rfl,f1⟩:=vd;obtain ⟨rfl,f2⟩:=ve;exact ZA9 _ f1
  ·obtain ⟨rfl,f1⟩:=vd;obtain ⟨p,vs,e1,_⟩:=ve;subst e1;cases f1
  ·obtain ⟨rfl,f1⟩:=vd;obtain ⟨p,vs,e1,_⟩:=ve;subst e1;cases f1
  ·obtain ⟨rfl,f1⟩:=ve;obtain ⟨p,vs,e1,_⟩:=vd;subst e1;cases f1
  ·obtain ⟨p,vs,e1,h1,r1⟩:=vd;obtain ⟨p',vs',e2,h2,r2⟩:=ve;rw [e1] at e2;cases e2;rw [hk] at h1 h2;cases I.Ud h1 h2;split at h
   ·exact items r1 r2 h
   ·rename_i hl;exact absurd (r1.length.trans r2.length.symm) hl
  ·obtain ⟨p,vs,e1,h1,r1⟩:=vd;obtain ⟨p',vs',e2,h2,r2⟩:=ve;rw [e1] at e2;cases e2;rw [hk] at h1 h2;obtain ⟨_,_,pl,_⟩:=I.list h1;obtain ⟨_,_,pt,_⟩:=I.tuple h2;exact absurd rfl (SeqAt.ne_of_list_tuple pl.isList pt)
  ·obtain ⟨rfl,f1⟩:=ve;obtain ⟨p,vs,e1,_⟩:=vd;subst e1;cases f1
  ·obtain ⟨p,vs,e1,h1,r1⟩:=vd;obtain ⟨p',vs',e2,h2,r2⟩:=ve;rw [e1] at e2;cases e2;rw [hk] at h1 h2;obtain ⟨_,_,pl,_⟩:=I.list h2;obtain ⟨_,_,pt,_⟩:=I.tuple h1;exact absurd rfl (SeqAt.ne_of_list_tuple pl.isList pt)
  ·obtain ⟨p,vs,e1,h1,r1⟩:=vd;obtain ⟨p',vs',e2,h2,r2⟩:=ve;rw [e1] at e2;cases e2;rw [hk] at h1 h2;cases I.Td h1 h2;split at h
   ·rename_i b hz;have h':(b && _)=k:=Option.some.inj h;rw [<-h',items r1 r2 hz,r1.length,r2.length];simp
   ·cases h
theorem Nq {xs:List D} {its:List Value} (r:Reps a xs vs) (q:Vals vs its) (h:j < its.toArray.size):∃d v,xs[j]? =some d/\Rep a d v/\RelV v its.toArray[j]:=by
 have hl:j < its.length:=by simpa using h
 have h2:j < vs.length:=by rw [q.length];exact hl
 obtain ⟨v,e1⟩:∃v,vs[j]? =some v:=⟨vs[j],List.getElem?_eq_getElem h2⟩;obtain ⟨d,e2,rd⟩:=r.get' e1;obtain ⟨u,e3,ru⟩:=q.get e1;have e4:u=its.toArray[j]:=by have:its[j]? =some its[j]:=List.getElem?_eq_getElem hl;rw [this] at e3;simpa using (Option.some.inj e3).symm
 exact ⟨d,v,e2,rd,by rw [<-e4];exact ru⟩
theorem M8 (I:Inv X pins σ a.H s) (hk:a.K=X.K) (sm:Sim a G):∀(n:Nat) {A:Around} {d e:D} {x y:V} {u w:Value} {k:Bool},A.units + n < cLine->Rep a d x->Rep a e y->RelV x u->RelV y w->eqD n G d e=some k->
  SeqAt.EqAt A s u w k/\SeqAt.RcAt A s u w k/\SeqAt.RcNeAt A s u w (!k)
 | 0,_,_,_,_,_,_,_,_,_,_,_,_,_,h=>by cases h
 | n + 1,A,d,e,x,y,u,w,k,hu,rd,re,ru,rw',h=>by
  have vd:=Ov sm rd;have ve:=Ov sm re;have hu1:A.units < cLine:=by omega
  have hu2:A.in1.units + n < cLine:=by show A.units + 1 + n < cLine;omega
  have same:∀{z:V},Rep a d z->Rep a e z->eqD (n + 1) G d e=some k->k=true:=λr1 r2 r3=>Xp I hk sm (n + 1) r1 r2 r3
  have h0:=h;unfold eqD at h
  try dsimp only at h
  have refs:∀{p q:Addr} {k:Bool},(p=q->k=true)->SeqAt.RcAt A s (.ref p) (.ref q) k->SeqAt.EqAt A s (.ref p) (.ref q) k:=λ{p q k} hs hr=>by
   by_cases e:p=q
   ·rw [hs e,e];exact SeqAt.EqAt.same _
   ·exact SeqAt.EqAt.of_refs e hr
  revert h vd ve
  cases hvd:view G d <;> cases hve:view G e <;> intro vd ve h <;> dsimp only at h vd ve <;> first
   | cases h
   | skip
  ·
   obtain ⟨rfl,f1⟩:=vd;obtain ⟨rfl,f2⟩:=ve;exact ⟨Wa ru rw' f1 f2,ZEZ ru rw' f1 f2,ZCM ru rw' f1 f2⟩
  ·
   obtain ⟨rfl,f1⟩:=vd;obtain ⟨q,vs,rfl,h2,r2⟩:=ve;cases rw';rw [hk] at h2;obtain ⟨its,qv,pl,_⟩:=I.list h2;cases x with
   | non=>cases ru;exact ⟨SeqAt.EqAt.none_list pl.isList hu1,SeqAt.RcAt.none_list pl.isList hu1,SeqAt.RcNeAt.none_list pl.isList hu1⟩
   | bl b=>cases ru;exact ⟨SeqAt.EqAt.bool_list b pl.isList hu1,SeqAt.RcAt.bool_list b pl.isList hu1,SeqAt.RcNeAt.bool_list b pl.isList hu1⟩
   | int b=>obtain ⟨t,rfl⟩:=ru;exact ⟨SeqAt.EqAt.int_list b t pl.isList hu1,SeqAt.RcAt.int_list b t pl.isList hu1,SeqAt.RcNeAt.int_list b t pl.isList hu1⟩
   | str b=>obtain ⟨t,rfl⟩:=ru;exact ⟨SeqAt.EqAt.str_list b t pl.isList hu1,SeqAt.RcAt.str_list b t pl.isList hu1,SeqAt.RcNeAt.str_list b t pl.isList hu1⟩
   | _=>exact absurd (show false=true from f1) Bool.false_ne_true
  ·
   obtain ⟨rfl,f1⟩:=vd;obtain ⟨q,vs,rfl,h2,r2⟩:=ve;cases rw';rw [hk] at h2;obtain ⟨its,qv,pl,_⟩:=I.tuple h2;cases x with
   | non=>cases ru;exact ⟨SeqAt.EqAt.none_tuple pl hu1,SeqAt.RcAt.none_tuple pl hu1,SeqAt.RcNeAt.none_tuple pl hu1⟩
   | bl b=>cases ru;exact ⟨SeqAt.EqAt.bool_tuple b pl hu1,SeqAt.RcAt.bool_tuple b pl hu1,SeqAt.RcNeAt.bool_tuple b pl hu1⟩
   | int b=>obtain ⟨t,rfl⟩:=ru;exact ⟨SeqAt.EqAt.int_tuple b t pl hu1,SeqAt.RcAt.int_tuple b t pl hu1,SeqAt.RcNeAt.int_tuple b t pl hu1⟩
   | str b=>obtain ⟨t,rfl⟩:=ru;exact ⟨SeqAt.EqAt.str_tuple b t pl hu1,SeqAt.RcAt.str_tuple b t pl hu1,SeqAt.RcNeAt.str_tuple b t pl hu1⟩
   | _=>exact absurd (show false=true from f1) Bool.false_ne_true
  ·
   obtain ⟨rfl,f1⟩:=ve;obtain ⟨q,vs,rfl,h2,r2⟩:=vd;cases ru;rw [hk] at h2;obtain ⟨its,qv,pl,_⟩:=I.list h2;cases y with
   | non=>cases rw';exact ⟨SeqAt.EqAt.list_none pl.isList hu1,SeqAt.RcAt.list_none pl.isList hu1,SeqAt.RcNeAt.list_none pl.isList hu1⟩
   | bl b=>cases rw';exact ⟨SeqAt.EqAt.list_bool b pl.isList hu1,SeqAt.RcAt.list_bool b pl.isList hu1,SeqAt.RcNeAt.list_bool b pl.isList hu1⟩
   | int b=>obtain ⟨t,rfl⟩:=rw';exact ⟨SeqAt.EqAt.list_int b t pl.isList hu1,SeqAt.RcAt.list_int b t pl.isList hu1,SeqAt.RcNeAt.list_int b t pl.isList hu1⟩
   | str b=>obtain ⟨t,rfl⟩:=rw';exact ⟨SeqAt.EqAt.list_str b t pl.isList hu1,SeqAt.RcAt.list_str b t pl.isList hu1,SeqAt.RcNeAt.list_str b t pl.isList hu1⟩
   | _=>exact absurd (show false=true from f1) Bool.false_ne_true
  ·
   obtain ⟨p,vs,rfl,h1,r1⟩:=vd;obtain ⟨q,vs',rfl,h2,r2⟩:=ve;cases ru;cases rw';rw [hk] at h1 h2;obtain ⟨its,q1,p1,_⟩:=I.list h1;obtain ⟨its',q2,p2,_⟩:=I.list h2;have sz1:its.toArray.size=vs.length:=by rw [List.size_toArray];exact q1.length.symm
   have sz2:its'.toArray.size=vs'.length:=by rw [List.size_toArray];exact q2.length.symm
   split at h
   ·rename_i hl;obtain ⟨f,hf,hb⟩:=Mz h;have hsz:its.toArray.size=its'.toArray.size:=by rw [sz1,sz2,<-r1.length,<-r2.length];exact hl
    have he:∀j (g1:j < its.toArray.size) (g2:j < its'.toArray.size),SeqAt.EqAt A.in1 s its.toArray[j] its'.toArray[j] (f j):=λj g1 g2=>by obtain ⟨d1,v1,e1,rd1,rv1⟩:=Nq r1 q1 g1;obtain ⟨d2,v2,e2,rd2,rv2⟩:=Nq r2 q2 g2;exact (M8 I hk sm n hu2 rd1 rd2 rv1 rv2 (hf j d1 d2 e1 e2)).1
    have hk':k=(List.range its.toArray.size).all f:=by
     rw [hb]
     congr 2
     rw [sz1,<-r1.length,hl];omega
    have rc:SeqAt.RcAt A s (.ref p) (.ref q) k:=by rw [hk'];exact SeqAt.RcAt.lists p1.isList p2.isList hsz hu1 he
    refine ⟨refs (λe=> ?_) rc,rc,by rw [hk'];exact SeqAt.RcNeAt.lists p1.isList p2.isList hsz hu1 he⟩;subst e;exact same rd re h0
   ·rename_i hl;have h':false=k:=Option.some.inj h;subst h';have hsz:(its.toArray.size != its'.toArray.size)=true:=by rw [bne_iff_ne,sz1,sz2,<-r1.length,<-r2.length];exact hl
    refine ⟨refs (λe=> ?_) (SeqAt.RcAt.lists_lengths p1.isList p2.isList hsz hu1),SeqAt.RcAt.lists_lengths p1.isList p2.isList hsz hu1,SeqAt.RcNeAt.lists_lengths p1.isList p2.isList hsz hu1⟩;subst e;exact same rd re h0
  ·
   obtain ⟨p,vs,rfl,h1,r1⟩:=vd;obtain ⟨q,vs',rfl,h2,r2⟩:=ve;cases ru;cases rw';rw [hk] at h1 h2;obtain ⟨its,q1,p1,_⟩:=I.list h1;obtain ⟨its',q2,p2,_⟩:=I.tuple h2;exact ⟨SeqAt.EqAt.list_tuple p1.isList p2 hu1,SeqAt.RcAt.list_tuple p1.isList p2 hu1,SeqAt.RcNeAt.list_tuple p1.isList p2 hu1⟩
  ·
   obtain ⟨rfl,f1⟩:=ve;obtain ⟨q,vs,rfl,h2,r2⟩:=vd;cases ru;rw [hk] at h2;obtain ⟨its,qv,pl,_⟩:=I.tuple h2;cases y with
   | non=>cases rw';exact ⟨SeqAt.EqAt.tuple_none pl hu1,SeqAt.RcAt.tuple_none pl hu1,SeqAt.RcNeAt.tuple_none pl hu1⟩
   | bl b=>cases rw';exact ⟨SeqAt.EqAt.tuple_bool b pl hu1,SeqAt.RcAt.tuple_bool b pl hu1,SeqAt.RcNeAt.tuple_bool b pl hu1⟩
   | int b=>obtain ⟨t,rfl⟩:=rw';exact ⟨SeqAt.EqAt.tuple_int b t pl hu1,SeqAt.RcAt.tuple_int b t pl hu1,SeqAt.RcNeAt.tuple_int b t pl hu1⟩
   | str b=>obtain ⟨t,rfl⟩:=rw';exact ⟨SeqAt.EqAt.tuple_str b t pl hu1,SeqAt.RcAt.tuple_str b t pl hu1,SeqAt.RcNeAt.tuple_str b t pl hu1⟩
   | _=>exact absurd (show false=true from f1) Bool.false_ne_true
  ·
   obtain ⟨p,vs,rfl,h1,r1⟩:=vd;obtain ⟨q,vs',rfl,h2,r2⟩:=ve;cases ru;cases rw';rw [hk] at h1 h2;obtain ⟨its,q1,p1,_⟩:=I.tuple h1;obtain ⟨its',q2,p2,_⟩:=I.list h2;exact ⟨SeqAt.EqAt.tuple_list p1 p2.isList hu1,SeqAt.RcAt.tuple_list p1 p2.isList hu1,SeqAt.RcNeAt.tuple_list p1 p2.isList hu1⟩
  ·
   rename_i xs ys;obtain ⟨p,vs,rfl,h1,r1⟩:=vd;obtain ⟨q,vs',rfl,h2,r2⟩:=ve;cases ru;cases rw';rw [hk] at h1 h2;obtain ⟨its,q1,p1,_⟩:=I.tuple h1;obtain ⟨its',q2,p2,_⟩:=I.tuple h2;have sz1:its.toArray.size=xs.length:=by rw [List.size_toArray,r1.length];exact q1.length.symm
   have sz2:its'.toArray.size=ys.length:=by rw [List.size_toArray,r2.length];exact q2.length.symm
   split at h
   ·rename_i b hz;have h':(b && xs.length == ys.length)=k:=Option.some.inj h;obtain ⟨f,hf,hb⟩:=Mz hz;have he:∀j (g1:j < its.toArray.size) (g2:j < its'.toArray.size),SeqAt.EqAt A.in1 s its.toArray[j] its'.toArray[j] (f j):=λj g1 g2=>by obtain ⟨d1,v1,e1,rd1,rv1⟩:=Nq r1 q1 g1;obtain ⟨d2,v2,e2,rd2,rv2⟩:=Nq r2 q2 g2;exact (M8 I hk sm n hu2 rd1 rd2 rv1 rv2 (hf j d1 d2 e1 e2)).1
    have hk':k=((List.range (min its.toArray.size its'.toArray.size)).all f && its.toArray.size == its'.toArray.size):=by rw [<-h',hb,sz1,sz2]
    have rc:SeqAt.RcAt A s (.ref p) (.ref q) k:=by rw [hk'];exact SeqAt.RcAt.tuples p1 p2 hu1 he
    refine ⟨refs (λe=> ?_) rc,rc,by rw [hk'];exact SeqAt.RcNeAt.tuples p1 p2 hu1 he⟩;subst e;exact same rd re h0
   ·cases h
def Cp (d e:D) (G:DH):R D:=match eqD 30 G d e with
 | some k=>.ok (.bl k) G
 | none=>.bad
def Eu (d e:D) (G:DH):R D:=match eqD 30 G d e with
 | some k=>.ok (.bl (!k)) G
 | none=>.bad
theorem G9 (hu:X.A.units + 64 < cLine):OpR X (compareOp .Eq) (lR2 X.K E Cp):=by
 intro pins s σ H x y v u Q I rx ry ⟨a,G,d,e,hk,hH,sm,rd,re,q⟩;subst hH;unfold Cp at q;split at q
 ·rename_i k hd;exact (M8 I hk sm 30 (by omega) rd re rx ry hd).2.1 _ _ _ _ ⟨.bl k,a.H,I,rfl,q a _ (Ext.refl a) sm rfl⟩
 ·exact q.elim
theorem Ph (hu:X.A.units + 64 < cLine):OpR X (compareOp .NotEq) (lR2 X.K E Eu):=by
 intro pins s σ H x y v u Q I rx ry ⟨a,G,d,e,hk,hH,sm,rd,re,q⟩;subst hH;unfold Eu at q;split at q
 ·rename_i k hd;exact (M8 I hk sm 30 (by omega) rd re rx ry hd).2.2 _ _ _ _ ⟨.bl (!k),a.H,I,rfl,q a _ (Ext.refl a) sm rfl⟩
 ·exact q.elim
end
abbrev DG:=D->DSt->DH->R DSt
variable {g:DG}
def Cy (E:XK) (a:Wd) (r:R DSt) (Q:St->Hp->Prop):Prop:=match r with
 | .ok S G=>∀(b:Wd) (σ:St),Ext a b->Sim b G->RepS b S σ->Q σ b.H
 | .err x G=>XOk E a x G
 | .bad=>False
def lG (K:PySem.W.Frag) (E:XK) (t:DG):TG:=λv σ H Q=>∃(a:Wd) (S:DSt) (G:DH) (d:D),a.K=K/\a.H=H/\Sim a G/\RepS a S σ/\Rep a d v/\Cy E a (t d S G) Q
def QG (X:Cx) (E:XK) (tg:Expr) (t:DG):Prop:=PG X tg (lG X.K E t)
abbrev DGs:=List D->DSt->DH->R DSt
def lGs (K:PySem.W.Frag) (E:XK) (t:DGs):TGs:=λvs σ H Q=>∃(a:Wd) (S:DSt) (G:DH) (ds:List D),a.K=K/\a.H=H/\Sim a G/\RepS a S σ/\Reps a ds vs/\Cy E a (t ds S G) Q
def QGs (X:Cx) (E:XK) (tg:List Expr) (t:DGs):Prop:=PGs X tg (lGs X.K E t)
def gV (i:Nat):DG:=λd S G=>.ok (S.set i (some d)) G
def Bv:DGs:=λds S G=>match ds with
 | []=>.ok S G
 | _=>.bad
def Ar (t:DG) (u:DGs):DGs:=λds S G=>match ds with
 | d::r=>(t d S G).bind λS1 G1=>u r S1 G1
 | []=>.bad
def Bl (n:Nat) (t:DGs):DG:=λd S G=>match d with
 | .tup ds=>if ds.length=n then t ds S G else .bad
 | _=>.bad
theorem Cy.imp {r:R DSt} {Q Q':St->Hp->Prop} (h:Cy E a r Q) (w:∀v H,Q v H->Q' v H):Cy E a r Q':=by
 cases r with
 | ok d G=>exact λb v x s q=>w _ _ (h b v x s q)
 | err e G=>exact h
 | bad=>exact h
theorem Cy.mono (x:Ext a b) {r:R DSt} {Q:St->Hp->Prop} (h:Cy E a r Q):Cy E b r Q:=by
 cases r with
 | ok d G=>exact λc v y s q=>h c v (x.trans y) s q
 | err e G=>exact XOk.mono (E:=E) (e:=e) (G:=G) x h
 | bad=>exact h
theorem ZB9 {r:R DSt} {f:DSt->DH->R DSt} {Q:St->Hp->Prop} (h:Cy E a (r.bind f) Q):
  Cy E a r (λσ H=>∃(b:Wd) (S:DSt) (G:DH),b.H=H/\Ext a b/\Sim b G/\RepS b S σ/\r=.ok S G/\Cy E b (f S G) Q):=by
 cases r with
 | ok d G=>exact λb v x s q=>⟨b,d,G,rfl,x,s,q,rfl,Cy.mono x h⟩
 | err e G=>exact h
 | bad=>exact h
theorem O3 {r:R DSt} {f:DSt->DH->SR} (h:Aw E a (r.toS f) W):
  Cy E a r (λσ H=>∃(b:Wd) (S:DSt) (G:DH),b.H=H/\Ext a b/\Sim b G/\RepS b S σ/\r=.ok S G/\Aw E b (f S G) W):=by
 cases r with
 | ok d G=>exact λb v x s q=>⟨b,d,G,rfl,x,s,q,rfl,Aw.mono x h⟩
 | err e G=>exact h
 | bad=>exact h
section
variable {X:Cx} {E:XK}
theorem _root_.L2.PG.mono {t t':TG} (h:PG X e t) (w:∀v σ H Q,t' v σ H Q->t v σ H Q):PG X e t':=λpins s σ H v u Q I r q=>h pins s σ H v u Q I r (w v σ H Q q)
theorem _root_.L2.PGs.mono {e:List Expr} {t t':TGs} (h:PGs X e t) (w:∀v σ H Q,t' v σ H Q->t v σ H Q):PGs X e t':=λpins s σ H v u Q I r q=>h pins s σ H v u Q I r (w v σ H Q q)
theorem Ba (i:Nat) {pos:Pos} (hN:X.N.Nodup) (hi:X.N[i]? =some x:=by rfl) (hx:Loc X.env.scope x:=by first | exact Or.inl rfl | exact Or.inr rfl)
  (hf:X.fn x=true∨X.env.scope.names.lookup x=some .local:=by first | exact .inl rfl | exact .inr rfl | assumption):QG X E (.Name x pos) (gV i):=
 (Zz hN hi hx hf).mono λv σ H Q h=>by obtain ⟨a,S,G,d,hk,rfl,s,r,q,h⟩:=h;exact h a _ (Ext.refl a) s (r.set i q)
theorem Hc:QGs X E [] Bv:=ZD4.mono λvs σ H Q h=>by
 obtain ⟨a,S,G,ds,hk,rfl,s,r,q,h⟩:=h;cases ds with
 | nil=>exact ⟨q,h a σ (Ext.refl a) s r⟩
 | cons d ds=>exact h.elim
theorem Bm {es:List Expr} {t:DG} {u:DGs} (h1:QG X E e t) (h2:QGs X E es u)
  (hs:(assignEach (e::es) X.env).map (·.2)=assign e X.env::(assignEach es X.env).map (·.2):=by rfl):QGs X E (e::es) (Ar t u):=(ZDr h1 h2 hs).mono λvs σ H Q h=>by
 obtain ⟨a,S,G,ds,hk,rfl,s,r,q,h⟩:=h;cases ds with
 | nil=>exact h.elim
 | cons d ds=>
  obtain ⟨v,rest,e1,q1,q2⟩:=q;refine ⟨v,rest,e1,a,S,G,d,hk,rfl,s,r,q1,(ZB9 h).imp ?_⟩;rintro σ' _ ⟨b,S1,G1,rfl,x,s1,r1,_,h1⟩;exact ⟨b,S1,G1,ds,x.k.trans hk,rfl,s1,r1,q2.mono x,h1⟩
theorem Ha {es:List Expr} {k:Nat} {t:DGs} {pos:Pos} (hc:X.calm=true) (h:QGs X E es t)
  (hn:(assignEach es X.env).length=n:=by rfl) (hst:(assignEach es X.env).findIdx? (·.1)=none:=by rfl):QG X E (.Tuple es k pos) (Bl n t):=(ZCP hc h hn hst).mono λv σ H Q h=>by
 obtain ⟨a,S,G,d,hk,rfl,s,r,q,h⟩:=h;cases d with
 | tup ds=>
  obtain ⟨p,vs,e,h1,r1⟩:=q;unfold Bl at h;dsimp only at h;split at h
  ·rename_i hl;exact ⟨p,vs,e,by rw [<-hk];exact h1,by rw [<-r1.length];exact hl,a,S,G,ds,hk,rfl,s,r,r1,h⟩
  ·exact h.elim
 | _=>exact h.elim
theorem ZA0 {vs':List V} {ds':List D} (s:Sim a G) (hi:i < a.n) (h:a.H (a.m i)=some (.lst vs)) (r:Reps a ds' vs'):
  Ext a (a.put (a.m i) (.lst vs'))/\Sim (a.put (a.m i) (.lst vs')) (G.set i (.lst ds')):=⟨Ext.wr h,s.wr hi h (r.mono (Ext.wr h))⟩
variable {st:Stmt} {rest:List Stmt} {t u:DS} {e:Expr} {te:DE} {pos:Pos}
def sNx:DS:=λS G=>.nx S G
def Ak (t u:DS):DS:=λS G=>match t S G with
 | .nx S1 G1=>u S1 G1
 | r=>r
def sEx (te:DE):DS:=λS G=>(te S G).toS λ_ G1=>.nx S G1
def sRt (te:DE):DS:=λS G=>(te S G).toS λd G1=>.rt d G1
def sIf (c:DB) (t u:DS):DS:=λS G=>(c S G).toS λk G1=>if k=true then t S G1 else u S G1
def sAs (te:DE) (g:DG):DS:=λS G=>(te S G).toS λd G1=>(g d S G1).toS λS2 G2=>.nx S2 G2
theorem Br:QSs X E [] sNx:=ZAM.mono λW σ H h=>by obtain ⟨a,S,G,hk,rfl,s,r,h⟩:=h;exact h a σ (Ext.refl a) s r
theorem Aw.nxOf {t:DS} (hk:a.K=K) (h:Aw E a (Ak t u S G) W):Aw E a (t S G) {W with nx:=lS K E u W}:=by
 unfold Ak at h
 revert h
 cases t S G <;> intro h
 ·exact λb σ x s r=>⟨b,_,_,x.k.trans hk,rfl,s,r,Aw.mono x h⟩
 all_goals exact h
theorem Am (h1:QS X E st t) (h2:QSs X E rest u):QSs X E (st::rest) (Ak t u):=(ZAW h1 h2).mono λW σ H h=>by obtain ⟨a,S,G,hk,rfl,s,r,h⟩:=h;exact ⟨a,S,G,hk,rfl,s,r,h.nxOf hk⟩
theorem An (h1:QS X E st t):QSs X E [st] t:=ZBx h1
theorem Ou (he:QE X E e te) (hs:swapsWith e none pos.line X.env=pure false:=by rfl):QS X E (.Expr e pos) (sEx te):=(ZDQ he hs).mono λW σ H h=>by obtain ⟨a,S,G,hk,rfl,s,r,h⟩:=h;refine ⟨a,S,G,hk,rfl,s,r,(Mq h).imp ?_⟩;rintro v _ ⟨b,d,G1,rfl,x,s1,q,_,h1⟩;exact h1 b σ (Ext.refl b) s1 (r.mono x)
theorem Ay (he:QE X E e te):QS X E (.Return (some e) pos) (sRt te):=(ZDX he).mono λW σ H h=>by obtain ⟨a,S,G,hk,rfl,s,r,h⟩:=h;refine ⟨a,S,G,hk,rfl,s,r,(Mq h).imp ?_⟩;rintro v _ ⟨b,d,G1,rfl,x,s1,q,_,h1⟩;exact h1 b v (Ext.refl b) s1 q
theorem Bo {c:Expr} {tc:DB} {a b:List Stmt} (hc:QT X E c tc) (ha:QSs X E a t) (hb:QSs X E b u):QS X E (.If c a b pos) (sIf tc t u):=(ZAr hc ha hb).mono λW σ H h=>by
 obtain ⟨a,S,G,hk,rfl,s,r,h⟩:=h;refine ⟨a,S,G,hk,rfl,s,r,(ZCA h).imp ?_⟩;rintro k _ ⟨b,G1,rfl,x,s1,_,h1⟩;cases k with
 | true=>exact ⟨b,S,G1,x.k.trans hk,rfl,s1,r.mono x,h1⟩
 | false=>exact ⟨b,S,G1,x.k.trans hk,rfl,s1,r.mono x,h1⟩
theorem ZBz (h:lS K E (sAs te g) W σ H):Sw (lE K E te) (lG K E g) W σ H:=by obtain ⟨a,S,G,hk,rfl,s,r,h⟩:=h;refine ⟨a,S,G,hk,rfl,s,r,(Mq h).imp ?_⟩;rintro v _ ⟨b,d,G1,rfl,x,s1,q,_,h1⟩;refine ⟨b,S,G1,d,x.k.trans hk,rfl,s1,r.mono x,q,(O3 h1).imp ?_⟩;rintro σ' _ ⟨c,S2,G2,rfl,y,s2,r2,_,h2⟩;exact h2 c σ' (Ext.refl c) s2 r2
theorem Rb (he:QE X E e te) (hg:QG X E tg g) (hs:swapsWithSole [tg] e pos.line X.env=pure false:=by rfl) (hw:swappedStores [tg] e X.env=pure none:=by rfl)
  (h1:(assignEach [tg] X.env).map (·.2)= [assign tg X.env]:=by rfl):QS X E (.Assign [tg] e pos) (sAs te g):=(ZCV he hg hs hw h1).mono λ_ _ _ h=>ZBz h
theorem Bg (i:Nat) {pos':Pos} (hN:X.N.Nodup) (he:QE X E e te) (hi:X.N[i]? =some x:=by rfl) (hx:Loc X.env.scope x:=by first | exact Or.inl rfl | exact Or.inr rfl) (hs:swapsWith e (some (.Name x pos')) pos.line X.env=pure false:=by rfl)
  (hf:X.fn x=true∨X.env.scope.names.lookup x=some .local:=by first | exact .inl rfl | exact .inr rfl | assumption):QS X E (.Assign [.Name x pos'] e pos) (sAs te (gV i)):=
 (Zb hN hi hx he hs hf).mono λW σ H h=>by obtain ⟨a,S,G,hk,rfl,s,r,h⟩:=h;refine ⟨a,S,G,hk,rfl,s,r,(Mq h).imp ?_⟩;rintro v _ ⟨b,d,G1,rfl,x,s1,q,_,h1⟩;exact h1 b _ (Ext.refl b) s1 ((r.mono x).set i q)
end
def aft (r:SR) (k:DSt->DH->SR):SR:=match r with
 | .nx S G=>k S G
 | .ct S G=>k S G
 | .bk S G=>.nx S G
 | r=>r
def Bs (g:DG) (b:DS):List D->DS
 | [],S,G=>.nx S G
 | x::xs,S,G=>(g x S G).toS λS1 G1=>aft (b S1 G1) (Bs g b xs)
def forM (i:Nat) (g:DG) (b:DS):Nat->Nat->DS
 | 0,j,S,G=>match G[i]? with
  | some (.lst xs)=>if xs.length<=j then .nx S G else .bad
  | _=>.bad
 | k + 1,j,S,G=>match G[i]? with
  | some (.lst xs)=>match xs[j]? with
   | some x=>(g x S G).toS λS1 G1=>aft (b S1 G1) (forM i g b k (j + 1))
   | none=>.nx S G
  | _=>.bad
def G8 (f:Nat->DH->Option (Option D)) (g:DG) (b:DS):Nat->Nat->DS
 | 0,j,S,G=>match f j G with
  | some none=>.nx S G
  | _=>.bad
 | k + 1,j,S,G=>match f j G with
  | some (some x)=>(g x S G).toS λS1 G1=>aft (b S1 G1) (G8 f g b k (j + 1))
  | some none=>.nx S G
  | none=>.bad
inductive ItD where
 | pure (xs:List D)
 | mt (i:Nat)
 | fn (n:Nat) (f:Nat->DH->Option (Option D))
abbrev DI:=DSt->DH->R ItD
def Ed (it:DI) (g:DG) (b:DS):DS:=λS G=>(it S G).toS λJ G1=>match J with
 | .pure xs=>Bs g b xs S G1
 | .mt i=>match G1[i]? with
  | some (.lst xs)=>forM i g b xs.length 0 S G1
  | _=>.bad
 | .fn n f=>G8 f g b n 0 S G1
def RepI (a:Wd):ItD->It->Prop
 | .pure xs,J=>∃vs:List V,Reps a xs vs/\∀b:Wd,Ext a b->∀i,(∀v,vs[i]? =some v->J.go i b.H/\∀x H',J.yld i b.H x H'->x=v/\H'=b.H)/\(vs.length<=i->J.stop i b.H)
 | .mt k,J=>k < a.n/\∀b:Wd,Ext a b->∀vs,b.H (b.m k)=some (.lst vs)->∀i,(∀v,vs[i]? =some v->J.go i b.H/\∀x H',J.yld i b.H x H'->x=v/\H'=b.H)/\(vs.length<=i->J.stop i b.H)
 | .fn _ f,J=>∀b:Wd,Ext a b->∀G,Sim b G->∀i,(∀d,f i G=some (some d)->J.go i b.H/\∀x H',J.yld i b.H x H'->∃c:Wd,c.H=H'/\Ext b c/\Sim c G/\Rep c d x)/\(f i G=some none->J.stop i b.H)
def outI (E:XK) (a:Wd) (r:R ItD) (Q:It->Hp->Prop):Prop:=match r with
 | .ok J G=>∀(b:Wd) (JJ:It),Ext a b->Sim b G->RepI b J JJ->Q JJ b.H
 | .err x G=>XOk E a x G
 | .bad=>False
def lI (K:PySem.W.Frag) (E:XK) (t:DI):TI:=λσ H Q=>∃(a:Wd) (S:DSt) (G:DH),a.K=K/\a.H=H/\Sim a G/\RepS a S σ/\outI E a (t S G) Q
def QI (X:Cx) (E:XK) (tg iter:Expr) (t:DI):Prop:=PI X tg iter (lI X.K E t)
theorem outI.imp {r:R ItD} {Q Q':It->Hp->Prop} (h:outI E a r Q) (w:∀v H,Q v H->Q' v H):outI E a r Q':=by
 cases r with
 | ok d G=>exact λb v x s q=>w _ _ (h b v x s q)
 | err e G=>exact h
 | bad=>exact h
theorem Zu {r:R ItD} {f:ItD->DH->SR} (h:Aw E a (r.toS f) W):
  outI E a r (λJ H=>∃(b:Wd) (d:ItD) (G:DH),b.H=H/\Ext a b/\Sim b G/\RepI b d J/\r=.ok d G/\Aw E b (f d G) W):=by
 cases r with
 | ok d G=>exact λb v x s q=>⟨b,d,G,rfl,x,s,q,rfl,Aw.mono x h⟩
 | err e G=>exact h
 | bad=>exact h
theorem S9 {r:SR} {k:DSt->DH->SR} (h:Aw E a (aft r k) W):
  Aw E a r {W with
            nx:=λσ H=>∃(b:Wd) (S:DSt) (G:DH),b.H=H/\Ext a b/\Sim b G/\RepS b S σ/\Aw E b (k S G) W,
            ct:=λσ H=>∃(b:Wd) (S:DSt) (G:DH),b.H=H/\Ext a b/\Sim b G/\RepS b S σ/\Aw E b (k S G) W,bk:=W.nx}:=by
 cases r with
 | nx S G=>exact λb σ x s q=>⟨b,S,G,rfl,x,s,q,Aw.mono x h⟩
 | ct S G=>exact λb σ x s q=>⟨b,S,G,rfl,x,s,q,Aw.mono x h⟩
 | bk S G=>exact h
 | rt d G=>exact h
 | err x G=>exact h
 | bad=>exact h
section
variable {X:Cx} {E:XK} {tg iter:Expr} {pos:Pos}
theorem Zm {it:DI} {b:DS} (h:lS K E (Ed it g b) W σ H):tFor (lI K E it) (lG K E g) (lS K E b) W σ H:=by
 obtain ⟨a,S,G,hk,rfl,s,r,h⟩:=h;refine ⟨a,S,G,hk,rfl,s,r,(Zu h).imp ?_⟩;rintro J _ ⟨a1,d,G1,rfl,x1,s1,q1,_,h1⟩;have k1:a1.K=K:=x1.k.trans hk;cases d with
 | pure xs=>
  obtain ⟨vs,rv,walk⟩:=q1;refine ⟨λi m σ H=>m=vs.length - i/\i<=vs.length/\∃(c:Wd) (S:DSt) (G:DH),c.H=H/\Ext a1 c/\Sim c G/\RepS c S σ/\Aw E c (Bs g b (xs.drop i) S G) W,⟨_,rfl,Nat.zero_le _,a1,S,G1,rfl,Ext.refl _,s1,r.mono x1,h1⟩,?_⟩;rintro i m σ2 _ ⟨rfl,hi,c,S2,G2,rfl,x2,s2,r2,h2⟩;by_cases hl:i < vs.length
  ·have e1:vs[i]? =some vs[i]:=List.getElem?_eq_getElem hl;obtain ⟨d,e2,rd⟩:=rv.get' e1;have hd:xs.drop i=d::xs.drop (i + 1):=by
    have hlx:i < xs.length:=(List.getElem?_eq_some_iff.mp e2).1;rw [List.drop_eq_getElem_cons hlx]
    congr 1
    exact (List.getElem?_eq_some_iff.mp e2).2
   rw [hd] at h2;obtain ⟨go,yl⟩:=(walk c x2 i).1 _ e1;refine .inr ⟨go,λσ' H'=>∃m',m' < vs.length - i/\(m'=vs.length - (i + 1)/\i + 1<=vs.length/\∃(c:Wd) (S:DSt) (G:DH),c.H=H'/\Ext a1 c/\Sim c G/\RepS c S σ'/\Aw E c (Bs g b (xs.drop (i + 1)) S G) W),λσ' H' z=>z,λv H' y=> ?_⟩;obtain ⟨rfl,rfl⟩:=yl v H' y;refine ⟨c,S2,G2,d,x2.k.trans k1,rfl,s2,r2,rd.mono x2,(O3 h2).imp ?_⟩;rintro σ3 _ ⟨c3,S3,G3,rfl,x3,s3,r3,_,h3⟩
   have fin:=S9 h3;refine ⟨c3,S3,G3,x3.k.trans (x2.k.trans k1),rfl,s3,r3,?_⟩
   revert fin
   cases b S3 G3 with
   | nx S4 G4=>
     intro fin c4 σ4 x4 s4 q4;obtain ⟨c5,S5,G5,hh,x5,s5,r5,h5⟩:=fin c4 σ4 x4 s4 q4;exact ⟨vs.length - (i + 1),by omega,rfl,hl,c5,S5,G5,hh,x2.trans (x3.trans x5),s5,r5,h5⟩
   | ct S4 G4=>
     intro fin c4 σ4 x4 s4 q4;obtain ⟨c5,S5,G5,hh,x5,s5,r5,h5⟩:=fin c4 σ4 x4 s4 q4;exact ⟨vs.length - (i + 1),by omega,rfl,hl,c5,S5,G5,hh,x2.trans (x3.trans x5),s5,r5,h5⟩
   | bk S4 G4=>exact λfin=>fin
   | rt S4 G4=>exact λfin=>fin
   | err S4 G4=>exact λfin=>fin
   | bad=>exact λfin=>fin
  ·have e:i=vs.length:=by omega
   have hd:xs.drop i= []:=by rw [List.drop_eq_nil_iff,rv.length];omega
   rw [hd] at h2;exact .inl ⟨(walk c x2 i).2 (by omega),h2 c σ2 (Ext.refl c) s2 r2⟩
 | mt k=>
  obtain ⟨hkn,walk⟩:=q1;dsimp only at h1;split at h1
  ·rename_i xs0 hx0;refine ⟨λi m σ H=>∃(c:Wd) (S:DSt) (G:DH),c.H=H/\Ext a1 c/\Sim c G/\RepS c S σ/\Aw E c (forM k g b m i S G) W,⟨_,a1,S,G1,rfl,Ext.refl _,s1,r.mono x1,h1⟩,?_⟩;rintro i m σ2 _ ⟨c,S2,G2,rfl,x2,s2,r2,h2⟩;cases m with
   | zero=>
    unfold forM at h2;split at h2
    ·rename_i xs hx;obtain ⟨vs,e1,rv⟩:=s2.lst hx;split at h2
     ·rename_i hl;refine .inl ⟨((walk c x2 vs e1 i).2 (by rw [<-rv.length];exact hl)),h2 c σ2 (Ext.refl c) s2 r2⟩
     ·exact h2.elim
    ·exact h2.elim
   | succ m=>
    unfold forM at h2;split at h2
    ·rename_i xs hx;obtain ⟨vs,e1,rv⟩:=s2.lst hx;split at h2
     ·rename_i d hd;obtain ⟨v,ev,rd⟩:=rv.get hd;obtain ⟨go,yl⟩:=(walk c x2 vs e1 i).1 v ev;refine .inr ⟨go,λσ' H'=>∃(c:Wd) (S:DSt) (G:DH),c.H=H'/\Ext a1 c/\Sim c G/\RepS c S σ'/\Aw E c (forM k g b m (i + 1) S G) W,λσ' H' z=>⟨m,Nat.lt_succ_self _,z⟩,λw H' y=> ?_⟩;obtain ⟨rfl,rfl⟩:=yl w H' y;refine ⟨c,S2,G2,d,x2.k.trans k1,rfl,s2,r2,rd,(O3 h2).imp ?_⟩;rintro σ3 _ ⟨c3,S3,G3,rfl,x3,s3,r3,_,h3⟩;have fin:=S9 h3
      refine ⟨c3,S3,G3,x3.k.trans (x2.k.trans k1),rfl,s3,r3,?_⟩
      revert fin
      cases b S3 G3 with
      | nx S4 G4=>
        intro fin c4 σ4 x4 s4 q4;obtain ⟨c5,S5,G5,hh,x5,s5,r5,h5⟩:=fin c4 σ4 x4 s4 q4;exact ⟨c5,S5,G5,hh,x2.trans (x3.trans x5),s5,r5,h5⟩
      | ct S4 G4=>
        intro fin c4 σ4 x4 s4 q4;obtain ⟨c5,S5,G5,hh,x5,s5,r5,h5⟩:=fin c4 σ4 x4 s4 q4;exact ⟨c5,S5,G5,hh,x2.trans (x3.trans x5),s5,r5,h5⟩
      | bk S4 G4=>exact λfin=>fin
      | rt S4 G4=>exact λfin=>fin
      | err S4 G4=>exact λfin=>fin
      | bad=>exact λfin=>fin
     ·rename_i hd;have hl:xs.length<=i:=List.getElem?_eq_none_iff.mp hd;exact .inl ⟨((walk c x2 vs e1 i).2 (by rw [<-rv.length];exact hl)),h2 c σ2 (Ext.refl c) s2 r2⟩
    ·exact h2.elim
  ·exact h1.elim
 | fn n f=>
  have walk:∀b:Wd,Ext a1 b->∀G,Sim b G->∀i,(∀d,f i G=some (some d)->J.go i b.H/\∀x H',J.yld i b.H x H'->∃c:Wd,c.H=H'/\Ext b c/\Sim c G/\Rep c d x)/\(f i G=some none->J.stop i b.H):=q1;refine ⟨λi m σ H=>∃(c:Wd) (S:DSt) (G:DH),c.H=H/\Ext a1 c/\Sim c G/\RepS c S σ/\Aw E c (G8 f g b m i S G) W,⟨_,a1,S,G1,rfl,Ext.refl _,s1,r.mono x1,h1⟩,?_⟩;rintro i m σ2 _ ⟨c,S2,G2,rfl,x2,s2,r2,h2⟩;cases m with
  | zero=>
   unfold G8 at h2;split at h2
   ·rename_i hf;exact .inl ⟨(walk c x2 G2 s2 i).2 hf,h2 c σ2 (Ext.refl c) s2 r2⟩
   ·exact h2.elim
  | succ m=>
   unfold G8 at h2;split at h2
   ·rename_i d hf;obtain ⟨go,yl⟩:=(walk c x2 G2 s2 i).1 d hf;refine .inr ⟨go,λσ' H'=>∃(c:Wd) (S:DSt) (G:DH),c.H=H'/\Ext a1 c/\Sim c G/\RepS c S σ'/\Aw E c (G8 f g b m (i + 1) S G) W,λσ' H' z=>⟨m,Nat.lt_succ_self _,z⟩,λw H' y=> ?_⟩;obtain ⟨cc,rfl,xx,ss,rd⟩:=yl w H' y;refine ⟨cc,S2,G2,d,xx.k.trans (x2.k.trans k1),rfl,ss,r2.mono xx,rd,(O3 (Aw.mono xx h2)).imp ?_⟩;rintro σ3 _ ⟨c3,S3,G3,rfl,x3,s3,r3,_,h3⟩
    have fin:=S9 h3;refine ⟨c3,S3,G3,x3.k.trans (xx.k.trans (x2.k.trans k1)),rfl,s3,r3,?_⟩
    revert fin
    cases b S3 G3 with
    | nx S4 G4=>
      intro fin c4 σ4 x4 s4 q4;obtain ⟨c5,S5,G5,hh,x5,s5,r5,h5⟩:=fin c4 σ4 x4 s4 q4;exact ⟨c5,S5,G5,hh,x2.trans (xx.trans (x3.trans x5)),s5,r5,h5⟩
    | ct S4 G4=>
      intro fin c4 σ4 x4 s4 q4;obtain ⟨c5,S5,G5,hh,x5,s5,r5,h5⟩:=fin c4 σ4 x4 s4 q4;exact ⟨c5,S5,G5,hh,x2.trans (xx.trans (x3.trans x5)),s5,r5,h5⟩
    | bk S4 G4=>exact λfin=>fin
    | rt S4 G4=>exact λfin=>fin
    | err S4 G4=>exact λfin=>fin
    | bad=>exact λfin=>fin
   ·rename_i hf;exact .inl ⟨(walk c x2 G2 s2 i).2 hf,h2 c σ2 (Ext.refl c) s2 r2⟩
   ·exact h2.elim
theorem Gi {body:List Stmt} {it:DI} {b:DS} (hp:PassesOwn (model X.prog X.w) X.A X.env X.xe) (hc:X.calm=true) (hi:QI X E tg iter it) (hg:QG X E tg g) (hb:QSs X E body b)
  (hs:∀x,foldedSetIterable iter X.env x=pure x:=by intro _;rfl):QS X E (.For tg iter body [] pos) (Ed it g b):=(ZDJ hp hc hi hg hb hs).mono λ_ _ _ h=>Zm h
theorem _root_.L2.PI.mono {t t':TI} (h:PI X tg iter t) (w:∀σ H Q,t' σ H Q->t σ H Q):PI X tg iter t':=λpins s σ H Q I q=>h pins s σ H Q I (w σ H Q q)
def sgn (c:Nat):D:=.str ⟨#[c]⟩
def signs (x:Str):List D:=x.cps.toList.map sgn
def Its (x:Str):It:=⟨λi _=>i < x.cps.size,λi H v H'=>H'=H/\∃c,x.cps[i]? =some c/\v=.str ⟨#[c]⟩,λi _=>x.cps.size<=i⟩
theorem ZAS (it:Addr) (x:Str) (t:Tok):Turn P w K tg (Its x) [it] it (λi h=>h.IsStrIter it "str_ascii_iterator" x t i) where
 mem:=by simp
 obj:=λi h st b hb=>by
  have e:b=it:=by simpa using hb
  subst e;obtain ⟨o,e,c,d⟩:=st;exact ⟨o,e,λv z=>by rw [d] at z;cases z⟩
 keep:=λi h h' st k=>let ⟨o,ho,r⟩:=st;⟨o,k it (by simp) o ho,r⟩
 item:=by
  intro X hP hw hK hc i pins s σ H E I hf st hg;subst hP hw hK;obtain ⟨f0,f1,f2,f3,f4,f5⟩:=hf it (by simp);have hi:i < x.cps.size:=hg;refine wpAny_pyNext_ascii_item st (c:=x.cps[i]) (by simp [hi]) λh' st' sb=> ?_
  have I1:Inv X pins σ H {s with heap:=h',toks:=s.toks + 1}:=I.turned (λb o hb e=>(sb.2 b hb).trans e) f0 f1 f3 f4 f5;obtain ⟨o,e,c,d⟩:=id st';exact ⟨_,rfl,K1 (s:={s with heap:=h',toks:=s.toks + 1}) e c d (by decide) ⟨.str ⟨#[x.cps[i]]⟩,H,I1,⟨_,rfl⟩,⟨rfl,_,by simp [hi],rfl⟩,st',λb hb=>(hf b hb).1⟩⟩
 done:=by intro X hP hw hK hc i pins s σ H E I hf st hg;subst hP hw hK;obtain ⟨f0,f1,f2,f3,f4,f5⟩:=hf it (by simp);have hi:x.cps.size<=i:=hg;exact wpAny_pyNext_ascii_end (I.ok.hd hc) st (by simp [hi]) λh' eb=>⟨rfl,I.turned (t':=s.toks) (λb o hb e=>eb b o hb e) f0 f1 f3 f4 f5⟩
 self:=λ_ _ _ _ _ st h=>wpAny_pyIter_striter_ascii st h
theorem ZAv (it:Addr) (x:Str) (t:Tok):Turn P w K tg (Its x) [it] it (λi h=>h.IsStrIter it "str_iterator" x t i) where
 mem:=by simp
 obj:=λi h st b hb=>by
  have e:b=it:=by simpa using hb
  subst e;obtain ⟨o,e,c,d⟩:=st;exact ⟨o,e,λv z=>by rw [d] at z;cases z⟩
 keep:=λi h h' st k=>let ⟨o,ho,r⟩:=st;⟨o,k it (by simp) o ho,r⟩
 item:=by
  intro X hP hw hK hc i pins s σ H E I hf st hg;subst hP hw hK;obtain ⟨f0,f1,f2,f3,f4,f5⟩:=hf it (by simp);have hi:i < x.cps.size:=hg;refine wpAny_pyNext_wide_item st (c:=x.cps[i]) (by simp [hi]) λh' st' sb=> ?_
  have I1:Inv X pins σ H {s with heap:=h',toks:=s.toks + 1}:=I.turned (λb o hb e=>(sb.2 b hb).trans e) f0 f1 f3 f4 f5;obtain ⟨o,e,c,d⟩:=id st';exact ⟨_,rfl,K1 (s:={s with heap:=h',toks:=s.toks + 1}) e c d (by decide) ⟨.str ⟨#[x.cps[i]]⟩,H,I1,⟨_,rfl⟩,⟨rfl,_,by simp [hi],rfl⟩,st',λb hb=>(hf b hb).1⟩⟩
 done:=by intro X hP hw hK hc i pins s σ H E I hf st hg;subst hP hw hK;obtain ⟨f0,f1,f2,f3,f4,f5⟩:=hf it (by simp);have hi:x.cps.size<=i:=hg;exact wpAny_pyNext_wide_end (I.ok.hd hc) st (by simp [hi]) λh' eb=>⟨rfl,I.turned (t':=s.toks) (λb o hb e=>eb b o hb e) f0 f1 f3 f4 f5⟩
 self:=λ_ _ _ _ _ st h=>wpAny_pyIter_striter_wide st h
def iStr (tl:TE):TI:=λσ H R=>tl σ H λx H1=>∃z,x=.str z/\R (Its z) H1
theorem ZDW {l:Expr} {tl:TE} (hl:PE X l tl):PI X tg l (iStr tl):=by
 intro pins s σ H R I h;refine thn (hl pins s σ H _ I h) λv s1 ⟨x,H1,I1,r1,q1⟩=> ?_
 obtain ⟨z,e,q⟩:=q1;subst e;obtain ⟨t,rfl⟩:=r1;have fp:∀b∈ [s1.heap.objs.size],FpOk X pins H1 b:=λb hb=>by
  have e:b=s1.heap.objs.size:=by simpa using hb
  subst e;exact I1.Pj (Nat.le_refl _) (I1.hok.fresh (Nat.le_refl _))
 cases ha:z.cps.all (· < 128)
 ·refine wpAny_pyIter_wide ha ?_;exact ⟨s1.heap.objs.size,[s1.heap.objs.size],_,_,H1,rfl,I1.kept (t':=s1.toks) λb o e=>Heap.get?_push_of_some _ e,ZAv _ z t,⟨_,Heap.get?_push_size _ rfl,rfl,rfl⟩,fp,q⟩
 ·refine wpAny_pyIter_ascii ha ?_;exact ⟨s1.heap.objs.size,[s1.heap.objs.size],_,_,H1,rfl,I1.kept (t':=s1.toks) λb o e=>Heap.get?_push_of_some _ e,ZAS _ z t,⟨_,Heap.get?_push_size _ rfl,rfl,rfl⟩,fp,q⟩
theorem Reps.signs (x:Str):Reps a (signs x) (x.cps.toList.map λc=>V.str ⟨#[c]⟩):=by
 unfold DL.signs
 induction x.cps.toList with
 | nil=>exact rfl
 | cons c r ih=>exact ⟨_,_,rfl,rfl,ih⟩
def Ea:D->DH->R ItD
 | .tup xs,G=>.ok (.pure xs) G
 | .str x,G=>.ok (.pure (signs x)) G
 | .fl xs,G=>.ok (.pure xs) G
 | .ref i,G=>match G[i]? with
  | some (.lst _)=>.ok (.mt i) G
  | _=>.bad
 | _,_=>.bad
def Dv (te:DE):DI:=λS G=>(te S G).bind Ea
theorem Er (he:QE X E iter te):QI X E tg iter (Dv te):=by
 intro pins s σ H R I h;obtain ⟨a,S,G,hk,rfl,sm,r,h⟩:=h;cases ht:te S G with
 | bad=>
  have h':outI E a ((te S G).bind Ea) R:=h;rw [ht] at h';exact h'.elim
 | err e G1=>
  have h':outI E a ((te S G).bind Ea) R:=h;rw [ht] at h';refine T5 (tg:=tg) he pins s σ a.H R I ⟨a,S,G,hk,rfl,sm,r,?_⟩;rw [ht];exact h'
 | ok d G1=>
  have h':outI E a ((te S G).bind Ea) R:=h;rw [ht] at h';cases d with
  | tup xs=>
   refine ZEB (tg:=tg) he pins s σ a.H R I ⟨a,S,G,hk,rfl,sm,r,?_⟩;rw [ht];rintro b v x sb ⟨p,vs,rfl,hq,rv⟩;have hq':SqT X.K b.H p vs:=by rw [<-hk,<-x.k];exact hq
   refine ⟨p,rfl,⟨vs,hq'⟩,h' b _ x sb ⟨vs,rv,λc y i=>⟨λv hv=>⟨⟨vs,v,?_,hv⟩,λw H' z=> ?_⟩,λhl=>⟨vs,?_,hl⟩⟩⟩⟩
   ·have:=y.sqT hq;rw [y.k,x.k,hk] at this;exact this
   ·have:=y.sqT hq;rw [y.k,x.k,hk] at this;exact ⟨Option.some.inj ((z.2 vs this).symm.trans hv),z.1⟩
   ·have:=y.sqT hq;rw [y.k,x.k,hk] at this;exact this
  | fl xs=>
   refine T5 (tg:=tg) he pins s σ a.H R I ⟨a,S,G,hk,rfl,sm,r,?_⟩;rw [ht];rintro b v x sb ⟨p,vs,rfl,hq,rv⟩;have hq':SqL X.K b.H p vs:=by rw [<-hk,<-x.k];exact hq.sq
   refine ⟨p,rfl,⟨vs,hq'⟩,h' b _ x sb ⟨vs,rv,λc y i=>⟨λv hv=>⟨⟨vs,v,?_,hv⟩,λw H' z=> ?_⟩,λhl=>⟨vs,?_,hl⟩⟩⟩⟩
   ·have:=(y.fzL hq).sq;rw [y.k,x.k,hk] at this;exact this
   ·have:=(y.fzL hq).sq;rw [y.k,x.k,hk] at this;exact ⟨Option.some.inj ((z.2 vs this).symm.trans hv),z.1⟩
   ·have:=(y.fzL hq).sq;rw [y.k,x.k,hk] at this;exact this
  | ref k=>
   have h2:outI E a (Ea (.ref k) G1) R:=h';unfold Ea at h2;dsimp only at h2;split at h2
   ·rename_i xs hx;refine T5 (tg:=tg) he pins s σ a.H R I ⟨a,S,G,hk,rfl,sm,r,?_⟩;rw [ht];rintro b v x sb ⟨hkn,rfl⟩;obtain ⟨vs,hx,_⟩:=sb.lst hx;refine ⟨b.m k,rfl,⟨vs,.of hx⟩,h2 b _ x sb ⟨hkn,λc y us hu i=> ?_⟩⟩;rw [y.m k hkn] at hu;exact ⟨λv hv=>⟨⟨us,v,.of hu,hv⟩,λw H' z=>⟨Option.some.inj ((z.2 us (.of hu)).symm.trans hv),z.1⟩⟩,λhl=>⟨us,.of hu,hl⟩⟩
   ·exact h2.elim
  | str z=>
   refine ZDW (tg:=tg) he pins s σ a.H R I ⟨a,S,G,hk,rfl,sm,r,?_⟩;rw [ht];intro b v x sb rv
   cases (show v=V.str z from rv)
   refine ⟨z,rfl,h' b _ x sb ⟨_,Reps.signs z,λc y i=>⟨λv hv=> ?_,λhl=> ?_⟩⟩⟩
   ·rw [List.getElem?_map,Option.map_eq_some_iff] at hv;obtain ⟨k,hk1,rfl⟩:=hv;have hk2:z.cps[i]? =some k:=by rw [<-Array.getElem?_toList];exact hk1
    refine ⟨(Array.getElem?_eq_some_iff.mp hk2).1,λw H' q=> ?_⟩;obtain ⟨e1,k',e2,e3⟩:=q;rw [hk2] at e2;cases e2;exact ⟨e3,e1⟩
   ·rw [List.length_map,Array.length_toList] at hl;exact hl
  | _=>exact h'.elim
end
def Dk (lo:Int) (n:Nat):List D:=(List.range n).map λ(k:Nat)=>D.int (lo + (k:Int))
def inR (j:Int):Prop:= -(2 ^ 62)<=j/\j < 2 ^ 62
instance (j:Int):Decidable (inR j):=by unfold inR;infer_instance
def rng1 (ds:List D) (G:DH):R ItD:=match ds with
 | [.int j]=>if inR j then .ok (.pure (Dk 0 j.toNat)) G else .bad
 | _=>.bad
def Jg (f:List D->DH->R ItD) (ta:DA):DI:=λS G=>(ta S G).bind f
def Bd (np nl:Nat) (b:DS):List D->DH->R D:=λds G=>if ds.length=np then tidy G (match b (ds.map some++List.replicate nl none) G with
 | .nx _ G'=>.ok .non G'
 | .rt d G'=>.ok d G'
 | .err x G'=>.err x G'
 | _=>.bad) else .bad
theorem outI.mono (x:Ext a b) {r:R ItD} {Q:It->Hp->Prop} (h:outI E a r Q):outI E b r Q:=by
 cases r with
 | ok d G=>exact λc v y s q=>h c v (x.trans y) s q
 | err e G=>exact XOk.mono (E:=E) (e:=e) (G:=G) x h
 | bad=>exact h
theorem Zf {r:R (List D)} {f:List D->DH->R ItD} {Q:It->Hp->Prop} (h:outI E a (r.bind f) Q):
  Ci E a r (λvs H=>∃(b:Wd) (ds:List D) (G:DH),b.H=H/\Ext a b/\Sim b G/\Reps b ds vs/\r=.ok ds G/\outI E b (f ds G) Q):=by
 cases r with
 | ok d G=>exact λb v x s q=>⟨b,d,G,rfl,x,s,q,rfl,outI.mono x h⟩
 | err e G=>exact h
 | bad=>exact h
section
variable {X:Cx} {E:XK} {tg iter:Expr} {pos:Pos}
theorem ZC3 (lo:Int) (n:Nat):RepI a (.pure (Dk lo n)) (Itr lo n):=by
 refine ⟨(List.range n).map λ(k:Nat)=>V.int (lo + (k:Int)),?_,λb x i=>⟨λv hv=> ?_,λhl=> ?_⟩⟩
 ·unfold Dk;generalize List.range n=l
  induction l with
  | nil=>exact rfl
  | cons k l ih=>exact ⟨_,_,rfl,rfl,ih⟩
 ·rw [List.getElem?_map] at hv;by_cases hi:i < n
  ·rw [List.getElem?_range hi] at hv;have hv':V.int (lo + (i:Int))=v:=by simpa using hv
   exact ⟨hi,λw H' y=>⟨y.2.trans hv',y.1⟩⟩
  ·rw [List.getElem?_eq_none (by simpa using hi)] at hv;cases hv
 ·show n<=i;simpa using hl
theorem Qy {ta:DA} {p pos:Pos} (hg:Gl X "range") (hm:X.mg "range"=none) (ha:QA X E [e] ta) (hs:starEach [e] X.env= [(false,eval e X.env)]:=by rfl):QI X E tg (.Call (.Name "range" p) [e] [] pos) (Jg rng1 ta):=
 (Z3 hg hm ha hs).mono λσ H Q h=>by
  obtain ⟨a,S,G,hk,rfl,s,r,h⟩:=h;refine ⟨a,S,G,hk,rfl,s,r,(Zf h).imp ?_⟩;rintro vs _ ⟨b,ds,G1,rfl,x,s1,q,-,h1⟩;unfold rng1 at h1;split at h1
  ·rename_i j;split at h1
   ·rename_i hj;obtain ⟨v,r,e1,q1,q2⟩:=q
    cases (show v=V.int j from q1)
    cases (show r= [] from q2)
    exact ⟨j,e1,hj.1,hj.2,h1 b _ (Ext.refl b) s1 (ZC3 0 j.toNat)⟩
   ·exact h1.elim
  ·exact h1.elim
end
theorem ZDj (r:Reps a ds vs) (n m:Nat) (h:n=m):RepS a (ds.map some++List.replicate n none) (vs.map some++List.replicate m none):=by
 subst h;refine ⟨by simp [r.length],λi d hd=> ?_⟩;by_cases hi:i < ds.length
 ·rw [List.getElem?_append_left (by simpa using hi),List.getElem?_map] at hd;cases e:ds[i]? with
  | none=>rw [e] at hd;cases hd
  | some d'=>
   rw [e] at hd;have hd':d'=d:=by simpa using hd
   subst hd';obtain ⟨v,ev,q⟩:=r.get e;exact ⟨v,by rw [List.getElem?_append_left (by rw [List.length_map,<-r.length];exact hi),List.getElem?_map,ev];rfl,q⟩
 ·rw [List.getElem?_append_right (by simpa using hi),List.getElem?_replicate] at hd
  split at hd <;> cases hd
theorem Bp {mg:Str->Option Value} {base:Heap} {qual:Str} {st:Stmt} {f:Addr} {fd:FuncData} {N ps:List Str} {b:DS} (F:Fun K x qual st f fd) (S:FnScope N ps (Av st))
  (hbody:∀(cdv:Value) (A:Around) (outer:List Env) (s:Shared) (H:Hp) (E:XK),Room k (A.deeper (envOfC qual (Av st) s.heap.objs.size f cdv))->QSs (Gn CX0 P w K mg base N qual (Av st) f cdv A outer s H E).nox E0 (Ei st) b):
  FnOk P w K mg base CX0 (k + 1) f fd ps (lF K (Bd ps.length (N.length - ps.length) b)):=by
 have hlen:∀vs H Q E,lF K (Bd ps.length (N.length - ps.length) b) vs H Q E->vs.length=ps.length:=λvs H Q E h=>by
  obtain ⟨a,G,ds,hk,rfl,sm,r,h⟩:=h;unfold Bd at h;split at h
  ·rename_i hl;rw [<-r.length];exact hl
  ·exact h.elim
 refine F.ok S hlen (λcdv A outer s H vs Q E hr h=> ?_);refine ⟨lS K E0 b,hbody cdv A outer s H E hr,?_⟩;have hl:=hlen vs H Q E h;obtain ⟨a,G,ds,hk,rfl,sm,r,h⟩:=h;unfold Bd at h;split at h
 ·have h2:=Ym sm h;refine ⟨a,ds.map some++List.replicate (N.length - ps.length) none,G,hk,rfl,sm,ZDj r _ _ (by rw [hl]),?_⟩
  revert h2
  cases b (ds.map some++List.replicate (N.length - ps.length) none) G with
  | nx S1 G1=>exact λh2 c σ x s1 _=>h2 c .non x s1 rfl
  | rt d G1=>exact λh2=>h2
  | err e G1=>exact λh2=>h2
  | bk S1 G1=>exact λh2=>h2.elim
  | ct S1 G1=>exact λh2=>h2.elim
  | bad=>exact λh2=>h2
 ·exact h.elim
theorem Gf {x:V} {xs:List D} (s:Sim a G) (r:Rep a d x) (h:Bw d G=some xs):∃p vs,x=.ref p/\(SqL a.K a.H p vs∨SqT a.K a.H p vs)/\Reps a xs vs:=by
 cases d with
 | tup ys=>
  have e:ys=xs:=Option.some.inj h;subst e;obtain ⟨p,vs,e,q,rr⟩:=r;exact ⟨p,vs,e,.inr q,rr⟩
 | fl ys=>
  have e:ys=xs:=Option.some.inj h;subst e;obtain ⟨p,vs,e,q,rr⟩:=r;exact ⟨p,vs,e,.inl q.sq,rr⟩
 | ref i=>
  unfold Bw at h;dsimp only at h;split at h
  ·rename_i ys hi;have e:ys=xs:=Option.some.inj h;subst e;obtain ⟨vs,e1,r1⟩:=s.lst hi;exact ⟨a.m i,vs,r.2,.inl (.of e1),r1⟩
  ·cases h
 | _=>cases h
def Bk (d e:D) (G:DH):R D:=match e with
 | .int i=>match d with
  | .str z=>if z.length<=1000000 then (match atI z.cps.toList i with
    | some c=>.ok (.str ⟨#[c]⟩) G
    | none=>.bad) else .bad
  | d=>match Bw d G with
   | some xs=>match atI xs i with
    | some v=>.ok v G
    | none=>.bad
   | none=>.bad
 | _=>.bad
theorem ZC4 {xs:List D} {i:Int} (r:Reps a xs vs) (h:atI xs i=some d):∃v,atI vs i=some v/\Rep a d v:=by
 unfold atI at h ⊢;rw [<-r.length];cases e:ixN xs.length i with
 | none=>rw [e] at h;cases h
 | some j=>
  rw [e] at h
  obtain ⟨v,ev,q⟩:=r.get (show xs[j]? =some d from h)
  exact ⟨v,ev,q⟩
section
variable {X:Cx} {E:XK}
theorem _root_.L2.IxR.mono {r r':R2} (h:IxR X r) (w:∀x y H Q,r' x y H Q->r x y H Q):IxR X r':=λvalue slice pins s σ H x y v u Q I rx ry q hs=>h value slice pins s σ H x y v u Q I rx ry (w _ _ _ _ q) hs
theorem _root_.L2.CallR.mono {f:Value} {r r':List V->Hp->VK->Prop} (h:CallR X f r) (w:∀xs H Q,r' xs H Q->r xs H Q):CallR X f r':=λpins s σ H xs us Q I rs q=>h pins s σ H xs us Q I rs (w _ _ _ q)
theorem _root_.L2.MtM.mono {id:String} {r r':V->List V->Hp->VK->Prop} (h:MtM X id r) (w:∀x xs H Q,r' x xs H Q->r x xs H Q):MtM X id r':=λpins s σ H x xs v us Q I rx rs q=>h pins s σ H x xs v us Q I rx rs (w _ _ _ _ q)
theorem Cz:IxR X (lR2 X.K E Bk):=ZB7.mono λx y H Q h=>by
 obtain ⟨a,G,d,e,hk,rfl,s,rd,re,q⟩:=h;cases e with
 | int i=>
  have fin:∀{xs:List D},Bw d G=some xs->out E a (match atI xs i with | some v=>.ok v G | none=>.bad) Q->rIx X.K x y a.H Q:=λ{xs} hs q=>by
   obtain ⟨p,vs,e1,h1,r1⟩:=Gf s rd hs;rw [hk] at h1;split at q
   ·rename_i v hv;obtain ⟨u,hu,ru⟩:=ZC4 r1 hv;have z:=q a u (Ext.refl a) s ru;rcases h1 with h1 | h1
    ·exact .inl ⟨p,vs,i,u,e1,re,h1,hu,z⟩
    ·exact .inr (.inl ⟨p,vs,i,u,e1,re,h1,hu,z⟩)
   ·exact q.elim
  have fin':out E a (match Bw d G with | some xs=>(match atI xs i with | some v=>.ok v G | none=>.bad) | none=>.bad) Q->rIx X.K x y a.H Q:=λq=>by
   cases hs:Bw d G with
   | none=>rw [hs] at q;exact q.elim
   | some xs=>rw [hs] at q;exact fin hs q
  cases d with
  | str z=>
   unfold Bk at q;dsimp only at q;split at q
   ·rename_i hl;split at q
    ·rename_i c hc;exact .inr (.inr ⟨z,i,c,rd,re,Nat.le_trans hl size6,hc,q a _ (Ext.refl a) s rfl⟩)
    ·exact q.elim
   ·exact q.elim
  | tup ys=>exact fin' q
  | fl ys=>exact fin' q
  | ref j=>exact fin' q
  | _=>exact fin' q
 | _=>exact q.elim
def Dg (ds:List D) (G:DH):R D:=match ds with
 | [.str z]=>if z.length<=1000000 then .ok (.int z.length) G else .bad
 | [d]=>match Bw d G with
  | some xs=>.ok (.int xs.length) G
  | none=>.bad
 | _=>.bad
theorem reps1 (r:Reps a [d] vs):∃v,vs= [v]/\Rep a d v:=by
 obtain ⟨v,r',e,q,z⟩:=r
 cases (show r'= [] from z)
 exact ⟨v,e,q⟩
theorem reps2 {d':D} (r:Reps a [d,d'] vs):∃v v',vs= [v,v']/\Rep a d v/\Rep a d' v':=by obtain ⟨v,r',e,q,z⟩:=r;obtain ⟨v',e',q'⟩:=reps1 z;subst e';exact ⟨v,v',e,q,q'⟩
theorem Gp:CallR X (.builtin "len") (lRn X.K E Dg):=(ZDc.or ZEF).mono λvs H Q h=>by
 obtain ⟨a,G,ds,hk,rfl,s,r,q⟩:=h;unfold Dg at q;split at q
 ·rename_i z;split at q
  ·rename_i hl;obtain ⟨v,rfl,rv⟩:=reps1 r
   cases (show v=V.str z from rv)
   exact .inr ⟨z,rfl,Nat.le_trans hl size6,q a _ (Ext.refl a) s rfl⟩
  ·exact q.elim
 ·rename_i d _;split at q
  ·rename_i xs hs;obtain ⟨v,rfl,rv⟩:=reps1 r;obtain ⟨p,us,rfl,h1,r1⟩:=Gf s rv hs;rw [hk] at h1;exact .inl ⟨p,us,rfl,h1,q a _ (Ext.refl a) s (by rw [<-r1.length];exact rfl)⟩
  ·exact q.elim
 ·exact q.elim
def En (ds:List D) (G:DH):R D:=match ds with
 | [d]=>match Bw d G with
  | some xs=>.ok (.tup xs) G
  | none=>.bad
 | _=>.bad
theorem Pk:CallR X (.type "tuple") (lRn X.K E En):=ZBf.mono λvs H Q h=>by
 obtain ⟨a,G,ds,hk,rfl,s,r,q⟩:=h;unfold En at q;split at q
 ·rename_i d;split at q
  ·rename_i xs hs;obtain ⟨v,rfl,rv⟩:=reps1 r;obtain ⟨p,us,rfl,h1,r1⟩:=Gf s rv hs;refine ⟨p,us,rfl,?_⟩;rcases h1 with h1 | h1
   ·exact .inl ⟨by rw [<-hk];exact h1,λl hl=>Lp s r1 q l hl⟩
   ·exact .inr ⟨by rw [<-hk];exact h1,q a _ (Ext.refl a) s ⟨p,us,rfl,h1,r1⟩⟩
  ·exact q.elim
 ·exact q.elim
def Mw (ds:List D) (G:DH):R D:=match ds with
 | [.int i,.int j]=>.ok (.int (if j > i then j else i)) G
 | _=>.bad
theorem ZBe (hc:X.calm=true):CallR X (.builtin "max") (lRn X.K E Mw):=(ZDZ hc).mono λvs H Q h=>by
 obtain ⟨a,G,ds,hk,rfl,s,r,q⟩:=h;unfold Mw at q;split at q
 ·obtain ⟨v,v',rfl,h1,h2⟩:=reps2 r
  cases (show v=V.int _ from h1)
  cases (show v'=V.int _ from h2)
  exact ⟨_,_,rfl,q a _ (Ext.refl a) s rfl⟩
 ·exact q.elim
def Mu (ds:List D) (G:DH):R D:=match ds with
 | [.int i]=>.ok (.int i) G
 | [.bl k]=>.ok (.int (if k then 1 else 0)) G
 | _=>.bad
theorem ZA1:CallR X (.type "int") (lRn X.K E Mu):=ZDM.mono λvs H Q h=>by
 obtain ⟨a,G,ds,hk,rfl,s,r,q⟩:=h;unfold Mu at q;split at q
 ·obtain ⟨v,rfl,h1⟩:=reps1 r
  cases (show v=V.int _ from h1)
  exact .inl ⟨_,rfl,q a _ (Ext.refl a) s rfl⟩
 ·obtain ⟨v,rfl,h1⟩:=reps1 r
  cases (show v=V.bl _ from h1)
  exact .inr ⟨_,rfl,q a _ (Ext.refl a) s rfl⟩
 ·exact q.elim
def Gm (ds:List D) (G:DH):R D:=match ds with
 | [.int i]=>if i.natAbs.log2 < 1920 then .ok (.str (toString i)) G else .bad
 | _=>.bad
theorem Rr:CallR X (.type "str") (lRn X.K E Gm):=ZCs.mono λvs H Q h=>by
 obtain ⟨a,G,ds,hk,rfl,s,r,q⟩:=h;unfold Gm at q;split at q
 ·obtain ⟨v,rfl,h1⟩:=reps1 r
  cases (show v=V.int _ from h1)
  split at q
  ·exact ⟨_,rfl,by assumption,q a _ (Ext.refl a) s rfl⟩
  ·exact q.elim
 ·exact q.elim
def Gr (o:D) (ds:List D) (G:DH):R D:=match o,ds with
 | .ref i,[d]=>match G[i]? with
  | some (.lst xs)=>if xs.length < 1000000 then .ok .non (G.set i (.lst (xs++ [d]))) else .bad
  | _=>.bad
 | _,_=>.bad
def lRm (K:PySem.W.Frag) (E:XK) (f:D->List D->DH->R D):V->List V->Hp->VK->Prop:=λx xs H Q=>∃(a:Wd) (G:DH) (d:D) (ds:List D),a.K=K/\a.H=H/\Sim a G/\Rep a d x/\Reps a ds xs/\out E a (f d ds G) Q
theorem Sim.isList {xs:List D} (s:Sim a G) (h:G[i]? =some (.lst xs)):∃vs,SqL a.K a.H (a.m i) vs:=let ⟨vs,e,_⟩:=s.lst h;⟨vs,.of e⟩
theorem Nu:MtM X "list.append" (lRm X.K E Gr):=ZAJ.mono λx xs H Q h=>by
 obtain ⟨a,G,d,ds,hk,rfl,s,rd,r,q⟩:=h;unfold Gr at q;split at q
 ·rename_i i d;obtain ⟨v,rfl,rv⟩:=reps1 r;split at q
  ·rename_i ys hy;split at q
   ·rename_i hl;obtain ⟨vs,e1,r1⟩:=s.lst hy;obtain ⟨x3,s3⟩:=ZA0 s rd.1 e1 (r1.append (Reps.cons rv Reps.nil));refine ⟨a.m i,vs,v,rd.2,rfl,e1,by rw [<-r1.length];exact Nat.lt_of_lt_of_le hl size6,?_⟩;exact q _ .non x3 s3 rfl
   ·exact q.elim
  ·exact q.elim
 ·exact q.elim
variable {o e:Expr} {es:List Expr} {to:DE} {t:DA} {name:Str} {apos cpos:Pos} {T id:String} {f:D->List D->DH->R D}
def isL (d:D) (G:DH):Bool:=match d with
 | .ref i=>match G[i]? with
  | some (.lst _)=>true
  | _=>false
 | .fl _=>true
 | _=>false
def Hk (f:D->List D->DH->R D) (o:DE) (t:DA):DE:=λS G=>(o S G).bind λx G1=>if isL x G1=true then (t S G1).bind λxs G2=>f x xs G2 else .bad
theorem ZEG {x:V} (s:Sim a G) (r:Rep a d x) (h:isL d G=true):tyV a.K "list" x a.H:=by
 cases d with
 | ref i=>
  unfold isL at h;dsimp only at h;split at h
  ·rename_i xs hx;cases r.2;exact .inl ⟨rfl,s.isList hx⟩
  ·cases h
 | fl xs=>
  obtain ⟨p,vs,rfl,q,_⟩:=r;exact .inl ⟨rfl,vs,q.sq⟩
 | _=>cases h
theorem Mt (slot:Slot "list" name id) (hty:typeOf (.builtin id)=pure (.type "method_descriptor")) (hm:MtM X id (lRm X.K E f)) (ho:QE X E o to) (ha:QA X E (e::es) t)
  (hbase:attributeBase o name X.env (eval o X.env)=eval o X.env:=by rfl)
  (hfew:((backTo cpos (starEach (e::es) X.env)).all (λx=> !x.1) && (backToKw cpos (keywordEach [] X.env)).all (λx=>x.1.isSome)
   && decide ((e::es).length + ([]:List Keyword).length + (if ([]:List Keyword).isEmpty then 0 else 1) < 30))=true:=by rfl)
  (hline:(apos.endLine == cpos.line)=true:=by rfl) (hs:starEach (e::es) X.env=(false,eval e X.env)::starEach es X.env:=by rfl) (hplain:(backTo cpos (starEach es X.env)).any (·.1)=false:=by rfl):
  QE X E (.Call (.Attribute o name apos) (e::es) [] cpos) (Hk f to t):=(Vo PySem.F.plainAttrs_list slot hty hm ho ha hbase hfew hline hs hplain).mono λσ H Q h=>by
 obtain ⟨a,S,G,hk,rfl,s,r,h⟩:=h;refine ⟨a,S,G,hk,rfl,s,r,(Cm h).imp ?_⟩;rintro v _ ⟨b,d,G1,rfl,x,s1,q,-,h1⟩;split at h1
 ·rename_i hl;have ty:=ZEG s1 q hl;rw [x.k,hk] at ty;refine ⟨ty,b,S,G1,x.k.trans hk,rfl,s1,r.mono x,(Jf h1).imp ?_⟩;rintro vs _ ⟨c,ds,G2,rfl,y,s2,q2,-,h2⟩;exact ⟨c,G2,d,ds,y.k.trans (x.k.trans hk),rfl,s2,q.mono y,q2,h2⟩
 ·exact h1.elim
end
inductive Ty where | non | bl | int | str | tup | lst
def Ty.name:Ty->String
 | .non=>"NoneType" | .bl=>"bool" | .int=>"int" | .str=>"str" | .tup=>"tuple" | .lst=>"list"
def tyD (G:DH):D->Option Ty
 | .non=>some .non
 | .bl _=>some .bl
 | .int _=>some .int
 | .str _=>some .str
 | .tup _=>some .tup
 | .fl _=>some .lst
 | .ref i=>match G[i]? with
  | some (.lst _)=>some .lst
  | _=>none
 | .ty _=>none
def Ty.sub (t:Ty):String->Option Bool
 | "int"=>some (match t with | .int=>true | .bl=>true | _=>false)
 | "bool"=>some (match t with | .bl=>true | _=>false)
 | "str"=>some (match t with | .str=>true | _=>false)
 | "tuple"=>some (match t with | .tup=>true | _=>false)
 | "list"=>some (match t with | .lst=>true | _=>false)
 | _=>none
def Bq (ds:List D) (G:DH):R D:=match ds with
 | [d,.ty T]=>match tyD G d with
  | some t=>match t.sub T with
   | some k=>.ok (.bl k) G
   | none=>.bad
  | none=>.bad
 | _=>.bad
section
variable {prog:Program} {w:World} {A:Around} {E:Value->Shared->Prop} {s:Shared}
theorem H8 {x:Value} {Tx T:String} {Q:Value->Shared->Prop} (hx:s.TypeIs x Tx) (hty:typeOf (.type T)=pure (.type "type")) (hsub:isSubtype (.type Tx) (.type T)=pure true) (h:Q (.bool true) s):
  wpAny (model prog w) A (call (.builtin "isinstance") [x,.type T]) Q E s:=call_isinstance (isinstance_true hty hsub) ⟨hx,h⟩
end
theorem ty_int:typeOf (.type "int")=pure (.type "type"):=by with_unfolding_all rfl
theorem ty_bool:typeOf (.type "bool")=pure (.type "type"):=by with_unfolding_all rfl
theorem ty_str:typeOf (.type "str")=pure (.type "type"):=by with_unfolding_all rfl
theorem ty_tuple:typeOf (.type "tuple")=pure (.type "type"):=by with_unfolding_all rfl
theorem ty_list:typeOf (.type "list")=pure (.type "type"):=by with_unfolding_all rfl
theorem ZDB:isSubtype (.type "NoneType") (.type "int")=pure false:=by with_unfolding_all rfl
theorem ZDw:isSubtype (.type "NoneType") (.type "bool")=pure false:=by with_unfolding_all rfl
theorem ZCH:isSubtype (.type "NoneType") (.type "str")=pure false:=by with_unfolding_all rfl
theorem ZCi:isSubtype (.type "NoneType") (.type "tuple")=pure false:=by with_unfolding_all rfl
theorem ZAx:isSubtype (.type "NoneType") (.type "list")=pure false:=by with_unfolding_all rfl
theorem ZA4:isSubtype (.type "bool") (.type "int")=pure true:=by with_unfolding_all rfl
theorem ZCd:isSubtype (.type "bool") (.type "bool")=pure true:=by with_unfolding_all rfl
theorem ZAf:isSubtype (.type "bool") (.type "str")=pure false:=by with_unfolding_all rfl
theorem ZB2:isSubtype (.type "bool") (.type "tuple")=pure false:=by with_unfolding_all rfl
theorem ZEC:isSubtype (.type "bool") (.type "list")=pure false:=by with_unfolding_all rfl
theorem ZBu:isSubtype (.type "int") (.type "int")=pure true:=by with_unfolding_all rfl
theorem ZD0:isSubtype (.type "int") (.type "bool")=pure false:=by with_unfolding_all rfl
theorem ZCw:isSubtype (.type "int") (.type "str")=pure false:=by with_unfolding_all rfl
theorem ZCl:isSubtype (.type "int") (.type "tuple")=pure false:=by with_unfolding_all rfl
theorem ZCe:isSubtype (.type "int") (.type "list")=pure false:=by with_unfolding_all rfl
theorem ZDu:isSubtype (.type "str") (.type "int")=pure false:=by with_unfolding_all rfl
theorem ZDe:isSubtype (.type "str") (.type "bool")=pure false:=by with_unfolding_all rfl
theorem ZC9:isSubtype (.type "str") (.type "str")=pure true:=by with_unfolding_all rfl
theorem ZDR:isSubtype (.type "str") (.type "tuple")=pure false:=by with_unfolding_all rfl
theorem Yv:isSubtype (.type "str") (.type "list")=pure false:=by with_unfolding_all rfl
theorem ZBc:isSubtype (.type "tuple") (.type "int")=pure false:=by with_unfolding_all rfl
theorem ZAz:isSubtype (.type "tuple") (.type "bool")=pure false:=by with_unfolding_all rfl
theorem ZBI:isSubtype (.type "tuple") (.type "str")=pure false:=by with_unfolding_all rfl
theorem ZCK:isSubtype (.type "tuple") (.type "tuple")=pure true:=by with_unfolding_all rfl
theorem ZD6:isSubtype (.type "tuple") (.type "list")=pure false:=by with_unfolding_all rfl
theorem Vl:isSubtype (.type "list") (.type "int")=pure false:=by with_unfolding_all rfl
theorem X7:isSubtype (.type "list") (.type "bool")=pure false:=by with_unfolding_all rfl
theorem Vn:isSubtype (.type "list") (.type "str")=pure false:=by with_unfolding_all rfl
theorem Xl:isSubtype (.type "list") (.type "tuple")=pure false:=by with_unfolding_all rfl
theorem Vy:isSubtype (.type "list") (.type "list")=pure true:=by with_unfolding_all rfl
section
variable {X:Cx} {E:XK}
theorem Fo:CallR X (.builtin "isinstance") (lRn X.K E Bq):=by
 intro pins s σ H vs us Q I rs h;obtain ⟨a,G,ds,hk,rfl,sm,r,q⟩:=h;unfold Bq at q;split at q
 ·rename_i d T;obtain ⟨v,v',rfl,h1,h2⟩:=reps2 r
  cases (show v'=V.ty T from h2)
  obtain ⟨u,u',rfl,ru,ru'⟩:∃u u',us= [u,u']/\RelV v u/\RelV (.ty T) u':=by
   cases rs with
   | cons p q=>cases q with
    | cons p' q'=>cases q';exact ⟨_,_,rfl,p,p'⟩
  cases (show u'=Value.type T from ru')
  split at q
  ·rename_i t ht;split at q
   ·rename_i k hk';have fin:∀{n:Nat},EP X pins σ Q (.bool k) {s with toks:=n}:=λ{n}=>⟨.bl k,a.H,I.tok _,rfl,q a _ (Ext.refl a) sm rfl⟩
    have fin0:EP X pins σ Q (.bool k) s:=⟨.bl k,a.H,I,rfl,q a _ (Ext.refl a) sm rfl⟩;unfold Ty.sub at hk';split at hk'
    ·cases d with
     | non=>
      cases ht;cases hk'
      cases (show v=_ from h1)
      cases ru;exact call_isinstance (isinstance_false_none (by decide) ty_int ZDB) fin
     | bl b=>
      cases ht;cases hk'
      cases (show v=_ from h1)
      cases ru;exact H8 (Tx:="bool") rfl ty_int ZA4 fin0
     | int b=>
      cases ht;cases hk'
      cases (show v=_ from h1)
      obtain ⟨tk,rfl⟩:=ru;exact H8 (Tx:="int") (typeIs_int s _ _) ty_int ZBu fin0
     | str b=>
      cases ht;cases hk'
      cases (show v=_ from h1)
      obtain ⟨tk,rfl⟩:=ru;exact call_isinstance (isinstance_false_str (by decide) ty_int ZDu) fin
     | tup b=>
      cases ht;cases hk';obtain ⟨p,ws,rfl,hq,_⟩:=h1;cases ru;rw [hk] at hq;obtain ⟨its,_,pl,_⟩:=I.tuple hq;exact call_isinstance (isinstance_false_tuple (by decide) ty_int ZBc) ⟨(let ⟨o,e,c,_⟩:=pl;⟨o,e,c⟩),fin⟩
     | fl b=>
      cases ht;cases hk';obtain ⟨p,ws,rfl,hq,_⟩:=h1;cases ru;have hq:=hq.sq;rw [hk] at hq;obtain ⟨its,_,pl,_⟩:=I.list hq;exact call_isinstance (isinstance_false_list (by decide) ty_int Vl) ⟨(let ⟨o,e,c,_⟩:=pl.isList;⟨o,e,c⟩),fin⟩
     | ref b=>
      unfold tyD at ht;dsimp only at ht;split at ht
      ·rename_i xs hx;cases ht;cases hk';obtain ⟨ws,e1,_⟩:=sm.lst hx;cases h1.2;cases ru;obtain ⟨its,_,pl,_⟩:=I.list (.of e1);exact call_isinstance (isinstance_false_list (by decide) ty_int Vl) ⟨(let ⟨o,e,c,_⟩:=pl.isList;⟨o,e,c⟩),fin⟩
      ·cases ht
     | ty n=>cases ht
    ·cases d with
     | non=>
      cases ht;cases hk'
      cases (show v=_ from h1)
      cases ru;exact call_isinstance (isinstance_false_none (by decide) ty_bool ZDw) fin
     | bl b=>
      cases ht;cases hk'
      cases (show v=_ from h1)
      cases ru;exact H8 (Tx:="bool") rfl ty_bool ZCd fin0
     | int b=>
      cases ht;cases hk'
      cases (show v=_ from h1)
      obtain ⟨tk,rfl⟩:=ru;exact call_isinstance (isinstance_false_int (by decide) ty_bool ZD0) fin
     | str b=>
      cases ht;cases hk'
      cases (show v=_ from h1)
      obtain ⟨tk,rfl⟩:=ru;exact call_isinstance (isinstance_false_str (by decide) ty_bool ZDe) fin
     | tup b=>
      cases ht;cases hk';obtain ⟨p,ws,rfl,hq,_⟩:=h1;cases ru;rw [hk] at hq;obtain ⟨its,_,pl,_⟩:=I.tuple hq;exact call_isinstance (isinstance_false_tuple (by decide) ty_bool ZAz) ⟨(let ⟨o,e,c,_⟩:=pl;⟨o,e,c⟩),fin⟩
     | fl b=>
      cases ht;cases hk';obtain ⟨p,ws,rfl,hq,_⟩:=h1;cases ru;have hq:=hq.sq;rw [hk] at hq;obtain ⟨its,_,pl,_⟩:=I.list hq;exact call_isinstance (isinstance_false_list (by decide) ty_bool X7) ⟨(let ⟨o,e,c,_⟩:=pl.isList;⟨o,e,c⟩),fin⟩
     | ref b=>
      unfold tyD at ht;dsimp only at ht;split at ht
      ·rename_i xs hx;cases ht;cases hk';obtain ⟨ws,e1,_⟩:=sm.lst hx;cases h1.2;cases ru;obtain ⟨its,_,pl,_⟩:=I.list (.of e1);exact call_isinstance (isinstance_false_list (by decide) ty_bool X7) ⟨(let ⟨o,e,c,_⟩:=pl.isList;⟨o,e,c⟩),fin⟩
      ·cases ht
     | ty n=>cases ht
    ·cases d with
     | non=>
      cases ht;cases hk'
      cases (show v=_ from h1)
      cases ru;exact call_isinstance (isinstance_false_none (by decide) ty_str ZCH) fin
     | bl b=>
      cases ht;cases hk'
      cases (show v=_ from h1)
      cases ru;exact call_isinstance (isinstance_false_bool (by decide) ty_str ZAf) fin
     | int b=>
      cases ht;cases hk'
      cases (show v=_ from h1)
      obtain ⟨tk,rfl⟩:=ru;exact call_isinstance (isinstance_false_int (by decide) ty_str ZCw) fin
     | str b=>
      cases ht;cases hk'
      cases (show v=_ from h1)
      obtain ⟨tk,rfl⟩:=ru;exact H8 (Tx:="str") (typeIs_str s _ _) ty_str ZC9 fin0
     | tup b=>
      cases ht;cases hk';obtain ⟨p,ws,rfl,hq,_⟩:=h1;cases ru;rw [hk] at hq;obtain ⟨its,_,pl,_⟩:=I.tuple hq;exact call_isinstance (isinstance_false_tuple (by decide) ty_str ZBI) ⟨(let ⟨o,e,c,_⟩:=pl;⟨o,e,c⟩),fin⟩
     | fl b=>
      cases ht;cases hk';obtain ⟨p,ws,rfl,hq,_⟩:=h1;cases ru;have hq:=hq.sq;rw [hk] at hq;obtain ⟨its,_,pl,_⟩:=I.list hq;exact call_isinstance (isinstance_false_list (by decide) ty_str Vn) ⟨(let ⟨o,e,c,_⟩:=pl.isList;⟨o,e,c⟩),fin⟩
     | ref b=>
      unfold tyD at ht;dsimp only at ht;split at ht
      ·rename_i xs hx;cases ht;cases hk';obtain ⟨ws,e1,_⟩:=sm.lst hx;cases h1.2;cases ru;obtain ⟨its,_,pl,_⟩:=I.list (.of e1);exact call_isinstance (isinstance_false_list (by decide) ty_str Vn) ⟨(let ⟨o,e,c,_⟩:=pl.isList;⟨o,e,c⟩),fin⟩
      ·cases ht
     | ty n=>cases ht
    ·cases d with
     | non=>
      cases ht;cases hk'
      cases (show v=_ from h1)
      cases ru;exact call_isinstance (isinstance_false_none (by decide) ty_tuple ZCi) fin
     | bl b=>
      cases ht;cases hk'
      cases (show v=_ from h1)
      cases ru;exact call_isinstance (isinstance_false_bool (by decide) ty_tuple ZB2) fin
     | int b=>
      cases ht;cases hk'
      cases (show v=_ from h1)
      obtain ⟨tk,rfl⟩:=ru;exact call_isinstance (isinstance_false_int (by decide) ty_tuple ZCl) fin
     | str b=>
      cases ht;cases hk'
      cases (show v=_ from h1)
      obtain ⟨tk,rfl⟩:=ru;exact call_isinstance (isinstance_false_str (by decide) ty_tuple ZDR) fin
     | tup b=>
      cases ht;cases hk';obtain ⟨p,ws,rfl,hq,_⟩:=h1;cases ru;rw [hk] at hq;obtain ⟨its,_,pl,_⟩:=I.tuple hq;exact H8 (Tx:="tuple") pl.typeIs ty_tuple ZCK fin0
     | fl b=>
      cases ht;cases hk';obtain ⟨p,ws,rfl,hq,_⟩:=h1;cases ru;have hq:=hq.sq;rw [hk] at hq;obtain ⟨its,_,pl,_⟩:=I.list hq;exact call_isinstance (isinstance_false_list (by decide) ty_tuple Xl) ⟨(let ⟨o,e,c,_⟩:=pl.isList;⟨o,e,c⟩),fin⟩
     | ref b=>
      unfold tyD at ht;dsimp only at ht;split at ht
      ·rename_i xs hx;cases ht;cases hk';obtain ⟨ws,e1,_⟩:=sm.lst hx;cases h1.2;cases ru;obtain ⟨its,_,pl,_⟩:=I.list (.of e1);exact call_isinstance (isinstance_false_list (by decide) ty_tuple Xl) ⟨(let ⟨o,e,c,_⟩:=pl.isList;⟨o,e,c⟩),fin⟩
      ·cases ht
     | ty n=>cases ht
    ·cases d with
     | non=>
      cases ht;cases hk'
      cases (show v=_ from h1)
      cases ru;exact call_isinstance (isinstance_false_none (by decide) ty_list ZAx) fin
     | bl b=>
      cases ht;cases hk'
      cases (show v=_ from h1)
      cases ru;exact call_isinstance (isinstance_false_bool (by decide) ty_list ZEC) fin
     | int b=>
      cases ht;cases hk'
      cases (show v=_ from h1)
      obtain ⟨tk,rfl⟩:=ru;exact call_isinstance (isinstance_false_int (by decide) ty_list ZCe) fin
     | str b=>
      cases ht;cases hk'
      cases (show v=_ from h1)
      obtain ⟨tk,rfl⟩:=ru;exact call_isinstance (isinstance_false_str (by decide) ty_list Yv) fin
     | tup b=>
      cases ht;cases hk';obtain ⟨p,ws,rfl,hq,_⟩:=h1;cases ru;rw [hk] at hq;obtain ⟨its,_,pl,_⟩:=I.tuple hq;exact call_isinstance (isinstance_false_tuple (by decide) ty_list ZD6) ⟨(let ⟨o,e,c,_⟩:=pl;⟨o,e,c⟩),fin⟩
     | fl b=>
      cases ht;cases hk';obtain ⟨p,ws,rfl,hq,_⟩:=h1;cases ru;have hq:=hq.sq;rw [hk] at hq;obtain ⟨its,_,pl,_⟩:=I.list hq;exact H8 (Tx:="list") pl.isList.typeIs ty_list Vy fin0
     | ref b=>
      unfold tyD at ht;dsimp only at ht;split at ht
      ·rename_i xs hx;cases ht;cases hk';obtain ⟨ws,e1,_⟩:=sm.lst hx;cases h1.2;cases ru;obtain ⟨its,_,pl,_⟩:=I.list (.of e1);exact H8 (Tx:="list") pl.isList.typeIs ty_list Vy fin0
      ·cases ht
     | ty n=>cases ht
    ·cases hk'
   ·exact q.elim
  ·exact q.elim
 ·exact q.elim
end
def Eb:List D->Option (List Int)
 | []=>some []
 | .int i::r=>(Eb r).map (i::·)
 | _=>none
def Cw:List D->Option (List Bool)
 | []=>some []
 | .bl i::r=>(Cw r).map (i::·)
 | _=>none
@[simp] theorem ZEp (ns:List Bool):Cw (ns.map D.bl)=some ns:=by
 induction ns with
 | nil=>rfl
 | cons n ns ih=>simp [Cw,ih]
theorem ZAm:∀{xs:List D} {ns:List Int},Eb xs=some ns->xs=ns.map D.int
 | [],ns,h=>by cases h;rfl
 | .int i::r,ns,h=>by simp only [Eb,Option.map_eq_some_iff] at h;obtain ⟨ms,h1,rfl⟩:=h;rw [List.map_cons,ZAm h1]
 | .non::r,ns,h=>by simp [Eb] at h
 | .bl _::r,ns,h=>by simp [Eb] at h
 | .str _::r,ns,h=>by simp [Eb] at h
 | .ty _::r,ns,h=>by simp [Eb] at h
 | .tup _::r,ns,h=>by simp [Eb] at h
 | .fl _::r,ns,h=>by simp [Eb] at h
 | .ref _::r,ns,h=>by simp [Eb] at h
theorem S8:∀{xs:List D} {ns:List Bool},Cw xs=some ns->xs=ns.map D.bl
 | [],ns,h=>by cases h;rfl
 | .bl i::r,ns,h=>by simp only [Cw,Option.map_eq_some_iff] at h;obtain ⟨ms,h1,rfl⟩:=h;rw [List.map_cons,S8 h1]
 | .non::r,ns,h=>by simp [Cw] at h
 | .int _::r,ns,h=>by simp [Cw] at h
 | .str _::r,ns,h=>by simp [Cw] at h
 | .ty _::r,ns,h=>by simp [Cw] at h
 | .tup _::r,ns,h=>by simp [Cw] at h
 | .fl _::r,ns,h=>by simp [Cw] at h
 | .ref _::r,ns,h=>by simp [Cw] at h
def fSum (ds:List D) (G:DH):R D:=match ds with
 | [d]=>match Bw d G with
  | some xs=>match Eb xs with
   | some ns=>.ok (.int ns.sum) G
   | none=>.bad
  | none=>.bad
 | _=>.bad
def Ir (ds:List D) (G:DH):R D:=match ds with
 | [d]=>match Bw d G with
  | some xs=>match Cw xs with
   | some ns=>.ok (.bl (ns.all id)) G
   | none=>.bad
  | none=>.bad
 | _=>.bad
def fAny (ds:List D) (G:DH):R D:=match ds with
 | [d]=>match Bw d G with
  | some xs=>match Cw xs with
   | some ns=>.ok (.bl (ns.any id)) G
   | none=>.bad
  | none=>.bad
 | _=>.bad
section
variable {X:Cx} {E:XK} {pins:List (Addr×Obj)} {σ:St} {s:Shared} {H:Hp}
theorem Wx (I:Inv X pins σ H s) (hc:X.calm=true) (h:SqL X.K H p vs∨SqT X.K H p vs) {E':Value->Shared->Prop} {Q:Value->Shared->Prop}
  (hQ:∀(it:Addr) (fp wr:List Addr) (its:List Value) (St:Nat->Heap->Prop) (s₂:Shared),Vals vs its->Walks X.prog X.w X.A.in1 it fp wr its.toArray.size (λi v=>its.toArray[i]? =some v) St->St 0 s₂.heap->(∀b∈fp,b < s₂.heap.objs.size)->
   (∀h' tk,(∀b o,b ∉ wr->s₂.heap.get? b=some o->h'.get? b=some o)->Inv X pins σ H {s₂ with heap:=h',toks:=tk})->Q (.ref it) s₂):
  wpAny (model X.prog X.w) X.A.in1 (pyIter (.ref p)) Q E' s:=by
 have hh:X.A.in1.handled=none:=I.ok.hd hc;rcases h with h | h
 ·obtain ⟨its,r,pl,hz⟩:=I.list h;refine wpAny_pyIter_list pl.isList ?_;have hp:p < s.heap.objs.size:=by obtain ⟨o,e,_⟩:=pl.isList;exact Heap.lt_size e
  refine hQ _ _ _ its _ _ r (Walks.list hh _ p (Nat.ne_of_lt hp) its.toArray) ⟨⟨_,Heap.get?_push_size _ rfl,rfl,rfl⟩,?_⟩ (λb hb=> ?_) λh' tk kk=> ?_
  ·obtain ⟨o,e,c⟩:=pl.isList;exact ⟨o,Heap.get?_push_of_some _ e,c⟩
  ·show b < (s.heap.push _).objs.size;rw [Heap.size_push];rcases List.mem_cons.mp hb with rfl | hb
   ·exact Nat.lt_succ_self _
   ·have e:b=p:=by simpa using hb
    subst e;exact Nat.lt_succ_of_lt hp
  ·refine I.kept λb o e=>kk b o (λhb=> ?_) (Heap.get?_push_of_some _ e)
   have e2:b=s.heap.objs.size:=by simpa using hb
   subst e2;exact absurd (Heap.lt_size e) (Nat.lt_irrefl _)
 ·obtain ⟨its,r,pl,hz⟩:=I.tuple h
  refine wpAny_pyIter_tuple (show s.heap.IsTuple p its.toArray from pl) ?_
  have hp:p < s.heap.objs.size:=by obtain ⟨o,e,_⟩:=pl;exact Heap.lt_size e
  refine hQ _ _ _ its _ _ r (Walks.tuple hh _ p (Nat.ne_of_lt hp) its.toArray) ⟨⟨_,Heap.get?_push_size _ rfl,rfl,rfl⟩,?_⟩ (λb hb=> ?_) λh' tk kk=> ?_
  ·obtain ⟨o,e,c⟩:=pl;exact ⟨o,Heap.get?_push_of_some _ e,c⟩
  ·show b < (s.heap.push _).objs.size;rw [Heap.size_push];rcases List.mem_cons.mp hb with rfl | hb
   ·exact Nat.lt_succ_self _
   ·have e:b=p:=by simpa using hb
    subst e;exact Nat.lt_succ_of_lt hp
  ·refine I.kept λb o e=>kk b o (λhb=> ?_) (Heap.get?_push_of_some _ e)
   have e2:b=s.heap.objs.size:=by simpa using hb
   subst e2;exact absurd (Heap.lt_size e) (Nat.lt_irrefl _)
theorem Q7:∀{ns:List Bool} {vs:List V},Reps a (ns.map D.bl) vs->vs=ns.map V.bl
 | [],vs,h=>h
 | n::ns,vs,h=>by
  obtain ⟨v,r,e,h1,h2⟩:=h
  cases (show v=V.bl n from h1)
  rw [e,Q7 h2]
  rfl
theorem all_range (ns:List Bool):(List.range ns.length).all (λi=>ns.getD i true)=ns.all id:=by
 rw [Bool.eq_iff_iff,List.all_eq_true,List.all_eq_true];constructor
 ·intro h b hb;obtain ⟨i,hi,rfl⟩:=List.getElem_of_mem hb;simpa [hi] using h i (List.mem_range.mpr hi)
 ·intro h i hi;have hi':i < ns.length:=List.mem_range.mp hi;simpa [hi'] using h ns[i] (List.getElem_mem hi')
theorem any_range (ns:List Bool):(List.range ns.length).any (λi=>ns.getD i true)=ns.any id:=by
 rw [Bool.eq_iff_iff,List.any_eq_true,List.any_eq_true];constructor
 ·rintro ⟨i,hi,h⟩;have hi':i < ns.length:=List.mem_range.mp hi;exact ⟨ns[i],List.getElem_mem hi',by simpa [hi'] using h⟩
 ·rintro ⟨b,hb,h⟩;obtain ⟨i,hi,rfl⟩:=List.getElem_of_mem hb;exact ⟨i,List.mem_range.mpr hi,by simpa [hi] using h⟩
theorem ZDP (hc:X.calm=true):CallR X (.builtin "all") (lRn X.K E Ir):=by
 intro pins s σ H vs us Q I rs h;obtain ⟨a,G,ds,hk,rfl,sm,r,q⟩:=h;unfold Ir at q;split at q
 ·rename_i d;obtain ⟨v,rfl,rv⟩:=reps1 r;split at q
  ·rename_i xs hs;split at q
   ·rename_i ns hn;cases S8 hn;obtain ⟨p,ws,rfl,h1,r1⟩:=Gf sm rv hs;cases Q7 r1;rw [hk] at h1;obtain ⟨u,rfl,ru⟩:=vals1 rs;cases ru;refine call_all_walk (Wx I hc h1 λit fp wr its St s₂ hv W st hfp fin=>⟨it,fp,wr,its.toArray.size,_,St,λi=>ns.getD i true,rfl,W,st,λi w s' Q' E' hw hQ'=> ?_,λh' tk kk=> ?_⟩)
    ·have hw':its[i]? =some w:=by simpa using hw
     have hl:i < (ns.map V.bl).length:=by rw [hv.length];exact (List.getElem?_eq_some_iff.mp hw').1
     have hl':i < ns.length:=by simpa using hl
     obtain ⟨u,hu,ru⟩:=hv.get (i:=i) (x:=V.bl ns[i]) (by simp [hl']);rw [hw'] at hu;cases hu;cases ru;refine wpAny_truthy_bool ?_;simpa [hl'] using hQ'
    ·refine ⟨.bl (ns.all id),a.H,fin h' tk kk,?_,q a _ (Ext.refl a) sm rfl⟩;have hl:its.toArray.size=ns.length:=by rw [List.size_toArray,<-hv.length];simp
     rw [hl,all_range]
     rfl
   ·exact q.elim
  ·exact q.elim
 ·exact q.elim
theorem Rg (hc:X.calm=true):CallR X (.builtin "any") (lRn X.K E fAny):=by
 intro pins s σ H vs us Q I rs h;obtain ⟨a,G,ds,hk,rfl,sm,r,q⟩:=h;unfold fAny at q;split at q
 ·rename_i d;obtain ⟨v,rfl,rv⟩:=reps1 r;split at q
  ·rename_i xs hs;split at q
   ·rename_i ns hn;cases S8 hn;obtain ⟨p,ws,rfl,h1,r1⟩:=Gf sm rv hs;cases Q7 r1;rw [hk] at h1;obtain ⟨u,rfl,ru⟩:=vals1 rs;cases ru;refine call_any_walk (Wx I hc h1 λit fp wr its St s₂ hv W st hfp fin=>⟨it,fp,wr,its.toArray.size,_,St,λi=>ns.getD i true,rfl,W,st,λi w s' Q' E' hw hQ'=> ?_,λh' tk kk=> ?_⟩)
    ·have hw':its[i]? =some w:=by simpa using hw
     have hl:i < (ns.map V.bl).length:=by rw [hv.length];exact (List.getElem?_eq_some_iff.mp hw').1
     have hl':i < ns.length:=by simpa using hl
     obtain ⟨u,hu,ru⟩:=hv.get (i:=i) (x:=V.bl ns[i]) (by simp [hl']);rw [hw'] at hu;cases hu;cases ru;refine wpAny_truthy_bool ?_;simpa [hl'] using hQ'
    ·refine ⟨.bl (ns.any id),a.H,fin h' tk kk,?_,q a _ (Ext.refl a) sm rfl⟩;have hl:its.toArray.size=ns.length:=by rw [List.size_toArray,<-hv.length];simp
     rw [hl,any_range]
     rfl
   ·exact q.elim
  ·exact q.elim
 ·exact q.elim
end
section
variable {X:Cx} {pins:List (Addr×Obj)} {σ:St} {H:Hp} {s:Shared}
theorem ZCv {a:Addr} {o:HO} (I:Inv X pins σ H s) (hn:H a=none) (hy:X.s₀.heap.objs.size<=a) (hL:a≠X.env.locals) (hc:∀x c,X.env.cells.lookup x=some c->c≠a) (hp:∀p∈X.pn++pins,p.1≠a)
  (new:ObjOk X.prog X.w (upd H a o) s.heap a o):Inv X pins σ (upd H a o) s:=by
 have ne:∀b u,H b=some u->b≠a:=λb u e z=>by rw [z,hn] at e;cases e
 refine ⟨I.ok,I.os,I.bare,⟨I.base.keep,I.base.slot,λb ob q n hx=> ?_,I.base.there,λb xs q=> ?_,λb ob u q=> ?_,λb ps q=> ?_⟩,I.loc,I.cell,?_,λx c e=> ?_,λp hp'=> ?_,λb u e=> ?_,I.len⟩
 ·rw [Aj (Nat.ne_of_lt (Nat.lt_of_lt_of_le (Heap.lt_size q) hy))];exact I.base.free b ob q n hx
 ·have:=I.base.tups b xs q;rw [Aj (ne _ _ this)];exact this
 ·have:=I.base.frzs b ob u q;rw [Aj (ne _ _ this)];exact this
 ·obtain ⟨more,this⟩:=I.base.tbls b ps q;exact ⟨more,by rw [Aj (ne _ _ this)];exact this⟩
 ·rw [Aj (Ne.symm hL)];exact I.free
 ·rw [Aj (hc x c e)];exact I.Dp x c e
 ·obtain ⟨e1,e2,e3⟩:=I.pin p hp';exact ⟨e1,by rw [Aj (hp p hp')];exact e2,e3⟩
 ·by_cases hb:b=a
  ·subst hb;rw [Do] at e;cases e;exact new
  ·rw [Aj hb] at e;exact (I.hok b u e).stay (λ_ _ _ q=>q) (λc q=>by rw [Aj (ne _ _ q)];exact q) λc xs q=>by rw [Aj (ne _ _ q)];exact q
end
def Bx (env:Env):List (Str×NameKind)->List (Str×Addr)->List (Str×Addr)
 | [],cs=>cs
 | (n,k)::r,cs=>if (k == NameKind.free)=true then Bx env r ((n,(env.cells.lookup n).getD 0)::cs) else Bx env r cs
theorem Zg (h:∀y∈scope.names,y.2=.free->∃c,env.cells.lookup y.1=some c):closureFor scope env=pure (Bx env scope.names []):=by
 unfold closureFor;obtain ⟨kind,names,g1,g2⟩:=scope;have key:∀(names:List (Str×NameKind)) (cs:List (Str×Addr)),(∀y∈names,y.2=.free->∃c,env.cells.lookup y.1=some c)->
   (forIn names cs (λx r=>match x with
    | (name,kind)=>if (kind == NameKind.free)=true then (do let c<-cellOf env name;pure (ForInStep.yield ((name,c)::r))) else pure (ForInStep.yield r)):Sem (List (Str×Addr)))=pure (Bx env names cs):=by
  intro names
  induction names with
  | nil=>intro cs _;rfl
  | cons y r ih=>
   intro cs hy;obtain ⟨n,k⟩:=y;rw [List.forIn_cons];by_cases hk:(k == NameKind.free)=true
   ·obtain ⟨c,hc⟩:=hy (n,k) List.mem_cons_self (by simpa using hk)
    have e1:cellOf env n=pure c:=by unfold cellOf;rw [show env.cells.lookup n=some c from hc]
    have e2:Bx env ((n,k)::r) cs=Bx env r ((n,c)::cs):=by rw [Bx,if_pos hk,show env.cells.lookup n=some c from hc];rfl
    rw [e2,<-ih ((n,c)::cs) λy' hy'=>hy y' (List.mem_cons_of_mem _ hy')];simp only [hk,if_true,e1]
    rfl
   ·have e2:Bx env ((n,k)::r) cs=Bx env r cs:=by rw [Bx,if_neg hk]
    rw [e2,<-ih cs λy' hy'=>hy y' (List.mem_cons_of_mem _ hy')];simp only [hk]
    rfl
 have:=key names [] h;exact congrArg (λm:Sem (List (Str×Addr))=>m >>=λr=>pure r) this
theorem Tj:∀{names:List (Str×NameKind)} {cs:List (Str×Addr)},(∀y∈names,y.2=.free->∃c,env.cells.lookup y.1=some c)->(∀p∈cs,env.cells.lookup p.1=some p.2)->∀p∈Bx env names cs,env.cells.lookup p.1=some p.2
 | [],cs,_,hc,p,hp=>hc p hp
 | (n,k)::r,cs,hn,hc,p,hp=>by
  rw [Bx] at hp;split at hp
  ·rename_i hk;obtain ⟨c,e⟩:=hn (n,k) List.mem_cons_self (by simpa using hk);refine Tj (λy hy=>hn y (List.mem_cons_of_mem _ hy)) (λq hq=> ?_) p hp;rcases List.mem_cons.mp hq with rfl | hq
   ·rw [show env.cells.lookup n=some c from e];rfl
   ·exact hc q hq
  ·exact Tj (λy hy=>hn y (List.mem_cons_of_mem _ hy)) hc p hp
theorem Lq:∀{names:List (Str×NameKind)} {cs:List (Str×Addr)},((x,.free)∈names∨∃c,(x,c)∈cs)->∃c,(x,c)∈Bx env names cs
 | [],cs,h=>by
  rcases h with h | h
  ·cases h
  ·exact h
 | (n,k)::r,cs,h=>by
  rw [Bx];split
  ·refine Lq ?_;rcases h with h | ⟨c,h⟩
   ·rcases List.mem_cons.mp h with e | h
    ·cases e;exact .inr ⟨_,List.mem_cons_self⟩
    ·exact .inl h
   ·exact .inr ⟨c,List.mem_cons_of_mem _ h⟩
  ·rename_i hk;refine Lq ?_;rcases h with h | h
   ·rcases List.mem_cons.mp h with e | h
    ·cases e;exact absurd rfl hk
    ·exact .inl h
   ·exact .inr h
theorem Qv {c:Addr}:∀{l:List (Str×Addr)},(x,c)∈l->∃d,l.lookup x=some d
 | [],h=>by cases h
 | (y,d)::l,h=>by
  by_cases e:x=y
  ·subst e;exact ⟨d,by simp⟩
  ·rcases List.mem_cons.mp h with z | h
   ·cases z;exact absurd rfl e
   ·obtain ⟨d',q⟩:=Qv h;exact ⟨d',by rw [List.lookup_cons,beq_eq_false_iff_ne.mpr e];exact q⟩
theorem Wh (x:Str):(relabel scope env).names.lookup x=(scope.names.lookup x).map λk=>if (k == NameKind.free && env.scope.kind == .function && env.kindOf x == some .cell)=true then .cell else k:=by
 unfold relabel;generalize scope.names=l
 induction l with
 | nil=>rfl
 | cons y r ih=>
  obtain ⟨n,k⟩:=y;by_cases e:x=n
  ·subst e;simp only [List.map_cons]
   cases hc:(k == NameKind.free && env.scope.kind == ScopeKind.function && env.kindOf x == some NameKind.cell) <;>
    simp only [hc,if_true,List.lookup_cons,beq_self_eq_true,Option.map_some,Bool.false_eq_true,if_false]
  ·have hb:(x == n)=false:=beq_eq_false_iff_ne.mpr e;simp only [List.map_cons];split
   ·rw [List.lookup_cons,List.lookup_cons,hb];exact ih
   ·rw [List.lookup_cons,List.lookup_cons,hb];exact ih
def blk (X:Cx) (N:List Str) (scope:Scope) (C:Addr) (s₀:Shared) (H₀:Hp) (ex:List Addr):Cx where
 prog:=X.prog
 w:=X.w
 K:=X.K
 mg:=X.mg
 base:=X.base
 A:=X.A
 N:=N
 s₀:=s₀
 H₀:=H₀
 env:=compEnvC scope (Bx X.env scope.names []) C X.env
 outer:=X.stack
 stack:=X.stack
 ex:=ex
 fn:=λ_=>false
 calm:=X.calm
 pn:= []
 xe:=λ_ _=>False
structure CompSc (X:Cx) (N:List Str) (scope:Scope) (nt:Nat) (caps:List Nat):Prop where
 kind:scope.kind=.function
 names:∀y∈scope.names,y.2=.local->scope.names.lookup y.1=some .local
 nocell:∀y∈scope.names,y.2≠ .cell
 free:∀y∈scope.names,y.2=.free->X.env.kindOf y.1=some .cell∨X.env.kindOf y.1=some .free
 nd:N.Nodup
 len:N.length=nt + caps.length
 cap:∀(k j:Nat),caps[k]? =some j->∃x,X.N[j]? =some x/\N[nt + k]? =some x/\scope.names.lookup x=some .free
section
variable {X:Cx} {pins:List (Addr×Obj)} {σ:St} {H:Hp} {s:Shared} {N:List Str} {scope:Scope} {nt:Nat} {caps:List Nat}
theorem CompSc.cells (c:CompSc X N scope nt caps) (ok:X.Ok):∀y∈scope.names,y.2=.free->∃c,X.env.cells.lookup y.1=some c:=λy hy hk=>ok.has y.1 (c.free y hy hk)
theorem CompSc.cl (c:CompSc X N scope nt caps) (ok:X.Ok) {d:Addr} (h:(Bx X.env scope.names []).lookup x=some d):X.env.cells.lookup x=some d:=
 Tj (c.cells ok) (λp hp=>by cases hp) (x,d) (PySem.mem_of_lookup h)
theorem ZAE (c:CompSc X N scope nt caps) (I:Inv X pins σ H s) {fp:List Addr} (hf:∀b∈fp,FpOk X pins H b) {C:Addr} (hC:s.heap.objs.size<=C) (hCf:C ∉ fp):(blk X N scope C s H fp).Ok where
 mod:=I.ok.mod
 kind:=c.kind
 glob:=I.ok.glob
 blt:=I.ok.blt
 above:=hC
 inj:=λx y d h1 h2=>I.ok.inj x y d (c.cl I.ok h1) (c.cl I.ok h2)
 has:=λx h=>by
  have h':(relabel scope X.env).names.lookup x=some .cell∨(relabel scope X.env).names.lookup x=some .free:=h;rw [Wh] at h';have hfree:scope.names.lookup x=some .free:=by
   cases e:scope.names.lookup x with
   | none=>rw [e] at h';rcases h' with h' | h' <;> cases h'
   | some k=>
    rw [e] at h';cases k with
    | free=>rfl
    | cell=>exact absurd rfl (c.nocell _ (PySem.mem_of_lookup e))
    | _=>rcases h' with h' | h' <;> (simp at h')
  obtain ⟨d,hd⟩:=Lq (env:=X.env) (x:=x) (names:=scope.names) (cs:= []) (.inl (PySem.mem_of_lookup hfree));exact Qv hd
 cab:=λx d h=>by cases h
 hd:=I.ok.hd
 frames:=I.ok.frames
 stk:=.inl rfl
 exf:=λb hb=>⟨λz=>hCf (by rw [<-show b=C from z];exact hb),λx d h=>(hf b hb).2.2.2.2.1 x d (c.cl I.ok h)⟩
 bs:=I.bs
 bsz:=Nat.le_trans I.ok.bsz I.sz
 noex:=λb o e hb=>by
  rcases (hf b hb).2.2.2.1 with h | h
  ·exact I.ok.noex b o e h
  ·exact absurd (Nat.lt_of_lt_of_le (Heap.lt_size (I.ok.bs b o e).1) h) (Nat.lt_irrefl _)
 exfs:=λb hb hz=>by
  rcases List.mem_cons.mp (I.M3 b hz) with z | z
  ·exact (hf b hb).2.1 z
  ·exact (hf b hb).2.2.1 z
 funs:=I.stack
 frf:=I.Vf
end
def Cq (g:DG) (c:DB) (te:DE) (S:DSt):List D->DH->R (List D)
 | [],G=>.ok [] G
 | x::xs,G=>(g x S G).bind λS1 G1=>(c S1 G1).bind λk G2=>
   if k=true then (te S1 G2).bind λd G3=>(Cq g c te S xs G3).bind λds G4=>.ok (d::ds) G4 else Cq g c te S xs G2
def Dy (i:Nat) (g:DG) (c:DB) (te:DE) (S:DSt):Nat->Nat->DH->R (List D)
 | 0,j,G=>match G[i]? with
  | some (.lst xs)=>if xs.length<=j then .ok [] G else .bad
  | _=>.bad
 | n + 1,j,G=>match G[i]? with
  | some (.lst xs)=>match xs[j]? with
   | some x=>(g x S G).bind λS1 G1=>(c S1 G1).bind λk G2=>
     if k=true then (te S1 G2).bind λd G3=>(Dy i g c te S n (j + 1) G3).bind λds G4=>.ok (d::ds) G4 else Dy i g c te S n (j + 1) G2
   | none=>.ok [] G
  | _=>.bad
def Du (f:Nat->DH->Option (Option D)) (g:DG) (c:DB) (te:DE) (S:DSt):Nat->Nat->DH->R (List D)
 | 0,j,G=>match f j G with
  | some none=>.ok [] G
  | _=>.bad
 | n + 1,j,G=>match f j G with
  | some (some x)=>(g x S G).bind λS1 G1=>(c S1 G1).bind λk G2=>
     if k=true then (te S1 G2).bind λd G3=>(Du f g c te S n (j + 1) G3).bind λds G4=>.ok (d::ds) G4 else Du f g c te S n (j + 1) G2
  | some none=>.ok [] G
  | none=>.bad
def Ao (nt:Nat) (caps:List Nat) (S:DSt):DSt:=List.replicate nt none++caps.map λj=>(S[j]?).join
def Gs (it:DI) (nt:Nat) (caps:List Nat) (g:DG) (c:DB) (te:DE):DE:=λS G=>(it S G).bind λJ G1=>(match J with
 | .pure xs=>Cq g c te (Ao nt caps S) xs G1
 | .mt i=>match G1[i]? with
  | some (.lst xs)=>Dy i g c te (Ao nt caps S) xs.length 0 G1
  | _=>.bad
 | .fn n f=>Du f g c te (Ao nt caps S) n 0 G1).bind Aq
def Dt:DB:=λ_ G=>.ok true G
def GK (nt:Nat) (g:DG):Prop:=∀d S G S1 G1,g d S G=.ok S1 G1->∀i e,nt<=i->S[i]? =some (some e)->S1[i]? =some (some e)
def GKs (nt:Nat) (g:DGs):Prop:=∀d S G S1 G1,g d S G=.ok S1 G1->∀i e,nt<=i->S[i]? =some (some e)->S1[i]? =some (some e)
theorem Ex (h:i < nt):GK nt (gV i):=λd S G S1 G1 e j x hj hx=>by cases e;rw [List.getElem?_set_ne (by omega)];exact hx
theorem Vq:GKs nt Bv:=λd S G S1 G1 e j x hj hx=>by
 cases d with
 | nil=>cases e;exact hx
 | cons _ _=>cases e
theorem Li {t:DG} {u:DGs} (h1:GK nt t) (h2:GKs nt u):GKs nt (Ar t u):=λd S G S1 G1 e j x hj hx=>by
 cases d with
 | nil=>cases e
 | cons a r=>
  have e':(t a S G).bind (λS1 G1=>u r S1 G1)=.ok S1 G1:=e;cases ht:t a S G with
  | ok S2 G2=>rw [ht] at e';exact h2 _ _ _ _ _ e' j x hj (h1 _ _ _ _ _ ht j x hj hx)
  | err _ _=>rw [ht] at e';cases e'
  | bad=>rw [ht] at e';cases e'
theorem Yo {t:DGs} (h:GKs nt t):GK nt (Bl n t):=λd S G S1 G1 e j x hj hx=>by
 cases d with
 | tup ds=>
  unfold Bl at e;dsimp only at e;split at e
  ·exact h _ _ _ _ _ e j x hj hx
  ·cases e
 | _=>cases e
theorem ZET {r:R DSt} {f:DSt->DH->R D} (h:out E a (r.bind f) Q):
  Cy E a r (λσ H=>∃(b:Wd) (S:DSt) (G:DH),b.H=H/\Ext a b/\Sim b G/\RepS b S σ/\r=.ok S G/\out E b (f S G) Q):=by
 cases r with
 | ok d G=>exact λb v x s q=>⟨b,d,G,rfl,x,s,q,rfl,out.mono x h⟩
 | err e G=>exact h
 | bad=>exact h
theorem R.bind_assoc {β γ:Type} (r:R α) (f:α->DH->R β) (g:β->DH->R γ):(r.bind f).bind g=r.bind λa G=>(f a G).bind g:=by cases r <;> rfl
theorem ZBs {r:R ItD} {f:ItD->DH->R D} (h:out E a (r.bind f) Q):
  outI E a r (λJ H=>∃(b:Wd) (d:ItD) (G:DH),b.H=H/\Ext a b/\Sim b G/\RepI b d J/\r=.ok d G/\out E b (f d G) Q):=by
 cases r with
 | ok d G=>exact λb v x s q=>⟨b,d,G,rfl,x,s,q,rfl,out.mono x h⟩
 | err e G=>exact h
 | bad=>exact h
section
variable {prog:Program} {w:World} {A:Around} {R':Result->Shared->Prop} {s:Shared}
theorem Rw {elt target iter:Expr} {ifs:List Expr} {scope:Scope} {pos:Pos} {it acc:Value} {env:Env} (I:Nat->Shared->Prop)
  (turn:∀n s,I n s->wpAny (model prog w) A (pyNext it) (λr s₁=>match r with
   | none=>R' (.ok .next) s₁
   | some v=>wpAny (model prog w) A (letOwnedTupleGo target it v) (λ_ s₁=>wpAny (model prog w) A (assign target env v) (λ_ s₂=>
     wpAny (model prog w) A (forIn ifs true λc r=>if r=true then do let ok<-isTrue c env (eval c env);pure (ForInStep.yield ok) else pure (ForInStep.yield r)) (λok s₃=>
      if ok=true then wpAny (model prog w) A (eval elt env) (λx s₄=>
       wpAny (model prog w) A (call (.builtin "list.append") [acc,x]) (λ_ s₅=>∃m,m < n/\I m s₅) (λ_ _=>False) s₄) (λ_ _=>False) s₃
      else∃m,m < n/\I m s₃) (λ_ _=>False) s₂) (λ_ _=>False) s₁) (λ_ _=>False) s₁) (λ_ _=>False) s)
  (n:Nat) (h:I n s):
  codeAny (model prog w) A (.compLoop (.ListComp elt [⟨target,iter,ifs,0⟩] scope pos) 0 it acc env) R' s:=by
 refine codeAny_loop rfl I (λn s hI=> ?_) n h
 show wpAny _ A ((compTurn (.ListComp elt [⟨target,iter,ifs,0⟩] scope pos) 0 it acc env).onRaise (λx=>do noteFrame x env;theTreesLotGoes x)) _ _ s
 refine wpAny_noted ?_;rw [compTurn_list];refine wpAny_mono ?_ (λ_ _ q=>q) (λ_ _ (f:False)=>f.elim);refine wpAny_bind (wpAny_standAt (wpAny_bind (wpAny_mono (turn n s hI) (λr s₁ h₁=> ?_) λ_ _ h'=>h')));cases r with
 | none=>exact wpAny_pure h₁
 | some v=>
  refine wpAny_bind (wpAny_mono h₁ (λ_ s₂' h₁=> ?_) λ_ _ h'=>h');refine wpAny_bind (wpAny_mono h₁ (λ_ s₂ h₂=>wpAny_bind (wpAny_mono h₂ (λok s₃ h₃=> ?_) λ_ _ h'=>h')) λ_ _ h'=>h');cases ok with
  | false=>exact wpAny_pure ⟨rfl,h₃⟩
  | true=>
   exact wpAny_bind (wpAny_bind (wpAny_mono h₃ (λx s₄ h₄=>wpAny_bind (wpAny_mono h₄ (λ_ s₅ h₅=>wpAny_pure (wpAny_pure ⟨rfl,h₅⟩)) λ_ _ h'=>h')) λ_ _ h'=>h'))
end
def QTs (X:Cx) (E:XK) (ifs:List Expr) (t:DB):Prop:=
 ∀(pins:List (Addr×Obj)) (s:Shared) (σ:St) (H:Hp) (Q:Bool->Hp->Prop),Inv X pins σ H s->lB X.K E t σ H Q->
  wpAny (model X.prog X.w) X.A (forIn ifs true λc r=>if r=true then do let ok<-isTrue c X.env (eval c X.env);pure (ForInStep.yield ok) else pure (ForInStep.yield r)) (TP X pins σ Q) X.xe s
theorem K7:QTs X E [] Dt:=λpins s σ H Q I h=>by obtain ⟨a,S,G,hk,rfl,sm,r,h⟩:=h;exact wpAny_tests_nil ⟨a.H,I,h a (Ext.refl a) sm⟩
section
variable {X:Cx} {E:XK} {N:List Str} {scope:Scope} {nt:Nat} {caps:List Nat} {tg elt iter:Expr} {ifs:List Expr} {pos:Pos} {it:DI} {g:DG} {c:DB} {te:DE}
theorem ZDN (r:RepS a S σ):RepS a (Ao nt caps S) (List.replicate nt none++caps.map λj=>(σ[j]?).join):=by
 refine ⟨by simp [Ao],λi d h=> ?_⟩;unfold Ao at h;by_cases hi:i < nt
 ·rw [List.getElem?_append_left (by simpa using hi),List.getElem?_replicate] at h
  split at h <;> cases h
 ·rw [List.getElem?_append_right (by simpa using hi),List.getElem?_map] at h;rw [List.getElem?_append_right (by simpa using hi),List.getElem?_map];rw [List.length_replicate] at h ⊢;cases e:caps[i - nt]? with
  | none=>rw [e] at h;cases h
  | some j=>
   rw [e] at h;have h1:(S[j]?).join=some d:=by simpa using h
   have h2:S[j]? =some (some d):=by
    cases q:S[j]? with
    | none=>rw [q] at h1;cases h1
    | some o=>
     rw [q] at h1;have h1':o=some d:=h1;rw [h1']
   obtain ⟨v,ev,rv⟩:=r.get j d h2;exact ⟨v,by simp [ev],rv⟩
theorem Zw (h:(Ao nt caps S)[i]? =some (some d)):nt<=i:=by
 unfold Ao at h;by_cases hi:i < nt
 ·rw [List.getElem?_append_left (by simpa using hi),List.getElem?_replicate] at h
  split at h <;> cases h
 ·omega
theorem ZD8 (hc:X.calm=true) (cs:CompSc X N scope nt caps)
  (hg:∀C s₀ H₀ ex,QG (blk X N scope C s₀ H₀ ex) E0 tg g) (gk:GK nt g) (hts:∀C s₀ H₀ ex,QTs (blk X N scope C s₀ H₀ ex) E0 ifs c) (he:∀C s₀ H₀ ex,QE (blk X N scope C s₀ H₀ ex) E0 elt te)
  {pins:List (Addr×Obj)} {σ:St} {s:Shared} {a:Wd} {S:DSt} {G:DH} {J:It} {d:ItD} {i0:Addr} {fp:List Addr} {tn:Nat->Heap->Prop} (I:Inv X pins σ a.H s) (hk:a.K=X.K) (sm:Sim a G) (rS:RepS a S σ)
  (T:Turn X.prog X.w X.K tg J fp i0 tn) (t0:tn 0 s.heap) (hf:∀b∈fp,FpOk X pins a.H b) (rJ:RepI a d J) {Q:VK}
  (h:out E0 a ((match d with
   | .pure xs=>Cq g c te (Ao nt caps S) xs G
   | .mt i=>match G[i]? with
    | some (.lst xs)=>Dy i g c te (Ao nt caps S) xs.length 0 G
    | _=>.bad
   | .fn n f=>Du f g c te (Ao nt caps S) n 0 G).bind Aq) Q)
  {RR:Value->Addr->Result->Shared->Prop} {E':Value->Shared->Prop}
  (hRR:∀(D C:Addr) (s':Shared) (b:Wd) (vs:List V),Inv X pins σ (upd b.H D (.lst vs)) s'->b.H D=none->s.heap.objs.size<=C->D≠C->(∃m,s'.heap.Ns C m)->b.H C=none->Q (.ref D) (upd b.H D (.lst vs))->RR (.ref D) C (.ok .next) s'):
  wpAny (model X.prog X.w) X.A (newList []) (λacc s₃=>wpAny (model X.prog X.w) X.A (newFunctionEnv scope X.env.globals (Bx X.env scope.names []) [] X.env.qual none .none (some X.env)) (λcenv s₄=>
   codeAny (model X.prog X.w) X.A (.compStart (.ListComp elt [⟨tg,iter,ifs,0⟩] scope pos) 0 (.ref i0) acc {cenv with scope:=relabel scope X.env}) (RR acc cenv.locals) s₄) E' s₃) E' s:=by
 refine wpAny_newObj_type (wpAny_newFunctionEnv cs.nocell (by intro y hy;simp at hy) (λh₁ hns₁ hsb₁=> ?_) cs.kind);dsimp only at hns₁ hsb₁ ⊢;generalize hH2:s.heap.push {cls:=.type "list",dict:=none,data:=.seq ([]:List Value).toArray}=H2 at hns₁ hsb₁ ⊢;have hC:H2.objs.size=s.heap.objs.size + 1:=by rw [<-hH2,Heap.size_push]
 have hDC:s.heap.objs.size≠H2.objs.size:=by rw [hC];exact Nat.ne_of_lt (Nat.lt_succ_self _)
 have hCle:s.heap.objs.size<=H2.objs.size:=by rw [hC];exact Nat.le_succ _
 have fpOld:∀b∈fp,b < s.heap.objs.size:=λb hb=>by obtain ⟨o,e,_⟩:=T.obj 0 _ t0 b hb;exact Heap.lt_size e
 have hDf:s.heap.objs.size ∉ fp:=λhm=>Nat.lt_irrefl _ (fpOld _ hm)
 have hCf:H2.objs.size ∉ fp:=λhm=>by have:=fpOld _ hm;rw [hC] at this;exact Nat.lt_irrefl _ (Nat.lt_of_succ_lt this)
 have old:∀b o,s.heap.get? b=some o->h₁.get? b=some o:=λb o e=>
  hsb₁.extBut b o (by rw [hC];exact Nat.ne_of_lt (Nat.lt_succ_of_lt (Heap.lt_size e))) (Heap.get?_push_of_some _ (hH2 ▸ Heap.get?_push_of_some _ e))
 have hacc:h₁.PlainList s.heap.objs.size ([]:List Value).toArray:=⟨_,hsb₁.extBut _ _ hDC (Heap.get?_push_of_some _ (hH2 ▸ Heap.get?_push_size _ rfl))⟩;generalize hCe:H2.objs.size=C at *;generalize hDe:s.heap.objs.size=Dd at *;let B:=blk X N scope C s a.H fp;have okB:B.Ok:=ZAE cs I hf (by rw [hDe];exact hCle) hCf;let σ0:St:=List.replicate nt none++caps.map λj=>(σ[j]?).join
 have start:∀tk,Inv B [] σ0 a.H {s with heap:=h₁,toks:=tk}:=λtk=>by
  refine ⟨okB,rfl,I.bare,Un.kept old,⟨_,hns₁,λi x v e1 e2 e3=> ?_⟩,λx d' e=> ?_,I.hok.fresh (by rw [hDe];exact hCle),λx d' e=> ?_,λp hp=> ?_,I.hok.kept old,?_⟩
  ·have hi:nt<=i:=by
    by_cases hi:i < nt
    ·have e2':σ0[i]? =some (some v):=e2;rw [List.getElem?_append_left (by simpa using hi),List.getElem?_replicate] at e2'
     split at e2' <;> cases e2'
    ·omega
   have e2':σ0[i]? =some (some v):=e2;rw [List.getElem?_append_right (by simpa using hi),List.getElem?_map,List.length_replicate] at e2';cases ej:caps[i - nt]? with
   | none=>rw [ej] at e2';cases e2'
   | some j=>
    rw [ej] at e2';have h1:(σ[j]?).join=some v:=by simpa using e2'
    have h2:σ[j]? =some (some v):=by
     cases q:σ[j]? with
     | none=>rw [q] at h1;cases h1
     | some o=>
      rw [q] at h1;have h1':o=some v:=h1;rw [h1']
    obtain ⟨y,ey,en,ek⟩:=cs.cap (i - nt) j ej;have exy:x=y:=by
     have:nt + (i - nt)=i:=by omega
     rw [this] at en;have e1':N[i]? =some x:=e1;rw [e1'] at en;exact Option.some.inj en
    subst exy;have kx:=cs.free (x,.free) (PySem.mem_of_lookup ek) rfl;have vis:Vis X.env.scope x:=by
     rcases kx with kx | kx
     ·exact .inr (.inl kx)
     ·exact .inr (.inr kx)
    obtain ⟨m,hn,hl⟩:=I.loc;obtain ⟨u,ru,lk⟩:=hl j x v ey h2 vis;refine ⟨u,ru,?_⟩;rcases lk with ⟨k1,_⟩ | ⟨k1,c1,ec,hcell⟩
    ·rcases kx with kx | kx
     ·rw [k1] at kx;cases kx
     ·rw [k1] at kx;cases kx
    ·refine .inr ⟨?_,c1,?_,?_⟩
     ·show (relabel scope X.env).names.lookup x=some .cell∨(relabel scope X.env).names.lookup x=some .free;rw [Wh,ek];simp only [Option.map_some];split
      ·exact .inl rfl
      ·exact .inr rfl
     ·obtain ⟨d1,hd1⟩:=Lq (env:=X.env) (x:=x) (names:=scope.names) (cs:= []) (.inl (PySem.mem_of_lookup ek));obtain ⟨d2,hd2⟩:=Qv hd1;have:=cs.cl I.ok hd2;rw [ec] at this;cases this;exact hd2
     ·obtain ⟨o,e,dd⟩:=hcell;exact ⟨o,old _ _ e,dd⟩
  ·obtain ⟨v,o,e',dd⟩:=I.cell x d' (cs.cl I.ok e);exact ⟨v,o,old _ _ e',dd⟩
  ·exact I.Dp x d' (cs.cl I.ok e)
  ·exact absurd hp (by simp [B,blk])
  ·show σ0.length=N.length;rw [cs.len];simp [σ0]
 have rS0:RepS a (Ao nt caps S) σ0:=ZDN rS;have aD:a.H Dd=none:=I.hok.fresh (by rw [hDe];exact Nat.le_refl _);have young:∀b∈fp,b≠C:=λb hb z=>hCf (z ▸ hb)
 have fpB:∀{H':Hp} {ps:List (Addr×Obj)},(∀b∈fp,H' b=none)->(∀p∈ps,p.1 ∉ fp)->∀b∈fp,FpOk B ps H' b:=λ{H' ps} hn hps b hb=>
  ⟨hn b hb,young b hb,okB.exfs b hb,.inl hb,λx d' e=>(hf b hb).2.2.2.2.1 x d' (cs.cl I.ok e),λp hp z=>by
   have hp':p∈ps:=by simpa [B,blk] using hp
   exact hps p hp' (z ▸ hb)⟩
 have nstk:Dd ∉ frs X.stack:=λz=>by
  rcases List.mem_cons.mp (I.M3 Dd z) with z | z
  ·have:=I.lt;rw [hDe,<-z] at this;exact Nat.lt_irrefl _ this
  ·exact I.nofs (by rw [hDe];exact Nat.le_refl _) z
 have pinD:∀{σ':St} {H':Hp} {s':Shared} {its:List Value} {nD:Nat},Inv B [] σ' H' s'->s'.heap.get? Dd=some {cls:=.type "list",data:=.seq its.toArray nD}->H' Dd=none->Inv B [(Dd,{cls:=.type "list",data:=.seq its.toArray nD})] σ' H' s':=λ{σ' H' s' its nD} J e n=>
  J.Dr λp hp=>by
   have ep:p=(Dd,{cls:=.type "list",data:=.seq its.toArray nD}):=by simpa using hp
   subst ep;exact ⟨e,n,hDC,nstk,λv' z=>by cases z⟩
 have fin:∀(s':Shared) (b:Wd) (σ':St) (its:List Value) (ds:List D) (G':DH),Inv B [] σ' b.H s'->Ext a b->Sim b G'->s'.heap.PlainList Dd its.toArray->b.H Dd=none->(∃vs,Vals vs its/\Reps b ds vs)->out E0 b (Aq ds G') Q->RR (.ref Dd) C (.ok .next) s':=by
  intro s' b σ' its ds G' IB x sb pl hD ⟨vs,hv,rv⟩ hq;have hz:ds.length<=1000000:=by
   unfold Aq at hq;split at hq
   ·assumption
   ·exact hq.elim
  have Ix:Inv X pins σ b.H s':=I.call' IB.os IB.base IB.hok IB.bare λb hb=>⟨(hf b hb).2.2.2.1,(hf b hb).2.1,(hf b hb).2.2.2.2.1,(hf b hb).2.2.2.2.2⟩
  obtain ⟨n,eD⟩:=pl;have ylt:∀{q:Addr} {o:Obj},s.heap.get? q=some o->q≠Dd:=λe z=>by rw [z,<-hDe] at e;exact absurd (Heap.lt_size e) (Nat.lt_irrefl _)
  have Ia:Inv X pins σ (upd b.H Dd (.lst vs)) s':=by
   refine ZCv Ix hD (by rw [<-hDe];exact I.sz) ?_ (λy c' ec=> ?_) (λp hp=> ?_) ⟨?_,its,n,hv,eD⟩
   ·rw [<-hDe];exact Nat.ne_of_gt I.lt
   ·obtain ⟨v,o,e,_⟩:=I.cell y c' ec;exact ylt e
   ·exact ylt (I.pin p hp).1
   ·rw [<-rv.length];exact Nat.le_trans hz size6
  refine hRR Dd C s' b vs Ia hD hCle hDC (let ⟨m,hn,_⟩:=IB.loc;⟨m,hn⟩) IB.free ?_;unfold Aq at hq;rw [if_pos hz] at hq;exact O1 sb rv hq Dd hD
 have turnX:∀(n:Nat) (P:Nat->Shared->Prop) (rest:DH->R (List D)) (s1:Shared) (b:Wd) (G1:DH) (σ1:St) (its:List Value) (acc:List D) (u:Value) (v:V) (x:D) (i:Nat),Inv B [] σ1 b.H s1->Ext a b->Sim b G1->RepS b (Ao nt caps S) σ1->tn i s1.heap->(∀q∈fp,b.H q=none)->
   s1.heap.PlainList Dd its.toArray->b.H Dd=none->(∃vs,Vals vs its/\Reps b acc vs)->RelV v u->Rep b x v->
   out E0 b (((g x (Ao nt caps S) G1).bind λS1 G1=>(c S1 G1).bind λk G2=>if k=true then (te S1 G2).bind λd G3=>(rest G3).bind λds G4=>.ok (d::ds) G4 else rest G2).bind λds G=>Aq (acc++ds) G) Q->
   (∀(s2:Shared) (b2:Wd) (G2:DH) (σ2:St) (its2:List Value) (acc2:List D),Inv B [] σ2 b2.H s2->Ext a b2->Sim b2 G2->RepS b2 (Ao nt caps S) σ2->tn i s2.heap->(∀q∈fp,b2.H q=none)->
    s2.heap.PlainList Dd its2.toArray->b2.H Dd=none->(∃vs,Vals vs its2/\Reps b2 acc2 vs)->out E0 b2 ((rest G2).bind λds G=>Aq (acc2++ds) G) Q->∃m,m < n/\P m s2)->
   wpAny (model X.prog X.w) X.A (assign tg B.env u) (λ_ s₂=>
     wpAny (model X.prog X.w) X.A (forIn ifs true λc r=>if r=true then do let ok<-isTrue c B.env (eval c B.env);pure (ForInStep.yield ok) else pure (ForInStep.yield r)) (λok s₃=>
      if ok=true then wpAny (model X.prog X.w) X.A (eval elt B.env) (λx s₄=>
       wpAny (model X.prog X.w) X.A (call (.builtin "list.append") [.ref Dd,x]) (λ_ s₅=>∃m,m < n/\P m s₅) (λ_ _=>False) s₄) (λ_ _=>False) s₃
      else∃m,m < n/\P m s₃) (λ_ _=>False) s₂) (λ_ _=>False) s1:=by
  intro n P rest s1 b G1 σ1 its acc u v x i I1 x1 sb rSb t1 hfp pl hD hacc' ru rx hq next
  rw [R.bind_assoc] at hq;obtain ⟨nD,eD⟩:=id pl;let pinD:List (Addr×Obj):= [(Dd,{cls:=.type "list",data:=.seq its.toArray nD})];have pinOk:∀{σ':St} {H':Hp} {s':Shared},Inv B (pinD++Iw fp s1.heap) σ' H' s'->s'.heap.PlainList Dd its.toArray/\H' Dd=none/\tn i s'.heap/\∀q∈fp,H' q=none:=λ{σ' H' s'} J=>by
   have p1:=J.pin (Dd,{cls:=.type "list",data:=.seq its.toArray nD}) (List.mem_append_right _ (List.mem_append_left _ (by simp [pinD])));refine ⟨⟨nD,p1.1⟩,p1.2.1,T.keep _ _ _ t1 λq hq' o e=>(J.pin (q,o) (List.mem_append_right _ (List.mem_append_right _ (Lz hq' e)))).1,λq hq'=> ?_⟩;obtain ⟨o,e,_⟩:=T.obj _ _ t1 q hq';exact (J.pin (q,o) (List.mem_append_right _ (List.mem_append_right _ (Lz hq' e)))).2.1
  have I2:Inv B (pinD++Iw fp s1.heap) σ1 b.H s1:=I1.Dr λp hp=>by
   rcases List.mem_append.mp hp with hp | hp
   ·have e:p=(Dd,{cls:=.type "list",data:=.seq its.toArray nD}):=by simpa [pinD] using hp
    subst e;refine ⟨eD,hD,hDC,λz=> ?_,λv' z=>by cases z⟩;exact nstk z
   ·obtain ⟨hb,e⟩:=Wo hp;obtain ⟨f0,f1,f2,_⟩:=fpB (ps:= []) hfp (λp hp=>by cases hp) p.1 hb;obtain ⟨o,e',dd⟩:=T.obj _ _ t1 p.1 hb;rw [e] at e';cases e';exact ⟨e,f0,f1,f2,dd⟩
  refine thn (hg C s a.H fp _ s1 σ1 b.H v u _ I2 ru ⟨b,Ao nt caps S,G1,x,x1.k.trans hk,rfl,sb,rSb,rx,(ZET hq).imp λ_ _ z=>z⟩) ?_;rintro _ s2 ⟨σ2,H2',J2,b2,S2,G2,rfl,y2,sb2,rS2,eg,hq2⟩;rw [R.bind_assoc] at hq2;have rS2':RepS b2 (Ao nt caps S) σ2:=⟨by have h1:=J2.len;have h2:σ1.length=N.length:=I1.len;rw [rSb.len,h2];exact h1.symm,λj e' hj=>rS2.get j e' (gk _ _ _ _ _ eg j e' (Zw hj) hj)⟩
  refine thn (hts C s a.H fp _ s2 σ2 b2.H _ J2 ⟨b2,S2,G2,y2.k.trans (x1.k.trans hk),rfl,sb2,rS2,(ZCp hq2).imp λ_ _ z=>z⟩) ?_;rintro k s3 ⟨H3,J3,b3,G3,rfl,y3,sb3,_,hq3⟩;cases k with
  | false=>
   obtain ⟨p1,p2,p3,p4⟩:=pinOk J3;have Jn:Inv B [] σ2 b3.H s3:=J3.Dr λp hp=>by cases hp
   obtain ⟨vs,hv,rv⟩:=hacc'
   exact next s3 b3 G3 σ2 its acc Jn (x1.trans (y2.trans y3)) sb3 (rS2'.mono y3) p3 p4 p1 p2 ⟨vs,hv,(rv.mono y2).mono y3⟩ hq3
  | true=>
   have hq3':out E0 b3 (((te S2 G3).bind λd G3=>(rest G3).bind λds G4=>.ok (d::ds) G4).bind λds G=>Aq (acc++ds) G) Q:=hq3;rw [R.bind_assoc] at hq3';refine thn (he C s a.H fp _ s3 σ2 b3.H _ J3 ⟨b3,S2,G3,y3.k.trans (y2.k.trans (x1.k.trans hk)),rfl,sb3,rS2.mono y3,(Cm hq3').imp λ_ _ z=>z⟩) ?_;rintro w s4 ⟨vw,H4,J4,rw',b4,d4,G4,rfl,y4,sb4,q4,_,hq4⟩;obtain ⟨p1,p2,p3,p4⟩:=pinOk J4;rw [R.bind_assoc] at hq4
   have hq4':out E0 b4 ((rest G4).bind λds G=>Aq ((acc++ [d4])++ds) G) Q:=by
    have e:(λ(ds:List D) (G:DH)=>(R.ok (d4::ds) G).bind λds G=>Aq (acc++ds) G)=λds G=>Aq ((acc++ [d4])++ds) G:=by funext ds G;simp
    rw [<-e];exact hq4
   obtain ⟨vs,hv,rv⟩:=hacc';have hsz:its.toArray.size<=sizeLine:=by
    have:acc.length<=1000000:=by
     cases hr:rest G4 with
     | ok ds G5=>
      rw [hr] at hq4';have hq5:out E0 b4 (Aq ((acc++ [d4])++ds) G5) Q:=hq4';unfold Aq at hq5;split at hq5
      ·rename_i hl;simp at hl;omega
      ·exact hq5.elim
     | err e' G5=>rw [hr] at hq4';exact hq4'.elim
     | bad=>rw [hr] at hq4';exact hq4'.elim
    rw [List.size_toArray,<-hv.length,<-rv.length];exact Nat.le_trans this size6
   refine wpAny_list_append_plain p1 (λh' hpl hsb=> ?_) hsz;have Jn:Inv B [] σ2 b4.H s4:=J4.Dr λp hp=>by cases hp
   have J5:Inv B [] σ2 b4.H {s4 with heap:=h'}:=by refine Jn.turned (it:=Dd) (t':=s4.toks) (λq o hq' e=>(hsb.2 q hq').trans e) p2 hDC (.inr (by show s.heap.objs.size<=Dd;rw [hDe];exact Nat.le_refl _)) (λy c' ec=> ?_) (λp hp=>absurd hp (by simp [B,blk]));obtain ⟨v',o,e,_⟩:=I.cell y c' (cs.cl I.ok ec);intro z;rw [z,<-hDe] at e;exact absurd (Heap.lt_size e) (Nat.lt_irrefl _)
   refine next _ b4 G4 σ2 (its++ [w]) (acc++ [d4]) J5 (x1.trans (y2.trans (y3.trans y4))) sb4 ((rS2'.mono y3).mono y4) (T.keep _ _ _ p3 λq hq' o e=>(hsb.2 q (λz=>hDf (z ▸ hq'))).trans e) p4 (by simpa using hpl) p2 ⟨vs++ [vw],hv.append (.cons rw' .nil),(((rv.mono y2).mono y3).mono y4).append (Reps.cons q4 Reps.nil)⟩ hq4'
 have loop:∀s₃:Shared,s₃={s with heap:=h₁,toks:=s.toks + ([]:List (Str×Value)).length}->
   codeAny (model X.prog X.w) X.A (.compLoop (.ListComp elt [⟨tg,iter,ifs,0⟩] scope pos) 0 (.ref i0) (.ref Dd) B.env) (RR (.ref Dd) C) s₃:=by
  rintro s₃ rfl;have t1:tn 0 h₁:=T.keep _ _ _ t0 λq _ o e=>old q o e
  have fp0:∀q∈fp,a.H q=none:=λq hq=>(hf q hq).1
  cases d with
  | pure xs=>
   obtain ⟨vs,rv,walk⟩:=rJ;refine Rw (λm s'=>∃(i:Nat) (b:Wd) (G':DH) (σ':St) (its:List Value) (acc:List D),m=vs.length - i/\i<=vs.length/\Inv B [] σ' b.H s'/\Ext a b/\Sim b G'/\RepS b (Ao nt caps S) σ'/\tn i s'.heap/\(∀q∈fp,b.H q=none)/\s'.heap.PlainList Dd its.toArray/\b.H Dd=none/\(∃vs,Vals vs its/\Reps b acc vs)/\
    out E0 b ((Cq g c te (Ao nt caps S) (xs.drop i) G').bind λds G=>Aq (acc++ds) G) Q) ?_ vs.length ⟨0,a,G,σ0,[],[],rfl,Nat.zero_le _,start _,Ext.refl a,sm,rS0,t1,fp0,hacc,aD,⟨[],.nil,rfl⟩,by simpa using h⟩
   rintro m s' ⟨i,b,G',σ',its,acc,rfl,hi,IB,x,sb,rSb,ti,hfp,pl,hD,hac,hq⟩;by_cases hl:i < vs.length
   ·have e1:vs[i]? =some vs[i]:=List.getElem?_eq_getElem hl;obtain ⟨d1,e2,rd⟩:=rv.get' e1;have hd:xs.drop i=d1::xs.drop (i + 1):=by
     have hlx:i < xs.length:=(List.getElem?_eq_some_iff.mp e2).1;rw [List.drop_eq_getElem_cons hlx]
     congr 1
     exact (List.getElem?_eq_some_iff.mp e2).2
    rw [hd] at hq;obtain ⟨go,yl⟩:=(walk b x i).1 _ e1;obtain ⟨nD,eD⟩:=pl;refine thn (T.item B rfl rfl rfl hc i _ s' σ' b.H _ (pinD IB eD hD) (fpB hfp (λp hp=>by
     have ep:p=(Dd,{cls:=.type "list",data:=.seq its.toArray nD}):=by simpa using hp
     subst ep;exact hDf)) ti go) ?_
    rintro r s1 ⟨u,rfl,hgo⟩;refine thn hgo ?_;rintro _ s2 ⟨v,H',I2,ru,y,t2,hfp2⟩;obtain ⟨rfl,rfl⟩:=yl v H' y;have pD:=(I2.pin (Dd,{cls:=.type "list",data:=.seq its.toArray nD}) (List.mem_append_right _ (by simp))).1;refine turnX _ _ (λG3=>Cq g c te (Ao nt caps S) (xs.drop (i + 1)) G3) s2 b G' σ' its acc u _ d1 (i + 1) (I2.Dr λp hp=>by cases hp) x sb rSb t2 hfp2 ⟨nD,pD⟩ hD hac ru (rd.mono x) hq ?_
    ·intro s3 b3 G3 σ3 its3 acc3 a1 a2 a3 a4 a5 a6 a7 a8 a9 a10;exact ⟨vs.length - (i + 1),by omega,i + 1,b3,G3,σ3,its3,acc3,rfl,hl,a1,a2,a3,a4,a5,a6,a7,a8,a9,a10⟩
   ·have e:i=vs.length:=by omega
    have hd:xs.drop i= []:=by rw [List.drop_eq_nil_iff,rv.length];omega
    rw [hd] at hq;have hq':out E0 b (Aq (acc++ []) G') Q:=hq;rw [List.append_nil] at hq';obtain ⟨nD,eD⟩:=pl;refine thn (T.done B rfl rfl rfl hc i _ s' σ' b.H _ (pinD IB eD hD) (fpB hfp (λp hp=>by
     have ep:p=(Dd,{cls:=.type "list",data:=.seq its.toArray nD}):=by simpa using hp
     subst ep;exact hDf)) ti ((walk b x i).2 (by omega))) ?_
    rintro r s1 ⟨rfl,I2⟩;have pD:=(I2.pin (Dd,{cls:=.type "list",data:=.seq its.toArray nD}) (List.mem_append_right _ (by simp))).1;exact fin s1 b σ' its acc G' (I2.Dr λp hp=>by cases hp) x sb ⟨nD,pD⟩ hD hac hq'
  | mt k=>
   obtain ⟨hkn,walk⟩:=rJ;dsimp only at h;split at h
   ·rename_i xs0 hx0;refine Rw (λm s'=>∃(i:Nat) (b:Wd) (G':DH) (σ':St) (its:List Value) (acc:List D),Inv B [] σ' b.H s'/\Ext a b/\Sim b G'/\RepS b (Ao nt caps S) σ'/\tn i s'.heap/\(∀q∈fp,b.H q=none)/\s'.heap.PlainList Dd its.toArray/\b.H Dd=none/\(∃vs,Vals vs its/\Reps b acc vs)/\
     out E0 b ((Dy k g c te (Ao nt caps S) m i G').bind λds G=>Aq (acc++ds) G) Q) ?_ xs0.length ⟨0,a,G,σ0,[],[],start _,Ext.refl a,sm,rS0,t1,fp0,hacc,aD,⟨[],.nil,rfl⟩,by simpa using h⟩
    rintro m s' ⟨i,b,G',σ',its,acc,IB,x,sb,rSb,ti,hfp,pl,hD,hac,hq⟩;obtain ⟨nD,eD⟩:=pl;have I0:=pinD IB eD hD;have f0:=fpB (ps:= [(Dd,{cls:=.type "list",data:=.seq its.toArray nD})]) hfp (λp hp=>by
     have ep:p=(Dd,{cls:=.type "list",data:=.seq its.toArray nD}):=by simpa using hp
     subst ep;exact hDf)
    have stop:J.stop i b.H->out E0 b (Aq acc G') Q->wpAny (model X.prog X.w) X.A (pyNext (.ref i0)) (λr s₁=>match r with
      | none=>RR (.ref Dd) C (.ok .next) s₁
      | some v=>wpAny (model X.prog X.w) X.A (letOwnedTupleGo tg (.ref i0) v) (λ_ s₁=>wpAny (model X.prog X.w) X.A (assign tg B.env v) (λ_ s₂=>
       wpAny (model X.prog X.w) X.A (forIn ifs true λc r=>if r=true then do let ok<-isTrue c B.env (eval c B.env);pure (ForInStep.yield ok) else pure (ForInStep.yield r)) (λok s₃=>
        if ok=true then wpAny (model X.prog X.w) X.A (eval elt B.env) (λx s₄=>
         wpAny (model X.prog X.w) X.A (call (.builtin "list.append") [.ref Dd,x]) (λ_ s₅=>∃m',m' < m/\∃(i:Nat) (b:Wd) (G':DH) (σ':St) (its:List Value) (acc:List D),Inv B [] σ' b.H s₅/\Ext a b/\Sim b G'/\RepS b (Ao nt caps S) σ'/\tn i s₅.heap/\(∀q∈fp,b.H q=none)/\s₅.heap.PlainList Dd its.toArray/\b.H Dd=none/\(∃vs,Vals vs its/\Reps b acc vs)/\
          out E0 b ((Dy k g c te (Ao nt caps S) m' i G').bind λds G=>Aq (acc++ds) G) Q) (λ_ _=>False) s₄) (λ_ _=>False) s₃
        else∃m',m' < m/\∃(i:Nat) (b:Wd) (G':DH) (σ':St) (its:List Value) (acc:List D),Inv B [] σ' b.H s₃/\Ext a b/\Sim b G'/\RepS b (Ao nt caps S) σ'/\tn i s₃.heap/\(∀q∈fp,b.H q=none)/\s₃.heap.PlainList Dd its.toArray/\b.H Dd=none/\(∃vs,Vals vs its/\Reps b acc vs)/\
          out E0 b ((Dy k g c te (Ao nt caps S) m' i G').bind λds G=>Aq (acc++ds) G) Q) (λ_ _=>False) s₂) (λ_ _=>False) s₁) (λ_ _=>False) s₁) (λ_ _=>False) s':=by
     intro st hq';refine thn (T.done B rfl rfl rfl hc i _ s' σ' b.H _ I0 f0 ti st) ?_;rintro r s1 ⟨rfl,I2⟩;have pD:=(I2.pin (Dd,{cls:=.type "list",data:=.seq its.toArray nD}) (List.mem_append_right _ (by simp))).1;exact fin s1 b σ' its acc G' (I2.Dr λp hp=>by cases hp) x sb ⟨nD,pD⟩ hD hac hq'
    cases m with
    | zero=>
     unfold Dy at hq;split at hq
     ·rename_i xs hx;obtain ⟨vs,e1,rv⟩:=sb.lst hx;split at hq
      ·rename_i hl;exact stop ((walk b x vs e1 i).2 (by rw [<-rv.length];exact hl)) (by have hq':out E0 b (Aq (acc++ []) G') Q:=hq;rw [List.append_nil] at hq';exact hq')
      ·exact hq.elim
     ·exact hq.elim
    | succ m=>
     unfold Dy at hq;split at hq
     ·rename_i xs hx;obtain ⟨vs,e1,rv⟩:=sb.lst hx;split at hq
      ·rename_i d1 hd1;obtain ⟨v1,ev,rd⟩:=rv.get hd1;obtain ⟨go,yl⟩:=(walk b x vs e1 i).1 v1 ev;refine thn (T.item B rfl rfl rfl hc i _ s' σ' b.H _ I0 f0 ti go) ?_;rintro r s1 ⟨u,rfl,hgo⟩;refine thn hgo ?_;rintro _ s2 ⟨v,H',I2,ru,y,t2,hfp2⟩;obtain ⟨rfl,rfl⟩:=yl v H' y;have pD:=(I2.pin (Dd,{cls:=.type "list",data:=.seq its.toArray nD}) (List.mem_append_right _ (by simp))).1;refine turnX _ _ (λG3=>Dy k g c te (Ao nt caps S) m (i + 1) G3) s2 b G' σ' its acc u _ d1 (i + 1) (I2.Dr λp hp=>by cases hp) x sb rSb t2 hfp2 ⟨nD,pD⟩ hD hac ru rd hq ?_
       intro s3 b3 G3 σ3 its3 acc3 a1 a2 a3 a4 a5 a6 a7 a8 a9 a10;exact ⟨m,Nat.lt_succ_self _,i + 1,b3,G3,σ3,its3,acc3,a1,a2,a3,a4,a5,a6,a7,a8,a9,a10⟩
      ·rename_i hd1;have hl:xs.length<=i:=List.getElem?_eq_none_iff.mp hd1;exact stop ((walk b x vs e1 i).2 (by rw [<-rv.length];exact hl)) (by have hq':out E0 b (Aq (acc++ []) G') Q:=hq;rw [List.append_nil] at hq';exact hq')
     ·exact hq.elim
   ·exact h.elim
  | fn n0 f=>
   have walk:∀b:Wd,Ext a b->∀G,Sim b G->∀i,(∀d,f i G=some (some d)->J.go i b.H/\∀x H',J.yld i b.H x H'->∃c:Wd,c.H=H'/\Ext b c/\Sim c G/\Rep c d x)/\(f i G=some none->J.stop i b.H):=rJ;dsimp only at h;refine Rw (λm s'=>∃(i:Nat) (b:Wd) (G':DH) (σ':St) (its:List Value) (acc:List D),Inv B [] σ' b.H s'/\Ext a b/\Sim b G'/\RepS b (Ao nt caps S) σ'/\tn i s'.heap/\(∀q∈fp,b.H q=none)/\s'.heap.PlainList Dd its.toArray/\b.H Dd=none/\(∃vs,Vals vs its/\Reps b acc vs)/\
    out E0 b ((Du f g c te (Ao nt caps S) m i G').bind λds G=>Aq (acc++ds) G) Q) ?_ n0 ⟨0,a,G,σ0,[],[],start _,Ext.refl a,sm,rS0,t1,fp0,hacc,aD,⟨[],.nil,rfl⟩,by simpa using h⟩
   rintro m s' ⟨i,b,G',σ',its,acc,IB,x,sb,rSb,ti,hfp,pl,hD,hac,hq⟩;obtain ⟨nD,eD⟩:=pl;have I0:=pinD IB eD hD;have f0:=fpB (ps:= [(Dd,{cls:=.type "list",data:=.seq its.toArray nD})]) hfp (λp hp=>by
    have ep:p=(Dd,{cls:=.type "list",data:=.seq its.toArray nD}):=by simpa using hp
    subst ep;exact hDf)
   have stop:J.stop i b.H->out E0 b (Aq acc G') Q->wpAny (model X.prog X.w) X.A (pyNext (.ref i0)) (λr s₁=>match r with
     | none=>RR (.ref Dd) C (.ok .next) s₁
     | some v=>wpAny (model X.prog X.w) X.A (letOwnedTupleGo tg (.ref i0) v) (λ_ s₁=>wpAny (model X.prog X.w) X.A (assign tg B.env v) (λ_ s₂=>
      wpAny (model X.prog X.w) X.A (forIn ifs true λc r=>if r=true then do let ok<-isTrue c B.env (eval c B.env);pure (ForInStep.yield ok) else pure (ForInStep.yield r)) (λok s₃=>
       if ok=true then wpAny (model X.prog X.w) X.A (eval elt B.env) (λx s₄=>
        wpAny (model X.prog X.w) X.A (call (.builtin "list.append") [.ref Dd,x]) (λ_ s₅=>∃m',m' < m/\∃(i:Nat) (b:Wd) (G':DH) (σ':St) (its:List Value) (acc:List D),Inv B [] σ' b.H s₅/\Ext a b/\Sim b G'/\RepS b (Ao nt caps S) σ'/\tn i s₅.heap/\(∀q∈fp,b.H q=none)/\s₅.heap.PlainList Dd its.toArray/\b.H Dd=none/\(∃vs,Vals vs its/\Reps b acc vs)/\
         out E0 b ((Du f g c te (Ao nt caps S) m' i G').bind λds G=>Aq (acc++ds) G) Q) (λ_ _=>False) s₄) (λ_ _=>False) s₃
       else∃m',m' < m/\∃(i:Nat) (b:Wd) (G':DH) (σ':St) (its:List Value) (acc:List D),Inv B [] σ' b.H s₃/\Ext a b/\Sim b G'/\RepS b (Ao nt caps S) σ'/\tn i s₃.heap/\(∀q∈fp,b.H q=none)/\s₃.heap.PlainList Dd its.toArray/\b.H Dd=none/\(∃vs,Vals vs its/\Reps b acc vs)/\
         out E0 b ((Du f g c te (Ao nt caps S) m' i G').bind λds G=>Aq (acc++ds) G) Q) (λ_ _=>False) s₂) (λ_ _=>False) s₁) (λ_ _=>False) s₁) (λ_ _=>False) s':=by
    intro st hq';refine thn (T.done B rfl rfl rfl hc i _ s' σ' b.H _ I0 f0 ti st) ?_;rintro r s1 ⟨rfl,I2⟩;have pD:=(I2.pin (Dd,{cls:=.type "list",data:=.seq its.toArray nD}) (List.mem_append_right _ (by simp))).1;exact fin s1 b σ' its acc G' (I2.Dr λp hp=>by cases hp) x sb ⟨nD,pD⟩ hD hac hq'
   cases m with
   | zero=>
    unfold Du at hq;split at hq
    ·rename_i hf;exact stop ((walk b x G' sb i).2 hf) (by have hq':out E0 b (Aq (acc++ []) G') Q:=hq;rw [List.append_nil] at hq';exact hq')
    ·exact hq.elim
   | succ m=>
    unfold Du at hq;split at hq
    ·rename_i d1 hf;obtain ⟨go,yl⟩:=(walk b x G' sb i).1 d1 hf;refine thn (T.item B rfl rfl rfl hc i _ s' σ' b.H _ I0 f0 ti go) ?_;rintro r s1 ⟨u,rfl,hgo⟩;refine thn hgo ?_;rintro _ s2 ⟨v,H',I2,ru,y,t2,hfp2⟩;obtain ⟨cc,rfl,xx,ss,rd⟩:=yl v H' y;have pD:=I2.pin (Dd,{cls:=.type "list",data:=.seq its.toArray nD}) (List.mem_append_right _ (by simp));obtain ⟨vs1,hv1,rv1⟩:=hac;refine turnX _ _ (λG3=>Du f g c te (Ao nt caps S) m (i + 1) G3) s2 cc G' σ' its acc u _ d1 (i + 1) (I2.Dr λp hp=>by cases hp) (x.trans xx) ss (rSb.mono xx) t2 hfp2 ⟨nD,pD.1⟩ pD.2.1 ⟨vs1,hv1,rv1.mono xx⟩ ru rd (out.mono xx hq) ?_
     intro s3 b3 G3 σ3 its3 acc3 a1 a2 a3 a4 a5 a6 a7 a8 a9 a10;exact ⟨m,Nat.lt_succ_self _,i + 1,b3,G3,σ3,its3,acc3,a1,a2,a3,a4,a5,a6,a7,a8,a9,a10⟩
    ·rename_i hf;exact stop ((walk b x G' sb i).2 hf) (by have hq':out E0 b (Aq (acc++ []) G') Q:=hq;rw [List.append_nil] at hq';exact hq')
    ·exact hq.elim
 exact codeAny_compStart_list (loop _ rfl) (T.self _ 0 _ _ _ (T.keep _ _ _ t0 λq _ o e=>old q o e) (loop _ rfl))
end
section
variable {X:Cx} {N:List Str} {scope:Scope} {nt:Nat} {caps:List Nat} {tg elt iter:Expr} {ifs:List Expr} {pos:Pos} {it:DI} {g:DG} {c:DB} {te:DE}
theorem letGo {pins:List (Addr×Obj)} {s2 s':Shared} {h':Heap} {C:Addr} {t':Nat} {σ2:St} {H2:Hp} (I2:Inv X pins σ2 H2 s2) (Ia:Inv X pins σ H s') (hC:s2.heap.objs.size<=C) (hn:H C=none) (hsb:Heap.SameBut C s'.heap h'):Inv X pins σ H {s' with heap:=h',toks:=t'}:=by
 have young:∀{b:Addr} {o:Obj},s2.heap.get? b=some o->b≠C:=λe z=>by rw [z] at e;exact absurd (Nat.lt_of_lt_of_le (Heap.lt_size e) hC) (Nat.lt_irrefl _)
 refine Ia.turned (it:=C) (λb o hb e=>(hsb.2 b hb).trans e) hn (Nat.ne_of_gt (Nat.lt_of_lt_of_le I2.lt hC)) (.inr (Nat.le_trans I2.sz hC)) (λx c' e=> ?_) λp hp=> ?_
 ·obtain ⟨v,o,e',_⟩:=I2.cell x c' e;exact young e'
 ·exact young (I2.pin p hp).1
theorem Je (hc:X.calm=true) (cs:CompSc X N scope nt caps) (hi:QI X E0 tg iter it)
  (hg:∀C s₀ H₀ ex,QG (blk X N scope C s₀ H₀ ex) E0 tg g) (gk:GK nt g) (hts:∀C s₀ H₀ ex,QTs (blk X N scope C s₀ H₀ ex) E0 ifs c) (he:∀C s₀ H₀ ex,QE (blk X N scope C s₀ H₀ ex) E0 elt te)
  (hs:∀x,foldedSetIterable iter X.env x=pure x:=by intro _;rfl):QE X E0 (.ListComp elt [⟨tg,iter,ifs,0⟩] scope pos) (Gs it nt caps g c te):=by
 intro pins s σ H Q I h;obtain ⟨a,S,G,hk,rfl,sm,r,h⟩:=h;rw [eval_ListComp];refine wpAny_comprehension_free (use:=none) rfl hs (Zg (cs.cells I.ok)) cs.kind cs.names (thn (hi pins s σ a.H _ I ⟨a,S,G,hk,rfl,sm,r,(ZBs h).imp λ_ _ z=>z⟩) λxv s1 h1=>thn h1 λitv s2 h2=> ?_);obtain ⟨i0,fp,tn,J,H2,rfl,I2,T,t0,f2,b,d,G1,rfl,x,sb,rJ,_,h1⟩:=h2;refine ZD8 hc cs hg gk hts he I2 (x.k.trans hk) sb (r.mono x) T t0 f2 rJ h1 (RR:=λacc C=>compPost (model X.prog X.w) X.A X.xe none (EP X pins σ Q) acc C) ?_
 intro D C s' b vs Ia hD hCle hDC ⟨m,hn⟩ hCn hq;refine ⟨m,hn,λh' hsb=>⟨.ref D,_,letGo I2 Ia hCle ?_ hsb,rfl,hq⟩⟩;rw [Aj (Ne.symm hDC)];exact hCn
end
def Lr:D->Option V
 | .non=>some .non
 | .bl b=>some (.bl b)
 | .int i=>some (.int i)
 | .str x=>some (.str x)
 | _=>none
def Jh:List D->Option (List V)
 | []=>some []
 | d::r=>match Lr d,Jh r with
  | some v,some vs=>some (v::vs)
  | _,_=>none
def inD (d e:D) (G:DH):Option Bool:=match e with
 | .str j=>match d with
  | .str i=>some (!(Builtin.Str.occurrences j i 0 j.length 1).isEmpty)
  | _=>none
 | e=>match Bw e G,Lr d with
  | some xs,some v=>(Jh xs).map λvs=>inV v vs
  | _,_=>none
def Jd (d e:D) (G:DH):R D:=match inD d e G with
 | some k=>.ok (.bl k) G
 | none=>.bad
def Jw (d e:D) (G:DH):R D:=match inD d e G with
 | some k=>.ok (.bl (!k)) G
 | none=>.bad
section
variable {X:Cx} {E:XK} {a b:Expr} {ta tb:DE} {pos:Pos}
theorem Fp {n:String} (hg:Gl X x) (hm:X.mg x=none) (hv:bootBuiltins x=some (.type n)) (hn:x≠"__name__":=by decide) (hd:(x == ("__debug__":Str))=false:=by decide):QE X E (.Name x pos) (dC (.ty n)):=
 (ZBo (v:=.ty n) hg hm hv rfl hn hd).mono λσ H Q h=>Le h λ_ _=>rfl
theorem Vi {a:Wd} {x:V} (r:Rep a d x) (h:Lr d=some v):x=v/\Bj v=true:=by
 cases d <;> first
  | (cases h;exact ⟨r,rfl⟩)
  | cases h
theorem Yd {a:Wd}:∀{ds:List D} {xs vs:List V},Reps a ds xs->Jh ds=some vs->xs=vs/\vs.all Bj=true
 | [],xs,vs,r,h=>by cases h;exact ⟨r,rfl⟩
 | d::ds,xs,vs,r,h=>by
  obtain ⟨x,r',rfl,r1,r2⟩:=r;unfold Jh at h;split at h
  ·rename_i v ws h1 h2;cases h;obtain ⟨e1,f1⟩:=Vi r1 h1;obtain ⟨e2,f2⟩:=Yd r2 h2;subst e1;subst e2;exact ⟨rfl,by rw [List.all_cons,f1,f2];rfl⟩
  ·cases h
theorem Wc {a:Wd} {e:D} {x:V} {k:Bool} (s:Sim a G) (rd:Rep a d x) (re:Rep a e y) (h:inD d e G=some k):
  (∃i j,x=.str i/\y=.str j/\k= !(Builtin.Str.occurrences j i 0 j.length 1).isEmpty)∨(∃p xs,y=.ref p/\(SqL a.K a.H p xs∨SqT a.K a.H p xs)/\Bj x=true/\xs.all Bj=true/\k=inV x xs):=by
 have seq:(match Bw e G,Lr d with | some xs,some v=>(Jh xs).map λvs=>inV v vs | _,_=>none)=some k->(∃p xs,y=.ref p/\(SqL a.K a.H p xs∨SqT a.K a.H p xs)/\Bj x=true/\xs.all Bj=true/\k=inV x xs):=λh=>by
  split at h
  ·rename_i xs v h1 h2;obtain ⟨p,ws,e1,q,r1⟩:=Gf s re h1;obtain ⟨e2,f2⟩:=Vi rd h2;subst e2;rw [Option.map_eq_some_iff] at h;obtain ⟨us,h3,h4⟩:=h;obtain ⟨e3,f3⟩:=Yd r1 h3;subst e3;exact ⟨p,ws,e1,q,f2,f3,h4.symm⟩
  ·cases h
 cases e with
 | str j=>
  cases d with
  | str i=>exact .inl ⟨i,j,rd,re,(Option.some.inj h).symm⟩
  | _=>cases h
 | tup xs=>exact .inr (seq h)
 | fl xs=>exact .inr (seq h)
 | ref i=>exact .inr (seq h)
 | _=>exact .inr (seq h)
theorem o_in:OpR X (compareOp .In) (lR2 X.K E Jd):=Dm (ZCo.or ZEO) λa G d e x y Q hk s rd re q=>by
 unfold Jd at q;split at q
 ·rename_i k h;have z:=q a _ (Ext.refl a) s rfl;rcases Wc s rd re h with ⟨i,j,e1,e2,rfl⟩ | ⟨p,xs,e1,hq,f1,f2,rfl⟩
  ·exact .inl ⟨i,j,e1,e2,z⟩
  ·exact .inr ⟨p,xs,e1,by rw [<-hk];exact hq,f1,f2,z⟩
 ·exact q.elim
theorem ZDV:OpR X (compareOp .NotIn) (lR2 X.K E Jw):=Dm (ZAF.or ZAD) λa G d e x y Q hk s rd re q=>by
 unfold Jw at q;split at q
 ·rename_i k h;have z:=q a _ (Ext.refl a) s rfl;rcases Wc s rd re h with ⟨i,j,e1,e2,rfl⟩ | ⟨p,xs,e1,hq,f1,f2,rfl⟩
  ·exact .inl ⟨i,j,e1,e2,z⟩
  ·exact .inr ⟨p,xs,e1,by rw [<-hk];exact hq,f1,f2,z⟩
 ·exact q.elim
end
theorem Fl:bootBuiltins "isinstance"=some (.builtin "isinstance"):=by decide +kernel
theorem ZEW:bootBuiltins "all"=some (.builtin "all"):=by decide +kernel
theorem Zo:bootBuiltins "max"=some (.builtin "max"):=by decide +kernel
theorem Hb:bootBuiltins "len"=some (.builtin "len"):=by decide +kernel
theorem T3:bootBuiltins "int"=some (.type "int"):=by decide +kernel
theorem ZCW:bootBuiltins "bool"=some (.type "bool"):=by decide +kernel
theorem Jp:bootBuiltins "str"=some (.type "str"):=by decide +kernel
theorem Fv:bootBuiltins "tuple"=some (.type "tuple"):=by decide +kernel
def Gg:NameKind->Bool | .local=>true | _=>false
def Gv:NameKind->Bool | .cell=>true | _=>false
def Fg:NameKind->Bool | .free=>true | _=>false
def isK (p:NameKind->Bool):Option NameKind->Bool | some k=>p k | none=>false
theorem ZER {k:NameKind} (h:Gg k=true):k=.local:=by cases k <;> first | rfl | cases h
theorem ZCg {k:NameKind} (h:Gv k=true):k=.cell:=by cases k <;> first | rfl | cases h
theorem Yq {k:NameKind} (h:Fg k=true):k=.free:=by cases k <;> first | rfl | cases h
theorem Mv {p:NameKind->Bool} {k:NameKind} (hp:∀k',p k'=true->k'=k) {o:Option NameKind} (h:isK p o=true):o=some k:=by
 cases o with
 | none=>cases h
 | some k'=>rw [hp _ h]
def W6 (dn:List (Str×NameKind)) (N0 N:List Str) (names:List (Str×NameKind)) (nt:Nat) (caps:List Nat):Bool:=
 names.all (λy=>(!Gg y.2 || isK Gg (names.lookup y.1)) && !Gv y.2 && (!Fg y.2 || isK Gv (dn.lookup y.1) || isK Fg (dn.lookup y.1))) && decide N.Nodup && decide (N.length=nt + caps.length) &&
 (List.range caps.length).all λk=>match caps[k]? with
  | some j=>match N0[j]? with
   | some x=>decide (N[nt + k]? =some x) && isK Fg (names.lookup x)
   | none=>false
  | none=>true
theorem Kw {X:Cx} {N0 N:List Str} {nt:Nat} {caps:List Nat} {dn:List (Str×NameKind)} (hk:scope.kind=.function:=by rfl) (hdn:∀x,X.env.kindOf x=dn.lookup x:=by intro _;rfl) (hN:X.N=N0:=by rfl)
  (h:W6 dn N0 N scope.names nt caps=true:=by decide +kernel):CompSc X N scope nt caps:=by
 unfold W6 at h;rw [Bool.and_eq_true,Bool.and_eq_true,Bool.and_eq_true] at h;obtain ⟨⟨⟨h1,h2⟩,h3⟩,h4⟩:=h;rw [List.all_eq_true] at h1 h4;have key:=λ(y:Str×NameKind) (hy:y∈scope.names)=>(by have:=h1 y hy;rw [Bool.and_eq_true,Bool.and_eq_true] at this;exact this:((!Gg y.2 || isK Gg (scope.names.lookup y.1))=true/\(!Gv y.2)=true)/\(!Fg y.2 || isK Gv (dn.lookup y.1) || isK Fg (dn.lookup y.1))=true)
 refine ⟨hk,λy hy hl=> ?_,λy hy hl=> ?_,λy hy hl=> ?_,of_decide_eq_true h2,of_decide_eq_true h3,λk j hj=> ?_⟩
 ·have:=(key y hy).1.1;rw [hl] at this;exact Mv (p:=Gg) (λ_ h=>ZER h) (by have t:(false || isK Gg (scope.names.lookup y.1))=true:=this;simpa using t)
 ·have:=(key y hy).1.2;rw [hl] at this;exact absurd this (by decide)
 ·have:=(key y hy).2;rw [hl,Bool.or_eq_true] at this;rw [hdn];rcases this with h | h
  ·exact .inl (Mv (p:=Gv) (λ_ h=>ZCg h) (by have t:(false || isK Gv (dn.lookup y.1))=true:=h;simpa using t))
  ·exact .inr (Mv (p:=Fg) (λ_ h=>Yq h) h)
 ·have hk':k < caps.length:=(List.getElem?_eq_some_iff.mp hj).1;have:=h4 k (List.mem_range.mpr hk');rw [hj] at this;dsimp only at this;cases e:N0[j]? with
  | none=>rw [e] at this;cases this
  | some x=>
   rw [e] at this;dsimp only at this;rw [Bool.and_eq_true] at this;exact ⟨x,by rw [hN];exact e,of_decide_eq_true this.1,Mv (p:=Fg) (λ_ h=>Yq h) this.2⟩
section
section
variable {X:Cx} {pins:List (Addr×Obj)} {σ:St} {H:Hp} {s:Shared}
theorem ZDq (I:Inv X pins σ H s) (h:H p=some (.lst xs)):∃o,Inv X pins σ (upd H p (.frz o (.lst xs))) s:=by
 obtain ⟨hl,its,n,r,e⟩:=I.hok p _ h;have nt:∀b (u:HO),H b=some u->u≠ .lst xs->b≠p:=λb u q d z=>by subst z;rw [h] at q;exact d (Option.some.inj q).symm
 refine ⟨_,I.un (t':=s.toks) (H':=upd H p (.frz {cls:=.type "list",data:=.seq its.toArray n} (.lst xs))) ⟨λb o q _ _ _=>q,λb o q _ _ _=>⟨o.slots,q⟩,λb o q z _=> ?_,λb o q _=>⟨o,q⟩,λb ys q=> ?_,λb o u q=> ?_,λb ps q=>⟨#[],?_⟩⟩ ?_⟩
 ·rw [Aj (λz'=>by subst z';rw [h] at z;cases z)];exact z
 ·rw [Aj (nt b _ q (by intro z;cases z))];exact q
 ·rw [Aj (nt b _ q (by intro z;cases z))];exact q
 ·rw [Aj (nt b _ q (by intro z;cases z)),Array.append_empty];exact q
 ·intro b u q;by_cases hb:b=p
  ·subst hb;rw [Do] at q;cases q;exact ⟨e,hl,its,n,r,e⟩
  ·rw [Aj hb] at q;exact (I.hok b u q).stay (λc v _ z=>z) (λc z=>by rw [Aj (nt c _ z (by intro z;cases z))];exact z) λc ys z=>by rw [Aj (nt c _ z (by intro z;cases z))];exact z
def Fz (P:Addr->Prop) (H H':Hp):Prop:=∀p,(H' p=H p/\(∀vs,H p=some (.lst vs)->¬P p))∨∃o vs,P p/\H p=some (.lst vs)/\H' p=some (.frz o (.lst vs))
theorem Vh (I:Inv X pins σ H s) (m:Nat->Addr) (n:Nat):∀k:Nat,∃H',Inv X pins σ H' s/\Fz (λp=>∃i,n<=i/\i < n + k/\p=m i) H H'
 | 0=>⟨H,I,λp=>.inl ⟨rfl,λ_ _ ⟨i,h1,h2,_⟩=>by omega⟩⟩
 | k + 1=>by
  obtain ⟨H',I',F⟩:=Vh I m n k;have keep:(∀vs,H' (m (n + k))≠some (.lst vs))->Fz (λp=>∃i,n<=i/\i < n + (k + 1)/\p=m i) H H':=λno p=>by
   rcases F p with ⟨e,z⟩ | ⟨o,vs,⟨i,h1,h2,h3⟩,e1,e2⟩
   ·refine .inl ⟨e,λvs e1 ⟨i,h1,h2,h3⟩=> ?_⟩;by_cases hi:i < n + k
    ·exact z vs e1 ⟨i,h1,hi,h3⟩
    ·have:i=n + k:=by omega
     subst this;subst h3;exact no vs (e.trans e1)
   ·exact .inr ⟨o,vs,⟨i,h1,by omega,h3⟩,e1,e2⟩
  cases hH:H' (m (n + k)) with
  | none=>exact ⟨H',I',keep λvs z=>by rw [hH] at z;cases z⟩
  | some u=>
   cases u with
   | lst vs=>
    obtain ⟨o,I2⟩:=ZDq I' hH;refine ⟨_,I2,λp=> ?_⟩;by_cases hp:p=m (n + k)
    ·subst hp;rcases F (m (n + k)) with ⟨e,z⟩ | ⟨o',vs',_,e1,e2⟩
     ·exact .inr ⟨o,vs,⟨n + k,by omega,by omega,rfl⟩,e.symm.trans hH,Do⟩
     ·rw [hH] at e2;cases e2
    ·rcases F p with ⟨e,z⟩ | ⟨o',vs',⟨i,h1,h2,h3⟩,e1,e2⟩
     ·refine .inl ⟨by rw [Aj hp];exact e,λvs' e1 ⟨i,h1,h2,h3⟩=> ?_⟩;by_cases hi:i < n + k
      ·exact z vs' e1 ⟨i,h1,hi,h3⟩
      ·have:i=n + k:=by omega
       subst this;exact hp h3
     ·exact .inr ⟨o',vs',⟨i,h1,by omega,h3⟩,e1,by rw [Aj hp];exact e2⟩
   | _=>exact ⟨H',I',keep λvs z=>by rw [hH] at z;cases z⟩
end
def Fb (f:D->Option D):List D->Option (List D)
 | []=>some []
 | d::r=>match f d,Fb f r with
  | some d',some r'=>some (d'::r')
  | _,_=>none
def Dn (G:DH) (n:Nat):Nat->D->Option D
 | 0,_=>none
 | k + 1,d=>if bel n d=true then some d else match d with
  | .ref i=>match G[i]? with
   | some (.lst xs)=>(Fb (Dn G n k) xs).map .fl
   | _=>none
  | .tup xs=>(Fb (Dn G n k) xs).map .tup
  | .fl xs=>(Fb (Dn G n k) xs).map .fl
  | _=>none
open Classical in
def freeze (G:DH) (r:R D):R D:=match r with
 | .ok d G'=>if G'.take G.length=G then (match Dn G' G.length 9 d with
   | some d'=>.ok d' G
   | none=>.ok d G') else .ok d G'
 | r=>r
def Df (t:DE):DE:=λS G=>freeze G (t S G)
structure CutF (b c:Wd) (n:Nat):Prop where
 k:c.K=b.K
 n:c.n=n
 m:c.m=b.m
 tup:∀p xs,b.H p=some (.tup xs)->c.H p=some (.tup xs)
 frz:∀p o u,b.H p=some (.frz o u)->c.H p=some (.frz o u)
theorem CutF.sqT (x:CutF b c n) (h:SqT b.K b.H p xs):SqT c.K c.H p xs:=by
 rcases h with (h | ⟨o,h⟩) | h
 ·exact .inl (.inl (x.tup _ _ h))
 ·exact .inl (.inr ⟨o,x.frz _ _ _ h⟩)
 ·exact .inr (by rw [x.k];exact h)
theorem CutF.fzL (x:CutF b c n) (h:FzL b.K b.H p xs):FzL c.K c.H p xs:=by
 rcases h with ⟨o,h⟩ | h
 ·exact .inl ⟨o,x.frz _ _ _ h⟩
 ·exact .inr (by rw [x.k];exact h)
mutual
theorem Rep.Ep (x:CutF b c n):∀{d:D} {v:V},Rep b d v->bel n d=true->Rep c d v
 | .non,_,h,_=>h
 | .bl _,_,h,_=>h
 | .int _,_,h,_=>h
 | .str _,_,h,_=>h
 | .ty _,_,h,_=>h
 | .tup ds,v,h,q=>by obtain ⟨p,vs,e,t,r⟩:=h;simp only [DL.bel] at q;exact ⟨p,vs,e,x.sqT t,Reps.Ep x r q⟩
 | .fl ds,v,h,q=>by obtain ⟨p,vs,e,t,r⟩:=h;simp only [DL.bel] at q;exact ⟨p,vs,e,x.fzL t,Reps.Ep x r q⟩
 | .ref i,v,h,q=>by obtain ⟨l,e⟩:=h;simp only [DL.bel] at q;have q':=of_decide_eq_true q;exact ⟨by rw [x.n];exact q',by rw [x.m];exact e⟩
theorem Reps.Ep (x:CutF b c n):∀{ds:List D} {vs:List V},Reps b ds vs->bels n ds=true->Reps c ds vs
 | [],_,h,_=>h
 | d::ds,vs,h,q=>by obtain ⟨v,r,e,h1,h2⟩:=h;simp only [DL.bels,Bool.and_eq_true] at q;exact ⟨v,r,e,Rep.Ep x h1 q.1,Reps.Ep x h2 q.2⟩
end
theorem Lx {f:D->Option D} (hf:∀d d' v,f d=some d'->Rep b d v->Rep c d' v):∀{ds ds':List D} {vs:List V},Fb f ds=some ds'->Reps b ds vs->Reps c ds' vs
 | [],ds',vs,e,h=>by cases e;exact h
 | d::ds,ds',vs,e,h=>by
  obtain ⟨v,r,rfl,h1,h2⟩:=h;unfold Fb at e;split at e
  ·rename_i d' r' e1 e2;cases e;exact ⟨v,r,rfl,hf _ _ _ e1 h1,Lx hf e2 h2⟩
  ·cases e
theorem Xj (s:Sim b G') (x:CutF b c n) (hz:∀i,n<=i->i < b.n->∀vs,b.H (b.m i)=some (.lst vs)->∃o,c.H (b.m i)=some (.frz o (.lst vs))):∀(k:Nat) (d d':D) (v:V),Dn G' n k d=some d'->Rep b d v->Rep c d' v
 | 0,d,d',v,e,h=>by cases e
 | k + 1,d,d',v,e,h=>by
  have ih:=Xj s x hz k;unfold Dn at e;split at e
  ·rename_i hb;cases e;exact h.Ep x hb
  ·rename_i hb;cases d with
   | ref i=>
    dsimp only at e;split at e
    ·rename_i xs hx;rw [Option.map_eq_some_iff] at e;obtain ⟨ys,e1,rfl⟩:=e;obtain ⟨vs,e2,r2⟩:=s.obj i _ hx;obtain ⟨il,rfl⟩:=h;have hi:n<=i:=by simp only [DL.bel,decide_eq_true_eq] at hb;omega
     obtain ⟨o,e3⟩:=hz i hi il vs e2;exact ⟨_,vs,rfl,.inl ⟨o,e3⟩,Lx ih e1 r2⟩
    ·cases e
   | tup xs=>
    dsimp only at e;rw [Option.map_eq_some_iff] at e;obtain ⟨ys,e1,rfl⟩:=e;obtain ⟨p,vs,rfl,t,r⟩:=h;exact ⟨p,vs,rfl,x.sqT t,Lx ih e1 r⟩
   | fl xs=>
    dsimp only at e;rw [Option.map_eq_some_iff] at e;obtain ⟨ys,e1,rfl⟩:=e;obtain ⟨p,vs,rfl,t,r⟩:=h;exact ⟨p,vs,rfl,x.fzL t,Lx ih e1 r⟩
   | _=>cases e
theorem ZBn {pins:List (Addr×Obj)} {sh:Shared} (s:Sim a G) (hG:G'.take G.length=G) (x:Ext a b) (sb:Sim b G') (I:Inv X pins σ b.H sh):
  ∃c:Wd,Inv X pins σ c.H sh/\Ext a c/\Sim c G/\CutF b c a.n/\∀(k:Nat) (d d':D) (v:V),Dn G' G.length k d=some d'->Rep b d v->Rep c d' v:=by
 have hlen:∀i o,G[i]? =some o->G'[i]? =some o:=λi o e=>by have hi:i < G.length:=(List.getElem?_eq_some_iff.mp e).1;rw [<-hG,List.getElem?_take_of_lt hi] at e;exact e
 obtain ⟨H',I',F⟩:=Vh I b.m a.n (b.n - a.n);have hbn:a.n + (b.n - a.n)=b.n:=by have:=x.n;omega
 rw [hbn] at F;have ct:∀p (u:HO),(∀vs,u≠ .lst vs)->b.H p=some u->H' p=some u:=λp u nu e=>by
  rcases F p with ⟨e1,_⟩ | ⟨o,vs,_,e1,_⟩
  ·exact e1.trans e
  ·rw [e] at e1;exact absurd (Option.some.inj e1) (nu vs)
 have tabs:∀p,TabOk b.H p->TabOk H' p:=λp t=>t.mono (λp ps e=>ct p _ (by intro _ z;cases z) e) λp o u e=>ct p _ (by intro _ z;cases z) e
 have cc:CutF b ⟨b.K,a.n,b.m,H'⟩ a.n:=⟨rfl,rfl,rfl,λp xs e=>ct p _ (by intro _ z;cases z) e,λp o u e=>ct p _ (by intro _ z;cases z) e⟩;have old:∀i,i < a.n->H' (b.m i)=b.H (b.m i):=λi hi=>by
  rcases F (b.m i) with ⟨e1,_⟩ | ⟨o,vs,⟨j,h1,h2,h3⟩,e1,e2⟩
  ·exact e1
  ·have:=sb.inj i j (Nat.lt_of_lt_of_le hi x.n) h2 h3;omega
 refine ⟨⟨b.K,a.n,b.m,H'⟩,I',⟨x.k,Nat.le_refl _,x.m,λp xs e=>cc.tup p xs (x.tup p xs e),λp o u e=>cc.frz p o u (x.frz p o u e),λp t=>tabs p (x.tab p t)⟩,⟨s.len,λi j hi hj=>sb.inj i j (Nat.lt_of_lt_of_le hi x.n) (Nat.lt_of_lt_of_le hj x.n),λi o e=> ?_,λi hi=> ?_⟩,cc,λk d d' v hd rb=> ?_⟩
 ·show ORep ⟨b.K,a.n,b.m,H'⟩ o (H' (b.m i));rw [old i (s.lt e)];have q:=sb.obj i o (hlen i o e);have lb:=(s.obj i o e).Gz;cases o with
  | lst ds=>obtain ⟨vs,e1,r1⟩:=q;exact ⟨vs,e1,r1.Ep cc lb⟩
  | dct kvs=>obtain ⟨us,e1,k1,r1⟩:=q;exact ⟨us,e1,k1,r1.Ep cc lb⟩
  | ins c fs=>obtain ⟨C,dx,us,n1,e1,k1,r1⟩:=q;exact ⟨C,dx,us,n1,e1,k1,r1.Ep cc lb⟩
  | tab C m=>obtain ⟨c1,P1,e1,t1⟩:=q;exact ⟨c1,P1,e1,tabs _ t1⟩
  | gone=>trivial
 ·show H' (b.m i)≠none;rw [old i hi];exact sb.tr i (Nat.lt_of_lt_of_le hi x.n)
 ·rw [s.len] at hd;refine Xj sb cc (λi h1 h2 vs e=> ?_) k d d' v hd rb;rcases F (b.m i) with ⟨e1,z⟩ | ⟨o,vs',_,e1,e2⟩
  ·exact absurd ⟨i,h1,h2,rfl⟩ (z vs e)
  ·rw [e] at e1;cases e1;exact ⟨o,e2⟩
theorem ZBb (s:Sim a G) (h:out E a (freeze G r) Q):
  out E a r λv H=>∀(pins:List (Addr×Obj)) (σ:St) (sh:Shared),Inv X pins σ H sh->∃H',Inv X pins σ H' sh/\Q v H':=by
 cases r with
 | err e G'=>exact h
 | bad=>exact h
 | ok d G'=>
  intro b v x sb rb pins σ sh I;unfold freeze at h;dsimp only at h;split at h
  ·rename_i hG;split at h
   ·rename_i d' hd;obtain ⟨c,Ic,xc,sc,cc,hr⟩:=ZBn s hG x sb I;exact ⟨c.H,Ic,h c v xc sc (hr _ _ _ _ hd rb)⟩
   ·exact ⟨_,I,h b v x sb rb⟩
  ·exact ⟨_,I,h b v x sb rb⟩
theorem Dz (ha:QE X E e t):QE X E e (Df t):=λpins s σ H Q I h=>by
 obtain ⟨a,S,G,hk,rfl,sm,r,h⟩:=h;refine thn (ha pins s σ a.H _ I ⟨a,S,G,hk,rfl,sm,r,ZBb (X:=X) sm h⟩) λu s' ⟨v,H',I',rv,q⟩=> ?_
 obtain ⟨H2,I2,q2⟩:=q pins σ s' I';exact ⟨v,H2,I2,rv,q2⟩
end
section
variable {S:DSt} {G:DH}
@[simp] theorem Rx:dV i S G=(match S[i]? with | some (some d)=>.ok d G | _=>.bad):=id rfl
@[simp] theorem ev_C:dC d S G=.ok d G:=id rfl
@[simp] theorem ev_Op {a b:DE}:dOp f a b S G=(a S G).bind λx G1=>(b S G1).bind λy G2=>f x y G2:=id rfl
@[simp] theorem ev_Nil:Ae S G=.ok [] G:=id rfl
@[simp] theorem ZE5 {a:DE} {r:DA}:Ac a r S G=(a S G).bind λx G1=>(r S G1).bind λxs G2=>.ok (x::xs) G2:=id rfl
@[simp] theorem ev_Fn {f:List D->DH->R D} {t:DA}:dFn f t S G=(t S G).bind f:=id rfl
@[simp] theorem ZFC:Ip t S G=tidy G (t S G):=id rfl
@[simp] theorem ev_Frz:Df t S G=freeze G (t S G):=id rfl
@[simp] theorem ev_asB {k:Bool}:asB (.bl k) G=.ok k G:=id rfl
@[simp] theorem ev_Tst:Ax t S G=(t S G).bind asB:=id rfl
@[simp] theorem ev_Or {t u:DB}:dOr t u S G=(t S G).bind λk G1=>if k=true then .ok true G1 else u S G1:=id rfl
@[simp] theorem ev_Not {t:DB}:Bu t S G=(t S G).bind λk G1=>.ok (!k) G1:=id rfl
@[simp] theorem ZFJ {u:DE}:Tp t u S G=(t S G).bind λx G1=>(asB x G1).bind λk G2=>if k=true then u S G2 else .ok (.bl false) G2:=id rfl
@[simp] theorem ev_OrV {u:DE}:Rm t u S G=(t S G).bind λx G1=>(asB x G1).bind λk G2=>if k=true then .ok (.bl true) G2 else u S G2:=id rfl
@[simp] theorem ZEs:M7 t S G=(t S G).bind λx G1=>(asB x G1).bind λk G2=>.ok (.bl (!k)) G2:=id rfl
@[simp] theorem ZEt {g:D->D->DH->R D} {a b c:DE}:Px f g a b c S G=(a S G).bind λx G1=>(b S G1).bind λy G2=>(f x y G2).bind λz G3=>(asB z G3).bind λk G4=>
 if k=true then (c S G4).bind λw G5=>g y w G5 else .ok (.bl false) G4:=id rfl
@[simp] theorem ev_sNx:sNx S G=.nx S G:=id rfl
def SR.then (r:SR) (u:DS):SR:=match r with
 | .nx S1 G1=>u S1 G1
 | r=>r
@[simp] theorem ZFH {t:DS}:Ak t u S G=(t S G).then u:=id rfl
@[simp] theorem ZFL:(SR.nx S G).then u=u S G:=id rfl
@[simp] theorem ZE1:(SR.rt d G).then u=.rt d G:=id rfl
@[simp] theorem ev_sEx:sEx t S G=(t S G).toS λ_ G1=>.nx S G1:=id rfl
@[simp] theorem ev_sRt:sRt t S G=(t S G).toS λd G1=>.rt d G1:=id rfl
@[simp] theorem ev_sIf {c:DB} {t:DS}:sIf c t u S G=(c S G).toS λk G1=>if k=true then t S G1 else u S G1:=id rfl
@[simp] theorem ev_sAs:sAs t g S G=(t S G).toS λd G1=>(g d S G1).toS λS2 G2=>.nx S2 G2:=id rfl
@[simp] theorem ZEw {it:DI} {b:DS}:Ed it g b S G=(it S G).toS λJ G1=>(match J with
 | .pure xs=>Bs g b xs S G1
 | .mt i=>match G1[i]? with
  | some (.lst xs)=>forM i g b xs.length 0 S G1
  | _=>.bad
 | .fn n f=>G8 f g b n 0 S G1):=id rfl
@[simp] theorem ZEn:Dv t S G=(t S G).bind Ea:=id rfl
@[simp] theorem ZFB {f:List D->DH->R ItD} {t:DA}:Jg f t S G=(t S G).bind f:=id rfl
@[simp] theorem El:gV i d S G=.ok (S.set i (some d)) G:=id rfl
@[simp] theorem Yn:Bv [] S G=.ok S G:=id rfl
@[simp] theorem Xy {t:DG} {u:DGs} {r:List D}:Ar t u (d::r) S G=(t d S G).bind λS1 G1=>u r S1 G1:=id rfl
@[simp] theorem Vs {t:DGs} :Bl n t (.tup ds) S G=if ds.length=n then t ds S G else .bad:=id rfl
@[simp] theorem ev_MtL {f:D->List D->DH->R D} {o:DE} {t:DA}:Hk f o t S G=(o S G).bind λx G1=>if isL x G1=true then (t S G1).bind λxs G2=>f x xs G2 else .bad:=id rfl
@[simp] theorem ZEz {it:DI} {caps:List Nat} {c:DB} :Gs it nt caps g c te S G=(it S G).bind λJ G1=>(match J with
 | .pure xs=>Cq g c te (Ao nt caps S) xs G1
 | .mt i=>match G1[i]? with
  | some (.lst xs)=>Dy i g c te (Ao nt caps S) xs.length 0 G1
  | _=>.bad
 | .fn n f=>Du f g c te (Ao nt caps S) n 0 G1).bind Aq:=id rfl
@[simp] theorem Mr:Dt S G=.ok true G:=id rfl
@[simp] theorem Gb {k:DSt->DH->SR}:aft (.nx S G) k=k S G:=id rfl
theorem Gx {b:DS}:Bs g b [] S G=.nx S G:=id rfl
theorem Gh {b:DS} {x:D} {xs:List D}:Bs g b (x::xs) S G=(g x S G).toS λS1 G1=>aft (b S1 G1) (Bs g b xs):=id rfl
theorem Js {c:DB} {x:D} {xs:List D}:Cq g c te S (x::xs) G=(g x S G).bind λS1 G1=>(c S1 G1).bind λk G2=>
   if k=true then (te S1 G2).bind λd G3=>(Cq g c te S xs G3).bind λds G4=>.ok (d::ds) G4 else Cq g c te S xs G2:=id rfl
def SR.ret (r:SR):R D:=match r with
 | .nx _ G'=>.ok .non G'
 | .rt d G'=>.ok d G'
 | .err x G'=>.err x G'
 | _=>.bad
@[simp] theorem ret_rt:(SR.rt d G).ret=.ok d G:=id rfl
theorem Bh {np nl:Nat} {b:DS} :Bd np nl b ds G=if ds.length=np then tidy G (b (ds.map some++List.replicate nl none) G).ret else .bad:=id rfl
end
section
variable {n:Nat} {G:DH}
@[simp] theorem bel_bl {b:Bool}:bel n (.bl b)=true:=by simp [DL.bel]
@[simp] theorem ZA6 {b:Int}:bel n (.int b)=true:=by simp [DL.bel]
@[simp] theorem ZB4 {b:Str}:bel n (.str b)=true:=by simp [DL.bel]
@[simp] theorem ZFE {b:List D}:bel n (.tup b)=bels n b:=by simp [DL.bel]
@[simp] theorem ZEv {b:Nat}:bel n (.ref b)=decide (b < n):=by simp [DL.bel]
@[simp] theorem ZE6:bels n []=true:=by simp [DL.bels]
@[simp] theorem ZCx:bels n (d::ds)=(bel n d && bels n ds):=by simp [DL.bels]
theorem ZDI:bels n ds=true↔∀d∈ds,bel n d=true:=by
 induction ds with
 | nil=>simp
 | cons d ds ih=>simp [ih]
theorem Ga {f:α->D} {xs:List α} (h:∀x∈xs,bel n (f x)=true):bels n (xs.map f)=true:=by rw [ZDI];intro d hd;obtain ⟨x,hx,rfl⟩:=List.mem_map.mp hd;exact h x hx
@[simp] theorem Xb {xs:List Int}:bels n (xs.map D.int)=true:=Ga λ_ _=>ZA6
@[simp] theorem Kr {xs:List Str}:bels n (xs.map D.str)=true:=Ga λ_ _=>ZB4
theorem Bf (h:bel G.length d=true):tidy G (.ok d G)=.ok d G:=by unfold tidy;simp [h]
theorem Vp (h:bel G.length d=true):tidy G (.ok d (G++L))=.ok d G:=by unfold tidy;simp [h]
theorem ZCY (L:DH) (hk:L[k]? =some (.lst ds)) (h:bels G.length ds=true):tidy G (.ok (.ref (G.length + k)) (G++L))=.ok (.ref G.length) (G++ [.lst ds]):=by
 unfold tidy;have e:(G++L)[G.length + k]? =some (.lst ds):=by rw [List.getElem?_append_right (by omega)];simpa using hk
 simp [e,Gz,h]
theorem Mm (h:bels G.length ds=true):tidy G (.ok (.ref G.length) (G++ .lst ds::L))=.ok (.ref G.length) (G++ [.lst ds]):=ZCY (.lst ds::L) (k:=0) rfl h
theorem ZES (h:bel G.length d=true):freeze G (.ok d G)=.ok d G:=by unfold freeze;simp [h,Dn]
theorem Ve:∀{ds:List D},bels n ds=true->Fb (Dn G' n (k + 1)) ds=some ds
 | [],_=>rfl
 | d::ds,h=>by simp only [ZCx,Bool.and_eq_true] at h;unfold Fb;rw [Ve h.2];simp [Dn,h.1]
theorem ZDh (L:DH) (hk:L[k]? =some (.lst ds)) (h:bels G.length ds=true):freeze G (.ok (.ref (G.length + k)) (G++L))=.ok (.fl ds) G:=by
 unfold freeze;have e:(G++L)[G.length + k]? =some (.lst ds):=by rw [List.getElem?_append_right (by omega)];simpa using hk
 have m:Dn (G++L) G.length 9 (.ref (G.length + k))=some (.fl ds):=by unfold Dn;simp [e,Ve h]
 simp [m]
theorem Ej (h:bels G.length ds=true):freeze G (.ok (.ref G.length) (G++ .lst ds::L))=.ok (.fl ds) G:=ZDh (.lst ds::L) (k:=0) rfl h
theorem ZAc (L:DH) (k:Nat):(G++L)[G.length + k]? =L[k]? :=by rw [List.getElem?_append_right (by omega)];simp
theorem K8 (L:DH):(G++L)[G.length]? =L[0]? :=ZAc L 0
theorem Zx (L:DH) (k:Nat) (o:DO):(G++L).set (G.length + k) o=G++L.set k o:=by rw [List.set_append_right _ _ (by omega)];simp
theorem R3 (L:DH) (o:DO):(G++L).set G.length o=G++L.set 0 o:=Zx L 0 o
theorem T7 {lo:Int}:Dk lo 0= []:=id rfl
theorem Tw {lo:Int} :Dk lo (n + 1)=.int lo::Dk (lo + 1) n:=by
 unfold Dk;rw [List.range_succ_eq_map,List.map_cons,List.map_map]
 congr 1
 ·simp
 ·apply List.map_congr_left;intro k _;simp only [Function.comp]
  congr 1
  omega
end
section
variable {G:DH} {i j:Int} {x y:Str} {k l:Bool}
@[simp] theorem ev_add:Bb (.int i) (.int j) G=.ok (.int (i + j)) G:=id rfl
@[simp] theorem Wj:Bb (.str x) (.str y) G=if x.length + y.length<=1000000 then .ok (.str (x++y)) G else .bad:=id rfl
@[simp] theorem ev_sub:Rn (.int i) (.int j) G=.ok (.int (i - j)) G:=id rfl
theorem log2_small (h:n < 10 ^ 100):n.log2 < 9000:=by
 by_cases hn:n=0
 ·subst hn;decide
 ·rw [Nat.log2_lt hn];exact Nat.lt_trans h (by decide)
@[simp] theorem ZEm [NeZero n] (h:n < 10 ^ 100):G6 (.int i) (.int (no_index (OfNat.ofNat n))) G=.ok (.int (i / OfNat.ofNat n)) G:=
 if_pos ⟨Int.ofNat_lt.mpr (Nat.pos_of_ne_zero (NeZero.ne n)),log2_small h⟩
@[simp] theorem ev_mod:Ck (.int i) (.int j) G=if 0 < j then .ok (.int (i % j)) G else .bad:=id rfl
@[simp] theorem ev_pow:Ew (.int i) (.int j) G=if 0<=j/\j<=1000000/\i.natAbs < 18446744073709551616 then .ok (.int (i ^ j.toNat)) G else .bad:=id rfl
@[simp] theorem ev_lt:O9 (.int i) (.int j) G=.ok (.bl (decide (i < j))) G:=id rfl
@[simp] theorem ev_le:O8 (.int i) (.int j) G=.ok (.bl (decide (i<=j))) G:=id rfl
@[simp] theorem ev_gt:Qn (.int i) (.int j) G=.ok (.bl (decide (j < i))) G:=id rfl
@[simp] theorem ev_ge:Qs (.int i) (.int j) G=.ok (.bl (decide (j<=i))) G:=id rfl
@[simp] theorem ev_eq:Cp (.int i) (.int j) G=.ok (.bl (decide (i=j))) G:=id rfl
@[simp] theorem ev_ne:Eu (.int i) (.int j) G=.ok (.bl (!decide (i=j))) G:=id rfl
@[simp] theorem ev_eqS:Cp (.str x) (.str y) G=.ok (.bl (decide (x=y))) G:=id rfl
@[simp] theorem ev_neS:Eu (.str x) (.str y) G=.ok (.bl (!decide (x=y))) G:=id rfl
@[simp] theorem ev_max:Mw [.int i,.int j] G=.ok (.int (max i j)) G:=by
 show R.ok (D.int (if j > i then j else i)) G=_
 congr 2
 split <;> omega
@[simp] theorem ZEy:Mu [.bl k] G=.ok (.int (if k then 1 else 0)) G:=id rfl
@[simp] theorem ZFI:Bw (.fl ds) G=some ds:=id rfl
@[simp] theorem Zq:Bw (.ref n) G=(match G[n]? with | some (.lst xs)=>some xs | _=>none):=id rfl
@[simp] theorem ZE9:Dg [.str x] G=if x.length<=1000000 then .ok (.int x.length) G else .bad:=id rfl
@[simp] theorem ZEq:Dg [.tup ds] G=.ok (.int ds.length) G:=id rfl
@[simp] theorem ZEu:Dg [.fl ds] G=.ok (.int ds.length) G:=id rfl
@[simp] theorem ev_ixT:Bk (.tup ds) (.int i) G=(match atI ds i with | some v=>.ok v G | none=>.bad):=id rfl
@[simp] theorem ev_ixF:Bk (.fl ds) (.int i) G=(match atI ds i with | some v=>.ok v G | none=>.bad):=id rfl
theorem Zn {k:Nat} (h:k < n):ixN n (k:Int)=some k:=by unfold ixN;rw [if_pos (by omega),if_pos (by omega)];simp
theorem ZBM {xs:List α} {k:Nat} {d:α} (h:xs[k]? =some d):atI xs (k:Int)=some d:=by unfold atI;rw [Zn (List.getElem?_eq_some_iff.mp h).1];exact h
theorem J1 {xs:List α} {j:Int} {k:Nat} {d:α} (e:j=k) (h:xs[k]? =some d):atI xs j=some d:=by subst e;exact ZBM h
@[simp] theorem atI_0 {a:α} {xs:List α}:atI (a::xs) 0=some a:=J1 (k:=0) rfl rfl
@[simp] theorem atI_1 {a b:α} {xs:List α}:atI (a::b::xs) 1=some b:=J1 (k:=1) rfl rfl
@[simp] theorem atI_2 {a b c:α} {xs:List α}:atI (a::b::c::xs) 2=some c:=J1 (k:=2) rfl rfl
@[simp] theorem ZEr:Ez ds G=if ds.length<=1000000 then .ok (.tup ds) G else .bad:=id rfl
@[simp] theorem ZFK:Aq ds G=if ds.length<=1000000 then .ok (.ref G.length) (G++ [.lst ds]) else .bad:=id rfl
@[simp] theorem ZEx:En [.fl ds] G=.ok (.tup ds) G:=id rfl
@[simp] theorem ZFN:En [.ref n] G=(match G[n]? with | some (.lst xs)=>.ok (.tup xs) G | _=>.bad):=by
 unfold En;simp only [Zq];cases G[n]? with
 | none=>rfl
 | some o=>cases o <;> rfl
@[simp] theorem ev_itT:Ea (.tup ds) G=.ok (.pure ds) G:=id rfl
@[simp] theorem ev_itF:Ea (.fl ds) G=.ok (.pure ds) G:=id rfl
@[simp] theorem ZFD:rng1 [.int j] G=if inR j then .ok (.pure (Dk 0 j.toNat)) G else .bad:=id rfl
theorem Uc (h0: -1000000000<=i) (h:i<=1000000000):inR i:=⟨by omega,by omega⟩
@[simp] theorem ZFM:isL (.ref n) G=(match G[n]? with | some (.lst _)=>true | _=>false):=id rfl
@[simp] theorem ev_app:Gr (.ref n) [d] G=(match G[n]? with | some (.lst xs)=>if xs.length < 1000000 then .ok .non (G.set n (.lst (xs++ [d]))) else .bad | _=>.bad):=id rfl
@[simp] theorem U7 {ks:List Bool}:Ir [.fl (ks.map D.bl)] G=.ok (.bl (ks.all id)) G:=by simp [Ir]
@[simp] theorem ZEo:Bq [d,.ty "int"] G=(match tyD G d with | some .int=>.ok (.bl true) G | some .bl=>.ok (.bl true) G | some _=>.ok (.bl false) G | none=>.bad):=by
 unfold Bq;dsimp only;cases tyD G d with
 | none=>rfl
 | some t=>cases t <;> rfl
@[simp] theorem ZE7:Bq [d,.ty "bool"] G=(match tyD G d with | some .bl=>.ok (.bl true) G | some _=>.ok (.bl false) G | none=>.bad):=by
 unfold Bq;dsimp only;cases tyD G d with
 | none=>rfl
 | some t=>cases t <;> rfl
@[simp] theorem ZFF:Bq [d,.ty "tuple"] G=(match tyD G d with | some .tup=>.ok (.bl true) G | some _=>.ok (.bl false) G | none=>.bad):=by
 unfold Bq;dsimp only;cases tyD G d with
 | none=>rfl
 | some t=>cases t <;> rfl
@[simp] theorem ZFA:Bq [d,.ty "str"] G=(match tyD G d with | some .str=>.ok (.bl true) G | some _=>.ok (.bl false) G | none=>.bad):=by
 unfold Bq;dsimp only;cases tyD G d with
 | none=>rfl
 | some t=>cases t <;> rfl
end
section
variable {c:Prop} [Decidable c]
@[simp] theorem ite_ok {a b:α} :(if c then R.ok a G else R.ok b G)=R.ok (if c then a else b) G:=by split <;> rfl
theorem ZBL {S':DSt} :(if c then SR.nx S G else SR.nx S' G')=SR.nx (if c then S else S') (if c then G else G'):=by split <;> rfl
theorem ZC2 {a b:α} {l m:List α}:(if c then a::l else b::m)=(if c then a else b)::(if c then l else m):=by split <;> rfl
theorem ZDE {a b:α}:(if c then some a else some b)=some (if c then a else b):=by split <;> rfl
theorem ite_int {a b:Int}:(if c then D.int a else D.int b)=D.int (if c then a else b):=by split <;> rfl
end
def Jl (kvs:List (Key×D)) (k:Key):Option D:=(kvs.find? λkv=>decide (kv.1=k)).map (·.2)
def putD (kvs:List (Key×D)) (k:Key) (v:D):List (Key×D):=
 if (kvs.any λkv=>decide (kv.1=k))=true then kvs.map (λkv=>if kv.1=k then (kv.1,v) else kv) else kvs++ [(k,v)]
def We (d:D) (G:DH):Option (List (Key×D)):=match d with
 | .ref i=>match G[i]? with
  | some (.dct kvs)=>some kvs
  | _=>none
 | _=>none
theorem RepKV.nil:RepKV a [] []:=⟨rfl,rfl⟩
theorem RepKV.cons {k:Key} {us:List (Key×V)} (h:RepKV a ((k,d)::kvs) us):∃v r,us=(k,v)::r/\Rep a d v/\RepKV a kvs r:=by
 obtain ⟨h1,v,r,h2,h3,h4⟩:=h;cases us with
 | nil=>cases h2
 | cons p us=>
  obtain ⟨q,w⟩:=p;simp only [List.map_cons,List.cons.injEq] at h1 h2;obtain ⟨rfl,h1⟩:=h1;obtain ⟨rfl,rfl⟩:=h2;exact ⟨w,us,rfl,h3,h1,h4⟩
theorem RepKV.mk {k:Key} {us:List (Key×V)} (h:Rep a d v) (r:RepKV a kvs us):RepKV a ((k,d)::kvs) ((k,v)::us):=
 ⟨by simp only [List.map_cons,r.1],Reps.cons h r.2⟩
theorem RepKV.val {k:Key}:∀{kvs:List (Key×D)} {us:List (Key×V)},RepKV a kvs us->(Jl kvs k=none/\Dh us k=none)∨∃d v,Jl kvs k=some d/\Dh us k=some v/\Rep a d v
 | [],us,h=>by obtain ⟨h1,_⟩:=h;have:us= []:=List.map_eq_nil_iff.mp h1.symm;subst this;exact .inl ⟨rfl,rfl⟩
 | (q,d)::kvs,us,h=>by
  obtain ⟨v,r,rfl,h1,h2⟩:=RepKV.cons h;by_cases e:q=k
  ·exact .inr ⟨d,v,by simp [Jl,List.find?_cons,e],by simp [Dh,List.find?_cons,e],h1⟩
  ·rcases RepKV.val (k:=k) h2 with ⟨e1,e2⟩ | ⟨d',v',e1,e2,e3⟩
   ·exact .inl ⟨by simpa [Jl,List.find?_cons,e] using e1,by simpa [Dh,List.find?_cons,e] using e2⟩
   ·exact .inr ⟨d',v',by simpa [Jl,List.find?_cons,e] using e1,by simpa [Dh,List.find?_cons,e] using e2,e3⟩
theorem RepKV.any {k:Key}:∀{kvs:List (Key×D)} {us:List (Key×V)},RepKV a kvs us->(kvs.any λkv=>decide (kv.1=k))=us.any λkv=>decide (kv.1=k)
 | [],us,h=>by
  obtain ⟨h1,_⟩:=h;have:us= []:=List.map_eq_nil_iff.mp h1.symm;subst this
  rfl
 | (q,d)::kvs,us,h=>by obtain ⟨v,r,rfl,h1,h2⟩:=RepKV.cons h;simp only [List.any_cons,RepKV.any (k:=k) h2]
theorem RepKV.repl {k:Key} (hv:Rep a d v):∀{kvs:List (Key×D)} {us:List (Key×V)},RepKV a kvs us->RepKV a (kvs.map λkv=>if kv.1=k then (kv.1,d) else kv) (us.map λkv=>if kv.1=k then (kv.1,v) else kv)
 | [],us,h=>by obtain ⟨h1,_⟩:=h;have:us= []:=List.map_eq_nil_iff.mp h1.symm;subst this;exact RepKV.nil
 | (q,e)::kvs,us,h=>by
  obtain ⟨w,r,rfl,h1,h2⟩:=RepKV.cons h;simp only [List.map_cons];by_cases hq:q=k
  ·rw [if_pos hq,if_pos hq];exact RepKV.mk hv (RepKV.repl hv h2)
  ·rw [if_neg hq,if_neg hq];exact RepKV.mk h1 (RepKV.repl hv h2)
theorem RepKV.put {k:Key} {us:List (Key×V)} (h:RepKV a kvs us) (hv:Rep a d v):RepKV a (putD kvs k d) (putK us k v):=by
 unfold putD putK;rw [RepKV.any (k:=k) h];split
 ·exact RepKV.repl hv h
 ·exact ⟨by simp [h.1],by have:=Reps.append h.2 (Reps.cons hv (Reps.nil));simpa using this⟩
theorem RepKV.len {us:List (Key×V)} (h:RepKV a kvs us):kvs.length=us.length:=by have:=congrArg List.length h.1;simpa using this
theorem Sim.dct {x:V} (s:Sim a G) (r:Rep a d x) (h:We d G=some kvs):∃i us,d=.ref i/\i < a.n/\x=.ref (a.m i)/\G[i]? =some (.dct kvs)/\a.H (a.m i)=some (.dK us)/\RepKV a kvs us:=by
 cases d with
 | ref i=>
  unfold We at h;dsimp only at h;split at h
  ·rename_i ks hi;cases h;obtain ⟨us,e1,r1⟩:=s.obj i _ hi;exact ⟨i,us,rfl,r.1,r.2,hi,e1,r1⟩
  ·cases h
 | _=>cases h
section
variable {X:Cx} {E:XK}
end
section
variable {S:DSt} {G:DH} {n:Nat} {kvs:List (Key×D)}
end
section
def okD:Nat->D->Bool
 | 0,_=>false
 | _ + 1,.non=>true
 | _ + 1,.int _=>true
 | _ + 1,.str _=>true
 | n + 1,.tup ds=>ds.all (okD n)
 | n + 1,.fl ds=>ds.all (okD n)
 | _ + 1,_=>false
theorem Yk:∀{n m:Nat} {d:D},okD n d=true->n<=m->okD m d=true
 | 0,_,_,h,_=>by cases h
 | n + 1,0,_,_,h=>by omega
 | n + 1,m + 1,d,h,hm=>by
  cases d with
  | tup ds=>
   simp only [okD,List.all_eq_true] at h ⊢;exact λx hx=>Yk (h x hx) (by omega)
  | fl ds=>
   simp only [okD,List.all_eq_true] at h ⊢;exact λx hx=>Yk (h x hx) (by omega)
  | _=>first | rfl | (simp [okD] at h)
theorem Q5 {f:D->D->Option Bool} {P:D->Prop} (hf:∀x y,P x->P y->∃b,f x y=some b/\(b=true↔x=y)):∀{xs ys:List D},(∀x∈xs,P x)->(∀y∈ys,P y)->
  ∃b,eqZ f xs ys=some b/\(b=true↔xs.take ys.length=ys.take xs.length)
 | [],ys,_,_=>⟨true,by cases ys <;> rfl,by simp⟩
 | x::xs,[],_,_=>⟨true,rfl,by simp⟩
 | x::xs,y::ys,hx,hy=>by obtain ⟨b,e1,h1⟩:=hf x y (hx x (by simp)) (hy y (by simp));obtain ⟨c,e2,h2⟩:=Q5 hf (λz hz=>hx z (List.mem_cons_of_mem _ hz)) (λz hz=>hy z (List.mem_cons_of_mem _ hz));refine ⟨b && c,by simp [eqZ,e1,e2],?_⟩;simp [h1,h2]
theorem Wl {G:DH}:∀(n:Nat) (d e:D),okD n d=true->okD n e=true->∃b,eqD n G d e=some b/\(b=true↔d=e)
 | 0,d,e,h,_=>by cases h
 | n + 1,d,e,h1,h2=>by
  have ih:=Wl (G:=G) n;cases d with
  | bl _=>simp [okD] at h1
  | ty _=>simp [okD] at h1
  | ref _=>simp [okD] at h1
  | tup xs=>
   cases e with
   | bl _=>simp [okD] at h2
   | ty _=>simp [okD] at h2
   | ref _=>simp [okD] at h2
   | tup ys=>
    simp only [okD,List.all_eq_true] at h1 h2;obtain ⟨b,e1,h3⟩:=Q5 ih (λx hx=>h1 x hx) (λx hx=>h2 x hx);refine ⟨b && xs.length == ys.length,by simp [eqD,view,e1],?_⟩;simp only [Bool.and_eq_true,h3,beq_iff_eq,D.tup.injEq];constructor
    ·rintro ⟨e,hl⟩;rw [<-hl,List.take_length] at e;rw [e,hl,List.take_length]
    ·rintro rfl;exact ⟨rfl,rfl⟩
   | _=>exact ⟨false,by simp [eqD,view],by simp⟩
  | fl xs=>
   cases e with
   | bl _=>simp [okD] at h2
   | ty _=>simp [okD] at h2
   | ref _=>simp [okD] at h2
   | fl ys=>
    simp only [okD,List.all_eq_true] at h1 h2;by_cases hl:xs.length=ys.length
    ·obtain ⟨b,e1,h3⟩:=Q5 ih (λx hx=>h1 x hx) (λx hx=>h2 x hx);refine ⟨b,by simp [eqD,view,hl,e1],?_⟩;rw [h3,<-hl,List.take_length,hl,List.take_length];simp
    ·exact ⟨false,by simp [eqD,view,hl],by simp;rintro rfl;exact hl rfl⟩
   | _=>exact ⟨false,by simp [eqD,view],by simp⟩
  | non=>cases e <;> first | (simp [okD] at h2;done) | exact ⟨_,rfl,by simp [eqV]⟩
  | int i=>cases e <;> first | (simp [okD] at h2;done) | exact ⟨_,rfl,by simp [eqV]⟩
  | str i=>cases e <;> first | (simp [okD] at h2;done) | exact ⟨_,rfl,by simp [eqV]⟩
open Classical in
theorem ZBY {e:D} (h1:okD 30 d=true) (h2:okD 30 e=true):Cp d e G=.ok (.bl (decide (d=e))) G:=by
 obtain ⟨b,e1,h⟩:=Wl (G:=G) 30 d e h1 h2;unfold Cp;rw [e1];cases b with
 | true=>simp [h.mp rfl]
 | false=>simp [show¬d=e from λz=>Bool.false_ne_true (h.mpr z)]
theorem ZAd (h1:okD 30 d=true):Cp d d G=.ok (.bl true) G:=by rw [ZBY h1 h1];simp
theorem Qt (h:∀d∈ds,okD n d=true):okD (n + 1) (.tup ds)=true:=by simpa [okD] using h
end
def cutD {α:Type} (xs:List α) (lo hi:Option Int):List α:=(xs.drop (HT.sIx xs.length 0 lo)).take (HT.sIx xs.length xs.length hi - HT.sIx xs.length 0 lo)
def Hx (z:Str) (lo hi:Option Int):Str:=⟨(cutD z.cps.toList lo hi).toArray⟩
theorem ZBj (xs:List α) (lo hi:Option Int):(cutD xs lo hi).length<=xs.length:=by unfold cutD;rw [List.length_take,List.length_drop];omega
def Fy (t:Option DE) (S:DSt) (G:DH):R (Option Int):=match t with
 | none=>.ok none G
 | some t=>(t S G).bind λd G1=>match d with
  | .int i=>.ok (some i) G1
  | _=>.bad
def Nh (d:D) (lo hi:Option Int) (G:DH):R D:=match d with
 | .str z=>if z.length<=1000000 then .ok (.str (Hx z lo hi)) G else .bad
 | .tup xs=>.ok (.tup (cutD xs lo hi)) G
 | d=>match Fd d G with
  | some xs=>.ok (.ref G.length) (G++ [.lst (cutD xs lo hi)])
  | none=>.bad
def dSl (e:DE) (lo hi:Option DE):DE:=λS G=>(e S G).bind λd G1=>(Fy lo S G1).bind λl G2=>(Fy hi S G2).bind λh G3=>Nh d l h G3
theorem J6 (n:Nat) (v:Int):((HT.sIx n n (some v):Nat):Int)=max 0 (min (if v < 0 then v + (n:Int) else v) n)/\((HT.sIx n 0 (some v):Nat):Int)=max 0 (min (if v < 0 then v + (n:Int) else v) n):=by
 unfold HT.sIx;by_cases hv:v < 0
 ·simp only [if_pos hv];omega
 ·simp only [if_neg hv];omega
theorem Z6 (xs:Array Nat) (i k:Nat):(List.range k).filterMap (λm=>xs[i + m]?)=(xs.toList.drop i).take k:=by
 induction k generalizing i with
 | zero=>simp
 | succ k ih=>
  rw [List.range_succ_eq_map,List.filterMap_cons];have e:(List.map Nat.succ (List.range k)).filterMap (λm=>xs[i + m]?)=(List.range k).filterMap (λm=>xs[i + 1 + m]?):=by
   rw [List.filterMap_map]
   congr 1
   funext m;simp only [Function.comp]
   congr 1
   omega
  rw [e,ih (i + 1)];by_cases hi:i < xs.size
  ·have h1:xs[i + 0]? =some xs[i]:=by simp [hi]
   rw [h1];have h2:xs.toList.drop i=xs[i]::xs.toList.drop (i + 1):=by rw [List.drop_eq_getElem_cons (by simpa using hi)];simp
   rw [h2];simp
  ·have h1:xs[i + 0]? =none:=by simp;omega
   rw [h1];simp only;rw [List.drop_of_length_le (by simp;omega),List.drop_of_length_le (by simp;omega)];simp
theorem Zv (x:Str) (lo hi:Option Int):Txt.slice x lo hi=Hx x lo hi:=by
 have hlen:x.length=x.cps.toList.length:=by simp [Str.length]
 have key:(Builtin.Str.strSliceIndices lo hi 1 x.length).filterMap (x.cps[·]?)=cutD x.cps.toList lo hi:=by
  have e1:∀(v:Option Int),(match v with | none=>(0:Int) | some i=>max 0 (min (if i < 0 then i + (x.length:Int) else i) x.length))=((HT.sIx x.length 0 v:Nat):Int):=λv=>by
   cases v with
   | none=>rfl
   | some i=>exact (J6 x.length i).2.symm
  have e2:∀(v:Option Int),(match v with | none=>(x.length:Int) | some i=>max 0 (min (if i < 0 then i + (x.length:Int) else i) x.length))=((HT.sIx x.length x.length v:Nat):Int):=λv=>by
   cases v with
   | none=>rfl
   | some i=>exact (J6 x.length i).1.symm
  have e3:Builtin.Str.strSliceIndices lo hi 1 x.length=sliceRange ((HT.sIx x.length 0 lo:Nat):Int) ((HT.sIx x.length x.length hi:Nat):Int) 1:=by
   rw [<-e1 lo,<-e2 hi];unfold Builtin.Str.strSliceIndices
   cases lo <;> cases hi <;> simp
  rw [e3];unfold sliceRange cutD;rw [List.filterMap_map,<-hlen];generalize HT.sIx x.length 0 lo=i;generalize HT.sIx x.length x.length hi=j;have e4:((λa=>x.cps[a]?) ∘ λ(k:Nat)=>((i:Int) + 1 * (k:Int)).toNat)=λk=>x.cps[i + k]? :=by
   funext k;simp only [Function.comp]
   congr 1
   omega
  have e5:(if (1:Int) > 0 then if (i:Int) < (j:Int) then ((j:Int) - i + 1 - 1) / 1 else 0 else if (i:Int) > (j:Int) then ((i:Int) - j - 1 - 1) / -1 else 0).toNat=j - i:=by
   rw [if_pos (by omega)];split
   ·rw [Int.ediv_one];omega
   ·omega
  rw [e4,e5];exact Z6 x.cps i (j - i)
 unfold Txt.slice Hx;split
 ·rename_i h;have h':(Builtin.Str.strSliceIndices lo hi 1 x.length).length=x.length:=by simpa using h
  have hsz:(cutD x.cps.toList lo hi).length=x.cps.toList.length∨(cutD x.cps.toList lo hi).length < x.cps.toList.length:=by have:=ZBj x.cps.toList lo hi;omega
  have hall:(cutD x.cps.toList lo hi).length=x.cps.toList.length:=by
   have e3:(Builtin.Str.strSliceIndices lo hi 1 x.length).length=HT.sIx x.length x.length hi - HT.sIx x.length 0 lo:=by
    have e1:∀(v:Option Int),(match v with | none=>(0:Int) | some i=>max 0 (min (if i < 0 then i + (x.length:Int) else i) x.length))=((HT.sIx x.length 0 v:Nat):Int):=λv=>by
     cases v with
     | none=>rfl
     | some i=>exact (J6 x.length i).2.symm
    have e2:∀(v:Option Int),(match v with | none=>(x.length:Int) | some i=>max 0 (min (if i < 0 then i + (x.length:Int) else i) x.length))=((HT.sIx x.length x.length v:Nat):Int):=λv=>by
     cases v with
     | none=>rfl
     | some i=>exact (J6 x.length i).1.symm
    have e3:Builtin.Str.strSliceIndices lo hi 1 x.length=sliceRange ((HT.sIx x.length 0 lo:Nat):Int) ((HT.sIx x.length x.length hi:Nat):Int) 1:=by
     rw [<-e1 lo,<-e2 hi];unfold Builtin.Str.strSliceIndices
     cases lo <;> cases hi <;> simp
    rw [e3];unfold sliceRange;rw [List.length_map,List.length_range];generalize HT.sIx x.length 0 lo=i;generalize HT.sIx x.length x.length hi=j;rw [if_pos (by omega)];split
    ·rw [Int.ediv_one];omega
    ·omega
   have hj:HT.sIx x.length x.length hi<=x.length:=HT.Vk _ _ (Nat.le_refl _) hi;unfold cutD;rw [List.length_take,List.length_drop,<-hlen];omega
  have hs:(cutD x.cps.toList lo hi).Sublist x.cps.toList:=(List.take_sublist _ _).trans (List.drop_sublist _ _);rw [hs.eq_of_length hall]
 ·rw [key]
section
variable {X:Cx} {E:XK}
theorem ZDo:SlR X (λx lo hi H Q=>∃z:Str,x=.str z/\z.length<=sizeLine/\Q (.str (Hx z lo hi)) H):=by
 intro pins s σ H x v vl vu lo hi sl Q I rx hs pl pu h;obtain ⟨z,rfl,hz,q⟩:=h;obtain ⟨t,rfl⟩:=rx;refine ⟨"str",_,PySem.F.slot_str_getitem.lookup,typeIs_str _ _ _,?_⟩
 have fin:∀(l u:Option (Int×Tok)),vl=partValue l->vu=partValue u->l.map (·.1)=lo->u.map (·.1)=hi->wpAny (model X.prog X.w) X.A (getItem (.str z t) (.ref sl)) (EP X pins σ Q) X.xe s:=by
  rintro l u rfl rfl rfl rfl
  refine wpAny_getItem_str_slice (l:=l) (u:=u) (st:=none) (show s.heap.IsSlice sl l u none from hs) rfl ?_
  have e:∀Q',(Txt.slice z (l.map (·.1)) (u.map (·.1))).length<=sizeLine/\(∀t' k,Q' (.str (Txt.slice z (l.map (·.1)) (u.map (·.1))) t') {s with toks:=k})->(sliceMade z t l u none).post Q' s:=λQ' hq=>post_val_or_str hq
  refine e _ ⟨Nat.le_trans (Txt.slice_le z _ _) hz,λt' k=> ?_⟩;rw [Zv];exact ⟨.str _,H,I.tok k,⟨t',rfl⟩,q⟩
 cases pl with
 | none=>cases pu with
  | none=>exact fin none none rfl rfl rfl rfl
  | int j tj=>exact fin none (some (j,tj)) rfl rfl rfl rfl
 | int i ti=>cases pu with
  | none=>exact fin (some (i,ti)) none rfl rfl rfl rfl
  | int j tj=>exact fin (some (i,ti)) (some (j,tj)) rfl rfl rfl rfl
theorem ZB3 {prog:Program} {E:Value->Shared->Prop} {t sl:Addr} {items:Array Value} {vl vu:Value} {lo hi:Option Int} {Q:Value->Shared->Prop} (ht:IsTup s.heap t items) (hs:s.heap.IsSliceOf sl vl vu .none) (pl:IsPart vl lo) (pu:IsPart vu hi)
  (hw:HT.sIx items.size 0 lo=0/\HT.sIx items.size items.size hi=items.size) (h:Q (.ref t) s):wpAny (model prog w) A (getItem (.ref t) (.ref sl)) Q E s:=by
 obtain ⟨os,hos,hcs,hds⟩:=id hs;have hTs:s.TypeIs (.ref sl) "slice":=⟨os,hos,hcs⟩;unfold getItem
 try with_reducible refine wpAny_holding ?_
 first | refine wpAny_bind (wpAny_pure ?_) | skip
 refine wpAny_bind (wpAny_sequenceKey ht.typeIs (by decide) ?_);refine wpAny_bind (wpAny_callSpecial?_slot (name:=Str.ofString "__getitem__") ht.typeIs PyProof.Rows.slot_tuple_getitem
  (wpAny_call_entry PyProof.Rows.slot_tuple_getitem ht.typeIs entry_tuple_getitem ?_ (args_tuple_getitem _ _)))
 show wpAny _ _ (Builtin.Tuple.tupleItemsOf (.ref t) >>=_) _ _ s;refine wpAny_bind (tupleItemsOf_ ht ?_);refine wpAny_bind (wpAny_typeOf hTs ?_);rw [if_pos (by decide)];refine wpAny_bind (HT.Vt hs pl pu ?_);have hyes:(((HT.sIx items.size 0 lo:Nat):Int) == 0 && (1:Int) == 1 && (HT.sIx items.size items.size hi - HT.sIx items.size 0 lo) == items.size)=true:=by rw [hw.1,hw.2];simp
 show wpAny _ _ (if (((HT.sIx items.size 0 lo:Nat):Int) == 0 && (1:Int) == 1 && (HT.sIx items.size items.size hi - HT.sIx items.size 0 lo) == items.size)=true then _ else _) _ _ s;rw [if_pos hyes];refine wpAny_bind ?_;unfold Builtin.Tuple.tupleIsExact;refine wpAny_bind (wpAny_typeOf ht.typeIs (wpAny_pure ?_));rw [if_pos (by decide)];exact wpAny_bind (wpAny_rule (wpAny_pure ⟨_,rfl,wpAny_pure h⟩))
theorem ZCn:SlR X (λx lo hi H Q=>∃a xs,x=.ref a/\SqT X.K H a xs/\(HT.sIx xs.length 0 lo=0/\HT.sIx xs.length xs.length hi=xs.length)/\Q (.ref a) H):=by
 intro pins s σ H x v vl vu lo hi sl Q I rx hs pl pu h;obtain ⟨a,xs,rfl,hx,hw,q⟩:=h;cases rx;obtain ⟨its,r,ht,hz⟩:=I.tuple hx;have hlen:its.toArray.size=xs.length:=by rw [List.size_toArray];exact r.length.symm
 exact ⟨"tuple",_,PyProof.Rows.slot_tuple_getitem.lookup,ht.typeIs,ZB3 ht hs pl pu (by rw [hlen];exact hw) ⟨.ref a,H,I,rfl,q⟩⟩
def Il (E:XK) (a:Wd) (r:R (Option Int)) (Q:Option Int->Hp->Prop):Prop:=match r with
 | .ok k G=>∀(b:Wd),Ext a b->Sim b G->Q k b.H
 | .err x G=>XOk E a x G
 | .bad=>False
def QO (X:Cx) (E:XK) (e:Option Expr) (t:Option DE):Prop:=PO X e (λσ H Q=>∃(a:Wd) (S:DSt) (G:DH),a.K=X.K/\a.H=H/\Sim a G/\RepS a S σ/\Il E a (Fy t S G) Q)
theorem _root_.L2.PO.mono {e:Option Expr} {t t':TO} (h:PO X e t) (w:∀σ H Q,t' σ H Q->t σ H Q):PO X e t':=λpins s σ H Q I q=>h pins s σ H Q I (w σ H Q q)
theorem ZEd:QO X E none none:=ZAp.mono λσ H Q h=>by obtain ⟨a,S,G,hk,rfl,s,r,h⟩:=h;exact h a (Ext.refl a) s
theorem ZBV (he:QE X E e t):QO X E (some e) (some t):=(ZAB he).mono λσ H Q h=>by
 obtain ⟨a,S,G,hk,rfl,s,r,h⟩:=h;refine ⟨a,S,G,hk,rfl,s,r,?_⟩
 have h':Il E a ((t S G).bind λd G1=>match d with | .int i=>.ok (some i) G1 | _=>.bad) Q:=h
 cases ht:t S G with
 | ok d G1=>
  rw [ht] at h';intro b v x sb rv;cases d with
  | int i=>exact ⟨i,rv,h' b x sb⟩
  | _=>exact h'.elim
 | err x G1=>rw [ht] at h';exact h'
 | bad=>rw [ht] at h';exact h'
theorem Reps.cutD (r:Reps a ds vs) (lo hi:Option Int):Reps a (DL.cutD ds lo hi) (Fq vs lo hi):=by unfold DL.cutD Fq;rw [r.length];exact (r.drop _).take _
theorem Il.imp {r:R (Option Int)} {Q Q':Option Int->Hp->Prop} (h:Il E a r Q) (w:∀v H,Q v H->Q' v H):Il E a r Q':=by
 cases r with
 | ok d G=>exact λb x s=>w _ _ (h b x s)
 | err e G=>exact h
 | bad=>exact h
theorem W0 {r:R (Option Int)} {f:Option Int->DH->R D} (h:out E a (r.bind f) Q):
  Il E a r (λk H=>∃(b:Wd) (G:DH),b.H=H/\Ext a b/\Sim b G/\r=.ok k G/\out E b (f k G) Q):=by
 cases r with
 | ok d G=>exact λb x s=>⟨b,G,rfl,x,s,rfl,out.mono x h⟩
 | err e G=>exact h
 | bad=>exact h
theorem ZBw {lo hi:Option Expr} {tl th:Option DE} {p2 pos:Pos} (he:QE X E e te) (hl:QO X E lo tl) (hu:QO X E hi th):QE X E (.Subscript e (.Slice lo hi none p2) pos) (dSl te tl th):=
 (ZAb (ZBv.or (ZC7.or (ZCn.or ZDo))) he hl hu).mono λσ H Q h=>by
 obtain ⟨a,S,G,hk,rfl,s,r,h⟩:=h;refine ⟨a,S,G,hk,rfl,s,r,(Cm h).imp ?_⟩;rintro v _ ⟨b,d,G1,rfl,x,s1,q,_,h1⟩;refine ⟨b,S,G1,x.k.trans hk,rfl,s1,r.mono x,(W0 h1).imp ?_⟩;rintro l _ ⟨c,G2,rfl,y,s2,_,h2⟩;refine ⟨c,S,G2,y.k.trans (x.k.trans hk),rfl,s2,(r.mono x).mono y,(W0 h2).imp ?_⟩;rintro u _ ⟨c3,G3,rfl,y3,s3,_,h3⟩;have hk3:=y3.k.trans (y.k.trans (x.k.trans hk));have q3:=(q.mono y).mono y3
 have lst:out E c3 (match Fd d G3 with | some xs=>.ok (.ref G3.length) (G3++ [.lst (cutD xs l u)]) | none=>.bad) Q->rSlL X.K v l u c3.H Q:=λh3=>by
  split at h3
  ·rename_i xs hx;obtain ⟨p,vs,e1,q1,r1⟩:=Rj s3 q3 hx;exact ⟨p,vs,e1,by rw [<-hk3];exact q1,λp hp=>O1 s3 (Reps.cutD r1 l u) h3 p hp⟩
  ·exact h3.elim
 cases d with
 | str z=>
  have h4:out E c3 (if z.length<=1000000 then .ok (.str (Hx z l u)) G3 else .bad) Q:=h3;split at h4
  ·rename_i hl
   cases (show v=V.str z from q3)
   exact .inr (.inr (.inr ⟨z,rfl,Nat.le_trans hl size6,h4 c3 _ (Ext.refl _) s3 rfl⟩))
  ·exact h4.elim
 | tup xs=>
  have h4:out E c3 (.ok (.tup (cutD xs l u)) G3) Q:=h3;obtain ⟨p,vs,e1,q1,r1⟩:=q3;by_cases hw:HT.sIx vs.length 0 l=0/\HT.sIx vs.length vs.length u=vs.length
  ·refine .inr (.inr (.inl ⟨p,vs,e1,by rw [<-hk3];exact q1,hw,h4 c3 _ (Ext.refl _) s3 ⟨p,vs,rfl,q1,?_⟩⟩));have:cutD xs l u=xs:=by unfold cutD;rw [r1.length,hw.1,hw.2,<-r1.length];simp
   rw [this];exact r1
  ·exact .inr (.inl ⟨p,vs,e1,by rw [<-hk3];exact q1,hw,λp hp=>Lp s3 (Reps.cutD r1 l u) h4 p hp⟩)
 | fl xs=>exact .inl (lst h3)
 | ref i=>exact .inl (lst h3)
 | non=>exact (show False from h3).elim
 | bl _=>exact (show False from h3).elim
 | int _=>exact (show False from h3).elim
 | ty _=>exact (show False from h3).elim
def isS:D->Bool
 | .str _=>true
 | _=>false
def Dq (f:D->List D->DH->R D) (o:DE) (t:DA):DE:=λS G=>(o S G).bind λx G1=>if isS x=true then (t S G1).bind λxs G2=>f x xs G2 else .bad
section
variable {name:Str} {id:String} {f:D->List D->DH->R D} {o e:Expr} {es:List Expr} {to:DE} {t:DA} {apos cpos:Pos}
theorem Eg (slot:Slot "str" name id) (hty:typeOf (.builtin id)=pure (.type "method_descriptor")) (hm:MtM X id (lRm X.K E f)) (ho:QE X E o to) (ha:QA X E (e::es) t)
  (hbase:attributeBase o name X.env (eval o X.env)=eval o X.env:=by rfl)
  (hfew:((backTo cpos (starEach (e::es) X.env)).all (λx=> !x.1) && (backToKw cpos (keywordEach [] X.env)).all (λx=>x.1.isSome)
   && decide ((e::es).length + ([]:List Keyword).length + (if ([]:List Keyword).isEmpty then 0 else 1) < 30))=true:=by rfl)
  (hline:(apos.endLine == cpos.line)=true:=by rfl) (hs:starEach (e::es) X.env=(false,eval e X.env)::starEach es X.env:=by rfl) (hplain:(backTo cpos (starEach es X.env)).any (·.1)=false:=by rfl):
  QE X E (.Call (.Attribute o name apos) (e::es) [] cpos) (Dq f to t):=(Vo PySem.F.plainAttrs_str slot hty hm ho ha hbase hfew hline hs hplain).mono λσ H Q h=>by
 obtain ⟨a,S,G,hk,rfl,s,r,h⟩:=h;refine ⟨a,S,G,hk,rfl,s,r,(Cm h).imp ?_⟩;rintro v _ ⟨b,d,G1,rfl,x,s1,q,-,h1⟩;split at h1
 ·rename_i hl;have ty:tyV X.K "str" v b.H:=by
   cases d with
   | str z=>cases (show v=V.str z from q);exact rfl
   | _=>cases hl
  refine ⟨ty,b,S,G1,x.k.trans hk,rfl,s1,r.mono x,(Jf h1).imp ?_⟩;rintro vs _ ⟨c,ds,G2,rfl,y,s2,q2,-,h2⟩;exact ⟨c,G2,d,ds,y.k.trans (x.k.trans hk),rfl,s2,q.mono y,q2,h2⟩
 ·exact h1.elim
end
def Hs:List D->Option (List Str)
 | []=>some []
 | .str x::r=>(Hs r).map (x::·)
 | _=>none
@[simp] theorem ZE3 (ns:List Str):Hs (ns.map D.str)=some ns:=by
 induction ns with
 | nil=>rfl
 | cons n ns ih=>simp [Hs,ih]
theorem Yp:∀{xs:List D} {ns:List Str},Hs xs=some ns->xs=ns.map D.str
 | [],ns,h=>by cases h;rfl
 | .str i::r,ns,h=>by
  unfold Hs at h;rw [Option.map_eq_some_iff] at h;obtain ⟨m,e,rfl⟩:=h;rw [Yp e]
  rfl
 | .non::_,_,h=>by cases h
 | .bl _::_,_,h=>by cases h
 | .int _::_,_,h=>by cases h
 | .ty _::_,_,h=>by cases h
 | .tup _::_,_,h=>by cases h
 | .fl _::_,_,h=>by cases h
 | .ref _::_,_,h=>by cases h
def Ag (sep:List Nat):List (List Nat)->List Nat
 | []=> []
 | [x]=>x
 | x::y::r=>x++sep++Ag sep (y::r)
def Ef (o:D) (ds:List D) (G:DH):R D:=match o,ds with
 | .str sep,[d]=>match Bw d G with
  | some xs=>match Hs xs with
   | some ys=>if (ys.map (·.length)).sum + ys.length * sep.length<=1000000 then .ok (.str (Txt.join sep ys)) G else .bad
   | none=>.bad
  | none=>.bad
 | _,_=>.bad
theorem Tg:∀{ys:List Str} {us:List Value},Vals (ys.map V.str) us->StrsAre us ys
 | [],us,r=>by cases r;exact .nil
 | y::ys,us,r=>by
  cases r with
  | cons h t=>
   obtain ⟨tk,rfl⟩:=h;exact .cons _ _ (Tg t)
theorem Y6:∀{ys:List Str} {vs:List V},Reps a (ys.map D.str) vs->vs=ys.map V.str
 | [],vs,r=>r
 | y::ys,vs,r=>by
  obtain ⟨v,w,rfl,h1,h2⟩:=r
  cases (show v=V.str y from h1)
  rw [Y6 h2]
  rfl
theorem Rt:MtM X "str.join" (lRm X.K E Ef):=λpins s σ H x xs v us Q I rx rs h=>by
 obtain ⟨a,G,d,ds,hk,rfl,sm,rd,r,q⟩:=h;unfold Ef at q;split at q
 ·rename_i sep e;obtain ⟨w,rfl,rw'⟩:=reps1 r
  cases (show x=V.str sep from rd)
  obtain ⟨t,rfl⟩:=rx;split at q
  ·rename_i ys hs;split at q
   ·rename_i zs hz;split at q
    ·rename_i hl;obtain ⟨p,vs,rfl,h1,r1⟩:=Gf sm rw' hs;rw [Yp hz] at r1;have ev:=Y6 r1;subst ev;obtain ⟨u,rfl,ru⟩:=vals1 rs;cases ru;rw [hk] at h1;rcases h1 with h1 | h1
     ·obtain ⟨its,r2,pl,_⟩:=I.list h1;exact join_list pl.isList (by simpa using Tg r2) (Nat.le_trans hl (by decide)) λt' k=>⟨.str _,a.H,I.tok k,⟨t',rfl⟩,q a _ (Ext.refl a) sm rfl⟩
     ·obtain ⟨its,r2,pl,_⟩:=I.tuple h1;exact join_tuple pl (by simpa using Tg r2) (Nat.le_trans hl (by decide)) λt' k=>⟨.str _,a.H,I.tok k,⟨t',rfl⟩,q a _ (Ext.refl a) sm rfl⟩
    ·exact q.elim
   ·exact q.elim
  ·exact q.elim
 ·exact q.elim
def mFind (o:D) (ds:List D) (G:DH):R D:=match o,ds with
 | .str x,[.str y]=>.ok (.int (Txt.find x y)) G
 | _,_=>.bad
def Kl (o:D) (ds:List D) (G:DH):R D:=match o,ds with
 | .str x,[.str y]=>.ok (.bl (Txt.startswith x y)) G
 | _,_=>.bad
theorem W5:MtM X "str.startswith" (lRm X.K E Kl):=λpins s σ H x xs v us Q I rx rs h=>by
 obtain ⟨a,G,d,ds,hk,rfl,sm,rd,r,q⟩:=h;unfold Kl at q;split at q
 ·rename_i x' y;obtain ⟨w,rfl,rw'⟩:=reps1 r
  cases (show x=V.str x' from rd)
  cases (show w=V.str y from rw')
  obtain ⟨t,rfl⟩:=rx;obtain ⟨u,rfl,u',rfl⟩:=vals1 rs;exact SC.startswith ⟨.bl _,a.H,I,rfl,q a _ (Ext.refl a) sm rfl⟩
 ·exact q.elim
end
section
variable {S:DSt} {G:DH}
@[simp] theorem ev_Sl {e:DE} {lo hi:Option DE}:dSl e lo hi S G=(e S G).bind λd G1=>(Fy lo S G1).bind λl G2=>(Fy hi S G2).bind λh G3=>Nh d l h G3:=id rfl
@[simp] theorem ZE4:Fy none S G=.ok none G:=id rfl
@[simp] theorem ZE0:Fy (some t) S G=(t S G).bind λd G1=>match d with | .int i=>.ok (some i) G1 | _=>.bad:=id rfl
@[simp] theorem Yb {z:Str} {lo hi:Option Int}:Nh (.str z) lo hi G=if z.length<=1000000 then .ok (.str (Hx z lo hi)) G else .bad:=id rfl
@[simp] theorem ev_MtS {f:D->List D->DH->R D} {o:DE} {t:DA}:Dq f o t S G=(o S G).bind λx G1=>if isS x=true then (t S G1).bind λxs G2=>f x xs G2 else .bad:=id rfl
@[simp] theorem ev_isS:isS (.str x)=true:=id rfl
@[simp] theorem ZFG {y:Str}:Kl (.str x) [.str y] G=.ok (.bl (Txt.startswith x y)) G:=id rfl
@[simp] theorem Wm:Ea (.str x) G=.ok (.pure (signs x)) G:=id rfl
theorem ZCZ {sep:Str} {ys:List Str} (h:(ys.map (·.length)).sum + ys.length * sep.length<=1000000):Ef (.str sep) [.fl (ys.map D.str)] G=.ok (.str (Txt.join sep ys)) G:=by simp [Ef,h]
end
end DL
namespace DL
open PySem PySem.Spec L2
open PyProof.Rows hiding St
open Builtin.Str
section
variable (p:Nat->Bool) (m:Nat)
end
theorem ZBE (sep:Str):∀(xs:List Str),(Txt.join sep xs).cps.toList=Ag sep.cps.toList (xs.map (·.cps.toList))
 | []=>rfl
 | [x]=>by simp [Txt.join,glued,Ag]
 | x::y::r=>by
  have key:∀(r:List Str) (acc:Array Nat),(r.foldl (λacc p=>acc++sep.cps++p.cps) acc).toList=acc.toList++(r.map λp=>sep.cps.toList++p.cps.toList).flatten:=by
   intro r
   induction r with
   | nil=>intro acc;simp
   | cons p r ih=>intro acc;rw [List.foldl_cons,ih];simp
  have j:∀(x:Str) (r:List Str),Ag sep.cps.toList ((x::r).map (·.cps.toList))=x.cps.toList++(r.map λp=>sep.cps.toList++p.cps.toList).flatten:=by
   intro x r
   induction r generalizing x with
   | nil=>simp [Ag]
   | cons p r ih=>
    have:=ih p;simp only [List.map_cons] at this ⊢;rw [Ag,this];simp
  rw [j];show (glued sep (x::y::r)).cps.toList=_;unfold glued;simp only [List.drop_one,List.tail_cons,List.headD_cons];rw [key]
theorem Qo {x y:Str} (h:x.cps.toList=y.cps.toList):x=y:=by obtain ⟨a⟩:=x;obtain ⟨b⟩:=y;simp only at h;rw [Array.toList_inj.mp h]
end DL
namespace DL
open PySem PySem.Spec L2
open PyProof.Rows hiding St
inductive Src where
 | l (a:Addr)
 | t (a:Addr)
def Src.itn:Src->String
 | .l _=>"list_iterator"
 | .t _=>"tuple_iterator"
def Src.adr:Src->Addr
 | .l a=>a
 | .t a=>a
def Src.it (h:Heap) (p:Addr) (k:Nat) (sr:Src):Prop:=∃o,h.get? p=some o/\o.cls=.type sr.itn/\o.data=.fields #[.ref sr.adr,.int k 0]
def Src.val (h:Heap) (xs:Array Value):Src->Prop
 | .l a=>h.IsList a xs
 | .t a=>h.IsTuple a xs
section
variable {prog:Program} {w:World} {A:Around} {E:Value->Shared->Prop} {s:Shared}
theorem Src.val.obj {sr:Src} {h:Heap} {xs:Array Value} (x:sr.val h xs):∃o n,h.get? sr.adr=some o/\o.data=.seq xs n:=by
 cases sr with
 | l a=>obtain ⟨o,ho,_,n,hd⟩:=x;exact ⟨o,n,ho,hd⟩
 | t a=>obtain ⟨o,ho,_,n,hd⟩:=x;exact ⟨o,n,ho,hd⟩
theorem Src.iter {sr:Src} {xs:Array Value} {Q:Value->Shared->Prop} (hv:sr.val s.heap xs)
  (hQ:Q (.ref s.heap.objs.size) {s with heap:=s.heap.push {cls:=.type sr.itn,data:=.fields #[.ref sr.adr,.int 0 0]}}):wpAny (model prog w) A (pyIter (.ref sr.adr)) Q E s:=by
 cases sr with
 | l a=>exact wpAny_pyIter_list hv hQ
 | t a=>exact wpAny_pyIter_tuple hv hQ
end
section
variable {prog:Program} {w:World} {A:Around} {E:Value->Shared->Prop} {s:Shared}
end
inductive Drw (h:Heap) (i:Nat):List (Src×Addr)->List Value->Prop where
 | nil:Drw h i [] []
 | cons {sr p r x us xs} (hit:Src.it h p i sr) (hv:sr.val h xs) (hx:xs[i]? =some x) (t:Drw h i r us):Drw h i ((sr,p)::r) (x::us)
theorem Drw.length {h:Heap} {i:Nat} {l:List (Src×Addr)} {us:List Value} (d:Drw h i l us):us.length=l.length:=by
 induction d with
 | nil=>rfl
 | cons _ _ _ _ ih=>simp [ih]
section
variable {prog:Program} {w:World} {A:Around} {E:Value->Shared->Prop} {s:Shared}
end
inductive DrwE (h:Heap) (i:Nat):List (Src×Addr)->Prop where
 | here {sr p r xs} (hit:Src.it h p i sr) (hv:sr.val h xs) (hx:xs[i]? =none):DrwE h i ((sr,p)::r)
 | there {sr p r x xs} (hit:Src.it h p i sr) (hv:sr.val h xs) (hx:xs[i]? =some x) (t:DrwE h i r):DrwE h i ((sr,p)::r)
section
variable {prog:Program} {w:World} {A:Around} {E:Value->Shared->Prop} {s:Shared}
end
end DL
namespace DL
open PySem PySem.W PyProof.Rows
section
structure WO (lt:Nat->Nat->Bool):Prop where
 asy:∀i j,lt i j=true->lt j i=false
 neg:∀i j k,lt i k=true->lt i j=true∨lt j k=true
variable {lt:Nat->Nat->Bool}
theorem WO.refl (o:WO lt) (i:Nat):lt i i=false:=by
 cases h:lt i i
 ·rfl
 ·have:=o.asy i i h;rw [h] at this;exact this
end
end DL
namespace DL
open PySem PySem.Spec L2
open PyProof.Rows hiding St
variable {H:Hp}
section
variable {X:Cx} {pins:List (Addr×Obj)} {σ:St} {H:Hp} {s:Shared} {h':Heap}
end
def Src.sq (K:PySem.W.Frag) (H:Hp) (xs:List V):Src->Prop
 | .l a=>SqL K H a xs
 | .t a=>SqT K H a xs
theorem Src.sq.val {X:Cx} {pins:List (Addr×Obj)} {σ:St} {s:Shared} {sr:Src} {xs:List V} (I:Inv X pins σ H s) (h:sr.sq X.K H xs):∃its:List Value,Vals xs its/\sr.val s.heap its.toArray/\xs.length<=sizeLine:=by
 cases sr with
 | l a=>obtain ⟨its,r,p,hz⟩:=I.list h;exact ⟨its,r,p.isList,hz⟩
 | t a=>obtain ⟨its,r,p,hz⟩:=I.tuple h;exact ⟨its,r,p,hz⟩
theorem Src.sq.inj {X:Cx} {pins:List (Addr×Obj)} {σ:St} {s:Shared} {sr:Src} {xs ys:List V} (I:Inv X pins σ H s) (h:sr.sq X.K H xs) (h':sr.sq X.K H ys):xs=ys:=by
 cases sr with
 | l a=>exact I.Ud h h'
 | t a=>exact I.Td h h'
section
variable {X:Cx} {E:XK}
end
inductive DrV (K:PySem.W.Frag) (H:Hp) (i:Nat):List Src->List V->Prop where
 | nil:DrV K H i [] []
 | cons {sr r v us xs} (hq:Src.sq K H xs sr) (hx:xs[i]? =some v) (t:DrV K H i r us):DrV K H i (sr::r) (v::us)
inductive StV (K:PySem.W.Frag) (H:Hp) (i:Nat):List Src->Prop where
 | here {sr r xs} (hq:Src.sq K H xs sr) (hx:xs.length<=i):StV K H i (sr::r)
 | there {sr r v xs} (hq:Src.sq K H xs sr) (hx:xs[i]? =some v) (t:StV K H i r):StV K H i (sr::r)
theorem DrV.length {K:PySem.W.Frag} {i:Nat} {ls:List Src} {us:List V} (d:DrV K H i ls us):us.length=ls.length:=by
 induction d with
 | nil=>rfl
 | cons _ _ _ ih=>simp [ih]
section
variable {X:Cx} {pins:List (Addr×Obj)} {σ:St} {H:Hp} {s:Shared}
theorem DrV.inj (I:Inv X pins σ H s) {i:Nat}:∀{ls:List Src} {us us':List V},DrV X.K H i ls us->DrV X.K H i ls us'->us=us'
 | [],_,_,d,d'=>by cases d;cases d';rfl
 | sr::ls,_,_,d,d'=>by
  cases d with
  | cons hq hx t=>
   cases d' with
   | cons hq' hx' t'=>
    have e:=Src.sq.inj I hq hq';subst e;rw [hx] at hx';cases hx';rw [DrV.inj I t t']
end
section
variable {X:Cx} {E:XK}
end
def Ks:DS:=λ_ _=>.bad
section
variable {X:Cx} {E:XK}
theorem Ma {st:Stmt}:QS X E st Ks:=λpins s σ H W I h=>by obtain ⟨a,S,G,hk,rfl,sm,r,h⟩:=h;exact h.elim
end
section
variable {X:Cx} {E:XK}
end
end DL
namespace DL
open PySem PySem.W PyProof.Rows
def Safe (n:Nat) {α:Type} (P:α->Prop):KasT α->Prop
 | .ret a=>P a
 | .ask i j k=>i < n/\j < n/\∀b,Safe n P (k b)
theorem Safe.bind {n:Nat} {α β:Type} {f:α->KasT β} {P:α->Prop} {Q:β->Prop} (h2:∀a,P a->Safe n Q (f a)):∀{t:KasT α},Safe n P t->Safe n Q (t.bind f)
 | .ret a,h=>h2 a h
 | .ask _ _ _,h=>⟨h.1,h.2.1,λb=>Safe.bind h2 (h.2.2 b)⟩
theorem Safe.imp {n:Nat} {α:Type} {P Q:α->Prop} (h2:∀a,P a->Q a):∀{t:KasT α},Safe n P t->Safe n Q t
 | .ret a,h=>h2 a h
 | .ask _ _ _,h=>⟨h.1,h.2.1,λb=>Safe.imp h2 (h.2.2 b)⟩
end DL
namespace DL
open PySem PySem.Spec L2
open PyProof.Rows hiding St
variable {a:Wd} {us:List (Str×V)} {d:D}
section
variable {prog:Program} {w:World} {A:Around} {s:Shared}
end
section
variable {X:Cx} {E:XK} {pins:List (Addr×Obj)} {σ:St} {s:Shared} {H:Hp} {h':Heap}
end
section
variable {prog:Program} {w:World} {A:Around} {E:Value->Shared->Prop} {s:Shared}
end
section
variable {X:Cx} {E:XK} {pins:List (Addr×Obj)} {σ:St} {s:Shared} {H:Hp}
end
section
variable {X:Cx} {E:XK}
end
section
variable {S:DSt} {G:DH}
end
def Bts (i:Int):Prop:=i.natAbs.log2 < 33554432
def MulB (i j:Int):Prop:=CMul i j∨(Bts i/\Bts j)
instance (i:Int):Decidable (Bts i):=by unfold Bts;infer_instance
instance (i j:Int):Decidable (MulB i j):=by unfold MulB;infer_instance
theorem MulB.ok {i j:Int} (h:MulB i j):IntMulOk i j:=by
 rcases h with h | ⟨h1,h2⟩
 ·exact h.ok
 ·have b:∀k:Int,Bts k->Builtin.Int.intBits k<=33554432:=λk hk=>by
   unfold Builtin.Int.intBits;split
   ·exact Nat.zero_le _
   ·exact hk
  have c1:=b i h1;have c2:=b j h2;have h:Builtin.Int.intTooBig (Builtin.Int.intBits i + Builtin.Int.intBits j)=false:=by unfold Builtin.Int.intTooBig bitsLine;exact decide_eq_false (by omega)
  unfold IntMulOk;rw [h];simp
def Cd:D->D->DH->R D
 | .int i,.int j,G=>if MulB i j then .ok (.int (i * j)) G else .bad
 | _,_,_=>.bad
section
variable {X:Cx} {E:XK}
theorem ZBl:OpR X (binaryOp .Mult) (rI MulB λi j=>.int (i * j)):=opI λ_ _ _ _ _ _ _ hc q=>mul_int q hc.ok
theorem Eo:OpR X (binaryOp .Mult) (lR2 X.K E Cd):=Dm ZBl λa G d e x y Q hk s rd re q=>by
 cases d <;> cases e <;> first
  | exact q.elim
  | (
    rename_i i j;unfold Cd at q;dsimp only at q;split at q
    ·exact ⟨_,_,rd,re,by assumption,q a _ (Ext.refl a) s rfl⟩
    ·exact q.elim)
end
section
variable {i j:Int} {G:DH}
theorem ZC5 (h:MulB i j):Cd (.int i) (.int j) G=.ok (.int (i * j)) G:=if_pos h
theorem Mx (h1: -(2 ^ 64) < i) (h2:i < 2 ^ 64):Cd (.int i) (.int j) G=.ok (.int (i * j)) G:=if_pos (.inl (.inl ⟨h1,h2⟩))
theorem Yx (h1: -(2 ^ 64) < j) (h2:j < 2 ^ 64):Cd (.int i) (.int j) G=.ok (.int (i * j)) G:=if_pos (.inl (.inr ⟨h1,h2⟩))
@[simp] theorem ZE8 {n:Nat} (h:n < 18446744073709551616):Cd (.int (no_index (OfNat.ofNat n))) (.int j) G=.ok (.int (OfNat.ofNat n * j)) G:=
 Mx (by have:(0:Int)<=(OfNat.ofNat n:Int):=Int.natCast_nonneg n;omega) (by have:(OfNat.ofNat n:Int) < 18446744073709551616:=Int.ofNat_lt.mpr h;omega)
end
theorem Xd:∀{ns:List Int},PySem.W.WData.weightAll (ns.map PySem.W.WData.int)<=2 ^ 20->∀n∈ns,n.natAbs.log2 < 1048576
 | [],_,n,h=>nomatch h
 | m::ns,hw,n,h=>by
  rw [List.map_cons,PySem.W.WData.weightAll,PySem.W.WData.weight] at hw;rcases List.mem_cons.mp h with rfl | h
  ·split at hw
   ·rename_i hz;have:n=0:=by simpa using hz
    rw [this];decide
   ·omega
  ·exact Xd (by omega) n h
theorem ZB0 {l:PySem.W.OpenLaw} {n k:Nat} {q:Program} {loose:List Str} {XP:(Str->Option Value)->Heap->Prop} {YP:World->Heap->Prop} {d:DefRec} {K:Params->PySem.W.Frag} {CX:World->CXT} {sp:World->Sp} {x:Str}
  (hn:l.most=some n) (hn2:n<=sizeLine) (hdf:d.params.defaults= []) (hr:Room k callerA) (hY:∀(w:World) (h:Heap),YP w h->(K w.params).In h)
  (F:∀(w:World) (mg:Str->Option Value) (fa:Addr) (h:Heap),(K w.params).In h->h.Ns mainGlobals mg->mg d.name=some (.ref fa)->
   ∃fd:FuncData,(∀(s:Shared) (u:Value),BindsTo s fd ⟨[u],[]⟩ [(x,u)])/\∀base:Heap,(K w.params).In base->base.Ns mainGlobals mg->FnOk l.prog w (K w.params) mg base (CX w) k fa fd [x] (sp w))
  (hsp:∀(w:World) (H:Hp) (a:Addr) (ns:List Int),ns.length<=n->(∀m∈ns,m.natAbs.log2 < 1048576)->Only H->SqL (K w.params) H a (ns.map V.int)->sp w [.ref a] H (λv _=>v=.bl true) λ_ _ _=>False)
  (hCX:∀(w:World) (H:Hp) (s:Shared) (e:Value) (s':Shared),CX w [] H s (λ_ _ _=>False) e s'->False):PySem.W.WalkO q loose XP YP l.row.toRowW d [] (λf vs=>PySem.call f vs):=by
 intro w s₀ s₁ mg mb G Y fa o pm cd doc dV kV ho hd hcd hD hmg hg args vals as hpre hlay hrd hwl hlo;obtain rfl:dV=.none:=PySem.W.Dflts.none hD hdf;obtain rfl:kV=.none:=PySem.W.Dflts.noKw hD;obtain ⟨a,vs,ns,rfl,rfl,hobj,hints,hlen⟩:=Att.ZDs hn hpre hwl;have KX:=hY w _ Y;obtain ⟨fd,hb,hF⟩:=F w mg fa _ KX G.T.g hmg;have hw:PySem.W.WData.weightAll (ns.map PySem.W.WData.int)<=2 ^ 20:=by
  have h1:PySem.W.WData.layable (.list (ns.map PySem.W.WData.int))=true:=by have:=hlay;simpa [PySem.W.WData.layableAll] using this
  have h2:=of_decide_eq_true (Bool.and_eq_true_iff.mp h1).2;simpa only [PySem.W.WData.weight] using h2
 refine PySem.W.enter_call (codeAny_mono (ZAK KX G.T.g G.T.b G.T.builtins G.T.nolimit hg hobj hints (Nat.le_trans hlen hn2) hr hF hb (λH hO hS=>hsp w H a ns hlen (Xd hw) hO hS) λH e s'=>hCX w H s₁ e s') λr s' hq=> ?_);obtain ⟨rfl,h2,h3,h4⟩:=hq
 exact ⟨.inl ⟨.bool true,.bool true,[],rfl,λ_=>rfl,.bool true,Att.ZAh l _,λ_=>⟨List.Pairwise.nil,λ_ hm=>(nomatch hm)⟩⟩,h2,h3,h4⟩
section
variable {X:Cx} {E:XK}
end
def Qd (f:Str) (v:D):List (Str×D)->List (Str×D)
 | []=> [(f,v)]
 | (g,x)::r=>if g=f then (g,v)::r else (g,x)::Qd f v r
theorem RepF.mono {b:Wd} (x:Ext a b) {fs:List (Str×D)} (h:RepF a fs us):RepF b fs us:=⟨h.1,h.2.mono x⟩
theorem RepF.cons {g:Str} {v:V} {fs:List (Str×D)} (h:Rep a d v) (r:RepF a fs us):RepF a ((g,d)::fs) ((g,v)::us):=
 ⟨by simp [r.1],v,us.map (·.2),rfl,h,r.2⟩
theorem RepF.uncons {g:Str} {fs:List (Str×D)} (h:RepF a ((g,d)::fs) us):∃v us',us=(g,v)::us'/\Rep a d v/\RepF a fs us':=by
 obtain ⟨h1,h2⟩:=h;cases us with
 | nil=>simp at h1
 | cons q us=>
  obtain ⟨g',y⟩:=q;simp only [List.map_cons,List.cons.injEq] at h1;obtain ⟨rfl,h1⟩:=h1;obtain ⟨v,r,e1,r1,r2⟩:=h2;simp only [List.map_cons,List.cons.injEq] at e1;obtain ⟨rfl,rfl⟩:=e1;exact ⟨y,us,rfl,r1,h1,r2⟩
theorem RepF.nil' (h:RepF a [] us):us= []:=by
 obtain ⟨h1,_⟩:=h;cases us with
 | nil=>rfl
 | cons q us=>simp at h1
theorem RepF.put {f:Str} {v:V} (q:Rep a d v):∀{fs:List (Str×D)} {us:List (Str×V)},RepF a fs us->RepF a (Qd f d fs) (Rq f v us)
 | [],us,h=>by rw [h.nil'];exact RepF.cons (fs:= []) (us:= []) q ⟨rfl,rfl⟩
 | (g,x)::fs,us,h=>by
  obtain ⟨w,us',rfl,hv,hr⟩:=h.uncons;unfold Qd Rq;by_cases e:g=f
  ·rw [if_pos e,if_pos e];exact .cons q hr
  ·rw [if_neg e,if_neg e];exact .cons hv (RepF.put q hr)
theorem RepF.len {fs:List (Str×D)} (h:RepF a fs us):us.length=fs.length:=by have:=congrArg List.length h.1;simpa using this.symm
def Wi (c:Str) (d:D) (G:DH):Option (List (Str×D)):=match d with
 | .ref i=>match G[i]? with
  | some (.ins c' fs)=>if c'=c then some fs else none
  | _=>none
 | _=>none
theorem Sim.ins {G:DH} {x:V} {c:Str} {fs:List (Str×D)} (s:Sim a G) (r:Rep a d x) (h:Wi c d G=some fs):
  ∃i C dx us,d=.ref i/\i < a.n/\x=.ref (a.m i)/\G[i]? =some (.ins c fs)/\PySem.W.nsIn a.K mainGlobals c=some (some (.ref C))/\a.H (a.m i)=some (.ins C dx us)/\RepF a fs us:=by
 unfold Wi at h;split at h
 ·rename_i i;split at h
  ·rename_i c' fs' e;split at h
   ·rename_i hc;subst hc;cases h;obtain ⟨l,ev⟩:=r;obtain ⟨C,dx,us,n,e1,r1⟩:=s.obj i _ e;exact ⟨i,C,dx,us,rfl,l,ev,e,n,e1,r1⟩
   ·cases h
  ·cases h
 ·cases h
section
variable {X:Cx} {E:XK} {c f m:Str} {C:Addr} {e o:Expr} {es:List Expr} {t ta tv:DE} {tr:DA} {pos apos pos':Pos}
end
theorem Mh:∀{ns:List Int} {us:List Value},Vals (ns.map V.int) us->us.length=ns.length/\∀(j:Nat) (u:Value),us[j]? =some u->∃t,∃h:j < ns.length,u=.int ns[j] t
 | [],us,h=>by cases h;exact ⟨rfl,λj u e=>by simp at e⟩
 | n::ns,us,h=>by
  cases h with
  | cons r rr=>
   obtain ⟨h1,h2⟩:=Mh rr;obtain ⟨t,rfl⟩:=r;refine ⟨by simp [h1],λj u e=> ?_⟩;cases j with
   | zero=>simp at e;exact ⟨t,by simp,by simpa using e.symm⟩
   | succ j=>
    obtain ⟨t',hj,e'⟩:=h2 j u (by simpa using e);exact ⟨t',by simpa using hj,by simpa using e'⟩
section
variable {X:Cx} {E:XK}
end
section
variable {prog:Program} {w:World} {A:Around} {E:Value->Shared->Prop} {s:Shared}
end
section
variable {X:Cx} {E:XK}
end
end DL
namespace DL
open PySem PySem.Spec L2
section
variable {S:DSt} {G:DH} {c f m:Str} {t to tv:DE} {ta:DA} {F:List D->DH->R D} {i:Nat} {fs:List (Str×D)} {v d:D}
end
end DL
namespace DL
open PySem PySem.Spec L2
open PyProof.Rows hiding St
variable {t:DE}
section
variable {X:Cx} {E:XK}
end
section
variable {i j:Int} {G:DH}
end
section
variable {X:Cx} {E:XK} {e st:Expr} {te:TE} {ts:TO} {p2 pos:Pos}
end
section
variable {S:DSt} {G:DH}
end
theorem size6' {n:Nat} (h:n<=1000000):n<=sizeLine:=Nat.le_trans h (by decide)
def Jt (ds:List D) (G:DH):R D:=match ds with
 | [.str x]=>match PySem.intText? x with
  | some n=>if x.length<=640 then .ok (.int n) G else .bad
  | none=>.bad
 | _=>.bad
section
variable {X:Cx} {E:XK}
theorem Zy:CallR X (.type "int") (lRn X.K E Jt):=λpins s σ H xs us Q I rs h=>by
 obtain ⟨a,G,ds,hk,rfl,sm,r,q⟩:=h;unfold Jt at q;split at q
 ·rename_i x;obtain ⟨v,rfl,h1⟩:=reps1 r
  cases (show v=V.str x from h1)
  obtain ⟨u,rfl,t,rfl⟩:=vals1 rs;split at q
  ·rename_i n hn;split at q
   ·rename_i hl;exact PySem.W.KIN.call_text hn hl ⟨.int n,a.H,I.tok _,⟨_,rfl⟩,q a _ (Ext.refl a) sm rfl⟩
   ·exact q.elim
  ·exact q.elim
 ·exact q.elim
def part3 (x y:Str):List D:= [.str (Txt.partition x y).1,.str (Txt.partition x y).2.1,.str (Txt.partition x y).2.2]
def G7 (o:D) (ds:List D) (G:DH):R D:=match o,ds with
 | .str x,[.str y]=>if y.length≠0/\x.length<=1000000 then .ok (.tup (part3 x y)) G else .bad
 | _,_=>.bad
theorem Qg:MtM X "str.partition" (lRm X.K E G7):=λpins s σ H x xs v us Q I rx rs h=>by
 obtain ⟨a,G,d,ds,hk,rfl,sm,rd,r,q⟩:=h;unfold G7 at q;split at q
 ·rename_i x' y;obtain ⟨w,rfl,rw'⟩:=reps1 r
  cases (show x=V.str x' from rd)
  cases (show w=V.str y from rw')
  obtain ⟨t,rfl⟩:=rx;obtain ⟨u,rfl,u',rfl⟩:=vals1 rs;split at q
  ·rename_i hl;have hy:(y.length == 0)=false:=by simpa using hl.1
   have rs3:Reps a (part3 x' y) [.str (Txt.partition x' y).1,.str (Txt.partition x' y).2.1,.str (Txt.partition x' y).2.2]:=Reps.cons (show Rep a (.str _) (V.str _) from rfl) (Reps.cons (show Rep a (.str _) (V.str _) from rfl) (Reps.cons (show Rep a (.str _) (V.str _) from rfl) Reps.nil))
   have key:∀(t1 t2 t3:Tok) (k:Nat),EP X pins σ Q (.ref s.heap.objs.size) {s with toks:=k,heap:=s.heap.push {cls:=.type "tuple",data:=.seq [.str (Txt.partition x' y).1 t1,.str (Txt.partition x' y).2.1 t2,.str (Txt.partition x' y).2.2 t3].toArray}}:=λt1 t2 t3 k=>
    ⟨.ref s.heap.objs.size,_,I.laid (t':=k) (o:=.tup [.str (Txt.partition x' y).1,.str (Txt.partition x' y).2.1,.str (Txt.partition x' y).2.2]) (λb ob q=>Heap.get?_push_of_some _ q) (Nat.le_refl _) ⟨by show 3<=sizeLine;decide,_,.cons ⟨t1,rfl⟩ (.cons ⟨t2,rfl⟩ (.cons ⟨t3,rfl⟩ .nil)),IsTup.new _ _⟩,rfl,Lp sm rs3 q _ (I.hok.fresh (Nat.le_refl _))⟩
   refine call_meets F.slot_str_partition (typeIs_str _ _ _) F.entry_str_partition (F.args_str_partition_2 _ _) (meets_str_partition x' y t u' hy (size6' hl.2)) ?_;clear rs3
   revert key
   clear q;unfold Txt.partition;cases Builtin.Str.occurrences x' y 0 x'.length 1 with
   | nil=>intro key;exact key _ _ _ _
   | cons i r=>intro key;exact key _ _ _ _
  ·exact q.elim
 ·exact q.elim
def Ig (o:D) (ds:List D) (G:DH):R D:=match o,ds with
 | .str x,[.str y]=>if y.length≠0/\x.length<=1000000 then .ok (.ref G.length) (G++ [.lst ((Txt.split x y).map D.str)]) else .bad
 | _,_=>.bad
theorem X8:∀(l:List (Str×Tok)),Vals ((l.map (·.1)).map V.str) (strValues l)
 | []=>.nil
 | a::l=>.cons ⟨a.2,rfl⟩ (X8 l)
theorem R5 {a:Wd}:∀(l:List Str),Reps a (l.map D.str) (l.map V.str)
 | []=>Reps.nil
 | x::l=>Reps.cons (show Rep a (.str x) (V.str x) from rfl) (R5 l)
theorem m_split:MtM X "str.split" (lRm X.K E Ig):=λpins s σ H x xs v us Q I rx rs h=>by
 obtain ⟨a,G,d,ds,hk,rfl,sm,rd,r,q⟩:=h;unfold Ig at q;split at q
 ·rename_i x' y;obtain ⟨w,rfl,rw'⟩:=reps1 r
  cases (show x=V.str x' from rd)
  cases (show w=V.str y from rw')
  obtain ⟨t,rfl⟩:=rx;obtain ⟨u,rfl,u',rfl⟩:=vals1 rs;split at q
  ·rename_i hl;have hy:(y.length == 0)=false:=by simpa using hl.1
   have hsl:=split_le x' y;have hsz:(Txt.split x' y).length<=sizeLine:=Nat.le_trans (Nat.le_trans hsl (Nat.add_le_add_right hl.2 2)) (by decide)
   have key:∀(l:List (Str×Tok)) (k:Nat),l.map (·.1)=Txt.split x' y->EP X pins σ Q (.ref s.heap.objs.size) {s with toks:=k,heap:=s.heap.push {cls:=.type "list",data:=.seq (strValues l).toArray}}:=λl k e=>
    ⟨.ref s.heap.objs.size,_,I.laid (t':=k) (o:=.lst ((Txt.split x' y).map V.str)) (λb ob q=>Heap.get?_push_of_some _ q) (Nat.le_refl _) ⟨by rw [List.length_map];exact hsz,_,0,by rw [<-e];exact X8 l,Heap.get?_push_size _ rfl⟩,rfl,O1 sm (R5 _) q _ (I.hok.fresh (Nat.le_refl _))⟩
   cases h1:(decide (x'.length < y.length) || decide (Builtin.Str.strKind x' < Builtin.Str.strKind y))
   ·cases hf:(Builtin.Str.occurrences x' y 0 x'.length (x'.length + 1)).isEmpty
    ·have e:Txt.split x' y=Builtin.Str.partsBetween x' (Builtin.Str.occurrences x' y 0 x'.length (x'.length + 1)) y.length:=(if_neg (ne_true_of_eq_false h1)).trans (if_neg (ne_true_of_eq_false hf));refine call_meets F.slot_str_split (typeIs_str _ _ _) F.entry_str_split (F.args_str_split_2 _ _) (meets_str_split_sep x' y t u' h1 hy hf (size6' hl.2) (by rw [<-e];exact hsz)) ?_;show EP X pins σ Q _ {s with toks:=_,heap:=s.heap.push {cls:=.type "list",data:=.seq (strsFrom s.toks (Builtin.Str.partsBetween x' (Builtin.Str.occurrences x' y 0 x'.length (x'.length + 1)) y.length)).toArray}}
     rw [strsFrom_eq];exact key (numbered s.toks _) _ ((numbered_texts _ _).trans e.symm)
    ·exact call_meets F.slot_str_split (typeIs_str _ _ _) F.entry_str_split (F.args_str_split_2 _ _) (meets_str_split_not_found x' y t u' h1 hy hf) (key [(x',t)] s.toks ((if_neg (ne_true_of_eq_false h1)).trans (if_pos hf)).symm)
   ·exact call_meets F.slot_str_split (typeIs_str _ _ _) F.entry_str_split (F.args_str_split_2 _ _) (meets_str_split_cannot_occur x' y t u' h1) (key [(x',t)] s.toks (if_pos h1).symm)
  ·exact q.elim
 ·exact q.elim
def Hz:D->Option Str
 | .str x=>if x.length<=1000000 then some x else none
 | .int i=>if i.natAbs.log2 < 1920 then some (toString i) else none
 | _=>none
def dFv (t:DE):DE:=λS G=>(t S G).bind λd G1=>match Hz d with
 | some x=>.ok (.str x) G1
 | none=>.bad
def dJp:Str->List DE->DE
 | out,[]=>λ_ G=>.ok (.str out) G
 | out,t::r=>λS G=>(t S G).bind λd G1=>match d with
  | .str y=>if (out++y).length<=1000000 then dJp (out++y) r S G1 else .bad
  | _=>.bad
theorem Ht {e:Expr} {pos:Pos} (he:QE X E e t):QE X E (.FormattedValue e (-1) none pos) (dFv t):=λpins s σ H Q I h=>by
 obtain ⟨a,S,G,hk,rfl,sm,r,h⟩:=h;refine FormattedValue_plain (thn (he pins s σ a.H _ I ⟨a,S,G,hk,rfl,sm,r,Cm h⟩) λv s1 h1=> ?_);obtain ⟨x,H1,I1,rx,b,d,G1,rfl,y,s2,q,_,h2⟩:=h1;split at h2
 ·rename_i z hz;cases d with
  | str w=>
   have hz':(if w.length<=1000000 then some w else none)=some z:=hz;split at hz'
   ·rename_i hl;cases hz';have ex:x=V.str z:=q;subst ex;obtain ⟨t0,rfl⟩:=rx;exact formatField_str (λt' tk=>⟨.str z,b.H,I1.tok tk,⟨t',rfl⟩,h2 b _ (Ext.refl b) s2 rfl⟩) (size6' hl)
   ·cases hz'
  | int i=>
   have hz':(if i.natAbs.log2 < 1920 then some (Str.ofString (toString i)) else none)=some z:=hz;split at hz'
   ·rename_i hl;cases hz'
    cases (show x=V.int i from q)
    obtain ⟨t0,rfl⟩:=rx;exact formatField_int_small hl ⟨.str (toString i),b.H,I1.tok _,⟨_,rfl⟩,h2 b _ (Ext.refl b) s2 rfl⟩
   ·cases hz'
  | _=>cases hz
 ·exact h2.elim
def QJ (X:Cx) (E:XK):List Expr->List DE->Prop
 | [],[]=>True
 | e::es,t::ts=>QE X E e t/\QJ X E es ts
 | _,_=>False
theorem Tf:QJ X E [] []:=trivial
theorem Eh {e:Expr} {es:List Expr} {ts:List DE} (h:QE X E e t) (r:QJ X E es ts):QJ X E (e::es) (t::ts):=⟨h,r⟩
theorem Ys:∀(es:List Expr) (ts:List DE) (out_:Str),QJ X E es ts->out_.length<=1000000->∀(pins:List (Addr×Obj)) (s:Shared) (σ:St) (H:Hp) (Q:VK),Inv X pins σ H s->lE X.K E (dJp out_ ts) σ H Q->wpAny (model X.prog X.w) X.A (joinParts out_ (evalEach es X.env)) (EP X pins σ Q) X.xe s
 | [],[],out_,_,hl,pins,s,σ,H,Q,I,h=>by obtain ⟨a,S,G,hk,rfl,sm,r,h⟩:=h;exact joinParts_nil ⟨.str out_,a.H,I.tok _,⟨_,rfl⟩,h a _ (Ext.refl a) sm rfl⟩ (size6' hl)
 | e::es,t::ts,out_,hq,hl,pins,s,σ,H,Q,I,h=>by
  obtain ⟨a,S,G,hk,rfl,sm,r,h⟩:=h;refine joinParts_cons (thn (hq.1 pins s σ a.H _ I ⟨a,S,G,hk,rfl,sm,r,Cm h⟩) λv s1 h1=> ?_);obtain ⟨x,H1,I1,rx,b,d,G1,rfl,y,s2,q,_,h2⟩:=h1;split at h2
  ·rename_i w _;split at h2
   ·rename_i hl2;have ex:x=V.str w:=q;subst ex;obtain ⟨t0,rfl⟩:=rx;exact ⟨size6' hl2,Ys es ts (out_++w) hq.2 hl2 pins s1 σ b.H Q I1 ⟨b,S,G1,y.k.trans hk,rfl,s2,r.mono y,h2⟩⟩
   ·exact h2.elim
  ·exact h2.elim
theorem Qm {e1 e2:Expr} {es:List Expr} {ts:List DE} {pos:Pos} (h:QJ X E (e1::e2::es) ts):QE X E (.JoinedStr (e1::e2::es) pos) (dJp Str.empty ts):=λpins s σ H Q I q=>JoinedStr_many (Ys _ _ _ h (by decide) pins s σ H Q I q)
def TupG (K:PySem.W.Frag) (mg:Str->Option Value) (n:Str) (ss:List Str):Prop:=∃(p:Addr) (o:Obj) (its:Array Value) (k:Nat),mg n=some (.ref p)/\K.lookup p=some o/\o.cls=.type "tuple"/\o.data=.seq its k/\its.size<=sizeLine/\Vals (ss.map V.str) its.toList
theorem ZEI {K:PySem.W.Frag} {h:Heap} {mg:Str->Option Value} {n:Str} {p:Addr} {od:Option Addr} {sl:Array (Option Value)} {k:Nat} {its:List Value} {ss:List Str} (KX:K.In h) (G:h.Ns mainGlobals mg) (a:PySem.W.nsIn K mainGlobals n=some (some (.ref p)))
  (l:K.lookup p=some ⟨.type "tuple",od,.seq its.toArray k,sl⟩) (hs:its.length<=1000) (v:Vals (ss.map V.str) its):TupG K mg n ss:=
 ⟨p,_,its.toArray,k,PySem.W.mg_of KX G a,l,rfl,rfl,by rw [List.size_toArray];exact Nat.le_trans hs (by decide),by simpa using v⟩
theorem ZCj {x:Str} {ss:List Str} {pos:Pos} (hg:Gl X x) (h:TupG X.K X.mg x ss) (hd:(x == ("__debug__":Str))=false:=by decide):QE X E (.Name x pos) (dC (.tup (ss.map D.str))):=by obtain ⟨p,o,its,k,h1,h2,h3,h4,h5,h6⟩:=h;exact Tt (v:=.ref p) hg h1 rfl (λa ha=>⟨p,ss.map V.str,rfl,.inr ⟨o,its,k,by rw [ha];exact h2,h3,h4,h5,h6⟩,R5 ss⟩) hd
end
section
variable {S:DSt} {G:DH}
@[simp] theorem ZEQ:dFv t S G=(t S G).bind λd G1=>match Hz d with
 | some x=>.ok (.str x) G1
 | none=>.bad:=id rfl
@[simp] theorem Q6 {out_:Str}:dJp out_ [] S G=.ok (.str out_) G:=id rfl
@[simp] theorem Qf {out_:Str} {r:List DE}:dJp out_ (t::r) S G=(t S G).bind λd G1=>match d with
  | .str y=>if (out_++y).length<=1000000 then dJp (out_++y) r S G1 else .bad
  | _=>.bad:=id rfl
end
end DL
namespace Law
open PySem L2 DL
def top (i:Nat):Stmt:=PySem.Challenge.pw_sluiceway_k13_rules_written.main.body.getD i (.Pass ⟨0,0,0,0⟩)
abbrev Th:Stmt:=top 20
abbrev ZDH:List Str:= ["_law_x","_law_cell"]
theorem ZCX:FnScope ZDH ["_law_x","_law_cell"] (Av Th):=⟨rfl,rfl,rfl,by decide +kernel,rfl,by decide +kernel,by decide +kernel⟩
abbrev Ra:Stmt:=top 17
abbrev ZCL:List Str:= ["_law_script","_law_k"]
theorem ZEK:FnScope ZCL ["_law_script","_law_k"] (Av Ra):=⟨rfl,rfl,rfl,by decide +kernel,rfl,by decide +kernel,by decide +kernel⟩
abbrev Rh:Stmt:=top 19
abbrev ZAV:List Str:= ["_law_cell","_law_k","_law_many","_law_number","_law_left","_law_found","_law_j"]
theorem Ff:FnScope ZAV ["_law_cell","_law_k","_law_many"] (Av Rh):=⟨rfl,rfl,rfl,by decide +kernel,rfl,by decide +kernel,by decide +kernel⟩
abbrev Tc:Stmt:=top 21
abbrev ZBK:List Str:= ["_law_script","_law_at","_law_seasons","_law_k","_law_cell","_law_xs","_law_steps","_law_j","_law_way"]
theorem Fe:FnScope ZBK ["_law_script","_law_at"] (Av Tc):=⟨rfl,rfl,rfl,by decide +kernel,rfl,by decide +kernel,by decide +kernel⟩
abbrev Qk:Stmt:=top 18
abbrev ZEV:List Str:= ["_law_found"]
theorem ZA2:FnScope ZEV ["_law_found"] (Av Qk):=⟨rfl,rfl,rfl,by decide +kernel,rfl,by decide +kernel,by decide +kernel⟩
abbrev U0:Stmt:=top 23
abbrev ZDa:List Str:= ["_law_found","_law_due","_law_season","_law_step"]
theorem R4:FnScope ZDa ["_law_found","_law_due"] (Av U0):=⟨rfl,rfl,rfl,by decide +kernel,rfl,by decide +kernel,by decide +kernel⟩
abbrev Sh:Stmt:=top 22
abbrev ZBa:List Str:= ["_law_rule","_law_seasons","_law_begin","_law_stairs","_law_text","_law_mark","_law_height","_law_many","_law_way"]
theorem Dw:FnScope ZBa ["_law_rule"] (Av Sh):=⟨rfl,rfl,rfl,by decide +kernel,rfl,by decide +kernel,by decide +kernel⟩
abbrev M6:Stmt:=top 15
abbrev Wk:List Str:= ["text"]
theorem ZD7:FnScope Wk ["text"] (Av M6):=⟨rfl,rfl,rfl,by decide +kernel,rfl,by decide +kernel,by decide +kernel⟩
abbrev U4:Stmt:=top 14
abbrev ZCr:List Str:= ["text","row"]
theorem ZBp:FnScope ZCr ["text","row"] (Av U4):=⟨rfl,rfl,rfl,by decide +kernel,rfl,by decide +kernel,by decide +kernel⟩
abbrev Sq:Stmt:=top 13
abbrev ZCb:List Str:= ["text","row","height","plus","rest","many","blank","way"]
theorem Gk:FnScope ZCb ["text","row"] (Av Sq):=⟨rfl,rfl,rfl,by decide +kernel,rfl,by decide +kernel,by decide +kernel⟩
abbrev My:Stmt:=top 12
abbrev Xz:List Str:= ["text","row"]
theorem Za:FnScope Xz ["text","row"] (Av My):=⟨rfl,rfl,rfl,by decide +kernel,rfl,by decide +kernel,by decide +kernel⟩
abbrev S7:Stmt:=top 11
abbrev Zk:List Str:= ["text","row","first","colon","steps"]
theorem N8:FnScope Zk ["text","row"] (Av S7):=⟨rfl,rfl,rfl,by decide +kernel,rfl,by decide +kernel,by decide +kernel⟩
abbrev Nr:Stmt:=top 10
abbrev Vg:List Str:= ["text","row"]
theorem ZAO:FnScope Vg ["text","row"] (Av Nr):=⟨rfl,rfl,rfl,by decide +kernel,rfl,by decide +kernel,by decide +kernel⟩
abbrev U5:Stmt:=top 7
abbrev ZDt:List Str:= ["text"]
theorem ZD3:FnScope ZDt ["text"] (Av U5):=⟨rfl,rfl,rfl,by decide +kernel,rfl,by decide +kernel,by decide +kernel⟩
abbrev Pu:Stmt:=top 9
abbrev Wb:List Str:= ["first","stairs","steps"]
theorem W2:FnScope Wb ["first","stairs"] (Av Pu):=⟨rfl,rfl,rfl,by decide +kernel,rfl,by decide +kernel,by decide +kernel⟩
abbrev Nz:Stmt:=top 8
abbrev W4:List Str:= ["rule"]
theorem ZAa:FnScope W4 ["rule"] (Av Nz):=⟨rfl,rfl,rfl,by decide +kernel,rfl,by decide +kernel,by decide +kernel⟩
abbrev Qx:Stmt:=top 24
abbrev ZCN:List Str:= ["_law_rule","_law_text","_law_told"]
theorem Tz:FnScope ZCN ["_law_rule"] (Av Qx):=⟨rfl,rfl,rfl,by decide +kernel,rfl,by decide +kernel,by decide +kernel⟩
abbrev Dj:Stmt:=top 25
abbrev ZCI:List Str:= ["_law_script","_law_rule","_law_other"]
theorem Q9:FnScope ZCI ["_law_script"] (Av Dj):=⟨rfl,rfl,rfl,by decide +kernel,rfl,by decide +kernel,by decide +kernel⟩
def Ho:DS:=(Ak (sIf (Ax (dOp Cp (dOp Ck (dV 0) (dC (.int 3))) (dC (.int 0)))) (sRt (dOp Ck (dOp G6 (dV 0) (dC (.int 3))) (dC (.int 12)))) sNx) (Ak (sIf (Ax (dOp Cp (dOp Ck (dV 0) (dC (.int 3))) (dC (.int 1)))) (sRt (dOp Ck (dOp G6 (dV 0) (dC (.int 3))) (dOp Ew (dC (.int 10)) (dC (.int 6))))) sNx) (sRt (dOp Ck (dOp Bb (dV 1) (dOp G6 (dV 0) (dC (.int 3)))) (dOp Ew (dC (.int 10)) (dC (.int 40)))))))
def Ik:List D->DH->R D:=Bd 2 0 Ho
def Kf:DS:=(Ak (sIf (Ax (dOp O9 (dV 1) (dFn Dg (Ac (dV 0) Ae)))) (sRt (dOp Bk (dV 0) (dV 1))) sNx) (sRt (dC (.int 0))))
def Gu:List D->DH->R D:=Bd 2 0 Kf
def Ny:DS:=(Ak (sAs (dOp Ck (dOp Bb (dOp Bb (dOp Cd (dV 3) (dV 3)) (dOp Cd (dC (.int 48271)) (dV 6))) (dC (.int 11))) (dC (.int 2147483647))) (gV 3)) (Ak (sEx (Hk Gr (dV 5) (Ac (dOp Bk (Df (dFn Aq (Ac (dV 3) (Ac (dOp Ck (dV 4) (dOp Ew (dC (.int 10)) (dC (.int 42)))) Ae)))) (dFn Mu (Ac (dOp Qn (dV 4) (dC (.int 0))) Ae))) Ae))) (sAs (dOp G6 (dV 4) (dOp Ew (dC (.int 10)) (dC (.int 42)))) (gV 4))))
def Lk:DS:=(Ak (sAs (dOp Ck (dOp Cd (dOp Bb (dOp Ck (dV 0) (dC (.int 999999937))) (dC (.int 2))) (dOp Bb (dOp Cd (dOp Cd (dC (.int 7919)) (dV 1)) (dV 1)) (dC (.int 48271)))) (dC (.int 2147483647))) (gV 3)) (Ak (sAs (dC (.int 0)) (gV 4)) (Ak (sIf (dOr (Ax (dOp O9 (dV 0) (dC (.int 0)))) (Ax (dOp Qs (dV 0) (dOp Ew (dC (.int 10)) (dC (.int 18)))))) (sAs (dFn Mw (Ac (dV 0) (Ac (dOp Rn (dC (.int 0)) (dV 0)) Ae))) (gV 4)) sNx) (Ak (sAs (Ip (dFn Aq Ae)) (gV 5)) (Ak (Ed (Jg rng1 (Ac (dV 2) Ae)) (gV 6) Ny) (sRt (dV 5)))))))
def Iv:List D->DH->R D:=Bd 3 4 Lk
def Jj:DS:=(Ak (sAs (dOp Bk (Df (dFn Aq (Ac (dC (.str "river")) (Ac (dC (.str "pump")) Ae)))) (dOp Ck (dOp Bk (dV 5) (dOp Bb (dC (.int 2)) (dOp Cd (dC (.int 3)) (dV 7)))) (dC (.int 2)))) (gV 8)) (sEx (Hk Gr (dV 6) (Ac (dFn Ez (Ac (dFn Ik (Ac (dOp Bk (dV 5) (dOp Bb (dC (.int 3)) (dOp Cd (dC (.int 3)) (dV 7)))) (Ac (dV 4) Ae))) (Ac (dFn Ik (Ac (dOp Bk (dV 5) (dOp Bb (dC (.int 4)) (dOp Cd (dC (.int 3)) (dV 7)))) (Ac (dOp Cd (dV 4) (dV 4)) Ae))) (Ac (dV 8) Ae)))) Ae))))
def Jy:DS:=(Ak (sAs (dFn Gu (Ac (dV 0) (Ac (dOp Bb (dOp Bb (dV 1) (dC (.int 1))) (dV 3)) Ae))) (gV 4)) (Ak (sAs (Df (dFn Iv (Ac (dV 4) (Ac (dV 3) (Ac (dC (.int 14)) Ae))))) (gV 5)) (Ak (sAs (Ip (dFn Aq Ae)) (gV 6)) (Ak (Ed (Jg rng1 (Ac (dOp Ck (dOp Bk (dV 5) (dC (.int 1))) (dC (.int 5))) Ae)) (gV 7) Jj) (sEx (Hk Gr (dV 2) (Ac (dFn Ez (Ac (dFn Ik (Ac (dOp Bk (dV 5) (dC (.int 0))) (Ac (dV 4) Ae))) (Ac (dFn En (Ac (dV 6) Ae)) Ae))) Ae)))))))
def Jx:DS:=(Ak (sAs (Ip (dFn Aq Ae)) (gV 2)) (Ak (Ed (Jg rng1 (Ac (dOp Bb (dC (.int 1)) (dOp Ck (dFn Gu (Ac (dV 0) (Ac (dV 1) Ae))) (dC (.int 5)))) Ae)) (gV 3) Jy) (sRt (dFn En (Ac (dV 2) Ae)))))
def Ge:List D->DH->R D:=Bd 2 7 Jx
def Hi:DS:=(sRt (Tp (dFn Bq (Ac (dV 0) (Ac (dC (.ty "int")) Ae))) (M7 (dFn Bq (Ac (dV 0) (Ac (dC (.ty "bool")) Ae))))))
def Hj:List D->DH->R D:=Bd 1 0 Hi
def Ni:DS:=(Ak (sIf (dOr (Bu (Ax (dFn Bq (Ac (dV 3) (Ac (dC (.ty "tuple")) Ae))))) (dOr (Ax (dOp Eu (dFn Dg (Ac (dV 3) Ae)) (dC (.int 3)))) (Bu (Ax (dFn Bq (Ac (dOp Bk (dV 3) (dC (.int 2))) (Ac (dC (.ty "str")) Ae))))))) (sRt (dC (.bl false))) sNx) (sIf (dOr (Bu (Ax (dFn Hj (Ac (dOp Bk (dV 3) (dC (.int 0))) Ae)))) (Bu (Ax (dFn Hj (Ac (dOp Bk (dV 3) (dC (.int 1))) Ae))))) (sRt (dC (.bl false))) sNx))
def Ln:DS:=(Ak (sIf (dOr (Bu (Ax (dFn Bq (Ac (dV 2) (Ac (dC (.ty "tuple")) Ae))))) (dOr (Ax (dOp Eu (dFn Dg (Ac (dV 2) Ae)) (dC (.int 2)))) (Bu (Ax (dFn Hj (Ac (dOp Bk (dV 2) (dC (.int 0))) Ae)))))) (sRt (dC (.bl false))) sNx) (Ak (sIf (Bu (Ax (dFn Bq (Ac (dOp Bk (dV 2) (dC (.int 1))) (Ac (dC (.ty "tuple")) Ae))))) (sRt (dC (.bl false))) sNx) (Ed (Dv (dOp Bk (dV 2) (dC (.int 1)))) (gV 3) Ni)))
def Ol:DS:=(Ak (sIf (dOr (Bu (Ax (dFn Bq (Ac (dV 0) (Ac (dC (.ty "tuple")) Ae))))) (Ax (dOp Eu (dFn Dg (Ac (dV 0) Ae)) (dFn Dg (Ac (dV 1) Ae))))) (sRt (dC (.bl false))) sNx) (Ak (Ed (Dv (dV 0)) (gV 2) Ln) (sRt (dOp Cp (dV 0) (dV 1)))))
def Pn:List D->DH->R D:=Bd 2 2 Ol
def O7:DS:=(Ak (sAs (dOp Bb (dOp Bb (dOp Bb (dOp Bb (dOp Bb (dOp Bb (dV 4) (dV 5)) (dFn Gm (Ac (dV 6) Ae))) (dC (.str "+"))) (dFn Gm (Ac (dV 7) Ae))) (dC (.str " "))) (dV 8)) (gV 4)) (sAs (dC (.str ", ")) (gV 5)))
def Kd:DS:=(Ak (sAs (dOp Bb (dFn Gm (Ac (dV 2) Ae)) (dC (.str ":"))) (gV 4)) (Ak (sAs (dC (.str " ")) (gV 5)) (Ak (Ed (Dv (dV 3)) (Bl 3 (Ar (gV 6) (Ar (gV 7) (Ar (gV 8) Bv)))) O7) (sEx (Hk Gr (dV 1) (Ac (dV 4) Ae))))))
def Nj:DS:=(Ak (sAs (Ip (dFn Aq Ae)) (gV 1)) (Ak (Ed (Dv (dV 0)) (Bl 2 (Ar (gV 2) (Ar (gV 3) Bv))) Kd) (sRt (Dq Ef (dC (.str "; ")) (Ac (dV 1) Ae)))))
def Ms:List D->DH->R D:=Bd 1 8 Nj
def Oz:DE:=(dOp Jd (dV 0) (dC (.str "0123456789")))
def O5:DS:=(Ak (sIf (dOr (Bu (Ax (Px O8 O8 (dC (.int 1)) (dFn Dg (Ac (dV 0) Ae)) (dC (.int 40))))) (Bu (Ax (dFn Ir (Ac (Df (Gs (Dv (dV 0)) 1 [] (gV 0) Dt Oz)) Ae))))) (sRt (dC (.bl false))) sNx) (sRt (Rm (dOp Cp (dV 0) (dC (.str "0"))) (M7 (Dq Kl (dV 0) (Ac (dC (.str "0")) Ae))))))
def Om:List D->DH->R D:=Bd 1 0 O5
def Ih:DS:=(Ak (sIf (Bu (Ax (dFn Om (Ac (dV 0) Ae)))) Ks sNx) (sRt (dFn Jt (Ac (dV 0) Ae))))
def Iu:List D->DH->R D:=Bd 2 0 Ih
def O6:DS:=(Ak (sAs (Dq G7 (dV 0) (Ac (dC (.str "+")) Ae)) (Bl 3 (Ar (gV 2) (Ar (gV 3) (Ar (gV 4) Bv))))) (Ak (sAs (Dq G7 (dV 4) (Ac (dC (.str " ")) Ae)) (Bl 3 (Ar (gV 5) (Ar (gV 6) (Ar (gV 7) Bv))))) (Ak (sIf (Ax (dOp Jw (dV 7) (dC (.tup [.str "river",.str "pump"])))) Ks sNx) (sRt (dFn Ez (Ac (dFn Iu (Ac (dV 2) (Ac (dV 1) Ae))) (Ac (dFn Iu (Ac (dV 5) (Ac (dV 1) Ae))) (Ac (dV 7) Ae))))))))
def Ng:List D->DH->R D:=Bd 2 6 O6
def M5:DE:=(dFn Ng (Ac (dV 0) (Ac (dV 1) Ae)))
def Kc:DS:=(Ak (sIf (Ax (dOp Cp (dV 0) (dC (.str "")))) (sRt (dFn Ez Ae)) sNx) (Ak (sIf (Bu (Ax (Dq Kl (dV 0) (Ac (dC (.str " ")) Ae)))) Ks sNx) (sRt (dFn En (Ac (Df (Gs (Dv (Df (Dq Ig (Df (dSl (dV 0) (some (dC (.int 1))) none)) (Ac (dC (.str ", ")) Ae)))) 1 [1] (gV 0) Dt M5)) Ae)))))
def Ky:List D->DH->R D:=Bd 2 0 Kc
def O4:DS:=(Ak (sAs (Dq G7 (dV 0) (Ac (dC (.str ":")) Ae)) (Bl 3 (Ar (gV 2) (Ar (gV 3) (Ar (gV 4) Bv))))) (Ak (sIf (Ax (dOp Cp (dV 3) (dC (.str "")))) Ks sNx) (sRt (dFn Ez (Ac (dFn Iu (Ac (dV 2) (Ac (dV 1) Ae))) (Ac (dFn Ky (Ac (dV 4) (Ac (dV 1) Ae))) Ae))))))
def N6:List D->DH->R D:=Bd 2 3 O4
def Oi:DE:=(dFn N6 (Ac (dV 0) (Ac (dV 1) Ae)))
def Oq:DS:=(sRt (dFn En (Ac (Df (Gs (Dv (Df (Dq Ig (dV 0) (Ac (dC (.str "; ")) Ae)))) 1 [1] (gV 0) Dt Oi)) Ae)))
def Pb:List D->DH->R D:=Bd 2 0 Oq
def Pr:DS:=(sRt (dFn Pb (Ac (dV 0) (Ac (dC (.int 0)) Ae))))
def Od:List D->DH->R D:=Bd 1 0 Pr
def Nv:DE:=(dJp Str.empty [(dFv (dV 0)),(dC (.str "+")),(dFv (dV 1)),(dC (.str " ")),(dFv (dV 2))])
def Lb:DS:=(Ak (sIf (Ax (dOp Cp (dFn Dg (Ac (dV 1) Ae)) (dC (.int 0)))) (sRt (dJp Str.empty [(dFv (dV 0)),(dC (.str ":"))])) sNx) (Ak (sAs (Dq Ef (dC (.str ", ")) (Ac (Df (Gs (Dv (dV 1)) 3 [] (Bl 3 (Ar (gV 0) (Ar (gV 1) (Ar (gV 2) Bv)))) Dt Nv)) Ae)) (gV 2)) (sRt (dJp Str.empty [(dFv (dV 0)),(dC (.str ": ")),(dFv (dV 2))]))))
def K3:List D->DH->R D:=Bd 2 1 Lb
def Ot:DE:=(dFn K3 (Ac (dV 0) (Ac (dV 1) Ae)))
def Ox:DS:=(sRt (Dq Ef (dC (.str "; ")) (Ac (Df (Gs (Dv (dV 0)) 2 [] (Bl 2 (Ar (gV 0) (Ar (gV 1) Bv))) Dt Ot)) Ae)))
def O2:List D->DH->R D:=Bd 1 0 Ox
def J0:DS:=(Ak (sAs (dFn Ms (Ac (dV 0) Ae)) (gV 1)) (Ak (sAs (dFn O2 (Ac (dV 0) Ae)) (gV 2)) (Ak (sIf (dOr (Bu (Ax (dFn Bq (Ac (dV 2) (Ac (dC (.ty "str")) Ae))))) (Ax (dOp Eu (dV 2) (dV 1)))) (sRt (dC (.bl false))) sNx) (sRt (dFn Pn (Ac (dFn Od (Ac (dV 1) Ae)) (Ac (dV 0) Ae)))))))
def Hw:List D->DH->R D:=Bd 1 2 J0
def Sx:DS:=(Ak (sAs (dFn Ge (Ac (dV 0) (Ac (dC (.int 0)) Ae))) (gV 1)) (Ak (sAs (dFn Ge (Ac (dV 0) (Ac (dC (.int 6)) Ae))) (gV 2)) (Ak (sIf (dOr (Bu (Ax (dFn Hw (Ac (dV 1) Ae)))) (Bu (Ax (dFn Hw (Ac (dV 2) Ae))))) (sRt (dC (.bl false))) sNx) (sRt (dFn Hw (Ac (dV 1) Ae))))))
def H9:List D->DH->R D:=Bd 1 2 Sx
def Holds:Prop:=∀ns:List Int,ns.length<=63->(∀m∈ns,m.natAbs.log2 < 1048576)->∃G,H9 [.fl (ns.map D.int)] []=.ok (.bl true) G
end Law
namespace Law
open PySem L2 DL
variable {ns xs:List Int} {k n:Int} {G:DH} {l l' L:List Nat} {i m c d:Nat} {ls:List (List Nat)} {r:D}
def cellAt (ns:List Int) (k:Int):Int:=ns.getD k.toNat 0
theorem Xe (hk:0<=k):Gu [.fl (ns.map D.int),.int k] G=.ok (.int (cellAt ns k)) G:=by
 unfold Gu Kf cellAt;rw [Bh];by_cases h:k < ns.length
 ·simp [h];rw [J1 (d:=D.int (ns[k.toNat]'(by omega))) (k:=k.toNat) (by omega) (by rw [List.getElem?_map,List.getElem?_eq_getElem (by omega)];rfl)];simp [Bf,List.getElem?_eq_getElem (show k.toNat < ns.length by omega)]
 ·simp [h,Bf,List.getElem?_eq_none (show ns.length<=k.toNat by omega)]
def strm:Nat->Int->Int->Int->List Int
 | 0,_,_,_=> []
 | n + 1,j,num,left=>(if 0 < left then left % 10 ^ 42 else (num * num + 48271 * j + 11) % 2147483647)::strm n (j + 1) ((num * num + 48271 * j + 11) % 2147483647) (left / 10 ^ 42)
theorem Yh:∀{n:Nat} {j num left:Int},(strm n j num left).length=n
 | 0,_,_,_=>rfl
 | n + 1,_,_,_=>by simp [strm,Yh]
theorem Wn {c k m:D} {G:DH}:∀{n:Nat} {j num left:Int} {acc:List Int} {e:Option D},0<=num->num < 2147483647->0<=j->acc.length + n<=1000->∃a b d,Bs (gV 6) Ny (Dk j n) [some c,some k,some m,some (.int num),some (.int left),some (.ref G.length),e] (G++ [.lst (acc.map D.int)])=
  .nx [some c,some k,some m,a,b,some (.ref G.length),d] (G++ [.lst ((acc++strm n j num left).map D.int)])
 | 0,j,num,left,acc,e,h1,h2,h3,h4=>⟨some (.int num),some (.int left),e,by rw [T7,Gx];simp [strm]⟩
 | n + 1,j,num,left,acc,e,h1,h2,h3,h4=>by
  obtain ⟨a,b,d,ih⟩:=Wn (c:=c) (k:=k) (m:=m) (G:=G) (n:=n) (j:=j + 1) (num:=(num * num + 48271 * j + 11) % 2147483647) (left:=left / 10 ^ 42) (acc:=acc++ [if 0 < left then left % 10 ^ 42 else (num * num + 48271 * j + 11) % 2147483647]) (e:=some (.int j)) (Int.emod_nonneg _ (by decide)) (Int.emod_lt_of_pos _ (by decide)) (by omega) (by simp;omega);refine ⟨a,b,d,?_⟩;have hb:Ny [some c,some k,some m,some (.int num),some (.int left),some (.ref G.length),some (.int j)] (G++ [.lst (acc.map D.int)])=
    .nx [some c,some k,some m,some (.int ((num * num + 48271 * j + 11) % 2147483647)),some (.int (left / 10 ^ 42)),some (.ref G.length),some (.int j)] (G++ [.lst ((acc++ [if 0 < left then left % 10 ^ 42 else (num * num + 48271 * j + 11) % 2147483647]).map D.int)]):=by
   have hl:acc.length < 1000000:=by omega
   unfold Ny
   by_cases hl0:0 < left <;> simp [Mx (i:=num) (j:=num) (by omega) (by omega),K8,Ej,hl0,hl,R3]
  rw [Tw,Gh];simp only [El,R.Gq,List.set,hb,Gb,ih];simp [strm]
structure Stp where
 h:Int
 m:Int
 r:Bool
variable {st:List Stp}
def wy (r:Bool):Str:=if r then "river" else "pump"
def Stp.enc (s:Stp):D:=.tup [.int s.h,.int s.m,.str (wy s.r)]
@[simp] theorem U3 {n:Nat} :bels n (st.map Stp.enc)=true:=Ga λs _=>by simp [Stp.enc]
abbrev Ssn:=Int×List Stp
variable {ss:List Ssn} {s:Ssn}
def Ai (s:Ssn):D:=.tup [.int s.1,.tup (s.2.map Stp.enc)]
@[simp] theorem Ql {n:Nat} :bels n (ss.map Ai)=true:=Ga λs _=>by simp [Ai]
theorem ZCu {A:DO} {ds:List D} {L:DH} (h:bels (G.length + 1) ds=true):freeze (G++ [A]) (.ok (.ref (G.length + 1)) (G++A:: .lst ds::L))=.ok (.fl ds) (G++ [A]):=by have:=Ej (G:=G++ [A]) (ds:=ds) (L:=L) (by simpa using h);simpa using this
theorem ZCE {α:Type} {xs:List α} {a:Nat} (h:a<=xs.length):cutD xs (some (a:Int)) none=xs.drop a:=by
 have:=(J6 xs.length (a:Int)).2;have e:HT.sIx xs.length 0 (some (a:Int))=a:=by omega
 unfold cutD;rw [e];simp only [HT.sIx];exact List.take_of_length_le (by simp)
def Aa (l:List Nat):Str:=⟨l.toArray⟩
@[simp] theorem Dl:(Aa l).cps.toList=l:=by simp [Aa]
@[simp] theorem Be:(Aa l).length=l.length:=by simp [Aa,Str.length]
theorem Sy:Aa l++Aa l'=Aa (l++l'):=by show Str.append _ _=_;unfold Str.append Aa;simp
theorem ZBh:(Aa l=Aa l')=(l=l'):=propext ⟨λh=>by have h1:=congrArg (λs:Str=>s.cps.toList) h;simpa using h1,λh=>by rw [h]⟩
theorem Hv {S:List Nat} :StrLaws.At (Aa L) (Aa S) (Aa L).length i↔i + S.length<=L.length/\(L.drop i).take S.length=S:=by unfold StrLaws.At;rw [StrLaws.subAt_eq,Dl,Dl,Be,Be];simp
theorem Oj {a b:Nat}:Builtin.Str.strSub (Aa L) a b=Aa ((L.drop a).take (b - a)):=DL.Qo (by rw [StrLaws.strSub_toList];simp)
theorem Yj {r s:List Nat} (hi:i < l.length) (h:((l++r).drop i).take (m + 1)=c::s):c∈l:=by rw [List.drop_append_of_le_length (by omega),List.drop_eq_getElem_cons hi,List.cons_append,List.take_succ_cons] at h;have:=(List.cons.inj h).1;rw [<-this];exact List.getElem_mem hi
theorem ZC8 {p q:List Nat} (hp:c ∉ p):Txt.partition (Aa (p++c::q)) (Aa [c])=(Aa p,Aa [c],Aa q):=by
 have hat:StrLaws.At (Aa (p++c::q)) (Aa [c]) (Aa (p++c::q)).length p.length:=Hv.mpr ⟨by simp,by simp⟩;have hno:∀k,k < p.length->¬StrLaws.At (Aa (p++c::q)) (Aa [c]) (Aa (p++c::q)).length k:=λk hk h=>by exact hp (Yj hk (Hv.mp h).2)
 rcases PyProof.Rows.partition_whole (Aa (p++c::q)) (Aa [c]) with ⟨_,h⟩ | ⟨i,e,h,hn⟩
 ·exact absurd hat (h _)
 ·have hi:i=p.length:=by
   rcases Nat.lt_trichotomy i p.length with z | z | z
   ·exact absurd h (hno i z)
   ·exact z
   ·exact absurd hat (hn _ z)
  subst hi;rw [e,Oj,Oj,Be,Be];have e1:((p++c::q).drop 0).take (p.length - 0)=p:=by simp
  have e2:((p++c::q).drop (p.length + [c].length)).take ((p++c::q).length - (p.length + [c].length))=q:=by
   have e3:(p++c::q).drop (p.length + [c].length)=q:=by
    rw [<-List.drop_drop,List.drop_append_of_le_length (Nat.le_refl _),List.drop_length]
    rfl
   rw [e3];exact List.take_of_length_le (by simp;omega)
  rw [e1,e2]
theorem Yl:∀(ls:List (List Nat)) (l:List Nat) (a f:Nat) (cuts:List Nat),(∀x∈l::ls,c ∉ x)->L.drop a=Ag [c,d] (l::ls)->a<=L.length->
  StrLaws.ChainG (Aa L) (Aa [c,d]) (Aa L).length a cuts f->(∀k,f<=k->¬StrLaws.At (Aa L) (Aa [c,d]) (Aa L).length k)->StrLaws.partsFrom (Aa L) 2 a cuts=(l::ls).map Aa
 | [],l,a,f,cuts,hc,hd,ha,hch,hn=>by
  have hj:Ag [c,d] [l]=l:=rfl;rw [hj] at hd;have hno:∀k,a<=k->¬StrLaws.At (Aa L) (Aa [c,d]) (Aa L).length k:=λk hk h=>by
   have h1:=(Hv.mp h).2;have e:L.drop k=(L.drop a).drop (k - a):=by rw [List.drop_drop];congr 1;omega
   rw [e,hd] at h1;cases hq:l.drop (k - a) with
   | nil=>rw [hq] at h1;cases h1
   | cons x r=>
    rw [hq] at h1;simp at h1;exact hc l (by simp) (h1.1 ▸ List.mem_of_mem_drop (hq ▸ List.mem_cons_self ..))
  cases cuts with
  | nil=>
   show [Builtin.Str.strSub (Aa L) a (Aa L).length]= [Aa l];rw [Oj,Be,hd]
   congr 2
   have:l.length=L.length - a:=by rw [<-hd];simp
   exact List.take_of_length_le (by omega)
  | cons k r=>exact absurd hch.2.1 (hno k hch.1)
 | l'::ls,l,a,f,cuts,hc,hd,ha,hch,hn=>by
  have hj:Ag [c,d] (l::l'::ls)=l++ [c,d]++Ag [c,d] (l'::ls):=rfl;rw [hj] at hd;have hlen:L.length=a + (l.length + 2 + (Ag [c,d] (l'::ls)).length):=by have:=congrArg List.length hd;simp at this;omega
  have e1:L.drop (a + l.length)= [c,d]++Ag [c,d] (l'::ls):=by rw [<-List.drop_drop,hd];simp
  have hat:StrLaws.At (Aa L) (Aa [c,d]) (Aa L).length (a + l.length):=Hv.mpr ⟨by simp;omega,by rw [e1];simp⟩;have hno:∀k,a<=k->k < a + l.length->¬StrLaws.At (Aa L) (Aa [c,d]) (Aa L).length k:=λk h1 h2 h=>by
   have h3:=(Hv.mp h).2;have e:L.drop k=(L.drop a).drop (k - a):=by rw [List.drop_drop];congr 1;omega
   have hk:k - a < l.length:=by omega
   rw [e,hd,List.append_assoc] at h3;exact hc l (by simp) (Yj hk h3)
  cases cuts with
  | nil=>
   have hf:f=a:=hch;exact absurd hat (hn _ (by omega))
  | cons k r=>
   obtain ⟨h1,h2,h3,h4⟩:=hch;have hk:k=a + l.length:=by
    rcases Nat.lt_trichotomy k (a + l.length) with z | z | z
    ·exact absurd h2 (hno k h1 z)
    ·exact z
    ·exact absurd hat (h3 _ (by omega) z)
   subst hk;have h4':StrLaws.ChainG (Aa L) (Aa [c,d]) (Aa L).length (a + l.length + 2) r f:=h4;have ih:=Yl ls l' (a + l.length + 2) f r (λx hx=>hc x (List.mem_cons_of_mem _ hx)) (by rw [<-List.drop_drop,e1];simp) (by omega) h4' hn;show Builtin.Str.strSub (Aa L) a (a + l.length)::StrLaws.partsFrom (Aa L) 2 (a + l.length + 2) r=Aa l::_;rw [ih,Oj,hd]
   congr 2
   rw [show a + l.length - a=l.length by omega,List.append_assoc,List.take_append_of_le_length (Nat.le_refl _),List.take_length]
theorem Zj (hc:∀x∈l::ls,c ∉ x) (hcd:c < 256/\d < 256):Txt.split (Aa (Ag [c,d] (l::ls))) (Aa [c,d])=(l::ls).map Aa:=by
 have key:=StrLaws.occ_tight (Aa (Ag [c,d] (l::ls))) (Aa [c,d]) (by simp);obtain ⟨f,h1,h2⟩:=key;have hp:=Yl (c:=c) (d:=d) (L:=Ag [c,d] (l::ls)) ls l 0 f _ hc rfl (by omega) h1 h2;cases ls with
 | nil=>
  have hj:Ag [c,d] [l]=l:=rfl;rw [hj] at *;unfold Txt.split;split
  ·rfl
  ·split
   ·rfl
   ·rw [StrLaws.partsBetween_eq];exact hp
 | cons l' ls=>
  have hat:StrLaws.At (Aa (Ag [c,d] (l::l'::ls))) (Aa [c,d]) (Aa (Ag [c,d] (l::l'::ls))).length l.length:=Hv.mpr (by have hj:Ag [c,d] (l::l'::ls)=l++ [c,d]++Ag [c,d] (l'::ls):=rfl;rw [hj];exact ⟨by simp,by simp⟩)
  unfold Txt.split;rw [if_neg,if_neg]
  ·rw [StrLaws.partsBetween_eq];exact hp
  ·intro he;have h0:Builtin.Str.occurrences (Aa (Ag [c,d] (l::l'::ls))) (Aa [c,d]) 0 (Aa (Ag [c,d] (l::l'::ls))).length ((Aa (Ag [c,d] (l::l'::ls))).length + 1)= []:=List.isEmpty_iff.mp he;rw [h0] at h1;have hf:f=0:=h1;exact h2 l.length (by omega) hat
  ·have hk:Builtin.Str.strKind (Aa [c,d])=1:=by unfold Builtin.Str.strKind Aa;rw [if_pos];simp [hcd.1,hcd.2]
   have hk2:1<=Builtin.Str.strKind (Aa (Ag [c,d] (l::l'::ls))):=by
    unfold Builtin.Str.strKind;split
    ·exact Nat.le_refl _
    ·split <;> omega
   have hl:=hat.1;rw [hk];simp only [Bool.or_eq_true,decide_eq_true_eq,not_or];omega
theorem ZBq {sep:List Nat} :Txt.join (Aa sep) (ls.map Aa)=Aa (Ag sep ls):=DL.Qo (by
 rw [ZBE,Dl,Dl,List.map_map]
 congr 1
 have:((λx:Str=>x.cps.toList) ∘ Aa)=id:=by funext l;simp
 rw [this,List.map_id])
theorem Ti {sep:List Nat} {B:Nat}:∀(ls:List (List Nat)),(∀l∈ls,l.length<=B)->(Ag sep ls).length<=ls.length * (B + sep.length)
 | [],_=>by simp [Ag]
 | [x],h=>by have:=h x (by simp);show x.length<=1 * (B + sep.length);omega
 | x::y::r,h=>by
  have h1:=h x (by simp);have ih:=Ti (sep:=sep) (y::r) λl hl=>h l (List.mem_cons_of_mem _ hl)
  show (x++sep++Ag sep (y::r)).length<=(y::r).length.succ * (B + sep.length);rw [List.length_append,List.length_append,Nat.succ_mul];omega
def num (n:Int):List Nat:=(Nat.toDigits 10 n.toNat).map Char.toNat
theorem Wt (h:0<=n):Str.ofString (toString n)=Aa (num n):=by obtain ⟨m,rfl⟩:=Int.eq_ofNat_of_zero_le h;refine DL.Qo ?_;rw [Dl];exact PySem.W.KIN.signs_num m
theorem T6:∀c∈num n,48<=c/\c<=57:=λc hc=>by
 obtain ⟨ch,hch,e⟩:=List.mem_map.mp hc;have r:=Nat.isDigit_of_mem_toDigits (by decide) (by decide) hch;rw [<-e];have h1:48<=ch.toNat/\ch.toNat<=57:=by unfold Char.isDigit at r;simp at r;exact ⟨r.1,r.2⟩
 exact h1
theorem Z7 (n:Nat):NumText.digitsVal (num n)=n:=by unfold num;exact PySem.W.KIN.val_back n
theorem Ru (h:¬m < 10):Nat.toDigits 10 m=Nat.toDigits 10 (m / 10)++ [Nat.digitChar (m % 10)]:=by have hm:m % 10 < 10:=Nat.mod_lt m (by decide);have t:Nat.toDigits 10 (m / 10)++Nat.toDigits 10 (m % 10)=Nat.toDigits 10 (10 * (m / 10) + m % 10):=Nat.toDigits_append_toDigits (by decide) (by omega) hm;rw [Nat.div_add_mod] at t;rw [<-t,Nat.toDigits_of_lt_base hm]
theorem W8:∀(k m:Nat),1<=k->m < 10 ^ k->(Nat.toDigits 10 m).length<=k
 | 0,m,h,_=>by omega
 | k + 1,m,_,h=>by
  by_cases hm:m < 10
  ·rw [Nat.toDigits_of_lt_base hm];simp
  ·rw [Ru hm,List.length_append];have hk:1<=k:=by
    cases k with
    | zero=>omega
    | succ k=>omega
   have h1:m / 10 < 10 ^ k:=by rw [Nat.pow_succ] at h;omega
   have:=W8 k (m / 10) hk h1;simp;omega
theorem ZCz (m:Nat):Nat.toDigits 10 m≠ []:=by
 by_cases hm:m < 10
 ·rw [Nat.toDigits_of_lt_base hm];simp
 ·rw [Ru hm];simp
theorem ZCG:∀d:Nat,d < 10->(Nat.digitChar d).toNat=48 + d:=by decide
theorem ZBA (m:Nat):m≠0->∃c r,Nat.toDigits 10 m=c::r/\c.toNat≠48:=by
 induction m using Nat.strongRecOn with
 | _ m ih=>
  intro h0;by_cases hm:m < 10
  ·rw [Nat.toDigits_of_lt_base hm];refine ⟨_,[],rfl,?_⟩;rw [ZCG m hm];omega
  ·obtain ⟨c,r,e,hc⟩:=ih (m / 10) (by omega) (by omega);rw [Ru hm,e];exact ⟨c,r++ [Nat.digitChar (m % 10)],rfl,hc⟩
theorem W9:num n≠ []:=by unfold num;intro e;exact ZCz _ (List.map_eq_nil_iff.mp e)
theorem Cj (h1:n < 10 ^ 40):(num n).length<=40:=by
 unfold num;rw [List.length_map];refine W8 40 n.toNat (by decide) ?_;have h2:(10:Int) ^ 40=((10 ^ 40:Nat):Int):=by decide
 rw [h2] at h1;have h3:0 < 10 ^ 40:=by decide
 generalize 10 ^ 40=N at *;omega
theorem ZD1 (h0:0<=n):n=0∨∃c r,num n=c::r/\c≠48:=by
 by_cases h:n=0
 ·exact .inl h
 ·obtain ⟨c,r,e,hc⟩:=ZBA n.toNat (by omega);refine .inr ⟨c.toNat,r.map Char.toNat,?_,hc⟩;unfold num;rw [e]
  rfl
theorem ZDl (h0:0<=n) (h1:n < 10 ^ 40):PySem.intText? (Aa (num n))=some n:=by have hl:=Cj h1;have:=intText_digits (x:=Aa (num n)) (by rw [Dl];exact T6) (by rw [Dl];exact W9) (by rw [Be];omega);rw [Dl] at this;rw [this];obtain ⟨m,rfl⟩:=Int.eq_ofNat_of_zero_le h0;rw [Z7]
theorem Vr (h0:0<=n) (h1:n < 10 ^ 40):n.natAbs.log2 < 1920:=by
 by_cases hz:n.natAbs=0
 ·rw [hz];decide
 ·rw [Nat.log2_lt hz];have h2:(10:Int) ^ 40=((10 ^ 40:Nat):Int):=by decide
  have h3:(10:Nat) ^ 40 < 2 ^ 200:=by decide
  have h4:(2:Nat) ^ 200<=2 ^ 1920:=Nat.pow_le_pow_right (by decide) (by decide);rw [h2] at h1;have h5:n.natAbs < 10 ^ 40:=by generalize 10 ^ 40=N at *;omega
  exact Nat.lt_of_lt_of_le (Nat.lt_trans h5 h3) h4
theorem Rk (h0:0<=n) (h1:n < 10 ^ 40) (G:DH):Gm [.int n] G=.ok (.str (Aa (num n))) G:=by
 have e:Gm [.int n] G=if n.natAbs.log2 < 1920 then .ok (.str (Str.ofString (toString n))) G else .bad:=rfl
 rw [e,if_pos (Vr h0 h1),Wt h0]
theorem Lw (h0:0<=n) (h1:n < 10 ^ 40):Hz (.int n)=some (Aa (num n)):=by
 have e:Hz (.int n)=if n.natAbs.log2 < 1920 then some (Str.ofString (toString n)) else none:=rfl
 rw [e,if_pos (Vr h0 h1),Wt h0]
theorem Wu (h:l.length<=1000000):Hz (.str (Aa l))=some (Aa l):=if_pos (by rw [Be];exact h)
theorem ZBU:∀c∈List.range' 48 10,inD (sgn c) (.str ("0123456789":Str)) []=some true:=by decide +kernel
theorem ZCa (h1:48<=c) (h2:c<=57) (G:DH):Jd (sgn c) (.str ("0123456789":Str)) G=.ok (.bl true) G:=by have h:=ZBU c (List.mem_range'_1.mpr ⟨h1,by omega⟩);have e:inD (sgn c) (.str ("0123456789":Str)) G=inD (sgn c) (.str ("0123456789":Str)) []:=rfl;unfold Jd;rw [e,h]
theorem Vz {x:Nat}:Txt.startswith (Aa (c::l)) (Aa [x])=decide (c=x):=by
 unfold Txt.startswith;rw [StrLaws.subAt_eq,Dl,Dl,Be,Be];by_cases h:c=x
 ·subst h;simp
 ·simp [h]
theorem Y5 (G:DH):∀l:List Nat,(∀c∈l,48<=c/\c<=57)->Cq (gV 0) Dt Oz [none] (l.map sgn) G=.ok ((l.map λ_=>true).map D.bl) G
 | [],_=>rfl
 | c::l,h=>by
  have ih:=Y5 G l λx hx=>h x (List.mem_cons_of_mem _ hx)
  have hc:=h c (by simp);have he:Oz [some (sgn c)] G=.ok (.bl true) G:=by have:=ZCa hc.1 hc.2 G;unfold Oz;generalize sgn c=z at *;generalize ("0123456789":Str)=F at *;simp [this]
  rw [List.map_cons,Js];simp [he,ih]
theorem ZEU (h0:0<=n) (h1:n < 10 ^ 40) (G:DH):Om [.str (Aa (num n))] G=.ok (.bl true) G:=by
 have hl:=Cj h1;have hne:1<=(num n).length:=List.length_pos_iff.mpr W9;have hc:=Y5 G (num n) λc hc=>T6 c hc
 have fz:freeze G (.ok (.ref G.length) (G++ [.lst (((num n).map λ_=>true).map D.bl)]))=.ok (.fl (((num n).map λ_=>true).map D.bl)) G:=Ej (Ga λ_ _=>rfl);have al:Ir [.fl (((num n).map λ_=>true).map D.bl)] G=.ok (.bl true) G:=by rw [U7];simp
 have ll:(((num n).map λ_=>true).map D.bl).length<=1000000:=by simp;omega
 have hs:Ea (.str (Aa (num n))) G=.ok (.pure ((num n).map sgn)) G:=by show R.ok (ItD.pure (signs (Aa (num n)))) G=_;unfold signs;rw [Dl]
 have i0:(Aa (num n)).length<=1000000:=by rw [Be];omega
 have i1:(1:Int)<=((Aa (num n)).length:Int):=by rw [Be];omega
 have i2:((Aa (num n)).length:Int)<=40:=by rw [Be];omega
 have i3:(Aa (num n)).length<=40:=by rw [Be];omega
 have i4:1<=(Aa (num n)).length:=by rw [Be];omega
 have hz:Txt.startswith (Aa (num n)) ("0":Str)=false∨Aa (num n)=("0":Str):=by
  have e0:("0":Str)=Aa [48]:=by decide +kernel
  rcases ZD1 h0 with rfl | ⟨c,r,e,hc⟩
  ·refine .inr ?_;rw [e0]
   decide +kernel
  ·refine .inl ?_;rw [e,e0,Vz];simp [hc]
 have hcs:∀S:DSt,Ao 1 [] S= [none]:=λ_=>rfl
 generalize ((num n).map λ_=>true).map D.bl=Z at *;generalize Aa (num n)=X at *;unfold Om O5;rw [Bh];by_cases hz0:X=("0":Str)
 ·have hz':(X=("0":Str))=True:=by simp [hz0]
  simp [-U7,-Wm,i0,i1,i2,i3,i4,hs,hcs,hc,ll,fz,al,hz',Bf]
 ·have hz':(X=("0":Str))=False:=by simp [hz0]
  have hst:Txt.startswith X ("0":Str)=false:=by
   rcases hz with z | z
   ·exact z
   ·exact absurd z hz0
  simp [-U7,-Wm,i0,i1,i2,i3,i4,hs,hcs,hc,ll,fz,al,hst,hz',Bf]
theorem Qq (h0:0<=n) (h1:n < 10 ^ 40) (G:DH):Iu [.str (Aa (num n)),r] G=.ok (.int n) G:=by
 have hl:=Cj h1;have hr:=ZDl h0 h1;have hit:Jt [.str (Aa (num n))] G=.ok (.int n) G:=by unfold Jt;simp only [hr];rw [if_pos (by rw [Be];omega)]
 have hn:=ZEU h0 h1 G;generalize Aa (num n)=X at *;unfold Iu Ih;rw [Bh];simp [hn,hit,Bf]
def wyL (r:Bool):List Nat:=if r then [114,105,118,101,114] else [112,117,109,112]
theorem R8 {r:Bool}:wy r=Aa (wyL r):=by cases r <;> decide +kernel
def stL (s:Stp):List Nat:=num s.h++43::(num s.m++32::wyL s.r)
def Cu:List Stp->List Nat
 | []=> []
 | s::r=>32::Ag [44,32] ((s::r).map stL)
def snL (s:Ssn):List Nat:=num s.1++58::Cu s.2
def ruL (r:List Ssn):List Nat:=Ag [59,32] (r.map snL)
def StpOk (s:Stp):Prop:=(0<=s.h/\s.h < 10 ^ 40)/\(0<=s.m/\s.m < 10 ^ 40)
def SsnOk (s:Ssn):Prop:=(0<=s.1/\s.1 < 10 ^ 40)/\s.2.length<=4/\∀t∈s.2,StpOk t
structure RuOk (r:List Ssn):Prop where
 ne:r≠ []
 len:r.length<=5
 ok:∀s∈r,SsnOk s
theorem Hr (h:c < 48∨57 < c):c ∉ num n:=λhc=>by have:=T6 c hc;omega
theorem Og {r:Bool}:(wyL r).length<=5:=by cases r <;> decide
theorem ZAi {r:Bool} (h:c < 97):c ∉ wyL r:=λhc=>by cases r <;> simp [wyL] at hc <;> omega
theorem Qw {s:Stp} (h:StpOk s):(stL s).length<=87:=by have h1:=Cj h.1.2;have h2:=Cj h.2.2;have h3:=Og (r:=s.r);simp [stL];omega
theorem Ye {s:Stp} (h:c=44∨c=59):c ∉ stL s:=λhc=>by
 unfold stL at hc;rcases List.mem_append.mp hc with h1 | h1
 ·exact Hr (by omega) h1
 ·rcases List.mem_cons.mp h1 with h1 | h1
  ·omega
  ·rcases List.mem_append.mp h1 with h1 | h1
   ·exact Hr (by omega) h1
   ·rcases List.mem_cons.mp h1 with h1 | h1
    ·omega
    ·exact ZAi (by omega) h1
theorem Xk {sep:List Nat} :∀(ls:List (List Nat)),c∈Ag sep ls->c∈sep∨∃l∈ls,c∈l
 | [],h=>by cases h
 | [x],h=>.inr ⟨x,by simp,h⟩
 | x::y::r,h=>by
  have h':c∈x++sep++Ag sep (y::r):=h;rcases List.mem_append.mp h' with h1 | h1
  ·rcases List.mem_append.mp h1 with h1 | h1
   ·exact .inr ⟨x,by simp,h1⟩
   ·exact .inl h1
  ·rcases Xk (sep:=sep) (y::r) h1 with h2 | ⟨l,hl,h2⟩
   ·exact .inl h2
   ·exact .inr ⟨l,List.mem_cons_of_mem _ hl,h2⟩
theorem ZDS:59 ∉ Cu st:=λhc=>by
 cases st with
 | nil=>cases hc
 | cons s r=>
  rcases List.mem_cons.mp hc with h | h
  ·omega
  ·rcases Xk _ h with h | ⟨l,hl,h⟩
   ·simp at h
   ·obtain ⟨t,_,rfl⟩:=List.mem_map.mp hl;exact Ye (.inr rfl) h
theorem ZAy:59 ∉ snL s:=λhc=>by
 unfold snL at hc;rcases List.mem_append.mp hc with h1 | h1
 ·exact Hr (by omega) h1
 ·rcases List.mem_cons.mp h1 with h1 | h1
  ·omega
  ·exact ZDS h1
theorem Mj (hl:st.length<=4) (h:∀t∈st,StpOk t):(Cu st).length<=400:=by
 cases st with
 | nil=>simp [Cu]
 | cons s r=>
  have:=Ti (sep:= [44,32]) (B:=87) ((s::r).map stL) λl hl=>by obtain ⟨t,ht,rfl⟩:=List.mem_map.mp hl;exact Qw (h t ht)
  rw [List.length_map] at this;have h2:(s::r).length * (87 + [44,32].length)<=4 * (87 + [44,32].length):=Nat.mul_le_mul_right _ hl;show (Ag [44,32] ((s::r).map stL)).length + 1<=400;simp only [List.length_cons,List.length_nil] at h2 this;omega
theorem Ua (h:SsnOk s):(snL s).length<=450:=by have h1:=Cj h.1.2;have h2:=Mj h.2.1 h.2.2;simp [snL];omega
theorem ZED {r:List Ssn} (h:RuOk r):(ruL r).length<=2260:=by
 have:=Ti (sep:= [59,32]) (B:=450) (r.map snL) λl hl=>by obtain ⟨t,ht,rfl⟩:=List.mem_map.mp hl;exact Ua (h.ok t ht)
 rw [List.length_map] at this;have h2:r.length * (450 + [59,32].length)<=5 * (450 + [59,32].length):=Nat.mul_le_mul_right _ h.len;unfold ruL;simp only [List.length_cons,List.length_nil] at h2 this;omega
theorem Sv {p q:List Nat} (hp:c ∉ p) (hl:(p++c::q).length<=1000000) (G:DH):G7 (.str (Aa (p++c::q))) [.str (Aa [c])] G=.ok (.tup [.str (Aa p),.str (Aa [c]),.str (Aa q)]) G:=by
 have e:G7 (.str (Aa (p++c::q))) [.str (Aa [c])] G=if (Aa [c]).length≠0/\(Aa (p++c::q)).length<=1000000 then .ok (.tup (part3 (Aa (p++c::q)) (Aa [c]))) G else .bad:=rfl
 rw [e,if_pos ⟨by simp,by rw [Be];exact hl⟩];unfold part3;rw [ZC8 hp]
theorem ZD2 {r:Bool} (G:DH):Jw (.str (Aa (wyL r))) (.tup [.str "river",.str "pump"]) G=.ok (.bl false) G:=by
 have:∀r:Bool,inD (.str (Aa (wyL r))) (.tup [.str "river",.str "pump"]) []=some true:=by decide +kernel
 have e:inD (.str (Aa (wyL r))) (.tup [.str "river",.str "pump"]) G=inD (.str (Aa (wyL r))) (.tup [.str "river",.str "pump"]) []:=rfl;unfold Jw;rw [e,this]
 rfl
theorem ZEA {s:Stp} (h:StpOk s) (G:DH):Ng [.str (Aa (stL s)),r] G=.ok s.enc G:=by
 have h1:=Cj h.1.2;have h2:=Cj h.2.2;have h3:=Og (r:=s.r);have p1:=λG=>Sv (p:=num s.h) (q:=num s.m++32::wyL s.r) (c:=43) (Hr (by omega)) (by simp;omega) G
 have p2:=λG=>Sv (p:=num s.m) (q:=wyL s.r) (c:=32) (Hr (by omega)) (by simp;omega) G
 have e1:("+":Str)=Aa [43]:=by decide +kernel
 have e2:(" ":Str)=Aa [32]:=by decide +kernel
 rw [<-e1] at p1;rw [<-e2] at p2;have n1:=λG=>Qq h.1.1 h.1.2 (r:=r) G
 have n2:=λG=>Qq h.2.1 h.2.2 (r:=r) G
 have w:=λG=>ZD2 (r:=s.r) G
 have es:stL s=num s.h++43::(num s.m++32::wyL s.r):=rfl;rw [es];unfold Stp.enc;rw [R8];generalize Aa (num s.h++43::(num s.m++32::wyL s.r))=X1 at *;generalize Aa (num s.m++32::wyL s.r)=X2 at *;generalize Aa (num s.h)=X3 at *;generalize Aa (num s.m)=X4 at *;generalize Aa (wyL s.r)=X5 at *;unfold Ng O6;rw [Bh];simp [p1,p2,w,n1,n2,Bf]
theorem Yc {r:D} (G:DH):∀st:List Stp,(∀s∈st,StpOk s)->Cq (gV 0) Dt M5 [none,some r] ((st.map λs=>Aa (stL s)).map D.str) G=.ok (st.map Stp.enc) G
 | [],_=>rfl
 | s::st,h=>by
  have ih:=Yc (r:=r) G st λx hx=>h x (List.mem_cons_of_mem _ hx)
  have hs:=ZEA (h s (by simp)) (r:=r) G;have he:M5 [some (.str (Aa (stL s))),some r] G=.ok s.enc G:=by generalize Aa (stL s)=X at *;unfold M5;simp [hs]
  rw [List.map_cons,List.map_cons,Js];simp only [El,R.Gd,List.set,Mr,if_true,he,ih]
  rfl
theorem Wr (hc:∀x∈l::ls,c ∉ x) (hcd:c < 256/\d < 256) (hl:(Ag [c,d] (l::ls)).length<=1000000) (G:DH):Ig (.str (Aa (Ag [c,d] (l::ls)))) [.str (Aa [c,d])] G=.ok (.ref G.length) (G++ [.lst (((l::ls).map Aa).map D.str)]):=by
 have e:Ig (.str (Aa (Ag [c,d] (l::ls)))) [.str (Aa [c,d])] G=if (Aa [c,d]).length≠0/\(Aa (Ag [c,d] (l::ls))).length<=1000000 then .ok (.ref G.length) (G++ [.lst ((Txt.split (Aa (Ag [c,d] (l::ls))) (Aa [c,d])).map D.str)]) else .bad:=rfl
 rw [e,if_pos ⟨by simp,by rw [Be];exact hl⟩,Zj hc hcd]
theorem Kr {l:List Str}:bels m (l.map D.str)=true:=Ga λ_ _=>rfl
theorem ZAu (hl:st.length<=4) (h:∀s∈st,StpOk s) (G:DH):Ky [.str (Aa (Cu st)),r] G=.ok (.tup (st.map Stp.enc)) G:=by
 have e0:("":Str)=Aa []:=by decide +kernel
 cases st with
 | nil=>
  have ht:Cu []= []:=rfl;rw [ht,<-e0];unfold Ky Kc;rw [Bh];simp [Bf]
 | cons s st=>
  have htl:=Mj hl h;have ht:Cu (s::st)=32::Ag [44,32] ((s::st).map stL):=rfl;rw [ht] at htl ⊢;have hne:¬Aa (32::Ag [44,32] ((s::st).map stL))=("":Str):=by rw [e0,ZBh];simp
  have e1:(" ":Str)=Aa [32]:=by decide +kernel
  have hst:Txt.startswith (Aa (32::Ag [44,32] ((s::st).map stL))) (" ":Str)=true:=by rw [e1,Vz];simp
  have hsl:Nh (.str (Aa (32::Ag [44,32] ((s::st).map stL)))) (some 1) none G=.ok (.str (Aa (Ag [44,32] ((s::st).map stL)))) G:=by
   rw [Yb,if_pos (by rw [Be];omega)];show R.ok (D.str (Aa (cutD (Aa (32::Ag [44,32] ((s::st).map stL))).cps.toList (some 1) none))) G=_;rw [Dl];have:=ZCE (xs:=32::Ag [44,32] ((s::st).map stL)) (a:=1) (by simp);have e:cutD (32::Ag [44,32] ((s::st).map stL)) (some 1) none=(32::Ag [44,32] ((s::st).map stL)).drop 1:=this;rw [e]
   rfl
  have hsp:=Wr (c:=44) (d:=32) (l:=stL s) (ls:=st.map stL) (λx hx=>by
   have hx':x∈(s::st).map stL:=hx;obtain ⟨t,_,rfl⟩:=List.mem_map.mp hx';exact Ye (.inl rfl)) (by decide) (by
   have:(32::Ag [44,32] ((s::st).map stL)).length<=400:=htl;simp only [List.length_cons] at this;have e:Ag [44,32] (stL s::st.map stL)=Ag [44,32] ((s::st).map stL):=rfl;rw [e];omega) G
  have e2:(", ":Str)=Aa [44,32]:=by decide +kernel
  rw [<-e2] at hsp;have e3:(stL s::st.map stL).map Aa=(s::st).map λs=>Aa (stL s):=by simp
  have e4:Ag [44,32] (stL s::st.map stL)=Ag [44,32] ((s::st).map stL):=rfl;rw [e3,e4] at hsp;have cc:=Yc (r:=r) G (s::st) h;have fz:freeze G (.ok (.ref G.length) (G++ [.lst (((s::st).map λs=>Aa (stL s)).map D.str)]))=.ok (.fl (((s::st).map λs=>Aa (stL s)).map D.str)) G:=Ej Kr;have fz2:freeze G (.ok (.ref G.length) (G++ [.lst ((s::st).map Stp.enc)]))=.ok (.fl ((s::st).map Stp.enc)) G:=Ej U3;have ll:((s::st).map Stp.enc).length<=1000000:=by rw [List.length_map];omega
  have fs:∀(x:Str) (G:DH),freeze G (.ok (.str x) G)=.ok (.str x) G:=λx G=>ZES rfl
  have be:bels G.length ((s::st).map Stp.enc)=true:=U3;have hcs:∀a b:Option D,Ao 1 [1] [a,b]= [none,b]:=λ_ _=>rfl
  generalize Aa (32::Ag [44,32] ((s::st).map stL))=X1 at *;generalize Aa (Ag [44,32] ((s::st).map stL))=X2 at *;generalize ((s::st).map λs=>Aa (stL s)).map D.str=X3 at *;generalize (s::st).map Stp.enc=X4 at *;unfold Ky Kc;rw [Bh];simp [-Yb,hne,hst,hsl,fs,hsp,fz,hcs,cc,ll,fz2,be,Bf]
theorem ZA8 (h:SsnOk s) (G:DH):N6 [.str (Aa (snL s)),r] G=.ok (Ai s) G:=by
 have h1:=Cj h.1.2;have h2:=Mj h.2.1 h.2.2;have p1:=λG=>Sv (p:=num s.1) (q:=Cu s.2) (c:=58) (Hr (by omega)) (by simp;omega) G
 have e1:(":":Str)=Aa [58]:=by decide +kernel
 rw [<-e1] at p1;have n1:=λG=>Qq h.1.1 h.1.2 (r:=r) G
 have n2:=λG=>ZAu h.2.1 h.2.2 (r:=r) G
 have hne:¬(":":Str)=("":Str):=by decide +kernel
 have es:snL s=num s.1++58::Cu s.2:=rfl;rw [es];unfold Ai;have be:bels G.length (s.2.map Stp.enc)=true:=U3;generalize Aa (num s.1++58::Cu s.2)=X1 at *;generalize Aa (num s.1)=X2 at *;generalize Aa (Cu s.2)=X3 at *;generalize s.2.map Stp.enc=X4 at *;unfold N6 O4;rw [Bh];simp [p1,hne,n1,n2,be,Bf]
theorem Yt {r:D} (G:DH):∀ss:List Ssn,(∀s∈ss,SsnOk s)->Cq (gV 0) Dt Oi [none,some r] ((ss.map λs=>Aa (snL s)).map D.str) G=.ok (ss.map Ai) G
 | [],_=>rfl
 | s::ss,h=>by
  have ih:=Yt (r:=r) G ss λx hx=>h x (List.mem_cons_of_mem _ hx)
  have hs:=ZA8 (h s (by simp)) (r:=r) G;have he:Oi [some (.str (Aa (snL s))),some r] G=.ok (Ai s) G:=by generalize Aa (snL s)=X at *;unfold Oi;simp [hs]
  rw [List.map_cons,List.map_cons,Js];simp only [El,R.Gd,List.set,Mr,if_true,he,ih]
  rfl
theorem ZBQ (h:RuOk ss) (G:DH):Od [.str (Aa (ruL ss))] G=.ok (.tup (ss.map Ai)) G:=by
 have hl:=ZED h;cases ss with
 | nil=>exact absurd rfl h.ne
 | cons s ss=>
  have hsp:=λG=>Wr (c:=59) (d:=32) (l:=snL s) (ls:=ss.map snL) (λx hx=>by
   have hx':x∈(s::ss).map snL:=hx;obtain ⟨t,_,rfl⟩:=List.mem_map.mp hx';exact ZAy) (by decide) (by
   have e:Ag [59,32] (snL s::ss.map snL)=ruL (s::ss):=rfl;rw [e];omega) G
  have e2:("; ":Str)=Aa [59,32]:=by decide +kernel
  have e3:(snL s::ss.map snL).map Aa=(s::ss).map λs=>Aa (snL s):=by simp
  have e4:Ag [59,32] (snL s::ss.map snL)=ruL (s::ss):=rfl;rw [<-e2,e3,e4] at hsp;have cc:=λG=>Yt (r:=.int 0) G (s::ss) h.ok
  have fz:∀G:DH,freeze G (.ok (.ref G.length) (G++ [.lst (((s::ss).map λs=>Aa (snL s)).map D.str)]))=.ok (.fl (((s::ss).map λs=>Aa (snL s)).map D.str)) G:=λG=>Ej Kr
  have fz2:∀G:DH,freeze G (.ok (.ref G.length) (G++ [.lst ((s::ss).map Ai)]))=.ok (.fl ((s::ss).map Ai)) G:=λG=>Ej Ql
  have ll:((s::ss).map Ai).length<=1000000:=by rw [List.length_map];have:=h.len;omega
  have be:bels G.length ((s::ss).map Ai)=true:=Ql;have hcs:∀a b:Option D,Ao 1 [1] [a,b]= [none,b]:=λ_ _=>rfl
  generalize Aa (ruL (s::ss))=X1 at *;generalize ((s::ss).map λs=>Aa (snL s)).map D.str=X3 at *;generalize (s::ss).map Ai=X4 at *;have hri:Pb [.str X1,.int 0] G=.ok (.tup X4) G:=by unfold Pb Oq;rw [Bh];simp [hsp,fz,hcs,cc,ll,fz2,be,Bf]
  unfold Od Pr;rw [Bh];simp [hri,be,Bf]
theorem Gy (h:l.length + l'.length<=1000000) (G:DH):Bb (.str (Aa l)) (.str (Aa l')) G=.ok (.str (Aa (l++l'))) G:=by
 have e:Bb (.str (Aa l)) (.str (Aa l')) G=if (Aa l).length + (Aa l').length<=1000000 then .ok (.str (Aa l++Aa l')) G else .bad:=rfl
 rw [e,if_pos (by rw [Be,Be];exact h),Sy]
theorem Qc {sep:List Nat} (h:(ls.map List.length).sum + ls.length * sep.length<=1000000) (G:DH):Ef (.str (Aa sep)) [.fl ((ls.map Aa).map D.str)] G=.ok (.str (Aa (Ag sep ls))) G:=by
 have e:(ls.map Aa).map (·.length)=ls.map List.length:=by rw [List.map_map];exact List.map_congr_left λl _=>by simp
 rw [ZCZ (by rw [e,List.length_map,Be];exact h),ZBq]
theorem Sg {B:Nat}:∀(ls:List (List Nat)),(∀l∈ls,l.length<=B)->(ls.map List.length).sum<=ls.length * B
 | [],_=>by simp
 | x::r,h=>by
  have h1:=h x (by simp);have ih:=Sg r λl hl=>h l (List.mem_cons_of_mem _ hl)
  rw [List.map_cons,List.sum_cons,List.length_cons,Nat.succ_mul];omega
theorem e0L:(Str.empty:Str)=Aa []:=by decide +kernel
theorem jp1 {out:List Nat} {t:DE} {S:DSt} {r:List DE} (ht:t S G=.ok (.str (Aa l)) G) (h:out.length + l.length<=1000000):dJp (Aa out) (t::r) S G=dJp (Aa (out++l)) r S G:=by rw [Qf,ht];show (if (Aa out++Aa l).length<=1000000 then _ else _)=_;rw [if_pos (by rw [Sy,Be,List.length_append];exact h),Sy]
theorem fv1 {t:DE} {S:DSt} {d:D} (ht:t S G=.ok d G) (hf:Hz d=some (Aa l)):dFv t S G=.ok (.str (Aa l)) G:=by rw [ZEQ,ht];simp only [R.Gd,hf]
theorem Vm (G:DH):∀st:List Stp,(∀s∈st,StpOk s)->Cq (Bl 3 (Ar (gV 0) (Ar (gV 1) (Ar (gV 2) Bv)))) Dt Nv [none,none,none] (st.map Stp.enc) G=.ok (((st.map stL).map Aa).map D.str) G
 | [],_=>rfl
 | s::st,h=>by
  have ih:=Vm G st λx hx=>h x (List.mem_cons_of_mem _ hx)
  have hs:=h s (by simp);have h1:=Cj hs.1.2;have h2:=Cj hs.2.2;have h3:=Og (r:=s.r);have he:Nv [some (.int s.h),some (.int s.m),some (.str (wy s.r))] G=.ok (.str (Aa (stL s))) G:=by
   have e1:("+":Str)=Aa [43]:=by decide +kernel
   have e2:(" ":Str)=Aa [32]:=by decide +kernel
   have es:stL s= []++num s.h++ [43]++num s.m++ [32]++wyL s.r:=by simp [stL]
   rw [es,R8];unfold Nv;rw [e0L,e1,e2,jp1 (fv1 (d:=.int s.h) rfl (Lw hs.1.1 hs.1.2)) (by simp;omega),jp1 (l:= [43]) rfl (by simp;omega),jp1 (fv1 (d:=.int s.m) rfl (Lw hs.2.1 hs.2.2)) (by simp;omega),jp1 (l:= [32]) rfl (by simp;omega),jp1 (fv1 (d:=.str (Aa (wyL s.r))) rfl (Wu (by omega))) (by simp;omega),Q6]
  have e0:Stp.enc s=.tup [.int s.h,.int s.m,.str (wy s.r)]:=rfl;rw [List.map_cons,List.map_cons,List.map_cons,List.map_cons,Js,e0];have hg:(Bl 3 (Ar (gV 0) (Ar (gV 1) (Ar (gV 2) Bv)))) (.tup [.int s.h,.int s.m,.str (wy s.r)]) [none,none,none] G=.ok [some (.int s.h),some (.int s.m),some (.str (wy s.r))] G:=by simp
  simp only [hg,R.Gd,Mr,if_true,he,ih]
theorem Z9 (h:SsnOk s) (G:DH):K3 [.int s.1,.tup (s.2.map Stp.enc)] G=.ok (.str (Aa (snL s))) G:=by
 have h1:=Cj h.1.2;have e1:(":":Str)=Aa [58]:=by decide +kernel
 have e2:(": ":Str)=Aa [58,32]:=by decide +kernel
 have e3:(", ":Str)=Aa [44,32]:=by decide +kernel
 cases hst:s.2 with
 | nil=>
  have es:snL s= []++num s.1++ [58]:=by unfold snL;rw [hst];simp [Cu]
  have hj:∀(S:DSt),S[0]? =some (some (.int s.1))->∀G,dJp Str.empty [dFv (dV 0),dC (.str ":")] S G=.ok (.str (Aa (snL s))) G:=λS hS G=>by rw [es,e0L,e1,jp1 (fv1 (d:=.int s.1) (by rw [Rx,hS]) (Lw h.1.1 h.1.2)) (by simp;omega),jp1 (l:= [58]) rfl (by simp;omega),Q6]
  unfold K3 Lb;rw [Bh];have hj1:=hj [some (.int s.1),some (.tup []),none] rfl;simp [-Qf,hj1,Bf]
 | cons t r=>
  have hl:=h.2.1;have hok:=h.2.2;rw [hst] at hl hok;have htl:=Mj hl hok;have hc:=λG=>Vm G (t::r) hok
  have hB:∀l∈(t::r).map stL,l.length<=87:=λl hl=>by obtain ⟨u,hu,rfl⟩:=List.mem_map.mp hl;exact Qw (hok u hu)
  have hjo:=λG=>Qc (sep:= [44,32]) (ls:=(t::r).map stL) (by have h5:=Sg _ hB;rw [List.length_map] at h5 ⊢;have h6:(t::r).length * 87<=4 * 87:=Nat.mul_le_mul_right _ hl;have h7:(t::r).length * [44,32].length<=4 * 2:=Nat.mul_le_mul_right _ hl;omega) G
  rw [<-e3] at hjo;have htt:Cu (t::r)=32::Ag [44,32] ((t::r).map stL):=rfl;have hjl:(Ag [44,32] ((t::r).map stL)).length<=400:=by rw [htt] at htl;simp only [List.length_cons] at htl;omega
  have es:snL s= []++num s.1++ [58,32]++Ag [44,32] ((t::r).map stL):=by unfold snL;rw [hst,htt];simp
  have hj:∀(S:DSt),S[0]? =some (some (.int s.1))->S[2]? =some (some (.str (Aa (Ag [44,32] ((t::r).map stL)))))->∀G,dJp Str.empty [dFv (dV 0),dC (.str ": "),dFv (dV 2)] S G=.ok (.str (Aa (snL s))) G:=λS hS hS2 G=>by rw [es,e0L,e2,jp1 (fv1 (d:=.int s.1) (by rw [Rx,hS]) (Lw h.1.1 h.1.2)) (by simp;omega),jp1 (l:= [58,32]) rfl (by simp;omega),jp1 (fv1 (d:=.str (Aa (Ag [44,32] ((t::r).map stL)))) (by rw [Rx,hS2]) (Wu (by omega))) (by rw [List.length_append,List.length_append];simp only [List.length_nil,List.length_cons];omega),Q6]
  have fz:∀G:DH,freeze G (.ok (.ref G.length) (G++ [.lst ((((t::r).map stL).map Aa).map D.str)]))=.ok (.fl ((((t::r).map stL).map Aa).map D.str)) G:=λG=>Ej Kr
  have ll:((((t::r).map stL).map Aa).map D.str).length<=1000000:=by rw [List.length_map,List.length_map,List.length_map];omega
  have hcs:∀S:DSt,Ao 3 [] S= [none,none,none]:=λ_=>rfl
  have hlen:∀G,Dg [.tup ((t::r).map Stp.enc)] G=.ok (.int ((r.length:Int) + 1)) G:=λG=>by simp
  have hnz:¬((r.length:Int) + 1=0):=by omega
  have hj1:=hj [some (.int s.1),some (.tup ((t::r).map Stp.enc)),some (.str (Aa (Ag [44,32] ((t::r).map stL))))] rfl rfl;generalize (((t::r).map stL).map Aa).map D.str=Z at *;generalize (t::r).map Stp.enc=Y at *;generalize Aa (Ag [44,32] ((t::r).map stL))=W at *;unfold K3 Lb;rw [Bh];simp [-Qf,hlen,hnz,hcs,hc,ll,fz,hjo,hj1,Bf]
theorem Xv (G:DH):∀ss:List Ssn,(∀s∈ss,SsnOk s)->Cq (Bl 2 (Ar (gV 0) (Ar (gV 1) Bv))) Dt Ot [none,none] (ss.map Ai) G=.ok (((ss.map snL).map Aa).map D.str) G
 | [],_=>rfl
 | s::ss,h=>by
  have ih:=Xv G ss λx hx=>h x (List.mem_cons_of_mem _ hx)
  have hs:=Z9 (h s (by simp)) G;have he:Ot [some (.int s.1),some (.tup (s.2.map Stp.enc))] G=.ok (.str (Aa (snL s))) G:=by generalize s.2.map Stp.enc=Y at *;unfold Ot;simp [hs]
  have e0:Ai s=.tup [.int s.1,.tup (s.2.map Stp.enc)]:=rfl;rw [List.map_cons,List.map_cons,List.map_cons,List.map_cons,Js,e0];have hg:(Bl 2 (Ar (gV 0) (Ar (gV 1) Bv))) (.tup [.int s.1,.tup (s.2.map Stp.enc)]) [none,none] G=.ok [some (.int s.1),some (.tup (s.2.map Stp.enc))] G:=by simp
  simp only [hg,R.Gd,Mr,if_true,he,ih]
theorem Wq (h:RuOk ss):((ss.map snL).map List.length).sum + (ss.map snL).length * [59,32].length<=1000000:=by
 have h5:=Sg (B:=450) (ss.map snL) λl hl=>by obtain ⟨u,hu,rfl⟩:=List.mem_map.mp hl;exact Ua (h.ok u hu)
 rw [List.length_map] at h5 ⊢;have h6:ss.length * 450<=5 * 450:=Nat.mul_le_mul_right _ h.len;have h7:ss.length * [59,32].length<=5 * 2:=Nat.mul_le_mul_right _ h.len;omega
theorem ZBO (h:RuOk ss) (G:DH):O2 [.tup (ss.map Ai)] G=.ok (.str (Aa (ruL ss))) G:=by
 have hc:=Xv G ss h.ok;have hjo:=Qc (sep:= [59,32]) (ls:=ss.map snL) (Wq h) G;have e2:("; ":Str)=Aa [59,32]:=by decide +kernel
 rw [<-e2] at hjo;have er:Ag [59,32] (ss.map snL)=ruL ss:=rfl;rw [er] at hjo;have fz:freeze G (.ok (.ref G.length) (G++ [.lst (((ss.map snL).map Aa).map D.str)]))=.ok (.fl (((ss.map snL).map Aa).map D.str)) G:=Ej Kr;have ll:(((ss.map snL).map Aa).map D.str).length<=1000000:=by rw [List.length_map,List.length_map,List.length_map];have:=h.len;omega
 have hcs:∀S:DSt,Ao 2 [] S= [none,none]:=λ_=>rfl
 generalize ((ss.map snL).map Aa).map D.str=Z at *;generalize ss.map Ai=Y at *;unfold O2 Ox;rw [Bh];simp [hcs,hc,ll,fz,hjo,Bf]
def mkL (first:Bool):List Nat:=if first then [32] else [44,32]
def goL:Bool->List Stp->List Nat
 | _,[]=> []
 | b,s::r=>mkL b++stL s++goL false r
theorem Vv:∀(s:Stp) (r:List Stp),stL s++goL false r=Ag [44,32] ((s::r).map stL)
 | s,[]=>by simp [goL,Ag]
 | s,t::r=>by have ih:=Vv t r;show stL s++([44,32]++stL t++goL false r)=stL s++ [44,32]++Ag [44,32] ((t::r).map stL);rw [<-ih];simp
theorem ZBD:goL true st=Cu st:=by
 cases st with
 | nil=>rfl
 | cons s r=>
  show [32]++stL s++goL false r=32::Ag [44,32] ((s::r).map stL);rw [<-Vv];simp
def mkS (b:Bool):Str:=if b then " " else ", "
theorem ZDb {b:Bool}:mkS b=Aa (mkL b):=by cases b <;> decide +kernel
theorem Xm {s0 s1 s2 s3:Option D} {G:DH}:∀(st:List Stp) (b:Bool) (T:List Nat) (x6 x7 x8:Option D),(∀s∈st,StpOk s)->T.length + st.length * 89<=10000->∃y5 y6 y7 y8,
  Bs (Bl 3 (Ar (gV 6) (Ar (gV 7) (Ar (gV 8) Bv)))) O7 (st.map Stp.enc) [s0,s1,s2,s3,some (.str (Aa T)),some (.str (mkS b)),x6,x7,x8] G=
   .nx [s0,s1,s2,s3,some (.str (Aa (T++goL b st))),y5,y6,y7,y8] G
 | [],b,T,x6,x7,x8,_,_=>⟨some (.str (mkS b)),x6,x7,x8,by rw [List.map_nil,Gx];simp [goL]⟩
 | s::st,b,T,x6,x7,x8,h,hT=>by
  have hs:=h s (by simp);have h1:=Cj hs.1.2;have h2:=Cj hs.2.2;have h3:=Og (r:=s.r)
  have h4:(mkL b).length<=2:=by cases b <;> decide
  simp only [List.length_cons] at hT;rw [Nat.succ_mul] at hT;have e1:("+":Str)=Aa [43]:=by decide +kernel
  have e2:(" ":Str)=Aa [32]:=by decide +kernel
  have hsl:=Qw hs;have es:T++mkL b++num s.h++ [43]++num s.m++ [32]++wyL s.r=T++(mkL b++stL s):=by simp [stL]
  obtain ⟨y5,y6,y7,y8,ih⟩:=Xm (s0:=s0) (s1:=s1) (s2:=s2) (s3:=s3) (G:=G) st false (T++(mkL b++stL s)) (some (.int s.h)) (some (.int s.m)) (some (.str (wy s.r))) (λx hx=>h x (List.mem_cons_of_mem _ hx)) (by simp;omega);refine ⟨y5,y6,y7,y8,?_⟩;have hb:O7 [s0,s1,s2,s3,some (.str (Aa T)),some (.str (mkS b)),some (.int s.h),some (.int s.m),some (.str (wy s.r))] G=.nx [s0,s1,s2,s3,some (.str (Aa (T++(mkL b++stL s)))),some (.str (mkS false)),some (.int s.h),some (.int s.m),some (.str (wy s.r))] G:=by
   have a1:=λG=>Gy (l:=T) (l':=mkL b) (by omega) G
   have a2:=λG=>Gy (l:=T++mkL b) (l':=num s.h) (by simp;omega) G
   have a3:=λG=>Gy (l:=T++mkL b++num s.h) (l':= [43]) (by simp;omega) G
   have a4:=λG=>Gy (l:=T++mkL b++num s.h++ [43]) (l':=num s.m) (by simp;omega) G
   have a5:=λG=>Gy (l:=T++mkL b++num s.h++ [43]++num s.m) (l':= [32]) (by simp;omega) G
   have a6:=λG=>Gy (l:=T++mkL b++num s.h++ [43]++num s.m++ [32]) (l':=wyL s.r) (by simp;omega) G
   have c1:=λG=>Rk hs.1.1 hs.1.2 G
   have c2:=λG=>Rk hs.2.1 hs.2.2 G
   have em:mkS false=(", ":Str):=rfl;rw [es] at a6;rw [em,ZDb,R8];rw [<-e1] at a3;rw [<-e2] at a5;generalize Aa (T++(mkL b++stL s))=X6 at *;generalize Aa (T++mkL b++num s.h++ [43]++num s.m++ [32])=X5 at *;generalize Aa (T++mkL b++num s.h++ [43]++num s.m)=X4 at *;generalize Aa (T++mkL b++num s.h++ [43])=X3 at *;generalize Aa (T++mkL b++num s.h)=X2 at *;generalize Aa (T++mkL b)=X1 at *;generalize Aa T=X0 at *
   generalize Aa (mkL b)=Y1 at *;generalize Aa (num s.h)=Y2 at *;generalize Aa (num s.m)=Y3 at *;generalize Aa (wyL s.r)=Y4 at *;unfold O7;simp [-Wj,a1,a2,a3,a4,a5,a6,c1,c2]
  have e0:Stp.enc s=.tup [.int s.h,.int s.m,.str (wy s.r)]:=rfl;rw [List.map_cons,Gh,e0];simp only [Vs,Xy,Yn,El,R.Gd,R.Gq,List.set,List.length_cons,List.length_nil,Nat.reduceAdd,if_true,hb,Gb];rw [ih];show SR.nx [s0,s1,s2,s3,some (.str (Aa (T++(mkL b++stL s)++goL false st))),y5,y6,y7,y8] G=.nx [s0,s1,s2,s3,some (.str (Aa (T++(mkL b++stL s++goL false st)))),y5,y6,y7,y8] G;rw [List.append_assoc]
theorem Vu {s0:Option D} {G:DH}:∀(ss:List Ssn) (acc:List (List Nat)) (x2 x3 x4 x5 x6 x7 x8:Option D),(∀s∈ss,SsnOk s)->acc.length + ss.length<=100->∃y2 y3 y4 y5 y6 y7 y8,
  Bs (Bl 2 (Ar (gV 2) (Ar (gV 3) Bv))) Kd (ss.map Ai) [s0,some (.ref G.length),x2,x3,x4,x5,x6,x7,x8] (G++ [.lst ((acc.map Aa).map D.str)])=
   .nx [s0,some (.ref G.length),y2,y3,y4,y5,y6,y7,y8] (G++ [.lst (((acc++ss.map snL).map Aa).map D.str)])
 | [],acc,x2,x3,x4,x5,x6,x7,x8,_,_=>⟨x2,x3,x4,x5,x6,x7,x8,by rw [List.map_nil,Gx];simp⟩
 | s::ss,acc,x2,x3,x4,x5,x6,x7,x8,h,hl=>by
  have hs:=h s (by simp);have h1:=Cj hs.1.2;simp only [List.length_cons] at hl;have hsl:=Ua hs;have h4:s.2.length * 89<=4 * 89:=Nat.mul_le_mul_right _ hs.2.1;obtain ⟨z5,z6,z7,z8,hin⟩:=Xm (s0:=s0) (s1:=some (.ref G.length)) (s2:=some (.int s.1)) (s3:=some (.tup (s.2.map Stp.enc))) (G:=G++ [.lst ((acc.map Aa).map D.str)]) s.2 true (num s.1++ [58]) x6 x7 x8 hs.2.2 (by simp;omega);have es:num s.1++ [58]++goL true s.2=snL s:=by rw [ZBD];simp [snL]
  rw [es] at hin;obtain ⟨y2,y3,y4,y5,y6,y7,y8,ih⟩:=Vu (s0:=s0) (G:=G) ss (acc++ [snL s]) (some (.int s.1)) (some (.tup (s.2.map Stp.enc))) (some (.str (Aa (snL s)))) z5 z6 z7 z8 (λx hx=>h x (List.mem_cons_of_mem _ hx)) (by simp;omega);refine ⟨y2,y3,y4,y5,y6,y7,y8,?_⟩;have hb:Kd [s0,some (.ref G.length),some (.int s.1),some (.tup (s.2.map Stp.enc)),x4,x5,x6,x7,x8] (G++ [.lst ((acc.map Aa).map D.str)])=.nx [s0,some (.ref G.length),some (.int s.1),some (.tup (s.2.map Stp.enc)),some (.str (Aa (snL s))),z5,z6,z7,z8] (G++ [.lst (((acc++ [snL s]).map Aa).map D.str)]):=by
   have e1:(":":Str)=Aa [58]:=by decide +kernel
   have a1:=λG=>Gy (l:=num s.1) (l':= [58]) (by simp;omega) G
   rw [<-e1] at a1;have c1:=λG=>Rk hs.1.1 hs.1.2 G
   have em:mkS true=(" ":Str):=rfl;rw [em] at hin;have hal:((acc.map Aa).map D.str).length < 1000000:=by simp;omega
   rw [List.map_append,List.map_append,List.map_cons,List.map_nil,List.map_cons,List.map_nil];generalize (acc.map Aa).map D.str=A at *;generalize s.2.map Stp.enc=B at *;generalize Aa (snL s)=X1 at *;generalize Aa (num s.1++ [58])=X2 at *;generalize Aa (num s.1)=X3 at *;unfold Kd;simp [-Wj,c1,a1,hin,K8,R3,hal]
  have e0:Ai s=.tup [.int s.1,.tup (s.2.map Stp.enc)]:=rfl;rw [List.map_cons,Gh,e0];simp only [Vs,Xy,Yn,El,R.Gd,R.Gq,List.set,List.length_cons,List.length_nil,Nat.reduceAdd,if_true,hb,Gb];rw [ih];show SR.nx _ (G++ [.lst (((acc++ [snL s]++ss.map snL).map Aa).map D.str)])=SR.nx _ (G++ [.lst (((acc++(snL s::ss.map snL)).map Aa).map D.str)]);rw [List.append_assoc]
  rfl
theorem Yz (h:RuOk ss) (G:DH):Ms [.tup (ss.map Ai)] G=.ok (.str (Aa (ruL ss))) G:=by
 obtain ⟨y2,y3,y4,y5,y6,y7,y8,hL⟩:=Vu (s0:=some (.tup (ss.map Ai))) (G:=G) ss [] none none none none none none none h.ok (by have:=h.len;simp;omega);have hL':Bs (Bl 2 (Ar (gV 2) (Ar (gV 3) Bv))) Kd (ss.map Ai) [some (.tup (ss.map Ai)),some (.ref G.length),none,none,none,none,none,none,none] (G++ [.lst []])=_:=hL;rw [List.nil_append] at hL';have hjo:=Qc (sep:= [59,32]) (ls:=ss.map snL) (Wq h) (G++ [.lst (((ss.map snL).map Aa).map D.str)])
 have e2:("; ":Str)=Aa [59,32]:=by decide +kernel
 have er:Ag [59,32] (ss.map snL)=ruL ss:=rfl;rw [<-e2,er] at hjo;have hjr:Ef (.str ("; ":Str)) [.ref G.length] (G++ [.lst (((ss.map snL).map Aa).map D.str)])=.ok (.str (Aa (ruL ss))) (G++ [.lst (((ss.map snL).map Aa).map D.str)]):=by
  rw [<-hjo];have hg:(G++ [DO.lst (((ss.map snL).map Aa).map D.str)])[G.length]? =some (.lst (((ss.map snL).map Aa).map D.str)):=by rw [K8];rfl
  simp only [Ef,Bw,hg]
 generalize ((ss.map snL).map Aa).map D.str=Z at *;generalize ss.map Ai=Y at *;have td:∀L:DH,tidy G (.ok (.str (Aa (ruL ss))) (G++L))=.ok (.str (Aa (ruL ss))) G:=λL=>Vp rfl
 unfold Ms Nj;rw [Bh];simp [Aq,Mm,hL',hjr,td]
def anyF (x c:Int):Int:=if x % 3=0 then x / 3 % 12 else if x % 3=1 then x / 3 % 10 ^ 6 else (c + x / 3) % 10 ^ 40
theorem Ss {x c:Int}:0<=anyF x c/\anyF x c < 10 ^ 40:=by
 have h40:(0:Int) < 10 ^ 40:=by decide
 have h12:(12:Int)<=10 ^ 40:=by decide
 have h6:(10:Int) ^ 6<=10 ^ 40:=by decide
 have h60:(0:Int) < 10 ^ 6:=by decide
 unfold anyF;split
 ·have h1:=Int.emod_nonneg (x / 3) (show (12:Int)≠0 by decide);have h2:=Int.emod_lt_of_pos (x / 3) (show (0:Int) < 12 by decide);exact ⟨h1,Int.lt_of_lt_of_le h2 h12⟩
 ·split
  ·exact ⟨Int.emod_nonneg _ (by decide),Int.lt_of_lt_of_le (Int.emod_lt_of_pos _ h60) h6⟩
  ·exact ⟨Int.emod_nonneg _ (by decide),Int.emod_lt_of_pos _ h40⟩
theorem Rg {x c:Int} (G:DH):Ik [.int x,.int c] G=.ok (.int (anyF x c)) G:=by
 unfold Ik Ho anyF;rw [Bh];by_cases h0:x % 3=0
 ·simp [h0,Bf]
 ·by_cases h1:x % 3=1
  ·simp [h1,Bf]
  ·simp [h0,h1,Bf]
theorem Xb:bels m (xs.map D.int)=true:=Ga λ_ _=>rfl
def gx (xs:List Int) (i:Nat):Int:=xs.getD i 0
theorem K9 (h:i < xs.length):atI (xs.map D.int) (i:Int)=some (.int (gx xs i)):=J1 rfl (by rw [List.getElem?_map,List.getElem?_eq_getElem h];simp [gx,List.getD_eq_getElem?_getD,h])
def Gw (cell k:Int) (n:Nat):List Int:=strm n 0 ((cell % 999999937 + 2) * (7919 * k * k + 48271) % 2147483647) (if cell < 0∨10 ^ 18<=cell then max cell (-cell) else 0)
theorem Zh {cell:Int} {n:Nat}:(Gw cell k n).length=n:=Yh
theorem ZAl {cell:Int} {n:Nat} (hk:0<=k/\k < 100) (hn:n<=1000) (G:DH):freeze G (Iv [.int cell,.int k,.int n] G)=.ok (.fl ((Gw cell k n).map D.int)) G:=by
 have hr:inR (n:Int):=Uc (by omega) (by omega);have h3:0<=7919 * k * k:=Int.mul_nonneg (by omega) (by omega);have h2:7919 * k * k<=791900 * 100:=Int.le_trans (Int.mul_le_mul_of_nonneg_right (c:=k) (by omega:7919 * k<=791900) (by omega)) (Int.mul_le_mul_of_nonneg_left (by omega) (by omega));have hnum:(cell % 999999937 + 2) * (7919 * k * k + 48271) % 2147483647 < 2147483647:=Int.emod_lt_of_pos _ (by decide)
 obtain ⟨a,b,d,h⟩:=Wn (c:=.int cell) (k:=.int k) (m:=.int n) (G:=G) (n:=n) (j:=0) (num:=(cell % 999999937 + 2) * (7919 * k * k + 48271) % 2147483647) (left:=if cell < 0∨10 ^ 18<=cell then max cell (-cell) else 0) (acc:= []) (e:=none) (Int.emod_nonneg _ (by decide)) hnum (by omega) (by simp;omega);have hc:Iv [.int cell,.int k,.int n] G=.ok (.ref G.length) (G++ [.lst ((Gw cell k n).map D.int)]):=by unfold Gw Iv Lk;rw [Bh];simp at h;simp [Mx (i:=7919 * k) (j:=k) (by omega) (by omega),Yx (i:=cell % 999999937 + 2) (j:=7919 * k * k + 48271) (by omega) (by omega),ZBL,ZC2,ZDE,ite_int,Mm,hr,h]
 rw [hc];exact Ej Xb
def Ce (xs:List Int) (c:Int) (j:Nat):Stp:=⟨anyF (gx xs (3 + 3 * j)) c,anyF (gx xs (4 + 3 * j)) (c * c),decide (gx xs (2 + 3 * j) % 2=0)⟩
theorem ZBm {c:Int} {j:Nat}:StpOk (Ce xs c j):=⟨Ss,Ss⟩
theorem Xi {xs:List Int} (hxl:xs.length=14) {c:Int} (hc:Bts c) {s0 s1 s2 s3:Option D} {G:DH}:∀(m j:Nat) (acc:List Stp) (x7 x8:Option D),j + m<=4->acc.length + m<=100->∃y7 y8,
  Bs (gV 7) Jj (Dk j m) [s0,s1,s2,s3,some (.int c),some (.fl (xs.map D.int)),some (.ref G.length),x7,x8] (G++ [.lst (acc.map Stp.enc)])=
   .nx [s0,s1,s2,s3,some (.int c),some (.fl (xs.map D.int)),some (.ref G.length),y7,y8] (G++ [.lst ((acc++(List.range' j m).map (Ce xs c)).map Stp.enc)])
 | 0,j,acc,x7,x8,h1,h2=>⟨x7,x8,by rw [T7,Gx];simp⟩
 | m + 1,j,acc,x7,x8,h1,h2=>by
  obtain ⟨y7,y8,ih⟩:=Xi hxl hc (s0:=s0) (s1:=s1) (s2:=s2) (s3:=s3) (G:=G) m (j + 1) (acc++ [Ce xs c j]) (some (.int j)) (some (.str (wy (Ce xs c j).r))) (by omega) (by simp;omega);refine ⟨y7,y8,?_⟩;have a2:atI (xs.map D.int) (2 + 3 * (j:Int))=some (.int (gx xs (2 + 3 * j))):=by have:=K9 (xs:=xs) (i:=2 + 3 * j) (by omega);rwa [show ((2 + 3 * j:Nat):Int)=2 + 3 * (j:Int) by omega] at this
  have a3:atI (xs.map D.int) (3 + 3 * (j:Int))=some (.int (gx xs (3 + 3 * j))):=by have:=K9 (xs:=xs) (i:=3 + 3 * j) (by omega);rwa [show ((3 + 3 * j:Nat):Int)=3 + 3 * (j:Int) by omega] at this
  have a4:atI (xs.map D.int) (4 + 3 * (j:Int))=some (.int (gx xs (4 + 3 * j))):=by have:=K9 (xs:=xs) (i:=4 + 3 * j) (by omega);rwa [show ((4 + 3 * j:Nat):Int)=4 + 3 * (j:Int) by omega] at this
  have m3:∀G,Cd (.int 3) (.int (j:Int)) G=.ok (.int (3 * (j:Int))) G:=λG=>Mx (by omega) (by omega)
  have mc:∀G,Cd (.int c) (.int c) G=.ok (.int (c * c)) G:=λG=>ZC5 (.inr ⟨hc,hc⟩)
  have hb:Jj [s0,s1,s2,s3,some (.int c),some (.fl (xs.map D.int)),some (.ref G.length),some (.int j),x8] (G++ [.lst (acc.map Stp.enc)])=.nx [s0,s1,s2,s3,some (.int c),some (.fl (xs.map D.int)),some (.ref G.length),some (.int j),some (.str (wy (Ce xs c j).r))] (G++ [.lst ((acc++ [Ce xs c j]).map Stp.enc)]):=by
   have hal:(acc.map Stp.enc).length < 1000000:=by simp;omega
   have fz:∀A:DO,freeze (G++ [A]) (.ok (.ref (G.length + 1)) (G++ [A,.lst [.str "river",.str "pump"]]))=.ok (.fl [.str "river",.str "pump"]) (G++ [A]):=λA=>ZCu rfl
   have e0:Stp.enc (Ce xs c j)=.tup [.int (anyF (gx xs (3 + 3 * j)) c),.int (anyF (gx xs (4 + 3 * j)) (c * c)),.str (wy (Ce xs c j).r)]:=rfl;rw [List.map_append,List.map_cons,List.map_nil,e0];have hw:∀G,Bk (.fl [.str "river",.str "pump"]) (.int (gx xs (2 + 3 * j) % 2)) G=.ok (.str (wy (Ce xs c j).r)) G:=λG=>by
    unfold Ce
    rcases (by omega:gx xs (2 + 3 * j) % 2=0∨gx xs (2 + 3 * j) % 2=1) with h | h <;> rw [h] <;> simp [wy]
   generalize wy (Ce xs c j).r=W at *;generalize acc.map Stp.enc=A at *;unfold Jj;simp [m3,a2,a3,a4,fz,hw,Rg,mc,K8,R3,hal]
  rw [Tw,Gh];simp only [El,R.Gq,List.set,hb,Gb];have e1:((j:Int) + 1)=((j + 1:Nat):Int):=by omega
  rw [e1,ih,List.range'_succ,List.map_cons,List.append_assoc]
  rfl
theorem ZBt (hb:∀m∈ns,m.natAbs.log2 < 1048576) (k:Int):Bts (cellAt ns k):=by
 have h:(cellAt ns k).natAbs.log2 < 1048576:=by
  unfold cellAt;rw [List.getD_eq_getElem?_getD];by_cases h:k.toNat < ns.length
  ·rw [List.getElem?_eq_getElem h];exact hb _ (List.getElem_mem h)
  ·rw [List.getElem?_eq_none (by omega)]
   decide
 exact Nat.lt_trans h (by decide)
theorem ZCO (hb:∀m∈ns,m.natAbs.log2 < 1048576) {at_ k:Nat} (hk:k<=4):∃s:Ssn,SsnOk s/\∀(G L:DH) (acc:List Ssn) (x4 x5 x6 x7 x8:Option D),acc.length<=100->∃L' y4 y5 y6 y7 y8,
  Jy [some (.fl (ns.map D.int)),some (.int at_),some (.ref G.length),some (.int k),x4,x5,x6,x7,x8] (G++ .lst (acc.map Ai)::L)=
   .nx [some (.fl (ns.map D.int)),some (.int at_),some (.ref G.length),some (.int k),y4,y5,y6,y7,y8] (G++ .lst ((acc++ [s]).map Ai)::L'):=by
 obtain ⟨c,ec⟩:∃c:Int,cellAt ns ((at_:Int) + 1 + k)=c:=⟨_,rfl⟩;have hB:Bts c:=by rw [<-ec];exact ZBt hb _
 have hcell:∀G,Gu [.fl (ns.map D.int),.int ((at_:Int) + 1 + k)] G=.ok (.int c) G:=λG=>by rw [Xe (by omega),ec]
 have hst:∀G,freeze G (Iv [.int c,.int (k:Int),.int 14] G)=.ok (.fl ((Gw c k 14).map D.int)) G:=λG=>ZAl (cell:=c) (k:=k) (n:=14) (by omega) (by omega) G
 have hxl:(Gw c k 14).length=14:=Zh;generalize Gw c k 14=xs at *;obtain ⟨n,en⟩:∃n:Nat,gx xs 1 % 5=n:=⟨(gx xs 1 % 5).toNat,by omega⟩;have a0:atI (xs.map D.int) 0=some (.int (gx xs 0)):=K9 (i:=0) (by omega);have a1:atI (xs.map D.int) 1=some (.int (gx xs 1)):=K9 (i:=1) (by omega);refine ⟨(anyF (gx xs 0) c,(List.range' 0 n).map (Ce xs c)),⟨Ss,by simp;omega,λt ht=> ?_⟩,λG L acc x4 x5 x6 x7 x8 ha=> ?_⟩
 ·obtain ⟨i,_,rfl⟩:=List.mem_map.mp ht;exact ZBm
 ·let G1:DH:=G++ .lst (acc.map Ai)::L;obtain ⟨y7,y8,hL⟩:=Xi hxl hB (s0:=some (.fl (ns.map D.int))) (s1:=some (.int at_)) (s2:=some (.ref G.length)) (s3:=some (.int k)) (G:=G1) n 0 [] x7 x8 (by omega) (by simp;omega);have hL':Bs (gV 7) Jj (Dk 0 n) [some (.fl (ns.map D.int)),some (.int at_),some (.ref G.length),some (.int k),some (.int c),some (.fl (xs.map D.int)),some (.ref G1.length),x7,x8] (G1++ [.lst []])=_:=hL
  rw [List.nil_append] at hL';have hr:inR (n:Int):=Uc (by omega) (by omega);have tn:tidy G1 (.ok (.ref G1.length) (G1++ [.lst []]))=.ok (.ref G1.length) (G1++ [.lst []]):=Mm rfl;refine ⟨L++ [.lst (((List.range' 0 n).map (Ce xs c)).map Stp.enc)],some (.int c),some (.fl (xs.map D.int)),some (.ref G1.length),y7,y8,?_⟩;have e0:Ai (anyF (gx xs 0) c,(List.range' 0 n).map (Ce xs c))=.tup [.int (anyF (gx xs 0) c),.tup (((List.range' 0 n).map (Ce xs c)).map Stp.enc)]:=rfl
  rw [List.map_append,List.map_cons,List.map_nil,e0];generalize ((List.range' 0 n).map (Ce xs c)).map Stp.enc=Z at *;have hal:(acc.map Ai).length < 1000000:=by simp;omega
  have g1:(G1++ [DO.lst Z])[G1.length]? =some (.lst Z):=by simp
  have g0:(G1++ [DO.lst Z])[G.length]? =some (.lst (acc.map Ai)):=by simp [G1]
  have s0:∀c:DO,(G1++ [DO.lst Z]).set G.length c=G++c::(L++ [.lst Z]):=λc=>by simp [G1]
  have eG:G++ .lst (acc.map Ai)::L=G1:=rfl;rw [eG]
  clear_value G1
  generalize acc.map Ai=Y at *;unfold Jy;simp [hcell,hst,Aq,tn,a1,en,hr,hL',a0,Rg,g1,g0,s0,hal]
theorem Xc (hb:∀m∈ns,m.natAbs.log2 < 1048576) {at_:Nat}:∀(m k:Nat),k + m<=5->∃ss:List Ssn,ss.length=m/\(∀s∈ss,SsnOk s)/\∀(G L:DH) (acc:List Ssn) (x3 x4 x5 x6 x7 x8:Option D),acc.length + m<=100->∃L' y3 y4 y5 y6 y7 y8,
  Bs (gV 3) Jy (Dk k m) [some (.fl (ns.map D.int)),some (.int at_),some (.ref G.length),x3,x4,x5,x6,x7,x8] (G++ .lst (acc.map Ai)::L)=
   .nx [some (.fl (ns.map D.int)),some (.int at_),some (.ref G.length),y3,y4,y5,y6,y7,y8] (G++ .lst ((acc++ss).map Ai)::L')
 | 0,k,h=>⟨[],rfl,(λ_ h=>absurd h (by simp)),λG L acc x3 x4 x5 x6 x7 x8 _=>⟨L,x3,x4,x5,x6,x7,x8,by rw [T7,Gx,List.append_nil]⟩⟩
 | m + 1,k,h=>by
  obtain ⟨s,hs,hbd⟩:=ZCO hb (at_:=at_) (k:=k) (by omega);obtain ⟨ss,hl,hok,ih⟩:=Xc hb (at_:=at_) m (k + 1) (by omega);refine ⟨s::ss,by simp [hl],λq hq=> ?_,λG L acc x3 x4 x5 x6 x7 x8 ha=> ?_⟩
  ·rcases List.mem_cons.mp hq with rfl | hq
   ·exact hs
   ·exact hok q hq
  ·obtain ⟨L1,z4,z5,z6,z7,z8,h1⟩:=hbd G L acc x4 x5 x6 x7 x8 (by omega);obtain ⟨L2,y3,y4,y5,y6,y7,y8,h2⟩:=ih G L1 (acc++ [s]) (some (.int k)) z4 z5 z6 z7 z8 (by simp;omega);refine ⟨L2,y3,y4,y5,y6,y7,y8,?_⟩;rw [Tw,Gh];simp only [El,R.Gq,List.set,h1,Gb];have e1:((k:Int) + 1)=((k + 1:Nat):Int):=by omega
   rw [e1,h2,List.append_assoc]
   rfl
theorem Wz (hb:∀m∈ns,m.natAbs.log2 < 1048576) {at_:Nat}:∃ss:List Ssn,RuOk ss/\∀G,Ge [.fl (ns.map D.int),.int at_] G=.ok (.tup (ss.map Ai)) G:=by
 obtain ⟨m,em⟩:∃m:Nat,1 + cellAt ns (at_:Int) % 5=m:=⟨(1 + cellAt ns (at_:Int) % 5).toNat,by omega⟩;obtain ⟨ss,hl,hok,h⟩:=Xc hb (at_:=at_) m 0 (by omega);refine ⟨ss,⟨λz=>by rw [z] at hl;simp at hl;omega,by omega,hok⟩,λG=> ?_⟩;obtain ⟨L,y3,y4,y5,y6,y7,y8,hL⟩:=h G [] [] none none none none none none (by simp;omega);have hL':Bs (gV 3) Jy (Dk 0 m) [some (.fl (ns.map D.int)),some (.int at_),some (.ref G.length),none,none,none,none,none,none] (G++ [.lst []])=_:=hL
 rw [List.nil_append] at hL';have hc:∀G,Gu [.fl (ns.map D.int),.int (at_:Int)] G=.ok (.int (cellAt ns (at_:Int))) G:=λG=>Xe (by omega)
 have hr:inR (m:Int):=Uc (by omega) (by omega);have be:bels G.length (ss.map Ai)=true:=Ql;generalize ss.map Ai=Z at *;have td:∀L:DH,tidy G (.ok (.tup Z) (G++L))=.ok (.tup Z) G:=λL=>Vp (by simpa using be)
 unfold Ge Jx;rw [Bh];simp [Aq,Mm,hc,em,hr,hL',K8,td]
theorem Xq {i:Int} (G:DH):Hj [.int i] G=.ok (.bl true) G:=by unfold Hj Hi;rw [Bh];simp [Bf,tyD]
theorem Xr {s0 s1 s2:Option D} {G:DH}:∀(st:List Stp) (x:Option D),∃x',Bs (gV 3) Ni (st.map Stp.enc) [s0,s1,s2,x] G=.nx [s0,s1,s2,x'] G
 | [],x=>⟨x,by rw [List.map_nil,Gx]⟩
 | s::st,x=>by
  obtain ⟨x',ih⟩:=Xr (s0:=s0) (s1:=s1) (s2:=s2) (G:=G) st (some s.enc);refine ⟨x',?_⟩;have hb:Ni [s0,s1,s2,some s.enc] G=.nx [s0,s1,s2,some s.enc] G:=by unfold Stp.enc Ni;simp [tyD,Xq]
  rw [List.map_cons,Gh];simp only [El,R.Gq,List.set,hb,Gb];exact ih
theorem Y8 {s0 s1:Option D} {G:DH}:∀(ss:List Ssn) (x y:Option D),∃x' y',Bs (gV 2) Ln (ss.map Ai) [s0,s1,x,y] G=.nx [s0,s1,x',y'] G
 | [],x,y=>⟨x,y,by rw [List.map_nil,Gx]⟩
 | s::ss,x,y=>by
  obtain ⟨z,hin⟩:=Xr (s0:=s0) (s1:=s1) (s2:=some (Ai s)) (G:=G) s.2 y;obtain ⟨x',y',ih⟩:=Y8 (s0:=s0) (s1:=s1) (G:=G) ss (some (Ai s)) z;refine ⟨x',y',?_⟩;have hb:Ln [s0,s1,some (Ai s),y] G=.nx [s0,s1,some (Ai s),z] G:=by unfold Ai at hin ⊢;unfold Ln;simp [tyD,Xq,hin]
  rw [List.map_cons,Gh];simp only [El,R.Gq,List.set,hb,Gb];exact ih
theorem ZBd:okD 30 (.tup (ss.map Ai))=true:=Qt (n:=29) λd hd=>by
 obtain ⟨s,_,rfl⟩:=List.mem_map.mp hd;refine Qt (n:=28) λd hd=> ?_
 rcases List.mem_cons.mp hd with rfl | hd
 ·rfl
 ·rcases List.mem_cons.mp hd with rfl | hd
  ·refine Qt (n:=27) λd hd=> ?_
   obtain ⟨t,_,rfl⟩:=List.mem_map.mp hd
   rfl
  ·cases hd
theorem ZEM (G:DH):Pn [.tup (ss.map Ai),.tup (ss.map Ai)] G=.ok (.bl true) G:=by obtain ⟨x',y',hL⟩:=Y8 (s0:=some (.tup (ss.map Ai))) (s1:=some (.tup (ss.map Ai))) (G:=G) ss none none;have ee:Cp (.tup (ss.map Ai)) (.tup (ss.map Ai)) G=.ok (.bl true) G:=ZAd ZBd;generalize ss.map Ai=Z at *;unfold Pn Ol;rw [Bh];simp [tyD,hL,ee,Bf]
theorem Yr (h:RuOk ss) (G:DH):Hw [.tup (ss.map Ai)] G=.ok (.bl true) G:=by
 have h1:=λG=>Yz h G
 have h2:=λG=>ZBO h G
 have h3:=λG=>ZBQ h G
 have h4:=λG=>ZEM (ss:=ss) G
 generalize Aa (ruL ss)=X at *;generalize ss.map Ai=Z at *;unfold Hw J0;rw [Bh];simp [h1,h2,h3,h4,tyD,Bf]
theorem ZDG (hb:∀m∈ns,m.natAbs.log2 < 1048576) (G:DH):H9 [.fl (ns.map D.int)] G=.ok (.bl true) G:=by
 obtain ⟨r1,k1,h1⟩:=Wz hb (at_:=0);obtain ⟨r2,k2,h2⟩:=Wz hb (at_:=6);have h1':∀G,Ge [.fl (ns.map D.int),.int 0] G=.ok (.tup (r1.map Ai)) G:=h1;have h2':∀G,Ge [.fl (ns.map D.int),.int 6] G=.ok (.tup (r2.map Ai)) G:=h2;have t1:=λG=>Yr k1 G
 have t2:=λG=>Yr k2 G
 generalize r1.map Ai=A at *;generalize r2.map Ai=B at *;unfold H9 Sx;rw [Bh];simp [h1',h2',t1,t2,Bf]
theorem holds:Holds:=λns hl hb=>⟨[],ZDG hb []⟩
end Law
namespace Law
open PySem L2 DL
seal QE QT QA QS QSs QG QGs QI QTs QW QO
structure Adr where
 Ij:Addr
 Ja:FuncData
 Hm:Addr
 Jv:FuncData
 Ie:Addr
 Jc:FuncData
 Hl:Addr
 K5:FuncData
 Hy:Addr
 Kg:FuncData
 Io:Addr
 Kv:FuncData
 Im:Addr
 Ku:FuncData
 Hd:Addr
 Jo:FuncData
 I9:Addr
 Ju:FuncData
 Hg:Addr
 Lg:FuncData
 Ib:Addr
 Lf:FuncData
 Hn:Addr
 K4:FuncData
 Ii:Addr
 Jb:FuncData
 Hq:Addr
 Ji:FuncData
 Hh:Addr
 Kq:FuncData
 I8:Addr
 Jq:FuncData
 Hf:Addr
 Jk:FuncData
 Fi:Addr
 R7:FuncData
 Nb:Tok
 Nf:Tok
structure Txt (K:PySem.W.Frag) (mg:Str->Option Value) (t:Adr):Prop where
 Pq:Fun K "_law_any" "_law_any" Th t.Ij t.Ja
 Ho:Binds K t.Ja ["_law_x","_law_cell"] []
 Kh:mg "_law_any"=some (.ref t.Ij)
 Jm:PySem.W.keepIn K (.ref t.Ij)=true
 N5:Fun K "_law_cell_at" "_law_cell_at" Ra t.Hm t.Jv
 Kf:Binds K t.Jv ["_law_script","_law_k"] []
 Ow:mg "_law_cell_at"=some (.ref t.Hm)
 Ls:PySem.W.keepIn K (.ref t.Hm)=true
 Np:Fun K "_law_stream" "_law_stream" Rh t.Ie t.Jc
 Lk:Binds K t.Jc ["_law_cell","_law_k","_law_many"] []
 Qu:mg "_law_stream"=some (.ref t.Ie)
 Tv:PySem.W.keepIn K (.ref t.Ie)=true
 Oo:Fun K "_law_any_rule" "_law_any_rule" Tc t.Hl t.K5
 Jx:Binds K t.K5 ["_law_script","_law_at"] []
 M4:mg "_law_any_rule"=some (.ref t.Hl)
 Oa:PySem.W.keepIn K (.ref t.Hl)=true
 Oe:Fun K "_law_whole" "_law_whole" Qk t.Hy t.Kg
 Hi:Binds K t.Kg ["_law_found"] []
 Kp:mg "_law_whole"=some (.ref t.Hy)
 J8:PySem.W.keepIn K (.ref t.Hy)=true
 Mp:Fun K "_law_rule_like" "_law_rule_like" U0 t.Io t.Kv
 Ol:Binds K t.Kv ["_law_found","_law_due"] []
 Tq:mg "_law_rule_like"=some (.ref t.Io)
 Su:PySem.W.keepIn K (.ref t.Io)=true
 Mf:Fun K "_law_rule_text" "_law_rule_text" Sh t.Im t.Ku
 Nj:Binds K t.Ku ["_law_rule"] []
 R1:mg "_law_rule_text"=some (.ref t.Im)
 T8:PySem.W.keepIn K (.ref t.Im)=true
 N7:Fun K "is_number" "is_number" M6 t.Hd t.Jo
 O5:Binds K t.Jo ["text"] []
 R0:mg "is_number"=some (.ref t.Hd)
 Qa:PySem.W.keepIn K (.ref t.Hd)=true
 Oc:Fun K "number_in" "number_in" U4 t.I9 t.Ju
 Ih:Binds K t.Ju ["text","row"] []
 Ko:mg "number_in"=some (.ref t.I9)
 Ka:PySem.W.keepIn K (.ref t.I9)=true
 Mi:Fun K "step_in" "step_in" Sq t.Hg t.Lg
 O6:Binds K t.Lg ["text","row"] []
 Qp:mg "step_in"=some (.ref t.Hg)
 Tn:PySem.W.keepIn K (.ref t.Hg)=true
 Nm:Fun K "stairs_in" "stairs_in" My t.Ib t.Lf
 Kc:Binds K t.Lf ["text","row"] []
 Qz:mg "stairs_in"=some (.ref t.Ib)
 R6:PySem.W.keepIn K (.ref t.Ib)=true
 Oh:Fun K "season_in" "season_in" S7 t.Hn t.K4
 O4:Binds K t.K4 ["text","row"] []
 Ub:mg "season_in"=some (.ref t.Hn)
 Qe:PySem.W.keepIn K (.ref t.Hn)=true
 P0:Fun K "rule_in" "rule_in" Nr t.Ii t.Jb
 Oq:Binds K t.Jb ["text","row"] []
 Q8:mg "rule_in"=some (.ref t.Ii)
 Rp:PySem.W.keepIn K (.ref t.Ii)=true
 Nx:Fun K "read_rule" "read_rule" U5 t.Hq t.Ji
 Pr:Binds K t.Ji ["text"] []
 Q4:mg "read_rule"=some (.ref t.Hq)
 Tr:PySem.W.keepIn K (.ref t.Hq)=true
 M9:Fun K "shown_season" "shown_season" Pu t.Hh t.Kq
 Lb:Binds K t.Kq ["first","stairs"] []
 Ri:mg "shown_season"=some (.ref t.Hh)
 R9:PySem.W.keepIn K (.ref t.Hh)=true
 Mg:Fun K "shown_rule" "shown_rule" Nz t.I8 t.Jq
 Ox:Binds K t.Jq ["rule"] []
 Qj:mg "shown_rule"=some (.ref t.I8)
 Qh:PySem.W.keepIn K (.ref t.I8)=true
 Ml:Fun K "_law_there_and_back" "_law_there_and_back" Qx t.Hf t.Jk
 J0:Binds K t.Jk ["_law_rule"] []
 K6:mg "_law_there_and_back"=some (.ref t.Hf)
 Ke:PySem.W.keepIn K (.ref t.Hf)=true
 ZAt:Fun K "law" "law" Dj t.Fi t.R7
 Sx:Binds K t.R7 ["_law_script"] []
 m_law:mg "law"=some (.ref t.Fi)
 Iz:PySem.W.keepIn K (.ref t.Fi)=true
 Zr:mg "all"=none
 ZDA:mg "bool"=none
 S6:mg "int"=none
 Fx:mg "isinstance"=none
 Gj:mg "len"=none
 ZDL:mg "max"=none
 U6:mg "range"=none
 Lj:mg "str"=none
 Ft:mg "tuple"=none
 J7:mg "FIGURES"=some (.str "0123456789" t.Nb)
 J9:mg "MOST_FIGURES"=some (.int 40 t.Nf)
 Ld:TupG K mg "WAYS" ["river","pump"]
section
variable {P:Program} {w:World} {K:PySem.W.Frag} {mg:Str->Option Value} {base:Heap} {t:Adr}
theorem Rz (T:Txt K mg t):FnOk P w K mg base CX0 1 t.Ij t.Ja ["_law_x","_law_cell"] (lF K Ik):=by
 refine Bp T.Pq ZCX λcdv A outer s H E hr=> ?_
 exact (Am (Bo (Di (G9 hr.units) (Al Ds (Ab 0) Ah) Ah (nomark _)) (An (Ay (Al Ds (Al Ly (Ab 0) Ah) Ah))) Br) (Am (Bo (Di (G9 hr.units) (Al Ds (Ab 0) Ah) Ah (nomark _)) (An (Ay (Al Ds (Al Ly (Ab 0) Ah) (Al La Ah Ah)))) Br) (An (Ay (Al Ds (Al Bt (Ab 1) (Al Ly (Ab 0) Ah)) (Al La Ah Ah))))))
theorem Wv (T:Txt K mg t):FnOk P w K mg base CX0 1 t.Hm t.Jv ["_law_script","_law_k"] (lF K Gu):=by
 refine Bp T.N5 ZEK λcdv A outer s H E hr=> ?_
 exact (Am (Bo (Di o_lt (Ab 1) (By Gp rfl T.Gj Hb (Ad (Ab 0) Af)) (nomark _)) (An (Ay (Cv Cz (Ab 0) (Ab 1)))) Br) (An (Ay Ah)))
theorem ZBT (T:Txt K mg t):FnOk P w K mg base CX0 1 t.Ie t.Jc ["_law_cell","_law_k","_law_many"] (lF K Iv):=by
 refine Bp T.Np Ff λcdv A outer s H E hr=> ?_
 exact (Am (Bg 3 Ff.nd (Al Ds (Al Eo (Al Bt (Al Ds (Ab 0) Ah) Ah) (Al Bt (Al Eo (Al Eo Ah (Ab 1)) (Ab 1)) Ah)) Ah)) (Am (Bg 4 Ff.nd Ah) (Am (Bo (Ey (Ec (Di o_lt (Ab 0) Ah (nomark _)) (Et (Di o_ge (Ab 0) (Al La Ah Ah) (nomark _))))) (An (Bg 4 Ff.nd (By (ZBe rfl) rfl T.ZDL Zo (Ad (Ab 0) (Ad (Al ZAe Ah (Ab 0)) Af))))) Br) (Am (Bg 5 Ff.nd (Pg (Hu Af))) (Am (Gi PassesOwn.never rfl (Qy rfl T.U6 (Ad (Ab 2) Af)) (Ba 6 Ff.nd) (Am (Bg 3 Ff.nd (Al Ds (Al Bt (Al Bt (Al Eo (Ab 3) (Ab 3)) (Al Eo Ah (Ab 6))) Ah) Ah)) (Am (Ou (Mt PySem.F.slot_list_append PySem.F.type_list_append Nu (Ab 5) (Ad (Cv Cz (Dz (Hu (Ad (Ab 3) (Ad (Al Ds (Ab 4) (Al La Ah Ah)) Af)))) (Em ZA1 rfl T.S6 T3 (Ad (Ob o_gt (Ab 4) Ah (nomark _)) Af))) Af))) (An (Bg 4 Ff.nd (Al Ly (Ab 4) (Al La Ah Ah))))))) (An (Ay (Ab 5))))))))
theorem Vd (T:Txt K mg t):FnOk P w K mg base CX0 2 t.Hl t.K5 ["_law_script","_law_at"] (lF K Ge):=by
 refine Bp T.Oo Fe λcdv A outer s H E hr=> ?_
 exact (Am (Bg 2 Fe.nd (Pg (Hu Af))) (Am (Gi PassesOwn.never rfl (Qy rfl T.U6 (Ad (Al Bt Ah (Al Ds (Az (Wv T) (hr.mono (by decide)) rfl T.Ow T.Ls T.Kf pass0 (Ad (Ab 0) (Ad (Ab 1) Af))) Ah)) Af)) (Ba 3 Fe.nd) (Am (Bg 4 Fe.nd (Az (Wv T) (hr.mono (by decide)) rfl T.Ow T.Ls T.Kf pass0 (Ad (Ab 0) (Ad (Al Bt (Al Bt (Ab 1) Ah) (Ab 3)) Af)))) (Am (Bg 5 Fe.nd (Dz (Az (ZBT T) (hr.mono (by decide)) rfl T.Qu T.Tv T.Lk pass0 (Ad (Ab 4) (Ad (Ab 3) (Ad Ah Af)))))) (Am (Bg 6 Fe.nd (Pg (Hu Af))) (Am (Gi PassesOwn.never rfl (Qy rfl T.U6 (Ad (Al Ds (Cv Cz (Ab 5) Ah) Ah) Af)) (Ba 7 Fe.nd) (Am (Bg 8 Fe.nd (Cv Cz (Dz (Hu (Ad Bc (Ad Bc Af)))) (Al Ds (Cv Cz (Ab 5) (Al Bt Ah (Al Eo Ah (Ab 7)))) Ah))) (An (Ou (Mt PySem.F.slot_list_append PySem.F.type_list_append Nu (Ab 6) (Ad (Kz (Ad (Az (Rz T) (hr.mono (by decide)) rfl T.Kh T.Jm T.Ho pass0 (Ad (Cv Cz (Ab 5) (Al Bt Ah (Al Eo Ah (Ab 7)))) (Ad (Ab 4) Af))) (Ad (Az (Rz T) (hr.mono (by decide)) rfl T.Kh T.Jm T.Ho pass0 (Ad (Cv Cz (Ab 5) (Al Bt Ah (Al Eo Ah (Ab 7)))) (Ad (Al Eo (Ab 4) (Ab 4)) Af))) (Ad (Ab 8) Af)))) Af)))))) (An (Ou (Mt PySem.F.slot_list_append PySem.F.type_list_append Nu (Ab 2) (Ad (Kz (Ad (Az (Rz T) (hr.mono (by decide)) rfl T.Kh T.Jm T.Ho pass0 (Ad (Cv Cz (Ab 5) Ah) (Ad (Ab 4) Af))) (Ad (Em Pk rfl T.Ft Fv (Ad (Ab 6) Af)) Af))) Af))))))))) (An (Ay (Em Pk rfl T.Ft Fv (Ad (Ab 2) Af))))))
theorem T9 (T:Txt K mg t):FnOk P w K mg base CX0 1 t.Hy t.Kg ["_law_found"] (lF K Hj):=by
 refine Bp T.Oe ZA2 λcdv A outer s H E hr=> ?_
 exact (An (Ay (Yy (By Fo rfl T.Fx Fl (Ad (Ab 0) (Ad (Fp rfl T.S6 T3) Af))) (Y9 (Xw (By Fo rfl T.Fx Fl (Ad (Ab 0) (Ad (Fp rfl T.ZDA ZCW) Af))))))))
theorem ZAk (T:Txt K mg t):FnOk P w K mg base CX0 2 t.Io t.Kv ["_law_found","_law_due"] (lF K Pn):=by
 refine Bp T.Mp R4 λcdv A outer s H E hr=> ?_
 exact (Am (Bo (Ey (Ec (Cr (Dc (By Fo rfl T.Fx Fl (Ad (Ab 0) (Ad (Fp rfl T.Ft Fv) Af))))) (Et (Di (Ph hr.units) (By Gp rfl T.Gj Hb (Ad (Ab 0) Af)) (By Gp rfl T.Gj Hb (Ad (Ab 1) Af)) (nomark _))))) (An (Ay Fw)) Br) (Am (Gi PassesOwn.never rfl (Er (Ab 0)) (Ba 2 R4.nd) (Am (Bo (Ey (Ec (Cr (Dc (By Fo rfl T.Fx Fl (Ad (Ab 2) (Ad (Fp rfl T.Ft Fv) Af))))) (Ec (Di (Ph hr.units) (By Gp rfl T.Gj Hb (Ad (Ab 2) Af)) Ah (nomark _)) (Et (Cr (Dc (Az (T9 T) (hr.mono (by decide)) rfl T.Kp T.J8 T.Hi pass0 (Ad (Cv Cz (Ab 2) Ah) Af)))))))) (An (Ay Fw)) Br) (Am (Bo (Cr (Dc (By Fo rfl T.Fx Fl (Ad (Cv Cz (Ab 2) Ah) (Ad (Fp rfl T.Ft Fv) Af))))) (An (Ay Fw)) Br) (An (Gi PassesOwn.never rfl (Er (Cv Cz (Ab 2) Ah)) (Ba 3 R4.nd) (Am (Bo (Ey (Ec (Cr (Dc (By Fo rfl T.Fx Fl (Ad (Ab 3) (Ad (Fp rfl T.Ft Fv) Af))))) (Ec (Di (Ph hr.units) (By Gp rfl T.Gj Hb (Ad (Ab 3) Af)) Ah (nomark _)) (Et (Cr (Dc (By Fo rfl T.Fx Fl (Ad (Cv Cz (Ab 3) Ah) (Ad (Fp rfl T.Lj Jp) Af))))))))) (An (Ay Fw)) Br) (An (Bo (Ey (Ec (Cr (Dc (Az (T9 T) (hr.mono (by decide)) rfl T.Kp T.J8 T.Hi pass0 (Ad (Cv Cz (Ab 3) Ah) Af)))) (Et (Cr (Dc (Az (T9 T) (hr.mono (by decide)) rfl T.Kp T.J8 T.Hi pass0 (Ad (Cv Cz (Ab 3) Ah) Af))))))) (An (Ay Fw)) Br)))))))) (An (Ay (Ob (G9 hr.units) (Ab 0) (Ab 1) (nomark _))))))
theorem ZAn (T:Txt K mg t):FnOk P w K mg base CX0 1 t.Im t.Ku ["_law_rule"] (lF K Ms):=by
 refine Bp T.Mf Dw λcdv A outer s H E hr=> ?_
 exact (Am (Bg 1 Dw.nd (Pg (Hu Af))) (Am (Gi PassesOwn.never rfl (Er (Ab 0)) (Ha rfl (Bm (Ba 2 Dw.nd) (Bm (Ba 3 Dw.nd) Hc))) (Am (Bg 4 Dw.nd (Al Bt (Em Rr rfl T.Lj Jp (Ad (Ab 2) Af)) Bc)) (Am (Bg 5 Dw.nd Bc) (Am (Gi PassesOwn.never rfl (Er (Ab 3)) (Ha rfl (Bm (Ba 6 Dw.nd) (Bm (Ba 7 Dw.nd) (Bm (Ba 8 Dw.nd) Hc)))) (Am (Bg 4 Dw.nd (Al Bt (Al Bt (Al Bt (Al Bt (Al Bt (Al Bt (Ab 4) (Ab 5)) (Em Rr rfl T.Lj Jp (Ad (Ab 6) Af))) Bc) (Em Rr rfl T.Lj Jp (Ad (Ab 7) Af))) Bc) (Ab 8))) (An (Bg 5 Dw.nd Bc)))) (An (Ou (Mt PySem.F.slot_list_append PySem.F.type_list_append Nu (Ab 1) (Ad (Ab 4) Af)))))))) (An (Ay (Eg PySem.F.slot_str_join PySem.F.type_str_join Rt Bc (Ad (Ab 1) Af))))))
theorem ZB6 (T:Txt K mg t):FnOk P w K mg base CX0 1 t.Hd t.Jo ["text"] (lF K Om):=by
 refine Bp T.N7 ZD7 λcdv A outer s H E hr=> ?_
 exact (Am (Bo (Ey (Ec (Cr (ZDz o_le o_le Ah (By Gp rfl T.Gj Hb (Ad (Ab 0) Af)) (Tt (v:=(.int 40)) rfl T.J9 ⟨_,rfl⟩ (λ_ _=>rfl)))) (Et (Cr (Dc (By (ZDP rfl) rfl T.Zr ZEW (Ad (Dz (Je rfl (Kw (dn:=(Av M6).names) (N0:=Wk) (N:= ["sign"]) (nt:=1) (caps:= [])) (Er (Ab 0)) (λC s₀ H₀ ex=>(Ba 0 (show (["sign"]:List Str).Nodup by decide +kernel))) (Ex (by decide)) (λC s₀ H₀ ex=>K7) (λC s₀ H₀ ex=>(Ob o_in (Ab 0) (Tt (v:=(.str "0123456789")) rfl T.J7 ⟨_,rfl⟩ (λ_ _=>rfl)) (by with_unfolding_all rfl))))) Af))))))) (An (Ay Fw)) Br) (An (Ay (ZCk (Ob (G9 hr.units) (Ab 0) Bc (nomark _)) (Y9 (Xw (Eg PySem.F.slot_str_startswith PySem.F.type_str_startswith W5 (Ab 0) (Ad Bc Af))))))))
theorem Tu (T:Txt K mg t):FnOk P w K mg base CX0 2 t.I9 t.Ju ["text","row"] (lF K Iu):=by
 refine Bp T.Oc ZBp λcdv A outer s H E hr=> ?_
 exact (Am (Bo (Cr (Dc (Az (ZB6 T) (hr.mono (by decide)) rfl T.R0 T.Qa T.O5 pass0 (Ad (Ab 0) Af)))) (An Ma) Br) (An (Ay (Em Zy rfl T.S6 T3 (Ad (Ab 0) Af)))))
theorem ZAR (T:Txt K mg t):FnOk P w K mg base CX0 3 t.Hg t.Lg ["text","row"] (lF K Ng):=by
 refine Bp T.Mi Gk λcdv A outer s H E hr=> ?_
 exact (Am (Rb (Eg PySem.F.slot_str_partition PySem.F.type_str_partition Qg (Ab 0) (Ad Bc Af)) (Ha rfl (Bm (Ba 2 Gk.nd) (Bm (Ba 3 Gk.nd) (Bm (Ba 4 Gk.nd) Hc))))) (Am (Rb (Eg PySem.F.slot_str_partition PySem.F.type_str_partition Qg (Ab 4) (Ad Bc Af)) (Ha rfl (Bm (Ba 5 Gk.nd) (Bm (Ba 6 Gk.nd) (Bm (Ba 7 Gk.nd) Hc))))) (Am (Bo (Di ZDV (Ab 7) (ZCj (ss:= ["river","pump"]) rfl T.Ld) (by with_unfolding_all rfl)) (An Ma) Br) (An (Ay (Kz (Ad (Az (Tu T) (hr.mono (by decide)) rfl T.Ko T.Ka T.Ih pass0 (Ad (Ab 2) (Ad (Ab 1) Af))) (Ad (Az (Tu T) (hr.mono (by decide)) rfl T.Ko T.Ka T.Ih pass0 (Ad (Ab 5) (Ad (Ab 1) Af))) (Ad (Ab 7) Af)))))))))
theorem ZAq (T:Txt K mg t):FnOk P w K mg base CX0 4 t.Ib t.Lf ["text","row"] (lF K Ky):=by
 refine Bp T.Nm Za λcdv A outer s H E hr=> ?_
 exact (Am (Bo (Di (G9 hr.units) (Ab 0) Bc (nomark _)) (An (Ay (Kz Af))) Br) (Am (Bo (Cr (Dc (Eg PySem.F.slot_str_startswith PySem.F.type_str_startswith W5 (Ab 0) (Ad Bc Af)))) (An Ma) Br) (An (Ay (Em Pk rfl T.Ft Fv (Ad (Dz (Je rfl (Kw (dn:=(Av My).names) (N0:=Xz) (N:= ["part","row"]) (nt:=1) (caps:= [1])) (Er (Dz (Eg PySem.F.slot_str_split PySem.F.type_str_split m_split (Dz (ZBw (Ab 0) (ZBV Ah) ZEd)) (Ad Bc Af)))) (λC s₀ H₀ ex=>(Ba 0 (show (["part","row"]:List Str).Nodup by decide +kernel))) (Ex (by decide)) (λC s₀ H₀ ex=>K7) (λC s₀ H₀ ex=>(Az (ZAR T) (hr.mono (by decide)) rfl T.Qp T.Tn T.O6 pass0 (Ad (Ab 0) (Ad (Ab 1) Af)))))) Af))))))
theorem ZDC (T:Txt K mg t):FnOk P w K mg base CX0 5 t.Hn t.K4 ["text","row"] (lF K N6):=by
 refine Bp T.Oh N8 λcdv A outer s H E hr=> ?_
 exact (Am (Rb (Eg PySem.F.slot_str_partition PySem.F.type_str_partition Qg (Ab 0) (Ad Bc Af)) (Ha rfl (Bm (Ba 2 N8.nd) (Bm (Ba 3 N8.nd) (Bm (Ba 4 N8.nd) Hc))))) (Am (Bo (Di (G9 hr.units) (Ab 3) Bc (nomark _)) (An Ma) Br) (An (Ay (Kz (Ad (Az (Tu T) (hr.mono (by decide)) rfl T.Ko T.Ka T.Ih pass0 (Ad (Ab 2) (Ad (Ab 1) Af))) (Ad (Az (ZAq T) (hr.mono (by decide)) rfl T.Qz T.R6 T.Kc pass0 (Ad (Ab 4) (Ad (Ab 1) Af))) Af)))))))
theorem ZAY (T:Txt K mg t):FnOk P w K mg base CX0 6 t.Ii t.Jb ["text","row"] (lF K Pb):=by
 refine Bp T.P0 ZAO λcdv A outer s H E hr=> ?_
 exact (An (Ay (Em Pk rfl T.Ft Fv (Ad (Dz (Je rfl (Kw (dn:=(Av Nr).names) (N0:=Vg) (N:= ["part","row"]) (nt:=1) (caps:= [1])) (Er (Dz (Eg PySem.F.slot_str_split PySem.F.type_str_split m_split (Ab 0) (Ad Bc Af)))) (λC s₀ H₀ ex=>(Ba 0 (show (["part","row"]:List Str).Nodup by decide +kernel))) (Ex (by decide)) (λC s₀ H₀ ex=>K7) (λC s₀ H₀ ex=>(Az (ZDC T) (hr.mono (by decide)) rfl T.Ub T.Qe T.O4 pass0 (Ad (Ab 0) (Ad (Ab 1) Af)))))) Af))))
theorem ZDK (T:Txt K mg t):FnOk P w K mg base CX0 7 t.Hq t.Ji ["text"] (lF K Od):=by
 refine Bp T.Nx ZD3 λcdv A outer s H E hr=> ?_
 exact (An (Ay (Az (ZAY T) (hr.mono (by decide)) rfl T.Q8 T.Rp T.Oq pass0 (Ad (Ab 0) (Ad Ah Af)))))
theorem ZCR (T:Txt K mg t):FnOk P w K mg base CX0 1 t.Hh t.Kq ["first","stairs"] (lF K K3):=by
 refine Bp T.M9 W2 λcdv A outer s H E hr=> ?_
 exact (Am (Bo (Di (G9 hr.units) (By Gp rfl T.Gj Hb (Ad (Ab 1) Af)) Ah (nomark _)) (An (Ay (Qm (Eh (Ht (Ab 0)) (Eh Bc Tf))))) Br) (Am (Bg 2 W2.nd (Eg PySem.F.slot_str_join PySem.F.type_str_join Rt Bc (Ad (Dz (Je rfl (Kw (dn:=(Av Pu).names) (N0:=Wb) (N:= ["height","many","way"]) (nt:=3) (caps:= [])) (Er (Ab 1)) (λC s₀ H₀ ex=>(Ha rfl (Bm (Ba 0 (show (["height","many","way"]:List Str).Nodup by decide +kernel)) (Bm (Ba 1 (show (["height","many","way"]:List Str).Nodup by decide +kernel)) (Bm (Ba 2 (show (["height","many","way"]:List Str).Nodup by decide +kernel)) Hc))))) (Yo (Li (Ex (by decide)) (Li (Ex (by decide)) (Li (Ex (by decide)) Vq)))) (λC s₀ H₀ ex=>K7) (λC s₀ H₀ ex=>(Qm (Eh (Ht (Ab 0)) (Eh Bc (Eh (Ht (Ab 1)) (Eh Bc (Eh (Ht (Ab 2)) Tf))))))))) Af))) (An (Ay (Qm (Eh (Ht (Ab 0)) (Eh Bc (Eh (Ht (Ab 2)) Tf))))))))
theorem Zd (T:Txt K mg t):FnOk P w K mg base CX0 2 t.I8 t.Jq ["rule"] (lF K O2):=by
 refine Bp T.Mg ZAa λcdv A outer s H E hr=> ?_
 exact (An (Ay (Eg PySem.F.slot_str_join PySem.F.type_str_join Rt Bc (Ad (Dz (Je rfl (Kw (dn:=(Av Nz).names) (N0:=W4) (N:= ["first","stairs"]) (nt:=2) (caps:= [])) (Er (Ab 0)) (λC s₀ H₀ ex=>(Ha rfl (Bm (Ba 0 (show (["first","stairs"]:List Str).Nodup by decide +kernel)) (Bm (Ba 1 (show (["first","stairs"]:List Str).Nodup by decide +kernel)) Hc)))) (Yo (Li (Ex (by decide)) (Li (Ex (by decide)) Vq))) (λC s₀ H₀ ex=>K7) (λC s₀ H₀ ex=>(Az (ZCR T) (hr.mono (by decide)) rfl T.Ri T.R9 T.Lb pass0 (Ad (Ab 0) (Ad (Ab 1) Af)))))) Af))))
theorem U8 (T:Txt K mg t):FnOk P w K mg base CX0 8 t.Hf t.Jk ["_law_rule"] (lF K Hw):=by
 refine Bp T.Ml Tz λcdv A outer s H E hr=> ?_
 exact (Am (Bg 1 Tz.nd (Az (ZAn T) (hr.mono (by decide)) rfl T.R1 T.T8 T.Nj pass0 (Ad (Ab 0) Af))) (Am (Bg 2 Tz.nd (Az (Zd T) (hr.mono (by decide)) rfl T.Qj T.Qh T.Ox pass0 (Ad (Ab 0) Af))) (Am (Bo (Ey (Ec (Cr (Dc (By Fo rfl T.Fx Fl (Ad (Ab 2) (Ad (Fp rfl T.Lj Jp) Af))))) (Et (Di (Ph hr.units) (Ab 2) (Ab 1) (nomark _))))) (An (Ay Fw)) Br) (An (Ay (Az (ZAk T) (hr.mono (by decide)) rfl T.Tq T.Su T.Ol pass0 (Ad (Az (ZDK T) (hr.mono (by decide)) rfl T.Q4 T.Tr T.Pr pass0 (Ad (Ab 1) Af)) (Ad (Ab 0) Af))))))))
theorem ZBr (T:Txt K mg t):FnOk P w K mg base CX0 9 t.Fi t.R7 ["_law_script"] (lF K H9):=by
 refine Bp T.ZAt Q9 λcdv A outer s H E hr=> ?_
 exact (Am (Bg 1 Q9.nd (Az (Vd T) (hr.mono (by decide)) rfl T.M4 T.Oa T.Jx pass0 (Ad (Ab 0) (Ad Ah Af)))) (Am (Bg 2 Q9.nd (Az (Vd T) (hr.mono (by decide)) rfl T.M4 T.Oa T.Jx pass0 (Ad (Ab 0) (Ad Ah Af)))) (Am (Bo (Ey (Ec (Cr (Dc (Az (U8 T) (hr.mono (by decide)) rfl T.K6 T.Ke T.J0 pass0 (Ad (Ab 1) Af)))) (Et (Cr (Dc (Az (U8 T) (hr.mono (by decide)) rfl T.K6 T.Ke T.J0 pass0 (Ad (Ab 2) Af))))))) (An (Ay Fw)) Br) (An (Ay (Az (U8 T) (hr.mono (by decide)) rfl T.K6 T.Ke T.J0 pass0 (Ad (Ab 1) Af)))))))
end
def FX (K:PySem.W.Frag) (mg:Str->Option Value) (n:Str) (st:Stmt):Prop:=∃f d,Fun K n n st f d/\mg n=some (.ref f)/\PySem.W.keepIn K (.ref f)=true
theorem ZEc {K:PySem.W.Frag} {h:Heap} {mg:Str->Option Value} {n:Str} {st:Stmt} {f:Addr} {oc:Value} {od an:Option Addr} {sl:Array (Option Value)} {kV dc pm cd ct:Value} (X:K.In h) (G:h.Ns mainGlobals mg) (a:PySem.W.nsIn K mainGlobals n=some (some (.ref f)))
  (l:K.lookup f=some ⟨oc,od,.func (PySem.W.fnOf n n (Fj st) (Ei st) (Av st) .none kV dc pm an cd ct),sl⟩) (c:PySem.W.codeIn K cd n=true) (k:PySem.W.keepIn K (.ref f)=true):FX K mg n st:=⟨f,_,Rc (st:=st) l c k,PySem.W.mg_of X G a,k⟩
theorem all_mk {l:PySem.W.OpenLaw} {w:World} {K:PySem.W.Frag} {h:Heap} {mg:Str->Option Value} {fa:Addr} (X:K.In h) (G:h.Ns mainGlobals mg) (hfa:mg "law"=some (.ref fa))
  {Fi:Addr} {ZEe Ue:Option Addr} {ZEf:Array (Option Value)} {ZEg Ug Uh Ui Py Uj:Value}
  {Nb:Tok}
  {Nf:Tok}
  {Yu:Addr} {ZEh:Option Addr} {ZEi:Array (Option Value)} {ZEj:Nat} {ZEk ZEl:Tok}
  (Pz:PySem.W.nsIn K mainGlobals "law"=some (some (.ref Fi)))
  (Q0:K.lookup Fi=some ⟨ZEg,ZEe,.func (PySem.W.fnOf "law" "law" (Fj Dj) (Ei Dj) (Av Dj) .none Ug Uh Ui Ue Py Uj),ZEf⟩)
  (Q3:PySem.W.codeIn K Py "law"=true)
  (Iz:PySem.W.keepIn K (.ref Fi)=true)
  (Uk:FX K mg "_law_any" Th)
  (Ul:FX K mg "_law_cell_at" Ra)
  (Um:FX K mg "_law_stream" Rh)
  (Uo:FX K mg "_law_any_rule" Tc)
  (Up:FX K mg "_law_whole" Qk)
  (Uq:FX K mg "_law_rule_like" U0)
  (Ur:FX K mg "_law_rule_text" Sh)
  (Us:FX K mg "is_number" M6)
  (Ut:FX K mg "number_in" U4)
  (Uu:FX K mg "step_in" Sq)
  (Uv:FX K mg "stairs_in" My)
  (Uw:FX K mg "season_in" S7)
  (Ux:FX K mg "rule_in" Nr)
  (Uy:FX K mg "read_rule" U5)
  (Uz:FX K mg "shown_season" Pu)
  (V0:FX K mg "shown_rule" Nz)
  (V1:FX K mg "_law_there_and_back" Qx)
  (V2:PySem.W.nsIn K mainGlobals "all"=some none)
  (V3:PySem.W.nsIn K mainGlobals "bool"=some none)
  (V4:PySem.W.nsIn K mainGlobals "int"=some none)
  (V5:PySem.W.nsIn K mainGlobals "isinstance"=some none)
  (V6:PySem.W.nsIn K mainGlobals "len"=some none)
  (V7:PySem.W.nsIn K mainGlobals "max"=some none)
  (V8:PySem.W.nsIn K mainGlobals "range"=some none)
  (V9:PySem.W.nsIn K mainGlobals "str"=some none)
  (Va:PySem.W.nsIn K mainGlobals "tuple"=some none)
  (J7:PySem.W.nsIn K mainGlobals "FIGURES"=some (some (.str "0123456789" Nb)))
  (J9:PySem.W.nsIn K mainGlobals "MOST_FIGURES"=some (some (.int 40 Nf)))
  (Ld:PySem.W.nsIn K mainGlobals "WAYS"=some (some (.ref Yu))) (Vb:K.lookup Yu=some ⟨.type "tuple",ZEh,.seq [.str "river" ZEk,.str "pump" ZEl].toArray ZEj,ZEi⟩):
  ∃fd:FuncData,(∀(s:Shared) (v:Value),BindsTo s fd ⟨[v],[]⟩ [("_law_script",v)])/\∀base:Heap,K.In base->base.Ns mainGlobals mg->FnOk l.prog w K mg base CX0 9 fa fd ["_law_script"] (lF K H9):=by
 have e:=hfa.symm.trans (PySem.W.mg_of X G Pz);cases e;obtain ⟨Ij,Ja,Pq,Kh,Jm⟩:=Uk;obtain ⟨Hm,Jv,N5,Ow,Ls⟩:=Ul;obtain ⟨Ie,Jc,Np,Qu,Tv⟩:=Um;obtain ⟨Hl,K5,Oo,M4,Oa⟩:=Uo;obtain ⟨Hy,Kg,Oe,Kp,J8⟩:=Up;obtain ⟨Io,Kv,Mp,Tq,Su⟩:=Uq;obtain ⟨Im,Ku,Mf,R1,T8⟩:=Ur;obtain ⟨Hd,Jo,N7,R0,Qa⟩:=Us;obtain ⟨I9,Ju,Oc,Ko,Ka⟩:=Ut;obtain ⟨Hg,Lg,Mi,Qp,Tn⟩:=Uu;obtain ⟨Ib,Lf,Nm,Qz,R6⟩:=Uv;obtain ⟨Hn,K4,Oh,Ub,Qe⟩:=Uw;obtain ⟨Ii,Jb,P0,Q8,Rp⟩:=Ux
 obtain ⟨Hq,Ji,Nx,Q4,Tr⟩:=Uy;obtain ⟨Hh,Kq,M9,Ri,R9⟩:=Uz;obtain ⟨I8,Jq,Mg,Qj,Qh⟩:=V0;obtain ⟨Hf,Jk,Ml,K6,Ke⟩:=V1
 have T:Txt K mg ⟨Ij,Ja,Hm,Jv,Ie,Jc,Hl,K5,Hy,Kg,Io,Kv,Im,Ku,Hd,Jo,I9,Ju,Hg,Lg,Ib,Lf,Hn,K4,Ii,Jb,Hq,Ji,Hh,Kq,I8,Jq,Hf,Jk,fa,PySem.W.fnOf "law" "law" (Fj Dj) (Ei Dj) (Av Dj) .none Ug Uh Ui Ue Py Uj,Nb,Nf⟩:=⟨Pq,Pq.binds (ps:= ["_law_x","_law_cell"]) (λ_ _ _ _ _ _ us hl=>match us,hl with | [_,_],_=>rfl),Kh,Jm,
  N5,N5.binds (ps:= ["_law_script","_law_k"]) (λ_ _ _ _ _ _ us hl=>match us,hl with | [_,_],_=>rfl),Ow,Ls,
  Np,Np.binds (ps:= ["_law_cell","_law_k","_law_many"]) (λ_ _ _ _ _ _ us hl=>match us,hl with | [_,_,_],_=>rfl),Qu,Tv,
  Oo,Oo.binds (ps:= ["_law_script","_law_at"]) (λ_ _ _ _ _ _ us hl=>match us,hl with | [_,_],_=>rfl),M4,Oa,
  Oe,Oe.binds (ps:= ["_law_found"]) (λ_ _ _ _ _ _ us hl=>match us,hl with | [_],_=>rfl),Kp,J8,
  Mp,Mp.binds (ps:= ["_law_found","_law_due"]) (λ_ _ _ _ _ _ us hl=>match us,hl with | [_,_],_=>rfl),Tq,Su,
  Mf,Mf.binds (ps:= ["_law_rule"]) (λ_ _ _ _ _ _ us hl=>match us,hl with | [_],_=>rfl),R1,T8,
  N7,N7.binds (ps:= ["text"]) (λ_ _ _ _ _ _ us hl=>match us,hl with | [_],_=>rfl),R0,Qa,
  Oc,Oc.binds (ps:= ["text","row"]) (λ_ _ _ _ _ _ us hl=>match us,hl with | [_,_],_=>rfl),Ko,Ka,
  Mi,Mi.binds (ps:= ["text","row"]) (λ_ _ _ _ _ _ us hl=>match us,hl with | [_,_],_=>rfl),Qp,Tn,
  Nm,Nm.binds (ps:= ["text","row"]) (λ_ _ _ _ _ _ us hl=>match us,hl with | [_,_],_=>rfl),Qz,R6,
  Oh,Oh.binds (ps:= ["text","row"]) (λ_ _ _ _ _ _ us hl=>match us,hl with | [_,_],_=>rfl),Ub,Qe,
  P0,P0.binds (ps:= ["text","row"]) (λ_ _ _ _ _ _ us hl=>match us,hl with | [_,_],_=>rfl),Q8,Rp,
  Nx,Nx.binds (ps:= ["text"]) (λ_ _ _ _ _ _ us hl=>match us,hl with | [_],_=>rfl),Q4,Tr,
  M9,M9.binds (ps:= ["first","stairs"]) (λ_ _ _ _ _ _ us hl=>match us,hl with | [_,_],_=>rfl),Ri,R9,
  Mg,Mg.binds (ps:= ["rule"]) (λ_ _ _ _ _ _ us hl=>match us,hl with | [_],_=>rfl),Qj,Qh,
  Ml,Ml.binds (ps:= ["_law_rule"]) (λ_ _ _ _ _ _ us hl=>match us,hl with | [_],_=>rfl),K6,Ke,
  Rc (st:=Dj) Q0 Q3 Iz,(Rc (st:=Dj) Q0 Q3 Iz).binds (ps:= ["_law_script"]) (λ_ _ _ _ _ _ us hl=>match us,hl with | [_],_=>rfl),PySem.W.mg_of X G Pz,Iz,
  PySem.W.mg_none_of X G V2,
  PySem.W.mg_none_of X G V3,
  PySem.W.mg_none_of X G V4,
  PySem.W.mg_none_of X G V5,
  PySem.W.mg_none_of X G V6,
  PySem.W.mg_none_of X G V7,
  PySem.W.mg_none_of X G V8,
  PySem.W.mg_none_of X G V9,
  PySem.W.mg_none_of X G Va,
  PySem.W.mg_of X G J7,
  PySem.W.mg_of X G J9,
  ZEI X G Ld Vb (by simp) (.cons ⟨_,rfl⟩ (.cons ⟨_,rfl⟩ (.nil)))⟩
 exact ⟨PySem.W.fnOf "law" "law" (Fj Dj) (Ei Dj) (Av Dj) .none Ug Uh Ui Ue Py Uj,λs v=>.of_eq rfl,λbase _ _=>ZBr T⟩
theorem walk {l:PySem.W.OpenLaw} {q:Program} {loose:List Str} {XP:(Str->Option Value)->Heap->Prop} {YP:World->Heap->Prop} {d:DefRec} {K:Params->PySem.W.Frag} (hn:l.most=some 63) (hdf:d.params.defaults= []) (HH:Holds)
  (hY:∀(w:World) (h:Heap),YP w h->(K w.params).In h)
  (F:∀(w:World) (mg:Str->Option Value) (fa:Addr) (h:Heap),(K w.params).In h->h.Ns mainGlobals mg->mg d.name=some (.ref fa)->
   ∃fd:FuncData,(∀(s:Shared) (u:Value),BindsTo s fd ⟨[u],[]⟩ [("_law_script",u)])/\∀base:Heap,(K w.params).In base->base.Ns mainGlobals mg->FnOk l.prog w (K w.params) mg base CX0 9 fa fd ["_law_script"] (lF (K w.params) H9)):
  PySem.W.WalkO q loose XP YP l.row.toRowW d [] (λf vs=>PySem.call f vs):=
 ZB0 (n:=63) (k:=9) (x:="_law_script") (CX:=λ_=>CX0) (sp:=λw=>lF (K w.params) H9) hn (by decide) hdf ⟨rfl,by decide,by decide⟩ hY F
  (λw H a ns hl hbt hO hS=>by
   obtain ⟨G,hG⟩:=HH ns hl hbt;refine ⟨⟨K w.params,0,λ_=>0,H⟩,[],[.fl (ns.map D.int)],rfl,rfl,⟨rfl,λi j h=>absurd h (Nat.not_lt_zero _),λi o h=>by simp at h,λi h=>absurd h (Nat.not_lt_zero _)⟩,Reps.cons ⟨a,ns.map V.int,rfl,?_,Reps.ints ns⟩ Reps.nil,?_⟩
   ·rcases hS with (hS | hS) | hS
    ·rcases hO a with z | ⟨o,xs,z⟩
     ·rw [z] at hS;cases hS
     ·rw [z] at hS;cases hS
    ·exact .inl hS
    ·exact .inr hS
   ·rw [hG];exact λb v _ _ r=>r) λ_ _ _ _ _ z=>z
end Law
open PySem PySem.W PyProof.Rows
set_option maxRecDepth 100000 in
theorem PySem.Challenge.cw_sluiceway_k13_rules_written_holds : PySem.Challenge.rw_sluiceway_k13_rules_written.Holds := by
 w_on;o_law;k_head;(case hw=>w_witness2)
 k_fill
 refine Law.walk (l:=PySem.Challenge.rw_sluiceway_k13_rules_written) rfl rfl Law.holds (λw h Y=>PySem.W.kIn_of Y) ?F
 case F=>
  intro w mg fa h KX G hmg;refine' Law.all_mk KX G hmg ?Pz ?Q0 ?Q3 ?Iz ?Uk ?Ul ?Um ?Uo ?Up ?Uq ?Ur ?Us ?Ut ?Uu ?Uv ?Uw ?Ux ?Uy ?Uz ?V0 ?V1 ?V2 ?V3 ?V4 ?V5 ?V6 ?V7 ?V8 ?V9 ?Va ?J7 ?J9 ?Ld ?Vb
  case Pz | Q0 | Q3 | Iz | V2 | V3 | V4 | V5 | V6 | V7 | V8 | V9 | Va | J7 | J9 | Ld | Vb=>k_is
  case Uk | Ul | Um | Uo | Up | Uq | Ur | Us | Ut | Uu | Uv | Uw | Ux | Uy | Uz | V0 | V1=>refine' Law.ZEc KX G ?a ?l ?c ?k;(case a=>k_is);(case l=>k_is);(case c=>k_is);(case k=>k_is)
