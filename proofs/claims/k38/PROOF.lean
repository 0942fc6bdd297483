import PyProof.Rows.All
import Wide.All
import OpenK.AllK
import Wide.FinOn
import Lean
import PyProof.EqAt
import PyProof.EqKinds
import PyProof.TupleCall
import PyProof.NeKinds
import PyProof.IsInstanceH
import PyProof.SumWalkG
import PyProof.ConsumeWalk
import PyProof.IsiNone
import PyProof.WalksMore
import PyProof.PlainList
import PyProof.CompFree
import KE.KIntText
import PySem.Challenge.RW_sluiceway_k38_whole_more_water
set_option Elab.async false
set_option linter.all false
set_option maxRecDepth 100000
open List renaming getElem?_eq_getElem→zZ,mem_cons_of_mem→zJ,range→zX,replicate→zV,mem_cons_self→zW,size_toArray→zY,getElem?_map→zj,mem_cons→zx,getElem?_eq_none→zk,getD_eq_getElem?_getD→zA,map_cons→zC,getElem?_eq_some_iff→zD,getElem?_append_right→zG,mem_map→zH,getElem?_range→zI,drop_eq_getElem_cons→zM,mem_append_right→zN,drop_of_length_le→zO,getElem?_append_left→zP,replicate_succ→zR,length_map→zT,set→zU,map_congr_left→qQ,length_cons→qZ,getElem_mem→qJ,length_append→qX,filterMap_map→qV,mem_range→qW,filterMap_cons→qY,filterMap_eq_map'→qq,idxOf_lt_length_of_mem→qx,mem_singleton→qk,flatten_cons→qy,getElem_of_mem→q8,nodup_cons→q9,all_eq_true→qA,range_succ_eq_map→qC,getElem?_eq_none_iff→qD,ext_getElem→qF,getElem?_set_ne→qG,eq_nil_of_length_eq_zero→qH,getElem?_replicate→qI,getElem?_set_self→qL,lookup_cons→qM,map_map→qO,append_nil→qR,getElem?_set→qT,ext_getElem?→qU,pairwise_iff_getElem→jQ,getLast?_eq_getElem?→jZ,getElem?_take_of_lt→jV,lookup→jW,getD_cons_succ→jK,getD_cons_zero→jY,getElem?_cons_succ→jq,range_succ→jx,append_assoc→jw,length_singleton→jk,length_take→j0,all_cons→j1,mem_append→j2,length_set→j3,length_nil→j5,getElem_idxOf→j7,getElem?_cons_zero→j8,length_pos_of_mem→j9,length_replicate→jB,length_drop→jC,set_append_right→jE,zipIdx_cons→jF,mem_append_left→jH,foldl_cons→jI,nil_append→jL,forIn_cons→jN,map_nil→jO,drop_zero→jS
open Nat renaming le_refl→zK,lt_of_lt_of_le→zq,le_trans→z5,ne_of_lt→zB,lt_irrefl→zS,lt_succ_self→qK,lt_succ_of_lt→qB,ne_of_gt→qN,lt_or_ge→qP,le_succ→jv,zero_le→jA,le_add_right→jG,not_lt_zero→jM,mul_le_mul→jR
open Int renaming le_refl→zE,emod_nonneg→qS,emod_lt_of_pos→jz,mul_nonneg→jy,natCast_add→j6,le_trans→jP
open Option renaming map_eq_some_iff→zL,isSome_iff_exists→jX
open Bool renaming false_ne_true→z0,and_eq_true→zF,and_eq_true_iff→jJ,or_eq_true→j4
open Array renaming length_toList→qz,getElem?_toList→qE
open PySem.Heap renaming get?_push_of_some→zQ,lt_size→zw,get?_push_size→zy,size_push→qj,SameBut→qw,get?_update_self→jD
set_option maxHeartbeats 0
noncomputable section
namespace L2
open PySem PySem.Spec PyProof.Rows
variable {us:List Value} {u:Value} {a b C:Addr} {P:Program} {w:World} {h base:Heap} {t' i k:Nat} {ch fp:List Addr} {x:Str} {e c tg:Expr} {A:Around} {E Q:Value->Shared->Prop} {s:Shared} {pins:List (Addr×Obj)} {op:CmpOp} {K:PySem.W.Frag} {body:List Stmt} {f:Value->Value->Sem Value} {kw:List (Str×Value)} {mg:Str->Option Value} {kindOf:Str->Option NameKind}
abbrev Key:=Sum Int Str
def ZGU:Key->Value->Bool
 | .inl k,v=>Value.isInt k v
 | .inr x,v=>Value.isStrOf x v
def keyH (w:World):Key->Int
 | .inl k=>hashInt k
 | .inr x=>hashStr w x
theorem Kl:∀{k:Key} {v:Value},ZGU k v=true->(∃i t,k=Sum.inl i/\v=Value.int i t)∨(∃x t,k=Sum.inr x/\v=Value.str x t)
 | .inl i,v,h=>by obtain ⟨t,e⟩:=Value.isInt_shape (k:=i) (v:=v) h;exact .inl ⟨i,t,rfl,e⟩
 | .inr x,v,h=>by obtain ⟨t,e⟩:=Value.isStrOf_shape (x:=x) (v:=v) h;exact .inr ⟨x,t,rfl,e⟩
theorem ZM1 (a b:Int):decide ((Sum.inl a:Key)=Sum.inl b)=(a == b):=by
 by_cases e:a=b
 ·subst e;simp
 ·have h:¬(Sum.inl a:Key)=Sum.inl b:=λq=>e (Sum.inl.inj q)
  rw [decide_eq_false h];exact (beq_eq_false_iff_ne.mpr e).symm
theorem ZQC (a b:Str):decide ((Sum.inr a:Key)=Sum.inr b)=decide (a=b):=by
 by_cases e:a=b
 ·subst e;simp
 ·have h:¬(Sum.inr a:Key)=Sum.inr b:=λq=>e (Sum.inr.inj q)
  rw [decide_eq_false h,decide_eq_false e]
theorem ZOm (a:Int) (b:Str):decide ((Sum.inl a:Key)=Sum.inr b)=false:=decide_eq_false (λq=>nomatch q)
theorem ZJc (a:Str) (b:Int):decide ((Sum.inr a:Key)=Sum.inl b)=false:=decide_eq_false (λq=>nomatch q)
noncomputable def ZIU (prog:Program) (w:World):PySem.KeyKind prog w Key where
 is:=ZGU
 hash:=keyH w
 inj:=λv a b ha hb=>by
  rcases Kl ha with ⟨i,t,rfl,rfl⟩ | ⟨x,t,rfl,rfl⟩
  ·rcases Kl hb with ⟨j,u,rfl,e⟩ | ⟨y,u,rfl,e⟩
   ·injection e with e1 _;rw [e1]
   ·exact nomatch e
  ·rcases Kl hb with ⟨j,u,rfl,e⟩ | ⟨y,u,rfl,e⟩
   ·exact nomatch e
   ·injection e with e1 _;rw [e1]
 byValue:=λk v h=>by rcases Kl h with ⟨i,t,rfl,rfl⟩ | ⟨x,t,rfl,rfl⟩ <;> rfl
 pyHash:=λhv h=>by
  rcases Kl hv with ⟨i,t,rfl,rfl⟩ | ⟨x,t,rfl,rfl⟩
  ·exact wpAny_pyHash_int h
  ·exact wpAny_pyHash_str h
 eqBool:=λhu hv h=>by
  rcases Kl hu with ⟨i,t,rfl,rfl⟩ | ⟨x,t,rfl,rfl⟩
  ·rcases Kl hv with ⟨j,u,rfl,rfl⟩ | ⟨y,u,rfl,rfl⟩
   ·rw [ZM1] at h;exact wpAny_eqBool_int h
   ·rw [ZOm] at h;exact SeqAt.EqAt.int_str i t y u _ _ _ _ h
  ·rcases Kl hv with ⟨j,u,rfl,rfl⟩ | ⟨y,u,rfl,rfl⟩
   ·rw [ZJc] at h;exact SeqAt.EqAt.str_int x t j u _ _ _ _ h
   ·rw [ZQC] at h;exact wpAny_eqBool_str h
 «strs»:=λk x t v h=>by
  rcases Kl h with ⟨i,u,rfl,e⟩ | ⟨y,u,rfl,e⟩
  ·exact nomatch e
  ·injection e with e1 _
   subst e1
   cases v <;> rfl
inductive V where
 | non | bl (b:Bool) | int (i:Int) | str (x:Str) | byt (b:Array UInt8) | flt (b:UInt64) | ref (a:Addr) | ty (n:String)
 deriving DecidableEq
variable {v y:V} {vs:List V}
noncomputable def RelV:V->Value->Prop
 | .non,u=>u=Value.none
 | .bl b,u=>u=Value.bool b
 | .int i,u=>∃t,u=Value.int i t
 | .str x,u=>∃t,u=Value.str x t
 | .byt b,u=>∃t,u=Value.bytes b t
 | .flt b,u=>∃t,u=Value.float b t
 | .ref a,u=>u=Value.ref a
 | .ty n,u=>u=Value.type n
abbrev Vals:List V->List Value->Prop:=Paired RelV
theorem Vals.length {xs:List V} (r:Vals xs us):xs.length=us.length:=Paired.length r
theorem Vals.get:∀{xs:List V} {us:List Value} {i:Nat} {x:V},Vals xs us->xs[i]? =some x->∃u,us[i]? =some u/\RelV x u
 | _,_,_,_,.nil,e=>by simp at e
 | _,_,0,_,.cons r _,e=>by simp at e;subst e;exact ⟨_,rfl,r⟩
 | _,_,i + 1,x,.cons _ t,e=>by obtain ⟨u,h1,h2⟩:=Vals.get (i:=i) (x:=x) t (by simpa using e);exact ⟨u,by simpa using h1,h2⟩
theorem Vals.set {x:V} (r:RelV x u):∀{xs:List V} {us:List Value} (i:Nat),Vals xs us->Vals (xs.set i x) (us.set i u)
 | _,_,_,.nil=>.nil
 | _,_,0,.cons _ t=>.cons r t
 | _,_,i + 1,.cons q t=>.cons q (Vals.set r i t)
theorem Vals.append:∀{xs ys:List V} {us ws:List Value},Vals xs us->Vals ys ws->Vals (xs++ys) (us++ws)
 | _,_,_,_,.nil,s=>s
 | _,_,_,_,.cons r t,s=>.cons r (Vals.append t s)
theorem Vals.take:∀{xs:List V} {us:List Value} (n:Nat),Vals xs us->Vals (xs.take n) (us.take n)
 | _,_,0,_=>.nil
 | _,_,_ + 1,.nil=>.nil
 | _,_,n + 1,.cons r t=>.cons r (Vals.take n t)
theorem Vals.drop:∀{xs:List V} {us:List Value} (n:Nat),Vals xs us->Vals (xs.drop n) (us.drop n)
 | _,_,0,r=>r
 | _,_,_ + 1,.nil=>.nil
 | _,_,n + 1,.cons _ t=>Vals.drop n t
def RelO:Option V->Option Value->Prop
 | some v,some u=>RelV v u
 | none,none=>True
 | _,_=>False
noncomputable def KV {κ:Type}:List (κ×V)->List (κ×Value)->Prop:=Paired λ(p:κ×V) (q:κ×Value)=>p.1=q.1/\RelV p.2 q.2
def kV:Key->V
 | .inl i=>.int i
 | .inr x=>.str x
inductive HO where
 | lst (xs:List V)
 | tup (xs:List V)
 | dK (kvs:List (Key×V)) | dT (kvs:List (List Key×V))
 | set (S:Int->Bool) (n:Nat)
 | ins (C dx:Addr) (fs:List (Str×V))
 | own (x:Addr)
 | xd (fs:List (Str×V))
 | met (f x:Addr)
 | rng (lo hi:Int)
 | frz (o:Obj) (u:HO)
 | tbl (ps:Array Value)
 | ext (φ:Heap->Prop)
variable {o:HO}
abbrev Hp:=Addr->Option HO
variable {H:Hp}
def upd (H:Hp) (a:Addr) (o:HO):Hp:=λb=>if b=a then some o else H b
theorem Gz:upd H a o a=some o:=by unfold upd;rw [if_pos rfl]
theorem Bf (h:b≠a):upd H a o b=H b:=by unfold upd;rw [if_neg h]
theorem Hx (h:H a=some o) (h':H b=none):a≠b:=by intro e;subst e;rw [h] at h';cases h'
section
variable (P:Program) (w:World)
noncomputable def ObjOk (H:Hp) (h:Heap) (a:Addr):HO->Prop
 | .lst xs=>xs.length<=sizeLine/\∃(its:List Value) (n:Nat),Vals xs its/\h.get? a=some {cls:=.type "list",data:=.seq its.toArray n}
 | .tup xs=>xs.length<=sizeLine/\∃its:List Value,Vals xs its/\IsTup h a its.toArray
 | .dK kvs=>kvs.length<=sizeLine/\(a == sysModules)=false/\∃vs,KV kvs vs/\h.DictOf (ZIU P w) a vs
 | .dT kvs=>kvs.length<=sizeLine/\(a == sysModules)=false/\∃xs:List (List Key×Addr×Value),
   Paired (λ(p:List Key×V) (q:List Key×Addr×Value)=>p.1=q.1/\H q.2.1=some (.tup (p.1.map kV))/\RelV p.2 q.2.2) kvs xs/\
   ∃o es ep,h.get? a=some o/\o.ExactDict/\o.data=.dict es ep/\es.toList=xs.map (entryOfKey (tupleKind (ZIU P w)))/\(xs.map (·.1)).Nodup
 | .set S n=>h.SetOf (intKind P w) a S n
 | .ins C dx fs=>H dx=some (.own a)/\fs.length<=1000/\dx≠a/\h.get? a=some (PySem.W.instObj C dx)/\
   ∃mA,h.Ns1 dx mA/\(∀f,RelO (fs.lookup f) (mA f))/\PySem.Within mA (fs.map (·.1))
 | .own _=>∃o,h.get? a=some o
 | .xd fs=>∃mA,h.Ns1 a mA/\∀f,RelO (fs.lookup f) (mA f)
 | .rng lo hi=>∃t u v,h.get? a=some {cls:=.type "range",data:=.fields #[.int lo t,.int hi u,.int 1 v]}
 | .frz o u=>h.get? a=some o/\ObjOk H h a u
 | .tbl ps=>h.get? a=some {cls:=.none,data:=.fields ps}
 | .met f x=>h.get? a=some (PySem.W.methodObj (.ref f) (.ref x))
 | .ext φ=>φ h/\(∃o,h.get? a=some o)/\∀h1 h2:Heap,φ h1->(∀o,h1.get? a=some o->h2.get? a=some o)->φ h2
def HOk (H:Hp) (h:Heap):Prop:=∀a o,H a=some o->ObjOk P w H h a o
end
section
variable {P:Program} {w:World} {H H':Hp} {h h':Heap} {a:Addr} {o:HO}
theorem ObjOk.lt (x:ObjOk P w H h a o):a < h.objs.size:=by
 cases o with
 | lst xs=>obtain ⟨_,_,_,_,e⟩:=x;exact zw e
 | tup xs=>obtain ⟨_,_,_,p⟩:=x;exact p.lt
 | dK kvs=>obtain ⟨_,_,_,_,o,_,_,e,_⟩:=x;exact zw e
 | dT kvs=>obtain ⟨_,_,_,_,o,_,_,e,_⟩:=x;exact zw e
 | set S n=>obtain ⟨o,_,_,_,e,_⟩:=x;exact zw e
 | ins C dx fs=>obtain ⟨_,_,_,e,_⟩:=x;exact zw e
 | own y=>obtain ⟨_,e⟩:=x;exact zw e
 | xd fs=>obtain ⟨_,⟨_,_,_,e,_⟩,_⟩:=x;exact zw e
 | rng lo hi=>obtain ⟨_,_,_,e⟩:=x;exact zw e
 | frz ob u=>obtain ⟨e,_⟩:=x;exact zw e
 | tbl ps=>exact zw (show h.get? a=some _ from x)
 | met f y=>exact zw (show h.get? a=some _ from x)
 | ext φ=>obtain ⟨_,⟨_,e⟩,_⟩:=x;exact zw e
theorem Paired.mapP {α β:Type} {F G:α->β->Prop}:∀{l₁:List α} {l₂:List β},Paired F l₁ l₂->(∀a b,F a b->G a b)->Paired G l₁ l₂
 | _,_,.nil,_=>.nil
 | _,_,.cons r t,f=>.cons (f _ _ r) (Paired.mapP t f)
theorem ObjOk.stay (x:ObjOk P w H h a o) (k:∀b u,(b=a∨H b=some (.own a))->h.get? b=some u->h'.get? b=some u)
  (ho:∀b,H b=some (.own a)->H' b=some (.own a)) (ht:∀b xs,H b=some (.tup xs)->H' b=some (.tup xs)):ObjOk P w H' h' a o:=by
 induction o with
 | lst xs=>obtain ⟨z,its,n,r,e⟩:=x;exact ⟨z,its,n,r,k _ _ (.inl rfl) e⟩
 | tup xs=>obtain ⟨z,its,r,ob,e,c⟩:=x;exact ⟨z,its,r,ob,k _ _ (.inl rfl) e,c⟩
 | dK kvs=>obtain ⟨z,y,vs,r,ob,es,ep,e,c⟩:=x;exact ⟨z,y,vs,r,ob,es,ep,k _ _ (.inl rfl) e,c⟩
 | dT kvs=>
  obtain ⟨z,y,xs,r,ob,es,ep,e,c⟩:=x;exact ⟨z,y,xs,Paired.mapP r λp q z=>⟨z.1,ht _ _ z.2.1,z.2.2⟩,ob,es,ep,k _ _ (.inl rfl) e,c⟩
 | set S n=>obtain ⟨ob,es,ep,t,e,c⟩:=x;exact ⟨ob,es,ep,t,k _ _ (.inl rfl) e,c⟩
 | ins C dx fs=>
  obtain ⟨d,z,ne,e,mA,⟨od,es,ep,e2,c⟩,r⟩:=x;exact ⟨ho _ d,z,ne,k _ _ (.inl rfl) e,mA,⟨od,es,ep,k _ _ (.inr d) e2,c⟩,r⟩
 | own y=>obtain ⟨ob,e⟩:=x;exact ⟨ob,k _ _ (.inl rfl) e⟩
 | xd fs=>obtain ⟨mA,⟨od,es,ep,e,c⟩,r⟩:=x;exact ⟨mA,⟨od,es,ep,k _ _ (.inl rfl) e,c⟩,r⟩
 | rng lo hi=>obtain ⟨t,u,v,e⟩:=x;exact ⟨t,u,v,k _ _ (.inl rfl) e⟩
 | frz ob u ih=>obtain ⟨e,q⟩:=x;exact ⟨k _ _ (.inl rfl) e,ih q⟩
 | tbl ps=>
  have e:h.get? a=some {cls:=.none,data:=.fields ps}:=x;show h'.get? a=some {cls:=.none,data:=.fields ps};exact k a _ (.inl rfl) e
 | met f y=>
  have e:h.get? a=some (PySem.W.methodObj (.ref f) (.ref y)):=x;show h'.get? a=some (PySem.W.methodObj (.ref f) (.ref y));exact k a _ (.inl rfl) e
 | ext φ=>obtain ⟨p,⟨o,e⟩,st⟩:=x;exact ⟨st _ _ p λo q=>k _ _ (.inl rfl) q,⟨o,k _ _ (.inl rfl) e⟩,st⟩
theorem HOk.lt (x:HOk P w H h) (e:H a=some o):a < h.objs.size:=(x a o e).lt
theorem HOk.fresh (x:HOk P w H h) (e:h.objs.size<=a):H a=none:=by
 cases q:H a with
 | none=>rfl
 | some u=>exact absurd (zq (x.lt q) e) (zS _)
theorem HOk.kept (x:HOk P w H h) (k:∀b u,h.get? b=some u->h'.get? b=some u):HOk P w H h':=λa o e=>
 (x a o e).stay (λb u _ q=>k b u q) (λ_ q=>q) λ_ _ q=>q
theorem HOk.laid (x:HOk P w H h) (k:∀b u,h.get? b=some u->h'.get? b=some u) (hp:h.objs.size<=a) (new:ObjOk P w (upd H a o) h' a o):HOk P w (upd H a o) h':=λb u e=>by
 have hn:=x.fresh hp;by_cases hb:b=a
 ·subst hb;rw [Gz] at e;cases e;exact new
 ·rw [Bf hb] at e;exact (x b u e).stay (λc v _ q=>k c v q) (λc q=>by rw [Bf (Hx q hn)];exact q) λc xs q=>by rw [Bf (Hx q hn)];exact q
end
def Rd (H:Hp) (a:Addr) (u:HO):Prop:=H a=some u∨∃o,H a=some (.frz o u)
theorem Rd.ok {u:HO} (r:Rd H a u) (x:HOk P w H h):ObjOk P w H h a u:=by
 rcases r with r | ⟨o,r⟩
 ·exact x a u r
 ·obtain ⟨_,q⟩:=x a _ r;exact q
noncomputable def Mut:Option HO->Prop
 | some (.lst _)=>True
 | some (.dK _)=>True
 | some (.dT _)=>True
 | some (.set _ _)=>True
 | some (.ins _ _ _)=>True
 | some (.ext _)=>True
 | _=>False
section
variable {P:Program} {w:World} {H:Hp} {h h':Heap} {x e:Addr} {o':HO}
theorem HOk.write (ok:HOk P w H h) (mu:Mut (H x)) (he:e=x∨H e=some (.own x)) (k:∀b u,b≠e->h.get? b=some u->h'.get? b=some u) (heo:∃u,h'.get? e=some u)
  (new:ObjOk P w (upd H x o') h' x o'):HOk P w (upd H x o') h':=λb u q=>by
 have nown:∀c y,H c=some (.own y)->c≠x:=λc y r z=>by subst z;rw [r] at mu;exact mu
 have ntup:∀c xs,H c=some (.tup xs)->c≠x:=λc xs r z=>by subst z;rw [r] at mu;exact mu
 by_cases hb:b=x
 ·subst hb;rw [Gz] at q;cases q;exact new
 ·rw [Bf hb] at q;by_cases hbe:b=e
  ·have q':H b=some (.own x):=by
    rcases he with z | z
    ·exact absurd (hbe.trans z) hb
    ·rw [hbe];exact z
   rw [q] at q';cases q';obtain ⟨v,hv⟩:=heo;exact ⟨v,by rw [hbe];exact hv⟩
  ·refine (ok b u q).stay (λc v hc r=>k c v ?_ r) (λc r=>by rw [Bf (nown c b r)];exact r) λc xs r=>by rw [Bf (ntup c xs r)];exact r
   rcases hc with rfl | hc
   ·exact hbe
   ·rintro rfl;rcases he with z | z
    ·exact nown c b hc z
    ·rw [hc] at z;cases z;exact hb rfl
end
structure Un (fs ex:List Addr) (H H':Hp) (h h':Heap):Prop where
 keep:∀b o,h.get? b=some o->H b=none->b ∉ fs->b ∉ ex->h'.get? b=some o
 slot:∀b o,h.get? b=some o->H b=none->b∈fs->b ∉ ex->∃sl,h'.get? b=some {o with slots:=sl}
 free:∀b o,h.get? b=some o->H b=none->b ∉ ex->H' b=none
 there:∀b o,h.get? b=some o->b ∉ ex->∃o',h'.get? b=some o'
 tups:∀b xs,H b=some (.tup xs)->H' b=some (.tup xs)
 frzs:∀b o u,H b=some (.frz o u)->H' b=some (.frz o u)
 tbls:∀b ps,H b=some (.tbl ps)->∃more,H' b=some (.tbl (ps++more))
section
variable {fs fs' ex ex':List Addr} {H H1 H2:Hp} {h h1 h2 h':Heap} {a x e:Addr} {o:HO}
theorem Un.any (u:Un fs ex H H1 h h1) {ob:Obj} (q:h.get? b=some ob) (n:H b=none) (hx:b ∉ ex):∃sl,h1.get? b=some {ob with slots:=sl}:=by
 by_cases hb:b∈fs
 ·exact u.slot b ob q n hb hx
 ·exact ⟨ob.slots,u.keep b ob q n hb hx⟩
theorem Un.kept (k:∀b u,h.get? b=some u->h'.get? b=some u):Un fs ex H H h h':=
 ⟨λb ob q _ _ _=>k b ob q,λb ob q _ _ _=>⟨ob.slots,k b ob q⟩,λ_ _ _ n _=>n,λb ob q _=>⟨ob,k b ob q⟩,λ_ _ q=>q,λ_ _ _ q=>q,λ_ ps q=>⟨#[],by rw [q];simp⟩⟩
theorem Un.refl:Un fs ex H H h h:=Un.kept λ_ _ q=>q
theorem Un.laid (k:∀b u,h.get? b=some u->h'.get? b=some u) (hp:h.objs.size<=a) (hn:H a=none):Un fs ex H (upd H a o) h h' where
 keep:=λb u q _ _ _=>k b u q
 slot:=λb u q _ _ _=>⟨u.slots,k b u q⟩
 free:=λb u q n _=>by rw [Bf (zB (zq (zw q) hp))];exact n
 there:=λb u q _=>⟨u,k b u q⟩
 tups:=λb xs q=>by rw [Bf (Hx q hn)];exact q
 frzs:=λb u xs q=>by rw [Bf (Hx q hn)];exact q
 tbls:=λb ps q=>⟨#[],by rw [Bf (Hx q hn),q];simp⟩
theorem Un.write (mu:Mut (H x)) (he:e=x∨H e=some (.own x)) (k:∀b u,b≠e->h.get? b=some u->h'.get? b=some u) (heo:∃u,h'.get? e=some u):Un fs ex H (upd H x o) h h':=by
 have hx:∀b,H b=none->b≠x:=λb n z=>by subst z;rw [n] at mu;exact mu
 have hb:∀b,H b=none->b≠e:=λb n z=>by
  subst z;rcases he with r | r
  ·exact hx b n r
  ·rw [n] at r;cases r
 have hm:∀b u,H b=some u->¬Mut (some u)->b≠x:=λb u q nm z=>by subst z;rw [q] at mu;exact nm mu
 refine ⟨λb u q n _ _=>k b u (hb b n) q,λb u q n _ _=>⟨u.slots,k b u (hb b n) q⟩,λb u q n _=>by rw [Bf (hx b n)];exact n,λb u q _=> ?_,
  λb xs q=>by rw [Bf (hm b _ q λz=>z)];exact q,λb u xs q=>by rw [Bf (hm b _ q λz=>z)];exact q,λb ps q=>⟨#[],by rw [Bf (hm b _ q λz=>z),q];simp⟩⟩
 by_cases hbe:b=e
 ·subst hbe;exact heo
 ·exact ⟨u,k b u hbe q⟩
end
def trk (h:Heap) (H:Hp):List Addr:=(zX h.objs.size).filter λa=>(H a).isSome
def Km (h:Heap) (H:Hp):Heap:=PySem.W.hideAll h (trk h H)
theorem ZKR (h:Heap) (H:Hp):(Km h H).objs.size=h.objs.size:=PySem.W.hideAll_size _ _
theorem ZI2 {o:Obj} (e:h.get? b=some o) (n:H b=none):(Km h H).get? b=some o:=
 PySem.W.hideAll_get _ e λhm=>by have q:(H b).isSome=true:=(List.mem_filter.mp hm).2;rw [n] at q;simp at q
theorem ZI0 {o:Obj} (e:(Km h H).get? b=some o):h.get? b=some o/\H b=none:=by
 have e':h.get? b=some o:=PySem.W.of_hideAll (trk h H) e;refine ⟨e',?_⟩;cases q:H b with
 | none=>rfl
 | some x=>
  have hm:b∈trk h H:=List.mem_filter.mpr ⟨qW.mpr (zw e'),by simp [q]⟩;have z:(Km h H).get? b=none:=PySem.W.hideAll_none (trk h H) hm;rw [z] at e;cases e
noncomputable def ZMC (g h:Heap) (L:Addr):List (Addr×Obj):=(zX h.objs.size).filterMap λa=>if a=L∨(g.get? a).isSome=true then none else (h.get? a).map λo=>(a,o)
def rest (g h:Heap) (L d:Addr):List (Addr×Obj):=(ZMC g h L).filter λp=>decide (p.1≠d)
structure Mod (K:PySem.W.Frag) (mg:Str->Option Value) (base:Heap):Prop where
 kin:K.In base
 glob:base.Ns mainGlobals mg
 blt:∃mb,base.Ns builtinsNs mb/\∀x:Str,x≠"__name__"->mb x=bootBuiltins x
 nolimit:base.NoLimit
structure Cx where
 prog:Program
 w:World
 K:PySem.W.Frag
 mg:Str->Option Value
 base:Heap
 A:Around
 N:List Str
 s₀:Shared
 H₀:Hp
 env:Env
 outer:List Env
 stack:List Env
 ex:List Addr
 fn:Str->Bool
 calm:Bool
 pn:List (Addr×Obj)
 xe:Value->Shared->Prop
variable {X:Cx}
def frs (l:List Env):List Addr:=l.filterMap (·.frame)
abbrev Cx.fs (X:Cx):List Addr:=frs X.outer
noncomputable def Vis (sc:Scope) (x:Str):Prop:=sc.names.lookup x=some .local∨sc.names.lookup x=some .cell∨sc.names.lookup x=some .free
def Loc (sc:Scope) (x:Str):Prop:=sc.names.lookup x=some .local∨sc.names.lookup x=some .cell
noncomputable def Look (env:Env) (h:Heap) (m:Str->Option Value) (x:Str) (u:Value):Prop:=
 (env.kindOf x=some .local/\m x=some u)∨((env.kindOf x=some .cell∨env.kindOf x=some .free)/\∃c,env.cells.lookup x=some c/\h.IsCell c (some u))
structure Cx.Ok (X:Cx):Prop where
 mod:Mod X.K X.mg X.base
 kind:X.env.scope.kind=.function
 glob:X.env.globals=mainGlobals
 blt:X.env.builtins=builtinsNs
 above:X.s₀.heap.objs.size<=X.env.locals
 inj:∀x y c,X.env.cells.lookup x=some c->X.env.cells.lookup y=some c->x=y
 has:∀x,(X.env.kindOf x=some .cell∨X.env.kindOf x=some .free)->∃c,X.env.cells.lookup x=some c
 cab:∀x c,X.fn x=true->X.env.cells.lookup x=some c->X.s₀.heap.objs.size<=c
 hd:X.calm=true->X.A.handled=none
 frames:X.A.frames=some X.stack
 stk:X.stack=X.outer∨(X.stack=X.env::X.outer/\X.env.frame=some X.env.locals)
 exf:∀b∈X.ex,b≠X.env.locals/\∀x c,X.env.cells.lookup x=some c->c≠b
 bs:∀b o,X.base.get? b=some o->X.s₀.heap.get? b=some o/\X.H₀ b=none
 bsz:X.base.objs.size<=X.s₀.heap.objs.size
 noex:∀b o,X.base.get? b=some o->b ∉ X.ex
 exfs:∀b∈X.ex,b ∉ X.fs
 funs:X.s₀.heap.FunFrames X.base X.outer
 frf:∀b∈X.fs,X.H₀ b=none
structure Inv (X:Cx) (pins:List (Addr×Obj)) (σ:List (Option V)) (H:Hp) (s:Shared):Prop where
 ok:X.Ok
 os:s.os=X.s₀.os
 bare:AllBare s.gens
 base:Un X.fs X.ex X.H₀ H X.s₀.heap s.heap
 loc:∃m,s.heap.Ns X.env.locals m/\∀(i:Nat) (x:Str) (v:V),X.N[i]? =some x->σ[i]? =some (some v)->Vis X.env.scope x->∃u,RelV v u/\Look X.env s.heap m x u
 cell:∀x c,X.env.cells.lookup x=some c->∃v,s.heap.IsCell c v
 free:H X.env.locals=none
 Jl:∀x c,X.env.cells.lookup x=some c->H c=none
 pin:∀p∈X.pn++pins,s.heap.get? p.1=some p.2/\H p.1=none/\p.1≠X.env.locals/\p.1 ∉ X.fs/\∀v,p.2.data≠ .cell v
 hok:HOk X.prog X.w H s.heap
 len:σ.length=X.N.length
section
variable {X:Cx} {pins:List (Addr×Obj)} {σ:List (Option V)} {H H':Hp} {s:Shared} {h':Heap}
theorem Cx.Ok.nofr (ok:X.Ok) {o:Obj} (e:X.base.get? b=some o):b ∉ X.fs:=λhb=>by have:=(ok.funs.mem hb).1;rw [e] at this;cases this
theorem Inv.bs (I:Inv X pins σ H s):∀b o,X.base.get? b=some o->s.heap.get? b=some o/\H b=none:=λb o e=>
 ⟨I.base.keep b o (I.ok.bs b o e).1 (I.ok.bs b o e).2 (I.ok.nofr e) (I.ok.noex b o e),I.base.free b o (I.ok.bs b o e).1 (I.ok.bs b o e).2 (I.ok.noex b o e)⟩
theorem Inv.bk (I:Inv X pins σ H s):∀b o,X.base.get? b=some o->s.heap.get? b=some o:=λb o e=>(I.bs b o e).1
theorem Inv.mod (I:Inv X pins σ H s):Mod X.K X.mg X.base:=I.ok.mod
theorem Inv.kIn (I:Inv X pins σ H s):X.K.In s.heap:=I.ok.mod.kin.keeps I.bk
theorem Inv.lt (I:Inv X pins σ H s):X.env.locals < s.heap.objs.size:=let ⟨_,hn,_⟩:=I.loc;hn.lt
theorem Inv.sz (I:Inv X pins σ H s):X.s₀.heap.objs.size<=s.heap.objs.size:=z5 I.ok.above (Nat.le_of_lt I.lt)
theorem Inv.nofs (I:Inv X pins σ H s) (h:s.heap.objs.size<=a):a ∉ X.fs:=λhb=>by obtain ⟨_,o,ho,_⟩:=I.ok.funs.mem hb;exact absurd (zq (zw ho) (z5 I.sz h)) (zS _)
theorem Inv.cne (I:Inv X pins σ H s):∀x c,X.env.cells.lookup x=some c->c≠X.env.locals:=λx c e z=>by obtain ⟨v,o,ho,hd⟩:=I.cell x c e;obtain ⟨m,⟨o',es,ep,ho',hd',_⟩,_⟩:=I.loc;rw [z,ho'] at ho;cases ho;rw [hd'] at hd;cases hd
theorem Inv.funs (I:Inv X pins σ H s):s.heap.FunFrames X.base X.outer:=by
 have all:∀(l:List Env),(∀b∈frs l,b∈X.fs)->X.s₀.heap.FunFrames X.base l->s.heap.FunFrames X.base l:=by
  intro l
  induction l with
  | nil=>intro _ _;trivial
  | cons env r ih=>
   intro hs hl;obtain ⟨hk,⟨L,o,hf,hn,ho,hd⟩,hr⟩:=hl;have hL:L∈X.fs:=hs L (by unfold frs;rw [qY,hf];exact zW);obtain ⟨sl,e⟩:=I.base.slot L o ho (I.ok.frf L hL) hL λz=>I.ok.exfs L z hL
   exact ⟨hk,⟨L,_,hf,hn,e,hd⟩,ih (λb hb=>hs b (by unfold frs;rw [qY,hf];exact zJ _ hb)) hr⟩
 exact all X.outer (λ_ hb=>hb) I.ok.funs
theorem Inv.stack (I:Inv X pins σ H s):s.heap.FunFrames X.base X.stack:=by
 rcases I.ok.stk with e | ⟨e,hf⟩
 ·rw [e];exact I.funs
 ·rw [e];obtain ⟨m,hn,_⟩:=I.loc;refine .cons (by rw [I.ok.kind];decide) hf hn ?_ I.funs;exact Heap.get?_none_of_le (z5 I.ok.bsz I.ok.above)
theorem Inv.Wu (I:Inv X pins σ H s):∀b∈frs X.stack,b∈X.env.locals::X.fs:=λb hb=>by
 rcases I.ok.stk with e | ⟨e,hf⟩
 ·rw [e] at hb;exact zJ _ hb
 ·rw [e] at hb;unfold frs at hb;rw [qY,hf] at hb;exact hb
theorem Inv.ZGI (I:Inv X pins σ H s):∀b∈frs X.stack,H b=none:=λb hb=>by
 rcases zx.mp (I.Wu b hb) with e | hb
 ·rw [e];exact I.free
 ·obtain ⟨_,o,ho,_⟩:=I.ok.funs.mem hb;exact I.base.free b o ho (I.ok.frf b hb) λz=>I.ok.exfs b z hb
theorem Inv.step {g':Array GenState} {d':Drawn} (I:Inv X pins σ H s)
  (hch:∀b∈ch,(b∈X.ex∨X.s₀.heap.objs.size<=b)/\b≠X.env.locals/\(∀x c,X.env.cells.lookup x=some c->c≠b)/\∀p∈X.pn++pins,p.1≠b)
  (keep:∀b o,b≠X.env.locals->b ∉ X.fs->b ∉ ch->s.heap.get? b=some o->H b=none->h'.get? b=some o)
  (slot:∀b o,b≠X.env.locals->b∈X.fs->b ∉ ch->s.heap.get? b=some o->H b=none->∃sl,h'.get? b=some {o with slots:=sl}) (free:∀b o,b ∉ ch->s.heap.get? b=some o->H b=none->H' b=none)
  (there:∀b o,b ∉ ch->s.heap.get? b=some o->∃o',h'.get? b=some o')
  (tups:∀b xs,H b=some (.tup xs)->H' b=some (.tup xs)) (frzs:∀b o u,H b=some (.frz o u)->H' b=some (.frz o u)) (tbls:∀b ps,H b=some (.tbl ps)->∃more,H' b=some (.tbl (ps++more)))
  (ns:∀m,s.heap.Ns X.env.locals m->h'.Ns X.env.locals m) (hok:HOk X.prog X.w H' h') (hg:AllBare g'):
  Inv X pins σ H' {s with heap:=h',gens:=g',drawn:=d',toks:=t'}:=by
 have neL:∀b o,X.s₀.heap.get? b=some o->b≠X.env.locals:=λb o e=>zB (zq (zw e) I.ok.above)
 have neC:∀b o,X.s₀.heap.get? b=some o->b ∉ X.ex->b ∉ ch:=λb o e hx hb=>by
  rcases (hch b hb).1 with z | z
  ·exact hx z
  ·exact absurd (zq (zw e) z) (zS _)
 have cellK:∀x c,X.env.cells.lookup x=some c->∀v,s.heap.IsCell c v->h'.IsCell c v:=λx c e v ⟨o,ho,hd⟩=>by
  have nch:c ∉ ch:=λz=>(hch c z).2.2.1 x c e rfl
  by_cases hc:c∈X.fs
  ·obtain ⟨sl,q⟩:=slot c o (I.cne x c e) hc nch ho (I.Jl x c e);exact ⟨_,q,hd⟩
  ·exact ⟨o,keep c o (I.cne x c e) hc nch ho (I.Jl x c e),hd⟩
 refine ⟨I.ok,I.os,hg,⟨λb o e n hb hx=> ?_,λb o e n hb hx=> ?_,λb o e n hx=> ?_,λb o e hx=> ?_,λb xs e=>tups b xs (I.base.tups b xs e),λb o xs e=>frzs b o xs (I.base.frzs b o xs e),λb ps e=> ?_⟩,?_,λx c e=> ?_,?_,λx c e=> ?_,λp hp=> ?_,hok,I.len⟩
 ·exact keep b o (neL b o e) hb (neC b o e hx) (I.base.keep b o e n hb hx) (I.base.free b o e n hx)
 ·obtain ⟨sl,e1⟩:=I.base.slot b o e n hb hx;obtain ⟨sl',e2⟩:=slot b _ (neL b o e) hb (neC b o e hx) e1 (I.base.free b o e n hx);exact ⟨sl',e2⟩
 ·obtain ⟨o',e1⟩:=I.base.there b o e hx;exact free b o' (neC b o e hx) e1 (I.base.free b o e n hx)
 ·obtain ⟨o',e1⟩:=I.base.there b o e hx;exact there b o' (neC b o e hx) e1
 ·obtain ⟨m1,e1⟩:=I.base.tbls b ps e;obtain ⟨m2,e2⟩:=tbls b _ e1;exact ⟨m1++m2,by rw [e2,Array.append_assoc]⟩
 ·obtain ⟨m,hn,hl⟩:=I.loc;refine ⟨m,ns m hn,λi x v e1 e2 e3=> ?_⟩;obtain ⟨u,r,l⟩:=hl i x v e1 e2 e3;refine ⟨u,r,?_⟩;rcases l with l | ⟨k,c,e,z⟩
  ·exact .inl l
  ·exact .inr ⟨k,c,e,cellK x c e _ z⟩
 ·obtain ⟨v,z⟩:=I.cell x c e;exact ⟨v,cellK x c e v z⟩
 ·obtain ⟨m,⟨o,_,_,ho,_⟩,_⟩:=I.loc;exact free _ o (λz=>(hch _ z).2.1 rfl) ho I.free
 ·obtain ⟨v,o,ho,hd⟩:=I.cell x c e;exact free c o (λz=>(hch c z).2.2.1 x c e rfl) ho (I.Jl x c e)
 ·obtain ⟨e,n,ne,nf,d⟩:=I.pin p hp;have nch:p.1 ∉ ch:=λz=>(hch p.1 z).2.2.2 p hp rfl
  exact ⟨keep p.1 p.2 ne nf nch e n,free p.1 p.2 nch e n,ne,nf,d⟩
theorem Inv.un (I:Inv X pins σ H s) (u:Un X.fs [] H H' s.heap h') (hok:HOk X.prog X.w H' h'):Inv X pins σ H' {s with heap:=h',toks:=t'}:=by
 obtain ⟨m,⟨o,es,ep,ho,r⟩,_⟩:=id I.loc;obtain ⟨sl,hL⟩:=u.any ho I.free (by simp)
 exact I.step (g':=s.gens) (d':=s.drawn) (ch:= []) (λ_ z=>nomatch z) (λb o _ hb _ e n=>u.keep b o e n hb (by simp)) (λb o _ hb _ e n=>u.slot b o e n hb (by simp)) (λb o _ e n=>u.free b o e n (by simp)) (λb o _ e=>u.there b o e (by simp)) u.tups u.frzs u.tbls (λm' hm=>by obtain ⟨o',es',ep',ho',r'⟩:=hm;rw [ho] at ho';cases ho';exact ⟨_,es',ep',hL,r'⟩) hok I.bare
theorem Inv.call {g':Array GenState} {d':Drawn} (I:Inv X pins σ H s) (u:Un (frs X.stack) ch H H' s.heap h') (hok:HOk X.prog X.w H' h') (hg:AllBare g')
  (hch:∀b∈ch,(b∈X.ex∨X.s₀.heap.objs.size<=b)/\b≠X.env.locals/\(∀x c,X.env.cells.lookup x=some c->c≠b)/\∀p∈X.pn++pins,p.1≠b):
  Inv X pins σ H' {s with heap:=h',gens:=g',drawn:=d',toks:=t'}:=by
 obtain ⟨m,⟨o,es,ep,ho,r⟩,_⟩:=id I.loc;obtain ⟨sl,hL⟩:=u.any ho I.free λz=>(hch _ z).2.1 rfl
 exact I.step (ch:=ch) hch (λb o hL hb hc e n=>u.keep b o e n (λz=>(zx.mp (I.Wu b z)).elim hL hb) hc) (λb o _ _ hc e n=>u.any e n hc) (λb o hc e n=>u.free b o e n hc) (λb o hc e=>u.there b o e hc) u.tups u.frzs u.tbls (λm' hm=>by obtain ⟨o',es',ep',ho',r'⟩:=hm;rw [ho] at ho';cases ho';exact ⟨_,es',ep',hL,r'⟩) hok hg
theorem Inv.turned {it:Addr} (I:Inv X pins σ H s) (k:∀b o,b≠it->s.heap.get? b=some o->h'.get? b=some o) (hn:H it=none) (hL:it≠X.env.locals)
  (h1:it∈X.ex∨X.s₀.heap.objs.size<=it) (h2:∀x c,X.env.cells.lookup x=some c->c≠it) (h3:∀p∈X.pn++pins,p.1≠it):Inv X pins σ H {s with heap:=h',toks:=t'}:=by
 have nit:∀b u,H b=some u->b≠it:=λb u e z=>by rw [z,hn] at e;cases e
 refine I.step (g':=s.gens) (d':=s.drawn) (ch:= [it]) (λb hb=> ?_) (λb o _ _ hc e _=>k b o (λz=>hc (by simp [z])) e) (λb o _ _ hc e _=>⟨o.slots,k b o (λz=>hc (by simp [z])) e⟩) (λ_ _ _ _ n=>n)
  (λb o hc e=>⟨o,k b o (λz=>hc (by simp [z])) e⟩) (λ_ _ e=>e) (λ_ _ _ e=>e) (λb ps e=>⟨#[],by rw [e];simp⟩) (λm hm=> ?_) (λb u e=> ?_) I.bare
 ·have e:b=it:=by simpa using hb
  subst e;exact ⟨h1,hL,h2,h3⟩
 ·obtain ⟨o,es,ep,ho,r⟩:=hm;exact ⟨o,es,ep,k _ o (Ne.symm hL) ho,r⟩
 ·refine (I.hok b u e).stay (λc v hc q=>k c v ?_ q) (λ_ q=>q) λ_ _ q=>q
  rcases hc with z | z
  ·rw [z];exact nit b u e
  ·exact nit c _ z
theorem Inv.tok (I:Inv X pins σ H s) (t:Nat):Inv X pins σ H {s with toks:=t}:=I.un (h':=s.heap) (t':=t) Un.refl I.hok
theorem Inv.kept (I:Inv X pins σ H s) (k:∀b u,s.heap.get? b=some u->h'.get? b=some u):Inv X pins σ H {s with heap:=h',toks:=t'}:=I.un (Un.kept k) (I.hok.kept k)
theorem Inv.laid (I:Inv X pins σ H s) (k:∀b u,s.heap.get? b=some u->h'.get? b=some u) (hp:s.heap.objs.size<=a) (new:ObjOk X.prog X.w (upd H a o) h' a o):
  Inv X pins σ (upd H a o) {s with heap:=h',toks:=t'}:=I.un (Un.laid k hp (I.hok.fresh hp)) (I.hok.laid k hp new)
theorem Inv.write {x e:Addr} (I:Inv X pins σ H s) (mu:Mut (H x)) (he:e=x∨H e=some (.own x)) (k:∀b u,b≠e->s.heap.get? b=some u->h'.get? b=some u) (heo:∃u,h'.get? e=some u)
  (new:ObjOk X.prog X.w (upd H x o) h' x o):Inv X pins σ (upd H x o) {s with heap:=h',toks:=t'}:=I.un (Un.write mu he k heo) (I.hok.write mu he k heo new)
theorem Inv.Lx {pins':List (Addr×Obj)} (I:Inv X pins σ H s) (h:∀p∈pins',s.heap.get? p.1=some p.2/\H p.1=none/\p.1≠X.env.locals/\p.1 ∉ X.fs/\∀v,p.2.data≠ .cell v):Inv X pins' σ H s:=
 ⟨I.ok,I.os,I.bare,I.base,I.loc,I.cell,I.free,I.Jl,λp hp=>(j2.mp hp).elim (λz=>I.pin p (jH _ z)) (h p),I.hok,I.len⟩
theorem ZGc {N:List Str} (hN:N.Nodup) {j:Nat} (a:N[i]? =some x) (b:N[j]? =some x):i=j:=by obtain ⟨h1,e1⟩:=zD.mp a;obtain ⟨h2,e2⟩:=zD.mp b;exact (List.getElem_inj hN).mp (e1.trans e2.symm)
theorem ZF0 {M:Model} {A:Around} {E:Value->Shared->Prop} {Q:Unit->Shared->Prop} (I:Inv X pins σ H s) (hN:X.N.Nodup) (hi:X.N[i]? =some x) (hx:Loc X.env.scope x) (r:RelV v u)
  (h:∀s',Inv X pins (σ.set i (some v)) H s'->(∃a,qw a s.heap s'.heap/\(a=X.env.locals∨X.env.cells.lookup x=some a))->Q () s') (hf:X.fn x=true∨X.env.scope.names.lookup x=some .local:=by first | exact .inl rfl | exact .inr rfl | assumption):wpAny M A (storeName X.env x u) Q E s:=by
 obtain ⟨m,hn,hl⟩:=id I.loc;have hcls:(X.env.scope.kind == .class || (X.env.scope.kind == .module && X.env.locals != X.env.globals))=false:=by rw [I.ok.kind];rfl
 have hiσ:i < σ.length:=by rw [I.len];exact (zD.mp hi).1
 have cne:=I.cne;have tracked:∀{a:Addr} {h':Heap},(∃o,s.heap.get? a=some o/\H a=none)->qw a s.heap h'->HOk X.prog X.w H h':=λ{a h'} ha hs b ob e=>by
  obtain ⟨_,_,hfree⟩:=ha;refine (I.hok b ob e).stay (λc w' hc q=>(hs.2 c ?_).trans q) (λ_ q=>q) λ_ _ q=>q
  rintro rfl;rcases hc with rfl | hc
  ·rw [hfree] at e;cases e
  ·rw [hfree] at hc;cases hc
 rcases hx with hk | hk
 ·refine wpAny_storeName_local hk hn (λh' hn' hs=> ?_) hcls;obtain ⟨oL,_,_,hoL,_⟩:=id hn;refine h _ ⟨I.ok,I.os,I.bare,⟨λb o e n hb hx=> ?_,λb o e n hb hx=> ?_,I.base.free,λb o e hx=> ?_,I.base.tups,I.base.frzs,I.base.tbls⟩,⟨_,hn',λj y v' e1 e2 e3=> ?_⟩,λy c e=> ?_,I.free,I.Jl,λp hp=> ?_,tracked ⟨oL,hoL,I.free⟩ hs,by simpa using I.len⟩ ⟨_,hs,.inl rfl⟩
  ·exact (hs.2 b (zB (zq (zw e) I.ok.above))).trans (I.base.keep b o e n hb hx)
  ·obtain ⟨sl,e1⟩:=I.base.slot b o e n hb hx;exact ⟨sl,(hs.2 b (zB (zq (zw e) I.ok.above))).trans e1⟩
  ·obtain ⟨o',e1⟩:=I.base.there b o e hx;exact ⟨o',(hs.2 b (zB (zq (zw e) I.ok.above))).trans e1⟩
  ·by_cases hj:j=i
   ·subst hj;rw [hi] at e1;cases e1;rw [qL hiσ] at e2;cases e2;exact ⟨u,r,.inl ⟨hk,by simp⟩⟩
   ·rw [qG (Ne.symm hj)] at e2;obtain ⟨u',r',q⟩:=hl j y v' e1 e2 e3;refine ⟨u',r',?_⟩;rcases q with ⟨k,e⟩ | ⟨k,c,e,z⟩
    ·refine .inl ⟨k,?_⟩;have:y≠x:=λe=>hj (ZGc hN e1 (e ▸ hi))
     simp [this,e]
    ·exact .inr ⟨k,c,e,z.sameBut hs (cne y c e)⟩
  ·obtain ⟨w',z⟩:=I.cell y c e;exact ⟨w',z.sameBut hs (cne y c e)⟩
  ·obtain ⟨e,n,ne,nf,d⟩:=I.pin p hp;exact ⟨(hs.2 p.1 ne).trans e,n,ne,nf,d⟩
 ·have hfn:X.fn x=true:=by
   rcases hf with z | z
   ·exact z
   ·rw [z] at hk;cases hk
  obtain ⟨c,hc⟩:=I.ok.has x (.inl hk);obtain ⟨w',z⟩:=I.cell x c hc;refine wpAny_storeName_cell I.ok.kind hk hc z (λh' hc' hs=> ?_);obtain ⟨oc,hoc,hocd⟩:=id z;refine h {s with heap:=h'} ⟨I.ok,I.os,I.bare,⟨λb o e n hb hx=> ?_,λb o e n hb hx=> ?_,I.base.free,λb o e hx=> ?_,I.base.tups,I.base.frzs,I.base.tbls⟩,⟨m,hn.sameBut hs (Ne.symm (cne x c hc)),λj y v' e1 e2 e3=> ?_⟩,λy c' e=> ?_,I.free,I.Jl,λp hp=> ?_,tracked ⟨oc,hoc,I.Jl x c hc⟩ hs,by simpa using I.len⟩ ⟨c,hs,.inr hc⟩
  ·exact (hs.2 b (zB (zq (zw e) (I.ok.cab x c hfn hc)))).trans (I.base.keep b o e n hb hx)
  ·obtain ⟨sl,e1⟩:=I.base.slot b o e n hb hx;exact ⟨sl,(hs.2 b (zB (zq (zw e) (I.ok.cab x c hfn hc)))).trans e1⟩
  ·obtain ⟨o',e1⟩:=I.base.there b o e hx;exact ⟨o',(hs.2 b (zB (zq (zw e) (I.ok.cab x c hfn hc)))).trans e1⟩
  ·by_cases hj:j=i
   ·subst hj;rw [hi] at e1;cases e1;rw [qL hiσ] at e2;cases e2;exact ⟨u,r,.inr ⟨.inl hk,c,hc,hc'⟩⟩
   ·rw [qG (Ne.symm hj)] at e2;obtain ⟨u',r',q⟩:=hl j y v' e1 e2 e3;refine ⟨u',r',?_⟩;rcases q with q | ⟨k,c',e,z'⟩
    ·exact .inl q
    ·refine .inr ⟨k,c',e,z'.sameBut hs ?_⟩;rintro rfl;exact hj (ZGc hN e1 (I.ok.inj _ _ _ e hc ▸ hi))
  ·by_cases hcc:c'=c
   ·subst hcc;exact ⟨_,hc'⟩
   ·obtain ⟨w2,z2⟩:=I.cell y c' e;exact ⟨w2,z2.sameBut hs hcc⟩
  ·obtain ⟨e,n,ne,nf,d⟩:=I.pin p hp;refine ⟨(hs.2 p.1 ?_).trans e,n,ne,nf,d⟩;intro q;rw [q,hoc] at e;have q':oc=p.2:=Option.some.inj e;exact d w' (by rw [<-q'];exact hocd)
theorem ZBo {M:Model} {A:Around} {E:Value->Shared->Prop} {Q:Unit->Shared->Prop} (I:Inv X pins σ H s) (hN:X.N.Nodup) (hi:X.N[i]? =some x) (hx:Loc X.env.scope x) (r:RelV v u)
  (h:∀s',Inv X pins (σ.set i (some v)) H s'->Q () s') (hf:X.fn x=true∨X.env.scope.names.lookup x=some .local:=by first | exact .inl rfl | exact .inr rfl | assumption):wpAny M A (storeName X.env x u) Q E s:=
 ZF0 I hN hi hx r (λs' I' _=>h s' I') hf
theorem Inv.call' {s':Shared} (I:Inv X pins σ H s) (ho:s'.os=s.os) (u:Un (frs X.stack) ch H H' s.heap s'.heap) (hok:HOk X.prog X.w H' s'.heap) (hg:AllBare s'.gens)
  (hch:∀b∈ch,(b∈X.ex∨X.s₀.heap.objs.size<=b)/\b≠X.env.locals/\(∀x c,X.env.cells.lookup x=some c->c≠b)/\∀p∈X.pn++pins,p.1≠b):Inv X pins σ H' s':=by
 obtain ⟨h',g',d',t',o'⟩:=s';have e:o'=s.os:=ho;subst e;exact I.call (g':=g') (t':=t') (d':=d') u hok hg hch
end
abbrev XK:=Value->Option Addr->Hp->Prop
abbrev St:=List (Option V)
variable {σ:St}
abbrev VK:=V->Hp->Prop
abbrev TE:=St->Hp->VK->Prop
variable {t te:TE}
abbrev TT:=St->Hp->(Bool->Hp->Prop)->Prop
abbrev TA:=St->Hp->(List V->Hp->Prop)->Prop
structure Ends where
 nx:St->Hp->Prop
 rt:VK
 bk:St->Hp->Prop:=λ_ _=>False
 ct:St->Hp->Prop:=λ_ _=>False
abbrev TS:=Ends->St->Hp->Prop
noncomputable def EP (X:Cx) (pins:List (Addr×Obj)) (σ:St) (Q:VK) (u:Value) (s':Shared):Prop:=∃v H',Inv X pins σ H' s'/\RelV v u/\Q v H'
noncomputable def TP (X:Cx) (pins:List (Addr×Obj)) (σ:St) (Q:Bool->Hp->Prop) (b:Bool) (s':Shared):Prop:=∃H',Inv X pins σ H' s'/\Q b H'
noncomputable def AP (X:Cx) (pins:List (Addr×Obj)) (σ:St) (Q:List V->Hp->Prop) (us:List Value) (s':Shared):Prop:=∃vs H',Inv X pins σ H' s'/\Vals vs us/\Q vs H'
noncomputable def SP (X:Cx) (pins:List (Addr×Obj)) (D:Ends) (f:Flow) (s':Shared):Prop:=
 match f with
 | .next=>∃σ' H',Inv X pins σ' H' s'/\D.nx σ' H'
 | .brk=>∃σ' H',Inv X pins σ' H' s'/\D.bk σ' H'
 | .cont=>∃σ' H',Inv X pins σ' H' s'/\D.ct σ' H'
 | .ret u=>∃v σ' H',Inv X pins σ' H' s'/\RelV v u/\D.rt v H'
noncomputable def PE (X:Cx) (e:Expr) (t:TE):Prop:=
 ∀(pins:List (Addr×Obj)) (s:Shared) (σ:St) (H:Hp) (Q:VK),Inv X pins σ H s->t σ H Q->wpAny (model X.prog X.w) X.A (eval e X.env) (EP X pins σ Q) X.xe s
noncomputable def PT (X:Cx) (e:Expr) (t:TT):Prop:=
 ∀(pins:List (Addr×Obj)) (s:Shared) (σ:St) (H:Hp) (Q:Bool->Hp->Prop),Inv X pins σ H s->t σ H Q->wpAny (model X.prog X.w) X.A (isTrue e X.env (eval e X.env)) (TP X pins σ Q) X.xe s
noncomputable def PW (X:Cx) (e:Expr) (t:TT):Prop:=
 ∀(whole:Sem Value) (pins:List (Addr×Obj)) (s:Shared) (σ:St) (H:Hp) (Q:Bool->Hp->Prop),Inv X pins σ H s->t σ H Q->wpAny (model X.prog X.w) X.A (isTrue e X.env whole) (TP X pins σ Q) X.xe s
theorem PW.pt {t:TT} (h:PW X e t):PT X e t:=h _
noncomputable def PA (X:Cx) (es:List Expr) (t:TA):Prop:=
 ∀(pos:Pos) (pins:List (Addr×Obj)) (s:Shared) (σ:St) (H:Hp) (Q:List V->Hp->Prop),Inv X pins σ H s->t σ H Q->wpAny (model X.prog X.w) X.A (spliced (backTo pos (starEach es X.env))) (AP X pins σ Q) X.xe s
noncomputable def PS (X:Cx) (st:Stmt) (t:TS):Prop:=
 ∀(pins:List (Addr×Obj)) (s:Shared) (σ:St) (H:Hp) (D:Ends),Inv X pins σ H s->t D σ H->wpAny (model X.prog X.w) X.A (exec st X.env) (SP X pins D) X.xe s
noncomputable def PSs (X:Cx) (st:List Stmt) (t:TS):Prop:=
 ∀(pins:List (Addr×Obj)) (s:Shared) (σ:St) (H:Hp) (D:Ends),Inv X pins σ H s->t D σ H->wpAny (model X.prog X.w) X.A (execs st X.env) (SP X pins D) X.xe s
theorem thn {α:Type} {t:Sem α} {Q Q':α->Shared->Prop} {M:Model} (h:wpAny M A t Q E s) (hQ:∀a s,Q a s->Q' a s):wpAny M A t Q' E s:=wpAny_mono h hQ λ_ _ x=>x
section
variable {X:Cx}
theorem bin {a b:Expr} {ta tb:TE} (ha:PE X a ta) (hb:PE X b tb) {R:V->V->Hp->Prop} (I:Inv X pins σ H s) (h:ta σ H λx H1=>tb σ H1 λy H2=>R x y H2)
  {α:Type} {Q:α->Shared->Prop} {f:Value->Value->Sem α}
  (hf:∀v u s2 x y H2,Inv X pins σ H2 s2->RelV x v->RelV y u->R x y H2->wpAny (model X.prog X.w) X.A (f v u) Q X.xe s2):
  wpAny (model X.prog X.w) X.A (eval a X.env) (λv s₁=>wpAny (model X.prog X.w) X.A (eval b X.env) (λu s₂=>wpAny (model X.prog X.w) X.A (f v u) Q X.xe s₂) X.xe s₁) X.xe s:=by
 refine thn (ha pins s σ H _ I h) λv s1 ⟨x,H1,I1,r1,q1⟩=> ?_
 refine thn (hb pins s1 σ H1 _ I1 q1) λu s2 ⟨y,H2,I2,r2,q2⟩=> ?_
 exact hf v u s2 x y H2 I2 r1 r2 q2
def tVar (i:Nat):TE:=λσ H Q=>∃v,σ[i]? =some (some v)/\Q v H
def tC (v:V):TE:=λ_ H Q=>Q v H
theorem ZJu {pos:Pos} (hN:X.N[i]? =some x) (hv:Vis X.env.scope x) (hd:(x == ("__debug__":Str))=false:=by decide) (hcd:(x == ("__classdict__":Str))=false:=by decide):PE X (.Name x pos) (tVar i):=by
 intro pins s σ H Q I h;obtain ⟨v,e,h⟩:=h;obtain ⟨m,hn,hl⟩:=I.loc;obtain ⟨u,r,l⟩:=hl i x v hN e hv;have fin:EP X pins σ Q u s:=⟨v,H,I,r,h⟩;rcases l with ⟨hk,hm⟩ | ⟨hk,c,hc,hcell⟩
 ·exact wpAny_Name (wpAny_loadName_local I.ok.kind hk hn hm fin) hd
 ·rcases hk with hk | hk
  ·exact wpAny_Name (wpAny_loadName_cell I.ok.kind hk hc hcell fin) hd
  ·exact wpAny_Name (wpAny_loadName_free I.ok.kind hk hc hcell fin hcd) hd
theorem ZJb {i j pos}:PE X (.Constant (.int i) j pos) (tC (.int i)):=λ_ _ _ H _ I h=>wpAny_Constant_int ⟨.int i,H,I.tok _,⟨_,rfl⟩,h⟩
theorem ZMu {b j pos}:PE X (.Constant (.bool b) j pos) (tC (.bl b)):=λ_ _ _ H _ I h=>Constant_bool ⟨.bl b,H,I,rfl,h⟩
theorem ZQD {j pos}:PE X (.Constant .none j pos) (tC .non):=λ_ _ _ H _ I h=>Constant_none ⟨.non,H,I,rfl,h⟩
theorem ZJN {x j pos}:PE X (.Constant (.str x) j pos) (tC (.str x)):=λ_ _ _ H _ I h=>Calls.Constant_str ⟨.str x,H,I.tok _,⟨_,rfl⟩,h⟩
def Gl (X:Cx) (x:Str):Prop:=X.env.kindOf x=some .globalImplicit
theorem Zo {E:Value->Shared->Prop} {pos:Pos} (I:Inv X pins σ H s) (hg:Gl X x) (hm:X.mg x=some u) (h:Q u s)
  (hd:(x == ("__debug__":Str))=false:=by decide):wpAny (model X.prog X.w) X.A (eval (.Name x pos) X.env) Q E s:=
 Calls.Name_function_global I.ok.kind hg (Calls.loadGlobal_global (by rw [I.ok.glob];exact I.mod.glob.keeps I.bk) hm h) hd
theorem Jb {E:Value->Shared->Prop} {pos:Pos} (I:Inv X pins σ H s) (hg:Gl X x) (hm:X.mg x=none) (hv:bootBuiltins x=some u) (h:Q u s)
  (hn:x≠"__name__":=by decide) (hd:(x == ("__debug__":Str))=false:=by decide):wpAny (model X.prog X.w) X.A (eval (.Name x pos) X.env) Q E s:=by
 obtain ⟨mb,h1,h2⟩:=I.mod.blt;exact Calls.Name_function_global I.ok.kind hg (Calls.loadGlobal_builtin (by rw [I.ok.glob];exact I.mod.glob.keeps I.bk) hm (by rw [I.ok.blt];exact h1.keeps I.bk) ((h2 x hn).trans hv) h) hd
theorem ZKs {pos:Pos} (hg:Gl X x) (hm:X.mg x=some u) (r:RelV v u) (hd:(x == ("__debug__":Str))=false:=by decide):PE X (.Name x pos) (tC v):=
 λ_ _ _ H _ I h=>Zo I hg hm ⟨v,H,I,r,h⟩ hd
theorem ZJ5 {pos:Pos} (hg:Gl X x) (hm:X.mg x=none) (hv:bootBuiltins x=some u) (r:RelV v u) (hn:x≠"__name__":=by decide) (hd:(x == ("__debug__":Str))=false:=by decide):PE X (.Name x pos) (tC v):=
 λ_ _ _ H _ I h=>Jb I hg hm hv ⟨v,H,I,r,h⟩ hn hd
variable {a b:Expr} {ta tb:TE} {pos:Pos}
noncomputable def PC (X:Cx) (op:CmpOp) (a b:Expr) (t:TE):Prop:=
 ∀(pins:List (Addr×Obj)) (s:Shared) (σ:St) (H:Hp) (Q:VK),Inv X pins σ H s->t σ H Q->
  wpAny (model X.prog X.w) X.A (eval a X.env) (λv s₁=>wpAny (model X.prog X.w) X.A (eval b X.env) (λu s₂=>wpAny (model X.prog X.w) X.A (compareOp op v u) (EP X pins σ Q) X.xe s₂) X.xe s₁) X.xe s
theorem nobehind (b:Expr) (h:op≠ .In) (h2:op≠ .NotIn):behindInMarks op b=false:=by
 have e1:(op == CmpOp.In)=false:=by cases op <;> first | rfl | exact absurd rfl h
 have e2:(op == CmpOp.NotIn)=false:=by cases op <;> first | rfl | exact absurd rfl h2
 cases b <;> simp [behindInMarks,e1,e2]
def tB (t:TE):TT:=λσ H Q=>t σ H λx H1=>∃c,x=.bl c/\Q c H1
theorem pt_cmp (h:PC X op a b t) (h1:behindInMarks op b=false:=by first | exact nobehind _ (by decide) (by decide) | rfl):PT X (.Compare a [op] [b] pos) (tB t):=by intro pins s σ H Q I hw;refine wpAny_isTrue_Compare1 (thn (h pins s σ H _ I hw) λv s1 h1=>thn h1 λu s2 h2=>thn h2 λc s3 ⟨x,H1,I1,r1,q1⟩=> ?_) h1;obtain ⟨d,rfl,q⟩:=q1;cases r1;exact wpAny_truthy_bool ⟨H1,I1,q⟩
theorem ZK3 (h:PE X e t) (he:∀whole,isTrue e X.env whole=(do let v<-whole;standAt e.pos;holding [v] (truthy v)):=by intro _;rfl):PT X e (tB t):=by intro pins s σ H Q I hw;refine isTrue_plain (thn (h pins s σ H _ I hw) λv s1 ⟨x,H1,I1,r1,q1⟩=> ?_) (he _);obtain ⟨d,rfl,q⟩:=q1;cases r1;exact wpAny_truthy_bool ⟨H1,I1,q⟩
variable {tA tB':TT} {rest:List Expr}
def tAnd (t u:TT):TT:=λσ H Q=>t σ H λc H1=>if c=true then u σ H1 Q else Q false H1
def tOr (t u:TT):TT:=λσ H Q=>t σ H λc H1=>if c=true then Q true H1 else u σ H1 Q
def tNot (t:TT):TT:=λσ H Q=>t σ H λc H1=>Q (!c) H1
theorem pw_and1 (ha:PT X a tA):PW X (.BoolOp .And [a] pos) tA:=by
 intro wh pins s σ H Q I h;refine isTrue_and (thn (ha pins s σ H Q I h) λc s1 e=> ?_);cases c with
 | true=>exact isTrue_and_nil e
 | false=>exact e
theorem pw_or1 (ha:PT X a tA):PW X (.BoolOp .Or [a] pos) tA:=by
 intro wh pins s σ H Q I h;refine isTrue_or (thn (ha pins s σ H Q I h) λc s1 e=> ?_);cases c with
 | false=>exact isTrue_or_nil e
 | true=>exact e
theorem pw_and (ha:PT X a tA) (hb:PW X (.BoolOp .And (b::rest) pos) tB'):PW X (.BoolOp .And (a::b::rest) pos) (tAnd tA tB'):=by
 intro wh pins s σ H Q I h;refine isTrue_and (thn (ha pins s σ H _ I h) λc s1 ⟨H1,I1,q1⟩=> ?_);cases c with
 | true=>exact hb wh pins s1 σ H1 Q I1 q1
 | false=>exact ⟨H1,I1,q1⟩
theorem pw_or (ha:PT X a tA) (hb:PW X (.BoolOp .Or (b::rest) pos) tB'):PW X (.BoolOp .Or (a::b::rest) pos) (tOr tA tB'):=by
 intro wh pins s σ H Q I h;refine isTrue_or (thn (ha pins s σ H _ I h) λc s1 ⟨H1,I1,q1⟩=> ?_);cases c with
 | true=>exact ⟨H1,I1,q1⟩
 | false=>exact hb wh pins s1 σ H1 Q I1 q1
theorem ZNo (ha:PT X a tA):PT X (.UnaryOp .Not a pos) (tNot tA):=by intro pins s σ H Q I h;exact isTrue_not (ha pins s σ H (λc H1=>Q (!c) H1) I h)
noncomputable def ZLS (ta tb:TE):TE:=λσ H Q=>ta σ H λx H1=>∃c,x=.bl c/\if c=true then tb σ H1 Q else Q (.bl false) H1
noncomputable def tOrV (ta tb:TE):TE:=λσ H Q=>ta σ H λx H1=>∃c,x=.bl c/\if c=true then Q (.bl true) H1 else tb σ H1 Q
def ZOi (ta:TE):TE:=λσ H Q=>ta σ H λx H1=>∃c,x=.bl c/\Q (.bl (!c)) H1
theorem ZPg {op} (h:PE X a t):PE X (.BoolOp op [a] pos) t:=λpins s σ H Q I hw=>BoolOp_one (h pins s σ H Q I hw)
theorem ZJp (ha:PE X a ta) (hb:PE X (.BoolOp .And (b::rest) pos) tb):PE X (.BoolOp .And (a::b::rest) pos) (ZLS ta tb):=by
 intro pins s σ H Q I h;refine BoolOp_and (thn (ha pins s σ H _ I h) λv s1 ⟨x,H1,I1,r1,q1⟩=> ?_);obtain ⟨c,rfl,q1⟩:=q1;cases r1;refine wpAny_truthy_bool ?_;cases c with
 | true=>exact hb pins s1 σ H1 Q I1 q1
 | false=>exact ⟨.bl false,H1,I1,rfl,q1⟩
theorem ZPi (ha:PE X a ta) (hb:PE X (.BoolOp .Or (b::rest) pos) tb):PE X (.BoolOp .Or (a::b::rest) pos) (tOrV ta tb):=by
 intro pins s σ H Q I h;refine BoolOp_or (thn (ha pins s σ H _ I h) λv s1 ⟨x,H1,I1,r1,q1⟩=> ?_);obtain ⟨c,rfl,q1⟩:=q1;cases r1;refine wpAny_truthy_bool ?_;cases c with
 | false=>exact hb pins s1 σ H1 Q I1 q1
 | true=>exact ⟨.bl true,H1,I1,rfl,q1⟩
theorem ZIr (ha:PE X a ta):PE X (.UnaryOp .Not a pos) (ZOi ta):=by intro pins s σ H Q I h;refine UnaryOp_ (thn (ha pins s σ H _ I h) λv s1 ⟨x,H1,I1,r1,q1⟩=> ?_);obtain ⟨c,rfl,q1⟩:=q1;cases r1;exact not_of (wpAny_truthy_bool ⟨.bl (!c),H1,I1,rfl,q1⟩)
def tIf (t:TT) (ta tb:TE):TE:=λσ H Q=>t σ H λc H1=>if c=true then ta σ H1 Q else tb σ H1 Q
theorem ZKN (hc:PT X c tA) (ha:PE X a ta) (hb:PE X b tb):PE X (.IfExp c a b pos) (tIf tA ta tb):=by
 intro pins s σ H Q I h;refine wpAny_IfExp (thn (hc pins s σ H _ I h) λd s1 ⟨H1,I1,q1⟩=> ?_);cases d with
 | true=>exact ha pins s1 σ H1 Q I1 q1
 | false=>exact hb pins s1 σ H1 Q I1 q1
end
noncomputable def SqL (K:PySem.W.Frag) (H:Hp) (a:Addr) (xs:List V):Prop:=
 Rd H a (.lst xs)∨
  ∃(o:Obj) (its:Array Value) (n:Nat),K.lookup a=some o/\o.cls=.type "list"/\o.dict=none/\o.data=.seq its n/\its.size<=sizeLine/\Vals xs its.toList
noncomputable def SqT (K:PySem.W.Frag) (H:Hp) (a:Addr) (xs:List V):Prop:=
 Rd H a (.tup xs)∨
  ∃(o:Obj) (its:Array Value) (n:Nat),K.lookup a=some o/\o.cls=.type "tuple"/\o.data=.seq its n/\its.size<=sizeLine/\Vals xs its.toList
noncomputable def absV:Value->Option V
 | .none=>some .non
 | .bool b=>some (.bl b)
 | .int i _=>some (.int i)
 | .str x _=>some (.str x)
 | .bytes b _=>some (.byt b)
 | .float b _=>some (.flt b)
 | .ref a=>some (.ref a)
 | .type n=>some (.ty n)
 | _=>none
theorem RelV.abs {x:V} (r:RelV x u):absV u=some x:=by
 cases x with
 | non=>cases r;rfl
 | bl _=>cases r;rfl
 | int _=>obtain ⟨t,rfl⟩:=r;rfl
 | str _=>obtain ⟨t,rfl⟩:=r;rfl
 | byt _=>obtain ⟨t,rfl⟩:=r;rfl
 | flt _=>obtain ⟨t,rfl⟩:=r;rfl
 | ref _=>cases r;rfl
 | ty _=>cases r;rfl
theorem RelV.inj {x:V} (r:RelV x u) (q:RelV y u):x=y:=Option.some.inj (r.abs.symm.trans q.abs)
theorem Vals.inj:∀{xs ys:List V} {us:List Value},Vals xs us->Vals ys us->xs=ys
 | _,_,_,.nil,.nil=>rfl
 | _,_,_,.cons r t,.cons r' t'=>by rw [r.inj r',Vals.inj t t']
section
variable {X:Cx} {pins:List (Addr×Obj)} {σ:St} {H:Hp} {s:Shared} {a:Addr} {xs ys:List V}
theorem SqL.of (h:H a=some (.lst xs)):SqL K H a xs:=.inl (.inl h)
theorem SqT.of (h:H a=some (.tup xs)):SqT K H a xs:=.inl (.inl h)
theorem Inv.list (I:Inv X pins σ H s) (h:SqL X.K H a xs):∃its:List Value,Vals xs its/\PlainL s.heap a its.toArray/\xs.length<=sizeLine:=by
 rcases h with h | ⟨o,its,n,hk,hc,hd,hs,hz,r⟩
 ·obtain ⟨z,its,n,r,e⟩:=h.ok I.hok;exact ⟨its,r,⟨_,n,e,rfl,rfl,rfl⟩,z⟩
 ·refine ⟨its.toList,r,⟨o,n,I.kIn a o hk,hc,hd,by simpa using hs⟩,?_⟩;have e:=r.length;simp only [qz] at e;lia
theorem Inv.tuple (I:Inv X pins σ H s) (h:SqT X.K H a xs):∃its:List Value,Vals xs its/\IsTup s.heap a its.toArray/\xs.length<=sizeLine:=by
 rcases h with h | ⟨o,its,n,hk,hc,hs,hz,r⟩
 ·obtain ⟨z,its,r,p⟩:=h.ok I.hok;exact ⟨its,r,p,z⟩
 ·refine ⟨its.toList,r,⟨o,I.kIn a o hk,hc,n,by simpa using hs⟩,?_⟩;have e:=r.length;simp only [qz] at e;lia
theorem Inv.Z6 (I:Inv X pins σ H s) (h:SqL X.K H a xs) (h':SqL X.K H a ys):xs=ys:=by
 obtain ⟨its,r,⟨o,n,e,_,_,d⟩,_⟩:=I.list h;obtain ⟨its',r',⟨o',n',e',_,_,d'⟩,_⟩:=I.list h';rw [e] at e';cases e';rw [d] at d';injection d' with d1 _
 have:its=its':=by simpa using congrArg Array.toList d1
 subst this;exact r.inj r'
theorem Inv.ZAl (I:Inv X pins σ H s) (h:SqT X.K H a xs) (h':SqT X.K H a ys):xs=ys:=by
 obtain ⟨its,r,⟨o,e,_,n,d⟩,_⟩:=I.tuple h;obtain ⟨its',r',⟨o',e',_,n',d'⟩,_⟩:=I.tuple h';rw [e] at e';cases e';rw [d] at d';injection d' with d1 _
 have:its=its':=by simpa using congrArg Array.toList d1
 subst this;exact r.inj r'
end
abbrev Cx.wish (X:Cx) (E:Value->Shared->Prop):Cx:={X with xe:=E}
abbrev Cx.nox (X:Cx):Cx:=X.wish λ_ _=>False
theorem Cx.Ok.wish (ok:X.Ok) (E:Value->Shared->Prop):(X.wish E).Ok:=
 ⟨ok.mod,ok.kind,ok.glob,ok.blt,ok.above,ok.inj,ok.has,ok.cab,ok.hd,ok.frames,ok.stk,ok.exf,ok.bs,ok.bsz,ok.noex,ok.exfs,ok.funs,ok.frf⟩
theorem Cx.Ok.unwish (ok:(X.wish E).Ok):X.Ok:=
 ⟨ok.mod,ok.kind,ok.glob,ok.blt,ok.above,ok.inj,ok.has,ok.cab,ok.hd,ok.frames,ok.stk,ok.exf,ok.bs,ok.bsz,ok.noex,ok.exfs,ok.funs,ok.frf⟩
section
variable {X:Cx} {pins:List (Addr×Obj)} {σ:St} {H:Hp} {s:Shared} {E:Value->Shared->Prop}
theorem Inv.wish (I:Inv X pins σ H s) (E:Value->Shared->Prop):Inv (X.wish E) pins σ H s:=⟨I.ok.wish E,I.os,I.bare,I.base,I.loc,I.cell,I.free,I.Jl,I.pin,I.hok,I.len⟩
theorem Inv.unwish (I:Inv (X.wish E) pins σ H s):Inv X pins σ H s:=⟨I.ok.unwish,I.os,I.bare,I.base,I.loc,I.cell,I.free,I.Jl,I.pin,I.hok,I.len⟩
theorem SP.unwish {D:Ends} {f:Flow} {s':Shared} (h:SP (X.wish E) pins D f s'):SP X pins D f s':=by
 cases f with
 | next=>obtain ⟨σ',H',I,q⟩:=h;exact ⟨σ',H',I.unwish,q⟩
 | brk=>obtain ⟨σ',H',I,q⟩:=h;exact ⟨σ',H',I.unwish,q⟩
 | cont=>obtain ⟨σ',H',I,q⟩:=h;exact ⟨σ',H',I.unwish,q⟩
 | ret u=>obtain ⟨v,σ',H',I,r,q⟩:=h;exact ⟨v,σ',H',I.unwish,r,q⟩
theorem PSs.nox {st:List Stmt} {t:TS} (h:PSs X.nox st t):PSs X st t:=λpins s σ H D I hw=>
 wpAny_mono (h pins s σ H D (I.wish _) hw) (λ_ _ q=>q.unwish) λ_ _ z=>False.elim z
end
section
variable {X:Cx} {st:Stmt} {rest:List Stmt} {t u:TS} {e:Expr} {te:TE} {pos:Pos}
def ZIq:TS:=λD σ H=>D.nx σ H
def tSeq (t u:TS):TS:=λD σ H=>t {D with nx:=u D} σ H
theorem ZJU:PSs X [] ZIq:=λ_ _ σ H _ I h=>wpAny_execs_nil ⟨σ,H,I,h⟩
theorem ZMd (h1:PS X st t) (h2:PSs X rest u):PSs X (st::rest) (tSeq t u):=by
 intro pins s σ H D I h;refine wpAny_execs_cons (thn (h1 pins s σ H {D with nx:=u D} I h) λf s1 q=> ?_);cases f with
 | next=>
  obtain ⟨σ',H',I',q⟩:=q;exact h2 pins s1 σ' H' D I' q
 | ret v=>exact q
 | brk=>exact q
 | cont=>exact q
theorem ZKU (h1:PS X st t):PSs X [st] t:=by
 intro pins s σ H D I h;refine wpAny_execs_cons (thn (h1 pins s σ H D I h) λf s1 q=> ?_);cases f with
 | next=>exact wpAny_execs_nil q
 | ret v=>exact q
 | brk=>exact q
 | cont=>exact q
theorem Inv.quiet (I:Inv X pins σ H s):interactive X.env=false:=by simp [interactive,I.ok.kind]
def ZMQ (te:TE):TS:=λD σ H=>te σ H λ_ H1=>D.nx σ H1
theorem ZIs (he:PE X e te) (hs:swapsWith e none pos.line X.env=pure false:=by rfl):PS X (.Expr e pos) (ZMQ te):=by intro pins s σ H D I h;exact wpAny_Expr_any (thn (he pins s σ H _ I h) λv s1 ⟨x,H1,I1,r1,q1⟩=>⟨σ,H1,I1,q1⟩) I.quiet hs
def tRet (te:TE):TS:=λD σ H=>te σ H D.rt
theorem ZNT (he:PE X e te):PS X (.Return (some e) pos) (tRet te):=by intro pins s σ H D I h;exact wpAny_Return_some (thn (he pins s σ H _ I h) λv s1 ⟨x,H1,I1,r1,q1⟩=>⟨x,σ,H1,I1,r1,q1⟩)
def tIfS (c:TT) (t u:TS):TS:=λD σ H=>c σ H λb H1=>if b=true then t D σ H1 else u D σ H1
theorem ZP9 {a b:List Stmt} {tc:TT} (hc:PT X c tc) (ha:PSs X a t) (hb:PSs X b u):PS X (.If c a b pos) (tIfS tc t u):=by
 intro pins s σ H D I h;refine wpAny_If (thn (hc pins s σ H _ I h) λd s1 ⟨H1,I1,q1⟩=> ?_);cases d with
 | true=>exact ha pins s1 σ H1 D I1 q1
 | false=>exact hb pins s1 σ H1 D I1 q1
end
abbrev TG:=V->St->Hp->(St->Hp->Prop)->Prop
abbrev TGs:=List V->St->Hp->(St->Hp->Prop)->Prop
noncomputable def PG (X:Cx) (target:Expr) (t:TG):Prop:=
 ∀(pins:List (Addr×Obj)) (s:Shared) (σ:St) (H:Hp) (v:V) (u:Value) (Q:St->Hp->Prop),Inv X pins σ H s->RelV v u->t v σ H Q->
  wpAny (model X.prog X.w) X.A (assign target X.env u) (λ_ s'=>∃σ' H',Inv X pins σ' H' s'/\Q σ' H') X.xe s
noncomputable def PGs (X:Cx) (ts:List Expr) (t:TGs):Prop:=
 ∀(pins:List (Addr×Obj)) (s:Shared) (σ:St) (H:Hp) (vs:List V) (us:List Value) (Q:St->Hp->Prop),Inv X pins σ H s->Vals vs us->t vs σ H Q->
  wpAny (model X.prog X.w) X.A (assignInOrder ((assignEach ts X.env).map (·.2)) us) (λ_ s'=>∃σ' H',Inv X pins σ' H' s'/\Q σ' H') X.xe s
abbrev TSet:=V->V->V->Hp->(Hp->Prop)->Prop
noncomputable def PSet (X:Cx) (t:TSet):Prop:=
 ∀(pins:List (Addr×Obj)) (s:Shared) (σ:St) (H:Hp) (o i v:V) (ov iv u:Value) (Q:Hp->Prop),Inv X pins σ H s->RelV o ov->RelV i iv->RelV v u->t o i v H Q->
  wpAny (model X.prog X.w) X.A (setItem ov iv u) (λ_ s'=>∃H',Inv X pins σ H' s'/\Q H') X.xe s
abbrev TIp:=V->V->Hp->VK->Prop
noncomputable def PIp (X:Cx) (op:Operator) (t:TIp):Prop:=
 ∀(pins:List (Addr×Obj)) (s:Shared) (σ:St) (H:Hp) (x y:V) (v u:Value) (Q:VK),Inv X pins σ H s->RelV x v->RelV y u->t x y H Q->
  wpAny (model X.prog X.w) X.A (inplaceOp op v u) (EP X pins σ Q) X.xe s
section
variable {X:Cx} {pos:Pos}
def ZGd (i:Nat):TG:=λv σ H Q=>Q (σ.set i (some v)) H
theorem ZJr (hN:X.N.Nodup) (hi:X.N[i]? =some x) (hx:Loc X.env.scope x) (hf:X.fn x=true∨X.env.scope.names.lookup x=some .local:=by first | exact .inl rfl | exact .inr rfl | assumption):PG X (.Name x pos) (ZGd i):=by intro pins s σ H v u Q I r h;exact wpAny_assign_Name (ZBo I hN hi hx r (λs' I'=>⟨_,H,I',h⟩) hf)
def gNil:TGs:=λvs σ H Q=>vs= []/\Q σ H
def ZNa (t:TG) (u:TGs):TGs:=λvs σ H Q=>∃v r,vs=v::r/\t v σ H λσ' H'=>u r σ' H' Q
theorem ZJa:PGs X [] gNil:=by intro pins s σ H vs us Q I r h;obtain ⟨e,h⟩:=h;subst e;cases r;exact assignInOrder_nil ⟨σ,H,I,h⟩
theorem ZJG {es:List Expr} {t:TG} {u:TGs} (h1:PG X e t) (h2:PGs X es u)
  (hs:(assignEach (e::es) X.env).map (·.2)=assign e X.env::(assignEach es X.env).map (·.2):=by rfl):PGs X (e::es) (ZNa t u):=by
 intro pins s σ H vs us Q I r h;obtain ⟨v,vr,e1,h⟩:=h;subst e1;cases r with
 | cons r rr=>
  rw [hs];refine assignInOrder_cons (thn (h1 pins s σ H _ _ _ I r h) λ_ s1 ⟨σ1,H1,I1,q1⟩=> ?_);exact h2 pins s1 σ1 H1 _ _ Q I1 rr q1
noncomputable def gTup (K:PySem.W.Frag) (n:Nat) (t:TGs):TG:=λv σ H Q=>∃a xs,v=.ref a/\SqT K H a xs/\xs.length=n/\t xs σ H Q
theorem ZKO {es:List Expr} {k:Nat} {t:TGs} {n:Nat} (hc:X.calm=true) (h:PGs X es t)
  (hn:(assignEach es X.env).length=n:=by rfl) (hst:(assignEach es X.env).findIdx? (·.1)=none:=by rfl):PG X (.Tuple es k pos) (gTup X.K n t):=by
 intro pins s σ H v u Q I r hw;obtain ⟨a,xs,e1,hq,hl,hw⟩:=hw;subst e1;cases r;obtain ⟨its,rv,ht,hz⟩:=I.tuple hq;refine assign_Tuple_tuple (I.ok.hd hc) ht (by simp [hn,<-hl,rv.length]) hst λh' hx=> ?_
 have I1:Inv X pins σ H {s with heap:=h'}:=I.kept (t':=s.toks) λb o e=>hx b o (zB (zw e)) e
 exact h pins _ σ H xs _ Q I1 (by simpa using rv) hw
def gSub (to ti:TE) (t:TSet):TG:=λv σ H Q=>to σ H λo H1=>ti σ H1 λi H2=>t o i v H2 λH3=>Q σ H3
theorem ZPv {o i:Expr} {to ti:TE} {t:TSet} (ho:PE X o to) (hi:PE X i ti) (hs:PSet X t)
  (ha:∀v,assign (.Subscript o i pos) X.env v=(do
   let ov<-holding [v] (eval o X.env);let iv<-holding [v,ov] (eval i X.env)
   standAt pos
   holding [v,ov,iv] (setItem ov iv v)
   release [v,ov,iv] []):=by intro _;rfl):PG X (.Subscript o i pos) (gSub to ti t):=by
 intro pins s σ H v u Q I r h;rw [ha];refine wpAny_bind (wpAny_holding (thn (ho pins s σ H _ I h) λov s1 ⟨x,H1,I1,r1,q1⟩=> ?_));refine wpAny_bind (wpAny_holding (thn (hi pins s1 σ H1 _ I1 q1) λiv s2 ⟨y,H2,I2,r2,q2⟩=> ?_));refine wpAny_bind (wpAny_standAt (wpAny_bind (wpAny_holding (thn (hs pins s2 σ H2 x y v ov iv u _ I2 r1 r2 r q2) λ_ s3 ⟨H3,I3,q3⟩=> ?_))));exact wpAny_release ⟨σ,H3,I3,q3⟩
def ZBI (te:TE) (g:TG):TS:=λD σ H=>te σ H λx H1=>g x σ H1 D.nx
theorem ZJ9 {g:TG} (he:PE X e te) (hg:PG X tg g) (hs:swapsWithSole [tg] e pos.line X.env=pure false:=by rfl) (hw:swappedStores [tg] e X.env=pure none:=by rfl)
  (h1:(assignEach [tg] X.env).map (·.2)= [assign tg X.env]:=by rfl):PS X (.Assign [tg] e pos) (ZBI te g):=by
 intro pins s σ H D I h;refine wpAny_Assign_stores (thn (he pins s σ H _ I h) λv s1 ⟨x,H1,I1,r1,q1⟩=> ?_) hs hw;rw [h1];exact thn (hg pins s1 σ H1 x v _ I1 r1 q1) λ_ s2 q=>q
theorem ZOQ {pos':Pos} (hN:X.N.Nodup) (hi:X.N[i]? =some x) (hx:Loc X.env.scope x) (he:PE X e te) (hs:swapsWith e (some (.Name x pos')) pos.line X.env=pure false:=by rfl) (hf:X.fn x=true∨X.env.scope.names.lookup x=some .local:=by first | exact .inl rfl | exact .inr rfl | assumption):
  PS X (.Assign [.Name x pos'] e pos) (ZBI te (ZGd i)):=by
 intro pins s σ H D I h;refine wpAny_Assign_Name (thn (he pins s σ H _ I h) λv s1 ⟨y,H1,I1,r1,q1⟩=> ?_) hs;exact ZBo I1 hN hi hx r1 (λs2 I2=>⟨_,H1,I2,q1⟩) hf
noncomputable def tAug (i:Nat) (te:TE) (ti:TIp):TS:=λD σ H=>∃x,σ[i]? =some (some x)/\te σ H λy H1=>ti x y H1 λz H2=>D.nx (σ.set i (some z)) H2
theorem ZKM {op:Operator} {ti:TIp} {pos':Pos} (hN:X.N.Nodup) (hi:X.N[i]? =some x) (hx:Loc X.env.scope x) (he:PE X e te) (ho:PIp X op ti) (hf:X.fn x=true∨X.env.scope.names.lookup x=some .local:=by first | exact .inl rfl | exact .inr rfl | assumption):
  PS X (.AugAssign (.Name x pos') op e pos) (tAug i te ti):=by
 intro pins s σ H D I h;obtain ⟨v,e1,h⟩:=h;obtain ⟨m,hn,hl⟩:=I.loc;have vis:Vis X.env.scope x:=by rcases hx with k | k;exact .inl k;exact .inr (.inl k)
 obtain ⟨u,r,l⟩:=hl i x v hi e1 vis;refine wpAny_AugAssign_Name ?_
 have go:wpAny (model X.prog X.w) X.A (eval e X.env) (λw s₂=>wpAny (model X.prog X.w) X.A (inplaceOp op u w) (λr s₃=>wpAny (model X.prog X.w) X.A (storeName X.env x r) (λ_=>SP X pins D .next) X.xe s₃) X.xe s₂) X.xe s:=by
  refine thn (he pins s σ H _ I h) λw s1 ⟨y,H1,I1,r1,q1⟩=> ?_
  refine thn (ho pins s1 σ H1 v y u w _ I1 r r1 q1) λz s2 ⟨zv,H2,I2,r2,q2⟩=> ?_
  exact ZBo I2 hN hi hx r2 (λs3 I3=>⟨_,H2,I3,q2⟩) hf
 rcases l with ⟨hk,hm⟩ | ⟨hk,c,hc,hcell⟩
 ·exact wpAny_loadName_local I.ok.kind hk hn hm go
 ·rcases hk with hk | hk
  ·exact wpAny_loadName_cell I.ok.kind hk hc hcell go
  ·rcases hx with k | k
   ·have:X.env.scope.names.lookup x=some .free:=hk;rw [k] at this;cases this
   ·have:X.env.scope.names.lookup x=some .free:=hk;rw [k] at this;cases this
def ipI (f:Int->Int->Int):TIp:=λx y H Q=>∃i j,x=.int i/\y=.int j/\Q (.int (f i j)) H
theorem ZJl:PIp X .Add (ipI λi j=>i + j):=by intro pins s σ H x y v u Q I r1 r2 h;obtain ⟨i,j,e1,e2,q⟩:=h;subst e1;subst e2;obtain ⟨t,rfl⟩:=r1;obtain ⟨t',rfl⟩:=r2;exact iadd_int ⟨.int _,H,I.tok _,⟨_,rfl⟩,q⟩
theorem ZLF:PIp X .Sub (ipI λi j=>i - j):=by intro pins s σ H x y v u Q I r1 r2 h;obtain ⟨i,j,e1,e2,q⟩:=h;subst e1;subst e2;obtain ⟨t,rfl⟩:=r1;obtain ⟨t',rfl⟩:=r2;exact isub_int ⟨.int _,H,I.tok _,⟨_,rfl⟩,q⟩
end
section
variable {X:Cx} {pos:Pos}
noncomputable def ZPs (c:TT) (tb:TS):TS:=λD σ H=>∃W:Nat->St->Hp->Prop,(∃m,W m σ H)/\∀m σ H,W m σ H->
 c σ H λb H1=>if b=true then∃N:St->Hp->Prop,(∀σ' H',N σ' H'->∃m',m' < m/\W m' σ' H')/\tb {D with nx:=N,ct:=N,bk:=D.nx} σ H1 else D.nx σ H1
theorem ZOx {tc:TT} {tb:TS} (hp:PassesOwn (model X.prog X.w) X.A X.env X.xe) (hc:PT X c tc) (hb:PSs X body tb):PS X (.While c body [] pos) (ZPs tc tb):=by
 intro pins s σ H D I h;obtain ⟨W,⟨m0,w0⟩,turn⟩:=h;refine wpAny_While (codeAny_whileLoop (λn s'=>∃σ' H',Inv X pins σ' H' s'/\W n σ' H') ?_ m0 ⟨σ,H,I,w0⟩);rintro n s1 ⟨σ1,H1,I1,w1⟩;refine wpAny_passesOwn hp (thn (hc pins s1 σ1 H1 _ I1 (turn n σ1 H1 w1)) λb s2 ⟨H2,I2,q2⟩=> ?_);cases b with
 | true=>
  obtain ⟨N,hN,q2⟩:=q2;rw [if_pos rfl];refine wpAny_passesOwn hp (thn (hb pins s2 σ1 H2 _ I2 q2) λf s3 q3=> ?_);cases f with
  | next=>
   obtain ⟨σ3,H3,I3,n3⟩:=q3;obtain ⟨m',hm,w3⟩:=hN σ3 H3 n3;exact ⟨m',hm,σ3,H3,I3,w3⟩
  | cont=>
   obtain ⟨σ3,H3,I3,n3⟩:=q3;obtain ⟨m',hm,w3⟩:=hN σ3 H3 n3;exact ⟨m',hm,σ3,H3,I3,w3⟩
  | brk=>exact q3
  | ret v=>exact q3
 | false=>
  rw [if_neg z0];exact wpAny_execs_nil ⟨σ1,H2,I2,q2⟩
end
structure It where
 go:Nat->Hp->Prop
 yld:Nat->Hp->V->Hp->Prop
 stop:Nat->Hp->Prop
noncomputable def FpOk (X:Cx) (pins:List (Addr×Obj)) (H:Hp) (b:Addr):Prop:=
 H b=none/\b≠X.env.locals/\b ∉ X.fs/\(b∈X.ex∨X.s₀.heap.objs.size<=b)/\(∀x c,X.env.cells.lookup x=some c->c≠b)/\∀p∈X.pn++pins,p.1≠b
theorem Inv.K3 {H':Hp} (I:Inv X pins σ H s) (hb:s.heap.objs.size<=b) (hn:H' b=none):FpOk X pins H' b:=by
 refine ⟨hn,qN (zq I.lt hb),I.nofs hb,.inr (z5 I.sz hb),λx c e z=> ?_,λp hp z=> ?_⟩
 ·obtain ⟨v,q⟩:=I.cell x c e;exact absurd (zq q.lt (by rw [z];exact hb)) (zS _)
 ·exact absurd (zq (zw (I.pin p hp).1) (by rw [z];exact hb)) (zS _)
structure Turn (P:Program) (w:World) (K:PySem.W.Frag) (tg:Expr) (J:It) (fp:List Addr) (it:Addr) (tn:Nat->Heap->Prop):Prop where
 mem:it∈fp
 obj:∀i h,tn i h->∀b∈fp,∃o,h.get? b=some o/\∀v,o.data≠ .cell v
 keep:∀i h h',tn i h->(∀b∈fp,∀o,h.get? b=some o->h'.get? b=some o)->tn i h'
 item:∀(X:Cx),X.prog=P->X.w=w->X.K=K->X.calm=true->∀(i:Nat) (pins:List (Addr×Obj)) (s:Shared) (σ:St) (H:Hp) (E:Value->Shared->Prop),Inv X pins σ H s->(∀b∈fp,FpOk X pins H b)->tn i s.heap->J.go i H->
  wpAny (model P w) X.A (pyNext (.ref it)) (λr s1=>∃u,r=some u/\
   wpAny (model P w) X.A (letOwnedTupleGo tg (.ref it) u) (λ_ s2=>∃x H',Inv X pins σ H' s2/\RelV x u/\J.yld i H x H'/\tn (i + 1) s2.heap/\∀b∈fp,H' b=none) E s1) E s
 done:∀(X:Cx),X.prog=P->X.w=w->X.K=K->X.calm=true->∀(i:Nat) (pins:List (Addr×Obj)) (s:Shared) (σ:St) (H:Hp) (E:Value->Shared->Prop),Inv X pins σ H s->(∀b∈fp,FpOk X pins H b)->tn i s.heap->J.stop i H->
  wpAny (model P w) X.A (pyNext (.ref it)) (λr s1=>r=none/\Inv X pins σ H s1) E s
 self:∀(A:Around) (i:Nat) (s:Shared) (Q:Value->Shared->Prop) (E:Value->Shared->Prop),tn i s.heap->Q (.ref it) s->wpAny (model P w) A (pyIter (.ref it)) Q E s
abbrev TI:=St->Hp->(It->Hp->Prop)->Prop
noncomputable def PIE (X:Cx) (pins:List (Addr×Obj)) (σ:St) (tg:Expr) (R:It->Hp->Prop) (itv:Value) (s2:Shared):Prop:=
 ∃(it:Addr) (fp:List Addr) (tn:Nat->Heap->Prop) (J:It) (H':Hp),itv=.ref it/\Inv X pins σ H' s2/\Turn X.prog X.w X.K tg J fp it tn/\tn 0 s2.heap/\(∀b∈fp,FpOk X pins H' b)/\R J H'
noncomputable def PI (X:Cx) (tg iter:Expr) (wi:TI):Prop:=
 ∀(pins:List (Addr×Obj)) (s:Shared) (σ:St) (H:Hp) (R:It->Hp->Prop),Inv X pins σ H s->wi σ H R->
  wpAny (model X.prog X.w) X.A (eval iter X.env) (λv s1=>wpAny (model X.prog X.w) X.A (pyIter v) (PIE X pins σ tg R) X.xe s1) X.xe s
theorem Ol {M:Model} {it:Addr} {o:Obj} {n:String} {vs:Array Value} {Q:Unit->Shared->Prop} (ho:s.heap.get? it=some o) (hc:o.cls=.type n) (hd:o.data=.fields vs)
  (hn: ["enumerate","zip","dict_itemiterator","dict_reverseitemiterator","odict_iterator","itertools.zip_longest","itertools.pairwise"].contains n=false) (hQ:Q () s):wpAny M A (letOwnedTupleGo tg (.ref it) u) Q E s:=by
 unfold letOwnedTupleGo
 cases tg <;> first
  | exact wpAny_pure hQ
  | (cases u <;> first
    | exact wpAny_pure hQ
    | (
      refine wpAny_bind (wpAny_load ho ?_);rw [hc,hd];show wpAny M A (if (["enumerate","zip","dict_itemiterator","dict_reverseitemiterator","odict_iterator","itertools.zip_longest","itertools.pairwise"].contains n && vs[0]? == some (rawInt _))=true then _ else _) Q E s;rw [if_neg (by intro h;rw [hn,Bool.false_and] at h;cases h)];exact wpAny_pure hQ))
noncomputable def Itl (K:PySem.W.Frag) (a:Addr):It:=
 ⟨λi H=>∃xs x,SqL K H a xs/\xs[i]? =some x,λi H x H'=>H'=H/\∀xs,SqL K H a xs->xs[i]? =some x,λi H=>∃xs,SqL K H a xs/\xs.length<=i⟩
noncomputable def Itt (K:PySem.W.Frag) (a:Addr):It:=
 ⟨λi H=>∃xs x,SqT K H a xs/\xs[i]? =some x,λi H x H'=>H'=H/\∀xs,SqT K H a xs->xs[i]? =some x,λi H=>∃xs,SqT K H a xs/\xs.length<=i⟩
def Itr (lo:Int) (n:Nat):It:=⟨λi _=>i < n,λi H x H'=>H'=H/\x=.int (lo + i),λi _=>n<=i⟩
theorem ZP5 (a it:Addr):Turn P w K tg (Itl K a) [it] it (λi h=>h.IsListIter it a i) where
 mem:=by simp
 obj:=λi h st b hb=>by
  have e:b=it:=by simpa using hb
  subst e;obtain ⟨o,e,c,d⟩:=st;exact ⟨o,e,λv z=>by rw [d] at z;cases z⟩
 keep:=λi h h' st k=>st.at λo e=>k it (by simp) o e
 item:=by
  intro X hP hw hK hc i pins s σ H E I hf st hg;subst hP hw hK;obtain ⟨xs,x,hq,hx⟩:=hg;obtain ⟨its,rv,p,hz⟩:=I.list hq;obtain ⟨u,hu,ru⟩:=rv.get hx;obtain ⟨f0,f1,f2,f3,f4,f5⟩:=hf it (by simp);refine wpAny_pyNext_list_item st p.isList (x:=u) (by simpa using hu) λh' st' sb=> ?_
  have I1:Inv X pins σ H {s with heap:=h'}:=I.turned (t':=s.toks) (λb o hb e=>(sb.2 b hb).trans e) f0 f1 f3 f4 f5;obtain ⟨o,e,c,d⟩:=id st';exact ⟨u,rfl,Ol (s:={s with heap:=h'}) e c d (by decide) ⟨x,H,I1,ru,⟨rfl,λys hy=>by rw [I.Z6 hy hq];exact hx⟩,st',λb hb=>(hf b hb).1⟩⟩
 done:=by intro X hP hw hK hc i pins s σ H E I hf st hg;subst hP hw hK;obtain ⟨xs,hq,hx⟩:=hg;obtain ⟨its,rv,p,hz⟩:=I.list hq;obtain ⟨f0,f1,f2,f3,f4,f5⟩:=hf it (by simp);have hl:=rv.length;exact wpAny_pyNext_list_end (I.ok.hd hc) st p.isList (by simp;lia) λh' eb=>⟨rfl,I.turned (t':=s.toks) (λb o hb e=>eb b o hb e) f0 f1 f3 f4 f5⟩
 self:=λ_ _ _ _ _ st h=>wpAny_pyIter_listiter st h
theorem ZLZ (a it:Addr):Turn P w K tg (Itt K a) [it] it (λi h=>h.IsTupleIter it a i) where
 mem:=by simp
 obj:=λi h st b hb=>by
  have e:b=it:=by simpa using hb
  subst e;obtain ⟨o,e,c,d⟩:=st;exact ⟨o,e,λv z=>by rw [d] at z;cases z⟩
 keep:=λi h h' st k=>st.at λo e=>k it (by simp) o e
 item:=by
  intro X hP hw hK hc i pins s σ H E I hf st hg;subst hP hw hK;obtain ⟨xs,x,hq,hx⟩:=hg;obtain ⟨its,rv,p,hz⟩:=I.tuple hq;obtain ⟨u,hu,ru⟩:=rv.get hx;obtain ⟨f0,f1,f2,f3,f4,f5⟩:=hf it (by simp)
  refine wpAny_pyNext_tuple_item st (show s.heap.IsTuple a its.toArray from p) (x:=u) (by simpa using hu) λh' st' sb=> ?_
  have I1:Inv X pins σ H {s with heap:=h'}:=I.turned (t':=s.toks) (λb o hb e=>(sb.2 b hb).trans e) f0 f1 f3 f4 f5;obtain ⟨o,e,c,d⟩:=id st';exact ⟨u,rfl,Ol (s:={s with heap:=h'}) e c d (by decide) ⟨x,H,I1,ru,⟨rfl,λys hy=>by rw [I.ZAl hy hq];exact hx⟩,st',λb hb=>(hf b hb).1⟩⟩
 done:=by
  intro X hP hw hK hc i pins s σ H E I hf st hg;subst hP hw hK;obtain ⟨xs,hq,hx⟩:=hg;obtain ⟨its,rv,p,hz⟩:=I.tuple hq;obtain ⟨f0,f1,f2,f3,f4,f5⟩:=hf it (by simp);have hl:=rv.length
  exact wpAny_pyNext_tuple_end (I.ok.hd hc) st (show s.heap.IsTuple a its.toArray from p) (by simp;lia) λh' eb=>⟨rfl,I.turned (t':=s.toks) (λb o hb e=>eb b o hb e) f0 f1 f3 f4 f5⟩
 self:=λ_ _ _ _ _ st h=>wpAny_pyIter_tupleiter st h
theorem ZOS (it:Addr) (lo:Int) (n:Nat):Turn P w K tg (Itr lo n) [it] it (λi h=>IsRangeIter h it (lo + (i:Nat) * 1) ((n:Int) - (i:Nat)) 1) where
 mem:=by simp
 obj:=λi h st b hb=>by
  have e:b=it:=by simpa using hb
  subst e;exact ⟨_,st,λv z=>by have z':Data.fields _=Data.cell v:=z;cases z'⟩
 keep:=λi h h' st k=>k it (by simp) _ st
 item:=by
  intro X hP hw hK hc i pins s σ H E I hf st hg;subst hP hw hK;obtain ⟨f0,f1,f2,f3,f4,f5⟩:=hf it (by simp);have W:=Walks.range (prog:=X.prog) (w:=X.w) (I.ok.hd hc) it lo 1 n;refine W.item i s _ _ hg st λv h' tk hv st' kk=> ?_
  obtain ⟨t,rfl⟩:=hv;have I1:Inv X pins σ H {s with heap:=h',toks:=tk}:=I.turned (λb o hb e=>kk b o (by simpa using hb) e) f0 f1 f3 f4 f5;refine ⟨_,rfl,Ol (s:={s with heap:=h',toks:=tk}) (n:="range_iterator") st' rfl rfl (by decide) ⟨.int (lo + i),H,I1,⟨t,?_⟩,⟨rfl,rfl⟩,st',λb hb=>(hf b hb).1⟩⟩;rw [Int.mul_one]
 done:=by intro X hP hw hK hc i pins s σ H E I hf st hg;subst hP hw hK;obtain ⟨f0,f1,f2,f3,f4,f5⟩:=hf it (by simp);exact wpAny_pyNext_range_end (I.ok.hd hc) st (by have:n<=i:=hg;lia) λh' eb=>⟨rfl,I.turned (t':=s.toks) (λb o hb e=>eb b o hb e) f0 f1 f3 f4 f5⟩
 self:=λ_ _ _ _ _ st h=>wpAny_pyIter_rangeiter st h
section
variable {X:Cx} {tg:Expr}
noncomputable def ZMT (K:PySem.W.Frag) (tl:TE):TI:=λσ H R=>tl σ H λx H1=>∃a,x=.ref a/\(∃xs,SqL K H1 a xs)/\R (Itl K a) H1
noncomputable def iTup (K:PySem.W.Frag) (tl:TE):TI:=λσ H R=>tl σ H λx H1=>∃a,x=.ref a/\(∃xs,SqT K H1 a xs)/\R (Itt K a) H1
theorem ZCq {l:Expr} {tl:TE} (hl:PE X l tl):PI X tg l (ZMT X.K tl):=by
 intro pins s σ H R I h;refine thn (hl pins s σ H _ I h) λv s1 ⟨x,H1,I1,r1,q1⟩=> ?_
 obtain ⟨a,e,⟨xs,hq⟩,q⟩:=q1;subst e;cases r1;obtain ⟨its,rv,p,hz⟩:=I1.list hq;refine wpAny_pyIter_list p.isList ?_;refine ⟨s1.heap.objs.size,[s1.heap.objs.size],_,_,H1,rfl,I1.kept (t':=s1.toks) λb o e=>zQ _ e,ZP5 a _,⟨_,zy _ rfl,rfl,rfl⟩,λb hb=> ?_,q⟩;have e:b=s1.heap.objs.size:=by simpa using hb
 subst e;exact I1.K3 (zK _) (I1.hok.fresh (zK _))
theorem ZMa {l:Expr} {tl:TE} (hl:PE X l tl):PI X tg l (iTup X.K tl):=by
 intro pins s σ H R I h;refine thn (hl pins s σ H _ I h) λv s1 ⟨x,H1,I1,r1,q1⟩=> ?_
 obtain ⟨a,e,⟨xs,hq⟩,q⟩:=q1;subst e;cases r1;obtain ⟨its,rv,p,hz⟩:=I1.tuple hq
 refine wpAny_pyIter_tuple (show s1.heap.IsTuple a its.toArray from p) ?_
 refine ⟨s1.heap.objs.size,[s1.heap.objs.size],_,_,H1,rfl,I1.kept (t':=s1.toks) λb o e=>zQ _ e,ZLZ a _,⟨_,zy _ rfl,rfl,rfl⟩,λb hb=> ?_,q⟩;have e:b=s1.heap.objs.size:=by simpa using hb
 subst e;exact I1.K3 (zK _) (I1.hok.fresh (zK _))
theorem ZKX {R:It->Hp->Prop} {lo hi:Int} {t u v:Tok} {tk:Nat} (I:Inv X pins σ H s) (h1: -(2 ^ 62)<=lo) (h2:lo < 2 ^ 62) (h3: -(2 ^ 62)<=hi) (h4:hi < 2 ^ 62)
  (q:R (Itr lo (hi - lo).toNat) H):wpAny (model X.prog X.w) X.A (pyIter (.ref s.heap.objs.size)) (PIE X pins σ tg R) E {s with heap:=s.heap.push {cls:=.type "range",data:=.fields #[.int lo t,.int hi u,.int 1 v]},toks:=tk}:=by
 refine wpAny_pyIter_range (IsRange.new ..) (small_one h1 h2 h3 h4) ?_;have I1:Inv X pins σ H {s with heap:=s.heap.push {cls:=.type "range",data:=.fields #[.int lo t,.int hi u,.int 1 v]},toks:=tk}:=I.kept λb o e=>zQ _ e
 refine ⟨(s.heap.push {cls:=.type "range",data:=.fields #[.int lo t,.int hi u,.int 1 v]}).objs.size,[(s.heap.push {cls:=.type "range",data:=.fields #[.int lo t,.int hi u,.int 1 v]}).objs.size],_,_,H,rfl,
  I1.kept (t':=tk) λb o e=>zQ _ e,ZOS _ lo (hi - lo).toNat,?_,λb hb=> ?_,q⟩
 ·have e1:lo + ((0:Nat):Int) * 1=lo:=by simp
  have e2:(((hi - lo).toNat:Nat):Int) - ((0:Nat):Int)=Builtin.Range.rangeSize lo hi 1:=by rw [rangeSize_one];split <;> lia
  show IsRangeIter _ _ (lo + ((0:Nat):Int) * 1) ((((hi - lo).toNat:Nat):Int) - ((0:Nat):Int)) 1;rw [e1,e2];exact zy _ rfl
 ·have e:b=(s.heap.push {cls:=.type "range",data:=.fields #[.int lo t,.int hi u,.int 1 v]}).objs.size:=by simpa using hb
  subst e;exact I1.K3 (zK _) (I1.hok.fresh (zK _))
noncomputable def ZIo (ta:TA):TI:=λσ H R=>ta σ H λvs H1=>∃j:Int,vs= [.int j]/\ -(2 ^ 62)<=j/\j < 2 ^ 62/\R (Itr 0 j.toNat) H1
theorem ZLh {a:Expr} {ta:TA} {p pos:Pos} (hg:Gl X "range") (hm:X.mg "range"=none) (ha:PA X [a] ta) (hs:starEach [a] X.env= [(false,eval a X.env)]:=by rfl):PI X tg (.Call (.Name "range" p) [a] [] pos) (ZIo ta):=by
 intro pins s σ H R I h;refine Call_ (Jb I hg hm boot_range (PyProof.Rows.callWith_type1 (thn (ha pos pins s σ H _ I h) λus s1 ⟨vs,H1,I1,r1,q1⟩=> ?_) hs rfl));obtain ⟨j,e,q1,q2,q⟩:=q1;subst e;cases r1 with
 | cons r rr=>
  cases rr;obtain ⟨t,rfl⟩:=r;exact call_range_1 (ZKX I1 (by lia) (by lia) q1 q2 (by simpa using q))
noncomputable def tFor (wi:TI) (g:TG) (tb:TS):TS:=λD σ H=>wi σ H λJ H1=>∃W:Nat->Nat->St->Hp->Prop,(∃m,W 0 m σ H1)/\∀i m σ H,W i m σ H->
 (J.stop i H/\D.nx σ H)∨(J.go i H/\∃N:St->Hp->Prop,(∀σ' H',N σ' H'->∃m',m' < m/\W (i + 1) m' σ' H')/\∀x H',J.yld i H x H'->g x σ H' λσ2 H2=>tb {D with nx:=N,ct:=N,bk:=D.nx} σ2 H2)
def Q7 (fp:List Addr) (h:Heap):List (Addr×Obj):=fp.filterMap λb=>(h.get? b).map λo=>(b,o)
theorem Vs {o:Obj} (hb:b∈fp) (e:h.get? b=some o):(b,o)∈Q7 fp h:=List.mem_filterMap.mpr ⟨b,hb,by rw [e];rfl⟩
theorem ZHQ {p:Addr×Obj} (hp:p∈Q7 fp h):p.1∈fp/\h.get? p.1=some p.2:=by
 obtain ⟨b,hb,e⟩:=List.mem_filterMap.mp hp;cases q:h.get? b with
 | none=>rw [q] at e;cases e
 | some o=>
  rw [q] at e;have e':(b,o)=p:=Option.some.inj e;subst e';exact ⟨hb,q⟩
theorem Inv.pinned (I:Inv X pins σ H s) (hf:∀b∈fp,FpOk X pins H b) (ho:∀b∈fp,∃o,s.heap.get? b=some o/\∀v,o.data≠ .cell v):Inv X (pins++Q7 fp s.heap) σ H s:=
 I.Lx λp hp=>(j2.mp hp).elim (λz=>I.pin p (zN _ z)) λz=>by obtain ⟨hb,e⟩:=ZHQ z;obtain ⟨f0,f1,f2,_⟩:=hf p.1 hb;obtain ⟨o,e',d⟩:=ho p.1 hb;rw [e] at e';cases e';exact ⟨e,f0,f1,f2,d⟩
theorem Inv.unpinned {pl:List (Addr×Obj)} (I:Inv X (pins++pl) σ H s):Inv X pins σ H s:=I.Lx λp hp=>I.pin p (zN _ (jH _ hp))
theorem ZOG {iter:Expr} {wi:TI} {g:TG} {tb:TS} {pos:Pos} (hp:PassesOwn (model X.prog X.w) X.A X.env X.xe) (hc:X.calm=true) (hi:PI X tg iter wi) (hg:PG X tg g) (hb:PSs X body tb)
  (hs:∀x,foldedSetIterable iter X.env x=pure x:=by intro _;rfl):PS X (.For tg iter body [] pos) (tFor wi g tb):=by
 intro pins s σ H D I h;refine wpAny_For (thn (hi pins s σ H _ I h) λv s1 h1=>thn h1 λitv s2 h2=> ?_) hs;obtain ⟨it,fp,tn,J,H2,e,I2,T,st2,f2,W,⟨m0,w0⟩,turn⟩:=h2;subst e;have stat:∀{H':Hp},(∀b∈fp,H' b=none)->∀b∈fp,FpOk X pins H' b:=λhn b hb=>⟨hn b hb,(f2 b hb).2⟩
 refine codeAny_forLoop_any (λn s'=>∃i σ' H',Inv X pins σ' H' s'/\tn i s'.heap/\(∀b∈fp,H' b=none)/\W i n σ' H') ?_ m0 ⟨0,σ,H2,I2,st2,λb hb=>(f2 b hb).1,w0⟩;rintro n s3 ⟨i,σ3,H3,I3,st3,fr3,w3⟩;rcases turn i n σ3 H3 w3 with ⟨stop,qn⟩ | ⟨go,N,hN,step⟩
 ·refine wpAny_passesOwn hp (thn (T.done X rfl rfl rfl hc i pins s3 σ3 H3 X.xe I3 (stat fr3) st3 stop) λr s4 ⟨hr,I4⟩=> ?_);subst hr;exact wpAny_execs_nil ⟨σ3,H3,I4,qn⟩
 ·refine wpAny_passesOwn hp (thn (T.item X rfl rfl rfl hc i pins s3 σ3 H3 X.xe I3 (stat fr3) st3 go) λr s4 ⟨u,hr,h4⟩=> ?_);subst hr;refine wpAny_passesOwn hp (thn h4 λ_ s5 ⟨x,H5,I5,r5,y5,st5,fr5⟩=> ?_);have I5':=I5.pinned (stat fr5) (T.obj _ _ st5);refine wpAny_passesOwn hp (thn (hg _ s5 σ3 H5 x u _ I5' r5 (step x H5 y5)) λ_ s6 ⟨σ6,H6,I6,q6⟩=> ?_);refine wpAny_passesOwn hp (thn (hb _ s6 σ6 H6 _ I6 q6) λf s7 q7=> ?_)
  have again:∀{σ7:St} {H7:Hp},Inv X (pins++Q7 fp s5.heap) σ7 H7 s7->N σ7 H7->∃m,m < n/\∃i σ' H',Inv X pins σ' H' s7/\tn i s7.heap/\(∀b∈fp,H' b=none)/\W i m σ' H':=λ{σ7 H7} I7 n7=>by obtain ⟨m',hm,w7⟩:=hN σ7 H7 n7;refine ⟨m',hm,i + 1,σ7,H7,I7.unpinned,T.keep _ _ _ st5 λb hb o e=>(I7.pin (b,o) (zN _ (zN _ (Vs hb e)))).1,λb hb=> ?_,w7⟩;obtain ⟨o,e,d⟩:=T.obj _ _ st5 b hb;exact (I7.pin (b,o) (zN _ (zN _ (Vs hb e)))).2.1
  cases f with
  | next=>obtain ⟨σ7,H7,I7,n7⟩:=q7;exact again I7 n7
  | cont=>obtain ⟨σ7,H7,I7,n7⟩:=q7;exact again I7 n7
  | brk=>obtain ⟨σ7,H7,I7,q7⟩:=q7;exact ⟨σ7,H7,I7.unpinned,q7⟩
  | ret v=>obtain ⟨x7,σ7,H7,I7,r7,q7⟩:=q7;exact ⟨x7,σ7,H7,I7.unpinned,r7,q7⟩
end
abbrev R2:=V->V->Hp->VK->Prop
variable {r:R2}
noncomputable def OpR (X:Cx) (f:Value->Value->Sem Value) (r:R2):Prop:=
 ∀(pins:List (Addr×Obj)) (s:Shared) (σ:St) (H:Hp) (x y:V) (v u:Value) (Q:VK),Inv X pins σ H s->RelV x v->RelV y u->r x y H Q->
  wpAny (model X.prog X.w) X.A (f v u) (EP X pins σ Q) X.xe s
noncomputable def UnR (X:Cx) (f:Value->Sem Value) (r:V->Hp->VK->Prop):Prop:=
 ∀(pins:List (Addr×Obj)) (s:Shared) (σ:St) (H:Hp) (x:V) (v:Value) (Q:VK),Inv X pins σ H s->RelV x v->r x H Q->
  wpAny (model X.prog X.w) X.A (f v) (EP X pins σ Q) X.xe s
noncomputable def CallR (X:Cx) (f:Value) (r:List V->Hp->VK->Prop):Prop:=
 ∀(pins:List (Addr×Obj)) (s:Shared) (σ:St) (H:Hp) (xs:List V) (us:List Value) (Q:VK),Inv X pins σ H s->Vals xs us->r xs H Q->
  wpAny (model X.prog X.w) X.A (call f us) (EP X pins σ Q) X.xe s
def tOp (r:R2) (ta tb:TE):TE:=λσ H Q=>ta σ H λx H1=>tb σ H1 λy H2=>r x y H2 Q
def tUn (r:V->Hp->VK->Prop) (ta:TE):TE:=λσ H Q=>ta σ H λx H1=>r x H1 Q
noncomputable def rI (C:Int->Int->Prop) (g:Int->Int->V):R2:=λx y H Q=>∃i j,x=.int i/\y=.int j/\C i j/\Q (g i j) H
def rI0 (g:Int->Int->V):R2:=λx y H Q=>∃i j,x=.int i/\y=.int j/\Q (g i j) H
def rU (g:Int->V):V->Hp->VK->Prop:=λx H Q=>∃i,x=.int i/\Q (g i) H
section
variable {X:Cx} {a b c:Expr} {ta tb tc:TE} {pos:Pos}
theorem Zx (ha:PE X a ta) (hb:PE X b tb) {R:V->V->Hp->Prop} (I:Inv X pins σ H s)
  (h:ta σ H λx H1=>tb σ H1 λy H2=>R x y H2) {Q:Value->Shared->Prop} {f:Value->Value->Sem Value}
  (hf:∀v u s2 x y H2,Inv X pins σ H2 s2->RelV x v->RelV y u->R x y H2->wpAny (model X.prog X.w) X.A (f v u) Q X.xe s2):
  wpAny (model X.prog X.w) X.A (eval a X.env) (λv s₁=>wpAny (model X.prog X.w) X.A (eval b X.env) (λu s₂=>wpAny (model X.prog X.w) X.A (f v u) Q X.xe s₂) X.xe s₁) X.xe s:=by
 refine thn (ha pins s σ H _ I h) λv s1 ⟨x,H1,I1,r1,q1⟩=> ?_
 refine thn (hb pins s1 σ H1 _ I1 q1) λu s2 ⟨y,H2,I2,r2,q2⟩=> ?_
 exact hf v u s2 x y H2 I2 r1 r2 q2
theorem ZLV {op:Operator} (ho:OpR X (binaryOp op) r) (ha:PE X a ta) (hb:PE X b tb):PE X (.BinOp a op b pos) (tOp r ta tb):=by intro pins s σ H Q I h;exact wpAny_BinOp (Zx ha hb I h λv u s2 x y H2 I2 rx ry q=>ho pins s2 σ H2 x y v u Q I2 rx ry q)
theorem ZMh {op:UnaryOp} {r:V->Hp->VK->Prop} (ho:UnR X (unaryOp op) r) (ha:PE X a ta):PE X (.UnaryOp op a pos) (tUn r ta):=by intro pins s σ H Q I h;exact UnaryOp_ (thn (ha pins s σ H _ I h) λv s1 ⟨x,H1,I1,r1,q1⟩=>ho pins s1 σ H1 x v Q I1 r1 q1)
theorem opI {C:Int->Int->Prop} {g:Int->Int->Int}
  (rule:∀(i j:Int) (t u:Tok) (s:Shared) (Q:Value->Shared->Prop) (E:Value->Shared->Prop),C i j->Q (.int (g i j) s.toks) {s with toks:=s.toks + 1}->wpAny (model X.prog X.w) X.A (f (.int i t) (.int j u)) Q E s):
  OpR X f (rI C λi j=>.int (g i j)):=by
 intro pins s σ H x y v u Q I rx ry h;obtain ⟨i,j,rfl,rfl,hc,q⟩:=h;obtain ⟨t,rfl⟩:=rx;obtain ⟨t',rfl⟩:=ry;exact rule i j t t' s _ _ hc ⟨.int (g i j),H,I.tok _,⟨_,rfl⟩,q⟩
theorem opI0 {g:Int->Int->Int}
  (rule:∀(i j:Int) (t u:Tok) (s:Shared) (Q:Value->Shared->Prop) (E:Value->Shared->Prop),Q (.int (g i j) s.toks) {s with toks:=s.toks + 1}->wpAny (model X.prog X.w) X.A (f (.int i t) (.int j u)) Q E s):
  OpR X f (rI0 λi j=>.int (g i j)):=by
 intro pins s σ H x y v u Q I rx ry h;obtain ⟨i,j,rfl,rfl,q⟩:=h;obtain ⟨t,rfl⟩:=rx;obtain ⟨t',rfl⟩:=ry;exact rule i j t t' s _ _ ⟨.int (g i j),H,I.tok _,⟨_,rfl⟩,q⟩
theorem Uv {g:Int->Int->Bool}
  (rule:∀(i j:Int) (t u:Tok) (s:Shared) (Q:Value->Shared->Prop) (E:Value->Shared->Prop),Q (.bool (g i j)) s->wpAny (model X.prog X.w) X.A (f (.int i t) (.int j u)) Q E s):
  OpR X f (rI0 λi j=>.bl (g i j)):=by
 intro pins s σ H x y v u Q I rx ry h;obtain ⟨i,j,rfl,rfl,q⟩:=h;obtain ⟨t,rfl⟩:=rx;obtain ⟨t',rfl⟩:=ry;exact rule i j t t' s _ _ ⟨.bl (g i j),H,I,rfl,q⟩
def CPow (i j:Int):Prop:=0<=j/\j<=1000000/\i.natAbs < 2 ^ 64
def CMul (i j:Int):Prop:=(-(2 ^ 64) < i/\i < 2 ^ 64)∨(-(2 ^ 64) < j/\j < 2 ^ 64)
theorem CMul.ok {i j:Int} (h:CMul i j):IntMulOk i j:=by
 rcases h with ⟨h1,h2⟩ | ⟨h1,h2⟩
 ·exact .of_left (intBits_le_64 h1 h2)
 ·exact .of_right (intBits_le_64 h1 h2)
theorem ZJs:OpR X (binaryOp .Add) (rI0 λi j=>.int (i + j)):=opI0 λ_ _ _ _ _ _ _ q=>add_int q
theorem ZLw:OpR X (binaryOp .Sub) (rI0 λi j=>.int (i - j)):=opI0 λ_ _ _ _ _ _ _ q=>sub_int q
theorem ZOJ:OpR X (binaryOp .Mod) (rI (λ_ j=>0 < j) λi j=>.int (i % j)):=opI λi j _ _ _ _ _ hc q=>by have h1:(0:Int) < j:=hc;exact mod_int' (by lia) (by rw [Int.fmod_eq_emod_of_nonneg i (by lia)];exact q)
theorem ZPG:OpR X (binaryOp .Pow) (rI CPow λi j=>.int (i ^ j.toNat)):=opI λ_ _ _ _ _ _ _ hc q=>pow_int_small hc.1 hc.2.1 hc.2.2 q
theorem unI {f:Value->Sem Value} {g:Int->Int}
  (rule:∀(i:Int) (t:Tok) (s:Shared) (Q:Value->Shared->Prop) (E:Value->Shared->Prop),Q (.int (g i) s.toks) {s with toks:=s.toks + 1}->wpAny (model X.prog X.w) X.A (f (.int i t)) Q E s):
  UnR X f (rU λi=>.int (g i)):=by
 intro pins s σ H x v Q I rx h;obtain ⟨i,rfl,q⟩:=h;obtain ⟨t,rfl⟩:=rx;exact rule i t s _ _ ⟨.int (g i),H,I.tok _,⟨_,rfl⟩,q⟩
theorem ZMo:UnR X (unaryOp .USub) (rU λi=>.int (-i)):=unI λ_ _ _ _ _ q=>neg_int q
end
section
variable {X:Cx} {a b c:Expr} {ta tb tc:TE} {pos:Pos}
theorem ZAr {Q:VK} {k k':Bool} (I:Inv X pins σ H s) (q:Q (.bl k) H) (e:k=k'):EP X pins σ Q (.bool k') s:=by subst e;exact ⟨.bl k,H,I,rfl,q⟩
theorem ZNM:OpR X (compareOp .Lt) (rI0 λi j=>.bl (decide (i < j))):=Uv λ_ _ _ _ _ _ _ q=>lt_int q
theorem ZKj:OpR X (compareOp .LtE) (rI0 λi j=>.bl (decide (i<=j))):=Uv λ_ _ _ _ _ _ _ q=>le_int q
theorem ZLi:OpR X (compareOp .Gt) (rI0 λi j=>.bl (decide (j < i))):=Uv λ_ _ _ _ _ _ _ q=>gt_int q
theorem ZJA:OpR X (compareOp .GtE) (rI0 λi j=>.bl (decide (j<=i))):=Uv λ_ _ _ _ _ _ _ q=>ge_int q
theorem ZK8:OpR X (compareOp .Lt) (λx y H Q=>∃i j,x=.str i/\y=.str j/\Q (.bl (decide (i.cps.toList < j.cps.toList))) H):=by intro pins s σ H x y v u Q I rx ry h;obtain ⟨i,j,rfl,rfl,q⟩:=h;obtain ⟨t,rfl⟩:=rx;obtain ⟨t',rfl⟩:=ry;exact lt_str (ZAr I q rfl)
theorem ZKa:OpR X (compareOp .Is) (λx y H Q=>y=.non/\Q (.bl (decide (x=.non))) H):=by
 intro pins s σ H x y v u Q I rx ry h;obtain ⟨rfl,q⟩:=h;cases ry;refine is_none_gen (ZAr I q ?_)
 cases x <;> first
  | (cases rx;rfl)
  | (obtain ⟨t,rfl⟩:=rx;rfl)
theorem ZOj:OpR X (compareOp .IsNot) (λx y H Q=>y=.non/\Q (.bl (!decide (x=.non))) H):=by
 intro pins s σ H x y v u Q I rx ry h;obtain ⟨rfl,q⟩:=h;cases ry;refine isnot_none_gen (ZAr I q ?_)
 cases x <;> first
  | (cases rx;rfl)
  | (obtain ⟨t,rfl⟩:=rx;rfl)
theorem OpR.or {r':R2} (h:OpR X f r) (h':OpR X f r'):OpR X f (λx y H Q=>r x y H Q∨r' x y H Q):=by
 intro pins s σ H x y v u Q I rx ry q;rcases q with q | q
 ·exact h pins s σ H x y v u Q I rx ry q
 ·exact h' pins s σ H x y v u Q I rx ry q
theorem nomark (b:Expr) (h:op≠ .In:=by decide) (h2:op≠ .NotIn:=by decide):behindInMarks op b=false:=by
 have e1:(op == CmpOp.In)=false:=by cases op <;> first | rfl | exact absurd rfl h
 have e2:(op == CmpOp.NotIn)=false:=by cases op <;> first | rfl | exact absurd rfl h2
 cases b <;> simp [behindInMarks,e1,e2]
theorem ZLs (ho:OpR X (compareOp op) r) (ha:PE X a ta) (hb:PE X b tb) (hm:behindInMarks op b=false):PE X (.Compare a [op] [b] pos) (tOp r ta tb):=by intro pins s σ H Q I h;exact wpAny_Compare1 (Zx ha hb I h λv u s2 x y H2 I2 rx ry q=>ho pins s2 σ H2 x y v u Q I2 rx ry q) hm
def Ti (t:TE):TT:=λσ H Q=>t σ H λx H'=>∃k,x=.bl k/\Q k H'
theorem ZJZ (ho:OpR X (compareOp op) r) (ha:PE X a ta) (hb:PE X b tb) (hm:behindInMarks op b=false):PT X (.Compare a [op] [b] pos) (Ti (tOp r ta tb)):=by
 intro pins s σ H Q I h;refine wpAny_isTrue_Compare1 (thn (ha pins s σ H _ I h) λv s1 ⟨x,H1,I1,r1,q1⟩=>thn (hb pins s1 σ H1 _ I1 q1) λu s2 ⟨y,H2,I2,r2,q2⟩=>
  thn (ho pins s2 σ H2 x y v u _ I2 r1 r2 q2) λc s3 ⟨z,H3,I3,r3,k,e,q3⟩=> ?_) hm
 subst e;cases r3;exact wpAny_truthy_bool ⟨H3,I3,q3⟩
noncomputable def ZDj (r r':R2) (ta tb tc:TE):TE:=λσ H Q=>ta σ H λx H1=>tb σ H1 λy H2=>r x y H2 λz H3=>∃k,z=.bl k/\
 (if k=true then tc σ H3 λw' H4=>r' y w' H4 Q else Q (.bl false) H3)
theorem ZMI {op':CmpOp} {r':R2} (ho:OpR X (compareOp op) r) (ho':OpR X (compareOp op') r') (ha:PE X a ta) (hb:PE X b tb) (hc:PE X c tc)
  (hm:lastMarks [op,op'] [b,c]=false:=by with_unfolding_all rfl):PT X (.Compare a [op,op'] [b,c] pos) (Ti (ZDj r r' ta tb tc)):=by
 intro pins s σ H Q I h;refine isTrue_chain (thn (ha pins s σ H _ I h) λv s1 ⟨x,H1,I1,r1,q1⟩=>test_link (thn (hb pins s1 σ H1 _ I1 q1) λu s2 ⟨y,H2,I2,r2,q2⟩=>
  thn (ho pins s2 σ H2 x y v u _ I2 r1 r2 q2) λd s3 ⟨z,H3,I3,r3,k,e,q3⟩=> ?_)) hm
 subst e;cases r3;refine wpAny_truthy_bool ?_;cases k with
 | false=>
  obtain ⟨k',e',q'⟩:=q3;cases e';exact ite_ff ⟨H3,I3,q'⟩
 | true=>
  refine ite_tt (test_last (thn (hc pins s3 σ H3 _ I3 q3) λw' s4 ⟨z',H4,I4,r4,q4⟩=>thn (ho' pins s4 σ H4 y z' u w' _ I4 r2 r4 q4) λd' s5 ⟨z2,H5,I5,r5,k2,e2,q5⟩=> ?_));subst e2;cases r5;exact wpAny_truthy_bool ⟨H5,I5,q5⟩
theorem line63:(sizeLine:Nat) < 2 ^ 63:=by rw [sizeLine_eq];decide
theorem ZKV:OpR X (binaryOp .Add) (λx y H Q=>∃i j,x=.str i/\y=.str j/\i.length + j.length<=sizeLine/\Q (.str (i++j)) H):=by intro pins s σ H x y v u Q I rx ry h;obtain ⟨i,j,rfl,rfl,hz,q⟩:=h;obtain ⟨t,rfl⟩:=rx;obtain ⟨t',rfl⟩:=ry;exact add_str (λt' tk=>⟨.str (i++j),H,I.tok _,⟨_,rfl⟩,q⟩) hz
theorem ZLa:OpR X (inplaceOp .Add) (λx y H Q=>∃i j,x=.str i/\y=.str j/\i.length + j.length<=sizeLine/\Q (.str (i++j)) H):=by intro pins s σ H x y v u Q I rx ry h;obtain ⟨i,j,rfl,rfl,hz,q⟩:=h;obtain ⟨t,rfl⟩:=rx;obtain ⟨t',rfl⟩:=ry;exact iadd_str (λt' tk=>⟨.str (i++j),H,I.tok _,⟨_,rfl⟩,q⟩) hz
theorem vals1 {x:V} (r:Vals [x] us):∃u,us= [u]/\RelV x u:=by
 cases r with
 | cons r1 r2=>cases r2;exact ⟨_,rfl,r1⟩
theorem vals2 {x:V} (r:Vals [x,y] us):∃u w',us= [u,w']/\RelV x u/\RelV y w':=by
 cases r with
 | cons r1 r2=>
  cases r2 with
  | cons r3 r4=>cases r4;exact ⟨_,_,rfl,r1,r3⟩
theorem ZJ1 (hc:X.calm=true):CallR X (.builtin "max") (λxs H Q=>∃i j,xs= [.int i,.int j]/\Q (.int (if j > i then j else i)) H):=by
 intro pins s σ H xs us Q I r h;obtain ⟨i,j,rfl,q⟩:=h;obtain ⟨u,w',rfl,⟨t,rfl⟩,⟨t',rfl⟩⟩:=vals2 r;refine max_two_ints (I.ok.hd hc) λh' tk k=>⟨_,H,I.kept k,?_,q⟩
 by_cases hj:j > i
 ·rw [if_pos hj,if_pos hj];exact ⟨_,rfl⟩
 ·rw [if_neg hj,if_neg hj];exact ⟨_,rfl⟩
theorem ZLt (hc:X.calm=true):CallR X (.builtin "min") (λxs H Q=>∃i j,xs= [.int i,.int j]/\Q (.int (if j < i then j else i)) H):=by
 intro pins s σ H xs us Q I r h;obtain ⟨i,j,rfl,q⟩:=h;obtain ⟨u,w',rfl,⟨t,rfl⟩,⟨t',rfl⟩⟩:=vals2 r;refine min_two_ints (I.ok.hd hc) λh' tk k=>⟨_,H,I.kept k,?_,q⟩
 by_cases hj:j < i
 ·rw [if_pos hj,if_pos hj];exact ⟨_,rfl⟩
 ·rw [if_neg hj,if_neg hj];exact ⟨_,rfl⟩
end
structure ObjM (h:Heap) (x dx C:Addr) (mA:Str->Option Value):Prop where
 obj:h.get? x=some (PySem.W.instObj C dx)
 ns:h.Ns1 dx mA
 ne:dx≠x
theorem ZMN {dx:Addr} {mA:Str->Option Value} (n:h.Ns1 dx mA):∃od,h.get? dx=some od/\∀name,PySem.W.lookIn name od=some (mA name):=by
 obtain ⟨o,es,ep,ho,hd,hk,_,hm⟩:=n;refine ⟨o,ho,λname=> ?_⟩;have e:=hm name;unfold nsFind findBy at e;rw [<-Array.find?_toList] at e;unfold PySem.W.lookIn;rw [hd];dsimp only;split
 ·rename_i y q;rw [q] at e;exact congrArg some e
 ·rename_i q;rw [q] at e
  have a:es.toList.any (·.refKey)=false:=by rw [List.any_eq_false];intro y hy;obtain ⟨z,t,hkey⟩:=hk y (Array.mem_toList_iff.mp hy);simp [DictEntry.refKey,hkey]
  have a':¬es.toList.any (·.refKey)=true:=by rw [a];exact z0
  rw [if_neg a'];exact congrArg some e
theorem ObjM.look {x dx:Addr} {mA:Str->Option Value} (I:ObjM h x dx C mA):∃od,PySem.W.InstAt h x (PySem.W.instObj C dx) C (some od)/\∀name,PySem.W.lookIn name od=some (mA name):=
 let ⟨od,ho,hl⟩:=ZMN I.ns
 ⟨od,⟨I.obj,rfl,rfl,ho⟩,hl⟩
section
variable {prog:Program} {w:World} {A:Around} {E:Value->Shared->Prop} {s:Shared} {K:PySem.W.Frag} {x dx C f:Addr} {mA:Str->Option Value} {name:Str} {v:Value}
theorem ZP1 {expr:Bool} (X:K.In s.heap) (I:ObjM s.heap x dx C mA) (hg:PySem.W.plainGet K C name=true) (hh:PySem.W.hasDictIn K C=true)
  (ha:PySem.W.findIn K (.ref C) name=some none) (hv:mA name=some v) (hv':PySem.W.handedIn v=true) (h:Q v {s with toks:=s.toks + 1}):
  wpAny (model prog w) A (getAttr (.ref x) name expr) Q E s:=by
 obtain ⟨od,J,hl⟩:=I.look;exact PySem.W.get_value X J (PySem.W.plainGet_of hg).1 (PySem.W.findObj_own hh ha rfl (by rw [hl,hv])) hv' h
theorem ZIy {pl:Sem Bool} {Q:Value×List Value->Shared->Prop} (X:K.In s.heap) (I:ObjM s.heap x dx C mA) (hg:PySem.W.plainGet K C name=true)
  (hf:PySem.W.findIn K (.ref C) name=some (some (.ref f))) (ht:PySem.W.isFn K (.ref f)=true) (hv:mA name=none) (h:Q (.ref f,[.ref x]) s):
  wpAny (model prog w) A (getMethod (.ref x) name pl) Q E s:=by
 obtain ⟨od,J,hl⟩:=I.look
 exact PySem.W.method_fn X J (PySem.W.plainGet_of hg).1 (PySem.W.plainGet_of hg).2 hf (beq_iff_eq.mp ht) (by show (PySem.W.lookIn name od).map (·.isSome)=some false;rw [hl,hv];rfl) h
theorem ZKW {ns:List Str} {Q:Unit->Shared->Prop} (X:K.In s.heap) (I:ObjM s.heap x dx C mA)
  (hs:PySem.W.findIn K (.ref C) "__setattr__"=some (some (.builtin "object.__setattr__"))) (hp:PySem.W.plainOver K C=true) (ht:PySem.W.takerIn K C name=some none) (hh:PySem.W.hasDictIn K C=true)
  (hw:PySem.Within mA ns) (hsz:ns.length<=sizeLine)
  (h:∀h',ObjM h' x dx C (λy=>if y=name then some v else mA y)->qw dx s.heap h'->Q () {s with heap:=h',toks:=s.toks + 2}):
  wpAny (model prog w) A (setAttr (.ref x) name v) Q E s:=by
 obtain ⟨od,J,hl⟩:=I.look;refine PySem.W.set_plain X J hs (PySem.W.osa_open (s:={s with toks:=s.toks + 1}) (r:=none) X J hp ht λb=> ?_);obtain ⟨cd,hc,hd'⟩:=PySem.W.any_some hh;have hx:s.heap.get? x=some ⟨.ref C,some dx,.plain,#[]⟩:=I.obj;refine wpAny_bind (wpAny_pure (wpAny_bind (wpAny_bind (wpAny_loadPart hx (wpAny_bind (PySem.W.Looks.here (s:={s with toks:=s.toks + 1}) (PySem.W.looks_clsIn X hc) ?_))))))
 rw [hd'];refine wpAny_pure (a:=some dx) (wpAny_bind (wpAny_pure (wpAny_bind ?_)));refine wpAny_nsSet1 (s:={s with toks:=s.toks + 1}) I.ns λh' hn2 hs2=> ?_
 obtain ⟨oD,esD,epD,hoD,hdD,hcD⟩:=hn2.count (PySem.Within.cons name v hw);refine wpAny_bind (wpAny_lookBehind hoD (by rw [hdD];exact pastItsLine_dict (z5 hcD (by rw [qZ];lia))) ?_);exact wpAny_pure (h _ ⟨(hs2.2 _ (Ne.symm I.ne)).trans I.obj,hn2,I.ne⟩ hs2)
theorem ZN3 {R:Result->Shared->Prop} {vs:List Value} (X:K.In s.heap) (hm:PySem.W.makesIn K C=true)
  (hi:PySem.W.findIn K (.ref C) "__init__"=some (some (.ref f))) (hf:PySem.W.typeIn K (.ref f)=some (.type "function"))
  (h:codeAny (model prog w) (A.under (.builtin "type.__call__" ⟨.ref C::vs,kw⟩)) (.call (.ref f) ⟨.ref (s.heap.objs.size + 1)::vs,kw⟩) (PySem.W.InitBack (s.heap.objs.size + 1) R)
   {s with heap:=(s.heap.push PySem.W.emptyDict).push (PySem.W.instObj C s.heap.objs.size)}):
  codeAny (model prog w) A (.call (.ref C) ⟨vs,kw⟩) R s:=by
 obtain ⟨hh,g,d,t,os⟩:=s;exact PySem.W.make_core (PySem.W.makes_of X hm) (PySem.W.looks_findIn X hi) (λself=>PySem.W.bind_fn X self hf) (.inl rfl) h
end
noncomputable def Gg (f:Str) (v:V):List (Str×V)->List (Str×V)
 | []=> [(f,v)]
 | (g,x)::r=>if g=f then (g,v)::r else (g,x)::Gg f v r
theorem ZFP (f g:Str) (v:V):∀fs:List (Str×V),(Gg f v fs).lookup g=if g=f then some v else fs.lookup g
 | []=>by
  show jW g [(f,v)]=_;by_cases h:g=f
  ·have hb:(g == f)=true:=beq_iff_eq.mpr h;simp only [jW,hb,if_pos h]
  ·have hb:(g == f)=false:=beq_eq_false_iff_ne.mpr h;simp only [jW,hb,if_neg h]
 | (k,x)::r=>by
  have ih:=ZFP f g v r
  rw [show Gg f v ((k,x)::r)=(if k=f then (k,v)::r else (k,x)::Gg f v r) from rfl]
  by_cases hk:k=f
  ·rw [if_pos hk];by_cases h:g=k
   ·have hb:(g == k)=true:=beq_iff_eq.mpr h;simp only [jW,hb,if_pos (h.trans hk)]
   ·have hb:(g == k)=false:=beq_eq_false_iff_ne.mpr h;simp only [jW,hb,if_neg (λe:g=f=>h (e.trans hk.symm))]
  ·rw [if_neg hk];by_cases h:g=k
   ·have hb:(g == k)=true:=beq_iff_eq.mpr h;simp only [jW,hb,if_neg (λe:g=f=>hk (h.symm.trans e))]
   ·have hb:(g == k)=false:=beq_eq_false_iff_ne.mpr h;simp only [jW,hb];exact ih
theorem Zh (f:Str) (v:V):∀fs:List (Str×V),f∈(Gg f v fs).map (·.1)/\∀g,g∈fs.map (·.1)->g∈(Gg f v fs).map (·.1)
 | []=>⟨by simp [Gg],λg h=>by simp at h⟩
 | (k,x)::r=>by
  obtain ⟨i1,i2⟩:=Zh f v r
  rw [show Gg f v ((k,x)::r)=(if k=f then (k,v)::r else (k,x)::Gg f v r) from rfl]
  by_cases hk:k=f
  ·rw [if_pos hk];subst hk;exact ⟨by simp,λg h=>by simpa using h⟩
  ·rw [if_neg hk];refine ⟨?_,λg h=> ?_⟩
   ·rw [zC];exact zJ _ i1
   ·rw [zC] at h ⊢;rcases zx.mp h with e | e
    ·exact zx.mpr (.inl e)
    ·exact zJ _ (i2 g e)
theorem ZDz (f:Str) (v:V):∀fs:List (Str×V),(Gg f v fs).length<=fs.length + 1
 | []=>by simp [Gg]
 | (k,x)::r=>by
  have ih:=ZDz f v r
  rw [show Gg f v ((k,x)::r)=(if k=f then (k,v)::r else (k,x)::Gg f v r) from rfl]
  by_cases hk:k=f
  ·rw [if_pos hk,qZ,qZ];lia
  ·rw [if_neg hk,qZ,qZ];lia
theorem RelO.some_of {o:Option Value} (r:RelO (some v) o):∃u,o=some u/\RelV v u:=by
 cases o with
 | none=>exact (show False from r).elim
 | some u=>exact ⟨u,rfl,r⟩
theorem RelO.none_of {o:Option Value} (r:RelO none o):o=none:=by
 cases o with
 | none=>rfl
 | some u=>exact (show False from r).elim
theorem ZLT (r:RelV v u):PySem.W.handedIn u=true:=by
 cases v with
 | non=>cases (show u=Value.none from r);rfl
 | bl b=>cases (show u=Value.bool b from r);rfl
 | int i=>obtain ⟨t,e⟩:=(show∃t,u=Value.int i t from r);cases e;rfl
 | str x=>obtain ⟨t,e⟩:=(show∃t,u=Value.str x t from r);cases e;rfl
 | byt b=>obtain ⟨t,e⟩:=(show∃t,u=Value.bytes b t from r);cases e;rfl
 | flt b=>obtain ⟨t,e⟩:=(show∃t,u=Value.float b t from r);cases e;rfl
 | ref a=>cases (show u=Value.ref a from r);rfl
 | ty n=>cases (show u=Value.type n from r);rfl
section
variable {P:Program} {w:World} {H H':Hp} {h h':Heap} {a C dx:Addr} {fs fs':List (Str×V)}
theorem Zm (hok:HOk P w H h) (e:H a=some (.ins C dx fs)):∃mA,ObjM h a dx C mA/\(∀f,RelO (fs.lookup f) (mA f))/\PySem.Within mA (fs.map (·.1))/\fs.length<=1000/\H dx=some (.own a):=by
 obtain ⟨d,z,ne,ob,mA,n,r,q⟩:=(show ObjOk P w H h a (.ins C dx fs) from hok a _ e)
 exact ⟨mA,⟨ob,n,ne⟩,r,q,z,d⟩
end
structure Cls (K:PySem.W.Frag) (C:Addr):Prop where
 pg:PySem.W.plainGet K C Str.empty=true
 hd:PySem.W.hasDictIn K C=true
 po:PySem.W.plainOver K C=true
 sa:PySem.W.findIn K (.ref C) "__setattr__"=some (some (.builtin "object.__setattr__"))
theorem Cls.get (c:Cls K C) (f:Str):PySem.W.plainGet K C f=true:=c.pg
def NoAttr (K:PySem.W.Frag) (C:Addr) (f:Str):Prop:=PySem.W.findIn K (.ref C) f=some none
theorem NoAttr.taker {f:Str} (n:NoAttr K C f):PySem.W.takerIn K C f=some none:=by
 unfold PySem.W.takerIn
 rw [show PySem.W.findIn K (.ref C) f=some none from n]
 rfl
structure Meth (K:PySem.W.Frag) (C:Addr) (m:Str) (f:Addr):Prop where
 at_:PySem.W.findIn K (.ref C) m=some (some (.ref f))
 fn:PySem.W.isFn K (.ref f)=true
 kp:PySem.W.keepIn K (.ref f)=true
section
variable {X:Cx} {pins:List (Addr×Obj)} {σ:St} {H:Hp} {s:Shared} {a C dx:Addr} {fs:List (Str×V)} {f:Str} {v:V} {A:Around} {E:Value->Shared->Prop}
theorem ZMY {b:Bool} (I:Inv X pins σ H s) (e:H a=some (.ins C dx fs)) (c:Cls X.K C) (n:NoAttr X.K C f) (l:fs.lookup f=some v)
  (h:∀u s',Inv X pins σ H s'->RelV v u->Q u s'):wpAny (model X.prog X.w) A (getAttr (.ref a) f b) Q E s:=by
 obtain ⟨mA,O,r,_,_,_⟩:=Zm I.hok e;obtain ⟨u,hu,ru⟩:=RelO.some_of (v:=v) (o:=mA f) (by rw [<-l];exact r f);exact ZP1 I.kIn O (c.get f) c.hd n hu (ZLT ru) (h u _ (I.tok _) ru)
theorem ZBF {m:Str} {g:Addr} {pl:Sem Bool} {Q:Value×List Value->Shared->Prop} (I:Inv X pins σ H s) (e:H a=some (.ins C dx fs)) (c:Cls X.K C) (k:Meth X.K C m g) (l:fs.lookup m=none)
  (h:Q (.ref g,[.ref a]) s):wpAny (model X.prog X.w) A (getMethod (.ref a) m pl) Q E s:=by
 obtain ⟨mA,O,r,_,_,_⟩:=Zm I.hok e;have hn:mA m=none:=RelO.none_of (by rw [<-l];exact r m);exact ZIy I.kIn O (c.get m) k.at_ k.fn hn h
theorem ZNv {Q:Unit->Shared->Prop} (I:Inv X pins σ H s) (e:H a=some (.ins C dx fs)) (c:Cls X.K C) (n:NoAttr X.K C f) (hl:fs.length < 1000) (ry:RelV y u)
  (h:∀s',Inv X pins σ (upd H a (.ins C dx (Gg f y fs))) s'->Q () s'):wpAny (model X.prog X.w) A (setAttr (.ref a) f u) Q E s:=by
 obtain ⟨mA,O,r,wi,_,ho⟩:=Zm I.hok e
 have hz:(fs.map (·.1)).length<=sizeLine:=by rw [zT,sizeLine_eq];lia
 refine ZKW I.kIn O c.sa c.po n.taker c.hd wi hz λh' O' sb=>h _ ?_
 have hd:∃o,h'.get? dx=some o:=let ⟨o,_,_,e',_⟩:=O'.ns;⟨o,e'⟩;refine I.write (x:=a) (e:=dx) (by rw [e];exact True.intro) (.inr ho) (λb q hb z=>(sb.2 b hb).trans z) hd ?_;refine ⟨by rw [Bf O.ne];exact ho,?_,O.ne,O'.obj,_,O'.ns,λg=> ?_,λg hg=> ?_⟩
 ·have:=ZDz f y fs;lia
 ·show RelO ((Gg f y fs).lookup g) (if g=f then some u else mA g);rw [ZFP];by_cases q:g=f
  ·rw [if_pos q,if_pos q];exact ry
  ·rw [if_neg q,if_neg q];exact r g
 ·by_cases q:g=f
  ·rw [q];exact (Zh f y fs).1
  ·refine (Zh f y fs).2 g (wi g λz=>hg ?_);show (if g=f then some u else mA g)=none;rw [if_neg q];exact z
theorem Inv.made (I:Inv X pins σ H s):Inv X pins σ (upd (upd H s.heap.objs.size (.own (s.heap.objs.size + 1))) (s.heap.objs.size + 1) (.ins C s.heap.objs.size []))
  {s with heap:=(s.heap.push PySem.W.emptyDict).push (PySem.W.instObj C s.heap.objs.size)}:=by
 have e1:(s.heap.push PySem.W.emptyDict).get? s.heap.objs.size=some PySem.W.emptyDict:=zy s.heap rfl;have e2:((s.heap.push PySem.W.emptyDict).push (PySem.W.instObj C s.heap.objs.size)).get? (s.heap.objs.size + 1)=some (PySem.W.instObj C s.heap.objs.size):=by have:=zy (s.heap.push PySem.W.emptyDict) (o:=PySem.W.instObj C s.heap.objs.size) rfl;rwa [qj] at this
 have e3:(s.heap.push PySem.W.emptyDict).Ns s.heap.objs.size (λ_=>none):=⟨PySem.W.emptyDict,#[],_,e1,rfl,(λe he=>absurd he (by simp)),λ_=>rfl⟩;have I1:=I.laid (a:=s.heap.objs.size) (o:=.own (s.heap.objs.size + 1)) (h':=s.heap.push PySem.W.emptyDict) (t':=s.toks) (λb u q=>zQ _ q) (zK _) ⟨_,e1⟩;refine I1.laid (a:=s.heap.objs.size + 1) (o:=.ins C s.heap.objs.size []) (t':=s.toks) (λb u q=>zQ _ q) (Nat.le_of_eq (qj _ _)) ?_
 have ne:s.heap.objs.size≠s.heap.objs.size + 1:=zB (qK _);refine ⟨by rw [Bf ne,Gz],jA _,ne,e2,λ_=>none,(Heap.Ns1.of_empty e3).at λo q=>zQ _ q,λ_=>True.intro,λy hy=>absurd rfl hy⟩
theorem ZP3 {prog:Program} {env:Env} {f:Str} {pos:Pos} (hb:attributeBase e f env (eval e env)=eval e env)
  (h:wpAny (model prog w) A (eval e env) (λo s₁=>wpAny (model prog w) A (getAttr o f true) Q E s₁) E s):wpAny (model prog w) A (eval (.Attribute e f pos) env) Q E s:=
 Attribute_any_ h (by rw [arm_eval_Attribute,hb])
end
noncomputable def tFld (K:PySem.W.Frag) (ta:TE) (f:Str):TE:=λσ H Q=>ta σ H λx H1=>∃a C dx fs v,x=.ref a/\H1 a=some (.ins C dx fs)/\Cls K C/\NoAttr K C f/\fs.lookup f=some v/\Q v H1
noncomputable def sFld (K:PySem.W.Frag) (ta tv:TE) (f:Str):TS:=λD σ H=>tv σ H λy H1=>ta σ H1 λx H2=>∃a C dx fs,x=.ref a/\H2 a=some (.ins C dx fs)/\Cls K C/\NoAttr K C f/\fs.length < 1000/\
 D.nx σ (upd H2 a (.ins C dx (Gg f y fs)))
section
variable {X:Cx} {o e value:Expr} {f:Str} {pos pos' tpos:Pos} {ta tv:TE}
theorem ZLU (he:PE X e ta) (hb:attributeBase e f X.env (eval e X.env)=eval e X.env):PE X (.Attribute e f pos) (tFld X.K ta f):=by intro pins s σ H Q I h;refine ZP3 hb (thn (he pins s σ H _ I h) λu s1 ⟨x,H1,I1,rx,a,C,dx,fs,v,ex,ea,c,n,l,q⟩=> ?_);subst ex;obtain rfl:u=Value.ref a:=rx;exact ZMY I1 ea c n l λu' s2 I2 ru=>⟨v,H1,I2,ru,q⟩
theorem ZNu (ha:PE X o ta) (hv:PE X value tv) (hs:swapsWith value (some (.Attribute o f pos')) pos.line X.env=pure false):PS X (.Assign [.Attribute o f pos'] value pos) (sFld X.K ta tv f):=by intro pins s σ H D I h;refine plainObj_wpAny_Assign_Attribute (thn (hv pins s σ H _ I h) λu s1 ⟨y,H1,I1,ry,q⟩=>thn (ha pins s1 σ H1 _ I1 q) λov s2 ⟨x,H2,I2,rx,a,C,dx,fs,ex,ea,c,n,l,q2⟩=> ?_) hs;subst ex;obtain rfl:ov=Value.ref a:=rx;exact ZNv I2 ea c n l ry λs3 I3=>⟨σ,_,I3,q2⟩
theorem ZQh {pl:Sem Bool} {m:Str} {apos:Pos} {args:List Expr} (he:PE X e te) (I:Inv X pins σ H s)
  (h:te σ H λx H1=>∃a C dx fs g,x=.ref a/\H1 a=some (.ins C dx fs)/\Cls X.K C/\Meth X.K C m g/\fs.lookup m=none/\
   ∀s1,Inv X pins σ H1 s1->wpAny (model X.prog X.w) X.A (callWith pos (.ref g) [.ref a] (backTo pos (starEach args X.env)) (backToKw pos (keywordEach [] X.env))) Q X.xe s1)
  (ht:eval (.Call (.Attribute e m apos) args [] pos) X.env=(do
   let ov<-eval e X.env
   standAt apos.atName
   let (f,first)<-holding [ov] (getMethod ov m pl)
   callWith pos f first (backTo pos (starEach args X.env)) (backToKw pos (keywordEach [] X.env)))):
  wpAny (model X.prog X.w) X.A (eval (.Call (.Attribute e m apos) args [] pos) X.env) Q X.xe s:=by
 refine PySem.W.methodCall_KW (pl:=pl) (thn (he pins s σ H _ I h) λu s1 ⟨x,H1,I1,rx,a,C,dx,fs,g,ex,ea,c,k,l,q⟩=> ?_) ht;subst ex;obtain rfl:u=Value.ref a:=rx;exact ZBF I1 ea c k l (q s1 I1)
end
section
variable {X:Cx} {pins:List (Addr×Obj)} {σ:St} {H:Hp} {s:Shared} {A:Around} {E:Value->Shared->Prop} {Q:Value->Shared->Prop} {c:Value} {b:Bool}
end
structure Room (k:Nat) (A:Around):Prop where
 hd:A.handled=none
 dp:A.depth + 3 * k + 5 < recursionLimit
 un:A.units + 16 * k + 200 < cLine
theorem Room.mono {j:Nat} (r:Room k A) (h:j<=k):Room j A:=⟨r.hd,by have:=r.dp;lia,by have:=r.un;lia⟩
theorem Room.deeper (r:Room (k + 1) A) (env:Env):Room k (A.deeper env):=
 ⟨r.hd,by have:=r.dp;show A.depth + 1 + 3 * k + 5 < _;lia,by have:=r.un;show A.units + 3 + 16 * k + 200 < _;lia⟩
theorem ZJj:(A.under (.builtin "type.__call__" ⟨.ref C::us,kw⟩)).depth=A.depth + 1:=by
 first | rfl | simp [Around.under,Code.weight,Code.isCreation,Code.isGuard,Code.isCaller,Code.frames,Code.isFrame,guardIds]
theorem ZMg:(A.under (.builtin "type.__call__" ⟨.ref C::us,kw⟩)).units=A.units + 1:=by
 first | rfl | simp [Around.under,Code.cUnits,Code.frames,Code.isFrame]
theorem Room.make (r:Room (k + 1) A) (C:Addr) (us:List Value) (kw:List (Str×Value)):Room k (A.under (.builtin "type.__call__" ⟨.ref C::us,kw⟩)):=
 ⟨r.hd,by have:=r.dp;rw [ZJj];lia,by have:=r.un;rw [ZMg];lia⟩
theorem Room.depth (r:Room k A):A.depth < recursionLimit:=by have:=r.dp;lia
theorem Room.units (r:Room k A):A.units + 64 < cLine:=by have:=r.un;lia
def Wa:TA:=λ_ H Q=>Q [] H
def ZA0 (ta:TE) (tr:TA):TA:=λσ H Q=>ta σ H λx H1=>tr σ H1 λxs H2=>Q (x::xs) H2
section
variable {X:Cx} {e:Expr} {es:List Expr} {te:TE} {t:TA} {pos:Pos}
theorem ZPF:PA X [] Wa:=λ_ _ _ _ H Q I h=>Calls.spliced_nil ⟨[],H,I,.nil,h⟩
theorem ZKT (ha:PE X e te) (hr:PA X es t) (hs:starEach (e::es) X.env=(false,eval e X.env)::starEach es X.env:=by rfl):PA X (e::es) (ZA0 te t):=by intro pos pins s σ H Q I h;rw [hs];show wpAny _ _ (spliced ((false,eval e X.env)::backTo pos (starEach es X.env))) _ _ s;refine Calls.spliced_cons (thn (ha pins s σ H _ I h) λu s1 ⟨x,H1,I1,r1,q1⟩=> ?_);exact thn (hr pos pins s1 σ H1 _ I1 q1) λus s2 ⟨xs,H2,I2,r2,q2⟩=>⟨x::xs,H2,I2,.cons r1 r2,q2⟩
noncomputable def tTup (t:TA):TE:=λσ H Q=>t σ H λxs H1=>xs.length<=sizeLine/\∀p,H1 p=none->Q (.ref p) (upd H1 p (.tup xs))
noncomputable def tLst (t:TA):TE:=λσ H Q=>t σ H λxs H1=>xs.length<=sizeLine/\∀p,H1 p=none->Q (.ref p) (upd H1 p (.lst xs))
theorem ZMG {x1} (h:PA X es t):PE X (.Tuple es x1 pos) (tTup t):=by intro pins s σ H Q I hq;refine wpAny_Tuple_spliced (thn (h pos pins s σ H _ I hq) λus s1 ⟨xs,H1,I1,r,z,q⟩=>⟨by rw [<-r.length];exact z,?_⟩);have hf:H1 s1.heap.objs.size=none:=I1.hok.fresh (zK _);refine ⟨.ref s1.heap.objs.size,upd H1 s1.heap.objs.size (.tup xs),I1.laid (t':=s1.toks) (λb u e=>zQ _ e) (zK _) ?_,rfl,q _ hf⟩;exact ⟨z,us,r,⟨_,zy _ rfl,rfl,_,rfl⟩⟩
theorem ZMZ (h:PA X es t):PE X (.List es pos) (tLst t):=by intro pins s σ H Q I hq;refine wpAny_List_spliced (thn (h pos pins s σ H _ I hq) λus s1 ⟨xs,H1,I1,r,z,q⟩=>⟨by rw [<-r.length];exact z,?_⟩);have hf:H1 s1.heap.objs.size=none:=I1.hok.fresh (zK _);refine ⟨.ref s1.heap.objs.size,upd H1 s1.heap.objs.size (.lst xs),I1.laid (t':=s1.toks) (λb u e=>zQ _ e) (zK _) ?_,rfl,q _ hf⟩;exact ⟨z,us,0,r,zy _ rfl⟩
end
abbrev Sp:=List V->Hp->VK->XK->Prop
abbrev CXT:=List Env->Hp->Shared->XK->Value->Shared->Prop
structure Env0 (P:Program) (w:World) (K:PySem.W.Frag) (mg:Str->Option Value) (base:Heap) (A:Around) (outer:List Env) (s:Shared) (H:Hp):Prop where
 frames:A.frames=some outer
 mod:Mod K mg base
 bs:∀b o,base.get? b=some o->s.heap.get? b=some o/\H b=none
 bsz:base.objs.size<=s.heap.objs.size
 funs:s.heap.FunFrames base outer
 frf:∀b∈frs outer,H b=none
 hok:HOk P w H s.heap
 bare:AllBare s.gens
noncomputable def CE (outer:List Env) (P:Program) (w:World) (H:Hp) (s:Shared) (Q:VK) (u:Value) (s':Shared):Prop:=
 ∃v H',s'.os=s.os/\AllBare s'.gens/\Un (frs outer) [] H H' s.heap s'.heap/\HOk P w H' s'.heap/\RelV v u/\Q v H'
noncomputable def CR (CX:CXT) (outer:List Env) (P:Program) (w:World) (H:Hp) (s:Shared) (Q:VK) (E:XK) (r:Result) (s':Shared):Prop:=
 match r with
 | .ok (.ret u)=>CE outer P w H s Q u s'
 | .ok _=>False
 | .error e=>CX outer H s E e s'
structure FnOk (P:Program) (w:World) (K:PySem.W.Frag) (mg:Str->Option Value) (base:Heap) (CX:CXT) (k:Nat) (f:Addr) (fd:FuncData) (ps:List Str) (sp:Sp):Prop where
 len:∀vs H Q E,sp vs H Q E->vs.length=ps.length
 run:∀(A:Around) (outer:List Env) (s:Shared) (H:Hp) (args:Args) (us:List Value) (vs:List V) (Q:VK) (E:XK),Room k A->Env0 P w K mg base A outer s H->BindsTo s fd args (ps.zip us)->Vals vs us->sp vs H Q E->
  codeAny (model P w) A (.call (.ref f) args) (CR CX outer P w H s Q E) s
theorem Env0.make {outer:List Env} (e:Env0 P w K mg base A outer s H) (C:Addr) (us:List Value) (kw:List (Str×Value)):
  Env0 P w K mg base (A.under (.builtin "type.__call__" ⟨.ref C::us,kw⟩)) outer s H:=⟨by first | exact e.frames | (simpa [Around.under,Code.envs,Code.isFrame,pushEnvs] using e.frames),e.mod,e.bs,e.bsz,e.funs,e.frf,e.hok,e.bare⟩
section
variable {X:Cx} {pins:List (Addr×Obj)} {σ:St} {H:Hp} {s s':Shared}
theorem Inv.env0 (I:Inv X pins σ H s):Env0 X.prog X.w X.K X.mg X.base X.A X.stack s H:=
 ⟨I.ok.frames,I.ok.mod,I.bs,z5 I.ok.bsz I.sz,I.stack,I.ZGI,I.hok,I.bare⟩
theorem Inv.after {Q:VK} (I:Inv X pins σ H s) (h:CE X.stack X.prog X.w H s Q u s'):EP X pins σ Q u s':=by obtain ⟨v,H',os,bare,un,hok,r,q⟩:=h;obtain ⟨hh,g,d,t,os'⟩:=s';obtain rfl:os'=s.os:=os;exact ⟨v,H',I.call (h':=hh) (g':=g) (d':=d) (t':=t) (ch:= []) un hok bare (λb z=>absurd z (by simp)),r,q⟩
end
def ZQA (sp:Sp) (dvs:List V) (E:XK) (t:TA):TE:=λσ H Q=>t σ H λvs H1=>sp (vs++dvs) H1 Q E
noncomputable def ZCN (C:Addr) (m:Str) (sp:Sp) (dvs:List V) (E:XK) (ta:TE) (t:TA):TE:=λσ H Q=>ta σ H λx H1=>∃a dx fs,x=.ref a/\H1 a=some (.ins C dx fs)/\fs.lookup m=none/\
 t σ H1 λvs H2=>sp (x::(vs++dvs)) H2 Q E
noncomputable def ZJK (C:Addr) (sp:Sp) (dvs:List V) (E:XK) (t:TA):TE:=λσ H Q=>t σ H λvs H1=>∀x dx,H1 x=none->H1 dx=none->dx≠x->
 sp (.ref x::(vs++dvs)) (upd (upd H1 dx (.own x)) x (.ins C dx [])) (λv H2=>v=.non/\Q (.ref x) H2) E
noncomputable def Binds (K:PySem.W.Frag) (fd:FuncData) (ps:List Str) (ds:List Value):Prop:=
 ∀(s:Shared) (us:List Value),K.In s.heap->(us++ds).length=ps.length->BindsTo s fd ⟨us,[]⟩ (ps.zip (us++ds))
theorem Binds.all {fd:FuncData} {ps:List Str} (h:∀us:List Value,us.length=ps.length->bindArgs fd ⟨us,[]⟩=pure (ps.zip us)):Binds K fd ps []:=λs us _ hl=>by rw [qR] at hl ⊢;exact .of_eq (h us hl)
noncomputable def Passes (CX:CXT) (X:Cx) (E:XK):Prop:=∀(pins:List (Addr×Obj)) (σ:St) (H:Hp) (s:Shared) (e:Value) (s':Shared),Inv X pins σ H s->CX X.stack H s E e s'->X.xe e s'
section
variable {X:Cx} {CX:CXT} {k:Nat} {f C:Addr} {fd:FuncData} {ps:List Str} {sp:Sp} {dvs:List V} {ds:List Value} {E:XK} {x m:Str} {p pos apos:Pos} {e o:Expr} {es:List Expr} {ta:TE} {t:TA}
theorem ZC4 {Q:VK} (F:FnOk X.prog X.w X.K X.mg X.base CX k f fd ps sp) (hr:Room k X.A) (hb:Binds X.K fd ps ds) (hd:Vals dvs ds) (hx:Passes CX X E)
  (I:Inv X pins σ H s) (r:Vals vs us) (h:sp (vs++dvs) H Q E):wpAny (model X.prog X.w) X.A (call (.ref f) us) (EP X pins σ Q) X.xe s:=by
 have r2:Vals (vs++dvs) (us++ds):=r.append hd;have hl:(us++ds).length=ps.length:=by rw [<-r2.length];exact F.len _ _ _ _ h
 refine wpAny_call (codeAny_mono (F.run X.A X.stack s H ⟨us,[]⟩ (us++ds) (vs++dvs) Q E hr I.env0 (hb s us I.kIn hl) r2 h) λr s' hq=> ?_);cases r with
 | error e=>exact hx pins σ H s e s' I hq
 | ok fl=>
  cases fl with
  | ret u=>exact I.after hq
  | next=>exact False.elim hq
  | brk=>exact False.elim hq
  | cont=>exact False.elim hq
theorem ZI6 (F:FnOk X.prog X.w X.K X.mg X.base CX k f fd ps sp) (hr:Room k X.A) (hg:Gl X x) (hm:X.mg x=some (.ref f)) (hk:PySem.W.keepIn X.K (.ref f)=true) (hb:Binds X.K fd ps ds) (hd:Vals dvs ds) (hx:Passes CX X E)
  (ha:PA X (e::es) t) (hdb:(x == ("__debug__":Str))=false:=by decide) (he:starEach (e::es) X.env=(false,eval e X.env)::starEach es X.env:=by rfl) (hpl:(backTo pos (starEach es X.env)).any (·.1)=false:=by rfl):
  PE X (.Call (.Name x p) (e::es) [] pos) (ZQA sp dvs E t):=by
 intro pins s σ H Q I h;refine wpAny_Call_Name_kw (Zo I hg hm ?_ hdb);refine PySem.W.callWith_K (h₀:=X.base) I.ok.mod.kin hk (thn (ha pos pins s σ H _ I h) λus s1 ⟨vs,H1,I1,r,q⟩=>⟨I1.kIn,?_⟩) he hpl;exact ZC4 F hr hb hd hx I1 r q
theorem ZNk {pl:Sem Bool} (he:PE X o ta) (c:Cls X.K C) (hm:Meth X.K C m f) (F:FnOk X.prog X.w X.K X.mg X.base CX k f fd ps sp) (hr:Room k X.A) (hb:Binds X.K fd ps ds) (hd:Vals dvs ds) (hx:Passes CX X E) (ha:PA X (e::es) t)
  (hst:starEach (e::es) X.env=(false,eval e X.env)::starEach es X.env:=by rfl) (hpl:(backTo pos (starEach es X.env)).any (·.1)=false:=by rfl)
  (ht:eval (.Call (.Attribute o m apos) (e::es) [] pos) X.env=(do
   let ov<-eval o X.env
   standAt apos.atName
   let (f,first)<-holding [ov] (getMethod ov m pl)
   callWith pos f first (backTo pos (starEach (e::es) X.env)) (backToKw pos (keywordEach [] X.env))):=by rfl):
  PE X (.Call (.Attribute o m apos) (e::es) [] pos) (ZCN C m sp dvs E ta t):=by
 intro pins s σ H Q I h;refine PySem.W.methodCall_KW (pl:=pl) (thn (he pins s σ H _ I h) λu s1 ⟨x,H1,I1,rx,a,dx,fs,ex,ea,l,q⟩=> ?_) ht;subst ex;obtain rfl:u=Value.ref a:=rx;refine ZBF I1 ea c hm l ?_
 refine PySem.W.callWith_K (first:= [.ref a]) (h₀:=X.base) I.ok.mod.kin hm.kp (thn (ha pos pins s1 σ H1 _ I1 q) λus s2 ⟨vs,H2,I2,r,q2⟩=>⟨I2.kIn,?_⟩) hst hpl
 exact ZC4 (us:=.ref a::us) (vs:=.ref a::vs) F hr hb hd hx I2 (.cons rfl r) q2
theorem ZKw {pl:Sem Bool} (he:PE X o ta) (c:Cls X.K C) (hm:Meth X.K C m f) (F:FnOk X.prog X.w X.K X.mg X.base CX k f fd ps sp) (hr:Room k X.A) (hb:Binds X.K fd ps ds) (hd:Vals dvs ds) (hx:Passes CX X E)
  (ht:eval (.Call (.Attribute o m apos) [] [] pos) X.env=(do
   let ov<-eval o X.env
   standAt apos.atName
   let (f,first)<-holding [ov] (getMethod ov m pl)
   callWith pos f first (backTo pos (starEach [] X.env)) (backToKw pos (keywordEach [] X.env))):=by rfl):
  PE X (.Call (.Attribute o m apos) [] [] pos) (ZCN C m sp dvs E ta Wa):=by
 intro pins s σ H Q I h;refine PySem.W.methodCall_KW (pl:=pl) (thn (he pins s σ H _ I h) λu s1 ⟨x,H1,I1,rx,a,dx,fs,ex,ea,l,q⟩=> ?_) ht;subst ex;obtain rfl:u=Value.ref a:=rx;refine ZBF I1 ea c hm l ?_
 exact PySem.W.callWith_K0 (first:= [.ref a]) I1.kIn hm.kp (ZC4 (us:= [.ref a]) (vs:= [.ref a]) F hr hb hd hx I1 (.cons rfl .nil) q)
structure Mk (K:PySem.W.Frag) (C f:Addr):Prop where
 makes:PySem.W.makesIn K C=true
 init:PySem.W.findIn K (.ref C) "__init__"=some (some (.ref f))
 fn:PySem.W.isFn K (.ref f)=true
 kp:PySem.W.keepIn K (.ref C)=true
theorem ZJf {Q:VK} (M:Mk X.K C f) (F:FnOk X.prog X.w X.K X.mg X.base CX k f fd ps sp) (hr:Room (k + 1) X.A) (hb:Binds X.K fd ps ds) (hd:Vals dvs ds)
  (hx:Passes CX X E) (I:Inv X pins σ H s) (r:Vals vs us)
  (h:∀x dx,H x=none->H dx=none->dx≠x->sp (.ref x::(vs++dvs)) (upd (upd H dx (.own x)) x (.ins C dx [])) (λv H2=>v=.non/\Q (.ref x) H2) E):
  wpAny (model X.prog X.w) X.A (call (.ref C) us) (EP X pins σ Q) X.xe s:=by
 have hq:=h (s.heap.objs.size + 1) s.heap.objs.size (I.hok.fresh (jv _)) (I.hok.fresh (zK _)) (zB (qK _));have I2:=Inv.made (C:=C) I;have r2:Vals (V.ref (s.heap.objs.size + 1)::(vs++dvs)) (Value.ref (s.heap.objs.size + 1)::(us++ds)):=.cons rfl (r.append hd);have hl:(Value.ref (s.heap.objs.size + 1)::us++ds).length=ps.length:=by have e:=r2.length;rw [F.len _ _ _ _ hq] at e;exact e.symm
 refine wpAny_call (ZN3 (f:=f) I.kIn M.makes M.init (beq_iff_eq.mp M.fn) (codeAny_mono (F.run _ X.stack _ _ ⟨Value.ref (s.heap.objs.size + 1)::us,[]⟩ (Value.ref (s.heap.objs.size + 1)::(us++ds)) _ _ E (hr.make C us [])
  (I2.env0.make C us []) (hb _ (Value.ref (s.heap.objs.size + 1)::us) I2.kIn hl) r2 hq) λr s' hq'=> ?_))
 cases r with
 | error e=>exact hx pins σ _ _ e s' I2 hq'
 | ok fl=>
  cases fl with
  | ret u=>
   obtain ⟨v,H',I3,rv,ev,q3⟩:=I2.after hq';subst ev;exact ⟨rv,⟨V.ref (s.heap.objs.size + 1),H',I3,rfl,q3⟩⟩
  | next=>exact False.elim hq'
  | brk=>exact False.elim hq'
  | cont=>exact False.elim hq'
theorem ZPJ (M:Mk X.K C f) (F:FnOk X.prog X.w X.K X.mg X.base CX k f fd ps sp) (hr:Room (k + 1) X.A) (hg:Gl X x) (hm:X.mg x=some (.ref C)) (hb:Binds X.K fd ps ds) (hd:Vals dvs ds) (hx:Passes CX X E)
  (ha:PA X (e::es) t) (hdb:(x == ("__debug__":Str))=false:=by decide) (he:starEach (e::es) X.env=(false,eval e X.env)::starEach es X.env:=by rfl) (hpl:(backTo pos (starEach es X.env)).any (·.1)=false:=by rfl):
  PE X (.Call (.Name x p) (e::es) [] pos) (ZJK C sp dvs E t):=by
 intro pins s σ H Q I h;refine wpAny_Call_Name_kw (Zo I hg hm ?_ hdb);refine PySem.W.callWith_K (h₀:=X.base) I.ok.mod.kin M.kp (thn (ha pos pins s σ H _ I h) λus s1 ⟨vs,H1,I1,r,q⟩=>⟨I1.kIn,?_⟩) he hpl;exact ZJf M F hr hb hd hx I1 r q
end
noncomputable def PK (X:Cx) (kws:List Keyword) (t:TA):Prop:=
 ∀(pos:Pos) (pins:List (Addr×Obj)) (s:Shared) (σ:St) (H:Hp) (Q:List V->Hp->Prop),Inv X pins σ H s->t σ H Q->wpAny (model X.prog X.w) X.A (evalAll ((backToKw pos (keywordEach kws X.env)).map (·.2))) (AP X pins σ Q) X.xe s
section
variable {X:Cx} {CX:CXT} {k:Nat} {f C:Addr} {fd:FuncData} {ps ks:List Str} {sp:Sp} {E:XK} {x m:Str} {p pos apos kpos:Pos} {e o:Expr} {es:List Expr} {kws:List Keyword} {te ta:TE} {t tk:TA} {nm:Option Str}
theorem ZJC:PK X [] Wa:=λ_ _ _ _ H Q I h=>wpAny_evalAll_nil ⟨[],H,I,.nil,h⟩
theorem ZPE (ha:PE X e te) (hr:PK X kws t):PK X (⟨nm,e,kpos⟩::kws) (ZA0 te t):=by
 intro pos pins s σ H Q I h
 show wpAny _ _ (evalAll ((do let v<-eval e X.env;standAt pos;pure v)::(backToKw pos (keywordEach kws X.env)).map (·.2))) _ _ s
 refine wpAny_evalAll_cons (wpAny_bind (thn (ha pins s σ H _ I h) λu s1 ⟨x,H1,I1,r1,q1⟩=>wpAny_bind (wpAny_standAt (wpAny_pure ?_))));exact thn (hr pos pins s1 σ H1 _ I1 q1) λus s2 ⟨xs,H2,I2,r2,q2⟩=>⟨x::xs,H2,I2,.cons r1 r2,q2⟩
variable {g:List Value->List Value->List Value} {gV:List V->List V->List V}
end
structure FnScope (N P:List Str) (sc:Scope):Prop where
 kind:sc.kind=.function
 co:sc.isCoroutine=false
 gen:sc.isGenerator=false
 nd:N.Nodup
 pre:N.take P.length=P
 par:∀x∈P,sc.names.lookup x=some .local∨sc.names.lookup x=some .cell
 nofree:∀y∈sc.names,y.2≠ .free
theorem ZHX:∀{binds:List (Str×Value)} {m:Str->Option Value},(∀v,(x,v) ∉ binds)->bindL kindOf binds m x=m x
 | [],_,_=>rfl
 | (n,v)::r,m,h=>by
  unfold bindL;rw [ZHX λw hw=>h w (zJ _ hw)];split
  ·have:x≠n:=by rintro rfl;exact h v zW
   simp [this]
  ·rfl
theorem ZFg:∀{binds:List (Str×Value)} {m:Str->Option Value},(∀v,(x,v) ∉ binds)->bindC kindOf binds m x=m x
 | [],_,_=>rfl
 | (n,v)::r,m,h=>by
  unfold bindC;rw [ZFg λw hw=>h w (zJ _ hw)];split
  ·rfl
  ·have:x≠n:=by rintro rfl;exact h v zW
   simp [this]
theorem ZFz {v:Value}:∀{P:List Str} {vs:List Value} {i:Nat} {m:Str->Option Value},P.Nodup->P[i]? =some x->vs[i]? =some v->kindOf x=some .local->
  bindL kindOf (P.zip vs) m x=some v
 | [],_,_,_,_,h,_,_=>by simp at h
 | _::_,[],_,_,_,_,h,_=>by simp at h
 | p::P,w::vs,0,m,nd,h1,h2,hk=>by simp at h1 h2;subst h1;subst h2;show bindL kindOf ((p,w)::P.zip vs) m p=_;unfold bindL;rw [ZHX λv hv=>(q9.mp nd).1 (List.of_mem_zip hv).1,if_pos hk];simp
 | p::P,w::vs,i + 1,m,nd,h1,h2,hk=>by show bindL kindOf ((p,w)::P.zip vs) m x=_;unfold bindL;exact ZFz (i:=i) (q9.mp nd).2 (by simpa using h1) (by simpa using h2) hk
theorem ZGm {v:Value}:∀{P:List Str} {vs:List Value} {i:Nat} {m:Str->Option Value},P.Nodup->P[i]? =some x->vs[i]? =some v->kindOf x≠some .local->
  bindC kindOf (P.zip vs) m x=some v
 | [],_,_,_,_,h,_,_=>by simp at h
 | _::_,[],_,_,_,_,h,_=>by simp at h
 | p::P,w::vs,0,m,nd,h1,h2,hk=>by simp at h1 h2;subst h1;subst h2;show bindC kindOf ((p,w)::P.zip vs) m p=_;unfold bindC;rw [ZFg λv hv=>(q9.mp nd).1 (List.of_mem_zip hv).1,if_neg hk];simp
 | p::P,w::vs,i + 1,m,nd,h1,h2,hk=>by show bindC kindOf ((p,w)::P.zip vs) m x=_;unfold bindC;exact ZGm (i:=i) (q9.mp nd).2 (by simpa using h1) (by simpa using h2) hk
def start (N:List Str) (vs:List V):St:=vs.map some++zV (N.length - vs.length) none
noncomputable def Nv (CX:CXT) (P:Program) (w:World) (K:PySem.W.Frag) (mg:Str->Option Value) (base:Heap) (N:List Str) (qual:Str) (scope:Scope) (f:Addr) (cd:Value) (A:Around) (outer:List Env) (s:Shared) (H:Hp) (E:XK):Cx where
 prog:=P
 w:=w
 K:=K
 mg:=mg
 base:=base
 A:=A.deeper (envOfC qual scope s.heap.objs.size f cd)
 N:=N
 s₀:=s
 H₀:=H
 env:=envOfC qual scope s.heap.objs.size f cd
 outer:=outer
 stack:=envOfC qual scope s.heap.objs.size f cd::outer
 ex:= []
 calm:=true
 fn:=λ_=>true
 pn:= []
 xe:=λe s'=>wpAny (model P w) (A.deeper (envOfC qual scope s.heap.objs.size f cd)) (leaving (envOfC qual scope s.heap.objs.size f cd) e) (λ_ s''=>CX outer H s E e s'') (λe' s''=>CX outer H s E e' s'') s'
theorem ZDh {sc:Scope} {n:Nat} (h:sc.names.lookup x=some .cell):∃c,(cellsFrom n sc.names []).lookup x=some c:=by have q:=PySem.W.cellsFrom_some sc.names n [] (.inl h);exact jX.mp q
theorem ZJk {CX:CXT} {N ps:List Str} {qual:Str} {scope:Scope} {f:Addr} {cd:Value} {outer:List Env} {s1:Shared} {E:XK} 
  (S:FnScope N ps scope) (hd:A.handled=none) (e0:Env0 P w K mg base A outer s H) (hl:vs.length=ps.length) (r:Vals vs us)
  (x:InCallC s s.heap.objs.size (bindL (envOfC qual scope s.heap.objs.size f cd).kindOf (ps.zip us) λ_=>none) (cellsFrom (s.heap.objs.size + 1) scope.names []) (bindC (envOfC qual scope s.heap.objs.size f cd).kindOf (ps.zip us) λ_=>none) s1):
  Inv (Nv CX P w K mg base N qual scope f cd A outer s H E) [] (start N vs) H s1:=by
 have hpl:ps.length<=N.length:=by have:=congrArg List.length S.pre;rw [j0] at this;lia
 obtain ⟨h1,tk,rfl,hk⟩:=x.done
 have noA:∀b:Addr,b ∉ (Nv CX P w K mg base N qual scope f cd A outer s H E).ex:=λb z=>absurd (show b∈([]:List Addr) from z) (by simp)
 refine ⟨⟨e0.mod,S.kind,rfl,rfl,zK _,λy z c h1 h2=> ?_,λy hy=> ?_,λy c _ h=> ?_,λ_=>hd,Around.frames_deeper e0.frames,.inr ⟨rfl,rfl⟩,λb z=>absurd z (noA b),e0.bs,e0.bsz,λb _ _=>noA b,λb z=>absurd z (noA b),e0.funs,e0.frf⟩,
  rfl,e0.bare,Un.kept hk,⟨_,x.toInCall.ns,λi y v h1 h2 h3=> ?_⟩,λy c h=>⟨_,x.cell y c h⟩,e0.hok.fresh (zK _),λy c h=> ?_,λp hp=>absurd (show p∈([]:List (Addr×Obj)) from hp) (by simp),e0.hok.kept hk,?_⟩
 ·exact name_of_addr x.apart (PySem.mem_of_lookup h1) (PySem.mem_of_lookup h2)
 ·have hy:scope.names.lookup y=some .cell∨scope.names.lookup y=some .free:=hy;rcases hy with hy | hy
  ·exact ZDh hy
  ·exact absurd rfl (S.nofree _ (PySem.mem_of_lookup hy))
 ·exact Nat.le_of_lt (x.above y c (PySem.mem_of_lookup h))
 ·have hi:i < vs.length:=by
   unfold start at h2;by_cases hi:i < vs.length
   ·exact hi
   ·rw [zG (by simpa using hi)] at h2;rw [qI] at h2
    split at h2 <;> cases h2
  have ha:vs[i]? =some v:=by
   unfold start at h2;rw [zP (by simpa using hi),zj] at h2;cases e:vs[i]? with
   | none=>rw [e] at h2;cases h2
   | some a=>rw [e] at h2;cases h2;rfl
  obtain ⟨u,hu,rv⟩:=r.get ha;have hp:ps[i]? =some y:=by rw [<-S.pre,jV (by lia)];exact h1
  have ndP:ps.Nodup:=by rw [<-S.pre];exact S.nd.sublist (List.take_sublist _ _)
  refine ⟨u,rv,?_⟩;rcases S.par y (List.mem_of_getElem? hp) with k | k
  ·exact .inl ⟨k,ZFz ndP hp hu k⟩
  ·obtain ⟨c,e⟩:=ZDh (n:=s.heap.objs.size + 1) k;refine .inr ⟨.inl k,c,e,?_⟩;have q:=x.cell y c e;rw [ZGm ndP hp hu (by show scope.names.lookup y≠_;rw [k];decide)] at q;exact q
 ·exact e0.hok.fresh (Nat.le_of_lt (x.above y c (PySem.mem_of_lookup h)))
 ·unfold start;show _=N.length;rw [qX,zT,jB];lia
theorem ZPS {CX:CXT} {f:Addr} {name qual:Str} {params:Arguments} {scope:Scope} {dV kV doc pm cdv ct oc:Value} {an od:Option Addr}
  {osl:Array (Option Value)} {N ps:List Str} {sp:Sp} (lk:K.lookup f=some ⟨oc,od,.func (PySem.W.fnOf name qual params body scope dV kV doc pm an cdv ct),osl⟩) (hcd:PySem.W.codeIn K cdv qual=true) (S:FnScope N ps scope)
  (len:∀vs H Q E,sp vs H Q E->vs.length=ps.length)
  (hbody:∀(A:Around) (outer:List Env) (s:Shared) (H:Hp) (vs:List V) (Q:VK) (E:XK),Room k (A.deeper (envOfC qual scope s.heap.objs.size f cdv))->sp vs H Q E->
   ∃t,PSs (Nv CX P w K mg base N qual scope f cdv A outer s H E) body t/\t {nx:=λ_ H'=>Q .non H',rt:=Q} (start N vs) H):
  FnOk P w K mg base CX (k + 1) f (PySem.W.fnOf name qual params body scope dV kV doc pm an cdv ct) ps sp:=by
 refine ⟨len,λA outer s H args us vs Q E hr e0 hb r hsp=> ?_⟩;have hl:=len _ _ _ _ hsp;have KX:K.In s.heap:=e0.mod.kin.keeps λb o e=>(e0.bs b o e).1
 have lim:s.heap.NoLimit:=e0.mod.nolimit.keeps λb o e=>(e0.bs b o e).1
 have hkind:∀y∈ps.zip us,scope.names.lookup y.1=some .local∨(scope.names.lookup y.1=some .cell/\((cellsFrom (s.heap.objs.size + 1) scope.names []).lookup y.1).isSome=true):=λ⟨n,v⟩ hy=>by
  rcases S.par n (List.of_mem_zip hy).1 with q | q
  ·exact .inl q
  ·exact .inr ⟨q,PySem.W.cellsFrom_some _ _ _ (.inl q)⟩
 refine codeAny_call_function hr.depth (KX _ _ lk) rfl S.co S.gen rfl (PySem.W.codeRec_of KX hcd) (hb _ _ _ _ ?_);refine wpAny_newFunctionEnv_cells S.kind hkind λenv he s1 x=> ?_
 subst he;refine ⟨lim.keeps x.toInCall.keep,codeAny_func ?_⟩;obtain ⟨t,ht,hq⟩:=hbody A outer s H vs Q E (hr.deeper _) hsp;have I:Inv (Nv CX P w K mg base N qual scope f cdv A outer s H E) [] (start N vs) H s1:=ZJk S hr.hd e0 hl r x;refine wpAny_mono (ht [] s1 (start N vs) H _ I hq) (λfl s' hs=> ?_) λe s' hs=>hs
 have fin:∀{σ':St} {H':Hp} {v:V} {u:Value},Inv (Nv CX P w K mg base N qual scope f cdv A outer s H E) [] σ' H' s'->RelV v u->Q v H'->CE outer P w H s Q u s':=
  λ{σ' H' v u} J rv q=>⟨v,H',J.os,J.bare,J.base,J.hok,rv,q⟩
 cases fl with
 | ret u=>
  obtain ⟨v,σ',H',J,rv,q⟩:=hs;exact fin J rv q
 | next=>
  obtain ⟨σ',H',J,q⟩:=hs;exact fin (v:=V.non) (u:=Value.none) J rfl q
 | brk=>
  obtain ⟨_,_,_,q⟩:=hs;exact False.elim q
 | cont=>
  obtain ⟨_,_,_,q⟩:=hs;exact False.elim q
section
variable {X:Cx} {x:Str} {p pos:Pos} {e:Expr} {es:List Expr} {t:TA} {id T:String} {r:List V->Hp->VK->Prop}
def tCB (r:List V->Hp->VK->Prop) (t:TA):TE:=λσ H Q=>t σ H λvs H1=>r vs H1 Q
theorem ZKp (hc:CallR X (.builtin id) r) (hg:Gl X x) (hm:X.mg x=none) (hv:bootBuiltins x=some (.builtin id)) (ha:PA X (e::es) t) (hn:x≠"__name__":=by decide) (hdb:(x == ("__debug__":Str))=false:=by decide)
  (he:starEach (e::es) X.env=(false,eval e X.env)::starEach es X.env:=by rfl) (hpl:(backTo pos (starEach es X.env)).any (·.1)=false:=by rfl):PE X (.Call (.Name x p) (e::es) [] pos) (tCB r t):=by
 intro pins s σ H Q I h;refine wpAny_Call_Name_kw (Jb I hg hm hv ?_ hn hdb);exact PyProof.Rows.callWith_builtin1 (thn (ha pos pins s σ H _ I h) λus s1 ⟨vs,H1,I1,r1,q1⟩=>hc pins s1 σ H1 vs us Q I1 r1 q1) he hpl
theorem ZLo (hc:CallR X (.type T) r) (hg:Gl X x) (hm:X.mg x=none) (hv:bootBuiltins x=some (.type T)) (ha:PA X (e::es) t) (hn:x≠"__name__":=by decide) (hdb:(x == ("__debug__":Str))=false:=by decide)
  (he:starEach (e::es) X.env=(false,eval e X.env)::starEach es X.env:=by rfl) (hpl:(backTo pos (starEach es X.env)).any (·.1)=false:=by rfl):PE X (.Call (.Name x p) (e::es) [] pos) (tCB r t):=by
 intro pins s σ H Q I h;refine wpAny_Call_Name_kw (Jb I hg hm hv ?_ hn hdb);exact PyProof.Rows.callWith_type1 (thn (ha pos pins s σ H _ I h) λus s1 ⟨vs,H1,I1,r1,q1⟩=>hc pins s1 σ H1 vs us Q I1 r1 q1) he hpl
end
end L2
namespace HT
open PySem PyProof.Rows
section
open PySem.SeqAt
open PySem.AutoSeq1 (wpAny_loadPart')
open PySem.MeetsSeq PySem.MeetsSeq2 PySem.MeetsSeq3
end
section
variable {prog:Program} {w:World} {A:Around} {E:Value->Shared->Prop} {s:Shared}
theorem ZON {t b:Addr} {vs ws:List Value} {Q:Value->Shared->Prop} (ht:IsTup s.heap t vs.toArray) (hb:IsTup s.heap b ws.toArray) (hv:vs≠ [])
  (h1:ws= []->Q (.ref t) s) (h2:ws≠ []->Q (.ref s.heap.objs.size) {s with heap:=s.heap.push {cls:=.type "tuple",data:=.seq (vs++ws).toArray}})
  (hsz:vs.length + ws.length<=sizeLine):wpAny (model prog w) A (binaryOp .Add (.ref t) (.ref b)) Q E s:=by
 obtain ⟨⟨cls,dd,data,sl⟩,ho,hc,n,hd⟩:=id ht;obtain ⟨⟨cls2,dd2,data2,sl2⟩,ho2,hc2,n2,hd2⟩:=id hb;simp only at hc hd hc2 hd2;subst hc hd hc2 hd2;have e:vs.toArray++ws.toArray=(vs++ws).toArray:=by simp
 by_cases hw:ws= []
 ·exact concat_meets ⟨_,ho,rfl⟩ ⟨_,ho2,rfl⟩ noFill_tuple_add seq_tuple_add PySem.F.slot_tuple_add PySem.F.entry_tuple_add (PySem.F.args_tuple_add_2 _ _)
   (tuple_addW1 t b vs.toArray ws.toArray n n2 dd dd2 sl sl2 (by simpa using hv) (by simp [hw])) ⟨ho,ho2,h1 hw⟩
 ·refine concat_meets ⟨_,ho,rfl⟩ ⟨_,ho2,rfl⟩ noFill_tuple_add seq_tuple_add PySem.F.slot_tuple_add PySem.F.entry_tuple_add (PySem.F.args_tuple_add_2 _ _)
   (tuple_addW2 t b vs.toArray ws.toArray n n2 dd dd2 sl sl2 (by simpa using hv) (by simpa using hw) (by rw [zY,zY];exact hsz)) ⟨ho,ho2,?_⟩
  rw [e];exact h2 hw
noncomputable def sIx (n d:Nat):Option Int->Nat
 | none=>d
 | some v=>if v < 0 then (v + (n:Int)).toNat else min v.toNat n
theorem ZF6 (n d:Nat) (hd:d<=n) (o:Option Int):sIx n d o<=n:=by
 cases o with
 | none=>exact hd
 | some v=>
  show (if v < 0 then (v + (n:Int)).toNat else min v.toNat n)<=n;by_cases hv:v < 0
  ·rw [if_pos hv];lia
  ·rw [if_neg hv];exact Nat.min_le_right _ _
theorem ZGv (v:Int) (n d:Nat):(if v < 0 then max (v + (n:Int)) 0 else min v (n:Int))=((sIx n d (some v):Nat):Int):=by
 show (if v < 0 then max (v + (n:Int)) 0 else min v (n:Int))=(((if v < 0 then (v + (n:Int)).toNat else min v.toNat n):Nat):Int);by_cases hv:v < 0
 ·simp only [if_pos hv];lia
 ·simp only [if_neg hv];lia
theorem ZJH (lo hi:Option Int) (n:Nat):Builtin.Slice.sliceAdjust lo hi 1 (n:Int)=(((sIx n 0 lo:Nat):Int),((sIx n n hi:Nat):Int)):=by
 have h1:¬((1:Int) < 0):=by lia
 unfold Builtin.Slice.sliceAdjust;simp only [h1,if_false];refine Prod.ext ?_ ?_
 ·cases lo with
  | none=>rfl
  | some v=>exact ZGv v n 0
 ·cases hi with
  | none=>rfl
  | some v=>exact ZGv v n n
theorem ZLD (i j:Nat):Builtin.Slice.slicePlaces (i:Int) (j:Int) 1=j - i:=by
 unfold Builtin.Slice.slicePlaces;have h1:(1:Int) > 0:=by lia
 simp only [h1,if_true,Int.ediv_one]
 split <;> lia
theorem ZHy {v:Value} {o:Option Int} {Q:Option Int->Shared->Prop} (p:IsPart v o) (h:Q o s):wpAny (model prog w) A (Builtin.Slice.slicePartIndex v) Q E s:=by
 cases p with
 | none=>exact slicePart_none h
 | int i t=>exact slicePart_int h
theorem ZEv {sl:Addr} {vl vu:Value} {lo hi:Option Int} {n:Nat} {Q:Int×Int×Nat->Shared->Prop} (hs:s.heap.IsSliceOf sl vl vu .none) (pl:IsPart vl lo) (pu:IsPart vu hi)
  (h:Q (((sIx n 0 lo:Nat):Int),1,sIx n n hi - sIx n 0 lo) s):wpAny (model prog w) A (Builtin.Slice.sliceApplied (.ref sl) (pure (n:Int))) Q E s:=by
 obtain ⟨os,hos,hcs,hds⟩:=id hs;unfold Builtin.Slice.sliceApplied Builtin.Slice.sliceFields;refine wpAny_bind (wpAny_bind (wpAny_field hos hds (x:=vl) rfl (wpAny_bind (wpAny_field hos hds (x:=vu) rfl (wpAny_bind (wpAny_field hos hds (x:=.none) rfl (wpAny_pure ?_)))))));refine wpAny_bind (slicePart_none ?_);show wpAny _ _ (if ((1:Int) == 0)=true then _ else _) _ _ s;rw [if_neg (by decide)];refine wpAny_bind (ZHy pl (wpAny_bind (ZHy pu (wpAny_bind (wpAny_pure ?_)))))
 show wpAny _ _ (match Builtin.Slice.sliceAdjust lo hi 1 (n:Int) with | (lo,hi)=>pure (lo,(1:Int),Builtin.Slice.slicePlaces lo hi 1)) _ _ s
 rw [ZJH lo hi n];show wpAny _ _ (pure (((sIx n 0 lo:Nat):Int),(1:Int),Builtin.Slice.slicePlaces ((sIx n 0 lo:Nat):Int) ((sIx n n hi:Nat):Int) 1)) _ _ s;rw [ZLD];exact wpAny_pure h
theorem ZMB (xs:Array Value) (i k:Nat):((zX k).filterMap λ(m:Nat)=>xs[((i:Int) + (m:Int) * 1).toNat]?).toArray=((xs.toList.drop i).take k).toArray:=by
 have e:(λ(m:Nat)=>xs[((i:Int) + (m:Int) * 1).toNat]?)=λm=>xs[i + m]? :=by
  funext m;have:((i:Int) + (m:Int) * 1).toNat=i + m:=by lia
  rw [this]
 rw [e];have:=pick_run xs i k;rw [qV] at this;have e2:((λx=>xs[x]?) ∘ λx=>i + x)=λm=>xs[i + m]? :=rfl
 rw [e2] at this;rw [this]
theorem ZLf {t sl:Addr} {items:Array Value} {vl vu:Value} {lo hi:Option Int} {Q:Value->Shared->Prop} (ht:IsTup s.heap t items) (hs:s.heap.IsSliceOf sl vl vu .none) (pl:IsPart vl lo) (pu:IsPart vu hi)
  (hw:¬(sIx items.size 0 lo=0/\sIx items.size items.size hi=items.size))
  (h:Q (.ref s.heap.objs.size) {s with heap:=s.heap.push {cls:=.type "tuple",data:=.seq ((items.toList.drop (sIx items.size 0 lo)).take (sIx items.size items.size hi - sIx items.size 0 lo)).toArray}})
  (hsz:items.size<=sizeLine):wpAny (model prog w) A (getItem (.ref t) (.ref sl)) Q E s:=by
 have htake:sizeOk (.seq ((items.toList.drop (sIx items.size 0 lo)).take (sIx items.size items.size hi - sIx items.size 0 lo)).toArray):=by show ((items.toList.drop (sIx items.size 0 lo)).take (sIx items.size items.size hi - sIx items.size 0 lo)).toArray.size<=sizeLine;rw [zY,j0,jC,qz];lia
 have hj:sIx items.size items.size hi<=items.size:=ZF6 _ _ (zK _) hi;obtain ⟨os,hos,hcs,hds⟩:=id hs;have hTs:s.TypeIs (.ref sl) "slice":=⟨os,hos,hcs⟩;unfold getItem
 try with_reducible refine wpAny_holding ?_
 first | refine wpAny_bind (wpAny_pure ?_) | skip
 refine wpAny_bind (wpAny_sequenceKey ht.typeIs (by decide) ?_);refine wpAny_bind (wpAny_callSpecial?_slot (name:=Str.ofString "__getitem__") ht.typeIs PyProof.Rows.slot_tuple_getitem
  (wpAny_call_entry PyProof.Rows.slot_tuple_getitem ht.typeIs entry_tuple_getitem ?_ (args_tuple_getitem _ _)))
 show wpAny _ _ (Builtin.Tuple.tupleItemsOf (.ref t) >>=_) _ _ s;refine wpAny_bind (tupleItemsOf_ ht ?_);refine wpAny_bind (wpAny_typeOf hTs ?_);rw [if_pos (by decide)];refine wpAny_bind (ZEv hs pl pu ?_);have hno:¬((((sIx items.size 0 lo:Nat):Int) == 0 && (1:Int) == 1 && (sIx items.size items.size hi - sIx items.size 0 lo) == items.size)=true):=by intro q;rw [zF,zF] at q;have q1:((sIx items.size 0 lo:Nat):Int)=0:=eq_of_beq q.1.1;have q2:sIx items.size items.size hi - sIx items.size 0 lo=items.size:=eq_of_beq q.2;exact hw ⟨by lia,by lia⟩
 show wpAny _ _ (if (((sIx items.size 0 lo:Nat):Int) == 0 && (1:Int) == 1 && (sIx items.size items.size hi - sIx items.size 0 lo) == items.size)=true then _ else _) _ _ s;rw [if_neg hno,ZMB]
 first
  | exact wpAny_bind (m:=Builtin.Tuple.tupleExact _) (wpAny_newObj_type (wpAny_pure ⟨_,rfl,wpAny_pure h⟩) htake)
  | exact wpAny_bind (m:=Builtin.Tuple.tupleExact _) (wpAny_newObj_type (wpAny_bind (wpAny_pure (wpAny_pure ⟨_,rfl,wpAny_pure h⟩))) htake)
  | exact wpAny_bind (wpAny_bind (m:=Builtin.Tuple.tupleExact _) (wpAny_newObj_type (wpAny_pure (wpAny_pure ⟨_,rfl,wpAny_pure h⟩)) htake))
  | exact wpAny_bind (wpAny_bind (m:=Builtin.Tuple.tupleExact _) (wpAny_newObj_type (wpAny_pure ⟨_,rfl,wpAny_pure h⟩) htake))
end
end HT
namespace L2
open PySem PySem.Spec PyProof.Rows
variable {xs:List V} {pins:List (Addr×Obj)} {σ:St} {H:Hp} {s:Shared} {its:List Value}
abbrev TO:=St->Hp->(Option Int->Hp->Prop)->Prop
noncomputable def PO (X:Cx) (e:Option Expr) (t:TO):Prop:=
 ∀(pins:List (Addr×Obj)) (s:Shared) (σ:St) (H:Hp) (Q:Option Int->Hp->Prop),Inv X pins σ H s->t σ H Q->
  wpAny (model X.prog X.w) X.A (evalPart e X.env) (λu s'=>∃o H',Inv X pins σ H' s'/\IsPart u o/\Q o H') X.xe s
def ZNd:TO:=λ_ H Q=>Q none H
def ZP0 (t:TE):TO:=λσ H Q=>t σ H λx H1=>∃i,x=.int i/\Q (some i) H1
section
variable {X:Cx} {e:Expr} {te:TE} {lo hi:Option Expr} {tl th:TO} {pos p2:Pos}
theorem ZJY:PO X none ZNd:=by intro pins s σ H Q I h;rw [evalPart_none];exact wpAny_pure ⟨none,H,I,.none,h⟩
theorem ZP2 (h:PE X e te):PO X (some e) (ZP0 te):=by
 intro pins s σ H Q I hw;rw [evalPart_some];refine thn (h pins s σ H _ I hw) λu s1 ⟨x,H1,I1,r1,q1⟩=> ?_
 obtain ⟨i,rfl,q⟩:=q1;obtain ⟨t,rfl⟩:=r1;exact ⟨some i,H1,I1,.int i t,q⟩
noncomputable def SlR (X:Cx) (r:V->Option Int->Option Int->Hp->VK->Prop):Prop:=
 ∀(pins:List (Addr×Obj)) (s:Shared) (σ:St) (H:Hp) (x:V) (v vl vu:Value) (lo hi:Option Int) (sl:Addr) (Q:VK),Inv X pins σ H s->RelV x v->s.heap.IsSliceOf sl vl vu .none->IsPart vl lo->IsPart vu hi->r x lo hi H Q->
  ∃T id,typeLookup (.type T) "__getitem__"=pure (some (.builtin id))/\s.TypeIs v T/\wpAny (model X.prog X.w) X.A (getItem v (.ref sl)) (EP X pins σ Q) X.xe s
theorem SlR.or {r r':V->Option Int->Option Int->Hp->VK->Prop} (h:SlR X r) (h':SlR X r'):SlR X (λx lo hi H Q=>r x lo hi H Q∨r' x lo hi H Q):=by
 intro pins s σ H x v vl vu lo hi sl Q I rx hs pl pu q;rcases q with q | q
 ·exact h pins s σ H x v vl vu lo hi sl Q I rx hs pl pu q
 ·exact h' pins s σ H x v vl vu lo hi sl Q I rx hs pl pu q
noncomputable def tSl (r:V->Option Int->Option Int->Hp->VK->Prop) (te:TE) (tl th:TO):TE:=λσ H Q=>te σ H λx H1=>tl σ H1 λl H2=>th σ H2 λu H3=>r x l u H3 Q
theorem ZOB {r:V->Option Int->Option Int->Hp->VK->Prop} (hr:SlR X r) (he:PE X e te) (hl:PO X lo tl) (hu:PO X hi th):PE X (.Subscript e (.Slice lo hi none p2) pos) (tSl r te tl th):=by
 intro pins s σ H Q I h;refine Subscript_ (thn (he pins s σ H _ I h) λv s1 ⟨x,H1,I1,r1,q1⟩=> ?_);refine wpAny_Slice (thn (hl pins s1 σ H1 _ I1 q1) λvl s2 ⟨l,H2,I2,pl,q2⟩=>thn (hu pins s2 σ H2 _ I2 q2) λvu s3 ⟨u,H3,I3,pu,q3⟩=> ?_);rw [evalPart_none];refine wpAny_pure ?_;have I4:Inv X pins σ H3 {s3 with heap:=s3.heap.push {cls:=.type "slice",data:=.fields #[vl,vu,.none]}}:=I3.kept (t':=s3.toks) λb ob q=>zQ _ q
 obtain ⟨T,id,hT,ht,hg⟩:=hr pins {s3 with heap:=s3.heap.push {cls:=.type "slice",data:=.fields #[vl,vu,.none]}} σ H3 x v vl vu l u s3.heap.objs.size Q I4 r1 (Heap.IsSliceOf.new ..) pl pu q3;show wpAny (model X.prog X.w) X.A (subscriptTail e (.Slice lo hi none p2) v (.ref s3.heap.objs.size)) (EP X pins σ Q) X.xe {s3 with heap:=s3.heap.push {cls:=.type "slice",data:=.fields #[vl,vu,.none]}}
 exact tail_any (ops:= [.ref s3.heap.objs.size,v]) ht hT hg (by with_unfolding_all rfl)
noncomputable def Lp (xs:List V) (lo hi:Option Int):List V:=(xs.drop (HT.sIx xs.length 0 lo)).take (HT.sIx xs.length xs.length hi - HT.sIx xs.length 0 lo)
theorem ZFh (xs:List V) (lo hi:Option Int):(Lp xs lo hi).length<=xs.length:=by unfold Lp;rw [j0,jC];lia
noncomputable def rSlT (K:PySem.W.Frag):V->Option Int->Option Int->Hp->VK->Prop:=λx lo hi H Q=>∃a xs,x=.ref a/\SqT K H a xs/\
 ¬(HT.sIx xs.length 0 lo=0/\HT.sIx xs.length xs.length hi=xs.length)/\∀p,H p=none->Q (.ref p) (upd H p (.tup (Lp xs lo hi)))
theorem ZLM:SlR X (rSlT X.K):=by
 intro pins s σ H x v vl vu lo hi sl Q I rx hs pl pu h;obtain ⟨a,xs,rfl,hx,hw,q⟩:=h;cases rx;obtain ⟨its,r,ht,hz⟩:=I.tuple hx;have hlen:its.toArray.size=xs.length:=by rw [zY];exact r.length.symm
 refine ⟨"tuple",_,PyProof.Rows.slot_tuple_getitem.lookup,ht.typeIs,?_⟩;refine HT.ZLf ht hs pl pu (by rw [hlen];exact hw) ?_ (by rw [hlen];exact hz);rw [hlen];refine ⟨.ref s.heap.objs.size,_,I.laid (t':=s.toks) (o:=.tup (Lp xs lo hi)) (λb ob q=>zQ _ q) (zK _) ?_,rfl,q _ (I.hok.fresh (zK _))⟩;exact ⟨z5 (ZFh xs lo hi) hz,_,(r.drop (HT.sIx xs.length 0 lo)).take (HT.sIx xs.length xs.length hi - HT.sIx xs.length 0 lo),IsTup.new _ _⟩
noncomputable def ZHK (K:PySem.W.Frag):R2:=λx y H Q=>∃a b xs ys,x=.ref a/\y=.ref b/\SqT K H a xs/\SqT K H b ys/\xs≠ []/\xs.length + ys.length<=sizeLine/\
 (ys= []->Q (.ref a) H)/\(ys≠ []->∀p,H p=none->Q (.ref p) (upd H p (.tup (xs++ys))))
theorem Vals.ZBw {us:List Value} (r:Vals xs us):us= []↔xs= []:=by
 cases r with
 | nil=>simp
 | cons _ _=>simp
theorem ZNn:OpR X (binaryOp .Add) (ZHK X.K):=by
 intro pins s σ H x y v u Q I rx ry h;obtain ⟨a,b,xs,ys,rfl,rfl,ha,hb,hx,hz,q1,q2⟩:=h;cases rx;cases ry;obtain ⟨its,r1,p1,_⟩:=I.tuple ha;obtain ⟨its2,r2,p2,_⟩:=I.tuple hb;refine HT.ZON p1 p2 (λz=>hx (r1.ZBw.mp z)) (λz=>⟨.ref a,H,I,rfl,q1 (r2.ZBw.mp z)⟩) (λz=> ?_) (by rw [<-r1.length,<-r2.length];exact hz);refine ⟨.ref s.heap.objs.size,_,I.laid (t':=s.toks) (o:=.tup (xs++ys)) (λb ob q=>zQ _ q) (zK _) ?_,rfl,q2 (λw=>z (r2.ZBw.mpr w)) _ (I.hok.fresh (zK _))⟩
 exact ⟨by rw [qX];exact hz,_,r1.append r2,IsTup.new _ _⟩
end
noncomputable def ixN (n:Nat) (i:Int):Option Nat:=if 0<=i then (if i < n then some i.toNat else none) else if -(n:Int)<=i then some (i + n).toNat else none
def atI {α:Type} (xs:List α) (i:Int):Option α:=(ixN xs.length i).bind λj=>xs[j]?
theorem ZHh {n:Nat} {i:Int} {j:Nat} (h:ixN n i=some j):seqIndex? i n=some j/\j < n/\ -(n:Int)<=i/\i < n:=by
 unfold ixN at h;by_cases h0:0<=i
 ·rw [if_pos h0] at h;by_cases h1:i < n
  ·rw [if_pos h1] at h;have e:i.toNat=j:=Option.some.inj h;exact ⟨by rw [seqIndex_of h0 h1,e],by lia,by lia,h1⟩
  ·rw [if_neg h1] at h;cases h
 ·rw [if_neg h0] at h;by_cases h1: -(n:Int)<=i
  ·rw [if_pos h1] at h;have e:(i + n).toNat=j:=Option.some.inj h;exact ⟨by rw [seqIndex_neg (by lia) h1,e],by lia,h1,by lia⟩
  ·rw [if_neg h1] at h;cases h
theorem Vo {α:Type} {xs:List α} {i:Int} {v:α} (h:atI xs i=some v):∃j,seqIndex? i xs.length=some j/\xs[j]? =some v/\j < xs.length/\ -(xs.length:Int)<=i/\i < xs.length:=by
 unfold atI at h;cases e:ixN xs.length i with
 | none=>rw [e] at h;cases h
 | some j=>
  rw [e] at h;obtain ⟨h1,h2,h3,h4⟩:=ZHh e;exact ⟨j,h1,h,h2,h3,h4⟩
def PlainIx (b:Expr):Prop:=∀o i,subscripted b false o i=operate [o,i] (getItem o i)
noncomputable def IxR (X:Cx) (r:R2):Prop:=
 ∀(value slice:Expr) (pins:List (Addr×Obj)) (s:Shared) (σ:St) (H:Hp) (x y:V) (v u:Value) (Q:VK),Inv X pins σ H s->RelV x v->RelV y u->r x y H Q->
  subscripted slice false v u=operate [v,u] (getItem v u)->wpAny (model X.prog X.w) X.A (subscriptTail value slice v u) (EP X pins σ Q) X.xe s
noncomputable def MtR (X:Cx) (id:String) (r:V->List V->Hp->VK->Prop):Prop:=
 ∀(pins:List (Addr×Obj)) (s:Shared) (σ:St) (H:Hp) (x:V) (xs:List V) (v:Value) (us:List Value) (Q:VK),Inv X pins σ H s->RelV x v->Vals xs us->r x xs H Q->
  wpAny (model X.prog X.w) X.A (call (.builtin id) (v::us)) (EP X pins σ Q) X.xe s
section
variable {X:Cx} {a b:Expr} {ta tb:TE} {pos:Pos}
theorem IxR.or {r r':R2} (h:IxR X r) (h':IxR X r'):IxR X (λx y H Q=>r x y H Q∨r' x y H Q):=by
 intro value slice pins s σ H x y v u Q I rx ry q hs;rcases q with q | q
 ·exact h value slice pins s σ H x y v u Q I rx ry q hs
 ·exact h' value slice pins s σ H x y v u Q I rx ry q hs
theorem ZJg {r:R2} (hr:IxR X r) (ha:PE X a ta) (hb:PE X b tb) (hs:PlainIx b):PE X (.Subscript a b pos) (tOp r ta tb):=by intro pins s σ H Q I h;exact Subscript_ (Zx ha hb I h λv u s2 x y H2 I2 rx ry q=>hr a b pins s2 σ H2 x y v u Q I2 rx ry q (hs _ _))
noncomputable def rIxL (K:PySem.W.Frag):R2:=λx y H Q=>∃p xs i v,x=.ref p/\y=.int i/\SqL K H p xs/\atI xs i=some v/\Q v H
noncomputable def rIxT (K:PySem.W.Frag):R2:=λx y H Q=>∃p xs i v,x=.ref p/\y=.int i/\SqT K H p xs/\atI xs i=some v/\Q v H
noncomputable def rIxS:R2:=λx y H Q=>∃z i c,x=.str z/\y=.int i/\z.length<=sizeLine/\atI z.cps.toList i=some c/\Q (.str ⟨#[c]⟩) H
theorem ZLu:IxR X (rIxL X.K):=by
 intro value slice pins s σ H x y v u Q I rx ry h hs;obtain ⟨p,xs,i,z,rfl,rfl,hq,he,q⟩:=h;cases rx;obtain ⟨t,rfl⟩:=ry;obtain ⟨its,r,pl,hz⟩:=I.list hq;obtain ⟨j,h1,h2,h3,h4,h5⟩:=Vo he;obtain ⟨w,ew,rw'⟩:=r.get h2;have hl:=r.length;have hn:=line63;have fin:EP X pins σ Q w s:=⟨z,H,I,rw',q⟩;by_cases h0:0<=i
 ·have hj:i.toNat=j:=by rw [seqIndex_of h0 h5] at h1;exact Option.some.inj h1
  exact item_listR pl.isList h0 (by lia) (by rw [hj];simpa using ew) fin hs
 ·have hj:(i + (its.toArray.size:Int)).toNat=j:=by rw [seqIndex_neg (by lia) h4] at h1;rw [zY,<-hl];exact Option.some.inj h1
  exact subscriptTail_builtinR (x:=w) pl.isList.typeIs slot_list_getitem.lookup
   (wpAny_getItem_list_neg (Q:=λr s'=>r=w/\EP X pins σ Q r s') pl.isList (by lia) (by rw [zY] <;> lia) (by lia) (by rw [hj];simpa using ew) ⟨rfl,fin⟩) hs
theorem ZQB:IxR X (rIxT X.K):=by
 intro value slice pins s σ H x y v u Q I rx ry h hs;obtain ⟨p,xs,i,z,rfl,rfl,hq,he,q⟩:=h;cases rx;obtain ⟨t,rfl⟩:=ry;obtain ⟨its,r,pl,hz⟩:=I.tuple hq;obtain ⟨j,h1,h2,h3,h4,h5⟩:=Vo he;obtain ⟨w,ew,rw'⟩:=r.get h2;have hl:=r.length;have hn:=line63;have fin:EP X pins σ Q w s:=⟨z,H,I,rw',q⟩;exact subscriptTail_builtinR (x:=w) pl.typeIs slot_tuple_getitem.lookup
  (getItem_tuple (j:=j) (Q:=λr s'=>r=w/\EP X pins σ Q r s') pl (by lia) (by lia) (by rw [zY,<-hl];exact h1) (by simpa using ew) ⟨rfl,fin⟩) hs
theorem ZLL:IxR X rIxS:=by
 intro value slice pins s σ H x y v u Q I rx ry h hs;obtain ⟨z,i,c,rfl,rfl,hz,he,q⟩:=h;obtain ⟨t,rfl⟩:=rx;obtain ⟨t',rfl⟩:=ry;obtain ⟨j,h1,h2,h3,h4,h5⟩:=Vo he;have hl:z.cps.toList.length=z.length:=by simp [Str.length]
 rw [hl] at h1 h4 h5;have hn:=line63;exact tail_any (typeIs_str s z t) slot_str_getitem.lookup (getItem_str (c:=c) (by have e1:decide (i < -(2 ^ 63:Int))=false:=decide_eq_false (by lia);have e2:decide (i ≥ 2 ^ 63)=false:=decide_eq_false (by lia);rw [e1,e2,Bool.or_false]) (by rw [h1];simpa using h2) ⟨.str ⟨#[c]⟩,H,I.tok _,⟨_,rfl⟩,q⟩) hs
def rIx (K:PySem.W.Frag):R2:=λx y H Q=>rIxL K x y H Q∨rIxT K x y H Q∨rIxS x y H Q
theorem ZPa:IxR X (rIx X.K):=ZLu.or (ZQB.or ZLL)
theorem ZQF (its:List Value) (n j:Nat) (u:Value):Obj.mapSeq (·.setIfInBounds j u) {cls:=.type "list",data:=.seq its.toArray n}={cls:=.type "list",data:=.seq (its.set j u).toArray n}:=by simp [Obj.mapSeq]
theorem Inv.lst {p:Addr} (I:Inv X pins σ H s) (h:H p=some (.lst xs)):
  ∃(its:List Value) (n:Nat),Vals xs its/\s.heap.get? p=some {cls:=.type "list",data:=.seq its.toArray n}/\xs.length<=sizeLine:=by
 obtain ⟨z,its,n,r,e⟩:=I.hok p _ h;exact ⟨its,n,r,e,z⟩
theorem Inv.ZKZ {p:Addr} {ys:List V} {its':List Value} {n n':Nat} {f:Obj->Obj} (I:Inv X pins σ H s) (h:H p=some (.lst xs))
  (ho:s.heap.get? p=some {cls:=.type "list",data:=.seq its.toArray n}) (hf:f {cls:=.type "list",data:=.seq its.toArray n}={cls:=.type "list",data:=.seq its'.toArray n'}) (r:Vals ys its') (hz:ys.length<=sizeLine) (t:Nat):
  Inv X pins σ (upd H p (.lst ys)) {s with heap:=s.heap.update p f,toks:=t}:=by
 have e:(s.heap.update p f).get? p=some {cls:=.type "list",data:=.seq its'.toArray n'}:=by rw [jD f ho (by rw [hf] <;> rfl),hf]
 refine I.write (x:=p) (e:=p) (by rw [h];trivial) (.inl rfl) (λb u hb q=>(Heap.get?_update_other _ _ (Ne.symm hb)).trans q) ⟨_,e⟩ ?_;exact ⟨hz,its',n',r,e⟩
noncomputable def ZOl:V->V->V->Hp->(Hp->Prop)->Prop:=λo i v H Q=>∃p xs k j,o=.ref p/\i=.int k/\H p=some (.lst xs)/\ixN xs.length k=some j/\Q (upd H p (.lst (xs.set j v)))
theorem set_list:PSet X ZOl:=by
 intro pins s σ H o i v ov iv u Q I ro ri rv h;obtain ⟨p,xs,k,j,rfl,rfl,hp,hj,q⟩:=h;cases ro;obtain ⟨t,rfl⟩:=ri;obtain ⟨its,n,r,ho,hz⟩:=I.lst hp;obtain ⟨h1,h2,h3,h4⟩:=ZHh hj;have hl:=r.length;have hn:=line63
 have I':Inv X pins σ (upd H p (.lst (xs.set j v))) {s with heap:=s.heap.update p (Obj.mapSeq (·.setIfInBounds j u))}:=
  I.ZKZ hp ho (ZQF its n j u) (r.set rv j) (by rw [j3];exact hz) s.toks
 by_cases h0:0<=k
 ·have hk:k.toNat=j:=by rw [seqIndex_of h0 h4] at h1;exact Option.some.inj h1
  exact PySem.W.ki_setAt ho h0 (by lia) (by rw [zY,<-hl];exact h4) (by rw [hk];exact ⟨_,I',q⟩)
 ·have hk:(k + (its.toArray.size:Int)).toNat=j:=by rw [seqIndex_neg (by lia) h3] at h1;rw [zY,<-hl];exact Option.some.inj h1
  exact PySem.W.ki_setBack ho (by lia) (by rw [zY,<-hl];exact h3) (by lia) (by rw [hk];exact ⟨_,I',q⟩)
theorem ZJz (lo hi:Option Int) (n:Nat):(sliceBounds lo hi none n).1=((HT.sIx n 0 lo:Nat):Int)/\(sliceBounds lo hi none n).2.1=((HT.sIx n n hi:Nat):Int)/\(sliceBounds lo hi none n).2.2=1:=by
 refine ⟨?_,?_,rfl⟩
 ·cases lo with
  | none=>simp [sliceBounds,HT.sIx]
  | some i=>
   simp only [sliceBounds,HT.sIx,Option.getD_none,show (1:Int) > 0 by decide,if_true];by_cases h:i < 0
   ·simp only [h,if_true] <;> lia
   ·simp only [h,if_false] <;> lia
 ·cases hi with
  | none=>simp [sliceBounds,HT.sIx]
  | some i=>
   simp only [sliceBounds,HT.sIx,Option.getD_none,show (1:Int) > 0 by decide,if_true];by_cases h:i < 0
   ·simp only [h,if_true] <;> lia
   ·simp only [h,if_false] <;> lia
theorem ZNI (its:List Value) (lo hi:Option Int):slicePick its.toArray lo hi none=((its.drop (HT.sIx its.length 0 lo)).take (HT.sIx its.length its.length hi - HT.sIx its.length 0 lo)).toArray:=by
 obtain ⟨h1,h2,h3⟩:=ZJz lo hi its.toArray.size;unfold slicePick;rw [h1,h2,h3]
 simp only [sliceRange_one,pick_run,zY] <;> rfl
noncomputable def rSlL (K:PySem.W.Frag):V->Option Int->Option Int->Hp->VK->Prop:=λx lo hi H Q=>∃a xs,x=.ref a/\SqL K H a xs/\∀p,H p=none->Q (.ref p) (upd H p (.lst (Lp xs lo hi)))
theorem ZOg:SlR X (rSlL X.K):=by
 intro pins s σ H x v vl vu lo hi sl Q I rx hs pl pu h;obtain ⟨a,xs,rfl,hx,q⟩:=h;cases rx;obtain ⟨its,r,ht,hz⟩:=I.list hx;have hlen:=r.length;refine ⟨"list",_,slot_list_getitem.lookup,ht.isList.typeIs,?_⟩
 refine wpAny_getItem_list_slice ht.isList hs pl pu .none (by simp) ?_ (by rw [zY] <;> lia)
 rw [ZNI,<-hlen];refine ⟨.ref s.heap.objs.size,_,I.laid (t':=s.toks) (o:=.lst (Lp xs lo hi)) (λb ob q=>zQ _ q) (zK _) ?_,rfl,q _ (I.hok.fresh (zK _))⟩;exact ⟨z5 (ZFh xs lo hi) hz,_,0,(r.drop (HT.sIx xs.length 0 lo)).take (HT.sIx xs.length xs.length hi - HT.sIx xs.length 0 lo),zy _ rfl⟩
def Ma:V->Bool
 | .non=>true
 | .bl _=>true
 | .int _=>true
 | .str _=>true
 | _=>false
noncomputable def eqV:V->V->Bool
 | .non,.non=>true
 | .bl a,.bl b=>a == b
 | .bl a,.int b=>(if a then 1 else 0) == b
 | .int a,.bl b=>a == (if b then 1 else 0)
 | .int a,.int b=>a == b
 | .str a,.str b=>a == b
 | _,_=>false
theorem ZK2 {A:Around} {y x:V} {u v:Value} (ry:RelV y u) (rx:RelV x v) (fy:Ma y=true) (fx:Ma x=true):SeqAt.EqAt A s u v (eqV y x):=by
 cases y with
 | non=>
  cases ry;cases x with
  | non=>cases rx;exact SeqAt.EqAt.same _
  | bl b=>cases rx;exact SeqAt.EqAt.none_bool b
  | int b=>obtain ⟨t,rfl⟩:=rx;exact SeqAt.EqAt.none_int b t
  | str b=>obtain ⟨t,rfl⟩:=rx;exact SeqAt.EqAt.none_str b t
  | _=>exact absurd (show false=true from fx) z0
 | bl a=>
  cases ry;cases x with
  | non=>cases rx;exact SeqAt.EqAt.bool_none a
  | bl b=>cases rx;exact SeqAt.EqAt.bool_bool a b
  | int b=>obtain ⟨t,rfl⟩:=rx;exact SeqAt.EqAt.bool_int a b t
  | str b=>obtain ⟨t,rfl⟩:=rx;exact SeqAt.EqAt.bool_str a b t
  | _=>exact absurd (show false=true from fx) z0
 | int a=>
  obtain ⟨t',rfl⟩:=ry;cases x with
  | non=>cases rx;exact SeqAt.EqAt.int_none a t'
  | bl b=>cases rx;exact SeqAt.EqAt.int_bool a t' b
  | int b=>obtain ⟨t,rfl⟩:=rx;exact SeqAt.EqAt.int_int a t' b t
  | str b=>obtain ⟨t,rfl⟩:=rx;exact SeqAt.EqAt.int_str a t' b t
  | _=>exact absurd (show false=true from fx) z0
 | str a=>
  obtain ⟨t',rfl⟩:=ry;cases x with
  | non=>cases rx;exact SeqAt.EqAt.str_none a t'
  | bl b=>cases rx;exact SeqAt.EqAt.str_bool a t' b
  | int b=>obtain ⟨t,rfl⟩:=rx;exact SeqAt.EqAt.str_int a t' b t
  | str b=>obtain ⟨t,rfl⟩:=rx;exact SeqAt.EqAt.str_str a t' b t
  | _=>exact absurd (show false=true from fx) z0
 | _=>exact absurd (show false=true from fy) z0
theorem ZId:CallR X (.builtin "len") (λxs H Q=>∃p ys,xs= [.ref p]/\(SqL X.K H p ys∨SqT X.K H p ys)/\Q (.int ys.length) H):=by
 intro pins s σ H xs us Q I r h;obtain ⟨p,ys,rfl,hq,q⟩:=h;obtain ⟨u,rfl,rx⟩:=vals1 r;cases rx;have hn:=line63;rcases hq with hq | hq
 ·obtain ⟨its,r',pl,hz⟩:=I.list hq;have hlen:=r'.length
  exact Calls.call_len_list pl.isList (by simp only [zY] <;> lia) ⟨.int ys.length,H,I.tok _,⟨s.toks + 1,by rw [zY,hlen]⟩,q⟩
 ·obtain ⟨its,r',pl,hz⟩:=I.tuple hq;have hlen:=r'.length
  exact len_tuple pl (by simp only [zY] <;> lia) ⟨.int ys.length,H,I.tok _,⟨s.toks + 1,by rw [zY,hlen]⟩,q⟩
theorem ZNN:CallR X (.builtin "len") (λxs H Q=>∃z,xs= [.str z]/\z.length<=sizeLine/\Q (.int z.length) H):=by intro pins s σ H xs us Q I r h;obtain ⟨z,rfl,hz,q⟩:=h;obtain ⟨u,rfl,t,rfl⟩:=vals1 r;have hn:=line63;exact len_str (by lia) ⟨.int z.length,H,I.tok _,⟨_,rfl⟩,q⟩
theorem CallR.or {f:Value} {r r':List V->Hp->VK->Prop} (h:CallR X f r) (h':CallR X f r'):CallR X f (λxs H Q=>r xs H Q∨r' xs H Q):=by
 intro pins s σ H xs us Q I rs q;rcases q with q | q
 ·exact h pins s σ H xs us Q I rs q
 ·exact h' pins s σ H xs us Q I rs q
theorem ZNO:CallR X (.type "list") (λxs H Q=>∃p ys,xs= [.ref p]/\(SqL X.K H p ys∨SqT X.K H p ys)/\∀l,H l=none->Q (.ref l) (upd H l (.lst ys))):=by
 intro pins s σ H xs us Q I r h;obtain ⟨p,ys,rfl,hq,q⟩:=h;obtain ⟨u,rfl,rx⟩:=vals1 r;cases rx;have fin:∀(its:List Value),Vals ys its->ys.length<=sizeLine->∀(h':Heap) (c':Nat),(∀b o',s.heap.get? b=some o'->h'.get? b=some o')->
   h'.get? s.heap.objs.size=some {cls:=.type "list",dict:=none,data:=.seq its.toArray c',slots:= #[]}->EP X pins σ Q (.ref s.heap.objs.size) {s with heap:=h'}:=λits r' hz h' c' kp e=>
  ⟨.ref s.heap.objs.size,_,I.laid (t':=s.toks) kp (zK _) (show ObjOk X.prog X.w _ h' _ (.lst ys) from ⟨hz,its,c',r',e⟩),rfl,q _ (I.hok.fresh (zK _))⟩
 rcases hq with hq | hq
 ·obtain ⟨its,r',pl,hz⟩:=I.list hq;have hlen:=r'.length;obtain ⟨o,ho,hc,n,hd⟩:=pl.isList
  exact call_list_seq p (.inl rfl) ho hc hd (λh' c' kp e=>fin its r' hz h' c' kp e) (by simp only [zY] <;> lia)
 ·obtain ⟨its,r',pl,hz⟩:=I.tuple hq;have hlen:=r'.length;obtain ⟨o,ho,hc,n,hd⟩:=pl
  exact call_list_seq p (.inr rfl) ho hc hd (λh' c' kp e=>fin its r' hz h' c' kp e) (by simp only [zY] <;> lia)
theorem ZNL:CallR X (.type "tuple") (λxs H Q=>∃p ys,xs= [.ref p]/\((SqL X.K H p ys/\∀l,H l=none->Q (.ref l) (upd H l (.tup ys)))∨(SqT X.K H p ys/\Q (.ref p) H))):=by
 intro pins s σ H xs us Q I r h;obtain ⟨p,ys,rfl,h⟩:=h;obtain ⟨u,rfl,rx⟩:=vals1 r;cases rx;rcases h with ⟨hq,q⟩ | ⟨hq,q⟩
 ·obtain ⟨its,r',pl,hz⟩:=I.list hq;have hlen:=r'.length
  refine call_tuple_list pl.isList (λh' kp=> ?_) (by simp only [zY] <;> lia)
  have I1:Inv X pins σ H {s with heap:=h'}:=I.kept (t':=s.toks) kp;have I2:Inv X pins σ (upd H h'.objs.size (.tup ys)) {s with heap:=h'.push {cls:=.type "tuple",data:=.seq its.toArray}}:=
   I1.laid (t':=s.toks) (λb o e=>zQ _ e) (zK _) (show ObjOk X.prog X.w _ _ _ (.tup ys) from ⟨hz,its,r',IsTup.new _ _⟩)
  exact ⟨.ref h'.objs.size,_,I2,rfl,q _ (I1.hok.fresh (zK _))⟩
 ·obtain ⟨its,r',pl,hz⟩:=I.tuple hq;exact call_tuple_same pl ⟨.ref p,H,I,rfl,q⟩
noncomputable def tyV (K:PySem.W.Frag) (T:String) (x:V) (H:Hp):Prop:=match x with
 | .str _=>T="str"
 | .int _=>T="int"
 | .ref p=>(T="list"/\∃xs,SqL K H p xs)∨(T="tuple"/\∃o,K.lookup p=some o/\o.cls=.type "tuple"/\o.dict=none)∨
   (T="dict"/\((∃kvs,H p=some (.dK kvs))∨∃kvs,H p=some (.dT kvs)))∨(T="set"/\∃S n,H p=some (.set S n))
 | _=>False
theorem ZPA {T:String} {x:V} {v:Value} (I:Inv X pins σ H s) (r:RelV x v) (ty:tyV X.K T x H):
  s.TypeIs v T/\∀a,v=.ref a->∃ob,s.heap.get? a=some ob/\ob.dict=none:=by
 cases x with
 | str z=>
  obtain ⟨t,rfl⟩:=r
  cases (show T="str" from ty)
  exact ⟨typeIs_str s z t,λ_ e=>nomatch e⟩
 | int i=>
  obtain ⟨t,rfl⟩:=r
  cases (show T="int" from ty)
  exact ⟨typeIs_int s i t,λ_ e=>nomatch e⟩
 | ref p=>
  cases r;rcases ty with ⟨rfl,xs,hq⟩ | ⟨rfl,o,hk,hc,hd⟩ | ⟨rfl,hk⟩ | ⟨rfl,S,n,hk⟩
  ·obtain ⟨its,_,pl,_⟩:=I.list hq;refine ⟨pl.isList.typeIs,λa e=> ?_⟩;cases e;obtain ⟨o,n,e,c,hd,_⟩:=pl;exact ⟨o,e,hd⟩
  ·refine ⟨⟨o,I.kIn p o hk,hc⟩,λa e=> ?_⟩;cases e;exact ⟨o,I.kIn _ o hk,hd⟩
  ·have z:∃o,s.heap.get? p=some o/\o.ExactDict:=by
    rcases hk with ⟨kvs,hk⟩ | ⟨kvs,hk⟩
    ·obtain ⟨_,_,_,_,o,_,_,e,ex,_⟩:=I.hok p _ hk;exact ⟨o,e,ex⟩
    ·obtain ⟨_,_,_,_,o,_,_,e,ex,_⟩:=I.hok p _ hk;exact ⟨o,e,ex⟩
   obtain ⟨o,e,ex⟩:=z;refine ⟨⟨o,e,ex.1⟩,λa e2=> ?_⟩;cases e2;exact ⟨o,e,ex.2.1⟩
  ·obtain ⟨o,_,_,_,e,ex,_⟩:=I.hok p _ hk;refine ⟨⟨o,e,ex.1⟩,λa e2=> ?_⟩;cases e2;exact ⟨o,e,ex.2.1⟩
 | _=>exact False.elim ty
noncomputable def tBM (K:PySem.W.Frag) (T:String) (r:V->List V->Hp->VK->Prop) (to:TE) (t:TA):TE:=λσ H Q=>to σ H λx H1=>tyV K T x H1/\t σ H1 λxs H2=>r x xs H2 Q
variable {o e:Expr} {es:List Expr} {to:TE} {t:TA} {name:Str} {apos cpos:Pos} {T id:String} {r:V->List V->Hp->VK->Prop}
theorem ZKu (pa:PlainAttrs T) (slot:Slot T name id) (hty:typeOf (.builtin id)=pure (.type "method_descriptor")) (hm:MtR X id r) (ho:PE X o to) (ha:PA X (e::es) t)
  (hbase:attributeBase o name X.env (eval o X.env)=eval o X.env:=by rfl)
  (hfew:((backTo cpos (starEach (e::es) X.env)).all (λx=> !x.1) && (backToKw cpos (keywordEach [] X.env)).all (λx=>x.1.isSome)
   && decide ((e::es).length + ([]:List Keyword).length + (if ([]:List Keyword).isEmpty then 0 else 1) < 30))=true:=by rfl)
  (hline:(apos.endLine == cpos.line)=true:=by rfl) (hs:starEach (e::es) X.env=(false,eval e X.env)::starEach es X.env:=by rfl) (hplain:(backTo cpos (starEach es X.env)).any (·.1)=false:=by rfl):
  PE X (.Call (.Attribute o name apos) (e::es) [] cpos) (tBM X.K T r to t):=by
 intro pins s σ H Q I h;refine wpAny_Call_method_late hbase hfew hline rfl (thn (ho pins s σ H _ I h) λv s1 ⟨x,H1,I1,r1,ty,q1⟩=> ?_);obtain ⟨h1,h2⟩:=ZPA I1 r1 ty;refine ⟨T,id,pa,slot,hty,h1,h2,?_⟩;have hA:=ha cpos pins s1 σ H1 _ I1 q1;rw [hs] at hA ⊢
 refine Calls.callWith_builtin (by show (false || (backTo cpos (starEach es X.env)).any (·.1))=false;rw [hplain] <;> rfl) (Calls.evalArgs_plain ?_)
 exact thn hA λus s2 ⟨vs,H2,I2,r2,q2⟩=>hm pins s2 σ H2 x vs v us Q I2 r1 r2 q2
end
noncomputable def MtM (X:Cx) (id:String) (r:V->List V->Hp->VK->Prop):Prop:=
 ∀(pins:List (Addr×Obj)) (s:Shared) (σ:St) (H:Hp) (x:V) (xs:List V) (v:Value) (us:List Value) (Q:VK),Inv X pins σ H s->RelV x v->Vals xs us->r x xs H Q->
  wpAny (model X.prog X.w) X.A (call (.builtin id) (v::us)) (EP X pins σ Q) X.xe s
theorem Vals.one:∀{x:V} {us:List Value},Vals [x] us->∃u,us= [u]/\RelV x u
 | _,_,.cons r .nil=>⟨_,rfl,r⟩
theorem Vals.rep {us:List Value} (h:Vals xs us):∀k:Nat,Vals (zV k xs).flatten (zV k us).flatten
 | 0=>.nil
 | k + 1=>by rw [zR,zR,qy,qy];exact Vals.append h (Vals.rep h k)
theorem foldl_rep (its:List Value):∀(k:Nat) (acc:List Value),
  List.foldl (λx1 x2=>x1++x2) acc.toArray (zV k its.toArray)=(acc++(zV k its).flatten).toArray
 | 0,acc=>by simp
 | k + 1,acc=>by
  have e:acc.toArray++its.toArray=(acc++its).toArray:=by simp
  have e2:(acc++its)++(zV k its).flatten=acc++(zV (k + 1) its).flatten:=by rw [zR,qy,jw]
  rw [<-e2,<-foldl_rep its k (acc++its),<-e,zR,jI]
section
variable {X:Cx} {pins:List (Addr×Obj)} {σ:St} {H:Hp} {s:Shared} {l b:Addr} {xs ys zs:List V}
theorem Inv.lset {its':List Value} {n:Nat} {f:Array Value->Array Value} {t':Nat} (I:Inv X pins σ H s) (hH:H l=some (.lst xs))
  (e:s.heap.get? l=some {cls:=.type "list",data:=.seq its.toArray n}) (hf:f its.toArray=its'.toArray) (hv:Vals ys its') (hz:ys.length<=sizeLine):
  Inv X pins σ (upd H l (.lst ys)) {s with heap:=s.heap.update l (Obj.mapSeq f),toks:=t'}:=by
 have q:=PySem.IsL.update e f;rw [hf] at q;refine I.write (x:=l) (e:=l) (by rw [hH];exact trivial) (.inl rfl) (λb' u hb hu=>(Heap.get?_update_other s.heap (Obj.mapSeq f) (Ne.symm hb)).trans hu) ⟨_,q⟩ ?_;exact ⟨hz,its',_,hv,q⟩
theorem Inv.lnew {t':Nat} (I:Inv X pins σ H s) (hv:Vals ys its) (hz:ys.length<=sizeLine):
  Inv X pins σ (upd H s.heap.objs.size (.lst ys)) {s with heap:=s.heap.push {cls:=.type "list",data:=.seq its.toArray},toks:=t'}:=
 I.laid (λ_ _ q=>zQ _ q) (zK _) ⟨hz,its,0,hv,zy _ rfl⟩
theorem Inv.fresh (I:Inv X pins σ H s):H s.heap.objs.size=none:=I.hok.fresh (zK _)
theorem Inv.lstM (I:Inv X pins σ H s) (hH:H l=some (.lst xs)):xs.length<=sizeLine/\∃(its:List Value) (n:Nat),Vals xs its/\xs.length=its.length/\s.heap.get? l=some {cls:=.type "list",data:=.seq its.toArray n}:=by obtain ⟨z,its,n,r,e⟩:=I.hok l _ hH;exact ⟨z,its,n,r,r.length,e⟩
theorem ZML {n:Nat} (h:n<=sizeLine):Builtin.List.listTooLong n=false:=by unfold Builtin.List.listTooLong;exact decide_eq_false (by lia)
end
section
variable {X:Cx}
noncomputable def ZMm:V->List V->Hp->VK->Prop:=λx vs H Q=>∃l xs y,x=.ref l/\vs= [y]/\H l=some (.lst xs)/\xs.length < sizeLine/\Q .non (upd H l (.lst (xs++ [y])))
theorem ZOh:MtM X "list.append" ZMm:=by
 intro pins s σ H x vs v us Q I rx rv h;obtain ⟨l,xs,y,rfl,rfl,hH,hz,q⟩:=h;cases rx;obtain ⟨u,rfl,ru⟩:=rv.one;obtain ⟨z,its,n,r,hl,e⟩:=I.lstM hH;refine call_meets F.slot_list_append ⟨_,e,rfl⟩ F.entry_list_append (F.args_list_append_2 _ _) (PySem.list_append l its.toArray n u (by rw [zY];lia)) ⟨e,?_⟩;refine ⟨.non,_,I.lset (its':=its++ [u]) hH e (by simp) (r.append (.cons ru .nil)) ?_,rfl,q⟩
 rw [qX,jk];lia
noncomputable def rRep:R2:=λx y H Q=>∃l k xs,x=.ref l/\y=.int k/\H l=some (.lst xs)/\ -(2 ^ 63)<=k/\k < 2 ^ 63/\xs.length * k.toNat<=sizeLine/\
 ∀p,H p=none->Q (.ref p) (upd H p (.lst (zV k.toNat xs).flatten))
theorem len_rep {α:Type} (xs:List α) (k:Nat):(zV k xs).flatten.length=k * xs.length:=by
 induction k with
 | zero=>simp
 | succ k ih=>rw [zR,qy,qX,ih,Nat.succ_mul,Nat.add_comm]
theorem ZO6:OpR X (binaryOp .Mult) rRep:=by
 intro pins s σ H x y v u Q I rx ry h;obtain ⟨l,k,xs,rfl,rfl,hH,h1,h2,hz,q⟩:=h;cases rx;obtain ⟨t,rfl⟩:=ry;obtain ⟨z,its,n,r,hl,e⟩:=I.lstM hH;have hlen:its.toArray.size * k.toNat<=sizeLine:=by rw [zY,<-hl];exact hz
 have hcap:¬its.toArray.size * k.toNat > (2 ^ 63 - 1) / 8:=by
  have:(sizeLine:Nat)<=(2 ^ 63 - 1) / 8:=by decide
  lia
 have hfit:¬(!Builtin.List.listFitsIndex k)=true:=by rw [fitsIndex_both h1 h2];exact z0
 have hlong:¬Builtin.List.listTooLong (its.toArray.size * k.toNat)=true:=by rw [ZML hlen];exact z0
 have hnew:List.foldl (λx1 x2=>x1++x2) #[] (zV (if its.toArray.isEmpty=true then 0 else k.toNat) its.toArray)=(zV k.toNat its).flatten.toArray:=by
  have f0:∀m:Nat,List.foldl (λx1 x2=>x1++x2) #[] (zV m its.toArray)=(zV m its).flatten.toArray:=λm=>by have:=foldl_rep its m [];rw [jL] at this;exact this
  rw [f0];cases its with
  | nil=>simp
  | cons a r'=>rw [if_neg (by simp)]
 refine wpAny_binaryOp_repeat_ref (T:="list") (U:="int") (by decide) ⟨_,e,rfl⟩ (λs'=>typeIs_int s' k t) noFill_list_mul F.fills_int_mul F.slot_int_rmul repeat_list F.slot_int_index.lookup
  (call_meets F.slot_int_rmul (typeIs_int s k t) F.entry_int_rmul (F.args_int_rmul_2 _ _) (int___rmul___int_list k t l its.toArray n)
   ⟨e,rfl,⟨_,e,rfl⟩,call_meets F.slot_list_mul ⟨_,e,rfl⟩ F.entry_list_mul (F.args_list_mul_2 _ _) (AutoListH.list___mul___list_int_3 l its.toArray n k t hfit hcap hlong) ⟨e,?_⟩⟩)
 rw [hnew];exact ⟨.ref _,_,I.lnew (t':=s.toks) (r.rep k.toNat) (by rw [len_rep,Nat.mul_comm];exact hz),rfl,q _ I.fresh⟩
end
section
variable {prog:Program} {w:World} {A:Around} {E:Value->Shared->Prop} {s:Shared}
end
section
variable {X:Cx}
end
end L2
namespace Att
open PySem PySem.W PySem.Calls PyProof.Rows
variable {h:Heap}
theorem ZPc {P:Params} :∀(ns:List Int) (vs:List Value),WellAll P h vs (ns.map WData.int)->IntsAre vs ns:=by
 intro ns
 induction ns with
 | nil=>
  intro vs w;rw [jO] at w;cases w;exact .nil
 | cons n ns ih=>
  intro vs w;rw [zC] at w;cases w with
  | cons a b=>
   cases a;exact .cons _ _ (ih _ b)
theorem ZOs {l:OpenLaw} {n:Nat} (hn:l.most=some n) {P:Params} {args:List WData} {vals:List Value}
  (hpre:l.row.toRowW.claim.pre args=true) (hwl:WellAll P h vals args):
  ∃a vs ns,vals= [Value.ref a]/\args= [WData.list (ns.map WData.int)]/\h.get? a=some {cls:=.type "list",data:=.seq vs.toArray}/\IntsAre vs ns/\ns.length<=n:=by
 have hsh:WShape.hasAll [] args [.list .int]=true:=(pre_splitW hpre).1;have hc:l.pre.holds [] {args:=args}=true:=(pre_splitW hpre).2;obtain ⟨d,r,rfl,h1,h2⟩:=hasAllW_cons hsh;obtain rfl:=hasAllW_nil h2;obtain ⟨xs,rfl,h3⟩:=hasW_list h1;obtain ⟨ns,rfl⟩:=items_int h3;have hlen:ns.length<=n:=by
  unfold OpenLaw.pre at hc;have h4:(WTm.not (.lt (.lit (.int (n:Int))) (.len (.arg 0)))).holds [] {args:= [.list (ns.map .int)]}=true:=by have h4:=(holds_andW hc).1;rw [hn] at h4;exact h4
  have h5:=condW_of h4 (w_not (w_lt w_lit (w_len_list (w_arg rfl))));rw [zT] at h5;refine Nat.le_of_not_lt λq=> ?_
  have q':(n:Int) < ((ns.length:Nat):Int):=by lia
  first
   | (rw [decide_eq_true q'] at h5;exact absurd h5 (by decide))
   | (simp at h5;lia)
 cases hwl with
 | cons w1 w2=>
  cases w2;cases w1 with
  | list ho hall=>exact ⟨_,_,ns,rfl,rfl,ho,ZPc ns _ hall,hlen⟩
theorem ZM0 (l:OpenLaw) (args:List WData):l.row.toRowW.claim.post args (.bool true) args=true:=
 postW_of (r:=l.row.toRowW) (X:=(true == true))
  (show WShape.has [] (.bool true) .bool=true by first | rfl | decide | simp [WShape.has,WShape.arms,WShape.armsAll])
  (show (WTm.eq .res (.lit (.bool true))).value [] {args:=args,res:=some (.bool true),after:=args}=some (.bool (true == true)) from w_eq_bool (w_res rfl) w_lit) rfl
theorem ZJq {l:OpenLaw} {n:Nat} {q:Program} {loose:List Str} {XP:(Str->Option Value)->Heap->Prop} {YP:World->Heap->Prop} {d:DefRec}
  (hn:l.most=some n) (hdf:d.params.defaults= [])
  (call:∀(w:World) (s₀ s₁:Shared) (mg mb:Str->Option Value) (fa:Addr) (o:Obj) (pm cd doc:Value) (a:Addr) (vs:List Value) (ns:List Int),
   Ground q loose [] XP w s₀ mg mb s₁.heap->YP w s₁.heap->
   s₁.heap.get? fa=some o->o.data=.func (docDef d.name d.params d.body d.scope pm cd doc)->s₁.heap.CodeRec cd d.name->mg d.name=some (.ref fa)->
   s₁.heap.get? a=some {cls:=.type "list",data:=.seq vs.toArray}->IntsAre vs ns->ns.length<=n->s₁.gens= #[]->
   codeAny (model l.prog w) callerA (.call (.ref fa) ⟨[.ref a],[]⟩) (λr s'=>r=.ok (.ret (.bool true))/\OldK s₁.heap s'.heap/\s'.os=s₁.os/\AllBare s'.gens) s₁):
  WalkO q loose XP YP l.row.toRowW d [] (λf vs=>PySem.call f vs):=by
 intro w s₀ s₁ mg mb G Y fa o pm cd doc dV kV ho hd hcd hD hmg hg args vals as hpre hlay hrd hwl hlo;obtain rfl:dV=.none:=Dflts.none hD hdf;obtain rfl:kV=.none:=Dflts.noKw hD;obtain ⟨a,vs,ns,rfl,rfl,hobj,hints,hlen⟩:=ZOs hn hpre hwl;refine enter_call (codeAny_mono (call w s₀ s₁ mg mb fa o pm cd doc a vs ns G Y ho (fd_plain hd) hcd hmg hobj hints hlen hg) λr s' hq=> ?_);obtain ⟨rfl,h2,h3,h4⟩:=hq
 exact ⟨.inl ⟨.bool true,.bool true,[],rfl,λ_=>rfl,.bool true,ZM0 l _,λ_=>⟨List.Pairwise.nil,λ_ hm=>(nomatch hm)⟩⟩,h2,h3,h4⟩
section
variable {prog:Program} {w:World} {A:Around} {E:Value->Shared->Prop} {s:Shared} {K:Frag}
def W4 (h:Heap):Heap:={h with objs:= #[]}
theorem ZBq (h:Heap) (b:Addr):(W4 h).get? b=none:=by
 cases e:(W4 h).get? b with
 | none=>rfl
 | some o=>exact absurd (zw e) (jM _)
noncomputable def ledger (h:Heap) (L d:Addr):List (Addr×Obj):=(zX h.objs.size).filterMap λa=>if a=L∨a=d then none else (h.get? a).map λo=>(a,o)
theorem T8 {L d a:Addr} {o:Obj}:(a,o)∈ledger h L d↔a≠L/\a≠d/\h.get? a=some o:=by
 unfold ledger;rw [List.mem_filterMap];constructor
 ·rintro ⟨b,_,e⟩;split at e
  ·cases e
  ·rename_i hb;obtain ⟨o',ho,e'⟩:=zL.mp e;cases e';exact ⟨λq=>hb (.inl q),λq=>hb (.inr q),ho⟩
 ·rintro ⟨n1,n2,ho⟩;refine ⟨a,qW.mpr (zw ho),?_⟩
  rw [if_neg (show¬(a=L∨a=d) from λq=>q.elim n1 n2),ho] <;> rfl
theorem ZLl {L:Addr} {m:Str->Option Value} (n:h.Ns L m):Fr (W4 h) L h m:=
 ⟨n,λb o e=>(by rw [ZBq] at e;cases e),jA _⟩
end
end Att
namespace L2
open PySem PySem.Spec PyProof.Rows
variable {k:Nat} {fd:FuncData} {x:Str}
theorem Ru:∀{vs:List Value} {ns:List Int},IntsAre vs ns->Vals (ns.map V.int) vs
 | _,_,.nil=>.nil
 | _,_,.cons n t h=>.cons ⟨t,rfl⟩ (Ru h)
def Only (H:Hp):Prop:=∀b,H b=none∨∃o xs,H b=some (.frz o (.lst xs))
theorem ZL7 {P:Program} {w:World} {K:PySem.W.Frag} {mg mb:Str->Option Value} {CX:CXT} {fa a:Addr} {sp:Sp} {s₁:Shared} {vs:List Value} {ns:List Int}
  (KX:K.In s₁.heap) (hns:s₁.heap.Ns mainGlobals mg) (hb:s₁.heap.Ns builtinsNs mb) (hbb:∀x:Str,x≠"__name__"->mb x=bootBuiltins x) (hlim:s₁.heap.NoLimit) (hg:s₁.gens= #[])
  (ha:s₁.heap.get? a=some {cls:=.type "list",data:=.seq vs.toArray}) (hi:IntsAre vs ns) (hl:ns.length<=sizeLine) (hr:Room k callerA)
  (F:∀base:Heap,K.In base->base.Ns mainGlobals mg->FnOk P w K mg base CX k fa fd [x] sp) (hbind:∀(s:Shared) (u:Value),BindsTo s fd ⟨[u],[]⟩ [(x,u)])
  (hsp:∀H:Hp,Only H->SqL K H a (ns.map V.int)->sp [.ref a] H (λv _=>v=.bl true) λ_ _ _=>False)
  (hCX:∀H e s',CX [] H s₁ (λ_ _ _=>False) e s'->False):
  codeAny (model P w) callerA (.call (.ref fa) ⟨[.ref a],[]⟩) (λr s'=>r=.ok (.ret (.bool true))/\OldK s₁.heap s'.heap/\s'.os=s₁.os/\AllBare s'.gens) s₁:=by
 have rv:=Ru hi;have lenV:=hi.length;have core:∀H:Hp,Only H->SqL K H a (ns.map V.int)->HOk P w H s₁.heap->(∀b,H b≠none->b=a)->(H a≠none->K.lookup a=none)->
   codeAny (model P w) callerA (.call (.ref fa) ⟨[.ref a],[]⟩) (λr s'=>r=.ok (.ret (.bool true))/\OldK s₁.heap s'.heap/\s'.os=s₁.os/\AllBare s'.gens) s₁:=by
  intro H hO hS hok hA hK;have base_of:∀{b:Addr} {o:Obj},s₁.heap.get? b=some o->H b=none->(Km s₁.heap H).get? b=some o:=λe n=>ZI2 e n
  have noA:∀{b:Addr} {o:Obj} {es:Array DictEntry} {ep:Nat},s₁.heap.get? b=some o->o.data=.dict es ep->H b=none:=λ{b o es ep} e d=>by
   cases q:H b with
   | none=>rfl
   | some u=>
    have e':b=a:=hA b (by rw [q];simp);subst e';rw [ha] at e;cases e;have d':Data.seq vs.toArray _=Data.dict es ep:=d;cases d'
  have nsK:∀{b:Addr} {m:Str->Option Value},s₁.heap.Ns b m->(Km s₁.heap H).Ns b m:=λ{b m} ⟨o,es,ep,e,d,r⟩=>⟨o,es,ep,base_of e (noA e d),d,r⟩
  have hKb:K.In (Km s₁.heap H):=λb o e=>base_of (KX b o e) (by
   cases q:H b with
   | none=>rfl
   | some u=>
    have e':b=a:=hA b (by rw [q];simp);subst e';rw [hK (by rw [q];simp)] at e;cases e)
  have hM:Mod K mg (Km s₁.heap H):=⟨hKb,nsK hns,⟨mb,nsK hb,hbb⟩,let ⟨mc,h1,h2⟩:=hlim;⟨mc,nsK h1,h2⟩⟩
  have e0:Env0 P w K mg (Km s₁.heap H) callerA [] s₁ H:=⟨rfl,hM,λb o e=>ZI0 e,Nat.le_of_eq (ZKR _ _),trivial,λb hb=>absurd (show b∈([]:List Addr) from hb) (by simp),hok,.of_eq hg⟩
  refine codeAny_mono ((F _ hKb (nsK hns)).run callerA [] s₁ H ⟨[.ref a],[]⟩ [.ref a] [.ref a] _ _ hr e0 (hbind s₁ (.ref a)) (.cons rfl .nil) (hsp H hO hS)) λr s' h=> ?_
  cases r with
  | error e=>exact (hCX H e s' h).elim
  | ok fl=>
   cases fl with
   | next=>exact False.elim h
   | brk=>exact False.elim h
   | cont=>exact False.elim h
   | ret u=>
    obtain ⟨v,H',os,bare,un,hok',r',q⟩:=h;have q':v=.bl true:=q;subst q';obtain rfl:u=Value.bool true:=r';refine ⟨rfl,OldK.of_keep λb o e=> ?_,os,bare⟩;cases q:H b with
    | none=>exact un.keep b o e q (by intro z;exact absurd (show b∈([]:List Addr) from z) (by simp)) (by simp)
    | some u=>
     rcases hO b with z | ⟨ob,xs,z⟩
     ·rw [q] at z;cases z
     ·have z2:=un.frzs b ob _ z;obtain ⟨e1,_⟩:=hok b _ z;obtain ⟨e2,_⟩:=hok' b _ z2;rw [e] at e1;cases e1;exact e2
 cases hk:K.lookup a with
 | some o=>
  have e:=KX a o hk;rw [ha] at e;cases e;refine core (λ_=>none) (λ_=>.inl rfl) (.inr ⟨_,vs.toArray,_,hk,rfl,rfl,rfl,by rw [zY,lenV];exact hl,by simpa using rv⟩) (λb u z=>by have z':(none:Option HO)=some u:=z;cases z') (λb z=>absurd rfl z) λz=>absurd rfl z
 | none=>
  refine core (λb=>if b=a then some (.frz {cls:=.type "list",data:=.seq vs.toArray} (.lst (ns.map V.int))) else none) (λb=> ?_) (.inl (.inr ⟨{cls:=.type "list",data:=.seq vs.toArray},if_pos rfl⟩)) (λb u z=> ?_) (λb z=> ?_) λ_=>hk
  ·by_cases hb:b=a
   ·exact .inr ⟨_,_,if_pos hb⟩
   ·exact .inl (if_neg hb)
  ·by_cases hb:b=a
   ·have z':=(if_pos hb).symm.trans z;cases z';subst hb;exact ⟨ha,by rw [zT];exact hl,vs,_,rv,ha⟩
   ·have z':=(if_neg hb).symm.trans z;cases z'
  ·by_cases hb:b=a
   ·exact hb
   ·exact absurd (if_neg hb) z
theorem ZM7 {l:PySem.W.OpenLaw} {n:Nat} {q:Program} {loose:List Str} {XP:(Str->Option Value)->Heap->Prop} {YP:World->Heap->Prop} {d:DefRec} {K:World->PySem.W.Frag} {CX:World->CXT} {sp:World->Sp} 
  (hn:l.most=some n) (hn2:n<=sizeLine) (hdf:d.params.defaults= []) (hr:Room k callerA)
  (hY:∀(w:World) (h:Heap),YP w h->(K w).In h)
  (F:∀(w:World) (mg:Str->Option Value) (fa:Addr) (h:Heap),(K w).In h->h.Ns mainGlobals mg->mg d.name=some (.ref fa)->
   ∃fd:FuncData,(∀(s:Shared) (u:Value),BindsTo s fd ⟨[u],[]⟩ [(x,u)])/\
    ∀base:Heap,(K w).In base->base.Ns mainGlobals mg->FnOk l.prog w (K w) mg base (CX w) k fa fd [x] (sp w))
  (hsp:∀(w:World) (H:Hp) (a:Addr) (ns:List Int),ns.length<=n->Only H->SqL (K w) H a (ns.map V.int)->sp w [.ref a] H (λv _=>v=.bl true) λ_ _ _=>False)
  (hCX:∀(w:World) (H:Hp) (s:Shared) (e:Value) (s':Shared),CX w [] H s (λ_ _ _=>False) e s'->False):
  PySem.W.WalkO q loose XP YP l.row.toRowW d [] (λf vs=>PySem.call f vs):=by
 refine Att.ZJq hn hdf λw s₀ s₁ mg mb fa o pm cd doc a vs ns G Y ho hd hcd hmg hobj hints hlen hg=> ?_
 have KX:=hY w _ Y;obtain ⟨fd,hb,hF⟩:=F w mg fa _ KX G.T.g hmg;exact ZL7 KX G.T.g G.T.b G.T.builtins G.T.nolimit hg hobj hints (z5 hlen hn2) hr hF hb (λH hO hS=>hsp w H a ns hlen hO hS) λH e s'=>hCX w H s₁ e s'
noncomputable def K6 (s:Stmt):Arguments:=match s with
 | .FunctionDef _ a _ _ _ _ _ _ _ _=>a
 | _=>{posonlyargs:= [],args:= [],vararg:=none,kwonlyargs:= [],kw_defaults:= [],kwarg:=none,defaults:= []}
def Iz (s:Stmt):List Stmt:=match s with
 | .FunctionDef _ _ b _ _ _ _ _ _ _=>b
 | _=> []
noncomputable def Aw (s:Stmt):Scope:=match s with
 | .FunctionDef _ _ _ _ _ _ sc _ _ _=>sc
 | _=>{kind:=.function,names:= [],isGenerator:=false,isCoroutine:=false}
abbrev CX0:CXT:=λ_ _ _ _ _ _=>False
abbrev E0:XK:=λ_ _ _=>False
theorem pass0 {X:Cx}:Passes CX0 X E0:=λ_ _ _ _ _ _ _ h=>h.elim
structure Fun (K:PySem.W.Frag) (x qual:Str) (st:Stmt) (f:Addr) (fd:FuncData):Prop where
 ex:∃(oc:Value) (od:Option Addr) (kV doc pm:Value) (an:Option Addr) (cdv ct:Value) (osl:Array (Option Value)),
  fd=PySem.W.fnOf x qual (K6 st) (Iz st) (Aw st) .none kV doc pm an cdv ct/\K.lookup f=some ⟨oc,od,.func fd,osl⟩/\PySem.W.codeIn K cdv qual=true
 kp:PySem.W.keepIn K (.ref f)=true
section
variable {P:Program} {w:World} {K:PySem.W.Frag} {mg:Str->Option Value} {base:Heap}
theorem Fun.ok {qual:Str} {st:Stmt} {f:Addr} {N ps:List Str} {sp:Sp} (F:Fun K x qual st f fd) (S:FnScope N ps (Aw st)) (len:∀vs H Q E,sp vs H Q E->vs.length=ps.length)
  (hbody:∀(cdv:Value) (A:Around) (outer:List Env) (s:Shared) (H:Hp) (vs:List V) (Q:VK) (E:XK),Room k (A.deeper (envOfC qual (Aw st) s.heap.objs.size f cdv))->sp vs H Q E->
   ∃t,PSs (Nv CX0 P w K mg base N qual (Aw st) f cdv A outer s H E).nox (Iz st) t/\t {nx:=λ_ H'=>Q .non H',rt:=Q} (start N vs) H):FnOk P w K mg base CX0 (k + 1) f fd ps sp:=by
 obtain ⟨oc,od,kV,doc,pm,an,cdv,ct,osl,rfl,lk,hcd⟩:=F.ex;refine ZPS lk hcd S len λA outer s H vs Q E hr hsp=> ?_
 obtain ⟨t,h,q⟩:=hbody cdv A outer s H vs Q E hr hsp;exact ⟨t,h.nox,q⟩
theorem Fun.binds {qual:Str} {st:Stmt} {f:Addr} {ps:List Str} (F:Fun K x qual st f fd)
  (h:∀(kV doc pm:Value) (an:Option Addr) (cdv ct:Value) (us:List Value),us.length=ps.length->bindArgs (PySem.W.fnOf x qual (K6 st) (Iz st) (Aw st) .none kV doc pm an cdv ct) ⟨us,[]⟩=pure (ps.zip us)):Binds K fd ps []:=by
 obtain ⟨oc,od,kV,doc,pm,an,cdv,ct,osl,rfl,lk,hcd⟩:=F.ex;exact .all (h kV doc pm an cdv ct)
end
section
variable {X:Cx}
end
section
variable {κ:Type} [DecidableEq κ]
end
section
variable {P:Program} {w:World} {H:Hp} {h:Heap} {a:Addr}
end
section
variable {X:Cx} {pins:List (Addr×Obj)} {σ:St} {H:Hp} {s:Shared} {a:Addr} {y v:V} {u r:Value} {o:Option V} {A:Around} {E:Value->Shared->Prop}
end
section
variable {X:Cx} {pins:List (Addr×Obj)} {σ:St} {H:Hp} {s:Shared} {a:Addr} {kvs:List (Key×V)} {k:Key} {u:Value} {A:Around} {E:Value->Shared->Prop}
end
section
variable {X:Cx} {o i e value:Expr} {pos pos' tpos:Pos} {td ty tv:TE}
end
section
variable {X:Cx} {pos:Pos}
end
section
variable {X:Cx} {pins:List (Addr×Obj)} {σ:St} {H:Hp} {s:Shared} {a:Addr} {y d:V} {u r:Value} {o:Option V} {A:Around} {E:Value->Shared->Prop}
end
section
variable {X:Cx} {o e f:Expr} {apos cpos:Pos} {td ty tx:TE}
end
section
variable {X:Cx} {pins:List (Addr×Obj)} {σ:St} {H:Hp} {s:Shared} {a:Addr} {kvs:List (Key×V)} {A:Around} {E:Value->Shared->Prop}
end
section
variable {X:Cx} {pins:List (Addr×Obj)} {σ:St} {H:Hp} {s:Shared} {a:Addr} {y:V} {u:Value} {A:Around} {E:Value->Shared->Prop}
end
section
variable {X:Cx}
end
end L2
namespace L2
section
variable {κ:Type} [DecidableEq κ]
end
end L2
namespace DL
open PySem PySem.Spec L2
open PyProof.Rows hiding St
variable {α β:Type} {K:PySem.W.Frag} {H:Hp} {p:Addr} {v:V} {vs:List V} {σ:St} {E:XK} {Q:VK} {W:Ends} {e tg:Expr} {ho:HO} {i j k nt:Nat} {x:Str} {A:Around} {s:Shared} {P:Program} {w:World} {scope:Scope} {env:Env} {X:Cx}
inductive D where
 | non | bl (b:Bool) | int (i:Int) | str (x:Str) | ty (n:String)
 | tup (xs:List D)
 | fl (xs:List D)
 | ref (i:Nat)
variable {d:D} {ds xs:List D}
inductive DO where
 | lst (xs:List D)
 | dct (kvs:List (Key×D))
 | ins (c:Str) (fs:List (Str×D))
 | tab (c m:Str)
 | gone
variable {o:DO}
abbrev DH:=List DO
variable {G G' L:DH}
abbrev DSt:=List (Option D)
variable {S:DSt}
structure Xn where
 cls:Str
 fs:List (Str×D)
inductive R (α:Type) where
 | ok (a:α) (G:DH)
 | err (x:Xn) (G:DH)
 | bad
variable {r:R D} {f:D->D->DH->R D}
noncomputable def R.bind {α β:Type} (r:R α) (f:α->DH->R β):R β:=match r with
 | .ok a G=>f a G
 | .err x G=>.err x G
 | .bad=>.bad
@[simp] theorem R.K8 (a:α) (G:DH) (f:α->DH->R β):(R.ok a G).bind f=f a G:=id rfl
@[simp] theorem R.ZQ3 (f:α->DH->R β):(R.bad:R α).bind f=.bad:=id rfl
inductive SR where
 | nx (S:DSt) (G:DH)
 | rt (d:D) (G:DH)
 | bk (S:DSt) (G:DH)
 | ct (S:DSt) (G:DH)
 | err (x:Xn) (G:DH)
 | bad
abbrev DE:=DSt->DH->R D
variable {t te:DE}
abbrev DB:=DSt->DH->R Bool
variable {c:DB}
abbrev DA:=DSt->DH->R (List D)
abbrev DS:=DSt->DH->SR
variable {u:DS}
noncomputable def FzL (K:PySem.W.Frag) (H:Hp) (a:Addr) (xs:List V):Prop:=
 (∃o,H a=some (.frz o (.lst xs)))∨
  ∃(o:Obj) (its:Array Value) (n:Nat),K.lookup a=some o/\o.cls=.type "list"/\o.dict=none/\o.data=.seq its n/\its.size<=sizeLine/\Vals xs its.toList
theorem FzL.sq {a:Addr} {xs:List V} (h:FzL K H a xs):SqL K H a xs:=by
 rcases h with ⟨o,h⟩ | h
 ·exact .inl (.inr ⟨o,h⟩)
 ·exact .inr h
structure Wd where
 K:PySem.W.Frag
 n:Nat
 m:Nat->Addr
 H:Hp
variable {a b:Wd}
mutual
noncomputable def Rep (a:Wd):D->V->Prop
 | .non,v=>v=.non
 | .bl b,v=>v=.bl b
 | .int i,v=>v=.int i
 | .str x,v=>v=.str x
 | .ty n,v=>v=.ty n
 | .tup ds,v=>∃p vs,v=.ref p/\SqT a.K a.H p vs/\Reps a ds vs
 | .fl ds,v=>∃p vs,v=.ref p/\FzL a.K a.H p vs/\Reps a ds vs
 | .ref i,v=>i < a.n/\v=.ref (a.m i)
noncomputable def Reps (a:Wd):List D->List V->Prop
 | [],vs=>vs= []
 | d::ds,vs=>∃v r,vs=v::r/\Rep a d v/\Reps a ds r
end
def lamQ:Str:="Sending.send_by.<locals>.<lambda>"
noncomputable def TabOk (H:Hp) (P:Addr):Prop:=
 ∃ps:Array Value,H P=some (.tbl ps)/\TriplesOk ps.toList/\∀pos cv,codeAmong pos ps.toList=some cv->∃(c:Addr) (oc:Obj) (vs:Array Value) (t:Tok),cv=.ref c/\H c=some (.frz oc (.own 0))/\oc.data=.fields vs/\vs[1]? =some (.str lamQ t)
theorem TabOk.mono {H':Hp} {P:Addr} (h:TabOk H P) (ht:∀p ps,H p=some (.tbl ps)->H' p=some (.tbl ps)) (hf:∀p o u,H p=some (.frz o u)->H' p=some (.frz o u)):TabOk H' P:=by obtain ⟨ps,e,t,k⟩:=h;refine ⟨ps,ht _ _ e,t,λpos cv hc=> ?_⟩;obtain ⟨c,oc,vs,tk,e1,e2,e3,e4⟩:=k pos cv hc;exact ⟨c,oc,vs,tk,e1,hf _ _ _ e2,e3,e4⟩
noncomputable def TabAt (K:PySem.W.Frag) (C m:Str) (c P:Addr):Prop:=
 ∃(Ca f:Addr) (oc:Value) (od:Option Addr) (fd:FuncData) (sl:Array (Option Value)),PySem.W.nsIn K mainGlobals C=some (some (.ref Ca))/\PySem.W.findIn K (.ref Ca) m=some (some (.ref f))/\K.lookup f=some ⟨oc,od,.func fd,sl⟩/\fd.code=.ref c/\PySem.W.codeHdIn K c P=true
structure Ext (a b:Wd):Prop where
 k:b.K=a.K
 n:a.n<=b.n
 m:∀i,i < a.n->b.m i=a.m i
 tup:∀p xs,a.H p=some (.tup xs)->b.H p=some (.tup xs)
 frz:∀p o u,a.H p=some (.frz o u)->b.H p=some (.frz o u)
 tab:∀p,TabOk a.H p->TabOk b.H p
theorem Ext.refl (a:Wd):Ext a a:=⟨rfl,zK _,λ_ _=>rfl,λ_ _ h=>h,λ_ _ _ h=>h,λ_ h=>h⟩
theorem Ext.trans {c:Wd} (x:Ext a b) (y:Ext b c):Ext a c:=
 ⟨y.k.trans x.k,z5 x.n y.n,λi h=>(y.m i (zq h x.n)).trans (x.m i h),λp xs h=>y.tup p xs (x.tup p xs h),λp o u h=>y.frz p o u (x.frz p o u h),λp h=>y.tab p (x.tab p h)⟩
theorem Ext.sqT (x:Ext a b) {xs:List V} (h:SqT a.K a.H p xs):SqT b.K b.H p xs:=by
 rcases h with (h | ⟨o,h⟩) | h
 ·exact .inl (.inl (x.tup _ _ h))
 ·exact .inl (.inr ⟨o,x.frz _ _ _ h⟩)
 ·exact .inr (by rw [x.k];exact h)
theorem Ext.fzL (x:Ext a b) {xs:List V} (h:FzL a.K a.H p xs):FzL b.K b.H p xs:=by
 rcases h with ⟨o,h⟩ | h
 ·exact .inl ⟨o,x.frz _ _ _ h⟩
 ·exact .inr (by rw [x.k];exact h)
mutual
theorem Rep.mono (x:Ext a b):∀{d:D} {v:V},Rep a d v->Rep b d v
 | .non,_,h=>h
 | .bl _,_,h=>h
 | .int _,_,h=>h
 | .str _,_,h=>h
 | .ty _,_,h=>h
 | .tup ds,v,h=>by obtain ⟨p,vs,e,q,r⟩:=h;exact ⟨p,vs,e,x.sqT q,Reps.mono x r⟩
 | .fl ds,v,h=>by obtain ⟨p,vs,e,q,r⟩:=h;exact ⟨p,vs,e,x.fzL q,Reps.mono x r⟩
 | .ref i,v,h=>by obtain ⟨l,e⟩:=h;exact ⟨zq l x.n,by rw [x.m i l];exact e⟩
theorem Reps.mono (x:Ext a b):∀{ds:List D} {vs:List V},Reps a ds vs->Reps b ds vs
 | [],_,h=>h
 | d::ds,vs,h=>by obtain ⟨v,r,e,h1,h2⟩:=h;exact ⟨v,r,e,Rep.mono x h1,Reps.mono x h2⟩
end
theorem Reps.length:∀{ds:List D} {vs:List V},Reps a ds vs->ds.length=vs.length
 | [],vs,h=>by cases (show vs= [] from h);rfl
 | d::ds,vs,h=>by obtain ⟨v,r,e,h1,h2⟩:=h;subst e;show ds.length + 1=r.length + 1;rw [Reps.length h2]
theorem Reps.get:∀{ds:List D} {vs:List V} {i:Nat} {d:D},Reps a ds vs->ds[i]? =some d->∃v,vs[i]? =some v/\Rep a d v
 | [],vs,_,_,h,e=>by simp at e
 | d::ds,vs,0,d',h,e=>by obtain ⟨v,r,e1,h1,h2⟩:=h;subst e1;simp at e;subst e;exact ⟨v,rfl,h1⟩
 | d::ds,vs,i + 1,d',h,e=>by obtain ⟨v,r,e1,h1,h2⟩:=h;subst e1;obtain ⟨w,e2,h3⟩:=Reps.get (i:=i) (d:=d') h2 (by simpa using e);exact ⟨w,by simpa using e2,h3⟩
theorem Reps.get':∀{ds:List D} {vs:List V} {i:Nat} {v:V},Reps a ds vs->vs[i]? =some v->∃d,ds[i]? =some d/\Rep a d v
 | [],vs,_,_,h,e=>by cases (show vs= [] from h);simp at e
 | d::ds,vs,0,v',h,e=>by obtain ⟨v,r,e1,h1,h2⟩:=h;subst e1;simp at e;subst e;exact ⟨d,rfl,h1⟩
 | d::ds,vs,i + 1,v',h,e=>by obtain ⟨v,r,e1,h1,h2⟩:=h;subst e1;obtain ⟨w,e2,h3⟩:=Reps.get' (i:=i) (v:=v') h2 (by simpa using e);exact ⟨w,by simpa using e2,h3⟩
theorem Reps.append:∀{ds es:List D} {vs us:List V},Reps a ds vs->Reps a es us->Reps a (ds++es) (vs++us)
 | [],_,vs,_,h,h'=>by cases (show vs= [] from h);exact h'
 | d::ds,es,vs,us,h,h'=>by obtain ⟨v,r,e1,h1,h2⟩:=h;subst e1;exact ⟨v,r++us,rfl,h1,Reps.append h2 h'⟩
theorem Reps.cons (h:Rep a d v) (r:Reps a ds vs):Reps a (d::ds) (v::vs):=⟨v,vs,rfl,h,r⟩
theorem Reps.nil:Reps a [] []:=rfl
theorem Reps.set (h:Rep a d v):∀{ds:List D} {vs:List V} (i:Nat),Reps a ds vs->Reps a (ds.set i d) (vs.set i v)
 | [],vs,_,r=>by cases (show vs= [] from r);exact rfl
 | d'::ds,vs,0,r=>by obtain ⟨v',r',e1,h1,h2⟩:=r;subst e1;exact ⟨v,r',rfl,h,h2⟩
 | d'::ds,vs,i + 1,r=>by obtain ⟨v',r',e1,h1,h2⟩:=r;subst e1;exact ⟨v',r'.set i v,rfl,h1,Reps.set h i h2⟩
theorem Reps.take:∀{ds:List D} {vs:List V} (i:Nat),Reps a ds vs->Reps a (ds.take i) (vs.take i)
 | _,_,0,_=>rfl
 | [],vs,_ + 1,r=>by cases (show vs= [] from r);exact rfl
 | d'::ds,vs,i + 1,r=>by obtain ⟨v',r',e1,h1,h2⟩:=r;subst e1;exact ⟨v',r'.take i,rfl,h1,Reps.take i h2⟩
theorem Reps.drop:∀{ds:List D} {vs:List V} (i:Nat),Reps a ds vs->Reps a (ds.drop i) (vs.drop i)
 | _,_,0,r=>r
 | [],vs,_ + 1,r=>by cases (show vs= [] from r);exact rfl
 | d'::ds,vs,i + 1,r=>by obtain ⟨v',r',e1,h1,h2⟩:=r;subst e1;exact Reps.drop i h2
theorem Reps.ints:∀(ns:List Int),Reps a (ns.map D.int) (ns.map V.int)
 | []=>rfl
 | n::ns=>⟨.int n,ns.map V.int,rfl,rfl,Reps.ints ns⟩
noncomputable def RepKV (a:Wd) (kvs:List (Key×D)) (us:List (Key×V)):Prop:=kvs.map (·.1)=us.map (·.1)/\Reps a (kvs.map (·.2)) (us.map (·.2))
noncomputable def RepF (a:Wd) (fs:List (Str×D)) (us:List (Str×V)):Prop:=fs.map (·.1)=us.map (·.1)/\Reps a (fs.map (·.2)) (us.map (·.2))
noncomputable def ORep (a:Wd):DO->Option HO->Prop
 | .lst ds,o=>∃vs,o=some (.lst vs)/\Reps a ds vs
 | .dct kvs,o=>∃us,o=some (.dK us)/\RepKV a kvs us
 | .ins c fs,o=>∃C dx us,PySem.W.nsIn a.K mainGlobals c=some (some (.ref C))/\o=some (.ins C dx us)/\RepF a fs us
 | .tab C m,_=>∃c P,TabAt a.K C m c P/\TabOk a.H P
 | .gone,_=>True
structure Sim (a:Wd) (G:DH):Prop where
 len:G.length=a.n
 inj:∀i j,i < a.n->j < a.n->a.m i=a.m j->i=j
 obj:∀(i:Nat) (o:DO),G[i]? =some o->ORep a o (a.H (a.m i))
 tr:∀i,i < a.n->a.H (a.m i)≠none
structure RepS (a:Wd) (S:DSt) (σ:St):Prop where
 len:S.length=σ.length
 get:∀(i:Nat) (d:D),S[i]? =some (some d)->∃v,σ[i]? =some (some v)/\Rep a d v
theorem RepS.mono (x:Ext a b) (r:RepS a S σ):RepS b S σ:=⟨r.len,λi d h=>let ⟨v,e,q⟩:=r.get i d h;⟨v,e,q.mono x⟩⟩
theorem RepS.set (r:RepS a S σ) (i:Nat) (h:Rep a d v):RepS a (S.set i (some d)) (σ.set i (some v)):=by
 refine ⟨by simpa using r.len,λj e he=> ?_⟩;rw [qT] at he ⊢;by_cases hij:i=j
 ·subst hij;rw [if_pos rfl] at he ⊢;by_cases hl:i < S.length
  ·rw [if_pos hl] at he;have e1:d=e:=by simpa using he
   subst e1;rw [if_pos (by rw [<-r.len];exact hl)];exact ⟨v,rfl,h⟩
  ·rw [if_neg hl] at he;cases he
 ·rw [if_neg hij] at he ⊢;exact r.get j e he
def XOk (E:XK) (a:Wd) (x:Xn) (G:DH):Prop:=False
noncomputable def out (E:XK) (a:Wd) (r:R D) (Q:VK):Prop:=match r with
 | .ok d G=>∀(b:Wd) (v:V),Ext a b->Sim b G->Rep b d v->Q v b.H
 | .err x G=>XOk E a x G
 | .bad=>False
noncomputable def Hg (E:XK) (a:Wd) (r:R Bool) (Q:Bool->Hp->Prop):Prop:=match r with
 | .ok k G=>∀(b:Wd),Ext a b->Sim b G->Q k b.H
 | .err x G=>XOk E a x G
 | .bad=>False
noncomputable def Hf (E:XK) (a:Wd) (r:R (List D)) (Q:List V->Hp->Prop):Prop:=match r with
 | .ok ds G=>∀(b:Wd) (vs:List V),Ext a b->Sim b G->Reps b ds vs->Q vs b.H
 | .err x G=>XOk E a x G
 | .bad=>False
noncomputable def Dg (E:XK) (a:Wd) (r:SR) (W:Ends):Prop:=match r with
 | .nx S G=>∀(b:Wd) (σ:St),Ext a b->Sim b G->RepS b S σ->W.nx σ b.H
 | .bk S G=>∀(b:Wd) (σ:St),Ext a b->Sim b G->RepS b S σ->W.bk σ b.H
 | .ct S G=>∀(b:Wd) (σ:St),Ext a b->Sim b G->RepS b S σ->W.ct σ b.H
 | .rt d G=>∀(b:Wd) (v:V),Ext a b->Sim b G->Rep b d v->W.rt v b.H
 | .err x G=>XOk E a x G
 | .bad=>False
theorem XOk.mono (x:Ext a b) {e:Xn} (h:XOk E a e G):XOk E b e G:=h
theorem out.mono (x:Ext a b) (h:out E a r Q):out E b r Q:=by
 cases r with
 | ok d G=>exact λc v y s q=>h c v (x.trans y) s q
 | err e G=>exact XOk.mono (E:=E) (e:=e) (G:=G) x h
 | bad=>exact h
theorem Hg.mono (x:Ext a b) {r:R Bool} {Q:Bool->Hp->Prop} (h:Hg E a r Q):Hg E b r Q:=by
 cases r with
 | ok d G=>exact λc y s=>h c (x.trans y) s
 | err e G=>exact XOk.mono (E:=E) (e:=e) (G:=G) x h
 | bad=>exact h
theorem Hf.mono (x:Ext a b) {r:R (List D)} {Q:List V->Hp->Prop} (h:Hf E a r Q):Hf E b r Q:=by
 cases r with
 | ok d G=>exact λc vs y s q=>h c vs (x.trans y) s q
 | err e G=>exact XOk.mono (E:=E) (e:=e) (G:=G) x h
 | bad=>exact h
theorem Dg.mono (x:Ext a b) {r:SR} (h:Dg E a r W):Dg E b r W:=by
 cases r with
 | nx d G=>exact λc vs y s q=>h c vs (x.trans y) s q
 | bk d G=>exact λc vs y s q=>h c vs (x.trans y) s q
 | ct d G=>exact λc vs y s q=>h c vs (x.trans y) s q
 | rt d G=>exact λc vs y s q=>h c vs (x.trans y) s q
 | err e G=>exact XOk.mono (E:=E) (e:=e) (G:=G) x h
 | bad=>exact h
noncomputable def lE (K:PySem.W.Frag) (E:XK) (t:DE):TE:=λσ H Q=>∃(a:Wd) (S:DSt) (G:DH),a.K=K/\a.H=H/\Sim a G/\RepS a S σ/\out E a (t S G) Q
noncomputable def lB (K:PySem.W.Frag) (E:XK) (t:DB):TT:=λσ H Q=>∃(a:Wd) (S:DSt) (G:DH),a.K=K/\a.H=H/\Sim a G/\RepS a S σ/\Hg E a (t S G) Q
noncomputable def lA (K:PySem.W.Frag) (E:XK) (t:DA):TA:=λσ H Q=>∃(a:Wd) (S:DSt) (G:DH),a.K=K/\a.H=H/\Sim a G/\RepS a S σ/\Hf E a (t S G) Q
noncomputable def lS (K:PySem.W.Frag) (E:XK) (t:DS):TS:=λW σ H=>∃(a:Wd) (S:DSt) (G:DH),a.K=K/\a.H=H/\Sim a G/\RepS a S σ/\Dg E a (t S G) W
noncomputable def lR2 (K:PySem.W.Frag) (E:XK) (f:D->D->DH->R D):R2:=λx y H Q=>∃(a:Wd) (G:DH) (d e:D),a.K=K/\a.H=H/\Sim a G/\Rep a d x/\Rep a e y/\out E a (f d e G) Q
noncomputable def lR1 (K:PySem.W.Frag) (E:XK) (f:D->DH->R D):V->Hp->VK->Prop:=λx H Q=>∃(a:Wd) (G:DH) (d:D),a.K=K/\a.H=H/\Sim a G/\Rep a d x/\out E a (f d G) Q
noncomputable def lRn (K:PySem.W.Frag) (E:XK) (f:List D->DH->R D):List V->Hp->VK->Prop:=λxs H Q=>∃(a:Wd) (G:DH) (ds:List D),a.K=K/\a.H=H/\Sim a G/\Reps a ds xs/\out E a (f ds G) Q
noncomputable def lF (K:PySem.W.Frag) (f:List D->DH->R D):Sp:=λxs H Q E=>∃(a:Wd) (G:DH) (ds:List D),a.K=K/\a.H=H/\Sim a G/\Reps a ds xs/\out E a (f ds G) Q
section
variable {X:Cx} {E:XK}
def QE (X:Cx) (E:XK) (e:Expr) (t:DE):Prop:=PE X e (lE X.K E t)
def QT (X:Cx) (E:XK) (e:Expr) (t:DB):Prop:=PT X e (lB X.K E t)
def QA (X:Cx) (E:XK) (es:List Expr) (t:DA):Prop:=PA X es (lA X.K E t)
def QS (X:Cx) (E:XK) (st:Stmt) (t:DS):Prop:=PS X st (lS X.K E t)
def QSs (X:Cx) (E:XK) (st:List Stmt) (t:DS):Prop:=PSs X st (lS X.K E t)
theorem _root_.L2.PE.mono {t t':TE} (h:PE X e t) (w:∀σ H Q,t' σ H Q->t σ H Q):PE X e t':=λpins s σ H Q I q=>h pins s σ H Q I (w σ H Q q)
theorem _root_.L2.PT.mono {t t':TT} (h:PT X e t) (w:∀σ H Q,t' σ H Q->t σ H Q):PT X e t':=λpins s σ H Q I q=>h pins s σ H Q I (w σ H Q q)
theorem _root_.L2.PA.mono {e:List Expr} {t t':TA} (h:PA X e t) (w:∀σ H Q,t' σ H Q->t σ H Q):PA X e t':=λpos pins s σ H Q I q=>h pos pins s σ H Q I (w σ H Q q)
theorem _root_.L2.PS.mono {e:Stmt} {t t':TS} (h:PS X e t) (w:∀W σ H,t' W σ H->t W σ H):PS X e t':=λpins s σ H W I q=>h pins s σ H W I (w W σ H q)
theorem _root_.L2.PSs.mono {e:List Stmt} {t t':TS} (h:PSs X e t) (w:∀W σ H,t' W σ H->t W σ H):PSs X e t':=λpins s σ H W I q=>h pins s σ H W I (w W σ H q)
theorem _root_.L2.OpR.mono {f:Value->Value->Sem Value} {r r':R2} (h:OpR X f r) (w:∀x y H Q,r' x y H Q->r x y H Q):OpR X f r':=λpins s σ H x y v u Q I rx ry q=>h pins s σ H x y v u Q I rx ry (w _ _ _ _ q)
end
theorem Gw {f:D->DH->R D} (h:out E a (r.bind f) Q):
  out E a r (λv H=>∃(b:Wd) (d:D) (G:DH),b.H=H/\Ext a b/\Sim b G/\Rep b d v/\r=.ok d G/\out E b (f d G) Q):=by
 cases r with
 | ok d G=>exact λb v x s q=>⟨b,d,G,rfl,x,s,q,rfl,out.mono x h⟩
 | err e G=>exact h
 | bad=>exact h
theorem Nf {r:R (List D)} {f:List D->DH->R D} (h:out E a (r.bind f) Q):
  Hf E a r (λvs H=>∃(b:Wd) (ds:List D) (G:DH),b.H=H/\Ext a b/\Sim b G/\Reps b ds vs/\r=.ok ds G/\out E b (f ds G) Q):=by
 cases r with
 | ok d G=>exact λb v x s q=>⟨b,d,G,rfl,x,s,q,rfl,out.mono x h⟩
 | err e G=>exact h
 | bad=>exact h
theorem ZHT {r:R Bool} {f:Bool->DH->R D} (h:out E a (r.bind f) Q):
  Hg E a r (λk H=>∃(b:Wd) (G:DH),b.H=H/\Ext a b/\Sim b G/\r=.ok k G/\out E b (f k G) Q):=by
 cases r with
 | ok d G=>exact λb x s=>⟨b,G,rfl,x,s,rfl,out.mono x h⟩
 | err e G=>exact h
 | bad=>exact h
theorem ZMA {f:D->DH->R Bool} {Q:Bool->Hp->Prop} (h:Hg E a (r.bind f) Q):
  out E a r (λv H=>∃(b:Wd) (d:D) (G:DH),b.H=H/\Ext a b/\Sim b G/\Rep b d v/\r=.ok d G/\Hg E b (f d G) Q):=by
 cases r with
 | ok d G=>exact λb v x s q=>⟨b,d,G,rfl,x,s,q,rfl,Hg.mono x h⟩
 | err e G=>exact h
 | bad=>exact h
theorem Z7 {r:R Bool} {f:Bool->DH->R Bool} {Q:Bool->Hp->Prop} (h:Hg E a (r.bind f) Q):
  Hg E a r (λk H=>∃(b:Wd) (G:DH),b.H=H/\Ext a b/\Sim b G/\r=.ok k G/\Hg E b (f k G) Q):=by
 cases r with
 | ok d G=>exact λb x s=>⟨b,G,rfl,x,s,rfl,Hg.mono x h⟩
 | err e G=>exact h
 | bad=>exact h
theorem ZPU {f:D->DH->R (List D)} {Q:List V->Hp->Prop} (h:Hf E a (r.bind f) Q):
  out E a r (λv H=>∃(b:Wd) (d:D) (G:DH),b.H=H/\Ext a b/\Sim b G/\Rep b d v/\r=.ok d G/\Hf E b (f d G) Q):=by
 cases r with
 | ok d G=>exact λb v x s q=>⟨b,d,G,rfl,x,s,q,rfl,Hf.mono x h⟩
 | err e G=>exact h
 | bad=>exact h
theorem ZOV {r:R (List D)} {f:List D->DH->R (List D)} {Q:List V->Hp->Prop} (h:Hf E a (r.bind f) Q):
  Hf E a r (λvs H=>∃(b:Wd) (ds:List D) (G:DH),b.H=H/\Ext a b/\Sim b G/\Reps b ds vs/\r=.ok ds G/\Hf E b (f ds G) Q):=by
 cases r with
 | ok d G=>exact λb v x s q=>⟨b,d,G,rfl,x,s,q,rfl,Hf.mono x h⟩
 | err e G=>exact h
 | bad=>exact h
noncomputable def R.toS {α:Type} (r:R α) (f:α->DH->SR):SR:=match r with
 | .ok a G=>f a G
 | .err x G=>.err x G
 | .bad=>.bad
@[simp] theorem R.Dj (a:α) (G:DH) (f:α->DH->SR):(R.ok a G).toS f=f a G:=id rfl
@[simp] theorem R.ZRK (f:α->DH->SR):(R.bad:R α).toS f=.bad:=id rfl
theorem Hz {f:D->DH->SR} (h:Dg E a (r.toS f) W):
  out E a r (λv H=>∃(b:Wd) (d:D) (G:DH),b.H=H/\Ext a b/\Sim b G/\Rep b d v/\r=.ok d G/\Dg E b (f d G) W):=by
 cases r with
 | ok d G=>exact λb v x s q=>⟨b,d,G,rfl,x,s,q,rfl,Dg.mono x h⟩
 | err e G=>exact h
 | bad=>exact h
theorem ZHl {r:R Bool} {f:Bool->DH->SR} (h:Dg E a (r.toS f) W):
  Hg E a r (λk H=>∃(b:Wd) (G:DH),b.H=H/\Ext a b/\Sim b G/\r=.ok k G/\Dg E b (f k G) W):=by
 cases r with
 | ok d G=>exact λb x s=>⟨b,G,rfl,x,s,rfl,Dg.mono x h⟩
 | err e G=>exact h
 | bad=>exact h
section
theorem out.imp {Q':VK} (h:out E a r Q) (w:∀v H,Q v H->Q' v H):out E a r Q':=by
 cases r with
 | ok d G=>exact λb v x s q=>w _ _ (h b v x s q)
 | err e G=>exact h
 | bad=>exact h
theorem Hf.imp {r:R (List D)} {Q Q':List V->Hp->Prop} (h:Hf E a r Q) (w:∀v H,Q v H->Q' v H):Hf E a r Q':=by
 cases r with
 | ok d G=>exact λb v x s q=>w _ _ (h b v x s q)
 | err e G=>exact h
 | bad=>exact h
theorem Hg.imp {r:R Bool} {Q Q':Bool->Hp->Prop} (h:Hg E a r Q) (w:∀v H,Q v H->Q' v H):Hg E a r Q':=by
 cases r with
 | ok d G=>exact λb x s=>w _ _ (h b x s)
 | err e G=>exact h
 | bad=>exact h
def Wd.push (a:Wd) (p:Addr) (ho:HO):Wd:=⟨a.K,a.n + 1,λk=>if k=a.n then p else a.m k,upd a.H p ho⟩
def Wd.put (a:Wd) (p:Addr) (ho:HO):Wd:={a with H:=upd a.H p ho}
theorem Ext.put (h:a.H p=none):Ext a (a.put p ho):=
 ⟨rfl,zK _,λ_ _=>rfl,λq xs e=>by show upd a.H p ho q=_;rw [Bf (Hx e h)];exact e,λq o u e=>by show upd a.H p ho q=_;rw [Bf (Hx e h)];exact e,λ_ t=>t.mono (λq ps e=>by show upd a.H p ho q=_;rw [Bf (Hx e h)];exact e) (λq o u e=>by show upd a.H p ho q=_;rw [Bf (Hx e h)];exact e)⟩
theorem Ext.push (h:a.H p=none):Ext a (a.push p ho):=
 ⟨rfl,jv _,λi hi=>by show (if i=a.n then p else a.m i)=a.m i;rw [if_neg (zB hi)],λq xs e=>by show upd a.H p ho q=_;rw [Bf (Hx e h)];exact e,λq o u e=>by show upd a.H p ho q=_;rw [Bf (Hx e h)];exact e,λ_ t=>t.mono (λq ps e=>by show upd a.H p ho q=_;rw [Bf (Hx e h)];exact e) (λq o u e=>by show upd a.H p ho q=_;rw [Bf (Hx e h)];exact e)⟩
theorem ORep.mono (x:Ext a b) {q:Option HO} (h:ORep a o q):ORep b o q:=by
 cases o with
 | lst ds=>obtain ⟨vs,e,r⟩:=h;exact ⟨vs,e,r.mono x⟩
 | dct kvs=>obtain ⟨us,e,k,r⟩:=h;exact ⟨us,e,k,r.mono x⟩
 | ins c fs=>obtain ⟨C,dx,us,n,e,k,r⟩:=h;exact ⟨C,dx,us,by rw [x.k];exact n,e,k,r.mono x⟩
 | tab C m=>obtain ⟨c,P,e,t⟩:=h;exact ⟨c,P,by rw [x.k];exact e,x.tab _ t⟩
 | gone=>trivial
theorem Sim.lt (s:Sim a G) (h:G[i]? =some o):i < a.n:=by rw [<-s.len];exact (zD.mp h).1
theorem Sim.put (s:Sim a G) (h:a.H p=none):Sim (a.put p ho) G:=by
 refine ⟨s.len,s.inj,λi o e=> ?_,λi hi=> ?_⟩
 ·have z:a.H (a.m i)≠none:=s.tr i (s.lt e);have ne:a.m i≠p:=λq=>z (by rw [q];exact h)
  show ORep _ o (upd a.H p ho (a.m i));rw [Bf ne];exact (s.obj i o e).mono (Ext.put h)
 ·have z:a.H (a.m i)≠none:=s.tr i hi;have ne:a.m i≠p:=λq=>z (by rw [q];exact h)
  show upd a.H p ho (a.m i)≠none;rw [Bf ne];exact z
theorem Sim.push (s:Sim a G) (h:a.H p=none) (r:ORep (a.push p ho) o (some ho)):Sim (a.push p ho) (G++ [o]):=by
 have nep:∀i,i < a.n->a.m i≠p:=λi hi q=>s.tr i hi (by rw [q];exact h)
 have old:∀i,i < a.n->(a.push p ho).m i=a.m i:=λi hi=>by show (if i=a.n then p else a.m i)=_;rw [if_neg (zB hi)]
 have new:(a.push p ho).m a.n=p:=by show (if a.n=a.n then p else a.m a.n)=_;rw [if_pos rfl]
 refine ⟨by simp [s.len,Wd.push],λi j hi hj e=> ?_,λi u e=> ?_,λi hi=> ?_⟩
 ·have hi':i < a.n + 1:=hi;have hj':j < a.n + 1:=hj;by_cases h1:i < a.n
  ·by_cases h2:j < a.n
   ·rw [old i h1,old j h2] at e;exact s.inj i j h1 h2 e
   ·have:j=a.n:=by lia
    subst this;rw [old i h1,new] at e;exact absurd e (nep i h1)
  ·have:i=a.n:=by lia
   subst this;by_cases h2:j < a.n
   ·rw [old j h2,new] at e;exact absurd e.symm (nep j h2)
   ·lia
 ·by_cases h1:i < a.n
  ·rw [zP (by rw [s.len];exact h1)] at e;rw [old i h1];show ORep _ u (upd a.H p ho (a.m i));rw [Bf (nep i h1)];exact (s.obj i u e).mono (Ext.push h)
  ·have hl:i < (G++ [o]).length:=(zD.mp e).1;have:i=a.n:=by rw [qX,s.len] at hl;simp at hl;lia
   subst this;rw [zG (by rw [s.len];exact zK _),s.len] at e;simp at e;subst e;rw [new];show ORep _ o (upd a.H p ho p);rw [Gz];exact r
 ·have hi':i < a.n + 1:=hi;by_cases h1:i < a.n
  ·rw [old i h1];show upd a.H p ho (a.m i)≠none;rw [Bf (nep i h1)];exact s.tr i h1
  ·have:i=a.n:=by lia
   subst this;rw [new];show upd a.H p ho p≠none;rw [Gz];simp
theorem Ext.wr (h:a.H p=some (.lst vs)):Ext a (a.put p ho):=
 ⟨rfl,zK _,λ_ _=>rfl,λq xs e=>by
  show upd a.H p ho q=_;rw [Bf (λz=>by subst z;rw [h] at e;cases e)];exact e,λq o u e=>by
  show upd a.H p ho q=_;rw [Bf (λz=>by subst z;rw [h] at e;cases e)];exact e,λ_ t=>t.mono (λq ps e=>by show upd a.H p ho q=_;rw [Bf (λz=>by subst z;rw [h] at e;cases e)];exact e) (λq o u e=>by show upd a.H p ho q=_;rw [Bf (λz=>by subst z;rw [h] at e;cases e)];exact e)⟩
theorem Sim.wr (s:Sim a G) (hi:i < a.n) {vs':List V} {ds':List D} (h:a.H (a.m i)=some (.lst vs)) (r:Reps (a.put (a.m i) (.lst vs')) ds' vs'):Sim (a.put (a.m i) (.lst vs')) (G.set i (.lst ds')):=by
 refine ⟨by rw [j3];exact s.len,s.inj,λj o e=> ?_,λj hj=> ?_⟩
 ·rw [qT] at e;show ORep _ o (upd a.H (a.m i) (.lst vs') (a.m j));by_cases hij:i=j
  ·subst hij;rw [if_pos rfl,if_pos (by rw [s.len];exact hi)] at e;cases e;rw [Gz];exact ⟨vs',rfl,r⟩
  ·rw [if_neg hij] at e;rw [Bf λz=>hij (s.inj _ _ (s.lt e) hi z).symm];exact (s.obj j o e).mono (Ext.wr h)
 ·show upd a.H (a.m i) (.lst vs') (a.m j)≠none;by_cases hij:a.m j=a.m i
  ·rw [hij,Gz];simp
  ·rw [Bf hij];exact s.tr j hj
mutual
noncomputable def bel (n:Nat):D->Bool
 | .ref i=>decide (i < n)
 | .tup ds=>bels n ds
 | .fl ds=>bels n ds
 | _=>true
noncomputable def bels (n:Nat):List D->Bool
 | []=>true
 | d::ds=>bel n d && bels n ds
end
noncomputable def Mp (n:Nat):DO->Bool
 | .lst ds=>bels n ds
 | .dct kvs=>bels n (kvs.map (·.2))
 | .ins _ fs=>bels n (fs.map (·.2))
 | .tab _ _=>true
 | .gone=>true
mutual
theorem Rep.bel:∀{d:D} {v:V},Rep a d v->bel a.n d=true
 | .non,_,_=>by simp [DL.bel]
 | .bl _,_,_=>by simp [DL.bel]
 | .int _,_,_=>by simp [DL.bel]
 | .str _,_,_=>by simp [DL.bel]
 | .ty _,_,_=>by simp [DL.bel]
 | .tup ds,v,h=>by obtain ⟨p,vs,e,q,r⟩:=h;simp only [DL.bel];exact Reps.bels r
 | .fl ds,v,h=>by obtain ⟨p,vs,e,q,r⟩:=h;simp only [DL.bel];exact Reps.bels r
 | .ref i,v,h=>by obtain ⟨l,e⟩:=h;simp only [DL.bel];exact decide_eq_true l
theorem Reps.bels:∀{ds:List D} {vs:List V},Reps a ds vs->bels a.n ds=true
 | [],_,_=>by simp [DL.bels]
 | d::ds,vs,h=>by
  obtain ⟨v,r,e,h1,h2⟩:=h;simp only [DL.bels];rw [Rep.bel h1,Reps.bels h2]
  rfl
end
structure Cut (b c:Wd):Prop where
 k:c.K=b.K
 h:c.H=b.H
mutual
theorem Rep.cut {c:Wd} (x:Cut b c) {n:Nat} (hn:n<=c.n) (hm:∀i,i < n->c.m i=b.m i):∀{d:D} {v:V},Rep b d v->bel n d=true->Rep c d v
 | .non,_,h,_=>h
 | .bl _,_,h,_=>h
 | .int _,_,h,_=>h
 | .str _,_,h,_=>h
 | .ty _,_,h,_=>h
 | .tup ds,v,h,q=>by obtain ⟨p,vs,e,t,r⟩:=h;simp only [DL.bel] at q;exact ⟨p,vs,e,by rw [x.k,x.h];exact t,Reps.cut x hn hm r q⟩
 | .fl ds,v,h,q=>by obtain ⟨p,vs,e,t,r⟩:=h;simp only [DL.bel] at q;exact ⟨p,vs,e,by rw [x.k,x.h];exact t,Reps.cut x hn hm r q⟩
 | .ref i,v,h,q=>by obtain ⟨l,e⟩:=h;simp only [DL.bel] at q;have q':=of_decide_eq_true q;exact ⟨zq q' hn,by rw [hm i q'];exact e⟩
theorem Reps.cut {c:Wd} (x:Cut b c) {n:Nat} (hn:n<=c.n) (hm:∀i,i < n->c.m i=b.m i):∀{ds:List D} {vs:List V},Reps b ds vs->bels n ds=true->Reps c ds vs
 | [],_,h,_=>h
 | d::ds,vs,h,q=>by obtain ⟨v,r,e,h1,h2⟩:=h;simp only [DL.bels,zF] at q;exact ⟨v,r,e,Rep.cut x hn hm h1 q.1,Reps.cut x hn hm h2 q.2⟩
end
theorem ORep.cut {c:Wd} (x:Cut b c) {n:Nat} (hn:n<=c.n) (hm:∀i,i < n->c.m i=b.m i) {q:Option HO} (h:ORep b o q) (l:Mp n o=true):ORep c o q:=by
 cases o with
 | lst ds=>obtain ⟨vs,e,r⟩:=h;exact ⟨vs,e,Reps.cut x hn hm r l⟩
 | dct kvs=>obtain ⟨us,e,k,r⟩:=h;exact ⟨us,e,k,Reps.cut x hn hm r l⟩
 | ins c fs=>obtain ⟨C,dx,us,n,e,k,r⟩:=h;exact ⟨C,dx,us,by rw [x.k];exact n,e,k,Reps.cut x hn hm r l⟩
 | tab C m=>obtain ⟨c,P,e,t⟩:=h;exact ⟨c,P,by rw [x.k];exact e,by rw [x.h];exact t⟩
 | gone=>trivial
theorem ORep.Mp {q:Option HO} (h:ORep a o q):Mp a.n o=true:=by
 cases o with
 | lst ds=>obtain ⟨vs,e,r⟩:=h;exact r.bels
 | dct kvs=>obtain ⟨us,e,k,r⟩:=h;exact r.bels
 | ins c fs=>obtain ⟨C,dx,us,n,e,k,r⟩:=h;exact r.bels
 | tab C m=>rfl
 | gone=>rfl
open Classical in
noncomputable def tidy (G:DH) (r:R D):R D:=match r with
 | .ok d G'=>if G'.take G.length=G then
   (if bel G.length d=true then .ok d G else match d with
    | .ref i=>match G'[i]? with
     | some o=>if Mp G.length o=true then .ok (.ref G.length) (G++ [o]) else .ok d G'
     | none=>.ok d G'
    | _=>.ok d G') else .ok d G'
 | r=>r
theorem ZDZ (s:Sim a G) (h:out E a (tidy G r) Q):out E a r Q:=by
 cases r with
 | err e G'=>exact h
 | bad=>exact h
 | ok d G'=>
  intro b v x sb rb;unfold tidy at h;dsimp only at h;split at h
  ·rename_i hG;have hlen:∀i o,G[i]? =some o->G'[i]? =some o:=λi o e=>by have hi:i < G.length:=(zD.mp e).1;rw [<-hG,jV hi] at e;exact e
   have base:∀(c:Wd),Cut b c->a.n<=c.n->(∀i,i < a.n->c.m i=b.m i)->∀i o,G[i]? =some o->ORep c o (c.H (c.m i)):=λc cc hn hm i o e=>by have q:=sb.obj i o (hlen i o e);rw [cc.h,hm i (s.lt e)];exact q.cut cc hn hm (s.obj i o e).Mp
   split at h
   ·rename_i hb;rw [s.len] at hb;let c:Wd:=⟨b.K,a.n,b.m,b.H⟩;have cc:Cut b c:=⟨rfl,rfl⟩;refine h c v ⟨x.k,zK _,x.m,x.tup,x.frz,x.tab⟩ ⟨s.len,λi j hi hj=>sb.inj i j (zq hi x.n) (zq hj x.n),base c cc (zK _) (λ_ _=>rfl),λi hi=>sb.tr i (zq hi x.n)⟩ ?_;exact rb.cut cc (zK _) (λ_ _=>rfl) hb
   ·rename_i hb;split at h
    ·rename_i i;obtain ⟨il,iv⟩:=rb;split at h
     ·rename_i o ho;split at h
      ·rename_i hbo;rw [s.len] at hbo hb h;simp only [DL.bel,decide_eq_true_eq] at hb;let c:Wd:=⟨b.K,a.n + 1,λk=>if k=a.n then b.m i else b.m k,b.H⟩;have cc:Cut b c:=⟨rfl,rfl⟩;have cm:∀j,j < a.n->c.m j=b.m j:=λj hj=>by show (if j=a.n then b.m i else b.m j)=_;rw [if_neg (zB hj)]
       have cn:c.m a.n=b.m i:=by show (if a.n=a.n then b.m i else b.m a.n)=_;rw [if_pos rfl]
       have lt':∀j,j < a.n->j < b.n:=λj hj=>zq hj x.n
       refine h c v ⟨x.k,jv _,λj hj=>(cm j hj).trans (x.m j hj),x.tup,x.frz,x.tab⟩ ⟨by simp [s.len,c],λj k hj hk e=> ?_,λj u e=> ?_,λj hj=> ?_⟩ ⟨qK _,by rw [cn];exact iv⟩
       ·have hj':j < a.n + 1:=hj;have hk':k < a.n + 1:=hk;by_cases h1:j < a.n
        ·by_cases h2:k < a.n
         ·rw [cm j h1,cm k h2] at e;exact sb.inj j k (lt' j h1) (lt' k h2) e
         ·have:k=a.n:=by lia
          subst this;rw [cm j h1,cn] at e;have:=sb.inj j i (lt' j h1) il e;lia
        ·have:j=a.n:=by lia
         subst this;by_cases h2:k < a.n
         ·rw [cm k h2,cn] at e;have:=sb.inj i k il (lt' k h2) e;lia
         ·lia
       ·by_cases h1:j < a.n
        ·rw [zP (by rw [s.len];exact h1)] at e;exact base c cc (jv _) cm j u e
        ·have hl:j < (G++ [o]).length:=(zD.mp e).1;have:j=a.n:=by rw [qX,s.len] at hl;simp at hl;lia
         subst this;rw [zG (by rw [s.len];exact zK _),s.len] at e;simp at e;subst e;rw [cn];exact (sb.obj i o ho).cut cc (jv _) cm hbo
       ·have hj':j < a.n + 1:=hj;by_cases h1:j < a.n
        ·rw [cm j h1];exact sb.tr j (lt' j h1)
        ·have:j=a.n:=by lia
         subst this;rw [cn];exact sb.tr i il
      ·exact h b v x sb ⟨il,iv⟩
     ·exact h b v x sb ⟨il,iv⟩
    ·exact h b v x sb rb
  ·exact h b v x sb rb
end
def dV (i:Nat):DE:=λS G=>match S[i]? with
 | some (some d)=>.ok d G
 | _=>.bad
def dC (d:D):DE:=λ_ G=>.ok d G
def dOp (f:D->D->DH->R D) (a b:DE):DE:=λS G=>(a S G).bind λx G1=>(b S G1).bind λy G2=>f x y G2
def dUn (f:D->DH->R D) (a:DE):DE:=λS G=>(a S G).bind f
def Ad:DA:=λ_ G=>.ok [] G
def Ab (a:DE) (r:DA):DA:=λS G=>(a S G).bind λx G1=>(r S G1).bind λxs G2=>.ok (x::xs) G2
def dFn (f:List D->DH->R D) (t:DA):DE:=λS G=>(t S G).bind f
def Et (t:DE):DE:=λS G=>tidy G (t S G)
def asB:D->DH->R Bool
 | .bl k,G=>.ok k G
 | _,_=>.bad
def Bc (t:DE):DB:=λS G=>(t S G).bind asB
def Pg (t u:DB):DB:=λS G=>(t S G).bind λk G1=>if k=true then u S G1 else .ok false G1
def dOr (t u:DB):DB:=λS G=>(t S G).bind λk G1=>if k=true then .ok true G1 else u S G1
def Lz (t:DB):DB:=λS G=>(t S G).bind λk G1=>.ok (!k) G1
noncomputable def Ov (t u:DE):DE:=λS G=>(t S G).bind λx G1=>(asB x G1).bind λk G2=>if k=true then u S G2 else .ok (.bl false) G2
noncomputable def Yx (t u:DE):DE:=λS G=>(t S G).bind λx G1=>(asB x G1).bind λk G2=>if k=true then .ok (.bl true) G2 else u S G2
def ZCA (t:DE):DE:=λS G=>(t S G).bind λx G1=>(asB x G1).bind λk G2=>.ok (.bl (!k)) G2
def dIf (c:DB) (t u:DE):DE:=λS G=>(c S G).bind λk G1=>if k=true then t S G1 else u S G1
noncomputable def Ww (f g:D->D->DH->R D) (a b c:DE):DE:=λS G=>(a S G).bind λx G1=>(b S G1).bind λy G2=>(f x y G2).bind λz G3=>(asB z G3).bind λk G4=>
 if k=true then (c S G4).bind λw G5=>g y w G5 else .ok (.bl false) G4
def Bo (ds:List D) (G:DH):R D:=if ds.length<=1000000 then .ok (.tup ds) G else .bad
noncomputable def Aq (ds:List D) (G:DH):R D:=if ds.length<=1000000 then .ok (.ref G.length) (G++ [.lst ds]) else .bad
noncomputable def Cj (d:D) (G:DH):Option (List D):=match d with
 | .tup xs=>some xs
 | .fl xs=>some xs
 | .ref i=>match G[i]? with
  | some (.lst xs)=>some xs
  | _=>none
 | _=>none
theorem size6:(1000000:Nat)<=sizeLine:=by decide
section
variable {X:Cx} {E:XK} {a b c:Expr} {ta tb tc:DE} {pos:Pos}
theorem two (h:lE K E (dOp f ta tb) σ H Q):tOp (lR2 K E f) (lE K E ta) (lE K E tb) σ H Q:=by obtain ⟨a,S,G,hk,rfl,s,r,h⟩:=h;refine ⟨a,S,G,hk,rfl,s,r,(Gw h).imp ?_⟩;rintro v _ ⟨b,d,G1,rfl,x,s1,q,_,h1⟩;refine ⟨b,S,G1,x.k.trans hk,rfl,s1,r.mono x,(Gw h1).imp ?_⟩;rintro w _ ⟨c,e,G2,rfl,y,s2,q2,_,h2⟩;exact ⟨c,G2,d,e,y.k.trans (x.k.trans hk),rfl,s2,q.mono y,q2,h2⟩
theorem Aa (i:Nat) {pos:Pos} (hN:X.N[i]? =some x:=by rfl) (hv:Vis X.env.scope x:=by first | exact Or.inl rfl | exact Or.inr (Or.inl rfl) | exact Or.inr (Or.inr rfl)) (hd:(x == ("__debug__":Str))=false:=by decide)
  (hcd:(x == ("__classdict__":Str))=false:=by decide):QE X E (.Name x pos) (dV i):=by
 refine (ZJu hN hv hd hcd).mono λσ H Q h=> ?_
 obtain ⟨a,S,G,hk,rfl,s,r,h⟩:=h;unfold dV at h;split at h
 ·rename_i d e;obtain ⟨v,e',q⟩:=r.get i d e;exact ⟨v,e',h a v (Ext.refl a) s q⟩
 ·exact h.elim
theorem Qo (h:lE K E (dC d) σ H Q) (r:∀a:Wd,a.K=K->Rep a d v):Q v H:=by obtain ⟨a,S,G,hk,rfl,s,_,h⟩:=h;exact h a v (Ext.refl a) s (r a hk)
theorem Ae {i:Int} :QE X E (.Constant (.int i) j pos) (dC (.int i)):=ZJb.mono λσ H Q h=>Qo h λ_ _=>rfl
theorem Ji {i:Bool} :QE X E (.Constant (.bool i) j pos) (dC (.bl i)):=ZMu.mono λσ H Q h=>Qo h λ_ _=>rfl
theorem Ik:QE X E (.Constant .none j pos) (dC .non):=ZQD.mono λσ H Q h=>Qo h λ_ _=>rfl
theorem Gf {i:Str} :QE X E (.Constant (.str i) j pos) (dC (.str i)):=ZJN.mono λσ H Q h=>Qo h λ_ _=>rfl
theorem Dc {u:Value} (hg:Gl X x) (hm:X.mg x=some u) (r:RelV v u) (rd:∀a:Wd,a.K=X.K->Rep a d v) (hd:(x == ("__debug__":Str))=false:=by decide):QE X E (.Name x pos) (dC d):=
 (ZKs hg hm r hd).mono λσ H Q h=>Qo h rd
theorem Ag {op:Operator} (ho:OpR X (binaryOp op) (lR2 X.K E f)) (ha:QE X E a ta) (hb:QE X E b tb):QE X E (.BinOp a op b pos) (dOp f ta tb):=
 (ZLV ho ha hb).mono λ_ _ _ h=>two h
theorem Q5 {op:CmpOp} (ho:OpR X (compareOp op) (lR2 X.K E f)) (ha:QE X E a ta) (hb:QE X E b tb) (hm:behindInMarks op b=false):QE X E (.Compare a [op] [b] pos) (dOp f ta tb):=
 (ZLs ho ha hb hm).mono λ_ _ _ h=>two h
theorem ZAq {Q:Bool->Hp->Prop} (h:lB K E (Bc t) σ H Q):Ti (lE K E t) σ H Q:=by
 obtain ⟨a,S,G,hk,rfl,s,r,h⟩:=h;refine ⟨a,S,G,hk,rfl,s,r,(ZMA h).imp ?_⟩;rintro v _ ⟨b,d,G1,rfl,x,s1,q,_,h1⟩;cases d with
 | bl k=>exact ⟨k,q,h1 b (Ext.refl b) s1⟩
 | _=>exact h1.elim
theorem ZFI {t t':TE} (w:∀σ H Q,t' σ H Q->t σ H Q) (σ:St) (H:Hp) (Q:Bool->Hp->Prop) (h:Ti t' σ H Q):Ti t σ H Q:=w _ _ _ h
theorem Bt {op:CmpOp} (ho:OpR X (compareOp op) (lR2 X.K E f)) (ha:QE X E a ta) (hb:QE X E b tb) (hm:behindInMarks op b=false):QT X E (.Compare a [op] [b] pos) (Bc (dOp f ta tb)):=
 (ZJZ ho ha hb hm).mono λσ H Q h=>ZFI (λ_ _ _ z=>two z) σ H Q (ZAq h)
theorem chain {g:D->D->DH->R D} (h:lE K E (Ww f g ta tb tc) σ H Q):ZDj (lR2 K E f) (lR2 K E g) (lE K E ta) (lE K E tb) (lE K E tc) σ H Q:=by
 obtain ⟨a,S,G,hk,rfl,s,r,h⟩:=h;refine ⟨a,S,G,hk,rfl,s,r,(Gw h).imp ?_⟩;rintro v _ ⟨b,d,G1,rfl,x,s1,q,_,h1⟩;refine ⟨b,S,G1,x.k.trans hk,rfl,s1,r.mono x,(Gw h1).imp ?_⟩;rintro w _ ⟨c,e,G2,rfl,y,s2,q2,_,h2⟩;refine ⟨c,G2,d,e,y.k.trans (x.k.trans hk),rfl,s2,q.mono y,q2,(Gw h2).imp ?_⟩;rintro z _ ⟨c3,e3,G3,rfl,y3,s3,q3,_,h3⟩;cases e3 with
 | bl k=>
  refine ⟨k,q3,?_⟩;cases k with
  | false=>exact h3 c3 (.bl false) (Ext.refl _) s3 rfl
  | true=>
   refine ⟨c3,S,G3,(y3.k.trans (y.k.trans (x.k.trans hk))),rfl,s3,((r.mono x).mono y).mono y3,(Gw h3).imp ?_⟩;rintro z4 _ ⟨c4,e4,G4,rfl,y4,s4,q4,_,h4⟩;exact ⟨c4,G4,e,e4,y4.k.trans (y3.k.trans (y.k.trans (x.k.trans hk))),rfl,s4,(q2.mono y3).mono y4,q4,h4⟩
 | _=>exact h3.elim
theorem ZLj {op op':CmpOp} {g:D->D->DH->R D} (ho:OpR X (compareOp op) (lR2 X.K E f)) (ho':OpR X (compareOp op') (lR2 X.K E g)) (ha:QE X E a ta) (hb:QE X E b tb) (hc:QE X E c tc)
  (hm:lastMarks [op,op'] [b,c]=false:=by with_unfolding_all rfl):QT X E (.Compare a [op,op'] [b,c] pos) (Bc (Ww f g ta tb tc)):=
 (ZMI ho ho' ha hb hc hm).mono λσ H Q h=>ZFI (λ_ _ _ z=>chain z) σ H Q (ZAq h)
theorem Jv (ha:QE X E a ta) (he:∀whole,isTrue a X.env whole=(do let v<-whole;standAt a.pos;holding [v] (truthy v)):=by intro _;rfl):QT X E a (Bc ta):=
 (ZK3 ha he).mono λσ H Q h=>ZAq h
theorem Ft (ha:QE X E a ta):QE X E a (Et ta):=L2.PE.mono ha λσ H Q h=>by obtain ⟨w,S,G,hk,rfl,s,r,h⟩:=h;exact ⟨w,S,G,hk,rfl,s,r,ZDZ s h⟩
def QW (X:Cx) (E:XK) (e:Expr) (t:DB):Prop:=PW X e (lB X.K E t)
theorem _root_.L2.PW.mono {t t':TT} (h:PW X e t) (w:∀σ H Q,t' σ H Q->t σ H Q):PW X e t':=λwh pins s σ H Q I q=>h wh pins s σ H Q I (w σ H Q q)
variable {u t:DB} {rest:List Expr}
theorem ZMv {Q:Bool->Hp->Prop} (h:lB K E (Pg t u) σ H Q):tAnd (lB K E t) (lB K E u) σ H Q:=by
 obtain ⟨a,S,G,hk,rfl,s,r,h⟩:=h;refine ⟨a,S,G,hk,rfl,s,r,(Z7 h).imp ?_⟩;rintro k _ ⟨b,G1,rfl,x,s1,_,h1⟩;cases k with
 | true=>exact ⟨b,S,G1,x.k.trans hk,rfl,s1,r.mono x,h1⟩
 | false=>exact h1 b (Ext.refl b) s1
theorem ZM5 {Q:Bool->Hp->Prop} (h:lB K E (dOr t u) σ H Q):tOr (lB K E t) (lB K E u) σ H Q:=by
 obtain ⟨a,S,G,hk,rfl,s,r,h⟩:=h;refine ⟨a,S,G,hk,rfl,s,r,(Z7 h).imp ?_⟩;rintro k _ ⟨b,G1,rfl,x,s1,_,h1⟩;cases k with
 | true=>exact h1 b (Ext.refl b) s1
 | false=>exact ⟨b,S,G1,x.k.trans hk,rfl,s1,r.mono x,h1⟩
theorem ZCm (ha:QT X E a t):QW X E (.BoolOp .And [a] pos) t:=pw_and1 ha
theorem Mg (ha:QT X E a t):QW X E (.BoolOp .Or [a] pos) t:=pw_or1 ha
theorem ZBx (ha:QT X E a t) (hb:QW X E (.BoolOp .And (b::rest) pos) u):QW X E (.BoolOp .And (a::b::rest) pos) (Pg t u):=(pw_and ha hb).mono λ_ _ _ h=>ZMv h
theorem Ls (ha:QT X E a t) (hb:QW X E (.BoolOp .Or (b::rest) pos) u):QW X E (.BoolOp .Or (a::b::rest) pos) (dOr t u):=(pw_or ha hb).mono λ_ _ _ h=>ZM5 h
theorem Je (h:QW X E a t):QT X E a t:=L2.PW.pt h
theorem Qu (ha:QT X E a t):QT X E (.UnaryOp .Not a pos) (Lz t):=(ZNo ha).mono λσ H Q h=>by obtain ⟨a,S,G,hk,rfl,s,r,h⟩:=h;refine ⟨a,S,G,hk,rfl,s,r,(Z7 h).imp ?_⟩;rintro k _ ⟨b,G1,rfl,x,s1,_,h1⟩;exact h1 b (Ext.refl b) s1
theorem Wz {op} (h:QE X E a ta):QE X E (.BoolOp op [a] pos) ta:=ZPg h
theorem Xd (ha:QE X E a ta) (hb:QE X E (.BoolOp .And (b::rest) pos) tb):QE X E (.BoolOp .And (a::b::rest) pos) (Ov ta tb):=(ZJp ha hb).mono λσ H Q h=>by
 obtain ⟨a,S,G,hk,rfl,s,r,h⟩:=h;refine ⟨a,S,G,hk,rfl,s,r,(Gw h).imp ?_⟩;rintro v _ ⟨b,d,G1,rfl,x,s1,q,_,h1⟩;cases d with
 | bl k=>
  refine ⟨k,q,?_⟩;cases k with
  | true=>exact ⟨b,S,G1,x.k.trans hk,rfl,s1,r.mono x,h1⟩
  | false=>exact h1 b _ (Ext.refl b) s1 rfl
 | _=>exact h1.elim
theorem ZLQ (ha:QE X E a ta) (hb:QE X E (.BoolOp .Or (b::rest) pos) tb):QE X E (.BoolOp .Or (a::b::rest) pos) (Yx ta tb):=(ZPi ha hb).mono λσ H Q h=>by
 obtain ⟨a,S,G,hk,rfl,s,r,h⟩:=h;refine ⟨a,S,G,hk,rfl,s,r,(Gw h).imp ?_⟩;rintro v _ ⟨b,d,G1,rfl,x,s1,q,_,h1⟩;cases d with
 | bl k=>
  refine ⟨k,q,?_⟩;cases k with
  | false=>exact ⟨b,S,G1,x.k.trans hk,rfl,s1,r.mono x,h1⟩
  | true=>exact h1 b _ (Ext.refl b) s1 rfl
 | _=>exact h1.elim
theorem ZNz (ha:QE X E a ta):QE X E (.UnaryOp .Not a pos) (ZCA ta):=(ZIr ha).mono λσ H Q h=>by
 obtain ⟨a,S,G,hk,rfl,s,r,h⟩:=h;refine ⟨a,S,G,hk,rfl,s,r,(Gw h).imp ?_⟩;rintro v _ ⟨b,d,G1,rfl,x,s1,q,_,h1⟩;cases d with
 | bl k=>exact ⟨k,q,h1 b _ (Ext.refl b) s1 rfl⟩
 | _=>exact h1.elim
theorem ZNm (hc:QT X E c t) (ha:QE X E a ta) (hb:QE X E b tb):QE X E (.IfExp c a b pos) (dIf t ta tb):=(ZKN hc ha hb).mono λσ H Q h=>by
 obtain ⟨a,S,G,hk,rfl,s,r,h⟩:=h;refine ⟨a,S,G,hk,rfl,s,r,(ZHT h).imp ?_⟩;rintro k _ ⟨b,G1,rfl,x,s1,_,h1⟩;cases k with
 | true=>exact ⟨b,S,G1,x.k.trans hk,rfl,s1,r.mono x,h1⟩
 | false=>exact ⟨b,S,G1,x.k.trans hk,rfl,s1,r.mono x,h1⟩
variable {es:List Expr} {tr:DA}
theorem Af:QA X E [] Ad:=ZPF.mono λσ H Q h=>by obtain ⟨a,S,G,hk,rfl,s,r,h⟩:=h;exact h a [] (Ext.refl a) s rfl
def notStar:Expr->Bool
 | .Starred _ _=>false
 | _=>true
theorem Nx (a:Expr) (es:List Expr) (env:Env) (h:notStar a=true):starEach (a::es) env=(false,eval a env)::starEach es env:=by
 cases a <;> first
  | exact absurd h z0
  | rfl
theorem Qm (pos:Pos) (env:Env):∀es:List Expr,es.all notStar=true->(backTo pos (starEach es env)).any (·.1)=false
 | [],_=>rfl
 | a::es,h=>by
  rw [j1,zF] at h;rw [Nx a es env h.1];have ih:=Qm pos env es h.2;unfold backTo at ih ⊢;rw [zC,List.any_cons,ih]
  rfl
theorem Ac (ha:QE X E a ta) (hr:QA X E es tr) (hs:notStar a=true:=by rfl):QA X E (a::es) (Ab ta tr):=(ZKT ha hr (Nx a es X.env hs)).mono λσ H Q h=>by obtain ⟨a,S,G,hk,rfl,s,r,h⟩:=h;refine ⟨a,S,G,hk,rfl,s,r,(ZPU h).imp ?_⟩;rintro v _ ⟨b,d,G1,rfl,x,s1,q,_,h1⟩;refine ⟨b,S,G1,x.k.trans hk,rfl,s1,r.mono x,(ZOV h1).imp ?_⟩;rintro vs _ ⟨c,ds,G2,rfl,y,s2,q2,_,h2⟩;exact h2 c _ (Ext.refl c) s2 (Reps.cons (q.mono y) q2)
theorem Ew {x1} (h:QA X E es tr):QE X E (.Tuple es x1 pos) (dFn Bo tr):=(ZMG h).mono λσ H Q h=>by
 obtain ⟨a,S,G,hk,rfl,s,r,h⟩:=h;refine ⟨a,S,G,hk,rfl,s,r,(Nf h).imp ?_⟩;rintro vs _ ⟨b,ds,G1,rfl,x,s1,q,_,h1⟩;unfold Bo at h1;split at h1
 ·rename_i hl;refine ⟨by rw [<-q.length];exact z5 hl size6,λp hp=> ?_⟩;exact h1 (b.put p (.tup vs)) (.ref p) (Ext.put hp) (s1.put hp) ⟨p,vs,rfl,.of Gz,q.mono (Ext.put hp)⟩
 ·exact h1.elim
theorem Ej (h:QA X E es tr):QE X E (.List es pos) (dFn Aq tr):=(ZMZ h).mono λσ H Q h=>by
 obtain ⟨a,S,G,hk,rfl,s,r,h⟩:=h;refine ⟨a,S,G,hk,rfl,s,r,(Nf h).imp ?_⟩;rintro vs _ ⟨b,ds,G1,rfl,x,s1,q,_,h1⟩;unfold Aq at h1;split at h1
 ·rename_i hl;refine ⟨by rw [<-q.length];exact z5 hl size6,λp hp=> ?_⟩;refine h1 (b.push p (.lst vs)) (.ref p) (Ext.push hp) (s1.push hp ⟨vs,rfl,q.mono (Ext.push hp)⟩) ⟨?_,?_⟩
  ·rw [s1.len];exact qK _
  ·rw [s1.len];show V.ref p=.ref (if b.n=b.n then p else b.m b.n);rw [if_pos rfl]
 ·exact h1.elim
variable {e:Expr} {x:Str} {p:Pos}
theorem Zd {f:List D->DH->R D} (h:lE K E (dFn f tr) σ H Q):lA K E tr σ H (λvs H1=>lRn K E f vs H1 Q):=by obtain ⟨a,S,G,hk,rfl,s,r,h⟩:=h;refine ⟨a,S,G,hk,rfl,s,r,(Nf h).imp ?_⟩;rintro vs _ ⟨b,ds,G1,rfl,x,s1,q,_,h1⟩;exact ⟨b,G1,ds,x.k.trans hk,rfl,s1,q,h1⟩
theorem Ck {id:String} {f:List D->DH->R D} (hc:CallR X (.builtin id) (lRn X.K E f)) (hg:Gl X x) (hm:X.mg x=none) (hv:bootBuiltins x=some (.builtin id)) (ha:QA X E (e::es) tr) (hn:x≠"__name__":=by decide) (hdb:(x == ("__debug__":Str))=false:=by decide)
  (he:notStar e=true:=by rfl) (hpl:es.all notStar=true:=by rfl):QE X E (.Call (.Name x p) (e::es) [] pos) (dFn f tr):=
 (ZKp hc hg hm hv ha hn hdb (Nx e es X.env he) (Qm pos X.env es hpl)).mono λσ H Q h=>Zd h
theorem Hd {id:String} {f:List D->DH->R D} (hc:CallR X (.type id) (lRn X.K E f)) (hg:Gl X x) (hm:X.mg x=none) (hv:bootBuiltins x=some (.type id)) (ha:QA X E (e::es) tr) (hn:x≠"__name__":=by decide) (hdb:(x == ("__debug__":Str))=false:=by decide)
  (he:notStar e=true:=by rfl) (hpl:es.all notStar=true:=by rfl):QE X E (.Call (.Name x p) (e::es) [] pos) (dFn f tr):=
 (ZLo hc hg hm hv ha hn hdb (Nx e es X.env he) (Qm pos X.env es hpl)).mono λσ H Q h=>Zd h
theorem Az {CX:CXT} {f:Addr} {fd:FuncData} {ps:List Str} {F:List D->DH->R D} (FF:FnOk X.prog X.w X.K X.mg X.base CX k f fd ps (lF X.K F)) (hr:Room k X.A) (hg:Gl X x) (hm:X.mg x=some (.ref f)) (hk:PySem.W.keepIn X.K (.ref f)=true) (hb:Binds X.K fd ps [])
  (hx:Passes CX X E) (ha:QA X E (e::es) tr) (hdb:(x == ("__debug__":Str))=false:=by decide) (he:notStar e=true:=by rfl) (hpl:es.all notStar=true:=by rfl):
  QE X E (.Call (.Name x p) (e::es) [] pos) (dFn F tr):=
 (ZI6 FF hr hg hm hk hb .nil hx ha hdb (Nx e es X.env he) (Qm pos X.env es hpl)).mono λσ H Q h=>by obtain ⟨a,S,G,hk,rfl,s,r,h⟩:=Zd h;refine ⟨a,S,G,hk,rfl,s,r,h.imp ?_⟩;rintro vs _ ⟨b,G1,ds,hk,rfl,s1,q,h1⟩;exact ⟨b,G1,ds,hk,rfl,s1,by rw [qR];exact q,h1⟩
theorem Al (hr:IxR X (lR2 X.K E f)) (ha:QE X E a ta) (hb:QE X E b tb) (hs:PlainIx b:=by intro _ _;rfl):QE X E (.Subscript a b pos) (dOp f ta tb):=
 (ZJg hr ha hb hs).mono λ_ _ _ h=>two h
end
instance (i j:Int):Decidable (CMul i j):=by unfold CMul;infer_instance
instance (i j:Int):Decidable (CPow i j):=by unfold CPow;infer_instance
def CDivL (j:Int):Prop:=0 < j/\j.natAbs.log2 < 9000
instance (j:Int):Decidable (CDivL j):=by unfold CDivL;infer_instance
def Fy:D->D->DH->R D
 | .int i,.int j,G=>.ok (.int (i - j)) G
 | _,_,_=>.bad
noncomputable def Cz:D->D->DH->R D
 | .int i,.int j,G=>if CDivL j then .ok (.int (i / j)) G else .bad
 | _,_,_=>.bad
noncomputable def Bj:D->D->DH->R D
 | .int i,.int j,G=>if 0 < j then .ok (.int (i % j)) G else .bad
 | _,_,_=>.bad
noncomputable def Jq:D->D->DH->R D
 | .int i,.int j,G=>if CPow i j then .ok (.int (i ^ j.toNat)) G else .bad
 | _,_,_=>.bad
noncomputable def Ig:D->D->DH->R D
 | .int i,.int j,G=>.ok (.bl (decide (i < j))) G
 | .str i,.str j,G=>.ok (.bl (decide (i.cps.toList < j.cps.toList))) G
 | _,_,_=>.bad
noncomputable def Va:D->D->DH->R D
 | .int i,.int j,G=>.ok (.bl (decide (i<=j))) G
 | .str i,.str j,G=>.ok (.bl (!decide (j.cps.toList < i.cps.toList))) G
 | _,_,_=>.bad
noncomputable def Lq:D->D->DH->R D
 | .int i,.int j,G=>.ok (.bl (decide (j < i))) G
 | .str i,.str j,G=>.ok (.bl (decide (j.cps.toList < i.cps.toList))) G
 | _,_,_=>.bad
noncomputable def Xm:D->D->DH->R D
 | .int i,.int j,G=>.ok (.bl (decide (j<=i))) G
 | .str i,.str j,G=>.ok (.bl (!decide (i.cps.toList < j.cps.toList))) G
 | _,_,_=>.bad
noncomputable def Ip (d:D) (G:DH):Option (List D):=match d with
 | .fl xs=>some xs
 | .ref i=>match G[i]? with
  | some (.lst xs)=>some xs
  | _=>none
 | _=>none
noncomputable def Ar:D->D->DH->R D
 | .int i,.int j,G=>.ok (.int (i + j)) G
 | .str i,.str j,G=>if i.length + j.length<=1000000 then .ok (.str (i++j)) G else .bad
 | .tup xs,.tup ys,G=>if xs≠ []/\xs.length + ys.length<=1000000 then .ok (.tup (xs++ys)) G else .bad
 | d,e,G=>match Ip d G,Ip e G with
  | some xs,some ys=>if xs.length + ys.length<=1000000 then .ok (.ref G.length) (G++ [.lst (xs++ys)]) else .bad
  | _,_=>.bad
section
variable {X:Cx} {E:XK}
theorem Ht {f:Value->Value->Sem Value} {r:R2} {F:D->D->DH->R D} (ho:OpR X f r)
  (h:∀(a:Wd) (G:DH) (d e:D) (x y:V) (Q:VK),a.K=X.K->Sim a G->Rep a d x->Rep a e y->out E a (F d e G) Q->r x y a.H Q):OpR X f (lR2 X.K E F):=
 ho.mono λx y H Q ⟨a,G,d,e,hk,hH,s,rd,re,q⟩=>by subst hH;exact h a G d e x y Q hk s rd re q
theorem Hk:OpR X (binaryOp .Sub) (lR2 X.K E Fy):=Ht ZLw λa G d e x y Q hk s rd re q=>by
 cases d <;> cases e <;> first
  | exact q.elim
  | exact ⟨_,_,rd,re,q a _ (Ext.refl a) s rfl⟩
theorem ZJd:OpR X (binaryOp .FloorDiv) (rI (λ_ j=>CDivL j) λi j=>.int (i / j)):=opI λi j _ _ _ _ _ hc q=>by have e:i.fdiv j=i / j:=Int.fdiv_eq_ediv_of_nonneg _ (Int.le_of_lt hc.1);refine floordiv_int (by have:=hc.1;lia) (by rw [e];exact q) (.inl (PyProof.noPylong_of_log2 hc.2))
theorem Dq:OpR X (binaryOp .FloorDiv) (lR2 X.K E Cz):=Ht ZJd λa G d e x y Q hk s rd re q=>by
 cases d <;> cases e <;> first
  | exact q.elim
  | (
    rename_i i j;unfold Cz at q;dsimp only at q;split at q
    ·exact ⟨_,_,rd,re,by assumption,q a _ (Ext.refl a) s rfl⟩
    ·exact q.elim)
theorem Bp:OpR X (binaryOp .Mod) (lR2 X.K E Bj):=Ht ZOJ λa G d e x y Q hk s rd re q=>by
 cases d <;> cases e <;> first
  | exact q.elim
  | (
    rename_i i j;unfold Bj at q;dsimp only at q;split at q
    ·exact ⟨_,_,rd,re,by assumption,q a _ (Ext.refl a) s rfl⟩
    ·exact q.elim)
theorem Mu:OpR X (binaryOp .Pow) (lR2 X.K E Jq):=Ht ZPG λa G d e x y Q hk s rd re q=>by
 cases d <;> cases e <;> first
  | exact q.elim
  | (
    rename_i i j;unfold Jq at q;dsimp only at q;split at q
    ·exact ⟨_,_,rd,re,by assumption,q a _ (Ext.refl a) s rfl⟩
    ·exact q.elim)
theorem Jc:OpR X (compareOp .Lt) (lR2 X.K E Ig):=Ht (ZNM.or ZK8) λa G d e x y Q hk s rd re q=>by
 cases d <;> cases e <;> first
  | exact q.elim
  | exact .inl ⟨_,_,rd,re,q a _ (Ext.refl a) s rfl⟩
  | exact .inr ⟨_,_,rd,re,q a _ (Ext.refl a) s rfl⟩
theorem ZIl:OpR X (compareOp .LtE) (λx y H Q=>∃i j,x=.str i/\y=.str j/\Q (.bl (!decide (j.cps.toList < i.cps.toList))) H):=by intro pins s σ H x y v u Q I rx ry h;obtain ⟨i,j,rfl,rfl,q⟩:=h;obtain ⟨t,rfl⟩:=rx;obtain ⟨t',rfl⟩:=ry;exact PySem.P.le_str ⟨.bl _,H,I,rfl,q⟩
theorem ZLr:OpR X (compareOp .Gt) (λx y H Q=>∃i j,x=.str i/\y=.str j/\Q (.bl (decide (j.cps.toList < i.cps.toList))) H):=by intro pins s σ H x y v u Q I rx ry h;obtain ⟨i,j,rfl,rfl,q⟩:=h;obtain ⟨t,rfl⟩:=rx;obtain ⟨t',rfl⟩:=ry;exact PySem.P.gt_str ⟨.bl _,H,I,rfl,q⟩
theorem ZKI:OpR X (compareOp .GtE) (λx y H Q=>∃i j,x=.str i/\y=.str j/\Q (.bl (!decide (i.cps.toList < j.cps.toList))) H):=by intro pins s σ H x y v u Q I rx ry h;obtain ⟨i,j,rfl,rfl,q⟩:=h;obtain ⟨t,rfl⟩:=rx;obtain ⟨t',rfl⟩:=ry;exact PySem.P.ge_str ⟨.bl _,H,I,rfl,q⟩
theorem o_le:OpR X (compareOp .LtE) (lR2 X.K E Va):=Ht (ZKj.or ZIl) λa G d e x y Q hk s rd re q=>by
 cases d <;> cases e <;> first
  | exact q.elim
  | exact .inl ⟨_,_,rd,re,q a _ (Ext.refl a) s rfl⟩
  | exact .inr ⟨_,_,rd,re,q a _ (Ext.refl a) s rfl⟩
theorem Qe:OpR X (compareOp .Gt) (lR2 X.K E Lq):=Ht (ZLi.or ZLr) λa G d e x y Q hk s rd re q=>by
 cases d <;> cases e <;> first
  | exact q.elim
  | exact .inl ⟨_,_,rd,re,q a _ (Ext.refl a) s rfl⟩
  | exact .inr ⟨_,_,rd,re,q a _ (Ext.refl a) s rfl⟩
theorem o_ge:OpR X (compareOp .GtE) (lR2 X.K E Xm):=Ht (ZJA.or ZKI) λa G d e x y Q hk s rd re q=>by
 cases d <;> cases e <;> first
  | exact q.elim
  | exact .inl ⟨_,_,rd,re,q a _ (Ext.refl a) s rfl⟩
  | exact .inr ⟨_,_,rd,re,q a _ (Ext.refl a) s rfl⟩
theorem Sim.lst (s:Sim a G) (h:G[i]? =some (.lst xs)):∃vs,a.H (a.m i)=some (.lst vs)/\Reps a xs vs:=s.obj i _ h
theorem M5 (s:Sim a G) (r:Reps a ds vs) (h:out E a (.ok (.ref G.length) (G++ [.lst ds])) Q) (p:Addr) (hp:a.H p=none):Q (.ref p) (upd a.H p (.lst vs)):=by
 refine h (a.push p (.lst vs)) (.ref p) (Ext.push hp) (s.push hp ⟨vs,rfl,r.mono (Ext.push hp)⟩) ⟨?_,?_⟩
 ·rw [s.len];exact qK _
 ·rw [s.len];show V.ref p=.ref (if a.n=a.n then p else a.m a.n);rw [if_pos rfl]
theorem ZCZ (s:Sim a G) (r:Reps a ds vs) (h:out E a (.ok (.tup ds) G) Q) (p:Addr) (hp:a.H p=none):Q (.ref p) (upd a.H p (.tup vs)):=
 h (a.put p (.tup vs)) (.ref p) (Ext.put hp) (s.put hp) ⟨p,vs,rfl,.of Gz,r.mono (Ext.put hp)⟩
theorem T6 {x:V} (s:Sim a G) (r:Rep a d x) (h:Ip d G=some xs):∃p vs,x=.ref p/\SqL a.K a.H p vs/\Reps a xs vs:=by
 cases d with
 | fl ys=>
  have e:ys=xs:=Option.some.inj h;subst e;obtain ⟨p,vs,e,q,rr⟩:=r;exact ⟨p,vs,e,q.sq,rr⟩
 | ref i=>
  unfold Ip at h;dsimp only at h;split at h
  ·rename_i ys hi;have e:ys=xs:=Option.some.inj h;subst e;obtain ⟨vs,e1,r1⟩:=s.lst hi;exact ⟨a.m i,vs,r.2,.of e1,r1⟩
  ·cases h
 | _=>cases h
noncomputable def ZFO (K:PySem.W.Frag):R2:=λx y H Q=>∃l b xs zs,x=.ref l/\y=.ref b/\SqL K H l xs/\SqL K H b zs/\xs.length + zs.length<=sizeLine/\∀p,H p=none->Q (.ref p) (upd H p (.lst (xs++zs)))
theorem ZNG:OpR X (binaryOp .Add) (ZFO X.K):=by
 intro pins s σ H x y v u Q I rx ry h;obtain ⟨l,b,xs,zs,rfl,rfl,hH,hB,hz,q⟩:=h;cases rx;cases ry;obtain ⟨its,r,p1,_⟩:=I.list hH;obtain ⟨its2,r2,p2,_⟩:=I.list hB;obtain ⟨⟨cls,dd,data,sl⟩,n,ho,hc,_,hd⟩:=p1;obtain ⟨⟨cls2,dd2,data2,sl2⟩,n2,ho2,hc2,_,hd2⟩:=p2;cases hc;cases hd;cases hc2;cases hd2;have hl:=r.length;have hl2:=r2.length;refine concat_meets ⟨_,ho,rfl⟩ ⟨_,ho2,rfl⟩ noFill_list_add seq_list_add PySem.F.slot_list_add PySem.F.entry_list_add (PySem.F.args_list_add_2 _ _) (list_addW l b its.toArray its2.toArray n n2 dd dd2 sl sl2 (by rw [zY,zY];lia)) ⟨ho,ho2,?_⟩
 have ea:its.toArray++its2.toArray=(its++its2).toArray:=by simp
 rw [ea];exact ⟨.ref _,_,I.lnew (t':=s.toks) (r.append r2) (by rw [qX];lia),rfl,q _ I.fresh⟩
theorem Ax:OpR X (binaryOp .Add) (lR2 X.K E Ar):=Ht (ZJs.or (ZKV.or (ZNG.or ZNn))) λa G d e x y Q hk s rd re q=>by
 have lst:out E a (match Ip d G,Ip e G with
  | some xs,some ys=>if xs.length + ys.length<=1000000 then .ok (.ref G.length) (G++ [.lst (xs++ys)]) else .bad
  | _,_=>.bad) Q->ZFO X.K x y a.H Q:=λq=>by
  split at q
  ·rename_i xs ys h1 h2;split at q
   ·rename_i hl;obtain ⟨p,vs,e1,q1,r1⟩:=T6 s rd h1;obtain ⟨p',vs',e2,q2,r2⟩:=T6 s re h2;rw [hk] at q1 q2;exact ⟨p,p',vs,vs',e1,e2,q1,q2,by rw [<-r1.length,<-r2.length];exact z5 hl size6,λp hp=>M5 s (r1.append r2) q p hp⟩
   ·exact q.elim
  ·exact q.elim
 have L:=λq=>Or.inr (a:=rI0 (λi j=>V.int (i + j)) x y a.H Q) (Or.inr (a:=∃i j,x=.str i/\y=.str j/\i.length + j.length<=sizeLine/\Q (.str (i++j)) a.H) (Or.inl (b:=ZHK X.K x y a.H Q) (lst q)))
 cases d <;> cases e <;> first
  | exact .inl ⟨_,_,rd,re,q a _ (Ext.refl a) s rfl⟩
  | exact L q
  | skip
 ·rename_i i j;unfold Ar at q;dsimp only at q;split at q
  ·rename_i hl;exact .inr (.inl ⟨_,_,rd,re,z5 hl size6,q a _ (Ext.refl a) s rfl⟩)
  ·exact q.elim
 ·rename_i xs ys;unfold Ar at q;dsimp only at q;split at q
  ·rename_i hl;obtain ⟨p,vs,e1,h1,r1⟩:=rd;obtain ⟨p',vs',e2,h2,r2⟩:=re;rw [hk] at h1 h2;refine .inr (.inr (.inr ⟨p,p',vs,vs',e1,e2,h1,h2,λz=>hl.1 (qH (by rw [r1.length,z];rfl)),by rw [<-r1.length,<-r2.length];exact z5 hl.2 size6,λz=> ?_,λ_ p0 hp=> ?_⟩))
   ·refine q a (.ref p) (Ext.refl a) s ⟨p,vs,rfl,by rw [hk];exact h1,?_⟩;have e3:ys= []:=qH (by rw [r2.length,z];rfl);rw [e3,qR];exact r1
   ·exact ZCZ s (r1.append r2) q p0 hp
  ·exact q.elim
inductive VD where
 | flat (v:V)
 | lst (xs:List D)
 | tup (xs:List D)
 | bad
noncomputable def view (G:DH):D->VD
 | .non=>.flat .non
 | .bl b=>.flat (.bl b)
 | .int i=>.flat (.int i)
 | .str x=>.flat (.str x)
 | .ty _=>.bad
 | .tup xs=>.tup xs
 | .fl xs=>.lst xs
 | .ref i=>match G[i]? with
  | some (.lst xs)=>.lst xs
  | _=>.bad
noncomputable def eqZ (f:D->D->Option Bool):List D->List D->Option Bool
 | x::xs,y::ys=>match f x y,eqZ f xs ys with
  | some a,some b=>some (a && b)
  | _,_=>none
 | _,_=>some true
noncomputable def eqD:Nat->DH->D->D->Option Bool
 | 0=>λ_ _ _=>none
 | n + 1=>λG d e=>match view G d,view G e with
  | .flat a,.flat b=>some (eqV a b)
  | .lst xs,.lst ys=>if xs.length=ys.length then eqZ (eqD n G) xs ys else some false
  | .tup xs,.tup ys=>match eqZ (eqD n G) xs ys with
   | some b=>some (b && xs.length == ys.length)
   | none=>none
  | .bad,_=>none
  | _,.bad=>none
  | _,_=>some false
theorem Xe {f:D->D->Option Bool}:∀{xs ys:List D} {k:Bool},eqZ f xs ys=some k->∃e:Nat->Bool,(∀(j:Nat) (x y:D),xs[j]? =some x->ys[j]? =some y->f x y=some (e j))/\k=(zX (min xs.length ys.length)).all e
 | [],ys,k,h=>⟨λ_=>true,λj x y e1 _=>by simp at e1,by
   have h':some true=some k:=by cases ys <;> exact h
   cases h';simp⟩
 | x::xs,[],k,h=>⟨λ_=>true,λj x y _ e1=>by simp at e1,by have h':some true=some k:=h;cases h';simp⟩
 | x::xs,y::ys,k,h=>by
  unfold eqZ at h;split at h
  ·rename_i a b h1 h2;obtain ⟨e,he,hk⟩:=Xe h2;have h':(a && b)=k:=Option.some.inj h
   refine ⟨λj=>match j with | 0=>a | j + 1=>e j,λj x' y' e1 e2=> ?_,?_⟩
   ·cases j with
    | zero=>simp at e1 e2;subst e1;subst e2;exact h1
    | succ j=>exact he j x' y' (by simpa using e1) (by simpa using e2)
   ·rw [<-h',hk];have:min (x::xs).length (y::ys).length=min xs.length ys.length + 1:=by simp only [qZ];lia
    rw [this,qC,j1,List.all_map]
    rfl
  ·cases h
theorem Ul (s:Sim a G) {x:V} (r:Rep a d x):match view G d with
  | .flat v=>x=v/\Ma v=true
  | .lst xs=>∃p vs,x=.ref p/\SqL a.K a.H p vs/\Reps a xs vs
  | .tup xs=>∃p vs,x=.ref p/\SqT a.K a.H p vs/\Reps a xs vs
  | .bad=>True:=by
 cases d with
 | non=>exact ⟨r,rfl⟩
 | bl b=>exact ⟨r,rfl⟩
 | int b=>exact ⟨r,rfl⟩
 | str b=>exact ⟨r,rfl⟩
 | ty n=>trivial
 | tup xs=>
  obtain ⟨p,vs,e,h,q⟩:=r;exact ⟨p,vs,e,h,q⟩
 | fl xs=>
  obtain ⟨p,vs,e,h,q⟩:=r;exact ⟨p,vs,e,h.sq,q⟩
 | ref i=>
  unfold view;dsimp only;split
  ·rename_i v hv
   split at hv <;> cases hv
  ·rename_i xs hv;split at hv
   ·rename_i ys hi;cases hv;obtain ⟨vs,e1,r1⟩:=s.lst hi;exact ⟨a.m i,vs,r.2,.of e1,r1⟩
   ·cases hv
  ·rename_i xs hv
   split at hv <;> cases hv
  ·trivial
theorem ZO4 {y x:V} {u v:Value} (ry:RelV y u) (rx:RelV x v) (fy:Ma y=true) (fx:Ma x=true):SeqAt.RcAt A s u v (eqV y x):=by
 cases y with
 | non=>
  cases ry;cases x with
  | non=>cases rx;exact SeqAt.RcAt.none_none
  | bl b=>cases rx;exact SeqAt.RcAt.none_bool b
  | int b=>obtain ⟨t,rfl⟩:=rx;exact SeqAt.RcAt.none_int b t
  | str b=>obtain ⟨t,rfl⟩:=rx;exact SeqAt.RcAt.none_str b t
  | _=>exact absurd (show false=true from fx) z0
 | bl a=>
  cases ry;cases x with
  | non=>cases rx;exact SeqAt.RcAt.bool_none a
  | bl b=>cases rx;exact SeqAt.RcAt.bool_bool a b
  | int b=>obtain ⟨t,rfl⟩:=rx;exact SeqAt.RcAt.bool_int a b t
  | str b=>obtain ⟨t,rfl⟩:=rx;exact SeqAt.RcAt.bool_str a b t
  | _=>exact absurd (show false=true from fx) z0
 | int a=>
  obtain ⟨t',rfl⟩:=ry;cases x with
  | non=>cases rx;exact SeqAt.RcAt.int_none a t'
  | bl b=>cases rx;exact SeqAt.RcAt.int_bool a t' b
  | int b=>obtain ⟨t,rfl⟩:=rx;exact SeqAt.RcAt.int_int a t' b t
  | str b=>obtain ⟨t,rfl⟩:=rx;exact SeqAt.RcAt.int_str a t' b t
  | _=>exact absurd (show false=true from fx) z0
 | str a=>
  obtain ⟨t',rfl⟩:=ry;cases x with
  | non=>cases rx;exact SeqAt.RcAt.str_none a t'
  | bl b=>cases rx;exact SeqAt.RcAt.str_bool a t' b
  | int b=>obtain ⟨t,rfl⟩:=rx;exact SeqAt.RcAt.str_int a t' b t
  | str b=>obtain ⟨t,rfl⟩:=rx;exact SeqAt.RcAt.str_str a t' b t
  | _=>exact absurd (show false=true from fx) z0
 | _=>exact absurd (show false=true from fy) z0
theorem ZLC {y x:V} {u v:Value} (ry:RelV y u) (rx:RelV x v) (fy:Ma y=true) (fx:Ma x=true):SeqAt.RcNeAt A s u v (!eqV y x):=by
 cases y with
 | non=>
  cases ry;cases x with
  | non=>cases rx;exact SeqAt.RcNeAt.none_none
  | bl b=>cases rx;exact SeqAt.RcNeAt.none_bool b
  | int b=>obtain ⟨t,rfl⟩:=rx;exact SeqAt.RcNeAt.none_int b t
  | str b=>obtain ⟨t,rfl⟩:=rx;exact SeqAt.RcNeAt.none_str b t
  | _=>exact absurd (show false=true from fx) z0
 | bl a=>
  cases ry;cases x with
  | non=>cases rx;exact SeqAt.RcNeAt.bool_none a
  | bl b=>cases rx;exact SeqAt.RcNeAt.bool_bool a b
  | int b=>obtain ⟨t,rfl⟩:=rx;exact SeqAt.RcNeAt.bool_int a b t
  | str b=>obtain ⟨t,rfl⟩:=rx;exact SeqAt.RcNeAt.bool_str a b t
  | _=>exact absurd (show false=true from fx) z0
 | int a=>
  obtain ⟨t',rfl⟩:=ry;cases x with
  | non=>cases rx;exact SeqAt.RcNeAt.int_none a t'
  | bl b=>cases rx;exact SeqAt.RcNeAt.int_bool a t' b
  | int b=>obtain ⟨t,rfl⟩:=rx;exact SeqAt.RcNeAt.int_int a t' b t
  | str b=>obtain ⟨t,rfl⟩:=rx;exact SeqAt.RcNeAt.int_str a t' b t
  | _=>exact absurd (show false=true from fx) z0
 | str a=>
  obtain ⟨t',rfl⟩:=ry;cases x with
  | non=>cases rx;exact SeqAt.RcNeAt.str_none a t'
  | bl b=>cases rx;exact SeqAt.RcNeAt.str_bool a t' b
  | int b=>obtain ⟨t,rfl⟩:=rx;exact SeqAt.RcNeAt.str_int a t' b t
  | str b=>obtain ⟨t,rfl⟩:=rx;exact SeqAt.RcNeAt.str_str a t' b t
  | _=>exact absurd (show false=true from fx) z0
 | _=>exact absurd (show false=true from fy) z0
end
section
variable {X:Cx} {E:XK} {pins:List (Addr×Obj)} {σ:St} {s:Shared}
theorem ZIm (v:V) (h:Ma v=true):eqV v v=true:=by cases v <;> first | rfl | exact absurd (show false=true from h) z0 | (simp [eqV])
theorem ZHR (I:Inv X pins σ a.H s) (hk:a.K=X.K) (sm:Sim a G):∀(n:Nat) {d e:D} {x:V} {k:Bool},Rep a d x->Rep a e x->eqD n G d e=some k->k=true
 | 0,_,_,_,_,_,_,h=>by cases h
 | n + 1,d,e,x,k,rd,re,h=>by
  have vd:=Ul sm rd;have ve:=Ul sm re;have items:∀{xs ys:List D} {vs:List V} {b:Bool},Reps a xs vs->Reps a ys vs->eqZ (eqD n G) xs ys=some b->b=true:=λ{xs ys vs b} r1 r2 hz=>by obtain ⟨f,hf,hb⟩:=Xe hz;rw [hb,qA];intro j hj;have hj':j < min xs.length ys.length:=qW.mp hj;have h1:xs[j]? =some (xs[j]'(by lia)):=zZ (by lia);have h2:ys[j]? =some (ys[j]'(by lia)):=zZ (by lia);obtain ⟨v1,e1,q1⟩:=r1.get h1;obtain ⟨v2,e2,q2⟩:=r2.get h2;rw [e1] at e2;cases e2;exact ZHR I hk sm n q1 q2 (hf j _ _ h1 h2)
  unfold eqD at h
  try dsimp only at h
  revert h vd ve
  cases view G d <;> cases view G e <;> intro vd ve h <;> dsimp only at h vd ve <;> first
   | cases h
   | skip
  ·
   rename_i v w;obtain ⟨rfl,f1⟩:=vd;obtain ⟨rfl,f2⟩:=ve;exact ZIm _ f1
  ·obtain ⟨rfl,f1⟩:=vd;obtain ⟨p,vs,e1,_⟩:=ve;subst e1;cases f1
  ·obtain ⟨rfl,f1⟩:=vd;obtain ⟨p,vs,e1,_⟩:=ve;subst e1;cases f1
  ·obtain ⟨rfl,f1⟩:=ve;obtain ⟨p,vs,e1,_⟩:=vd;subst e1;cases f1
  ·obtain ⟨p,vs,e1,h1,r1⟩:=vd;obtain ⟨p',vs',e2,h2,r2⟩:=ve;rw [e1] at e2;cases e2;rw [hk] at h1 h2;cases I.Z6 h1 h2;split at h
   ·exact items r1 r2 h
   ·rename_i hl;exact absurd (r1.length.trans r2.length.symm) hl
  ·obtain ⟨p,vs,e1,h1,r1⟩:=vd;obtain ⟨p',vs',e2,h2,r2⟩:=ve;rw [e1] at e2;cases e2;rw [hk] at h1 h2;obtain ⟨_,_,pl,_⟩:=I.list h1;obtain ⟨_,_,pt,_⟩:=I.tuple h2;exact absurd rfl (SeqAt.ne_of_list_tuple pl.isList pt)
  ·obtain ⟨rfl,f1⟩:=ve;obtain ⟨p,vs,e1,_⟩:=vd;subst e1;cases f1
  ·obtain ⟨p,vs,e1,h1,r1⟩:=vd;obtain ⟨p',vs',e2,h2,r2⟩:=ve;rw [e1] at e2;cases e2;rw [hk] at h1 h2;obtain ⟨_,_,pl,_⟩:=I.list h2;obtain ⟨_,_,pt,_⟩:=I.tuple h1;exact absurd rfl (SeqAt.ne_of_list_tuple pl.isList pt)
  ·obtain ⟨p,vs,e1,h1,r1⟩:=vd;obtain ⟨p',vs',e2,h2,r2⟩:=ve;rw [e1] at e2;cases e2;rw [hk] at h1 h2;cases I.ZAl h1 h2;split at h
   ·rename_i b hz;have h':(b && _)=k:=Option.some.inj h;rw [<-h',items r1 r2 hz,r1.length,r2.length];simp
   ·cases h
theorem Wg {its:List Value} (r:Reps a xs vs) (q:Vals vs its) (h:j < its.toArray.size):∃d v,xs[j]? =some d/\Rep a d v/\RelV v its.toArray[j]:=by
 have hl:j < its.length:=by simpa using h
 have h2:j < vs.length:=by rw [q.length];exact hl
 obtain ⟨v,e1⟩:∃v,vs[j]? =some v:=⟨vs[j],zZ h2⟩;obtain ⟨d,e2,rd⟩:=r.get' e1;obtain ⟨u,e3,ru⟩:=q.get e1;have e4:u=its.toArray[j]:=by have:its[j]? =some its[j]:=zZ hl;rw [this] at e3;simpa using (Option.some.inj e3).symm
 exact ⟨d,v,e2,rd,by rw [<-e4];exact ru⟩
theorem Y8 (I:Inv X pins σ a.H s) (hk:a.K=X.K) (sm:Sim a G):∀(n:Nat) {A:Around} {d e:D} {x y:V} {u w:Value} {k:Bool},A.units + n < cLine->Rep a d x->Rep a e y->RelV x u->RelV y w->eqD n G d e=some k->
  SeqAt.EqAt A s u w k/\SeqAt.RcAt A s u w k/\SeqAt.RcNeAt A s u w (!k)
 | 0,_,_,_,_,_,_,_,_,_,_,_,_,_,h=>by cases h
 | n + 1,A,d,e,x,y,u,w,k,hu,rd,re,ru,rw',h=>by
  have vd:=Ul sm rd;have ve:=Ul sm re;have hu1:A.units < cLine:=by lia
  have hu2:A.in1.units + n < cLine:=by show A.units + 1 + n < cLine;lia
  have same:∀{z:V},Rep a d z->Rep a e z->eqD (n + 1) G d e=some k->k=true:=λr1 r2 r3=>ZHR I hk sm (n + 1) r1 r2 r3
  have h0:=h;unfold eqD at h
  try dsimp only at h
  have refs:∀{p q:Addr} {k:Bool},(p=q->k=true)->SeqAt.RcAt A s (.ref p) (.ref q) k->SeqAt.EqAt A s (.ref p) (.ref q) k:=λ{p q k} hs hr=>by
   by_cases e:p=q
   ·rw [hs e,e];exact SeqAt.EqAt.same _
   ·exact SeqAt.EqAt.of_refs e hr
  revert h vd ve
  cases hvd:view G d <;> cases hve:view G e <;> intro vd ve h <;> dsimp only at h vd ve <;> first
   | cases h
   | skip
  ·
   obtain ⟨rfl,f1⟩:=vd;obtain ⟨rfl,f2⟩:=ve;exact ⟨ZK2 ru rw' f1 f2,ZO4 ru rw' f1 f2,ZLC ru rw' f1 f2⟩
  ·
   obtain ⟨rfl,f1⟩:=vd;obtain ⟨q,vs,rfl,h2,r2⟩:=ve;cases rw';rw [hk] at h2;obtain ⟨its,qv,pl,_⟩:=I.list h2;cases x with
   | non=>cases ru;exact ⟨SeqAt.EqAt.none_list pl.isList hu1,SeqAt.RcAt.none_list pl.isList hu1,SeqAt.RcNeAt.none_list pl.isList hu1⟩
   | bl b=>cases ru;exact ⟨SeqAt.EqAt.bool_list b pl.isList hu1,SeqAt.RcAt.bool_list b pl.isList hu1,SeqAt.RcNeAt.bool_list b pl.isList hu1⟩
   | int b=>obtain ⟨t,rfl⟩:=ru;exact ⟨SeqAt.EqAt.int_list b t pl.isList hu1,SeqAt.RcAt.int_list b t pl.isList hu1,SeqAt.RcNeAt.int_list b t pl.isList hu1⟩
   | str b=>obtain ⟨t,rfl⟩:=ru;exact ⟨SeqAt.EqAt.str_list b t pl.isList hu1,SeqAt.RcAt.str_list b t pl.isList hu1,SeqAt.RcNeAt.str_list b t pl.isList hu1⟩
   | _=>exact absurd (show false=true from f1) z0
  ·
   obtain ⟨rfl,f1⟩:=vd;obtain ⟨q,vs,rfl,h2,r2⟩:=ve;cases rw';rw [hk] at h2;obtain ⟨its,qv,pl,_⟩:=I.tuple h2;cases x with
   | non=>cases ru;exact ⟨SeqAt.EqAt.none_tuple pl hu1,SeqAt.RcAt.none_tuple pl hu1,SeqAt.RcNeAt.none_tuple pl hu1⟩
   | bl b=>cases ru;exact ⟨SeqAt.EqAt.bool_tuple b pl hu1,SeqAt.RcAt.bool_tuple b pl hu1,SeqAt.RcNeAt.bool_tuple b pl hu1⟩
   | int b=>obtain ⟨t,rfl⟩:=ru;exact ⟨SeqAt.EqAt.int_tuple b t pl hu1,SeqAt.RcAt.int_tuple b t pl hu1,SeqAt.RcNeAt.int_tuple b t pl hu1⟩
   | str b=>obtain ⟨t,rfl⟩:=ru;exact ⟨SeqAt.EqAt.str_tuple b t pl hu1,SeqAt.RcAt.str_tuple b t pl hu1,SeqAt.RcNeAt.str_tuple b t pl hu1⟩
   | _=>exact absurd (show false=true from f1) z0
  ·
   obtain ⟨rfl,f1⟩:=ve;obtain ⟨q,vs,rfl,h2,r2⟩:=vd;cases ru;rw [hk] at h2;obtain ⟨its,qv,pl,_⟩:=I.list h2;cases y with
   | non=>cases rw';exact ⟨SeqAt.EqAt.list_none pl.isList hu1,SeqAt.RcAt.list_none pl.isList hu1,SeqAt.RcNeAt.list_none pl.isList hu1⟩
   | bl b=>cases rw';exact ⟨SeqAt.EqAt.list_bool b pl.isList hu1,SeqAt.RcAt.list_bool b pl.isList hu1,SeqAt.RcNeAt.list_bool b pl.isList hu1⟩
   | int b=>obtain ⟨t,rfl⟩:=rw';exact ⟨SeqAt.EqAt.list_int b t pl.isList hu1,SeqAt.RcAt.list_int b t pl.isList hu1,SeqAt.RcNeAt.list_int b t pl.isList hu1⟩
   | str b=>obtain ⟨t,rfl⟩:=rw';exact ⟨SeqAt.EqAt.list_str b t pl.isList hu1,SeqAt.RcAt.list_str b t pl.isList hu1,SeqAt.RcNeAt.list_str b t pl.isList hu1⟩
   | _=>exact absurd (show false=true from f1) z0
  ·
   obtain ⟨p,vs,rfl,h1,r1⟩:=vd;obtain ⟨q,vs',rfl,h2,r2⟩:=ve;cases ru;cases rw';rw [hk] at h1 h2;obtain ⟨its,q1,p1,_⟩:=I.list h1;obtain ⟨its',q2,p2,_⟩:=I.list h2;have sz1:its.toArray.size=vs.length:=by rw [zY];exact q1.length.symm
   have sz2:its'.toArray.size=vs'.length:=by rw [zY];exact q2.length.symm
   split at h
   ·rename_i hl;obtain ⟨f,hf,hb⟩:=Xe h;have hsz:its.toArray.size=its'.toArray.size:=by rw [sz1,sz2,<-r1.length,<-r2.length];exact hl
    have he:∀j (g1:j < its.toArray.size) (g2:j < its'.toArray.size),SeqAt.EqAt A.in1 s its.toArray[j] its'.toArray[j] (f j):=λj g1 g2=>by obtain ⟨d1,v1,e1,rd1,rv1⟩:=Wg r1 q1 g1;obtain ⟨d2,v2,e2,rd2,rv2⟩:=Wg r2 q2 g2;exact (Y8 I hk sm n hu2 rd1 rd2 rv1 rv2 (hf j d1 d2 e1 e2)).1
    have hk':k=(zX its.toArray.size).all f:=by
     rw [hb]
     congr 2
     rw [sz1,<-r1.length,hl];lia
    have rc:SeqAt.RcAt A s (.ref p) (.ref q) k:=by rw [hk'];exact SeqAt.RcAt.lists p1.isList p2.isList hsz hu1 he
    refine ⟨refs (λe=> ?_) rc,rc,by rw [hk'];exact SeqAt.RcNeAt.lists p1.isList p2.isList hsz hu1 he⟩;subst e;exact same rd re h0
   ·rename_i hl;have h':false=k:=Option.some.inj h;subst h';have hsz:(its.toArray.size != its'.toArray.size)=true:=by rw [bne_iff_ne,sz1,sz2,<-r1.length,<-r2.length];exact hl
    refine ⟨refs (λe=> ?_) (SeqAt.RcAt.lists_lengths p1.isList p2.isList hsz hu1),SeqAt.RcAt.lists_lengths p1.isList p2.isList hsz hu1,SeqAt.RcNeAt.lists_lengths p1.isList p2.isList hsz hu1⟩;subst e;exact same rd re h0
  ·
   obtain ⟨p,vs,rfl,h1,r1⟩:=vd;obtain ⟨q,vs',rfl,h2,r2⟩:=ve;cases ru;cases rw';rw [hk] at h1 h2;obtain ⟨its,q1,p1,_⟩:=I.list h1;obtain ⟨its',q2,p2,_⟩:=I.tuple h2;exact ⟨SeqAt.EqAt.list_tuple p1.isList p2 hu1,SeqAt.RcAt.list_tuple p1.isList p2 hu1,SeqAt.RcNeAt.list_tuple p1.isList p2 hu1⟩
  ·
   obtain ⟨rfl,f1⟩:=ve;obtain ⟨q,vs,rfl,h2,r2⟩:=vd;cases ru;rw [hk] at h2;obtain ⟨its,qv,pl,_⟩:=I.tuple h2;cases y with
   | non=>cases rw';exact ⟨SeqAt.EqAt.tuple_none pl hu1,SeqAt.RcAt.tuple_none pl hu1,SeqAt.RcNeAt.tuple_none pl hu1⟩
   | bl b=>cases rw';exact ⟨SeqAt.EqAt.tuple_bool b pl hu1,SeqAt.RcAt.tuple_bool b pl hu1,SeqAt.RcNeAt.tuple_bool b pl hu1⟩
   | int b=>obtain ⟨t,rfl⟩:=rw';exact ⟨SeqAt.EqAt.tuple_int b t pl hu1,SeqAt.RcAt.tuple_int b t pl hu1,SeqAt.RcNeAt.tuple_int b t pl hu1⟩
   | str b=>obtain ⟨t,rfl⟩:=rw';exact ⟨SeqAt.EqAt.tuple_str b t pl hu1,SeqAt.RcAt.tuple_str b t pl hu1,SeqAt.RcNeAt.tuple_str b t pl hu1⟩
   | _=>exact absurd (show false=true from f1) z0
  ·
   obtain ⟨p,vs,rfl,h1,r1⟩:=vd;obtain ⟨q,vs',rfl,h2,r2⟩:=ve;cases ru;cases rw';rw [hk] at h1 h2;obtain ⟨its,q1,p1,_⟩:=I.tuple h1;obtain ⟨its',q2,p2,_⟩:=I.list h2;exact ⟨SeqAt.EqAt.tuple_list p1 p2.isList hu1,SeqAt.RcAt.tuple_list p1 p2.isList hu1,SeqAt.RcNeAt.tuple_list p1 p2.isList hu1⟩
  ·
   rename_i xs ys;obtain ⟨p,vs,rfl,h1,r1⟩:=vd;obtain ⟨q,vs',rfl,h2,r2⟩:=ve;cases ru;cases rw';rw [hk] at h1 h2;obtain ⟨its,q1,p1,_⟩:=I.tuple h1;obtain ⟨its',q2,p2,_⟩:=I.tuple h2;have sz1:its.toArray.size=xs.length:=by rw [zY,r1.length];exact q1.length.symm
   have sz2:its'.toArray.size=ys.length:=by rw [zY,r2.length];exact q2.length.symm
   split at h
   ·rename_i b hz;have h':(b && xs.length == ys.length)=k:=Option.some.inj h;obtain ⟨f,hf,hb⟩:=Xe hz;have he:∀j (g1:j < its.toArray.size) (g2:j < its'.toArray.size),SeqAt.EqAt A.in1 s its.toArray[j] its'.toArray[j] (f j):=λj g1 g2=>by obtain ⟨d1,v1,e1,rd1,rv1⟩:=Wg r1 q1 g1;obtain ⟨d2,v2,e2,rd2,rv2⟩:=Wg r2 q2 g2;exact (Y8 I hk sm n hu2 rd1 rd2 rv1 rv2 (hf j d1 d2 e1 e2)).1
    have hk':k=((zX (min its.toArray.size its'.toArray.size)).all f && its.toArray.size == its'.toArray.size):=by rw [<-h',hb,sz1,sz2]
    have rc:SeqAt.RcAt A s (.ref p) (.ref q) k:=by rw [hk'];exact SeqAt.RcAt.tuples p1 p2 hu1 he
    refine ⟨refs (λe=> ?_) rc,rc,by rw [hk'];exact SeqAt.RcNeAt.tuples p1 p2 hu1 he⟩;subst e;exact same rd re h0
   ·cases h
def Dw (d e:D) (G:DH):R D:=match eqD 30 G d e with
 | some k=>.ok (.bl k) G
 | none=>.bad
def Nh (d e:D) (G:DH):R D:=match eqD 30 G d e with
 | some k=>.ok (.bl (!k)) G
 | none=>.bad
theorem Eg (hu:X.A.units + 64 < cLine):OpR X (compareOp .Eq) (lR2 X.K E Dw):=by
 intro pins s σ H x y v u Q I rx ry ⟨a,G,d,e,hk,hH,sm,rd,re,q⟩;subst hH;unfold Dw at q;split at q
 ·rename_i k hd;exact (Y8 I hk sm 30 (by lia) rd re rx ry hd).2.1 _ _ _ _ ⟨.bl k,a.H,I,rfl,q a _ (Ext.refl a) sm rfl⟩
 ·exact q.elim
theorem Xb (hu:X.A.units + 64 < cLine):OpR X (compareOp .NotEq) (lR2 X.K E Nh):=by
 intro pins s σ H x y v u Q I rx ry ⟨a,G,d,e,hk,hH,sm,rd,re,q⟩;subst hH;unfold Nh at q;split at q
 ·rename_i k hd;exact (Y8 I hk sm 30 (by lia) rd re rx ry hd).2.2 _ _ _ _ ⟨.bl (!k),a.H,I,rfl,q a _ (Ext.refl a) sm rfl⟩
 ·exact q.elim
end
abbrev DG:=D->DSt->DH->R DSt
variable {g:DG}
noncomputable def Gx (E:XK) (a:Wd) (r:R DSt) (Q:St->Hp->Prop):Prop:=match r with
 | .ok S G=>∀(b:Wd) (σ:St),Ext a b->Sim b G->RepS b S σ->Q σ b.H
 | .err x G=>XOk E a x G
 | .bad=>False
noncomputable def lG (K:PySem.W.Frag) (E:XK) (t:DG):TG:=λv σ H Q=>∃(a:Wd) (S:DSt) (G:DH) (d:D),a.K=K/\a.H=H/\Sim a G/\RepS a S σ/\Rep a d v/\Gx E a (t d S G) Q
def QG (X:Cx) (E:XK) (tg:Expr) (t:DG):Prop:=PG X tg (lG X.K E t)
abbrev DGs:=List D->DSt->DH->R DSt
noncomputable def lGs (K:PySem.W.Frag) (E:XK) (t:DGs):TGs:=λvs σ H Q=>∃(a:Wd) (S:DSt) (G:DH) (ds:List D),a.K=K/\a.H=H/\Sim a G/\RepS a S σ/\Reps a ds vs/\Gx E a (t ds S G) Q
def QGs (X:Cx) (E:XK) (tg:List Expr) (t:DGs):Prop:=PGs X tg (lGs X.K E t)
def gV (i:Nat):DG:=λd S G=>.ok (S.set i (some d)) G
def By:DGs:=λds S G=>match ds with
 | []=>.ok S G
 | _=>.bad
noncomputable def Ao (t:DG) (u:DGs):DGs:=λds S G=>match ds with
 | d::r=>(t d S G).bind λS1 G1=>u r S1 G1
 | []=>.bad
noncomputable def Bv (n:Nat) (t:DGs):DG:=λd S G=>match d with
 | .tup ds=>if ds.length=n then t ds S G else .bad
 | _=>.bad
theorem Gx.imp {r:R DSt} {Q Q':St->Hp->Prop} (h:Gx E a r Q) (w:∀v H,Q v H->Q' v H):Gx E a r Q':=by
 cases r with
 | ok d G=>exact λb v x s q=>w _ _ (h b v x s q)
 | err e G=>exact h
 | bad=>exact h
theorem Gx.mono (x:Ext a b) {r:R DSt} {Q:St->Hp->Prop} (h:Gx E a r Q):Gx E b r Q:=by
 cases r with
 | ok d G=>exact λc v y s q=>h c v (x.trans y) s q
 | err e G=>exact XOk.mono (E:=E) (e:=e) (G:=G) x h
 | bad=>exact h
theorem ZMX {r:R DSt} {f:DSt->DH->R DSt} {Q:St->Hp->Prop} (h:Gx E a (r.bind f) Q):
  Gx E a r (λσ H=>∃(b:Wd) (S:DSt) (G:DH),b.H=H/\Ext a b/\Sim b G/\RepS b S σ/\r=.ok S G/\Gx E b (f S G) Q):=by
 cases r with
 | ok d G=>exact λb v x s q=>⟨b,d,G,rfl,x,s,q,rfl,Gx.mono x h⟩
 | err e G=>exact h
 | bad=>exact h
theorem ZFb {f:D->DH->R DSt} {Q:St->Hp->Prop} (h:Gx E a (r.bind f) Q):
  out E a r (λv H=>∃(b:Wd) (d:D) (G:DH),b.H=H/\Ext a b/\Sim b G/\Rep b d v/\r=.ok d G/\Gx E b (f d G) Q):=by
 cases r with
 | ok d G=>exact λb v x s q=>⟨b,d,G,rfl,x,s,q,rfl,Gx.mono x h⟩
 | err e G=>exact h
 | bad=>exact h
theorem ZHq {r:R DSt} {f:DSt->DH->SR} (h:Dg E a (r.toS f) W):
  Gx E a r (λσ H=>∃(b:Wd) (S:DSt) (G:DH),b.H=H/\Ext a b/\Sim b G/\RepS b S σ/\r=.ok S G/\Dg E b (f S G) W):=by
 cases r with
 | ok d G=>exact λb v x s q=>⟨b,d,G,rfl,x,s,q,rfl,Dg.mono x h⟩
 | err e G=>exact h
 | bad=>exact h
section
variable {X:Cx} {E:XK}
theorem _root_.L2.PG.mono {t t':TG} (h:PG X e t) (w:∀v σ H Q,t' v σ H Q->t v σ H Q):PG X e t':=λpins s σ H v u Q I r q=>h pins s σ H v u Q I r (w v σ H Q q)
theorem _root_.L2.PGs.mono {e:List Expr} {t t':TGs} (h:PGs X e t) (w:∀v σ H Q,t' v σ H Q->t v σ H Q):PGs X e t':=λpins s σ H v u Q I r q=>h pins s σ H v u Q I r (w v σ H Q q)
theorem Av (i:Nat) {pos:Pos} (hN:X.N.Nodup) (hi:X.N[i]? =some x:=by rfl) (hx:Loc X.env.scope x:=by first | exact Or.inl rfl | exact Or.inr rfl)
  (hf:X.fn x=true∨X.env.scope.names.lookup x=some .local:=by first | exact .inl rfl | exact .inr rfl | assumption):QG X E (.Name x pos) (gV i):=
 (ZJr hN hi hx hf).mono λv σ H Q h=>by obtain ⟨a,S,G,d,hk,rfl,s,r,q,h⟩:=h;exact h a _ (Ext.refl a) s (r.set i q)
theorem Gh:QGs X E [] By:=ZJa.mono λvs σ H Q h=>by
 obtain ⟨a,S,G,ds,hk,rfl,s,r,q,h⟩:=h;cases ds with
 | nil=>exact ⟨q,h a σ (Ext.refl a) s r⟩
 | cons d ds=>exact h.elim
theorem Cm {es:List Expr} {t:DG} {u:DGs} (h1:QG X E e t) (h2:QGs X E es u)
  (hs:(assignEach (e::es) X.env).map (·.2)=assign e X.env::(assignEach es X.env).map (·.2):=by rfl):QGs X E (e::es) (Ao t u):=(ZJG h1 h2 hs).mono λvs σ H Q h=>by
 obtain ⟨a,S,G,ds,hk,rfl,s,r,q,h⟩:=h;cases ds with
 | nil=>exact h.elim
 | cons d ds=>
  obtain ⟨v,rest,e1,q1,q2⟩:=q;refine ⟨v,rest,e1,a,S,G,d,hk,rfl,s,r,q1,(ZMX h).imp ?_⟩;rintro σ' _ ⟨b,S1,G1,rfl,x,s1,r1,_,h1⟩;exact ⟨b,S1,G1,ds,x.k.trans hk,rfl,s1,r1,q2.mono x,h1⟩
theorem Fx {es:List Expr} {k:Nat} {t:DGs} {n:Nat} {pos:Pos} (hc:X.calm=true) (h:QGs X E es t)
  (hn:(assignEach es X.env).length=n:=by rfl) (hst:(assignEach es X.env).findIdx? (·.1)=none:=by rfl):QG X E (.Tuple es k pos) (Bv n t):=(ZKO hc h hn hst).mono λv σ H Q h=>by
 obtain ⟨a,S,G,d,hk,rfl,s,r,q,h⟩:=h;cases d with
 | tup ds=>
  obtain ⟨p,vs,e,h1,r1⟩:=q;unfold Bv at h;dsimp only at h;split at h
  ·rename_i hl;exact ⟨p,vs,e,by rw [<-hk];exact h1,by rw [<-r1.length];exact hl,a,S,G,ds,hk,rfl,s,r,r1,h⟩
  ·exact h.elim
 | _=>exact h.elim
noncomputable def Lg (o i v:D) (G:DH):R D:=match o,i with
 | .ref p,.int k=>match G[p]? with
  | some (.lst xs)=>match ixN xs.length k with
   | some j=>.ok .non (G.set p (.lst (xs.set j v)))
   | none=>.bad
  | _=>.bad
 | _,_=>.bad
noncomputable def gIx (to ti:DE):DG:=λv S G=>(to S G).bind λo G1=>(ti S G1).bind λi G2=>(Lg o i v G2).bind λ_ G3=>.ok S G3
theorem ZC1 {vs':List V} {ds':List D} (s:Sim a G) (hi:i < a.n) (h:a.H (a.m i)=some (.lst vs)) (r:Reps a ds' vs'):
  Ext a (a.put (a.m i) (.lst vs'))/\Sim (a.put (a.m i) (.lst vs')) (G.set i (.lst ds')):=⟨Ext.wr h,s.wr hi h (r.mono (Ext.wr h))⟩
theorem Xx {o i:Expr} {to ti:DE} {pos:Pos} (ho:QE X E o to) (hi:QE X E i ti)
  (ha:∀v,assign (.Subscript o i pos) X.env v=(do
   let ov<-holding [v] (eval o X.env);let iv<-holding [v,ov] (eval i X.env)
   standAt pos
   holding [v,ov,iv] (setItem ov iv v)
   release [v,ov,iv] []):=by intro _;rfl):QG X E (.Subscript o i pos) (gIx to ti):=(ZPv ho hi set_list ha).mono λv σ H Q h=>by
 obtain ⟨a,S,G,d,hk,rfl,s,r,q,h⟩:=h;refine ⟨a,S,G,hk,rfl,s,r,(ZFb h).imp ?_⟩;rintro ov _ ⟨b,e,G1,rfl,x,s1,q1,_,h1⟩;refine ⟨b,S,G1,x.k.trans hk,rfl,s1,r.mono x,(ZFb h1).imp ?_⟩;rintro iv _ ⟨c,f,G2,rfl,y,s2,q2,_,h2⟩;cases e with
 | ref p=>
  cases f with
  | int k=>
   unfold Lg at h2;dsimp only at h2;split at h2
   ·rename_i xs hx;split at h2
    ·rename_i j hj;obtain ⟨vs,e1,r1⟩:=s2.lst hx;have q1':=q1.mono y;have rv:=(q.mono x).mono y;obtain ⟨x3,s3⟩:=ZC1 s2 q1'.1 e1 (r1.set rv j);refine ⟨c.m p,vs,k,j,q1'.2,q2,e1,by rw [<-r1.length];exact hj,?_⟩;exact h2 _ σ x3 s3 (((r.mono x).mono y).mono x3)
    ·exact h2.elim
   ·exact h2.elim
  | _=>exact h2.elim
 | _=>exact h2.elim
variable {st:Stmt} {rest:List Stmt} {t u:DS} {e:Expr} {te:DE} {pos:Pos}
def sNx:DS:=λS G=>.nx S G
def Ah (t u:DS):DS:=λS G=>match t S G with
 | .nx S1 G1=>u S1 G1
 | r=>r
def sEx (te:DE):DS:=λS G=>(te S G).toS λ_ G1=>.nx S G1
def sRt (te:DE):DS:=λS G=>(te S G).toS λd G1=>.rt d G1
def sIf (c:DB) (t u:DS):DS:=λS G=>(c S G).toS λk G1=>if k=true then t S G1 else u S G1
def sAs (te:DE) (g:DG):DS:=λS G=>(te S G).toS λd G1=>(g d S G1).toS λS2 G2=>.nx S2 G2
noncomputable def sAu (i:Nat) (te:DE) (f:D->D->DH->R D):DS:=λS G=>match S[i]? with
 | some (some x)=>(te S G).toS λy G1=>(f x y G1).toS λz G2=>.nx (S.set i (some z)) G2
 | _=>.bad
theorem Cq:QSs X E [] sNx:=ZJU.mono λW σ H h=>by obtain ⟨a,S,G,hk,rfl,s,r,h⟩:=h;exact h a σ (Ext.refl a) s r
theorem Dg.nxOf {t:DS} (hk:a.K=K) (h:Dg E a (Ah t u S G) W):Dg E a (t S G) {W with nx:=lS K E u W}:=by
 unfold Ah at h
 revert h
 cases t S G <;> intro h
 ·exact λb σ x s r=>⟨b,_,_,x.k.trans hk,rfl,s,r,Dg.mono x h⟩
 all_goals exact h
theorem Ai (h1:QS X E st t) (h2:QSs X E rest u):QSs X E (st::rest) (Ah t u):=(ZMd h1 h2).mono λW σ H h=>by obtain ⟨a,S,G,hk,rfl,s,r,h⟩:=h;exact ⟨a,S,G,hk,rfl,s,r,h.nxOf hk⟩
theorem Am (h1:QS X E st t):QSs X E [st] t:=ZKU h1
theorem Es (he:QE X E e te) (hs:swapsWith e none pos.line X.env=pure false:=by rfl):QS X E (.Expr e pos) (sEx te):=(ZIs he hs).mono λW σ H h=>by obtain ⟨a,S,G,hk,rfl,s,r,h⟩:=h;refine ⟨a,S,G,hk,rfl,s,r,(Hz h).imp ?_⟩;rintro v _ ⟨b,d,G1,rfl,x,s1,q,_,h1⟩;exact h1 b σ (Ext.refl b) s1 (r.mono x)
theorem Bq (he:QE X E e te):QS X E (.Return (some e) pos) (sRt te):=(ZNT he).mono λW σ H h=>by obtain ⟨a,S,G,hk,rfl,s,r,h⟩:=h;refine ⟨a,S,G,hk,rfl,s,r,(Hz h).imp ?_⟩;rintro v _ ⟨b,d,G1,rfl,x,s1,q,_,h1⟩;exact h1 b v (Ext.refl b) s1 q
theorem Bx {c:Expr} {tc:DB} {a b:List Stmt} (hc:QT X E c tc) (ha:QSs X E a t) (hb:QSs X E b u):QS X E (.If c a b pos) (sIf tc t u):=(ZP9 hc ha hb).mono λW σ H h=>by
 obtain ⟨a,S,G,hk,rfl,s,r,h⟩:=h;refine ⟨a,S,G,hk,rfl,s,r,(ZHl h).imp ?_⟩;rintro k _ ⟨b,G1,rfl,x,s1,_,h1⟩;cases k with
 | true=>exact ⟨b,S,G1,x.k.trans hk,rfl,s1,r.mono x,h1⟩
 | false=>exact ⟨b,S,G1,x.k.trans hk,rfl,s1,r.mono x,h1⟩
theorem ZKP (h:lS K E (sAs te g) W σ H):ZBI (lE K E te) (lG K E g) W σ H:=by obtain ⟨a,S,G,hk,rfl,s,r,h⟩:=h;refine ⟨a,S,G,hk,rfl,s,r,(Hz h).imp ?_⟩;rintro v _ ⟨b,d,G1,rfl,x,s1,q,_,h1⟩;refine ⟨b,S,G1,d,x.k.trans hk,rfl,s1,r.mono x,q,(ZHq h1).imp ?_⟩;rintro σ' _ ⟨c,S2,G2,rfl,y,s2,r2,_,h2⟩;exact h2 c σ' (Ext.refl c) s2 r2
theorem Jr (he:QE X E e te) (hg:QG X E tg g) (hs:swapsWithSole [tg] e pos.line X.env=pure false:=by rfl) (hw:swappedStores [tg] e X.env=pure none:=by rfl)
  (h1:(assignEach [tg] X.env).map (·.2)= [assign tg X.env]:=by rfl):QS X E (.Assign [tg] e pos) (sAs te g):=(ZJ9 he hg hs hw h1).mono λ_ _ _ h=>ZKP h
theorem An (i:Nat) {pos':Pos} (hN:X.N.Nodup) (he:QE X E e te) (hi:X.N[i]? =some x:=by rfl) (hx:Loc X.env.scope x:=by first | exact Or.inl rfl | exact Or.inr rfl) (hs:swapsWith e (some (.Name x pos')) pos.line X.env=pure false:=by rfl)
  (hf:X.fn x=true∨X.env.scope.names.lookup x=some .local:=by first | exact .inl rfl | exact .inr rfl | assumption):QS X E (.Assign [.Name x pos'] e pos) (sAs te (gV i)):=
 (ZOQ hN hi hx he hs hf).mono λW σ H h=>by obtain ⟨a,S,G,hk,rfl,s,r,h⟩:=h;refine ⟨a,S,G,hk,rfl,s,r,(Hz h).imp ?_⟩;rintro v _ ⟨b,d,G1,rfl,x,s1,q,_,h1⟩;exact h1 b _ (Ext.refl b) s1 ((r.mono x).set i q)
theorem ZEg (i:Nat) {op:Operator} {pos':Pos} (hN:X.N.Nodup) (he:QE X E e te) (ho:OpR X (inplaceOp op) (lR2 X.K E f)) (hi:X.N[i]? =some x:=by rfl) (hx:Loc X.env.scope x:=by first | exact Or.inl rfl | exact Or.inr rfl)
  (hf:X.fn x=true∨X.env.scope.names.lookup x=some .local:=by first | exact .inl rfl | exact .inr rfl | assumption):QS X E (.AugAssign (.Name x pos') op e pos) (sAu i te f):=
 (ZKM (ti:=lR2 X.K E f) hN hi hx he ho hf).mono λW σ H h=>by
  obtain ⟨a,S,G,hk,rfl,s,r,h⟩:=h;unfold sAu at h;split at h
  ·rename_i d hd;obtain ⟨v,e1,q⟩:=r.get i d hd;refine ⟨v,e1,a,S,G,hk,rfl,s,r,(Hz h).imp ?_⟩;rintro w _ ⟨b,d1,G1,rfl,x,s1,q1,_,h1⟩;refine ⟨b,G1,d,d1,x.k.trans hk,rfl,s1,q.mono x,q1,(Hz h1).imp ?_⟩;rintro z _ ⟨c,d2,G2,rfl,y,s2,q2,_,h2⟩;exact h2 c _ (Ext.refl c) s2 (((r.mono x).mono y).set i q2)
  ·exact h.elim
noncomputable def Lj:D->D->DH->R D
 | .int i,.int j,G=>.ok (.int (i + j)) G
 | .str i,.str j,G=>if i.length + j.length<=1000000 then .ok (.str (i++j)) G else .bad
 | _,_,_=>.bad
theorem T7:OpR X (inplaceOp .Add) (lR2 X.K E Lj):=Ht (OpR.or (r:=ipI λi j=>i + j) ZJl ZLa) λa G d e x y Q hk s rd re q=>by
 cases d <;> cases e <;> first
  | exact q.elim
  | exact .inl ⟨_,_,rd,re,q a _ (Ext.refl a) s rfl⟩
  | (
    unfold Lj at q;dsimp only at q;split at q
    ·rename_i hl;exact .inr ⟨_,_,rd,re,z5 hl size6,q a _ (Ext.refl a) s rfl⟩
    ·exact q.elim)
theorem ZKB:OpR X (inplaceOp .Sub) (lR2 X.K E Fy):=Ht (r:=ipI λi j=>i - j) ZLF λa G d e x y Q hk s rd re q=>by
 cases d <;> cases e <;> first
  | exact q.elim
  | exact ⟨_,_,rd,re,q a _ (Ext.refl a) s rfl⟩
end
noncomputable def aft (r:SR) (k:DSt->DH->SR):SR:=match r with
 | .nx S G=>k S G
 | .ct S G=>k S G
 | .bk S G=>.nx S G
 | r=>r
noncomputable def Be (g:DG) (b:DS):List D->DS
 | [],S,G=>.nx S G
 | x::xs,S,G=>(g x S G).toS λS1 G1=>aft (b S1 G1) (Be g b xs)
noncomputable def forM (i:Nat) (g:DG) (b:DS):Nat->Nat->DS
 | 0,j,S,G=>match G[i]? with
  | some (.lst xs)=>if xs.length<=j then .nx S G else .bad
  | _=>.bad
 | k + 1,j,S,G=>match G[i]? with
  | some (.lst xs)=>match xs[j]? with
   | some x=>(g x S G).toS λS1 G1=>aft (b S1 G1) (forM i g b k (j + 1))
   | none=>.nx S G
  | _=>.bad
noncomputable def Em (f:Nat->DH->Option (Option D)) (g:DG) (b:DS):Nat->Nat->DS
 | 0,j,S,G=>match f j G with
  | some none=>.nx S G
  | _=>.bad
 | k + 1,j,S,G=>match f j G with
  | some (some x)=>(g x S G).toS λS1 G1=>aft (b S1 G1) (Em f g b k (j + 1))
  | some none=>.nx S G
  | none=>.bad
inductive ItD where
 | pure (xs:List D)
 | mt (i:Nat)
 | fn (n:Nat) (f:Nat->DH->Option (Option D))
abbrev DI:=DSt->DH->R ItD
noncomputable def Dl (it:DI) (g:DG) (b:DS):DS:=λS G=>(it S G).toS λJ G1=>match J with
 | .pure xs=>Be g b xs S G1
 | .mt i=>match G1[i]? with
  | some (.lst xs)=>forM i g b xs.length 0 S G1
  | _=>.bad
 | .fn n f=>Em f g b n 0 S G1
noncomputable def RepI (a:Wd):ItD->It->Prop
 | .pure xs,J=>∃vs:List V,Reps a xs vs/\∀b:Wd,Ext a b->∀i,(∀v,vs[i]? =some v->J.go i b.H/\∀x H',J.yld i b.H x H'->x=v/\H'=b.H)/\(vs.length<=i->J.stop i b.H)
 | .mt k,J=>k < a.n/\∀b:Wd,Ext a b->∀vs,b.H (b.m k)=some (.lst vs)->∀i,(∀v,vs[i]? =some v->J.go i b.H/\∀x H',J.yld i b.H x H'->x=v/\H'=b.H)/\(vs.length<=i->J.stop i b.H)
 | .fn _ f,J=>∀b:Wd,Ext a b->∀G,Sim b G->∀i,(∀d,f i G=some (some d)->J.go i b.H/\∀x H',J.yld i b.H x H'->∃c:Wd,c.H=H'/\Ext b c/\Sim c G/\Rep c d x)/\(f i G=some none->J.stop i b.H)
noncomputable def outI (E:XK) (a:Wd) (r:R ItD) (Q:It->Hp->Prop):Prop:=match r with
 | .ok J G=>∀(b:Wd) (JJ:It),Ext a b->Sim b G->RepI b J JJ->Q JJ b.H
 | .err x G=>XOk E a x G
 | .bad=>False
noncomputable def lI (K:PySem.W.Frag) (E:XK) (t:DI):TI:=λσ H Q=>∃(a:Wd) (S:DSt) (G:DH),a.K=K/\a.H=H/\Sim a G/\RepS a S σ/\outI E a (t S G) Q
def QI (X:Cx) (E:XK) (tg iter:Expr) (t:DI):Prop:=PI X tg iter (lI X.K E t)
theorem outI.imp {r:R ItD} {Q Q':It->Hp->Prop} (h:outI E a r Q) (w:∀v H,Q v H->Q' v H):outI E a r Q':=by
 cases r with
 | ok d G=>exact λb v x s q=>w _ _ (h b v x s q)
 | err e G=>exact h
 | bad=>exact h
theorem ZIh {r:R ItD} {f:ItD->DH->SR} (h:Dg E a (r.toS f) W):
  outI E a r (λJ H=>∃(b:Wd) (d:ItD) (G:DH),b.H=H/\Ext a b/\Sim b G/\RepI b d J/\r=.ok d G/\Dg E b (f d G) W):=by
 cases r with
 | ok d G=>exact λb v x s q=>⟨b,d,G,rfl,x,s,q,rfl,Dg.mono x h⟩
 | err e G=>exact h
 | bad=>exact h
theorem ZFX {r:SR} {k:DSt->DH->SR} (h:Dg E a (aft r k) W):
  Dg E a r {W with
            nx:=λσ H=>∃(b:Wd) (S:DSt) (G:DH),b.H=H/\Ext a b/\Sim b G/\RepS b S σ/\Dg E b (k S G) W,
            ct:=λσ H=>∃(b:Wd) (S:DSt) (G:DH),b.H=H/\Ext a b/\Sim b G/\RepS b S σ/\Dg E b (k S G) W,bk:=W.nx}:=by
 cases r with
 | nx S G=>exact λb σ x s q=>⟨b,S,G,rfl,x,s,q,Dg.mono x h⟩
 | ct S G=>exact λb σ x s q=>⟨b,S,G,rfl,x,s,q,Dg.mono x h⟩
 | bk S G=>exact h
 | rt d G=>exact h
 | err x G=>exact h
 | bad=>exact h
noncomputable def mtF (i j:Nat) (G:DH):Option (Option D):=match G[i]? with
 | some (.lst xs)=>some xs[j]?
 | _=>none
theorem ZDU {J:It} {n:Nat} (r:RepI a (.pure xs) J):RepI a (.fn n λj _=>some xs[j]?) J:=by
 obtain ⟨vs,rv,h⟩:=r;refine λb x G sm i=>⟨λd e=> ?_,λe=> ?_⟩
 ·obtain ⟨v,ev,q⟩:=rv.get (Option.some.inj e);obtain ⟨h1,h2⟩:=(h b x i).1 v ev;refine ⟨h1,λy H' hy=> ?_⟩;obtain ⟨rfl,rfl⟩:=h2 y H' hy;exact ⟨b,rfl,Ext.refl b,sm,q.mono x⟩
 ·exact (h b x i).2 (by rw [<-rv.length];exact qD.mp (Option.some.inj e))
theorem ZGa {J:It} {n:Nat} (r:RepI a (.mt k) J):RepI a (.fn n (mtF k)) J:=by
 obtain ⟨hk,h⟩:=r;refine λb x G sm i=> ?_
 unfold mtF;cases hG:G[k]? with
 | none=>exact ⟨λd e=>(by cases e),λe=>(by cases e)⟩
 | some o=>
  cases o with
  | lst xs=>
   obtain ⟨vs,e1,rv⟩:=sm.lst hG;refine ⟨λd e=> ?_,λe=> ?_⟩
   ·obtain ⟨v,ev,q⟩:=rv.get (Option.some.inj e);obtain ⟨h1,h2⟩:=(h b x vs e1 i).1 v ev;refine ⟨h1,λy H' hy=> ?_⟩;obtain ⟨rfl,rfl⟩:=h2 y H' hy;exact ⟨b,rfl,Ext.refl b,sm,q⟩
   ·exact (h b x vs e1 i).2 (by rw [<-rv.length];exact qD.mp (Option.some.inj e))
  | _=>exact ⟨λd e=>(by cases e),λe=>(by cases e)⟩
theorem ZGr {b:DS} :∀(n j:Nat),j + n=xs.length->Be g b (xs.drop j)=Em (λj _=>some xs[j]?) g b n j
 | 0,j,h=>by
  funext S G;rw [zO (by lia)]
  show SR.nx S G=(match some xs[j]? with | some none=>SR.nx S G | _=>.bad)
  rw [zk (by lia)]
 | n + 1,j,h=>by
  funext S G;have hj:j < xs.length:=by lia
  rw [zM hj]
  show (g xs[j] S G).toS (λS1 G1=>aft (b S1 G1) (Be g b (xs.drop (j + 1))))=(match some xs[j]? with | some (some x)=>(g x S G).toS (λS1 G1=>aft (b S1 G1) (Em (λj _=>some xs[j]?) g b n (j + 1))) | some none=>SR.nx S G | none=>.bad)
  rw [zZ hj,ZGr n (j + 1) (by lia)]
theorem ZEM {b:DS} :∀(n j:Nat),forM i g b n j=Em (mtF i) g b n j
 | 0,j=>by
  funext S G;unfold forM Em mtF;cases G[i]? with
  | none=>rfl
  | some o=>
   cases o with
   | lst xs=>
    dsimp only;by_cases hj:j < xs.length
    ·rw [if_neg (by lia),zZ hj]
    ·rw [if_pos (by lia),zk (by lia)]
   | _=>rfl
 | n + 1,j=>by
  funext S G;unfold forM Em;rw [ZEM n (j + 1)];unfold mtF;cases G[i]? with
  | none=>rfl
  | some o=>
   cases o with
   | lst xs=>
    dsimp only
    cases xs[j]? <;> rfl
   | _=>rfl
section
variable {X:Cx} {E:XK} {tg iter:Expr} {pos:Pos}
theorem ZKl {it:DI} {b:DS} (h:lS K E (Dl it g b) W σ H):tFor (lI K E it) (lG K E g) (lS K E b) W σ H:=by
 obtain ⟨a,S,G,hk,rfl,s,r,h⟩:=h;refine ⟨a,S,G,hk,rfl,s,r,(ZIh h).imp ?_⟩;rintro J _ ⟨a1,d,G1,rfl,x1,s1,q1,_,h1⟩;have k1:a1.K=K:=x1.k.trans hk
 suffices fnc:∃n f,RepI a1 (.fn n f) J/\Dg E a1 (Em f g b n 0 S G1) W by
  obtain ⟨n,f,q1,h1⟩:=fnc;have walk:∀b:Wd,Ext a1 b->∀G,Sim b G->∀i,(∀d,f i G=some (some d)->J.go i b.H/\∀x H',J.yld i b.H x H'->∃c:Wd,c.H=H'/\Ext b c/\Sim c G/\Rep c d x)/\(f i G=some none->J.stop i b.H):=q1;refine ⟨λi m σ H=>∃(c:Wd) (S:DSt) (G:DH),c.H=H/\Ext a1 c/\Sim c G/\RepS c S σ/\Dg E c (Em f g b m i S G) W,⟨_,a1,S,G1,rfl,Ext.refl _,s1,r.mono x1,h1⟩,?_⟩;rintro i m σ2 _ ⟨c,S2,G2,rfl,x2,s2,r2,h2⟩
  cases m with
  | zero=>
   unfold Em at h2;split at h2
   ·rename_i hf;exact .inl ⟨(walk c x2 G2 s2 i).2 hf,h2 c σ2 (Ext.refl c) s2 r2⟩
   ·exact h2.elim
  | succ m=>
   unfold Em at h2;split at h2
   ·rename_i d hf;obtain ⟨go,yl⟩:=(walk c x2 G2 s2 i).1 d hf;refine .inr ⟨go,λσ' H'=>∃(c:Wd) (S:DSt) (G:DH),c.H=H'/\Ext a1 c/\Sim c G/\RepS c S σ'/\Dg E c (Em f g b m (i + 1) S G) W,λσ' H' z=>⟨m,qK _,z⟩,λw H' y=> ?_⟩;obtain ⟨cc,rfl,xx,ss,rd⟩:=yl w H' y;refine ⟨cc,S2,G2,d,xx.k.trans (x2.k.trans k1),rfl,ss,r2.mono xx,rd,(ZHq (Dg.mono xx h2)).imp ?_⟩;rintro σ3 _ ⟨c3,S3,G3,rfl,x3,s3,r3,_,h3⟩
    have fin:=ZFX h3;refine ⟨c3,S3,G3,x3.k.trans (xx.k.trans (x2.k.trans k1)),rfl,s3,r3,?_⟩
    revert fin
    cases b S3 G3 with
    | nx S4 G4=>
      intro fin c4 σ4 x4 s4 q4;obtain ⟨c5,S5,G5,hh,x5,s5,r5,h5⟩:=fin c4 σ4 x4 s4 q4;exact ⟨c5,S5,G5,hh,x2.trans (xx.trans (x3.trans x5)),s5,r5,h5⟩
    | ct S4 G4=>
      intro fin c4 σ4 x4 s4 q4;obtain ⟨c5,S5,G5,hh,x5,s5,r5,h5⟩:=fin c4 σ4 x4 s4 q4;exact ⟨c5,S5,G5,hh,x2.trans (xx.trans (x3.trans x5)),s5,r5,h5⟩
    | bk S4 G4=>exact λfin=>fin
    | rt S4 G4=>exact λfin=>fin
    | err S4 G4=>exact λfin=>fin
    | bad=>exact λfin=>fin
   ·rename_i hf;exact .inl ⟨(walk c x2 G2 s2 i).2 hf,h2 c σ2 (Ext.refl c) s2 r2⟩
   ·exact h2.elim
 cases d with
 | pure xs=>
  have h1':Dg E a1 (Be g b (xs.drop 0) S G1) W:=h1;rw [ZGr xs.length 0 (by lia)] at h1';exact ⟨_,_,ZDU q1,h1'⟩
 | mt k=>
  dsimp only at h1;split at h1
  ·rw [ZEM] at h1;exact ⟨_,_,ZGa q1,h1⟩
  ·exact h1.elim
 | fn n f=>exact ⟨n,f,q1,h1⟩
theorem Ea {body:List Stmt} {it:DI} {b:DS} (hp:PassesOwn (model X.prog X.w) X.A X.env X.xe) (hc:X.calm=true) (hi:QI X E tg iter it) (hg:QG X E tg g) (hb:QSs X E body b)
  (hs:∀x,foldedSetIterable iter X.env x=pure x:=by intro _;rfl):QS X E (.For tg iter body [] pos) (Dl it g b):=(ZOG hp hc hi hg hb hs).mono λ_ _ _ h=>ZKl h
theorem _root_.L2.PI.mono {t t':TI} (h:PI X tg iter t) (w:∀σ H Q,t' σ H Q->t σ H Q):PI X tg iter t':=λpins s σ H Q I q=>h pins s σ H Q I (w σ H Q q)
def sgn (c:Nat):D:=.str ⟨#[c]⟩
def signs (x:Str):List D:=x.cps.toList.map sgn
noncomputable def Its (x:Str):It:=⟨λi _=>i < x.cps.size,λi H v H'=>H'=H/\∃c,x.cps[i]? =some c/\v=.str ⟨#[c]⟩,λi _=>x.cps.size<=i⟩
theorem ZJ0 (it:Addr) (x:Str) (t:Tok):Turn P w K tg (Its x) [it] it (λi h=>h.IsStrIter it "str_ascii_iterator" x t i) where
 mem:=by simp
 obj:=λi h st b hb=>by
  have e:b=it:=by simpa using hb
  subst e;obtain ⟨o,e,c,d⟩:=st;exact ⟨o,e,λv z=>by rw [d] at z;cases z⟩
 keep:=λi h h' st k=>let ⟨o,ho,r⟩:=st;⟨o,k it (by simp) o ho,r⟩
 item:=by
  intro X hP hw hK hc i pins s σ H E I hf st hg;subst hP hw hK;obtain ⟨f0,f1,f2,f3,f4,f5⟩:=hf it (by simp);have hi:i < x.cps.size:=hg;refine wpAny_pyNext_ascii_item st (c:=x.cps[i]) (by simp [hi]) λh' st' sb=> ?_
  have I1:Inv X pins σ H {s with heap:=h',toks:=s.toks + 1}:=I.turned (λb o hb e=>(sb.2 b hb).trans e) f0 f1 f3 f4 f5;obtain ⟨o,e,c,d⟩:=id st';exact ⟨_,rfl,Ol (s:={s with heap:=h',toks:=s.toks + 1}) e c d (by decide) ⟨.str ⟨#[x.cps[i]]⟩,H,I1,⟨_,rfl⟩,⟨rfl,_,by simp [hi],rfl⟩,st',λb hb=>(hf b hb).1⟩⟩
 done:=by intro X hP hw hK hc i pins s σ H E I hf st hg;subst hP hw hK;obtain ⟨f0,f1,f2,f3,f4,f5⟩:=hf it (by simp);have hi:x.cps.size<=i:=hg;exact wpAny_pyNext_ascii_end (I.ok.hd hc) st (by simp [hi]) λh' eb=>⟨rfl,I.turned (t':=s.toks) (λb o hb e=>eb b o hb e) f0 f1 f3 f4 f5⟩
 self:=λ_ _ _ _ _ st h=>wpAny_pyIter_striter_ascii st h
theorem ZL6 (it:Addr) (x:Str) (t:Tok):Turn P w K tg (Its x) [it] it (λi h=>h.IsStrIter it "str_iterator" x t i) where
 mem:=by simp
 obj:=λi h st b hb=>by
  have e:b=it:=by simpa using hb
  subst e;obtain ⟨o,e,c,d⟩:=st;exact ⟨o,e,λv z=>by rw [d] at z;cases z⟩
 keep:=λi h h' st k=>let ⟨o,ho,r⟩:=st;⟨o,k it (by simp) o ho,r⟩
 item:=by
  intro X hP hw hK hc i pins s σ H E I hf st hg;subst hP hw hK;obtain ⟨f0,f1,f2,f3,f4,f5⟩:=hf it (by simp);have hi:i < x.cps.size:=hg;refine wpAny_pyNext_wide_item st (c:=x.cps[i]) (by simp [hi]) λh' st' sb=> ?_
  have I1:Inv X pins σ H {s with heap:=h',toks:=s.toks + 1}:=I.turned (λb o hb e=>(sb.2 b hb).trans e) f0 f1 f3 f4 f5;obtain ⟨o,e,c,d⟩:=id st';exact ⟨_,rfl,Ol (s:={s with heap:=h',toks:=s.toks + 1}) e c d (by decide) ⟨.str ⟨#[x.cps[i]]⟩,H,I1,⟨_,rfl⟩,⟨rfl,_,by simp [hi],rfl⟩,st',λb hb=>(hf b hb).1⟩⟩
 done:=by intro X hP hw hK hc i pins s σ H E I hf st hg;subst hP hw hK;obtain ⟨f0,f1,f2,f3,f4,f5⟩:=hf it (by simp);have hi:x.cps.size<=i:=hg;exact wpAny_pyNext_wide_end (I.ok.hd hc) st (by simp [hi]) λh' eb=>⟨rfl,I.turned (t':=s.toks) (λb o hb e=>eb b o hb e) f0 f1 f3 f4 f5⟩
 self:=λ_ _ _ _ _ st h=>wpAny_pyIter_striter_wide st h
def iStr (tl:TE):TI:=λσ H R=>tl σ H λx H1=>∃z,x=.str z/\R (Its z) H1
theorem ZK1 {l:Expr} {tl:TE} (hl:PE X l tl):PI X tg l (iStr tl):=by
 intro pins s σ H R I h;refine thn (hl pins s σ H _ I h) λv s1 ⟨x,H1,I1,r1,q1⟩=> ?_
 obtain ⟨z,e,q⟩:=q1;subst e;obtain ⟨t,rfl⟩:=r1;have fp:∀b∈ [s1.heap.objs.size],FpOk X pins H1 b:=λb hb=>by
  have e:b=s1.heap.objs.size:=by simpa using hb
  subst e;exact I1.K3 (zK _) (I1.hok.fresh (zK _))
 cases ha:z.cps.all (· < 128)
 ·refine wpAny_pyIter_wide ha ?_;exact ⟨s1.heap.objs.size,[s1.heap.objs.size],_,_,H1,rfl,I1.kept (t':=s1.toks) λb o e=>zQ _ e,ZL6 _ z t,⟨_,zy _ rfl,rfl,rfl⟩,fp,q⟩
 ·refine wpAny_pyIter_ascii ha ?_;exact ⟨s1.heap.objs.size,[s1.heap.objs.size],_,_,H1,rfl,I1.kept (t':=s1.toks) λb o e=>zQ _ e,ZJ0 _ z t,⟨_,zy _ rfl,rfl,rfl⟩,fp,q⟩
theorem Reps.signs (x:Str):Reps a (signs x) (x.cps.toList.map λc=>V.str ⟨#[c]⟩):=by
 unfold DL.signs
 induction x.cps.toList with
 | nil=>exact rfl
 | cons c r ih=>exact ⟨_,_,rfl,rfl,ih⟩
noncomputable def Hu:D->DH->R ItD
 | .tup xs,G=>.ok (.pure xs) G
 | .str x,G=>.ok (.pure (signs x)) G
 | .fl xs,G=>.ok (.pure xs) G
 | .ref i,G=>match G[i]? with
  | some (.lst _)=>.ok (.mt i) G
  | _=>.bad
 | _,_=>.bad
def Fi (te:DE):DI:=λS G=>(te S G).bind Hu
theorem Gp (he:QE X E iter te):QI X E tg iter (Fi te):=by
 intro pins s σ H R I h;obtain ⟨a,S,G,hk,rfl,sm,r,h⟩:=h;cases ht:te S G with
 | bad=>
  have h':outI E a ((te S G).bind Hu) R:=h;rw [ht] at h';exact h'.elim
 | err e G1=>
  have h':outI E a ((te S G).bind Hu) R:=h;rw [ht] at h';refine ZCq (tg:=tg) he pins s σ a.H R I ⟨a,S,G,hk,rfl,sm,r,?_⟩;rw [ht];exact h'
 | ok d G1=>
  have h':outI E a ((te S G).bind Hu) R:=h;rw [ht] at h';cases d with
  | tup xs=>
   refine ZMa (tg:=tg) he pins s σ a.H R I ⟨a,S,G,hk,rfl,sm,r,?_⟩;rw [ht];rintro b v x sb ⟨p,vs,rfl,hq,rv⟩;have hq':SqT X.K b.H p vs:=by rw [<-hk,<-x.k];exact hq
   refine ⟨p,rfl,⟨vs,hq'⟩,h' b _ x sb ⟨vs,rv,λc y i=>⟨λv hv=>⟨⟨vs,v,?_,hv⟩,λw H' z=> ?_⟩,λhl=>⟨vs,?_,hl⟩⟩⟩⟩
   ·have:=y.sqT hq;rw [y.k,x.k,hk] at this;exact this
   ·have:=y.sqT hq;rw [y.k,x.k,hk] at this;exact ⟨Option.some.inj ((z.2 vs this).symm.trans hv),z.1⟩
   ·have:=y.sqT hq;rw [y.k,x.k,hk] at this;exact this
  | fl xs=>
   refine ZCq (tg:=tg) he pins s σ a.H R I ⟨a,S,G,hk,rfl,sm,r,?_⟩;rw [ht];rintro b v x sb ⟨p,vs,rfl,hq,rv⟩;have hq':SqL X.K b.H p vs:=by rw [<-hk,<-x.k];exact hq.sq
   refine ⟨p,rfl,⟨vs,hq'⟩,h' b _ x sb ⟨vs,rv,λc y i=>⟨λv hv=>⟨⟨vs,v,?_,hv⟩,λw H' z=> ?_⟩,λhl=>⟨vs,?_,hl⟩⟩⟩⟩
   ·have:=(y.fzL hq).sq;rw [y.k,x.k,hk] at this;exact this
   ·have:=(y.fzL hq).sq;rw [y.k,x.k,hk] at this;exact ⟨Option.some.inj ((z.2 vs this).symm.trans hv),z.1⟩
   ·have:=(y.fzL hq).sq;rw [y.k,x.k,hk] at this;exact this
  | ref k=>
   have h2:outI E a (Hu (.ref k) G1) R:=h';unfold Hu at h2;dsimp only at h2;split at h2
   ·rename_i xs hx;refine ZCq (tg:=tg) he pins s σ a.H R I ⟨a,S,G,hk,rfl,sm,r,?_⟩;rw [ht];rintro b v x sb ⟨hkn,rfl⟩;obtain ⟨vs,hx,_⟩:=sb.lst hx;refine ⟨b.m k,rfl,⟨vs,.of hx⟩,h2 b _ x sb ⟨hkn,λc y us hu i=> ?_⟩⟩;rw [y.m k hkn] at hu;exact ⟨λv hv=>⟨⟨us,v,.of hu,hv⟩,λw H' z=>⟨Option.some.inj ((z.2 us (.of hu)).symm.trans hv),z.1⟩⟩,λhl=>⟨us,.of hu,hl⟩⟩
   ·exact h2.elim
  | str z=>
   refine ZK1 (tg:=tg) he pins s σ a.H R I ⟨a,S,G,hk,rfl,sm,r,?_⟩;rw [ht];intro b v x sb rv
   cases (show v=V.str z from rv)
   refine ⟨z,rfl,h' b _ x sb ⟨_,Reps.signs z,λc y i=>⟨λv hv=> ?_,λhl=> ?_⟩⟩⟩
   ·rw [zj,zL] at hv;obtain ⟨k,hk1,rfl⟩:=hv;have hk2:z.cps[i]? =some k:=by rw [<-qE];exact hk1
    refine ⟨(Array.getElem?_eq_some_iff.mp hk2).1,λw H' q=> ?_⟩;obtain ⟨e1,k',e2,e3⟩:=q;rw [hk2] at e2;cases e2;exact ⟨e3,e1⟩
   ·rw [zT,qz] at hl;exact hl
  | _=>exact h'.elim
end
def Bs (lo:Int) (n:Nat):List D:=(zX n).map λ(k:Nat)=>D.int (lo + (k:Int))
def inR (j:Int):Prop:= -(2 ^ 62)<=j/\j < 2 ^ 62
instance (j:Int):Decidable (inR j):=by unfold inR;infer_instance
noncomputable def rng1 (ds:List D) (G:DH):R ItD:=match ds with
 | [.int j]=>if inR j then .ok (.pure (Bs 0 j.toNat)) G else .bad
 | _=>.bad
def Cv (f:List D->DH->R ItD) (ta:DA):DI:=λS G=>(ta S G).bind f
noncomputable def sWh (c:DB) (b:DS):Nat->DS
 | 0,_,_=>.bad
 | n + 1,S,G=>(c S G).toS λk G1=>if k=true then aft (b S G1) (sWh c b n) else .nx S G1
noncomputable def Ce (np nl:Nat) (b:DS):List D->DH->R D:=λds G=>if ds.length=np then tidy G (match b (ds.map some++zV nl none) G with
 | .nx _ G'=>.ok .non G'
 | .rt d G'=>.ok d G'
 | .err x G'=>.err x G'
 | _=>.bad) else .bad
theorem outI.mono (x:Ext a b) {r:R ItD} {Q:It->Hp->Prop} (h:outI E a r Q):outI E b r Q:=by
 cases r with
 | ok d G=>exact λc v y s q=>h c v (x.trans y) s q
 | err e G=>exact XOk.mono (E:=E) (e:=e) (G:=G) x h
 | bad=>exact h
theorem Ro {r:R (List D)} {f:List D->DH->R ItD} {Q:It->Hp->Prop} (h:outI E a (r.bind f) Q):
  Hf E a r (λvs H=>∃(b:Wd) (ds:List D) (G:DH),b.H=H/\Ext a b/\Sim b G/\Reps b ds vs/\r=.ok ds G/\outI E b (f ds G) Q):=by
 cases r with
 | ok d G=>exact λb v x s q=>⟨b,d,G,rfl,x,s,q,rfl,outI.mono x h⟩
 | err e G=>exact h
 | bad=>exact h
section
variable {X:Cx} {E:XK} {tg iter:Expr} {pos:Pos}
theorem ZOy (lo:Int) (n:Nat):RepI a (.pure (Bs lo n)) (Itr lo n):=by
 refine ⟨(zX n).map λ(k:Nat)=>V.int (lo + (k:Int)),?_,λb x i=>⟨λv hv=> ?_,λhl=> ?_⟩⟩
 ·unfold Bs;generalize zX n=l
  induction l with
  | nil=>exact rfl
  | cons k l ih=>exact ⟨_,_,rfl,rfl,ih⟩
 ·rw [zj] at hv;by_cases hi:i < n
  ·rw [zI hi] at hv;have hv':V.int (lo + (i:Int))=v:=by simpa using hv
   exact ⟨hi,λw H' y=>⟨y.2.trans hv',y.1⟩⟩
  ·rw [zk (by simpa using hi)] at hv;cases hv
 ·show n<=i;simpa using hl
theorem Fp {ta:DA} {p pos:Pos} (hg:Gl X "range") (hm:X.mg "range"=none) (ha:QA X E [e] ta) (hs:starEach [e] X.env= [(false,eval e X.env)]:=by rfl):QI X E tg (.Call (.Name "range" p) [e] [] pos) (Cv rng1 ta):=
 (ZLh hg hm ha hs).mono λσ H Q h=>by
  obtain ⟨a,S,G,hk,rfl,s,r,h⟩:=h;refine ⟨a,S,G,hk,rfl,s,r,(Ro h).imp ?_⟩;rintro vs _ ⟨b,ds,G1,rfl,x,s1,q,-,h1⟩;unfold rng1 at h1;split at h1
  ·rename_i j;split at h1
   ·rename_i hj;obtain ⟨v,r,e1,q1,q2⟩:=q
    cases (show v=V.int j from q1)
    cases (show r= [] from q2)
    exact ⟨j,e1,hj.1,hj.2,h1 b _ (Ext.refl b) s1 (ZOy 0 j.toNat)⟩
   ·exact h1.elim
  ·exact h1.elim
theorem ZKG (n:Nat) {c:Expr} {body:List Stmt} {tc:DB} {tb:DS} (hp:PassesOwn (model X.prog X.w) X.A X.env X.xe) (hc:QT X E c tc) (hb:QSs X E body tb):QS X E (.While c body [] pos) (sWh tc tb n):=(ZOx hp hc hb).mono λW σ H h=>by
 obtain ⟨a,S,G,hk,rfl,s,r,h⟩:=h;refine ⟨λm σ H=>∃(b:Wd) (S:DSt) (G:DH),b.H=H/\Ext a b/\Sim b G/\RepS b S σ/\Dg E b (sWh tc tb m S G) W,⟨n,a,S,G,rfl,Ext.refl a,s,r,h⟩,?_⟩;rintro m σ2 _ ⟨b,S2,G2,rfl,x2,s2,r2,h2⟩;cases m with
 | zero=>exact h2.elim
 | succ m=>
  refine ⟨b,S2,G2,x2.k.trans hk,rfl,s2,r2,(ZHl h2).imp ?_⟩;rintro k _ ⟨c3,G3,rfl,x3,s3,_,h3⟩;cases k with
  | false=>exact h3 c3 σ2 (Ext.refl c3) s3 (r2.mono x3)
  | true=>
   refine ⟨λσ' H'=>∃(b:Wd) (S:DSt) (G:DH),b.H=H'/\Ext a b/\Sim b G/\RepS b S σ'/\Dg E b (sWh tc tb m S G) W,λσ' H' z=>⟨m,qK _,z⟩,c3,S2,G3,x3.k.trans (x2.k.trans hk),rfl,s3,r2.mono x3,?_⟩;have fin:=ZFX h3
   revert fin
   cases tb S2 G3 with
   | nx S4 G4=>
    intro fin c4 σ4 x4 s4 q4;obtain ⟨c5,S5,G5,hh,x5,s5,r5,h5⟩:=fin c4 σ4 x4 s4 q4;exact ⟨c5,S5,G5,hh,x2.trans (x3.trans x5),s5,r5,h5⟩
   | ct S4 G4=>
    intro fin c4 σ4 x4 s4 q4;obtain ⟨c5,S5,G5,hh,x5,s5,r5,h5⟩:=fin c4 σ4 x4 s4 q4;exact ⟨c5,S5,G5,hh,x2.trans (x3.trans x5),s5,r5,h5⟩
   | bk S4 G4=>exact λfin=>fin
   | rt S4 G4=>exact λfin=>fin
   | err S4 G4=>exact λfin=>fin
   | bad=>exact λfin=>fin
end
theorem ZPW (r:Reps a ds vs) (n m:Nat) (h:n=m):RepS a (ds.map some++zV n none) (vs.map some++zV m none):=by
 subst h;refine ⟨by simp [r.length],λi d hd=> ?_⟩;by_cases hi:i < ds.length
 ·rw [zP (by simpa using hi),zj] at hd;cases e:ds[i]? with
  | none=>rw [e] at hd;cases hd
  | some d'=>
   rw [e] at hd;have hd':d'=d:=by simpa using hd
   subst hd';obtain ⟨v,ev,q⟩:=r.get e;exact ⟨v,by rw [zP (by rw [zT,<-r.length];exact hi),zj,ev];rfl,q⟩
 ·rw [zG (by simpa using hi),qI] at hd
  split at hd <;> cases hd
theorem Cp {mg:Str->Option Value} {base:Heap} {qual:Str} {st:Stmt} {f:Addr} {fd:FuncData} {N ps:List Str} {b:DS} (F:Fun K x qual st f fd) (S:FnScope N ps (Aw st))
  (hbody:∀(cdv:Value) (A:Around) (outer:List Env) (s:Shared) (H:Hp) (E:XK),Room k (A.deeper (envOfC qual (Aw st) s.heap.objs.size f cdv))->QSs (Nv CX0 P w K mg base N qual (Aw st) f cdv A outer s H E).nox E0 (Iz st) b):
  FnOk P w K mg base CX0 (k + 1) f fd ps (lF K (Ce ps.length (N.length - ps.length) b)):=by
 have hlen:∀vs H Q E,lF K (Ce ps.length (N.length - ps.length) b) vs H Q E->vs.length=ps.length:=λvs H Q E h=>by
  obtain ⟨a,G,ds,hk,rfl,sm,r,h⟩:=h;unfold Ce at h;split at h
  ·rename_i hl;rw [<-r.length];exact hl
  ·exact h.elim
 refine F.ok S hlen (λcdv A outer s H vs Q E hr h=> ?_);refine ⟨lS K E0 b,hbody cdv A outer s H E hr,?_⟩;have hl:=hlen vs H Q E h;obtain ⟨a,G,ds,hk,rfl,sm,r,h⟩:=h;unfold Ce at h;split at h
 ·have h2:=ZDZ sm h;refine ⟨a,ds.map some++zV (N.length - ps.length) none,G,hk,rfl,sm,ZPW r _ _ (by rw [hl]),?_⟩
  revert h2
  cases b (ds.map some++zV (N.length - ps.length) none) G with
  | nx S1 G1=>exact λh2 c σ x s1 _=>h2 c .non x s1 rfl
  | rt d G1=>exact λh2=>h2
  | err e G1=>exact λh2=>h2
  | bk S1 G1=>exact λh2=>h2.elim
  | ct S1 G1=>exact λh2=>h2.elim
  | bad=>exact λh2=>h2
 ·exact h.elim
theorem Ny {x:V} (s:Sim a G) (r:Rep a d x) (h:Cj d G=some xs):∃p vs,x=.ref p/\(SqL a.K a.H p vs∨SqT a.K a.H p vs)/\Reps a xs vs:=by
 cases d with
 | tup ys=>
  have e:ys=xs:=Option.some.inj h;subst e;obtain ⟨p,vs,e,q,rr⟩:=r;exact ⟨p,vs,e,.inr q,rr⟩
 | fl ys=>
  have e:ys=xs:=Option.some.inj h;subst e;obtain ⟨p,vs,e,q,rr⟩:=r;exact ⟨p,vs,e,.inl q.sq,rr⟩
 | ref i=>
  unfold Cj at h;dsimp only at h;split at h
  ·rename_i ys hi;have e:ys=xs:=Option.some.inj h;subst e;obtain ⟨vs,e1,r1⟩:=s.lst hi;exact ⟨a.m i,vs,r.2,.inl (.of e1),r1⟩
  ·cases h
 | _=>cases h
noncomputable def Aj (d e:D) (G:DH):R D:=match e with
 | .int i=>match d with
  | .str z=>if z.length<=1000000 then (match atI z.cps.toList i with
    | some c=>.ok (.str ⟨#[c]⟩) G
    | none=>.bad) else .bad
  | d=>match Cj d G with
   | some xs=>match atI xs i with
    | some v=>.ok v G
    | none=>.bad
   | none=>.bad
 | _=>.bad
theorem ZHu {i:Int} (r:Reps a xs vs) (h:atI xs i=some d):∃v,atI vs i=some v/\Rep a d v:=by
 unfold atI at h ⊢;rw [<-r.length];cases e:ixN xs.length i with
 | none=>rw [e] at h;cases h
 | some j=>
  rw [e] at h
  obtain ⟨v,ev,q⟩:=r.get (show xs[j]? =some d from h)
  exact ⟨v,ev,q⟩
section
variable {X:Cx} {E:XK}
theorem _root_.L2.IxR.mono {r r':R2} (h:IxR X r) (w:∀x y H Q,r' x y H Q->r x y H Q):IxR X r':=λvalue slice pins s σ H x y v u Q I rx ry q hs=>h value slice pins s σ H x y v u Q I rx ry (w _ _ _ _ q) hs
theorem _root_.L2.CallR.mono {f:Value} {r r':List V->Hp->VK->Prop} (h:CallR X f r) (w:∀xs H Q,r' xs H Q->r xs H Q):CallR X f r':=λpins s σ H xs us Q I rs q=>h pins s σ H xs us Q I rs (w _ _ _ q)
theorem _root_.L2.MtM.mono {id:String} {r r':V->List V->Hp->VK->Prop} (h:MtM X id r) (w:∀x xs H Q,r' x xs H Q->r x xs H Q):MtM X id r':=λpins s σ H x xs v us Q I rx rs q=>h pins s σ H x xs v us Q I rx rs (w _ _ _ _ q)
theorem Ak:IxR X (lR2 X.K E Aj):=ZPa.mono λx y H Q h=>by
 obtain ⟨a,G,d,e,hk,rfl,s,rd,re,q⟩:=h;cases e with
 | int i=>
  have fin:∀{xs:List D},Cj d G=some xs->out E a (match atI xs i with | some v=>.ok v G | none=>.bad) Q->rIx X.K x y a.H Q:=λ{xs} hs q=>by
   obtain ⟨p,vs,e1,h1,r1⟩:=Ny s rd hs;rw [hk] at h1;split at q
   ·rename_i v hv;obtain ⟨u,hu,ru⟩:=ZHu r1 hv;have z:=q a u (Ext.refl a) s ru;rcases h1 with h1 | h1
    ·exact .inl ⟨p,vs,i,u,e1,re,h1,hu,z⟩
    ·exact .inr (.inl ⟨p,vs,i,u,e1,re,h1,hu,z⟩)
   ·exact q.elim
  have fin':out E a (match Cj d G with | some xs=>(match atI xs i with | some v=>.ok v G | none=>.bad) | none=>.bad) Q->rIx X.K x y a.H Q:=λq=>by
   cases hs:Cj d G with
   | none=>rw [hs] at q;exact q.elim
   | some xs=>rw [hs] at q;exact fin hs q
  cases d with
  | str z=>
   unfold Aj at q;dsimp only at q;split at q
   ·rename_i hl;split at q
    ·rename_i c hc;exact .inr (.inr ⟨z,i,c,rd,re,z5 hl size6,hc,q a _ (Ext.refl a) s rfl⟩)
    ·exact q.elim
   ·exact q.elim
  | tup ys=>exact fin' q
  | fl ys=>exact fin' q
  | ref j=>exact fin' q
  | _=>exact fin' q
 | _=>exact q.elim
noncomputable def De (ds:List D) (G:DH):R D:=match ds with
 | [.str z]=>if z.length<=1000000 then .ok (.int z.length) G else .bad
 | [d]=>match Cj d G with
  | some xs=>.ok (.int xs.length) G
  | none=>.bad
 | _=>.bad
theorem reps1 (r:Reps a [d] vs):∃v,vs= [v]/\Rep a d v:=by
 obtain ⟨v,r',e,q,z⟩:=r
 cases (show r'= [] from z)
 exact ⟨v,e,q⟩
theorem reps2 {d':D} (r:Reps a [d,d'] vs):∃v v',vs= [v,v']/\Rep a d v/\Rep a d' v':=by obtain ⟨v,r',e,q,z⟩:=r;obtain ⟨v',e',q'⟩:=reps1 z;subst e';exact ⟨v,v',e,q,q'⟩
theorem Dt:CallR X (.builtin "len") (lRn X.K E De):=(ZId.or ZNN).mono λvs H Q h=>by
 obtain ⟨a,G,ds,hk,rfl,s,r,q⟩:=h;unfold De at q;split at q
 ·rename_i z;split at q
  ·rename_i hl;obtain ⟨v,rfl,rv⟩:=reps1 r
   cases (show v=V.str z from rv)
   exact .inr ⟨z,rfl,z5 hl size6,q a _ (Ext.refl a) s rfl⟩
  ·exact q.elim
 ·rename_i d _;split at q
  ·rename_i xs hs;obtain ⟨v,rfl,rv⟩:=reps1 r;obtain ⟨p,us,rfl,h1,r1⟩:=Ny s rv hs;rw [hk] at h1;exact .inl ⟨p,us,rfl,h1,q a _ (Ext.refl a) s (by rw [<-r1.length];exact rfl)⟩
  ·exact q.elim
 ·exact q.elim
noncomputable def Fd (ds:List D) (G:DH):R D:=match ds with
 | [d]=>match Cj d G with
  | some xs=>.ok (.tup xs) G
  | none=>.bad
 | _=>.bad
theorem Hr:CallR X (.type "tuple") (lRn X.K E Fd):=ZNL.mono λvs H Q h=>by
 obtain ⟨a,G,ds,hk,rfl,s,r,q⟩:=h;unfold Fd at q;split at q
 ·rename_i d;split at q
  ·rename_i xs hs;obtain ⟨v,rfl,rv⟩:=reps1 r;obtain ⟨p,us,rfl,h1,r1⟩:=Ny s rv hs;refine ⟨p,us,rfl,?_⟩;rcases h1 with h1 | h1
   ·exact .inl ⟨by rw [<-hk];exact h1,λl hl=>ZCZ s r1 q l hl⟩
   ·exact .inr ⟨by rw [<-hk];exact h1,q a _ (Ext.refl a) s ⟨p,us,rfl,h1,r1⟩⟩
  ·exact q.elim
 ·exact q.elim
noncomputable def Ye (ds:List D) (G:DH):R D:=match ds with
 | [.str z]=>if z.length<=1000000 then .ok (.ref G.length) (G++ [.lst (signs z)]) else .bad
 | [d]=>match Cj d G with
  | some xs=>.ok (.ref G.length) (G++ [.lst xs])
  | none=>.bad
 | _=>.bad
theorem ZAE:∀{vs:List V} {us:List Value},vs.length=us.length->(∀(i:Nat) (v:V) (u:Value),vs[i]? =some v->us[i]? =some u->RelV v u)->Vals vs us
 | [],[],_,_=>.nil
 | [],_::_,h,_=>by cases h
 | _::_,[],h,_=>by cases h
 | v::vs,u::us,h,f=>.cons (f 0 v u rfl rfl) (ZAE (by simpa using h) λi v' u' h1 h2=>f (i + 1) v' u' (by simpa using h1) (by simpa using h2))
theorem ZI7 (hc:X.calm=true):CallR X (.type "list") (λxs H Q=>∃z:Str,xs= [.str z]/\z.length<=sizeLine/\∀l,H l=none->Q (.ref l) (upd H l (.lst (z.cps.toList.map λc=>V.str ⟨#[c]⟩)))):=by
 intro pins s σ H xs us Q I r h;obtain ⟨z,rfl,hz,q⟩:=h;obtain ⟨u,rfl,t,rfl⟩:=vals1 r;refine PySem.call_list_str (I.ok.hd hc) z t (λh' tk acc c hk hS hacc=> ?_) hz;have hn:H s.heap.objs.size=none:=I.hok.fresh (zK _);refine ⟨.ref s.heap.objs.size,upd H s.heap.objs.size (.lst (z.cps.toList.map λc=>V.str ⟨#[c]⟩)),I.laid (t':=tk) (h':=h') hk (zK _) ?_,rfl,q _ hn⟩;refine ⟨by rw [zT,qz];exact hz,acc.toList,c,ZAE ?_ λi v u h1 h2=> ?_,by simpa using hS⟩
 ·rw [zT,qz,qz];exact hacc.1.symm
 ·rw [zj,zL] at h1;obtain ⟨k,e1,rfl⟩:=h1;obtain ⟨k',t',e2,rfl⟩:=hacc.2 i u (by rw [<-qE];exact h2);rw [qE,e2] at e1;cases e1;exact ⟨t',rfl⟩
theorem ZIi (hc:X.calm=true):CallR X (.type "list") (lRn X.K E Ye):=(ZNO.or (ZI7 hc)).mono λvs H Q h=>by
 obtain ⟨a,G,ds,hk,rfl,s,r,q⟩:=h;unfold Ye at q;split at q
 ·rename_i z;split at q
  ·rename_i hl;obtain ⟨v,rfl,rv⟩:=reps1 r
   cases (show v=V.str z from rv)
   exact .inr ⟨z,rfl,z5 hl size6,λl hl=>M5 s (Reps.signs z) q l hl⟩
  ·exact q.elim
 ·rename_i d _;split at q
  ·rename_i xs hs;obtain ⟨v,rfl,rv⟩:=reps1 r;obtain ⟨p,us,rfl,h1,r1⟩:=Ny s rv hs;exact .inl ⟨p,us,rfl,by rw [<-hk];exact h1,λl hl=>M5 s r1 q l hl⟩
  ·exact q.elim
 ·exact q.elim
noncomputable def Wb (ds:List D) (G:DH):R D:=match ds with
 | [.int i,.int j]=>.ok (.int (if j > i then j else i)) G
 | _=>.bad
noncomputable def Mx (ds:List D) (G:DH):R D:=match ds with
 | [.int i,.int j]=>.ok (.int (if j < i then j else i)) G
 | _=>.bad
theorem ZMf (hc:X.calm=true):CallR X (.builtin "max") (lRn X.K E Wb):=(ZJ1 hc).mono λvs H Q h=>by
 obtain ⟨a,G,ds,hk,rfl,s,r,q⟩:=h;unfold Wb at q;split at q
 ·obtain ⟨v,v',rfl,h1,h2⟩:=reps2 r
  cases (show v=V.int _ from h1)
  cases (show v'=V.int _ from h2)
  exact ⟨_,_,rfl,q a _ (Ext.refl a) s rfl⟩
 ·exact q.elim
theorem Us (hc:X.calm=true):CallR X (.builtin "min") (lRn X.K E Mx):=(ZLt hc).mono λvs H Q h=>by
 obtain ⟨a,G,ds,hk,rfl,s,r,q⟩:=h;unfold Mx at q;split at q
 ·obtain ⟨v,v',rfl,h1,h2⟩:=reps2 r
  cases (show v=V.int _ from h1)
  cases (show v'=V.int _ from h2)
  exact ⟨_,_,rfl,q a _ (Ext.refl a) s rfl⟩
 ·exact q.elim
noncomputable def Fj (o:D) (ds:List D) (G:DH):R D:=match o,ds with
 | .ref i,[d]=>match G[i]? with
  | some (.lst xs)=>if xs.length < 1000000 then .ok .non (G.set i (.lst (xs++ [d]))) else .bad
  | _=>.bad
 | _,_=>.bad
noncomputable def lRm (K:PySem.W.Frag) (E:XK) (f:D->List D->DH->R D):V->List V->Hp->VK->Prop:=λx xs H Q=>∃(a:Wd) (G:DH) (d:D) (ds:List D),a.K=K/\a.H=H/\Sim a G/\Rep a d x/\Reps a ds xs/\out E a (f d ds G) Q
theorem Sim.isList (s:Sim a G) (h:G[i]? =some (.lst xs)):∃vs,SqL a.K a.H (a.m i) vs:=let ⟨vs,e,_⟩:=s.lst h;⟨vs,.of e⟩
theorem Gs:MtM X "list.append" (lRm X.K E Fj):=ZOh.mono λx xs H Q h=>by
 obtain ⟨a,G,d,ds,hk,rfl,s,rd,r,q⟩:=h;unfold Fj at q;split at q
 ·rename_i i d;obtain ⟨v,rfl,rv⟩:=reps1 r;split at q
  ·rename_i ys hy;split at q
   ·rename_i hl;obtain ⟨vs,e1,r1⟩:=s.lst hy;obtain ⟨x3,s3⟩:=ZC1 s rd.1 e1 (r1.append (Reps.cons rv Reps.nil));refine ⟨a.m i,vs,v,rd.2,rfl,e1,by rw [<-r1.length];exact zq hl size6,?_⟩;exact q _ .non x3 s3 rfl
   ·exact q.elim
  ·exact q.elim
 ·exact q.elim
variable {o e:Expr} {es:List Expr} {to:DE} {t:DA} {name:Str} {apos cpos:Pos} {T id:String} {f:D->List D->DH->R D}
noncomputable def isL (d:D) (G:DH):Bool:=match d with
 | .ref i=>match G[i]? with
  | some (.lst _)=>true
  | _=>false
 | .fl _=>true
 | _=>false
noncomputable def Fe (f:D->List D->DH->R D) (o:DE) (t:DA):DE:=λS G=>(o S G).bind λx G1=>if isL x G1=true then (t S G1).bind λxs G2=>f x xs G2 else .bad
theorem ZJn {x:V} (s:Sim a G) (r:Rep a d x) (h:isL d G=true):tyV a.K "list" x a.H:=by
 cases d with
 | ref i=>
  unfold isL at h;dsimp only at h;split at h
  ·rename_i xs hx;cases r.2;exact .inl ⟨rfl,s.isList hx⟩
  ·cases h
 | fl xs=>
  obtain ⟨p,vs,rfl,q,_⟩:=r;exact .inl ⟨rfl,vs,q.sq⟩
 | _=>cases h
theorem Gm (slot:Slot "list" name id) (hty:typeOf (.builtin id)=pure (.type "method_descriptor")) (hm:MtM X id (lRm X.K E f)) (ho:QE X E o to) (ha:QA X E (e::es) t)
  (hbase:attributeBase o name X.env (eval o X.env)=eval o X.env:=by rfl)
  (hfew:((backTo cpos (starEach (e::es) X.env)).all (λx=> !x.1) && (backToKw cpos (keywordEach [] X.env)).all (λx=>x.1.isSome)
   && decide ((e::es).length + ([]:List Keyword).length + (if ([]:List Keyword).isEmpty then 0 else 1) < 30))=true:=by rfl)
  (hline:(apos.endLine == cpos.line)=true:=by rfl) (hs:starEach (e::es) X.env=(false,eval e X.env)::starEach es X.env:=by rfl) (hplain:(backTo cpos (starEach es X.env)).any (·.1)=false:=by rfl):
  QE X E (.Call (.Attribute o name apos) (e::es) [] cpos) (Fe f to t):=(ZKu PySem.F.plainAttrs_list slot hty hm ho ha hbase hfew hline hs hplain).mono λσ H Q h=>by
 obtain ⟨a,S,G,hk,rfl,s,r,h⟩:=h;refine ⟨a,S,G,hk,rfl,s,r,(Gw h).imp ?_⟩;rintro v _ ⟨b,d,G1,rfl,x,s1,q,-,h1⟩;split at h1
 ·rename_i hl;have ty:=ZJn s1 q hl;rw [x.k,hk] at ty;refine ⟨ty,b,S,G1,x.k.trans hk,rfl,s1,r.mono x,(Nf h1).imp ?_⟩;rintro vs _ ⟨c,ds,G2,rfl,y,s2,q2,-,h2⟩;exact ⟨c,G2,d,ds,y.k.trans (x.k.trans hk),rfl,s2,q.mono y,q2,h2⟩
 ·exact h1.elim
end
inductive Ty where | non | bl | int | str | tup | lst
noncomputable def tyD (G:DH):D->Option Ty
 | .non=>some .non
 | .bl _=>some .bl
 | .int _=>some .int
 | .str _=>some .str
 | .tup _=>some .tup
 | .fl _=>some .lst
 | .ref i=>match G[i]? with
  | some (.lst _)=>some .lst
  | _=>none
 | .ty _=>none
noncomputable def Ty.sub (t:Ty):String->Option Bool
 | "int"=>some (match t with | .int=>true | .bl=>true | _=>false)
 | "bool"=>some (match t with | .bl=>true | _=>false)
 | "str"=>some (match t with | .str=>true | _=>false)
 | "tuple"=>some (match t with | .tup=>true | _=>false)
 | "list"=>some (match t with | .lst=>true | _=>false)
 | _=>none
noncomputable def Iu (ds:List D) (G:DH):R D:=match ds with
 | [d,.ty T]=>match tyD G d with
  | some t=>match t.sub T with
   | some k=>.ok (.bl k) G
   | none=>.bad
  | none=>.bad
 | _=>.bad
section
variable {prog:Program} {w:World} {A:Around} {E:Value->Shared->Prop} {s:Shared}
theorem Mi {x:Value} {Tx T:String} {Q:Value->Shared->Prop} (hx:s.TypeIs x Tx) (hty:typeOf (.type T)=pure (.type "type")) (hsub:isSubtype (.type Tx) (.type T)=pure true) (h:Q (.bool true) s):
  wpAny (model prog w) A (call (.builtin "isinstance") [x,.type T]) Q E s:=call_isinstance (isinstance_true hty hsub) ⟨hx,h⟩
end
theorem ty_int:typeOf (.type "int")=pure (.type "type"):=by with_unfolding_all rfl
theorem ty_bool:typeOf (.type "bool")=pure (.type "type"):=by with_unfolding_all rfl
theorem ty_str:typeOf (.type "str")=pure (.type "type"):=by with_unfolding_all rfl
theorem ty_tuple:typeOf (.type "tuple")=pure (.type "type"):=by with_unfolding_all rfl
theorem ty_list:typeOf (.type "list")=pure (.type "type"):=by with_unfolding_all rfl
theorem ZMJ:isSubtype (.type "NoneType") (.type "int")=pure false:=by with_unfolding_all rfl
theorem ZJy:isSubtype (.type "NoneType") (.type "bool")=pure false:=by with_unfolding_all rfl
theorem ZM4:isSubtype (.type "NoneType") (.type "str")=pure false:=by with_unfolding_all rfl
theorem ZKF:isSubtype (.type "NoneType") (.type "tuple")=pure false:=by with_unfolding_all rfl
theorem ZNB:isSubtype (.type "NoneType") (.type "list")=pure false:=by with_unfolding_all rfl
theorem ZPR:isSubtype (.type "bool") (.type "int")=pure true:=by with_unfolding_all rfl
theorem ZOw:isSubtype (.type "bool") (.type "bool")=pure true:=by with_unfolding_all rfl
theorem ZNQ:isSubtype (.type "bool") (.type "str")=pure false:=by with_unfolding_all rfl
theorem ZIp:isSubtype (.type "bool") (.type "tuple")=pure false:=by with_unfolding_all rfl
theorem ZO8:isSubtype (.type "bool") (.type "list")=pure false:=by with_unfolding_all rfl
theorem ZKk:isSubtype (.type "int") (.type "int")=pure true:=by with_unfolding_all rfl
theorem ZO1:isSubtype (.type "int") (.type "bool")=pure false:=by with_unfolding_all rfl
theorem ZPm:isSubtype (.type "int") (.type "str")=pure false:=by with_unfolding_all rfl
theorem ZMy:isSubtype (.type "int") (.type "tuple")=pure false:=by with_unfolding_all rfl
theorem ZKg:isSubtype (.type "int") (.type "list")=pure false:=by with_unfolding_all rfl
theorem ZI9:isSubtype (.type "str") (.type "int")=pure false:=by with_unfolding_all rfl
theorem ZOa:isSubtype (.type "str") (.type "bool")=pure false:=by with_unfolding_all rfl
theorem ZM9:isSubtype (.type "str") (.type "str")=pure true:=by with_unfolding_all rfl
theorem ZPb:isSubtype (.type "str") (.type "tuple")=pure false:=by with_unfolding_all rfl
theorem ZPj:isSubtype (.type "str") (.type "list")=pure false:=by with_unfolding_all rfl
theorem ZJX:isSubtype (.type "tuple") (.type "int")=pure false:=by with_unfolding_all rfl
theorem ZPC:isSubtype (.type "tuple") (.type "bool")=pure false:=by with_unfolding_all rfl
theorem ZN0:isSubtype (.type "tuple") (.type "str")=pure false:=by with_unfolding_all rfl
theorem ZO5:isSubtype (.type "tuple") (.type "tuple")=pure true:=by with_unfolding_all rfl
theorem ZPn:isSubtype (.type "tuple") (.type "list")=pure false:=by with_unfolding_all rfl
theorem ZEf:isSubtype (.type "list") (.type "int")=pure false:=by with_unfolding_all rfl
theorem ZD3:isSubtype (.type "list") (.type "bool")=pure false:=by with_unfolding_all rfl
theorem ZEC:isSubtype (.type "list") (.type "str")=pure false:=by with_unfolding_all rfl
theorem ZFE:isSubtype (.type "list") (.type "tuple")=pure false:=by with_unfolding_all rfl
theorem ZFW:isSubtype (.type "list") (.type "list")=pure true:=by with_unfolding_all rfl
section
variable {X:Cx} {E:XK}
theorem Uh:CallR X (.builtin "isinstance") (lRn X.K E Iu):=by
 intro pins s σ H vs us Q I rs h;obtain ⟨a,G,ds,hk,rfl,sm,r,q⟩:=h;unfold Iu at q;split at q
 ·rename_i d T;obtain ⟨v,v',rfl,h1,h2⟩:=reps2 r
  cases (show v'=V.ty T from h2)
  obtain ⟨u,u',rfl,ru,ru'⟩:∃u u',us= [u,u']/\RelV v u/\RelV (.ty T) u':=by
   cases rs with
   | cons p q=>cases q with
    | cons p' q'=>cases q';exact ⟨_,_,rfl,p,p'⟩
  cases (show u'=Value.type T from ru')
  split at q
  ·rename_i t ht;split at q
   ·rename_i k hk';have fin:∀{n:Nat},EP X pins σ Q (.bool k) {s with toks:=n}:=λ{n}=>⟨.bl k,a.H,I.tok _,rfl,q a _ (Ext.refl a) sm rfl⟩
    have fin0:EP X pins σ Q (.bool k) s:=⟨.bl k,a.H,I,rfl,q a _ (Ext.refl a) sm rfl⟩;unfold Ty.sub at hk';split at hk'
    ·cases d with
     | non=>
      cases ht;cases hk'
      cases (show v=_ from h1)
      cases ru;exact call_isinstance (isinstance_false_none (by decide) ty_int ZMJ) fin
     | bl b=>
      cases ht;cases hk'
      cases (show v=_ from h1)
      cases ru;exact Mi (Tx:="bool") rfl ty_int ZPR fin0
     | int b=>
      cases ht;cases hk'
      cases (show v=_ from h1)
      obtain ⟨tk,rfl⟩:=ru;exact Mi (Tx:="int") (typeIs_int s _ _) ty_int ZKk fin0
     | str b=>
      cases ht;cases hk'
      cases (show v=_ from h1)
      obtain ⟨tk,rfl⟩:=ru;exact call_isinstance (isinstance_false_str (by decide) ty_int ZI9) fin
     | tup b=>
      cases ht;cases hk';obtain ⟨p,ws,rfl,hq,_⟩:=h1;cases ru;rw [hk] at hq;obtain ⟨its,_,pl,_⟩:=I.tuple hq;exact call_isinstance (isinstance_false_tuple (by decide) ty_int ZJX) ⟨(let ⟨o,e,c,_⟩:=pl;⟨o,e,c⟩),fin⟩
     | fl b=>
      cases ht;cases hk';obtain ⟨p,ws,rfl,hq,_⟩:=h1;cases ru;have hq:=hq.sq;rw [hk] at hq;obtain ⟨its,_,pl,_⟩:=I.list hq;exact call_isinstance (isinstance_false_list (by decide) ty_int ZEf) ⟨(let ⟨o,e,c,_⟩:=pl.isList;⟨o,e,c⟩),fin⟩
     | ref b=>
      unfold tyD at ht;dsimp only at ht;split at ht
      ·rename_i xs hx;cases ht;cases hk';obtain ⟨ws,e1,_⟩:=sm.lst hx;cases h1.2;cases ru;obtain ⟨its,_,pl,_⟩:=I.list (.of e1);exact call_isinstance (isinstance_false_list (by decide) ty_int ZEf) ⟨(let ⟨o,e,c,_⟩:=pl.isList;⟨o,e,c⟩),fin⟩
      ·cases ht
     | ty n=>cases ht
    ·cases d with
     | non=>
      cases ht;cases hk'
      cases (show v=_ from h1)
      cases ru;exact call_isinstance (isinstance_false_none (by decide) ty_bool ZJy) fin
     | bl b=>
      cases ht;cases hk'
      cases (show v=_ from h1)
      cases ru;exact Mi (Tx:="bool") rfl ty_bool ZOw fin0
     | int b=>
      cases ht;cases hk'
      cases (show v=_ from h1)
      obtain ⟨tk,rfl⟩:=ru;exact call_isinstance (isinstance_false_int (by decide) ty_bool ZO1) fin
     | str b=>
      cases ht;cases hk'
      cases (show v=_ from h1)
      obtain ⟨tk,rfl⟩:=ru;exact call_isinstance (isinstance_false_str (by decide) ty_bool ZOa) fin
     | tup b=>
      cases ht;cases hk';obtain ⟨p,ws,rfl,hq,_⟩:=h1;cases ru;rw [hk] at hq;obtain ⟨its,_,pl,_⟩:=I.tuple hq;exact call_isinstance (isinstance_false_tuple (by decide) ty_bool ZPC) ⟨(let ⟨o,e,c,_⟩:=pl;⟨o,e,c⟩),fin⟩
     | fl b=>
      cases ht;cases hk';obtain ⟨p,ws,rfl,hq,_⟩:=h1;cases ru;have hq:=hq.sq;rw [hk] at hq;obtain ⟨its,_,pl,_⟩:=I.list hq;exact call_isinstance (isinstance_false_list (by decide) ty_bool ZD3) ⟨(let ⟨o,e,c,_⟩:=pl.isList;⟨o,e,c⟩),fin⟩
     | ref b=>
      unfold tyD at ht;dsimp only at ht;split at ht
      ·rename_i xs hx;cases ht;cases hk';obtain ⟨ws,e1,_⟩:=sm.lst hx;cases h1.2;cases ru;obtain ⟨its,_,pl,_⟩:=I.list (.of e1);exact call_isinstance (isinstance_false_list (by decide) ty_bool ZD3) ⟨(let ⟨o,e,c,_⟩:=pl.isList;⟨o,e,c⟩),fin⟩
      ·cases ht
     | ty n=>cases ht
    ·cases d with
     | non=>
      cases ht;cases hk'
      cases (show v=_ from h1)
      cases ru;exact call_isinstance (isinstance_false_none (by decide) ty_str ZM4) fin
     | bl b=>
      cases ht;cases hk'
      cases (show v=_ from h1)
      cases ru;exact call_isinstance (isinstance_false_bool (by decide) ty_str ZNQ) fin
     | int b=>
      cases ht;cases hk'
      cases (show v=_ from h1)
      obtain ⟨tk,rfl⟩:=ru;exact call_isinstance (isinstance_false_int (by decide) ty_str ZPm) fin
     | str b=>
      cases ht;cases hk'
      cases (show v=_ from h1)
      obtain ⟨tk,rfl⟩:=ru;exact Mi (Tx:="str") (typeIs_str s _ _) ty_str ZM9 fin0
     | tup b=>
      cases ht;cases hk';obtain ⟨p,ws,rfl,hq,_⟩:=h1;cases ru;rw [hk] at hq;obtain ⟨its,_,pl,_⟩:=I.tuple hq;exact call_isinstance (isinstance_false_tuple (by decide) ty_str ZN0) ⟨(let ⟨o,e,c,_⟩:=pl;⟨o,e,c⟩),fin⟩
     | fl b=>
      cases ht;cases hk';obtain ⟨p,ws,rfl,hq,_⟩:=h1;cases ru;have hq:=hq.sq;rw [hk] at hq;obtain ⟨its,_,pl,_⟩:=I.list hq;exact call_isinstance (isinstance_false_list (by decide) ty_str ZEC) ⟨(let ⟨o,e,c,_⟩:=pl.isList;⟨o,e,c⟩),fin⟩
     | ref b=>
      unfold tyD at ht;dsimp only at ht;split at ht
      ·rename_i xs hx;cases ht;cases hk';obtain ⟨ws,e1,_⟩:=sm.lst hx;cases h1.2;cases ru;obtain ⟨its,_,pl,_⟩:=I.list (.of e1);exact call_isinstance (isinstance_false_list (by decide) ty_str ZEC) ⟨(let ⟨o,e,c,_⟩:=pl.isList;⟨o,e,c⟩),fin⟩
      ·cases ht
     | ty n=>cases ht
    ·cases d with
     | non=>
      cases ht;cases hk'
      cases (show v=_ from h1)
      cases ru;exact call_isinstance (isinstance_false_none (by decide) ty_tuple ZKF) fin
     | bl b=>
      cases ht;cases hk'
      cases (show v=_ from h1)
      cases ru;exact call_isinstance (isinstance_false_bool (by decide) ty_tuple ZIp) fin
     | int b=>
      cases ht;cases hk'
      cases (show v=_ from h1)
      obtain ⟨tk,rfl⟩:=ru;exact call_isinstance (isinstance_false_int (by decide) ty_tuple ZMy) fin
     | str b=>
      cases ht;cases hk'
      cases (show v=_ from h1)
      obtain ⟨tk,rfl⟩:=ru;exact call_isinstance (isinstance_false_str (by decide) ty_tuple ZPb) fin
     | tup b=>
      cases ht;cases hk';obtain ⟨p,ws,rfl,hq,_⟩:=h1;cases ru;rw [hk] at hq;obtain ⟨its,_,pl,_⟩:=I.tuple hq;exact Mi (Tx:="tuple") pl.typeIs ty_tuple ZO5 fin0
     | fl b=>
      cases ht;cases hk';obtain ⟨p,ws,rfl,hq,_⟩:=h1;cases ru;have hq:=hq.sq;rw [hk] at hq;obtain ⟨its,_,pl,_⟩:=I.list hq;exact call_isinstance (isinstance_false_list (by decide) ty_tuple ZFE) ⟨(let ⟨o,e,c,_⟩:=pl.isList;⟨o,e,c⟩),fin⟩
     | ref b=>
      unfold tyD at ht;dsimp only at ht;split at ht
      ·rename_i xs hx;cases ht;cases hk';obtain ⟨ws,e1,_⟩:=sm.lst hx;cases h1.2;cases ru;obtain ⟨its,_,pl,_⟩:=I.list (.of e1);exact call_isinstance (isinstance_false_list (by decide) ty_tuple ZFE) ⟨(let ⟨o,e,c,_⟩:=pl.isList;⟨o,e,c⟩),fin⟩
      ·cases ht
     | ty n=>cases ht
    ·cases d with
     | non=>
      cases ht;cases hk'
      cases (show v=_ from h1)
      cases ru;exact call_isinstance (isinstance_false_none (by decide) ty_list ZNB) fin
     | bl b=>
      cases ht;cases hk'
      cases (show v=_ from h1)
      cases ru;exact call_isinstance (isinstance_false_bool (by decide) ty_list ZO8) fin
     | int b=>
      cases ht;cases hk'
      cases (show v=_ from h1)
      obtain ⟨tk,rfl⟩:=ru;exact call_isinstance (isinstance_false_int (by decide) ty_list ZKg) fin
     | str b=>
      cases ht;cases hk'
      cases (show v=_ from h1)
      obtain ⟨tk,rfl⟩:=ru;exact call_isinstance (isinstance_false_str (by decide) ty_list ZPj) fin
     | tup b=>
      cases ht;cases hk';obtain ⟨p,ws,rfl,hq,_⟩:=h1;cases ru;rw [hk] at hq;obtain ⟨its,_,pl,_⟩:=I.tuple hq;exact call_isinstance (isinstance_false_tuple (by decide) ty_list ZPn) ⟨(let ⟨o,e,c,_⟩:=pl;⟨o,e,c⟩),fin⟩
     | fl b=>
      cases ht;cases hk';obtain ⟨p,ws,rfl,hq,_⟩:=h1;cases ru;have hq:=hq.sq;rw [hk] at hq;obtain ⟨its,_,pl,_⟩:=I.list hq;exact Mi (Tx:="list") pl.isList.typeIs ty_list ZFW fin0
     | ref b=>
      unfold tyD at ht;dsimp only at ht;split at ht
      ·rename_i xs hx;cases ht;cases hk';obtain ⟨ws,e1,_⟩:=sm.lst hx;cases h1.2;cases ru;obtain ⟨its,_,pl,_⟩:=I.list (.of e1);exact Mi (Tx:="list") pl.isList.typeIs ty_list ZFW fin0
      ·cases ht
     | ty n=>cases ht
    ·cases hk'
   ·exact q.elim
  ·exact q.elim
 ·exact q.elim
end
def Hc:List D->Option (List Int)
 | []=>some []
 | .int i::r=>(Hc r).map (i::·)
 | _=>none
def Ih:List D->Option (List Bool)
 | []=>some []
 | .bl i::r=>(Ih r).map (i::·)
 | _=>none
@[simp] theorem ZCk (ns:List Int):Hc (ns.map D.int)=some ns:=by
 induction ns with
 | nil=>rfl
 | cons n ns ih=>simp [Hc,ih]
@[simp] theorem ZQZ (ns:List Bool):Ih (ns.map D.bl)=some ns:=by
 induction ns with
 | nil=>rfl
 | cons n ns ih=>simp [Ih,ih]
theorem Wh:∀{xs:List D} {ns:List Int},Hc xs=some ns->xs=ns.map D.int
 | [],ns,h=>by cases h;rfl
 | .int i::r,ns,h=>by simp only [Hc,zL] at h;obtain ⟨ms,h1,rfl⟩:=h;rw [zC,Wh h1]
 | .non::r,ns,h=>by simp [Hc] at h
 | .bl _::r,ns,h=>by simp [Hc] at h
 | .str _::r,ns,h=>by simp [Hc] at h
 | .ty _::r,ns,h=>by simp [Hc] at h
 | .tup _::r,ns,h=>by simp [Hc] at h
 | .fl _::r,ns,h=>by simp [Hc] at h
 | .ref _::r,ns,h=>by simp [Hc] at h
theorem ZFq:∀{xs:List D} {ns:List Bool},Ih xs=some ns->xs=ns.map D.bl
 | [],ns,h=>by cases h;rfl
 | .bl i::r,ns,h=>by simp only [Ih,zL] at h;obtain ⟨ms,h1,rfl⟩:=h;rw [zC,ZFq h1]
 | .non::r,ns,h=>by simp [Ih] at h
 | .int _::r,ns,h=>by simp [Ih] at h
 | .str _::r,ns,h=>by simp [Ih] at h
 | .ty _::r,ns,h=>by simp [Ih] at h
 | .tup _::r,ns,h=>by simp [Ih] at h
 | .fl _::r,ns,h=>by simp [Ih] at h
 | .ref _::r,ns,h=>by simp [Ih] at h
noncomputable def fSum (ds:List D) (G:DH):R D:=match ds with
 | [d]=>match Cj d G with
  | some xs=>match Hc xs with
   | some ns=>.ok (.int ns.sum) G
   | none=>.bad
  | none=>.bad
 | _=>.bad
noncomputable def Rc (ds:List D) (G:DH):R D:=match ds with
 | [d]=>match Cj d G with
  | some xs=>match Ih xs with
   | some ns=>.ok (.bl (ns.all id)) G
   | none=>.bad
  | none=>.bad
 | _=>.bad
section
variable {X:Cx} {E:XK} {pins:List (Addr×Obj)} {σ:St} {s:Shared} {H:Hp}
theorem ZCW (I:Inv X pins σ H s) (hc:X.calm=true) (h:SqL X.K H p vs∨SqT X.K H p vs) {E':Value->Shared->Prop} {Q:Value->Shared->Prop}
  (hQ:∀(it:Addr) (fp wr:List Addr) (its:List Value) (St:Nat->Heap->Prop) (s₂:Shared),Vals vs its->Walks X.prog X.w X.A.in1 it fp wr its.toArray.size (λi v=>its.toArray[i]? =some v) St->St 0 s₂.heap->(∀b∈fp,b < s₂.heap.objs.size)->
   (∀h' tk,(∀b o,b ∉ wr->s₂.heap.get? b=some o->h'.get? b=some o)->Inv X pins σ H {s₂ with heap:=h',toks:=tk})->Q (.ref it) s₂):
  wpAny (model X.prog X.w) X.A.in1 (pyIter (.ref p)) Q E' s:=by
 have hh:X.A.in1.handled=none:=I.ok.hd hc;rcases h with h | h
 ·obtain ⟨its,r,pl,hz⟩:=I.list h;refine wpAny_pyIter_list pl.isList ?_;have hp:p < s.heap.objs.size:=by obtain ⟨o,e,_⟩:=pl.isList;exact zw e
  refine hQ _ _ _ its _ _ r (Walks.list hh _ p (zB hp) its.toArray) ⟨⟨_,zy _ rfl,rfl,rfl⟩,?_⟩ (λb hb=> ?_) λh' tk kk=> ?_
  ·obtain ⟨o,e,c⟩:=pl.isList;exact ⟨o,zQ _ e,c⟩
  ·show b < (s.heap.push _).objs.size;rw [qj];rcases zx.mp hb with rfl | hb
   ·exact qK _
   ·have e:b=p:=by simpa using hb
    subst e;exact qB hp
  ·refine I.kept λb o e=>kk b o (λhb=> ?_) (zQ _ e)
   have e2:b=s.heap.objs.size:=by simpa using hb
   subst e2;exact absurd (zw e) (zS _)
 ·obtain ⟨its,r,pl,hz⟩:=I.tuple h
  refine wpAny_pyIter_tuple (show s.heap.IsTuple p its.toArray from pl) ?_
  have hp:p < s.heap.objs.size:=by obtain ⟨o,e,_⟩:=pl;exact zw e
  refine hQ _ _ _ its _ _ r (Walks.tuple hh _ p (zB hp) its.toArray) ⟨⟨_,zy _ rfl,rfl,rfl⟩,?_⟩ (λb hb=> ?_) λh' tk kk=> ?_
  ·obtain ⟨o,e,c⟩:=pl;exact ⟨o,zQ _ e,c⟩
  ·show b < (s.heap.push _).objs.size;rw [qj];rcases zx.mp hb with rfl | hb
   ·exact qK _
   ·have e:b=p:=by simpa using hb
    subst e;exact qB hp
  ·refine I.kept λb o e=>kk b o (λhb=> ?_) (zQ _ e)
   have e2:b=s.heap.objs.size:=by simpa using hb
   subst e2;exact absurd (zw e) (zS _)
theorem ZCv:∀{ns:List Int} {vs:List V},Reps a (ns.map D.int) vs->vs=ns.map V.int
 | [],vs,h=>h
 | n::ns,vs,h=>by
  obtain ⟨v,r,e,h1,h2⟩:=h
  cases (show v=V.int n from h1)
  rw [e,ZCv h2]
  rfl
theorem ZIL:∀{ns:List Bool} {vs:List V},Reps a (ns.map D.bl) vs->vs=ns.map V.bl
 | [],vs,h=>h
 | n::ns,vs,h=>by
  obtain ⟨v,r,e,h1,h2⟩:=h
  cases (show v=V.bl n from h1)
  rw [e,ZIL h2]
  rfl
theorem all_range (ns:List Bool):(zX ns.length).all (λi=>ns.getD i true)=ns.all id:=by
 rw [Bool.eq_iff_iff,qA,qA];constructor
 ·intro h b hb;obtain ⟨i,hi,rfl⟩:=q8 hb;simpa [hi] using h i (qW.mpr hi)
 ·intro h i hi;have hi':i < ns.length:=qW.mp hi;simpa [hi'] using h ns[i] (qJ hi')
theorem ZPL (hc:X.calm=true):CallR X (.builtin "all") (lRn X.K E Rc):=by
 intro pins s σ H vs us Q I rs h;obtain ⟨a,G,ds,hk,rfl,sm,r,q⟩:=h;unfold Rc at q;split at q
 ·rename_i d;obtain ⟨v,rfl,rv⟩:=reps1 r;split at q
  ·rename_i xs hs;split at q
   ·rename_i ns hn;cases ZFq hn;obtain ⟨p,ws,rfl,h1,r1⟩:=Ny sm rv hs;cases ZIL r1;rw [hk] at h1;obtain ⟨u,rfl,ru⟩:=vals1 rs;cases ru;refine call_all_walk (ZCW I hc h1 λit fp wr its St s₂ hv W st hfp fin=>⟨it,fp,wr,its.toArray.size,_,St,λi=>ns.getD i true,rfl,W,st,λi w s' Q' E' hw hQ'=> ?_,λh' tk kk=> ?_⟩)
    ·have hw':its[i]? =some w:=by simpa using hw
     have hl:i < (ns.map V.bl).length:=by rw [hv.length];exact (zD.mp hw').1
     have hl':i < ns.length:=by simpa using hl
     obtain ⟨u,hu,ru⟩:=hv.get (i:=i) (x:=V.bl ns[i]) (by simp [hl']);rw [hw'] at hu;cases hu;cases ru;refine wpAny_truthy_bool ?_;simpa [hl'] using hQ'
    ·refine ⟨.bl (ns.all id),a.H,fin h' tk kk,?_,q a _ (Ext.refl a) sm rfl⟩;have hl:its.toArray.size=ns.length:=by rw [zY,<-hv.length];simp
     rw [hl,all_range]
     rfl
   ·exact q.elim
  ·exact q.elim
 ·exact q.elim
end
section
variable {X:Cx} {pins:List (Addr×Obj)} {σ:St} {H:Hp} {s:Shared}
theorem ZCa {a:Addr} {o:HO} (I:Inv X pins σ H s) (hn:H a=none) (hy:X.s₀.heap.objs.size<=a) (hL:a≠X.env.locals) (hc:∀x c,X.env.cells.lookup x=some c->c≠a) (hp:∀p∈X.pn++pins,p.1≠a)
  (new:ObjOk X.prog X.w (upd H a o) s.heap a o):Inv X pins σ (upd H a o) s:=by
 have ne:∀b u,H b=some u->b≠a:=λb u e z=>by rw [z,hn] at e;cases e
 refine ⟨I.ok,I.os,I.bare,⟨I.base.keep,I.base.slot,λb ob q n hx=> ?_,I.base.there,λb xs q=> ?_,λb ob u q=> ?_,λb ps q=> ?_⟩,I.loc,I.cell,?_,λx c e=> ?_,λp hp'=> ?_,λb u e=> ?_,I.len⟩
 ·rw [Bf (zB (zq (zw q) hy))];exact I.base.free b ob q n hx
 ·have:=I.base.tups b xs q;rw [Bf (ne _ _ this)];exact this
 ·have:=I.base.frzs b ob u q;rw [Bf (ne _ _ this)];exact this
 ·obtain ⟨more,this⟩:=I.base.tbls b ps q;exact ⟨more,by rw [Bf (ne _ _ this)];exact this⟩
 ·rw [Bf (Ne.symm hL)];exact I.free
 ·rw [Bf (hc x c e)];exact I.Jl x c e
 ·obtain ⟨e1,e2,e3⟩:=I.pin p hp';exact ⟨e1,by rw [Bf (hp p hp')];exact e2,e3⟩
 ·by_cases hb:b=a
  ·subst hb;rw [Gz] at e;cases e;exact new
  ·rw [Bf hb] at e;exact (I.hok b u e).stay (λ_ _ _ q=>q) (λc q=>by rw [Bf (ne _ _ q)];exact q) λc xs q=>by rw [Bf (ne _ _ q)];exact q
end
noncomputable def Gk (env:Env):List (Str×NameKind)->List (Str×Addr)->List (Str×Addr)
 | [],cs=>cs
 | (n,k)::r,cs=>if (k == NameKind.free)=true then Gk env r ((n,(env.cells.lookup n).getD 0)::cs) else Gk env r cs
theorem ZGY (h:∀y∈scope.names,y.2=.free->∃c,env.cells.lookup y.1=some c):closureFor scope env=pure (Gk env scope.names []):=by
 unfold closureFor;obtain ⟨kind,names,g1,g2⟩:=scope;have key:∀(names:List (Str×NameKind)) (cs:List (Str×Addr)),(∀y∈names,y.2=.free->∃c,env.cells.lookup y.1=some c)->
   (forIn names cs (λx r=>match x with
    | (name,kind)=>if (kind == NameKind.free)=true then (do let c<-cellOf env name;pure (ForInStep.yield ((name,c)::r))) else pure (ForInStep.yield r)):Sem (List (Str×Addr)))=pure (Gk env names cs):=by
  intro names
  induction names with
  | nil=>intro cs _;rfl
  | cons y r ih=>
   intro cs hy;obtain ⟨n,k⟩:=y;rw [jN];by_cases hk:(k == NameKind.free)=true
   ·obtain ⟨c,hc⟩:=hy (n,k) zW (by simpa using hk)
    have e1:cellOf env n=pure c:=by unfold cellOf;rw [show env.cells.lookup n=some c from hc]
    have e2:Gk env ((n,k)::r) cs=Gk env r ((n,c)::cs):=by rw [Gk,if_pos hk,show env.cells.lookup n=some c from hc];rfl
    rw [e2,<-ih ((n,c)::cs) λy' hy'=>hy y' (zJ _ hy')];simp only [hk,if_true,e1]
    rfl
   ·have e2:Gk env ((n,k)::r) cs=Gk env r cs:=by rw [Gk,if_neg hk]
    rw [e2,<-ih cs λy' hy'=>hy y' (zJ _ hy')];simp only [hk]
    rfl
 have:=key names [] h;exact congrArg (λm:Sem (List (Str×Addr))=>m >>=λr=>pure r) this
theorem Yl:∀{names:List (Str×NameKind)} {cs:List (Str×Addr)},(∀y∈names,y.2=.free->∃c,env.cells.lookup y.1=some c)->(∀p∈cs,env.cells.lookup p.1=some p.2)->∀p∈Gk env names cs,env.cells.lookup p.1=some p.2
 | [],cs,_,hc,p,hp=>hc p hp
 | (n,k)::r,cs,hn,hc,p,hp=>by
  rw [Gk] at hp;split at hp
  ·rename_i hk;obtain ⟨c,e⟩:=hn (n,k) zW (by simpa using hk);refine Yl (λy hy=>hn y (zJ _ hy)) (λq hq=> ?_) p hp;rcases zx.mp hq with rfl | hq
   ·rw [show env.cells.lookup n=some c from e];rfl
   ·exact hc q hq
  ·exact Yl (λy hy=>hn y (zJ _ hy)) hc p hp
theorem Ui:∀{names:List (Str×NameKind)} {cs:List (Str×Addr)},((x,.free)∈names∨∃c,(x,c)∈cs)->∃c,(x,c)∈Gk env names cs
 | [],cs,h=>by
  rcases h with h | h
  ·cases h
  ·exact h
 | (n,k)::r,cs,h=>by
  rw [Gk];split
  ·refine Ui ?_;rcases h with h | ⟨c,h⟩
   ·rcases zx.mp h with e | h
    ·cases e;exact .inr ⟨_,zW⟩
    ·exact .inl h
   ·exact .inr ⟨c,zJ _ h⟩
  ·rename_i hk;refine Ui ?_;rcases h with h | h
   ·rcases zx.mp h with e | h
    ·cases e;exact absurd rfl hk
    ·exact .inl h
   ·exact .inr h
theorem ZBW {c:Addr}:∀{l:List (Str×Addr)},(x,c)∈l->∃d,l.lookup x=some d
 | [],h=>by cases h
 | (y,d)::l,h=>by
  by_cases e:x=y
  ·subst e;exact ⟨d,by simp⟩
  ·rcases zx.mp h with z | h
   ·cases z;exact absurd rfl e
   ·obtain ⟨d',q⟩:=ZBW h;exact ⟨d',by rw [qM,beq_eq_false_iff_ne.mpr e];exact q⟩
theorem ZDB (x:Str):(relabel scope env).names.lookup x=(scope.names.lookup x).map λk=>if (k == NameKind.free && env.scope.kind == .function && env.kindOf x == some .cell)=true then .cell else k:=by
 unfold relabel;generalize scope.names=l
 induction l with
 | nil=>rfl
 | cons y r ih=>
  obtain ⟨n,k⟩:=y;by_cases e:x=n
  ·subst e;simp only [zC]
   cases hc:(k == NameKind.free && env.scope.kind == ScopeKind.function && env.kindOf x == some NameKind.cell) <;>
    simp only [hc,if_true,qM,beq_self_eq_true,Option.map_some,Bool.false_eq_true,if_false]
  ·have hb:(x == n)=false:=beq_eq_false_iff_ne.mpr e;simp only [zC];split
   ·rw [qM,qM,hb];exact ih
   ·rw [qM,qM,hb];exact ih
noncomputable def blk (X:Cx) (N:List Str) (scope:Scope) (C:Addr) (s₀:Shared) (H₀:Hp) (ex:List Addr):Cx where
 prog:=X.prog
 w:=X.w
 K:=X.K
 mg:=X.mg
 base:=X.base
 A:=X.A
 N:=N
 s₀:=s₀
 H₀:=H₀
 env:=compEnvC scope (Gk X.env scope.names []) C X.env
 outer:=X.stack
 stack:=X.stack
 ex:=ex
 fn:=λ_=>false
 calm:=X.calm
 pn:= []
 xe:=λ_ _=>False
structure CompSc (X:Cx) (N:List Str) (scope:Scope) (nt:Nat) (caps:List Nat):Prop where
 kind:scope.kind=.function
 names:∀y∈scope.names,y.2=.local->scope.names.lookup y.1=some .local
 nocell:∀y∈scope.names,y.2≠ .cell
 free:∀y∈scope.names,y.2=.free->X.env.kindOf y.1=some .cell∨X.env.kindOf y.1=some .free
 nd:N.Nodup
 len:N.length=nt + caps.length
 cap:∀(k j:Nat),caps[k]? =some j->∃x,X.N[j]? =some x/\N[nt + k]? =some x/\scope.names.lookup x=some .free
section
variable {X:Cx} {pins:List (Addr×Obj)} {σ:St} {H:Hp} {s:Shared} {N:List Str} {scope:Scope} {nt:Nat} {caps:List Nat}
theorem CompSc.cells (c:CompSc X N scope nt caps) (ok:X.Ok):∀y∈scope.names,y.2=.free->∃c,X.env.cells.lookup y.1=some c:=λy hy hk=>ok.has y.1 (c.free y hy hk)
theorem CompSc.cl (c:CompSc X N scope nt caps) (ok:X.Ok) {d:Addr} (h:(Gk X.env scope.names []).lookup x=some d):X.env.cells.lookup x=some d:=
 Yl (c.cells ok) (λp hp=>by cases hp) (x,d) (PySem.mem_of_lookup h)
theorem ZOc (c:CompSc X N scope nt caps) (I:Inv X pins σ H s) {fp:List Addr} (hf:∀b∈fp,FpOk X pins H b) {C:Addr} (hC:s.heap.objs.size<=C) (hCf:C ∉ fp):(blk X N scope C s H fp).Ok where
 mod:=I.ok.mod
 kind:=c.kind
 glob:=I.ok.glob
 blt:=I.ok.blt
 above:=hC
 inj:=λx y d h1 h2=>I.ok.inj x y d (c.cl I.ok h1) (c.cl I.ok h2)
 has:=λx h=>by
  have h':(relabel scope X.env).names.lookup x=some .cell∨(relabel scope X.env).names.lookup x=some .free:=h;rw [ZDB] at h';have hfree:scope.names.lookup x=some .free:=by
   cases e:scope.names.lookup x with
   | none=>rw [e] at h';rcases h' with h' | h' <;> cases h'
   | some k=>
    rw [e] at h';cases k with
    | free=>rfl
    | cell=>exact absurd rfl (c.nocell _ (PySem.mem_of_lookup e))
    | _=>rcases h' with h' | h' <;> (simp at h')
  obtain ⟨d,hd⟩:=Ui (env:=X.env) (x:=x) (names:=scope.names) (cs:= []) (.inl (PySem.mem_of_lookup hfree));exact ZBW hd
 cab:=λx d h=>by cases h
 hd:=I.ok.hd
 frames:=I.ok.frames
 stk:=.inl rfl
 exf:=λb hb=>⟨λz=>hCf (by rw [<-show b=C from z];exact hb),λx d h=>(hf b hb).2.2.2.2.1 x d (c.cl I.ok h)⟩
 bs:=I.bs
 bsz:=z5 I.ok.bsz I.sz
 noex:=λb o e hb=>by
  rcases (hf b hb).2.2.2.1 with h | h
  ·exact I.ok.noex b o e h
  ·exact absurd (zq (zw (I.ok.bs b o e).1) h) (zS _)
 exfs:=λb hb hz=>by
  rcases zx.mp (I.Wu b hz) with z | z
  ·exact (hf b hb).2.1 z
  ·exact (hf b hb).2.2.1 z
 funs:=I.stack
 frf:=I.ZGI
end
noncomputable def Dz (g:DG) (c:DB) (te:DE) (S:DSt):List D->DH->R (List D)
 | [],G=>.ok [] G
 | x::xs,G=>(g x S G).bind λS1 G1=>(c S1 G1).bind λk G2=>
   if k=true then (te S1 G2).bind λd G3=>(Dz g c te S xs G3).bind λds G4=>.ok (d::ds) G4 else Dz g c te S xs G2
noncomputable def Hq (i:Nat) (g:DG) (c:DB) (te:DE) (S:DSt):Nat->Nat->DH->R (List D)
 | 0,j,G=>match G[i]? with
  | some (.lst xs)=>if xs.length<=j then .ok [] G else .bad
  | _=>.bad
 | n + 1,j,G=>match G[i]? with
  | some (.lst xs)=>match xs[j]? with
   | some x=>(g x S G).bind λS1 G1=>(c S1 G1).bind λk G2=>
     if k=true then (te S1 G2).bind λd G3=>(Hq i g c te S n (j + 1) G3).bind λds G4=>.ok (d::ds) G4 else Hq i g c te S n (j + 1) G2
   | none=>.ok [] G
  | _=>.bad
noncomputable def Ed (f:Nat->DH->Option (Option D)) (g:DG) (c:DB) (te:DE) (S:DSt):Nat->Nat->DH->R (List D)
 | 0,j,G=>match f j G with
  | some none=>.ok [] G
  | _=>.bad
 | n + 1,j,G=>match f j G with
  | some (some x)=>(g x S G).bind λS1 G1=>(c S1 G1).bind λk G2=>
     if k=true then (te S1 G2).bind λd G3=>(Ed f g c te S n (j + 1) G3).bind λds G4=>.ok (d::ds) G4 else Ed f g c te S n (j + 1) G2
  | some none=>.ok [] G
  | none=>.bad
def Bh (nt:Nat) (caps:List Nat) (S:DSt):DSt:=zV nt none++caps.map λj=>(S[j]?).join
noncomputable def Ek (it:DI) (nt:Nat) (caps:List Nat) (g:DG) (c:DB) (te:DE):DE:=λS G=>(it S G).bind λJ G1=>(match J with
 | .pure xs=>Dz g c te (Bh nt caps S) xs G1
 | .mt i=>match G1[i]? with
  | some (.lst xs)=>Hq i g c te (Bh nt caps S) xs.length 0 G1
  | _=>.bad
 | .fn n f=>Ed f g c te (Bh nt caps S) n 0 G1).bind Aq
def Cd:DB:=λ_ G=>.ok true G
noncomputable def GK (nt:Nat) (g:DG):Prop:=∀d S G S1 G1,g d S G=.ok S1 G1->∀i e,nt<=i->S[i]? =some (some e)->S1[i]? =some (some e)
noncomputable def GKs (nt:Nat) (g:DGs):Prop:=∀d S G S1 G1,g d S G=.ok S1 G1->∀i e,nt<=i->S[i]? =some (some e)->S1[i]? =some (some e)
theorem Ep (h:i < nt):GK nt (gV i):=λd S G S1 G1 e j x hj hx=>by cases e;rw [qG (by lia)];exact hx
theorem U6:GKs nt By:=λd S G S1 G1 e j x hj hx=>by
 cases d with
 | nil=>cases e;exact hx
 | cons _ _=>cases e
theorem Jm {t:DG} {u:DGs} (h1:GK nt t) (h2:GKs nt u):GKs nt (Ao t u):=λd S G S1 G1 e j x hj hx=>by
 cases d with
 | nil=>cases e
 | cons a r=>
  have e':(t a S G).bind (λS1 G1=>u r S1 G1)=.ok S1 G1:=e;cases ht:t a S G with
  | ok S2 G2=>rw [ht] at e';exact h2 _ _ _ _ _ e' j x hj (h1 _ _ _ _ _ ht j x hj hx)
  | err _ _=>rw [ht] at e';cases e'
  | bad=>rw [ht] at e';cases e'
theorem S8 {n:Nat} {t:DGs} (h:GKs nt t):GK nt (Bv n t):=λd S G S1 G1 e j x hj hx=>by
 cases d with
 | tup ds=>
  unfold Bv at e;dsimp only at e;split at e
  ·exact h _ _ _ _ _ e j x hj hx
  ·cases e
 | _=>cases e
theorem ZOD {r:R DSt} {f:DSt->DH->R D} (h:out E a (r.bind f) Q):
  Gx E a r (λσ H=>∃(b:Wd) (S:DSt) (G:DH),b.H=H/\Ext a b/\Sim b G/\RepS b S σ/\r=.ok S G/\out E b (f S G) Q):=by
 cases r with
 | ok d G=>exact λb v x s q=>⟨b,d,G,rfl,x,s,q,rfl,out.mono x h⟩
 | err e G=>exact h
 | bad=>exact h
theorem R.bind_assoc {γ:Type} (r:R α) (f:α->DH->R β) (g:β->DH->R γ):(r.bind f).bind g=r.bind λa G=>(f a G).bind g:=by cases r <;> rfl
theorem ZHo {r:R ItD} {f:ItD->DH->R D} (h:out E a (r.bind f) Q):
  outI E a r (λJ H=>∃(b:Wd) (d:ItD) (G:DH),b.H=H/\Ext a b/\Sim b G/\RepI b d J/\r=.ok d G/\out E b (f d G) Q):=by
 cases r with
 | ok d G=>exact λb v x s q=>⟨b,d,G,rfl,x,s,q,rfl,out.mono x h⟩
 | err e G=>exact h
 | bad=>exact h
section
variable {prog:Program} {w:World} {A:Around} {R':Result->Shared->Prop} {s:Shared}
theorem ZK7 {elt target iter:Expr} {ifs:List Expr} {scope:Scope} {pos:Pos} {it acc:Value} {env:Env} (I:Nat->Shared->Prop)
  (turn:∀n s,I n s->wpAny (model prog w) A (pyNext it) (λr s₁=>match r with
   | none=>R' (.ok .next) s₁
   | some v=>wpAny (model prog w) A (letOwnedTupleGo target it v) (λ_ s₁=>wpAny (model prog w) A (assign target env v) (λ_ s₂=>
     wpAny (model prog w) A (forIn ifs true λc r=>if r=true then do let ok<-isTrue c env (eval c env);pure (ForInStep.yield ok) else pure (ForInStep.yield r)) (λok s₃=>
      if ok=true then wpAny (model prog w) A (eval elt env) (λx s₄=>
       wpAny (model prog w) A (call (.builtin "list.append") [acc,x]) (λ_ s₅=>∃m,m < n/\I m s₅) (λ_ _=>False) s₄) (λ_ _=>False) s₃
      else∃m,m < n/\I m s₃) (λ_ _=>False) s₂) (λ_ _=>False) s₁) (λ_ _=>False) s₁) (λ_ _=>False) s)
  (n:Nat) (h:I n s):
  codeAny (model prog w) A (.compLoop (.ListComp elt [⟨target,iter,ifs,0⟩] scope pos) 0 it acc env) R' s:=by
 refine codeAny_loop rfl I (λn s hI=> ?_) n h
 show wpAny _ A ((compTurn (.ListComp elt [⟨target,iter,ifs,0⟩] scope pos) 0 it acc env).onRaise (λx=>do noteFrame x env;theTreesLotGoes x)) _ _ s
 refine wpAny_noted ?_;rw [compTurn_list];refine wpAny_mono ?_ (λ_ _ q=>q) (λ_ _ (f:False)=>f.elim);refine wpAny_bind (wpAny_standAt (wpAny_bind (wpAny_mono (turn n s hI) (λr s₁ h₁=> ?_) λ_ _ h'=>h')));cases r with
 | none=>exact wpAny_pure h₁
 | some v=>
  refine wpAny_bind (wpAny_mono h₁ (λ_ s₂' h₁=> ?_) λ_ _ h'=>h');refine wpAny_bind (wpAny_mono h₁ (λ_ s₂ h₂=>wpAny_bind (wpAny_mono h₂ (λok s₃ h₃=> ?_) λ_ _ h'=>h')) λ_ _ h'=>h');cases ok with
  | false=>exact wpAny_pure ⟨rfl,h₃⟩
  | true=>
   exact wpAny_bind (wpAny_bind (wpAny_mono h₃ (λx s₄ h₄=>wpAny_bind (wpAny_mono h₄ (λ_ s₅ h₅=>wpAny_pure (wpAny_pure ⟨rfl,h₅⟩)) λ_ _ h'=>h')) λ_ _ h'=>h'))
end
noncomputable def QTs (X:Cx) (E:XK) (ifs:List Expr) (t:DB):Prop:=
 ∀(pins:List (Addr×Obj)) (s:Shared) (σ:St) (H:Hp) (Q:Bool->Hp->Prop),Inv X pins σ H s->lB X.K E t σ H Q->
  wpAny (model X.prog X.w) X.A (forIn ifs true λc r=>if r=true then do let ok<-isTrue c X.env (eval c X.env);pure (ForInStep.yield ok) else pure (ForInStep.yield r)) (TP X pins σ Q) X.xe s
theorem Gb:QTs X E [] Cd:=λpins s σ H Q I h=>by obtain ⟨a,S,G,hk,rfl,sm,r,h⟩:=h;exact wpAny_tests_nil ⟨a.H,I,h a (Ext.refl a) sm⟩
theorem ZPM {c:Expr} {t:DB} (hc:QT X E c t):QTs X E [c] t:=λpins s σ H Q I h=>wpAny_tests_one (hc pins s σ H Q I h)
section
variable {X:Cx} {E:XK} {N:List Str} {scope:Scope} {nt:Nat} {caps:List Nat} {tg elt iter:Expr} {ifs:List Expr} {pos:Pos} {it:DI} {g:DG} {c:DB} {te:DE}
theorem ZMp (r:RepS a S σ):RepS a (Bh nt caps S) (zV nt none++caps.map λj=>(σ[j]?).join):=by
 refine ⟨by simp [Bh],λi d h=> ?_⟩;unfold Bh at h;by_cases hi:i < nt
 ·rw [zP (by simpa using hi),qI] at h
  split at h <;> cases h
 ·rw [zG (by simpa using hi),zj] at h;rw [zG (by simpa using hi),zj];rw [jB] at h ⊢;cases e:caps[i - nt]? with
  | none=>rw [e] at h;cases h
  | some j=>
   rw [e] at h;have h1:(S[j]?).join=some d:=by simpa using h
   have h2:S[j]? =some (some d):=by
    cases q:S[j]? with
    | none=>rw [q] at h1;cases h1
    | some o=>
     rw [q] at h1;have h1':o=some d:=h1;rw [h1']
   obtain ⟨v,ev,rv⟩:=r.get j d h2;exact ⟨v,by simp [ev],rv⟩
theorem ZOY (h:(Bh nt caps S)[i]? =some (some d)):nt<=i:=by
 unfold Bh at h;by_cases hi:i < nt
 ·rw [zP (by simpa using hi),qI] at h
  split at h <;> cases h
 ·lia
theorem ZCS (hc:X.calm=true) (cs:CompSc X N scope nt caps)
  (hg:∀C s₀ H₀ ex,QG (blk X N scope C s₀ H₀ ex) E0 tg g) (gk:GK nt g) (hts:∀C s₀ H₀ ex,QTs (blk X N scope C s₀ H₀ ex) E0 ifs c) (he:∀C s₀ H₀ ex,QE (blk X N scope C s₀ H₀ ex) E0 elt te)
  {pins:List (Addr×Obj)} {σ:St} {s:Shared} {a:Wd} {S:DSt} {G:DH} {J:It} {n0:Nat} {f:Nat->DH->Option (Option D)} {i0:Addr} {fp:List Addr} {tn:Nat->Heap->Prop} (I:Inv X pins σ a.H s) (hk:a.K=X.K) (sm:Sim a G) (rS:RepS a S σ)
  (T:Turn X.prog X.w X.K tg J fp i0 tn) (t0:tn 0 s.heap) (hf:∀b∈fp,FpOk X pins a.H b) (rJ:RepI a (.fn n0 f) J) {Q:VK}
  (h:out E0 a ((Ed f g c te (Bh nt caps S) n0 0 G).bind Aq) Q)
  {RR:Value->Addr->Result->Shared->Prop} {E':Value->Shared->Prop}
  (hRR:∀(D C:Addr) (s':Shared) (b:Wd) (vs:List V),Inv X pins σ (upd b.H D (.lst vs)) s'->b.H D=none->s.heap.objs.size<=C->D≠C->(∃m,s'.heap.Ns C m)->b.H C=none->Q (.ref D) (upd b.H D (.lst vs))->RR (.ref D) C (.ok .next) s'):
  wpAny (model X.prog X.w) X.A (newList []) (λacc s₃=>wpAny (model X.prog X.w) X.A (newFunctionEnv scope X.env.globals (Gk X.env scope.names []) [] X.env.qual none .none (some X.env)) (λcenv s₄=>
   codeAny (model X.prog X.w) X.A (.compStart (.ListComp elt [⟨tg,iter,ifs,0⟩] scope pos) 0 (.ref i0) acc {cenv with scope:=relabel scope X.env}) (RR acc cenv.locals) s₄) E' s₃) E' s:=by
 refine wpAny_newObj_type (wpAny_newFunctionEnv cs.nocell (by intro y hy;simp at hy) (λh₁ hns₁ hsb₁=> ?_) cs.kind);dsimp only at hns₁ hsb₁ ⊢;generalize hH2:s.heap.push {cls:=.type "list",dict:=none,data:=.seq ([]:List Value).toArray}=H2 at hns₁ hsb₁ ⊢;have hC:H2.objs.size=s.heap.objs.size + 1:=by rw [<-hH2,qj]
 have hDC:s.heap.objs.size≠H2.objs.size:=by rw [hC];exact zB (qK _)
 have hCle:s.heap.objs.size<=H2.objs.size:=by rw [hC];exact jv _
 have fpOld:∀b∈fp,b < s.heap.objs.size:=λb hb=>by obtain ⟨o,e,_⟩:=T.obj 0 _ t0 b hb;exact zw e
 have hDf:s.heap.objs.size ∉ fp:=λhm=>zS _ (fpOld _ hm)
 have hCf:H2.objs.size ∉ fp:=λhm=>by have:=fpOld _ hm;rw [hC] at this;exact zS _ (Nat.lt_of_succ_lt this)
 have old:∀b o,s.heap.get? b=some o->h₁.get? b=some o:=λb o e=>
  hsb₁.extBut b o (by rw [hC];exact zB (qB (zw e))) (zQ _ (hH2 ▸ zQ _ e))
 have hacc:h₁.PlainList s.heap.objs.size ([]:List Value).toArray:=⟨_,hsb₁.extBut _ _ hDC (zQ _ (hH2 ▸ zy _ rfl))⟩;generalize hCe:H2.objs.size=C at *;generalize hDe:s.heap.objs.size=Dd at *;let B:=blk X N scope C s a.H fp;have okB:B.Ok:=ZOc cs I hf (by rw [hDe];exact hCle) hCf;let σ0:St:=zV nt none++caps.map λj=>(σ[j]?).join
 have start:∀tk,Inv B [] σ0 a.H {s with heap:=h₁,toks:=tk}:=λtk=>by
  refine ⟨okB,rfl,I.bare,Un.kept old,⟨_,hns₁,λi x v e1 e2 e3=> ?_⟩,λx d' e=> ?_,I.hok.fresh (by rw [hDe];exact hCle),λx d' e=> ?_,λp hp=> ?_,I.hok.kept old,?_⟩
  ·have hi:nt<=i:=by
    by_cases hi:i < nt
    ·have e2':σ0[i]? =some (some v):=e2;rw [zP (by simpa using hi),qI] at e2'
     split at e2' <;> cases e2'
    ·lia
   have e2':σ0[i]? =some (some v):=e2;rw [zG (by simpa using hi),zj,jB] at e2';cases ej:caps[i - nt]? with
   | none=>rw [ej] at e2';cases e2'
   | some j=>
    rw [ej] at e2';have h1:(σ[j]?).join=some v:=by simpa using e2'
    have h2:σ[j]? =some (some v):=by
     cases q:σ[j]? with
     | none=>rw [q] at h1;cases h1
     | some o=>
      rw [q] at h1;have h1':o=some v:=h1;rw [h1']
    obtain ⟨y,ey,en,ek⟩:=cs.cap (i - nt) j ej;have exy:x=y:=by
     have:nt + (i - nt)=i:=by lia
     rw [this] at en;have e1':N[i]? =some x:=e1;rw [e1'] at en;exact Option.some.inj en
    subst exy;have kx:=cs.free (x,.free) (PySem.mem_of_lookup ek) rfl;have vis:Vis X.env.scope x:=by
     rcases kx with kx | kx
     ·exact .inr (.inl kx)
     ·exact .inr (.inr kx)
    obtain ⟨m,hn,hl⟩:=I.loc;obtain ⟨u,ru,lk⟩:=hl j x v ey h2 vis;refine ⟨u,ru,?_⟩;rcases lk with ⟨k1,_⟩ | ⟨k1,c1,ec,hcell⟩
    ·rcases kx with kx | kx
     ·rw [k1] at kx;cases kx
     ·rw [k1] at kx;cases kx
    ·refine .inr ⟨?_,c1,?_,?_⟩
     ·show (relabel scope X.env).names.lookup x=some .cell∨(relabel scope X.env).names.lookup x=some .free;rw [ZDB,ek];simp only [Option.map_some];split
      ·exact .inl rfl
      ·exact .inr rfl
     ·obtain ⟨d1,hd1⟩:=Ui (env:=X.env) (x:=x) (names:=scope.names) (cs:= []) (.inl (PySem.mem_of_lookup ek));obtain ⟨d2,hd2⟩:=ZBW hd1;have:=cs.cl I.ok hd2;rw [ec] at this;cases this;exact hd2
     ·obtain ⟨o,e,dd⟩:=hcell;exact ⟨o,old _ _ e,dd⟩
  ·obtain ⟨v,o,e',dd⟩:=I.cell x d' (cs.cl I.ok e);exact ⟨v,o,old _ _ e',dd⟩
  ·exact I.Jl x d' (cs.cl I.ok e)
  ·exact absurd hp (by simp [B,blk])
  ·show σ0.length=N.length;rw [cs.len];simp [σ0]
 have rS0:RepS a (Bh nt caps S) σ0:=ZMp rS;have aD:a.H Dd=none:=I.hok.fresh (by rw [hDe];exact zK _);have young:∀b∈fp,b≠C:=λb hb z=>hCf (z ▸ hb)
 have fpB:∀{H':Hp} {ps:List (Addr×Obj)},(∀b∈fp,H' b=none)->(∀p∈ps,p.1 ∉ fp)->∀b∈fp,FpOk B ps H' b:=λ{H' ps} hn hps b hb=>
  ⟨hn b hb,young b hb,okB.exfs b hb,.inl hb,λx d' e=>(hf b hb).2.2.2.2.1 x d' (cs.cl I.ok e),λp hp z=>by
   have hp':p∈ps:=by simpa [B,blk] using hp
   exact hps p hp' (z ▸ hb)⟩
 have nstk:Dd ∉ frs X.stack:=λz=>by
  rcases zx.mp (I.Wu Dd z) with z | z
  ·have:=I.lt;rw [hDe,<-z] at this;exact zS _ this
  ·exact I.nofs (by rw [hDe];exact zK _) z
 have pinD:∀{σ':St} {H':Hp} {s':Shared} {its:List Value} {nD:Nat},Inv B [] σ' H' s'->s'.heap.get? Dd=some {cls:=.type "list",data:=.seq its.toArray nD}->H' Dd=none->Inv B [(Dd,{cls:=.type "list",data:=.seq its.toArray nD})] σ' H' s':=λ{σ' H' s' its nD} J e n=>
  J.Lx λp hp=>by
   have ep:p=(Dd,{cls:=.type "list",data:=.seq its.toArray nD}):=by simpa using hp
   subst ep;exact ⟨e,n,hDC,nstk,λv' z=>by cases z⟩
 have fin:∀(s':Shared) (b:Wd) (σ':St) (its:List Value) (ds:List D) (G':DH),Inv B [] σ' b.H s'->Ext a b->Sim b G'->s'.heap.PlainList Dd its.toArray->b.H Dd=none->(∃vs,Vals vs its/\Reps b ds vs)->out E0 b (Aq ds G') Q->RR (.ref Dd) C (.ok .next) s':=by
  intro s' b σ' its ds G' IB x sb pl hD ⟨vs,hv,rv⟩ hq;have hz:ds.length<=1000000:=by
   unfold Aq at hq;split at hq
   ·assumption
   ·exact hq.elim
  have Ix:Inv X pins σ b.H s':=I.call' IB.os IB.base IB.hok IB.bare λb hb=>⟨(hf b hb).2.2.2.1,(hf b hb).2.1,(hf b hb).2.2.2.2.1,(hf b hb).2.2.2.2.2⟩
  obtain ⟨n,eD⟩:=pl;have ylt:∀{q:Addr} {o:Obj},s.heap.get? q=some o->q≠Dd:=λe z=>by rw [z,<-hDe] at e;exact absurd (zw e) (zS _)
  have Ia:Inv X pins σ (upd b.H Dd (.lst vs)) s':=by
   refine ZCa Ix hD (by rw [<-hDe];exact I.sz) ?_ (λy c' ec=> ?_) (λp hp=> ?_) ⟨?_,its,n,hv,eD⟩
   ·rw [<-hDe];exact qN I.lt
   ·obtain ⟨v,o,e,_⟩:=I.cell y c' ec;exact ylt e
   ·exact ylt (I.pin p hp).1
   ·rw [<-rv.length];exact z5 hz size6
  refine hRR Dd C s' b vs Ia hD hCle hDC (let ⟨m,hn,_⟩:=IB.loc;⟨m,hn⟩) IB.free ?_;unfold Aq at hq;rw [if_pos hz] at hq;exact M5 sb rv hq Dd hD
 have turnX:∀(n:Nat) (P:Nat->Shared->Prop) (rest:DH->R (List D)) (s1:Shared) (b:Wd) (G1:DH) (σ1:St) (its:List Value) (acc:List D) (u:Value) (v:V) (x:D) (i:Nat),Inv B [] σ1 b.H s1->Ext a b->Sim b G1->RepS b (Bh nt caps S) σ1->tn i s1.heap->(∀q∈fp,b.H q=none)->
   s1.heap.PlainList Dd its.toArray->b.H Dd=none->(∃vs,Vals vs its/\Reps b acc vs)->RelV v u->Rep b x v->
   out E0 b (((g x (Bh nt caps S) G1).bind λS1 G1=>(c S1 G1).bind λk G2=>if k=true then (te S1 G2).bind λd G3=>(rest G3).bind λds G4=>.ok (d::ds) G4 else rest G2).bind λds G=>Aq (acc++ds) G) Q->
   (∀(s2:Shared) (b2:Wd) (G2:DH) (σ2:St) (its2:List Value) (acc2:List D),Inv B [] σ2 b2.H s2->Ext a b2->Sim b2 G2->RepS b2 (Bh nt caps S) σ2->tn i s2.heap->(∀q∈fp,b2.H q=none)->
    s2.heap.PlainList Dd its2.toArray->b2.H Dd=none->(∃vs,Vals vs its2/\Reps b2 acc2 vs)->out E0 b2 ((rest G2).bind λds G=>Aq (acc2++ds) G) Q->∃m,m < n/\P m s2)->
   wpAny (model X.prog X.w) X.A (assign tg B.env u) (λ_ s₂=>
     wpAny (model X.prog X.w) X.A (forIn ifs true λc r=>if r=true then do let ok<-isTrue c B.env (eval c B.env);pure (ForInStep.yield ok) else pure (ForInStep.yield r)) (λok s₃=>
      if ok=true then wpAny (model X.prog X.w) X.A (eval elt B.env) (λx s₄=>
       wpAny (model X.prog X.w) X.A (call (.builtin "list.append") [.ref Dd,x]) (λ_ s₅=>∃m,m < n/\P m s₅) (λ_ _=>False) s₄) (λ_ _=>False) s₃
      else∃m,m < n/\P m s₃) (λ_ _=>False) s₂) (λ_ _=>False) s1:=by
  intro n P rest s1 b G1 σ1 its acc u v x i I1 x1 sb rSb t1 hfp pl hD hacc' ru rx hq next
  rw [R.bind_assoc] at hq;obtain ⟨nD,eD⟩:=id pl;let pinD:List (Addr×Obj):= [(Dd,{cls:=.type "list",data:=.seq its.toArray nD})];have pinOk:∀{σ':St} {H':Hp} {s':Shared},Inv B (pinD++Q7 fp s1.heap) σ' H' s'->s'.heap.PlainList Dd its.toArray/\H' Dd=none/\tn i s'.heap/\∀q∈fp,H' q=none:=λ{σ' H' s'} J=>by
   have p1:=J.pin (Dd,{cls:=.type "list",data:=.seq its.toArray nD}) (zN _ (jH _ (by simp [pinD])));refine ⟨⟨nD,p1.1⟩,p1.2.1,T.keep _ _ _ t1 λq hq' o e=>(J.pin (q,o) (zN _ (zN _ (Vs hq' e)))).1,λq hq'=> ?_⟩;obtain ⟨o,e,_⟩:=T.obj _ _ t1 q hq';exact (J.pin (q,o) (zN _ (zN _ (Vs hq' e)))).2.1
  have I2:Inv B (pinD++Q7 fp s1.heap) σ1 b.H s1:=I1.Lx λp hp=>by
   rcases j2.mp hp with hp | hp
   ·have e:p=(Dd,{cls:=.type "list",data:=.seq its.toArray nD}):=by simpa [pinD] using hp
    subst e;refine ⟨eD,hD,hDC,λz=> ?_,λv' z=>by cases z⟩;exact nstk z
   ·obtain ⟨hb,e⟩:=ZHQ hp;obtain ⟨f0,f1,f2,_⟩:=fpB (ps:= []) hfp (λp hp=>by cases hp) p.1 hb;obtain ⟨o,e',dd⟩:=T.obj _ _ t1 p.1 hb;rw [e] at e';cases e';exact ⟨e,f0,f1,f2,dd⟩
  refine thn (hg C s a.H fp _ s1 σ1 b.H v u _ I2 ru ⟨b,Bh nt caps S,G1,x,x1.k.trans hk,rfl,sb,rSb,rx,(ZOD hq).imp λ_ _ z=>z⟩) ?_;rintro _ s2 ⟨σ2,H2',J2,b2,S2,G2,rfl,y2,sb2,rS2,eg,hq2⟩;rw [R.bind_assoc] at hq2;have rS2':RepS b2 (Bh nt caps S) σ2:=⟨by have h1:=J2.len;have h2:σ1.length=N.length:=I1.len;rw [rSb.len,h2];exact h1.symm,λj e' hj=>rS2.get j e' (gk _ _ _ _ _ eg j e' (ZOY hj) hj)⟩
  refine thn (hts C s a.H fp _ s2 σ2 b2.H _ J2 ⟨b2,S2,G2,y2.k.trans (x1.k.trans hk),rfl,sb2,rS2,(ZHT hq2).imp λ_ _ z=>z⟩) ?_;rintro k s3 ⟨H3,J3,b3,G3,rfl,y3,sb3,_,hq3⟩;cases k with
  | false=>
   obtain ⟨p1,p2,p3,p4⟩:=pinOk J3;have Jn:Inv B [] σ2 b3.H s3:=J3.Lx λp hp=>by cases hp
   obtain ⟨vs,hv,rv⟩:=hacc'
   exact next s3 b3 G3 σ2 its acc Jn (x1.trans (y2.trans y3)) sb3 (rS2'.mono y3) p3 p4 p1 p2 ⟨vs,hv,(rv.mono y2).mono y3⟩ hq3
  | true=>
   have hq3':out E0 b3 (((te S2 G3).bind λd G3=>(rest G3).bind λds G4=>.ok (d::ds) G4).bind λds G=>Aq (acc++ds) G) Q:=hq3;rw [R.bind_assoc] at hq3';refine thn (he C s a.H fp _ s3 σ2 b3.H _ J3 ⟨b3,S2,G3,y3.k.trans (y2.k.trans (x1.k.trans hk)),rfl,sb3,rS2.mono y3,(Gw hq3').imp λ_ _ z=>z⟩) ?_;rintro w s4 ⟨vw,H4,J4,rw',b4,d4,G4,rfl,y4,sb4,q4,_,hq4⟩;obtain ⟨p1,p2,p3,p4⟩:=pinOk J4;rw [R.bind_assoc] at hq4
   have hq4':out E0 b4 ((rest G4).bind λds G=>Aq ((acc++ [d4])++ds) G) Q:=by
    have e:(λ(ds:List D) (G:DH)=>(R.ok (d4::ds) G).bind λds G=>Aq (acc++ds) G)=λds G=>Aq ((acc++ [d4])++ds) G:=by funext ds G;simp
    rw [<-e];exact hq4
   obtain ⟨vs,hv,rv⟩:=hacc';have hsz:its.toArray.size<=sizeLine:=by
    have:acc.length<=1000000:=by
     cases hr:rest G4 with
     | ok ds G5=>
      rw [hr] at hq4';have hq5:out E0 b4 (Aq ((acc++ [d4])++ds) G5) Q:=hq4';unfold Aq at hq5;split at hq5
      ·rename_i hl;simp at hl;lia
      ·exact hq5.elim
     | err e' G5=>rw [hr] at hq4';exact hq4'.elim
     | bad=>rw [hr] at hq4';exact hq4'.elim
    rw [zY,<-hv.length,<-rv.length];exact z5 this size6
   refine wpAny_list_append_plain p1 (λh' hpl hsb=> ?_) hsz;have Jn:Inv B [] σ2 b4.H s4:=J4.Lx λp hp=>by cases hp
   have J5:Inv B [] σ2 b4.H {s4 with heap:=h'}:=by refine Jn.turned (it:=Dd) (t':=s4.toks) (λq o hq' e=>(hsb.2 q hq').trans e) p2 hDC (.inr (by show s.heap.objs.size<=Dd;rw [hDe];exact zK _)) (λy c' ec=> ?_) (λp hp=>absurd hp (by simp [B,blk]));obtain ⟨v',o,e,_⟩:=I.cell y c' (cs.cl I.ok ec);intro z;rw [z,<-hDe] at e;exact absurd (zw e) (zS _)
   refine next _ b4 G4 σ2 (its++ [w]) (acc++ [d4]) J5 (x1.trans (y2.trans (y3.trans y4))) sb4 ((rS2'.mono y3).mono y4) (T.keep _ _ _ p3 λq hq' o e=>(hsb.2 q (λz=>hDf (z ▸ hq'))).trans e) p4 (by simpa using hpl) p2 ⟨vs++ [vw],hv.append (.cons rw' .nil),(((rv.mono y2).mono y3).mono y4).append (Reps.cons q4 Reps.nil)⟩ hq4'
 have loop:∀s₃:Shared,s₃={s with heap:=h₁,toks:=s.toks + ([]:List (Str×Value)).length}->
   codeAny (model X.prog X.w) X.A (.compLoop (.ListComp elt [⟨tg,iter,ifs,0⟩] scope pos) 0 (.ref i0) (.ref Dd) B.env) (RR (.ref Dd) C) s₃:=by
  rintro s₃ rfl;have t1:tn 0 h₁:=T.keep _ _ _ t0 λq _ o e=>old q o e
  have fp0:∀q∈fp,a.H q=none:=λq hq=>(hf q hq).1
  have walk:∀b:Wd,Ext a b->∀G,Sim b G->∀i,(∀d,f i G=some (some d)->J.go i b.H/\∀x H',J.yld i b.H x H'->∃c:Wd,c.H=H'/\Ext b c/\Sim c G/\Rep c d x)/\(f i G=some none->J.stop i b.H):=rJ;refine ZK7 (λm s'=>∃(i:Nat) (b:Wd) (G':DH) (σ':St) (its:List Value) (acc:List D),Inv B [] σ' b.H s'/\Ext a b/\Sim b G'/\RepS b (Bh nt caps S) σ'/\tn i s'.heap/\(∀q∈fp,b.H q=none)/\s'.heap.PlainList Dd its.toArray/\b.H Dd=none/\(∃vs,Vals vs its/\Reps b acc vs)/\
   out E0 b ((Ed f g c te (Bh nt caps S) m i G').bind λds G=>Aq (acc++ds) G) Q) ?_ n0 ⟨0,a,G,σ0,[],[],start _,Ext.refl a,sm,rS0,t1,fp0,hacc,aD,⟨[],.nil,rfl⟩,by simpa using h⟩
  rintro m s' ⟨i,b,G',σ',its,acc,IB,x,sb,rSb,ti,hfp,pl,hD,hac,hq⟩;obtain ⟨nD,eD⟩:=pl;have I0:=pinD IB eD hD;have f0:=fpB (ps:= [(Dd,{cls:=.type "list",data:=.seq its.toArray nD})]) hfp (λp hp=>by
   have ep:p=(Dd,{cls:=.type "list",data:=.seq its.toArray nD}):=by simpa using hp
   subst ep;exact hDf)
  have stop:J.stop i b.H->out E0 b (Aq acc G') Q->wpAny (model X.prog X.w) X.A (pyNext (.ref i0)) (λr s₁=>match r with
    | none=>RR (.ref Dd) C (.ok .next) s₁
    | some v=>wpAny (model X.prog X.w) X.A (letOwnedTupleGo tg (.ref i0) v) (λ_ s₁=>wpAny (model X.prog X.w) X.A (assign tg B.env v) (λ_ s₂=>
     wpAny (model X.prog X.w) X.A (forIn ifs true λc r=>if r=true then do let ok<-isTrue c B.env (eval c B.env);pure (ForInStep.yield ok) else pure (ForInStep.yield r)) (λok s₃=>
      if ok=true then wpAny (model X.prog X.w) X.A (eval elt B.env) (λx s₄=>
       wpAny (model X.prog X.w) X.A (call (.builtin "list.append") [.ref Dd,x]) (λ_ s₅=>∃m',m' < m/\∃(i:Nat) (b:Wd) (G':DH) (σ':St) (its:List Value) (acc:List D),Inv B [] σ' b.H s₅/\Ext a b/\Sim b G'/\RepS b (Bh nt caps S) σ'/\tn i s₅.heap/\(∀q∈fp,b.H q=none)/\s₅.heap.PlainList Dd its.toArray/\b.H Dd=none/\(∃vs,Vals vs its/\Reps b acc vs)/\
        out E0 b ((Ed f g c te (Bh nt caps S) m' i G').bind λds G=>Aq (acc++ds) G) Q) (λ_ _=>False) s₄) (λ_ _=>False) s₃
      else∃m',m' < m/\∃(i:Nat) (b:Wd) (G':DH) (σ':St) (its:List Value) (acc:List D),Inv B [] σ' b.H s₃/\Ext a b/\Sim b G'/\RepS b (Bh nt caps S) σ'/\tn i s₃.heap/\(∀q∈fp,b.H q=none)/\s₃.heap.PlainList Dd its.toArray/\b.H Dd=none/\(∃vs,Vals vs its/\Reps b acc vs)/\
        out E0 b ((Ed f g c te (Bh nt caps S) m' i G').bind λds G=>Aq (acc++ds) G) Q) (λ_ _=>False) s₂) (λ_ _=>False) s₁) (λ_ _=>False) s₁) (λ_ _=>False) s':=by
   intro st hq';refine thn (T.done B rfl rfl rfl hc i _ s' σ' b.H _ I0 f0 ti st) ?_;rintro r s1 ⟨rfl,I2⟩;have pD:=(I2.pin (Dd,{cls:=.type "list",data:=.seq its.toArray nD}) (zN _ (by simp))).1;exact fin s1 b σ' its acc G' (I2.Lx λp hp=>by cases hp) x sb ⟨nD,pD⟩ hD hac hq'
  cases m with
  | zero=>
   unfold Ed at hq;split at hq
   ·rename_i hf;exact stop ((walk b x G' sb i).2 hf) (by have hq':out E0 b (Aq (acc++ []) G') Q:=hq;rw [qR] at hq';exact hq')
   ·exact hq.elim
  | succ m=>
   unfold Ed at hq;split at hq
   ·rename_i d1 hf;obtain ⟨go,yl⟩:=(walk b x G' sb i).1 d1 hf;refine thn (T.item B rfl rfl rfl hc i _ s' σ' b.H _ I0 f0 ti go) ?_;rintro r s1 ⟨u,rfl,hgo⟩;refine thn hgo ?_;rintro _ s2 ⟨v,H',I2,ru,y,t2,hfp2⟩;obtain ⟨cc,rfl,xx,ss,rd⟩:=yl v H' y;have pD:=I2.pin (Dd,{cls:=.type "list",data:=.seq its.toArray nD}) (zN _ (by simp));obtain ⟨vs1,hv1,rv1⟩:=hac;refine turnX _ _ (λG3=>Ed f g c te (Bh nt caps S) m (i + 1) G3) s2 cc G' σ' its acc u _ d1 (i + 1) (I2.Lx λp hp=>by cases hp) (x.trans xx) ss (rSb.mono xx) t2 hfp2 ⟨nD,pD.1⟩ pD.2.1 ⟨vs1,hv1,rv1.mono xx⟩ ru rd (out.mono xx hq) ?_
    intro s3 b3 G3 σ3 its3 acc3 a1 a2 a3 a4 a5 a6 a7 a8 a9 a10;exact ⟨m,qK _,i + 1,b3,G3,σ3,its3,acc3,a1,a2,a3,a4,a5,a6,a7,a8,a9,a10⟩
   ·rename_i hf;exact stop ((walk b x G' sb i).2 hf) (by have hq':out E0 b (Aq (acc++ []) G') Q:=hq;rw [qR] at hq';exact hq')
   ·exact hq.elim
 exact codeAny_compStart_list (loop _ rfl) (T.self _ 0 _ _ _ (T.keep _ _ _ t0 λq _ o e=>old q o e) (loop _ rfl))
theorem ZCO:∀(n j:Nat) (G:DH),j + n=xs.length->Dz g c te S (xs.drop j) G=Ed (λj _=>some xs[j]?) g c te S n j G
 | 0,j,G,h=>by
  rw [zO (by lia)]
  show _=(match some xs[j]? with | some none=>R.ok [] G | _=>.bad)
  rw [zk (by lia)]
  rfl
 | n + 1,j,G,h=>by
  have hj:j < xs.length:=by lia
  rw [zM hj]
  show (g xs[j] S G).bind _=(match some xs[j]? with | some (some x)=>_ | some none=>R.ok [] G | none=>.bad)
  rw [zZ hj];dsimp only
  congr 1
  funext S1 G1
  congr 1
  funext k G2;rw [ZCO n (j + 1) G2 (by lia)]
  congr 1
  congr 1
  funext d G3;rw [ZCO n (j + 1) G3 (by lia)]
theorem ZDM:∀(n j:Nat) (G:DH),Hq i g c te S n j G=Ed (mtF i) g c te S n j G
 | 0,j,G=>by
  unfold Hq Ed mtF;cases G[i]? with
  | none=>rfl
  | some o=>
   cases o with
   | lst xs=>
    dsimp only;by_cases hj:j < xs.length
    ·rw [if_neg (by lia),zZ hj]
    ·rw [if_pos (by lia),zk (by lia)]
   | _=>rfl
 | n + 1,j,G=>by
  have ih:(Hq i g c te S n (j + 1))=Ed (mtF i) g c te S n (j + 1):=funext λG=>ZDM n (j + 1) G
  unfold Hq Ed;rw [ih];unfold mtF;cases G[i]? with
  | none=>rfl
  | some o=>
   cases o with
   | lst xs=>
    dsimp only
    cases xs[j]? <;> rfl
   | _=>rfl
theorem ZGS (hc:X.calm=true) (cs:CompSc X N scope nt caps)
  (hg:∀C s₀ H₀ ex,QG (blk X N scope C s₀ H₀ ex) E0 tg g) (gk:GK nt g) (hts:∀C s₀ H₀ ex,QTs (blk X N scope C s₀ H₀ ex) E0 ifs c) (he:∀C s₀ H₀ ex,QE (blk X N scope C s₀ H₀ ex) E0 elt te)
  {pins:List (Addr×Obj)} {σ:St} {s:Shared} {a:Wd} {S:DSt} {G:DH} {J:It} {d:ItD} {i0:Addr} {fp:List Addr} {tn:Nat->Heap->Prop} (I:Inv X pins σ a.H s) (hk:a.K=X.K) (sm:Sim a G) (rS:RepS a S σ)
  (T:Turn X.prog X.w X.K tg J fp i0 tn) (t0:tn 0 s.heap) (hf:∀b∈fp,FpOk X pins a.H b) (rJ:RepI a d J) {Q:VK}
  (h:out E0 a ((match d with
   | .pure xs=>Dz g c te (Bh nt caps S) xs G
   | .mt i=>match G[i]? with
    | some (.lst xs)=>Hq i g c te (Bh nt caps S) xs.length 0 G
    | _=>.bad
   | .fn n f=>Ed f g c te (Bh nt caps S) n 0 G).bind Aq) Q)
  {RR:Value->Addr->Result->Shared->Prop} {E':Value->Shared->Prop}
  (hRR:∀(D C:Addr) (s':Shared) (b:Wd) (vs:List V),Inv X pins σ (upd b.H D (.lst vs)) s'->b.H D=none->s.heap.objs.size<=C->D≠C->(∃m,s'.heap.Ns C m)->b.H C=none->Q (.ref D) (upd b.H D (.lst vs))->RR (.ref D) C (.ok .next) s'):
  wpAny (model X.prog X.w) X.A (newList []) (λacc s₃=>wpAny (model X.prog X.w) X.A (newFunctionEnv scope X.env.globals (Gk X.env scope.names []) [] X.env.qual none .none (some X.env)) (λcenv s₄=>
   codeAny (model X.prog X.w) X.A (.compStart (.ListComp elt [⟨tg,iter,ifs,0⟩] scope pos) 0 (.ref i0) acc {cenv with scope:=relabel scope X.env}) (RR acc cenv.locals) s₄) E' s₃) E' s:=by
 cases d with
 | pure xs=>
  have h':out E0 a ((Dz g c te (Bh nt caps S) (xs.drop 0) G).bind Aq) Q:=h;rw [ZCO xs.length 0 G (by lia)] at h';exact ZCS hc cs hg gk hts he I hk sm rS T t0 hf (ZDU rJ) h' hRR
 | mt k=>
  dsimp only at h;split at h
  ·rename_i xs hx;rw [ZDM] at h;exact ZCS hc cs hg gk hts he I hk sm rS T t0 hf (ZGa rJ) h hRR
  ·exact h.elim
 | fn n0 f=>exact ZCS hc cs hg gk hts he I hk sm rS T t0 hf rJ h hRR
end
section
variable {X:Cx} {N:List Str} {scope:Scope} {nt:Nat} {caps:List Nat} {tg elt iter:Expr} {ifs:List Expr} {pos:Pos} {it:DI} {g:DG} {c:DB} {te:DE}
theorem letGo {pins:List (Addr×Obj)} {s2 s':Shared} {h':Heap} {C:Addr} {t':Nat} {σ2:St} {H2:Hp} (I2:Inv X pins σ2 H2 s2) (Ia:Inv X pins σ H s') (hC:s2.heap.objs.size<=C) (hn:H C=none) (hsb:qw C s'.heap h'):Inv X pins σ H {s' with heap:=h',toks:=t'}:=by
 have young:∀{b:Addr} {o:Obj},s2.heap.get? b=some o->b≠C:=λe z=>by rw [z] at e;exact absurd (zq (zw e) hC) (zS _)
 refine Ia.turned (it:=C) (λb o hb e=>(hsb.2 b hb).trans e) hn (qN (zq I2.lt hC)) (.inr (z5 I2.sz hC)) (λx c' e=> ?_) λp hp=> ?_
 ·obtain ⟨v,o,e',_⟩:=I2.cell x c' e;exact young e'
 ·exact young (I2.pin p hp).1
theorem Il (hc:X.calm=true) (cs:CompSc X N scope nt caps) (hi:QI X E0 tg iter it)
  (hg:∀C s₀ H₀ ex,QG (blk X N scope C s₀ H₀ ex) E0 tg g) (gk:GK nt g) (hts:∀C s₀ H₀ ex,QTs (blk X N scope C s₀ H₀ ex) E0 ifs c) (he:∀C s₀ H₀ ex,QE (blk X N scope C s₀ H₀ ex) E0 elt te)
  (hs:∀x,foldedSetIterable iter X.env x=pure x:=by intro _;rfl):QE X E0 (.ListComp elt [⟨tg,iter,ifs,0⟩] scope pos) (Ek it nt caps g c te):=by
 intro pins s σ H Q I h;obtain ⟨a,S,G,hk,rfl,sm,r,h⟩:=h;rw [eval_ListComp];refine wpAny_comprehension_free (use:=none) rfl hs (ZGY (cs.cells I.ok)) cs.kind cs.names (thn (hi pins s σ a.H _ I ⟨a,S,G,hk,rfl,sm,r,(ZHo h).imp λ_ _ z=>z⟩) λxv s1 h1=>thn h1 λitv s2 h2=> ?_);obtain ⟨i0,fp,tn,J,H2,rfl,I2,T,t0,f2,b,d,G1,rfl,x,sb,rJ,_,h1⟩:=h2;refine ZGS hc cs hg gk hts he I2 (x.k.trans hk) sb (r.mono x) T t0 f2 rJ h1 (RR:=λacc C=>compPost (model X.prog X.w) X.A X.xe none (EP X pins σ Q) acc C) ?_
 intro D C s' b vs Ia hD hCle hDC ⟨m,hn⟩ hCn hq;refine ⟨m,hn,λh' hsb=>⟨.ref D,_,letGo I2 Ia hCle ?_ hsb,rfl,hq⟩⟩;rw [Bf (Ne.symm hDC)];exact hCn
theorem Mj (i:Nat) {y:Str} {py spos:Pos} (hc:X.calm=true) (hN:X.N.Nodup) (cs:CompSc X N scope nt caps) (hi:QI X E0 tg iter it)
  (hg:∀C s₀ H₀ ex,QG (blk X N scope C s₀ H₀ ex) E0 tg g) (gk:GK nt g) (hts:∀C s₀ H₀ ex,QTs (blk X N scope C s₀ H₀ ex) E0 ifs c) (he:∀C s₀ H₀ ex,QE (blk X N scope C s₀ H₀ ex) E0 elt te)
  (hy:X.N[i]? =some y:=by rfl) (hx:Loc X.env.scope y:=by first | exact Or.inl rfl | exact Or.inr rfl) (hf:X.fn y=true∨X.env.scope.names.lookup y=some .local:=by first | exact .inl rfl | exact .inr rfl | assumption)
  (hsw:swapsWith (.ListComp elt [⟨tg,iter,ifs,0⟩] scope pos) (some (.Name y py)) spos.line X.env=pure true:=by rfl)
  (hs:∀x,foldedSetIterable iter X.env x=pure x:=by intro _;rfl):QS X E0 (.Assign [.Name y py] (.ListComp elt [⟨tg,iter,ifs,0⟩] scope pos) spos) (sAs (Ek it nt caps g c te) (gV i)):=by
 intro pins s σ H W I h;obtain ⟨a,S,G,hk,rfl,sm,r,h⟩:=h;have h0:=Hz h;rw [exec_Assign_Name_used _ _ _ _ hsw];refine wpAny_bind (wpAny_standAt (wpAny_bind ?_))
 show wpAny _ X.A (do let _<-comprehension (.ListComp elt [⟨tg,iter,ifs,0⟩] scope pos) scope X.env _ (newList []) false (eval iter X.env) (some (assign (.Name y py) X.env))) _ _ s
 refine wpAny_bind (wpAny_mono (wpAny_comprehension_free (use:=some (assign (.Name y py) X.env)) (Q:=λ_ s'=>SP X pins W .next s') rfl hs (ZGY (cs.cells I.ok)) cs.kind cs.names
  (thn (hi pins s σ a.H _ I ⟨a,S,G,hk,rfl,sm,r,(ZHo h0).imp λ_ _ z=>z⟩) λxv s1 h1=>thn h1 λitv s2 h2=> ?_)) (λ_ s' hq=>wpAny_pure (wpAny_pure hq)) λ_ _ e=>e)
 obtain ⟨i0,fp,tn,J,H2,rfl,I2,T,t0,f2,b,d,G1,rfl,x,sb,rJ,_,h1⟩:=h2
 refine ZGS hc cs hg gk hts he I2 (x.k.trans hk) sb (r.mono x) T t0 f2 rJ h1 (RR:=λacc C=>compPost (model X.prog X.w) X.A X.xe (some (assign (.Name y py) X.env)) (λ_ s'=>SP X pins W .next s') acc C) ?_
 intro D C s' b' vs Ia hD hCle hDC ⟨m,hn⟩ hCn hq;show wpAny _ X.A (assign (.Name y py) X.env (.ref D)) _ _ _;refine wpAny_assign_Name (ZF0 Ia hN hy hx (v:=.ref D) rfl (λs'' I'' hch=> ?_) hf);obtain ⟨a',hsb',ha'⟩:=hch;have hCa:C≠a':=by
  rintro rfl;rcases ha' with rfl | ha'
  ·exact absurd (zq I2.lt hCle) (zS _)
  ·obtain ⟨v,o,e',_⟩:=I2.cell _ _ ha';exact absurd (zq (zw e') hCle) (zS _)
 refine ⟨m,hn.sameBut hsb' hCa,λh' hsb=>⟨_,_,letGo I2 I'' hCle ?_ hsb,?_⟩⟩
 ·rw [Bf (Ne.symm hDC)];exact hCn
 ·obtain ⟨b3,d3,G3,e3,x3,s3,q3,_,h3⟩:=hq;rw [<-e3];exact h3 b3 _ (Ext.refl b3) s3 ((r.mono x3).set i q3)
end
def U3:D->DH->R D
 | .int i,G=>.ok (.int (-i)) G
 | _,_=>.bad
def Ly:D->Bool
 | .non=>true
 | _=>false
def W3:D->D->DH->R D
 | d,.non,G=>.ok (.bl (Ly d)) G
 | _,_,_=>.bad
def Mh:D->D->DH->R D
 | d,.non,G=>.ok (.bl (!Ly d)) G
 | _,_,_=>.bad
section
variable {X:Cx} {E:XK} {a b:Expr} {ta tb:DE} {pos:Pos}
theorem Z5:UnR X (unaryOp .USub) (lR1 X.K E U3):=λpins s σ H x v Q I rx h=>by
 obtain ⟨a,G,d,hk,rfl,sm,rd,q⟩:=h;cases d with
 | int i=>exact ZMo pins s σ a.H x v Q I rx ⟨i,rd,q a _ (Ext.refl a) sm rfl⟩
 | _=>exact q.elim
theorem Zi {op:UnaryOp} {f:D->DH->R D} (ho:UnR X (unaryOp op) (lR1 X.K E f)) (ha:QE X E a ta):QE X E (.UnaryOp op a pos) (dUn f ta):=(ZMh ho ha).mono λσ H Q h=>by obtain ⟨a,S,G,hk,rfl,s,r,h⟩:=h;refine ⟨a,S,G,hk,rfl,s,r,(Gw h).imp ?_⟩;rintro v _ ⟨b,d,G1,rfl,x,s1,q,-,h1⟩;exact ⟨b,G1,d,x.k.trans hk,rfl,s1,q,h1⟩
theorem Wy {n:String} (hg:Gl X x) (hm:X.mg x=none) (hv:bootBuiltins x=some (.type n)) (hn:x≠"__name__":=by decide) (hd:(x == ("__debug__":Str))=false:=by decide):QE X E (.Name x pos) (dC (.ty n)):=
 (ZJ5 (v:=.ty n) hg hm hv rfl hn hd).mono λσ H Q h=>Qo h λ_ _=>rfl
theorem ZGy {a:Wd} {x:V} (rd:Rep a d x):decide (x=V.non)=Ly d:=by
 cases d with
 | non=>rw [show x=V.non from rd];rfl
 | bl _=>rw [show x=V.bl _ from rd];rfl
 | int _=>rw [show x=V.int _ from rd];rfl
 | str _=>rw [show x=V.str _ from rd];rfl
 | ty _=>rw [show x=V.ty _ from rd];rfl
 | tup _=>obtain ⟨p,vs,rfl,_⟩:=rd;rfl
 | fl _=>obtain ⟨p,vs,rfl,_⟩:=rd;rfl
 | ref _=>rw [rd.2];rfl
theorem o_is:OpR X (compareOp .Is) (lR2 X.K E W3):=Ht ZKa λa G d e x y Q hk s rd re q=>by
 cases e with
 | non=>exact ⟨re,by rw [ZGy rd];cases d <;> exact q a _ (Ext.refl a) s rfl⟩
 | _=>cases d <;> exact q.elim
theorem Rj:OpR X (compareOp .IsNot) (lR2 X.K E Mh):=Ht ZOj λa G d e x y Q hk s rd re q=>by
 cases e with
 | non=>exact ⟨re,by rw [ZGy rd];cases d <;> exact q a _ (Ext.refl a) s rfl⟩
 | _=>cases d <;> exact q.elim
end
theorem Vp:bootBuiltins "isinstance"=some (.builtin "isinstance"):=by decide +kernel
theorem ZPx:bootBuiltins "all"=some (.builtin "all"):=by decide +kernel
theorem ZC9:bootBuiltins "max"=some (.builtin "max"):=by decide +kernel
theorem Su:bootBuiltins "min"=some (.builtin "min"):=by decide +kernel
theorem Ds:bootBuiltins "len"=some (.builtin "len"):=by decide +kernel
theorem ZOq:bootBuiltins "int"=some (.type "int"):=by decide +kernel
theorem ZOd:bootBuiltins "bool"=some (.type "bool"):=by decide +kernel
theorem H9:bootBuiltins "tuple"=some (.type "tuple"):=by decide +kernel
theorem ZDS:bootBuiltins "list"=some (.type "list"):=by decide +kernel
def N5:NameKind->Bool | .local=>true | _=>false
def My:NameKind->Bool | .cell=>true | _=>false
def M6:NameKind->Bool | .free=>true | _=>false
def isK (p:NameKind->Bool):Option NameKind->Bool | some k=>p k | none=>false
theorem ZJ7 {k:NameKind} (h:N5 k=true):k=.local:=by cases k <;> first | rfl | cases h
theorem ZO7 {k:NameKind} (h:My k=true):k=.cell:=by cases k <;> first | rfl | cases h
theorem ZC6 {k:NameKind} (h:M6 k=true):k=.free:=by cases k <;> first | rfl | cases h
theorem Vh {p:NameKind->Bool} {k:NameKind} (hp:∀k',p k'=true->k'=k) {o:Option NameKind} (h:isK p o=true):o=some k:=by
 cases o with
 | none=>cases h
 | some k'=>rw [hp _ h]
noncomputable def ZFN (dn:List (Str×NameKind)) (N0 N:List Str) (names:List (Str×NameKind)) (nt:Nat) (caps:List Nat):Bool:=
 names.all (λy=>(!N5 y.2 || isK N5 (names.lookup y.1)) && !My y.2 && (!M6 y.2 || isK My (dn.lookup y.1) || isK M6 (dn.lookup y.1))) && decide N.Nodup && decide (N.length=nt + caps.length) &&
 (zX caps.length).all λk=>match caps[k]? with
  | some j=>match N0[j]? with
   | some x=>decide (N[nt + k]? =some x) && isK M6 (names.lookup x)
   | none=>false
  | none=>true
theorem Fv {X:Cx} {N0 N:List Str} {nt:Nat} {caps:List Nat} {dn:List (Str×NameKind)} (hk:scope.kind=.function:=by rfl) (hdn:∀x,X.env.kindOf x=dn.lookup x:=by intro _;rfl) (hN:X.N=N0:=by rfl)
  (h:ZFN dn N0 N scope.names nt caps=true:=by decide +kernel):CompSc X N scope nt caps:=by
 unfold ZFN at h;rw [zF,zF,zF] at h;obtain ⟨⟨⟨h1,h2⟩,h3⟩,h4⟩:=h;rw [qA] at h1 h4;have key:=λ(y:Str×NameKind) (hy:y∈scope.names)=>(by have:=h1 y hy;rw [zF,zF] at this;exact this:((!N5 y.2 || isK N5 (scope.names.lookup y.1))=true/\(!My y.2)=true)/\(!M6 y.2 || isK My (dn.lookup y.1) || isK M6 (dn.lookup y.1))=true)
 refine ⟨hk,λy hy hl=> ?_,λy hy hl=> ?_,λy hy hl=> ?_,of_decide_eq_true h2,of_decide_eq_true h3,λk j hj=> ?_⟩
 ·have:=(key y hy).1.1;rw [hl] at this;exact Vh (p:=N5) (λ_ h=>ZJ7 h) (by have t:(false || isK N5 (scope.names.lookup y.1))=true:=this;simpa using t)
 ·have:=(key y hy).1.2;rw [hl] at this;exact absurd this (by decide)
 ·have:=(key y hy).2;rw [hl,j4] at this;rw [hdn];rcases this with h | h
  ·exact .inl (Vh (p:=My) (λ_ h=>ZO7 h) (by have t:(false || isK My (dn.lookup y.1))=true:=h;simpa using t))
  ·exact .inr (Vh (p:=M6) (λ_ h=>ZC6 h) h)
 ·have hk':k < caps.length:=(zD.mp hj).1;have:=h4 k (qW.mpr hk');rw [hj] at this;dsimp only at this;cases e:N0[j]? with
  | none=>rw [e] at this;cases this
  | some x=>
   rw [e] at this;dsimp only at this;rw [zF] at this;exact ⟨x,by rw [hN];exact e,of_decide_eq_true this.1,Vh (p:=M6) (λ_ h=>ZC6 h) this.2⟩
section
section
variable {X:Cx} {pins:List (Addr×Obj)} {σ:St} {H:Hp} {s:Shared}
theorem ZNc {xs:List V} (I:Inv X pins σ H s) (h:H p=some (.lst xs)):∃o,Inv X pins σ (upd H p (.frz o (.lst xs))) s:=by
 obtain ⟨hl,its,n,r,e⟩:=I.hok p _ h;have nt:∀b (u:HO),H b=some u->u≠ .lst xs->b≠p:=λb u q d z=>by subst z;rw [h] at q;exact d (Option.some.inj q).symm
 refine ⟨_,I.un (t':=s.toks) (H':=upd H p (.frz {cls:=.type "list",data:=.seq its.toArray n} (.lst xs))) ⟨λb o q _ _ _=>q,λb o q _ _ _=>⟨o.slots,q⟩,λb o q z _=> ?_,λb o q _=>⟨o,q⟩,λb ys q=> ?_,λb o u q=> ?_,λb ps q=>⟨#[],?_⟩⟩ ?_⟩
 ·rw [Bf (λz'=>by subst z';rw [h] at z;cases z)];exact z
 ·rw [Bf (nt b _ q (by intro z;cases z))];exact q
 ·rw [Bf (nt b _ q (by intro z;cases z))];exact q
 ·rw [Bf (nt b _ q (by intro z;cases z)),Array.append_empty];exact q
 ·intro b u q;by_cases hb:b=p
  ·subst hb;rw [Gz] at q;cases q;exact ⟨e,hl,its,n,r,e⟩
  ·rw [Bf hb] at q;exact (I.hok b u q).stay (λc v _ z=>z) (λc z=>by rw [Bf (nt c _ z (by intro z;cases z))];exact z) λc ys z=>by rw [Bf (nt c _ z (by intro z;cases z))];exact z
noncomputable def Fz (P:Addr->Prop) (H H':Hp):Prop:=∀p,(H' p=H p/\(∀vs,H p=some (.lst vs)->¬P p))∨∃o vs,P p/\H p=some (.lst vs)/\H' p=some (.frz o (.lst vs))
theorem ZE5 (I:Inv X pins σ H s) (m:Nat->Addr) (n:Nat):∀k:Nat,∃H',Inv X pins σ H' s/\Fz (λp=>∃i,n<=i/\i < n + k/\p=m i) H H'
 | 0=>⟨H,I,λp=>.inl ⟨rfl,λ_ _ ⟨i,h1,h2,_⟩=>by lia⟩⟩
 | k + 1=>by
  obtain ⟨H',I',F⟩:=ZE5 I m n k;have keep:(∀vs,H' (m (n + k))≠some (.lst vs))->Fz (λp=>∃i,n<=i/\i < n + (k + 1)/\p=m i) H H':=λno p=>by
   rcases F p with ⟨e,z⟩ | ⟨o,vs,⟨i,h1,h2,h3⟩,e1,e2⟩
   ·refine .inl ⟨e,λvs e1 ⟨i,h1,h2,h3⟩=> ?_⟩;by_cases hi:i < n + k
    ·exact z vs e1 ⟨i,h1,hi,h3⟩
    ·have:i=n + k:=by lia
     subst this;subst h3;exact no vs (e.trans e1)
   ·exact .inr ⟨o,vs,⟨i,h1,by lia,h3⟩,e1,e2⟩
  cases hH:H' (m (n + k)) with
  | none=>exact ⟨H',I',keep λvs z=>by rw [hH] at z;cases z⟩
  | some u=>
   cases u with
   | lst vs=>
    obtain ⟨o,I2⟩:=ZNc I' hH;refine ⟨_,I2,λp=> ?_⟩;by_cases hp:p=m (n + k)
    ·subst hp;rcases F (m (n + k)) with ⟨e,z⟩ | ⟨o',vs',_,e1,e2⟩
     ·exact .inr ⟨o,vs,⟨n + k,by lia,by lia,rfl⟩,e.symm.trans hH,Gz⟩
     ·rw [hH] at e2;cases e2
    ·rcases F p with ⟨e,z⟩ | ⟨o',vs',⟨i,h1,h2,h3⟩,e1,e2⟩
     ·refine .inl ⟨by rw [Bf hp];exact e,λvs' e1 ⟨i,h1,h2,h3⟩=> ?_⟩;by_cases hi:i < n + k
      ·exact z vs' e1 ⟨i,h1,hi,h3⟩
      ·have:i=n + k:=by lia
       subst this;exact hp h3
     ·exact .inr ⟨o',vs',⟨i,h1,by lia,h3⟩,e1,by rw [Bf hp];exact e2⟩
   | _=>exact ⟨H',I',keep λvs z=>by rw [hH] at z;cases z⟩
end
noncomputable def Jw (f:D->Option D):List D->Option (List D)
 | []=>some []
 | d::r=>match f d,Jw f r with
  | some d',some r'=>some (d'::r')
  | _,_=>none
noncomputable def Er (G:DH) (n:Nat):Nat->D->Option D
 | 0,_=>none
 | k + 1,d=>if bel n d=true then some d else match d with
  | .ref i=>match G[i]? with
   | some (.lst xs)=>(Jw (Er G n k) xs).map .fl
   | _=>none
  | .tup xs=>(Jw (Er G n k) xs).map .tup
  | .fl xs=>(Jw (Er G n k) xs).map .fl
  | _=>none
open Classical in
noncomputable def freeze (G:DH) (r:R D):R D:=match r with
 | .ok d G'=>if G'.take G.length=G then (match Er G' G.length 9 d with
   | some d'=>.ok d' G
   | none=>.ok d G') else .ok d G'
 | r=>r
def Bu (t:DE):DE:=λS G=>freeze G (t S G)
structure CutF (b c:Wd) (n:Nat):Prop where
 k:c.K=b.K
 n:c.n=n
 m:c.m=b.m
 tup:∀p xs,b.H p=some (.tup xs)->c.H p=some (.tup xs)
 frz:∀p o u,b.H p=some (.frz o u)->c.H p=some (.frz o u)
theorem CutF.sqT {c:Wd} {n:Nat} (x:CutF b c n) {xs:List V} (h:SqT b.K b.H p xs):SqT c.K c.H p xs:=by
 rcases h with (h | ⟨o,h⟩) | h
 ·exact .inl (.inl (x.tup _ _ h))
 ·exact .inl (.inr ⟨o,x.frz _ _ _ h⟩)
 ·exact .inr (by rw [x.k];exact h)
theorem CutF.fzL {c:Wd} {n:Nat} (x:CutF b c n) {xs:List V} (h:FzL b.K b.H p xs):FzL c.K c.H p xs:=by
 rcases h with ⟨o,h⟩ | h
 ·exact .inl ⟨o,x.frz _ _ _ h⟩
 ·exact .inr (by rw [x.k];exact h)
mutual
theorem Rep.Jp {c:Wd} {n:Nat} (x:CutF b c n):∀{d:D} {v:V},Rep b d v->bel n d=true->Rep c d v
 | .non,_,h,_=>h
 | .bl _,_,h,_=>h
 | .int _,_,h,_=>h
 | .str _,_,h,_=>h
 | .ty _,_,h,_=>h
 | .tup ds,v,h,q=>by obtain ⟨p,vs,e,t,r⟩:=h;simp only [DL.bel] at q;exact ⟨p,vs,e,x.sqT t,Reps.Jp x r q⟩
 | .fl ds,v,h,q=>by obtain ⟨p,vs,e,t,r⟩:=h;simp only [DL.bel] at q;exact ⟨p,vs,e,x.fzL t,Reps.Jp x r q⟩
 | .ref i,v,h,q=>by obtain ⟨l,e⟩:=h;simp only [DL.bel] at q;have q':=of_decide_eq_true q;exact ⟨by rw [x.n];exact q',by rw [x.m];exact e⟩
theorem Reps.Jp {c:Wd} {n:Nat} (x:CutF b c n):∀{ds:List D} {vs:List V},Reps b ds vs->bels n ds=true->Reps c ds vs
 | [],_,h,_=>h
 | d::ds,vs,h,q=>by obtain ⟨v,r,e,h1,h2⟩:=h;simp only [DL.bels,zF] at q;exact ⟨v,r,e,Rep.Jp x h1 q.1,Reps.Jp x h2 q.2⟩
end
theorem V9 {c:Wd} {f:D->Option D} (hf:∀d d' v,f d=some d'->Rep b d v->Rep c d' v):∀{ds ds':List D} {vs:List V},Jw f ds=some ds'->Reps b ds vs->Reps c ds' vs
 | [],ds',vs,e,h=>by cases e;exact h
 | d::ds,ds',vs,e,h=>by
  obtain ⟨v,r,rfl,h1,h2⟩:=h;unfold Jw at e;split at e
  ·rename_i d' r' e1 e2;cases e;exact ⟨v,r,rfl,hf _ _ _ e1 h1,V9 hf e2 h2⟩
  ·cases e
theorem ZHs {c:Wd} {n:Nat} (s:Sim b G') (x:CutF b c n) (hz:∀i,n<=i->i < b.n->∀vs,b.H (b.m i)=some (.lst vs)->∃o,c.H (b.m i)=some (.frz o (.lst vs))):∀(k:Nat) (d d':D) (v:V),Er G' n k d=some d'->Rep b d v->Rep c d' v
 | 0,d,d',v,e,h=>by cases e
 | k + 1,d,d',v,e,h=>by
  have ih:=ZHs s x hz k;unfold Er at e;split at e
  ·rename_i hb;cases e;exact h.Jp x hb
  ·rename_i hb;cases d with
   | ref i=>
    dsimp only at e;split at e
    ·rename_i xs hx;rw [zL] at e;obtain ⟨ys,e1,rfl⟩:=e;obtain ⟨vs,e2,r2⟩:=s.obj i _ hx;obtain ⟨il,rfl⟩:=h;have hi:n<=i:=by simp only [DL.bel,decide_eq_true_eq] at hb;lia
     obtain ⟨o,e3⟩:=hz i hi il vs e2;exact ⟨_,vs,rfl,.inl ⟨o,e3⟩,V9 ih e1 r2⟩
    ·cases e
   | tup xs=>
    dsimp only at e;rw [zL] at e;obtain ⟨ys,e1,rfl⟩:=e;obtain ⟨p,vs,rfl,t,r⟩:=h;exact ⟨p,vs,rfl,x.sqT t,V9 ih e1 r⟩
   | fl xs=>
    dsimp only at e;rw [zL] at e;obtain ⟨ys,e1,rfl⟩:=e;obtain ⟨p,vs,rfl,t,r⟩:=h;exact ⟨p,vs,rfl,x.fzL t,V9 ih e1 r⟩
   | _=>cases e
theorem ZFm {pins:List (Addr×Obj)} {sh:Shared} (s:Sim a G) (hG:G'.take G.length=G) (x:Ext a b) (sb:Sim b G') (I:Inv X pins σ b.H sh):
  ∃c:Wd,Inv X pins σ c.H sh/\Ext a c/\Sim c G/\CutF b c a.n/\∀(k:Nat) (d d':D) (v:V),Er G' G.length k d=some d'->Rep b d v->Rep c d' v:=by
 have hlen:∀i o,G[i]? =some o->G'[i]? =some o:=λi o e=>by have hi:i < G.length:=(zD.mp e).1;rw [<-hG,jV hi] at e;exact e
 obtain ⟨H',I',F⟩:=ZE5 I b.m a.n (b.n - a.n);have hbn:a.n + (b.n - a.n)=b.n:=by have:=x.n;lia
 rw [hbn] at F;have ct:∀p (u:HO),(∀vs,u≠ .lst vs)->b.H p=some u->H' p=some u:=λp u nu e=>by
  rcases F p with ⟨e1,_⟩ | ⟨o,vs,_,e1,_⟩
  ·exact e1.trans e
  ·rw [e] at e1;exact absurd (Option.some.inj e1) (nu vs)
 have tabs:∀p,TabOk b.H p->TabOk H' p:=λp t=>t.mono (λp ps e=>ct p _ (by intro _ z;cases z) e) λp o u e=>ct p _ (by intro _ z;cases z) e
 have cc:CutF b ⟨b.K,a.n,b.m,H'⟩ a.n:=⟨rfl,rfl,rfl,λp xs e=>ct p _ (by intro _ z;cases z) e,λp o u e=>ct p _ (by intro _ z;cases z) e⟩;have old:∀i,i < a.n->H' (b.m i)=b.H (b.m i):=λi hi=>by
  rcases F (b.m i) with ⟨e1,_⟩ | ⟨o,vs,⟨j,h1,h2,h3⟩,e1,e2⟩
  ·exact e1
  ·have:=sb.inj i j (zq hi x.n) h2 h3;lia
 refine ⟨⟨b.K,a.n,b.m,H'⟩,I',⟨x.k,zK _,x.m,λp xs e=>cc.tup p xs (x.tup p xs e),λp o u e=>cc.frz p o u (x.frz p o u e),λp t=>tabs p (x.tab p t)⟩,⟨s.len,λi j hi hj=>sb.inj i j (zq hi x.n) (zq hj x.n),λi o e=> ?_,λi hi=> ?_⟩,cc,λk d d' v hd rb=> ?_⟩
 ·show ORep ⟨b.K,a.n,b.m,H'⟩ o (H' (b.m i));rw [old i (s.lt e)];have q:=sb.obj i o (hlen i o e);have lb:=(s.obj i o e).Mp;cases o with
  | lst ds=>obtain ⟨vs,e1,r1⟩:=q;exact ⟨vs,e1,r1.Jp cc lb⟩
  | dct kvs=>obtain ⟨us,e1,k1,r1⟩:=q;exact ⟨us,e1,k1,r1.Jp cc lb⟩
  | ins c fs=>obtain ⟨C,dx,us,n1,e1,k1,r1⟩:=q;exact ⟨C,dx,us,n1,e1,k1,r1.Jp cc lb⟩
  | tab C m=>obtain ⟨c1,P1,e1,t1⟩:=q;exact ⟨c1,P1,e1,tabs _ t1⟩
  | gone=>trivial
 ·show H' (b.m i)≠none;rw [old i hi];exact sb.tr i (zq hi x.n)
 ·rw [s.len] at hd;refine ZHs sb cc (λi h1 h2 vs e=> ?_) k d d' v hd rb;rcases F (b.m i) with ⟨e1,z⟩ | ⟨o,vs',_,e1,e2⟩
  ·exact absurd ⟨i,h1,h2,rfl⟩ (z vs e)
  ·rw [e] at e1;cases e1;exact ⟨o,e2⟩
theorem ZMe (s:Sim a G) (h:out E a (freeze G r) Q):
  out E a r λv H=>∀(pins:List (Addr×Obj)) (σ:St) (sh:Shared),Inv X pins σ H sh->∃H',Inv X pins σ H' sh/\Q v H':=by
 cases r with
 | err e G'=>exact h
 | bad=>exact h
 | ok d G'=>
  intro b v x sb rb pins σ sh I;unfold freeze at h;dsimp only at h;split at h
  ·rename_i hG;split at h
   ·rename_i d' hd;obtain ⟨c,Ic,xc,sc,cc,hr⟩:=ZFm s hG x sb I;exact ⟨c.H,Ic,h c v xc sc (hr _ _ _ _ hd rb)⟩
   ·exact ⟨_,I,h b v x sb rb⟩
  ·exact ⟨_,I,h b v x sb rb⟩
theorem Cw (ha:QE X E e t):QE X E e (Bu t):=λpins s σ H Q I h=>by
 obtain ⟨a,S,G,hk,rfl,sm,r,h⟩:=h;refine thn (ha pins s σ a.H _ I ⟨a,S,G,hk,rfl,sm,r,ZMe (X:=X) sm h⟩) λu s' ⟨v,H',I',rv,q⟩=> ?_
 obtain ⟨H2,I2,q2⟩:=q pins σ s' I';exact ⟨v,H2,I2,rv,q2⟩
theorem Ml {st:Stmt} (ha:QS X E st (sAs t (gV i))):QS X E st (sAs (Bu t) (gV i)):=λpins s σ H W I h=>by
 obtain ⟨a,S,G,hk,rfl,sm,r,h⟩:=h;have h2:Dg E a (sAs t (gV i) S G) {W with nx:=λσ H=>∀(pins:List (Addr×Obj)) (sh:Shared),Inv X pins σ H sh->∃H',Inv X pins σ H' sh/\W.nx σ H'}:=by
  unfold sAs Bu at h;unfold sAs;cases ht:t S G with
  | err e G'=>rw [ht] at h;exact h
  | bad=>rw [ht] at h;exact h
  | ok d G'=>
   rw [ht] at h;intro b σ' x sb rb pins sh I;unfold freeze at h;dsimp only at h;split at h
   ·rename_i hG;split at h
    ·rename_i d' hd;obtain ⟨c,Ic,xc,sc,cc,hr⟩:=ZFm sm hG x sb I;refine ⟨c.H,Ic,h c σ' xc sc ⟨?_,λj e he=> ?_⟩⟩
     ·rw [j3,<-rb.len,j3]
     ·rw [qT] at he;by_cases hij:i=j
      ·subst hij;rw [if_pos rfl] at he;by_cases hl:i < S.length
       ·rw [if_pos hl] at he;have e1:d'=e:=by simpa using he
        subst e1;obtain ⟨v,e2,rv⟩:=rb.get i d (by rw [qT,if_pos rfl,if_pos hl]);exact ⟨v,e2,hr _ _ _ _ hd rv⟩
       ·rw [if_neg hl] at he;cases he
      ·rw [if_neg hij] at he;obtain ⟨v,e2,rv⟩:=rb.get j e (by rw [qT,if_neg hij];exact he);obtain ⟨v',_,rv'⟩:=r.get j e he;exact ⟨v,e2,rv.Jp cc rv'.bel⟩
    ·exact ⟨_,I,h b σ' x sb rb⟩
   ·exact ⟨_,I,h b σ' x sb rb⟩
 refine thn (ha pins s σ a.H _ I ⟨a,S,G,hk,rfl,sm,r,h2⟩) λf s' hf=> ?_
 cases f with
 | next=>
  obtain ⟨σ',H',I',q⟩:=hf;obtain ⟨H2,I2,q2⟩:=q pins s' I';exact ⟨σ',H2,I2,q2⟩
 | brk=>exact hf
 | cont=>exact hf
 | ret u=>exact hf
end
section
variable {S:DSt} {G:DH}
@[simp] theorem Ym:dV i S G=(match S[i]? with | some (some d)=>.ok d G | _=>.bad):=id rfl
@[simp] theorem ev_C:dC d S G=.ok d G:=id rfl
@[simp] theorem ev_Op {a b:DE}:dOp f a b S G=(a S G).bind λx G1=>(b S G1).bind λy G2=>f x y G2:=id rfl
@[simp] theorem ev_Un {f:D->DH->R D} {a:DE}:dUn f a S G=(a S G).bind f:=id rfl
@[simp] theorem ev_Nil:Ad S G=.ok [] G:=id rfl
@[simp] theorem ZQ7 {a:DE} {r:DA}:Ab a r S G=(a S G).bind λx G1=>(r S G1).bind λxs G2=>.ok (x::xs) G2:=id rfl
@[simp] theorem ev_Fn {f:List D->DH->R D} {t:DA}:dFn f t S G=(t S G).bind f:=id rfl
@[simp] theorem ZRQ:Et t S G=tidy G (t S G):=id rfl
@[simp] theorem ev_Frz:Bu t S G=freeze G (t S G):=id rfl
@[simp] theorem ev_asB {k:Bool}:asB (.bl k) G=.ok k G:=id rfl
@[simp] theorem ev_Tst:Bc t S G=(t S G).bind asB:=id rfl
@[simp] theorem ev_And {t u:DB}:Pg t u S G=(t S G).bind λk G1=>if k=true then u S G1 else .ok false G1:=id rfl
@[simp] theorem ev_Or {t u:DB}:dOr t u S G=(t S G).bind λk G1=>if k=true then .ok true G1 else u S G1:=id rfl
@[simp] theorem ev_Not {t:DB}:Lz t S G=(t S G).bind λk G1=>.ok (!k) G1:=id rfl
@[simp] theorem ZQ2 {u:DE}:Ov t u S G=(t S G).bind λx G1=>(asB x G1).bind λk G2=>if k=true then u S G2 else .ok (.bl false) G2:=id rfl
@[simp] theorem ev_OrV {u:DE}:Yx t u S G=(t S G).bind λx G1=>(asB x G1).bind λk G2=>if k=true then .ok (.bl true) G2 else u S G2:=id rfl
@[simp] theorem ZQu:ZCA t S G=(t S G).bind λx G1=>(asB x G1).bind λk G2=>.ok (.bl (!k)) G2:=id rfl
@[simp] theorem ev_If {u:DE}:dIf c t u S G=(c S G).bind λk G1=>if k=true then t S G1 else u S G1:=id rfl
@[simp] theorem ZRF {g:D->D->DH->R D} {a b c:DE}:Ww f g a b c S G=(a S G).bind λx G1=>(b S G1).bind λy G2=>(f x y G2).bind λz G3=>(asB z G3).bind λk G4=>
 if k=true then (c S G4).bind λw G5=>g y w G5 else .ok (.bl false) G4:=id rfl
@[simp] theorem ev_sNx:sNx S G=.nx S G:=id rfl
def SR.then (r:SR) (u:DS):SR:=match r with
 | .nx S1 G1=>u S1 G1
 | r=>r
@[simp] theorem Wr {t:DS}:Ah t u S G=(t S G).then u:=id rfl
@[simp] theorem Vb:(SR.nx S G).then u=u S G:=id rfl
@[simp] theorem ZQY:(SR.rt d G).then u=.rt d G:=id rfl
@[simp] theorem ev_sEx:sEx t S G=(t S G).toS λ_ G1=>.nx S G1:=id rfl
@[simp] theorem ev_sRt:sRt t S G=(t S G).toS λd G1=>.rt d G1:=id rfl
@[simp] theorem ev_sIf {t:DS}:sIf c t u S G=(c S G).toS λk G1=>if k=true then t S G1 else u S G1:=id rfl
@[simp] theorem ev_sAs:sAs t g S G=(t S G).toS λd G1=>(g d S G1).toS λS2 G2=>.nx S2 G2:=id rfl
@[simp] theorem ev_sAu:sAu i t f S G=(match S[i]? with
 | some (some x)=>(t S G).toS λy G1=>(f x y G1).toS λz G2=>.nx (S.set i (some z)) G2
 | _=>.bad):=id rfl
@[simp] theorem ZQc {it:DI} {b:DS}:Dl it g b S G=(it S G).toS λJ G1=>(match J with
 | .pure xs=>Be g b xs S G1
 | .mt i=>match G1[i]? with
  | some (.lst xs)=>forM i g b xs.length 0 S G1
  | _=>.bad
 | .fn n f=>Em f g b n 0 S G1):=id rfl
@[simp] theorem ZOZ:Fi t S G=(t S G).bind Hu:=id rfl
@[simp] theorem ZQe {f:List D->DH->R ItD} {t:DA}:Cv f t S G=(t S G).bind f:=id rfl
@[simp] theorem Do:gV i d S G=.ok (S.set i (some d)) G:=id rfl
@[simp] theorem Sd:By [] S G=.ok S G:=id rfl
@[simp] theorem Tg {t:DG} {u:DGs} {r:List D}:Ao t u (d::r) S G=(t d S G).bind λS1 G1=>u r S1 G1:=id rfl
@[simp] theorem Sv {n:Nat} {t:DGs} :Bv n t (.tup ds) S G=if ds.length=n then t ds S G else .bad:=id rfl
@[simp] theorem ev_gIx {o i:DE} {v:D}:gIx o i v S G=(o S G).bind λo G1=>(i S G1).bind λi G2=>(Lg o i v G2).bind λ_ G3=>.ok S G3:=id rfl
@[simp] theorem ev_MtL {f:D->List D->DH->R D} {o:DE} {t:DA}:Fe f o t S G=(o S G).bind λx G1=>if isL x G1=true then (t S G1).bind λxs G2=>f x xs G2 else .bad:=id rfl
@[simp] theorem ZLq {it:DI} {caps:List Nat} :Ek it nt caps g c te S G=(it S G).bind λJ G1=>(match J with
 | .pure xs=>Dz g c te (Bh nt caps S) xs G1
 | .mt i=>match G1[i]? with
  | some (.lst xs)=>Hq i g c te (Bh nt caps S) xs.length 0 G1
  | _=>.bad
 | .fn n f=>Ed f g c te (Bh nt caps S) n 0 G1).bind Aq:=id rfl
@[simp] theorem ZNZ:Cd S G=.ok true G:=id rfl
@[simp] theorem Dv {k:DSt->DH->SR}:aft (.nx S G) k=k S G:=id rfl
@[simp] theorem aft_rt {k:DSt->DH->SR} :aft (.rt d G) k=.rt d G:=id rfl
theorem Dm {b:DS}:Be g b [] S G=.nx S G:=id rfl
theorem Cy {b:DS} {x:D} :Be g b (x::xs) S G=(g x S G).toS λS1 G1=>aft (b S1 G1) (Be g b xs):=id rfl
theorem ZBK {x:D} :Dz g c te S (x::xs) G=(g x S G).bind λS1 G1=>(c S1 G1).bind λk G2=>
   if k=true then (te S1 G2).bind λd G3=>(Dz g c te S xs G3).bind λds G4=>.ok (d::ds) G4 else Dz g c te S xs G2:=id rfl
noncomputable def SR.ret (r:SR):R D:=match r with
 | .nx _ G'=>.ok .non G'
 | .rt d G'=>.ok d G'
 | .err x G'=>.err x G'
 | _=>.bad
@[simp] theorem ZMn:(SR.nx S G).ret=.ok .non G:=id rfl
@[simp] theorem ret_rt:(SR.rt d G).ret=.ok d G:=id rfl
theorem Br {np nl:Nat} {b:DS} :Ce np nl b ds G=if ds.length=np then tidy G (b (ds.map some++zV nl none) G).ret else .bad:=id rfl
end
section
variable {n:Nat} {G:DH}
@[simp] theorem ZRI:bel n .non=true:=by simp [DL.bel]
@[simp] theorem bel_bl {b:Bool}:bel n (.bl b)=true:=by simp [DL.bel]
@[simp] theorem ZPX {b:Int}:bel n (.int b)=true:=by simp [DL.bel]
@[simp] theorem ZQ1 {b:Str}:bel n (.str b)=true:=by simp [DL.bel]
@[simp] theorem ZQ5 {b:List D}:bel n (.tup b)=bels n b:=by simp [DL.bel]
@[simp] theorem bel_fl {b:List D}:bel n (.fl b)=bels n b:=by simp [DL.bel]
@[simp] theorem ZRC {b:Nat}:bel n (.ref b)=decide (b < n):=by simp [DL.bel]
@[simp] theorem ZQ9:bels n []=true:=by simp [DL.bels]
@[simp] theorem ZKo:bels n (d::ds)=(bel n d && bels n ds):=by simp [DL.bels]
theorem ZLg:bels n ds=true↔∀d∈ds,bel n d=true:=by
 induction ds with
 | nil=>simp
 | cons d ds ih=>simp [ih]
theorem Gq {f:α->D} {xs:List α} (h:∀x∈xs,bel n (f x)=true):bels n (xs.map f)=true:=by rw [ZLg];intro d hd;obtain ⟨x,hx,rfl⟩:=zH.mp hd;exact h x hx
@[simp] theorem ZDg {xs:List Int}:bels n (xs.map D.int)=true:=Gq λ_ _=>ZPX
theorem Ci (h:bel G.length d=true):tidy G (.ok d G)=.ok d G:=by unfold tidy;simp [h]
theorem Q6 (h:bel G.length d=true):tidy G (.ok d (G++L))=.ok d G:=by unfold tidy;simp [h]
theorem ZCP (L:DH) (hk:L[k]? =some (.lst ds)) (h:bels G.length ds=true):tidy G (.ok (.ref (G.length + k)) (G++L))=.ok (.ref G.length) (G++ [.lst ds]):=by
 unfold tidy;have e:(G++L)[G.length + k]? =some (.lst ds):=by rw [zG (by lia)];simpa using hk
 simp [e,Mp,h]
theorem Fo (h:bels G.length ds=true):tidy G (.ok (.ref G.length) (G++ .lst ds::L))=.ok (.ref G.length) (G++ [.lst ds]):=ZCP (.lst ds::L) (k:=0) rfl h
theorem Mm (h:bel G.length d=true):freeze G (.ok d G)=.ok d G:=by unfold freeze;simp [h,Er]
theorem W8 {n:Nat} :∀{ds:List D},bels n ds=true->Jw (Er G' n (k + 1)) ds=some ds
 | [],_=>rfl
 | d::ds,h=>by simp only [ZKo,zF] at h;unfold Jw;rw [W8 h.2];simp [Er,h.1]
theorem ZOe (L:DH) (hk:L[k]? =some (.lst ds)) (h:bels G.length ds=true):freeze G (.ok (.ref (G.length + k)) (G++L))=.ok (.fl ds) G:=by
 unfold freeze;have e:(G++L)[G.length + k]? =some (.lst ds):=by rw [zG (by lia)];simpa using hk
 have m:Er (G++L) G.length 9 (.ref (G.length + k))=some (.fl ds):=by unfold Er;simp [e,W8 h]
 simp [m]
theorem Ga (h:bels G.length ds=true):freeze G (.ok (.ref G.length) (G++ .lst ds::L))=.ok (.fl ds) G:=ZOe (.lst ds::L) (k:=0) rfl h
theorem Vx (L:DH) (k:Nat):(G++L)[G.length + k]? =L[k]? :=by rw [zG (by lia)];simp
theorem Dy (L:DH):(G++L)[G.length]? =L[0]? :=Vx L 0
theorem ZBd (L:DH) (k:Nat) (o:DO):(G++L).set (G.length + k) o=G++L.set k o:=by rw [jE _ _ (by lia)];simp
theorem Fl (L:DH) (o:DO):(G++L).set G.length o=G++L.set 0 o:=ZBd L 0 o
theorem Im {lo:Int}:Bs lo 0= []:=id rfl
theorem Hw {lo:Int} {n:Nat}:Bs lo (n + 1)=.int lo::Bs (lo + 1) n:=by
 unfold Bs;rw [qC,zC,qO]
 congr 1
 ·simp
 ·apply qQ;intro k _;simp only [Function.comp]
  congr 1
  lia
end
section
variable {G:DH} {i j:Int} {x y:Str} {k l:Bool}
@[simp] theorem ev_add:Ar (.int i) (.int j) G=.ok (.int (i + j)) G:=id rfl
@[simp] theorem ZRO:Ar (.str x) (.str y) G=if x.length + y.length<=1000000 then .ok (.str (x++y)) G else .bad:=id rfl
@[simp] theorem ev_ip:Lj (.int i) (.int j) G=.ok (.int (i + j)) G:=id rfl
@[simp] theorem ev_sub:Fy (.int i) (.int j) G=.ok (.int (i - j)) G:=id rfl
theorem log2_small {n:Nat} (h:n < 10 ^ 100):n.log2 < 9000:=by
 by_cases hn:n=0
 ·subst hn;decide
 ·rw [Nat.log2_lt hn];exact Nat.lt_trans h (by decide)
@[simp] theorem ZRN {n:Nat} [NeZero n] (h:n < 10 ^ 100):Cz (.int i) (.int (no_index (OfNat.ofNat n))) G=.ok (.int (i / OfNat.ofNat n)) G:=
 if_pos ⟨Int.ofNat_lt.mpr (Nat.pos_of_ne_zero (NeZero.ne n)),log2_small h⟩
@[simp] theorem ev_mod:Bj (.int i) (.int j) G=if 0 < j then .ok (.int (i % j)) G else .bad:=id rfl
@[simp] theorem ev_pow:Jq (.int i) (.int j) G=if 0<=j/\j<=1000000/\i.natAbs < 18446744073709551616 then .ok (.int (i ^ j.toNat)) G else .bad:=id rfl
@[simp] theorem ev_lt:Ig (.int i) (.int j) G=.ok (.bl (decide (i < j))) G:=id rfl
@[simp] theorem ev_le:Va (.int i) (.int j) G=.ok (.bl (decide (i<=j))) G:=id rfl
@[simp] theorem ev_gt:Lq (.int i) (.int j) G=.ok (.bl (decide (j < i))) G:=id rfl
@[simp] theorem ev_ge:Xm (.int i) (.int j) G=.ok (.bl (decide (j<=i))) G:=id rfl
@[simp] theorem ev_eq:Dw (.int i) (.int j) G=.ok (.bl (decide (i=j))) G:=id rfl
@[simp] theorem ev_ne:Nh (.int i) (.int j) G=.ok (.bl (!decide (i=j))) G:=id rfl
@[simp] theorem ev_eqS:Dw (.str x) (.str y) G=.ok (.bl (decide (x=y))) G:=id rfl
@[simp] theorem ev_neg:U3 (.int i) G=.ok (.int (-i)) G:=id rfl
@[simp] theorem ev_is:W3 d .non G=.ok (.bl (Ly d)) G:=by cases d <;> exact id rfl
@[simp] theorem ZRB:Mh d .non G=.ok (.bl (!Ly d)) G:=by cases d <;> exact id rfl
@[simp] theorem ZQx:Ly .non=true:=id rfl
@[simp] theorem ZQi:Ly (.int i)=false:=id rfl
@[simp] theorem ZQn:Ly (.tup ds)=false:=id rfl
@[simp] theorem ev_max:Wb [.int i,.int j] G=.ok (.int (max i j)) G:=by
 show R.ok (D.int (if j > i then j else i)) G=_
 congr 2
 split <;> lia
@[simp] theorem ev_min:Mx [.int i,.int j] G=.ok (.int (min i j)) G:=by
 show R.ok (D.int (if j < i then j else i)) G=_
 congr 2
 split <;> lia
@[simp] theorem ZRL:Cj (.tup ds) G=some ds:=id rfl
@[simp] theorem ZQ8:Cj (.fl ds) G=some ds:=id rfl
@[simp] theorem ZHc {n:Nat}:Cj (.ref n) G=(match G[n]? with | some (.lst xs)=>some xs | _=>none):=id rfl
@[simp] theorem ZQy:De [.tup ds] G=.ok (.int ds.length) G:=id rfl
@[simp] theorem ZQl:De [.fl ds] G=.ok (.int ds.length) G:=id rfl
@[simp] theorem ev_ixT:Aj (.tup ds) (.int i) G=(match atI ds i with | some v=>.ok v G | none=>.bad):=id rfl
@[simp] theorem ev_ixF:Aj (.fl ds) (.int i) G=(match atI ds i with | some v=>.ok v G | none=>.bad):=id rfl
@[simp] theorem ev_ixR {n:Nat}:Aj (.ref n) (.int i) G=(match G[n]? with | some (.lst xs)=>(match atI xs i with | some v=>.ok v G | none=>.bad) | _=>.bad):=by
 unfold Aj;simp only [ZHc];cases G[n]? with
 | none=>rfl
 | some o=>cases o <;> rfl
theorem Jf {n k:Nat} (h:k < n):ixN n (k:Int)=some k:=by unfold ixN;rw [if_pos (by lia),if_pos (by lia)];simp
theorem ZIz {xs:List α} {k:Nat} {d:α} (h:xs[k]? =some d):atI xs (k:Int)=some d:=by unfold atI;rw [Jf (zD.mp h).1];exact h
theorem Eo {xs:List α} {j:Int} {k:Nat} {d:α} (e:j=k) (h:xs[k]? =some d):atI xs j=some d:=by subst e;exact ZIz h
theorem ZP7 {xs:List α} {j:Int} (h0:j < 0) (h: -(xs.length:Int)<=j):atI xs j=some (xs[(j + xs.length).toNat]'(by lia)):=by unfold atI ixN;rw [if_neg (by lia),if_pos h];exact zZ (by lia)
@[simp] theorem atI_0 {a:α} {xs:List α}:atI (a::xs) 0=some a:=Eo (k:=0) rfl rfl
@[simp] theorem atI_1 {a b:α} {xs:List α}:atI (a::b::xs) 1=some b:=Eo (k:=1) rfl rfl
@[simp] theorem atI_2 {a b c:α} {xs:List α}:atI (a::b::c::xs) 2=some c:=Eo (k:=2) rfl rfl
@[simp] theorem atI_3 {a b c d:α} {xs:List α}:atI (a::b::c::d::xs) 3=some d:=Eo (k:=3) rfl rfl
@[simp] theorem atI_4 {a b c d e:α} {xs:List α}:atI (a::b::c::d::e::xs) 4=some e:=Eo (k:=4) rfl rfl
@[simp] theorem atI_5 {a b c d e f:α} {xs:List α}:atI (a::b::c::d::e::f::xs) 5=some f:=Eo (k:=5) rfl rfl
@[simp] theorem atI_6 {a b c d e f g:α} {xs:List α}:atI (a::b::c::d::e::f::g::xs) 6=some g:=Eo (k:=6) rfl rfl
@[simp] theorem ZQq:Bo ds G=if ds.length<=1000000 then .ok (.tup ds) G else .bad:=id rfl
@[simp] theorem ZRM:Aq ds G=if ds.length<=1000000 then .ok (.ref G.length) (G++ [.lst ds]) else .bad:=id rfl
@[simp] theorem ZQo:Fd [.fl ds] G=.ok (.tup ds) G:=id rfl
@[simp] theorem ZQU {n:Nat}:Fd [.ref n] G=(match G[n]? with | some (.lst xs)=>.ok (.tup xs) G | _=>.bad):=by
 unfold Fd;simp only [ZHc];cases G[n]? with
 | none=>rfl
 | some o=>cases o <;> rfl
@[simp] theorem ev_itT:Hu (.tup ds) G=.ok (.pure ds) G:=id rfl
@[simp] theorem ev_itF:Hu (.fl ds) G=.ok (.pure ds) G:=id rfl
@[simp] theorem ZQp:rng1 [.int j] G=if inR j then .ok (.pure (Bs 0 j.toNat)) G else .bad:=id rfl
theorem Fq (h0: -1000000000<=i) (h:i<=1000000000):inR i:=⟨by lia,by lia⟩
@[simp] theorem ZRP:isL (.fl ds) G=true:=id rfl
@[simp] theorem ZRR {n:Nat}:isL (.ref n) G=(match G[n]? with | some (.lst _)=>true | _=>false):=id rfl
@[simp] theorem ev_app {n:Nat} :Fj (.ref n) [d] G=(match G[n]? with | some (.lst xs)=>if xs.length < 1000000 then .ok .non (G.set n (.lst (xs++ [d]))) else .bad | _=>.bad):=id rfl
@[simp] theorem ZQW {n:Nat} :Lg (.ref n) (.int i) d G=(match G[n]? with | some (.lst xs)=>(match ixN xs.length i with | some j=>.ok .non (G.set n (.lst (xs.set j d))) | none=>.bad) | _=>.bad):=id rfl
@[simp] theorem ZI8 {ks:List Bool}:Rc [.fl (ks.map D.bl)] G=.ok (.bl (ks.all id)) G:=by simp [Rc]
@[simp] theorem ZQm:Iu [d,.ty "int"] G=(match tyD G d with | some .int=>.ok (.bl true) G | some .bl=>.ok (.bl true) G | some _=>.ok (.bl false) G | none=>.bad):=by
 unfold Iu;dsimp only;cases tyD G d with
 | none=>rfl
 | some t=>cases t <;> rfl
@[simp] theorem ZQr:Iu [d,.ty "bool"] G=(match tyD G d with | some .bl=>.ok (.bl true) G | some _=>.ok (.bl false) G | none=>.bad):=by
 unfold Iu;dsimp only;cases tyD G d with
 | none=>rfl
 | some t=>cases t <;> rfl
@[simp] theorem ZQV:Iu [d,.ty "tuple"] G=(match tyD G d with | some .tup=>.ok (.bl true) G | some _=>.ok (.bl false) G | none=>.bad):=by
 unfold Iu;dsimp only;cases tyD G d with
 | none=>rfl
 | some t=>cases t <;> rfl
@[simp] theorem ZRG:tyD G (.int i)=some .int:=id rfl
@[simp] theorem ZQ0:tyD G (.tup ds)=some .tup:=id rfl
end
section
variable {c:Prop} [Decidable c]
@[simp] theorem ite_ok {a b:α} :(if c then R.ok a G else R.ok b G)=R.ok (if c then a else b) G:=by split <;> rfl
end
def Ha:D->Option Key
 | .int i=>some (.inl i)
 | .str x=>some (.inr x)
 | _=>none
section
variable {X:Cx} {E:XK}
end
section
variable {S:DSt} {G:DH} {n:Nat} {kvs:List (Key×D)}
end
noncomputable def cutD {α:Type} (xs:List α) (lo hi:Option Int):List α:=(xs.drop (HT.sIx xs.length 0 lo)).take (HT.sIx xs.length xs.length hi - HT.sIx xs.length 0 lo)
def Tc (z:Str) (lo hi:Option Int):Str:=⟨(cutD z.cps.toList lo hi).toArray⟩
theorem ZO9 (xs:List α) (lo hi:Option Int):(cutD xs lo hi).length<=xs.length:=by unfold cutD;rw [j0,jC];lia
noncomputable def Pj (t:Option DE) (S:DSt) (G:DH):R (Option Int):=match t with
 | none=>.ok none G
 | some t=>(t S G).bind λd G1=>match d with
  | .int i=>.ok (some i) G1
  | _=>.bad
noncomputable def ZAo (d:D) (lo hi:Option Int) (G:DH):R D:=match d with
 | .str z=>if z.length<=1000000 then .ok (.str (Tc z lo hi)) G else .bad
 | .tup xs=>.ok (.tup (cutD xs lo hi)) G
 | d=>match Ip d G with
  | some xs=>.ok (.ref G.length) (G++ [.lst (cutD xs lo hi)])
  | none=>.bad
noncomputable def dSl (e:DE) (lo hi:Option DE):DE:=λS G=>(e S G).bind λd G1=>(Pj lo S G1).bind λl G2=>(Pj hi S G2).bind λh G3=>ZAo d l h G3
theorem Xr (n:Nat) (v:Int):((HT.sIx n n (some v):Nat):Int)=max 0 (min (if v < 0 then v + (n:Int) else v) n)/\((HT.sIx n 0 (some v):Nat):Int)=max 0 (min (if v < 0 then v + (n:Int) else v) n):=by
 unfold HT.sIx;by_cases hv:v < 0
 ·simp only [if_pos hv];lia
 ·simp only [if_neg hv];lia
theorem ZNi (xs:Array Nat) (i k:Nat):(zX k).filterMap (λm=>xs[i + m]?)=(xs.toList.drop i).take k:=by
 induction k generalizing i with
 | zero=>simp
 | succ k ih=>
  rw [qC,qY];have e:(List.map Nat.succ (zX k)).filterMap (λm=>xs[i + m]?)=(zX k).filterMap (λm=>xs[i + 1 + m]?):=by
   rw [qV]
   congr 1
   funext m;simp only [Function.comp]
   congr 1
   lia
  rw [e,ih (i + 1)];by_cases hi:i < xs.size
  ·have h1:xs[i + 0]? =some xs[i]:=by simp [hi]
   rw [h1];have h2:xs.toList.drop i=xs[i]::xs.toList.drop (i + 1):=by rw [zM (by simpa using hi)];simp
   rw [h2];simp
  ·have h1:xs[i + 0]? =none:=by simp;lia
   rw [h1];simp only;rw [zO (by simp;lia),zO (by simp;lia)];simp
theorem ZNC (x:Str) (lo hi:Option Int):Txt.slice x lo hi=Tc x lo hi:=by
 have hlen:x.length=x.cps.toList.length:=by simp [Str.length]
 have key:(Builtin.Str.strSliceIndices lo hi 1 x.length).filterMap (x.cps[·]?)=cutD x.cps.toList lo hi:=by
  have e1:∀(v:Option Int),(match v with | none=>(0:Int) | some i=>max 0 (min (if i < 0 then i + (x.length:Int) else i) x.length))=((HT.sIx x.length 0 v:Nat):Int):=λv=>by
   cases v with
   | none=>rfl
   | some i=>exact (Xr x.length i).2.symm
  have e2:∀(v:Option Int),(match v with | none=>(x.length:Int) | some i=>max 0 (min (if i < 0 then i + (x.length:Int) else i) x.length))=((HT.sIx x.length x.length v:Nat):Int):=λv=>by
   cases v with
   | none=>rfl
   | some i=>exact (Xr x.length i).1.symm
  have e3:Builtin.Str.strSliceIndices lo hi 1 x.length=sliceRange ((HT.sIx x.length 0 lo:Nat):Int) ((HT.sIx x.length x.length hi:Nat):Int) 1:=by
   rw [<-e1 lo,<-e2 hi];unfold Builtin.Str.strSliceIndices
   cases lo <;> cases hi <;> simp
  rw [e3];unfold sliceRange cutD;rw [qV,<-hlen];generalize HT.sIx x.length 0 lo=i;generalize HT.sIx x.length x.length hi=j;have e4:((λa=>x.cps[a]?) ∘ λ(k:Nat)=>((i:Int) + 1 * (k:Int)).toNat)=λk=>x.cps[i + k]? :=by
   funext k;simp only [Function.comp]
   congr 1
   lia
  have e5:(if (1:Int) > 0 then if (i:Int) < (j:Int) then ((j:Int) - i + 1 - 1) / 1 else 0 else if (i:Int) > (j:Int) then ((i:Int) - j - 1 - 1) / -1 else 0).toNat=j - i:=by
   rw [if_pos (by lia)];split
   ·rw [Int.ediv_one];lia
   ·lia
  rw [e4,e5];exact ZNi x.cps i (j - i)
 unfold Txt.slice Tc;split
 ·rename_i h;have h':(Builtin.Str.strSliceIndices lo hi 1 x.length).length=x.length:=by simpa using h
  have hsz:(cutD x.cps.toList lo hi).length=x.cps.toList.length∨(cutD x.cps.toList lo hi).length < x.cps.toList.length:=by have:=ZO9 x.cps.toList lo hi;lia
  have hall:(cutD x.cps.toList lo hi).length=x.cps.toList.length:=by
   have e3:(Builtin.Str.strSliceIndices lo hi 1 x.length).length=HT.sIx x.length x.length hi - HT.sIx x.length 0 lo:=by
    have e1:∀(v:Option Int),(match v with | none=>(0:Int) | some i=>max 0 (min (if i < 0 then i + (x.length:Int) else i) x.length))=((HT.sIx x.length 0 v:Nat):Int):=λv=>by
     cases v with
     | none=>rfl
     | some i=>exact (Xr x.length i).2.symm
    have e2:∀(v:Option Int),(match v with | none=>(x.length:Int) | some i=>max 0 (min (if i < 0 then i + (x.length:Int) else i) x.length))=((HT.sIx x.length x.length v:Nat):Int):=λv=>by
     cases v with
     | none=>rfl
     | some i=>exact (Xr x.length i).1.symm
    have e3:Builtin.Str.strSliceIndices lo hi 1 x.length=sliceRange ((HT.sIx x.length 0 lo:Nat):Int) ((HT.sIx x.length x.length hi:Nat):Int) 1:=by
     rw [<-e1 lo,<-e2 hi];unfold Builtin.Str.strSliceIndices
     cases lo <;> cases hi <;> simp
    rw [e3];unfold sliceRange;rw [zT,List.length_range];generalize HT.sIx x.length 0 lo=i;generalize HT.sIx x.length x.length hi=j;rw [if_pos (by lia)];split
    ·rw [Int.ediv_one];lia
    ·lia
   have hj:HT.sIx x.length x.length hi<=x.length:=HT.ZF6 _ _ (zK _) hi;unfold cutD;rw [j0,jC,<-hlen];lia
  have hs:(cutD x.cps.toList lo hi).Sublist x.cps.toList:=(List.take_sublist _ _).trans (List.drop_sublist _ _);rw [hs.eq_of_length hall]
 ·rw [key]
section
variable {X:Cx} {E:XK}
theorem ZLJ:SlR X (λx lo hi H Q=>∃z:Str,x=.str z/\z.length<=sizeLine/\Q (.str (Tc z lo hi)) H):=by
 intro pins s σ H x v vl vu lo hi sl Q I rx hs pl pu h;obtain ⟨z,rfl,hz,q⟩:=h;obtain ⟨t,rfl⟩:=rx;refine ⟨"str",_,PySem.F.slot_str_getitem.lookup,typeIs_str _ _ _,?_⟩
 have fin:∀(l u:Option (Int×Tok)),vl=partValue l->vu=partValue u->l.map (·.1)=lo->u.map (·.1)=hi->wpAny (model X.prog X.w) X.A (getItem (.str z t) (.ref sl)) (EP X pins σ Q) X.xe s:=by
  rintro l u rfl rfl rfl rfl
  refine wpAny_getItem_str_slice (l:=l) (u:=u) (st:=none) (show s.heap.IsSlice sl l u none from hs) rfl ?_
  have e:∀Q',(Txt.slice z (l.map (·.1)) (u.map (·.1))).length<=sizeLine/\(∀t' k,Q' (.str (Txt.slice z (l.map (·.1)) (u.map (·.1))) t') {s with toks:=k})->(sliceMade z t l u none).post Q' s:=λQ' hq=>post_val_or_str hq
  refine e _ ⟨z5 (Txt.slice_le z _ _) hz,λt' k=> ?_⟩;rw [ZNC];exact ⟨.str _,H,I.tok k,⟨t',rfl⟩,q⟩
 cases pl with
 | none=>cases pu with
  | none=>exact fin none none rfl rfl rfl rfl
  | int j tj=>exact fin none (some (j,tj)) rfl rfl rfl rfl
 | int i ti=>cases pu with
  | none=>exact fin (some (i,ti)) none rfl rfl rfl rfl
  | int j tj=>exact fin (some (i,ti)) (some (j,tj)) rfl rfl rfl rfl
theorem ZLG {prog:Program} {E:Value->Shared->Prop} {t sl:Addr} {items:Array Value} {vl vu:Value} {lo hi:Option Int} {Q:Value->Shared->Prop} (ht:IsTup s.heap t items) (hs:s.heap.IsSliceOf sl vl vu .none) (pl:IsPart vl lo) (pu:IsPart vu hi)
  (hw:HT.sIx items.size 0 lo=0/\HT.sIx items.size items.size hi=items.size) (h:Q (.ref t) s):wpAny (model prog w) A (getItem (.ref t) (.ref sl)) Q E s:=by
 obtain ⟨os,hos,hcs,hds⟩:=id hs;have hTs:s.TypeIs (.ref sl) "slice":=⟨os,hos,hcs⟩;unfold getItem
 try with_reducible refine wpAny_holding ?_
 first | refine wpAny_bind (wpAny_pure ?_) | skip
 refine wpAny_bind (wpAny_sequenceKey ht.typeIs (by decide) ?_);refine wpAny_bind (wpAny_callSpecial?_slot (name:=Str.ofString "__getitem__") ht.typeIs PyProof.Rows.slot_tuple_getitem
  (wpAny_call_entry PyProof.Rows.slot_tuple_getitem ht.typeIs entry_tuple_getitem ?_ (args_tuple_getitem _ _)))
 show wpAny _ _ (Builtin.Tuple.tupleItemsOf (.ref t) >>=_) _ _ s;refine wpAny_bind (tupleItemsOf_ ht ?_);refine wpAny_bind (wpAny_typeOf hTs ?_);rw [if_pos (by decide)];refine wpAny_bind (HT.ZEv hs pl pu ?_);have hyes:(((HT.sIx items.size 0 lo:Nat):Int) == 0 && (1:Int) == 1 && (HT.sIx items.size items.size hi - HT.sIx items.size 0 lo) == items.size)=true:=by rw [hw.1,hw.2];simp
 show wpAny _ _ (if (((HT.sIx items.size 0 lo:Nat):Int) == 0 && (1:Int) == 1 && (HT.sIx items.size items.size hi - HT.sIx items.size 0 lo) == items.size)=true then _ else _) _ _ s;rw [if_pos hyes];refine wpAny_bind ?_;unfold Builtin.Tuple.tupleIsExact;refine wpAny_bind (wpAny_typeOf ht.typeIs (wpAny_pure ?_));rw [if_pos (by decide)];exact wpAny_bind (wpAny_rule (wpAny_pure ⟨_,rfl,wpAny_pure h⟩))
theorem ZNR:SlR X (λx lo hi H Q=>∃a xs,x=.ref a/\SqT X.K H a xs/\(HT.sIx xs.length 0 lo=0/\HT.sIx xs.length xs.length hi=xs.length)/\Q (.ref a) H):=by
 intro pins s σ H x v vl vu lo hi sl Q I rx hs pl pu h;obtain ⟨a,xs,rfl,hx,hw,q⟩:=h;cases rx;obtain ⟨its,r,ht,hz⟩:=I.tuple hx;have hlen:its.toArray.size=xs.length:=by rw [zY];exact r.length.symm
 exact ⟨"tuple",_,PyProof.Rows.slot_tuple_getitem.lookup,ht.typeIs,ZLG ht hs pl pu (by rw [hlen];exact hw) ⟨.ref a,H,I,rfl,q⟩⟩
noncomputable def Oi (E:XK) (a:Wd) (r:R (Option Int)) (Q:Option Int->Hp->Prop):Prop:=match r with
 | .ok k G=>∀(b:Wd),Ext a b->Sim b G->Q k b.H
 | .err x G=>XOk E a x G
 | .bad=>False
noncomputable def QO (X:Cx) (E:XK) (e:Option Expr) (t:Option DE):Prop:=PO X e (λσ H Q=>∃(a:Wd) (S:DSt) (G:DH),a.K=X.K/\a.H=H/\Sim a G/\RepS a S σ/\Oi E a (Pj t S G) Q)
theorem _root_.L2.PO.mono {e:Option Expr} {t t':TO} (h:PO X e t) (w:∀σ H Q,t' σ H Q->t σ H Q):PO X e t':=λpins s σ H Q I q=>h pins s σ H Q I (w σ H Q q)
theorem ZKh:QO X E none none:=ZJY.mono λσ H Q h=>by obtain ⟨a,S,G,hk,rfl,s,r,h⟩:=h;exact h a (Ext.refl a) s
theorem ZN8 (he:QE X E e t):QO X E (some e) (some t):=(ZP2 he).mono λσ H Q h=>by
 obtain ⟨a,S,G,hk,rfl,s,r,h⟩:=h;refine ⟨a,S,G,hk,rfl,s,r,?_⟩
 have h':Oi E a ((t S G).bind λd G1=>match d with | .int i=>.ok (some i) G1 | _=>.bad) Q:=h
 cases ht:t S G with
 | ok d G1=>
  rw [ht] at h';intro b v x sb rv;cases d with
  | int i=>exact ⟨i,rv,h' b x sb⟩
  | _=>exact h'.elim
 | err x G1=>rw [ht] at h';exact h'
 | bad=>rw [ht] at h';exact h'
theorem Reps.cutD (r:Reps a ds vs) (lo hi:Option Int):Reps a (DL.cutD ds lo hi) (Lp vs lo hi):=by unfold DL.cutD Lp;rw [r.length];exact (r.drop _).take _
theorem Oi.imp {r:R (Option Int)} {Q Q':Option Int->Hp->Prop} (h:Oi E a r Q) (w:∀v H,Q v H->Q' v H):Oi E a r Q':=by
 cases r with
 | ok d G=>exact λb x s=>w _ _ (h b x s)
 | err e G=>exact h
 | bad=>exact h
theorem ZIJ {r:R (Option Int)} {f:Option Int->DH->R D} (h:out E a (r.bind f) Q):
  Oi E a r (λk H=>∃(b:Wd) (G:DH),b.H=H/\Ext a b/\Sim b G/\r=.ok k G/\out E b (f k G) Q):=by
 cases r with
 | ok d G=>exact λb x s=>⟨b,G,rfl,x,s,rfl,out.mono x h⟩
 | err e G=>exact h
 | bad=>exact h
theorem ZPr {lo hi:Option Expr} {tl th:Option DE} {p2 pos:Pos} (he:QE X E e te) (hl:QO X E lo tl) (hu:QO X E hi th):QE X E (.Subscript e (.Slice lo hi none p2) pos) (dSl te tl th):=
 (ZOB (ZOg.or (ZLM.or (ZNR.or ZLJ))) he hl hu).mono λσ H Q h=>by
 obtain ⟨a,S,G,hk,rfl,s,r,h⟩:=h;refine ⟨a,S,G,hk,rfl,s,r,(Gw h).imp ?_⟩;rintro v _ ⟨b,d,G1,rfl,x,s1,q,_,h1⟩;refine ⟨b,S,G1,x.k.trans hk,rfl,s1,r.mono x,(ZIJ h1).imp ?_⟩;rintro l _ ⟨c,G2,rfl,y,s2,_,h2⟩;refine ⟨c,S,G2,y.k.trans (x.k.trans hk),rfl,s2,(r.mono x).mono y,(ZIJ h2).imp ?_⟩;rintro u _ ⟨c3,G3,rfl,y3,s3,_,h3⟩;have hk3:=y3.k.trans (y.k.trans (x.k.trans hk));have q3:=(q.mono y).mono y3
 have lst:out E c3 (match Ip d G3 with | some xs=>.ok (.ref G3.length) (G3++ [.lst (cutD xs l u)]) | none=>.bad) Q->rSlL X.K v l u c3.H Q:=λh3=>by
  split at h3
  ·rename_i xs hx;obtain ⟨p,vs,e1,q1,r1⟩:=T6 s3 q3 hx;exact ⟨p,vs,e1,by rw [<-hk3];exact q1,λp hp=>M5 s3 (Reps.cutD r1 l u) h3 p hp⟩
  ·exact h3.elim
 cases d with
 | str z=>
  have h4:out E c3 (if z.length<=1000000 then .ok (.str (Tc z l u)) G3 else .bad) Q:=h3;split at h4
  ·rename_i hl
   cases (show v=V.str z from q3)
   exact .inr (.inr (.inr ⟨z,rfl,z5 hl size6,h4 c3 _ (Ext.refl _) s3 rfl⟩))
  ·exact h4.elim
 | tup xs=>
  have h4:out E c3 (.ok (.tup (cutD xs l u)) G3) Q:=h3;obtain ⟨p,vs,e1,q1,r1⟩:=q3;by_cases hw:HT.sIx vs.length 0 l=0/\HT.sIx vs.length vs.length u=vs.length
  ·refine .inr (.inr (.inl ⟨p,vs,e1,by rw [<-hk3];exact q1,hw,h4 c3 _ (Ext.refl _) s3 ⟨p,vs,rfl,q1,?_⟩⟩));have:cutD xs l u=xs:=by unfold cutD;rw [r1.length,hw.1,hw.2,<-r1.length];simp
   rw [this];exact r1
  ·exact .inr (.inl ⟨p,vs,e1,by rw [<-hk3];exact q1,hw,λp hp=>ZCZ s3 (Reps.cutD r1 l u) h4 p hp⟩)
 | fl xs=>exact .inl (lst h3)
 | ref i=>exact .inl (lst h3)
 | non=>exact (show False from h3).elim
 | bl _=>exact (show False from h3).elim
 | int _=>exact (show False from h3).elim
 | ty _=>exact (show False from h3).elim
section
variable {name:Str} {id:String} {f:D->List D->DH->R D} {o e:Expr} {es:List Expr} {to:DE} {t:DA} {apos cpos:Pos}
end
end
section
variable {S:DSt} {G:DH}
@[simp] theorem ev_Sl {e:DE} {lo hi:Option DE}:dSl e lo hi S G=(e S G).bind λd G1=>(Pj lo S G1).bind λl G2=>(Pj hi S G2).bind λh G3=>ZAo d l h G3:=id rfl
@[simp] theorem P0 {z:Str} {i:Int}:Aj (.str z) (.int i) G=if z.length<=1000000 then (match atI z.cps.toList i with | some c=>.ok (sgn c) G | none=>.bad) else .bad:=id rfl
end
end DL
namespace DL
open PySem PySem.Spec L2
open PyProof.Rows hiding St
open Builtin.Str
variable {g:DG} {c:DB} {te:DE} {S:DSt} {G:DH}
section
variable (p:Nat->Bool) (m:Nat)
end
noncomputable def CStep (g:DG) (c:DB) (te:DE) (S:DSt) (G:DH) (x:D) (r:Option D):Prop:=
 ∃S1,g x S G=.ok S1 G/\((c S1 G=.ok false G/\r=none)∨(c S1 G=.ok true G/\∃d,te S1 G=.ok d G/\r=some d))
theorem V1 {F:D->Option D}:∀{xs:List D},(∀x∈xs,CStep g c te S G x (F x))->Dz g c te S xs G=.ok (xs.filterMap F) G
 | [],_=>rfl
 | x::xs,h=>by
  obtain ⟨S1,h1,h2⟩:=h x (by simp);have ih:=V1 (λy hy=>h y (zJ _ hy));rw [ZBK,h1];rcases h2 with ⟨h2,h3⟩ | ⟨h2,d,h3,h4⟩
  ·simp [h2,h3,ih,qY]
  ·simp [h2,h3,h4,ih,qY]
theorem ZHM {i:Nat} {F:D->Option D} {xs:List D} (hG:G[i]? =some (.lst xs)) (h:∀x∈xs,CStep g c te S G x (F x)):
  ∀(n j:Nat),j + n=xs.length->Hq i g c te S n j G=.ok ((xs.drop j).filterMap F) G
 | 0,j,hj=>by
  unfold Hq;rw [hG];simp only;rw [if_pos (by lia),zO (by lia)]
  rfl
 | n + 1,j,hj=>by
  have hlt:j < xs.length:=by lia
  have ih:=ZHM hG h n (j + 1) (by lia);obtain ⟨S1,h1,h2⟩:=h xs[j] (qJ hlt);unfold Hq;rw [hG];simp only;rw [zZ hlt];simp only [h1,R.K8];rw [zM hlt,qY];rcases h2 with ⟨h2,h3⟩ | ⟨h2,d,h3,h4⟩
  ·simp [h2,h3,ih]
  ·simp [h2,h3,h4,ih]
theorem ZEu {i:Nat} {F:D->Option D} {xs:List D} (hG:G[i]? =some (.lst xs)) (h:∀x∈xs,CStep g c te S G x (F x)):
  Hq i g c te S xs.length 0 G=.ok (xs.filterMap F) G:=ZHM hG h xs.length 0 (by lia)
theorem ZE3 {x y:Str} (h:x.cps.toList=y.cps.toList):x=y:=by obtain ⟨a⟩:=x;obtain ⟨b⟩:=y;simp only at h;rw [Array.toList_inj.mp h]
end DL
namespace DL
open PySem PySem.Spec L2
open PyProof.Rows hiding St
variable {h h':Heap} {p z:Addr} {k i:Nat} {old:Value} {os:List Value}
inductive Src where
 | l (a:Addr)
 | t (a:Addr)
variable {sr:Src} {l:List (Src×Addr)}
def Src.itn:Src->String
 | .l _=>"list_iterator"
 | .t _=>"tuple_iterator"
def Src.adr:Src->Addr
 | .l a=>a
 | .t a=>a
noncomputable def Src.it (h:Heap) (p:Addr) (k:Nat) (sr:Src):Prop:=∃o,h.get? p=some o/\o.cls=.type sr.itn/\o.data=.fields #[.ref sr.adr,.int k 0]
def Src.val (h:Heap) (xs:Array Value):Src->Prop
 | .l a=>h.IsList a xs
 | .t a=>h.IsTuple a xs
theorem Src.it.at (x:sr.it h p k) (e:∀o,h.get? p=some o->h'.get? p=some o):sr.it h' p k:=let ⟨o,ho,r⟩:=x;⟨o,e o ho,r⟩
theorem Src.val.at {xs:Array Value} (x:sr.val h xs) (e:∀o,h.get? sr.adr=some o->h'.get? sr.adr=some o):sr.val h' xs:=by
 cases sr with
 | l a=>obtain ⟨o,ho,r⟩:=x;exact ⟨o,e o ho,r⟩
 | t a=>obtain ⟨o,ho,r⟩:=x;exact ⟨o,e o ho,r⟩
theorem Src.it.lt (x:sr.it h p k):p < h.objs.size:=let ⟨_,ho,_⟩:=x;zw ho
section
variable {prog:Program} {w:World} {A:Around} {E:Value->Shared->Prop} {s:Shared}
theorem Src.val.obj {xs:Array Value} (x:sr.val h xs):∃o n,h.get? sr.adr=some o/\o.data=.seq xs n:=by
 cases sr with
 | l a=>obtain ⟨o,ho,_,n,hd⟩:=x;exact ⟨o,n,ho,hd⟩
 | t a=>obtain ⟨o,ho,_,n,hd⟩:=x;exact ⟨o,n,ho,hd⟩
theorem Src.next_item {xs:Array Value} {x:Value} {Q:Value->Shared->Prop} (hit:sr.it s.heap p k) (hv:sr.val s.heap xs) (hx:xs[k]? =some x)
  (hQ:∀h',sr.it h' p (k + 1)->qw p s.heap h'->Q x {s with heap:=h'}):wpAny (model prog w) A (Builtin.SmallTypes.nextOf (.ref p)) Q E s:=by
 cases sr with
 | l a=>exact wpAny_nextOf_list_item (show s.heap.IsListIter p a k from hit) hv hx hQ
 | t a=>
  obtain ⟨o,ho,hc,hd⟩:=id hit;obtain ⟨ol,hol,_,nl,hdl⟩:=hv;have hT:s.TypeIs (.ref p) "tuple_iterator":=⟨o,ho,hc⟩;unfold Builtin.SmallTypes.nextOf;refine wpAny_bind (wpAny_callSpecial?_slot (name:=Str.ofString "__next__") hT PySem.F.slot_tuple_iterator_next (wpAny_call_entry PySem.F.slot_tuple_iterator_next hT PySem.F.entry_tuple_iterator_next ?_ (PySem.F.args_tuple_iterator_next_1 _)));refine wpAny_bind (m:=field (.ref p) 0) (wpAny_field ho hd (x:=.ref a) rfl ?_)
  show wpAny _ _ (if (Value.ref a == Value.none)=true then _ else (field (.ref p) 1 >>=_)) _ _ s
  rw [if_neg (show¬((Value.ref a == Value.none)=true) from z0)]
  refine wpAny_bind (m:=field (.ref p) 1) (wpAny_field ho hd (x:=.int k 0) rfl (wpAny_bind (m:=seqItems? (.ref a)) (wpAny_seqItems hol hdl ?_)));simp only [Int.toNat_natCast,hx];refine wpAny_bind (wpAny_setField ho hd (by simp) (wpAny_pure ⟨x,rfl,wpAny_pure (hQ _ ⟨_,jD _ ho (Obj.isFreed_of_fields (Obj.data_mapFields hd _)),(Obj.cls_mapFields ..).trans hc,?_⟩ (qw.update ..))⟩))
  rw [Obj.data_mapFields hd];simp [rawInt,Src.adr]
theorem Src.next_end {xs:Array Value} {Q:Value->Shared->Prop} (hh:A.handled=none) (hit:sr.it s.heap p k) (hv:sr.val s.heap xs) (hx:xs[k]? =none)
  (hE:∀h' e,Heap.ExtBut p s.heap h'->(∃o,h'.get? e=some o/\o.cls=.type "StopIteration")->E (.ref e) {s with heap:=h'}):wpAny (model prog w) A (Builtin.SmallTypes.nextOf (.ref p)) Q E s:=by
 cases sr with
 | l a=>exact wpAny_nextOf_list_end hh (show s.heap.IsListIter p a k from hit) hv hx hE
 | t a=>
  obtain ⟨o,ho,hc,hd⟩:=id hit;obtain ⟨ol,hol,_,nl,hdl⟩:=hv;have hT:s.TypeIs (.ref p) "tuple_iterator":=⟨o,ho,hc⟩;unfold Builtin.SmallTypes.nextOf;refine wpAny_bind (wpAny_callSpecial?_slot (name:=Str.ofString "__next__") hT PySem.F.slot_tuple_iterator_next (wpAny_call_entry PySem.F.slot_tuple_iterator_next hT PySem.F.entry_tuple_iterator_next ?_ (PySem.F.args_tuple_iterator_next_1 _)));refine wpAny_bind (m:=field (.ref p) 0) (wpAny_field ho hd (x:=.ref a) rfl ?_)
  show wpAny _ _ (if (Value.ref a == Value.none)=true then _ else (field (.ref p) 1 >>=_)) _ _ s
  rw [if_neg (show¬((Value.ref a == Value.none)=true) from z0)]
  refine wpAny_bind (m:=field (.ref p) 1) (wpAny_field ho hd (x:=.int k 0) rfl (wpAny_bind (m:=seqItems? (.ref a)) (wpAny_seqItems hol hdl ?_)));simp only [Int.toNat_natCast,hx];refine wpAny_bind (wpAny_rule (wpAny_bind (wpAny_setField ho hd (by simp) (wpAny_bind (m:=newExc (.type "StopIteration") []) ?_))));simp only [newExc,newTuple]
  refine wpAny_bind (wpAny_newObj_type (wpAny_bind (m:=firstArgMember _ _) (wpAny_of_eq (a:=Value.none) (by first | rfl | (simp only [firstArgMember];rfl)) (wpAny_newObj_type ?_ (by size_fits)))) (by size_fits))
  simp only [raiseNew];refine wpAny_bind (wpAny_handled ?_)
  first | rw [show A.in1.handled=none from hh] | rw [hh]
  exact wpAny_bind (wpAny_pure (wpAny_throw (hE _ _ (((qw.update ..).extBut.push _).push _) ⟨_,zy _ rfl,rfl⟩)))
theorem Src.iter {xs:Array Value} {Q:Value->Shared->Prop} (hv:sr.val s.heap xs)
  (hQ:Q (.ref s.heap.objs.size) {s with heap:=s.heap.push {cls:=.type sr.itn,data:=.fields #[.ref sr.adr,.int 0 0]}}):wpAny (model prog w) A (pyIter (.ref sr.adr)) Q E s:=by
 cases sr with
 | l a=>exact wpAny_pyIter_list hv hQ
 | t a=>exact wpAny_pyIter_tuple hv hQ
end
noncomputable abbrev En (h:Heap) (e it:Addr) (f0:Value) (i:Int) (g old:Value):Prop:=
 h.get? e=some {cls:=.type "enumerate",dict:=none,data:=.fields #[f0,.bool false,.ref it,rawInt i,g,old],slots:= #[]}
def Gv (i:Int) (g:Value):Prop:=g=.none∨∃t,g=.int i t
section
variable {prog:Program} {w:World} {A:Around} {E:Value->Shared->Prop} {s:Shared}
theorem ZLn {e it:Addr} {i:Int} {xs:Array Value} {x g:Value} {Q:Value->Shared->Prop} (he:En s.heap e it .none i g old) (hg:Gv i g) (hit:sr.it s.heap it k) (hv:sr.val s.heap xs) (hx:xs[k]? =some x) (hne:e≠it)
  (hQ:∀h' t tk,En h' e it (rawInt s.heap.objs.size) (i + 1) .none x->sr.it h' it (k + 1)->h'.get? s.heap.objs.size=some {cls:=.type "tuple",data:=.seq #[.int i t,x]}->h'.objs.size=s.heap.objs.size + 1->
   (∀b o,b≠e->b≠it->s.heap.get? b=some o->h'.get? b=some o)->Q (.ref s.heap.objs.size) {s with heap:=h',toks:=tk}):
  wpAny (model prog w) A (Builtin.«enumerate.__next__» ⟨[.ref e],[]⟩) (λfin s'=>∃v,fin=.done (.ret v)/\Q v s') E s:=by
 obtain ⟨hp,gg,d,tk,os⟩:=s;refine wpAny_bind (m:=field (.ref e) 2) (wpAny_field he rfl (x:=.ref it) rfl (wpAny_bind (m:=Builtin.SmallTypes.nextOf (.ref it)) (Src.next_item hit hv hx λh₁ hit₁ hs₁=> ?_)));have he₁:En h₁ e it .none i g old:=(hs₁.2 e hne).trans he;have k₁:∀b o,b≠e->b≠it->hp.get? b=some o->h₁.get? b=some o:=λb o _ hb q=>hs₁.extBut b o hb q
 have z₁:h₁.objs.size=hp.objs.size:=hs₁.1;refine wpAny_bind (m:=field (.ref e) 3) (wpAny_field he₁ rfl (x:=rawInt i) rfl ?_);refine wpAny_bind (m:=field (.ref e) 4) (wpAny_field he₁ rfl (x:=g) rfl ?_)
 have rest:∀(t:Tok) (tk':Nat),wpAny (model prog w) A (do
   setField (.ref e) 3 (rawInt (i + 1));setField (.ref e) 4 .none
   let result<-newTuple [.int i t,x]
   if<-Builtin.SmallTypes.ownedTupleIsFree (.ref e) then
    rule "enumerate.__next__.owned-tuple-again"
    let old<-field (.ref e) 5
    setField (.ref e) 5 x
    Builtin.SmallTypes.ownedTupleHandOut (.ref e) result
    PySem.letGo [old] [result]
   ret result) (λfin s'=>∃v,fin=.done (.ret v)/\Q v s') E ⟨h₁,gg,d,tk',os⟩:=by
  intro t tk';refine wpAny_bind (wpAny_setField_rec he₁ (by simp) λh₂ he₂ hs₂=> ?_);refine wpAny_bind (wpAny_setField_rec he₂ (by simp) λh₃ he₃ hs₃=> ?_)
  replace he₃:En h₃ e it .none (i + 1) .none old:=he₃
  have z₃:h₃.objs.size=hp.objs.size:=by rw [hs₃.1];show h₂.objs.size=_;rw [hs₂.1];exact z₁
  have k₃:∀b o,b≠e->b≠it->hp.get? b=some o->h₃.get? b=some o:=λb o h1 h2 q=>hs₃.extBut b o h1 (hs₂.extBut b o h1 (k₁ b o h1 h2 q))
  have i₃:sr.it h₃ it (k + 1):=(hit₁.at λo q=>hs₂.extBut it o (Ne.symm hne) q).at λo q=>hs₃.extBut it o (Ne.symm hne) q
  refine wpAny_bind (wpAny_newTuple ?_);generalize hh₄:h₃.push {cls:=.type "tuple",data:=.seq [Value.int i t,x].toArray}=h₄;have he₄:En h₄ e it .none (i + 1) .none old:=by rw [<-hh₄];exact zQ _ he₃
  have ht₄:h₄.get? hp.objs.size=some {cls:=.type "tuple",data:=.seq #[.int i t,x]}:=by rw [<-hh₄,<-z₃];exact zy _ rfl
  have z₄:h₄.objs.size=hp.objs.size + 1:=by rw [<-hh₄,qj,z₃]
  have k₄:∀b o,b≠e->b≠it->hp.get? b=some o->h₄.get? b=some o:=λb o h1 h2 q=>by rw [<-hh₄];exact zQ _ (k₃ b o h1 h2 q)
  have i₄:sr.it h₄ it (k + 1):=i₃.at λo q=>by rw [<-hh₄];exact zQ _ q
  have ez:e < hp.objs.size:=zw he;refine wpAny_bind (m:=Builtin.SmallTypes.ownedTupleIsFree (.ref e)) ?_;unfold Builtin.SmallTypes.ownedTupleIsFree;refine wpAny_bind (wpAny_field he₄ rfl (x:=.none) rfl (wpAny_pure ?_));simp only [if_true];refine wpAny_bind (wpAny_rule (wpAny_bind (wpAny_field he₄ rfl (x:=old) rfl (wpAny_bind (wpAny_setField_rec he₄ (by simp) λh₅ he₅ hs₅=> ?_)))))
  replace he₅:En h₅ e it .none (i + 1) .none x:=he₅
  refine wpAny_bind (m:=Builtin.SmallTypes.ownedTupleHandOut _ _) ?_;unfold Builtin.SmallTypes.ownedTupleHandOut;refine wpAny_bind (wpAny_setField_rec he₅ (by simp) λh₆ he₆ hs₆=> ?_);refine wpAny_setField_rec he₆ (by simp) λh₇ he₇ hs₇=> ?_
  refine wpAny_bind (wpAny_letGo (wpAny_pure ⟨_,rfl,?_⟩));have up:∀b o,b≠e->h₄.get? b=some o->h₇.get? b=some o:=λb o hb q=>hs₇.extBut b o hb (hs₆.extBut b o hb (hs₅.extBut b o hb q))
  show Q (.ref h₃.objs.size) _;rw [z₃];rw [z₃] at he₇;exact hQ h₇ t tk' he₇ (i₄.at λo q=>up it o (Ne.symm hne) q) (up _ _ (qN ez) ht₄) (by rw [hs₇.1];show h₆.objs.size=_;rw [hs₆.1];show h₅.objs.size=_;rw [hs₅.1];exact z₄) λb o h1 h2 q=>up b o h1 (k₄ b o h1 h2 q)
 rcases hg with rfl | ⟨t,rfl⟩
 ·exact wpAny_bind (m:=mkInt i) (wpAny_mkInt (rest tk (tk + 1)))
 ·exact wpAny_bind (m:=(pure (Value.int i t):Sem Value)) (wpAny_pure (rest t tk))
theorem ZNw {e it:Addr} {i:Int} {xs:Array Value} {x g:Value} {Q:Option Value->Shared->Prop} (he:En s.heap e it .none i g old) (hg:Gv i g) (hit:sr.it s.heap it k) (hv:sr.val s.heap xs) (hx:xs[k]? =some x) (hne:e≠it)
  (hQ:∀h' t tk,En h' e it (rawInt s.heap.objs.size) (i + 1) .none x->sr.it h' it (k + 1)->h'.get? s.heap.objs.size=some {cls:=.type "tuple",data:=.seq #[.int i t,x]}->h'.objs.size=s.heap.objs.size + 1->
   (∀b o,b≠e->b≠it->s.heap.get? b=some o->h'.get? b=some o)->Q (some (.ref s.heap.objs.size)) {s with heap:=h',toks:=tk}):
  wpAny (model prog w) A (pyNext (.ref e)) Q E s:=by
 have hT:s.TypeIs (.ref e) "enumerate":=⟨_,he,rfl⟩;unfold pyNext;exact wpAny_bind (wpAny_attempt (wpAny_callSpecial?_slot (name:=Str.ofString "__next__") hT PySem.F.slot_enumerate_next
  (wpAny_call_entry PySem.F.slot_enumerate_next hT PySem.F.entry_enumerate_next (ZLn he hg hit hv hx hne λh' t tk a1 a2 a3 a4 a5=>wpAny_pure (hQ h' t tk a1 a2 a3 a4 a5)) (PySem.F.args_enumerate_next_1 _))))
theorem ZKb {e it:Addr} {i:Int} {xs:Array Value} {g:Value} {Q:Option Value->Shared->Prop} (hh:A.handled=none) (he:En s.heap e it .none i g old) (hit:sr.it s.heap it k) (hv:sr.val s.heap xs) (hx:xs[k]? =none)
  (hQ:∀h',Heap.ExtBut it s.heap h'->Q none {s with heap:=h'}):wpAny (model prog w) A (pyNext (.ref e)) Q E s:=by
 have hT:s.TypeIs (.ref e) "enumerate":=⟨_,he,rfl⟩;unfold pyNext;refine wpAny_bind (wpAny_attempt (wpAny_callSpecial?_slot (name:=Str.ofString "__next__") hT PySem.F.slot_enumerate_next
  (wpAny_call_entry PySem.F.slot_enumerate_next hT PySem.F.entry_enumerate_next (wpAny_bind (m:=field (.ref e) 2) (wpAny_field he rfl (x:=.ref it) rfl (wpAny_bind (m:=Builtin.SmallTypes.nextOf (.ref it)) (Src.next_end hh hit hv hx λh' x he' hx'=> ?_)))) (PySem.F.args_enumerate_next_1 _))))
 obtain ⟨o,ho,hc⟩:=hx';exact wpAny_bind (wpAny_isInstance (T:="StopIteration") (b:=true) ⟨o,ho,hc⟩ isSubtype_stop (wpAny_pure (hQ _ he')))
theorem ZMU {elts:List Expr} {x1} {pos:Pos} {e it a:Addr} {i:Int} {g:Value} {Q:Unit->Shared->Prop} (he:En s.heap e it (rawInt a) i g old)
  (hQ:∀h',En h' e it .none i g old->qw e s.heap h'->Q () {s with heap:=h'}):wpAny (model prog w) A (letOwnedTupleGo (.Tuple elts x1 pos) (.ref e) (.ref a)) Q E s:=by
 unfold letOwnedTupleGo;refine wpAny_bind (wpAny_load he ?_);dsimp only;rw [if_pos (by simp)];exact wpAny_bind (wpAny_rule (wpAny_setField_rec he (by simp) λh' he' hs'=>hQ h' he' hs'))
theorem ZCg {e it:Addr} {f0:Value} {i:Int} {g:Value} {Q:Value->Shared->Prop} (he:En s.heap e it f0 i g old) (h:Q (.ref e) s):wpAny (model prog w) A (pyIter (.ref e)) Q E s:=by have hT:s.TypeIs (.ref e) "enumerate":=⟨_,he,rfl⟩;exact wpAny_pyIter_slot hT PySem.F.slot_enumerate_iter (wpAny_call_entry PySem.F.slot_enumerate_iter hT PySem.F.entry_enumerate_iter (wpAny_pure ⟨_,rfl,"enumerate",_,hT,PySem.F.slot_enumerate_next.lookup,h⟩) (PySem.F.args_enumerate_iter_1 _))
end
noncomputable abbrev Tp (h:Heap) (T:Addr) (xs:List Value):Prop:=h.get? T=some {cls:=.type "tuple",data:=.seq xs.toArray}
inductive Drw (h:Heap) (i:Nat):List (Src×Addr)->List Value->Prop where
 | nil:Drw h i [] []
 | cons {sr p r x us xs} (hit:Src.it h p i sr) (hv:sr.val h xs) (hx:xs[i]? =some x) (t:Drw h i r us):Drw h i ((sr,p)::r) (x::us)
theorem Drw.length {us:List Value} (d:Drw h i l us):us.length=l.length:=by
 induction d with
 | nil=>rfl
 | cons _ _ _ _ ih=>simp [ih]
section
variable {prog:Program} {w:World} {A:Around} {E:Value->Shared->Prop} {s:Shared}
theorem ZO2 {T:Addr} {xs:List Value} {x:Value} {Q:Unit->Shared->Prop} (hT:Tp s.heap T xs) (hz:xs.length<=1000000)
  (h:∀h',Tp h' T (xs.set k x)->qw T s.heap h'->Q () {s with heap:=h'}):wpAny (model prog w) A (updateSeq T (·.setIfInBounds k x)) Q E s:=by
 have h1:xs.toArray.size<=sizeLine:=by rw [zY];exact z5 hz size6
 refine wpAny_updateSeq hT rfl (h _ ?_ (qw.update ..)) h1 (by rw [Array.size_setIfInBounds];exact Nat.le_succ_of_le h1);show (s.heap.update T _).get? T=_;rw [jD _ hT rfl];simp [Obj.mapSeq]
noncomputable def ZS (prog:Program) (w:World) (A:Around) (E:Value->Shared->Prop) (z TO p:Addr) (k:Nat) (R:Shared->Prop) (s:Shared):Prop:=
 wpAny (model prog w) A (Builtin.SmallTypes.nextOf (.ref p)) (λx s1=>∃os,Tp s1.heap TO os/\os.length<=1000000/\∀h',Tp h' TO (os.set k x)->qw TO s1.heap h'->R {s1 with heap:=h'})
  (λe s'=>wpAny (model prog w) A (setField (.ref z) 0 .none) (λ_ s''=>E e s'') E s') s
theorem ZIA {TO:Addr} {xs:Array Value} {x:Value} {Q:Shared->Prop} (hTO:Tp s.heap TO os) (hz:os.length<=1000000) (hit:sr.it s.heap p i) (hv:sr.val s.heap xs) (hx:xs[i]? =some x)
  (h:∀h',Tp h' TO (os.set k x)->sr.it h' p (i + 1)->(∀b o,b≠TO->b≠p->s.heap.get? b=some o->h'.get? b=some o)->h'.objs.size=s.heap.objs.size->Q {s with heap:=h'}):ZS prog w A E z TO p k Q s:=by
 have hne:TO≠p:=λe=>by
  obtain ⟨o,ho,hc,_⟩:=hit;rw [<-e,hTO] at ho;cases ho
  cases sr <;> (simp [Src.itn] at hc)
 refine Src.next_item hit hv hx λh₁ it₁ sb₁=>⟨os,sb₁.extBut _ _ hne hTO,hz,λh₂ t₂ sb₂=> ?_⟩
 exact h h₂ t₂ (it₁.at λo e=>sb₂.extBut _ _ (Ne.symm hne) e) (λb o b1 b2 e=>sb₂.extBut b o b1 (sb₁.extBut b o b2 e)) (by rw [sb₂.1];show h₁.objs.size=_;rw [sb₁.1])
theorem ZHj {TO:Addr} {body:Value×Nat->Option Fin×PUnit->Sem (ForInStep (Option Fin×PUnit))} {R:Option Fin×PUnit->Shared->Prop}
  (hb:∀(p:Addr) (k:Nat) (s:Shared) (R':ForInStep (Option Fin×PUnit)->Shared->Prop),ZS prog w A E z TO p k (λs'=>R' (.yield (none,⟨⟩)) s') s->
   wpAny (model prog w) A (body (.ref p,k) (none,⟨⟩)) R' E s):
  ∀(l:List (Src×Addr)) (us pre post:List Value) (s:Shared),Drw s.heap i l us->Tp s.heap TO (pre++post)->post.length=l.length->(pre++post).length<=1000000->(l.map (·.2)).Nodup->(∀q∈l,q.1.adr≠TO)->(∀q∈l,∀r∈l,q.1.adr≠r.2)->
   (∀h',Tp h' TO (pre++us)->(∀q∈l,q.1.it h' q.2 (i + 1))->(∀b o,b≠TO->b ∉ l.map (·.2)->s.heap.get? b=some o->h'.get? b=some o)->h'.objs.size=s.heap.objs.size->R (none,⟨⟩) {s with heap:=h'})->
   wpAny (model prog w) A (forIn ((l.map λq=>Value.ref q.2).zipIdx pre.length) (none,⟨⟩) body) R E s
 | [],us,pre,post,s,d,hT,hl,hz,nd,na,np,hR=>by
  cases d;cases post with
  | cons _ _=>simp at hl
  | nil=>
   rw [jO,List.zipIdx_nil,List.forIn_nil];exact wpAny_pure (hR s.heap hT (λq hq=>by cases hq) (λb o _ _ e=>e) rfl)
 | (sr,p)::l,us,pre,post,s,d,hT,hl,hz,nd,na,np,hR=>by
  cases d with
  | @cons _ _ _ x us xs hit hv hx d=>
  cases post with
  | nil=>simp at hl
  | cons y post=>
   rw [zC,jF,jN];refine wpAny_bind (hb p pre.length s _ (ZIA hT hz hit hv hx λh' hT' it' kp sz=> ?_));have e1:(pre++y::post).set pre.length x=(pre++ [x])++post:=by simp
   rw [e1] at hT';have e2:pre.length + 1=(pre++ [x]).length:=by simp
   dsimp only;rw [e2]
   have nd':p ∉ l.map (·.2)/\(l.map (·.2)).Nodup:=by simpa using nd
   have hTOp:∀q∈l,q.2≠TO:=λq hq e=>by
    have:∃sr k,Src.it s.heap q.2 k sr:=by
     clear hR na np nd nd' e1 e2 hl hT' hz
     induction d with
     | nil=>cases hq
     | cons hit _ _ _ ih=>
      rcases zx.mp hq with rfl | hq
      ·exact ⟨_,_,hit⟩
      ·exact ih hq
    obtain ⟨sr',k,o,ho,hc,_⟩:=this;rw [e,hT] at ho;cases ho
    cases sr' <;> (simp [Src.itn] at hc)
   have d':Drw h' i l us:=by
    have na':∀q∈l,q.1.adr≠TO:=λq hq=>na q (zJ _ hq)
    have np':∀q∈l,q.1.adr≠p:=λq hq=>np q (zJ _ hq) (sr,p) zW
    have pp:∀q∈l,q.2≠p:=λq hq e=>nd'.1 (zH.mpr ⟨q,hq,e⟩)
    clear hR na np nd nd' e1 e2 hl hT' hz
    induction d with
    | nil=>exact .nil
    | @cons sr1 p1 r1 x1 us1 xs1 hit1 hv1 hx1 t1 ih=>
     refine .cons (hit1.at λo e=>kp _ o (hTOp _ zW) (pp _ zW) e) (hv1.at λo e=>kp _ o (na' _ zW) (np' _ zW) e) hx1 ?_;exact ih (λq hq=>hTOp q (zJ _ hq)) (λq hq=>na' q (zJ _ hq)) (λq hq=>np' q (zJ _ hq)) (λq hq=>pp q (zJ _ hq))
   refine ZHj hb l us (pre++ [x]) post {s with heap:=h'} d' hT' (by simpa using hl) (by simpa using hz) nd'.2 (λq hq=>na q (zJ _ hq)) (λq hq r hr=>np q (zJ _ hq) r (zJ _ hr)) λh'' t'' its'' kp'' sz''=> ?_
   have hpTO:p≠TO:=λe=>by
    obtain ⟨o,ho,hc,_⟩:=hit;rw [e,hT] at ho;cases ho
    cases sr <;> (simp [Src.itn] at hc)
   refine hR h'' (by simpa using t'') (λq hq=> ?_) (λb o b1 b2 e=> ?_) (sz''.trans sz)
   ·rcases zx.mp hq with rfl | hq
    ·exact it'.at λo e=>kp'' _ o hpTO nd'.1 e
    ·exact its'' q hq
   ·simp only [zC,zx,not_or] at b2;exact kp'' b o b1 b2.2 (kp b o b1 b2.1 e)
end
inductive DrwE (h:Heap) (i:Nat):List (Src×Addr)->Prop where
 | here {sr p r xs} (hit:Src.it h p i sr) (hv:sr.val h xs) (hx:xs[i]? =none):DrwE h i ((sr,p)::r)
 | there {sr p r x xs} (hit:Src.it h p i sr) (hv:sr.val h xs) (hx:xs[i]? =some x) (t:DrwE h i r):DrwE h i ((sr,p)::r)
structure ApZ (TO:Addr) (l:List (Src×Addr)):Prop where
 nd:(l.map (·.2)).Nodup
 na:∀q∈l,q.1.adr≠TO
 np:∀q∈l,∀r∈l,q.1.adr≠r.2
 to:∀q∈l,q.2≠TO
theorem ApZ.tail {TO:Addr} {q:Src×Addr} (a:ApZ TO (q::l)):ApZ TO l:=
 ⟨(q9.mp (by simpa using a.nd)).2,λq hq=>a.na q (zJ _ hq),λq hq r hr=>a.np q (zJ _ hq) r (zJ _ hr),λq hq=>a.to q (zJ _ hq)⟩
section
variable {prog:Program} {w:World} {A:Around} {E:Value->Shared->Prop} {s:Shared}
theorem DrwE.at {TO:Addr} (a:ApZ TO ((sr,p)::l)) (kp:∀b o,b≠TO->b≠p->h.get? b=some o->h'.get? b=some o) (d:DrwE h i l):DrwE h' i l:=by
 have pp:∀q∈l,q.2≠p:=λq hq e=>(q9.mp (by simpa using a.nd)).1 (zH.mpr ⟨q,hq,e⟩)
 have np:∀q∈l,q.1.adr≠p:=λq hq=>a.np q (zJ _ hq) (sr,p) zW
 have a':=a.tail;clear a
 induction d with
 | here hit hv hx=>exact .here (hit.at λo e=>kp _ o (a'.to _ zW) (pp _ zW) e) (hv.at λo e=>kp _ o (a'.na _ zW) (np _ zW) e) hx
 | there hit hv hx t ih=>
  exact .there (hit.at λo e=>kp _ o (a'.to _ zW) (pp _ zW) e) (hv.at λo e=>kp _ o (a'.na _ zW) (np _ zW) e) hx
   (ih (λq hq=>pp q (zJ _ hq)) (λq hq=>np q (zJ _ hq)) a'.tail)
theorem ZFv {TO:Addr} {body:Value×Nat->Option Fin×PUnit->Sem (ForInStep (Option Fin×PUnit))} {R:Option Fin×PUnit->Shared->Prop} (hh:A.handled=none)
  (hb:∀(p:Addr) (k:Nat) (s:Shared) (R':ForInStep (Option Fin×PUnit)->Shared->Prop),ZS prog w A E z TO p k (λs'=>R' (.yield (none,⟨⟩)) s') s->
   wpAny (model prog w) A (body (.ref p,k) (none,⟨⟩)) R' E s):
  ∀(l:List (Src×Addr)) (os:List Value) (n:Nat) (s:Shared),DrwE s.heap i l->Tp s.heap TO os->os.length<=1000000->ApZ TO l->
   (∀h' e,(∀b o,b≠TO->b ∉ l.map (·.2)->s.heap.get? b=some o->h'.get? b=some o)->(∃o,h'.get? e=some o/\o.cls=.type "StopIteration")->wpAny (model prog w) A (setField (.ref z) 0 .none) (λ_ s''=>E (.ref e) s'') E {s with heap:=h'})->
   wpAny (model prog w) A (forIn ((l.map λq=>Value.ref q.2).zipIdx n) (none,⟨⟩) body) R E s
 | [],os,n,s,d,hT,hz,a,hE=>by cases d
 | (sr,p)::l,os,n,s,d,hT,hz,a,hE=>by
  rw [zC,jF,jN];refine wpAny_bind (hb p n s _ ?_);cases d with
  | here hit hv hx=>
   exact Src.next_end hh hit hv hx λh' e xb st=>hE h' e (λb o b1 b2 q=>xb b o (λz=>b2 (by rw [z];simp)) q) st
  | there hit hv hx t=>
   refine ZIA hT hz hit hv hx λh' hT' it' kp sz=> ?_
   refine ZFv hh hb l _ (n + 1) {s with heap:=h'} (t.at a kp) hT' (by simpa using hz) a.tail λh'' e kp'' st=> ?_
   refine hE h'' e (λb o b1 b2 q=> ?_) st;simp only [zC,zx,not_or] at b2;exact kp'' b o b1 b2.2 (kp b o b1 b2.1 q)
theorem ZGb {TI TO:Addr} {R:Fin->Shared->Prop} (hz:IsZip s.heap z TI TO .none) (hTI:Tp s.heap TI (l.map λq=>Value.ref q.2)) (hne:l≠ [])
  (h:∀h₁,IsZip h₁ z TI TO .ellipsis->qw z s.heap h₁->∀body:Value×Nat->Option Fin×PUnit->Sem (ForInStep (Option Fin×PUnit)),
   (∀(p:Addr) (k:Nat) (s:Shared) (R':ForInStep (Option Fin×PUnit)->Shared->Prop),ZS prog w A E z TO p k (λs'=>R' (.yield (none,⟨⟩)) s') s->
    wpAny (model prog w) A (body (.ref p,k) (none,⟨⟩)) R' E s)->
   wpAny (model prog w) A (forIn ((l.map λq=>Value.ref q.2).zipIdx 0) (none,⟨⟩) body) (λr s'=>r.1=none/\∃us,Tp s'.heap TO us/\us.length<=1000000/\IsZip s'.heap z TI TO .ellipsis/\
    ∀h',IsZip h' z TI TO (rawInt s'.heap.objs.size)->Tp h' s'.heap.objs.size us->h'.objs.size=s'.heap.objs.size + 1->(∀b o,b≠z->s'.heap.get? b=some o->h'.get? b=some o)->R (.done (.ret (.ref s'.heap.objs.size))) {s' with heap:=h'}) E {s with heap:=h₁}):
  wpAny (model prog w) A (Builtin.«zip.__next__» ⟨[.ref z],[]⟩) R E s:=by
 refine wpAny_bind (m:=field (.ref z) 2) (wpAny_field hz rfl (x:=.bool false) rfl (wpAny_bind (m:=field (.ref z) 3) (wpAny_field hz rfl (x:=.ref TI) rfl (wpAny_bind (m:=seqItems? (.ref TI)) (wpAny_seqItems hTI rfl ?_)))));dsimp only;have hemp:(l.map λq=>Value.ref q.2).toArray.isEmpty=false:=by cases l with
  | nil=>exact absurd rfl hne
  | cons _ _=>simp
 rw [hemp];refine wpAny_bind (m:=Builtin.SmallTypes.ownedTupleIsFree (.ref z)) ?_;unfold Builtin.SmallTypes.ownedTupleIsFree;refine wpAny_bind (wpAny_field hz rfl (x:=.none) rfl (wpAny_pure ?_));simp only [if_true];refine wpAny_bind (wpAny_rule (wpAny_bind (wpAny_field hz rfl (x:=.ref TO) rfl (wpAny_bind (wpAny_setField_rec hz (by simp) λh₁ hz₁ hs₁=> ?_)))));refine wpAny_bind (wpAny_mono (h h₁ hz₁ hs₁ _ λp k s R' hst=> ?_) (λr s' hr=> ?_) λ_ _ x=>x)
 ·refine wpAny_bind (wpAny_onRaise ?_);show wpAny _ _ (Builtin.SmallTypes.nextOf (.ref p) >>=λv=>pure (some v)) _ _ s;refine wpAny_bind (wpAny_mono hst (λx s1 hx=>wpAny_pure ?_) λ_ _ x=>x);obtain ⟨os,hT,hl,hR⟩:=hx;dsimp only;refine wpAny_bind (wpAny_seqItems hT rfl ?_);dsimp only;exact wpAny_bind (ZO2 hT hl λh' t' sb=>wpAny_bind (wpAny_letGo (wpAny_pure (hR h' t' sb))))
 ·obtain ⟨hn,us,hT,hl,hzz,hR⟩:=hr;rw [hn];dsimp only;refine wpAny_bind (wpAny_seqItems hT rfl ?_);dsimp only;refine wpAny_bind (wpAny_newTuple ?_ (by show us.toArray.toList.length<=_;simpa using z5 hl size6));have hzlt:z < s'.heap.objs.size:=zw hzz;refine wpAny_bind (m:=Builtin.SmallTypes.ownedTupleHandOut _ _) ?_;unfold Builtin.SmallTypes.ownedTupleHandOut;have e1:us.toArray.toList.toArray=us.toArray:=by simp
  rw [e1];have hz2:IsZip (s'.heap.push {cls:=.type "tuple",data:=.seq us.toArray}) z TI TO .ellipsis:=zQ _ hzz;refine wpAny_bind (wpAny_setField_rec hz2 (by simp) λh₇ hz₇ hs₇=> ?_);refine wpAny_setField_rec hz₇ (by simp) λh₈ hz₈ hs₈=> ?_
  refine wpAny_pure (hR h₈ hz₈ ?_ ?_ λb o hb q=>hs₈.extBut _ _ hb (hs₇.extBut _ _ hb (zQ _ q)))
  ·exact hs₈.extBut _ _ (qN hzlt) (hs₇.extBut _ _ (qN hzlt) (zy _ rfl))
  ·rw [hs₈.1];show h₇.objs.size=_;rw [hs₇.1,qj]
theorem ZNX {TI TO:Addr} {us:List Value} {Q:Option Value->Shared->Prop} (hz:IsZip s.heap z TI TO .none) (hTI:Tp s.heap TI (l.map λq=>Value.ref q.2)) (hTO:Tp s.heap TO os) (hlen:os.length=l.length) (hsz:l.length<=1000000) (hne:l≠ [])
  (a:ApZ TO l) (zz:z≠TO/\(∀q∈l,q.2≠z/\q.1.adr≠z)) (d:Drw s.heap i l us)
  (hQ:∀h',IsZip h' z TI TO (rawInt s.heap.objs.size)->Tp h' TO us->(∀q∈l,q.1.it h' q.2 (i + 1))->Tp h' s.heap.objs.size us->h'.objs.size=s.heap.objs.size + 1->
   (∀b o,b≠z->b≠TO->b ∉ l.map (·.2)->s.heap.get? b=some o->h'.get? b=some o)->Q (some (.ref s.heap.objs.size)) {s with heap:=h'}):wpAny (model prog w) A (pyNext (.ref z)) Q E s:=by
 have hT:s.TypeIs (.ref z) "zip":=⟨_,hz,rfl⟩;unfold pyNext;refine wpAny_bind (wpAny_attempt (wpAny_callSpecial?_slot (name:=Str.ofString "__next__") hT PySem.F.slot_zip_next (wpAny_call_entry PySem.F.slot_zip_next hT PySem.F.entry_zip_next ?_ (PySem.F.args_zip_next_1 _))));refine ZGb hz hTI hne λh₁ hz₁ hs₁ body hb=> ?_
 have k₁:∀b o,b≠z->s.heap.get? b=some o->h₁.get? b=some o:=λb o hb q=>hs₁.extBut b o hb q
 have d₁:Drw h₁ i l us:=by
  have h1:∀q∈l,q.2≠z/\q.1.adr≠z:=zz.2;clear hTI hlen hsz hne a zz hQ
  induction d with
  | nil=>exact .nil
  | cons hit hv hx t ih=>exact .cons (hit.at λo e=>k₁ _ o (h1 _ zW).1 e) (hv.at λo e=>k₁ _ o (h1 _ zW).2 e) hx (ih λq hq=>h1 q (zJ _ hq))
 refine ZHj (z:=z) (TO:=TO) (i:=i) hb l us [] os {s with heap:=h₁} d₁ (k₁ _ _ (Ne.symm zz.1) hTO) hlen (by simpa [hlen] using hsz) a.nd a.na a.np λh₂ t₂ it₂ k₂ sz₂=>⟨rfl,us,t₂,by rw [d.length];exact hsz,?_,λh₃ z₃ p₃ s₃ k₃=> ?_⟩
 ·refine k₂ _ _ zz.1 (λhm=> ?_) hz₁;obtain ⟨q,hq,e⟩:=zH.mp hm;exact (zz.2 q hq).1 e
 ·have e2:h₂.objs.size=s.heap.objs.size:=by rw [sz₂];exact hs₁.1
  refine ⟨_,rfl,wpAny_pure ?_⟩;show Q (some (.ref h₂.objs.size)) _;have z₃':IsZip h₃ z TI TO (rawInt h₂.objs.size):=z₃;have p₃':Tp h₃ h₂.objs.size us:=p₃;have s₃':h₃.objs.size=h₂.objs.size + 1:=s₃;have k₃':∀b o,b≠z->h₂.get? b=some o->h₃.get? b=some o:=k₃;rw [e2] at z₃' p₃' s₃' ⊢;exact hQ h₃ z₃' (k₃' _ _ (Ne.symm zz.1) t₂) (λq hq=>(it₂ q hq).at λo e=>k₃' _ o (zz.2 q hq).1 e) p₃' s₃' λb o b1 b2 b3 q=>k₃' b o b1 (k₂ b o b2 b3 (k₁ b o b1 q))
theorem ZMH {TI TO:Addr} {Q:Option Value->Shared->Prop} (hh:A.handled=none) (hz:IsZip s.heap z TI TO .none) (hTI:Tp s.heap TI (l.map λq=>Value.ref q.2)) (hTO:Tp s.heap TO os) (hlen:os.length=l.length) (hsz:l.length<=1000000) (hne:l≠ [])
  (a:ApZ TO l) (zz:z≠TO/\(∀q∈l,q.2≠z/\q.1.adr≠z)) (d:DrwE s.heap i l)
  (hQ:∀h',(∀b o,b≠z->b≠TO->b ∉ l.map (·.2)->s.heap.get? b=some o->h'.get? b=some o)->Q none {s with heap:=h'}):wpAny (model prog w) A (pyNext (.ref z)) Q E s:=by
 have hT:s.TypeIs (.ref z) "zip":=⟨_,hz,rfl⟩;unfold pyNext;refine wpAny_bind (wpAny_attempt (wpAny_callSpecial?_slot (name:=Str.ofString "__next__") hT PySem.F.slot_zip_next (wpAny_call_entry PySem.F.slot_zip_next hT PySem.F.entry_zip_next ?_ (PySem.F.args_zip_next_1 _))));refine ZGb hz hTI hne λh₁ hz₁ hs₁ body hb=> ?_
 have k₁:∀b o,b≠z->s.heap.get? b=some o->h₁.get? b=some o:=λb o hb q=>hs₁.extBut b o hb q
 have d₁:DrwE h₁ i l:=by
  have h1:∀q∈l,q.2≠z/\q.1.adr≠z:=zz.2;clear hTI hlen hsz hne a zz hQ
  induction d with
  | here hit hv hx=>exact .here (hit.at λo e=>k₁ _ o (h1 _ zW).1 e) (hv.at λo e=>k₁ _ o (h1 _ zW).2 e) hx
  | there hit hv hx t ih=>exact .there (hit.at λo e=>k₁ _ o (h1 _ zW).1 e) (hv.at λo e=>k₁ _ o (h1 _ zW).2 e) hx (ih λq hq=>h1 q (zJ _ hq))
 refine ZFv (A:=A.in1) (z:=z) (TO:=TO) (i:=i) (show A.in1.handled=none from hh) hb l os 0 {s with heap:=h₁} d₁ (k₁ _ _ (Ne.symm zz.1) hTO) (by rw [hlen];exact hsz) a λh₂ e k₂ st=> ?_
 have hz₂:IsZip h₂ z TI TO .ellipsis:=by refine k₂ _ _ zz.1 (λhm=> ?_) hz₁;obtain ⟨q,hq,e⟩:=zH.mp hm;exact (zz.2 q hq).1 e
 obtain ⟨o,ho,hc⟩:=st;have hez:e≠z:=λx=>by subst x;rw [hz₂] at ho;cases ho;simp at hc
 refine wpAny_setField_rec hz₂ (by simp) λh₃ _ hs₃=> ?_
 refine wpAny_bind (wpAny_isInstance (T:="StopIteration") (b:=true) ⟨o,hs₃.extBut _ _ hez ho,hc⟩ isSubtype_stop (wpAny_pure ?_));exact hQ h₃ λb o b1 b2 b3 q=>hs₃.extBut _ _ b1 (k₂ b o b2 b3 (k₁ b o b1 q))
theorem ZDY:∀(ls:List Src) (pre:Array Value) (s:Shared) {Q:Array Value->Shared->Prop},(∀sr∈ls,∃xs,sr.val s.heap xs)->
  (∀h',(∀q∈ls.zipIdx s.heap.objs.size,q.1.it h' q.2 0)->h'.objs.size=s.heap.objs.size + ls.length->(∀b o,s.heap.get? b=some o->h'.get? b=some o)->Q (pre++((ls.zipIdx s.heap.objs.size).map λq=>Value.ref q.2).toArray) {s with heap:=h'})->
  wpAny (model prog w) A (forIn (ls.map λsr=>Value.ref sr.adr) pre λx r=>do let v<-holding r.toList (pyIter x);pure (ForInStep.yield (r.push v))) Q E s
 | [],pre,s,Q,hv,h=>by rw [jO,List.forIn_nil];refine wpAny_pure ?_;have:=h s.heap (λq hq=>by cases hq) rfl (λ_ _ e=>e);simpa using this
 | sr::ls,pre,s,Q,hv,h=>by
  rw [zC,jN];obtain ⟨xs,hx⟩:=hv sr zW;refine wpAny_bind (wpAny_bind (wpAny_holding (Src.iter hx (wpAny_pure ?_))));dsimp only;have z1:(s.heap.push {cls:=.type sr.itn,data:=.fields #[.ref sr.adr,.int 0 0]}).objs.size=s.heap.objs.size + 1:=qj ..;refine ZDY ls (pre.push (.ref s.heap.objs.size)) {s with heap:=s.heap.push {cls:=.type sr.itn,data:=.fields #[.ref sr.adr,.int 0 0]}} (λsr' hm=> ?_) λh' hi hz kp=> ?_
  ·obtain ⟨ys,hy⟩:=hv sr' (zJ _ hm);exact ⟨ys,hy.at λo e=>zQ _ e⟩
  ·dsimp only at hi hz kp ⊢;rw [z1] at hi hz ⊢;have:=h h' (λq hq=> ?_) (by rw [hz,qZ];lia) (λb o e=>kp b o (zQ _ e))
   ·rw [jF,zC] at this;simpa using this
   ·rw [jF] at hq;rcases zx.mp hq with rfl | hq
    ·exact ⟨_,kp _ _ (zy _ rfl),rfl,rfl⟩
    ·exact hi q hq
theorem ZMM {ls:List Src} {Q:Value->Shared->Prop} (hv:∀sr∈ls,∃xs,sr.val s.heap xs) (hl:ls.length<=1000000)
  (hct:checkTypeCall "zip" ⟨ls.map λsr=>Value.ref sr.adr,[]⟩=pure ()) (hcn:checkBuiltinCall "zip.__new__" ⟨.type "zip"::ls.map λsr=>Value.ref sr.adr,[]⟩=pure ()) (hok:∀obj,argsOk "object.__init__" ⟨obj::ls.map λsr=>Value.ref sr.adr,[]⟩)
  (h:∀h' n,n=s.heap.objs.size + ls.length->IsZip h' (n + 2) n (n + 1) .none->Tp h' n ((ls.zipIdx s.heap.objs.size).map λq=>Value.ref q.2)->Tp h' (n + 1) (ls.map λ_=>Value.none)->(∀q∈ls.zipIdx s.heap.objs.size,q.1.it h' q.2 0)->
   (∀b o,s.heap.get? b=some o->h'.get? b=some o)->Q (.ref (n + 2)) {s with heap:=h'}):
  wpAny (model prog w) A (call (.type "zip") (ls.map λsr=>Value.ref sr.adr)) Q E s:=by
 have g:Meets (Builtin.«zip.__new__» ⟨.type "zip"::ls.map λsr=>Value.ref sr.adr,[]⟩) (λ_ R s=>(∀sr∈ls,∃xs,sr.val s.heap xs)/\
   ∀h' n,n=s.heap.objs.size + ls.length->IsZip h' (n + 2) n (n + 1) .none->Tp h' n ((ls.zipIdx s.heap.objs.size).map λq=>Value.ref q.2)->Tp h' (n + 1) (ls.map λ_=>Value.none)->(∀q∈ls.zipIdx s.heap.objs.size,q.1.it h' q.2 0)->
    (∀b o,s.heap.get? b=some o->h'.get? b=some o)->R (.ok (.ret (.ref (n + 2)))) {s with heap:=h'}):=
  .of_wp λprog w A R s hh=>by
   obtain ⟨hv,hR⟩:=hh;have hsub:=sub_zip;unfold Builtin.«zip.__new__» Builtin.SmallTypes.newClass
   wp_walk
   refine ZDY ls #[] s hv λh1 hi hz kp=>wpAny_pure ?_
   have e1:(#[]++((ls.zipIdx s.heap.objs.size).map λq=>Value.ref q.2).toArray:Array Value).toList=(ls.zipIdx s.heap.objs.size).map λq=>Value.ref q.2:=by simp
   rw [e1];have hlen:((ls.zipIdx s.heap.objs.size).map λq=>Value.ref q.2).length=ls.length:=by simp
   refine wpAny_bind (wpAny_newTuple ?_ (by rw [hlen];exact z5 hl size6));refine wpAny_bind (wpAny_newTuple ?_ (by rw [zT,hlen];exact z5 hl size6));refine wpAny_bind ?_;unfold Builtin.SmallTypes.newRecord;dsimp only;refine wpAny_newObj_type (wpAny_pure ⟨_,rfl,?_⟩) (by simp [sizeOk,Builtin.SmallTypes.ownedTupleFields,sizeLine_eq]);generalize e2:s.heap.objs.size + ls.length=n at *
   have e3:((ls.zipIdx s.heap.objs.size).map λq=>Value.ref q.2).map (λ_=>Value.none)=ls.map λ_=>Value.none:=by refine qF (by simp) λi h1 h2=>by simp
   dsimp only;rw [e3];generalize ((ls.zipIdx s.heap.objs.size).map λq=>Value.ref q.2)=us at *;generalize (ls.map λ_=>Value.none)=ns at *;have s1:(h1.push {cls:=.type "tuple",data:=.seq us.toArray}).objs.size=n + 1:=by rw [qj,hz]
   have s2:((h1.push {cls:=.type "tuple",data:=.seq us.toArray}).push {cls:=.type "tuple",data:=.seq ns.toArray}).objs.size=n + 2:=by rw [qj,s1]
   show R (.ok (.ret (.ref ((h1.push {cls:=.type "tuple",data:=.seq us.toArray}).push {cls:=.type "tuple",data:=.seq ns.toArray}).objs.size))) _;rw [s2];refine hR _ n rfl ?_ (zQ _ (zQ _ (by rw [<-hz];exact zy _ rfl))) (zQ _ (by rw [<-s1];exact zy _ rfl)) (λq hq=>(hi q hq).at λo e=>zQ _ (zQ _ (zQ _ e))) λb o e=>zQ _ (zQ _ (zQ _ (kp b o e)))
   have:=zy ((h1.push {cls:=.type "tuple",data:=.seq us.toArray}).push {cls:=.type "tuple",data:=.seq ns.toArray}) (o:={cls:=.type "zip",data:=.fields #[.none,.bool false,.bool false,.ref h1.objs.size,.ref (h1.push {cls:=.type "tuple",data:=.seq us.toArray}).objs.size]}) rfl;rw [s2] at this;rw [hz,s1] at this;show _=_;rw [hz,s1];exact this
 refine callType_new PySem.F.called_zip (by decide) hct hcn hok PySem.F.entry_zip_new g ⟨hv,λh' n hn hz hTI hTO hi kp=>⟨⟨_,hz,rfl⟩,h h' n hn hz hTI hTO hi kp⟩⟩
end
end DL
namespace DL
open PySem PySem.W PyProof.Rows
variable {nrem:Nat}
section
def Cr (lt:Nat->Nat->Bool) {α:Type}:KasT α->α
 | .ret a=>a
 | .ask i j k=>Cr lt (k (lt i j))
theorem O8 (lt:Nat->Nat->Bool) {α β:Type} (f:α->KasT β):∀t:KasT α,Cr lt (t.bind f)=Cr lt (f (Cr lt t))
 | .ret _=>rfl
 | .ask i j k=>O8 lt f (k (lt i j))
structure WO (lt:Nat->Nat->Bool):Prop where
 asy:∀i j,lt i j=true->lt j i=false
 neg:∀i j k,lt i k=true->lt i j=true∨lt j k=true
variable {lt:Nat->Nat->Bool}
theorem WO.refl (o:WO lt) (i:Nat):lt i i=false:=by
 cases h:lt i i
 ·rfl
 ·have:=o.asy i i h;rw [h] at this;exact this
theorem WO.tr (o:WO lt) {i j k:Nat} (h1:lt j i=false) (h2:lt k j=false):lt k i=false:=by
 cases h:lt k i
 ·rfl
 ·rcases o.neg k j i h with z | z
  ·rw [z] at h2;cases h2
  ·rw [z] at h1;cases h1
abbrev pt (p:Array Nat) (j:Nat):Nat:=p.getD j 0
theorem Qx (p:Array Nat) (j:Nat):pt p j=(p[j]?).getD 0:=by simp [pt]
noncomputable def Srt (lt:Nat->Nat->Bool) (p:Array Nat) (k:Nat):Prop:=∀i j,i<=j->j < k->lt (pt p j) (pt p i)=false
noncomputable def NIn (lt:Nat->Nat->Bool) (p:Array Nat) (k:Nat):Prop:=∀i j,i<=j->j < k->lt (pt p i) (pt p j)=false
theorem J9 {p:Array Nat} {i j:Nat} (hj:j<=p.size) (k:Nat):pt (kas_rev p i j) k=if i<=k/\k < j then pt p (i + j - 1 - k) else pt p k:=by
 rw [Qx,kas_rev,getElem?_mirror_all hj]
 split <;> exact (Qx ..).symm
theorem ZOv {p:Array Nat} {src d:Nat} (hs:src < p.size) (hd:d<=src) (k:Nat):pt (bubble p src d) k=if k=src - d then pt p src else if src - d < k/\k<=src then pt p (k - 1) else pt p k:=by
 rw [Qx,getElem?_bubble hs d hd];by_cases h1:k=src - d
 ·rw [if_pos h1,if_pos h1];exact (Qx ..).symm
 ·rw [if_neg h1,if_neg h1];by_cases h2:src - d < k/\k<=src
  ·rw [if_pos h2,if_pos h2];exact (Qx ..).symm
  ·rw [if_neg h2,if_neg h2];exact (Qx ..).symm
theorem ZAU (o:WO lt) (p:Array Nat):∀f n,1<=n->Srt lt p n->∀m,Cr lt (kas_asc p f n)=m->n<=m/\m<=n + f/\Srt lt p m/\(m < n + f->lt (pt p m) (pt p (m - 1))=true)
 | 0,n,h1,h,m,e=>by have e':n=m:=e;subst e';exact ⟨zK _,zK _,h,λz=>absurd z (zS _)⟩
 | f + 1,n,h1,h,m,e=>by
  unfold kas_asc at e;have e1:Cr lt (if lt (pt p n) (pt p (n - 1))=true then KasT.ret n else kas_asc p f (n + 1))=m:=e;cases hc:lt (pt p n) (pt p (n - 1)) with
  | true=>
   rw [hc,if_pos rfl] at e1;have e':n=m:=e1;subst e';exact ⟨zK _,by lia,h,λ_=>hc⟩
  | false=>
   rw [hc,if_neg (by simp)] at e1;have h':Srt lt p (n + 1):=λi j hij hj=>by
    by_cases e:j < n
    ·exact h i j hij e
    ·have e':j=n:=by lia
     subst e';by_cases e2:i=j
     ·rw [e2];exact o.refl _
     ·exact o.tr (h i (j - 1) (by lia) (by lia)) hc
   obtain ⟨a,b,c,d⟩:=ZAU o p f (n + 1) (by lia) h' m e1;exact ⟨by lia,by lia,c,λz=>d (by lia)⟩
structure Dn (lt:Nat->Nat->Bool) (p:Array Nat) (n q:Nat):Prop where
 ni:NIn lt p n
 al:∀i j,n - (q + 1)<=i->i < n->n - (q + 1)<=j->j < n->lt (pt p i) (pt p j)=false
 qn:q + 1<=n
theorem NIn.rev {p:Array Nat} {n q:Nat} (d:Dn lt p n q) (hn:n<=p.size):NIn lt (kas_rev p (n - (q + 1)) n) n:=λi j hij hj=>by
 have:=d.qn;rw [J9 hn,J9 hn];by_cases h1:n - (q + 1)<=i
 ·rw [if_pos ⟨h1,by lia⟩,if_pos ⟨by lia,hj⟩];exact d.al _ _ (by lia) (by lia) (by lia) (by lia)
 ·rw [if_neg (by lia)];by_cases h2:n - (q + 1)<=j
  ·rw [if_pos ⟨h2,hj⟩];exact d.ni _ _ (by lia) (by lia)
  ·rw [if_neg (by lia)];exact d.ni i j hij hj
theorem Vq (o:WO lt):∀f (p:Array Nat) n q,n + f<=p.size->Dn lt p n q->∀r,Cr lt (kas_desc f p n q)=r->r.1.Perm p/\r.2.1<=n + f/\n<=r.2.1/\Dn lt r.1 r.2.1 r.2.2
 | 0,p,n,q,hz,d,r,e=>by have e':(p,n,q)=r:=e;subst e';exact ⟨.refl _,zK _,zK _,d⟩
 | f + 1,p,n,q,hz,d,r,e=>by
  have qn:=d.qn;unfold kas_desc at e;have e1:Cr lt (if lt (pt p n) (pt p (n - 1))=true then (if q > 0 then kas_desc f (kas_rev p (n - (q + 1)) n) (n + 1) 0 else kas_desc f p (n + 1) 0)
   else .ask (p.getD (n - 1) 0) (p.getD n 0) λd=>if d=true then .ret (p,n,q) else kas_desc f p (n + 1) (q + 1))=r:=e
  clear e;cases hc:lt (pt p n) (pt p (n - 1)) with
  | true=>
   rw [hc,if_pos rfl] at e1;have ext:∀p':Array Nat,NIn lt p' n->pt p' n=pt p n->(∀k,k < n->lt (pt p n) (pt p' k)=true∨k < n)->lt (pt p' (n - 1)) (pt p' n)=false->Dn lt p' (n + 1) 0:=λp' hni _ _ hl=>by
    refine ⟨λi j hij hj=> ?_,λi j h1 h2 h3 h4=> ?_,by lia⟩
    ·by_cases e:j < n
     ·exact hni i j hij e
     ·have e':j=n:=by lia
      subst e';by_cases e2:i=j
      ·rw [e2];exact o.refl _
      ·exact o.tr hl (hni i (j - 1) (by lia) (by lia))
    ·have e1:i=n:=by lia
     have e2:j=n:=by lia
     rw [e1,e2];exact o.refl _
   by_cases hq:q > 0
   ·rw [if_pos hq] at e1;have hl:lt (pt (kas_rev p (n - (q + 1)) n) (n - 1)) (pt (kas_rev p (n - (q + 1)) n) n)=false:=by
     rw [J9 (by lia),J9 (by lia),if_pos (by lia),if_neg (by lia)];cases hx:lt (pt p (n - (q + 1) + n - 1 - (n - 1))) (pt p n)
     ·rfl
     ·rcases o.neg _ (pt p (n - 1)) _ hx with z | z
      ·rw [d.al _ _ (by lia) (by lia) (by lia) (by lia)] at z;cases z
      ·rw [o.asy _ _ hc] at z;cases z
    obtain ⟨a,b,c,dd⟩:=Vq o f _ (n + 1) 0 (by rw [kas_rev,mirror_size];lia) (ext _ (NIn.rev d (by lia)) (by rw [J9 (by lia),if_neg (by lia)]) (λk hk=>.inr hk) hl) r e1;exact ⟨a.trans (mirror_perm ..),by lia,by lia,dd⟩
   ·rw [if_neg hq] at e1;obtain ⟨a,b,c,dd⟩:=Vq o f p (n + 1) 0 (by lia) (ext p d.ni rfl (λk hk=>.inr hk) (o.asy _ _ hc)) r e1;exact ⟨a,by lia,by lia,dd⟩
  | false=>
   rw [hc,if_neg (by simp)] at e1;have e2:Cr lt (if lt (pt p (n - 1)) (pt p n)=true then .ret (p,n,q) else kas_desc f p (n + 1) (q + 1))=r:=e1;cases hd:lt (pt p (n - 1)) (pt p n) with
   | true=>
    rw [hd,if_pos rfl] at e2;have e3:(p,n,q)=r:=e2;subst e3;exact ⟨.refl _,by show n<=_;lia,zK _,d⟩
   | false=>
    rw [hd,if_neg (by simp)] at e2;have al':∀i,n - (q + 1)<=i->i < n + 1->lt (pt p i) (pt p n)=false/\lt (pt p n) (pt p i)=false:=λi h1 h2=>by
     by_cases e:i=n
     ·rw [e];exact ⟨o.refl _,o.refl _⟩
     ·exact ⟨o.tr hd (d.al i (n - 1) h1 (by lia) (by lia) (by lia)),o.tr (d.al (n - 1) i (by lia) (by lia) h1 (by lia)) hc⟩
    obtain ⟨a,b,c,dd⟩:=Vq o f p (n + 1) (q + 1) (by lia) ⟨λi j hij hj=>by
     by_cases e:j < n
     ·exact d.ni i j hij e
     ·have e':j=n:=by lia
      subst e';by_cases e2:i=j
      ·rw [e2];exact o.refl _
      ·exact o.tr hd (d.ni i (j - 1) (by lia) (by lia)),λi j h1 h2 h3 h4=>by
     by_cases ei:i=n
     ·rw [ei];exact (al' j (by lia) h4).2
     ·by_cases ej:j=n
      ·rw [ej];exact (al' i (by lia) h2).1
      ·exact d.al i j (by lia) (by lia) (by lia) (by lia),by lia⟩ r e2
    exact ⟨a,by lia,by lia,dd⟩
theorem ZFB (o:WO lt) {p:Array Nat} {n:Nat} (h1:1<=n) (hn:n<=nrem) (hz:nrem<=p.size) (d:NIn lt p n):∀r,Cr lt (kas_tail3 n nrem p)=r->r.2.Perm p/\r.1<=nrem/\1<=r.1/\Srt lt r.2 r.1:=by
 intro r e;unfold kas_tail3 at e;rw [O8] at e;have s0:Srt lt (kas_rev p 0 n) n:=λi j hij hj=>by rw [J9 (by lia),J9 (by lia),if_pos (by lia),if_pos (by lia)];exact d _ _ (by lia) (by lia)
 obtain ⟨a,b,c,_⟩:=ZAU o (kas_rev p 0 n) (nrem - n) n h1 s0 _ rfl;have e':(Cr lt (kas_asc (kas_rev p 0 n) (nrem - n) n),kas_rev p 0 n)=r:=e;subst e';exact ⟨mirror_perm ..,by show Cr lt (kas_asc (kas_rev p 0 n) (nrem - n) n)<=nrem;lia,by show 1<=Cr lt (kas_asc (kas_rev p 0 n) (nrem - n) n);lia,c⟩
theorem ZHC (o:WO lt) {p:Array Nat} {n:Nat} (h1:1<=n) (hn:n < nrem) (hz:nrem<=p.size) (al:∀i j,i < n->j < n->lt (pt p i) (pt p j)=false) (hl:lt (pt p n) (pt p (n - 1))=true):
  ∀r,Cr lt (kas_descPart n nrem p)=r->r.2.Perm p/\r.1<=nrem/\1<=r.1/\Srt lt r.2 r.1:=by
 intro r e;unfold kas_descPart at e;rw [O8] at e;have d0:Dn lt p (n + 1) 0:=⟨λi j hij hj=>by
  by_cases e:j < n
  ·exact al i j (by lia) e
  ·have e':j=n:=by lia
   subst e';by_cases e2:i=j
   ·rw [e2];exact o.refl _
   ·exact o.tr (o.asy _ _ hl) (al i (j - 1) (by lia) (by lia)),λi j _ _ _ _=>by
  have e1:i=n:=by lia
  have e2:j=n:=by lia
  rw [e1,e2];exact o.refl _,by lia⟩
 obtain ⟨a,b,c,dd⟩:=Vq o (nrem - (n + 1)) p (n + 1) 0 (by lia) d0 _ rfl
 revert a b c dd e
 generalize Cr lt (kas_desc (nrem - (n + 1)) p (n + 1) 0)=x;intro e a b c dd;have hx:x.1.size=p.size:=a.size_eq;split at e
 ·obtain ⟨a',b',c',d'⟩:=ZFB o (by lia) (by lia) (by rw [kas_rev,mirror_size];lia) (NIn.rev dd (by lia)) r e;exact ⟨(a'.trans (mirror_perm ..)).trans a,b',c',d'⟩
 ·obtain ⟨a',b',c',d'⟩:=ZFB o (by lia) (by lia) (by lia) dd.ni r e;exact ⟨a'.trans a,b',c',d'⟩
theorem ZPD (o:WO lt) {p:Array Nat} (h1:1<=nrem) (hz:nrem<=p.size):∀r,Cr lt (kas_count nrem p)=r->r.2.Perm p/\r.1<=nrem/\1<=r.1/\Srt lt r.2 r.1:=by
 intro r e;unfold kas_count at e;rw [O8] at e;obtain ⟨a,b,c,d⟩:=ZAU o p (nrem - 1) 1 (zK _) (λi j hij hj=>by
  have e1:i=0:=by lia
  have e2:j=0:=by lia
  rw [e1,e2];exact o.refl _) _ rfl
 revert a b c d e
 generalize Cr lt (kas_asc p (nrem - 1) 1)=n;intro e a b c d;split at e
 ·have e':(n,p)=r:=e;subst e';exact ⟨.refl _,by show n<=nrem;lia,a,c⟩
 ·rename_i hne;have hn:n < nrem:=by
   have:n≠nrem:=by simpa using hne
   lia
  have hl:=d (by lia);split at e
  ·rename_i hgt;have e':Cr lt (if lt (pt p 0) (pt p (n - 1))=true then .ret (n,p) else kas_descPart n nrem (kas_rev p 0 n))=r:=e;cases hc:lt (pt p 0) (pt p (n - 1)) with
   | true=>
    rw [hc,if_pos rfl] at e';have e2:(n,p)=r:=e';subst e2;exact ⟨.refl _,by show n<=nrem;lia,a,c⟩
   | false=>
    rw [hc,if_neg (by simp)] at e';have al:∀i j,i < n->j < n->lt (pt p i) (pt p j)=false:=λi j hi hj=>o.tr (c j (n - 1) (by lia) (by lia) |> λz=>z) (o.tr hc (c 0 i (by lia) hi) |> λz=>by exact z)
    obtain ⟨a',b',c',d'⟩:=ZHC o (p:=kas_rev p 0 n) a hn (by rw [kas_rev,mirror_size];lia) (λi j hi hj=>by
     rw [J9 (by lia),J9 (by lia),if_pos (by lia),if_pos (by lia)];exact al _ _ (by lia) (by lia)) (by
     rw [J9 (by lia),J9 (by lia),if_neg (by lia),if_pos (by lia)];rcases o.neg _ (pt p (0 + n - 1 - (n - 1))) _ hl with z | z
     ·exact z
     ·rw [al _ _ (by lia) (by lia)] at z;cases z) r e'
    exact ⟨a'.trans (mirror_perm ..),b',c',d'⟩
  ·have e1:n=1:=by lia
   subst e1;exact ZHC o (zK _) hn hz (λi j hi hj=>by
    have e1:i=0:=by lia
    have e2:j=0:=by lia
    rw [e1,e2];exact o.refl _) hl r e
theorem ZAc (o:WO lt) (p:Array Nat) (k:Nat) (hs:Srt lt p k):∀f l r,r - l<=f->l<=r->r<=k->(∀i,i < l->lt (pt p k) (pt p i)=false)->(∀i,r<=i->i < k->lt (pt p k) (pt p i)=true)->
  ∀m,Cr lt (kas_place p k f l r)=m->m<=k/\(∀i,i < m->lt (pt p k) (pt p i)=false)/\(∀i,m<=i->i < k->lt (pt p k) (pt p i)=true)
 | 0,l,r,hf,hlr,hr,h1,h2,m,e=>by have e':l=m:=e;subst e';exact ⟨by lia,h1,λi hi hk=>h2 i (by lia) hk⟩
 | f + 1,l,r,hf,hlr,hr,h1,h2,m,e=>by
  unfold kas_place at e;split at e
  ·have e':l=m:=e;subst e';exact ⟨by lia,h1,λi hi hk=>h2 i (by lia) hk⟩
  ·rename_i hlt;have e':Cr lt (if lt (pt p k) (pt p ((l + r) / 2))=true then kas_place p k f l ((l + r) / 2) else kas_place p k f ((l + r) / 2 + 1) r)=m:=e;cases hc:lt (pt p k) (pt p ((l + r) / 2)) with
   | true=>
    rw [hc,if_pos rfl] at e';refine ZAc o p k hs f l ((l + r) / 2) (by lia) (by lia) (by lia) h1 (λi hi hk=> ?_) m e';rcases o.neg _ (pt p i) _ hc with z | z
    ·exact z
    ·rw [hs _ i hi hk] at z;cases z
   | false=>
    rw [hc,if_neg (by simp)] at e';exact ZAc o p k hs f ((l + r) / 2 + 1) r (by lia) (by lia) hr (λi hi=>o.tr (hs i ((l + r) / 2) (by lia) (by lia)) hc) h2 m e'
theorem ZF7 (o:WO lt):∀f (p:Array Nat) k,k + f=p.size->Srt lt p k->(Cr lt (kas_bin f p k)).Perm p/\Srt lt (Cr lt (kas_bin f p k)) p.size
 | 0,p,k,hz,hs=>⟨.refl _,by
  have:k=p.size:=by lia
  rw [<-this];exact hs⟩
 | f + 1,p,k,hz,hs=>by
  unfold kas_bin;rw [O8];obtain ⟨hm,h1,h2⟩:=ZAc o p k hs k 0 k (by lia) (by lia) (zK _) (λi hi=>by lia) (λi hi hk=>by lia) _ rfl
  revert hm h1 h2
  generalize Cr lt (kas_place p k k 0 k)=m;intro hm h1 h2;have sz:(bubble p k (k - m)).size=p.size:=bubble_size ..;have hk:k < p.size:=by lia
  have e:∀j,pt (bubble p k (k - m)) j=if j=m then pt p k else if m < j/\j<=k then pt p (j - 1) else pt p j:=λj=>by
   rw [ZOv hk (by lia)];have:k - (k - m)=m:=by lia
   rw [this]
  obtain ⟨a,b⟩:=ZF7 o f (bubble p k (k - m)) (k + 1) (by lia) (λi j hij hj=>by
   rw [e i,e j];by_cases ji:j=m
   ·rw [if_pos ji];by_cases ii:i=m
    ·rw [if_pos ii];exact o.refl _
    ·rw [if_neg ii,if_neg (by lia)];exact h1 i (by lia)
   ·rw [if_neg ji];by_cases jm:m < j
    ·rw [if_pos ⟨jm,by lia⟩];by_cases ii:i=m
     ·rw [if_pos ii];exact o.asy _ _ (h2 _ (by lia) (by lia))
     ·rw [if_neg ii];by_cases im:m < i
      ·rw [if_pos ⟨im,by lia⟩];exact hs _ _ (by lia) (by lia)
      ·rw [if_neg (by lia)];exact hs _ _ (by lia) (by lia)
    ·rw [if_neg (by lia),if_neg (by lia),if_neg (by lia)];exact hs i j hij (by lia))
  rw [sz] at b;exact ⟨a.trans (bubble_perm ..),b⟩
theorem ZG2 (o:WO lt) {n:Nat} (hn:1<=n):(Cr lt (kas_sort n)).toList.Perm (zX n)/\Srt lt (Cr lt (kas_sort n)) n:=by
 unfold kas_sort;rw [O8];obtain ⟨a,b,c,d⟩:=ZPD o (p:=(zX n).toArray) (nrem:=n) hn (by simp) _ rfl
 revert a b c d
 generalize Cr lt (kas_count n (zX n).toArray)=x;intro a b c d;have hx:x.2.size=n:=by rw [a.size_eq];simp
 split
 ·have e:max x.1 1=x.1:=by lia
  rw [e];obtain ⟨a',b'⟩:=ZF7 o (n - x.1) x.2 x.1 (by lia) d;rw [hx] at b';exact ⟨by simpa using (a'.trans a).toList,b'⟩
 ·have e:x.1=n:=by lia
  rw [e] at d;exact ⟨by simpa [Cr] using a.toList,d⟩
end
end DL
namespace DL
open PySem PySem.Spec L2
open PyProof.Rows hiding St
variable {pins:List (Addr×Obj)} {σ:St} {H:Hp} {s:Shared} {w:World} {K:PySem.W.Frag} {elts:List Expr} {i:Nat} {a:Wd} {ta:DA}
section
variable {X:Cx} {pins:List (Addr×Obj)} {σ:St} {H:Hp} {s:Shared} {h':Heap}
theorem Zb {t':Nat} {fp:List Addr} (I:Inv X pins σ H s) (k:∀b o,b ∉ fp->s.heap.get? b=some o->h'.get? b=some o) (hf:∀b∈fp,FpOk X pins H b):Inv X pins σ H {s with heap:=h',toks:=t'}:=by
 have nit:∀b u,H b=some u->b ∉ fp:=λb u e z=>by rw [(hf b z).1] at e;cases e
 refine I.step (g':=s.gens) (d':=s.drawn) (ch:=fp) (λb hb=> ?_) (λb o _ _ hc e _=>k b o hc e) (λb o _ _ hc e _=>⟨o.slots,k b o hc e⟩) (λ_ _ _ _ n=>n)
  (λb o hc e=>⟨o,k b o hc e⟩) (λ_ _ e=>e) (λ_ _ _ e=>e) (λb ps e=>⟨#[],by rw [e];simp⟩) (λm hm=> ?_) (λb u e=> ?_) I.bare
 ·obtain ⟨f0,f1,f2,f3,f4,f5⟩:=hf b hb;exact ⟨f3,f1,f4,f5⟩
 ·obtain ⟨o,es,ep,ho,r⟩:=hm;exact ⟨o,es,ep,k _ o (λz=>(hf _ z).2.1 rfl) ho,r⟩
 ·refine (I.hok b u e).stay (λc v hc q=>k c v ?_ q) (λ_ q=>q) λ_ _ q=>q
  rcases hc with z | z
  ·rw [z];exact nit b u e
  ·exact nit c _ z
theorem ZIO {t':Nat} {fp:List Addr} {p:Addr} {xs:List V} {its:List Value} (I:Inv X pins σ H s) (k:∀b o,b ∉ fp->s.heap.get? b=some o->h'.get? b=some o) (hf:∀b∈fp,FpOk X pins H b) (hp:s.heap.objs.size<=p)
  (hz:xs.length<=sizeLine) (r:Vals xs its) (ht:Tp h' p its):Inv X pins σ (upd H p (.tup xs)) {s with heap:=h',toks:=t'}:=by
 obtain ⟨g0,g1,g2,g3,g4,g5⟩:=I.K3 (H':=H) hp (I.hok.fresh hp);exact ZCa (Zb I k hf) g0 (z5 I.sz hp) g1 g4 g5 ⟨hz,its,r,_,ht,rfl,_,rfl⟩
end
noncomputable def Src.sq (K:PySem.W.Frag) (H:Hp) (xs:List V):Src->Prop
 | .l a=>SqL K H a xs
 | .t a=>SqT K H a xs
variable {sr:Src} {ls:List Src}
theorem Src.sq.val {X:Cx} {xs:List V} (I:Inv X pins σ H s) (h:sr.sq X.K H xs):∃its:List Value,Vals xs its/\sr.val s.heap its.toArray/\xs.length<=sizeLine:=by
 cases sr with
 | l a=>obtain ⟨its,r,p,hz⟩:=I.list h;exact ⟨its,r,p.isList,hz⟩
 | t a=>obtain ⟨its,r,p,hz⟩:=I.tuple h;exact ⟨its,r,p,hz⟩
theorem Src.sq.inj {X:Cx} {xs ys:List V} (I:Inv X pins σ H s) (h:sr.sq X.K H xs) (h':sr.sq X.K H ys):xs=ys:=by
 cases sr with
 | l a=>exact I.Z6 h h'
 | t a=>exact I.ZAl h h'
noncomputable def Ite (K:PySem.W.Frag) (sr:Src) (n:Int):It:=
 ⟨λi H=>∃xs x,sr.sq K H xs/\xs[i]? =some x,λi H v H'=>∃p x,v=.ref p/\H p=none/\H'=upd H p (.tup [.int (n + i),x])/\∀xs,sr.sq K H xs->xs[i]? =some x,λi H=>∃xs,sr.sq K H xs/\xs.length<=i⟩
theorem ZFH {P:Program} {x1} {pos:Pos} (sr:Src) (n:Int) (e it:Addr) (hne:e≠it):
  Turn P w K (.Tuple elts x1 pos) (Ite K sr n) [e,it] e (λi h=>∃g old,En h e it .none (n + i) g old/\Gv (n + i) g/\sr.it h it i) where
 mem:=by simp
 obj:=λi h st b hb=>by
  obtain ⟨g,old,he,_,o,ho,_,hd⟩:=st;rcases (show b=e∨b=it by simpa using hb) with rfl | rfl
  ·exact ⟨_,he,λv z=>by cases z⟩
  ·exact ⟨o,ho,λv z=>by rw [hd] at z;cases z⟩
 keep:=λi h h' st k=>by obtain ⟨g,old,he,hg,hi⟩:=st;exact ⟨g,old,k e (by simp) _ he,hg,hi.at λo q=>k it (by simp) o q⟩
 item:=by
  intro X hP hw hK hc i pins s σ H E I hf st hg;subst hP hw hK;obtain ⟨xs,x,hq,hx⟩:=hg;obtain ⟨its,rv,hv,hz⟩:=Src.sq.val I hq;obtain ⟨u,hu,ru⟩:=rv.get hx;obtain ⟨g,old,he,hgv,hi⟩:=st;refine ZNw he hgv hi hv (x:=u) (by simpa using hu) hne λh1 t tk e1 i1 t1 z1 k1=>⟨_,rfl,?_⟩
  refine ZMU (s:={s with heap:=h1,toks:=tk}) e1 λh2 e2 sb=> ?_
  have hpe:s.heap.objs.size≠e:=qN (zw he);have I2:Inv X pins σ (upd H s.heap.objs.size (.tup [.int (n + i),x])) {s with heap:=h2,toks:=tk}:=
   ZIO (fp:= [e,it]) (its:= [.int (n + i) t,u]) I (λb o hb q=>by
    have hb':b≠e/\b≠it:=by simpa using hb
    exact sb.extBut b o hb'.1 (k1 b o hb'.1 hb'.2 q)) hf (zK _) (by show 2<=sizeLine;decide) (.cons ⟨t,rfl⟩ (.cons ru .nil)) (sb.extBut _ _ hpe t1)
  have hfr:H s.heap.objs.size=none:=I.hok.fresh (zK _);refine ⟨.ref s.heap.objs.size,_,I2,rfl,⟨_,x,rfl,hfr,rfl,λys hy=>by rw [Src.sq.inj I hy hq];exact hx⟩,⟨.none,u,?_,.inl rfl,i1.at λo q=>sb.extBut _ _ (Ne.symm hne) q⟩,λb hb=> ?_⟩
  ·have ee:n + (i:Int) + 1=n + ((i + 1:Nat):Int):=by lia
   rw [<-ee];exact e2
  ·have hb':b=e∨b=it:=by simpa using hb
   rw [Bf (λz=> ?_)]
   ·exact (hf b hb).1
   ·rcases hb' with rfl | rfl
    ·exact hpe z.symm
    ·have hlt:=Src.it.lt hi;rw [z] at hlt;exact zS _ hlt
 done:=by
  intro X hP hw hK hc i pins s σ H E I hf st hg;subst hP hw hK;obtain ⟨xs,hq,hx⟩:=hg;obtain ⟨its,rv,hv,hz⟩:=Src.sq.val I hq;obtain ⟨g,old,he,hgv,hi⟩:=st;have hl:=rv.length;refine ZKb (I.ok.hd hc) he hi hv (by simp;lia) λh1 xb=>⟨rfl,?_⟩
  exact Zb (t':=s.toks) (fp:= [e,it]) I (λb o hb q=>xb b o (λz=>hb (by simp [z])) q) hf
 self:=λ_ _ _ _ _ st h=>by obtain ⟨g,old,he,_⟩:=st;exact ZCg he h
section
variable {X:Cx} {E:XK}
theorem ZOK {prog:Program} {A:Around} {E:Value->Shared->Prop} {xs:Array Value} {Q:Value->Shared->Prop} (hv:sr.val s.heap xs)
  (h:∀h',En h' (s.heap.objs.size + 1) s.heap.objs.size .none 0 .none .none->sr.it h' s.heap.objs.size 0->(∀b o,s.heap.get? b=some o->h'.get? b=some o)->Q (.ref (s.heap.objs.size + 1)) {s with heap:=h'}):
  wpAny (model prog w) A (call (.type "enumerate") [.ref sr.adr]) Q E s:=by
 have g:Meets (Builtin.«enumerate.__new__» ⟨[.type "enumerate",.ref sr.adr],[]⟩) (λ_ R s=>sr.val s.heap xs/\
   R (.ok (.ret (.ref (s.heap.push {cls:=.type sr.itn,data:=.fields #[.ref sr.adr,.int 0 0]}).objs.size)))
    {s with heap:=(s.heap.push {cls:=.type sr.itn,data:=.fields #[.ref sr.adr,.int 0 0]}).push {cls:=.type "enumerate",data:=.fields #[.none,.bool false,.ref s.heap.objs.size,rawInt 0,.none,.none]}}):=
  .of_wp λprog w A R s h=>by
   obtain ⟨hp,g,d,tk,os⟩:=s;obtain ⟨hl,h⟩:=h;have hsub:=sub_enumerate;have hL:sr.val (Shared.heap ⟨hp,g,d,tk,os⟩) xs:=hl
   wp_walk
   refine wpAny_stack_any λst=>wpAny_pure ?_
   split
   ·rename_i c _ _ _ _ _
    cases (c == Value.type "enumerate") <;> (wp_walk using Src.iter hL;exact ⟨_,rfl,h⟩)
   ·wp_walk using Src.iter hL
    exact ⟨_,rfl,h⟩
 refine callType_new PySem.F.called_enumerate (by decide) (PySem.F.typeCall_enumerate_1 _) (PySem.F.newCall_enumerate_1 _) (λobj=>PySem.F.args_object_init_2 obj _) PySem.F.entry_enumerate_new g ⟨hv,?_⟩;have hz:(s.heap.push {cls:=.type sr.itn,data:=.fields #[.ref sr.adr,.int 0 0]}).objs.size=s.heap.objs.size + 1:=qj ..;show _/\_;rw [hz];have he:En ((s.heap.push {cls:=.type sr.itn,data:=.fields #[.ref sr.adr,.int 0 0]}).push {cls:=.type "enumerate",data:=.fields #[.none,.bool false,.ref s.heap.objs.size,rawInt 0,.none,.none]}) (s.heap.objs.size + 1) s.heap.objs.size .none 0 .none .none:=by
  have:=zy (s.heap.push {cls:=.type sr.itn,data:=.fields #[.ref sr.adr,.int 0 0]}) (o:={cls:=.type "enumerate",data:=.fields #[.none,.bool false,.ref s.heap.objs.size,rawInt 0,.none,.none]}) rfl;rw [hz] at this;exact this
 exact ⟨⟨_,he,rfl⟩,h _ he ⟨_,zQ _ (zy _ rfl),rfl,rfl⟩ λb o x=>zQ _ (zQ _ x)⟩
noncomputable def ZN9 (K:PySem.W.Frag) (ta:TA):TI:=λσ H R=>ta σ H λvs H1=>∃sr xs,vs= [.ref (Src.adr sr)]/\sr.sq K H1 xs/\R (Ite K sr 0) H1
theorem ZOn {elts:List Expr} {x1} {tp:Pos} {a:Expr} {ta:TA} {p pos:Pos} (hg:Gl X "enumerate") (hm:X.mg "enumerate"=none) (ha:PA X [a] ta) (hs:starEach [a] X.env= [(false,eval a X.env)]:=by rfl):PI X (.Tuple elts x1 tp) (.Call (.Name "enumerate" p) [a] [] pos) (ZN9 X.K ta):=by
 intro pins s σ H R I h;refine Call_ (Jb I hg hm PyProof.Rows.boot_enumerate (PyProof.Rows.callWith_type1 (thn (ha pos pins s σ H _ I h) λus s1 ⟨vs,H1,I1,r1,q1⟩=> ?_) hs rfl));obtain ⟨sr,xs,e,hq,q⟩:=q1;subst e;cases r1 with
 | cons r rr=>
  cases rr;cases r;obtain ⟨its,rv,hv,hz⟩:=Src.sq.val I1 hq;refine ZOK hv λh' he hi kp=> ?_
  refine ZCg he ?_;have I2:Inv X pins σ H1 {s1 with heap:=h'}:=I1.kept (t':=s1.toks) kp;refine ⟨s1.heap.objs.size + 1,[s1.heap.objs.size + 1,s1.heap.objs.size],_,_,H1,rfl,I2,ZFH sr 0 _ _ (Nat.succ_ne_self _),⟨.none,.none,by simpa using he,.inl rfl,hi⟩,λb hb=> ?_,q⟩;have hb':b=s1.heap.objs.size + 1∨b=s1.heap.objs.size:=by simpa using hb
  have hle:s1.heap.objs.size<=b:=by rcases hb' with rfl | rfl <;> lia
  exact I1.K3 hle (I1.hok.fresh hle)
end
inductive DrV (K:PySem.W.Frag) (H:Hp) (i:Nat):List Src->List V->Prop where
 | nil:DrV K H i [] []
 | cons {sr r v us xs} (hq:Src.sq K H xs sr) (hx:xs[i]? =some v) (t:DrV K H i r us):DrV K H i (sr::r) (v::us)
inductive StV (K:PySem.W.Frag) (H:Hp) (i:Nat):List Src->Prop where
 | here {sr r xs} (hq:Src.sq K H xs sr) (hx:xs.length<=i):StV K H i (sr::r)
 | there {sr r v xs} (hq:Src.sq K H xs sr) (hx:xs[i]? =some v) (t:StV K H i r):StV K H i (sr::r)
noncomputable def Itz (K:PySem.W.Frag) (ls:List Src):It:=
 ⟨λi H=>∃us,DrV K H i ls us,λi H v H'=>∃p us,v=.ref p/\H p=none/\H'=upd H p (.tup us)/\∀us',DrV K H i ls us'->us'=us,λi H=>StV K H i ls⟩
theorem DrV.length {us:List V} (d:DrV K H i ls us):us.length=ls.length:=by
 induction d with
 | nil=>rfl
 | cons _ _ _ ih=>simp [ih]
section
variable {X:Cx} {pins:List (Addr×Obj)} {σ:St} {H:Hp} {s:Shared}
theorem DrV.inj (I:Inv X pins σ H s) :∀{ls:List Src} {us us':List V},DrV X.K H i ls us->DrV X.K H i ls us'->us=us'
 | [],_,_,d,d'=>by cases d;cases d';rfl
 | sr::ls,_,_,d,d'=>by
  cases d with
  | cons hq hx t=>
   cases d' with
   | cons hq' hx' t'=>
    have e:=Src.sq.inj I hq hq';subst e;rw [hx] at hx';cases hx';rw [DrV.inj I t t']
theorem DrV.drw (I:Inv X pins σ H s) :∀{l:List (Src×Addr)} {us:List V},DrV X.K H i (l.map (·.1)) us->(∀q∈l,q.1.it s.heap q.2 i)->∃ws,Drw s.heap i l ws/\Vals us ws
 | [],us,d,h=>by cases d;exact ⟨[],.nil,.nil⟩
 | (sr,p)::l,us,d,h=>by
  cases d with
  | cons hq hx t=>
   obtain ⟨its,rv,hv,hz⟩:=Src.sq.val I hq;obtain ⟨u,hu,ru⟩:=rv.get hx;obtain ⟨ws,d',r'⟩:=DrV.drw I t λq hq=>h q (zJ _ hq)
   exact ⟨u::ws,.cons (h (sr,p) zW) hv (by simpa using hu) d',.cons ru r'⟩
theorem StV.drw (I:Inv X pins σ H s) :∀{l:List (Src×Addr)},StV X.K H i (l.map (·.1))->(∀q∈l,q.1.it s.heap q.2 i)->DrwE s.heap i l
 | [],d,h=>by cases d
 | (sr,p)::l,d,h=>by
  cases d with
  | here hq hx=>
   obtain ⟨its,rv,hv,hz⟩:=Src.sq.val I hq;have hl:=rv.length;exact .here (h (sr,p) zW) hv (by simp;lia)
  | there hq hx t=>
   obtain ⟨its,rv,hv,hz⟩:=Src.sq.val I hq;obtain ⟨u,hu,ru⟩:=rv.get hx;exact .there (h (sr,p) zW) hv (by simpa using hu) (StV.drw I t λq hq=>h q (zJ _ hq))
end
theorem ZIu {P:Program} {x1} {pos:Pos} (l:List (Src×Addr)) (z TI TO:Addr) (a:ApZ TO l) (zz:z≠TO/\(∀q∈l,q.2≠z/\q.1.adr≠z)) (tt:TI≠z/\TI≠TO/\∀q∈l,q.2≠TI) (hsz:l.length<=1000000) (hne:l≠ []):
  Turn P w K (.Tuple elts x1 pos) (Itz K (l.map (·.1))) (z::TI::TO::l.map (·.2)) z
   (λi h=>IsZip h z TI TO .none/\Tp h TI (l.map λq=>Value.ref q.2)/\(∃os,Tp h TO os/\os.length=l.length)/\∀q∈l,q.1.it h q.2 i) where
 mem:=by simp
 obj:=λi h st b hb=>by
  obtain ⟨hz,hTI,⟨os,hTO,_⟩,hi⟩:=st;rcases zx.mp hb with rfl | hb
  ·exact ⟨_,hz,λv z=>by cases z⟩
  ·rcases zx.mp hb with rfl | hb
   ·exact ⟨_,hTI,λv z=>by cases z⟩
   ·rcases zx.mp hb with rfl | hb
    ·exact ⟨_,hTO,λv z=>by cases z⟩
    ·obtain ⟨q,hq,rfl⟩:=zH.mp hb;obtain ⟨o,ho,_,hd⟩:=hi q hq;exact ⟨o,ho,λv z=>by rw [hd] at z;cases z⟩
 keep:=λi h h' st k=>by obtain ⟨hz,hTI,⟨os,hTO,ho⟩,hi⟩:=st;exact ⟨k z (by simp) _ hz,k TI (by simp) _ hTI,⟨os,k TO (by simp) _ hTO,ho⟩,λq hq=>(hi q hq).at λo e=>k q.2 (by simp only [zx];exact .inr (.inr (.inr (zH.mpr ⟨q,hq,rfl⟩)))) o e⟩
 item:=by
  intro X hP hw hK hc i pins s σ H E I hf st hg;subst hP hw hK;obtain ⟨us,dv⟩:=hg;obtain ⟨hz,hTI,⟨os,hTO,ho⟩,hi⟩:=st;obtain ⟨ws,dw,rv⟩:=DrV.drw I dv hi;refine ZNX hz hTI hTO ho hsz hne a zz dw λh1 z1 t1 i1 p1 s1 k1=>⟨_,rfl,?_⟩
  refine wpAny_letOwnedTupleGo_zip (s:={s with heap:=h1}) z1 λh2 z2 sb=> ?_
  have hpz:s.heap.objs.size≠z:=qN (zw hz);have hul:us.length<=sizeLine:=by rw [dv.length,zT];exact z5 hsz size6
  have I2:Inv X pins σ (upd H s.heap.objs.size (.tup us)) {s with heap:=h2}:=
   ZIO (t':=s.toks) (fp:=z::TI::TO::l.map (·.2)) (its:=ws) I (λb o hb q=>by simp only [zx,not_or] at hb;exact sb.extBut b o hb.1 (k1 b o hb.1 hb.2.2.1 hb.2.2.2 q)) hf (zK _) hul rv (sb.extBut _ _ hpz p1)
  have hfr:H s.heap.objs.size=none:=I.hok.fresh (zK _)
  have up:∀b o,b≠z->b≠TO->b ∉ l.map (·.2)->s.heap.get? b=some o->h2.get? b=some o:=λb o b1 b2 b3 q=>sb.extBut b o b1 (k1 b o b1 b2 b3 q)
  refine ⟨.ref s.heap.objs.size,_,I2,rfl,⟨_,us,rfl,hfr,rfl,λus' d'=>DrV.inj I d' dv⟩,⟨z2,up TI _ tt.1 tt.2.1 (λhm=> ?_) hTI,⟨ws,sb.extBut _ _ (Ne.symm zz.1) t1,dw.length⟩,λq hq=>(i1 q hq).at λo e=>sb.extBut _ _ (zz.2 q hq).1 e⟩,λb hb=> ?_⟩
  ·obtain ⟨q,hq,e⟩:=zH.mp hm;exact tt.2.2 q hq e
  ·rw [Bf (λe=> ?_)]
   ·exact (hf b hb).1
   ·have lt:b < s.heap.objs.size:=by
     rcases zx.mp hb with rfl | hb
     ·exact zw hz
     ·rcases zx.mp hb with rfl | hb
      ·exact zw hTI
      ·rcases zx.mp hb with rfl | hb
       ·exact zw hTO
       ·obtain ⟨q,hq,rfl⟩:=zH.mp hb;exact (hi q hq).lt
    rw [e] at lt;exact zS _ lt
 done:=by
  intro X hP hw hK hc i pins s σ H E I hf st hg;subst hP hw hK;obtain ⟨hz,hTI,⟨os,hTO,ho⟩,hi⟩:=st;have dw:=StV.drw I hg hi;refine ZMH (I.ok.hd hc) hz hTI hTO ho hsz hne a zz dw λh1 k1=>⟨rfl,?_⟩
  exact Zb (t':=s.toks) (fp:=z::TI::TO::l.map (·.2)) I (λb o hb q=>by simp only [zx,not_or] at hb;exact k1 b o hb.1 hb.2.2.1 hb.2.2.2 q) hf
 self:=λ_ _ _ _ _ st h=>wpAny_pyIter_zip st.1 h
noncomputable def Hy (G:DH) (j:Nat):List D->Option (Option (List D))
 | []=>some (some [])
 | d::r=>match Cj d G with
  | none=>none
  | some xs=>match xs[j]? with
   | none=>some none
   | some x=>match Hy G j r with
    | some (some ys)=>some (some (x::ys))
    | o=>o
def Hv (ds:List D) (j:Nat) (G:DH):Option (Option D):=(Hy G j ds).map λo=>o.map D.tup
def lenOf (G:DH) (d:D):Nat:=match Cj d G with
 | some xs=>xs.length
 | none=>0
def K9 (G:DH) (d:D):Bool:=(Cj d G).isSome
noncomputable def Eu (n:Int) (d:D) (j:Nat) (G:DH):Option (Option D):=match Cj d G with
 | none=>none
 | some xs=>some (xs[j]?.map λx=>.tup [.int (n + j),x])
noncomputable def J8 (ds:List D) (G:DH):R ItD:=match ds with
 | [d]=>if K9 G d=true then .ok (.fn (lenOf G d) (Eu 0 d)) G else .bad
 | _=>.bad
noncomputable def J0 (n:Nat) (ds:List D) (G:DH):R ItD:=if ds.all (K9 G)=true/\ds.length=n then .ok (.fn (lenOf G (ds.headD .non)) (Hv ds)) G else .bad
section
variable {X:Cx} {E:XK}
theorem ZBB {G:DH} {d:D} {v:V} {xs:List D} (s:Sim a G) (r:Rep a d v) (h:Cj d G=some xs):
  ∃sr:Src,v=.ref sr.adr/\(∃vs,sr.sq a.K a.H vs)/\∀b:Wd,Ext a b->∀G',Sim b G'->∀ys,Cj d G'=some ys->∃us,sr.sq b.K b.H us/\Reps b ys us:=by
 cases d with
 | tup ds=>
  obtain ⟨p,vs,rfl,hq,rv⟩:=r;refine ⟨.t p,rfl,⟨vs,hq⟩,λb x G' s' ys hy=> ?_⟩
  cases (show some ds=some ys from hy)
  exact ⟨vs,x.sqT hq,rv.mono x⟩
 | fl ds=>
  obtain ⟨p,vs,rfl,hq,rv⟩:=r;refine ⟨.l p,rfl,⟨vs,hq.sq⟩,λb x G' s' ys hy=> ?_⟩
  cases (show some ds=some ys from hy)
  exact ⟨vs,(x.fzL hq).sq,rv.mono x⟩
 | ref i=>
  obtain ⟨hi,rfl⟩:=r;have hx:∃zs,G[i]? =some (.lst zs):=by
   unfold Cj at h;dsimp only at h;split at h
   ·rename_i zs hz;exact ⟨zs,hz⟩
   ·cases h
  obtain ⟨zs,hz⟩:=hx;obtain ⟨vs,e1,_⟩:=s.lst hz;refine ⟨.l (a.m i),rfl,⟨vs,.of e1⟩,λb x G' s' ys hy=> ?_⟩;unfold Cj at hy;dsimp only at hy;split at hy
  ·rename_i zs' hz';cases hy;obtain ⟨us,e2,r2⟩:=s'.lst hz';rw [x.m i hi] at e2;exact ⟨us,.of e2,r2⟩
  ·cases hy
 | _=>cases h
theorem ZP6 {G:DH} {d:D} {v:V} (hk:a.K=X.K) (rd:∀b:Wd,Ext a b->∀G',Sim b G'->∀ys,Cj d G'=some ys->∃us,sr.sq b.K b.H us/\Reps b ys us) (n:Nat):RepI a (.fn n (Eu 0 d)) (Ite X.K sr 0):=by
 intro b x G' s' i;have kb:b.K=X.K:=x.k.trans hk;constructor
 ·intro e he;unfold Eu at he;split at he
  ·cases he
  ·rename_i ys hy;obtain ⟨us,hq,ru⟩:=rd b x G' s' ys hy;rw [kb] at hq;cases hyi:ys[i]? with
   | none=>rw [hyi] at he;cases he
   | some y=>
    rw [hyi] at he;have he':D.tup [.int (0 + i),y]=e:=by simpa using he
    subst he';obtain ⟨u,hu,rx⟩:=ru.get hyi;refine ⟨⟨us,u,hq,hu⟩,?_⟩;rintro w H' ⟨p,u',rfl,hp,rfl,hu'⟩;refine ⟨b.put p (.tup [.int (0 + i),u']),rfl,Ext.put hp,s'.put hp,p,_,rfl,.of Gz,?_⟩;have e1:=hu' us hq;rw [hu] at e1;cases e1;exact ⟨_,_,rfl,rfl,Reps.cons (rx.mono (Ext.put hp)) rfl⟩
 ·intro he;unfold Eu at he;split at he
  ·cases he
  ·rename_i ys hy;obtain ⟨us,hq,ru⟩:=rd b x G' s' ys hy;rw [kb] at hq;cases hyi:ys[i]? with
   | none=>exact ⟨us,hq,by rw [<-ru.length];exact qD.mp hyi⟩
   | some y=>rw [hyi] at he;cases he
theorem Rp {elts:List Expr} {x1} {tp:Pos} {e:Expr} {p pos:Pos} (hg:Gl X "enumerate") (hm:X.mg "enumerate"=none) (ha:QA X E [e] ta) (hs:starEach [e] X.env= [(false,eval e X.env)]:=by rfl):
  QI X E (.Tuple elts x1 tp) (.Call (.Name "enumerate" p) [e] [] pos) (Cv J8 ta):=(ZOn hg hm ha hs).mono λσ H Q h=>by
 obtain ⟨a,S,G,hk,rfl,s,r,h⟩:=h;refine ⟨a,S,G,hk,rfl,s,r,(Ro h).imp ?_⟩;rintro vs _ ⟨b,ds,G1,rfl,x,s1,q,-,h1⟩;unfold J8 at h1;split at h1
 ·rename_i d;split at h1
  ·rename_i hok;obtain ⟨v,r,e1,q1,q2⟩:=q
   cases (show r= [] from q2)
   subst e1
   obtain ⟨xs,hx⟩:=jX.mp (show (Cj d G1).isSome=true from hok)
   obtain ⟨sr,rfl,⟨us,hq⟩,rd⟩:=ZBB s1 q1 hx;have kb:b.K=X.K:=x.k.trans hk;exact ⟨sr,us,rfl,by rw [<-kb];exact hq,h1 b _ (Ext.refl b) s1 (ZP6 (G:=G1) (v:=.non) kb rd _)⟩
  ·exact h1.elim
 ·exact h1.elim
theorem ZGz {G:DH} (s:Sim a G):∀{ds:List D} {vs:List V},Reps a ds vs->ds.all (K9 G)=true->∃ls:List Src,vs=ls.map (λsr=>V.ref sr.adr)/\(∀sr∈ls,∃us,sr.sq a.K a.H us)/\
   ∀b:Wd,Ext a b->∀G',Sim b G'->∀i,(∀ys,Hy G' i ds=some (some ys)->∃us,DrV b.K b.H i ls us/\Reps b ys us)/\(Hy G' i ds=some none->StV b.K b.H i ls)
 | [],vs,r,_=>by
  cases (show vs= [] from r)
  refine ⟨[],rfl,(λ_ h=>nomatch h),λb x G' s' i=>⟨λys h=> ?_,λh=> ?_⟩⟩
  ·cases h;exact ⟨[],.nil,rfl⟩
  ·cases h
 | d::ds,vs,r,h=>by
  rw [j1,zF] at h;obtain ⟨v,vr,rfl,q1,q2⟩:=r
  obtain ⟨xs,hx⟩:=jX.mp (show (Cj d G).isSome=true from h.1)
  obtain ⟨sr,rfl,hq,rd⟩:=ZBB s q1 hx;obtain ⟨ls,rfl,hqs,rds⟩:=ZGz s q2 h.2;refine ⟨sr::ls,rfl,λsr' hm=> ?_,λb x G' s' i=>⟨λys hy=> ?_,λhy=> ?_⟩⟩
  ·rcases zx.mp hm with rfl | hm
   ·exact hq
   ·exact hqs sr' hm
  ·unfold Hy at hy;split at hy
   ·cases hy
   ·rename_i zs hz;obtain ⟨us,hu,ru⟩:=rd b x G' s' zs hz;split at hy
    ·cases hy
    ·rename_i y hyi;obtain ⟨u,hui,rx⟩:=ru.get hyi;split at hy
     ·rename_i ys' hys;cases hy;obtain ⟨us',d',r'⟩:=(rds b x G' s' i).1 ys' hys;exact ⟨u::us',.cons hu hui d',Reps.cons rx r'⟩
     ·rename_i hno;exact absurd hy (hno _)
  ·unfold Hy at hy;split at hy
   ·cases hy
   ·rename_i zs hz;obtain ⟨us,hu,ru⟩:=rd b x G' s' zs hz;split at hy
    ·rename_i hyi;exact .here hu (by rw [<-ru.length];exact qD.mp hyi)
    ·rename_i y hyi;obtain ⟨u,hui,rx⟩:=ru.get hyi;split at hy
     ·cases hy
     ·exact .there hu hui ((rds b x G' s' i).2 hy)
theorem ZMl {ds:List D} (hk:a.K=X.K) (rd:∀b:Wd,Ext a b->∀G',Sim b G'->∀i,(∀ys,Hy G' i ds=some (some ys)->∃us,DrV b.K b.H i ls us/\Reps b ys us)/\(Hy G' i ds=some none->StV b.K b.H i ls)) (n:Nat):
  RepI a (.fn n (Hv ds)) (Itz X.K ls):=by
 intro b x G' s' i;have kb:b.K=X.K:=x.k.trans hk;constructor
 ·intro e he;unfold Hv at he;cases hz:Hy G' i ds with
  | none=>rw [hz] at he;cases he
  | some o=>
   cases o with
   | none=>rw [hz] at he;cases he
   | some ys=>
    rw [hz] at he;have he':D.tup ys=e:=by simpa using he
    subst he';obtain ⟨us,d,ru⟩:=(rd b x G' s' i).1 ys hz;rw [kb] at d;refine ⟨⟨us,d⟩,?_⟩;rintro w H' ⟨p,us',rfl,hp,rfl,hu'⟩;cases hu' us d;exact ⟨b.put p (.tup us),rfl,Ext.put hp,s'.put hp,p,us,rfl,.of Gz,ru.mono (Ext.put hp)⟩
 ·intro he;unfold Hv at he;cases hz:Hy G' i ds with
  | none=>rw [hz] at he;cases he
  | some o=>
   cases o with
   | none=>
    have:=(rd b x G' s' i).2 hz;rw [kb] at this;exact this
   | some ys=>rw [hz] at he;cases he
noncomputable def ZBm (n:Nat) (K:PySem.W.Frag) (ta:TA):TI:=λσ H R=>ta σ H λvs H1=>∃ls:List Src,vs=ls.map (λsr=>V.ref sr.adr)/\(∀sr∈ls,∃us,sr.sq K H1 us)/\ls.length=n/\R (Itz K ls) H1
theorem ZCh:∀{ls:List Src} {us:List Value},Vals (ls.map λsr=>V.ref sr.adr) us->us=ls.map λsr=>Value.ref sr.adr
 | [],us,h=>by cases h;rfl
 | sr::ls,us,h=>by
  rw [zC] at h;cases h with
  | cons r rr=>
   cases r;rw [ZCh rr]
   rfl
theorem W6 {n:Nat} {q:Src×Nat} (h:q∈ls.zipIdx n):q.1∈ls/\n<=q.2/\q.2 < n + ls.length:=by obtain ⟨i,hi,rfl⟩:=q8 h;simp only [List.length_zipIdx] at hi;simp only [List.getElem_zipIdx];exact ⟨qJ hi,by lia,by lia⟩
theorem ZEy {x1} {tp:Pos} {R:It->Hp->Prop} (I:Inv X pins σ H s) (hq:∀sr∈ls,∃us,sr.sq X.K H us) (hne:ls≠ []) (hl:ls.length<=1000000)
  (hct:checkTypeCall "zip" ⟨ls.map λsr=>Value.ref sr.adr,[]⟩=pure ()) (hcn:checkBuiltinCall "zip.__new__" ⟨.type "zip"::ls.map λsr=>Value.ref sr.adr,[]⟩=pure ()) (hok:∀obj,argsOk "object.__init__" ⟨obj::ls.map λsr=>Value.ref sr.adr,[]⟩)
  (q:R (Itz X.K ls) H):wpAny (model X.prog X.w) X.A (call (.type "zip") (ls.map λsr=>Value.ref sr.adr)) (λv s1=>wpAny (model X.prog X.w) X.A (pyIter v) (PIE X pins σ (.Tuple elts x1 tp) R) X.xe s1) X.xe s:=by
 have hv:∀sr∈ls,∃xs,sr.val s.heap xs:=λsr hm=>by obtain ⟨us,h⟩:=hq sr hm;obtain ⟨its,_,h',_⟩:=Src.sq.val I h;exact ⟨_,h'⟩
 have hlt:∀sr∈ls,sr.adr < s.heap.objs.size:=λsr hm=>by obtain ⟨xs,h⟩:=hv sr hm;obtain ⟨o,n,ho,_⟩:=h.obj;exact zw ho
 refine ZMM hv hl hct hcn hok λh' n hn hz hTI hTO hi kp=> ?_
 refine wpAny_pyIter_zip hz ?_;have I2:Inv X pins σ H {s with heap:=h'}:=I.kept (t':=s.toks) kp
 have em:(ls.zipIdx s.heap.objs.size).map (·.1)=ls:=by refine qF (by simp) λi h1 h2=>by simp
 have e2:(ls.zipIdx s.heap.objs.size).map (·.2)=List.range' s.heap.objs.size ls.length:=by refine qF (by simp) λi h1 h2=>by simp [Nat.add_comm]
 have qb:∀q∈ls.zipIdx s.heap.objs.size,q.1.adr < s.heap.objs.size/\s.heap.objs.size<=q.2/\q.2 < n:=λq hm=>⟨hlt _ (W6 hm).1,(W6 hm).2.1,by rw [hn];exact (W6 hm).2.2⟩
 have hsn:s.heap.objs.size<=n:=by rw [hn];exact jG _ _
 have ap:ApZ (n + 1) (ls.zipIdx s.heap.objs.size):=⟨by rw [e2];exact List.nodup_range',λq hm=>zB (zq (qb q hm).1 (Nat.le_succ_of_le hsn)),λq hm r hr=>zB (zq (qb q hm).1 (qb r hr).2.1),λq hm=>zB (qB (qb q hm).2.2)⟩;have T:=ZIu (P:=X.prog) (w:=X.w) (K:=X.K) (elts:=elts) (x1:=x1) (pos:=tp) (ls.zipIdx s.heap.objs.size) (n + 2) n (n + 1) ap ⟨Nat.succ_ne_self (n + 1),λq hm=>⟨zB (zq (qb q hm).2.2 (jG n 2)),zB (zq (qb q hm).1 (z5 hsn (jG n 2)))⟩⟩
  ⟨zB (Nat.lt_add_of_pos_right (by decide)),zB (qK n),λq hm=>zB (qb q hm).2.2⟩ (by simpa using hl) (by intro e;apply hne;rw [<-em,e];rfl)
 rw [em] at T;refine ⟨n + 2,_,_,_,H,rfl,I2,T,⟨hz,hTI,⟨_,hTO,by simp⟩,hi⟩,λb hb=> ?_,q⟩;have hle:s.heap.objs.size<=b:=by
  rcases zx.mp hb with rfl | hb
  ·exact z5 hsn (jG n 2)
  ·rcases zx.mp hb with rfl | hb
   ·exact hsn
   ·rcases zx.mp hb with rfl | hb
    ·exact Nat.le_succ_of_le hsn
    ·obtain ⟨q,hq,rfl⟩:=zH.mp hb;exact (W6 hq).2.1
 exact I.K3 hle (I.hok.fresh hle)
theorem ZJx (a b c:Value):checkTypeCall "zip" ⟨[a,b,c],[]⟩=pure ():=by kernel_rfl
theorem ZK5 (a b c:Value):checkBuiltinCall "zip.__new__" ⟨[.type "zip",a,b,c],[]⟩=pure ():=by kernel_rfl
theorem ZNe (a b c d:Value):argsOk "object.__init__" ⟨[a,b,c,d],[]⟩:=by unfold argsOk;rw [signature?_of (id:="object.__init__") (n:= ['_','_','t','i','n','i','_','_']) (o:= ['t','c','e','j','b','o']) (by kernel_rfl) PySem.F.owner_object];kernel_rfl
theorem ZMK {elts:List Expr} {x1} {tp:Pos} {a b:Expr} {ta:TA} {p pos:Pos} (hg:Gl X "zip") (hm:X.mg "zip"=none) (ha:PA X [a,b] ta) (hs:starEach [a,b] X.env= [(false,eval a X.env),(false,eval b X.env)]:=by rfl) (hs2:starEach [b] X.env= [(false,eval b X.env)]:=by rfl):
  PI X (.Tuple elts x1 tp) (.Call (.Name "zip" p) [a,b] [] pos) (ZBm 2 X.K ta):=by
 intro pins s σ H R I h;refine Call_ (Jb I hg hm PyProof.Rows.boot_zip (PyProof.Rows.callWith_type1 (thn (ha pos pins s σ H _ I h) λus s1 ⟨vs,H1,I1,r1,q1⟩=> ?_) (by rw [hs,hs2]) (by rw [hs2];rfl)));obtain ⟨ls,rfl,hq,hl,q⟩:=q1;cases ZCh r1
 match ls,hl with
 | [x,y],_=>exact ZEy I1 hq (by simp) (by simp) (PySem.F.typeCall_zip_2 _ _) (PySem.F.newCall_zip_2 _ _) (λobj=>PySem.F.args_object_init_3 obj _ _) q
theorem ZJL {elts:List Expr} {x1} {tp:Pos} {a b c:Expr} {ta:TA} {p pos:Pos} (hg:Gl X "zip") (hm:X.mg "zip"=none) (ha:PA X [a,b,c] ta) (hs:starEach [a,b,c] X.env= [(false,eval a X.env),(false,eval b X.env),(false,eval c X.env)]:=by rfl)
  (hs2:starEach [b,c] X.env= [(false,eval b X.env),(false,eval c X.env)]:=by rfl):PI X (.Tuple elts x1 tp) (.Call (.Name "zip" p) [a,b,c] [] pos) (ZBm 3 X.K ta):=by
 intro pins s σ H R I h;refine Call_ (Jb I hg hm PyProof.Rows.boot_zip (PyProof.Rows.callWith_type1 (thn (ha pos pins s σ H _ I h) λus s1 ⟨vs,H1,I1,r1,q1⟩=> ?_) (by rw [hs,hs2]) (by rw [hs2];rfl)));obtain ⟨ls,rfl,hq,hl,q⟩:=q1;cases ZCh r1
 match ls,hl with
 | [x,y,z],_=>exact ZEy I1 hq (by simp) (by simp) (ZJx _ _ _) (ZK5 _ _ _) (λobj=>ZNe obj _ _ _) q
theorem ZDQ {n:Nat} {Q:It->Hp->Prop} (hK:K=X.K) (h:lI K E (Cv (J0 n) ta) σ H Q):ZBm n K (lA K E ta) σ H Q:=by
 subst hK;obtain ⟨a,S,G,hk,rfl,s,r,h⟩:=h;refine ⟨a,S,G,hk,rfl,s,r,(Ro h).imp ?_⟩;rintro vs _ ⟨b,ds,G1,rfl,x,s1,q,-,h1⟩;unfold J0 at h1;split at h1
 ·rename_i hok;obtain ⟨ls,e,hq,rd⟩:=ZGz s1 q hok.1;have kb:b.K=X.K:=x.k.trans hk;have hl:ls.length=n:=by have:=q.length;rw [e,zT] at this;lia
  exact ⟨ls,e,λsr hm=>by rw [<-kb];exact hq sr hm,hl,h1 b _ (Ext.refl b) s1 (ZMl kb rd _)⟩
 ·exact h1.elim
theorem ZGl {elts:List Expr} {x1} {tp:Pos} {a b:Expr} {p pos:Pos} (hg:Gl X "zip") (hm:X.mg "zip"=none) (ha:QA X E [a,b] ta) (hs:starEach [a,b] X.env= [(false,eval a X.env),(false,eval b X.env)]:=by rfl) (hs2:starEach [b] X.env= [(false,eval b X.env)]:=by rfl):
  QI X E (.Tuple elts x1 tp) (.Call (.Name "zip" p) [a,b] [] pos) (Cv (J0 2) ta):=(ZMK hg hm ha hs hs2).mono λσ H Q h=>ZDQ rfl h
theorem ZM6 {elts:List Expr} {x1} {tp:Pos} {a b c:Expr} {p pos:Pos} (hg:Gl X "zip") (hm:X.mg "zip"=none) (ha:QA X E [a,b,c] ta) (hs:starEach [a,b,c] X.env= [(false,eval a X.env),(false,eval b X.env),(false,eval c X.env)]:=by rfl)
  (hs2:starEach [b,c] X.env= [(false,eval b X.env),(false,eval c X.env)]:=by rfl):QI X E (.Tuple elts x1 tp) (.Call (.Name "zip" p) [a,b,c] [] pos) (Cv (J0 3) ta):=(ZJL hg hm ha hs hs2).mono λσ H Q h=>ZDQ rfl h
end
noncomputable def ixL:D->D->DH->R D
 | .ref p,.int k,G=>match G[p]? with
  | some (.lst xs)=>match atI xs k with
   | some v=>.ok v G
   | none=>.bad
  | _=>.bad
 | _,_,_=>.bad
noncomputable def Om (to ti te:DE) (f:D->D->DH->R D):DS:=λS G=>(to S G).toS λo G1=>(ti S G1).toS λi G2=>(ixL o i G2).toS λx G3=>(te S G3).toS λy G4=>(f x y G4).toS λz G5=>(Lg o i z G5).toS λ_ G6=>.nx S G6
def sBad:DS:=λ_ _=>.bad
section
variable {X:Cx} {E:XK}
theorem ZLR {st:Stmt}:QS X E st sBad:=λpins s σ H W I h=>by obtain ⟨a,S,G,hk,rfl,sm,r,h⟩:=h;exact h.elim
theorem Wn {o i e:Expr} {op:Operator} {to ti te:DE} {f:D->D->DH->R D} {tpos pos:Pos} (ho:QE X E o to) (hi:QE X E i ti) (he:QE X E e te) (hop:OpR X (inplaceOp op) (lR2 X.K E f))
  (ha:∀ov iv new,augStore i ov iv new=(do holding [new,ov,iv] (setItem ov iv new);release [new,ov,iv] [];pure .next):=by intros;rfl):QS X E (.AugAssign (.Subscript o i tpos) op e pos) (Om to ti te f):=by
 intro pins s σ H W I h;obtain ⟨a,S,G,hk,rfl,sm,r,h⟩:=h;refine wpAny_AugAssign_SubscriptAny (thn (ho pins s σ a.H _ I ⟨a,S,G,hk,rfl,sm,r,Hz h⟩) ?_) ha;rintro ov s1 ⟨vo,H1,I1,ro,b1,o,G1,rfl,x1,m1,q1,_,h1⟩;have k1:=x1.k.trans hk;refine thn (hi pins s1 σ b1.H _ I1 ⟨b1,S,G1,k1,rfl,m1,r.mono x1,Hz h1⟩) ?_;rintro iv s2 ⟨vi,H2,I2,ri,b2,i,G2,rfl,x2,m2,q2,_,h2⟩;have k2:=x2.k.trans k1;have q1':=q1.mono x2;cases i with
 | int k=>
  cases o with
  | ref p=>
   obtain ⟨hp,rfl⟩:=q1'
   cases (show vi=V.int k from q2)
   cases ro;obtain ⟨t,rfl⟩:=ri;unfold ixL at h2;dsimp only at h2;split at h2
   ·rename_i xs hx';obtain ⟨vs,e1,r1⟩:=m2.lst hx';split at h2
    ·rename_i d hd;obtain ⟨v,ev,rd⟩:=ZHu r1 hd;have h2':Dg E b2 ((te S G2).toS λy G4=>(f d y G4).toS λz G5=>(Lg (.ref p) (.int k) z G5).toS λ_ G6=>.nx S G6) W:=h2;obtain ⟨its,rv,pl,hz⟩:=I2.list (.of e1);obtain ⟨j,g1,g2,g3,g4,g5⟩:=Vo ev;obtain ⟨w,ew,rw'⟩:=rv.get g2;have hl:=rv.length;have hn:=line63;have fin:wpAny (model X.prog X.w) X.A (getItem (.ref (b2.m p)) (.int k t)) (λold s3=>old=w/\s3=s2) X.xe s2:=by
      by_cases h0:0<=k
      ·have hj:k.toNat=j:=by rw [seqIndex_of h0 g5] at g1;exact Option.some.inj g1
       exact wpAny_getItem_list pl.isList h0 (by lia) (by rw [hj];simpa using ew) ⟨rfl,rfl⟩
      ·have hj:(k + (its.toArray.size:Int)).toNat=j:=by rw [seqIndex_neg (by lia) g4] at g1;rw [zY,<-hl];exact Option.some.inj g1
       exact wpAny_getItem_list_neg pl.isList (by lia) (by rw [zY] <;> lia) (by lia) (by rw [hj];simpa using ew) ⟨rfl,rfl⟩
     refine thn fin ?_;rintro old s3 ⟨rfl,rfl⟩;refine thn (he pins s3 σ b2.H _ I2 ⟨b2,S,G2,k2,rfl,m2,(r.mono x1).mono x2,Hz h2'⟩) ?_;rintro yv s4 ⟨vy,H4,I4,ry,b4,y,G4,rfl,x4,m4,q4,_,h4⟩;have k4:=x4.k.trans k2;refine thn (hop pins s4 σ b4.H v vy old yv _ I4 rw' ry ⟨b4,G4,d,y,k4,rfl,m4,rd.mono x4,q4,Hz h4⟩) ?_;rintro new s5 ⟨vn,H5,I5,rn,b5,z,G5,rfl,x5,m5,q5,_,h5⟩;unfold Lg at h5;dsimp only at h5;split at h5
     ·rename_i ys hy;split at h5
      ·rename_i jj hjj;obtain ⟨ws,e5,r5⟩:=m5.lst hy;have hp5:p < b5.n:=zq hp (z5 x4.n x5.n);have em:b5.m p=b2.m p:=(x5.m p (zq hp x4.n)).trans (x4.m p hp);obtain ⟨x6,m6⟩:=ZC1 m5 hp5 e5 (r5.set q5 jj);refine thn (set_list pins s5 σ b5.H (.ref (b2.m p)) (.int k) vn (.ref (b2.m p)) (.int k t) new (λH'=>W.nx σ H') I5 rfl ⟨t,rfl⟩ rn ⟨b5.m p,ws,k,jj,by rw [em],rfl,e5,by rw [<-r5.length];exact hjj,?_⟩) ?_
       ·exact h5 _ σ x6 m6 (((((r.mono x1).mono x2).mono x4).mono x5).mono x6)
       ·rintro _ s6 ⟨H6,I6,q6⟩;exact ⟨σ,H6,I6,q6⟩
      ·exact h5.elim
     ·exact h5.elim
    ·exact h2.elim
   ·exact h2.elim
  | _=>exact (show False from h2).elim
 | _=>cases o <;> exact (show False from h2).elim
end
noncomputable def Qa (ds:List D) (G:DH):R D:=match ds with
 | [d]=>match Cj d G with
  | some xs=>match Hc xs with
   | some (n::ns)=>.ok (.int (ns.foldl min n)) G
   | _=>.bad
  | none=>.bad
 | _=>.bad
noncomputable def Pb (ds:List D) (G:DH):R D:=match ds with
 | [d]=>match Cj d G with
  | some xs=>match Hc xs with
   | some (n::ns)=>.ok (.int (ns.foldl max n)) G
   | _=>.bad
  | none=>.bad
 | _=>.bad
theorem X5:∀(ns:List Int) (n:Int),ns.foldl min n<=n/\(∀x∈ns,ns.foldl min n<=x)/\(ns.foldl min n=n∨ns.foldl min n∈ns)
 | [],n=>⟨zE _,λx h=>(by cases h),.inl rfl⟩
 | m::ns,n=>by
  obtain ⟨h1,h2,h3⟩:=X5 ns (min n m);rw [jI];refine ⟨by lia,λx hx=> ?_,?_⟩
  ·rcases zx.mp hx with rfl | hx
   ·lia
   ·exact h2 x hx
  ·rcases h3 with h | h
   ·by_cases e:n<=m
    ·exact .inl (by rw [h];lia)
    ·exact .inr (by rw [h];rw [show min n m=m by lia];exact zW)
   ·exact .inr (zJ _ h)
theorem ZDc:∀(ns:List Int) (n:Int),n<=ns.foldl max n/\(∀x∈ns,x<=ns.foldl max n)/\(ns.foldl max n=n∨ns.foldl max n∈ns)
 | [],n=>⟨zE _,λx h=>(by cases h),.inl rfl⟩
 | m::ns,n=>by
  obtain ⟨h1,h2,h3⟩:=ZDc ns (max n m);rw [jI];refine ⟨by lia,λx hx=> ?_,?_⟩
  ·rcases zx.mp hx with rfl | hx
   ·lia
   ·exact h2 x hx
  ·rcases h3 with h | h
   ·by_cases e:m<=n
    ·exact .inl (by rw [h];lia)
    ·exact .inr (by rw [h];rw [show max n m=m by lia];exact zW)
   ·exact .inr (zJ _ h)
section
variable {X:Cx} {E:XK}
theorem intAt {ns:List Int} {its:List Value} {w:Value} (hv:Vals (ns.map V.int) its) (hw:its.toArray[i]? =some w):i < ns.length/\∃t,w=.int (ns.getD i 0) t:=by
 have hw':its[i]? =some w:=by simpa using hw
 have hl:i < (ns.map V.int).length:=by rw [hv.length];exact (zD.mp hw').1
 have hl':i < ns.length:=by simpa using hl
 obtain ⟨u,hu,ru⟩:=hv.get (i:=i) (x:=V.int ns[i]) (by simp [hl']);rw [hw'] at hu;cases hu;obtain ⟨t,rfl⟩:=ru;exact ⟨hl',t,by simp [hl']⟩
theorem ZL9 (hc:X.calm=true):CallR X (.builtin "min") (lRn X.K E Qa):=by
 intro pins s σ H vs us Q I rs h;obtain ⟨a,G,ds,hk,rfl,sm,r,q⟩:=h;unfold Qa at q;split at q
 ·rename_i d;obtain ⟨v,rfl,rv⟩:=reps1 r;split at q
  ·rename_i xs hs;split at q
   ·rename_i n ns hn;cases Wh hn;obtain ⟨p,ws,rfl,h1,r1⟩:=Ny sm rv hs;cases ZCv r1;rw [hk] at h1;obtain ⟨u,rfl,ru⟩:=vals1 rs;cases ru;refine call_min_walk (ZCW I hc h1 λit fp wr its St s₂ hv W st hfp fin=>⟨it,fp,wr,its.toArray.size,_,St,_,rfl,W,st,hfp,?_,CmpOf.ints_lt (λi=>(n::ns).getD i 0) (λi w hw=>(intAt hv hw).2),λw h' tk hw kk=> ?_⟩)
    ·rw [zY,<-hv.length];simp
    ·obtain ⟨hl,t,rfl⟩:=intAt hv hw;obtain ⟨b1,b2⟩:=argBest_lt (λi=>(n::ns).getD i 0) (its.toArray.size - 1);refine ⟨.int (ns.foldl min n),a.H,fin h' tk kk,⟨t,?_⟩,q a _ (Ext.refl a) sm rfl⟩;have hsz:its.toArray.size=ns.length + 1:=by rw [zY,<-hv.length];simp
     obtain ⟨m1,m2,m3⟩:=X5 ns n;have hle:∀x∈n::ns,ns.foldl min n<=x:=λx hx=>by
      rcases zx.mp hx with rfl | hx
      ·exact m1
      ·exact m2 x hx
     have hin:ns.foldl min n∈n::ns:=by
      rcases m3 with h | h
      ·rw [h];exact zW
      ·exact zJ _ h
     obtain ⟨j,hj,ej⟩:=q8 hin;have c1:=b2 j (by simp at hj;lia);have c2:=hle _ (qJ hl);have e1:(n::ns).getD j 0=ns.foldl min n:=by rw [zA,zZ hj];exact ej
     have e2:(n::ns).getD (argBest (λi j=>decide ((λi=>(n::ns).getD i 0) i < (λi=>(n::ns).getD i 0) j)) (its.toArray.size - 1)) 0=(n::ns)[argBest (λi j=>decide ((λi=>(n::ns).getD i 0) i < (λi=>(n::ns).getD i 0) j)) (its.toArray.size - 1)]:=by rw [zA,zZ hl];rfl
     have c1':=c1;rw [e1] at c1';rw [<-e2] at c2
     congr 1
     exact Int.le_antisymm c1' c2
   ·exact q.elim
  ·exact q.elim
 ·exact q.elim
theorem ZNP (hc:X.calm=true):CallR X (.builtin "max") (lRn X.K E Pb):=by
 intro pins s σ H vs us Q I rs h;obtain ⟨a,G,ds,hk,rfl,sm,r,q⟩:=h;unfold Pb at q;split at q
 ·rename_i d;obtain ⟨v,rfl,rv⟩:=reps1 r;split at q
  ·rename_i xs hs;split at q
   ·rename_i n ns hn;cases Wh hn;obtain ⟨p,ws,rfl,h1,r1⟩:=Ny sm rv hs;cases ZCv r1;rw [hk] at h1;obtain ⟨u,rfl,ru⟩:=vals1 rs;cases ru;refine call_max_walk (ZCW I hc h1 λit fp wr its St s₂ hv W st hfp fin=>⟨it,fp,wr,its.toArray.size,_,St,_,rfl,W,st,hfp,?_,CmpOf.ints_gt (λi=>(n::ns).getD i 0) (λi w hw=>(intAt hv hw).2),λw h' tk hw kk=> ?_⟩)
    ·rw [zY,<-hv.length];simp
    ·obtain ⟨hl,t,rfl⟩:=intAt hv hw;obtain ⟨b1,b2⟩:=argBest_gt (λi=>(n::ns).getD i 0) (its.toArray.size - 1);refine ⟨.int (ns.foldl max n),a.H,fin h' tk kk,⟨t,?_⟩,q a _ (Ext.refl a) sm rfl⟩;have hsz:its.toArray.size=ns.length + 1:=by rw [zY,<-hv.length];simp
     obtain ⟨m1,m2,m3⟩:=ZDc ns n;have hle:∀x∈n::ns,x<=ns.foldl max n:=λx hx=>by
      rcases zx.mp hx with rfl | hx
      ·exact m1
      ·exact m2 x hx
     have hin:ns.foldl max n∈n::ns:=by
      rcases m3 with h | h
      ·rw [h];exact zW
      ·exact zJ _ h
     obtain ⟨j,hj,ej⟩:=q8 hin;have c1:=b2 j (by simp at hj;lia);have c2:=hle _ (qJ hl);have e1:(n::ns).getD j 0=ns.foldl max n:=by rw [zA,zZ hj];exact ej
     have e2:(n::ns).getD (argBest (λi j=>decide ((λi=>(n::ns).getD i 0) i > (λi=>(n::ns).getD i 0) j)) (its.toArray.size - 1)) 0=(n::ns)[argBest (λi j=>decide ((λi=>(n::ns).getD i 0) i > (λi=>(n::ns).getD i 0) j)) (its.toArray.size - 1)]:=by rw [zA,zZ hl];rfl
     have c1':=c1;rw [e1] at c1';rw [<-e2] at c2
     congr 1
     exact Int.le_antisymm c2 c1'
   ·exact q.elim
  ·exact q.elim
 ·exact q.elim
noncomputable def Kf:D->D->DH->R D
 | .ref p,.int k,G=>match G[p]? with
  | some (.lst xs)=>if -(2 ^ 63)<=k/\k < 2 ^ 63/\xs.length * k.toNat<=1000000 then .ok (.ref G.length) (G++ [.lst (zV k.toNat xs).flatten]) else .bad
  | _=>.bad
 | _,_,_=>.bad
theorem Reps.rep {ds:List D} {vs:List V} (r:Reps a ds vs):∀k,Reps a (zV k ds).flatten (zV k vs).flatten
 | 0=>rfl
 | k + 1=>by rw [zR,zR,qy,qy];exact r.append (Reps.rep r k)
theorem ZHe:OpR X (binaryOp .Mult) (lR2 X.K E Kf):=ZO6.mono λx y H Q h=>by
 obtain ⟨a,G,d,e,hk,rfl,s,rd,re,q⟩:=h;cases d with
 | ref p=>
  cases e with
  | int k=>
   unfold Kf at q;dsimp only at q;split at q
   ·rename_i xs hx;split at q
    ·rename_i hc;obtain ⟨vs,e1,r1⟩:=s.lst hx;obtain ⟨hp,rfl⟩:=rd;refine ⟨a.m p,k,vs,rfl,re,e1,hc.1,hc.2.1,?_,λp hp=>M5 s (Reps.rep r1 k.toNat) q p hp⟩;rw [<-r1.length];exact z5 hc.2.2 size6
    ·exact q.elim
   ·exact q.elim
  | _=>exact (show False from q).elim
 | _=>exact (show False from q).elim
end
end DL
namespace DL
open PySem PySem.W PyProof.Rows
noncomputable def Safe (n:Nat) {α:Type} (P:α->Prop):KasT α->Prop
 | .ret a=>P a
 | .ask i j k=>i < n/\j < n/\∀b,Safe n P (k b)
theorem Safe.bind {n:Nat} {α β:Type} {f:α->KasT β} {P:α->Prop} {Q:β->Prop} (h2:∀a,P a->Safe n Q (f a)):∀{t:KasT α},Safe n P t->Safe n Q (t.bind f)
 | .ret a,h=>h2 a h
 | .ask _ _ _,h=>⟨h.1,h.2.1,λb=>Safe.bind h2 (h.2.2 b)⟩
def Ents (n:Nat) (p:Array Nat):Prop:=0 < n/\p.Perm (zX n).toArray
theorem Ents.lt {n:Nat} {p:Array Nat} (h:Ents n p) {x:Nat} (hx:x∈p):x < n:=by have:=h.2.mem_iff.mp hx;simpa using this
theorem Ents.pt {n:Nat} {p:Array Nat} (h:Ents n p) (k:Nat):p.getD k 0 < n:=by
 by_cases hk:k < p.size
 ·have:p.getD k 0=p[k]:=by simp [Array.getD,hk]
  rw [this];exact h.lt (Array.getElem_mem hk)
 ·have:p.getD k 0=0:=by simp [Array.getD,hk]
  rw [this];exact h.1
theorem Ents.perm {n:Nat} {p q:Array Nat} (h:Ents n p) (e:q.Perm p):Ents n q:=⟨h.1,e.trans h.2⟩
theorem ZCI {n:Nat} {p:Array Nat} (h:Ents n p):∀f m,Safe n (λ_=>True) (kas_asc p f m)
 | 0,m=>trivial
 | f + 1,m=>⟨h.pt _,h.pt _,λb=>by
   cases b with
   | true=>exact trivial
   | false=>exact ZCI h f (m + 1)⟩
theorem X8 {n:Nat}:∀f {p:Array Nat} m q,Ents n p->Safe n (λr=>Ents n r.1) (kas_desc f p m q)
 | 0,p,m,q,h=>h
 | f + 1,p,m,q,h=>⟨h.pt _,h.pt _,λb=>by
   cases b with
   | true=>
    by_cases hq:q > 0
    ·simp only [if_true,if_pos hq];exact X8 f _ _ (h.perm (mirror_perm ..))
    ·simp only [if_true,if_neg hq];exact X8 f _ _ h
   | false=>
    refine ⟨h.pt _,h.pt _,λd=> ?_⟩;cases d with
    | true=>exact h
    | false=>exact X8 f _ _ h⟩
theorem ZFc {n:Nat} {p:Array Nat} (h:Ents n p) (m k:Nat):Safe n (λr=>Ents n r.2) (kas_tail3 m k p):=by unfold kas_tail3;refine Safe.bind (P:=λ_=>True) (λa _=> ?_) (ZCI (h.perm (mirror_perm ..)) _ _);exact h.perm (mirror_perm ..)
theorem ZF9 {n:Nat} {p:Array Nat} (h:Ents n p) (m k:Nat):Safe n (λr=>Ents n r.2) (kas_descPart m k p):=
 Safe.bind (P:=λr=>Ents n r.1) (λa ha=>by
  split
  ·exact ZFc (ha.perm (mirror_perm ..)) _ _
  ·exact ZFc ha _ _) (X8 _ _ _ h)
theorem ZH7 {n:Nat} {p:Array Nat} (h:Ents n p) (k:Nat):Safe n (λr=>Ents n r.2) (kas_count k p):=
 Safe.bind (P:=λ_=>True) (λa _=>by
  split
  ·exact h
  ·split
   ·refine ⟨h.pt _,h.pt _,λc=> ?_⟩;cases c with
    | true=>exact h
    | false=>exact ZF9 (h.perm (mirror_perm ..)) _ _
   ·exact ZF9 h _ _) (ZCI h _ _)
theorem Yb {n:Nat} {p:Array Nat} (h:Ents n p) (k:Nat):∀f l r,Safe n (λ_=>True) (kas_place p k f l r)
 | 0,l,r=>trivial
 | f + 1,l,r=>by
  unfold kas_place;split
  ·trivial
  ·refine ⟨h.pt _,h.pt _,λc=> ?_⟩;cases c with
   | true=>exact Yb h k f _ _
   | false=>exact Yb h k f _ _
theorem ZHP {n:Nat}:∀f {p:Array Nat} k,Ents n p->Safe n (λ_=>True) (kas_bin f p k)
 | 0,p,k,h=>trivial
 | f + 1,p,k,h=>Safe.bind (P:=λ_=>True) (λa _=>ZHP f _ (h.perm (bubble_perm ..))) (Yb h k _ _ _)
theorem ZJm {n:Nat} (hn:0 < n):Safe n (λ_=>True) (kas_sort n):=
 Safe.bind (P:=λr=>Ents n r.2) (λa ha=>by
  split
  ·exact ZHP _ _ ha
  ·trivial) (ZH7 ⟨hn,Array.Perm.refl _⟩ _)
end DL
namespace DL
open PySem PySem.Spec L2
open PyProof.Rows hiding St
variable {a:Wd} {d:D} {v:V} {xs ys:List D} {G:DH} {vs:List V} {te:DE} {g:DG} {k:Nat} {us:List (Str×V)} {F:List D->DH->R D} {CX:CXT} {fd:FuncData} {ps:List Str} {e:Expr} {ta:DA} {T:String}
noncomputable def ltL:List D->List D->Option Bool
 | [],[]=>some false
 | [],_::_=>some true
 | _::_,[]=>some false
 | .int a::r,.int b::r'=>if a=b then ltL r r' else some (decide (a < b))
 | .str a::r,.str b::r'=>if a=b then ltL r r' else some (decide (a.cps.toList < b.cps.toList))
 | _::_,_::_=>none
def ltD:D->D->Option Bool
 | .tup xs,.tup ys=>ltL xs ys
 | _,_=>none
def ltI (xs:List D) (i j:Nat):Bool:=(ltD (xs.getD i .non) (xs.getD j .non)).getD false
def isIt:D->Bool
 | .tup (.int _::_)=>true
 | _=>false
def Ve:D->Bool
 | .tup (.str _::_)=>true
 | _=>false
def Oq (xs:List D):Bool:=(xs.all isIt || xs.all Ve) && xs.all λx=>xs.all λy=>(ltD x y).isSome
noncomputable def Mf (xs:List D):List D:=if xs.length < 2 then xs else (Cr (ltI xs) (PySem.W.kas_sort xs.length)).toList.map λi=>xs.getD i .non
noncomputable def Ue (ds:List D) (G:DH):R D:=match ds with
 | [d]=>match Ip d G with
  | some xs=>if (xs.length < 64/\(Mf xs).length < 64)/\Oq xs=true then .ok (.ref G.length) (G++ [.lst (Mf xs)]) else .bad
  | none=>.bad
 | _=>.bad
theorem ZDO {n:Nat} {cmp:Nat->Nat->(Bool->Shared->Prop)->Shared->Prop} {lt:Nat->Nat->Bool} {s:Shared} (h:∀i j,i < n->j < n->∀C:Bool->Shared->Prop,C (lt i j) s->cmp i j C s) {α:Type} {P:α->Prop} {Q:α->Shared->Prop}:
  ∀{t:PySem.W.KasT α},Safe n P t->Q (Cr lt t) s->t.kasWp cmp Q s
 | .ret _,_,hq=>hq
 | .ask i j k,hs,hq=>h i j hs.1 hs.2.1 _ (ZDO h (hs.2.2 (lt i j)) hq)
section
variable {prog:Program} {w:World} {A:Around} {s:Shared}
theorem ZOt {c:Bool} {a b:Int} {t u:Tok} {Q:Bool->Shared->Prop} {E:Value->Shared->Prop} (h:Q (decide (a < b)) s):wpAny (model prog w) A (oneLt' c (.int a t) (.int b u)) Q E s:=by
 cases c with
 | true=>exact oneLt_int h
 | false=>exact PySem.W.kat_one _ _ (lt_int (Q:=PySem.W.BoolBack Q) h)
theorem ZNE {c:Bool} {a b:Str} {t u:Tok} {Q:Bool->Shared->Prop} {E:Value->Shared->Prop} (h:Q (decide (a.cps.toList < b.cps.toList)) s):wpAny (model prog w) A (oneLt' c (.str a t) (.str b u)) Q E s:=by
 cases c with
 | true=>exact oneLt_str h
 | false=>exact PySem.W.kat_one _ _ (lt_str (Q:=PySem.W.BoolBack Q) h)
theorem ZBv {Q:Bool->Shared->Prop} {fin:Bool}:∀{xs ys:List D} {vs ws:List V} {us zs:List Value} {i:Nat} {k:Bool},Reps a xs vs->Reps a ys ws->Vals vs us->Vals ws zs->ltL xs ys=some k->fin=decide (us.length < zs.length)->Q k s->
  PySem.W.KatLex prog w A true fin Q (us.zip zs) i s
 | [],[],vs,ws,us,zs,i,k,r1,r2,v1,v2,h,hf,hq=>by
  cases (show vs= [] from r1);cases (show ws= [] from r2);cases v1;cases v2
  cases h;subst hf;exact PySem.W.kat_nil hq
 | [],y::ys,vs,ws,us,zs,i,k,r1,r2,v1,v2,h,hf,hq=>by
  cases (show vs= [] from r1);cases v1
  obtain ⟨w1,wr,rfl,_,_⟩:=r2;cases v2;cases h;subst hf;exact PySem.W.kat_nil (by simpa using hq)
 | x::xs,[],vs,ws,us,zs,i,k,r1,r2,v1,v2,h,hf,hq=>by
  cases (show ws= [] from r2);cases v2
  obtain ⟨w1,wr,rfl,_,_⟩:=r1;cases v1;have hk:k=false:=by cases x <;> (simp [ltL] at h;exact h)
  subst hk;subst hf;exact PySem.W.kat_nil (by simpa using hq)
 | x::xs,y::ys,vs,ws,us,zs,i,k,r1,r2,v1,v2,h,hf,hq=>by
  have hcase:(∃m n,x=.int m/\y=.int n)∨(∃m n,x=.str m/\y=.str n):=by
   cases x <;> cases y <;> first
    | exact .inl ⟨_,_,rfl,rfl⟩
    | exact .inr ⟨_,_,rfl,rfl⟩
    | (exfalso;simp [ltL] at h)
  obtain ⟨v0,vr,rfl,e1,r1⟩:=r1;obtain ⟨w0,wr,rfl,e2,r2⟩:=r2;rcases hcase with ⟨m,n,rfl,rfl⟩ | ⟨m,n,rfl,rfl⟩
  ·cases (show v0=V.int m from e1)
   cases (show w0=V.int n from e2)
   cases v1 with
   | cons q1 v1=>
    cases v2 with
    | cons q2 v2=>
     obtain ⟨t,rfl⟩:=q1;obtain ⟨u,rfl⟩:=q2;rw [List.zip_cons_cons];refine PySem.W.kat_cons (wpAny_eqBool_int (PySem.W.kat_go (λhe=> ?_) λhe=> ?_))
     ·have e:m=n:=by simpa using he
      rw [show ltL (.int m::xs) (.int n::ys)=if m=n then ltL xs ys else some (decide (m < n)) from rfl,if_pos e] at h
      exact PySem.W.kat_yes (ZBv r1 r2 v1 v2 h (by simpa using hf) hq)
     ·have e:m≠n:=by simpa using he
      rw [show ltL (.int m::xs) (.int n::ys)=if m=n then ltL xs ys else some (decide (m < n)) from rfl,if_neg e] at h
      cases h;exact PySem.W.kat_no (ZOt hq)
  ·cases (show v0=V.str m from e1)
   cases (show w0=V.str n from e2)
   cases v1 with
   | cons q1 v1=>
    cases v2 with
    | cons q2 v2=>
     obtain ⟨t,rfl⟩:=q1;obtain ⟨u,rfl⟩:=q2;rw [List.zip_cons_cons];refine PySem.W.kat_cons (wpAny_eqBool_str (PySem.W.kat_go (λhe=> ?_) λhe=> ?_))
     ·have e:m=n:=by simpa using he
      rw [show ltL (.str m::xs) (.str n::ys)=if m=n then ltL xs ys else some (decide (m.cps.toList < n.cps.toList)) from rfl,if_pos e] at h
      exact PySem.W.kat_yes (ZBv r1 r2 v1 v2 h (by simpa using hf) hq)
     ·have e:m≠n:=by simpa using he
      rw [show ltL (.str m::xs) (.str n::ys)=if m=n then ltL xs ys else some (decide (m.cps.toList < n.cps.toList)) from rfl,if_neg e] at h
      cases h;exact PySem.W.kat_no (ZNE hq)
end
section
variable {X:Cx} {E:XK} {pins:List (Addr×Obj)} {σ:St} {s:Shared} {H:Hp} {h':Heap}
theorem ZGi {t':Nat} (I:Inv X pins σ H s) (k:∀b o,b≠X.env.locals->s.heap.get? b=some o->h'.get? b=some o) (ns:∀m,s.heap.Ns X.env.locals m->h'.Ns X.env.locals m):Inv X pins σ H {s with heap:=h',toks:=t'}:=by
 refine I.step (g':=s.gens) (d':=s.drawn) (ch:= []) (λ_ z=>nomatch z) (λb o hL _ _ e _=>k b o hL e) (λb o hL _ _ e _=>⟨o.slots,k b o hL e⟩) (λ_ _ _ _ n=>n) (λb o _ e=> ?_) (λ_ _ e=>e) (λ_ _ _ e=>e)
  (λb ps e=>⟨#[],by rw [e];simp⟩) ns (λb u e=> ?_) I.bare
 ·by_cases hb:b=X.env.locals
  ·obtain ⟨m,hn,_⟩:=I.loc;obtain ⟨o',_,_,ho',_⟩:=ns m hn;exact ⟨o',by rw [hb];exact ho'⟩
  ·exact ⟨o,k b o hb e⟩
 ·have nL:∀c w,H c=some w->c≠X.env.locals:=λc w e z=>by rw [z,I.free] at e;cases e
  refine (I.hok b u e).stay (λc v hc q=>k c v ?_ q) (λ_ q=>q) λ_ _ q=>q
  rcases hc with z | z
  ·rw [z];exact nL b u e
  ·exact nL c _ z
end
section
variable {prog:Program} {w:World} {A:Around} {E:Value->Shared->Prop} {s:Shared}
theorem ZIx {l:Addr} {vs:List Value} {Q:Value->Shared->Prop} (hl:s.heap.IsList l vs.toArray) (hz:vs.length < 64)
  (h:∀h1,h1.get? (s.heap.objs.size + 1)=some (seqObj "list" vs.toArray 0)->(∀b o,s.heap.get? b=some o->h1.get? b=some o)->
   wpAny (model prog w) A.in1.in1 (Builtin.«list.sort» ⟨[.ref (s.heap.objs.size + 1)],[]⟩) (λfin s'=>fin=.done (.ret .none)/\Q (.ref (s.heap.objs.size + 1)) s') E {s with heap:=h1}):
  wpAny (model prog w) A (call (.builtin "sorted") [.ref l]) Q E s:=by
 have h64:vs.length<=sizeLine:=by rw [sizeLine_eq];lia
 refine Calls.call_function_entry kind_sorted plain_sorted entry_sorted (args_sorted1 _) ?_;unfold Builtin.«sorted»;refine wpAny_bind (m:=checkCount "sorted" 1 1 _) (wpAny_pure (wpAny_bind (collect_list hl (wpAny_bind (wpAny_newList ?_ h64)) h64)))
 generalize hh:(s.heap.push (seqObj "list" #[] 0)).update s.heap.objs.size (Obj.mapSeq (·++vs.toArray))=h0
 have e0:h0.objs.size=s.heap.objs.size + 1:=by rw [<-hh,Heap.size_update,size_push']
 have k0:∀b o,s.heap.get? b=some o->h0.get? b=some o:=λb o q=>by have hlt:b < s.heap.objs.size:=zw q;rw [<-hh,Heap.get?_update_ne _ _ _ _ (zB hlt),Heap.get?_push_ne _ _ _ (zB hlt)];exact q
 have hD:(h0.push (seqObj "list" vs.toArray 0)).get? (s.heap.objs.size + 1)=some (seqObj "list" vs.toArray 0):=by rw [<-e0];exact zy _ rfl
 have hq:=h (h0.push (seqObj "list" vs.toArray 0)) hD λb o q=>zQ _ (k0 b o q)
 show wpAny _ _ _ _ _ {s with heap:=h0.push (seqObj "list" vs.toArray 0)};rw [e0];refine wpAny_bind (wpAny_holding (wpAny_call_entry slot_list_sort ⟨_,hD,rfl⟩ entry_list_sort ?_ (args_list_sort _)));refine wpAny_mono hq (λfin s' hf=> ?_) λ_ _ x=>x
 exact ⟨_,hf.1,wpAny_pure ⟨_,rfl,hf.2⟩⟩
theorem ZIa {a:Addr} {vs:List Value} {n:Nat} {P:Fin->Shared->Prop} (ho:s.heap.get? a=some (seqObj "list" vs.toArray n)) (h2:vs.length < 2)
  (h:∀h' c,h'.get? a=some (seqObj "list" vs.toArray c)->(∀b o,b≠a->s.heap.get? b=some o->h'.get? b=some o)->P (.done (.ret .none)) {s with heap:=h'}):wpAny (model prog w) A (Builtin.«list.sort» ⟨[.ref a],[]⟩) P E s:=by
 have ha:a < s.heap.objs.size:=zw ho;have s1:=qw.update s.heap a (Obj.mapSeq λ_=>(#[]:Array Value));obtain ⟨e1,ho1⟩:∃e1,(s.heap.update a (Obj.mapSeq λ_=>(#[]:Array Value))).get? a=some (seqObj "list" #[] e1):=⟨_,get?_update_seq ho λ_=> #[]⟩;rw [list_sort_plain];refine wpAny_bind (listItems_at ho rfl (wpAny_bind (listUpdate_at ho rfl ?_ (by rw [zY,sizeLine_eq];lia) (jA _))))
 refine wpAny_bind (seqEpoch_at ho1 rfl (wpAny_bind (wpAny_newTuple (wpAny_bind (wpAny_newList (wpAny_holding ?_) (jA _))) (by show vs.length<=_;rw [sizeLine_eq];lia))));dsimp only;have hn2:vs.toArray.size < 2:=by rw [zY];lia
 rw [if_pos hn2,if_pos hn2];refine wpAny_bind (wpAny_pure (wpAny_bind (wpAny_of_eq (a:=((),SortSt.mk' general' (vs.toArray.zip vs.toArray) #[] 7 none)) rfl ?_)));dsimp only
 have hout:(arrOf (SortSt.mk' general' (vs.toArray.zip vs.toArray) #[] 7 none)).map (·.2)=vs.toArray:=by
  show (vs.toArray.zip vs.toArray).map (·.2)=vs.toArray
  refine Array.ext (by simp) λi h1 h2=>by simp
 rw [hout];generalize hh:((s.heap.update a (Obj.mapSeq λ_=>(#[]:Array Value))).push {cls:=.type "tuple",data:=.seq vs.toArray.toList.toArray}).push {cls:=.type "list",data:=.seq ([]:List Value).toArray}=h3;have ho3:h3.get? a=some (seqObj "list" #[] e1):=by rw [<-hh];exact zQ _ (zQ _ ho1)
 have k3:∀b o,b≠a->s.heap.get? b=some o->h3.get? b=some o:=λb o hb q=>by rw [<-hh];exact zQ _ (zQ _ (s1.extBut b o hb q))
 refine wpAny_bind (seqEpoch_at (o:=seqObj "list" #[] e1) ?_ rfl ?_)
 ·exact ho3
 have s2:=qw.update h3 a (Obj.mapSeq λ_=>vs.toArray);obtain ⟨c2,hc2⟩:∃c2,(h3.update a (Obj.mapSeq λ_=>vs.toArray)).get? a=some (seqObj "list" vs.toArray c2):=⟨_,get?_update_seq ho3 λ_=>vs.toArray⟩;refine wpAny_bind (listUpdate_at ho3 rfl ?_ (jA _) (by show vs.toArray.size<=_;rw [zY,sizeLine_eq];lia));simp only [bne_self_eq_false,Bool.false_eq_true,if_false];exact wpAny_pure (h _ c2 hc2 λb o hb q=>s2.extBut b o hb (k3 b o hb q))
end
theorem ZOr:bootBuiltins "sorted"=some (.builtin "sorted"):=by decide +kernel
section
variable {X:Cx} {E:XK} {pins:List (Addr×Obj)} {σ:St} {s:Shared} {H:Hp}
theorem V8 (I:Inv X pins σ a.H s) (hk:a.K=X.K) {u:Value} (r:Rep a d v) (ru:RelV v u) (h:d=.tup xs):∃p o vs us n,u=.ref p/\s.heap.get? p=some o/\o.cls=.type "tuple"/\o.data=.seq us n/\Vals vs us.toList/\Reps a xs vs:=by subst h;obtain ⟨p,vs,rfl,hq,rv⟩:=r;cases ru;rw [hk] at hq;obtain ⟨its,rr,⟨o,ho,hc,n,hd⟩,hz⟩:=I.tuple hq;exact ⟨p,o,vs,its.toArray,n,rfl,ho,hc,hd,by simpa using rr,rv⟩
theorem ZJI (h:isIt d=true):∃i r,d=.tup (.int i::r):=by
 unfold isIt at h;split at h
 ·exact ⟨_,_,rfl⟩
 ·cases h
theorem ZKH (h:Ve d=true):∃i r,d=.tup (.str i::r):=by
 unfold Ve at h;split at h
 ·exact ⟨_,_,rfl⟩
 ·cases h
theorem ZFZ (I:Inv X pins σ a.H s) (hk:a.K=X.K):∀{xs:List D} {vs:List V} {us:List Value},Reps a xs vs->Vals vs us->xs.all isIt=true->∃fs,PySem.W.KatTups s.heap us fs/\fs.length=us.length/\∀v∈fs,∃i t,v=.int i t
 | [],vs,us,r,v,h=>by
  cases (show vs= [] from r);cases v
  exact ⟨[],.nil,rfl,λ_ hm=>nomatch hm⟩
 | d::xs,vs,us,r,v,h=>by
  rw [j1,zF] at h;obtain ⟨v0,vr,rfl,e1,r1⟩:=r;cases v with
  | cons q1 v1=>
   obtain ⟨i,rr,rfl⟩:=ZJI h.1;obtain ⟨p,o,ws,zs,n,rfl,ho,hc,hd,hv,hr⟩:=V8 I hk e1 q1 rfl;obtain ⟨w0,wr,rfl,g1,g2⟩:=hr
   cases (show w0=V.int i from g1)
   obtain ⟨fs,k1,k2,k3⟩:=ZFZ I hk r1 v1 h.2;have hz:∃t,zs[0]? =some (.int i t):=by
    cases hz:zs.toList with
    | nil=>rw [hz] at hv;cases hv
    | cons z zr=>
     rw [hz] at hv;cases hv with
     | cons q _=>
      obtain ⟨t,rfl⟩:=q;exact ⟨t,by rw [<-qE,hz];rfl⟩
   obtain ⟨t,hz⟩:=hz;refine ⟨.int i t::fs,.cons ho hc hd hz k1,by simp [k2],λv hm=> ?_⟩;rcases zx.mp hm with rfl | hm
   ·exact ⟨i,t,rfl⟩
   ·exact k3 v hm
theorem ZIW (I:Inv X pins σ a.H s) (hk:a.K=X.K):∀{xs:List D} {vs:List V} {us:List Value},Reps a xs vs->Vals vs us->xs.all Ve=true->∃fs,PySem.W.KatTups s.heap us fs/\fs.length=us.length/\∀v∈fs,∃i t,v=.str i t
 | [],vs,us,r,v,h=>by
  cases (show vs= [] from r);cases v
  exact ⟨[],.nil,rfl,λ_ hm=>nomatch hm⟩
 | d::xs,vs,us,r,v,h=>by
  rw [j1,zF] at h;obtain ⟨v0,vr,rfl,e1,r1⟩:=r;cases v with
  | cons q1 v1=>
   obtain ⟨i,rr,rfl⟩:=ZKH h.1;obtain ⟨p,o,ws,zs,n,rfl,ho,hc,hd,hv,hr⟩:=V8 I hk e1 q1 rfl;obtain ⟨w0,wr,rfl,g1,g2⟩:=hr
   cases (show w0=V.str i from g1)
   obtain ⟨fs,k1,k2,k3⟩:=ZIW I hk r1 v1 h.2;have hz:∃t,zs[0]? =some (.str i t):=by
    cases hz:zs.toList with
    | nil=>rw [hz] at hv;cases hv
    | cons z zr=>
     rw [hz] at hv;cases hv with
     | cons q _=>
      obtain ⟨t,rfl⟩:=q;exact ⟨t,by rw [<-qE,hz];rfl⟩
   obtain ⟨t,hz⟩:=hz;refine ⟨.str i t::fs,.cons ho hc hd hz k1,by simp [k2],λv hm=> ?_⟩;rcases zx.mp hm with rfl | hm
   ·exact ⟨i,t,rfl⟩
   ·exact k3 v hm
theorem ZFC {ws:List V} {us:List Value} {Q:VK} {h2:Heap} {c:Nat} (I:Inv X pins σ a.H s) (sm:Sim a G) (q:out E a (.ok (.ref G.length) (G++ [.lst ys])) Q) (r:Reps a ys ws) (v:Vals ws us) (hz:us.length < 64)
  (hD:h2.get? (s.heap.objs.size + 1)=some (seqObj "list" us.toArray c)) (k:∀b o,b≠X.env.locals->s.heap.get? b=some o->h2.get? b=some o) (ns:∀m,s.heap.Ns X.env.locals m->h2.Ns X.env.locals m):
  EP X pins σ Q (.ref (s.heap.objs.size + 1)) {s with heap:=h2}:=by
 have hle:s.heap.objs.size<=s.heap.objs.size + 1:=jv _;obtain ⟨g0,g1,g2,g3,g4,g5⟩:=I.K3 (H':=a.H) hle (I.hok.fresh hle);have I2:Inv X pins σ a.H {s with heap:=h2}:=ZGi (t':=s.toks) I k ns;refine ⟨.ref (s.heap.objs.size + 1),_,ZCa I2 g0 (z5 I.sz hle) g1 g4 g5 (o:=.lst ws) ⟨?_,us,c,v,hD⟩,rfl,M5 sm r q _ g0⟩;rw [v.length,sizeLine_eq];lia
end
section
variable {X:Cx} {E:XK}
theorem ZKd (h:Oq xs=true) {x y:D} (hx:x∈xs) (hy:y∈xs):∃k,ltD x y=some k:=by unfold Oq at h;rw [zF] at h;exact jX.mp (qA.mp (qA.mp h.2 x hx) y hy)
theorem ZJ2 {x y:D} {k:Bool} (h:ltD x y=some k):∃xs ys,x=.tup xs/\y=.tup ys/\ltL xs ys=some k:=by
 unfold ltD at h;split at h
 ·exact ⟨_,_,rfl,rfl,h⟩
 ·cases h
theorem ZGX (r:Reps a xs vs):∀l:List Nat,(∀i∈l,i < xs.length)->Reps a (l.map λi=>xs.getD i .non) (l.map λi=>vs.getD i .non)
 | [],_=>rfl
 | i::l,h=>by
  have hi:i < xs.length:=h i zW;obtain ⟨v,ev,rv⟩:=r.get (i:=i) (d:=xs[i]) (zZ hi);refine ⟨vs.getD i .non,_,rfl,?_,ZGX r l λj hj=>h j (zJ _ hj)⟩;have e1:xs.getD i .non=xs[i]:=by simp [hi]
  have e2:vs.getD i .non=v:=by rw [zA,ev];rfl
  show Rep a (xs.getD i .non) (vs.getD i .non);rw [e1,e2];exact rv
theorem ZEJ {us:List Value} (r:Vals vs us):∀l:List Nat,(∀i∈l,i < vs.length)->Vals (l.map λi=>vs.getD i .non) (l.map λi=>us.getD i .none)
 | [],_=>.nil
 | i::l,h=>by
  have hi:i < vs.length:=h i zW;obtain ⟨u,eu,ru⟩:=r.get (i:=i) (x:=vs[i]) (zZ hi);rw [zC,zC];have e1:vs.getD i .non=vs[i]:=by simp [hi]
  have e2:us.getD i .none=u:=by rw [zA,eu];rfl
  rw [e1,e2];exact .cons ru (ZEJ r l λj hj=>h j (zJ _ hj))
theorem ZEG {n:Nat} {lt:Nat->Nat->Bool} {P:Array Nat->Prop}:∀{t:PySem.W.KasT (Array Nat)},Safe n P t->P (Cr lt t)
 | .ret _,h=>h
 | .ask i j k,h=>ZEG (t:=k (lt i j)) (h.2.2 (lt i j))
theorem ZGP {n:Nat}:∀f {p:Array Nat} k,Ents n p->Safe n (Ents n) (PySem.W.kas_bin f p k)
 | 0,p,k,h=>h
 | f + 1,p,k,h=>Safe.bind (P:=λ_=>True) (λa _=>ZGP f _ (h.perm (bubble_perm ..))) (Yb h k _ _ _)
theorem ZGM {n:Nat} (hn:0 < n):Safe n (Ents n) (PySem.W.kas_sort n):=
 Safe.bind (P:=λr=>Ents n r.2) (λa ha=>by
  split
  ·exact ZGP _ _ ha
  ·exact ha) (ZH7 ⟨hn,Array.Perm.refl _⟩ _)
theorem ZMP:CallR X (.builtin "sorted") (lRn X.K E Ue):=by
 intro pins s σ H vs us Q I rs h;obtain ⟨a,G,ds,hk,rfl,sm,r,q⟩:=h;unfold Ue at q;split at q
 ·rename_i d;obtain ⟨v,rfl,rv⟩:=reps1 r;split at q
  ·rename_i xs hs;split at q
   ·rename_i hc;obtain ⟨p,ws,rfl,h1,r1⟩:=T6 sm rv hs;rw [hk] at h1;obtain ⟨u,rfl,ru⟩:=vals1 rs;cases ru;obtain ⟨its,hv,pl,hz⟩:=I.list h1;have hlx:xs.length=its.length:=r1.length.trans hv.length;refine ZIx pl.isList (by lia) λh1 hD k1=> ?_
    obtain ⟨m,hn,_⟩:=id I.loc;have hns1:h1.Ns X.env.locals m:=hn.keeps k1;have hDL:s.heap.objs.size + 1≠X.env.locals:=qN (qB I.lt);have nsAll:∀{h2:Heap},h2.Ns X.env.locals m->∀m',s.heap.Ns X.env.locals m'->h2.Ns X.env.locals m':=λ{h2} hh m' hm'=>by have e1:=hn.eq_nsMap;have e2:=hm'.eq_nsMap;rw [e2,<-e1];exact hh
    by_cases hlen:xs.length < 2
    ·refine ZIa (s:={s with heap:=h1}) hD (by lia) λh2 c hD2 k2=>⟨rfl,?_⟩
     have es:Mf xs=xs:=by unfold Mf;rw [if_pos hlen]
     rw [es] at q;refine ZFC I sm q r1 hv (by lia) hD2 (λb o hb e=>k2 b o ?_ (k1 b o e)) (nsAll (hns1.at λo e=>k2 _ o (Ne.symm hDL) e));exact zB (qB (zw e))
    ·have es:Mf xs=(Cr (ltI xs) (PySem.W.kas_sort xs.length)).toList.map λi=>xs.getD i .non:=by unfold Mf;rw [if_neg hlen]
     rw [es] at q;refine PySem.W.kat_list_sort (s:={s with heap:=h1}) (Att.ZLl hns1) (news:=Att.ledger h1 X.env.locals (s.heap.objs.size + 1)) ?_ hD hDL (Att.ZBq _ _) (λ⟨_,_⟩ hp=>(Att.T8.mp hp).2.1) (by lia) (by lia) λe1 h2 F2 N2=> ?_
     ·rintro ⟨b,o⟩ hp;obtain ⟨n1,n2,e⟩:=Att.T8.mp hp;exact ⟨e,n1,Att.ZBq _ _⟩
     have k2:∀b o,b≠X.env.locals->s.heap.get? b=some o->h2.get? b=some o:=λb o hb e=>
      (N2 (b,o) (zJ _ (Att.T8.mpr ⟨hb,zB (qB (zw e)),k1 b o e⟩))).1
     have I2:Inv X pins σ a.H {s with heap:=h2}:=ZGi (t':=s.toks) I k2 (nsAll F2.ns);have hpos:0 < its.length:=by lia
     have fin:(PySem.W.kas_sort its.length).kasWp (PySem.W.kas_ask X.prog X.w X.A.in1.in1 (tuples' true) its) (λp s''=>PySem.W.KasFin (Att.W4 h1) X.env.locals m (s.heap.objs.size + 1) e1 (p.toList.map λi=>its.getD i Value.none) (λs3=>PySem.Fin.done (.ret .none)=PySem.Fin.done (.ret .none)/\EP X pins σ Q (.ref (s.heap.objs.size + 1)) s3) s'') {s with heap:=h2}:=by
      refine ZDO (lt:=ltI xs) (λi j hi hj C hC=> ?_) (ZGM hpos) ?_
      ·have hxi:i < xs.length:=by lia
       have hxj:j < xs.length:=by lia
       obtain ⟨v1,ev1,rv1⟩:=r1.get (i:=i) (d:=xs[i]) (zZ hxi);obtain ⟨v2,ev2,rv2⟩:=r1.get (i:=j) (d:=xs[j]) (zZ hxj);obtain ⟨u1,eu1,ru1⟩:=hv.get ev1;obtain ⟨u2,eu2,ru2⟩:=hv.get ev2;obtain ⟨k,hlt⟩:=ZKd hc.2 (qJ hxi) (qJ hxj);obtain ⟨as,bs,ea,eb,hlL⟩:=ZJ2 hlt;obtain ⟨p1,o1,vs1,us1,n1,rfl,ho1,_,hd1,hv1,hr1⟩:=V8 I2 hk rv1 ru1 ea;obtain ⟨p2,o2,vs2,us2,n2,rfl,ho2,_,hd2,hv2,hr2⟩:=V8 I2 hk rv2 ru2 eb
       have hC':C k {s with heap:=h2}:=by
        have:ltI xs i j=k:=by
         unfold ltI;have e1:xs.getD i .non=xs[i]:=by simp [hxi]
         have e2:xs.getD j .non=xs[j]:=by simp [hxj]
         rw [e1,e2,hlt];rfl
        rw [<-this];exact hC
       unfold PySem.W.kas_ask;have g1:its.getD i Value.none=.ref p1:=by rw [zA,eu1];rfl
       have g2:its.getD j Value.none=.ref p2:=by rw [zA,eu2];rfl
       rw [g1,g2];exact PySem.W.kat_lt ho1 hd1 ho2 hd2 (ZBv hr1 hr2 hv1 hv2 hlL (by simp) hC')
      ·have hen:Ents its.length (Cr (ltI xs) (PySem.W.kas_sort its.length)):=ZEG (ZGM hpos);rw [hlx] at q;refine PySem.W.KasFin.intro F2 N2 (.head λ⟨_,_⟩ hp=>(Att.T8.mp hp).2.1) λh3 c F3 N3=>⟨rfl,?_⟩
       have hin:∀i∈(Cr (ltI xs) (PySem.W.kas_sort its.length)).toList,i < its.length:=λi hi=>hen.lt (by simpa using hi)
       refine ZFC I sm q (ZGX r1 _ λi hi=>by rw [hlx];exact hin i hi) (ZEJ hv _ λi hi=>by rw [hv.length];exact hin i hi) ?_ (N3 _ zW).1 (λb o hb e=> ?_) (nsAll F3.ns)
       ·rw [hlx] at es;have:=hc.1.2;rw [es] at this;simpa using this
       ·exact (N3 (b,o) (zJ _ (Att.T8.mpr ⟨hb,zB (qB (zw e)),k1 b o e⟩))).1
     unfold Oq at hc;rw [zF,j4] at hc;rcases hc.2.1 with hall | hall
     ·obtain ⟨fs,t1,t2,t3⟩:=ZFZ I2 hk r1 hv hall;refine PySem.W.kat_kind (T:=.type "int") t1 (by lia) (λv hm=> ?_) (by decide) ?_
      ·obtain ⟨i,t,rfl⟩:=t3 v hm;exact PySem.W.Looks.now
      ·exact fin
     ·obtain ⟨fs,t1,t2,t3⟩:=ZIW I2 hk r1 hv hall;refine PySem.W.kat_kind (T:=.type "str") t1 (by lia) (λv hm=> ?_) (by decide) ?_
      ·obtain ⟨i,t,rfl⟩:=t3 v hm;exact PySem.W.Looks.now
      ·exact fin
   ·exact q.elim
  ·exact q.elim
 ·exact q.elim
end
section
variable {S:DSt} {G:DH}
@[simp] theorem ZQt {to ti:DE} {f:D->D->DH->R D}:Om to ti te f S G=(to S G).toS λo G1=>(ti S G1).toS λi G2=>(ixL o i G2).toS λx G3=>(te S G3).toS λy G4=>(f x y G4).toS λz G5=>(Lg o i z G5).toS λ_ G6=>.nx S G6:=id rfl
theorem Wj {p:Nat} {k:Int} (h:G[p]? =some (.lst xs)) (e:atI xs k=some d):ixL (.ref p) (.int k) G=.ok d G:=by unfold ixL;simp only;rw [h];simp only;rw [e]
def Eh (xs:List D):List D:=xs.zipIdx.map λq=>.tup [.int q.2,q.1]
def O7 (xs ys:List D):List D:=(xs.zip ys).map λq=>.tup [q.1,q.2]
theorem ZHi {f:Nat->DH->Option (Option D)} {b:DS} (h:∀j G,f j G=some xs[j]?):∀(n j:Nat),j + n=xs.length->∀S G,Em f g b n j S G=Be g b (xs.drop j) S G
 | 0,j,e,S,G=>by
  unfold Em;rw [h,zk (by lia),zO (by lia)]
  rfl
 | n + 1,j,e,S,G=>by
  have hj:j < xs.length:=by lia
  unfold Em;rw [h,zZ hj,zM hj,Cy];have:Em f g b n (j + 1)=Be g b (xs.drop (j + 1)):=by funext S G;exact ZHi h n (j + 1) (by lia) S G
  rw [this]
theorem Tr {f:Nat->DH->Option (Option D)} {b:DS} {n:Nat} (h:∀j G,f j G=some xs[j]?) (hn:n=xs.length):Em f g b n 0 S G=Be g b xs S G:=by rw [ZHi h n 0 (by lia)];rfl
theorem Xg (j:Nat) (G:DH):Eu 0 (.fl xs) j G=some (Eh xs)[j]? :=by
 unfold Eu Eh;simp only [Cj,zj,List.getElem?_zipIdx]
 cases xs[j]? <;> simp
theorem ZJO (j:Nat) (G:DH):Eu 0 (.tup xs) j G=some (Eh xs)[j]? :=by
 unfold Eu Eh;simp only [Cj,zj,List.getElem?_zipIdx]
 cases xs[j]? <;> simp
theorem Kh:(Eh xs).length=xs.length:=by simp [Eh]
@[simp] theorem ZQw:J8 [.fl xs] G=.ok (.fn xs.length (Eu 0 (.fl xs))) G:=by simp [J8,K9,Cj,lenOf]
@[simp] theorem ZPh {b:DS} :Em (Eu 0 (.fl xs)) g b xs.length 0 S G=Be g b (Eh xs) S G:=Tr Xg Kh.symm
@[simp] theorem ZQz {b:DS} :Em (Eu 0 (.tup xs)) g b xs.length 0 S G=Be g b (Eh xs) S G:=Tr ZJO Kh.symm
theorem ZGn {f:Nat->DH->Option (Option D)} {c:DB} {F:D->Option D} (hf:∀j,f j G=some xs[j]?) (h:∀x∈xs,CStep g c te S G x (F x)):
  ∀(n j:Nat),xs.length<=j + n->Ed f g c te S n j G=.ok ((xs.drop j).filterMap F) G
 | 0,j,hj=>by
  unfold Ed;rw [hf,zk (by lia)];simp only;rw [zO (by lia)]
  rfl
 | n + 1,j,hj=>by
  unfold Ed;rw [hf];by_cases hlt:j < xs.length
  ·have ih:=ZGn hf h n (j + 1) (by lia);obtain ⟨S1,h1,h2⟩:=h xs[j] (qJ hlt);rw [zZ hlt];simp only [h1,R.K8];rw [zM hlt,qY];rcases h2 with ⟨h2,h3⟩ | ⟨h2,d,h3,h4⟩
   ·simp [h2,h3,ih]
   ·simp [h2,h3,h4,ih]
  ·rw [zk (by lia),zO (by lia)]
   rfl
theorem Ux {f:Nat->DH->Option (Option D)} {c:DB} {F:D->Option D} {n:Nat} (hf:∀j,f j G=some xs[j]?) (h:∀x∈xs,CStep g c te S G x (F x)) (hn:xs.length<=n):
  Ed f g c te S n 0 G=.ok (xs.filterMap F) G:=ZGn hf h n 0 (by lia)
theorem ZFs {e:D} (hd:Cj d G=some xs) (he:Cj e G=some ys) (j:Nat):Hv [d,e] j G=some (O7 xs ys)[j]? :=by
 unfold Hv O7;simp only [Hy,hd,he,zj,List.getElem?_zip_eq_some]
 have ez:(xs.zip ys)[j]? =match xs[j]?,ys[j]? with
  | some x,some y=>some (x,y)
  | _,_=>none:=by
  rw [List.zip,List.getElem?_zipWith]
  cases xs[j]? <;> cases ys[j]? <;> rfl
 rw [ez];cases xs[j]? with
 | none=>rfl
 | some x=>
  cases ys[j]? with
  | none=>rfl
  | some y=>rfl
theorem ZFn {e:D} (hd:Cj d G=some xs) (he:Cj e G=some ys):J0 2 [d,e] G=.ok (.fn xs.length (Hv [d,e])) G:=by simp [J0,K9,hd,he,lenOf]
@[simp] theorem ZHv:Cj (.fl xs) G=some xs:=id rfl
@[simp] theorem Vu:Cj (.tup xs) G=some xs:=id rfl
theorem ZLp {i:Nat} (h:G[i]? =some (.lst xs)):Cj (.ref i) G=some xs:=by simp [Cj,h]
theorem ZNS {n:Int} {ns:List Int} (h:Cj d G=some ((n::ns).map D.int)):Qa [d] G=.ok (.int (ns.foldl min n)) G:=by simp only [Qa,h,ZCk]
theorem ZNs {n:Int} {ns:List Int} (h:Cj d G=some ((n::ns).map D.int)):Pb [d] G=.ok (.int (ns.foldl max n)) G:=by simp only [Pb,h,ZCk]
theorem ZGE {p:Nat} (h:G[p]? =some (.lst [d])) (hk:k<=1000000):Kf (.ref p) (.int (k:Int)) G=.ok (.ref G.length) (G++ [.lst (zV k d)]):=by
 unfold Kf;simp only;rw [h];simp only;have e:(zV k [d]).flatten=zV k d:=by
  induction k with
  | zero=>rfl
  | succ k ih=>rw [zR,qy,ih (by lia),zR];rfl
 rw [if_pos ⟨by lia,by lia,by simpa using hk⟩,Int.toNat_natCast,e]
end
def Bts (i:Int):Prop:=i.natAbs.log2 < 33554432
def MulB (i j:Int):Prop:=CMul i j∨(Bts i/\Bts j)
instance (i:Int):Decidable (Bts i):=by unfold Bts;infer_instance
instance (i j:Int):Decidable (MulB i j):=by unfold MulB;infer_instance
theorem MulB.ok {i j:Int} (h:MulB i j):IntMulOk i j:=by
 rcases h with h | ⟨h1,h2⟩
 ·exact h.ok
 ·have b:∀k:Int,Bts k->Builtin.Int.intBits k<=33554432:=λk hk=>by
   unfold Builtin.Int.intBits;split
   ·exact jA _
   ·exact hk
  have c1:=b i h1;have c2:=b j h2;have h:Builtin.Int.intTooBig (Builtin.Int.intBits i + Builtin.Int.intBits j)=false:=by unfold Builtin.Int.intTooBig bitsLine;exact decide_eq_false (by lia)
  unfold IntMulOk;rw [h];simp
section
variable {X:Cx} {E:XK}
theorem ZOL:OpR X (binaryOp .Mult) (rI MulB λi j=>.int (i * j)):=opI λ_ _ _ _ _ _ _ hc q=>mul_int q hc.ok
end
section
variable {i j:Int} {G:DH}
end
section
variable {X:Cx} {E:XK}
end
noncomputable def Hj (f:Str) (v:D):List (Str×D)->List (Str×D)
 | []=> [(f,v)]
 | (g,x)::r=>if g=f then (g,v)::r else (g,x)::Hj f v r
theorem RepF.mono {b:Wd} (x:Ext a b) {fs:List (Str×D)} (h:RepF a fs us):RepF b fs us:=⟨h.1,h.2.mono x⟩
theorem RepF.cons {g:Str} {fs:List (Str×D)} (h:Rep a d v) (r:RepF a fs us):RepF a ((g,d)::fs) ((g,v)::us):=
 ⟨by simp [r.1],v,us.map (·.2),rfl,h,r.2⟩
theorem RepF.uncons {g:Str} {fs:List (Str×D)} (h:RepF a ((g,d)::fs) us):∃v us',us=(g,v)::us'/\Rep a d v/\RepF a fs us':=by
 obtain ⟨h1,h2⟩:=h;cases us with
 | nil=>simp at h1
 | cons q us=>
  obtain ⟨g',y⟩:=q;simp only [zC,List.cons.injEq] at h1;obtain ⟨rfl,h1⟩:=h1;obtain ⟨v,r,e1,r1,r2⟩:=h2;simp only [zC,List.cons.injEq] at e1;obtain ⟨rfl,rfl⟩:=e1;exact ⟨y,us,rfl,r1,h1,r2⟩
theorem RepF.nil' (h:RepF a [] us):us= []:=by
 obtain ⟨h1,_⟩:=h;cases us with
 | nil=>rfl
 | cons q us=>simp at h1
theorem lkc {α:Type} {f g:Str} {x:α} {fs:List (Str×α)}:jW f ((g,x)::fs)=if (f == g)=true then some x else fs.lookup f:=by
 show (match f == g with
  | true=>some x
  | false=>jW f fs)=_
 cases f == g <;> rfl
theorem RepF.look {f:Str} :∀{fs:List (Str×D)} {us:List (Str×V)},RepF a fs us->fs.lookup f=some d->∃u,us.lookup f=some u/\Rep a d u
 | [],us,h,e=>by simp at e
 | (g,x)::fs,us,h,e=>by
  obtain ⟨v,us',rfl,hv,hr⟩:=h.uncons;rw [lkc] at e ⊢;by_cases q:(f == g)=true
  ·rw [if_pos q] at e ⊢;cases e;exact ⟨v,rfl,hv⟩
  ·rw [if_neg q] at e ⊢;exact RepF.look hr e
theorem RepF.ZCT {f:Str}:∀{fs:List (Str×D)} {us:List (Str×V)},RepF a fs us->fs.lookup f=none->us.lookup f=none
 | [],us,h,e=>by rw [h.nil'];rfl
 | (g,x)::fs,us,h,e=>by
  obtain ⟨v,us',rfl,hv,hr⟩:=h.uncons;rw [lkc] at e ⊢;by_cases q:(f == g)=true
  ·rw [if_pos q] at e;cases e
  ·rw [if_neg q] at e ⊢;exact RepF.ZCT hr e
theorem RepF.put {f:Str} (q:Rep a d v):∀{fs:List (Str×D)} {us:List (Str×V)},RepF a fs us->RepF a (Hj f d fs) (Gg f v us)
 | [],us,h=>by rw [h.nil'];exact RepF.cons (fs:= []) (us:= []) q ⟨rfl,rfl⟩
 | (g,x)::fs,us,h=>by
  obtain ⟨w,us',rfl,hv,hr⟩:=h.uncons;unfold Hj Gg;by_cases e:g=f
  ·rw [if_pos e,if_pos e];exact .cons q hr
  ·rw [if_neg e,if_neg e];exact .cons hv (RepF.put q hr)
theorem RepF.len {fs:List (Str×D)} (h:RepF a fs us):us.length=fs.length:=by have:=congrArg List.length h.1;simpa using this.symm
theorem Ext.wrI {p C dx:Addr} {ho:HO} (h:a.H p=some (.ins C dx us)):Ext a (a.put p ho):=
 ⟨rfl,zK _,λ_ _=>rfl,λq xs e=>by
  show upd a.H p ho q=_;rw [Bf (λz=>by subst z;rw [h] at e;cases e)];exact e,λq o u e=>by
  show upd a.H p ho q=_;rw [Bf (λz=>by subst z;rw [h] at e;cases e)];exact e,λ_ t=>t.mono (λq ps e=>by show upd a.H p ho q=_;rw [Bf (λz=>by subst z;rw [h] at e;cases e)];exact e) (λq o u e=>by show upd a.H p ho q=_;rw [Bf (λz=>by subst z;rw [h] at e;cases e)];exact e)⟩
theorem Sim.wrI (s:Sim a G) {i:Nat} (hi:i < a.n) {c:Str} {C dx:Addr} {us':List (Str×V)} {fs':List (Str×D)} (hn:PySem.W.nsIn a.K mainGlobals c=some (some (.ref C))) (h:a.H (a.m i)=some (.ins C dx us)) (r:RepF (a.put (a.m i) (.ins C dx us')) fs' us'):
  Sim (a.put (a.m i) (.ins C dx us')) (G.set i (.ins c fs')):=by
 refine ⟨by rw [j3];exact s.len,s.inj,λj o e=> ?_,λj hj=> ?_⟩
 ·rw [qT] at e;show ORep _ o (upd a.H (a.m i) (.ins C dx us') (a.m j));by_cases hij:i=j
  ·subst hij;rw [if_pos rfl,if_pos (by rw [s.len];exact hi)] at e;cases e;rw [Gz];exact ⟨C,dx,us',hn,rfl,r⟩
  ·rw [if_neg hij] at e;rw [Bf λz=>hij (s.inj _ _ (s.lt e) hi z).symm];exact (s.obj j o e).mono (Ext.wrI h)
 ·show upd a.H (a.m i) (.ins C dx us') (a.m j)≠none;by_cases hij:a.m j=a.m i
  ·rw [hij,Gz];simp
  ·rw [Bf hij];exact s.tr j hj
noncomputable def Jx (c:Str) (d:D) (G:DH):Option (List (Str×D)):=match d with
 | .ref i=>match G[i]? with
  | some (.ins c' fs)=>if c'=c then some fs else none
  | _=>none
 | _=>none
theorem Sim.ins {x:V} {c:Str} {fs:List (Str×D)} (s:Sim a G) (r:Rep a d x) (h:Jx c d G=some fs):
  ∃i C dx us,d=.ref i/\i < a.n/\x=.ref (a.m i)/\G[i]? =some (.ins c fs)/\PySem.W.nsIn a.K mainGlobals c=some (some (.ref C))/\a.H (a.m i)=some (.ins C dx us)/\RepF a fs us:=by
 unfold Jx at h;split at h
 ·rename_i i;split at h
  ·rename_i c' fs' e;split at h
   ·rename_i hc;subst hc;cases h;obtain ⟨l,ev⟩:=r;obtain ⟨C,dx,us,n,e1,r1⟩:=s.obj i _ e;exact ⟨i,C,dx,us,rfl,l,ev,e,n,e1,r1⟩
   ·cases h
  ·cases h
 ·cases h
noncomputable def Ff (c:Str) (t:DE) (f:Str):DE:=λS G=>(t S G).bind λd G1=>match Jx c d G1 with
 | some fs=>match fs.lookup f with
  | some v=>.ok v G1
  | none=>.bad
 | none=>.bad
noncomputable def Hb (c:Str) (to tv:DE) (f:Str):DS:=λS G=>(tv S G).toS λd G1=>(to S G1).toS λo G2=>match o with
 | .ref i=>match Jx c o G2 with
  | some fs=>if fs.length < 1000 then .nx S (G2.set i (.ins c (Hj f d fs))) else .bad
  | none=>.bad
 | _=>.bad
noncomputable def J7 (c:Str) (m:Str) (F:List D->DH->R D) (to:DE) (t:DA):DE:=λS G=>(to S G).bind λo G1=>match Jx c o G1 with
 | some fs=>match fs.lookup m with
  | none=>(t S G1).bind λds G2=>F (o::ds) G2
  | some _=>.bad
 | none=>.bad
noncomputable def ZAp (c:Str) (F:List D->DH->R D) (t:DA):DE:=λS G=>(t S G).bind λds G1=>(F (.ref G1.length::ds) (G1++ [.ins c []])).bind λv G2=>match v with
 | .non=>.ok (.ref G1.length) G2
 | _=>.bad
section
variable {X:Cx} {E:XK} {c f m:Str} {C:Addr} {e o:Expr} {es:List Expr} {t ta tv:DE} {tr:DA} {pos apos pos':Pos}
theorem G9 (hn:PySem.W.nsIn X.K mainGlobals c=some (some (.ref C))) (hc:Cls X.K C) (hf:NoAttr X.K C f) (ha:QE X E e t) (hb:attributeBase e f X.env (eval e X.env)=eval e X.env:=by rfl):QE X E (.Attribute e f pos) (Ff c t f):=
 (ZLU ha hb).mono λσ H Q h=>by
  obtain ⟨a,S,G,hk,rfl,s,r,h⟩:=h;refine ⟨a,S,G,hk,rfl,s,r,(Gw h).imp ?_⟩;rintro v _ ⟨b,d,G1,rfl,x,s1,q,-,h1⟩;split at h1
  ·rename_i fs hi;obtain ⟨i,C',dx,us,rfl,_,rfl,_,n',e1,r1⟩:=s1.ins q hi;have hCC:C'=C:=by
    rw [x.k,hk,hn] at n';cases n'
    rfl
   subst hCC;split at h1
   ·rename_i d' hd;obtain ⟨u,eu,ru⟩:=r1.look hd;exact ⟨b.m i,C',dx,us,u,rfl,e1,hc,hf,eu,h1 b u (Ext.refl b) s1 ru⟩
   ·exact h1.elim
  ·exact h1.elim
theorem Nm (hn:PySem.W.nsIn X.K mainGlobals c=some (some (.ref C))) (hc:Cls X.K C) (hf:NoAttr X.K C f) (ha:QE X E o ta) (hv:QE X E e tv) (hs:swapsWith e (some (.Attribute o f pos')) pos.line X.env=pure false:=by rfl):
  QS X E (.Assign [.Attribute o f pos'] e pos) (Hb c ta tv f):=
 (ZNu ha hv hs).mono λW σ H h=>by
  obtain ⟨a,S,G,hk,rfl,s,r,h⟩:=h;refine ⟨a,S,G,hk,rfl,s,r,(Hz h).imp ?_⟩;rintro v _ ⟨b,d,G1,rfl,x,s1,q,-,h1⟩;refine ⟨b,S,G1,x.k.trans hk,rfl,s1,r.mono x,(Hz h1).imp ?_⟩;rintro v2 _ ⟨b2,d2,G2,rfl,x2,s2,q2,-,h2⟩;split at h2
  ·rename_i i;split at h2
   ·rename_i fs hi;split at h2
    ·rename_i hl;obtain ⟨i',C',dx,us,ei,li,rfl,eg,n',e1,r1⟩:=s2.ins q2 hi;cases ei;have hCC:C'=C:=by
      rw [x2.k,x.k,hk,hn] at n';cases n'
      rfl
     subst hCC;have x3:Ext b2 (b2.put (b2.m i) (.ins C' dx (Gg f v us))):=Ext.wrI e1;have s3:=s2.wrI (fs':=Hj f d fs) li n' e1 (RepF.put ((q.mono x2).mono x3) (r1.mono x3));exact ⟨b2.m i,C',dx,us,rfl,e1,hc,hf,by rw [r1.len];exact hl,h2 _ σ x3 s3 (((r.mono x).mono x2).mono x3)⟩
    ·exact h2.elim
   ·exact h2.elim
  ·exact h2.elim
theorem ZJw {sp:List D->DH->R D} {σ:St} {H:Hp} {Q:VK} (hn:PySem.W.nsIn X.K mainGlobals c=some (some (.ref C))) (h:lE X.K E (J7 c m F ta tr) σ H Q):ZCN C m (lF X.K F) [] E (lE X.K E ta) (lA X.K E tr) σ H Q:=by
 obtain ⟨a,S,G,hk,rfl,s,r,h⟩:=h;refine ⟨a,S,G,hk,rfl,s,r,(Gw h).imp ?_⟩;rintro v _ ⟨b,d,G1,rfl,x,s1,q,-,h1⟩;split at h1
 ·rename_i fs hi;obtain ⟨i,C',dx,us,rfl,_,rfl,_,n',e1,r1⟩:=s1.ins q hi;have hCC:C'=C:=by
   rw [x.k,hk,hn] at n';cases n'
   rfl
  subst hCC;split at h1
  ·rename_i hm;refine ⟨b.m i,dx,us,rfl,e1,r1.ZCT hm,b,S,G1,x.k.trans hk,rfl,s1,r.mono x,(Nf h1).imp ?_⟩;rintro vs _ ⟨b2,ds,G2,rfl,x2,s2,q2,-,h2⟩;exact ⟨b2,G2,.ref i::ds,(x2.k.trans x.k).trans hk,rfl,s2,⟨.ref (b.m i),vs,by rw [qR],q.mono x2,q2⟩,h2⟩
  ·exact h1.elim
 ·exact h1.elim
theorem O9 {g:Addr} {pl:Sem Bool} (hn:PySem.W.nsIn X.K mainGlobals c=some (some (.ref C))) (hc:Cls X.K C) (hm:Meth X.K C m g) (FF:FnOk X.prog X.w X.K X.mg X.base CX k g fd ps (lF X.K F)) (hr:Room k X.A) (hb:Binds X.K fd ps [])
  (hx:Passes CX X E) (ho:QE X E o ta) (ha:QA X E (e::es) tr) (he:notStar e=true:=by rfl) (hpl:es.all notStar=true:=by rfl)
  (ht:eval (.Call (.Attribute o m apos) (e::es) [] pos) X.env=(do
   let ov<-eval o X.env
   standAt apos.atName
   let (f,first)<-holding [ov] (getMethod ov m pl)
   callWith pos f first (backTo pos (starEach (e::es) X.env)) (backToKw pos (keywordEach [] X.env))):=by rfl):QE X E (.Call (.Attribute o m apos) (e::es) [] pos) (J7 c m F ta tr):=
 (ZNk (pl:=pl) ho hc hm FF hr hb .nil hx ha (Nx e es X.env he) (Qm pos X.env es hpl) ht).mono λσ H Q h=>ZJw (sp:=F) hn h
theorem ZH8 {g:Addr} {pl:Sem Bool} (hn:PySem.W.nsIn X.K mainGlobals c=some (some (.ref C))) (hc:Cls X.K C) (hm:Meth X.K C m g) (FF:FnOk X.prog X.w X.K X.mg X.base CX k g fd ps (lF X.K F)) (hr:Room k X.A) (hb:Binds X.K fd ps [])
  (hx:Passes CX X E) (ho:QE X E o ta)
  (ht:eval (.Call (.Attribute o m apos) [] [] pos) X.env=(do
   let ov<-eval o X.env
   standAt apos.atName
   let (f,first)<-holding [ov] (getMethod ov m pl)
   callWith pos f first (backTo pos (starEach [] X.env)) (backToKw pos (keywordEach [] X.env))):=by rfl):QE X E (.Call (.Attribute o m apos) [] [] pos) (J7 c m F ta Ad):=
 (ZKw (pl:=pl) ho hc hm FF hr hb .nil hx ht).mono λσ H Q h=>by
  obtain ⟨a,S,G,hk,rfl,s,r,h⟩:=h;refine ⟨a,S,G,hk,rfl,s,r,(Gw h).imp ?_⟩;rintro v _ ⟨b,d,G1,rfl,x,s1,q,-,h1⟩;split at h1
  ·rename_i fs hi;obtain ⟨i,C',dx,us,rfl,_,rfl,_,n',e1,r1⟩:=s1.ins q hi;have hCC:C'=C:=by
    rw [x.k,hk,hn] at n';cases n'
    rfl
   subst hCC;split at h1
   ·rename_i hm;exact ⟨b.m i,dx,us,rfl,e1,r1.ZCT hm,b,G1,[.ref i],x.k.trans hk,rfl,s1,⟨.ref (b.m i),[],rfl,q,rfl⟩,h1⟩
   ·exact h1.elim
  ·exact h1.elim
theorem ZJW {ds:List D} {Q:VK} (hk:a.K=X.K) (hn:PySem.W.nsIn X.K mainGlobals c=some (some (.ref C))) (s:Sim a G) (q:Reps a ds vs)
  (h:out E a ((F (.ref G.length::ds) (G++ [.ins c []])).bind λv G2=>match v with
   | .non=>.ok (.ref G.length) G2
   | _=>.bad) Q):∀x dx,a.H x=none->a.H dx=none->dx≠x->lF X.K F (.ref x::(vs++ [])) (upd (upd a.H dx (.own x)) x (.ins C dx [])) (λv H2=>v=.non/\Q (.ref x) H2) E:=λp dx hp hdx hne=>by
 have x1:Ext a (a.put dx (.own p)):=Ext.put hdx;have s1:Sim (a.put dx (.own p)) G:=s.put hdx;have hp1:(a.put dx (.own p)).H p=none:=by show upd a.H dx (.own p) p=none;rw [Bf λz=>hne z.symm];exact hp
 have x2:Ext (a.put dx (.own p)) ((a.put dx (.own p)).push p (.ins C dx [])):=Ext.push hp1;have s2:Sim ((a.put dx (.own p)).push p (.ins C dx [])) (G++ [.ins c []]):=s1.push hp1 ⟨C,dx,[],by show PySem.W.nsIn a.K mainGlobals c=_;rw [hk];exact hn,rfl,rfl,rfl⟩;have hgl:G.length=a.n:=s.len;have mnew:((a.put dx (.own p)).push p (.ins C dx [])).m a.n=p:=by show (if a.n=a.n then p else a.m a.n)=p;rw [if_pos rfl]
 have rp:Rep ((a.put dx (.own p)).push p (.ins C dx [])) (.ref G.length) (.ref p):=by rw [hgl];exact ⟨qK _,by rw [mnew]⟩
 refine ⟨(a.put dx (.own p)).push p (.ins C dx []),_,.ref G.length::ds,hk,rfl,s2,⟨.ref p,vs,by rw [qR],rp,(q.mono x1).mono x2⟩,(Gw (out.mono (x1.trans x2) h)).imp ?_⟩;rintro v _ ⟨b,d,G1,rfl,x3,s3,q3,-,h3⟩;split at h3
 ·have:v=.non:=q3;exact ⟨this,h3 b _ (Ext.refl b) s3 (rp.mono x3)⟩
 ·exact h3.elim
theorem ZNt {g:Addr} {p:Pos} (hn:PySem.W.nsIn X.K mainGlobals c=some (some (.ref C))) (M:Mk X.K C g) (FF:FnOk X.prog X.w X.K X.mg X.base CX k g fd ps (lF X.K F)) (hr:Room (k + 1) X.A) (hg:Gl X c) (hm:X.mg c=some (.ref C)) (hb:Binds X.K fd ps [])
  (hx:Passes CX X E) (ha:QA X E (e::es) tr) (hdb:(c == ("__debug__":Str))=false:=by decide) (he:notStar e=true:=by rfl) (hpl:es.all notStar=true:=by rfl):QE X E (.Call (.Name c p) (e::es) [] pos) (ZAp c F tr):=
 (ZPJ M FF hr hg hm hb .nil hx ha hdb (Nx e es X.env he) (Qm pos X.env es hpl)).mono λσ H Q h=>by obtain ⟨a,S,G,hk,rfl,s,r,h⟩:=h;refine ⟨a,S,G,hk,rfl,s,r,(Nf h).imp ?_⟩;rintro vs _ ⟨b,ds,G1,rfl,x,s1,q,-,h1⟩;exact ZJW (x.k.trans hk) hn s1 q h1
end
noncomputable def O6 (d:D) (ds:List D) (G:DH):R D:=match ds with
 | [.int k]=>match Ip d G with
  | some xs=>match Hc xs with
   | some ns=>if k∈ns/\ns.length<=1000000 then .ok (.int (ns.idxOf k)) G else .bad
   | none=>.bad
  | none=>.bad
 | _=>.bad
theorem ZHN:∀{ns:List Int} {vs:List V},Reps a (ns.map D.int) vs->vs=ns.map V.int
 | [],vs,h=>h
 | n::ns,vs,h=>by
  obtain ⟨v,r,e,h1,h2⟩:=h
  cases (show v=V.int n from h1)
  rw [e,ZHN h2]
  rfl
theorem Ru:∀{ns:List Int} {us:List Value},Vals (ns.map V.int) us->us.length=ns.length/\∀(j:Nat) (u:Value),us[j]? =some u->∃t,∃h:j < ns.length,u=.int ns[j] t
 | [],us,h=>by cases h;exact ⟨rfl,λj u e=>by simp at e⟩
 | n::ns,us,h=>by
  cases h with
  | cons r rr=>
   obtain ⟨h1,h2⟩:=Ru rr;obtain ⟨t,rfl⟩:=r;refine ⟨by simp [h1],λj u e=> ?_⟩;cases j with
   | zero=>simp at e;exact ⟨t,by simp,by simpa using e.symm⟩
   | succ j=>
    obtain ⟨t',hj,e'⟩:=h2 j u (by simpa using e);exact ⟨t',by simpa using hj,by simpa using e'⟩
section
variable {X:Cx} {E:XK}
theorem ZLW:MtM X "list.index" (lRm X.K E O6):=by
 intro pins s σ H x xs v us Q I rx rxs h;obtain ⟨a,G,d,ds,hk,rfl,sm,rd,rds,q⟩:=h;unfold O6 at q;split at q
 ·rename_i k;split at q
  ·rename_i ys hy;split at q
   ·rename_i ns hns;split at q
    ·rename_i hk';obtain ⟨hmem,hlen⟩:=hk';obtain ⟨p,vs,rfl,hq,rv⟩:=T6 sm rd hy;rw [Wh hns] at rv;rw [ZHN rv,hk] at hq;cases rx;obtain ⟨v1,rfl,rv1⟩:=reps1 rds
     cases (show v1=V.int k from rv1)
     obtain ⟨u,rfl,ru⟩:=rxs.one;obtain ⟨t,rfl⟩:=ru;obtain ⟨its,rits,⟨o,n,ho,hc,hdi,hd⟩,hz⟩:=I.list hq;obtain ⟨hl1,hl2⟩:=Ru rits;have hlt:ns.idxOf k < ns.length:=qx hmem;have hjs:ns.idxOf k < its.toArray.size:=by simpa [hl1] using hlt
     have hob:o={cls:=.type "list",dict:=o.dict,data:=.seq its.toArray n,slots:=o.slots}:=by
      obtain ⟨c1,c2,c3,c4⟩:=o;simp only at hc hd;subst hc;subst hd
      rfl
     rw [hob] at ho
     refine call_meets PySem.F.slot_list_index ⟨_,ho,rfl⟩ PySem.F.entry_list_index (PySem.F.args_list_index_2 _ _) (SeqAt.list_indexAt p its.toArray n o.dict o.slots (.int k t) (λy=>match y with | .int i _=>i == k | _=>false) (ns.idxOf k) hjs (by lia) ?_ ?_) ⟨ho,λy hy=> ?_,?_⟩
     ·have hg:its[ns.idxOf k]? =some its.toArray[ns.idxOf k]:=by simp [zZ (by simpa [hl1] using hlt:ns.idxOf k < its.length)]
      obtain ⟨t',h3,e3⟩:=hl2 _ _ hg;rw [e3];simp
     ·intro m hm hlt2;have hml:m < its.length:=by simpa using hm
      have hg:its[m]? =some its.toArray[m]:=by simp [zZ hml]
      obtain ⟨t',h3,e3⟩:=hl2 _ _ hg;rw [e3];have:=List.not_of_lt_findIdx (p:=λx=>x == k) (xs:=ns) hlt2;simpa using this
     ·have hy2:y∈its:=by simpa using hy
      obtain ⟨m,hm,e⟩:=q8 hy2;obtain ⟨t',h3,e3⟩:=hl2 m y (by rw [zZ hm,e]);rw [e3];exact SeqAt.EqAt.int_int _ _ _ _
     ·exact ⟨.int (ns.idxOf k),a.H,I.tok _,⟨_,rfl⟩,q a _ (Ext.refl a) sm rfl⟩
    ·exact q.elim
   ·exact q.elim
  ·exact q.elim
 ·exact q.elim
noncomputable def tLR (ta:TA):TE:=λσ H Q=>ta σ H λvs H1=>∃j:Int,vs= [.int j]/\ -(2 ^ 62)<=j/\j<=1000000/\∀l,H1 l=none->Q (.ref l) (upd H1 l (.lst ((zX j.toNat).map λ(i:Nat)=>V.int (i:Int))))
theorem ZKL {acc:Array Value} {n:Nat} (h:ItemsOf (λi v=>∃t,v=.int ((0:Int) + i * 1) t) acc n):Vals ((zX n).map λ(i:Nat)=>V.int (i:Int)) acc.toList:=by
 obtain ⟨h1,h2⟩:=h;refine ZAE (by simp [h1]) λi v u hv hu=> ?_
 have hi:i < n:=by have:=(zD.mp hv).1;simpa using this
 rw [zj,zI hi] at hv;have ev:v=V.int (i:Int):=by simpa using hv.symm
 obtain ⟨t,e⟩:=h2 i u (by rw [<-qE];exact hu);subst ev;refine ⟨t,?_⟩;rw [e]
 congr 1
 lia
theorem ZMc {ta:TA} {p p' pos pos':Pos} (hc:X.calm=true) (hg:Gl X "list") (hm:X.mg "list"=none) (hg2:Gl X "range") (hm2:X.mg "range"=none) (ha:PA X [e] ta) (hs:starEach [e] X.env= [(false,eval e X.env)]:=by rfl)
  (hs2:starEach [.Call (.Name "range" p') [e] [] pos'] X.env= [(false,eval (.Call (.Name "range" p') [e] [] pos') X.env)]:=by rfl):PE X (.Call (.Name "list" p) [.Call (.Name "range" p') [e] [] pos'] [] pos) (tLR ta):=by
 intro pins s σ H Q I h;refine Call_ (Jb I hg hm ZDS (PyProof.Rows.callWith_type1 ?_ hs2 rfl));rw [hs2];refine Calls.spliced_cons (Call_ (Jb I hg2 hm2 PyProof.Rows.boot_range (PyProof.Rows.callWith_type1 (thn (ha pos' pins s σ H _ I h) λus s1 ⟨vs,H1,I1,r1,q1⟩=> ?_) hs rfl)));obtain ⟨j,rfl,b1,b2,q⟩:=q1;obtain ⟨u,rfl,ru⟩:=r1.one;obtain ⟨t,rfl⟩:=ru;refine call_range_1 (Calls.spliced_nil ?_)
 have hsz:Builtin.Range.rangeSize 0 j 1=(j.toNat:Int):=by rw [rangeSize_one];split <;> lia
 refine call_list_range (I.ok.hd hc) (IsRange.new ..) (small_one (by decide) (by decide) b1 (by lia)) hsz (by lia) λh' tk acc' c' hk hS' hacc=> ?_
 have I2:=I1.kept (t':=s1.toks + 1 + 1) (h':=s1.heap.push {cls:=.type "range",data:=.fields #[.int 0 s1.toks,.int j t,.int 1 (s1.toks + 1)]}) λb o e=>zQ _ e
 refine ⟨.ref _,_,I2.laid (o:=.lst ((zX j.toNat).map λ(i:Nat)=>V.int (i:Int))) (t':=tk) hk (zK _) ⟨?_,acc'.toList,c',ZKL hacc,by simpa using hS'⟩,rfl,q _ (I2.hok.fresh (zK _))⟩;rw [zT,List.length_range,sizeLine_eq];lia
noncomputable def dLR (t:DA):DE:=λS G=>(t S G).bind λds G1=>match ds with
 | [.int j]=>if inR j/\j<=1000000 then .ok (.ref G1.length) (G1++ [.lst (Bs 0 j.toNat)]) else .bad
 | _=>.bad
theorem ZKY {p p' pos pos':Pos} (hc:X.calm=true) (hg:Gl X "list") (hm:X.mg "list"=none) (hg2:Gl X "range") (hm2:X.mg "range"=none) (ha:QA X E [e] ta) (hs:starEach [e] X.env= [(false,eval e X.env)]:=by rfl)
  (hs2:starEach [.Call (.Name "range" p') [e] [] pos'] X.env= [(false,eval (.Call (.Name "range" p') [e] [] pos') X.env)]:=by rfl):QE X E (.Call (.Name "list" p) [.Call (.Name "range" p') [e] [] pos'] [] pos) (dLR ta):=
 (ZMc hc hg hm hg2 hm2 ha hs hs2).mono λσ H Q h=>by
  obtain ⟨a,S,G,hk,rfl,s,r,h⟩:=h;refine ⟨a,S,G,hk,rfl,s,r,(Nf h).imp ?_⟩;rintro vs _ ⟨b,ds,G1,rfl,x,s1,q,-,h1⟩;split at h1
  ·rename_i j;split at h1
   ·rename_i hj;obtain ⟨v,rfl,rv⟩:=reps1 q
    cases (show v=V.int j from rv)
    refine ⟨j,rfl,hj.1.1,hj.2,λl hl=>M5 s1 ?_ h1 l hl⟩;unfold Bs;generalize zX j.toNat=L
    induction L with
    | nil=>exact rfl
    | cons k L ih=>exact ⟨_,_,rfl,(by show V.int (k:Int)=V.int (0 + (k:Int));rw [Int.zero_add]),ih⟩
   ·exact h1.elim
  ·exact h1.elim
def Itd (lo:Int) (n:Nat):It:=⟨λi _=>i < n,λi H x H'=>H'=H/\x=.int (lo - i),λi _=>n<=i⟩
theorem ZO0 {P:Program} {w:World} {K:PySem.W.Frag} {tg:Expr} (it:Addr) (lo:Int) (n:Nat):Turn P w K tg (Itd lo n) [it] it (λi h=>IsRangeIter h it (lo + (i:Nat) * (-1)) ((n:Int) - (i:Nat)) (-1)) where
 mem:=by simp
 obj:=λi h st b hb=>by
  have e:b=it:=by simpa using hb
  subst e;exact ⟨_,st,λv z=>by have z':Data.fields _=Data.cell v:=z;cases z'⟩
 keep:=λi h h' st k=>k it (by simp) _ st
 item:=by
  intro X hP hw hK hc i pins s σ H E I hf st hg;subst hP hw hK;obtain ⟨f0,f1,f2,f3,f4,f5⟩:=hf it (by simp);have W:=Walks.range (prog:=X.prog) (w:=X.w) (I.ok.hd hc) it lo (-1) n;refine W.item i s _ _ hg st λv h' tk hv st' kk=> ?_
  obtain ⟨t,rfl⟩:=hv;have I1:Inv X pins σ H {s with heap:=h',toks:=tk}:=I.turned (λb o hb e=>kk b o (by simpa using hb) e) f0 f1 f3 f4 f5;refine ⟨_,rfl,Ol (s:={s with heap:=h',toks:=tk}) (n:="range_iterator") st' rfl rfl (by decide) ⟨.int (lo - i),H,I1,⟨t,?_⟩,⟨rfl,rfl⟩,st',λb hb=>(hf b hb).1⟩⟩
  congr 1
  lia
 done:=by intro X hP hw hK hc i pins s σ H E I hf st hg;subst hP hw hK;obtain ⟨f0,f1,f2,f3,f4,f5⟩:=hf it (by simp);exact wpAny_pyNext_range_end (I.ok.hd hc) st (by have:n<=i:=hg;lia) λh' eb=>⟨rfl,I.turned (t':=s.toks) (λb o hb e=>eb b o hb e) f0 f1 f3 f4 f5⟩
 self:=λ_ _ _ _ _ st h=>wpAny_pyIter_rangeiter st h
theorem rangeSize_down (a b:Int):Builtin.Range.rangeSize a b (-1)=if b < a then a - b else 0:=by
 unfold Builtin.Range.rangeSize;rw [if_neg (by decide)];have e:(- (-1:Int))=1:=by decide
 rw [e,Int.ediv_one]
 split <;> lia
theorem small_down {a b:Int} (ha: -(2 ^ 62)<=a) (ha':a < 2 ^ 62) (hb: -(2 ^ 62)<=b) (hb':b < 2 ^ 62):Builtin.Range.small a b (-1)=true:=by
 unfold Builtin.Range.small;rw [rangeSize_down];simp only [Builtin.Range.rangeFitsLong,zF,j4,decide_eq_true_eq,beq_iff_eq,show¬((-1:Int) > 0) by decide,if_false]
 split <;> lia
noncomputable def iDn (ta:TA):TI:=λσ H R=>ta σ H λvs H1=>∃i j:Int,vs= [.int i,.int j,.int (-1)]/\(-(2 ^ 62)<=i/\i < 2 ^ 62/\ -(2 ^ 62)<=j/\j < 2 ^ 62)/\R (Itd i (i - j).toNat) H1
theorem ZKr {tg a b c:Expr} {ta:TA} {p pos:Pos} (hg:Gl X "range") (hm:X.mg "range"=none) (ha:PA X [a,b,c] ta) (hs:starEach [a,b,c] X.env=(false,eval a X.env)::starEach [b,c] X.env:=by rfl) (hs2:(backTo pos (starEach [b,c] X.env)).any (·.1)=false:=by rfl):
  PI X tg (.Call (.Name "range" p) [a,b,c] [] pos) (iDn ta):=by
 intro pins s σ H R I h;refine Call_ (Jb I hg hm PyProof.Rows.boot_range (PyProof.Rows.callWith_type1 (thn (ha pos pins s σ H _ I h) λus s1 ⟨vs,H1,I1,r1,q1⟩=> ?_) hs hs2));obtain ⟨i,j,e,⟨q1,q2,q3,q4⟩,q⟩:=q1;subst e;cases r1 with
 | cons r rr=>
  cases rr with
  | cons r' rr=>
   cases rr with
   | cons r'' rr=>
    cases rr;obtain ⟨t,rfl⟩:=r;obtain ⟨t',rfl⟩:=r';obtain ⟨t'',rfl⟩:=r'';refine call_range_3 (by decide) ?_ (.inl (PyProof.noPylong_small (by lia)));refine wpAny_pyIter_range (IsRange.new ..) (small_down q1 q2 q3 q4) ?_;have I2:Inv X pins σ H1 {s1 with heap:=s1.heap.push {cls:=.type "range",data:=.fields #[.int i t,.int j t',.int (-1) t'']},toks:=s1.toks}:=I1.kept λb o e=>zQ _ e
    refine ⟨(s1.heap.push {cls:=.type "range",data:=.fields #[.int i t,.int j t',.int (-1) t'']}).objs.size,[(s1.heap.push {cls:=.type "range",data:=.fields #[.int i t,.int j t',.int (-1) t'']}).objs.size],_,_,H1,rfl,
     I2.kept (t':=s1.toks) λb o e=>zQ _ e,ZO0 _ i (i - j).toNat,?_,λb hb=> ?_,q⟩
    ·have e1:i + ((0:Nat):Int) * (-1)=i:=by simp
     have e2:(((i - j).toNat:Nat):Int) - ((0:Nat):Int)=Builtin.Range.rangeSize i j (-1):=by rw [rangeSize_down];split <;> lia
     show IsRangeIter _ _ (i + ((0:Nat):Int) * (-1)) ((((i - j).toNat:Nat):Int) - ((0:Nat):Int)) (-1);rw [e1,e2];exact zy _ rfl
    ·have e:b=(s1.heap.push {cls:=.type "range",data:=.fields #[.int i t,.int j t',.int (-1) t'']}).objs.size:=by simpa using hb
     subst e;exact I2.K3 (zK _) (I2.hok.fresh (zK _))
def Ks (lo:Int) (n:Nat):List D:=(zX n).map λ(k:Nat)=>D.int (lo - (k:Int))
noncomputable def rng3 (ds:List D) (G:DH):R ItD:=match ds with
 | [.int i,.int j,.int k]=>if inR i/\inR j/\k= -1 then .ok (.pure (Ks i (i - j).toNat)) G else .bad
 | _=>.bad
theorem ZPu (lo:Int) (n:Nat):RepI a (.pure (Ks lo n)) (Itd lo n):=by
 refine ⟨(zX n).map λ(k:Nat)=>V.int (lo - (k:Int)),?_,λb x i=>⟨λv hv=> ?_,λhl=> ?_⟩⟩
 ·unfold Ks;generalize zX n=l
  induction l with
  | nil=>exact rfl
  | cons k l ih=>exact ⟨_,_,rfl,rfl,ih⟩
 ·rw [zj] at hv;by_cases hi:i < n
  ·rw [zI hi] at hv;have hv':V.int (lo - (i:Int))=v:=by simpa using hv
   exact ⟨hi,λw H' y=>⟨y.2.trans hv',y.1⟩⟩
  ·rw [zk (by simpa using hi)] at hv;cases hv
 ·show n<=i;simpa using hl
theorem ZOU {tg e' e'':Expr} {p pos:Pos} (hg:Gl X "range") (hm:X.mg "range"=none) (ha:QA X E [e,e',e''] ta) (hs:starEach [e,e',e''] X.env=(false,eval e X.env)::starEach [e',e''] X.env:=by rfl) (hs2:(backTo pos (starEach [e',e''] X.env)).any (·.1)=false:=by rfl):
  QI X E tg (.Call (.Name "range" p) [e,e',e''] [] pos) (Cv rng3 ta):=
 (ZKr hg hm ha hs hs2).mono λσ H Q h=>by
  obtain ⟨a,S,G,hk,rfl,s,r,h⟩:=h;refine ⟨a,S,G,hk,rfl,s,r,(Ro h).imp ?_⟩;rintro vs _ ⟨b,ds,G1,rfl,x,s1,q,-,h1⟩;unfold rng3 at h1;split at h1
  ·rename_i i j k;split at h1
   ·rename_i hj;obtain ⟨hi,hj,rfl⟩:=hj;obtain ⟨v,r,e1,q1,v2,r2,e2,q2,v3,r3,e3,q3,q4⟩:=q
    cases (show v=V.int i from q1)
    cases (show v2=V.int j from q2)
    cases (show v3=V.int (-1) from q3)
    cases (show r3= [] from q4)
    subst e3;subst e2;exact ⟨i,j,e1,⟨hi.1,hi.2,hj.1,hj.2⟩,h1 b _ (Ext.refl b) s1 (ZPu i (i - j).toNat)⟩
   ·exact h1.elim
  ·exact h1.elim
end
theorem ZNb (a b:Value):checkTypeCall "enumerate" ⟨[a],[("start",b)]⟩=pure ():=by kernel_rfl
theorem ZOb (a b:Value):checkBuiltinCall "enumerate.__new__" ⟨[.type "enumerate",a],[("start",b)]⟩=pure ():=by kernel_rfl
theorem ZQE (o a b:Value):argsOk "object.__init__" ⟨[o,a],[("start",b)]⟩:=by
 unfold argsOk;rw [signature?_of (id:="object.__init__") (n:= ['_','_','t','i','n','i','_','_']) (o:= ['t','c','e','j','b','o']) (by kernel_rfl) PySem.F.owner_object]
 kernel_rfl
section
variable {prog:Program} {w:World} {A:Around} {E:Value->Shared->Prop} {s:Shared}
theorem ZJF {newId:String} {self a:Value} {kw:List (Str×Value)} (hl:typeLookup (.type T) "__init__"=pure (some (.builtin "object.__init__"))) (hm:Bind.madeBy (.type T)=pure (some newId)) (hne:(some newId != some "object.__new__")=true):
  Meets (Builtin.«object.__init__» ⟨[self,a],kw⟩) (λ_ R s=>s.TypeIs self T/\R (.ok (.ret .none)) s):=by
 refine Meets.of_wp λprog w A R s hs=> ?_
 obtain ⟨hT,hq⟩:=hs
 repeat (any_goals (first | assumption | wp_step))
 exact ⟨_,rfl,hq⟩
theorem ZK6 {newId initId:String} {Bn Bi:Builtin} {args:List Value} {kw:List (Str×Value)} {S:PySem.Spec} {Q Q₁:Value->Shared->Prop} (ft:TypeCalled T newId initId)
  (hct:checkTypeCall T ⟨args,kw⟩=pure ()) (hcn:checkBuiltinCall newId ⟨.type T::args,kw⟩=pure ())
  (entryN:entryFor table newId=some Bn) (entryI:entryFor table initId=some Bi) (g:Meets (Bn ⟨.type T::args,kw⟩) S) (h:S A.in1 (wants Q₁ E) s)
  (hnext:∀obj s₁,Q₁ obj s₁->s₁.TypeIs obj T/\argsOk initId ⟨obj::args,kw⟩/\∃Si,Meets (Bi ⟨obj::args,kw⟩) Si/\Si A.in1 (wants (λr s₂=>r=.none/\Q obj s₂) E) s₁):
  wpAny (model prog w) A (call (.type T) args kw) Q E s:=by
 obtain ⟨c,tl,hmro⟩:=ft.mro;have hmade:=ft.made;have hsub:=ft.sub;refine wpAny_call (codeAny_of_tree ?_);show wpAny _ _ (callAny (.type T) _) _ _ _;refine wpAny_pure ⟨Code.quiet_builtin _ (by decide +kernel),codeAny_builtin PySem.F.entry_type_call ?_⟩;rw [Around.under_plain (weight_type_call_type T args kw) (units_type_call_type T args kw)];have h1:=ft.notType;have h2:=ft.canCreate
 repeat (any_goals (first | assumption | wp_step))
 refine codeAny_mono (codeAny_call_builtin ft.plain entryN (wpAny_of_eq hcn (g prog w A.in1 _ s h))) λr s₁ hr=> ?_
 cases r with
 | error e=>exact hr
 | ok fl=>
  cases fl with
  | ret obj=>
   obtain ⟨hT,hok,Si,gi,hsi⟩:=hnext _ _ hr;have hli:=ft.init.lookup;have hbi:=ft.init.bind obj
   repeat (any_goals (first | assumption | wp_step))
   refine codeAny_mono (codeAny_call_builtin ft.init.plain entryI (ft.init.check _ _ _ _ _ _ _ _ hT hok (gi prog w A.in1 _ s₁ hsi))) λr₂ s₂ hr₂=> ?_
   cases r₂ with
   | error e=>exact hr₂
   | ok fl₂=>
    cases fl₂ with
    | ret r=>
     obtain ⟨rfl,hq⟩:=hr₂
     repeat (any_goals (first | assumption | wp_step))
    | _=>exact hr₂.elim
  | _=>exact hr.elim
theorem ZNl {sr:Src} {xs:Array Value} {n:Int} {t:Tok} {Q:Value->Shared->Prop} (hv:sr.val s.heap xs)
  (h:∀h' tk g,Gv n g->En h' (s.heap.objs.size + 1) s.heap.objs.size .none n g .none->sr.it h' s.heap.objs.size 0->(∀b o,s.heap.get? b=some o->h'.get? b=some o)->Q (.ref (s.heap.objs.size + 1)) {s with heap:=h',toks:=tk}):
  wpAny (model prog w) A (call (.type "enumerate") [.ref sr.adr] [("start",.int n t)]) Q E s:=by
 have g:Meets (Builtin.«enumerate.__new__» ⟨[.type "enumerate",.ref sr.adr],[("start",.int n t)]⟩) (λ_ R s=>sr.val s.heap xs/\∀g tk,Gv n g->
   R (.ok (.ret (.ref (s.heap.push {cls:=.type sr.itn,data:=.fields #[.ref sr.adr,.int 0 0]}).objs.size)))
    {s with heap:=(s.heap.push {cls:=.type sr.itn,data:=.fields #[.ref sr.adr,.int 0 0]}).push {cls:=.type "enumerate",data:=.fields #[.none,.bool false,.ref s.heap.objs.size,rawInt n,g,.none]},toks:=tk}):=
  .of_wp λprog w A R s h=>by
   obtain ⟨hp,g,d,tk,os⟩:=s;obtain ⟨hl,h⟩:=h;have hsub:=sub_enumerate;have hL:sr.val (Shared.heap ⟨hp,g,d,tk,os⟩) xs:=hl
   wp_walk
   refine wpAny_stack_any λst=>wpAny_pure ?_
   cases hf:Builtin.SmallTypes.fitsIndex n
   ·split
    ·rename_i c _ _ _ _ _
     cases (c == Value.type "enumerate") <;> (wp_walk using Src.iter hL;exact ⟨_,rfl,h _ _ (.inr ⟨t,rfl⟩)⟩)
    ·wp_walk using Src.iter hL
     exact ⟨_,rfl,h _ _ (.inr ⟨t,rfl⟩)⟩
   ·split
    ·rename_i c _ _ _ _ _
     cases (c == Value.type "enumerate") <;> (wp_walk using Src.iter hL;exact ⟨_,rfl,h _ _ (.inl rfl)⟩)
    ·wp_walk using Src.iter hL
     exact ⟨_,rfl,h _ _ (.inl rfl)⟩
 refine ZK6 (Q₁:=λobj s₁=>s₁.TypeIs obj "enumerate"/\Q obj s₁) PySem.F.called_enumerate (ZNb _ _) (ZOb _ _) PySem.F.entry_enumerate_new PySem.F.entry_object_init g ⟨hv,λg tk hg=> ?_⟩ λobj s₁ hq=>⟨hq.1,ZQE obj _ _,_,ZJF PySem.F.called_enumerate.init.lookup PySem.F.called_enumerate.made (by decide),hq.1,rfl,hq.2⟩
 have hz:(s.heap.push {cls:=.type sr.itn,data:=.fields #[.ref sr.adr,.int 0 0]}).objs.size=s.heap.objs.size + 1:=qj ..;show _/\_;rw [hz];have he:En ((s.heap.push {cls:=.type sr.itn,data:=.fields #[.ref sr.adr,.int 0 0]}).push {cls:=.type "enumerate",data:=.fields #[.none,.bool false,.ref s.heap.objs.size,rawInt n,g,.none]}) (s.heap.objs.size + 1) s.heap.objs.size .none n g .none:=by
  have:=zy (s.heap.push {cls:=.type sr.itn,data:=.fields #[.ref sr.adr,.int 0 0]}) (o:={cls:=.type "enumerate",data:=.fields #[.none,.bool false,.ref s.heap.objs.size,rawInt n,g,.none]}) rfl;rw [hz] at this;exact this
 exact ⟨⟨_,he,rfl⟩,h _ tk g hg he ⟨_,zQ _ (zy _ rfl),rfl,rfl⟩ λb o x=>zQ _ (zQ _ x)⟩
theorem ZOp {M:Model} {A:Around} {E:Value->Shared->Prop} {s:Shared} {env:Env} {pos:Pos} {rest:List Expr} {kws:List Keyword} {Q:Value->Shared->Prop}
  (hall:(backToKw pos (keywordEach kws env)).all (·.1.isSome)=true)
  (h:wpAny M A (spliced (backTo pos (starEach (e::rest) env))) (λvs s₁=>wpAny M A (evalAll ((backToKw pos (keywordEach kws env)).map (·.2)))
   (λks s₂=>wpAny M A (call (.type T) vs (((backToKw pos (keywordEach kws env)).filterMap (·.1)).zip ks)) Q E s₂) E s₁) E s)
  (hplain:(backTo pos (starEach (e::rest) env)).any (·.1)=false) (hkw:(backToKw pos (keywordEach kws env)).any (·.1.isNone)=false) (he:starEach (e::rest) env=(false,eval e env)::starEach rest env):
  wpAny M A (callWith pos (.type T) [] (backTo pos (starEach (e::rest) env)) (backToKw pos (keywordEach kws env))) Q E s:=by
 unfold callWith;refine wpAny_bind (wpAny_holding (wpAny_mono (PyProof.Rows.evalArgs_kw2 (Q:=λa s₁=>wpAny M A (call (.type T) ([]++a.pos) a.kw) Q E s₁) hall h he) (λa s₁ h₁=>wpAny_bind (wpAny_standAt ?_)) λ_ _ x=>x));simp only [hplain,hkw,Bool.or_false];refine wpAny_bind (wpAny_pure ?_);exact wpAny_bind (wpAny_mono h₁ (λr s₂ hr=>wpAny_bind (wpAny_holding (wpAny_point (wpAny_pure hr)))) λ_ _ x=>x)
end
section
variable {X:Cx} {E:XK}
noncomputable def ZIf (K:PySem.W.Frag) (ta tk:TA):TI:=λσ H R=>ta σ H λvs H1=>tk σ H1 λws H2=>∃sr xs n,vs= [.ref (Src.adr sr)]/\ws= [.int n]/\sr.sq K H2 xs/\R (Ite K sr n) H2
theorem ZIk {elts:List Expr} {x1} {tp:Pos} {a b:Expr} {ta tk:TA} {p pos kp:Pos} (hg:Gl X "enumerate") (hm:X.mg "enumerate"=none) (ha:PA X [a] ta) (hk:PK X [⟨some "start",b,kp⟩] tk) (hs:starEach [a] X.env= [(false,eval a X.env)]:=by rfl):
  PI X (.Tuple elts x1 tp) (.Call (.Name "enumerate" p) [a] [⟨some "start",b,kp⟩] pos) (ZIf X.K ta tk):=by
 intro pins s σ H R I h;refine wpAny_Call_Name_kw (Jb I hg hm PyProof.Rows.boot_enumerate (ZOp rfl (thn (ha pos pins s σ H _ I h) λus s1 ⟨vs,H1,I1,r1,q1⟩=>thn (hk pos pins s1 σ H1 _ I1 q1) λus2 s2 ⟨ws,H2,I2,r2,q2⟩=> ?_) (by rw [hs];rfl) rfl hs));obtain ⟨sr,xs,n,e,e2,hq,q⟩:=q2;subst e;subst e2;cases r1 with
 | cons r rr=>
  cases rr;cases r;obtain ⟨u,rfl,ru⟩:=r2.one;obtain ⟨t,rfl⟩:=ru;obtain ⟨its,rv,hv,hz⟩:=Src.sq.val I2 hq;refine ZNl hv λh' tk g hg he hi kp=> ?_
  refine ZCg he ?_;have I3:Inv X pins σ H2 {s2 with heap:=h',toks:=tk}:=I2.kept (t':=tk) kp;refine ⟨s2.heap.objs.size + 1,[s2.heap.objs.size + 1,s2.heap.objs.size],_,_,H2,rfl,I3,ZFH sr n _ _ (Nat.succ_ne_self _),⟨g,.none,by simpa using he,by simpa using hg,hi⟩,λb hb=> ?_,q⟩;have hb':b=s2.heap.objs.size + 1∨b=s2.heap.objs.size:=by simpa using hb
  have hle:s2.heap.objs.size<=b:=by rcases hb' with rfl | rfl <;> lia
  exact I2.K3 hle (I2.hok.fresh hle)
theorem ZL5 {sr:Src} {n0:Int} (hk:a.K=X.K) (rd:∀b:Wd,Ext a b->∀G',Sim b G'->∀ys,Cj d G'=some ys->∃us,sr.sq b.K b.H us/\Reps b ys us) (n:Nat):RepI a (.fn n (Eu n0 d)) (Ite X.K sr n0):=by
 intro b x G' s' i;have kb:b.K=X.K:=x.k.trans hk;constructor
 ·intro e he;unfold Eu at he;split at he
  ·cases he
  ·rename_i ys hy;obtain ⟨us,hq,ru⟩:=rd b x G' s' ys hy;rw [kb] at hq;cases hyi:ys[i]? with
   | none=>rw [hyi] at he;cases he
   | some y=>
    rw [hyi] at he;have he':D.tup [.int (n0 + i),y]=e:=by simpa using he
    subst he';obtain ⟨u,hu,rx⟩:=ru.get hyi;refine ⟨⟨us,u,hq,hu⟩,?_⟩;rintro w H' ⟨p,u',rfl,hp,rfl,hu'⟩;refine ⟨b.put p (.tup [.int (n0 + i),u']),rfl,Ext.put hp,s'.put hp,p,_,rfl,.of Gz,?_⟩;have e1:=hu' us hq;rw [hu] at e1;cases e1;exact ⟨_,_,rfl,rfl,Reps.cons (rx.mono (Ext.put hp)) rfl⟩
 ·intro he;unfold Eu at he;split at he
  ·cases he
  ·rename_i ys hy;obtain ⟨us,hq,ru⟩:=rd b x G' s' ys hy;rw [kb] at hq;cases hyi:ys[i]? with
   | none=>exact ⟨us,hq,by rw [<-ru.length];exact qD.mp hyi⟩
   | some y=>rw [hyi] at he;cases he
noncomputable def ZB0 (ta:DA) (tb:DE):DI:=λS G=>(ta S G).bind λds G1=>(tb S G1).bind λk G2=>match ds,k with
 | [d],.int n=>match Cj d G2 with
  | some xs=>.ok (.fn xs.length (Eu n d)) G2
  | none=>.bad
 | _,_=>.bad
theorem ZLP {b:Expr} {nm:Option Str} {kp:Pos} {tb:DE} (hb:QE X E b tb):PK X [⟨nm,b,kp⟩] (ZA0 (lE X.K E tb) Wa):=ZPE hb ZJC
theorem ZLX {E:XK} {r:R D} {f:D->DH->R ItD} {Q:It->Hp->Prop} (h:outI E a (r.bind f) Q):
  out E a r (λv H=>∃(b:Wd) (d:D) (G:DH),b.H=H/\Ext a b/\Sim b G/\Rep b d v/\outI E b (f d G) Q):=by
 cases r with
 | ok d G=>exact λb v x s q=>⟨b,d,G,rfl,x,s,q,outI.mono x h⟩
 | err e G=>exact h
 | bad=>exact h
theorem ZN4 {elts:List Expr} {x1} {tp:Pos} {b:Expr} {tb:DE} {p pos kp:Pos} (hg:Gl X "enumerate") (hm:X.mg "enumerate"=none) (ha:QA X E [e] ta) (hb:QE X E b tb) (hs:starEach [e] X.env= [(false,eval e X.env)]:=by rfl):
  QI X E (.Tuple elts x1 tp) (.Call (.Name "enumerate" p) [e] [⟨some "start",b,kp⟩] pos) (ZB0 ta tb):=(ZIk hg hm ha (ZLP hb) hs).mono λσ H Q h=>by
 obtain ⟨a,S,G,hk,rfl,s,r,h⟩:=h;refine ⟨a,S,G,hk,rfl,s,r,(Ro h).imp ?_⟩;rintro vs _ ⟨b,ds,G1,rfl,x,s1,q,-,h1⟩;refine ⟨b,S,G1,x.k.trans hk,rfl,s1,r.mono x,(ZLX h1).imp ?_⟩;rintro v _ ⟨c,k,G2,rfl,y,s2,q2,h2⟩;split at h2
 ·rename_i d n;split at h2
  ·rename_i xs hx;obtain ⟨w,r,e1,q1,q3⟩:=q
   cases (show r= [] from q3)
   subst e1
   cases (show v=V.int n from q2)
   obtain ⟨sr,rfl,⟨us,hq⟩,rd⟩:=ZBB s2 (q1.mono y) hx;have kb:c.K=X.K:=(y.k.trans x.k).trans hk;exact ⟨sr,us,n,rfl,rfl,by rw [<-kb];exact hq,h2 c _ (Ext.refl c) s2 (ZL5 kb rd _)⟩
  ·exact h2.elim
 ·exact h2.elim
end
end DL
namespace DL
open PySem PySem.Spec L2
variable {d:D}
noncomputable def Jt (c f:Str) (d:D) (G:DH):R D:=match Jx c d G with
 | some fs=>match fs.lookup f with
  | some v=>.ok v G
  | none=>.bad
 | none=>.bad
noncomputable def Qt (c f:Str) (o d:D) (S:DSt) (G:DH):SR:=match o with
 | .ref i=>match Jx c o G with
  | some fs=>if fs.length < 1000 then .nx S (G.set i (.ins c (Hj f d fs))) else .bad
  | none=>.bad
 | _=>.bad
noncomputable def Xi (c m:Str) (F:List D->DH->R D) (t:DA) (S:DSt) (o:D) (G:DH):R D:=match Jx c o G with
 | some fs=>match fs.lookup m with
  | none=>(t S G).bind λds G2=>F (o::ds) G2
  | some _=>.bad
 | none=>.bad
noncomputable def Yv (F:List D->DH->R D) (c:Str) (ds:List D) (G1:DH):R D:=(F (.ref G1.length::ds) (G1++ [.ins c []])).bind λv G2=>match v with
 | .non=>.ok (.ref G1.length) G2
 | _=>.bad
section
variable {S:DSt} {G:DH} {c f m:Str} {t to tv:DE} {ta:DA} {F:List D->DH->R D} {i:Nat} {fs:List (Str×D)} {v d:D}
@[simp] theorem ev_fld:Ff c t f S G=(t S G).bind λd G1=>Jt c f d G1:=id rfl
@[simp] theorem Nu:Hb c to tv f S G=(tv S G).toS λd G1=>(to S G1).toS λo G2=>Qt c f o d S G2:=id rfl
@[simp] theorem ZQg:J7 c m F to ta S G=(to S G).bind λo G1=>Xi c m F ta S o G1:=id rfl
@[simp] theorem ZRT:ZAp c F ta S G=(ta S G).bind λds G1=>Yv F c ds G1:=id rfl
theorem Zj (h:G[i]? =some (.ins c fs)):Jx c (.ref i) G=some fs:=by unfold Jx;simp only [h,if_true]
theorem N8 (h:G[i]? =some (.ins c fs)) (h2:fs.lookup f=some v):Jt c f (.ref i) G=.ok v G:=by unfold Jt;rw [Zj h];simp only [h2]
theorem ZNJ (h:G[i]? =some (.ins c fs)) (hl:fs.length < 1000):Qt c f (.ref i) d S G=.nx S (G.set i (.ins c (Hj f d fs))):=by unfold Qt;simp only [Zj h,hl,if_true]
theorem ZLY (h:G[i]? =some (.ins c fs)) (h2:fs.lookup m=none):Xi c m F ta S (.ref i) G=(ta S G).bind λds G2=>F (.ref i::ds) G2:=by unfold Xi;rw [Zj h];simp only [h2]
@[simp] theorem ev_LR:dLR ta S G=(ta S G).bind λds G1=>match ds with
 | [.int j]=>if inR j/\j<=1000000 then .ok (.ref G1.length) (G1++ [.lst (Bs 0 j.toNat)]) else .bad
 | _=>.bad:=id rfl
@[simp] theorem ZJe {i j:Int} (hi:inR i) (hj:inR j):rng3 [.int i,.int j,.int (-1)] G=.ok (.pure (Ks i (i - j).toNat)) G:=by simp [rng3,hi,hj]
theorem ZMi {lo:Int}:Ks lo 0= []:=rfl
theorem ZPT {lo:Int} {n:Nat}:Ks lo (n + 1)=.int lo::Ks (lo - 1) n:=by
 unfold Ks;rw [qC,zC,qO]
 congr 1
 ·simp
 ·refine qQ λk _=> ?_
  simp only [Function.comp]
  congr 1
  lia
theorem ZN6 {ns:List Int} {k:Int} (h:Ip d G=some (ns.map D.int)) (hm:k∈ns) (hl:ns.length<=1000000):O6 d [.int k] G=.ok (.int (ns.idxOf k)) G:=by unfold O6;simp only [h,ZCk,hm,hl,and_self,if_true]
theorem ZPI {G G':DH} (hl:G'.length=G.length) (hb:bel G.length d=true):tidy G (.ok d G')=.ok d G':=by
 unfold tidy;simp only [hb,if_true];split
 ·rename_i h;rw [List.take_of_length_le (by lia)] at h;rw [h]
 ·rfl
theorem ZMx {G G':DH} (h:G'.take G.length≠G):tidy G (.ok d G')=.ok d G':=by unfold tidy;simp only [h,if_false]
end
end DL
namespace DL
open PySem PySem.Spec L2
open PyProof.Rows hiding St
noncomputable def N7 (x:Str) (n:Int):Str:=if n < 1 then Str.empty else if (n == 1 || x.length == 0)=true then x else ⟨(zV n.toNat x.cps).foldl (·++·) #[]⟩
theorem Yn {a:Array Nat}:∀(n:Nat) (b:Array Nat),((zV n a).foldl (·++·) b).toList=b.toList++(zV n a.toList).flatten
 | 0,b=>by simp
 | n + 1,b=>by rw [zR,jI,Yn n (b++a),zR,qy];simp
theorem ZPO {a:Array Nat} (n:Nat):((zV n a).foldl (·++·) #[]).size=n * a.size:=by rw [<-qz,Yn];simp
theorem ZP8 {x:Str} {n:Int}:(N7 x n).cps.toList=(zV n.toNat x.cps.toList).flatten:=by
 unfold N7;split
 ·rename_i h;have e:n.toNat=0:=by lia
  rw [e];rfl
 ·rename_i h;split
  ·rename_i hx;rw [j4,beq_iff_eq,beq_iff_eq] at hx;rcases hx with rfl | hx
   ·simp
   ·have e:x.cps.toList= []:=by have:x.cps.size=0:=hx;rw [<-qz] at this;exact qH this
    rw [e];simp
  ·show ((zV n.toNat x.cps).foldl (·++·) #[]).toList=_
   rw [Yn];simp
noncomputable def Bg:D->D->DH->R D
 | .int i,.int j,G=>if MulB i j then .ok (.int (i * j)) G else .bad
 | .str x,.int n,G=>if -1000<=n/\n<=1000/\x.length<=1000 then .ok (.str (N7 x n)) G else .bad
 | _,_,_=>.bad
section
variable {X:Cx} {E:XK}
theorem ZKz:OpR X (binaryOp .Mult) (λx y H Q=>∃i n,x=.str i/\y=.int n/\(-1000<=n/\n<=1000/\i.length<=1000)/\Q (.str (N7 i n)) H):=by
 intro pins s σ H x y v u Q I rx ry h;obtain ⟨i,n,rfl,rfl,⟨h1,h2,h3⟩,q⟩:=h;obtain ⟨t,rfl⟩:=rx;obtain ⟨t',rfl⟩:=ry;have hlen:∀m:Nat,m<=1000->i.length * m<=1000000:=λm hm=>z5 (jR h3 hm) (by decide)
 refine P.mul_str ?_ (λhn hx=> ?_) (λhn hx=> ?_) ?_
 ·rw [decide_eq_false (by lia),decide_eq_false (by lia)];rfl
 ·intro hgt;have hm:0 < n:=by lia
  have:(i.length:Int) * n<=2 ^ 63 - 1:=by have h4:(i.length:Int) * n<=1000 * 1000:=Int.mul_le_mul (by lia) h2 (by lia) (by lia);lia
  have h5:=(Int.le_ediv_iff_mul_le hm).mpr this;lia
 ·have:=hlen n.toNat (by lia);unfold Builtin.Str.tooLong;rw [sizeLine_eq];exact decide_eq_false (by lia)
 ·unfold N7 at q;split
  ·rename_i hn;rw [if_pos hn] at q;exact ⟨by decide,.str Str.empty,H,I.tok _,⟨_,rfl⟩,q⟩
  ·rename_i hn;rw [if_neg hn] at q;split
   ·rename_i hx;rw [if_pos hx] at q;exact ⟨.str i,H,I,⟨t,rfl⟩,q⟩
   ·rename_i hx;rw [if_neg hx] at q;refine ⟨?_,.str _,H,I.tok _,⟨_,rfl⟩,q⟩
    show ((zV n.toNat i.cps).foldl (·++·) #[]).size<=sizeLine
    have h6:i.cps.size<=1000:=h3;have h7:=jR (show n.toNat<=1000 by lia) h6;rw [ZPO,sizeLine_eq];lia
theorem Dr:OpR X (binaryOp .Mult) (lR2 X.K E Bg):=Ht (ZOL.or ZKz) λa G d e x y Q hk s rd re q=>by
 cases d <;> cases e <;> first
  | exact q.elim
  | (
    rename_i i j;unfold Bg at q;dsimp only at q;split at q
    ·first
     | exact .inl ⟨_,_,rd,re,by assumption,q a _ (Ext.refl a) s rfl⟩
     | exact .inr ⟨_,_,rd,re,by assumption,q a _ (Ext.refl a) s rfl⟩
    ·exact q.elim)
end
section
variable {i j:Int} {G:DH}
theorem Ja (h1: -(2 ^ 64) < i) (h2:i < 2 ^ 64):Bg (.int i) (.int j) G=.ok (.int (i * j)) G:=if_pos (.inl (.inl ⟨h1,h2⟩))
theorem Jk (h1: -(2 ^ 64) < j) (h2:j < 2 ^ 64):Bg (.int i) (.int j) G=.ok (.int (i * j)) G:=if_pos (.inl (.inr ⟨h1,h2⟩))
@[simp] theorem ZRH {n:Nat} (h:n < 18446744073709551616):Bg (.int (no_index (OfNat.ofNat n))) (.int j) G=.ok (.int (OfNat.ofNat n * j)) G:=
 Ja (by have:(0:Int)<=(OfNat.ofNat n:Int):=Int.natCast_nonneg n;lia) (by have:(OfNat.ofNat n:Int) < 18446744073709551616:=Int.ofNat_lt.mpr h;lia)
@[simp] theorem ZRJ {n:Nat} (h:n < 18446744073709551616):Bg (.int i) (.int (no_index (OfNat.ofNat n))) G=.ok (.int (i * OfNat.ofNat n)) G:=
 Jk (by have:(0:Int)<=(OfNat.ofNat n:Int):=Int.natCast_nonneg n;lia) (by have:(OfNat.ofNat n:Int) < 18446744073709551616:=Int.ofNat_lt.mpr h;lia)
theorem ZPN {x:Str} {n:Int} (h: -1000<=n/\n<=1000/\x.length<=1000):Bg (.str x) (.int n) G=.ok (.str (N7 x n)) G:=if_pos h
end
section
variable {X:Cx} {E:XK} {e st:Expr} {te:TE} {ts:TO} {p2 pos:Pos}
end
section
variable {S:DSt} {G:DH}
end
section
variable {X:Cx} {E:XK}
end
section
variable {S:DSt} {G:DH}
end
section
variable {X:Cx} {pins:List (Addr×Obj)} {σ:St} {H:Hp} {s:Shared} {N:List Str} {scope:Scope} {caps:List Nat} {x qual:Str} {f:Addr} {cd:Value} {A:Around}
end
section
variable {X:Cx} {pins:List (Addr×Obj)} {σ:St} {s:Shared} {scope:Scope} {a:Wd}
end
def ltK (ks:List Int) (i j:Nat):Bool:=decide (ks.getD i 0 < ks.getD j 0)
section
variable {prog:Program} {w:World} {A:Around} {E:Value->Shared->Prop} {s:Shared}
end
section
variable {X:Cx} {pins:List (Addr×Obj)} {σ:St} {H:Hp} {s:Shared} {h':Heap} {m:Str->Option Value}
end
section
variable {X:Cx} {pins:List (Addr×Obj)} {σ:St} {N:List Str} {scope:Scope} {caps:List Nat} {x:Str} {f:Addr} {A:Around} {a:Wd} {S:DSt} {body:Expr} {te:DE} {params:Arguments} {pm ctv:Value} {c':Addr} {ob oc:Obj} {vs0:Array Value} {t0:Tok} {E:XK}
 {Dd kS:Addr} {e1:Nat} {m:Str->Option Value} {h₀:Heap} {Q:VK}
end
end DL
namespace DL
open PySem PySem.Spec L2
open PyProof.Rows hiding St
open PySem.W (KatKeys KatFin katRev KatBack)
section
variable {prog:Program} {w:World} {A:Around} {E:Value->Shared->Prop} {s:Shared} {h₀:Heap} {L a kS:Addr} {m:Str->Option Value} {P:PySem.Fin->Shared->Prop}
end
end DL
namespace DL
open PySem PySem.Spec L2
open PyProof.Rows hiding St
section
variable {X:Cx} {pins:List (Addr×Obj)} {σ:St} {N:List Str} {scope:Scope} {caps:List Nat} {x:Str} {f:Addr} {A:Around} {a:Wd} {S:DSt} {body:Expr} {te:DE} {params:Arguments} {pm ctv:Value} {c':Addr} {ob oc:Obj} {vs0:Array Value} {t0:Tok}
 {Dd kS:Addr} {e1:Nat} {m:Str->Option Value} {h₀:Heap} {Q:VK}
end
section
variable {X:Cx} {pins:List (Addr×Obj)} {σ:St} {N:List Str} {scope:Scope} {caps:List Nat} {x:Str} {f:Addr} {A:Around} {a:Wd} {S:DSt} {body:Expr} {te:DE} {params:Arguments} {pm ctv:Value} {c':Addr} {ob oc:Obj} {vs0:Array Value} {t0:Tok} {Q:VK}
end
section
variable {X:Cx} {N:List Str} {scope:Scope} {caps:List Nat} {x:Str} {body:Expr} {te:DE} {params:Arguments} {e:Expr} {tn:DA} {p p' pos pos' lp kp kp' cp:Pos} {C m:Str} {cj:Nat}
end
end DL
namespace DL
open PySem PySem.W L2
variable {h:Heap} {C:Addr} {m x q:Str} {st:Stmt}
noncomputable def O1:List Obj->Nat->Frag
 | [],_=> []
 | o::r,n=>match o.cls,o.data with
  | .none,.fields _=>O1 r (n + 1)
  | _,.freed=>O1 r (n + 1)
  | _,_=>(n,o)::O1 r (n + 1)
def S9 (h:Heap):Frag:=O1 h.objs.toList 0
theorem ZDr {a:Addr} {o:Obj}:∀{l:List Obj} {n:Nat},(O1 l n).lookup a=some o->n<=a/\l[a - n]? =some o/\∀x y z,o≠⟨x,y,.freed,z⟩
 | [],n,h=>by cases h
 | p::r,n,h=>by
  have next:(O1 r (n + 1)).lookup a=some o->n<=a/\(p::r)[a - n]? =some o/\∀x y z,o≠⟨x,y,.freed,z⟩:=λh=>by obtain ⟨h1,h2,h3⟩:=ZDr h;obtain ⟨k,rfl⟩:=Nat.exists_eq_add_of_le h1;rw [Nat.add_sub_cancel_left] at h2;refine ⟨z5 (jv n) h1,?_,h3⟩;rw [show n + 1 + k - n=k + 1 by rw [Nat.add_assoc,Nat.add_sub_cancel_left,Nat.add_comm],jq];exact h2
  unfold O1 at h;split at h
  ·exact next h
  ·exact next h
  ·rename_i hz hf;rw [qM] at h;split at h
   ·rename_i e;have e':a=n:=by simpa using e
    subst e';cases h;refine ⟨zK _,by simp,λx y z q=> ?_⟩;subst q;exact hz rfl
   ·exact next h
theorem ZN5 (h:Heap):(S9 h).In h:=λa o e=>by
 obtain ⟨_,h2,h3⟩:=ZDr e;have h4:h.objs[a]? =some o:=by simpa using h2
 unfold Heap.get?;rw [h4];split
 ·rename_i q;cases q;exact absurd rfl (h3 _ _ _)
 ·rfl
noncomputable def K7 (p:Program) (N:Nat) (w:World):Heap:=match openEnds treeTable p w N with
 | some s=>s.heap
 | none=>default
noncomputable def Stays (p:Program) (N:Nat) (w:World) (h:Heap):Prop:=∀b o,(K7 p N w).get? b=some o->h.get? b=some o
theorem Stays.in {p:Program} {N:Nat} {w:World} (x:Stays p N w h):(S9 (K7 p N w)).In h:=λa o e=>x a o (ZN5 _ a o e)
noncomputable def Y9 (p:Program) (N:Nat):Hook:=
 ⟨Heap,λs=>s.heap,K7 p N,Stays p N,λw s e b o q=>by rw [show s.heap=K7 p N w from e];exact q,λw h h' x k b o q=>k b o (x b o q)⟩
section
variable {p q:Program} {loose:List Str} {Xt:Shared->Bool} {N:Nat} {β:Type} {see:Heap->β} {val:β}
theorem ZLv (E:∀w,(openEnds treeTable p w N).map (λs=>(openSeen q loose (importedModules p.main.body) Xt true s,see s.heap))=some (openGood q loose,val)):
  LeftO p q loose Xt (Y9 p N).obs (Y9 p N).val N:=λw=>by
 obtain ⟨s,h1,h2⟩:=zL.mp (E w);show Option.map _ _=some (openGood q loose,K7 p N w);unfold K7;rw [h1];show some (openSeen q loose (importedModules p.main.body) Xt true s,s.heap)=_;rw [(Prod.mk.inj h2).1]
theorem ZKi (E:∀w,(openEnds treeTable p w N).map (λs=>(openSeen q loose (importedModules p.main.body) Xt true s,see s.heap))=some (openGood q loose,val)) (w:World):see (K7 p N w)=val:=by obtain ⟨s,h1,h2⟩:=zL.mp (E w);unfold K7;rw [h1];exact (Prod.mk.inj h2).2
end
noncomputable def dOf (s:Stmt):DefRec:=match s with
 | Stmt.FunctionDef n a b _ _ _ s _ _ p=>⟨n,a,b,s,p⟩
 | _=>⟨Str.empty,⟨[],[],none,[],[],none,[]⟩,[],{kind:=.module,names:= [],isGenerator:=false,isCoroutine:=false,more:= []},⟨0,0,0,0⟩⟩
abbrev XtOf (l:OpenLaw) (q:Program) (s:Shared):Bool:=xlAt q [] s && recOk l.row.toRowW.records s
theorem holds_top {l:OpenLaw} {q:Program} {loose:List Str} {N:Nat} {β:Type} {see:Heap->β} {val:β} {d:DefRec} (well:l.wellSaid=true)
  (E:∀w,(openEnds treeTable l.prog w N).map (λs=>(openSeen q loose (importedModules l.prog.main.body) (XtOf l q) true s,see s.heap))=some (openGood q loose,val))
  (hdef:defOf q l.row.name=some (d,[])) (hp:l.row.prog.theDef l.row.name=some (d.params,d.body,d.scope)) (hk:kwWritten? d.params.kwonlyargs d.params.kw_defaults=some []) (hwr:(!l.row.writes || l.row.records.isEmpty)=true)
  (ok:(chainsOk q && opensWell l.row.prog && (frees l.row.toRowW && l.row.within.isEmpty))=true) (hb:l.row.prog.bare) (hw:l.row.toRowW.promised)
  (call:WalkO q loose (XL q []) (Stays l.prog N) l.row.toRowW d [] λf vs=>PySem.call f vs):l.Holds:=
 holds_law well λsaid=>holds_open (r:=l.row) (q:=q) (loose:=loose) (Xt:=XtOf l q) (XP:=XL q []) (YP:=Stays l.prog N) (N:=N) (ZLv E) (Y9 l.prog N).of (Y9 l.prog N).keeps
  (λs e=>xl_of s (jJ.mp e).1) XL.keeps hdef hp hk (λs e=>recFacts_of (jJ.mp e).2) hwr said ok hb hw call
def Bl (K:Frag) (n:Str):Addr:=match nsIn K mainGlobals n with
 | some (some (.ref f))=>f
 | _=>0
noncomputable def gOk (K:Frag) (n:Str):Bool:=match nsIn K mainGlobals n with
 | some (some (.ref _))=>true
 | _=>false
theorem ZDA {K:Frag} {n:Str} (h:gOk K n=true):nsIn K mainGlobals n=some (some (.ref (Bl K n))):=by
 unfold gOk at h;unfold Bl;split at h
 ·rename_i e;rw [e]
 ·cases h
noncomputable def Hl (K:Frag) (C:Addr) (m:Str):Addr:=match findIn K (.ref C) m with
 | some (some (.ref f))=>f
 | _=>0
noncomputable def mOk (K:Frag) (C:Addr) (m:Str):Bool:=match findIn K (.ref C) m with
 | some (some (.ref f))=>isFn K (.ref f)
 | _=>false
theorem ZGN {K:Frag} (h:mOk K C m=true):findIn K (.ref C) m=some (some (.ref (Hl K C m)))/\isFn K (.ref (Hl K C m))=true:=by
 unfold mOk at h;unfold Hl;split at h
 ·rename_i e;rw [e];exact ⟨rfl,h⟩
 ·cases h
noncomputable def noF (K:Frag) (C:Addr) (m:Str):Bool:=match findIn K (.ref C) m with
 | some none=>true
 | _=>false
theorem ZLm {K:Frag} (h:noF K C m=true):findIn K (.ref C) m=some none:=by
 unfold noF at h;split at h
 ·assumption
 ·cases h
def zOk (K:Frag) (n:Str):Bool:=match nsIn K mainGlobals n with
 | some none=>true
 | _=>false
theorem ZOR {K:Frag} {n:Str} (h:zOk K n=true):nsIn K mainGlobals n=some none:=by
 unfold zOk at h;split at h
 ·assumption
 ·cases h
noncomputable def ZBa (K:Frag) (C:Addr):Bool:=match findIn K (.ref C) "__setattr__" with
 | some (some (.builtin s))=>s == "object.__setattr__"
 | _=>false
theorem ZP4 {K:Frag} (h:ZBa K C=true):findIn K (.ref C) "__setattr__"=some (some (.builtin "object.__setattr__")):=by
 unfold ZBa at h;split at h
 ·rename_i e;rw [e,beq_iff_eq.mp h]
 ·cases h
noncomputable def iOk (K:Frag) (n:Str) (v:Int):Bool:=match nsIn K mainGlobals n with
 | some (some (.int u _))=>decide (u=v)
 | _=>false
noncomputable def sOk (K:Frag) (n:Str) (v:Str):Bool:=match nsIn K mainGlobals n with
 | some (some (.str u _))=>decide (u=v)
 | _=>false
noncomputable def El (K:Frag) (n:Str):Tok:=match nsIn K mainGlobals n with
 | some (some (.int _ t))=>t
 | some (some (.str _ t))=>t
 | _=>0
theorem ZKJ {K:Frag} {n:Str} {v:Int} (h:iOk K n v=true):nsIn K mainGlobals n=some (some (.int v (El K n))):=by
 unfold iOk at h;unfold El;split at h
 ·rename_i e;rw [e,of_decide_eq_true h]
 ·cases h
theorem ZLI {K:Frag} {n:Str} {v:Str} (h:sOk K n v=true):nsIn K mainGlobals n=some (some (.str v (El K n))):=by
 unfold sOk at h;unfold El;split at h
 ·rename_i e;rw [e,of_decide_eq_true h]
 ·cases h
def Mq (K:Frag) (f:Addr):Obj:=match K.lookup f with
 | some o=>o
 | none=>⟨.none,none,.plain,#[]⟩
def Ec (K:Frag) (f:Addr):FuncData:=match (Mq K f).data with
 | .func fd=>fd
 | _=>default
def ZJt:Value->Bool
 | .none=>true
 | _=>false
def ZOk:FuncBody->Option (List Stmt)
 | .stmts b=>some b
 | _=>none
noncomputable def Ut (K:Frag) (x q:Str) (f:Addr):Bool:=match K.lookup f with
 | some ⟨_,_,.func fd,_⟩=>decide (fd.name=x) && decide (fd.qualname=q) && (fd.globals == mainGlobals && fd.builtins == builtinsNs && fd.closure.isEmpty && ZJt fd.defaults) && (codeIn K fd.code q && keepIn K (.ref f))
 | _=>false
abbrev DefTxt:=Arguments×Option (List Stmt)×Scope
def Vr (K:Frag) (f:Addr):DefTxt:=((Ec K f).params,ZOk (Ec K f).body,(Ec K f).scope)
def Y0 (st:Stmt):DefTxt:=(K6 st,some (Iz st),Aw st)
noncomputable abbrev FnSaid (K:Frag) (x q:Str) (st:Stmt) (f:Addr):Prop:=
 K.lookup f=some ⟨(Mq K f).cls,(Mq K f).dict,.func (fnOf x q (K6 st) (Iz st) (Aw st) .none (Ec K f).kwdefaults (Ec K f).doc (Ec K f).pyModule (Ec K f).annotations (Ec K f).code (Ec K f).closureTuple),(Mq K f).slots⟩/\
  codeIn K (Ec K f).code q=true/\keepIn K (.ref f)=true
theorem ZD8 {K:Frag} {f:Addr} (h:Ut K x q f=true) (t:Vr K f=Y0 st):FnSaid K x q st f:=by
 unfold Ut at h;split at h
 ·rename_i oc od fd sl e;have eo:Mq K f=⟨oc,od,.func fd,sl⟩:=by unfold Mq;rw [e]
  have ef:Ec K f=fd:=by unfold Ec;rw [eo]
  unfold Vr Y0 at t;rw [ef] at t;obtain ⟨t1,t2⟩:=Prod.mk.inj t;obtain ⟨t2,t3⟩:=Prod.mk.inj t2;simp only [zF,decide_eq_true_eq,beq_iff_eq,List.isEmpty_iff] at h;obtain ⟨⟨⟨h1,h2⟩,⟨⟨h3,h4⟩,h5⟩,h6⟩,h7,h8⟩:=h;unfold FnSaid;rw [ef,eo,e];refine ⟨?_,h7,h8⟩;obtain ⟨nm,qn,ps,bd,sc,gl,cl,df,kd,dc,pm,an,cd,ct,bl⟩:=fd;dsimp only at t1 t2 t3 h1 h2 h3 h4 h5 h6;subst h1 h2 h3 h4 h5 t1 t3;have h6':df=.none:=by cases df <;> first | rfl | cases h6
  subst h6';have h9:bd=.stmts (Iz st):=by
   cases bd <;> first | (cases t2) | skip
   exact congrArg _ (Option.some.inj t2)
  subst h9
  rfl
 ·cases h
noncomputable def strsOf:List Value->Option (List Str)
 | []=>some []
 | .str s _::r=>(strsOf r).map (s::·)
 | _::_=>none
theorem ZEc:∀{l:List Value} {ss:List Str},strsOf l=some ss->Vals (ss.map V.str) l
 | [],ss,h=>by cases h;exact .nil
 | v::r,ss,h=>by
  unfold strsOf at h;split at h
  ·rename_i q;cases q
  ·rename_i s t r' q;cases q;obtain ⟨ss',h1,rfl⟩:=zL.mp h;exact .cons ⟨_,rfl⟩ (ZEc h1)
  ·cases h
noncomputable def ZCX (K:Frag) (n:Str) (vs:List Str):Bool:=match nsIn K mainGlobals n with
 | some (some (.ref p))=>(match K.lookup p with
   | some ⟨.type t,_,.seq its _,_⟩=>t == "tuple" && decide (strsOf its.toList=some vs) && Nat.ble its.toList.length 1000
   | _=>false)
 | _=>false
noncomputable abbrev GtSaid (K:Frag) (n:Str) (vs:List Str):Prop:=∃(p:Addr) (od:Option Addr) (sl:Array (Option Value)) (k:Nat) (its:List Value),nsIn K mainGlobals n=some (some (.ref p))/\K.lookup p=some ⟨.type "tuple",od,.seq its.toArray k,sl⟩/\its.length<=1000/\Vals (vs.map V.str) its
theorem ZJ8 {K:Frag} {n:Str} {vs:List Str} (h:ZCX K n vs=true):GtSaid K n vs:=by
 unfold ZCX at h;split at h
 ·rename_i p e;split at h
  ·rename_i t od its k sl e2;simp only [zF,beq_iff_eq,decide_eq_true_eq] at h;obtain ⟨⟨rfl,h2⟩,h3⟩:=h;exact ⟨p,od,sl,k,its.toList,e,by rw [e2],Nat.le_of_ble_eq_true h3,ZEc h2⟩
  ·cases h
 ·cases h
inductive Ask where
 | fn (n:Str) (st:Stmt)
 | mt (c m q:Str) (st:Stmt)
 | cl (c:Str)
 | no (c x:Str)
 | z (n:Str)
 | gi (n:Str) (v:Int)
 | gs (n v:Str)
 | gt (n:Str) (vs:List Str)
noncomputable def Ask.chk (K:Frag):Ask->Bool
 | .fn n _=>gOk K n && Ut K n n (Bl K n)
 | .mt c m q _=>mOk K (Bl K c) m && Ut K m q (Hl K (Bl K c) m)
 | .cl c=>gOk K c && (plainGet K (Bl K c) Str.empty && hasDictIn K (Bl K c) && plainOver K (Bl K c)) && (ZBa K (Bl K c) && makesIn K (Bl K c) && keepIn K (.ref (Bl K c)))
 | .no c x=>noF K (Bl K c) x
 | .z n=>zOk K n
 | .gi n v=>iOk K n v
 | .gs n v=>sOk K n v
 | .gt n vs=>ZCX K n vs
noncomputable def Ask.txt (K:Frag):Ask->Option DefTxt
 | .fn n _=>some (Vr K (Bl K n))
 | .mt c m _ _=>some (Vr K (Hl K (Bl K c) m))
 | _=>none
def Ask.want:Ask->Option DefTxt
 | .fn _ st=>some (Y0 st)
 | .mt _ _ _ st=>some (Y0 st)
 | _=>none
noncomputable def Ask.Said (K:Frag):Ask->Prop
 | .fn n st=>nsIn K mainGlobals n=some (some (.ref (Bl K n)))/\FnSaid K n n st (Bl K n)
 | .mt c m q st=>findIn K (.ref (Bl K c)) m=some (some (.ref (Hl K (Bl K c) m)))/\isFn K (.ref (Hl K (Bl K c) m))=true/\FnSaid K m q st (Hl K (Bl K c) m)
 | .cl c=>nsIn K mainGlobals c=some (some (.ref (Bl K c)))/\plainGet K (Bl K c) Str.empty=true/\hasDictIn K (Bl K c)=true/\plainOver K (Bl K c)=true/\
   findIn K (.ref (Bl K c)) "__setattr__"=some (some (.builtin "object.__setattr__"))/\makesIn K (Bl K c)=true/\keepIn K (.ref (Bl K c))=true
 | .no c x=>findIn K (.ref (Bl K c)) x=some none
 | .z n=>nsIn K mainGlobals n=some none
 | .gi n v=>nsIn K mainGlobals n=some (some (.int v (El K n)))
 | .gs n v=>nsIn K mainGlobals n=some (some (.str v (El K n)))
 | .gt n vs=>GtSaid K n vs
theorem Ask.said {K:Frag}:∀{a:Ask},a.chk K=true->a.txt K=a.want->a.Said K
 | .fn n st,h,t=>by obtain ⟨h1,h2⟩:=jJ.mp h;exact ⟨ZDA h1,ZD8 h2 (Option.some.inj t)⟩
 | .mt c m q st,h,t=>by obtain ⟨h1,h2⟩:=jJ.mp h;exact ⟨(ZGN h1).1,(ZGN h1).2,ZD8 h2 (Option.some.inj t)⟩
 | .cl c,h,_=>by simp only [Ask.chk,zF] at h;obtain ⟨⟨h1,⟨h2,h3⟩,h4⟩,⟨h5,h6⟩,h7⟩:=h;exact ⟨ZDA h1,h2,h3,h4,ZP4 h5,h6,h7⟩
 | .no c x,h,_=>ZLm h
 | .z n,h,_=>ZOR h
 | .gi n v,h,_=>ZKJ h
 | .gs n v,h,_=>ZLI h
 | .gt n vs,h,_=>ZJ8 h
def AllSaid (K:Frag):List Ask->Prop
 | []=>True
 | a::r=>a.Said K/\AllSaid K r
theorem ZG1 {K:Frag}:∀{l:List Ask},(l.all (Ask.chk K),l.map (Ask.txt K))=(true,l.map Ask.want)->AllSaid K l
 | [],_=>trivial
 | a::r,h=>by obtain ⟨h1,h2⟩:=Prod.mk.inj h;rw [j1] at h1;obtain ⟨h3,h4⟩:=jJ.mp h1;rw [zC,zC] at h2;obtain ⟨h5,h6⟩:=List.cons.inj h2;exact ⟨Ask.said h3 h5,ZG1 (by rw [h4,h6])⟩
noncomputable def ZBC (l:List Ask) (h:Heap):Bool×List (Option DefTxt):=(l.all (Ask.chk (S9 h)),l.map (Ask.txt (S9 h)))
abbrev ZAY (l:List Ask):Bool×List (Option DefTxt):=(true,l.map Ask.want)
theorem ZKS {K:Frag} {a:Str} {f:Addr} {fd:FuncData} {s:Shared} {v:Value} (F:Fun K x q st f fd)
  (h:∀(kV doc pm:Value) (an:Option Addr) (cdv ct:Value) (u:Value),bindArgs (fnOf x q (K6 st) (Iz st) (Aw st) .none kV doc pm an cdv ct) ⟨[u],[]⟩=pure [(a,u)]):BindsTo s fd ⟨[v],[]⟩ [(a,v)]:=by
 obtain ⟨oc,od,kV,doc,pm,an,cdv,ct,osl,rfl,lk,hcd⟩:=F.ex;exact .of_eq (h kV doc pm an cdv ct v)
noncomputable def Xp (p:Program) (w:World) (n₀:Nat) (ann:Option Value):Nat->SharedT->Thread->Option SharedT
 | 0,_,_=>none
 | n + 1,s,t=>match through t with
  | true=>some s
  | false=>match PySem.W.Fast.tw6613529449190102663 n₀ ann t with
   | false=>none
   | true=>match PySem.W.Fast.tw10156331382660048174 (PySem.W.Fast.tw11892475500146522536 PySem.W.Fast.tw14364793385576792824) p w s t with
    | some (s',t')=>Xp p w n₀ ann n s' t'
    | none=>none
theorem ZFK {p:Program} {w:World} {n₀:Nat} {ann:Option Value}:∀{n:Nat} {s s':SharedT} {t:Thread},Xp p w n₀ ann n s t=some s'->topRun treeTable p w n₀ ann n s.abs t=some s'.abs
 | 0,_,_,_,h=>by cases h
 | n + 1,s,s',t,h=>by
  unfold Xp at h;unfold topRun;rw [<-PySem.W.Fast.te6613529449190102663,<-PySem.W.Fast.te10156331382660048174,<-PySem.W.Fast.te11892475500146522536,<-PySem.W.Fast.te14364793385576792824] at h;cases ht:through t with
  | true=>
   rw [ht] at h;cases h
   rfl
  | false=>
   rw [ht] at h;dsimp only at h ⊢;cases ho:stepOk n₀ ann t with
   | false=>rw [ho] at h;cases h
   | true=>
    rw [ho] at h;dsimp only at h ⊢;split at h
    ·rename_i s2 t2 e;rw [stepT_spec e];exact ZFK h
    ·cases h
def ZEb:List Obj->Nat->BT->BT
 | [],_,t=>t
 | o::r,n,t=>ZEb r (n + 1) (t.ins n o)
noncomputable def ZFl (w:World) (os:OsState):SharedT:=⟨ZEb (boot_heap w.params).objs.toList 0 .nil,(boot_heap w.params).objs.size,(boot_heap w.params).life,Array.mk [],boot_drawn,boot_toks,os⟩
theorem boot_abs:∀w os,(ZFl w os).abs=⟨boot_heap w.params,Array.mk [],boot_drawn,boot_toks,os⟩:=λw os=>by kernel_rfl
theorem ZNx:∀w:World,((boot_heap w.params).isNs mainGlobals && (Array.mk []:Array GenState).size == 0)=true:=λw=>by kernel_rfl
noncomputable def ZAJ (p:Program) (w:World) (os:OsState):Option SharedT:=Xp p w (boot_heap w.params).objs.size (PySem.W.Fast.tw8920871248978507458 (boot_heap w.params) mainGlobals "__annotations__") 100000 (ZFl w os) (topStub p)
noncomputable def ZCr (p:Program) (w:World) (s:Shared):Bool:=staticsOk (PySem.W.Fast.tw5923862056798008813 p.main.body) (boot_heap w.params) s.heap && namesBound p s.heap && gensDone s && laidKept (boot_heap w.params) s.heap
theorem ZIw {p q:Program} {loose:List Str} {Xt:Shared->Bool} {β:Type} {see:Heap->β} {val:β} (e:opening p=plainProg p.main.scope.names) (f:∀s,fenceModules? p s=some s)
  (R:∀w os,(ZAJ p w os).map (λs=>(ZCr p w s.abs,PySem.W.Fast.tw4187177175401517315 q loose (PySem.W.Fast.tw5923862056798008813 p.main.body) Xt true s.abs,see s.abs.heap))=some (true,openGood q loose,val)):
  ∀w,(openEnds treeTable p w 100000).map (λs=>(openSeen q loose (importedModules p.main.body) Xt true s,see s.heap))=some (openGood q loose,val):=λw=>by
 obtain ⟨⟨h,gs,d,k,os⟩,h0,e0⟩:=zL.mp (boot_open (N:=100000) e rfl f w);obtain ⟨rfl,rfl,rfl,rfl⟩:h=boot_heap w.params/\gs=Array.mk []/\d=boot_drawn/\k=boot_toks:=by simpa using e0
 obtain ⟨s,h1,h2⟩:=zL.mp (R w os);obtain ⟨h3,h4⟩:=Prod.mk.inj h2;obtain ⟨h4,h5⟩:=Prod.mk.inj h4;unfold ZAJ at h1;have r:=ZFK h1;rw [boot_abs,<-PySem.W.Fast.te8920871248978507458] at r;rw [<-PySem.W.Fast.te4187177175401517315,<-PySem.W.Fast.te5923862056798008813] at h4;unfold ZCr at h3;rw [<-PySem.W.Fast.te5923862056798008813] at h3;have t:topFrom treeTable p w 100000 ⟨boot_heap w.params,Array.mk [],boot_drawn,boot_toks,os⟩=some s.abs:=by
  unfold topFrom;dsimp only;rw [ZNx,r]
  show (match staticsOk (importedModules p.main.body) (boot_heap w.params) s.abs.heap && namesBound p s.abs.heap && gensDone s.abs && laidKept (boot_heap w.params) s.abs.heap with | true=>_ | false=>_)=_
  rw [h3]
 unfold openEnds;rw [h0];show (topFrom treeTable p w 100000 _).map _=_;rw [t];exact congrArg some (Prod.ext h4 h5)
theorem ZPz {l:OpenLaw} (h:PySem.W.Fast.tw9446332074065402090 l=true):l.wellSaid=true:=by rw [PySem.W.Fast.te9446332074065402090];exact h
structure FT (K:Frag) (mg:Str->Option Value) (n:Str) (st:Stmt) (ps:List Str):Prop where
 F:Fun K n n st (Bl K n) (Ec K (Bl K n))
 b:Binds K (Ec K (Bl K n)) ps []
 m:mg n=some (.ref (Bl K n))
 k:keepIn K (.ref (Bl K n))=true
structure MT (K:Frag) (c m q:Str) (st:Stmt) (ps:List Str):Prop where
 F:Fun K m q st (Hl K (Bl K c) m) (Ec K (Hl K (Bl K c) m))
 b:Binds K (Ec K (Hl K (Bl K c) m)) ps []
 me:Meth K (Bl K c) m (Hl K (Bl K c) m)
structure CT (K:Frag) (mg:Str->Option Value) (c:Str):Prop where
 N:nsIn K mainGlobals c=some (some (.ref (Bl K c)))
 cl:Cls K (Bl K c)
 g:mg c=some (.ref (Bl K c))
 mK:Mk K (Bl K c) (Hl K (Bl K c) "__init__")
theorem Rb {K:Frag} {f:Addr} (s:FnSaid K x q st f):Fun K x q st f (Ec K f):=by
 have e:Ec K f=fnOf x q (K6 st) (Iz st) (Aw st) .none (Ec K f).kwdefaults (Ec K f).doc (Ec K f).pyModule (Ec K f).annotations (Ec K f).code (Ec K f).closureTuple:=by
  have h:=s.1
  conv=>lhs;unfold Ec Mq;rw [h]
 exact ⟨⟨_,_,_,_,_,_,_,_,_,e,by rw [e];exact s.1,s.2.1⟩,s.2.2⟩
theorem Di {K:Frag} {mg:Str->Option Value} {n:Str} {ps:List Str} (X:K.In h) (G:h.Ns mainGlobals mg) (s:Ask.Said K (.fn n st))
  (hb:∀(kV doc pm:Value) (an:Option Addr) (cdv ct:Value) (us:List Value),us.length=ps.length->bindArgs (fnOf n n (K6 st) (Iz st) (Aw st) .none kV doc pm an cdv ct) ⟨us,[]⟩=pure (ps.zip us)):FT K mg n st ps:=
 ⟨Rb s.2,(Rb s.2).binds hb,mg_of X G s.1,s.2.2.2⟩
theorem Np {K:Frag} {c:Str} {ps:List Str} (s:Ask.Said K (.mt c m q st))
  (hb:∀(kV doc pm:Value) (an:Option Addr) (cdv ct:Value) (us:List Value),us.length=ps.length->bindArgs (fnOf m q (K6 st) (Iz st) (Aw st) .none kV doc pm an cdv ct) ⟨us,[]⟩=pure (ps.zip us)):MT K c m q st ps:=
 ⟨Rb s.2.2,(Rb s.2.2).binds hb,s.1,s.2.1,s.2.2.2.2⟩
theorem ZJo {K:Frag} {mg:Str->Option Value} {c:Str} (X:K.In h) (G:h.Ns mainGlobals mg) (s:Ask.Said K (.cl c)) (i:Ask.Said K (.mt c "__init__" q st)):CT K mg c:=
 ⟨s.1,⟨s.2.1,s.2.2.1,s.2.2.2.1,s.2.2.2.2.1⟩,mg_of X G s.1,s.2.2.2.2.2.1,i.1,i.2.1,s.2.2.2.2.2.2⟩
noncomputable abbrev FnO (P:Program) (w:World) (K:Frag) (mg:Str->Option Value) (base:Heap) (k:Nat) (n:Str) (ps:List Str) (F:List D->DH->R D):Prop:=FnOk P w K mg base CX0 k (Bl K n) (Ec K (Bl K n)) ps (lF K F)
noncomputable abbrev MtO (P:Program) (w:World) (K:Frag) (mg:Str->Option Value) (base:Heap) (k:Nat) (c m:Str) (ps:List Str) (F:List D->DH->R D):Prop:=FnOk P w K mg base CX0 k (Hl K (Bl K c) m) (Ec K (Hl K (Bl K c) m)) ps (lF K F)
theorem ZJD {K:Frag} {fd:FuncData} {s:Shared} {v:Value} {a:Str} {f:Addr} (F:Fun K x q st f fd)
  (h:∀(kV doc pm:Value) (an:Option Addr) (cdv ct:Value) (u:Value),bindArgs (fnOf x q (K6 st) (Iz st) (Aw st) .none kV doc pm an cdv ct) ⟨[u],[]⟩=pure [(a,u)]:=by intros;rfl):BindsTo s fd ⟨[v],[]⟩ [(a,v)]:=ZKS F h
end DL
namespace Law
open PySem L2 DL
noncomputable def top (i:Nat):Stmt:=PySem.Challenge.pw_sluiceway_k38_whole_more_water.main.body.getD i (.Pass ⟨0,0,0,0⟩)
def fuel:Nat:=100000
noncomputable def inC (s:Stmt) (j:Nat):Stmt:=match s with
 | .ClassDef _ _ _ body _ _ _ _ _ _ _=>body.getD j (.Pass ⟨0,0,0,0⟩)
 | _=>.Pass ⟨0,0,0,0⟩
abbrev ZCs:Stmt:=top 42
abbrev ZDt:List Str:= ["_law_number_here","_law_k","_law_digit"]
abbrev Zc:List Str:=ZDt.take 2
theorem Rw:FnScope ZDt Zc (Aw ZCs):=⟨rfl,rfl,rfl,by decide +kernel,rfl,by decide +kernel,by decide +kernel⟩
abbrev Yr:Stmt:=top 41
abbrev ZEs:List Str:= ["_law_script"]
abbrev ZA3:List Str:=ZEs.take 1
theorem ZPP:FnScope ZEs ZA3 (Aw Yr):=⟨rfl,rfl,rfl,by decide +kernel,rfl,by decide +kernel,by decide +kernel⟩
abbrev ZAC:Stmt:=top 43
abbrev ZG3:List Str:= ["_law_script","_law_k","_law_number_here"]
abbrev Zr:List Str:=ZG3.take 2
theorem U8:FnScope ZG3 Zr (Aw ZAC):=⟨rfl,rfl,rfl,by decide +kernel,rfl,by decide +kernel,by decide +kernel⟩
abbrev ZBt:Stmt:=top 46
abbrev ZH5:List Str:= ["_law_cell","_law_unit_here"]
abbrev ZAB:List Str:=ZH5.take 2
theorem ZIn:FnScope ZH5 ZAB (Aw ZBt):=⟨rfl,rfl,rfl,by decide +kernel,rfl,by decide +kernel,by decide +kernel⟩
abbrev ZCR:Stmt:=top 45
abbrev ZFF:List Str:= ["_law_script"]
abbrev ZA4:List Str:=ZFF.take 1
theorem ZNj:FnScope ZFF ZA4 (Aw ZCR):=⟨rfl,rfl,rfl,by decide +kernel,rfl,by decide +kernel,by decide +kernel⟩
abbrev Tf:Stmt:=top 54
noncomputable abbrev Up:List Str:= ["_law_script","_law_house_here","_law_turns","_law_many","_law_b","_law_floods_here","_law_at","_law_cells"]
abbrev ZAM:List Str:=Up.take 3
theorem Qw:FnScope Up ZAM (Aw Tf):=⟨rfl,rfl,rfl,by decide +kernel,rfl,by decide +kernel,by decide +kernel⟩
abbrev ZAj:Stmt:=top 50
abbrev ZHJ:List Str:= ["_law_steps_here","_law_total","_law_low","_law_many","_law_way"]
abbrev ZCu:List Str:=ZHJ.take 1
theorem Qn:FnScope ZHJ ZCu (Aw ZAj):=⟨rfl,rfl,rfl,by decide +kernel,rfl,by decide +kernel,by decide +kernel⟩
abbrev Yz:Stmt:=top 48
noncomputable abbrev ZDw:List Str:= ["_law_cells","_law_unit_here","_law_pumps","_law_steps_here","_law_low","_law_k","_law_many","_law_way"]
abbrev Zn:List Str:=ZDw.take 3
theorem Lb:FnScope ZDw Zn (Aw Yz):=⟨rfl,rfl,rfl,by decide +kernel,rfl,by decide +kernel,by decide +kernel⟩
abbrev ZB5:Stmt:=top 47
abbrev ZHZ:List Str:= ["_law_script","_law_cell"]
abbrev ZCG:List Str:=ZHZ.take 1
theorem ZEn:FnScope ZHZ ZCG (Aw ZB5):=⟨rfl,rfl,rfl,by decide +kernel,rfl,by decide +kernel,by decide +kernel⟩
abbrev Sq:Stmt:=top 49
noncomputable abbrev V0:List Str:= ["_law_script","_law_b","_law_unit_here","_law_pumps","_law_year_here","_law_rule_here","_law_begin","_law_j","_law_later","_law_cells"]
abbrev ZCf:List Str:=V0.take 4
theorem Jz:FnScope V0 ZCf (Aw Sq):=⟨rfl,rfl,rfl,by decide +kernel,rfl,by decide +kernel,by decide +kernel⟩
abbrev Uq:Stmt:=top 51
noncomputable abbrev ZB2:List Str:= ["_law_script","_law_b","_law_k","_law_names","_law_river","_law_unit_here","_law_cell","_law_pumps","_law_rule_here","_law_pump","_law_most","_law_to","_law_brim"]
abbrev ZBp:List Str:=ZB2.take 5
theorem Js:FnScope ZB2 ZBp (Aw Uq):=⟨rfl,rfl,rfl,by decide +kernel,rfl,by decide +kernel,by decide +kernel⟩
abbrev ZCH:Stmt:=top 44
abbrev ZDb:List Str:= ["_law_cell","_law_k","_law_many","_law_other","_law_telling"]
abbrev ZCB:List Str:=ZDb.take 3
theorem Yt:FnScope ZDb ZCB (Aw ZCH):=⟨rfl,rfl,rfl,by decide +kernel,rfl,by decide +kernel,by decide +kernel⟩
abbrev W5:Stmt:=top 52
noncomputable abbrev ZBf:List Str:= ["_law_script","_law_first","_law_many","_law_names","_law_k","_law_places","_law_b","_law_step","_law_delay","_law_river","_law_kind","_law_amount_here","_law_rank"]
abbrev ZAd:List Str:=ZBf.take 1
theorem Hi:FnScope ZBf ZAd (Aw W5):=⟨rfl,rfl,rfl,by decide +kernel,rfl,by decide +kernel,by decide +kernel⟩
abbrev Ms:Stmt:=top 59
noncomputable abbrev Q0:List Str:= ["_law_script","_law_house_here","_law_state_here","_law_floods_here","_law_unit_here","_law_many","_law_b","_law_levels","_law_coming","_law_k","_law_cell","_law_level","_law_room","_law_row","_law_more_here","_law_at","_law_cells","_law_added"]
abbrev ZCe:List Str:=Q0.take 4
theorem Hh:FnScope Q0 ZCe (Aw Ms):=⟨rfl,rfl,rfl,by decide +kernel,rfl,by decide +kernel,by decide +kernel⟩
abbrev ZBQ:Stmt:=top 60
noncomputable abbrev ZEx:List Str:= ["_law_house_here","_law_page_here","_law_other","_law_k","_law_places","_law_j"]
abbrev ZAz:List Str:=ZEx.take 3
theorem Oh:FnScope ZEx ZAz (Aw ZBQ):=⟨rfl,rfl,rfl,by decide +kernel,rfl,by decide +kernel,by decide +kernel⟩
abbrev ZCw:Stmt:=top 55
abbrev ZHV:List Str:= ["_law_script","_law_cell"]
abbrev ZCy:List Str:=ZHV.take 1
theorem ZGB:FnScope ZHV ZCy (Aw ZCw):=⟨rfl,rfl,rfl,by decide +kernel,rfl,by decide +kernel,by decide +kernel⟩
abbrev ZAh:Stmt:=top 61
abbrev ZDi:List Str:= ["_law_house_here","_law_page_here","_law_total","_law_k"]
abbrev Ze:List Str:=ZDi.take 2
theorem Uz:FnScope ZDi Ze (Aw ZAh):=⟨rfl,rfl,rfl,by decide +kernel,rfl,by decide +kernel,by decide +kernel⟩
abbrev ZAm:Stmt:=top 56
abbrev ZFx:List Str:= ["_law_number_here"]
abbrev ZCo:List Str:=ZFx.take 1
theorem ZPt:FnScope ZFx ZCo (Aw ZAm):=⟨rfl,rfl,rfl,by decide +kernel,rfl,by decide +kernel,by decide +kernel⟩
abbrev Yg:Stmt:=top 57
abbrev ZBg:List Str:= ["_law_page_here","_law_many","_law_row"]
abbrev ZBz:List Str:=ZBg.take 2
theorem ZEd:FnScope ZBg ZBz (Aw Yg):=⟨rfl,rfl,rfl,by decide +kernel,rfl,by decide +kernel,by decide +kernel⟩
abbrev ZAS:Stmt:=top 53
noncomputable abbrev ZE7:List Str:= ["_law_script","_law_house_here","_law_places","_law_unit_here","_law_b","_law_levels","_law_coming","_law_k","_law_level","_law_cell","_law_row","_law_j"]
abbrev Zy:List Str:=ZE7.take 2
theorem I9:FnScope ZE7 Zy (Aw ZAS):=⟨rfl,rfl,rfl,by decide +kernel,rfl,by decide +kernel,by decide +kernel⟩
abbrev U9:Stmt:=inC (top 36) 0
abbrev Xj:List Str:= ["self","house","state","at","flood","levels","coming"]
abbrev ZCQ:List Str:=Xj.take 5
theorem ZBs:FnScope Xj ZCQ (Aw U9):=⟨rfl,rfl,rfl,by decide +kernel,rfl,by decide +kernel,by decide +kernel⟩
abbrev ZB4:Stmt:=inC (top 36) 5
abbrev ZEQ:List Str:= ["self","to","delay","cubes"]
abbrev ZBH:List Str:=ZEQ.take 4
theorem ZNp:FnScope ZEQ ZBH (Aw ZB4):=⟨rfl,rfl,rfl,by decide +kernel,rfl,by decide +kernel,by decide +kernel⟩
abbrev ZCt:Stmt:=top 18
abbrev ZG5:List Str:= ["house","name","number","place"]
abbrev ZAQ:List Str:=ZG5.take 2
theorem ZCc:FnScope ZG5 ZAQ (Aw ZCt):=⟨rfl,rfl,rfl,by decide +kernel,rfl,by decide +kernel,by decide +kernel⟩
abbrev ZCi:Stmt:=top 19
abbrev ZDo:List Str:= ["house","place","name"]
abbrev ZCd:List Str:=ZDo.take 2
theorem ZH2:FnScope ZDo ZCd (Aw ZCi):=⟨rfl,rfl,rfl,by decide +kernel,rfl,by decide +kernel,by decide +kernel⟩
abbrev ZBy:Stmt:=inC (top 36) 4
abbrev ZDm:List Str:= ["self","number","cubes","down"]
abbrev ZBV:List Str:=ZDm.take 3
theorem ZDR:FnScope ZDm ZBV (Aw ZBy):=⟨rfl,rfl,rfl,by decide +kernel,rfl,by decide +kernel,by decide +kernel⟩
abbrev Yp:Stmt:=top 31
abbrev ZIH:List Str:= ["stairs","water","river","pump","height","many","way","cubes"]
abbrev Za:List Str:=ZIH.take 2
theorem Ld:FnScope ZIH Za (Aw Yp):=⟨rfl,rfl,rfl,by decide +kernel,rfl,by decide +kernel,by decide +kernel⟩
abbrev ZBA:Stmt:=top 30
abbrev ZEl:List Str:= ["rule","turn","held","first","stairs"]
abbrev ZBl:List Str:=ZEl.take 2
theorem S6:FnScope ZEl ZBl (Aw ZBA):=⟨rfl,rfl,rfl,by decide +kernel,rfl,by decide +kernel,by decide +kernel⟩
abbrev ZAg:Stmt:=inC (top 36) 2
abbrev ZHm:List Str:= ["self","number","place","came","let","pumped","stays","lies","spilled"]
abbrev ZB7:List Str:=ZHm.take 2
theorem M9:FnScope ZHm ZB7 (Aw ZAg):=⟨rfl,rfl,rfl,by decide +kernel,rfl,by decide +kernel,by decide +kernel⟩
abbrev Vk:Stmt:=top 26
abbrev ZBM:List Str:= ["rows","takes","passing","row","number"]
abbrev Yq:List Str:=ZBM.take 2
theorem V6:FnScope ZBM Yq (Aw Vk):=⟨rfl,rfl,rfl,by decide +kernel,rfl,by decide +kernel,by decide +kernel⟩
abbrev ZCC:Stmt:=top 38
abbrev ZEH:List Str:= ["house","number","places","down"]
abbrev ZAW:List Str:=ZEH.take 2
theorem ZAe:FnScope ZEH ZAW (Aw ZCC):=⟨rfl,rfl,rfl,by decide +kernel,rfl,by decide +kernel,by decide +kernel⟩
abbrev ZCz:Stmt:=top 39
abbrev ZFQ:List Str:= ["house","members","came","rows","number","place","down","row_down"]
abbrev ZAV:List Str:=ZFQ.take 3
theorem Od:FnScope ZFQ ZAV (Aw ZCz):=⟨rfl,rfl,rfl,by decide +kernel,rfl,by decide +kernel,by decide +kernel⟩
abbrev R7:Stmt:=top 27
abbrev Xc:List Str:= ["rows","order"]
abbrev ZAw:List Str:=Xc.take 1
theorem ZET:FnScope Xc ZAw (Aw R7):=⟨rfl,rfl,rfl,by decide +kernel,rfl,by decide +kernel,by decide +kernel⟩
abbrev Zz:Stmt:=top 28
abbrev ZEt:List Str:= ["rows","number","way","down"]
abbrev Ys:List Str:=ZEt.take 2
theorem V7:FnScope ZEt Ys (Aw Zz):=⟨rfl,rfl,rfl,by decide +kernel,rfl,by decide +kernel,by decide +kernel⟩
abbrev Yh:Stmt:=top 25
abbrev ZB9:List Str:= ["rows","takes","passing","number","way","take","below"]
abbrev Yw:List Str:=ZB9.take 1
theorem O2:FnScope ZB9 Yw (Aw Yh):=⟨rfl,rfl,rfl,by decide +kernel,rfl,by decide +kernel,by decide +kernel⟩
abbrev Zg:Stmt:=inC (top 36) 3
abbrev ZDJ:List Str:= ["self","members","rows","takes","number","took","let"]
abbrev ZC3:List Str:=ZDJ.take 2
theorem Qv:FnScope ZDJ ZC3 (Aw Zg):=⟨rfl,rfl,rfl,by decide +kernel,rfl,by decide +kernel,by decide +kernel⟩
abbrev ZAF:Stmt:=top 37
abbrev ZFV:List Str:= ["house","lasts","number","down"]
abbrev Zu:List Str:=ZFV.take 1
theorem Wc:FnScope ZFV Zu (Aw ZAF):=⟨rfl,rfl,rfl,by decide +kernel,rfl,by decide +kernel,by decide +kernel⟩
abbrev W9:Stmt:=inC (top 36) 1
abbrev ZA9:List Str:= ["self","lasts","number","last"]
abbrev ZBP:List Str:=ZA9.take 1
theorem V5:FnScope ZA9 ZBP (Aw W9):=⟨rfl,rfl,rfl,by decide +kernel,rfl,by decide +kernel,by decide +kernel⟩
abbrev R3:Stmt:=inC (top 36) 6
abbrev Y7:List Str:= ["self"]
abbrev ZBr:List Str:=Y7.take 1
theorem ZND:FnScope Y7 ZBr (Aw R3):=⟨rfl,rfl,rfl,by decide +kernel,rfl,by decide +kernel,by decide +kernel⟩
abbrev Zv:Stmt:=top 34
abbrev ZHd:List Str:= ["house","state","at","flood","course"]
abbrev Zq:List Str:=ZHd.take 4
theorem ZHw:FnScope ZHd Zq (Aw Zv):=⟨rfl,rfl,rfl,by decide +kernel,rfl,by decide +kernel,by decide +kernel⟩
abbrev ZB3:Stmt:=top 35
abbrev ZDP:List Str:= ["house","state","at","floods","pages","number","flood","page"]
abbrev ZBc:List Str:=ZDP.take 4
theorem R0:FnScope ZDP ZBc (Aw ZB3):=⟨rfl,rfl,rfl,by decide +kernel,rfl,by decide +kernel,by decide +kernel⟩
abbrev Iv:Stmt:=top 62
noncomputable abbrev ZGR:List Str:= ["_law_script","_law_house_here","_law_state_here","_law_floods_here","_law_higher","_law_more_here","_law_pages","_law_behind","_law_others","_law_other","_law_first","_law_second","_law_k","_law_j"]
abbrev Z1:List Str:=ZGR.take 1
theorem H8:FnScope ZGR Z1 (Aw Iv):=⟨rfl,rfl,rfl,by decide +kernel,rfl,by decide +kernel,by decide +kernel⟩
def Rq:DS:=(sAs (dOp Cz (dV 0) (dOp Jq (dC (.int 10)) (dC (.int 8)))) (gV 0))
noncomputable def ZBT:DS:=(Ah (sIf (Bc (Ww Va Ig (dC (.int 0)) (dV 0) (dOp Jq (dC (.int 10)) (dC (.int 18))))) (Ah (sAs (dOp Bj (dOp Ar (dOp Ar (dV 0) (dOp Bg (dC (.int 1009)) (dV 1))) (dC (.int 7))) (dC (.int 999999937))) (gV 0)) (Ah (sAs (dOp Bj (dOp Bg (dV 0) (dV 0)) (dC (.int 999999929))) (gV 0)) (sRt (dOp Bj (dOp Bg (dV 0) (dOp Ar (dV 0) (dV 1))) (dC (.int 99999989)))))) sNx) (Ah (Dl (Cv rng1 (Ab (dV 1) Ad)) (gV 2) Rq) (sRt (dOp Bj (dV 0) (dOp Jq (dC (.int 10)) (dC (.int 8)))))))
def Tq:List D->DH->R D:=Ce 2 1 ZBT
noncomputable def ZBJ:DS:=(sRt (Ov (dOp Lq (dFn De (Ab (dV 0) Ad)) (dC (.int 0))) (Yx (dOp Ig (dOp Aj (dV 0) (dC (.int 0))) (dC (.int 0))) (dOp Xm (dOp Aj (dV 0) (dC (.int 0))) (dOp Jq (dC (.int 10)) (dC (.int 18)))))))
def Mv:List D->DH->R D:=Ce 1 0 ZBJ
noncomputable def Qq:DS:=(Ah (sIf (Bc (dFn Mv (Ab (dV 0) Ad))) (Ah (sAs (dC (.int 0)) (gV 2)) (Ah (sIf (Bc (dOp Ig (dOp Ar (dC (.int 1)) (dOp Cz (dV 1) (dC (.int 14)))) (dFn De (Ab (dV 0) Ad)))) (sAs (dOp Aj (dV 0) (dOp Ar (dC (.int 1)) (dOp Cz (dV 1) (dC (.int 14))))) (gV 2)) sNx) (sRt (dFn Tq (Ab (dV 2) (Ab (dOp Bj (dV 1) (dC (.int 14))) Ad)))))) sNx) (Ah (sIf (Bc (dOp Ig (dV 1) (dFn De (Ab (dV 0) Ad)))) (sRt (dOp Aj (dV 0) (dV 1))) sNx) (Ah (sAs (dOp Bj (dOp Bg (dC (.int 48271)) (dOp Ar (dOp Bg (dV 1) (dV 1)) (dOp Bg (dC (.int 7)) (dFn De (Ab (dV 0) Ad))))) (dC (.int 2147483647))) (gV 2)) (Ah (sIf (Bc (dOp Lq (dFn De (Ab (dV 0) Ad)) (dC (.int 0)))) (sAs (dOp Ar (dV 2) (dOp Bj (dOp Bg (dOp Aj (dV 0) (dOp Bj (dV 1) (dFn De (Ab (dV 0) Ad)))) (dC (.int 69621))) (dC (.int 2147483629)))) (gV 2)) sNx) (sRt (dV 2))))))
def Bb:List D->DH->R D:=Ce 2 1 Qq
noncomputable def ZDF:DS:=(sRt (dOp Ar (dOp Bg (dV 1) (dOp Bj (dV 0) (dC (.int 7)))) (dOp Bj (dOp Cz (dV 0) (dC (.int 7))) (dV 1))))
def Kv:List D->DH->R D:=Ce 2 0 ZDF
noncomputable def Xq:DS:=(sRt (dOp Aj (Bu (dFn Aq (Ab (dC (.int 1)) (Ab (dC (.int 1)) (Ab (dOp Jq (dC (.int 10)) (dC (.int 30))) Ad))))) (dOp Bj (dOp Cz (dFn Bb (Ab (dV 0) (Ab (dC (.int 0)) Ad))) (dC (.int 840))) (dC (.int 3)))))
def Gj:List D->DH->R D:=Ce 1 0 Xq
def ZB6:DE:=(dFn Bb (Ab (dV 1) (Ab (dOp Ar (dOp Ar (dV 3) (dOp Bg (dV 4) (dV 2))) (dV 0)) Ad)))
def ZCx:DE:=(dFn Kv (Ab (dV 0) (Ab (Bu (dFn Gj (Ab (dV 1) Ad))) Ad)))
noncomputable def Sw:DS:=(Ah (sAs (Bu (Ek (Cv rng1 (Ab (dV 3) Ad)) 1 [0,3,4,6] (gV 0) Cd ZB6)) (gV 7)) (sEx (Fe Fj (dV 5) (Ab (dFn Fd (Ab (Bu (Ek (Fi (dV 7)) 1 [0] (gV 0) Cd ZCx)) Ad)) Ad))))
noncomputable def ZER:DS:=(Ah (sAs (dFn De (Ab (dOp Aj (dV 1) (dC (.int 1))) Ad)) (gV 3)) (Ah (sAs (dOp Ar (dC (.int 6)) (dOp Bg (dC (.int 14)) (dV 3))) (gV 4)) (Ah (sAs (Et (dFn Aq Ad)) (gV 5)) (Ah (Dl (Cv rng1 (Ab (dV 2) Ad)) (gV 6) Sw) (sRt (dV 5))))))
def Wm:List D->DH->R D:=Ce 3 5 ZER
def Xa:DS:=(sIf (Bc (dOp Dw (dV 4) (dC (.str "pump")))) (sAs (dOp Ar (dV 1) (dV 3)) (gV 1)) sNx)
noncomputable def ZH1:DS:=(Ah (sAs (dC (.int 0)) (gV 1)) (Ah (Dl (Fi (dV 0)) (Bv 3 (Ao (gV 2) (Ao (gV 3) (Ao (gV 4) By)))) Xa) (sRt (dV 1))))
def Yj:List D->DH->R D:=Ce 1 4 ZH1
noncomputable def Rf:DS:=(Ah (sAs (dOp Ar (dV 4) (dOp Bg (dV 1) (dOp Bj (dOp Aj (dV 0) (dOp Ar (dC (.int 1)) (dV 5))) (dC (.int 4))))) (gV 4)) (Ah (sAs (dOp Ar (dC (.int 1)) (dOp Bg (dV 1) (dOp Bj (dOp Cz (dOp Aj (dV 0) (dOp Ar (dC (.int 1)) (dV 5))) (dC (.int 4))) (dC (.int 4))))) (gV 6)) (Ah (sAs (dC (.str "river")) (gV 7)) (Ah (sIf (Pg (Bc (dV 2)) (Bc (dOp Dw (dOp Bj (dOp Cz (dOp Aj (dV 0) (dOp Ar (dC (.int 1)) (dV 5))) (dC (.int 16))) (dC (.int 2))) (dC (.int 1))))) (sAs (dC (.str "pump")) (gV 7)) sNx) (Ah (sEx (Fe Fj (dV 3) (Ab (dFn Bo (Ab (dV 4) (Ab (dV 6) (Ab (dV 7) Ad)))) Ad))) (sAs (dOp Ar (dV 4) (dV 6)) (gV 4)))))))
noncomputable def ZE6:DS:=(Ah (sAs (Et (dFn Aq Ad)) (gV 3)) (Ah (sAs (dC (.int 0)) (gV 4)) (Ah (Dl (Cv rng1 (Ab (dOp Bj (dOp Aj (dV 0) (dC (.int 0))) (dC (.int 4))) Ad)) (gV 5) Rf) (sRt (dFn Fd (Ab (dV 3) Ad))))))
def Vf:List D->DH->R D:=Ce 3 5 ZE6
noncomputable def ZCY:DS:=(Ah (sAs (dFn Bb (Ab (dV 0) (Ab (dC (.int 1)) Ad))) (gV 1)) (Ah (sIf (Bc (dOp Dw (dOp Bj (dOp Cz (dV 1) (dC (.int 4))) (dC (.int 4))) (dC (.int 1)))) (sRt (dOp Ar (dC (.int 1)) (dOp Bj (dOp Cz (dV 1) (dC (.int 16))) (dC (.int 24))))) sNx) (sRt (dOp Ar (dC (.int 1)) (dOp Bj (dV 1) (dC (.int 4)))))))
def K1:List D->DH->R D:=Ce 1 1 ZCY
noncomputable def ZA6:DE:=(dOp Cz (dFn Bb (Ab (dV 1) (Ab (dOp Ar (dOp Ar (dV 2) (dC (.int 5))) (dOp Bj (dOp Ar (dOp Bg (dC (.int 3)) (dV 3)) (dV 0)) (dC (.int 6)))) Ad))) (dOp Ar (dC (.int 1)) (dOp Bg (dC (.int 7)) (dOp Cz (dV 3) (dC (.int 2))))))
noncomputable def ZBD:DE:=(dOp Cz (dFn Bb (Ab (dV 1) (Ab (dOp Ar (dOp Ar (dV 2) (dC (.int 5))) (dV 0)) Ad))) (dOp Aj (Bu (dFn Aq (Ab (dC (.int 1)) (Ab (dC (.int 64)) (Ab (dC (.int 4096)) (Ab (dC (.int 262144)) Ad)))))) (dV 3)))
noncomputable def X4:DS:=(sIf (dOr (Bc (dOp Dw (dV 7) (dC (.int 0)))) (Pg (Bc (dOp Dw (dOp Bj (dV 8) (dC (.int 2))) (dC (.int 1)))) (Bc (dOp Ig (dOp Ar (dV 6) (dC (.int 1))) (dV 4))))) (Ah (sIf (Bc (dOp Lq (dV 7) (dC (.int 0)))) (sAs (dOp Ar (dOp Ar (dV 6) (dC (.int 1))) (dOp Bj (dOp Cz (dV 8) (dC (.int 2))) (dOp Fy (dOp Fy (dV 4) (dV 6)) (dC (.int 1))))) (gV 6)) sNx) (sEx (Fe Fj (dV 5) (Ab (dFn Bo (Ab (dV 6) (Ab (dFn Vf (Ab (dV 9) (Ab (dV 2) (Ab (dV 3) Ad)))) Ad))) Ad)))) sNx)
noncomputable def ZEz:DS:=(Ah (sIf (Bc (dFn Mv (Ab (dV 0) Ad))) (Ah (sAs (dOp Cz (dFn Bb (Ab (dV 0) (Ab (dOp Ar (dV 1) (dC (.int 4))) Ad))) (dOp Aj (Bu (dFn Aq (Ab (dC (.int 1)) (Ab (dC (.int 48)) (Ab (dC (.int 2304)) (Ab (dC (.int 110592)) Ad)))))) (dV 7))) (gV 8)) (sAs (Bu (Ek (Cv rng1 (Ab (dC (.int 4)) Ad)) 1 [0,1,7] (gV 0) Cd ZBD)) (gV 9))) sNx) X4)
noncomputable def ZF3:DS:=(Ah (sAs (Bu (Ek (Cv rng1 (Ab (dC (.int 4)) Ad)) 1 [0,1,7] (gV 0) Cd ZA6)) (gV 9)) ZEz)
noncomputable def M4:DS:=(Ah (sAs (dOp Bj (dOp Bg (dOp Bg (dFn Bb (Ab (dV 0) (Ab (dOp Ar (dV 1) (dC (.int 4))) Ad))) (dC (.int 48271))) (dOp Ar (dOp Bg (dV 7) (dV 7)) (dC (.int 1)))) (dC (.int 10007))) (gV 8)) ZF3)
noncomputable def ZEY:DS:=(Ah (sAs (dFn K1 (Ab (dV 0) Ad)) (gV 4)) (Ah (sAs (Et (dFn Aq Ad)) (gV 5)) (Ah (sAs (dC (.int 0)) (gV 6)) (Ah (Dl (Cv rng1 (Ab (dC (.int 4)) Ad)) (gV 7) M4) (sRt (dFn Fd (Ab (dV 5) Ad)))))))
def Vm:List D->DH->R D:=Ce 4 6 ZEY
def ZBG:DE:=(dFn Yj (Ab (dOp Aj (dV 0) (dC (.int 1))) Ad))
noncomputable def Z3:DS:=(Ah (sAs (Bu (dFn Gj (Ab (dV 0) Ad))) (gV 5)) (Ah (sAs (dFn Bb (Ab (dV 0) (Ab (dOp Ar (dV 1) (dC (.int 11))) Ad))) (gV 6)) (Ah (sAs (Ov (dOp Lq (dFn De (Ab (dV 3) Ad)) (dC (.int 1))) (dOp Dw (dOp Bj (dV 6) (dC (.int 2))) (dC (.int 1)))) (gV 7)) (Ah (sAs (dFn Vm (Ab (dV 0) (Ab (dV 1) (Ab (dV 5) (Ab (dV 7) Ad))))) (gV 8)) (Ah (sAs (dC .non) (gV 9)) (Ah (sIf (Bc (dV 7)) (Ah (sAs (dOp Ar (dFn Pb (Ab (Bu (Ek (Fi (dV 8)) 1 [] (gV 0) Cd ZBG)) Ad)) (dOp Bg (dV 5) (dOp Bj (dOp Cz (dV 6) (dC (.int 130))) (dC (.int 2))))) (gV 10)) (Ah (sAs (dOp Aj (dV 3) (dOp Bj (dOp Ar (dOp Ar (dV 2) (dC (.int 1))) (dOp Bj (dOp Cz (dV 6) (dC (.int 2))) (dOp Fy (dFn De (Ab (dV 3) Ad)) (dC (.int 1))))) (dFn De (Ab (dV 3) Ad)))) (gV 11)) (sAs (dFn Bo (Ab (dV 11) (Ab (dOp Ar (dC (.int 1)) (dOp Bj (dOp Cz (dV 6) (dC (.int 26))) (dC (.int 5)))) (Ab (dV 10) Ad)))) (gV 9)))) sNx) (Ah (sAs (dFn Kv (Ab (dFn Bb (Ab (dV 0) (Ab (dOp Ar (dV 1) (dC (.int 3))) Ad))) (Ab (dV 5) Ad))) (gV 12)) (sRt (dFn Bo (Ab (dC (.str "basin")) (Ab (dOp Aj (dV 3) (dV 2)) (Ab (dOp Aj (dV 4) (dC (.int 0))) (Ab (dOp Aj (dV 4) (dC (.int 1))) (Ab (dV 12) (Ab (dV 8) (Ab (dV 9) Ad))))))))))))))))
def Sx:List D->DH->R D:=Ce 5 8 Z3
noncomputable def ZEL:DS:=(Ah (sAs (dOp Aj (dC (.str "abcdefghijklmnopqrstuvwxyz")) (dOp Bj (dOp Cz (dV 0) (dC (.int 21))) (dC (.int 26)))) (gV 3)) (Ah (sIf (Pg (Bc (dOp Dw (dOp Bj (dV 0) (dC (.int 3))) (dC (.int 1)))) (Bc (dOp Ig (dV 2) (dC (.int 9))))) (sRt (dOp Bg (dV 3) (dOp Ar (dV 1) (dC (.int 1))))) sNx) (Ah (sAs (dOp Aj (dC (.str "abcdefghijkl")) (dOp Bj (dOp Ar (dOp Bg (dC (.int 5)) (dV 1)) (dOp Cz (dV 0) (dC (.int 546)))) (dC (.int 12)))) (gV 4)) (Ah (sIf (Bc (dOp Dw (dOp Bj (dV 0) (dC (.int 3))) (dC (.int 2)))) (sRt (dOp Ar (dV 4) (dOp Bg (dV 3) (dOp Bj (dOp Cz (dV 0) (dC (.int 3))) (dC (.int 7)))))) sNx) (sRt (dOp Ar (dOp Ar (dOp Bg (dV 3) (dOp Bj (dOp Cz (dV 0) (dC (.int 3))) (dC (.int 7)))) (dV 4)) (dOp Bg (dV 3) (dOp Fy (dC (.int 6)) (dOp Bj (dOp Cz (dV 0) (dC (.int 3))) (dC (.int 7)))))))))))
def Wv:List D->DH->R D:=Ce 3 2 ZEL
def ZAK:DE:=(dFn Wv (Ab (dFn Bb (Ab (dV 1) (Ab (dC (.int 5)) Ad))) (Ab (dV 0) (Ab (dV 2) Ad))))
noncomputable def Pa:DS:=(sIf (Bc (dOp Ig (dV 10) (dC (.int 2)))) (sEx (Fe Fj (dV 5) (Ab (Bu (dFn Sx (Ab (dV 0) (Ab (dV 6) (Ab (dV 4) (Ab (dV 3) (Ab (dV 9) Ad))))))) Ad))) (sIf (Bc (dOp Ig (dV 10) (dC (.int 4)))) (sEx (Fe Fj (dV 5) (Ab (dFn Bo (Ab (dC (.str "town")) (Ab (dOp Aj (dV 3) (dV 4)) (Ab (dOp Aj (dV 9) (dC (.int 0))) (Ab (dOp Aj (dV 9) (dC (.int 1))) (Ab (dV 11) (Ab (dV 12) Ad))))))) Ad))) (sEx (Fe Fj (dV 5) (Ab (dFn Bo (Ab (dC (.str "mill")) (Ab (dOp Aj (dV 3) (dV 4)) (Ab (dOp Aj (dV 9) (dC (.int 0))) (Ab (dOp Aj (dV 9) (dC (.int 1))) (Ab (dV 11) Ad)))))) Ad)))))
noncomputable def ZA2:DS:=(Ah (sAs (dOp Bj (dFn Bb (Ab (dV 0) (Ab (dOp Ar (dV 6) (dC (.int 4))) Ad))) (dOp Aj (Bu (dFn Aq (Ab (dC (.int 4)) (Ab (dOp Jq (dC (.int 10)) (dC (.int 40))) Ad)))) (dOp Bj (dOp Cz (dV 1) (dC (.int 840))) (dC (.int 2))))) (gV 12)) Pa)
noncomputable def ZAx:DS:=(Ah (sAs (dFn Kv (Ab (dFn Bb (Ab (dV 0) (Ab (dOp Ar (dV 6) (dC (.int 3))) Ad))) (Ab (Bu (dFn Gj (Ab (dV 0) Ad))) Ad))) (gV 11)) ZA2)
def Rz:DS:=(Ah (sAs (dOp Bj (dFn Bb (Ab (dV 0) (Ab (dV 6) Ad))) (dC (.int 5))) (gV 10)) ZAx)
noncomputable def ZAN:DS:=(Ah (sIf (Bc (dOp Lq (dV 7) (dC (.int 0)))) (sAs (dFn Bo (Ab (dOp Aj (dV 3) (dOp Ar (dV 4) (dV 7))) (Ab (dOp Aj (dV 9) (dC (.int 1))) Ad))) (gV 9)) sNx) Rz)
noncomputable def Z9:DS:=(Ah (sAs (dFn Bo (Ab (dC (.str "sea")) (Ab (dOp Bg (dOp Bj (dV 8) (dC (.int 2))) (dOp Bj (dOp Cz (dV 8) (dC (.int 2))) (dC (.int 6)))) Ad))) (gV 9)) ZAN)
def Tv:DS:=(Ah (sAs (dFn Bb (Ab (dV 0) (Ab (dOp Ar (dV 6) (dC (.int 2))) Ad))) (gV 8)) Z9)
noncomputable def ZCU:DS:=(Ah (sIf (Bc (dOp Dw (dOp Bj (dOp Cz (dV 1) (dC (.int 280))) (dC (.int 3))) (dC (.int 1)))) (sAs (dFn Mx (Ab (dC (.int 1)) (Ab (dOp Fy (dOp Fy (dV 2) (dC (.int 1))) (dV 4)) Ad))) (gV 7)) sNx) Tv)
noncomputable def Uk:DS:=(Ah (sAs (dOp Bj (dFn Bb (Ab (dV 0) (Ab (dOp Ar (dV 6) (dC (.int 1))) Ad))) (dOp Fy (dV 2) (dV 4))) (gV 7)) ZCU)
def Lw:DS:=(Ah (sAs (dOp Ar (dC (.int 6)) (dOp Bg (dC (.int 12)) (dV 4))) (gV 6)) Uk)
noncomputable def ZEI:DS:=(Ah (sAs (dFn Bb (Ab (dV 0) (Ab (dC (.int 0)) Ad))) (gV 1)) (Ah (sAs (dOp Ar (dC (.int 1)) (dOp Bj (dV 1) (dC (.int 5)))) (gV 2)) (Ah (sIf (Bc (dOp Dw (dOp Bj (dOp Cz (dV 1) (dC (.int 5))) (dC (.int 8))) (dC (.int 1)))) (sAs (dOp Ar (dC (.int 6)) (dOp Bj (dOp Cz (dV 1) (dC (.int 40))) (dC (.int 7)))) (gV 2)) sNx) (Ah (sAs (Bu (Ek (Cv rng1 (Ab (dV 2) Ad)) 1 [0,2] (gV 0) Cd ZAK)) (gV 3)) (Ah (sAs (Et (dFn Aq Ad)) (gV 5)) (Ah (Dl (Cv rng1 (Ab (dV 2) Ad)) (gV 4) Lw) (sRt (dFn Bo (Ab (dFn K1 (Ab (dV 0) Ad)) (Ab (dFn Fd (Ab (dV 5) Ad)) Ad))))))))))
def Y5:List D->DH->R D:=Ce 1 12 ZEI
def ZAs:DE:=(dOp Ar (dV 0) (dOp Bg (dV 1) (dOp Bj (dOp Cz (dV 2) (dC (.int 2))) (dC (.int 2)))))
noncomputable def Mz:DS:=(Ah (sAs (dFn Bb (Ab (dV 0) (Ab (dOp Ar (dV 6) (dV 9)) Ad))) (gV 10)) (Ah (sAs (dOp Aj (dOp Aj (dV 2) (dC (.int 0))) (dV 9)) (gV 11)) (Ah (sIf (Bc (dOp Dw (dOp Aj (dOp Aj (dOp Aj (dV 1) (dC (.int 1))) (dV 9)) (dC (.int 0))) (dC (.str "basin")))) (Ah (sAs (dOp Ar (dOp Fy (dOp Aj (dOp Aj (dOp Aj (dV 1) (dC (.int 1))) (dV 9)) (dC (.int 4))) (dV 11)) (dC (.int 1))) (gV 12)) (sAs (dOp Ar (dV 11) (dOp Bg (dOp Bj (dFn Kv (Ab (dOp Cz (dV 10) (dC (.int 2))) (Ab (dV 4) Ad))) (dV 12)) (dOp Bj (dV 10) (dC (.int 2))))) (gV 11))) sNx) (Ah (sEx (Fe Fj (dV 7) (Ab (dV 11) Ad))) (Ah (sAs (Bu (Ek (Fi (dOp Aj (dOp Aj (dV 2) (dC (.int 1))) (dV 9))) 1 [4,10] (gV 0) Cd ZAs)) (gV 13)) (sEx (Fe Fj (dV 8) (Ab (dFn Fd (Ab (dV 13) Ad)) Ad))))))))
noncomputable def ZB8:DE:=(dFn Bb (Ab (dV 1) (Ab (dOp Ar (dOp Ar (dOp Ar (dV 3) (dV 2)) (dOp Bg (dV 4) (dV 2))) (dV 0)) Ad)))
noncomputable def ZAu:DE:=(dOp Bg (dFn Kv (Ab (dOp Cz (dV 0) (dC (.int 2))) (Ab (dV 1) Ad))) (dOp Bj (dV 0) (dC (.int 2))))
def ZCM:DE:=(dOp Ar (dOp Aj (dOp Aj (dV 1) (dV 2)) (dV 0)) (dOp Aj (dV 3) (dV 0)))
noncomputable def T9:DS:=(Ah (sAs (Bu (Ek (Cv rng1 (Ab (dV 5) Ad)) 1 [0,5,6,15] (gV 0) Cd ZB8)) (gV 16)) (Ah (sAs (Bu (Ek (Fi (dV 16)) 1 [4] (gV 0) Cd ZAu)) (gV 17)) (sEx (Fe Fj (dV 14) (Ab (dFn Fd (Ab (Bu (Ek (Cv rng1 (Ab (dV 5) Ad)) 1 [3,15,17] (gV 0) Cd ZCM)) Ad)) Ad)))))
noncomputable def ZDs:DS:=(Ah (sAs (Bu (dFn Gj (Ab (dV 0) Ad))) (gV 4)) (Ah (sAs (dFn De (Ab (dOp Aj (dV 1) (dC (.int 1))) Ad)) (gV 5)) (Ah (sAs (dOp Ar (dC (.int 6)) (dOp Bg (dC (.int 24)) (dV 5))) (gV 6)) (Ah (sAs (Et (dFn Aq Ad)) (gV 7)) (Ah (sAs (Et (dFn Aq Ad)) (gV 8)) (Ah (Dl (Cv rng1 (Ab (dV 5) Ad)) (gV 9) Mz) (Ah (sAs (Et (dFn Aq Ad)) (gV 14)) (Ah (Dl (Cv rng1 (Ab (dFn De (Ab (dV 3) Ad)) Ad)) (gV 15) T9) (sRt (dFn Bo (Ab (dFn Bo (Ab (dFn Fd (Ab (dV 7) Ad)) (Ab (dFn Fd (Ab (dV 8) Ad)) Ad))) (Ab (dV 14) Ad))))))))))))
def Rg:List D->DH->R D:=Ce 4 14 ZDs
noncomputable def W7:DS:=(sIf (Bc (dOp Ig (dOp Aj (dOp Aj (dV 2) (dV 3)) (dV 5)) (dOp Aj (dOp Aj (dV 1) (dV 3)) (dV 5)))) (sRt (dC (.bl false))) sNx)
noncomputable def Lh:DS:=(Ah (sAs (Bu (dFn Aq (Ab (dC (.int 1)) Ad))) (gV 4)) (Ah (sIf (Bc (dOp Dw (dOp Aj (dOp Aj (dOp Aj (dV 0) (dC (.int 1))) (dV 3)) (dC (.int 0))) (dC (.str "basin")))) (sAs (Bu (dFn Aq (Ab (dC (.int 2)) (Ab (dC (.int 3)) (Ab (dC (.int 4)) (Ab (dC (.int 5)) Ad)))))) (gV 4)) sNx) (Ah (sIf (Bc (dOp Dw (dOp Aj (dOp Aj (dOp Aj (dV 0) (dC (.int 1))) (dV 3)) (dC (.int 0))) (dC (.str "mill")))) (sAs (Bu (dFn Aq Ad)) (gV 4)) sNx) (Dl (Fi (dV 4)) (gV 5) W7))))
def ZGj:DS:=(Ah (Dl (Cv rng1 (Ab (dFn De (Ab (dV 1) Ad)) Ad)) (gV 3) Lh) (sRt (dC (.bl true))))
def Vv:List D->DH->R D:=Ce 3 3 ZGj
noncomputable def ZBn:DS:=(Ah (sAs (dFn Bb (Ab (dV 0) (Ab (dC (.int 3)) Ad))) (gV 1)) (sRt (dOp Bj (dOp Cz (dV 1) (dC (.int 2))) (dOp Aj (Bu (dFn Aq (Ab (dC (.int 50)) (Ab (dOp Jq (dC (.int 10)) (dC (.int 39))) Ad)))) (dOp Bj (dV 1) (dC (.int 2)))))))
def Oa:List D->DH->R D:=Ce 1 1 ZBn
noncomputable def Px:DS:=(sIf (Bc (dOp Dw (dOp Aj (dOp Aj (dOp Aj (dV 0) (dC (.int 1))) (dV 3)) (dC (.int 2))) (dC (.str "sea")))) (sAs (dOp Ar (dOp Ar (dV 2) (dOp Aj (dOp Aj (dV 1) (dV 3)) (dC (.int 2)))) (dOp Aj (dOp Aj (dV 1) (dV 3)) (dC (.int 3)))) (gV 2)) sNx)
noncomputable def ZDk:DS:=(Ah (sAs (dC (.int 0)) (gV 2)) (Ah (Dl (Cv rng1 (Ab (dFn De (Ab (dV 1) Ad)) Ad)) (gV 3) Px) (sRt (dV 2))))
def Rm:List D->DH->R D:=Ce 2 2 ZDk
noncomputable def ZFw:DS:=(sRt (Ov (dFn Iu (Ab (dV 0) (Ab (dC (.ty "int")) Ad))) (Ov (ZCA (dFn Iu (Ab (dV 0) (Ab (dC (.ty "bool")) Ad)))) (dOp Xm (dV 0) (dC (.int 0))))))
def R1:List D->DH->R D:=Ce 1 0 ZFw
def ZGL:DE:=(dFn R1 (Ab (dV 0) Ad))
noncomputable def Wx:DS:=(Ah (sIf (dOr (Lz (Bc (dFn Iu (Ab (dV 2) (Ab (dC (.ty "tuple")) Ad))))) (Bc (dOp Nh (dFn De (Ab (dV 2) Ad)) (dC (.int 6))))) (sRt (dC (.bl false))) sNx) (sIf (Lz (Bc (dFn Rc (Ab (Bu (Ek (Fi (dV 2)) 1 [] (gV 0) Cd ZGL)) Ad)))) (sRt (dC (.bl false))) sNx))
noncomputable def ZGf:DS:=(Ah (sIf (dOr (Lz (Bc (dFn Iu (Ab (dV 0) (Ab (dC (.ty "tuple")) Ad))))) (Bc (dOp Nh (dFn De (Ab (dV 0) Ad)) (dV 1)))) (sRt (dC (.bl false))) sNx) (Ah (Dl (Fi (dV 0)) (gV 2) Wx) (sRt (dC (.bl true)))))
def Rn:List D->DH->R D:=Ce 2 1 ZGf
def ZGT:DS:=(sAs (dOp Cz (dV 9) (dC (.int 3))) (gV 9))
def Ra:DS:=(Ah (sEx (Fe Fj (dV 10) (Ab (dOp Bg (dV 3) (dOp Bj (dV 9) (dC (.int 3)))) Ad))) ZGT)
def ZIR:DS:=(sEx (Fe Fj (dV 6) (Ab (dFn Fd (Ab (dV 10) Ad)) Ad)))
def Um:DS:=(Ah (Dl (Cv rng1 (Ab (dC (.int 5)) Ad)) (gV 11) Ra) ZIR)
def ZFS:DS:=(Ah (sAs (Et (dFn Aq Ad)) (gV 10)) Um)
noncomputable def ZDn:DS:=(Ah (sAs (dFn Bb (Ab (dV 0) (Ab (dOp Ar (dOp Ar (dV 4) (dFn De (Ab (dV 2) Ad))) (dV 7)) Ad))) (gV 9)) ZFS)
def Vl:DS:=(Ah (sEx (Fe Fj (dV 5) (Ab (dV 8) Ad))) ZDn)
noncomputable def ZEa:DS:=(Ah (sIf (Bc (dOp Dw (dOp Aj (dOp Aj (dV 2) (dV 7)) (dC (.int 0))) (dC (.str "basin")))) (sAs (dOp Bj (dFn Kv (Ab (dFn Bb (Ab (dV 0) (Ab (dOp Ar (dV 4) (dV 7)) Ad))) (Ab (dV 3) Ad))) (dOp Ar (dOp Aj (dOp Aj (dV 2) (dV 7)) (dC (.int 4))) (dC (.int 1)))) (gV 8)) sNx) Vl)
def Rr:DS:=(Ah (sAs (dC (.int 0)) (gV 8)) ZEa)
noncomputable def ZH0:DS:=(Ah (sAs (dOp Aj (dV 1) (dC (.int 1))) (gV 2)) (Ah (sAs (Bu (dFn Gj (Ab (dV 0) Ad))) (gV 3)) (Ah (sAs (dOp Ar (dC (.int 6)) (dOp Bg (dC (.int 12)) (dFn De (Ab (dV 2) Ad)))) (gV 4)) (Ah (sAs (Et (dFn Aq Ad)) (gV 5)) (Ah (sAs (Et (dFn Aq Ad)) (gV 6)) (Ah (Dl (Cv rng1 (Ab (dFn De (Ab (dV 2) Ad)) Ad)) (gV 7) Rr) (sRt (dFn Bo (Ab (dFn Fd (Ab (dV 5) Ad)) (Ab (dFn Fd (Ab (dV 6) Ad)) Ad))))))))))
def Yk:List D->DH->R D:=Ce 2 10 ZH0
def We:DE:=(dOp Ar (dV 0) (dOp Aj (dV 1) (dC (.int 0))))
noncomputable def Tj:DE:=(Et (dOp Ar (Bu (dFn Ye (Ab (Bu (dSl (dV 0) (some (dC (.int 1))) none)) Ad))) (Bu (dFn Aq (Ab (dC (.int 0)) Ad)))))
noncomputable def ZHF:DS:=(Ah (sAs (dV 2) (Bv 2 (Ao (gV 5) (Ao (gV 6) By)))) (Ah (Hb "Course" (dV 0) (dV 1) "house") (Ah (Hb "Course" (dV 0) (dV 5) "levels") (Ah (Hb "Course" (dV 0) (dOp Bj (dV 3) (dOp Aj (dV 1) (dC (.int 0)))) "year_turn") (Ah (Hb "Course" (dV 0) (Ek (Cv (J0 2) (Ab (dV 4) (Ab (dV 6) Ad))) 2 [] (Bv 2 (Ao (gV 0) (Ao (gV 1) By))) Cd We) "came") (Ah (Hb "Course" (dV 0) (Ek (Fi (dV 6)) 1 [] (gV 0) Cd Tj) "coming") (Ah (Hb "Course" (dV 0) (Et (dOp Kf (dFn Aq (Ab (dC .non) Ad)) (dFn De (Ab (dV 5) Ad)))) "page") (Hb "Course" (dV 0) (Et (dFn Aq Ad)) "reaches"))))))))
def Tw:List D->DH->R D:=Ce 5 2 ZHF
noncomputable def ZGq:DS:=(sIf (Bc (dOp Dw (dV 2) (dC (.int 0)))) (Om (Ff "Course" (dV 0) "came") (dV 1) (dV 3) Lj) (Om (dOp Aj (Ff "Course" (dV 0) "coming") (dV 1)) (dOp Fy (dV 2) (dC (.int 1))) (dV 3) Lj))
def R4:List D->DH->R D:=Ce 4 0 ZGq
def Oe:DS:=(sIf (Bc (dOp Dw (dOp Aj (dV 3) (dC (.int 1))) (dV 1))) (sRt (dV 2)) sNx)
noncomputable def ZEk:DS:=(Ah (Dl (Cv J8 (Ab (dOp Aj (dV 0) (dC (.int 1))) Ad)) (Bv 2 (Ao (gV 2) (Ao (gV 3) By))) Oe) sBad)
def Rk:List D->DH->R D:=Ce 2 2 ZEk
noncomputable def ZDD:DS:=(Ah (sAs (dOp Aj (dOp Aj (dOp Aj (dV 0) (dC (.int 1))) (dV 1)) (dC (.int 2))) (gV 2)) (Ah (sIf (Bc (dOp Dw (dV 2) (dC (.str "sea")))) (sRt (dC .non)) sNx) (sRt (dFn Rk (Ab (dV 0) (Ab (dV 2) Ad))))))
def R9:List D->DH->R D:=Ce 2 1 ZDD
noncomputable def ZD2:DS:=(Ah (sAs (dFn R9 (Ab (Ff "Course" (dV 0) "house") (Ab (dV 1) Ad))) (gV 3)) (sIf (Bc (dOp Mh (dV 3) (dC .non))) (sEx (J7 "Course" "send" R4 (dV 0) (Ab (dV 3) (Ab (dOp Aj (dOp Aj (dOp Aj (Ff "Course" (dV 0) "house") (dC (.int 1))) (dV 1)) (dC (.int 3))) (Ab (dV 2) Ad))))) sNx))
def R8:List D->DH->R D:=Ce 3 1 ZD2
noncomputable def X7:DS:=(Ah (sAs (dFn Wb (Ab (dC (.int 0)) (Ab (dFn Mx (Ab (dV 5) (Ab (dOp Fy (dV 1) (dV 4)) Ad))) Ad))) (gV 7)) (sIf (Bc (dOp Dw (dV 6) (dC (.str "river")))) (sAu 2 (dV 7) Lj) (sAu 3 (dV 7) Lj)))
noncomputable def ZDx:DS:=(Ah (sAs (dC (.int 0)) (gV 2)) (Ah (sAs (dC (.int 0)) (gV 3)) (Ah (Dl (Fi (dV 0)) (Bv 3 (Ao (gV 4) (Ao (gV 5) (Ao (gV 6) By)))) X7) (sRt (dFn Bo (Ab (dV 2) (Ab (dV 3) (Ab (dOp Fy (dOp Fy (dV 1) (dV 2)) (dV 3)) Ad))))))))
def Y4:List D->DH->R D:=Ce 2 6 ZDx
def Xz:DS:=(sIf (Bc (dOp Va (dV 3) (dV 1))) (sAs (dV 4) (gV 2)) sNx)
noncomputable def ZHg:DS:=(Ah (sAs (dFn Bo Ad) (gV 2)) (Ah (Dl (Fi (dV 0)) (Bv 2 (Ao (gV 3) (Ao (gV 4) By))) Xz) (sRt (dV 2))))
def Yi:List D->DH->R D:=Ce 2 3 ZHg
noncomputable def ZGp:DS:=(Ah (sAs (dOp Aj (dOp Aj (Ff "Course" (dV 0) "house") (dC (.int 1))) (dV 1)) (gV 2)) (Ah (sAs (dOp Aj (Ff "Course" (dV 0) "came") (dV 1)) (gV 3)) (Ah (sAs (dFn Y4 (Ab (dFn Yi (Ab (dOp Aj (dV 2) (dC (.int 5))) (Ab (Ff "Course" (dV 0) "year_turn") Ad))) (Ab (dOp Ar (dOp Aj (Ff "Course" (dV 0) "levels") (dV 1)) (dV 3)) Ad))) (Bv 3 (Ao (gV 4) (Ao (gV 5) (Ao (gV 6) By))))) (Ah (sAs (dFn Mx (Ab (dV 6) (Ab (dOp Aj (dV 2) (dC (.int 4))) Ad))) (gV 7)) (Ah (sAs (dOp Fy (dV 6) (dV 7)) (gV 8)) (Ah (sAs (dFn Bo (Ab (dV 3) (Ab (dC (.int 0)) (Ab (dV 8) (Ab (dV 4) (Ab (dV 5) (Ab (dV 7) Ad))))))) (gIx (Ff "Course" (dV 0) "page") (dV 1))) (Ah (sEx (J7 "Course" "send_down" R8 (dV 0) (Ab (dV 1) (Ab (dOp Ar (dV 4) (dV 8)) Ad)))) (sIf (Bc (dOp Mh (dOp Aj (dV 2) (dC (.int 6))) (dC .non))) (sEx (J7 "Course" "send" R4 (dV 0) (Ab (dFn Rk (Ab (Ff "Course" (dV 0) "house") (Ab (dOp Aj (dOp Aj (dV 2) (dC (.int 6))) (dC (.int 0))) Ad))) (Ab (dOp Aj (dOp Aj (dV 2) (dC (.int 6))) (dC (.int 1))) (Ab (dV 5) Ad))))) sNx))))))))
def Uy:List D->DH->R D:=Ce 2 7 ZGp
def ZBk:DE:=(dOp Fy (dOp Aj (dV 0) (dC (.int 1))) (dV 1))
noncomputable def Ng:DS:=(sIf (Bc (dOp Mh (dOp Aj (dV 3) (dC (.int 0))) (dC .non))) (Om (dV 2) (dOp Aj (dV 3) (dC (.int 0))) (dOp Aj (dV 2) (dV 4)) Lj) sNx)
noncomputable def ZD4:DS:=(Ah (sAs (Ek (Cv (J0 2) (Ab (dV 0) (Ab (dV 1) Ad))) 2 [] (Bv 2 (Ao (gV 0) (Ao (gV 1) By))) Cd ZBk) (gV 2)) (Ah (Dl (Cv J8 (Ab (dV 0) Ad)) (Bv 2 (Ao (gV 4) (Ao (gV 3) By))) Ng) (sRt (dV 2))))
def Q9:List D->DH->R D:=Ce 2 3 ZD4
noncomputable def ZEj:DS:=(Ah (sAs (dOp Aj (dV 0) (dC (.int 1))) (gV 2)) (Ah (sAs (dFn R9 (Ab (dV 0) (Ab (dV 1) Ad))) (gV 3)) (Ah (sIf (dOr (Bc (dOp W3 (dV 3) (dC .non))) (Bc (dOp Lq (dOp Aj (dOp Aj (dV 2) (dV 1)) (dC (.int 3))) (dC (.int 0))))) (sRt (dC .non)) sNx) (Ah (sIf (dOr (Bc (dOp Dw (dOp Aj (dOp Aj (dV 2) (dV 1)) (dC (.int 0))) (dC (.str "basin")))) (Bc (dOp Dw (dOp Aj (dOp Aj (dV 2) (dV 3)) (dC (.int 0))) (dC (.str "basin"))))) (sRt (dC .non)) sNx) (sRt (dV 3))))))
def S7:List D->DH->R D:=Ce 2 2 ZEj
noncomputable def U7:DS:=(Ah (sAs (dOp Aj (dOp Aj (dV 0) (dC (.int 1))) (dV 4)) (gV 5)) (Ah (sAs (dFn S7 (Ab (dV 0) (Ab (dV 4) Ad))) (gV 6)) (Ah (sAs (dIf (Bc (dOp W3 (dV 6) (dC .non))) (dC .non) (Fe O6 (dV 1) (Ab (dV 6) Ad))) (gV 7)) (sIf (Bc (dOp Dw (dOp Aj (dV 5) (dC (.int 0))) (dC (.str "town")))) (sEx (Fe Fj (dV 3) (Ab (dFn Bo (Ab (dV 7) (Ab (dOp Aj (dV 2) (dV 4)) (Ab (dOp Aj (dV 5) (dC (.int 4))) (Ab (dOp Aj (dV 5) (dC (.int 5))) Ad))))) Ad))) (sEx (Fe Fj (dV 3) (Ab (dFn Bo (Ab (dV 7) (Ab (dOp Aj (dV 2) (dV 4)) (Ab (dC (.int 0)) (Ab (dC (.int 0)) Ad))))) Ad)))))))
def ZFD:DS:=(Ah (sAs (Et (dFn Aq Ad)) (gV 3)) (Ah (Dl (Fi (dV 1)) (gV 4) U7) (sRt (dV 3))))
def V2:List D->DH->R D:=Ce 3 5 ZFD
def ZCD:DE:=(dFn Bo (Ab (dOp Aj (dV 1) (dC (.int 3))) (Ab (dV 0) Ad)))
def ZCJ:DE:=(dV 1)
noncomputable def ZG9:DS:=(Ah (sAs (Bu (dFn Ue (Ab (Bu (Ek (Cv J8 (Ab (dV 0) Ad)) 2 [] (Bv 2 (Ao (gV 0) (Ao (gV 1) By))) Cd ZCD)) Ad))) (gV 1)) (sRt (Ek (Fi (dV 1)) 2 [] (Bv 2 (Ao (gV 0) (Ao (gV 1) By))) Cd ZCJ)))
def V4:List D->DH->R D:=Ce 1 1 ZG9
noncomputable def Ua:DS:=(Ah (sEx (Fe Fj (dV 2) (Ab (dV 3) Ad))) (sAs (dOp Aj (dOp Aj (dV 0) (dV 3)) (dC (.int 0))) (gV 3)))
def Mr:DB:=(Bc (dOp Mh (dV 3) (dC .non)))
noncomputable def ZGZ:DS:=(Ah (sAs (Et (dFn Aq (Ab (dV 1) Ad))) (gV 2)) (Ah (sAs (dOp Aj (dOp Aj (dV 0) (dV 1)) (dC (.int 0))) (gV 3)) (Ah (sWh Mr Ua fuel) (sRt (dV 2)))))
def Xu:List D->DH->R D:=Ce 2 2 ZGZ
def ZBe:DE:=(dOp Aj (dV 1) (dV 0))
def Yd:DS:=(Om (dV 2) (dV 6) (dV 5) Fy)
noncomputable def Tt:DS:=(Ah (sAs (Bu (dFn Xu (Ab (dV 0) (Ab (dV 3) Ad)))) (gV 4)) (Ah (sAs (dFn Mx (Ab (dOp Aj (dOp Aj (dV 0) (dV 3)) (dC (.int 2))) (Ab (dFn Qa (Ab (Bu (Ek (Fi (dV 4)) 1 [2] (gV 0) Cd ZBe)) Ad)) Ad))) (gV 5)) (Ah (sAs (dV 5) (gIx (dV 1) (dV 3))) (Dl (Fi (dV 4)) (gV 6) Yd))))
noncomputable def ZGC:DS:=(Ah (sAs (Et (dOp Kf (dFn Aq (Ab (dC (.int 0)) Ad)) (dFn De (Ab (dV 0) Ad)))) (gV 1)) (Ah (sAs (Et (dFn Q9 (Ab (dV 0) (Ab (dV 1) Ad)))) (gV 2)) (Ah (Dl (Fi (Bu (dFn V4 (Ab (dV 0) Ad)))) (gV 3) Tt) (sRt (dV 1)))))
def V3:List D->DH->R D:=Ce 1 6 ZGC
noncomputable def Lk:DS:=(Ah (sAs (dFn Bo (Ab (dOp Ar (dV 5) (dV 6)) (Ab (dV 5) (Ab (dC (.int 0)) (Ab (dV 6) (Ab (dC (.int 0)) (Ab (dC (.int 0)) Ad))))))) (gIx (Ff "Course" (dV 0) "page") (dV 4))) (sIf (Bc (dOp Dw (dV 4) (dOp Aj (dV 1) (dUn U3 (dC (.int 1)))))) (sEx (J7 "Course" "send_down" R8 (dV 0) (Ab (dV 4) (Ab (dV 6) Ad)))) sNx))
noncomputable def ZIM:DS:=(Ah (sAs (Bu (dFn V2 (Ab (Ff "Course" (dV 0) "house") (Ab (dV 1) (Ab (Ff "Course" (dV 0) "came") Ad))))) (gV 2)) (Ah (sAs (Bu (dFn V3 (Ab (dV 2) Ad))) (gV 3)) (Ah (Dl (Cv (J0 3) (Ab (dV 1) (Ab (dV 3) (Ab (Bu (dFn Q9 (Ab (dV 2) (Ab (dV 3) Ad)))) Ad)))) (Bv 3 (Ao (gV 4) (Ao (gV 5) (Ao (gV 6) By)))) Lk) (sEx (Fe Fj (Ff "Course" (dV 0) "reaches") (Ab (Et (dFn Bo (Ab (dV 1) (Ab (dV 2) Ad)))) Ad))))))
def Ug:List D->DH->R D:=Ce 2 5 ZIM
noncomputable def Uj:DS:=(Ah (sAs (dFn S7 (Ab (dV 0) (Ab (dV 2) Ad))) (gV 3)) (sIf (Bc (dOp Mh (dV 3) (dC .non))) (sAs (dOp Aj (dV 1) (dV 3)) (gIx (dV 1) (dV 2))) sNx))
noncomputable def ZHH:DS:=(Ah (sAs (Et (dLR (Ab (dFn De (Ab (dOp Aj (dV 0) (dC (.int 1))) Ad)) Ad))) (gV 1)) (Ah (Dl (Cv rng3 (Ab (dOp Fy (dFn De (Ab (dOp Aj (dV 0) (dC (.int 1))) Ad)) (dC (.int 1))) (Ab (dUn U3 (dC (.int 1))) (Ab (dUn U3 (dC (.int 1))) Ad)))) (gV 2) Uj) (sRt (dV 1))))
def Vj:List D->DH->R D:=Ce 1 3 ZHH
def Ws:DE:=(dV 0)
def Uc:DB:=(Bc (dOp Dw (dV 1) (dV 2)))
noncomputable def O5:DS:=(sIf (Bc (dOp Dw (dOp Aj (dOp Aj (dOp Aj (Ff "Course" (dV 0) "house") (dC (.int 1))) (dV 2)) (dC (.int 0))) (dC (.str "basin")))) (sEx (J7 "Course" "go_basin" Uy (dV 0) (Ab (dV 2) Ad))) (sIf (Bc (dOp Dw (dV 3) (dV 2))) (sEx (J7 "Course" "go_reach" Ug (dV 0) (Ab (Bu (Ek (Cv J8 (Ab (dV 1) Ad)) 2 [2] (Bv 2 (Ao (gV 0) (Ao (gV 1) By))) Uc Ws)) Ad))) sNx))
noncomputable def ZEm:DS:=(Ah (sAs (Bu (dFn Vj (Ab (Ff "Course" (dV 0) "house") Ad))) (gV 1)) (Dl (Cv J8 (Ab (dV 1) Ad)) (Bv 2 (Ao (gV 2) (Ao (gV 3) By))) O5))
def Wi:List D->DH->R D:=Ce 1 3 ZEm
def Xv:DE:=(dOp Aj (dV 0) (dC (.int 5)))
def Xy:DE:=(dFn Fd (Ab (dV 0) Ad))
noncomputable def ZGk:DS:=(sRt (dFn Bo (Ab (dFn Fd (Ab (Bu (Ek (Fi (Ff "Course" (dV 0) "page")) 1 [] (gV 0) Cd Xv)) Ad)) (Ab (dFn Fd (Ab (Bu (Ek (Fi (Ff "Course" (dV 0) "coming")) 1 [] (gV 0) Cd Xy)) Ad)) Ad))))
def Yc:List D->DH->R D:=Ce 1 0 ZGk
noncomputable def ZID:DS:=(Ah (sAs (ZAp "Course" Tw (Ab (dV 0) (Ab (dV 1) (Ab (dV 2) (Ab (dV 3) Ad))))) (gV 4)) (Ah (sEx (J7 "Course" "go" Wi (dV 4) Ad)) (sRt (dFn Bo (Ab (dFn Fd (Ab (Ff "Course" (dV 4) "page") Ad)) (Ab (J7 "Course" "state_behind" Yc (dV 4) Ad) Ad))))))
def Xk:List D->DH->R D:=Ce 4 1 ZID
noncomputable def Ri:DS:=(Ah (sAs (dFn Xk (Ab (dV 0) (Ab (dV 1) (Ab (dV 5) (Ab (dV 6) Ad))))) (Bv 2 (Ao (gV 7) (Ao (gV 1) By)))) (sEx (Fe Fj (dV 4) (Ab (dV 7) Ad))))
noncomputable def ZGw:DS:=(Ah (sAs (Et (dFn Aq Ad)) (gV 4)) (Ah (Dl (ZB0 (Ab (dV 3) Ad) (dV 2)) (Bv 2 (Ao (gV 5) (Ao (gV 6) By))) Ri) (sRt (dFn Bo (Ab (dV 4) (Ab (dV 1) Ad))))))
def Tu:List D->DH->R D:=Ce 4 4 ZGw
noncomputable def R6:DS:=(Ah (sIf (dOr (Lz (Bc (dFn Rn (Ab (dOp Aj (dV 6) (dV 12)) (Ab (dFn De (Ab (dOp Aj (dV 1) (dC (.int 1))) Ad)) Ad))))) (Lz (Bc (dFn Rn (Ab (dOp Aj (dV 8) (dV 12)) (Ab (dFn De (Ab (dOp Aj (dV 1) (dC (.int 1))) Ad)) Ad)))))) (sRt (dC (.bl false))) sNx) (Ah (sAs (dOp Ar (dV 10) (dFn Rm (Ab (dV 1) (Ab (dOp Aj (dV 6) (dV 12)) Ad)))) (gV 10)) (Ah (sAs (dOp Ar (dV 11) (dFn Rm (Ab (dV 1) (Ab (dOp Aj (dV 8) (dV 12)) Ad)))) (gV 11)) (sIf (dOr (Lz (Bc (dFn Vv (Ab (dV 1) (Ab (dOp Aj (dV 6) (dV 12)) (Ab (dOp Aj (dV 8) (dV 12)) Ad)))))) (Bc (dOp Ig (dV 11) (dV 10)))) (sRt (dC (.bl false))) sNx))))
noncomputable def Tz:DS:=(sIf (Bc (dOp Ig (dOp Aj (dOp Aj (dOp Aj (dV 9) (dC (.int 1))) (dV 12)) (dV 13)) (dOp Aj (dOp Aj (dOp Aj (dV 7) (dC (.int 1))) (dV 12)) (dV 13)))) (sRt (dC (.bl false))) sNx)
def Th:DS:=(Dl (Cv rng1 (Ab (dC (.int 5)) Ad)) (gV 13) Tz)
noncomputable def ZFp:DS:=(Ah (sAs (dFn Y5 (Ab (dV 0) Ad)) (gV 1)) (Ah (sAs (dFn Yk (Ab (dV 0) (Ab (dV 1) Ad))) (gV 2)) (Ah (sAs (Bu (dFn Wm (Ab (dV 0) (Ab (dV 1) (Ab (dOp Bj (dFn Bb (Ab (dV 0) (Ab (dC (.int 2)) Ad))) (dC (.int 7))) Ad))))) (gV 3)) (Ah (sAs (Bu (dFn Rg (Ab (dV 0) (Ab (dV 1) (Ab (dV 2) (Ab (dV 3) Ad)))))) (Bv 2 (Ao (gV 4) (Ao (gV 5) By)))) (Ah (sAs (Bu (dFn Tu (Ab (dV 1) (Ab (dV 2) (Ab (dFn Oa (Ab (dV 0) Ad)) (Ab (dV 3) Ad)))))) (Bv 2 (Ao (gV 6) (Ao (gV 7) By)))) (Ah (sAs (Bu (dFn Tu (Ab (dV 1) (Ab (dV 4) (Ab (dFn Oa (Ab (dV 0) Ad)) (Ab (dV 5) Ad)))))) (Bv 2 (Ao (gV 8) (Ao (gV 9) By)))) (Ah (sIf (dOr (Bc (dOp Nh (dFn De (Ab (dV 6) Ad)) (dFn De (Ab (dV 3) Ad)))) (Bc (dOp Nh (dFn De (Ab (dV 8) Ad)) (dFn De (Ab (dV 3) Ad))))) (sRt (dC (.bl false))) sNx) (Ah (sAs (dC (.int 0)) (gV 10)) (Ah (sAs (dC (.int 0)) (gV 11)) (Ah (Dl (Cv rng1 (Ab (dFn De (Ab (dV 3) Ad)) Ad)) (gV 12) R6) (Ah (Dl (Cv rng1 (Ab (dFn De (Ab (dOp Aj (dV 1) (dC (.int 1))) Ad)) Ad)) (gV 12) Th) (sRt (dC (.bl true))))))))))))))
def Nq:List D->DH->R D:=Ce 1 13 ZFp
def Holds:Prop:=∀ns:List Int,ns.length<=63->∃G,Nq [.fl (ns.map D.int)] []=.ok (.bl true) G
end Law
namespace Law
open PySem L2 DL
variable {ns xs l:List Int} {k m i d b j to dl:Nat} {F T P W ca fl lv f ca':Nat->Int} {G L:DH} {A B:DO} {ds:List D} {ws ms:List Nat} {x s2:Option D} {α:Type} {t w c a at_ u yr w':Int} {q:Option (Nat×Nat×Int)} {H LV:D} {pg:Nat->List Int} {S:DSt} {co:Nat->Nat->Int} {p:Bool} {nm:Nat->Str} {fls:List (Nat->Int)}
theorem ZHt:∃b,∀G,Mv [.fl (ns.map D.int)] G=.ok (.bl b) G:=by
 cases ns with
 | nil=>exact ⟨false,λG=>by unfold Mv ZBJ;rw [Br];simp [Ci]⟩
 | cons n r=>
  refine ⟨decide (n < 0) || decide (1000000000000000000<=n),λG=> ?_⟩;unfold Mv ZBJ;rw [Br];have a0:atI ((n::r).map D.int) 0=some (.int n):=Eo (k:=0) rfl rfl;by_cases h:n < 0
  ·simp [a0,h,Ci]
  ·simp [a0,h,Ci]
def offV:Nat->Int->Int
 | 0,v=>v
 | n + 1,v=>offV n (v / 100000000)
theorem ZFU {k:D} {G:DH}:∀(n:Nat) (j:Nat) (v:Int) (x:Option D),∃x',Be (gV 2) Rq (Bs j n) [some (.int v),some k,x] G=.nx [some (.int (offV n v)),some k,x'] G
 | 0,j,v,x=>⟨x,by rw [Im,Dm];rfl⟩
 | n + 1,j,v,x=>by
  obtain ⟨x',ih⟩:=ZFU (k:=k) (G:=G) n (j + 1) (v / 100000000) (some (.int j));refine ⟨x',?_⟩;have hb:Rq [some (.int v),some k,some (.int j)] G=.nx [some (.int (v / 100000000)),some k,some (.int j)] G:=by unfold Rq;simp
  rw [Hw,Cy];simp only [Do,R.Dj,zU,hb,Dv];have e1:((j:Int) + 1)=((j + 1:Nat):Int):=by lia
  rw [e1,ih]
  rfl
theorem ZEV {v:Int} (hk:k<=1000):∃r:Int,(0<=r/\r < 100000000)/\∀G,Tq [.int v,.int k] G=.ok (.int r) G:=by
 by_cases h:0<=v/\v < 1000000000000000000
 ·let a:=(v + 1009 * (k:Int) + 7) % 999999937;let b:=a * a % 999999929;refine ⟨b * (b + k) % 99999989,by lia,λG=> ?_⟩;have ha:0<=a/\a < 999999937:=by lia
  have hb:0<=b/\b < 999999929:=by lia
  unfold Tq ZBT;rw [Br];have m1:Bg (.int a) (.int a)=λG=>R.ok (.int (a * a)) G:=by funext G;exact Ja (by lia) (by lia)
  have m2:Bg (.int b) (.int (b + k))=λG=>R.ok (.int (b * (b + k))) G:=by funext G;exact Ja (by lia) (by lia)
  simp [h.1,h.2]
  rw [show (v + 1009 * (k:Int) + 7) % 999999937=a from rfl,m1]
  simp
  rw [show a * a % 999999929=b from rfl,m2]
  simp [Ci]
 ·refine ⟨offV k v % 100000000,by lia,λG=> ?_⟩;obtain ⟨x',hx⟩:=ZFU (k:=.int k) (G:=G) k 0 v none;have hx':Be (gV 2) Rq (Bs 0 k) [some (.int v),some (.int k),none] G=.nx [some (.int (offV k v)),some (.int k),x'] G:=hx;unfold Tq ZBT;rw [Br];have hr:inR (k:Int):=Fq (by lia) (by lia);by_cases h0:0<=v
  ·have h1:¬v < 1000000000000000000:=λz=>h ⟨h0,z⟩
   simp [h0,h1,hr,hx',Ci]
  ·simp [h0,hr,hx',Ci]
theorem ZEp (hl:ns.length<=63) (hk:k<=1000):∃v:Int,∀G,Bb [.fl (ns.map D.int),.int k] G=.ok (.int v) G:=by
 obtain ⟨b,ht⟩:=ZHt (ns:=ns);have hd:((k:Int) / 14)=((k / 14:Nat):Int):=by lia
 have hm:((k:Int) % 14)=((k % 14:Nat):Int):=by lia
 cases b with
 | true=>
  by_cases h:1 + k / 14 < ns.length
  ·obtain ⟨r,hr,ho⟩:=ZEV (v:=ns[1 + k / 14]) (k:=k % 14) (by lia);refine ⟨r,λG=> ?_⟩;unfold Bb Qq;rw [Br];have a1:atI (ns.map D.int) (1 + (k:Int) / 14)=some (.int ns[1 + k / 14]):=Eo (k:=1 + k / 14) (by lia) (by rw [zj,zZ h];rfl);have hc:(1 + (k:Int) / 14) < ns.length:=by lia
   simp [ht,hc,a1];rw [hm,ho];simp [Ci]
  ·obtain ⟨r,hr,ho⟩:=ZEV (v:=0) (k:=k % 14) (by lia);refine ⟨r,λG=> ?_⟩;unfold Bb Qq;rw [Br];have hc:¬(1 + (k:Int) / 14) < ns.length:=by lia
   simp [ht,hc];rw [hm,ho];simp [Ci]
 | false=>
  by_cases h:k < ns.length
  ·refine ⟨ns[k],λG=> ?_⟩;unfold Bb Qq;rw [Br];have a1:atI (ns.map D.int) (k:Int)=some (.int ns[k]):=Eo (k:=k) rfl (by rw [zj,zZ h];rfl);simp [ht,h,a1,Ci]
  ·have m0:∀G,Bg (.int k) (.int k) G=R.ok (.int ((k:Int) * k)) G:=λG=>Ja (by lia) (by lia)
   by_cases h0:0 < ns.length
   ·have hi:k % ns.length < ns.length:=Nat.mod_lt _ h0;refine ⟨48271 * ((k:Int) * k + 7 * ns.length) % 2147483647 + ns[k % ns.length] * 69621 % 2147483629,λG=> ?_⟩;unfold Bb Qq;rw [Br];have a1:atI (ns.map D.int) ((k:Int) % ns.length)=some (.int ns[k % ns.length]):=Eo (k:=k % ns.length) (by simp) (by rw [zj,zZ hi];rfl);simp [ht,h,m0,h0,a1,Ci]
   ·have e:ns= []:=qH (by lia);subst e;refine ⟨48271 * ((k:Int) * k + 7 * 0) % 2147483647,λG=> ?_⟩;unfold Bb Qq;rw [Br];have ht':∀G,Mv [.fl []] G=.ok (.bl false) G:=ht;have hk0:¬(k:Int) < 0:=by lia
    simp [ht',hk0,m0,Ci]
theorem cells (hl:ns.length<=63):∃f:Nat->Int,∀k:Nat,k<=1000->∀G,Bb [.fl (ns.map D.int),.int k] G=.ok (.int (f k)) G:=by refine ⟨λk=>if h:k<=1000 then (ZEp hl h).choose else 0,λk hk=> ?_⟩;simp only [dif_pos hk];exact (ZEp hl hk).choose_spec
structure Row where
 down:Option Nat
 water:Int
 need:Int
 rank:Int
variable {rs rs':List Row}
def dnD:Option Nat->D
 | none=>.non
 | some d=>.int d
def Row.enc (r:Row):D:=.tup [dnD r.down,.int r.water,.int r.need,.int r.rank]
@[simp] theorem ZQb {n:Nat} {o:Option Nat}:bel n (dnD o)=true:=by cases o <;> rfl
@[simp] theorem ZIc {n:Nat} {r:Row}:bel n r.enc=true:=by simp [Row.enc]
@[simp] theorem ZQ6 {n:Nat} :bels n (rs.map Row.enc)=true:=Gq λr _=>ZIc
@[simp] theorem ZDg {n:Nat} :bels n (xs.map D.int)=true:=Gq λr _=>rfl
structure Fine (k n:Nat) (r:Row):Prop where
 dn:∀d,r.down=some d->k < d/\d < n
 w0:0<=r.water
 n0:0<=r.need
 r0:0<=r.rank
def Reach (rs:List Row):Prop:=∀k r,rs[k]? =some r->Fine k rs.length r
def tab (n:Nat) (F:Nat->Int):List D:=(zX n).map λi=>D.int (F i)
def fset (F:Nat->Int) (d:Nat) (v:Int):Nat->Int:=λi=>if i=d then v else F i
@[simp] theorem ZQ4 {n:Nat} :(tab n F).length=n:=by simp [tab]
@[simp] theorem Jg {n:Nat} :bels m (tab n F)=true:=Gq λ_ _=>rfl
theorem Li {n:Nat} (h:i < n):(tab n F)[i]? =some (.int (F i)):=by unfold tab;rw [zj,zI h];rfl
theorem Gi {n:Nat} (h:i < n):atI (tab n F) (i:Int)=some (.int (F i)):=Eo rfl (Li h)
theorem O3 {n:Nat} {v:Int}:(tab n F).set d (.int v)=tab n (fset F d v):=by
 refine qU λi=> ?_
 by_cases hi:i < n
 ·by_cases e:d=i
  ·subst e;rw [qL (by simpa using hi),Li hi];simp [fset]
  ·rw [qG e,Li hi,Li hi];have:i≠d:=λz=>e z.symm
   simp [fset,this]
 ·rw [zk (by simp;lia),zk (by simp;lia)]
theorem ZGF {n:Nat} {F':Nat->Int} (h:∀i,i < n->F i=F' i):tab n F=tab n F':=by
 unfold tab;refine qQ λi hi=> ?_
 rw [h i (qW.mp hi)]
def col (g:Row->Int) (rs:List Row) (i:Nat):Int:=match rs[i]? with
 | some r=>g r
 | none=>0
theorem ZQT {g:Row->Int} :rs.map (λr=>D.int (g r))=tab rs.length (col g rs):=by
 refine qU λi=> ?_
 by_cases hi:i < rs.length
 ·rw [Li hi,zj];simp [col,zZ hi]
 ·rw [zk (by simp;lia),zk (by simp;lia)]
def Bw (rs:List Row) (i:Nat):Option Nat:=rs[i]?.bind Row.down
theorem Ie (h:Reach rs) (e:Bw rs k=some d):k < d/\d < rs.length:=by
 unfold Bw at e;cases hr:rs[k]? with
 | none=>rw [hr] at e;cases e
 | some r=>rw [hr] at e;exact (h k r hr).dn d e
theorem Vw (hk:k < rs.length):Bw rs k=rs[k].down:=by unfold Bw;rw [zZ hk];rfl
theorem Vd (hk:¬k < rs.length):Bw rs k=none:=by unfold Bw;rw [zk (by lia)];rfl
noncomputable def gstep (F:Nat->Int) (k:Nat) (o:Option Nat):Nat->Int:=match o with
 | none=>F
 | some d=>fset F d (F d + F k)
noncomputable def gat (rs:List Row):Nat->Nat->(Nat->Int)->Nat->Int
 | 0,_,F=>F
 | m + 1,k,F=>gat rs m (k + 1) (gstep F k (Bw rs k))
abbrev gath (rs:List Row) (F:Nat->Int):Nat->Int:=gat rs rs.length 0 F
theorem ZAf (hk:k < rs.length):atI (rs.map Row.enc) (k:Int)=some (.tup [dnD (Bw rs k),.int (col Row.water rs k),.int (col Row.need rs k),.int (col Row.rank rs k)]):=
 Eo rfl (by rw [zj,Vw hk];simp [col,zZ hk,Row.enc])
theorem ZEw (hR:Reach rs) {t:D} {G:DH}:∀(m k:Nat) (F:Nat->Int) (x y:Option D),k + m=rs.length->∃x' y',
  Be (Bv 2 (Ao (gV 4) (Ao (gV 3) By))) Ng ((Eh (rs.map Row.enc)).drop k) [some (.fl (rs.map Row.enc)),some t,some (.ref G.length),x,y] (G++ [.lst (tab rs.length F)])=
   .nx [some (.fl (rs.map Row.enc)),some t,some (.ref G.length),x',y'] (G++ [.lst (tab rs.length (gat rs m k F))])
 | 0,k,F,x,y,h=>⟨x,y,by rw [zO (by rw [Kh];simp;lia),Dm];rfl⟩
 | m + 1,k,F,x,y,h=>by
  have hk:k < rs.length:=by lia
  have e0:(Eh (rs.map Row.enc)).drop k=.tup [.int k,rs[k].enc]::(Eh (rs.map Row.enc)).drop (k + 1):=by rw [zM (by rw [Kh];simpa using hk)];simp [Eh]
  obtain ⟨x',y',ih⟩:=ZEw hR (t:=t) (G:=G) m (k + 1) (gstep F k (Bw rs k)) (some rs[k].enc) (some (.int k)) (by lia);refine ⟨x',y',?_⟩;have hb:Ng [some (.fl (rs.map Row.enc)),some t,some (.ref G.length),some rs[k].enc,some (.int k)] (G++ [.lst (tab rs.length F)])=
    .nx [some (.fl (rs.map Row.enc)),some t,some (.ref G.length),some rs[k].enc,some (.int k)] (G++ [.lst (tab rs.length (gstep F k (Bw rs k)))]):=by
   unfold Ng;cases hd:Bw rs k with
   | none=>
    have:rs[k].down=none:=by rw [<-Vw hk];exact hd
    simp [Row.enc,this,dnD,gstep]
   | some d=>
    have e:rs[k].down=some d:=by rw [<-Vw hk];exact hd
    have hdn:=Ie hR hd;have g0:(G++ [DO.lst (tab rs.length F)])[G.length]? =some (.lst (tab rs.length F)):=by simp
    simp [Row.enc,e,dnD,gstep,Wj g0 (Gi hdn.2),Dy,Gi hk,Fl,Jf,hdn.2,O3]
  rw [e0,Cy];simp [Do,hb];exact ih
noncomputable def M7 (rs:List Row) (i:Nat):D:=.tup [dnD (Bw rs i),.int (col Row.water rs i),.int (col Row.need rs i),.int (col Row.rank rs i)]
theorem ZGD:rs.map Row.enc=(zX rs.length).map (M7 rs):=by
 refine qU λi=> ?_
 by_cases hi:i < rs.length
 ·rw [zj,zj,zI hi,zZ hi];simp [M7,Row.enc,Vw hi,col,zZ hi]
 ·rw [zk (by simp;lia),zk (by simp;lia)]
theorem ZED (hR:Reach rs) (hl:rs.length<=40) {t:D} (ht:Cj t G=some (tab rs.length T)):Q9 [.fl (rs.map Row.enc),t] G=.ok (.ref G.length) (G++ [.lst (tab rs.length (gath rs λi=>col Row.water rs i - T i))]):=by
 obtain ⟨x',y',hL⟩:=ZEw hR (t:=t) (G:=G) rs.length 0 (λi=>col Row.water rs i - T i) none none (by lia);have hz:∀j,Hv [.fl (rs.map Row.enc),t] j G=some ((zX rs.length).map λi=>D.tup [M7 rs i,.int (T i)])[j]? :=λj=>by
  rw [ZFs ZHv ht,O7,ZGD,tab,List.zip_map',qO]
  rfl
 let F:D->Option D:=λd=>match d with
  | .tup [.tup [_,.int w,_,_],.int v]=>some (.int (w - v))
  | _=>none
 have hc:Ed (Hv [.fl (rs.map Row.enc),t]) (Bv 2 (Ao (gV 0) (Ao (gV 1) By))) Cd ZBk (Bh 2 [] [some (.fl (rs.map Row.enc)),some t,none,none,none]) rs.length 0 G=.ok (tab rs.length λi=>col Row.water rs i - T i) G:=by
  rw [Ux (F:=F) hz (λx hx=> ?_) (by simp)]
  ·congr 1
   rw [qV];show (zX rs.length).filterMap (λi=>some (D.int (col Row.water rs i - T i)))=_;rw [qq]
   rfl
  ·obtain ⟨i,_,rfl⟩:=zH.mp hx;refine ⟨[some (M7 rs i),some (.int (T i))],by simp [Bh],.inr ⟨rfl,.int (col Row.water rs i - T i),?_,rfl⟩⟩;unfold ZBk;simp [M7]
 have hl2:rs.length<=1000000:=by lia
 unfold Q9 ZD4;rw [Br];have hL':Be (Bv 2 (Ao (gV 4) (Ao (gV 3) By))) Ng (Eh (rs.map Row.enc)) [some (.fl (rs.map Row.enc)),some t,some (.ref G.length),none,none] (G++ [.lst (tab rs.length λi=>col Row.water rs i - T i)])=_:=hL;have hcf:Em (Eu 0 (.fl (rs.map Row.enc))) (Bv 2 (Ao (gV 4) (Ao (gV 3) By))) Ng rs.length 0 [some (.fl (rs.map Row.enc)),some t,some (.ref G.length),none,none] (G++ [.lst (tab rs.length λi=>col Row.water rs i - T i)])=.nx [some (.fl (rs.map Row.enc)),some t,some (.ref G.length),x',y'] (G++ [.lst (tab rs.length (gath rs λi=>col Row.water rs i - T i))]):=by
  have:=ZPh (S:= [some (.fl (rs.map Row.enc)),some t,some (.ref G.length),none,none]) (G:=G++ [.lst (tab rs.length λi=>col Row.water rs i - T i)]) (g:=Bv 2 (Ao (gV 4) (Ao (gV 3) By))) (b:=Ng) (xs:=rs.map Row.enc);rw [zT] at this;rw [this];exact hL'
 simp [ZFn (ZHv (xs:=rs.map Row.enc)) ht,hc,Aq,hl2,hcf,Fo]
theorem ZHb {g:Row->Int} (h:∀r∈rs,0<=g r) (k:Nat):0<=col g rs k:=by
 unfold col;split
 ·rename_i r hr;exact h r (List.mem_of_getElem? hr)
 ·exact zE _
theorem Reach.need (h:Reach rs) (k:Nat):0<=col Row.need rs k:=ZHb (λr hr=>by obtain ⟨i,hi,rfl⟩:=q8 hr;exact (h i _ (zZ hi)).n0) k
theorem Reach.water (h:Reach rs) (k:Nat):0<=col Row.water rs k:=ZHb (λr hr=>by obtain ⟨i,hi,rfl⟩:=q8 hr;exact (h i _ (zZ hi)).w0) k
theorem ZGt (h:bels (G.length + 1) ds=true):freeze (G++ [A]) (.ok (.ref (G.length + 1)) (G++A:: .lst ds::L))=.ok (.fl ds) (G++ [A]):=by have:=Ga (G:=G++ [A]) (ds:=ds) (L:=L) (by simpa using h);simpa using this
theorem ZDH (h:bels (G.length + 1) ds=true):tidy (G++ [A]) (.ok (.ref (G.length + 1)) (G++A:: .lst ds::L))=.ok (.ref (G.length + 1)) (G++ [A,.lst ds]):=by have:=Fo (G:=G++ [A]) (ds:=ds) (L:=L) (by simpa using h);simpa using this
theorem ZBE (h:bels (G.length + 2) ds=true):freeze (G++ [A,B]) (.ok (.ref (G.length + 2)) (G++A::B:: .lst ds::L))=.ok (.fl ds) (G++ [A,B]):=by have:=Ga (G:=G++ [A,B]) (ds:=ds) (L:=L) (by simpa using h);simpa using this
noncomputable def J6 (rs:List Row):Nat->Nat->List Nat
 | 0,k=> [k]
 | m + 1,k=>k::(match Bw rs k with
  | none=> []
  | some d=>J6 rs m d)
def way (rs:List Row) (k:Nat):List Nat:=J6 rs rs.length k
theorem ZHL (hR:Reach rs):∀(m m' k:Nat),rs.length<=m + k + 1->rs.length<=m' + k + 1->J6 rs m k=J6 rs m' k
 | 0,m',k,h,h'=>by
  have hn:Bw rs k=none:=by
   cases hd:Bw rs k with
   | none=>rfl
   | some d=>have:=Ie hR hd;lia
  cases m' with
  | zero=>rfl
  | succ m'=>simp [J6,hn]
 | m + 1,0,k,h,h'=>by
  have hn:Bw rs k=none:=by
   cases hd:Bw rs k with
   | none=>rfl
   | some d=>have:=Ie hR hd;lia
  simp [J6,hn]
 | m + 1,m' + 1,k,h,h'=>by
  cases hd:Bw rs k with
  | none=>simp [J6,hd]
  | some d=>
   have:=Ie hR hd;simp [J6,hd,ZHL hR m m' d (by lia) (by lia)]
def Io (rs:List Row):Option Nat->List Nat
 | none=> []
 | some d=>way rs d
theorem Gn (hR:Reach rs) (k:Nat):way rs k=k::Io rs (Bw rs k):=by
 unfold way;rw [ZHL hR rs.length (rs.length + 1) k (by lia) (by lia)];show k::_=_;cases hd:Bw rs k with
 | none=>rfl
 | some d=>rfl
@[simp] theorem ZQa:dnD (some d)=.int d:=id rfl
def Bd (ws:List Nat):List D:=ws.map λ(i:Nat)=>D.int (i:Int)
@[simp] theorem ZFt:bels m (Bd ws)=true:=Gq λ_ _=>rfl
@[simp] theorem ZQd:(Bd ws).length=ws.length:=by simp [Bd]
theorem ZDE (hR:Reach rs) (hl:rs.length<=40) :∀(m:Nat) (o:Option Nat) (acc:List Nat),0 < m->(∀d,o=some d->d < rs.length/\rs.length - d < m/\acc.length + (rs.length - d)<=100)->
  sWh Mr Ua m [some (.fl (rs.map Row.enc)),x,some (.ref G.length),some (dnD o)] (G++ [.lst (Bd acc)])=.nx [some (.fl (rs.map Row.enc)),x,some (.ref G.length),some .non] (G++ [.lst (Bd (acc++Io rs o))])
 | 0,o,acc,h0,h=>by lia
 | m + 1,none,acc,h0,h=>by
  have ht:Mr [some (.fl (rs.map Row.enc)),x,some (.ref G.length),some (dnD none)] (G++ [.lst (Bd acc)])=.ok false (G++ [.lst (Bd acc)]):=by unfold Mr;simp [dnD]
  unfold sWh;rw [ht];simp [Io,dnD]
 | m + 1,some d,acc,h0,h=>by
  obtain ⟨h1,h2,h3⟩:=h d rfl;have ht:Mr [some (.fl (rs.map Row.enc)),x,some (.ref G.length),some (dnD (some d))] (G++ [.lst (Bd acc)])=.ok true (G++ [.lst (Bd acc)]):=by unfold Mr;simp [dnD]
  have hla:acc.length < 1000000:=by lia
  have hb:Ua [some (.fl (rs.map Row.enc)),x,some (.ref G.length),some (dnD (some d))] (G++ [.lst (Bd acc)])=.nx [some (.fl (rs.map Row.enc)),x,some (.ref G.length),some (dnD (Bw rs d))] (G++ [.lst (Bd (acc++ [d]))]):=by unfold Ua;simp [Dy,Fl,hla,ZAf h1,Bd]
  unfold sWh;rw [ht];simp only [R.Dj,if_true,hb,Dv];rw [ZDE hR hl m (Bw rs d) (acc++ [d]) (by lia) (λe he=>by have:=Ie hR he;simp;lia)]
  have:Io rs (some d)=d::Io rs (Bw rs d):=Gn hR d;rw [this];simp
theorem ZJ6 (hR:Reach rs) (hl:rs.length<=40) (hk:k < rs.length) (G:DH):Xu [.fl (rs.map Row.enc),.int k] G=.ok (.ref G.length) (G++ [.lst (Bd (way rs k))]):=by
 have hL:=ZDE hR hl (x:=some (.int k)) (G:=G) fuel (Bw rs k) [k] (by unfold fuel;lia) (λd hd=>by have:=Ie hR hd;unfold fuel;simp;lia)
 have hL':sWh Mr Ua fuel [some (.fl (rs.map Row.enc)),some (.int k),some (.ref G.length),some (dnD (Bw rs k))] (G++ [.lst [.int k]])=_:=hL;rw [Gn hR];unfold Xu ZGZ;rw [Br];simp [Aq,Fo,ZAf hk,hL']
noncomputable def ltK (rs:List Row) (i j:Nat):Bool:=decide (col Row.rank rs i < col Row.rank rs j∨(col Row.rank rs i=col Row.rank rs j/\i < j))
theorem ZGA (rs:List Row):WO (ltK rs) where
 asy:=λi j h=>by simp only [ltK,decide_eq_true_eq,decide_eq_false_iff_not] at h ⊢;lia
 neg:=λi j k h=>by simp only [ltK,decide_eq_true_eq] at h ⊢;lia
noncomputable def ord (rs:List Row):List Nat:=if rs.length < 2 then zX rs.length else (Cr (ltK rs) (PySem.W.kas_sort rs.length)).toList
theorem ZCl (rs:List Row):(ord rs).Perm (zX rs.length):=by
 unfold ord;split
 ·exact .refl _
 ·exact (ZG2 (ZGA rs) (by lia)).1
theorem ZBS (h:k∈ord rs):k < rs.length:=by have:=(ZCl rs).mem_iff.mp h;simpa using this
theorem ZFy (rs:List Row):(ord rs).length=rs.length:=by rw [(ZCl rs).length_eq];simp
theorem ZFa {n:Nat} {lt lt':Nat->Nat->Bool} (h:∀i j,i < n->j < n->lt i j=lt' i j) {P:α->Prop}:∀{t:PySem.W.KasT α},Safe n P t->Cr lt t=Cr lt' t
 | .ret _,_=>rfl
 | .ask i j k,hs=>by show Cr lt (k (lt i j))=Cr lt' (k (lt' i j));rw [h i j hs.1 hs.2.1];exact ZFa h (hs.2.2 _)
def Ha (rs:List Row) (k:Nat):D:=.tup [.int (col Row.rank rs k),.int k]
theorem ZIC (i j:Nat):ltD (Ha rs i) (Ha rs j)=some (ltK rs i j):=by
 have e:ltD (Ha rs i) (Ha rs j)=if col Row.rank rs i=col Row.rank rs j then (if (i:Int)=j then some false else some (decide ((i:Int) < j))) else some (decide (col Row.rank rs i < col Row.rank rs j)):=rfl
 rw [e];by_cases h:col Row.rank rs i=col Row.rank rs j
 ·rw [if_pos h];by_cases h2:(i:Int)=j
  ·rw [if_pos h2]
   congr 1
   simp only [ltK]
   symm
   simp only [decide_eq_false_iff_not];lia
  ·rw [if_neg h2]
   congr 1
   simp only [ltK];rw [decide_eq_decide];lia
 ·rw [if_neg h]
  congr 1
  simp only [ltK];rw [decide_eq_decide];lia
def Ho (rs:List Row):List D:=(zX rs.length).map (Ha rs)
theorem ZBR (h:i < rs.length):(Ho rs).getD i .non=Ha rs i:=by unfold Ho;rw [zA,zj,zI h];rfl
theorem ZFe (rs:List Row):Mf (Ho rs)=(ord rs).map (Ha rs):=by
 have hl:(Ho rs).length=rs.length:=by simp [Ho]
 unfold Mf ord;rw [hl];split
 ·rfl
 ·rename_i h;have e:Cr (ltI (Ho rs)) (PySem.W.kas_sort rs.length)=Cr (ltK rs) (PySem.W.kas_sort rs.length):=
   ZFa (n:=rs.length) (λi j hi hj=>by unfold ltI;rw [ZBR hi,ZBR hj,ZIC];rfl) (ZJm (by lia))
  rw [e];refine qQ λi hi=> ?_
  have hp:=(ZG2 (ZGA rs) (n:=rs.length) (by lia)).1;exact ZBR (by simpa using hp.mem_iff.mp hi)
theorem ZKm (rs:List Row):Oq (Ho rs)=true:=by
 unfold Oq Ho;rw [zF,j4];refine ⟨.inl ?_,?_⟩
 ·rw [qA];intro x hx;obtain ⟨i,_,rfl⟩:=zH.mp hx
  rfl
 ·rw [qA];intro x hx;rw [qA];intro y hy;obtain ⟨i,_,rfl⟩:=zH.mp hx;obtain ⟨j,_,rfl⟩:=zH.mp hy;rw [ZIC];rfl
@[simp] theorem ZOE:bels m (ws.map (Ha rs))=true:=Gq λ_ _=>by simp [Ha]
theorem ZPZ (hl:rs.length<=40) (G:DH):V4 [.fl (rs.map Row.enc)] G=.ok (.ref G.length) (G++ [.lst (Bd (ord rs))]):=by
 have he:∀j,Eu 0 (.fl (rs.map Row.enc)) j G=some ((zX rs.length).map λ(k:Nat)=>D.tup [.int (k:Int),M7 rs k])[j]? :=λj=>by
  rw [Xg,Eh,ZGD,List.zipIdx_map,qO]
  congr 2
  refine qF (by simp) λi h1 h2=>by simp
 let F:D->Option D:=λd=>match d with
  | .tup [.int k,.tup [_,_,_,.int r]]=>some (.tup [.int r,.int k])
  | _=>none
 have hc:Ed (Eu 0 (.fl (rs.map Row.enc))) (Bv 2 (Ao (gV 0) (Ao (gV 1) By))) Cd ZCD (Bh 2 [] [some (.fl (rs.map Row.enc)),none]) rs.length 0 G=.ok (Ho rs) G:=by
  rw [Ux (F:=F) he (λx hx=> ?_) (by simp)]
  ·congr 1
   rw [qV];show (zX rs.length).filterMap (λi=>some (Ha rs i))=_;rw [qq]
   rfl
  ·obtain ⟨i,_,rfl⟩:=zH.mp hx;refine ⟨[some (.int i),some (M7 rs i)],by simp [Bh],.inr ⟨rfl,Ha rs i,?_,rfl⟩⟩;unfold ZCD;simp [M7,Ha,Bo]
 let F2:D->Option D:=λd=>match d with
  | .tup [_,k]=>some k
  | _=>none
 have hc2:∀S,Dz (Bv 2 (Ao (gV 0) (Ao (gV 1) By))) Cd ZCJ (Bh 2 [] S) ((ord rs).map (Ha rs)) G=.ok (Bd (ord rs)) G:=λS=>by
  rw [V1 (F:=F2) (λx hx=> ?_)]
  ·congr 1
   rw [qV];show (ord rs).filterMap (λ(i:Nat)=>some (D.int (i:Int)))=_;rw [qq]
   rfl
  ·obtain ⟨i,_,rfl⟩:=zH.mp hx;refine ⟨[some (.int (col Row.rank rs i)),some (.int i)],by simp [Bh,Ha],.inr ⟨rfl,.int i,?_,rfl⟩⟩;unfold ZCJ;simp
 have hkl:(Ho rs).length=rs.length:=by simp [Ho]
 have hl2:rs.length<=1000000:=by lia
 have hs:∀G,Ue [.fl (Ho rs)] G=.ok (.ref G.length) (G++ [.lst ((ord rs).map (Ha rs))]):=λG=>by have h1:Ip (.fl (Ho rs)) G=some (Ho rs):=rfl;simp only [Ue,h1];rw [if_pos ⟨⟨by rw [hkl];lia,by rw [ZFe];simp [ZFy];lia⟩,ZKm rs⟩,ZFe]
 have hbk:bels G.length (Ho rs)=true:=ZOE;have hol:=ZFy rs;have hl3:(ord rs).length<=1000000:=by lia
 unfold V4 ZG9;rw [Br];simp [hc,Aq,hkl,hl2,Ga,hbk,hs,hc2,hl3,Fo]
def wmin (P:Nat->Int):List Nat->Int
 | []=>0
 | k::r=>(r.map P).foldl min (P k)
theorem Vi (h:b∈ws):wmin P ws<=P b:=by
 cases ws with
 | nil=>cases h
 | cons k r=>
  obtain ⟨h1,h2,_⟩:=X5 (r.map P) (P k);rcases zx.mp h with rfl | h
  ·exact h1
  ·exact h2 _ (zH.mpr ⟨b,h,rfl⟩)
theorem ZCp (h:ws≠ []):∃b∈ws,wmin P ws=P b:=by
 cases ws with
 | nil=>exact absurd rfl h
 | cons k r=>
  obtain ⟨_,_,h3⟩:=X5 (r.map P) (P k);rcases h3 with h3 | h3
  ·exact ⟨k,zW,h3⟩
  ·obtain ⟨b,hb,e⟩:=zH.mp h3;exact ⟨b,zJ _ hb,e.symm⟩
theorem ZPk {Q:Nat->Int} (h:∀b∈ws,P b=Q b):wmin P ws=wmin Q ws:=by
 cases ws with
 | nil=>rfl
 | cons k r=>
  have e:r.map P=r.map Q:=qQ λb hb=>h b (zJ _ hb)
  show (r.map P).foldl min (P k)=(r.map Q).foldl min (Q k);rw [e,h k zW]
def Eb (P:Nat->Int) (ws:List Nat) (t:Int):Nat->Int:=λi=>if i∈ws then P i - t else P i
def W2 (P:Nat->Int) (t:Int) (ws:List Nat):Nat->Int:=ws.foldl (λP b=>fset P b (P b - t)) P
theorem ZHr:∀{ws:List Nat} {P:Nat->Int},ws.Nodup->W2 P t ws=Eb P ws t
 | [],P,_=>by funext i;simp [W2,Eb]
 | b::ws,P,h=>by
  obtain ⟨h1,h2⟩:=q9.mp h;show W2 (fset P b (P b - t)) t ws=_;rw [ZHr h2];funext i;by_cases e:i=b
  ·subst e;simp [Eb,fset,h1]
  ·simp [Eb,fset,e]
theorem ZEF (hR:Reach rs):∀(m k:Nat),rs.length<=m + k->k < rs.length->∀b∈way rs k,k<=b/\b < rs.length
 | 0,k,h,hk,b,hb=>by lia
 | m + 1,k,h,hk,b,hb=>by
  rw [Gn hR] at hb;rcases zx.mp hb with rfl | hb
  ·lia
  ·cases hd:Bw rs k with
   | none=>rw [hd] at hb;cases hb
   | some d=>
    have:=Ie hR hd;rw [hd] at hb;have:=ZEF hR m d (by lia) (by lia) b hb;lia
theorem Pn (hR:Reach rs) (hk:k < rs.length) (hb:b∈way rs k):k<=b/\b < rs.length:=ZEF hR rs.length k (by lia) hk b hb
theorem ZFj (hR:Reach rs):∀(m k:Nat),rs.length<=m + k->(way rs k).Nodup
 | 0,k,h=>by rw [Gn hR,Vd (by lia)];simp [Io]
 | m + 1,k,h=>by
  rw [Gn hR];cases hd:Bw rs k with
  | none=>simp [Io]
  | some d=>
   have hlt:=Ie hR hd;refine q9.mpr ⟨λhm=> ?_,ZFj hR m d (by lia)⟩;have:=Pn hR hlt.2 hm;lia
theorem ZPo (hR:Reach rs) (k:Nat):(way rs k).Nodup:=ZFj hR rs.length k (by lia)
theorem ZDu (hR:Reach rs):∀(m k:Nat),rs.length<=m + k->(way rs k).length<=m + 1
 | 0,k,h=>by rw [Gn hR,Vd (by lia)];simp [Io]
 | m + 1,k,h=>by
  rw [Gn hR];cases hd:Bw rs k with
  | none=>simp [Io]
  | some d=>
   have hlt:=Ie hR hd;have:=ZDu hR m d (by lia);show (way rs d).length + 1<=_;lia
theorem ZM3 (hR:Reach rs) (k:Nat):k∈way rs k:=by rw [Gn hR];exact zW
def take1 (rs:List Row) (P:Nat->Int) (k:Nat):Int:=min (col Row.need rs k) (wmin P (way rs k))
noncomputable def srv (rs:List Row):List Nat->(Nat->Int)->(Nat->Int)->(Nat->Int)×(Nat->Int)
 | [],P,T=>(P,T)
 | k::ks,P,T=>srv rs ks (Eb P (way rs k) (take1 rs P k)) (fset T k (take1 rs P k))
def shr (rs:List Row):Nat->Int:=(srv rs (ord rs) (gath rs (col Row.water rs)) λ_=>0).2
def pD (P:Nat->Int) (ws:List Nat):List D:=ws.map λi=>D.int (P i)
@[simp] theorem ZQf:(pD P ws).length=ws.length:=by simp [pD]
@[simp] theorem ZKc:bels m (pD P ws)=true:=Gq λ_ _=>rfl
theorem ZH9 {a b c d e:Option D} {t:Int} {A:DO} {G:DH}:∀(ws:List Nat) (P:Nat->Int) (x:Option D),(∀b∈ws,b < rs.length)->∃x',
  Be (gV 6) Yd (Bd ws) [a,b,some (.ref (G.length + 1)),c,d,some (.int t),x] (G++ [A,.lst (tab rs.length P)])=.nx [a,b,some (.ref (G.length + 1)),c,d,some (.int t),x'] (G++ [A,.lst (tab rs.length (W2 P t ws))])
 | [],P,x,h=>⟨x,rfl⟩
 | w::ws,P,x,h=>by
  obtain ⟨x',ih⟩:=ZH9 (a:=a) (b:=b) (c:=c) (d:=d) (e:=e) (t:=t) (A:=A) (G:=G) ws (fset P w (P w - t)) (some (.int w)) λb hb=>h b (zJ _ hb)
  refine ⟨x',?_⟩;have hw:=h w zW;have g0:(G++ [A,DO.lst (tab rs.length P)])[G.length + 1]? =some (.lst (tab rs.length P)):=Vx _ 1;have hse:∀(L:DH) o,(G++L).set (G.length + 1) o=G++L.set 1 o:=λL o=>ZBd L 1 o
  have hb:Yd [a,b,some (.ref (G.length + 1)),c,d,some (.int t),some (.int w)] (G++ [A,.lst (tab rs.length P)])=.nx [a,b,some (.ref (G.length + 1)),c,d,some (.int t),some (.int w)] (G++ [A,.lst (tab rs.length (fset P w (P w - t)))]):=by unfold Yd;simp [Wj g0 (Gi hw),g0,hse,Jf,hw,O3]
  show Be _ _ (.int w::Bd ws) _ _=_;rw [Cy];simp only [Do,R.Dj,zU,hb,Dv];exact ih
theorem ZFL {rs:List Row} (hR:Reach rs) (hl:rs.length<=40) {G:DH}:∀(ks:List Nat) (P T:Nat->Int) (x y z w:Option D),(∀k∈ks,k < rs.length)->∃x' y' z' w',
  Be (gV 3) Tt (Bd ks) [some (.fl (rs.map Row.enc)),some (.ref G.length),some (.ref (G.length + 1)),x,y,z,w] (G++ [.lst (tab rs.length T),.lst (tab rs.length P)])=
   .nx [some (.fl (rs.map Row.enc)),some (.ref G.length),some (.ref (G.length + 1)),x',y',z',w'] (G++ [.lst (tab rs.length (srv rs ks P T).2),.lst (tab rs.length (srv rs ks P T).1)])
 | [],P,T,x,y,z,w,h=>⟨x,y,z,w,rfl⟩
 | k::ks,P,T,x,y,z,w,h=>by
  have hk:=h k zW;have hwl:∀b∈way rs k,b < rs.length:=λb hb=>(Pn hR hk hb).2
  obtain ⟨w1,hsub⟩:=ZH9 (rs:=rs) (a:=some (.fl (rs.map Row.enc))) (b:=some (.ref G.length)) (c:=some (.int k)) (d:=some (.fl (Bd (way rs k)))) (e:=none) (t:=take1 rs P k) (A:=.lst (tab rs.length (fset T k (take1 rs P k)))) (G:=G) (way rs k) P w hwl;rw [ZHr (ZPo hR k)] at hsub;obtain ⟨x',y',z',w',ih⟩:=ZFL hR hl (G:=G) ks (Eb P (way rs k) (take1 rs P k)) (fset T k (take1 rs P k)) (some (.int k)) (some (.fl (Bd (way rs k)))) (some (.int (take1 rs P k))) w1 λj hj=>h j (zJ _ hj)
  refine ⟨x',y',z',w',?_⟩;have g0:(G++ [DO.lst (tab rs.length T),DO.lst (tab rs.length P)])[G.length + 1]? =some (.lst (tab rs.length P)):=Vx _ 1;have hcomp:Dz (gV 0) Cd ZBe (Bh 1 [2] [some (.fl (rs.map Row.enc)),some (.ref G.length),some (.ref (G.length + 1)),some (.int k),some (.fl (Bd (way rs k))),z,w]) (Bd (way rs k)) (G++ [DO.lst (tab rs.length T),DO.lst (tab rs.length P)])=.ok (pD P (way rs k)) (G++ [DO.lst (tab rs.length T),DO.lst (tab rs.length P)]):=by
   rw [V1 (F:=λd=>match d with | .int i=>some (.int (P i.toNat)) | _=>none) (λq hq=> ?_)]
   ·congr 1
    unfold Bd;rw [qV];show (way rs k).filterMap (λ(i:Nat)=>some (D.int (P ((i:Int).toNat))))=_;rw [qq];simp [pD]
   ·obtain ⟨i,hi,rfl⟩:=zH.mp hq;refine ⟨[some (.int i),some (.ref (G.length + 1))],by simp [Bh],.inr ⟨rfl,.int (P i),?_,by simp⟩⟩;unfold ZBe;simp [g0,Gi (hwl i hi)]
  have hwn:(way rs k).length<=1000000:=by have h1:=ZDu hR rs.length k (by lia);lia
  have hmin:∀G,Qa [.fl (pD P (way rs k))] G=.ok (.int (wmin P (way rs k))) G:=λG=>by rw [Gn hR];exact ZNS (n:=P k) (ns:=(Io rs (Bw rs k)).map P) (by simp [pD])
  have hfr:freeze (G++ [DO.lst (tab rs.length T),DO.lst (tab rs.length P)]) (.ok (.ref (G.length + 2)) (G++ [DO.lst (tab rs.length T),DO.lst (tab rs.length P),.lst (pD P (way rs k))]))=.ok (.fl (pD P (way rs k))) (G++ [DO.lst (tab rs.length T),DO.lst (tab rs.length P)]):=ZBE ZKc;have hfw:freeze (G++ [DO.lst (tab rs.length T),DO.lst (tab rs.length P)]) (.ok (.ref (G.length + 2)) (G++ [DO.lst (tab rs.length T),DO.lst (tab rs.length P),.lst (Bd (way rs k))]))=.ok (.fl (Bd (way rs k))) (G++ [DO.lst (tab rs.length T),DO.lst (tab rs.length P)]):=ZBE ZFt
  have hb:Tt [some (.fl (rs.map Row.enc)),some (.ref G.length),some (.ref (G.length + 1)),some (.int k),y,z,w] (G++ [.lst (tab rs.length T),.lst (tab rs.length P)])=
    .nx [some (.fl (rs.map Row.enc)),some (.ref G.length),some (.ref (G.length + 1)),some (.int k),some (.fl (Bd (way rs k))),some (.int (take1 rs P k)),w1] (G++ [.lst (tab rs.length (fset T k (take1 rs P k))),.lst (tab rs.length (Eb P (way rs k) (take1 rs P k)))]):=by
   unfold Tt;have ht1:min (col Row.need rs k) (wmin P (way rs k))=take1 rs P k:=rfl;simp [ZJ6 hR hl hk,hfw,ZAf hk,hcomp,Aq,hwn,hfr,hmin,ht1,Dy,Fl,Jf,hk,O3,hsub]
  show Be _ _ (.int k::Bd ks) _ _=_;rw [Cy];simp only [Do,R.Dj,zU,hb,Dv];exact ih
theorem ZJB (hR:Reach rs) (hl:rs.length<=40) (G:DH):V3 [.fl (rs.map Row.enc)] G=.ok (.ref G.length) (G++ [.lst (tab rs.length (shr rs))]):=by
 have hz:zV rs.length (D.int 0)=tab rs.length λ_=>0:=by unfold tab;refine qF (by simp) λi h1 h2=>by simp
 have hrep:Kf (.ref G.length) (.int (rs.length:Int)) (G++ [.lst [.int 0]])=.ok (.ref (G.length + 1)) (G++ [.lst [.int 0],.lst (tab rs.length λ_=>0)]):=by rw [ZGE (d:=.int 0) (by rw [Dy];rfl) (by lia),hz];simp
 have ht1:tidy G (.ok (.ref (G.length + 1)) (G++ [.lst [.int 0],.lst (tab rs.length λ_=>0)]))=.ok (.ref G.length) (G++ [.lst (tab rs.length λ_=>0)]):=ZCP _ (k:=1) rfl Jg;have hp:Q9 [.fl (rs.map Row.enc),.ref G.length] (G++ [.lst (tab rs.length λ_=>0)])=.ok (.ref (G.length + 1)) (G++ [.lst (tab rs.length λ_=>0),.lst (tab rs.length (gath rs (col Row.water rs)))]):=by rw [ZED hR hl (T:=λ_=>0) (ZLp (by rw [Dy];rfl))];simp
 have ht2:tidy (G++ [.lst (tab rs.length λ_=>0)]) (.ok (.ref (G.length + 1)) (G++ [.lst (tab rs.length λ_=>0),.lst (tab rs.length (gath rs (col Row.water rs)))]))=.ok (.ref (G.length + 1)) (G++ [.lst (tab rs.length λ_=>0),.lst (tab rs.length (gath rs (col Row.water rs)))]):=ZDH Jg;have hfs:freeze (G++ [.lst (tab rs.length λ_=>0),.lst (tab rs.length (gath rs (col Row.water rs)))]) (.ok (.ref (G.length + 2)) (G++ [.lst (tab rs.length λ_=>0),.lst (tab rs.length (gath rs (col Row.water rs))),.lst (Bd (ord rs))]))=.ok (.fl (Bd (ord rs))) (G++ [.lst (tab rs.length λ_=>0),.lst (tab rs.length (gath rs (col Row.water rs)))]):=ZBE ZFt
 obtain ⟨x',y',z',w',hL⟩:=ZFL hR hl (G:=G) (ord rs) (gath rs (col Row.water rs)) (λ_=>0) none none none none λk hk=>ZBS hk
 have hfin:∀A,tidy G (.ok (.ref G.length) (G++ [.lst (tab rs.length (shr rs)),A]))=.ok (.ref G.length) (G++ [.lst (tab rs.length (shr rs))]):=λA=>Fo Jg
 have hL':Be (gV 3) Tt (Bd (ord rs)) [some (.fl (rs.map Row.enc)),some (.ref G.length),some (.ref (G.length + 1)),none,none,none,none] (G++ [.lst (tab rs.length λ_=>0),.lst (tab rs.length (gath rs (col Row.water rs)))])=
   .nx [some (.fl (rs.map Row.enc)),some (.ref G.length),some (.ref (G.length + 1)),x',y',z',w'] (G++ [.lst (tab rs.length (shr rs)),.lst (tab rs.length (srv rs (ord rs) (gath rs (col Row.water rs)) λ_=>0).1)]):=hL
 unfold V3 ZGC;rw [Br];simp [Aq,hrep,ht1,hp,ht2,ZPZ hl,hfs,hL',hfin]
def ind (t:Int) (ws:List Nat):Nat->Int:=λi=>if i∈ws then t else 0
theorem ZBh (hR:Reach rs) :∀(m j:Nat) (A:Nat->Int),k < j->gat rs m j (λi=>A i + ind t [k] i)=λi=>gat rs m j A i + ind t [k] i
 | 0,j,A,h=>rfl
 | m + 1,j,A,h=>by
  unfold gat;have e:gstep (λi=>A i + ind t [k] i) j (Bw rs j)=λi=>gstep A j (Bw rs j) i + ind t [k] i:=by
   cases hd:Bw rs j with
   | none=>rfl
   | some d=>
    have:=Ie hR hd;funext i;simp only [gstep,fset,ind,qk];have h1:j≠k:=by lia
    have h2:d≠k:=by lia
    by_cases hi:i=d
    ·subst hi;simp [h1,h2]
    ·simp [hi]
  rw [e,ZBh hR m (j + 1) _ (by lia)]
theorem Wt (hR:Reach rs) :∀(m j k:Nat) (A:Nat->Int),j + m=rs.length->j<=k->k < rs.length->gat rs m j (λi=>A i + ind t [k] i)=λi=>gat rs m j A i + ind t (way rs k) i
 | 0,j,k,A,h,h1,h2=>by lia
 | m + 1,j,k,A,h,h1,h2=>by
  unfold gat;by_cases hjk:j < k
  ·have e:gstep (λi=>A i + ind t [k] i) j (Bw rs j)=λi=>gstep A j (Bw rs j) i + ind t [k] i:=by
    cases hd:Bw rs j with
    | none=>rfl
    | some d=>
     funext i;simp only [gstep,fset,ind,qk];have h3:j≠k:=by lia
     by_cases hi:i=d
     ·subst hi;simp [h3];split <;> lia
     ·simp [hi]
   rw [e,Wt hR m (j + 1) k _ (by lia) (by lia) h2]
  ·have ej:j=k:=by lia
   subst ej;cases hd:Bw rs j with
   | none=>
    have hw:way rs j= [j]:=by rw [Gn hR,hd];rfl
    show gat rs m (j + 1) (λi=>A i + ind t [j] i)=_;rw [ZBh hR m (j + 1) A (by lia),hw]
    rfl
   | some d=>
    have hlt:=Ie hR hd;have hw:way rs j=j::way rs d:=by rw [Gn hR,hd];rfl
    have e:gstep (λi=>A i + ind t [j] i) j (some d)=λi=>(gstep A j (some d) i + ind t [d] i) + ind t [j] i:=by
     funext i;simp only [gstep,fset,ind,qk];have h3:d≠j:=by lia
     by_cases hi:i=d
     ·subst hi;simp [h3];lia
     ·simp [hi]
    rw [e,ZBh hR m (j + 1) _ (by lia),Wt hR m (j + 1) d _ (by lia) (by lia) hlt.2];funext i;have hnj:j ∉ way rs d:=λhm=>by have:=Pn hR hlt.2 hm;lia
    simp only [ind,hw,zx,qk];by_cases hi:i=j
    ·subst hi;simp [hnj]
    ·simp [hi]
theorem ZM2 (hR:Reach rs) (hk:k < rs.length) (h0:T k=0):gath rs (λi=>W i - fset T k t i)=Eb (gath rs λi=>W i - T i) (way rs k) t:=by
 have e:(λi=>W i - fset T k t i)=λi=>(W i - T i) + ind (-t) [k] i:=by
  funext i;simp only [fset,ind,qk];by_cases hi:i=k
  ·subst hi;simp [h0];lia
  ·simp [hi]
 rw [e];show gat rs rs.length 0 _=_;rw [Wt hR rs.length 0 k _ (by lia) (by lia) hk];funext i;simp only [ind,Eb,gath]
 split <;> lia
theorem Zk:∀(m k:Nat) (F:Nat->Int),(∀i,0<=F i)->∀i,0<=gat rs m k F i
 | 0,k,F,h,i=>h i
 | m + 1,k,F,h,i=>by
  refine Zk m (k + 1) _ (λj=> ?_) i;cases Bw rs k with
  | none=>exact h j
  | some d=>
   simp only [gstep,fset];have:=h d;have:=h k;have:=h j
   split <;> lia
structure SI (rs:List Row) (P T:Nat->Int):Prop where
 pg:P=gath rs λi=>col Row.water rs i - T i
 t0:∀i,0<=T i
 tn:∀i,T i<=col Row.need rs i
 p0:∀i,i < rs.length->0<=P i
theorem ZF4 (h:∀b∈ws,0<=P b):0<=wmin P ws:=by
 cases ws with
 | nil=>exact zE _
 | cons k r=>
  obtain ⟨b,hb,e⟩:=ZCp (P:=P) (ws:=k::r) (by simp);rw [e];exact h b hb
theorem SI.take (hR:Reach rs) (s:SI rs P T) (hk:k < rs.length):0<=take1 rs P k/\take1 rs P k<=col Row.need rs k/\∀b∈way rs k,take1 rs P k<=P b:=by
 have h1:0<=wmin P (way rs k):=ZF4 λb hb=>s.p0 b (Pn hR hk hb).2
 have h2:=hR.need k;unfold take1;refine ⟨by lia,by lia,λb hb=> ?_⟩;have:=Vi (P:=P) hb;lia
theorem SI.step (hR:Reach rs) (s:SI rs P T) (hk:k < rs.length) (h0:T k=0):SI rs (Eb P (way rs k) (take1 rs P k)) (fset T k (take1 rs P k)):=by
 obtain ⟨a,b,c⟩:=s.take hR hk;refine ⟨?_,λi=> ?_,λi=> ?_,λi hi=> ?_⟩
 ·rw [ZM2 hR hk h0,<-s.pg]
 ·simp only [fset];split
  ·exact a
  ·exact s.t0 i
 ·simp only [fset];split
  ·rename_i e;rw [e];exact b
  ·exact s.tn i
 ·simp only [Eb];split
  ·rename_i hm;have:=c i hm;lia
  ·exact s.p0 i hi
theorem SI.run (hR:Reach rs):∀(ks:List Nat) (P T:Nat->Int),SI rs P T->ks.Nodup->(∀k∈ks,k < rs.length/\T k=0)->SI rs (srv rs ks P T).1 (srv rs ks P T).2
 | [],P,T,s,_,_=>s
 | k::ks,P,T,s,nd,h=>by
  obtain ⟨n1,n2⟩:=q9.mp nd;obtain ⟨hk,h0⟩:=h k zW;refine SI.run hR ks _ _ (s.step hR hk h0) n2 λj hj=> ?_
  obtain ⟨hj1,hj2⟩:=h j (zJ _ hj);have:j≠k:=λe=>n1 (e ▸ hj)
  exact ⟨hj1,by simp [fset,this,hj2]⟩
theorem ZFd (rs:List Row):(ord rs).Nodup:=(ZCl rs).nodup_iff.mpr List.nodup_range
theorem SI.first (hR:Reach rs):SI rs (gath rs (col Row.water rs)) λ_=>0:=
 ⟨by simp,λ_=>zE _,hR.need,λi _=>Zk _ _ _ hR.water i⟩
theorem X6 (hR:Reach rs):SI rs (srv rs (ord rs) (gath rs (col Row.water rs)) λ_=>0).1 (shr rs):=
 SI.run hR (ord rs) _ _ (SI.first hR) (ZFd rs) λk hk=>⟨ZBS hk,rfl⟩
theorem rp:¬(("pump":Str)="river"):=by decide
theorem pr:¬(("river":Str)="pump"):=by decide
structure Stp where
 h:Int
 m:Int
 r:Bool
variable {st:List Stp}
def wy (r:Bool):Str:=if r then "river" else "pump"
def Stp.enc (s:Stp):D:=.tup [.int s.h,.int s.m,.str (wy s.r)]
@[simp] theorem ZQX {n:Nat} :bels n (st.map Stp.enc)=true:=Gq λs _=>by simp [Stp.enc]
@[simp] theorem ZRE {r:Bool}:(wy r="river")=(r=true):=by
 cases r
 ·exact propext ⟨λh=>absurd h rp,λh=>by cases h⟩
 ·exact propext ⟨λh=>rfl,λ_=>rfl⟩
@[simp] theorem ZRD {r:Bool}:(wy r="pump")=(r=false):=by
 cases r
 ·exact propext ⟨λh=>rfl,λ_=>rfl⟩
 ·exact propext ⟨λh=>absurd h pr,λh=>by cases h⟩
abbrev Ssn:=Int×List Stp
def Dh (s:Ssn):D:=.tup [.int s.1,.tup (s.2.map Stp.enc)]
@[simp] theorem ZQj {n:Nat} {ss:List Ssn}:bels n (ss.map Dh)=true:=Gq λs _=>by simp [Dh]
noncomputable def held (t:Int):List Ssn->List Stp->List Stp
 | [],h=>h
 | s::r,h=>held t r (if s.1<=t then s.2 else h)
theorem ZEo {c:D} {t:Int} {G:DH}:∀{ss:List Ssn} {h:List Stp} {a b:Option D},∃a' b',Be (Bv 2 (Ao (gV 3) (Ao (gV 4) By))) Xz (ss.map Dh) [some c,some (.int t),some (.tup (h.map Stp.enc)),a,b] G=
  .nx [some c,some (.int t),some (.tup ((held t ss h).map Stp.enc)),a',b'] G
 | [],h,a,b=>⟨a,b,by rw [jO,Dm];rfl⟩
 | s::r,h,a,b=>by
  obtain ⟨a',b',ih⟩:=ZEo (c:=c) (t:=t) (G:=G) (ss:=r) (h:=if s.1<=t then s.2 else h) (a:=some (.int s.1)) (b:=some (.tup (s.2.map Stp.enc)));refine ⟨a',b',?_⟩;have hb:Xz [some c,some (.int t),some (.tup (h.map Stp.enc)),some (.int s.1),some (.tup (s.2.map Stp.enc))] G=.nx [some c,some (.int t),some (.tup ((if s.1<=t then s.2 else h).map Stp.enc)),some (.int s.1),some (.tup (s.2.map Stp.enc))] G:=by
   unfold Xz
   by_cases h1:s.1<=t <;> simp [h1]
  rw [zC,Cy];simp only [Dh,Sv,Tg,Sd,Do,R.K8,R.Dj,zU,hb,Dv,qZ,j5,Nat.reduceAdd,if_true];exact ih
theorem c_at {ss:List Ssn} :Yi [.tup (ss.map Dh),.int t] G=.ok (.tup ((held t ss []).map Stp.enc)) G:=by obtain ⟨a,b,h⟩:=ZEo (c:=.tup (ss.map Dh)) (t:=t) (G:=G) (ss:=ss) (h:= []) (a:=none) (b:=none);unfold Yi ZHg;rw [Br];simp at h;simp [h,Ci]
def cub (w:Int) (s:Stp):Int:=max 0 (min s.m (w - s.h))
def rv (w:Int):List Stp->Int
 | []=>0
 | s::r=>(if s.r then cub w s else 0) + rv w r
def pm (w:Int):List Stp->Int
 | []=>0
 | s::r=>(if s.r then 0 else cub w s) + pm w r
theorem ZGG {c:D} {w:Int} {G:DH}:∀{st:List Stp} {a b:Int} {e f g h:Option D},∃e' f' g' h',Be (Bv 3 (Ao (gV 4) (Ao (gV 5) (Ao (gV 6) By)))) X7 (st.map Stp.enc) [some c,some (.int w),some (.int a),some (.int b),e,f,g,h] G=
  .nx [some c,some (.int w),some (.int (a + rv w st)),some (.int (b + pm w st)),e',f',g',h'] G
 | [],a,b,e,f,g,h=>⟨e,f,g,h,by simp [Dm,rv,pm]⟩
 | s::r,a,b,e,f,g,h=>by
  obtain ⟨e',f',g',h',ih⟩:=ZGG (c:=c) (w:=w) (G:=G) (st:=r) (a:=a + (if s.r then cub w s else 0)) (b:=b + (if s.r then 0 else cub w s)) (e:=some (.int s.h)) (f:=some (.int s.m)) (g:=some (.str (wy s.r))) (h:=some (.int (cub w s)));refine ⟨e',f',g',h',?_⟩;have hb:X7 [some c,some (.int w),some (.int a),some (.int b),some (.int s.h),some (.int s.m),some (.str (wy s.r)),h] G=.nx [some c,some (.int w),some (.int (a + (if s.r then cub w s else 0))),some (.int (b + (if s.r then 0 else cub w s))),some (.int s.h),some (.int s.m),some (.str (wy s.r)),some (.int (cub w s))] G:=by
   unfold X7 cub
   cases s.r <;> simp
  rw [zC,Cy];simp [Stp.enc,hb];rw [ih];simp [rv,pm,Int.add_assoc]
theorem ZD0:Y4 [.tup (st.map Stp.enc),.int w] G=.ok (.tup [.int (rv w st),.int (pm w st),.int (w - rv w st - pm w st)]) G:=by obtain ⟨e,f,g,h,hl⟩:=ZGG (c:=.tup (st.map Stp.enc)) (w:=w) (G:=G) (st:=st) (a:=0) (b:=0) (e:=none) (f:=none) (g:=none) (h:=none);unfold Y4 ZDx;rw [Br];simp at hl;simp [hl,Ci]
inductive Kd where
 | basin (brim:Int) (rule:List Ssn) (pump:Option (Nat×Nat×Int))
 | town (need rank:Int)
 | mill (most:Int)
structure Pl where
 nm:Str
 dn:Option Nat
 dl:Nat
 kd:Kd
def ZB1:Pl:=⟨"",none,0,.mill 0⟩
structure Hs where
 yr:Int
 ps:List Pl
variable {h:Hs}
def Kd.txt:Kd->Str
 | .basin ..=>"basin"
 | .town ..=>"town"
 | .mill ..=>"mill"
def Kd.isB:Kd->Bool
 | .basin ..=>true
 | _=>false
def Kd.isT:Kd->Bool
 | .town ..=>true
 | _=>false
def Hs.pl (h:Hs) (k:Nat):Pl:=h.ps.getD k ZB1
def Hs.n (h:Hs):Nat:=h.ps.length
def Hs.dnT (h:Hs):Option Nat->Str
 | none=>"sea"
 | some d=>(h.pl d).nm
noncomputable def Hs.Nk (h:Hs):Option (Nat×Nat×Int)->D
 | none=>.non
 | some (to,dl,m)=>.tup [.str (h.pl to).nm,.int dl,.int m]
noncomputable def Hs.encP (h:Hs) (p:Pl):D:=match p.kd with
 | .basin b r q=>.tup [.str "basin",.str p.nm,.str (h.dnT p.dn),.int p.dl,.int b,.tup (r.map Dh),h.Nk q]
 | .town a b=>.tup [.str "town",.str p.nm,.str (h.dnT p.dn),.int p.dl,.int a,.int b]
 | .mill a=>.tup [.str "mill",.str p.nm,.str (h.dnT p.dn),.int p.dl,.int a]
def Hs.Dk (h:Hs):List D:=h.ps.map h.encP
def Hs.enc (h:Hs):D:=.tup [.int h.yr,.tup h.Dk]
def Good:Int->List Stp->Prop
 | _,[]=>True
 | t,s::r=>t<=s.h/\1<=s.m/\Good (s.h + s.m) r
structure GoodH (h:Hs):Prop where
 yr:0 < h.yr
 len:h.n<=12
 inj:∀i j,i < h.n->j < h.n->(h.pl i).nm=(h.pl j).nm->i=j
 sea:∀i,i < h.n->(h.pl i).nm≠"sea"
 dn:∀k d,k < h.n->(h.pl k).dn=some d->k < d/\d < h.n
 dl:∀k,k < h.n->(h.pl k).dl<=5
 pump:∀k b r to dl m,k < h.n->(h.pl k).kd=.basin b r (some (to,dl,m))->to < h.n/\1<=dl/\dl<=5
 brim:∀k b r q,k < h.n->(h.pl k).kd=.basin b r q->0<=b/\∀s∈r,Good 0 s.2
 town:∀k a b,k < h.n->(h.pl k).kd=.town a b->0<=a/\0<=b
theorem Hs.Kp:h.Dk.length=h.n:=by simp [Hs.Dk,Hs.n]
theorem Hs.ZD9 (hk:k < h.n):h.Dk[k]? =some (h.encP (h.pl k)):=by unfold Hs.Dk Hs.pl;rw [zj,zZ hk];simp [zA,zZ hk]
theorem Hs.Ey (hk:k < h.n):atI h.Dk (k:Int)=some (h.encP (h.pl k)):=Eo rfl (Hs.ZD9 hk)
theorem Hs.ZM8 {n:Nat} :bel n (h.Nk q)=true:=by
 cases q with
 | none=>rfl
 | some x=>obtain ⟨a,b,c⟩:=x;simp [Hs.Nk]
@[simp] theorem Hs.ZNU {n:Nat} {p:Pl}:bel n (h.encP p)=true:=by
 unfold Hs.encP
 cases p.kd <;> simp [Hs.ZM8]
@[simp] theorem Hs.ZQv {n:Nat}:bels n h.Dk=true:=Gq λ_ _=>Hs.ZNU
section
variable {h:Hs} {p:Pl} {G:DH}
@[simp] theorem encP0:Aj (h.encP p) (.int 0) G=.ok (.str p.kd.txt) G:=by
 unfold Hs.encP
 cases p.kd <;> simp [Kd.txt]
@[simp] theorem encP1:Aj (h.encP p) (.int 1) G=.ok (.str p.nm) G:=by
 unfold Hs.encP
 cases p.kd <;> simp
@[simp] theorem encP2:Aj (h.encP p) (.int 2) G=.ok (.str (h.dnT p.dn)) G:=by
 unfold Hs.encP
 cases p.kd <;> simp
@[simp] theorem encP3:Aj (h.encP p) (.int 3) G=.ok (.int p.dl) G:=by
 unfold Hs.encP
 cases p.kd <;> simp
theorem Dp:Aj h.enc (.int 1) G=.ok (.tup h.Dk) G:=by unfold Hs.enc;simp
theorem ZIY:Aj h.enc (.int 0) G=.ok (.int h.yr) G:=by unfold Hs.enc;simp
theorem Iw {k:Kd}:(k.txt="basin")=(k.isB=true):=by cases k <;> simp [Kd.txt,Kd.isB] <;> decide
theorem Xl {k:Kd}:(k.txt="town")=(k.isT=true):=by cases k <;> simp [Kd.txt,Kd.isT] <;> decide
end
theorem ZEB (g:GoodH h) (hd:d < h.n) :∀(m k:Nat) (a b:Option D),k + m=d->
  Be (Bv 2 (Ao (gV 2) (Ao (gV 3) By))) Oe ((Eh h.Dk).drop k) [some h.enc,some (.str (h.pl d).nm),a,b] G=.rt (.int d) G
 | m,k,a,b,e=>by
  have hk:k < h.n:=by lia
  have e0:(Eh h.Dk).drop k=.tup [.int k,h.encP (h.pl k)]::(Eh h.Dk).drop (k + 1):=by rw [zM (by rw [Kh,Hs.Kp];exact hk)];have:=Hs.ZD9 hk;rw [zZ (by rw [Hs.Kp];exact hk)] at this;have e2:=Option.some.inj this;simp [Eh,e2]
  rw [e0,Cy];cases m with
  | zero=>
   have e1:k=d:=by lia
   subst e1;have hb:Oe [some h.enc,some (.str (h.pl k).nm),some (.int k),some (h.encP (h.pl k))] G=.rt (.int k) G:=by unfold Oe;simp
   simp [hb]
  | succ m=>
   have hne:(h.pl k).nm≠(h.pl d).nm:=λz=>by have:=g.inj k d hk hd z;lia
   have hb:Oe [some h.enc,some (.str (h.pl d).nm),some (.int k),some (h.encP (h.pl k))] G=.nx [some h.enc,some (.str (h.pl d).nm),some (.int k),some (h.encP (h.pl k))] G:=by unfold Oe;simp [hne]
   simp [hb];exact ZEB g hd m (k + 1) _ _ (by lia)
theorem ZFi (g:GoodH h) (hd:d < h.n) (G:DH):Rk [h.enc,.str (h.pl d).nm] G=.ok (.int d) G:=by have hL:=ZEB g hd (G:=G) d 0 none none (by lia);rw [jS] at hL;unfold Rk ZEk;rw [Br];simp [Dp,J8,K9,lenOf,hL,Ci]
def Hs.dn (h:Hs) (k:Nat):Option Nat:=(h.pl k).dn
theorem Nt (g:GoodH h) (hk:k < h.n) (G:DH):R9 [h.enc,.int k] G=.ok (dnD (h.dn k)) G:=by
 unfold R9 ZDD;rw [Br];cases hd:h.dn k with
 | none=>
  have e:(h.pl k).dn=none:=hd;simp [Dp,Hs.Ey hk,e,Hs.dnT,dnD,Ci]
 | some d=>
  have e:(h.pl k).dn=some d:=hd;have hl:=g.dn k d hk e;simp [Dp,Hs.Ey hk,e,Hs.dnT,g.sea d hl.2,ZFi g hl.2,dnD,Ci]
noncomputable def Hs.dir (h:Hs) (k:Nat):Option Nat:=match h.dn k with
 | none=>none
 | some d=>if 0 < (h.pl k).dl∨(h.pl k).kd.isB=true∨(h.pl d).kd.isB=true then none else some d
theorem O4 (g:GoodH h) (hk:k < h.n) (G:DH):S7 [h.enc,.int k] G=.ok (dnD (h.dir k)) G:=by
 unfold S7 ZEj;rw [Br];cases hd:h.dn k with
 | none=>simp [Dp,Nt g hk,hd,Hs.dir,dnD,Ci]
 | some d=>
  have hl:=g.dn k d hk hd;by_cases h1:0 < (h.pl k).dl
  ·simp [Dp,Nt g hk,hd,Hs.dir,dnD,Ci,Hs.Ey hk,h1]
  ·by_cases h2:(h.pl k).kd.isB=true
   ·simp [Dp,Nt g hk,hd,Hs.dir,dnD,Ci,Hs.Ey hk,h1,Iw,h2]
   ·by_cases h3:(h.pl d).kd.isB=true
    ·simp [Dp,Nt g hk,hd,Hs.dir,dnD,Ci,Hs.Ey hk,Hs.Ey hl.2,h1,Iw,h2,h3]
    ·simp [Dp,Nt g hk,hd,Hs.dir,dnD,Ci,Hs.Ey hk,Hs.Ey hl.2,h1,Iw,h2,h3]
theorem ZLy (g:GoodH h) (hk:k < h.n) (e:h.dir k=some d):k < d/\d < h.n:=by
 unfold Hs.dir at e;cases hd:h.dn k with
 | none=>rw [hd] at e;cases e
 | some d'=>
  rw [hd] at e;simp only at e;split at e
  ·cases e
  ·cases e;exact g.dn k d hk hd
theorem ZI5 (hk:¬k < h.n):h.pl k=ZB1:=by
 unfold Hs.pl;rw [zA,zk (by unfold Hs.n at hk;lia)]
 rfl
theorem Q8 (hk:¬k < h.n):h.dir k=none:=by
 have e:h.dn k=none:=by unfold Hs.dn;rw [ZI5 hk];rfl
 unfold Hs.dir;rw [e]
theorem M8 (g:GoodH h) (e:h.dir k=some d):k < d/\d < h.n/\k < h.n:=by
 by_cases hk:k < h.n
 ·have:=ZLy g hk e;lia
 ·rw [Q8 hk] at e;cases e
noncomputable def Hs.Jy (h:Hs):Nat->Nat->Nat
 | 0,k=>k
 | m + 1,k=>match h.dir k with
  | none=>k
  | some d=>h.Jy m d
def Hs.last (h:Hs) (k:Nat):Nat:=h.Jy h.n k
theorem Yu (g:GoodH h):∀(m m' k:Nat),h.n<=m + k->h.n<=m' + k->h.Jy m k=h.Jy m' k
 | 0,m',k,e,e'=>by
  have hn:h.dir k=none:=Q8 (by lia);cases m' with
  | zero=>rfl
  | succ m'=>simp [Hs.Jy,hn]
 | m + 1,0,k,e,e'=>by have hn:h.dir k=none:=Q8 (by lia);simp [Hs.Jy,hn]
 | m + 1,m' + 1,k,e,e'=>by
  cases hd:h.dir k with
  | none=>simp [Hs.Jy,hd]
  | some d=>
   have:=M8 g hd;simp [Hs.Jy,hd,Yu g m m' d (by lia) (by lia)]
theorem J1 (g:GoodH h) (e:h.dir k=none):h.last k=k:=by unfold Hs.last;rw [Yu g h.n (h.n + 1) k (by lia) (by lia)];simp [Hs.Jy,e]
theorem Mw (g:GoodH h) (e:h.dir k=some d):h.last k=h.last d:=by unfold Hs.last;rw [Yu g h.n (h.n + 1) k (by lia) (by lia)];simp [Hs.Jy,e]
theorem ZFJ (g:GoodH h):∀(m k:Nat),h.n<=m + k->k<=h.last k/\(k < h.n->h.last k < h.n)
 | 0,k,e=>by rw [J1 g (Q8 (by lia))];lia
 | m + 1,k,e=>by
  cases hd:h.dir k with
  | none=>rw [J1 g hd];lia
  | some d=>
   have:=M8 g hd;rw [Mw g hd];have:=ZFJ g m d (by lia);lia
theorem Jo (g:GoodH h) (k:Nat):k<=h.last k/\(k < h.n->h.last k < h.n):=ZFJ g h.n k (by lia)
def Hs.Hm (h:Hs) (j:Nat):Nat->Int:=λi=>if j<=i then h.last i else i
theorem ZIV (g:GoodH h) {G:DH}:∀(j:Nat) (x y:Option D),j<=h.n->∃x' y',
  Be (gV 2) Uj (Ks ((j:Int) - 1) j) [some h.enc,some (.ref G.length),x,y] (G++ [.lst (tab h.n (h.Hm j))])=.nx [some h.enc,some (.ref G.length),x',y'] (G++ [.lst (tab h.n (h.Hm 0))])
 | 0,x,y,e=>⟨x,y,by rw [ZMi,Dm]⟩
 | j + 1,x,y,e=>by
  have hj:j < h.n:=by lia
  obtain ⟨x',y',ih⟩:=ZIV g (G:=G) j (some (.int j)) (some (dnD (h.dir j))) (by lia);refine ⟨x',y',?_⟩;have e1:(((j + 1:Nat):Int) - 1)=j:=by lia
  have hb:Uj [some h.enc,some (.ref G.length),some (.int j),y] (G++ [.lst (tab h.n (h.Hm (j + 1)))])=.nx [some h.enc,some (.ref G.length),some (.int j),some (dnD (h.dir j))] (G++ [.lst (tab h.n (h.Hm j))]):=by
   unfold Uj;cases hd:h.dir j with
   | none=>
    have et:tab h.n (h.Hm (j + 1))=tab h.n (h.Hm j):=ZGF λi hi=>by
     unfold Hs.Hm;by_cases e2:i=j
     ·subst e2;rw [J1 g hd];simp
     ·by_cases e3:j<=i
      ·rw [if_pos e3,if_pos (by lia)]
      ·rw [if_neg e3,if_neg (by lia)]
    simp [O4 g hj,hd,dnD,et]
   | some d=>
    have hl:=M8 g hd;have et:tab h.n (fset (h.Hm (j + 1)) j (h.Hm (j + 1) d))=tab h.n (h.Hm j):=ZGF λi hi=>by
     unfold Hs.Hm fset;by_cases e2:i=j
     ·subst e2;rw [if_pos rfl,if_pos (by lia),if_pos (by lia),Mw g hd]
     ·rw [if_neg e2];dsimp only;by_cases e3:j<=i
      ·rw [if_pos e3,if_pos (by lia)]
      ·rw [if_neg e3,if_neg (by lia)]
    simp [O4 g hj,hd,dnD,Dy,Gi hl.2.1,Fl,Jf,hj,O3,et]
  rw [e1,ZPT,Cy];simp only [Do,R.Dj,zU,hb,Dv];exact ih
theorem ZOu (g:GoodH h) (G:DH):Vj [h.enc] G=.ok (.ref G.length) (G++ [.lst (tab h.n λi=>(h.last i:Int))]):=by
 obtain ⟨x',y',hL⟩:=ZIV g (G:=G) h.n none none (zK _);have e0:tab h.n (h.Hm h.n)=Bs 0 h.n:=by
  unfold tab Bs;refine qQ λi hi=> ?_
  have:=qW.mp hi;unfold Hs.Hm;rw [if_neg (by lia)];simp
 have e1:h.Hm 0=λi=>(h.last i:Int):=by funext i;unfold Hs.Hm;simp
 rw [e0,e1] at hL;have hn:=g.len;have r1:inR (h.n:Int):=Fq (by lia) (by lia);have r2:inR ((h.n:Int) - 1):=Fq (by lia) (by lia);have r3:inR (-1):=Fq (by lia) (by lia);have e2:((h.n:Int) - 1 - -1).toNat=h.n:=by lia
 have h6:(h.n:Int)<=1000000:=by lia
 have ebr:bels G.length (Bs 0 h.n)=true:=Gq λ_ _=>rfl
 unfold Vj ZHH;rw [Br];simp [Dp,Hs.Kp,r1,h6,Fo ebr,r2,r3,ZJe,e2,hL,Fo]
def Hs.mem (h:Hs) (m:Nat):List Nat:=(zX h.n).filter λk=>decide (h.last k=m)
theorem mem_iff:k∈h.mem m↔k < h.n/\h.last k=m:=by unfold Hs.mem;rw [List.mem_filter,qW];simp
theorem Xh:(h.mem m).Pairwise (· < ·):=List.Pairwise.filter _ List.pairwise_lt_range
theorem ZDy:(h.mem m).length<=h.n:=by have:=List.length_filter_le (λk=>decide (h.last k=m)) (zX h.n);simpa [Hs.mem] using this
theorem ZJP (hs:ms.Pairwise (· < ·)) (hi:i < ms.length) (hj:j < ms.length) (h:ms[i] < ms[j]):i < j:=by
 rcases Nat.lt_trichotomy i j with z | z | z
 ·exact z
 ·subst z;lia
 ·have:=jQ.mp hs j i hj hi z;lia
theorem ZEW (g:GoodH h) (hm:m < h.n) (e:h.last m=m):(h.mem m).getLast?=some m:=by
 have hmem:m∈h.mem m:=mem_iff.mpr ⟨hm,e⟩;have hne:h.mem m≠ []:=λz=>by rw [z] at hmem;cases hmem
 rw [List.getLast?_eq_some_getLast hne]
 congr 1
 have h1:=mem_iff.mp (List.getLast_mem hne);have h2:=(Jo g ((h.mem m).getLast hne)).1;obtain ⟨i,hi,ei⟩:=q8 hmem;have h3:m<=(h.mem m).getLast hne:=by
  rw [List.getLast_eq_getElem];by_cases e4:i=(h.mem m).length - 1
  ·subst e4;lia
  ·have:=jQ.mp (Xh (h:=h) (m:=m)) i ((h.mem m).length - 1) hi (by lia) (by lia);lia
 lia
def Hs.need (h:Hs) (k:Nat):Int:=match (h.pl k).kd with
 | .town a _=>a
 | _=>0
def Hs.rank (h:Hs) (k:Nat):Int:=match (h.pl k).kd with
 | .town _ b=>b
 | _=>0
noncomputable def Hs.row (h:Hs) (ms:List Nat) (ca:Nat->Int) (k:Nat):Row:=⟨(h.dir k).map λd=>ms.idxOf d,ca k,h.need k,h.rank k⟩
def Hs.rows (h:Hs) (ms:List Nat) (ca:Nat->Int):List Row:=ms.map (h.row ms ca)
theorem idx_map (d:Nat):∀ms:List Nat,(ms.map λ(i:Nat)=>(i:Int)).idxOf (d:Int)=ms.idxOf d
 | []=>rfl
 | m::ms=>by
  rw [zC,List.idxOf_cons,List.idxOf_cons,idx_map d ms];by_cases e:m=d
  ·subst e;simp
  ·have e2:¬((m:Int)=d):=by lia
   have b1:((m:Int) == (d:Int))=false:=by simp [e2]
   have b2:(m == d)=false:=by simp [e]
   rw [b1,b2]
theorem ZDN (g:GoodH h) (hm:∀k∈ms,k < h.n/\∀d,h.dir k=some d->d∈ms) (hl:ms.length<=40) {p:Nat} (hp:G[p]? =some (.lst (tab h.n ca))):∀(ks:List Nat) (acc:List Row) (x1 x2 x3 x4:Option D),(∀k∈ks,k∈ms)->acc.length + ks.length<=40->∃y1 y2 y3 y4,
  Be (gV 4) U7 (Bd ks) [some h.enc,some (.fl (Bd ms)),some (.ref p),some (.ref G.length),x1,x2,x3,x4] (G++ [.lst (acc.map Row.enc)])=
   .nx [some h.enc,some (.fl (Bd ms)),some (.ref p),some (.ref G.length),y1,y2,y3,y4] (G++ [.lst ((acc++ks.map (h.row ms ca)).map Row.enc)])
 | [],acc,x1,x2,x3,x4,_,_=>⟨x1,x2,x3,x4,by simp [Bd,Dm]⟩
 | k::ks,acc,x1,x2,x3,x4,hk,ha=>by
  obtain ⟨hkn,hkd⟩:=hm k (hk k zW);obtain ⟨y1,y2,y3,y4,ih⟩:=ZDN g hm hl hp ks (acc++ [h.row ms ca k]) (some (.int k)) (some (h.encP (h.pl k))) (some (dnD (h.dir k))) (some (dnD ((h.dir k).map λd=>ms.idxOf d))) (λj hj=>hk j (zJ _ hj)) (by simp at ha ⊢;lia);refine ⟨y1,y2,y3,y4,?_⟩;have hpl:p < G.length:=(zD.mp hp).1;have hgp:∀L:DH,(G++L)[p]? =some (.lst (tab h.n ca)):=λL=>by rw [zP hpl];exact hp
  have ha2:acc.length < 1000000:=by simp at ha;lia
  have ht:h.row ms ca k=⟨(h.dir k).map λd=>ms.idxOf d,ca k,h.need k,h.rank k⟩:=rfl;have hb:U7 [some h.enc,some (.fl (Bd ms)),some (.ref p),some (.ref G.length),some (.int k),x2,x3,x4] (G++ [.lst (acc.map Row.enc)])=
    .nx [some h.enc,some (.fl (Bd ms)),some (.ref p),some (.ref G.length),some (.int k),some (h.encP (h.pl k)),some (dnD (h.dir k)),some (dnD ((h.dir k).map λd=>ms.idxOf d))] (G++ [.lst ((acc++ [h.row ms ca k]).map Row.enc)]):=by
   have hix:∀d,h.dir k=some d->∀G',O6 (.fl (Bd ms)) [.int (d:Int)] G'=.ok (.int (ms.idxOf d:Nat)) G':=λd hd G'=>by
    have e:Bd ms=(ms.map λ(i:Nat)=>(i:Int)).map D.int:=by simp [Bd]
    rw [e,ZN6 (ns:=ms.map λ(i:Nat)=>(i:Int)) (by simp [Ip]) (zH.mpr ⟨d,hkd d hd,rfl⟩) (by simp;lia),idx_map]
   unfold U7;by_cases hT:(h.pl k).kd.isT=true
   ·obtain ⟨a,b,ek⟩:∃a b,(h.pl k).kd=.town a b:=by
     cases e:(h.pl k).kd with
     | town a b=>exact ⟨a,b,rfl⟩
     | basin _ _ _=>rw [e] at hT;cases hT
     | mill _=>rw [e] at hT;cases hT
    have e4:∀G',Aj (h.encP (h.pl k)) (.int 4) G'=.ok (.int a) G':=λG'=>by unfold Hs.encP;rw [ek];simp
    have e5:∀G',Aj (h.encP (h.pl k)) (.int 5) G'=.ok (.int b) G':=λG'=>by unfold Hs.encP;rw [ek];simp
    have en:h.need k=a:=by unfold Hs.need;rw [ek]
    have er:h.rank k=b:=by unfold Hs.rank;rw [ek]
    cases hd:h.dir k with
    | none=>simp [Dp,Hs.Ey hkn,O4 g hkn,hd,dnD,Xl,hT,hgp,Gi hkn,e4,e5,Bo,Dy,Fl,ha2,ht,Row.enc,en,er]
    | some d=>simp [Dp,Hs.Ey hkn,O4 g hkn,hd,dnD,hix d hd,Xl,hT,hgp,Gi hkn,e4,e5,Bo,Dy,Fl,ha2,ht,Row.enc,en,er]
   ·have en:h.need k=0:=by
     unfold Hs.need;cases e:(h.pl k).kd with
     | town a b=>rw [e] at hT;exact absurd rfl hT
     | basin _ _ _=>rfl
     | mill _=>rfl
    have er:h.rank k=0:=by
     unfold Hs.rank;cases e:(h.pl k).kd with
     | town a b=>rw [e] at hT;exact absurd rfl hT
     | basin _ _ _=>rfl
     | mill _=>rfl
    cases hd:h.dir k with
    | none=>simp [Dp,Hs.Ey hkn,O4 g hkn,hd,dnD,Xl,hT,hgp,Gi hkn,Bo,Dy,Fl,ha2,ht,Row.enc,en,er]
    | some d=>simp [Dp,Hs.Ey hkn,O4 g hkn,hd,dnD,hix d hd,Xl,hT,hgp,Gi hkn,Bo,Dy,Fl,ha2,ht,Row.enc,en,er]
  show Be _ _ (.int k::Bd ks) _ _=_;rw [Cy];simp only [Do,R.Dj,zU,hb,Dv];rw [ih];simp
theorem ZIe (g:GoodH h) (hm:∀k∈ms,k < h.n/\∀d,h.dir k=some d->d∈ms) (hl:ms.length<=40) {p:Nat} (hp:G[p]? =some (.lst (tab h.n ca))):
  V2 [h.enc,.fl (Bd ms),.ref p] G=.ok (.ref G.length) (G++ [.lst ((h.rows ms ca).map Row.enc)]):=by
 obtain ⟨y1,y2,y3,y4,hL⟩:=ZDN g hm hl hp ms [] none none none none (λk hk=>hk) (by simpa using hl);have hL':Be (gV 4) U7 (Bd ms) [some h.enc,some (.fl (Bd ms)),some (.ref p),some (.ref G.length),none,none,none,none] (G++ [.lst []])=.nx [some h.enc,some (.fl (Bd ms)),some (.ref p),some (.ref G.length),y1,y2,y3,y4] (G++ [.lst ((h.rows ms ca).map Row.enc)]):=hL;unfold V2 ZFD;rw [Br];simp [Aq,Fo,hL']
theorem Ox (g:GoodH h) (hc:∀k,k < h.n->0<=ca k):Reach (h.rows (h.mem m) ca):=λi r hr=>by
 have hil:i < (h.mem m).length:=by have:=(zD.mp hr).1;simpa [Hs.rows] using this
 have e:r=h.row (h.mem m) ca (h.mem m)[i]:=by unfold Hs.rows at hr;rw [zj,zZ hil] at hr;simpa using hr.symm
 obtain ⟨hk,hlast⟩:=mem_iff.mp (qJ hil);subst e;refine ⟨λd hd=> ?_,hc _ hk,?_,?_⟩
 ·have hd':(h.dir (h.mem m)[i]).map (λd=>(h.mem m).idxOf d)=some d:=hd;cases e:h.dir (h.mem m)[i] with
  | none=>rw [e] at hd';cases hd'
  | some d0=>
   rw [e] at hd';have ed:(h.mem m).idxOf d0=d:=by simpa using hd'
   have hl:=M8 g e;have hmem:d0∈h.mem m:=mem_iff.mpr ⟨hl.2.1,by rw [<-Mw g e];exact hlast⟩;have hlt:=qx hmem;have hg:(h.mem m)[(h.mem m).idxOf d0]=d0:=j7 hlt;subst ed;refine ⟨ZJP Xh hil hlt (by rw [hg];exact hl.1),by simpa [Hs.rows] using hlt⟩
 ·show 0<=h.need _;unfold Hs.need;cases e:(h.pl (h.mem m)[i]).kd with
  | town a b=>exact (g.town _ a b hk e).1
  | basin _ _ _=>exact zE _
  | mill _=>exact zE _
 ·show 0<=h.rank _;unfold Hs.rank;cases e:(h.pl (h.mem m)[i]).kd with
  | town a b=>exact (g.town _ a b hk e).2
  | basin _ _ _=>exact zE _
  | mill _=>exact zE _
structure Cs where
 came:Nat->Int
 coming:Nat->Nat->Int
 page:Nat->List Int
 rea:List D
variable {s s':Cs}
def Jh (l:List Int):D:=match l with
 | []=>.non
 | _=>.tup (l.map D.int)
@[simp] theorem ZNV {n:Nat} :bel n (Jh l)=true:=by
 cases l with
 | nil=>rfl
 | cons a l=>simp only [Jh,DL.bel];exact ZDg
noncomputable def cfl (ds:List D):List (Str×D):=(["house","levels","year_turn","came","coming","page","reaches"]:List Str).zip ds
noncomputable def cflds (i n:Nat) (H LV:D) (yt:Int):List (Str×D):=cfl [H,LV,.int yt,.ref (i + 1),.ref (i + (2 + n)),.ref (i + (3 + n)),.ref (i + (4 + n))]
def Cu (n:Nat) (pg:Nat->List Int):List D:=(zX n).map λk=>Jh (pg k)
def Ef (i n:Nat):List D:=(zX n).map λk=>D.ref (i + (2 + k))
noncomputable def csT (i n:Nat) (H LV:D) (yt:Int) (s:Cs):DH:=.ins "Course" (cflds i n H LV yt):: .lst (tab n s.came)::((zX n).map (λk=>DO.lst (tab 5 (s.coming k)))++ [.lst (Ef i n),.lst (Cu n s.page),.lst s.rea])
def csH (G:DH) (n:Nat) (H LV:D) (yt:Int) (s:Cs):DH:=G++csT G.length n H LV yt s
theorem ZL4 {n:Nat} {yt:Int} :(csT i n H LV yt s).length=n + 5:=by simp [csT]
theorem ZH3 {n:Nat} {yt:Int} :(csH G n H LV yt s).length=G.length + (n + 5):=by unfold csH;rw [qX,ZL4]
section
variable {G:DH} {n:Nat} {H LV:D} {yt:Int} {s:Cs}
theorem Qz (j:Nat):(csH G n H LV yt s)[G.length + j]? =(csT G.length n H LV yt s)[j]? :=Vx _ j
theorem Ku:(csH G n H LV yt s)[G.length]? =some (.ins "Course" (cflds G.length n H LV yt)):=Qz 0
theorem Td:(csH G n H LV yt s)[G.length + 1]? =some (.lst (tab n s.came)):=Qz 1
theorem Vn:(csT i n H LV yt s)[2 + j]? =((zX n).map (λk=>DO.lst (tab 5 (s.coming k)))++ [.lst (Ef i n),.lst (Cu n s.page),.lst s.rea])[j]? :=by
 have e:2 + j=j + 1 + 1:=by lia
 rw [e]
 rfl
theorem ZCF (hk:k < n):(csH G n H LV yt s)[G.length + (2 + k)]? =some (.lst (tab 5 (s.coming k))):=by
 rw [Qz,Vn,zP (by simpa using hk),zj,zI hk]
 rfl
theorem Xf:(csH G n H LV yt s)[G.length + (2 + n)]? =some (.lst (Ef G.length n)):=by rw [Qz,Vn,zG (by simp)];simp
theorem Lr:(csH G n H LV yt s)[G.length + (3 + n)]? =some (.lst (Cu n s.page)):=by
 have e:3 + n=2 + (n + 1):=by lia
 rw [e,Qz,Vn,zG (by simp)];simp
theorem csHe:(csH G n H LV yt s)[G.length + (4 + n)]? =some (.lst s.rea):=by
 have e:4 + n=2 + (n + 2):=by lia
 rw [e,Qz,Vn,zG (by simp)];simp
theorem Vc (j:Nat) (o:DO):(csH G n H LV yt s).set (G.length + j) o=G++(csT G.length n H LV yt s).set j o:=ZBd _ j o
theorem csS1:(csH G n H LV yt s).set (G.length + 1) (.lst (tab n ca))=csH G n H LV yt {s with came:=ca}:=Vc 1 _
def upd2 (co:Nat->Nat->Int) (k:Nat) (r:Nat->Int):Nat->Nat->Int:=λi=>if i=k then r else co i
theorem ZAD {o:DO}:(csT i n H LV yt s).set (2 + j) o=.ins "Course" (cflds i n H LV yt):: .lst (tab n s.came)::((zX n).map (λk=>DO.lst (tab 5 (s.coming k)))++ [DO.lst (Ef i n),DO.lst (Cu n s.page),DO.lst s.rea]).set j o:=by
 have e:2 + j=j + 1 + 1:=by lia
 rw [e]
 rfl
theorem csSr (hk:k < n) {r:Nat->Int}:(csH G n H LV yt s).set (G.length + (2 + k)) (.lst (tab 5 r))=csH G n H LV yt {s with coming:=upd2 s.coming k r}:=by
 rw [Vc,ZAD,List.set_append_left _ _ (by simpa using hk)];unfold csH csT
 congr 3
 congr 1
 refine qU λi=> ?_
 by_cases hi:i < n
 ·by_cases e:k=i
  ·subst e;rw [qL (by simpa using hi),zj,zI hi];simp [upd2]
  ·rw [qG e,zj,zI hi,zj,zI hi];have:i≠k:=λz=>e z.symm
   simp [upd2,this]
 ·rw [zk (by simp;lia),zk (by simp;lia)]
theorem Wq:(csH G n H LV yt s).set (G.length + (3 + n)) (.lst (Cu n pg))=csH G n H LV yt {s with page:=pg}:=by
 have e:3 + n=2 + (n + 1):=by lia
 rw [e,Vc,ZAD,jE _ _ (by simp)];unfold csH csT;simp
theorem csSe {re:List D}:(csH G n H LV yt s).set (G.length + (4 + n)) (.lst re)=csH G n H LV yt {s with rea:=re}:=by
 have e:4 + n=2 + (n + 2):=by lia
 rw [e,Vc,ZAD,jE _ _ (by simp)];unfold csH csT;simp
theorem Ko:Jt "Course" "house" (.ref G.length) (csH G n H LV yt s)=.ok H (csH G n H LV yt s):=N8 Ku rfl
theorem ZDv:Jt "Course" "levels" (.ref G.length) (csH G n H LV yt s)=.ok LV (csH G n H LV yt s):=N8 Ku rfl
theorem ZEU:Jt "Course" "year_turn" (.ref G.length) (csH G n H LV yt s)=.ok (.int yt) (csH G n H LV yt s):=N8 Ku rfl
theorem Ur:Jt "Course" "came" (.ref G.length) (csH G n H LV yt s)=.ok (.ref (G.length + 1)) (csH G n H LV yt s):=N8 Ku rfl
theorem ZDl:Jt "Course" "coming" (.ref G.length) (csH G n H LV yt s)=.ok (.ref (G.length + (2 + n))) (csH G n H LV yt s):=N8 Ku rfl
theorem Oj:Jt "Course" "page" (.ref G.length) (csH G n H LV yt s)=.ok (.ref (G.length + (3 + n))) (csH G n H LV yt s):=N8 Ku rfl
theorem ZMs:Jt "Course" "reaches" (.ref G.length) (csH G n H LV yt s)=.ok (.ref (G.length + (4 + n))) (csH G n H LV yt s):=N8 Ku rfl
theorem Ke {m:Str} {F:List D->DH->R D} {t:DA} (hm:∀i,(cflds i n H LV yt).lookup m=none):Xi "Course" m F t S (.ref G.length) (csH G n H LV yt s)=(t S (csH G n H LV yt s)).bind λds G2=>F (.ref G.length::ds) G2:=ZLY Ku (hm _)
theorem ZDX:∀i,(cflds i n H LV yt).lookup ("send":Str)=none:=λ_=>rfl
theorem ZCb:∀i,(cflds i n H LV yt).lookup ("send_down":Str)=none:=λ_=>rfl
theorem ZPf:∀i,(cflds i n H LV yt).lookup ("go_basin":Str)=none:=λ_=>rfl
theorem ZI1:∀i,(cflds i n H LV yt).lookup ("go_reach":Str)=none:=λ_=>rfl
theorem ZJS:∀i,(cflds i n H LV yt).lookup ("go":Str)=none:=λ_=>rfl
theorem ZJT:∀i,(cflds i n H LV yt).lookup ("state_behind":Str)=none:=λ_=>rfl
theorem Ln {d:D} (hb:∀m,bel m d=true):tidy (csH G n H LV yt s) (.ok d (csH G n H LV yt s'))=.ok d (csH G n H LV yt s'):=ZPI (by rw [ZH3,ZH3]) (hb _)
theorem ZLz (hk:k < n):atI (Ef i n) (k:Int)=some (.ref (i + (2 + k))):=Eo rfl (by unfold Ef;rw [zj,zI hk];rfl)
theorem ZKK:(Cu n pg).set k (Jh l)=Cu n λi=>if i=k then l else pg i:=by
 unfold Cu;refine qU λi=> ?_
 by_cases hi:i < n
 ·by_cases e:k=i
  ·subst e;rw [qL (by simpa using hi),zj,zI hi];simp
  ·rw [qG e,zj,zI hi,zj,zI hi];have:i≠k:=λz=>e z.symm
   simp [this]
 ·rw [zk (by simp;lia),zk (by simp;lia)]
@[simp] theorem Xw:(Cu n pg).length=n:=by simp [Cu]
noncomputable def Cs.send (s:Cs) (to dl:Nat) (c:Int):Cs:=if dl=0 then {s with came:=fset s.came to (s.came to + c)} else {s with coming:=upd2 s.coming to (fset (s.coming to) (dl - 1) (s.coming to (dl - 1) + c))}
theorem ZDG (ht:to < n) (hd:dl<=5):R4 [.ref G.length,.int to,.int dl,.int c] (csH G n H LV yt s)=.ok .non (csH G n H LV yt (s.send to dl c)):=by
 unfold R4 ZGq;rw [Br];by_cases h0:dl=0
 ·subst h0;simp [Ur,Wj Td (Gi ht),Td,Jf,ht,O3,csS1,Cs.send,Ln]
 ·have e:((dl:Int) - 1)=((dl - 1:Nat):Int):=by lia
  have h1:dl - 1 < 5:=by lia
  simp [h0,ZDl,Xf,ZLz ht,e,Wj (ZCF ht) (Gi h1),ZCF ht,Jf,h1,O3,csSr ht,Cs.send,Ln]
end
noncomputable def Hs.Ge (h:Hs) (s:Cs) (k:Nat) (c:Int):Cs:=match h.dn k with
 | none=>s
 | some d=>s.send d (h.pl k).dl c
section
variable {G:DH} {h:Hs} {lv:Nat->Int} {yt:Int} {s:Cs}
theorem Z4 (g:GoodH h) (hk:k < h.n) :R8 [.ref G.length,.int k,.int c] (csH G h.n h.enc LV yt s)=.ok .non (csH G h.n h.enc LV yt (h.Ge s k c)):=by
 unfold R8 ZD2;rw [Br];cases hd:h.dn k with
 | none=>simp [Ko,Nt g hk,hd,dnD,Hs.Ge,Ln]
 | some d=>
  have hl:=g.dn k d hk hd;simp [Ko,Nt g hk,hd,dnD,Ke ZDX,Dp,Hs.Ey hk,ZDG hl.2 (g.dl k hk),Hs.Ge,Ln]
theorem Vg {n:Nat} {b d e f:Int}:(Cu n pg).set k (.tup [.int a,.int b,.int c,.int d,.int e,.int f])=Cu n λi=>if i=k then [a,b,c,d,e,f] else pg i:=ZKK (l:= [a,b,c,d,e,f])
noncomputable def Hs.basin (h:Hs) (yt:Int) (lv:Nat->Int) (s:Cs) (k:Nat):Cs:=match (h.pl k).kd with
 | .basin brim rule pump=>
  let w:=lv k + s.came k;let st:=held yt rule [];let stays:=w - rv w st - pm w st;let lies:=min stays brim;let s1:Cs:={s with page:=λi=>if i=k then [s.came k,0,stays - lies,rv w st,pm w st,lies] else s.page i};let s2:=h.Ge s1 k (rv w st + (stays - lies))
  match pump with
  | none=>s2
  | some (to,dl,_)=>s2.send to dl (pm w st)
 | _=>s
theorem ZPy (g:GoodH h) (hk:k < h.n) (hB:(h.pl k).kd.isB=true):Uy [.ref G.length,.int k] (csH G h.n h.enc (.tup (tab h.n lv)) yt s)=.ok .non (csH G h.n h.enc (.tup (tab h.n lv)) yt (h.basin yt lv s k)):=by
 obtain ⟨brim,rule,pump,ek⟩:∃a b c,(h.pl k).kd=.basin a b c:=by
  cases e:(h.pl k).kd with
  | basin a b c=>exact ⟨a,b,c,rfl⟩
  | town _ _=>rw [e] at hB;cases hB
  | mill _=>rw [e] at hB;cases hB
 have e4:∀G',Aj (h.encP (h.pl k)) (.int 4) G'=.ok (.int brim) G':=λG'=>by unfold Hs.encP;rw [ek];simp
 have e5:∀G',Aj (h.encP (h.pl k)) (.int 5) G'=.ok (.tup (rule.map Dh)) G':=λG'=>by unfold Hs.encP;rw [ek];simp
 have e6:∀G',Aj (h.encP (h.pl k)) (.int 6) G'=.ok (h.Nk pump) G':=λG'=>by unfold Hs.encP;rw [ek];simp
 simp only [Hs.basin,ek];unfold Uy ZGp;rw [Br];cases hp:pump with
 | none=>simp [Ko,Dp,Hs.Ey hk,Ur,Td,Gi hk,e5,ZEU,c_at,ZDv,ZD0,e4,Bo,Oj,Lr,Jf,hk,Vg,Wq,Ke ZCb,Z4 g hk,e6,hp,Hs.Nk,Ln]
 | some q=>
  obtain ⟨to,dl,mo⟩:=q;have hl:=g.pump k brim rule to dl mo hk (by rw [ek,hp]);simp [Ko,Dp,Hs.Ey hk,Ur,Td,Gi hk,e5,ZEU,c_at,ZDv,ZD0,e4,Bo,Oj,Lr,Jf,hk,Vg,Wq,Ke ZCb,Z4 g hk,e6,hp,Hs.Nk,Ke ZDX,ZFi g hl.1,ZDG hl.1 hl.2.2,Ln]
end
noncomputable def z3 (ms:List Nat) (T L:Nat->Int):List D:=(zX ms.length).map λi=>D.tup [.int (ms.getD i 0:Nat),.int (T i),.int (L i)]
theorem ZPV {L:Nat->Int} (j:Nat) (G:DH):Hv [.fl (Bd ms),.fl (tab ms.length T),.fl (tab ms.length L)] j G=some (z3 ms T L)[j]? :=by
 unfold Hv z3;by_cases hj:j < ms.length
 ·have e1:(Bd ms)[j]? =some (.int (ms.getD j 0:Nat)):=by unfold Bd;rw [zj,zZ hj];simp [zA,zZ hj]
  simp [Hy,e1,Li hj,zI hj]
 ·have e1:(Bd ms)[j]? =none:=zk (by simp;lia);have e2:(zX ms.length)[j]? =none:=zk (by simp;lia);simp [Hy,e1,e2]
def rrow (T L:Nat->Int) (i:Nat):List Int:= [T i + L i,T i,0,L i,0,0]
noncomputable def pgM (ms:List Nat) (T L:Nat->Int) (pg:Nat->List Int) (i:Nat):Nat->List Int:=λk=>if k∈ms.take i then rrow T L (ms.idxOf k) else pg k
theorem ZK4 {L:Nat->Int} :pgM ms T L pg 0=pg:=by funext k;simp [pgM]
theorem ZGO (nd:ms.Nodup) (hi:i < ms.length) (hj:j < ms.length) (e:ms[i]=ms[j]):i=j:=by
 rcases Nat.lt_trichotomy i j with z | z | z
 ·exact absurd e (jQ.mp nd i j hi hj z)
 ·exact z
 ·exact absurd e.symm (jQ.mp nd j i hj hi z)
theorem ZEO (nd:ms.Nodup) (hi:i < ms.length):ms.idxOf ms[i]=i:=by have hl:=qx (qJ hi);exact ZGO nd hl hi (j7 hl)
theorem ZL8 (nd:ms.Nodup) {L:Nat->Int} (hi:i < ms.length):pgM ms T L pg (i + 1)=λk=>if k=ms.getD i 0 then rrow T L i else pgM ms T L pg i k:=by
 have eg:ms.getD i 0=ms[i]:=by simp [zA,zZ hi]
 funext k;rw [eg];unfold pgM;rw [List.take_succ_eq_append_getElem hi];by_cases e:k=ms[i]
 ·subst e;rw [if_pos rfl,if_pos (j2.mpr (.inr (qk.mpr rfl))),ZEO nd hi]
 ·rw [if_neg e];have:(k∈ms.take i++ [ms[i]])↔k∈ms.take i:=by rw [j2,qk];exact ⟨λh=>h.elim id λz=>absurd z e,.inl⟩
  simp only [this]
section
variable {G:DH} {h:Hs} {LV:D} {yt:Int}
theorem ZFM (g:GoodH h) (hms:∀k∈ms,k < h.n) (nd:ms.Nodup) (hlast:ms.getLast?=some m) {T L:Nat->Int} {s:Cs} {r t:D}:∀(q i:Nat) (x y z:Option D),i + q=ms.length->0 < q->∃x' y' z',
  Be (Bv 3 (Ao (gV 4) (Ao (gV 5) (Ao (gV 6) By)))) Lk ((z3 ms T L).drop i) [some (.ref G.length),some (.fl (Bd ms)),some r,some t,x,y,z] (csH G h.n h.enc LV yt {s with page:=pgM ms T L s.page i})=
   .nx [some (.ref G.length),some (.fl (Bd ms)),some r,some t,x',y',z'] (csH G h.n h.enc LV yt (h.Ge {s with page:=pgM ms T L s.page ms.length} m (L (ms.length - 1))))
 | 0,i,x,y,z,e,h0=>by lia
 | q + 1,i,x,y,z,e,h0=>by
  have hi:i < ms.length:=by lia
  have eg:ms.getD i 0=ms[i]:=by simp [zA,zZ hi]
  have hk:ms.getD i 0 < h.n:=by rw [eg];exact hms _ (qJ hi)
  have hmn:m < h.n:=hms m (List.mem_of_getLast? hlast);have e0:(z3 ms T L).drop i=.tup [.int (ms.getD i 0:Nat),.int (T i),.int (L i)]::(z3 ms T L).drop (i + 1):=by rw [zM (by simp [z3];exact hi)];simp [z3]
  have hneg:atI (Bd ms) (-1)=some (.int (m:Nat)):=by
   have hl:0 < ms.length:=by lia
   rw [ZP7 (by decide) (by simp;lia)]
   congr 1
   have e3:((-1:Int) + ((Bd ms).length:Int)).toNat=ms.length - 1:=by simp;lia
   simp only [e3];unfold Bd;rw [List.getElem_map];have e4:ms[ms.length - 1]'(by lia)=m:=by have:=jZ (l:=ms);rw [hlast,zZ (by lia)] at this;exact (Option.some.inj this).symm
   rw [e4]
  have hpg:(λk=>if k=ms.getD i 0 then [T i + L i,T i,0,L i,0,0] else pgM ms T L s.page i k)=pgM ms T L s.page (i + 1):=(ZL8 nd hi).symm;rw [e0,Cy];cases q with
  | zero=>
   have ei:i=ms.length - 1:=by lia
   have em:ms.getD i 0=m:=by have:=jZ (l:=ms);rw [hlast,zZ (by lia)] at this;rw [eg];subst ei;exact (Option.some.inj this).symm
   have hb:Lk [some (.ref G.length),some (.fl (Bd ms)),some r,some t,some (.int (ms.getD i 0:Nat)),some (.int (T i)),some (.int (L i))] (csH G h.n h.enc LV yt {s with page:=pgM ms T L s.page i})=
     .nx [some (.ref G.length),some (.fl (Bd ms)),some r,some t,some (.int (ms.getD i 0:Nat)),some (.int (T i)),some (.int (L i))] (csH G h.n h.enc LV yt (h.Ge {s with page:=pgM ms T L s.page ms.length} m (L (ms.length - 1)))):=by
    have e5:i + 1=ms.length:=by lia
    rw [e5] at hpg;unfold Lk;simp only [em] at hk hpg ⊢;simp [Bo,Oj,Lr,Jf,hk,Vg,hpg,Wq,hneg,Ke ZCb,Z4 g hmn,<-ei]
   refine ⟨some (.int (ms.getD i 0:Nat)),some (.int (T i)),some (.int (L i)),?_⟩;rw [zO (by simp [z3];lia)];simp only [Sv,Tg,Sd,Do,R.K8,R.Dj,zU,hb,Dv,qZ,j5,Nat.reduceAdd,if_true,Dm]
  | succ q=>
   have hne:ms.getD i 0≠m:=λz=>by have h1:=jZ (l:=ms);rw [hlast,zZ (by lia)] at h1;have h2:=Option.some.inj h1;rw [eg,h2] at z;have:=ZGO nd hi (by lia) z;lia
   have hne':¬((ms.getD i 0:Nat):Int)=(m:Int):=by lia
   have hb:Lk [some (.ref G.length),some (.fl (Bd ms)),some r,some t,some (.int (ms.getD i 0:Nat)),some (.int (T i)),some (.int (L i))] (csH G h.n h.enc LV yt {s with page:=pgM ms T L s.page i})=
     .nx [some (.ref G.length),some (.fl (Bd ms)),some r,some t,some (.int (ms.getD i 0:Nat)),some (.int (T i)),some (.int (L i))] (csH G h.n h.enc LV yt {s with page:=pgM ms T L s.page (i + 1)}):=by
    unfold Lk;generalize ms.getD i 0=a at hk hpg hne';simp [Bo,Oj,Lr,Jf,hk,Vg,hpg,Wq,hneg,hne']
   obtain ⟨x',y',z',ih⟩:=ZFM g hms nd hlast (T:=T) (L:=L) (s:=s) (r:=r) (t:=t) (q + 1) (i + 1) (some (.int (ms.getD i 0:Nat))) (some (.int (T i))) (some (.int (L i))) (by lia) (by lia);refine ⟨x',y',z',?_⟩;simp only [Sv,Tg,Sd,Do,R.K8,R.Dj,zU,hb,Dv,qZ,j5,Nat.reduceAdd,if_true];exact ih
def Hs.Ij (h:Hs) (s:Cs) (m:Nat):Nat->Int:=shr (h.rows (h.mem m) s.came)
noncomputable def Hs.Hn (h:Hs) (s:Cs) (m:Nat):Nat->Int:=gath (h.rows (h.mem m) s.came) λi=>col Row.water (h.rows (h.mem m) s.came) i - h.Ij s m i
noncomputable def Hs.reach (h:Hs) (s:Cs) (m:Nat):Cs:=
 let s1:=h.Ge {s with page:=pgM (h.mem m) (h.Ij s m) (h.Hn s m) s.page (h.mem m).length} m (h.Hn s m ((h.mem m).length - 1))
 {s1 with rea:=s1.rea++ [.tup [.fl (Bd (h.mem m)),.fl ((h.rows (h.mem m) s.came).map Row.enc)]]}
theorem Vz {n:Nat} (hb:∀m,bels m ds=true):freeze (csH G n H LV yt s) (.ok (.ref (csH G n H LV yt s).length) (csH G n H LV yt s++ [.lst ds]))=.ok (.fl ds) (csH G n H LV yt s):=Ga (hb _)
theorem Jj:(h.rows ms ca).length=ms.length:=by simp [Hs.rows]
theorem ZKE (g:GoodH h) (hm:m < h.n) (hl:h.last m=m) (hc:∀k,k < h.n->0<=s.came k) (hre:s.rea.length<=100):Ug [.ref G.length,.fl (Bd (h.mem m))] (csH G h.n h.enc LV yt s)=.ok .non (csH G h.n h.enc LV yt (h.reach s m)):=by
 have hR:=Ox g (m:=m) hc;have hlen:(h.rows (h.mem m) s.came).length<=40:=by have:=ZDy (h:=h) (m:=m);have:=g.len;rw [Jj];lia
 have hmem:m∈h.mem m:=mem_iff.mpr ⟨hm,hl⟩;have hpos:0 < (h.mem m).length:=j9 hmem;have nd:(h.mem m).Nodup:=(Xh (h:=h) (m:=m)).imp λhab=>zB hab
 have cr:=ZIe g (ms:=h.mem m) (λk hk=>⟨(mem_iff.mp hk).1,λd hd=>by have h1:=mem_iff.mp hk;have h2:=M8 g hd;exact mem_iff.mpr ⟨h2.2.1,by rw [<-Mw g hd];exact h1.2⟩⟩) (by rw [<-Jj (h:=h) (ca:=s.came)];exact hlen) (p:=G.length + 1) (ca:=s.came) (G:=csH G h.n h.enc LV yt s) Td
 have cs:=ZJB hR hlen (csH G h.n h.enc LV yt s);have cp:=ZED hR hlen (t:=.fl (tab (h.rows (h.mem m) s.came).length (shr (h.rows (h.mem m) s.came)))) (T:=shr (h.rows (h.mem m) s.came)) (G:=csH G h.n h.enc LV yt s) rfl;rw [Jj] at cs cp;obtain ⟨x',y',z',hL⟩:=ZFM (G:=G) (LV:=LV) (yt:=yt) g (ms:=h.mem m) (λk hk=>(mem_iff.mp hk).1) nd (ZEW g hm hl) (T:=h.Ij s m) (L:=h.Hn s m) (s:=s) (r:=.fl ((h.rows (h.mem m) s.came).map Row.enc)) (t:=.fl (tab (h.mem m).length (h.Ij s m))) (h.mem m).length 0 none none none (by lia) hpos
 rw [ZK4,jS] at hL;have hz:∀S G',Em (Hv [.fl (Bd (h.mem m)),.fl (tab (h.mem m).length (h.Ij s m)),.fl (tab (h.mem m).length (h.Hn s m))]) (Bv 3 (Ao (gV 4) (Ao (gV 5) (Ao (gV 6) By)))) Lk (h.mem m).length 0 S G'=Be (Bv 3 (Ao (gV 4) (Ao (gV 5) (Ao (gV 6) By)))) Lk (z3 (h.mem m) (h.Ij s m) (h.Hn s m)) S G':=λS G'=>Tr ZPV (by simp [z3])
 have eT:shr (h.rows (h.mem m) s.came)=h.Ij s m:=rfl;have eL:gath (h.rows (h.mem m) s.came) (λi=>col Row.water (h.rows (h.mem m) s.came) i - h.Ij s m i)=h.Hn s m:=rfl;rw [eT] at cs cp;rw [eL] at cp;have hre2:∀s':Cs,s'.rea=s.rea->s'.rea.length < 1000000:=λs' e=>by rw [e];lia
 have ers:∀s':Cs,∀k c,(h.Ge s' k c).rea=s'.rea:=λs' k c=>by
  unfold Hs.Ge;cases h.dn k with
  | none=>rfl
  | some d=>simp only [Cs.send];split <;> rfl
 have el1:=hre2 _ (ers {s with page:=pgM (h.mem m) (h.Ij s m) (h.Hn s m) s.page (h.mem m).length} m (h.Hn s m ((h.mem m).length - 1)));simp only [Hs.reach];generalize h.Ge {s with page:=pgM (h.mem m) (h.Ij s m) (h.Hn s m) s.page (h.mem m).length} m (h.Hn s m ((h.mem m).length - 1))=s1 at hL el1;have hS:{s with page:=s.page}=s:=rfl;have ht:∀G',tidy G' (.ok (.tup [.fl (Bd (h.mem m)),.fl ((h.rows (h.mem m) s.came).map Row.enc)]) G')=.ok (.tup [.fl (Bd (h.mem m)),.fl ((h.rows (h.mem m) s.came).map Row.enc)]) G':=λG'=>Ci (by simp)
 unfold Ug ZIM;rw [Br];simp [Ko,Ur,cr,Vz,cs,cp,J0,K9,lenOf,hz,hL,Bo,ht,ZMs,csHe,el1,csSe,Ln]
end
def Cs.NN (n:Nat) (s:Cs):Prop:=(∀k,k < n->0<=s.came k)/\∀k j,k < n->j < 5->0<=s.coming k j
theorem Cs.NN.send {n:Nat} (h:s.NN n) (hc:0<=c):(s.send to dl c).NN n:=by
 unfold Cs.send;split
 ·refine ⟨λk hk=> ?_,h.2⟩;simp only [fset];split
  ·rename_i e;subst e;have:=h.1 k hk;lia
  ·exact h.1 k hk
 ·refine ⟨h.1,λk j hk hj=> ?_⟩;simp only [upd2];split
  ·rename_i e;subst e;simp only [fset];split
   ·rename_i e2;subst e2;have:=h.2 k _ hk hj;lia
   ·exact h.2 k j hk hj
  ·exact h.2 k j hk hj
theorem Cs.NN.down {n:Nat} (h:s.NN n) {hs:Hs} (hc:0<=c):(hs.Ge s k c).NN n:=by
 unfold Hs.Ge;cases hs.dn k with
 | none=>exact h
 | some d=>exact h.send hc
theorem ZEe {s:Stp}:0<=cub w s:=by unfold cub;lia
theorem ZAt {w:Int}:∀{st:List Stp},0<=rv w st
 | []=>zE _
 | s::r=>by
  have h1:=ZAt (w:=w) (st:=r);have h2:=ZEe (w:=w) (s:=s);unfold rv
  split <;> lia
theorem ZAO {w:Int}:∀{st:List Stp},0<=pm w st
 | []=>zE _
 | s::r=>by
  have h1:=ZAO (w:=w) (st:=r);have h2:=ZEe (w:=w) (s:=s);unfold pm
  split <;> lia
theorem Cs.NN.page {n:Nat} (h:s.NN n) :({s with page:=pg}:Cs).NN n:=h
theorem X3:(s.send to dl c).rea=s.rea/\(s.send to dl c).page=s.page:=by
 unfold Cs.send
 split <;> exact ⟨rfl,rfl⟩
theorem M3:(h.Ge s k c).rea=s.rea/\(h.Ge s k c).page=s.page:=by
 unfold Hs.Ge;cases h.dn k with
 | none=>exact ⟨rfl,rfl⟩
 | some d=>exact X3
section
variable {h:Hs} {yt:Int} {lv:Nat->Int} {s:Cs}
theorem ZPK (hs:s.NN h.n):(h.basin yt lv s k).NN h.n:=by
 unfold Hs.basin;cases (h.pl k).kd with
 | basin brim rule pump=>
  simp only;have a1:=ZAt (w:=lv k + s.came k) (st:=held yt rule []);have a2:=ZAO (w:=lv k + s.came k) (st:=held yt rule []);cases pump with
  | none=>exact hs.page.down (by lia)
  | some q=>
   obtain ⟨to,dl,mo⟩:=q;exact Cs.NN.send (hs.page.down (by lia)) a2
 | town _ _=>exact hs
 | mill _=>exact hs
theorem ZN2:(h.basin yt lv s k).rea=s.rea:=by
 unfold Hs.basin;cases (h.pl k).kd with
 | basin brim rule pump=>
  simp only;cases pump with
  | none=>rw [M3.1]
  | some q=>obtain ⟨to,dl,mo⟩:=q;simp only;rw [X3.1,M3.1]
 | town _ _=>rfl
 | mill _=>rfl
theorem ZA1 (hB:(h.pl k).kd.isB=true):((h.basin yt lv s k).page k).length=6/\∀i,i≠k->(h.basin yt lv s k).page i=s.page i:=by
 unfold Hs.basin;cases e:(h.pl k).kd with
 | basin brim rule pump=>
  simp only;cases pump with
  | none=>
   simp only;rw [M3.2];exact ⟨by simp,λi hi=>by simp [hi]⟩
  | some q=>
   obtain ⟨to,dl,mo⟩:=q;simp only;rw [X3.2,M3.2];exact ⟨by simp,λi hi=>by simp [hi]⟩
 | town _ _=>rw [e] at hB;cases hB
 | mill _=>rw [e] at hB;cases hB
theorem ZK0 (g:GoodH h) (hs:s.NN h.n) (hi:i < (h.mem m).length):0<=h.Hn s m i:=by have hR:=Ox g (m:=m) hs.1;have hsi:=X6 hR;have:=hsi.p0 i (by rw [Jj];exact hi);rw [hsi.pg] at this;exact this
theorem ZJR (g:GoodH h) (hm:m < h.n) (hl:h.last m=m) (hs:s.NN h.n):(h.reach s m).NN h.n:=by have hpos:0 < (h.mem m).length:=j9 (mem_iff.mpr ⟨hm,hl⟩);unfold Hs.reach;exact Cs.NN.down (s:={s with page:=pgM (h.mem m) (h.Ij s m) (h.Hn s m) s.page (h.mem m).length}) hs.page (ZK0 g hs (by lia))
theorem ZKt:(h.reach s m).rea.length=s.rea.length + 1:=by unfold Hs.reach;simp only [qX,jk];rw [M3.1]
theorem ZAi:(h.reach s m).page k=if k∈h.mem m then rrow (h.Ij s m) (h.Hn s m) ((h.mem m).idxOf k) else s.page k:=by unfold Hs.reach;simp only;rw [M3.2];unfold pgM;rw [List.take_of_length_le (zK _)]
noncomputable def Hs.step (h:Hs) (yt:Int) (lv:Nat->Int) (s:Cs) (k:Nat):Cs:=if (h.pl k).kd.isB=true then h.basin yt lv s k else if h.last k=k then h.reach s k else s
noncomputable def Hs.goF (h:Hs) (yt:Int) (lv:Nat->Int):Nat->Nat->Cs->Cs
 | 0,_,s=>s
 | m + 1,k,s=>h.goF yt lv m (k + 1) (h.step yt lv s k)
theorem ZES (g:GoodH h) (hk:k < h.n) (hs:s.NN h.n):(h.step yt lv s k).NN h.n:=by
 unfold Hs.step;split
 ·exact ZPK hs
 ·split
  ·rename_i e;exact ZJR g hk e hs
  ·exact hs
theorem ZLx:(h.step yt lv s k).rea.length<=s.rea.length + 1:=by
 unfold Hs.step;split
 ·rw [ZN2];lia
 ·split
  ·rw [ZKt];lia
  ·lia
end
section
variable {G:DH} {h:Hs} {yt:Int} {lv:Nat->Int}
theorem Vy {β:Type} {f f':α->Option β}:∀{l:List α},(∀x∈l,f x=f' x)->l.filterMap f=l.filterMap f'
 | [],_=>rfl
 | x::l,hl=>by rw [qY,qY,hl x zW,Vy λy hy=>hl y (zJ _ hy)]
theorem ZL1 (hS:Bh 2 [2] S= [none,none,some (.int k)]) (G:DH):Ed (Eu 0 (.fl (tab h.n λi=>(h.last i:Int)))) (Bv 2 (Ao (gV 0) (Ao (gV 1) By))) Uc Ws (Bh 2 [2] S) h.n 0 G=.ok (Bd (h.mem k)) G:=by
 have he:Eh (tab h.n λi=>(h.last i:Int))=(zX h.n).map λ(i:Nat)=>D.tup [.int (i:Int),.int (h.last i:Int)]:=by refine qF (by simp [Eh]) λi h1 h2=>by simp [Eh,tab]
 rw [Ux (F:=λd=>match d with | .tup [.int i,.int e]=>if e=(k:Int) then some (.int i) else none | _=>none) (λj=>Xg j G) (λx hx=> ?_) (by rw [Kh];simp)]
 ·congr 1
  rw [he,qV];unfold Hs.mem Bd;rw [<-List.filterMap_eq_filter,List.map_filterMap];refine Vy λi _=> ?_
  by_cases e:h.last i=k
  ·subst e;simp [Option.guard]
  ·have e2:¬((h.last i:Int)=(k:Int)):=by lia
   simp [Option.guard,e,e2]
 ·rw [he] at hx;obtain ⟨i,_,rfl⟩:=zH.mp hx;refine ⟨[some (.int i),some (.int (h.last i:Int)),some (.int k)],by rw [hS];simp,?_⟩;by_cases e:h.last i=k
  ·refine .inr ⟨by unfold Uc;simp [e],.int i,by unfold Ws;simp,by simp [e]⟩
  ·have e2:¬((h.last i:Int)=(k:Int)):=by lia
   exact .inl ⟨by unfold Uc;simp [e2],by simp [e2]⟩
theorem ZEK (g:GoodH h):∀(m k:Nat) (s:Cs) (x y:Option D),k + m=h.n->s.NN h.n->s.rea.length<=k->∃x' y',
  Be (Bv 2 (Ao (gV 2) (Ao (gV 3) By))) O5 ((Eh (tab h.n λi=>(h.last i:Int))).drop k) [some (.ref G.length),some (.fl (tab h.n λi=>(h.last i:Int))),x,y] (csH G h.n h.enc (.tup (tab h.n lv)) yt s)=
   .nx [some (.ref G.length),some (.fl (tab h.n λi=>(h.last i:Int))),x',y'] (csH G h.n h.enc (.tup (tab h.n lv)) yt (h.goF yt lv m k s))
 | 0,k,s,x,y,e,_,_=>⟨x,y,by rw [zO (by rw [Kh];simp;lia),Dm];rfl⟩
 | m + 1,k,s,x,y,e,hs,hre=>by
  have hk:k < h.n:=by lia
  have hn:=g.len;have hre2:=ZLx (h:=h) (yt:=yt) (lv:=lv) (s:=s) (k:=k);obtain ⟨x',y',ih⟩:=ZEK g m (k + 1) (h.step yt lv s k) (some (.int k)) (some (.int (h.last k:Int))) (by lia) (ZES g hk hs) (by lia);refine ⟨x',y',?_⟩;have e0:(Eh (tab h.n λi=>(h.last i:Int))).drop k=.tup [.int k,.int (h.last k:Int)]::(Eh (tab h.n λi=>(h.last i:Int))).drop (k + 1):=by rw [zM (by rw [Kh];simpa using hk)];simp [Eh,tab]
  have hml:(h.mem k).length<=1000000:=by have:=ZDy (h:=h) (m:=k);lia
  have hb:O5 [some (.ref G.length),some (.fl (tab h.n λi=>(h.last i:Int))),some (.int k),some (.int (h.last k:Int))] (csH G h.n h.enc (.tup (tab h.n lv)) yt s)=
    .nx [some (.ref G.length),some (.fl (tab h.n λi=>(h.last i:Int))),some (.int k),some (.int (h.last k:Int))] (csH G h.n h.enc (.tup (tab h.n lv)) yt (h.step yt lv s k)):=by
   unfold O5 Hs.step;by_cases hB:(h.pl k).kd.isB=true
   ·simp [Ko,Dp,Hs.Ey hk,Iw,hB,Ke ZPf,ZPy g hk hB]
   ·by_cases hl:h.last k=k
    ·have hc:Ed (Eu 0 (.fl (tab h.n λi=>(h.last i:Int)))) (Bv 2 (Ao (gV 0) (Ao (gV 1) By))) Uc Ws (Bh 2 [2] [some (.ref G.length),some (.fl (tab h.n λi=>(h.last i:Int))),some (.int k),some (.int (k:Int))]) h.n 0 (csH G h.n h.enc (.tup (tab h.n lv)) yt s)=.ok (Bd (h.mem k)) (csH G h.n h.enc (.tup (tab h.n lv)) yt s):=ZL1 rfl _;simp [Ko,Dp,Hs.Ey hk,Iw,hB,hl,Ke ZI1,J8,K9,lenOf,hc,Aq,hml,Vz,ZKE g hk hl hs.1 (by lia)]
    ·have hl':¬((h.last k:Int)=(k:Int)):=by lia
     simp [Ko,Dp,Hs.Ey hk,Iw,hB,hl,hl']
  rw [e0,Cy];simp only [Sv,Tg,Sd,Do,R.K8,R.Dj,zU,hb,Dv,qZ,j5,Nat.reduceAdd,if_true];exact ih
theorem ZLe (g:GoodH h) (hs:s.NN h.n) (hre:s.rea= []):Wi [.ref G.length] (csH G h.n h.enc (.tup (tab h.n lv)) yt s)=.ok .non (csH G h.n h.enc (.tup (tab h.n lv)) yt (h.goF yt lv h.n 0 s)):=by
 obtain ⟨x',y',hL⟩:=ZEK (G:=G) (yt:=yt) (lv:=lv) g h.n 0 s none none (by lia) hs (by rw [hre];simp);rw [jS] at hL;unfold Wi ZEm;rw [Br];have hz:∀S G',Em (Eu 0 (.fl (tab h.n λi=>(h.last i:Int)))) (Bv 2 (Ao (gV 2) (Ao (gV 3) By))) O5 h.n 0 S G'=Be (Bv 2 (Ao (gV 2) (Ao (gV 3) By))) O5 (Eh (tab h.n λi=>(h.last i:Int))) S G':=λS G'=>Tr Xg (by rw [Kh];simp)
 simp [Ko,ZOu g,Vz,J8,K9,lenOf,hz,hL,Ln]
end
def Bk (n:Nat) (co:Nat->Nat->Int):List D:=(zX n).map λk=>D.tup (tab 5 (co k))
def stD (n:Nat) (lv:Nat->Int) (co:Nat->Nat->Int):D:=.tup [.tup (tab n lv),.tup (Bk n co)]
@[simp] theorem ZQs {n:Nat} :bels m (Bk n co)=true:=Gq λk _=>by simp [Jg]
@[simp] theorem ZMz {n:Nat} :bels m (Cu n pg)=true:=Gq λk _=>ZNV
@[simp] theorem ZRS {n:Nat} :(Bk n co).length=n:=by simp [Bk]
def Ib (co:Nat->Nat->Int):Nat->Nat->Int:=λk j=>if j < 4 then co k (j + 1) else 0
def cs0 (co:Nat->Nat->Int) (fl:Nat->Int):Cs:=⟨λk=>fl k + co k 0,Ib co,λ_=> [],[]⟩
theorem tab5:tab 5 F= [.int (F 0),.int (F 1),.int (F 2),.int (F 3),.int (F 4)]:=rfl
theorem N6 {c f:Str} {fs:List (Str×D)} {d:D} (hl:fs.length < 1000):Qt c f (.ref G.length) d S (G++ .ins c fs::L)=.nx S (G++ .ins c (Hj f d fs)::L):=by
 rw [ZNJ (fs:=fs) (by rw [Dy];rfl) hl,Fl]
 rfl
theorem ZKf {n:Nat} (G:DH):Ed (Hv [.tup (tab n fl),.tup (Bk n co)]) (Bv 2 (Ao (gV 0) (Ao (gV 1) By))) Cd We (Bh 2 [] S) n 0 G=.ok (tab n λk=>fl k + co k 0) G:=by
 have he:O7 (tab n fl) (Bk n co)=(zX n).map λ(i:Nat)=>D.tup [.int (fl i),.tup (tab 5 (co i))]:=by refine qF (by simp [O7]) λi h1 h2=>by simp [O7,tab,Bk]
 rw [Ux (F:=λd=>match d with | .tup [.int c,.tup (.int a::_)]=>some (.int (c + a)) | _=>none) (λj=>ZFs (Vu (xs:=tab n fl)) (Vu (xs:=Bk n co)) j) (λx hx=> ?_) (by rw [he];simp)]
 ·congr 1
  rw [he,qV];show (zX n).filterMap (λi=>some (D.int (fl i + co i 0)))=_;rw [qq]
  rfl
 ·rw [he] at hx;obtain ⟨i,_,rfl⟩:=zH.mp hx;refine ⟨[some (.int (fl i)),some (.tup (tab 5 (co i)))],by simp [Bh],.inr ⟨rfl,.int (fl i + co i 0),?_,by simp [tab5]⟩⟩;unfold We;simp [tab5]
theorem ZJV (G:DH):Tj [some (.tup (tab 5 (co k)))] G=.ok (.ref G.length) (G++ [.lst (tab 5 (Ib co k))]):=by
 have hcut:cutD (tab 5 (co k)) (some 1) none= [.int (co k 1),.int (co k 2),.int (co k 3),.int (co k 4)]:=rfl;have h1:Ye [.tup [.int (co k 1),.int (co k 2),.int (co k 3),.int (co k 4)]] G=.ok (.ref G.length) (G++ [.lst [.int (co k 1),.int (co k 2),.int (co k 3),.int (co k 4)]]):=rfl;have h2:Ar (.fl [.int (co k 1),.int (co k 2),.int (co k 3),.int (co k 4)]) (.fl [.int 0]) G=.ok (.ref G.length) (G++ [.lst (tab 5 (Ib co k))]):=rfl
 have hf:∀ds:List D,bels G.length ds=true->freeze G (.ok (.ref G.length) (G++ [.lst ds]))=.ok (.fl ds) G:=λds hb=>Ga hb
 unfold Tj;simp [Pj,ZAo,hcut,Mm,h1,hf,Aq,h2,Fo]
theorem ZF5 {n:Nat} {co:Nat->Nat->Int}:∀(m k:Nat) (G:DH),k + m=n->Dz (gV 0) Cd Tj [none] ((Bk n co).drop k) G=.ok ((zX m).map λj=>D.ref (G.length + j)) (G++(zX m).map λj=>DO.lst (tab 5 (Ib co (k + j))))
 | 0,k,G,e=>by rw [zO (by simp;lia)];simp [Dz]
 | m + 1,k,G,e=>by
  have e0:(Bk n co).drop k=.tup (tab 5 (co k))::(Bk n co).drop (k + 1):=by rw [zM (by simp;lia)];simp [Bk]
  have ih:=ZF5 (n:=n) (co:=co) m (k + 1) (G++ [.lst (tab 5 (Ib co k))]) (by lia);rw [e0,ZBK];simp only [Do,R.K8,zU,ZNZ,if_true,ZJV,ih]
  congr 1
  ·rw [qC,zC,qO]
   congr 1
   refine qQ λj _=> ?_
   simp only [Function.comp,qX,jk]
   congr 1
   lia
  ·rw [qC,zC,qO,jw]
   congr 1
   show _::_=_::_
   congr 1
   refine qQ λj _=> ?_
   simp only [Function.comp]
   congr 3
   lia
theorem ZL2 (g:GoodH h) :
  Tw [.ref G.length,h.enc,stD h.n lv co,.int at_,.tup (tab h.n fl)] (G++ [.ins "Course" []])=.ok .non (csH G h.n h.enc (.tup (tab h.n lv)) (at_ % h.yr) (cs0 co fl)):=by
 have hn:=g.len;have hyr:=g.yr;have hnl:h.n<=1000000:=by lia
 have p1:∀a:D,Hj "house" a (cfl [])=cfl [a]:=λ_=>rfl
 have p2:∀a b:D,Hj "levels" b (cfl [a])=cfl [a,b]:=λ_ _=>rfl
 have p3:∀a b c:D,Hj "year_turn" c (cfl [a,b])=cfl [a,b,c]:=λ_ _ _=>rfl
 have p4:∀a b c d:D,Hj "came" d (cfl [a,b,c])=cfl [a,b,c,d]:=λ_ _ _ _=>rfl
 have p5:∀a b c d e:D,Hj "coming" e (cfl [a,b,c,d])=cfl [a,b,c,d,e]:=λ_ _ _ _ _=>rfl
 have p6:∀a b c d e f:D,Hj "page" f (cfl [a,b,c,d,e])=cfl [a,b,c,d,e,f]:=λ_ _ _ _ _ _=>rfl
 have p7:∀a b c d e f q:D,Hj "reaches" q (cfl [a,b,c,d,e,f])=cfl [a,b,c,d,e,f,q]:=λ_ _ _ _ _ _ _=>rfl
 have hl:∀ds,(cfl ds).length < 1000:=λds=>by unfold cfl;rw [List.length_zip];have:(["house","levels","year_turn","came","coming","page","reaches"]:List Str).length=7:=rfl;lia
 have hz:∀G',J0 2 [.tup (tab h.n fl),.tup (Bk h.n co)] G'=.ok (.fn h.n (Hv [.tup (tab h.n fl),.tup (Bk h.n co)])) G':=λG'=>by rw [ZFn Vu Vu];simp
 have hcc:=λG'=>ZF5 (n:=h.n) (co:=co) h.n 0 G' (by lia)
 simp only [jS,Nat.zero_add] at hcc;have hcs:∀S:DSt,Bh 1 [] S= [none]:=λ_=>rfl
 have epg:zV h.n D.non=Cu h.n λ_=> []:=by unfold Cu;refine qF (by simp) λi h1 h2=>by simp [Jh]
 let S:DSt:= [some (.ref G.length),some h.enc,some (stD h.n lv co),some (.int at_),some (.tup (tab h.n fl)),some (.tup (tab h.n lv)),some (.tup (Bk h.n co))];have hS:S= [some (.ref G.length),some h.enc,some (stD h.n lv co),some (.int at_),some (.tup (tab h.n fl)),some (.tup (tab h.n lv)),some (.tup (Bk h.n co))]:=rfl;let R5:DH:=(zX h.n).map λk=>DO.lst (tab 5 (Ib co k))
 have hR5:R5.length=h.n:=by simp [R5]
 have q1:Hb "Course" (dV 0) (dV 1) "house" S (G++ .ins "Course" (cfl []):: [])=.nx S (G++ .ins "Course" (cfl [h.enc]):: []):=by rw [Nu,hS];simp only [Ym,j8,jq,R.Dj,N6 (hl _),p1]
 have q2:Hb "Course" (dV 0) (dV 5) "levels" S (G++ .ins "Course" (cfl [h.enc]):: [])=.nx S (G++ .ins "Course" (cfl [h.enc,.tup (tab h.n lv)]):: []):=by rw [Nu,hS];simp only [Ym,j8,jq,R.Dj,N6 (hl _),p2]
 have q3:Hb "Course" (dV 0) (dOp Bj (dV 3) (dOp Aj (dV 1) (dC (.int 0)))) "year_turn" S (G++ .ins "Course" (cfl [h.enc,.tup (tab h.n lv)]):: [])=.nx S (G++ .ins "Course" (cfl [h.enc,.tup (tab h.n lv),.int (at_ % h.yr)]):: []):=by rw [Nu,hS];simp [ZIY,hyr,N6 (hl _),p3]
 have q4:Hb "Course" (dV 0) (Ek (Cv (J0 2) (Ab (dV 4) (Ab (dV 6) Ad))) 2 [] (Bv 2 (Ao (gV 0) (Ao (gV 1) By))) Cd We) "came" S (G++ .ins "Course" (cfl [h.enc,.tup (tab h.n lv),.int (at_ % h.yr)]):: [])=
   .nx S (G++ .ins "Course" (cfl [h.enc,.tup (tab h.n lv),.int (at_ % h.yr),.ref (G.length + 1)]):: .lst (tab h.n λk=>fl k + co k 0):: []):=by
  rw [Nu,hS];simp [hz,ZKf,Aq,hnl,N6 (hl _),p4]
 have q5:Hb "Course" (dV 0) (Ek (Fi (dV 6)) 1 [] (gV 0) Cd Tj) "coming" S (G++ .ins "Course" (cfl [h.enc,.tup (tab h.n lv),.int (at_ % h.yr),.ref (G.length + 1)]):: .lst (tab h.n λk=>fl k + co k 0):: [])=
   .nx S (G++ .ins "Course" (cfl [h.enc,.tup (tab h.n lv),.int (at_ % h.yr),.ref (G.length + 1),.ref (G.length + (2 + h.n))]):: .lst (tab h.n λk=>fl k + co k 0)::(R5++ [.lst (Ef G.length h.n)])):=by
  have hi:Hu (.tup (Bk h.n co)) (G++ .ins "Course" (cfl [h.enc,.tup (tab h.n lv),.int (at_ % h.yr),.ref (G.length + 1)]):: .lst (tab h.n λk=>fl k + co k 0):: [])=.ok (.pure (Bk h.n co)) (G++ .ins "Course" (cfl [h.enc,.tup (tab h.n lv),.int (at_ % h.yr),.ref (G.length + 1)]):: .lst (tab h.n λk=>fl k + co k 0):: []):=rfl;have er:∀L:DH,L.length=2->(zX h.n).map (λj=>D.ref ((G++L).length + j))=Ef G.length h.n:=λL e=>by
   unfold Ef;refine qQ λj _=> ?_
   rw [qX,e,Nat.add_assoc]
  have hc2:=hcc (G++ .ins "Course" (cfl [h.enc,.tup (tab h.n lv),.int (at_ % h.yr),.ref (G.length + 1)]):: .lst (tab h.n λk=>fl k + co k 0):: []);rw [er _ rfl] at hc2;have hml:∀G',Aq (Ef G.length h.n) G'=.ok (.ref G'.length) (G'++ [.lst (Ef G.length h.n)]):=λG'=>by simp [Aq,Ef,hnl]
  rw [Nu,hS];simp only [ZLq,ZOZ,Ym,j8,jq,R.K8,hi,hcs,hc2,hml,R.Dj];have e2:(G++DO.ins "Course" (cfl [h.enc,.tup (tab h.n lv),.int (at_ % h.yr),.ref (G.length + 1)]):: .lst (tab h.n λk=>fl k + co k 0):: []++(zX h.n).map λj=>DO.lst (tab 5 (Ib co j))).length=G.length + (2 + h.n):=by simp;lia
  rw [e2];simp only [jw,List.cons_append,jL];rw [N6 (hl _),p5]
 have q6:Hb "Course" (dV 0) (Et (dOp Kf (dFn Aq (Ab (dC .non) Ad)) (dFn De (Ab (dV 5) Ad)))) "page" S (G++ .ins "Course" (cfl [h.enc,.tup (tab h.n lv),.int (at_ % h.yr),.ref (G.length + 1),.ref (G.length + (2 + h.n))]):: .lst (tab h.n λk=>fl k + co k 0)::(R5++ [.lst (Ef G.length h.n)]))=
   .nx S (G++ .ins "Course" (cfl [h.enc,.tup (tab h.n lv),.int (at_ % h.yr),.ref (G.length + 1),.ref (G.length + (2 + h.n)),.ref (G.length + (3 + h.n))]):: .lst (tab h.n λk=>fl k + co k 0)::(R5++ [.lst (Ef G.length h.n),.lst (Cu h.n λ_=> [])])):=by
  rw [Nu,hS];generalize hQ:G++DO.ins "Course" (cfl [h.enc,.tup (tab h.n lv),.int (at_ % h.yr),.ref (G.length + 1),.ref (G.length + (2 + h.n))]):: .lst (tab h.n λk=>fl k + co k 0)::(R5++ [.lst (Ef G.length h.n)])=Q;have eQ:Q.length=G.length + (3 + h.n):=by rw [<-hQ];simp [hR5];lia
  have hrep:Kf (.ref Q.length) (.int (h.n:Int)) (Q++ [.lst [.non]])=.ok (.ref (Q.length + 1)) (Q++ [.lst [.non],.lst (Cu h.n λ_=> [])]):=by rw [ZGE (d:=.non) (by rw [Dy];rfl) (by lia),epg];simp
  have ht:tidy Q (.ok (.ref (Q.length + 1)) (Q++ [.lst [.non],.lst (Cu h.n λ_=> [])]))=.ok (.ref Q.length) (Q++ [.lst (Cu h.n λ_=> [])]):=ZCP _ (k:=1) rfl ZMz;have hst:Qt "Course" "page" (.ref G.length) (.ref Q.length) S (Q++ [.lst (Cu h.n λ_=> [])])=.nx S (G++ .ins "Course" (cfl [h.enc,.tup (tab h.n lv),.int (at_ % h.yr),.ref (G.length + 1),.ref (G.length + (2 + h.n)),.ref (G.length + (3 + h.n))]):: .lst (tab h.n λk=>fl k + co k 0)::(R5++ [.lst (Ef G.length h.n),.lst (Cu h.n λ_=> [])])):=by rw [eQ,<-hQ];simp only [jw,List.cons_append,jL];rw [N6 (hl _),p6]
  rw [hS] at hst;simp [Aq,hrep,ht,hst]
 have q7:Hb "Course" (dV 0) (Et (dFn Aq Ad)) "reaches" S (G++ .ins "Course" (cfl [h.enc,.tup (tab h.n lv),.int (at_ % h.yr),.ref (G.length + 1),.ref (G.length + (2 + h.n)),.ref (G.length + (3 + h.n))]):: .lst (tab h.n λk=>fl k + co k 0)::(R5++ [.lst (Ef G.length h.n),.lst (Cu h.n λ_=> [])]))=
   .nx S (G++ .ins "Course" (cfl [h.enc,.tup (tab h.n lv),.int (at_ % h.yr),.ref (G.length + 1),.ref (G.length + (2 + h.n)),.ref (G.length + (3 + h.n)),.ref (G.length + (4 + h.n))]):: .lst (tab h.n λk=>fl k + co k 0)::(R5++ [.lst (Ef G.length h.n),.lst (Cu h.n λ_=> []),.lst []])):=by
  rw [Nu,hS];generalize hQ:G++DO.ins "Course" (cfl [h.enc,.tup (tab h.n lv),.int (at_ % h.yr),.ref (G.length + 1),.ref (G.length + (2 + h.n)),.ref (G.length + (3 + h.n))]):: .lst (tab h.n λk=>fl k + co k 0)::(R5++ [.lst (Ef G.length h.n),.lst (Cu h.n λ_=> [])])=Q;have eQ:Q.length=G.length + (4 + h.n):=by rw [<-hQ];simp [hR5];lia
  have ht:tidy Q (.ok (.ref Q.length) (Q++ [.lst []]))=.ok (.ref Q.length) (Q++ [.lst []]):=Fo rfl;have hst:Qt "Course" "reaches" (.ref G.length) (.ref Q.length) S (Q++ [.lst []])=.nx S (G++ .ins "Course" (cfl [h.enc,.tup (tab h.n lv),.int (at_ % h.yr),.ref (G.length + 1),.ref (G.length + (2 + h.n)),.ref (G.length + (3 + h.n)),.ref (G.length + (4 + h.n))]):: .lst (tab h.n λk=>fl k + co k 0)::(R5++ [.lst (Ef G.length h.n),.lst (Cu h.n λ_=> []),.lst []])):=by rw [eQ,<-hQ];simp only [jw,List.cons_append,jL];rw [N6 (hl _),p7]
  rw [hS] at hst;simp [Aq,ht,hst]
 have htd:tidy (G++ [.ins "Course" []]) (.ok .non (csH G h.n h.enc (.tup (tab h.n lv)) (at_ % h.yr) (cs0 co fl)))=.ok .non (csH G h.n h.enc (.tup (tab h.n lv)) (at_ % h.yr) (cs0 co fl)):=ZMx λz=>by
  have h1:=congrArg (λl:DH=>l[G.length]?) z;simp only [qX,jk] at h1;rw [jV (by lia),Ku] at h1;have h2:(G++ [DO.ins "Course" []])[G.length]? =some (.ins "Course" []):=by rw [Dy];rfl
  rw [h2] at h1;simp [cflds,cfl] at h1
 have hfin:G++DO.ins "Course" (cfl [h.enc,.tup (tab h.n lv),.int (at_ % h.yr),.ref (G.length + 1),.ref (G.length + (2 + h.n)),.ref (G.length + (3 + h.n)),.ref (G.length + (4 + h.n))]):: .lst (tab h.n λk=>fl k + co k 0)::(R5++ [.lst (Ef G.length h.n),.lst (Cu h.n λ_=> []),.lst []])=csH G h.n h.enc (.tup (tab h.n lv)) (at_ % h.yr) (cs0 co fl):=rfl;have q0:sAs (dV 2) (Bv 2 (Ao (gV 5) (Ao (gV 6) By))) [some (.ref G.length),some h.enc,some (stD h.n lv co),some (.int at_),some (.tup (tab h.n fl)),none,none] (G++ [.ins "Course" []])=.nx S (G++ .ins "Course" (cfl []):: []):=by
  simp [stD,hS]
  rfl
 unfold Tw ZHF;rw [Br];have h5: [D.ref G.length,h.enc,stD h.n lv co,.int at_,.tup (tab h.n fl)].length=5:=rfl;rw [if_pos h5];have hd:([D.ref G.length,h.enc,stD h.n lv co,.int at_,.tup (tab h.n fl)].map some++zV 2 none)= [some (.ref G.length),some h.enc,some (stD h.n lv co),some (.int at_),some (.tup (tab h.n fl)),none,none]:=rfl;rw [hd];simp only [Wr,q0,Vb,q1,q2,q3,q4,q5,q6,q7,hfin,ZMn]
 exact htd
section
variable {h:Hs} {yt:Int} {lv:Nat->Int}
theorem Zt (g:GoodH h):∀(m k:Nat),h.n<=m + k->h.last k=k∨(h.pl (h.last k)).kd.isB=false
 | 0,k,e=>.inl (J1 g (Q8 (by lia)))
 | m + 1,k,e=>by
  cases hd:h.dir k with
  | none=>exact .inl (J1 g hd)
  | some d=>
   have hl:=M8 g hd;rw [Mw g hd];rcases Zt g m d (by lia) with z | z
   ·refine .inr ?_;rw [z];unfold Hs.dir at hd;cases h1:h.dn k with
    | none=>rw [h1] at hd;cases hd
    | some d'=>
     rw [h1] at hd;simp only at hd;split at hd
     ·cases hd
     ·rename_i hn;cases hd;cases e2:(h.pl d).kd.isB with
      | false=>rfl
      | true=>exact absurd (.inr (.inr e2)) hn
   ·exact .inr z
theorem Z0 (g:GoodH h):∀(m k:Nat),h.n<=m + k->h.last (h.last k)=h.last k
 | 0,k,e=>by have h1:=J1 g (h:=h) (k:=k) (Q8 (by lia));rw [h1,h1]
 | m + 1,k,e=>by
  cases hd:h.dir k with
  | none=>rw [J1 g hd,J1 g hd]
  | some d=>
   have hl:=M8 g hd;rw [Mw g hd];exact Z0 g m d (by lia)
def Hs.done (h:Hs) (j k:Nat):Prop:=if (h.pl k).kd.isB=true then k < j else h.last k < j
theorem ZK9 (g:GoodH h) (hk:k < h.n) (hf:∀i,i < h.n->h.done k i->(s.page i).length=6):∀i,i < h.n->h.done (k + 1) i->((h.step yt lv s k).page i).length=6:=λi hi hd=>by
 unfold Hs.step;split
 ·rename_i hB;by_cases e:i=k
  ·subst e;exact (ZA1 hB).1
  ·rw [(ZA1 hB).2 i e];refine hf i hi ?_;unfold Hs.done at hd ⊢;by_cases hiB:(h.pl i).kd.isB=true
   ·rw [if_pos hiB] at hd ⊢;lia
   ·rw [if_neg hiB] at hd ⊢;rcases qP (h.last i) k with z | z
    ·exact z
    ·have e2:h.last i=k:=by lia
     rcases Zt g h.n i (by lia) with z2 | z2
     ·rw [z2] at e2;exact absurd e2 e
     ·rw [e2,hB] at z2;cases z2
 ·rename_i hB;split
  ·rename_i hl;rw [ZAi];split
   ·rfl
   ·rename_i hm;refine hf i hi ?_;unfold Hs.done at hd ⊢;by_cases hiB:(h.pl i).kd.isB=true
    ·rw [if_pos hiB] at hd ⊢;rcases qP i k with z | z
     ·exact z
     ·have e2:i=k:=by lia
      rw [e2] at hiB;exact absurd hiB hB
    ·rw [if_neg hiB] at hd ⊢;rcases qP (h.last i) k with z | z
     ·exact z
     ·exact absurd (mem_iff.mpr ⟨hi,by lia⟩) hm
  ·rename_i hl;refine hf i hi ?_;unfold Hs.done at hd ⊢;by_cases hiB:(h.pl i).kd.isB=true
   ·rw [if_pos hiB] at hd ⊢;rcases qP i k with z | z
    ·exact z
    ·have e2:i=k:=by lia
     rw [e2] at hiB;exact absurd hiB hB
   ·rw [if_neg hiB] at hd ⊢;rcases qP (h.last i) k with z | z
    ·exact z
    ·have e2:h.last i=k:=by lia
     have:=Z0 g h.n i (by lia);rw [e2] at this;exact absurd this hl
theorem ZEh (g:GoodH h):∀(m k:Nat) (s:Cs),k + m=h.n->(∀i,i < h.n->h.done k i->(s.page i).length=6)->∀i,i < h.n->((h.goF yt lv m k s).page i).length=6
 | 0,k,s,e,hf,i,hi=>hf i hi (by
   unfold Hs.done;split
   ·lia
   ·have:=(Jo g i).2 hi;lia)
 | m + 1,k,s,e,hf,i,hi=>ZEh g m (k + 1) _ (by lia) (ZK9 g (by lia) hf) i hi
theorem ZHp (g:GoodH h):∀(m k:Nat) (s:Cs),k + m=h.n->s.NN h.n->(h.goF yt lv m k s).NN h.n
 | 0,k,s,e,hs=>hs
 | m + 1,k,s,e,hs=>ZHp g m (k + 1) _ (by lia) (ZES g (by lia) hs)
end
def lies (pg:Nat->List Int):Nat->Int:=λk=>(pg k).getD 5 0
theorem row6 (h:l.length=6):∃a b c d e f,l= [a,b,c,d,e,f]:=by
 match l,h with
 | [a,b,c,d,e,f],_=>exact ⟨a,b,c,d,e,f,rfl⟩
section
variable {G:DH} {h:Hs} {LV:D} {yt:Int} {s:Cs}
theorem ZIZ (hf:∀k,k < h.n->(s.page k).length=6):Hq (G.length + (3 + h.n)) (gV 0) Cd Xv (Bh 1 [] S) h.n 0 (csH G h.n h.enc LV yt s)=.ok (tab h.n (lies s.page)) (csH G h.n h.enc LV yt s):=by
 have hx:=ZEu (i:=G.length + (3 + h.n)) (g:=gV 0) (c:=Cd) (te:=Xv) (S:=Bh 1 [] S) (G:=csH G h.n h.enc LV yt s) (F:=λd=>match d with | .tup [_,_,_,_,_,x]=>some x | _=>none) Lr (λx hx=>by obtain ⟨k,hk,rfl⟩:=zH.mp hx;obtain ⟨a,b,c,d,e,f,el⟩:=row6 (hf k (qW.mp hk));rw [el];refine ⟨[some (Jh [a,b,c,d,e,f])],by simp [Bh],.inr ⟨rfl,.int f,?_,rfl⟩⟩;unfold Xv;simp [Jh])
 rw [Xw] at hx;rw [hx]
 congr 1
 unfold Cu;rw [qV];unfold tab;rw [<-qq];refine Vy λk hk=> ?_
 obtain ⟨a,b,c,d,e,f,el⟩:=row6 (hf k (qW.mp hk));simp [Function.comp,el,Jh,lies]
theorem ZKq:Hq (G.length + (2 + h.n)) (gV 0) Cd Xy (Bh 1 [] S) h.n 0 (csH G h.n h.enc LV yt s)=.ok (Bk h.n s.coming) (csH G h.n h.enc LV yt s):=by
 have hlen:(Ef G.length h.n).length=h.n:=by simp [Ef]
 have hx:=ZEu (i:=G.length + (2 + h.n)) (g:=gV 0) (c:=Cd) (te:=Xy) (S:=Bh 1 [] S) (G:=csH G h.n h.enc LV yt s) (F:=λd=>match d with | .ref j=>some (.tup (tab 5 (s.coming (j - (G.length + 2))))) | _=>none) Xf (λx hx=>by
  obtain ⟨k,hk,rfl⟩:=zH.mp hx;refine ⟨[some (.ref (G.length + (2 + k)))],by simp [Bh],.inr ⟨rfl,.tup (tab 5 (s.coming k)),?_,?_⟩⟩
  ·unfold Xy;simp [ZCF (qW.mp hk)]
  ·have e:G.length + (2 + k) - (G.length + 2)=k:=by lia
   simp only [e])
 rw [hlen] at hx;rw [hx]
 congr 1
 unfold Ef;rw [qV];unfold Bk;rw [<-qq];refine Vy λk hk=> ?_
 have e:G.length + (2 + k) - (G.length + 2)=k:=by lia
 simp only [Function.comp,e]
theorem ZMR (g:GoodH h) (hf:∀k,k < h.n->(s.page k).length=6):Yc [.ref G.length] (csH G h.n h.enc LV yt s)=.ok (stD h.n (lies s.page) s.coming) (csH G h.n h.enc LV yt s):=by
 have hn:=g.len;have hnl:h.n<=1000000:=by lia
 have hl2:(Ef G.length h.n).length=h.n:=by simp [Ef]
 have hb:bel (csH G h.n h.enc LV yt s).length (stD h.n (lies s.page) s.coming)=true:=by simp [stD]
 unfold Yc ZGk;rw [Br];unfold stD at hb ⊢;have i1:Hu (.ref (G.length + (3 + h.n))) (csH G h.n h.enc LV yt s)=.ok (.mt (G.length + (3 + h.n))) (csH G h.n h.enc LV yt s):=by simp [Hu,Lr]
 have i2:Hu (.ref (G.length + (2 + h.n))) (csH G h.n h.enc LV yt s)=.ok (.mt (G.length + (2 + h.n))) (csH G h.n h.enc LV yt s):=by simp [Hu,Xf]
 simp [i1,i2,Oj,Lr,ZIZ hf,Aq,hnl,Vz,Bo,ZDl,Xf,hl2,ZKq,Ci]
noncomputable def Hs.cs (h:Hs) (lv:Nat->Int) (co:Nat->Nat->Int) (at_:Int) (fl:Nat->Int):Cs:=h.goF (at_ % h.yr) lv h.n 0 (cs0 co fl)
theorem ZDI {n:Nat} (hc:∀k j,k < n->j < 5->0<=co k j) (hf:∀k,k < n->0<=fl k):(cs0 co fl).NN n:=by
 refine ⟨λk hk=> ?_,λk j hk hj=> ?_⟩
 ·have:=hc k 0 hk (by lia);have:=hf k hk;show 0<=fl k + co k 0;lia
 ·show 0<=if j < 4 then co k (j + 1) else 0
  split
  ·exact hc k (j + 1) hk (by lia)
  ·exact zE _
theorem ZMS (g:GoodH h) :∀k,k < h.n->((h.cs lv co at_ fl).page k).length=6:=ZEh g h.n 0 _ (by lia) λi hi hd=>by
 unfold Hs.done at hd
 split at hd <;> lia
theorem ZMO (g:GoodH h) (hc:∀k j,k < h.n->j < 5->0<=co k j) (hf:∀k,k < h.n->0<=fl k) (G:DH):
  Xk [h.enc,stD h.n lv co,.int at_,.tup (tab h.n fl)] G=.ok (.tup [.tup (Cu h.n (h.cs lv co at_ fl).page),stD h.n (lies (h.cs lv co at_ fl).page) (h.cs lv co at_ fl).coming]) G:=by
 have hgo:=ZLe (G:=G) (lv:=lv) (yt:=at_ % h.yr) g (ZDI (fl:=fl) hc hf) rfl;have hst:=ZMR (G:=G) (LV:=.tup (tab h.n lv)) (yt:=at_ % h.yr) g (ZMS g (lv:=lv) (fl:=fl) (co:=co) (at_:=at_));have hmk:Yv Tw "Course" [h.enc,stD h.n lv co,.int at_,.tup (tab h.n fl)] G=.ok (.ref G.length) (csH G h.n h.enc (.tup (tab h.n lv)) (at_ % h.yr) (cs0 co fl)):=by
  unfold Yv;rw [ZL2 g]
  rfl
 have egs:h.goF (at_ % h.yr) lv h.n 0 (cs0 co fl)=h.cs lv co at_ fl:=rfl;rw [egs] at hgo;have hcH:∀s,csH G h.n h.enc (.tup (tab h.n lv)) (at_ % h.yr) s=G++csT G.length h.n h.enc (.tup (tab h.n lv)) (at_ % h.yr) s:=λ_=>rfl
 have hbl:bel G.length (.tup [.tup (Cu h.n (h.cs lv co at_ fl).page),stD h.n (lies (h.cs lv co at_ fl).page) (h.cs lv co at_ fl).coming])=true:=by simp [stD]
 unfold Xk ZID;rw [Br];simp [hmk,Ke ZJS,hgo,Oj,Lr,Ke ZJT,hst,Bo];rw [hcH];exact Q6 hbl
end
theorem ZLk (hf:∀k:Nat,k<=1000->∀G,Bb [.fl (ns.map D.int),.int k] G=.ok (.int (f k)) G):∃u:Int,(u=1∨u=1000000000000000000000000000000)/\∀G,Gj [.fl (ns.map D.int)] G=.ok (.int u) G:=by
 have h0:∀G,Bb [.fl (ns.map D.int),.int 0] G=.ok (.int (f 0)) G:=hf 0 (by lia);have fz:∀G:DH,freeze G (.ok (.ref G.length) (G++ [.lst [.int 1,.int 1,.int 1000000000000000000000000000000]]))=.ok (.fl [.int 1,.int 1,.int 1000000000000000000000000000000]) G:=λG=>Ga rfl
 rcases (by lia:f 0 / 840 % 3=0∨f 0 / 840 % 3=1∨f 0 / 840 % 3=2) with h | h | h
 ·refine ⟨1,.inl rfl,λG=> ?_⟩;unfold Gj Xq;rw [Br];simp [h0,h,Aq,fz,Ci]
 ·refine ⟨1,.inl rfl,λG=> ?_⟩;unfold Gj Xq;rw [Br];simp [h0,h,Aq,fz,Ci]
 ·refine ⟨1000000000000000000000000000000,.inr rfl,λG=> ?_⟩;unfold Gj Xq;rw [Br];simp [h0,h,Aq,fz,Ci]
def amt (c u:Int):Int:=u * (c % 7) + c / 7 % u
theorem U4 (hu:0 < u):0<=amt c u:=by unfold amt;have h1:0<=u * (c % 7):=jy (by lia) (by lia);have h2:0<=c / 7 % u:=qS _ (by lia);lia
theorem La (hu:0 < u) (G:DH):Kv [.int c,.int u] G=.ok (.int (amt c u)) G:=by
 have m1:∀G,Bg (.int u) (.int (c % 7)) G=.ok (.int (u * (c % 7))) G:=λG=>Jk (by lia) (by lia)
 unfold Kv ZDF;rw [Br];simp [m1,hu,Ci,amt]
theorem ZJJ (hf:∀k:Nat,k<=1000->∀G,Bb [.fl (ns.map D.int),.int k] G=.ok (.int (f k)) G):∃y:Int,(1<=y/\y<=24)/\∀G,K1 [.fl (ns.map D.int)] G=.ok (.int y) G:=by
 have h1:∀G,Bb [.fl (ns.map D.int),.int 1] G=.ok (.int (f 1)) G:=hf 1 (by lia);by_cases h:f 1 / 4 % 4=1
 ·refine ⟨1 + f 1 / 16 % 24,by lia,λG=> ?_⟩;unfold K1 ZCY;rw [Br];simp [h1,h,Ci]
 ·refine ⟨1 + f 1 % 4,by lia,λG=> ?_⟩;unfold K1 ZCY;rw [Br];simp [h1,h,Ci]
noncomputable def Nr (xs:Nat->Int) (u:Int) (p:Bool):Nat->Nat->Int->List Stp
 | 0,_,_=> []
 | n + 1,j,low=>⟨low + u * (xs (1 + j) % 4),1 + u * (xs (1 + j) / 4 % 4), !(p && decide (xs (1 + j) / 16 % 2=1))⟩::Nr xs u p n (j + 1) (low + u * (xs (1 + j) % 4) + (1 + u * (xs (1 + j) / 4 % 4)))
theorem ZE0 {xs:Nat->Int} (hu:0 < u) :∀(n j:Nat) (low:Int),Good low (Nr xs u p n j low)
 | 0,_,_=>trivial
 | n + 1,j,low=>by have h1:0<=u * (xs (1 + j) % 4):=jy (by lia) (by lia);have h2:0<=u * (xs (1 + j) / 4 % 4):=jy (by lia) (by lia);exact ⟨by show low<=low + _;lia,by show 1<=1 + _;lia,ZE0 hu n (j + 1) _⟩
theorem ZIQ {xs:Nat->Int} :∀(n j:Nat) (low:Int),∀s∈Nr xs u false n j low,s.r=true
 | 0,_,_,s,h=>by cases h
 | n + 1,j,low,s,h=>by
  rcases zx.mp h with rfl | h
  ·simp
  ·exact ZIQ n (j + 1) _ s h
theorem ZDV {xs:Nat->Int} {u:Int} {p:Bool} {G:DH}:∀(n j:Nat) (low:Int) (acc:List Stp) (x y z:Option D),j + n<=3->acc.length + n<=10->∃x' y' z' l',
  Be (gV 5) Rf (Bs j n) [some (.fl (tab 4 xs)),some (.int u),some (.bl p),some (.ref G.length),some (.int low),x,y,z] (G++ [.lst (acc.map Stp.enc)])=
   .nx [some (.fl (tab 4 xs)),some (.int u),some (.bl p),some (.ref G.length),l',x',y',z'] (G++ [.lst ((acc++Nr xs u p n j low).map Stp.enc)])
 | 0,j,low,acc,x,y,z,h,ha=>⟨x,y,z,some (.int low),by rw [Im,Dm];simp [Nr]⟩
 | n + 1,j,low,acc,x,y,z,h,ha=>by
  have hj:1 + j < 4:=by lia
  have a1:atI (tab 4 xs) (1 + (j:Int))=some (.int (xs (1 + j))):=Eo (k:=1 + j) (by lia) (Li hj);let s:Stp:=⟨low + u * (xs (1 + j) % 4),1 + u * (xs (1 + j) / 4 % 4), !(p && decide (xs (1 + j) / 16 % 2=1))⟩;obtain ⟨x',y',z',l',ih⟩:=ZDV (xs:=xs) (u:=u) (p:=p) (G:=G) n (j + 1) (s.h + s.m) (acc++ [s]) (some (.int j)) (some (.int s.m)) (some (.str (wy s.r))) (by lia) (by simp;lia);refine ⟨x',y',z',l',?_⟩
  have m1:∀G,Bg (.int u) (.int (xs (1 + j) % 4)) G=.ok (.int (u * (xs (1 + j) % 4))) G:=λG=>Jk (by lia) (by lia)
  have m2:∀G,Bg (.int u) (.int (xs (1 + j) / 4 % 4)) G=.ok (.int (u * (xs (1 + j) / 4 % 4))) G:=λG=>Jk (by lia) (by lia)
  have hal:acc.length < 1000000:=by lia
  have hb:Rf [some (.fl (tab 4 xs)),some (.int u),some (.bl p),some (.ref G.length),some (.int low),some (.int j),y,z] (G++ [.lst (acc.map Stp.enc)])=
    .nx [some (.fl (tab 4 xs)),some (.int u),some (.bl p),some (.ref G.length),some (.int (s.h + s.m)),some (.int j),some (.int s.m),some (.str (wy s.r))] (G++ [.lst ((acc++ [s]).map Stp.enc)]):=by
   unfold Rf;cases p with
   | false=>simp [a1,m1,m2,Dy,Fl,hal,Bo,s,Stp.enc,wy]
   | true=>
    by_cases h16:xs (1 + j) / 16 % 2=1
    ·simp [a1,m1,m2,h16,Dy,Fl,hal,Bo,s,Stp.enc,wy]
    ·simp [a1,m1,m2,h16,Dy,Fl,hal,Bo,s,Stp.enc,wy]
  rw [Hw,Cy];simp only [Do,R.Dj,zU,hb,Dv];have e1:((j:Int) + 1)=((j + 1:Nat):Int):=by lia
  rw [e1,ih];simp [Nr,s]
def stps (xs:Nat->Int) (u:Int) (p:Bool):List Stp:=Nr xs u p (xs 0 % 4).toNat 0 0
theorem ZDT {xs:Nat->Int} (G:DH):Vf [.fl (tab 4 xs),.int u,.bl p] G=.ok (.tup ((stps xs u p).map Stp.enc)) G:=by
 have hn:(xs 0 % 4).toNat<=3:=by lia
 obtain ⟨x',y',z',l',hL⟩:=ZDV (xs:=xs) (u:=u) (p:=p) (G:=G) (xs 0 % 4).toNat 0 0 [] none none none (by lia) (by simp;lia);have hL':Be (gV 5) Rf (Bs 0 (xs 0 % 4).toNat) [some (.fl (tab 4 xs)),some (.int u),some (.bl p),some (.ref G.length),some (.int 0),none,none,none] (G++ [.lst []])=.nx [some (.fl (tab 4 xs)),some (.int u),some (.bl p),some (.ref G.length),l',x',y',z'] (G++ [.lst ((stps xs u p).map Stp.enc)]):=hL
 have a0:atI (tab 4 xs) 0=some (.int (xs 0)):=Eo (k:=0) rfl (Li (by lia));have hr:inR (xs 0 % 4):=Fq (by lia) (by lia);unfold Vf ZE6;rw [Br];simp [Aq,Fo,a0,hr,hL',Dy,Q6]
def Ii (st:List Stp):Int:=match st with
 | []=>0
 | s::r=>(if s.r then 0 else s.m) + Ii r
theorem ZFG {c:D} {G:DH}:∀(st:List Stp) (v:Int) (x y z:Option D),∃x' y' z',Be (Bv 3 (Ao (gV 2) (Ao (gV 3) (Ao (gV 4) By)))) Xa (st.map Stp.enc) [some c,some (.int v),x,y,z] G=.nx [some c,some (.int (v + Ii st)),x',y',z'] G
 | [],v,x,y,z=>⟨x,y,z,by simp [Ii,Dm]⟩
 | s::st,v,x,y,z=>by
  let v1:Int:=v + if s.r then 0 else s.m
  obtain ⟨x',y',z',ih⟩:=ZFG (c:=c) (G:=G) st v1 (some (.int s.h)) (some (.int s.m)) (some (.str (wy s.r)));refine ⟨x',y',z',?_⟩;have hb:Xa [some c,some (.int v),some (.int s.h),some (.int s.m),some (.str (wy s.r))] G=.nx [some c,some (.int v1),some (.int s.h),some (.int s.m),some (.str (wy s.r))] G:=by
   unfold Xa
   cases e:s.r <;> simp [v1,e]
  rw [zC,Cy];simp [Stp.enc,hb];rw [ih];simp [Ii,v1,Int.add_assoc]
theorem ZJ4 (G:DH):Yj [.tup (st.map Stp.enc)] G=.ok (.int (Ii st)) G:=by obtain ⟨x',y',z',hL⟩:=ZFG (c:=.tup (st.map Stp.enc)) (G:=G) st 0 none none none;unfold Yj ZH1;rw [Br];simp at hL;simp [hL,Ci]
noncomputable def Fw (lat:Nat->Int) (cel:Nat->Nat->Int) (u:Int) (p:Bool) (yr:Int):Nat->Nat->Int->List Ssn
 | 0,_,_=> []
 | m + 1,j,bg=>if j=0∨(lat j % 2=1/\bg + 1 < yr) then (if 0 < j then bg + 1 + lat j / 2 % (yr - bg - 1) else bg,stps (cel j) u p)::Fw lat cel u p yr m (j + 1) (if 0 < j then bg + 1 + lat j / 2 % (yr - bg - 1) else bg)
  else Fw lat cel u p yr m (j + 1) bg
theorem Yy {lat:Nat->Int} {cel:Nat->Nat->Int} (hu:0 < u) :∀(m j:Nat) (bg:Int),∀s∈Fw lat cel u p yr m j bg,Good 0 s.2/\(p=false->∀t∈s.2,t.r=true)
 | 0,_,_,s,h=>by cases h
 | m + 1,j,bg,s,h=>by
  unfold Fw at h;split at h
  ·rcases zx.mp h with rfl | h
   ·refine ⟨ZE0 hu _ _ _,λhp=> ?_⟩;subst hp;exact ZIQ _ _ _
   ·exact Yy hu m (j + 1) _ s h
  ·exact Yy hu m (j + 1) _ s h
theorem W0 {lat:Nat->Int} {cel:Nat->Nat->Int} {u:Int} {p:Bool} {yr:Int}:∀(m j:Nat) (bg:Int),0 < j->bg < yr->(∀s∈Fw lat cel u p yr m j bg,bg < s.1/\s.1 < yr)/\(Fw lat cel u p yr m j bg).Pairwise (λa b:Ssn=>a.1 < b.1)
 | 0,_,_,_,_=>⟨λs h=>(nomatch h),List.Pairwise.nil⟩
 | m + 1,j,bg,hj,hb=>by
  unfold Fw;split
  ·rename_i hc;have hc2:bg + 1 < yr:=by
    rcases hc with z | z
    ·lia
    ·exact z.2
   have h1:0<=lat j / 2 % (yr - bg - 1):=qS _ (by lia);have h2:lat j / 2 % (yr - bg - 1) < yr - bg - 1:=jz _ (by lia);obtain ⟨i1,i2⟩:=W0 (lat:=lat) (cel:=cel) (u:=u) (p:=p) (yr:=yr) m (j + 1) (bg + 1 + lat j / 2 % (yr - bg - 1)) (by lia) (by lia);refine ⟨λs hs=> ?_,List.pairwise_cons.mpr ⟨λs hs=>(i1 s hs).1,i2⟩⟩;rcases zx.mp hs with rfl | hs
   ·exact ⟨by show bg < bg + 1 + _;lia,by show bg + 1 + _ < yr;lia⟩
   ·have:=i1 s hs;lia
  ·exact W0 m (j + 1) bg (by lia) hb
theorem Qk {te:DE} {n:Nat} {F:Nat->D} (h:∀k:Nat,k < n->te (S.set 0 (some (.int k))) G=.ok (F k) G):Dz (gV 0) Cd te S (Bs 0 n) G=.ok ((zX n).map F) G:=by
 have e:Bs 0 n=(zX n).map λ(i:Nat)=>D.int (i:Int):=by
  refine qU λi=> ?_
  simp [Bs]
 rw [V1 (F:=λd=>match d with | .int i=>some (F i.toNat) | _=>none) (λq hq=> ?_)]
 ·congr 1
  rw [e,qV];show (zX n).filterMap (λ(i:Nat)=>some (F ((i:Int).toNat)))=_;rw [qq];simp
 ·rw [e] at hq;obtain ⟨i,hi,rfl⟩:=zH.mp hq;exact ⟨S.set 0 (some (.int i)),by simp,.inr ⟨rfl,F i,h i (qW.mp hi),by simp⟩⟩
def Qd:Nat->Int
 | 0=>1
 | 1=>48
 | 2=>2304
 | _=>110592
def Rx:Nat->Int
 | 0=>1
 | 1=>64
 | 2=>4096
 | _=>262144
theorem ZFR (hf:∀k:Nat,k<=1000->∀G,Bb [.fl (ns.map D.int),.int k] G=.ok (.int (f k)) G) (hb:b<=900) (hj:j < 4) (G:DH):
  Dz (gV 0) Cd ZA6 [none,some (.fl (ns.map D.int)),some (.int b),some (.int j)] (Bs 0 4) G=.ok (tab 4 λk=>f (b + 5 + (3 * j + k) % 6) / (1 + 7 * ((j:Int) / 2))) G:=
 Qk (n:=4) (F:=λk=>.int (f (b + 5 + (3 * j + k) % 6) / (1 + 7 * ((j:Int) / 2)))) λk hk=>by
  have h1:=hf (b + 5 + (3 * j + k) % 6) (by lia) G;have e1:((b + 5 + (3 * j + k) % 6:Nat):Int)=(b:Int) + 5 + (3 * (j:Int) + k) % 6:=by lia
  rw [e1] at h1;unfold ZA6
  rcases (by lia:j=0∨j=1∨j=2∨j=3) with rfl | rfl | rfl | rfl <;> simp at h1 ⊢ <;> simp [h1]
theorem ZPw (hf:∀k:Nat,k<=1000->∀G,Bb [.fl (ns.map D.int),.int k] G=.ok (.int (f k)) G) (hb:b<=900) (hj:j < 4) (G:DH):
  Dz (gV 0) Cd ZBD [none,some (.fl (ns.map D.int)),some (.int b),some (.int j)] (Bs 0 4) G=.ok (tab 4 λk=>f (b + 5 + k) / Rx j) G:=
 Qk (n:=4) (F:=λk=>.int (f (b + 5 + k) / Rx j)) λk hk=>by
  have h1:=hf (b + 5 + k) (by lia) G;have e1:((b + 5 + k:Nat):Int)=(b:Int) + 5 + k:=by lia
  rw [e1] at h1;have fz:freeze G (.ok (.ref G.length) (G++ [.lst [.int 1,.int 64,.int 4096,.int 262144]]))=.ok (.fl [.int 1,.int 64,.int 4096,.int 262144]) G:=Ga rfl;unfold ZBD
  rcases (by lia:j=0∨j=1∨j=2∨j=3) with rfl | rfl | rfl | rfl <;> simp [h1,Aq,fz,Rx]
theorem ZOI (hf:∀k:Nat,k<=1000->∀G,Bb [.fl (ns.map D.int),.int k] G=.ok (.int (f k)) G) (hb:b<=900) (hj:j < 4):∃(lat:Int) (xs:Nat->Int),∀(G:DH) (bg:Int) (acc:List Ssn) (x y:Option D),acc.length<=10->bg < yr->∃bg' acc',
   M4 [some (.fl (ns.map D.int)),some (.int b),some (.int u),some (.bl p),some (.int yr),some (.ref G.length),some (.int bg),some (.int j),x,y] (G++ [.lst (acc.map Dh)])=
    .nx [some (.fl (ns.map D.int)),some (.int b),some (.int u),some (.bl p),some (.int yr),some (.ref G.length),some (.int bg'),some (.int j),some (.int lat),some (.fl (tab 4 xs))] (G++ [.lst (acc'.map Dh)])/\
   ((j=0∨(lat % 2=1/\bg + 1 < yr))->bg'=(if 0 < j then bg + 1 + lat / 2 % (yr - bg - 1) else bg)/\acc'=acc++ [(bg',stps xs u p)])/\
   (¬(j=0∨(lat % 2=1/\bg + 1 < yr))->bg'=bg/\acc'=acc):=by
 obtain ⟨tp,ht⟩:=ZHt (ns:=ns);have h4:=hf (b + 4) (by lia);have e4:((b + 4:Nat):Int)=(b:Int) + 4:=by lia
 rw [e4] at h4;let lat:Int:=if tp then f (b + 4) / Qd j else f (b + 4) * 48271 * ((j:Int) * j + 1) % 10007
 let xs:Nat->Int:=if tp then λk=>f (b + 5 + k) / Rx j else λk=>f (b + 5 + (3 * j + k) % 6) / (1 + 7 * ((j:Int) / 2))
 refine ⟨lat,xs,λG bg acc x y ha hbg=> ?_⟩;have hr:inR 4:=Fq (by lia) (by lia);have hal:acc.length < 1000000:=by lia
 have fz:∀ds:List D,(∀m,bels m ds=true)->freeze (G++ [.lst (acc.map Dh)]) (.ok (.ref (G.length + 1)) (G++ [.lst (acc.map Dh),.lst ds]))=.ok (.fl ds) (G++ [.lst (acc.map Dh)]):=λds h=>ZGt (h _)
 have cs1:∀a b c d e f' g h i j':Option D,Bh 1 [0,1,7] [a,b,c,d,e,f',g,h,i,j']= [none,a,b,h]:=λ_ _ _ _ _ _ _ _ _ _=>rfl
 have mj:∀G,Bg (.int (j:Int)) (.int (j:Int)) G=.ok (.int ((j:Int) * j)) G:=λG=>Ja (by lia) (by lia)
 have mj2:∀G,Bg (.int (f (b + 4) * 48271)) (.int ((j:Int) * j + 1)) G=.ok (.int (f (b + 4) * 48271 * ((j:Int) * j + 1))) G:=λG=>Jk (by
   have:=jy (show (0:Int)<=j by lia) (show (0:Int)<=j by lia);lia) (by
   rcases (by lia:j=0∨j=1∨j=2∨j=3) with rfl | rfl | rfl | rfl <;> decide)
 have head:M4 [some (.fl (ns.map D.int)),some (.int b),some (.int u),some (.bl p),some (.int yr),some (.ref G.length),some (.int bg),some (.int j),x,y] (G++ [.lst (acc.map Dh)])=
   X4 [some (.fl (ns.map D.int)),some (.int b),some (.int u),some (.bl p),some (.int yr),some (.ref G.length),some (.int bg),some (.int j),some (.int lat),some (.fl (tab 4 xs))] (G++ [.lst (acc.map Dh)]):=by
  unfold M4 ZF3 ZEz;cases htp:tp with
  | false=>
   have e1:lat=f (b + 4) * 48271 * ((j:Int) * j + 1) % 10007:=by simp [lat,htp]
   have e2:xs=λk=>f (b + 5 + (3 * j + k) % 6) / (1 + 7 * ((j:Int) / 2)):=by simp [xs,htp]
   rw [e1,e2];rw [htp] at ht;simp [h4,mj,mj2,hr,cs1,ZFR hf hb hj,Aq,fz,ht]
  | true=>
   have e1:lat=f (b + 4) / Qd j:=by simp [lat,htp]
   have e2:xs=λk=>f (b + 5 + k) / Rx j:=by simp [xs,htp]
   rw [e1,e2];rw [htp] at ht;have dv:atI [D.int 1,D.int 48,D.int 2304,D.int 110592] (j:Int)=some (.int (Qd j)):=by rcases (by lia:j=0∨j=1∨j=2∨j=3) with rfl | rfl | rfl | rfl <;> rfl
   have dd:∀G',Cz (.int (f (b + 4))) (.int (Qd j)) G'=.ok (.int (f (b + 4) / Qd j)) G':=λG'=>by rcases (by lia:j=0∨j=1∨j=2∨j=3) with rfl | rfl | rfl | rfl <;> simp [Qd]
   have fz4:freeze (G++ [.lst (acc.map Dh)]) (.ok (.ref (G.length + 1)) (G++ [.lst (acc.map Dh),.lst [D.int 1,D.int 48,D.int 2304,D.int 110592]]))=.ok (.fl [D.int 1,D.int 48,D.int 2304,D.int 110592]) (G++ [.lst (acc.map Dh)]):=ZGt rfl;simp [h4,mj,mj2,hr,cs1,ZFR hf hb hj,Aq,fz,ht,fz4,dv,dd,ZPw hf hb hj]
 rw [head]
 clear_value lat xs
 by_cases hc:j=0∨(lat % 2=1/\bg + 1 < yr)
 ·refine ⟨_,_,?_,λ_=>⟨rfl,rfl⟩,λz=>absurd hc z⟩;unfold X4;by_cases h0:j=0
  ·subst h0;simp [ZDT,Bo,Dy,Fl,hal,Dh]
  ·have hc2:lat % 2=1/\bg + 1 < yr:=by
    rcases hc with z | z
    ·exact absurd z h0
    ·exact z
   have hj0:0 < j:=by lia
   have hp:0 < yr - bg - 1:=by lia
   have hp3:1 < yr - bg:=by lia
   simp [h0,hc2.1,hc2.2,hj0,hp3,ZDT,Bo,Dy,Fl,hal,Dh]
 ·refine ⟨bg,acc,?_,λz=>absurd z hc,λ_=>⟨rfl,rfl⟩⟩;have h0:¬j=0:=λz=>hc (.inl z)
  unfold X4;by_cases h1:lat % 2=1
  ·have h2:¬bg + 1 < yr:=λz=>hc (.inr ⟨h1,z⟩)
   simp [h0,h1,h2]
  ·simp [h0,h1]
theorem ZC5 {lat:Nat->Int} {cel:Nat->Nat->Int}
  (hd:∀j:Nat,j < 4->∀(G:DH) (bg:Int) (acc:List Ssn) (x y:Option D),acc.length<=10->bg < yr->∃bg' acc',
   M4 [some (.fl (ns.map D.int)),some (.int b),some (.int u),some (.bl p),some (.int yr),some (.ref G.length),some (.int bg),some (.int j),x,y] (G++ [.lst (acc.map Dh)])=
    .nx [some (.fl (ns.map D.int)),some (.int b),some (.int u),some (.bl p),some (.int yr),some (.ref G.length),some (.int bg'),some (.int j),some (.int (lat j)),some (.fl (tab 4 (cel j)))] (G++ [.lst (acc'.map Dh)])/\
   ((j=0∨(lat j % 2=1/\bg + 1 < yr))->bg'=(if 0 < j then bg + 1 + lat j / 2 % (yr - bg - 1) else bg)/\acc'=acc++ [(bg',stps (cel j) u p)])/\
   (¬(j=0∨(lat j % 2=1/\bg + 1 < yr))->bg'=bg/\acc'=acc)) {G:DH}:∀(m j:Nat) (bg:Int) (acc:List Ssn) (x y z:Option D),j + m=4->acc.length<=j->bg < yr->∃x' y' z' w',
   Be (gV 7) M4 (Bs j m) [some (.fl (ns.map D.int)),some (.int b),some (.int u),some (.bl p),some (.int yr),some (.ref G.length),some (.int bg),x,y,z] (G++ [.lst (acc.map Dh)])=
    .nx [some (.fl (ns.map D.int)),some (.int b),some (.int u),some (.bl p),some (.int yr),some (.ref G.length),x',y',z',w'] (G++ [.lst ((acc++Fw lat cel u p yr m j bg).map Dh)])
 | 0,j,bg,acc,x,y,z,e,ha,hb=>⟨some (.int bg),x,y,z,by rw [Im,Dm];simp [Fw]⟩
 | m + 1,j,bg,acc,x,y,z,e,ha,hb=>by
  obtain ⟨bg',acc',h1,h2,h3⟩:=hd j (by lia) G bg acc y z (by lia) hb;have e1:((j:Int) + 1)=((j + 1:Nat):Int):=by lia
  by_cases hc:j=0∨(lat j % 2=1/\bg + 1 < yr)
  ·obtain ⟨r1,r2⟩:=h2 hc;have hbg:bg' < yr:=by
    rw [r1];split
    ·have h4:bg + 1 < yr:=by
      rcases hc with z | z
      ·lia
      ·exact z.2
     have h5:lat j / 2 % (yr - bg - 1) < yr - bg - 1:=jz _ (by lia);lia
    ·exact hb
   obtain ⟨x',y',z',w',ih⟩:=ZC5 hd (G:=G) m (j + 1) bg' acc' (some (.int j)) (some (.int (lat j))) (some (.fl (tab 4 (cel j)))) (by lia) (by rw [r2];simp;lia) hbg;refine ⟨x',y',z',w',?_⟩;rw [Hw,Cy];simp only [Do,R.Dj,zU,h1,Dv];have er:Fw lat cel u p yr (m + 1) j bg=(bg',stps (cel j) u p)::Fw lat cel u p yr m (j + 1) bg':=by rw [r1];exact if_pos hc
   rw [e1,ih,r2,er];simp
  ·obtain ⟨r1,r2⟩:=h3 hc;obtain ⟨x',y',z',w',ih⟩:=ZC5 hd (G:=G) m (j + 1) bg' acc' (some (.int j)) (some (.int (lat j))) (some (.fl (tab 4 (cel j)))) (by lia) (by rw [r2];lia) (by rw [r1];exact hb);refine ⟨x',y',z',w',?_⟩;rw [Hw,Cy];simp only [Do,R.Dj,zU,h1,Dv];rw [e1,ih,r2,r1]
   conv=>rhs;unfold Fw
   rw [if_neg hc]
structure RuleOk (yr:Int) (p:Bool) (r:List Ssn):Prop where
 good:∀s∈r,Good 0 s.2/\(p=false->∀t∈s.2,t.r=true)
 cons:∃st rest,r=(0,st)::rest
 asc:r.Pairwise (λa b:Ssn=>a.1 < b.1)
 yr:∀s∈r,0<=s.1/\s.1 < yr
 len:r.length<=4
theorem Z2 {lat:Nat->Int} {cel:Nat->Nat->Int} {u:Int} {p:Bool} {yr:Int}:∀(m j:Nat) (bg:Int),(Fw lat cel u p yr m j bg).length<=m
 | 0,_,_=>zK _
 | m + 1,j,bg=>by
  unfold Fw;split
  ·have:=Z2 (lat:=lat) (cel:=cel) (u:=u) (p:=p) (yr:=yr) m (j + 1) (if 0 < j then bg + 1 + lat j / 2 % (yr - bg - 1) else bg);simp only [qZ];lia
  ·have:=Z2 (lat:=lat) (cel:=cel) (u:=u) (p:=p) (yr:=yr) m (j + 1) bg;lia
theorem ZDf (hf:∀k:Nat,k<=1000->∀G,Bb [.fl (ns.map D.int),.int k] G=.ok (.int (f k)) G) (hyr:1<=yr/\yr<=24) (cy:∀G,K1 [.fl (ns.map D.int)] G=.ok (.int yr) G) (hb:b<=900) (hu:0 < u) :
  ∃r:List Ssn,RuleOk yr p r/\∀G,Vm [.fl (ns.map D.int),.int b,.int u,.bl p] G=.ok (.tup (r.map Dh)) G:=by
 have ex:∀j:Nat,∃q:Int×(Nat->Int),j < 4->∀(G:DH) (bg:Int) (acc:List Ssn) (x y:Option D),acc.length<=10->bg < yr->∃bg' acc',
   M4 [some (.fl (ns.map D.int)),some (.int b),some (.int u),some (.bl p),some (.int yr),some (.ref G.length),some (.int bg),some (.int j),x,y] (G++ [.lst (acc.map Dh)])=
    .nx [some (.fl (ns.map D.int)),some (.int b),some (.int u),some (.bl p),some (.int yr),some (.ref G.length),some (.int bg'),some (.int j),some (.int q.1),some (.fl (tab 4 q.2))] (G++ [.lst (acc'.map Dh)])/\
   ((j=0∨(q.1 % 2=1/\bg + 1 < yr))->bg'=(if 0 < j then bg + 1 + q.1 / 2 % (yr - bg - 1) else bg)/\acc'=acc++ [(bg',stps q.2 u p)])/\
   (¬(j=0∨(q.1 % 2=1/\bg + 1 < yr))->bg'=bg/\acc'=acc):=λj=>by
  by_cases hj:j < 4
  ·obtain ⟨lat,xs,h⟩:=ZOI (u:=u) (yr:=yr) (p:=p) hf hb hj;exact ⟨(lat,xs),λ_=>h⟩
  ·exact ⟨(0,λ_=>0),λz=>absurd z hj⟩
 let lat:Nat->Int:=λj=>(ex j).choose.1
 let cel:Nat->Nat->Int:=λj=>(ex j).choose.2
 have hd:=λ(j:Nat) (hj:j < 4)=>(ex j).choose_spec hj
 refine ⟨Fw lat cel u p yr 4 0 0,⟨Yy hu 4 0 0,?_,?_,?_,Z2 4 0 0⟩,λG=> ?_⟩
 ·unfold Fw;rw [if_pos (.inl rfl)];exact ⟨_,_,rfl⟩
 ·unfold Fw;rw [if_pos (.inl rfl)];obtain ⟨i1,i2⟩:=W0 (lat:=lat) (cel:=cel) (u:=u) (p:=p) (yr:=yr) 3 1 0 (by lia) (by lia);exact List.pairwise_cons.mpr ⟨λs hs=>(i1 s hs).1,i2⟩
 ·unfold Fw;rw [if_pos (.inl rfl)];obtain ⟨i1,i2⟩:=W0 (lat:=lat) (cel:=cel) (u:=u) (p:=p) (yr:=yr) 3 1 0 (by lia) (by lia);intro s hs;rcases zx.mp hs with rfl | hs
  ·exact ⟨zE _,by show (0:Int) < yr;lia⟩
  ·have:=i1 s hs;lia
 ·obtain ⟨x',y',z',w',hL⟩:=ZC5 (lat:=lat) (cel:=cel) hd (G:=G) 4 0 0 [] none none none (by lia) (by simp) (by lia);have hL':Be (gV 7) M4 (Bs 0 4) [some (.fl (ns.map D.int)),some (.int b),some (.int u),some (.bl p),some (.int yr),some (.ref G.length),some (.int 0),none,none,none] (G++ [.lst []])=.nx [some (.fl (ns.map D.int)),some (.int b),some (.int u),some (.bl p),some (.int yr),some (.ref G.length),x',y',z',w'] (G++ [.lst ((Fw lat cel u p yr 4 0 0).map Dh)]):=hL
  have hr:inR 4:=Fq (by lia) (by lia);generalize Fw lat cel u p yr 4 0 0=rl at hL';unfold Vm ZEY;rw [Br];simp [cy,Aq,Fo,hr,hL',Dy,Q6]
def ZBb:List Nat:=("abcdefghijklmnopqrstuvwxyz":Str).cps.toList
def ZC0:List Nat:=("abcdefghijkl":Str).cps.toList
theorem ZPp:∀i,i < 26->ZBb[i]? =some (97 + i):=by decide +kernel
theorem ZPl:∀i,i < 12->ZC0[i]? =some (97 + i):=by decide +kernel
def Ei (l:List Nat):Str:=⟨l.toArray⟩
theorem ZGH {l l':List Nat} (h:Ei l=Ei l'):l=l':=by have h1:=congrArg (λs:Str=>s.cps.toList) h;simpa [Ei] using h1
theorem ZMq {l l':List Nat}:Ei l++Ei l'=Ei (l++l'):=by show Str.append _ _=_;unfold Str.append Ei;simp
theorem ZE3 {s:Str} {l:List Nat} (h:s.cps.toList=l):s=Ei l:=by obtain ⟨a⟩:=s;unfold Ei;simp only at h;rw [<-h]
theorem ZKQ {o:Nat} {n:Int}:N7 ⟨#[o]⟩ n=Ei (zV n.toNat o):=by
 refine ZE3 ?_;rw [ZP8];show (zV n.toNat [o]).flatten=_;generalize n.toNat=m
 induction m with
 | zero=>rfl
 | succ m ih=>rw [zR,qy,ih,zR];rfl
def ocF (c:Int):Nat:=97 + (c / 21 % 26).toNat
def tcF (c:Int) (k:Nat):Nat:=97 + ((5 * (k:Int) + c / 546) % 12).toNat
noncomputable def Gu (c:Int) (n k:Nat):List Nat:=if c % 3=1/\n < 9 then zV (k + 1) (ocF c) else if c % 3=2 then tcF c k::zV (c / 3 % 7).toNat (ocF c) else zV (c / 3 % 7).toNat (ocF c)++tcF c k::zV (6 - (c / 3 % 7)).toNat (ocF c)
theorem ZJM {n:Nat} (hn:n<=12) (hk:k < n) (G:DH):Wv [.int c,.int k,.int n] G=.ok (.str (Ei (Gu c n k))) G:=by
 have a1:atI ZBb (c / 21 % 26)=some (ocF c):=Eo (k:=(c / 21 % 26).toNat) (by lia) (ZPp _ (by lia));have a2:atI ZC0 ((5 * (k:Int) + c / 546) % 12)=some (tcF c k):=Eo (k:=((5 * (k:Int) + c / 546) % 12).toNat) (by lia) (ZPl _ (by lia));have l1:("abcdefghijklmnopqrstuvwxyz":Str).length<=1000000:=by decide +kernel
 have l2:("abcdefghijkl":Str).length<=1000000:=by decide +kernel
 have ho:∀m:Int,-1000<=m->m<=1000->∀G,Bg (.str ⟨#[ocF c]⟩) (.int m) G=.ok (.str (Ei (zV m.toNat (ocF c)))) G:=λm h1 h2 G=>by rw [ZPN ⟨h1,h2,by show (#[ocF c]).size<=1000;simp⟩,ZKQ]
 have e1:∀G,Aj (.str ("abcdefghijklmnopqrstuvwxyz":Str)) (.int (c / 21 % 26)) G=R.ok (.str ⟨#[ocF c]⟩) G:=λG=>by
  rw [P0,if_pos l1]
  show (match atI ZBb (c / 21 % 26) with | some c=>R.ok (sgn c) G | none=>.bad)=_
  rw [a1]
  rfl
 have e2:∀G,Aj (.str ("abcdefghijkl":Str)) (.int ((5 * (k:Int) + c / 546) % 12)) G=R.ok (.str (Ei [tcF c k])) G:=λG=>by
  rw [P0,if_pos l2]
  show (match atI ZC0 ((5 * (k:Int) + c / 546) % 12) with | some c=>R.ok (sgn c) G | none=>.bad)=_
  rw [a2]
  rfl
 have hadd:∀(l l':List Nat) (G:DH),l.length + l'.length<=1000000->Ar (.str (Ei l)) (.str (Ei l')) G=.ok (.str (Ei (l++l'))) G:=λl l' G h=>by
  have e:Ar (.str (Ei l)) (.str (Ei l')) G=if (Ei l).length + (Ei l').length<=1000000 then .ok (.str (Ei l++Ei l')) G else .bad:=rfl
  rw [e,if_pos (by show l.toArray.size + l'.toArray.size<=1000000;simpa using h),ZMq]
 unfold Wv ZEL;rw [Br];by_cases h1:c % 3=1
 ·by_cases h9:n < 9
  ·have en:Gu c n k=zV (k + 1) (ocF c):=if_pos ⟨h1,h9⟩;have hk2:=ho ((k:Int) + 1) (by lia) (by lia);have ek:((k:Int) + 1).toNat=k + 1:=by lia
   rw [ek] at hk2;rw [en];have h9':(n:Int) < 9:=by lia
   simp [-P0,e1,h1,h9',hk2,Ci]
  ·have en:Gu c n k=zV (c / 3 % 7).toNat (ocF c)++tcF c k::zV (6 - (c / 3 % 7)).toNat (ocF c):=by unfold Gu;rw [if_neg (λz=>h9 z.2),if_neg (by lia)]
   have r1:=ho (c / 3 % 7) (by lia) (by lia);have r2:=ho (6 - (c / 3 % 7)) (by lia) (by lia);have d1:=λG=>hadd (zV (c / 3 % 7).toNat (ocF c)) [tcF c k] G (by simp;lia)
   have d2:=λG=>hadd (zV (c / 3 % 7).toNat (ocF c)++ [tcF c k]) (zV (6 - (c / 3 % 7)).toNat (ocF c)) G (by simp;lia)
   have ea:zV (c / 3 % 7).toNat (ocF c)++ [tcF c k]++zV (6 - (c / 3 % 7)).toNat (ocF c)=Gu c n k:=by rw [en];simp
   rw [ea] at d2;have h9':¬(n:Int) < 9:=by lia
   simp [-P0,e1,e2,h1,h9',r1,r2,d1,d2,Ci]
 ·by_cases h2:c % 3=2
  ·have en:Gu c n k=tcF c k::zV (c / 3 % 7).toNat (ocF c):=by unfold Gu;rw [if_neg (λz=>h1 z.1),if_pos h2]
   have r1:=ho (c / 3 % 7) (by lia) (by lia);have d1:=λG=>hadd [tcF c k] (zV (c / 3 % 7).toNat (ocF c)) G (by simp;lia)
   have ea: [tcF c k]++zV (c / 3 % 7).toNat (ocF c)=Gu c n k:=by rw [en];rfl
   rw [ea] at d1;simp [-P0,e1,e2,h2,r1,d1,Ci]
  ·have en:Gu c n k=zV (c / 3 % 7).toNat (ocF c)++tcF c k::zV (6 - (c / 3 % 7)).toNat (ocF c):=by unfold Gu;rw [if_neg (λz=>h1 z.1),if_neg h2]
   have r1:=ho (c / 3 % 7) (by lia) (by lia);have r2:=ho (6 - (c / 3 % 7)) (by lia) (by lia);have d1:=λG=>hadd (zV (c / 3 % 7).toNat (ocF c)) [tcF c k] G (by simp;lia)
   have d2:=λG=>hadd (zV (c / 3 % 7).toNat (ocF c)++ [tcF c k]) (zV (6 - (c / 3 % 7)).toNat (ocF c)) G (by simp;lia)
   have ea:zV (c / 3 % 7).toNat (ocF c)++ [tcF c k]++zV (6 - (c / 3 % 7)).toNat (ocF c)=Gu c n k:=by rw [en];simp
   rw [ea] at d2;simp [-P0,e1,e2,h1,h2,r1,r2,d1,d2,Ci]
theorem ZGJ {k':Nat} (hk:k < 12) (hk':k' < 12) (h:tcF c k=tcF c k'):k=k':=by unfold tcF at h;omega +splitNatSub
theorem ZNW {n k':Nat} (hn:n<=12) (hk:k < n) (hk':k' < n) (h:Gu c n k=Gu c n k'):k=k':=by
 unfold Gu at h;split at h
 ·have:=congrArg List.length h;simp at this;exact this
 ·split at h
  ·exact ZGJ (by lia) (by lia) (List.cons.inj h).1
  ·have:=List.append_cancel_left h;exact ZGJ (by lia) (by lia) (List.cons.inj this).1
theorem ZOF:("sea":Str)=Ei [115,101,97]:=by decide +kernel
theorem ZOC {n:Nat}:Ei (Gu c n k)≠"sea":=λh=>by
 rw [ZOF] at h;have h:=ZGH h;unfold Gu at h;split at h
 ·have h1:∀x∈ [115,101,97],x=ocF c:=λx hx=>by rw [<-h] at hx;exact List.eq_of_mem_replicate hx
  have a:=h1 115 (by simp);have b:=h1 101 (by simp);lia
 ·split at h
  ·have:=(List.cons.inj h).1;unfold tcF at this;lia
  ·have:=congrArg List.length h;simp at this;lia
theorem Q4 {te:DE} {S:DSt} {E:α->D} {F:α->D} {G:DH}:∀{l:List α},(∀a∈l,te (S.set 0 (some (E a))) G=.ok (F a) G)->Dz (gV 0) Cd te S (l.map E) G=.ok (l.map F) G
 | [],_=>rfl
 | a::l,h=>by
  have h1:=h a (by simp);have ih:=Q4 (te:=te) (S:=S) (E:=E) (F:=F) (G:=G) (l:=l) λb hb=>h b (zJ _ hb)
  rw [zC,ZBK];simp [h1,ih]
def Df (nm:Nat->Str) (n:Nat):List D:=(zX n).map λk=>.str (nm k)
theorem Wf {n:Nat} (h:k < n):atI (Df nm n) (k:Int)=some (.str (nm k)):=Eo rfl (by simp [Df,h])
theorem Ub {n:Nat}:(Df nm n).length=n:=by simp [Df]
@[simp] theorem ZKD {n:Nat}:bels m (Df nm n)=true:=Gq λ_ _=>rfl
noncomputable def Ju (nm:Nat->Str):Option (Nat×Nat×Int)->D
 | none=>.non
 | some (to,dl,m)=>.tup [.str (nm to),.int dl,.int m]
@[simp] theorem ZQk:bel m (Ju nm q)=true:=by
 cases q with
 | none=>rfl
 | some q=>obtain ⟨a,b,c⟩:=q;simp [Ju]
theorem ZOM (hf:∀k:Nat,k<=1000->∀G,Bb [.fl (ns.map D.int),.int k] G=.ok (.int (f k)) G) (hyr:1<=yr/\yr<=24) (cy:∀G,K1 [.fl (ns.map D.int)] G=.ok (.int yr) G) (hu:0 < u) (cu:∀G,Gj [.fl (ns.map D.int)] G=.ok (.int u) G) {n:Nat} (hb:b<=900) (hk:k < n) (hn:n<=12) {d:Str} {dl:Int}:
  ∃(r:List Ssn) (q:Option (Nat×Nat×Int)),RuleOk yr q.isSome r/\(∀to dl m,q=some (to,dl,m)->to < n/\1<=dl/\dl<=5)/\
   ∀G,Sx [.fl (ns.map D.int),.int b,.int k,.fl (Df nm n),.tup [.str d,.int dl]] G=.ok (.tup [.str "basin",.str (nm k),.str d,.int dl,.int (amt (f (b + 3)) u),.tup (r.map Dh),Ju nm q]) G:=by
 have h11:∀G,Bb [.fl (ns.map D.int),.int ((b:Int) + 11)] G=.ok (.int (f (b + 11))) G:=λG=>by have:=hf (b + 11) (by lia) G;rwa [show ((b + 11:Nat):Int)=(b:Int) + 11 by lia] at this
 have h3:∀G,Bb [.fl (ns.map D.int),.int ((b:Int) + 3)] G=.ok (.int (f (b + 3))) G:=λG=>by have:=hf (b + 3) (by lia) G;rwa [show ((b + 3:Nat):Int)=(b:Int) + 3 by lia] at this
 have ak:atI (Df nm n) (k:Int)=some (.str (nm k)):=Wf hk;have fu:∀G,freeze G (.ok (.int u) G)=.ok (.int u) G:=λG=>Mm rfl
 generalize f (b + 11)=c at h11;by_cases hp:1 < n/\c % 2=1
 ·obtain ⟨r,hr,cr⟩:=ZDf (ns:=ns) (f:=f) hf hyr cy hb hu (p:=true);obtain ⟨st,rest,er⟩:=hr.cons;have hx0:0<=c / 2 % ((n:Int) - 1):=qS _ (by lia);have ht0:0<=((k:Int) + 1 + c / 2 % ((n:Int) - 1)) % n:=qS _ (by lia);have ht1:((k:Int) + 1 + c / 2 % ((n:Int) - 1)) % n < n:=jz _ (by lia);generalize ht:((k:Int) + 1 + c / 2 % ((n:Int) - 1)) % n=t at ht0 ht1;have at_:atI (Df nm n) t=some (.str (nm t.toNat)):=by have:=Wf (nm:=nm) (n:=n) (k:=t.toNat) (by lia);rwa [show ((t.toNat:Nat):Int)=t by lia] at this
  have mx:∀G,Pb [.fl (r.map λs=>.int (Ii s.2))] G=.ok (.int ((rest.map λs=>Ii s.2).foldl max (Ii st))) G:=λG=>ZNs (by rw [er];simp [Cj])
  have m2:∀G,Bg (.int u) (.int (c / 130 % 2)) G=.ok (.int (u * (c / 130 % 2))) G:=λG=>Jk (by lia) (by lia)
  have cp:∀(G:DH),Dz (gV 0) Cd ZBG [none] (r.map Dh) G=.ok (r.map λs=>.int (Ii s.2)) G:=λG=>Q4 λs _=>by unfold ZBG;simp [Dh,ZJ4]
  have fz:∀G:DH,freeze G (.ok (.ref G.length) (G++ [.lst (r.map λs=>.int (Ii s.2))]))=.ok (.fl (r.map λs=>.int (Ii s.2))) G:=λG=>Ga (Gq λ_ _=>rfl)
  have hd:((1 + c / 26 % 5).toNat:Int)=1 + c / 26 % 5:=by lia
  refine ⟨r,some (t.toNat,(1 + c / 26 % 5).toNat,(rest.map λs=>Ii s.2).foldl max (Ii st) + u * (c / 130 % 2)),hr,?_,λG=> ?_⟩
  ·intro to dl m e;cases e;lia
  ·have h1:(1:Int) < n:=by lia
   have h1':0 < (n:Int) - 1:=by lia
   have hn0:0 < (n:Int):=by lia
   have hn0':0 < n:=by lia
   have hrl:r.length<=1000000:=by have:=hr.len;lia
   unfold Sx Z3;rw [Br];simp [hrl,cu,fu,h11,Ub,hp.1,hp.2,h1,h1',hn0,hn0',cr,cp,Bh,fz,mx,m2,ht,at_,Bo,h3,La hu,ak,Ci,Ju,hd]
 ·obtain ⟨r,hr,cr⟩:=ZDf (ns:=ns) (f:=f) hf hyr cy hb hu (p:=false)
  refine ⟨r,none,hr,(λto dl m e=>nomatch e),λG=> ?_⟩
  unfold Sx Z3;rw [Br];by_cases h1:1 < n
  ·have h2:¬c % 2=1:=λz=>hp ⟨h1,z⟩
   have h1':(1:Int) < n:=by lia
   simp [cu,fu,h11,Ub,h1,h1',h2,cr,Bo,h3,La hu,ak,Ci,Ju]
  ·have h1':¬(1:Int) < n:=by lia
   simp [cu,fu,h11,Ub,h1,h1',cr,Bo,h3,La hu,ak,Ci,Ju]
def dnS (nm:Nat->Str):Option Nat->Str
 | none=>"sea"
 | some d=>nm d
noncomputable def I8 (nm:Nat->Str) (p:Pl):D:=match p.kd with
 | .basin b r q=>.tup [.str "basin",.str p.nm,.str (dnS nm p.dn),.int p.dl,.int b,.tup (r.map Dh),Ju nm q]
 | .town a b=>.tup [.str "town",.str p.nm,.str (dnS nm p.dn),.int p.dl,.int a,.int b]
 | .mill a=>.tup [.str "mill",.str p.nm,.str (dnS nm p.dn),.int p.dl,.int a]
structure PlOk (yr:Int) (nm:Nat->Str) (n k:Nat) (p:Pl):Prop where
 nm:p.nm=nm k
 dn:∀d,p.dn=some d->k < d/\d < n
 dl:p.dl<=5
 basin:∀b r q,p.kd=.basin b r q->0<=b/\RuleOk yr q.isSome r/\∀to dl m,q=some (to,dl,m)->to < n/\1<=dl/\dl<=5
 town:∀a b,p.kd=.town a b->0<=a/\0<=b
 mill:∀a,p.kd=.mill a->0<=a
theorem ZNK (hf:∀k:Nat,k<=1000->∀G,Bb [.fl (ns.map D.int),.int k] G=.ok (.int (f k)) G) (hyr:1<=yr/\yr<=24) (cy:∀G,K1 [.fl (ns.map D.int)] G=.ok (.int yr) G) (hu:0 < u) (cu:∀G,Gj [.fl (ns.map D.int)] G=.ok (.int u) G) {n:Nat} (hk:k < n) (hn:n<=12) :
  ∃p:Pl,PlOk yr nm n k p/\∀(G:DH) (acc:List D) (x6 x7 x8 x9 x10 x11 x12:Option D),acc.length<=20->∃y6 y7 y8 y9 y10 y11 y12,
   Lw [some (.fl (ns.map D.int)),some (.int c),some (.int n),some (.fl (Df nm n)),some (.int k),some (.ref G.length),x6,x7,x8,x9,x10,x11,x12] (G++ [.lst acc])=
    .nx [some (.fl (ns.map D.int)),some (.int c),some (.int n),some (.fl (Df nm n)),some (.int k),some (.ref G.length),y6,y7,y8,y9,y10,y11,y12] (G++ [.lst (acc++ [I8 nm p])]):=by
 have hc:∀j:Nat,j<=11->∀G,Bb [.fl (ns.map D.int),.int (((6 + 12 * k:Nat):Int) + j)] G=.ok (.int (f (6 + 12 * k + j))) G:=λj hj G=>by have:=hf (6 + 12 * k + j) (by lia) G;rwa [show ((6 + 12 * k + j:Nat):Int)=((6 + 12 * k:Nat):Int) + j by lia] at this
 have hb:6 + 12 * k<=900:=by lia
 have e6:(6 + 12 * (k:Int))=((6 + 12 * k:Nat):Int):=by lia
 have m12:∀G,Bg (.int 12) (.int (k:Int)) G=.ok (.int (12 * (k:Int))) G:=λG=>Ja (by lia) (by lia)
 have h0:∀G,Bb [.fl (ns.map D.int),.int ((6 + 12 * k:Nat):Int)] G=.ok (.int (f (6 + 12 * k))) G:=hf _ (by lia);have h1:∀G,Bb [.fl (ns.map D.int),.int (((6 + 12 * k:Nat):Int) + 1)] G=.ok (.int (f (6 + 12 * k + 1))) G:=hc 1 (by lia);have h2:∀G,Bb [.fl (ns.map D.int),.int (((6 + 12 * k:Nat):Int) + 2)] G=.ok (.int (f (6 + 12 * k + 2))) G:=hc 2 (by lia);have h3:∀G,Bb [.fl (ns.map D.int),.int (((6 + 12 * k:Nat):Int) + 3)] G=.ok (.int (f (6 + 12 * k + 3))) G:=hc 3 (by lia)
 have h4:∀G,Bb [.fl (ns.map D.int),.int (((6 + 12 * k:Nat):Int) + 4)] G=.ok (.int (f (6 + 12 * k + 4))) G:=hc 4 (by lia);have ak:atI (Df nm n) (k:Int)=some (.str (nm k)):=Wf hk;have fu:∀G,freeze G (.ok (.int u) G)=.ok (.int u) G:=λG=>Mm rfl
 have cb:=λd dl=>ZOM (nm:=nm) (d:=d) (dl:=dl) hf hyr cy hu cu hb hk hn
 generalize 6 + 12 * k=b at hc hb e6 h0 h1 h2 h3 h4 cb;obtain ⟨s,hs0,hs1,hs⟩:∃s:Int,0<=s/\s < (n:Int) - k/\∀(H:DH) (x5 x7 x8 x9 x10 x11 x12:Option D),Uk [some (.fl (ns.map D.int)),some (.int c),some (.int n),some (.fl (Df nm n)),some (.int k),x5,some (.int b),x7,x8,x9,x10,x11,x12] H=
   Tv [some (.fl (ns.map D.int)),some (.int c),some (.int n),some (.fl (Df nm n)),some (.int k),x5,some (.int b),some (.int s),x8,x9,x10,x11,x12] H:=by
  have hm:0 < (n:Int) - k:=by lia
  have hm':(k:Int) < n:=by lia
  by_cases hw:c / 280 % 3=1
  ·refine ⟨min 1 ((n:Int) - 1 - k),by lia,by lia,λH x5 x7 x8 x9 x10 x11 x12=> ?_⟩;unfold Uk ZCU;simp [h1,hm,hm',hk,hw]
  ·refine ⟨f (b + 1) % ((n:Int) - k),qS _ (by lia),jz _ hm,λH x5 x7 x8 x9 x10 x11 x12=> ?_⟩;unfold Uk ZCU;simp [h1,hm,hm',hk,hw]
 obtain ⟨dn,dl,hdn,hdl,hr⟩:∃(dn:Option Nat) (dl:Nat),(∀d,dn=some d->k < d/\d < n)/\dl<=5/\∀(H:DH) (x5 x8 x9 x10 x11 x12:Option D),Tv [some (.fl (ns.map D.int)),some (.int c),some (.int n),some (.fl (Df nm n)),some (.int k),x5,some (.int b),some (.int s),x8,x9,x10,x11,x12] H=
   Rz [some (.fl (ns.map D.int)),some (.int c),some (.int n),some (.fl (Df nm n)),some (.int k),x5,some (.int b),some (.int s),some (.int (f (b + 2))),some (.tup [.str (dnS nm dn),.int dl]),x10,x11,x12] H:=by
  have hd:((f (b + 2) % 2 * (f (b + 2) / 2 % 6)).toNat:Int)=f (b + 2) % 2 * (f (b + 2) / 2 % 6)/\(f (b + 2) % 2 * (f (b + 2) / 2 % 6)).toNat<=5:=by rcases (by lia:f (b + 2) % 2=0∨f (b + 2) % 2=1) with z | z <;> rw [z] <;> lia
  have md:∀G,Bg (.int (f (b + 2) % 2)) (.int (f (b + 2) / 2 % 6)) G=.ok (.int (f (b + 2) % 2 * (f (b + 2) / 2 % 6))) G:=λG=>Jk (by lia) (by lia)
  generalize f (b + 2) % 2 * (f (b + 2) / 2 % 6)=w at hd md;by_cases hp:0 < s
  ·have a2:atI (Df nm n) ((k:Int) + s)=some (.str (nm (k + s.toNat))):=by have:=Wf (nm:=nm) (n:=n) (k:=k + s.toNat) (by lia);rwa [show ((k + s.toNat:Nat):Int)=(k:Int) + s by lia] at this
   refine ⟨some (k + s.toNat),w.toNat,λd e=>by cases e;lia,hd.2,λH x5 x8 x9 x10 x11 x12=> ?_⟩;unfold Tv Z9 ZAN;simp [h2,md,hp,a2,Bo,dnS,hd.1]
  ·refine ⟨none,w.toNat,(λd e=>nomatch e),hd.2,λH x5 x8 x9 x10 x11 x12=> ?_⟩
   unfold Tv Z9 ZAN;simp [h2,md,hp,Bo,dnS,hd.1]
 obtain ⟨rk,hrk,hk2⟩:∃rk:Int,0<=rk/\∀(H:DH) (x5 x7 x8 x9 x10 x11 x12:Option D),Rz [some (.fl (ns.map D.int)),some (.int c),some (.int n),some (.fl (Df nm n)),some (.int k),x5,some (.int b),x7,x8,x9,x10,x11,x12] H=
   Pa [some (.fl (ns.map D.int)),some (.int c),some (.int n),some (.fl (Df nm n)),some (.int k),x5,some (.int b),x7,x8,x9,some (.int (f b % 5)),some (.int (amt (f (b + 3)) u)),some (.int rk)] H:=by
  have fz:∀G:DH,freeze G (.ok (.ref G.length) (G++ [.lst [.int 4,.int 10000000000000000000000000000000000000000]]))=.ok (.fl [.int 4,.int 10000000000000000000000000000000000000000]) G:=λG=>Ga rfl
  rcases (by lia:c / 840 % 2=0∨c / 840 % 2=1) with z | z
  ·refine ⟨f (b + 4) % 4,by lia,λH x5 x7 x8 x9 x10 x11 x12=> ?_⟩;unfold Rz ZAx ZA2;simp [h0,h3,h4,cu,fu,La hu,z,Aq,fz]
  ·refine ⟨f (b + 4) % 10000000000000000000000000000000000000000,by lia,λH x5 x7 x8 x9 x10 x11 x12=> ?_⟩;unfold Rz ZAx ZA2;simp [h0,h3,h4,cu,fu,La hu,z,Aq,fz]
 have hal:∀acc:List D,acc.length<=20->acc.length < 1000000:=λacc h=>by lia
 have go:∀p:Pl,(∀(G:DH) (acc:List D),acc.length<=20->
   Pa [some (.fl (ns.map D.int)),some (.int c),some (.int n),some (.fl (Df nm n)),some (.int k),some (.ref G.length),some (.int b),some (.int s),some (.int (f (b + 2))),some (.tup [.str (dnS nm dn),.int dl]),some (.int (f b % 5)),some (.int (amt (f (b + 3)) u)),some (.int rk)] (G++ [.lst acc])=
    .nx [some (.fl (ns.map D.int)),some (.int c),some (.int n),some (.fl (Df nm n)),some (.int k),some (.ref G.length),some (.int b),some (.int s),some (.int (f (b + 2))),some (.tup [.str (dnS nm dn),.int dl]),some (.int (f b % 5)),some (.int (amt (f (b + 3)) u)),some (.int rk)] (G++ [.lst (acc++ [I8 nm p])]))->
   ∀(G:DH) (acc:List D) (x6 x7 x8 x9 x10 x11 x12:Option D),acc.length<=20->∃y6 y7 y8 y9 y10 y11 y12,
   Lw [some (.fl (ns.map D.int)),some (.int c),some (.int n),some (.fl (Df nm n)),some (.int k),some (.ref G.length),x6,x7,x8,x9,x10,x11,x12] (G++ [.lst acc])=
    .nx [some (.fl (ns.map D.int)),some (.int c),some (.int n),some (.fl (Df nm n)),some (.int k),some (.ref G.length),y6,y7,y8,y9,y10,y11,y12] (G++ [.lst (acc++ [I8 nm p])]):=λp h9 G acc x6 x7 x8 x9 x10 x11 x12 ha=>by
  refine ⟨some (.int b),some (.int s),some (.int (f (b + 2))),some (.tup [.str (dnS nm dn),.int dl]),some (.int (f b % 5)),some (.int (amt (f (b + 3)) u)),some (.int rk),?_⟩
  ·unfold Lw;have e:(sAs (dOp Ar (dC (.int 6)) (dOp Bg (dC (.int 12)) (dV 4))) (gV 6)) [some (.fl (ns.map D.int)),some (.int c),some (.int n),some (.fl (Df nm n)),some (.int k),some (.ref G.length),x6,x7,x8,x9,x10,x11,x12] (G++ [.lst acc])=.nx [some (.fl (ns.map D.int)),some (.int c),some (.int n),some (.fl (Df nm n)),some (.int k),some (.ref G.length),some (.int b),x7,x8,x9,x10,x11,x12] (G++ [.lst acc]):=by simp [m12,e6]
   rw [Wr,e,Vb,hs,hr,hk2];exact h9 G acc ha
 by_cases hk1:f b % 5 < 2
 ·obtain ⟨r,q,hr1,hq,cr⟩:=cb (dnS nm dn) dl
  refine ⟨⟨nm k,dn,dl,.basin (amt (f (b + 3)) u) r q⟩,⟨rfl,hdn,hdl,λb' r' q' e=> ?_,(λ_ _ e=>nomatch e),(λ_ e=>nomatch e)⟩,go _ λG acc ha=> ?_⟩
  ·cases e;exact ⟨U4 hu,hr1,hq⟩
  ·have fr:∀G:DH,freeze G (.ok (.tup [.str "basin",.str (nm k),.str (dnS nm dn),.int dl,.int (amt (f (b + 3)) u),.tup (r.map Dh),Ju nm q]) G)=.ok (.tup [.str "basin",.str (nm k),.str (dnS nm dn),.int dl,.int (amt (f (b + 3)) u),.tup (r.map Dh),Ju nm q]) G:=λG=>Mm (by simp)
   unfold Pa;simp [hk1,cr,fr,Dy,Fl,hal acc ha,I8]
 ·by_cases hk3:f b % 5 < 4
  ·refine ⟨⟨nm k,dn,dl,.town (amt (f (b + 3)) u) rk⟩,⟨rfl,hdn,hdl,(λ_ _ _ e=>nomatch e),λa b' e=> ?_,(λ_ e=>nomatch e)⟩,go _ λG acc ha=> ?_⟩
   ·cases e;exact ⟨U4 hu,hrk⟩
   ·unfold Pa;simp [hk1,hk3,ak,Bo,Dy,Fl,hal acc ha,I8]
  ·refine ⟨⟨nm k,dn,dl,.mill (amt (f (b + 3)) u)⟩,⟨rfl,hdn,hdl,(λ_ _ _ e=>nomatch e),(λ_ _ e=>nomatch e),λa e=> ?_⟩,go _ λG acc ha=> ?_⟩
   ·cases e;exact U4 hu
   ·unfold Pa;simp [hk1,hk3,ak,Bo,Dy,Fl,hal acc ha,I8]
theorem ZIF {n:Nat} {P:Nat->Pl} 
  (hd:∀k,k < n->∀(acc:List D) (x6 x7 x8 x9 x10 x11 x12:Option D),acc.length<=20->∃y6 y7 y8 y9 y10 y11 y12,
   Lw [some (.fl (ns.map D.int)),some (.int c),some (.int n),some (.fl (Df nm n)),some (.int k),some (.ref G.length),x6,x7,x8,x9,x10,x11,x12] (G++ [.lst acc])=
    .nx [some (.fl (ns.map D.int)),some (.int c),some (.int n),some (.fl (Df nm n)),some (.int k),some (.ref G.length),y6,y7,y8,y9,y10,y11,y12] (G++ [.lst (acc++ [I8 nm (P k)])])):
  ∀(m k:Nat) (acc:List D) (x4 x6 x7 x8 x9 x10 x11 x12:Option D),k + m=n->acc.length + m<=20->∃y4 y6 y7 y8 y9 y10 y11 y12,
   Be (gV 4) Lw (Bs k m) [some (.fl (ns.map D.int)),some (.int c),some (.int n),some (.fl (Df nm n)),x4,some (.ref G.length),x6,x7,x8,x9,x10,x11,x12] (G++ [.lst acc])=
    .nx [some (.fl (ns.map D.int)),some (.int c),some (.int n),some (.fl (Df nm n)),y4,some (.ref G.length),y6,y7,y8,y9,y10,y11,y12] (G++ [.lst (acc++(List.range' k m).map λi=>I8 nm (P i))])
 | 0,k,acc,x4,x6,x7,x8,x9,x10,x11,x12,e,ha=>⟨x4,x6,x7,x8,x9,x10,x11,x12,by rw [Im,Dm];simp⟩
 | m + 1,k,acc,x4,x6,x7,x8,x9,x10,x11,x12,e,ha=>by
  obtain ⟨y6,y7,y8,y9,y10,y11,y12,hb⟩:=hd k (by lia) acc x6 x7 x8 x9 x10 x11 x12 (by lia);obtain ⟨z4,z6,z7,z8,z9,z10,z11,z12,ih⟩:=ZIF hd m (k + 1) (acc++ [I8 nm (P k)]) (some (.int k)) y6 y7 y8 y9 y10 y11 y12 (by lia) (by simp;lia);refine ⟨z4,z6,z7,z8,z9,z10,z11,z12,?_⟩;rw [Hw,Cy];simp only [Do,R.Dj,zU,hb,Dv];have e1:((k:Int) + 1)=((k + 1:Nat):Int):=by lia
  rw [e1,ih];simp [List.range'_succ]
structure Told (h:Hs) (yr:Int):Prop where
 good:GoodH h
 one:1<=h.n
 ey:h.yr=yr
 ok:∃nm:Nat->Str,∀k,k < h.n->PlOk yr nm h.n k (h.pl k)
theorem ZPY:∃n:Nat,1<=n/\n<=12/\(n:Int)=if c / 5 % 8=1 then 6 + c / 40 % 7 else 1 + c % 5:=by
 by_cases h:c / 5 % 8=1
 ·exact ⟨(6 + c / 40 % 7).toNat,by lia,by lia,by rw [if_pos h];lia⟩
 ·exact ⟨(1 + c % 5).toNat,by lia,by lia,by rw [if_neg h];lia⟩
theorem ZN1 (hf:∀k:Nat,k<=1000->∀G,Bb [.fl (ns.map D.int),.int k] G=.ok (.int (f k)) G) (hyr:1<=yr/\yr<=24) (cy:∀G,K1 [.fl (ns.map D.int)] G=.ok (.int yr) G) (hu:0 < u) (cu:∀G,Gj [.fl (ns.map D.int)] G=.ok (.int u) G):
  ∃h:Hs,Told h yr/\∀G,Y5 [.fl (ns.map D.int)] G=.ok h.enc G:=by
 obtain ⟨n,hn1,hn,en⟩:=ZPY (c:=f 0);let nm:Nat->Str:=λk=>Ei (Gu (f 5) n k)
 have ex:∀k:Nat,∃p:Pl,k < n->(PlOk yr nm n k p/\∀(G:DH) (acc:List D) (x6 x7 x8 x9 x10 x11 x12:Option D),acc.length<=20->∃y6 y7 y8 y9 y10 y11 y12,
   Lw [some (.fl (ns.map D.int)),some (.int (f 0)),some (.int n),some (.fl (Df nm n)),some (.int k),some (.ref G.length),x6,x7,x8,x9,x10,x11,x12] (G++ [.lst acc])=
    .nx [some (.fl (ns.map D.int)),some (.int (f 0)),some (.int n),some (.fl (Df nm n)),some (.int k),some (.ref G.length),y6,y7,y8,y9,y10,y11,y12] (G++ [.lst (acc++ [I8 nm p])])):=λk=>by
  by_cases hk:k < n
  ·obtain ⟨p,hp⟩:=ZNK (nm:=nm) (c:=f 0) hf hyr cy hu cu hk hn;exact ⟨p,λ_=>hp⟩
  ·exact ⟨ZB1,λz=>absurd z hk⟩
 let P:Nat->Pl:=λk=>(ex k).choose
 have hP:=λ(k:Nat) (hk:k < n)=>((ex k).choose_spec hk).1
 have hB:=λ(k:Nat) (hk:k < n)=>((ex k).choose_spec hk).2
 let h:Hs:=⟨yr,(zX n).map P⟩;have hnn:h.n=n:=by simp [h,Hs.n]
 have hpl:∀k,k < n->h.pl k=P k:=λk hk=>by simp [h,Hs.pl,hk]
 have hg:GoodH h:=by
  refine ⟨?_,by lia,?_,?_,?_,?_,?_,?_,?_⟩
  ·show 0 < yr;lia
  ·intro i j hi hj e;rw [hnn] at hi hj;rw [hpl i hi,hpl j hj,(hP i hi).nm,(hP j hj).nm] at e;exact ZNW hn hi hj (ZGH e)
  ·intro i hi;rw [hnn] at hi;rw [hpl i hi,(hP i hi).nm];exact ZOC
  ·intro k d hk e;rw [hnn] at hk ⊢;rw [hpl k hk] at e;exact (hP k hk).dn d e
  ·intro k hk;rw [hnn] at hk;rw [hpl k hk];exact (hP k hk).dl
  ·intro k b r to dl m hk e;rw [hnn] at hk ⊢;rw [hpl k hk] at e;exact ((hP k hk).basin _ _ _ e).2.2 to dl m rfl
  ·intro k b r q hk e;rw [hnn] at hk;rw [hpl k hk] at e;have:=(hP k hk).basin _ _ _ e;exact ⟨this.1,λs hs=>(this.2.1.good s hs).1⟩
  ·intro k a b hk e;rw [hnn] at hk;rw [hpl k hk] at e;exact (hP k hk).town _ _ e
 refine ⟨h,⟨hg,by lia,rfl,nm,λk hk=>by rw [hnn] at hk ⊢;rw [hpl k hk];exact hP k hk⟩,λG=> ?_⟩;have hdT:∀o:Option Nat,(∀d,o=some d->d < n)->h.dnT o=dnS nm o:=λo ho=>by
  cases o with
  | none=>rfl
  | some d=>
   show (h.pl d).nm=nm d;rw [hpl d (ho d rfl),(hP d (ho d rfl)).nm]
 have henc:h.Dk=(List.range' 0 n).map λi=>I8 nm (P i):=by
  show ((zX n).map P).map h.encP=_;rw [qO,List.range_eq_range'];refine qQ λk hk=> ?_
  have hk':k < n:=by have:=List.mem_range'_1.mp hk;lia
  have ok:=hP k hk';show h.encP (P k)=I8 nm (P k);have ed:=hdT (P k).dn λd e=>(ok.dn d e).2
  unfold Hs.encP I8;rw [ed];cases e:(P k).kd with
  | basin b r q=>
   have hq:=(ok.basin b r q e).2.2;cases q with
   | none=>rfl
   | some q=>
    obtain ⟨to,dl,m⟩:=q;have ht:=(hq to dl m rfl).1;have e2:(h.pl to).nm=nm to:=by rw [hpl to ht,(hP to ht).nm]
    simp [Hs.Nk,Ju,e2]
  | town a b=>rfl
  | mill a=>rfl
 obtain ⟨y4,y6,y7,y8,y9,y10,y11,y12,hL⟩:=ZIF (G:=G) (P:=P) (nm:=nm) (c:=f 0) (n:=n) (ns:=ns) (λk hk=>hB k hk G) n 0 [] none none none none none none none none (by lia) (by simp;lia);rw [<-henc] at hL;have hL':Be (gV 4) Lw (Bs 0 n) [some (.fl (ns.map D.int)),some (.int (f 0)),some (.int n),some (.fl (Df nm n)),none,some (.ref G.length),none,none,none,none,none,none,none] (G++ [.lst []])=
    .nx [some (.fl (ns.map D.int)),some (.int (f 0)),some (.int n),some (.fl (Df nm n)),y4,some (.ref G.length),y6,y7,y8,y9,y10,y11,y12] (G++ [.lst h.Dk]):=hL
 have f0:∀G,Bb [.fl (ns.map D.int),.int 0] G=.ok (.int (f 0)) G:=hf 0 (by lia);have f5:∀G,Bb [.fl (ns.map D.int),.int 5] G=.ok (.int (f 5)) G:=hf 5 (by lia);have cp:∀G:DH,Dz (gV 0) Cd ZAK [none,some (.fl (ns.map D.int)),some (.int n)] (Bs 0 n) G=.ok (Df nm n) G:=λG=>Qk λk hk=>by unfold ZAK;simp [f5,ZJM hn hk,nm]
 have fz:freeze G (.ok (.ref G.length) (G++ [.lst (Df nm n)]))=.ok (.fl (Df nm n)) G:=Ga ZKD;have hr:inR (n:Int):=Fq (by lia) (by lia);have hnl:n<=1000000:=by lia
 have eh:h.enc=.tup [.int yr,.tup h.Dk]:=rfl;unfold Y5 ZEI;rw [Br];by_cases hw:f 0 / 5 % 8=1
 ·rw [if_pos hw] at en;simp [Ub,hnl,f0,hw,<-en,hr,Bh,cp,fz,Aq,Fo,hL',cy,Dy,Bo,Q6,eh]
 ·rw [if_neg hw] at en;simp [Ub,hnl,f0,hw,<-en,hr,Bh,cp,fz,Aq,Fo,hL',cy,Dy,Bo,Q6,eh]
def thr (c:Int):Nat->Int
 | 0=>c
 | j + 1=>thr (c / 3) j
theorem ZMj {s0 s1 s4 s5 s6 s7 s8:Option D} (G:DH):
  ∃y,Be (gV 11) Ra (Bs 0 5) [s0,s1,s2,some (.int u),s4,s5,s6,s7,s8,some (.int c),some (.ref G.length),x] (G++ [.lst []])=.nx [s0,s1,s2,some (.int u),s4,s5,s6,s7,s8,y,some (.ref G.length),some (.int 4)] (G++ [.lst (tab 5 λj=>u * (thr c j % 3))]):=by
 have hb:∀(c:Int) (acc:List D) (x:Option D),acc.length<=10->Ra [s0,s1,s2,some (.int u),s4,s5,s6,s7,s8,some (.int c),some (.ref G.length),x] (G++ [.lst acc])=.nx [s0,s1,s2,some (.int u),s4,s5,s6,s7,s8,some (.int (c / 3)),some (.ref G.length),x] (G++ [.lst (acc++ [.int (u * (c % 3))])]):=λc acc x ha=>by
  have m:∀G,Bg (.int u) (.int (c % 3)) G=.ok (.int (u * (c % 3))) G:=λG=>Jk (by lia) (by lia)
  have hal:acc.length < 1000000:=by lia
  unfold Ra ZGT;simp [m,Dy,Fl,hal]
 have e:Bs 0 5= [.int 0,.int 1,.int 2,.int 3,.int 4]:=rfl;refine ⟨some (.int (c / 3 / 3 / 3 / 3 / 3)),?_⟩;rw [e];simp only [Cy,Dm,Do,R.Dj,zU,Dv];rw [hb _ _ _ (by simp)];simp only [Dv,Cy,Dm,Do,R.Dj,zU];rw [hb _ _ _ (by simp)];simp only [Dv,Cy,Dm,Do,R.Dj,zU];rw [hb _ _ _ (by simp)];simp only [Dv,Cy,Dm,Do,R.Dj,zU];rw [hb _ _ _ (by simp)];simp only [Dv,Cy,Dm,Do,R.Dj,zU];rw [hb _ _ _ (by simp)]
 simp only [Dv,Cy,Dm,Do,R.Dj,zU];simp [tab5,thr]
noncomputable def lvS (h:Hs) (f:Nat->Int) (u:Int) (k:Nat):Int:=match (h.pl k).kd with
 | .basin b _ _=>amt (f (6 + 12 * h.n + k)) u % (b + 1)
 | _=>0
def coS (h:Hs) (f:Nat->Int) (u:Int) (k j:Nat):Int:=u * (thr (f (6 + 12 * h.n + h.n + k)) j % 3)
theorem ZMW (hu:0 < u) (k j:Nat):0<=coS h f u k j:=jy (by lia) (by lia)
theorem ZA5 (g:GoodH h) (hk:k < h.n):0<=lvS h f u k/\(∀b r q,(h.pl k).kd=.basin b r q->lvS h f u k<=b)/\((h.pl k).kd.isB=false->lvS h f u k=0):=by
 unfold lvS;cases e:(h.pl k).kd with
 | basin b r q=>
  have:=(g.brim k b r q hk e).1
  refine ⟨qS _ (by lia),λb' r' q' e'=> ?_,λz=>nomatch z⟩
  cases e';show amt (f (6 + 12 * h.n + k)) u % (b + 1)<=b;have:=jz (amt (f (6 + 12 * h.n + k)) u) (show 0 < b + 1 by lia);lia
 | town a b=>exact ⟨zE _,(λ_ _ _ z=>nomatch z),λ_=>rfl⟩
 | mill a=>exact ⟨zE _,(λ_ _ _ z=>nomatch z),λ_=>rfl⟩
theorem ZF2 (hf:∀k:Nat,k<=1000->∀G,Bb [.fl (ns.map D.int),.int k] G=.ok (.int (f k)) G) {u:Int} (hu:0 < u) (g:GoodH h) {s1:Option D} {G:DH}:∀(m k:Nat) (L:DH) (x7 x8 x9 x10 x11:Option D),k + m=h.n->∃L' y7 y8 y9 y10 y11,
  Be (gV 7) Rr (Bs k m) [some (.fl (ns.map D.int)),s1,some (.tup h.Dk),some (.int u),some (.int ((6 + 12 * h.n:Nat):Int)),some (.ref G.length),some (.ref (G.length + 1)),x7,x8,x9,x10,x11] (G++ .lst (tab k (lvS h f u)):: .lst (Bk k (coS h f u))::L)=
   .nx [some (.fl (ns.map D.int)),s1,some (.tup h.Dk),some (.int u),some (.int ((6 + 12 * h.n:Nat):Int)),some (.ref G.length),some (.ref (G.length + 1)),y7,y8,y9,y10,y11] (G++ .lst (tab h.n (lvS h f u)):: .lst (Bk h.n (coS h f u))::L')
 | 0,k,L,x7,x8,x9,x10,x11,e=>by
  have e1:k=h.n:=by lia
  subst e1;exact ⟨L,x7,x8,x9,x10,x11,by rw [Im,Dm]⟩
 | m + 1,k,L,x7,x8,x9,x10,x11,e=>by
  have hk:k < h.n:=by lia
  have hn:=g.len;let c:Int:=f (6 + 12 * h.n + h.n + k);let G1:DH:=G++ .lst (tab (k + 1) (lvS h f u)):: .lst (Bk k (coS h f u))::L;obtain ⟨y,hR⟩:=ZMj (u:=u) (c:=c) (s0:=some (.fl (ns.map D.int))) (s1:=s1) (s2:=some (.tup h.Dk)) (s4:=some (.int ((6 + 12 * h.n:Nat):Int))) (s5:=some (.ref G.length)) (s6:=some (.ref (G.length + 1))) (s7:=some (.int k)) (s8:=some (.int (lvS h f u k))) (x:=x11) G1;obtain ⟨L',y7,y8,y9,y10,y11,ih⟩:=ZF2 hf hu g m (k + 1) (L++ [.lst (tab 5 (coS h f u k))]) (s1:=s1) (G:=G) (some (.int k)) (some (.int (lvS h f u k))) y (some (.ref G1.length)) (some (.int 4)) (by lia)
  refine ⟨L',y7,y8,y9,y10,y11,?_⟩;have ap:atI h.Dk (k:Int)=some (h.encP (h.pl k)):=Hs.Ey hk;have c1:∀G,Bb [.fl (ns.map D.int),.int (((6 + 12 * h.n:Nat):Int) + (k:Int))] G=.ok (.int (f (6 + 12 * h.n + k))) G:=λG=>by have:=hf (6 + 12 * h.n + k) (by lia) G;rwa [show ((6 + 12 * h.n + k:Nat):Int)=((6 + 12 * h.n:Nat):Int) + k by lia] at this
  have c2:∀G,Bb [.fl (ns.map D.int),.int (((6 + 12 * h.n:Nat):Int) + (h.n:Int) + (k:Int))] G=.ok (.int c) G:=λG=>by have:=hf (6 + 12 * h.n + h.n + k) (by lia) G;rwa [show ((6 + 12 * h.n + h.n + k:Nat):Int)=((6 + 12 * h.n:Nat):Int) + h.n + k by lia] at this
  have hbb:(6 + 12 * h.n:Nat)=(6 + 12 * h.n):=rfl;generalize hB:((6 + 12 * h.n:Nat):Int)=B at c1 c2 hR ih ⊢;have t1:∀(H:DH) (x9 x10 x11:Option D),Rr [some (.fl (ns.map D.int)),s1,some (.tup h.Dk),some (.int u),some (.int B),some (.ref G.length),some (.ref (G.length + 1)),some (.int k),x8,x9,x10,x11] H=Vl [some (.fl (ns.map D.int)),s1,some (.tup h.Dk),some (.int u),some (.int B),some (.ref G.length),some (.ref (G.length + 1)),some (.int k),some (.int (lvS h f u k)),x9,x10,x11] H:=λH x9 x10 x11=>by
   unfold Rr ZEa lvS;cases e:(h.pl k).kd with
   | basin b r q=>
    have hb0:=(g.brim k b r q hk e).1;have e4:∀G,Aj (h.encP (h.pl k)) (.int 4) G=.ok (.int b) G:=λG=>by unfold Hs.encP;rw [e];simp
    have hb1:0 < b + 1:=by lia
    have hb2:¬b + 1=0:=by lia
    simp [ap,Iw,e,Kd.isB,c1,La hu,e4,hb1,hb2]
   | town a b=>simp [ap,Iw,e,Kd.isB]
   | mill a=>simp [ap,Iw,e,Kd.isB]
  have hl1:k < 1000000:=by lia
  have et:tab k (lvS h f u)++ [.int (lvS h f u k)]=tab (k + 1) (lvS h f u):=by simp [tab,jx]
  have er:Bk k (coS h f u)++ [.tup (tab 5 (coS h f u k))]=Bk (k + 1) (coS h f u):=by simp [Bk,jx]
  have t2:Vl [some (.fl (ns.map D.int)),s1,some (.tup h.Dk),some (.int u),some (.int B),some (.ref G.length),some (.ref (G.length + 1)),some (.int k),some (.int (lvS h f u k)),x9,x10,x11] (G++ .lst (tab k (lvS h f u)):: .lst (Bk k (coS h f u))::L)=Um [some (.fl (ns.map D.int)),s1,some (.tup h.Dk),some (.int u),some (.int B),some (.ref G.length),some (.ref (G.length + 1)),some (.int k),some (.int (lvS h f u k)),some (.int c),some (.ref G1.length),x11] (G1++ [.lst []]):=by
   have tn:tidy G1 (.ok (.ref G1.length) (G1++ [.lst []]))=.ok (.ref G1.length) (G1++ [.lst []]):=Fo rfl;unfold Vl ZDn ZFS;have a1:(sEx (Fe Fj (dV 5) (Ab (dV 8) Ad))) [some (.fl (ns.map D.int)),s1,some (.tup h.Dk),some (.int u),some (.int B),some (.ref G.length),some (.ref (G.length + 1)),some (.int k),some (.int (lvS h f u k)),x9,x10,x11] (G++ .lst (tab k (lvS h f u)):: .lst (Bk k (coS h f u))::L)=.nx [some (.fl (ns.map D.int)),s1,some (.tup h.Dk),some (.int u),some (.int B),some (.ref G.length),some (.ref (G.length + 1)),some (.int k),some (.int (lvS h f u k)),x9,x10,x11] G1:=by
    simp [Dy,Fl,hl1,et,G1]
   rw [Wr,a1,Vb]
   clear_value G1
   simp [Hs.Kp,c2,Aq,tn]
  have t5:Um [some (.fl (ns.map D.int)),s1,some (.tup h.Dk),some (.int u),some (.int B),some (.ref G.length),some (.ref (G.length + 1)),some (.int k),some (.int (lvS h f u k)),some (.int c),some (.ref G1.length),x11] (G1++ [.lst []])=.nx [some (.fl (ns.map D.int)),s1,some (.tup h.Dk),some (.int u),some (.int B),some (.ref G.length),some (.ref (G.length + 1)),some (.int k),some (.int (lvS h f u k)),y,some (.ref G1.length),some (.int 4)] (G++ .lst (tab (k + 1) (lvS h f u)):: .lst (Bk (k + 1) (coS h f u))::(L++ [.lst (tab 5 (coS h f u k))])):=by
   have hr:inR 5:=Fq (by lia) (by lia);have eC:(tab 5 λj=>u * (thr c j % 3))=tab 5 (coS h f u k):=rfl;rw [eC] at hR;unfold Um;have a1:(Dl (Cv rng1 (Ab (dC (.int 5)) Ad)) (gV 11) Ra) [some (.fl (ns.map D.int)),s1,some (.tup h.Dk),some (.int u),some (.int B),some (.ref G.length),some (.ref (G.length + 1)),some (.int k),some (.int (lvS h f u k)),some (.int c),some (.ref G1.length),x11] (G1++ [.lst []])=.nx [some (.fl (ns.map D.int)),s1,some (.tup h.Dk),some (.int u),some (.int B),some (.ref G.length),some (.ref (G.length + 1)),some (.int k),some (.int (lvS h f u k)),y,some (.ref G1.length),some (.int 4)] (G1++ [.lst (tab 5 (coS h f u k))]):=by
    simp [hr,hR]
   rw [Wr,a1,Vb];have gl:(G1++ [DO.lst (tab 5 (coS h f u k))])[G1.length]? =some (.lst (tab 5 (coS h f u k))):=by simp
   have gc:(G1++ [DO.lst (tab 5 (coS h f u k))])[G.length + 1]? =some (.lst (Bk k (coS h f u))):=by simp [G1]
   have gs:(G1++ [DO.lst (tab 5 (coS h f u k))]).set (G.length + 1) (.lst (Bk (k + 1) (coS h f u)))=(G++ .lst (tab (k + 1) (lvS h f u)):: .lst (Bk (k + 1) (coS h f u))::(L++ [.lst (tab 5 (coS h f u k))])):=by simp [G1]
   generalize G1++ [DO.lst (tab 5 (coS h f u k))]=G2 at gl gc gs;unfold ZIR;simp [gl,gc,hl1,er,gs]
  rw [Hw,Cy];simp only [Do,R.Dj,zU,t1,t2,t5,Dv];have e1:((k:Int) + 1)=((k + 1:Nat):Int):=by lia
  rw [e1,ih]
theorem ZL3 (hf:∀k:Nat,k<=1000->∀G,Bb [.fl (ns.map D.int),.int k] G=.ok (.int (f k)) G) (hu:0 < u) (cu:∀G,Gj [.fl (ns.map D.int)] G=.ok (.int u) G) (g:GoodH h) (G:DH):
  Yk [.fl (ns.map D.int),h.enc] G=.ok (stD h.n (lvS h f u) (coS h f u)) G:=by
 obtain ⟨L',y7,y8,y9,y10,y11,hL⟩:=ZF2 hf hu g (s1:=some h.enc) (G:=G) h.n 0 [] none none none none none (by lia);have hL':Be (gV 7) Rr (Bs 0 h.n) [some (.fl (ns.map D.int)),some h.enc,some (.tup h.Dk),some (.int u),some (.int ((6 + 12 * h.n:Nat):Int)),some (.ref G.length),some (.ref (G.length + 1)),none,none,none,none,none] (G++ [.lst [],.lst []])=
   .nx [some (.fl (ns.map D.int)),some h.enc,some (.tup h.Dk),some (.int u),some (.int ((6 + 12 * h.n:Nat):Int)),some (.ref G.length),some (.ref (G.length + 1)),y7,y8,y9,y10,y11] (G++ .lst (tab h.n (lvS h f u)):: .lst (Bk h.n (coS h f u))::L'):=hL
 have hn:=g.len;have m12:∀G,Bg (.int 12) (.int (h.n:Int)) G=.ok (.int (12 * (h.n:Int))) G:=λG=>Ja (by lia) (by lia)
 have e6:(6 + 12 * (h.n:Int))=((6 + 12 * h.n:Nat):Int):=by lia
 generalize hB:((6 + 12 * h.n:Nat):Int)=B at hL' e6;have fu:freeze G (.ok (.int u) G)=.ok (.int u) G:=Mm rfl;have hr:inR (h.n:Int):=Fq (by lia) (by lia);have t1:tidy (G++ [.lst []]) (.ok (.ref (G.length + 1)) (G++ [.lst [],.lst []]))=.ok (.ref (G.length + 1)) (G++ [.lst [],.lst []]):=by have:=Fo (G:=G++ [.lst []]) (ds:= []) (L:= []) rfl;simpa using this
 have g0:(G++ .lst (tab h.n (lvS h f u)):: .lst (Bk h.n (coS h f u))::L')[G.length]? =some (.lst (tab h.n (lvS h f u))):=by simp
 have g1:(G++ .lst (tab h.n (lvS h f u)):: .lst (Bk h.n (coS h f u))::L')[G.length + 1]? =some (.lst (Bk h.n (coS h f u))):=by simp
 have tp:tidy G (.ok (stD h.n (lvS h f u) (coS h f u)) (G++ .lst (tab h.n (lvS h f u)):: .lst (Bk h.n (coS h f u))::L'))=.ok (stD h.n (lvS h f u) (coS h f u)) G:=Q6 (by simp [stD,Jg]);generalize G++DO.lst (tab h.n (lvS h f u))::DO.lst (Bk h.n (coS h f u))::L'=G2 at hL' g0 g1 tp;unfold stD at tp ⊢;unfold Yk ZH0;rw [Br];simp [Dp,cu,fu,Hs.Kp,m12,e6,Aq,Fo,t1,hr,hL',g0,g1,Bo,tp]
def flS (n:Nat) (f:Nat->Int) (u:Int) (i k:Nat):Int:=amt (f (6 + 14 * n + i * n + k)) u
theorem ZDa {n:Nat} (hu:0 < u) (i k:Nat):0<=flS n f u i k:=U4 hu
def Bm (n:Nat) (fls:List (Nat->Int)):List D:=fls.map λfl=>.tup (tab n fl)
@[simp] theorem ZE9 {n:Nat} :bels m (Bm n fls)=true:=Gq λ_ _=>by simp
theorem ZEq {o:DO} (h:∀m,bels m ds=true):freeze (G++ [o]) (.ok (.ref (G.length + 1)) (G++ [o,.lst ds]))=.ok (.fl ds) (G++ [o]):=by have:=Ga (G:=G++ [o]) (ds:=ds) (L:= []) (h _);simpa using this
theorem ZNH (hf:∀k:Nat,k<=1000->∀G,Bb [.fl (ns.map D.int),.int k] G=.ok (.int (f k)) G) (hu:0 < u) (cu:∀G,Gj [.fl (ns.map D.int)] G=.ok (.int u) G) {n:Nat} (hi:6 + 14 * n + i * n + n<=1000) (hi2:i<=1000) (hn2:n<=1000) {s1:Option D} {acc:List D} (ha:acc.length<=1000) (G:DH):
  Sw [some (.fl (ns.map D.int)),s1,s2,some (.int n),some (.int ((6 + 14 * n:Nat):Int)),some (.ref G.length),some (.int i),x] (G++ [.lst acc])=
   .nx [some (.fl (ns.map D.int)),s1,s2,some (.int n),some (.int ((6 + 14 * n:Nat):Int)),some (.ref G.length),some (.int i),some (.fl (tab n λk=>f (6 + 14 * n + i * n + k)))] (G++ [.lst (acc++ [.tup (tab n (flS n f u i))])]):=by
 have hal:acc.length < 1000000:=by lia
 have mi:∀G,Bg (.int (i:Int)) (.int (n:Int)) G=.ok (.int ((i:Int) * n)) G:=λG=>Ja (by lia) (by lia)
 have fu:∀G,freeze G (.ok (.int u) G)=.ok (.int u) G:=λG=>Mm rfl
 have c1:∀G,Dz (gV 0) Cd ZB6 [none,some (.fl (ns.map D.int)),some (.int n),some (.int ((6 + 14 * n:Nat):Int)),some (.int i)] (Bs 0 n) G=.ok (tab n λk=>f (6 + 14 * n + i * n + k)) G:=λG=>
  Qk (F:=λk=>.int (f (6 + 14 * n + i * n + k))) λk hk=>by
   have h1:=hf (6 + 14 * n + i * n + k) (by lia) G;have e1:((6 + 14 * n + i * n + k:Nat):Int)=((6 + 14 * n:Nat):Int) + (i:Int) * n + k:=by rw [j6,j6,Int.natCast_mul]
   rw [e1] at h1;generalize ((6 + 14 * n:Nat):Int)=B at h1;unfold ZB6;simp [mi,h1]
 have c2:∀G,Dz (gV 0) Cd ZCx [none,some (.fl (ns.map D.int))] (tab n λk=>f (6 + 14 * n + i * n + k)) G=.ok (tab n (flS n f u i)) G:=λG=>
  Q4 (E:=λk=>.int (f (6 + 14 * n + i * n + k))) (F:=λk=>.int (flS n f u i k)) λk hk=>by unfold ZCx;simp [cu,fu,La hu,flS]
 have hr:inR (n:Int):=Fq (by lia) (by lia);have cs1:∀a b c d e f' g h:Option D,Bh 1 [0,3,4,6] [a,b,c,d,e,f',g,h]= [none,a,d,e,g]:=λ_ _ _ _ _ _ _ _=>rfl
 have cs2:∀a b c d e f' g h:Option D,Bh 1 [0] [a,b,c,d,e,f',g,h]= [none,a]:=λ_ _ _ _ _ _ _ _=>rfl
 have fz1:=ZEq (G:=G) (o:=.lst acc) (ds:=tab n λk=>f (6 + 14 * n + i * n + k)) λ_=>Jg
 have fz2:=ZEq (G:=G) (o:=.lst acc) (ds:=tab n (flS n f u i)) λ_=>Jg
 generalize ((6 + 14 * n:Nat):Int)=B at c1;have hnl:n<=1000000:=by lia
 unfold Sw;simp [hnl,hr,cs1,cs2,c1,c2,fz1,fz2,Dy,Fl,hal]
theorem ZHx (hf:∀k:Nat,k<=1000->∀G,Bb [.fl (ns.map D.int),.int k] G=.ok (.int (f k)) G) (hu:0 < u) (cu:∀G,Gj [.fl (ns.map D.int)] G=.ok (.int u) G) {n t:Nat} (ht:6 + 14 * n + t * n<=1000) (ht2:t<=100) (hn2:n<=1000) {s1 s2:Option D} (G:DH):∀(m i:Nat) (x6 x7:Option D),i + m=t->∃y6 y7,
  Be (gV 6) Sw (Bs i m) [some (.fl (ns.map D.int)),s1,s2,some (.int n),some (.int ((6 + 14 * n:Nat):Int)),some (.ref G.length),x6,x7] (G++ [.lst (Bm n ((zX i).map (flS n f u)))])=
   .nx [some (.fl (ns.map D.int)),s1,s2,some (.int n),some (.int ((6 + 14 * n:Nat):Int)),some (.ref G.length),y6,y7] (G++ [.lst (Bm n ((zX t).map (flS n f u)))])
 | 0,i,x6,x7,e=>by
  have e1:i=t:=by lia
  subst e1;exact ⟨x6,x7,by rw [Im,Dm]⟩
 | m + 1,i,x6,x7,e=>by
  obtain ⟨y6,y7,ih⟩:=ZHx hf hu cu ht ht2 hn2 (s1:=s1) (s2:=s2) G m (i + 1) (some (.int i)) (some (.fl (tab n λk=>f (6 + 14 * n + i * n + k)))) (by lia);refine ⟨y6,y7,?_⟩;have hm:(i + 1) * n<=t * n:=Nat.mul_le_mul_right n (by lia);have hm2:(i + 1) * n=i * n + n:=Nat.succ_mul i n;have hb:=ZNH hf hu cu (n:=n) (i:=i) (by lia) (by lia) hn2 (s1:=s1) (s2:=s2) (x:=x7) (acc:=Bm n ((zX i).map (flS n f u))) (by simp [Bm];lia) G
  have ea:Bm n ((zX i).map (flS n f u))++ [.tup (tab n (flS n f u i))]=Bm n ((zX (i + 1)).map (flS n f u)):=by simp [Bm,jx]
  rw [ea] at hb;rw [Hw,Cy];simp only [Do,R.Dj,zU,hb,Dv];have e1:((i:Int) + 1)=((i + 1:Nat):Int):=by lia
  rw [e1,ih]
theorem ZIv (hf:∀k:Nat,k<=1000->∀G,Bb [.fl (ns.map D.int),.int k] G=.ok (.int (f k)) G) (hu:0 < u) (cu:∀G,Gj [.fl (ns.map D.int)] G=.ok (.int u) G) (g:GoodH h) {t:Nat} (ht:6 + 14 * h.n + t * h.n<=1000) (ht2:t<=100) (G:DH):
  Wm [.fl (ns.map D.int),h.enc,.int t] G=.ok (.ref G.length) (G++ [.lst (Bm h.n ((zX t).map (flS h.n f u)))]):=by
 have hn:=g.len;obtain ⟨y6,y7,hL⟩:=ZHx hf hu cu ht ht2 (by lia) (s1:=some h.enc) (s2:=some (.int t)) G t 0 none none (by lia);have hL':Be (gV 6) Sw (Bs 0 t) [some (.fl (ns.map D.int)),some h.enc,some (.int t),some (.int h.n),some (.int ((6 + 14 * h.n:Nat):Int)),some (.ref G.length),none,none] (G++ [.lst []])=
   .nx [some (.fl (ns.map D.int)),some h.enc,some (.int t),some (.int h.n),some (.int ((6 + 14 * h.n:Nat):Int)),some (.ref G.length),y6,y7] (G++ [.lst (Bm h.n ((zX t).map (flS h.n f u)))]):=hL
 have m14:∀G,Bg (.int 14) (.int (h.n:Int)) G=.ok (.int (14 * (h.n:Int))) G:=λG=>Ja (by lia) (by lia)
 have e6:(6 + 14 * (h.n:Int))=((6 + 14 * h.n:Nat):Int):=by lia
 generalize hB:((6 + 14 * h.n:Nat):Int)=B at hL' e6;have hr:inR (t:Int):=Fq (by lia) (by lia);unfold Wm ZER;rw [Br];simp [Dp,Hs.Kp,m14,e6,Aq,Fo,hr,hL']
theorem ZNr (hf:∀k:Nat,k<=1000->∀G,Bb [.fl (ns.map D.int),.int k] G=.ok (.int (f k)) G):∃a:Int,0<=a/\∀G,Oa [.fl (ns.map D.int)] G=.ok (.int a) G:=by
 have h3:∀G,Bb [.fl (ns.map D.int),.int 3] G=.ok (.int (f 3)) G:=hf 3 (by lia);have fz:∀G:DH,freeze G (.ok (.ref G.length) (G++ [.lst [.int 50,.int 1000000000000000000000000000000000000000]]))=.ok (.fl [.int 50,.int 1000000000000000000000000000000000000000]) G:=λG=>Ga rfl
 rcases (by lia:f 3 % 2=0∨f 3 % 2=1) with z | z
 ·refine ⟨f 3 / 2 % 50,by lia,λG=> ?_⟩;unfold Oa ZBn;rw [Br];simp [h3,z,Aq,fz,Ci]
 ·refine ⟨f 3 / 2 % 1000000000000000000000000000000000000000,by lia,λG=> ?_⟩;unfold Oa ZBn;rw [Br];simp [h3,z,Aq,fz,Ci]
abbrev St2:=(Nat->Int)×(Nat->Nat->Int)
noncomputable def Hs.nxt (h:Hs) (s:St2) (a:Int) (fl:Nat->Int):St2:=(lies (h.cs s.1 s.2 a fl).page,(h.cs s.1 s.2 a fl).coming)
noncomputable def Hs.G7 (h:Hs):List (Nat->Int)->St2->Int->St2
 | [],s,_=>s
 | fl::r,s,a=>h.G7 r (h.nxt s a fl) (a + 1)
noncomputable def Hs.Gd (h:Hs):List (Nat->Int)->St2->Int->List (Nat->List Int)
 | [],_,_=> []
 | fl::r,s,a=>(h.cs s.1 s.2 a fl).page::h.Gd r (h.nxt s a fl) (a + 1)
theorem ZA8:∀{fls:List (Nat->Int)} {s:St2} {a:Int},(h.Gd fls s a).length=fls.length
 | [],_,_=>rfl
 | fl::r,s,a=>by show (h.Gd r (h.nxt s a fl) (a + 1)).length + 1=r.length + 1;rw [ZA8]
def pgD (n:Nat) (pg:Nat->List Int):D:=.tup (Cu n pg)
@[simp] theorem ZME {n:Nat} :bel m (pgD n pg)=true:=by simp [pgD]
@[simp] theorem ZG6 {n:Nat} {pgs:List (Nat->List Int)}:bels m (pgs.map (pgD n))=true:=Gq λ_ _=>ZME
@[simp] theorem ZBY {n:Nat} :bel m (stD n lv co)=true:=by simp [stD]
theorem Uo (g:GoodH h) (hc:∀k j,k < h.n->j < 5->0<=co k j) (hf:∀k,k < h.n->0<=fl k):(h.cs lv co a fl).NN h.n:=ZHp g h.n 0 _ (by lia) (ZDI hc hf)
def enS:Int->List D->List D
 | _,[]=> []
 | a,x::r=>.tup [.int a,x]::enS (a + 1) r
theorem ZDL:∀(xs:List D) (a:Int) (j:Nat),(enS a xs)[j]? =xs[j]?.map λx=>.tup [.int (a + j),x]
 | [],a,j=>by simp [enS]
 | x::r,a,0=>by simp [enS]
 | x::r,a,j + 1=>by
  show (enS (a + 1) r)[j]? =r[j]?.map _;rw [ZDL r (a + 1) j];have e:a + 1 + (j:Int)=a + ((j + 1:Nat):Int):=by lia
  rw [e]
theorem ZDW:∀(xs:List D) (a:Int),(enS a xs).length=xs.length
 | [],a=>rfl
 | x::r,a=>by show (enS (a + 1) r).length + 1=r.length + 1;rw [ZDW]
theorem ZKC {g:DG} {b:DS} {xs:List D} :Em (Eu a (.fl xs)) g b xs.length 0 S G=Be g b (enS a xs) S G:=Tr (λj G=>by show some (xs[j]?.map _)=_;rw [ZDL]) (ZDW xs a).symm
theorem ZGV (g:GoodH h) {s2 s3:Option D} {G:DH}:∀(fls:List (Nat->Int)) (s:St2) (a:Int) (acc:List D) (x5 x6 x7:Option D),acc.length + fls.length<=1000->(∀k j,k < h.n->j < 5->0<=s.2 k j)->(∀fl∈fls,∀k,k < h.n->0<=fl k)->∃y5 y6 y7,
  Be (Bv 2 (Ao (gV 5) (Ao (gV 6) By))) Ri (enS a (Bm h.n fls)) [some h.enc,some (stD h.n s.1 s.2),s2,s3,some (.ref G.length),x5,x6,x7] (G++ [.lst acc])=
   .nx [some h.enc,some (stD h.n (h.G7 fls s a).1 (h.G7 fls s a).2),s2,s3,some (.ref G.length),y5,y6,y7] (G++ [.lst (acc++(h.Gd fls s a).map (pgD h.n))])
 | [],s,a,acc,x5,x6,x7,_,_,_=>⟨x5,x6,x7,by show Be _ _ [] _ _=_;rw [Dm];simp [Hs.G7,Hs.Gd]⟩
 | fl::r,s,a,acc,x5,x6,x7,hl,hc,hf=>by
  have hf1:=hf fl (by simp);have nn:=Uo g (lv:=s.1) (fl:=fl) (co:=s.2) (a:=a) hc hf1;simp only [qZ] at hl;obtain ⟨y5,y6,y7,ih⟩:=ZGV g (s2:=s2) (s3:=s3) (G:=G) r (h.nxt s a fl) (a + 1) (acc++ [pgD h.n (h.cs s.1 s.2 a fl).page]) (some (.int a)) (some (.tup (tab h.n fl))) (some (pgD h.n (h.cs s.1 s.2 a fl).page)) (by simp;lia) nn.2 (λf' hf'=>hf f' (zJ _ hf'));refine ⟨y5,y6,y7,?_⟩
  have ct:=ZMO g (lv:=s.1) (fl:=fl) (co:=s.2) (at_:=a) hc hf1;have hal:acc.length < 1000000:=by lia
  have hb:Ri [some h.enc,some (stD h.n s.1 s.2),s2,s3,some (.ref G.length),some (.int a),some (.tup (tab h.n fl)),x7] (G++ [.lst acc])=.nx [some h.enc,some (stD h.n (h.nxt s a fl).1 (h.nxt s a fl).2),s2,s3,some (.ref G.length),some (.int a),some (.tup (tab h.n fl)),some (pgD h.n (h.cs s.1 s.2 a fl).page)] (G++ [.lst (acc++ [pgD h.n (h.cs s.1 s.2 a fl).page])]):=by unfold Ri;simp [ct,Dy,Fl,hal,pgD,Hs.nxt]
  show Be _ _ (.tup [.int a,.tup (tab h.n fl)]::enS (a + 1) (Bm h.n r)) _ _=_;rw [Cy];simp only [Sv,Tg,Sd,Do,R.K8,R.Dj,zU,hb,Dv,qZ,j5,Nat.reduceAdd,if_true];rw [ih];simp [Hs.G7,Hs.Gd]
theorem ZOo {n:Nat} :(Bm n fls).length=fls.length:=by simp [Bm]
theorem ZF1 {G':DH} (h:bels G.length ds=false):tidy G (.ok (.tup ds) G')=.ok (.tup ds) G':=by unfold tidy;simp [h]
theorem ZGW {e:D} (h1:bels G.length ds=true) (h2:bel G.length e=true):freeze G (.ok (.tup [.ref G.length,e]) (G++ [.lst ds]))=.ok (.tup [.fl ds,e]) G:=by
 unfold freeze;have m:Er (G++ [.lst ds]) G.length 9 (.tup [.ref G.length,e])=some (.tup [.fl ds,e]):=by
  unfold Er;have m1:Er (G++ [.lst ds]) G.length 8 (.ref G.length)=some (.fl ds):=by unfold Er;simp [W8 h1]
  have m2:Er (G++ [.lst ds]) G.length 8 e=some e:=by unfold Er;simp [h2]
  simp [Jw,m1,m2]
 simp [m]
theorem ZDC (g:GoodH h) {s:St2} (hl:fls.length<=1000) (hc:∀k j,k < h.n->j < 5->0<=s.2 k j) (hf:∀fl∈fls,∀k,k < h.n->0<=fl k) (G:DH):
  Tu [h.enc,stD h.n s.1 s.2,.int a,.fl (Bm h.n fls)] G=.ok (.tup [.ref G.length,stD h.n (h.G7 fls s a).1 (h.G7 fls s a).2]) (G++ [.lst ((h.Gd fls s a).map (pgD h.n))]):=by
 obtain ⟨y5,y6,y7,hL⟩:=ZGV g (s2:=some (.int a)) (s3:=some (.fl (Bm h.n fls))) (G:=G) fls s a [] none none none (by simp;lia) hc hf;have hL':Em (Eu a (.fl (Bm h.n fls))) (Bv 2 (Ao (gV 5) (Ao (gV 6) By))) Ri (Bm h.n fls).length 0 [some h.enc,some (stD h.n s.1 s.2),some (.int a),some (.fl (Bm h.n fls)),some (.ref G.length),none,none,none] (G++ [.lst []])=
   .nx [some h.enc,some (stD h.n (h.G7 fls s a).1 (h.G7 fls s a).2),some (.int a),some (.fl (Bm h.n fls)),some (.ref G.length),y5,y6,y7] (G++ [.lst ((h.Gd fls s a).map (pgD h.n))]):=by
  rw [ZKC];exact hL
 have tt:∀e:D,tidy G (.ok (.tup [.ref G.length,e]) (G++ [.lst ((h.Gd fls s a).map (pgD h.n))]))=.ok (.tup [.ref G.length,e]) (G++ [.lst ((h.Gd fls s a).map (pgD h.n))]):=λe=>ZF1 (by simp)
 unfold Tu ZGw;rw [Br];simp [Aq,Fo,ZB0,hL',Bo,tt]
structure SameR (rs rs':List Row):Prop where
 len:rs'.length=rs.length
 dn:∀k,Bw rs' k=Bw rs k
 rk:∀k,col Row.rank rs' k=col Row.rank rs k
theorem ZD7 (h:SameR rs rs'):∀(m k:Nat),J6 rs' m k=J6 rs m k
 | 0,k=>rfl
 | m + 1,k=>by
  show k::_=k::_;rw [h.dn k];cases Bw rs k with
  | none=>rfl
  | some d=>show k::J6 rs' m d=k::J6 rs m d;rw [ZD7 h m d]
theorem SameR.way (h:SameR rs rs') (k:Nat):way rs' k=way rs k:=by unfold Law.way;rw [h.len,ZD7 h]
theorem SameR.ltK (h:SameR rs rs'):ltK rs'=ltK rs:=by funext i j;unfold Law.ltK;rw [h.rk,h.rk]
theorem SameR.ord (h:SameR rs rs'):ord rs'=ord rs:=by unfold Law.ord;rw [h.len,h.ltK]
theorem SameR.gat (h:SameR rs rs'):∀(m k:Nat) (F:Nat->Int),gat rs' m k F=gat rs m k F
 | 0,k,F=>rfl
 | m + 1,k,F=>by show Law.gat rs' m (k + 1) (gstep F k (Bw rs' k))=Law.gat rs m (k + 1) (gstep F k (Bw rs k));rw [h.dn k,SameR.gat h]
theorem SameR.gath (h:SameR rs rs') (F:Nat->Int):gath rs' F=gath rs F:=by show Law.gat rs' rs'.length 0 F=_;rw [h.len,h.gat]
theorem ZHD (h:SameR rs rs'):∀(ks:List Nat) (P T:Nat->Int),(∀k∈ks,col Row.need rs' k=col Row.need rs k)->srv rs' ks P T=srv rs ks P T
 | [],P,T,_=>rfl
 | k::ks,P,T,hn=>by
  have e:take1 rs' P k=take1 rs P k:=by unfold take1;rw [hn k zW,h.way]
  show srv rs' ks (Eb P (way rs' k) (take1 rs' P k)) (fset T k (take1 rs' P k))=_;rw [e,h.way,ZHD h ks _ _ λj hj=>hn j (zJ _ hj)]
  rfl
theorem ZDK (hR:Reach rs):∀(m k:Nat),rs.length<=m + k->∀b∈way rs k,∀c∈way rs b,c∈way rs k
 | 0,k,h,b,hb,c,hc=>by
  rw [Gn hR,Vd (by lia)] at hb;have e:b=k:=by simpa [Io] using hb
  rw [e] at hc;exact hc
 | m + 1,k,h,b,hb,c,hc=>by
  rw [Gn hR] at hb ⊢;rcases zx.mp hb with rfl | hb
  ·rw [Gn hR] at hc;exact hc
  ·cases hd:Bw rs k with
   | none=>rw [hd] at hb;cases hb
   | some d=>
    rw [hd] at hb;have:=Ie hR hd;exact zJ _ (ZDK hR m d (by lia) b hb c hc)
theorem U5 (hR:Reach rs) {c:Nat} (hb:b∈way rs k) (hc:c∈way rs b):c∈way rs k:=ZDK hR rs.length k (by lia) b hb c hc
theorem ZFT (hR:Reach rs):∀(m k:Nat),rs.length<=m + k->∀b∈way rs k,∀c∈way rs k,c∈way rs b∨b∈way rs c
 | 0,k,h,b,hb,c,hc=>by
  rw [Gn hR,Vd (by lia)] at hb hc;have e:b=k:=by simpa [Io] using hb
  have e2:c=k:=by simpa [Io] using hc
  subst e;subst e2;exact .inl (ZM3 hR _)
 | m + 1,k,h,b,hb,c,hc=>by
  have hb0:=hb;have hc0:=hc;rw [Gn hR] at hb hc;rcases zx.mp hb with rfl | hb
  ·exact .inl hc0
  ·rcases zx.mp hc with rfl | hc
   ·exact .inr hb0
   ·cases hd:Bw rs k with
    | none=>rw [hd] at hb;cases hb
    | some d=>
     rw [hd] at hb hc;have:=Ie hR hd;exact ZFT hR m d (by lia) b hb c hc
theorem ZCV (hR:Reach rs) {c:Nat} (hb:b∈way rs k) (hc:c∈way rs k):c∈way rs b∨b∈way rs c:=ZFT hR rs.length k (by lia) b hb c hc
theorem ZNA (hR:Reach rs) (h:Bw rs k=none):way rs k= [k]:=by rw [Gn hR,h];rfl
noncomputable def MW (rs:List Row) (one:Nat) (ks:List Nat) (A B:(Nat->Int)×(Nat->Int)):Prop:=
 ((∀i,B.1 i=A.1 i + ind 1 (way rs one) i)/\∀i,B.2 i=A.2 i)∨
 ∃k c,k ∉ ks/\(∀i,B.1 i=A.1 i + ind 1 (way rs one) i - ind 1 (way rs k) i)/\(∀i,B.2 i=A.2 i + ind 1 [k] i)/\c∈way rs one/\c∈way rs k/\c < rs.length/\A.1 c=0
theorem Zw (hR:Reach rs) (p0:∀i,i < rs.length->0<=P i) (hk:k < rs.length):0<=take1 rs P k/\∀b∈way rs k,take1 rs P k<=P b:=by
 have h1:0<=wmin P (way rs k):=ZF4 λb hb=>p0 b (Pn hR hk hb).2
 have h2:=hR.need k;unfold take1;refine ⟨by lia,λb hb=> ?_⟩;have:=Vi (P:=P) hb;lia
theorem ZH6 (hR:Reach rs) (p0:∀i,i < rs.length->0<=P i) (hk:k < rs.length):∀i,i < rs.length->0<=Eb P (way rs k) (take1 rs P k) i:=λi hi=>by
 obtain ⟨_,h⟩:=Zw hR p0 hk;simp only [Eb];split
 ·rename_i hm;have:=h i hm;lia
 ·exact p0 i hi
theorem Nj (ht:0<=t):0<=ind t ws i/\ind t ws i<=t:=by
 unfold ind
 split <;> lia
theorem ZDp (hR:Reach rs) {one:Nat}:∀(ks:List Nat) (P T P' T':Nat->Int),ks.Nodup->(∀k∈ks,k < rs.length)->(∀i,i < rs.length->0<=P i)->(∀i,i < rs.length->0<=P' i)->MW rs one ks (P,T) (P',T')->MW rs one [] (srv rs ks P T) (srv rs ks P' T')
 | [],P,T,P',T',_,_,_,_,h=>h
 | k::ks,P,T,P',T',nd,hks,p0,p0',h=>by
  obtain ⟨n1,n2⟩:=q9.mp nd;have hk:=hks k zW;refine ZDp hR ks _ _ _ _ n2 (λj hj=>hks j (zJ _ hj)) (ZH6 hR p0 hk) (ZH6 hR p0' hk) ?_;have wne:way rs k≠ []:=by rw [Gn hR];simp
  rcases h with ⟨hP,hT⟩ | ⟨q,c,hq,hP,hT,c1,c2,cn,c0⟩
  ·simp only at hP hT;obtain ⟨b,hb,eb⟩:=ZCp (P:=P) wne;obtain ⟨b',hb',eb'⟩:=ZCp (P:=P') wne;have h1:=Vi (P:=P') hb;have h2:=Vi (P:=P) hb';rw [hP] at h1 eb';have i1:=Nj (t:=1) (ws:=way rs one) (i:=b) (by decide);have i2:=Nj (t:=1) (ws:=way rs one) (i:=b') (by decide);by_cases ht:take1 rs P' k=take1 rs P k
   ·refine .inl ⟨λi=> ?_,λi=> ?_⟩
    ·show Eb P' (way rs k) (take1 rs P' k) i=Eb P (way rs k) (take1 rs P k) i + _;rw [ht];simp only [Eb,hP]
     split <;> lia
    ·show fset T' k (take1 rs P' k) i=fset T k (take1 rs P k) i;rw [ht];simp only [fset,hT]
   ·have e1:take1 rs P' k=take1 rs P k + 1:=by unfold take1 at ht ⊢;lia
    have e2:take1 rs P k=P b:=by unfold take1 at e1 ⊢;lia
    have hbR:b∈way rs one:=by apply Classical.byContradiction;intro hn;have:ind 1 (way rs one) b=0:=if_neg hn;unfold take1 at e1;lia
    refine .inr ⟨k,b,n1,λi=> ?_,λi=> ?_,hbR,hb,(Pn hR hk hb).2,?_⟩
    ·show Eb P' (way rs k) (take1 rs P' k) i=Eb P (way rs k) (take1 rs P k) i + ind 1 (way rs one) i - ind 1 (way rs k) i;rw [e1];simp only [Eb,hP];by_cases hi:i∈way rs k
     ·have:ind 1 (way rs k) i=1:=if_pos hi;rw [if_pos hi,if_pos hi];lia
     ·have:ind 1 (way rs k) i=0:=if_neg hi;rw [if_neg hi,if_neg hi];lia
    ·show fset T' k (take1 rs P' k) i=fset T k (take1 rs P k) i + ind 1 [k] i;rw [e1];simp only [fset,hT,ind,qk]
     split <;> lia
    ·show Eb P (way rs k) (take1 rs P k) b=0;simp only [Eb,hb,if_true];lia
  ·simp only at hP hT c0;simp only [zx,not_or] at hq;have hne:k≠q:=λe=>hq.1 e.symm
   have c0':P' c=0:=by rw [hP];have e1:ind 1 (way rs one) c=1:=if_pos c1;have e2:ind 1 (way rs q) c=1:=if_pos c2;lia
   have ht:take1 rs P' k=take1 rs P k/\(c∈way rs k->take1 rs P k=0):=by
    by_cases hc:c∈way rs k
    ·obtain ⟨a1,a2⟩:=Zw hR p0 hk;obtain ⟨a3,a4⟩:=Zw hR p0' hk;have:=a2 c hc;have:=a4 c hc;exact ⟨by lia,λ_=>by lia⟩
    ·refine ⟨?_,λh=>absurd h hc⟩;unfold take1;rw [ZPk (P:=P') (Q:=P) λb hb=> ?_];rw [hP];have:ind 1 (way rs one) b=ind 1 (way rs q) b:=by
      unfold ind;by_cases b1:b∈way rs one
      ·by_cases b2:b∈way rs q
       ·rw [if_pos b1,if_pos b2]
       ·exfalso
        rcases ZCV hR b1 c1 with z | z
        ·exact hc (U5 hR hb z)
        ·exact b2 (U5 hR c2 z)
      ·by_cases b2:b∈way rs q
       ·exfalso
        rcases ZCV hR b2 c2 with z | z
        ·exact hc (U5 hR hb z)
        ·exact b1 (U5 hR c1 z)
       ·rw [if_neg b1,if_neg b2]
     lia
   obtain ⟨ht,h0⟩:=ht;refine .inr ⟨q,c,hq.2,λi=> ?_,λi=> ?_,c1,c2,cn,?_⟩
   ·show Eb P' (way rs k) (take1 rs P' k) i=Eb P (way rs k) (take1 rs P k) i + ind 1 (way rs one) i - ind 1 (way rs q) i;rw [ht];simp only [Eb,hP]
    split <;> lia
   ·show fset T' k (take1 rs P' k) i=fset T k (take1 rs P k) i + ind 1 [q] i;rw [ht];simp only [fset,hT];split
    ·rename_i e;have:ind 1 [q] i=0:=if_neg (by rw [e];simpa using hne);lia
    ·rfl
   ·show Eb P (way rs k) (take1 rs P k) c=0;simp only [Eb];split
    ·rename_i hm;rw [h0 hm];lia
    ·exact c0
def Sh (rs:List Row) (W:Nat->Int):(Nat->Int)×(Nat->Int):=srv rs (ord rs) (gath rs W) λ_=>0
noncomputable def LeS (rs:List Row) (A B:(Nat->Int)×(Nat->Int)):Prop:=(∀i,A.2 i<=B.2 i)/\∀i,Bw rs i=none->A.1 i<=B.1 i
theorem ZNf (hR:Reach rs) (hW:∀i,0<=W i) (hk:k < rs.length):MW rs k [] (Sh rs W) (Sh rs λi=>W i + ind 1 [k] i):=by
 have e:gath rs (λi=>W i + ind 1 [k] i)=λi=>gath rs W i + ind 1 (way rs k) i:=Wt hR rs.length 0 k W (by lia) (by lia) hk
 unfold Sh;rw [e];have h0:=λi=>Zk (rs:=rs) rs.length 0 W hW i
 exact ZDp hR (ord rs) _ _ _ _ (ZFd rs) (λj hj=>ZBS hj) (λi _=>h0 i) (λi _=>by have:=Nj (t:=1) (ws:=way rs k) (i:=i) (by decide);have:=h0 i;show 0<=gat rs rs.length 0 W i + ind 1 (way rs k) i;lia) (.inl ⟨λi=>rfl,λi=>rfl⟩)
theorem MW.le (hR:Reach rs) {one:Nat} {A B:(Nat->Int)×(Nat->Int)} (h:MW rs one [] A B):LeS rs A B:=by
 rcases h with ⟨hP,hT⟩ | ⟨q,c,_,hP,hT,c1,c2,cn,c0⟩
 ·refine ⟨λi=>by rw [hT];exact zE _,λi _=> ?_⟩;have:=Nj (t:=1) (ws:=way rs one) (i:=i) (by decide);rw [hP];lia
 ·refine ⟨λi=> ?_,λi hi=> ?_⟩
  ·have:=Nj (t:=1) (ws:= [q]) (i:=i) (by decide);rw [hT];lia
  ·rw [hP];by_cases hm:i∈way rs q
   ·have hm2:i∈way rs one:=by
     rcases ZCV hR hm c2 with z | z
     ·rw [ZNA hR hi] at z;have e:c=i:=by simpa using z
      rw [<-e];exact c1
     ·exact U5 hR c1 z
    have e1:ind 1 (way rs one) i=1:=if_pos hm2;have e2:ind 1 (way rs q) i=1:=if_pos hm;lia
   ·have e2:ind 1 (way rs q) i=0:=if_neg hm;have:=Nj (t:=1) (ws:=way rs one) (i:=i) (by decide);lia
theorem LeS.trans {A B C:(Nat->Int)×(Nat->Int)} (h1:LeS rs A B) (h2:LeS rs B C):LeS rs A C:=⟨λi=>jP (h1.1 i) (h2.1 i),λi hi=>jP (h1.2 i hi) (h2.2 i hi)⟩
theorem LeS.refl {A:(Nat->Int)×(Nat->Int)}:LeS rs A A:=⟨λ_=>zE _,λ_ _=>zE _⟩
theorem ZFA (hR:Reach rs) (hk:k < rs.length):∀(m:Nat) (W:Nat->Int),(∀i,0<=W i)->LeS rs (Sh rs W) (Sh rs λi=>W i + ind (m:Int) [k] i)
 | 0,W,hW=>by
  have e:(λi=>W i + ind ((0:Nat):Int) [k] i)=W:=by
   funext i;unfold ind
   split <;> simp
  rw [e];exact .refl
 | m + 1,W,hW=>by
  have h1:=ZFA hR hk m W hW;have h2:=(ZNf hR (W:=λi=>W i + ind (m:Int) [k] i) (λi=>by have:=Nj (t:=(m:Int)) (ws:= [k]) (i:=i) (by lia);have:=hW i;show 0<=W i + ind (m:Int) [k] i;lia) hk).le hR
  have e:(λi=>(W i + ind (m:Int) [k] i) + ind 1 [k] i)=λi=>W i + ind ((m + 1:Nat):Int) [k] i:=by
   funext i;unfold ind
   split <;> lia
  rw [e] at h2;exact h1.trans h2
theorem ZIK (hR:Reach rs) {W':Nat->Int} (hW:∀i,0<=W i) (hle:∀i,W i<=W' i):∀j,j<=rs.length->LeS rs (Sh rs W) (Sh rs λi=>if i < j then W' i else W i)
 | 0,_=>by simp only [jM,if_false];exact .refl
 | j + 1,h=>by
  have h1:=ZIK hR hW hle j (by lia);have h2:=ZFA hR (k:=j) (by lia) (W' j - W j).toNat (λi=>if i < j then W' i else W i) λi=>by
   have:=hW i;have:=hle i;show 0<=if i < j then W' i else W i
   split <;> lia
  have e:(λi=>(if i < j then W' i else W i) + ind ((W' j - W j).toNat:Int) [j] i)=λi=>if i < j + 1 then W' i else W i:=by
   funext i;simp only [ind,qk];by_cases e1:i=j
   ·subst e1;have:=hle i;simp;lia
   ·by_cases e2:i < j
    ·have e3:i < j + 1:=by lia
     simp [e1,e2,e3]
    ·have e3:¬i < j + 1:=by lia
     simp [e1,e2,e3]
  rw [e] at h2;exact h1.trans h2
theorem ZKA (hR:Reach rs) {W':Nat->Int} (hW:∀i,0<=W i) (hle:∀i,W i<=W' i) (ho:∀i,¬i < rs.length->W' i=W i):LeS rs (Sh rs W) (Sh rs W'):=by
 have h:=ZIK hR hW hle rs.length (zK _);have e:(λi=>if i < rs.length then W' i else W i)=W':=by
  funext i;split
  ·rfl
  ·rename_i hi;exact (ho i hi).symm
 rw [e] at h;exact h
theorem ZD5 (hS:SameR rs rs') (hn:∀k,col Row.need rs' k=col Row.need rs k):srv rs' (ord rs') (gath rs' (col Row.water rs')) (λ_=>0)=Sh rs (col Row.water rs'):=by unfold Sh;rw [hS.ord,hS.gath,ZHD hS _ _ _ λk _=>hn k]
theorem ZHz (hS:SameR rs rs') (hn:∀k,col Row.need rs' k=col Row.need rs k):shr rs'=(Sh rs (col Row.water rs')).2:=by unfold shr;rw [ZD5 hS hn]
theorem ZHf (hR:Reach rs') (hS:SameR rs rs') (hn:∀k,col Row.need rs' k=col Row.need rs k):gath rs' (λi=>col Row.water rs' i - shr rs' i)=(Sh rs (col Row.water rs')).1:=by rw [<-(X6 hR).pg,ZD5 hS hn]
def Cg:Nat->(Nat->Int)->Int
 | 0,_=>0
 | n + 1,F=>Cg n F + F n
theorem Tn:∀{n:Nat} {F F':Nat->Int},(∀i,i < n->F i=F' i)->Cg n F=Cg n F'
 | 0,_,_,_=>rfl
 | n + 1,F,F',h=>by show Cg n F + F n=Cg n F' + F' n;rw [Tn λi hi=>h i (by lia),h n (by lia)]
def Ex (pg:Nat->List Int) (j:Nat):Int:=(pg j).getD 2 0 + (pg j).getD 3 0
def Nz (pg:Nat->List Int) (j:Nat):Int:=(pg j).getD 4 0
noncomputable def Hs.pmp (h:Hs) (k:Nat):Option (Nat×Nat):=match (h.pl k).kd with
 | .basin _ _ (some (to,dl,_))=>some (to,dl)
 | _=>none
noncomputable def Hs.c1 (h:Hs) (pg:Nat->List Int) (i j:Nat):Int:=if h.dir j=none/\h.dn j=some i/\(h.pl j).dl=0 then Ex pg j else 0
noncomputable def Hs.o1 (h:Hs) (pg:Nat->List Int) (i a j:Nat):Int:=(if h.dn j=some i/\(h.pl j).dl=a + 1 then Ex pg j else 0) + (if h.pmp j=some (i,a + 1) then Nz pg j else 0)
noncomputable def Hs.brow (h:Hs) (yt:Int) (lv:Nat->Int) (k:Nat) (c:Int):List Int:=match (h.pl k).kd with
 | .basin brim rule _=>
  let w:=lv k + c;let st:=held yt rule [];let stays:=w - rv w st - pm w st
  [c,0,stays - min stays brim,rv w st,pm w st,min stays brim]
 | _=> []
def Hs.Ir (h:Hs) (ca:Nat->Int) (m:Nat):Nat->Int:=shr (h.rows (h.mem m) ca)
noncomputable def Hs.Ka (h:Hs) (ca:Nat->Int) (m:Nat):Nat->Int:=gath (h.rows (h.mem m) ca) λi=>col Row.water (h.rows (h.mem m) ca) i - h.Ir ca m i
theorem ZPq (e:∀k∈ms,ca k=ca' k):h.rows ms ca=h.rows ms ca':=by
 unfold Hs.rows;refine qQ λk hk=> ?_
 unfold Hs.row;rw [e k hk]
theorem ZD1:(s.send to dl c).came i=s.came i + (if to=i/\dl=0 then c else 0):=by
 unfold Cs.send;by_cases h0:dl=0
 ·simp only [h0,if_true,and_true,fset];by_cases e:i=to
  ·subst e;simp
  ·rw [if_neg e,if_neg (λz=>e z.symm)];lia
 ·simp [h0]
theorem ZIS {a:Nat}:(s.send to dl c).coming i a=s.coming i a + (if to=i/\dl=a + 1 then c else 0):=by
 unfold Cs.send;by_cases h0:dl=0
 ·simp [h0]
 ·simp only [h0,if_false,upd2];by_cases e:i=to
  ·subst e;simp only [if_true,fset,true_and];by_cases ea:a=dl - 1
   ·have e2:dl=a + 1:=by lia
    rw [if_pos ea,if_pos e2,ea]
   ·have e2:¬dl=a + 1:=by lia
    rw [if_neg ea,if_neg e2];lia
  ·rw [if_neg e,if_neg (λz=>e z.1.symm)];lia
theorem ZAR:(h.Ge s k c).came i=s.came i + (if h.dn k=some i/\(h.pl k).dl=0 then c else 0):=by
 unfold Hs.Ge;cases e:h.dn k with
 | none=>simp
 | some d=>simp only [ZD1,Option.some.injEq]
theorem ZC2 {a:Nat}:(h.Ge s k c).coming i a=s.coming i a + (if h.dn k=some i/\(h.pl k).dl=a + 1 then c else 0):=by
 unfold Hs.Ge;cases e:h.dn k with
 | none=>simp
 | some d=>simp only [ZIS,Option.some.injEq]
theorem ZGx (hB:(h.pl k).kd.isB=true):h.dir k=none:=by
 unfold Hs.dir;cases h.dn k with
 | none=>rfl
 | some d=>simp [hB]
theorem ZBj (e:h.dir k=some d):h.dn k=some d/\(h.pl k).dl=0/\(h.pl k).kd.isB=false/\(h.pl d).kd.isB=false:=by
 unfold Hs.dir at e;cases hd:h.dn k with
 | none=>rw [hd] at e;cases e
 | some d'=>
  rw [hd] at e;simp only at e;split at e
  ·cases e
  ·rename_i hc;cases e;refine ⟨rfl,by lia,?_,?_⟩
   ·cases z:(h.pl k).kd.isB with
    | false=>rfl
    | true=>exact absurd (.inr (.inl z)) hc
   ·cases z:(h.pl d).kd.isB with
    | false=>rfl
    | true=>exact absurd (.inr (.inr z)) hc
theorem Wo (hB:(h.pl k).kd.isB=false):h.pmp k=none:=by
 unfold Hs.pmp;cases e:(h.pl k).kd with
 | basin a b c=>rw [e] at hB;cases hB
 | town _ _=>rfl
 | mill _=>rfl
theorem ZFr (g:GoodH h) (e:h.last k=k):h.dir k=none:=by
 cases hd:h.dir k with
 | none=>rfl
 | some d=>
  have h1:=M8 g hd;have h2:=Mw g hd;have h3:=(Jo g d).1;lia
theorem ZPe (g:GoodH h) (hm:m < h.n) (e:h.last m=m):(h.mem m).idxOf m=(h.mem m).length - 1:=by
 have hl:=ZEW g hm e;have hpos:0 < (h.mem m).length:=j9 (mem_iff.mpr ⟨hm,e⟩);have nd:(h.mem m).Nodup:=(Xh (h:=h) (m:=m)).imp λhab=>zB hab
 rw [jZ,zZ (by lia)] at hl;have h2:=ZEO nd (i:=(h.mem m).length - 1) (by lia);rw [Option.some.inj hl] at h2;exact h2
structure TI (h:Hs) (yt:Int) (lv:Nat->Int) (co:Nat->Nat->Int) (fl:Nat->Int) (k:Nat) (s:Cs):Prop where
 came:∀i,i < h.n->s.came i=fl i + co i 0 + Cg k (h.c1 s.page i)
 coming:∀i a,i < h.n->a < 5->s.coming i a=Ib co i a + Cg k (h.o1 s.page i a)
 basin:∀i,i < k->i < h.n->(h.pl i).kd.isB=true->s.page i=h.brow yt lv i (s.came i)
 reach:∀i,i < h.n->(h.pl i).kd.isB=false->h.last i < k->s.page i=rrow (h.Ir s.came (h.last i)) (h.Ka s.came (h.last i)) ((h.mem (h.last i)).idxOf i)
section
variable {h:Hs} {yt:Int} {lv:Nat->Int} {co:Nat->Nat->Int} {fl:Nat->Int}
theorem ZBU (e:∀k∈h.mem m,ca k=ca' k):h.Ir ca m=h.Ir ca' m/\h.Ka ca m=h.Ka ca' m:=by
 have e1:=ZPq (h:=h) e;have e2:h.Ir ca m=h.Ir ca' m:=by unfold Hs.Ir;rw [e1]
 refine ⟨e2,?_⟩;unfold Hs.Ka;rw [e1,e2]
theorem Wl (g:GoodH h) (hk:k∈h.mem m):k<=m:=by have h1:=mem_iff.mp hk;have h2:=(Jo g k).1;lia
theorem ZI4 (g:GoodH h) (hk:k < h.n) (t:TI h yt lv co fl k s):TI h yt lv co fl (k + 1) (h.step yt lv s k):=by
 by_cases hB:(h.pl k).kd.isB=true
 ·
  have e:h.step yt lv s k=h.basin yt lv s k:=by unfold Hs.step;rw [if_pos hB]
  rw [e];have hdir:=ZGx hB;have hpg:=(ZA1 (yt:=yt) (lv:=lv) (s:=s) hB).2;obtain ⟨brim,rule,pump,ek⟩:∃a b c,(h.pl k).kd=.basin a b c:=by
   cases e:(h.pl k).kd with
   | basin a b c=>exact ⟨a,b,c,rfl⟩
   | town _ _=>rw [e] at hB;cases hB
   | mill _=>rw [e] at hB;cases hB
  have hpk:(h.basin yt lv s k).page k=h.brow yt lv k (s.came k):=by
   unfold Hs.basin Hs.brow;rw [ek];simp only;cases pump with
   | none=>simp only;rw [M3.2];simp
   | some q=>obtain ⟨to,dl,m⟩:=q;simp only;rw [X3.2,M3.2];simp
  have hout:Ex (h.basin yt lv s k).page k=rv (lv k + s.came k) (held yt rule []) + (lv k + s.came k - rv (lv k + s.came k) (held yt rule []) - pm (lv k + s.came k) (held yt rule []) - min (lv k + s.came k - rv (lv k + s.came k) (held yt rule []) - pm (lv k + s.came k) (held yt rule [])) brim):=by unfold Ex;rw [hpk];unfold Hs.brow;rw [ek];simp [List.getD];lia
  have hpmp:Nz (h.basin yt lv s k).page k=pm (lv k + s.came k) (held yt rule []):=by
   unfold Nz;rw [hpk];unfold Hs.brow;rw [ek]
   rfl
  have hcame:∀i,(h.basin yt lv s k).came i=s.came i + (if h.dn k=some i/\(h.pl k).dl=0 then Ex (h.basin yt lv s k).page k else 0):=λi=>by
   rw [hout];unfold Hs.basin;rw [ek];simp only;cases hp:pump with
   | none=>simp only [ZAR]
   | some q=>
    obtain ⟨to,dl,m⟩:=q;have hd:=g.pump k brim rule to dl m hk (by rw [ek,hp]);simp only [ZD1,ZAR];rw [if_neg (show¬(to=i/\dl=0) by lia)];lia
  have hcom:∀i a,(h.basin yt lv s k).coming i a=s.coming i a + h.o1 (h.basin yt lv s k).page i a k:=λi a=>by
   unfold Hs.o1;rw [hout,hpmp];unfold Hs.basin Hs.pmp;rw [ek];simp only;cases hp:pump with
   | none=>simp [ZC2]
   | some q=>
    obtain ⟨to,dl,m⟩:=q;simp only [ZIS,ZC2,Option.some.injEq,Prod.mk.injEq];lia
  have hlow:∀i,i<=k->(h.basin yt lv s k).came i=s.came i:=λi hi=>by
   rw [hcame,if_neg]
   ·lia
   ·intro z;have:=g.dn k i hk z.1;lia
  refine ⟨λi hi=> ?_,λi a hi ha=> ?_,λi hik hi hBi=> ?_,λi hi hBi hl=> ?_⟩
  ·show _=_ + (Cg k (h.c1 (h.basin yt lv s k).page i) + h.c1 (h.basin yt lv s k).page i k);rw [hcame,t.came i hi];have e1:Cg k (h.c1 (h.basin yt lv s k).page i)=Cg k (h.c1 s.page i):=Tn λj hj=>by unfold Hs.c1 Ex;rw [hpg j (by lia)]
   rw [e1];unfold Hs.c1;simp only [hdir,true_and];lia
  ·show _=_ + (Cg k (h.o1 (h.basin yt lv s k).page i a) + h.o1 (h.basin yt lv s k).page i a k);rw [hcom,t.coming i a hi ha];have e1:Cg k (h.o1 (h.basin yt lv s k).page i a)=Cg k (h.o1 s.page i a):=Tn λj hj=>by unfold Hs.o1 Ex Nz;rw [hpg j (by lia)]
   rw [e1];lia
  ·by_cases e2:i=k
   ·subst e2;rw [hpk,hlow i (zK _)]
   ·rw [hpg i e2,hlow i (by lia)];exact t.basin i (by lia) hi hBi
  ·have hl2:h.last i < k:=by
    rcases qP (h.last i) k with z | z
    ·exact z
    ·have e2:h.last i=k:=by lia
     rcases Zt g h.n i (by lia) with z2 | z2
     ·rw [<-e2,z2,hBi] at hB;cases hB
     ·rw [e2,hB] at z2;cases z2
   have hle:=(Jo g i).1;rw [hpg i (by lia),t.reach i hi hBi hl2];have:=ZBU (h:=h) (m:=h.last i) (ca:=s.came) (ca':=(h.basin yt lv s k).came) λj hj=>(hlow j (by have:=Wl g hj;lia)).symm
   rw [this.1,this.2]
 ·have hB':(h.pl k).kd.isB=false:=by
   cases z:(h.pl k).kd.isB with
   | false=>rfl
   | true=>exact absurd z hB
  by_cases hl:h.last k=k
  ·
   have e:h.step yt lv s k=h.reach s k:=by unfold Hs.step;rw [if_neg hB,if_pos hl]
   rw [e];have hdir:=ZFr g hl;have hmem:k∈h.mem k:=mem_iff.mpr ⟨hk,hl⟩;have hpg:∀j,j ∉ h.mem k->(h.reach s k).page j=s.page j:=λj hj=>by rw [ZAi,if_neg hj]
   have hpm:∀j,j∈h.mem k->(h.reach s k).page j=rrow (h.Ij s k) (h.Hn s k) ((h.mem k).idxOf j):=λj hj=>by rw [ZAi,if_pos hj]
   have hout:Ex (h.reach s k).page k=h.Hn s k ((h.mem k).length - 1):=by unfold Ex;rw [hpm k hmem,ZPe g hk hl];show (0:Int) + _=_;simp [rrow]
   have hcame:∀i,(h.reach s k).came i=s.came i + (if h.dn k=some i/\(h.pl k).dl=0 then Ex (h.reach s k).page k else 0):=λi=>by rw [hout];unfold Hs.reach;simp only [ZAR]
   have hcom:∀i a,(h.reach s k).coming i a=s.coming i a + (if h.dn k=some i/\(h.pl k).dl=a + 1 then Ex (h.reach s k).page k else 0):=λi a=>by rw [hout];unfold Hs.reach;simp only [ZC2]
   have hlow:∀i,i<=k->(h.reach s k).came i=s.came i:=λi hi=>by
    rw [hcame,if_neg]
    ·lia
    ·intro z;have:=g.dn k i hk z.1;lia
   have hin:∀j,j∈h.mem k->j < k->∃d,h.dir j=some d:=λj hj hjk=>by
    cases hd:h.dir j with
    | some d=>exact ⟨d,rfl⟩
    | none=>
     have h1:=J1 g hd;have h2:=(mem_iff.mp hj).2;lia
   refine ⟨λi hi=> ?_,λi a hi ha=> ?_,λi hik hi hBi=> ?_,λi hi hBi hli=> ?_⟩
   ·show _=_ + (Cg k (h.c1 (h.reach s k).page i) + h.c1 (h.reach s k).page i k);rw [hcame,t.came i hi];have e1:Cg k (h.c1 (h.reach s k).page i)=Cg k (h.c1 s.page i):=Tn λj hj=>by
     by_cases hm:j∈h.mem k
     ·obtain ⟨d,hd⟩:=hin j hm hj;unfold Hs.c1;simp [hd]
     ·unfold Hs.c1 Ex;rw [hpg j hm]
    rw [e1];unfold Hs.c1;simp only [hdir,true_and];lia
   ·show _=_ + (Cg k (h.o1 (h.reach s k).page i a) + h.o1 (h.reach s k).page i a k);rw [hcom,t.coming i a hi ha];have e1:Cg k (h.o1 (h.reach s k).page i a)=Cg k (h.o1 s.page i a):=Tn λj hj=>by
     by_cases hm:j∈h.mem k
     ·obtain ⟨d,hd⟩:=hin j hm hj;have hs:=ZBj hd;unfold Hs.o1;simp [hs.2.1,Wo hs.2.2.1]
     ·unfold Hs.o1 Ex Nz;rw [hpg j hm]
    rw [e1];unfold Hs.o1;rw [Wo hB'];simp;lia
   ·have hik2:i < k:=by
     rcases qP i k with z | z
     ·exact z
     ·have e2:i=k:=by lia
      rw [e2,hB'] at hBi;cases hBi
    have hm:i ∉ h.mem k:=λz=>by have h1:=(mem_iff.mp z).2;have h2:=J1 g (ZGx hBi);lia
    rw [hpg i hm,hlow i (by lia)];exact t.basin i hik2 hi hBi
   ·by_cases e2:h.last i=k
    ·have hm:i∈h.mem k:=mem_iff.mpr ⟨hi,e2⟩;rw [hpm i hm,e2];have:=ZBU (h:=h) (m:=k) (ca:=s.came) (ca':=(h.reach s k).came) λj hj=>(hlow j (Wl g hj)).symm
     rw [<-this.1,<-this.2]
     rfl
    ·have hm:i ∉ h.mem k:=λz=>e2 (mem_iff.mp z).2
     rw [hpg i hm,t.reach i hi hBi (by lia)];have:=ZBU (h:=h) (m:=h.last i) (ca:=s.came) (ca':=(h.reach s k).came) λj hj=>(hlow j (by have:=Wl g hj;lia)).symm
     rw [this.1,this.2]
  ·
   have e:h.step yt lv s k=s:=by unfold Hs.step;rw [if_neg hB,if_neg hl]
   rw [e];obtain ⟨d,hd⟩:∃d,h.dir k=some d:=by
    cases hd:h.dir k with
    | some d=>exact ⟨d,rfl⟩
    | none=>exact absurd (J1 g hd) hl
   have hs:=ZBj hd;refine ⟨λi hi=> ?_,λi a hi ha=> ?_,λi hik hi hBi=> ?_,λi hi hBi hli=> ?_⟩
   ·show _=_ + (Cg k (h.c1 s.page i) + h.c1 s.page i k);rw [t.came i hi];unfold Hs.c1;simp [hd]
   ·show _=_ + (Cg k (h.o1 s.page i a) + h.o1 s.page i a k);rw [t.coming i a hi ha];unfold Hs.o1;simp [hs.2.1,Wo hs.2.2.1]
   ·refine t.basin i ?_ hi hBi;rcases qP i k with z | z
    ·exact z
    ·have e2:i=k:=by lia
     rw [e2,hB'] at hBi;cases hBi
   ·refine t.reach i hi hBi ?_;rcases qP (h.last i) k with z | z
    ·exact z
    ·have e2:h.last i=k:=by lia
     have:=Z0 g h.n i (by lia);rw [e2] at this;exact absurd this hl
theorem ZG0 (g:GoodH h):∀(m k:Nat) (s:Cs),k + m=h.n->TI h yt lv co fl k s->TI h yt lv co fl h.n (h.goF yt lv m k s)
 | 0,k,s,e,t=>by
  have e1:k=h.n:=by lia
  rw [e1] at t;exact t
 | m + 1,k,s,e,t=>ZG0 g m (k + 1) _ (by lia) (ZI4 g (by lia) t)
theorem ZAy (g:GoodH h) :TI h (at_ % h.yr) lv co fl h.n (h.cs lv co at_ fl):=by
 refine ZG0 g h.n 0 _ (by lia) ⟨λi hi=> ?_,λi a hi ha=> ?_,(λi hi=>absurd hi (by lia)),(λi _ _ hi=>absurd hi (by lia))⟩
 ·show fl i + co i 0=fl i + co i 0 + 0;lia
 ·show Ib co i a=Ib co i a + 0;lia
end
section
variable {h:Hs} {yt:Int} {lv:Nat->Int} {co:Nat->Nat->Int} {fl:Nat->Int}
theorem Pu (hi:i < ms.length):(h.rows ms ca)[i]? =some (h.row ms ca ms[i]):=by
 unfold Hs.rows;rw [zj,zZ hi]
 rfl
theorem ZNy {q:Row->Int} (hk:k∈ms):col q (h.rows ms ca) (ms.idxOf k)=q (h.row ms ca k):=by have hl:=qx hk;unfold col;rw [Pu hl,j7 hl]
end
theorem ZGe {t:Int}:∀{r:List Ssn} {x:List Stp},held t r x=x∨∃s∈r,held t r x=s.2
 | [],x=>.inl rfl
 | s::r,x=>by
  show held t r (if s.1<=t then s.2 else x)=x∨_;rcases ZGe (t:=t) (r:=r) (x:=if s.1<=t then s.2 else x) with z | ⟨s',hs,z⟩
  ·by_cases hc:s.1<=t
   ·rw [if_pos hc] at z;exact .inr ⟨s,by simp,by show held t r (if s.1<=t then s.2 else x)=_;rw [if_pos hc];exact z⟩
   ·rw [if_neg hc] at z;exact .inl (by rw [if_neg hc];exact z)
  ·exact .inr ⟨s',zJ _ hs,z⟩
section
variable {h:Hs} {yt:Int} {lv:Nat->Int} {co:Nat->Nat->Int} {fl:Nat->Int}
end
theorem Uw:∀{n:Nat} {F F':Nat->Int},(∀i,i < n->F i<=F' i)->Cg n F<=Cg n F'
 | 0,_,_,_=>zE _
 | n + 1,F,F',h=>by
  have h1:=Uw (n:=n) (F:=F) (F':=F') λi hi=>h i (by lia)
  have h2:=h n (by lia);show Cg n F + F n<=Cg n F' + F' n;lia
theorem ZFu (h:w<=w') {s:Stp}:cub w s<=cub w' s:=by unfold cub;lia
theorem ZC8 (h:w<=w'):∀{st:List Stp},rv w st<=rv w' st
 | []=>zE _
 | s::st=>by
  have h1:=ZC8 h (st:=st);have h2:=ZFu h (s:=s);show (if s.r then cub w s else 0) + rv w st<=(if s.r then cub w' s else 0) + rv w' st
  split <;> lia
theorem ZH4 (h:w<=w'):∀{st:List Stp},pm w st<=pm w' st
 | []=>zE _
 | s::st=>by
  have h1:=ZH4 h (st:=st);have h2:=ZFu h (s:=s);show (if s.r then 0 else cub w s) + pm w st<=(if s.r then 0 else cub w' s) + pm w' st
  split <;> lia
theorem ZGs (h:w<=w'):∀{st:List Stp} {t:Int},Good t st->rv w' st + pm w' st - (rv w st + pm w st)<=max w' t - max w t
 | [],t,_=>by show (0:Int) + 0 - (0 + 0)<=_;lia
 | s::st,t,hg=>by
  obtain ⟨h1,h2,h3⟩:=hg;have ih:=ZGs h h3;have e:∀w,rv w (s::st) + pm w (s::st)=cub w s + (rv w st + pm w st):=λw=>by
   show (if s.r then cub w s else 0) + rv w st + ((if s.r then 0 else cub w s) + pm w st)=_
   split <;> lia
  rw [e,e];unfold cub;lia
theorem ZFk {w:Int}:∀{st:List Stp} {t:Int},Good t st->rv w st + pm w st<=max 0 (w - t)
 | [],t,_=>by show (0:Int) + 0<=_;lia
 | s::st,t,hg=>by
  obtain ⟨h1,h2,h3⟩:=hg;have ih:=ZFk (w:=w) h3;have e:rv w (s::st) + pm w (s::st)=cub w s + (rv w st + pm w st):=by
   show (if s.r then cub w s else 0) + rv w st + ((if s.r then 0 else cub w s) + pm w st)=_
   split <;> lia
  rw [e];unfold cub;lia
section
variable {h:Hs} {yt:Int} {lv lv':Nat->Int} {co co':Nat->Nat->Int} {fl fl':Nat->Int}
theorem ZC7 (g:GoodH h) (hk:k < h.n) {b:Int} {r:List Ssn} (e:(h.pl k).kd=.basin b r q):Good 0 (held yt r []):=by
 rcases ZGe (t:=yt) (r:=r) (x:= []) with z | ⟨s,hs,z⟩
 ·rw [z];trivial
 ·rw [z];exact (g.brim k b r q hk e).2 s hs
end
structure PageOk (h:Hs) (pg:Nat->List Int):Prop where
 row:∀k,k < h.n->∃a b c d e f,pg k= [a,b,c,d,e,f]/\0<=a/\0<=b/\0<=c/\0<=d/\0<=e/\0<=f
 brim:∀k b r q,k < h.n->(h.pl k).kd=.basin b r q->(pg k).getD 5 0<=b/\(0 < (pg k).getD 2 0->(pg k).getD 5 0=b)
 town:∀k a b,k < h.n->(h.pl k).kd=.town a b->(pg k).getD 1 0<=a
 idleB:∀k,k < h.n->(h.pl k).kd.isB=true->(pg k).getD 1 0=0
 ZPQ:∀k,k < h.n->(h.pl k).kd.isB=false->(pg k).getD 2 0=0/\(pg k).getD 4 0=0/\(pg k).getD 5 0=0
structure StOk (h:Hs) (lv:Nat->Int) (co:Nat->Nat->Int):Prop where
 lv0:∀k,k < h.n->0<=lv k
 lvR:∀k,k < h.n->(h.pl k).kd.isB=false->lv k=0
 co0:∀k a,k < h.n->a < 5->0<=co k a
section
variable {h:Hs} {yt:Int} {lv:Nat->Int} {co:Nat->Nat->Int} {fl:Nat->Int}
theorem ZDd (g:GoodH h) (t:TI h yt lv co fl h.n s) (nn:s.NN h.n) (h0:∀k,k < h.n->0<=lv k):PageOk h s.page:=by
 refine ⟨λk hk=> ?_,λk b r q hk e=> ?_,λk a b hk e=> ?_,λk hk hB=> ?_,λk hk hB=> ?_⟩
 ·cases hB:(h.pl k).kd.isB with
  | true=>
   rw [t.basin k hk hk hB];unfold Hs.brow;cases e:(h.pl k).kd with
   | basin b r q=>
    have a0:=h0 k hk;have a1:=nn.1 k hk;have a2:=ZAt (w:=lv k + s.came k) (st:=held yt r []);have a3:=ZAO (w:=lv k + s.came k) (st:=held yt r []);have a4:=ZFk (w:=lv k + s.came k) (ZC7 (yt:=yt) g hk e);have a5:=(g.brim k b r q hk e).1;exact ⟨_,_,_,_,_,_,rfl,a1,zE _,by lia,a2,a3,by lia⟩
   | town _ _=>rw [e] at hB;cases hB
   | mill _=>rw [e] at hB;cases hB
  | false=>
   have hl:=(Jo g k).2 hk;rw [t.reach k hk hB hl];have hR:=Ox g (m:=h.last k) nn.1;have hm:k∈h.mem (h.last k):=mem_iff.mpr ⟨hk,rfl⟩;have hsi:=X6 hR;have t0:0<=h.Ir s.came (h.last k) ((h.mem (h.last k)).idxOf k):=hsi.t0 _;have l0:0<=h.Ka s.came (h.last k) ((h.mem (h.last k)).idxOf k):=by have:=hsi.p0 ((h.mem (h.last k)).idxOf k) (by rw [Jj];exact qx hm);rw [hsi.pg] at this;exact this
   exact ⟨_,_,_,_,_,_,rfl,by lia,t0,zE _,l0,zE _,zE _⟩
 ·have hB:(h.pl k).kd.isB=true:=by rw [e];rfl
  rw [t.basin k hk hk hB];unfold Hs.brow;rw [e];simp only [jK,jY];lia
 ·have hB:(h.pl k).kd.isB=false:=by rw [e];rfl
  have hl:=(Jo g k).2 hk;rw [t.reach k hk hB hl];have hR:=Ox g (m:=h.last k) nn.1;have hm:k∈h.mem (h.last k):=mem_iff.mpr ⟨hk,rfl⟩;have hn:=(X6 hR).tn ((h.mem (h.last k)).idxOf k);rw [ZNy hm] at hn;have e2:(h.row (h.mem (h.last k)) s.came k).need=a:=by show h.need k=a;unfold Hs.need;rw [e]
  rw [e2] at hn;exact hn
 ·rw [t.basin k hk hk hB];unfold Hs.brow
  cases e:(h.pl k).kd <;> rfl
 ·have hl:=(Jo g k).2 hk;rw [t.reach k hk hB hl];exact ⟨rfl,rfl,rfl⟩
theorem ZAk (g:GoodH h) (t:TI h yt lv co fl h.n s) (nn:s.NN h.n) (h0:∀k,k < h.n->0<=lv k):StOk h (lies s.page) s.coming:=by have po:=ZDd g t nn h0;refine ⟨λk hk=> ?_,λk hk hB=>(po.ZPQ k hk hB).2.2,nn.2⟩;obtain ⟨a,b,c,d,e,f,e1,h1⟩:=po.row k hk;unfold lies;rw [e1];exact h1.2.2.2.2.2
end
section
variable {h:Hs} {yt:Int} {lv lv':Nat->Int} {co co':Nat->Nat->Int} {fl fl':Nat->Int}
theorem ZHa (g:GoodH h) (hk:k < h.n) (hB:(h.pl k).kd.isB=true) {c':Int} (h0:0<=lv k + c) (hl:lv k + c<=lv' k + c'):
  (h.brow yt lv k c).getD 2 0<=(h.brow yt lv' k c').getD 2 0/\(h.brow yt lv k c).getD 3 0<=(h.brow yt lv' k c').getD 3 0/\(h.brow yt lv k c).getD 4 0<=(h.brow yt lv' k c').getD 4 0/\(h.brow yt lv k c).getD 5 0<=(h.brow yt lv' k c').getD 5 0:=by
 unfold Hs.brow;cases e:(h.pl k).kd with
 | basin b r q=>
  have h1:=ZC8 hl (st:=held yt r []);have h2:=ZH4 hl (st:=held yt r []);have h3:=ZGs hl (ZC7 (yt:=yt) g hk e);simp only [jK,jY];lia
 | town _ _=>rw [e] at hB;cases hB
 | mill _=>rw [e] at hB;cases hB
theorem ZHG:SameR (h.rows ms ca) (h.rows ms ca')/\∀k,col Row.need (h.rows ms ca') k=col Row.need (h.rows ms ca) k:=by
 have e:∀i,(h.rows ms ca')[i]? =(h.rows ms ca)[i]?.map λ(r:Row)=>{r with water:=ca' (ms.getD i 0)}:=λi=>by
  by_cases hi:i < ms.length
  ·have e4:ms.getD i 0=ms[i]:=by simp [zA,zZ hi]
   rw [Pu hi,Pu hi,e4]
   rfl
  ·rw [zk (by rw [Jj];lia),zk (by rw [Jj];lia)]
   rfl
 refine ⟨⟨by rw [Jj,Jj],λk=> ?_,λk=> ?_⟩,λk=> ?_⟩
 ·unfold Bw;rw [e]
  cases (h.rows ms ca)[k]? <;> rfl
 ·unfold col;rw [e]
  cases (h.rows ms ca)[k]? <;> rfl
 ·unfold col;rw [e]
  cases (h.rows ms ca)[k]? <;> rfl
theorem ZGg (g:GoodH h) (hc:∀k,k < h.n->0<=ca k) (hc':∀k,k < h.n->0<=ca' k) (hle:∀k∈h.mem m,ca k<=ca' k):
  (∀i,h.Ir ca m i<=h.Ir ca' m i)/\(m < h.n->h.last m=m->h.Ka ca m ((h.mem m).idxOf m)<=h.Ka ca' m ((h.mem m).idxOf m)):=by
 have hR:=Ox g (m:=m) hc;have hR':=Ox g (m:=m) hc';have hS:=ZHG (h:=h) (ms:=h.mem m) (ca:=ca) (ca':=ca');have hS0:=ZHG (h:=h) (ms:=h.mem m) (ca:=ca) (ca':=ca);have hout:∀(ca:Nat->Int) i,¬i < (h.mem m).length->col Row.water (h.rows (h.mem m) ca) i=0:=λca i hi=>by unfold col;rw [zk (by rw [Jj];lia)]
 have hw:=ZKA hR (W:=col Row.water (h.rows (h.mem m) ca)) (W':=col Row.water (h.rows (h.mem m) ca')) hR.water (λi=>by
  by_cases hi:i < (h.mem m).length
  ·unfold col;rw [Pu hi,Pu hi];exact hle _ (qJ hi)
  ·rw [hout ca i hi,hout ca' i hi];exact zE _) (λi hi=>by
  rw [Jj] at hi;rw [hout ca i hi,hout ca' i hi])
 have t1:h.Ir ca m=_:=ZHz hS0.1 hS0.2;have t2:h.Ir ca' m=_:=ZHz hS.1 hS.2;have l1:h.Ka ca m=_:=ZHf hR hS0.1 hS0.2;have l2:h.Ka ca' m=_:=ZHf hR' hS.1 hS.2;refine ⟨λi=> ?_,λhm hl=> ?_⟩
 ·rw [t1,t2];exact hw.1 i
 ·rw [l1,l2];refine hw.2 _ ?_;have hmm:m∈h.mem m:=mem_iff.mpr ⟨hm,hl⟩;have hi:=qx hmm;unfold Bw;rw [Pu hi,j7 hi];show (h.dir m).map _=none;rw [ZFr g hl]
  rfl
theorem ZFf (g:GoodH h) (t:TI h yt lv co fl h.n s) (t':TI h yt lv' co' fl' h.n s') (nn:s.NN h.n) (nn':s'.NN h.n) (h0:∀k,k < h.n->0<=lv k) (hlv:∀k,k < h.n->lv k<=lv' k) (hco:∀k,k < h.n->co k 0<=co' k 0) (hfl:∀k,k < h.n->fl k<=fl' k):
  ∀(m k:Nat),k < m->k < h.n->s.came k<=s'.came k/\(h.dir k=none->Ex s.page k<=Ex s'.page k)
 | 0,k,hm,_=>absurd hm (by lia)
 | m + 1,k,hm,hk=>by
  have ih:=ZFf g t t' nn nn' h0 hlv hco hfl m;have hc:s.came k<=s'.came k:=by
   rw [t.came k hk,t'.came k hk];have h1:=hco k hk;have h2:=hfl k hk;have h3:Cg h.n (h.c1 s.page k)<=Cg h.n (h.c1 s'.page k):=Uw λj hj=>by
    unfold Hs.c1;by_cases hcd:h.dir j=none/\h.dn j=some k/\(h.pl j).dl=0
    ·have hlt:=g.dn j k hj hcd.2.1;rw [if_pos hcd,if_pos hcd];exact (ih j (by lia) hj).2 hcd.1
    ·rw [if_neg hcd,if_neg hcd];exact zE _
   lia
  refine ⟨hc,λhd=> ?_⟩;unfold Ex;cases hB:(h.pl k).kd.isB with
  | true=>
   rw [t.basin k hk hk hB,t'.basin k hk hk hB];have:=hlv k hk;have:=h0 k hk;have:=nn.1 k hk;have:=ZHa (yt:=yt) (lv:=lv) (lv':=lv') g hk hB (c:=s.came k) (c':=s'.came k) (by lia) (by lia);lia
  | false=>
   have hl:=J1 g hd;rw [t.reach k hk hB (by lia),t'.reach k hk hB (by lia),hl];have hm2:=(ZGg g (m:=k) nn.1 nn'.1 λj hj=>by
    have h1:=Wl g hj;by_cases e:j=k
    ·subst e;exact hc
    ·exact (ih j (by lia) (mem_iff.mp hj).1).1).2 hk hl
   show (0:Int) + _<=0 + _;simp only [rrow,jK,jY];lia
structure MoreP (h:Hs) (pg pg':Nat->List Int):Prop where
 took:∀k,k < h.n->(pg k).getD 1 0<=(pg' k).getD 1 0
 basin:∀k,k < h.n->(h.pl k).kd.isB=true->(pg k).getD 2 0<=(pg' k).getD 2 0/\(pg k).getD 3 0<=(pg' k).getD 3 0/\(pg k).getD 4 0<=(pg' k).getD 4 0
 lies:∀k,k < h.n->lies pg k<=lies pg' k
 out:∀k,k < h.n->h.dir k=none->Ex pg k<=Ex pg' k
theorem ZKv (g:GoodH h) (t:TI h yt lv co fl h.n s) (t':TI h yt lv' co' fl' h.n s') (nn:s.NN h.n) (nn':s'.NN h.n) (h0:∀k,k < h.n->0<=lv k) (hlv:∀k,k < h.n->lv k<=lv' k) (hco:∀k a,k < h.n->a < 5->co k a<=co' k a) (hfl:∀k,k < h.n->fl k<=fl' k):
  MoreP h s.page s'.page/\∀k a,k < h.n->a < 5->s.coming k a<=s'.coming k a:=by
 have cm:=λk hk=>ZFf g t t' nn nn' h0 hlv (λk hk=>hco k 0 hk (by lia)) hfl h.n k hk hk
 have hbm:∀k,k < h.n->(h.pl k).kd.isB=true->_:=λk hk hB=>by have h1:=hlv k hk;have h2:=h0 k hk;have h3:=nn.1 k hk;have h4:=(cm k hk).1;exact ZHa (yt:=yt) (lv:=lv) (lv':=lv') g hk hB (c:=s.came k) (c':=s'.came k) (by lia) (by lia)
 have mp:MoreP h s.page s'.page:=by
  refine ⟨λk hk=> ?_,λk hk hB=> ?_,λk hk=> ?_,λk hk hd=>(cm k hk).2 hd⟩
  ·cases hB:(h.pl k).kd.isB with
   | true=>
    rw [t.basin k hk hk hB,t'.basin k hk hk hB];unfold Hs.brow
    cases e:(h.pl k).kd <;> exact zE _
   | false=>
    have hl:=(Jo g k).2 hk;rw [t.reach k hk hB hl,t'.reach k hk hB hl];exact (ZGg g (m:=h.last k) nn.1 nn'.1 λj hj=>(cm j (mem_iff.mp hj).1).1).1 _
  ·rw [t.basin k hk hk hB,t'.basin k hk hk hB];have:=hbm k hk hB;exact ⟨this.1,this.2.1,this.2.2.1⟩
  ·unfold Law.lies;cases hB:(h.pl k).kd.isB with
   | true=>
    rw [t.basin k hk hk hB,t'.basin k hk hk hB];exact (hbm k hk hB).2.2.2
   | false=>
    have hl:=(Jo g k).2 hk;rw [t.reach k hk hB hl,t'.reach k hk hB hl];exact zE _
 refine ⟨mp,λk a hk ha=> ?_⟩;rw [t.coming k a hk ha,t'.coming k a hk ha];have h1:Ib co k a<=Ib co' k a:=by
  unfold Ib;split
  ·exact hco k (a + 1) hk (by lia)
  ·exact zE _
 have h2:Cg h.n (h.o1 s.page k a)<=Cg h.n (h.o1 s'.page k a):=Uw λj hj=>by
  unfold Hs.o1;have a1:(if h.dn j=some k/\(h.pl j).dl=a + 1 then Ex s.page j else 0)<=(if h.dn j=some k/\(h.pl j).dl=a + 1 then Ex s'.page j else 0):=by
   by_cases hc:h.dn j=some k/\(h.pl j).dl=a + 1
   ·rw [if_pos hc,if_pos hc];refine mp.out j hj ?_;cases hd:h.dir j with
    | none=>rfl
    | some d=>have:=(ZBj hd).2.1;lia
   ·rw [if_neg hc,if_neg hc];exact zE _
  have a2:(if h.pmp j=some (k,a + 1) then Nz s.page j else 0)<=(if h.pmp j=some (k,a + 1) then Nz s'.page j else 0):=by
   by_cases hc:h.pmp j=some (k,a + 1)
   ·rw [if_pos hc,if_pos hc];have hB:(h.pl j).kd.isB=true:=by
     cases z:(h.pl j).kd.isB with
     | true=>rfl
     | false=>rw [Wo z] at hc;cases hc
    exact (mp.basin j hj hB).2.2
   ·rw [if_neg hc,if_neg hc];exact zE _
  lia
 lia
end
section
variable {h:Hs}
theorem ZBi (g:GoodH h):∀(fls:List (Nat->Int)) (s:St2) (a:Int),StOk h s.1 s.2->(∀fl∈fls,∀k,k < h.n->0<=fl k)->(∀pg∈h.Gd fls s a,PageOk h pg)/\StOk h (h.G7 fls s a).1 (h.G7 fls s a).2
 | [],s,a,hs,_=>⟨(λpg hp=>nomatch hp),hs⟩
 | fl::r,s,a,hs,hf=>by
  have hf1:=hf fl (by simp);have t:=ZAy (lv:=s.1) (co:=s.2) (fl:=fl) g (at_:=a);have nn:=Uo g (lv:=s.1) (fl:=fl) (co:=s.2) (a:=a) hs.co0 hf1;have ih:=ZBi g r (h.nxt s a fl) (a + 1) (ZAk g t nn hs.lv0) λf' hf'=>hf f' (zJ _ hf')
  refine ⟨λpg hp=> ?_,ih.2⟩;rcases zx.mp hp with rfl | hp
  ·exact ZDd g t nn hs.lv0
  ·exact ih.1 pg hp
end
section
variable {h:Hs}
noncomputable def MoreL (h:Hs):List (Nat->List Int)->List (Nat->List Int)->Prop
 | [],[]=>True
 | p::r,p'::r'=>MoreP h p p'/\MoreL h r r'
 | _,_=>False
noncomputable def LeF (n:Nat):List (Nat->Int)->List (Nat->Int)->Prop
 | [],[]=>True
 | p::r,p'::r'=>(∀k,k < n->p k<=p' k)/\LeF n r r'
 | _,_=>False
theorem ZEA (g:GoodH h):∀(fls fls':List (Nat->Int)) (s s':St2) (a:Int),StOk h s.1 s.2->StOk h s'.1 s'.2->(∀fl∈fls,∀k,k < h.n->0<=fl k)->(∀fl∈fls',∀k,k < h.n->0<=fl k)->(∀k,k < h.n->s.1 k<=s'.1 k)->(∀k a,k < h.n->a < 5->s.2 k a<=s'.2 k a)->LeF h.n fls fls'->
  MoreL h (h.Gd fls s a) (h.Gd fls' s' a)/\∀k j,k < h.n->j < 5->(h.G7 fls s a).2 k j<=(h.G7 fls' s' a).2 k j
 | [],[],s,s',a,_,_,_,_,_,hco,_=>⟨trivial,hco⟩
 | fl::r,fl'::r',s,s',a,hs,hs',hf,hf',hlv,hco,hl=>by
  have t:=ZAy (lv:=s.1) (co:=s.2) (fl:=fl) g (at_:=a);have nn:=Uo g (lv:=s.1) (fl:=fl) (co:=s.2) (a:=a) hs.co0 (hf fl (by simp));have t':=ZAy (lv:=s'.1) (co:=s'.2) (fl:=fl') g (at_:=a);have nn':=Uo g (lv:=s'.1) (fl:=fl') (co:=s'.2) (a:=a) hs'.co0 (hf' fl' (by simp));have m:=ZKv g t t' nn nn' hs.lv0 hlv hco hl.1;have ih:=ZEA g r r' (h.nxt s a fl) (h.nxt s' a fl') (a + 1) (ZAk g t nn hs.lv0) (ZAk g t' nn' hs'.lv0) (λf' hf'=>hf f' (zJ _ hf')) (λf' hf''=>hf' f' (zJ _ hf'')) m.1.lies m.2 hl.2
  exact ⟨⟨m.1,ih.1⟩,ih.2⟩
 | [],_::_,_,_,_,_,_,_,_,_,_,hl=>absurd hl (by intro z;exact z)
 | _::_,[],_,_,_,_,_,_,_,_,_,hl=>absurd hl (by intro z;exact z)
end
theorem ZLd {x:Int} (hx:0<=x) (G:DH):R1 [.int x] G=.ok (.bl true) G:=by unfold R1 ZFw;rw [Br];simp [hx,Ci]
theorem ZMD (h:∀x∈xs,0<=x) (G:DH):Dz (gV 0) Cd (dFn R1 (Ab (dV 0) Ad)) [none] (xs.map D.int) G=.ok ((xs.map λ_=>true).map D.bl) G:=by rw [qO];exact Q4 (E:=D.int) (F:=λ_=>.bl true) λx hx=>by simp [ZLd (h x hx)]
theorem ZJv (G:DH):freeze G (.ok (.ref G.length) (G++ [.lst ((xs.map λ_=>true).map D.bl)]))=.ok (.fl ((xs.map λ_=>true).map D.bl)) G:=Ga (Gq λ_ _=>rfl)
theorem ZLN:(xs.map λ_=>true).all id=true:=by simp
theorem ZHB {x y:Option D} {G:DH}:∀(rows:List (List Int)) (z:Option D),(∀r∈rows,r.length=6/\∀v∈r,0<=v)->∃z',Be (gV 2) Wx (rows.map λr=>.tup (r.map D.int)) [x,y,z] G=.nx [x,y,z'] G
 | [],z,_=>⟨z,by rw [jO,Dm]⟩
 | r::rows,z,h=>by
  obtain ⟨z',ih⟩:=ZHB (x:=x) (y:=y) (G:=G) rows (some (.tup (r.map D.int))) λr' hr'=>h r' (zJ _ hr')
  refine ⟨z',?_⟩;obtain ⟨h6,h0⟩:=h r (by simp);have hb:Wx [x,y,some (.tup (r.map D.int))] G=.nx [x,y,some (.tup (r.map D.int))] G:=by
   have hw:=ZMD h0 G;have hz:=ZJv (xs:=r) G;have hal:=ZLN (xs:=r);have ea:=ZI8 (ks:=r.map λ_=>true) (G:=G);rw [hal] at ea;have hts:((r.map λ_=>true).map D.bl).length<=1000000:=by simp [h6]
   generalize (r.map λ_=>true).map D.bl=ts at hw hz ea hts;unfold Wx ZGL;simp [hts,h6,Bh,hw,hz,ea]
  rw [zC,Cy];simp only [Do,R.Dj,zU,hb,Dv];exact ih
theorem ZIj (p:PageOk h pg):Cu h.n pg=((zX h.n).map pg).map λr=>.tup (r.map D.int):=by
 unfold Cu;rw [qO];refine qQ λk hk=> ?_
 obtain ⟨a,b,c,d,e,f,e1,_⟩:=p.row k (qW.mp hk);show Jh (pg k)=_;rw [e1];simp [Jh,e1]
theorem ZFo (p:PageOk h pg) (G:DH):Rn [pgD h.n pg,.int h.n] G=.ok (.bl true) G:=by
 obtain ⟨z',hL⟩:=ZHB (x:=some (pgD h.n pg)) (y:=some (.int h.n)) (G:=G) ((zX h.n).map pg) none λr hr=>by
  obtain ⟨k,hk,rfl⟩:=zH.mp hr;obtain ⟨a,b,c,d,e,f,e1,h1,h2,h3,h4,h5,h6⟩:=p.row k (qW.mp hk);rw [e1];refine ⟨rfl,λv hv=> ?_⟩;simp only [zx,List.not_mem_nil,or_false] at hv
  rcases hv with rfl | rfl | rfl | rfl | rfl | rfl <;> assumption
 rw [<-ZIj p] at hL;have hlen:(Cu h.n pg).length=h.n:=Xw;unfold pgD at hL ⊢;generalize Cu h.n pg=L at hL hlen;unfold Rn ZGf;rw [Br];simp [hlen,hL,Ci]
theorem ZBL {n:Nat} (hk:k < n) {b d e f:Int} (e1:pg k= [a,b,c,d,e,f]):atI (Cu n pg) (k:Int)=some (.tup [.int a,.int b,.int c,.int d,.int e,.int f]):=Eo rfl (by unfold Cu;rw [zj,zI hk];simp [Jh,e1])
def mcell (h:Hs) (f:Nat->Int) (k:Nat):Int:=f (6 + 24 * h.n + k)
noncomputable def lvM (h:Hs) (f:Nat->Int) (u:Int) (lv:Nat->Int) (k:Nat):Int:=match (h.pl k).kd with
 | .basin b _ _=>lv k + amt (mcell h f k / 2) u % (b - lv k + 1) * (mcell h f k % 2)
 | _=>lv k
noncomputable def coM (h:Hs) (f:Nat->Int) (u:Int) (co:Nat->Nat->Int) (k j:Nat):Int:=co k j + u * (mcell h f k / 2 % 2)
noncomputable def flM (h:Hs) (f:Nat->Int) (u:Int) (fl:Nat->Nat->Int) (i k:Nat):Int:=fl i k + amt (f (6 + 24 * h.n + h.n + i * h.n + k) / 2) u * (f (6 + 24 * h.n + h.n + i * h.n + k) % 2)
theorem ZCn {x:Int} (hx:0<=x):0<=x * (c % 2):=jy hx (by lia)
theorem ZMk:tab k F++ [.int (F k)]=tab (k + 1) F:=by simp [tab,jx]
theorem ZPd:Bk k co++ [.tup (tab 5 (co k))]=Bk (k + 1) co:=by simp [Bk,jx]
theorem Zf {n:Nat} (hk:k < n):atI (Bk n co) (k:Int)=some (.tup (tab 5 (co k))):=Eo rfl (by simp [Bk,hk])
theorem ZMt (h:∀m,bels m ds=true):freeze (G++ [A,B]) (.ok (.ref (G.length + 2)) (G++ [A,B,.lst ds]))=.ok (.fl ds) (G++ [A,B]):=by have:=Ga (G:=G++ [A,B]) (ds:=ds) (L:= []) (h _);simpa using this
theorem ZCK {C:DO} (h:∀m,bels m ds=true):freeze (G++ [A,B,C]) (.ok (.ref (G.length + 3)) (G++ [A,B,C,.lst ds]))=.ok (.fl ds) (G++ [A,B,C]):=by have:=Ga (G:=G++ [A,B,C]) (ds:=ds) (L:= []) (h _);simpa using this
section
variable {ns:List Int} {f:Nat->Int} {u:Int} {h:Hs}
theorem ZOH (hf:∀k:Nat,k<=1000->∀G,Bb [.fl (ns.map D.int),.int k] G=.ok (.int (f k)) G) (hu:0 < u) (g:GoodH h) (hb:∀k b r q,k < h.n->(h.pl k).kd=.basin b r q->lv k<=b) (hk:k < h.n) {s3 x10 x11 x12 x13 s14 s15 s16 s17:Option D} (G:DH):∃y12,
  Mz [some (.fl (ns.map D.int)),some h.enc,some (stD h.n lv co),s3,some (.int u),some (.int h.n),some (.int ((6 + 24 * h.n:Nat):Int)),some (.ref G.length),some (.ref (G.length + 1)),some (.int k),x10,x11,x12,x13,s14,s15,s16,s17] (G++ [.lst (tab k (lvM h f u lv)),.lst (Bk k (coM h f u co))])=
   .nx [some (.fl (ns.map D.int)),some h.enc,some (stD h.n lv co),s3,some (.int u),some (.int h.n),some (.int ((6 + 24 * h.n:Nat):Int)),some (.ref G.length),some (.ref (G.length + 1)),some (.int k),some (.int (mcell h f k)),some (.int (lvM h f u lv k)),y12,some (.fl (tab 5 (coM h f u co k))),s14,s15,s16,s17] (G++ [.lst (tab (k + 1) (lvM h f u lv)),.lst (Bk (k + 1) (coM h f u co))]):=by
 have hn:=g.len;have hc:∀G,Bb [.fl (ns.map D.int),.int (((6 + 24 * h.n:Nat):Int) + (k:Int))] G=.ok (.int (mcell h f k)) G:=λG=>by have:=hf (6 + 24 * h.n + k) (by lia) G;rwa [show ((6 + 24 * h.n + k:Nat):Int)=((6 + 24 * h.n:Nat):Int) + k by lia] at this
 generalize ((6 + 24 * h.n:Nat):Int)=B at hc;have ap:atI h.Dk (k:Int)=some (h.encP (h.pl k)):=Hs.Ey hk;have al:atI (tab h.n lv) (k:Int)=some (.int (lv k)):=Gi hk;have ar:atI (Bk h.n co) (k:Int)=some (.tup (tab 5 (co k))):=Zf hk;have mu:∀G,Bg (.int u) (.int (mcell h f k / 2 % 2)) G=.ok (.int (u * (mcell h f k / 2 % 2))) G:=λG=>Jk (by lia) (by lia)
 have cp:∀G,Dz (gV 0) Cd ZAs [none,some (.int u),some (.int (mcell h f k))] (tab 5 (co k)) G=.ok (tab 5 (coM h f u co k)) G:=λG=>Q4 (E:=λj=>D.int (co k j)) (F:=λj=>.int (coM h f u co k j)) λj _=>by unfold ZAs;simp [mu,coM]
 have fz:∀ds ds':List D,freeze (G++ [.lst ds,.lst ds']) (.ok (.ref (G.length + 2)) (G++ [.lst ds,.lst ds',.lst (tab 5 (coM h f u co k))]))=.ok (.fl (tab 5 (coM h f u co k))) (G++ [.lst ds,.lst ds']):=λds ds'=>ZMt λ_=>Jg
 have hl1:k < 1000000:=by lia
 have cs:∀a b c d e f' g h i j k' l m n o p q r:Option D,Bh 1 [4,10] [a,b,c,d,e,f',g,h,i,j,k',l,m,n,o,p,q,r]= [none,e,k']:=λ_ _ _ _ _ _ _ _ _ _ _ _ _ _ _ _ _ _=>rfl
 have g0:∀a b:DO,(G++ [a,b])[G.length]? =some a:=λa b=>by simp
 have g1:∀a b:DO,(G++ [a,b])[G.length + 1]? =some b:=λa b=>by simp
 have s0:∀a b c:DO,(G++ [a,b]).set G.length c=G++ [c,b]:=λa b c=>by simp
 have s1:∀a b c:DO,(G++ [a,b]).set (G.length + 1) c=G++ [a,c]:=λa b c=>by simp
 have t1:=ZMk (k:=k) (F:=lvM h f u lv);have t2:=ZPd (k:=k) (co:=coM h f u co);have et:∀ds:List D,Fd [.fl ds]=λG=>.ok (.tup ds) G:=λds=>rfl
 have hT5:(tab 5 (coM h f u co k)).length<=1000000:=by simp
 generalize tab 5 (coM h f u co k)=T5 at cp fz t2 hT5;generalize tab (k + 1) (lvM h f u lv)=TL at t1;generalize Bk (k + 1) (coM h f u co)=RL at t2;unfold stD;cases ek:(h.pl k).kd with
 | basin b r q=>
  have hbl:=hb k b r q hk ek;have hv:lvM h f u lv k=lv k + amt (mcell h f k / 2) u % (b - lv k + 1) * (mcell h f k % 2):=by unfold lvM;rw [ek]
  have e4:∀G,Aj (h.encP (h.pl k)) (.int 4) G=.ok (.int b) G:=λG=>by unfold Hs.encP;rw [ek];simp
  have r0:0 < b - lv k + 1:=by lia
  have m2:∀x G,Bg (.int x) (.int (mcell h f k % 2)) G=.ok (.int (x * (mcell h f k % 2))) G:=λx G=>Jk (by lia) (by lia)
  have om:∀x G,Bj (.int x) (.int (b - lv k + 1)) G=.ok (.int (x % (b - lv k + 1))) G:=λx G=>by simp [r0]
  refine ⟨some (.int (b - lv k + 1)),?_⟩;rw [hv] at t1 ⊢;unfold Mz;simp [hT5,hc,al,Dp,ap,Iw,ek,Kd.isB,e4,La hu,om,m2,g0,g1,s0,s1,hl1,t1,ar,cs,cp,fz,et,t2]
 | town a b=>
  have hv:lvM h f u lv k=lv k:=by unfold lvM;rw [ek]
  refine ⟨x12,?_⟩;rw [hv] at t1 ⊢;unfold Mz;simp [hT5,hc,al,Dp,ap,Iw,ek,Kd.isB,g0,g1,s0,s1,hl1,t1,ar,cs,cp,fz,et,t2]
 | mill a=>
  have hv:lvM h f u lv k=lv k:=by unfold lvM;rw [ek]
  refine ⟨x12,?_⟩;rw [hv] at t1 ⊢;unfold Mz;simp [hT5,hc,al,Dp,ap,Iw,ek,Kd.isB,g0,g1,s0,s1,hl1,t1,ar,cs,cp,fz,et,t2]
theorem ZE1 (hf:∀k:Nat,k<=1000->∀G,Bb [.fl (ns.map D.int),.int k] G=.ok (.int (f k)) G) (hu:0 < u) (g:GoodH h) {co:Nat->Nat->Int} (hb:∀k b r q,k < h.n->(h.pl k).kd=.basin b r q->lv k<=b) {s3 s14 s15 s16 s17:Option D} (G:DH):∀(m k:Nat) (x9 x10 x11 x12 x13:Option D),k + m=h.n->∃y9 y10 y11 y12 y13,
  Be (gV 9) Mz (Bs k m) [some (.fl (ns.map D.int)),some h.enc,some (stD h.n lv co),s3,some (.int u),some (.int h.n),some (.int ((6 + 24 * h.n:Nat):Int)),some (.ref G.length),some (.ref (G.length + 1)),x9,x10,x11,x12,x13,s14,s15,s16,s17] (G++ [.lst (tab k (lvM h f u lv)),.lst (Bk k (coM h f u co))])=
   .nx [some (.fl (ns.map D.int)),some h.enc,some (stD h.n lv co),s3,some (.int u),some (.int h.n),some (.int ((6 + 24 * h.n:Nat):Int)),some (.ref G.length),some (.ref (G.length + 1)),y9,y10,y11,y12,y13,s14,s15,s16,s17] (G++ [.lst (tab h.n (lvM h f u lv)),.lst (Bk h.n (coM h f u co))])
 | 0,k,x9,x10,x11,x12,x13,e=>by
  have e1:k=h.n:=by lia
  subst e1;exact ⟨x9,x10,x11,x12,x13,by rw [Im,Dm]⟩
 | m + 1,k,x9,x10,x11,x12,x13,e=>by
  obtain ⟨z12,hb1⟩:=ZOH hf hu g hb (k:=k) (by lia) (s3:=s3) (x10:=x10) (x11:=x11) (x12:=x12) (x13:=x13) (s14:=s14) (s15:=s15) (s16:=s16) (s17:=s17) (co:=co) G;obtain ⟨y9,y10,y11,y12,y13,ih⟩:=ZE1 hf hu g hb (s3:=s3) (s14:=s14) (s15:=s15) (s16:=s16) (s17:=s17) (co:=co) G m (k + 1) (some (.int k)) (some (.int (mcell h f k))) (some (.int (lvM h f u lv k))) z12 (some (.fl (tab 5 (coM h f u co k)))) (by lia)
  refine ⟨y9,y10,y11,y12,y13,?_⟩;rw [Hw,Cy];simp only [Do,R.Dj,zU,hb1,Dv];have e1:((k:Int) + 1)=((k + 1:Nat):Int):=by lia
  rw [e1,ih]
theorem ZNF (hf:∀k:Nat,k<=1000->∀G,Bb [.fl (ns.map D.int),.int k] G=.ok (.int (f k)) G) (hu:0 < u) (g:GoodH h) {fl:Nat->Nat->Int} {t:Nat} (hi:i < t) (ht:t<=6) {s7 s8 s9 s10 s11 s12 s13 s14 x16 x17:Option D} {acc:List D} (ha:acc.length<=100) (G:DH):∃y16 y17,
  T9 [some (.fl (ns.map D.int)),some h.enc,s2,some (.fl (Bm h.n ((zX t).map fl))),some (.int u),some (.int h.n),some (.int ((6 + 24 * h.n:Nat):Int)),s7,s8,s9,s10,s11,s12,s13,some (.ref (G.length + 2)),some (.int i),x16,x17] (G++ [A,B,.lst acc])=
   .nx [some (.fl (ns.map D.int)),some h.enc,s2,some (.fl (Bm h.n ((zX t).map fl))),some (.int u),some (.int h.n),some (.int ((6 + 24 * h.n:Nat):Int)),s7,s8,s9,s10,s11,s12,s13,some (.ref (G.length + 2)),some (.int i),y16,y17] (G++ [A,B,.lst (acc++ [.tup (tab h.n (flM h f u fl i))])]):=by
 have hn:=g.len;have hin:i * h.n<=6 * 12:=jR (by lia) hn;have mi:∀G,Bg (.int (i:Int)) (.int (h.n:Int)) G=.ok (.int ((i:Int) * h.n)) G:=λG=>Ja (by lia) (by lia)
 have c3:∀G,Dz (gV 0) Cd ZB8 [none,some (.fl (ns.map D.int)),some (.int h.n),some (.int ((6 + 24 * h.n:Nat):Int)),some (.int i)] (Bs 0 h.n) G=.ok (tab h.n λk=>f (6 + 24 * h.n + h.n + i * h.n + k)) G:=λG=>
  Qk (F:=λk=>.int (f (6 + 24 * h.n + h.n + i * h.n + k))) λk hk=>by
   have h1:=hf (6 + 24 * h.n + h.n + i * h.n + k) (by lia) G;have e1:((6 + 24 * h.n + h.n + i * h.n + k:Nat):Int)=((6 + 24 * h.n:Nat):Int) + (h.n:Int) + (i:Int) * h.n + k:=by rw [j6,j6,j6,Int.natCast_mul]
   rw [e1] at h1;generalize ((6 + 24 * h.n:Nat):Int)=B at h1;unfold ZB8;simp [mi,h1]
 have c4:∀G,Dz (gV 0) Cd ZAu [none,some (.int u)] (tab h.n λk=>f (6 + 24 * h.n + h.n + i * h.n + k)) G=.ok (tab h.n λk=>amt (f (6 + 24 * h.n + h.n + i * h.n + k) / 2) u * (f (6 + 24 * h.n + h.n + i * h.n + k) % 2)) G:=λG=>
  Q4 (E:=λk=>.int (f (6 + 24 * h.n + h.n + i * h.n + k))) (F:=λk=>.int (amt (f (6 + 24 * h.n + h.n + i * h.n + k) / 2) u * (f (6 + 24 * h.n + h.n + i * h.n + k) % 2))) λk _=>by
   generalize f (6 + 24 * h.n + h.n + i * h.n + k)=c;have m2:∀x G,Bg (.int x) (.int (c % 2)) G=.ok (.int (x * (c % 2))) G:=λx G=>Jk (by lia) (by lia)
   unfold ZAu;simp [La hu,m2]
 have af:atI (Bm h.n ((zX t).map fl)) (i:Int)=some (.tup (tab h.n (fl i))):=Eo rfl (by simp [Bm,hi]);have c5:∀G,Dz (gV 0) Cd ZCM [none,some (.fl (Bm h.n ((zX t).map fl))),some (.int i),some (.fl (tab h.n λk=>amt (f (6 + 24 * h.n + h.n + i * h.n + k) / 2) u * (f (6 + 24 * h.n + h.n + i * h.n + k) % 2)))] (Bs 0 h.n) G=.ok (tab h.n (flM h f u fl i)) G:=λG=>
  Qk (F:=λk=>.int (flM h f u fl i k)) λk hk=>by have a1:atI (tab h.n (fl i)) (k:Int)=some (.int (fl i k)):=Gi hk;have a2:atI (tab h.n λk=>amt (f (6 + 24 * h.n + h.n + i * h.n + k) / 2) u * (f (6 + 24 * h.n + h.n + i * h.n + k) % 2)) (k:Int)=some (.int (amt (f (6 + 24 * h.n + h.n + i * h.n + k) / 2) u * (f (6 + 24 * h.n + h.n + i * h.n + k) % 2))):=Gi hk;unfold ZCM;simp [af,a1,a2,flM]
 have hr:inR (h.n:Int):=Fq (by lia) (by lia);have cs3:∀a b c d e f' g h i j k' l m n o p q r:Option D,Bh 1 [0,5,6,15] [a,b,c,d,e,f',g,h,i,j,k',l,m,n,o,p,q,r]= [none,a,f',g,p]:=λ_ _ _ _ _ _ _ _ _ _ _ _ _ _ _ _ _ _=>rfl
 have cs4:∀a b c d e f' g h i j k' l m n o p q r:Option D,Bh 1 [4] [a,b,c,d,e,f',g,h,i,j,k',l,m,n,o,p,q,r]= [none,e]:=λ_ _ _ _ _ _ _ _ _ _ _ _ _ _ _ _ _ _=>rfl
 have cs5:∀a b c d e f' g h i j k' l m n o p q r:Option D,Bh 1 [3,15,17] [a,b,c,d,e,f',g,h,i,j,k',l,m,n,o,p,q,r]= [none,d,p,r]:=λ_ _ _ _ _ _ _ _ _ _ _ _ _ _ _ _ _ _=>rfl
 have fz3:=ZCK (G:=G) (A:=A) (B:=B) (C:=.lst acc) (ds:=tab h.n λk=>f (6 + 24 * h.n + h.n + i * h.n + k)) λ_=>Jg
 have fz4:=ZCK (G:=G) (A:=A) (B:=B) (C:=.lst acc) (ds:=tab h.n λk=>amt (f (6 + 24 * h.n + h.n + i * h.n + k) / 2) u * (f (6 + 24 * h.n + h.n + i * h.n + k) % 2)) λ_=>Jg
 have fz5:=ZCK (G:=G) (A:=A) (B:=B) (C:=.lst acc) (ds:=tab h.n (flM h f u fl i)) λ_=>Jg
 have g2:(G++ [A,B,.lst acc])[G.length + 2]? =some (.lst acc):=by simp
 have s2:∀c:DO,(G++ [A,B,.lst acc]).set (G.length + 2) c=G++ [A,B,c]:=λc=>by simp
 have hal:acc.length < 1000000:=by lia
 refine ⟨some (.fl (tab h.n λk=>f (6 + 24 * h.n + h.n + i * h.n + k))),some (.fl (tab h.n λk=>amt (f (6 + 24 * h.n + h.n + i * h.n + k) / 2) u * (f (6 + 24 * h.n + h.n + i * h.n + k) % 2))),?_⟩;generalize ((6 + 24 * h.n:Nat):Int)=BB at c3;have l4:(tab h.n λk=>amt (f (6 + 24 * h.n + h.n + i * h.n + k) / 2) u * (f (6 + 24 * h.n + h.n + i * h.n + k) % 2)).length<=1000000:=by simp;lia
 have l3:(tab h.n λk=>f (6 + 24 * h.n + h.n + i * h.n + k)).length<=1000000:=by simp;lia
 have l5:(tab h.n (flM h f u fl i)).length<=1000000:=by simp;lia
 generalize (tab h.n λk=>amt (f (6 + 24 * h.n + h.n + i * h.n + k) / 2) u * (f (6 + 24 * h.n + h.n + i * h.n + k) % 2))=T4 at c4 c5 fz4 l4;generalize (tab h.n λk=>f (6 + 24 * h.n + h.n + i * h.n + k))=T3 at c3 c4 fz3 l3;generalize tab h.n (flM h f u fl i)=T5 at c5 fz5 l5;unfold T9;simp [l3,l4,l5,hr,cs3,cs4,cs5,c3,c4,c5,fz3,fz4,fz5,g2,s2,hal]
theorem ZGu (hf:∀k:Nat,k<=1000->∀G,Bb [.fl (ns.map D.int),.int k] G=.ok (.int (f k)) G) (hu:0 < u) (g:GoodH h) {fl:Nat->Nat->Int} {t:Nat} (ht:t<=6) {s2 s7 s8 s9 s10 s11 s12 s13:Option D} {A B:DO} (G:DH):∀(m i:Nat) (x15 x16 x17:Option D),i + m=t->∃y15 y16 y17,
  Be (gV 15) T9 (Bs i m) [some (.fl (ns.map D.int)),some h.enc,s2,some (.fl (Bm h.n ((zX t).map fl))),some (.int u),some (.int h.n),some (.int ((6 + 24 * h.n:Nat):Int)),s7,s8,s9,s10,s11,s12,s13,some (.ref (G.length + 2)),x15,x16,x17] (G++ [A,B,.lst (Bm h.n ((zX i).map (flM h f u fl)))])=
   .nx [some (.fl (ns.map D.int)),some h.enc,s2,some (.fl (Bm h.n ((zX t).map fl))),some (.int u),some (.int h.n),some (.int ((6 + 24 * h.n:Nat):Int)),s7,s8,s9,s10,s11,s12,s13,some (.ref (G.length + 2)),y15,y16,y17] (G++ [A,B,.lst (Bm h.n ((zX t).map (flM h f u fl)))])
 | 0,i,x15,x16,x17,e=>by
  have e1:i=t:=by lia
  subst e1;exact ⟨x15,x16,x17,by rw [Im,Dm]⟩
 | m + 1,i,x15,x16,x17,e=>by
  obtain ⟨z16,z17,hb⟩:=ZNF hf hu g (fl:=fl) (t:=t) (i:=i) (by lia) ht (s2:=s2) (s7:=s7) (s8:=s8) (s9:=s9) (s10:=s10) (s11:=s11) (s12:=s12) (s13:=s13) (s14:=none) (x16:=x16) (x17:=x17) (A:=A) (B:=B) (acc:=Bm h.n ((zX i).map (flM h f u fl))) (by simp [Bm];lia) G;obtain ⟨y15,y16,y17,ih⟩:=ZGu hf hu g (fl:=fl) ht (s2:=s2) (s7:=s7) (s8:=s8) (s9:=s9) (s10:=s10) (s11:=s11) (s12:=s12) (s13:=s13) (A:=A) (B:=B) G m (i + 1) (some (.int i)) z16 z17 (by lia)
  refine ⟨y15,y16,y17,?_⟩;have ea:Bm h.n ((zX i).map (flM h f u fl))++ [.tup (tab h.n (flM h f u fl i))]=Bm h.n ((zX (i + 1)).map (flM h f u fl)):=by simp [Bm,jx]
  rw [ea] at hb;rw [Hw,Cy];simp only [Do,R.Dj,zU,hb,Dv];have e1:((i:Int) + 1)=((i + 1:Nat):Int):=by lia
  rw [e1,ih]
theorem ZOz {e:D} (h1:bels G.length ds=true) (h2:bel G.length e=true):freeze G (.ok (.tup [e,.ref (G.length + 2)]) (G++ [A,B,.lst ds]))=.ok (.tup [e,.fl ds]) G:=by
 unfold freeze;have m:Er (G++ [A,B,.lst ds]) G.length 9 (.tup [e,.ref (G.length + 2)])=some (.tup [e,.fl ds]):=by
  unfold Er;have m1:Er (G++ [A,B,.lst ds]) G.length 8 (.ref (G.length + 2))=some (.fl ds):=by unfold Er;simp [W8 h1]
  have m2:Er (G++ [A,B,.lst ds]) G.length 8 e=some e:=by unfold Er;simp [h2]
  simp [Jw,m1,m2]
 simp [m]
theorem ZJ3 (hf:∀k:Nat,k<=1000->∀G,Bb [.fl (ns.map D.int),.int k] G=.ok (.int (f k)) G) (hu:0 < u) (cu:∀G,Gj [.fl (ns.map D.int)] G=.ok (.int u) G) (g:GoodH h) (hb:∀k b r q,k < h.n->(h.pl k).kd=.basin b r q->lv k<=b) {fl:Nat->Nat->Int} {t:Nat} (ht:t<=6) (G:DH):
  freeze G (Rg [.fl (ns.map D.int),h.enc,stD h.n lv co,.fl (Bm h.n ((zX t).map fl))] G)=.ok (.tup [stD h.n (lvM h f u lv) (coM h f u co),.fl (Bm h.n ((zX t).map (flM h f u fl)))]) G:=by
 have hn:=g.len;obtain ⟨y9,y10,y11,y12,y13,h1⟩:=ZE1 hf hu g hb (co:=co) (s3:=some (.fl (Bm h.n ((zX t).map fl)))) (s14:=none) (s15:=none) (s16:=none) (s17:=none) G h.n 0 none none none none none (by lia);obtain ⟨y15,y16,y17,h2⟩:=ZGu hf hu g (fl:=fl) ht (s2:=some (stD h.n lv co)) (s7:=some (.ref G.length)) (s8:=some (.ref (G.length + 1))) (s9:=y9) (s10:=y10) (s11:=y11) (s12:=y12) (s13:=y13) (A:=.lst (tab h.n (lvM h f u lv))) (B:=.lst (Bk h.n (coM h f u co))) G t 0 none none none (by lia)
 have h1':Be (gV 9) Mz (Bs 0 h.n) [some (.fl (ns.map D.int)),some h.enc,some (stD h.n lv co),some (.fl (Bm h.n ((zX t).map fl))),some (.int u),some (.int h.n),some (.int ((6 + 24 * h.n:Nat):Int)),some (.ref G.length),some (.ref (G.length + 1)),none,none,none,none,none,none,none,none,none] (G++ [.lst [],.lst []])=_:=h1;have h2':Be (gV 15) T9 (Bs 0 t) [some (.fl (ns.map D.int)),some h.enc,some (stD h.n lv co),some (.fl (Bm h.n ((zX t).map fl))),some (.int u),some (.int h.n),some (.int ((6 + 24 * h.n:Nat):Int)),some (.ref G.length),some (.ref (G.length + 1)),y9,y10,y11,y12,y13,some (.ref (G.length + 2)),none,none,none] (G++ [.lst (tab h.n (lvM h f u lv)),.lst (Bk h.n (coM h f u co)),.lst []])=_:=h2
 have m24:∀G,Bg (.int 24) (.int (h.n:Int)) G=.ok (.int (24 * (h.n:Int))) G:=λG=>Ja (by lia) (by lia)
 have e6:(6 + 24 * (h.n:Int))=((6 + 24 * h.n:Nat):Int):=by lia
 have fu:freeze G (.ok (.int u) G)=.ok (.int u) G:=Mm rfl;have hr:inR (h.n:Int):=Fq (by lia) (by lia);have hrt:inR (t:Int):=Fq (by lia) (by lia);have t1:tidy (G++ [.lst []]) (.ok (.ref (G.length + 1)) (G++ [.lst [],.lst []]))=.ok (.ref (G.length + 1)) (G++ [.lst [],.lst []]):=ZDH rfl;have t2:∀A B:DO,tidy (G++ [A,B]) (.ok (.ref (G.length + 2)) (G++ [A,B,.lst []]))=.ok (.ref (G.length + 2)) (G++ [A,B,.lst []]):=λA B=>by have:=Fo (G:=G++ [A,B]) (ds:= []) (L:= []) rfl;simpa using this
 have lfl:(Bm h.n ((zX t).map fl)).length=t:=by simp [Bm]
 have fm:=ZOz (G:=G) (A:=.lst (tab h.n (lvM h f u lv))) (B:=.lst (Bk h.n (coM h f u co))) (ds:=Bm h.n ((zX t).map (flM h f u fl))) (e:=stD h.n (lvM h f u lv) (coM h f u co)) ZE9 ZBY;have g0:∀b c:DO,(G++ [.lst (tab h.n (lvM h f u lv)),b,c])[G.length]? =some (.lst (tab h.n (lvM h f u lv))):=λb c=>by simp
 have g1:∀a c:DO,(G++ [a,.lst (Bk h.n (coM h f u co)),c])[G.length + 1]? =some (.lst (Bk h.n (coM h f u co))):=λa c=>by simp
 have tt:∀(e:D) (G':DH),tidy G (.ok (.tup [e,.ref (G.length + 2)]) G')=.ok (.tup [e,.ref (G.length + 2)]) G':=λe G'=>ZF1 (by simp)
 have cm:Rg [.fl (ns.map D.int),h.enc,stD h.n lv co,.fl (Bm h.n ((zX t).map fl))] G=.ok (.tup [stD h.n (lvM h f u lv) (coM h f u co),.ref (G.length + 2)]) (G++ [.lst (tab h.n (lvM h f u lv)),.lst (Bk h.n (coM h f u co)),.lst (Bm h.n ((zX t).map (flM h f u fl)))]):=by
  generalize ((6 + 24 * h.n:Nat):Int)=BB at h1' h2' e6;generalize Bm h.n ((zX t).map (flM h f u fl))=F2 at h2';generalize Bm h.n ((zX t).map fl)=F1 at h1' h2' lfl;generalize stD h.n lv co=E0 at h1' h2';unfold stD;generalize tab h.n (lvM h f u lv)=TL at h1' h2' g0;generalize Bk h.n (coM h f u co)=RL at h1' h2' g1;unfold Rg ZDs;rw [Br];simp [cu,fu,Dp,Hs.Kp,m24,e6,Aq,Fo,t1,hr,h1',t2,lfl,hrt,h2',g0,g1,Bo,tt]
 rw [cm,fm]
end
theorem ZE4 (g:GoodH h) {pg':Nat->List Int} (p:PageOk h pg) (p':PageOk h pg') (mp:MoreP h pg pg') {G:DH}:∀(m k:Nat) (x y z:Option D),k + m=h.n->∃x' y' z',Be (gV 3) Lh (Bs k m) [some h.enc,some (pgD h.n pg),some (pgD h.n pg'),x,y,z] G=.nx [some h.enc,some (pgD h.n pg),some (pgD h.n pg'),x',y',z'] G
 | 0,k,x,y,z,e=>⟨x,y,z,by rw [Im,Dm]⟩
 | m + 1,k,x,y,z,e=>by
  have hk:k < h.n:=by lia
  obtain ⟨a,b,c,d,e',f,e1,_⟩:=p.row k hk;obtain ⟨a',b',c',d',e'',f',e1',_⟩:=p'.row k hk;have ap:atI h.Dk (k:Int)=some (h.encP (h.pl k)):=Hs.Ey hk;have ar:=ZBL (n:=h.n) hk e1;have ar':=ZBL (n:=h.n) hk e1';have f1:freeze G (.ok (.ref G.length) (G++ [.lst [.int 1]]))=.ok (.fl [.int 1]) G:=Ga rfl;have f4:freeze G (.ok (.ref G.length) (G++ [.lst [.int 2,.int 3,.int 4,.int 5]]))=.ok (.fl [.int 2,.int 3,.int 4,.int 5]) G:=Ga rfl
  have f0:freeze G (.ok (.ref G.length) (G++ [.lst []]))=.ok (.fl []) G:=Ga rfl;have mb:¬(("mill":Str)="basin"):=by decide
  have bm:¬(("basin":Str)="mill"):=by decide
  have tb:¬(("town":Str)="basin"):=by decide
  have tm:¬(("town":Str)="mill"):=by decide
  have hb:∃y z,Lh [some h.enc,some (pgD h.n pg),some (pgD h.n pg'),some (.int k),y,z] G=.nx [some h.enc,some (pgD h.n pg),some (pgD h.n pg'),some (.int k),y,z] G∨True:=⟨y,z,.inr trivial⟩;have hb:∃y' z',Lh [some h.enc,some (pgD h.n pg),some (pgD h.n pg'),some (.int k),y,z] G=.nx [some h.enc,some (pgD h.n pg),some (pgD h.n pg'),some (.int k),y',z'] G:=by
   unfold pgD;cases ek:(h.pl k).kd with
   | basin br r q=>
    have h1:=mp.basin k hk (by rw [ek];rfl);have h2:=mp.lies k hk;unfold lies at h2;rw [e1,e1'] at h1 h2;simp only [jK,jY] at h1 h2;have n2:¬c' < c:=by lia
    have n3:¬d' < d:=by lia
    have n4:¬e'' < e':=by lia
    have n5:¬f' < f:=by lia
    refine ⟨some (.fl [.int 2,.int 3,.int 4,.int 5]),some (.int 5),?_⟩;unfold Lh W7;simp [Aq,f1,f4,f0,Dp,ap,ek,Kd.txt,bm,Cy,Dm,ar,ar',n2,n3,n4,n5]
   | town ne rk=>
    have h1:=mp.took k hk;rw [e1,e1'] at h1;simp only [jK,jY] at h1;have n1:¬b' < b:=by lia
    refine ⟨some (.fl [.int 1]),some (.int 1),?_⟩;unfold Lh W7;simp [Aq,f1,f4,f0,Dp,ap,ek,Kd.txt,tb,tm,Cy,Dm,ar,ar',n1]
   | mill mo=>
    refine ⟨some (.fl []),z,?_⟩;unfold Lh W7;simp [Aq,f1,f4,f0,Dp,ap,ek,Kd.txt,mb,Cy,Dm,ar,ar']
  obtain ⟨y1,z1,hb⟩:=hb;obtain ⟨x',y',z',ih⟩:=ZE4 g p p' mp (G:=G) m (k + 1) (some (.int k)) y1 z1 (by lia);refine ⟨x',y',z',?_⟩;rw [Hw,Cy];simp only [Do,R.Dj,zU,hb,Dv];have e2:((k:Int) + 1)=((k + 1:Nat):Int):=by lia
  rw [e2,ih]
theorem ZMV (g:GoodH h) {pg':Nat->List Int} (p:PageOk h pg) (p':PageOk h pg') (mp:MoreP h pg pg') (G:DH):Vv [h.enc,pgD h.n pg,pgD h.n pg'] G=.ok (.bl true) G:=by obtain ⟨x',y',z',hL⟩:=ZE4 g p p' mp (G:=G) h.n 0 none none none (by lia);have hL':Be (gV 3) Lh (Bs 0 h.n) _ _=_:=hL;have hlen:(Cu h.n pg).length=h.n:=Xw;have hr:inR (h.n:Int):=Fq (by lia) (by have:=g.len;lia);unfold pgD at hL' ⊢;unfold Vv ZGj;rw [Br];simp [hlen,hr,hL',Ci]
def G8 (h:Hs) (pg:Nat->List Int) (k:Nat):Int:=if h.dn k=none then Ex pg k else 0
theorem ZEZ (g:GoodH h) (p:PageOk h pg) {G:DH}:∀(m k:Nat) (x:Option D),k + m=h.n->∃x',Be (gV 3) Px (Bs k m) [some h.enc,some (pgD h.n pg),some (.int (Cg k (G8 h pg))),x] G=.nx [some h.enc,some (pgD h.n pg),some (.int (Cg h.n (G8 h pg))),x'] G
 | 0,k,x,e=>by
  have e1:k=h.n:=by lia
  subst e1;exact ⟨x,by rw [Im,Dm]⟩
 | m + 1,k,x,e=>by
  have hk:k < h.n:=by lia
  obtain ⟨x',ih⟩:=ZEZ g p (G:=G) m (k + 1) (some (.int k)) (by lia);refine ⟨x',?_⟩;obtain ⟨a,b,c,d,e',f,e1,_⟩:=p.row k hk;have ap:atI h.Dk (k:Int)=some (h.encP (h.pl k)):=Hs.Ey hk;have ar:=ZBL (n:=h.n) hk e1;have hb:Px [some h.enc,some (pgD h.n pg),some (.int (Cg k (G8 h pg))),some (.int k)] G=.nx [some h.enc,some (pgD h.n pg),some (.int (Cg (k + 1) (G8 h pg))),some (.int k)] G:=by
   have es:Cg (k + 1) (G8 h pg)=Cg k (G8 h pg) + G8 h pg k:=rfl;rw [es];generalize Cg k (G8 h pg)=X;unfold G8 Ex pgD;rw [e1];cases hd:(h.pl k).dn with
   | none=>
    have hd':h.dn k=none:=hd;unfold Px;simp [Dp,ar,ap,hd,hd',Hs.dnT,Int.add_assoc]
   | some q=>
    have hd':h.dn k=some q:=hd;have hq:=g.sea q (g.dn k q hk hd).2;unfold Px;simp [Dp,ar,ap,hd,hd',Hs.dnT,hq]
  rw [Hw,Cy];simp only [Do,R.Dj,zU,hb,Dv];have e2:((k:Int) + 1)=((k + 1:Nat):Int):=by lia
  rw [e2,ih]
theorem ZEi (g:GoodH h) (p:PageOk h pg) (G:DH):Rm [h.enc,pgD h.n pg] G=.ok (.int (Cg h.n (G8 h pg))) G:=by obtain ⟨x',hL⟩:=ZEZ g p (G:=G) h.n 0 none (by lia);have hL':Be (gV 3) Px (Bs 0 h.n) [some h.enc,some (pgD h.n pg),some (.int 0),none] G=_:=hL;have hlen:(Cu h.n pg).length=h.n:=Xw;have hr:inR (h.n:Int):=Fq (by lia) (by have:=g.len;lia);unfold pgD at hL' ⊢;unfold Rm ZDk;rw [Br];simp [hlen,hr,hL',Ci]
theorem MoreL.get:∀{l l':List (Nat->List Int)},MoreL h l l'->l'.length=l.length/\∀i (hi:i < l.length) (hi':i < l'.length),MoreP h l[i] l'[i]
 | [],[],_=>⟨rfl,λi hi=>absurd hi (by simp)⟩
 | p::r,p'::r',m=>by
  have ih:=MoreL.get m.2;refine ⟨by simp [ih.1],λi hi hi'=> ?_⟩;cases i with
  | zero=>exact m.1
  | succ i=>exact ih.2 i (by simpa using hi) (by simpa using hi')
 | [],_::_,m=>absurd m (by intro z;exact z)
 | _::_,[],m=>absurd m (by intro z;exact z)
theorem ZHn (g:GoodH h) {ps ps':List (Nat->List Int)} (mo:MoreL h ps ps') (hp:∀pg∈ps,PageOk h pg) (hp':∀pg∈ps',PageOk h pg) {s0 s2 s3 s4 s5 s7 s9 s13:Option D} {G:DH}:∀(m k:Nat) (X Y:Int) (x:Option D),k + m=ps.length->X<=Y->∃X' Y' x',Be (gV 12) R6 (Bs k m) [s0,some h.enc,s2,s3,s4,s5,some (.fl (ps.map (pgD h.n))),s7,some (.fl (ps'.map (pgD h.n))),s9,some (.int X),some (.int Y),x,s13] G=.nx [s0,some h.enc,s2,s3,s4,s5,some (.fl (ps.map (pgD h.n))),s7,some (.fl (ps'.map (pgD h.n))),s9,X',Y',x',s13] G
 | 0,k,X,Y,x,e,hle=>⟨_,_,x,by rw [Im,Dm]⟩
 | m + 1,k,X,Y,x,e,hle=>by
  have hm:=mo.get;have hk:k < ps.length:=by lia
  have hk':k < ps'.length:=by rw [hm.1];exact hk
  have p:=hp ps[k] (qJ hk);have p':=hp' ps'[k] (qJ hk');have mp:=hm.2 k hk hk';have a1:atI (ps.map (pgD h.n)) (k:Int)=some (pgD h.n ps[k]):=Eo rfl (by rw [zj,zZ hk];rfl);have a2:atI (ps'.map (pgD h.n)) (k:Int)=some (pgD h.n ps'[k]):=Eo rfl (by rw [zj,zZ hk'];rfl);have hs:Cg h.n (G8 h ps[k])<=Cg h.n (G8 h ps'[k]):=Uw λj hj=>by
   unfold G8;by_cases hd:h.dn j=none
   ·rw [if_pos hd,if_pos hd];refine mp.out j hj ?_;unfold Hs.dir;rw [hd]
   ·rw [if_neg hd,if_neg hd];exact zE _
  obtain ⟨X',Y',x',ih⟩:=ZHn g mo hp hp' (s0:=s0) (s2:=s2) (s3:=s3) (s4:=s4) (s5:=s5) (s7:=s7) (s9:=s9) (s13:=s13) (G:=G) m (k + 1) (X + Cg h.n (G8 h ps[k])) (Y + Cg h.n (G8 h ps'[k])) (some (.int k)) (by lia) (by lia);refine ⟨X',Y',x',?_⟩;have hb:R6 [s0,some h.enc,s2,s3,s4,s5,some (.fl (ps.map (pgD h.n))),s7,some (.fl (ps'.map (pgD h.n))),s9,some (.int X),some (.int Y),some (.int k),s13] G=.nx [s0,some h.enc,s2,s3,s4,s5,some (.fl (ps.map (pgD h.n))),s7,some (.fl (ps'.map (pgD h.n))),s9,some (.int (X + Cg h.n (G8 h ps[k]))),some (.int (Y + Cg h.n (G8 h ps'[k]))),some (.int k),s13] G:=by
   have c1:=ZFo p G;have c2:=ZFo p' G;have c3:=ZEi g p G;have c4:=ZEi g p' G;have c5:=ZMV g p p' mp G;have nl:¬Y + Cg h.n (G8 h ps'[k]) < X + Cg h.n (G8 h ps[k]):=by lia
   generalize pgD h.n ps[k]=P at a1 c1 c3 c5;generalize pgD h.n ps'[k]=P' at a2 c2 c4 c5;unfold R6;simp [a1,a2,Dp,Hs.Kp,c1,c2,c3,c4,c5,nl]
  rw [Hw,Cy];simp only [Do,R.Dj,zU,hb,Dv];have e2:((k:Int) + 1)=((k + 1:Nat):Int):=by lia
  rw [e2,ih]
theorem ZEr {lv lv':Nat->Int} {co':Nat->Nat->Int} (hk:k < h.n) (hle:∀j,j < 5->co k j<=co' k j) {s0 s1 s2 s3 s4 s5 s6 s8 s10 s11:Option D} {G:DH}:∀(m j:Nat) (x:Option D),j + m=5->∃x',Be (gV 13) Tz (Bs j m) [s0,s1,s2,s3,s4,s5,s6,some (stD h.n lv co),s8,some (stD h.n lv' co'),s10,s11,some (.int k),x] G=.nx [s0,s1,s2,s3,s4,s5,s6,some (stD h.n lv co),s8,some (stD h.n lv' co'),s10,s11,some (.int k),x'] G
 | 0,j,x,e=>⟨x,by rw [Im,Dm]⟩
 | m + 1,j,x,e=>by
  obtain ⟨x',ih⟩:=ZEr (lv:=lv) (lv':=lv') hk hle (s0:=s0) (s1:=s1) (s2:=s2) (s3:=s3) (s4:=s4) (s5:=s5) (s6:=s6) (s8:=s8) (s10:=s10) (s11:=s11) (G:=G) m (j + 1) (some (.int j)) (by lia);refine ⟨x',?_⟩;have hj:j < 5:=by lia
  have n1:¬co' k j < co k j:=by have:=hle j hj;lia
  have a1:atI (Bk h.n co) (k:Int)=some (.tup (tab 5 (co k))):=Zf hk;have a2:atI (Bk h.n co') (k:Int)=some (.tup (tab 5 (co' k))):=Zf hk;have b1:atI (tab 5 (co k)) (j:Int)=some (.int (co k j)):=Gi hj;have b2:atI (tab 5 (co' k)) (j:Int)=some (.int (co' k j)):=Gi hj;have hb:Tz [s0,s1,s2,s3,s4,s5,s6,some (stD h.n lv co),s8,some (stD h.n lv' co'),s10,s11,some (.int k),some (.int j)] G=.nx [s0,s1,s2,s3,s4,s5,s6,some (stD h.n lv co),s8,some (stD h.n lv' co'),s10,s11,some (.int k),some (.int j)] G:=by unfold stD;unfold Tz;simp [a1,a2,b1,b2,n1]
  rw [Hw,Cy];simp only [Do,R.Dj,zU,hb,Dv];have e2:((j:Int) + 1)=((j + 1:Nat):Int):=by lia
  rw [e2,ih]
theorem ZDe {lv lv':Nat->Int} {co':Nat->Nat->Int} (hle:∀k j,k < h.n->j < 5->co k j<=co' k j) {s0 s1 s2 s3 s4 s5 s6 s8 s10 s11:Option D} {G:DH}:∀(m k:Nat) (x y:Option D),k + m=h.n->∃x' y',Be (gV 12) Th (Bs k m) [s0,s1,s2,s3,s4,s5,s6,some (stD h.n lv co),s8,some (stD h.n lv' co'),s10,s11,x,y] G=.nx [s0,s1,s2,s3,s4,s5,s6,some (stD h.n lv co),s8,some (stD h.n lv' co'),s10,s11,x',y'] G
 | 0,k,x,y,e=>⟨x,y,by rw [Im,Dm]⟩
 | m + 1,k,x,y,e=>by
  have hk:k < h.n:=by lia
  obtain ⟨z,hI⟩:=ZEr (lv:=lv) (lv':=lv') hk (λj hj=>hle k j hk hj) (s0:=s0) (s1:=s1) (s2:=s2) (s3:=s3) (s4:=s4) (s5:=s5) (s6:=s6) (s8:=s8) (s10:=s10) (s11:=s11) (G:=G) 5 0 y (by lia);have hI':Be (gV 13) Tz (Bs 0 5) _ _=_:=hI;obtain ⟨x',y',ih⟩:=ZDe (lv:=lv) (lv':=lv') hle (s0:=s0) (s1:=s1) (s2:=s2) (s3:=s3) (s4:=s4) (s5:=s5) (s6:=s6) (s8:=s8) (s10:=s10) (s11:=s11) (G:=G) m (k + 1) (some (.int k)) z (by lia)
  refine ⟨x',y',?_⟩;have hr:inR 5:=Fq (by lia) (by lia);have hb:Th [s0,s1,s2,s3,s4,s5,s6,some (stD h.n lv co),s8,some (stD h.n lv' co'),s10,s11,some (.int k),y] G=.nx [s0,s1,s2,s3,s4,s5,s6,some (stD h.n lv co),s8,some (stD h.n lv' co'),s10,s11,some (.int k),z] G:=by unfold Th;simp [hr,hI']
  rw [Hw,Cy];simp only [Do,R.Dj,zU,hb,Dv];have e2:((k:Int) + 1)=((k + 1:Nat):Int):=by lia
  rw [e2,ih]
theorem ZHk {n:Nat} {F F':Nat->Nat->Int} (hle:∀i k,k < n->F i k<=F' i k):∀(l:List Nat),LeF n (l.map F) (l.map F')
 | []=>trivial
 | i::l=>⟨λk hk=>hle i k hk,ZHk hle l⟩
theorem ZNh (hl:ns.length<=63) (G:DH):Nq [.fl (ns.map D.int)] G=.ok (.bl true) G:=by
 obtain ⟨f,hf⟩:=cells hl;obtain ⟨u,hu1,cu⟩:=ZLk hf;have hu:0 < u:=by lia
 obtain ⟨yr,hyr,cy⟩:=ZJJ hf;obtain ⟨h,hT,ch⟩:=ZN1 hf hyr cy hu cu;have g:=hT.good;have hn:=g.len;obtain ⟨a,ha,ca⟩:=ZNr hf;obtain ⟨t,ht1,ht2,et⟩:∃t:Nat,6 + 14 * h.n + t * h.n<=1000/\t<=6/\(t:Int)=f 2 % 7:=by
  have h6:(f 2 % 7).toNat<=6:=by lia
  have hm:=jR h6 hn;exact ⟨(f 2 % 7).toNat,by lia,by lia,by lia⟩
 have cs:=ZL3 hf hu cu g;have cf:=ZIv hf hu cu g ht1 (by lia);have f2:∀G,Bb [.fl (ns.map D.int),.int 2] G=.ok (.int (f 2)) G:=hf 2 (by lia);have hbr:∀k b r q,k < h.n->(h.pl k).kd=.basin b r q->lvS h f u k<=b:=λk b r q hk e=>(ZA5 g hk).2.1 b r q e
 have cm:=ZJ3 hf hu cu g (lv:=lvS h f u) (co:=coS h f u) hbr (fl:=flS h.n f u) ht2 G;have so:StOk h (lvS h f u) (coS h f u):=⟨λk hk=>(ZA5 g hk).1,λk hk=>(ZA5 g hk).2.2,λk j _ _=>ZMW hu k j⟩;have hlv:∀k,k < h.n->lvS h f u k<=lvM h f u (lvS h f u) k:=λk hk=>by
  unfold lvM;cases e:(h.pl k).kd with
  | basin b r q=>
   have h1:=hbr k b r q hk e;have h2:0<=amt (mcell h f k / 2) u % (b - lvS h f u k + 1):=qS _ (by lia);have h3:=ZCn (c:=mcell h f k) h2;show lvS h f u k<=lvS h f u k + _;lia
  | town _ _=>exact zE _
  | mill _=>exact zE _
 have hco:∀k j,k < h.n->j < 5->coS h f u k j<=coM h f u (coS h f u) k j:=λk j _ _=>by unfold coM;have h3:=ZCn (x:=u) (c:=mcell h f k / 2) (by lia);lia
 have hfm:∀i k,k < h.n->flS h.n f u i k<=flM h f u (flS h.n f u) i k:=λi k _=>by unfold flM;have h3:=ZCn (x:=amt (f (6 + 24 * h.n + h.n + i * h.n + k) / 2) u) (c:=f (6 + 24 * h.n + h.n + i * h.n + k)) (U4 hu);lia
 have so':StOk h (lvM h f u (lvS h f u)) (coM h f u (coS h f u)):=⟨λk hk=>jP (so.lv0 k hk) (hlv k hk),λk hk hB=>by
  unfold lvM;cases e:(h.pl k).kd with
  | basin b r q=>rw [e] at hB;cases hB
  | town _ _=>exact so.lvR k hk hB
  | mill _=>exact so.lvR k hk hB,λk j hk hj=>jP (so.co0 k j hk hj) (hco k j hk hj)⟩
 have hfn:∀fl∈(zX t).map (flS h.n f u),∀k,k < h.n->0<=fl k:=λfl hm k _=>by obtain ⟨i,_,rfl⟩:=zH.mp hm;exact ZDa hu i k
 have hfn':∀fl∈(zX t).map (flM h f u (flS h.n f u)),∀k,k < h.n->0<=fl k:=λfl hm k hk=>by obtain ⟨i,_,rfl⟩:=zH.mp hm;exact jP (ZDa hu i k) (hfm i k hk)
 have hLe:=ZHk hfm (zX t);have l1:((zX t).map (flS h.n f u)).length=t:=by simp
 have l2:((zX t).map (flM h f u (flS h.n f u))).length=t:=by simp
 generalize (zX t).map (flS h.n f u)=fls at cf cm hfn hLe l1;generalize (zX t).map (flM h f u (flS h.n f u))=fls' at cm hfn' hLe l2;have cr:=ZDC g (s:=(lvS h f u,coS h f u)) (a:=a) (fls:=fls) (by lia) so.co0 hfn G;have cr':=ZDC g (s:=(lvM h f u (lvS h f u),coM h f u (coS h f u))) (a:=a) (fls:=fls') (by lia) so'.co0 hfn' G;have ro:=ZBi g fls (lvS h f u,coS h f u) a so hfn;have ro':=ZBi g fls' (lvM h f u (lvS h f u),coM h f u (coS h f u)) a so' hfn'
 have rm:=ZEA g fls fls' (lvS h f u,coS h f u) (lvM h f u (lvS h f u),coM h f u (coS h f u)) a so so' hfn hfn' hlv hco hLe;have fr:=ZGW (G:=G) (ds:=(h.Gd fls (lvS h f u,coS h f u) a).map (pgD h.n)) (e:=stD h.n (h.G7 fls (lvS h f u,coS h f u) a).1 (h.G7 fls (lvS h f u,coS h f u) a).2) ZG6 ZBY;have fr':=ZGW (G:=G) (ds:=(h.Gd fls' (lvM h f u (lvS h f u),coM h f u (coS h f u)) a).map (pgD h.n)) (e:=stD h.n (h.G7 fls' (lvM h f u (lvS h f u),coM h f u (coS h f u)) a).1 (h.G7 fls' (lvM h f u (lvS h f u),coM h f u (coS h f u)) a).2) ZG6 ZBY
 have n1:(h.Gd fls (lvS h f u,coS h f u) a).length=t:=by rw [ZA8,l1]
 have n2:(h.Gd fls' (lvM h f u (lvS h f u),coM h f u (coS h f u)) a).length=t:=by rw [ZA8,l2]
 have lfl:(Bm h.n fls).length=t:=by rw [ZOo,l1]
 have fz0:freeze G (.ok (.ref G.length) (G++ [.lst (Bm h.n fls)]))=.ok (.fl (Bm h.n fls)) G:=Ga ZE9;dsimp only at cr cr' rm;generalize h.Gd fls (lvS h f u,coS h f u) a=PS at cr ro rm fr n1;generalize h.Gd fls' (lvM h f u (lvS h f u),coM h f u (coS h f u)) a=PS' at cr' ro' rm fr' n2;generalize h.G7 fls (lvS h f u,coS h f u) a=S1 at cr ro rm fr;generalize h.G7 fls' (lvM h f u (lvS h f u),coM h f u (coS h f u)) a=S1' at cr' ro' rm fr'
 obtain ⟨X',Y',x',hP⟩:=ZHn g rm.1 ro.1 ro'.1 (s0:=some (.fl (ns.map D.int))) (s2:=some (stD h.n (lvS h f u) (coS h f u))) (s3:=some (.fl (Bm h.n fls))) (s4:=some (stD h.n (lvM h f u (lvS h f u)) (coM h f u (coS h f u)))) (s5:=some (.fl (Bm h.n fls'))) (s7:=some (stD h.n S1.1 S1.2)) (s9:=some (stD h.n S1'.1 S1'.2)) (s13:=none) (G:=G) t 0 0 0 none (by lia) (by lia);obtain ⟨x'',y'',hC⟩:=ZDe (h:=h) (lv:=S1.1) (lv':=S1'.1) rm.2 (s0:=some (.fl (ns.map D.int))) (s1:=some h.enc) (s2:=some (stD h.n (lvS h f u) (coS h f u))) (s3:=some (.fl (Bm h.n fls))) (s4:=some (stD h.n (lvM h f u (lvS h f u)) (coM h f u (coS h f u)))) (s5:=some (.fl (Bm h.n fls'))) (s6:=some (.fl (PS.map (pgD h.n)))) (s8:=some (.fl (PS'.map (pgD h.n)))) (s10:=X') (s11:=Y') (G:=G) h.n 0 x' none (by lia)
 have hP':Be (gV 12) R6 (Bs 0 t) _ _=_:=hP;have hC':Be (gV 12) Th (Bs 0 h.n) _ _=_:=hC;have q1:(PS.map (pgD h.n)).length=t:=by rw [zT,n1]
 have q2:(PS'.map (pgD h.n)).length=t:=by rw [zT,n2]
 have hr:inR (h.n:Int):=Fq (by lia) (by lia);have hrt:inR (t:Int):=Fq (by lia) (by lia);generalize Bm h.n fls=FL at cf cm cr hP' hC' lfl fz0;generalize Bm h.n fls'=FL' at cm cr' hP' hC';generalize PS.map (pgD h.n)=PL at cr fr hP' hC' q1;generalize PS'.map (pgD h.n)=PL' at cr' fr' hP' hC' q2;generalize stD h.n S1.1 S1.2=E1 at cr fr hP' hC';generalize stD h.n S1'.1 S1'.2=E1' at cr' fr' hP' hC'
 generalize stD h.n (lvS h f u) (coS h f u)=E0 at cs cm cr hP' hC';generalize stD h.n (lvM h f u (lvS h f u)) (coM h f u (coS h f u))=E0' at cm cr' hP' hC';clear rm ro ro' so so' hP hC hLe;unfold Nq ZFp;rw [Br];simp [ch,cs,f2,<-et,cf,fz0,cm,ca,cr,fr,cr',fr',q1,q2,lfl,hrt,hP',Dp,Hs.Kp,hr,hC',Ci]
theorem holds:Holds:=λns hl=>⟨[],ZNh hl []⟩
end Law
namespace Law
open PySem L2 DL
seal QE QT QA QS QSs QG QGs QI QTs QW QO
structure Txt (K:PySem.W.Frag) (mg:Str->Option Value):Prop where
 Qy:FT K mg "_law_off" ZCs Zc
 Le:FT K mg "_law_tape" Yr ZA3
 Ba:FT K mg "_law_cell_at" ZAC Zr
 Fg:FT K mg "_law_amount" ZBt ZAB
 Gr:FT K mg "_law_unit" ZCR ZA4
 Ql:FT K mg "_law_floods" Tf ZAM
 Qh:FT K mg "_law_pumped" ZAj ZCu
 Py:FT K mg "_law_steps" Yz Zn
 Ky:FT K mg "_law_year" ZB5 ZCG
 Q3:FT K mg "_law_rule" Sq ZCf
 Pq:FT K mg "_law_basin" Uq ZBp
 Qf:FT K mg "_law_name" ZCH ZCB
 Ou:FT K mg "_law_house" W5 ZAd
 Og:FT K mg "_law_more" Ms ZCe
 Ow:FT K mg "_law_no_less" ZBQ ZAz
 K5:FT K mg "_law_number" ZCw ZCy
 Kr:FT K mg "_law_out" ZAh Ze
 Qg:FT K mg "_law_whole" ZAm ZCo
 Lf:FT K mg "_law_page" Yg ZBz
 Pz:FT K mg "_law_state" ZAS Zy
 Rh:MT K "Course" "__init__" "Course.__init__" U9 ZCQ
 Ni:MT K "Course" "send" "Course.send" ZB4 ZBH
 Kq:FT K mg "number_of" ZCt ZAQ
 Kz:FT K mg "down_of" ZCi ZCd
 Nb:MT K "Course" "send_down" "Course.send_down" ZBy ZBV
 Qp:FT K mg "opened" Yp Za
 Qc:FT K mg "stairs_at" ZBA ZBl
 U0:MT K "Course" "go_basin" "Course.go_basin" ZAg ZB7
 Kw:FT K mg "passed" Vk Yq
 Kc:FT K mg "down_in_reach" ZCC ZAW
 Pk:FT K mg "reach_rows" ZCz ZAV
 Pr:FT K mg "served" R7 ZAw
 Qi:FT K mg "way_down" Zz Ys
 Ph:FT K mg "shares" Yh Yw
 Ry:MT K "Course" "go_reach" "Course.go_reach" Zg ZC3
 Oc:FT K mg "lasts_of_reaches" ZAF Zu
 Ss:MT K "Course" "go" "Course.go" W9 ZBP
 Te:MT K "Course" "state_behind" "Course.state_behind" R3 ZBr
 Qj:FT K mg "turn" Zv Zq
 Kg:FT K mg "run" ZB3 ZBc
 Sy:FT K mg "law" Iv Z1
 Ay:CT K mg "Course"
 Qs:NoAttr K (Bl K "Course") "came"
 Rv:NoAttr K (Bl K "Course") "coming"
 K4:NoAttr K (Bl K "Course") "house"
 Xo:NoAttr K (Bl K "Course") "levels"
 Mt:NoAttr K (Bl K "Course") "page"
 Y6:NoAttr K (Bl K "Course") "reaches"
 Wk:NoAttr K (Bl K "Course") "year_turn"
 ZPB:mg "all"=none
 ZLH:mg "bool"=none
 Ob:mg "enumerate"=none
 ZJQ:mg "int"=none
 Vt:mg "isinstance"=none
 Du:mg "len"=none
 ZE8:mg "list"=none
 ZDq:mg "max"=none
 Rt:mg "min"=none
 Ez:mg "range"=none
 ZLE:mg "sorted"=none
 Gy:mg "tuple"=none
 ZBu:mg "zip"=none
 ZBZ:mg "BRIM"=some (.int 4 (El K "BRIM"))
 Uu:mg "DELAY"=some (.int 3 (El K "DELAY"))
 ZAa:mg "DOWN"=some (.int 2 (El K "DOWN"))
 Oo:mg "KIND"=some (.int 0 (El K "KIND"))
 ZCE:mg "LIES"=some (.int 5 (El K "LIES"))
 ZCL:mg "NAME"=some (.int 1 (El K "NAME"))
 Yo:mg "NEED"=some (.int 4 (El K "NEED"))
 Jd:mg "PLACES"=some (.int 1 (El K "PLACES"))
 Sg:mg "PUMP"=some (.int 6 (El K "PUMP"))
 ZAn:mg "PUMP_DELAY"=some (.int 1 (El K "PUMP_DELAY"))
 ZBN:mg "PUMP_TO"=some (.int 0 (El K "PUMP_TO"))
 ZAv:mg "RANK"=some (.int 5 (El K "RANK"))
 Ot:mg "ROW_DOWN"=some (.int 0 (El K "ROW_DOWN"))
 Z8:mg "ROW_NEED"=some (.int 2 (El K "ROW_NEED"))
 ZAZ:mg "ROW_RANK"=some (.int 3 (El K "ROW_RANK"))
 ZCj:mg "ROW_WATER"=some (.int 1 (El K "ROW_WATER"))
 ZBX:mg "RULE"=some (.int 5 (El K "RULE"))
 ZBO:mg "SEA"=some (.str "sea" (El K "SEA"))
 ZAb:mg "YEAR"=some (.int 0 (El K "YEAR"))
section
variable {P:Program} {w:World} {K:PySem.W.Frag} {mg:Str->Option Value} {base:Heap}
theorem ZLb (T:Txt K mg):FnO P w K mg base 1 "_law_off" Zc Tq:=by
 refine Cp T.Qy.F Rw λcdv A outer s H E hr=> ?_
 exact (Ai (Bx (ZLj o_le Jc Ae (Aa 0) (Ag Mu Ae Ae)) (Ai (An 0 Rw.nd (Ag Bp (Ag Ax (Ag Ax (Aa 0) (Ag Dr Ae (Aa 1))) Ae) Ae)) (Ai (An 0 Rw.nd (Ag Bp (Ag Dr (Aa 0) (Aa 0)) Ae)) (Am (Bq (Ag Bp (Ag Dr (Aa 0) (Ag Ax (Aa 0) (Aa 1))) Ae))))) Cq) (Ai (Ea PassesOwn.never rfl (Fp rfl T.Ez (Ac (Aa 1) Af)) (Av 2 Rw.nd) (Am (An 0 Rw.nd (Ag Dq (Aa 0) (Ag Mu Ae Ae))))) (Am (Bq (Ag Bp (Aa 0) (Ag Mu Ae Ae))))))
theorem ZG7 (T:Txt K mg):FnO P w K mg base 1 "_law_tape" ZA3 Mv:=by
 refine Cp T.Le.F ZPP λcdv A outer s H E hr=> ?_
 exact (Am (Bq (Xd (Q5 Qe (Ck Dt rfl T.Du Ds (Ac (Aa 0) Af)) Ae (nomark _)) (Wz (ZLQ (Q5 Jc (Al Ak (Aa 0) Ae) Ae (nomark _)) (Wz (Q5 o_ge (Al Ak (Aa 0) Ae) (Ag Mu Ae Ae) (nomark _))))))))
theorem Fb (T:Txt K mg):FnO P w K mg base 2 "_law_cell_at" Zr Bb:=by
 refine Cp T.Ba.F U8 λcdv A outer s H E hr=> ?_
 exact (Ai (Bx (Jv (Az (ZG7 T) (hr.mono (by decide)) rfl T.Le.m T.Le.k T.Le.b pass0 (Ac (Aa 0) Af))) (Ai (An 2 U8.nd Ae) (Ai (Bx (Bt Jc (Ag Ax Ae (Ag Dq (Aa 1) Ae)) (Ck Dt rfl T.Du Ds (Ac (Aa 0) Af)) (nomark _)) (Am (An 2 U8.nd (Al Ak (Aa 0) (Ag Ax Ae (Ag Dq (Aa 1) Ae))))) Cq) (Am (Bq (Az (ZLb T) (hr.mono (by decide)) rfl T.Qy.m T.Qy.k T.Qy.b pass0 (Ac (Aa 2) (Ac (Ag Bp (Aa 1) Ae) Af))))))) Cq) (Ai (Bx (Bt Jc (Aa 1) (Ck Dt rfl T.Du Ds (Ac (Aa 0) Af)) (nomark _)) (Am (Bq (Al Ak (Aa 0) (Aa 1)))) Cq) (Ai (An 2 U8.nd (Ag Bp (Ag Dr Ae (Ag Ax (Ag Dr (Aa 1) (Aa 1)) (Ag Dr Ae (Ck Dt rfl T.Du Ds (Ac (Aa 0) Af))))) Ae)) (Ai (Bx (Bt Qe (Ck Dt rfl T.Du Ds (Ac (Aa 0) Af)) Ae (nomark _)) (Am (An 2 U8.nd (Ag Ax (Aa 2) (Ag Bp (Ag Dr (Al Ak (Aa 0) (Ag Bp (Aa 1) (Ck Dt rfl T.Du Ds (Ac (Aa 0) Af)))) Ae) Ae)))) Cq) (Am (Bq (Aa 2)))))))
theorem Oz (T:Txt K mg):FnO P w K mg base 1 "_law_amount" ZAB Kv:=by
 refine Cp T.Fg.F ZIn λcdv A outer s H E hr=> ?_
 exact (Am (Bq (Ag Ax (Ag Dr (Aa 1) (Ag Bp (Aa 0) Ae)) (Ag Bp (Ag Dq (Aa 0) Ae) (Aa 1)))))
theorem Ud (T:Txt K mg):FnO P w K mg base 3 "_law_unit" ZA4 Gj:=by
 refine Cp T.Gr.F ZNj λcdv A outer s H E hr=> ?_
 exact (Am (Bq (Al Ak (Cw (Ej (Ac Ae (Ac Ae (Ac (Ag Mu Ae Ae) Af))))) (Ag Bp (Ag Dq (Az (Fb T) (hr.mono (by decide)) rfl T.Ba.m T.Ba.k T.Ba.b pass0 (Ac (Aa 0) (Ac Ae Af))) Ae) Ae))))
theorem ZNY (T:Txt K mg):FnO P w K mg base 4 "_law_floods" ZAM Wm:=by
 refine Cp T.Ql.F Qw λcdv A outer s H E hr=> ?_
 exact (Ai (An 3 Qw.nd (Ck Dt rfl T.Du Ds (Ac (Al Ak (Aa 1) Ae) Af))) (Ai (An 4 Qw.nd (Ag Ax Ae (Ag Dr Ae (Aa 3)))) (Ai (An 5 Qw.nd (Ft (Ej Af))) (Ai (Ea PassesOwn.never rfl (Fp rfl T.Ez (Ac (Aa 2) Af)) (Av 6 Qw.nd) (Ai (Ml (Mj 7 rfl Qw.nd (Fv (dn:=(Aw Tf).names) (N0:=Up) (N:= ["_law_k","_law_script","_law_many","_law_b","_law_at"]) (nt:=1) (caps:= [0,3,4,6])) (Fp rfl T.Ez (Ac (Aa 3) Af)) (λC s₀ H₀ ex=>(Av 0 (show (["_law_k","_law_script","_law_many","_law_b","_law_at"]:List Str).Nodup by decide +kernel))) (Ep (by decide)) (λC s₀ H₀ ex=>Gb) (λC s₀ H₀ ex=>(Az (Fb T) (hr.mono (by decide)) rfl T.Ba.m T.Ba.k T.Ba.b pass0 (Ac (Aa 1) (Ac (Ag Ax (Ag Ax (Aa 3) (Ag Dr (Aa 4) (Aa 2))) (Aa 0)) Af)))))) (Am (Es (Gm PySem.F.slot_list_append PySem.F.type_list_append Gs (Aa 5) (Ac (Hd Hr rfl T.Gy H9 (Ac (Cw (Il rfl (Fv (dn:=(Aw Tf).names) (N0:=Up) (N:= ["_law_cell","_law_script"]) (nt:=1) (caps:= [0])) (Gp (Aa 7)) (λC s₀ H₀ ex=>(Av 0 (show (["_law_cell","_law_script"]:List Str).Nodup by decide +kernel))) (Ep (by decide)) (λC s₀ H₀ ex=>Gb) (λC s₀ H₀ ex=>(Az (Oz T) (hr.mono (by decide)) rfl T.Fg.m T.Fg.k T.Fg.b pass0 (Ac (Aa 0) (Ac (Cw (Az (Ud T) (hr.mono (by decide)) rfl T.Gr.m T.Gr.k T.Gr.b pass0 (Ac (Aa 1) Af))) Af)))))) Af)) Af)))))) (Am (Bq (Aa 5)))))))
theorem ZKe (T:Txt K mg):FnO P w K mg base 1 "_law_pumped" ZCu Yj:=by
 refine Cp T.Qh.F Qn λcdv A outer s H E hr=> ?_
 exact (Ai (An 1 Qn.nd Ae) (Ai (Ea PassesOwn.never rfl (Gp (Aa 0)) (Fx rfl (Cm (Av 2 Qn.nd) (Cm (Av 3 Qn.nd) (Cm (Av 4 Qn.nd) Gh)))) (Am (Bx (Bt (Eg hr.units) (Aa 4) Gf (nomark _)) (Am (An 1 Qn.nd (Ag Ax (Aa 1) (Aa 3)))) Cq))) (Am (Bq (Aa 1)))))
theorem ZKy (T:Txt K mg):FnO P w K mg base 1 "_law_steps" Zn Vf:=by
 refine Cp T.Py.F Lb λcdv A outer s H E hr=> ?_
 exact (Ai (An 3 Lb.nd (Ft (Ej Af))) (Ai (An 4 Lb.nd Ae) (Ai (Ea PassesOwn.never rfl (Fp rfl T.Ez (Ac (Ag Bp (Al Ak (Aa 0) Ae) Ae) Af)) (Av 5 Lb.nd) (Ai (An 4 Lb.nd (Ag Ax (Aa 4) (Ag Dr (Aa 1) (Ag Bp (Al Ak (Aa 0) (Ag Ax Ae (Aa 5))) Ae)))) (Ai (An 6 Lb.nd (Ag Ax Ae (Ag Dr (Aa 1) (Ag Bp (Ag Dq (Al Ak (Aa 0) (Ag Ax Ae (Aa 5))) Ae) Ae)))) (Ai (An 7 Lb.nd Gf) (Ai (Bx (Je (ZBx (Jv (Aa 2)) (ZCm (Bt (Eg hr.units) (Ag Bp (Ag Dq (Al Ak (Aa 0) (Ag Ax Ae (Aa 5))) Ae) Ae) Ae (nomark _))))) (Am (An 7 Lb.nd Gf)) Cq) (Ai (Es (Gm PySem.F.slot_list_append PySem.F.type_list_append Gs (Aa 3) (Ac (Ew (Ac (Aa 4) (Ac (Aa 6) (Ac (Aa 7) Af)))) Af))) (Am (An 4 Lb.nd (Ag Ax (Aa 4) (Aa 6)))))))))) (Am (Bq (Hd Hr rfl T.Gy H9 (Ac (Aa 3) Af)))))))
theorem ZG8 (T:Txt K mg):FnO P w K mg base 3 "_law_year" ZCG K1:=by
 refine Cp T.Ky.F ZEn λcdv A outer s H E hr=> ?_
 exact (Ai (An 1 ZEn.nd (Az (Fb T) (hr.mono (by decide)) rfl T.Ba.m T.Ba.k T.Ba.b pass0 (Ac (Aa 0) (Ac Ae Af)))) (Ai (Bx (Bt (Eg hr.units) (Ag Bp (Ag Dq (Aa 1) Ae) Ae) Ae (nomark _)) (Am (Bq (Ag Ax Ae (Ag Bp (Ag Dq (Aa 1) Ae) Ae)))) Cq) (Am (Bq (Ag Ax Ae (Ag Bp (Aa 1) Ae))))))
theorem ZIb (T:Txt K mg):FnO P w K mg base 4 "_law_rule" ZCf Vm:=by
 refine Cp T.Q3.F Jz λcdv A outer s H E hr=> ?_
 exact (Ai (An 4 Jz.nd (Az (ZG8 T) (hr.mono (by decide)) rfl T.Ky.m T.Ky.k T.Ky.b pass0 (Ac (Aa 0) Af))) (Ai (An 5 Jz.nd (Ft (Ej Af))) (Ai (An 6 Jz.nd Ae) (Ai (Ea PassesOwn.never rfl (Fp rfl T.Ez (Ac Ae Af)) (Av 7 Jz.nd) (Ai (An 8 Jz.nd (Ag Bp (Ag Dr (Ag Dr (Az (Fb T) (hr.mono (by decide)) rfl T.Ba.m T.Ba.k T.Ba.b pass0 (Ac (Aa 0) (Ac (Ag Ax (Aa 1) Ae) Af))) Ae) (Ag Ax (Ag Dr (Aa 7) (Aa 7)) Ae)) Ae)) (Ai (Ml (Mj 9 rfl Jz.nd (Fv (dn:=(Aw Sq).names) (N0:=V0) (N:= ["_law_k","_law_script","_law_b","_law_j"]) (nt:=1) (caps:= [0,1,7])) (Fp rfl T.Ez (Ac Ae Af)) (λC s₀ H₀ ex=>(Av 0 (show (["_law_k","_law_script","_law_b","_law_j"]:List Str).Nodup by decide +kernel))) (Ep (by decide)) (λC s₀ H₀ ex=>Gb) (λC s₀ H₀ ex=>(Ag Dq (Az (Fb T) (hr.mono (by decide)) rfl T.Ba.m T.Ba.k T.Ba.b pass0 (Ac (Aa 1) (Ac (Ag Ax (Ag Ax (Aa 2) Ae) (Ag Bp (Ag Ax (Ag Dr Ae (Aa 3)) (Aa 0)) Ae)) Af))) (Ag Ax Ae (Ag Dr Ae (Ag Dq (Aa 3) Ae))))))) (Ai (Bx (Jv (Az (ZG7 T) (hr.mono (by decide)) rfl T.Le.m T.Le.k T.Le.b pass0 (Ac (Aa 0) Af))) (Ai (An 8 Jz.nd (Ag Dq (Az (Fb T) (hr.mono (by decide)) rfl T.Ba.m T.Ba.k T.Ba.b pass0 (Ac (Aa 0) (Ac (Ag Ax (Aa 1) Ae) Af))) (Al Ak (Cw (Ej (Ac Ae (Ac Ae (Ac Ae (Ac Ae Af)))))) (Aa 7)))) (Am (Ml (Mj 9 rfl Jz.nd (Fv (dn:=(Aw Sq).names) (N0:=V0) (N:= ["_law_k","_law_script","_law_b","_law_j"]) (nt:=1) (caps:= [0,1,7])) (Fp rfl T.Ez (Ac Ae Af)) (λC s₀ H₀ ex=>(Av 0 (show (["_law_k","_law_script","_law_b","_law_j"]:List Str).Nodup by decide +kernel))) (Ep (by decide)) (λC s₀ H₀ ex=>Gb) (λC s₀ H₀ ex=>(Ag Dq (Az (Fb T) (hr.mono (by decide)) rfl T.Ba.m T.Ba.k T.Ba.b pass0 (Ac (Aa 1) (Ac (Ag Ax (Ag Ax (Aa 2) Ae) (Aa 0)) Af))) (Al Ak (Cw (Ej (Ac Ae (Ac Ae (Ac Ae (Ac Ae Af)))))) (Aa 3)))))))) Cq) (Am (Bx (Je (Ls (Bt (Eg hr.units) (Aa 7) Ae (nomark _)) (Mg (Je (ZBx (Bt (Eg hr.units) (Ag Bp (Aa 8) Ae) Ae (nomark _)) (ZCm (Bt Jc (Ag Ax (Aa 6) Ae) (Aa 4) (nomark _)))))))) (Ai (Bx (Bt Qe (Aa 7) Ae (nomark _)) (Am (An 6 Jz.nd (Ag Ax (Ag Ax (Aa 6) Ae) (Ag Bp (Ag Dq (Aa 8) Ae) (Ag Hk (Ag Hk (Aa 4) (Aa 6)) Ae))))) Cq) (Am (Es (Gm PySem.F.slot_list_append PySem.F.type_list_append Gs (Aa 5) (Ac (Ew (Ac (Aa 6) (Ac (Az (ZKy T) (hr.mono (by decide)) rfl T.Py.m T.Py.k T.Py.b pass0 (Ac (Aa 9) (Ac (Aa 2) (Ac (Aa 3) Af)))) Af))) Af))))) Cq)))))) (Am (Bq (Hd Hr rfl T.Gy H9 (Ac (Aa 5) Af))))))))
theorem ZLK (T:Txt K mg):FnO P w K mg base 5 "_law_basin" ZBp Sx:=by
 refine Cp T.Pq.F Js λcdv A outer s H E hr=> ?_
 exact (Ai (An 5 Js.nd (Cw (Az (Ud T) (hr.mono (by decide)) rfl T.Gr.m T.Gr.k T.Gr.b pass0 (Ac (Aa 0) Af)))) (Ai (An 6 Js.nd (Az (Fb T) (hr.mono (by decide)) rfl T.Ba.m T.Ba.k T.Ba.b pass0 (Ac (Aa 0) (Ac (Ag Ax (Aa 1) Ae) Af)))) (Ai (An 7 Js.nd (Xd (Q5 Qe (Ck Dt rfl T.Du Ds (Ac (Aa 3) Af)) Ae (nomark _)) (Wz (Q5 (Eg hr.units) (Ag Bp (Aa 6) Ae) Ae (nomark _))))) (Ai (An 8 Js.nd (Az (ZIb T) (hr.mono (by decide)) rfl T.Q3.m T.Q3.k T.Q3.b pass0 (Ac (Aa 0) (Ac (Aa 1) (Ac (Aa 5) (Ac (Aa 7) Af)))))) (Ai (An 9 Js.nd Ik) (Ai (Bx (Jv (Aa 7)) (Ai (An 10 Js.nd (Ag Ax (Ck (ZNP rfl) rfl T.ZDq ZC9 (Ac (Cw (Il rfl (Fv (dn:=(Aw Uq).names) (N0:=ZB2) (N:= ["_law_season"]) (nt:=1) (caps:= [])) (Gp (Aa 8)) (λC s₀ H₀ ex=>(Av 0 (show (["_law_season"]:List Str).Nodup by decide +kernel))) (Ep (by decide)) (λC s₀ H₀ ex=>Gb) (λC s₀ H₀ ex=>(Az (ZKe T) (hr.mono (by decide)) rfl T.Qh.m T.Qh.k T.Qh.b pass0 (Ac (Al Ak (Aa 0) Ae) Af))))) Af)) (Ag Dr (Aa 5) (Ag Bp (Ag Dq (Aa 6) Ae) Ae)))) (Ai (An 11 Js.nd (Al Ak (Aa 3) (Ag Bp (Ag Ax (Ag Ax (Aa 2) Ae) (Ag Bp (Ag Dq (Aa 6) Ae) (Ag Hk (Ck Dt rfl T.Du Ds (Ac (Aa 3) Af)) Ae))) (Ck Dt rfl T.Du Ds (Ac (Aa 3) Af))))) (Am (An 9 Js.nd (Ew (Ac (Aa 11) (Ac (Ag Ax Ae (Ag Bp (Ag Dq (Aa 6) Ae) Ae)) (Ac (Aa 10) Af)))))))) Cq) (Ai (An 12 Js.nd (Az (Oz T) (hr.mono (by decide)) rfl T.Fg.m T.Fg.k T.Fg.b pass0 (Ac (Az (Fb T) (hr.mono (by decide)) rfl T.Ba.m T.Ba.k T.Ba.b pass0 (Ac (Aa 0) (Ac (Ag Ax (Aa 1) Ae) Af))) (Ac (Aa 5) Af)))) (Am (Bq (Ew (Ac Gf (Ac (Al Ak (Aa 3) (Aa 2)) (Ac (Al Ak (Aa 4) Ae) (Ac (Al Ak (Aa 4) Ae) (Ac (Aa 12) (Ac (Aa 8) (Ac (Aa 9) Af)))))))))))))))))
theorem ZO3 (T:Txt K mg):FnO P w K mg base 1 "_law_name" ZCB Wv:=by
 refine Cp T.Qf.F Yt λcdv A outer s H E hr=> ?_
 exact (Ai (An 3 Yt.nd (Al Ak Gf (Ag Bp (Ag Dq (Aa 0) Ae) Ae))) (Ai (Bx (Je (ZBx (Bt (Eg hr.units) (Ag Bp (Aa 0) Ae) Ae (nomark _)) (ZCm (Bt Jc (Aa 2) Ae (nomark _))))) (Am (Bq (Ag Dr (Aa 3) (Ag Ax (Aa 1) Ae)))) Cq) (Ai (An 4 Yt.nd (Al Ak Gf (Ag Bp (Ag Ax (Ag Dr Ae (Aa 1)) (Ag Dq (Aa 0) Ae)) Ae))) (Ai (Bx (Bt (Eg hr.units) (Ag Bp (Aa 0) Ae) Ae (nomark _)) (Am (Bq (Ag Ax (Aa 4) (Ag Dr (Aa 3) (Ag Bp (Ag Dq (Aa 0) Ae) Ae))))) Cq) (Am (Bq (Ag Ax (Ag Ax (Ag Dr (Aa 3) (Ag Bp (Ag Dq (Aa 0) Ae) Ae)) (Aa 4)) (Ag Dr (Aa 3) (Ag Hk Ae (Ag Bp (Ag Dq (Aa 0) Ae) Ae))))))))))
theorem ZMw (T:Txt K mg):FnO P w K mg base 6 "_law_house" ZAd Y5:=by
 refine Cp T.Ou.F Hi λcdv A outer s H E hr=> ?_
 exact (Ai (An 1 Hi.nd (Az (Fb T) (hr.mono (by decide)) rfl T.Ba.m T.Ba.k T.Ba.b pass0 (Ac (Aa 0) (Ac Ae Af)))) (Ai (An 2 Hi.nd (Ag Ax Ae (Ag Bp (Aa 1) Ae))) (Ai (Bx (Bt (Eg hr.units) (Ag Bp (Ag Dq (Aa 1) Ae) Ae) Ae (nomark _)) (Am (An 2 Hi.nd (Ag Ax Ae (Ag Bp (Ag Dq (Aa 1) Ae) Ae)))) Cq) (Ai (Ml (Mj 3 rfl Hi.nd (Fv (dn:=(Aw W5).names) (N0:=ZBf) (N:= ["_law_k","_law_script","_law_many"]) (nt:=1) (caps:= [0,2])) (Fp rfl T.Ez (Ac (Aa 2) Af)) (λC s₀ H₀ ex=>(Av 0 (show (["_law_k","_law_script","_law_many"]:List Str).Nodup by decide +kernel))) (Ep (by decide)) (λC s₀ H₀ ex=>Gb) (λC s₀ H₀ ex=>(Az (ZO3 T) (hr.mono (by decide)) rfl T.Qf.m T.Qf.k T.Qf.b pass0 (Ac (Az (Fb T) (hr.mono (by decide)) rfl T.Ba.m T.Ba.k T.Ba.b pass0 (Ac (Aa 1) (Ac Ae Af))) (Ac (Aa 0) (Ac (Aa 2) Af))))))) (Ai (An 5 Hi.nd (Ft (Ej Af))) (Ai (Ea PassesOwn.never rfl (Fp rfl T.Ez (Ac (Aa 2) Af)) (Av 4 Hi.nd) (Ai (An 6 Hi.nd (Ag Ax Ae (Ag Dr Ae (Aa 4)))) (Ai (An 7 Hi.nd (Ag Bp (Az (Fb T) (hr.mono (by decide)) rfl T.Ba.m T.Ba.k T.Ba.b pass0 (Ac (Aa 0) (Ac (Ag Ax (Aa 6) Ae) Af))) (Ag Hk (Aa 2) (Aa 4)))) (Ai (Bx (Bt (Eg hr.units) (Ag Bp (Ag Dq (Aa 1) Ae) Ae) Ae (nomark _)) (Am (An 7 Hi.nd (Ck (Us rfl) rfl T.Rt Su (Ac Ae (Ac (Ag Hk (Ag Hk (Aa 2) Ae) (Aa 4)) Af))))) Cq) (Ai (An 8 Hi.nd (Az (Fb T) (hr.mono (by decide)) rfl T.Ba.m T.Ba.k T.Ba.b pass0 (Ac (Aa 0) (Ac (Ag Ax (Aa 6) Ae) Af)))) (Ai (An 9 Hi.nd (Ew (Ac Gf (Ac (Ag Dr (Ag Bp (Aa 8) Ae) (Ag Bp (Ag Dq (Aa 8) Ae) Ae)) Af)))) (Ai (Bx (Bt Qe (Aa 7) Ae (nomark _)) (Am (An 9 Hi.nd (Ew (Ac (Al Ak (Aa 3) (Ag Ax (Aa 4) (Aa 7))) (Ac (Al Ak (Aa 9) Ae) Af))))) Cq) (Ai (An 10 Hi.nd (Ag Bp (Az (Fb T) (hr.mono (by decide)) rfl T.Ba.m T.Ba.k T.Ba.b pass0 (Ac (Aa 0) (Ac (Aa 6) Af))) Ae)) (Ai (An 11 Hi.nd (Az (Oz T) (hr.mono (by decide)) rfl T.Fg.m T.Fg.k T.Fg.b pass0 (Ac (Az (Fb T) (hr.mono (by decide)) rfl T.Ba.m T.Ba.k T.Ba.b pass0 (Ac (Aa 0) (Ac (Ag Ax (Aa 6) Ae) Af))) (Ac (Cw (Az (Ud T) (hr.mono (by decide)) rfl T.Gr.m T.Gr.k T.Gr.b pass0 (Ac (Aa 0) Af))) Af)))) (Ai (An 12 Hi.nd (Ag Bp (Az (Fb T) (hr.mono (by decide)) rfl T.Ba.m T.Ba.k T.Ba.b pass0 (Ac (Aa 0) (Ac (Ag Ax (Aa 6) Ae) Af))) (Al Ak (Cw (Ej (Ac Ae (Ac (Ag Mu Ae Ae) Af)))) (Ag Bp (Ag Dq (Aa 1) Ae) Ae)))) (Am (Bx (Bt Jc (Aa 10) Ae (nomark _)) (Am (Es (Gm PySem.F.slot_list_append PySem.F.type_list_append Gs (Aa 5) (Ac (Cw (Az (ZLK T) (hr.mono (by decide)) rfl T.Pq.m T.Pq.k T.Pq.b pass0 (Ac (Aa 0) (Ac (Aa 6) (Ac (Aa 4) (Ac (Aa 3) (Ac (Aa 9) Af))))))) Af)))) (Am (Bx (Bt Jc (Aa 10) Ae (nomark _)) (Am (Es (Gm PySem.F.slot_list_append PySem.F.type_list_append Gs (Aa 5) (Ac (Ew (Ac Gf (Ac (Al Ak (Aa 3) (Aa 4)) (Ac (Al Ak (Aa 9) Ae) (Ac (Al Ak (Aa 9) Ae) (Ac (Aa 11) (Ac (Aa 12) Af))))))) Af)))) (Am (Es (Gm PySem.F.slot_list_append PySem.F.type_list_append Gs (Aa 5) (Ac (Ew (Ac Gf (Ac (Al Ak (Aa 3) (Aa 4)) (Ac (Al Ak (Aa 9) Ae) (Ac (Al Ak (Aa 9) Ae) (Ac (Aa 11) Af)))))) Af)))))))))))))))))) (Am (Bq (Ew (Ac (Az (ZG8 T) (hr.mono (by decide)) rfl T.Ky.m T.Ky.k T.Ky.b pass0 (Ac (Aa 0) Af)) (Ac (Hd Hr rfl T.Gy H9 (Ac (Aa 5) Af)) Af)))))))))))
theorem ZMr (T:Txt K mg):FnO P w K mg base 4 "_law_more" ZCe Rg:=by
 refine Cp T.Og.F Hh λcdv A outer s H E hr=> ?_
 exact (Ai (An 4 Hh.nd (Cw (Az (Ud T) (hr.mono (by decide)) rfl T.Gr.m T.Gr.k T.Gr.b pass0 (Ac (Aa 0) Af)))) (Ai (An 5 Hh.nd (Ck Dt rfl T.Du Ds (Ac (Al Ak (Aa 1) Ae) Af))) (Ai (An 6 Hh.nd (Ag Ax Ae (Ag Dr Ae (Aa 5)))) (Ai (An 7 Hh.nd (Ft (Ej Af))) (Ai (An 8 Hh.nd (Ft (Ej Af))) (Ai (Ea PassesOwn.never rfl (Fp rfl T.Ez (Ac (Aa 5) Af)) (Av 9 Hh.nd) (Ai (An 10 Hh.nd (Az (Fb T) (hr.mono (by decide)) rfl T.Ba.m T.Ba.k T.Ba.b pass0 (Ac (Aa 0) (Ac (Ag Ax (Aa 6) (Aa 9)) Af)))) (Ai (An 11 Hh.nd (Al Ak (Al Ak (Aa 2) Ae) (Aa 9))) (Ai (Bx (Bt (Eg hr.units) (Al Ak (Al Ak (Al Ak (Aa 1) Ae) (Aa 9)) Ae) Gf (nomark _)) (Ai (An 12 Hh.nd (Ag Ax (Ag Hk (Al Ak (Al Ak (Al Ak (Aa 1) Ae) (Aa 9)) Ae) (Aa 11)) Ae)) (Am (An 11 Hh.nd (Ag Ax (Aa 11) (Ag Dr (Ag Bp (Az (Oz T) (hr.mono (by decide)) rfl T.Fg.m T.Fg.k T.Fg.b pass0 (Ac (Ag Dq (Aa 10) Ae) (Ac (Aa 4) Af))) (Aa 12)) (Ag Bp (Aa 10) Ae)))))) Cq) (Ai (Es (Gm PySem.F.slot_list_append PySem.F.type_list_append Gs (Aa 7) (Ac (Aa 11) Af))) (Ai (Ml (Mj 13 rfl Hh.nd (Fv (dn:=(Aw Ms).names) (N0:=Q0) (N:= ["_law_number_here","_law_unit_here","_law_cell"]) (nt:=1) (caps:= [4,10])) (Gp (Al Ak (Al Ak (Aa 2) Ae) (Aa 9))) (λC s₀ H₀ ex=>(Av 0 (show (["_law_number_here","_law_unit_here","_law_cell"]:List Str).Nodup by decide +kernel))) (Ep (by decide)) (λC s₀ H₀ ex=>Gb) (λC s₀ H₀ ex=>(Ag Ax (Aa 0) (Ag Dr (Aa 1) (Ag Bp (Ag Dq (Aa 2) Ae) Ae)))))) (Am (Es (Gm PySem.F.slot_list_append PySem.F.type_list_append Gs (Aa 8) (Ac (Hd Hr rfl T.Gy H9 (Ac (Aa 13) Af)) Af)))))))))) (Ai (An 14 Hh.nd (Ft (Ej Af))) (Ai (Ea PassesOwn.never rfl (Fp rfl T.Ez (Ac (Ck Dt rfl T.Du Ds (Ac (Aa 3) Af)) Af)) (Av 15 Hh.nd) (Ai (Ml (Mj 16 rfl Hh.nd (Fv (dn:=(Aw Ms).names) (N0:=Q0) (N:= ["_law_k","_law_script","_law_many","_law_b","_law_at"]) (nt:=1) (caps:= [0,5,6,15])) (Fp rfl T.Ez (Ac (Aa 5) Af)) (λC s₀ H₀ ex=>(Av 0 (show (["_law_k","_law_script","_law_many","_law_b","_law_at"]:List Str).Nodup by decide +kernel))) (Ep (by decide)) (λC s₀ H₀ ex=>Gb) (λC s₀ H₀ ex=>(Az (Fb T) (hr.mono (by decide)) rfl T.Ba.m T.Ba.k T.Ba.b pass0 (Ac (Aa 1) (Ac (Ag Ax (Ag Ax (Ag Ax (Aa 3) (Aa 2)) (Ag Dr (Aa 4) (Aa 2))) (Aa 0)) Af)))))) (Ai (Ml (An 17 Hh.nd (Il rfl (Fv (dn:=(Aw Ms).names) (N0:=Q0) (N:= ["_law_cell","_law_unit_here"]) (nt:=1) (caps:= [4])) (Gp (Aa 16)) (λC s₀ H₀ ex=>(Av 0 (show (["_law_cell","_law_unit_here"]:List Str).Nodup by decide +kernel))) (Ep (by decide)) (λC s₀ H₀ ex=>Gb) (λC s₀ H₀ ex=>(Ag Dr (Az (Oz T) (hr.mono (by decide)) rfl T.Fg.m T.Fg.k T.Fg.b pass0 (Ac (Ag Dq (Aa 0) Ae) (Ac (Aa 1) Af))) (Ag Bp (Aa 0) Ae)))))) (Am (Es (Gm PySem.F.slot_list_append PySem.F.type_list_append Gs (Aa 14) (Ac (Hd Hr rfl T.Gy H9 (Ac (Cw (Il rfl (Fv (dn:=(Aw Ms).names) (N0:=Q0) (N:= ["_law_k","_law_floods_here","_law_at","_law_added"]) (nt:=1) (caps:= [3,15,17])) (Fp rfl T.Ez (Ac (Aa 5) Af)) (λC s₀ H₀ ex=>(Av 0 (show (["_law_k","_law_floods_here","_law_at","_law_added"]:List Str).Nodup by decide +kernel))) (Ep (by decide)) (λC s₀ H₀ ex=>Gb) (λC s₀ H₀ ex=>(Ag Ax (Al Ak (Al Ak (Aa 1) (Aa 2)) (Aa 0)) (Al Ak (Aa 3) (Aa 0)))))) Af)) Af))))))) (Am (Bq (Ew (Ac (Ew (Ac (Hd Hr rfl T.Gy H9 (Ac (Aa 7) Af)) (Ac (Hd Hr rfl T.Gy H9 (Ac (Aa 8) Af)) Af))) (Ac (Aa 14) Af)))))))))))))
theorem ZKn (T:Txt K mg):FnO P w K mg base 1 "_law_no_less" ZAz Vv:=by
 refine Cp T.Ow.F Oh λcdv A outer s H E hr=> ?_
 exact (Ai (Ea PassesOwn.never rfl (Fp rfl T.Ez (Ac (Ck Dt rfl T.Du Ds (Ac (Aa 1) Af)) Af)) (Av 3 Oh.nd) (Ai (An 4 Oh.nd (Cw (Ej (Ac Ae Af)))) (Ai (Bx (Bt (Eg hr.units) (Al Ak (Al Ak (Al Ak (Aa 0) Ae) (Aa 3)) Ae) Gf (nomark _)) (Am (An 4 Oh.nd (Cw (Ej (Ac Ae (Ac Ae (Ac Ae (Ac Ae Af)))))))) Cq) (Ai (Bx (Bt (Eg hr.units) (Al Ak (Al Ak (Al Ak (Aa 0) Ae) (Aa 3)) Ae) Gf (nomark _)) (Am (An 4 Oh.nd (Cw (Ej Af)))) Cq) (Am (Ea PassesOwn.never rfl (Gp (Aa 4)) (Av 5 Oh.nd) (Am (Bx (Bt Jc (Al Ak (Al Ak (Aa 2) (Aa 3)) (Aa 5)) (Al Ak (Al Ak (Aa 1) (Aa 3)) (Aa 5)) (nomark _)) (Am (Bq Ji)) Cq)))))))) (Am (Bq Ji)))
theorem ZFY (T:Txt K mg):FnO P w K mg base 3 "_law_number" ZCy Oa:=by
 refine Cp T.K5.F ZGB λcdv A outer s H E hr=> ?_
 exact (Ai (An 1 ZGB.nd (Az (Fb T) (hr.mono (by decide)) rfl T.Ba.m T.Ba.k T.Ba.b pass0 (Ac (Aa 0) (Ac Ae Af)))) (Am (Bq (Ag Bp (Ag Dq (Aa 1) Ae) (Al Ak (Cw (Ej (Ac Ae (Ac (Ag Mu Ae Ae) Af)))) (Ag Bp (Aa 1) Ae))))))
theorem ZHW (T:Txt K mg):FnO P w K mg base 1 "_law_out" Ze Rm:=by
 refine Cp T.Kr.F Uz λcdv A outer s H E hr=> ?_
 exact (Ai (An 2 Uz.nd Ae) (Ai (Ea PassesOwn.never rfl (Fp rfl T.Ez (Ac (Ck Dt rfl T.Du Ds (Ac (Aa 1) Af)) Af)) (Av 3 Uz.nd) (Am (Bx (Bt (Eg hr.units) (Al Ak (Al Ak (Al Ak (Aa 0) Ae) (Aa 3)) Ae) Gf (nomark _)) (Am (An 2 Uz.nd (Ag Ax (Ag Ax (Aa 2) (Al Ak (Al Ak (Aa 1) (Aa 3)) Ae)) (Al Ak (Al Ak (Aa 1) (Aa 3)) Ae)))) Cq))) (Am (Bq (Aa 2)))))
theorem ZJh (T:Txt K mg):FnO P w K mg base 1 "_law_whole" ZCo R1:=by
 refine Cp T.Qg.F ZPt λcdv A outer s H E hr=> ?_
 exact (Am (Bq (Xd (Ck Uh rfl T.Vt Vp (Ac (Aa 0) (Ac (Wy rfl T.ZJQ ZOq) Af))) (Xd (ZNz (Ck Uh rfl T.Vt Vp (Ac (Aa 0) (Ac (Wy rfl T.ZLH ZOd) Af)))) (Wz (Q5 o_ge (Aa 0) Ae (nomark _)))))))
theorem ZGQ (T:Txt K mg):FnO P w K mg base 2 "_law_page" ZBz Rn:=by
 refine Cp T.Lf.F ZEd λcdv A outer s H E hr=> ?_
 exact (Ai (Bx (Je (Ls (Qu (Jv (Ck Uh rfl T.Vt Vp (Ac (Aa 0) (Ac (Wy rfl T.Gy H9) Af))))) (Mg (Bt (Xb hr.units) (Ck Dt rfl T.Du Ds (Ac (Aa 0) Af)) (Aa 1) (nomark _))))) (Am (Bq Ji)) Cq) (Ai (Ea PassesOwn.never rfl (Gp (Aa 0)) (Av 2 ZEd.nd) (Ai (Bx (Je (Ls (Qu (Jv (Ck Uh rfl T.Vt Vp (Ac (Aa 2) (Ac (Wy rfl T.Gy H9) Af))))) (Mg (Bt (Xb hr.units) (Ck Dt rfl T.Du Ds (Ac (Aa 2) Af)) Ae (nomark _))))) (Am (Bq Ji)) Cq) (Am (Bx (Qu (Jv (Ck (ZPL rfl) rfl T.ZPB ZPx (Ac (Cw (Il rfl (Fv (dn:=(Aw Yg).names) (N0:=ZBg) (N:= ["_law_number_here"]) (nt:=1) (caps:= [])) (Gp (Aa 2)) (λC s₀ H₀ ex=>(Av 0 (show (["_law_number_here"]:List Str).Nodup by decide +kernel))) (Ep (by decide)) (λC s₀ H₀ ex=>Gb) (λC s₀ H₀ ex=>(Az (ZJh T) (hr.mono (by decide)) rfl T.Qg.m T.Qg.k T.Qg.b pass0 (Ac (Aa 0) Af))))) Af)))) (Am (Bq Ji)) Cq)))) (Am (Bq Ji))))
theorem ZIg (T:Txt K mg):FnO P w K mg base 4 "_law_state" Zy Yk:=by
 refine Cp T.Pz.F I9 λcdv A outer s H E hr=> ?_
 exact (Ai (An 2 I9.nd (Al Ak (Aa 1) Ae)) (Ai (An 3 I9.nd (Cw (Az (Ud T) (hr.mono (by decide)) rfl T.Gr.m T.Gr.k T.Gr.b pass0 (Ac (Aa 0) Af)))) (Ai (An 4 I9.nd (Ag Ax Ae (Ag Dr Ae (Ck Dt rfl T.Du Ds (Ac (Aa 2) Af))))) (Ai (An 5 I9.nd (Ft (Ej Af))) (Ai (An 6 I9.nd (Ft (Ej Af))) (Ai (Ea PassesOwn.never rfl (Fp rfl T.Ez (Ac (Ck Dt rfl T.Du Ds (Ac (Aa 2) Af)) Af)) (Av 7 I9.nd) (Ai (An 8 I9.nd Ae) (Ai (Bx (Bt (Eg hr.units) (Al Ak (Al Ak (Aa 2) (Aa 7)) Ae) Gf (nomark _)) (Am (An 8 I9.nd (Ag Bp (Az (Oz T) (hr.mono (by decide)) rfl T.Fg.m T.Fg.k T.Fg.b pass0 (Ac (Az (Fb T) (hr.mono (by decide)) rfl T.Ba.m T.Ba.k T.Ba.b pass0 (Ac (Aa 0) (Ac (Ag Ax (Aa 4) (Aa 7)) Af))) (Ac (Aa 3) Af))) (Ag Ax (Al Ak (Al Ak (Aa 2) (Aa 7)) Ae) Ae)))) Cq) (Ai (Es (Gm PySem.F.slot_list_append PySem.F.type_list_append Gs (Aa 5) (Ac (Aa 8) Af))) (Ai (An 9 I9.nd (Az (Fb T) (hr.mono (by decide)) rfl T.Ba.m T.Ba.k T.Ba.b pass0 (Ac (Aa 0) (Ac (Ag Ax (Ag Ax (Aa 4) (Ck Dt rfl T.Du Ds (Ac (Aa 2) Af))) (Aa 7)) Af)))) (Ai (An 10 I9.nd (Ft (Ej Af))) (Ai (Ea PassesOwn.never rfl (Fp rfl T.Ez (Ac Ae Af)) (Av 11 I9.nd) (Ai (Es (Gm PySem.F.slot_list_append PySem.F.type_list_append Gs (Aa 10) (Ac (Ag Dr (Aa 3) (Ag Bp (Aa 9) Ae)) Af))) (Am (An 9 I9.nd (Ag Dq (Aa 9) Ae))))) (Am (Es (Gm PySem.F.slot_list_append PySem.F.type_list_append Gs (Aa 6) (Ac (Hd Hr rfl T.Gy H9 (Ac (Aa 10) Af)) Af))))))))))) (Am (Bq (Ew (Ac (Hd Hr rfl T.Gy H9 (Ac (Aa 5) Af)) (Ac (Hd Hr rfl T.Gy H9 (Ac (Aa 6) Af)) Af)))))))))))
theorem ZLO (T:Txt K mg):MtO P w K mg base 1 "Course" "__init__" ZCQ Tw:=by
 refine Cp T.Rh.F ZBs λcdv A outer s H E hr=> ?_
 exact (Ai (Jr (Aa 2) (Fx rfl (Cm (Av 5 ZBs.nd) (Cm (Av 6 ZBs.nd) Gh)))) (Ai (Nm T.Ay.N T.Ay.cl T.K4 (Aa 0) (Aa 1)) (Ai (Nm T.Ay.N T.Ay.cl T.Xo (Aa 0) (Aa 5)) (Ai (Nm T.Ay.N T.Ay.cl T.Wk (Aa 0) (Ag Bp (Aa 3) (Al Ak (Aa 1) (Dc (v:=(.int 0)) rfl T.ZAb ⟨_,rfl⟩ (λ_ _=>rfl))))) (Ai (Nm T.Ay.N T.Ay.cl T.Qs (Aa 0) (Il rfl (Fv (dn:=(Aw U9).names) (N0:=Xj) (N:= ["cubes","ahead"]) (nt:=2) (caps:= [])) (ZGl rfl T.ZBu (Ac (Aa 4) (Ac (Aa 6) Af))) (λC s₀ H₀ ex=>(Fx rfl (Cm (Av 0 (show (["cubes","ahead"]:List Str).Nodup by decide +kernel)) (Cm (Av 1 (show (["cubes","ahead"]:List Str).Nodup by decide +kernel)) Gh)))) (S8 (Jm (Ep (by decide)) (Jm (Ep (by decide)) U6))) (λC s₀ H₀ ex=>Gb) (λC s₀ H₀ ex=>(Ag Ax (Aa 0) (Al Ak (Aa 1) Ae))))) (Ai (Nm T.Ay.N T.Ay.cl T.Rv (Aa 0) (Il rfl (Fv (dn:=(Aw U9).names) (N0:=Xj) (N:= ["ahead"]) (nt:=1) (caps:= [])) (Gp (Aa 6)) (λC s₀ H₀ ex=>(Av 0 (show (["ahead"]:List Str).Nodup by decide +kernel))) (Ep (by decide)) (λC s₀ H₀ ex=>Gb) (λC s₀ H₀ ex=>(Ft (Ag Ax (Cw (Hd (ZIi rfl) rfl T.ZE8 ZDS (Ac (Cw (ZPr (Aa 0) (ZN8 Ae) ZKh)) Af))) (Cw (Ej (Ac Ae Af)))))))) (Ai (Nm T.Ay.N T.Ay.cl T.Mt (Aa 0) (Ft (Ag ZHe (Ej (Ac Ik Af)) (Ck Dt rfl T.Du Ds (Ac (Aa 5) Af))))) (Am (Nm T.Ay.N T.Ay.cl T.Y6 (Aa 0) (Ft (Ej Af)))))))))))
theorem ZHS (T:Txt K mg):MtO P w K mg base 1 "Course" "send" ZBH R4:=by
 refine Cp T.Ni.F ZNp λcdv A outer s H E hr=> ?_
 exact (Am (Bx (Bt (Eg hr.units) (Aa 2) Ae (nomark _)) (Am (Wn (G9 T.Ay.N T.Ay.cl T.Qs (Aa 0)) (Aa 1) (Aa 3) T7)) (Am (Wn (Al Ak (G9 T.Ay.N T.Ay.cl T.Rv (Aa 0)) (Aa 1)) (Ag Hk (Aa 2) Ae) (Aa 3) T7))))
theorem ZF8 (T:Txt K mg):FnO P w K mg base 1 "number_of" ZAQ Rk:=by
 refine Cp T.Kq.F ZCc λcdv A outer s H E hr=> ?_
 exact (Ai (Ea PassesOwn.never rfl (Rp rfl T.Ob (Ac (Al Ak (Aa 0) (Dc (v:=(.int 1)) rfl T.Jd ⟨_,rfl⟩ (λ_ _=>rfl))) Af)) (Fx rfl (Cm (Av 2 ZCc.nd) (Cm (Av 3 ZCc.nd) Gh))) (Am (Bx (Bt (Eg hr.units) (Al Ak (Aa 3) (Dc (v:=(.int 1)) rfl T.ZCL ⟨_,rfl⟩ (λ_ _=>rfl))) (Aa 1) (nomark _)) (Am (Bq (Aa 2))) Cq))) (Am ZLR))
theorem ZGK (T:Txt K mg):FnO P w K mg base 2 "down_of" ZCd R9:=by
 refine Cp T.Kz.F ZH2 λcdv A outer s H E hr=> ?_
 exact (Ai (An 2 ZH2.nd (Al Ak (Al Ak (Al Ak (Aa 0) (Dc (v:=(.int 1)) rfl T.Jd ⟨_,rfl⟩ (λ_ _=>rfl))) (Aa 1)) (Dc (v:=(.int 2)) rfl T.ZAa ⟨_,rfl⟩ (λ_ _=>rfl)))) (Ai (Bx (Bt (Eg hr.units) (Aa 2) (Dc (v:=(.str "sea")) rfl T.ZBO ⟨_,rfl⟩ (λ_ _=>rfl)) (nomark _)) (Am (Bq Ik)) Cq) (Am (Bq (Az (ZF8 T) (hr.mono (by decide)) rfl T.Kq.m T.Kq.k T.Kq.b pass0 (Ac (Aa 0) (Ac (Aa 2) Af)))))))
theorem ZG4 (T:Txt K mg):MtO P w K mg base 3 "Course" "send_down" ZBV R8:=by
 refine Cp T.Nb.F ZDR λcdv A outer s H E hr=> ?_
 exact (Ai (An 3 ZDR.nd (Az (ZGK T) (hr.mono (by decide)) rfl T.Kz.m T.Kz.k T.Kz.b pass0 (Ac (G9 T.Ay.N T.Ay.cl T.K4 (Aa 0)) (Ac (Aa 1) Af)))) (Am (Bx (Bt Rj (Aa 3) Ik (nomark _)) (Am (Es (O9 T.Ay.N T.Ay.cl T.Ni.me (ZHS T) (hr.mono (by decide)) T.Ni.b pass0 (Aa 0) (Ac (Aa 3) (Ac (Al Ak (Al Ak (Al Ak (G9 T.Ay.N T.Ay.cl T.K4 (Aa 0)) (Dc (v:=(.int 1)) rfl T.Jd ⟨_,rfl⟩ (λ_ _=>rfl))) (Aa 1)) (Dc (v:=(.int 3)) rfl T.Uu ⟨_,rfl⟩ (λ_ _=>rfl))) (Ac (Aa 2) Af)))))) Cq)))
theorem ZIt (T:Txt K mg):FnO P w K mg base 1 "opened" Za Y4:=by
 refine Cp T.Qp.F Ld λcdv A outer s H E hr=> ?_
 exact (Ai (An 2 Ld.nd Ae) (Ai (An 3 Ld.nd Ae) (Ai (Ea PassesOwn.never rfl (Gp (Aa 0)) (Fx rfl (Cm (Av 4 Ld.nd) (Cm (Av 5 Ld.nd) (Cm (Av 6 Ld.nd) Gh)))) (Ai (An 7 Ld.nd (Ck (ZMf rfl) rfl T.ZDq ZC9 (Ac Ae (Ac (Ck (Us rfl) rfl T.Rt Su (Ac (Aa 5) (Ac (Ag Hk (Aa 1) (Aa 4)) Af))) Af)))) (Am (Bx (Bt (Eg hr.units) (Aa 6) Gf (nomark _)) (Am (ZEg 2 Ld.nd (Aa 7) T7)) (Am (ZEg 3 Ld.nd (Aa 7) T7)))))) (Am (Bq (Ew (Ac (Aa 2) (Ac (Aa 3) (Ac (Ag Hk (Ag Hk (Aa 1) (Aa 2)) (Aa 3)) Af)))))))))
theorem ZKx (T:Txt K mg):FnO P w K mg base 1 "stairs_at" ZBl Yi:=by
 refine Cp T.Qc.F S6 λcdv A outer s H E hr=> ?_
 exact (Ai (An 2 S6.nd (Ew Af)) (Ai (Ea PassesOwn.never rfl (Gp (Aa 0)) (Fx rfl (Cm (Av 3 S6.nd) (Cm (Av 4 S6.nd) Gh))) (Am (Bx (Bt o_le (Aa 3) (Aa 1) (nomark _)) (Am (An 2 S6.nd (Aa 4))) Cq))) (Am (Bq (Aa 2)))))
theorem ZLc (T:Txt K mg):MtO P w K mg base 4 "Course" "go_basin" ZB7 Uy:=by
 refine Cp T.U0.F M9 λcdv A outer s H E hr=> ?_
 exact (Ai (An 2 M9.nd (Al Ak (Al Ak (G9 T.Ay.N T.Ay.cl T.K4 (Aa 0)) (Dc (v:=(.int 1)) rfl T.Jd ⟨_,rfl⟩ (λ_ _=>rfl))) (Aa 1))) (Ai (An 3 M9.nd (Al Ak (G9 T.Ay.N T.Ay.cl T.Qs (Aa 0)) (Aa 1))) (Ai (Jr (Az (ZIt T) (hr.mono (by decide)) rfl T.Qp.m T.Qp.k T.Qp.b pass0 (Ac (Az (ZKx T) (hr.mono (by decide)) rfl T.Qc.m T.Qc.k T.Qc.b pass0 (Ac (Al Ak (Aa 2) (Dc (v:=(.int 5)) rfl T.ZBX ⟨_,rfl⟩ (λ_ _=>rfl))) (Ac (G9 T.Ay.N T.Ay.cl T.Wk (Aa 0)) Af))) (Ac (Ag Ax (Al Ak (G9 T.Ay.N T.Ay.cl T.Xo (Aa 0)) (Aa 1)) (Aa 3)) Af))) (Fx rfl (Cm (Av 4 M9.nd) (Cm (Av 5 M9.nd) (Cm (Av 6 M9.nd) Gh))))) (Ai (An 7 M9.nd (Ck (Us rfl) rfl T.Rt Su (Ac (Aa 6) (Ac (Al Ak (Aa 2) (Dc (v:=(.int 4)) rfl T.ZBZ ⟨_,rfl⟩ (λ_ _=>rfl))) Af)))) (Ai (An 8 M9.nd (Ag Hk (Aa 6) (Aa 7))) (Ai (Jr (Ew (Ac (Aa 3) (Ac Ae (Ac (Aa 8) (Ac (Aa 4) (Ac (Aa 5) (Ac (Aa 7) Af))))))) (Xx (G9 T.Ay.N T.Ay.cl T.Mt (Aa 0)) (Aa 1))) (Ai (Es (O9 T.Ay.N T.Ay.cl T.Nb.me (ZG4 T) (hr.mono (by decide)) T.Nb.b pass0 (Aa 0) (Ac (Aa 1) (Ac (Ag Ax (Aa 4) (Aa 8)) Af)))) (Am (Bx (Bt Rj (Al Ak (Aa 2) (Dc (v:=(.int 6)) rfl T.Sg ⟨_,rfl⟩ (λ_ _=>rfl))) Ik (nomark _)) (Am (Es (O9 T.Ay.N T.Ay.cl T.Ni.me (ZHS T) (hr.mono (by decide)) T.Ni.b pass0 (Aa 0) (Ac (Az (ZF8 T) (hr.mono (by decide)) rfl T.Kq.m T.Kq.k T.Kq.b pass0 (Ac (G9 T.Ay.N T.Ay.cl T.K4 (Aa 0)) (Ac (Al Ak (Al Ak (Aa 2) (Dc (v:=(.int 6)) rfl T.Sg ⟨_,rfl⟩ (λ_ _=>rfl))) (Dc (v:=(.int 0)) rfl T.ZBN ⟨_,rfl⟩ (λ_ _=>rfl))) Af))) (Ac (Al Ak (Al Ak (Aa 2) (Dc (v:=(.int 6)) rfl T.Sg ⟨_,rfl⟩ (λ_ _=>rfl))) (Dc (v:=(.int 1)) rfl T.ZAn ⟨_,rfl⟩ (λ_ _=>rfl))) (Ac (Aa 5) Af)))))) Cq)))))))))
theorem ZGh (T:Txt K mg):FnO P w K mg base 1 "passed" Yq Q9:=by
 refine Cp T.Kw.F V6 λcdv A outer s H E hr=> ?_
 exact (Ai (Mj 2 rfl V6.nd (Fv (dn:=(Aw Vk).names) (N0:=ZBM) (N:= ["row","take"]) (nt:=2) (caps:= [])) (ZGl rfl T.ZBu (Ac (Aa 0) (Ac (Aa 1) Af))) (λC s₀ H₀ ex=>(Fx rfl (Cm (Av 0 (show (["row","take"]:List Str).Nodup by decide +kernel)) (Cm (Av 1 (show (["row","take"]:List Str).Nodup by decide +kernel)) Gh)))) (S8 (Jm (Ep (by decide)) (Jm (Ep (by decide)) U6))) (λC s₀ H₀ ex=>Gb) (λC s₀ H₀ ex=>(Ag Hk (Al Ak (Aa 0) (Dc (v:=(.int 1)) rfl T.ZCj ⟨_,rfl⟩ (λ_ _=>rfl))) (Aa 1)))) (Ai (Ea PassesOwn.never rfl (Rp rfl T.Ob (Ac (Aa 0) Af)) (Fx rfl (Cm (Av 4 V6.nd) (Cm (Av 3 V6.nd) Gh))) (Am (Bx (Bt Rj (Al Ak (Aa 3) (Dc (v:=(.int 0)) rfl T.Ot ⟨_,rfl⟩ (λ_ _=>rfl))) Ik (nomark _)) (Am (Wn (Aa 2) (Al Ak (Aa 3) (Dc (v:=(.int 0)) rfl T.Ot ⟨_,rfl⟩ (λ_ _=>rfl))) (Al Ak (Aa 2) (Aa 4)) T7)) Cq))) (Am (Bq (Aa 2)))))
theorem ZIN (T:Txt K mg):FnO P w K mg base 3 "down_in_reach" ZAW S7:=by
 refine Cp T.Kc.F ZAe λcdv A outer s H E hr=> ?_
 exact (Ai (An 2 ZAe.nd (Al Ak (Aa 0) (Dc (v:=(.int 1)) rfl T.Jd ⟨_,rfl⟩ (λ_ _=>rfl)))) (Ai (An 3 ZAe.nd (Az (ZGK T) (hr.mono (by decide)) rfl T.Kz.m T.Kz.k T.Kz.b pass0 (Ac (Aa 0) (Ac (Aa 1) Af)))) (Ai (Bx (Je (Ls (Bt o_is (Aa 3) Ik (nomark _)) (Mg (Bt Qe (Al Ak (Al Ak (Aa 2) (Aa 1)) (Dc (v:=(.int 3)) rfl T.Uu ⟨_,rfl⟩ (λ_ _=>rfl))) Ae (nomark _))))) (Am (Bq Ik)) Cq) (Ai (Bx (Je (Ls (Bt (Eg hr.units) (Al Ak (Al Ak (Aa 2) (Aa 1)) (Dc (v:=(.int 0)) rfl T.Oo ⟨_,rfl⟩ (λ_ _=>rfl))) Gf (nomark _)) (Mg (Bt (Eg hr.units) (Al Ak (Al Ak (Aa 2) (Aa 3)) (Dc (v:=(.int 0)) rfl T.Oo ⟨_,rfl⟩ (λ_ _=>rfl))) Gf (nomark _))))) (Am (Bq Ik)) Cq) (Am (Bq (Aa 3)))))))
theorem ZPH (T:Txt K mg):FnO P w K mg base 4 "reach_rows" ZAV V2:=by
 refine Cp T.Pk.F Od λcdv A outer s H E hr=> ?_
 exact (Ai (An 3 Od.nd (Ft (Ej Af))) (Ai (Ea PassesOwn.never rfl (Gp (Aa 1)) (Av 4 Od.nd) (Ai (An 5 Od.nd (Al Ak (Al Ak (Aa 0) (Dc (v:=(.int 1)) rfl T.Jd ⟨_,rfl⟩ (λ_ _=>rfl))) (Aa 4))) (Ai (An 6 Od.nd (Az (ZIN T) (hr.mono (by decide)) rfl T.Kc.m T.Kc.k T.Kc.b pass0 (Ac (Aa 0) (Ac (Aa 4) Af)))) (Ai (An 7 Od.nd (ZNm (Bt o_is (Aa 6) Ik (nomark _)) Ik (Gm PySem.F.slot_list_index PySem.F.type_list_index ZLW (Aa 1) (Ac (Aa 6) Af)))) (Am (Bx (Bt (Eg hr.units) (Al Ak (Aa 5) (Dc (v:=(.int 0)) rfl T.Oo ⟨_,rfl⟩ (λ_ _=>rfl))) Gf (nomark _)) (Am (Es (Gm PySem.F.slot_list_append PySem.F.type_list_append Gs (Aa 3) (Ac (Ew (Ac (Aa 7) (Ac (Al Ak (Aa 2) (Aa 4)) (Ac (Al Ak (Aa 5) (Dc (v:=(.int 4)) rfl T.Yo ⟨_,rfl⟩ (λ_ _=>rfl))) (Ac (Al Ak (Aa 5) (Dc (v:=(.int 5)) rfl T.ZAv ⟨_,rfl⟩ (λ_ _=>rfl))) Af))))) Af)))) (Am (Es (Gm PySem.F.slot_list_append PySem.F.type_list_append Gs (Aa 3) (Ac (Ew (Ac (Aa 7) (Ac (Al Ak (Aa 2) (Aa 4)) (Ac Ae (Ac Ae Af))))) Af)))))))))) (Am (Bq (Aa 3)))))
theorem ZOf (T:Txt K mg):FnO P w K mg base 1 "served" ZAw V4:=by
 refine Cp T.Pr.F ZET λcdv A outer s H E hr=> ?_
 exact (Ai (An 1 ZET.nd (Cw (Ck ZMP rfl T.ZLE ZOr (Ac (Cw (Il rfl (Fv (dn:=(Aw R7).names) (N0:=Xc) (N:= ["number","row"]) (nt:=2) (caps:= [])) (Rp rfl T.Ob (Ac (Aa 0) Af)) (λC s₀ H₀ ex=>(Fx rfl (Cm (Av 0 (show (["number","row"]:List Str).Nodup by decide +kernel)) (Cm (Av 1 (show (["number","row"]:List Str).Nodup by decide +kernel)) Gh)))) (S8 (Jm (Ep (by decide)) (Jm (Ep (by decide)) U6))) (λC s₀ H₀ ex=>Gb) (λC s₀ H₀ ex=>(Ew (Ac (Al Ak (Aa 1) (Dc (v:=(.int 3)) rfl T.ZAZ ⟨_,rfl⟩ (λ_ _=>rfl))) (Ac (Aa 0) Af)))))) Af)))) (Am (Bq (Il rfl (Fv (dn:=(Aw R7).names) (N0:=Xc) (N:= ["rank","number"]) (nt:=2) (caps:= [])) (Gp (Aa 1)) (λC s₀ H₀ ex=>(Fx rfl (Cm (Av 0 (show (["rank","number"]:List Str).Nodup by decide +kernel)) (Cm (Av 1 (show (["rank","number"]:List Str).Nodup by decide +kernel)) Gh)))) (S8 (Jm (Ep (by decide)) (Jm (Ep (by decide)) U6))) (λC s₀ H₀ ex=>Gb) (λC s₀ H₀ ex=>(Aa 1))))))
theorem ZOW (T:Txt K mg):FnO P w K mg base 1 "way_down" Ys Xu:=by
 refine Cp T.Qi.F V7 λcdv A outer s H E hr=> ?_
 exact (Ai (An 2 V7.nd (Ft (Ej (Ac (Aa 1) Af)))) (Ai (An 3 V7.nd (Al Ak (Al Ak (Aa 0) (Aa 1)) (Dc (v:=(.int 0)) rfl T.Ot ⟨_,rfl⟩ (λ_ _=>rfl)))) (Ai (ZKG fuel PassesOwn.never (Bt Rj (Aa 3) Ik (nomark _)) (Ai (Es (Gm PySem.F.slot_list_append PySem.F.type_list_append Gs (Aa 2) (Ac (Aa 3) Af))) (Am (An 3 V7.nd (Al Ak (Al Ak (Aa 0) (Aa 3)) (Dc (v:=(.int 0)) rfl T.Ot ⟨_,rfl⟩ (λ_ _=>rfl))))))) (Am (Bq (Aa 2))))))
theorem ZMF (T:Txt K mg):FnO P w K mg base 2 "shares" Yw V3:=by
 refine Cp T.Ph.F O2 λcdv A outer s H E hr=> ?_
 exact (Ai (An 1 O2.nd (Ft (Ag ZHe (Ej (Ac Ae Af)) (Ck Dt rfl T.Du Ds (Ac (Aa 0) Af))))) (Ai (An 2 O2.nd (Ft (Az (ZGh T) (hr.mono (by decide)) rfl T.Kw.m T.Kw.k T.Kw.b pass0 (Ac (Aa 0) (Ac (Aa 1) Af))))) (Ai (Ea PassesOwn.never rfl (Gp (Cw (Az (ZOf T) (hr.mono (by decide)) rfl T.Pr.m T.Pr.k T.Pr.b pass0 (Ac (Aa 0) Af)))) (Av 3 O2.nd) (Ai (An 4 O2.nd (Cw (Az (ZOW T) (hr.mono (by decide)) rfl T.Qi.m T.Qi.k T.Qi.b pass0 (Ac (Aa 0) (Ac (Aa 3) Af))))) (Ai (An 5 O2.nd (Ck (Us rfl) rfl T.Rt Su (Ac (Al Ak (Al Ak (Aa 0) (Aa 3)) (Dc (v:=(.int 2)) rfl T.Z8 ⟨_,rfl⟩ (λ_ _=>rfl))) (Ac (Ck (ZL9 rfl) rfl T.Rt Su (Ac (Cw (Il rfl (Fv (dn:=(Aw Yh).names) (N0:=ZB9) (N:= ["below","passing"]) (nt:=1) (caps:= [2])) (Gp (Aa 4)) (λC s₀ H₀ ex=>(Av 0 (show (["below","passing"]:List Str).Nodup by decide +kernel))) (Ep (by decide)) (λC s₀ H₀ ex=>Gb) (λC s₀ H₀ ex=>(Al Ak (Aa 1) (Aa 0))))) Af)) Af)))) (Ai (Jr (Aa 5) (Xx (Aa 1) (Aa 3))) (Am (Ea PassesOwn.never rfl (Gp (Aa 4)) (Av 6 O2.nd) (Am (Wn (Aa 2) (Aa 6) (Aa 5) ZKB)))))))) (Am (Bq (Aa 1))))))
theorem ZLB (T:Txt K mg):MtO P w K mg base 5 "Course" "go_reach" ZC3 Ug:=by
 refine Cp T.Ry.F Qv λcdv A outer s H E hr=> ?_
 exact (Ai (An 2 Qv.nd (Cw (Az (ZPH T) (hr.mono (by decide)) rfl T.Pk.m T.Pk.k T.Pk.b pass0 (Ac (G9 T.Ay.N T.Ay.cl T.K4 (Aa 0)) (Ac (Aa 1) (Ac (G9 T.Ay.N T.Ay.cl T.Qs (Aa 0)) Af)))))) (Ai (An 3 Qv.nd (Cw (Az (ZMF T) (hr.mono (by decide)) rfl T.Ph.m T.Ph.k T.Ph.b pass0 (Ac (Aa 2) Af)))) (Ai (Ea PassesOwn.never rfl (ZM6 rfl T.ZBu (Ac (Aa 1) (Ac (Aa 3) (Ac (Cw (Az (ZGh T) (hr.mono (by decide)) rfl T.Kw.m T.Kw.k T.Kw.b pass0 (Ac (Aa 2) (Ac (Aa 3) Af)))) Af)))) (Fx rfl (Cm (Av 4 Qv.nd) (Cm (Av 5 Qv.nd) (Cm (Av 6 Qv.nd) Gh)))) (Ai (Jr (Ew (Ac (Ag Ax (Aa 5) (Aa 6)) (Ac (Aa 5) (Ac Ae (Ac (Aa 6) (Ac Ae (Ac Ae Af))))))) (Xx (G9 T.Ay.N T.Ay.cl T.Mt (Aa 0)) (Aa 4))) (Am (Bx (Bt (Eg hr.units) (Aa 4) (Al Ak (Aa 1) (Zi Z5 Ae)) (nomark _)) (Am (Es (O9 T.Ay.N T.Ay.cl T.Nb.me (ZG4 T) (hr.mono (by decide)) T.Nb.b pass0 (Aa 0) (Ac (Aa 4) (Ac (Aa 6) Af))))) Cq)))) (Am (Es (Gm PySem.F.slot_list_append PySem.F.type_list_append Gs (G9 T.Ay.N T.Ay.cl T.Y6 (Aa 0)) (Ac (Ft (Ew (Ac (Aa 1) (Ac (Aa 2) Af)))) Af)))))))
theorem ZL0 (T:Txt K mg):FnO P w K mg base 4 "lasts_of_reaches" Zu Vj:=by
 refine Cp T.Oc.F Wc λcdv A outer s H E hr=> ?_
 exact (Ai (An 1 Wc.nd (Ft (ZKY rfl rfl T.ZE8 rfl T.Ez (Ac (Ck Dt rfl T.Du Ds (Ac (Al Ak (Aa 0) (Dc (v:=(.int 1)) rfl T.Jd ⟨_,rfl⟩ (λ_ _=>rfl))) Af)) Af)))) (Ai (Ea PassesOwn.never rfl (ZOU rfl T.Ez (Ac (Ag Hk (Ck Dt rfl T.Du Ds (Ac (Al Ak (Aa 0) (Dc (v:=(.int 1)) rfl T.Jd ⟨_,rfl⟩ (λ_ _=>rfl))) Af)) Ae) (Ac (Zi Z5 Ae) (Ac (Zi Z5 Ae) Af)))) (Av 2 Wc.nd) (Ai (An 3 Wc.nd (Az (ZIN T) (hr.mono (by decide)) rfl T.Kc.m T.Kc.k T.Kc.b pass0 (Ac (Aa 0) (Ac (Aa 2) Af)))) (Am (Bx (Bt Rj (Aa 3) Ik (nomark _)) (Am (Jr (Al Ak (Aa 1) (Aa 3)) (Xx (Aa 1) (Aa 2)))) Cq)))) (Am (Bq (Aa 1)))))
theorem ZJi (T:Txt K mg):MtO P w K mg base 6 "Course" "go" ZBP Wi:=by
 refine Cp T.Ss.F V5 λcdv A outer s H E hr=> ?_
 exact (Ai (An 1 V5.nd (Cw (Az (ZL0 T) (hr.mono (by decide)) rfl T.Oc.m T.Oc.k T.Oc.b pass0 (Ac (G9 T.Ay.N T.Ay.cl T.K4 (Aa 0)) Af)))) (Am (Ea PassesOwn.never rfl (Rp rfl T.Ob (Ac (Aa 1) Af)) (Fx rfl (Cm (Av 2 V5.nd) (Cm (Av 3 V5.nd) Gh))) (Am (Bx (Bt (Eg hr.units) (Al Ak (Al Ak (Al Ak (G9 T.Ay.N T.Ay.cl T.K4 (Aa 0)) (Dc (v:=(.int 1)) rfl T.Jd ⟨_,rfl⟩ (λ_ _=>rfl))) (Aa 2)) (Dc (v:=(.int 0)) rfl T.Oo ⟨_,rfl⟩ (λ_ _=>rfl))) Gf (nomark _)) (Am (Es (O9 T.Ay.N T.Ay.cl T.U0.me (ZLc T) (hr.mono (by decide)) T.U0.b pass0 (Aa 0) (Ac (Aa 2) Af)))) (Am (Bx (Bt (Eg hr.units) (Aa 3) (Aa 2) (nomark _)) (Am (Es (O9 T.Ay.N T.Ay.cl T.Ry.me (ZLB T) (hr.mono (by decide)) T.Ry.b pass0 (Aa 0) (Ac (Cw (Il rfl (Fv (dn:=(Aw W9).names) (N0:=ZA9) (N:= ["member","end","number"]) (nt:=2) (caps:= [2])) (Rp rfl T.Ob (Ac (Aa 1) Af)) (λC s₀ H₀ ex=>(Fx rfl (Cm (Av 0 (show (["member","end","number"]:List Str).Nodup by decide +kernel)) (Cm (Av 1 (show (["member","end","number"]:List Str).Nodup by decide +kernel)) Gh)))) (S8 (Jm (Ep (by decide)) (Jm (Ep (by decide)) U6))) (λC s₀ H₀ ex=>(ZPM (Bt (Eg hr.units) (Aa 1) (Aa 2) (nomark _)))) (λC s₀ H₀ ex=>(Aa 0)))) Af)))) Cq)))))))
theorem ZN7 (T:Txt K mg):MtO P w K mg base 1 "Course" "state_behind" ZBr Yc:=by
 refine Cp T.Te.F ZND λcdv A outer s H E hr=> ?_
 exact (Am (Bq (Ew (Ac (Hd Hr rfl T.Gy H9 (Ac (Cw (Il rfl (Fv (dn:=(Aw R3).names) (N0:=Y7) (N:= ["row"]) (nt:=1) (caps:= [])) (Gp (G9 T.Ay.N T.Ay.cl T.Mt (Aa 0))) (λC s₀ H₀ ex=>(Av 0 (show (["row"]:List Str).Nodup by decide +kernel))) (Ep (by decide)) (λC s₀ H₀ ex=>Gb) (λC s₀ H₀ ex=>(Al Ak (Aa 0) (Dc (v:=(.int 5)) rfl T.ZCE ⟨_,rfl⟩ (λ_ _=>rfl)))))) Af)) (Ac (Hd Hr rfl T.Gy H9 (Ac (Cw (Il rfl (Fv (dn:=(Aw R3).names) (N0:=Y7) (N:= ["ahead"]) (nt:=1) (caps:= [])) (Gp (G9 T.Ay.N T.Ay.cl T.Rv (Aa 0))) (λC s₀ H₀ ex=>(Av 0 (show (["ahead"]:List Str).Nodup by decide +kernel))) (Ep (by decide)) (λC s₀ H₀ ex=>Gb) (λC s₀ H₀ ex=>(Hd Hr rfl T.Gy H9 (Ac (Aa 0) Af))))) Af)) Af)))))
theorem ZNq (T:Txt K mg):FnO P w K mg base 7 "turn" Zq Xk:=by
 refine Cp T.Qj.F ZHw λcdv A outer s H E hr=> ?_
 exact (Ai (An 4 ZHw.nd (ZNt T.Ay.N T.Ay.mK (ZLO T) (hr.mono (by decide)) rfl T.Ay.g T.Rh.b pass0 (Ac (Aa 0) (Ac (Aa 1) (Ac (Aa 2) (Ac (Aa 3) Af)))))) (Ai (Es (ZH8 T.Ay.N T.Ay.cl T.Ss.me (ZJi T) (hr.mono (by decide)) T.Ss.b pass0 (Aa 4))) (Am (Bq (Ew (Ac (Hd Hr rfl T.Gy H9 (Ac (G9 T.Ay.N T.Ay.cl T.Mt (Aa 4)) Af)) (Ac (ZH8 T.Ay.N T.Ay.cl T.Te.me (ZN7 T) (hr.mono (by decide)) T.Te.b pass0 (Aa 4)) Af)))))))
theorem ZII (T:Txt K mg):FnO P w K mg base 8 "run" ZBc Tu:=by
 refine Cp T.Kg.F R0 λcdv A outer s H E hr=> ?_
 exact (Ai (An 4 R0.nd (Ft (Ej Af))) (Ai (Ea PassesOwn.never rfl (ZN4 rfl T.Ob (Ac (Aa 3) Af) (Aa 2)) (Fx rfl (Cm (Av 5 R0.nd) (Cm (Av 6 R0.nd) Gh))) (Ai (Jr (Az (ZNq T) (hr.mono (by decide)) rfl T.Qj.m T.Qj.k T.Qj.b pass0 (Ac (Aa 0) (Ac (Aa 1) (Ac (Aa 5) (Ac (Aa 6) Af))))) (Fx rfl (Cm (Av 7 R0.nd) (Cm (Av 1 R0.nd) Gh)))) (Am (Es (Gm PySem.F.slot_list_append PySem.F.type_list_append Gs (Aa 4) (Ac (Aa 7) Af)))))) (Am (Bq (Ew (Ac (Aa 4) (Ac (Aa 1) Af)))))))
theorem ZNg (T:Txt K mg):FnO P w K mg base 9 "law" Z1 Nq:=by
 refine Cp T.Sy.F H8 λcdv A outer s H E hr=> ?_
 exact (Ai (An 1 H8.nd (Az (ZMw T) (hr.mono (by decide)) rfl T.Ou.m T.Ou.k T.Ou.b pass0 (Ac (Aa 0) Af))) (Ai (An 2 H8.nd (Az (ZIg T) (hr.mono (by decide)) rfl T.Pz.m T.Pz.k T.Pz.b pass0 (Ac (Aa 0) (Ac (Aa 1) Af)))) (Ai (An 3 H8.nd (Cw (Az (ZNY T) (hr.mono (by decide)) rfl T.Ql.m T.Ql.k T.Ql.b pass0 (Ac (Aa 0) (Ac (Aa 1) (Ac (Ag Bp (Az (Fb T) (hr.mono (by decide)) rfl T.Ba.m T.Ba.k T.Ba.b pass0 (Ac (Aa 0) (Ac Ae Af))) Ae) Af)))))) (Ai (Jr (Cw (Az (ZMr T) (hr.mono (by decide)) rfl T.Og.m T.Og.k T.Og.b pass0 (Ac (Aa 0) (Ac (Aa 1) (Ac (Aa 2) (Ac (Aa 3) Af)))))) (Fx rfl (Cm (Av 4 H8.nd) (Cm (Av 5 H8.nd) Gh)))) (Ai (Jr (Cw (Az (ZII T) (hr.mono (by decide)) rfl T.Kg.m T.Kg.k T.Kg.b pass0 (Ac (Aa 1) (Ac (Aa 2) (Ac (Az (ZFY T) (hr.mono (by decide)) rfl T.K5.m T.K5.k T.K5.b pass0 (Ac (Aa 0) Af)) (Ac (Aa 3) Af)))))) (Fx rfl (Cm (Av 6 H8.nd) (Cm (Av 7 H8.nd) Gh)))) (Ai (Jr (Cw (Az (ZII T) (hr.mono (by decide)) rfl T.Kg.m T.Kg.k T.Kg.b pass0 (Ac (Aa 1) (Ac (Aa 4) (Ac (Az (ZFY T) (hr.mono (by decide)) rfl T.K5.m T.K5.k T.K5.b pass0 (Ac (Aa 0) Af)) (Ac (Aa 5) Af)))))) (Fx rfl (Cm (Av 8 H8.nd) (Cm (Av 9 H8.nd) Gh)))) (Ai (Bx (Je (Ls (Bt (Xb hr.units) (Ck Dt rfl T.Du Ds (Ac (Aa 6) Af)) (Ck Dt rfl T.Du Ds (Ac (Aa 3) Af)) (nomark _)) (Mg (Bt (Xb hr.units) (Ck Dt rfl T.Du Ds (Ac (Aa 8) Af)) (Ck Dt rfl T.Du Ds (Ac (Aa 3) Af)) (nomark _))))) (Am (Bq Ji)) Cq) (Ai (An 10 H8.nd Ae) (Ai (An 11 H8.nd Ae) (Ai (Ea PassesOwn.never rfl (Fp rfl T.Ez (Ac (Ck Dt rfl T.Du Ds (Ac (Aa 3) Af)) Af)) (Av 12 H8.nd) (Ai (Bx (Je (Ls (Qu (Jv (Az (ZGQ T) (hr.mono (by decide)) rfl T.Lf.m T.Lf.k T.Lf.b pass0 (Ac (Al Ak (Aa 6) (Aa 12)) (Ac (Ck Dt rfl T.Du Ds (Ac (Al Ak (Aa 1) Ae) Af)) Af))))) (Mg (Qu (Jv (Az (ZGQ T) (hr.mono (by decide)) rfl T.Lf.m T.Lf.k T.Lf.b pass0 (Ac (Al Ak (Aa 8) (Aa 12)) (Ac (Ck Dt rfl T.Du Ds (Ac (Al Ak (Aa 1) Ae) Af)) Af)))))))) (Am (Bq Ji)) Cq) (Ai (An 10 H8.nd (Ag Ax (Aa 10) (Az (ZHW T) (hr.mono (by decide)) rfl T.Kr.m T.Kr.k T.Kr.b pass0 (Ac (Aa 1) (Ac (Al Ak (Aa 6) (Aa 12)) Af))))) (Ai (An 11 H8.nd (Ag Ax (Aa 11) (Az (ZHW T) (hr.mono (by decide)) rfl T.Kr.m T.Kr.k T.Kr.b pass0 (Ac (Aa 1) (Ac (Al Ak (Aa 8) (Aa 12)) Af))))) (Am (Bx (Je (Ls (Qu (Jv (Az (ZKn T) (hr.mono (by decide)) rfl T.Ow.m T.Ow.k T.Ow.b pass0 (Ac (Aa 1) (Ac (Al Ak (Aa 6) (Aa 12)) (Ac (Al Ak (Aa 8) (Aa 12)) Af)))))) (Mg (Bt Jc (Aa 11) (Aa 10) (nomark _))))) (Am (Bq Ji)) Cq)))))) (Ai (Ea PassesOwn.never rfl (Fp rfl T.Ez (Ac (Ck Dt rfl T.Du Ds (Ac (Al Ak (Aa 1) Ae) Af)) Af)) (Av 12 H8.nd) (Am (Ea PassesOwn.never rfl (Fp rfl T.Ez (Ac Ae Af)) (Av 13 H8.nd) (Am (Bx (Bt Jc (Al Ak (Al Ak (Al Ak (Aa 9) Ae) (Aa 12)) (Aa 13)) (Al Ak (Al Ak (Al Ak (Aa 7) Ae) (Aa 12)) (Aa 13)) (nomark _)) (Am (Bq Ji)) Cq))))) (Am (Bq Ji)))))))))))))
end
noncomputable def asks:List Ask:= [.cl "Course",.fn "_law_off" ZCs,.fn "_law_tape" Yr,.fn "_law_cell_at" ZAC,.fn "_law_amount" ZBt,.fn "_law_unit" ZCR,.fn "_law_floods" Tf,.fn "_law_pumped" ZAj,.fn "_law_steps" Yz,.fn "_law_year" ZB5,.fn "_law_rule" Sq,.fn "_law_basin" Uq,.fn "_law_name" ZCH,.fn "_law_house" W5,.fn "_law_more" Ms,.fn "_law_no_less" ZBQ,.fn "_law_number" ZCw,.fn "_law_out" ZAh,.fn "_law_whole" ZAm,.fn "_law_page" Yg,.fn "_law_state" ZAS,.mt "Course" "__init__" "Course.__init__" U9,.mt "Course" "send" "Course.send" ZB4,.fn "number_of" ZCt,.fn "down_of" ZCi,.mt "Course" "send_down" "Course.send_down" ZBy,.fn "opened" Yp,.fn "stairs_at" ZBA,.mt "Course" "go_basin" "Course.go_basin" ZAg,.fn "passed" Vk,.fn "down_in_reach" ZCC,.fn "reach_rows" ZCz,.fn "served" R7,.fn "way_down" Zz,.fn "shares" Yh,.mt "Course" "go_reach" "Course.go_reach" Zg,.fn "lasts_of_reaches" ZAF,.mt "Course" "go" "Course.go" W9,.mt "Course" "state_behind" "Course.state_behind" R3,.fn "turn" Zv,.fn "run" ZB3,.fn "law" Iv,.no "Course" "came",.no "Course" "coming",.no "Course" "house",.no "Course" "levels",.no "Course" "page",.no "Course" "reaches",.no "Course" "year_turn",.z "all",.z "bool",.z "enumerate",.z "int",.z "isinstance",.z "len",.z "list",.z "max",.z "min",.z "range",.z "sorted",.z "tuple",.z "zip",.gi "BRIM" 4,.gi "DELAY" 3,.gi "DOWN" 2,.gi "KIND" 0,.gi "LIES" 5,.gi "NAME" 1,.gi "NEED" 4,.gi "PLACES" 1,.gi "PUMP" 6,.gi "PUMP_DELAY" 1,.gi "PUMP_TO" 0,.gi "RANK" 5,.gi "ROW_DOWN" 0,.gi "ROW_NEED" 2,.gi "ROW_RANK" 3,.gi "ROW_WATER" 1,.gi "RULE" 5,.gs "SEA" "sea",.gi "YEAR" 0]
theorem all_mk {l:PySem.W.OpenLaw} {w:World} {K:PySem.W.Frag} {h:Heap} {mg:Str->Option Value} {fa:Addr} (X:K.In h) (G:h.Ns mainGlobals mg) (hfa:mg "law"=some (.ref fa)) (S:AllSaid K asks):
  ∃fd:FuncData,(∀(s:Shared) (v:Value),BindsTo s fd ⟨[v],[]⟩ [("_law_script",v)])/\∀base:Heap,K.In base->base.Ns mainGlobals mg->FnOk l.prog w K mg base CX0 9 fa fd ["_law_script"] (lF K Nq):=by
 obtain ⟨Ay,Qy,Le,Ba,Fg,Gr,Ql,Qh,Py,Ky,Q3,Pq,Qf,Ou,Og,Ow,K5,Kr,Qg,Lf,Pz,Rh,Ni,Kq,Kz,Nb,Qp,Qc,U0,Kw,Kc,Pk,Pr,Qi,Ph,Ry,Oc,Ss,Te,Qj,Kg,Sy,Qs,Rv,K4,Xo,Mt,Y6,Wk,ZQG,ZQH,ZQI,ZQJ,ZQK,ZQL,ZQM,ZQN,ZQO,ZQP,ZQQ,ZQR,ZQS,ZBZ,Uu,ZAa,Oo,ZCE,ZCL,Yo,Jd,Sg,ZAn,ZBN,ZAv,Ot,Z8,ZAZ,ZCj,ZBX,ZBO,ZAb,_⟩:=S
 have T:Txt K mg:=⟨Di X G Qy (λ_ _ _ _ _ _ us hl=>match us,hl with | [_,_],_=>rfl),
  Di X G Le (λ_ _ _ _ _ _ us hl=>match us,hl with | [_],_=>rfl),
  Di X G Ba (λ_ _ _ _ _ _ us hl=>match us,hl with | [_,_],_=>rfl),
  Di X G Fg (λ_ _ _ _ _ _ us hl=>match us,hl with | [_,_],_=>rfl),
  Di X G Gr (λ_ _ _ _ _ _ us hl=>match us,hl with | [_],_=>rfl),
  Di X G Ql (λ_ _ _ _ _ _ us hl=>match us,hl with | [_,_,_],_=>rfl),
  Di X G Qh (λ_ _ _ _ _ _ us hl=>match us,hl with | [_],_=>rfl),
  Di X G Py (λ_ _ _ _ _ _ us hl=>match us,hl with | [_,_,_],_=>rfl),
  Di X G Ky (λ_ _ _ _ _ _ us hl=>match us,hl with | [_],_=>rfl),
  Di X G Q3 (λ_ _ _ _ _ _ us hl=>match us,hl with | [_,_,_,_],_=>rfl),
  Di X G Pq (λ_ _ _ _ _ _ us hl=>match us,hl with | [_,_,_,_,_],_=>rfl),
  Di X G Qf (λ_ _ _ _ _ _ us hl=>match us,hl with | [_,_,_],_=>rfl),
  Di X G Ou (λ_ _ _ _ _ _ us hl=>match us,hl with | [_],_=>rfl),
  Di X G Og (λ_ _ _ _ _ _ us hl=>match us,hl with | [_,_,_,_],_=>rfl),
  Di X G Ow (λ_ _ _ _ _ _ us hl=>match us,hl with | [_,_,_],_=>rfl),
  Di X G K5 (λ_ _ _ _ _ _ us hl=>match us,hl with | [_],_=>rfl),
  Di X G Kr (λ_ _ _ _ _ _ us hl=>match us,hl with | [_,_],_=>rfl),
  Di X G Qg (λ_ _ _ _ _ _ us hl=>match us,hl with | [_],_=>rfl),
  Di X G Lf (λ_ _ _ _ _ _ us hl=>match us,hl with | [_,_],_=>rfl),
  Di X G Pz (λ_ _ _ _ _ _ us hl=>match us,hl with | [_,_],_=>rfl),
  Np Rh (λ_ _ _ _ _ _ us hl=>match us,hl with | [_,_,_,_,_],_=>rfl),
  Np Ni (λ_ _ _ _ _ _ us hl=>match us,hl with | [_,_,_,_],_=>rfl),
  Di X G Kq (λ_ _ _ _ _ _ us hl=>match us,hl with | [_,_],_=>rfl),
  Di X G Kz (λ_ _ _ _ _ _ us hl=>match us,hl with | [_,_],_=>rfl),
  Np Nb (λ_ _ _ _ _ _ us hl=>match us,hl with | [_,_,_],_=>rfl),
  Di X G Qp (λ_ _ _ _ _ _ us hl=>match us,hl with | [_,_],_=>rfl),
  Di X G Qc (λ_ _ _ _ _ _ us hl=>match us,hl with | [_,_],_=>rfl),
  Np U0 (λ_ _ _ _ _ _ us hl=>match us,hl with | [_,_],_=>rfl),
  Di X G Kw (λ_ _ _ _ _ _ us hl=>match us,hl with | [_,_],_=>rfl),
  Di X G Kc (λ_ _ _ _ _ _ us hl=>match us,hl with | [_,_],_=>rfl),
  Di X G Pk (λ_ _ _ _ _ _ us hl=>match us,hl with | [_,_,_],_=>rfl),
  Di X G Pr (λ_ _ _ _ _ _ us hl=>match us,hl with | [_],_=>rfl),
  Di X G Qi (λ_ _ _ _ _ _ us hl=>match us,hl with | [_,_],_=>rfl),
  Di X G Ph (λ_ _ _ _ _ _ us hl=>match us,hl with | [_],_=>rfl),
  Np Ry (λ_ _ _ _ _ _ us hl=>match us,hl with | [_,_],_=>rfl),
  Di X G Oc (λ_ _ _ _ _ _ us hl=>match us,hl with | [_],_=>rfl),
  Np Ss (λ_ _ _ _ _ _ us hl=>match us,hl with | [_],_=>rfl),
  Np Te (λ_ _ _ _ _ _ us hl=>match us,hl with | [_],_=>rfl),
  Di X G Qj (λ_ _ _ _ _ _ us hl=>match us,hl with | [_,_,_,_],_=>rfl),
  Di X G Kg (λ_ _ _ _ _ _ us hl=>match us,hl with | [_,_,_,_],_=>rfl),
  Di X G Sy (λ_ _ _ _ _ _ us hl=>match us,hl with | [_],_=>rfl),
  ZJo X G Ay Rh,
  Qs,
  Rv,
  K4,
  Xo,
  Mt,
  Y6,
  Wk,
  PySem.W.mg_none_of X G ZQG,
  PySem.W.mg_none_of X G ZQH,
  PySem.W.mg_none_of X G ZQI,
  PySem.W.mg_none_of X G ZQJ,
  PySem.W.mg_none_of X G ZQK,
  PySem.W.mg_none_of X G ZQL,
  PySem.W.mg_none_of X G ZQM,
  PySem.W.mg_none_of X G ZQN,
  PySem.W.mg_none_of X G ZQO,
  PySem.W.mg_none_of X G ZQP,
  PySem.W.mg_none_of X G ZQQ,
  PySem.W.mg_none_of X G ZQR,
  PySem.W.mg_none_of X G ZQS,
  PySem.W.mg_of X G ZBZ,
  PySem.W.mg_of X G Uu,
  PySem.W.mg_of X G ZAa,
  PySem.W.mg_of X G Oo,
  PySem.W.mg_of X G ZCE,
  PySem.W.mg_of X G ZCL,
  PySem.W.mg_of X G Yo,
  PySem.W.mg_of X G Jd,
  PySem.W.mg_of X G Sg,
  PySem.W.mg_of X G ZAn,
  PySem.W.mg_of X G ZBN,
  PySem.W.mg_of X G ZAv,
  PySem.W.mg_of X G Ot,
  PySem.W.mg_of X G Z8,
  PySem.W.mg_of X G ZAZ,
  PySem.W.mg_of X G ZCj,
  PySem.W.mg_of X G ZBX,
  PySem.W.mg_of X G ZBO,
  PySem.W.mg_of X G ZAb⟩
 have eL:mg "law"=some (.ref (Bl K "law")):=PySem.W.mg_of X G Sy.1;obtain rfl:fa=Bl K "law":=by rw [hfa] at eL;cases eL;rfl
 exact ⟨_,λs v=>ZJD (Rb Sy.2),λbase _ _=>ZNg T⟩
theorem walk {l:PySem.W.OpenLaw} {q:Program} {loose:List Str} {XP:(Str->Option Value)->Heap->Prop} {YP:World->Heap->Prop} {d:DefRec} {K:World->PySem.W.Frag} (hn:l.most=some 63) (hdf:d.params.defaults= []) (HH:Holds)
  (hY:∀(w:World) (h:Heap),YP w h->(K w).In h)
  (F:∀(w:World) (mg:Str->Option Value) (fa:Addr) (h:Heap),(K w).In h->h.Ns mainGlobals mg->mg d.name=some (.ref fa)->
   ∃fd:FuncData,(∀(s:Shared) (u:Value),BindsTo s fd ⟨[u],[]⟩ [("_law_script",u)])/\∀base:Heap,(K w).In base->base.Ns mainGlobals mg->FnOk l.prog w (K w) mg base CX0 9 fa fd ["_law_script"] (lF (K w) Nq)):
  PySem.W.WalkO q loose XP YP l.row.toRowW d [] (λf vs=>PySem.call f vs):=
 L2.ZM7 (n:=63) (k:=9) (x:="_law_script") (CX:=λ_=>CX0) (sp:=λw=>lF (K w) Nq) hn (by decide) hdf ⟨rfl,by decide,by decide⟩ hY F
  (λw H a ns hl hO hS=>by
   obtain ⟨G,hG⟩:=HH ns hl;refine ⟨⟨K w,0,λ_=>0,H⟩,[],[.fl (ns.map D.int)],rfl,rfl,⟨rfl,λi j h=>absurd h (jM _),λi o h=>by simp at h,λi h=>absurd h (jM _)⟩,Reps.cons ⟨a,ns.map V.int,rfl,?_,Reps.ints ns⟩ Reps.nil,?_⟩
   ·rcases hS with (hS | hS) | hS
    ·rcases hO a with z | ⟨o,xs,z⟩
     ·rw [z] at hS;cases hS
     ·rw [z] at hS;cases hS
    ·exact .inl hS
    ·exact .inr hS
   ·rw [hG];exact λb v _ _ r=>r) λ_ _ _ _ _ z=>z
end Law
set_option maxRecDepth 100000
namespace Law
open PySem PySem.W L2 DL
abbrev rw_:OpenLaw:=PySem.Challenge.rw_sluiceway_k38_whole_more_water
abbrev pw:Program:=OpenLaw.prog PySem.Challenge.rw_sluiceway_k38_whole_more_water
def vw:Program:=view pw (zX 63)
theorem ZMb:∀w os,(ZAJ pw w os).map (λs=>(ZCr pw w s.abs,PySem.W.Fast.tw4187177175401517315 vw [] (PySem.W.Fast.tw5923862056798008813 pw.main.body) (XtOf rw_ vw) true s.abs,ZBC asks s.abs.heap))=some (true,openGood vw [],ZAY asks):=λw os=>by kernel_rfl
theorem ZD6:∀w,(openEnds treeTable pw w 100000).map (λs=>(openSeen vw [] (importedModules pw.main.body) (XtOf rw_ vw) true s,ZBC asks s.heap))=some (openGood vw [],ZAY asks):=ZIw (by kernel_rfl) (λs=>rfl) ZMb
theorem well:rw_.wellSaid=true:=ZPz (by kernel_rfl)
theorem hdef:defOf vw rw_.row.name=some (dOf Iv,[]):=by kernel_rfl
theorem hp:rw_.row.prog.theDef rw_.row.name=some ((dOf Iv).params,(dOf Iv).body,(dOf Iv).scope):=by kernel_rfl
theorem hk:kwWritten? (dOf Iv).params.kwonlyargs (dOf Iv).params.kw_defaults=some []:=by kernel_rfl
theorem hok:(chainsOk vw && opensWell rw_.row.prog && (frees rw_.row.toRowW && rw_.row.within.isEmpty))=true:=by kernel_rfl
theorem hdf:(dOf Iv).params.defaults= []:=by kernel_rfl
theorem hbare:rw_.row.prog.bare:=⟨rfl,rfl,rfl,rfl,rfl,by decide +kernel⟩
theorem hw:rw_.row.toRowW.promised:=by w_witness2
theorem walked:WalkO vw [] (XL vw []) (Stays rw_.prog 100000) rw_.row.toRowW (dOf Iv) [] λf vs=>PySem.call f vs:=
 walk (l:=rw_) (K:=λw=>S9 (K7 pw 100000 w)) rfl hdf holds (λw h Y=>Y.in) λw mg fa h KX G hmg=>all_mk KX G (show mg "law"=_ from hmg) (ZG1 (ZKi ZD6 w))
end Law
open PySem PySem.W PyProof.Rows DL
theorem PySem.Challenge.cw_sluiceway_k38_whole_more_water_holds : PySem.Challenge.rw_sluiceway_k38_whole_more_water.Holds := by
 refine holds_top (l:=Law.rw_) (q:=Law.vw) (loose:= []) (N:=100000) (see:=ZBC Law.asks) (val:=ZAY Law.asks) (d:=dOf Law.Iv) ?_ ?_ ?_ ?_ ?_ ?_ ?_ ?_ ?_ ?_
 ·exact Law.well
 ·exact Law.ZD6
 ·exact Law.hdef
 ·exact Law.hp
 ·exact Law.hk
 ·rfl
 ·exact Law.hok
 ·exact Law.hbare
 ·exact Law.hw
 ·exact Law.walked
