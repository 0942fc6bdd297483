import PyProof.Rows.All
import Wide.All
import OpenK.AllK
import Wide.FinOn
import Lean
import PyProof.EqAt
import PyProof.EqKinds
import PyProof.TupleCall
import PyProof.NeKinds
import PyProof.IsInstanceH
import PyProof.SumWalkG
import PyProof.ConsumeWalk
import PyProof.IsiNone
import PyProof.WalksMore
import PyProof.PlainList
import PyProof.CompFree
import KE.KIntText
import PyProof.DictTable
import PyProof.ExcInit
import PyProof.ExcClass2
import PyProof.ExcBaseAll.ValueError
import OpenK.KOwn
import PyProof.RulesAs
import PyProof.NsDelKeeps
import OpenK.KMore
import PyProof.TupleOps
import PyProof.FactsAll.tuple_2
import PyProof.Rows.SetFrom
import PyProof.Rows.SortWalk
import PySem.Challenge.RW_sluiceway_k71_what_pages_earn
set_option compiler.extract_closed false
set_option bootstrap.genMatcherCode false
set_option genSizeOf false
set_option Elab.async false
set_option linter.all false
set_option maxRecDepth 100000
open Option renaming some→xk,none→xy
open Bool renaming true→x0,false→xA
open List renaming getElem?_eq_getElem→zQ,getElem?_eq_some_iff→zJ,length_map→zX,mem_cons_of_mem→zV,map_cons→zK,mem_cons_self→zY,size_toArray→zj,getElem?_map→z0,mem_cons→zA,getElem?_set_ne→zE,getElem?_append_left→zG,drop_eq_getElem_cons→zH,mem_append_right→zL,getElem?_eq_none→zM,getElem?_append_right→zN,map_append→zO,replicate→zP,map_nil→zU,mem_of_getElem?→qZ,append_nil→qJ,mem_map→qX,find?_cons→qV,length_take→qK,getElem?_set_self→qz,drop_of_length_le→qj,eq_nil_of_length_eq_zero→qx,range→qw,length_append→qy,set→q0,forall_mem_cons→qA,mem_append→qB,getElem?_set→qC,getElem?_replicate→qD,lookup_cons→qE,getD_eq_getElem?_getD→qF,getElem?_eq_none_iff→qG,getElem?_take_of_lt→qH,nodup_cons→qM,length_set→qN,all_cons→qO,any_cons→qP,drop_zero→qS,length_drop→qT,length_cons→qU,take_length→jQ,zipIdx_cons→jZ,filterMap_cons→jJ,range_succ_eq_map→jY,drop_eq_nil_of_le→jq,length→jz,length_replicate→jj,all_eq_true→jv,getElem_mem→jw,mem_append_left→jy,forIn_cons→j0
open Nat renaming lt_of_lt_of_le→zW,le_refl→zq,le_trans→zk,ne_of_lt→zB,lt_irrefl→qQ,lt_succ_self→qY,ne_of_gt→qI,le_succ→jX,lt_succ_of_lt→jK,le_add_right→jk
open Int renaming emod_lt_of_pos→qL,emod_nonneg→jV
open Option renaming map_eq_some_iff→zD,isSome_iff_exists→jW
open Bool renaming false_ne_true→zw,and_eq_true→zC,and_eq_true_iff→q9
open Array renaming length_toList→qW,getElem?_toList→qR
open PySem.Heap renaming get?_push_of_some→zZ,lt_size→zx,get?_push_size→zy,SameBut→qk,size_push→q8,get?_update_self→jx
open PySem renaming Addr→j1,Around→j2,Expr→j3,FuncData→j4,NameKind→j5,Program→j6,Scope→j7,Shared→j8,Stmt→j9,Value→jA,World→jB,assignEach→jC,backTo→jD,binaryOp→jE,bootBuiltins→jF,compareOp→jG,importedModules→jH,letOwnedTupleGo→jI,mainGlobals→jL,model→jM,rawInt→jN,sliceBounds→jO,starEach→jP,treeTable→jR,wpAny→jS,wpAny_bind→jT,wpAny_callSpecial?_slot→jU,wpAny_call_entry→xQ,wpAny_field→xZ,wpAny_holding→xJ,wpAny_mono→xX,wpAny_newObj_type→xV,wpAny_passesOwn→xW,wpAny_pure→xK,wpAny_setField_rec→xY,wpAny_truthy_bool→xq
open PySem.W renaming Frag→xz,boot_heap→xj
set_option maxHeartbeats 0
noncomputable section
namespace _L
open PySem PySem.Spec PyProof.Rows
noncomputable def Eg(s:j9):Arguments:=match s with
 |.FunctionDef _ a _ _ _ _ _ _ _ _=>a
 |_=>{posonlyargs:=[],args:=[],vararg:=xy,kwonlyargs:=[],kw_defaults:=[],kwarg:=xy,defaults:=[]}
noncomputable def Df(s:j9):List j9:=match s with
 |.FunctionDef _ _ b _ _ _ _ _ _ _=>b
 |_=>[]
noncomputable def Am(s:j9):j7:=match s with
 |.FunctionDef _ _ _ _ _ _ sc _ _ _=>sc
 |_=>{kind:=.function,names:=[],isGenerator:=xA,isCoroutine:=xA}
end _L
namespace _D
open PySem PySem.W _L
variable{h:Heap}{C:j1}{m x q:Str}{st:j9}{mg:Str->Option jA}
noncomputable def Ha:List Obj->Nat->xz
 |[],_=>[]
 |o::r,n=>match o.cls,o.data with
  |.none,.fields _=>Ha r (n+1)
  |_,.freed=>Ha r (n+1)
  |_,_=>(n,o)::Ha r (n+1)
def Jl(h:Heap):xz:=Ha h.objs.toList 0
noncomputable def dOf(s:j9):DefRec:=match s with
 |Stmt.FunctionDef n a b _ _ _ s _ _ p=>⟨n,a,b,s,p⟩
 |_=>⟨Str.empty,⟨[],[],xy,[],[],xy,[]⟩,[],{kind:=.module,names:=[],isGenerator:=xA,isCoroutine:=xA,more:=[]},⟨0,0,0,0⟩⟩
noncomputable abbrev XtOf(l:OpenLaw)(q:j6)(s:j8):Bool:=xlAt q [] s&&recOk l.row.toRowW.records s
noncomputable def Ao(K:xz)(n:Str):j1:=match nsIn K jL n with
 |some (xk (.ref f))=>f
 |_=>0
noncomputable def gOk(K:xz)(n:Str):Bool:=match nsIn K jL n with
 |some (xk (.ref _))=>x0
 |_=>xA
noncomputable def Fx(K:xz)(C:j1)(m:Str):j1:=match findIn K (.ref C) m with
 |some (xk (.ref f))=>f
 |_=>0
noncomputable def mOk(K:xz)(C:j1)(m:Str):Bool:=match findIn K (.ref C) m with
 |some (xk (.ref f))=>isFn K (.ref f)
 |_=>xA
noncomputable def noF(K:xz)(C:j1)(m:Str):Bool:=match findIn K (.ref C) m with
 |some xy=>x0
 |_=>xA
noncomputable def zOk(K:xz)(n:Str):Bool:=match nsIn K jL n with
 |some xy=>x0
 |_=>xA
noncomputable def Pu(K:xz)(C:j1):Bool:=match findIn K (.ref C) "__setattr__" with
 |some (xk (.builtin s))=>s == "object.__setattr__"
 |_=>xA
noncomputable def iOk(K:xz)(n:Str)(v:Int):Bool:=match nsIn K jL n with
 |some (xk (.int u _))=>decide (u=v)
 |_=>xA
noncomputable def sOk(K:xz)(n:Str)(v:Str):Bool:=match nsIn K jL n with
 |some (xk (.str u _))=>decide (u=v)
 |_=>xA
noncomputable def Dw(K:xz)(f:j1):Obj:=match K.lookup f with
 |some o=>o
 |none=>⟨.none,xy,.plain,#[]⟩
def Av(K:xz)(f:j1):j4:=match(Dw K f).data with
 |.func fd=>fd
 |_=>default
noncomputable def ZEw:jA->Bool
 |.none=>x0
 |_=>xA
noncomputable def ZHM:FuncBody->Option (List j9)
 |.stmts b=>xk b
 |_=>xy
def Mg(K:xz)(x q:Str)(f:j1):Bool:=match K.lookup f with
 |some ⟨_,_,.func fd,_⟩=>decide (fd.name=x)&&decide (fd.qualname=q)&&(fd.globals==jL&&fd.builtins==builtinsNs&&fd.closure.isEmpty&&ZEw fd.defaults)&&(codeIn K fd.code q&&keepIn K (.ref f))
 |_=>xA
noncomputable abbrev DefTxt:=Arguments×Option (List j9)×j7
def Gg(K:xz)(f:j1):DefTxt:=((Av K f).params,ZHM (Av K f).body,(Av K f).scope)
def Gx(st:j9):DefTxt:=(Eg st,xk (Df st),Am st)
noncomputable def dfl(K:xz)(d:jA)(v:Int):Bool:=match d with
 | .ref T=>match K.lookup T with
  | some o=>(match o.data with
   |.seq a _=>(match a.toList with
    |[.int i _]=>decide (i=v)
    |_=>xA)
   |_=>xA)
  |none=>xA
 |_=>xA
def Qg(K:xz)(x q:Str)(f:j1)(v:Int):Bool:=match K.lookup f with
 |some ⟨_,_,.func fd,_⟩=>decide (fd.name=x)&&decide (fd.qualname=q)&&(fd.globals==jL&&fd.builtins==builtinsNs&&fd.closure.isEmpty&&dfl K fd.defaults v)&&(codeIn K fd.code q&&keepIn K (.ref f))
 |_=>xA
noncomputable def strsOf:List jA->Option (List Str)
 |[]=>xk []
 |.str s _::r=>(strsOf r).map (s::·)
 |_::_=>xy
def Tt(K:xz)(n:Str)(vs:List Str):Bool:=match nsIn K jL n with
 | some (xk (.ref p))=>(match K.lookup p with
   |some ⟨.type t,_,.seq its _,_⟩=>t == "tuple"&&decide (strsOf its.toList=xk vs)&&Nat.ble its.toList.length 1000
   |_=>xA)
 |_=>xA
def O2(K:xz)(n:Str)(kvs:List (Str×Str)):Bool:=match nsIn K jL n with
 | some (xk (.ref p))=>(match K.lookup p with
   |some ⟨.type t,_,.dict es _,_⟩=>t == "dict" && !(p==sysModules)&&decide (strsOf (es.toList.map (·.key))=xk (kvs.map (·.1)))&&decide (strsOf (es.toList.map (·.val))=xk (kvs.map (·.2)))
   |_=>xA)
 |_=>xA
inductive Ask where
 |fn (n:Str) (st:j9)
 |mt (c m q:Str) (st:j9)
 |cl (c:Str)
 |no (c x:Str)
 |z (n:Str)
 |gi (n:Str) (v:Int)
 |gs (n v:Str)
 |gt (n:Str) (vs:List Str)
 |gd (n:Str) (kvs:List (Str×Str))
 |ck (φ:xz->Bool)
 |fd (n:Str) (st:j9) (v:Int)
def Ask.chk(K:xz):Ask->Bool
 |.fn n _=>gOk K n&&Mg K n n (Ao K n)
 |.mt c m q _=>mOk K (Ao K c) m&&Mg K m q (Fx K (Ao K c) m)
 |.cl c=>gOk K c&&(plainGet K (Ao K c) Str.empty&&hasDictIn K (Ao K c)&&plainOver K (Ao K c))&&(Pu K (Ao K c)&&makesIn K (Ao K c)&&keepIn K (.ref (Ao K c)))
 |.no c x=>noF K (Ao K c) x
 |.z n=>zOk K n
 |.gi n v=>iOk K n v
 |.gs n v=>sOk K n v
 |.gt n vs=>Tt K n vs
 |.gd n kvs=>O2 K n kvs
 |.ck φ=>φ K
 |.fd n _ v=>gOk K n&&Qg K n n (Ao K n) v
def Ask.txt(K:xz):Ask->Option DefTxt
 |.fn n _=>xk (Gg K (Ao K n))
 |.mt c m _ _=>xk (Gg K (Fx K (Ao K c) m))
 |.fd n _ _=>xk (Gg K (Ao K n))
 |_=>xy
def Ask.want:Ask->Option DefTxt
 |.fn _ st=>xk (Gx st)
 |.mt _ _ _ st=>xk (Gx st)
 |.fd _ st _=>xk (Gx st)
 |_=>xy
def Ql(l:List Ask)(h:Heap):Bool×List (Option DefTxt):=(l.all (Ask.chk (Jl h)),l.map (Ask.txt (Jl h)))
noncomputable abbrev Ms(l:List Ask):Bool×List (Option DefTxt):=(x0,l.map Ask.want)
noncomputable def Mi(p:j6)(w:jB)(n₀:Nat)(ann:Option jA):Nat->SharedT->Thread->Option SharedT
 |0,_,_=>xy
 | n+1,s,t=>match through t with
  |true=>xk s
  | false=>match PySem.W.Fast.tw6613529449190102663 n₀ ann t with
   |false=>xy
   |true=>match PySem.W.Fast.tw10156331382660048174 (PySem.W.Fast.tw11892475500146522536 PySem.W.Fast.tw14364793385576792824) p w s t with
    |some (s',t')=>Mi p w n₀ ann n s' t'
    |none=>xy
noncomputable def W7:List Obj->Nat->BT->BT
 |[],_,t=>t
 |o::r,n,t=>W7 r (n+1) (t.ins n o)
def Wo(w:jB)(os:OsState):SharedT:=⟨W7 (xj w.params).objs.toList 0 .nil,(xj w.params).objs.size,(xj w.params).life,Array.mk [],boot_drawn,boot_toks,os⟩
def Ot(p:j6)(w:jB)(os:OsState):Option SharedT:=Mi p w (xj w.params).objs.size (PySem.W.Fast.tw8920871248978507458 (xj w.params) jL "__annotations__") 100000 (Wo w os) (topStub p)
noncomputable def Q4(p:j6)(w:jB)(s:j8):Bool:=staticsOk (PySem.W.Fast.tw5923862056798008813 p.main.body) (xj w.params) s.heap&&namesBound p s.heap&&gensDone s&&laidKept (xj w.params) s.heap
theorem ZEz{l:OpenLaw}(h:PySem.W.Fast.tw9446332074065402090 l=x0):l.wellSaid=x0:=by rw[PySem.W.Fast.te9446332074065402090];exact h
end _D
namespace _W
open PySem PySem.W _L _D
noncomputable def top(i:Nat):j9:=PySem.Challenge.pw_sluiceway_k71_what_pages_earn.main.body.getD i (.Pass ⟨0,0,0,0⟩)
noncomputable abbrev Qv:=top 11
noncomputable abbrev Ni:=top 28
noncomputable abbrev Qy:=top 14
noncomputable abbrev R3:=top 13
noncomputable abbrev Q5:=top 15
noncomputable abbrev Q7:=top 16
noncomputable abbrev Qk:=top 17
noncomputable abbrev Tc:=top 18
noncomputable abbrev Qq:=top 19
noncomputable abbrev Sh:=top 20
noncomputable abbrev Tj:=top 21
noncomputable abbrev Tr:=top 22
noncomputable abbrev Mr:=top 24
noncomputable abbrev O5:=top 23
noncomputable abbrev Qc:=top 25
noncomputable abbrev Rp:=top 26
noncomputable abbrev Pr:=top 29
noncomputable abbrev Oc:=top 31
noncomputable abbrev Q8:=top 32
noncomputable abbrev U0:=top 30
noncomputable abbrev Qo:=top 27
noncomputable abbrev Pa:=top 33
noncomputable abbrev Nr:=top 12
noncomputable abbrev Rk:=top 9
noncomputable abbrev Ry:=top 8
noncomputable abbrev Dz:=top 34
def asks:List Ask:=[.fn "_law_cell_at" Qv,.fn "_law_earned" Ni,.fn "_law_names" Qy,.fn "_law_mix" R3,.fn "_law_stairs" Q5,.fn "_law_rule" Q7,.fn "_law_place" Qk,.fn "_law_take" Tc,.fn "_law_read_stairs" Qq,.fn "_law_read_place" Sh,.fn "_law_read_house" Tj,.fn "_law_house" Tr,.fn "_law_rows" Mr,.fn "_law_state" O5,.fn "_law_given" Qc,.fn "_law_down" Rp,.fn "_law_due" Pr,.fn "_law_choice" Oc,.fn "_law_row" Q8,.fn "_law_send" U0,.fn "_law_to" Qo,.fn "_law_pages" Pa,.fn "_law_whole" Nr,.fn "earned_in_turn" Rk,.fn "earned" Ry,.fn "law" Dz,.z "bool",.z "enumerate",.z "int",.z "isinstance",.z "len",.z "list",.z "min",.z "range",.z "sum",.z "tuple",.z "zip",.gi "KIND" 0,.gi "LET" 3,.gi "LIES" 5,.gi "MOST" 4,.gi "PLACES" 1,.gi "PUMPED" 4,.gi "TOOK" 1]
abbrev rw_:OpenLaw:=PySem.Challenge.rw_sluiceway_k71_what_pages_earn
abbrev pw:j6:=OpenLaw.prog PySem.Challenge.rw_sluiceway_k71_what_pages_earn
def vw:j6:=view pw (qw 35)
theorem ZDfb:∀w os,(Ot pw w os).map (λs=>PySem.W.Fast.tw4187177175401517315 vw [] (PySem.W.Fast.tw5923862056798008813 pw.main.body) (XtOf rw_ vw) x0 s.abs)=xk (openGood vw []):=λw os=>by kernel_rfl
theorem ZDfa:∀w os,(Ot pw w os).map (λs=>(Q4 pw w s.abs,Ql asks s.abs.heap))=xk (x0,Ms asks):=λw os=>by kernel_rfl
theorem ZDf:∀w os,(Ot pw w os).map (λs=>(Q4 pw w s.abs,PySem.W.Fast.tw4187177175401517315 vw [] (PySem.W.Fast.tw5923862056798008813 pw.main.body) (XtOf rw_ vw) x0 s.abs,Ql asks s.abs.heap))=xk (x0,openGood vw [],Ms asks):=λw os=>by
 have h1:=ZDfb w os
 have h2:=ZDfa w os
 revert h1 h2
 generalize Ot pw w os=o
 intro h1 h2
 cases o with
 |none=>cases h2
 |some s=>exact congrArg some (Prod.ext (Prod.mk.inj (Option.some.inj h2)).1 (Prod.ext (Option.some.inj h1) (Prod.mk.inj (Option.some.inj h2)).2))
theorem well:rw_.wellSaid=x0:=ZEz (by kernel_rfl)
theorem hdef:defOf vw rw_.row.name=xk (dOf Dz,[]):=by kernel_rfl
theorem hp:rw_.row.prog.theDef rw_.row.name=xk ((dOf Dz).params,(dOf Dz).body,(dOf Dz).scope):=by kernel_rfl
theorem hk:kwWritten? (dOf Dz).params.kwonlyargs (dOf Dz).params.kw_defaults=xk []:=by kernel_rfl
theorem hok:(chainsOk vw&&opensWell rw_.row.prog&&(frees rw_.row.toRowW&&rw_.row.within.isEmpty))=x0:=by kernel_rfl
theorem hdf:(dOf Dz).params.defaults=[]:=by kernel_rfl
theorem hbare:rw_.row.prog.bare:=⟨rfl,rfl,rfl,rfl,rfl,by decide +kernel⟩
theorem hw:rw_.row.toRowW.promised:=by w_witness2
end _W
namespace _L
open PySem PySem.Spec PyProof.Rows
variable{us:List jA}{u:jA}{a b:j1}{P:j6}{w:jB}{h:Heap}{t' i k:Nat}{ch fp:List j1}{x:Str}{Q:Unit->j8->Prop}{e tg:j3}{A:j2}{E:jA->j8->Prop}{s:j8}{xw:List (j1×Obj)}{K:PySem.W.Frag}{f:jA->jA->Sem jA}{op:CmpOp}{kindOf:Str->Option j5}
noncomputable abbrev Key:=Sum Int Str
def Hk:Key->jA->Bool
 |.inl k,v=>Value.isInt k v
 |.inr x,v=>Value.isStrOf x v
def keyH(w:jB):Key->Int
 |.inl k=>hashInt k
 |.inr x=>hashStr w x
theorem Eu:∀{k:Key}{v:jA},Hk k v=x0->(∃i t,k=Sum.inl i/\v=Value.int i t)∨(∃x t,k=Sum.inr x/\v=Value.str x t)
 |.inl i,v,h=>by obtain⟨t,e⟩:=Value.isInt_shape (k:=i) (v:=v) h;exact .inl ⟨i,t,rfl,e⟩
 |.inr x,v,h=>by obtain⟨t,e⟩:=Value.isStrOf_shape (x:=x) (v:=v) h;exact .inr ⟨x,t,rfl,e⟩
theorem ZES(i:Int)(t:Tok):Hk (.inl i) (.int i t)=x0:=by simp[Hk,Value.isInt]
theorem ZET(x:Str)(t:Tok):Hk (.inr x) (.str x t)=x0:=by simp[Hk,Value.isStrOf]
theorem ZD7(a b:Int):decide ((Sum.inl a:Key)=Sum.inl b)=(a==b):=by
 by_cases e:a=b
 ·subst e;simp
 ·have h:¬(Sum.inl a:Key)=Sum.inl b:=λq=>e (Sum.inl.inj q)
  rw[decide_eq_false h];exact(beq_eq_false_iff_ne.mpr e).symm
theorem ZGG(a b:Str):decide ((Sum.inr a:Key)=Sum.inr b)=decide (a=b):=by
 by_cases e:a=b
 ·subst e;simp
 ·have h:¬(Sum.inr a:Key)=Sum.inr b:=λq=>e (Sum.inr.inj q)
  rw[decide_eq_false h,decide_eq_false e]
theorem ZHL(a:Int)(b:Str):decide ((Sum.inl a:Key)=Sum.inr b)=xA:=decide_eq_false (λq=>nomatch q)
theorem ZGp(a:Str)(b:Int):decide ((Sum.inr a:Key)=Sum.inl b)=xA:=decide_eq_false (λq=>nomatch q)
def De(prog:j6)(w:jB):PySem.KeyKind prog w Key where
 is:=Hk
 hash:=keyH w
 inj:=λv a b ha hb=>by
  rcases Eu ha with⟨i,t,rfl,rfl⟩|⟨x,t,rfl,rfl⟩
  ·rcases Eu hb with⟨j,u,rfl,e⟩|⟨y,u,rfl,e⟩
   ·injection e with e1 _;rw[e1]
   ·exact nomatch e
  ·rcases Eu hb with⟨j,u,rfl,e⟩|⟨y,u,rfl,e⟩
   ·exact nomatch e
   ·injection e with e1 _;rw[e1]
 byValue:=λk v h=>by rcases Eu h with⟨i,t,rfl,rfl⟩|⟨x,t,rfl,rfl⟩<;>rfl
 pyHash:=λhv h=>by
  rcases Eu hv with⟨i,t,rfl,rfl⟩|⟨x,t,rfl,rfl⟩
  ·exact wpAny_pyHash_int h
  ·exact wpAny_pyHash_str h
 eqBool:=λhu hv h=>by
  rcases Eu hu with⟨i,t,rfl,rfl⟩|⟨x,t,rfl,rfl⟩
  ·rcases Eu hv with⟨j,u,rfl,rfl⟩|⟨y,u,rfl,rfl⟩
   ·rw[ZD7]at h;exact wpAny_eqBool_int h
   ·rw[ZHL]at h;exact SeqAt.EqAt.int_str i t y u _ _ _ _ h
  ·rcases Eu hv with⟨j,u,rfl,rfl⟩|⟨y,u,rfl,rfl⟩
   ·rw[ZGp]at h;exact SeqAt.EqAt.str_int x t j u _ _ _ _ h
   ·rw[ZGG]at h;exact wpAny_eqBool_str h
 «strs»:=λk x t v h=>by
  rcases Eu h with⟨i,u,rfl,e⟩|⟨y,u,rfl,e⟩
  ·exact nomatch e
  ·injection e with e1 _
   subst e1
   cases v<;>rfl
theorem ZFr(prog:j6)(w:jB)(i:Int)(t:Tok):(De prog w).is (.inl i) (.int i t)=x0:=ZES i t
theorem ZEi(prog:j6)(w:jB)(x:Str)(t:Tok):(De prog w).is (.inr x) (.str x t)=x0:=ZET x t
inductive V where
 |non|bl (b:Bool)|int (i:Int)|str (x:Str)|byt (b:Array UInt8)|flt (b:UInt64)|ref (a:j1)|ty (n:String)
 deriving DecidableEq
variable{v:V}
def RelV:V->jA->Prop
 |.non,u=>u=Value.none
 |.bl b,u=>u=Value.bool b
 |.int i,u=>∃t,u=Value.int i t
 |.str x,u=>∃t,u=Value.str x t
 |.byt b,u=>∃t,u=Value.bytes b t
 |.flt b,u=>∃t,u=Value.float b t
 |.ref a,u=>u=Value.ref a
 |.ty n,u=>u=Value.type n
abbrev Vals:List V->List jA->Prop:=Paired RelV
theorem Vals.length{xs:List V}(r:Vals xs us):xs.length=us.length:=Paired.length r
theorem Vals.get:∀{xs:List V}{us:List jA}{i:Nat}{x:V},Vals xs us->xs[i]?=xk x->∃u,us[i]?=xk u/\RelV x u
 |_,_,_,_,.nil,e=>by simp at e
 |_,_,0,_,.cons r _,e=>by simp at e;subst e;exact⟨_,rfl,r⟩
 |_,_,i+1,x,.cons _ t,e=>by obtain⟨u,h1,h2⟩:=Vals.get (i:=i) (x:=x) t (by simpa using e);exact⟨u,by simpa using h1,h2⟩
theorem Vals.set{x:V}(r:RelV x u):∀{xs:List V}{us:List jA}(i:Nat),Vals xs us->Vals (xs.set i x) (us.set i u)
 |_,_,_,.nil=>.nil
 |_,_,0,.cons _ t=>.cons r t
 |_,_,i+1,.cons q t=>.cons q (Vals.set r i t)
theorem Vals.append:∀{xs ys:List V}{us ws:List jA},Vals xs us->Vals ys ws->Vals (xs++ys) (us++ws)
 |_,_,_,_,.nil,s=>s
 |_,_,_,_,.cons r t,s=>.cons r (Vals.append t s)
theorem Vals.take:∀{xs:List V}{us:List jA}(n:Nat),Vals xs us->Vals (xs.take n) (us.take n)
 |_,_,0,_=>.nil
 |_,_,_+1,.nil=>.nil
 |_,_,n+1,.cons r t=>.cons r (Vals.take n t)
theorem Vals.drop:∀{xs:List V}{us:List jA}(n:Nat),Vals xs us->Vals (xs.drop n) (us.drop n)
 |_,_,0,r=>r
 |_,_,_+1,.nil=>.nil
 |_,_,n+1,.cons _ t=>Vals.drop n t
def RelO:Option V->Option jA->Prop
 |some v,xk u=>RelV v u
 |none,xy=>True
 |_,_=>False
def KV{κ:Type}:List (κ×V)->List (κ×jA)->Prop:=Paired λ(p:κ×V)(q:κ×jA)=>p.1=q.1/\RelV p.2 q.2
def kV:Key->V
 |.inl i=>.int i
 |.inr x=>.str x
inductive HO where
 |lst (xs:List V)
 |tup (xs:List V)
 |dK (kvs:List (Key×V))|dT (kvs:List (List Key×V))
 |set (S:Int->Bool) (n:Nat)
 |ins (C dx:j1) (fs:List (Str×V))
 |own (x:j1)
 |xd (fs:List (Str×V))
 |met (f x:j1)
 |rng (lo hi:Int)
 |frz (o:Obj) (u:HO)
 |tbl (ps:Array jA)
 |ext (φ:Heap->Prop)
variable{o:HO}
noncomputable abbrev Hp:=j1->Option HO
variable{H:Hp}
noncomputable def upd(H:Hp)(a:j1)(o:HO):Hp:=λb=>if b=a then xk o else H b
theorem Cp:upd H a o a=xk o:=by unfold upd;rw[if_pos rfl]
theorem Ag(h:b≠a):upd H a o b=H b:=by unfold upd;rw[if_neg h]
theorem ZFn{u:HO}(h:H a=xk o)(h':H b=xk u)(d:o≠u):a≠b:=by intro e;subst e;rw[h]at h';exact d (Option.some.inj h')
theorem Dv(h:H a=xk o)(h':H b=xy):a≠b:=by intro e;subst e;rw[h]at h';cases h'
section
variable(P:j6)(w:jB)
def ObjOk(H:Hp)(h:Heap)(a:j1):HO->Prop
 |.lst xs=>xs.length<=sizeLine/\∃(its:List jA)(n:Nat),Vals xs its/\h.get? a=xk {cls:=.type "list",data:=.seq its.toArray n}
 |.tup xs=>xs.length<=sizeLine/\∃its:List jA,Vals xs its/\IsTup h a its.toArray
 |.dK kvs=>kvs.length<=sizeLine/\(a==sysModules)=xA/\∃vs,KV kvs vs/\h.DictOf (De P w) a vs
 | .dT kvs=>kvs.length<=sizeLine/\(a==sysModules)=xA/\∃xs:List (List Key×j1×jA),
   Paired (λ(p:List Key×V)(q:List Key×j1×jA)=>p.1=q.1/\H q.2.1=xk (.tup (p.1.map kV))/\RelV p.2 q.2.2) kvs xs/\
   ∃o es ep,h.get? a=xk o/\o.ExactDict/\o.data=.dict es ep/\es.toList=xs.map (entryOfKey (tupleKind (De P w)))/\(xs.map (·.1)).Nodup
 |.set S n=>h.SetOf (intKind P w) a S n
 | .ins C dx fs=>H dx=xk (.own a)/\fs.length<=1000/\dx≠a/\h.get? a=xk (PySem.W.instObj C dx)/\
   ∃mA,h.Ns1 dx mA/\(∀f,RelO (fs.lookup f) (mA f))/\PySem.Within mA (fs.map (·.1))
 |.own _=>∃o,h.get? a=xk o
 |.xd fs=>∃mA,h.Ns1 a mA/\∀f,RelO (fs.lookup f) (mA f)
 |.rng lo hi=>∃t u v,h.get? a=xk {cls:=.type "range",data:=.fields #[.int lo t,.int hi u,.int 1 v]}
 |.frz o u=>h.get? a=xk o/\ObjOk H h a u
 |.tbl ps=>h.get? a=xk {cls:=.none,data:=.fields ps}
 |.met f x=>h.get? a=xk (PySem.W.methodObj (.ref f) (.ref x))
 |.ext φ=>φ h/\(∃o,h.get? a=xk o)/\∀h1 h2:Heap,φ h1->(∀o,h1.get? a=xk o->h2.get? a=xk o)->φ h2
def HOk(H:Hp)(h:Heap):Prop:=∀a o,H a=xk o->ObjOk P w H h a o
end
section
variable{P:j6}{w:jB}{H H':Hp}{h h':Heap}{a:j1}{o:HO}
theorem ObjOk.lt(x:ObjOk P w H h a o):a<h.objs.size:=by
 cases o with
 |lst xs=>obtain⟨_,_,_,_,e⟩:=x;exact zx e
 |tup xs=>obtain⟨_,_,_,p⟩:=x;exact p.lt
 |dK kvs=>obtain⟨_,_,_,_,o,_,_,e,_⟩:=x;exact zx e
 |dT kvs=>obtain⟨_,_,_,_,o,_,_,e,_⟩:=x;exact zx e
 |set S n=>obtain⟨o,_,_,_,e,_⟩:=x;exact zx e
 |ins C dx fs=>obtain⟨_,_,_,e,_⟩:=x;exact zx e
 |own y=>obtain⟨_,e⟩:=x;exact zx e
 |xd fs=>obtain⟨_,⟨_,_,_,e,_⟩,_⟩:=x;exact zx e
 |rng lo hi=>obtain⟨_,_,_,e⟩:=x;exact zx e
 |frz ob u=>obtain⟨e,_⟩:=x;exact zx e
 |tbl ps=>exact zx (show h.get? a=xk _ from x)
 |met f y=>exact zx (show h.get? a=xk _ from x)
 |ext φ=>obtain⟨_,⟨_,e⟩,_⟩:=x;exact zx e
theorem Paired.Nk{α β:Type}{F G:α->β->Prop}:∀{l₁:List α}{l₂:List β},Paired F l₁ l₂->(∀a b,F a b->G a b)->Paired G l₁ l₂
 |_,_,.nil,_=>.nil
 |_,_,.cons r t,f=>.cons (f _ _ r) (Paired.Nk t f)
theorem ObjOk.stay(x:ObjOk P w H h a o)(k:∀b u,(b=a∨H b=xk (.own a))->h.get? b=xk u->h'.get? b=xk u)
  (ho:∀b,H b=xk (.own a)->H' b=xk (.own a)) (ht:∀b xs,H b=xk (.tup xs)->H' b=xk (.tup xs)):ObjOk P w H' h' a o:=by
 induction o with
 |lst xs=>obtain⟨z,its,n,r,e⟩:=x;exact⟨z,its,n,r,k _ _ (.inl rfl) e⟩
 |tup xs=>obtain⟨z,its,r,ob,e,c⟩:=x;exact⟨z,its,r,ob,k _ _ (.inl rfl) e,c⟩
 |dK kvs=>obtain⟨z,y,vs,r,ob,es,ep,e,c⟩:=x;exact⟨z,y,vs,r,ob,es,ep,k _ _ (.inl rfl) e,c⟩
 |dT kvs=>
  obtain⟨z,y,xs,r,ob,es,ep,e,c⟩:=x;exact⟨z,y,xs,Paired.Nk r λp q z=>⟨z.1,ht _ _ z.2.1,z.2.2⟩,ob,es,ep,k _ _ (.inl rfl) e,c⟩
 |set S n=>obtain⟨ob,es,ep,t,e,c⟩:=x;exact⟨ob,es,ep,t,k _ _ (.inl rfl) e,c⟩
 |ins C dx fs=>
  obtain⟨d,z,ne,e,mA,⟨od,es,ep,e2,c⟩,r⟩:=x;exact⟨ho _ d,z,ne,k _ _ (.inl rfl) e,mA,⟨od,es,ep,k _ _ (.inr d) e2,c⟩,r⟩
 |own y=>obtain⟨ob,e⟩:=x;exact⟨ob,k _ _ (.inl rfl) e⟩
 |xd fs=>obtain⟨mA,⟨od,es,ep,e,c⟩,r⟩:=x;exact⟨mA,⟨od,es,ep,k _ _ (.inl rfl) e,c⟩,r⟩
 |rng lo hi=>obtain⟨t,u,v,e⟩:=x;exact⟨t,u,v,k _ _ (.inl rfl) e⟩
 |frz ob u ih=>obtain⟨e,q⟩:=x;exact⟨k _ _ (.inl rfl) e,ih q⟩
 |tbl ps=>
  have e:h.get? a=xk {cls:=.none,data:=.fields ps}:=x;show h'.get? a=xk {cls:=.none,data:=.fields ps};exact k a _ (.inl rfl) e
 |met f y=>
  have e:h.get? a=xk (PySem.W.methodObj (.ref f) (.ref y)):=x;show h'.get? a=xk (PySem.W.methodObj (.ref f) (.ref y));exact k a _ (.inl rfl) e
 |ext φ=>obtain⟨p,⟨o,e⟩,st⟩:=x;exact⟨st _ _ p λo q=>k _ _ (.inl rfl) q,⟨o,k _ _ (.inl rfl) e⟩,st⟩
theorem HOk.lt(x:HOk P w H h)(e:H a=xk o):a<h.objs.size:=(x a o e).lt
theorem HOk.fresh(x:HOk P w H h)(e:h.objs.size<=a):H a=xy:=by
 cases q:H a with
 |none=>rfl
 |some u=>exact absurd (zW (x.lt q) e) (qQ _)
theorem HOk.kept(x:HOk P w H h)(k:∀b u,h.get? b=xk u->h'.get? b=xk u):HOk P w H h':=λa o e=>
 (x a o e).stay (λb u _ q=>k b u q) (λ_ q=>q) λ_ _ q=>q
theorem HOk.laid(x:HOk P w H h)(k:∀b u,h.get? b=xk u->h'.get? b=xk u)(hp:h.objs.size<=a)(new:ObjOk P w (upd H a o) h' a o):HOk P w (upd H a o) h':=λb u e=>by
 have hn:=x.fresh hp;by_cases hb:b=a
 ·subst hb;rw[Cp]at e;cases e;exact new
 ·rw[Ag hb]at e;exact(x b u e).stay (λc v _ q=>k c v q) (λc q=>by rw[Ag (Dv q hn)];exact q) λc xs q=>by rw[Ag (Dv q hn)];exact q
end
def Rd(H:Hp)(a:j1)(u:HO):Prop:=H a=xk u∨∃o,H a=xk (.frz o u)
theorem Rd.ok{u:HO}(r:Rd H a u)(x:HOk P w H h):ObjOk P w H h a u:=by
 rcases r with r|⟨o,r⟩
 ·exact x a u r
 ·obtain⟨_,q⟩:=x a _ r;exact q
def Mut:Option HO->Prop
 |some (.lst _)=>True
 |some (.dK _)=>True
 |some (.dT _)=>True
 |some (.set _ _)=>True
 |some (.ins _ _ _)=>True
 |some (.ext _)=>True
 |_=>False
section
variable{P:j6}{w:jB}{H:Hp}{h h':Heap}{x e:j1}{o':HO}
theorem HOk.write(ok:HOk P w H h)(mu:Mut (H x))(he:e=x∨H e=xk (.own x))(k:∀b u,b≠e->h.get? b=xk u->h'.get? b=xk u)(heo:∃u,h'.get? e=xk u)
  (new:ObjOk P w (upd H x o') h' x o'):HOk P w (upd H x o') h':=λb u q=>by
 have nown:∀c y,H c=xk (.own y)->c≠x:=λc y r z=>by subst z;rw[r]at mu;exact mu
 have ntup:∀c xs,H c=xk (.tup xs)->c≠x:=λc xs r z=>by subst z;rw[r]at mu;exact mu
 by_cases hb:b=x
 ·subst hb;rw[Cp]at q;cases q;exact new
 ·rw[Ag hb]at q;by_cases hbe:b=e
  ·have q':H b=xk (.own x):=by
    rcases he with z|z
    ·exact absurd (hbe.trans z) hb
    ·rw[hbe];exact z
   rw[q]at q';cases q';obtain⟨v,hv⟩:=heo;exact⟨v,by rw[hbe];exact hv⟩
  ·refine(ok b u q).stay (λc v hc r=>k c v ?_ r) (λc r=>by rw[Ag (nown c b r)];exact r) λc xs r=>by rw[Ag (ntup c xs r)];exact r
   rcases hc with rfl|hc
   ·exact hbe
   ·rintro rfl;rcases he with z|z
    ·exact nown c b hc z
    ·rw[hc]at z;cases z;exact hb rfl
end
structure Un (fs ex:List j1) (H H':Hp) (h h':Heap):Prop where
 keep:∀b o,h.get? b=xk o->H b=xy->b∉fs->b∉ex->h'.get? b=xk o
 slot:∀b o,h.get? b=xk o->H b=xy->b∈fs->b∉ex->∃sl,h'.get? b=xk {o with slots:=sl}
 free:∀b o,h.get? b=xk o->H b=xy->b∉ex->H' b=xy
 there:∀b o,h.get? b=xk o->b∉ex->∃o',h'.get? b=xk o'
 tups:∀b xs,H b=xk (.tup xs)->H' b=xk (.tup xs)
 frzs:∀b o u,H b=xk (.frz o u)->H' b=xk (.frz o u)
 tbls:∀b ps,H b=xk (.tbl ps)->∃more,H' b=xk (.tbl (ps++more))
section
variable{fs fs' ex ex':List j1}{H H1 H2:Hp}{h h1 h2 h':Heap}{a x e:j1}{o:HO}
theorem Un.any(u:Un fs ex H H1 h h1){ob:Obj}(q:h.get? b=xk ob)(n:H b=xy)(hx:b∉ex):∃sl,h1.get? b=xk {ob with slots:=sl}:=by
 by_cases hb:b∈fs
 ·exact u.slot b ob q n hb hx
 ·exact⟨ob.slots,u.keep b ob q n hb hx⟩
theorem Un.kept(k:∀b u,h.get? b=xk u->h'.get? b=xk u):Un fs ex H H h h':=
 ⟨λb ob q _ _ _=>k b ob q,λb ob q _ _ _=>⟨ob.slots,k b ob q⟩,λ_ _ _ n _=>n,λb ob q _=>⟨ob,k b ob q⟩,λ_ _ q=>q,λ_ _ _ q=>q,λ_ ps q=>⟨#[],by rw[q];simp⟩⟩
theorem Un.refl:Un fs ex H H h h:=Un.kept λ_ _ q=>q
theorem Un.laid(k:∀b u,h.get? b=xk u->h'.get? b=xk u)(hp:h.objs.size<=a)(hn:H a=xy):Un fs ex H (upd H a o) h h' where
 keep:=λb u q _ _ _=>k b u q
 slot:=λb u q _ _ _=>⟨u.slots,k b u q⟩
 free:=λb u q n _=>by rw[Ag (zB (zW (zx q) hp))];exact n
 there:=λb u q _=>⟨u,k b u q⟩
 tups:=λb xs q=>by rw[Ag (Dv q hn)];exact q
 frzs:=λb u xs q=>by rw[Ag (Dv q hn)];exact q
 tbls:=λb ps q=>⟨#[],by rw[Ag (Dv q hn),q];simp⟩
theorem Un.write(mu:Mut (H x))(he:e=x∨H e=xk (.own x))(k:∀b u,b≠e->h.get? b=xk u->h'.get? b=xk u)(heo:∃u,h'.get? e=xk u):Un fs ex H (upd H x o) h h':=by
 have hx:∀b,H b=xy->b≠x:=λb n z=>by subst z;rw[n]at mu;exact mu
 have hb:∀b,H b=xy->b≠e:=λb n z=>by
  subst z;rcases he with r|r
  ·exact hx b n r
  ·rw[n]at r;cases r
 have hm:∀b u,H b=xk u->¬Mut (xk u)->b≠x:=λb u q nm z=>by subst z;rw[q]at mu;exact nm mu
 refine⟨λb u q n _ _=>k b u (hb b n) q,λb u q n _ _=>⟨u.slots,k b u (hb b n) q⟩,λb u q n _=>by rw[Ag (hx b n)];exact n,λb u q _=>?_,
  λb xs q=>by rw[Ag (hm b _ q λz=>z)];exact q,λb u xs q=>by rw[Ag (hm b _ q λz=>z)];exact q,λb ps q=>⟨#[],by rw[Ag (hm b _ q λz=>z),q];simp⟩⟩
 by_cases hbe:b=e
 ·subst hbe;exact heo
 ·exact⟨u,k b u hbe q⟩
end
noncomputable def trk(h:Heap)(H:Hp):List j1:=(qw h.objs.size).filter λa=>(H a).isSome
def Fw(h:Heap)(H:Hp):Heap:=PySem.W.hideAll h (trk h H)
theorem ZDw(h:Heap)(H:Hp):(Fw h H).objs.size=h.objs.size:=PySem.W.hideAll_size _ _
theorem ZGK{o:Obj}(e:h.get? b=xk o)(n:H b=xy):(Fw h H).get? b=xk o:=
 PySem.W.hideAll_get _ e λhm=>by have q:(H b).isSome=x0:=(List.mem_filter.mp hm).2;rw[n]at q;simp at q
theorem ZFu{o:Obj}(e:(Fw h H).get? b=xk o):h.get? b=xk o/\H b=xy:=by
 have e':h.get? b=xk o:=PySem.W.of_hideAll (trk h H) e;refine⟨e',?_⟩;cases q:H b with
 |none=>rfl
 |some x=>
  have hm:b∈trk h H:=List.mem_filter.mpr ⟨List.mem_range.mpr (zx e'),by simp[q]⟩;have z:(Fw h H).get? b=xy:=PySem.W.hideAll_none (trk h H) hm;rw[z]at e;cases e
noncomputable def ZFJ(g h:Heap)(L:j1):List (j1×Obj):=(qw h.objs.size).filterMap λa=>if a=L∨(g.get? a).isSome=x0 then xy else(h.get? a).map λo=>(a,o)
def rest(g h:Heap)(L d:j1):List (j1×Obj):=(ZFJ g h L).filter λp=>decide (p.1≠d)
structure Mod (K:PySem.W.Frag) (mg:Str->Option jA) (base:Heap):Prop where
 kin:K.In base
 glob:base.Ns jL mg
 blt:∃mb,base.Ns builtinsNs mb/\∀x:Str,x≠"__name__"->mb x=jF x
 nolimit:base.NoLimit
structure Cx where
 prog:j6
 w:jB
 K:PySem.W.Frag
 mg:Str->Option jA
 base:Heap
 A:j2
 N:List Str
 s₀:j8
 H₀:Hp
 env:Env
 outer:List Env
 stack:List Env
 ex:List j1
 fn:Str->Bool
 calm:Bool
 pn:List (j1×Obj)
 xe:jA->j8->Prop
variable{X:Cx}
noncomputable def frs(l:List Env):List j1:=l.filterMap (·.frame)
noncomputable abbrev Cx.fs(X:Cx):List j1:=frs X.outer
def Vis(sc:j7)(x:Str):Prop:=sc.names.lookup x=xk .local∨sc.names.lookup x=xk .cell∨sc.names.lookup x=xk .free
def Loc(sc:j7)(x:Str):Prop:=sc.names.lookup x=xk .local∨sc.names.lookup x=xk .cell
def Look(env:Env)(h:Heap)(m:Str->Option jA)(x:Str)(u:jA):Prop:=
 (env.kindOf x=xk .local/\m x=xk u)∨((env.kindOf x=xk .cell∨env.kindOf x=xk .free)/\∃c,env.cells.lookup x=xk c/\h.IsCell c (xk u))
structure Cx.Ok (X:Cx):Prop where
 mod:Mod X.K X.mg X.base
 kind:X.env.scope.kind=.function
 glob:X.env.globals=jL
 blt:X.env.builtins=builtinsNs
 above:X.s₀.heap.objs.size<=X.env.locals
 inj:∀x y c,X.env.cells.lookup x=xk c->X.env.cells.lookup y=xk c->x=y
 has:∀x,(X.env.kindOf x=xk .cell∨X.env.kindOf x=xk .free)->∃c,X.env.cells.lookup x=xk c
 cab:∀x c,X.fn x=x0->X.env.cells.lookup x=xk c->X.s₀.heap.objs.size<=c
 hd:X.calm=x0->X.A.handled=xy
 frames:X.A.frames=xk X.stack
 stk:X.stack=X.outer∨(X.stack=X.env::X.outer/\X.env.frame=xk X.env.locals)
 exf:∀b∈X.ex,b≠X.env.locals/\∀x c,X.env.cells.lookup x=xk c->c≠b
 bs:∀b o,X.base.get? b=xk o->X.s₀.heap.get? b=xk o/\X.H₀ b=xy
 bsz:X.base.objs.size<=X.s₀.heap.objs.size
 noex:∀b o,X.base.get? b=xk o->b∉X.ex
 exfs:∀b∈X.ex,b∉X.fs
 funs:X.s₀.heap.FunFrames X.base X.outer
 frf:∀b∈X.fs,X.H₀ b=xy
structure Inv (X:Cx) (xw:List (j1×Obj)) (σ:List (Option V)) (H:Hp) (s:j8):Prop where
 ok:X.Ok
 os:s.os=X.s₀.os
 bare:AllBare s.gens
 base:Un X.fs X.ex X.H₀ H X.s₀.heap s.heap
 loc:∃m,s.heap.Ns X.env.locals m/\∀(i:Nat)(x:Str)(v:V),X.N[i]?=xk x->σ[i]?=xk (xk v)->Vis X.env.scope x->∃u,RelV v u/\Look X.env s.heap m x u
 cell:∀x c,X.env.cells.lookup x=xk c->∃v,s.heap.IsCell c v
 free:H X.env.locals=xy
 Eh:∀x c,X.env.cells.lookup x=xk c->H c=xy
 pin:∀p∈X.pn++xw,s.heap.get? p.1=xk p.2/\H p.1=xy/\p.1≠X.env.locals/\p.1∉X.fs/\∀v,p.2.data≠ .cell v
 hok:HOk X.prog X.w H s.heap
 len:σ.length=X.N.length
section
variable{X:Cx}{xw:List (j1×Obj)}{σ:List (Option V)}{H H':Hp}{s:j8}{h':Heap}
theorem Cx.Ok.nofr(ok:X.Ok){o:Obj}(e:X.base.get? b=xk o):b∉X.fs:=λhb=>by have:=(ok.funs.mem hb).1;rw[e]at this;cases this
theorem Inv.bs(I:Inv X xw σ H s):∀b o,X.base.get? b=xk o->s.heap.get? b=xk o/\H b=xy:=λb o e=>
 ⟨I.base.keep b o (I.ok.bs b o e).1 (I.ok.bs b o e).2 (I.ok.nofr e) (I.ok.noex b o e),I.base.free b o (I.ok.bs b o e).1 (I.ok.bs b o e).2 (I.ok.noex b o e)⟩
theorem Inv.bk(I:Inv X xw σ H s):∀b o,X.base.get? b=xk o->s.heap.get? b=xk o:=λb o e=>(I.bs b o e).1
theorem Inv.mod(I:Inv X xw σ H s):Mod X.K X.mg X.base:=I.ok.mod
theorem Inv.kIn(I:Inv X xw σ H s):X.K.In s.heap:=I.ok.mod.kin.keeps I.bk
theorem Inv.lt(I:Inv X xw σ H s):X.env.locals<s.heap.objs.size:=let⟨_,hn,_⟩:=I.loc;hn.lt
theorem Inv.sz(I:Inv X xw σ H s):X.s₀.heap.objs.size<=s.heap.objs.size:=zk I.ok.above (Nat.le_of_lt I.lt)
theorem Inv.nofs(I:Inv X xw σ H s)(h:s.heap.objs.size<=a):a∉X.fs:=λhb=>by obtain⟨_,o,ho,_⟩:=I.ok.funs.mem hb;exact absurd (zW (zx ho) (zk I.sz h)) (qQ _)
theorem Inv.cne(I:Inv X xw σ H s):∀x c,X.env.cells.lookup x=xk c->c≠X.env.locals:=λx c e z=>by obtain⟨v,o,ho,hd⟩:=I.cell x c e;obtain⟨m,⟨o',es,ep,ho',hd',_⟩,_⟩:=I.loc;rw[z,ho']at ho;cases ho;rw[hd']at hd;cases hd
theorem Inv.funs(I:Inv X xw σ H s):s.heap.FunFrames X.base X.outer:=by
 have all:∀(l:List Env),(∀b∈frs l,b∈X.fs)->X.s₀.heap.FunFrames X.base l->s.heap.FunFrames X.base l:=by
  intro l
  induction l with
  |nil=>intro _ _;trivial
  |cons env r ih=>
   intro hs hl;obtain⟨hk,⟨L,o,hf,hn,ho,hd⟩,hr⟩:=hl;have hL:L∈X.fs:=hs L (by unfold frs;rw[jJ,hf];exact zY);obtain⟨sl,e⟩:=I.base.slot L o ho (I.ok.frf L hL) hL λz=>I.ok.exfs L z hL
   exact⟨hk,⟨L,_,hf,hn,e,hd⟩,ih (λb hb=>hs b (by unfold frs;rw[jJ,hf];exact zV _ hb)) hr⟩
 exact all X.outer (λ_ hb=>hb) I.ok.funs
theorem Inv.stack(I:Inv X xw σ H s):s.heap.FunFrames X.base X.stack:=by
 rcases I.ok.stk with e|⟨e,hf⟩
 ·rw[e];exact I.funs
 ·rw[e];obtain⟨m,hn,_⟩:=I.loc;refine .cons (by rw[I.ok.kind];decide) hf hn ?_ I.funs;exact Heap.get?_none_of_le (zk I.ok.bsz I.ok.above)
theorem Inv.Lj(I:Inv X xw σ H s):∀b∈frs X.stack,b∈X.env.locals::X.fs:=λb hb=>by
 rcases I.ok.stk with e|⟨e,hf⟩
 ·rw[e]at hb;exact zV _ hb
 ·rw[e]at hb;unfold frs at hb;rw[jJ,hf]at hb;exact hb
theorem Inv.X4(I:Inv X xw σ H s):∀b∈frs X.stack,H b=xy:=λb hb=>by
 rcases zA.mp (I.Lj b hb)with e|hb
 ·rw[e];exact I.free
 ·obtain⟨_,o,ho,_⟩:=I.ok.funs.mem hb;exact I.base.free b o ho (I.ok.frf b hb) λz=>I.ok.exfs b z hb
theorem Inv.step{g':Array GenState}{d':Drawn}(I:Inv X xw σ H s)
  (hch:∀b∈ch,(b∈X.ex∨X.s₀.heap.objs.size<=b)/\b≠X.env.locals/\(∀x c,X.env.cells.lookup x=xk c->c≠b)/\∀p∈X.pn++xw,p.1≠b)
  (keep:∀b o,b≠X.env.locals->b∉X.fs->b∉ch->s.heap.get? b=xk o->H b=xy->h'.get? b=xk o)
  (slot:∀b o,b≠X.env.locals->b∈X.fs->b∉ch->s.heap.get? b=xk o->H b=xy->∃sl,h'.get? b=xk {o with slots:=sl}) (free:∀b o,b∉ch->s.heap.get? b=xk o->H b=xy->H' b=xy)
  (there:∀b o,b∉ch->s.heap.get? b=xk o->∃o',h'.get? b=xk o')
  (tups:∀b xs,H b=xk (.tup xs)->H' b=xk (.tup xs)) (frzs:∀b o u,H b=xk (.frz o u)->H' b=xk (.frz o u)) (tbls:∀b ps,H b=xk (.tbl ps)->∃more,H' b=xk (.tbl (ps++more)))
  (ns:∀m,s.heap.Ns X.env.locals m->h'.Ns X.env.locals m) (hok:HOk X.prog X.w H' h') (hg:AllBare g'):
  Inv X xw σ H' {s with heap:=h',gens:=g',drawn:=d',toks:=t'}:=by
 have neL:∀b o,X.s₀.heap.get? b=xk o->b≠X.env.locals:=λb o e=>zB (zW (zx e) I.ok.above)
 have neC:∀b o,X.s₀.heap.get? b=xk o->b∉X.ex->b∉ch:=λb o e hx hb=>by
  rcases(hch b hb).1 with z|z
  ·exact hx z
  ·exact absurd (zW (zx e) z) (qQ _)
 have cellK:∀x c,X.env.cells.lookup x=xk c->∀v,s.heap.IsCell c v->h'.IsCell c v:=λx c e v ⟨o,ho,hd⟩=>by
  have nch:c∉ch:=λz=>(hch c z).2.2.1 x c e rfl
  by_cases hc:c∈X.fs
  ·obtain⟨sl,q⟩:=slot c o (I.cne x c e) hc nch ho (I.Eh x c e);exact⟨_,q,hd⟩
  ·exact⟨o,keep c o (I.cne x c e) hc nch ho (I.Eh x c e),hd⟩
 refine⟨I.ok,I.os,hg,⟨λb o e n hb hx=>?_,λb o e n hb hx=>?_,λb o e n hx=>?_,λb o e hx=>?_,λb xs e=>tups b xs (I.base.tups b xs e),λb o xs e=>frzs b o xs (I.base.frzs b o xs e),λb ps e=>?_⟩,?_,λx c e=>?_,?_,λx c e=>?_,λp hp=>?_,hok,I.len⟩
 ·exact keep b o (neL b o e) hb (neC b o e hx) (I.base.keep b o e n hb hx) (I.base.free b o e n hx)
 ·obtain⟨sl,e1⟩:=I.base.slot b o e n hb hx;obtain⟨sl',e2⟩:=slot b _ (neL b o e) hb (neC b o e hx) e1 (I.base.free b o e n hx);exact⟨sl',e2⟩
 ·obtain⟨o',e1⟩:=I.base.there b o e hx;exact free b o' (neC b o e hx) e1 (I.base.free b o e n hx)
 ·obtain⟨o',e1⟩:=I.base.there b o e hx;exact there b o' (neC b o e hx) e1
 ·obtain⟨m1,e1⟩:=I.base.tbls b ps e;obtain⟨m2,e2⟩:=tbls b _ e1;exact⟨m1++m2,by rw[e2,Array.append_assoc]⟩
 ·obtain⟨m,hn,hl⟩:=I.loc;refine⟨m,ns m hn,λi x v e1 e2 e3=>?_⟩;obtain⟨u,r,l⟩:=hl i x v e1 e2 e3;refine⟨u,r,?_⟩;rcases l with l|⟨k,c,e,z⟩
  ·exact .inl l
  ·exact .inr ⟨k,c,e,cellK x c e _ z⟩
 ·obtain⟨v,z⟩:=I.cell x c e;exact⟨v,cellK x c e v z⟩
 ·obtain⟨m,⟨o,_,_,ho,_⟩,_⟩:=I.loc;exact free _ o (λz=>(hch _ z).2.1 rfl) ho I.free
 ·obtain⟨v,o,ho,hd⟩:=I.cell x c e;exact free c o (λz=>(hch c z).2.2.1 x c e rfl) ho (I.Eh x c e)
 ·obtain⟨e,n,ne,nf,d⟩:=I.pin p hp;have nch:p.1∉ch:=λz=>(hch p.1 z).2.2.2 p hp rfl
  exact⟨keep p.1 p.2 ne nf nch e n,free p.1 p.2 nch e n,ne,nf,d⟩
theorem Inv.un(I:Inv X xw σ H s)(u:Un X.fs [] H H' s.heap h')(hok:HOk X.prog X.w H' h'):Inv X xw σ H' {s with heap:=h',toks:=t'}:=by
 obtain⟨m,⟨o,es,ep,ho,r⟩,_⟩:=id I.loc;obtain⟨sl,hL⟩:=u.any ho I.free (by simp)
 exact I.step (g':=s.gens) (d':=s.drawn) (ch:=[]) (λ_ z=>nomatch z) (λb o _ hb _ e n=>u.keep b o e n hb (by simp)) (λb o _ hb _ e n=>u.slot b o e n hb (by simp)) (λb o _ e n=>u.free b o e n (by simp)) (λb o _ e=>u.there b o e (by simp)) u.tups u.frzs u.tbls (λm' hm=>by obtain⟨o',es',ep',ho',r'⟩:=hm;rw[ho]at ho';cases ho';exact⟨_,es',ep',hL,r'⟩) hok I.bare
theorem Inv.call{g':Array GenState}{d':Drawn}(I:Inv X xw σ H s)(u:Un (frs X.stack) ch H H' s.heap h')(hok:HOk X.prog X.w H' h')(hg:AllBare g')
  (hch:∀b∈ch,(b∈X.ex∨X.s₀.heap.objs.size<=b)/\b≠X.env.locals/\(∀x c,X.env.cells.lookup x=xk c->c≠b)/\∀p∈X.pn++xw,p.1≠b):
  Inv X xw σ H' {s with heap:=h',gens:=g',drawn:=d',toks:=t'}:=by
 obtain⟨m,⟨o,es,ep,ho,r⟩,_⟩:=id I.loc;obtain⟨sl,hL⟩:=u.any ho I.free λz=>(hch _ z).2.1 rfl
 exact I.step (ch:=ch) hch (λb o hL hb hc e n=>u.keep b o e n (λz=>(zA.mp (I.Lj b z)).elim hL hb) hc) (λb o _ _ hc e n=>u.any e n hc) (λb o hc e n=>u.free b o e n hc) (λb o hc e=>u.there b o e hc) u.tups u.frzs u.tbls (λm' hm=>by obtain⟨o',es',ep',ho',r'⟩:=hm;rw[ho]at ho';cases ho';exact⟨_,es',ep',hL,r'⟩) hok hg
theorem Inv.turned{it:j1}(I:Inv X xw σ H s)(k:∀b o,b≠it->s.heap.get? b=xk o->h'.get? b=xk o)(hn:H it=xy)(hL:it≠X.env.locals)
  (h1:it∈X.ex∨X.s₀.heap.objs.size<=it) (h2:∀x c,X.env.cells.lookup x=xk c->c≠it) (h3:∀p∈X.pn++xw,p.1≠it):Inv X xw σ H {s with heap:=h',toks:=t'}:=by
 have nit:∀b u,H b=xk u->b≠it:=λb u e z=>by rw[z,hn]at e;cases e
 refine I.step (g':=s.gens) (d':=s.drawn) (ch:=[it]) (λb hb=>?_) (λb o _ _ hc e _=>k b o (λz=>hc (by simp[z])) e) (λb o _ _ hc e _=>⟨o.slots,k b o (λz=>hc (by simp[z])) e⟩) (λ_ _ _ _ n=>n)
  (λb o hc e=>⟨o,k b o (λz=>hc (by simp[z])) e⟩) (λ_ _ e=>e) (λ_ _ _ e=>e) (λb ps e=>⟨#[],by rw[e];simp⟩) (λm hm=>?_) (λb u e=>?_) I.bare
 ·have e:b=it:=by simpa using hb
  subst e;exact⟨h1,hL,h2,h3⟩
 ·obtain⟨o,es,ep,ho,r⟩:=hm;exact⟨o,es,ep,k _ o (Ne.symm hL) ho,r⟩
 ·refine(I.hok b u e).stay (λc v hc q=>k c v ?_ q) (λ_ q=>q) λ_ _ q=>q
  rcases hc with z|z
  ·rw[z];exact nit b u e
  ·exact nit c _ z
theorem Inv.tok(I:Inv X xw σ H s)(t:Nat):Inv X xw σ H {s with toks:=t}:=I.un (h':=s.heap) (t':=t) Un.refl I.hok
theorem Inv.kept(I:Inv X xw σ H s)(k:∀b u,s.heap.get? b=xk u->h'.get? b=xk u):Inv X xw σ H {s with heap:=h',toks:=t'}:=I.un (Un.kept k) (I.hok.kept k)
theorem Inv.laid(I:Inv X xw σ H s)(k:∀b u,s.heap.get? b=xk u->h'.get? b=xk u)(hp:s.heap.objs.size<=a)(new:ObjOk X.prog X.w (upd H a o) h' a o):
  Inv X xw σ (upd H a o) {s with heap:=h',toks:=t'}:=I.un (Un.laid k hp (I.hok.fresh hp)) (I.hok.laid k hp new)
theorem Inv.write{x e:j1}(I:Inv X xw σ H s)(mu:Mut (H x))(he:e=x∨H e=xk (.own x))(k:∀b u,b≠e->s.heap.get? b=xk u->h'.get? b=xk u)(heo:∃u,h'.get? e=xk u)
  (new:ObjOk X.prog X.w (upd H x o) h' x o):Inv X xw σ (upd H x o) {s with heap:=h',toks:=t'}:=I.un (Un.write mu he k heo) (I.hok.write mu he k heo new)
theorem Inv.G8{pins':List (j1×Obj)}(I:Inv X xw σ H s)(h:∀p∈pins',s.heap.get? p.1=xk p.2/\H p.1=xy/\p.1≠X.env.locals/\p.1∉X.fs/\∀v,p.2.data≠ .cell v):Inv X pins' σ H s:=
 ⟨I.ok,I.os,I.bare,I.base,I.loc,I.cell,I.free,I.Eh,λp hp=>(qB.mp hp).elim (λz=>I.pin p (jy _ z)) (h p),I.hok,I.len⟩
theorem Yc{N:List Str}(hN:N.Nodup){j:Nat}(a:N[i]?=xk x)(b:N[j]?=xk x):i=j:=by obtain⟨h1,e1⟩:=zJ.mp a;obtain⟨h2,e2⟩:=zJ.mp b;exact(List.getElem_inj hN).mp (e1.trans e2.symm)
theorem Vv{M:Model}{A:j2}{E:jA->j8->Prop}(I:Inv X xw σ H s)(hN:X.N.Nodup)(hi:X.N[i]?=xk x)(hx:Loc X.env.scope x)(r:RelV v u)
  (h:∀s',Inv X xw (σ.set i (xk v)) H s'->(∃a,qk a s.heap s'.heap/\(a=X.env.locals∨X.env.cells.lookup x=xk a))->Q () s') (hf:X.fn x=x0∨X.env.scope.names.lookup x=xk .local:=by first|exact .inl rfl|exact .inr rfl|assumption):jS M A (storeName X.env x u) Q E s:=by
 obtain⟨m,hn,hl⟩:=id I.loc;have hcls:(X.env.scope.kind == .class||(X.env.scope.kind == .module&&X.env.locals != X.env.globals))=xA:=by rw[I.ok.kind];rfl
 have hiσ:i<σ.length:=by rw[I.len];exact(zJ.mp hi).1
 have cne:=I.cne;have tracked:∀{a:j1}{h':Heap},(∃o,s.heap.get? a=xk o/\H a=xy)->qk a s.heap h'->HOk X.prog X.w H h':=λ{a h'}ha hs b ob e=>by
  obtain⟨_,_,hfree⟩:=ha;refine(I.hok b ob e).stay (λc w' hc q=>(hs.2 c ?_).trans q) (λ_ q=>q) λ_ _ q=>q
  rintro rfl;rcases hc with rfl|hc
  ·rw[hfree]at e;cases e
  ·rw[hfree]at hc;cases hc
 rcases hx with hk|hk
 ·refine wpAny_storeName_local hk hn (λh' hn' hs=>?_) hcls;obtain⟨oL,_,_,hoL,_⟩:=id hn;refine h _ ⟨I.ok,I.os,I.bare,⟨λb o e n hb hx=>?_,λb o e n hb hx=>?_,I.base.free,λb o e hx=>?_,I.base.tups,I.base.frzs,I.base.tbls⟩,⟨_,hn',λj y v' e1 e2 e3=>?_⟩,λy c e=>?_,I.free,I.Eh,λp hp=>?_,tracked ⟨oL,hoL,I.free⟩ hs,by simpa using I.len⟩ ⟨_,hs,.inl rfl⟩
  ·exact(hs.2 b (zB (zW (zx e) I.ok.above))).trans (I.base.keep b o e n hb hx)
  ·obtain⟨sl,e1⟩:=I.base.slot b o e n hb hx;exact⟨sl,(hs.2 b (zB (zW (zx e) I.ok.above))).trans e1⟩
  ·obtain⟨o',e1⟩:=I.base.there b o e hx;exact⟨o',(hs.2 b (zB (zW (zx e) I.ok.above))).trans e1⟩
  ·by_cases hj:j=i
   ·subst hj;rw[hi]at e1;cases e1;rw[qz hiσ]at e2;cases e2;exact⟨u,r,.inl ⟨hk,by simp⟩⟩
   ·rw[zE (Ne.symm hj)]at e2;obtain⟨u',r',q⟩:=hl j y v' e1 e2 e3;refine⟨u',r',?_⟩;rcases q with⟨k,e⟩|⟨k,c,e,z⟩
    ·refine .inl ⟨k,?_⟩;have:y≠x:=λe=>hj (Yc hN e1 (e▸hi))
     simp[this,e]
    ·exact .inr ⟨k,c,e,z.sameBut hs (cne y c e)⟩
  ·obtain⟨w',z⟩:=I.cell y c e;exact⟨w',z.sameBut hs (cne y c e)⟩
  ·obtain⟨e,n,ne,nf,d⟩:=I.pin p hp;exact⟨(hs.2 p.1 ne).trans e,n,ne,nf,d⟩
 ·have hfn:X.fn x=x0:=by
   rcases hf with z|z
   ·exact z
   ·rw[z]at hk;cases hk
  obtain⟨c,hc⟩:=I.ok.has x (.inl hk);obtain⟨w',z⟩:=I.cell x c hc;refine wpAny_storeName_cell I.ok.kind hk hc z (λh' hc' hs=>?_);obtain⟨oc,hoc,hocd⟩:=id z;refine h {s with heap:=h'} ⟨I.ok,I.os,I.bare,⟨λb o e n hb hx=>?_,λb o e n hb hx=>?_,I.base.free,λb o e hx=>?_,I.base.tups,I.base.frzs,I.base.tbls⟩,⟨m,hn.sameBut hs (Ne.symm (cne x c hc)),λj y v' e1 e2 e3=>?_⟩,λy c' e=>?_,I.free,I.Eh,λp hp=>?_,tracked ⟨oc,hoc,I.Eh x c hc⟩ hs,by simpa using I.len⟩ ⟨c,hs,.inr hc⟩
  ·exact(hs.2 b (zB (zW (zx e) (I.ok.cab x c hfn hc)))).trans (I.base.keep b o e n hb hx)
  ·obtain⟨sl,e1⟩:=I.base.slot b o e n hb hx;exact⟨sl,(hs.2 b (zB (zW (zx e) (I.ok.cab x c hfn hc)))).trans e1⟩
  ·obtain⟨o',e1⟩:=I.base.there b o e hx;exact⟨o',(hs.2 b (zB (zW (zx e) (I.ok.cab x c hfn hc)))).trans e1⟩
  ·by_cases hj:j=i
   ·subst hj;rw[hi]at e1;cases e1;rw[qz hiσ]at e2;cases e2;exact⟨u,r,.inr ⟨.inl hk,c,hc,hc'⟩⟩
   ·rw[zE (Ne.symm hj)]at e2;obtain⟨u',r',q⟩:=hl j y v' e1 e2 e3;refine⟨u',r',?_⟩;rcases q with q|⟨k,c',e,z'⟩
    ·exact .inl q
    ·refine .inr ⟨k,c',e,z'.sameBut hs ?_⟩;rintro rfl;exact hj (Yc hN e1 (I.ok.inj _ _ _ e hc▸hi))
  ·by_cases hcc:c'=c
   ·subst hcc;exact⟨_,hc'⟩
   ·obtain⟨w2,z2⟩:=I.cell y c' e;exact⟨w2,z2.sameBut hs hcc⟩
  ·obtain⟨e,n,ne,nf,d⟩:=I.pin p hp;refine⟨(hs.2 p.1 ?_).trans e,n,ne,nf,d⟩;intro q;rw[q,hoc]at e;have q':oc=p.2:=Option.some.inj e;exact d w' (by rw[<-q'];exact hocd)
theorem Ob{M:Model}{A:j2}{E:jA->j8->Prop}(I:Inv X xw σ H s)(hN:X.N.Nodup)(hi:X.N[i]?=xk x)(hx:Loc X.env.scope x)(r:RelV v u)
  (h:∀s',Inv X xw (σ.set i (xk v)) H s'->Q () s') (hf:X.fn x=x0∨X.env.scope.names.lookup x=xk .local:=by first|exact .inl rfl|exact .inr rfl|assumption):jS M A (storeName X.env x u) Q E s:=
 Vv I hN hi hx r (λs' I' _=>h s' I') hf
theorem Inv.call'{s':j8}(I:Inv X xw σ H s)(ho:s'.os=s.os)(u:Un (frs X.stack) ch H H' s.heap s'.heap)(hok:HOk X.prog X.w H' s'.heap)(hg:AllBare s'.gens)
  (hch:∀b∈ch,(b∈X.ex∨X.s₀.heap.objs.size<=b)/\b≠X.env.locals/\(∀x c,X.env.cells.lookup x=xk c->c≠b)/\∀p∈X.pn++xw,p.1≠b):Inv X xw σ H' s':=by
 obtain⟨h',g',d',t',o'⟩:=s';have e:o'=s.os:=ho;subst e;exact I.call (g':=g') (t':=t') (d':=d') u hok hg hch
end
noncomputable abbrev XK:=jA->Option j1->Hp->Prop
noncomputable abbrev St:=List (Option V)
variable{σ:St}
noncomputable abbrev VK:=V->Hp->Prop
noncomputable abbrev TE:=St->Hp->VK->Prop
variable{te:TE}
noncomputable abbrev TT:=St->Hp->(Bool->Hp->Prop)->Prop
noncomputable abbrev TA:=St->Hp->(List V->Hp->Prop)->Prop
structure Ends where
 nx:St->Hp->Prop
 rt:VK
 bk:St->Hp->Prop:=λ_ _=>False
 ct:St->Hp->Prop:=λ_ _=>False
noncomputable abbrev TS:=Ends->St->Hp->Prop
def EP(X:Cx)(xw:List (j1×Obj))(σ:St)(Q:VK)(u:jA)(s':j8):Prop:=∃v H',Inv X xw σ H' s'/\RelV v u/\Q v H'
def TP(X:Cx)(xw:List (j1×Obj))(σ:St)(Q:Bool->Hp->Prop)(b:Bool)(s':j8):Prop:=∃H',Inv X xw σ H' s'/\Q b H'
def AP(X:Cx)(xw:List (j1×Obj))(σ:St)(Q:List V->Hp->Prop)(us:List jA)(s':j8):Prop:=∃vs H',Inv X xw σ H' s'/\Vals vs us/\Q vs H'
def SP(X:Cx)(xw:List (j1×Obj))(D:Ends)(f:Flow)(s':j8):Prop:=
 match f with
 |.next=>∃σ' H',Inv X xw σ' H' s'/\D.nx σ' H'
 |.brk=>∃σ' H',Inv X xw σ' H' s'/\D.bk σ' H'
 |.cont=>∃σ' H',Inv X xw σ' H' s'/\D.ct σ' H'
 |.ret u=>∃v σ' H',Inv X xw σ' H' s'/\RelV v u/\D.rt v H'
def PE(X:Cx)(e:j3)(t:TE):Prop:=
 ∀(xw:List (j1×Obj))(s:j8)(σ:St)(H:Hp)(Q:VK),Inv X xw σ H s->t σ H Q->jS (jM X.prog X.w) X.A (eval e X.env) (EP X xw σ Q) X.xe s
def PT(X:Cx)(e:j3)(t:TT):Prop:=
 ∀(xw:List (j1×Obj))(s:j8)(σ:St)(H:Hp)(Q:Bool->Hp->Prop),Inv X xw σ H s->t σ H Q->jS (jM X.prog X.w) X.A (isTrue e X.env (eval e X.env)) (TP X xw σ Q) X.xe s
def PW(X:Cx)(e:j3)(t:TT):Prop:=
 ∀(whole:Sem jA)(xw:List (j1×Obj))(s:j8)(σ:St)(H:Hp)(Q:Bool->Hp->Prop),Inv X xw σ H s->t σ H Q->jS (jM X.prog X.w) X.A (isTrue e X.env whole) (TP X xw σ Q) X.xe s
theorem PW.pt{t:TT}(h:PW X e t):PT X e t:=h _
def PA(X:Cx)(es:List j3)(t:TA):Prop:=
 ∀(pos:Pos)(xw:List (j1×Obj))(s:j8)(σ:St)(H:Hp)(Q:List V->Hp->Prop),Inv X xw σ H s->t σ H Q->jS (jM X.prog X.w) X.A (spliced (jD pos (jP es X.env))) (AP X xw σ Q) X.xe s
def PS(X:Cx)(st:j9)(t:TS):Prop:=
 ∀(xw:List (j1×Obj))(s:j8)(σ:St)(H:Hp)(D:Ends),Inv X xw σ H s->t D σ H->jS (jM X.prog X.w) X.A (exec st X.env) (SP X xw D) X.xe s
def PSs(X:Cx)(st:List j9)(t:TS):Prop:=
 ∀(xw:List (j1×Obj))(s:j8)(σ:St)(H:Hp)(D:Ends),Inv X xw σ H s->t D σ H->jS (jM X.prog X.w) X.A (execs st X.env) (SP X xw D) X.xe s
theorem thn{α:Type}{t:Sem α}{Q Q':α->j8->Prop}{M:Model}(h:jS M A t Q E s)(hQ:∀a s,Q a s->Q' a s):jS M A t Q' E s:=xX h hQ λ_ _ x=>x
section
variable{X:Cx}
noncomputable def tVar(i:Nat):TE:=λσ H Q=>∃v,σ[i]?=xk (xk v)/\Q v H
noncomputable def tC(v:V):TE:=λ_ H Q=>Q v H
theorem ZGH{pos:Pos}(hN:X.N[i]?=xk x)(hv:Vis X.env.scope x)(hd:(x==("__debug__":Str))=xA:=by decide)(hcd:(x==("__classdict__":Str))=xA:=by decide):PE X (.Name x pos) (tVar i):=by
 intro xw s σ H Q I h;obtain⟨v,e,h⟩:=h;obtain⟨m,hn,hl⟩:=I.loc;obtain⟨u,r,l⟩:=hl i x v hN e hv;have fin:EP X xw σ Q u s:=⟨v,H,I,r,h⟩;rcases l with⟨hk,hm⟩|⟨hk,c,hc,hcell⟩
 ·exact wpAny_Name (wpAny_loadName_local I.ok.kind hk hn hm fin) hd
 ·rcases hk with hk|hk
  ·exact wpAny_Name (wpAny_loadName_cell I.ok.kind hk hc hcell fin) hd
  ·exact wpAny_Name (wpAny_loadName_free I.ok.kind hk hc hcell fin hcd) hd
theorem ZG4{i j pos}:PE X (.Constant (.int i) j pos) (tC (.int i)):=λ_ _ _ H _ I h=>wpAny_Constant_int ⟨.int i,H,I.tok _,⟨_,rfl⟩,h⟩
theorem ZD5{b j pos}:PE X (.Constant (.bool b) j pos) (tC (.bl b)):=λ_ _ _ H _ I h=>Constant_bool ⟨.bl b,H,I,rfl,h⟩
theorem ZEr{j pos}:PE X (.Constant .none j pos) (tC .non):=λ_ _ _ H _ I h=>Constant_none ⟨.non,H,I,rfl,h⟩
theorem ZCK{x j pos}:PE X (.Constant (.str x) j pos) (tC (.str x)):=λ_ _ _ H _ I h=>Calls.Constant_str ⟨.str x,H,I.tok _,⟨_,rfl⟩,h⟩
def Gl(X:Cx)(x:Str):Prop:=X.env.kindOf x=xk .globalImplicit
theorem Vo{E:jA->j8->Prop}{pos:Pos}{Q:jA->j8->Prop}(I:Inv X xw σ H s)(hg:Gl X x)(hm:X.mg x=xk u)(h:Q u s)
  (hd:(x==("__debug__":Str))=xA:=by decide):jS (jM X.prog X.w) X.A (eval (.Name x pos) X.env) Q E s:=
 Calls.Name_function_global I.ok.kind hg (Calls.loadGlobal_global (by rw[I.ok.glob];exact I.mod.glob.keeps I.bk) hm h) hd
theorem Hz{E:jA->j8->Prop}{pos:Pos}{Q:jA->j8->Prop}(I:Inv X xw σ H s)(hg:Gl X x)(hm:X.mg x=xy)(hv:jF x=xk u)(h:Q u s)
  (hn:x≠"__name__":=by decide) (hd:(x==("__debug__":Str))=xA:=by decide):jS (jM X.prog X.w) X.A (eval (.Name x pos) X.env) Q E s:=by
 obtain⟨mb,h1,h2⟩:=I.mod.blt;exact Calls.Name_function_global I.ok.kind hg (Calls.loadGlobal_builtin (by rw[I.ok.glob];exact I.mod.glob.keeps I.bk) hm (by rw[I.ok.blt];exact h1.keeps I.bk) ((h2 x hn).trans hv) h) hd
theorem ZEC{pos:Pos}(hg:Gl X x)(hm:X.mg x=xk u)(r:RelV v u)(hd:(x==("__debug__":Str))=xA:=by decide):PE X (.Name x pos) (tC v):=
 λ_ _ _ H _ I h=>Vo I hg hm ⟨v,H,I,r,h⟩ hd
theorem ZDn{pos:Pos}(hg:Gl X x)(hm:X.mg x=xy)(hv:jF x=xk u)(r:RelV v u)(hn:x≠"__name__":=by decide)(hd:(x==("__debug__":Str))=xA:=by decide):PE X (.Name x pos) (tC v):=
 λ_ _ _ H _ I h=>Hz I hg hm hv ⟨v,H,I,r,h⟩ hn hd
variable{a b:j3}{ta tb:TE}{pos:Pos}
noncomputable def tB(t:TE):TT:=λσ H Q=>t σ H λx H1=>∃c,x=.bl c/\Q c H1
theorem ZHK{t:TE}(h:PE X e t)(he:∀whole,isTrue e X.env whole=(do let v<-whole;standAt e.pos;holding [v] (truthy v)):=by intro _;rfl):PT X e (tB t):=by intro xw s σ H Q I hw;refine isTrue_plain (thn (h xw s σ H _ I hw) λv s1 ⟨x,H1,I1,r1,q1⟩=>?_) (he _);obtain⟨d,rfl,q⟩:=q1;cases r1;exact xq ⟨H1,I1,q⟩
variable{tA tB':TT}{rest:List j3}
noncomputable def tAnd(t u:TT):TT:=λσ H Q=>t σ H λc H1=>if c=x0 then u σ H1 Q else Q xA H1
noncomputable def tOr(t u:TT):TT:=λσ H Q=>t σ H λc H1=>if c=x0 then Q x0 H1 else u σ H1 Q
noncomputable def tNot(t:TT):TT:=λσ H Q=>t σ H λc H1=>Q (!c) H1
theorem pw_and1(ha:PT X a tA):PW X (.BoolOp .And [a] pos) tA:=by
 intro wh xw s σ H Q I h;refine isTrue_and (thn (ha xw s σ H Q I h) λc s1 e=>?_);cases c with
 |true=>exact isTrue_and_nil e
 |false=>exact e
theorem pw_or1(ha:PT X a tA):PW X (.BoolOp .Or [a] pos) tA:=by
 intro wh xw s σ H Q I h;refine isTrue_or (thn (ha xw s σ H Q I h) λc s1 e=>?_);cases c with
 |false=>exact isTrue_or_nil e
 |true=>exact e
theorem pw_and(ha:PT X a tA)(hb:PW X (.BoolOp .And (b::rest) pos) tB'):PW X (.BoolOp .And (a::b::rest) pos) (tAnd tA tB'):=by
 intro wh xw s σ H Q I h;refine isTrue_and (thn (ha xw s σ H _ I h) λc s1 ⟨H1,I1,q1⟩=>?_);cases c with
 |true=>exact hb wh xw s1 σ H1 Q I1 q1
 |false=>exact⟨H1,I1,q1⟩
theorem pw_or(ha:PT X a tA)(hb:PW X (.BoolOp .Or (b::rest) pos) tB'):PW X (.BoolOp .Or (a::b::rest) pos) (tOr tA tB'):=by
 intro wh xw s σ H Q I h;refine isTrue_or (thn (ha xw s σ H _ I h) λc s1 ⟨H1,I1,q1⟩=>?_);cases c with
 |true=>exact⟨H1,I1,q1⟩
 |false=>exact hb wh xw s1 σ H1 Q I1 q1
theorem ZBW(ha:PT X a tA):PT X (.UnaryOp .Not a pos) (tNot tA):=by intro xw s σ H Q I h;exact isTrue_not (ha xw s σ H (λc H1=>Q (!c) H1) I h)
noncomputable def ZGd(ta tb:TE):TE:=λσ H Q=>ta σ H λx H1=>∃c,x=.bl c/\if c=x0 then tb σ H1 Q else Q (.bl xA) H1
noncomputable def ZCr(ta:TE):TE:=λσ H Q=>ta σ H λx H1=>∃c,x=.bl c/\Q (.bl (!c)) H1
theorem ZBy{op}{t:TE}(h:PE X a t):PE X (.BoolOp op [a] pos) t:=λxw s σ H Q I hw=>BoolOp_one (h xw s σ H Q I hw)
theorem ZGy(ha:PE X a ta)(hb:PE X (.BoolOp .And (b::rest) pos) tb):PE X (.BoolOp .And (a::b::rest) pos) (ZGd ta tb):=by
 intro xw s σ H Q I h;refine BoolOp_and (thn (ha xw s σ H _ I h) λv s1 ⟨x,H1,I1,r1,q1⟩=>?_);obtain⟨c,rfl,q1⟩:=q1;cases r1;refine xq ?_;cases c with
 |true=>exact hb xw s1 σ H1 Q I1 q1
 |false=>exact⟨.bl xA,H1,I1,rfl,q1⟩
theorem ZBG(ha:PE X a ta):PE X (.UnaryOp .Not a pos) (ZCr ta):=by intro xw s σ H Q I h;refine UnaryOp_ (thn (ha xw s σ H _ I h) λv s1 ⟨x,H1,I1,r1,q1⟩=>?_);obtain⟨c,rfl,q1⟩:=q1;cases r1;exact not_of (xq ⟨.bl (!c),H1,I1,rfl,q1⟩)
noncomputable def tIf(t:TT)(ta tb:TE):TE:=λσ H Q=>t σ H λc H1=>if c=x0 then ta σ H1 Q else tb σ H1 Q
theorem ZA5{c:j3}(hc:PT X c tA)(ha:PE X a ta)(hb:PE X b tb):PE X (.IfExp c a b pos) (tIf tA ta tb):=by
 intro xw s σ H Q I h;refine wpAny_IfExp (thn (hc xw s σ H _ I h) λd s1 ⟨H1,I1,q1⟩=>?_);cases d with
 |true=>exact ha xw s1 σ H1 Q I1 q1
 |false=>exact hb xw s1 σ H1 Q I1 q1
end
def SqL(K:PySem.W.Frag)(H:Hp)(a:j1)(xs:List V):Prop:=
 Rd H a (.lst xs)∨
  ∃(o:Obj)(its:Array jA)(n:Nat),K.lookup a=xk o/\o.cls=.type "list"/\o.dict=xy/\o.data=.seq its n/\its.size<=sizeLine/\Vals xs its.toList
def SqT(K:PySem.W.Frag)(H:Hp)(a:j1)(xs:List V):Prop:=
 Rd H a (.tup xs)∨
  ∃(o:Obj)(its:Array jA)(n:Nat),K.lookup a=xk o/\o.cls=.type "tuple"/\o.data=.seq its n/\its.size<=sizeLine/\Vals xs its.toList
noncomputable def absV:jA->Option V
 |.none=>xk .non
 |.bool b=>xk (.bl b)
 |.int i _=>xk (.int i)
 |.str x _=>xk (.str x)
 |.bytes b _=>xk (.byt b)
 |.float b _=>xk (.flt b)
 |.ref a=>xk (.ref a)
 |.type n=>xk (.ty n)
 |_=>xy
theorem RelV.abs{x:V}(r:RelV x u):absV u=xk x:=by
 cases x with
 |non=>cases r;rfl
 |bl _=>cases r;rfl
 |int _=>obtain⟨t,rfl⟩:=r;rfl
 |str _=>obtain⟨t,rfl⟩:=r;rfl
 |byt _=>obtain⟨t,rfl⟩:=r;rfl
 |flt _=>obtain⟨t,rfl⟩:=r;rfl
 |ref _=>cases r;rfl
 |ty _=>cases r;rfl
theorem RelV.inj{x y:V}(r:RelV x u)(q:RelV y u):x=y:=Option.some.inj (r.abs.symm.trans q.abs)
theorem Vals.inj:∀{xs ys:List V}{us:List jA},Vals xs us->Vals ys us->xs=ys
 |_,_,_,.nil,.nil=>rfl
 |_,_,_,.cons r t,.cons r' t'=>by rw[r.inj r',Vals.inj t t']
section
variable{X:Cx}{xw:List (j1×Obj)}{σ:St}{H:Hp}{s:j8}{a:j1}{xs ys:List V}
theorem SqL.of(h:H a=xk (.lst xs)):SqL K H a xs:=.inl (.inl h)
theorem SqT.of(h:H a=xk (.tup xs)):SqT K H a xs:=.inl (.inl h)
theorem Inv.list(I:Inv X xw σ H s)(h:SqL X.K H a xs):∃its:List jA,Vals xs its/\PlainL s.heap a its.toArray/\xs.length<=sizeLine:=by
 rcases h with h|⟨o,its,n,hk,hc,hd,hs,hz,r⟩
 ·obtain⟨z,its,n,r,e⟩:=h.ok I.hok;exact⟨its,r,⟨_,n,e,rfl,rfl,rfl⟩,z⟩
 ·refine⟨its.toList,r,⟨o,n,I.kIn a o hk,hc,hd,by simpa using hs⟩,?_⟩;have e:=r.length;simp only[qW]at e;lia
theorem Inv.tuple(I:Inv X xw σ H s)(h:SqT X.K H a xs):∃its:List jA,Vals xs its/\IsTup s.heap a its.toArray/\xs.length<=sizeLine:=by
 rcases h with h|⟨o,its,n,hk,hc,hs,hz,r⟩
 ·obtain⟨z,its,r,p⟩:=h.ok I.hok;exact⟨its,r,p,z⟩
 ·refine⟨its.toList,r,⟨o,I.kIn a o hk,hc,n,by simpa using hs⟩,?_⟩;have e:=r.length;simp only[qW]at e;lia
theorem Inv.Pz(I:Inv X xw σ H s)(h:SqL X.K H a xs)(h':SqL X.K H a ys):xs=ys:=by
 obtain⟨its,r,⟨o,n,e,_,_,d⟩,_⟩:=I.list h;obtain⟨its',r',⟨o',n',e',_,_,d'⟩,_⟩:=I.list h';rw[e]at e';cases e';rw[d]at d';injection d' with d1 _
 have:its=its':=by simpa using congrArg Array.toList d1
 subst this;exact r.inj r'
theorem Inv.Qh(I:Inv X xw σ H s)(h:SqT X.K H a xs)(h':SqT X.K H a ys):xs=ys:=by
 obtain⟨its,r,⟨o,e,_,n,d⟩,_⟩:=I.tuple h;obtain⟨its',r',⟨o',e',_,n',d'⟩,_⟩:=I.tuple h';rw[e]at e';cases e';rw[d]at d';injection d' with d1 _
 have:its=its':=by simpa using congrArg Array.toList d1
 subst this;exact r.inj r'
end
noncomputable abbrev Cx.wish(X:Cx)(E:jA->j8->Prop):Cx:={X with xe:=E}
noncomputable abbrev Cx.nox(X:Cx):Cx:=X.wish λ_ _=>False
theorem Cx.Ok.wish(ok:X.Ok)(E:jA->j8->Prop):(X.wish E).Ok:=
 ⟨ok.mod,ok.kind,ok.glob,ok.blt,ok.above,ok.inj,ok.has,ok.cab,ok.hd,ok.frames,ok.stk,ok.exf,ok.bs,ok.bsz,ok.noex,ok.exfs,ok.funs,ok.frf⟩
theorem Cx.Ok.unwish(ok:(X.wish E).Ok):X.Ok:=
 ⟨ok.mod,ok.kind,ok.glob,ok.blt,ok.above,ok.inj,ok.has,ok.cab,ok.hd,ok.frames,ok.stk,ok.exf,ok.bs,ok.bsz,ok.noex,ok.exfs,ok.funs,ok.frf⟩
section
variable{X:Cx}{xw:List (j1×Obj)}{σ:St}{H:Hp}{s:j8}{E:jA->j8->Prop}
theorem Inv.wish(I:Inv X xw σ H s)(E:jA->j8->Prop):Inv (X.wish E) xw σ H s:=⟨I.ok.wish E,I.os,I.bare,I.base,I.loc,I.cell,I.free,I.Eh,I.pin,I.hok,I.len⟩
theorem Inv.unwish(I:Inv (X.wish E) xw σ H s):Inv X xw σ H s:=⟨I.ok.unwish,I.os,I.bare,I.base,I.loc,I.cell,I.free,I.Eh,I.pin,I.hok,I.len⟩
theorem SP.unwish{D:Ends}{f:Flow}{s':j8}(h:SP (X.wish E) xw D f s'):SP X xw D f s':=by
 cases f with
 |next=>obtain⟨σ',H',I,q⟩:=h;exact⟨σ',H',I.unwish,q⟩
 |brk=>obtain⟨σ',H',I,q⟩:=h;exact⟨σ',H',I.unwish,q⟩
 |cont=>obtain⟨σ',H',I,q⟩:=h;exact⟨σ',H',I.unwish,q⟩
 |ret u=>obtain⟨v,σ',H',I,r,q⟩:=h;exact⟨v,σ',H',I.unwish,r,q⟩
theorem PSs.nox{st:List j9}{t:TS}(h:PSs X.nox st t):PSs X st t:=λxw s σ H D I hw=>
 xX (h xw s σ H D (I.wish _) hw) (λ_ _ q=>q.unwish) λ_ _ z=>False.elim z
end
section
variable{X:Cx}{st:j9}{rest:List j9}{t u:TS}{e:j3}{te:TE}{pos:Pos}
noncomputable def ZF9:TS:=λD σ H=>D.nx σ H
noncomputable def tSeq(t u:TS):TS:=λD σ H=>t {D with nx:=u D} σ H
theorem ZHQ:PSs X [] ZF9:=λ_ _ σ H _ I h=>wpAny_execs_nil ⟨σ,H,I,h⟩
theorem ZFa(h1:PS X st t)(h2:PSs X rest u):PSs X (st::rest) (tSeq t u):=by
 intro xw s σ H D I h;refine wpAny_execs_cons (thn (h1 xw s σ H {D with nx:=u D} I h) λf s1 q=>?_);cases f with
 |next=>
  obtain⟨σ',H',I',q⟩:=q;exact h2 xw s1 σ' H' D I' q
 |ret v=>exact q
 |brk=>exact q
 |cont=>exact q
theorem ZA2(h1:PS X st t):PSs X [st] t:=by
 intro xw s σ H D I h;refine wpAny_execs_cons (thn (h1 xw s σ H D I h) λf s1 q=>?_);cases f with
 |next=>exact wpAny_execs_nil q
 |ret v=>exact q
 |brk=>exact q
 |cont=>exact q
theorem Inv.quiet(I:Inv X xw σ H s):interactive X.env=xA:=by simp[interactive,I.ok.kind]
noncomputable def ZEx(te:TE):TS:=λD σ H=>te σ H λ_ H1=>D.nx σ H1
theorem ZG1(he:PE X e te)(hs:swapsWith e xy pos.line X.env=pure xA:=by rfl):PS X (.Expr e pos) (ZEx te):=by intro xw s σ H D I h;exact wpAny_Expr_any (thn (he xw s σ H _ I h) λv s1 ⟨x,H1,I1,r1,q1⟩=>⟨σ,H1,I1,q1⟩) I.quiet hs
noncomputable def tRet(te:TE):TS:=λD σ H=>te σ H D.rt
theorem ZA9(he:PE X e te):PS X (.Return (xk e) pos) (tRet te):=by intro xw s σ H D I h;exact wpAny_Return_some (thn (he xw s σ H _ I h) λv s1 ⟨x,H1,I1,r1,q1⟩=>⟨x,σ,H1,I1,r1,q1⟩)
noncomputable def tIfS(c:TT)(t u:TS):TS:=λD σ H=>c σ H λb H1=>if b=x0 then t D σ H1 else u D σ H1
theorem ZFF{c:j3}{a b:List j9}{tc:TT}(hc:PT X c tc)(ha:PSs X a t)(hb:PSs X b u):PS X (.If c a b pos) (tIfS tc t u):=by
 intro xw s σ H D I h;refine wpAny_If (thn (hc xw s σ H _ I h) λd s1 ⟨H1,I1,q1⟩=>?_);cases d with
 |true=>exact ha xw s1 σ H1 D I1 q1
 |false=>exact hb xw s1 σ H1 D I1 q1
end
noncomputable abbrev TG:=V->St->Hp->(St->Hp->Prop)->Prop
noncomputable abbrev TGs:=List V->St->Hp->(St->Hp->Prop)->Prop
def PG(X:Cx)(target:j3)(t:TG):Prop:=
 ∀(xw:List (j1×Obj))(s:j8)(σ:St)(H:Hp)(v:V)(u:jA)(Q:St->Hp->Prop),Inv X xw σ H s->RelV v u->t v σ H Q->
  jS (jM X.prog X.w) X.A (assign target X.env u) (λ_ s'=>∃σ' H',Inv X xw σ' H' s'/\Q σ' H') X.xe s
def PGs(X:Cx)(ts:List j3)(t:TGs):Prop:=
 ∀(xw:List (j1×Obj))(s:j8)(σ:St)(H:Hp)(vs:List V)(us:List jA)(Q:St->Hp->Prop),Inv X xw σ H s->Vals vs us->t vs σ H Q->
  jS (jM X.prog X.w) X.A (assignInOrder ((jC ts X.env).map (·.2)) us) (λ_ s'=>∃σ' H',Inv X xw σ' H' s'/\Q σ' H') X.xe s
noncomputable abbrev TSet:=V->V->V->Hp->(Hp->Prop)->Prop
def PSet(X:Cx)(t:TSet):Prop:=
 ∀(xw:List (j1×Obj))(s:j8)(σ:St)(H:Hp)(o i v:V)(ov iv u:jA)(Q:Hp->Prop),Inv X xw σ H s->RelV o ov->RelV i iv->RelV v u->t o i v H Q->
  jS (jM X.prog X.w) X.A (setItem ov iv u) (λ_ s'=>∃H',Inv X xw σ H' s'/\Q H') X.xe s
noncomputable abbrev TIp:=V->V->Hp->VK->Prop
def PIp(X:Cx)(op:Operator)(t:TIp):Prop:=
 ∀(xw:List (j1×Obj))(s:j8)(σ:St)(H:Hp)(x y:V)(v u:jA)(Q:VK),Inv X xw σ H s->RelV x v->RelV y u->t x y H Q->
  jS (jM X.prog X.w) X.A (inplaceOp op v u) (EP X xw σ Q) X.xe s
section
variable{X:Cx}{pos:Pos}
noncomputable def Vz(i:Nat):TG:=λv σ H Q=>Q (σ.set i (xk v)) H
theorem ZGY(hN:X.N.Nodup)(hi:X.N[i]?=xk x)(hx:Loc X.env.scope x)(hf:X.fn x=x0∨X.env.scope.names.lookup x=xk .local:=by first|exact .inl rfl|exact .inr rfl|assumption):PG X (.Name x pos) (Vz i):=by intro xw s σ H v u Q I r h;exact wpAny_assign_Name (Ob I hN hi hx r (λs' I'=>⟨_,H,I',h⟩) hf)
noncomputable def gNil:TGs:=λvs σ H Q=>vs=[]/\Q σ H
noncomputable def ZDB(t:TG)(u:TGs):TGs:=λvs σ H Q=>∃v r,vs=v::r/\t v σ H λσ' H'=>u r σ' H' Q
theorem ZGZ:PGs X [] gNil:=by intro xw s σ H vs us Q I r h;obtain⟨e,h⟩:=h;subst e;cases r;exact assignInOrder_nil ⟨σ,H,I,h⟩
theorem ZAm{es:List j3}{t:TG}{u:TGs}(h1:PG X e t)(h2:PGs X es u)
  (hs:(jC (e::es) X.env).map (·.2)=assign e X.env::(jC es X.env).map (·.2):=by rfl):PGs X (e::es) (ZDB t u):=by
 intro xw s σ H vs us Q I r h;obtain⟨v,vr,e1,h⟩:=h;subst e1;cases r with
 |cons r rr=>
  rw[hs];refine assignInOrder_cons (thn (h1 xw s σ H _ _ _ I r h) λ_ s1 ⟨σ1,H1,I1,q1⟩=>?_);exact h2 xw s1 σ1 H1 _ _ Q I1 rr q1
noncomputable def gTup(K:PySem.W.Frag)(n:Nat)(t:TGs):TG:=λv σ H Q=>∃a xs,v=.ref a/\SqT K H a xs/\xs.length=n/\t xs σ H Q
theorem ZEV{es:List j3}{k:Nat}{t:TGs}{n:Nat}(hc:X.calm=x0)(h:PGs X es t)
  (hn:(jC es X.env).length=n:=by rfl) (hst:(jC es X.env).findIdx? (·.1)=xy:=by rfl):PG X (.Tuple es k pos) (gTup X.K n t):=by
 intro xw s σ H v u Q I r hw;obtain⟨a,xs,e1,hq,hl,hw⟩:=hw;subst e1;cases r;obtain⟨its,rv,ht,hz⟩:=I.tuple hq;refine assign_Tuple_tuple (I.ok.hd hc) ht (by simp[hn,<-hl,rv.length]) hst λh' hx=>?_
 have I1:Inv X xw σ H {s with heap:=h'}:=I.kept (t':=s.toks) λb o e=>hx b o (zB (zx e)) e
 exact h xw _ σ H xs _ Q I1 (by simpa using rv) hw
noncomputable def gSub(to ti:TE)(t:TSet):TG:=λv σ H Q=>to σ H λo H1=>ti σ H1 λi H2=>t o i v H2 λH3=>Q σ H3
theorem ZAR{o i:j3}{to ti:TE}{t:TSet}(ho:PE X o to)(hi:PE X i ti)(hs:PSet X t)
  (ha:∀v,assign (.Subscript o i pos) X.env v=(do
   let ov<-holding [v] (eval o X.env);let iv<-holding [v,ov] (eval i X.env)
   standAt pos
   holding [v,ov,iv] (setItem ov iv v)
   release [v,ov,iv] []):=by intro _;rfl):PG X (.Subscript o i pos) (gSub to ti t):=by
 intro xw s σ H v u Q I r h;rw[ha];refine jT (xJ (thn (ho xw s σ H _ I h) λov s1 ⟨x,H1,I1,r1,q1⟩=>?_));refine jT (xJ (thn (hi xw s1 σ H1 _ I1 q1) λiv s2 ⟨y,H2,I2,r2,q2⟩=>?_));refine jT (wpAny_standAt (jT (xJ (thn (hs xw s2 σ H2 x y v ov iv u _ I2 r1 r2 r q2) λ_ s3 ⟨H3,I3,q3⟩=>?_))));exact wpAny_release ⟨σ,H3,I3,q3⟩
noncomputable def Pg(te:TE)(g:TG):TS:=λD σ H=>te σ H λx H1=>g x σ H1 D.nx
theorem ZAo{g:TG}(he:PE X e te)(hg:PG X tg g)(hs:swapsWithSole [tg] e pos.line X.env=pure xA:=by rfl)(hw:swappedStores [tg] e X.env=pure xy:=by rfl)
  (h1:(jC [tg] X.env).map (·.2)=[assign tg X.env]:=by rfl):PS X (.Assign [tg] e pos) (Pg te g):=by
 intro xw s σ H D I h;refine wpAny_Assign_stores (thn (he xw s σ H _ I h) λv s1 ⟨x,H1,I1,r1,q1⟩=>?_) hs hw;rw[h1];exact thn (hg xw s1 σ H1 x v _ I1 r1 q1) λ_ s2 q=>q
theorem ZG5{pos':Pos}(hN:X.N.Nodup)(hi:X.N[i]?=xk x)(hx:Loc X.env.scope x)(he:PE X e te)(hs:swapsWith e (xk (.Name x pos')) pos.line X.env=pure xA:=by rfl)(hf:X.fn x=x0∨X.env.scope.names.lookup x=xk .local:=by first|exact .inl rfl|exact .inr rfl|assumption):
  PS X (.Assign [.Name x pos'] e pos) (Pg te (Vz i)):=by
 intro xw s σ H D I h;refine wpAny_Assign_Name (thn (he xw s σ H _ I h) λv s1 ⟨y,H1,I1,r1,q1⟩=>?_) hs;exact Ob I1 hN hi hx r1 (λs2 I2=>⟨_,H1,I2,q1⟩) hf
noncomputable def tAug(i:Nat)(te:TE)(ti:TIp):TS:=λD σ H=>∃x,σ[i]?=xk (xk x)/\te σ H λy H1=>ti x y H1 λz H2=>D.nx (σ.set i (xk z)) H2
theorem ZCG{op:Operator}{ti:TIp}{pos':Pos}(hN:X.N.Nodup)(hi:X.N[i]?=xk x)(hx:Loc X.env.scope x)(he:PE X e te)(ho:PIp X op ti)(hf:X.fn x=x0∨X.env.scope.names.lookup x=xk .local:=by first|exact .inl rfl|exact .inr rfl|assumption):
  PS X (.AugAssign (.Name x pos') op e pos) (tAug i te ti):=by
 intro xw s σ H D I h;obtain⟨v,e1,h⟩:=h;obtain⟨m,hn,hl⟩:=I.loc;have vis:Vis X.env.scope x:=by rcases hx with k|k;exact .inl k;exact .inr (.inl k)
 obtain⟨u,r,l⟩:=hl i x v hi e1 vis;refine wpAny_AugAssign_Name ?_
 have go:jS (jM X.prog X.w) X.A (eval e X.env) (λw s₂=>jS (jM X.prog X.w) X.A (inplaceOp op u w) (λr s₃=>jS (jM X.prog X.w) X.A (storeName X.env x r) (λ_=>SP X xw D .next) X.xe s₃) X.xe s₂) X.xe s:=by
  refine thn (he xw s σ H _ I h) λw s1 ⟨y,H1,I1,r1,q1⟩=>?_
  refine thn (ho xw s1 σ H1 v y u w _ I1 r r1 q1) λz s2 ⟨zv,H2,I2,r2,q2⟩=>?_
  exact Ob I2 hN hi hx r2 (λs3 I3=>⟨_,H2,I3,q2⟩) hf
 rcases l with⟨hk,hm⟩|⟨hk,c,hc,hcell⟩
 ·exact wpAny_loadName_local I.ok.kind hk hn hm go
 ·rcases hk with hk|hk
  ·exact wpAny_loadName_cell I.ok.kind hk hc hcell go
  ·rcases hx with k|k
   ·have:X.env.scope.names.lookup x=xk .free:=hk;rw[k]at this;cases this
   ·have:X.env.scope.names.lookup x=xk .free:=hk;rw[k]at this;cases this
noncomputable def ipI(f:Int->Int->Int):TIp:=λx y H Q=>∃i j,x=.int i/\y=.int j/\Q (.int (f i j)) H
theorem ZEj:PIp X .Add (ipI λi j=>i+j):=by intro xw s σ H x y v u Q I r1 r2 h;obtain⟨i,j,e1,e2,q⟩:=h;subst e1;subst e2;obtain⟨t,rfl⟩:=r1;obtain⟨t',rfl⟩:=r2;exact iadd_int ⟨.int _,H,I.tok _,⟨_,rfl⟩,q⟩
theorem ZGF:PIp X .Sub (ipI λi j=>i-j):=by intro xw s σ H x y v u Q I r1 r2 h;obtain⟨i,j,e1,e2,q⟩:=h;subst e1;subst e2;obtain⟨t,rfl⟩:=r1;obtain⟨t',rfl⟩:=r2;exact isub_int ⟨.int _,H,I.tok _,⟨_,rfl⟩,q⟩
end
section
variable{X:Cx}{pos:Pos}
end
structure It where
 go:Nat->Hp->Prop
 yld:Nat->Hp->V->Hp->Prop
 stop:Nat->Hp->Prop
def FpOk(X:Cx)(xw:List (j1×Obj))(H:Hp)(b:j1):Prop:=
 H b=xy/\b≠X.env.locals/\b∉X.fs/\(b∈X.ex∨X.s₀.heap.objs.size<=b)/\(∀x c,X.env.cells.lookup x=xk c->c≠b)/\∀p∈X.pn++xw,p.1≠b
theorem Inv.Gz{H':Hp}(I:Inv X xw σ H s)(hb:s.heap.objs.size<=b)(hn:H' b=xy):FpOk X xw H' b:=by
 refine⟨hn,qI (zW I.lt hb),I.nofs hb,.inr (zk I.sz hb),λx c e z=>?_,λp hp z=>?_⟩
 ·obtain⟨v,q⟩:=I.cell x c e;exact absurd (zW q.lt (by rw[z];exact hb)) (qQ _)
 ·exact absurd (zW (zx (I.pin p hp).1) (by rw[z];exact hb)) (qQ _)
structure Turn (P:j6) (w:jB) (K:PySem.W.Frag) (tg:j3) (J:It) (fp:List j1) (it:j1) (tn:Nat->Heap->Prop):Prop where
 mem:it∈fp
 obj:∀i h,tn i h->∀b∈fp,∃o,h.get? b=xk o/\∀v,o.data≠ .cell v
 keep:∀i h h',tn i h->(∀b∈fp,∀o,h.get? b=xk o->h'.get? b=xk o)->tn i h'
 item:∀(X:Cx),X.prog=P->X.w=w->X.K=K->X.calm=x0->∀(i:Nat)(xw:List (j1×Obj))(s:j8)(σ:St)(H:Hp)(E:jA->j8->Prop),Inv X xw σ H s->(∀b∈fp,FpOk X xw H b)->tn i s.heap->J.go i H->
  jS (jM P w) X.A (pyNext (.ref it)) (λr s1=>∃u,r=xk u/\
   jS (jM P w) X.A (jI tg (.ref it) u) (λ_ s2=>∃x H',Inv X xw σ H' s2/\RelV x u/\J.yld i H x H'/\tn (i+1) s2.heap/\∀b∈fp,H' b=xy) E s1) E s
 done:∀(X:Cx),X.prog=P->X.w=w->X.K=K->X.calm=x0->∀(i:Nat)(xw:List (j1×Obj))(s:j8)(σ:St)(H:Hp)(E:jA->j8->Prop),Inv X xw σ H s->(∀b∈fp,FpOk X xw H b)->tn i s.heap->J.stop i H->
  jS (jM P w) X.A (pyNext (.ref it)) (λr s1=>r=xy/\Inv X xw σ H s1) E s
 self:∀(A:j2)(i:Nat)(s:j8)(Q:jA->j8->Prop)(E:jA->j8->Prop),tn i s.heap->Q (.ref it) s->jS (jM P w) A (pyIter (.ref it)) Q E s
noncomputable abbrev TI:=St->Hp->(It->Hp->Prop)->Prop
def PIE(X:Cx)(xw:List (j1×Obj))(σ:St)(tg:j3)(R:It->Hp->Prop)(itv:jA)(s2:j8):Prop:=
 ∃(it:j1)(fp:List j1)(tn:Nat->Heap->Prop)(J:It)(H':Hp),itv=.ref it/\Inv X xw σ H' s2/\Turn X.prog X.w X.K tg J fp it tn/\tn 0 s2.heap/\(∀b∈fp,FpOk X xw H' b)/\R J H'
def PI(X:Cx)(tg iter:j3)(wi:TI):Prop:=
 ∀(xw:List (j1×Obj))(s:j8)(σ:St)(H:Hp)(R:It->Hp->Prop),Inv X xw σ H s->wi σ H R->
  jS (jM X.prog X.w) X.A (eval iter X.env) (λv s1=>jS (jM X.prog X.w) X.A (pyIter v) (PIE X xw σ tg R) X.xe s1) X.xe s
theorem Jk{M:Model}{it:j1}{o:Obj}{n:String}{vs:Array jA}(ho:s.heap.get? it=xk o)(hc:o.cls=.type n)(hd:o.data=.fields vs)
  (hn: ["enumerate","zip","dict_itemiterator","dict_reverseitemiterator","odict_iterator","itertools.zip_longest","itertools.pairwise"].contains n=xA) (hQ:Q () s):jS M A (jI tg (.ref it) u) Q E s:=by
 unfold jI
 cases tg<;>first
  |exact xK hQ
  | (cases u<;>first
    |exact xK hQ
    | (
      refine jT (wpAny_load ho ?_);rw[hc,hd];show jS M A (if(["enumerate","zip","dict_itemiterator","dict_reverseitemiterator","odict_iterator","itertools.zip_longest","itertools.pairwise"].contains n&&vs[0]?==xk (jN _))=x0 then _ else _) Q E s;rw[if_neg (by intro h;rw[hn,Bool.false_and]at h;cases h)];exact xK hQ))
noncomputable def Itl(K:PySem.W.Frag)(a:j1):It:=
 ⟨λi H=>∃xs x,SqL K H a xs/\xs[i]?=xk x,λi H x H'=>H'=H/\∀xs,SqL K H a xs->xs[i]?=xk x,λi H=>∃xs,SqL K H a xs/\xs.length<=i⟩
noncomputable def Itt(K:PySem.W.Frag)(a:j1):It:=
 ⟨λi H=>∃xs x,SqT K H a xs/\xs[i]?=xk x,λi H x H'=>H'=H/\∀xs,SqT K H a xs->xs[i]?=xk x,λi H=>∃xs,SqT K H a xs/\xs.length<=i⟩
noncomputable def Itr(lo:Int)(n:Nat):It:=⟨λi _=>i<n,λi H x H'=>H'=H/\x=.int (lo+i),λi _=>n<=i⟩
theorem ZDT(a it:j1):Turn P w K tg (Itl K a) [it] it (λi h=>h.IsListIter it a i) where
 mem:=by simp
 obj:=λi h st b hb=>by
  have e:b=it:=by simpa using hb
  subst e;obtain⟨o,e,c,d⟩:=st;exact⟨o,e,λv z=>by rw[d]at z;cases z⟩
 keep:=λi h h' st k=>st.at λo e=>k it (by simp) o e
 item:=by
  intro X hP hw hK hc i xw s σ H E I hf st hg;subst hP hw hK;obtain⟨xs,x,hq,hx⟩:=hg;obtain⟨its,rv,p,hz⟩:=I.list hq;obtain⟨u,hu,ru⟩:=rv.get hx;obtain⟨f0,f1,f2,f3,f4,f5⟩:=hf it (by simp);refine wpAny_pyNext_list_item st p.isList (x:=u) (by simpa using hu) λh' st' sb=>?_
  have I1:Inv X xw σ H {s with heap:=h'}:=I.turned (t':=s.toks) (λb o hb e=>(sb.2 b hb).trans e) f0 f1 f3 f4 f5;obtain⟨o,e,c,d⟩:=id st';exact⟨u,rfl,Jk (s:={s with heap:=h'}) e c d (by decide) ⟨x,H,I1,ru,⟨rfl,λys hy=>by rw[I.Pz hy hq];exact hx⟩,st',λb hb=>(hf b hb).1⟩⟩
 done:=by intro X hP hw hK hc i xw s σ H E I hf st hg;subst hP hw hK;obtain⟨xs,hq,hx⟩:=hg;obtain⟨its,rv,p,hz⟩:=I.list hq;obtain⟨f0,f1,f2,f3,f4,f5⟩:=hf it (by simp);have hl:=rv.length;exact wpAny_pyNext_list_end (I.ok.hd hc) st p.isList (by simp;lia) λh' eb=>⟨rfl,I.turned (t':=s.toks) (λb o hb e=>eb b o hb e) f0 f1 f3 f4 f5⟩
 self:=λ_ _ _ _ _ st h=>wpAny_pyIter_listiter st h
theorem ZGL(a it:j1):Turn P w K tg (Itt K a) [it] it (λi h=>h.IsTupleIter it a i) where
 mem:=by simp
 obj:=λi h st b hb=>by
  have e:b=it:=by simpa using hb
  subst e;obtain⟨o,e,c,d⟩:=st;exact⟨o,e,λv z=>by rw[d]at z;cases z⟩
 keep:=λi h h' st k=>st.at λo e=>k it (by simp) o e
 item:=by
  intro X hP hw hK hc i xw s σ H E I hf st hg;subst hP hw hK;obtain⟨xs,x,hq,hx⟩:=hg;obtain⟨its,rv,p,hz⟩:=I.tuple hq;obtain⟨u,hu,ru⟩:=rv.get hx;obtain⟨f0,f1,f2,f3,f4,f5⟩:=hf it (by simp)
  refine wpAny_pyNext_tuple_item st (show s.heap.IsTuple a its.toArray from p) (x:=u) (by simpa using hu) λh' st' sb=>?_
  have I1:Inv X xw σ H {s with heap:=h'}:=I.turned (t':=s.toks) (λb o hb e=>(sb.2 b hb).trans e) f0 f1 f3 f4 f5;obtain⟨o,e,c,d⟩:=id st';exact⟨u,rfl,Jk (s:={s with heap:=h'}) e c d (by decide) ⟨x,H,I1,ru,⟨rfl,λys hy=>by rw[I.Qh hy hq];exact hx⟩,st',λb hb=>(hf b hb).1⟩⟩
 done:=by
  intro X hP hw hK hc i xw s σ H E I hf st hg;subst hP hw hK;obtain⟨xs,hq,hx⟩:=hg;obtain⟨its,rv,p,hz⟩:=I.tuple hq;obtain⟨f0,f1,f2,f3,f4,f5⟩:=hf it (by simp);have hl:=rv.length
  exact wpAny_pyNext_tuple_end (I.ok.hd hc) st (show s.heap.IsTuple a its.toArray from p) (by simp;lia) λh' eb=>⟨rfl,I.turned (t':=s.toks) (λb o hb e=>eb b o hb e) f0 f1 f3 f4 f5⟩
 self:=λ_ _ _ _ _ st h=>wpAny_pyIter_tupleiter st h
theorem ZBM(it:j1)(lo:Int)(n:Nat):Turn P w K tg (Itr lo n) [it] it (λi h=>IsRangeIter h it (lo+(i:Nat)*1) ((n:Int)-(i:Nat)) 1) where
 mem:=by simp
 obj:=λi h st b hb=>by
  have e:b=it:=by simpa using hb
  subst e;exact⟨_,st,λv z=>by have z':Data.fields _=Data.cell v:=z;cases z'⟩
 keep:=λi h h' st k=>k it (by simp) _ st
 item:=by
  intro X hP hw hK hc i xw s σ H E I hf st hg;subst hP hw hK;obtain⟨f0,f1,f2,f3,f4,f5⟩:=hf it (by simp);have W:=Walks.range (prog:=X.prog) (w:=X.w) (I.ok.hd hc) it lo 1 n;refine W.item i s _ _ hg st λv h' tk hv st' kk=>?_
  obtain⟨t,rfl⟩:=hv;have I1:Inv X xw σ H {s with heap:=h',toks:=tk}:=I.turned (λb o hb e=>kk b o (by simpa using hb) e) f0 f1 f3 f4 f5;refine⟨_,rfl,Jk (s:={s with heap:=h',toks:=tk}) (n:="range_iterator") st' rfl rfl (by decide) ⟨.int (lo+i),H,I1,⟨t,?_⟩,⟨rfl,rfl⟩,st',λb hb=>(hf b hb).1⟩⟩;rw[Int.mul_one]
 done:=by intro X hP hw hK hc i xw s σ H E I hf st hg;subst hP hw hK;obtain⟨f0,f1,f2,f3,f4,f5⟩:=hf it (by simp);exact wpAny_pyNext_range_end (I.ok.hd hc) st (by have:n<=i:=hg;lia) λh' eb=>⟨rfl,I.turned (t':=s.toks) (λb o hb e=>eb b o hb e) f0 f1 f3 f4 f5⟩
 self:=λ_ _ _ _ _ st h=>wpAny_pyIter_rangeiter st h
section
variable{X:Cx}{tg:j3}
def ZC2(K:PySem.W.Frag)(tl:TE):TI:=λσ H R=>tl σ H λx H1=>∃a,x=.ref a/\(∃xs,SqL K H1 a xs)/\R (Itl K a) H1
def iTup(K:PySem.W.Frag)(tl:TE):TI:=λσ H R=>tl σ H λx H1=>∃a,x=.ref a/\(∃xs,SqT K H1 a xs)/\R (Itt K a) H1
theorem T5{l:j3}{tl:TE}(hl:PE X l tl):PI X tg l (ZC2 X.K tl):=by
 intro xw s σ H R I h;refine thn (hl xw s σ H _ I h) λv s1 ⟨x,H1,I1,r1,q1⟩=>?_
 obtain⟨a,e,⟨xs,hq⟩,q⟩:=q1;subst e;cases r1;obtain⟨its,rv,p,hz⟩:=I1.list hq;refine wpAny_pyIter_list p.isList ?_;refine⟨s1.heap.objs.size,[s1.heap.objs.size],_,_,H1,rfl,I1.kept (t':=s1.toks) λb o e=>zZ _ e,ZDT a _,⟨_,zy _ rfl,rfl,rfl⟩,λb hb=>?_,q⟩;have e:b=s1.heap.objs.size:=by simpa using hb
 subst e;exact I1.Gz (zq _) (I1.hok.fresh (zq _))
theorem ZC3{l:j3}{tl:TE}(hl:PE X l tl):PI X tg l (iTup X.K tl):=by
 intro xw s σ H R I h;refine thn (hl xw s σ H _ I h) λv s1 ⟨x,H1,I1,r1,q1⟩=>?_
 obtain⟨a,e,⟨xs,hq⟩,q⟩:=q1;subst e;cases r1;obtain⟨its,rv,p,hz⟩:=I1.tuple hq
 refine wpAny_pyIter_tuple (show s1.heap.IsTuple a its.toArray from p) ?_
 refine⟨s1.heap.objs.size,[s1.heap.objs.size],_,_,H1,rfl,I1.kept (t':=s1.toks) λb o e=>zZ _ e,ZGL a _,⟨_,zy _ rfl,rfl,rfl⟩,λb hb=>?_,q⟩;have e:b=s1.heap.objs.size:=by simpa using hb
 subst e;exact I1.Gz (zq _) (I1.hok.fresh (zq _))
theorem ZDj{R:It->Hp->Prop}{lo hi:Int}{t u v:Tok}{tk:Nat}(I:Inv X xw σ H s)(h1: -(2^62)<=lo)(h2:lo<2^62)(h3: -(2^62)<=hi)(h4:hi<2^62)
  (q:R (Itr lo (hi-lo).toNat) H):jS (jM X.prog X.w) X.A (pyIter (.ref s.heap.objs.size)) (PIE X xw σ tg R) E {s with heap:=s.heap.push {cls:=.type "range",data:=.fields #[.int lo t,.int hi u,.int 1 v]},toks:=tk}:=by
 refine wpAny_pyIter_range (IsRange.new ..) (small_one h1 h2 h3 h4) ?_;have I1:Inv X xw σ H {s with heap:=s.heap.push {cls:=.type "range",data:=.fields #[.int lo t,.int hi u,.int 1 v]},toks:=tk}:=I.kept λb o e=>zZ _ e
 refine⟨(s.heap.push {cls:=.type "range",data:=.fields #[.int lo t,.int hi u,.int 1 v]}).objs.size,[(s.heap.push {cls:=.type "range",data:=.fields #[.int lo t,.int hi u,.int 1 v]}).objs.size],_,_,H,rfl,
  I1.kept (t':=tk) λb o e=>zZ _ e,ZBM _ lo (hi-lo).toNat,?_,λb hb=>?_,q⟩
 ·have e1:lo+((0:Nat):Int)*1=lo:=by simp
  have e2:(((hi-lo).toNat:Nat):Int)-((0:Nat):Int)=Builtin.Range.rangeSize lo hi 1:=by rw[rangeSize_one];split <;> lia
  show IsRangeIter _ _ (lo+((0:Nat):Int)*1) ((((hi-lo).toNat:Nat):Int)-((0:Nat):Int)) 1;rw[e1,e2];exact zy _ rfl
 ·have e:b=(s.heap.push {cls:=.type "range",data:=.fields #[.int lo t,.int hi u,.int 1 v]}).objs.size:=by simpa using hb
  subst e;exact I1.Gz (zq _) (I1.hok.fresh (zq _))
def ZDh(ta:TA):TI:=λσ H R=>ta σ H λvs H1=>∃j:Int,vs=[.int j]/\ -(2^62)<=j/\j<2^62/\R (Itr 0 j.toNat) H1
theorem ZBw{a:j3}{ta:TA}{p pos:Pos}(hg:Gl X "range")(hm:X.mg "range"=xy)(ha:PA X [a] ta)(hs:jP [a] X.env=[(xA,eval a X.env)]:=by rfl):PI X tg (.Call (.Name "range" p) [a] [] pos) (ZDh ta):=by
 intro xw s σ H R I h;refine Call_ (Hz I hg hm boot_range (PyProof.Rows.callWith_type1 (thn (ha pos xw s σ H _ I h) λus s1 ⟨vs,H1,I1,r1,q1⟩=>?_) hs rfl));obtain⟨j,e,q1,q2,q⟩:=q1;subst e;cases r1 with
 |cons r rr=>
  cases rr;obtain⟨t,rfl⟩:=r;exact call_range_1 (ZDj I1 (by lia) (by lia) q1 q2 (by simpa using q))
def tFor(wi:TI)(g:TG)(tb:TS):TS:=λD σ H=>wi σ H λJ H1=>∃W:Nat->Nat->St->Hp->Prop,(∃m,W 0 m σ H1)/\∀i m σ H,W i m σ H->
 (J.stop i H/\D.nx σ H)∨(J.go i H/\∃N:St->Hp->Prop,(∀σ' H',N σ' H'->∃m',m'<m/\W (i+1) m' σ' H')/\∀x H',J.yld i H x H'->g x σ H' λσ2 H2=>tb {D with nx:=N,ct:=N,bk:=D.nx} σ2 H2)
noncomputable def Hj(fp:List j1)(h:Heap):List (j1×Obj):=fp.filterMap λb=>(h.get? b).map λo=>(b,o)
theorem Lw{o:Obj}(hb:b∈fp)(e:h.get? b=xk o):(b,o)∈Hj fp h:=List.mem_filterMap.mpr ⟨b,hb,by rw[e];rfl⟩
theorem Z1{p:j1×Obj}(hp:p∈Hj fp h):p.1∈fp/\h.get? p.1=xk p.2:=by
 obtain⟨b,hb,e⟩:=List.mem_filterMap.mp hp;cases q:h.get? b with
 |none=>rw[q]at e;cases e
 |some o=>
  rw[q]at e;have e':(b,o)=p:=Option.some.inj e;subst e';exact⟨hb,q⟩
theorem Inv.pinned(I:Inv X xw σ H s)(hf:∀b∈fp,FpOk X xw H b)(ho:∀b∈fp,∃o,s.heap.get? b=xk o/\∀v,o.data≠ .cell v):Inv X (xw++Hj fp s.heap) σ H s:=
 I.G8 λp hp=>(qB.mp hp).elim (λz=>I.pin p (zL _ z)) λz=>by obtain⟨hb,e⟩:=Z1 z;obtain⟨f0,f1,f2,_⟩:=hf p.1 hb;obtain⟨o,e',d⟩:=ho p.1 hb;rw[e]at e';cases e';exact⟨e,f0,f1,f2,d⟩
theorem Inv.unpinned{pl:List (j1×Obj)}(I:Inv X (xw++pl) σ H s):Inv X xw σ H s:=I.G8 λp hp=>I.pin p (zL _ (jy _ hp))
theorem ZGU{iter:j3}{body:List j9}{wi:TI}{g:TG}{tb:TS}{pos:Pos}(hp:PassesOwn (jM X.prog X.w) X.A X.env X.xe)(hc:X.calm=x0)(hi:PI X tg iter wi)(hg:PG X tg g)(hb:PSs X body tb)
  (hs:∀x,foldedSetIterable iter X.env x=pure x:=by intro _;rfl):PS X (.For tg iter body [] pos) (tFor wi g tb):=by
 intro xw s σ H D I h;refine wpAny_For (thn (hi xw s σ H _ I h) λv s1 h1=>thn h1 λitv s2 h2=>?_) hs;obtain⟨it,fp,tn,J,H2,e,I2,T,st2,f2,W,⟨m0,w0⟩,turn⟩:=h2;subst e;have stat:∀{H':Hp},(∀b∈fp,H' b=xy)->∀b∈fp,FpOk X xw H' b:=λhn b hb=>⟨hn b hb,(f2 b hb).2⟩
 refine codeAny_forLoop_any (λn s'=>∃i σ' H',Inv X xw σ' H' s'/\tn i s'.heap/\(∀b∈fp,H' b=xy)/\W i n σ' H') ?_ m0 ⟨0,σ,H2,I2,st2,λb hb=>(f2 b hb).1,w0⟩;rintro n s3 ⟨i,σ3,H3,I3,st3,fr3,w3⟩;rcases turn i n σ3 H3 w3 with⟨stop,qn⟩|⟨go,N,hN,step⟩
 ·refine xW hp (thn (T.done X rfl rfl rfl hc i xw s3 σ3 H3 X.xe I3 (stat fr3) st3 stop) λr s4 ⟨hr,I4⟩=>?_);subst hr;exact wpAny_execs_nil ⟨σ3,H3,I4,qn⟩
 ·refine xW hp (thn (T.item X rfl rfl rfl hc i xw s3 σ3 H3 X.xe I3 (stat fr3) st3 go) λr s4 ⟨u,hr,h4⟩=>?_);subst hr;refine xW hp (thn h4 λ_ s5 ⟨x,H5,I5,r5,y5,st5,fr5⟩=>?_);have I5':=I5.pinned (stat fr5) (T.obj _ _ st5);refine xW hp (thn (hg _ s5 σ3 H5 x u _ I5' r5 (step x H5 y5)) λ_ s6 ⟨σ6,H6,I6,q6⟩=>?_);refine xW hp (thn (hb _ s6 σ6 H6 _ I6 q6) λf s7 q7=>?_)
  have again:∀{σ7:St}{H7:Hp},Inv X (xw++Hj fp s5.heap) σ7 H7 s7->N σ7 H7->∃m,m<n/\∃i σ' H',Inv X xw σ' H' s7/\tn i s7.heap/\(∀b∈fp,H' b=xy)/\W i m σ' H':=λ{σ7 H7}I7 n7=>by obtain⟨m',hm,w7⟩:=hN σ7 H7 n7;refine⟨m',hm,i+1,σ7,H7,I7.unpinned,T.keep _ _ _ st5 λb hb o e=>(I7.pin (b,o) (zL _ (zL _ (Lw hb e)))).1,λb hb=>?_,w7⟩;obtain⟨o,e,d⟩:=T.obj _ _ st5 b hb;exact(I7.pin (b,o) (zL _ (zL _ (Lw hb e)))).2.1
  cases f with
  |next=>obtain⟨σ7,H7,I7,n7⟩:=q7;exact again I7 n7
  |cont=>obtain⟨σ7,H7,I7,n7⟩:=q7;exact again I7 n7
  |brk=>obtain⟨σ7,H7,I7,q7⟩:=q7;exact⟨σ7,H7,I7.unpinned,q7⟩
  |ret v=>obtain⟨x7,σ7,H7,I7,r7,q7⟩:=q7;exact⟨x7,σ7,H7,I7.unpinned,r7,q7⟩
end
noncomputable abbrev R2:=V->V->Hp->VK->Prop
variable{r:R2}
def OpR(X:Cx)(f:jA->jA->Sem jA)(r:R2):Prop:=
 ∀(xw:List (j1×Obj))(s:j8)(σ:St)(H:Hp)(x y:V)(v u:jA)(Q:VK),Inv X xw σ H s->RelV x v->RelV y u->r x y H Q->
  jS (jM X.prog X.w) X.A (f v u) (EP X xw σ Q) X.xe s
def UnR(X:Cx)(f:jA->Sem jA)(r:V->Hp->VK->Prop):Prop:=
 ∀(xw:List (j1×Obj))(s:j8)(σ:St)(H:Hp)(x:V)(v:jA)(Q:VK),Inv X xw σ H s->RelV x v->r x H Q->
  jS (jM X.prog X.w) X.A (f v) (EP X xw σ Q) X.xe s
def CallR(X:Cx)(f:jA)(r:List V->Hp->VK->Prop):Prop:=
 ∀(xw:List (j1×Obj))(s:j8)(σ:St)(H:Hp)(xs:List V)(us:List jA)(Q:VK),Inv X xw σ H s->Vals xs us->r xs H Q->
  jS (jM X.prog X.w) X.A (call f us) (EP X xw σ Q) X.xe s
noncomputable def tOp(r:R2)(ta tb:TE):TE:=λσ H Q=>ta σ H λx H1=>tb σ H1 λy H2=>r x y H2 Q
noncomputable def tUn(r:V->Hp->VK->Prop)(ta:TE):TE:=λσ H Q=>ta σ H λx H1=>r x H1 Q
noncomputable def rI(C:Int->Int->Prop)(g:Int->Int->V):R2:=λx y H Q=>∃i j,x=.int i/\y=.int j/\C i j/\Q (g i j) H
noncomputable def rI0(g:Int->Int->V):R2:=λx y H Q=>∃i j,x=.int i/\y=.int j/\Q (g i j) H
def rU(g:Int->V):V->Hp->VK->Prop:=λx H Q=>∃i,x=.int i/\Q (g i) H
section
variable{X:Cx}{a b c:j3}{ta tb tc:TE}{pos:Pos}
theorem binT(ha:PE X a ta)(hb:PE X b tb){R:V->V->Hp->Prop}(I:Inv X xw σ H s)
  (h:ta σ H λx H1=>tb σ H1 λy H2=>R x y H2) {Q:jA->j8->Prop} {f:jA->jA->Sem jA}
  (hf:∀v u s2 x y H2,Inv X xw σ H2 s2->RelV x v->RelV y u->R x y H2->jS (jM X.prog X.w) X.A (f v u) Q X.xe s2):
  jS (jM X.prog X.w) X.A (eval a X.env) (λv s₁=>jS (jM X.prog X.w) X.A (eval b X.env) (λu s₂=>jS (jM X.prog X.w) X.A (f v u) Q X.xe s₂) X.xe s₁) X.xe s:=by
 refine thn (ha xw s σ H _ I h) λv s1 ⟨x,H1,I1,r1,q1⟩=>?_
 refine thn (hb xw s1 σ H1 _ I1 q1) λu s2 ⟨y,H2,I2,r2,q2⟩=>?_
 exact hf v u s2 x y H2 I2 r1 r2 q2
theorem ZCN{op:Operator}(ho:OpR X (jE op) r)(ha:PE X a ta)(hb:PE X b tb):PE X (.BinOp a op b pos) (tOp r ta tb):=by intro xw s σ H Q I h;exact wpAny_BinOp (binT ha hb I h λv u s2 x y H2 I2 rx ry q=>ho xw s2 σ H2 x y v u Q I2 rx ry q)
theorem ZEI{op:UnaryOp}{r:V->Hp->VK->Prop}(ho:UnR X (unaryOp op) r)(ha:PE X a ta):PE X (.UnaryOp op a pos) (tUn r ta):=by intro xw s σ H Q I h;exact UnaryOp_ (thn (ha xw s σ H _ I h) λv s1 ⟨x,H1,I1,r1,q1⟩=>ho xw s1 σ H1 x v Q I1 r1 q1)
theorem opI{C:Int->Int->Prop}{g:Int->Int->Int}
  (rule:∀(i j:Int)(t u:Tok)(s:j8)(Q:jA->j8->Prop)(E:jA->j8->Prop),C i j->Q (.int (g i j) s.toks) {s with toks:=s.toks+1}->jS (jM X.prog X.w) X.A (f (.int i t) (.int j u)) Q E s):
  OpR X f (rI C λi j=>.int (g i j)):=by
 intro xw s σ H x y v u Q I rx ry h;obtain⟨i,j,rfl,rfl,hc,q⟩:=h;obtain⟨t,rfl⟩:=rx;obtain⟨t',rfl⟩:=ry;exact rule i j t t' s _ _ hc ⟨.int (g i j),H,I.tok _,⟨_,rfl⟩,q⟩
theorem opI0{g:Int->Int->Int}
  (rule:∀(i j:Int)(t u:Tok)(s:j8)(Q:jA->j8->Prop)(E:jA->j8->Prop),Q (.int (g i j) s.toks) {s with toks:=s.toks+1}->jS (jM X.prog X.w) X.A (f (.int i t) (.int j u)) Q E s):
  OpR X f (rI0 λi j=>.int (g i j)):=by
 intro xw s σ H x y v u Q I rx ry h;obtain⟨i,j,rfl,rfl,q⟩:=h;obtain⟨t,rfl⟩:=rx;obtain⟨t',rfl⟩:=ry;exact rule i j t t' s _ _ ⟨.int (g i j),H,I.tok _,⟨_,rfl⟩,q⟩
theorem R9{g:Int->Int->Bool}
  (rule:∀(i j:Int)(t u:Tok)(s:j8)(Q:jA->j8->Prop)(E:jA->j8->Prop),Q (.bool (g i j)) s->jS (jM X.prog X.w) X.A (f (.int i t) (.int j u)) Q E s):
  OpR X f (rI0 λi j=>.bl (g i j)):=by
 intro xw s σ H x y v u Q I rx ry h;obtain⟨i,j,rfl,rfl,q⟩:=h;obtain⟨t,rfl⟩:=rx;obtain⟨t',rfl⟩:=ry;exact rule i j t t' s _ _ ⟨.bl (g i j),H,I,rfl,q⟩
def CPow(i j:Int):Prop:=0<=j/\j<=1000000/\i.natAbs<2^64
def CMul(i j:Int):Prop:=(-(2^64)<i/\i<2^64)∨(-(2^64)<j/\j<2^64)
theorem CMul.ok{i j:Int}(h:CMul i j):IntMulOk i j:=by
 rcases h with⟨h1,h2⟩|⟨h1,h2⟩
 ·exact .of_left (intBits_le_64 h1 h2)
 ·exact .of_right (intBits_le_64 h1 h2)
theorem ZED:OpR X (jE .Add) (rI0 λi j=>.int (i+j)):=opI0 λ_ _ _ _ _ _ _ q=>add_int q
theorem ZBF:OpR X (jE .Sub) (rI0 λi j=>.int (i-j)):=opI0 λ_ _ _ _ _ _ _ q=>sub_int q
theorem ZEl:OpR X (jE .Mod) (rI (λ_ j=>0<j) λi j=>.int (i%j)):=opI λi j _ _ _ _ _ hc q=>by have h1:(0:Int)<j:=hc;exact mod_int' (by lia) (by rw[Int.fmod_eq_emod_of_nonneg i (by lia)];exact q)
theorem ZCW:OpR X (jE .Pow) (rI CPow λi j=>.int (i^j.toNat)):=opI λ_ _ _ _ _ _ _ hc q=>pow_int_small hc.1 hc.2.1 hc.2.2 q
theorem unI{f:jA->Sem jA}{g:Int->Int}
  (rule:∀(i:Int)(t:Tok)(s:j8)(Q:jA->j8->Prop)(E:jA->j8->Prop),Q (.int (g i) s.toks) {s with toks:=s.toks+1}->jS (jM X.prog X.w) X.A (f (.int i t)) Q E s):
  UnR X f (rU λi=>.int (g i)):=by
 intro xw s σ H x v Q I rx h;obtain⟨i,rfl,q⟩:=h;obtain⟨t,rfl⟩:=rx;exact rule i t s _ _ ⟨.int (g i),H,I.tok _,⟨_,rfl⟩,q⟩
theorem ZGf:UnR X (unaryOp .USub) (rU λi=>.int (-i)):=unI λ_ _ _ _ _ q=>neg_int q
end
section
variable{X:Cx}{a b c:j3}{ta tb tc:TE}{pos:Pos}
theorem O4{Q:VK}{k k':Bool}(I:Inv X xw σ H s)(q:Q (.bl k) H)(e:k=k'):EP X xw σ Q (.bool k') s:=by subst e;exact⟨.bl k,H,I,rfl,q⟩
theorem ZBq:OpR X (jG .Lt) (rI0 λi j=>.bl (decide (i<j))):=R9 λ_ _ _ _ _ _ _ q=>lt_int q
theorem ZA8:OpR X (jG .LtE) (rI0 λi j=>.bl (decide (i<=j))):=R9 λ_ _ _ _ _ _ _ q=>le_int q
theorem ZDP:OpR X (jG .Gt) (rI0 λi j=>.bl (decide (j<i))):=R9 λ_ _ _ _ _ _ _ q=>gt_int q
theorem ZEp:OpR X (jG .Lt) (λx y H Q=>∃i j,x=.str i/\y=.str j/\Q (.bl (decide (i.cps.toList<j.cps.toList))) H):=by intro xw s σ H x y v u Q I rx ry h;obtain⟨i,j,rfl,rfl,q⟩:=h;obtain⟨t,rfl⟩:=rx;obtain⟨t',rfl⟩:=ry;exact lt_str (O4 I q rfl)
theorem ZCg:OpR X (jG .IsNot) (λx y H Q=>y=.non/\Q (.bl (!decide (x=.non))) H):=by
 intro xw s σ H x y v u Q I rx ry h;obtain⟨rfl,q⟩:=h;cases ry;refine isnot_none_gen (O4 I q ?_)
 cases x<;>first
  |(cases rx;rfl)
  |(obtain⟨t,rfl⟩:=rx;rfl)
theorem ZDv:OpR X (jG .NotIn) (λx y H Q=>∃i j,x=.str i/\y=.str j/\Q (.bl (!(!(Builtin.Str.occurrences j i 0 j.length 1).isEmpty))) H):=by intro xw s σ H x y v u Q I rx ry h;obtain⟨i,j,rfl,rfl,q⟩:=h;obtain⟨t,rfl⟩:=rx;obtain⟨t',rfl⟩:=ry;exact notIn_str (O4 I q rfl)
theorem OpR.or{r':R2}(h:OpR X f r)(h':OpR X f r'):OpR X f (λx y H Q=>r x y H Q∨r' x y H Q):=by
 intro xw s σ H x y v u Q I rx ry q;rcases q with q|q
 ·exact h xw s σ H x y v u Q I rx ry q
 ·exact h' xw s σ H x y v u Q I rx ry q
theorem nomark(b:j3)(h:op≠ .In:=by decide)(h2:op≠ .NotIn:=by decide):behindInMarks op b=xA:=by
 have e1:(op==CmpOp.In)=xA:=by cases op<;>first|rfl|exact absurd rfl h
 have e2:(op==CmpOp.NotIn)=xA:=by cases op<;>first|rfl|exact absurd rfl h2
 cases b<;>simp[behindInMarks,e1,e2]
noncomputable def Iw(t:TE):TT:=λσ H Q=>t σ H λx H'=>∃k,x=.bl k/\Q k H'
theorem ZBX(ho:OpR X (jG op) r)(ha:PE X a ta)(hb:PE X b tb)(hm:behindInMarks op b=xA):PT X (.Compare a [op] [b] pos) (Iw (tOp r ta tb)):=by
 intro xw s σ H Q I h;refine wpAny_isTrue_Compare1 (thn (ha xw s σ H _ I h) λv s1 ⟨x,H1,I1,r1,q1⟩=>thn (hb xw s1 σ H1 _ I1 q1) λu s2 ⟨y,H2,I2,r2,q2⟩=>
  thn (ho xw s2 σ H2 x y v u _ I2 r1 r2 q2) λc s3 ⟨z,H3,I3,r3,k,e,q3⟩=>?_) hm
 subst e;cases r3;exact xq ⟨H3,I3,q3⟩
noncomputable def ZAN(r r':R2)(ta tb tc:TE):TE:=λσ H Q=>ta σ H λx H1=>tb σ H1 λy H2=>r x y H2 λz H3=>∃k,z=.bl k/\
 (if k=x0 then tc σ H3 λw' H4=>r' y w' H4 Q else Q (.bl xA) H3)
theorem ZF2{op':CmpOp}{r':R2}(ho:OpR X (jG op) r)(ho':OpR X (jG op') r')(ha:PE X a ta)(hb:PE X b tb)(hc:PE X c tc)
  (hm:lastMarks [op,op'] [b,c]=xA:=by with_unfolding_all rfl):PT X (.Compare a [op,op'] [b,c] pos) (Iw (ZAN r r' ta tb tc)):=by
 intro xw s σ H Q I h;refine isTrue_chain (thn (ha xw s σ H _ I h) λv s1 ⟨x,H1,I1,r1,q1⟩=>test_link (thn (hb xw s1 σ H1 _ I1 q1) λu s2 ⟨y,H2,I2,r2,q2⟩=>
  thn (ho xw s2 σ H2 x y v u _ I2 r1 r2 q2) λd s3 ⟨z,H3,I3,r3,k,e,q3⟩=>?_)) hm
 subst e;cases r3;refine xq ?_;cases k with
 |false=>
  obtain⟨k',e',q'⟩:=q3;cases e';exact ite_ff ⟨H3,I3,q'⟩
 |true=>
  refine ite_tt (test_last (thn (hc xw s3 σ H3 _ I3 q3) λw' s4 ⟨z',H4,I4,r4,q4⟩=>thn (ho' xw s4 σ H4 y z' u w' _ I4 r2 r4 q4) λd' s5 ⟨z2,H5,I5,r5,k2,e2,q5⟩=>?_));subst e2;cases r5;exact xq ⟨H5,I5,q5⟩
theorem line63:(sizeLine:Nat)<2^63:=by rw[sizeLine_eq];decide
theorem ZBt:OpR X (jE .Add) (λx y H Q=>∃i j,x=.str i/\y=.str j/\i.length+j.length<=sizeLine/\Q (.str (i++j)) H):=by intro xw s σ H x y v u Q I rx ry h;obtain⟨i,j,rfl,rfl,hz,q⟩:=h;obtain⟨t,rfl⟩:=rx;obtain⟨t',rfl⟩:=ry;exact add_str (λt' tk=>⟨.str (i++j),H,I.tok _,⟨_,rfl⟩,q⟩) hz
theorem ZAt:OpR X (inplaceOp .Add) (λx y H Q=>∃i j,x=.str i/\y=.str j/\i.length+j.length<=sizeLine/\Q (.str (i++j)) H):=by intro xw s σ H x y v u Q I rx ry h;obtain⟨i,j,rfl,rfl,hz,q⟩:=h;obtain⟨t,rfl⟩:=rx;obtain⟨t',rfl⟩:=ry;exact iadd_str (λt' tk=>⟨.str (i++j),H,I.tok _,⟨_,rfl⟩,q⟩) hz
theorem vals1{x:V}(r:Vals [x] us):∃u,us=[u]/\RelV x u:=by
 cases r with
 |cons r1 r2=>cases r2;exact⟨_,rfl,r1⟩
theorem vals2{x y:V}(r:Vals [x,y] us):∃u w',us=[u,w']/\RelV x u/\RelV y w':=by
 cases r with
 |cons r1 r2=>
  cases r2 with
  |cons r3 r4=>cases r4;exact⟨_,_,rfl,r1,r3⟩
theorem ZE8(hc:X.calm=x0):CallR X (.builtin "min") (λxs H Q=>∃i j,xs=[.int i,.int j]/\Q (.int (if j<i then j else i)) H):=by
 intro xw s σ H xs us Q I r h;obtain⟨i,j,rfl,q⟩:=h;obtain⟨u,w',rfl,⟨t,rfl⟩,⟨t',rfl⟩⟩:=vals2 r;refine min_two_ints (I.ok.hd hc) λh' tk k=>⟨_,H,I.kept k,?_,q⟩
 by_cases hj:j<i
 ·rw[if_pos hj,if_pos hj];exact⟨_,rfl⟩
 ·rw[if_neg hj,if_neg hj];exact⟨_,rfl⟩
end
section
variable{prog:j6}{w:jB}{A:j2}{E:jA->j8->Prop}{s:j8}{K:PySem.W.Frag}{x dx C f:j1}{mA:Str->Option jA}{name:Str}{v:jA}
end
section
variable{P:j6}{w:jB}{H H':Hp}{h h':Heap}{a C dx:j1}{fs fs':List (Str×V)}
end
section
variable{X:Cx}{xw:List (j1×Obj)}{σ:St}{H:Hp}{s:j8}{a C dx:j1}{fs:List (Str×V)}{f:Str}{v:V}{A:j2}{E:jA->j8->Prop}
end
section
variable{X:Cx}{o e value:j3}{f:Str}{pos pos' tpos:Pos}{ta tv:TE}
end
section
variable{X:Cx}{xw:List (j1×Obj)}{σ:St}{H:Hp}{s:j8}{A:j2}{E:jA->j8->Prop}{Q:jA->j8->Prop}{c:jA}{b:Bool}
end
structure Room (k:Nat) (A:j2):Prop where
 hd:A.handled=xy
 dp:A.depth+3*k+5<recursionLimit
 un:A.units+16*k+200<cLine
theorem Room.mono{j:Nat}(r:Room k A)(h:j<=k):Room j A:=⟨r.hd,by have:=r.dp;lia,by have:=r.un;lia⟩
theorem Room.deeper(r:Room (k+1) A)(env:Env):Room k (A.deeper env):=
 ⟨r.hd,by have:=r.dp;show A.depth+1+3*k+5<_;lia,by have:=r.un;show A.units+3+16*k+200<_;lia⟩
theorem Room.depth(r:Room k A):A.depth<recursionLimit:=by have:=r.dp;lia
theorem Room.units(r:Room k A):A.units+64<cLine:=by have:=r.un;lia
noncomputable def tNil:TA:=λ_ H Q=>Q [] H
noncomputable def ZFI(ta:TE)(tr:TA):TA:=λσ H Q=>ta σ H λx H1=>tr σ H1 λxs H2=>Q (x::xs) H2
section
variable{X:Cx}{e:j3}{es:List j3}{te:TE}{t:TA}{pos:Pos}
theorem ZGP:PA X [] tNil:=λ_ _ _ _ H Q I h=>Calls.spliced_nil ⟨[],H,I,.nil,h⟩
theorem ZA0(ha:PE X e te)(hr:PA X es t)(hs:jP (e::es) X.env=(xA,eval e X.env)::jP es X.env:=by rfl):PA X (e::es) (ZFI te t):=by intro pos xw s σ H Q I h;rw[hs];show jS _ _ (spliced ((xA,eval e X.env)::jD pos (jP es X.env))) _ _ s;refine Calls.spliced_cons (thn (ha xw s σ H _ I h) λu s1 ⟨x,H1,I1,r1,q1⟩=>?_);exact thn (hr pos xw s1 σ H1 _ I1 q1) λus s2 ⟨xs,H2,I2,r2,q2⟩=>⟨x::xs,H2,I2,.cons r1 r2,q2⟩
def tTup(t:TA):TE:=λσ H Q=>t σ H λxs H1=>xs.length<=sizeLine/\∀p,H1 p=xy->Q (.ref p) (upd H1 p (.tup xs))
def tLst(t:TA):TE:=λσ H Q=>t σ H λxs H1=>xs.length<=sizeLine/\∀p,H1 p=xy->Q (.ref p) (upd H1 p (.lst xs))
theorem Ov{x1}(h:PA X es t):PE X (.Tuple es x1 pos) (tTup t):=by intro xw s σ H Q I hq;refine wpAny_Tuple_spliced (thn (h pos xw s σ H _ I hq) λus s1 ⟨xs,H1,I1,r,z,q⟩=>⟨by rw[<-r.length];exact z,?_⟩);have hf:H1 s1.heap.objs.size=xy:=I1.hok.fresh (zq _);refine⟨.ref s1.heap.objs.size,upd H1 s1.heap.objs.size (.tup xs),I1.laid (t':=s1.toks) (λb u e=>zZ _ e) (zq _) ?_,rfl,q _ hf⟩;exact⟨z,us,r,⟨_,zy _ rfl,rfl,_,rfl⟩⟩
theorem ZDW(h:PA X es t):PE X (.List es pos) (tLst t):=by intro xw s σ H Q I hq;refine wpAny_List_spliced (thn (h pos xw s σ H _ I hq) λus s1 ⟨xs,H1,I1,r,z,q⟩=>⟨by rw[<-r.length];exact z,?_⟩);have hf:H1 s1.heap.objs.size=xy:=I1.hok.fresh (zq _);refine⟨.ref s1.heap.objs.size,upd H1 s1.heap.objs.size (.lst xs),I1.laid (t':=s1.toks) (λb u e=>zZ _ e) (zq _) ?_,rfl,q _ hf⟩;exact⟨z,us,0,r,zy _ rfl⟩
end
noncomputable abbrev Sp:=List V->Hp->VK->XK->Prop
noncomputable abbrev CXT:=List Env->Hp->j8->XK->jA->j8->Prop
structure Env0 (P:j6) (w:jB) (K:PySem.W.Frag) (mg:Str->Option jA) (base:Heap) (A:j2) (outer:List Env) (s:j8) (H:Hp):Prop where
 frames:A.frames=xk outer
 mod:Mod K mg base
 bs:∀b o,base.get? b=xk o->s.heap.get? b=xk o/\H b=xy
 bsz:base.objs.size<=s.heap.objs.size
 funs:s.heap.FunFrames base outer
 frf:∀b∈frs outer,H b=xy
 hok:HOk P w H s.heap
 bare:AllBare s.gens
def CE(outer:List Env)(P:j6)(w:jB)(H:Hp)(s:j8)(Q:VK)(u:jA)(s':j8):Prop:=
 ∃v H',s'.os=s.os/\AllBare s'.gens/\Un (frs outer) [] H H' s.heap s'.heap/\HOk P w H' s'.heap/\RelV v u/\Q v H'
def CR(CX:CXT)(outer:List Env)(P:j6)(w:jB)(H:Hp)(s:j8)(Q:VK)(E:XK)(r:Result)(s':j8):Prop:=
 match r with
 |.ok (.ret u)=>CE outer P w H s Q u s'
 |.ok _=>False
 |.error e=>CX outer H s E e s'
structure FnOk (P:j6) (w:jB) (K:PySem.W.Frag) (mg:Str->Option jA) (base:Heap) (CX:CXT) (k:Nat) (f:j1) (fd:j4) (ps:List Str) (sp:Sp):Prop where
 len:∀vs H Q E,sp vs H Q E->vs.length=ps.length
 run:∀(A:j2)(outer:List Env)(s:j8)(H:Hp)(args:Args)(us:List jA)(vs:List V)(Q:VK)(E:XK),Room k A->Env0 P w K mg base A outer s H->BindsTo s fd args (ps.zip us)->Vals vs us->sp vs H Q E->
  codeAny (jM P w) A (.call (.ref f) args) (CR CX outer P w H s Q E) s
section
variable{X:Cx}{xw:List (j1×Obj)}{σ:St}{H:Hp}{s s':j8}
theorem Inv.env0(I:Inv X xw σ H s):Env0 X.prog X.w X.K X.mg X.base X.A X.stack s H:=
 ⟨I.ok.frames,I.ok.mod,I.bs,zk I.ok.bsz I.sz,I.stack,I.X4,I.hok,I.bare⟩
theorem Inv.after{Q:VK}(I:Inv X xw σ H s)(h:CE X.stack X.prog X.w H s Q u s'):EP X xw σ Q u s':=by obtain⟨v,H',os,bare,un,hok,r,q⟩:=h;obtain⟨hh,g,d,t,os'⟩:=s';obtain rfl:os'=s.os:=os;exact⟨v,H',I.call (h':=hh) (g':=g) (d':=d) (t':=t) (ch:=[]) un hok bare (λb z=>absurd z (by simp)),r,q⟩
end
noncomputable def ZDE(sp:Sp)(dvs:List V)(E:XK)(t:TA):TE:=λσ H Q=>t σ H λvs H1=>sp (vs++dvs) H1 Q E
def Binds(K:PySem.W.Frag)(fd:j4)(ps:List Str)(ds:List jA):Prop:=
 ∀(s:j8)(us:List jA),K.In s.heap->(us++ds).length=ps.length->BindsTo s fd ⟨us,[]⟩ (ps.zip (us++ds))
theorem Binds.all{fd:j4}{ps:List Str}(h:∀us:List jA,us.length=ps.length->bindArgs fd ⟨us,[]⟩=pure (ps.zip us)):Binds K fd ps []:=λs us _ hl=>by rw[qJ]at hl⊢;exact .of_eq (h us hl)
def Passes(CX:CXT)(X:Cx)(E:XK):Prop:=∀(xw:List (j1×Obj))(σ:St)(H:Hp)(s:j8)(e:jA)(s':j8),Inv X xw σ H s->CX X.stack H s E e s'->X.xe e s'
section
variable{X:Cx}{CX:CXT}{k:Nat}{f C:j1}{fd:j4}{ps:List Str}{sp:Sp}{dvs:List V}{ds:List jA}{E:XK}{x m:Str}{p pos apos:Pos}{e o:j3}{es:List j3}{ta:TE}{t:TA}
theorem ZGl{Q:VK}{vs:List V}(F:FnOk X.prog X.w X.K X.mg X.base CX k f fd ps sp)(hr:Room k X.A)(hb:Binds X.K fd ps ds)(hd:Vals dvs ds)(hx:Passes CX X E)
  (I:Inv X xw σ H s) (r:Vals vs us) (h:sp (vs++dvs) H Q E):jS (jM X.prog X.w) X.A (call (.ref f) us) (EP X xw σ Q) X.xe s:=by
 have r2:Vals (vs++dvs) (us++ds):=r.append hd;have hl:(us++ds).length=ps.length:=by rw[<-r2.length];exact F.len _ _ _ _ h
 refine wpAny_call (codeAny_mono (F.run X.A X.stack s H ⟨us,[]⟩ (us++ds) (vs++dvs) Q E hr I.env0 (hb s us I.kIn hl) r2 h) λr s' hq=>?_);cases r with
 |error e=>exact hx xw σ H s e s' I hq
 |ok fl=>
  cases fl with
  |ret u=>exact I.after hq
  |next=>exact False.elim hq
  |brk=>exact False.elim hq
  |cont=>exact False.elim hq
theorem ZEB(F:FnOk X.prog X.w X.K X.mg X.base CX k f fd ps sp)(hr:Room k X.A)(hg:Gl X x)(hm:X.mg x=xk (.ref f))(hk:PySem.W.keepIn X.K (.ref f)=x0)(hb:Binds X.K fd ps ds)(hd:Vals dvs ds)(hx:Passes CX X E)
  (ha:PA X (e::es) t) (hdb:(x==("__debug__":Str))=xA:=by decide) (he:jP (e::es) X.env=(xA,eval e X.env)::jP es X.env:=by rfl) (hpl:(jD pos (jP es X.env)).any (·.1)=xA:=by rfl):
  PE X (.Call (.Name x p) (e::es) [] pos) (ZDE sp dvs E t):=by
 intro xw s σ H Q I h;refine wpAny_Call_Name_kw (Vo I hg hm ?_ hdb);refine PySem.W.callWith_K (h₀:=X.base) I.ok.mod.kin hk (thn (ha pos xw s σ H _ I h) λus s1 ⟨vs,H1,I1,r,q⟩=>⟨I1.kIn,?_⟩) he hpl;exact ZGl F hr hb hd hx I1 r q
end
section
variable{X:Cx}{CX:CXT}{k:Nat}{f C:j1}{fd:j4}{ps ks:List Str}{sp:Sp}{E:XK}{x m:Str}{p pos apos kpos:Pos}{e o:j3}{es:List j3}{kws:List Keyword}{te ta:TE}{t tk:TA}{nm:Option Str}
variable{g:List jA->List jA->List jA}{gV:List V->List V->List V}
end
structure FnScope (N P:List Str) (sc:j7):Prop where
 kind:sc.kind=.function
 co:sc.isCoroutine=xA
 gen:sc.isGenerator=xA
 nd:N.Nodup
 pre:N.take P.length=P
 par:∀x∈P,sc.names.lookup x=xk .local∨sc.names.lookup x=xk .cell
 nofree:∀y∈sc.names,y.2≠ .free
theorem U6:∀{binds:List (Str×jA)}{m:Str->Option jA},(∀v,(x,v)∉binds)->bindL kindOf binds m x=m x
 |[],_,_=>rfl
 | (n,v)::r,m,h=>by
  unfold bindL;rw[U6 λw hw=>h w (zV _ hw)];split
  ·have:x≠n:=by rintro rfl;exact h v zY
   simp[this]
  ·rfl
theorem ZAE:∀{binds:List (Str×jA)}{m:Str->Option jA},(∀v,(x,v)∉binds)->bindC kindOf binds m x=m x
 |[],_,_=>rfl
 | (n,v)::r,m,h=>by
  unfold bindC;rw[ZAE λw hw=>h w (zV _ hw)];split
  ·rfl
  ·have:x≠n:=by rintro rfl;exact h v zY
   simp[this]
theorem V5{v:jA}:∀{P:List Str}{vs:List jA}{i:Nat}{m:Str->Option jA},P.Nodup->P[i]?=xk x->vs[i]?=xk v->kindOf x=xk .local->
  bindL kindOf (P.zip vs) m x=xk v
 |[],_,_,_,_,h,_,_=>by simp at h
 |_::_,[],_,_,_,_,h,_=>by simp at h
 |p::P,w::vs,0,m,nd,h1,h2,hk=>by simp at h1 h2;subst h1;subst h2;show bindL kindOf ((p,w)::P.zip vs) m p=_;unfold bindL;rw[U6 λv hv=>(qM.mp nd).1 (List.of_mem_zip hv).1,if_pos hk];simp
 |p::P,w::vs,i+1,m,nd,h1,h2,hk=>by show bindL kindOf ((p,w)::P.zip vs) m x=_;unfold bindL;exact V5 (i:=i) (qM.mp nd).2 (by simpa using h1) (by simpa using h2) hk
theorem Y7{v:jA}:∀{P:List Str}{vs:List jA}{i:Nat}{m:Str->Option jA},P.Nodup->P[i]?=xk x->vs[i]?=xk v->kindOf x≠xk .local->
  bindC kindOf (P.zip vs) m x=xk v
 |[],_,_,_,_,h,_,_=>by simp at h
 |_::_,[],_,_,_,_,h,_=>by simp at h
 |p::P,w::vs,0,m,nd,h1,h2,hk=>by simp at h1 h2;subst h1;subst h2;show bindC kindOf ((p,w)::P.zip vs) m p=_;unfold bindC;rw[ZAE λv hv=>(qM.mp nd).1 (List.of_mem_zip hv).1,if_neg hk];simp
 |p::P,w::vs,i+1,m,nd,h1,h2,hk=>by show bindC kindOf ((p,w)::P.zip vs) m x=_;unfold bindC;exact Y7 (i:=i) (qM.mp nd).2 (by simpa using h1) (by simpa using h2) hk
noncomputable def start(N:List Str)(vs:List V):St:=vs.map xk++zP (N.length-vs.length) xy
noncomputable def Gy(CX:CXT)(P:j6)(w:jB)(K:PySem.W.Frag)(mg:Str->Option jA)(base:Heap)(N:List Str)(qual:Str)(scope:j7)(f:j1)(cd:jA)(A:j2)(outer:List Env)(s:j8)(H:Hp)(E:XK):Cx where
 prog:=P
 w:=w
 K:=K
 mg:=mg
 base:=base
 A:=A.deeper (envOfC qual scope s.heap.objs.size f cd)
 N:=N
 s₀:=s
 H₀:=H
 env:=envOfC qual scope s.heap.objs.size f cd
 outer:=outer
 stack:=envOfC qual scope s.heap.objs.size f cd::outer
 ex:=[]
 calm:=x0
 fn:=λ_=>x0
 pn:=[]
 xe:=λe s'=>jS (jM P w) (A.deeper (envOfC qual scope s.heap.objs.size f cd)) (leaving (envOfC qual scope s.heap.objs.size f cd) e) (λ_ s''=>CX outer H s E e s'') (λe' s''=>CX outer H s E e' s'') s'
theorem Up{sc:j7}{n:Nat}(h:sc.names.lookup x=xk .cell):∃c,(cellsFrom n sc.names []).lookup x=xk c:=by have q:=PySem.W.cellsFrom_some sc.names n [] (.inl h);exact jW.mp q
theorem ZD8{CX:CXT}{mg:Str->Option jA}{base:Heap}{N ps:List Str}{qual:Str}{scope:j7}{f:j1}{cd:jA}{outer:List Env}{s1:j8}{E:XK}{vs:List V}
  (S:FnScope N ps scope) (hd:A.handled=xy) (e0:Env0 P w K mg base A outer s H) (hl:vs.length=ps.length) (r:Vals vs us)
  (x:InCallC s s.heap.objs.size (bindL (envOfC qual scope s.heap.objs.size f cd).kindOf (ps.zip us) λ_=>xy) (cellsFrom (s.heap.objs.size+1) scope.names []) (bindC (envOfC qual scope s.heap.objs.size f cd).kindOf (ps.zip us) λ_=>xy) s1):
  Inv (Gy CX P w K mg base N qual scope f cd A outer s H E) [] (start N vs) H s1:=by
 have hpl:ps.length<=N.length:=by have:=congrArg jz S.pre;rw[qK]at this;lia
 obtain⟨h1,tk,rfl,hk⟩:=x.done
 have noA:∀b:j1,b∉(Gy CX P w K mg base N qual scope f cd A outer s H E).ex:=λb z=>absurd (show b∈([]:List j1)from z) (by simp)
 refine⟨⟨e0.mod,S.kind,rfl,rfl,zq _,λy z c h1 h2=>?_,λy hy=>?_,λy c _ h=>?_,λ_=>hd,Around.frames_deeper e0.frames,.inr ⟨rfl,rfl⟩,λb z=>absurd z (noA b),e0.bs,e0.bsz,λb _ _=>noA b,λb z=>absurd z (noA b),e0.funs,e0.frf⟩,
  rfl,e0.bare,Un.kept hk,⟨_,x.toInCall.ns,λi y v h1 h2 h3=>?_⟩,λy c h=>⟨_,x.cell y c h⟩,e0.hok.fresh (zq _),λy c h=>?_,λp hp=>absurd (show p∈([]:List (j1×Obj))from hp) (by simp),e0.hok.kept hk,?_⟩
 ·exact name_of_addr x.apart (PySem.mem_of_lookup h1) (PySem.mem_of_lookup h2)
 ·have hy:scope.names.lookup y=xk .cell∨scope.names.lookup y=xk .free:=hy;rcases hy with hy|hy
  ·exact Up hy
  ·exact absurd rfl (S.nofree _ (PySem.mem_of_lookup hy))
 ·exact Nat.le_of_lt (x.above y c (PySem.mem_of_lookup h))
 ·have hi:i<vs.length:=by
   unfold start at h2;by_cases hi:i<vs.length
   ·exact hi
   ·rw[zN (by simpa using hi)]at h2;rw[qD]at h2
    split at h2<;>cases h2
  have ha:vs[i]?=xk v:=by
   unfold start at h2;rw[zG (by simpa using hi),z0]at h2;cases e:vs[i]? with
   |none=>rw[e]at h2;cases h2
   |some a=>rw[e]at h2;cases h2;rfl
  obtain⟨u,hu,rv⟩:=r.get ha;have hp:ps[i]?=xk y:=by rw[<-S.pre,qH (by lia)];exact h1
  have ndP:ps.Nodup:=by rw[<-S.pre];exact S.nd.sublist (List.take_sublist _ _)
  refine⟨u,rv,?_⟩;rcases S.par y (qZ hp)with k|k
  ·exact .inl ⟨k,V5 ndP hp hu k⟩
  ·obtain⟨c,e⟩:=Up (n:=s.heap.objs.size+1) k;refine .inr ⟨.inl k,c,e,?_⟩;have q:=x.cell y c e;rw[Y7 ndP hp hu (by show scope.names.lookup y≠_;rw[k];decide)]at q;exact q
 ·exact e0.hok.fresh (Nat.le_of_lt (x.above y c (PySem.mem_of_lookup h)))
 ·unfold start;show _=N.length;rw[qy,zX,jj];lia
theorem ZAd{CX:CXT}{mg:Str->Option jA}{base:Heap}{f:j1}{name qual:Str}{params:Arguments}{body:List j9}{scope:j7}{dV kV doc pm cdv ct oc:jA}{an od:Option j1}
  {osl:Array (Option jA)} {N ps:List Str} {sp:Sp} (lk:K.lookup f=xk ⟨oc,od,.func (PySem.W.fnOf name qual params body scope dV kV doc pm an cdv ct),osl⟩) (hcd:PySem.W.codeIn K cdv qual=x0) (S:FnScope N ps scope)
  (len:∀vs H Q E,sp vs H Q E->vs.length=ps.length)
  (hbody:∀(A:j2)(outer:List Env)(s:j8)(H:Hp)(vs:List V)(Q:VK)(E:XK),Room k (A.deeper (envOfC qual scope s.heap.objs.size f cdv))->sp vs H Q E->
   ∃t,PSs (Gy CX P w K mg base N qual scope f cdv A outer s H E) body t/\t {nx:=λ_ H'=>Q .non H',rt:=Q} (start N vs) H):
  FnOk P w K mg base CX (k+1) f (PySem.W.fnOf name qual params body scope dV kV doc pm an cdv ct) ps sp:=by
 refine⟨len,λA outer s H args us vs Q E hr e0 hb r hsp=>?_⟩;have hl:=len _ _ _ _ hsp;have KX:K.In s.heap:=e0.mod.kin.keeps λb o e=>(e0.bs b o e).1
 have lim:s.heap.NoLimit:=e0.mod.nolimit.keeps λb o e=>(e0.bs b o e).1
 have hkind:∀y∈ps.zip us,scope.names.lookup y.1=xk .local∨(scope.names.lookup y.1=xk .cell/\((cellsFrom (s.heap.objs.size+1) scope.names []).lookup y.1).isSome=x0):=λ⟨n,v⟩ hy=>by
  rcases S.par n (List.of_mem_zip hy).1 with q|q
  ·exact .inl q
  ·exact .inr ⟨q,PySem.W.cellsFrom_some _ _ _ (.inl q)⟩
 refine codeAny_call_function hr.depth (KX _ _ lk) rfl S.co S.gen rfl (PySem.W.codeRec_of KX hcd) (hb _ _ _ _ ?_);refine wpAny_newFunctionEnv_cells S.kind hkind λenv he s1 x=>?_
 subst he;refine⟨lim.keeps x.toInCall.keep,codeAny_func ?_⟩;obtain⟨t,ht,hq⟩:=hbody A outer s H vs Q E (hr.deeper _) hsp;have I:Inv (Gy CX P w K mg base N qual scope f cdv A outer s H E) [] (start N vs) H s1:=ZD8 S hr.hd e0 hl r x;refine xX (ht [] s1 (start N vs) H _ I hq) (λfl s' hs=>?_) λe s' hs=>hs
 have fin:∀{σ':St}{H':Hp}{v:V}{u:jA},Inv (Gy CX P w K mg base N qual scope f cdv A outer s H E) [] σ' H' s'->RelV v u->Q v H'->CE outer P w H s Q u s':=
  λ{σ' H' v u}J rv q=>⟨v,H',J.os,J.bare,J.base,J.hok,rv,q⟩
 cases fl with
 |ret u=>
  obtain⟨v,σ',H',J,rv,q⟩:=hs;exact fin J rv q
 |next=>
  obtain⟨σ',H',J,q⟩:=hs;exact fin (v:=V.non) (u:=Value.none) J rfl q
 |brk=>
  obtain⟨_,_,_,q⟩:=hs;exact False.elim q
 |cont=>
  obtain⟨_,_,_,q⟩:=hs;exact False.elim q
section
variable{X:Cx}{x:Str}{p pos:Pos}{e:j3}{es:List j3}{t:TA}{id T:String}{r:List V->Hp->VK->Prop}
noncomputable def tCB(r:List V->Hp->VK->Prop)(t:TA):TE:=λσ H Q=>t σ H λvs H1=>r vs H1 Q
theorem ZF4(hc:CallR X (.builtin id) r)(hg:Gl X x)(hm:X.mg x=xy)(hv:jF x=xk (.builtin id))(ha:PA X (e::es) t)(hn:x≠"__name__":=by decide)(hdb:(x==("__debug__":Str))=xA:=by decide)
  (he:jP (e::es) X.env=(xA,eval e X.env)::jP es X.env:=by rfl) (hpl:(jD pos (jP es X.env)).any (·.1)=xA:=by rfl):PE X (.Call (.Name x p) (e::es) [] pos) (tCB r t):=by
 intro xw s σ H Q I h;refine wpAny_Call_Name_kw (Hz I hg hm hv ?_ hn hdb);exact PyProof.Rows.callWith_builtin1 (thn (ha pos xw s σ H _ I h) λus s1 ⟨vs,H1,I1,r1,q1⟩=>hc xw s1 σ H1 vs us Q I1 r1 q1) he hpl
theorem ZGb(hc:CallR X (.type T) r)(hg:Gl X x)(hm:X.mg x=xy)(hv:jF x=xk (.type T))(ha:PA X (e::es) t)(hn:x≠"__name__":=by decide)(hdb:(x==("__debug__":Str))=xA:=by decide)
  (he:jP (e::es) X.env=(xA,eval e X.env)::jP es X.env:=by rfl) (hpl:(jD pos (jP es X.env)).any (·.1)=xA:=by rfl):PE X (.Call (.Name x p) (e::es) [] pos) (tCB r t):=by
 intro xw s σ H Q I h;refine wpAny_Call_Name_kw (Hz I hg hm hv ?_ hn hdb);exact PyProof.Rows.callWith_type1 (thn (ha pos xw s σ H _ I h) λus s1 ⟨vs,H1,I1,r1,q1⟩=>hc xw s1 σ H1 vs us Q I1 r1 q1) he hpl
end
end _L
namespace HT
open PySem PyProof.Rows
section
open PySem.SeqAt
open PySem.AutoSeq1 (wpAny_loadPart')
open PySem.MeetsSeq PySem.MeetsSeq2 PySem.MeetsSeq3
end
section
variable{prog:j6}{w:jB}{A:j2}{E:jA->j8->Prop}{s:j8}
theorem ZDu{t b:j1}{vs ws:List jA}{Q:jA->j8->Prop}(ht:IsTup s.heap t vs.toArray)(hb:IsTup s.heap b ws.toArray)(hv:vs≠[])
  (h1:ws=[]->Q (.ref t) s) (h2:ws≠[]->Q (.ref s.heap.objs.size) {s with heap:=s.heap.push {cls:=.type "tuple",data:=.seq (vs++ws).toArray}})
  (hsz:vs.length+ws.length<=sizeLine):jS (jM prog w) A (jE .Add (.ref t) (.ref b)) Q E s:=by
 obtain⟨⟨cls,dd,data,sl⟩,ho,hc,n,hd⟩:=id ht;obtain⟨⟨cls2,dd2,data2,sl2⟩,ho2,hc2,n2,hd2⟩:=id hb;simp only at hc hd hc2 hd2;subst hc hd hc2 hd2;have e:vs.toArray++ws.toArray=(vs++ws).toArray:=by simp
 by_cases hw:ws=[]
 ·exact concat_meets ⟨_,ho,rfl⟩ ⟨_,ho2,rfl⟩ noFill_tuple_add seq_tuple_add PySem.F.slot_tuple_add PySem.F.entry_tuple_add (PySem.F.args_tuple_add_2 _ _)
   (tuple_addW1 t b vs.toArray ws.toArray n n2 dd dd2 sl sl2 (by simpa using hv) (by simp[hw])) ⟨ho,ho2,h1 hw⟩
 ·refine concat_meets ⟨_,ho,rfl⟩ ⟨_,ho2,rfl⟩ noFill_tuple_add seq_tuple_add PySem.F.slot_tuple_add PySem.F.entry_tuple_add (PySem.F.args_tuple_add_2 _ _)
   (tuple_addW2 t b vs.toArray ws.toArray n n2 dd dd2 sl sl2 (by simpa using hv) (by simpa using hw) (by rw[zj,zj];exact hsz)) ⟨ho,ho2,?_⟩
  rw[e];exact h2 hw
noncomputable def sIx(n d:Nat):Option Int->Nat
 |none=>d
 |some v=>if v<0 then(v+(n:Int)).toNat else min v.toNat n
theorem Zr(n d:Nat)(hd:d<=n)(o:Option Int):sIx n d o<=n:=by
 cases o with
 |none=>exact hd
 |some v=>
  show(if v<0 then(v+(n:Int)).toNat else min v.toNat n)<=n;by_cases hv:v<0
  ·rw[if_pos hv];lia
  ·rw[if_neg hv];exact Nat.min_le_right _ _
theorem U8(v:Int)(n d:Nat):(if v<0 then max (v+(n:Int)) 0 else min v (n:Int))=((sIx n d (xk v):Nat):Int):=by
 show(if v<0 then max (v+(n:Int)) 0 else min v (n:Int))=(((if v<0 then(v+(n:Int)).toNat else min v.toNat n):Nat):Int);by_cases hv:v<0
 ·simp only[if_pos hv];lia
 ·simp only[if_neg hv];lia
theorem ZCh(lo hi:Option Int)(n:Nat):Builtin.Slice.sliceAdjust lo hi 1 (n:Int)=(((sIx n 0 lo:Nat):Int),((sIx n n hi:Nat):Int)):=by
 have h1:¬((1:Int)<0):=by lia
 unfold Builtin.Slice.sliceAdjust;simp only[h1,if_false];refine Prod.ext ?_ ?_
 ·cases lo with
  |none=>rfl
  |some v=>exact U8 v n 0
 ·cases hi with
  |none=>rfl
  |some v=>exact U8 v n n
theorem ZGq(i j:Nat):Builtin.Slice.slicePlaces (i:Int) (j:Int) 1=j-i:=by
 unfold Builtin.Slice.slicePlaces;have h1:(1:Int)>0:=by lia
 simp only[h1,if_true,Int.ediv_one]
 split <;> lia
theorem Vl{v:jA}{o:Option Int}{Q:Option Int->j8->Prop}(p:IsPart v o)(h:Q o s):jS (jM prog w) A (Builtin.Slice.slicePartIndex v) Q E s:=by
 cases p with
 |none=>exact slicePart_none h
 |int i t=>exact slicePart_int h
theorem Ws{sl:j1}{vl vu:jA}{lo hi:Option Int}{n:Nat}{Q:Int×Int×Nat->j8->Prop}(hs:s.heap.IsSliceOf sl vl vu .none)(pl:IsPart vl lo)(pu:IsPart vu hi)
  (h:Q (((sIx n 0 lo:Nat):Int),1,sIx n n hi-sIx n 0 lo) s):jS (jM prog w) A (Builtin.Slice.sliceApplied (.ref sl) (pure (n:Int))) Q E s:=by
 obtain⟨os,hos,hcs,hds⟩:=id hs;unfold Builtin.Slice.sliceApplied Builtin.Slice.sliceFields;refine jT (jT (xZ hos hds (x:=vl) rfl (jT (xZ hos hds (x:=vu) rfl (jT (xZ hos hds (x:=.none) rfl (xK ?_)))))));refine jT (slicePart_none ?_);show jS _ _ (if((1:Int)==0)=x0 then _ else _) _ _ s;rw[if_neg (by decide)];refine jT (Vl pl (jT (Vl pu (jT (xK ?_)))))
 show jS _ _ (match Builtin.Slice.sliceAdjust lo hi 1 (n:Int)with |(lo,hi)=>pure (lo,(1:Int),Builtin.Slice.slicePlaces lo hi 1)) _ _ s
 rw[ZCh lo hi n];show jS _ _ (pure (((sIx n 0 lo:Nat):Int),(1:Int),Builtin.Slice.slicePlaces ((sIx n 0 lo:Nat):Int) ((sIx n n hi:Nat):Int) 1)) _ _ s;rw[ZGq];exact xK h
theorem ZBf(xs:Array jA)(i k:Nat):((qw k).filterMap λ(m:Nat)=>xs[((i:Int)+(m:Int)*1).toNat]?).toArray=((xs.toList.drop i).take k).toArray:=by
 have e:(λ(m:Nat)=>xs[((i:Int)+(m:Int)*1).toNat]?)=λm=>xs[i+m]? :=by
  funext m;have:((i:Int)+(m:Int)*1).toNat=i+m:=by lia
  rw[this]
 rw[e];have:=pick_run xs i k;rw[List.filterMap_map]at this;have e2:((λx=>xs[x]?) ∘ λx=>i+x)=λm=>xs[i+m]? :=rfl
 rw[e2]at this;rw[this]
theorem ZEn{t sl:j1}{items:Array jA}{vl vu:jA}{lo hi:Option Int}{Q:jA->j8->Prop}(ht:IsTup s.heap t items)(hs:s.heap.IsSliceOf sl vl vu .none)(pl:IsPart vl lo)(pu:IsPart vu hi)
  (hw:¬(sIx items.size 0 lo=0/\sIx items.size items.size hi=items.size))
  (h:Q (.ref s.heap.objs.size) {s with heap:=s.heap.push {cls:=.type "tuple",data:=.seq ((items.toList.drop (sIx items.size 0 lo)).take (sIx items.size items.size hi-sIx items.size 0 lo)).toArray}})
  (hsz:items.size<=sizeLine):jS (jM prog w) A (getItem (.ref t) (.ref sl)) Q E s:=by
 have htake:sizeOk (.seq ((items.toList.drop (sIx items.size 0 lo)).take (sIx items.size items.size hi-sIx items.size 0 lo)).toArray):=by show((items.toList.drop (sIx items.size 0 lo)).take (sIx items.size items.size hi-sIx items.size 0 lo)).toArray.size<=sizeLine;rw[zj,qK,qT,qW];lia
 have hj:sIx items.size items.size hi<=items.size:=Zr _ _ (zq _) hi;obtain⟨os,hos,hcs,hds⟩:=id hs;have hTs:s.TypeIs (.ref sl) "slice":=⟨os,hos,hcs⟩;unfold getItem
 try with_reducible refine xJ ?_
 first|refine jT (xK ?_)|skip
 refine jT (wpAny_sequenceKey ht.typeIs (by decide) ?_);refine jT (jU (name:=Str.ofString "__getitem__") ht.typeIs PyProof.Rows.slot_tuple_getitem
  (xQ PyProof.Rows.slot_tuple_getitem ht.typeIs entry_tuple_getitem ?_ (args_tuple_getitem _ _)))
 show jS _ _ (Builtin.Tuple.tupleItemsOf (.ref t) >>=_) _ _ s;refine jT (tupleItemsOf_ ht ?_);refine jT (wpAny_typeOf hTs ?_);rw[if_pos (by decide)];refine jT (Ws hs pl pu ?_);have hno:¬((((sIx items.size 0 lo:Nat):Int)==0&&(1:Int)==1&&(sIx items.size items.size hi-sIx items.size 0 lo)==items.size)=x0):=by intro q;rw[zC,zC]at q;have q1:((sIx items.size 0 lo:Nat):Int)=0:=eq_of_beq q.1.1;have q2:sIx items.size items.size hi-sIx items.size 0 lo=items.size:=eq_of_beq q.2;exact hw ⟨by lia,by lia⟩
 show jS _ _ (if(((sIx items.size 0 lo:Nat):Int)==0&&(1:Int)==1&&(sIx items.size items.size hi-sIx items.size 0 lo)==items.size)=x0 then _ else _) _ _ s;rw[if_neg hno,ZBf]
 first
  |exact jT (m:=Builtin.Tuple.tupleExact _) (xV (xK ⟨_,rfl,xK h⟩) htake)
  |exact jT (m:=Builtin.Tuple.tupleExact _) (xV (jT (xK (xK ⟨_,rfl,xK h⟩))) htake)
  |exact jT (jT (m:=Builtin.Tuple.tupleExact _) (xV (xK (xK ⟨_,rfl,xK h⟩)) htake))
  |exact jT (jT (m:=Builtin.Tuple.tupleExact _) (xV (xK ⟨_,rfl,xK h⟩) htake))
end
end HT
namespace _L
open PySem PySem.Spec PyProof.Rows
variable{xs:List V}{n:Nat}{xw:List (j1×Obj)}{σ:St}{H:Hp}{s:j8}{its:List jA}
noncomputable abbrev TO:=St->Hp->(Option Int->Hp->Prop)->Prop
def PO(X:Cx)(e:Option j3)(t:TO):Prop:=
 ∀(xw:List (j1×Obj))(s:j8)(σ:St)(H:Hp)(Q:Option Int->Hp->Prop),Inv X xw σ H s->t σ H Q->
  jS (jM X.prog X.w) X.A (evalPart e X.env) (λu s'=>∃o H',Inv X xw σ H' s'/\IsPart u o/\Q o H') X.xe s
noncomputable def ZC6:TO:=λ_ H Q=>Q xy H
noncomputable def ZGA(t:TE):TO:=λσ H Q=>t σ H λx H1=>∃i,x=.int i/\Q (xk i) H1
section
variable{X:Cx}{e:j3}{te:TE}{lo hi:Option j3}{tl th:TO}{pos p2:Pos}
theorem ZAW:PO X xy ZC6:=by intro xw s σ H Q I h;rw[evalPart_none];exact xK ⟨xy,H,I,.none,h⟩
theorem ZEQ(h:PE X e te):PO X (xk e) (ZGA te):=by
 intro xw s σ H Q I hw;rw[evalPart_some];refine thn (h xw s σ H _ I hw) λu s1 ⟨x,H1,I1,r1,q1⟩=>?_
 obtain⟨i,rfl,q⟩:=q1;obtain⟨t,rfl⟩:=r1;exact⟨xk i,H1,I1,.int i t,q⟩
def SlR(X:Cx)(r:V->Option Int->Option Int->Hp->VK->Prop):Prop:=
 ∀(xw:List (j1×Obj))(s:j8)(σ:St)(H:Hp)(x:V)(v vl vu:jA)(lo hi:Option Int)(sl:j1)(Q:VK),Inv X xw σ H s->RelV x v->s.heap.IsSliceOf sl vl vu .none->IsPart vl lo->IsPart vu hi->r x lo hi H Q->
  ∃T id,typeLookup (.type T) "__getitem__"=pure (xk (.builtin id))/\s.TypeIs v T/\jS (jM X.prog X.w) X.A (getItem v (.ref sl)) (EP X xw σ Q) X.xe s
theorem SlR.or{r r':V->Option Int->Option Int->Hp->VK->Prop}(h:SlR X r)(h':SlR X r'):SlR X (λx lo hi H Q=>r x lo hi H Q∨r' x lo hi H Q):=by
 intro xw s σ H x v vl vu lo hi sl Q I rx hs pl pu q;rcases q with q|q
 ·exact h xw s σ H x v vl vu lo hi sl Q I rx hs pl pu q
 ·exact h' xw s σ H x v vl vu lo hi sl Q I rx hs pl pu q
noncomputable def tSl(r:V->Option Int->Option Int->Hp->VK->Prop)(te:TE)(tl th:TO):TE:=λσ H Q=>te σ H λx H1=>tl σ H1 λl H2=>th σ H2 λu H3=>r x l u H3 Q
theorem ZD4{r:V->Option Int->Option Int->Hp->VK->Prop}(hr:SlR X r)(he:PE X e te)(hl:PO X lo tl)(hu:PO X hi th):PE X (.Subscript e (.Slice lo hi xy p2) pos) (tSl r te tl th):=by
 intro xw s σ H Q I h;refine Subscript_ (thn (he xw s σ H _ I h) λv s1 ⟨x,H1,I1,r1,q1⟩=>?_);refine wpAny_Slice (thn (hl xw s1 σ H1 _ I1 q1) λvl s2 ⟨l,H2,I2,pl,q2⟩=>thn (hu xw s2 σ H2 _ I2 q2) λvu s3 ⟨u,H3,I3,pu,q3⟩=>?_);rw[evalPart_none];refine xK ?_;have I4:Inv X xw σ H3 {s3 with heap:=s3.heap.push {cls:=.type "slice",data:=.fields #[vl,vu,.none]}}:=I3.kept (t':=s3.toks) λb ob q=>zZ _ q
 obtain⟨T,id,hT,ht,hg⟩:=hr xw {s3 with heap:=s3.heap.push {cls:=.type "slice",data:=.fields #[vl,vu,.none]}} σ H3 x v vl vu l u s3.heap.objs.size Q I4 r1 (Heap.IsSliceOf.new ..) pl pu q3;show jS (jM X.prog X.w) X.A (subscriptTail e (.Slice lo hi xy p2) v (.ref s3.heap.objs.size)) (EP X xw σ Q) X.xe {s3 with heap:=s3.heap.push {cls:=.type "slice",data:=.fields #[vl,vu,.none]}}
 exact tail_any (ops:=[.ref s3.heap.objs.size,v]) ht hT hg (by with_unfolding_all rfl)
def G7(xs:List V)(lo hi:Option Int):List V:=(xs.drop (HT.sIx xs.length 0 lo)).take (HT.sIx xs.length xs.length hi-HT.sIx xs.length 0 lo)
theorem Yv(xs:List V)(lo hi:Option Int):(G7 xs lo hi).length<=xs.length:=by unfold G7;rw[qK,qT];lia
def rSlT(K:PySem.W.Frag):V->Option Int->Option Int->Hp->VK->Prop:=λx lo hi H Q=>∃a xs,x=.ref a/\SqT K H a xs/\
 ¬(HT.sIx xs.length 0 lo=0/\HT.sIx xs.length xs.length hi=xs.length)/\∀p,H p=xy->Q (.ref p) (upd H p (.tup (G7 xs lo hi)))
theorem ZFw:SlR X (rSlT X.K):=by
 intro xw s σ H x v vl vu lo hi sl Q I rx hs pl pu h;obtain⟨a,xs,rfl,hx,hw,q⟩:=h;cases rx;obtain⟨its,r,ht,hz⟩:=I.tuple hx;have hlen:its.toArray.size=xs.length:=by rw[zj];exact r.length.symm
 refine⟨"tuple",_,PyProof.Rows.slot_tuple_getitem.lookup,ht.typeIs,?_⟩;refine HT.ZEn ht hs pl pu (by rw[hlen];exact hw) ?_ (by rw[hlen];exact hz);rw[hlen];refine⟨.ref s.heap.objs.size,_,I.laid (t':=s.toks) (o:=.tup (G7 xs lo hi)) (λb ob q=>zZ _ q) (zq _) ?_,rfl,q _ (I.hok.fresh (zq _))⟩;exact⟨zk (Yv xs lo hi) hz,_,(r.drop (HT.sIx xs.length 0 lo)).take (HT.sIx xs.length xs.length hi-HT.sIx xs.length 0 lo),IsTup.new _ _⟩
def Vr(K:PySem.W.Frag):R2:=λx y H Q=>∃a b xs ys,x=.ref a/\y=.ref b/\SqT K H a xs/\SqT K H b ys/\xs≠[]/\xs.length+ys.length<=sizeLine/\
 (ys=[]->Q (.ref a) H)/\(ys≠[]->∀p,H p=xy->Q (.ref p) (upd H p (.tup (xs++ys))))
theorem Vals.R7{us:List jA}(r:Vals xs us):us=[]↔xs=[]:=by
 cases r with
 |nil=>simp
 |cons _ _=>simp
theorem ZD6:OpR X (jE .Add) (Vr X.K):=by
 intro xw s σ H x y v u Q I rx ry h;obtain⟨a,b,xs,ys,rfl,rfl,ha,hb,hx,hz,q1,q2⟩:=h;cases rx;cases ry;obtain⟨its,r1,p1,_⟩:=I.tuple ha;obtain⟨its2,r2,p2,_⟩:=I.tuple hb;refine HT.ZDu p1 p2 (λz=>hx (r1.R7.mp z)) (λz=>⟨.ref a,H,I,rfl,q1 (r2.R7.mp z)⟩) (λz=>?_) (by rw[<-r1.length,<-r2.length];exact hz);refine⟨.ref s.heap.objs.size,_,I.laid (t':=s.toks) (o:=.tup (xs++ys)) (λb ob q=>zZ _ q) (zq _) ?_,rfl,q2 (λw=>z (r2.R7.mpr w)) _ (I.hok.fresh (zq _))⟩
 exact⟨by rw[qy];exact hz,_,r1.append r2,IsTup.new _ _⟩
end
noncomputable def ixN(n:Nat)(i:Int):Option Nat:=if 0<=i then(if i<n then xk i.toNat else xy)else if -(n:Int)<=i then xk (i+n).toNat else xy
def atI{α:Type}(xs:List α)(i:Int):Option α:=(ixN xs.length i).bind λj=>xs[j]?
theorem Zt{i:Int}{j:Nat}(h:ixN n i=xk j):seqIndex? i n=xk j/\j<n/\ -(n:Int)<=i/\i<n:=by
 unfold ixN at h;by_cases h0:0<=i
 ·rw[if_pos h0]at h;by_cases h1:i<n
  ·rw[if_pos h1]at h;have e:i.toNat=j:=Option.some.inj h;exact⟨by rw[seqIndex_of h0 h1,e],by lia,by lia,h1⟩
  ·rw[if_neg h1]at h;cases h
 ·rw[if_neg h0]at h;by_cases h1: -(n:Int)<=i
  ·rw[if_pos h1]at h;have e:(i+n).toNat=j:=Option.some.inj h;exact⟨by rw[seqIndex_neg (by lia) h1,e],by lia,h1,by lia⟩
  ·rw[if_neg h1]at h;cases h
theorem Qu{α:Type}{xs:List α}{i:Int}{v:α}(h:atI xs i=xk v):∃j,seqIndex? i xs.length=xk j/\xs[j]?=xk v/\j<xs.length/\ -(xs.length:Int)<=i/\i<xs.length:=by
 unfold atI at h;cases e:ixN xs.length i with
 |none=>rw[e]at h;cases h
 |some j=>
  rw[e]at h;obtain⟨h1,h2,h3,h4⟩:=Zt e;exact⟨j,h1,h,h2,h3,h4⟩
def PlainIx(b:j3):Prop:=∀o i,subscripted b xA o i=operate [o,i] (getItem o i)
def IxR(X:Cx)(r:R2):Prop:=
 ∀(value slice:j3)(xw:List (j1×Obj))(s:j8)(σ:St)(H:Hp)(x y:V)(v u:jA)(Q:VK),Inv X xw σ H s->RelV x v->RelV y u->r x y H Q->
  subscripted slice xA v u=operate [v,u] (getItem v u)->jS (jM X.prog X.w) X.A (subscriptTail value slice v u) (EP X xw σ Q) X.xe s
def MtR(X:Cx)(id:String)(r:V->List V->Hp->VK->Prop):Prop:=
 ∀(xw:List (j1×Obj))(s:j8)(σ:St)(H:Hp)(x:V)(xs:List V)(v:jA)(us:List jA)(Q:VK),Inv X xw σ H s->RelV x v->Vals xs us->r x xs H Q->
  jS (jM X.prog X.w) X.A (call (.builtin id) (v::us)) (EP X xw σ Q) X.xe s
section
variable{X:Cx}{a b:j3}{ta tb:TE}{pos:Pos}
theorem IxR.or{r r':R2}(h:IxR X r)(h':IxR X r'):IxR X (λx y H Q=>r x y H Q∨r' x y H Q):=by
 intro value slice xw s σ H x y v u Q I rx ry q hs;rcases q with q|q
 ·exact h value slice xw s σ H x y v u Q I rx ry q hs
 ·exact h' value slice xw s σ H x y v u Q I rx ry q hs
theorem ZFk{r:R2}(hr:IxR X r)(ha:PE X a ta)(hb:PE X b tb)(hs:PlainIx b):PE X (.Subscript a b pos) (tOp r ta tb):=by intro xw s σ H Q I h;exact Subscript_ (binT ha hb I h λv u s2 x y H2 I2 rx ry q=>hr a b xw s2 σ H2 x y v u Q I2 rx ry q (hs _ _))
def rIxL(K:PySem.W.Frag):R2:=λx y H Q=>∃p xs i v,x=.ref p/\y=.int i/\SqL K H p xs/\atI xs i=xk v/\Q v H
def rIxT(K:PySem.W.Frag):R2:=λx y H Q=>∃p xs i v,x=.ref p/\y=.int i/\SqT K H p xs/\atI xs i=xk v/\Q v H
def rIxS:R2:=λx y H Q=>∃z i c,x=.str z/\y=.int i/\z.length<=sizeLine/\atI z.cps.toList i=xk c/\Q (.str ⟨#[c]⟩) H
theorem ZEW:IxR X (rIxL X.K):=by
 intro value slice xw s σ H x y v u Q I rx ry h hs;obtain⟨p,xs,i,z,rfl,rfl,hq,he,q⟩:=h;cases rx;obtain⟨t,rfl⟩:=ry;obtain⟨its,r,pl,hz⟩:=I.list hq;obtain⟨j,h1,h2,h3,h4,h5⟩:=Qu he;obtain⟨w,ew,rw'⟩:=r.get h2;have hl:=r.length;have hn:=line63;have fin:EP X xw σ Q w s:=⟨z,H,I,rw',q⟩;by_cases h0:0<=i
 ·have hj:i.toNat=j:=by rw[seqIndex_of h0 h5]at h1;exact Option.some.inj h1
  exact item_listR pl.isList h0 (by lia) (by rw[hj];simpa using ew) fin hs
 ·have hj:(i+(its.toArray.size:Int)).toNat=j:=by rw[seqIndex_neg (by lia) h4]at h1;rw[zj,<-hl];exact Option.some.inj h1
  exact subscriptTail_builtinR (x:=w) pl.isList.typeIs slot_list_getitem.lookup
   (wpAny_getItem_list_neg (Q:=λr s'=>r=w/\EP X xw σ Q r s') pl.isList (by lia) (by rw[zj]<;>lia) (by lia) (by rw[hj];simpa using ew) ⟨rfl,fin⟩) hs
theorem ZBn:IxR X (rIxT X.K):=by
 intro value slice xw s σ H x y v u Q I rx ry h hs;obtain⟨p,xs,i,z,rfl,rfl,hq,he,q⟩:=h;cases rx;obtain⟨t,rfl⟩:=ry;obtain⟨its,r,pl,hz⟩:=I.tuple hq;obtain⟨j,h1,h2,h3,h4,h5⟩:=Qu he;obtain⟨w,ew,rw'⟩:=r.get h2;have hl:=r.length;have hn:=line63;have fin:EP X xw σ Q w s:=⟨z,H,I,rw',q⟩;exact subscriptTail_builtinR (x:=w) pl.typeIs slot_tuple_getitem.lookup
  (getItem_tuple (j:=j) (Q:=λr s'=>r=w/\EP X xw σ Q r s') pl (by lia) (by lia) (by rw[zj,<-hl];exact h1) (by simpa using ew) ⟨rfl,fin⟩) hs
theorem ZCm:IxR X rIxS:=by
 intro value slice xw s σ H x y v u Q I rx ry h hs;obtain⟨z,i,c,rfl,rfl,hz,he,q⟩:=h;obtain⟨t,rfl⟩:=rx;obtain⟨t',rfl⟩:=ry;obtain⟨j,h1,h2,h3,h4,h5⟩:=Qu he;have hl:z.cps.toList.length=z.length:=by simp[Str.length]
 rw[hl]at h1 h4 h5;have hn:=line63;exact tail_any (typeIs_str s z t) slot_str_getitem.lookup (getItem_str (c:=c) (by have e1:decide (i < -(2^63:Int))=xA:=decide_eq_false (by lia);have e2:decide (i ≥ 2^63)=xA:=decide_eq_false (by lia);rw[e1,e2,Bool.or_false]) (by rw[h1];simpa using h2) ⟨.str ⟨#[c]⟩,H,I.tok _,⟨_,rfl⟩,q⟩) hs
def rIx(K:PySem.W.Frag):R2:=λx y H Q=>rIxL K x y H Q∨rIxT K x y H Q∨rIxS x y H Q
theorem ZFd:IxR X (rIx X.K):=ZEW.or (ZBn.or ZCm)
theorem ZEt(its:List jA)(n j:Nat)(u:jA):Obj.mapSeq (·.setIfInBounds j u) {cls:=.type "list",data:=.seq its.toArray n}={cls:=.type "list",data:=.seq (its.set j u).toArray n}:=by simp[Obj.mapSeq]
theorem Inv.lst{p:j1}(I:Inv X xw σ H s)(h:H p=xk (.lst xs)):
  ∃(its:List jA)(n:Nat),Vals xs its/\s.heap.get? p=xk {cls:=.type "list",data:=.seq its.toArray n}/\xs.length<=sizeLine:=by
 obtain⟨z,its,n,r,e⟩:=I.hok p _ h;exact⟨its,n,r,e,z⟩
theorem Inv.ZFD{p:j1}{ys:List V}{its':List jA}{n':Nat}{f:Obj->Obj}(I:Inv X xw σ H s)(h:H p=xk (.lst xs))
  (ho:s.heap.get? p=xk {cls:=.type "list",data:=.seq its.toArray n}) (hf:f {cls:=.type "list",data:=.seq its.toArray n}={cls:=.type "list",data:=.seq its'.toArray n'}) (r:Vals ys its') (hz:ys.length<=sizeLine) (t:Nat):
  Inv X xw σ (upd H p (.lst ys)) {s with heap:=s.heap.update p f,toks:=t}:=by
 have e:(s.heap.update p f).get? p=xk {cls:=.type "list",data:=.seq its'.toArray n'}:=by rw[jx f ho (by rw[hf]<;>rfl),hf]
 refine I.write (x:=p) (e:=p) (by rw[h];trivial) (.inl rfl) (λb u hb q=>(Heap.get?_update_other _ _ (Ne.symm hb)).trans q) ⟨_,e⟩ ?_;exact⟨hz,its',n',r,e⟩
def ZB8:V->V->V->Hp->(Hp->Prop)->Prop:=λo i v H Q=>∃p xs k j,o=.ref p/\i=.int k/\H p=xk (.lst xs)/\ixN xs.length k=xk j/\Q (upd H p (.lst (xs.set j v)))
theorem set_list:PSet X ZB8:=by
 intro xw s σ H o i v ov iv u Q I ro ri rv h;obtain⟨p,xs,k,j,rfl,rfl,hp,hj,q⟩:=h;cases ro;obtain⟨t,rfl⟩:=ri;obtain⟨its,n,r,ho,hz⟩:=I.lst hp;obtain⟨h1,h2,h3,h4⟩:=Zt hj;have hl:=r.length;have hn:=line63
 have I':Inv X xw σ (upd H p (.lst (xs.set j v))) {s with heap:=s.heap.update p (Obj.mapSeq (·.setIfInBounds j u))}:=
  I.ZFD hp ho (ZEt its n j u) (r.set rv j) (by rw[qN];exact hz) s.toks
 by_cases h0:0<=k
 ·have hk:k.toNat=j:=by rw[seqIndex_of h0 h4]at h1;exact Option.some.inj h1
  exact PySem.W.ki_setAt ho h0 (by lia) (by rw[zj,<-hl];exact h4) (by rw[hk];exact⟨_,I',q⟩)
 ·have hk:(k+(its.toArray.size:Int)).toNat=j:=by rw[seqIndex_neg (by lia) h3]at h1;rw[zj,<-hl];exact Option.some.inj h1
  exact PySem.W.ki_setBack ho (by lia) (by rw[zj,<-hl];exact h3) (by lia) (by rw[hk];exact⟨_,I',q⟩)
theorem ZGk(lo hi:Option Int)(n:Nat):(jO lo hi xy n).1=((HT.sIx n 0 lo:Nat):Int)/\(jO lo hi xy n).2.1=((HT.sIx n n hi:Nat):Int)/\(jO lo hi xy n).2.2=1:=by
 refine⟨?_,?_,rfl⟩
 ·cases lo with
  |none=>simp[jO,HT.sIx]
  |some i=>
   simp only[jO,HT.sIx,Option.getD_none,show(1:Int)>0 by decide,if_true];by_cases h:i<0
   ·simp only[h,if_true]<;>lia
   ·simp only[h,if_false]<;>lia
 ·cases hi with
  |none=>simp[jO,HT.sIx]
  |some i=>
   simp only[jO,HT.sIx,Option.getD_none,show(1:Int)>0 by decide,if_true];by_cases h:i<0
   ·simp only[h,if_true]<;>lia
   ·simp only[h,if_false]<;>lia
theorem ZF3(its:List jA)(lo hi:Option Int):slicePick its.toArray lo hi xy=((its.drop (HT.sIx its.length 0 lo)).take (HT.sIx its.length its.length hi-HT.sIx its.length 0 lo)).toArray:=by
 obtain⟨h1,h2,h3⟩:=ZGk lo hi its.toArray.size;unfold slicePick;rw[h1,h2,h3]
 simp only[sliceRange_one,pick_run,zj]<;>rfl
def rSlL(K:PySem.W.Frag):V->Option Int->Option Int->Hp->VK->Prop:=λx lo hi H Q=>∃a xs,x=.ref a/\SqL K H a xs/\∀p,H p=xy->Q (.ref p) (upd H p (.lst (G7 xs lo hi)))
theorem ZCs:SlR X (rSlL X.K):=by
 intro xw s σ H x v vl vu lo hi sl Q I rx hs pl pu h;obtain⟨a,xs,rfl,hx,q⟩:=h;cases rx;obtain⟨its,r,ht,hz⟩:=I.list hx;have hlen:=r.length;refine⟨"list",_,slot_list_getitem.lookup,ht.isList.typeIs,?_⟩
 refine wpAny_getItem_list_slice ht.isList hs pl pu .none (by simp) ?_ (by rw[zj]<;>lia)
 rw[ZF3,<-hlen];refine⟨.ref s.heap.objs.size,_,I.laid (t':=s.toks) (o:=.lst (G7 xs lo hi)) (λb ob q=>zZ _ q) (zq _) ?_,rfl,q _ (I.hok.fresh (zq _))⟩;exact⟨zk (Yv xs lo hi) hz,_,0,(r.drop (HT.sIx xs.length 0 lo)).take (HT.sIx xs.length xs.length hi-HT.sIx xs.length 0 lo),zy _ rfl⟩
noncomputable def Bl:V->Bool
 |.non=>x0
 |.bl _=>x0
 |.int _=>x0
 |.str _=>x0
 |_=>xA
noncomputable def eqV:V->V->Bool
 |.non,.non=>x0
 |.bl a,.bl b=>a==b
 |.bl a,.int b=>(if a then 1 else 0)==b
 |.int a,.bl b=>a==(if b then 1 else 0)
 |.int a,.int b=>a==b
 |.str a,.str b=>a==b
 |_,_=>xA
theorem Wn{A:j2}{y x:V}{u v:jA}(ry:RelV y u)(rx:RelV x v)(fy:Bl y=x0)(fx:Bl x=x0):SeqAt.EqAt A s u v (eqV y x):=by
 cases y with
 |non=>
  cases ry;cases x with
  |non=>cases rx;exact SeqAt.EqAt.same _
  |bl b=>cases rx;exact SeqAt.EqAt.none_bool b
  |int b=>obtain⟨t,rfl⟩:=rx;exact SeqAt.EqAt.none_int b t
  |str b=>obtain⟨t,rfl⟩:=rx;exact SeqAt.EqAt.none_str b t
  |_=>exact absurd (show xA=x0 from fx) zw
 |bl a=>
  cases ry;cases x with
  |non=>cases rx;exact SeqAt.EqAt.bool_none a
  |bl b=>cases rx;exact SeqAt.EqAt.bool_bool a b
  |int b=>obtain⟨t,rfl⟩:=rx;exact SeqAt.EqAt.bool_int a b t
  |str b=>obtain⟨t,rfl⟩:=rx;exact SeqAt.EqAt.bool_str a b t
  |_=>exact absurd (show xA=x0 from fx) zw
 |int a=>
  obtain⟨t',rfl⟩:=ry;cases x with
  |non=>cases rx;exact SeqAt.EqAt.int_none a t'
  |bl b=>cases rx;exact SeqAt.EqAt.int_bool a t' b
  |int b=>obtain⟨t,rfl⟩:=rx;exact SeqAt.EqAt.int_int a t' b t
  |str b=>obtain⟨t,rfl⟩:=rx;exact SeqAt.EqAt.int_str a t' b t
  |_=>exact absurd (show xA=x0 from fx) zw
 |str a=>
  obtain⟨t',rfl⟩:=ry;cases x with
  |non=>cases rx;exact SeqAt.EqAt.str_none a t'
  |bl b=>cases rx;exact SeqAt.EqAt.str_bool a t' b
  |int b=>obtain⟨t,rfl⟩:=rx;exact SeqAt.EqAt.str_int a t' b t
  |str b=>obtain⟨t,rfl⟩:=rx;exact SeqAt.EqAt.str_str a t' b t
  |_=>exact absurd (show xA=x0 from fx) zw
 |_=>exact absurd (show xA=x0 from fy) zw
def eqU(x:V)(u:jA):Bool:=match u with
 |.none=>eqV .non x
 |.bool b=>eqV (.bl b) x
 |.int i _=>eqV (.int i) x
 |.str z _=>eqV (.str z) x
 |_=>xA
theorem Xc{x y:V}{u:jA}(r:RelV y u)(f:Bl y=x0):eqU x u=eqV y x:=by
 cases y with
 |non=>cases r;rfl
 |bl b=>cases r;rfl
 |int i=>obtain⟨t,rfl⟩:=r;rfl
 |str z=>obtain⟨t,rfl⟩:=r;rfl
 |_=>exact absurd (show xA=x0 from f) zw
theorem Rc{x:V}:∀{xs:List V}{us:List jA},Vals xs us->xs.all Bl=x0->us.any (eqU x)=xs.any λy=>eqV y x
 |_,_,.nil,_=>rfl
 |y::xs,u::us,.cons r t,f=>by rw[qO,zC]at f;rw[qP,qP,Xc r f.1,Rc t f.2]
theorem Oq{A:j2}{x:V}{v:jA}(rx:RelV x v)(fx:Bl x=x0):∀{xs:List V}{us:List jA},Vals xs us->xs.all Bl=x0->∀u∈us,SeqAt.EqAt A s u v (eqU x u)
 |_,_,.nil,_=>λu hu=>by cases hu
 |y::xs,u::us,.cons r t,f=>λu' hu=>by
  rw[qO,zC]at f;rcases zA.mp hu with rfl|hu
  ·rw[Xc r f.1];exact Wn r rx f.1 fx
  ·exact Oq rx fx t f.2 u' hu
def inV(x:V)(xs:List V):Bool:=xs.any λy=>eqV y x
def rIn(K:PySem.W.Frag)(neg:Bool):R2:=λx y H Q=>∃p xs,y=.ref p/\(SqL K H p xs∨SqT K H p xs)/\Bl x=x0/\xs.all Bl=x0/\Q (.bl (if neg then !inV x xs else inV x xs)) H
theorem ZD3:OpR X (jG .NotIn) (rIn X.K x0):=by
 intro xw s σ H x y v u Q I rx ry h;obtain⟨p,xs,rfl,hq,fx,fs,q⟩:=h;cases ry;rcases hq with hq|hq
 ·obtain⟨its,r,pl,hz⟩:=I.list hq;refine SeqAt.notIn_listAt (eqU x) pl.isList (λw hw=>Oq rx fx r fs w (by simpa using hw)) ⟨.bl _,H,I,rfl,?_⟩;rw[show its.toArray.any (eqU x)=its.any (eqU x) by simp,Rc r fs];exact q
 ·obtain⟨its,r,pl,hz⟩:=I.tuple hq;refine SeqAt.notIn_tupleAt (eqU x) pl (λw hw=>Oq rx fx r fs w (by simpa using hw)) ⟨.bl _,H,I,rfl,?_⟩;rw[show its.toArray.any (eqU x)=its.any (eqU x) by simp,Rc r fs];exact q
theorem ZFY:CallR X (.builtin "len") (λxs H Q=>∃p ys,xs=[.ref p]/\(SqL X.K H p ys∨SqT X.K H p ys)/\Q (.int ys.length) H):=by
 intro xw s σ H xs us Q I r h;obtain⟨p,ys,rfl,hq,q⟩:=h;obtain⟨u,rfl,rx⟩:=vals1 r;cases rx;have hn:=line63;rcases hq with hq|hq
 ·obtain⟨its,r',pl,hz⟩:=I.list hq;have hlen:=r'.length
  exact Calls.call_len_list pl.isList (by simp only[zj]<;>lia) ⟨.int ys.length,H,I.tok _,⟨s.toks+1,by rw[zj,hlen]⟩,q⟩
 ·obtain⟨its,r',pl,hz⟩:=I.tuple hq;have hlen:=r'.length
  exact len_tuple pl (by simp only[zj]<;>lia) ⟨.int ys.length,H,I.tok _,⟨s.toks+1,by rw[zj,hlen]⟩,q⟩
theorem ZAr:CallR X (.builtin "len") (λxs H Q=>∃z,xs=[.str z]/\z.length<=sizeLine/\Q (.int z.length) H):=by intro xw s σ H xs us Q I r h;obtain⟨z,rfl,hz,q⟩:=h;obtain⟨u,rfl,t,rfl⟩:=vals1 r;have hn:=line63;exact len_str (by lia) ⟨.int z.length,H,I.tok _,⟨_,rfl⟩,q⟩
theorem CallR.or{f:jA}{r r':List V->Hp->VK->Prop}(h:CallR X f r)(h':CallR X f r'):CallR X f (λxs H Q=>r xs H Q∨r' xs H Q):=by
 intro xw s σ H xs us Q I rs q;rcases q with q|q
 ·exact h xw s σ H xs us Q I rs q
 ·exact h' xw s σ H xs us Q I rs q
theorem ZGN:CallR X (.type "list") (λxs H Q=>∃p ys,xs=[.ref p]/\(SqL X.K H p ys∨SqT X.K H p ys)/\∀l,H l=xy->Q (.ref l) (upd H l (.lst ys))):=by
 intro xw s σ H xs us Q I r h;obtain⟨p,ys,rfl,hq,q⟩:=h;obtain⟨u,rfl,rx⟩:=vals1 r;cases rx;have fin:∀(its:List jA),Vals ys its->ys.length<=sizeLine->∀(h':Heap)(c':Nat),(∀b o',s.heap.get? b=xk o'->h'.get? b=xk o')->
   h'.get? s.heap.objs.size=xk {cls:=.type "list",dict:=xy,data:=.seq its.toArray c',slots:= #[]}->EP X xw σ Q (.ref s.heap.objs.size) {s with heap:=h'}:=λits r' hz h' c' kp e=>
  ⟨.ref s.heap.objs.size,_,I.laid (t':=s.toks) kp (zq _) (show ObjOk X.prog X.w _ h' _ (.lst ys)from⟨hz,its,c',r',e⟩),rfl,q _ (I.hok.fresh (zq _))⟩
 rcases hq with hq|hq
 ·obtain⟨its,r',pl,hz⟩:=I.list hq;have hlen:=r'.length;obtain⟨o,ho,hc,n,hd⟩:=pl.isList
  exact call_list_seq p (.inl rfl) ho hc hd (λh' c' kp e=>fin its r' hz h' c' kp e) (by simp only[zj]<;>lia)
 ·obtain⟨its,r',pl,hz⟩:=I.tuple hq;have hlen:=r'.length;obtain⟨o,ho,hc,n,hd⟩:=pl
  exact call_list_seq p (.inr rfl) ho hc hd (λh' c' kp e=>fin its r' hz h' c' kp e) (by simp only[zj]<;>lia)
theorem ZBT:CallR X (.type "tuple") (λxs H Q=>∃p ys,xs=[.ref p]/\((SqL X.K H p ys/\∀l,H l=xy->Q (.ref l) (upd H l (.tup ys)))∨(SqT X.K H p ys/\Q (.ref p) H))):=by
 intro xw s σ H xs us Q I r h;obtain⟨p,ys,rfl,h⟩:=h;obtain⟨u,rfl,rx⟩:=vals1 r;cases rx;rcases h with⟨hq,q⟩|⟨hq,q⟩
 ·obtain⟨its,r',pl,hz⟩:=I.list hq;have hlen:=r'.length
  refine call_tuple_list pl.isList (λh' kp=>?_) (by simp only[zj]<;>lia)
  have I1:Inv X xw σ H {s with heap:=h'}:=I.kept (t':=s.toks) kp;have I2:Inv X xw σ (upd H h'.objs.size (.tup ys)) {s with heap:=h'.push {cls:=.type "tuple",data:=.seq its.toArray}}:=
   I1.laid (t':=s.toks) (λb o e=>zZ _ e) (zq _) (show ObjOk X.prog X.w _ _ _ (.tup ys)from⟨hz,its,r',IsTup.new _ _⟩)
  exact⟨.ref h'.objs.size,_,I2,rfl,q _ (I1.hok.fresh (zq _))⟩
 ·obtain⟨its,r',pl,hz⟩:=I.tuple hq;exact call_tuple_same pl ⟨.ref p,H,I,rfl,q⟩
def tyV(K:PySem.W.Frag)(T:String)(x:V)(H:Hp):Prop:=match x with
 |.str _=>T="str"
 |.int _=>T="int"
 | .ref p=>(T="list"/\∃xs,SqL K H p xs)∨(T="tuple"/\∃o,K.lookup p=xk o/\o.cls=.type "tuple"/\o.dict=xy)∨
   (T="dict"/\((∃kvs,H p=xk (.dK kvs))∨∃kvs,H p=xk (.dT kvs)))∨(T="set"/\∃S n,H p=xk (.set S n))
 |_=>False
theorem ZFi{T:String}{x:V}{v:jA}(I:Inv X xw σ H s)(r:RelV x v)(ty:tyV X.K T x H):
  s.TypeIs v T/\∀a,v=.ref a->∃ob,s.heap.get? a=xk ob/\ob.dict=xy:=by
 cases x with
 |str z=>
  obtain⟨t,rfl⟩:=r
  cases(show T="str" from ty)
  exact⟨typeIs_str s z t,λ_ e=>nomatch e⟩
 |int i=>
  obtain⟨t,rfl⟩:=r
  cases(show T="int" from ty)
  exact⟨typeIs_int s i t,λ_ e=>nomatch e⟩
 | ref p=>
  cases r;rcases ty with⟨rfl,xs,hq⟩|⟨rfl,o,hk,hc,hd⟩|⟨rfl,hk⟩|⟨rfl,S,n,hk⟩
  ·obtain⟨its,_,pl,_⟩:=I.list hq;refine⟨pl.isList.typeIs,λa e=>?_⟩;cases e;obtain⟨o,n,e,c,hd,_⟩:=pl;exact⟨o,e,hd⟩
  ·refine⟨⟨o,I.kIn p o hk,hc⟩,λa e=>?_⟩;cases e;exact⟨o,I.kIn _ o hk,hd⟩
  ·have z:∃o,s.heap.get? p=xk o/\o.ExactDict:=by
    rcases hk with⟨kvs,hk⟩|⟨kvs,hk⟩
    ·obtain⟨_,_,_,_,o,_,_,e,ex,_⟩:=I.hok p _ hk;exact⟨o,e,ex⟩
    ·obtain⟨_,_,_,_,o,_,_,e,ex,_⟩:=I.hok p _ hk;exact⟨o,e,ex⟩
   obtain⟨o,e,ex⟩:=z;refine⟨⟨o,e,ex.1⟩,λa e2=>?_⟩;cases e2;exact⟨o,e,ex.2.1⟩
  ·obtain⟨o,_,_,_,e,ex,_⟩:=I.hok p _ hk;refine⟨⟨o,e,ex.1⟩,λa e2=>?_⟩;cases e2;exact⟨o,e,ex.2.1⟩
 |_=>exact False.elim ty
noncomputable def tBM(K:PySem.W.Frag)(T:String)(r:V->List V->Hp->VK->Prop)(to:TE)(t:TA):TE:=λσ H Q=>to σ H λx H1=>tyV K T x H1/\t σ H1 λxs H2=>r x xs H2 Q
variable{o e:j3}{es:List j3}{to:TE}{t:TA}{name:Str}{apos cpos:Pos}{T id:String}{r:V->List V->Hp->VK->Prop}
theorem ZEy(pa:PlainAttrs T)(slot:Slot T name id)(hty:typeOf (.builtin id)=pure (.type "method_descriptor"))(hm:MtR X id r)(ho:PE X o to)(ha:PA X (e::es) t)
  (hbase:attributeBase o name X.env (eval o X.env)=eval o X.env:=by rfl)
  (hfew:((jD cpos (jP (e::es) X.env)).all (λx=> !x.1)&&(backToKw cpos (keywordEach [] X.env)).all (λx=>x.1.isSome)
   && decide ((e::es).length+([]:List Keyword).length+(if([]:List Keyword).isEmpty then 0 else 1)<30))=x0:=by rfl)
  (hline:(apos.endLine==cpos.line)=x0:=by rfl) (hs:jP (e::es) X.env=(xA,eval e X.env)::jP es X.env:=by rfl) (hplain:(jD cpos (jP es X.env)).any (·.1)=xA:=by rfl):
  PE X (.Call (.Attribute o name apos) (e::es) [] cpos) (tBM X.K T r to t):=by
 intro xw s σ H Q I h;refine wpAny_Call_method_late hbase hfew hline rfl (thn (ho xw s σ H _ I h) λv s1 ⟨x,H1,I1,r1,ty,q1⟩=>?_);obtain⟨h1,h2⟩:=ZFi I1 r1 ty;refine⟨T,id,pa,slot,hty,h1,h2,?_⟩;have hA:=ha cpos xw s1 σ H1 _ I1 q1;rw[hs]at hA⊢
 refine Calls.callWith_builtin (by show(xA||(jD cpos (jP es X.env)).any (·.1))=xA;rw[hplain]<;>rfl) (Calls.evalArgs_plain ?_)
 exact thn hA λus s2 ⟨vs,H2,I2,r2,q2⟩=>hm xw s2 σ H2 x vs v us Q I2 r1 r2 q2
end
def MtM(X:Cx)(id:String)(r:V->List V->Hp->VK->Prop):Prop:=
 ∀(xw:List (j1×Obj))(s:j8)(σ:St)(H:Hp)(x:V)(xs:List V)(v:jA)(us:List jA)(Q:VK),Inv X xw σ H s->RelV x v->Vals xs us->r x xs H Q->
  jS (jM X.prog X.w) X.A (call (.builtin id) (v::us)) (EP X xw σ Q) X.xe s
theorem Vals.one:∀{x:V}{us:List jA},Vals [x] us->∃u,us=[u]/\RelV x u:=by intro x us h;cases h with |cons r t=>cases t;exact⟨_,rfl,r⟩
theorem Vals.eraseIdx:∀{xs:List V}{us:List jA}(i:Nat),Vals xs us->Vals (xs.eraseIdx i) (us.eraseIdx i)
 |_,_,_,.nil=>.nil
 |_,_,0,.cons _ t=>t
 |_,_,i+1,.cons r t=>.cons r (Vals.eraseIdx i t)
theorem Wr{α:Type}:∀(l:List α)(i:Nat),(l.eraseIdx i).length<=l.length
 |[],_=>zq _
 |_::_,0=>jX _
 |_::r,i+1=>Nat.succ_le_succ (Wr r i)
section
variable{X:Cx}{xw:List (j1×Obj)}{σ:St}{H:Hp}{s:j8}{l b:j1}{xs ys zs:List V}
theorem Inv.lset{its':List jA}{f:Array jA->Array jA}{t':Nat}(I:Inv X xw σ H s)(hH:H l=xk (.lst xs))
  (e:s.heap.get? l=xk {cls:=.type "list",data:=.seq its.toArray n}) (hf:f its.toArray=its'.toArray) (hv:Vals ys its') (hz:ys.length<=sizeLine):
  Inv X xw σ (upd H l (.lst ys)) {s with heap:=s.heap.update l (Obj.mapSeq f),toks:=t'}:=by
 have q:=PySem.IsL.update e f;rw[hf]at q;refine I.write (x:=l) (e:=l) (by rw[hH];exact trivial) (.inl rfl) (λb' u hb hu=>(Heap.get?_update_other s.heap (Obj.mapSeq f) (Ne.symm hb)).trans hu) ⟨_,q⟩ ?_;exact⟨hz,its',_,hv,q⟩
theorem Inv.lnew{t':Nat}(I:Inv X xw σ H s)(hv:Vals ys its)(hz:ys.length<=sizeLine):
  Inv X xw σ (upd H s.heap.objs.size (.lst ys)) {s with heap:=s.heap.push {cls:=.type "list",data:=.seq its.toArray},toks:=t'}:=
 I.laid (λ_ _ q=>zZ _ q) (zq _) ⟨hz,its,0,hv,zy _ rfl⟩
theorem Inv.fresh(I:Inv X xw σ H s):H s.heap.objs.size=xy:=I.hok.fresh (zq _)
theorem Inv.lstM(I:Inv X xw σ H s)(hH:H l=xk (.lst xs)):xs.length<=sizeLine/\∃(its:List jA)(n:Nat),Vals xs its/\xs.length=its.length/\s.heap.get? l=xk {cls:=.type "list",data:=.seq its.toArray n}:=by obtain⟨z,its,n,r,e⟩:=I.hok l _ hH;exact⟨z,its,n,r,r.length,e⟩
end
section
variable{X:Cx}
def ZGS:V->List V->Hp->VK->Prop:=λx vs H Q=>∃l xs y,x=.ref l/\vs=[y]/\H l=xk (.lst xs)/\xs.length<sizeLine/\Q .non (upd H l (.lst (xs++[y])))
theorem ZBp:MtM X "list.append" ZGS:=by
 intro xw s σ H x vs v us Q I rx rv h;obtain⟨l,xs,y,rfl,rfl,hH,hz,q⟩:=h;cases rx;obtain⟨u,rfl,ru⟩:=rv.one;obtain⟨z,its,n,r,hl,e⟩:=I.lstM hH;refine call_meets F.slot_list_append ⟨_,e,rfl⟩ F.entry_list_append (F.args_list_append_2 _ _) (PySem.list_append l its.toArray n u (by rw[zj];lia)) ⟨e,?_⟩;refine⟨.non,_,I.lset (its':=its++[u]) hH e (by simp) (r.append (.cons ru .nil)) ?_,rfl,q⟩
 rw[qy,List.length_singleton];lia
def ZDm:V->List V->Hp->VK->Prop:=λx vs H Q=>∃l xs i k y,x=.ref l/\vs=[.int i]/\H l=xk (.lst xs)/\ -(2^63)<=i/\i<2^63/\seqIndex? i xs.length=xk k/\xs[k]?=xk y/\Q y (upd H l (.lst (xs.eraseIdx k)))
theorem ZER:MtM X "list.pop" ZDm:=by
 intro xw s σ H x vs v us Q I rx rv h;obtain⟨l,xs,i,k,y,rfl,rfl,hH,h1,h2,hk,hy,q⟩:=h;cases rx;obtain⟨u,rfl,ru⟩:=rv.one;obtain⟨t,rfl⟩:=ru;obtain⟨z,its,n,r,hl,e⟩:=I.lstM hH;obtain⟨w,hw,rw'⟩:=r.get hy;refine call_meets F.slot_list_pop ⟨_,e,rfl⟩ F.entry_list_pop (F.args_list_pop_2 _ _)
  (MeetsSeq.list_pop_at l its.toArray n i t k w (fitsIndex_both h1 h2) (by rw[zj,<-hl];exact hk) (by rw[<-qR];exact hw) (by rw[zj];lia)) ⟨e,?_⟩
 refine⟨y,_,I.lset (its':=its.eraseIdx k) hH e ?_ (r.eraseIdx k) ?_,rw',q⟩
 ·show its.toArray.eraseIdxIfInBounds k=(its.eraseIdx k).toArray;rw[List.eraseIdxIfInBounds_toArray]
 ·have:=Wr xs k;lia
end
section
variable{prog:j6}{w:jB}{A:j2}{E:jA->j8->Prop}{s:j8}
end
section
variable{X:Cx}
end
end _L
namespace Att
open PySem PySem.W PySem.Calls PyProof.Rows
theorem ZCu{P:Params}{h:Heap}:∀(ns:List Int)(vs:List jA),WellAll P h vs (ns.map WData.int)->IntsAre vs ns:=by
 intro ns
 induction ns with
 |nil=>
  intro vs w;rw[zU]at w;cases w;exact .nil
 | cons n ns ih=>
  intro vs w;rw[zK]at w;cases w with
  |cons a b=>
   cases a;exact .cons _ _ (ih _ b)
theorem ZHH{l:OpenLaw}{n:Nat}(hn:l.most=xk n){P:Params}{h:Heap}{args:List WData}{vals:List jA}
  (hpre:l.row.toRowW.claim.pre args=x0) (hwl:WellAll P h vals args):
  ∃a vs ns,vals=[Value.ref a]/\args=[WData.list (ns.map WData.int)]/\h.get? a=xk {cls:=.type "list",data:=.seq vs.toArray}/\IntsAre vs ns/\ns.length<=n:=by
 have hsh:WShape.hasAll [] args [.list .int]=x0:=(pre_splitW hpre).1;have hc:l.pre.holds [] {args:=args}=x0:=(pre_splitW hpre).2;obtain⟨d,r,rfl,h1,h2⟩:=hasAllW_cons hsh;obtain rfl:=hasAllW_nil h2;obtain⟨xs,rfl,h3⟩:=hasW_list h1;obtain⟨ns,rfl⟩:=items_int h3;have hlen:ns.length<=n:=by
  unfold OpenLaw.pre at hc;have h4:(WTm.not (.lt (.lit (.int (n:Int))) (.len (.arg 0)))).holds [] {args:=[.list (ns.map .int)]}=x0:=by have h4:=(holds_andW hc).1;rw[hn]at h4;exact h4
  have h5:=condW_of h4 (w_not (w_lt w_lit (w_len_list (w_arg rfl))));rw[zX]at h5;refine Nat.le_of_not_lt λq=>?_
  have q':(n:Int)<((ns.length:Nat):Int):=by lia
  first
   |(rw[decide_eq_true q']at h5;exact absurd h5 (by decide))
   |(simp at h5;lia)
 cases hwl with
 |cons w1 w2=>
  cases w2;cases w1 with
  |list ho hall=>exact⟨_,_,ns,rfl,rfl,ho,ZCu ns _ hall,hlen⟩
theorem ZGR(l:OpenLaw)(args:List WData):l.row.toRowW.claim.post args (.bool x0) args=x0:=
 postW_of (r:=l.row.toRowW) (X:=(x0==x0))
  (show WShape.has [] (.bool x0) .bool=x0 by first|rfl|decide|simp[WShape.has,WShape.arms,WShape.armsAll])
  (show(WTm.eq .res (.lit (.bool x0))).value [] {args:=args,res:=xk (.bool x0),after:=args}=xk (.bool (x0==x0))from w_eq_bool (w_res rfl) w_lit) rfl
theorem ZBJ{l:OpenLaw}{n:Nat}{q:j6}{loose:List Str}{XP:(Str->Option jA)->Heap->Prop}{YP:jB->Heap->Prop}{d:DefRec}
  (hn:l.most=xk n) (hdf:d.params.defaults=[])
  (call:∀(w:jB)(s₀ s₁:j8)(mg mb:Str->Option jA)(fa:j1)(o:Obj)(pm cd doc:jA)(a:j1)(vs:List jA)(ns:List Int),
   Ground q loose [] XP w s₀ mg mb s₁.heap->YP w s₁.heap->
   s₁.heap.get? fa=xk o->o.data=.func (docDef d.name d.params d.body d.scope pm cd doc)->s₁.heap.CodeRec cd d.name->mg d.name=xk (.ref fa)->
   s₁.heap.get? a=xk {cls:=.type "list",data:=.seq vs.toArray}->IntsAre vs ns->ns.length<=n->s₁.gens= #[]->
   codeAny (jM l.prog w) callerA (.call (.ref fa) ⟨[.ref a],[]⟩) (λr s'=>r=.ok (.ret (.bool x0))/\OldK s₁.heap s'.heap/\s'.os=s₁.os/\AllBare s'.gens) s₁):
  WalkO q loose XP YP l.row.toRowW d [] (λf vs=>PySem.call f vs):=by
 intro w s₀ s₁ mg mb G Y fa o pm cd doc dV kV ho hd hcd hD hmg hg args vals as hpre hlay hrd hwl hlo;obtain rfl:dV=.none:=Dflts.none hD hdf;obtain rfl:kV=.none:=Dflts.noKw hD;obtain⟨a,vs,ns,rfl,rfl,hobj,hints,hlen⟩:=ZHH hn hpre hwl;refine enter_call (codeAny_mono (call w s₀ s₁ mg mb fa o pm cd doc a vs ns G Y ho (fd_plain hd) hcd hmg hobj hints hlen hg) λr s' hq=>?_);obtain⟨rfl,h2,h3,h4⟩:=hq
 exact⟨.inl ⟨.bool x0,.bool x0,[],rfl,λ_=>rfl,.bool x0,ZGR l _,λ_=>⟨List.Pairwise.nil,λ_ hm=>(nomatch hm)⟩⟩,h2,h3,h4⟩
section
variable{prog:j6}{w:jB}{A:j2}{E:jA->j8->Prop}{s:j8}{K:xz}
end
end Att
namespace _L
open PySem PySem.Spec PyProof.Rows
variable{P:j6}{w:jB}{k:Nat}{a b:j1}{fd:j4}{x:Str}{y:V}{u:jA}{H H':Hp}{kvs:List (List Key×V)}
theorem Ke:∀{vs:List jA}{ns:List Int},IntsAre vs ns->Vals (ns.map V.int) vs
 |_,_,.nil=>.nil
 |_,_,.cons n t h=>.cons ⟨t,rfl⟩ (Ke h)
def Only(H:Hp):Prop:=∀b,H b=xy∨∃o xs,H b=xk (.frz o (.lst xs))
theorem ZHR{K:PySem.W.Frag}{mg mb:Str->Option jA}{CX:CXT}{fa:j1}{sp:Sp}{s₁:j8}{vs:List jA}{ns:List Int}
  (KX:K.In s₁.heap) (hns:s₁.heap.Ns jL mg) (hb:s₁.heap.Ns builtinsNs mb) (hbb:∀x:Str,x≠"__name__"->mb x=jF x) (hlim:s₁.heap.NoLimit) (hg:s₁.gens= #[])
  (ha:s₁.heap.get? a=xk {cls:=.type "list",data:=.seq vs.toArray}) (hi:IntsAre vs ns) (hl:ns.length<=sizeLine) (hr:Room k callerA)
  (F:∀base:Heap,K.In base->base.Ns jL mg->FnOk P w K mg base CX k fa fd [x] sp) (hbind:∀(s:j8)(u:jA),BindsTo s fd ⟨[u],[]⟩ [(x,u)])
  (hsp:∀H:Hp,Only H->SqL K H a (ns.map V.int)->sp [.ref a] H (λv _=>v=.bl x0) λ_ _ _=>False)
  (hCX:∀H e s',CX [] H s₁ (λ_ _ _=>False) e s'->False):
  codeAny (jM P w) callerA (.call (.ref fa) ⟨[.ref a],[]⟩) (λr s'=>r=.ok (.ret (.bool x0))/\OldK s₁.heap s'.heap/\s'.os=s₁.os/\AllBare s'.gens) s₁:=by
 have rv:=Ke hi;have lenV:=hi.length;have core:∀H:Hp,Only H->SqL K H a (ns.map V.int)->HOk P w H s₁.heap->(∀b,H b≠xy->b=a)->(H a≠xy->K.lookup a=xy)->
   codeAny (jM P w) callerA (.call (.ref fa) ⟨[.ref a],[]⟩) (λr s'=>r=.ok (.ret (.bool x0))/\OldK s₁.heap s'.heap/\s'.os=s₁.os/\AllBare s'.gens) s₁:=by
  intro H hO hS hok hA hK;have base_of:∀{b:j1}{o:Obj},s₁.heap.get? b=xk o->H b=xy->(Fw s₁.heap H).get? b=xk o:=λe n=>ZGK e n
  have noA:∀{b:j1}{o:Obj}{es:Array DictEntry}{ep:Nat},s₁.heap.get? b=xk o->o.data=.dict es ep->H b=xy:=λ{b o es ep}e d=>by
   cases q:H b with
   |none=>rfl
   |some u=>
    have e':b=a:=hA b (by rw[q];simp);subst e';rw[ha]at e;cases e;have d':Data.seq vs.toArray _=Data.dict es ep:=d;cases d'
  have nsK:∀{b:j1}{m:Str->Option jA},s₁.heap.Ns b m->(Fw s₁.heap H).Ns b m:=λ{b m}⟨o,es,ep,e,d,r⟩=>⟨o,es,ep,base_of e (noA e d),d,r⟩
  have hKb:K.In (Fw s₁.heap H):=λb o e=>base_of (KX b o e) (by
   cases q:H b with
   |none=>rfl
   |some u=>
    have e':b=a:=hA b (by rw[q];simp);subst e';rw[hK (by rw[q];simp)]at e;cases e)
  have hM:Mod K mg (Fw s₁.heap H):=⟨hKb,nsK hns,⟨mb,nsK hb,hbb⟩,let⟨mc,h1,h2⟩:=hlim;⟨mc,nsK h1,h2⟩⟩
  have e0:Env0 P w K mg (Fw s₁.heap H) callerA [] s₁ H:=⟨rfl,hM,λb o e=>ZFu e,Nat.le_of_eq (ZDw _ _),trivial,λb hb=>absurd (show b∈([]:List j1)from hb) (by simp),hok,.of_eq hg⟩
  refine codeAny_mono ((F _ hKb (nsK hns)).run callerA [] s₁ H ⟨[.ref a],[]⟩ [.ref a] [.ref a] _ _ hr e0 (hbind s₁ (.ref a)) (.cons rfl .nil) (hsp H hO hS)) λr s' h=>?_
  cases r with
  |error e=>exact(hCX H e s' h).elim
  | ok fl=>
   cases fl with
   |next=>exact False.elim h
   |brk=>exact False.elim h
   |cont=>exact False.elim h
   | ret u=>
    obtain⟨v,H',os,bare,un,hok',r',q⟩:=h;have q':v=.bl x0:=q;subst q';obtain rfl:u=Value.bool x0:=r';refine⟨rfl,OldK.of_keep λb o e=>?_,os,bare⟩;cases q:H b with
    |none=>exact un.keep b o e q (by intro z;exact absurd (show b∈([]:List j1)from z) (by simp)) (by simp)
    |some u=>
     rcases hO b with z|⟨ob,xs,z⟩
     ·rw[q]at z;cases z
     ·have z2:=un.frzs b ob _ z;obtain⟨e1,_⟩:=hok b _ z;obtain⟨e2,_⟩:=hok' b _ z2;rw[e]at e1;cases e1;exact e2
 cases hk:K.lookup a with
 |some o=>
  have e:=KX a o hk;rw[ha]at e;cases e;refine core (λ_=>xy) (λ_=>.inl rfl) (.inr ⟨_,vs.toArray,_,hk,rfl,rfl,rfl,by rw[zj,lenV];exact hl,by simpa using rv⟩) (λb u z=>by have z':(xy:Option HO)=xk u:=z;cases z') (λb z=>absurd rfl z) λz=>absurd rfl z
 | none=>
  refine core (λb=>if b=a then xk (.frz {cls:=.type "list",data:=.seq vs.toArray} (.lst (ns.map V.int)))else xy) (λb=>?_) (.inl (.inr ⟨{cls:=.type "list",data:=.seq vs.toArray},if_pos rfl⟩)) (λb u z=>?_) (λb z=>?_) λ_=>hk
  ·by_cases hb:b=a
   ·exact .inr ⟨_,_,if_pos hb⟩
   ·exact .inl (if_neg hb)
  ·by_cases hb:b=a
   ·have z':=(if_pos hb).symm.trans z;cases z';subst hb;exact⟨ha,by rw[zX];exact hl,vs,_,rv,ha⟩
   ·have z':=(if_neg hb).symm.trans z;cases z'
  ·by_cases hb:b=a
   ·exact hb
   ·exact absurd (if_neg hb) z
theorem ZDH{l:PySem.W.OpenLaw}{n:Nat}{q:j6}{loose:List Str}{XP:(Str->Option jA)->Heap->Prop}{YP:jB->Heap->Prop}{d:DefRec}{K:jB->PySem.W.Frag}{CX:jB->CXT}{sp:jB->Sp} 
  (hn:l.most=xk n) (hn2:n<=sizeLine) (hdf:d.params.defaults=[]) (hr:Room k callerA)
  (hY:∀(w:jB)(h:Heap),YP w h->(K w).In h)
  (F:∀(w:jB)(mg:Str->Option jA)(fa:j1)(h:Heap),(K w).In h->h.Ns jL mg->mg d.name=xk (.ref fa)->
   ∃fd:j4,(∀(s:j8)(u:jA),BindsTo s fd ⟨[u],[]⟩ [(x,u)])/\
    ∀base:Heap,(K w).In base->base.Ns jL mg->FnOk l.prog w (K w) mg base (CX w) k fa fd [x] (sp w))
  (hsp:∀(w:jB)(H:Hp)(a:j1)(ns:List Int),ns.length<=n->Only H->SqL (K w) H a (ns.map V.int)->sp w [.ref a] H (λv _=>v=.bl x0) λ_ _ _=>False)
  (hCX:∀(w:jB)(H:Hp)(s:j8)(e:jA)(s':j8),CX w [] H s (λ_ _ _=>False) e s'->False):
  PySem.W.WalkO q loose XP YP l.row.toRowW d [] (λf vs=>PySem.call f vs):=by
 refine Att.ZBJ hn hdf λw s₀ s₁ mg mb fa o pm cd doc a vs ns G Y ho hd hcd hmg hobj hints hlen hg=>?_
 have KX:=hY w _ Y;obtain⟨fd,hb,hF⟩:=F w mg fa _ KX G.T.g hmg;exact ZHR KX G.T.g G.T.b G.T.builtins G.T.nolimit hg hobj hints (zk hlen hn2) hr hF hb (λH hO hS=>hsp w H a ns hlen hO hS) λH e s'=>hCX w H s₁ e s'
noncomputable abbrev CX0:CXT:=λ_ _ _ _ _ _=>False
noncomputable abbrev E0:XK:=λ_ _ _=>False
theorem pass0{X:Cx}:Passes CX0 X E0:=λ_ _ _ _ _ _ _ h=>h.elim
structure Fun (K:PySem.W.Frag) (x qual:Str) (st:j9) (f:j1) (fd:j4):Prop where
 ex:∃(oc:jA)(od:Option j1)(kV doc pm:jA)(an:Option j1)(cdv ct:jA)(osl:Array (Option jA)),
  fd=PySem.W.fnOf x qual (Eg st) (Df st) (Am st) .none kV doc pm an cdv ct/\K.lookup f=xk ⟨oc,od,.func fd,osl⟩/\PySem.W.codeIn K cdv qual=x0
 kp:PySem.W.keepIn K (.ref f)=x0
section
variable{P:j6}{w:jB}{K:PySem.W.Frag}{mg:Str->Option jA}{base:Heap}
theorem Fun.ok{qual:Str}{st:j9}{f:j1}{N ps:List Str}{sp:Sp}(F:Fun K x qual st f fd)(S:FnScope N ps (Am st))(len:∀vs H Q E,sp vs H Q E->vs.length=ps.length)
  (hbody:∀(cdv:jA)(A:j2)(outer:List Env)(s:j8)(H:Hp)(vs:List V)(Q:VK)(E:XK),Room k (A.deeper (envOfC qual (Am st) s.heap.objs.size f cdv))->sp vs H Q E->
   ∃t,PSs (Gy CX0 P w K mg base N qual (Am st) f cdv A outer s H E).nox (Df st) t/\t {nx:=λ_ H'=>Q .non H',rt:=Q} (start N vs) H):FnOk P w K mg base CX0 (k+1) f fd ps sp:=by
 obtain⟨oc,od,kV,doc,pm,an,cdv,ct,osl,rfl,lk,hcd⟩:=F.ex;refine ZAd lk hcd S len λA outer s H vs Q E hr hsp=>?_
 obtain⟨t,h,q⟩:=hbody cdv A outer s H vs Q E hr hsp;exact⟨t,h.nox,q⟩
theorem Fun.binds{qual:Str}{st:j9}{f:j1}{ps:List Str}(F:Fun K x qual st f fd)
  (h:∀(kV doc pm:jA)(an:Option j1)(cdv ct:jA)(us:List jA),us.length=ps.length->bindArgs (PySem.W.fnOf x qual (Eg st) (Df st) (Am st) .none kV doc pm an cdv ct) ⟨us,[]⟩=pure (ps.zip us)):Binds K fd ps []:=by
 obtain⟨oc,od,kV,doc,pm,an,cdv,ct,osl,rfl,lk,hcd⟩:=F.ex;exact .all (h kV doc pm an cdv ct)
end
section
variable{X:Cx}
end
section
variable{κ:Type}[DecidableEq κ]
noncomputable def Cv(kvs:List (κ×V))(k:κ):Option V:=(kvs.find? λkv=>decide (kv.1=k)).map (·.2)
noncomputable def putK(kvs:List (κ×V))(k:κ)(v:V):List (κ×V):=
 if(kvs.any λkv=>decide (kv.1=k))=x0 then kvs.map (λkv=>if kv.1=k then(kv.1,v)else kv)else kvs++[(k,v)]
theorem Om{p:κ×V}{r:List (κ×V)}{k:κ}(e:p.1=k):Cv (p::r) k=xk p.2:=by simp[Cv,qV,e]
theorem Qz{p:κ×V}{r:List (κ×V)}{k:κ}(e:¬p.1=k):Cv (p::r) k=Cv r k:=by simp[Cv,qV,e]
theorem Xr(k:κ):∀kvs:List (κ×V),(kvs.any λkv=>decide (kv.1=k))=(Cv kvs k).isSome
 |[]=>rfl
 |p::r=>by
  rw[qP];by_cases e:p.1=k
  ·simp only[Om e,decide_eq_true e,Bool.true_or,Option.isSome_some]
  ·rw[Qz e,decide_eq_false e,Bool.false_or];exact Xr k r
theorem Yi(kvs:List (κ×V))(k:κ)(v:V):(putK kvs k v).length<=kvs.length+1:=by
 unfold putK;split
 ·rw[zX];lia
 ·rw[qy,qU,List.length_nil];lia
theorem RelO.ZDl{o:Option V}{u:Option jA}(r:RelO o u):o.isSome=u.isSome:=by
 cases o with
 |none=>cases u with
  |none=>rfl
  |some _=>exact(show False from r).elim
 |some _=>cases u with
  |none=>exact(show False from r).elim
  |some _=>rfl
theorem RelO.getD{o:Option V}{u:Option jA}{d:V}{d':jA}(r:RelO o u)(rd:RelV d d'):RelV (o.getD d) (u.getD d'):=by
 cases o with
 |none=>cases u with
  |none=>exact rd
  |some _=>exact(show False from r).elim
 |some _=>cases u with
  |none=>exact(show False from r).elim
  |some _=>exact r
theorem KV.val{kvs:List (κ×V)}{vs:List (κ×jA)}(r:KV kvs vs)(k:κ):RelO (Cv kvs k) (valueAt vs k):=by
 unfold KV at r
 induction r with
 |nil=>exact True.intro
 | @cons p q ps qs h t ih=>
  obtain⟨h1,h2⟩:=h;by_cases e:p.1=k
  ·have e':q.1=k:=h1.symm.trans e;have b:valueAt (q::qs) k=xk q.2:=by simp[valueAt,qV,e']
   rw[Om e,b];exact h2
  ·have e':¬q.1=k:=λz=>e (h1.trans z)
   have b:valueAt (q::qs) k=valueAt qs k:=by simp[valueAt,qV,e']
   rw[Qz e,b];exact ih
theorem KV.any{kvs:List (κ×V)}{vs:List (κ×jA)}(r:KV kvs vs)(k:κ):(kvs.any λkv=>decide (kv.1=k))=vs.any λkv=>decide (kv.1=k):=by
 unfold KV at r
 induction r with
 |nil=>rfl
 |cons h t ih=>rw[qP,qP,ih,h.1]
theorem KV.repl{kvs:List (κ×V)}{vs:List (κ×jA)}(r:KV kvs vs)(k:κ)(ry:RelV y u):
  KV (kvs.map λkv=>if kv.1=k then(kv.1,y)else kv) (vs.map λkv=>if kv.1=k then(kv.1,u)else kv):=by
 unfold KV at r⊢
 induction r with
 |nil=>exact .nil
 |@cons p q ps qs h t ih=>
  rw[zK,zK];refine .cons ?_ ih;obtain⟨h1,h2⟩:=h;by_cases e:p.1=k
  ·rw[if_pos e,if_pos (h1.symm.trans e)];exact⟨h1,ry⟩
  ·rw[if_neg e,if_neg (λz=>e (h1.trans z))];exact⟨h1,h2⟩
theorem KV.put{kvs:List (κ×V)}{vs:List (κ×jA)}(r:KV kvs vs)(k:κ)(ry:RelV y u):KV (putK kvs k y) (stored vs k u):=by
 unfold putK stored;rw[r.any k];by_cases e:(vs.any λkv=>decide (kv.1=k))=x0
 ·rw[if_pos e,if_pos e];exact r.repl k ry
 ·rw[if_neg e,if_neg e];exact Paired.snoc r ⟨rfl,ry⟩
theorem KV.length{kvs:List (κ×V)}{vs:List (κ×jA)}(r:KV kvs vs):kvs.length=vs.length:=Paired.length r
end
theorem O9{k:Key}(r:RelV (kV k) u):(De P w).is k u=x0:=by
 cases k with
 |inl i=>obtain⟨t,e⟩:=(show∃t,u=Value.int i t from r);subst e;exact ZFr P w i t
 |inr x=>obtain⟨t,e⟩:=(show∃t,u=Value.str x t from r);subst e;exact ZEi P w x t
theorem X8:∀{ks:List Key}{us:List jA},Vals (ks.map kV) us->ItemsAre (De P w) ks us
 |[],_,r=>by rw[zU]at r;cases r;exact .nil
 |k::ks,_,r=>by
  rw[zK]at r;cases r with
  |cons h t=>exact .cons (O9 h) (X8 t)
abbrev KT(H:Hp):List (List Key×V)->List (List Key×j1×jA)->Prop:=Paired λp q=>p.1=q.1/\H q.2.1=xk (.tup (p.1.map kV))/\RelV p.2 q.2.2
theorem KT.val{xs:List (List Key×j1×jA)}(r:KT H kvs xs)(k:List Key):RelO (Cv kvs k) ((atKey xs k).map (·.2)):=by
 induction r with
 |nil=>exact True.intro
 | @cons p q ps qs h t ih=>
  obtain⟨h1,_,h2⟩:=h;by_cases e:p.1=k
  ·have e':q.1=k:=h1.symm.trans e;have b:atKey (q::qs) k=xk q.2:=by simp[atKey,qV,e']
   rw[Om e,b];exact h2
  ·have e':¬q.1=k:=λz=>e (h1.trans z)
   have b:atKey (q::qs) k=atKey qs k:=by simp[atKey,qV,e']
   rw[Qz e,b];exact ih
theorem KT.repl{xs:List (List Key×j1×jA)}(r:KT H kvs xs)(k:List Key)(ry:RelV y u):
  KT H (kvs.map λkv=>if kv.1=k then(kv.1,y)else kv) (xs.map (putAt k u)):=by
 induction r with
 |nil=>exact .nil
 |@cons p q ps qs h t ih=>
  rw[zK,zK];refine .cons ?_ ih;obtain⟨h1,h2,h3⟩:=h;unfold putAt;by_cases e:p.1=k
  ·rw[if_pos e,if_pos (h1.symm.trans e)];exact⟨h1,h2,ry⟩
  ·rw[if_neg e,if_neg (λz=>e (h1.trans z))];exact⟨h1,h2,h3⟩
theorem KT.put{xs:List (List Key×j1×jA)}(r:KT H kvs xs)(k:List Key)(hb:H b=xk (.tup (k.map kV)))(ry:RelV y u):
  KT H (putK kvs k y) (storedH xs k b u):=by
 have e:(kvs.any λkv=>decide (kv.1=k))=(atKey xs k).isSome:=by rw[Xr,(r.val k).ZDl,Option.isSome_map]
 unfold putK storedH;rw[e];by_cases q:(atKey xs k).isSome=x0
 ·rw[if_pos q,if_pos q];exact r.repl k ry
 ·rw[if_neg q,if_neg q];exact Paired.snoc r ⟨rfl,hb,ry⟩
theorem KT.keeps{xs:List (List Key×j1×jA)}(r:KT H kvs xs)(ht:∀b ys,H b=xk (.tup ys)->H' b=xk (.tup ys)):KT H' kvs xs:=
 Paired.Nk r λ_ _ z=>⟨z.1,ht _ _ z.2.1,z.2.2⟩
section
variable{P:j6}{w:jB}{H:Hp}{h:Heap}{a:j1}
theorem Wg{u:HO}(ok:HOk P w H h)(e:Rd H a u):ObjOk P w H h a u:=e.ok ok
theorem R5{kvs:List (Key×V)}(ok:HOk P w H h)(e:Rd H a (.dK kvs)):kvs.length<=sizeLine/\(a==sysModules)=xA/\∃vs,KV kvs vs/\h.DictOf (De P w) a vs:=
 show ObjOk P w H h a (.dK kvs)from Wg ok e
theorem ZF8{kvs:List (Key×V)}(ok:HOk P w H h)(e:H a=xk (.dK kvs)):kvs.length<=sizeLine/\(a==sysModules)=xA/\∃vs,KV kvs vs/\h.DictOf (De P w) a vs:=R5 ok (.inl e)
theorem Sv{ks:List Key}(ok:HOk P w H h)(e:H a=xk (.tup (ks.map kV))):(tupleKind (De P w)).is h ks a:=by
 obtain⟨_,its,r,o,h1,h2,n,h3⟩:=(show ObjOk P w H h a (.tup (ks.map kV))from ok a _ e)
 exact⟨o,its.toArray,n,h1,h2,h3,by simpa using X8 r⟩
theorem Mt(ok:HOk P w H h)(e:Rd H a (.dT kvs)):kvs.length<=sizeLine/\(a==sysModules)=xA/\
  ∃xs,KT H kvs xs/\h.DictOfH (tupleKind (De P w)) a xs:=by
 obtain⟨z,y,xs,r,o,es,ep,h1,h2,h3,h4,h5⟩:=(show ObjOk P w H h a (.dT kvs)from Wg ok e)
 refine⟨z,y,xs,r,o,es,ep,h1,h2,h3,h4,λx hx=>?_,h5⟩;have all:∀{l:List (List Key×V)}{m:List (List Key×j1×jA)},KT H l m->∀x∈m,(tupleKind (De P w)).is h x.1 x.2.1:=by
  intro l m q
  induction q with
  |nil=>intro x hx;exact nomatch hx
  |@cons p q ps qs hq t ih=>
   intro x hx;rcases zA.mp hx with e|hx
   ·subst e;exact Sv ok (by rw[<-hq.1];exact hq.2.1)
   ·exact ih x hx
 exact all r x hx
theorem ZCD(ok:HOk P w H h)(e:H a=xk (.dT kvs)):kvs.length<=sizeLine/\(a==sysModules)=xA/\
  ∃xs,KT H kvs xs/\h.DictOfH (tupleKind (De P w)) a xs:=Mt ok (.inl e)
end
def DGet(H:Hp)(a:j1)(y:V)(r:Option V):Prop:=
 (∃kvs k,Rd H a (.dK kvs)/\y=kV k/\r=Cv kvs k)∨∃kvs k b,Rd H a (.dT kvs)/\y=.ref b/\H b=xk (.tup (k.map kV))/\r=Cv kvs k
def DPut(H:Hp)(a:j1)(y v:V)(H':Hp):Prop:=
 (∃kvs k,H a=xk (.dK kvs)/\y=kV k/\kvs.length<sizeLine/\H'=upd H a (.dK (putK kvs k v)))∨
 ∃kvs k b,H a=xk (.dT kvs)/\y=.ref b/\H b=xk (.tup (k.map kV))/\kvs.length<sizeLine/\H'=upd H a (.dT (putK kvs k v))
theorem DGet.t{k:List Key}(e:H a=xk (.dT kvs))(eb:H b=xk (.tup (k.map kV))):DGet H a (.ref b) (Cv kvs k):=.inr ⟨kvs,k,b,.inl e,rfl,eb,rfl⟩
theorem DPut.t{k:List Key}{v:V}(e:H a=xk (.dT kvs))(eb:H b=xk (.tup (k.map kV)))(hl:kvs.length<sizeLine):
  DPut H a (.ref b) v (upd H a (.dT (putK kvs k v))):=.inr ⟨kvs,k,b,e,rfl,eb,hl,rfl⟩
section
variable{X:Cx}{xw:List (j1×Obj)}{σ:St}{H:Hp}{s:j8}{a:j1}{y v:V}{u r:jA}{o:Option V}{A:j2}{E:jA->j8->Prop}
theorem Inv.big(I:Inv X xw σ H s):sysModules<s.heap.objs.size:=by have h:jL<s.heap.objs.size:=(I.mod.glob.keeps I.bk).lt;exact Nat.lt_trans (by decide) h
theorem Xa{h':Heap}{t':Nat}{ob:HO}(I:Inv X xw σ H s)(mu:Mut (H a))(hs:qk a s.heap h')(he:∃q,h'.get? a=xk q)(new:ObjOk X.prog X.w (upd H a ob) h' a ob):
  Inv X xw σ (upd H a ob) {s with heap:=h',toks:=t'}:=
 I.write (x:=a) (e:=a) mu (.inl rfl) (λb q hb z=>(hs.2 b hb).trans z) he new
theorem ZGe{h':Heap}{kvs:List (Key×V)}{vs:List (Key×jA)}(z:kvs.length<=sizeLine)(hd:(a==sysModules)=xA)(rel:KV kvs vs)(dd:h'.DictOf (De P w) a vs):
  ObjOk P w H' h' a (.dK kvs):=⟨z,hd,vs,rel,dd⟩
theorem ZGu{Q:Unit->j8->Prop}(hu:A.units+1<cLine)(I:Inv X xw σ H s)(g:DPut H a y v H')(ry:RelV y u)(rv:RelV v r)(h:∀s',Inv X xw σ H' s'->Q () s'):
  jS (jM X.prog X.w) A (setItem (.ref a) u r) Q E s:=by
 rcases g with⟨kvs,k,e,ey,l,eH⟩|⟨kvs,k,b,e,ey,eb,l,eH⟩
 ·subst ey eH;obtain⟨z,hd,vs,rel,dd⟩:=ZF8 I.hok e;have hz:vs.length<=sizeLine:=by rw[<-rel.length];exact z
  have hl:(putK kvs k v).length<=sizeLine:=by have:=Yi kvs k v;lia
  refine wpAny_setItem_pairs (hsz:=hz) (O9 ry) dd λh' dd' hs=>h _ ?_
  have he:∃q,h'.get? a=xk q:=let⟨q,_,_,hq,_⟩:=dd';⟨q,hq⟩;exact Xa I (by rw[e];exact True.intro) hs he (ZGe hl hd (rel.put k rv) dd')
 ·subst ey eH
  cases(show u=Value.ref b from ry)
  obtain⟨z,hd,xs,rel,dd⟩:=ZCD I.hok e;have hz:xs.length<=sizeLine:=by rw[<-Paired.length rel];exact z
  have hl:(putK kvs k v).length<=sizeLine:=by have:=Yi kvs k v;lia
  refine wpAny_setItem_heap (hsz:=hz) (tupleKind_room_in1 hu) (Sv I.hok eb) dd λh' dd' hs=>h _ ?_
  obtain⟨q,es,ep,hq,h2,h3,h4,_,h5⟩:=dd';refine Xa I (by rw[e];exact True.intro) hs ⟨q,hq⟩ ⟨hl,hd,_,(rel.put k eb rv).keeps λc ys ec=>?_,q,es,ep,hq,h2,h3,h4,h5⟩
  rw[Ag (ZFn ec e (λz=>nomatch z))]
  exact ec
end
section
variable{X:Cx}{xw:List (j1×Obj)}{σ:St}{H:Hp}{s:j8}{a:j1}{kvs:List (Key×V)}{k:Key}{u:jA}{A:j2}{E:jA->j8->Prop}
end
section
variable{X:Cx}{o i e value:j3}{pos pos' tpos:Pos}{td ty tv:TE}
end
theorem ZB9(h:Heap)(hb:sysModules<h.objs.size):ObjOk P w H (h.push {cls:=.type "dict",data:=.dict #[]}) h.objs.size (.dT []):=
 ⟨Nat.zero_le _,beq_eq_false_iff_ne.mpr (Ne.symm (zB hb)),[],.nil,_,#[],0,zy _ rfl,⟨rfl,rfl,rfl⟩,rfl,rfl,List.nodup_nil⟩
def ZFX:TE:=λ_ H Q=>∀p,H p=xy->Q (.ref p) (upd H p (.dT []))
section
variable{X:Cx}{pos:Pos}
theorem ZGx:PE X (.Dict [] [] pos) ZFX:=λxw s σ H Q I h=>
 wpAny_Dict_empty ⟨.ref s.heap.objs.size,_,I.laid (a:=s.heap.objs.size) (o:=.dT []) (t':=s.toks) (λ_ _ q=>zZ _ q) (zq _) (ZB9 s.heap I.big),rfl,h _ (I.hok.fresh (zq _))⟩
end
structure M1 (X:Cx) (o:j3) (m:Str) (apos:Pos) (e:j3) (cpos:Pos):Prop where
 base:attributeBase o m X.env (eval o X.env)=eval o X.env
 few:((jD cpos (jP [e] X.env)).all (λx=> !x.1)&&(backToKw cpos (keywordEach [] X.env)).all (λx=>x.1.isSome)
  && decide (([e]:List j3).length+([]:List Keyword).length+(if([]:List Keyword).isEmpty then 0 else 1)<30))=x0
 line:(apos.endLine==cpos.line)=x0
 trees:jD cpos (jP [e] X.env)=[(xA,eval e X.env)]
structure M2 (X:Cx) (o:j3) (m:Str) (apos:Pos) (e f:j3) (cpos:Pos):Prop where
 base:attributeBase o m X.env (eval o X.env)=eval o X.env
 few:((jD cpos (jP [e,f] X.env)).all (λx=> !x.1)&&(backToKw cpos (keywordEach [] X.env)).all (λx=>x.1.isSome)
  && decide (([e,f]:List j3).length+([]:List Keyword).length+(if([]:List Keyword).isEmpty then 0 else 1)<30))=x0
 line:(apos.endLine==cpos.line)=x0
 trees:jD cpos (jP [e,f] X.env)=[(xA,eval e X.env),(xA,eval f X.env)]
def IsD(H:Hp)(a:j1):Prop:=(∃kvs,Rd H a (.dK kvs))∨∃kvs,Rd H a (.dT kvs)
theorem ZDb{X:Cx}{xw:List (j1×Obj)}{σ:St}{s:j8}(I:Inv X xw σ H s)(d:IsD H a):
  s.TypeIs (.ref a) "dict"/\(∀b,Value.ref a=.ref b->∃ob,s.heap.get? b=xk ob/\ob.dict=xy)/\(a==sysModules)=xA:=by
 rcases d with⟨kvs,e⟩|⟨kvs,e⟩
 ·obtain⟨_,hd,vs,_,dd⟩:=R5 I.hok e;refine⟨dd.typeIs,λb q=>?_,hd⟩;cases q;obtain⟨ob,_,_,h1,h2,_⟩:=dd;exact⟨ob,h1,h2.2.1⟩
 ·obtain⟨_,hd,xs,_,dd⟩:=Mt I.hok e;refine⟨dd.typeIs,λb q=>?_,hd⟩;cases q;obtain⟨ob,_,_,h1,h2,_⟩:=dd;exact⟨ob,h1,h2.2.1⟩
section
variable{X:Cx}{xw:List (j1×Obj)}{σ:St}{H:Hp}{s:j8}{a:j1}{y d:V}{u r:jA}{o:Option V}{A:j2}{E:jA->j8->Prop}
theorem ZCE{Q:jA->j8->Prop}(hu:A.units+1<cLine)(I:Inv X xw σ H s)(g:DGet H a y o)(ry:RelV y u)(rd:RelV d r)(h:∀w' s',Inv X xw σ H s'->RelV (o.getD d) w'->Q w' s'):
  jS (jM X.prog X.w) A (call (.builtin "dict.get") [.ref a,u,r]) Q E s:=by
 rcases g with⟨kvs,k,e,ey,l⟩|⟨kvs,k,b,e,ey,eb,l⟩
 ·subst ey;obtain⟨z,hd,vs,rel,dd⟩:=R5 I.hok e;refine call_meetsIn PySem.F.slot_dict_get dd.typeIs PySem.F.entry_dict_get (PySem.F.args_dict_get_3 _ _ _) (meets_dict_get_default (De X.prog X.w) a (O9 ry) hd r) ⟨_,dd.mapOf,h _ _ (I.tok _) ?_⟩;rw[l];exact(rel.val k).getD rd
 ·subst ey
  cases(show u=Value.ref b from ry)
  obtain⟨z,hd,xs,rel,dd⟩:=Mt I.hok e;refine call_meetsIn PySem.F.slot_dict_get dd.typeIs PySem.F.entry_dict_get (PySem.F.args_dict_get_3 _ _ _) (meetsH_dict_get_default (tupleKind (De X.prog X.w)) a b hd r) ⟨tupleKind_room_in1 hu,k,xs,Sv I.hok eb,dd,h _ _ (I.tok _) ?_⟩;rw[l];exact(rel.val k).getD rd
end
noncomputable def ZFe(td ty tx:TE):TE:=λσ H Q=>td σ H λx H1=>∃a,x=.ref a/\IsD H1 a/\ty σ H1 λy H2=>tx σ H2 λz H3=>∃o,DGet H3 a y o/\Q (o.getD z) H3
section
variable{X:Cx}{o e f:j3}{apos cpos:Pos}{td ty tx:TE}
theorem ZBg(hu:X.A.units+1<cLine)(ho:PE X o td)(he:PE X e ty)(hf:PE X f tx)(m:M2 X o "get" apos e f cpos):PE X (.Call (.Attribute o "get" apos) [e,f] [] cpos) (ZFe td ty tx):=by
 intro xw s σ H Q I h;refine wpAny_Call_method m.base m.few m.line PySem.F.plainAttrs_dict PySem.F.slot_dict_get PySem.F.type_dict_get (thn (ho xw s σ H _ I h) λu s1 ⟨x,H1,I1,rx,a,ex,d,q1⟩=>?_);subst ex;obtain rfl:u=Value.ref a:=rx;obtain⟨t1,t2,_⟩:=ZDb I1 d;refine⟨t1,t2,?_⟩;rw[m.trees];refine Calls.callWith_builtin rfl (Calls.evalArgs_plain (Calls.spliced_cons (thn (he xw s1 σ H1 _ I1 q1) λiv s2 ⟨y,H2,I2,ry,q2⟩=>
  Calls.spliced_cons (thn (hf xw s2 σ H2 _ I2 q2) λfv s3 ⟨z,H3,I3,rz,ov,g,q3⟩=>Calls.spliced_nil ?_))))
 exact ZCE hu I3 g ry rz λw' s4 I4 rw'=>⟨_,H3,I4,rw',q3⟩
end
section
variable{X:Cx}{xw:List (j1×Obj)}{σ:St}{H:Hp}{s:j8}{a:j1}{kvs:List (Key×V)}{A:j2}{E:jA->j8->Prop}
end
section
variable{X:Cx}{xw:List (j1×Obj)}{σ:St}{H:Hp}{s:j8}{a:j1}{y:V}{u:jA}{A:j2}{E:jA->j8->Prop}
end
section
variable{X:Cx}
end
end _L
namespace _L
section
variable{κ:Type}[DecidableEq κ]
end
end _L
namespace _D
open PySem PySem.Spec _L
open PyProof.Rows hiding St
variable{α κ:Type}{K:PySem.W.Frag}{H:Hp}{p:j1}{v y:V}{vs:List V}{σ:St}{E:XK}{Q:VK}{W:Ends}{e tg:j3}{ho:HO}{i n j k nt:Nat}{x:Str}{A:j2}{s:j8}{pos:Pos}{P:j6}{w:jB}{scope:j7}{env:Env}{X:Cx}{lo hi:Option Int}
inductive D where
 |non|bl (b:Bool)|int (i:Int)|str (x:Str)|ty (n:String)
 |tup (xs:List D)
 |fl (xs:List D)
 |ref (i:Nat)
variable{d:D}{ds xs:List D}
inductive DO where
 |lst (xs:List D)
 |dct (kvs:List (Key×D))
 |dcT (kvs:List (List Key×D))
 |ins (c:Str) (fs:List (Str×D))
 |tab (c m:Str)
 |exc (c:Str) (fs:List (Str×D))
 |gone
variable{o:DO}
noncomputable abbrev DH:=List DO
variable{G G' L:DH}
noncomputable abbrev DSt:=List (Option D)
variable{S:DSt}
structure Xn where
 cls:Str
 fs:List (Str×D)
inductive R (α:Type) where
 |ok (a:α) (G:DH)
 |err (x:Xn) (G:DH)
 |bad
variable{r:R D}{f:D->D->DH->R D}
noncomputable def R.bind{α β:Type}(r:R α)(f:α->DH->R β):R β:=match r with
 |.ok a G=>f a G
 |.err x G=>.err x G
 |.bad=>.bad
@[simp]theorem R.Ga{β:Type}(a:α)(G:DH)(f:α->DH->R β):(R.ok a G).bind f=f a G:=id rfl
inductive SR where
 |nx (S:DSt) (G:DH)
 |rt (d:D) (G:DH)
 |bk (S:DSt) (G:DH)
 |ct (S:DSt) (G:DH)
 |err (x:Xn) (G:DH)
 |bad
noncomputable abbrev DE:=DSt->DH->R D
variable{te:DE}
noncomputable abbrev DB:=DSt->DH->R Bool
noncomputable abbrev DA:=DSt->DH->R (List D)
noncomputable abbrev DS:=DSt->DH->SR
variable{u:DS}
def FzL(K:PySem.W.Frag)(H:Hp)(a:j1)(xs:List V):Prop:=
 (∃o,H a=xk (.frz o (.lst xs)))∨
  ∃(o:Obj)(its:Array jA)(n:Nat),K.lookup a=xk o/\o.cls=.type "list"/\o.dict=xy/\o.data=.seq its n/\its.size<=sizeLine/\Vals xs its.toList
theorem FzL.sq{a:j1}{xs:List V}(h:FzL K H a xs):SqL K H a xs:=by
 rcases h with⟨o,h⟩|h
 ·exact .inl (.inr ⟨o,h⟩)
 ·exact .inr h
structure Wd where
 K:PySem.W.Frag
 n:Nat
 m:Nat->j1
 H:Hp
variable{a b c:Wd}
mutual
def Rep(a:Wd):D->V->Prop
 |.non,v=>v=.non
 |.bl b,v=>v=.bl b
 |.int i,v=>v=.int i
 |.str x,v=>v=.str x
 |.ty n,v=>v=.ty n
 |.tup ds,v=>∃p vs,v=.ref p/\SqT a.K a.H p vs/\Reps a ds vs
 |.fl ds,v=>∃p vs,v=.ref p/\FzL a.K a.H p vs/\Reps a ds vs
 |.ref i,v=>i<a.n/\v=.ref (a.m i)
def Reps(a:Wd):List D->List V->Prop
 |[],vs=>vs=[]
 |d::ds,vs=>∃v r,vs=v::r/\Rep a d v/\Reps a ds r
end
noncomputable def lamQ:Str:="Sending.send_by.<locals>.<lambda>"
def TabOk(H:Hp)(P:j1):Prop:=
 ∃ps:Array jA,H P=xk (.tbl ps)/\TriplesOk ps.toList/\∀pos cv,codeAmong pos ps.toList=xk cv->∃(c:j1)(oc:Obj)(vs:Array jA)(t:Tok),cv=.ref c/\H c=xk (.frz oc (.own 0))/\oc.data=.fields vs/\vs[1]?=xk (.str lamQ t)
theorem TabOk.mono{H':Hp}{P:j1}(h:TabOk H P)(ht:∀p ps,H p=xk (.tbl ps)->H' p=xk (.tbl ps))(hf:∀p o u,H p=xk (.frz o u)->H' p=xk (.frz o u)):TabOk H' P:=by obtain⟨ps,e,t,k⟩:=h;refine⟨ps,ht _ _ e,t,λpos cv hc=>?_⟩;obtain⟨c,oc,vs,tk,e1,e2,e3,e4⟩:=k pos cv hc;exact⟨c,oc,vs,tk,e1,hf _ _ _ e2,e3,e4⟩
def TabAt(K:PySem.W.Frag)(C m:Str)(c P:j1):Prop:=
 ∃(Ca f:j1)(oc:jA)(od:Option j1)(fd:j4)(sl:Array (Option jA)),PySem.W.nsIn K jL C=xk (xk (.ref Ca))/\PySem.W.findIn K (.ref Ca) m=xk (xk (.ref f))/\K.lookup f=xk ⟨oc,od,.func fd,sl⟩/\fd.code=.ref c/\PySem.W.codeHdIn K c P=x0
structure Ext (a b:Wd):Prop where
 k:b.K=a.K
 n:a.n<=b.n
 m:∀i,i<a.n->b.m i=a.m i
 tup:∀p xs,a.H p=xk (.tup xs)->b.H p=xk (.tup xs)
 frz:∀p o u,a.H p=xk (.frz o u)->b.H p=xk (.frz o u)
 tab:∀p,TabOk a.H p->TabOk b.H p
theorem Ext.refl(a:Wd):Ext a a:=⟨rfl,zq _,λ_ _=>rfl,λ_ _ h=>h,λ_ _ _ h=>h,λ_ h=>h⟩
theorem Ext.trans(x:Ext a b)(y:Ext b c):Ext a c:=
 ⟨y.k.trans x.k,zk x.n y.n,λi h=>(y.m i (zW h x.n)).trans (x.m i h),λp xs h=>y.tup p xs (x.tup p xs h),λp o u h=>y.frz p o u (x.frz p o u h),λp h=>y.tab p (x.tab p h)⟩
theorem Ext.sqT(x:Ext a b){xs:List V}(h:SqT a.K a.H p xs):SqT b.K b.H p xs:=by
 rcases h with(h|⟨o,h⟩)|h
 ·exact .inl (.inl (x.tup _ _ h))
 ·exact .inl (.inr ⟨o,x.frz _ _ _ h⟩)
 ·exact .inr (by rw[x.k];exact h)
theorem Ext.fzL(x:Ext a b){xs:List V}(h:FzL a.K a.H p xs):FzL b.K b.H p xs:=by
 rcases h with⟨o,h⟩|h
 ·exact .inl ⟨o,x.frz _ _ _ h⟩
 ·exact .inr (by rw[x.k];exact h)
mutual
theorem Rep.mono(x:Ext a b):∀{d:D}{v:V},Rep a d v->Rep b d v
 |.non,_,h=>h
 |.bl _,_,h=>h
 |.int _,_,h=>h
 |.str _,_,h=>h
 |.ty _,_,h=>h
 |.tup ds,v,h=>by obtain⟨p,vs,e,q,r⟩:=h;exact⟨p,vs,e,x.sqT q,Reps.mono x r⟩
 |.fl ds,v,h=>by obtain⟨p,vs,e,q,r⟩:=h;exact⟨p,vs,e,x.fzL q,Reps.mono x r⟩
 |.ref i,v,h=>by obtain⟨l,e⟩:=h;exact⟨zW l x.n,by rw[x.m i l];exact e⟩
theorem Reps.mono(x:Ext a b):∀{ds:List D}{vs:List V},Reps a ds vs->Reps b ds vs
 |[],_,h=>h
 |d::ds,vs,h=>by obtain⟨v,r,e,h1,h2⟩:=h;exact⟨v,r,e,Rep.mono x h1,Reps.mono x h2⟩
end
theorem Reps.length:∀{ds:List D}{vs:List V},Reps a ds vs->ds.length=vs.length
 |[],vs,h=>by cases(show vs=[]from h);rfl
 |d::ds,vs,h=>by obtain⟨v,r,e,h1,h2⟩:=h;subst e;show ds.length+1=r.length+1;rw[Reps.length h2]
theorem Reps.get:∀{ds:List D}{vs:List V}{i:Nat}{d:D},Reps a ds vs->ds[i]?=xk d->∃v,vs[i]?=xk v/\Rep a d v
 |[],vs,_,_,h,e=>by simp at e
 |d::ds,vs,0,d',h,e=>by obtain⟨v,r,e1,h1,h2⟩:=h;subst e1;simp at e;subst e;exact⟨v,rfl,h1⟩
 |d::ds,vs,i+1,d',h,e=>by obtain⟨v,r,e1,h1,h2⟩:=h;subst e1;obtain⟨w,e2,h3⟩:=Reps.get (i:=i) (d:=d') h2 (by simpa using e);exact⟨w,by simpa using e2,h3⟩
theorem Reps.get':∀{ds:List D}{vs:List V}{i:Nat}{v:V},Reps a ds vs->vs[i]?=xk v->∃d,ds[i]?=xk d/\Rep a d v
 |[],vs,_,_,h,e=>by cases(show vs=[]from h);simp at e
 |d::ds,vs,0,v',h,e=>by obtain⟨v,r,e1,h1,h2⟩:=h;subst e1;simp at e;subst e;exact⟨d,rfl,h1⟩
 |d::ds,vs,i+1,v',h,e=>by obtain⟨v,r,e1,h1,h2⟩:=h;subst e1;obtain⟨w,e2,h3⟩:=Reps.get' (i:=i) (v:=v') h2 (by simpa using e);exact⟨w,by simpa using e2,h3⟩
theorem Reps.append:∀{ds es:List D}{vs us:List V},Reps a ds vs->Reps a es us->Reps a (ds++es) (vs++us)
 |[],_,vs,_,h,h'=>by cases(show vs=[]from h);exact h'
 |d::ds,es,vs,us,h,h'=>by obtain⟨v,r,e1,h1,h2⟩:=h;subst e1;exact⟨v,r++us,rfl,h1,Reps.append h2 h'⟩
theorem Reps.cons(h:Rep a d v)(r:Reps a ds vs):Reps a (d::ds) (v::vs):=⟨v,vs,rfl,h,r⟩
theorem Reps.nil:Reps a [] []:=rfl
theorem Reps.set(h:Rep a d v):∀{ds:List D}{vs:List V}(i:Nat),Reps a ds vs->Reps a (ds.set i d) (vs.set i v)
 |[],vs,_,r=>by cases(show vs=[]from r);exact rfl
 |d'::ds,vs,0,r=>by obtain⟨v',r',e1,h1,h2⟩:=r;subst e1;exact⟨v,r',rfl,h,h2⟩
 |d'::ds,vs,i+1,r=>by obtain⟨v',r',e1,h1,h2⟩:=r;subst e1;exact⟨v',r'.set i v,rfl,h1,Reps.set h i h2⟩
theorem Reps.take:∀{ds:List D}{vs:List V}(i:Nat),Reps a ds vs->Reps a (ds.take i) (vs.take i)
 |_,_,0,_=>rfl
 |[],vs,_+1,r=>by cases(show vs=[]from r);exact rfl
 |d'::ds,vs,i+1,r=>by obtain⟨v',r',e1,h1,h2⟩:=r;subst e1;exact⟨v',r'.take i,rfl,h1,Reps.take i h2⟩
theorem Reps.drop:∀{ds:List D}{vs:List V}(i:Nat),Reps a ds vs->Reps a (ds.drop i) (vs.drop i)
 |_,_,0,r=>r
 |[],vs,_+1,r=>by cases(show vs=[]from r);exact rfl
 |d'::ds,vs,i+1,r=>by obtain⟨v',r',e1,h1,h2⟩:=r;subst e1;exact Reps.drop i h2
theorem Reps.ints:∀(ns:List Int),Reps a (ns.map D.int) (ns.map V.int)
 |[]=>rfl
 |n::ns=>⟨.int n,ns.map V.int,rfl,rfl,Reps.ints ns⟩
def RepKV{κ:Type}(a:Wd)(kvs:List (κ×D))(us:List (κ×V)):Prop:=kvs.map (·.1)=us.map (·.1)/\Reps a (kvs.map (·.2)) (us.map (·.2))
def RepF(a:Wd)(fs:List (Str×D))(us:List (Str×V)):Prop:=fs.map (·.1)=us.map (·.1)/\Reps a (fs.map (·.2)) (us.map (·.2))
def XD(a:Wd)(od:Option j1)(fs:List (Str×D)):Prop:=(fs=[]/\od=xy)∨∃dx o us,od=xk dx/\a.H dx=xk (.frz o (.xd us))/\RepF a fs us
def ORep(a:Wd):DO->Option HO->Prop
 |.lst ds,o=>∃vs,o=xk (.lst vs)/\Reps a ds vs
 |.dct kvs,o=>∃us,o=xk (.dK us)/\RepKV a kvs us
 |.dcT kvs,o=>∃us,o=xk (.dT us)/\RepKV a kvs us
 |.ins c fs,o=>∃C dx us,PySem.W.nsIn a.K jL c=xk (xk (.ref C))/\o=xk (.ins C dx us)/\RepF a fs us
 |.tab C m,_=>∃c P,TabAt a.K C m c P/\TabOk a.H P
 |.exc c fs,o=>∃C oe u vs,PySem.W.nsIn a.K jL c=xk (xk (.ref C))/\o=xk (.frz oe u)/\oe.cls=.ref C/\oe.data=.fields vs/\XD a oe.dict fs
 |.gone,_=>True
structure Sim (a:Wd) (G:DH):Prop where
 len:G.length=a.n
 inj:∀i j,i<a.n->j<a.n->a.m i=a.m j->i=j
 obj:∀(i:Nat)(o:DO),G[i]?=xk o->ORep a o (a.H (a.m i))
 tr:∀i,i<a.n->a.H (a.m i)≠xy
structure RepS (a:Wd) (S:DSt) (σ:St):Prop where
 len:S.length=σ.length
 get:∀(i:Nat)(d:D),S[i]?=xk (xk d)->∃v,σ[i]?=xk (xk v)/\Rep a d v
theorem RepS.mono(x:Ext a b)(r:RepS a S σ):RepS b S σ:=⟨r.len,λi d h=>let⟨v,e,q⟩:=r.get i d h;⟨v,e,q.mono x⟩⟩
theorem RepS.set(r:RepS a S σ)(i:Nat)(h:Rep a d v):RepS a (S.set i (xk d)) (σ.set i (xk v)):=by
 refine⟨by simpa using r.len,λj e he=>?_⟩;rw[qC]at he⊢;by_cases hij:i=j
 ·subst hij;rw[if_pos rfl]at he⊢;by_cases hl:i<S.length
  ·rw[if_pos hl]at he;have e1:d=e:=by simpa using he
   subst e1;rw[if_pos (by rw[<-r.len];exact hl)];exact⟨v,rfl,h⟩
  ·rw[if_neg hl]at he;cases he
 ·rw[if_neg hij]at he⊢;exact r.get j e he
def XOk(E:XK)(a:Wd)(x:Xn)(G:DH):Prop:=E≠E0/\∀(b:Wd)(C:j1)(od:Option j1),Ext a b->Sim b G->PySem.W.nsIn b.K jL x.cls=xk (xk (.ref C))->XD b od x.fs->E (.ref C) od b.H
def out(E:XK)(a:Wd)(r:R D)(Q:VK):Prop:=match r with
 |.ok d G=>∀(b:Wd)(v:V),Ext a b->Sim b G->Rep b d v->Q v b.H
 |.err x G=>XOk E a x G
 |.bad=>False
def Cr(E:XK)(a:Wd)(r:R Bool)(Q:Bool->Hp->Prop):Prop:=match r with
 |.ok k G=>∀(b:Wd),Ext a b->Sim b G->Q k b.H
 |.err x G=>XOk E a x G
 |.bad=>False
def Ck(E:XK)(a:Wd)(r:R (List D))(Q:List V->Hp->Prop):Prop:=match r with
 |.ok ds G=>∀(b:Wd)(vs:List V),Ext a b->Sim b G->Reps b ds vs->Q vs b.H
 |.err x G=>XOk E a x G
 |.bad=>False
def Bb(E:XK)(a:Wd)(r:SR)(W:Ends):Prop:=match r with
 |.nx S G=>∀(b:Wd)(σ:St),Ext a b->Sim b G->RepS b S σ->W.nx σ b.H
 |.bk S G=>∀(b:Wd)(σ:St),Ext a b->Sim b G->RepS b S σ->W.bk σ b.H
 |.ct S G=>∀(b:Wd)(σ:St),Ext a b->Sim b G->RepS b S σ->W.ct σ b.H
 |.rt d G=>∀(b:Wd)(v:V),Ext a b->Sim b G->Rep b d v->W.rt v b.H
 |.err x G=>XOk E a x G
 |.bad=>False
theorem XOk.mono(x:Ext a b){e:Xn}(h:XOk E a e G):XOk E b e G:=⟨h.1,λc C od y s n q=>h.2 c C od (x.trans y) s n q⟩
theorem out.mono(x:Ext a b)(h:out E a r Q):out E b r Q:=by
 cases r with
 |ok d G=>exact λc v y s q=>h c v (x.trans y) s q
 |err e G=>exact XOk.mono (E:=E) (e:=e) (G:=G) x h
 |bad=>exact h
theorem Cr.mono(x:Ext a b){r:R Bool}{Q:Bool->Hp->Prop}(h:Cr E a r Q):Cr E b r Q:=by
 cases r with
 |ok d G=>exact λc y s=>h c (x.trans y) s
 |err e G=>exact XOk.mono (E:=E) (e:=e) (G:=G) x h
 |bad=>exact h
theorem Ck.mono(x:Ext a b){r:R (List D)}{Q:List V->Hp->Prop}(h:Ck E a r Q):Ck E b r Q:=by
 cases r with
 |ok d G=>exact λc vs y s q=>h c vs (x.trans y) s q
 |err e G=>exact XOk.mono (E:=E) (e:=e) (G:=G) x h
 |bad=>exact h
theorem Bb.mono(x:Ext a b){r:SR}(h:Bb E a r W):Bb E b r W:=by
 cases r with
 |nx d G=>exact λc vs y s q=>h c vs (x.trans y) s q
 |bk d G=>exact λc vs y s q=>h c vs (x.trans y) s q
 |ct d G=>exact λc vs y s q=>h c vs (x.trans y) s q
 |rt d G=>exact λc vs y s q=>h c vs (x.trans y) s q
 |err e G=>exact XOk.mono (E:=E) (e:=e) (G:=G) x h
 |bad=>exact h
def lE(K:PySem.W.Frag)(E:XK)(t:DE):TE:=λσ H Q=>∃(a:Wd)(S:DSt)(G:DH),a.K=K/\a.H=H/\Sim a G/\RepS a S σ/\out E a (t S G) Q
def lB(K:PySem.W.Frag)(E:XK)(t:DB):TT:=λσ H Q=>∃(a:Wd)(S:DSt)(G:DH),a.K=K/\a.H=H/\Sim a G/\RepS a S σ/\Cr E a (t S G) Q
def lA(K:PySem.W.Frag)(E:XK)(t:DA):TA:=λσ H Q=>∃(a:Wd)(S:DSt)(G:DH),a.K=K/\a.H=H/\Sim a G/\RepS a S σ/\Ck E a (t S G) Q
def lS(K:PySem.W.Frag)(E:XK)(t:DS):TS:=λW σ H=>∃(a:Wd)(S:DSt)(G:DH),a.K=K/\a.H=H/\Sim a G/\RepS a S σ/\Bb E a (t S G) W
def lR2(K:PySem.W.Frag)(E:XK)(f:D->D->DH->R D):R2:=λx y H Q=>∃(a:Wd)(G:DH)(d e:D),a.K=K/\a.H=H/\Sim a G/\Rep a d x/\Rep a e y/\out E a (f d e G) Q
def lR1(K:PySem.W.Frag)(E:XK)(f:D->DH->R D):V->Hp->VK->Prop:=λx H Q=>∃(a:Wd)(G:DH)(d:D),a.K=K/\a.H=H/\Sim a G/\Rep a d x/\out E a (f d G) Q
def lRn(K:PySem.W.Frag)(E:XK)(f:List D->DH->R D):List V->Hp->VK->Prop:=λxs H Q=>∃(a:Wd)(G:DH)(ds:List D),a.K=K/\a.H=H/\Sim a G/\Reps a ds xs/\out E a (f ds G) Q
def lF(K:PySem.W.Frag)(f:List D->DH->R D):Sp:=λxs H Q _=>∃(a:Wd)(G:DH)(ds:List D),a.K=K/\a.H=H/\Sim a G/\Reps a ds xs/\out E0 a (f ds G) Q
section
variable{X:Cx}{E:XK}
def QE(X:Cx)(E:XK)(e:j3)(t:DE):Prop:=PE X e (lE X.K E t)
def QT(X:Cx)(E:XK)(e:j3)(t:DB):Prop:=PT X e (lB X.K E t)
def QA(X:Cx)(E:XK)(es:List j3)(t:DA):Prop:=PA X es (lA X.K E t)
def QS(X:Cx)(E:XK)(st:j9)(t:DS):Prop:=PS X st (lS X.K E t)
def QSs(X:Cx)(E:XK)(st:List j9)(t:DS):Prop:=PSs X st (lS X.K E t)
theorem _root_._L.PE.mono{t t':TE}(h:PE X e t)(w:∀σ H Q,t' σ H Q->t σ H Q):PE X e t':=λxw s σ H Q I q=>h xw s σ H Q I (w σ H Q q)
theorem _root_._L.PT.mono{t t':TT}(h:PT X e t)(w:∀σ H Q,t' σ H Q->t σ H Q):PT X e t':=λxw s σ H Q I q=>h xw s σ H Q I (w σ H Q q)
theorem _root_._L.PA.mono{e:List j3}{t t':TA}(h:PA X e t)(w:∀σ H Q,t' σ H Q->t σ H Q):PA X e t':=λpos xw s σ H Q I q=>h pos xw s σ H Q I (w σ H Q q)
theorem _root_._L.PS.mono{e:j9}{t t':TS}(h:PS X e t)(w:∀W σ H,t' W σ H->t W σ H):PS X e t':=λxw s σ H W I q=>h xw s σ H W I (w W σ H q)
theorem _root_._L.PSs.mono{e:List j9}{t t':TS}(h:PSs X e t)(w:∀W σ H,t' W σ H->t W σ H):PSs X e t':=λxw s σ H W I q=>h xw s σ H W I (w W σ H q)
theorem _root_._L.OpR.mono{f:jA->jA->Sem jA}{r r':R2}(h:OpR X f r)(w:∀x y H Q,r' x y H Q->r x y H Q):OpR X f r':=λxw s σ H x y v u Q I rx ry q=>h xw s σ H x y v u Q I rx ry (w _ _ _ _ q)
end
theorem Dm{f:D->DH->R D}(h:out E a (r.bind f) Q):
  out E a r (λv H=>∃(b:Wd)(d:D)(G:DH),b.H=H/\Ext a b/\Sim b G/\Rep b d v/\r=.ok d G/\out E b (f d G) Q):=by
 cases r with
 |ok d G=>exact λb v x s q=>⟨b,d,G,rfl,x,s,q,rfl,out.mono x h⟩
 |err e G=>exact h
 |bad=>exact h
theorem Jr{r:R (List D)}{f:List D->DH->R D}(h:out E a (r.bind f) Q):
  Ck E a r (λvs H=>∃(b:Wd)(ds:List D)(G:DH),b.H=H/\Ext a b/\Sim b G/\Reps b ds vs/\r=.ok ds G/\out E b (f ds G) Q):=by
 cases r with
 |ok d G=>exact λb v x s q=>⟨b,d,G,rfl,x,s,q,rfl,out.mono x h⟩
 |err e G=>exact h
 |bad=>exact h
theorem Z2{r:R Bool}{f:Bool->DH->R D}(h:out E a (r.bind f) Q):
  Cr E a r (λk H=>∃(b:Wd)(G:DH),b.H=H/\Ext a b/\Sim b G/\r=.ok k G/\out E b (f k G) Q):=by
 cases r with
 |ok d G=>exact λb x s=>⟨b,G,rfl,x,s,rfl,out.mono x h⟩
 |err e G=>exact h
 |bad=>exact h
theorem ZBv{f:D->DH->R Bool}{Q:Bool->Hp->Prop}(h:Cr E a (r.bind f) Q):
  out E a r (λv H=>∃(b:Wd)(d:D)(G:DH),b.H=H/\Ext a b/\Sim b G/\Rep b d v/\r=.ok d G/\Cr E b (f d G) Q):=by
 cases r with
 |ok d G=>exact λb v x s q=>⟨b,d,G,rfl,x,s,q,rfl,Cr.mono x h⟩
 |err e G=>exact h
 |bad=>exact h
theorem Nv{r:R Bool}{f:Bool->DH->R Bool}{Q:Bool->Hp->Prop}(h:Cr E a (r.bind f) Q):
  Cr E a r (λk H=>∃(b:Wd)(G:DH),b.H=H/\Ext a b/\Sim b G/\r=.ok k G/\Cr E b (f k G) Q):=by
 cases r with
 |ok d G=>exact λb x s=>⟨b,G,rfl,x,s,rfl,Cr.mono x h⟩
 |err e G=>exact h
 |bad=>exact h
theorem ZGc{f:D->DH->R (List D)}{Q:List V->Hp->Prop}(h:Ck E a (r.bind f) Q):
  out E a r (λv H=>∃(b:Wd)(d:D)(G:DH),b.H=H/\Ext a b/\Sim b G/\Rep b d v/\r=.ok d G/\Ck E b (f d G) Q):=by
 cases r with
 |ok d G=>exact λb v x s q=>⟨b,d,G,rfl,x,s,q,rfl,Ck.mono x h⟩
 |err e G=>exact h
 |bad=>exact h
theorem ZGO{r:R (List D)}{f:List D->DH->R (List D)}{Q:List V->Hp->Prop}(h:Ck E a (r.bind f) Q):
  Ck E a r (λvs H=>∃(b:Wd)(ds:List D)(G:DH),b.H=H/\Ext a b/\Sim b G/\Reps b ds vs/\r=.ok ds G/\Ck E b (f ds G) Q):=by
 cases r with
 |ok d G=>exact λb v x s q=>⟨b,d,G,rfl,x,s,q,rfl,Ck.mono x h⟩
 |err e G=>exact h
 |bad=>exact h
noncomputable def R.toS{α:Type}(r:R α)(f:α->DH->SR):SR:=match r with
 |.ok a G=>f a G
 |.err x G=>.err x G
 |.bad=>.bad
@[simp]theorem R.Dt(a:α)(G:DH)(f:α->DH->SR):(R.ok a G).toS f=f a G:=id rfl
theorem Gs{f:D->DH->SR}(h:Bb E a (r.toS f) W):
  out E a r (λv H=>∃(b:Wd)(d:D)(G:DH),b.H=H/\Ext a b/\Sim b G/\Rep b d v/\r=.ok d G/\Bb E b (f d G) W):=by
 cases r with
 |ok d G=>exact λb v x s q=>⟨b,d,G,rfl,x,s,q,rfl,Bb.mono x h⟩
 |err e G=>exact h
 |bad=>exact h
theorem ZFQ{r:R Bool}{f:Bool->DH->SR}(h:Bb E a (r.toS f) W):
  Cr E a r (λk H=>∃(b:Wd)(G:DH),b.H=H/\Ext a b/\Sim b G/\r=.ok k G/\Bb E b (f k G) W):=by
 cases r with
 |ok d G=>exact λb x s=>⟨b,G,rfl,x,s,rfl,Bb.mono x h⟩
 |err e G=>exact h
 |bad=>exact h
section
theorem out.imp{Q':VK}(h:out E a r Q)(w:∀v H,Q v H->Q' v H):out E a r Q':=by
 cases r with
 |ok d G=>exact λb v x s q=>w _ _ (h b v x s q)
 |err e G=>exact h
 |bad=>exact h
theorem Ck.imp{r:R (List D)}{Q Q':List V->Hp->Prop}(h:Ck E a r Q)(w:∀v H,Q v H->Q' v H):Ck E a r Q':=by
 cases r with
 |ok d G=>exact λb v x s q=>w _ _ (h b v x s q)
 |err e G=>exact h
 |bad=>exact h
theorem Cr.imp{r:R Bool}{Q Q':Bool->Hp->Prop}(h:Cr E a r Q)(w:∀v H,Q v H->Q' v H):Cr E a r Q':=by
 cases r with
 |ok d G=>exact λb x s=>w _ _ (h b x s)
 |err e G=>exact h
 |bad=>exact h
def Wd.push(a:Wd)(p:j1)(ho:HO):Wd:=⟨a.K,a.n+1,λk=>if k=a.n then p else a.m k,upd a.H p ho⟩
def Wd.put(a:Wd)(p:j1)(ho:HO):Wd:={a with H:=upd a.H p ho}
theorem Ext.put(h:a.H p=xy):Ext a (a.put p ho):=
 ⟨rfl,zq _,λ_ _=>rfl,λq xs e=>by show upd a.H p ho q=_;rw[Ag (Dv e h)];exact e,λq o u e=>by show upd a.H p ho q=_;rw[Ag (Dv e h)];exact e,λ_ t=>t.mono (λq ps e=>by show upd a.H p ho q=_;rw[Ag (Dv e h)];exact e) (λq o u e=>by show upd a.H p ho q=_;rw[Ag (Dv e h)];exact e)⟩
theorem Ext.push(h:a.H p=xy):Ext a (a.push p ho):=
 ⟨rfl,jX _,λi hi=>by show(if i=a.n then p else a.m i)=a.m i;rw[if_neg (zB hi)],λq xs e=>by show upd a.H p ho q=_;rw[Ag (Dv e h)];exact e,λq o u e=>by show upd a.H p ho q=_;rw[Ag (Dv e h)];exact e,λ_ t=>t.mono (λq ps e=>by show upd a.H p ho q=_;rw[Ag (Dv e h)];exact e) (λq o u e=>by show upd a.H p ho q=_;rw[Ag (Dv e h)];exact e)⟩
theorem XD.mono(x:Ext a b){od:Option j1}{fs:List (Str×D)}(h:XD a od fs):XD b od fs:=by
 rcases h with h|⟨dx,o,us,e,f,k,r⟩
 ·exact .inl h
 ·exact .inr ⟨dx,o,us,e,x.frz _ _ _ f,k,r.mono x⟩
theorem ORep.mono(x:Ext a b){q:Option HO}(h:ORep a o q):ORep b o q:=by
 cases o with
 |lst ds=>obtain⟨vs,e,r⟩:=h;exact⟨vs,e,r.mono x⟩
 |dct kvs=>obtain⟨us,e,k,r⟩:=h;exact⟨us,e,k,r.mono x⟩
 |dcT kvs=>obtain⟨us,e,k,r⟩:=h;exact⟨us,e,k,r.mono x⟩
 |ins c fs=>obtain⟨C,dx,us,n,e,k,r⟩:=h;exact⟨C,dx,us,by rw[x.k];exact n,e,k,r.mono x⟩
 |tab C m=>obtain⟨c,P,e,t⟩:=h;exact⟨c,P,by rw[x.k];exact e,x.tab _ t⟩
 |exc c fs=>obtain⟨C,oe,u,vs,n,e,k1,k2,z⟩:=h;exact⟨C,oe,u,vs,by rw[x.k];exact n,e,k1,k2,z.mono x⟩
 |gone=>trivial
theorem Sim.lt(s:Sim a G)(h:G[i]?=xk o):i<a.n:=by rw[<-s.len];exact(zJ.mp h).1
theorem Sim.put(s:Sim a G)(h:a.H p=xy):Sim (a.put p ho) G:=by
 refine⟨s.len,s.inj,λi o e=>?_,λi hi=>?_⟩
 ·have z:a.H (a.m i)≠xy:=s.tr i (s.lt e);have ne:a.m i≠p:=λq=>z (by rw[q];exact h)
  show ORep _ o (upd a.H p ho (a.m i));rw[Ag ne];exact(s.obj i o e).mono (Ext.put h)
 ·have z:a.H (a.m i)≠xy:=s.tr i hi;have ne:a.m i≠p:=λq=>z (by rw[q];exact h)
  show upd a.H p ho (a.m i)≠xy;rw[Ag ne];exact z
theorem Sim.push(s:Sim a G)(h:a.H p=xy)(r:ORep (a.push p ho) o (xk ho)):Sim (a.push p ho) (G++[o]):=by
 have nep:∀i,i<a.n->a.m i≠p:=λi hi q=>s.tr i hi (by rw[q];exact h)
 have old:∀i,i<a.n->(a.push p ho).m i=a.m i:=λi hi=>by show(if i=a.n then p else a.m i)=_;rw[if_neg (zB hi)]
 have new:(a.push p ho).m a.n=p:=by show(if a.n=a.n then p else a.m a.n)=_;rw[if_pos rfl]
 refine⟨by simp[s.len,Wd.push],λi j hi hj e=>?_,λi u e=>?_,λi hi=>?_⟩
 ·have hi':i<a.n+1:=hi;have hj':j<a.n+1:=hj;by_cases h1:i<a.n
  ·by_cases h2:j<a.n
   ·rw[old i h1,old j h2]at e;exact s.inj i j h1 h2 e
   ·have:j=a.n:=by lia
    subst this;rw[old i h1,new]at e;exact absurd e (nep i h1)
  ·have:i=a.n:=by lia
   subst this;by_cases h2:j<a.n
   ·rw[old j h2,new]at e;exact absurd e.symm (nep j h2)
   ·lia
 ·by_cases h1:i<a.n
  ·rw[zG (by rw[s.len];exact h1)]at e;rw[old i h1];show ORep _ u (upd a.H p ho (a.m i));rw[Ag (nep i h1)];exact(s.obj i u e).mono (Ext.push h)
  ·have hl:i<(G++[o]).length:=(zJ.mp e).1;have:i=a.n:=by rw[qy,s.len]at hl;simp at hl;lia
   subst this;rw[zN (by rw[s.len];exact zq _),s.len]at e;simp at e;subst e;rw[new];show ORep _ o (upd a.H p ho p);rw[Cp];exact r
 ·have hi':i<a.n+1:=hi;by_cases h1:i<a.n
  ·rw[old i h1];show upd a.H p ho (a.m i)≠xy;rw[Ag (nep i h1)];exact s.tr i h1
  ·have:i=a.n:=by lia
   subst this;rw[new];show upd a.H p ho p≠xy;rw[Cp];simp
theorem Ext.wr(h:a.H p=xk (.lst vs)):Ext a (a.put p ho):=
 ⟨rfl,zq _,λ_ _=>rfl,λq xs e=>by
  show upd a.H p ho q=_;rw[Ag (λz=>by subst z;rw[h]at e;cases e)];exact e,λq o u e=>by
  show upd a.H p ho q=_;rw[Ag (λz=>by subst z;rw[h]at e;cases e)];exact e,λ_ t=>t.mono (λq ps e=>by show upd a.H p ho q=_;rw[Ag (λz=>by subst z;rw[h]at e;cases e)];exact e) (λq o u e=>by show upd a.H p ho q=_;rw[Ag (λz=>by subst z;rw[h]at e;cases e)];exact e)⟩
theorem Sim.wr(s:Sim a G)(hi:i<a.n){vs':List V}{ds':List D}(h:a.H (a.m i)=xk (.lst vs))(r:Reps (a.put (a.m i) (.lst vs')) ds' vs'):Sim (a.put (a.m i) (.lst vs')) (G.set i (.lst ds')):=by
 refine⟨by rw[qN];exact s.len,s.inj,λj o e=>?_,λj hj=>?_⟩
 ·rw[qC]at e;show ORep _ o (upd a.H (a.m i) (.lst vs') (a.m j));by_cases hij:i=j
  ·subst hij;rw[if_pos rfl,if_pos (by rw[s.len];exact hi)]at e;cases e;rw[Cp];exact⟨vs',rfl,r⟩
  ·rw[if_neg hij]at e;rw[Ag λz=>hij (s.inj _ _ (s.lt e) hi z).symm];exact(s.obj j o e).mono (Ext.wr h)
 ·show upd a.H (a.m i) (.lst vs') (a.m j)≠xy;by_cases hij:a.m j=a.m i
  ·rw[hij,Cp];simp
  ·rw[Ag hij];exact s.tr j hj
mutual
noncomputable def bel(n:Nat):D->Bool
 |.ref i=>decide (i<n)
 |.tup ds=>bels n ds
 |.fl ds=>bels n ds
 |_=>x0
noncomputable def bels(n:Nat):List D->Bool
 |[]=>x0
 |d::ds=>bel n d&&bels n ds
end
def Fb(n:Nat):DO->Bool
 |.lst ds=>bels n ds
 |.dct kvs=>bels n (kvs.map (·.2))
 |.dcT kvs=>bels n (kvs.map (·.2))
 |.ins _ fs=>bels n (fs.map (·.2))
 |.tab _ _=>x0
 |.exc _ fs=>bels n (fs.map (·.2))
 |.gone=>x0
mutual
theorem Rep.bel:∀{d:D}{v:V},Rep a d v->bel a.n d=x0
 |.non,_,_=>by simp[_D.bel]
 |.bl _,_,_=>by simp[_D.bel]
 |.int _,_,_=>by simp[_D.bel]
 |.str _,_,_=>by simp[_D.bel]
 |.ty _,_,_=>by simp[_D.bel]
 |.tup ds,v,h=>by obtain⟨p,vs,e,q,r⟩:=h;simp only[_D.bel];exact Reps.bels r
 |.fl ds,v,h=>by obtain⟨p,vs,e,q,r⟩:=h;simp only[_D.bel];exact Reps.bels r
 |.ref i,v,h=>by obtain⟨l,e⟩:=h;simp only[_D.bel];exact decide_eq_true l
theorem Reps.bels:∀{ds:List D}{vs:List V},Reps a ds vs->bels a.n ds=x0
 |[],_,_=>by simp[_D.bels]
 |d::ds,vs,h=>by
  obtain⟨v,r,e,h1,h2⟩:=h;simp only[_D.bels];rw[Rep.bel h1,Reps.bels h2]
  rfl
end
structure Cut (b c:Wd):Prop where
 k:c.K=b.K
 h:c.H=b.H
mutual
theorem Rep.cut(x:Cut b c)(hn:n<=c.n)(hm:∀i,i<n->c.m i=b.m i):∀{d:D}{v:V},Rep b d v->bel n d=x0->Rep c d v
 |.non,_,h,_=>h
 |.bl _,_,h,_=>h
 |.int _,_,h,_=>h
 |.str _,_,h,_=>h
 |.ty _,_,h,_=>h
 |.tup ds,v,h,q=>by obtain⟨p,vs,e,t,r⟩:=h;simp only[_D.bel]at q;exact⟨p,vs,e,by rw[x.k,x.h];exact t,Reps.cut x hn hm r q⟩
 |.fl ds,v,h,q=>by obtain⟨p,vs,e,t,r⟩:=h;simp only[_D.bel]at q;exact⟨p,vs,e,by rw[x.k,x.h];exact t,Reps.cut x hn hm r q⟩
 |.ref i,v,h,q=>by obtain⟨l,e⟩:=h;simp only[_D.bel]at q;have q':=of_decide_eq_true q;exact⟨zW q' hn,by rw[hm i q'];exact e⟩
theorem Reps.cut(x:Cut b c)(hn:n<=c.n)(hm:∀i,i<n->c.m i=b.m i):∀{ds:List D}{vs:List V},Reps b ds vs->bels n ds=x0->Reps c ds vs
 |[],_,h,_=>h
 |d::ds,vs,h,q=>by obtain⟨v,r,e,h1,h2⟩:=h;simp only[_D.bels,zC]at q;exact⟨v,r,e,Rep.cut x hn hm h1 q.1,Reps.cut x hn hm h2 q.2⟩
end
theorem ORep.cut(x:Cut b c)(hn:n<=c.n)(hm:∀i,i<n->c.m i=b.m i){q:Option HO}(h:ORep b o q)(l:Fb n o=x0):ORep c o q:=by
 cases o with
 |lst ds=>obtain⟨vs,e,r⟩:=h;exact⟨vs,e,Reps.cut x hn hm r l⟩
 |dct kvs=>obtain⟨us,e,k,r⟩:=h;exact⟨us,e,k,Reps.cut x hn hm r l⟩
 |dcT kvs=>obtain⟨us,e,k,r⟩:=h;exact⟨us,e,k,Reps.cut x hn hm r l⟩
 |ins c fs=>obtain⟨C,dx,us,n,e,k,r⟩:=h;exact⟨C,dx,us,by rw[x.k];exact n,e,k,Reps.cut x hn hm r l⟩
 |tab C m=>obtain⟨c,P,e,t⟩:=h;exact⟨c,P,by rw[x.k];exact e,by rw[x.h];exact t⟩
 |exc c fs=>
  obtain⟨C,oe,u,vs,n,e,k1,k2,z⟩:=h;refine⟨C,oe,u,vs,by rw[x.k];exact n,e,k1,k2,?_⟩;rcases z with z|⟨dx,o,us,e,f,k,r⟩
  ·exact .inl z
  ·exact .inr ⟨dx,o,us,e,by rw[x.h];exact f,k,Reps.cut x hn hm r l⟩
 |gone=>trivial
theorem ORep.Fb{q:Option HO}(h:ORep a o q):Fb a.n o=x0:=by
 cases o with
 |lst ds=>obtain⟨vs,e,r⟩:=h;exact r.bels
 |dct kvs=>obtain⟨us,e,k,r⟩:=h;exact r.bels
 |dcT kvs=>obtain⟨us,e,k,r⟩:=h;exact r.bels
 |ins c fs=>obtain⟨C,dx,us,n,e,k,r⟩:=h;exact r.bels
 |tab C m=>rfl
 |exc c fs=>
  obtain⟨C,oe,u,vs,n,e,k1,k2,z⟩:=h;rcases z with⟨z,_⟩|⟨dx,o,us,e,f,k,r⟩
  ·rw[z];rfl
  ·exact r.bels
 |gone=>rfl
open Classical in
def tidy (G:DH) (r:R D):R D:=match r with
 | .ok d G'=>if G'.take G.length=G then
   (if bel G.length d=x0 then .ok d G else match d with
    |.ref i=>match G'[i]? with
     |some o=>if Fb G.length o=x0 then .ok (.ref G.length) (G++[o])else .ok d G'
     |none=>.ok d G'
    |_=>.ok d G')else .ok d G'
 |r=>r
theorem Uw (s:Sim a G) (h:out E a (tidy G r) Q):out E a r Q:=by
 cases r with
 |err e G'=>exact h
 |bad=>exact h
 | ok d G'=>
  intro b v x sb rb;unfold tidy at h;dsimp only at h;split at h
  ·rename_i hG;have hlen:∀i o,G[i]?=xk o->G'[i]?=xk o:=λi o e=>by have hi:i<G.length:=(zJ.mp e).1;rw[<-hG,qH hi]at e;exact e
   have base:∀(c:Wd),Cut b c->a.n<=c.n->(∀i,i<a.n->c.m i=b.m i)->∀i o,G[i]?=xk o->ORep c o (c.H (c.m i)):=λc cc hn hm i o e=>by have q:=sb.obj i o (hlen i o e);rw[cc.h,hm i (s.lt e)];exact q.cut cc hn hm (s.obj i o e).Fb
   split at h
   ·rename_i hb;rw[s.len]at hb;let c:Wd:=⟨b.K,a.n,b.m,b.H⟩;have cc:Cut b c:=⟨rfl,rfl⟩;refine h c v ⟨x.k,zq _,x.m,x.tup,x.frz,x.tab⟩ ⟨s.len,λi j hi hj=>sb.inj i j (zW hi x.n) (zW hj x.n),base c cc (zq _) (λ_ _=>rfl),λi hi=>sb.tr i (zW hi x.n)⟩ ?_;exact rb.cut cc (zq _) (λ_ _=>rfl) hb
   ·rename_i hb;split at h
    ·rename_i i;obtain⟨il,iv⟩:=rb;split at h
     ·rename_i o ho;split at h
      ·rename_i hbo;rw[s.len]at hbo hb h;simp only[_D.bel,decide_eq_true_eq]at hb;let c:Wd:=⟨b.K,a.n+1,λk=>if k=a.n then b.m i else b.m k,b.H⟩;have cc:Cut b c:=⟨rfl,rfl⟩;have cm:∀j,j<a.n->c.m j=b.m j:=λj hj=>by show(if j=a.n then b.m i else b.m j)=_;rw[if_neg (zB hj)]
       have cn:c.m a.n=b.m i:=by show(if a.n=a.n then b.m i else b.m a.n)=_;rw[if_pos rfl]
       have lt':∀j,j<a.n->j<b.n:=λj hj=>zW hj x.n
       refine h c v ⟨x.k,jX _,λj hj=>(cm j hj).trans (x.m j hj),x.tup,x.frz,x.tab⟩ ⟨by simp[s.len,c],λj k hj hk e=>?_,λj u e=>?_,λj hj=>?_⟩ ⟨qY _,by rw[cn];exact iv⟩
       ·have hj':j<a.n+1:=hj;have hk':k<a.n+1:=hk;by_cases h1:j<a.n
        ·by_cases h2:k<a.n
         ·rw[cm j h1,cm k h2]at e;exact sb.inj j k (lt' j h1) (lt' k h2) e
         ·have:k=a.n:=by lia
          subst this;rw[cm j h1,cn]at e;have:=sb.inj j i (lt' j h1) il e;lia
        ·have:j=a.n:=by lia
         subst this;by_cases h2:k<a.n
         ·rw[cm k h2,cn]at e;have:=sb.inj i k il (lt' k h2) e;lia
         ·lia
       ·by_cases h1:j<a.n
        ·rw[zG (by rw[s.len];exact h1)]at e;exact base c cc (jX _) cm j u e
        ·have hl:j<(G++[o]).length:=(zJ.mp e).1;have:j=a.n:=by rw[qy,s.len]at hl;simp at hl;lia
         subst this;rw[zN (by rw[s.len];exact zq _),s.len]at e;simp at e;subst e;rw[cn];exact(sb.obj i o ho).cut cc (jX _) cm hbo
       ·have hj':j<a.n+1:=hj;by_cases h1:j<a.n
        ·rw[cm j h1];exact sb.tr j (lt' j h1)
        ·have:j=a.n:=by lia
         subst this;rw[cn];exact sb.tr i il
      ·exact h b v x sb ⟨il,iv⟩
     ·exact h b v x sb ⟨il,iv⟩
    ·exact h b v x sb rb
  ·exact h b v x sb rb
end
noncomputable def dV(i:Nat):DE:=λS G=>match S[i]? with
 |some (xk d)=>.ok d G
 |_=>.bad
noncomputable def dC(d:D):DE:=λ_ G=>.ok d G
def dOp(f:D->D->DH->R D)(a b:DE):DE:=λS G=>(a S G).bind λx G1=>(b S G1).bind λy G2=>f x y G2
def dUn(f:D->DH->R D)(a:DE):DE:=λS G=>(a S G).bind f
noncomputable def Ab:DA:=λ_ G=>.ok [] G
def Aa(a:DE)(r:DA):DA:=λS G=>(a S G).bind λx G1=>(r S G1).bind λxs G2=>.ok (x::xs) G2
def dFn(f:List D->DH->R D)(t:DA):DE:=λS G=>(t S G).bind f
def Cm(t:DE):DE:=λS G=>tidy G (t S G)
def asB:D->DH->R Bool
 |.bl k,G=>.ok k G
 |_,_=>.bad
def Aj(t:DE):DB:=λS G=>(t S G).bind asB
def Ej(t u:DB):DB:=λS G=>(t S G).bind λk G1=>if k=x0 then u S G1 else .ok xA G1
def dOr(t u:DB):DB:=λS G=>(t S G).bind λk G1=>if k=x0 then .ok x0 G1 else u S G1
def Gk(t:DB):DB:=λS G=>(t S G).bind λk G1=>.ok (!k) G1
def Lp(t u:DE):DE:=λS G=>(t S G).bind λx G1=>(asB x G1).bind λk G2=>if k=x0 then u S G2 else .ok (.bl xA) G2
def Li(t:DE):DE:=λS G=>(t S G).bind λx G1=>(asB x G1).bind λk G2=>.ok (.bl (!k)) G2
def dIf(c:DB)(t u:DE):DE:=λS G=>(c S G).bind λk G1=>if k=x0 then t S G1 else u S G1
def Jp(f g:D->D->DH->R D)(a b c:DE):DE:=λS G=>(a S G).bind λx G1=>(b S G1).bind λy G2=>(f x y G2).bind λz G3=>(asB z G3).bind λk G4=>
 if k=x0 then(c S G4).bind λw G5=>g y w G5 else .ok (.bl xA) G4
noncomputable def Al(ds:List D)(G:DH):R D:=if ds.length<=1000000 then .ok (.tup ds) G else .bad
noncomputable def Ae(ds:List D)(G:DH):R D:=if ds.length<=1000000 then .ok (.ref G.length) (G++[.lst ds])else .bad
noncomputable def Ax(d:D)(G:DH):Option (List D):=match d with
 |.tup xs=>xk xs
 |.fl xs=>xk xs
 |.ref i=>match G[i]? with
  |some (.lst xs)=>xk xs
  |_=>xy
 |_=>xy
theorem size6:(1000000:Nat)<=sizeLine:=by decide
section
variable{X:Cx}{E:XK}{a b c:j3}{ta tb tc:DE}{pos:Pos}
theorem two(h:lE K E (dOp f ta tb) σ H Q):tOp (lR2 K E f) (lE K E ta) (lE K E tb) σ H Q:=by obtain⟨a,S,G,hk,rfl,s,r,h⟩:=h;refine⟨a,S,G,hk,rfl,s,r,(Dm h).imp ?_⟩;rintro v _ ⟨b,d,G1,rfl,x,s1,q,_,h1⟩;refine⟨b,S,G1,x.k.trans hk,rfl,s1,r.mono x,(Dm h1).imp ?_⟩;rintro w _ ⟨c,e,G2,rfl,y,s2,q2,_,h2⟩;exact⟨c,G2,d,e,y.k.trans (x.k.trans hk),rfl,s2,q.mono y,q2,h2⟩
theorem Gn(i:Nat){pos:Pos}(hN:X.N[i]?=xk x:=by rfl)(hv:Vis X.env.scope x:=by first|exact Or.inl rfl|exact Or.inr (Or.inl rfl)|exact Or.inr (Or.inr rfl))(hd:(x==("__debug__":Str))=xA:=by decide)
  (hcd:(x==("__classdict__":Str))=xA:=by decide):QE X E (.Name x pos) (dV i):=by
 refine(ZGH hN hv hd hcd).mono λσ H Q h=>?_
 obtain⟨a,S,G,hk,rfl,s,r,h⟩:=h;unfold dV at h;split at h
 ·rename_i d e;obtain⟨v,e',q⟩:=r.get i d e;exact⟨v,e',h a v (Ext.refl a) s q⟩
 ·exact h.elim
theorem Ih(h:lE K E (dC d) σ H Q)(r:∀a:Wd,a.K=K->Rep a d v):Q v H:=by obtain⟨a,S,G,hk,rfl,s,_,h⟩:=h;exact h a v (Ext.refl a) s (r a hk)
theorem Rw{i:Int}:QE X E (.Constant (.int i) j pos) (dC (.int i)):=ZG4.mono λσ H Q h=>Ih h λ_ _=>rfl
theorem ZGJ{i:Bool}:QE X E (.Constant (.bool i) j pos) (dC (.bl i)):=ZD5.mono λσ H Q h=>Ih h λ_ _=>rfl
theorem ZBL:QE X E (.Constant .none j pos) (dC .non):=ZEr.mono λσ H Q h=>Ih h λ_ _=>rfl
theorem Y5{i:Str}:QE X E (.Constant (.str i) j pos) (dC (.str i)):=ZCK.mono λσ H Q h=>Ih h λ_ _=>rfl
theorem ZBb{u:jA}(hg:Gl X x)(hm:X.mg x=xk u)(r:RelV v u)(rd:∀a:Wd,a.K=X.K->Rep a d v)(hd:(x==("__debug__":Str))=xA:=by decide):QE X E (.Name x pos) (dC d):=
 (ZEC hg hm r hd).mono λσ H Q h=>Ih h rd
theorem Rh{op:Operator}(ho:OpR X (jE op) (lR2 X.K E f))(ha:QE X E a ta)(hb:QE X E b tb):QE X E (.BinOp a op b pos) (dOp f ta tb):=
 (ZCN ho ha hb).mono λ_ _ _ h=>two h
theorem T7{t:DE}{Q:Bool->Hp->Prop}(h:lB K E (Aj t) σ H Q):Iw (lE K E t) σ H Q:=by
 obtain⟨a,S,G,hk,rfl,s,r,h⟩:=h;refine⟨a,S,G,hk,rfl,s,r,(ZBv h).imp ?_⟩;rintro v _ ⟨b,d,G1,rfl,x,s1,q,_,h1⟩;cases d with
 |bl k=>exact⟨k,q,h1 b (Ext.refl b) s1⟩
 |_=>exact h1.elim
theorem Zy{t t':TE}(w:∀σ H Q,t' σ H Q->t σ H Q)(σ:St)(H:Hp)(Q:Bool->Hp->Prop)(h:Iw t' σ H Q):Iw t σ H Q:=w _ _ _ h
theorem Ua{op:CmpOp}(ho:OpR X (jG op) (lR2 X.K E f))(ha:QE X E a ta)(hb:QE X E b tb)(hm:behindInMarks op b=xA):QT X E (.Compare a [op] [b] pos) (Aj (dOp f ta tb)):=
 (ZBX ho ha hb hm).mono λσ H Q h=>Zy (λ_ _ _ z=>two z) σ H Q (T7 h)
theorem chain{g:D->D->DH->R D}(h:lE K E (Jp f g ta tb tc) σ H Q):ZAN (lR2 K E f) (lR2 K E g) (lE K E ta) (lE K E tb) (lE K E tc) σ H Q:=by
 obtain⟨a,S,G,hk,rfl,s,r,h⟩:=h;refine⟨a,S,G,hk,rfl,s,r,(Dm h).imp ?_⟩;rintro v _ ⟨b,d,G1,rfl,x,s1,q,_,h1⟩;refine⟨b,S,G1,x.k.trans hk,rfl,s1,r.mono x,(Dm h1).imp ?_⟩;rintro w _ ⟨c,e,G2,rfl,y,s2,q2,_,h2⟩;refine⟨c,G2,d,e,y.k.trans (x.k.trans hk),rfl,s2,q.mono y,q2,(Dm h2).imp ?_⟩;rintro z _ ⟨c3,e3,G3,rfl,y3,s3,q3,_,h3⟩;cases e3 with
 | bl k=>
  refine⟨k,q3,?_⟩;cases k with
  |false=>exact h3 c3 (.bl xA) (Ext.refl _) s3 rfl
  |true=>
   refine⟨c3,S,G3,(y3.k.trans (y.k.trans (x.k.trans hk))),rfl,s3,((r.mono x).mono y).mono y3,(Dm h3).imp ?_⟩;rintro z4 _ ⟨c4,e4,G4,rfl,y4,s4,q4,_,h4⟩;exact⟨c4,G4,e,e4,y4.k.trans (y3.k.trans (y.k.trans (x.k.trans hk))),rfl,s4,(q2.mono y3).mono y4,q4,h4⟩
 |_=>exact h3.elim
theorem ZCi{op op':CmpOp}{g:D->D->DH->R D}(ho:OpR X (jG op) (lR2 X.K E f))(ho':OpR X (jG op') (lR2 X.K E g))(ha:QE X E a ta)(hb:QE X E b tb)(hc:QE X E c tc)
  (hm:lastMarks [op,op'] [b,c]=xA:=by with_unfolding_all rfl):QT X E (.Compare a [op,op'] [b,c] pos) (Aj (Jp f g ta tb tc)):=
 (ZF2 ho ho' ha hb hc hm).mono λσ H Q h=>Zy (λ_ _ _ z=>chain z) σ H Q (T7 h)
theorem ZDd(ha:QE X E a ta)(he:∀whole,isTrue a X.env whole=(do let v<-whole;standAt a.pos;holding [v] (truthy v)):=by intro _;rfl):QT X E a (Aj ta):=
 (ZHK ha he).mono λσ H Q h=>T7 h
theorem ZFP(ha:QE X E a ta):QE X E a (Cm ta):=_L.PE.mono ha λσ H Q h=>by obtain⟨w,S,G,hk,rfl,s,r,h⟩:=h;exact⟨w,S,G,hk,rfl,s,r,Uw s h⟩
def QW(X:Cx)(E:XK)(e:j3)(t:DB):Prop:=PW X e (lB X.K E t)
theorem _root_._L.PW.mono{t t':TT}(h:PW X e t)(w:∀σ H Q,t' σ H Q->t σ H Q):PW X e t':=λwh xw s σ H Q I q=>h wh xw s σ H Q I (w σ H Q q)
variable{u t:DB}{rest:List j3}
theorem ZAs{Q:Bool->Hp->Prop}(h:lB K E (Ej t u) σ H Q):tAnd (lB K E t) (lB K E u) σ H Q:=by
 obtain⟨a,S,G,hk,rfl,s,r,h⟩:=h;refine⟨a,S,G,hk,rfl,s,r,(Nv h).imp ?_⟩;rintro k _ ⟨b,G1,rfl,x,s1,_,h1⟩;cases k with
 |true=>exact⟨b,S,G1,x.k.trans hk,rfl,s1,r.mono x,h1⟩
 |false=>exact h1 b (Ext.refl b) s1
theorem ZDk{Q:Bool->Hp->Prop}(h:lB K E (dOr t u) σ H Q):tOr (lB K E t) (lB K E u) σ H Q:=by
 obtain⟨a,S,G,hk,rfl,s,r,h⟩:=h;refine⟨a,S,G,hk,rfl,s,r,(Nv h).imp ?_⟩;rintro k _ ⟨b,G1,rfl,x,s1,_,h1⟩;cases k with
 |true=>exact h1 b (Ext.refl b) s1
 |false=>exact⟨b,S,G1,x.k.trans hk,rfl,s1,r.mono x,h1⟩
theorem ZCX(ha:QT X E a t):QW X E (.BoolOp .And [a] pos) t:=pw_and1 ha
theorem ZCM(ha:QT X E a t):QW X E (.BoolOp .Or [a] pos) t:=pw_or1 ha
theorem Tn(ha:QT X E a t)(hb:QW X E (.BoolOp .And (b::rest) pos) u):QW X E (.BoolOp .And (a::b::rest) pos) (Ej t u):=(pw_and ha hb).mono λ_ _ _ h=>ZAs h
theorem ZEL(ha:QT X E a t)(hb:QW X E (.BoolOp .Or (b::rest) pos) u):QW X E (.BoolOp .Or (a::b::rest) pos) (dOr t u):=(pw_or ha hb).mono λ_ _ _ h=>ZDk h
theorem qt_w(h:QW X E a t):QT X E a t:=_L.PW.pt h
theorem ZBQ(ha:QT X E a t):QT X E (.UnaryOp .Not a pos) (Gk t):=(ZBW ha).mono λσ H Q h=>by obtain⟨a,S,G,hk,rfl,s,r,h⟩:=h;refine⟨a,S,G,hk,rfl,s,r,(Nv h).imp ?_⟩;rintro k _ ⟨b,G1,rfl,x,s1,_,h1⟩;exact h1 b (Ext.refl b) s1
theorem ZEd{op}(h:QE X E a ta):QE X E (.BoolOp op [a] pos) ta:=ZBy h
theorem ZEO(ha:QE X E a ta)(hb:QE X E (.BoolOp .And (b::rest) pos) tb):QE X E (.BoolOp .And (a::b::rest) pos) (Lp ta tb):=(ZGy ha hb).mono λσ H Q h=>by
 obtain⟨a,S,G,hk,rfl,s,r,h⟩:=h;refine⟨a,S,G,hk,rfl,s,r,(Dm h).imp ?_⟩;rintro v _ ⟨b,d,G1,rfl,x,s1,q,_,h1⟩;cases d with
 |bl k=>
  refine⟨k,q,?_⟩;cases k with
  |true=>exact⟨b,S,G1,x.k.trans hk,rfl,s1,r.mono x,h1⟩
  |false=>exact h1 b _ (Ext.refl b) s1 rfl
 |_=>exact h1.elim
theorem ZFl(ha:QE X E a ta):QE X E (.UnaryOp .Not a pos) (Li ta):=(ZBG ha).mono λσ H Q h=>by
 obtain⟨a,S,G,hk,rfl,s,r,h⟩:=h;refine⟨a,S,G,hk,rfl,s,r,(Dm h).imp ?_⟩;rintro v _ ⟨b,d,G1,rfl,x,s1,q,_,h1⟩;cases d with
 |bl k=>exact⟨k,q,h1 b _ (Ext.refl b) s1 rfl⟩
 |_=>exact h1.elim
theorem ZEY(hc:QT X E c t)(ha:QE X E a ta)(hb:QE X E b tb):QE X E (.IfExp c a b pos) (dIf t ta tb):=(ZA5 hc ha hb).mono λσ H Q h=>by
 obtain⟨a,S,G,hk,rfl,s,r,h⟩:=h;refine⟨a,S,G,hk,rfl,s,r,(Z2 h).imp ?_⟩;rintro k _ ⟨b,G1,rfl,x,s1,_,h1⟩;cases k with
 |true=>exact⟨b,S,G1,x.k.trans hk,rfl,s1,r.mono x,h1⟩
 |false=>exact⟨b,S,G1,x.k.trans hk,rfl,s1,r.mono x,h1⟩
variable{es:List j3}{tr:DA}
theorem ZDQ:QA X E [] Ab:=ZGP.mono λσ H Q h=>by obtain⟨a,S,G,hk,rfl,s,r,h⟩:=h;exact h a [] (Ext.refl a) s rfl
noncomputable def notStar:j3->Bool
 |.Starred _ _=>xA
 |_=>x0
theorem K6(a:j3)(es:List j3)(env:Env)(h:notStar a=x0):jP (a::es) env=(xA,eval a env)::jP es env:=by
 cases a<;>first
  |exact absurd h zw
  |rfl
theorem Mh(pos:Pos)(env:Env):∀es:List j3,es.all notStar=x0->(jD pos (jP es env)).any (·.1)=xA
 |[],_=>rfl
 |a::es,h=>by
  rw[qO,zC]at h;rw[K6 a es env h.1];have ih:=Mh pos env es h.2;unfold jD at ih⊢;rw[zK,qP,ih]
  rfl
theorem ZAj(ha:QE X E a ta)(hr:QA X E es tr)(hs:notStar a=x0:=by rfl):QA X E (a::es) (Aa ta tr):=(ZA0 ha hr (K6 a es X.env hs)).mono λσ H Q h=>by obtain⟨a,S,G,hk,rfl,s,r,h⟩:=h;refine⟨a,S,G,hk,rfl,s,r,(ZGc h).imp ?_⟩;rintro v _ ⟨b,d,G1,rfl,x,s1,q,_,h1⟩;refine⟨b,S,G1,x.k.trans hk,rfl,s1,r.mono x,(ZGO h1).imp ?_⟩;rintro vs _ ⟨c,ds,G2,rfl,y,s2,q2,_,h2⟩;exact h2 c _ (Ext.refl c) s2 (Reps.cons (q.mono y) q2)
theorem ZEa{x1}(h:QA X E es tr):QE X E (.Tuple es x1 pos) (dFn Al tr):=(Ov h).mono λσ H Q h=>by
 obtain⟨a,S,G,hk,rfl,s,r,h⟩:=h;refine⟨a,S,G,hk,rfl,s,r,(Jr h).imp ?_⟩;rintro vs _ ⟨b,ds,G1,rfl,x,s1,q,_,h1⟩;unfold Al at h1;split at h1
 ·rename_i hl;refine⟨by rw[<-q.length];exact zk hl size6,λp hp=>?_⟩;exact h1 (b.put p (.tup vs)) (.ref p) (Ext.put hp) (s1.put hp) ⟨p,vs,rfl,.of Cp,q.mono (Ext.put hp)⟩
 ·exact h1.elim
theorem ZAl(h:QA X E es tr):QE X E (.List es pos) (dFn Ae tr):=(ZDW h).mono λσ H Q h=>by
 obtain⟨a,S,G,hk,rfl,s,r,h⟩:=h;refine⟨a,S,G,hk,rfl,s,r,(Jr h).imp ?_⟩;rintro vs _ ⟨b,ds,G1,rfl,x,s1,q,_,h1⟩;unfold Ae at h1;split at h1
 ·rename_i hl;refine⟨by rw[<-q.length];exact zk hl size6,λp hp=>?_⟩;refine h1 (b.push p (.lst vs)) (.ref p) (Ext.push hp) (s1.push hp ⟨vs,rfl,q.mono (Ext.push hp)⟩) ⟨?_,?_⟩
  ·rw[s1.len];exact qY _
  ·rw[s1.len];show V.ref p=.ref (if b.n=b.n then p else b.m b.n);rw[if_pos rfl]
 ·exact h1.elim
variable{e:j3}{x:Str}{p:Pos}
theorem Ra{f:List D->DH->R D}(h:lE K E (dFn f tr) σ H Q):lA K E tr σ H (λvs H1=>lRn K E f vs H1 Q):=by obtain⟨a,S,G,hk,rfl,s,r,h⟩:=h;refine⟨a,S,G,hk,rfl,s,r,(Jr h).imp ?_⟩;rintro vs _ ⟨b,ds,G1,rfl,x,s1,q,_,h1⟩;exact⟨b,G1,ds,x.k.trans hk,rfl,s1,q,h1⟩
theorem ZEA{id:String}{f:List D->DH->R D}(hc:CallR X (.builtin id) (lRn X.K E f))(hg:Gl X x)(hm:X.mg x=xy)(hv:jF x=xk (.builtin id))(ha:QA X E (e::es) tr)(hn:x≠"__name__":=by decide)(hdb:(x==("__debug__":Str))=xA:=by decide)
  (he:notStar e=x0:=by rfl) (hpl:es.all notStar=x0:=by rfl):QE X E (.Call (.Name x p) (e::es) [] pos) (dFn f tr):=
 (ZF4 hc hg hm hv ha hn hdb (K6 e es X.env he) (Mh pos X.env es hpl)).mono λσ H Q h=>Ra h
theorem ZBo{id:String}{f:List D->DH->R D}(hc:CallR X (.type id) (lRn X.K E f))(hg:Gl X x)(hm:X.mg x=xy)(hv:jF x=xk (.type id))(ha:QA X E (e::es) tr)(hn:x≠"__name__":=by decide)(hdb:(x==("__debug__":Str))=xA:=by decide)
  (he:notStar e=x0:=by rfl) (hpl:es.all notStar=x0:=by rfl):QE X E (.Call (.Name x p) (e::es) [] pos) (dFn f tr):=
 (ZGb hc hg hm hv ha hn hdb (K6 e es X.env he) (Mh pos X.env es hpl)).mono λσ H Q h=>Ra h
theorem ZD0{CX:CXT}{f:j1}{fd:j4}{ps:List Str}{F:List D->DH->R D}(FF:FnOk X.prog X.w X.K X.mg X.base CX k f fd ps (lF X.K F))(hr:Room k X.A)(hg:Gl X x)(hm:X.mg x=xk (.ref f))(hk:PySem.W.keepIn X.K (.ref f)=x0)(hb:Binds X.K fd ps [])
  (hx:Passes CX X E0) (ha:QA X E0 (e::es) tr) (hdb:(x==("__debug__":Str))=xA:=by decide) (he:notStar e=x0:=by rfl) (hpl:es.all notStar=x0:=by rfl):
  QE X E0 (.Call (.Name x p) (e::es) [] pos) (dFn F tr):=
 (ZEB FF hr hg hm hk hb .nil hx ha hdb (K6 e es X.env he) (Mh pos X.env es hpl)).mono λσ H Q h=>by obtain⟨a,S,G,hk,rfl,s,r,h⟩:=Ra h;refine⟨a,S,G,hk,rfl,s,r,h.imp ?_⟩;rintro vs _ ⟨b,G1,ds,hk,rfl,s1,q,h1⟩;exact⟨b,G1,ds,hk,rfl,s1,by rw[qJ];exact q,h1⟩
theorem ZGQ(hr:IxR X (lR2 X.K E f))(ha:QE X E a ta)(hb:QE X E b tb)(hs:PlainIx b:=by intro _ _;rfl):QE X E (.Subscript a b pos) (dOp f ta tb):=
 (ZFk hr ha hb hs).mono λ_ _ _ h=>two h
end
noncomputable instance (i j:Int):Decidable (CMul i j):=by unfold CMul;infer_instance
noncomputable instance (i j:Int):Decidable (CPow i j):=by unfold CPow;infer_instance
def CDivL(j:Int):Prop:=0<j/\j.natAbs.log2<9000
noncomputable instance (j:Int):Decidable (CDivL j):=by unfold CDivL;infer_instance
def Ci:D->D->DH->R D
 |.int i,.int j,G=>.ok (.int (i-j)) G
 |_,_,_=>.bad
def Cu:D->D->DH->R D
 |.int i,.int j,G=>if CDivL j then .ok (.int (i/j)) G else .bad
 |_,_,_=>.bad
def Cj:D->D->DH->R D
 |.int i,.int j,G=>if 0<j then .ok (.int (i%j)) G else .bad
 |_,_,_=>.bad
def Gm:D->D->DH->R D
 |.int i,.int j,G=>if CPow i j then .ok (.int (i^j.toNat)) G else .bad
 |_,_,_=>.bad
def K1:D->D->DH->R D
 |.int i,.int j,G=>.ok (.bl (decide (i<j))) G
 |.str i,.str j,G=>.ok (.bl (decide (i.cps.toList<j.cps.toList))) G
 |_,_,_=>.bad
def Kz:D->D->DH->R D
 |.int i,.int j,G=>.ok (.bl (decide (i<=j))) G
 |.str i,.str j,G=>.ok (.bl (!decide (j.cps.toList<i.cps.toList))) G
 |_,_,_=>.bad
def Ef:D->D->DH->R D
 |.int i,.int j,G=>.ok (.bl (decide (j<i))) G
 |.str i,.str j,G=>.ok (.bl (decide (j.cps.toList<i.cps.toList))) G
 |_,_,_=>.bad
noncomputable def Di(d:D)(G:DH):Option (List D):=match d with
 |.fl xs=>xk xs
 |.ref i=>match G[i]? with
  |some (.lst xs)=>xk xs
  |_=>xy
 |_=>xy
def Af:D->D->DH->R D
 |.int i,.int j,G=>.ok (.int (i+j)) G
 |.str i,.str j,G=>if i.length+j.length<=1000000 then .ok (.str (i++j)) G else .bad
 |.tup xs,.tup ys,G=>if xs≠[]/\xs.length+ys.length<=1000000 then .ok (.tup (xs++ys)) G else .bad
 |d,e,G=>match Di d G,Di e G with
  |some xs,xk ys=>if xs.length+ys.length<=1000000 then .ok (.ref G.length) (G++[.lst (xs++ys)])else .bad
  |_,_=>.bad
section
variable{X:Cx}{E:XK}
theorem Dr{f:jA->jA->Sem jA}{r:R2}{F:D->D->DH->R D}(ho:OpR X f r)
  (h:∀(a:Wd)(G:DH)(d e:D)(x y:V)(Q:VK),a.K=X.K->Sim a G->Rep a d x->Rep a e y->out E a (F d e G) Q->r x y a.H Q):OpR X f (lR2 X.K E F):=
 ho.mono λx y H Q ⟨a,G,d,e,hk,hH,s,rd,re,q⟩=>by subst hH;exact h a G d e x y Q hk s rd re q
theorem ZAf:OpR X (jE .Sub) (lR2 X.K E Ci):=Dr ZBF λa G d e x y Q hk s rd re q=>by
 cases d<;>cases e<;>first
  |exact q.elim
  |exact⟨_,_,rd,re,q a _ (Ext.refl a) s rfl⟩
theorem ZBH:OpR X (jE .FloorDiv) (rI (λ_ j=>CDivL j) λi j=>.int (i/j)):=opI λi j _ _ _ _ _ hc q=>by have e:i.fdiv j=i/j:=Int.fdiv_eq_ediv_of_nonneg _ (Int.le_of_lt hc.1);refine floordiv_int (by have:=hc.1;lia) (by rw[e];exact q) (.inl (PyProof.noPylong_of_log2 hc.2))
theorem ZHJ:OpR X (jE .FloorDiv) (lR2 X.K E Cu):=Dr ZBH λa G d e x y Q hk s rd re q=>by
 cases d<;>cases e<;>first
  |exact q.elim
  | (
    rename_i i j;unfold Cu at q;dsimp only at q;split at q
    ·exact⟨_,_,rd,re,by assumption,q a _ (Ext.refl a) s rfl⟩
    ·exact q.elim)
theorem ZAZ:OpR X (jE .Mod) (lR2 X.K E Cj):=Dr ZEl λa G d e x y Q hk s rd re q=>by
 cases d<;>cases e<;>first
  |exact q.elim
  | (
    rename_i i j;unfold Cj at q;dsimp only at q;split at q
    ·exact⟨_,_,rd,re,by assumption,q a _ (Ext.refl a) s rfl⟩
    ·exact q.elim)
theorem ZCT:OpR X (jE .Pow) (lR2 X.K E Gm):=Dr ZCW λa G d e x y Q hk s rd re q=>by
 cases d<;>cases e<;>first
  |exact q.elim
  | (
    rename_i i j;unfold Gm at q;dsimp only at q;split at q
    ·exact⟨_,_,rd,re,by assumption,q a _ (Ext.refl a) s rfl⟩
    ·exact q.elim)
theorem o_lt:OpR X (jG .Lt) (lR2 X.K E K1):=Dr (ZBq.or ZEp) λa G d e x y Q hk s rd re q=>by
 cases d<;>cases e<;>first
  |exact q.elim
  |exact .inl ⟨_,_,rd,re,q a _ (Ext.refl a) s rfl⟩
  |exact .inr ⟨_,_,rd,re,q a _ (Ext.refl a) s rfl⟩
theorem ZBj:OpR X (jG .LtE) (λx y H Q=>∃i j,x=.str i/\y=.str j/\Q (.bl (!decide (j.cps.toList<i.cps.toList))) H):=by intro xw s σ H x y v u Q I rx ry h;obtain⟨i,j,rfl,rfl,q⟩:=h;obtain⟨t,rfl⟩:=rx;obtain⟨t',rfl⟩:=ry;exact PySem.P.le_str ⟨.bl _,H,I,rfl,q⟩
theorem ZC0:OpR X (jG .Gt) (λx y H Q=>∃i j,x=.str i/\y=.str j/\Q (.bl (decide (j.cps.toList<i.cps.toList))) H):=by intro xw s σ H x y v u Q I rx ry h;obtain⟨i,j,rfl,rfl,q⟩:=h;obtain⟨t,rfl⟩:=rx;obtain⟨t',rfl⟩:=ry;exact PySem.P.gt_str ⟨.bl _,H,I,rfl,q⟩
theorem o_le:OpR X (jG .LtE) (lR2 X.K E Kz):=Dr (ZA8.or ZBj) λa G d e x y Q hk s rd re q=>by
 cases d<;>cases e<;>first
  |exact q.elim
  |exact .inl ⟨_,_,rd,re,q a _ (Ext.refl a) s rfl⟩
  |exact .inr ⟨_,_,rd,re,q a _ (Ext.refl a) s rfl⟩
theorem o_gt:OpR X (jG .Gt) (lR2 X.K E Ef):=Dr (ZDP.or ZC0) λa G d e x y Q hk s rd re q=>by
 cases d<;>cases e<;>first
  |exact q.elim
  |exact .inl ⟨_,_,rd,re,q a _ (Ext.refl a) s rfl⟩
  |exact .inr ⟨_,_,rd,re,q a _ (Ext.refl a) s rfl⟩
theorem Sim.lst(s:Sim a G)(h:G[i]?=xk (.lst xs)):∃vs,a.H (a.m i)=xk (.lst vs)/\Reps a xs vs:=s.obj i _ h
theorem Iz(s:Sim a G)(r:Reps a ds vs)(h:out E a (.ok (.ref G.length) (G++[.lst ds])) Q)(p:j1)(hp:a.H p=xy):Q (.ref p) (upd a.H p (.lst vs)):=by
 refine h (a.push p (.lst vs)) (.ref p) (Ext.push hp) (s.push hp ⟨vs,rfl,r.mono (Ext.push hp)⟩) ⟨?_,?_⟩
 ·rw[s.len];exact qY _
 ·rw[s.len];show V.ref p=.ref (if a.n=a.n then p else a.m a.n);rw[if_pos rfl]
theorem Su(s:Sim a G)(r:Reps a ds vs)(h:out E a (.ok (.tup ds) G) Q)(p:j1)(hp:a.H p=xy):Q (.ref p) (upd a.H p (.tup vs)):=
 h (a.put p (.tup vs)) (.ref p) (Ext.put hp) (s.put hp) ⟨p,vs,rfl,.of Cp,r.mono (Ext.put hp)⟩
theorem Kp{x:V}(s:Sim a G)(r:Rep a d x)(h:Di d G=xk xs):∃p vs,x=.ref p/\SqL a.K a.H p vs/\Reps a xs vs:=by
 cases d with
 |fl ys=>
  have e:ys=xs:=Option.some.inj h;subst e;obtain⟨p,vs,e,q,rr⟩:=r;exact⟨p,vs,e,q.sq,rr⟩
 |ref i=>
  unfold Di at h;dsimp only at h;split at h
  ·rename_i ys hi;have e:ys=xs:=Option.some.inj h;subst e;obtain⟨vs,e1,r1⟩:=s.lst hi;exact⟨a.m i,vs,r.2,.of e1,r1⟩
  ·cases h
 |_=>cases h
def Yz(K:PySem.W.Frag):R2:=λx y H Q=>∃l b xs zs,x=.ref l/\y=.ref b/\SqL K H l xs/\SqL K H b zs/\xs.length+zs.length<=sizeLine/\∀p,H p=xy->Q (.ref p) (upd H p (.lst (xs++zs)))
theorem ZG0:OpR X (jE .Add) (Yz X.K):=by
 intro xw s σ H x y v u Q I rx ry h;obtain⟨l,b,xs,zs,rfl,rfl,hH,hB,hz,q⟩:=h;cases rx;cases ry;obtain⟨its,r,p1,_⟩:=I.list hH;obtain⟨its2,r2,p2,_⟩:=I.list hB;obtain⟨⟨cls,dd,data,sl⟩,n,ho,hc,_,hd⟩:=p1;obtain⟨⟨cls2,dd2,data2,sl2⟩,n2,ho2,hc2,_,hd2⟩:=p2;cases hc;cases hd;cases hc2;cases hd2;have hl:=r.length;have hl2:=r2.length;refine concat_meets ⟨_,ho,rfl⟩ ⟨_,ho2,rfl⟩ noFill_list_add seq_list_add PySem.F.slot_list_add PySem.F.entry_list_add (PySem.F.args_list_add_2 _ _) (list_addW l b its.toArray its2.toArray n n2 dd dd2 sl sl2 (by rw[zj,zj];lia)) ⟨ho,ho2,?_⟩
 have ea:its.toArray++its2.toArray=(its++its2).toArray:=by simp
 rw[ea];exact⟨.ref _,_,I.lnew (t':=s.toks) (r.append r2) (by rw[qy];lia),rfl,q _ I.fresh⟩
theorem Sd:OpR X (jE .Add) (lR2 X.K E Af):=Dr (ZED.or (ZBt.or (ZG0.or ZD6))) λa G d e x y Q hk s rd re q=>by
 have lst:out E a (match Di d G,Di e G with
  |some xs,xk ys=>if xs.length+ys.length<=1000000 then .ok (.ref G.length) (G++[.lst (xs++ys)])else .bad
  |_,_=>.bad) Q->Yz X.K x y a.H Q:=λq=>by
  split at q
  ·rename_i xs ys h1 h2;split at q
   ·rename_i hl;obtain⟨p,vs,e1,q1,r1⟩:=Kp s rd h1;obtain⟨p',vs',e2,q2,r2⟩:=Kp s re h2;rw[hk]at q1 q2;exact⟨p,p',vs,vs',e1,e2,q1,q2,by rw[<-r1.length,<-r2.length];exact zk hl size6,λp hp=>Iz s (r1.append r2) q p hp⟩
   ·exact q.elim
  ·exact q.elim
 have L:=λq=>Or.inr (a:=rI0 (λi j=>V.int (i+j)) x y a.H Q) (Or.inr (a:=∃i j,x=.str i/\y=.str j/\i.length+j.length<=sizeLine/\Q (.str (i++j)) a.H) (Or.inl (b:=Vr X.K x y a.H Q) (lst q)))
 cases d<;>cases e<;>first
  |exact .inl ⟨_,_,rd,re,q a _ (Ext.refl a) s rfl⟩
  |exact L q
  |skip
 ·rename_i i j;unfold Af at q;dsimp only at q;split at q
  ·rename_i hl;exact .inr (.inl ⟨_,_,rd,re,zk hl size6,q a _ (Ext.refl a) s rfl⟩)
  ·exact q.elim
 ·rename_i xs ys;unfold Af at q;dsimp only at q;split at q
  ·rename_i hl;obtain⟨p,vs,e1,h1,r1⟩:=rd;obtain⟨p',vs',e2,h2,r2⟩:=re;rw[hk]at h1 h2;refine .inr (.inr (.inr ⟨p,p',vs,vs',e1,e2,h1,h2,λz=>hl.1 (qx (by rw[r1.length,z];rfl)),by rw[<-r1.length,<-r2.length];exact zk hl.2 size6,λz=>?_,λ_ p0 hp=>?_⟩))
   ·refine q a (.ref p) (Ext.refl a) s ⟨p,vs,rfl,by rw[hk];exact h1,?_⟩;have e3:ys=[]:=qx (by rw[r2.length,z];rfl);rw[e3,qJ];exact r1
   ·exact Su s (r1.append r2) q p0 hp
  ·exact q.elim
inductive VD where
 |flat (v:V)
 |lst (xs:List D)
 |tup (xs:List D)
 |bad
def view(G:DH):D->VD
 |.non=>.flat .non
 |.bl b=>.flat (.bl b)
 |.int i=>.flat (.int i)
 |.str x=>.flat (.str x)
 |.ty _=>.bad
 |.tup xs=>.tup xs
 |.fl xs=>.lst xs
 |.ref i=>match G[i]? with
  |some (.lst xs)=>.lst xs
  |_=>.bad
noncomputable def eqZ(f:D->D->Option Bool):List D->List D->Option Bool
 |x::xs,y::ys=>match f x y,eqZ f xs ys with
  |some a,xk b=>xk (a&&b)
  |_,_=>xy
 |_,_=>xk x0
def eqD:Nat->DH->D->D->Option Bool
 |0=>λ_ _ _=>xy
 | n+1=>λG d e=>match view G d,view G e with
  |.flat a,.flat b=>xk (eqV a b)
  |.lst xs,.lst ys=>if xs.length=ys.length then eqZ (eqD n G) xs ys else xk xA
  |.tup xs,.tup ys=>match eqZ (eqD n G) xs ys with
   |some b=>xk (b&&xs.length==ys.length)
   |none=>xy
  |.bad,_=>xy
  |_,.bad=>xy
  |_,_=>xk xA
theorem Ks{f:D->D->Option Bool}:∀{xs ys:List D}{k:Bool},eqZ f xs ys=xk k->∃e:Nat->Bool,(∀(j:Nat)(x y:D),xs[j]?=xk x->ys[j]?=xk y->f x y=xk (e j))/\k=(qw (min xs.length ys.length)).all e
 | [],ys,k,h=>⟨λ_=>x0,λj x y e1 _=>by simp at e1,by
   have h':xk x0=xk k:=by cases ys<;>exact h
   cases h';simp⟩
 |x::xs,[],k,h=>⟨λ_=>x0,λj x y _ e1=>by simp at e1,by have h':xk x0=xk k:=h;cases h';simp⟩
 | x::xs,y::ys,k,h=>by
  unfold eqZ at h;split at h
  ·rename_i a b h1 h2;obtain⟨e,he,hk⟩:=Ks h2;have h':(a&&b)=k:=Option.some.inj h
   refine⟨λj=>match j with |0=>a|j+1=>e j,λj x' y' e1 e2=>?_,?_⟩
   ·cases j with
    |zero=>simp at e1 e2;subst e1;subst e2;exact h1
    |succ j=>exact he j x' y' (by simpa using e1) (by simpa using e2)
   ·rw[<-h',hk];have:min (x::xs).length (y::ys).length=min xs.length ys.length+1:=by simp only[qU];lia
    rw[this,jY,qO,List.all_map]
    rfl
  ·cases h
theorem Kl(s:Sim a G){x:V}(r:Rep a d x):match view G d with
  |.flat v=>x=v/\Bl v=x0
  |.lst xs=>∃p vs,x=.ref p/\SqL a.K a.H p vs/\Reps a xs vs
  |.tup xs=>∃p vs,x=.ref p/\SqT a.K a.H p vs/\Reps a xs vs
  |.bad=>True:=by
 cases d with
 |non=>exact⟨r,rfl⟩
 |bl b=>exact⟨r,rfl⟩
 |int b=>exact⟨r,rfl⟩
 |str b=>exact⟨r,rfl⟩
 |ty n=>trivial
 |tup xs=>
  obtain⟨p,vs,e,h,q⟩:=r;exact⟨p,vs,e,h,q⟩
 |fl xs=>
  obtain⟨p,vs,e,h,q⟩:=r;exact⟨p,vs,e,h.sq,q⟩
 | ref i=>
  unfold view;dsimp only;split
  ·rename_i v hv
   split at hv<;>cases hv
  ·rename_i xs hv;split at hv
   ·rename_i ys hi;cases hv;obtain⟨vs,e1,r1⟩:=s.lst hi;exact⟨a.m i,vs,r.2,.of e1,r1⟩
   ·cases hv
  ·rename_i xs hv
   split at hv<;>cases hv
  ·trivial
theorem ZBx{x:V}{u v:jA}(ry:RelV y u)(rx:RelV x v)(fy:Bl y=x0)(fx:Bl x=x0):SeqAt.RcAt A s u v (eqV y x):=by
 cases y with
 |non=>
  cases ry;cases x with
  |non=>cases rx;exact SeqAt.RcAt.none_none
  |bl b=>cases rx;exact SeqAt.RcAt.none_bool b
  |int b=>obtain⟨t,rfl⟩:=rx;exact SeqAt.RcAt.none_int b t
  |str b=>obtain⟨t,rfl⟩:=rx;exact SeqAt.RcAt.none_str b t
  |_=>exact absurd (show xA=x0 from fx) zw
 |bl a=>
  cases ry;cases x with
  |non=>cases rx;exact SeqAt.RcAt.bool_none a
  |bl b=>cases rx;exact SeqAt.RcAt.bool_bool a b
  |int b=>obtain⟨t,rfl⟩:=rx;exact SeqAt.RcAt.bool_int a b t
  |str b=>obtain⟨t,rfl⟩:=rx;exact SeqAt.RcAt.bool_str a b t
  |_=>exact absurd (show xA=x0 from fx) zw
 |int a=>
  obtain⟨t',rfl⟩:=ry;cases x with
  |non=>cases rx;exact SeqAt.RcAt.int_none a t'
  |bl b=>cases rx;exact SeqAt.RcAt.int_bool a t' b
  |int b=>obtain⟨t,rfl⟩:=rx;exact SeqAt.RcAt.int_int a t' b t
  |str b=>obtain⟨t,rfl⟩:=rx;exact SeqAt.RcAt.int_str a t' b t
  |_=>exact absurd (show xA=x0 from fx) zw
 |str a=>
  obtain⟨t',rfl⟩:=ry;cases x with
  |non=>cases rx;exact SeqAt.RcAt.str_none a t'
  |bl b=>cases rx;exact SeqAt.RcAt.str_bool a t' b
  |int b=>obtain⟨t,rfl⟩:=rx;exact SeqAt.RcAt.str_int a t' b t
  |str b=>obtain⟨t,rfl⟩:=rx;exact SeqAt.RcAt.str_str a t' b t
  |_=>exact absurd (show xA=x0 from fx) zw
 |_=>exact absurd (show xA=x0 from fy) zw
theorem ZGB{x:V}{u v:jA}(ry:RelV y u)(rx:RelV x v)(fy:Bl y=x0)(fx:Bl x=x0):SeqAt.RcNeAt A s u v (!eqV y x):=by
 cases y with
 |non=>
  cases ry;cases x with
  |non=>cases rx;exact SeqAt.RcNeAt.none_none
  |bl b=>cases rx;exact SeqAt.RcNeAt.none_bool b
  |int b=>obtain⟨t,rfl⟩:=rx;exact SeqAt.RcNeAt.none_int b t
  |str b=>obtain⟨t,rfl⟩:=rx;exact SeqAt.RcNeAt.none_str b t
  |_=>exact absurd (show xA=x0 from fx) zw
 |bl a=>
  cases ry;cases x with
  |non=>cases rx;exact SeqAt.RcNeAt.bool_none a
  |bl b=>cases rx;exact SeqAt.RcNeAt.bool_bool a b
  |int b=>obtain⟨t,rfl⟩:=rx;exact SeqAt.RcNeAt.bool_int a b t
  |str b=>obtain⟨t,rfl⟩:=rx;exact SeqAt.RcNeAt.bool_str a b t
  |_=>exact absurd (show xA=x0 from fx) zw
 |int a=>
  obtain⟨t',rfl⟩:=ry;cases x with
  |non=>cases rx;exact SeqAt.RcNeAt.int_none a t'
  |bl b=>cases rx;exact SeqAt.RcNeAt.int_bool a t' b
  |int b=>obtain⟨t,rfl⟩:=rx;exact SeqAt.RcNeAt.int_int a t' b t
  |str b=>obtain⟨t,rfl⟩:=rx;exact SeqAt.RcNeAt.int_str a t' b t
  |_=>exact absurd (show xA=x0 from fx) zw
 |str a=>
  obtain⟨t',rfl⟩:=ry;cases x with
  |non=>cases rx;exact SeqAt.RcNeAt.str_none a t'
  |bl b=>cases rx;exact SeqAt.RcNeAt.str_bool a t' b
  |int b=>obtain⟨t,rfl⟩:=rx;exact SeqAt.RcNeAt.str_int a t' b t
  |str b=>obtain⟨t,rfl⟩:=rx;exact SeqAt.RcNeAt.str_str a t' b t
  |_=>exact absurd (show xA=x0 from fx) zw
 |_=>exact absurd (show xA=x0 from fy) zw
end
section
variable{X:Cx}{E:XK}{xw:List (j1×Obj)}{σ:St}{s:j8}
theorem ZDr(v:V)(h:Bl v=x0):eqV v v=x0:=by cases v<;>first|rfl|exact absurd (show xA=x0 from h) zw|(simp[eqV])
theorem Ze(I:Inv X xw σ a.H s)(hk:a.K=X.K)(sm:Sim a G):∀(n:Nat){d e:D}{x:V}{k:Bool},Rep a d x->Rep a e x->eqD n G d e=xk k->k=x0
 |0,_,_,_,_,_,_,h=>by cases h
 | n+1,d,e,x,k,rd,re,h=>by
  have vd:=Kl sm rd;have ve:=Kl sm re;have items:∀{xs ys:List D}{vs:List V}{b:Bool},Reps a xs vs->Reps a ys vs->eqZ (eqD n G) xs ys=xk b->b=x0:=λ{xs ys vs b}r1 r2 hz=>by obtain⟨f,hf,hb⟩:=Ks hz;rw[hb,jv];intro j hj;have hj':j<min xs.length ys.length:=List.mem_range.mp hj;have h1:xs[j]?=xk (xs[j]'(by lia)):=zQ (by lia);have h2:ys[j]?=xk (ys[j]'(by lia)):=zQ (by lia);obtain⟨v1,e1,q1⟩:=r1.get h1;obtain⟨v2,e2,q2⟩:=r2.get h2;rw[e1]at e2;cases e2;exact Ze I hk sm n q1 q2 (hf j _ _ h1 h2)
  unfold eqD at h
  try dsimp only at h
  revert h vd ve
  cases view G d<;>cases view G e<;>intro vd ve h<;>dsimp only at h vd ve<;>first
   |cases h
   |skip
  ·
   rename_i v w;obtain⟨rfl,f1⟩:=vd;obtain⟨rfl,f2⟩:=ve;exact ZDr _ f1
  ·obtain⟨rfl,f1⟩:=vd;obtain⟨p,vs,e1,_⟩:=ve;subst e1;cases f1
  ·obtain⟨rfl,f1⟩:=vd;obtain⟨p,vs,e1,_⟩:=ve;subst e1;cases f1
  ·obtain⟨rfl,f1⟩:=ve;obtain⟨p,vs,e1,_⟩:=vd;subst e1;cases f1
  ·obtain⟨p,vs,e1,h1,r1⟩:=vd;obtain⟨p',vs',e2,h2,r2⟩:=ve;rw[e1]at e2;cases e2;rw[hk]at h1 h2;cases I.Pz h1 h2;split at h
   ·exact items r1 r2 h
   ·rename_i hl;exact absurd (r1.length.trans r2.length.symm) hl
  ·obtain⟨p,vs,e1,h1,r1⟩:=vd;obtain⟨p',vs',e2,h2,r2⟩:=ve;rw[e1]at e2;cases e2;rw[hk]at h1 h2;obtain⟨_,_,pl,_⟩:=I.list h1;obtain⟨_,_,pt,_⟩:=I.tuple h2;exact absurd rfl (SeqAt.ne_of_list_tuple pl.isList pt)
  ·obtain⟨rfl,f1⟩:=ve;obtain⟨p,vs,e1,_⟩:=vd;subst e1;cases f1
  ·obtain⟨p,vs,e1,h1,r1⟩:=vd;obtain⟨p',vs',e2,h2,r2⟩:=ve;rw[e1]at e2;cases e2;rw[hk]at h1 h2;obtain⟨_,_,pl,_⟩:=I.list h2;obtain⟨_,_,pt,_⟩:=I.tuple h1;exact absurd rfl (SeqAt.ne_of_list_tuple pl.isList pt)
  ·obtain⟨p,vs,e1,h1,r1⟩:=vd;obtain⟨p',vs',e2,h2,r2⟩:=ve;rw[e1]at e2;cases e2;rw[hk]at h1 h2;cases I.Qh h1 h2;split at h
   ·rename_i b hz;have h':(b&&_)=k:=Option.some.inj h;rw[<-h',items r1 r2 hz,r1.length,r2.length];simp
   ·cases h
theorem Ka{its:List jA}(r:Reps a xs vs)(q:Vals vs its)(h:j<its.toArray.size):∃d v,xs[j]?=xk d/\Rep a d v/\RelV v its.toArray[j]:=by
 have hl:j<its.length:=by simpa using h
 have h2:j<vs.length:=by rw[q.length];exact hl
 obtain⟨v,e1⟩:∃v,vs[j]?=xk v:=⟨vs[j],zQ h2⟩;obtain⟨d,e2,rd⟩:=r.get' e1;obtain⟨u,e3,ru⟩:=q.get e1;have e4:u=its.toArray[j]:=by have:its[j]?=xk its[j]:=zQ hl;rw[this]at e3;simpa using(Option.some.inj e3).symm
 exact⟨d,v,e2,rd,by rw[<-e4];exact ru⟩
theorem Ld(I:Inv X xw σ a.H s)(hk:a.K=X.K)(sm:Sim a G):∀(n:Nat){A:j2}{d e:D}{x y:V}{u w:jA}{k:Bool},A.units+n<cLine->Rep a d x->Rep a e y->RelV x u->RelV y w->eqD n G d e=xk k->
  SeqAt.EqAt A s u w k/\SeqAt.RcAt A s u w k/\SeqAt.RcNeAt A s u w (!k)
 |0,_,_,_,_,_,_,_,_,_,_,_,_,_,h=>by cases h
 | n + 1,A,d,e,x,y,u,w,k,hu,rd,re,ru,rw',h=>by
  have vd:=Kl sm rd;have ve:=Kl sm re;have hu1:A.units<cLine:=by lia
  have hu2:A.in1.units+n<cLine:=by show A.units+1+n<cLine;lia
  have same:∀{z:V},Rep a d z->Rep a e z->eqD (n+1) G d e=xk k->k=x0:=λr1 r2 r3=>Ze I hk sm (n+1) r1 r2 r3
  have h0:=h;unfold eqD at h
  try dsimp only at h
  have refs:∀{p q:j1}{k:Bool},(p=q->k=x0)->SeqAt.RcAt A s (.ref p) (.ref q) k->SeqAt.EqAt A s (.ref p) (.ref q) k:=λ{p q k}hs hr=>by
   by_cases e:p=q
   ·rw[hs e,e];exact SeqAt.EqAt.same _
   ·exact SeqAt.EqAt.of_refs e hr
  revert h vd ve
  cases hvd:view G d<;>cases hve:view G e<;>intro vd ve h<;>dsimp only at h vd ve<;>first
   |cases h
   |skip
  ·
   obtain⟨rfl,f1⟩:=vd;obtain⟨rfl,f2⟩:=ve;exact⟨Wn ru rw' f1 f2,ZBx ru rw' f1 f2,ZGB ru rw' f1 f2⟩
  ·
   obtain⟨rfl,f1⟩:=vd;obtain⟨q,vs,rfl,h2,r2⟩:=ve;cases rw';rw[hk]at h2;obtain⟨its,qv,pl,_⟩:=I.list h2;cases x with
   |non=>cases ru;exact⟨SeqAt.EqAt.none_list pl.isList hu1,SeqAt.RcAt.none_list pl.isList hu1,SeqAt.RcNeAt.none_list pl.isList hu1⟩
   |bl b=>cases ru;exact⟨SeqAt.EqAt.bool_list b pl.isList hu1,SeqAt.RcAt.bool_list b pl.isList hu1,SeqAt.RcNeAt.bool_list b pl.isList hu1⟩
   |int b=>obtain⟨t,rfl⟩:=ru;exact⟨SeqAt.EqAt.int_list b t pl.isList hu1,SeqAt.RcAt.int_list b t pl.isList hu1,SeqAt.RcNeAt.int_list b t pl.isList hu1⟩
   |str b=>obtain⟨t,rfl⟩:=ru;exact⟨SeqAt.EqAt.str_list b t pl.isList hu1,SeqAt.RcAt.str_list b t pl.isList hu1,SeqAt.RcNeAt.str_list b t pl.isList hu1⟩
   |_=>exact absurd (show xA=x0 from f1) zw
  ·
   obtain⟨rfl,f1⟩:=vd;obtain⟨q,vs,rfl,h2,r2⟩:=ve;cases rw';rw[hk]at h2;obtain⟨its,qv,pl,_⟩:=I.tuple h2;cases x with
   |non=>cases ru;exact⟨SeqAt.EqAt.none_tuple pl hu1,SeqAt.RcAt.none_tuple pl hu1,SeqAt.RcNeAt.none_tuple pl hu1⟩
   |bl b=>cases ru;exact⟨SeqAt.EqAt.bool_tuple b pl hu1,SeqAt.RcAt.bool_tuple b pl hu1,SeqAt.RcNeAt.bool_tuple b pl hu1⟩
   |int b=>obtain⟨t,rfl⟩:=ru;exact⟨SeqAt.EqAt.int_tuple b t pl hu1,SeqAt.RcAt.int_tuple b t pl hu1,SeqAt.RcNeAt.int_tuple b t pl hu1⟩
   |str b=>obtain⟨t,rfl⟩:=ru;exact⟨SeqAt.EqAt.str_tuple b t pl hu1,SeqAt.RcAt.str_tuple b t pl hu1,SeqAt.RcNeAt.str_tuple b t pl hu1⟩
   |_=>exact absurd (show xA=x0 from f1) zw
  ·
   obtain⟨rfl,f1⟩:=ve;obtain⟨q,vs,rfl,h2,r2⟩:=vd;cases ru;rw[hk]at h2;obtain⟨its,qv,pl,_⟩:=I.list h2;cases y with
   |non=>cases rw';exact⟨SeqAt.EqAt.list_none pl.isList hu1,SeqAt.RcAt.list_none pl.isList hu1,SeqAt.RcNeAt.list_none pl.isList hu1⟩
   |bl b=>cases rw';exact⟨SeqAt.EqAt.list_bool b pl.isList hu1,SeqAt.RcAt.list_bool b pl.isList hu1,SeqAt.RcNeAt.list_bool b pl.isList hu1⟩
   |int b=>obtain⟨t,rfl⟩:=rw';exact⟨SeqAt.EqAt.list_int b t pl.isList hu1,SeqAt.RcAt.list_int b t pl.isList hu1,SeqAt.RcNeAt.list_int b t pl.isList hu1⟩
   |str b=>obtain⟨t,rfl⟩:=rw';exact⟨SeqAt.EqAt.list_str b t pl.isList hu1,SeqAt.RcAt.list_str b t pl.isList hu1,SeqAt.RcNeAt.list_str b t pl.isList hu1⟩
   |_=>exact absurd (show xA=x0 from f1) zw
  ·
   obtain⟨p,vs,rfl,h1,r1⟩:=vd;obtain⟨q,vs',rfl,h2,r2⟩:=ve;cases ru;cases rw';rw[hk]at h1 h2;obtain⟨its,q1,p1,_⟩:=I.list h1;obtain⟨its',q2,p2,_⟩:=I.list h2;have sz1:its.toArray.size=vs.length:=by rw[zj];exact q1.length.symm
   have sz2:its'.toArray.size=vs'.length:=by rw[zj];exact q2.length.symm
   split at h
   ·rename_i hl;obtain⟨f,hf,hb⟩:=Ks h;have hsz:its.toArray.size=its'.toArray.size:=by rw[sz1,sz2,<-r1.length,<-r2.length];exact hl
    have he:∀j(g1:j<its.toArray.size)(g2:j<its'.toArray.size),SeqAt.EqAt A.in1 s its.toArray[j] its'.toArray[j] (f j):=λj g1 g2=>by obtain⟨d1,v1,e1,rd1,rv1⟩:=Ka r1 q1 g1;obtain⟨d2,v2,e2,rd2,rv2⟩:=Ka r2 q2 g2;exact(Ld I hk sm n hu2 rd1 rd2 rv1 rv2 (hf j d1 d2 e1 e2)).1
    have hk':k=(qw its.toArray.size).all f:=by
     rw[hb]
     congr 2
     rw[sz1,<-r1.length,hl];lia
    have rc:SeqAt.RcAt A s (.ref p) (.ref q) k:=by rw[hk'];exact SeqAt.RcAt.lists p1.isList p2.isList hsz hu1 he
    refine⟨refs (λe=>?_) rc,rc,by rw[hk'];exact SeqAt.RcNeAt.lists p1.isList p2.isList hsz hu1 he⟩;subst e;exact same rd re h0
   ·rename_i hl;have h':xA=k:=Option.some.inj h;subst h';have hsz:(its.toArray.size != its'.toArray.size)=x0:=by rw[bne_iff_ne,sz1,sz2,<-r1.length,<-r2.length];exact hl
    refine⟨refs (λe=>?_) (SeqAt.RcAt.lists_lengths p1.isList p2.isList hsz hu1),SeqAt.RcAt.lists_lengths p1.isList p2.isList hsz hu1,SeqAt.RcNeAt.lists_lengths p1.isList p2.isList hsz hu1⟩;subst e;exact same rd re h0
  ·
   obtain⟨p,vs,rfl,h1,r1⟩:=vd;obtain⟨q,vs',rfl,h2,r2⟩:=ve;cases ru;cases rw';rw[hk]at h1 h2;obtain⟨its,q1,p1,_⟩:=I.list h1;obtain⟨its',q2,p2,_⟩:=I.tuple h2;exact⟨SeqAt.EqAt.list_tuple p1.isList p2 hu1,SeqAt.RcAt.list_tuple p1.isList p2 hu1,SeqAt.RcNeAt.list_tuple p1.isList p2 hu1⟩
  ·
   obtain⟨rfl,f1⟩:=ve;obtain⟨q,vs,rfl,h2,r2⟩:=vd;cases ru;rw[hk]at h2;obtain⟨its,qv,pl,_⟩:=I.tuple h2;cases y with
   |non=>cases rw';exact⟨SeqAt.EqAt.tuple_none pl hu1,SeqAt.RcAt.tuple_none pl hu1,SeqAt.RcNeAt.tuple_none pl hu1⟩
   |bl b=>cases rw';exact⟨SeqAt.EqAt.tuple_bool b pl hu1,SeqAt.RcAt.tuple_bool b pl hu1,SeqAt.RcNeAt.tuple_bool b pl hu1⟩
   |int b=>obtain⟨t,rfl⟩:=rw';exact⟨SeqAt.EqAt.tuple_int b t pl hu1,SeqAt.RcAt.tuple_int b t pl hu1,SeqAt.RcNeAt.tuple_int b t pl hu1⟩
   |str b=>obtain⟨t,rfl⟩:=rw';exact⟨SeqAt.EqAt.tuple_str b t pl hu1,SeqAt.RcAt.tuple_str b t pl hu1,SeqAt.RcNeAt.tuple_str b t pl hu1⟩
   |_=>exact absurd (show xA=x0 from f1) zw
  ·
   obtain⟨p,vs,rfl,h1,r1⟩:=vd;obtain⟨q,vs',rfl,h2,r2⟩:=ve;cases ru;cases rw';rw[hk]at h1 h2;obtain⟨its,q1,p1,_⟩:=I.tuple h1;obtain⟨its',q2,p2,_⟩:=I.list h2;exact⟨SeqAt.EqAt.tuple_list p1 p2.isList hu1,SeqAt.RcAt.tuple_list p1 p2.isList hu1,SeqAt.RcNeAt.tuple_list p1 p2.isList hu1⟩
  ·
   rename_i xs ys;obtain⟨p,vs,rfl,h1,r1⟩:=vd;obtain⟨q,vs',rfl,h2,r2⟩:=ve;cases ru;cases rw';rw[hk]at h1 h2;obtain⟨its,q1,p1,_⟩:=I.tuple h1;obtain⟨its',q2,p2,_⟩:=I.tuple h2;have sz1:its.toArray.size=xs.length:=by rw[zj,r1.length];exact q1.length.symm
   have sz2:its'.toArray.size=ys.length:=by rw[zj,r2.length];exact q2.length.symm
   split at h
   ·rename_i b hz;have h':(b&&xs.length==ys.length)=k:=Option.some.inj h;obtain⟨f,hf,hb⟩:=Ks hz;have he:∀j(g1:j<its.toArray.size)(g2:j<its'.toArray.size),SeqAt.EqAt A.in1 s its.toArray[j] its'.toArray[j] (f j):=λj g1 g2=>by obtain⟨d1,v1,e1,rd1,rv1⟩:=Ka r1 q1 g1;obtain⟨d2,v2,e2,rd2,rv2⟩:=Ka r2 q2 g2;exact(Ld I hk sm n hu2 rd1 rd2 rv1 rv2 (hf j d1 d2 e1 e2)).1
    have hk':k=((qw (min its.toArray.size its'.toArray.size)).all f&&its.toArray.size==its'.toArray.size):=by rw[<-h',hb,sz1,sz2]
    have rc:SeqAt.RcAt A s (.ref p) (.ref q) k:=by rw[hk'];exact SeqAt.RcAt.tuples p1 p2 hu1 he
    refine⟨refs (λe=>?_) rc,rc,by rw[hk'];exact SeqAt.RcNeAt.tuples p1 p2 hu1 he⟩;subst e;exact same rd re h0
   ·cases h
def Az(d e:D)(G:DH):R D:=match eqD 30 G d e with
 |some k=>.ok (.bl k) G
 |none=>.bad
def Ed(d e:D)(G:DH):R D:=match eqD 30 G d e with
 |some k=>.ok (.bl (!k)) G
 |none=>.bad
theorem o_eq(hu:X.A.units+64<cLine):OpR X (jG .Eq) (lR2 X.K E Az):=by
 intro xw s σ H x y v u Q I rx ry ⟨a,G,d,e,hk,hH,sm,rd,re,q⟩;subst hH;unfold Az at q;split at q
 ·rename_i k hd;exact(Ld I hk sm 30 (by lia) rd re rx ry hd).2.1 _ _ _ _ ⟨.bl k,a.H,I,rfl,q a _ (Ext.refl a) sm rfl⟩
 ·exact q.elim
theorem o_ne(hu:X.A.units+64<cLine):OpR X (jG .NotEq) (lR2 X.K E Ed):=by
 intro xw s σ H x y v u Q I rx ry ⟨a,G,d,e,hk,hH,sm,rd,re,q⟩;subst hH;unfold Ed at q;split at q
 ·rename_i k hd;exact(Ld I hk sm 30 (by lia) rd re rx ry hd).2.2 _ _ _ _ ⟨.bl (!k),a.H,I,rfl,q a _ (Ext.refl a) sm rfl⟩
 ·exact q.elim
end
noncomputable abbrev DG:=D->DSt->DH->R DSt
variable{g:DG}
def Bq(E:XK)(a:Wd)(r:R DSt)(Q:St->Hp->Prop):Prop:=match r with
 |.ok S G=>∀(b:Wd)(σ:St),Ext a b->Sim b G->RepS b S σ->Q σ b.H
 |.err x G=>XOk E a x G
 |.bad=>False
def lG(K:PySem.W.Frag)(E:XK)(t:DG):TG:=λv σ H Q=>∃(a:Wd)(S:DSt)(G:DH)(d:D),a.K=K/\a.H=H/\Sim a G/\RepS a S σ/\Rep a d v/\Bq E a (t d S G) Q
def QG(X:Cx)(E:XK)(tg:j3)(t:DG):Prop:=PG X tg (lG X.K E t)
noncomputable abbrev DGs:=List D->DSt->DH->R DSt
def lGs(K:PySem.W.Frag)(E:XK)(t:DGs):TGs:=λvs σ H Q=>∃(a:Wd)(S:DSt)(G:DH)(ds:List D),a.K=K/\a.H=H/\Sim a G/\RepS a S σ/\Reps a ds vs/\Bq E a (t ds S G) Q
def QGs(X:Cx)(E:XK)(tg:List j3)(t:DGs):Prop:=PGs X tg (lGs X.K E t)
noncomputable def gV(i:Nat):DG:=λd S G=>.ok (S.set i (xk d)) G
noncomputable def Dn:DGs:=λds S G=>match ds with
 |[]=>.ok S G
 |_=>.bad
def Bg(t:DG)(u:DGs):DGs:=λds S G=>match ds with
 |d::r=>(t d S G).bind λS1 G1=>u r S1 G1
 |[]=>.bad
noncomputable def Cq(n:Nat)(t:DGs):DG:=λd S G=>match d with
 |.tup ds=>if ds.length=n then t ds S G else .bad
 |_=>.bad
theorem Bq.imp{r:R DSt}{Q Q':St->Hp->Prop}(h:Bq E a r Q)(w:∀v H,Q v H->Q' v H):Bq E a r Q':=by
 cases r with
 |ok d G=>exact λb v x s q=>w _ _ (h b v x s q)
 |err e G=>exact h
 |bad=>exact h
theorem Bq.mono(x:Ext a b){r:R DSt}{Q:St->Hp->Prop}(h:Bq E a r Q):Bq E b r Q:=by
 cases r with
 |ok d G=>exact λc v y s q=>h c v (x.trans y) s q
 |err e G=>exact XOk.mono (E:=E) (e:=e) (G:=G) x h
 |bad=>exact h
theorem ZCk{r:R DSt}{f:DSt->DH->R DSt}{Q:St->Hp->Prop}(h:Bq E a (r.bind f) Q):
  Bq E a r (λσ H=>∃(b:Wd)(S:DSt)(G:DH),b.H=H/\Ext a b/\Sim b G/\RepS b S σ/\r=.ok S G/\Bq E b (f S G) Q):=by
 cases r with
 |ok d G=>exact λb v x s q=>⟨b,d,G,rfl,x,s,q,rfl,Bq.mono x h⟩
 |err e G=>exact h
 |bad=>exact h
theorem Th{f:D->DH->R DSt}{Q:St->Hp->Prop}(h:Bq E a (r.bind f) Q):
  out E a r (λv H=>∃(b:Wd)(d:D)(G:DH),b.H=H/\Ext a b/\Sim b G/\Rep b d v/\r=.ok d G/\Bq E b (f d G) Q):=by
 cases r with
 |ok d G=>exact λb v x s q=>⟨b,d,G,rfl,x,s,q,rfl,Bq.mono x h⟩
 |err e G=>exact h
 |bad=>exact h
theorem Zu{r:R DSt}{f:DSt->DH->SR}(h:Bb E a (r.toS f) W):
  Bq E a r (λσ H=>∃(b:Wd)(S:DSt)(G:DH),b.H=H/\Ext a b/\Sim b G/\RepS b S σ/\r=.ok S G/\Bb E b (f S G) W):=by
 cases r with
 |ok d G=>exact λb v x s q=>⟨b,d,G,rfl,x,s,q,rfl,Bb.mono x h⟩
 |err e G=>exact h
 |bad=>exact h
section
variable{X:Cx}{E:XK}
theorem _root_._L.PG.mono{t t':TG}(h:PG X e t)(w:∀v σ H Q,t' v σ H Q->t v σ H Q):PG X e t':=λxw s σ H v u Q I r q=>h xw s σ H v u Q I r (w v σ H Q q)
theorem _root_._L.PGs.mono{e:List j3}{t t':TGs}(h:PGs X e t)(w:∀v σ H Q,t' v σ H Q->t v σ H Q):PGs X e t':=λxw s σ H v u Q I r q=>h xw s σ H v u Q I r (w v σ H Q q)
theorem ZFC(i:Nat){pos:Pos}(hN:X.N.Nodup)(hi:X.N[i]?=xk x:=by rfl)(hx:Loc X.env.scope x:=by first|exact Or.inl rfl|exact Or.inr rfl)
  (hf:X.fn x=x0∨X.env.scope.names.lookup x=xk .local:=by first|exact .inl rfl|exact .inr rfl|assumption):QG X E (.Name x pos) (gV i):=
 (ZGY hN hi hx hf).mono λv σ H Q h=>by obtain⟨a,S,G,d,hk,rfl,s,r,q,h⟩:=h;exact h a _ (Ext.refl a) s (r.set i q)
theorem ZCa:QGs X E [] Dn:=ZGZ.mono λvs σ H Q h=>by
 obtain⟨a,S,G,ds,hk,rfl,s,r,q,h⟩:=h;cases ds with
 |nil=>exact⟨q,h a σ (Ext.refl a) s r⟩
 |cons d ds=>exact h.elim
theorem ZE7{es:List j3}{t:DG}{u:DGs}(h1:QG X E e t)(h2:QGs X E es u)
  (hs:(jC (e::es) X.env).map (·.2)=assign e X.env::(jC es X.env).map (·.2):=by rfl):QGs X E (e::es) (Bg t u):=(ZAm h1 h2 hs).mono λvs σ H Q h=>by
 obtain⟨a,S,G,ds,hk,rfl,s,r,q,h⟩:=h;cases ds with
 |nil=>exact h.elim
 |cons d ds=>
  obtain⟨v,rest,e1,q1,q2⟩:=q;refine⟨v,rest,e1,a,S,G,d,hk,rfl,s,r,q1,(ZCk h).imp ?_⟩;rintro σ' _ ⟨b,S1,G1,rfl,x,s1,r1,_,h1⟩;exact⟨b,S1,G1,ds,x.k.trans hk,rfl,s1,r1,q2.mono x,h1⟩
theorem ZEf{es:List j3}{k:Nat}{t:DGs}{pos:Pos}(hc:X.calm=x0)(h:QGs X E es t)
  (hn:(jC es X.env).length=n:=by rfl) (hst:(jC es X.env).findIdx? (·.1)=xy:=by rfl):QG X E (.Tuple es k pos) (Cq n t):=(ZEV hc h hn hst).mono λv σ H Q h=>by
 obtain⟨a,S,G,d,hk,rfl,s,r,q,h⟩:=h;cases d with
 |tup ds=>
  obtain⟨p,vs,e,h1,r1⟩:=q;unfold Cq at h;dsimp only at h;split at h
  ·rename_i hl;exact⟨p,vs,e,by rw[<-hk];exact h1,by rw[<-r1.length];exact hl,a,S,G,ds,hk,rfl,s,r,r1,h⟩
  ·exact h.elim
 |_=>exact h.elim
def Ho(o i v:D)(G:DH):R D:=match o,i with
 | .ref p,.int k=>match G[p]? with
  |some (.lst xs)=>match ixN xs.length k with
   |some j=>.ok .non (G.set p (.lst (xs.set j v)))
   |none=>.bad
  |_=>.bad
 |_,_=>.bad
def gIx(to ti:DE):DG:=λv S G=>(to S G).bind λo G1=>(ti S G1).bind λi G2=>(Ho o i v G2).bind λ_ G3=>.ok S G3
theorem T8{vs':List V}{ds':List D}(s:Sim a G)(hi:i<a.n)(h:a.H (a.m i)=xk (.lst vs))(r:Reps a ds' vs'):
  Ext a (a.put (a.m i) (.lst vs'))/\Sim (a.put (a.m i) (.lst vs')) (G.set i (.lst ds')):=⟨Ext.wr h,s.wr hi h (r.mono (Ext.wr h))⟩
theorem ZEh{o i:j3}{to ti:DE}(ho:QE X E o to)(hi:QE X E i ti)
  (ha:∀v,assign (.Subscript o i pos) X.env v=(do
   let ov<-holding [v] (eval o X.env);let iv<-holding [v,ov] (eval i X.env)
   standAt pos
   holding [v,ov,iv] (setItem ov iv v)
   release [v,ov,iv] []):=by intro _;rfl):QG X E (.Subscript o i pos) (gIx to ti):=(ZAR ho hi set_list ha).mono λv σ H Q h=>by
 obtain⟨a,S,G,d,hk,rfl,s,r,q,h⟩:=h;refine⟨a,S,G,hk,rfl,s,r,(Th h).imp ?_⟩;rintro ov _ ⟨b,e,G1,rfl,x,s1,q1,_,h1⟩;refine⟨b,S,G1,x.k.trans hk,rfl,s1,r.mono x,(Th h1).imp ?_⟩;rintro iv _ ⟨c,f,G2,rfl,y,s2,q2,_,h2⟩;cases e with
 | ref p=>
  cases f with
  | int k=>
   unfold Ho at h2;dsimp only at h2;split at h2
   ·rename_i xs hx;split at h2
    ·rename_i j hj;obtain⟨vs,e1,r1⟩:=s2.lst hx;have q1':=q1.mono y;have rv:=(q.mono x).mono y;obtain⟨x3,s3⟩:=T8 s2 q1'.1 e1 (r1.set rv j);refine⟨c.m p,vs,k,j,q1'.2,q2,e1,by rw[<-r1.length];exact hj,?_⟩;exact h2 _ σ x3 s3 (((r.mono x).mono y).mono x3)
    ·exact h2.elim
   ·exact h2.elim
  |_=>exact h2.elim
 |_=>exact h2.elim
variable{st:j9}{rest:List j9}{t u:DS}{e:j3}{te:DE}{pos:Pos}
noncomputable def sNx:DS:=λS G=>.nx S G
noncomputable def Ad(t u:DS):DS:=λS G=>match t S G with
 |.nx S1 G1=>u S1 G1
 |r=>r
def sEx(te:DE):DS:=λS G=>(te S G).toS λ_ G1=>.nx S G1
def sRt(te:DE):DS:=λS G=>(te S G).toS λd G1=>.rt d G1
def sIf(c:DB)(t u:DS):DS:=λS G=>(c S G).toS λk G1=>if k=x0 then t S G1 else u S G1
def sAs(te:DE)(g:DG):DS:=λS G=>(te S G).toS λd G1=>(g d S G1).toS λS2 G2=>.nx S2 G2
def sAu(i:Nat)(te:DE)(f:D->D->DH->R D):DS:=λS G=>match S[i]? with
 |some (xk x)=>(te S G).toS λy G1=>(f x y G1).toS λz G2=>.nx (S.set i (xk z)) G2
 |_=>.bad
theorem Ny:QSs X E [] sNx:=ZHQ.mono λW σ H h=>by obtain⟨a,S,G,hk,rfl,s,r,h⟩:=h;exact h a σ (Ext.refl a) s r
theorem Bb.nxOf{t:DS}(hk:a.K=K)(h:Bb E a (Ad t u S G) W):Bb E a (t S G) {W with nx:=lS K E u W}:=by
 unfold Ad at h
 revert h
 cases t S G<;>intro h
 ·exact λb σ x s r=>⟨b,_,_,x.k.trans hk,rfl,s,r,Bb.mono x h⟩
 all_goals exact h
theorem Ce(h1:QS X E st t)(h2:QSs X E rest u):QSs X E (st::rest) (Ad t u):=(ZFa h1 h2).mono λW σ H h=>by obtain⟨a,S,G,hk,rfl,s,r,h⟩:=h;exact⟨a,S,G,hk,rfl,s,r,h.nxOf hk⟩
theorem J8(h1:QS X E st t):QSs X E [st] t:=ZA2 h1
theorem ZCI(he:QE X E e te)(hs:swapsWith e xy pos.line X.env=pure xA:=by rfl):QS X E (.Expr e pos) (sEx te):=(ZG1 he hs).mono λW σ H h=>by obtain⟨a,S,G,hk,rfl,s,r,h⟩:=h;refine⟨a,S,G,hk,rfl,s,r,(Gs h).imp ?_⟩;rintro v _ ⟨b,d,G1,rfl,x,s1,q,_,h1⟩;exact h1 b σ (Ext.refl b) s1 (r.mono x)
theorem ZF1(he:QE X E e te):QS X E (.Return (xk e) pos) (sRt te):=(ZA9 he).mono λW σ H h=>by obtain⟨a,S,G,hk,rfl,s,r,h⟩:=h;refine⟨a,S,G,hk,rfl,s,r,(Gs h).imp ?_⟩;rintro v _ ⟨b,d,G1,rfl,x,s1,q,_,h1⟩;exact h1 b v (Ext.refl b) s1 q
theorem Mz{c:j3}{tc:DB}{a b:List j9}(hc:QT X E c tc)(ha:QSs X E a t)(hb:QSs X E b u):QS X E (.If c a b pos) (sIf tc t u):=(ZFF hc ha hb).mono λW σ H h=>by
 obtain⟨a,S,G,hk,rfl,s,r,h⟩:=h;refine⟨a,S,G,hk,rfl,s,r,(ZFQ h).imp ?_⟩;rintro k _ ⟨b,G1,rfl,x,s1,_,h1⟩;cases k with
 |true=>exact⟨b,S,G1,x.k.trans hk,rfl,s1,r.mono x,h1⟩
 |false=>exact⟨b,S,G1,x.k.trans hk,rfl,s1,r.mono x,h1⟩
theorem ZBc(h:lS K E (sAs te g) W σ H):Pg (lE K E te) (lG K E g) W σ H:=by obtain⟨a,S,G,hk,rfl,s,r,h⟩:=h;refine⟨a,S,G,hk,rfl,s,r,(Gs h).imp ?_⟩;rintro v _ ⟨b,d,G1,rfl,x,s1,q,_,h1⟩;refine⟨b,S,G1,d,x.k.trans hk,rfl,s1,r.mono x,q,(Zu h1).imp ?_⟩;rintro σ' _ ⟨c,S2,G2,rfl,y,s2,r2,_,h2⟩;exact h2 c σ' (Ext.refl c) s2 r2
theorem Tf(he:QE X E e te)(hg:QG X E tg g)(hs:swapsWithSole [tg] e pos.line X.env=pure xA:=by rfl)(hw:swappedStores [tg] e X.env=pure xy:=by rfl)
  (h1:(jC [tg] X.env).map (·.2)=[assign tg X.env]:=by rfl):QS X E (.Assign [tg] e pos) (sAs te g):=(ZAo he hg hs hw h1).mono λ_ _ _ h=>ZBc h
theorem Sx(i:Nat){pos':Pos}(hN:X.N.Nodup)(he:QE X E e te)(hi:X.N[i]?=xk x:=by rfl)(hx:Loc X.env.scope x:=by first|exact Or.inl rfl|exact Or.inr rfl)(hs:swapsWith e (xk (.Name x pos')) pos.line X.env=pure xA:=by rfl)
  (hf:X.fn x=x0∨X.env.scope.names.lookup x=xk .local:=by first|exact .inl rfl|exact .inr rfl|assumption):QS X E (.Assign [.Name x pos'] e pos) (sAs te (gV i)):=
 (ZG5 hN hi hx he hs hf).mono λW σ H h=>by obtain⟨a,S,G,hk,rfl,s,r,h⟩:=h;refine⟨a,S,G,hk,rfl,s,r,(Gs h).imp ?_⟩;rintro v _ ⟨b,d,G1,rfl,x,s1,q,_,h1⟩;exact h1 b _ (Ext.refl b) s1 ((r.mono x).set i q)
theorem ZFv(i:Nat){op:Operator}{pos':Pos}(hN:X.N.Nodup)(he:QE X E e te)(ho:OpR X (inplaceOp op) (lR2 X.K E f))(hi:X.N[i]?=xk x:=by rfl)(hx:Loc X.env.scope x:=by first|exact Or.inl rfl|exact Or.inr rfl)
  (hf:X.fn x=x0∨X.env.scope.names.lookup x=xk .local:=by first|exact .inl rfl|exact .inr rfl|assumption):QS X E (.AugAssign (.Name x pos') op e pos) (sAu i te f):=
 (ZCG (ti:=lR2 X.K E f) hN hi hx he ho hf).mono λW σ H h=>by
  obtain⟨a,S,G,hk,rfl,s,r,h⟩:=h;unfold sAu at h;split at h
  ·rename_i d hd;obtain⟨v,e1,q⟩:=r.get i d hd;refine⟨v,e1,a,S,G,hk,rfl,s,r,(Gs h).imp ?_⟩;rintro w _ ⟨b,d1,G1,rfl,x,s1,q1,_,h1⟩;refine⟨b,G1,d,d1,x.k.trans hk,rfl,s1,q.mono x,q1,(Gs h1).imp ?_⟩;rintro z _ ⟨c,d2,G2,rfl,y,s2,q2,_,h2⟩;exact h2 c _ (Ext.refl c) s2 (((r.mono x).mono y).set i q2)
  ·exact h.elim
def K4:D->D->DH->R D
 |.int i,.int j,G=>.ok (.int (i+j)) G
 |.str i,.str j,G=>if i.length+j.length<=1000000 then .ok (.str (i++j)) G else .bad
 |_,_,_=>.bad
theorem ZGV:OpR X (inplaceOp .Add) (lR2 X.K E K4):=Dr (OpR.or (r:=ipI λi j=>i+j) ZEj ZAt) λa G d e x y Q hk s rd re q=>by
 cases d<;>cases e<;>first
  |exact q.elim
  |exact .inl ⟨_,_,rd,re,q a _ (Ext.refl a) s rfl⟩
  | (
    unfold K4 at q;dsimp only at q;split at q
    ·rename_i hl;exact .inr ⟨_,_,rd,re,zk hl size6,q a _ (Ext.refl a) s rfl⟩
    ·exact q.elim)
theorem ZBr:OpR X (inplaceOp .Sub) (lR2 X.K E Ci):=Dr (r:=ipI λi j=>i-j) ZGF λa G d e x y Q hk s rd re q=>by
 cases d<;>cases e<;>first
  |exact q.elim
  |exact⟨_,_,rd,re,q a _ (Ext.refl a) s rfl⟩
end
noncomputable def aft(r:SR)(k:DSt->DH->SR):SR:=match r with
 |.nx S G=>k S G
 |.ct S G=>k S G
 |.bk S G=>.nx S G
 |r=>r
def Aq(g:DG)(b:DS):List D->DS
 |[],S,G=>.nx S G
 |x::xs,S,G=>(g x S G).toS λS1 G1=>aft (b S1 G1) (Aq g b xs)
def forM(i:Nat)(g:DG)(b:DS):Nat->Nat->DS
 |0,j,S,G=>match G[i]? with
  |some (.lst xs)=>if xs.length<=j then .nx S G else .bad
  |_=>.bad
 | k+1,j,S,G=>match G[i]? with
  |some (.lst xs)=>match xs[j]? with
   |some x=>(g x S G).toS λS1 G1=>aft (b S1 G1) (forM i g b k (j+1))
   |none=>.nx S G
  |_=>.bad
def Bv(f:Nat->DH->Option (Option D))(g:DG)(b:DS):Nat->Nat->DS
 |0,j,S,G=>match f j G with
  |some xy=>.nx S G
  |_=>.bad
 |k+1,j,S,G=>match f j G with
  |some (xk x)=>(g x S G).toS λS1 G1=>aft (b S1 G1) (Bv f g b k (j+1))
  |some xy=>.nx S G
  |none=>.bad
inductive ItD where
 |pure (xs:List D)
 |mt (i:Nat)
 |fn (n:Nat) (f:Nat->DH->Option (Option D))
noncomputable abbrev DI:=DSt->DH->R ItD
def Bt(it:DI)(g:DG)(b:DS):DS:=λS G=>(it S G).toS λJ G1=>match J with
 |.pure xs=>Aq g b xs S G1
 |.mt i=>match G1[i]? with
  |some (.lst xs)=>forM i g b xs.length 0 S G1
  |_=>.bad
 |.fn n f=>Bv f g b n 0 S G1
def RepI(a:Wd):ItD->It->Prop
 |.pure xs,J=>∃vs:List V,Reps a xs vs/\∀b:Wd,Ext a b->∀i,(∀v,vs[i]?=xk v->J.go i b.H/\∀x H',J.yld i b.H x H'->x=v/\H'=b.H)/\(vs.length<=i->J.stop i b.H)
 |.mt k,J=>k<a.n/\∀b:Wd,Ext a b->∀vs,b.H (b.m k)=xk (.lst vs)->∀i,(∀v,vs[i]?=xk v->J.go i b.H/\∀x H',J.yld i b.H x H'->x=v/\H'=b.H)/\(vs.length<=i->J.stop i b.H)
 |.fn _ f,J=>∀b:Wd,Ext a b->∀G,Sim b G->∀i,(∀d,f i G=xk (xk d)->J.go i b.H/\∀x H',J.yld i b.H x H'->∃c:Wd,c.H=H'/\Ext b c/\Sim c G/\Rep c d x)/\(f i G=xk xy->J.stop i b.H)
def outI(E:XK)(a:Wd)(r:R ItD)(Q:It->Hp->Prop):Prop:=match r with
 |.ok J G=>∀(b:Wd)(JJ:It),Ext a b->Sim b G->RepI b J JJ->Q JJ b.H
 |.err x G=>XOk E a x G
 |.bad=>False
def lI(K:PySem.W.Frag)(E:XK)(t:DI):TI:=λσ H Q=>∃(a:Wd)(S:DSt)(G:DH),a.K=K/\a.H=H/\Sim a G/\RepS a S σ/\outI E a (t S G) Q
def QI(X:Cx)(E:XK)(tg iter:j3)(t:DI):Prop:=PI X tg iter (lI X.K E t)
theorem outI.imp{r:R ItD}{Q Q':It->Hp->Prop}(h:outI E a r Q)(w:∀v H,Q v H->Q' v H):outI E a r Q':=by
 cases r with
 |ok d G=>exact λb v x s q=>w _ _ (h b v x s q)
 |err e G=>exact h
 |bad=>exact h
theorem ZE6{r:R ItD}{f:ItD->DH->SR}(h:Bb E a (r.toS f) W):
  outI E a r (λJ H=>∃(b:Wd)(d:ItD)(G:DH),b.H=H/\Ext a b/\Sim b G/\RepI b d J/\r=.ok d G/\Bb E b (f d G) W):=by
 cases r with
 |ok d G=>exact λb v x s q=>⟨b,d,G,rfl,x,s,q,rfl,Bb.mono x h⟩
 |err e G=>exact h
 |bad=>exact h
theorem ZFG {r:SR} {k:DSt->DH->SR} (h:Bb E a (aft r k) W):
  Bb E a r {W with
            nx:=λσ H=>∃(b:Wd)(S:DSt)(G:DH),b.H=H/\Ext a b/\Sim b G/\RepS b S σ/\Bb E b (k S G) W,
            ct:=λσ H=>∃(b:Wd)(S:DSt)(G:DH),b.H=H/\Ext a b/\Sim b G/\RepS b S σ/\Bb E b (k S G) W,bk:=W.nx}:=by
 cases r with
 |nx S G=>exact λb σ x s q=>⟨b,S,G,rfl,x,s,q,Bb.mono x h⟩
 |ct S G=>exact λb σ x s q=>⟨b,S,G,rfl,x,s,q,Bb.mono x h⟩
 |bk S G=>exact h
 |rt d G=>exact h
 |err x G=>exact h
 |bad=>exact h
noncomputable def mtF(i j:Nat)(G:DH):Option (Option D):=match G[i]? with
 |some (.lst xs)=>xk xs[j]?
 |_=>xy
theorem Z0{J:It}(r:RepI a (.pure xs) J):RepI a (.fn n λj _=>xk xs[j]?) J:=by
 obtain⟨vs,rv,h⟩:=r;refine λb x G sm i=>⟨λd e=>?_,λe=>?_⟩
 ·obtain⟨v,ev,q⟩:=rv.get (Option.some.inj e);obtain⟨h1,h2⟩:=(h b x i).1 v ev;refine⟨h1,λy H' hy=>?_⟩;obtain⟨rfl,rfl⟩:=h2 y H' hy;exact⟨b,rfl,Ext.refl b,sm,q.mono x⟩
 ·exact(h b x i).2 (by rw[<-rv.length];exact qG.mp (Option.some.inj e))
theorem Xd{J:It}(r:RepI a (.mt k) J):RepI a (.fn n (mtF k)) J:=by
 obtain⟨hk,h⟩:=r;refine λb x G sm i=>?_
 unfold mtF;cases hG:G[k]? with
 |none=>exact⟨λd e=>(by cases e),λe=>(by cases e)⟩
 | some o=>
  cases o with
  |lst xs=>
   obtain⟨vs,e1,rv⟩:=sm.lst hG;refine⟨λd e=>?_,λe=>?_⟩
   ·obtain⟨v,ev,q⟩:=rv.get (Option.some.inj e);obtain⟨h1,h2⟩:=(h b x vs e1 i).1 v ev;refine⟨h1,λy H' hy=>?_⟩;obtain⟨rfl,rfl⟩:=h2 y H' hy;exact⟨b,rfl,Ext.refl b,sm,q⟩
   ·exact(h b x vs e1 i).2 (by rw[<-rv.length];exact qG.mp (Option.some.inj e))
  |_=>exact⟨λd e=>(by cases e),λe=>(by cases e)⟩
theorem We{b:DS}:∀(n j:Nat),j+n=xs.length->Aq g b (xs.drop j)=Bv (λj _=>xk xs[j]?) g b n j
 |0,j,h=>by
  funext S G;rw[qj (by lia)]
  show SR.nx S G=(match xk xs[j]? with |some xy=>SR.nx S G|_=>.bad)
  rw[zM (by lia)]
 |n+1,j,h=>by
  funext S G;have hj:j<xs.length:=by lia
  rw[zH hj]
  show(g xs[j] S G).toS (λS1 G1=>aft (b S1 G1) (Aq g b (xs.drop (j+1))))=(match xk xs[j]? with |some (xk x)=>(g x S G).toS (λS1 G1=>aft (b S1 G1) (Bv (λj _=>xk xs[j]?) g b n (j+1)))|some xy=>SR.nx S G|none=>.bad)
  rw[zQ hj,We n (j+1) (by lia)]
theorem Yr{b:DS}:∀(n j:Nat),forM i g b n j=Bv (mtF i) g b n j
 | 0,j=>by
  funext S G;unfold forM Bv mtF;cases G[i]? with
  |none=>rfl
  | some o=>
   cases o with
   |lst xs=>
    dsimp only;by_cases hj:j<xs.length
    ·rw[if_neg (by lia),zQ hj]
    ·rw[if_pos (by lia),zM (by lia)]
   |_=>rfl
 | n+1,j=>by
  funext S G;unfold forM Bv;rw[Yr n (j+1)];unfold mtF;cases G[i]? with
  |none=>rfl
  | some o=>
   cases o with
   |lst xs=>
    dsimp only
    cases xs[j]?<;>rfl
   |_=>rfl
section
variable{X:Cx}{E:XK}{tg iter:j3}{pos:Pos}
theorem ZDq{it:DI}{b:DS}(h:lS K E (Bt it g b) W σ H):tFor (lI K E it) (lG K E g) (lS K E b) W σ H:=by
 obtain⟨a,S,G,hk,rfl,s,r,h⟩:=h;refine⟨a,S,G,hk,rfl,s,r,(ZE6 h).imp ?_⟩;rintro J _ ⟨a1,d,G1,rfl,x1,s1,q1,_,h1⟩;have k1:a1.K=K:=x1.k.trans hk
 suffices fnc:∃n f,RepI a1 (.fn n f) J/\Bb E a1 (Bv f g b n 0 S G1) W by
  obtain⟨n,f,q1,h1⟩:=fnc;have walk:∀b:Wd,Ext a1 b->∀G,Sim b G->∀i,(∀d,f i G=xk (xk d)->J.go i b.H/\∀x H',J.yld i b.H x H'->∃c:Wd,c.H=H'/\Ext b c/\Sim c G/\Rep c d x)/\(f i G=xk xy->J.stop i b.H):=q1;refine⟨λi m σ H=>∃(c:Wd)(S:DSt)(G:DH),c.H=H/\Ext a1 c/\Sim c G/\RepS c S σ/\Bb E c (Bv f g b m i S G) W,⟨_,a1,S,G1,rfl,Ext.refl _,s1,r.mono x1,h1⟩,?_⟩;rintro i m σ2 _ ⟨c,S2,G2,rfl,x2,s2,r2,h2⟩
  cases m with
  |zero=>
   unfold Bv at h2;split at h2
   ·rename_i hf;exact .inl ⟨(walk c x2 G2 s2 i).2 hf,h2 c σ2 (Ext.refl c) s2 r2⟩
   ·exact h2.elim
  | succ m=>
   unfold Bv at h2;split at h2
   ·rename_i d hf;obtain⟨go,yl⟩:=(walk c x2 G2 s2 i).1 d hf;refine .inr ⟨go,λσ' H'=>∃(c:Wd)(S:DSt)(G:DH),c.H=H'/\Ext a1 c/\Sim c G/\RepS c S σ'/\Bb E c (Bv f g b m (i+1) S G) W,λσ' H' z=>⟨m,qY _,z⟩,λw H' y=>?_⟩;obtain⟨cc,rfl,xx,ss,rd⟩:=yl w H' y;refine⟨cc,S2,G2,d,xx.k.trans (x2.k.trans k1),rfl,ss,r2.mono xx,rd,(Zu (Bb.mono xx h2)).imp ?_⟩;rintro σ3 _ ⟨c3,S3,G3,rfl,x3,s3,r3,_,h3⟩
    have fin:=ZFG h3;refine⟨c3,S3,G3,x3.k.trans (xx.k.trans (x2.k.trans k1)),rfl,s3,r3,?_⟩
    revert fin
    cases b S3 G3 with
    | nx S4 G4=>
      intro fin c4 σ4 x4 s4 q4;obtain⟨c5,S5,G5,hh,x5,s5,r5,h5⟩:=fin c4 σ4 x4 s4 q4;exact⟨c5,S5,G5,hh,x2.trans (xx.trans (x3.trans x5)),s5,r5,h5⟩
    | ct S4 G4=>
      intro fin c4 σ4 x4 s4 q4;obtain⟨c5,S5,G5,hh,x5,s5,r5,h5⟩:=fin c4 σ4 x4 s4 q4;exact⟨c5,S5,G5,hh,x2.trans (xx.trans (x3.trans x5)),s5,r5,h5⟩
    |bk S4 G4=>exact λfin=>fin
    |rt S4 G4=>exact λfin=>fin
    |err S4 G4=>exact λfin=>fin
    |bad=>exact λfin=>fin
   ·rename_i hf;exact .inl ⟨(walk c x2 G2 s2 i).2 hf,h2 c σ2 (Ext.refl c) s2 r2⟩
   ·exact h2.elim
 cases d with
 |pure xs=>
  have h1':Bb E a1 (Aq g b (xs.drop 0) S G1) W:=h1;rw[We xs.length 0 (by lia)]at h1';exact⟨_,_,Z0 q1,h1'⟩
 |mt k=>
  dsimp only at h1;split at h1
  ·rw[Yr]at h1;exact⟨_,_,Xd q1,h1⟩
  ·exact h1.elim
 |fn n f=>exact⟨n,f,q1,h1⟩
theorem Ij{body:List j9}{it:DI}{b:DS}(hp:PassesOwn (jM X.prog X.w) X.A X.env X.xe)(hc:X.calm=x0)(hi:QI X E tg iter it)(hg:QG X E tg g)(hb:QSs X E body b)
  (hs:∀x,foldedSetIterable iter X.env x=pure x:=by intro _;rfl):QS X E (.For tg iter body [] pos) (Bt it g b):=(ZGU hp hc hi hg hb hs).mono λ_ _ _ h=>ZDq h
theorem _root_._L.PI.mono{t t':TI}(h:PI X tg iter t)(w:∀σ H Q,t' σ H Q->t σ H Q):PI X tg iter t':=λxw s σ H Q I q=>h xw s σ H Q I (w σ H Q q)
noncomputable def sgn(c:Nat):D:=.str ⟨#[c]⟩
def signs(x:Str):List D:=x.cps.toList.map sgn
noncomputable def Its(x:Str):It:=⟨λi _=>i<x.cps.size,λi H v H'=>H'=H/\∃c,x.cps[i]?=xk c/\v=.str ⟨#[c]⟩,λi _=>x.cps.size<=i⟩
theorem ZAy(it:j1)(x:Str)(t:Tok):Turn P w K tg (Its x) [it] it (λi h=>h.IsStrIter it "str_ascii_iterator" x t i) where
 mem:=by simp
 obj:=λi h st b hb=>by
  have e:b=it:=by simpa using hb
  subst e;obtain⟨o,e,c,d⟩:=st;exact⟨o,e,λv z=>by rw[d]at z;cases z⟩
 keep:=λi h h' st k=>let⟨o,ho,r⟩:=st;⟨o,k it (by simp) o ho,r⟩
 item:=by
  intro X hP hw hK hc i xw s σ H E I hf st hg;subst hP hw hK;obtain⟨f0,f1,f2,f3,f4,f5⟩:=hf it (by simp);have hi:i<x.cps.size:=hg;refine wpAny_pyNext_ascii_item st (c:=x.cps[i]) (by simp[hi]) λh' st' sb=>?_
  have I1:Inv X xw σ H {s with heap:=h',toks:=s.toks+1}:=I.turned (λb o hb e=>(sb.2 b hb).trans e) f0 f1 f3 f4 f5;obtain⟨o,e,c,d⟩:=id st';exact⟨_,rfl,Jk (s:={s with heap:=h',toks:=s.toks+1}) e c d (by decide) ⟨.str ⟨#[x.cps[i]]⟩,H,I1,⟨_,rfl⟩,⟨rfl,_,by simp[hi],rfl⟩,st',λb hb=>(hf b hb).1⟩⟩
 done:=by intro X hP hw hK hc i xw s σ H E I hf st hg;subst hP hw hK;obtain⟨f0,f1,f2,f3,f4,f5⟩:=hf it (by simp);have hi:x.cps.size<=i:=hg;exact wpAny_pyNext_ascii_end (I.ok.hd hc) st (by simp[hi]) λh' eb=>⟨rfl,I.turned (t':=s.toks) (λb o hb e=>eb b o hb e) f0 f1 f3 f4 f5⟩
 self:=λ_ _ _ _ _ st h=>wpAny_pyIter_striter_ascii st h
theorem ZCj(it:j1)(x:Str)(t:Tok):Turn P w K tg (Its x) [it] it (λi h=>h.IsStrIter it "str_iterator" x t i) where
 mem:=by simp
 obj:=λi h st b hb=>by
  have e:b=it:=by simpa using hb
  subst e;obtain⟨o,e,c,d⟩:=st;exact⟨o,e,λv z=>by rw[d]at z;cases z⟩
 keep:=λi h h' st k=>let⟨o,ho,r⟩:=st;⟨o,k it (by simp) o ho,r⟩
 item:=by
  intro X hP hw hK hc i xw s σ H E I hf st hg;subst hP hw hK;obtain⟨f0,f1,f2,f3,f4,f5⟩:=hf it (by simp);have hi:i<x.cps.size:=hg;refine wpAny_pyNext_wide_item st (c:=x.cps[i]) (by simp[hi]) λh' st' sb=>?_
  have I1:Inv X xw σ H {s with heap:=h',toks:=s.toks+1}:=I.turned (λb o hb e=>(sb.2 b hb).trans e) f0 f1 f3 f4 f5;obtain⟨o,e,c,d⟩:=id st';exact⟨_,rfl,Jk (s:={s with heap:=h',toks:=s.toks+1}) e c d (by decide) ⟨.str ⟨#[x.cps[i]]⟩,H,I1,⟨_,rfl⟩,⟨rfl,_,by simp[hi],rfl⟩,st',λb hb=>(hf b hb).1⟩⟩
 done:=by intro X hP hw hK hc i xw s σ H E I hf st hg;subst hP hw hK;obtain⟨f0,f1,f2,f3,f4,f5⟩:=hf it (by simp);have hi:x.cps.size<=i:=hg;exact wpAny_pyNext_wide_end (I.ok.hd hc) st (by simp[hi]) λh' eb=>⟨rfl,I.turned (t':=s.toks) (λb o hb e=>eb b o hb e) f0 f1 f3 f4 f5⟩
 self:=λ_ _ _ _ _ st h=>wpAny_pyIter_striter_wide st h
def iStr(tl:TE):TI:=λσ H R=>tl σ H λx H1=>∃z,x=.str z/\R (Its z) H1
theorem ZC7{l:j3}{tl:TE}(hl:PE X l tl):PI X tg l (iStr tl):=by
 intro xw s σ H R I h;refine thn (hl xw s σ H _ I h) λv s1 ⟨x,H1,I1,r1,q1⟩=>?_
 obtain⟨z,e,q⟩:=q1;subst e;obtain⟨t,rfl⟩:=r1;have fp:∀b∈[s1.heap.objs.size],FpOk X xw H1 b:=λb hb=>by
  have e:b=s1.heap.objs.size:=by simpa using hb
  subst e;exact I1.Gz (zq _) (I1.hok.fresh (zq _))
 cases ha:z.cps.all (· < 128)
 ·refine wpAny_pyIter_wide ha ?_;exact⟨s1.heap.objs.size,[s1.heap.objs.size],_,_,H1,rfl,I1.kept (t':=s1.toks) λb o e=>zZ _ e,ZCj _ z t,⟨_,zy _ rfl,rfl,rfl⟩,fp,q⟩
 ·refine wpAny_pyIter_ascii ha ?_;exact⟨s1.heap.objs.size,[s1.heap.objs.size],_,_,H1,rfl,I1.kept (t':=s1.toks) λb o e=>zZ _ e,ZAy _ z t,⟨_,zy _ rfl,rfl,rfl⟩,fp,q⟩
theorem Reps.signs(x:Str):Reps a (signs x) (x.cps.toList.map λc=>V.str ⟨#[c]⟩):=by
 unfold _D.signs
 induction x.cps.toList with
 |nil=>exact rfl
 |cons c r ih=>exact⟨_,_,rfl,rfl,ih⟩
def Ew:D->DH->R ItD
 |.tup xs,G=>.ok (.pure xs) G
 |.str x,G=>.ok (.pure (signs x)) G
 |.fl xs,G=>.ok (.pure xs) G
 |.ref i,G=>match G[i]? with
  |some (.lst _)=>.ok (.mt i) G
  |_=>.bad
 |_,_=>.bad
def Hb(te:DE):DI:=λS G=>(te S G).bind Ew
theorem ZGm(he:QE X E iter te):QI X E tg iter (Hb te):=by
 intro xw s σ H R I h;obtain⟨a,S,G,hk,rfl,sm,r,h⟩:=h;cases ht:te S G with
 |bad=>
  have h':outI E a ((te S G).bind Ew) R:=h;rw[ht]at h';exact h'.elim
 |err e G1=>
  have h':outI E a ((te S G).bind Ew) R:=h;rw[ht]at h';refine T5 (tg:=tg) he xw s σ a.H R I ⟨a,S,G,hk,rfl,sm,r,?_⟩;rw[ht];exact h'
 | ok d G1=>
  have h':outI E a ((te S G).bind Ew) R:=h;rw[ht]at h';cases d with
  |tup xs=>
   refine ZC3 (tg:=tg) he xw s σ a.H R I ⟨a,S,G,hk,rfl,sm,r,?_⟩;rw[ht];rintro b v x sb ⟨p,vs,rfl,hq,rv⟩;have hq':SqT X.K b.H p vs:=by rw[<-hk,<-x.k];exact hq
   refine⟨p,rfl,⟨vs,hq'⟩,h' b _ x sb ⟨vs,rv,λc y i=>⟨λv hv=>⟨⟨vs,v,?_,hv⟩,λw H' z=>?_⟩,λhl=>⟨vs,?_,hl⟩⟩⟩⟩
   ·have:=y.sqT hq;rw[y.k,x.k,hk]at this;exact this
   ·have:=y.sqT hq;rw[y.k,x.k,hk]at this;exact⟨Option.some.inj ((z.2 vs this).symm.trans hv),z.1⟩
   ·have:=y.sqT hq;rw[y.k,x.k,hk]at this;exact this
  |fl xs=>
   refine T5 (tg:=tg) he xw s σ a.H R I ⟨a,S,G,hk,rfl,sm,r,?_⟩;rw[ht];rintro b v x sb ⟨p,vs,rfl,hq,rv⟩;have hq':SqL X.K b.H p vs:=by rw[<-hk,<-x.k];exact hq.sq
   refine⟨p,rfl,⟨vs,hq'⟩,h' b _ x sb ⟨vs,rv,λc y i=>⟨λv hv=>⟨⟨vs,v,?_,hv⟩,λw H' z=>?_⟩,λhl=>⟨vs,?_,hl⟩⟩⟩⟩
   ·have:=(y.fzL hq).sq;rw[y.k,x.k,hk]at this;exact this
   ·have:=(y.fzL hq).sq;rw[y.k,x.k,hk]at this;exact⟨Option.some.inj ((z.2 vs this).symm.trans hv),z.1⟩
   ·have:=(y.fzL hq).sq;rw[y.k,x.k,hk]at this;exact this
  |ref k=>
   have h2:outI E a (Ew (.ref k) G1) R:=h';unfold Ew at h2;dsimp only at h2;split at h2
   ·rename_i xs hx;refine T5 (tg:=tg) he xw s σ a.H R I ⟨a,S,G,hk,rfl,sm,r,?_⟩;rw[ht];rintro b v x sb ⟨hkn,rfl⟩;obtain⟨vs,hx,_⟩:=sb.lst hx;refine⟨b.m k,rfl,⟨vs,.of hx⟩,h2 b _ x sb ⟨hkn,λc y us hu i=>?_⟩⟩;rw[y.m k hkn]at hu;exact⟨λv hv=>⟨⟨us,v,.of hu,hv⟩,λw H' z=>⟨Option.some.inj ((z.2 us (.of hu)).symm.trans hv),z.1⟩⟩,λhl=>⟨us,.of hu,hl⟩⟩
   ·exact h2.elim
  | str z=>
   refine ZC7 (tg:=tg) he xw s σ a.H R I ⟨a,S,G,hk,rfl,sm,r,?_⟩;rw[ht];intro b v x sb rv
   cases(show v=V.str z from rv)
   refine⟨z,rfl,h' b _ x sb ⟨_,Reps.signs z,λc y i=>⟨λv hv=>?_,λhl=>?_⟩⟩⟩
   ·rw[z0,zD]at hv;obtain⟨k,hk1,rfl⟩:=hv;have hk2:z.cps[i]?=xk k:=by rw[<-qR];exact hk1
    refine⟨(Array.getElem?_eq_some_iff.mp hk2).1,λw H' q=>?_⟩;obtain⟨e1,k',e2,e3⟩:=q;rw[hk2]at e2;cases e2;exact⟨e3,e1⟩
   ·rw[zX,qW]at hl;exact hl
  |_=>exact h'.elim
end
noncomputable def Ak(lo:Int)(n:Nat):List D:=(qw n).map λ(k:Nat)=>D.int (lo+(k:Int))
def inR(j:Int):Prop:= -(2^62)<=j/\j<2^62
noncomputable instance (j:Int):Decidable (inR j):=by unfold inR;infer_instance
def rng1(ds:List D)(G:DH):R ItD:=match ds with
 |[.int j]=>if inR j then .ok (.pure (Ak 0 j.toNat)) G else .bad
 |_=>.bad
def Ay(f:List D->DH->R ItD)(ta:DA):DI:=λS G=>(ta S G).bind f
def Bd(np nl:Nat)(b:DS):List D->DH->R D:=λds G=>if ds.length=np then tidy G (match b (ds.map xk++zP nl xy) G with
 |.nx _ G'=>.ok .non G'
 |.rt d G'=>.ok d G'
 |.err x G'=>.err x G'
 |_=>.bad)else .bad
theorem outI.mono(x:Ext a b){r:R ItD}{Q:It->Hp->Prop}(h:outI E a r Q):outI E b r Q:=by
 cases r with
 |ok d G=>exact λc v y s q=>h c v (x.trans y) s q
 |err e G=>exact XOk.mono (E:=E) (e:=e) (G:=G) x h
 |bad=>exact h
theorem Mu{r:R (List D)}{f:List D->DH->R ItD}{Q:It->Hp->Prop}(h:outI E a (r.bind f) Q):
  Ck E a r (λvs H=>∃(b:Wd)(ds:List D)(G:DH),b.H=H/\Ext a b/\Sim b G/\Reps b ds vs/\r=.ok ds G/\outI E b (f ds G) Q):=by
 cases r with
 |ok d G=>exact λb v x s q=>⟨b,d,G,rfl,x,s,q,rfl,outI.mono x h⟩
 |err e G=>exact h
 |bad=>exact h
section
variable{X:Cx}{E:XK}{tg iter:j3}{pos:Pos}
theorem ZGI(lo:Int)(n:Nat):RepI a (.pure (Ak lo n)) (Itr lo n):=by
 refine⟨(qw n).map λ(k:Nat)=>V.int (lo+(k:Int)),?_,λb x i=>⟨λv hv=>?_,λhl=>?_⟩⟩
 ·unfold Ak;generalize qw n=l
  induction l with
  |nil=>exact rfl
  |cons k l ih=>exact⟨_,_,rfl,rfl,ih⟩
 ·rw[z0]at hv;by_cases hi:i<n
  ·rw[List.getElem?_range hi]at hv;have hv':V.int (lo+(i:Int))=v:=by simpa using hv
   exact⟨hi,λw H' y=>⟨y.2.trans hv',y.1⟩⟩
  ·rw[zM (by simpa using hi)]at hv;cases hv
 ·show n<=i;simpa using hl
theorem ZE5{ta:DA}{p pos:Pos}(hg:Gl X "range")(hm:X.mg "range"=xy)(ha:QA X E [e] ta)(hs:jP [e] X.env=[(xA,eval e X.env)]:=by rfl):QI X E tg (.Call (.Name "range" p) [e] [] pos) (Ay rng1 ta):=
 (ZBw hg hm ha hs).mono λσ H Q h=>by
  obtain⟨a,S,G,hk,rfl,s,r,h⟩:=h;refine⟨a,S,G,hk,rfl,s,r,(Mu h).imp ?_⟩;rintro vs _ ⟨b,ds,G1,rfl,x,s1,q,-,h1⟩;unfold rng1 at h1;split at h1
  ·rename_i j;split at h1
   ·rename_i hj;obtain⟨v,r,e1,q1,q2⟩:=q
    cases(show v=V.int j from q1)
    cases(show r=[]from q2)
    exact⟨j,e1,hj.1,hj.2,h1 b _ (Ext.refl b) s1 (ZGI 0 j.toNat)⟩
   ·exact h1.elim
  ·exact h1.elim
end
theorem ZC4(r:Reps a ds vs)(n m:Nat)(h:n=m):RepS a (ds.map xk++zP n xy) (vs.map xk++zP m xy):=by
 subst h;refine⟨by simp[r.length],λi d hd=>?_⟩;by_cases hi:i<ds.length
 ·rw[zG (by simpa using hi),z0]at hd;cases e:ds[i]? with
  |none=>rw[e]at hd;cases hd
  |some d'=>
   rw[e]at hd;have hd':d'=d:=by simpa using hd
   subst hd';obtain⟨v,ev,q⟩:=r.get e;exact⟨v,by rw[zG (by rw[zX,<-r.length];exact hi),z0,ev];rfl,q⟩
 ·rw[zN (by simpa using hi),qD]at hd
  split at hd<;>cases hd
theorem Jj{mg:Str->Option jA}{base:Heap}{qual:Str}{st:j9}{f:j1}{fd:j4}{N ps:List Str}{b:DS}(F:Fun K x qual st f fd)(S:FnScope N ps (Am st))
  (hbody:∀(cdv:jA)(A:j2)(outer:List Env)(s:j8)(H:Hp)(E:XK),Room k (A.deeper (envOfC qual (Am st) s.heap.objs.size f cdv))->QSs (Gy CX0 P w K mg base N qual (Am st) f cdv A outer s H E).nox E0 (Df st) b):
  FnOk P w K mg base CX0 (k+1) f fd ps (lF K (Bd ps.length (N.length-ps.length) b)):=by
 have hlen:∀vs H Q E,lF K (Bd ps.length (N.length-ps.length) b) vs H Q E->vs.length=ps.length:=λvs H Q E h=>by
  obtain⟨a,G,ds,hk,rfl,sm,r,h⟩:=h;unfold Bd at h;split at h
  ·rename_i hl;rw[<-r.length];exact hl
  ·exact h.elim
 refine F.ok S hlen (λcdv A outer s H vs Q E hr h=>?_);refine⟨lS K E0 b,hbody cdv A outer s H E hr,?_⟩;have hl:=hlen vs H Q E h;obtain⟨a,G,ds,hk,rfl,sm,r,h⟩:=h;unfold Bd at h;split at h
 ·have h2:=Uw sm h;refine⟨a,ds.map xk++zP (N.length-ps.length) xy,G,hk,rfl,sm,ZC4 r _ _ (by rw[hl]),?_⟩
  revert h2
  cases b (ds.map xk++zP (N.length-ps.length) xy) G with
  |nx S1 G1=>exact λh2 c σ x s1 _=>h2 c .non x s1 rfl
  |rt d G1=>exact λh2=>h2
  |err e G1=>exact λh2=>h2
  |bk S1 G1=>exact λh2=>h2.elim
  |ct S1 G1=>exact λh2=>h2.elim
  |bad=>exact λh2=>h2
 ·exact h.elim
theorem Ig{x:V}(s:Sim a G)(r:Rep a d x)(h:Ax d G=xk xs):∃p vs,x=.ref p/\(SqL a.K a.H p vs∨SqT a.K a.H p vs)/\Reps a xs vs:=by
 cases d with
 |tup ys=>
  have e:ys=xs:=Option.some.inj h;subst e;obtain⟨p,vs,e,q,rr⟩:=r;exact⟨p,vs,e,.inr q,rr⟩
 |fl ys=>
  have e:ys=xs:=Option.some.inj h;subst e;obtain⟨p,vs,e,q,rr⟩:=r;exact⟨p,vs,e,.inl q.sq,rr⟩
 |ref i=>
  unfold Ax at h;dsimp only at h;split at h
  ·rename_i ys hi;have e:ys=xs:=Option.some.inj h;subst e;obtain⟨vs,e1,r1⟩:=s.lst hi;exact⟨a.m i,vs,r.2,.inl (.of e1),r1⟩
  ·cases h
 |_=>cases h
def Ac (d e:D) (G:DH):R D:=match e with
 | .int i=>match d with
  | .str z=>if z.length<=1000000 then(match atI z.cps.toList i with
    |some c=>.ok (.str ⟨#[c]⟩) G
    |none=>.bad)else .bad
  | d=>match Ax d G with
   |some xs=>match atI xs i with
    |some v=>.ok v G
    |none=>.bad
   |none=>.bad
 |_=>.bad
theorem ZD2{i:Int}(r:Reps a xs vs)(h:atI xs i=xk d):∃v,atI vs i=xk v/\Rep a d v:=by
 unfold atI at h⊢;rw[<-r.length];cases e:ixN xs.length i with
 |none=>rw[e]at h;cases h
 |some j=>
  rw[e]at h
  obtain⟨v,ev,q⟩:=r.get (show xs[j]?=xk d from h)
  exact⟨v,ev,q⟩
section
variable{X:Cx}{E:XK}
theorem _root_._L.IxR.mono{r r':R2}(h:IxR X r)(w:∀x y H Q,r' x y H Q->r x y H Q):IxR X r':=λvalue slice xw s σ H x y v u Q I rx ry q hs=>h value slice xw s σ H x y v u Q I rx ry (w _ _ _ _ q) hs
theorem _root_._L.CallR.mono{f:jA}{r r':List V->Hp->VK->Prop}(h:CallR X f r)(w:∀xs H Q,r' xs H Q->r xs H Q):CallR X f r':=λxw s σ H xs us Q I rs q=>h xw s σ H xs us Q I rs (w _ _ _ q)
theorem _root_._L.MtM.mono{id:String}{r r':V->List V->Hp->VK->Prop}(h:MtM X id r)(w:∀x xs H Q,r' x xs H Q->r x xs H Q):MtM X id r':=λxw s σ H x xs v us Q I rx rs q=>h xw s σ H x xs v us Q I rx rs (w _ _ _ _ q)
theorem i_ix:IxR X (lR2 X.K E Ac):=ZFd.mono λx y H Q h=>by
 obtain⟨a,G,d,e,hk,rfl,s,rd,re,q⟩:=h;cases e with
 | int i=>
  have fin:∀{xs:List D},Ax d G=xk xs->out E a (match atI xs i with |some v=>.ok v G|none=>.bad) Q->rIx X.K x y a.H Q:=λ{xs}hs q=>by
   obtain⟨p,vs,e1,h1,r1⟩:=Ig s rd hs;rw[hk]at h1;split at q
   ·rename_i v hv;obtain⟨u,hu,ru⟩:=ZD2 r1 hv;have z:=q a u (Ext.refl a) s ru;rcases h1 with h1|h1
    ·exact .inl ⟨p,vs,i,u,e1,re,h1,hu,z⟩
    ·exact .inr (.inl ⟨p,vs,i,u,e1,re,h1,hu,z⟩)
   ·exact q.elim
  have fin':out E a (match Ax d G with |some xs=>(match atI xs i with |some v=>.ok v G|none=>.bad)|none=>.bad) Q->rIx X.K x y a.H Q:=λq=>by
   cases hs:Ax d G with
   |none=>rw[hs]at q;exact q.elim
   |some xs=>rw[hs]at q;exact fin hs q
  cases d with
  | str z=>
   unfold Ac at q;dsimp only at q;split at q
   ·rename_i hl;split at q
    ·rename_i c hc;exact .inr (.inr ⟨z,i,c,rd,re,zk hl size6,hc,q a _ (Ext.refl a) s rfl⟩)
    ·exact q.elim
   ·exact q.elim
  |tup ys=>exact fin' q
  |fl ys=>exact fin' q
  |ref j=>exact fin' q
  |_=>exact fin' q
 |_=>exact q.elim
def Bf(ds:List D)(G:DH):R D:=match ds with
 |[.str z]=>if z.length<=1000000 then .ok (.int z.length) G else .bad
 |[d]=>match Ax d G with
  |some xs=>.ok (.int xs.length) G
  |none=>.bad
 |_=>.bad
theorem reps1(r:Reps a [d] vs):∃v,vs=[v]/\Rep a d v:=by
 obtain⟨v,r',e,q,z⟩:=r
 cases(show r'=[]from z)
 exact⟨v,e,q⟩
theorem reps2{d':D}(r:Reps a [d,d'] vs):∃v v',vs=[v,v']/\Rep a d v/\Rep a d' v':=by obtain⟨v,r',e,q,z⟩:=r;obtain⟨v',e',q'⟩:=reps1 z;subst e';exact⟨v,v',e,q,q'⟩
theorem ZEk:CallR X (.builtin "len") (lRn X.K E Bf):=(ZFY.or ZAr).mono λvs H Q h=>by
 obtain⟨a,G,ds,hk,rfl,s,r,q⟩:=h;unfold Bf at q;split at q
 ·rename_i z;split at q
  ·rename_i hl;obtain⟨v,rfl,rv⟩:=reps1 r
   cases(show v=V.str z from rv)
   exact .inr ⟨z,rfl,zk hl size6,q a _ (Ext.refl a) s rfl⟩
  ·exact q.elim
 ·rename_i d _;split at q
  ·rename_i xs hs;obtain⟨v,rfl,rv⟩:=reps1 r;obtain⟨p,us,rfl,h1,r1⟩:=Ig s rv hs;rw[hk]at h1;exact .inl ⟨p,us,rfl,h1,q a _ (Ext.refl a) s (by rw[<-r1.length];exact rfl)⟩
  ·exact q.elim
 ·exact q.elim
def Br(ds:List D)(G:DH):R D:=match ds with
 |[d]=>match Ax d G with
  |some xs=>.ok (.tup xs) G
  |none=>.bad
 |_=>.bad
theorem ZCv:CallR X (.type "tuple") (lRn X.K E Br):=ZBT.mono λvs H Q h=>by
 obtain⟨a,G,ds,hk,rfl,s,r,q⟩:=h;unfold Br at q;split at q
 ·rename_i d;split at q
  ·rename_i xs hs;obtain⟨v,rfl,rv⟩:=reps1 r;obtain⟨p,us,rfl,h1,r1⟩:=Ig s rv hs;refine⟨p,us,rfl,?_⟩;rcases h1 with h1|h1
   ·exact .inl ⟨by rw[<-hk];exact h1,λl hl=>Su s r1 q l hl⟩
   ·exact .inr ⟨by rw[<-hk];exact h1,q a _ (Ext.refl a) s ⟨p,us,rfl,h1,r1⟩⟩
  ·exact q.elim
 ·exact q.elim
def Eb(ds:List D)(G:DH):R D:=match ds with
 |[.str z]=>if z.length<=1000000 then .ok (.ref G.length) (G++[.lst (signs z)])else .bad
 |[d]=>match Ax d G with
  |some xs=>.ok (.ref G.length) (G++[.lst xs])
  |none=>.bad
 |_=>.bad
theorem Vx:∀{vs:List V}{us:List jA},vs.length=us.length->(∀(i:Nat)(v:V)(u:jA),vs[i]?=xk v->us[i]?=xk u->RelV v u)->Vals vs us
 |[],[],_,_=>.nil
 |[],_::_,h,_=>by cases h
 |_::_,[],h,_=>by cases h
 |v::vs,u::us,h,f=>.cons (f 0 v u rfl rfl) (Vx (by simpa using h) λi v' u' h1 h2=>f (i+1) v' u' (by simpa using h1) (by simpa using h2))
theorem ZDX(hc:X.calm=x0):CallR X (.type "list") (λxs H Q=>∃z:Str,xs=[.str z]/\z.length<=sizeLine/\∀l,H l=xy->Q (.ref l) (upd H l (.lst (z.cps.toList.map λc=>V.str ⟨#[c]⟩)))):=by
 intro xw s σ H xs us Q I r h;obtain⟨z,rfl,hz,q⟩:=h;obtain⟨u,rfl,t,rfl⟩:=vals1 r;refine PySem.call_list_str (I.ok.hd hc) z t (λh' tk acc c hk hS hacc=>?_) hz;have hn:H s.heap.objs.size=xy:=I.hok.fresh (zq _);refine⟨.ref s.heap.objs.size,upd H s.heap.objs.size (.lst (z.cps.toList.map λc=>V.str ⟨#[c]⟩)),I.laid (t':=tk) (h':=h') hk (zq _) ?_,rfl,q _ hn⟩;refine⟨by rw[zX,qW];exact hz,acc.toList,c,Vx ?_ λi v u h1 h2=>?_,by simpa using hS⟩
 ·rw[zX,qW,qW];exact hacc.1.symm
 ·rw[z0,zD]at h1;obtain⟨k,e1,rfl⟩:=h1;obtain⟨k',t',e2,rfl⟩:=hacc.2 i u (by rw[<-qR];exact h2);rw[qR,e2]at e1;cases e1;exact⟨t',rfl⟩
theorem ZFs(hc:X.calm=x0):CallR X (.type "list") (lRn X.K E Eb):=(ZGN.or (ZDX hc)).mono λvs H Q h=>by
 obtain⟨a,G,ds,hk,rfl,s,r,q⟩:=h;unfold Eb at q;split at q
 ·rename_i z;split at q
  ·rename_i hl;obtain⟨v,rfl,rv⟩:=reps1 r
   cases(show v=V.str z from rv)
   exact .inr ⟨z,rfl,zk hl size6,λl hl=>Iz s (Reps.signs z) q l hl⟩
  ·exact q.elim
 ·rename_i d _;split at q
  ·rename_i xs hs;obtain⟨v,rfl,rv⟩:=reps1 r;obtain⟨p,us,rfl,h1,r1⟩:=Ig s rv hs;exact .inl ⟨p,us,rfl,by rw[<-hk];exact h1,λl hl=>Iz s r1 q l hl⟩
  ·exact q.elim
 ·exact q.elim
noncomputable def Ep(ds:List D)(G:DH):R D:=match ds with
 |[.int i,.int j]=>.ok (.int (if j<i then j else i)) G
 |_=>.bad
theorem ZF7(hc:X.calm=x0):CallR X (.builtin "min") (lRn X.K E Ep):=(ZE8 hc).mono λvs H Q h=>by
 obtain⟨a,G,ds,hk,rfl,s,r,q⟩:=h;unfold Ep at q;split at q
 ·obtain⟨v,v',rfl,h1,h2⟩:=reps2 r
  cases(show v=V.int _ from h1)
  cases(show v'=V.int _ from h2)
  exact⟨_,_,rfl,q a _ (Ext.refl a) s rfl⟩
 ·exact q.elim
noncomputable def Cz(o:D)(ds:List D)(G:DH):R D:=match o,ds with
 |.ref i,[d]=>match G[i]? with
  |some (.lst xs)=>if xs.length<1000000 then .ok .non (G.set i (.lst (xs++[d])))else .bad
  |_=>.bad
 |_,_=>.bad
def lRm(K:PySem.W.Frag)(E:XK)(f:D->List D->DH->R D):V->List V->Hp->VK->Prop:=λx xs H Q=>∃(a:Wd)(G:DH)(d:D)(ds:List D),a.K=K/\a.H=H/\Sim a G/\Rep a d x/\Reps a ds xs/\out E a (f d ds G) Q
theorem Sim.isList(s:Sim a G)(h:G[i]?=xk (.lst xs)):∃vs,SqL a.K a.H (a.m i) vs:=let⟨vs,e,_⟩:=s.lst h;⟨vs,.of e⟩
theorem ZCZ:MtM X "list.append" (lRm X.K E Cz):=ZBp.mono λx xs H Q h=>by
 obtain⟨a,G,d,ds,hk,rfl,s,rd,r,q⟩:=h;unfold Cz at q;split at q
 ·rename_i i d;obtain⟨v,rfl,rv⟩:=reps1 r;split at q
  ·rename_i ys hy;split at q
   ·rename_i hl;obtain⟨vs,e1,r1⟩:=s.lst hy;obtain⟨x3,s3⟩:=T8 s rd.1 e1 (r1.append (Reps.cons rv Reps.nil));refine⟨a.m i,vs,v,rd.2,rfl,e1,by rw[<-r1.length];exact zW hl size6,?_⟩;exact q _ .non x3 s3 rfl
   ·exact q.elim
  ·exact q.elim
 ·exact q.elim
variable{o e:j3}{es:List j3}{to:DE}{t:DA}{name:Str}{apos cpos:Pos}{T id:String}{f:D->List D->DH->R D}
noncomputable def isL(d:D)(G:DH):Bool:=match d with
 |.ref i=>match G[i]? with
  |some (.lst _)=>x0
  |_=>xA
 |.fl _=>x0
 |_=>xA
def Cd(f:D->List D->DH->R D)(o:DE)(t:DA):DE:=λS G=>(o S G).bind λx G1=>if isL x G1=x0 then(t S G1).bind λxs G2=>f x xs G2 else .bad
theorem ZAn{x:V}(s:Sim a G)(r:Rep a d x)(h:isL d G=x0):tyV a.K "list" x a.H:=by
 cases d with
 |ref i=>
  unfold isL at h;dsimp only at h;split at h
  ·rename_i xs hx;cases r.2;exact .inl ⟨rfl,s.isList hx⟩
  ·cases h
 |fl xs=>
  obtain⟨p,vs,rfl,q,_⟩:=r;exact .inl ⟨rfl,vs,q.sq⟩
 |_=>cases h
theorem ZHP(slot:Slot "list" name id)(hty:typeOf (.builtin id)=pure (.type "method_descriptor"))(hm:MtM X id (lRm X.K E f))(ho:QE X E o to)(ha:QA X E (e::es) t)
  (hbase:attributeBase o name X.env (eval o X.env)=eval o X.env:=by rfl)
  (hfew:((jD cpos (jP (e::es) X.env)).all (λx=> !x.1)&&(backToKw cpos (keywordEach [] X.env)).all (λx=>x.1.isSome)
   && decide ((e::es).length+([]:List Keyword).length+(if([]:List Keyword).isEmpty then 0 else 1)<30))=x0:=by rfl)
  (hline:(apos.endLine==cpos.line)=x0:=by rfl) (hs:jP (e::es) X.env=(xA,eval e X.env)::jP es X.env:=by rfl) (hplain:(jD cpos (jP es X.env)).any (·.1)=xA:=by rfl):
  QE X E (.Call (.Attribute o name apos) (e::es) [] cpos) (Cd f to t):=(ZEy PySem.F.plainAttrs_list slot hty hm ho ha hbase hfew hline hs hplain).mono λσ H Q h=>by
 obtain⟨a,S,G,hk,rfl,s,r,h⟩:=h;refine⟨a,S,G,hk,rfl,s,r,(Dm h).imp ?_⟩;rintro v _ ⟨b,d,G1,rfl,x,s1,q,-,h1⟩;split at h1
 ·rename_i hl;have ty:=ZAn s1 q hl;rw[x.k,hk]at ty;refine⟨ty,b,S,G1,x.k.trans hk,rfl,s1,r.mono x,(Jr h1).imp ?_⟩;rintro vs _ ⟨c,ds,G2,rfl,y,s2,q2,-,h2⟩;exact⟨c,G2,d,ds,y.k.trans (x.k.trans hk),rfl,s2,q.mono y,q2,h2⟩
 ·exact h1.elim
end
inductive Ty where|non|bl|int|str|tup|lst
noncomputable def Ty.name:Ty->String
 |.non=>"NoneType" | .bl=>"bool" | .int=>"int" | .str=>"str" | .tup=>"tuple" | .lst=>"list"
def tyD(G:DH):D->Option Ty
 |.non=>xk .non
 |.bl _=>xk .bl
 |.int _=>xk .int
 |.str _=>xk .str
 |.tup _=>xk .tup
 |.fl _=>xk .lst
 |.ref i=>match G[i]? with
  |some (.lst _)=>xk .lst
  |_=>xy
 |.ty _=>xy
noncomputable def Ty.sub(t:Ty):String->Option Bool
 |"int"=>xk (match t with | .int=>x0 | .bl=>x0|_=>xA)
 |"bool"=>xk (match t with | .bl=>x0|_=>xA)
 |"str"=>xk (match t with | .str=>x0|_=>xA)
 |"tuple"=>xk (match t with | .tup=>x0|_=>xA)
 |"list"=>xk (match t with | .lst=>x0|_=>xA)
 |_=>xy
def Ez(ds:List D)(G:DH):R D:=match ds with
 | [d,.ty T]=>match tyD G d with
  |some t=>match t.sub T with
   |some k=>.ok (.bl k) G
   |none=>.bad
  |none=>.bad
 |_=>.bad
theorem ZGs{t:Ty}{T:String}{k:Bool}(h:t.sub T=xk k):PySem.W.kitOne K (.type t.name) (.type T)=xk k:=by
 unfold Ty.sub at h;split at h
 iterate 5 (cases t<;>cases h<;>rfl)
 cases h
section
variable{X:Cx}{E:XK}
theorem ZA6:CallR X (.builtin "isinstance") (lRn X.K E Ez):=by
 intro xw s σ H vs us Q I rs h;obtain⟨a,G,ds,hk,rfl,sm,r,q⟩:=h;unfold Ez at q;split at q
 ·rename_i d T;obtain⟨v,v',rfl,h1,h2⟩:=reps2 r
  cases(show v'=V.ty T from h2)
  obtain⟨u,u',rfl,ru,ru'⟩:∃u u',us=[u,u']/\RelV v u/\RelV (.ty T) u':=by
   cases rs with
   |cons p q=>cases q with
    |cons p' q'=>cases q';exact⟨_,_,rfl,p,p'⟩
  cases(show u'=Value.type T from ru')
  split at q
  ·rename_i t ht;split at q
   ·rename_i k hk';have fin:∀tk:Nat,EP X xw σ Q (.bool k) {s with toks:=tk}:=λtk=>⟨.bl k,a.H,I.tok _,rfl,q a _ (Ext.refl a) sm rfl⟩
    have e:=ZGs (K:=X.K) hk';clear q hk' r;have L:∀(p:j1)(ws:List V),SqL X.K a.H p ws->u=.ref p->t=.lst->jS (jM X.prog X.w) X.A (call (.builtin "isinstance") [u,.type T]) (EP X xw σ Q) X.xe s:=λp ws hq eu et=>by
     subst eu et;obtain⟨its,_,pl,_⟩:=I.list hq
     exact PySem.W.kia_one PySem.W.kitx_list I.kIn (let⟨o,e,c,_⟩:=pl.isList;⟨o,e,c⟩) e (λz=>nomatch z) fin
    cases d with
    |non=>cases ht;cases(show v=_ from h1);cases ru;exact PySem.W.kia_one PySem.W.kitx_none I.kIn True.intro e (λz=>nomatch z) fin
    |bl b=>cases ht;cases(show v=_ from h1);cases ru;exact PySem.W.kia_one PySem.W.kitx_bool I.kIn True.intro e (λz=>nomatch z) fin
    |int b=>cases ht;cases(show v=_ from h1);obtain⟨tk,rfl⟩:=ru;exact PySem.W.kia_one PySem.W.kitx_int I.kIn True.intro e (λz=>nomatch z) fin
    |str b=>cases ht;cases(show v=_ from h1);obtain⟨tk,rfl⟩:=ru;exact PySem.W.kia_one PySem.W.kitx_str I.kIn True.intro e (λz=>nomatch z) fin
    |tup b=>
     cases ht;obtain⟨p,ws,rfl,hq,_⟩:=h1;cases ru;rw[hk]at hq;obtain⟨its,_,pl,_⟩:=I.tuple hq
     exact PySem.W.kia_one PySem.W.kitx_tuple I.kIn (let⟨o,e,c,_⟩:=pl;⟨o,e,c⟩) e (λz=>nomatch z) fin
    |fl b=>
     cases ht;obtain⟨p,ws,rfl,hq,_⟩:=h1;exact L p ws (hk▸hq.sq) ru rfl
    |ref b=>
     unfold tyD at ht;dsimp only at ht;split at ht
     ·rename_i xs hx;cases ht;obtain⟨ws,e1,_⟩:=sm.lst hx;cases h1.2;exact L _ ws (.of e1) ru rfl
     ·cases ht
    |ty n=>cases ht
   ·exact q.elim
  ·exact q.elim
 ·exact q.elim
end
noncomputable def Dp:List D->Option (List Int)
 |[]=>xk []
 |.int i::r=>(Dp r).map (i::·)
 |_=>xy
@[simp]theorem ZHx(ns:List Int):Dp (ns.map D.int)=xk ns:=by
 induction ns with
 |nil=>rfl
 |cons n ns ih=>simp[Dp,ih]
theorem Vy:∀{xs:List D}{ns:List Int},Dp xs=xk ns->xs=ns.map D.int
 |[],ns,h=>by cases h;rfl
 |.int i::r,ns,h=>by simp only[Dp,zD]at h;obtain⟨ms,h1,rfl⟩:=h;rw[zK,Vy h1]
 |.non::r,ns,h=>by simp[Dp]at h
 |.bl _::r,ns,h=>by simp[Dp]at h
 |.str _::r,ns,h=>by simp[Dp]at h
 |.ty _::r,ns,h=>by simp[Dp]at h
 |.tup _::r,ns,h=>by simp[Dp]at h
 |.fl _::r,ns,h=>by simp[Dp]at h
 |.ref _::r,ns,h=>by simp[Dp]at h
def Et(ds:List D)(G:DH):R D:=match ds with
 | [d]=>match Ax d G with
  |some xs=>match Dp xs with
   |some ns=>.ok (.int ns.sum) G
   |none=>.bad
  |none=>.bad
 |_=>.bad
section
variable{X:Cx}{E:XK}{xw:List (j1×Obj)}{σ:St}{s:j8}{H:Hp}
theorem ZDM(I:Inv X xw σ H s)(hc:X.calm=x0)(h:SqL X.K H p vs∨SqT X.K H p vs){E':jA->j8->Prop}{Q:jA->j8->Prop}
  (hQ:∀(it:j1)(fp wr:List j1)(its:List jA)(St:Nat->Heap->Prop)(s₂:j8),Vals vs its->Walks X.prog X.w X.A.in1 it fp wr its.toArray.size (λi v=>its.toArray[i]?=xk v) St->St 0 s₂.heap->(∀b∈fp,b<s₂.heap.objs.size)->
   (∀h' tk,(∀b o,b∉wr->s₂.heap.get? b=xk o->h'.get? b=xk o)->Inv X xw σ H {s₂ with heap:=h',toks:=tk})->Q (.ref it) s₂):
  jS (jM X.prog X.w) X.A.in1 (pyIter (.ref p)) Q E' s:=by
 have hh:X.A.in1.handled=xy:=I.ok.hd hc;rcases h with h|h
 ·obtain⟨its,r,pl,hz⟩:=I.list h;refine wpAny_pyIter_list pl.isList ?_;have hp:p<s.heap.objs.size:=by obtain⟨o,e,_⟩:=pl.isList;exact zx e
  refine hQ _ _ _ its _ _ r (Walks.list hh _ p (zB hp) its.toArray) ⟨⟨_,zy _ rfl,rfl,rfl⟩,?_⟩ (λb hb=>?_) λh' tk kk=>?_
  ·obtain⟨o,e,c⟩:=pl.isList;exact⟨o,zZ _ e,c⟩
  ·show b<(s.heap.push _).objs.size;rw[q8];rcases zA.mp hb with rfl|hb
   ·exact qY _
   ·have e:b=p:=by simpa using hb
    subst e;exact jK hp
  ·refine I.kept λb o e=>kk b o (λhb=>?_) (zZ _ e)
   have e2:b=s.heap.objs.size:=by simpa using hb
   subst e2;exact absurd (zx e) (qQ _)
 ·obtain⟨its,r,pl,hz⟩:=I.tuple h
  refine wpAny_pyIter_tuple (show s.heap.IsTuple p its.toArray from pl) ?_
  have hp:p<s.heap.objs.size:=by obtain⟨o,e,_⟩:=pl;exact zx e
  refine hQ _ _ _ its _ _ r (Walks.tuple hh _ p (zB hp) its.toArray) ⟨⟨_,zy _ rfl,rfl,rfl⟩,?_⟩ (λb hb=>?_) λh' tk kk=>?_
  ·obtain⟨o,e,c⟩:=pl;exact⟨o,zZ _ e,c⟩
  ·show b<(s.heap.push _).objs.size;rw[q8];rcases zA.mp hb with rfl|hb
   ·exact qY _
   ·have e:b=p:=by simpa using hb
    subst e;exact jK hp
  ·refine I.kept λb o e=>kk b o (λhb=>?_) (zZ _ e)
   have e2:b=s.heap.objs.size:=by simpa using hb
   subst e2;exact absurd (zx e) (qQ _)
theorem V4(ns:List Int):∀n,n<=ns.length->preSum (λi=>ns.getD i 0) n=(ns.take n).sum
 |0,_=>by simp[preSum]
 |n+1,h=>by have hn:n<ns.length:=h;rw[preSum,V4 ns n (by lia),List.take_succ_eq_append_getElem hn,List.sum_append];simp[hn]
theorem ZAM:∀{ns:List Int}{vs:List V},Reps a (ns.map D.int) vs->vs=ns.map V.int
 |[],vs,h=>h
 |n::ns,vs,h=>by
  obtain⟨v,r,e,h1,h2⟩:=h
  cases(show v=V.int n from h1)
  rw[e,ZAM h2]
  rfl
theorem ZC5(hc:X.calm=x0):CallR X (.builtin "sum") (lRn X.K E Et):=by
 intro xw s σ H vs us Q I rs h;obtain⟨a,G,ds,hk,rfl,sm,r,q⟩:=h;unfold Et at q;split at q
 ·rename_i d;obtain⟨v,rfl,rv⟩:=reps1 r;split at q
  ·rename_i xs hs;split at q
   ·rename_i ns hn;cases Vy hn;obtain⟨p,ws,rfl,h1,r1⟩:=Ig sm rv hs;cases ZAM r1;rw[hk]at h1;obtain⟨u,rfl,ru⟩:=vals1 rs;cases ru;refine call_sum_walkG (ZDM I hc h1 λit fp wr its St s₂ hv W st hfp fin=>⟨it,fp,wr,its.toArray.size,_,St,λi=>ns.getD i 0,rfl,W,st,hfp,λi w hw=>?_,λh' tk t' kk=>?_⟩)
    ·have hw':its[i]?=xk w:=by simpa using hw
     have hl:i<(ns.map V.int).length:=by rw[hv.length];exact(zJ.mp hw').1
     have hl':i<ns.length:=by simpa using hl
     obtain⟨u,hu,ru⟩:=hv.get (i:=i) (x:=V.int ns[i]) (by simp[hl']);rw[hw']at hu;cases hu;obtain⟨t,rfl⟩:=ru;exact⟨t,by simp[hl']⟩
    ·refine⟨.int ns.sum,a.H,fin h' tk kk,⟨t',?_⟩,q a _ (Ext.refl a) sm rfl⟩;have hl:its.toArray.size=ns.length:=by rw[zj,<-hv.length];simp
     rw[hl,V4 ns ns.length (zq _),jQ]
   ·exact q.elim
  ·exact q.elim
 ·exact q.elim
end
section
variable{X:Cx}{xw:List (j1×Obj)}{σ:St}{H:Hp}{s:j8}
theorem Yk{a:j1}{o:HO}(I:Inv X xw σ H s)(hn:H a=xy)(hy:X.s₀.heap.objs.size<=a)(hL:a≠X.env.locals)(hc:∀x c,X.env.cells.lookup x=xk c->c≠a)(hp:∀p∈X.pn++xw,p.1≠a)
  (new:ObjOk X.prog X.w (upd H a o) s.heap a o):Inv X xw σ (upd H a o) s:=by
 have ne:∀b u,H b=xk u->b≠a:=λb u e z=>by rw[z,hn]at e;cases e
 refine⟨I.ok,I.os,I.bare,⟨I.base.keep,I.base.slot,λb ob q n hx=>?_,I.base.there,λb xs q=>?_,λb ob u q=>?_,λb ps q=>?_⟩,I.loc,I.cell,?_,λx c e=>?_,λp hp'=>?_,λb u e=>?_,I.len⟩
 ·rw[Ag (zB (zW (zx q) hy))];exact I.base.free b ob q n hx
 ·have:=I.base.tups b xs q;rw[Ag (ne _ _ this)];exact this
 ·have:=I.base.frzs b ob u q;rw[Ag (ne _ _ this)];exact this
 ·obtain⟨more,this⟩:=I.base.tbls b ps q;exact⟨more,by rw[Ag (ne _ _ this)];exact this⟩
 ·rw[Ag (Ne.symm hL)];exact I.free
 ·rw[Ag (hc x c e)];exact I.Eh x c e
 ·obtain⟨e1,e2,e3⟩:=I.pin p hp';exact⟨e1,by rw[Ag (hp p hp')];exact e2,e3⟩
 ·by_cases hb:b=a
  ·subst hb;rw[Cp]at e;cases e;exact new
  ·rw[Ag hb]at e;exact(I.hok b u e).stay (λ_ _ _ q=>q) (λc q=>by rw[Ag (ne _ _ q)];exact q) λc xs q=>by rw[Ag (ne _ _ q)];exact q
end
noncomputable def Bx(env:Env):List (Str×j5)->List (Str×j1)->List (Str×j1)
 |[],cs=>cs
 |(n,k)::r,cs=>if(k==NameKind.free)=x0 then Bx env r ((n,(env.cells.lookup n).getD 0)::cs)else Bx env r cs
theorem Uh(h:∀y∈scope.names,y.2=.free->∃c,env.cells.lookup y.1=xk c):closureFor scope env=pure (Bx env scope.names []):=by
 unfold closureFor;obtain⟨kind,names,g1,g2⟩:=scope;have key:∀(names:List (Str×j5))(cs:List (Str×j1)),(∀y∈names,y.2=.free->∃c,env.cells.lookup y.1=xk c)->
   (forIn names cs (λx r=>match x with
    |(name,kind)=>if(kind==NameKind.free)=x0 then(do let c<-cellOf env name;pure (ForInStep.yield ((name,c)::r)))else pure (ForInStep.yield r)):Sem (List (Str×j1)))=pure (Bx env names cs):=by
  intro names
  induction names with
  |nil=>intro cs _;rfl
  | cons y r ih=>
   intro cs hy;obtain⟨n,k⟩:=y;rw[j0];by_cases hk:(k==NameKind.free)=x0
   ·obtain⟨c,hc⟩:=hy (n,k) zY (by simpa using hk)
    have e1:cellOf env n=pure c:=by unfold cellOf;rw[show env.cells.lookup n=xk c from hc]
    have e2:Bx env ((n,k)::r) cs=Bx env r ((n,c)::cs):=by rw[Bx,if_pos hk,show env.cells.lookup n=xk c from hc];rfl
    rw[e2,<-ih ((n,c)::cs) λy' hy'=>hy y' (zV _ hy')];simp only[hk,if_true,e1]
    rfl
   ·have e2:Bx env ((n,k)::r) cs=Bx env r cs:=by rw[Bx,if_neg hk]
    rw[e2,<-ih cs λy' hy'=>hy y' (zV _ hy')];simp only[hk]
    rfl
 have:=key names [] h;exact congrArg (λm:Sem (List (Str×j1))=>m >>=λr=>pure r) this
theorem S8:∀{names:List (Str×j5)}{cs:List (Str×j1)},(∀y∈names,y.2=.free->∃c,env.cells.lookup y.1=xk c)->(∀p∈cs,env.cells.lookup p.1=xk p.2)->∀p∈Bx env names cs,env.cells.lookup p.1=xk p.2
 |[],cs,_,hc,p,hp=>hc p hp
 | (n,k)::r,cs,hn,hc,p,hp=>by
  rw[Bx]at hp;split at hp
  ·rename_i hk;obtain⟨c,e⟩:=hn (n,k) zY (by simpa using hk);refine S8 (λy hy=>hn y (zV _ hy)) (λq hq=>?_) p hp;rcases zA.mp hq with rfl|hq
   ·rw[show env.cells.lookup n=xk c from e];rfl
   ·exact hc q hq
  ·exact S8 (λy hy=>hn y (zV _ hy)) hc p hp
theorem Lr:∀{names:List (Str×j5)}{cs:List (Str×j1)},((x,.free)∈names∨∃c,(x,c)∈cs)->∃c,(x,c)∈Bx env names cs
 |[],cs,h=>by
  rcases h with h|h
  ·cases h
  ·exact h
 | (n,k)::r,cs,h=>by
  rw[Bx];split
  ·refine Lr ?_;rcases h with h|⟨c,h⟩
   ·rcases zA.mp h with e|h
    ·cases e;exact .inr ⟨_,zY⟩
    ·exact .inl h
   ·exact .inr ⟨c,zV _ h⟩
  ·rename_i hk;refine Lr ?_;rcases h with h|h
   ·rcases zA.mp h with e|h
    ·cases e;exact absurd rfl hk
    ·exact .inl h
   ·exact .inr h
theorem Og{c:j1}:∀{l:List (Str×j1)},(x,c)∈l->∃d,l.lookup x=xk d
 |[],h=>by cases h
 | (y,d)::l,h=>by
  by_cases e:x=y
  ·subst e;exact⟨d,by simp⟩
  ·rcases zA.mp h with z|h
   ·cases z;exact absurd rfl e
   ·obtain⟨d',q⟩:=Og h;exact⟨d',by rw[qE,beq_eq_false_iff_ne.mpr e];exact q⟩
theorem Z7(x:Str):(relabel scope env).names.lookup x=(scope.names.lookup x).map λk=>if(k==NameKind.free&&env.scope.kind == .function&&env.kindOf x==xk .cell)=x0 then .cell else k:=by
 unfold relabel;generalize scope.names=l
 induction l with
 |nil=>rfl
 | cons y r ih=>
  obtain⟨n,k⟩:=y;by_cases e:x=n
  ·subst e;simp only[zK]
   cases hc:(k==NameKind.free&&env.scope.kind==ScopeKind.function&&env.kindOf x==xk NameKind.cell) <;>
    simp only[hc,if_true,qE,beq_self_eq_true,Option.map_some,Bool.false_eq_true,if_false]
  ·have hb:(x==n)=xA:=beq_eq_false_iff_ne.mpr e;simp only[zK];split
   ·rw[qE,qE,hb];exact ih
   ·rw[qE,qE,hb];exact ih
def blk(X:Cx)(N:List Str)(scope:j7)(C:j1)(s₀:j8)(H₀:Hp)(ex:List j1):Cx where
 prog:=X.prog
 w:=X.w
 K:=X.K
 mg:=X.mg
 base:=X.base
 A:=X.A
 N:=N
 s₀:=s₀
 H₀:=H₀
 env:=compEnvC scope (Bx X.env scope.names []) C X.env
 outer:=X.stack
 stack:=X.stack
 ex:=ex
 fn:=λ_=>xA
 calm:=X.calm
 pn:=[]
 xe:=λ_ _=>False
structure CompSc (X:Cx) (N:List Str) (scope:j7) (nt:Nat) (caps:List Nat):Prop where
 kind:scope.kind=.function
 names:∀y∈scope.names,y.2=.local->scope.names.lookup y.1=xk .local
 nocell:∀y∈scope.names,y.2≠ .cell
 free:∀y∈scope.names,y.2=.free->X.env.kindOf y.1=xk .cell∨X.env.kindOf y.1=xk .free
 nd:N.Nodup
 len:N.length=nt+caps.length
 cap:∀(k j:Nat),caps[k]?=xk j->∃x,X.N[j]?=xk x/\N[nt+k]?=xk x/\scope.names.lookup x=xk .free
section
variable{X:Cx}{xw:List (j1×Obj)}{σ:St}{H:Hp}{s:j8}{N:List Str}{scope:j7}{nt:Nat}{caps:List Nat}
theorem CompSc.cells(c:CompSc X N scope nt caps)(ok:X.Ok):∀y∈scope.names,y.2=.free->∃c,X.env.cells.lookup y.1=xk c:=λy hy hk=>ok.has y.1 (c.free y hy hk)
theorem CompSc.cl(c:CompSc X N scope nt caps)(ok:X.Ok){d:j1}(h:(Bx X.env scope.names []).lookup x=xk d):X.env.cells.lookup x=xk d:=
 S8 (c.cells ok) (λp hp=>by cases hp) (x,d) (PySem.mem_of_lookup h)
theorem ZFV(c:CompSc X N scope nt caps)(I:Inv X xw σ H s){fp:List j1}(hf:∀b∈fp,FpOk X xw H b){C:j1}(hC:s.heap.objs.size<=C)(hCf:C∉fp):(blk X N scope C s H fp).Ok where
 mod:=I.ok.mod
 kind:=c.kind
 glob:=I.ok.glob
 blt:=I.ok.blt
 above:=hC
 inj:=λx y d h1 h2=>I.ok.inj x y d (c.cl I.ok h1) (c.cl I.ok h2)
 has:=λx h=>by
  have h':(relabel scope X.env).names.lookup x=xk .cell∨(relabel scope X.env).names.lookup x=xk .free:=h;rw[Z7]at h';have hfree:scope.names.lookup x=xk .free:=by
   cases e:scope.names.lookup x with
   |none=>rw[e]at h';rcases h' with h'|h'<;>cases h'
   |some k=>
    rw[e]at h';cases k with
    |free=>rfl
    |cell=>exact absurd rfl (c.nocell _ (PySem.mem_of_lookup e))
    |_=>rcases h' with h'|h'<;>(simp at h')
  obtain⟨d,hd⟩:=Lr (env:=X.env) (x:=x) (names:=scope.names) (cs:=[]) (.inl (PySem.mem_of_lookup hfree));exact Og hd
 cab:=λx d h=>by cases h
 hd:=I.ok.hd
 frames:=I.ok.frames
 stk:=.inl rfl
 exf:=λb hb=>⟨λz=>hCf (by rw[<-show b=C from z];exact hb),λx d h=>(hf b hb).2.2.2.2.1 x d (c.cl I.ok h)⟩
 bs:=I.bs
 bsz:=zk I.ok.bsz I.sz
 noex:=λb o e hb=>by
  rcases(hf b hb).2.2.2.1 with h|h
  ·exact I.ok.noex b o e h
  ·exact absurd (zW (zx (I.ok.bs b o e).1) h) (qQ _)
 exfs:=λb hb hz=>by
  rcases zA.mp (I.Lj b hz)with z|z
  ·exact(hf b hb).2.1 z
  ·exact(hf b hb).2.2.1 z
 funs:=I.stack
 frf:=I.X4
end
def Bc(g:DG)(c:DB)(te:DE)(S:DSt):List D->DH->R (List D)
 |[],G=>.ok [] G
 | x::xs,G=>(g x S G).bind λS1 G1=>(c S1 G1).bind λk G2=>
   if k=x0 then(te S1 G2).bind λd G3=>(Bc g c te S xs G3).bind λds G4=>.ok (d::ds) G4 else Bc g c te S xs G2
def Ft(i:Nat)(g:DG)(c:DB)(te:DE)(S:DSt):Nat->Nat->DH->R (List D)
 |0,j,G=>match G[i]? with
  |some (.lst xs)=>if xs.length<=j then .ok [] G else .bad
  |_=>.bad
 | n + 1,j,G=>match G[i]? with
  |some (.lst xs)=>match xs[j]? with
   | some x=>(g x S G).bind λS1 G1=>(c S1 G1).bind λk G2=>
     if k=x0 then(te S1 G2).bind λd G3=>(Ft i g c te S n (j+1) G3).bind λds G4=>.ok (d::ds) G4 else Ft i g c te S n (j+1) G2
   |none=>.ok [] G
  |_=>.bad
def Bp(f:Nat->DH->Option (Option D))(g:DG)(c:DB)(te:DE)(S:DSt):Nat->Nat->DH->R (List D)
 |0,j,G=>match f j G with
  |some xy=>.ok [] G
  |_=>.bad
 | n + 1,j,G=>match f j G with
  |some (xk x)=>(g x S G).bind λS1 G1=>(c S1 G1).bind λk G2=>
     if k=x0 then(te S1 G2).bind λd G3=>(Bp f g c te S n (j+1) G3).bind λds G4=>.ok (d::ds) G4 else Bp f g c te S n (j+1) G2
  |some xy=>.ok [] G
  |none=>.bad
noncomputable def Ar(nt:Nat)(caps:List Nat)(S:DSt):DSt:=zP nt xy++caps.map λj=>(S[j]?).join
def Bm(it:DI)(nt:Nat)(caps:List Nat)(g:DG)(c:DB)(te:DE):DE:=λS G=>(it S G).bind λJ G1=>(match J with
 |.pure xs=>Bc g c te (Ar nt caps S) xs G1
 |.mt i=>match G1[i]? with
  |some (.lst xs)=>Ft i g c te (Ar nt caps S) xs.length 0 G1
  |_=>.bad
 |.fn n f=>Bp f g c te (Ar nt caps S) n 0 G1).bind Ae
noncomputable def Aw:DB:=λ_ G=>.ok x0 G
def GK(nt:Nat)(g:DG):Prop:=∀d S G S1 G1,g d S G=.ok S1 G1->∀i e,nt<=i->S[i]?=xk (xk e)->S1[i]?=xk (xk e)
def GKs(nt:Nat)(g:DGs):Prop:=∀d S G S1 G1,g d S G=.ok S1 G1->∀i e,nt<=i->S[i]?=xk (xk e)->S1[i]?=xk (xk e)
theorem ZEs(h:i<nt):GK nt (gV i):=λd S G S1 G1 e j x hj hx=>by cases e;rw[zE (by lia)];exact hx
theorem ZCS:GKs nt Dn:=λd S G S1 G1 e j x hj hx=>by
 cases d with
 |nil=>cases e;exact hx
 |cons _ _=>cases e
theorem ZDg{t:DG}{u:DGs}(h1:GK nt t)(h2:GKs nt u):GKs nt (Bg t u):=λd S G S1 G1 e j x hj hx=>by
 cases d with
 |nil=>cases e
 |cons a r=>
  have e':(t a S G).bind (λS1 G1=>u r S1 G1)=.ok S1 G1:=e;cases ht:t a S G with
  |ok S2 G2=>rw[ht]at e';exact h2 _ _ _ _ _ e' j x hj (h1 _ _ _ _ _ ht j x hj hx)
  |err _ _=>rw[ht]at e';cases e'
  |bad=>rw[ht]at e';cases e'
theorem ZE1{t:DGs}(h:GKs nt t):GK nt (Cq n t):=λd S G S1 G1 e j x hj hx=>by
 cases d with
 |tup ds=>
  unfold Cq at e;dsimp only at e;split at e
  ·exact h _ _ _ _ _ e j x hj hx
  ·cases e
 |_=>cases e
theorem ZCn{r:R DSt}{f:DSt->DH->R D}(h:out E a (r.bind f) Q):
  Bq E a r (λσ H=>∃(b:Wd)(S:DSt)(G:DH),b.H=H/\Ext a b/\Sim b G/\RepS b S σ/\r=.ok S G/\out E b (f S G) Q):=by
 cases r with
 |ok d G=>exact λb v x s q=>⟨b,d,G,rfl,x,s,q,rfl,out.mono x h⟩
 |err e G=>exact h
 |bad=>exact h
theorem R.bind_assoc{β γ:Type}(r:R α)(f:α->DH->R β)(g:β->DH->R γ):(r.bind f).bind g=r.bind λa G=>(f a G).bind g:=by cases r<;>rfl
theorem V3{r:R ItD}{f:ItD->DH->R D}(h:out E a (r.bind f) Q):
  outI E a r (λJ H=>∃(b:Wd)(d:ItD)(G:DH),b.H=H/\Ext a b/\Sim b G/\RepI b d J/\r=.ok d G/\out E b (f d G) Q):=by
 cases r with
 |ok d G=>exact λb v x s q=>⟨b,d,G,rfl,x,s,q,rfl,out.mono x h⟩
 |err e G=>exact h
 |bad=>exact h
section
variable{prog:j6}{w:jB}{A:j2}{R':Result->j8->Prop}{s:j8}
def CItem(prog:j6)(w:jB)(A:j2)(target elt:j3)(ifs:List j3)(acc:jA)(env:Env)(P:j8->Prop)(v:jA)(s:j8):Prop:=
 jS (jM prog w) A (assign target env v) (λ_ s₂=>
  jS (jM prog w) A (forIn ifs x0 λc r=>if r=x0 then do let ok<-isTrue c env (eval c env);pure (ForInStep.yield ok)else pure (ForInStep.yield r)) (λok s₃=>
   if ok=x0 then jS (jM prog w) A (eval elt env) (λx s₄=>jS (jM prog w) A (call (.builtin "list.append") [acc,x]) (λ_ s₅=>P s₅) (λ_ _=>False) s₄) (λ_ _=>False) s₃
   else P s₃) (λ_ _=>False) s₂) (λ_ _=>False) s
def CTurn(prog:j6)(w:jB)(A:j2)(target elt:j3)(ifs:List j3)(it acc:jA)(env:Env)(R' P:j8->Prop)(s:j8):Prop:=
 jS (jM prog w) A (pyNext it) (λr s₁=>match r with
  |none=>R' s₁
  |some v=>jS (jM prog w) A (jI target it v) (λ_ s₁=>CItem prog w A target elt ifs acc env P v s₁) (λ_ _=>False) s₁) (λ_ _=>False) s
theorem ZDJ{elt target iter:j3}{ifs:List j3}{it acc:jA}(I:Nat->j8->Prop)
  (turn:∀n s,I n s->CTurn prog w A target elt ifs it acc env (R' (.ok .next)) (λs'=>∃m,m<n/\I m s') s)
  (n:Nat) (h:I n s):
  codeAny (jM prog w) A (.compLoop (.ListComp elt [⟨target,iter,ifs,0⟩] scope pos) 0 it acc env) R' s:=by
 refine codeAny_loop rfl I (λn s hI=>?_) n h
 show jS _ A ((compTurn (.ListComp elt [⟨target,iter,ifs,0⟩] scope pos) 0 it acc env).onRaise (λx=>do noteFrame x env;theTreesLotGoes x)) _ _ s
 refine wpAny_noted ?_;rw[compTurn_list];refine xX ?_ (λ_ _ q=>q) (λ_ _(f:False)=>f.elim);refine jT (wpAny_standAt (jT (xX (turn n s hI) (λr s₁ h₁=>?_) λ_ _ h'=>h')));cases r with
 |none=>exact xK h₁
 | some v=>
  refine jT (xX h₁ (λ_ s₂' h₁=>?_) λ_ _ h'=>h');refine jT (xX h₁ (λ_ s₂ h₂=>jT (xX h₂ (λok s₃ h₃=>?_) λ_ _ h'=>h')) λ_ _ h'=>h');cases ok with
  |false=>exact xK ⟨rfl,h₃⟩
  |true=>
   exact jT (jT (xX h₃ (λx s₄ h₄=>jT (xX h₄ (λ_ s₅ h₅=>xK (xK ⟨rfl,h₅⟩)) λ_ _ h'=>h')) λ_ _ h'=>h'))
end
def QTs(X:Cx)(E:XK)(ifs:List j3)(t:DB):Prop:=
 ∀(xw:List (j1×Obj))(s:j8)(σ:St)(H:Hp)(Q:Bool->Hp->Prop),Inv X xw σ H s->lB X.K E t σ H Q->
  jS (jM X.prog X.w) X.A (forIn ifs x0 λc r=>if r=x0 then do let ok<-isTrue c X.env (eval c X.env);pure (ForInStep.yield ok)else pure (ForInStep.yield r)) (TP X xw σ Q) X.xe s
theorem ZFc:QTs X E [] Aw:=λxw s σ H Q I h=>by obtain⟨a,S,G,hk,rfl,sm,r,h⟩:=h;exact wpAny_tests_nil ⟨a.H,I,h a (Ext.refl a) sm⟩
theorem ZBd{c:j3}{t:DB}(hc:QT X E c t):QTs X E [c] t:=λxw s σ H Q I h=>wpAny_tests_one (hc xw s σ H Q I h)
section
variable{X:Cx}{E:XK}{N:List Str}{scope:j7}{nt:Nat}{caps:List Nat}{tg elt iter:j3}{ifs:List j3}{pos:Pos}{it:DI}{g:DG}{c:DB}{te:DE}
theorem ZCb(r:RepS a S σ):RepS a (Ar nt caps S) (zP nt xy++caps.map λj=>(σ[j]?).join):=by
 refine⟨by simp[Ar],λi d h=>?_⟩;unfold Ar at h;by_cases hi:i<nt
 ·rw[zG (by simpa using hi),qD]at h
  split at h<;>cases h
 ·rw [zN (by simpa using hi),z0]at h;rw[zN (by simpa using hi),z0];rw[jj]at h⊢;cases e:caps[i-nt]? with
  |none=>rw[e]at h;cases h
  | some j=>
   rw[e]at h;have h1:(S[j]?).join=xk d:=by simpa using h
   have h2:S[j]?=xk (xk d):=by
    cases q:S[j]? with
    |none=>rw[q]at h1;cases h1
    |some o=>
     rw[q]at h1;have h1':o=xk d:=h1;rw[h1']
   obtain⟨v,ev,rv⟩:=r.get j d h2;exact⟨v,by simp[ev],rv⟩
theorem ZCo(h:(Ar nt caps S)[i]?=xk (xk d)):nt<=i:=by
 unfold Ar at h;by_cases hi:i<nt
 ·rw[zG (by simpa using hi),qD]at h
  split at h<;>cases h
 ·lia
theorem Q9(hc:X.calm=x0)(cs:CompSc X N scope nt caps)
  (hg:∀C s₀ H₀ ex,QG (blk X N scope C s₀ H₀ ex) E0 tg g) (gk:GK nt g) (hts:∀C s₀ H₀ ex,QTs (blk X N scope C s₀ H₀ ex) E0 ifs c) (he:∀C s₀ H₀ ex,QE (blk X N scope C s₀ H₀ ex) E0 elt te)
  {xw:List (j1×Obj)} {σ:St} {s:j8} {a:Wd} {S:DSt} {G:DH} {J:It} {n0:Nat} {f:Nat->DH->Option (Option D)} {i0:j1} {fp:List j1} {tn:Nat->Heap->Prop} (I:Inv X xw σ a.H s) (hk:a.K=X.K) (sm:Sim a G) (rS:RepS a S σ)
  (T:Turn X.prog X.w X.K tg J fp i0 tn) (t0:tn 0 s.heap) (hf:∀b∈fp,FpOk X xw a.H b) (rJ:RepI a (.fn n0 f) J) {Q:VK}
  (h:out E0 a ((Bp f g c te (Ar nt caps S) n0 0 G).bind Ae) Q)
  {RR:jA->j1->Result->j8->Prop} {E':jA->j8->Prop}
  (hRR:∀(D C:j1)(s':j8)(b:Wd)(vs:List V),Inv X xw σ (upd b.H D (.lst vs)) s'->b.H D=xy->s.heap.objs.size<=C->D≠C->(∃m,s'.heap.Ns C m)->b.H C=xy->Q (.ref D) (upd b.H D (.lst vs))->RR (.ref D) C (.ok .next) s'):
  jS (jM X.prog X.w) X.A (newList []) (λacc s₃=>jS (jM X.prog X.w) X.A (newFunctionEnv scope X.env.globals (Bx X.env scope.names []) [] X.env.qual xy .none (xk X.env)) (λcenv s₄=>
   codeAny (jM X.prog X.w) X.A (.compStart (.ListComp elt [⟨tg,iter,ifs,0⟩] scope pos) 0 (.ref i0) acc {cenv with scope:=relabel scope X.env}) (RR acc cenv.locals) s₄) E' s₃) E' s:=by
 refine xV (wpAny_newFunctionEnv cs.nocell (by intro y hy;simp at hy) (λh₁ hns₁ hsb₁=>?_) cs.kind);dsimp only at hns₁ hsb₁⊢;generalize hH2:s.heap.push {cls:=.type "list",dict:=xy,data:=.seq ([]:List jA).toArray}=H2 at hns₁ hsb₁⊢;have hC:H2.objs.size=s.heap.objs.size+1:=by rw[<-hH2,q8]
 have hDC:s.heap.objs.size≠H2.objs.size:=by rw[hC];exact zB (qY _)
 have hCle:s.heap.objs.size<=H2.objs.size:=by rw[hC];exact jX _
 have fpOld:∀b∈fp,b<s.heap.objs.size:=λb hb=>by obtain⟨o,e,_⟩:=T.obj 0 _ t0 b hb;exact zx e
 have hDf:s.heap.objs.size∉fp:=λhm=>qQ _ (fpOld _ hm)
 have hCf:H2.objs.size∉fp:=λhm=>by have:=fpOld _ hm;rw[hC]at this;exact qQ _ (Nat.lt_of_succ_lt this)
 have old:∀b o,s.heap.get? b=xk o->h₁.get? b=xk o:=λb o e=>
  hsb₁.extBut b o (by rw[hC];exact zB (jK (zx e))) (zZ _ (hH2▸zZ _ e))
 have hacc:h₁.PlainList s.heap.objs.size ([]:List jA).toArray:=⟨_,hsb₁.extBut _ _ hDC (zZ _ (hH2▸zy _ rfl))⟩;generalize hCe:H2.objs.size=C at*;generalize hDe:s.heap.objs.size=Dd at*;let B:=blk X N scope C s a.H fp;have okB:B.Ok:=ZFV cs I hf (by rw[hDe];exact hCle) hCf;let σ0:St:=zP nt xy++caps.map λj=>(σ[j]?).join
 have start:∀tk,Inv B [] σ0 a.H {s with heap:=h₁,toks:=tk}:=λtk=>by
  refine⟨okB,rfl,I.bare,Un.kept old,⟨_,hns₁,λi x v e1 e2 e3=>?_⟩,λx d' e=>?_,I.hok.fresh (by rw[hDe];exact hCle),λx d' e=>?_,λp hp=>?_,I.hok.kept old,?_⟩
  ·have hi:nt<=i:=by
    by_cases hi:i<nt
    ·have e2':σ0[i]?=xk (xk v):=e2;rw[zG (by simpa using hi),qD]at e2'
     split at e2'<;>cases e2'
    ·lia
   have e2':σ0[i]?=xk (xk v):=e2;rw[zN (by simpa using hi),z0,jj]at e2';cases ej:caps[i-nt]? with
   |none=>rw[ej]at e2';cases e2'
   | some j=>
    rw[ej]at e2';have h1:(σ[j]?).join=xk v:=by simpa using e2'
    have h2:σ[j]?=xk (xk v):=by
     cases q:σ[j]? with
     |none=>rw[q]at h1;cases h1
     |some o=>
      rw[q]at h1;have h1':o=xk v:=h1;rw[h1']
    obtain⟨y,ey,en,ek⟩:=cs.cap (i-nt) j ej;have exy:x=y:=by
     have:nt+(i-nt)=i:=by lia
     rw[this]at en;have e1':N[i]?=xk x:=e1;rw[e1']at en;exact Option.some.inj en
    subst exy;have kx:=cs.free (x,.free) (PySem.mem_of_lookup ek) rfl;have vis:Vis X.env.scope x:=by
     rcases kx with kx|kx
     ·exact .inr (.inl kx)
     ·exact .inr (.inr kx)
    obtain⟨m,hn,hl⟩:=I.loc;obtain⟨u,ru,lk⟩:=hl j x v ey h2 vis;refine⟨u,ru,?_⟩;rcases lk with⟨k1,_⟩|⟨k1,c1,ec,hcell⟩
    ·rcases kx with kx|kx
     ·rw[k1]at kx;cases kx
     ·rw[k1]at kx;cases kx
    ·refine .inr ⟨?_,c1,?_,?_⟩
     ·show(relabel scope X.env).names.lookup x=xk .cell∨(relabel scope X.env).names.lookup x=xk .free;rw[Z7,ek];simp only[Option.map_some];split
      ·exact .inl rfl
      ·exact .inr rfl
     ·obtain⟨d1,hd1⟩:=Lr (env:=X.env) (x:=x) (names:=scope.names) (cs:=[]) (.inl (PySem.mem_of_lookup ek));obtain⟨d2,hd2⟩:=Og hd1;have:=cs.cl I.ok hd2;rw[ec]at this;cases this;exact hd2
     ·obtain⟨o,e,dd⟩:=hcell;exact⟨o,old _ _ e,dd⟩
  ·obtain⟨v,o,e',dd⟩:=I.cell x d' (cs.cl I.ok e);exact⟨v,o,old _ _ e',dd⟩
  ·exact I.Eh x d' (cs.cl I.ok e)
  ·exact absurd hp (by simp[B,blk])
  ·show σ0.length=N.length;rw[cs.len];simp[σ0]
 have rS0:RepS a (Ar nt caps S) σ0:=ZCb rS;have aD:a.H Dd=xy:=I.hok.fresh (by rw[hDe];exact zq _);have young:∀b∈fp,b≠C:=λb hb z=>hCf (z▸hb)
 have fpB:∀{H':Hp}{ps:List (j1×Obj)},(∀b∈fp,H' b=xy)->(∀p∈ps,p.1∉fp)->∀b∈fp,FpOk B ps H' b:=λ{H' ps}hn hps b hb=>
  ⟨hn b hb,young b hb,okB.exfs b hb,.inl hb,λx d' e=>(hf b hb).2.2.2.2.1 x d' (cs.cl I.ok e),λp hp z=>by
   have hp':p∈ps:=by simpa[B,blk]using hp
   exact hps p hp' (z▸hb)⟩
 have nstk:Dd∉frs X.stack:=λz=>by
  rcases zA.mp (I.Lj Dd z)with z|z
  ·have:=I.lt;rw[hDe,<-z]at this;exact qQ _ this
  ·exact I.nofs (by rw[hDe];exact zq _) z
 have pinD:∀{σ':St}{H':Hp}{s':j8}{its:List jA}{nD:Nat},Inv B [] σ' H' s'->s'.heap.get? Dd=xk {cls:=.type "list",data:=.seq its.toArray nD}->H' Dd=xy->Inv B [(Dd,{cls:=.type "list",data:=.seq its.toArray nD})] σ' H' s':=λ{σ' H' s' its nD}J e n=>
  J.G8 λp hp=>by
   have ep:p=(Dd,{cls:=.type "list",data:=.seq its.toArray nD}):=by simpa using hp
   subst ep;exact⟨e,n,hDC,nstk,λv' z=>by cases z⟩
 have fin:∀(s':j8)(b:Wd)(σ':St)(its:List jA)(ds:List D)(G':DH),Inv B [] σ' b.H s'->Ext a b->Sim b G'->s'.heap.PlainList Dd its.toArray->b.H Dd=xy->(∃vs,Vals vs its/\Reps b ds vs)->out E0 b (Ae ds G') Q->RR (.ref Dd) C (.ok .next) s':=by
  intro s' b σ' its ds G' IB x sb pl hD ⟨vs,hv,rv⟩ hq;have hz:ds.length<=1000000:=by
   unfold Ae at hq;split at hq
   ·assumption
   ·exact hq.elim
  have Ix:Inv X xw σ b.H s':=I.call' IB.os IB.base IB.hok IB.bare λb hb=>⟨(hf b hb).2.2.2.1,(hf b hb).2.1,(hf b hb).2.2.2.2.1,(hf b hb).2.2.2.2.2⟩
  obtain⟨n,eD⟩:=pl;have ylt:∀{q:j1}{o:Obj},s.heap.get? q=xk o->q≠Dd:=λe z=>by rw[z,<-hDe]at e;exact absurd (zx e) (qQ _)
  have Ia:Inv X xw σ (upd b.H Dd (.lst vs)) s':=by
   refine Yk Ix hD (by rw[<-hDe];exact I.sz) ?_ (λy c' ec=>?_) (λp hp=>?_) ⟨?_,its,n,hv,eD⟩
   ·rw[<-hDe];exact qI I.lt
   ·obtain⟨v,o,e,_⟩:=I.cell y c' ec;exact ylt e
   ·exact ylt (I.pin p hp).1
   ·rw[<-rv.length];exact zk hz size6
  refine hRR Dd C s' b vs Ia hD hCle hDC (let⟨m,hn,_⟩:=IB.loc;⟨m,hn⟩) IB.free ?_;unfold Ae at hq;rw[if_pos hz]at hq;exact Iz sb rv hq Dd hD
 have turnX:∀(P:j8->Prop)(rest:DH->R (List D))(s1:j8)(b:Wd)(G1:DH)(σ1:St)(its:List jA)(acc:List D)(u:jA)(v:V)(x:D)(i:Nat),Inv B [] σ1 b.H s1->Ext a b->Sim b G1->RepS b (Ar nt caps S) σ1->tn i s1.heap->(∀q∈fp,b.H q=xy)->
   s1.heap.PlainList Dd its.toArray->b.H Dd=xy->(∃vs,Vals vs its/\Reps b acc vs)->RelV v u->Rep b x v->
   out E0 b (((g x (Ar nt caps S) G1).bind λS1 G1=>(c S1 G1).bind λk G2=>if k=x0 then(te S1 G2).bind λd G3=>(rest G3).bind λds G4=>.ok (d::ds) G4 else rest G2).bind λds G=>Ae (acc++ds) G) Q->
   (∀(s2:j8)(b2:Wd)(G2:DH)(σ2:St)(its2:List jA)(acc2:List D),Inv B [] σ2 b2.H s2->Ext a b2->Sim b2 G2->RepS b2 (Ar nt caps S) σ2->tn i s2.heap->(∀q∈fp,b2.H q=xy)->
    s2.heap.PlainList Dd its2.toArray->b2.H Dd=xy->(∃vs,Vals vs its2/\Reps b2 acc2 vs)->out E0 b2 ((rest G2).bind λds G=>Ae (acc2++ds) G) Q->P s2)->
   CItem X.prog X.w X.A tg elt ifs (.ref Dd) B.env P u s1:=by
  intro P rest s1 b G1 σ1 its acc u v x i I1 x1 sb rSb t1 hfp pl hD hacc' ru rx hq next
  rw[R.bind_assoc]at hq;obtain⟨nD,eD⟩:=id pl;let pinD:List (j1×Obj):=[(Dd,{cls:=.type "list",data:=.seq its.toArray nD})];have pinOk:∀{σ':St}{H':Hp}{s':j8},Inv B (pinD++Hj fp s1.heap) σ' H' s'->s'.heap.PlainList Dd its.toArray/\H' Dd=xy/\tn i s'.heap/\∀q∈fp,H' q=xy:=λ{σ' H' s'}J=>by
   have p1:=J.pin (Dd,{cls:=.type "list",data:=.seq its.toArray nD}) (zL _ (jy _ (by simp[pinD])));refine⟨⟨nD,p1.1⟩,p1.2.1,T.keep _ _ _ t1 λq hq' o e=>(J.pin (q,o) (zL _ (zL _ (Lw hq' e)))).1,λq hq'=>?_⟩;obtain⟨o,e,_⟩:=T.obj _ _ t1 q hq';exact(J.pin (q,o) (zL _ (zL _ (Lw hq' e)))).2.1
  have I2:Inv B (pinD++Hj fp s1.heap) σ1 b.H s1:=I1.G8 λp hp=>by
   rcases qB.mp hp with hp|hp
   ·have e:p=(Dd,{cls:=.type "list",data:=.seq its.toArray nD}):=by simpa[pinD]using hp
    subst e;refine⟨eD,hD,hDC,λz=>?_,λv' z=>by cases z⟩;exact nstk z
   ·obtain⟨hb,e⟩:=Z1 hp;obtain⟨f0,f1,f2,_⟩:=fpB (ps:=[]) hfp (λp hp=>by cases hp) p.1 hb;obtain⟨o,e',dd⟩:=T.obj _ _ t1 p.1 hb;rw[e]at e';cases e';exact⟨e,f0,f1,f2,dd⟩
  refine thn (hg C s a.H fp _ s1 σ1 b.H v u _ I2 ru ⟨b,Ar nt caps S,G1,x,x1.k.trans hk,rfl,sb,rSb,rx,(ZCn hq).imp λ_ _ z=>z⟩) ?_;rintro _ s2 ⟨σ2,H2',J2,b2,S2,G2,rfl,y2,sb2,rS2,eg,hq2⟩;rw[R.bind_assoc]at hq2;have rS2':RepS b2 (Ar nt caps S) σ2:=⟨by have h1:=J2.len;have h2:σ1.length=N.length:=I1.len;rw[rSb.len,h2];exact h1.symm,λj e' hj=>rS2.get j e' (gk _ _ _ _ _ eg j e' (ZCo hj) hj)⟩
  refine thn (hts C s a.H fp _ s2 σ2 b2.H _ J2 ⟨b2,S2,G2,y2.k.trans (x1.k.trans hk),rfl,sb2,rS2,(Z2 hq2).imp λ_ _ z=>z⟩) ?_;rintro k s3 ⟨H3,J3,b3,G3,rfl,y3,sb3,_,hq3⟩;cases k with
  |false=>
   obtain⟨p1,p2,p3,p4⟩:=pinOk J3;have Jn:Inv B [] σ2 b3.H s3:=J3.G8 λp hp=>by cases hp
   obtain⟨vs,hv,rv⟩:=hacc'
   exact next s3 b3 G3 σ2 its acc Jn (x1.trans (y2.trans y3)) sb3 (rS2'.mono y3) p3 p4 p1 p2 ⟨vs,hv,(rv.mono y2).mono y3⟩ hq3
  | true=>
   have hq3':out E0 b3 (((te S2 G3).bind λd G3=>(rest G3).bind λds G4=>.ok (d::ds) G4).bind λds G=>Ae (acc++ds) G) Q:=hq3;rw[R.bind_assoc]at hq3';refine thn (he C s a.H fp _ s3 σ2 b3.H _ J3 ⟨b3,S2,G3,y3.k.trans (y2.k.trans (x1.k.trans hk)),rfl,sb3,rS2.mono y3,(Dm hq3').imp λ_ _ z=>z⟩) ?_;rintro w s4 ⟨vw,H4,J4,rw',b4,d4,G4,rfl,y4,sb4,q4,_,hq4⟩;obtain⟨p1,p2,p3,p4⟩:=pinOk J4;rw[R.bind_assoc]at hq4
   have hq4':out E0 b4 ((rest G4).bind λds G=>Ae ((acc++[d4])++ds) G) Q:=by
    have e:(λ(ds:List D)(G:DH)=>(R.ok (d4::ds) G).bind λds G=>Ae (acc++ds) G)=λds G=>Ae ((acc++[d4])++ds) G:=by funext ds G;simp
    rw[<-e];exact hq4
   obtain⟨vs,hv,rv⟩:=hacc';have hsz:its.toArray.size<=sizeLine:=by
    have:acc.length<=1000000:=by
     cases hr:rest G4 with
     |ok ds G5=>
      rw[hr]at hq4';have hq5:out E0 b4 (Ae ((acc++[d4])++ds) G5) Q:=hq4';unfold Ae at hq5;split at hq5
      ·rename_i hl;simp at hl;lia
      ·exact hq5.elim
     |err e' G5=>rw[hr]at hq4';exact(hq4'.1 rfl).elim
     |bad=>rw[hr]at hq4';exact hq4'.elim
    rw[zj,<-hv.length,<-rv.length];exact zk this size6
   refine wpAny_list_append_plain p1 (λh' hpl hsb=>?_) hsz;have Jn:Inv B [] σ2 b4.H s4:=J4.G8 λp hp=>by cases hp
   have J5:Inv B [] σ2 b4.H {s4 with heap:=h'}:=by refine Jn.turned (it:=Dd) (t':=s4.toks) (λq o hq' e=>(hsb.2 q hq').trans e) p2 hDC (.inr (by show s.heap.objs.size<=Dd;rw[hDe];exact zq _)) (λy c' ec=>?_) (λp hp=>absurd hp (by simp[B,blk]));obtain⟨v',o,e,_⟩:=I.cell y c' (cs.cl I.ok ec);intro z;rw[z,<-hDe]at e;exact absurd (zx e) (qQ _)
   refine next _ b4 G4 σ2 (its++[w]) (acc++[d4]) J5 (x1.trans (y2.trans (y3.trans y4))) sb4 ((rS2'.mono y3).mono y4) (T.keep _ _ _ p3 λq hq' o e=>(hsb.2 q (λz=>hDf (z▸hq'))).trans e) p4 (by simpa using hpl) p2 ⟨vs++[vw],hv.append (.cons rw' .nil),(((rv.mono y2).mono y3).mono y4).append (Reps.cons q4 Reps.nil)⟩ hq4'
 have loop:∀s₃:j8,s₃={s with heap:=h₁,toks:=s.toks+([]:List (Str×jA)).length}->
   codeAny (jM X.prog X.w) X.A (.compLoop (.ListComp elt [⟨tg,iter,ifs,0⟩] scope pos) 0 (.ref i0) (.ref Dd) B.env) (RR (.ref Dd) C) s₃:=by
  rintro s₃ rfl;have t1:tn 0 h₁:=T.keep _ _ _ t0 λq _ o e=>old q o e
  have fp0:∀q∈fp,a.H q=xy:=λq hq=>(hf q hq).1
  have walk:∀b:Wd,Ext a b->∀G,Sim b G->∀i,(∀d,f i G=xk (xk d)->J.go i b.H/\∀x H',J.yld i b.H x H'->∃c:Wd,c.H=H'/\Ext b c/\Sim c G/\Rep c d x)/\(f i G=xk xy->J.stop i b.H):=rJ;obtain⟨Iv,hIv⟩:∃Iv:Nat->j8->Prop,∀m s',Iv m s'↔∃(i:Nat)(b:Wd)(G':DH)(σ':St)(its:List jA)(acc:List D),Inv B [] σ' b.H s'/\Ext a b/\Sim b G'/\RepS b (Ar nt caps S) σ'/\tn i s'.heap/\(∀q∈fp,b.H q=xy)/\s'.heap.PlainList Dd its.toArray/\b.H Dd=xy/\(∃vs,Vals vs its/\Reps b acc vs)/\out E0 b ((Bp f g c te (Ar nt caps S) m i G').bind λds G=>Ae (acc++ds) G) Q:=⟨_,λ_ _=>Iff.rfl⟩
  refine ZDJ Iv (λm s' h'=>?_) n0 ((hIv _ _).2 ⟨0,a,G,σ0,[],[],start _,Ext.refl a,sm,rS0,t1,fp0,hacc,aD,⟨[],.nil,rfl⟩,by simpa using h⟩);obtain⟨i,b,G',σ',its,acc,IB,x,sb,rSb,ti,hfp,pl,hD,hac,hq⟩:=(hIv _ _).1 h';clear h';obtain⟨nD,eD⟩:=pl;have I0:=pinD IB eD hD;have f0:=fpB (ps:=[(Dd,{cls:=.type "list",data:=.seq its.toArray nD})]) hfp (λp hp=>by
   have ep:p=(Dd,{cls:=.type "list",data:=.seq its.toArray nD}):=by simpa using hp
   subst ep;exact hDf)
  have stop:J.stop i b.H->out E0 b (Ae acc G') Q->∀P,CTurn X.prog X.w X.A tg elt ifs (.ref i0) (.ref Dd) B.env (RR (.ref Dd) C (.ok .next)) P s':=by intro st hq' P;refine thn (T.done B rfl rfl rfl hc i _ s' σ' b.H _ I0 f0 ti st) ?_;rintro r s1 ⟨rfl,I2⟩;have pD:=(I2.pin (Dd,{cls:=.type "list",data:=.seq its.toArray nD}) (zL _ (by simp))).1;exact fin s1 b σ' its acc G' (I2.G8 λp hp=>by cases hp) x sb ⟨nD,pD⟩ hD hac hq'
  cases m with
  |zero=>
   unfold Bp at hq;split at hq
   ·rename_i hf;exact stop ((walk b x G' sb i).2 hf) (by have hq':out E0 b (Ae (acc++[]) G') Q:=hq;rw[qJ]at hq';exact hq') _
   ·exact hq.elim
  | succ m=>
   unfold Bp at hq;split at hq
   ·rename_i d1 hf;obtain⟨go,yl⟩:=(walk b x G' sb i).1 d1 hf;refine thn (T.item B rfl rfl rfl hc i _ s' σ' b.H _ I0 f0 ti go) ?_;rintro r s1 ⟨u,rfl,hgo⟩;refine thn hgo ?_;rintro _ s2 ⟨v,H',I2,ru,y,t2,hfp2⟩;obtain⟨cc,rfl,xx,ss,rd⟩:=yl v H' y;have pD:=I2.pin (Dd,{cls:=.type "list",data:=.seq its.toArray nD}) (zL _ (by simp));obtain⟨vs1,hv1,rv1⟩:=hac;refine turnX _ (λG3=>Bp f g c te (Ar nt caps S) m (i+1) G3) s2 cc G' σ' its acc u _ d1 (i+1) (I2.G8 λp hp=>by cases hp) (x.trans xx) ss (rSb.mono xx) t2 hfp2 ⟨nD,pD.1⟩ pD.2.1 ⟨vs1,hv1,rv1.mono xx⟩ ru rd (out.mono xx hq) ?_
    intro s3 b3 G3 σ3 its3 acc3 a1 a2 a3 a4 a5 a6 a7 a8 a9 a10;exact⟨m,qY _,(hIv _ _).2 ⟨i+1,b3,G3,σ3,its3,acc3,a1,a2,a3,a4,a5,a6,a7,a8,a9,a10⟩⟩
   ·rename_i hf;exact stop ((walk b x G' sb i).2 hf) (by have hq':out E0 b (Ae (acc++[]) G') Q:=hq;rw[qJ]at hq';exact hq') _
   ·exact hq.elim
 exact codeAny_compStart_list (loop _ rfl) (T.self _ 0 _ _ _ (T.keep _ _ _ t0 λq _ o e=>old q o e) (loop _ rfl))
theorem Qa{c:DB}:∀(n j:Nat)(G:DH),j+n=xs.length->Bc g c te S (xs.drop j) G=Bp (λj _=>xk xs[j]?) g c te S n j G
 |0,j,G,h=>by
  rw[qj (by lia)]
  show _=(match xk xs[j]? with |some xy=>R.ok [] G|_=>.bad)
  rw[zM (by lia)]
  rfl
 |n+1,j,G,h=>by
  have hj:j<xs.length:=by lia
  rw[zH hj]
  show(g xs[j] S G).bind _=(match xk xs[j]? with |some (xk x)=>_|some xy=>R.ok [] G|none=>.bad)
  rw[zQ hj];dsimp only
  congr 1
  funext S1 G1
  congr 1
  funext k G2;rw[Qa n (j+1) G2 (by lia)]
  congr 1
  congr 1
  funext d G3;rw[Qa n (j+1) G3 (by lia)]
theorem Ud{c:DB}:∀(n j:Nat)(G:DH),Ft i g c te S n j G=Bp (mtF i) g c te S n j G
 | 0,j,G=>by
  unfold Ft Bp mtF;cases G[i]? with
  |none=>rfl
  | some o=>
   cases o with
   |lst xs=>
    dsimp only;by_cases hj:j<xs.length
    ·rw[if_neg (by lia),zQ hj]
    ·rw[if_pos (by lia),zM (by lia)]
   |_=>rfl
 | n+1,j,G=>by
  have ih:(Ft i g c te S n (j+1))=Bp (mtF i) g c te S n (j+1):=funext λG=>Ud n (j+1) G
  unfold Ft Bp;rw[ih];unfold mtF;cases G[i]? with
  |none=>rfl
  | some o=>
   cases o with
   |lst xs=>
    dsimp only
    cases xs[j]?<;>rfl
   |_=>rfl
theorem Uq(hc:X.calm=x0)(cs:CompSc X N scope nt caps)
  (hg:∀C s₀ H₀ ex,QG (blk X N scope C s₀ H₀ ex) E0 tg g) (gk:GK nt g) (hts:∀C s₀ H₀ ex,QTs (blk X N scope C s₀ H₀ ex) E0 ifs c) (he:∀C s₀ H₀ ex,QE (blk X N scope C s₀ H₀ ex) E0 elt te)
  {xw:List (j1×Obj)} {σ:St} {s:j8} {a:Wd} {S:DSt} {G:DH} {J:It} {d:ItD} {i0:j1} {fp:List j1} {tn:Nat->Heap->Prop} (I:Inv X xw σ a.H s) (hk:a.K=X.K) (sm:Sim a G) (rS:RepS a S σ)
  (T:Turn X.prog X.w X.K tg J fp i0 tn) (t0:tn 0 s.heap) (hf:∀b∈fp,FpOk X xw a.H b) (rJ:RepI a d J) {Q:VK}
  (h:out E0 a ((match d with
   |.pure xs=>Bc g c te (Ar nt caps S) xs G
   |.mt i=>match G[i]? with
    |some (.lst xs)=>Ft i g c te (Ar nt caps S) xs.length 0 G
    |_=>.bad
   |.fn n f=>Bp f g c te (Ar nt caps S) n 0 G).bind Ae) Q)
  {RR:jA->j1->Result->j8->Prop} {E':jA->j8->Prop}
  (hRR:∀(D C:j1)(s':j8)(b:Wd)(vs:List V),Inv X xw σ (upd b.H D (.lst vs)) s'->b.H D=xy->s.heap.objs.size<=C->D≠C->(∃m,s'.heap.Ns C m)->b.H C=xy->Q (.ref D) (upd b.H D (.lst vs))->RR (.ref D) C (.ok .next) s'):
  jS (jM X.prog X.w) X.A (newList []) (λacc s₃=>jS (jM X.prog X.w) X.A (newFunctionEnv scope X.env.globals (Bx X.env scope.names []) [] X.env.qual xy .none (xk X.env)) (λcenv s₄=>
   codeAny (jM X.prog X.w) X.A (.compStart (.ListComp elt [⟨tg,iter,ifs,0⟩] scope pos) 0 (.ref i0) acc {cenv with scope:=relabel scope X.env}) (RR acc cenv.locals) s₄) E' s₃) E' s:=by
 cases d with
 |pure xs=>
  have h':out E0 a ((Bc g c te (Ar nt caps S) (xs.drop 0) G).bind Ae) Q:=h;rw[Qa xs.length 0 G (by lia)]at h';exact Q9 hc cs hg gk hts he I hk sm rS T t0 hf (Z0 rJ) h' hRR
 |mt k=>
  dsimp only at h;split at h
  ·rename_i xs hx;rw[Ud]at h;exact Q9 hc cs hg gk hts he I hk sm rS T t0 hf (Xd rJ) h hRR
  ·exact h.elim
 |fn n0 f=>exact Q9 hc cs hg gk hts he I hk sm rS T t0 hf rJ h hRR
end
section
variable{X:Cx}{N:List Str}{scope:j7}{nt:Nat}{caps:List Nat}{tg elt iter:j3}{ifs:List j3}{pos:Pos}{it:DI}{g:DG}{c:DB}{te:DE}
theorem letGo{xw:List (j1×Obj)}{s2 s':j8}{h':Heap}{C:j1}{t':Nat}{σ2:St}{H2:Hp}(I2:Inv X xw σ2 H2 s2)(Ia:Inv X xw σ H s')(hC:s2.heap.objs.size<=C)(hn:H C=xy)(hsb:qk C s'.heap h'):Inv X xw σ H {s' with heap:=h',toks:=t'}:=by
 have young:∀{b:j1}{o:Obj},s2.heap.get? b=xk o->b≠C:=λe z=>by rw[z]at e;exact absurd (zW (zx e) hC) (qQ _)
 refine Ia.turned (it:=C) (λb o hb e=>(hsb.2 b hb).trans e) hn (qI (zW I2.lt hC)) (.inr (zk I2.sz hC)) (λx c' e=>?_) λp hp=>?_
 ·obtain⟨v,o,e',_⟩:=I2.cell x c' e;exact young e'
 ·exact young (I2.pin p hp).1
theorem ZFT(hc:X.calm=x0)(cs:CompSc X N scope nt caps)(hi:QI X E0 tg iter it)
  (hg:∀C s₀ H₀ ex,QG (blk X N scope C s₀ H₀ ex) E0 tg g) (gk:GK nt g) (hts:∀C s₀ H₀ ex,QTs (blk X N scope C s₀ H₀ ex) E0 ifs c) (he:∀C s₀ H₀ ex,QE (blk X N scope C s₀ H₀ ex) E0 elt te)
  (hs:∀x,foldedSetIterable iter X.env x=pure x:=by intro _;rfl):QE X E0 (.ListComp elt [⟨tg,iter,ifs,0⟩] scope pos) (Bm it nt caps g c te):=by
 intro xw s σ H Q I h;obtain⟨a,S,G,hk,rfl,sm,r,h⟩:=h;rw[eval_ListComp];refine wpAny_comprehension_free (use:=xy) rfl hs (Uh (cs.cells I.ok)) cs.kind cs.names (thn (hi xw s σ a.H _ I ⟨a,S,G,hk,rfl,sm,r,(V3 h).imp λ_ _ z=>z⟩) λxv s1 h1=>thn h1 λitv s2 h2=>?_);obtain⟨i0,fp,tn,J,H2,rfl,I2,T,t0,f2,b,d,G1,rfl,x,sb,rJ,_,h1⟩:=h2;refine Uq hc cs hg gk hts he I2 (x.k.trans hk) sb (r.mono x) T t0 f2 rJ h1 (RR:=λacc C=>compPost (jM X.prog X.w) X.A X.xe xy (EP X xw σ Q) acc C) ?_
 intro D C s' b vs Ia hD hCle hDC ⟨m,hn⟩ hCn hq;refine⟨m,hn,λh' hsb=>⟨.ref D,_,letGo I2 Ia hCle ?_ hsb,rfl,hq⟩⟩;rw[Ag (Ne.symm hDC)];exact hCn
theorem ZHF(i:Nat){y:Str}{py spos:Pos}(hc:X.calm=x0)(hN:X.N.Nodup)(cs:CompSc X N scope nt caps)(hi:QI X E0 tg iter it)
  (hg:∀C s₀ H₀ ex,QG (blk X N scope C s₀ H₀ ex) E0 tg g) (gk:GK nt g) (hts:∀C s₀ H₀ ex,QTs (blk X N scope C s₀ H₀ ex) E0 ifs c) (he:∀C s₀ H₀ ex,QE (blk X N scope C s₀ H₀ ex) E0 elt te)
  (hy:X.N[i]?=xk y:=by rfl) (hx:Loc X.env.scope y:=by first|exact Or.inl rfl|exact Or.inr rfl) (hf:X.fn y=x0∨X.env.scope.names.lookup y=xk .local:=by first|exact .inl rfl|exact .inr rfl|assumption)
  (hsw:swapsWith (.ListComp elt [⟨tg,iter,ifs,0⟩] scope pos) (xk (.Name y py)) spos.line X.env=pure x0:=by rfl)
  (hs:∀x,foldedSetIterable iter X.env x=pure x:=by intro _;rfl):QS X E0 (.Assign [.Name y py] (.ListComp elt [⟨tg,iter,ifs,0⟩] scope pos) spos) (sAs (Bm it nt caps g c te) (gV i)):=by
 intro xw s σ H W I h;obtain⟨a,S,G,hk,rfl,sm,r,h⟩:=h;have h0:=Gs h;rw[exec_Assign_Name_used _ _ _ _ hsw];refine jT (wpAny_standAt (jT ?_))
 show jS _ X.A (do let _<-comprehension (.ListComp elt [⟨tg,iter,ifs,0⟩] scope pos) scope X.env _ (newList []) xA (eval iter X.env) (xk (assign (.Name y py) X.env))) _ _ s
 refine jT (xX (wpAny_comprehension_free (use:=xk (assign (.Name y py) X.env)) (Q:=λ_ s'=>SP X xw W .next s') rfl hs (Uh (cs.cells I.ok)) cs.kind cs.names
  (thn (hi xw s σ a.H _ I ⟨a,S,G,hk,rfl,sm,r,(V3 h0).imp λ_ _ z=>z⟩) λxv s1 h1=>thn h1 λitv s2 h2=>?_)) (λ_ s' hq=>xK (xK hq)) λ_ _ e=>e)
 obtain⟨i0,fp,tn,J,H2,rfl,I2,T,t0,f2,b,d,G1,rfl,x,sb,rJ,_,h1⟩:=h2
 refine Uq hc cs hg gk hts he I2 (x.k.trans hk) sb (r.mono x) T t0 f2 rJ h1 (RR:=λacc C=>compPost (jM X.prog X.w) X.A X.xe (xk (assign (.Name y py) X.env)) (λ_ s'=>SP X xw W .next s') acc C) ?_
 intro D C s' b' vs Ia hD hCle hDC ⟨m,hn⟩ hCn hq;show jS _ X.A (assign (.Name y py) X.env (.ref D)) _ _ _;refine wpAny_assign_Name (Vv Ia hN hy hx (v:=.ref D) rfl (λs'' I'' hch=>?_) hf);obtain⟨a',hsb',ha'⟩:=hch;have hCa:C≠a':=by
  rintro rfl;rcases ha' with rfl|ha'
  ·exact absurd (zW I2.lt hCle) (qQ _)
  ·obtain⟨v,o,e',_⟩:=I2.cell _ _ ha';exact absurd (zW (zx e') hCle) (qQ _)
 refine⟨m,hn.sameBut hsb' hCa,λh' hsb=>⟨_,_,letGo I2 I'' hCle ?_ hsb,?_⟩⟩
 ·rw[Ag (Ne.symm hDC)];exact hCn
 ·obtain⟨b3,d3,G3,e3,x3,s3,q3,_,h3⟩:=hq;rw[<-e3];exact h3 b3 _ (Ext.refl b3) s3 ((r.mono x3).set i q3)
end
def Lk:D->DH->R D
 |.int i,G=>.ok (.int (-i)) G
 |_,_=>.bad
noncomputable def Hg:D->Bool
 |.non=>x0
 |_=>xA
def Jt:D->D->DH->R D
 |d,.non,G=>.ok (.bl (!Hg d)) G
 |_,_,_=>.bad
noncomputable def Hl:D->Option V
 |.non=>xk .non
 |.bl b=>xk (.bl b)
 |.int i=>xk (.int i)
 |.str x=>xk (.str x)
 |_=>xy
def Gw:List D->Option (List V)
 |[]=>xk []
 |d::r=>match Hl d,Gw r with
  |some v,xk vs=>xk (v::vs)
  |_,_=>xy
def inD(d e:D)(G:DH):Option Bool:=match e with
 |.str j=>match d with
  |.str i=>xk (!(Builtin.Str.occurrences j i 0 j.length 1).isEmpty)
  |_=>xy
 |e=>match Ax e G,Hl d with
  |some xs,xk v=>(Gw xs).map λvs=>inV v vs
  |_,_=>xy
def Ib(d e:D)(G:DH):R D:=match inD d e G with
 |some k=>.ok (.bl (!k)) G
 |none=>.bad
section
variable{X:Cx}{E:XK}{a b:j3}{ta tb:DE}{pos:Pos}
theorem ZF5:UnR X (unaryOp .USub) (lR1 X.K E Lk):=λxw s σ H x v Q I rx h=>by
 obtain⟨a,G,d,hk,rfl,sm,rd,q⟩:=h;cases d with
 |int i=>exact ZGf xw s σ a.H x v Q I rx ⟨i,rd,q a _ (Ext.refl a) sm rfl⟩
 |_=>exact q.elim
theorem ZAx{op:UnaryOp}{f:D->DH->R D}(ho:UnR X (unaryOp op) (lR1 X.K E f))(ha:QE X E a ta):QE X E (.UnaryOp op a pos) (dUn f ta):=(ZEI ho ha).mono λσ H Q h=>by obtain⟨a,S,G,hk,rfl,s,r,h⟩:=h;refine⟨a,S,G,hk,rfl,s,r,(Dm h).imp ?_⟩;rintro v _ ⟨b,d,G1,rfl,x,s1,q,-,h1⟩;exact⟨b,G1,d,x.k.trans hk,rfl,s1,q,h1⟩
theorem ZCp{n:String}(hg:Gl X x)(hm:X.mg x=xy)(hv:jF x=xk (.type n))(hn:x≠"__name__":=by decide)(hd:(x==("__debug__":Str))=xA:=by decide):QE X E (.Name x pos) (dC (.ty n)):=
 (ZDn (v:=.ty n) hg hm hv rfl hn hd).mono λσ H Q h=>Ih h λ_ _=>rfl
theorem ZFp{a:Wd}{x:V}(rd:Rep a d x):decide (x=V.non)=Hg d:=by
 cases d with
 |non=>rw[show x=V.non from rd];rfl
 |bl _=>rw[show x=V.bl _ from rd];rfl
 |int _=>rw[show x=V.int _ from rd];rfl
 |str _=>rw[show x=V.str _ from rd];rfl
 |ty _=>rw[show x=V.ty _ from rd];rfl
 |tup _=>obtain⟨p,vs,rfl,_⟩:=rd;rfl
 |fl _=>obtain⟨p,vs,rfl,_⟩:=rd;rfl
 |ref _=>rw[rd.2];rfl
theorem ZFb:OpR X (jG .IsNot) (lR2 X.K E Jt):=Dr ZCg λa G d e x y Q hk s rd re q=>by
 cases e with
 |non=>exact⟨re,by rw[ZFp rd];cases d<;>exact q a _ (Ext.refl a) s rfl⟩
 |_=>cases d<;>exact q.elim
theorem Zv{a:Wd}{x:V}(r:Rep a d x)(h:Hl d=xk v):x=v/\Bl v=x0:=by
 cases d<;>first
  |(cases h;exact⟨r,rfl⟩)
  |cases h
theorem Zo{a:Wd}:∀{ds:List D}{xs vs:List V},Reps a ds xs->Gw ds=xk vs->xs=vs/\vs.all Bl=x0
 |[],xs,vs,r,h=>by cases h;exact⟨r,rfl⟩
 |d::ds,xs,vs,r,h=>by
  obtain⟨x,r',rfl,r1,r2⟩:=r;unfold Gw at h;split at h
  ·rename_i v ws h1 h2;cases h;obtain⟨e1,f1⟩:=Zv r1 h1;obtain⟨e2,f2⟩:=Zo r2 h2;subst e1;subst e2;exact⟨rfl,by rw[qO,f1,f2];rfl⟩
  ·cases h
theorem ZFL{a:Wd}{e:D}{x:V}{k:Bool}(s:Sim a G)(rd:Rep a d x)(re:Rep a e y)(h:inD d e G=xk k):
  (∃i j,x=.str i/\y=.str j/\k= !(Builtin.Str.occurrences j i 0 j.length 1).isEmpty)∨(∃p xs,y=.ref p/\(SqL a.K a.H p xs∨SqT a.K a.H p xs)/\Bl x=x0/\xs.all Bl=x0/\k=inV x xs):=by
 have seq:(match Ax e G,Hl d with |some xs,xk v=>(Gw xs).map λvs=>inV v vs|_,_=>xy)=xk k->(∃p xs,y=.ref p/\(SqL a.K a.H p xs∨SqT a.K a.H p xs)/\Bl x=x0/\xs.all Bl=x0/\k=inV x xs):=λh=>by
  split at h
  ·rename_i xs v h1 h2;obtain⟨p,ws,e1,q,r1⟩:=Ig s re h1;obtain⟨e2,f2⟩:=Zv rd h2;subst e2;rw[zD]at h;obtain⟨us,h3,h4⟩:=h;obtain⟨e3,f3⟩:=Zo r1 h3;subst e3;exact⟨p,ws,e1,q,f2,f3,h4.symm⟩
  ·cases h
 cases e with
 |str j=>
  cases d with
  |str i=>exact .inl ⟨i,j,rd,re,(Option.some.inj h).symm⟩
  |_=>cases h
 |tup xs=>exact .inr (seq h)
 |fl xs=>exact .inr (seq h)
 |ref i=>exact .inr (seq h)
 |_=>exact .inr (seq h)
theorem ZCF:OpR X (jG .NotIn) (lR2 X.K E Ib):=Dr (ZDv.or ZD3) λa G d e x y Q hk s rd re q=>by
 unfold Ib at q;split at q
 ·rename_i k h;have z:=q a _ (Ext.refl a) s rfl;rcases ZFL s rd re h with⟨i,j,e1,e2,rfl⟩|⟨p,xs,e1,hq,f1,f2,rfl⟩
  ·exact .inl ⟨i,j,e1,e2,z⟩
  ·exact .inr ⟨p,xs,e1,by rw[<-hk];exact hq,f1,f2,z⟩
 ·exact q.elim
end
theorem ZDV:jF "isinstance"=xk (.builtin "isinstance"):=by decide +kernel
theorem ZAz:jF "sum"=xk (.builtin "sum"):=by decide +kernel
theorem ZDD:jF "min"=xk (.builtin "min"):=by decide +kernel
theorem ZGD:jF "len"=xk (.builtin "len"):=by decide +kernel
theorem ZDA:jF "int"=xk (.type "int"):=by decide +kernel
theorem ZBZ:jF "bool"=xk (.type "bool"):=by decide +kernel
theorem ZBA:jF "tuple"=xk (.type "tuple"):=by decide +kernel
theorem ZCC:jF "list"=xk (.type "list"):=by decide +kernel
noncomputable def Gj:j5->Bool | .local=>x0|_=>xA
noncomputable def Hc:j5->Bool | .cell=>x0|_=>xA
noncomputable def Gd:j5->Bool | .free=>x0|_=>xA
noncomputable def isK(p:j5->Bool):Option j5->Bool|some k=>p k|none=>xA
theorem ZC8{k:j5}(h:Gj k=x0):k=.local:=by cases k<;>first|rfl|cases h
theorem ZCq{k:j5}(h:Hc k=x0):k=.cell:=by cases k<;>first|rfl|cases h
theorem Vh{k:j5}(h:Gd k=x0):k=.free:=by cases k<;>first|rfl|cases h
theorem Ku{p:j5->Bool}{k:j5}(hp:∀k',p k'=x0->k'=k){o:Option j5}(h:isK p o=x0):o=xk k:=by
 cases o with
 |none=>cases h
 |some k'=>rw[hp _ h]
def Mj(dn:List (Str×j5))(N0 N:List Str)(names:List (Str×j5))(nt:Nat)(caps:List Nat):Bool:=
 names.all (λy=>(!Gj y.2||isK Gj (names.lookup y.1)) && !Hc y.2&&(!Gd y.2||isK Hc (dn.lookup y.1)||isK Gd (dn.lookup y.1)))&&decide N.Nodup&&decide (N.length=nt+caps.length) &&
 (qw caps.length).all λk=>match caps[k]? with
  |some j=>match N0[j]? with
   |some x=>decide (N[nt+k]?=xk x)&&isK Gd (names.lookup x)
   |none=>xA
  |none=>x0
theorem W9{X:Cx}{N0 N:List Str}{nt:Nat}{caps:List Nat}{dn:List (Str×j5)}(hk:scope.kind=.function:=by rfl)(hdn:∀x,X.env.kindOf x=dn.lookup x:=by intro _;rfl)(hN:X.N=N0:=by rfl)
  (h:Mj dn N0 N scope.names nt caps=x0:=by decide +kernel):CompSc X N scope nt caps:=by
 unfold Mj at h;rw[zC,zC,zC]at h;obtain⟨⟨⟨h1,h2⟩,h3⟩,h4⟩:=h;rw[jv]at h1 h4;have key:=λ(y:Str×j5)(hy:y∈scope.names)=>(by have:=h1 y hy;rw[zC,zC]at this;exact this:((!Gj y.2||isK Gj (scope.names.lookup y.1))=x0/\(!Hc y.2)=x0)/\(!Gd y.2||isK Hc (dn.lookup y.1)||isK Gd (dn.lookup y.1))=x0)
 refine⟨hk,λy hy hl=>?_,λy hy hl=>?_,λy hy hl=>?_,of_decide_eq_true h2,of_decide_eq_true h3,λk j hj=>?_⟩
 ·have:=(key y hy).1.1;rw[hl]at this;exact Ku (p:=Gj) (λ_ h=>ZC8 h) (by have t:(xA||isK Gj (scope.names.lookup y.1))=x0:=this;simpa using t)
 ·have:=(key y hy).1.2;rw[hl]at this;exact absurd this (by decide)
 ·have:=(key y hy).2;rw[hl,Bool.or_eq_true]at this;rw[hdn];rcases this with h|h
  ·exact .inl (Ku (p:=Hc) (λ_ h=>ZCq h) (by have t:(xA||isK Hc (dn.lookup y.1))=x0:=h;simpa using t))
  ·exact .inr (Ku (p:=Gd) (λ_ h=>Vh h) h)
 ·have hk':k<caps.length:=(zJ.mp hj).1;have:=h4 k (List.mem_range.mpr hk');rw[hj]at this;dsimp only at this;cases e:N0[j]? with
  |none=>rw[e]at this;cases this
  |some x=>
   rw[e]at this;dsimp only at this;rw[zC]at this;exact⟨x,by rw[hN];exact e,of_decide_eq_true this.1,Ku (p:=Gd) (λ_ h=>Vh h) this.2⟩
section
section
variable{X:Cx}{xw:List (j1×Obj)}{σ:St}{H:Hp}{s:j8}
theorem ZE9{xs:List V}(I:Inv X xw σ H s)(h:H p=xk (.lst xs)):∃o,Inv X xw σ (upd H p (.frz o (.lst xs))) s:=by
 obtain⟨hl,its,n,r,e⟩:=I.hok p _ h;have nt:∀b(u:HO),H b=xk u->u≠ .lst xs->b≠p:=λb u q d z=>by subst z;rw[h]at q;exact d (Option.some.inj q).symm
 refine⟨_,I.un (t':=s.toks) (H':=upd H p (.frz {cls:=.type "list",data:=.seq its.toArray n} (.lst xs))) ⟨λb o q _ _ _=>q,λb o q _ _ _=>⟨o.slots,q⟩,λb o q z _=>?_,λb o q _=>⟨o,q⟩,λb ys q=>?_,λb o u q=>?_,λb ps q=>⟨#[],?_⟩⟩ ?_⟩
 ·rw[Ag (λz'=>by subst z';rw[h]at z;cases z)];exact z
 ·rw[Ag (nt b _ q (by intro z;cases z))];exact q
 ·rw[Ag (nt b _ q (by intro z;cases z))];exact q
 ·rw[Ag (nt b _ q (by intro z;cases z)),Array.append_empty];exact q
 ·intro b u q;by_cases hb:b=p
  ·subst hb;rw[Cp]at q;cases q;exact⟨e,hl,its,n,r,e⟩
  ·rw[Ag hb]at q;exact(I.hok b u q).stay (λc v _ z=>z) (λc z=>by rw[Ag (nt c _ z (by intro z;cases z))];exact z) λc ys z=>by rw[Ag (nt c _ z (by intro z;cases z))];exact z
def Fz(P:j1->Prop)(H H':Hp):Prop:=∀p,(H' p=H p/\(∀vs,H p=xk (.lst vs)->¬P p))∨∃o vs,P p/\H p=xk (.lst vs)/\H' p=xk (.frz o (.lst vs))
theorem Vm(I:Inv X xw σ H s)(m:Nat->j1)(n:Nat):∀k:Nat,∃H',Inv X xw σ H' s/\Fz (λp=>∃i,n<=i/\i<n+k/\p=m i) H H'
 |0=>⟨H,I,λp=>.inl ⟨rfl,λ_ _ ⟨i,h1,h2,_⟩=>by lia⟩⟩
 | k + 1=>by
  obtain⟨H',I',F⟩:=Vm I m n k;have keep:(∀vs,H' (m (n+k))≠xk (.lst vs))->Fz (λp=>∃i,n<=i/\i<n+(k+1)/\p=m i) H H':=λno p=>by
   rcases F p with⟨e,z⟩|⟨o,vs,⟨i,h1,h2,h3⟩,e1,e2⟩
   ·refine .inl ⟨e,λvs e1 ⟨i,h1,h2,h3⟩=>?_⟩;by_cases hi:i<n+k
    ·exact z vs e1 ⟨i,h1,hi,h3⟩
    ·have:i=n+k:=by lia
     subst this;subst h3;exact no vs (e.trans e1)
   ·exact .inr ⟨o,vs,⟨i,h1,by lia,h3⟩,e1,e2⟩
  cases hH:H' (m (n+k))with
  |none=>exact⟨H',I',keep λvs z=>by rw[hH]at z;cases z⟩
  | some u=>
   cases u with
   | lst vs=>
    obtain⟨o,I2⟩:=ZE9 I' hH;refine⟨_,I2,λp=>?_⟩;by_cases hp:p=m (n+k)
    ·subst hp;rcases F (m (n+k))with⟨e,z⟩|⟨o',vs',_,e1,e2⟩
     ·exact .inr ⟨o,vs,⟨n+k,by lia,by lia,rfl⟩,e.symm.trans hH,Cp⟩
     ·rw[hH]at e2;cases e2
    ·rcases F p with⟨e,z⟩|⟨o',vs',⟨i,h1,h2,h3⟩,e1,e2⟩
     ·refine .inl ⟨by rw[Ag hp];exact e,λvs' e1 ⟨i,h1,h2,h3⟩=>?_⟩;by_cases hi:i<n+k
      ·exact z vs' e1 ⟨i,h1,hi,h3⟩
      ·have:i=n+k:=by lia
       subst this;exact hp h3
     ·exact .inr ⟨o',vs',⟨i,h1,by lia,h3⟩,e1,by rw[Ag hp];exact e2⟩
   |_=>exact⟨H',I',keep λvs z=>by rw[hH]at z;cases z⟩
end
noncomputable def Ge(f:D->Option D):List D->Option (List D)
 |[]=>xk []
 |d::r=>match f d,Ge f r with
  |some d',xk r'=>xk (d'::r')
  |_,_=>xy
def Dk(G:DH)(n:Nat):Nat->D->Option D
 |0,_=>xy
 | k+1,d=>if bel n d=x0 then xk d else match d with
  |.ref i=>match G[i]? with
   |some (.lst xs)=>(Ge (Dk G n k) xs).map .fl
   |_=>xy
  |.tup xs=>(Ge (Dk G n k) xs).map .tup
  |.fl xs=>(Ge (Dk G n k) xs).map .fl
  |_=>xy
open Classical in
def freeze(G:DH)(r:R D):R D:=match r with
 | .ok d G'=>if G'.take G.length=G then(match Dk G' G.length 9 d with
   |some d'=>.ok d' G
   |none=>.ok d G')else .ok d G'
 |r=>r
def Ah(t:DE):DE:=λS G=>freeze G (t S G)
structure CutF (b c:Wd) (n:Nat):Prop where
 k:c.K=b.K
 n:c.n=n
 m:c.m=b.m
 tup:∀p xs,b.H p=xk (.tup xs)->c.H p=xk (.tup xs)
 frz:∀p o u,b.H p=xk (.frz o u)->c.H p=xk (.frz o u)
theorem CutF.sqT(x:CutF b c n){xs:List V}(h:SqT b.K b.H p xs):SqT c.K c.H p xs:=by
 rcases h with(h|⟨o,h⟩)|h
 ·exact .inl (.inl (x.tup _ _ h))
 ·exact .inl (.inr ⟨o,x.frz _ _ _ h⟩)
 ·exact .inr (by rw[x.k];exact h)
theorem CutF.fzL(x:CutF b c n){xs:List V}(h:FzL b.K b.H p xs):FzL c.K c.H p xs:=by
 rcases h with⟨o,h⟩|h
 ·exact .inl ⟨o,x.frz _ _ _ h⟩
 ·exact .inr (by rw[x.k];exact h)
mutual
theorem Rep.Dy(x:CutF b c n):∀{d:D}{v:V},Rep b d v->bel n d=x0->Rep c d v
 |.non,_,h,_=>h
 |.bl _,_,h,_=>h
 |.int _,_,h,_=>h
 |.str _,_,h,_=>h
 |.ty _,_,h,_=>h
 |.tup ds,v,h,q=>by obtain⟨p,vs,e,t,r⟩:=h;simp only[_D.bel]at q;exact⟨p,vs,e,x.sqT t,Reps.Dy x r q⟩
 |.fl ds,v,h,q=>by obtain⟨p,vs,e,t,r⟩:=h;simp only[_D.bel]at q;exact⟨p,vs,e,x.fzL t,Reps.Dy x r q⟩
 |.ref i,v,h,q=>by obtain⟨l,e⟩:=h;simp only[_D.bel]at q;have q':=of_decide_eq_true q;exact⟨by rw[x.n];exact q',by rw[x.m];exact e⟩
theorem Reps.Dy(x:CutF b c n):∀{ds:List D}{vs:List V},Reps b ds vs->bels n ds=x0->Reps c ds vs
 |[],_,h,_=>h
 |d::ds,vs,h,q=>by obtain⟨v,r,e,h1,h2⟩:=h;simp only[_D.bels,zC]at q;exact⟨v,r,e,Rep.Dy x h1 q.1,Reps.Dy x h2 q.2⟩
end
theorem Kw{f:D->Option D}(hf:∀d d' v,f d=xk d'->Rep b d v->Rep c d' v):∀{ds ds':List D}{vs:List V},Ge f ds=xk ds'->Reps b ds vs->Reps c ds' vs
 |[],ds',vs,e,h=>by cases e;exact h
 |d::ds,ds',vs,e,h=>by
  obtain⟨v,r,rfl,h1,h2⟩:=h;unfold Ge at e;split at e
  ·rename_i d' r' e1 e2;cases e;exact⟨v,r,rfl,hf _ _ _ e1 h1,Kw hf e2 h2⟩
  ·cases e
theorem Ui(s:Sim b G')(x:CutF b c n)(hz:∀i,n<=i->i<b.n->∀vs,b.H (b.m i)=xk (.lst vs)->∃o,c.H (b.m i)=xk (.frz o (.lst vs))):∀(k:Nat)(d d':D)(v:V),Dk G' n k d=xk d'->Rep b d v->Rep c d' v
 |0,d,d',v,e,h=>by cases e
 | k + 1,d,d',v,e,h=>by
  have ih:=Ui s x hz k;unfold Dk at e;split at e
  ·rename_i hb;cases e;exact h.Dy x hb
  ·rename_i hb;cases d with
   | ref i=>
    dsimp only at e;split at e
    ·rename_i xs hx;rw[zD]at e;obtain⟨ys,e1,rfl⟩:=e;obtain⟨vs,e2,r2⟩:=s.obj i _ hx;obtain⟨il,rfl⟩:=h;have hi:n<=i:=by simp only[_D.bel,decide_eq_true_eq]at hb;lia
     obtain⟨o,e3⟩:=hz i hi il vs e2;exact⟨_,vs,rfl,.inl ⟨o,e3⟩,Kw ih e1 r2⟩
    ·cases e
   |tup xs=>
    dsimp only at e;rw[zD]at e;obtain⟨ys,e1,rfl⟩:=e;obtain⟨p,vs,rfl,t,r⟩:=h;exact⟨p,vs,rfl,x.sqT t,Kw ih e1 r⟩
   |fl xs=>
    dsimp only at e;rw[zD]at e;obtain⟨ys,e1,rfl⟩:=e;obtain⟨p,vs,rfl,t,r⟩:=h;exact⟨p,vs,rfl,x.fzL t,Kw ih e1 r⟩
   |_=>cases e
theorem Xp{xw:List (j1×Obj)}{sh:j8}(s:Sim a G)(hG:G'.take G.length=G)(x:Ext a b)(sb:Sim b G')(I:Inv X xw σ b.H sh):
  ∃c:Wd,Inv X xw σ c.H sh/\Ext a c/\Sim c G/\CutF b c a.n/\∀(k:Nat)(d d':D)(v:V),Dk G' G.length k d=xk d'->Rep b d v->Rep c d' v:=by
 have hlen:∀i o,G[i]?=xk o->G'[i]?=xk o:=λi o e=>by have hi:i<G.length:=(zJ.mp e).1;rw[<-hG,qH hi]at e;exact e
 obtain⟨H',I',F⟩:=Vm I b.m a.n (b.n-a.n);have hbn:a.n+(b.n-a.n)=b.n:=by have:=x.n;lia
 rw[hbn]at F;have ct:∀p(u:HO),(∀vs,u≠ .lst vs)->b.H p=xk u->H' p=xk u:=λp u nu e=>by
  rcases F p with⟨e1,_⟩|⟨o,vs,_,e1,_⟩
  ·exact e1.trans e
  ·rw[e]at e1;exact absurd (Option.some.inj e1) (nu vs)
 have tabs:∀p,TabOk b.H p->TabOk H' p:=λp t=>t.mono (λp ps e=>ct p _ (by intro _ z;cases z) e) λp o u e=>ct p _ (by intro _ z;cases z) e
 have cc:CutF b ⟨b.K,a.n,b.m,H'⟩ a.n:=⟨rfl,rfl,rfl,λp xs e=>ct p _ (by intro _ z;cases z) e,λp o u e=>ct p _ (by intro _ z;cases z) e⟩;have old:∀i,i<a.n->H' (b.m i)=b.H (b.m i):=λi hi=>by
  rcases F (b.m i)with⟨e1,_⟩|⟨o,vs,⟨j,h1,h2,h3⟩,e1,e2⟩
  ·exact e1
  ·have:=sb.inj i j (zW hi x.n) h2 h3;lia
 refine⟨⟨b.K,a.n,b.m,H'⟩,I',⟨x.k,zq _,x.m,λp xs e=>cc.tup p xs (x.tup p xs e),λp o u e=>cc.frz p o u (x.frz p o u e),λp t=>tabs p (x.tab p t)⟩,⟨s.len,λi j hi hj=>sb.inj i j (zW hi x.n) (zW hj x.n),λi o e=>?_,λi hi=>?_⟩,cc,λk d d' v hd rb=>?_⟩
 ·show ORep ⟨b.K,a.n,b.m,H'⟩ o (H' (b.m i));rw[old i (s.lt e)];have q:=sb.obj i o (hlen i o e);have lb:=(s.obj i o e).Fb;cases o with
  |lst ds=>obtain⟨vs,e1,r1⟩:=q;exact⟨vs,e1,r1.Dy cc lb⟩
  |dct kvs=>obtain⟨us,e1,k1,r1⟩:=q;exact⟨us,e1,k1,r1.Dy cc lb⟩
  |dcT kvs=>obtain⟨us,e1,k1,r1⟩:=q;exact⟨us,e1,k1,r1.Dy cc lb⟩
  |ins c fs=>obtain⟨C,dx,us,n1,e1,k1,r1⟩:=q;exact⟨C,dx,us,n1,e1,k1,r1.Dy cc lb⟩
  |tab C m=>obtain⟨c1,P1,e1,t1⟩:=q;exact⟨c1,P1,e1,tabs _ t1⟩
  |exc c fs=>
   obtain⟨C,oe,u,vs,n1,e1,k1,k2,z⟩:=q;refine⟨C,oe,u,vs,n1,e1,k1,k2,?_⟩;rcases z with z|⟨dx,o,us,e2,f2,k3,r1⟩
   ·exact .inl z
   ·exact .inr ⟨dx,o,us,e2,cc.frz _ _ _ f2,k3,r1.Dy cc lb⟩
  |gone=>trivial
 ·show H' (b.m i)≠xy;rw[old i hi];exact sb.tr i (zW hi x.n)
 ·rw[s.len]at hd;refine Ui sb cc (λi h1 h2 vs e=>?_) k d d' v hd rb;rcases F (b.m i)with⟨e1,z⟩|⟨o,vs',_,e1,e2⟩
  ·exact absurd ⟨i,h1,h2,rfl⟩ (z vs e)
  ·rw[e]at e1;cases e1;exact⟨o,e2⟩
theorem ZEb(s:Sim a G)(h:out E a (freeze G r) Q):
  out E a r λv H=>∀(xw:List (j1×Obj))(σ:St)(sh:j8),Inv X xw σ H sh->∃H',Inv X xw σ H' sh/\Q v H':=by
 cases r with
 |err e G'=>exact h
 |bad=>exact h
 | ok d G'=>
  intro b v x sb rb xw σ sh I;unfold freeze at h;dsimp only at h;split at h
  ·rename_i hG;split at h
   ·rename_i d' hd;obtain⟨c,Ic,xc,sc,cc,hr⟩:=Xp s hG x sb I;exact⟨c.H,Ic,h c v xc sc (hr _ _ _ _ hd rb)⟩
   ·exact⟨_,I,h b v x sb rb⟩
  ·exact⟨_,I,h b v x sb rb⟩
theorem ZCH{t:DE}(ha:QE X E e t):QE X E e (Ah t):=λxw s σ H Q I h=>by
 obtain⟨a,S,G,hk,rfl,sm,r,h⟩:=h;refine thn (ha xw s σ a.H _ I ⟨a,S,G,hk,rfl,sm,r,ZEb (X:=X) sm h⟩) λu s' ⟨v,H',I',rv,q⟩=>?_
 obtain⟨H2,I2,q2⟩:=q xw σ s' I';exact⟨v,H2,I2,rv,q2⟩
theorem ZBe {st:j9} {t:DE} (ha:QS X E st (sAs t (gV i))):QS X E st (sAs (Ah t) (gV i)):=λxw s σ H W I h=>by
 obtain ⟨a,S,G,hk,rfl,sm,r,h⟩:=h;have h2:Bb E a (sAs t (gV i) S G) {W with nx:=λσ H=>∀(xw:List (j1×Obj))(sh:j8),Inv X xw σ H sh->∃H',Inv X xw σ H' sh/\W.nx σ H'}:=by
  unfold sAs Ah at h;unfold sAs;cases ht:t S G with
  |err e G'=>rw[ht]at h;exact h
  |bad=>rw[ht]at h;exact h
  | ok d G'=>
   rw[ht]at h;intro b σ' x sb rb xw sh I;unfold freeze at h;dsimp only at h;split at h
   ·rename_i hG;split at h
    ·rename_i d' hd;obtain⟨c,Ic,xc,sc,cc,hr⟩:=Xp sm hG x sb I;refine⟨c.H,Ic,h c σ' xc sc ⟨?_,λj e he=>?_⟩⟩
     ·rw[qN,<-rb.len,qN]
     ·rw[qC]at he;by_cases hij:i=j
      ·subst hij;rw[if_pos rfl]at he;by_cases hl:i<S.length
       ·rw[if_pos hl]at he;have e1:d'=e:=by simpa using he
        subst e1;obtain⟨v,e2,rv⟩:=rb.get i d (by rw[qC,if_pos rfl,if_pos hl]);exact⟨v,e2,hr _ _ _ _ hd rv⟩
       ·rw[if_neg hl]at he;cases he
      ·rw[if_neg hij]at he;obtain⟨v,e2,rv⟩:=rb.get j e (by rw[qC,if_neg hij];exact he);obtain⟨v',_,rv'⟩:=r.get j e he;exact⟨v,e2,rv.Dy cc rv'.bel⟩
    ·exact⟨_,I,h b σ' x sb rb⟩
   ·exact⟨_,I,h b σ' x sb rb⟩
 refine thn (ha xw s σ a.H _ I ⟨a,S,G,hk,rfl,sm,r,h2⟩) λf s' hf=>?_
 cases f with
 |next=>
  obtain⟨σ',H',I',q⟩:=hf;obtain⟨H2,I2,q2⟩:=q xw s' I';exact⟨σ',H2,I2,q2⟩
 |brk=>exact hf
 |cont=>exact hf
 |ret u=>exact hf
end
section
variable{S:DSt}{G:DH}
@[simp]theorem ev_V:dV i S G=(match S[i]? with |some (xk d)=>.ok d G|_=>.bad):=id rfl
@[simp]theorem ev_C:dC d S G=.ok d G:=id rfl
@[simp]theorem ev_Op{a b:DE}:dOp f a b S G=(a S G).bind λx G1=>(b S G1).bind λy G2=>f x y G2:=id rfl
@[simp]theorem ev_Un{f:D->DH->R D}{a:DE}:dUn f a S G=(a S G).bind f:=id rfl
@[simp]theorem ev_Nil:Ab S G=.ok [] G:=id rfl
@[simp]theorem ZH4{a:DE}{r:DA}:Aa a r S G=(a S G).bind λx G1=>(r S G1).bind λxs G2=>.ok (x::xs) G2:=id rfl
@[simp]theorem ev_Fn{f:List D->DH->R D}{t:DA}:dFn f t S G=(t S G).bind f:=id rfl
@[simp]theorem ZHw{t:DE}:Cm t S G=tidy G (t S G):=id rfl
@[simp]theorem ev_Frz{t:DE}:Ah t S G=freeze G (t S G):=id rfl
@[simp]theorem ev_asB{k:Bool}:asB (.bl k) G=.ok k G:=id rfl
@[simp]theorem ev_Tst{t:DE}:Aj t S G=(t S G).bind asB:=id rfl
@[simp]theorem ev_And{t u:DB}:Ej t u S G=(t S G).bind λk G1=>if k=x0 then u S G1 else .ok xA G1:=id rfl
@[simp]theorem ev_Or{t u:DB}:dOr t u S G=(t S G).bind λk G1=>if k=x0 then .ok x0 G1 else u S G1:=id rfl
@[simp]theorem ev_Not{t:DB}:Gk t S G=(t S G).bind λk G1=>.ok (!k) G1:=id rfl
@[simp]theorem ZID{t u:DE}:Lp t u S G=(t S G).bind λx G1=>(asB x G1).bind λk G2=>if k=x0 then u S G2 else .ok (.bl xA) G2:=id rfl
@[simp]theorem ZHe{t:DE}:Li t S G=(t S G).bind λx G1=>(asB x G1).bind λk G2=>.ok (.bl (!k)) G2:=id rfl
@[simp]theorem ev_If{c:DB}{t u:DE}:dIf c t u S G=(c S G).bind λk G1=>if k=x0 then t S G1 else u S G1:=id rfl
@[simp]theorem ZHg{g:D->D->DH->R D}{a b c:DE}:Jp f g a b c S G=(a S G).bind λx G1=>(b S G1).bind λy G2=>(f x y G2).bind λz G3=>(asB z G3).bind λk G4=>
 if k=x0 then(c S G4).bind λw G5=>g y w G5 else .ok (.bl xA) G4:=id rfl
@[simp]theorem ev_sNx:sNx S G=.nx S G:=id rfl
noncomputable def SR.then(r:SR)(u:DS):SR:=match r with
 |.nx S1 G1=>u S1 G1
 |r=>r
@[simp]theorem ZHs{t:DS}:Ad t u S G=(t S G).then u:=id rfl
@[simp]theorem ZHy:(SR.nx S G).then u=u S G:=id rfl
@[simp]theorem ZIK:(SR.rt d G).then u=.rt d G:=id rfl
@[simp]theorem ev_sEx{t:DE}:sEx t S G=(t S G).toS λ_ G1=>.nx S G1:=id rfl
@[simp]theorem ev_sRt{t:DE}:sRt t S G=(t S G).toS λd G1=>.rt d G1:=id rfl
@[simp]theorem ev_sIf{c:DB}{t:DS}:sIf c t u S G=(c S G).toS λk G1=>if k=x0 then t S G1 else u S G1:=id rfl
@[simp]theorem ev_sAs{t:DE}:sAs t g S G=(t S G).toS λd G1=>(g d S G1).toS λS2 G2=>.nx S2 G2:=id rfl
@[simp]theorem ev_sAu{t:DE}:sAu i t f S G=(match S[i]? with
 |some (xk x)=>(t S G).toS λy G1=>(f x y G1).toS λz G2=>.nx (S.set i (xk z)) G2
 |_=>.bad):=id rfl
@[simp]theorem ZHu{it:DI}{b:DS}:Bt it g b S G=(it S G).toS λJ G1=>(match J with
 |.pure xs=>Aq g b xs S G1
 |.mt i=>match G1[i]? with
  |some (.lst xs)=>forM i g b xs.length 0 S G1
  |_=>.bad
 |.fn n f=>Bv f g b n 0 S G1):=id rfl
@[simp]theorem ZII{t:DE}:Hb t S G=(t S G).bind Ew:=id rfl
@[simp]theorem ZH0{f:List D->DH->R ItD}{t:DA}:Ay f t S G=(t S G).bind f:=id rfl
@[simp]theorem Bw:gV i d S G=.ok (S.set i (xk d)) G:=id rfl
@[simp]theorem ZHr:Dn [] S G=.ok S G:=id rfl
@[simp]theorem ZH6{t:DG}{u:DGs}{r:List D}:Bg t u (d::r) S G=(t d S G).bind λS1 G1=>u r S1 G1:=id rfl
@[simp]theorem ZHd{t:DGs}:Cq n t (.tup ds) S G=if ds.length=n then t ds S G else .bad:=id rfl
@[simp]theorem ev_gIx{o i:DE}{v:D}:gIx o i v S G=(o S G).bind λo G1=>(i S G1).bind λi G2=>(Ho o i v G2).bind λ_ G3=>.ok S G3:=id rfl
@[simp]theorem ev_MtL{f:D->List D->DH->R D}{o:DE}{t:DA}:Cd f o t S G=(o S G).bind λx G1=>if isL x G1=x0 then(t S G1).bind λxs G2=>f x xs G2 else .bad:=id rfl
@[simp]theorem ZIC{it:DI}{caps:List Nat}{c:DB}:Bm it nt caps g c te S G=(it S G).bind λJ G1=>(match J with
 |.pure xs=>Bc g c te (Ar nt caps S) xs G1
 |.mt i=>match G1[i]? with
  |some (.lst xs)=>Ft i g c te (Ar nt caps S) xs.length 0 G1
  |_=>.bad
 |.fn n f=>Bp f g c te (Ar nt caps S) n 0 G1).bind Ae:=id rfl
@[simp]theorem Jb:Aw S G=.ok x0 G:=id rfl
@[simp]theorem Ds{k:DSt->DH->SR}:aft (.nx S G) k=k S G:=id rfl
theorem Dh{b:DS}:Aq g b [] S G=.nx S G:=id rfl
theorem Dc{b:DS}{x:D}:Aq g b (x::xs) S G=(g x S G).toS λS1 G1=>aft (b S1 G1) (Aq g b xs):=id rfl
theorem Ly{c:DB}:Bc g c te S [] G=.ok [] G:=id rfl
theorem El{c:DB}{x:D}:Bc g c te S (x::xs) G=(g x S G).bind λS1 G1=>(c S1 G1).bind λk G2=>
   if k=x0 then(te S1 G2).bind λd G3=>(Bc g c te S xs G3).bind λds G4=>.ok (d::ds) G4 else Bc g c te S xs G2:=id rfl
noncomputable def SR.ret(r:SR):R D:=match r with
 |.nx _ G'=>.ok .non G'
 |.rt d G'=>.ok d G'
 |.err x G'=>.err x G'
 |_=>.bad
@[simp]theorem ret_nx:(SR.nx S G).ret=.ok .non G:=id rfl
@[simp]theorem ret_rt:(SR.rt d G).ret=.ok d G:=id rfl
theorem An{np nl:Nat}{b:DS}:Bd np nl b ds G=if ds.length=np then tidy G (b (ds.map xk++zP nl xy) G).ret else .bad:=id rfl
end
section
variable{n:Nat}{G:DH}
@[simp]theorem ZH2:bel n .non=x0:=by simp[_D.bel]
@[simp]theorem bel_bl{b:Bool}:bel n (.bl b)=x0:=by simp[_D.bel]
@[simp]theorem ZC1{b:Int}:bel n (.int b)=x0:=by simp[_D.bel]
@[simp]theorem ZIJ{b:Str}:bel n (.str b)=x0:=by simp[_D.bel]
@[simp]theorem ZHf{b:List D}:bel n (.tup b)=bels n b:=by simp[_D.bel]
@[simp]theorem bel_fl{b:List D}:bel n (.fl b)=bels n b:=by simp[_D.bel]
@[simp]theorem ZHa{b:Nat}:bel n (.ref b)=decide (b<n):=by simp[_D.bel]
@[simp]theorem ZHo:bels n []=x0:=by simp[_D.bels]
@[simp]theorem ZDK:bels n (d::ds)=(bel n d&&bels n ds):=by simp[_D.bels]
theorem ZAc:bels n ds=x0↔∀d∈ds,bel n d=x0:=by
 induction ds with
 |nil=>simp
 |cons d ds ih=>simp[ih]
theorem Dg{f:α->D}{xs:List α}(h:∀x∈xs,bel n (f x)=x0):bels n (xs.map f)=x0:=by rw[ZAc];intro d hd;obtain⟨x,hx,rfl⟩:=qX.mp hd;exact h x hx
@[simp]theorem ZHN{xs:List Int}:bels n (xs.map D.int)=x0:=Dg λ_ _=>ZC1
theorem Be(h:bel G.length d=x0):tidy G (.ok d G)=.ok d G:=by unfold tidy;simp[h]
theorem Hq(h:bel G.length d=x0):tidy G (.ok d (G++L))=.ok d G:=by unfold tidy;simp[h]
theorem Uc(L:DH)(hk:L[k]?=xk (.lst ds))(h:bels G.length ds=x0):tidy G (.ok (.ref (G.length+k)) (G++L))=.ok (.ref G.length) (G++[.lst ds]):=by
 unfold tidy;have e:(G++L)[G.length+k]?=xk (.lst ds):=by rw[zN (by lia)];simpa using hk
 simp[e,Fb,h]
theorem Dq(h:bels G.length ds=x0):tidy G (.ok (.ref G.length) (G++ .lst ds::L))=.ok (.ref G.length) (G++[.lst ds]):=Uc (.lst ds::L) (k:=0) rfl h
theorem Hm(h:bel G.length d=x0):freeze G (.ok d G)=.ok d G:=by unfold freeze;simp[h,Dk]
theorem ZAB:∀{ds:List D},bels n ds=x0->Ge (Dk G' n (k+1)) ds=xk ds
 |[],_=>rfl
 |d::ds,h=>by simp only[ZDK,zC]at h;unfold Ge;rw[ZAB h.2];simp[Dk,h.1]
theorem Ut(L:DH)(hk:L[k]?=xk (.lst ds))(h:bels G.length ds=x0):freeze G (.ok (.ref (G.length+k)) (G++L))=.ok (.fl ds) G:=by
 unfold freeze;have e:(G++L)[G.length+k]?=xk (.lst ds):=by rw[zN (by lia)];simpa using hk
 have m:Dk (G++L) G.length 9 (.ref (G.length+k))=xk (.fl ds):=by unfold Dk;simp[e,ZAB h]
 simp[m]
theorem Ba(h:bels G.length ds=x0):freeze G (.ok (.ref G.length) (G++ .lst ds::L))=.ok (.fl ds) G:=Ut (.lst ds::L) (k:=0) rfl h
theorem Es(L:DH)(k:Nat):(G++L)[G.length+k]?=L[k]? :=by rw[zN (by lia)];simp
theorem Ea(L:DH):(G++L)[G.length]?=L[0]? :=Es L 0
theorem Hr(L:DH)(k:Nat)(o:DO):(G++L).set (G.length+k) o=G++L.set k o:=by rw[List.set_append_right _ _ (by lia)];simp
theorem Fv(L:DH)(o:DO):(G++L).set G.length o=G++L.set 0 o:=Hr L 0 o
theorem Dj{lo:Int}:Ak lo 0=[]:=id rfl
theorem Dl{lo:Int}:Ak lo (n+1)=.int lo::Ak (lo+1) n:=by
 unfold Ak;rw[jY,zK,List.map_map]
 congr 1
 ·simp
 ·apply List.map_congr_left;intro k _;simp only[Function.comp]
  congr 1
  lia
end
section
variable{G:DH}{i j:Int}{x y:Str}{k l:Bool}
@[simp]theorem ev_add:Af (.int i) (.int j) G=.ok (.int (i+j)) G:=id rfl
@[simp]theorem Im:Af (.str x) (.str y) G=if x.length+y.length<=1000000 then .ok (.str (x++y)) G else .bad:=id rfl
@[simp]theorem ZH5{ys:List D}:Af (.tup xs) (.tup ys) G=if xs≠[]/\xs.length+ys.length<=1000000 then .ok (.tup (xs++ys)) G else .bad:=id rfl
@[simp]theorem ev_ip:K4 (.int i) (.int j) G=.ok (.int (i+j)) G:=id rfl
@[simp]theorem ev_sub:Ci (.int i) (.int j) G=.ok (.int (i-j)) G:=id rfl
theorem ZCJ(h:0<n)(h2:n.log2<9000):Cu (.int i) (.int (n:Int)) G=.ok (.int (i/n)) G:=if_pos ⟨by lia,h2⟩
theorem log2_small(h:n<10^100):n.log2<9000:=by
 by_cases hn:n=0
 ·subst hn;decide
 ·rw[Nat.log2_lt hn];exact Nat.lt_trans h (by decide)
@[simp]theorem ZHt[NeZero n](h:n<10^100):Cu (.int i) (.int (no_index (OfNat.ofNat n))) G=.ok (.int (i/OfNat.ofNat n)) G:=
 if_pos ⟨Int.ofNat_lt.mpr (Nat.pos_of_ne_zero (NeZero.ne n)),log2_small h⟩
@[simp]theorem ev_mod:Cj (.int i) (.int j) G=if 0<j then .ok (.int (i%j)) G else .bad:=id rfl
@[simp]theorem ev_pow:Gm (.int i) (.int j) G=if 0<=j/\j<=1000000/\i.natAbs<18446744073709551616 then .ok (.int (i^j.toNat)) G else .bad:=id rfl
@[simp]theorem ev_lt:K1 (.int i) (.int j) G=.ok (.bl (decide (i<j))) G:=id rfl
@[simp]theorem ev_le:Kz (.int i) (.int j) G=.ok (.bl (decide (i<=j))) G:=id rfl
@[simp]theorem ev_gt:Ef (.int i) (.int j) G=.ok (.bl (decide (j<i))) G:=id rfl
@[simp]theorem ev_eq:Az (.int i) (.int j) G=.ok (.bl (decide (i=j))) G:=id rfl
@[simp]theorem ev_ne:Ed (.int i) (.int j) G=.ok (.bl (!decide (i=j))) G:=id rfl
@[simp]theorem ev_eqS:Az (.str x) (.str y) G=.ok (.bl (decide (x=y))) G:=id rfl
@[simp]theorem ZHS:Jt d .non G=.ok (.bl (!Hg d)) G:=by cases d<;>exact id rfl
@[simp]theorem ZHz:Hg .non=x0:=id rfl
@[simp]theorem ZHZ:Hg (.int i)=xA:=id rfl
@[simp]theorem ZHj:Hg (.tup ds)=xA:=id rfl
@[simp]theorem ev_min:Ep [.int i,.int j] G=.ok (.int (min i j)) G:=by
 show R.ok (D.int (if j<i then j else i)) G=_
 congr 2
 split <;> lia
@[simp]theorem ZHl:Ax (.fl ds) G=xk ds:=id rfl
@[simp]theorem Qm:Ax (.ref n) G=(match G[n]? with |some (.lst xs)=>xk xs|_=>xy):=id rfl
@[simp]theorem ZHm:Bf [.tup ds] G=.ok (.int ds.length) G:=id rfl
@[simp]theorem ZHv:Bf [.fl ds] G=.ok (.int ds.length) G:=id rfl
@[simp]theorem ZHi:Bf [.ref n] G=(match G[n]? with |some (.lst xs)=>.ok (.int xs.length) G|_=>.bad):=by
 unfold Bf;simp only[Qm];cases G[n]? with
 |none=>rfl
 |some o=>cases o<;>rfl
@[simp]theorem ev_ixT:Ac (.tup ds) (.int i) G=(match atI ds i with |some v=>.ok v G|none=>.bad):=id rfl
@[simp]theorem ev_ixF:Ac (.fl ds) (.int i) G=(match atI ds i with |some v=>.ok v G|none=>.bad):=id rfl
@[simp]theorem ev_ixR:Ac (.ref n) (.int i) G=(match G[n]? with |some (.lst xs)=>(match atI xs i with |some v=>.ok v G|none=>.bad)|_=>.bad):=by
 unfold Ac;simp only[Qm];cases G[n]? with
 |none=>rfl
 |some o=>cases o<;>rfl
theorem Rj{k:Nat}(h:k<n):ixN n (k:Int)=xk k:=by unfold ixN;rw[if_pos (by lia),if_pos (by lia)];simp
theorem ZFK{xs:List α}{k:Nat}{d:α}(h:xs[k]?=xk d):atI xs (k:Int)=xk d:=by unfold atI;rw[Rj (zJ.mp h).1];exact h
theorem Bs{xs:List α}{j:Int}{k:Nat}{d:α}(e:j=k)(h:xs[k]?=xk d):atI xs j=xk d:=by subst e;exact ZFK h
theorem Qi{xs:List α}{j:Int}(h0:0<=j)(h:j<xs.length):atI xs j=xk (xs[j.toNat]'(by lia)):=
 Bs (k:=j.toNat) (by lia) (zQ (by lia))
theorem ZEJ{xs:List α}{j:Int}(h0:j<0)(h: -(xs.length:Int)<=j):atI xs j=xk (xs[(j+xs.length).toNat]'(by lia)):=by unfold atI ixN;rw[if_neg (by lia),if_pos h];exact zQ (by lia)
@[simp]theorem atI_0{a:α}{xs:List α}:atI (a::xs) 0=xk a:=Bs (k:=0) rfl rfl
@[simp]theorem atI_1{a b:α}{xs:List α}:atI (a::b::xs) 1=xk b:=Bs (k:=1) rfl rfl
@[simp]theorem atI_2{a b c:α}{xs:List α}:atI (a::b::c::xs) 2=xk c:=Bs (k:=2) rfl rfl
@[simp]theorem atI_3{a b c d:α}{xs:List α}:atI (a::b::c::d::xs) 3=xk d:=Bs (k:=3) rfl rfl
@[simp]theorem atI_4{a b c d e:α}{xs:List α}:atI (a::b::c::d::e::xs) 4=xk e:=Bs (k:=4) rfl rfl
@[simp]theorem atI_5{a b c d e f:α}{xs:List α}:atI (a::b::c::d::e::f::xs) 5=xk f:=Bs (k:=5) rfl rfl
@[simp]theorem atI_6{a b c d e f g:α}{xs:List α}:atI (a::b::c::d::e::f::g::xs) 6=xk g:=Bs (k:=6) rfl rfl
@[simp]theorem ZHp:Al ds G=if ds.length<=1000000 then .ok (.tup ds) G else .bad:=id rfl
@[simp]theorem ZH9:Ae ds G=if ds.length<=1000000 then .ok (.ref G.length) (G++[.lst ds])else .bad:=id rfl
@[simp]theorem ZHW:Br [.fl ds] G=.ok (.tup ds) G:=id rfl
@[simp]theorem ZHT:Br [.ref n] G=(match G[n]? with |some (.lst xs)=>.ok (.tup xs) G|_=>.bad):=by
 unfold Br;simp only[Qm];cases G[n]? with
 |none=>rfl
 |some o=>cases o<;>rfl
@[simp]theorem ev_itT:Ew (.tup ds) G=.ok (.pure ds) G:=id rfl
@[simp]theorem ev_itF:Ew (.fl ds) G=.ok (.pure ds) G:=id rfl
@[simp]theorem ZH3:rng1 [.int j] G=if inR j then .ok (.pure (Ak 0 j.toNat)) G else .bad:=id rfl
theorem Cg(h0: -1000000000<=i)(h:i<=1000000000):inR i:=⟨by lia,by lia⟩
@[simp]theorem ZIA:isL (.fl ds) G=x0:=id rfl
@[simp]theorem ZHh:isL (.ref n) G=(match G[n]? with |some (.lst _)=>x0|_=>xA):=id rfl
@[simp]theorem ev_app:Cz (.ref n) [d] G=(match G[n]? with |some (.lst xs)=>if xs.length<1000000 then .ok .non (G.set n (.lst (xs++[d])))else .bad|_=>.bad):=id rfl
@[simp]theorem ZIH:Ho (.ref n) (.int i) d G=(match G[n]? with |some (.lst xs)=>(match ixN xs.length i with |some j=>.ok .non (G.set n (.lst (xs.set j d)))|none=>.bad)|_=>.bad):=id rfl
@[simp]theorem Zh{ks:List Int}:Et [.fl (ks.map D.int)] G=.ok (.int ks.sum) G:=by simp[Et]
@[simp]theorem ZHq:Ez [d,.ty "int"] G=(match tyD G d with |some .int=>.ok (.bl x0) G|some .bl=>.ok (.bl x0) G|some _=>.ok (.bl xA) G|none=>.bad):=by
 unfold Ez;dsimp only;cases tyD G d with
 |none=>rfl
 |some t=>cases t<;>rfl
@[simp]theorem ZH7:Ez [d,.ty "bool"] G=(match tyD G d with |some .bl=>.ok (.bl x0) G|some _=>.ok (.bl xA) G|none=>.bad):=by
 unfold Ez;dsimp only;cases tyD G d with
 |none=>rfl
 |some t=>cases t<;>rfl
end
section
variable{c:Prop}[Decidable c]
@[simp]theorem ite_ok{a b:α}:(if c then R.ok a G else R.ok b G)=R.ok (if c then a else b) G:=by split <;> rfl
end
noncomputable def Fj{κ:Type}[DecidableEq κ](kvs:List (κ×D))(k:κ):Option D:=(kvs.find? λkv=>decide (kv.1=k)).map (·.2)
def putD{κ:Type}[DecidableEq κ](kvs:List (κ×D))(k:κ)(v:D):List (κ×D):=
 if(kvs.any λkv=>decide (kv.1=k))=x0 then kvs.map (λkv=>if kv.1=k then(kv.1,v)else kv)else kvs++[(k,v)]
def keyD:D->Option Key
 |.int i=>xk (.inl i)
 |.str x=>xk (.inr x)
 |_=>xy
theorem ZDY{x:V}{k:Key}(r:Rep a d x)(h:keyD d=xk k):x=kV k:=by
 cases d<;>first
  |(cases h;exact r)
  |cases h
theorem RepKV.nil:RepKV a ([]:List (κ×D)) []:=⟨rfl,rfl⟩
theorem RepKV.cons[DecidableEq κ]{k:κ}{kvs:List (κ×D)}{us:List (κ×V)}(h:RepKV a ((k,d)::kvs) us):∃v r,us=(k,v)::r/\Rep a d v/\RepKV a kvs r:=by
 obtain⟨h1,v,r,h2,h3,h4⟩:=h;cases us with
 |nil=>cases h2
 |cons p us=>
  obtain⟨q,w⟩:=p;simp only[zK,List.cons.injEq]at h1 h2;obtain⟨rfl,h1⟩:=h1;obtain⟨rfl,rfl⟩:=h2;exact⟨w,us,rfl,h3,h1,h4⟩
theorem RepKV.mk[DecidableEq κ]{k:κ}{kvs:List (κ×D)}{us:List (κ×V)}(h:Rep a d v)(r:RepKV a kvs us):RepKV a ((k,d)::kvs) ((k,v)::us):=
 ⟨by simp only[zK,r.1],Reps.cons h r.2⟩
theorem RepKV.val[DecidableEq κ]{k:κ}:∀{kvs:List (κ×D)}{us:List (κ×V)},RepKV a kvs us->(Fj kvs k=xy/\Cv us k=xy)∨∃d v,Fj kvs k=xk d/\Cv us k=xk v/\Rep a d v
 |[],us,h=>by obtain⟨h1,_⟩:=h;have:us=[]:=List.map_eq_nil_iff.mp h1.symm;subst this;exact .inl ⟨rfl,rfl⟩
 | (q,d)::kvs,us,h=>by
  obtain⟨v,r,rfl,h1,h2⟩:=RepKV.cons h;by_cases e:q=k
  ·exact .inr ⟨d,v,by simp[Fj,qV,e],by simp[Cv,qV,e],h1⟩
  ·rcases RepKV.val (k:=k) h2 with⟨e1,e2⟩|⟨d',v',e1,e2,e3⟩
   ·exact .inl ⟨by simpa[Fj,qV,e]using e1,by simpa[Cv,qV,e]using e2⟩
   ·exact .inr ⟨d',v',by simpa[Fj,qV,e]using e1,by simpa[Cv,qV,e]using e2,e3⟩
theorem RepKV.any[DecidableEq κ]{k:κ}:∀{kvs:List (κ×D)}{us:List (κ×V)},RepKV a kvs us->(kvs.any λkv=>decide (kv.1=k))=us.any λkv=>decide (kv.1=k)
 |[],us,h=>by
  obtain⟨h1,_⟩:=h;have:us=[]:=List.map_eq_nil_iff.mp h1.symm;subst this
  rfl
 |(q,d)::kvs,us,h=>by obtain⟨v,r,rfl,h1,h2⟩:=RepKV.cons h;simp only[qP,RepKV.any (k:=k) h2]
theorem RepKV.repl[DecidableEq κ]{k:κ}(hv:Rep a d v):∀{kvs:List (κ×D)}{us:List (κ×V)},RepKV a kvs us->RepKV a (kvs.map λkv=>if kv.1=k then(kv.1,d)else kv) (us.map λkv=>if kv.1=k then(kv.1,v)else kv)
 |[],us,h=>by obtain⟨h1,_⟩:=h;have:us=[]:=List.map_eq_nil_iff.mp h1.symm;subst this;exact RepKV.nil
 |(q,e)::kvs,us,h=>by
  obtain⟨w,r,rfl,h1,h2⟩:=RepKV.cons h;simp only[zK];by_cases hq:q=k
  ·rw[if_pos hq,if_pos hq];exact RepKV.mk hv (RepKV.repl hv h2)
  ·rw[if_neg hq,if_neg hq];exact RepKV.mk h1 (RepKV.repl hv h2)
theorem RepKV.put[DecidableEq κ]{k:κ}{kvs:List (κ×D)}{us:List (κ×V)}(h:RepKV a kvs us)(hv:Rep a d v):RepKV a (putD kvs k d) (putK us k v):=by
 unfold putD putK;rw[RepKV.any (k:=k) h];split
 ·exact RepKV.repl hv h
 ·exact⟨by simp[h.1],by have:=Reps.append h.2 (Reps.cons hv (Reps.nil));simpa using this⟩
theorem RepKV.len[DecidableEq κ]{kvs:List (κ×D)}{us:List (κ×V)}(h:RepKV a kvs us):kvs.length=us.length:=by have:=congrArg jz h.1;simpa using this
section
variable{X:Cx}{E:XK}
theorem set_dict(hu:X.A.units+64<cLine):PSet X (λo i v H Q=>∃a H',o=.ref a/\DPut H a i v H'/\Q H'):=by intro xw s σ H o i v ov iv u Q I ro ri rv ⟨a,H',eo,g,q⟩;subst eo;obtain rfl:ov=Value.ref a:=ro;exact ZGu (by lia) I g ri rv λs4 I4=>⟨H',I4,q⟩
end
section
variable{S:DSt}{G:DH}{n:Nat}{kvs:List (Key×D)}
end
section
noncomputable def okD:Nat->D->Bool
 |0,_=>xA
 |_+1,.non=>x0
 |_+1,.int _=>x0
 |_+1,.str _=>x0
 |n+1,.tup ds=>ds.all (okD n)
 |n+1,.fl ds=>ds.all (okD n)
 |_+1,_=>xA
theorem N7{f:D->D->Option Bool}{P:D->Prop}(hf:∀x y,P x->P y->∃b,f x y=xk b/\(b=x0↔x=y)):∀{xs ys:List D},(∀x∈xs,P x)->(∀y∈ys,P y)->
  ∃b,eqZ f xs ys=xk b/\(b=x0↔xs.take ys.length=ys.take xs.length)
 |[],ys,_,_=>⟨x0,by cases ys<;>rfl,by simp⟩
 |x::xs,[],_,_=>⟨x0,rfl,by simp⟩
 |x::xs,y::ys,hx,hy=>by obtain⟨b,e1,h1⟩:=hf x y (hx x (by simp)) (hy y (by simp));obtain⟨c,e2,h2⟩:=N7 hf (λz hz=>hx z (zV _ hz)) (λz hz=>hy z (zV _ hz));refine⟨b&&c,by simp[eqZ,e1,e2],?_⟩;simp[h1,h2]
theorem Ys{G:DH}:∀(n:Nat)(d e:D),okD n d=x0->okD n e=x0->∃b,eqD n G d e=xk b/\(b=x0↔d=e)
 |0,d,e,h,_=>by cases h
 | n+1,d,e,h1,h2=>by
  have ih:=Ys (G:=G) n;cases d with
  |bl _=>simp[okD]at h1
  |ty _=>simp[okD]at h1
  |ref _=>simp[okD]at h1
  | tup xs=>
   cases e with
   |bl _=>simp[okD]at h2
   |ty _=>simp[okD]at h2
   |ref _=>simp[okD]at h2
   |tup ys=>
    simp only[okD,jv]at h1 h2;obtain⟨b,e1,h3⟩:=N7 ih (λx hx=>h1 x hx) (λx hx=>h2 x hx);refine⟨b&&xs.length==ys.length,by simp[eqD,view,e1],?_⟩;simp only[zC,h3,beq_iff_eq,D.tup.injEq];constructor
    ·rintro⟨e,hl⟩;rw[<-hl,jQ]at e;rw[e,hl,jQ]
    ·rintro rfl;exact⟨rfl,rfl⟩
   |_=>exact⟨xA,by simp[eqD,view],by simp⟩
  | fl xs=>
   cases e with
   |bl _=>simp[okD]at h2
   |ty _=>simp[okD]at h2
   |ref _=>simp[okD]at h2
   |fl ys=>
    simp only[okD,jv]at h1 h2;by_cases hl:xs.length=ys.length
    ·obtain⟨b,e1,h3⟩:=N7 ih (λx hx=>h1 x hx) (λx hx=>h2 x hx);refine⟨b,by simp[eqD,view,hl,e1],?_⟩;rw[h3,<-hl,jQ,hl,jQ];simp
    ·exact⟨xA,by simp[eqD,view,hl],by simp;rintro rfl;exact hl rfl⟩
   |_=>exact⟨xA,by simp[eqD,view],by simp⟩
  |non=>cases e<;>first|(simp[okD]at h2;done)|exact⟨_,rfl,by simp[eqV]⟩
  |int i=>cases e<;>first|(simp[okD]at h2;done)|exact⟨_,rfl,by simp[eqV]⟩
  |str i=>cases e<;>first|(simp[okD]at h2;done)|exact⟨_,rfl,by simp[eqV]⟩
open Classical in
theorem ZFo{e:D}(h1:okD 30 d=x0)(h2:okD 30 e=x0):Ed d e G=.ok (.bl (!decide (d=e))) G:=by
 obtain⟨b,e1,h⟩:=Ys (G:=G) 30 d e h1 h2;unfold Ed;rw[e1];cases b with
 |true=>simp[h.mp rfl]
 |false=>simp[show¬d=e from λz=>zw (h.mpr z)]
theorem ZCl(h1:okD 30 d=x0):Ed d d G=.ok (.bl xA) G:=by rw[ZFo h1 h1];simp
theorem Pk(h:∀d∈ds,okD n d=x0):okD (n+1) (.tup ds)=x0:=by simpa[okD]using h
theorem Oa(h:∀d∈ds,okD n d=x0):okD (n+1) (.fl ds)=x0:=by simpa[okD]using h
end
def cutD{α:Type}(xs:List α)(lo hi:Option Int):List α:=(xs.drop (HT.sIx xs.length 0 lo)).take (HT.sIx xs.length xs.length hi-HT.sIx xs.length 0 lo)
def Fg(z:Str)(lo hi:Option Int):Str:=⟨(cutD z.cps.toList lo hi).toArray⟩
theorem ZBz(xs:List α)(lo hi:Option Int):(cutD xs lo hi).length<=xs.length:=by unfold cutD;rw[qK,qT];lia
def Gi(t:Option DE)(S:DSt)(G:DH):R (Option Int):=match t with
 |none=>.ok xy G
 |some t=>(t S G).bind λd G1=>match d with
  |.int i=>.ok (xk i) G1
  |_=>.bad
def Io(d:D)(lo hi:Option Int)(G:DH):R D:=match d with
 |.str z=>if z.length<=1000000 then .ok (.str (Fg z lo hi)) G else .bad
 |.tup xs=>.ok (.tup (cutD xs lo hi)) G
 |d=>match Di d G with
  |some xs=>.ok (.ref G.length) (G++[.lst (cutD xs lo hi)])
  |none=>.bad
def dSl(e:DE)(lo hi:Option DE):DE:=λS G=>(e S G).bind λd G1=>(Gi lo S G1).bind λl G2=>(Gi hi S G2).bind λh G3=>Io d l h G3
theorem K8(n:Nat)(v:Int):((HT.sIx n n (xk v):Nat):Int)=max 0 (min (if v<0 then v+(n:Int)else v) n)/\((HT.sIx n 0 (xk v):Nat):Int)=max 0 (min (if v<0 then v+(n:Int)else v) n):=by
 unfold HT.sIx;by_cases hv:v<0
 ·simp only[if_pos hv];lia
 ·simp only[if_neg hv];lia
theorem ZB5(xs:Array Nat)(i k:Nat):(qw k).filterMap (λm=>xs[i+m]?)=(xs.toList.drop i).take k:=by
 induction k generalizing i with
 |zero=>simp
 | succ k ih=>
  rw[jY,jJ];have e:(List.map Nat.succ (qw k)).filterMap (λm=>xs[i+m]?)=(qw k).filterMap (λm=>xs[i+1+m]?):=by
   rw[List.filterMap_map]
   congr 1
   funext m;simp only[Function.comp]
   congr 1
   lia
  rw[e,ih (i+1)];by_cases hi:i<xs.size
  ·have h1:xs[i+0]?=xk xs[i]:=by simp[hi]
   rw[h1];have h2:xs.toList.drop i=xs[i]::xs.toList.drop (i+1):=by rw[zH (by simpa using hi)];simp
   rw[h2];simp
  ·have h1:xs[i+0]?=xy:=by simp;lia
   rw[h1];simp only;rw[qj (by simp;lia),qj (by simp;lia)];simp
theorem ZCx(x:Str)(lo hi:Option Int):Txt.slice x lo hi=Fg x lo hi:=by
 have hlen:x.length=x.cps.toList.length:=by simp[Str.length]
 have key:(Builtin.Str.strSliceIndices lo hi 1 x.length).filterMap (x.cps[·]?)=cutD x.cps.toList lo hi:=by
  have e1:∀(v:Option Int),(match v with |none=>(0:Int)|some i=>max 0 (min (if i<0 then i+(x.length:Int)else i) x.length))=((HT.sIx x.length 0 v:Nat):Int):=λv=>by
   cases v with
   |none=>rfl
   |some i=>exact(K8 x.length i).2.symm
  have e2:∀(v:Option Int),(match v with |none=>(x.length:Int)|some i=>max 0 (min (if i<0 then i+(x.length:Int)else i) x.length))=((HT.sIx x.length x.length v:Nat):Int):=λv=>by
   cases v with
   |none=>rfl
   |some i=>exact(K8 x.length i).1.symm
  have e3:Builtin.Str.strSliceIndices lo hi 1 x.length=sliceRange ((HT.sIx x.length 0 lo:Nat):Int) ((HT.sIx x.length x.length hi:Nat):Int) 1:=by
   rw[<-e1 lo,<-e2 hi];unfold Builtin.Str.strSliceIndices
   cases lo<;>cases hi<;>simp
  rw[e3];unfold sliceRange cutD;rw[List.filterMap_map,<-hlen];generalize HT.sIx x.length 0 lo=i;generalize HT.sIx x.length x.length hi=j;have e4:((λa=>x.cps[a]?) ∘ λ(k:Nat)=>((i:Int)+1*(k:Int)).toNat)=λk=>x.cps[i+k]? :=by
   funext k;simp only[Function.comp]
   congr 1
   lia
  have e5:(if(1:Int)>0 then if(i:Int)<(j:Int)then((j:Int)-i+1-1)/1 else 0 else if(i:Int)>(j:Int)then((i:Int)-j-1-1) / -1 else 0).toNat=j-i:=by
   rw[if_pos (by lia)];split
   ·rw[Int.ediv_one];lia
   ·lia
  rw[e4,e5];exact ZB5 x.cps i (j-i)
 unfold Txt.slice Fg;split
 ·rename_i h;have h':(Builtin.Str.strSliceIndices lo hi 1 x.length).length=x.length:=by simpa using h
  have hsz:(cutD x.cps.toList lo hi).length=x.cps.toList.length∨(cutD x.cps.toList lo hi).length<x.cps.toList.length:=by have:=ZBz x.cps.toList lo hi;lia
  have hall:(cutD x.cps.toList lo hi).length=x.cps.toList.length:=by
   have e3:(Builtin.Str.strSliceIndices lo hi 1 x.length).length=HT.sIx x.length x.length hi-HT.sIx x.length 0 lo:=by
    have e1:∀(v:Option Int),(match v with |none=>(0:Int)|some i=>max 0 (min (if i<0 then i+(x.length:Int)else i) x.length))=((HT.sIx x.length 0 v:Nat):Int):=λv=>by
     cases v with
     |none=>rfl
     |some i=>exact(K8 x.length i).2.symm
    have e2:∀(v:Option Int),(match v with |none=>(x.length:Int)|some i=>max 0 (min (if i<0 then i+(x.length:Int)else i) x.length))=((HT.sIx x.length x.length v:Nat):Int):=λv=>by
     cases v with
     |none=>rfl
     |some i=>exact(K8 x.length i).1.symm
    have e3:Builtin.Str.strSliceIndices lo hi 1 x.length=sliceRange ((HT.sIx x.length 0 lo:Nat):Int) ((HT.sIx x.length x.length hi:Nat):Int) 1:=by
     rw[<-e1 lo,<-e2 hi];unfold Builtin.Str.strSliceIndices
     cases lo<;>cases hi<;>simp
    rw[e3];unfold sliceRange;rw[zX,List.length_range];generalize HT.sIx x.length 0 lo=i;generalize HT.sIx x.length x.length hi=j;rw[if_pos (by lia)];split
    ·rw[Int.ediv_one];lia
    ·lia
   have hj:HT.sIx x.length x.length hi<=x.length:=HT.Zr _ _ (zq _) hi;unfold cutD;rw[qK,qT,<-hlen];lia
  have hs:(cutD x.cps.toList lo hi).Sublist x.cps.toList:=(List.take_sublist _ _).trans (List.drop_sublist _ _);rw[hs.eq_of_length hall]
 ·rw[key]
section
variable{X:Cx}{E:XK}
theorem ZBP:SlR X (λx lo hi H Q=>∃z:Str,x=.str z/\z.length<=sizeLine/\Q (.str (Fg z lo hi)) H):=by
 intro xw s σ H x v vl vu lo hi sl Q I rx hs pl pu h;obtain⟨z,rfl,hz,q⟩:=h;obtain⟨t,rfl⟩:=rx;refine⟨"str",_,PySem.F.slot_str_getitem.lookup,typeIs_str _ _ _,?_⟩
 have fin:∀(l u:Option (Int×Tok)),vl=partValue l->vu=partValue u->l.map (·.1)=lo->u.map (·.1)=hi->jS (jM X.prog X.w) X.A (getItem (.str z t) (.ref sl)) (EP X xw σ Q) X.xe s:=by
  rintro l u rfl rfl rfl rfl
  refine wpAny_getItem_str_slice (l:=l) (u:=u) (st:=xy) (show s.heap.IsSlice sl l u xy from hs) rfl ?_
  have e:∀Q',(Txt.slice z (l.map (·.1)) (u.map (·.1))).length<=sizeLine/\(∀t' k,Q' (.str (Txt.slice z (l.map (·.1)) (u.map (·.1))) t') {s with toks:=k})->(sliceMade z t l u xy).post Q' s:=λQ' hq=>post_val_or_str hq
  refine e _ ⟨zk (Txt.slice_le z _ _) hz,λt' k=>?_⟩;rw[ZCx];exact⟨.str _,H,I.tok k,⟨t',rfl⟩,q⟩
 cases pl with
 |none=>cases pu with
  |none=>exact fin xy xy rfl rfl rfl rfl
  |int j tj=>exact fin xy (xk (j,tj)) rfl rfl rfl rfl
 |int i ti=>cases pu with
  |none=>exact fin (xk (i,ti)) xy rfl rfl rfl rfl
  |int j tj=>exact fin (xk (i,ti)) (xk (j,tj)) rfl rfl rfl rfl
theorem ZB3{prog:j6}{E:jA->j8->Prop}{t sl:j1}{items:Array jA}{vl vu:jA}{Q:jA->j8->Prop}(ht:IsTup s.heap t items)(hs:s.heap.IsSliceOf sl vl vu .none)(pl:IsPart vl lo)(pu:IsPart vu hi)
  (hw:HT.sIx items.size 0 lo=0/\HT.sIx items.size items.size hi=items.size) (h:Q (.ref t) s):jS (jM prog w) A (getItem (.ref t) (.ref sl)) Q E s:=by
 obtain⟨os,hos,hcs,hds⟩:=id hs;have hTs:s.TypeIs (.ref sl) "slice":=⟨os,hos,hcs⟩;unfold getItem
 try with_reducible refine xJ ?_
 first|refine jT (xK ?_)|skip
 refine jT (wpAny_sequenceKey ht.typeIs (by decide) ?_);refine jT (jU (name:=Str.ofString "__getitem__") ht.typeIs PyProof.Rows.slot_tuple_getitem
  (xQ PyProof.Rows.slot_tuple_getitem ht.typeIs entry_tuple_getitem ?_ (args_tuple_getitem _ _)))
 show jS _ _ (Builtin.Tuple.tupleItemsOf (.ref t) >>=_) _ _ s;refine jT (tupleItemsOf_ ht ?_);refine jT (wpAny_typeOf hTs ?_);rw[if_pos (by decide)];refine jT (HT.Ws hs pl pu ?_);have hyes:(((HT.sIx items.size 0 lo:Nat):Int)==0&&(1:Int)==1&&(HT.sIx items.size items.size hi-HT.sIx items.size 0 lo)==items.size)=x0:=by rw[hw.1,hw.2];simp
 show jS _ _ (if(((HT.sIx items.size 0 lo:Nat):Int)==0&&(1:Int)==1&&(HT.sIx items.size items.size hi-HT.sIx items.size 0 lo)==items.size)=x0 then _ else _) _ _ s;rw[if_pos hyes];refine jT ?_;unfold Builtin.Tuple.tupleIsExact;refine jT (wpAny_typeOf ht.typeIs (xK ?_));rw[if_pos (by decide)];exact jT (wpAny_rule (xK ⟨_,rfl,xK h⟩))
theorem ZE0:SlR X (λx lo hi H Q=>∃a xs,x=.ref a/\SqT X.K H a xs/\(HT.sIx xs.length 0 lo=0/\HT.sIx xs.length xs.length hi=xs.length)/\Q (.ref a) H):=by
 intro xw s σ H x v vl vu lo hi sl Q I rx hs pl pu h;obtain⟨a,xs,rfl,hx,hw,q⟩:=h;cases rx;obtain⟨its,r,ht,hz⟩:=I.tuple hx;have hlen:its.toArray.size=xs.length:=by rw[zj];exact r.length.symm
 exact⟨"tuple",_,PyProof.Rows.slot_tuple_getitem.lookup,ht.typeIs,ZB3 ht hs pl pu (by rw[hlen];exact hw) ⟨.ref a,H,I,rfl,q⟩⟩
def Ii(E:XK)(a:Wd)(r:R (Option Int))(Q:Option Int->Hp->Prop):Prop:=match r with
 |.ok k G=>∀(b:Wd),Ext a b->Sim b G->Q k b.H
 |.err x G=>XOk E a x G
 |.bad=>False
def QO(X:Cx)(E:XK)(e:Option j3)(t:Option DE):Prop:=PO X e (λσ H Q=>∃(a:Wd)(S:DSt)(G:DH),a.K=X.K/\a.H=H/\Sim a G/\RepS a S σ/\Ii E a (Gi t S G) Q)
theorem _root_._L.PO.mono{e:Option j3}{t t':TO}(h:PO X e t)(w:∀σ H Q,t' σ H Q->t σ H Q):PO X e t':=λxw s σ H Q I q=>h xw s σ H Q I (w σ H Q q)
theorem ZFx:QO X E xy xy:=ZAW.mono λσ H Q h=>by obtain⟨a,S,G,hk,rfl,s,r,h⟩:=h;exact h a (Ext.refl a) s
theorem ZD1{t:DE}(he:QE X E e t):QO X E (xk e) (xk t):=(ZEQ he).mono λσ H Q h=>by
 obtain⟨a,S,G,hk,rfl,s,r,h⟩:=h;refine⟨a,S,G,hk,rfl,s,r,?_⟩
 have h':Ii E a ((t S G).bind λd G1=>match d with | .int i=>.ok (xk i) G1|_=>.bad) Q:=h
 cases ht:t S G with
 |ok d G1=>
  rw[ht]at h';intro b v x sb rv;cases d with
  |int i=>exact⟨i,rv,h' b x sb⟩
  |_=>exact h'.elim
 |err x G1=>rw[ht]at h';exact h'
 |bad=>rw[ht]at h';exact h'
theorem Reps.cutD(r:Reps a ds vs)(lo hi:Option Int):Reps a (_D.cutD ds lo hi) (G7 vs lo hi):=by unfold _D.cutD G7;rw[r.length];exact(r.drop _).take _
theorem Ii.imp{r:R (Option Int)}{Q Q':Option Int->Hp->Prop}(h:Ii E a r Q)(w:∀v H,Q v H->Q' v H):Ii E a r Q':=by
 cases r with
 |ok d G=>exact λb x s=>w _ _ (h b x s)
 |err e G=>exact h
 |bad=>exact h
theorem Ur{r:R (Option Int)}{f:Option Int->DH->R D}(h:out E a (r.bind f) Q):
  Ii E a r (λk H=>∃(b:Wd)(G:DH),b.H=H/\Ext a b/\Sim b G/\r=.ok k G/\out E b (f k G) Q):=by
 cases r with
 |ok d G=>exact λb x s=>⟨b,G,rfl,x,s,rfl,out.mono x h⟩
 |err e G=>exact h
 |bad=>exact h
theorem ZG3{lo hi:Option j3}{tl th:Option DE}{p2:Pos}(he:QE X E e te)(hl:QO X E lo tl)(hu:QO X E hi th):QE X E (.Subscript e (.Slice lo hi xy p2) pos) (dSl te tl th):=
 (ZD4 (ZCs.or (ZFw.or (ZE0.or ZBP))) he hl hu).mono λσ H Q h=>by
 obtain⟨a,S,G,hk,rfl,s,r,h⟩:=h;refine⟨a,S,G,hk,rfl,s,r,(Dm h).imp ?_⟩;rintro v _ ⟨b,d,G1,rfl,x,s1,q,_,h1⟩;refine⟨b,S,G1,x.k.trans hk,rfl,s1,r.mono x,(Ur h1).imp ?_⟩;rintro l _ ⟨c,G2,rfl,y,s2,_,h2⟩;refine⟨c,S,G2,y.k.trans (x.k.trans hk),rfl,s2,(r.mono x).mono y,(Ur h2).imp ?_⟩;rintro u _ ⟨c3,G3,rfl,y3,s3,_,h3⟩;have hk3:=y3.k.trans (y.k.trans (x.k.trans hk));have q3:=(q.mono y).mono y3
 have lst:out E c3 (match Di d G3 with |some xs=>.ok (.ref G3.length) (G3++[.lst (cutD xs l u)])|none=>.bad) Q->rSlL X.K v l u c3.H Q:=λh3=>by
  split at h3
  ·rename_i xs hx;obtain⟨p,vs,e1,q1,r1⟩:=Kp s3 q3 hx;exact⟨p,vs,e1,by rw[<-hk3];exact q1,λp hp=>Iz s3 (Reps.cutD r1 l u) h3 p hp⟩
  ·exact h3.elim
 cases d with
 | str z=>
  have h4:out E c3 (if z.length<=1000000 then .ok (.str (Fg z l u)) G3 else .bad) Q:=h3;split at h4
  ·rename_i hl
   cases(show v=V.str z from q3)
   exact .inr (.inr (.inr ⟨z,rfl,zk hl size6,h4 c3 _ (Ext.refl _) s3 rfl⟩))
  ·exact h4.elim
 | tup xs=>
  have h4:out E c3 (.ok (.tup (cutD xs l u)) G3) Q:=h3;obtain⟨p,vs,e1,q1,r1⟩:=q3;by_cases hw:HT.sIx vs.length 0 l=0/\HT.sIx vs.length vs.length u=vs.length
  ·refine .inr (.inr (.inl ⟨p,vs,e1,by rw[<-hk3];exact q1,hw,h4 c3 _ (Ext.refl _) s3 ⟨p,vs,rfl,q1,?_⟩⟩));have:cutD xs l u=xs:=by unfold cutD;rw[r1.length,hw.1,hw.2,<-r1.length];simp
   rw[this];exact r1
  ·exact .inr (.inl ⟨p,vs,e1,by rw[<-hk3];exact q1,hw,λp hp=>Su s3 (Reps.cutD r1 l u) h4 p hp⟩)
 |fl xs=>exact .inl (lst h3)
 |ref i=>exact .inl (lst h3)
 |non=>exact(show False from h3).elim
 |bl _=>exact(show False from h3).elim
 |int _=>exact(show False from h3).elim
 |ty _=>exact(show False from h3).elim
section
variable{name:Str}{id:String}{f:D->List D->DH->R D}{o e:j3}{es:List j3}{to:DE}{t:DA}{apos cpos:Pos}
end
noncomputable def G9:List D->Option (List Str)
 |[]=>xk []
 |.str x::r=>(G9 r).map (x::·)
 |_=>xy
@[simp]theorem ZBB(ns:List Str):G9 (ns.map D.str)=xk ns:=by
 induction ns with
 |nil=>rfl
 |cons n ns ih=>simp[G9,ih]
theorem Wl:∀{xs:List D}{ns:List Str},G9 xs=xk ns->xs=ns.map D.str
 |[],ns,h=>by cases h;rfl
 |.str i::r,ns,h=>by
  unfold G9 at h;rw[zD]at h;obtain⟨m,e,rfl⟩:=h;rw[Wl e]
  rfl
 |.non::_,_,h=>by cases h
 |.bl _::_,_,h=>by cases h
 |.int _::_,_,h=>by cases h
 |.ty _::_,_,h=>by cases h
 |.tup _::_,_,h=>by cases h
 |.fl _::_,_,h=>by cases h
 |.ref _::_,_,h=>by cases h
end
section
variable{S:DSt}{G:DH}
@[simp]theorem ev_Sl{e:DE}{lo hi:Option DE}:dSl e lo hi S G=(e S G).bind λd G1=>(Gi lo S G1).bind λl G2=>(Gi hi S G2).bind λh G3=>Io d l h G3:=id rfl
@[simp]theorem ZIM:Gi xy S G=.ok xy G:=id rfl
@[simp]theorem ZH1{t:DE}:Gi (xk t) S G=(t S G).bind λd G1=>match d with | .int i=>.ok (xk i) G1|_=>.bad:=id rfl
@[simp]theorem Ji{z:Str}:Io (.str z) lo hi G=if z.length<=1000000 then .ok (.str (Fg z lo hi)) G else .bad:=id rfl
@[simp]theorem ev_slF:Io (.fl xs) lo hi G=.ok (.ref G.length) (G++[.lst (cutD xs lo hi)]):=id rfl
@[simp]theorem ZHn:Eb [.fl xs] G=.ok (.ref G.length) (G++[.lst xs]):=id rfl
@[simp]theorem ZHV:Eb [.tup xs] G=.ok (.ref G.length) (G++[.lst xs]):=id rfl
@[simp]theorem Kh{ys:List D}:Af (.fl xs) (.fl ys) G=if xs.length+ys.length<=1000000 then .ok (.ref G.length) (G++[.lst (xs++ys)])else .bad:=id rfl
@[simp]theorem Gb{z:Str}{i:Int}:Ac (.str z) (.int i) G=if z.length<=1000000 then(match atI z.cps.toList i with |some c=>.ok (sgn c) G|none=>.bad)else .bad:=id rfl
end
end _D
namespace _D
open PySem PySem.Spec _L
open PyProof.Rows hiding St
open Builtin.Str
section
variable(p:Nat->Bool)(m:Nat)
end
end _D
namespace _D
open PySem PySem.Spec _L
open PyProof.Rows hiding St
variable{h h':Heap}{p z:j1}{k i:Nat}{old:jA}{os:List jA}
inductive Src where
 |l (a:j1)
 |t (a:j1)
variable{sr:Src}{l:List (Src×j1)}
noncomputable def Src.itn:Src->String
 |.l _=>"list_iterator"
 |.t _=>"tuple_iterator"
noncomputable def Src.adr:Src->j1
 |.l a=>a
 |.t a=>a
def Src.it(h:Heap)(p:j1)(k:Nat)(sr:Src):Prop:=∃o,h.get? p=xk o/\o.cls=.type sr.itn/\o.data=.fields #[.ref sr.adr,.int k 0]
def Src.val(h:Heap)(xs:Array jA):Src->Prop
 |.l a=>h.IsList a xs
 |.t a=>h.IsTuple a xs
theorem Src.it.at(x:sr.it h p k)(e:∀o,h.get? p=xk o->h'.get? p=xk o):sr.it h' p k:=let⟨o,ho,r⟩:=x;⟨o,e o ho,r⟩
theorem Src.val.at{xs:Array jA}(x:sr.val h xs)(e:∀o,h.get? sr.adr=xk o->h'.get? sr.adr=xk o):sr.val h' xs:=by
 cases sr with
 |l a=>obtain⟨o,ho,r⟩:=x;exact⟨o,e o ho,r⟩
 |t a=>obtain⟨o,ho,r⟩:=x;exact⟨o,e o ho,r⟩
theorem Src.it.lt(x:sr.it h p k):p<h.objs.size:=let⟨_,ho,_⟩:=x;zx ho
section
variable{prog:j6}{w:jB}{A:j2}{E:jA->j8->Prop}{s:j8}
theorem Src.val.obj{xs:Array jA}(x:sr.val h xs):∃o n,h.get? sr.adr=xk o/\o.data=.seq xs n:=by
 cases sr with
 |l a=>obtain⟨o,ho,_,n,hd⟩:=x;exact⟨o,n,ho,hd⟩
 |t a=>obtain⟨o,ho,_,n,hd⟩:=x;exact⟨o,n,ho,hd⟩
theorem Src.next_item{xs:Array jA}{x:jA}{Q:jA->j8->Prop}(hit:sr.it s.heap p k)(hv:sr.val s.heap xs)(hx:xs[k]?=xk x)
  (hQ:∀h',sr.it h' p (k+1)->qk p s.heap h'->Q x {s with heap:=h'}):jS (jM prog w) A (Builtin.SmallTypes.nextOf (.ref p)) Q E s:=by
 cases sr with
 |l a=>exact wpAny_nextOf_list_item (show s.heap.IsListIter p a k from hit) hv hx hQ
 |t a=>
  obtain⟨o,ho,hc,hd⟩:=id hit;obtain⟨ol,hol,_,nl,hdl⟩:=hv;have hT:s.TypeIs (.ref p) "tuple_iterator":=⟨o,ho,hc⟩;unfold Builtin.SmallTypes.nextOf;refine jT (jU (name:=Str.ofString "__next__") hT PySem.F.slot_tuple_iterator_next (xQ PySem.F.slot_tuple_iterator_next hT PySem.F.entry_tuple_iterator_next ?_ (PySem.F.args_tuple_iterator_next_1 _)));refine jT (m:=field (.ref p) 0) (xZ ho hd (x:=.ref a) rfl ?_)
  show jS _ _ (if(Value.ref a==Value.none)=x0 then _ else(field (.ref p) 1 >>=_)) _ _ s
  rw[if_neg (show¬((Value.ref a==Value.none)=x0)from zw)]
  refine jT (m:=field (.ref p) 1) (xZ ho hd (x:=.int k 0) rfl (jT (m:=seqItems? (.ref a)) (wpAny_seqItems hol hdl ?_)));simp only[Int.toNat_natCast,hx];refine jT (wpAny_setField ho hd (by simp) (xK ⟨x,rfl,xK (hQ _ ⟨_,jx _ ho (Obj.isFreed_of_fields (Obj.data_mapFields hd _)),(Obj.cls_mapFields ..).trans hc,?_⟩ (qk.update ..))⟩))
  rw[Obj.data_mapFields hd];simp[jN,Src.adr]
theorem Src.next_end{xs:Array jA}{Q:jA->j8->Prop}(hh:A.handled=xy)(hit:sr.it s.heap p k)(hv:sr.val s.heap xs)(hx:xs[k]?=xy)
  (hE:∀h' e,Heap.ExtBut p s.heap h'->(∃o,h'.get? e=xk o/\o.cls=.type "StopIteration")->E (.ref e) {s with heap:=h'}):jS (jM prog w) A (Builtin.SmallTypes.nextOf (.ref p)) Q E s:=by
 cases sr with
 |l a=>exact wpAny_nextOf_list_end hh (show s.heap.IsListIter p a k from hit) hv hx hE
 |t a=>
  obtain⟨o,ho,hc,hd⟩:=id hit;obtain⟨ol,hol,_,nl,hdl⟩:=hv;have hT:s.TypeIs (.ref p) "tuple_iterator":=⟨o,ho,hc⟩;unfold Builtin.SmallTypes.nextOf;refine jT (jU (name:=Str.ofString "__next__") hT PySem.F.slot_tuple_iterator_next (xQ PySem.F.slot_tuple_iterator_next hT PySem.F.entry_tuple_iterator_next ?_ (PySem.F.args_tuple_iterator_next_1 _)));refine jT (m:=field (.ref p) 0) (xZ ho hd (x:=.ref a) rfl ?_)
  show jS _ _ (if(Value.ref a==Value.none)=x0 then _ else(field (.ref p) 1 >>=_)) _ _ s
  rw[if_neg (show¬((Value.ref a==Value.none)=x0)from zw)]
  refine jT (m:=field (.ref p) 1) (xZ ho hd (x:=.int k 0) rfl (jT (m:=seqItems? (.ref a)) (wpAny_seqItems hol hdl ?_)));simp only[Int.toNat_natCast,hx];refine jT (wpAny_rule (jT (wpAny_setField ho hd (by simp) (jT (m:=newExc (.type "StopIteration") []) ?_))));simp only[newExc,newTuple]
  refine jT (xV (jT (m:=firstArgMember _ _) (wpAny_of_eq (a:=Value.none) (by first|rfl|(simp only[firstArgMember];rfl)) (xV ?_ (by size_fits)))) (by size_fits))
  simp only[raiseNew];refine jT (wpAny_handled ?_)
  first|rw[show A.in1.handled=xy from hh]|rw[hh]
  exact jT (xK (wpAny_throw (hE _ _ (((qk.update ..).extBut.push _).push _) ⟨_,zy _ rfl,rfl⟩)))
theorem Src.iter{xs:Array jA}{Q:jA->j8->Prop}(hv:sr.val s.heap xs)
  (hQ:Q (.ref s.heap.objs.size) {s with heap:=s.heap.push {cls:=.type sr.itn,data:=.fields #[.ref sr.adr,.int 0 0]}}):jS (jM prog w) A (pyIter (.ref sr.adr)) Q E s:=by
 cases sr with
 |l a=>exact wpAny_pyIter_list hv hQ
 |t a=>exact wpAny_pyIter_tuple hv hQ
end
abbrev En(h:Heap)(e it:j1)(f0:jA)(i:Int)(g old:jA):Prop:=
 h.get? e=xk {cls:=.type "enumerate",dict:=xy,data:=.fields #[f0,.bool xA,.ref it,jN i,g,old],slots:= #[]}
def Gv(i:Int)(g:jA):Prop:=g=.none∨∃t,g=.int i t
section
variable{prog:j6}{w:jB}{A:j2}{E:jA->j8->Prop}{s:j8}
theorem ZCV{e it:j1}{i:Int}{xs:Array jA}{x g:jA}{Q:jA->j8->Prop}(he:En s.heap e it .none i g old)(hg:Gv i g)(hit:sr.it s.heap it k)(hv:sr.val s.heap xs)(hx:xs[k]?=xk x)(hne:e≠it)
  (hQ:∀h' t tk,En h' e it (jN s.heap.objs.size) (i+1) .none x->sr.it h' it (k+1)->h'.get? s.heap.objs.size=xk {cls:=.type "tuple",data:=.seq #[.int i t,x]}->h'.objs.size=s.heap.objs.size+1->
   (∀b o,b≠e->b≠it->s.heap.get? b=xk o->h'.get? b=xk o)->Q (.ref s.heap.objs.size) {s with heap:=h',toks:=tk}):
  jS (jM prog w) A (Builtin.«enumerate.__next__» ⟨[.ref e],[]⟩) (λfin s'=>∃v,fin=.done (.ret v)/\Q v s') E s:=by
 obtain⟨hp,gg,d,tk,os⟩:=s;refine jT (m:=field (.ref e) 2) (xZ he rfl (x:=.ref it) rfl (jT (m:=Builtin.SmallTypes.nextOf (.ref it)) (Src.next_item hit hv hx λh₁ hit₁ hs₁=>?_)));have he₁:En h₁ e it .none i g old:=(hs₁.2 e hne).trans he;have k₁:∀b o,b≠e->b≠it->hp.get? b=xk o->h₁.get? b=xk o:=λb o _ hb q=>hs₁.extBut b o hb q
 have z₁:h₁.objs.size=hp.objs.size:=hs₁.1;refine jT (m:=field (.ref e) 3) (xZ he₁ rfl (x:=jN i) rfl ?_);refine jT (m:=field (.ref e) 4) (xZ he₁ rfl (x:=g) rfl ?_)
 have rest:∀(t:Tok)(tk':Nat),jS (jM prog w) A (do
   setField (.ref e) 3 (jN (i+1));setField (.ref e) 4 .none
   let result<-newTuple [.int i t,x]
   if<-Builtin.SmallTypes.ownedTupleIsFree (.ref e)then
    rule "enumerate.__next__.owned-tuple-again"
    let old<-field (.ref e) 5
    setField (.ref e) 5 x
    Builtin.SmallTypes.ownedTupleHandOut (.ref e) result
    PySem.letGo [old] [result]
   ret result) (λfin s'=>∃v,fin=.done (.ret v)/\Q v s') E ⟨h₁,gg,d,tk',os⟩:=by
  intro t tk';refine jT (xY he₁ (by simp) λh₂ he₂ hs₂=>?_);refine jT (xY he₂ (by simp) λh₃ he₃ hs₃=>?_)
  replace he₃:En h₃ e it .none (i+1) .none old:=he₃
  have z₃:h₃.objs.size=hp.objs.size:=by rw[hs₃.1];show h₂.objs.size=_;rw[hs₂.1];exact z₁
  have k₃:∀b o,b≠e->b≠it->hp.get? b=xk o->h₃.get? b=xk o:=λb o h1 h2 q=>hs₃.extBut b o h1 (hs₂.extBut b o h1 (k₁ b o h1 h2 q))
  have i₃:sr.it h₃ it (k+1):=(hit₁.at λo q=>hs₂.extBut it o (Ne.symm hne) q).at λo q=>hs₃.extBut it o (Ne.symm hne) q
  refine jT (wpAny_newTuple ?_);generalize hh₄:h₃.push {cls:=.type "tuple",data:=.seq [Value.int i t,x].toArray}=h₄;have he₄:En h₄ e it .none (i+1) .none old:=by rw[<-hh₄];exact zZ _ he₃
  have ht₄:h₄.get? hp.objs.size=xk {cls:=.type "tuple",data:=.seq #[.int i t,x]}:=by rw[<-hh₄,<-z₃];exact zy _ rfl
  have z₄:h₄.objs.size=hp.objs.size+1:=by rw[<-hh₄,q8,z₃]
  have k₄:∀b o,b≠e->b≠it->hp.get? b=xk o->h₄.get? b=xk o:=λb o h1 h2 q=>by rw[<-hh₄];exact zZ _ (k₃ b o h1 h2 q)
  have i₄:sr.it h₄ it (k+1):=i₃.at λo q=>by rw[<-hh₄];exact zZ _ q
  have ez:e<hp.objs.size:=zx he;refine jT (m:=Builtin.SmallTypes.ownedTupleIsFree (.ref e)) ?_;unfold Builtin.SmallTypes.ownedTupleIsFree;refine jT (xZ he₄ rfl (x:=.none) rfl (xK ?_));simp only[if_true];refine jT (wpAny_rule (jT (xZ he₄ rfl (x:=old) rfl (jT (xY he₄ (by simp) λh₅ he₅ hs₅=>?_)))))
  replace he₅:En h₅ e it .none (i+1) .none x:=he₅
  refine jT (m:=Builtin.SmallTypes.ownedTupleHandOut _ _) ?_;unfold Builtin.SmallTypes.ownedTupleHandOut;refine jT (xY he₅ (by simp) λh₆ he₆ hs₆=>?_);refine xY he₆ (by simp) λh₇ he₇ hs₇=>?_
  refine jT (wpAny_letGo (xK ⟨_,rfl,?_⟩));have up:∀b o,b≠e->h₄.get? b=xk o->h₇.get? b=xk o:=λb o hb q=>hs₇.extBut b o hb (hs₆.extBut b o hb (hs₅.extBut b o hb q))
  show Q (.ref h₃.objs.size) _;rw[z₃];rw[z₃]at he₇;exact hQ h₇ t tk' he₇ (i₄.at λo q=>up it o (Ne.symm hne) q) (up _ _ (qI ez) ht₄) (by rw[hs₇.1];show h₆.objs.size=_;rw[hs₆.1];show h₅.objs.size=_;rw[hs₅.1];exact z₄) λb o h1 h2 q=>up b o h1 (k₄ b o h1 h2 q)
 rcases hg with rfl|⟨t,rfl⟩
 ·exact jT (m:=mkInt i) (wpAny_mkInt (rest tk (tk+1)))
 ·exact jT (m:=(pure (Value.int i t):Sem jA)) (xK (rest t tk))
theorem ZDL{e it:j1}{i:Int}{xs:Array jA}{x g:jA}{Q:Option jA->j8->Prop}(he:En s.heap e it .none i g old)(hg:Gv i g)(hit:sr.it s.heap it k)(hv:sr.val s.heap xs)(hx:xs[k]?=xk x)(hne:e≠it)
  (hQ:∀h' t tk,En h' e it (jN s.heap.objs.size) (i+1) .none x->sr.it h' it (k+1)->h'.get? s.heap.objs.size=xk {cls:=.type "tuple",data:=.seq #[.int i t,x]}->h'.objs.size=s.heap.objs.size+1->
   (∀b o,b≠e->b≠it->s.heap.get? b=xk o->h'.get? b=xk o)->Q (xk (.ref s.heap.objs.size)) {s with heap:=h',toks:=tk}):
  jS (jM prog w) A (pyNext (.ref e)) Q E s:=by
 have hT:s.TypeIs (.ref e) "enumerate":=⟨_,he,rfl⟩;unfold pyNext;exact jT (wpAny_attempt (jU (name:=Str.ofString "__next__") hT PySem.F.slot_enumerate_next
  (xQ PySem.F.slot_enumerate_next hT PySem.F.entry_enumerate_next (ZCV he hg hit hv hx hne λh' t tk a1 a2 a3 a4 a5=>xK (hQ h' t tk a1 a2 a3 a4 a5)) (PySem.F.args_enumerate_next_1 _))))
theorem ZEc{e it:j1}{i:Int}{xs:Array jA}{g:jA}{Q:Option jA->j8->Prop}(hh:A.handled=xy)(he:En s.heap e it .none i g old)(hit:sr.it s.heap it k)(hv:sr.val s.heap xs)(hx:xs[k]?=xy)
  (hQ:∀h',Heap.ExtBut it s.heap h'->Q xy {s with heap:=h'}):jS (jM prog w) A (pyNext (.ref e)) Q E s:=by
 have hT:s.TypeIs (.ref e) "enumerate":=⟨_,he,rfl⟩;unfold pyNext;refine jT (wpAny_attempt (jU (name:=Str.ofString "__next__") hT PySem.F.slot_enumerate_next
  (xQ PySem.F.slot_enumerate_next hT PySem.F.entry_enumerate_next (jT (m:=field (.ref e) 2) (xZ he rfl (x:=.ref it) rfl (jT (m:=Builtin.SmallTypes.nextOf (.ref it)) (Src.next_end hh hit hv hx λh' x he' hx'=>?_)))) (PySem.F.args_enumerate_next_1 _))))
 obtain⟨o,ho,hc⟩:=hx';exact jT (wpAny_isInstance (T:="StopIteration") (b:=x0) ⟨o,ho,hc⟩ isSubtype_stop (xK (hQ _ he')))
theorem ZFy{elts:List j3}{x1}{pos:Pos}{e it a:j1}{i:Int}{g:jA}{Q:Unit->j8->Prop}(he:En s.heap e it (jN a) i g old)
  (hQ:∀h',En h' e it .none i g old->qk e s.heap h'->Q () {s with heap:=h'}):jS (jM prog w) A (jI (.Tuple elts x1 pos) (.ref e) (.ref a)) Q E s:=by
 unfold jI;refine jT (wpAny_load he ?_);dsimp only;rw[if_pos (by simp)];exact jT (wpAny_rule (xY he (by simp) λh' he' hs'=>hQ h' he' hs'))
theorem U9{e it:j1}{f0:jA}{i:Int}{g:jA}{Q:jA->j8->Prop}(he:En s.heap e it f0 i g old)(h:Q (.ref e) s):jS (jM prog w) A (pyIter (.ref e)) Q E s:=by have hT:s.TypeIs (.ref e) "enumerate":=⟨_,he,rfl⟩;exact wpAny_pyIter_slot hT PySem.F.slot_enumerate_iter (xQ PySem.F.slot_enumerate_iter hT PySem.F.entry_enumerate_iter (xK ⟨_,rfl,"enumerate",_,hT,PySem.F.slot_enumerate_next.lookup,h⟩) (PySem.F.args_enumerate_iter_1 _))
end
abbrev Tp(h:Heap)(T:j1)(xs:List jA):Prop:=h.get? T=xk {cls:=.type "tuple",data:=.seq xs.toArray}
inductive Drw (h:Heap) (i:Nat):List (Src×j1)->List jA->Prop where
 |nil:Drw h i [] []
 |cons {sr p r x us xs} (hit:Src.it h p i sr) (hv:sr.val h xs) (hx:xs[i]?=xk x) (t:Drw h i r us):Drw h i ((sr,p)::r) (x::us)
theorem Drw.length{us:List jA}(d:Drw h i l us):us.length=l.length:=by
 induction d with
 |nil=>rfl
 |cons _ _ _ _ ih=>simp[ih]
section
variable{prog:j6}{w:jB}{A:j2}{E:jA->j8->Prop}{s:j8}
theorem ZB2{T:j1}{xs:List jA}{x:jA}{Q:Unit->j8->Prop}(hT:Tp s.heap T xs)(hz:xs.length<=1000000)
  (h:∀h',Tp h' T (xs.set k x)->qk T s.heap h'->Q () {s with heap:=h'}):jS (jM prog w) A (updateSeq T (·.setIfInBounds k x)) Q E s:=by
 have h1:xs.toArray.size<=sizeLine:=by rw[zj];exact zk hz size6
 refine wpAny_updateSeq hT rfl (h _ ?_ (qk.update ..)) h1 (by rw[Array.size_setIfInBounds];exact Nat.le_succ_of_le h1);show(s.heap.update T _).get? T=_;rw[jx _ hT rfl];simp[Obj.mapSeq]
def ZS(prog:j6)(w:jB)(A:j2)(E:jA->j8->Prop)(z TO p:j1)(k:Nat)(R:j8->Prop)(s:j8):Prop:=
 jS (jM prog w) A (Builtin.SmallTypes.nextOf (.ref p)) (λx s1=>∃os,Tp s1.heap TO os/\os.length<=1000000/\∀h',Tp h' TO (os.set k x)->qk TO s1.heap h'->R {s1 with heap:=h'})
  (λe s'=>jS (jM prog w) A (setField (.ref z) 0 .none) (λ_ s''=>E e s'') E s') s
theorem Vu{TO:j1}{xs:Array jA}{x:jA}{Q:j8->Prop}(hTO:Tp s.heap TO os)(hz:os.length<=1000000)(hit:sr.it s.heap p i)(hv:sr.val s.heap xs)(hx:xs[i]?=xk x)
  (h:∀h',Tp h' TO (os.set k x)->sr.it h' p (i+1)->(∀b o,b≠TO->b≠p->s.heap.get? b=xk o->h'.get? b=xk o)->h'.objs.size=s.heap.objs.size->Q {s with heap:=h'}):ZS prog w A E z TO p k Q s:=by
 have hne:TO≠p:=λe=>by
  obtain⟨o,ho,hc,_⟩:=hit;rw[<-e,hTO]at ho;cases ho
  cases sr<;>(simp[Src.itn]at hc)
 refine Src.next_item hit hv hx λh₁ it₁ sb₁=>⟨os,sb₁.extBut _ _ hne hTO,hz,λh₂ t₂ sb₂=>?_⟩
 exact h h₂ t₂ (it₁.at λo e=>sb₂.extBut _ _ (Ne.symm hne) e) (λb o b1 b2 e=>sb₂.extBut b o b1 (sb₁.extBut b o b2 e)) (by rw[sb₂.1];show h₁.objs.size=_;rw[sb₁.1])
theorem Yn{TO:j1}{body:jA×Nat->Option Fin×PUnit->Sem (ForInStep (Option Fin×PUnit))}{R:Option Fin×PUnit->j8->Prop}
  (hb:∀(p:j1)(k:Nat)(s:j8)(R':ForInStep (Option Fin×PUnit)->j8->Prop),ZS prog w A E z TO p k (λs'=>R' (.yield (xy,⟨⟩)) s') s->
   jS (jM prog w) A (body (.ref p,k) (xy,⟨⟩)) R' E s):
  ∀(l:List (Src×j1))(us pre post:List jA)(s:j8),Drw s.heap i l us->Tp s.heap TO (pre++post)->post.length=l.length->(pre++post).length<=1000000->(l.map (·.2)).Nodup->(∀q∈l,q.1.adr≠TO)->(∀q∈l,∀r∈l,q.1.adr≠r.2)->
   (∀h',Tp h' TO (pre++us)->(∀q∈l,q.1.it h' q.2 (i+1))->(∀b o,b≠TO->b∉l.map (·.2)->s.heap.get? b=xk o->h'.get? b=xk o)->h'.objs.size=s.heap.objs.size->R (xy,⟨⟩) {s with heap:=h'})->
   jS (jM prog w) A (forIn ((l.map λq=>Value.ref q.2).zipIdx pre.length) (xy,⟨⟩) body) R E s
 | [],us,pre,post,s,d,hT,hl,hz,nd,na,np,hR=>by
  cases d;cases post with
  |cons _ _=>simp at hl
  |nil=>
   rw[zU,List.zipIdx_nil,List.forIn_nil];exact xK (hR s.heap hT (λq hq=>by cases hq) (λb o _ _ e=>e) rfl)
 | (sr,p)::l,us,pre,post,s,d,hT,hl,hz,nd,na,np,hR=>by
  cases d with
  |@cons _ _ _ x us xs hit hv hx d=>
  cases post with
  |nil=>simp at hl
  | cons y post=>
   rw[zK,jZ,j0];refine jT (hb p pre.length s _ (Vu hT hz hit hv hx λh' hT' it' kp sz=>?_));have e1:(pre++y::post).set pre.length x=(pre++[x])++post:=by simp
   rw[e1]at hT';have e2:pre.length+1=(pre++[x]).length:=by simp
   dsimp only;rw[e2]
   have nd':p∉l.map (·.2)/\(l.map (·.2)).Nodup:=by simpa using nd
   have hTOp:∀q∈l,q.2≠TO:=λq hq e=>by
    have:∃sr k,Src.it s.heap q.2 k sr:=by
     clear hR na np nd nd' e1 e2 hl hT' hz
     induction d with
     |nil=>cases hq
     |cons hit _ _ _ ih=>
      rcases zA.mp hq with rfl|hq
      ·exact⟨_,_,hit⟩
      ·exact ih hq
    obtain⟨sr',k,o,ho,hc,_⟩:=this;rw[e,hT]at ho;cases ho
    cases sr'<;>(simp[Src.itn]at hc)
   have d':Drw h' i l us:=by
    have na':∀q∈l,q.1.adr≠TO:=λq hq=>na q (zV _ hq)
    have np':∀q∈l,q.1.adr≠p:=λq hq=>np q (zV _ hq) (sr,p) zY
    have pp:∀q∈l,q.2≠p:=λq hq e=>nd'.1 (qX.mpr ⟨q,hq,e⟩)
    clear hR na np nd nd' e1 e2 hl hT' hz
    induction d with
    |nil=>exact .nil
    |@cons sr1 p1 r1 x1 us1 xs1 hit1 hv1 hx1 t1 ih=>
     refine .cons (hit1.at λo e=>kp _ o (hTOp _ zY) (pp _ zY) e) (hv1.at λo e=>kp _ o (na' _ zY) (np' _ zY) e) hx1 ?_;exact ih (λq hq=>hTOp q (zV _ hq)) (λq hq=>na' q (zV _ hq)) (λq hq=>np' q (zV _ hq)) (λq hq=>pp q (zV _ hq))
   refine Yn hb l us (pre++[x]) post {s with heap:=h'} d' hT' (by simpa using hl) (by simpa using hz) nd'.2 (λq hq=>na q (zV _ hq)) (λq hq r hr=>np q (zV _ hq) r (zV _ hr)) λh'' t'' its'' kp'' sz''=>?_
   have hpTO:p≠TO:=λe=>by
    obtain⟨o,ho,hc,_⟩:=hit;rw[e,hT]at ho;cases ho
    cases sr<;>(simp[Src.itn]at hc)
   refine hR h'' (by simpa using t'') (λq hq=>?_) (λb o b1 b2 e=>?_) (sz''.trans sz)
   ·rcases zA.mp hq with rfl|hq
    ·exact it'.at λo e=>kp'' _ o hpTO nd'.1 e
    ·exact its'' q hq
   ·simp only[zK,zA,not_or]at b2;exact kp'' b o b1 b2.2 (kp b o b1 b2.1 e)
end
inductive DrwE (h:Heap) (i:Nat):List (Src×j1)->Prop where
 |here {sr p r xs} (hit:Src.it h p i sr) (hv:sr.val h xs) (hx:xs[i]?=xy):DrwE h i ((sr,p)::r)
 |there {sr p r x xs} (hit:Src.it h p i sr) (hv:sr.val h xs) (hx:xs[i]?=xk x) (t:DrwE h i r):DrwE h i ((sr,p)::r)
structure ApZ (TO:j1) (l:List (Src×j1)):Prop where
 nd:(l.map (·.2)).Nodup
 na:∀q∈l,q.1.adr≠TO
 np:∀q∈l,∀r∈l,q.1.adr≠r.2
 to:∀q∈l,q.2≠TO
theorem ApZ.tail{TO:j1}{q:Src×j1}(a:ApZ TO (q::l)):ApZ TO l:=
 ⟨(qM.mp (by simpa using a.nd)).2,λq hq=>a.na q (zV _ hq),λq hq r hr=>a.np q (zV _ hq) r (zV _ hr),λq hq=>a.to q (zV _ hq)⟩
section
variable{prog:j6}{w:jB}{A:j2}{E:jA->j8->Prop}{s:j8}
theorem DrwE.at{TO:j1}(a:ApZ TO ((sr,p)::l))(kp:∀b o,b≠TO->b≠p->h.get? b=xk o->h'.get? b=xk o)(d:DrwE h i l):DrwE h' i l:=by
 have pp:∀q∈l,q.2≠p:=λq hq e=>(qM.mp (by simpa using a.nd)).1 (qX.mpr ⟨q,hq,e⟩)
 have np:∀q∈l,q.1.adr≠p:=λq hq=>a.np q (zV _ hq) (sr,p) zY
 have a':=a.tail;clear a
 induction d with
 |here hit hv hx=>exact .here (hit.at λo e=>kp _ o (a'.to _ zY) (pp _ zY) e) (hv.at λo e=>kp _ o (a'.na _ zY) (np _ zY) e) hx
 | there hit hv hx t ih=>
  exact .there (hit.at λo e=>kp _ o (a'.to _ zY) (pp _ zY) e) (hv.at λo e=>kp _ o (a'.na _ zY) (np _ zY) e) hx
   (ih (λq hq=>pp q (zV _ hq)) (λq hq=>np q (zV _ hq)) a'.tail)
theorem Vt{TO:j1}{body:jA×Nat->Option Fin×PUnit->Sem (ForInStep (Option Fin×PUnit))}{R:Option Fin×PUnit->j8->Prop}(hh:A.handled=xy)
  (hb:∀(p:j1)(k:Nat)(s:j8)(R':ForInStep (Option Fin×PUnit)->j8->Prop),ZS prog w A E z TO p k (λs'=>R' (.yield (xy,⟨⟩)) s') s->
   jS (jM prog w) A (body (.ref p,k) (xy,⟨⟩)) R' E s):
  ∀(l:List (Src×j1))(os:List jA)(n:Nat)(s:j8),DrwE s.heap i l->Tp s.heap TO os->os.length<=1000000->ApZ TO l->
   (∀h' e,(∀b o,b≠TO->b∉l.map (·.2)->s.heap.get? b=xk o->h'.get? b=xk o)->(∃o,h'.get? e=xk o/\o.cls=.type "StopIteration")->jS (jM prog w) A (setField (.ref z) 0 .none) (λ_ s''=>E (.ref e) s'') E {s with heap:=h'})->
   jS (jM prog w) A (forIn ((l.map λq=>Value.ref q.2).zipIdx n) (xy,⟨⟩) body) R E s
 |[],os,n,s,d,hT,hz,a,hE=>by cases d
 | (sr,p)::l,os,n,s,d,hT,hz,a,hE=>by
  rw[zK,jZ,j0];refine jT (hb p n s _ ?_);cases d with
  |here hit hv hx=>
   exact Src.next_end hh hit hv hx λh' e xb st=>hE h' e (λb o b1 b2 q=>xb b o (λz=>b2 (by rw[z];simp)) q) st
  |there hit hv hx t=>
   refine Vu hT hz hit hv hx λh' hT' it' kp sz=>?_
   refine Vt hh hb l _ (n+1) {s with heap:=h'} (t.at a kp) hT' (by simpa using hz) a.tail λh'' e kp'' st=>?_
   refine hE h'' e (λb o b1 b2 q=>?_) st;simp only[zK,zA,not_or]at b2;exact kp'' b o b1 b2.2 (kp b o b1 b2.1 q)
theorem Wm{TI TO:j1}{R:Fin->j8->Prop}(hz:IsZip s.heap z TI TO .none)(hTI:Tp s.heap TI (l.map λq=>Value.ref q.2))(hne:l≠[])
  (h:∀h₁,IsZip h₁ z TI TO .ellipsis->qk z s.heap h₁->∀body:jA×Nat->Option Fin×PUnit->Sem (ForInStep (Option Fin×PUnit)),
   (∀(p:j1)(k:Nat)(s:j8)(R':ForInStep (Option Fin×PUnit)->j8->Prop),ZS prog w A E z TO p k (λs'=>R' (.yield (xy,⟨⟩)) s') s->
    jS (jM prog w) A (body (.ref p,k) (xy,⟨⟩)) R' E s)->
   jS (jM prog w) A (forIn ((l.map λq=>Value.ref q.2).zipIdx 0) (xy,⟨⟩) body) (λr s'=>r.1=xy/\∃us,Tp s'.heap TO us/\us.length<=1000000/\IsZip s'.heap z TI TO .ellipsis/\
    ∀h',IsZip h' z TI TO (jN s'.heap.objs.size)->Tp h' s'.heap.objs.size us->h'.objs.size=s'.heap.objs.size+1->(∀b o,b≠z->s'.heap.get? b=xk o->h'.get? b=xk o)->R (.done (.ret (.ref s'.heap.objs.size))) {s' with heap:=h'}) E {s with heap:=h₁}):
  jS (jM prog w) A (Builtin.«zip.__next__» ⟨[.ref z],[]⟩) R E s:=by
 refine jT (m:=field (.ref z) 2) (xZ hz rfl (x:=.bool xA) rfl (jT (m:=field (.ref z) 3) (xZ hz rfl (x:=.ref TI) rfl (jT (m:=seqItems? (.ref TI)) (wpAny_seqItems hTI rfl ?_)))));dsimp only;have hemp:(l.map λq=>Value.ref q.2).toArray.isEmpty=xA:=by cases l with
  |nil=>exact absurd rfl hne
  |cons _ _=>simp
 rw[hemp];refine jT (m:=Builtin.SmallTypes.ownedTupleIsFree (.ref z)) ?_;unfold Builtin.SmallTypes.ownedTupleIsFree;refine jT (xZ hz rfl (x:=.none) rfl (xK ?_));simp only[if_true];refine jT (wpAny_rule (jT (xZ hz rfl (x:=.ref TO) rfl (jT (xY hz (by simp) λh₁ hz₁ hs₁=>?_)))));refine jT (xX (h h₁ hz₁ hs₁ _ λp k s R' hst=>?_) (λr s' hr=>?_) λ_ _ x=>x)
 ·refine jT (wpAny_onRaise ?_);show jS _ _ (Builtin.SmallTypes.nextOf (.ref p) >>=λv=>pure (xk v)) _ _ s;refine jT (xX hst (λx s1 hx=>xK ?_) λ_ _ x=>x);obtain⟨os,hT,hl,hR⟩:=hx;dsimp only;refine jT (wpAny_seqItems hT rfl ?_);dsimp only;exact jT (ZB2 hT hl λh' t' sb=>jT (wpAny_letGo (xK (hR h' t' sb))))
 ·obtain⟨hn,us,hT,hl,hzz,hR⟩:=hr;rw[hn];dsimp only;refine jT (wpAny_seqItems hT rfl ?_);dsimp only;refine jT (wpAny_newTuple ?_ (by show us.toArray.toList.length<=_;simpa using zk hl size6));have hzlt:z<s'.heap.objs.size:=zx hzz;refine jT (m:=Builtin.SmallTypes.ownedTupleHandOut _ _) ?_;unfold Builtin.SmallTypes.ownedTupleHandOut;have e1:us.toArray.toList.toArray=us.toArray:=by simp
  rw[e1];have hz2:IsZip (s'.heap.push {cls:=.type "tuple",data:=.seq us.toArray}) z TI TO .ellipsis:=zZ _ hzz;refine jT (xY hz2 (by simp) λh₇ hz₇ hs₇=>?_);refine xY hz₇ (by simp) λh₈ hz₈ hs₈=>?_
  refine xK (hR h₈ hz₈ ?_ ?_ λb o hb q=>hs₈.extBut _ _ hb (hs₇.extBut _ _ hb (zZ _ q)))
  ·exact hs₈.extBut _ _ (qI hzlt) (hs₇.extBut _ _ (qI hzlt) (zy _ rfl))
  ·rw[hs₈.1];show h₇.objs.size=_;rw[hs₇.1,q8]
theorem ZDs{TI TO:j1}{us:List jA}{Q:Option jA->j8->Prop}(hz:IsZip s.heap z TI TO .none)(hTI:Tp s.heap TI (l.map λq=>Value.ref q.2))(hTO:Tp s.heap TO os)(hlen:os.length=l.length)(hsz:l.length<=1000000)(hne:l≠[])
  (a:ApZ TO l) (zz:z≠TO/\(∀q∈l,q.2≠z/\q.1.adr≠z)) (d:Drw s.heap i l us)
  (hQ:∀h',IsZip h' z TI TO (jN s.heap.objs.size)->Tp h' TO us->(∀q∈l,q.1.it h' q.2 (i+1))->Tp h' s.heap.objs.size us->h'.objs.size=s.heap.objs.size+1->
   (∀b o,b≠z->b≠TO->b∉l.map (·.2)->s.heap.get? b=xk o->h'.get? b=xk o)->Q (xk (.ref s.heap.objs.size)) {s with heap:=h'}):jS (jM prog w) A (pyNext (.ref z)) Q E s:=by
 have hT:s.TypeIs (.ref z) "zip":=⟨_,hz,rfl⟩;unfold pyNext;refine jT (wpAny_attempt (jU (name:=Str.ofString "__next__") hT PySem.F.slot_zip_next (xQ PySem.F.slot_zip_next hT PySem.F.entry_zip_next ?_ (PySem.F.args_zip_next_1 _))));refine Wm hz hTI hne λh₁ hz₁ hs₁ body hb=>?_
 have k₁:∀b o,b≠z->s.heap.get? b=xk o->h₁.get? b=xk o:=λb o hb q=>hs₁.extBut b o hb q
 have d₁:Drw h₁ i l us:=by
  have h1:∀q∈l,q.2≠z/\q.1.adr≠z:=zz.2;clear hTI hlen hsz hne a zz hQ
  induction d with
  |nil=>exact .nil
  |cons hit hv hx t ih=>exact .cons (hit.at λo e=>k₁ _ o (h1 _ zY).1 e) (hv.at λo e=>k₁ _ o (h1 _ zY).2 e) hx (ih λq hq=>h1 q (zV _ hq))
 refine Yn (z:=z) (TO:=TO) (i:=i) hb l us [] os {s with heap:=h₁} d₁ (k₁ _ _ (Ne.symm zz.1) hTO) hlen (by simpa[hlen]using hsz) a.nd a.na a.np λh₂ t₂ it₂ k₂ sz₂=>⟨rfl,us,t₂,by rw[d.length];exact hsz,?_,λh₃ z₃ p₃ s₃ k₃=>?_⟩
 ·refine k₂ _ _ zz.1 (λhm=>?_) hz₁;obtain⟨q,hq,e⟩:=qX.mp hm;exact(zz.2 q hq).1 e
 ·have e2:h₂.objs.size=s.heap.objs.size:=by rw[sz₂];exact hs₁.1
  refine⟨_,rfl,xK ?_⟩;show Q (xk (.ref h₂.objs.size)) _;have z₃':IsZip h₃ z TI TO (jN h₂.objs.size):=z₃;have p₃':Tp h₃ h₂.objs.size us:=p₃;have s₃':h₃.objs.size=h₂.objs.size+1:=s₃;have k₃':∀b o,b≠z->h₂.get? b=xk o->h₃.get? b=xk o:=k₃;rw[e2]at z₃' p₃' s₃'⊢;exact hQ h₃ z₃' (k₃' _ _ (Ne.symm zz.1) t₂) (λq hq=>(it₂ q hq).at λo e=>k₃' _ o (zz.2 q hq).1 e) p₃' s₃' λb o b1 b2 b3 q=>k₃' b o b1 (k₂ b o b2 b3 (k₁ b o b1 q))
theorem ZA1{TI TO:j1}{Q:Option jA->j8->Prop}(hh:A.handled=xy)(hz:IsZip s.heap z TI TO .none)(hTI:Tp s.heap TI (l.map λq=>Value.ref q.2))(hTO:Tp s.heap TO os)(hlen:os.length=l.length)(hsz:l.length<=1000000)(hne:l≠[])
  (a:ApZ TO l) (zz:z≠TO/\(∀q∈l,q.2≠z/\q.1.adr≠z)) (d:DrwE s.heap i l)
  (hQ:∀h',(∀b o,b≠z->b≠TO->b∉l.map (·.2)->s.heap.get? b=xk o->h'.get? b=xk o)->Q xy {s with heap:=h'}):jS (jM prog w) A (pyNext (.ref z)) Q E s:=by
 have hT:s.TypeIs (.ref z) "zip":=⟨_,hz,rfl⟩;unfold pyNext;refine jT (wpAny_attempt (jU (name:=Str.ofString "__next__") hT PySem.F.slot_zip_next (xQ PySem.F.slot_zip_next hT PySem.F.entry_zip_next ?_ (PySem.F.args_zip_next_1 _))));refine Wm hz hTI hne λh₁ hz₁ hs₁ body hb=>?_
 have k₁:∀b o,b≠z->s.heap.get? b=xk o->h₁.get? b=xk o:=λb o hb q=>hs₁.extBut b o hb q
 have d₁:DrwE h₁ i l:=by
  have h1:∀q∈l,q.2≠z/\q.1.adr≠z:=zz.2;clear hTI hlen hsz hne a zz hQ
  induction d with
  |here hit hv hx=>exact .here (hit.at λo e=>k₁ _ o (h1 _ zY).1 e) (hv.at λo e=>k₁ _ o (h1 _ zY).2 e) hx
  |there hit hv hx t ih=>exact .there (hit.at λo e=>k₁ _ o (h1 _ zY).1 e) (hv.at λo e=>k₁ _ o (h1 _ zY).2 e) hx (ih λq hq=>h1 q (zV _ hq))
 refine Vt (A:=A.in1) (z:=z) (TO:=TO) (i:=i) (show A.in1.handled=xy from hh) hb l os 0 {s with heap:=h₁} d₁ (k₁ _ _ (Ne.symm zz.1) hTO) (by rw[hlen];exact hsz) a λh₂ e k₂ st=>?_
 have hz₂:IsZip h₂ z TI TO .ellipsis:=by refine k₂ _ _ zz.1 (λhm=>?_) hz₁;obtain⟨q,hq,e⟩:=qX.mp hm;exact(zz.2 q hq).1 e
 obtain⟨o,ho,hc⟩:=st;have hez:e≠z:=λx=>by subst x;rw[hz₂]at ho;cases ho;simp at hc
 refine xY hz₂ (by simp) λh₃ _ hs₃=>?_
 refine jT (wpAny_isInstance (T:="StopIteration") (b:=x0) ⟨o,hs₃.extBut _ _ hez ho,hc⟩ isSubtype_stop (xK ?_));exact hQ h₃ λb o b1 b2 b3 q=>hs₃.extBut _ _ b1 (k₂ b o b2 b3 (k₁ b o b1 q))
theorem X6:∀(ls:List Src)(pre:Array jA)(s:j8){Q:Array jA->j8->Prop},(∀sr∈ls,∃xs,sr.val s.heap xs)->
  (∀h',(∀q∈ls.zipIdx s.heap.objs.size,q.1.it h' q.2 0)->h'.objs.size=s.heap.objs.size+ls.length->(∀b o,s.heap.get? b=xk o->h'.get? b=xk o)->Q (pre++((ls.zipIdx s.heap.objs.size).map λq=>Value.ref q.2).toArray) {s with heap:=h'})->
  jS (jM prog w) A (forIn (ls.map λsr=>Value.ref sr.adr) pre λx r=>do let v<-holding r.toList (pyIter x);pure (ForInStep.yield (r.push v))) Q E s
 |[],pre,s,Q,hv,h=>by rw[zU,List.forIn_nil];refine xK ?_;have:=h s.heap (λq hq=>by cases hq) rfl (λ_ _ e=>e);simpa using this
 | sr::ls,pre,s,Q,hv,h=>by
  rw[zK,j0];obtain⟨xs,hx⟩:=hv sr zY;refine jT (jT (xJ (Src.iter hx (xK ?_))));dsimp only;have z1:(s.heap.push {cls:=.type sr.itn,data:=.fields #[.ref sr.adr,.int 0 0]}).objs.size=s.heap.objs.size+1:=q8 ..;refine X6 ls (pre.push (.ref s.heap.objs.size)) {s with heap:=s.heap.push {cls:=.type sr.itn,data:=.fields #[.ref sr.adr,.int 0 0]}} (λsr' hm=>?_) λh' hi hz kp=>?_
  ·obtain⟨ys,hy⟩:=hv sr' (zV _ hm);exact⟨ys,hy.at λo e=>zZ _ e⟩
  ·dsimp only at hi hz kp⊢;rw[z1]at hi hz⊢;have:=h h' (λq hq=>?_) (by rw[hz,qU];lia) (λb o e=>kp b o (zZ _ e))
   ·rw[jZ,zK]at this;simpa using this
   ·rw[jZ]at hq;rcases zA.mp hq with rfl|hq
    ·exact⟨_,kp _ _ (zy _ rfl),rfl,rfl⟩
    ·exact hi q hq
theorem ZFS{ls:List Src}{Q:jA->j8->Prop}(hv:∀sr∈ls,∃xs,sr.val s.heap xs)(hl:ls.length<=1000000)
  (hct:checkTypeCall "zip" ⟨ls.map λsr=>Value.ref sr.adr,[]⟩=pure ()) (hcn:checkBuiltinCall "zip.__new__" ⟨.type "zip"::ls.map λsr=>Value.ref sr.adr,[]⟩=pure ()) (hok:∀obj,argsOk "object.__init__" ⟨obj::ls.map λsr=>Value.ref sr.adr,[]⟩)
  (h:∀h' n,n=s.heap.objs.size+ls.length->IsZip h' (n+2) n (n+1) .none->Tp h' n ((ls.zipIdx s.heap.objs.size).map λq=>Value.ref q.2)->Tp h' (n+1) (ls.map λ_=>Value.none)->(∀q∈ls.zipIdx s.heap.objs.size,q.1.it h' q.2 0)->
   (∀b o,s.heap.get? b=xk o->h'.get? b=xk o)->Q (.ref (n+2)) {s with heap:=h'}):
  jS (jM prog w) A (call (.type "zip") (ls.map λsr=>Value.ref sr.adr)) Q E s:=by
 have g:Meets (Builtin.«zip.__new__» ⟨.type "zip"::ls.map λsr=>Value.ref sr.adr,[]⟩) (λ_ R s=>(∀sr∈ls,∃xs,sr.val s.heap xs)/\
   ∀h' n,n=s.heap.objs.size+ls.length->IsZip h' (n+2) n (n+1) .none->Tp h' n ((ls.zipIdx s.heap.objs.size).map λq=>Value.ref q.2)->Tp h' (n+1) (ls.map λ_=>Value.none)->(∀q∈ls.zipIdx s.heap.objs.size,q.1.it h' q.2 0)->
    (∀b o,s.heap.get? b=xk o->h'.get? b=xk o)->R (.ok (.ret (.ref (n+2)))) {s with heap:=h'}):=
  .of_wp λprog w A R s hh=>by
   obtain⟨hv,hR⟩:=hh;have hsub:=sub_zip;unfold Builtin.«zip.__new__» Builtin.SmallTypes.newClass
   wp_walk
   refine X6 ls #[] s hv λh1 hi hz kp=>xK ?_
   have e1:(#[]++((ls.zipIdx s.heap.objs.size).map λq=>Value.ref q.2).toArray:Array jA).toList=(ls.zipIdx s.heap.objs.size).map λq=>Value.ref q.2:=by simp
   rw[e1];have hlen:((ls.zipIdx s.heap.objs.size).map λq=>Value.ref q.2).length=ls.length:=by simp
   refine jT (wpAny_newTuple ?_ (by rw[hlen];exact zk hl size6));refine jT (wpAny_newTuple ?_ (by rw[zX,hlen];exact zk hl size6));refine jT ?_;unfold Builtin.SmallTypes.newRecord;dsimp only;refine xV (xK ⟨_,rfl,?_⟩) (by simp[sizeOk,Builtin.SmallTypes.ownedTupleFields,sizeLine_eq]);generalize e2:s.heap.objs.size+ls.length=n at*
   have e3:((ls.zipIdx s.heap.objs.size).map λq=>Value.ref q.2).map (λ_=>Value.none)=ls.map λ_=>Value.none:=by refine List.ext_getElem (by simp) λi h1 h2=>by simp
   dsimp only;rw[e3];generalize((ls.zipIdx s.heap.objs.size).map λq=>Value.ref q.2)=us at*;generalize(ls.map λ_=>Value.none)=ns at*;have s1:(h1.push {cls:=.type "tuple",data:=.seq us.toArray}).objs.size=n+1:=by rw[q8,hz]
   have s2:((h1.push {cls:=.type "tuple",data:=.seq us.toArray}).push {cls:=.type "tuple",data:=.seq ns.toArray}).objs.size=n+2:=by rw[q8,s1]
   show R (.ok (.ret (.ref ((h1.push {cls:=.type "tuple",data:=.seq us.toArray}).push {cls:=.type "tuple",data:=.seq ns.toArray}).objs.size))) _;rw[s2];refine hR _ n rfl ?_ (zZ _ (zZ _ (by rw[<-hz];exact zy _ rfl))) (zZ _ (by rw[<-s1];exact zy _ rfl)) (λq hq=>(hi q hq).at λo e=>zZ _ (zZ _ (zZ _ e))) λb o e=>zZ _ (zZ _ (zZ _ (kp b o e)))
   have:=zy ((h1.push {cls:=.type "tuple",data:=.seq us.toArray}).push {cls:=.type "tuple",data:=.seq ns.toArray}) (o:={cls:=.type "zip",data:=.fields #[.none,.bool xA,.bool xA,.ref h1.objs.size,.ref (h1.push {cls:=.type "tuple",data:=.seq us.toArray}).objs.size]}) rfl;rw[s2]at this;rw[hz,s1]at this;show _=_;rw[hz,s1];exact this
 refine callType_new PySem.F.called_zip (by decide) hct hcn hok PySem.F.entry_zip_new g ⟨hv,λh' n hn hz hTI hTO hi kp=>⟨⟨_,hz,rfl⟩,h h' n hn hz hTI hTO hi kp⟩⟩
end
end _D
namespace _D
open PySem PySem.W PyProof.Rows
section
variable{lt:Nat->Nat->Bool}
noncomputable abbrev pt(p:Array Nat)(j:Nat):Nat:=p.getD j 0
end
end _D
namespace _D
open PySem PySem.Spec _L
open PyProof.Rows hiding St
variable{xw:List (j1×Obj)}{σ:St}{H:Hp}{s:j8}{w:jB}{K:PySem.W.Frag}{elts:List j3}{i:Nat}{a:Wd}{ta:DA}
section
variable{X:Cx}{xw:List (j1×Obj)}{σ:St}{H:Hp}{s:j8}{h':Heap}
theorem Mm{t':Nat}{fp:List j1}(I:Inv X xw σ H s)(k:∀b o,b∉fp->s.heap.get? b=xk o->h'.get? b=xk o)(hf:∀b∈fp,FpOk X xw H b):Inv X xw σ H {s with heap:=h',toks:=t'}:=by
 have nit:∀b u,H b=xk u->b∉fp:=λb u e z=>by rw[(hf b z).1]at e;cases e
 refine I.step (g':=s.gens) (d':=s.drawn) (ch:=fp) (λb hb=>?_) (λb o _ _ hc e _=>k b o hc e) (λb o _ _ hc e _=>⟨o.slots,k b o hc e⟩) (λ_ _ _ _ n=>n)
  (λb o hc e=>⟨o,k b o hc e⟩) (λ_ _ e=>e) (λ_ _ _ e=>e) (λb ps e=>⟨#[],by rw[e];simp⟩) (λm hm=>?_) (λb u e=>?_) I.bare
 ·obtain⟨f0,f1,f2,f3,f4,f5⟩:=hf b hb;exact⟨f3,f1,f4,f5⟩
 ·obtain⟨o,es,ep,ho,r⟩:=hm;exact⟨o,es,ep,k _ o (λz=>(hf _ z).2.1 rfl) ho,r⟩
 ·refine(I.hok b u e).stay (λc v hc q=>k c v ?_ q) (λ_ q=>q) λ_ _ q=>q
  rcases hc with z|z
  ·rw[z];exact nit b u e
  ·exact nit c _ z
theorem Vs{t':Nat}{fp:List j1}{p:j1}{xs:List V}{its:List jA}(I:Inv X xw σ H s)(k:∀b o,b∉fp->s.heap.get? b=xk o->h'.get? b=xk o)(hf:∀b∈fp,FpOk X xw H b)(hp:s.heap.objs.size<=p)
  (hz:xs.length<=sizeLine) (r:Vals xs its) (ht:Tp h' p its):Inv X xw σ (upd H p (.tup xs)) {s with heap:=h',toks:=t'}:=by
 obtain⟨g0,g1,g2,g3,g4,g5⟩:=I.Gz (H':=H) hp (I.hok.fresh hp);exact Yk (Mm I k hf) g0 (zk I.sz hp) g1 g4 g5 ⟨hz,its,r,_,ht,rfl,_,rfl⟩
end
def Src.sq(K:PySem.W.Frag)(H:Hp)(xs:List V):Src->Prop
 |.l a=>SqL K H a xs
 |.t a=>SqT K H a xs
variable{sr:Src}{ls:List Src}
theorem Src.sq.val{X:Cx}{xs:List V}(I:Inv X xw σ H s)(h:sr.sq X.K H xs):∃its:List jA,Vals xs its/\sr.val s.heap its.toArray/\xs.length<=sizeLine:=by
 cases sr with
 |l a=>obtain⟨its,r,p,hz⟩:=I.list h;exact⟨its,r,p.isList,hz⟩
 |t a=>obtain⟨its,r,p,hz⟩:=I.tuple h;exact⟨its,r,p,hz⟩
theorem Src.sq.inj{X:Cx}{xs ys:List V}(I:Inv X xw σ H s)(h:sr.sq X.K H xs)(h':sr.sq X.K H ys):xs=ys:=by
 cases sr with
 |l a=>exact I.Pz h h'
 |t a=>exact I.Qh h h'
def Ite(K:PySem.W.Frag)(sr:Src)(n:Int):It:=
 ⟨λi H=>∃xs x,sr.sq K H xs/\xs[i]?=xk x,λi H v H'=>∃p x,v=.ref p/\H p=xy/\H'=upd H p (.tup [.int (n+i),x])/\∀xs,sr.sq K H xs->xs[i]?=xk x,λi H=>∃xs,sr.sq K H xs/\xs.length<=i⟩
theorem ZGh{P:j6}{x1}{pos:Pos}(sr:Src)(n:Int)(e it:j1)(hne:e≠it):
  Turn P w K (.Tuple elts x1 pos) (Ite K sr n) [e,it] e (λi h=>∃g old,En h e it .none (n+i) g old/\Gv (n+i) g/\sr.it h it i) where
 mem:=by simp
 obj:=λi h st b hb=>by
  obtain⟨g,old,he,_,o,ho,_,hd⟩:=st;rcases(show b=e∨b=it by simpa using hb)with rfl|rfl
  ·exact⟨_,he,λv z=>by cases z⟩
  ·exact⟨o,ho,λv z=>by rw[hd]at z;cases z⟩
 keep:=λi h h' st k=>by obtain⟨g,old,he,hg,hi⟩:=st;exact⟨g,old,k e (by simp) _ he,hg,hi.at λo q=>k it (by simp) o q⟩
 item:=by
  intro X hP hw hK hc i xw s σ H E I hf st hg;subst hP hw hK;obtain⟨xs,x,hq,hx⟩:=hg;obtain⟨its,rv,hv,hz⟩:=Src.sq.val I hq;obtain⟨u,hu,ru⟩:=rv.get hx;obtain⟨g,old,he,hgv,hi⟩:=st;refine ZDL he hgv hi hv (x:=u) (by simpa using hu) hne λh1 t tk e1 i1 t1 z1 k1=>⟨_,rfl,?_⟩
  refine ZFy (s:={s with heap:=h1,toks:=tk}) e1 λh2 e2 sb=>?_
  have hpe:s.heap.objs.size≠e:=qI (zx he);have I2:Inv X xw σ (upd H s.heap.objs.size (.tup [.int (n+i),x])) {s with heap:=h2,toks:=tk}:=
   Vs (fp:=[e,it]) (its:=[.int (n+i) t,u]) I (λb o hb q=>by
    have hb':b≠e/\b≠it:=by simpa using hb
    exact sb.extBut b o hb'.1 (k1 b o hb'.1 hb'.2 q)) hf (zq _) (by show 2<=sizeLine;decide) (.cons ⟨t,rfl⟩ (.cons ru .nil)) (sb.extBut _ _ hpe t1)
  have hfr:H s.heap.objs.size=xy:=I.hok.fresh (zq _);refine⟨.ref s.heap.objs.size,_,I2,rfl,⟨_,x,rfl,hfr,rfl,λys hy=>by rw[Src.sq.inj I hy hq];exact hx⟩,⟨.none,u,?_,.inl rfl,i1.at λo q=>sb.extBut _ _ (Ne.symm hne) q⟩,λb hb=>?_⟩
  ·have ee:n+(i:Int)+1=n+((i+1:Nat):Int):=by lia
   rw[<-ee];exact e2
  ·have hb':b=e∨b=it:=by simpa using hb
   rw[Ag (λz=>?_)]
   ·exact(hf b hb).1
   ·rcases hb' with rfl|rfl
    ·exact hpe z.symm
    ·have hlt:=Src.it.lt hi;rw[z]at hlt;exact qQ _ hlt
 done:=by
  intro X hP hw hK hc i xw s σ H E I hf st hg;subst hP hw hK;obtain⟨xs,hq,hx⟩:=hg;obtain⟨its,rv,hv,hz⟩:=Src.sq.val I hq;obtain⟨g,old,he,hgv,hi⟩:=st;have hl:=rv.length;refine ZEc (I.ok.hd hc) he hi hv (by simp;lia) λh1 xb=>⟨rfl,?_⟩
  exact Mm (t':=s.toks) (fp:=[e,it]) I (λb o hb q=>xb b o (λz=>hb (by simp[z])) q) hf
 self:=λ_ _ _ _ _ st h=>by obtain⟨g,old,he,_⟩:=st;exact U9 he h
section
variable{X:Cx}{E:XK}
theorem ZFR{prog:j6}{A:j2}{E:jA->j8->Prop}{xs:Array jA}{Q:jA->j8->Prop}(hv:sr.val s.heap xs)
  (h:∀h',En h' (s.heap.objs.size+1) s.heap.objs.size .none 0 .none .none->sr.it h' s.heap.objs.size 0->(∀b o,s.heap.get? b=xk o->h'.get? b=xk o)->Q (.ref (s.heap.objs.size+1)) {s with heap:=h'}):
  jS (jM prog w) A (call (.type "enumerate") [.ref sr.adr]) Q E s:=by
 have g:Meets (Builtin.«enumerate.__new__» ⟨[.type "enumerate",.ref sr.adr],[]⟩) (λ_ R s=>sr.val s.heap xs/\
   R (.ok (.ret (.ref (s.heap.push {cls:=.type sr.itn,data:=.fields #[.ref sr.adr,.int 0 0]}).objs.size)))
    {s with heap:=(s.heap.push {cls:=.type sr.itn,data:=.fields #[.ref sr.adr,.int 0 0]}).push {cls:=.type "enumerate",data:=.fields #[.none,.bool xA,.ref s.heap.objs.size,jN 0,.none,.none]}}):=
  .of_wp λprog w A R s h=>by
   obtain⟨hp,g,d,tk,os⟩:=s;obtain⟨hl,h⟩:=h;have hsub:=sub_enumerate;have hL:sr.val (Shared.heap ⟨hp,g,d,tk,os⟩) xs:=hl
   wp_walk
   refine wpAny_stack_any λst=>xK ?_
   split
   ·rename_i c _ _ _ _ _
    cases(c==Value.type "enumerate")<;>(wp_walk using Src.iter hL;exact⟨_,rfl,h⟩)
   ·wp_walk using Src.iter hL
    exact⟨_,rfl,h⟩
 refine callType_new PySem.F.called_enumerate (by decide) (PySem.F.typeCall_enumerate_1 _) (PySem.F.newCall_enumerate_1 _) (λobj=>PySem.F.args_object_init_2 obj _) PySem.F.entry_enumerate_new g ⟨hv,?_⟩;have hz:(s.heap.push {cls:=.type sr.itn,data:=.fields #[.ref sr.adr,.int 0 0]}).objs.size=s.heap.objs.size+1:=q8 ..;show _/\_;rw[hz];have he:En ((s.heap.push {cls:=.type sr.itn,data:=.fields #[.ref sr.adr,.int 0 0]}).push {cls:=.type "enumerate",data:=.fields #[.none,.bool xA,.ref s.heap.objs.size,jN 0,.none,.none]}) (s.heap.objs.size+1) s.heap.objs.size .none 0 .none .none:=by
  have:=zy (s.heap.push {cls:=.type sr.itn,data:=.fields #[.ref sr.adr,.int 0 0]}) (o:={cls:=.type "enumerate",data:=.fields #[.none,.bool xA,.ref s.heap.objs.size,jN 0,.none,.none]}) rfl;rw[hz]at this;exact this
 exact⟨⟨_,he,rfl⟩,h _ he ⟨_,zZ _ (zy _ rfl),rfl,rfl⟩ λb o x=>zZ _ (zZ _ x)⟩
def ZFg(K:PySem.W.Frag)(ta:TA):TI:=λσ H R=>ta σ H λvs H1=>∃sr xs,vs=[.ref (Src.adr sr)]/\sr.sq K H1 xs/\R (Ite K sr 0) H1
theorem ZDx{elts:List j3}{x1}{tp:Pos}{a:j3}{ta:TA}{p pos:Pos}(hg:Gl X "enumerate")(hm:X.mg "enumerate"=xy)(ha:PA X [a] ta)(hs:jP [a] X.env=[(xA,eval a X.env)]:=by rfl):PI X (.Tuple elts x1 tp) (.Call (.Name "enumerate" p) [a] [] pos) (ZFg X.K ta):=by
 intro xw s σ H R I h;refine Call_ (Hz I hg hm PyProof.Rows.boot_enumerate (PyProof.Rows.callWith_type1 (thn (ha pos xw s σ H _ I h) λus s1 ⟨vs,H1,I1,r1,q1⟩=>?_) hs rfl));obtain⟨sr,xs,e,hq,q⟩:=q1;subst e;cases r1 with
 |cons r rr=>
  cases rr;cases r;obtain⟨its,rv,hv,hz⟩:=Src.sq.val I1 hq;refine ZFR hv λh' he hi kp=>?_
  refine U9 he ?_;have I2:Inv X xw σ H1 {s1 with heap:=h'}:=I1.kept (t':=s1.toks) kp;refine⟨s1.heap.objs.size+1,[s1.heap.objs.size+1,s1.heap.objs.size],_,_,H1,rfl,I2,ZGh sr 0 _ _ (Nat.succ_ne_self _),⟨.none,.none,by simpa using he,.inl rfl,hi⟩,λb hb=>?_,q⟩;have hb':b=s1.heap.objs.size+1∨b=s1.heap.objs.size:=by simpa using hb
  have hle:s1.heap.objs.size<=b:=by rcases hb' with rfl|rfl<;>lia
  exact I1.Gz hle (I1.hok.fresh hle)
end
inductive DrV (K:PySem.W.Frag) (H:Hp) (i:Nat):List Src->List V->Prop where
 |nil:DrV K H i [] []
 |cons {sr r v us xs} (hq:Src.sq K H xs sr) (hx:xs[i]?=xk v) (t:DrV K H i r us):DrV K H i (sr::r) (v::us)
inductive StV (K:PySem.W.Frag) (H:Hp) (i:Nat):List Src->Prop where
 |here {sr r xs} (hq:Src.sq K H xs sr) (hx:xs.length<=i):StV K H i (sr::r)
 |there {sr r v xs} (hq:Src.sq K H xs sr) (hx:xs[i]?=xk v) (t:StV K H i r):StV K H i (sr::r)
def Itz(K:PySem.W.Frag)(ls:List Src):It:=
 ⟨λi H=>∃us,DrV K H i ls us,λi H v H'=>∃p us,v=.ref p/\H p=xy/\H'=upd H p (.tup us)/\∀us',DrV K H i ls us'->us'=us,λi H=>StV K H i ls⟩
theorem DrV.length{us:List V}(d:DrV K H i ls us):us.length=ls.length:=by
 induction d with
 |nil=>rfl
 |cons _ _ _ ih=>simp[ih]
section
variable{X:Cx}{xw:List (j1×Obj)}{σ:St}{H:Hp}{s:j8}
theorem DrV.inj(I:Inv X xw σ H s):∀{ls:List Src}{us us':List V},DrV X.K H i ls us->DrV X.K H i ls us'->us=us'
 |[],_,_,d,d'=>by cases d;cases d';rfl
 | sr::ls,_,_,d,d'=>by
  cases d with
  | cons hq hx t=>
   cases d' with
   |cons hq' hx' t'=>
    have e:=Src.sq.inj I hq hq';subst e;rw[hx]at hx';cases hx';rw[DrV.inj I t t']
theorem DrV.drw(I:Inv X xw σ H s):∀{l:List (Src×j1)}{us:List V},DrV X.K H i (l.map (·.1)) us->(∀q∈l,q.1.it s.heap q.2 i)->∃ws,Drw s.heap i l ws/\Vals us ws
 |[],us,d,h=>by cases d;exact⟨[],.nil,.nil⟩
 | (sr,p)::l,us,d,h=>by
  cases d with
  |cons hq hx t=>
   obtain⟨its,rv,hv,hz⟩:=Src.sq.val I hq;obtain⟨u,hu,ru⟩:=rv.get hx;obtain⟨ws,d',r'⟩:=DrV.drw I t λq hq=>h q (zV _ hq)
   exact⟨u::ws,.cons (h (sr,p) zY) hv (by simpa using hu) d',.cons ru r'⟩
theorem StV.drw(I:Inv X xw σ H s):∀{l:List (Src×j1)},StV X.K H i (l.map (·.1))->(∀q∈l,q.1.it s.heap q.2 i)->DrwE s.heap i l
 |[],d,h=>by cases d
 | (sr,p)::l,d,h=>by
  cases d with
  |here hq hx=>
   obtain⟨its,rv,hv,hz⟩:=Src.sq.val I hq;have hl:=rv.length;exact .here (h (sr,p) zY) hv (by simp;lia)
  |there hq hx t=>
   obtain⟨its,rv,hv,hz⟩:=Src.sq.val I hq;obtain⟨u,hu,ru⟩:=rv.get hx;exact .there (h (sr,p) zY) hv (by simpa using hu) (StV.drw I t λq hq=>h q (zV _ hq))
end
theorem ZFz{P:j6}{x1}{pos:Pos}(l:List (Src×j1))(z TI TO:j1)(a:ApZ TO l)(zz:z≠TO/\(∀q∈l,q.2≠z/\q.1.adr≠z))(tt:TI≠z/\TI≠TO/\∀q∈l,q.2≠TI)(hsz:l.length<=1000000)(hne:l≠[]):
  Turn P w K (.Tuple elts x1 pos) (Itz K (l.map (·.1))) (z::TI::TO::l.map (·.2)) z
   (λi h=>IsZip h z TI TO .none/\Tp h TI (l.map λq=>Value.ref q.2)/\(∃os,Tp h TO os/\os.length=l.length)/\∀q∈l,q.1.it h q.2 i) where
 mem:=by simp
 obj:=λi h st b hb=>by
  obtain⟨hz,hTI,⟨os,hTO,_⟩,hi⟩:=st;rcases zA.mp hb with rfl|hb
  ·exact⟨_,hz,λv z=>by cases z⟩
  ·rcases zA.mp hb with rfl|hb
   ·exact⟨_,hTI,λv z=>by cases z⟩
   ·rcases zA.mp hb with rfl|hb
    ·exact⟨_,hTO,λv z=>by cases z⟩
    ·obtain⟨q,hq,rfl⟩:=qX.mp hb;obtain⟨o,ho,_,hd⟩:=hi q hq;exact⟨o,ho,λv z=>by rw[hd]at z;cases z⟩
 keep:=λi h h' st k=>by obtain⟨hz,hTI,⟨os,hTO,ho⟩,hi⟩:=st;exact⟨k z (by simp) _ hz,k TI (by simp) _ hTI,⟨os,k TO (by simp) _ hTO,ho⟩,λq hq=>(hi q hq).at λo e=>k q.2 (by simp only[zA];exact .inr (.inr (.inr (qX.mpr ⟨q,hq,rfl⟩)))) o e⟩
 item:=by
  intro X hP hw hK hc i xw s σ H E I hf st hg;subst hP hw hK;obtain⟨us,dv⟩:=hg;obtain⟨hz,hTI,⟨os,hTO,ho⟩,hi⟩:=st;obtain⟨ws,dw,rv⟩:=DrV.drw I dv hi;refine ZDs hz hTI hTO ho hsz hne a zz dw λh1 z1 t1 i1 p1 s1 k1=>⟨_,rfl,?_⟩
  refine wpAny_letOwnedTupleGo_zip (s:={s with heap:=h1}) z1 λh2 z2 sb=>?_
  have hpz:s.heap.objs.size≠z:=qI (zx hz);have hul:us.length<=sizeLine:=by rw[dv.length,zX];exact zk hsz size6
  have I2:Inv X xw σ (upd H s.heap.objs.size (.tup us)) {s with heap:=h2}:=
   Vs (t':=s.toks) (fp:=z::TI::TO::l.map (·.2)) (its:=ws) I (λb o hb q=>by simp only[zA,not_or]at hb;exact sb.extBut b o hb.1 (k1 b o hb.1 hb.2.2.1 hb.2.2.2 q)) hf (zq _) hul rv (sb.extBut _ _ hpz p1)
  have hfr:H s.heap.objs.size=xy:=I.hok.fresh (zq _)
  have up:∀b o,b≠z->b≠TO->b∉l.map (·.2)->s.heap.get? b=xk o->h2.get? b=xk o:=λb o b1 b2 b3 q=>sb.extBut b o b1 (k1 b o b1 b2 b3 q)
  refine⟨.ref s.heap.objs.size,_,I2,rfl,⟨_,us,rfl,hfr,rfl,λus' d'=>DrV.inj I d' dv⟩,⟨z2,up TI _ tt.1 tt.2.1 (λhm=>?_) hTI,⟨ws,sb.extBut _ _ (Ne.symm zz.1) t1,dw.length⟩,λq hq=>(i1 q hq).at λo e=>sb.extBut _ _ (zz.2 q hq).1 e⟩,λb hb=>?_⟩
  ·obtain⟨q,hq,e⟩:=qX.mp hm;exact tt.2.2 q hq e
  ·rw [Ag (λe=>?_)]
   ·exact(hf b hb).1
   ·have lt:b<s.heap.objs.size:=by
     rcases zA.mp hb with rfl|hb
     ·exact zx hz
     ·rcases zA.mp hb with rfl|hb
      ·exact zx hTI
      ·rcases zA.mp hb with rfl|hb
       ·exact zx hTO
       ·obtain⟨q,hq,rfl⟩:=qX.mp hb;exact(hi q hq).lt
    rw[e]at lt;exact qQ _ lt
 done:=by
  intro X hP hw hK hc i xw s σ H E I hf st hg;subst hP hw hK;obtain⟨hz,hTI,⟨os,hTO,ho⟩,hi⟩:=st;have dw:=StV.drw I hg hi;refine ZA1 (I.ok.hd hc) hz hTI hTO ho hsz hne a zz dw λh1 k1=>⟨rfl,?_⟩
  exact Mm (t':=s.toks) (fp:=z::TI::TO::l.map (·.2)) I (λb o hb q=>by simp only[zA,not_or]at hb;exact k1 b o hb.1 hb.2.2.1 hb.2.2.2 q) hf
 self:=λ_ _ _ _ _ st h=>wpAny_pyIter_zip st.1 h
def Ei (G:DH) (j:Nat):List D->Option (Option (List D))
 |[]=>xk (xk [])
 | d::r=>match Ax d G with
  |none=>xy
  | some xs=>match xs[j]? with
   |none=>xk xy
   |some x=>match Ei G j r with
    |some (xk ys)=>xk (xk (x::ys))
    |o=>o
def Fe(ds:List D)(j:Nat)(G:DH):Option (Option D):=(Ei G j ds).map λo=>o.map D.tup
def lenOf(G:DH)(d:D):Nat:=match Ax d G with
 |some xs=>xs.length
 |none=>0
def Ir(G:DH)(d:D):Bool:=(Ax d G).isSome
def Er(n:Int)(d:D)(j:Nat)(G:DH):Option (Option D):=match Ax d G with
 |none=>xy
 |some xs=>xk (xs[j]?.map λx=>.tup [.int (n+j),x])
def Fq(ds:List D)(G:DH):R ItD:=match ds with
 |[d]=>if Ir G d=x0 then .ok (.fn (lenOf G d) (Er 0 d)) G else .bad
 |_=>.bad
def Fo(n:Nat)(ds:List D)(G:DH):R ItD:=if ds.all (Ir G)=x0/\ds.length=n then .ok (.fn (lenOf G (ds.headD .non)) (Fe ds)) G else .bad
section
variable{X:Cx}{E:XK}
theorem Wk{G:DH}{d:D}{v:V}{xs:List D}(s:Sim a G)(r:Rep a d v)(h:Ax d G=xk xs):
  ∃sr:Src,v=.ref sr.adr/\(∃vs,sr.sq a.K a.H vs)/\∀b:Wd,Ext a b->∀G',Sim b G'->∀ys,Ax d G'=xk ys->∃us,sr.sq b.K b.H us/\Reps b ys us:=by
 cases d with
 |tup ds=>
  obtain⟨p,vs,rfl,hq,rv⟩:=r;refine⟨.t p,rfl,⟨vs,hq⟩,λb x G' s' ys hy=>?_⟩
  cases(show xk ds=xk ys from hy)
  exact⟨vs,x.sqT hq,rv.mono x⟩
 |fl ds=>
  obtain⟨p,vs,rfl,hq,rv⟩:=r;refine⟨.l p,rfl,⟨vs,hq.sq⟩,λb x G' s' ys hy=>?_⟩
  cases(show xk ds=xk ys from hy)
  exact⟨vs,(x.fzL hq).sq,rv.mono x⟩
 | ref i=>
  obtain⟨hi,rfl⟩:=r;have hx:∃zs,G[i]?=xk (.lst zs):=by
   unfold Ax at h;dsimp only at h;split at h
   ·rename_i zs hz;exact⟨zs,hz⟩
   ·cases h
  obtain⟨zs,hz⟩:=hx;obtain⟨vs,e1,_⟩:=s.lst hz;refine⟨.l (a.m i),rfl,⟨vs,.of e1⟩,λb x G' s' ys hy=>?_⟩;unfold Ax at hy;dsimp only at hy;split at hy
  ·rename_i zs' hz';cases hy;obtain⟨us,e2,r2⟩:=s'.lst hz';rw[x.m i hi]at e2;exact⟨us,.of e2,r2⟩
  ·cases hy
 |_=>cases h
theorem ZG9{G:DH}{d:D}{v:V}(hk:a.K=X.K)(rd:∀b:Wd,Ext a b->∀G',Sim b G'->∀ys,Ax d G'=xk ys->∃us,sr.sq b.K b.H us/\Reps b ys us)(n:Nat):RepI a (.fn n (Er 0 d)) (Ite X.K sr 0):=by
 intro b x G' s' i;have kb:b.K=X.K:=x.k.trans hk;constructor
 ·intro e he;unfold Er at he;split at he
  ·cases he
  ·rename_i ys hy;obtain⟨us,hq,ru⟩:=rd b x G' s' ys hy;rw[kb]at hq;cases hyi:ys[i]? with
   |none=>rw[hyi]at he;cases he
   |some y=>
    rw[hyi]at he;have he':D.tup [.int (0+i),y]=e:=by simpa using he
    subst he';obtain⟨u,hu,rx⟩:=ru.get hyi;refine⟨⟨us,u,hq,hu⟩,?_⟩;rintro w H' ⟨p,u',rfl,hp,rfl,hu'⟩;refine⟨b.put p (.tup [.int (0+i),u']),rfl,Ext.put hp,s'.put hp,p,_,rfl,.of Cp,?_⟩;have e1:=hu' us hq;rw[hu]at e1;cases e1;exact⟨_,_,rfl,rfl,Reps.cons (rx.mono (Ext.put hp)) rfl⟩
 ·intro he;unfold Er at he;split at he
  ·cases he
  ·rename_i ys hy;obtain⟨us,hq,ru⟩:=rd b x G' s' ys hy;rw[kb]at hq;cases hyi:ys[i]? with
   |none=>exact⟨us,hq,by rw[<-ru.length];exact qG.mp hyi⟩
   |some y=>rw[hyi]at he;cases he
theorem ZCA{elts:List j3}{x1}{tp:Pos}{e:j3}{p pos:Pos}(hg:Gl X "enumerate")(hm:X.mg "enumerate"=xy)(ha:QA X E [e] ta)(hs:jP [e] X.env=[(xA,eval e X.env)]:=by rfl):
  QI X E (.Tuple elts x1 tp) (.Call (.Name "enumerate" p) [e] [] pos) (Ay Fq ta):=(ZDx hg hm ha hs).mono λσ H Q h=>by
 obtain⟨a,S,G,hk,rfl,s,r,h⟩:=h;refine⟨a,S,G,hk,rfl,s,r,(Mu h).imp ?_⟩;rintro vs _ ⟨b,ds,G1,rfl,x,s1,q,-,h1⟩;unfold Fq at h1;split at h1
 ·rename_i d;split at h1
  ·rename_i hok;obtain⟨v,r,e1,q1,q2⟩:=q
   cases(show r=[]from q2)
   subst e1
   obtain⟨xs,hx⟩:=jW.mp (show(Ax d G1).isSome=x0 from hok)
   obtain⟨sr,rfl,⟨us,hq⟩,rd⟩:=Wk s1 q1 hx;have kb:b.K=X.K:=x.k.trans hk;exact⟨sr,us,rfl,by rw[<-kb];exact hq,h1 b _ (Ext.refl b) s1 (ZG9 (G:=G1) (v:=.non) kb rd _)⟩
  ·exact h1.elim
 ·exact h1.elim
theorem Yh{G:DH}(s:Sim a G):∀{ds:List D}{vs:List V},Reps a ds vs->ds.all (Ir G)=x0->∃ls:List Src,vs=ls.map (λsr=>V.ref sr.adr)/\(∀sr∈ls,∃us,sr.sq a.K a.H us)/\
   ∀b:Wd,Ext a b->∀G',Sim b G'->∀i,(∀ys,Ei G' i ds=xk (xk ys)->∃us,DrV b.K b.H i ls us/\Reps b ys us)/\(Ei G' i ds=xk xy->StV b.K b.H i ls)
 |[],vs,r,_=>by
  cases(show vs=[]from r)
  refine⟨[],rfl,(λ_ h=>nomatch h),λb x G' s' i=>⟨λys h=>?_,λh=>?_⟩⟩
  ·cases h;exact⟨[],.nil,rfl⟩
  ·cases h
 | d::ds,vs,r,h=>by
  rw[qO,zC]at h;obtain⟨v,vr,rfl,q1,q2⟩:=r
  obtain⟨xs,hx⟩:=jW.mp (show(Ax d G).isSome=x0 from h.1)
  obtain⟨sr,rfl,hq,rd⟩:=Wk s q1 hx;obtain⟨ls,rfl,hqs,rds⟩:=Yh s q2 h.2;refine⟨sr::ls,rfl,λsr' hm=>?_,λb x G' s' i=>⟨λys hy=>?_,λhy=>?_⟩⟩
  ·rcases zA.mp hm with rfl|hm
   ·exact hq
   ·exact hqs sr' hm
  ·unfold Ei at hy;split at hy
   ·cases hy
   ·rename_i zs hz;obtain⟨us,hu,ru⟩:=rd b x G' s' zs hz;split at hy
    ·cases hy
    ·rename_i y hyi;obtain⟨u,hui,rx⟩:=ru.get hyi;split at hy
     ·rename_i ys' hys;cases hy;obtain⟨us',d',r'⟩:=(rds b x G' s' i).1 ys' hys;exact⟨u::us',.cons hu hui d',Reps.cons rx r'⟩
     ·rename_i hno;exact absurd hy (hno _)
  ·unfold Ei at hy;split at hy
   ·cases hy
   ·rename_i zs hz;obtain⟨us,hu,ru⟩:=rd b x G' s' zs hz;split at hy
    ·rename_i hyi;exact .here hu (by rw[<-ru.length];exact qG.mp hyi)
    ·rename_i y hyi;obtain⟨u,hui,rx⟩:=ru.get hyi;split at hy
     ·cases hy
     ·exact .there hu hui ((rds b x G' s' i).2 hy)
theorem ZGE{ds:List D}(hk:a.K=X.K)(rd:∀b:Wd,Ext a b->∀G',Sim b G'->∀i,(∀ys,Ei G' i ds=xk (xk ys)->∃us,DrV b.K b.H i ls us/\Reps b ys us)/\(Ei G' i ds=xk xy->StV b.K b.H i ls))(n:Nat):
  RepI a (.fn n (Fe ds)) (Itz X.K ls):=by
 intro b x G' s' i;have kb:b.K=X.K:=x.k.trans hk;constructor
 ·intro e he;unfold Fe at he;cases hz:Ei G' i ds with
  |none=>rw[hz]at he;cases he
  | some o=>
   cases o with
   |none=>rw[hz]at he;cases he
   |some ys=>
    rw[hz]at he;have he':D.tup ys=e:=by simpa using he
    subst he';obtain⟨us,d,ru⟩:=(rd b x G' s' i).1 ys hz;rw[kb]at d;refine⟨⟨us,d⟩,?_⟩;rintro w H' ⟨p,us',rfl,hp,rfl,hu'⟩;cases hu' us d;exact⟨b.put p (.tup us),rfl,Ext.put hp,s'.put hp,p,us,rfl,.of Cp,ru.mono (Ext.put hp)⟩
 ·intro he;unfold Fe at he;cases hz:Ei G' i ds with
  |none=>rw[hz]at he;cases he
  | some o=>
   cases o with
   |none=>
    have:=(rd b x G' s' i).2 hz;rw[kb]at this;exact this
   |some ys=>rw[hz]at he;cases he
def iZip(n:Nat)(K:PySem.W.Frag)(ta:TA):TI:=λσ H R=>ta σ H λvs H1=>∃ls:List Src,vs=ls.map (λsr=>V.ref sr.adr)/\(∀sr∈ls,∃us,sr.sq K H1 us)/\ls.length=n/\R (Itz K ls) H1
theorem Wx:∀{ls:List Src}{us:List jA},Vals (ls.map λsr=>V.ref sr.adr) us->us=ls.map λsr=>Value.ref sr.adr
 |[],us,h=>by cases h;rfl
 | sr::ls,us,h=>by
  rw[zK]at h;cases h with
  |cons r rr=>
   cases r;rw[Wx rr]
   rfl
theorem M8{n:Nat}{q:Src×Nat}(h:q∈ls.zipIdx n):q.1∈ls/\n<=q.2/\q.2<n+ls.length:=by obtain⟨i,hi,rfl⟩:=List.getElem_of_mem h;simp only[List.length_zipIdx]at hi;simp only[List.getElem_zipIdx];exact⟨jw hi,by lia,by lia⟩
theorem ZE4{x1}{tp:Pos}{R:It->Hp->Prop}(I:Inv X xw σ H s)(hq:∀sr∈ls,∃us,sr.sq X.K H us)(hne:ls≠[])(hl:ls.length<=1000000)
  (hct:checkTypeCall "zip" ⟨ls.map λsr=>Value.ref sr.adr,[]⟩=pure ()) (hcn:checkBuiltinCall "zip.__new__" ⟨.type "zip"::ls.map λsr=>Value.ref sr.adr,[]⟩=pure ()) (hok:∀obj,argsOk "object.__init__" ⟨obj::ls.map λsr=>Value.ref sr.adr,[]⟩)
  (q:R (Itz X.K ls) H):jS (jM X.prog X.w) X.A (call (.type "zip") (ls.map λsr=>Value.ref sr.adr)) (λv s1=>jS (jM X.prog X.w) X.A (pyIter v) (PIE X xw σ (.Tuple elts x1 tp) R) X.xe s1) X.xe s:=by
 have hv:∀sr∈ls,∃xs,sr.val s.heap xs:=λsr hm=>by obtain⟨us,h⟩:=hq sr hm;obtain⟨its,_,h',_⟩:=Src.sq.val I h;exact⟨_,h'⟩
 have hlt:∀sr∈ls,sr.adr<s.heap.objs.size:=λsr hm=>by obtain⟨xs,h⟩:=hv sr hm;obtain⟨o,n,ho,_⟩:=h.obj;exact zx ho
 refine ZFS hv hl hct hcn hok λh' n hn hz hTI hTO hi kp=>?_
 refine wpAny_pyIter_zip hz ?_;have I2:Inv X xw σ H {s with heap:=h'}:=I.kept (t':=s.toks) kp
 have em:(ls.zipIdx s.heap.objs.size).map (·.1)=ls:=by refine List.ext_getElem (by simp) λi h1 h2=>by simp
 have e2:(ls.zipIdx s.heap.objs.size).map (·.2)=List.range' s.heap.objs.size ls.length:=by refine List.ext_getElem (by simp) λi h1 h2=>by simp[Nat.add_comm]
 have qb:∀q∈ls.zipIdx s.heap.objs.size,q.1.adr<s.heap.objs.size/\s.heap.objs.size<=q.2/\q.2<n:=λq hm=>⟨hlt _ (M8 hm).1,(M8 hm).2.1,by rw[hn];exact(M8 hm).2.2⟩
 have hsn:s.heap.objs.size<=n:=by rw[hn];exact jk _ _
 have ap:ApZ (n+1) (ls.zipIdx s.heap.objs.size):=⟨by rw[e2];exact List.nodup_range',λq hm=>zB (zW (qb q hm).1 (Nat.le_succ_of_le hsn)),λq hm r hr=>zB (zW (qb q hm).1 (qb r hr).2.1),λq hm=>zB (jK (qb q hm).2.2)⟩;have T:=ZFz (P:=X.prog) (w:=X.w) (K:=X.K) (elts:=elts) (x1:=x1) (pos:=tp) (ls.zipIdx s.heap.objs.size) (n+2) n (n+1) ap ⟨Nat.succ_ne_self (n+1),λq hm=>⟨zB (zW (qb q hm).2.2 (jk n 2)),zB (zW (qb q hm).1 (zk hsn (jk n 2)))⟩⟩
  ⟨zB (Nat.lt_add_of_pos_right (by decide)),zB (qY n),λq hm=>zB (qb q hm).2.2⟩ (by simpa using hl) (by intro e;apply hne;rw[<-em,e];rfl)
 rw [em]at T;refine⟨n+2,_,_,_,H,rfl,I2,T,⟨hz,hTI,⟨_,hTO,by simp⟩,hi⟩,λb hb=>?_,q⟩;have hle:s.heap.objs.size<=b:=by
  rcases zA.mp hb with rfl|hb
  ·exact zk hsn (jk n 2)
  ·rcases zA.mp hb with rfl|hb
   ·exact hsn
   ·rcases zA.mp hb with rfl|hb
    ·exact Nat.le_succ_of_le hsn
    ·obtain⟨q,hq,rfl⟩:=qX.mp hb;exact(M8 hq).2.1
 exact I.Gz hle (I.hok.fresh hle)
theorem ZBl{elts:List j3}{x1}{tp:Pos}{a b:j3}{ta:TA}{p pos:Pos}(hg:Gl X "zip")(hm:X.mg "zip"=xy)(ha:PA X [a,b] ta)(hs:jP [a,b] X.env=[(xA,eval a X.env),(xA,eval b X.env)]:=by rfl)(hs2:jP [b] X.env=[(xA,eval b X.env)]:=by rfl):
  PI X (.Tuple elts x1 tp) (.Call (.Name "zip" p) [a,b] [] pos) (iZip 2 X.K ta):=by
 intro xw s σ H R I h;refine Call_ (Hz I hg hm PyProof.Rows.boot_zip (PyProof.Rows.callWith_type1 (thn (ha pos xw s σ H _ I h) λus s1 ⟨vs,H1,I1,r1,q1⟩=>?_) (by rw[hs,hs2]) (by rw[hs2];rfl)));obtain⟨ls,rfl,hq,hl,q⟩:=q1;cases Wx r1
 match ls,hl with
 |[x,y],_=>exact ZE4 I1 hq (by simp) (by simp) (PySem.F.typeCall_zip_2 _ _) (PySem.F.newCall_zip_2 _ _) (λobj=>PySem.F.args_object_init_3 obj _ _) q
theorem ZCU{n:Nat}{Q:It->Hp->Prop}(hK:K=X.K)(h:lI K E (Ay (Fo n) ta) σ H Q):iZip n K (lA K E ta) σ H Q:=by
 subst hK;obtain⟨a,S,G,hk,rfl,s,r,h⟩:=h;refine⟨a,S,G,hk,rfl,s,r,(Mu h).imp ?_⟩;rintro vs _ ⟨b,ds,G1,rfl,x,s1,q,-,h1⟩;unfold Fo at h1;split at h1
 ·rename_i hok;obtain⟨ls,e,hq,rd⟩:=Yh s1 q hok.1;have kb:b.K=X.K:=x.k.trans hk;have hl:ls.length=n:=by have:=q.length;rw[e,zX]at this;lia
  exact⟨ls,e,λsr hm=>by rw[<-kb];exact hq sr hm,hl,h1 b _ (Ext.refl b) s1 (ZGE kb rd _)⟩
 ·exact h1.elim
theorem ZAk{elts:List j3}{x1}{tp:Pos}{a b:j3}{p pos:Pos}(hg:Gl X "zip")(hm:X.mg "zip"=xy)(ha:QA X E [a,b] ta)(hs:jP [a,b] X.env=[(xA,eval a X.env),(xA,eval b X.env)]:=by rfl)(hs2:jP [b] X.env=[(xA,eval b X.env)]:=by rfl):
  QI X E (.Tuple elts x1 tp) (.Call (.Name "zip" p) [a,b] [] pos) (Ay (Fo 2) ta):=(ZBl hg hm ha hs hs2).mono λσ H Q h=>ZCU rfl h
end
section
variable{X:Cx}{E:XK}
end
section
variable{X:Cx}{E:XK}
end
end _D
namespace _D
open PySem PySem.W PyProof.Rows
end _D
namespace _D
open PySem PySem.Spec _L
open PyProof.Rows hiding St
variable{g:DG}{xs:List D}
section
variable{prog:j6}{w:jB}{A:j2}{s:j8}
end
section
variable{X:Cx}{E:XK}{xw:List (j1×Obj)}{σ:St}{s:j8}{H:Hp}{h':Heap}
end
section
variable{prog:j6}{w:jB}{A:j2}{E:jA->j8->Prop}{s:j8}
end
section
variable{X:Cx}{E:XK}{xw:List (j1×Obj)}{σ:St}{s:j8}{H:Hp}
end
section
variable{X:Cx}{E:XK}
end
section
variable{S:DSt}{G:DH}
noncomputable def Ec(xs:List D):List D:=xs.zipIdx.map λq=>.tup [.int q.2,q.1]
noncomputable def Ex(xs ys:List D):List D:=(xs.zip ys).map λq=>.tup [q.1,q.2]
theorem W3{f:Nat->DH->Option (Option D)}{b:DS}(h:∀j G,f j G=xk xs[j]?):∀(n j:Nat),j+n=xs.length->∀S G,Bv f g b n j S G=Aq g b (xs.drop j) S G
 |0,j,e,S,G=>by
  unfold Bv;rw[h,zM (by lia),qj (by lia)]
  rfl
 |n+1,j,e,S,G=>by
  have hj:j<xs.length:=by lia
  unfold Bv;rw[h,zQ hj,zH hj,Dc];have:Bv f g b n (j+1)=Aq g b (xs.drop (j+1)):=by funext S G;exact W3 h n (j+1) (by lia) S G
  rw[this]
theorem ZBK{f:Nat->DH->Option (Option D)}{b:DS}{n:Nat}(h:∀j G,f j G=xk xs[j]?)(hn:n=xs.length):Bv f g b n 0 S G=Aq g b xs S G:=by rw[W3 h n 0 (by lia)];rfl
theorem ZAK(j:Nat)(G:DH):Er 0 (.tup xs) j G=xk (Ec xs)[j]? :=by
 unfold Er Ec;simp only[Ax,z0,List.getElem?_zipIdx]
 cases xs[j]?<;>simp
theorem Ln:(Ec xs).length=xs.length:=by simp[Ec]
@[simp]theorem Vg:Fq [.tup xs] G=.ok (.fn xs.length (Er 0 (.tup xs))) G:=by simp[Fq,Ir,Ax,lenOf]
@[simp]theorem ZH8{b:DS}:Bv (Er 0 (.tup xs)) g b xs.length 0 S G=Aq g b (Ec xs) S G:=ZBK ZAK Ln.symm
theorem ZHD{d e:D}{ys:List D}(hd:Ax d G=xk xs)(he:Ax e G=xk ys)(j:Nat):Fe [d,e] j G=xk (Ex xs ys)[j]? :=by
 unfold Fe Ex;simp only[Ei,hd,he,z0,List.getElem?_zip_eq_some]
 have ez:(xs.zip ys)[j]?=match xs[j]?,ys[j]? with
  |some x,xk y=>xk (x,y)
  |_,_=>xy:=by
  rw[List.zip,List.getElem?_zipWith]
  cases xs[j]?<;>cases ys[j]?<;>rfl
 rw[ez];cases xs[j]? with
 |none=>rfl
 |some x=>
  cases ys[j]? with
  |none=>rfl
  |some y=>rfl
theorem ZEo{d e:D}{ys:List D}(hd:Ax d G=xk xs)(he:Ax e G=xk ys):Fo 2 [d,e] G=.ok (.fn xs.length (Fe [d,e])) G:=by simp[Fo,Ir,hd,he,lenOf]
@[simp]theorem Kv:Ax (.fl xs) G=xk xs:=id rfl
end
def Bts(i:Int):Prop:=i.natAbs.log2<33554432
def MulB(i j:Int):Prop:=CMul i j∨(Bts i/\Bts j)
noncomputable instance (i:Int):Decidable (Bts i):=by unfold Bts;infer_instance
noncomputable instance (i j:Int):Decidable (MulB i j):=by unfold MulB;infer_instance
theorem MulB.ok{i j:Int}(h:MulB i j):IntMulOk i j:=by
 rcases h with h|⟨h1,h2⟩
 ·exact h.ok
 ·have b:∀k:Int,Bts k->Builtin.Int.intBits k<=33554432:=λk hk=>by
   unfold Builtin.Int.intBits;split
   ·exact Nat.zero_le _
   ·exact hk
  have c1:=b i h1;have c2:=b j h2;have h:Builtin.Int.intTooBig (Builtin.Int.intBits i+Builtin.Int.intBits j)=xA:=by unfold Builtin.Int.intTooBig bitsLine;exact decide_eq_false (by lia)
  unfold IntMulOk;rw[h];simp
section
variable{X:Cx}{E:XK}
theorem ZCw:OpR X (jE .Mult) (rI MulB λi j=>.int (i*j)):=opI λ_ _ _ _ _ _ _ hc q=>mul_int q hc.ok
end
section
variable{i j:Int}{G:DH}
end
section
variable{X:Cx}{E:XK}
end
def Ri(f:Str)(v:D):List (Str×D)->List (Str×D)
 |[]=>[(f,v)]
 |(g,x)::r=>if g=f then(g,v)::r else(g,x)::Ri f v r
section
variable{X:Cx}{E:XK}{c f m:Str}{C:j1}{e o:j3}{es:List j3}{t ta tv:DE}{tr:DA}{pos apos pos':Pos}
end
theorem Ke:∀{ns:List Int}{us:List jA},Vals (ns.map V.int) us->us.length=ns.length/\∀(j:Nat)(u:jA),us[j]?=xk u->∃t,∃h:j<ns.length,u=.int ns[j] t
 |[],us,h=>by cases h;exact⟨rfl,λj u e=>by simp at e⟩
 | n::ns,us,h=>by
  cases h with
  | cons r rr=>
   obtain⟨h1,h2⟩:=Ke rr;obtain⟨t,rfl⟩:=r;refine⟨by simp[h1],λj u e=>?_⟩;cases j with
   |zero=>simp at e;exact⟨t,by simp,by simpa using e.symm⟩
   |succ j=>
    obtain⟨t',hj,e'⟩:=h2 j u (by simpa using e);exact⟨t',by simpa using hj,by simpa using e'⟩
section
variable{X:Cx}{E:XK}
end
section
variable{prog:j6}{w:jB}{A:j2}{E:jA->j8->Prop}{s:j8}
end
section
variable{X:Cx}{E:XK}
end
end _D
namespace _D
open PySem PySem.Spec _L
section
variable{S:DSt}{G:DH}{c f m:Str}{t to tv:DE}{ta:DA}{F:List D->DH->R D}{i:Nat}{fs:List (Str×D)}{v d:D}
theorem Vq{d:D}{G G':DH}(hl:G'.length=G.length)(hb:bel G.length d=x0):tidy G (.ok d G')=.ok d G':=by
 unfold tidy;simp only[hb,if_true];split
 ·rename_i h;rw[List.take_of_length_le (by lia)]at h;rw[h]
 ·rfl
end
end _D
namespace _D
open PySem PySem.Spec _L
open PyProof.Rows hiding St
def By(x:Str)(n:Int):Str:=if n<1 then Str.empty else if(n==1||x.length==0)=x0 then x else⟨(zP n.toNat x.cps).foldl (·++·) #[]⟩
theorem Ti{a:Array Nat}:∀(n:Nat)(b:Array Nat),((zP n a).foldl (·++·) b).toList=b.toList++(zP n a.toList).flatten
 |0,b=>by simp
 |n+1,b=>by rw[List.replicate_succ,List.foldl_cons,Ti n (b++a),List.replicate_succ,List.flatten_cons];simp
theorem ZDN{a:Array Nat}(n:Nat):((zP n a).foldl (·++·) #[]).size=n*a.size:=by rw[<-qW,Ti];simp
theorem ZEH{x:Str}{n:Int}:(By x n).cps.toList=(zP n.toNat x.cps.toList).flatten:=by
 unfold By;split
 ·rename_i h;have e:n.toNat=0:=by lia
  rw[e];rfl
 ·rename_i h;split
  ·rename_i hx;rw[Bool.or_eq_true,beq_iff_eq,beq_iff_eq]at hx;rcases hx with rfl|hx
   ·simp
   ·have e:x.cps.toList=[]:=by have:x.cps.size=0:=hx;rw[<-qW]at this;exact qx this
    rw[e];simp
  ·show((zP n.toNat x.cps).foldl (·++·) #[]).toList=_
   rw[Ti];simp
def Ai:D->D->DH->R D
 |.int i,.int j,G=>if MulB i j then .ok (.int (i*j)) G else .bad
 |.str x,.int n,G=>if -1000<=n/\n<=1000/\x.length<=1000 then .ok (.str (By x n)) G else .bad
 |_,_,_=>.bad
section
variable{X:Cx}{E:XK}
theorem ZGz:OpR X (jE .Mult) (λx y H Q=>∃i n,x=.str i/\y=.int n/\(-1000<=n/\n<=1000/\i.length<=1000)/\Q (.str (By i n)) H):=by
 intro xw s σ H x y v u Q I rx ry h;obtain⟨i,n,rfl,rfl,⟨h1,h2,h3⟩,q⟩:=h;obtain⟨t,rfl⟩:=rx;obtain⟨t',rfl⟩:=ry;have hlen:∀m:Nat,m<=1000->i.length*m<=1000000:=λm hm=>zk (Nat.mul_le_mul h3 hm) (by decide)
 refine P.mul_str ?_ (λhn hx=>?_) (λhn hx=>?_) ?_
 ·rw[decide_eq_false (by lia),decide_eq_false (by lia)];rfl
 ·intro hgt;have hm:0<n:=by lia
  have:(i.length:Int)*n<=2^63-1:=by have h4:(i.length:Int)*n<=1000*1000:=Int.mul_le_mul (by lia) h2 (by lia) (by lia);lia
  have h5:=(Int.le_ediv_iff_mul_le hm).mpr this;lia
 ·have:=hlen n.toNat (by lia);unfold Builtin.Str.tooLong;rw[sizeLine_eq];exact decide_eq_false (by lia)
 ·unfold By at q;split
  ·rename_i hn;rw[if_pos hn]at q;exact⟨by decide,.str Str.empty,H,I.tok _,⟨_,rfl⟩,q⟩
  ·rename_i hn;rw[if_neg hn]at q;split
   ·rename_i hx;rw[if_pos hx]at q;exact⟨.str i,H,I,⟨t,rfl⟩,q⟩
   ·rename_i hx;rw[if_neg hx]at q;refine⟨?_,.str _,H,I.tok _,⟨_,rfl⟩,q⟩
    show((zP n.toNat i.cps).foldl (·++·) #[]).size<=sizeLine
    have h6:i.cps.size<=1000:=h3;have h7:=Nat.mul_le_mul (show n.toNat<=1000 by lia) h6;rw[ZDN,sizeLine_eq];lia
theorem ZG6:OpR X (jE .Mult) (lR2 X.K E Ai):=Dr (ZCw.or ZGz) λa G d e x y Q hk s rd re q=>by
 cases d<;>cases e<;>first
  |exact q.elim
  | (
    rename_i i j;unfold Ai at q;dsimp only at q;split at q
    ·first
     |exact .inl ⟨_,_,rd,re,by assumption,q a _ (Ext.refl a) s rfl⟩
     |exact .inr ⟨_,_,rd,re,by assumption,q a _ (Ext.refl a) s rfl⟩
    ·exact q.elim)
end
section
variable{i j:Int}{G:DH}
theorem Cw(h1: -(2^64)<i)(h2:i<2^64):Ai (.int i) (.int j) G=.ok (.int (i*j)) G:=if_pos (.inl (.inl ⟨h1,h2⟩))
theorem Je(h1: -(2^64)<j)(h2:j<2^64):Ai (.int i) (.int j) G=.ok (.int (i*j)) G:=if_pos (.inl (.inr ⟨h1,h2⟩))
@[simp]theorem ZHX{n:Nat}(h:n<18446744073709551616):Ai (.int (no_index (OfNat.ofNat n))) (.int j) G=.ok (.int (OfNat.ofNat n*j)) G:=
 Cw (by have:(0:Int)<=(OfNat.ofNat n:Int):=Int.natCast_nonneg n;lia) (by have:(OfNat.ofNat n:Int)<18446744073709551616:=Int.ofNat_lt.mpr h;lia)
@[simp]theorem ZHb{n:Nat}(h:n<18446744073709551616):Ai (.int i) (.int (no_index (OfNat.ofNat n))) G=.ok (.int (i*OfNat.ofNat n)) G:=
 Je (by have:(0:Int)<=(OfNat.ofNat n:Int):=Int.natCast_nonneg n;lia) (by have:(OfNat.ofNat n:Int)<18446744073709551616:=Int.ofNat_lt.mpr h;lia)
theorem ZA4{x:Str}{n:Int}(h: -1000<=n/\n<=1000/\x.length<=1000):Ai (.str x) (.int n) G=.ok (.str (By x n)) G:=if_pos h
end
section
variable{X:Cx}{E:XK}{e st:j3}{te:TE}{ts:TO}{p2 pos:Pos}
end
section
variable{S:DSt}{G:DH}
end
section
variable{X:Cx}{E:XK}
end
section
variable{S:DSt}{G:DH}
end
section
variable{X:Cx}{xw:List (j1×Obj)}{σ:St}{H:Hp}{s:j8}{N:List Str}{scope:j7}{caps:List Nat}{x qual:Str}{f:j1}{cd:jA}{A:j2}
end
section
variable{X:Cx}{xw:List (j1×Obj)}{σ:St}{s:j8}{scope:j7}{a:Wd}
end
section
variable{prog:j6}{w:jB}{A:j2}{E:jA->j8->Prop}{s:j8}
end
section
variable{X:Cx}{xw:List (j1×Obj)}{σ:St}{H:Hp}{s:j8}{h':Heap}{m:Str->Option jA}
end
section
variable{X:Cx}{xw:List (j1×Obj)}{σ:St}{N:List Str}{scope:j7}{caps:List Nat}{x:Str}{f:j1}{A:j2}{a:Wd}{S:DSt}{body:j3}{te:DE}{params:Arguments}{pm ctv:jA}{c':j1}{ob oc:Obj}{vs0:Array jA}{t0:Tok}{E:XK}
 {Dd kS:j1} {e1:Nat} {m:Str->Option jA} {h₀:Heap} {Q:VK}
end
end _D
namespace _D
open PySem PySem.Spec _L
open PyProof.Rows hiding St
open PySem.W (KatKeys KatFin katRev KatBack)
section
variable{prog:j6}{w:jB}{A:j2}{E:jA->j8->Prop}{s:j8}{h₀:Heap}{L a kS:j1}{m:Str->Option jA}{P:PySem.Fin->j8->Prop}
end
end _D
namespace _D
open PySem PySem.Spec _L
open PyProof.Rows hiding St
section
variable{X:Cx}{xw:List (j1×Obj)}{σ:St}{N:List Str}{scope:j7}{caps:List Nat}{x:Str}{f:j1}{A:j2}{a:Wd}{S:DSt}{body:j3}{te:DE}{params:Arguments}{pm ctv:jA}{c':j1}{ob oc:Obj}{vs0:Array jA}{t0:Tok}
 {Dd kS:j1} {e1:Nat} {m:Str->Option jA} {h₀:Heap} {Q:VK}
end
section
variable{X:Cx}{xw:List (j1×Obj)}{σ:St}{N:List Str}{scope:j7}{caps:List Nat}{x:Str}{f:j1}{A:j2}{a:Wd}{S:DSt}{body:j3}{te:DE}{params:Arguments}{pm ctv:jA}{c':j1}{ob oc:Obj}{vs0:Array jA}{t0:Tok}{Q:VK}
end
section
variable{X:Cx}{N:List Str}{scope:j7}{caps:List Nat}{x:Str}{body:j3}{te:DE}{params:Arguments}{e:j3}{tn:DA}{p p' pos pos' lp kp kp' cp:Pos}{C m:Str}{cj:Nat}
end
end _D
namespace _D
open PySem PySem.W _L
variable{C:j1}{x q:Str}{st:j9}
theorem Vi{a:j1}{o:Obj}:∀{l:List Obj}{n:Nat},(Ha l n).lookup a=xk o->n<=a/\l[a-n]?=xk o/\∀x y z,o≠⟨x,y,.freed,z⟩
 |[],n,h=>by cases h
 | p::r,n,h=>by
  have next:(Ha r (n+1)).lookup a=xk o->n<=a/\(p::r)[a-n]?=xk o/\∀x y z,o≠⟨x,y,.freed,z⟩:=λh=>by obtain⟨h1,h2,h3⟩:=Vi h;obtain⟨k,rfl⟩:=Nat.exists_eq_add_of_le h1;rw[Nat.add_sub_cancel_left]at h2;refine⟨zk (jX n) h1,?_,h3⟩;rw[show n+1+k-n=k+1 by rw[Nat.add_assoc,Nat.add_sub_cancel_left,Nat.add_comm],List.getElem?_cons_succ];exact h2
  unfold Ha at h;split at h
  ·exact next h
  ·exact next h
  ·rename_i hz hf;rw[qE]at h;split at h
   ·rename_i e;have e':a=n:=by simpa using e
    subst e';cases h;refine⟨zq _,by simp,λx y z q=>?_⟩;subst q;exact hz rfl
   ·exact next h
theorem ZBE(h:Heap):(Jl h).In h:=λa o e=>by
 obtain⟨_,h2,h3⟩:=Vi e;have h4:h.objs[a]?=xk o:=by simpa using h2
 unfold Heap.get?;rw[h4];split
 ·rename_i q;cases q;exact absurd rfl (h3 _ _ _)
 ·rfl
noncomputable def Fl(p:j6)(N:Nat)(w:jB):Heap:=match openEnds jR p w N with
 |some s=>s.heap
 |none=>default
def Stays(p:j6)(N:Nat)(w:jB)(h:Heap):Prop:=∀b o,(Fl p N w).get? b=xk o->h.get? b=xk o
theorem Stays.in{p:j6}{N:Nat}{w:jB}{h:Heap}(x:Stays p N w h):(Jl (Fl p N w)).In h:=λa o e=>x a o (ZBE _ a o e)
def Km(p:j6)(N:Nat):Hook:=
 ⟨Heap,λs=>s.heap,Fl p N,Stays p N,λw s e b o q=>by rw[show s.heap=Fl p N w from e];exact q,λw h h' x k b o q=>k b o (x b o q)⟩
section
variable{p q:j6}{loose:List Str}{Xt:j8->Bool}{N:Nat}{β:Type}{see:Heap->β}{val:β}
theorem ZB1(E:∀w,(openEnds jR p w N).map (λs=>(openSeen q loose (jH p.main.body) Xt x0 s,see s.heap))=xk (openGood q loose,val)):
  LeftO p q loose Xt (Km p N).obs (Km p N).val N:=λw=>by
 obtain⟨s,h1,h2⟩:=zD.mp (E w);show Option.map _ _=xk (openGood q loose,Fl p N w);unfold Fl;rw[h1];show xk (openSeen q loose (jH p.main.body) Xt x0 s,s.heap)=_;rw[(Prod.mk.inj h2).1]
theorem ZDy(E:∀w,(openEnds jR p w N).map (λs=>(openSeen q loose (jH p.main.body) Xt x0 s,see s.heap))=xk (openGood q loose,val))(w:jB):see (Fl p N w)=val:=by obtain⟨s,h1,h2⟩:=zD.mp (E w);unfold Fl;rw[h1];exact(Prod.mk.inj h2).2
end
theorem holds_top{l:OpenLaw}{q:j6}{loose:List Str}{N:Nat}{β:Type}{see:Heap->β}{val:β}{d:DefRec}(well:l.wellSaid=x0)
  (E:∀w,(openEnds jR l.prog w N).map (λs=>(openSeen q loose (jH l.prog.main.body) (XtOf l q) x0 s,see s.heap))=xk (openGood q loose,val))
  (hdef:defOf q l.row.name=xk (d,[])) (hp:l.row.prog.theDef l.row.name=xk (d.params,d.body,d.scope)) (hk:kwWritten? d.params.kwonlyargs d.params.kw_defaults=xk []) (hwr:(!l.row.writes||l.row.records.isEmpty)=x0)
  (ok:(chainsOk q&&opensWell l.row.prog&&(frees l.row.toRowW&&l.row.within.isEmpty))=x0) (hb:l.row.prog.bare) (hw:l.row.toRowW.promised)
  (call:WalkO q loose (XL q []) (Stays l.prog N) l.row.toRowW d [] λf vs=>PySem.call f vs):l.Holds:=
 holds_law well λsaid=>holds_open (r:=l.row) (q:=q) (loose:=loose) (Xt:=XtOf l q) (XP:=XL q []) (YP:=Stays l.prog N) (N:=N) (ZB1 E) (Km l.prog N).of (Km l.prog N).keeps
  (λs e=>xl_of s (q9.mp e).1) XL.keeps hdef hp hk (λs e=>recFacts_of (q9.mp e).2) hwr said ok hb hw call
theorem Qd{K:xz}{n:Str}(h:gOk K n=x0):nsIn K jL n=xk (xk (.ref (Ao K n))):=by
 unfold gOk at h;unfold Ao;split at h
 ·rename_i e;rw[e]
 ·cases h
theorem Yq{K:xz}{m:Str}(h:mOk K C m=x0):findIn K (.ref C) m=xk (xk (.ref (Fx K C m)))/\isFn K (.ref (Fx K C m))=x0:=by
 unfold mOk at h;unfold Fx;split at h
 ·rename_i e;rw[e];exact⟨rfl,h⟩
 ·cases h
theorem ZBD{K:xz}{m:Str}(h:noF K C m=x0):findIn K (.ref C) m=xk xy:=by
 unfold noF at h;split at h
 ·assumption
 ·cases h
theorem ZDt{K:xz}{n:Str}(h:zOk K n=x0):nsIn K jL n=xk xy:=by
 unfold zOk at h;split at h
 ·assumption
 ·cases h
theorem ZBY{K:xz}(h:Pu K C=x0):findIn K (.ref C) "__setattr__"=xk (xk (.builtin "object.__setattr__")):=by
 unfold Pu at h;split at h
 ·rename_i e;rw[e,beq_iff_eq.mp h]
 ·cases h
noncomputable def Du(K:xz)(n:Str):Tok:=match nsIn K jL n with
 |some (xk (.int _ t))=>t
 |some (xk (.str _ t))=>t
 |_=>0
theorem ZBm{K:xz}{n:Str}{v:Int}(h:iOk K n v=x0):nsIn K jL n=xk (xk (.int v (Du K n))):=by
 unfold iOk at h;unfold Du;split at h
 ·rename_i e;rw[e,of_decide_eq_true h]
 ·cases h
theorem ZDS{K:xz}{n:Str}{v:Str}(h:sOk K n v=x0):nsIn K jL n=xk (xk (.str v (Du K n))):=by
 unfold sOk at h;unfold Du;split at h
 ·rename_i e;rw[e,of_decide_eq_true h]
 ·cases h
abbrev FnSaid(K:xz)(x q:Str)(st:j9)(f:j1):Prop:=
 K.lookup f=xk ⟨(Dw K f).cls,(Dw K f).dict,.func (fnOf x q (Eg st) (Df st) (Am st) .none (Av K f).kwdefaults (Av K f).doc (Av K f).pyModule (Av K f).annotations (Av K f).code (Av K f).closureTuple),(Dw K f).slots⟩/\
  codeIn K (Av K f).code q=x0/\keepIn K (.ref f)=x0
theorem ZAU{K:xz}{f:j1}(h:Mg K x q f=x0)(t:Gg K f=Gx st):FnSaid K x q st f:=by
 unfold Mg at h;split at h
 ·rename_i oc od fd sl e;have eo:Dw K f=⟨oc,od,.func fd,sl⟩:=by unfold Dw;rw[e]
  have ef:Av K f=fd:=by unfold Av;rw[eo]
  unfold Gg Gx at t;rw[ef]at t;obtain⟨t1,t2⟩:=Prod.mk.inj t;obtain⟨t2,t3⟩:=Prod.mk.inj t2;simp only[zC,decide_eq_true_eq,beq_iff_eq,List.isEmpty_iff]at h;obtain⟨⟨⟨h1,h2⟩,⟨⟨h3,h4⟩,h5⟩,h6⟩,h7,h8⟩:=h;unfold FnSaid;rw[ef,eo,e];refine⟨?_,h7,h8⟩;have h6':fd.defaults=.none:=by
   revert h6
   generalize fd.defaults=df;intro h6
   cases df<;>first|rfl|cases h6
  have h9:fd.body=.stmts (Df st):=by
   revert t2
   generalize fd.body=bd;intro t2
   cases bd<;>first|(cases t2;rfl)|(cases t2)
  have ef':fd=fnOf x q (Eg st) (Df st) (Am st) .none fd.kwdefaults fd.doc fd.pyModule fd.annotations fd.code fd.closureTuple:=by show FuncData.mk fd.name fd.qualname fd.params fd.body fd.scope fd.globals fd.closure fd.defaults fd.kwdefaults fd.doc fd.pyModule fd.annotations fd.code fd.closureTuple fd.builtins=_;rw[h1,h2,t1,h9,t3,h3,h5,h6',h4]
  exact congrArg (λz=>xk (Obj.mk oc od (.func z) sl)) ef'
 ·cases h
abbrev DfSaid(K:xz)(d:jA)(v:Int):Prop:=∃T o t n,d=.ref T/\K.lookup T=xk o/\o.data=.seq #[.int v t] n
theorem ZEu{K:xz}{d:jA}{v:Int}(h:dfl K d v=x0):DfSaid K d v:=by
 unfold dfl at h;split at h
 ·rename_i T;split at h
  ·rename_i o e;split at h
   ·rename_i a n e2;split at h
    ·rename_i i t e3;cases of_decide_eq_true h;refine⟨T,o,t,n,rfl,e,?_⟩;rw[e2]
     congr 1
     rw[<-Array.toList_inj,e3]
    ·cases h
   ·cases h
  ·cases h
 ·cases h
abbrev FnSaidD(K:xz)(x q:Str)(st:j9)(f:j1)(v:Int):Prop:=
 K.lookup f=xk ⟨(Dw K f).cls,(Dw K f).dict,.func (fnOf x q (Eg st) (Df st) (Am st) (Av K f).defaults (Av K f).kwdefaults (Av K f).doc (Av K f).pyModule (Av K f).annotations (Av K f).code (Av K f).closureTuple),(Dw K f).slots⟩/\
  codeIn K (Av K f).code q=x0/\keepIn K (.ref f)=x0/\DfSaid K (Av K f).defaults v
theorem ZAg{K:xz}{f:j1}{v:Int}(h:Qg K x q f v=x0)(t:Gg K f=Gx st):FnSaidD K x q st f v:=by
 unfold Qg at h;split at h
 ·rename_i oc od fd sl e;have eo:Dw K f=⟨oc,od,.func fd,sl⟩:=by unfold Dw;rw[e]
  have ef:Av K f=fd:=by unfold Av;rw[eo]
  unfold Gg Gx at t;rw[ef]at t;obtain⟨t1,t2⟩:=Prod.mk.inj t;obtain⟨t2,t3⟩:=Prod.mk.inj t2;simp only[zC,decide_eq_true_eq,beq_iff_eq,List.isEmpty_iff]at h;obtain⟨⟨⟨h1,h2⟩,⟨⟨h3,h4⟩,h5⟩,h6⟩,h7,h8⟩:=h;unfold FnSaidD;rw[ef,eo,e];refine⟨?_,h7,h8,ZEu h6⟩;have h9:fd.body=.stmts (Df st):=by
   revert t2
   generalize fd.body=bd;intro t2
   cases bd<;>first|(cases t2;rfl)|(cases t2)
  have ef':fd=fnOf x q (Eg st) (Df st) (Am st) fd.defaults fd.kwdefaults fd.doc fd.pyModule fd.annotations fd.code fd.closureTuple:=by show FuncData.mk fd.name fd.qualname fd.params fd.body fd.scope fd.globals fd.closure fd.defaults fd.kwdefaults fd.doc fd.pyModule fd.annotations fd.code fd.closureTuple fd.builtins=_;rw[h1,h2,t1,h9,t3,h3,h5,h4]
  exact congrArg (λz=>xk (Obj.mk oc od (.func z) sl)) ef'
 ·cases h
theorem Lx:∀{l:List jA}{ss:List Str},strsOf l=xk ss->Vals (ss.map V.str) l
 |[],ss,h=>by cases h;exact .nil
 |v::r,ss,h=>by
  unfold strsOf at h;split at h
  ·rename_i q;cases q
  ·rename_i s t r' q;cases q;obtain⟨ss',h1,rfl⟩:=zD.mp h;exact .cons ⟨_,rfl⟩ (Lx h1)
  ·cases h
abbrev GtSaid(K:xz)(n:Str)(vs:List Str):Prop:=∃(p:j1)(od:Option j1)(sl:Array (Option jA))(k:Nat)(its:List jA),nsIn K jL n=xk (xk (.ref p))/\K.lookup p=xk ⟨.type "tuple",od,.seq its.toArray k,sl⟩/\its.length<=1000/\Vals (vs.map V.str) its
theorem ZEm{K:xz}{n:Str}{vs:List Str}(h:Tt K n vs=x0):GtSaid K n vs:=by
 unfold Tt at h;split at h
 ·rename_i p e;split at h
  ·rename_i t od its k sl e2;simp only[zC,beq_iff_eq,decide_eq_true_eq]at h;obtain⟨⟨rfl,h2⟩,h3⟩:=h;exact⟨p,od,sl,k,its.toList,e,by rw[e2],Nat.le_of_ble_eq_true h3,Lx h2⟩
  ·cases h
 ·cases h
abbrev GdSaid(K:xz)(n:Str)(kvs:List (Str×Str)):Prop:=∃(p:j1)(od:Option j1)(sl:Array (Option jA))(k:Nat)(es:Array DictEntry),nsIn K jL n=xk (xk (.ref p))/\K.lookup p=xk ⟨.type "dict",od,.dict es k,sl⟩/\(p==sysModules)=xA/\Vals ((kvs.map (·.1)).map V.str) (es.toList.map (·.key))/\Vals ((kvs.map (·.2)).map V.str) (es.toList.map (·.val))
theorem ZBI{K:xz}{n:Str}{kvs:List (Str×Str)}(h:O2 K n kvs=x0):GdSaid K n kvs:=by
 unfold O2 at h;split at h
 ·rename_i p e;split at h
  ·rename_i t od es k sl e2;simp only[zC,beq_iff_eq,decide_eq_true_eq,Bool.not_eq_true']at h;obtain⟨⟨⟨rfl,h2⟩,h3⟩,h4⟩:=h;exact⟨p,od,sl,k,es,e,by rw[e2],h2,Lx h3,Lx h4⟩
  ·cases h
 ·cases h
def Ask.Said(K:xz):Ask->Prop
 |.fn n st=>nsIn K jL n=xk (xk (.ref (Ao K n)))/\FnSaid K n n st (Ao K n)
 |.mt c m q st=>findIn K (.ref (Ao K c)) m=xk (xk (.ref (Fx K (Ao K c) m)))/\isFn K (.ref (Fx K (Ao K c) m))=x0/\FnSaid K m q st (Fx K (Ao K c) m)
 | .cl c=>nsIn K jL c=xk (xk (.ref (Ao K c)))/\plainGet K (Ao K c) Str.empty=x0/\hasDictIn K (Ao K c)=x0/\plainOver K (Ao K c)=x0/\
   findIn K (.ref (Ao K c)) "__setattr__"=xk (xk (.builtin "object.__setattr__"))/\makesIn K (Ao K c)=x0/\keepIn K (.ref (Ao K c))=x0
 |.no c x=>findIn K (.ref (Ao K c)) x=xk xy
 |.z n=>nsIn K jL n=xk xy
 |.gi n v=>nsIn K jL n=xk (xk (.int v (Du K n)))
 |.gs n v=>nsIn K jL n=xk (xk (.str v (Du K n)))
 |.gt n vs=>GtSaid K n vs
 |.gd n kvs=>GdSaid K n kvs
 |.ck φ=>φ K=x0
 |.fd n st v=>nsIn K jL n=xk (xk (.ref (Ao K n)))/\FnSaidD K n n st (Ao K n) v
theorem Ask.said{K:xz}:∀{a:Ask},a.chk K=x0->a.txt K=a.want->a.Said K
 |.fn n st,h,t=>by obtain⟨h1,h2⟩:=q9.mp h;exact⟨Qd h1,ZAU h2 (Option.some.inj t)⟩
 |.mt c m q st,h,t=>by obtain⟨h1,h2⟩:=q9.mp h;exact⟨(Yq h1).1,(Yq h1).2,ZAU h2 (Option.some.inj t)⟩
 |.cl c,h,_=>by simp only[Ask.chk,zC]at h;obtain⟨⟨h1,⟨h2,h3⟩,h4⟩,⟨h5,h6⟩,h7⟩:=h;exact⟨Qd h1,h2,h3,h4,ZBY h5,h6,h7⟩
 |.no c x,h,_=>ZBD h
 |.z n,h,_=>ZDt h
 |.gi n v,h,_=>ZBm h
 |.gs n v,h,_=>ZDS h
 |.gt n vs,h,_=>ZEm h
 |.gd n kvs,h,_=>ZBI h
 |.ck _,h,_=>h
 |.fd n st v,h,t=>by obtain⟨h1,h2⟩:=q9.mp h;exact⟨Qd h1,ZAg h2 (Option.some.inj t)⟩
def AllSaid(K:xz):List Ask->Prop
 |[]=>True
 |a::r=>a.Said K/\AllSaid K r
theorem W2{K:xz}:∀{l:List Ask},(l.all (Ask.chk K),l.map (Ask.txt K))=(x0,l.map Ask.want)->AllSaid K l
 |[],_=>trivial
 |a::r,h=>by obtain⟨h1,h2⟩:=Prod.mk.inj h;rw[qO]at h1;obtain⟨h3,h4⟩:=q9.mp h1;rw[zK,zK]at h2;obtain⟨h5,h6⟩:=List.cons.inj h2;exact⟨Ask.said h3 h5,W2 (by rw[h4,h6])⟩
theorem ZB4{K:xz}{a:Str}{f:j1}{fd:j4}{s:j8}{v:jA}(F:Fun K x q st f fd)
  (h:∀(kV doc pm:jA)(an:Option j1)(cdv ct:jA)(u:jA),bindArgs (fnOf x q (Eg st) (Df st) (Am st) .none kV doc pm an cdv ct) ⟨[u],[]⟩=pure [(a,u)]):BindsTo s fd ⟨[v],[]⟩ [(a,v)]:=by
 obtain⟨oc,od,kV,doc,pm,an,cdv,ct,osl,rfl,lk,hcd⟩:=F.ex;exact .of_eq (h kV doc pm an cdv ct v)
theorem ZAQ{p:j6}{w:jB}{n₀:Nat}{ann:Option jA}:∀{n:Nat}{s s':SharedT}{t:Thread},Mi p w n₀ ann n s t=xk s'->topRun jR p w n₀ ann n s.abs t=xk s'.abs
 |0,_,_,_,h=>by cases h
 | n+1,s,s',t,h=>by
  unfold Mi at h;unfold topRun;rw[<-PySem.W.Fast.te6613529449190102663,<-PySem.W.Fast.te10156331382660048174,<-PySem.W.Fast.te11892475500146522536,<-PySem.W.Fast.te14364793385576792824]at h;cases ht:through t with
  |true=>
   rw[ht]at h;cases h
   rfl
  | false=>
   rw[ht]at h;dsimp only at h⊢;cases ho:stepOk n₀ ann t with
   |false=>rw[ho]at h;cases h
   |true=>
    rw[ho]at h;dsimp only at h⊢;split at h
    ·rename_i s2 t2 e;rw[stepT_spec e];exact ZAQ h
    ·cases h
theorem boot_abs:∀w os,(Wo w os).abs=⟨xj w.params,Array.mk [],boot_drawn,boot_toks,os⟩:=λw os=>by kernel_rfl
theorem ZCd:∀w:jB,((xj w.params).isNs jL&&(Array.mk []:Array GenState).size==0)=x0:=λw=>by kernel_rfl
theorem ZCy{p q:j6}{loose:List Str}{Xt:j8->Bool}{β:Type}{see:Heap->β}{val:β}(e:opening p=plainProg p.main.scope.names)(f:∀s,fenceModules? p s=xk s)
  (R:∀w os,(Ot p w os).map (λs=>(Q4 p w s.abs,PySem.W.Fast.tw4187177175401517315 q loose (PySem.W.Fast.tw5923862056798008813 p.main.body) Xt x0 s.abs,see s.abs.heap))=xk (x0,openGood q loose,val)):
  ∀w,(openEnds jR p w 100000).map (λs=>(openSeen q loose (jH p.main.body) Xt x0 s,see s.heap))=xk (openGood q loose,val):=λw=>by
 obtain⟨⟨h,gs,d,k,os⟩,h0,e0⟩:=zD.mp (boot_open (N:=100000) e rfl f w);obtain⟨rfl,rfl,rfl,rfl⟩:h=xj w.params/\gs=Array.mk []/\d=boot_drawn/\k=boot_toks:=by simpa using e0
 obtain⟨s,h1,h2⟩:=zD.mp (R w os);obtain⟨h3,h4⟩:=Prod.mk.inj h2;obtain⟨h4,h5⟩:=Prod.mk.inj h4;unfold Ot at h1;have r:=ZAQ h1;rw[boot_abs,<-PySem.W.Fast.te8920871248978507458]at r;rw[<-PySem.W.Fast.te4187177175401517315,<-PySem.W.Fast.te5923862056798008813]at h4;unfold Q4 at h3;rw[<-PySem.W.Fast.te5923862056798008813]at h3;have t:topFrom jR p w 100000 ⟨xj w.params,Array.mk [],boot_drawn,boot_toks,os⟩=xk s.abs:=by
  unfold topFrom;dsimp only;rw[ZCd,r]
  show(match staticsOk (jH p.main.body) (xj w.params) s.abs.heap&&namesBound p s.abs.heap&&gensDone s.abs&&laidKept (xj w.params) s.abs.heap with |true=>_|false=>_)=_
  rw[h3]
 unfold openEnds;rw[h0];show(topFrom jR p w 100000 _).map _=_;rw[t];exact congrArg xk (Prod.ext h4 h5)
structure FT (K:xz) (mg:Str->Option jA) (n:Str) (st:j9) (ps:List Str):Prop where
 F:Fun K n n st (Ao K n) (Av K (Ao K n))
 b:Binds K (Av K (Ao K n)) ps []
 m:mg n=xk (.ref (Ao K n))
 k:keepIn K (.ref (Ao K n))=x0
theorem Z3{K:xz}{f:j1}(s:FnSaid K x q st f):Fun K x q st f (Av K f):=by
 have e:Av K f=fnOf x q (Eg st) (Df st) (Am st) .none (Av K f).kwdefaults (Av K f).doc (Av K f).pyModule (Av K f).annotations (Av K f).code (Av K f).closureTuple:=by
  have h:=s.1
  conv=>lhs;unfold Av Dw;rw[h]
 exact⟨⟨_,_,_,_,_,_,_,_,_,e,by rw[e];exact s.1,s.2.1⟩,s.2.2⟩
theorem ZEM{K:xz}{h:Heap}{mg:Str->Option jA}{n:Str}{ps:List Str}(X:K.In h)(G:h.Ns jL mg)(s:Ask.Said K (.fn n st))
  (hb:∀(kV doc pm:jA)(an:Option j1)(cdv ct:jA)(us:List jA),us.length=ps.length->bindArgs (fnOf n n (Eg st) (Df st) (Am st) .none kV doc pm an cdv ct) ⟨us,[]⟩=pure (ps.zip us)):FT K mg n st ps:=
 ⟨Z3 s.2,(Z3 s.2).binds hb,mg_of X G s.1,s.2.2.2⟩
abbrev FnO(P:j6)(w:jB)(K:xz)(mg:Str->Option jA)(base:Heap)(k:Nat)(n:Str)(ps:List Str)(F:List D->DH->R D):Prop:=FnOk P w K mg base CX0 k (Ao K n) (Av K (Ao K n)) ps (lF K F)
theorem ZAh{K:xz}{fd:j4}{s:j8}{v:jA}{a:Str}{f:j1}(F:Fun K x q st f fd)
  (h:∀(kV doc pm:jA)(an:Option j1)(cdv ct:jA)(u:jA),bindArgs (fnOf x q (Eg st) (Df st) (Am st) .none kV doc pm an cdv ct) ⟨[u],[]⟩=pure [(a,u)]:=by intros;rfl):BindsTo s fd ⟨[v],[]⟩ [(a,v)]:=ZB4 F h
end _D
namespace _D
open PySem PySem.Spec _L
open PyProof.Rows hiding St
section
variable{prog:j6}{w:jB}{A:j2}{E:jA->j8->Prop}{s:j8}
end
section
variable{X:Cx}{E:XK}{p:j1}{kvs:List (Str×Str)}{x:Str}{a:j3}{ta:DE}{np pos:Pos}
end
noncomputable def Bl:D->Option V
 |.int i=>xk (.int i)
 |.str x=>xk (.str x)
 |_=>xy
section
variable{X:Cx}{E:XK}{pos:Pos}
end
section
variable{S:DSt}{G:DH}
end
theorem Bj{X:Cx}{k j:Nat}{n:Str}{st:j9}{ps:List Str}{F:List D->DH->R D}{p pos:Pos}{e:j3}{es:List j3}{tr:DA}(FF:FnO X.prog X.w X.K X.mg X.base k n ps F)(T:FT X.K X.mg n st ps)(hr:Room j X.A)(ha:QA X E0 (e::es) tr)
  (hj:k<=j:=by decide) (hg:Gl X n:=by exact rfl) (hd:(n==("__debug__":Str))=xA:=by decide) (he:notStar e=x0:=by exact rfl) (hp:es.all notStar=x0:=by exact rfl):QE X E0 (.Call (.Name n p) (e::es) [] pos) (dFn F tr):=
 ZD0 FF (hr.mono hj) hg T.m T.k T.b pass0 ha hd he hp
section
variable{M:Model}{A:j2}{E:jA->j8->Prop}{s:j8}{B:Heap}{env:Env}{outer:List Env}{L e:j1}{oe:Obj}{vs:Array jA}{head:jA}{hn:Bool}{Q:Unit->j8->Prop}
end
section
variable{X:Cx}{xw:List (j1×Obj)}{σ:St}{H H':Hp}{s s':j8}{B h'':Heap}{ea:j1}{cls:jA}{od:Option j1}{E:XK}
end
section
variable{prog:j6}{w:jB}{A:j2}{E:jA->j8->Prop}{h:Heap}{g:Array GenState}{d:Drawn}{t:Nat}{os:OsState}
variable{nm q:Str}{C N:j1}{bs bm bmB:List jA}{hdct:Bool}{sn:List Str}{sub:List jA}{ab:Bool}{col:Option Bool}{dd:Option j1}{k0 k1 k2 k3 k5:Option jA}{B newId initId:String}
end
section
variable{X:Cx}{C W:j1}{x:Str}{mc:jA}{p apos pos:Pos}{a1 a2:j3}{t:TA}
end
section
open PySem.W
variable{prog:j6}{w:jB}{A:j2}{s:j8}{K:xz}{x C:j1}{R:Result->j8->Prop}
end
section
variable{prog:j6}{w:jB}{A:j2}{E:jA->j8->Prop}{s:j8}{K:PySem.W.Frag}{e C t:j1}{name:Str}{v:jA}
end
section
variable{X:Cx}{C:j1}{f:Str}{o value:j3}{pos pos':Pos}{ta tv:TE}
end
section
variable{X:Cx}{j:Nat}{v s1 s2:Str}{k1 k2 p1 p2 pv pf pos}
end
section
variable{M:Model}{A:j2}{E:jA->j8->Prop}{env:Env}
variable{nm q:Str}{C N:j1}{bs bm:List jA}{hdct:Bool}{sn:List Str}{sub:List jA}{ab:Bool}{col:Option Bool}{dd:Option j1}{k0 k1 k2 k3 k5:Option jA}{newId:String}
end
section
variable{X:Cx}{C fI:j1}{f x:Str}{np cpos pos:Pos}{a:j3}{ta:TA}{E:XK}{k:Nat}{fd:j4}{v:Str}
end
section
variable{X:Cx}{xw:List (j1×Obj)}{σ:St}{H H':Hp}{s s':j8}{B h'':Heap}{ea:j1}{cls:jA}{od:Option j1}{E:XK}{fl:jA}
end
section
variable{M:Model}{A:j2}{E:jA->j8->Prop}{h:Heap}{g:Array GenState}{d:Drawn}{t:Nat}{os:OsState}
end
section
variable{X:Cx}{xw:List (j1×Obj)}{σ:St}{H:Hp}{s:j8}
end
section
variable{X:Cx}{xw:List (j1×Obj)}{σ:St}{H:Hp}{s:j8}{ea:j1}
end
section
variable{X:Cx}{f W:j1}{fn x n:Str}{fp cp ep np hp pos:Pos}{a:j3}{es:List j3}{ta:TA}{sp:Sp}{k i:Nat}{fd:j4}{ps:List Str}{b₀:j9}{suite:List j9}{th:TS}
end
section
variable{X:Cx}{E:XK}{C fI:j1}{c f v:Str}{np cpos pos:Pos}{a:j3}{t:DA}{k:Nat}{fd:j4}
end
section
variable{X:Cx}{E:XK}{f W:j1}{fn x n:Str}{fp cp ep np hp pos:Pos}{a:j3}{es:List j3}{t:DA}{F:List D->DH->R D}{k i:Nat}{fd:j4}{ps:List Str}{b₀:j9}{suite:List j9}{hb:DS}{ws:List Str}
end
section
variable{X:Cx}{E:XK}{x:Str}{p pos:Pos}{e:j3}{es:List j3}{tr:DA}
end
section
variable{X:Cx}{E:XK}{x:Str}{p pos:Pos}{e:j3}{es:List j3}{tr:DA}
end
section
variable{prog:j6}{w:jB}{A:j2}{E:jA->j8->Prop}{s:j8}{K:PySem.W.Frag}{x C:j1}{ox:Obj}{od:Option Obj}{name:Str}{tk:Tok}
end
section
variable{X:Cx}{E:XK}{xw:List (j1×Obj)}{σ:St}{H:Hp}{s:j8}
variable{e ce:j3}{ces:List j3}{t:DE}{tb:List (Str×Bool)}{cv:V}{cu:jA}{cvs:List V}{cus:List jA}{p pos tp:Pos}
variable{f:Str}{cs:List Str}
end
end _D
namespace _D
open PySem PySem.Spec PySem.W _L
open PyProof.Rows hiding St
section
variable{X:Cx}{E:XK}{c x n f v:Str}{e a:j3}{es:List j3}{t:DE}{tr:DA}{p q pos cpos np:Pos}{b:Bool}{F:List D->DH->R D}{k j:Nat}{ps:List Str}{st:j9}
end
end _D
namespace _D
open PySem PySem.Spec _L
open PyProof.Rows hiding St
section
variable{X:Cx}{E:XK}{xw:List (j1×Obj)}{σ:St}{s:j8}
end
end _D
namespace _D
open PySem PySem.W PySem.Spec _L
open PyProof.Rows hiding St
section
variable{X:Cx}{E:XK}{x:Str}{p pos:Pos}{e:j3}{es:List j3}{tr:DA}
end
section
variable{X:Cx}{E:XK}{n:Str}{e:j3}{es:List j3}{tr:DA}{p pos:Pos}{F:List D->DH->R D}{k j:Nat}{ps:List Str}{st:j9}{v:Int}
end
section
variable{X:Cx}{E:XK}{c x n f v:Str}{e a:j3}{es:List j3}{t:DE}{tr:DA}{p q pos cpos np:Pos}{b:Bool}{F:List D->DH->R D}{k j:Nat}{ps:List Str}{st:j9}
end
end _D
namespace _D
open PySem PySem.Spec _L
open PyProof.Rows hiding St
section
variable{X:Cx}{f:j1}{fn:Str}{fp cp ep pos:Pos}{a e:j3}{es:List j3}{t:DA}{te:DE}{F:List D->DH->R D}{k:Nat}{fd:j4}{ps:List Str}
end
section
variable{X:Cx}{W:j1}{x n:Str}{np hp pos:Pos}{i:Nat}{b₀:j9}{suite:List j9}{hb:DS}{ws ns:List Str}{hs:List ExceptHandler}{f:DHn}
end
section
variable{X:Cx}{W:j1}{x:Str}{np hp pos:Pos}{b₀:j9}{suite:List j9}{hb:DS}{ws ns:List Str}{hs:List ExceptHandler}{f:DHn}
end
end _D
namespace _D
open PySem PySem.Spec PySem.W _L
open PyProof.Rows hiding St
section
variable{X:Cx}{C:j1}{x:Str}{np cpos pos:Pos}{a:j3}{ta:TA}{E:XK}
end
section
variable{X:Cx}{E:XK}{c x n f v w:Str}{e a:j3}{es:List j3}{t:DE}{tr:DA}{p q pos cpos np fp cp ep hp:Pos}{b:Bool}{F:List D->DH->R D}{k j:Nat}{ps:List Str}{st:j9}
end
section
variable{X:Cx}{n y:Str}{e e2:j3}{es:List j3}{tr:DA}{tu:DE}{p pos kp:Pos}{F:List D->DH->R D}{k j:Nat}{ps:List Str}{st:j9}{v:Int}
end
section
variable{prog:j6}{w:jB}{A:j2}{E:jA->j8->Prop}{s:j8}
end
section
variable{X:Cx}{E:XK}
end
section
variable{X:Cx}{E:XK}
end
section
variable{X:Cx}{E:XK}
theorem Reps.eraseIdx{a:Wd}:∀{ds:List D}{vs:List V}(k:Nat),Reps a ds vs->Reps a (ds.eraseIdx k) (vs.eraseIdx k)
 |[],_,k,h=>by cases(show _=[]from h);exact rfl
 |d::ds,_,0,⟨v,r,rfl,_,h⟩=>h
 |d::ds,_,k+1,⟨v,r,rfl,hv,h⟩=>⟨v,_,rfl,hv,Reps.eraseIdx k h⟩
def Hn(o:D)(ds:List D)(G:DH):R D:=match o,ds with
 | .ref i,[.int j]=>match G[i]? with
  |some (.lst xs)=>if 0<=j/\j<1000000 then(match xs[j.toNat]? with
   |some d=>.ok d (G.set i (.lst (xs.eraseIdx j.toNat)))
   |none=>.bad)else .bad
  |_=>.bad
 |_,_=>.bad
theorem ZF6:MtM X "list.pop" (lRm X.K E Hn):=ZER.mono λx xs H Q h=>by
 obtain⟨a,G,d,ds,hk,rfl,s,rd,r,q⟩:=h;unfold Hn at q;split at q
 ·rename_i i j;obtain⟨v0,rfl,rv0⟩:=reps1 r
  cases(show v0=V.int j from rv0)
  split at q
  ·rename_i ys hy;split at q
   ·rename_i hj;split at q
    ·rename_i e he;obtain⟨vs,e1,r1⟩:=s.lst hy;obtain⟨x3,s3⟩:=T8 s rd.1 e1 (r1.eraseIdx j.toNat);obtain⟨v,ev,rv⟩:=r1.get he;have hl:=(zJ.mp ev).1;refine⟨a.m i,vs,j,j.toNat,v,rd.2,rfl,e1,by lia,by lia,?_,ev,q _ v x3 s3 (rv.mono x3)⟩;unfold seqIndex?;simp only[]
     split <;> simp <;> lia
    ·exact q.elim
   ·exact q.elim
  ·exact q.elim
 ·exact q.elim
def Hf(d:D)(ds:List D)(G:DH):R D:=match ds with
 | [.str k]=>match Di d G with
  |some xs=>match G9 xs with
   |some ns=>if k∈ns/\ns.length<=1000000 then .ok (.int (ns.idxOf k)) G else .bad
   |none=>.bad
  |none=>.bad
 |_=>.bad
theorem Vd{a:Wd}:∀{ns:List Str}{vs:List V},Reps a (ns.map D.str) vs->vs=ns.map V.str
 |[],vs,h=>h
 |n::ns,vs,h=>by
  obtain⟨v,r,e,h1,h2⟩:=h;rw[e,Vd h2]
  cases(show v=V.str n from h1)
  rfl
theorem V9:∀{ns:List Str}{us:List jA},Vals (ns.map V.str) us->us.length=ns.length/\∀(j:Nat)(u:jA),us[j]?=xk u->∃t,∃h:j<ns.length,u=.str ns[j] t
 |[],us,h=>by cases h;exact⟨rfl,λj u e=>by simp at e⟩
 | n::ns,us,h=>by
  cases h with
  | cons r rr=>
   obtain⟨h1,h2⟩:=V9 rr;obtain⟨t,rfl⟩:=r;refine⟨by simp[h1],λj u e=>?_⟩;cases j with
   |zero=>simp at e;exact⟨t,by simp,by simpa using e.symm⟩
   |succ j=>
    obtain⟨t',hj,e'⟩:=h2 j u (by simpa using e);exact⟨t',by simpa using hj,by simpa using e'⟩
theorem ZBS:MtM X "list.index" (lRm X.K E Hf):=by
 intro xw s σ H x xs v us Q I rx rxs h;obtain⟨a,G,d,ds,hk,rfl,sm,rd,rds,q⟩:=h;unfold Hf at q;split at q
 ·rename_i k;split at q
  ·rename_i ys hy;split at q
   ·rename_i ns hns;split at q
    ·rename_i hk';obtain⟨hmem,hlen⟩:=hk';obtain⟨p,vs,rfl,hq,rv⟩:=Kp sm rd hy;rw[Wl hns]at rv;rw[Vd rv,hk]at hq;cases rx;obtain⟨v1,rfl,rv1⟩:=reps1 rds
     cases(show v1=V.str k from rv1)
     obtain⟨u,rfl,ru⟩:=rxs.one;obtain⟨t,rfl⟩:=ru;obtain⟨its,rits,⟨o,n,ho,hc,hdi,hd⟩,hz⟩:=I.list hq;obtain⟨hl1,hl2⟩:=V9 rits;have hlt:ns.idxOf k<ns.length:=List.idxOf_lt_length_of_mem hmem;have hjs:ns.idxOf k<its.toArray.size:=by simpa[hl1]using hlt
     have hob:o={cls:=.type "list",dict:=o.dict,data:=.seq its.toArray n,slots:=o.slots}:=by
      obtain⟨c1,c2,c3,c4⟩:=o;simp only at hc hd;subst hc;subst hd
      rfl
     rw[hob]at ho
     refine call_meets PySem.F.slot_list_index ⟨_,ho,rfl⟩ PySem.F.entry_list_index (PySem.F.args_list_index_2 _ _) (SeqAt.list_indexAt p its.toArray n o.dict o.slots (.str k t) (λy=>match y with | .str i _=>i==k|_=>xA) (ns.idxOf k) hjs (by lia) ?_ ?_) ⟨ho,λy hy=>?_,?_⟩
     ·have hg:its[ns.idxOf k]?=xk its.toArray[ns.idxOf k]:=by simp[zQ (by simpa[hl1]using hlt:ns.idxOf k<its.length)]
      obtain⟨t',h3,e3⟩:=hl2 _ _ hg;rw[e3];simp
     ·intro m hm hlt2;have hml:m<its.length:=by simpa using hm
      have hg:its[m]?=xk its.toArray[m]:=by simp[zQ hml]
      obtain⟨t',h3,e3⟩:=hl2 _ _ hg;rw[e3];have:=List.not_of_lt_findIdx (p:=λx=>x==k) (xs:=ns) hlt2;simpa using this
     ·have hy2:y∈its:=by simpa using hy
      obtain⟨m,hm,e⟩:=List.getElem_of_mem hy2;obtain⟨t',h3,e3⟩:=hl2 m y (by rw[zQ hm,e]);rw[e3];exact SeqAt.EqAt.str_str _ _ _ _
     ·exact⟨.int (ns.idxOf k),a.H,I.tok _,⟨_,rfl⟩,q a _ (Ext.refl a) sm rfl⟩
    ·exact q.elim
   ·exact q.elim
  ·exact q.elim
 ·exact q.elim
end
end _D
namespace _D
open PySem PySem.Spec _L
open PyProof.Rows hiding St
noncomputable def tgN:j3->List Str
 |.Name x _=>[x]
 |.Tuple es _ _=>es.flatMap λe=>match e with
  |.Name x _=>[x]
  |_=>[]
 |_=>[]
def Ek(tg:j3)(caps:List Nat)(N:List Str):List Str:=tgN tg++caps.map λj=>N.getD j ""
section
variable{X:Cx}{scope:j7}{nt:Nat}{caps:List Nat}{tg elt iter:j3}{ifs:List j3}{pos:Pos}{it:DI}{g:DG}{c:DB}{te:DE}
theorem ZAY(hi:QI X E0 tg iter it)(hg:∀C s₀ H₀ ex,(Ek tg caps X.N).Nodup->QG (blk X (Ek tg caps X.N) scope C s₀ H₀ ex) E0 tg g)(gk:GK nt g)(hts:∀C s₀ H₀ ex,QTs (blk X (Ek tg caps X.N) scope C s₀ H₀ ex) E0 ifs c)
  (he:∀C s₀ H₀ ex,QE (blk X (Ek tg caps X.N) scope C s₀ H₀ ex) E0 elt te) (hc:X.calm=x0:=by rfl) (hk:scope.kind=.function:=by rfl) (hdn:∀x,X.env.kindOf x=X.env.scope.names.lookup x:=by intro _;rfl)
  (h:Mj X.env.scope.names X.N (Ek tg caps X.N) scope.names nt caps=x0:=by kernel_rfl) (hs:∀x,foldedSetIterable iter X.env x=pure x:=by intro _;rfl):QE X E0 (.ListComp elt [⟨tg,iter,ifs,0⟩] scope pos) (Bm it nt caps g c te):=
 have cs:=W9 hk hdn rfl h
 ZFT hc cs hi (λC s₀ H₀ ex=>hg C s₀ H₀ ex cs.nd) gk hts he hs
theorem ZDc(i:Nat){y:Str}{py spos:Pos}(hN:X.N.Nodup)(hi:QI X E0 tg iter it)(hg:∀C s₀ H₀ ex,(Ek tg caps X.N).Nodup->QG (blk X (Ek tg caps X.N) scope C s₀ H₀ ex) E0 tg g)(gk:GK nt g)(hts:∀C s₀ H₀ ex,QTs (blk X (Ek tg caps X.N) scope C s₀ H₀ ex) E0 ifs c)
  (he:∀C s₀ H₀ ex,QE (blk X (Ek tg caps X.N) scope C s₀ H₀ ex) E0 elt te) (hc:X.calm=x0:=by rfl) (hk:scope.kind=.function:=by rfl) (hdn:∀x,X.env.kindOf x=X.env.scope.names.lookup x:=by intro _;rfl)
  (h:Mj X.env.scope.names X.N (Ek tg caps X.N) scope.names nt caps=x0:=by kernel_rfl)
  (hy:X.N[i]?=xk y:=by rfl) (hx:Loc X.env.scope y:=by first|exact Or.inl rfl|exact Or.inr rfl) (hf:X.fn y=x0∨X.env.scope.names.lookup y=xk .local:=by first|exact .inl rfl|exact .inr rfl|assumption)
  (hsw:swapsWith (.ListComp elt [⟨tg,iter,ifs,0⟩] scope pos) (xk (.Name y py)) spos.line X.env=pure x0:=by rfl)
  (hs:∀x,foldedSetIterable iter X.env x=pure x:=by intro _;rfl):QS X E0 (.Assign [.Name y py] (.ListComp elt [⟨tg,iter,ifs,0⟩] scope pos) spos) (sAs (Bm it nt caps g c te) (gV i)):=
 have cs:=W9 hk hdn rfl h
 ZHF i hc hN cs hi (λC s₀ H₀ ex=>hg C s₀ H₀ ex cs.nd) gk hts he hy hx hf hsw hs
end
theorem bnd1{p:List jA->Prop}(h:∀a,p [a]):∀us:List jA,us.length=1->p us
 |[a],_=>h a
theorem bnd2{p:List jA->Prop}(h:∀a b,p [a,b]):∀us:List jA,us.length=2->p us
 |[a,b],_=>h a b
theorem bnd3{p:List jA->Prop}(h:∀a b c,p [a,b,c]):∀us:List jA,us.length=3->p us
 |[a,b,c],_=>h a b c
theorem bnd4{p:List jA->Prop}(h:∀a b c d,p [a,b,c,d]):∀us:List jA,us.length=4->p us
 |[a,b,c,d],_=>h a b c d
theorem bnd5{p:List jA->Prop}(h:∀a b c d e,p [a,b,c,d,e]):∀us:List jA,us.length=5->p us
 |[a,b,c,d,e],_=>h a b c d e
theorem bnd6{p:List jA->Prop}(h:∀a b c d e f,p [a,b,c,d,e,f]):∀us:List jA,us.length=6->p us
 |[a,b,c,d,e,f],_=>h a b c d e f
theorem fsc{N P:List Str}{sc:j7}(a:sc.kind=.function:=by rfl)(b:sc.isCoroutine=xA:=by rfl)(c:sc.isGenerator=xA:=by rfl)(d:N.Nodup:=by decide +kernel)(e:N.take P.length=P:=by rfl)
  (f:∀x∈P,sc.names.lookup x=xk .local∨sc.names.lookup x=xk .cell:=by decide +kernel) (g:∀y∈sc.names,y.2≠ .free:=by decide +kernel):FnScope N P sc:=⟨a,b,c,d,e,f,g⟩
end _D
namespace _D
open PySem PySem.W _L
theorem ZFO{X:Cx}{E:XK}{x:Str}{n:Int}{t:Tok}{pos:Pos}(hg:Gl X x)(hm:X.mg x=xk (.int n t))(hd:(x==("__debug__":Str))=xA:=by decide):QE X E (.Name x pos) (dC (.int n)):=
 ZBb (v:=.int n) hg hm ⟨_,rfl⟩ (λ_ _=>rfl) hd
section
open Lean
def wA(s:String):Syntax:=.atom .none s
def wL(l:List Syntax):Syntax:=.node .none `null l.toArray
def wN(k:String)(l:List Syntax):Syntax:=.node .none ("Lean.Parser."++k).toName l.toArray
def wX(l:List Syntax):Syntax:=wN "Tactic.tacticSeq" [wN "Tactic.tacticSeq1Indented" [wL l]]
def wP(l:List Syntax):Syntax:=wN "Tactic.paren" [wA "(",wX l,wA ")"]
def wI(s:String):Syntax:=(mkIdent s.toName).raw
def wH:Syntax:=wN "Term.syntheticHole" [wA "?",wA "_"]
def wU(l:List String):Syntax:=wN "Term.fun" [wA "fun",wN "Term.basicFun" [wL (l.map wI),wL [],wA "=>",wH]]
def wY(l:List Syntax):Syntax:=match l.reverse with
 |x::y::r=>wN "Term.app" [x,wL (y::r)]
 |[x]=>x
 |_=>.missing
def wT(s:String):Syntax:=wY ((((s.replace "(" "( ").replace ")" " )").splitOn " ").foldl (λst w=>match st with
 | a::r=>
  if w="" then st else if w="(" then[]::st else if w=")" then(match r with
   |b::q=>(wY a::b)::q
   |_=>st)
  else((if w="_" then wN "Term.hole" [wA w]else if w="?" then wH else if w="." then wN "Term.ellipsis" [wA ".."]
   else if w="L" then wU ["C","s","H","e","nd"]else if w="l" then wU ["C","s","H","e"]
   else if w="d" then wN "Term.byTactic" [wA "by",wX [wN "Tactic.decide" [wA "decide",wN "Tactic.optConfig" [wL []]]]]
   else if w.isNat then(Syntax.mkNumLit w).raw else wI w)::a)::r
 |_=>st) [[]]).head!
def wF(l:List Syntax):Syntax:=wN "Tactic.first" [wA "first",wL (l.map λx=>.node .none `group #[wA "|",wX [x]])]
def wJ(a b:Syntax):Syntax:=wN "Tactic.«tactic_<;>_»" [a,wA "<;>",b]
def wG(k:String)(t:Syntax)(r:Syntax):Syntax:=wP [wN "Tactic.guardTarget" [wA "guard_target",wN "equal" [wN k [wA "="]],t],wA ";",r]
def wV:Syntax:=wN "Tactic.tacticTrivial" [wA "trivial"]
def wB(s:String):Syntax:=
 let t:=wT (s.drop 1).toString;let f:=λk=>wN ("Tactic."++k) [wA k,t]
 let c:=s.front
 if c='@' then f "apply" else if c='!' then wN "Tactic.withReducible" [wA "with_reducible",wX [f "exact"]]
 else if c='=' then wP [wJ (f "refine") (wN "Tactic.tacticRfl" [wA "rfl"])]else if c='<' then wP [wJ (f "refine'") wV]else if c='.' then f "exact" else f "refine'"
def wC(s:String):Syntax:=wF ((s.splitOn ",").map wB)
def wR(s:String):Syntax:=wF ((s.splitOn "#").map λg=>match g.splitOn "|" with
 | h::r=>
  let b:=wF (r.map λa=>match a.splitOn ":" with
   |[a,x]=>wG "equalD" (wT (h++" "++a)) (wC x)
   |_=>wC a)
  if h.front='=' then wG "equalR" (wT (h.drop 1).toString) b else if h.front='*' then b else wG "equalD" (wT (h++" _ _")) (wJ (wP [b]) wV)
 |_=>.missing)
end
end _D
namespace _D
open PySem PySem.Spec _L
open PyProof.Rows hiding St
variable{a:Wd}{G:DH}
section
variable{M:Model}{A:j2}{E:jA->j8->Prop}{s:j8}{B:Heap}{env:Env}{outer:List Env}{L e:j1}{oe:Obj}{vs:Array jA}{head:jA}{hn:Bool}{Q:Unit->j8->Prop}
end
section
variable{X:Cx}{xw:List (j1×Obj)}{σ:St}{H H':Hp}{s s':j8}{B h'':Heap}{ea C:j1}{cls:jA}{od:Option j1}{E:XK}
end
section
variable{prog:j6}{w:jB}{A:j2}{R':Result->j8->Prop}{s:j8}
end
section
variable{X:Cx}{E:XK}{N:List Str}{scope:j7}{nt:Nat}{caps:List Nat}{tg elt iter:j3}{ifs:List j3}{pos:Pos}{it:DI}{g:DG}{c:DB}{te:DE}
end
def Hw:List D->Option (List Key)
 |[]=>xk []
 |d::r=>match keyD d,Hw r with
  |some k,xk ks=>xk (k::ks)
  |_,_=>xy
theorem T4:∀{ds:List D}{vs:List V}{ks:List Key},Reps a ds vs->Hw ds=xk ks->vs=ks.map kV
 |[],vs,ks,r,h=>by cases h;exact r
 |d::ds,vs,ks,r,h=>by
  obtain⟨v,w,rfl,r1,r2⟩:=r;unfold Hw at h;split at h
  ·rename_i k q h1 h2;cases h;rw[zK,ZDY r1 h1,T4 r2 h2]
  ·cases h
noncomputable def Il(d:D)(G:DH):Option (List (List Key×D)):=match d with
 |.ref i=>match G[i]? with
  |some (.dcT kvs)=>xk kvs
  |_=>xy
 |_=>xy
noncomputable def Kg:DE:=λ_ G=>.ok (.ref G.length) (G++[.dcT []])
def Kr(o:D)(ds:List D)(v:D)(G:DH):R D:=match o with
 | .ref p=>match G[p]? with
  |some (.dcT kvs)=>match Hw ds with
   |some k=>if ds.length<=1000000/\kvs.length<1000000 then .ok .non (G.set p (.dcT (putD kvs k v)))else .bad
   |none=>.bad
  |_=>.bad
 |_=>.bad
def Hs(to:DE)(tk:DA):DG:=λv S G=>(to S G).bind λo G1=>(tk S G1).bind λds G2=>(Kr o ds v G2).bind λ_ G3=>.ok S G3
def Ik(o:DE)(ks:DA)(x:DE):DE:=λS G=>(o S G).bind λo G1=>match Il o G1 with
 |some _=>(ks S G1).bind λds G2=>if ds.length<=1000000 then(x S G2).bind λx G3=>match Il o G3,Hw ds with
  |some kvs,xk q=>.ok ((Fj kvs q).getD x) G3
  |_,_=>.bad
  else .bad
 |none=>.bad
theorem Sim.dcT{d:D}{x:V}{kvs:List (List Key×D)}(s:Sim a G)(r:Rep a d x)(h:Il d G=xk kvs):∃i us,d=.ref i/\i<a.n/\x=.ref (a.m i)/\G[i]?=xk (.dcT kvs)/\a.H (a.m i)=xk (.dT us)/\RepKV a kvs us:=by
 cases d with
 |ref i=>
  unfold Il at h;dsimp only at h;split at h
  ·rename_i kvs' hg;cases h;obtain⟨us,e,q⟩:=s.obj i _ hg;exact⟨i,us,rfl,r.1,r.2,hg,e,q⟩
  ·cases h
 |_=>cases h
theorem Ext.wrT{p:j1}{us:List (List Key×V)}{ho:HO}(h:a.H p=xk (.dT us)):Ext a (a.put p ho):=
 ⟨rfl,zq _,λ_ _=>rfl,λq xs e=>by
  show upd a.H p ho q=_;rw[Ag (λz=>by subst z;rw[h]at e;cases e)];exact e,λq o u e=>by
  show upd a.H p ho q=_;rw[Ag (λz=>by subst z;rw[h]at e;cases e)];exact e,λ_ t=>t.mono (λq ps e=>by show upd a.H p ho q=_;rw[Ag (λz=>by subst z;rw[h]at e;cases e)];exact e) (λq o u e=>by show upd a.H p ho q=_;rw[Ag (λz=>by subst z;rw[h]at e;cases e)];exact e)⟩
theorem Sim.wrT(s:Sim a G){i:Nat}(hi:i<a.n){us us':List (List Key×V)}{kvs':List (List Key×D)}(h:a.H (a.m i)=xk (.dT us))(r:RepKV (a.put (a.m i) (.dT us')) kvs' us'):Sim (a.put (a.m i) (.dT us')) (G.set i (.dcT kvs')):=by
 refine⟨by rw[qN];exact s.len,s.inj,λj o e=>?_,λj hj=>?_⟩
 ·rw[qC]at e;show ORep _ o (upd a.H (a.m i) (.dT us') (a.m j));by_cases hij:i=j
  ·subst hij;rw[if_pos rfl,if_pos (by rw[s.len];exact hi)]at e;cases e;rw[Cp];exact⟨us',rfl,r⟩
  ·rw[if_neg hij]at e;rw[Ag λz=>hij (s.inj _ _ (s.lt e) hi z).symm];exact(s.obj j o e).mono (Ext.wrT h)
 ·show upd a.H (a.m i) (.dT us') (a.m j)≠xy;by_cases hij:a.m j=a.m i
  ·rw[hij,Cp];simp
  ·rw[Ag hij];exact s.tr j hj
theorem ZGT{E:XK}{r:R (List D)}{f:List D->DH->R DSt}{Q:St->Hp->Prop}(h:Bq E a (r.bind f) Q):
  Ck E a r (λvs H=>∃(b:Wd)(ds:List D)(G:DH),b.H=H/\Ext a b/\Sim b G/\Reps b ds vs/\r=.ok ds G/\Bq E b (f ds G) Q):=by
 cases r with
 |ok d G=>exact λb v x s q=>⟨b,d,G,rfl,x,s,q,rfl,Bq.mono x h⟩
 |err e G=>exact h
 |bad=>exact h
section
variable{X:Cx}{E:XK}
theorem ZF0{Q:VK}(s:Sim a G)(h:out E a (.ok (.ref G.length) (G++[.dcT []])) Q)(p:j1)(hp:a.H p=xy):Q (.ref p) (upd a.H p (.dT [])):=
 h (a.push p (.dT [])) (.ref p) (Ext.push hp) (s.push hp ⟨[],rfl,RepKV.nil⟩) ⟨by rw[s.len];exact qY _,by show V.ref p=V.ref (if G.length=a.n then p else _);rw[if_pos s.len]⟩
theorem ZDz{pos:Pos}:QE X E (.Dict [] [] pos) Kg:=ZGx.mono λσ H Q h=>by obtain⟨a,S,G,hk,rfl,s,r,h⟩:=h;exact λp hp=>ZF0 s h p hp
theorem Uj(hu:X.A.units+64<cLine){o:j3}{es:List j3}{x1:_}{to:DE}{tk:DA}{pos tpos:Pos}(ho:QE X E o to)(hi:QA X E es tk)
  (ha:∀v,assign (.Subscript o (.Tuple es x1 tpos) pos) X.env v=(do
   let ov<-holding [v] (eval o X.env);let iv<-holding [v,ov] (eval (.Tuple es x1 tpos) X.env)
   standAt pos
   holding [v,ov,iv] (setItem ov iv v)
   release [v,ov,iv] []):=by intro _;rfl):QG X E (.Subscript o (.Tuple es x1 tpos) pos) (Hs to tk):=(ZAR ho (Ov hi) (set_dict hu) ha).mono λv σ H Q h=>by
 obtain⟨a,S,G,d,hk,rfl,s,r,q,h⟩:=h;refine⟨a,S,G,hk,rfl,s,r,(Th h).imp ?_⟩;rintro ov _ ⟨b,e,G1,rfl,x,s1,q1,_,h1⟩;refine⟨b,S,G1,x.k.trans hk,rfl,s1,r.mono x,(ZGT h1).imp ?_⟩;rintro vs _ ⟨c,ds,G2,rfl,y,s2,q2,_,h2⟩;cases e with
 | ref i=>
  unfold Kr at h2;dsimp only at h2;split at h2
  ·rename_i kvs hx;split at h2
   ·rename_i k hkf;split at h2
    ·rename_i hl;refine⟨by rw[<-q2.length];exact zk hl.1 size6,λp hp=>?_⟩;have y2:Ext c (c.put p (.tup vs)):=Ext.put hp;have s2':Sim (c.put p (.tup vs)) G2:=s2.put hp;have hpt:(c.put p (.tup vs)).H p=xk (.tup vs):=Cp;rw[T4 q2 hkf]at*;obtain⟨us,e1,r1⟩:=s2'.obj i _ hx;have q1':=(q1.mono y).mono y2;have rv:=((q.mono x).mono y).mono y2;have x3:Ext (c.put p (.tup (k.map kV))) ((c.put p (.tup (k.map kV))).put ((c.put p (.tup (k.map kV))).m i) (.dT (putK us k v))):=Ext.wrT e1
     have s3:=s2'.wrT q1'.1 e1 (RepKV.put (k:=k) ⟨r1.1,r1.2.mono x3⟩ (rv.mono x3));exact⟨_,_,q1'.2,DPut.t e1 hpt (by rw[<-r1.len];exact zW hl.2 size6),h2 _ σ (y2.trans x3) s3 ((((r.mono x).mono y).mono y2).mono x3)⟩
    ·exact h2.elim
   ·exact h2.elim
  ·exact h2.elim
 |_=>exact h2.elim
theorem ZAS(hu:X.A.units+64<cLine){o f:j3}{es:List j3}{x1:_}{tpos apos cpos:Pos}{td tx:DE}{tk:DA}(ho:QE X E o td)(he:QA X E es tk)(hf:QE X E f tx)(m:M2 X o "get" apos (.Tuple es x1 tpos) f cpos):QE X E (.Call (.Attribute o "get" apos) [.Tuple es x1 tpos,f] [] cpos) (Ik td tk tx):=
 (ZBg (by lia) ho (Ov he) hf m).mono λσ H Q h=>by
 obtain⟨a,S,G,hk,rfl,s,r,h⟩:=h;refine⟨a,S,G,hk,rfl,s,r,(Dm h).imp ?_⟩;rintro ov _ ⟨b,d,G1,rfl,x,s1,q1,_,h1⟩;split at h1
 ·rename_i kvs0 hd0;obtain⟨i,us,rfl,il,rfl,hg,hh,r1⟩:=s1.dcT q1 hd0;refine⟨_,rfl,.inr ⟨us,.inl hh⟩,b,S,G1,x.k.trans hk,rfl,s1,r.mono x,(Jr h1).imp ?_⟩;rintro vs _ ⟨c,ds,G2,rfl,y,s2,q2,_,h2⟩;split at h2
  ·rename_i hl;refine⟨by rw[<-q2.length];exact zk hl size6,λp hp=>?_⟩;have y2:Ext c (c.put p (.tup vs)):=Ext.put hp;have s2':Sim (c.put p (.tup vs)) G2:=s2.put hp;have hpt:(c.put p (.tup vs)).H p=xk (.tup vs):=Cp;refine⟨c.put p (.tup vs),S,G2,y.k.trans (x.k.trans hk),rfl,s2',((r.mono x).mono y).mono y2,(Dm (out.mono y2 h2)).imp ?_⟩;rintro fv _ ⟨c3,dx,G3,rfl,y3,s3,q3,_,h3⟩;split at h3
   ·rename_i kvs k e1 e2;have q1':=((q1.mono y).mono y2).mono y3;obtain⟨i',us',ei,il',ex,hg',hh',r'⟩:=s3.dcT q1' e1;cases ei;have ev:=T4 q2 e2;have hp3:c3.H p=xk (.tup (k.map kV)):=by rw[<-ev];exact y3.tup p vs hpt
    have em:c3.m i=b.m i:=by
     have:=ex;injection this with z
     exact z.symm
    have g:=DGet.t (k:=k) (show c3.H (b.m i)=xk (.dT us') by rw[<-em];exact hh') hp3;rcases r'.val (k:=k)with⟨e3,e4⟩|⟨v,w,e3,e4,e5⟩
    ·rw[e4]at g;rw[e3]at h3;exact⟨xy,g,h3 c3 _ (Ext.refl _) s3 q3⟩
    ·rw[e4]at g;rw[e3]at h3;exact⟨xk w,g,h3 c3 _ (Ext.refl _) s3 e5⟩
   ·exact h3.elim
  ·exact h2.elim
 ·exact h1.elim
end
end _D
namespace _W
open PySem _L _D
noncomputable abbrev Za:List Str:=["_law_script","_law_k"]
noncomputable abbrev Tq:=Za.take 2
theorem ZDR:FnScope Za Tq (Am Qv):=fsc
noncomputable abbrev Xk:List Str:=["_law_house_here","_law_pages_here","_law_pays","_law_left","_law_total","_law_when","_law_k","_law_part","_law_row_here","_law_pay"]
noncomputable abbrev Tu:=Xk.take 4
theorem ZHC:FnScope Xk Tu (Am Ni):=fsc
noncomputable abbrev Va:List Str:=["_law_cell","_law_many","_law_way"]
noncomputable abbrev Ph:=Va.take 2
theorem ZG8:FnScope Va Ph (Am Qy):=fsc
noncomputable abbrev U7:List Str:=["_law_cell","_law_prime","_law_many"]
noncomputable abbrev Rx:=U7.take 3
theorem ZB7:FnScope U7 Rx (Am R3):=fsc
noncomputable abbrev Vj:List Str:=["_law_cell","_law_most","_law_scale","_law_steps","_law_height","_law_k","_law_many","_law_way"]
noncomputable abbrev Q0:=Vj.take 3
theorem ZG2:FnScope Vj Q0 (Am Q5):=fsc
noncomputable abbrev Xz:List Str:=["_law_cell","_law_most","_law_scale","_law_year","_law_seasons"]
noncomputable abbrev Ow:=Xz.take 4
theorem ZFh:FnScope Xz Ow (Am Q7):=fsc
noncomputable abbrev X5:List Str:=["_law_cells","_law_k","_law_names_here","_law_scale","_law_year","_law_many","_law_down_here","_law_head","_law_size","_law_kind","_law_pump","_law_most","_law_to_here"]
noncomputable abbrev Ss:=X5.take 5
theorem ZBi:FnScope X5 Ss (Am Qk):=fsc
noncomputable abbrev Wq:List Str:=["_law_pool","_law_many","_law_number"]
noncomputable abbrev O1:=Wq.take 2
theorem ZEK:FnScope Wq O1 (Am Tc):=fsc
noncomputable abbrev Zz:List Str:=["_law_pool","_law_most","_law_scale","_law_steps","_law_height","_law_k","_law_many","_law_way"]
noncomputable abbrev Oh:=Zz.take 3
theorem ZFM:FnScope Zz Oh (Am Qq):=fsc
noncomputable abbrev Xv:List Str:=["_law_pool","_law_k","_law_names_here","_law_scale","_law_year","_law_kind","_law_down_here","_law_head","_law_size","_law_pump","_law_most","_law_to_here","_law_rule_here"]
noncomputable abbrev U4:=Xv.take 5
theorem ZBC:FnScope Xv U4 (Am Sh):=fsc
noncomputable abbrev Xy:List Str:=["_law_pool","_law_many","_law_scale","_law_year","_law_names_here","_law_letters","_law_k","_law_letter","_law_name"]
noncomputable abbrev Q6:=Xy.take 3
theorem Yb:FnScope Xy Q6 (Am Tj):=fsc
noncomputable abbrev Xb:List Str:=["_law_script","_law_many","_law_scale","_law_names_here","_law_year","_law_places","_law_k","_law_cells"]
noncomputable abbrev Py:=Xb.take 3
theorem ZCz:FnScope Xb Py (Am Tr):=fsc
noncomputable abbrev Ub:List Str:=["_law_script","_law_first","_law_turns","_law_many","_law_top","_law_scale","_law_rows_here","_law_when","_law_row_here"]
noncomputable abbrev Mw:=Ub.take 6
theorem ZG7:FnScope Ub Mw (Am Mr):=fsc
noncomputable abbrev V7:List Str:=["_law_script","_law_house_here","_law_scale","_law_levels","_law_coming","_law_k","_law_cell","_law_level"]
noncomputable abbrev Ru:=V7.take 3
theorem ZBN:FnScope V7 Ru (Am O5):=fsc
noncomputable abbrev Zq:List Str:=["_law_script","_law_cell","_law_some","_law_many","_law_turns","_law_scale","_law_house_here","_law_dear","_law_pays","_law_left","_law_floods"]
noncomputable abbrev O3:=Zq.take 1
theorem ZGw:FnScope Zq O3 (Am Qc):=fsc
noncomputable abbrev Zn:List Str:=["_law_house_here","_law_place_here","_law_names_here"]
noncomputable abbrev Sy:=Zn.take 2
theorem ZGt:FnScope Zn Sy (Am Rp):=fsc
noncomputable abbrev Zj:List Str:=["_law_state_here","_law_due_here","_law_k","_law_j"]
noncomputable abbrev Qx:=Zj.take 1
theorem T6:FnScope Zj Qx (Am Pr):=fsc
noncomputable abbrev Y4:List Str:=["_law_cell","_law_here","_law_most"]
noncomputable abbrev U5:=Y4.take 3
theorem ZGM:FnScope Y4 U5 (Am Oc):=fsc
noncomputable abbrev Yj:List Str:=["_law_part","_law_lay","_law_came","_law_cell","_law_here","_law_took","_law_lies","_law_pumped"]
noncomputable abbrev P0:=Yj.take 4
theorem ZCt:FnScope Yj P0 (Am Q8):=fsc
noncomputable abbrev Y6:List Str:=["_law_due_here","_law_when","_law_place_here","_law_cubes"]
noncomputable abbrev Rv:=Y6.take 4
theorem Uz:FnScope Y6 Rv (Am U0):=fsc
noncomputable abbrev Vn:List Str:=["_law_house_here","_law_place_here","_law_names_here"]
noncomputable abbrev Ro:=Vn.take 2
theorem ZDZ:FnScope Vn Ro (Am Qo):=fsc
noncomputable abbrev W4:List Str:=["_law_house_here","_law_state_here","_law_floods","_law_cell","_law_due_here","_law_lay","_law_pages_here","_law_when","_law_page","_law_k","_law_part","_law_came","_law_row_here"]
noncomputable abbrev N8:=W4.take 4
theorem Rg:FnScope W4 N8 (Am Pa):=fsc
noncomputable abbrev Ym:List Str:=["_law_found"]
noncomputable abbrev Nx:=Ym.take 1
theorem ZDo:FnScope Ym Nx (Am Nr):=fsc
noncomputable abbrev Wu:List Str:=["house","page","pay","told","number","place"]
noncomputable abbrev Ol:=Wu.take 3
theorem ZEG:FnScope Wu Ol (Am Rk):=fsc
noncomputable abbrev Yo:List Str:=["house","pages","pays","left","basins","lying"]
noncomputable abbrev O8:=Yo.take 4
theorem ZAu:FnScope Yo O8 (Am Ry):=fsc
noncomputable abbrev Uv:List Str:=["_law_script","_law_house_here","_law_state_here","_law_floods","_law_pays","_law_left","_law_cell","_law_pages_here","_law_handed","_law_found"]
noncomputable abbrev R1:=Uv.take 1
theorem ZCc:FnScope Uv R1 (Am Dz):=fsc
def Uk:DS:=(Ad (sIf (Aj (dOp K1 (dV 1) (dFn Bf (Aa (dV 0) Ab)))) (sRt (dOp Ac (dV 0) (dV 1))) sNx) (sRt (dC (.int 0))))
def Bo:List D->DH->R D:=Bd 2 0 Uk
def Gp:DS:=(Ad (sAs (dOp Ac (dOp Ac (dV 0) (dC (.int 1))) (dV 6)) (gV 7)) (Ad (sAs (dOp Ac (dOp Ac (dV 1) (dV 5)) (dV 6)) (gV 8)) (Ad (sAs (dOp Ac (dOp Ac (dV 2) (dV 5)) (dV 6)) (gV 9)) (Ad (sIf (Aj (dOp Az (dOp Ac (dV 7) (dC (.int 0))) (dC (.str "town")))) (sAs (dOp Af (dV 4) (dOp Ai (dOp Ac (dV 8) (dC (.int 1))) (dV 9))) (gV 4)) sNx) (Ad (sIf (Aj (dOp Az (dOp Ac (dV 7) (dC (.int 0))) (dC (.str "mill")))) (sAs (dOp Af (dV 4) (dOp Ai (dFn Ep (Aa (dOp Ac (dV 7) (dC (.int 4))) (Aa (dOp Ac (dV 8) (dC (.int 3))) Ab))) (dV 9))) (gV 4)) sNx) (sIf (Aj (dOp Az (dOp Ac (dV 7) (dC (.int 0))) (dC (.str "basin")))) (Ad (sAs (dOp Ci (dV 4) (dOp Ai (dOp Ac (dV 8) (dC (.int 4))) (dV 9))) (gV 4)) (sIf (Aj (dOp Az (dOp Af (dV 5) (dC (.int 1))) (dFn Bf (Aa (dV 1) Ab)))) (sAs (dOp Af (dV 4) (dOp Ai (dOp Ac (dV 8) (dC (.int 5))) (dOp Ac (dV 3) (dV 6)))) (gV 4)) sNx)) sNx))))))
def Jy:DS:=(Bt (Ay rng1 (Aa (dFn Bf (Aa (dOp Ac (dV 0) (dC (.int 1))) Ab)) Ab)) (gV 6) Gp)
def Yl:DS:=(sRt (dV 4))
def Zd:DS:=(Ad (Bt (Ay rng1 (Aa (dFn Bf (Aa (dV 1) Ab)) Ab)) (gV 5) Jy) Yl)
def ZAJ:DS:=(Ad (sAs (dC (.int 0)) (gV 4)) Zd)
def Jg:List D->DH->R D:=Bd 4 6 ZAJ
def Kq:DE:=(dOp Af (dC (.str "sea")) (dOp Ac (dC (.str "fghijk")) (dV 0)))
def Kf:DE:=(Ah (dSl (dC (.str "aaaaaa")) (xk (dV 0)) xy))
def M6:DE:=(dOp Af (dOp Ac (dC (.str "fghijk")) (dV 0)) (dC (.str "lake")))
def Lh:DS:=(Ad (sAs (dOp Cj (dV 0) (dC (.int 3))) (gV 2)) (Ad (sIf (Aj (dOp Az (dV 2) (dC (.int 0)))) (sRt (Bm (Ay rng1 (Aa (dV 1) Ab)) 1 [] (gV 0) Aw Kq)) sNx) (Ad (sIf (Aj (dOp Az (dV 2) (dC (.int 1)))) (sRt (Bm (Ay rng1 (Aa (dV 1) Ab)) 1 [] (gV 0) Aw Kf)) sNx) (sRt (Bm (Ay rng1 (Aa (dV 1) Ab)) 1 [] (gV 0) Aw M6)))))
def Ff:List D->DH->R D:=Bd 2 1 Lh
def Z6:DS:=(sRt (dOp Cj (dOp Cj (dOp Ai (dV 0) (dC (.int 48271))) (dV 1)) (dV 2)))
def Bk:List D->DH->R D:=Bd 3 0 Z6
def Hv:DS:=(Ad (sAs (dOp Ai (dOp Af (dC (.int 1)) (dFn Bk (Aa (dOp Af (dV 0) (dV 5)) (Aa (dC (.int 10243)) (Aa (dC (.int 4)) Ab))))) (dV 2)) (gV 6)) (Ad (sAs (dC (.str "river")) (gV 7)) (Ad (sIf (Ej (Aj (dOp Ef (dV 1) (dC (.int 0)))) (Aj (dOp Az (dFn Bk (Aa (dOp Af (dV 0) (dV 5)) (Aa (dC (.int 10247)) (Aa (dC (.int 2)) Ab)))) (dC (.int 0))))) (Ad (sAs (dC (.str "pump")) (gV 7)) (Ad (sAs (dFn Ep (Aa (dV 6) (Aa (dV 1) Ab))) (gV 6)) (sAs (dOp Ci (dV 1) (dV 6)) (gV 1)))) sNx) (Ad (sEx (Cd Cz (dV 3) (Aa (dFn Al (Aa (dV 4) (Aa (dV 6) (Aa (dV 7) Ab)))) Ab))) (sAs (dOp Af (dOp Af (dV 4) (dV 6)) (dOp Ai (dFn Bk (Aa (dOp Af (dV 0) (dV 5)) (Aa (dC (.int 10253)) (Aa (dC (.int 3)) Ab)))) (dV 2))) (gV 4))))))
def Vc:DS:=(Ad (sAs (Cm (dFn Ae Ab)) (gV 3)) (Ad (sAs (dOp Ai (dFn Bk (Aa (dV 0) (Aa (dC (.int 10211)) (Aa (dC (.int 4)) Ab)))) (dV 2)) (gV 4)) (Ad (Bt (Ay rng1 (Aa (dFn Bk (Aa (dV 0) (Aa (dC (.int 10223)) (Aa (dC (.int 4)) Ab)))) Ab)) (gV 5) Hv) (sRt (dFn Br (Aa (dV 3) Ab))))))
def Jv:List D->DH->R D:=Bd 3 5 Vc
def Nh:DS:=(Ad (sAs (Cm (dFn Ae (Aa (dFn Al (Aa (dC (.int 0)) (Aa (dFn Jv (Aa (dV 0) (Aa (dV 1) (Aa (dV 2) Ab)))) Ab))) Ab))) (gV 4)) (Ad (sIf (Aj (dOp Ef (dV 3) (dC (.int 1)))) (sEx (Cd Cz (dV 4) (Aa (dFn Al (Aa (dOp Ci (dV 3) (dC (.int 1))) (Aa (dFn Jv (Aa (dOp Af (dOp Cu (dV 0) (dC (.int 3))) (dC (.int 1))) (Aa (dV 1) (Aa (dV 2) Ab)))) Ab))) Ab))) sNx) (sRt (dFn Br (Aa (dV 4) Ab)))))
def Ju:List D->DH->R D:=Bd 4 1 Nh
def R4:DS:=(sRt (dOp Af (dOp Af (dFn Al (Aa (dC (.str "basin")) Ab)) (dV 7)) (dFn Al (Aa (dV 8) (Aa (dFn Ju (Aa (dOp Ac (dV 0) (dC (.int 2))) (Aa (dV 11) (Aa (dV 3) (Aa (dV 4) Ab))))) (Aa (dV 10) Ab))))))
def Pq:DS:=(Ad (sIf (Ej (Aj (dOp Ef (dV 5) (dC (.int 1)))) (Aj (dOp Az (dFn Bk (Aa (dOp Ac (dV 0) (dC (.int 2))) (Aa (dC (.int 10067)) (Aa (dC (.int 2)) Ab)))) (dC (.int 0))))) (Ad (sAs (dOp Ac (dV 2) (dOp Cj (dOp Af (dOp Af (dV 1) (dC (.int 1))) (dFn Bk (Aa (dOp Ac (dV 0) (dC (.int 2))) (Aa (dC (.int 10069)) (Aa (dOp Ci (dV 5) (dC (.int 1))) Ab))))) (dV 5))) (gV 12)) (Ad (sAs (dOp Ai (dFn Bk (Aa (dOp Ac (dV 0) (dC (.int 2))) (Aa (dC (.int 10079)) (Aa (dC (.int 6)) Ab)))) (dV 3)) (gV 11)) (sAs (dFn Al (Aa (dV 12) (Aa (dOp Ac (Ah (dFn Ae (Aa (dC (.int 1)) (Aa (dC (.int 1)) (Aa (dC (.int 2)) (Aa (dC (.int 3)) (Aa (dC (.int 4)) (Aa (dC (.int 5)) Ab)))))))) (dFn Bk (Aa (dOp Ac (dV 0) (dC (.int 2))) (Aa (dC (.int 10091)) (Aa (dC (.int 6)) Ab))))) (Aa (dV 11) Ab)))) (gV 10)))) sNx) R4)
def Te:DS:=(Ad (sAs (dC (.int 0)) (gV 11)) Pq)
def Rz:DS:=(Ad (sAs (dC .non) (gV 10)) Te)
def Lg:DS:=(Ad (sIf (Aj (dOp Az (dV 9) (dC (.int 4)))) (sRt (dOp Af (dOp Af (dFn Al (Aa (dC (.str "mill")) Ab)) (dV 7)) (dFn Al (Aa (dV 8) Ab)))) sNx) Rz)
def Hd:DS:=(Ad (sIf (dOr (Aj (dOp Az (dV 9) (dC (.int 2)))) (Aj (dOp Az (dV 9) (dC (.int 3))))) (sRt (dOp Af (dOp Af (dFn Al (Aa (dC (.str "town")) Ab)) (dV 7)) (dFn Al (Aa (dV 8) (Aa (dFn Bk (Aa (dOp Ac (dV 0) (dC (.int 1))) (Aa (dC (.int 10061)) (Aa (dC (.int 3)) Ab)))) Ab))))) sNx) Lg)
def Us:DS:=(Ad (sAs (dFn Bk (Aa (dOp Ac (dV 0) (dC (.int 0))) (Aa (dC (.int 10039)) (Aa (dC (.int 5)) Ab)))) (gV 9)) Hd)
def Uo:DS:=(Ad (sAs (dOp Ai (dFn Bk (Aa (dOp Ac (dV 0) (dC (.int 1))) (Aa (dC (.int 10037)) (Aa (dC (.int 8)) Ab)))) (dV 3)) (gV 8)) Us)
def Yx:DS:=(Ad (sAs (dFn Al (Aa (dOp Ac (dV 2) (dV 1)) (Aa (dV 6) (Aa (dOp Ac (Ah (dFn Ae (Aa (dC (.int 0)) (Aa (dC (.int 0)) (Aa (dC (.int 0)) (Aa (dC (.int 1)) (Aa (dC (.int 1)) (Aa (dC (.int 2)) (Aa (dC (.int 3)) (Aa (dC (.int 4)) (Aa (dC (.int 5)) Ab))))))))))) (dFn Bk (Aa (dOp Ac (dV 0) (dC (.int 0))) (Aa (dC (.int 10009)) (Aa (dC (.int 9)) Ab))))) Ab)))) (gV 7)) Uo)
def Rr:DS:=(Ad (sAs (dOp Ac (Ah (dOp Af (dV 2) (Ah (dFn Ae (Aa (dC (.str "sea")) Ab))))) (dOp Af (dOp Af (dV 1) (dC (.int 1))) (dFn Bk (Aa (dOp Ac (dV 0) (dC (.int 0))) (Aa (dC (.int 10007)) (Aa (dOp Ci (dV 5) (dV 1)) Ab)))))) (gV 6)) Yx)
def K9:DS:=(Ad (sAs (dFn Bf (Aa (dV 2) Ab)) (gV 5)) Rr)
def Fd:List D->DH->R D:=Bd 5 8 K9
def Z4:DS:=(Ad (sAs (dOp Ac (dV 0) (dC (.int 0))) (gV 2)) (Ad (sAs (dOp Cu (dV 2) (dV 1)) (gIx (dV 0) (dC (.int 0)))) (sRt (dOp Cj (dV 2) (dV 1)))))
def Bh:List D->DH->R D:=Bd 2 1 Z4
def Ie:DS:=(Ad (sAs (dOp Ai (dOp Af (dC (.int 1)) (dFn Bh (Aa (dV 0) (Aa (dC (.int 4)) Ab)))) (dV 2)) (gV 6)) (Ad (sAs (dC (.str "river")) (gV 7)) (Ad (sIf (Ej (Aj (dOp Az (dFn Bh (Aa (dV 0) (Aa (dC (.int 2)) Ab))) (dC (.int 1)))) (Aj (dOp Ef (dV 1) (dC (.int 0))))) (Ad (sAs (dC (.str "pump")) (gV 7)) (Ad (sAs (dFn Ep (Aa (dV 6) (Aa (dV 1) Ab))) (gV 6)) (sAs (dOp Ci (dV 1) (dV 6)) (gV 1)))) sNx) (Ad (sEx (Cd Cz (dV 3) (Aa (dFn Al (Aa (dV 4) (Aa (dV 6) (Aa (dV 7) Ab)))) Ab))) (sAs (dOp Af (dOp Af (dV 4) (dV 6)) (dOp Ai (dFn Bh (Aa (dV 0) (Aa (dC (.int 3)) Ab))) (dV 2))) (gV 4))))))
def Wc:DS:=(Ad (sAs (Cm (dFn Ae Ab)) (gV 3)) (Ad (sAs (dOp Ai (dFn Bh (Aa (dV 0) (Aa (dC (.int 4)) Ab))) (dV 2)) (gV 4)) (Ad (Bt (Ay rng1 (Aa (dFn Bh (Aa (dV 0) (Aa (dC (.int 4)) Ab))) Ab)) (gV 5) Ie) (sRt (dFn Br (Aa (dV 3) Ab))))))
def G6:List D->DH->R D:=Bd 3 5 Wc
def S9:DS:=(sRt (dOp Af (dV 7) (dFn Al (Aa (dV 8) (Aa (dFn Br (Aa (dV 12) Ab)) (Aa (dV 9) Ab))))))
def Sw:DS:=(Ad (sIf (Ej (Aj (dOp Az (dFn Bh (Aa (dV 0) (Aa (dC (.int 2)) Ab))) (dC (.int 1)))) (Aj (dOp Ef (dV 4) (dC (.int 1))))) (sEx (Cd Cz (dV 12) (Aa (dFn Al (Aa (dOp Af (dC (.int 1)) (dFn Bh (Aa (dV 0) (Aa (dOp Ci (dV 4) (dC (.int 1))) Ab)))) (Aa (dFn G6 (Aa (dV 0) (Aa (dV 10) (Aa (dV 3) Ab)))) Ab))) Ab))) sNx) S9)
def Lf:DS:=(Ad (sAs (Cm (dFn Ae (Aa (dFn Al (Aa (dC (.int 0)) (Aa (dFn G6 (Aa (dV 0) (Aa (dV 10) (Aa (dV 3) Ab)))) Ab))) Ab))) (gV 12)) Sw)
def Oz:DS:=(Ad (sIf (Ej (Aj (dOp Az (dFn Bh (Aa (dV 0) (Aa (dC (.int 2)) Ab))) (dC (.int 1)))) (Aj (dOp Ef (dFn Bf (Aa (dV 2) Ab)) (dC (.int 1))))) (Ad (sAs (dOp Ac (dV 2) (dOp Cj (dOp Af (dOp Af (dV 1) (dC (.int 1))) (dFn Bh (Aa (dV 0) (Aa (dOp Ci (dFn Bf (Aa (dV 2) Ab)) (dC (.int 1))) Ab)))) (dFn Bf (Aa (dV 2) Ab)))) (gV 11)) (Ad (sAs (dOp Ai (dFn Bh (Aa (dV 0) (Aa (dC (.int 6)) Ab))) (dV 3)) (gV 10)) (sAs (dFn Al (Aa (dV 11) (Aa (dOp Af (dC (.int 1)) (dFn Bh (Aa (dV 0) (Aa (dC (.int 5)) Ab)))) (Aa (dV 10) Ab)))) (gV 9)))) sNx) Lf)
def Qf:DS:=(Ad (sAs (dC (.int 0)) (gV 10)) Oz)
def Nz:DS:=(Ad (sAs (dC .non) (gV 9)) Qf)
def Ky:DS:=(Ad (sIf (Aj (dOp Az (dV 5) (dC (.str "mill")))) (sRt (dOp Af (dV 7) (dFn Al (Aa (dV 8) Ab)))) sNx) Nz)
def H8:DS:=(Ad (sIf (Aj (dOp Az (dV 5) (dC (.str "town")))) (sRt (dOp Af (dV 7) (dFn Al (Aa (dV 8) (Aa (dFn Bh (Aa (dV 0) (Aa (dC (.int 3)) Ab))) Ab))))) sNx) Ky)
def Vf:DS:=(Ad (sAs (dOp Ai (dFn Bh (Aa (dV 0) (Aa (dC (.int 8)) Ab))) (dV 3)) (gV 8)) H8)
def Ug:DS:=(Ad (sAs (dFn Al (Aa (dV 5) (Aa (dOp Ac (dV 2) (dV 1)) (Aa (dV 6) (Aa (dFn Bh (Aa (dV 0) (Aa (dC (.int 6)) Ab))) Ab))))) (gV 7)) Vf)
def Y9:DS:=(Ad (sAs (dOp Ac (Ah (dOp Af (dV 2) (Ah (dFn Ae (Aa (dC (.str "sea")) Ab))))) (dOp Af (dOp Af (dV 1) (dC (.int 1))) (dFn Bh (Aa (dV 0) (Aa (dOp Ci (dFn Bf (Aa (dV 2) Ab)) (dV 1)) Ab))))) (gV 6)) Ug)
def Lz:DS:=(Ad (sAs (dOp Ac (Ah (dFn Ae (Aa (dC (.str "basin")) (Aa (dC (.str "basin")) (Aa (dC (.str "town")) (Aa (dC (.str "mill")) Ab)))))) (dFn Bh (Aa (dV 0) (Aa (dC (.int 4)) Ab)))) (gV 5)) Y9)
def Gf:List D->DH->R D:=Bd 5 8 Lz
def Em:DS:=(Ad (sAs (Cd Hn (dV 5) (Aa (dFn Bh (Aa (dV 0) (Aa (dFn Bf (Aa (dV 5) Ab)) Ab))) Ab)) (gV 7)) (Ad (sAs (dOp Af (dOp Ac (Ah (dFn Ae (Aa (dC (.str "")) (Aa (dC (.str "none")) (Aa (dC (.str "sea")) Ab))))) (dFn Bh (Aa (dV 0) (Aa (dC (.int 3)) Ab)))) (dOp Ai (dV 7) (dOp Af (dC (.int 1)) (dFn Bh (Aa (dV 0) (Aa (dC (.int 3)) Ab)))))) (gV 8)) (Ad (sIf (Ej (Aj (dOp Az (Ah (dSl (dV 8) xy (xk (dC (.int 4))))) (dC (.str "none")))) (Ej (Aj (dOp Ib (dC (.str "none")) (dV 4))) (Aj (dOp Az (dFn Bh (Aa (dV 0) (Aa (dC (.int 2)) Ab))) (dC (.int 1)))))) (sAs (dC (.str "none")) (gV 8)) sNx) (sEx (Cd Cz (dV 4) (Aa (dV 8) Ab))))))
def Jc:DE:=(Ah (dFn Gf (Aa (dV 1) (Aa (dV 0) (Aa (dV 4) (Aa (dV 2) (Aa (dV 3) Ab)))))))
def V6:DS:=(sRt (dFn Al (Aa (dV 3) (Aa (dFn Br (Aa (Ah (Bm (Ay rng1 (Aa (dV 1) Ab)) 1 [0,2,3,4] (gV 0) Aw Jc)) Ab)) Ab))))
def Wi:DS:=(Ad (Bt (Ay rng1 (Aa (dV 1) Ab)) (gV 6) Em) V6)
def Wj:DS:=(Ad (sAs (Cm (dFn Eb (Aa (dC (.str "abcdefghijklmnopqrstuvwxyz")) Ab))) (gV 5)) Wi)
def Xh:DS:=(Ad (sAs (Cm (dFn Ae Ab)) (gV 4)) Wj)
def W0:DS:=(Ad (sAs (dOp Af (dC (.int 1)) (dFn Bh (Aa (dV 0) (Aa (dC (.int 3)) Ab)))) (gV 3)) Xh)
def K7:List D->DH->R D:=Bd 3 6 W0
def Ls:DE:=(dFn Bo (Aa (dV 1) (Aa (dOp Af (dOp Af (dC (.int 4)) (dOp Ai (dC (.int 3)) (dV 2))) (dV 0)) Ab)))
def Jq:DS:=(Ad (sAs (Ah (Bm (Ay rng1 (Aa (dC (.int 3)) Ab)) 1 [0,6] (gV 0) Aw Ls)) (gV 7)) (sEx (Cd Cz (dV 5) (Aa (Ah (dFn Fd (Aa (dV 7) (Aa (dV 6) (Aa (dV 3) (Aa (dV 2) (Aa (dV 4) Ab))))))) Ab))))
def Uy:DS:=(sRt (dFn Al (Aa (dV 4) (Aa (dFn Br (Aa (dV 5) Ab)) Ab))))
def Xm:DS:=(Ad (Bt (Ay rng1 (Aa (dV 1) Ab)) (gV 6) Jq) Uy)
def Xw:DS:=(Ad (sAs (Cm (dFn Ae Ab)) (gV 5)) Xm)
def Yy:DS:=(Ad (sAs (dOp Af (dC (.int 1)) (dOp Cj (dOp Cu (dFn Bo (Aa (dV 0) (Aa (dC (.int 1)) Ab))) (dC (.int 3))) (dC (.int 3)))) (gV 4)) Xw)
def My:DS:=(Ad (sAs (Ah (dFn Ff (Aa (dFn Bo (Aa (dV 0) (Aa (dC (.int 1)) Ab))) (Aa (dV 1) Ab)))) (gV 3)) Yy)
def Tz:DS:=(Ad (sIf (Gk (Aj (Jp Kz K1 (dC (.int 0)) (dFn Bo (Aa (dV 0) (Aa (dC (.int 4)) Ab))) (dOp Gm (dC (.int 10)) (dC (.int 18)))))) (sRt (dFn K7 (Aa (Cm (dFn Ae (Aa (dFn Bo (Aa (dV 0) (Aa (dC (.int 4)) Ab))) Ab))) (Aa (dV 1) (Aa (dV 2) Ab))))) sNx) My)
def J6:List D->DH->R D:=Bd 3 5 Tz
def Jf:DE:=(dOp Ai (dFn Bk (Aa (dFn Bo (Aa (dV 1) (Aa (dOp Af (dOp Af (dV 2) (dOp Ai (dV 6) (dV 3))) (dV 0)) Ab))) (Aa (dC (.int 10103)) (Aa (dV 4) Ab)))) (dV 5))
def Jm:DS:=(Ad (sAs (Ah (Bm (Ay rng1 (Aa (dV 3) Ab)) 1 [0,1,3,4,5,7] (gV 0) Aw Jf)) (gV 8)) (sEx (Cd Cz (dV 6) (Aa (dFn Br (Aa (dV 8) Ab)) Ab))))
def Ye:DS:=(Ad (sAs (Cm (dFn Ae Ab)) (gV 6)) (Ad (Bt (Ay rng1 (Aa (dV 2) Ab)) (gV 7) Jm) (sRt (dV 6))))
def Hy:List D->DH->R D:=Bd 6 3 Ye
def J0:DE:=(dOp Ai (dOp Cu (dFn Bk (Aa (dOp Af (dV 2) (dV 0)) (Aa (dC (.int 10099)) (Aa (dC (.int 4)) Ab)))) (dC (.int 2))) (dV 1))
def H9:DS:=(Ad (sAs (dFn Bo (Aa (dV 0) (Aa (dOp Af (dC (.int 19)) (dV 5)) Ab))) (gV 6)) (Ad (sAs (dC (.int 0)) (gV 7)) (Ad (sIf (Aj (dOp Az (dOp Ac (dOp Ac (dOp Ac (dV 1) (dC (.int 1))) (dV 5)) (dC (.int 0))) (dC (.str "basin")))) (Ad (sAs (dOp Ai (dFn Bk (Aa (dV 6) (Aa (dC (.int 10093)) (Aa (dC (.int 9)) Ab)))) (dV 2)) (gV 7)) (sIf (Aj (dOp Ef (dV 7) (dOp Ac (dOp Ac (dOp Ac (dV 1) (dC (.int 1))) (dV 5)) (dC (.int 4))))) (sAs (dOp Ac (dOp Ac (dOp Ac (dV 1) (dC (.int 1))) (dV 5)) (dC (.int 4))) (gV 7)) sNx)) sNx) (Ad (sEx (Cd Cz (dV 3) (Aa (dV 7) Ab))) (sEx (Cd Cz (dV 4) (Aa (dFn Br (Aa (Ah (Bm (Ay rng1 (Aa (dC (.int 5)) Ab)) 1 [2,6] (gV 0) Aw J0)) Ab)) Ab)))))))
def Wt:DS:=(Ad (sAs (Cm (dFn Ae Ab)) (gV 3)) (Ad (sAs (Cm (dFn Ae Ab)) (gV 4)) (Ad (Bt (Ay rng1 (Aa (dFn Bf (Aa (dOp Ac (dV 1) (dC (.int 1))) Ab)) Ab)) (gV 5) H9) (sRt (dFn Al (Aa (dFn Br (Aa (dV 3) Ab)) (Aa (dFn Br (Aa (dV 4) Ab)) Ab)))))))
def M9:List D->DH->R D:=Bd 3 5 Wt
def Jx:DE:=(dOp Ai (dFn Bk (Aa (dFn Bo (Aa (dV 1) (Aa (dOp Af (dC (.int 54)) (dV 0)) Ab))) (Aa (dC (.int 10111)) (Aa (dC (.int 7)) Ab)))) (dV 2))
def Gq:DE:=(dIf (Aj (dOp Az (dOp Cj (dV 0) (dC (.int 7))) (dOp Cj (dV 1) (dC (.int 7))))) (dOp Ac (dV 2) (dV 0)) (dFn Al (Aa (dC (.int 0)) Ab)))
def Nj:DS:=(sRt (dFn Al (Aa (dV 6) (Aa (dFn M9 (Aa (dV 0) (Aa (dV 6) (Aa (dV 5) Ab)))) (Aa (dV 10) (Aa (dV 8) (Aa (dFn Br (Aa (dV 9) Ab)) Ab)))))))
def Nm:DS:=(Ad (sIf (Aj (dOp Ef (dV 4) (dC (.int 7)))) (sAs (Ah (Bm (Ay rng1 (Aa (dV 4) Ab)) 1 [1,10] (gV 0) Aw Gq)) (gV 10)) sNx) Nj)
def S7:DS:=(Ad (sAs (Ah (dFn Hy (Aa (dV 0) (Aa (dC (.int 24)) (Aa (dV 4) (Aa (dV 3) (Aa (dC (.int 6)) (Aa (dV 5) Ab)))))))) (gV 10)) Nm)
def N5:DS:=(Ad (sAs (Ah (Bm (Ay rng1 (Aa (dV 3) Ab)) 1 [0,7] (gV 0) Aw Jx)) (gV 9)) S7)
def Td:DS:=(Ad (sAs (Ah (dFn Hy (Aa (dV 0) (Aa (dC (.int 39)) (Aa (dV 4) (Aa (dV 3) (Aa (dC (.int 10)) (Aa (dV 7) Ab)))))))) (gV 8)) N5)
def Pn:DS:=(Ad (sAs (dOp Ac (Ah (dFn Ae (Aa (dC (.int 1)) (Aa (dC (.int 1)) (Aa (dC (.int 100)) Ab))))) (dOp Cj (dOp Cu (dV 1) (dC (.int 60))) (dC (.int 3)))) (gV 7)) Td)
def Q3:DS:=(Ad (sAs (dFn J6 (Aa (dV 0) (Aa (dV 3) (Aa (dV 5) Ab)))) (gV 6)) Pn)
def Ou:DS:=(Ad (sAs (dOp Ac (Ah (dFn Ae (Aa (dC (.int 1)) (Aa (dC (.int 1)) (Aa (dOp Af (dOp Gm (dC (.int 10)) (dC (.int 9))) (dC (.int 7))) (Aa (dOp Gm (dC (.int 10)) (dC (.int 30))) Ab)))))) (dOp Cj (dOp Cu (dV 1) (dC (.int 15))) (dC (.int 4)))) (gV 5)) Q3)
def Od:DS:=(Ad (sAs (dOp Ac (dV 2) (dFn Bk (Aa (dV 1) (Aa (dC (.int 10273)) (Aa (dC (.int 16)) Ab))))) (Cq 2 (Bg (gV 3) (Bg (gV 4) Dn)))) Ou)
def R8:DS:=(Ad (sAs (Ah (dOp Af (dV 2) (Ah (dFn Ae (Aa (dFn Al (Aa (dC (.int 1)) (Aa (dC (.int 2)) Ab))) (Aa (dFn Al (Aa (dC (.int 2)) (Aa (dC (.int 7)) Ab))) (Aa (dFn Al (Aa (dC (.int 1)) (Aa (dC (.int 20)) Ab))) Ab))))))) (gV 2)) Od)
def O7:DS:=(Ad (sAs (Ah (dFn Ae (Aa (dFn Al (Aa (dC (.int 3)) (Aa (dC (.int 2)) Ab))) (Aa (dFn Al (Aa (dC (.int 2)) (Aa (dC (.int 3)) Ab))) (Aa (dFn Al (Aa (dC (.int 3)) (Aa (dC (.int 3)) Ab))) (Aa (dFn Al (Aa (dC (.int 4)) (Aa (dC (.int 2)) Ab))) (Aa (dFn Al (Aa (dC (.int 5)) (Aa (dC (.int 1)) Ab))) (Aa (dFn Al (Aa (dC (.int 2)) (Aa (dC (.int 5)) Ab))) (Aa (dFn Al (Aa (dC (.int 1)) (Aa (dC (.int 7)) Ab))) (Aa (dFn Al (Aa (dC (.int 2)) (Aa (dC (.int 2)) Ab))) (Aa (dFn Al (Aa (dC (.int 3)) (Aa (dC (.int 2)) Ab))) (Aa (dFn Al (Aa (dC (.int 2)) (Aa (dC (.int 4)) Ab))) (Aa (dFn Al (Aa (dC (.int 1)) (Aa (dC (.int 4)) Ab))) (Aa (dFn Al (Aa (dC (.int 3)) (Aa (dC (.int 1)) Ab))) (Aa (dFn Al (Aa (dC (.int 5)) (Aa (dC (.int 2)) Ab))) Ab))))))))))))))) (gV 2)) R8)
def Mx:DS:=(Ad (sAs (dFn Bo (Aa (dV 0) (Aa (dC (.int 0)) Ab))) (gV 1)) O7)
def Jd:List D->DH->R D:=Bd 1 10 Mx
def Lq:DE:=(dOp Ac (dV 0) (dC (.int 1)))
def Rb:DS:=(Ad (sAs (Ah (Bm (Hb (dOp Ac (dV 0) (dC (.int 1)))) 1 [] (gV 0) Aw Lq)) (gV 2)) (Ad (sIf (Aj (dOp Az (dOp Ac (dOp Ac (dOp Ac (dV 0) (dC (.int 1))) (dV 1)) (dC (.int 2))) (dC (.str "sea")))) (sRt (dC .non)) sNx) (sRt (Cd Hf (dV 2) (Aa (dOp Ac (dOp Ac (dOp Ac (dV 0) (dC (.int 1))) (dV 1)) (dC (.int 2))) Ab)))))
def Js:List D->DH->R D:=Bd 2 1 Rb
def Jz:DS:=(sAs (dOp Ac (dOp Ac (dOp Ac (dV 0) (dC (.int 1))) (dV 2)) (dV 3)) (Hs (dV 1) (Aa (dV 3) (Aa (dV 2) Ab))))
def Iu:DS:=(Bt (Ay rng1 (Aa (dC (.int 5)) Ab)) (gV 3) Jz)
def ZAO:DS:=(Ad (sAs Kg (gV 1)) (Ad (Bt (Ay rng1 (Aa (dFn Bf (Aa (dOp Ac (dV 0) (dC (.int 1))) Ab)) Ab)) (gV 2) Iu) (sRt (dV 1))))
def M3:List D->DH->R D:=Bd 1 3 ZAO
def K5:DS:=(Ad (sAs (dFn Ep (Aa (dV 1) (Aa (dV 2) Ab))) (gV 2)) (sRt (dOp Ac (Ah (dFn Ae (Aa (dV 2) (Aa (dC (.int 0)) (Aa (dOp Cu (dV 2) (dC (.int 2))) (Aa (dFn Ep (Aa (dV 2) (Aa (dC (.int 1)) Ab))) Ab)))))) (dOp Cj (dV 0) (dC (.int 4))))))
def Fp:List D->DH->R D:=Bd 3 0 K5
def Tg:DS:=(sRt (dFn Al (Aa (dV 2) (Aa (dC (.int 0)) (Aa (dC (.int 0)) (Aa (dOp Ci (dOp Ci (dV 4) (dV 6)) (dV 7)) (Aa (dV 7) (Aa (dV 6) Ab))))))))
def Rt:DS:=(Ad (sIf (Aj (dOp Jt (dOp Ac (dV 0) (dC (.int 6))) (dC .non))) (sAs (Ah (dFn Fp (Aa (dOp Cu (dV 3) (dC (.int 16))) (Aa (dOp Ci (dV 4) (dV 6)) (Aa (dOp Ac (dOp Ac (dV 0) (dC (.int 6))) (dC (.int 2))) Ab))))) (gV 7)) sNx) Tg)
def Oe:DS:=(Ad (sAs (dC (.int 0)) (gV 7)) Rt)
def Qs:DS:=(Ad (sAs (Ah (dFn Fp (Aa (dOp Cu (dV 3) (dC (.int 4))) (Aa (dV 4) (Aa (dOp Ac (dV 0) (dC (.int 4))) Ab))))) (gV 6)) Oe)
def M4:DS:=(Ad (sIf (Aj (dOp Az (dOp Ac (dV 0) (dC (.int 0))) (dC (.str "mill")))) (sRt (dFn Al (Aa (dV 2) (Aa (dC (.int 0)) (Aa (dC (.int 0)) (Aa (dV 4) (Aa (dC (.int 0)) (Aa (dC (.int 0)) Ab)))))))) sNx) Qs)
def Jo:DS:=(Ad (sIf (Aj (dOp Az (dOp Ac (dV 0) (dC (.int 0))) (dC (.str "town")))) (Ad (sAs (Ah (dFn Fp (Aa (dV 3) (Aa (dV 4) (Aa (dOp Ac (dV 0) (dC (.int 4))) Ab))))) (gV 5)) (sRt (dFn Al (Aa (dV 2) (Aa (dV 5) (Aa (dC (.int 0)) (Aa (dOp Ci (dV 4) (dV 5)) (Aa (dC (.int 0)) (Aa (dC (.int 0)) Ab))))))))) sNx) M4)
def J9:DS:=(Ad (sAs (dOp Af (dV 1) (dV 2)) (gV 4)) Jo)
def Gu:List D->DH->R D:=Bd 4 4 J9
def Tv:DS:=(sIf (Aj (dOp Jt (dV 2) (dC .non))) (sAs (dOp Af (Ik (dV 0) (Aa (dV 1) (Aa (dV 2) Ab)) (dC (.int 0))) (dV 3)) (Hs (dV 0) (Aa (dV 1) (Aa (dV 2) Ab)))) sNx)
def I9:List D->DH->R D:=Bd 4 0 Tv
def Wv:DE:=(dOp Ac (dV 0) (dC (.int 1)))
def Vw:DS:=(Ad (sAs (Ah (Bm (Hb (dOp Ac (dV 0) (dC (.int 1)))) 1 [] (gV 0) Aw Wv)) (gV 2)) (sRt (Cd Hf (dV 2) (Aa (dOp Ac (dOp Ac (dOp Ac (dOp Ac (dV 0) (dC (.int 1))) (dV 1)) (dC (.int 6))) (dC (.int 0))) Ab))))
def Le:List D->DH->R D:=Bd 2 1 Vw
def Ht:DS:=(Ad (sAs (dOp Ac (dOp Ac (dV 0) (dC (.int 1))) (dV 9)) (gV 10)) (Ad (sAs (dOp Af (dOp Ac (dOp Ac (dV 2) (dV 7)) (dV 9)) (Ik (dV 4) (Aa (dV 7) (Aa (dV 9) Ab)) (dC (.int 0)))) (gV 11)) (Ad (sAs (Ah (dFn Gu (Aa (dV 10) (Aa (dOp Ac (dV 5) (dV 9)) (Aa (dV 11) (Aa (dOp Cj (dOp Ai (dV 3) (dC (.int 48271))) (dOp Af (dOp Af (dC (.int 10007)) (dOp Ai (dC (.int 30)) (dV 9))) (dOp Ai (dC (.int 2)) (dV 7)))) Ab)))))) (gV 12)) (Ad (sEx (dFn I9 (Aa (dV 4) (Aa (dOp Af (dV 7) (dOp Ac (dV 10) (dC (.int 3)))) (Aa (dFn Js (Aa (dV 0) (Aa (dV 9) Ab))) (Aa (dOp Ac (dV 12) (dC (.int 3))) Ab)))))) (Ad (sIf (Aj (dOp Ef (dOp Ac (dV 12) (dC (.int 4))) (dC (.int 0)))) (sEx (dFn I9 (Aa (dV 4) (Aa (dOp Af (dV 7) (dOp Ac (dOp Ac (dV 10) (dC (.int 6))) (dC (.int 1)))) (Aa (dFn Le (Aa (dV 0) (Aa (dV 9) Ab))) (Aa (dOp Ac (dV 12) (dC (.int 4))) Ab)))))) sNx) (Ad (sAs (dOp Ac (dV 12) (dC (.int 5))) (gIx (dV 5) (dV 9))) (sEx (Cd Cz (dV 8) (Aa (dV 12) Ab)))))))))
def Jw:DS:=(Ad (sAs (Cm (dFn Ae Ab)) (gV 8)) (Ad (Bt (Ay rng1 (Aa (dFn Bf (Aa (dOp Ac (dV 0) (dC (.int 1))) Ab)) Ab)) (gV 9) Ht) (sEx (Cd Cz (dV 6) (Aa (dFn Br (Aa (dV 8) Ab)) Ab)))))
def Um:DS:=(sRt (dV 6))
def Zb:DS:=(Ad (Bt (Ay rng1 (Aa (dFn Bf (Aa (dV 2) Ab)) Ab)) (gV 7) Jw) Um)
def Yd:DS:=(Ad (sAs (Cm (dFn Ae Ab)) (gV 6)) Zb)
def Zg:DS:=(Ad (sAs (Cm (dFn Eb (Aa (dOp Ac (dV 1) (dC (.int 0))) Ab))) (gV 5)) Yd)
def Yg:DS:=(Ad (sAs (dFn M3 (Aa (dV 1) Ab)) (gV 4)) Zg)
def La:List D->DH->R D:=Bd 4 9 Yg
def Ve:DS:=(sRt (Lp (dFn Ez (Aa (dV 0) (Aa (dC (.ty "int")) Ab))) (Li (dFn Ez (Aa (dV 0) (Aa (dC (.ty "bool")) Ab))))))
def Hh:List D->DH->R D:=Bd 1 0 Ve
def Hi:DS:=(sIf (Aj (dOp Az (dOp Ac (dV 5) (dC (.int 0))) (dC (.str "town")))) (sAu 3 (dOp Ai (dOp Ac (dOp Ac (dV 1) (dV 4)) (dC (.int 1))) (dOp Ac (dV 2) (dV 4))) K4) (sIf (Aj (dOp Az (dOp Ac (dV 5) (dC (.int 0))) (dC (.str "mill")))) (sAu 3 (dOp Ai (dFn Ep (Aa (dOp Ac (dOp Ac (dV 1) (dV 4)) (dC (.int 3))) (Aa (dOp Ac (dV 5) (dC (.int 4))) Ab))) (dOp Ac (dV 2) (dV 4))) K4) (sAu 3 (dOp Ai (dOp Ac (dOp Ac (dV 1) (dV 4)) (dC (.int 4))) (dOp Ac (dV 2) (dV 4))) Ci)))
def V8:DS:=(Ad (sAs (dC (.int 0)) (gV 3)) (Ad (Bt (Ay Fq (Aa (dOp Ac (dV 0) (dC (.int 1))) Ab)) (Cq 2 (Bg (gV 4) (Bg (gV 5) Dn))) Hi) (sRt (dV 3))))
def M7:List D->DH->R D:=Bd 3 3 V8
def Ja:DE:=(dV 0)
def K3:DB:=(Aj (dOp Az (dOp Ac (dV 1) (dC (.int 0))) (dC (.str "basin"))))
def Kc:DE:=(dOp Ai (dOp Ac (dOp Ac (dOp Ac (dV 1) (dUn Lk (dC (.int 1)))) (dV 0)) (dC (.int 5))) (dOp Ac (dV 2) (dV 0)))
def J1:DE:=(dFn M7 (Aa (dV 2) (Aa (dV 0) (Aa (dV 1) Ab))))
def Qp:DS:=(Ad (sIf (Aj (dOp Az (dFn Bf (Aa (dV 1) Ab)) (dC (.int 0)))) (sRt (dC (.int 0))) sNx) (Ad (sAs (Ah (Bm (Ay Fq (Aa (dOp Ac (dV 0) (dC (.int 1))) Ab)) 2 [] (Cq 2 (Bg (gV 0) (Bg (gV 1) Dn))) K3 Ja)) (gV 4)) (Ad (sAs (dFn Et (Aa (Ah (Bm (Hb (dV 4)) 1 [1,3] (gV 0) Aw Kc)) Ab)) (gV 5)) (sRt (dOp Af (dV 5) (dFn Et (Aa (Ah (Bm (Ay (Fo 2) (Aa (dV 1) (Aa (dV 2) Ab))) 2 [0] (Cq 2 (Bg (gV 0) (Bg (gV 1) Dn))) Aw J1)) Ab)))))))
def Fi:List D->DH->R D:=Bd 4 2 Qp
def Ko:DS:=(Ad (sAs (Ah (dFn La (Aa (dV 1) (Aa (dV 2) (Aa (dV 3) (Aa (dV 6) Ab)))))) (gV 7)) (Ad (sAs (Ah (dFn Ae (Aa (Ah (dFn Eb (Aa (dV 7) Ab))) (Aa (Ah (dFn Eb (Aa (dV 4) Ab))) Ab)))) (gV 8)) (Ad (sAs (dFn Fi (Aa (dV 1) (Aa (dOp Ac (dV 8) (dC (.int 0))) (Aa (dOp Ac (dV 8) (dC (.int 1))) (Aa (dV 5) Ab))))) (gV 9)) (Ad (sIf (dOr (Gk (Aj (dFn Hh (Aa (dV 9) Ab)))) (Aj (dOp Ed (dV 9) (dFn Jg (Aa (dV 1) (Aa (dV 7) (Aa (dV 4) (Aa (dV 5) Ab)))))))) (sRt (dC (.bl xA))) sNx) (Ad (sIf (Aj (dOp Ed (dV 8) (Ah (dFn Ae (Aa (dV 7) (Aa (dV 4) Ab)))))) (sRt (dC (.bl xA))) sNx) (Ad (sAs (dFn Fi (Aa (dV 1) (Aa (Ah (dFn Eb (Aa (Ah (dSl (dV 7) xy (xk (dC (.int 1))))) Ab))) (Aa (Ah (dFn Eb (Aa (Ah (dSl (dV 4) xy (xk (dC (.int 1))))) Ab))) (Aa (dV 5) Ab))))) (gV 9)) (sIf (dOr (Gk (Aj (dFn Hh (Aa (dV 9) Ab)))) (Aj (dOp Ed (dV 9) (dFn Jg (Aa (dV 1) (Aa (Ah (dSl (dV 7) xy (xk (dC (.int 1))))) (Aa (Ah (dSl (dV 4) xy (xk (dC (.int 1))))) (Aa (dV 5) Ab)))))))) (sRt (dC (.bl xA))) sNx)))))))
def W5:DS:=(sRt (dC (.bl x0)))
def Xg:DS:=(Ad (Bt (Hb (Ah (dOp Af (Ah (dFn Ae (Aa (dFn Bo (Aa (dV 0) (Aa (dC (.int 2)) Ab))) Ab))) (Ah (dSl (dV 0) (xk (dC (.int 59))) (xk (dC (.int 61)))))))) (gV 6) Ko) W5)
def ZAD:DS:=(Ad (sIf (dOr (Gk (Aj (dFn Hh (Aa (dFn Fi (Aa (dV 1) (Aa (Ah (dFn Ae Ab)) (Aa (Ah (dFn Ae Ab)) (Aa (dV 5) Ab))))) Ab)))) (Aj (dOp Ed (dFn Fi (Aa (dV 1) (Aa (Ah (dFn Ae Ab)) (Aa (Ah (dFn Ae Ab)) (Aa (dV 5) Ab))))) (dC (.int 0))))) (sRt (dC (.bl xA))) sNx) Xg)
def Wb:DS:=(Ad (sAs (Ah (dFn Jd (Aa (dV 0) Ab))) (Cq 5 (Bg (gV 1) (Bg (gV 2) (Bg (gV 3) (Bg (gV 4) (Bg (gV 5) Dn))))))) ZAD)
def Gh:List D->DH->R D:=Bd 1 9 Wb
def Holds:Prop:=∀ns:List Int,ns.length<=63->∃G,Gh [.fl (ns.map D.int)] []=.ok (.bl x0) G
end _W
namespace _W
open PySem _L _D
variable{G L H M:DH}{A:DO}{ds NS:List D}{n k j w q a:Nat}{y i x:Int}{l f sc:List Int}{pays fl cm:List (List Int)}{d:D}{ns:List Str}{kvs:List (List Key×D)}
noncomputable abbrev zI(i:Int):Option D:=xk (.int i)
noncomputable abbrev zR(i:Nat):Option D:=xk (.ref i)
noncomputable abbrev zF(xs:List D):Option D:=xk (.fl xs)
noncomputable abbrev zT(xs:List D):Option D:=xk (.tup xs)
noncomputable abbrev zS(x:Str):Option D:=xk (.str x)
noncomputable def cellAt(ns:List Int)(k:Int):Int:=ns.getD k.toNat 0
theorem Fy{ns:List Int}{k:Int}(hk:0<=k):Bo [.fl (ns.map D.int),.int k] G=.ok (.int (cellAt ns k)) G:=by
 unfold Bo Uk cellAt;rw[An];by_cases h:k<ns.length
 ·simp[h];rw[Bs (d:=D.int (ns[k.toNat]'(by lia))) (k:=k.toNat) (by lia) (by rw[z0,zQ (by lia)];rfl)];simp[Be,zQ (show k.toNat<ns.length by lia)]
 ·simp[h,Be,zM (show ns.length<=k.toNat by lia)]
noncomputable def tab(n:Nat)(F:Nat->Int):List D:=(qw n).map λi=>D.int (F i)
theorem Yp(h:bels (G.length+1) ds=x0):freeze (G++[A]) (.ok (.ref (G.length+1)) (G++A:: .lst ds::L))=.ok (.fl ds) (G++[A]):=by have:=Ba (G:=G++[A]) (ds:=ds) (L:=L) (by simpa using h);simpa using this
theorem U3(h:bels (G.length+1) ds=x0):tidy (G++[A]) (.ok (.ref (G.length+1)) (G++A:: .lst ds::L))=.ok (.ref (G.length+1)) (G++[A,.lst ds]):=by have:=Dq (G:=G++[A]) (ds:=ds) (L:=L) (by simpa using h);simpa using this
theorem ZFN{B:DO}(h:bels (G.length+2) ds=x0):freeze (G++[A,B]) (.ok (.ref (G.length+2)) (G++A::B:: .lst ds::L))=.ok (.fl ds) (G++[A,B]):=by have:=Ba (G:=G++[A,B]) (ds:=ds) (L:=L) (by simpa using h);simpa using this
theorem Z9{B:DO}(h:bels (G.length+2) ds=x0):tidy (G++[A,B]) (.ok (.ref (G.length+2)) (G++A::B:: .lst ds::L))=.ok (.ref (G.length+2)) (G++[A,B,.lst ds]):=by have:=Dq (G:=G++[A,B]) (ds:=ds) (L:=L) (by simpa using h);simpa using this
structure Stp where
 h:Int
 m:Int
 r:Bool
def wy(r:Bool):Str:=if r then "river" else "pump"
def Stp.enc(s:Stp):D:=.tup [.int s.h,.int s.m,.str (wy s.r)]
@[simp]theorem ZIL{st:List Stp}:bels n (st.map Stp.enc)=x0:=Dg λs _=>by simp[Stp.enc]
noncomputable abbrev Ssn:=Int×List Stp
def Cy(s:Ssn):D:=.tup [.int s.1,.tup (s.2.map Stp.enc)]
@[simp]theorem ZHc{ss:List Ssn}:bels n (ss.map Cy)=x0:=Dg λs _=>by simp[Cy]
inductive RK where
 |basin (b:Int) (r:List Ssn) (q:Option (Str×Int×Int))
 |town (a b:Int)
 |mill (a:Int)
structure RP where
 nm:Str
 dn:Str
 dl:Int
 kd:RK
variable{p:RP}{ps:List RP}
noncomputable def pmD:Option (Str×Int×Int)->D
 |none=>.non
 |some (t,d,m)=>.tup [.str t,.int d,.int m]
noncomputable def RK.txt:RK->Str
 |.basin ..=>"basin"
 |.town ..=>"town"
 |.mill ..=>"mill"
def RK.rest:RK->List D
 |.basin b r q=>[.int b,.tup (r.map Cy),pmD q]
 |.town a b=>[.int a,.int b]
 |.mill a=>[.int a]
def RP.row(p:RP):List D:=.str p.kd.txt:: .str p.nm:: .str p.dn:: .int p.dl::p.kd.rest
def RP.enc(p:RP):D:=.tup p.row
structure RH where
 yr:Int
 ps:List RP
variable{h:RH}
noncomputable def RH.enc(h:RH):D:=.tup [.int h.yr,.tup (h.ps.map RP.enc)]
@[simp]theorem ZHk{q:Option (Str×Int×Int)}:bel n (pmD q)=x0:=by
 cases q with
 |none=>rfl
 |some x=>obtain⟨a,b,c⟩:=x;rfl
@[simp]theorem ZIF:bels n p.row=x0:=by
 unfold RP.row RK.rest
 cases p.kd<;>simp
@[simp]theorem J7:bel n p.enc=x0:=by simp[RP.enc]
@[simp]theorem ZE3{l:List RP}:bels n (l.map RP.enc)=x0:=Dg λ_ _=>J7
@[simp]theorem Kd:bel n h.enc=x0:=by simp[RH.enc]
section
variable{p:RP}{h:RH}{G:DH}
@[simp]theorem renc0:Ac p.enc (.int 0) G=.ok (.str p.kd.txt) G:=by simp[RP.enc,RP.row]
@[simp]theorem renc1:Ac p.enc (.int 1) G=.ok (.str p.nm) G:=by simp[RP.enc,RP.row]
@[simp]theorem renc2:Ac p.enc (.int 2) G=.ok (.str p.dn) G:=by simp[RP.enc,RP.row]
@[simp]theorem renc3:Ac p.enc (.int 3) G=.ok (.int p.dl) G:=by simp[RP.enc,RP.row]
theorem Eo:Ac h.enc (.int 1) G=.ok (.tup (h.ps.map RP.enc)) G:=by simp[RH.enc]
end
structure R6 where
 a:Int
 b:Int
 c:Int
 d:Int
 e:Int
 f:Int
variable{pgs:List (List R6)}{pg:List R6}
noncomputable def R6.enc(r:R6):D:=.tup [.int r.a,.int r.b,.int r.c,.int r.d,.int r.e,.int r.f]
def pgE(pg:List R6):D:=.tup (pg.map R6.enc)
theorem Ip(hp:ps[k]?=xk p):atI (ps.map RP.enc) (k:Int)=xk p.enc:=Bs rfl (by rw[z0,hp];rfl)
theorem ZBu{xs:List D}{x:D}:atI (xs++[x]) (-1)=xk x:=by
 rw[ZEJ (by decide) (by simp;lia)];have e3:((-1:Int)+((xs++[x]).length:Int)).toNat=xs.length:=by simp;lia
 simp only[e3];simp
noncomputable def pyD(pays:List (List Int)):List D:=pays.map λl=>.tup (l.map D.int)
noncomputable def tv(p:RP)(r:R6)(y:Int):Int:=match p.kd with
 |.town _ _=>r.b*y
 |.mill a=>min r.d a*y
 |.basin _ _ _=> -(r.e*y)
noncomputable def lv(p:RP)(r:R6)(l:Int):Int:=match p.kd with
 |.basin _ _ _=>r.f*l
 |_=>0
noncomputable def sm3(f:RP->R6->Int->Int):List RP->List R6->List Int->Int
 |p::ps,r::rs,y::ys=>f p r y+sm3 f ps rs ys
 |_,_,_=>0
theorem Lb{f:RP->R6->Int->Int}{rs:List R6}{ys:List Int}{r:R6}(h1:ps[j]?=xk p)(h2:rs[j]?=xk r)(h3:ys[j]?=xk y):sm3 f (ps.drop j) (rs.drop j) (ys.drop j)=f p r y+sm3 f (ps.drop (j+1)) (rs.drop (j+1)) (ys.drop (j+1)):=by
 obtain⟨a1,b1⟩:=zJ.mp h1;obtain⟨a2,b2⟩:=zJ.mp h2;obtain⟨a3,b3⟩:=zJ.mp h3;rw[zH a1,zH a2,zH a3,b1,b2,b3]
 rfl
theorem Mp{f:RP->R6->Int->Int}{rs:List R6}{ys:List Int}(h:ps.length<=j):sm3 f (ps.drop j) (rs.drop j) (ys.drop j)=0:=by
 rw[jq h]
 rfl
def Sml(l:List Int):Prop:=∀y∈l,-(2^64)<y/\y<2^64
theorem ZEv(h:ps[j]?=xk p):(Ec (ps.map RP.enc)).drop j=.tup [.int j,p.enc]::(Ec (ps.map RP.enc)).drop (j+1):=by obtain⟨a1,b1⟩:=zJ.mp h;rw[zH (by rw[Ln,zX];exact a1)];simp[Ec,b1]
section
variable{h:RH}{pg:List R6}{pay left:List Int}{G:DH}
theorem Nf(hp:pg.length=h.ps.length){r:R6}(hr:pg[j]?=xk r):atI (pg.map R6.enc) (j:Int)=zT [.int r.a,.int r.b,.int r.c,.int r.d,.int r.e,.int r.f]:=Bs rfl (by rw[z0,hr];rfl)
theorem int_at(hy:l[j]?=xk y):atI (l.map D.int) (j:Int)=zI y:=Bs rfl (by rw[z0,hy];rfl)
theorem Z5(l1:pg.length=h.ps.length)(l2:pay.length=h.ps.length)(sm:Sml pay){s0:Option D}:∀(m j:Nat)(acc:Int)(x4 x5:Option D),j+m=h.ps.length->∃y4 y5,Aq (Cq 2 (Bg (gV 4) (Bg (gV 5) Dn))) Hi ((Ec (h.ps.map RP.enc)).drop j) [s0,xk (pgE pg),zT (pay.map D.int),zI acc,x4,x5] G=
  .nx [s0,xk (pgE pg),zT (pay.map D.int),zI (acc+sm3 tv (h.ps.drop j) (pg.drop j) (pay.drop j)),y4,y5] G
 |0,j,acc,x4,x5,e=>⟨x4,x5,by rw[jq (by rw[Ln,zX];lia),Dh,Mp (by lia),Int.add_zero]⟩
 | m+1,j,acc,x4,x5,e=>by
  obtain⟨p,hp⟩:∃p,h.ps[j]?=xk p:=⟨_,zQ (by lia)⟩;obtain⟨r,hr⟩:∃r,pg[j]?=xk r:=⟨_,zQ (by lia)⟩;obtain⟨y,hy⟩:∃y,pay[j]?=xk y:=⟨_,zQ (by lia)⟩;obtain⟨y4,y5,ih⟩:=Z5 l1 l2 sm (s0:=s0) m (j+1) (acc+tv p r y) (zI j) (xk p.enc) (by lia);refine⟨y4,y5,?_⟩;have ar:=Nf l1 hr;have ay:=int_at hy;obtain⟨b1,b2⟩:=sm y (qZ hy)
  have mu:∀(i:Int)(G:DH),Ai (.int i) (.int y) G=.ok (.int (i*y)) G:=λi G=>Je b1 b2
  have t1:¬(("basin":Str)="town"):=by decide
  have t2:¬(("basin":Str)="mill"):=by decide
  have t3:¬(("mill":Str)="town"):=by decide
  have eP:pgE pg=.tup (pg.map R6.enc):=rfl;have hb:Hi [s0,xk (pgE pg),zT (pay.map D.int),zI acc,zI j,xk p.enc] G=.nx [s0,xk (pgE pg),zT (pay.map D.int),zI (acc+tv p r y),zI j,xk p.enc] G:=by
   rw[eP];unfold tv;cases ek:p.kd with
   |town a b=>
    have e0:∀G,Ac p.enc (.int 0) G=.ok (.str "town") G:=λG=>by rw[renc0,ek];rfl
    generalize pg.map R6.enc=PG at*;generalize pay.map D.int=PY at*;generalize p.enc=P at*;unfold Hi;simp[e0,ar,ay,mu]
   |mill a=>
    have e0:∀G,Ac p.enc (.int 0) G=.ok (.str "mill") G:=λG=>by rw[renc0,ek];rfl
    have e4:∀G,Ac p.enc (.int 4) G=.ok (.int a) G:=λG=>by simp[RP.enc,RP.row,ek,RK.rest]
    generalize pg.map R6.enc=PG at*;generalize pay.map D.int=PY at*;generalize p.enc=P at*;unfold Hi;simp[e0,e4,ar,ay,mu,t3]
   |basin b r' q=>
    have e0:∀G,Ac p.enc (.int 0) G=.ok (.str "basin") G:=λG=>by rw[renc0,ek];rfl
    generalize pg.map R6.enc=PG at*;generalize pay.map D.int=PY at*;generalize p.enc=P at*;unfold Hi;simp[e0,ar,ay,mu,t1,t2];lia
  have ss:=Lb (f:=tv) hp hr hy;rw[ZEv hp,Dc,ss,<-Int.add_assoc];generalize pgE pg=PG at*;generalize pay.map D.int=PY at*;simp[hb,ih]
theorem ZGn(l1:pg.length=h.ps.length)(l2:pay.length=h.ps.length)(sm:Sml pay)(G:DH):M7 [h.enc,pgE pg,.tup (pay.map D.int)] G=.ok (.int (sm3 tv h.ps pg pay)) G:=by
 obtain⟨y4,y5,hL⟩:=Z5 l1 l2 sm (s0:=xk h.enc) (G:=G) h.ps.length 0 0 xy xy (by lia);simp only[qS,Int.zero_add]at hL;have h1:∀G,Ac h.enc (.int 1) G=.ok (.tup (h.ps.map RP.enc)) G:=λG=>Eo
 generalize pgE pg=PG at*;generalize pay.map D.int=PY at*;generalize h.ps.map RP.enc=PS at*;generalize h.enc=H at*;unfold M7 V8;rw[An];simp[h1,hL,Be]
theorem Vb(hw:pgs[w]?=xk pg)(hy:pays[w]?=xk pay)(l1:pg.length=h.ps.length)(l2:pay.length=h.ps.length)(l3:left.length=h.ps.length)(sm:Sml pay)(sl:Sml left):∀(m j:Nat)(acc:Int)(x6 x7 x8 x9:Option D),j+m=h.ps.length->∃y6 y7 y8 y9,Aq (gV 6) Gp (Ak j m) [xk h.enc,zF (pgs.map pgE),zF (pyD pays),zT (left.map D.int),zI acc,zI w,x6,x7,x8,x9] G=
  .nx [xk h.enc,zF (pgs.map pgE),zF (pyD pays),zT (left.map D.int),zI (acc+sm3 tv (h.ps.drop j) (pg.drop j) (pay.drop j)+if w+1=pgs.length then sm3 lv (h.ps.drop j) (pg.drop j) (left.drop j)else 0),zI w,y6,y7,y8,y9] G
 |0,j,acc,x6,x7,x8,x9,e=>⟨x6,x7,x8,x9,by rw[Dj,Dh,Mp (by lia),Mp (by lia)];simp⟩
 | m + 1,j,acc,x6,x7,x8,x9,e=>by
  obtain⟨p,hp⟩:∃p,h.ps[j]?=xk p:=⟨_,zQ (by lia)⟩;obtain⟨r,hr⟩:∃r,pg[j]?=xk r:=⟨_,zQ (by lia)⟩;obtain⟨y,hyj⟩:∃y,pay[j]?=xk y:=⟨_,zQ (by lia)⟩;obtain⟨lf,hlj⟩:∃y,left[j]?=xk y:=⟨_,zQ (by lia)⟩;obtain⟨y6,y7,y8,y9,ih⟩:=Vb hw hy l1 l2 l3 sm sl m (j+1) (acc+tv p r y+if w+1=pgs.length then lv p r lf else 0) (zI j) (xk p.enc) (xk r.enc) (zI y) (by lia)
  refine⟨y6,y7,y8,y9,?_⟩;have ar:=Nf l1 hr;have ap:=Ip hp;have ay:=int_at hyj;have al:=int_at hlj;have aw:atI (pgs.map pgE) (w:Int)=zT (pg.map R6.enc):=Bs rfl (by rw[z0,hw];rfl);have az:atI (pyD pays) (w:Int)=zT (pay.map D.int):=Bs rfl (by unfold pyD;rw[z0,hy];rfl);obtain⟨b1,b2⟩:=sm y (qZ hyj);obtain⟨b3,b4⟩:=sl lf (qZ hlj);have mu:∀(i:Int)(G:DH),Ai (.int i) (.int y) G=.ok (.int (i*y)) G:=λi G=>Je b1 b2
  have ml:∀(i:Int)(G:DH),Ai (.int i) (.int lf) G=.ok (.int (i*lf)) G:=λi G=>Je b3 b4
  have t1:¬(("basin":Str)="town"):=by decide
  have t2:¬(("basin":Str)="mill"):=by decide
  have t3:¬(("mill":Str)="town"):=by decide
  have t4:¬(("mill":Str)="basin"):=by decide
  have t5:¬(("town":Str)="basin"):=by decide
  have t6:¬(("town":Str)="mill"):=by decide
  have hH:∀G,Ac h.enc (.int 1) G=.ok (.tup (h.ps.map RP.enc)) G:=λG=>Eo
  have er:r.enc=.tup [.int r.a,.int r.b,.int r.c,.int r.d,.int r.e,.int r.f]:=rfl;have ln:(((pgs.map pgE).length:Nat):Int)=(pgs.length:Int):=by rw[zX]
  have hb:Gp [xk h.enc,zF (pgs.map pgE),zF (pyD pays),zT (left.map D.int),zI acc,zI w,zI j,x7,x8,x9] G=.nx [xk h.enc,zF (pgs.map pgE),zF (pyD pays),zT (left.map D.int),zI (acc+tv p r y+if w+1=pgs.length then lv p r lf else 0),zI w,zI j,xk p.enc,xk r.enc,zI y] G:=by
   rw[er];unfold tv lv;cases ek:p.kd with
   |town a b=>
    have e0:∀G,Ac p.enc (.int 0) G=.ok (.str "town") G:=λG=>by rw[renc0,ek];rfl
    generalize pgs.map pgE=PGS at*;generalize pyD pays=PYS at*;generalize left.map D.int=LF at*;generalize h.ps.map RP.enc=PS at*;generalize h.enc=H at*;generalize p.enc=P at*;unfold Gp;simp[hH,ap,aw,ar,az,ay,e0,mu,t5,t6]
   |mill a=>
    have e0:∀G,Ac p.enc (.int 0) G=.ok (.str "mill") G:=λG=>by rw[renc0,ek];rfl
    have e4:∀G,Ac p.enc (.int 4) G=.ok (.int a) G:=λG=>by simp[RP.enc,RP.row,ek,RK.rest]
    have mc:min a r.d=min r.d a:=Int.min_comm a r.d;generalize pgs.map pgE=PGS at*;generalize pyD pays=PYS at*;generalize left.map D.int=LF at*;generalize h.ps.map RP.enc=PS at*;generalize h.enc=H at*;generalize p.enc=P at*;unfold Gp;simp[hH,ap,aw,ar,az,ay,e0,e4,mu,t3,t4,mc]
   | basin b r' q=>
    have e0:∀G,Ac p.enc (.int 0) G=.ok (.str "basin") G:=λG=>by rw[renc0,ek];rfl
    generalize pgs.map pgE=PGS at*;generalize pyD pays=PYS at*;generalize left.map D.int=LF at*;generalize h.ps.map RP.enc=PS at*;generalize h.enc=H at*;generalize p.enc=P at*;unfold Gp;by_cases z:w+1=pgs.length
    ·have z':(w:Int)+1=(pgs.length:Int):=by lia
     simp[hH,ap,aw,ar,az,ay,e0,mu,t1,t2,ln,z,z',al,ml];lia
    ·have z':¬(w:Int)+1=(pgs.length:Int):=by lia
     simp[hH,ap,aw,ar,az,ay,e0,mu,t1,t2,ln,z,z'];lia
  have s1:=Lb (f:=tv) hp hr hyj;have s2:=Lb (f:=lv) hp hr hlj;have e1:((j:Int)+1)=((j+1:Nat):Int):=by lia
  have tot:acc+sm3 tv (h.ps.drop j) (pg.drop j) (pay.drop j)+(if w+1=pgs.length then sm3 lv (h.ps.drop j) (pg.drop j) (left.drop j)else 0)=(acc+tv p r y+if w+1=pgs.length then lv p r lf else 0)+sm3 tv (h.ps.drop (j+1)) (pg.drop (j+1)) (pay.drop (j+1))+if w+1=pgs.length then sm3 lv (h.ps.drop (j+1)) (pg.drop (j+1)) (left.drop (j+1))else 0:=by
   rw[s1,s2]
   split <;> lia
  rw[tot,Dl,Dc,e1];generalize pgs.map pgE=PGS at*;generalize pyD pays=PYS at*;generalize left.map D.int=LF at*;simp only[Bw,R.Dt,q0,hb,Ds,ih]
end
structure Fit (h:RH) (pgs:List (List R6)) (pays:List (List Int)) (left:List Int):Prop where
 n:pays.length=pgs.length
 pg:∀pg∈pgs,pg.length=h.ps.length
 py:∀l∈pays,l.length=h.ps.length/\Sml l
 lf:left.length=h.ps.length/\Sml left
def smT(h:RH):List (List R6)->List (List Int)->Int
 |pg::pgs,py::pys=>sm3 tv h.ps pg py+smT h pgs pys
 |_,_=>0
theorem ZGW{py:List Int}(h1:pgs[j]?=xk pg)(h2:pays[j]?=xk py):smT h (pgs.drop j) (pays.drop j)=sm3 tv h.ps pg py+smT h (pgs.drop (j+1)) (pays.drop (j+1)):=by
 obtain⟨a1,b1⟩:=zJ.mp h1;obtain⟨a2,b2⟩:=zJ.mp h2;rw[zH a1,zH a2,b1,b2]
 rfl
def lst71(h:RH)(pgs:List (List R6))(left:List Int):Int:=match pgs.getLast? with
 |some pg=>sm3 lv h.ps pg left
 |none=>0
section
variable{h:RH}{pgs:List (List R6)}{pays:List (List Int)}{left:List Int}{G:DH}
theorem Ww(f:Fit h pgs pays left)(hn:h.ps.length<=100):∀(m j:Nat)(acc:Int)(x5 x6 x7 x8 x9:Option D),j+m=pgs.length->∃y5 y6 y7 y8 y9,Aq (gV 5) Jy (Ak j m) [xk h.enc,zF (pgs.map pgE),zF (pyD pays),zT (left.map D.int),zI acc,x5,x6,x7,x8,x9] G=
  .nx [xk h.enc,zF (pgs.map pgE),zF (pyD pays),zT (left.map D.int),zI (acc+smT h (pgs.drop j) (pays.drop j)+if m=0 then 0 else lst71 h pgs left),y5,y6,y7,y8,y9] G
 |0,j,acc,x5,x6,x7,x8,x9,e=>⟨x5,x6,x7,x8,x9,by rw[Dj,Dh,jq (by lia)];simp[smT]⟩
 | m+1,j,acc,x5,x6,x7,x8,x9,e=>by
  obtain⟨pg,hp⟩:∃p,pgs[j]?=xk p:=⟨_,zQ (by lia)⟩;have fn:=f.n;obtain⟨py,hy⟩:∃p,pays[j]?=xk p:=⟨_,zQ (by lia)⟩;obtain⟨q1,q2⟩:=f.py py (qZ hy);obtain⟨z6,z7,z8,z9,hL⟩:=Vb (G:=G) hp hy (f.pg pg (qZ hp)) q1 f.lf.1 q2 f.lf.2 h.ps.length 0 acc x6 x7 x8 x9 (by lia);simp only[qS]at hL;have hL':Aq (gV 6) Gp (Ak 0 h.ps.length) [xk h.enc,zF (pgs.map pgE),zF (pyD pays),zT (left.map D.int),zI acc,zI j,x6,x7,x8,x9] G=_:=hL
  obtain⟨y5,y6,y7,y8,y9,ih⟩:=Ww f hn m (j+1) (acc+sm3 tv h.ps pg py+if j+1=pgs.length then sm3 lv h.ps pg left else 0) (zI j) z6 z7 z8 z9 (by lia);refine⟨y5,y6,y7,y8,y9,?_⟩;have hH:∀G,Ac h.enc (.int 1) G=.ok (.tup (h.ps.map RP.enc)) G:=λG=>Eo
  have ln:(((h.ps.map RP.enc).length:Nat):Int)=(h.ps.length:Int):=by rw[zX]
  have hr:inR (h.ps.length:Int):=Cg (by lia) (by lia);have e1:((j:Int)+1)=((j+1:Nat):Int):=by lia
  have ss:=ZGW (h:=h) hp hy;have tot:acc+smT h (pgs.drop j) (pays.drop j)+(if m+1=0 then 0 else lst71 h pgs left)=(acc+sm3 tv h.ps pg py+if j+1=pgs.length then sm3 lv h.ps pg left else 0)+smT h (pgs.drop (j+1)) (pays.drop (j+1))+if m=0 then 0 else lst71 h pgs left:=by
   rw[ss,if_neg (by lia)];by_cases z:m=0
   ·have z2:j+1=pgs.length:=by lia
    have gl:pgs.getLast?=xk pg:=by rw[List.getLast?_eq_getElem?,show pgs.length-1=j by lia,hp]
    have el:lst71 h pgs left=sm3 lv h.ps pg left:=by unfold lst71;rw[gl]
    rw[if_pos z,if_pos z2,el];lia
   ·rw[if_neg z,if_neg (by lia)];lia
  have hb:Jy [xk h.enc,zF (pgs.map pgE),zF (pyD pays),zT (left.map D.int),zI acc,zI j,x6,x7,x8,x9] G=.nx [xk h.enc,zF (pgs.map pgE),zF (pyD pays),zT (left.map D.int),zI (acc+sm3 tv h.ps pg py+if j+1=pgs.length then sm3 lv h.ps pg left else 0),zI j,z6,z7,z8,z9] G:=by generalize pgs.map pgE=PGS at*;generalize pyD pays=PYS at*;generalize left.map D.int=LF at*;generalize h.ps.map RP.enc=PS at*;generalize h.enc=H at*;unfold Jy;simp[hH,ln,hr,hL']
  rw[tot,Dl,Dc,e1];generalize pgs.map pgE=PGS at*;generalize pyD pays=PYS at*;generalize left.map D.int=LF at*;simp only[Bw,R.Dt,q0,hb,Ds,ih]
theorem W8(f:Fit h pgs pays left)(hn:h.ps.length<=100)(hp:pgs.length<=1000)(G:DH):Jg [h.enc,.fl (pgs.map pgE),.fl (pyD pays),.tup (left.map D.int)] G=.ok (.int (smT h pgs pays+lst71 h pgs left)) G:=by
 obtain⟨y5,y6,y7,y8,y9,hL⟩:=Ww (G:=G) f hn pgs.length 0 0 xy xy xy xy xy (by lia);simp only[qS,Int.zero_add]at hL;have hL':Aq (gV 5) Jy (Ak 0 pgs.length) [xk h.enc,zF (pgs.map pgE),zF (pyD pays),zT (left.map D.int),zI 0,xy,xy,xy,xy,xy] G=_:=hL;have e0:smT h pgs pays+(if pgs.length=0 then 0 else lst71 h pgs left)=smT h pgs pays+lst71 h pgs left:=by
  split
  ·rename_i z;have:pgs=[]:=qx z;subst this
   rfl
  ·rfl
 rw[e0]at hL';have ln:(((pgs.map pgE).length:Nat):Int)=(pgs.length:Int):=by rw[zX]
 have hr:inR (pgs.length:Int):=Cg (by lia) (by lia);generalize pgs.map pgE=PGS at*;generalize pyD pays=PYS at*;generalize left.map D.int=LF at*;generalize h.enc=H at*;unfold Jg ZAJ Zd Yl;rw[An];simp[ln,hr,hL',Be]
noncomputable def Gr(p:RP):Bool:=match p.kd with
 |.basin ..=>x0
 |_=>xA
def bsF(i:Nat):List RP->List Nat
 |[]=>[]
 |p::ps=>if Gr p=x0 then i::bsF (i+1) ps else bsF (i+1) ps
theorem Z8:∀(ps:List RP)(i:Nat),Bc (Cq 2 (Bg (gV 0) (Bg (gV 1) Dn))) K3 Ja [xy,xy] ((ps.zipIdx i).map λq=>.tup [.int q.2,q.1.enc]) G=.ok ((bsF i ps).map λ(j:Nat)=>.int (j:Int)) G
 |[],i=>rfl
 | p::ps,i=>by
  have ih:=Z8 ps (i+1);have ht:K3 [zI i,xk p.enc] G=.ok (Gr p) G:=by
   have t1:¬(("town":Str)="basin"):=by decide
   have t2:¬(("mill":Str)="basin"):=by decide
   unfold K3 Gr
   cases ek:p.kd<;>simp[ek,RK.txt,t1,t2]
  have he:Ja [zI i,xk p.enc] G=.ok (.int i) G:=by unfold Ja;simp
  rw[jZ,zK,El];cases b:Gr p with
  |true=>
   rw[b]at ht;simp only[bsF,b,if_true];simp[ht,he,ih]
  |false=>
   rw[b]at ht;simp only[bsF,b];simp[ht,ih]
end
theorem Mv{f:Nat->DH->Option (Option D)}{g:DG}{c:DB}{te:DE}{S:DSt}{xs:List D}(hf:∀j G,f j G=xk xs[j]?):∀(n j:Nat)(G:DH),xs.length<=j+n->Bp f g c te S n j G=Bc g c te S (xs.drop j) G
 |0,j,G,hj=>by unfold Bp;rw[hf,zM (by lia),qj (by lia),Ly]
 | n+1,j,G,hj=>by
  unfold Bp;rw[hf];by_cases hlt:j<xs.length
  ·rw[zQ hlt,zH hlt,El];have ih:=λG=>Mv (g:=g) (c:=c) (te:=te) (S:=S) hf n (j+1) G (by lia)
   simp only[ih]
  ·rw[zM (by lia),qj (by lia),Ly]
section
variable{h:RH}{pgs:List (List R6)}{pays:List (List Int)}{left:List Int}{G:DH}
theorem Wz(hl:pgs.getLast?=xk pg)(l1:pg.length=h.ps.length)(l2:left.length=h.ps.length)(sm:Sml left):∀(ps:List RP)(i:Nat),h.ps.drop i=ps->∃vs:List Int,vs.length<=ps.length/\vs.sum=sm3 lv ps (pg.drop i) (left.drop i)/\Bc (gV 0) Aw Kc [xy,zF (pgs.map pgE),zT (left.map D.int)] ((bsF i ps).map λ(j:Nat)=>.int (j:Int)) G=.ok (vs.map D.int) G
 |[],i,_=>⟨[],by simp,by simp[sm3],rfl⟩
 | p::ps,i,hd=>by
  have hp:h.ps[i]?=xk p:=by have:=congrArg (λl=>l[0]?) hd;simpa using this
  have hdr:h.ps.drop (i+1)=ps:=by have:=congrArg List.tail hd;simpa using this
  have hil:=(zJ.mp hp).1;obtain⟨r,hr⟩:∃r,pg[i]?=xk r:=⟨_,zQ (by lia)⟩;obtain⟨y,hy⟩:∃y,left[i]?=xk y:=⟨_,zQ (by lia)⟩;obtain⟨vs,v1,v2,ih⟩:=Wz hl l1 l2 sm ps (i+1) hdr;have ss:=Lb (f:=lv) hp hr hy;rw[hd,hdr]at ss;cases b:Gr p with
  | false=>
   refine⟨vs,by simp;lia,?_,?_⟩
   ·rw[ss,v2];have:lv p r y=0:=by
     unfold Gr at b;unfold lv
     cases ek:p.kd<;>simp[ek]at b⊢
    lia
   ·simp only[bsF,b];exact ih
  | true=>
   refine⟨r.f*y::vs,by simp;lia,?_,?_⟩
   ·rw[ss,List.sum_cons,v2];have:lv p r y=r.f*y:=by
     unfold Gr at b;unfold lv
     cases ek:p.kd<;>simp[ek]at b⊢
    lia
   ·have aL:atI (pgs.map pgE) (-1)=zT (pg.map R6.enc):=by
     rcases List.eq_nil_or_concat pgs with e|⟨l,s,e⟩
     ·rw[e]at hl;simp at hl
     ·rw[List.concat_eq_append]at e;rw[e]at hl⊢;have:s=pg:=by simpa using hl
      subst this;rw[zO];exact ZBu
    have ar:=Nf l1 hr;have ay:=int_at hy;obtain⟨b1,b2⟩:=sm y (qZ hy);have mu:∀(i:Int)(G:DH),Ai (.int i) (.int y) G=.ok (.int (i*y)) G:=λi G=>Je b1 b2
    have ng:∀G:DH,Lk (.int 1) G=.ok (.int (-1)) G:=λG=>rfl
    have he:Kc [zI i,zF (pgs.map pgE),zT (left.map D.int)] G=.ok (.int (r.f*y)) G:=by generalize pgs.map pgE=PGS at*;generalize left.map D.int=LF at*;unfold Kc;simp[ng,aL,ar,ay,mu]
    simp only[bsF,b,if_true,zK];rw[El];simp[he,ih]
theorem Wh(hn:∀l∈pays,l.length=h.ps.length/\Sml l):∀(pgs:List (List R6)),(∀pg∈pgs,pg.length=h.ps.length)->∀(pays:List (List Int)),(∀l∈pays,l.length=h.ps.length/\Sml l)->∃vs:List Int,vs.length<=pgs.length/\vs.sum=smT h pgs pays/\Bc (Cq 2 (Bg (gV 0) (Bg (gV 1) Dn))) Aw J1 [xy,xy,xk h.enc] (Ex (pgs.map pgE) (pyD pays)) G=.ok (vs.map D.int) G
 |[],_,pays,_=>⟨[],by simp,by simp[smT],by simp[Ex,Ly]⟩
 |pg::pgs,hp,[],_=>⟨[],by simp,by simp[smT],by simp[Ex,pyD,Ly]⟩
 |pg::pgs,hp,py::pays,hy=>by
  obtain⟨vs,v1,v2,ih⟩:=Wh hn pgs (λx hx=>hp x (zV _ hx)) pays (λx hx=>hy x (zV _ hx));refine⟨sm3 tv h.ps pg py::vs,by simp;lia,by rw[List.sum_cons,v2];rfl,?_⟩;have c:=ZGn (h:=h) (hp pg zY) (hy py zY).1 (hy py zY).2 G;have he:J1 [xk (pgE pg),zT (py.map D.int),xk h.enc] G=.ok (.int (sm3 tv h.ps pg py)) G:=by unfold J1;simp[c]
  have ez:Ex ((pg::pgs).map pgE) (pyD (py::pays))=.tup [pgE pg,.tup (py.map D.int)]::Ex (pgs.map pgE) (pyD pays):=rfl;rw[ez,El];simp[he,ih]
theorem Nu(f:Fit h pgs pays left)(hn:h.ps.length<=100)(hp:pgs.length<=1000)(G:DH):Fi [h.enc,.fl (pgs.map pgE),.fl (pyD pays),.tup (left.map D.int)] G=.ok (.int (smT h pgs pays+lst71 h pgs left)) G:=by
 have ln:(((pgs.map pgE).length:Nat):Int)=(pgs.length:Int):=by rw[zX]
 rcases Nat.eq_zero_or_pos pgs.length with z|z
 ·have e:pgs=[]:=qx z;subst e;unfold Fi Qp;rw[An];simp[Be,smT,lst71]
 ·obtain⟨pg,hl⟩:∃pg,pgs.getLast?=xk pg:=by rw[List.getLast?_eq_getElem?];exact⟨_,zQ (by lia)⟩
  have mp:pg∈pgs:=List.mem_of_getLast? hl;have bc:=Z8 (G:=G) h.ps 0;obtain⟨vs,v1,v2,lc⟩:=Wz (G:=G) hl (f.pg pg mp) f.lf.1 f.lf.2 h.ps 0 rfl;simp only[qS]at v2;obtain⟨us,u1,u2,tc⟩:=Wh (h:=h) (G:=G) f.py pgs f.pg pays f.py;have lb:∀(ps:List RP)(i:Nat),(bsF i ps).length<=ps.length:=λps=>by
   induction ps with
   |nil=>intro i;simp[bsF]
   |cons p ps ih=>intro i;have:=ih (i+1);unfold bsF;split <;> simp <;> lia
  have lb0:=lb h.ps 0;have en:Ec (h.ps.map RP.enc)=(h.ps.zipIdx 0).map λq=>.tup [.int q.2,q.1.enc]:=by
   unfold Ec;rw[List.zipIdx_map,List.map_map]
   rfl
  have cF:Bp (Er 0 (.tup (h.ps.map RP.enc))) (Cq 2 (Bg (gV 0) (Bg (gV 1) Dn))) K3 Ja [xy,xy] h.ps.length 0 G=.ok ((bsF 0 h.ps).map λ(j:Nat)=>.int (j:Int)) G:=by rw[Mv (xs:=Ec (h.ps.map RP.enc)) (λj G=>ZAK j G) _ 0 G (by rw[Ln,zX];lia),qS,en];exact bc
  have zF:Bp (Fe [.fl (pgs.map pgE),.fl (pyD pays)]) (Cq 2 (Bg (gV 0) (Bg (gV 1) Dn))) Aw J1 [xy,xy,xk h.enc] pgs.length 0 G=.ok (us.map D.int) G:=by rw[Mv (xs:=Ex (pgs.map pgE) (pyD pays)) (λj G=>ZHD Kv Kv j) _ 0 G (by unfold Ex;simp;lia),qS];exact tc
  have iz:Fo 2 [.fl (pgs.map pgE),.fl (pyD pays)] G=.ok (.fn pgs.length (Fe [.fl (pgs.map pgE),.fl (pyD pays)])) G:=by have:=ZEo (G:=G) (d:=.fl (pgs.map pgE)) (e:=.fl (pyD pays)) Kv Kv;rwa[zX]at this
  have ie:Fq [.tup (h.ps.map RP.enc)] G=.ok (.fn h.ps.length (Er 0 (.tup (h.ps.map RP.enc)))) G:=by have:=Vg (G:=G) (xs:=h.ps.map RP.enc);rwa[zX]at this
  have f1:freeze G (.ok (.ref G.length) (G++[.lst ((bsF 0 h.ps).map λ(j:Nat)=>D.int (j:Int))]))=.ok (.fl ((bsF 0 h.ps).map λ(j:Nat)=>.int (j:Int))) G:=Ba (Dg λ_ _=>rfl);have f2:∀l:List Int,freeze G (.ok (.ref G.length) (G++[.lst (l.map D.int)]))=.ok (.fl (l.map D.int)) G:=λl=>Ba ZHN
  have f2v:=f2 vs;have f2u:=f2 us;have s1:Et [.fl (vs.map D.int)] G=.ok (.int vs.sum) G:=Zh;have s2:Et [.fl (us.map D.int)] G=.ok (.int us.sum) G:=Zh;have k1:((bsF 0 h.ps).map λ(j:Nat)=>D.int (j:Int)).length<=1000000:=by rw[zX];lia
  have k2:(vs.map D.int).length<=1000000:=by rw[zX];lia
  have k3:(us.map D.int).length<=1000000:=by rw[zX];lia
  have nz:¬(pgs.length:Int)=0:=by lia
  have nz2:¬pgs=[]:=λq=>by rw[q]at z;simp at z
  have nz':¬pgs.map pgE=[]:=λq=>by rw[q]at ln;simp at ln;lia
  have hcs1:∀a b c d e g:Option D,Ar 2 [] [a,b,c,d,e,g]=[xy,xy]:=λ_ _ _ _ _ _=>rfl
  have hcs2:∀a b c d e g:Option D,Ar 1 [1,3] [a,b,c,d,e,g]=[xy,b,d]:=λ_ _ _ _ _ _=>rfl
  have hcs3:∀a b c d e g:Option D,Ar 2 [0] [a,b,c,d,e,g]=[xy,xy,a]:=λ_ _ _ _ _ _=>rfl
  have hH:∀G,Ac h.enc (.int 1) G=.ok (.tup (h.ps.map RP.enc)) G:=λG=>Eo
  have el:lst71 h pgs left=sm3 lv h.ps pg left:=by unfold lst71;rw[hl]
  rw[el,<-v2,<-u2];have tot:us.sum+vs.sum=vs.sum+us.sum:=Int.add_comm _ _;rw[tot];generalize vs.sum=vS at*;generalize us.sum=uS at*;generalize vs.map D.int=VS at*;generalize us.map D.int=US at*;generalize((bsF 0 h.ps).map λ(j:Nat)=>D.int (j:Int))=BS at*;generalize pgs.map pgE=PGS at*;generalize pyD pays=PYS at*;generalize left.map D.int=LF at*;generalize h.ps.map RP.enc=PS at*;generalize h.enc=H at*
  unfold Fi Qp;rw[An];simp[-Vg,ln,nz,nz',nz2,hH,ie,hcs1,cF,Ae,k1,f1,hcs2,lc,k2,f2v,s1,iz,hcs3,zF,k3,f2u,s2,Be]
end
theorem Bu(c:Int){p m:Int}(hp:0<p)(hm:0<m):∃i:Int,(0<=i/\i<m)/\∀G,Bk [.int c,.int p,.int m] G=.ok (.int i) G:=by
 have h1:¬p=0:=by lia
 have h2:¬m=0:=by lia
 refine⟨c*48271%p%m,⟨jV _ h2,qL _ hm⟩,λG=>?_⟩;unfold Bk Z6;rw[An];simp[hp,hm,h1,h2,Be]
theorem I8{te:DE}{S:DSt}{Q:D->Prop}:∀(n j:Nat),(∀k,j<=k->k<j+n->∃d,Q d/\∀G,te (S.set 0 (zI (k:Int))) G=.ok d G)->∃ds:List D,ds.length=n/\(∀d∈ds,Q d)/\∀G,Bc (gV 0) Aw te S (Ak (j:Int) n) G=.ok ds G
 |0,j,_=>⟨[],rfl,by simp,λG=>by rw[Dj];rfl⟩
 |n+1,j,h=>by
  obtain⟨d,hd,he⟩:=h j (by lia) (by lia);obtain⟨ds,h1,h2,h3⟩:=I8 n (j+1) λk k1 k2=>h k (by lia) (by lia)
  refine⟨d::ds,by simp[h1],qA.mpr ⟨hd,h2⟩,λG=>?_⟩;rw[Dl,El];simp only[Bw,R.Ga,Jb,if_true,he];have e1:((j:Int)+1)=((j+1:Nat):Int):=by lia
  rw[e1,h3]
  rfl
theorem ints_of:∀{ds:List D}{Q:Int->Prop},(∀d∈ds,∃i,Q i/\d=.int i)->∃l:List Int,ds=l.map D.int/\∀i∈l,Q i
 |[],Q,_=>⟨[],rfl,by simp⟩
 |d::ds,Q,h=>by
  obtain⟨i,hi,rfl⟩:=h d (by simp);obtain⟨l,rfl,hl⟩:=ints_of (ds:=ds) (Q:=Q) λx hx=>h x (zV _ hx)
  exact⟨i::l,rfl,qA.mpr ⟨hi,hl⟩⟩
theorem Vk:∀{ds:List D},(∀d∈ds,∃s,d=.str s)->∃l:List Str,ds=l.map D.str
 |[],_=>⟨[],rfl⟩
 |d::ds,h=>by
  obtain⟨i,rfl⟩:=h d (by simp);obtain⟨l,rfl⟩:=Vk (ds:=ds) λx hx=>h x (zV _ hx)
  exact⟨i::l,rfl⟩
theorem Jh{m:Nat}{l:List Str}:bels m (l.map D.str)=x0:=Dg λ_ _=>rfl
theorem Do{m:Nat}:bels m (l.map D.int)=x0:=Dg λ_ _=>rfl
theorem fgh(k:Nat)(h:k<6):∃s:Str,s.length<=10/\∀G,Ac (.str "fghijk") (.int (k:Int)) G=.ok (.str s) G:=by
 have e:("fghijk":Str).cps.toList=[102,103,104,105,106,107]:=by decide +kernel
 have el:("fghijk":Str).length<=1000000:=by decide +kernel
 rcases(by lia:k=0∨k=1∨k=2∨k=3∨k=4∨k=5)with rfl|rfl|rfl|rfl|rfl|rfl
 ·exact⟨⟨#[102]⟩,by decide,λG=>by rw[Gb,if_pos el,e];rfl⟩
 ·exact⟨⟨#[103]⟩,by decide,λG=>by rw[Gb,if_pos el,e];rfl⟩
 ·exact⟨⟨#[104]⟩,by decide,λG=>by rw[Gb,if_pos el,e];rfl⟩
 ·exact⟨⟨#[105]⟩,by decide,λG=>by rw[Gb,if_pos el,e];rfl⟩
 ·exact⟨⟨#[106]⟩,by decide,λG=>by rw[Gb,if_pos el,e];rfl⟩
 ·exact⟨⟨#[107]⟩,by decide,λG=>by rw[Gb,if_pos el,e];rfl⟩
theorem fsT(x:Str)(G:DH):freeze G (.ok (.str x) G)=.ok (.str x) G:=Hm rfl
theorem ZEe(c:Int)(hn:n<=6):∃ns:List Str,ns.length=n/\∀G,freeze G (Ff [.int c,.int (n:Int)] G)=.ok (.fl (ns.map D.str)) G:=by
 have hr:inR (n:Int):=Cg (by lia) (by lia);have hcs:∀a b c:Option D,Ar 1 [] [a,b,c]=[xy]:=λ_ _ _=>rfl
 have fin:∀(te:DE),(∀k,k<n->∃s:Str,∀G,te [zI (k:Int)] G=.ok (.str s) G)->∃ns:List Str,ns.length=n/\∀G,Bc (gV 0) Aw te [xy] (Ak 0 n) G=.ok (ns.map D.str) G:=λte h=>by
  obtain⟨ds,h1,h2,h3⟩:=I8 (te:=te) (S:=[xy]) (Q:=λd=>∃s,d=.str s) n 0 λk _ k2=>by obtain⟨s,hs⟩:=h k (by lia);exact⟨_,⟨s,rfl⟩,hs⟩
  obtain⟨l,rfl⟩:=Vk h2;exact⟨l,by simpa using h1,h3⟩
 have ad:∀(x y:Str),x.length<=10->y.length<=10->∀G,Af (.str x) (.str y) G=.ok (.str (x++y)) G:=λx y hx hy G=>by show(if x.length+y.length<=1000000 then R.ok (D.str (x++y)) G else .bad)=_;rw[if_pos (by lia)]
 have key:∀(te:DE)(ns:List Str),ns.length=n->(∀G,Bc (gV 0) Aw te [xy] (Ak 0 n) G=.ok (ns.map D.str) G)->∀G,freeze G (tidy G ((Bc (gV 0) Aw te [xy] (Ak 0 n) G).bind Ae))=.ok (.fl (ns.map D.str)) G:=λte ns hl h G=>by
  rw[h];have ll:(ns.map D.str).length<=1000000:=by rw[zX];lia
  have be:bels G.length (ns.map D.str)=x0:=Jh;simp only[R.Ga,Ae,if_pos ll];rw[Dq be,Ba be]
 rcases(by lia:c%3=0∨c%3=1∨c%3=2)with hc|hc|hc
 ·obtain⟨ns,h1,h2⟩:=fin Kq λk hk=>by
   obtain⟨s,hs,h⟩:=fgh k (by lia);refine⟨("sea":Str)++s,λG=>?_⟩;have a:=λG=>ad "sea" s (by decide +kernel) hs G
   unfold Kq;simp[-Gb,-Im,h,a]
  refine⟨ns,h1,λG=>?_⟩;have e:Ff [.int c,.int (n:Int)] G=tidy G ((Bc (gV 0) Aw Kq [xy] (Ak 0 n) G).bind Ae):=by
   unfold Ff Lh;rw[An];simp[hc,hr,hcs,h2]
   split <;> rfl
  rw[e];exact key _ ns h1 h2 G
 ·obtain⟨ns,h1,h2⟩:=fin Kf λk hk=>by
   refine⟨Fg "aaaaaa" (xk (k:Int)) xy,λG=>?_⟩;have el:("aaaaaa":Str).length<=1000000:=by decide +kernel
   unfold Kf;simp[el,fsT]
  refine⟨ns,h1,λG=>?_⟩;have e:Ff [.int c,.int (n:Int)] G=tidy G ((Bc (gV 0) Aw Kf [xy] (Ak 0 n) G).bind Ae):=by
   unfold Ff Lh;rw[An];simp[hc,hr,hcs,h2]
   split <;> rfl
  rw[e];exact key _ ns h1 h2 G
 ·obtain⟨ns,h1,h2⟩:=fin M6 λk hk=>by
   obtain⟨s,hs,h⟩:=fgh k (by lia);refine⟨s++("lake":Str),λG=>?_⟩;have a:=λG=>ad s "lake" hs (by decide +kernel) G
   unfold M6;simp[-Gb,-Im,h,a]
  refine⟨ns,h1,λG=>?_⟩;have e:Ff [.int c,.int (n:Int)] G=tidy G ((Bc (gV 0) Aw M6 [xy] (Ak 0 n) G).bind Ae):=by
   unfold Ff Lh;rw[An];simp[hc,hr,hcs,h2]
   split <;> rfl
  rw[e];exact key _ ns h1 h2 G
theorem divS{k:Int}(h:0<k)(h2:k<1000000):Cu (.int i) (.int k) G=.ok (.int (i/k)) G:=by obtain⟨n,rfl⟩:=Int.eq_ofNat_of_zero_le (Int.le_of_lt h);exact ZCJ (by lia) (log2_small (Nat.lt_trans (show n<1000000 by lia) (by decide)))
theorem ZEZ{k:Int}(hk:0<k)(hk9:k<1000000)(G L:DH):Bh [.ref G.length,.int k] (G++ .lst [.int x]::L)=.ok (.int (x%k)) (G++ .lst [.int (x/k)]::L):=by
 have td:tidy (G++ .lst [.int x]::L) (.ok (.int (x%k)) (G++ .lst [.int (x/k)]::L))=.ok (.int (x%k)) (G++ .lst [.int (x/k)]::L):=Vq (by simp) rfl;have g0:∀o:DO,(G++o::L)[G.length]?=xk o:=λo=>by rw[Ea];rfl
 have s0:∀o o':DO,(G++o::L).set G.length o'=G++o'::L:=λo o'=>by rw[Fv];rfl
 have dv:∀H:DH,Cu (.int x) (.int k) H=.ok (.int (x/k)) H:=λH=>divS hk hk9
 unfold Bh Z4;rw[An];have i0:ixN 1 0=xk 0:=by decide
 simp[g0,s0,hk,dv,td,i0]
theorem tk(x:Int){k:Int}(hk:0<k)(hk9:k<1000000):∃i y:Int,(0<=i/\i<k)/\∀G L:DH,Bh [.ref G.length,.int k] (G++ .lst [.int x]::L)=.ok (.int i) (G++ .lst [.int y]::L):=
 ⟨x%k,x/k,⟨jV _ (by lia),qL _ hk⟩,λG L=>ZEZ hk hk9 G L⟩
theorem Y0(hd:bel G.length d=x0):tidy G (.ok d H)=.ok d G∨tidy G (.ok d H)=.ok d H:=by
 unfold tidy;by_cases h:H.take G.length=G
 ·left
  simp only[h,hd,if_true]
 ·right
  simp only[h,if_false]
def Pl(G L:DH)(r:R D)(d:D):Prop:=∃(y:Int)(M:DH),r=.ok d (G++ .lst [.int y]::(L++M))
theorem Wa(hd:∀n,bel n d=x0):Pl G L (tidy (G++ .lst [.int x]::L) (.ok d (G++ .lst [.int y]::(L++M)))) d:=by
 rcases Y0 (G:=G++ .lst [.int x]::L) (H:=G++ .lst [.int y]::(L++M)) (hd _)with h|h
 ·exact⟨x,[],by rw[h,qJ]⟩
 ·exact⟨y,M,h⟩
theorem Ma(G L:DH)(A o:DO):(G++A::(L++[o]))[G.length+(L.length+1)]?=xk o:=by rw[Es];simp
theorem Mq(G L:DH)(A o o':DO):(G++A::(L++[o])).set (G.length+(L.length+1)) o'=G++A::(L++[o']):=by rw[Hr];simp
theorem Yt{G L:DH}{scale:Int}:∀(m j:Nat)(x most hgt:Int)(acc:List Stp)(x5 x6 x7:Option D),acc.length+m<=100->∃(st:List Stp)(x' most' hgt':Int)(y5 y6 y7:Option D),
  Aq (gV 5) Ie (Ak j m) [zR G.length,zI most,zI scale,zR (G.length+(L.length+1)),zI hgt,x5,x6,x7] (G++ .lst [.int x]::(L++[.lst (acc.map Stp.enc)]))=
   .nx [zR G.length,zI most',zI scale,zR (G.length+(L.length+1)),zI hgt',y5,y6,y7] (G++ .lst [.int x']::(L++[.lst (st.map Stp.enc)]))
 |0,j,x,most,hgt,acc,x5,x6,x7,_=>⟨acc,x,most,hgt,x5,x6,x7,by rw[Dj,Dh]⟩
 | m + 1,j,x,most,hgt,acc,x5,x6,x7,h=>by
  obtain⟨i1,y1,b1,t1⟩:=tk x (k:=4) (by decide) (by decide);obtain⟨i2,y2,b2,t2⟩:=tk y1 (k:=2) (by decide) (by decide);obtain⟨i3,y3,b3,t3⟩:=tk y2 (k:=3) (by decide) (by decide);have m1:∀G,Ai (.int (1+i1)) (.int scale) G=.ok (.int ((1+i1)*scale)) G:=λG=>Cw (by lia) (by lia)
  have m3:∀G,Ai (.int i3) (.int scale) G=.ok (.int (i3*scale)) G:=λG=>Cw (by lia) (by lia)
  have hal:(acc.map Stp.enc).length<1000000:=by rw[zX];lia
  have key:∃(s:Stp)(most' hgt':Int)(y6 y7:Option D),Ie [zR G.length,zI most,zI scale,zR (G.length+(L.length+1)),zI hgt,zI j,x6,x7] (G++ .lst [.int x]::(L++[.lst (acc.map Stp.enc)]))=
    .nx [zR G.length,zI most',zI scale,zR (G.length+(L.length+1)),zI hgt',zI j,y6,y7] (G++ .lst [.int y3]::(L++[.lst ((acc++[s]).map Stp.enc)])):=by
   by_cases hc:i2=1/\0<most
   ·refine⟨⟨hgt,min ((1+i1)*scale) most,xA⟩,most-min ((1+i1)*scale) most,hgt+min ((1+i1)*scale) most+i3*scale,zI (min ((1+i1)*scale) most),zS "pump",?_⟩;have e0:Stp.enc ⟨hgt,min ((1+i1)*scale) most,xA⟩=.tup [.int hgt,.int (min ((1+i1)*scale) most),.str "pump"]:=rfl;rw[zO,zK,zU,e0];generalize acc.map Stp.enc=A at*;unfold Ie;simp[t1,t2,t3,m1,m3,hc.1,hc.2,Ma,Mq,hal]
   ·refine⟨⟨hgt,(1+i1)*scale,x0⟩,most,hgt+(1+i1)*scale+i3*scale,zI ((1+i1)*scale),zS "river",?_⟩;have e0:Stp.enc ⟨hgt,(1+i1)*scale,x0⟩=.tup [.int hgt,.int ((1+i1)*scale),.str "river"]:=rfl;rw[zO,zK,zU,e0];generalize acc.map Stp.enc=A at*;unfold Ie;by_cases h2:i2=1
    ·have h3:¬0<most:=λz=>hc ⟨h2,z⟩
     simp[t1,t2,t3,m1,m3,h2,h3,Ma,Mq,hal]
    ·simp[t1,t2,t3,m1,m3,h2,Ma,Mq,hal]
  obtain⟨s,mo,hg,y6,y7,hb⟩:=key;obtain⟨st,x',mo',hg',z5,z6,z7,ih⟩:=Yt (G:=G) (L:=L) (scale:=scale) m (j+1) y3 mo hg (acc++[s]) (zI j) y6 y7 (by simp;lia);refine⟨st,x',mo',hg',z5,z6,z7,?_⟩;rw[Dl,Dc];simp only[Bw,R.Dt,q0,hb,Ds];have e1:((j:Int)+1)=((j+1:Nat):Int):=by lia
  rw[e1,ih]
theorem rstairs(x most scale:Int)(G L:DH):∃st:List Stp,Pl G L (G6 [.ref G.length,.int most,.int scale] (G++ .lst [.int x]::L)) (.tup (st.map Stp.enc)):=by
 obtain⟨i1,y1,b1,t1⟩:=tk x (k:=4) (by decide) (by decide);obtain⟨i2,y2,b2,t2⟩:=tk y1 (k:=4) (by decide) (by decide);obtain⟨n,en⟩:∃n:Nat,i2=n:=⟨i2.toNat,by lia⟩;obtain⟨st,x',mo,hg,y5,y6,y7,hL⟩:=Yt (G:=G) (L:=L) (scale:=scale) n 0 y2 most (i1*scale) [] xy xy xy (by simp;lia);refine⟨st,?_⟩;have m1:∀G,Ai (.int i1) (.int scale) G=.ok (.int (i1*scale)) G:=λG=>Cw (by lia) (by lia)
 have hr:inR (n:Int):=Cg (by lia) (by lia);have tn:tidy (G++ .lst [.int x]::L) (.ok (.ref (G.length+(L.length+1))) (G++ .lst [.int x]::(L++[.lst []])))=.ok (.ref (G.length+(L.length+1))) (G++ .lst [.int x]::(L++[.lst []])):=by have:=Dq (G:=G++ .lst [.int x]::L) (ds:=[]) (L:=[]) rfl;simpa using this
 have hL':Aq (gV 5) Ie (Ak 0 n) [zR G.length,zI most,zI scale,zR (G.length+(L.length+1)),zI (i1*scale),xy,xy,xy] (G++ .lst [.int y2]::(L++[.lst []]))=_:=hL;have be:∀n,bel n (.tup (st.map Stp.enc))=x0:=λn=>by simp
 generalize st.map Stp.enc=Z at*;have e:G6 [.ref G.length,.int most,.int scale] (G++ .lst [.int x]::L)=tidy (G++ .lst [.int x]::L) (.ok (.tup Z) (G++ .lst [.int x']::(L++[.lst Z]))):=by unfold G6 Wc;rw[An];simp[Ae,tn,t1,m1,t2,en,hr,hL',Ma]
 rw[e];exact Wa be
theorem Qe(c a m:Int):∃i:Int,∀G,Fp [.int c,.int a,.int m] G=.ok (.int i) G:=by
 have fz:∀(x y z w:Int)(G:DH),freeze G (.ok (.ref G.length) (G++[.lst [.int x,.int y,.int z,.int w]]))=.ok (.fl [.int x,.int y,.int z,.int w]) G:=λx y z w G=>Ba rfl
 rcases(by lia:c%4=0∨c%4=1∨c%4=2∨c%4=3)with h|h|h|h
 ·refine⟨min a m,λG=>?_⟩;unfold Fp K5;rw[An];simp[Ae,fz,h,Be]
 ·refine⟨0,λG=>?_⟩;unfold Fp K5;rw[An];simp[Ae,fz,h,Be]
 ·refine⟨min a m/2,λG=>?_⟩;unfold Fp K5;rw[An];simp[Ae,fz,h,Be]
 ·refine⟨min (min a m) 1,λG=>?_⟩;unfold Fp K5;rw[An];simp[Ae,fz,h,Be]
theorem fzI(i:Int)(G:DH):freeze G (.ok (.int i) G)=.ok (.int i) G:=Hm rfl
theorem ZEF(p:RP)(lay came cell:Int):∃r:R6,(0<r.e->∃b rr t d m,p.kd=.basin b rr (xk (t,d,m)))/\∀G,Gu [p.enc,.int lay,.int came,.int cell] G=.ok r.enc G:=by
 have n1:¬(("basin":Str)="town"):=by decide
 have n2:¬(("basin":Str)="mill"):=by decide
 have n3:¬(("mill":Str)="town"):=by decide
 obtain⟨nm,dn,dl,kd⟩:=p;cases kd with
 |town a b=>
  obtain⟨i,hi⟩:=Qe cell (lay+came) a;refine⟨⟨came,i,0,lay+came-i,0,0⟩,λh=>absurd h (by simp),λG=>?_⟩;unfold Gu J9 Jo RP.enc RP.row RK.rest RK.txt R6.enc;rw[An];simp[hi,fzI,Be]
 |mill a=>
  refine⟨⟨came,0,0,lay+came,0,0⟩,λh=>absurd h (by simp),λG=>?_⟩;unfold Gu J9 Jo M4 RP.enc RP.row RK.rest RK.txt R6.enc;rw[An];simp[n3,Be]
 | basin b r q=>
  obtain⟨i,hi⟩:=Qe (cell/4) (lay+came) b;cases q with
  |none=>
   refine⟨⟨came,0,0,lay+came-i-0,0,i⟩,λh=>absurd h (by simp),λG=>?_⟩;unfold Gu J9 Jo M4 Qs Oe Rt Tg RP.enc RP.row RK.rest RK.txt R6.enc pmD;rw[An];simp[n1,n2,hi,fzI,Be]
  |some q=>
   obtain⟨t,d,m⟩:=q;obtain⟨j,hj⟩:=Qe (cell/16) (lay+came-i) m;refine⟨⟨came,0,0,lay+came-i-j,j,i⟩,λ_=>⟨b,r,t,d,m,rfl⟩,λG=>?_⟩;unfold Gu J9 Jo M4 Qs Oe Rt Tg RP.enc RP.row RK.rest RK.txt R6.enc pmD;rw[An];simp[n1,n2,hi,hj,fzI,Be]
noncomputable def nms(h:RH):List Str:=h.ps.map RP.nm
theorem Ox(G:DH):∀ps:List RP,Bc (gV 0) Aw Lq [xy] (ps.map RP.enc) G=.ok ((ps.map RP.nm).map D.str) G
 |[]=>rfl
 |p::ps=>by
  have ih:=Ox G ps;have he:Lq [xk p.enc] G=.ok (.str p.nm) G:=by unfold Lq;simp
  rw[zK,El];simp[he,ih]
theorem ZBU(G:DH):∀ps:List RP,Bc (gV 0) Aw Wv [xy] (ps.map RP.enc) G=.ok ((ps.map RP.nm).map D.str) G:=Ox G
theorem X7{x:Str}(h:x∈ns)(hl:ns.length<=1000000)(G:DH):Hf (.fl (ns.map D.str)) [.str x] G=.ok (.int (ns.idxOf x)) G:=by
 have e:G9 (ns.map D.str)=xk ns:=ZBB _
 show(match G9 (ns.map D.str)with |some ns=>if x∈ns/\ns.length<=1000000 then R.ok (D.int (ns.idxOf x)) G else .bad|none=>.bad)=_
 rw[e];exact if_pos ⟨h,hl⟩
theorem Xo(h:RH)(G:DH):freeze G (.ok (.ref G.length) (G++[.lst ((nms h).map D.str)]))=.ok (.fl ((nms h).map D.str)) G:=Ba Jh
theorem ZGX(hn:h.ps.length<=100)(hp:h.ps[k]?=xk p)(hd:p.dn="sea"∨p.dn∈nms h):∃d:D,(d=.non∨∃i:Int,d=.int i)/\∀G,Js [h.enc,.int (k:Int)] G=.ok d G:=by
 have h1:∀G,Ac h.enc (.int 1) G=.ok (.tup (h.ps.map RP.enc)) G:=λG=>Eo
 have a:=Ip hp;have hc:=λG=>Ox G h.ps
 have fz:=λG=>Xo h G
 have ll:((nms h).map D.str).length<=1000000:=by unfold nms;simp;lia
 have hcs:∀a b c:Option D,Ar 1 [] [a,b,c]=[xy]:=λ_ _ _=>rfl
 have en:(h.ps.map RP.nm).map D.str=(nms h).map D.str:=rfl;by_cases hs:p.dn="sea"
 ·refine⟨.non,.inl rfl,λG=>?_⟩;have r2:∀G,Ac p.enc (.int 2) G=.ok (.str "sea") G:=λG=>by rw[renc2,hs]
  rw[en]at hc;generalize(nms h).map D.str=Z at*;generalize h.ps.map RP.enc=Y at*;generalize p.enc=pe at*;generalize h.enc=he at*;unfold Js Rb;rw[An];simp[h1,hcs,hc,ll,fz,a,r2,Be]
 ·have hm:p.dn∈nms h:=hd.resolve_left hs;have hi:=λG=>X7 hm (by unfold nms;simp;lia) G
  refine⟨.int ((nms h).idxOf p.dn),.inr ⟨_,rfl⟩,λG=>?_⟩;have r2:∀G,Ac p.enc (.int 2) G=.ok (.str p.dn) G:=λG=>renc2
  rw[en]at hc;generalize hx:(((nms h).idxOf p.dn:Nat):Int)=ix at*;generalize(nms h).map D.str=Z at*;generalize h.ps.map RP.enc=Y at*;generalize p.enc=pe at*;generalize h.enc=he at*;unfold Js Rb;rw[An];simp[h1,hcs,hc,ll,fz,a,r2,hs,hi,Be]
theorem c_to(hn:h.ps.length<=100)(hp:h.ps[k]?=xk p){b:Int}{r:List Ssn}{t:Str}{d m:Int}(hk:p.kd=.basin b r (xk (t,d,m)))(ht:t∈nms h):∃i:Int,∀G,Le [h.enc,.int (k:Int)] G=.ok (.int i) G:=by
 have h1:∀G,Ac h.enc (.int 1) G=.ok (.tup (h.ps.map RP.enc)) G:=λG=>Eo
 have a:=Ip hp;have hc:=λG=>ZBU G h.ps
 have fz:=λG=>Xo h G
 have ll:((nms h).map D.str).length<=1000000:=by unfold nms;simp;lia
 have hcs:∀a b c:Option D,Ar 1 [] [a,b,c]=[xy]:=λ_ _ _=>rfl
 have en:(h.ps.map RP.nm).map D.str=(nms h).map D.str:=rfl;have hi:=λG=>X7 ht (by unfold nms;simp;lia) G
 have r6:∀G,Ac p.enc (.int 6) G=.ok (.tup [.str t,.int d,.int m]) G:=λG=>by unfold RP.enc RP.row RK.rest;rw[hk];simp[pmD]
 refine⟨((nms h).idxOf t:Nat),λG=>?_⟩;rw[en]at hc;generalize hx:(((nms h).idxOf t:Nat):Int)=ix at*;generalize(nms h).map D.str=Z at*;generalize h.ps.map RP.enc=Y at*;generalize p.enc=pe at*;generalize h.enc=he at*;unfold Le Vw;rw[An];simp[h1,hcs,hc,ll,fz,a,r6,hi,Be]
def DI2(kvs:List (List Key×D)):Prop:=∀kv∈kvs,∃i:Int,kv.2=.int i
theorem valI(h:DI2 kvs)(k:List Key):∃i:Int,(Fj kvs k).getD (.int 0)=.int i:=by
 cases hv:Fj kvs k with
 |none=>exact⟨0,rfl⟩
 |some d=>
  unfold Fj at hv;obtain⟨kv,h1,rfl⟩:=zD.mp hv;obtain⟨i,hi⟩:=h kv (List.mem_of_find?_eq_some h1);exact⟨i,by simp[hi]⟩
theorem Ri(h:DI2 kvs)(k:List Key)(i:Int):DI2 (putD kvs k (.int i))/\(putD kvs k (.int i)).length<=kvs.length+1:=by
 unfold putD;split
 ·refine⟨λkv hkv=>?_,by simp⟩;obtain⟨q,hq,rfl⟩:=qX.mp hkv;split
  ·exact⟨i,rfl⟩
  ·exact h q hq
 ·refine⟨λkv hkv=>?_,by simp⟩;rcases qB.mp hkv with hq|hq
  ·exact h kv hq
  ·have:kv=(k,.int i):=by simpa using hq
   exact⟨i,by rw[this]⟩
theorem key2(i j:Int):Hw [.int i,.int j]=xk [.inl i,.inl j]:=rfl
theorem get2(h:DI2 kvs)(hq:H[q]?=xk (.dcT kvs)){S:DSt}{to:DE}{a b:Int}{ta tb:DE}(ho:to S H=.ok (.ref q) H)(ha:ta S H=.ok (.int a) H)(hb:tb S H=.ok (.int b) H):∃i:Int,Ik to (Aa ta (Aa tb Ab)) (dC (.int 0)) S H=.ok (.int i) H:=by
 obtain⟨i,hi⟩:=valI h [.inl a,.inl b];refine⟨i,?_⟩;have hd:Il (.ref q) H=xk kvs:=by simp[Il,hq]
 unfold Ik;rw[ho];simp[hd,ha,hb,key2,hi]
theorem set2(h:DI2 kvs)(hl:kvs.length<1000000)(hq:H[q]?=xk (.dcT kvs))(a b v:Int):∃kvs',DI2 kvs'/\kvs'.length<=kvs.length+1/\Kr (.ref q) [.int a,.int b] (.int v) H=.ok .non (H.set q (.dcT kvs')):=by obtain⟨h1,h2⟩:=Ri h [.inl a,.inl b] v;refine⟨_,h1,h2,?_⟩;unfold Kr;simp[hq,key2,hl]
theorem Ue(h:DI2 kvs)(hl:kvs.length<1000000)(hq:H[q]?=xk (.dcT kvs))(w c:Int)(hd:d=.non∨∃i:Int,d=.int i):∃kvs',DI2 kvs'/\kvs'.length<=kvs.length+1/\I9 [.ref q,.int w,d,.int c] H=.ok .non (H.set q (.dcT kvs')):=by
 rcases hd with rfl|⟨i,rfl⟩
 ·refine⟨kvs,h,by lia,?_⟩;have e:H.set q (.dcT kvs)=H:=by
   apply List.ext_getElem?;intro n;rw[qC];split
   ·rename_i z;subst z;obtain⟨z1,z2⟩:=zJ.mp hq;rw[if_pos z1,hq]
   ·rfl
  rw[e];unfold I9 Tv;rw[An];simp[Be]
 ·obtain⟨v,hv⟩:=get2 h hq (S:=[zR q,zI w,zI i,zI c]) (to:=dV 0) (ta:=dV 1) (tb:=dV 2) (a:=w) (b:=i) rfl rfl rfl;obtain⟨kvs',h1,h2,h3⟩:=set2 h hl hq w i (v+c);refine⟨kvs',h1,h2,?_⟩;have td:tidy H (.ok .non (H.set q (.dcT kvs')))=.ok .non (H.set q (.dcT kvs')):=Vq (by simp) rfl;unfold I9 Tv;rw[An];simp[hv,Hs,h3,td]
noncomputable def tupI(l:List Int):D:=.tup (l.map D.int)
def stE(lv:List Int)(cm:List (List Int)):D:=.tup [tupI lv,.tup (cm.map tupI)]
structure NmOk (h:RH):Prop where
 dn:∀p∈h.ps,p.dn="sea"∨p.dn∈nms h
 pm:∀p∈h.ps,∀b r t d m,p.kd=.basin b r (xk (t,d,m))->t∈nms h
theorem fzR(r:R6)(G:DH):freeze G (.ok r.enc G)=.ok r.enc G:=Hm (by simp[R6.enc])
theorem Oi(h:k<l.length):atI (l.map D.int) (k:Int)=zI (l.getD k 0):=Bs rfl (by rw[z0,zQ h];simp[qF,h])
theorem ZD9(hn:h.ps.length<=100)(ok:NmOk h)(hw:fl[w]?=xk f)(hf:f.length=h.ps.length)(hk:k<h.ps.length){lay:List Int}(hlay:lay.length=h.ps.length)(hpg:pg.length<=1000)(hd:DI2 kvs)(hkl:kvs.length<=100000)
  {H:DH} {q a r:Nat} (h1:H[q]?=xk (.dcT kvs)) (h2:H[a]?=xk (.lst (lay.map D.int))) (h3:H[r]?=xk (.lst (pg.map R6.enc))) (qa:q≠a) (qr:q≠r) (ar:a≠r) {s1 s6 x10 x11 x12:Option D} {cell:Int}:
  ∃(kvs':List (List Key×D)) (lay':List Int) (v:R6) (y10 y11 y12:Option D),DI2 kvs'/\kvs'.length<=kvs.length+2/\lay'.length=lay.length/\
   Ht [xk h.enc,s1,zF (fl.map tupI),zI cell,zR q,zR a,s6,zI (w:Int),zR r,zI (k:Int),x10,x11,x12] H=
    .nx [xk h.enc,s1,zF (fl.map tupI),zI cell,zR q,zR a,s6,zI (w:Int),zR r,zI (k:Int),y10,y11,y12] (((H.set q (.dcT kvs')).set a (.lst (lay'.map D.int))).set r (.lst ((pg++[v]).map R6.enc))):=by
 obtain⟨p,hp⟩:∃p,h.ps[k]?=xk p:=⟨_,zQ hk⟩;have hpm:p∈h.ps:=qZ hp;have o1:∀G,Ac h.enc (.int 1) G=.ok (.tup (h.ps.map RP.enc)) G:=λG=>Eo
 have ap:=Ip hp;have af:atI (fl.map tupI) (w:Int)=zT (f.map D.int):=Bs rfl (by rw[z0,hw];rfl);have afk:=Oi (l:=f) (k:=k) (by lia);have alk:=Oi (l:=lay) (k:=k) (by lia);obtain⟨g,hg⟩:=get2 hd h1 (S:=[xk h.enc,s1,zF (fl.map tupI),zI cell,zR q,zR a,s6,zI (w:Int),zR r,zI (k:Int),xk p.enc,x11,x12]) (to:=dV 4) (ta:=dV 7) (tb:=dV 9) (a:=w) (b:=k) rfl rfl rfl;have hmod:(0:Int)<10007+30*(k:Int)+2*(w:Int):=by lia
 obtain⟨v,hv,hrow⟩:=ZEF p (lay.getD k 0) (f.getD k 0+g) (cell*48271%(10007+30*(k:Int)+2*(w:Int)));obtain⟨d,hdd,hdown⟩:=ZGX hn hp (ok.dn p hpm);obtain⟨kv1,e1,l1,s1'⟩:=Ue hd (by lia) h1 ((w:Int)+p.dl) v.d hdd;have q1:(H.set q (.dcT kv1))[q]?=xk (.dcT kv1):=qz (zJ.mp h1).1;have p3:∀G,Ac p.enc (.int 3) G=.ok (.int p.dl) G:=λG=>renc3
 have v3:∀G,Ac v.enc (.int 3) G=.ok (.int v.d) G:=λG=>by simp[R6.enc]
 have v4:∀G,Ac v.enc (.int 4) G=.ok (.int v.e) G:=λG=>by simp[R6.enc]
 have v5:∀G,Ac v.enc (.int 5) G=.ok (.int v.f) G:=λG=>by simp[R6.enc]
 have hal:(pg.map R6.enc).length<1000000:=by rw[zX];lia
 have key:∀kv2:List (List Key×D),(H.set q (.dcT kv2))[a]?=xk (.lst (lay.map D.int))/\((H.set q (.dcT kv2)).set a (.lst ((lay.set k v.f).map D.int)))[r]?=xk (.lst (pg.map R6.enc)):=λkv2=>by rw[zE qa,zE ar,zE qr];exact⟨h2,h3⟩
 have hset:∀G:DH,G[a]?=xk (.lst (lay.map D.int))->Ho (.ref a) (.int (k:Int)) (.int v.f) G=.ok .non (G.set a (.lst ((lay.set k v.f).map D.int))):=λG hG=>by have i0:ixN (lay.map D.int).length (k:Int)=xk k:=Rj (by rw[zX];lia);unfold Ho;simp only[hG,i0];rw[List.map_set]
 have i0:ixN (lay.map D.int).length (k:Int)=xk k:=Rj (by rw[zX];lia);have eS:(lay.map D.int).set k (.int v.f)=(lay.set k v.f).map D.int:=by rw[List.map_set]
 clear hset;by_cases he:0<v.e
 ·obtain⟨b,rr,t,dd,m,hkd⟩:=hv he;obtain⟨i,hto⟩:=c_to hn hp hkd (ok.pm p hpm b rr t dd m hkd);obtain⟨kv2,e2,l2,s2'⟩:=Ue e1 (by lia) q1 ((w:Int)+dd) v.e (d:=.int i) (.inr ⟨i,rfl⟩);rw[List.set_set]at s2';obtain⟨k1,k2⟩:=key kv2;have p6:∀G,Ac p.enc (.int 6) G=.ok (.tup [.str t,.int dd,.int m]) G:=λG=>by unfold RP.enc RP.row RK.rest;rw[hkd];simp[pmD]
  refine⟨kv2,lay.set k v.f,v,xk p.enc,zI (f.getD k 0+g),xk v.enc,e2,by lia,by simp,?_⟩;rw[zO,zK,zU];generalize lay.getD k 0=lk at*;generalize f.getD k 0=fk at*;generalize(lay.set k v.f).map D.int=LY2 at*;generalize lay.map D.int=LY at*;generalize pg.map R6.enc=PG at*;generalize fl.map tupI=FL at*;generalize h.ps.map RP.enc=PS at*;generalize f.map D.int=FI at*
  generalize hve:v.enc=ve at*;generalize hpe:p.enc=pe at*;generalize h.enc=he' at*;have fz:freeze H (.ok ve H)=.ok ve H:=by rw[<-hve];exact fzR v H
  unfold Ht;simp[o1,ap,af,afk,h2,alk,hg,hmod,hrow,fz,hdown,p3,v3,s1',v4,he,p6,hto,s2',v5,gIx,k1,i0,eS,k2,hal]
 ·obtain⟨k1,k2⟩:=key kv1;refine⟨kv1,lay.set k v.f,v,xk p.enc,zI (f.getD k 0+g),xk v.enc,e1,by lia,by simp,?_⟩;rw[zO,zK,zU];generalize lay.getD k 0=lk at*;generalize f.getD k 0=fk at*;generalize(lay.set k v.f).map D.int=LY2 at*;generalize lay.map D.int=LY at*;generalize pg.map R6.enc=PG at*;generalize fl.map tupI=FL at*;generalize h.ps.map RP.enc=PS at*
  generalize f.map D.int=FI at*;generalize hve:v.enc=ve at*;generalize hpe:p.enc=pe at*;generalize h.enc=he' at*;have fz:freeze H (.ok ve H)=.ok ve H:=by rw[<-hve];exact fzR v H
  unfold Ht;simp[o1,ap,af,afk,h2,alk,hg,hmod,hrow,fz,hdown,p3,v3,s1',v4,he,v5,gIx,k1,i0,eS,k2,hal]
theorem Uu(hn:h.ps.length<=100)(ok:NmOk h)(hw:fl[w]?=xk f)(hf:f.length=h.ps.length){r:Nat}(qa:q≠a)(qr:q≠r)(ar:a≠r){s1 s6:Option D}{cell:Int}:
  ∀(m k:Nat)(H:DH)(kvs:List (List Key×D))(lay:List Int)(pg:List R6)(x9 x10 x11 x12:Option D),k+m=h.ps.length->lay.length=h.ps.length->pg.length+m<=1000->DI2 kvs->kvs.length+2*m<=100000->H[q]?=xk (.dcT kvs)->H[a]?=xk (.lst (lay.map D.int))->H[r]?=xk (.lst (pg.map R6.enc))->
  ∃(H':DH) (kvs':List (List Key×D)) (lay':List Int) (pg':List R6) (y9 y10 y11 y12:Option D),H'.length=H.length/\(∀i,i≠q->i≠a->i≠r->H'[i]?=H[i]?)/\lay'.length=h.ps.length/\pg'.length=pg.length+m/\DI2 kvs'/\kvs'.length<=kvs.length+2*m/\H'[q]?=xk (.dcT kvs')/\H'[a]?=xk (.lst (lay'.map D.int))/\H'[r]?=xk (.lst (pg'.map R6.enc))/\
   Aq (gV 9) Ht (Ak (k:Int) m) [xk h.enc,s1,zF (fl.map tupI),zI cell,zR q,zR a,s6,zI (w:Int),zR r,x9,x10,x11,x12] H=
    .nx [xk h.enc,s1,zF (fl.map tupI),zI cell,zR q,zR a,s6,zI (w:Int),zR r,y9,y10,y11,y12] H'
 |0,k,H,kvs,lay,pg,x9,x10,x11,x12,e,hl,hp,hd,hk,h1,h2,h3=>⟨H,kvs,lay,pg,x9,x10,x11,x12,rfl,λ_ _ _ _=>rfl,hl,rfl,hd,by lia,h1,h2,h3,by rw[Dj,Dh]⟩
 |m+1,k,H,kvs,lay,pg,x9,x10,x11,x12,e,hl,hp,hd,hk,h1,h2,h3=>by
  obtain⟨kv1,lay1,v,y10,y11,y12,b1,b2,b3,hb⟩:=ZD9 hn ok hw hf (k:=k) (by lia) hl (pg:=pg) (by lia) hd (by lia) h1 h2 h3 qa qr ar (s1:=s1) (s6:=s6) (x10:=x10) (x11:=x11) (x12:=x12) (cell:=cell);have lq:=(zJ.mp h1).1;have la:=(zJ.mp h2).1;have lr:=(zJ.mp h3).1;generalize hH1:((H.set q (.dcT kv1)).set a (.lst (lay1.map D.int))).set r (.lst ((pg++[v]).map R6.enc))=H1 at*
  have g1:H1[q]?=xk (.dcT kv1):=by rw[<-hH1,zE (Ne.symm qr),zE (Ne.symm qa),qz lq]
  have g2:H1[a]?=xk (.lst (lay1.map D.int)):=by rw[<-hH1,zE (Ne.symm ar),qz (by simpa using la)]
  have g3:H1[r]?=xk (.lst ((pg++[v]).map R6.enc)):=by rw[<-hH1,qz (by simpa using lr)]
  have g4:H1.length=H.length:=by rw[<-hH1];simp
  have g5:∀i,i≠q->i≠a->i≠r->H1[i]?=H[i]? :=λi i1 i2 i3=>by rw[<-hH1,zE (Ne.symm i3),zE (Ne.symm i2),zE (Ne.symm i1)]
  obtain⟨H',kv',lay',pg',z9,z10,z11,z12,c1,c2,c3,c4,c5,c6,c7,c8,c9,hL⟩:=Uu hn ok hw hf qa qr ar (s1:=s1) (s6:=s6) (cell:=cell) m (k+1) H1 kv1 lay1 (pg++[v]) (zI (k:Int)) y10 y11 y12 (by lia) (by lia) (by simp;lia) b1 (by lia) g1 g2 g3;refine⟨H',kv',lay',pg',z9,z10,z11,z12,by lia,λi i1 i2 i3=>(c2 i i1 i2 i3).trans (g5 i i1 i2 i3),c3,by rw[c4];simp;lia,c5,by lia,c7,c8,c9,?_⟩;rw[Dl,Dc]
  simp only[Bw,R.Dt,q0,hb,Ds];have e1:((k:Int)+1)=((k+1:Nat):Int):=by lia
  rw[e1,hL]
theorem ZGa(hn:h.ps.length<=100)(ok:NmOk h)(hw:fl[w]?=xk f)(hf:f.length=h.ps.length){c:Nat}(qa:q≠a)(qc:q≠c)(ac:a≠c){s1:Option D}{cell:Int}(H:DH)(kvs:List (List Key×D))(lay:List Int)(pgs:List (List R6))(x8 x9 x10 x11 x12:Option D)(hl:lay.length=h.ps.length)(hp:pgs.length<=1000)(hd:DI2 kvs)(hk:kvs.length+200<=100000)(h1:H[q]?=xk (.dcT kvs))(h2:H[a]?=xk (.lst (lay.map D.int)))(h3:H[c]?=xk (.lst (pgs.map pgE))):
  ∃(H':DH) (kvs':List (List Key×D)) (lay':List Int) (pg:List R6) (y8 y9 y10 y11 y12:Option D),H'.length=H.length+1/\(∀i,i<H.length->i≠q->i≠a->i≠c->H'[i]?=H[i]?)/\lay'.length=h.ps.length/\pg.length=h.ps.length/\DI2 kvs'/\kvs'.length<=kvs.length+200/\H'[q]?=xk (.dcT kvs')/\H'[a]?=xk (.lst (lay'.map D.int))/\H'[c]?=xk (.lst ((pgs++[pg]).map pgE))/\
   Jw [xk h.enc,s1,zF (fl.map tupI),zI cell,zR q,zR a,zR c,zI (w:Int),x8,x9,x10,x11,x12] H=
    .nx [xk h.enc,s1,zF (fl.map tupI),zI cell,zR q,zR a,zR c,zI (w:Int),y8,y9,y10,y11,y12] H':=by
 have lq:=(zJ.mp h1).1;have la:=(zJ.mp h2).1;have lc:=(zJ.mp h3).1;have app:∀{i:Nat}{o:DO},H[i]?=xk o->(H++[DO.lst []])[i]?=xk o:=λ{i o}z=>by rw[zG (zJ.mp z).1];exact z
 obtain⟨H1,kv1,lay1,pg,y9,y10,y11,y12,c1,c2,c3,c4,c5,c6,c7,c8,c9,hL⟩:=Uu hn ok hw hf (q:=q) (a:=a) (r:=H.length) qa (zB lq) (zB la) (s1:=s1) (s6:=zR c) (cell:=cell) h.ps.length 0 (H++[.lst []]) kvs lay [] x9 x10 x11 x12 (by lia) hl (by simp;lia) hd (by lia) (app h1) (app h2) (by simp);have g3:H1[c]?=xk (.lst (pgs.map pgE)):=by rw[c2 c (Ne.symm qc) (Ne.symm ac) (zB lc)];exact app h3
 have lc1:=(zJ.mp g3).1;have lq1:=(zJ.mp c7).1;have tn:tidy H (.ok (.ref H.length) (H++[.lst []]))=.ok (.ref H.length) (H++[.lst []]):=Dq rfl;have o1:∀G,Ac h.enc (.int 1) G=.ok (.tup (h.ps.map RP.enc)) G:=λG=>Eo
 have hlen:∀G,Bf [.tup (h.ps.map RP.enc)] G=.ok (.int h.ps.length) G:=λG=>by simp
 have hr:inR (h.ps.length:Int):=Cg (by lia) (by lia);have hal:(pgs.map pgE).length<1000000:=by rw[zX];lia
 have hL':Aq (gV 9) Ht (Ak 0 h.ps.length) [xk h.enc,s1,zF (fl.map tupI),zI cell,zR q,zR a,zR c,zI (w:Int),zR H.length,x9,x10,x11,x12] (H++[.lst []])=_:=hL;have ep:D.tup (pg.map R6.enc)=pgE pg:=rfl;refine⟨H1.set c (.lst ((pgs++[pg]).map pgE)),kv1,lay1,pg,zR H.length,y9,y10,y11,y12,by rw[qN,c1];simp,λi i0 i1 i2 i3=>?_,c3,by rw[c4];simp,c5,by lia,by rw[zE (Ne.symm qc)];exact c7,by rw[zE (Ne.symm ac)];exact c8,qz lc1,?_⟩
 ·rw[zE (Ne.symm i3),c2 i i1 i2 (zB i0),zG i0]
 ·rw[zO,zK,zU];generalize pgE pg=PE at*;generalize pgs.map pgE=PG at*;generalize fl.map tupI=FL at*;generalize h.ps.map RP.enc=PS at*;generalize h.ps.length=n at*;generalize h.enc=he at*;generalize hHl:H.length=hl' at*;unfold Jw;simp[Ae,hHl,tn,o1,hlen,hr,hL',c9,ep,g3,hal]
theorem Yu(hn:h.ps.length<=100)(ok:NmOk h)(hfl:∀f∈fl,f.length=h.ps.length){c:Nat}(qa:q≠a)(qc:q≠c)(ac:a≠c){s1:Option D}{cell:Int}:
  ∀(m w:Nat)(H:DH)(kvs:List (List Key×D))(lay:List Int)(pgs:List (List R6))(x7 x8 x9 x10 x11 x12:Option D),w+m=fl.length->lay.length=h.ps.length->(∀pg∈pgs,pg.length=h.ps.length)->pgs.length+m<=1000->DI2 kvs->kvs.length+200*m<=100000->H[q]?=xk (.dcT kvs)->H[a]?=xk (.lst (lay.map D.int))->H[c]?=xk (.lst (pgs.map pgE))->
  ∃(H':DH) (pgs':List (List R6)) (y7 y8 y9 y10 y11 y12:Option D),H.length<=H'.length/\(∀i,i<H.length->i≠q->i≠a->i≠c->H'[i]?=H[i]?)/\(∀pg∈pgs',pg.length=h.ps.length)/\pgs'.length=pgs.length+m/\H'[c]?=xk (.lst (pgs'.map pgE))/\
   Aq (gV 7) Jw (Ak (w:Int) m) [xk h.enc,s1,zF (fl.map tupI),zI cell,zR q,zR a,zR c,x7,x8,x9,x10,x11,x12] H=
    .nx [xk h.enc,s1,zF (fl.map tupI),zI cell,zR q,zR a,zR c,y7,y8,y9,y10,y11,y12] H'
 |0,w,H,kvs,lay,pgs,x7,x8,x9,x10,x11,x12,e,hl,hpg,hp,hd,hk,h1,h2,h3=>⟨H,pgs,x7,x8,x9,x10,x11,x12,zq _,λ_ _ _ _ _=>rfl,hpg,rfl,h3,by rw[Dj,Dh]⟩
 | m+1,w,H,kvs,lay,pgs,x7,x8,x9,x10,x11,x12,e,hl,hpg,hp,hd,hk,h1,h2,h3=>by
  obtain⟨f,hw⟩:∃f,fl[w]?=xk f:=⟨_,zQ (by lia)⟩;obtain⟨H1,kv1,lay1,pg,y8,y9,y10,y11,y12,c1,c2,c3,c4,c5,c6,c7,c8,c9,hb⟩:=ZGa hn ok hw (hfl f (qZ hw)) qa qc ac (s1:=s1) (cell:=cell) H kvs lay pgs x8 x9 x10 x11 x12 hl (by lia) hd (by lia) h1 h2 h3;obtain⟨H',pgs',z7,z8,z9,z10,z11,z12,d1,d2,d3,d4,d5,hL⟩:=Yu hn ok hfl qa qc ac (s1:=s1) (cell:=cell) m (w+1) H1 kv1 lay1 (pgs++[pg]) (zI (w:Int)) y8 y9 y10 y11 y12 (by lia) c3 (λx hx=>by
   rcases qB.mp hx with hx|hx
   ·exact hpg x hx
   ·have:x=pg:=by simpa using hx
    rw[this];exact c4) (by simp;lia) c5 (by lia) c7 c8 c9
  refine⟨H',pgs',z7,z8,z9,z10,z11,z12,by lia,λi i0 i1 i2 i3=>(d2 i (by lia) i1 i2 i3).trans (c2 i i0 i1 i2 i3),d3,by rw[d4];simp;lia,d5,?_⟩;rw[Dl,Dc];simp only[Bw,R.Dt,q0,hb,Ds];have e1:((w:Int)+1)=((w+1:Nat):Int):=by lia
  rw[e1,hL]
theorem Xj{lv:List Int}{k:Nat}{r:List Int}(hk:cm[k]?=xk r)(hr:5<=r.length){G:DH}:∀(m j:Nat)(kvs:List (List Key×D))(x3:Option D),j+m=5->DI2 kvs->kvs.length+m<=100000->∃(kvs':List (List Key×D))(y3:Option D),DI2 kvs'/\kvs'.length<=kvs.length+m/\
  Aq (gV 3) Jz (Ak (j:Int) m) [xk (stE lv cm),zR G.length,zI (k:Int),x3] (G++[.dcT kvs])=.nx [xk (stE lv cm),zR G.length,zI (k:Int),y3] (G++[.dcT kvs'])
 |0,j,kvs,x3,e,hd,hl=>⟨kvs,x3,hd,by lia,by rw[Dj,Dh]⟩
 |m+1,j,kvs,x3,e,hd,hl=>by
  have h1:(G++[DO.dcT kvs])[G.length]?=xk (.dcT kvs):=by simp
  obtain⟨kv1,b1,b2,b3⟩:=set2 hd (by lia) h1 (j:Int) (k:Int) (r.getD j 0);have s0:(G++[DO.dcT kvs]).set G.length (.dcT kv1)=G++[.dcT kv1]:=by rw[Fv];rfl
  rw[s0]at b3;have o1:∀G,Ac (stE lv cm) (.int 1) G=.ok (.tup (cm.map tupI)) G:=λG=>by simp[stE]
  have ak:atI (cm.map tupI) (k:Int)=zT (r.map D.int):=Bs rfl (by rw[z0,hk];rfl);have aj:=Oi (l:=r) (k:=j) (by lia);have hb:Jz [xk (stE lv cm),zR G.length,zI (k:Int),zI (j:Int)] (G++[.dcT kvs])=.nx [xk (stE lv cm),zR G.length,zI (k:Int),zI (j:Int)] (G++[.dcT kv1]):=by generalize r.getD j 0=rj at*;generalize cm.map tupI=C at*;generalize stE lv cm=SE at*;generalize r.map D.int=RI at*;unfold Jz;simp[o1,ak,aj,Hs,b3]
  obtain⟨kv',z3,c1,c2,hL⟩:=Xj hk hr (lv:=lv) (G:=G) m (j+1) kv1 (zI (j:Int)) (by lia) b1 (by lia);refine⟨kv',z3,c1,by lia,?_⟩;rw[Dl,Dc];simp only[Bw,R.Dt,q0,hb,Ds];have e1:((j:Int)+1)=((j+1:Nat):Int):=by lia
  rw[e1,hL]
theorem Xq{lv:List Int}(hcm:∀r∈cm,5<=r.length){G:DH}:∀(m k:Nat)(kvs:List (List Key×D))(x2 x3:Option D),k+m=cm.length->DI2 kvs->kvs.length+5*m<=100000->∃(kvs':List (List Key×D))(y2 y3:Option D),DI2 kvs'/\kvs'.length<=kvs.length+5*m/\
  Aq (gV 2) Iu (Ak (k:Int) m) [xk (stE lv cm),zR G.length,x2,x3] (G++[.dcT kvs])=.nx [xk (stE lv cm),zR G.length,y2,y3] (G++[.dcT kvs'])
 |0,k,kvs,x2,x3,e,hd,hl=>⟨kvs,x2,x3,hd,by lia,by rw[Dj,Dh]⟩
 |m+1,k,kvs,x2,x3,e,hd,hl=>by
  obtain⟨r,hk⟩:∃r,cm[k]?=xk r:=⟨_,zQ (by lia)⟩;obtain⟨kv1,y3,b1,b2,hi⟩:=Xj hk (hcm r (qZ hk)) (lv:=lv) (G:=G) 5 0 kvs x3 (by lia) hd (by lia);have hi':Aq (gV 3) Jz (Ak 0 5) [xk (stE lv cm),zR G.length,zI (k:Int),x3] (G++[.dcT kvs])=_:=hi;have hr5:inR 5:=Cg (by decide) (by decide);have hb:Iu [xk (stE lv cm),zR G.length,zI (k:Int),x3] (G++[.dcT kvs])=.nx [xk (stE lv cm),zR G.length,zI (k:Int),y3] (G++[.dcT kv1]):=by generalize stE lv cm=SE at*;unfold Iu;simp[hr5,hi']
  obtain⟨kv',z2,z3,c1,c2,hL⟩:=Xq hcm (lv:=lv) (G:=G) m (k+1) kv1 (zI (k:Int)) y3 (by lia) b1 (by lia);refine⟨kv',z2,z3,c1,by lia,?_⟩;rw[Dl,Dc];simp only[Bw,R.Dt,q0,hb,Ds];have e1:((k:Int)+1)=((k+1:Nat):Int):=by lia
  rw[e1,hL]
theorem ZCO{lv:List Int}(hcm:∀r∈cm,5<=r.length)(hl:cm.length<=100)(G:DH):∃kvs,DI2 kvs/\kvs.length<=500/\M3 [stE lv cm] G=.ok (.ref G.length) (G++[.dcT kvs]):=by
 obtain⟨kvs,y2,y3,b1,b2,hL⟩:=Xq hcm (lv:=lv) (G:=G) cm.length 0 [] xy xy (by lia) (by intro kv h;cases h) (by simp;lia);refine⟨kvs,b1,by simp at b2;lia,?_⟩;have hL':Aq (gV 2) Iu (Ak 0 cm.length) [xk (stE lv cm),zR G.length,xy,xy] (G++[.dcT []])=_:=hL;have o1:∀G,Ac (stE lv cm) (.int 1) G=.ok (.tup (cm.map tupI)) G:=λG=>by simp[stE]
 have hlen:∀G,Bf [.tup (cm.map tupI)] G=.ok (.int cm.length) G:=λG=>by simp
 have hr:inR (cm.length:Int):=Cg (by lia) (by lia);have bo:Fb G.length (.dcT kvs)=x0:=by
  show bels G.length (kvs.map (·.2))=x0
  exact Dg λkv hkv=>by obtain⟨i,hi⟩:=b1 kv hkv;rw[hi];rfl
 have td:tidy G (.ok (.ref G.length) (G++[.dcT kvs]))=.ok (.ref G.length) (G++[.dcT kvs]):=by
  unfold tidy;have e:(G++[DO.dcT kvs])[G.length]?=xk (.dcT kvs):=by simp
  have nb:bel G.length (.ref G.length)=xA:=by simp[bel]
  simp[e,bo]
 generalize cm.map tupI=C at*;generalize stE lv cm=SE at*;generalize cm.length=n at*;unfold M3 ZAO;rw[An];simp[Kg,o1,hlen,hr,hL',td]
theorem ZDI(hn:h.ps.length<=100)(ok:NmOk h){lv:List Int}(hlv:lv.length=h.ps.length)(hcm:∀r∈cm,5<=r.length)(hcl:cm.length<=100)(hfl:∀f∈fl,f.length=h.ps.length)(hfn:fl.length<=100)(cell:Int)(G:DH):
  ∃pgs:List (List R6),(∀pg∈pgs,pg.length=h.ps.length)/\pgs.length=fl.length/\freeze G (La [h.enc,stE lv cm,.fl (fl.map tupI),.int cell] G)=.ok (.fl (pgs.map pgE)) G:=by
 obtain⟨kvs,b1,b2,hdue⟩:=ZCO hcm hcl (lv:=lv) G;obtain⟨H',pgs,y7,y8,y9,y10,y11,y12,d1,d2,d3,d4,d5,hL⟩:=Yu hn ok hfl (q:=G.length) (a:=G.length+1) (c:=G.length+2) (by lia) (by lia) (by lia) (s1:=xk (stE lv cm)) (cell:=cell) fl.length 0 (G++[.dcT kvs,.lst (lv.map D.int),.lst []]) kvs lv [] xy xy xy xy xy xy (by lia) hlv (by intro x hx;cases hx) (by simp;lia) b1 (by lia) (by simp) (by simp) (by simp)
 refine⟨pgs,d3,by rw[d4];simp,?_⟩;have hL':Aq (gV 7) Jw (Ak 0 fl.length) [xk h.enc,xk (stE lv cm),zF (fl.map tupI),zI cell,zR G.length,zR (G.length+1),zR (G.length+2),xy,xy,xy,xy,xy,xy] (G++[.dcT kvs,.lst (lv.map D.int),.lst []])=_:=hL;have hle:G.length+3<=H'.length:=by have:=d1;simp at this;lia
 have hpre:H'.take G.length=G:=by
  apply List.ext_getElem?;intro i;by_cases hi:i<G.length
  ·rw[qH hi,d2 i (by simp;lia) (by lia) (by lia) (by lia),zG hi]
  ·rw[zM (by simp;lia),zM (by lia)]
 have hH:H'=G++H'.drop G.length:=by have:=List.take_append_drop G.length H';rw[hpre]at this;exact this.symm
 have h2:(H'.drop G.length)[2]?=xk (.lst (pgs.map pgE)):=by rw[List.getElem?_drop];exact d5
 have be:bels G.length (pgs.map pgE)=x0:=Dg λpg _=>by unfold pgE;show bels _ (pg.map R6.enc)=x0;exact Dg λr _=>by simp[R6.enc]
 have td:tidy G (.ok (.ref (G.length+2)) H')=.ok (.ref G.length) (G++[.lst (pgs.map pgE)]):=by rw[hH];have:=Uc (G:=G) (H'.drop G.length) (k:=2) h2 be;exact this
 have fz:freeze G (.ok (.ref G.length) (G++[.lst (pgs.map pgE)]))=.ok (.fl (pgs.map pgE)) G:=Ba be;have o0:∀G,Ac (stE lv cm) (.int 0) G=.ok (.tup (lv.map D.int)) G:=λG=>by simp[stE,tupI]
 have t1:tidy (G++[.dcT kvs]) (.ok (.ref (G.length+1)) (G++[.dcT kvs,.lst (lv.map D.int)]))=.ok (.ref (G.length+1)) (G++[.dcT kvs,.lst (lv.map D.int)]):=U3 (L:=[]) Do;have t2:tidy (G++[.dcT kvs,.lst (lv.map D.int)]) (.ok (.ref (G.length+2)) (G++[.dcT kvs,.lst (lv.map D.int),.lst []]))=.ok (.ref (G.length+2)) (G++[.dcT kvs,.lst (lv.map D.int),.lst []]):=Z9 (L:=[]) rfl;have hlen:∀G,Bf [.fl (fl.map tupI)] G=.ok (.int fl.length) G:=λG=>by simp
 have hr:inR (fl.length:Int):=Cg (by lia) (by lia);generalize fl.map tupI=FL at*;generalize pgs.map pgE=PG at*;generalize lv.map D.int=LV at*;generalize fl.length=n at*;generalize stE lv cm=SE at*;generalize h.enc=he at*;unfold La Yg Zg Yd Zb Um;rw[An];simp[Ae,hdue,o0,t1,t2,hlen,hr,hL',td,fz]
structure GvOk (h:RH) (lv:List Int) (cm fl pays:List (List Int)) (left:List Int):Prop where
 n:h.ps.length<=100
 nm:NmOk h
 lv:lv.length=h.ps.length
 cr:∀r∈cm,5<=r.length
 cl:cm.length<=100
 fr:∀f∈fl,f.length=h.ps.length
 fn:fl.length<=100
 pn:pays.length=fl.length
 py:∀l∈pays,l.length=h.ps.length/\Sml l
 lf:left.length=h.ps.length/\Sml left
theorem ZAV{α:Type}{xs:List α}:cutD xs xy (xk 1)=xs.take 1:=by
 cases xs with
 |nil=>rfl
 |cons x r=>
  have e:HT.sIx (x::r).length (x::r).length (xk 1)=1:=by have:=(K8 (x::r).length 1).1;simp only[qU]at this⊢;lia
  unfold cutD;rw[e]
  rfl
theorem Rq:bels n (pgs.map pgE)=x0:=Dg λpg _=>by unfold pgE;show bels _ (pg.map R6.enc)=x0;exact Dg λr _=>by simp[R6.enc]
theorem Mf:bels n (pyD pays)=x0:=Dg λl _=>by show bels _ (l.map D.int)=x0;exact Do
theorem ZFm:okD (n+4) (.fl (pgs.map pgE))=x0:=Oa λd hd=>by
 obtain⟨pg,_,rfl⟩:=qX.mp hd;refine Pk (n:=n+2) λd hd=>?_
 obtain⟨r,_,rfl⟩:=qX.mp hd;refine Pk (n:=n+1) λd hd=>?_
 simp at hd
 rcases hd with rfl|rfl|rfl|rfl|rfl|rfl<;>rfl
theorem ZAi:okD (n+4) (.fl (pyD pays))=x0:=Oa λd hd=>by
 obtain⟨l,_,rfl⟩:=qX.mp hd;refine Pk (n:=n+2) λd hd=>?_
 obtain⟨i,_,rfl⟩:=qX.mp hd
 rfl
theorem W6(G:DH):Hh [.int i] G=.ok (.bl x0) G:=by unfold Hh Ve;rw[An];simp[Be,tyD]
theorem ZFH{lv:List Int}{left:List Int}(gv:GvOk h lv cm fl pays left)(cell:Int)(G:DH)(s0 x7 x8 x9:Option D):∃y7 y8 y9,
  Ko [s0,xk h.enc,xk (stE lv cm),zF (fl.map tupI),zF (pyD pays),zT (left.map D.int),zI cell,x7,x8,x9] G=.nx [s0,xk h.enc,xk (stE lv cm),zF (fl.map tupI),zF (pyD pays),zT (left.map D.int),zI cell,y7,y8,y9] G:=by
 obtain⟨pgs,p1,p2,hpg⟩:=ZDI gv.n gv.nm gv.lv gv.cr gv.cl gv.fr gv.fn cell G;have fn:=gv.fn;have ft:Fit h pgs pays left:=⟨by rw[gv.pn,p2],p1,gv.py,gv.lf⟩;have ft1:Fit h (pgs.take 1) (pays.take 1) left:=⟨by rw[qK,qK,gv.pn,p2],λx hx=>p1 x (List.mem_of_mem_take hx),λx hx=>gv.py x (List.mem_of_mem_take hx),gv.lf⟩;have e1:=λG=>Nu ft gv.n (by lia) G
 have e2:=λG=>W8 ft gv.n (by lia) G
 have e3:=λG=>Nu ft1 gv.n (by rw[qK];lia) G
 have e4:=λG=>W8 ft1 gv.n (by rw[qK];lia) G
 have ep:(pgs.map pgE).take 1=(pgs.take 1).map pgE:=by rw[List.map_take]
 have ey:(pyD pays).take 1=pyD (pays.take 1):=by unfold pyD;rw[List.map_take]
 have c1:cutD (pgs.map pgE) xy (xk 1)=(pgs.take 1).map pgE:=by rw[ZAV,ep]
 have c2:cutD (pyD pays) xy (xk 1)=pyD (pays.take 1):=by rw[ZAV,ey]
 have f1:∀G:DH,freeze G (.ok (.ref G.length) (G++[.lst (pgs.map pgE)]))=.ok (.fl (pgs.map pgE)) G:=λG=>Ba Rq
 have f2:∀G:DH,freeze G (.ok (.ref G.length) (G++[.lst (pyD pays)]))=.ok (.fl (pyD pays)) G:=λG=>Ba Mf
 have f3:∀G:DH,freeze G (.ok (.ref G.length) (G++[.lst [.fl (pgs.map pgE),.fl (pyD pays)]]))=.ok (.fl [.fl (pgs.map pgE),.fl (pyD pays)]) G:=λG=>Ba (by simp[bels,bel,Rq,Mf])
 have f4:∀G:DH,freeze G (.ok (.ref G.length) (G++[.lst ((pgs.take 1).map pgE)]))=.ok (.fl ((pgs.take 1).map pgE)) G:=λG=>Ba Rq
 have f5:∀G:DH,freeze G (.ok (.ref G.length) (G++[.lst (pyD (pays.take 1))]))=.ok (.fl (pyD (pays.take 1))) G:=λG=>Ba Mf
 have nn:∀G,Ed (.fl [.fl (pgs.map pgE),.fl (pyD pays)]) (.fl [.fl (pgs.map pgE),.fl (pyD pays)]) G=.ok (.bl xA) G:=λG=>ZCl (Oa λd hd=>by
  simp at hd;rcases hd with rfl|rfl
  ·exact ZFm
  ·exact ZAi)
 generalize smT h pgs pays+lst71 h pgs left=V1 at*;generalize smT h (pgs.take 1) (pays.take 1)+lst71 h (pgs.take 1) left=V2 at*;refine⟨zF (pgs.map pgE),zF [.fl (pgs.map pgE),.fl (pyD pays)],zI V2,?_⟩;generalize(pgs.take 1).map pgE=PG1 at*;generalize pgs.map pgE=PG at*;generalize pyD (pays.take 1)=PY1 at*;generalize pyD pays=PY at*;generalize left.map D.int=LF at*;generalize fl.map tupI=FL at*
 generalize stE lv cm=SE at*;generalize h.enc=he at*;unfold Ko;simp[Ae,hpg,f1,f2,f3,e1,W6,e2,nn,c1,c2,f4,f5,e3,e4]
theorem Zf{lv:List Int}{left:List Int}(gv:GvOk h lv cm fl pays left)(G:DH)(s0:Option D):∀(cs:List Int)(x6 x7 x8 x9:Option D),∃y6 y7 y8 y9,
  Aq (gV 6) Ko (cs.map D.int) [s0,xk h.enc,xk (stE lv cm),zF (fl.map tupI),zF (pyD pays),zT (left.map D.int),x6,x7,x8,x9] G=.nx [s0,xk h.enc,xk (stE lv cm),zF (fl.map tupI),zF (pyD pays),zT (left.map D.int),y6,y7,y8,y9] G
 |[],x6,x7,x8,x9=>⟨x6,x7,x8,x9,by rw[zU,Dh]⟩
 |c::cs,x6,x7,x8,x9=>by obtain⟨y7,y8,y9,hb⟩:=ZFH gv c G s0 x7 x8 x9;obtain⟨z6,z7,z8,z9,hL⟩:=Zf gv G s0 cs (zI c) y7 y8 y9;refine⟨z6,z7,z8,z9,?_⟩;rw[zK,Dc];simp only[Bw,R.Dt,q0,hb,Ds];exact hL
theorem Xl{cell scale:Int}:∀(m j:Nat)(most hgt:Int)(acc:List Stp)(x5 x6 x7:Option D),acc.length+m<=100->∃(st:List Stp)(most' hgt':Int)(y5 y6 y7:Option D),∀G:DH,
  Aq (gV 5) Hv (Ak (j:Int) m) [zI cell,zI most,zI scale,zR G.length,zI hgt,x5,x6,x7] (G++[.lst (acc.map Stp.enc)])=
   .nx [zI cell,zI most',zI scale,zR G.length,zI hgt',y5,y6,y7] (G++[.lst (st.map Stp.enc)])
 |0,j,most,hgt,acc,x5,x6,x7,_=>⟨acc,most,hgt,x5,x6,x7,λG=>by rw[Dj,Dh]⟩
 | m + 1,j,most,hgt,acc,x5,x6,x7,h=>by
  obtain⟨i1,b1,t1⟩:=Bu (cell+(j:Int)) (p:=10243) (m:=4) (by decide) (by decide);obtain⟨i2,b2,t2⟩:=Bu (cell+(j:Int)) (p:=10247) (m:=2) (by decide) (by decide);obtain⟨i3,b3,t3⟩:=Bu (cell+(j:Int)) (p:=10253) (m:=3) (by decide) (by decide);have m1:∀G,Ai (.int (1+i1)) (.int scale) G=.ok (.int ((1+i1)*scale)) G:=λG=>Cw (by lia) (by lia)
  have m3:∀G,Ai (.int i3) (.int scale) G=.ok (.int (i3*scale)) G:=λG=>Cw (by lia) (by lia)
  have hal:(acc.map Stp.enc).length<1000000:=by rw[zX];lia
  have key:∃(s:Stp)(most' hgt':Int)(y6 y7:Option D),∀G:DH,Hv [zI cell,zI most,zI scale,zR G.length,zI hgt,zI (j:Int),x6,x7] (G++[.lst (acc.map Stp.enc)])=
    .nx [zI cell,zI most',zI scale,zR G.length,zI hgt',zI (j:Int),y6,y7] (G++[.lst ((acc++[s]).map Stp.enc)]):=by
   by_cases hc:0<most/\i2=0
   ·refine⟨⟨hgt,min ((1+i1)*scale) most,xA⟩,most-min ((1+i1)*scale) most,hgt+min ((1+i1)*scale) most+i3*scale,zI (min ((1+i1)*scale) most),zS "pump",λG=>?_⟩;have e0:Stp.enc ⟨hgt,min ((1+i1)*scale) most,xA⟩=.tup [.int hgt,.int (min ((1+i1)*scale) most),.str "pump"]:=rfl;rw[zO,zK,zU,e0];generalize acc.map Stp.enc=A at*;unfold Hv
    simp[t1,t2,t3,m1,m3,hc.1,hc.2,Ea,Fv,hal]
   ·refine⟨⟨hgt,(1+i1)*scale,x0⟩,most,hgt+(1+i1)*scale+i3*scale,zI ((1+i1)*scale),zS "river",λG=>?_⟩;have e0:Stp.enc ⟨hgt,(1+i1)*scale,x0⟩=.tup [.int hgt,.int ((1+i1)*scale),.str "river"]:=rfl;rw[zO,zK,zU,e0];generalize acc.map Stp.enc=A at*;unfold Hv;by_cases h2:0<most
    ·have h3:¬i2=0:=λz=>hc ⟨h2,z⟩
     simp[t1,t2,t3,m1,m3,h2,h3,Ea,Fv,hal]
    ·simp[t1,t2,t3,m1,m3,h2,Ea,Fv,hal]
  obtain⟨s,mo,hg,y6,y7,hb⟩:=key;obtain⟨st,mo',hg',z5,z6,z7,ih⟩:=Xl (cell:=cell) (scale:=scale) m (j+1) mo hg (acc++[s]) (zI (j:Int)) y6 y7 (by simp;lia);refine⟨st,mo',hg',z5,z6,z7,λG=>?_⟩;rw[Dl,Dc];simp only[Bw,R.Dt,q0,hb,Ds];have e1:((j:Int)+1)=((j+1:Nat):Int):=by lia
  rw[e1,ih]
theorem Zx(cell most scale:Int):∃st:List Stp,∀G,Jv [.int cell,.int most,.int scale] G=.ok (.tup (st.map Stp.enc)) G:=by
 obtain⟨i1,b1,t1⟩:=Bu cell (p:=10211) (m:=4) (by decide) (by decide);obtain⟨i2,b2,t2⟩:=Bu cell (p:=10223) (m:=4) (by decide) (by decide);obtain⟨n,en⟩:∃n:Nat,i2=n:=⟨i2.toNat,by lia⟩;obtain⟨st,mo,hg,y5,y6,y7,hL⟩:=Xl (cell:=cell) (scale:=scale) n 0 most (i1*scale) [] xy xy xy (by simp;lia);refine⟨st,λG=>?_⟩;have m1:∀G,Ai (.int i1) (.int scale) G=.ok (.int (i1*scale)) G:=λG=>Cw (by lia) (by lia)
 have hr:inR (n:Int):=Cg (by lia) (by lia);have tn:tidy G (.ok (.ref G.length) (G++[.lst []]))=.ok (.ref G.length) (G++[.lst []]):=Dq rfl;have hL':Aq (gV 5) Hv (Ak 0 n) [zI cell,zI most,zI scale,zR G.length,zI (i1*scale),xy,xy,xy] (G++[.lst []])=_:=hL G;have be:bels G.length (st.map Stp.enc)=x0:=by simp
 generalize st.map Stp.enc=Z at*;have td:tidy G (.ok (.tup Z) (G++[.lst Z]))=.ok (.tup Z) G:=Hq (by simpa[bel]using be);unfold Jv Vc;rw[An];simp[Ae,tn,t1,m1,t2,en,hr,hL',Ea,td]
theorem Xe(cell most scale year:Int):∃r:List Ssn,∀G,Ju [.int cell,.int most,.int scale,.int year] G=.ok (.tup (r.map Cy)) G:=by
 obtain⟨s1,h1⟩:=Zx cell most scale;obtain⟨s2,h2⟩:=Zx (cell/3+1) most scale;have be1:∀n,bels n (s1.map Stp.enc)=x0:=λn=>by simp
 have be2:∀n,bels n (s2.map Stp.enc)=x0:=λn=>by simp
 by_cases hy:1<year
 ·refine⟨[(0,s1),(year-1,s2)],λG=>?_⟩;have e: [((0:Int),s1),(year-1,s2)].map Cy=[.tup [.int 0,.tup (s1.map Stp.enc)],.tup [.int (year-1),.tup (s2.map Stp.enc)]]:=rfl;rw[e];generalize s1.map Stp.enc=A at*;generalize s2.map Stp.enc=B at*;have tn:tidy G (.ok (.ref G.length) (G++[.lst [.tup [.int 0,.tup A]]]))=.ok (.ref G.length) (G++[.lst [.tup [.int 0,.tup A]]]):=Dq (by simp[be1]);have td:∀L:DH,tidy G (.ok (.tup [.tup [.int 0,.tup A],.tup [.int (year-1),.tup B]]) (G++L))=.ok (.tup [.tup [.int 0,.tup A],.tup [.int (year-1),.tup B]]) G:=λL=>Hq (by simp[be1,be2])
  unfold Ju Nh;rw[An];simp[Ae,h1,tn,hy,h2,Ea,Fv,td]
 ·refine⟨[(0,s1)],λG=>?_⟩;have e: [((0:Int),s1)].map Cy=[.tup [.int 0,.tup (s1.map Stp.enc)]]:=rfl;rw[e];generalize s1.map Stp.enc=A at*;have tn:tidy G (.ok (.ref G.length) (G++[.lst [.tup [.int 0,.tup A]]]))=.ok (.ref G.length) (G++[.lst [.tup [.int 0,.tup A]]]):=Dq (by simp[be1]);have td:∀L:DH,tidy G (.ok (.tup [.tup [.int 0,.tup A]]) (G++L))=.ok (.tup [.tup [.int 0,.tup A]]) G:=λL=>Hq (by simp[be1])
  unfold Ju Nh;rw[An];simp[Ae,h1,tn,hy,Ea,td]
theorem Oo(h0:0<=i)(h1:i<(l.length:Int)):∃v:Int,∀G,Ac (.fl (l.map D.int)) (.int i) G=.ok (.int v) G:=by
 have hl:i<((l.map D.int).length:Int):=by rw[zX];exact h1
 have e:=Qi h0 hl;rw[List.getElem_map]at e;exact⟨_,λG=>by simp[e];rfl⟩
theorem Hu{l:List Str}(h0:0<=i)(h1:i<(l.length:Int)):∃v∈l,atI (l.map D.str) i=zS v:=by
 have hl:i<((l.map D.str).length:Int):=by rw[zX];exact h1
 have e:=Qi h0 hl;rw[List.getElem_map]at e;exact⟨_,jw _,e⟩
def POk(ns:List Str)(p:RP):Prop:=(p.dn="sea"∨p.dn∈ns)/\∀b r t d m,p.kd=.basin b r (xk (t,d,m))->t∈ns
theorem ZFW(hn:ns.length=n)(hk:k<n)(hn6:n<=6)(c0 c1 c2 scale year:Int):∃p:RP,p.nm=ns.getD k ""/\POk ns p/\∀G,freeze G (Fd [.fl [.int c0,.int c1,.int c2],.int (k:Int),.fl (ns.map D.str),.int scale,.int year] G)=.ok p.enc G:=by
 obtain⟨i1,b1,t1⟩:=Bu c0 (p:=10007) (m:=(n:Int)-(k:Int)) (by decide) (by lia);obtain⟨i2,b2,t2⟩:=Bu c0 (p:=10009) (m:=9) (by decide) (by decide);obtain⟨i3,b3,t3⟩:=Bu c1 (p:=10037) (m:=8) (by decide) (by decide);obtain⟨i4,b4,t4⟩:=Bu c0 (p:=10039) (m:=5) (by decide) (by decide);obtain⟨i5,b5,t5⟩:=Bu c1 (p:=10061) (m:=3) (by decide) (by decide);obtain⟨i6,b6,t6⟩:=Bu c2 (p:=10067) (m:=2) (by decide) (by decide)
 obtain⟨dn,hdn,adn⟩:=Hu (l:=ns++[("sea":Str)]) (i:=(k:Int)+1+i1) (by lia) (by simp;lia);have hdn':dn="sea"∨dn∈ns:=by
  rcases qB.mp hdn with h|h
  ·exact .inr h
  ·exact .inl (by simpa using h)
 obtain⟨dl,hdl⟩:=Oo (l:=[0,0,0,1,1,2,3,4,5]) (i:=i2) (by lia) b2.2;have hdl':∀G,Ac (.fl [.int 0,.int 0,.int 0,.int 1,.int 1,.int 2,.int 3,.int 4,.int 5]) (.int i2) G=.ok (.int dl) G:=hdl;have ank:atI (ns.map D.str) (k:Int)=zS (ns.getD k ""):=Bs rfl (by rw[z0,zQ (by lia)];simp[qF,(by lia:k<ns.length)]);have m3:∀G,Ai (.int i3) (.int scale) G=.ok (.int (i3*scale)) G:=λG=>Cw (by lia) (by lia)
 have fz1:∀G:DH,freeze G (.ok (.ref G.length) (G++[.lst [.str "sea"]]))=.ok (.fl [.str "sea"]) G:=λG=>Ba rfl
 have es:(ns++[("sea":Str)]).map D.str=ns.map D.str++[.str "sea"]:=by simp
 have fz2:∀G:DH,freeze G (.ok (.ref G.length) (G++[.lst (ns.map D.str++[.str "sea"])]))=.ok (.fl (ns.map D.str++[.str "sea"])) G:=λG=>Ba (by rw[<-es];exact Jh)
 have ll:(ns.map D.str).length+1<=1000000:=by rw[zX];lia
 have ad:∀G,Af (.fl (ns.map D.str)) (.fl [.str "sea"]) G=.ok (.ref G.length) (G++[.lst (ns.map D.str++[.str "sea"])]):=λG=>by simp;lia
 have fz3:∀G:DH,freeze G (.ok (.ref G.length) (G++[.lst [.int 0,.int 0,.int 0,.int 1,.int 1,.int 2,.int 3,.int 4,.int 5]]))=.ok (.fl [.int 0,.int 0,.int 0,.int 1,.int 1,.int 2,.int 3,.int 4,.int 5]) G:=λG=>Ba rfl
 have hlen:∀G,Bf [.fl (ns.map D.str)] G=.ok (.int n) G:=λG=>by simp[hn]
 have fin:∀(p:RP),(∀G,Fd [.fl [.int c0,.int c1,.int c2],.int (k:Int),.fl (ns.map D.str),.int scale,.int year] G=.ok p.enc G)->∀G,freeze G (Fd [.fl [.int c0,.int c1,.int c2],.int (k:Int),.fl (ns.map D.str),.int scale,.int year] G)=.ok p.enc G:=λp h G=>by rw[h];exact Hm J7
 rw[es]at adn;generalize hNM:ns.getD k ""=nm at*;have head:∀G,Rr [zF [.int c0,.int c1,.int c2],zI (k:Int),zF (ns.map D.str),zI scale,zI year,zI n,xy,xy,xy,xy,xy,xy,xy] G=
   Hd [zF [.int c0,.int c1,.int c2],zI (k:Int),zF (ns.map D.str),zI scale,zI year,zI n,zS dn,zT [.str nm,.str dn,.int dl],zI (i3*scale),zI i4,xy,xy,xy] G:=λG=>by
  generalize ns.map D.str=NS at*;unfold Rr Yx Uo Us;simp[-Kh,Ae,fz1,ad,fz2,t1,adn,ank,fz3,t2,hdl',t3,m3,t4]
 rcases(by lia:(i4=2∨i4=3)∨i4=4∨(¬i4=2/\¬i4=3/\¬i4=4))with h|h|h
 ·refine⟨⟨nm,dn,dl,.town (i3*scale) i5⟩,rfl,⟨hdn',by intro b r t d m z;cases z⟩,fin _ λG=>?_⟩;have be:bel G.length (RP.enc ⟨nm,dn,dl,.town (i3*scale) i5⟩)=x0:=J7;unfold RP.enc RP.row RK.rest RK.txt at*;generalize ns.map D.str=NS at*;unfold Fd K9;rw[An];simp only[]at be;unfold Hd at head;rcases h with h|h
  ·simp[hlen,head,h,t5,Be]
  ·simp[hlen,head,h,t5,Be]
 ·refine⟨⟨nm,dn,dl,.mill (i3*scale)⟩,rfl,⟨hdn',by intro b r t d m z;cases z⟩,fin _ λG=>?_⟩;unfold RP.enc RP.row RK.rest RK.txt at*;generalize ns.map D.str=NS at*;unfold Fd K9;rw[An];unfold Hd Lg at head;simp[hlen,head,h,Be]
 ·obtain⟨h2,h3,h4⟩:=h;by_cases hp:1<n/\i6=0
  ·obtain⟨i7,b7,t7⟩:=Bu c2 (p:=10069) (m:=(n:Int)-1) (by decide) (by lia);obtain⟨i8,b8,t8⟩:=Bu c2 (p:=10079) (m:=6) (by decide) (by decide);obtain⟨i9,b9,t9⟩:=Bu c2 (p:=10091) (m:=6) (by decide) (by decide);have hnz:(0:Int)<(n:Int):=by lia
   obtain⟨to,hto,ato⟩:=Hu (l:=ns) (i:=((k:Int)+1+i7)%(n:Int)) (jV _ (by lia)) (by rw[hn];exact qL _ hnz);obtain⟨dy,hdy⟩:=Oo (l:=[1,1,2,3,4,5]) (i:=i9) (by lia) b9.2;have hdy':∀G,Ac (.fl [.int 1,.int 1,.int 2,.int 3,.int 4,.int 5]) (.int i9) G=.ok (.int dy) G:=hdy;have fz4:∀G:DH,freeze G (.ok (.ref G.length) (G++[.lst [.int 1,.int 1,.int 2,.int 3,.int 4,.int 5]]))=.ok (.fl [.int 1,.int 1,.int 2,.int 3,.int 4,.int 5]) G:=λG=>Ba rfl
   have m8:∀G,Ai (.int i8) (.int scale) G=.ok (.int (i8*scale)) G:=λG=>Cw (by lia) (by lia)
   obtain⟨r,hr⟩:=Xe c2 (i8*scale) scale year;refine⟨⟨nm,dn,dl,.basin (i3*scale) r (xk (to,dy,i8*scale))⟩,rfl,⟨hdn',by intro b r' t d m z;cases z;exact hto⟩,fin _ λG=>?_⟩;have h1n:(1:Int)<(n:Int):=by lia
   have hn0:0<n:=by lia
   have be:bels G.length (r.map Cy)=x0:=by simp
   unfold RP.enc RP.row RK.rest RK.txt pmD at*;generalize hRR:r.map Cy=RR at*;generalize ns.map D.str=NS at*;unfold Fd K9;rw[An];unfold Hd Lg Rz Te Pq R4 at head;simp[Ae,hlen,head,h2,h3,h4,hp.1,h1n,t6,hp.2,t7,hnz,hn0,ato,t8,m8,fz4,t9,hdy',hr,be,hRR,Be]
  ·obtain⟨r,hr⟩:=Xe c2 0 scale year;refine⟨⟨nm,dn,dl,.basin (i3*scale) r xy⟩,rfl,⟨hdn',by intro b r' t d m z;cases z⟩,fin _ λG=>?_⟩;have be:bels G.length (r.map Cy)=x0:=by simp
   unfold RP.enc RP.row RK.rest RK.txt pmD at*;generalize hRR:r.map Cy=RR at*;generalize ns.map D.str=NS at*;unfold Fd K9;rw[An];unfold Hd Lg Rz Te Pq R4 at head;by_cases h1n:1<n
   ·have h1n':(1:Int)<(n:Int):=by lia
    have h6:¬i6=0:=λz=>hp ⟨h1n,z⟩
    simp[hlen,head,h2,h3,h4,h1n,h1n',t6,h6,hr,be,hRR,Be]
   ·have h1n':¬(1:Int)<(n:Int):=by lia
    simp[hlen,head,h2,h3,h4,h1n,h1n',hr,be,hRR,Be]
theorem X3{ns:List Str}(hn:ns.length=n)(hn6:n<=6){sc:List Int}{scale year:Int}{s1:Option D}:∀(m j:Nat)(acc:List RP)(x6 x7:Option D),j+m=n->acc.length+m<=100->∃(ps:List RP)(y6 y7:Option D),ps.map RP.nm=(List.range' j m).map (λk=>ns.getD k "")/\(∀p∈ps,POk ns p)/\∀G:DH,
  Aq (gV 6) Jq (Ak (j:Int) m) [zF (sc.map D.int),s1,zI scale,zF (ns.map D.str),zI year,zR G.length,x6,x7] (G++[.lst (acc.map RP.enc)])=
   .nx [zF (sc.map D.int),s1,zI scale,zF (ns.map D.str),zI year,zR G.length,y6,y7] (G++[.lst ((acc++ps).map RP.enc)])
 |0,j,acc,x6,x7,_,_=>⟨[],x6,x7,rfl,by simp,λG=>by rw[Dj,Dh,qJ]⟩
 | m + 1,j,acc,x6,x7,e,ha=>by
  obtain⟨p,p1,p2,p3⟩:=ZFW hn (k:=j) (by lia) hn6 (cellAt sc (4+3*(j:Int)+0)) (cellAt sc (4+3*(j:Int)+1)) (cellAt sc (4+3*(j:Int)+2)) scale year;obtain⟨ps,z6,z7,h1,h2,h3⟩:=X3 hn hn6 (sc:=sc) (scale:=scale) (year:=year) (s1:=s1) m (j+1) (acc++[p]) (zI (j:Int)) (zF [.int (cellAt sc (4+3*(j:Int)+0)),.int (cellAt sc (4+3*(j:Int)+1)),.int (cellAt sc (4+3*(j:Int)+2))]) (by lia) (by simp;lia)
  refine⟨p::ps,z6,z7,?_,qA.mpr ⟨p2,h2⟩,λG=>?_⟩
  ·rw[zK,h1,p1,List.range'_succ,zK]
  ·have hc:∀G,Bc (gV 0) Aw Ls [xy,zF (sc.map D.int),zI (j:Int)] (Ak 0 3) G=.ok [.int (cellAt sc (4+3*(j:Int)+0)),.int (cellAt sc (4+3*(j:Int)+1)),.int (cellAt sc (4+3*(j:Int)+2))] G:=λG=>by
    have he:∀(i:Int),0<=i->∀G,Ls [zI i,zF (sc.map D.int),zI (j:Int)] G=.ok (.int (cellAt sc (4+3*(j:Int)+i))) G:=λi hi G=>by
     have c:=λG=>Fy (ns:=sc) (k:=4+3*(j:Int)+i) (G:=G) (by lia)
     generalize cellAt sc (4+3*(j:Int)+i)=V at*;generalize sc.map D.int=SC at*;unfold Ls;simp[c]
    have r3:Ak 0 3=[.int 0,.int 1,.int 2]:=rfl;rw[r3,El];simp only[Bw,R.Ga,q0,Jb,if_true,he 0 (by decide)];rw[El];simp only[Bw,R.Ga,q0,Jb,if_true,he 1 (by decide)];rw[El];simp only[Bw,R.Ga,q0,Jb,if_true,he 2 (by decide)]
    rfl
   have fz:∀(a b c:Int)(G:DH),freeze G (.ok (.ref G.length) (G++[.lst [.int a,.int b,.int c]]))=.ok (.fl [.int a,.int b,.int c]) G:=λa b c G=>Ba rfl
   have hr:inR 3:=Cg (by decide) (by decide);have hcs:∀a b c d e f g h:Option D,Ar 1 [0,6] [a,b,c,d,e,f,g,h]=[xy,a,g]:=λ_ _ _ _ _ _ _ _=>rfl
   have hal:(acc.map RP.enc).length<1000000:=by rw[zX];lia
   have hb:Jq [zF (sc.map D.int),s1,zI scale,zF (ns.map D.str),zI year,zR G.length,zI (j:Int),x7] (G++[.lst (acc.map RP.enc)])=
     .nx [zF (sc.map D.int),s1,zI scale,zF (ns.map D.str),zI year,zR G.length,zI (j:Int),zF [.int (cellAt sc (4+3*(j:Int)+0)),.int (cellAt sc (4+3*(j:Int)+1)),.int (cellAt sc (4+3*(j:Int)+2))]] (G++[.lst ((acc++[p]).map RP.enc)]):=by
    rw[zO,zK,zU];generalize cellAt sc (4+3*(j:Int)+0)=V0 at*;generalize cellAt sc (4+3*(j:Int)+1)=V1 at*;generalize cellAt sc (4+3*(j:Int)+2)=V2 at*;generalize sc.map D.int=SC at*;generalize ns.map D.str=NS at*;generalize p.enc=pe at*;generalize acc.map RP.enc=A at*;have fz':∀A:DO,freeze (G++[A]) (.ok (.ref (G.length+1)) (G++[A,.lst [.int V0,.int V1,.int V2]]))=.ok (.fl [.int V0,.int V1,.int V2]) (G++[A]):=λA=>Yp rfl
    unfold Jq;simp[Ae,hr,hcs,hc,fz',p3,Ea,Fv,hal]
   rw[Dl,Dc];simp only[Bw,R.Dt,q0,hb,Ds];have e1:((j:Int)+1)=((j+1:Nat):Int):=by lia
   rw[e1,h3,List.append_assoc]
   rfl
theorem Wf:(List.range' 0 ns.length).map (λk=>ns.getD k "")=ns:=by
 apply List.ext_getElem?;intro i;rw[z0];by_cases h:i<ns.length
 ·rw[List.getElem?_range' h,zQ h];simp[qF,h]
 ·rw[zM (by simp;lia),zM (by lia)]
  rfl
theorem Zm(h1:nms h=ns)(h2:∀p∈h.ps,POk ns p):NmOk h:=⟨λp hp=>by rw[h1];exact(h2 p hp).1,λp hp b r t d m e=>by rw[h1];exact(h2 p hp).2 b r t d m e⟩
theorem ZCP(hn6:n<=6)(scale:Int):∃h:RH,h.ps.length=n/\NmOk h/\∀(G:DH)(x3 x4 x5 x6 x7:Option D),My [zF (sc.map D.int),zI (n:Int),zI scale,x3,x4,xy,xy,xy] G=.rt h.enc (G++[.lst (h.ps.map RP.enc)]):=by
 obtain⟨ns,n1,n2⟩:=ZEe (cellAt sc 1) hn6;obtain⟨ps,y6,y7,p1,p2,p3⟩:=X3 n1 hn6 (sc:=sc) (scale:=scale) (year:=1+cellAt sc 1/3%3) (s1:=zI (n:Int)) n 0 [] xy xy (by lia) (by simp;lia);have hnm:ps.map RP.nm=ns:=by rw[p1,<-n1];exact Wf
 refine⟨⟨1+cellAt sc 1/3%3,ps⟩,?_,Zm (ns:=ns) hnm p2,λG x3 x4 x5 x6 x7=>?_⟩
 ·have:=congrArg jz hnm;rw[zX]at this;show ps.length=n;lia
 ·have hc1:∀G,Bo [.fl (sc.map D.int),.int 1] G=.ok (.int (cellAt sc 1)) G:=λG=>Fy (by decide)
  have hr:inR (n:Int):=Cg (by lia) (by lia);have tn:tidy G (.ok (.ref G.length) (G++[.lst []]))=.ok (.ref G.length) (G++[.lst []]):=Dq rfl;have hL:Aq (gV 6) Jq (Ak 0 n) [zF (sc.map D.int),zI (n:Int),zI scale,zF (ns.map D.str),zI (1+cellAt sc 1/3%3),zR G.length,xy,xy] (G++[.lst []])=_:=p3 G;rw[List.nil_append]at hL;unfold RH.enc;generalize ps.map RP.enc=PS at*;generalize cellAt sc 1=V at*
  generalize sc.map D.int=SC at*;generalize ns.map D.str=NS at*;unfold My Yy Xw Xm Uy;simp[Ae,hc1,n2,tn,hr,hL,Ea]
theorem ZBa{LM:DH}(hLM:LM=L++M)(be:∀n,bels n ds=x0):∃(L1 N:DH)(z:Int),L1=L++N/\
  tidy (G++ .lst [.int x]:: .lst NS::L) (.ok (.ref (G.length+(LM.length+1+1))) (G++ .lst [.int y]:: .lst NS::(LM++[.lst ds])))=.ok (.ref (G.length+(L1.length+1+1))) (G++ .lst [.int z]:: .lst NS::(L1++[.lst ds])):=by
 have hg:(G++ .lst [.int y]:: .lst NS::(LM++[.lst ds]))[G.length+(LM.length+1+1)]?=xk (.lst ds):=by rw[Es];simp
 have hb:bel (G++ .lst [.int x]:: .lst NS::L).length (.ref (G.length+(LM.length+1+1)))=xA:=by rw[hLM];simp[bel]
 by_cases hp:(G++DO.lst [.int y]::DO.lst NS::(LM++[DO.lst ds])).take (G++DO.lst [.int x]::DO.lst NS::L).length=G++DO.lst [.int x]::DO.lst NS::L
 ·refine⟨L,[],x,by simp,?_⟩;unfold tidy;simp only[hp,if_true,hb,hg,Fb,be];simp
 ·refine⟨LM,M,y,hLM,?_⟩;unfold tidy;simp only[hp,if_false]
theorem Qw(G L M:DH)(A B o:DO):(G++A::B::(L++o::M))[G.length+(L.length+1+1)]?=xk o:=by rw[Es];simp
theorem ZBV(G L M:DH)(A B o o':DO):(G++A::B::(L++o::M)).set (G.length+(L.length+1+1)) o'=G++A::B::(L++o'::M):=by rw[Hr];simp
theorem Y8(x most scale year:Int)(hy:year<1000000)(L:DH){s1 s5 s6:Option D}{hd:List D}(hne:¬hd=[])(hle:hd.length<=999997){sz:Int}{pm:D}{s11:Option D}:∃(r:List Ssn)(y:Int)(M:DH),
  Lf [zR G.length,s1,zR (G.length+1),zI scale,zI year,s5,s6,zT hd,zI sz,xk pm,zI most,s11,xy] (G++ .lst [.int x]:: .lst NS::L)=.rt (.tup (hd++[.int sz,.tup (r.map Cy),pm])) (G++ .lst [.int y]:: .lst NS::(L++M)):=by
 obtain⟨st1,y1,M1,h1⟩:=rstairs x most scale G (.lst NS::L);have h1':G6 [.ref G.length,.int most,.int scale] (G++ .lst [.int x]:: .lst NS::L)=.ok (.tup (st1.map Stp.enc)) (G++ .lst [.int y1]:: .lst NS::(L++M1)):=h1;generalize hLM:L++M1=LM at*;obtain⟨L1,N1,z1,hN1,tn⟩:=ZBa (G:=G) (NS:=NS) (ds:=[.tup [.int 0,.tup (st1.map Stp.enc)]]) (x:=x) (y:=y1) hLM.symm (λn=>by simp);obtain⟨i2,y2,b2,t2⟩:=tk z1 (k:=2) (by decide) (by decide)
 have t2':=t2 G (.lst NS::(L1++[.lst [.tup [.int 0,.tup (st1.map Stp.enc)]]]));by_cases hc:i2=1/\1<year
 ·obtain⟨i3,y3,b3,t3⟩:=tk y2 (k:=year-1) (by lia) (by lia);have t3':=t3 G (.lst NS::(L1++[.lst [.tup [.int 0,.tup (st1.map Stp.enc)]]]));obtain⟨st2,y4,M2,h2⟩:=rstairs y3 most scale G (.lst NS::(L1++[.lst [.tup [.int 0,.tup (st1.map Stp.enc)]]]));have h2':G6 [.ref G.length,.int most,.int scale] (G++ .lst [.int y3]:: .lst NS::(L1++[.lst [.tup [.int 0,.tup (st1.map Stp.enc)]]]))=.ok (.tup (st2.map Stp.enc)) (G++ .lst [.int y4]:: .lst NS::(L1++ .lst [.tup [.int 0,.tup (st1.map Stp.enc)]]::M2)):=by rw[h2];simp
  refine⟨[(0,st1),(1+i3,st2)],y4,N1++ .lst [.tup [.int 0,.tup (st1.map Stp.enc)],.tup [.int (1+i3),.tup (st2.map Stp.enc)]]::M2,?_⟩;have e: [((0:Int),st1),(1+i3,st2)].map Cy=[.tup [.int 0,.tup (st1.map Stp.enc)],.tup [.int (1+i3),.tup (st2.map Stp.enc)]]:=rfl;have eL:L++(N1++ .lst [.tup [.int 0,.tup (st1.map Stp.enc)],.tup [.int (1+i3),.tup (st2.map Stp.enc)]]::M2)=L1++ .lst [.tup [.int 0,.tup (st1.map Stp.enc)],.tup [.int (1+i3),.tup (st2.map Stp.enc)]]::M2:=by rw[hN1];simp
  rw[e,eL];generalize st1.map Stp.enc=A at*;generalize st2.map Stp.enc=B at*;unfold Lf Sw S9;simp[Ae,h1',tn,t2',hc.1,hc.2,t3',h2',Qw,ZBV,hne,hle]
 ·refine⟨[(0,st1)],y2,N1++[.lst [.tup [.int 0,.tup (st1.map Stp.enc)]]],?_⟩;have e: [((0:Int),st1)].map Cy=[.tup [.int 0,.tup (st1.map Stp.enc)]]:=rfl;have eL:L++(N1++[.lst [.tup [.int 0,.tup (st1.map Stp.enc)]]])=L1++[.lst [.tup [.int 0,.tup (st1.map Stp.enc)]]]:=by rw[hN1];simp
  rw[e,eL];generalize st1.map Stp.enc=A at*;unfold Lf Sw S9;by_cases h2:i2=1
  ·have h3:¬1<year:=λz=>hc ⟨h2,z⟩
   simp[Ae,h1',tn,t2',h2,h3,Qw,hne,hle]
  ·simp[Ae,h1',tn,t2',h2,Qw,hne,hle]
theorem nsG(G L:DH)(A:DO)(NS:List D):(G++A:: .lst NS::L)[G.length+1]?=xk (.lst NS):=by rw[Es];rfl
theorem rplace(hn:ns.length=n)(hk:k<n)(hn6:n<=6)(x scale year:Int)(hy:year<1000000)(G L:DH):∃p:RP,p.nm=ns.getD k ""/\POk ns p/\
  Pl G (.lst (ns.map D.str)::L) (Gf [.ref G.length,.int (k:Int),.ref (G.length+1),.int scale,.int year] (G++ .lst [.int x]:: .lst (ns.map D.str)::L)) p.enc:=by
 obtain⟨Hx,hHx⟩:∃Hx:Int->DH,∀x,Hx x=G++ .lst [.int x]:: .lst (ns.map D.str)::L:=⟨_,λ_=>rfl⟩;have T:∀(x:Int){m:Int},0<m->m<1000000->∃i y:Int,(0<=i/\i<m)/\Bh [.ref G.length,.int m] (Hx x)=.ok (.int i) (Hx y):=λx m h0 h1=>by obtain⟨i,y,b,t⟩:=tk x h0 h1;exact⟨i,y,b,by rw[hHx,hHx];exact t G _⟩
 have gN:∀x,(Hx x)[G.length+1]?=xk (.lst (ns.map D.str)):=λx=>by rw[hHx];exact nsG _ _ _ _
 have fz:∀(x:Int)(ds:List D),(∀n,bels n ds=x0)->freeze (Hx x) (.ok (.ref (Hx x).length) (Hx x++[.lst ds]))=.ok (.fl ds) (Hx x):=λx ds be=>Ba (be _)
 obtain⟨i1,x1,b1,t1⟩:=T x (m:=4) (by decide) (by decide);obtain⟨i2,x2,b2,t2⟩:=T x1 (m:=(n:Int)-(k:Int)) (by lia) (by lia);obtain⟨i3,x3,b3,t3⟩:=T x2 (m:=6) (by decide) (by decide);obtain⟨i4,x4,b4,t4⟩:=T x3 (m:=8) (by decide) (by decide);obtain⟨i5,x5,b5,t5⟩:=T x4 (m:=3) (by decide) (by decide);obtain⟨i6,x6,b6,t6⟩:=T x4 (m:=2) (by decide) (by decide);obtain⟨kd,hkd,akd⟩:=Hu (l:=[("basin":Str),"basin","town","mill"]) (i:=i1) (by lia) b1.2
 have akd':atI [D.str "basin",.str "basin",.str "town",.str "mill"] i1=zS kd:=akd;obtain⟨dn,hdn,adn⟩:=Hu (l:=ns++[("sea":Str)]) (i:=(k:Int)+1+i2) (by lia) (by simp;lia);have hdn':dn="sea"∨dn∈ns:=by
  rcases qB.mp hdn with h|h
  ·exact .inr h
  ·exact .inl (by simpa using h)
 have ank:atI (ns.map D.str) (k:Int)=zS (ns.getD k ""):=Bs rfl (by rw[z0,zQ (by lia)];simp[qF,(by lia:k<ns.length)]);have m4:∀G,Ai (.int i4) (.int scale) G=.ok (.int (i4*scale)) G:=λG=>Cw (by lia) (by lia)
 have es:(ns++[("sea":Str)]).map D.str=ns.map D.str++[.str "sea"]:=by simp
 rw[es]at adn;have fk:=λx=>fz x [.str "basin",.str "basin",.str "town",.str "mill"] (λn=>rfl)
 have fs:=λx=>fz x [.str "sea"] (λn=>rfl)
 have fd:=λx=>fz x (ns.map D.str++[.str "sea"]) (λn=>by rw[<-es];exact Jh)
 have ll:(ns.map D.str).length=n:=by rw[zX];exact hn
 have ad:∀x,Af (.ref (G.length+1)) (.fl [.str "sea"]) (Hx x)=.ok (.ref (Hx x).length) (Hx x++[.lst (ns.map D.str++[.str "sea"])]):=λx=>by
  show(match Di (.ref (G.length+1)) (Hx x),Di (.fl [.str "sea"]) (Hx x)with
   |some xs,xk ys=>if xs.length+ys.length<=1000000 then R.ok (D.ref (Hx x).length) (Hx x++[DO.lst (xs++ys)])else .bad
   |_,_=>.bad)=_
  have e1:Di (.ref (G.length+1)) (Hx x)=xk (ns.map D.str):=by simp[Di,gN]
  have e2:Di (.fl [.str "sea"]) (Hx x)=xk [.str "sea"]:=rfl;rw[e1,e2];exact if_pos (by rw[ll];simp;lia)
 have hlen:∀x,Bf [.ref (G.length+1)] (Hx x)=.ok (.int n) (Hx x):=λx=>by simp[gN,ll]
 have fin:∀(p:RP)(y:Int)(M:DH),Gf [.ref G.length,.int (k:Int),.ref (G.length+1),.int scale,.int year] (Hx x)=tidy (Hx x) (.ok p.enc (G++ .lst [.int y]::(.lst (ns.map D.str)::L++M)))->Pl G (.lst (ns.map D.str)::L) (Gf [.ref G.length,.int (k:Int),.ref (G.length+1),.int scale,.int year] (G++ .lst [.int x]:: .lst (ns.map D.str)::L)) p.enc:=λp y M e=>by rw[<-hHx,e,hHx];exact Wa λ_=>J7
 generalize hNM:ns.getD k ""=nm at*;have head:Lz [zR G.length,zI (k:Int),zR (G.length+1),zI scale,zI year,xy,xy,xy,xy,xy,xy,xy,xy] (Hx x)=
   H8 [zR G.length,zI (k:Int),zR (G.length+1),zI scale,zI year,zS kd,zS dn,zT [.str kd,.str nm,.str dn,.int i3],zI (i4*scale),xy,xy,xy,xy] (Hx x4):=by
  generalize ns.map D.str=NS at*;unfold Lz Y9 Ug Vf;simp[Ae,t1,fk,akd',gN,fs,ad,fd,ll,t2,adn,gN,ank,t3,t4,m4]
 have q1:¬(("basin":Str)="town"):=by decide
 have q2:¬(("basin":Str)="mill"):=by decide
 have q3:¬(("mill":Str)="town"):=by decide
 have hk3:kd="town"∨kd="mill"∨kd="basin":=by
  simp at hkd;rcases hkd with h|h|h
  ·exact .inr (.inr h)
  ·exact .inl h
  ·exact .inr (.inl h)
 have run:∀(d:D)(H:DH),H8 [zR G.length,zI (k:Int),zR (G.length+1),zI scale,zI year,zS kd,zS dn,zT [.str kd,.str nm,.str dn,.int i3],zI (i4*scale),xy,xy,xy,xy] (Hx x4)=.rt d H->Gf [.ref G.length,.int (k:Int),.ref (G.length+1),.int scale,.int year] (Hx x)=tidy (Hx x) (.ok d H):=λd H e=>by
  unfold Gf;rw[An];show tidy (Hx x) (Lz [zR G.length,zI (k:Int),zR (G.length+1),zI scale,zI year,xy,xy,xy,xy,xy,xy,xy,xy] (Hx x)).ret=_;rw[head,e]
  rfl
 rcases hk3 with rfl|rfl|rfl
 ·refine⟨⟨nm,dn,i3,.town (i4*scale) i5⟩,rfl,⟨hdn',by intro b r t d m z;cases z⟩,fin _ x5 [] ?_⟩;rw[qJ,<-hHx];refine run _ _ ?_;unfold RP.enc RP.row RK.rest RK.txt H8;simp[t5]
 ·refine⟨⟨nm,dn,i3,.mill (i4*scale)⟩,rfl,⟨hdn',by intro b r t d m z;cases z⟩,fin _ x4 [] ?_⟩;rw[qJ,<-hHx];refine run _ _ ?_;unfold RP.enc RP.row RK.rest RK.txt H8 Ky;simp[q3]
 ·by_cases hp:i6=1/\1<n
  ·obtain⟨i7,x7,b7,t7⟩:=T x6 (m:=(n:Int)-1) (by lia) (by lia);obtain⟨i8,x8,b8,t8⟩:=T x7 (m:=6) (by decide) (by decide);obtain⟨i9,x9,b9,t9⟩:=T x8 (m:=5) (by decide) (by decide);have hnz:(0:Int)<(n:Int):=by lia
   have hn0:0<n:=by lia
   obtain⟨to,hto,ato⟩:=Hu (l:=ns) (i:=((k:Int)+1+i7)%(n:Int)) (jV _ (by lia)) (by rw[hn];exact qL _ hnz);have m8:∀G,Ai (.int i8) (.int scale) G=.ok (.int (i8*scale)) G:=λG=>Cw (by lia) (by lia)
   obtain⟨r,y,M,hr⟩:=Y8 (G:=G) (NS:=ns.map D.str) x9 (i8*scale) scale year hy L (s1:=zI (k:Int)) (s5:=zS "basin") (s6:=zS dn) (hd:=[.str "basin",.str nm,.str dn,.int i3]) (by simp) (by simp) (sz:=i4*scale) (pm:=.tup [.str to,.int (1+i9),.int (i8*scale)]) (s11:=zS to);rw[<-hHx]at hr;refine⟨⟨nm,dn,i3,.basin (i4*scale) r (xk (to,1+i9,i8*scale))⟩,rfl,⟨hdn',by intro b r' t d m z;cases z;exact hto⟩,fin _ y M ?_⟩
   refine run _ _ ?_;have h1n:(1:Int)<(n:Int):=by lia
   unfold RP.enc RP.row RK.rest RK.txt pmD;unfold H8 Ky Nz Qf Oz;generalize hRR:r.map Cy=RR at*;generalize ns.map D.str=NS at*;simp[q1,q2,t6,hp.1,hp.2,h1n,gN,ll,t7,hnz,hn0,gN,ato,t8,m8,t9,hr,hRR]
  ·obtain⟨r,y,M,hr⟩:=Y8 (G:=G) (NS:=ns.map D.str) x6 0 scale year hy L (s1:=zI (k:Int)) (s5:=zS "basin") (s6:=zS dn) (hd:=[.str "basin",.str nm,.str dn,.int i3]) (by simp) (by simp) (sz:=i4*scale) (pm:=.non) (s11:=xy);rw[<-hHx]at hr;refine⟨⟨nm,dn,i3,.basin (i4*scale) r xy⟩,rfl,⟨hdn',by intro b r' t d m z;cases z⟩,fin _ y M ?_⟩;refine run _ _ ?_;unfold RP.enc RP.row RK.rest RK.txt pmD;unfold H8 Ky Nz Qf Oz
   generalize hRR:r.map Cy=RR at*;generalize ns.map D.str=NS at*;by_cases h6:i6=1
   ·have h1n:¬1<n:=λz=>hp ⟨h6,z⟩
    have h1n':¬(1:Int)<(n:Int):=by lia
    simp[q1,q2,t6,h6,h1n,h1n',gN,ll,hr,hRR]
   ·simp[q1,q2,t6,h6,hr,hRR]
theorem ZHB{x:Str}{n:Int}(hx:x.length<=10)(h0:0<=n)(hn:n<=10):(By x n).length<=100:=by
 have e:=congrArg jz (ZEH (x:=x) (n:=n));have e2:(By x n).length=(By x n).cps.toList.length:=by simp[Str.length]
 have e3:x.length=x.cps.toList.length:=by simp[Str.length]
 rw[e2,e,List.length_flatten,List.map_replicate,List.sum_replicate_nat,<-e3];have:n.toNat<=10:=by lia
 exact Nat.mul_le_mul this hx
theorem Wy{α β:Type}(f:α->β):∀(l:List α)(j:Nat),(l.map f).eraseIdx j=(l.eraseIdx j).map f
 |[],_=>by simp
 |x::l,0=>by simp
 |x::l,j+1=>by simp[Wy f l j]
theorem ZGC(h:H[q]?=xk (.lst (ns.map D.str))):∃b:Bool,Ib (.str "none") (.ref q) H=.ok (.bl b) H:=by
 have hs:Ax (.ref q) H=xk (ns.map D.str):=by simp[Ax,h]
 have hf:∀l:List Str,∃vs,Gw (l.map D.str)=xk vs:=λl=>by
  induction l with
  |nil=>exact⟨[],rfl⟩
  |cons s l ih=>
   obtain⟨vs,hv⟩:=ih;exact⟨_,by simp[Gw,Hl,hv];rfl⟩
 obtain⟨vs,hv⟩:=hf ns;obtain⟨b,hb⟩:∃b:Bool,inD (.str "none") (.ref q) H=xk b:=⟨_,by simp[inD,hs,Hl,hv];rfl⟩;exact⟨!b,by unfold Ib;rw[hb]⟩
theorem ZBk{lt:List Str}(hns:ns.length<=20)(hlt:1<=lt.length/\lt.length<=26)(hl:∀s∈lt,s.length<=10)(x:Int)(s1 s2 s3 s6 x7 x8:Option D):∃(nm:Str)(lt':List Str)(y:Int)(y7 y8:Option D),lt'.length+1=lt.length/\(∀s∈lt',s.length<=10)/\
  Em [zR G.length,s1,s2,s3,zR (G.length+1),zR (G.length+2),s6,x7,x8] (G++[.lst [.int x],.lst (ns.map D.str),.lst (lt.map D.str)])=
   .nx [zR G.length,s1,s2,s3,zR (G.length+1),zR (G.length+2),s6,y7,y8] (G++[.lst [.int y],.lst ((ns++[nm]).map D.str),.lst (lt'.map D.str)]):=by
 obtain⟨Hx,hHx⟩:∃Hx:Int->List D->List D->DH,∀x a b,Hx x a b=G++[.lst [.int x],.lst a,.lst b]:=⟨_,λ_ _ _=>rfl⟩;have T:∀(x:Int)(a b:List D){m:Int},0<m->m<1000000->∃i y:Int,(0<=i/\i<m)/\Bh [.ref G.length,.int m] (Hx x a b)=.ok (.int i) (Hx y a b):=λx a b m h0 h1=>by obtain⟨i,y,c,t⟩:=tk x h0 h1;exact⟨i,y,c,by rw[hHx,hHx];exact t G _⟩
 have gN:∀x a b,(Hx x a b)[G.length+1]?=xk (.lst a):=λx a b=>by rw[hHx,Es];rfl
 have gL:∀x a b,(Hx x a b)[G.length+2]?=xk (.lst b):=λx a b=>by rw[hHx,Es];rfl
 have sN:∀x a b c,(Hx x a b).set (G.length+1) (.lst c)=Hx x c b:=λx a b c=>by rw[hHx,hHx,Hr];rfl
 have sL:∀x a b c,(Hx x a b).set (G.length+2) (.lst c)=Hx x a c:=λx a b c=>by rw[hHx,hHx,Hr];rfl
 have fz:∀(x:Int)(a b ds:List D),(∀n,bels n ds=x0)->freeze (Hx x a b) (.ok (.ref (Hx x a b).length) (Hx x a b++[.lst ds]))=.ok (.fl ds) (Hx x a b):=λx a b ds be=>Ba (be _)
 obtain⟨i1,x1,b1,t1⟩:=T x (ns.map D.str) (lt.map D.str) (m:=(lt.length:Int)) (by lia) (by lia);obtain⟨j,ej⟩:∃j:Nat,i1=j:=⟨i1.toNat,by lia⟩;subst ej;have hj:j<lt.length:=by lia
 have hll:(lt.map D.str).length=lt.length:=zX ..;have pop:Hn (.ref (G.length+2)) [.int (j:Int)] (Hx x1 (ns.map D.str) (lt.map D.str))=.ok (.str lt[j]) (Hx x1 (ns.map D.str) ((lt.eraseIdx j).map D.str)):=by
  have e1:(lt.map D.str)[(j:Int).toNat]?=zS lt[j]:=by simp[hj]
  have e2:(lt.map D.str).eraseIdx (j:Int).toNat=(lt.eraseIdx j).map D.str:=Wy _ _ _;unfold Hn;simp only[gL,e1,e2,sL];rw[if_pos (by lia)]
 have hlj:=hl _ (jw hj);generalize hlt2:lt.eraseIdx j=lt2 at*;have hlt2l:lt2.length+1=lt.length:=by rw[<-hlt2,List.length_eraseIdx_of_lt hj];lia
 have hlt2b:∀s∈lt2,s.length<=10:=λs hs=>hl s (by rw[<-hlt2]at hs;exact List.mem_of_mem_eraseIdx hs)
 generalize lt[j]=ch at*;obtain⟨i2,x2,b2,t2⟩:=T x1 (ns.map D.str) (lt2.map D.str) (m:=3) (by decide) (by decide);obtain⟨i3,x3,b3,t3⟩:=T x2 (ns.map D.str) (lt2.map D.str) (m:=3) (by decide) (by decide);obtain⟨i4,x4,b4,t4⟩:=T x3 (ns.map D.str) (lt2.map D.str) (m:=2) (by decide) (by decide);obtain⟨pre,hpre,apre⟩:=Hu (l:=[("":Str),"none","sea"]) (i:=i2) (by lia) b2.2;have apre':atI [D.str "",.str "none",.str "sea"] i2=zS pre:=apre
 have hprel:pre.length<=10:=by
  simp at hpre
  rcases hpre with rfl|rfl|rfl<;>decide +kernel
 have f3:=fz x2 (ns.map D.str) (lt2.map D.str) [.str "",.str "none",.str "sea"] (λn=>rfl);have f2:=fz x1 (ns.map D.str) (lt2.map D.str) [.str "",.str "none",.str "sea"] (λn=>rfl);have mu:∀G,Ai (.str ch) (.int (1+i3)) G=.ok (.str (By ch (1+i3))) G:=λG=>ZA4 ⟨by lia,by lia,by lia⟩
 have hrl:=ZHB (n:=1+i3) hlj (by lia) (by lia);have ad:∀G,Af (.str pre) (.str (By ch (1+i3))) G=.ok (.str (pre++By ch (1+i3))) G:=λG=>by show(if pre.length+(By ch (1+i3)).length<=1000000 then R.ok (D.str (pre++By ch (1+i3))) G else .bad)=_;rw[if_pos (by lia)]
 have hnl:(pre++By ch (1+i3)).length<=1000000:=by
  have:(pre++By ch (1+i3)).length=pre.length+(By ch (1+i3)).length:=by show(Str.append _ _).length=_;simp[Str.append,Str.length]
  lia
 generalize pre++By ch (1+i3)=nm at*;have sl:∀G,Io (.str nm) xy (xk 4) G=.ok (.str (Fg nm xy (xk 4))) G:=λG=>by rw[Ji,if_pos hnl]
 obtain⟨bb,hbb⟩:=ZGC (ns:=ns) (gN x3 (ns.map D.str) (lt2.map D.str));have fs:∀(x:Str)(G:DH),freeze G (.ok (.str x) G)=.ok (.str x) G:=λx G=>Hm rfl
 have hal:(ns.map D.str).length<1000000:=by rw[zX];lia
 have pack:∀(nm':Str)(y:Int)(y7 y8:Option D),Em [zR G.length,s1,s2,s3,zR (G.length+1),zR (G.length+2),s6,x7,x8] (Hx x (ns.map D.str) (lt.map D.str))=.nx [zR G.length,s1,s2,s3,zR (G.length+1),zR (G.length+2),s6,y7,y8] (Hx y (ns.map D.str++[.str nm']) (lt2.map D.str))->∃(nm:Str)(lt':List Str)(y:Int)(y7 y8:Option D),lt'.length+1=lt.length/\(∀s∈lt',s.length<=10)/\
  Em [zR G.length,s1,s2,s3,zR (G.length+1),zR (G.length+2),s6,x7,x8] (G++[.lst [.int x],.lst (ns.map D.str),.lst (lt.map D.str)])=
   .nx [zR G.length,s1,s2,s3,zR (G.length+1),zR (G.length+2),s6,y7,y8] (G++[.lst [.int y],.lst ((ns++[nm]).map D.str),.lst (lt'.map D.str)]):=λnm' y y7 y8 e=>⟨nm',lt2,y,y7,y8,hlt2l,hlt2b,by
   rw[hHx,hHx]at e;rw[e];simp⟩
 generalize lt2.map D.str=LT2 at*;generalize lt.map D.str=LT at*;generalize ns.map D.str=NS at*;generalize lt.length=ln at*;generalize hcu:Fg nm xy (xk 4)=cu at*;by_cases c1:cu=("none":Str)
 ·cases bb with
  |true=>
   by_cases c3:i4=1
   ·refine pack "none" x4 (zS ch) (zS "none") ?_;unfold Em;simp[-Ji,-Im,Ae,gL,hll,t1,pop,t2,f2,f3,apre',t3,mu,ad,sl,fs,c1,hbb,t4,c3,gN,sN,hal]
   ·refine pack nm x4 (zS ch) (zS nm) ?_;unfold Em;simp[-Ji,-Im,Ae,gL,hll,t1,pop,t2,f2,f3,apre',t3,mu,ad,sl,fs,c1,hbb,t4,c3,gN,sN,hal]
  |false=>
   refine pack nm x3 (zS ch) (zS nm) ?_;unfold Em;simp[-Ji,-Im,Ae,gL,hll,t1,pop,t2,f2,f3,apre',t3,mu,ad,sl,fs,c1,hbb,gN,sN,hal]
 ·refine pack nm x3 (zS ch) (zS nm) ?_;unfold Em;simp[-Ji,-Im,Ae,gL,hll,t1,pop,t2,f2,f3,apre',t3,mu,ad,sl,fs,c1,gN,sN,hal]
theorem Xu{G:DH}{s1 s2 s3:Option D}:∀(m j:Nat)(ns lt:List Str)(x:Int)(x6 x7 x8:Option D),ns.length+m<=20->m<=lt.length->lt.length<=26->(∀s∈lt,s.length<=10)->∃(ns' lt':List Str)(y:Int)(y6 y7 y8:Option D),ns'.length=ns.length+m/\
  Aq (gV 6) Em (Ak (j:Int) m) [zR G.length,s1,s2,s3,zR (G.length+1),zR (G.length+2),x6,x7,x8] (G++[.lst [.int x],.lst (ns.map D.str),.lst (lt.map D.str)])=
   .nx [zR G.length,s1,s2,s3,zR (G.length+1),zR (G.length+2),y6,y7,y8] (G++[.lst [.int y],.lst (ns'.map D.str),.lst (lt'.map D.str)])
 |0,j,ns,lt,x,x6,x7,x8,_,_,_,_=>⟨ns,lt,x,x6,x7,x8,rfl,by rw[Dj,Dh]⟩
 |m+1,j,ns,lt,x,x6,x7,x8,h1,h2,h3,h4=>by
  obtain⟨nm,lt1,y,y7,y8,l1,l2,hb⟩:=ZBk (G:=G) (ns:=ns) (lt:=lt) (by lia) ⟨by lia,h3⟩ h4 x s1 s2 s3 (zI (j:Int)) x7 x8;obtain⟨ns',lt',z,z6,z7,z8,n1,ih⟩:=Xu (G:=G) (s1:=s1) (s2:=s2) (s3:=s3) m (j+1) (ns++[nm]) lt1 y (zI (j:Int)) y7 y8 (by simp;lia) (by lia) (by lia) l2;refine⟨ns',lt',z,z6,z7,z8,by rw[n1];simp;lia,?_⟩;rw[Dl,Dc];simp only[Bw,R.Dt,q0,hb,Ds];have e1:((j:Int)+1)=((j+1:Nat):Int):=by lia
  rw[e1,ih]
theorem ZA3(hd:bel G.length d=x0):freeze G (.ok d H)=.ok d G∨freeze G (.ok d H)=.ok d H:=by
 unfold freeze;have e:Dk H G.length 9 d=xk d:=by unfold Dk;rw[if_pos hd]
 by_cases h:H.take G.length=G
 ·left
  simp only[h,e,if_true]
 ·right
  simp only[h,if_false]
theorem Zc{G:DH}(hn:ns.length=n)(hn6:n<=6){scale year:Int}(hy:year<1000000):∀(m j:Nat)(x:Int)(L:DH),j+m=n->∃(ps:List RP)(y:Int)(M:DH),ps.map RP.nm=(List.range' j m).map (λk=>ns.getD k "")/\(∀p∈ps,POk ns p)/\
  Bc (gV 0) Aw Jc [xy,zR G.length,zI scale,zI year,zR (G.length+1)] (Ak (j:Int) m) (G++ .lst [.int x]:: .lst (ns.map D.str)::L)=.ok (ps.map RP.enc) (G++ .lst [.int y]:: .lst (ns.map D.str)::(L++M))
 |0,j,x,L,_=>⟨[],x,[],rfl,by simp,by rw[Dj,qJ];rfl⟩
 | m+1,j,x,L,e=>by
  obtain⟨p,p1,p2,y1,M1,p3⟩:=rplace hn (k:=j) (by lia) hn6 x scale year hy G L;have p3':Gf [.ref G.length,.int (j:Int),.ref (G.length+1),.int scale,.int year] (G++ .lst [.int x]:: .lst (ns.map D.str)::L)=.ok p.enc (G++ .lst [.int y1]:: .lst (ns.map D.str)::(L++M1)):=p3;obtain⟨y2,M2,he⟩:∃(y2:Int)(M2:DH),Jc [zI (j:Int),zR G.length,zI scale,zI year,zR (G.length+1)] (G++ .lst [.int x]:: .lst (ns.map D.str)::L)=.ok p.enc (G++ .lst [.int y2]:: .lst (ns.map D.str)::(L++M2)):=by
   have e0:Jc [zI (j:Int),zR G.length,zI scale,zI year,zR (G.length+1)] (G++ .lst [.int x]:: .lst (ns.map D.str)::L)=freeze (G++ .lst [.int x]:: .lst (ns.map D.str)::L) (.ok p.enc (G++ .lst [.int y1]:: .lst (ns.map D.str)::(L++M1))):=by
    rw[<-p3']
    rfl
   rcases ZA3 (G:=G++ .lst [.int x]:: .lst (ns.map D.str)::L) (H:=G++ .lst [.int y1]:: .lst (ns.map D.str)::(L++M1)) (d:=p.enc) J7 with h|h
   ·exact⟨x,[],by rw[e0,h,qJ]⟩
   ·exact⟨y1,M1,by rw[e0,h]⟩
  obtain⟨ps,y,M,q1,q2,q3⟩:=Zc hn hn6 (scale:=scale) hy m (j+1) y2 (L++M2) (by lia);refine⟨p::ps,y,M2++M,?_,qA.mpr ⟨p2,q2⟩,?_⟩
  ·rw[zK,q1,p1,List.range'_succ,zK]
  ·have e1:((j:Int)+1)=((j+1:Nat):Int):=by lia
   rw[Dl,El,e1];simp only[Bw,R.Ga,q0,Jb,if_true,he];rw[q3,R.Ga,List.append_assoc]
   rfl
theorem ZBR(be:∀n,bels n ds=x0):∃(z:Int)(N:DH),(freeze (G++ .lst [.int x]:: .lst NS::L) (.ok (.ref (G.length+(L.length+M.length+1+1))) (G++ .lst [.int y]:: .lst NS::(L++(M++[.lst ds]))))).bind (λd G1=>Br [d] G1)=.ok (.tup ds) (G++ .lst [.int z]:: .lst NS::(L++N)):=by
 have hg:(G++ .lst [.int y]:: .lst NS::(L++(M++[.lst ds])))[G.length+(L.length+M.length+1+1)]?=xk (.lst ds):=by rw[Es];simp
 by_cases hp:(G++DO.lst [.int y]::DO.lst NS::(L++(M++[DO.lst ds]))).take (G++DO.lst [.int x]::DO.lst NS::L).length=G++DO.lst [.int x]::DO.lst NS::L
 ·refine⟨x,[],?_⟩;have hH:(G++DO.lst [.int y]::DO.lst NS::(L++(M++[DO.lst ds])))=(G++DO.lst [.int x]::DO.lst NS::L)++(M++[DO.lst ds]):=by
   have h1:=List.take_append_drop (G++DO.lst [.int x]::DO.lst NS::L).length (G++DO.lst [.int y]::DO.lst NS::(L++(M++[DO.lst ds])));rw[hp]at h1;have h2:(G++DO.lst [.int y]::DO.lst NS::(L++(M++[DO.lst ds]))).drop (G++DO.lst [.int x]::DO.lst NS::L).length=M++[DO.lst ds]:=by
    have e:(G++DO.lst [.int y]::DO.lst NS::(L++(M++[DO.lst ds])))=(G++DO.lst [.int y]::DO.lst NS::L)++(M++[DO.lst ds]):=by simp
    have el:(G++DO.lst [.int x]::DO.lst NS::L).length=(G++DO.lst [.int y]::DO.lst NS::L).length:=by simp
    rw[e,el,List.drop_append_of_le_length (zq _),List.drop_length]
    rfl
   rw[h2]at h1;exact h1.symm
  have en:G.length+(L.length+M.length+1+1)=(G++DO.lst [.int x]::DO.lst NS::L).length+M.length:=by simp;lia
  rw[hH,en,Ut (G:=G++DO.lst [.int x]::DO.lst NS::L) (M++[DO.lst ds]) (k:=M.length) (by simp) (be _),qJ]
  rfl
 ·refine⟨y,M++[.lst ds],?_⟩;have e:freeze (G++ .lst [.int x]:: .lst NS::L) (.ok (.ref (G.length+(L.length+M.length+1+1))) (G++ .lst [.int y]:: .lst NS::(L++(M++[.lst ds]))))=.ok (.ref (G.length+(L.length+M.length+1+1))) (G++ .lst [.int y]:: .lst NS::(L++(M++[.lst ds]))):=by unfold freeze;simp only[hp,if_false]
  rw[e,R.Ga];simp[hg]
theorem alph:∃lt:List Str,lt.length=26/\(∀s∈lt,s.length<=10)/\signs ("abcdefghijklmnopqrstuvwxyz":Str)=lt.map D.str:=by
 refine⟨("abcdefghijklmnopqrstuvwxyz":Str).cps.toList.map (λc=>⟨#[c]⟩),by decide +kernel,λs hs=>?_,?_⟩
 ·obtain⟨c,_,rfl⟩:=qX.mp hs;show 1<=10
  decide
 ·unfold signs;rw[List.map_map]
  rfl
theorem rhouse(x scale:Int)(hn1:1<=n)(hn6:n<=6)(G:DH):∃h:RH,h.ps.length=n/\NmOk h/\∃L:DH,K7 [.ref G.length,.int (n:Int),.int scale] (G++[.lst [.int x]])=.ok h.enc (G++L):=by
 obtain⟨i1,x1,b1,t1⟩:=tk x (k:=3) (by decide) (by decide);have t1':=t1 G [];obtain⟨lt,lt1,lt2,lt3⟩:=alph;obtain⟨ns,lt',x2,y6,y7,y8,n1,hL⟩:=Xu (G:=G) (s1:=zI (n:Int)) (s2:=zI scale) (s3:=zI (1+i1)) n 0 [] lt x1 xy xy xy (by simp;lia) (by lia) (by lia) lt2;have hns:ns.length=n:=by simpa using n1
 obtain⟨ps,y,M,p1,p2,p3⟩:=Zc (G:=G) hns hn6 (scale:=scale) (year:=1+i1) (by lia) n 0 x2 [.lst (lt'.map D.str)] (by lia);have hnm:ps.map RP.nm=ns:=by rw[p1,<-hns];exact Wf
 obtain⟨z,N,ht⟩:=ZBR (G:=G) (L:=[.lst (lt'.map D.str)]) (M:=M) (NS:=ns.map D.str) (ds:=ps.map RP.enc) (x:=x2) (y:=y) (λ_=>ZE3);have hpl:(ps.map RP.enc).length<=1000000:=by have:=congrArg jz hnm;rw[zX]at this⊢;lia
 refine⟨⟨1+i1,ps⟩,?_,Zm (ns:=ns) hnm p2,?_⟩
 ·have:=congrArg jz hnm;rw[zX]at this;show ps.length=n;lia
 ·have hr:inR (n:Int):=Cg (by lia) (by lia);have tn1:tidy (G++[.lst [.int x1]]) (.ok (.ref (G.length+1)) (G++[.lst [.int x1],.lst []]))=.ok (.ref (G.length+1)) (G++[.lst [.int x1],.lst []]):=U3 (L:=[]) rfl;have tn2:tidy (G++[.lst [.int x1],.lst []]) (.ok (.ref (G.length+2)) (G++[.lst [.int x1],.lst [],.lst (lt.map D.str)]))=.ok (.ref (G.length+2)) (G++[.lst [.int x1],.lst [],.lst (lt.map D.str)]):=Z9 (L:=[]) Jh
  have hfl:∀G,Eb [.str "abcdefghijklmnopqrstuvwxyz"] G=.ok (.ref G.length) (G++[.lst (lt.map D.str)]):=λG=>by
   rw[<-lt3]
   rfl
  have hcs:∀a b c d e f g h i:Option D,Ar 1 [0,2,3,4] [a,b,c,d,e,f,g,h,i]=[xy,a,c,d,e]:=λ_ _ _ _ _ _ _ _ _=>rfl
  have hL':Aq (gV 6) Em (Ak 0 n) [zR G.length,zI (n:Int),zI scale,zI (1+i1),zR (G.length+1),zR (G.length+2),xy,xy,xy] (G++[.lst [.int x1],.lst [],.lst (lt.map D.str)])=_:=hL;have p3':Bc (gV 0) Aw Jc [xy,zR G.length,zI scale,zI (1+i1),zR (G.length+1)] (Ak 0 n) (G++[.lst [.int x2],.lst (ns.map D.str),.lst (lt'.map D.str)])=.ok (ps.map RP.enc) (G++ .lst [.int y]:: .lst (ns.map D.str):: .lst (lt'.map D.str)::M):=p3
  have e:K7 [.ref G.length,.int (n:Int),.int scale] (G++[.lst [.int x]])=tidy (G++[.lst [.int x]]) (.ok (RH.enc ⟨1+i1,ps⟩) (G++ .lst [.int z]:: .lst (ns.map D.str)::([.lst (lt'.map D.str)]++N))):=by
   unfold RH.enc;generalize ps.map RP.enc=PS at*;generalize ns.map D.str=NS at*;generalize lt.map D.str=LT at*;generalize lt'.map D.str=LT' at*;unfold K7 W0 Xh Wj Wi V6;rw[An];simp at ht;simp[Ae,t1',tn1,hfl,tn2,hr,hL',hcs,p3',hpl];have ei:1+M.length+1+1=M.length+1+1+1:=by lia
   rw[ei]at ht;have hb:((freeze (G++[DO.lst [D.int x2],DO.lst NS,DO.lst LT']) (R.ok (D.ref (G.length+(M.length+1+1+1))) (G++DO.lst [D.int y]::DO.lst NS::DO.lst LT'::(M++[DO.lst PS])))).bind λx G1=>R.ok [x] G1).bind Br=R.ok (D.tup PS) (G++DO.lst [D.int z]::DO.lst NS::DO.lst LT'::N):=by rw[R.bind_assoc];exact ht
   rw[hb];simp
  rcases Y0 (G:=G++[.lst [.int x]]) (H:=G++ .lst [.int z]:: .lst (ns.map D.str)::([.lst (lt'.map D.str)]++N)) (d:=RH.enc ⟨1+i1,ps⟩) Kd with h|h
  ·exact⟨_,by rw[e,h]⟩
  ·exact⟨_,by rw[e,h]⟩
theorem ZFB(hn1:1<=n)(hn6:n<=6)(scale:Int)(G:DH):∃h:RH,h.ps.length=n/\NmOk h/\J6 [.fl (sc.map D.int),.int (n:Int),.int scale] G=.ok h.enc G:=by
 have hc4:∀G,Bo [.fl (sc.map D.int),.int 4] G=.ok (.int (cellAt sc 4)) G:=λG=>Fy (by decide)
 by_cases hc:0<=cellAt sc 4/\cellAt sc 4<10^18
 ·obtain⟨h,h1,h2,h3⟩:=ZCP (sc:=sc) hn6 scale;refine⟨h,h1,h2,?_⟩;have h3':=h3 G xy xy xy xy xy;have be:bel G.length h.enc=x0:=Kd;have td:∀L:DH,tidy G (.ok h.enc (G++L))=.ok h.enc G:=λL=>Hq be
  have hc':cellAt sc 4<1000000000000000000:=hc.2;generalize h.ps.map RP.enc=PS at*;generalize h.enc=he at*;generalize cellAt sc 4=V at*;generalize sc.map D.int=SC at*;unfold J6 Tz;rw[An];simp[hc4,hc.1,hc.2,hc',h3',td]
 ·obtain⟨h,h1,h2,L,h3⟩:=rhouse (cellAt sc 4) scale hn1 hn6 G;refine⟨h,h1,h2,?_⟩;have be:bel G.length h.enc=x0:=Kd;have td:∀L:DH,tidy G (.ok h.enc (G++L))=.ok h.enc G:=λL=>Hq be
  have tn:tidy G (.ok (.ref G.length) (G++[.lst [.int (cellAt sc 4)]]))=.ok (.ref G.length) (G++[.lst [.int (cellAt sc 4)]]):=Dq rfl;generalize h.enc=he at*;generalize cellAt sc 4=V at*;generalize sc.map D.int=SC at*;unfold J6 Tz;rw[An];by_cases h0:0<=V
  ·have h18:¬V<10^18:=λz=>hc ⟨h0,z⟩
   have h18':¬V<1000000000000000000:=h18;simp[Ae,hc4,h0,h18,h18',tn,h3,td]
  ·simp[Ae,hc4,h0,tn,h3,td]
theorem ZGg(cell scale:Int):∃r:List Int,r.length=5/\∀G,Bc (gV 0) Aw J0 [xy,zI scale,zI cell] (Ak 0 5) G=.ok (r.map D.int) G:=by
 obtain⟨ds,h1,h2,h3⟩:=I8 (te:=J0) (S:=[xy,zI scale,zI cell]) (Q:=λd=>∃i,True/\d=.int i) 5 0 λk _ _=>by
  obtain⟨i,b,t⟩:=Bu (cell+(k:Int)) (p:=10099) (m:=4) (by decide) (by decide);have m1:∀G,Ai (.int (i/2)) (.int scale) G=.ok (.int (i/2*scale)) G:=λG=>Cw (by lia) (by lia)
  refine⟨.int (i/2*scale),⟨_,trivial,rfl⟩,λG=>?_⟩;show J0 [zI (k:Int),zI scale,zI cell] G=_;unfold J0;simp[t,m1]
 obtain⟨l,rfl,_⟩:=ints_of h2;exact⟨l,by simpa using h1,h3⟩
theorem Yw{h:RH}{sc:List Int}{scale:Int}:∀(m j:Nat)(lv:List Int)(cm:List (List Int))(x5 x6 x7:Option D),j+m=h.ps.length->lv.length+m<=100->cm.length+m<=100->(∀r∈cm,5<=r.length)->∃(lv':List Int)(cm':List (List Int))(y5 y6 y7:Option D),lv'.length=lv.length+m/\cm'.length=cm.length+m/\(∀r∈cm',5<=r.length)/\∀G:DH,
  Aq (gV 5) H9 (Ak (j:Int) m) [zF (sc.map D.int),xk h.enc,zI scale,zR G.length,zR (G.length+1),x5,x6,x7] (G++[.lst (lv.map D.int),.lst (cm.map tupI)])=
   .nx [zF (sc.map D.int),xk h.enc,zI scale,zR G.length,zR (G.length+1),y5,y6,y7] (G++[.lst (lv'.map D.int),.lst (cm'.map tupI)])
 |0,j,lv,cm,x5,x6,x7,_,_,_,hc=>⟨lv,cm,x5,x6,x7,rfl,rfl,hc,λG=>by rw[Dj,Dh]⟩
 | m + 1,j,lv,cm,x5,x6,x7,e,h1,h2,hc=>by
  obtain⟨p,hp⟩:∃p,h.ps[j]?=xk p:=⟨_,zQ (by lia)⟩;have ap:=Ip hp;have o1:∀G,Ac h.enc (.int 1) G=.ok (.tup (h.ps.map RP.enc)) G:=λG=>Eo
  have hce:∀G,Bo [.fl (sc.map D.int),.int (19+(j:Int))] G=.ok (.int (cellAt sc (19+(j:Int)))) G:=λG=>Fy (by lia)
  obtain⟨r,r1,r2⟩:=ZGg (cellAt sc (19+(j:Int))) scale;obtain⟨i,b,t⟩:=Bu (cellAt sc (19+(j:Int))) (p:=10093) (m:=9) (by decide) (by decide);have m1:∀G,Ai (.int i) (.int scale) G=.ok (.int (i*scale)) G:=λG=>Cw (by lia) (by lia)
  have hr5:inR 5:=Cg (by decide) (by decide);have hcs:∀a b c d e f g h:Option D,Ar 1 [2,6] [a,b,c,d,e,f,g,h]=[xy,c,g]:=λ_ _ _ _ _ _ _ _=>rfl
  have p0:∀G,Ac p.enc (.int 0) G=.ok (.str p.kd.txt) G:=λG=>renc0
  have key:∃(v:Int)(y7:Option D),∀G:DH,H9 [zF (sc.map D.int),xk h.enc,zI scale,zR G.length,zR (G.length+1),zI (j:Int),x6,x7] (G++[.lst (lv.map D.int),.lst (cm.map tupI)])=
    .nx [zF (sc.map D.int),xk h.enc,zI scale,zR G.length,zR (G.length+1),zI (j:Int),zI (cellAt sc (19+(j:Int))),y7] (G++[.lst ((lv++[v]).map D.int),.lst ((cm++[r]).map tupI)]):=by
   have er:tupI r=.tup (r.map D.int):=rfl;have hal:(lv.map D.int).length<1000000:=by rw[zX];lia
   have hac:(cm.map tupI).length<1000000:=by rw[zX];lia
   have hrl:(r.map D.int).length<=1000000:=by rw[zX];lia
   have fz:∀(G:DH)(A B:DO),freeze (G++[A,B]) (.ok (.ref (G.length+2)) (G++[A,B,.lst (r.map D.int)]))=.ok (.fl (r.map D.int)) (G++[A,B]):=λG A B=>ZFN (L:=[]) Do
   have g0:∀(G:DH)(A B:DO),(G++[A,B])[G.length]?=xk A:=λG A B=>by rw[Ea];rfl
   have g1:∀(G:DH)(A B:DO),(G++[A,B])[G.length+1]?=xk B:=λG A B=>by rw[Es];rfl
   have s0:∀(G:DH)(A B C:DO),(G++[A,B]).set G.length C=G++[C,B]:=λG A B C=>by rw[Fv];rfl
   have s1:∀(G:DH)(A B C:DO),(G++[A,B]).set (G.length+1) C=G++[A,C]:=λG A B C=>by rw[Hr];rfl
   by_cases hb:p.kd.txt="basin"
   ·obtain⟨bb,rr,qq,hkd⟩:∃bb rr qq,p.kd=.basin bb rr qq:=by
     cases hk:p.kd with
     |basin a b c=>exact⟨a,b,c,rfl⟩
     |town a b=>rw[hk]at hb;exact absurd hb (by show¬(("town":Str)="basin");decide)
     |mill a=>rw[hk]at hb;exact absurd hb (by show¬(("mill":Str)="basin");decide)
    have p4:∀G,Ac p.enc (.int 4) G=.ok (.int bb) G:=λG=>by unfold RP.enc RP.row RK.rest;rw[hkd];simp
    by_cases hg:bb<i*scale
    ·refine⟨bb,zI bb,λG=>?_⟩;rw[zO,zO,zK,zK,zU,zU,er];generalize cellAt sc (19+(j:Int))=V at*;generalize h.ps.map RP.enc=PS at*;generalize h.enc=he at*;generalize p.enc=pe at*;generalize sc.map D.int=SC at*;generalize r.map D.int=RI at*;generalize lv.map D.int=LV at*;generalize cm.map tupI=CM at*;unfold H9;simp[Ae,hce,o1,ap,p0,hb,t,m1,p4,hg,g0,g1,s0,s1,hal,hac,hr5,hcs,r2,hrl,fz]
    ·refine⟨i*scale,zI (i*scale),λG=>?_⟩;rw[zO,zO,zK,zK,zU,zU,er];generalize cellAt sc (19+(j:Int))=V at*;generalize h.ps.map RP.enc=PS at*;generalize h.enc=he at*;generalize p.enc=pe at*;generalize sc.map D.int=SC at*;generalize r.map D.int=RI at*;generalize lv.map D.int=LV at*;generalize cm.map tupI=CM at*;unfold H9
     simp[Ae,hce,o1,ap,p0,hb,t,m1,p4,hg,g0,g1,s0,s1,hal,hac,hr5,hcs,r2,hrl,fz]
   ·refine⟨0,zI 0,λG=>?_⟩;rw[zO,zO,zK,zK,zU,zU,er];generalize cellAt sc (19+(j:Int))=V at*;generalize h.ps.map RP.enc=PS at*;generalize h.enc=he at*;generalize p.enc=pe at*;generalize sc.map D.int=SC at*;generalize r.map D.int=RI at*;generalize lv.map D.int=LV at*;generalize cm.map tupI=CM at*;unfold H9;simp[Ae,hce,o1,ap,p0,hb,g0,g1,s0,s1,hal,hac,hr5,hcs,r2,hrl,fz]
  obtain⟨v,y7,hb⟩:=key;obtain⟨lv',cm',z5,z6,z7,c1,c2,c3,hL⟩:=Yw (h:=h) (sc:=sc) (scale:=scale) m (j+1) (lv++[v]) (cm++[r]) (zI (j:Int)) (zI (cellAt sc (19+(j:Int)))) y7 (by lia) (by simp;lia) (by simp;lia) (λx hx=>by
   rcases qB.mp hx with hx|hx
   ·exact hc x hx
   ·have:x=r:=by simpa using hx
    rw[this];lia)
  refine⟨lv',cm',z5,z6,z7,by rw[c1];simp;lia,by rw[c2];simp;lia,c3,λG=>?_⟩;rw[Dl,Dc];simp only[Bw,R.Dt,q0,hb,Ds];have e1:((j:Int)+1)=((j+1:Nat):Int):=by lia
  rw[e1,hL]
theorem ZEg(hn:h.ps.length<=100){scale:Int}:∃(lv:List Int)(cm:List (List Int)),lv.length=h.ps.length/\cm.length=h.ps.length/\(∀r∈cm,5<=r.length)/\∀G,M9 [.fl (sc.map D.int),h.enc,.int scale] G=.ok (stE lv cm) G:=by
 obtain⟨lv,cm,y5,y6,y7,c1,c2,c3,hL⟩:=Yw (h:=h) (sc:=sc) (scale:=scale) h.ps.length 0 [] [] xy xy xy (by lia) (by simp;lia) (by simp;lia) (by simp);refine⟨lv,cm,by simpa using c1,by simpa using c2,c3,λG=>?_⟩;have o1:∀G,Ac h.enc (.int 1) G=.ok (.tup (h.ps.map RP.enc)) G:=λG=>Eo
 have hlen:∀G,Bf [.tup (h.ps.map RP.enc)] G=.ok (.int h.ps.length) G:=λG=>by simp
 have hr:inR (h.ps.length:Int):=Cg (by lia) (by lia);have t1:tidy G (.ok (.ref G.length) (G++[.lst []]))=.ok (.ref G.length) (G++[.lst []]):=Dq rfl;have t2:tidy (G++[.lst []]) (.ok (.ref (G.length+1)) (G++[.lst [],.lst []]))=.ok (.ref (G.length+1)) (G++[.lst [],.lst []]):=U3 (L:=[]) rfl;have hL':Aq (gV 5) H9 (Ak 0 h.ps.length) [zF (sc.map D.int),xk h.enc,zI scale,zR G.length,zR (G.length+1),xy,xy,xy] (G++[.lst [],.lst []])=_:=hL G
 have g0:∀(G:DH)(A B:DO),(G++[A,B])[G.length]?=xk A:=λG A B=>by rw[Ea];rfl
 have g1:∀(G:DH)(A B:DO),(G++[A,B])[G.length+1]?=xk B:=λG A B=>by rw[Es];rfl
 have be:bel G.length (stE lv cm)=x0:=by
  have h1:bels G.length (cm.map tupI)=x0:=Dg λr _=>by show bels _ (r.map D.int)=x0;exact Do
  have h2:bel G.length (tupI lv)=x0:=by show bels _ (lv.map D.int)=x0;exact Do
  unfold stE;simp[h1,h2]
 have td:∀L:DH,tidy G (.ok (stE lv cm) (G++L))=.ok (stE lv cm) G:=λL=>Hq be
 have es:stE lv cm=.tup [.tup (lv.map D.int),.tup (cm.map tupI)]:=rfl;rw[es]at td⊢;generalize h.ps.map RP.enc=PS at*;generalize h.ps.length=n at*;generalize h.enc=he at*;generalize sc.map D.int=SC at*;generalize lv.map D.int=LV at*;generalize cm.map tupI=CM at*;unfold M9 Wt;rw[An];simp[Ae,t1,t2,o1,hlen,hr,hL',g0,g1,td]
theorem ZDC(first w many top scale:Int)(hf:0<=first)(hw:0<=w/\w<1000)(hm:0<=many/\many<=100)(ht:0<top/\top<=100):∃r:List Int,r.length=n/\(∀v∈r,∃i,(0<=i/\i<top)/\v=i*scale)/\∀G,Bc (gV 0) Aw Jf [xy,zF (sc.map D.int),zI first,zI many,zI top,zI scale,zI w] (Ak 0 n) G=.ok (r.map D.int) G:=by
 obtain⟨ds,h1,h2,h3⟩:=I8 (te:=Jf) (S:=[xy,zF (sc.map D.int),zI first,zI many,zI top,zI scale,zI w]) (Q:=λd=>∃v,(∃i,(0<=i/\i<top)/\v=i*scale)/\d=.int v) n 0 λk _ _=>by
  have hwm:0<=w*many:=Int.mul_nonneg hw.1 hm.1
  have hce:∀G,Bo [.fl (sc.map D.int),.int (first+w*many+(k:Int))] G=.ok (.int (cellAt sc (first+w*many+(k:Int)))) G:=λG=>Fy (by lia)
  obtain⟨i,b,t⟩:=Bu (cellAt sc (first+w*many+(k:Int))) (p:=10103) (m:=top) (by decide) ht.1
  have m1:∀G,Ai (.int i) (.int scale) G=.ok (.int (i*scale)) G:=λG=>Cw (by lia) (by lia)
  have m2:∀G,Ai (.int w) (.int many) G=.ok (.int (w*many)) G:=λG=>Cw (by lia) (by lia)
  refine⟨.int (i*scale),⟨_,⟨i,b,rfl⟩,rfl⟩,λG=>?_⟩
  show Jf [zI (k:Int),zF (sc.map D.int),zI first,zI many,zI top,zI scale,zI w] G=_
  generalize cellAt sc (first+w*many+(k:Int))=V at*
  generalize sc.map D.int=SC at*;unfold Jf;simp[m2,hce,t,m1]
 obtain⟨l,rfl,h4⟩:=ints_of h2;exact⟨l,by simpa using h1,h4,h3⟩
theorem Xx{sc:List Int}{first top scale:Int}{n turns:Nat}(hf:0<=first)(hn:n<=100)(ht:0<top/\top<=100){s2:Option D}:∀(m w:Nat)(acc:List (List Int))(x7 x8:Option D),w+m<=900->acc.length+m<=1000->∃(rs:List (List Int))(y7 y8:Option D),rs.length=m/\(∀r∈rs,r.length=n/\∀v∈r,∃i,(0<=i/\i<top)/\v=i*scale)/\∀G:DH,
  Aq (gV 7) Jm (Ak (w:Int) m) [zF (sc.map D.int),zI first,s2,zI (n:Int),zI top,zI scale,zR G.length,x7,x8] (G++[.lst (acc.map tupI)])=
   .nx [zF (sc.map D.int),zI first,s2,zI (n:Int),zI top,zI scale,zR G.length,y7,y8] (G++[.lst ((acc++rs).map tupI)])
 |0,w,acc,x7,x8,_,_=>⟨[],x7,x8,rfl,by simp,λG=>by rw[Dj,Dh,qJ]⟩
 | m+1,w,acc,x7,x8,h1,h2=>by
  obtain⟨r,r1,r2,r3⟩:=ZDC (sc:=sc) first (w:Int) (n:Int) top scale (n:=n) hf ⟨by lia,by lia⟩ ⟨by lia,by lia⟩ ht
  obtain⟨rs,z7,z8,c1,c2,c3⟩:=Xx (sc:=sc) (scale:=scale) (turns:=turns) hf hn ht (s2:=s2) m (w+1) (acc++[r]) (zI (w:Int)) (zF (r.map D.int)) (by lia) (by simp;lia);refine⟨r::rs,z7,z8,by simp[c1],qA.mpr ⟨⟨r1,r2⟩,c2⟩,λG=>?_⟩;have hr:inR (n:Int):=Cg (by lia) (by lia);have hcs:∀a b c d e f g h i:Option D,Ar 1 [0,1,3,4,5,7] [a,b,c,d,e,f,g,h,i]=[xy,a,b,d,e,f,h]:=λ_ _ _ _ _ _ _ _ _=>rfl
  have hrl:(r.map D.int).length<=1000000:=by rw[zX];lia
  have hal:(acc.map tupI).length<1000000:=by rw[zX];lia
  have er:tupI r=.tup (r.map D.int):=rfl;have fz:∀A:DO,freeze (G++[A]) (.ok (.ref (G.length+1)) (G++[A,.lst (r.map D.int)]))=.ok (.fl (r.map D.int)) (G++[A]):=λA=>Yp (L:=[]) Do
  have hb:Jm [zF (sc.map D.int),zI first,s2,zI (n:Int),zI top,zI scale,zR G.length,zI (w:Int),x8] (G++[.lst (acc.map tupI)])=
    .nx [zF (sc.map D.int),zI first,s2,zI (n:Int),zI top,zI scale,zR G.length,zI (w:Int),zF (r.map D.int)] (G++[.lst ((acc++[r]).map tupI)]):=by
   rw[zO,zK,zU,er];generalize sc.map D.int=SC at*;generalize r.map D.int=RI at*;generalize acc.map tupI=A at*;unfold Jm;simp[Ae,hr,hcs,r3,hrl,fz,Ea,Fv,hal]
  rw[Dl,Dc];simp only[Bw,R.Dt,q0,hb,Ds];have e1:((w:Int)+1)=((w+1:Nat):Int):=by lia
  rw[e1,c3,List.append_assoc]
  rfl
theorem Ey{l:List (List Int)}:bels n (l.map tupI)=x0:=Dg λr _=>by show bels _ (r.map D.int)=x0;exact Do
theorem Zk{first top scale:Int}{turns:Nat}(hf:0<=first)(hn:n<=100)(htn:turns<=100)(ht:0<top/\top<=100):∃rs:List (List Int),rs.length=turns/\(∀r∈rs,r.length=n/\∀v∈r,∃i,(0<=i/\i<top)/\v=i*scale)/\∀G,freeze G (Hy [.fl (sc.map D.int),.int first,.int (turns:Int),.int (n:Int),.int top,.int scale] G)=.ok (.fl (rs.map tupI)) G:=by
 obtain⟨rs,y7,y8,c1,c2,hL⟩:=Xx (sc:=sc) (scale:=scale) (turns:=turns) hf hn ht (s2:=zI (turns:Int)) turns 0 [] xy xy (by lia) (by simp;lia);refine⟨rs,c1,c2,λG=>?_⟩;have hr:inR (turns:Int):=Cg (by lia) (by lia);have t1:tidy G (.ok (.ref G.length) (G++[.lst []]))=.ok (.ref G.length) (G++[.lst []]):=Dq rfl
 have hL':Aq (gV 7) Jm (Ak 0 turns) [zF (sc.map D.int),zI first,zI (turns:Int),zI (n:Int),zI top,zI scale,zR G.length,xy,xy] (G++[.lst []])=_:=hL G
 rw[List.nil_append]at hL';have t2:tidy G (.ok (.ref G.length) (G++[.lst (rs.map tupI)]))=.ok (.ref G.length) (G++[.lst (rs.map tupI)]):=Dq Ey;have fz:freeze G (.ok (.ref G.length) (G++[.lst (rs.map tupI)]))=.ok (.fl (rs.map tupI)) G:=Ba Ey;generalize rs.map tupI=Z at*;generalize sc.map D.int=SC at*
 have e:Hy [.fl SC,.int first,.int (turns:Int),.int (n:Int),.int top,.int scale] G=.ok (.ref G.length) (G++[.lst Z]):=by unfold Hy Ye;rw[An];simp[Ae,t1,hr,hL',t2]
 rw[e,fz]
noncomputable def prs:List (Int×Int):=[(3,2),(2,3),(3,3),(4,2),(5,1),(2,5),(1,7),(2,2),(3,2),(2,4),(1,4),(3,1),(5,2),(1,2),(2,7),(1,20)]
noncomputable def prD(p:Int×Int):D:=.tup [.int p.1,.int p.2]
theorem ZFZ:∀p∈prs,(1<=p.1/\p.1<=5)/\(1<=p.2/\p.2<=20)/\(7<p.2->p.1=1):=by decide
theorem ZFU(h0:0<=i)(h1:i<16):∃n t:Nat,(1<=n/\n<=5)/\(1<=t/\t<=20)/\(7<t->n=1)/\atI (prs.map prD) i=zT [.int (n:Int),.int (t:Int)]:=by
 have hl:i<((prs.map prD).length:Int):=by
  have:(prs.map prD).length=16:=by rw[zX];decide
  rw[this];exact h1
 have e:=Qi h0 hl;rw[List.getElem_map]at e;have hm:=ZFZ _ (jw (l:=prs) (n:=i.toNat) (by
  have:prs.length=16:=by decide
  lia))
 generalize prs[i.toNat]'(by
  have:prs.length=16:=by decide
  lia)=p at*
 obtain⟨a,b⟩:=p;obtain⟨m1,m2,m3⟩:=hm;dsimp only at m1 m2 m3;refine⟨a.toNat,b.toNat,by lia,by lia,λz=>by have:=m3 (by lia);lia,?_⟩;rw[e];unfold prD;have ea:((a.toNat:Nat):Int)=a:=by lia
 have eb:((b.toNat:Nat):Int)=b:=by lia
 rw[ea,eb]
theorem ZAC{dear top:Int}(hd:dear=1∨dear=100)(ht:top<=100)(h:∀v∈l,∃i,(0<=i/\i<top)/\v=i*dear):Sml l:=λy hy=>by
 obtain⟨i,hi,rfl⟩:=h y hy;rcases hd with rfl|rfl
 ·lia
 ·lia
theorem ZDi(sc:List Int)(G:DH):∃(h:RH)(lv:List Int)(cm fl pays:List (List Int))(left:List Int),GvOk h lv cm fl pays left/\Jd [.fl (sc.map D.int)] G=.ok (.tup [h.enc,stE lv cm,.fl (fl.map tupI),.fl (pyD pays),.tup (left.map D.int)]) G:=by
 have hc0:∀G,Bo [.fl (sc.map D.int),.int 0] G=.ok (.int (cellAt sc 0)) G:=λG=>Fy (by decide)
 obtain⟨i1,b1,t1⟩:=Bu (cellAt sc 0) (p:=10273) (m:=16) (by decide) (by decide);obtain⟨n,tr,hn,htr,h71,ap⟩:=ZFU b1.1 b1.2;obtain⟨scale,hsc⟩:=Oo (l:=[1,1,1000000007,10^30]) (i:=cellAt sc 0/15%4) (jV _ (by decide)) (qL _ (by decide));obtain⟨dear,hdr,had⟩:∃dear:Int,(dear=1∨dear=100)/\∀G,Ac (.fl [.int 1,.int 1,.int 100]) (.int (cellAt sc 0/60%3)) G=.ok (.int dear) G:=by
  rcases(by lia:cellAt sc 0/60%3=0∨cellAt sc 0/60%3=1∨cellAt sc 0/60%3=2)with h|h|h<;>rw[h]
  ·exact⟨1,.inl rfl,λG=>by simp⟩
  ·exact⟨1,.inl rfl,λG=>by simp⟩
  ·exact⟨100,.inr rfl,λG=>by simp⟩
 obtain⟨h,hh1,hh2,hh3⟩:=ZFB (sc:=sc) hn.1 (by lia) scale G;obtain⟨lv,cm,s1,s2,s3,s4⟩:=ZEg (h:=h) (by lia) (sc:=sc) (scale:=scale)
 obtain⟨pays,p1,p2,p3⟩:=Zk (sc:=sc) (first:=39) (top:=10) (scale:=dear) (n:=n) (turns:=tr) (by decide) (by lia) (by lia) (by decide)
 obtain⟨fl,f1,f2,f3⟩:=Zk (sc:=sc) (first:=24) (top:=6) (scale:=scale) (n:=n) (turns:=tr) (by decide) (by lia) (by lia) (by decide)
 obtain⟨lds,l1,l2,l3⟩:=I8 (te:=Jx) (S:=[xy,zF (sc.map D.int),zI dear]) (Q:=λd=>∃v,(∃i,(0<=i/\i<7)/\v=i*dear)/\d=.int v) n 0 λk _ _=>by
  have hce:∀G,Bo [.fl (sc.map D.int),.int (54+(k:Int))] G=.ok (.int (cellAt sc (54+(k:Int)))) G:=λG=>Fy (by lia)
  obtain⟨i,b,t⟩:=Bu (cellAt sc (54+(k:Int))) (p:=10111) (m:=7) (by decide) (by decide);have m1:∀G,Ai (.int i) (.int dear) G=.ok (.int (i*dear)) G:=λG=>Cw (by lia) (by lia)
  refine⟨.int (i*dear),⟨_,⟨i,b,rfl⟩,rfl⟩,λG=>?_⟩;show Jx [zI (k:Int),zF (sc.map D.int),zI dear] G=_;generalize cellAt sc (54+(k:Int))=V at*;generalize sc.map D.int=SC at*;unfold Jx;simp[hce,t,m1]
 obtain⟨left,rfl,l4⟩:=ints_of l2;have hln:left.length=n:=by simpa using l1
 have l3':∀G,Bc (gV 0) Aw Jx [xy,zF (sc.map D.int),zI dear] (Ak 0 n) G=.ok (left.map D.int) G:=l3;obtain⟨fl2,g1,g2,g3⟩:∃fl2:List (List Int),fl2.length=tr/\(∀f∈fl2,7<tr->f.length=n)/\∀G,Bc (gV 0) Aw Gq [xy,zI (cellAt sc 0),zF (fl.map tupI)] (Ak 0 tr) G=.ok (fl2.map tupI) G:=by
  obtain⟨ds,d1,d2,d3⟩:=I8 (te:=Gq) (S:=[xy,zI (cellAt sc 0),zF (fl.map tupI)]) (Q:=λd=>∃f:List Int,(7<tr->f.length=n)/\d=tupI f) tr 0 λk _ k2=>by
   obtain⟨f,hf⟩:∃f,fl[k]?=xk f:=⟨_,zQ (by lia)⟩;have af:atI (fl.map tupI) (k:Int)=xk (tupI f):=Bs rfl (by rw[z0,hf];rfl);by_cases hk:(k:Int)%7=cellAt sc 0%7
   ·refine⟨tupI f,⟨f,λ_=>(f2 f (qZ hf)).1,rfl⟩,λG=>?_⟩;show Gq [zI (k:Int),zI (cellAt sc 0),zF (fl.map tupI)] G=_;generalize cellAt sc 0=V at*;generalize fl.map tupI=FL at*;unfold Gq;simp[hk,af]
   ·refine⟨tupI [0],⟨[0],λz=>by rw[h71 z];rfl,rfl⟩,λG=>?_⟩;show Gq [zI (k:Int),zI (cellAt sc 0),zF (fl.map tupI)] G=_;have e0:tupI [0]=.tup [.int 0]:=rfl;rw[e0];generalize cellAt sc 0=V at*;generalize fl.map tupI=FL at*;unfold Gq;simp[hk]
  have fo:∀{ds:List D},(∀d∈ds,∃f:List Int,(7<tr->f.length=n)/\d=tupI f)->∃l:List (List Int),ds=l.map tupI/\∀f∈l,7<tr->f.length=n:=by
   intro ds
   induction ds with
   |nil=>exact λ_=>⟨[],rfl,by simp⟩
   |cons d ds ih=>
    intro hd;obtain⟨f,hf,rfl⟩:=hd d (by simp);obtain⟨l,rfl,hl⟩:=ih λx hx=>hd x (zV _ hx)
    exact⟨f::l,rfl,qA.mpr ⟨hf,hl⟩⟩
  obtain⟨l,rfl,hl⟩:=fo d2;exact⟨l,by simpa using d1,hl,d3⟩
 have hsc':∀G,Ac (.fl [.int 1,.int 1,.int 1000000007,.int 1000000000000000000000000000000]) (.int (cellAt sc 0/15%4)) G=.ok (.int scale) G:=hsc;have fzs:∀G:DH,freeze G (.ok (.ref G.length) (G++[.lst [.int 1,.int 1,.int 1000000007,.int 1000000000000000000000000000000]]))=.ok (.fl [.int 1,.int 1,.int 1000000007,.int 1000000000000000000000000000000]) G:=λG=>Ba rfl
 have fzd:∀G:DH,freeze G (.ok (.ref G.length) (G++[.lst [.int 1,.int 1,.int 100]]))=.ok (.fl [.int 1,.int 1,.int 100]) G:=λG=>Ba rfl
 have fz13:∀G:DH,freeze G (.ok (.ref G.length) (G++[.lst ((prs.take 13).map prD)]))=.ok (.fl ((prs.take 13).map prD)) G:=λG=>Ba rfl
 have fz3:∀G:DH,freeze G (.ok (.ref G.length) (G++[.lst ((prs.drop 13).map prD)]))=.ok (.fl ((prs.drop 13).map prD)) G:=λG=>Ba rfl
 have fz16:∀G:DH,freeze G (.ok (.ref G.length) (G++[.lst (prs.map prD)]))=.ok (.fl (prs.map prD)) G:=λG=>Ba rfl
 have ad:∀G,Af (.fl ((prs.take 13).map prD)) (.fl ((prs.drop 13).map prD)) G=.ok (.ref G.length) (G++[.lst (prs.map prD)]):=λG=>rfl
 have hrn:inR (n:Int):=Cg (by lia) (by lia);have hrt:inR (tr:Int):=Cg (by lia) (by lia);have fzl:∀G:DH,freeze G (.ok (.ref G.length) (G++[.lst (left.map D.int)]))=.ok (.fl (left.map D.int)) G:=λG=>Ba Do
 have fzf:∀G:DH,freeze G (.ok (.ref G.length) (G++[.lst (fl2.map tupI)]))=.ok (.fl (fl2.map tupI)) G:=λG=>Ba Ey
 have ll:(left.map D.int).length<=1000000:=by rw[zX];lia
 have lf2:(fl2.map tupI).length<=1000000:=by rw[zX];lia
 have hcs1:∀a b c d e f g h i j k:Option D,Ar 1 [0,7] [a,b,c,d,e,f,g,h,i,j,k]=[xy,a,h]:=λ_ _ _ _ _ _ _ _ _ _ _=>rfl
 have hcs2:∀a b c d e f g h i j k:Option D,Ar 1 [1,10] [a,b,c,d,e,f,g,h,i,j,k]=[xy,b,k]:=λ_ _ _ _ _ _ _ _ _ _ _=>rfl
 have epy:pyD pays=pays.map tupI:=rfl;have bst:bel G.length (stE lv cm)=x0:=by
  have h2:bel G.length (tupI lv)=x0:=by show bels _ (lv.map D.int)=x0;exact Do
  unfold stE;simp[h2,Ey]
 have bhe:bel G.length h.enc=x0:=Kd;have bl:bels G.length (left.map D.int)=x0:=Do;have bp:bels G.length (pays.map tupI)=x0:=Ey;have bf:bels G.length (fl.map tupI)=x0:=Ey;have bf2:bels G.length (fl2.map tupI)=x0:=Ey;have e13:(prs.take 13).map prD=[.tup [.int 3,.int 2],.tup [.int 2,.int 3],.tup [.int 3,.int 3],.tup [.int 4,.int 2],.tup [.int 5,.int 1],.tup [.int 2,.int 5],.tup [.int 1,.int 7],.tup [.int 2,.int 2],.tup [.int 3,.int 2],.tup [.int 2,.int 4],.tup [.int 1,.int 4],.tup [.int 3,.int 1],.tup [.int 5,.int 2]]:=rfl
 have e3:(prs.drop 13).map prD=[.tup [.int 1,.int 2],.tup [.int 2,.int 7],.tup [.int 1,.int 20]]:=rfl;rw[e13]at fz13 ad;rw[e3]at fz3 ad;have gv:∀F:List (List Int),F.length=tr->(∀f∈F,f.length=n)->GvOk h lv cm F pays left:=λF hF hFn=>⟨by lia,hh2,s1,s3,by lia,λf hf=>by rw[hh1];exact hFn f hf,by lia,by lia,λl hl=>⟨by rw[hh1];exact(p2 l hl).1,ZAC hdr (by decide) (p2 l hl).2⟩,by lia,ZAC (top:=7) hdr (by decide) l4⟩
 by_cases h7:7<tr
 ·refine⟨h,lv,cm,fl2,pays,left,gv fl2 g1 λf hf=>g2 f hf h7,?_⟩;have h7':(7:Int)<(tr:Int):=by lia
  rw[epy];generalize prs.map prD=PR at*;generalize fl2.map tupI=FL2 at*;generalize fl.map tupI=FL at*;generalize pays.map tupI=PY at*;generalize left.map D.int=LF at*;generalize stE lv cm=SE at*;generalize h.enc=he at*;generalize cellAt sc 0=V at*;generalize sc.map D.int=SC at*;unfold Jd Mx O7 R8 Od Ou Q3 Pn Td N5 S7 Nm Nj;rw[An];simp[-Kh,Ae,hc0,fz13,fz3,ad,fz16,t1,ap,fzs,hsc',hh3,fzd,had,p3,hrn,hcs1,l3',ll,fzl,f3,h7,h7',hrt,hcs2,g3,lf2,fzf,s4,bhe,bst,bf2,bp,bl,Be]
 ·refine⟨h,lv,cm,fl,pays,left,gv fl f1 λf hf=>(f2 f hf).1,?_⟩;have h7':¬(7:Int)<(tr:Int):=by lia
  rw[epy];generalize prs.map prD=PR at*;generalize fl2.map tupI=FL2 at*;generalize fl.map tupI=FL at*;generalize pays.map tupI=PY at*;generalize left.map D.int=LF at*;generalize stE lv cm=SE at*;generalize h.enc=he at*;generalize cellAt sc 0=V at*;generalize sc.map D.int=SC at*;unfold Jd Mx O7 R8 Od Ou Q3 Pn Td N5 S7 Nm Nj;rw[An];simp[-Kh,Ae,hc0,fz13,fz3,ad,fz16,t1,ap,fzs,hsc',hh3,fzd,had,p3,hrn,hcs1,l3',ll,fzl,f3,h7,h7',s4,bhe,bst,bf,bp,bl,Be]
theorem ZEq{lo hi:Option Int}:cutD (sc.map D.int) lo hi=(cutD sc lo hi).map D.int:=by unfold cutD;rw[zX,List.map_take,List.map_drop]
theorem ZAv(sc:List Int)(hl:sc.length<=63)(G:DH):Gh [.fl (sc.map D.int)] G=.ok (.bl x0) G:=by
 obtain⟨h,lv,cm,fl,pays,left,gv,hg⟩:=ZDi sc G;have ft0:Fit h [] [] left:=⟨rfl,by simp,by simp,gv.lf⟩;have e0:∀G,Fi [h.enc,.fl [],.fl [],.tup (left.map D.int)] G=.ok (.int 0) G:=λG=>Nu ft0 gv.n (by simp) G
 have hc2:∀G,Bo [.fl (sc.map D.int),.int 2] G=.ok (.int (cellAt sc 2)) G:=λG=>Fy (by decide)
 have hcl:(cutD sc (xk 59) (xk 61)).length<=63:=by unfold cutD;rw[qK,qT];lia
 obtain⟨y6,y7,y8,y9,hL⟩:=Zf gv G (zF (sc.map D.int)) (cellAt sc 2::cutD sc (xk 59) (xk 61)) xy xy xy xy;rw[zK]at hL;have cm1:cutD (sc.map D.int) (xk 59) (xk 61)=(cutD sc (xk 59) (xk 61)).map D.int:=ZEq;have bT:bels G.length [h.enc,stE lv cm,.fl (fl.map tupI),.fl (pyD pays),.tup (left.map D.int)]=x0:=by
  have h2:bel G.length (stE lv cm)=x0:=by
   have h2:bel G.length (tupI lv)=x0:=by show bels _ (lv.map D.int)=x0;exact Do
   unfold stE;simp[h2,Ey]
  simp[h2,Ey,Mf,Do]
 have fg:freeze G (.ok (.tup [h.enc,stE lv cm,.fl (fl.map tupI),.fl (pyD pays),.tup (left.map D.int)]) G)=.ok (.tup [h.enc,stE lv cm,.fl (fl.map tupI),.fl (pyD pays),.tup (left.map D.int)]) G:=Hm (by simpa[bel]using bT);have f0:∀G:DH,freeze G (.ok (.ref G.length) (G++[.lst []]))=.ok (.fl []) G:=λG=>Ba rfl
 have f1:∀(i:Int)(G:DH),freeze G (.ok (.ref G.length) (G++[.lst [.int i]]))=.ok (.fl [.int i]) G:=λi G=>Ba rfl
 have f2:∀G:DH,freeze G (.ok (.ref G.length) (G++[.lst ((cutD sc (xk 59) (xk 61)).map D.int)]))=.ok (.fl ((cutD sc (xk 59) (xk 61)).map D.int)) G:=λG=>Ba Do
 have f3:∀G:DH,freeze G (.ok (.ref G.length) (G++[.lst (.int (cellAt sc 2)::(cutD sc (xk 59) (xk 61)).map D.int)]))=.ok (.fl (.int (cellAt sc 2)::(cutD sc (xk 59) (xk 61)).map D.int)) G:=λG=>Ba (by have:=Do (m:=G.length) (l:=cellAt sc 2::cutD sc (xk 59) (xk 61));simpa using this)
 have ll:((cutD sc (xk 59) (xk 61)).map D.int).length<=999999:=by rw[zX];lia
 have ad:∀G,Af (.fl [.int (cellAt sc 2)]) (.fl ((cutD sc (xk 59) (xk 61)).map D.int)) G=.ok (.ref G.length) (G++[.lst (.int (cellAt sc 2)::(cutD sc (xk 59) (xk 61)).map D.int)]):=λG=>by
  show(if[D.int (cellAt sc 2)].length+((cutD sc (xk 59) (xk 61)).map D.int).length<=1000000 then R.ok (D.ref G.length) (G++[DO.lst ([D.int (cellAt sc 2)]++(cutD sc (xk 59) (xk 61)).map D.int)])else .bad)=_;rw[if_pos (by simp only[qU,List.length_nil];lia)]
  rfl
 generalize(cutD sc (xk 59) (xk 61)).map D.int=CS at*;generalize cellAt sc 2=V at*;generalize sc.map D.int=SC at*;generalize fl.map tupI=FL at*;generalize pyD pays=PY at*;generalize left.map D.int=LF at*;generalize stE lv cm=SE at*;generalize h.enc=he at*;unfold Gh Wb ZAD Xg W5;rw[An];simp[-Kh,Ae,hg,fg,f0,e0,W6,hc2,f1,cm1,f2,ad,f3,hL,Be]
theorem holds:Holds:=λns hl=>⟨[],ZAv ns hl []⟩
end _W
namespace _W
open PySem _L _D
seal QE QT QA QS QSs QG QGs QI QTs QW QO
structure Txt (K:PySem.W.Frag) (mg:Str->Option jA):Prop where
 Tw:FT K mg "_law_cell_at" Qv Tq
 Nt:FT K mg "_law_earned" Ni Tu
 T9:FT K mg "_law_names" Qy Ph
 Ng:FT K mg "_law_mix" R3 Rx
 Qj:FT K mg "_law_stairs" Q5 Q0
 Ml:FT K mg "_law_rule" Q7 Ow
 Np:FT K mg "_law_place" Qk Ss
 Sq:FT K mg "_law_take" Tc O1
 S6:FT K mg "_law_read_stairs" Qq Oh
 R0:FT K mg "_law_read_place" Sh U4
 Oj:FT K mg "_law_read_house" Tj Q6
 Px:FT K mg "_law_house" Tr Py
 Pb:FT K mg "_law_rows" Mr Mw
 Sg:FT K mg "_law_state" O5 Ru
 T3:FT K mg "_law_given" Qc O3
 Rm:FT K mg "_law_down" Rp Sy
 Rf:FT K mg "_law_due" Pr Qx
 Qt:FT K mg "_law_choice" Oc U5
 Nb:FT K mg "_law_row" Q8 P0
 Rn:FT K mg "_law_send" U0 Rv
 Pj:FT K mg "_law_to" Qo Ro
 N6:FT K mg "_law_pages" Pa N8
 Qn:FT K mg "_law_whole" Nr Nx
 Nq:FT K mg "earned_in_turn" Rk Ol
 O6:FT K mg "earned" Ry O8
 M5:FT K mg "law" Dz R1
 ZAq:mg "bool"=xy
 ZGv:mg "enumerate"=xy
 ZDF:mg "int"=xy
 ZBO:mg "isinstance"=xy
 ZHG:mg "len"=xy
 ZFE:mg "list"=xy
 ZC9:mg "min"=xy
 ZBh:mg "range"=xy
 ZAa:mg "sum"=xy
 ZCB:mg "tuple"=xy
 ZDO:mg "zip"=xy
 Zi:mg "KIND"=xk (.int 0 (Du K "KIND"))
 Ul:mg "LET"=xk (.int 3 (Du K "LET"))
 ZAF:mg "LIES"=xk (.int 5 (Du K "LIES"))
 Ux:mg "MOST"=xk (.int 4 (Du K "MOST"))
 Xi:mg "PLACES"=xk (.int 1 (Du K "PLACES"))
 Vp:mg "PUMPED"=xk (.int 4 (Du K "PUMPED"))
 Xf:mg "TOOK"=xk (.int 1 (Du K "TOOK"))
section
seal Ej Lp dC Jp Bm Aa dFn Ah Ik dIf Cd Kg Ab Gk Li dOp dOr dSl Cm Aj dUn dV Ez Bf Eb Ep Et Br Bg gIx Hs Dn Cq gV Fq Ay Hb Fo Cz Hf Hn Af Cu Az Ef Jt Ac Kz K1 Cj Ai Ed Lk Ib Gm Ci rng1 sAs sAu sEx Bt sIf sNx sRt Ad
local macro_rules | `(tactic|trivial)=> `(tactic|first|refine' (_:String)|refine' (_:Str)|refine' (_:j1))
local macro_rules | `(tactic|trivial)=>pure (wR "QS _ _|_ (sAs (Ah _) _):-ZBe ?|(Stmt.Assign (List.cons (Expr.Name .) List.nil) (Expr.ListComp .) .) _:-ZDc _ nd ? L ? l l|(Stmt.Assign (List.cons (Expr.Name .) List.nil) .) (sAs _ (gV _)):-Sx _ nd ?|_ (sEx _):-ZCI ?|_ (sAs _ _):-Tf ? ?|_ (Bt _ _ _):-Ij PassesOwn.never rfl ? ? ?|_ (sAu _ _ _):-ZFv _ nd ? ?|@ZF1,@Mz#QE _ _|_ (dV _):.Gn _|(Expr.Subscript .) (dOp _ _ _):-ZGQ ? ? ?|(Expr.Call (Expr.Name .) .) (dFn _ _):<ZEA ? rfl ? ? ?,<ZBo ? rfl ? ? ?,-Bj (ZFf T) T.Sq hr ?,-Bj (ZEU T) T.Ng hr ?,-Bj (ZFt T) T.Tw hr ?,-Bj (ZCR T) T.O6 hr ?,-Bj (ZAe T) T.Qt hr ?,-Bj (ZGr T) T.Qn hr ?,-Bj (ZCf T) T.Qj hr ?,-Bj (ZDp T) T.S6 hr ?,-Bj (ZDG T) T.Pb hr ?,-Bj (ZDU T) T.Rn hr ?,-Bj (ZGj T) T.Nt hr ?,-Bj (ZB6 T) T.Ml hr ?,-Bj (ZGi T) T.R0 hr ?,-Bj (ZB0 T) T.Oj hr ?,-Bj (ZCQ T) T.T9 hr ?,-Bj (ZAb T) T.Np hr ?,-Bj (ZCL T) T.Px hr ?,-Bj (ZDe T) T.Sg hr ?,-Bj (ZCe T) T.Rf hr ?,-Bj (ZAw T) T.Nb hr ?,-Bj (ZFj T) T.Rm hr ?,-Bj (ZCY T) T.Pj hr ?,-Bj (ZFA T) T.Nq hr ?,-Bj (ZFq T) T.T3 hr ?,-Bj (ZBs T) T.N6 hr ?|_ (Cd _ _ _):-ZHP ? ? ? ? ?|(Expr.Name .) (dC (D.ty .)):-ZCp rfl ? ?|_ (dSl _ _ _):-ZG3 ? ? ?|_ (Bm _ _ _ _ _ _):-ZAY ? L ? l l|(Expr.Name .) (dC _):<ZFO rfl ?|.Rw,.Y5,.ZBL,.ZGJ,@Rh,@ZCH,@ZFP,@ZEa,@ZAl,@ZFl,@ZEd,@ZEO,@ZAx,@ZEY#QA _ _|.ZDQ,-ZAj ? ?#QSs _ _|@Ce,.Ny,@J8#QG _ _|_ (gV _):.ZFC _ nd|_ (Cq _ _):-ZEf rfl ?|_ (gIx _ _):-ZEh ? ?#QGs _ _|.ZCa,-ZE7 ? ?#QTs _ _|.ZFc,-ZBd ?#QT _ _|(Expr.Compare _ (List.cons _ List.nil) .) (Aj _):-Ua ? ? ? (nomark _)|_ (Aj _):-ZDd ?|(Expr.BoolOp .) _:-qt_w ?|(Expr.Compare _ (List.cons _ (List.cons _ List.nil)) .) _:-ZCi ? ? ? ? ?|@ZBQ#QI _ _ _|(Expr.Call _ (List.cons _ List.nil) .) (Ay rng1 _):-ZE5 rfl ? ?|_ (Ay Fq _):-ZCA rfl ? ?|_ (Ay (Fo 2) _):-ZAk rfl ? ?|@ZGm#QW _ _|@ZEL,@ZCM,@Tn,@ZCX#QO _ _|.ZFx,@ZD1#GK|_ (gV _):.ZEs d|@ZE1#GKs|.ZCS,@ZDg#=IxR _ _|!i_ix#=OpR _ _ _|!Sd,!ZG6,!ZAf,!ZAZ,!o_gt,!ZHJ,!ZCT,!o_lt,!ZFb,!ZGV,!o_le,!ZBr,.o_eq hr.units,.o_ne hr.units#=Eq _ none|.T.ZBh,.T.ZHG,.T.ZCB,.T.ZC9,.T.ZFE,.T.ZBO,.T.ZGv,.T.ZAa,.T.ZDF,.T.ZAq,.T.ZDO#=CallR _ _ _|.ZEk,.ZCv,=ZF7 ?,=ZFs ?,.ZA6,=ZC5 ?#=Eq (bootBuiltins _) _|!ZGD,!ZBA,!ZDD,!ZCC,!ZDV,!ZAz,!ZDA,!ZBZ#=Slot _ _ _|!PySem.F.slot_list_append,!PySem.F.slot_list_index,!PySem.F.slot_list_pop#=Eq (typeOf _) _|!PySem.F.type_list_append,!PySem.F.type_list_index,!PySem.F.type_list_pop#=MtM _ _ _|!ZCZ,!ZBS,!ZF6#=Eq _ (some _)|.T.Zi,.T.Xi,.T.Xf,.T.Ul,.T.Ux,.T.Vp,.T.ZAF#=UnR _ _ _|!ZF5#*|.hr.mono d")
set_option hygiene false in
local macro_rules | `(tactic|exists $a,$b)=> `(tactic|(refine Jj $a $b λcdv A outer s H E hr=>?_;have nd:=($b).nd;trivial))
variable{P:j6}{w:jB}{K:PySem.W.Frag}{mg:Str->Option jA}{base:Heap}(T:Txt K mg)
include T
theorem ZFt:FnO P w K mg base 1 "_law_cell_at" Tq Bo:=by exists T.Tw.F,ZDR
theorem ZGj:FnO P w K mg base 1 "_law_earned" Tu Jg:=by exists T.Nt.F,ZHC
theorem ZCQ:FnO P w K mg base 1 "_law_names" Ph Ff:=by exists T.T9.F,ZG8
theorem ZEU:FnO P w K mg base 1 "_law_mix" Rx Bk:=by exists T.Ng.F,ZB7
theorem ZCf:FnO P w K mg base 2 "_law_stairs" Q0 Jv:=by exists T.Qj.F,ZG2
theorem ZB6:FnO P w K mg base 3 "_law_rule" Ow Ju:=by exists T.Ml.F,ZFh
theorem ZAb:FnO P w K mg base 4 "_law_place" Ss Fd:=by exists T.Np.F,ZBi
theorem ZFf:FnO P w K mg base 1 "_law_take" O1 Bh:=by exists T.Sq.F,ZEK
theorem ZDp:FnO P w K mg base 2 "_law_read_stairs" Oh G6:=by exists T.S6.F,ZFM
theorem ZGi:FnO P w K mg base 3 "_law_read_place" U4 Gf:=by exists T.R0.F,ZBC
theorem ZB0:FnO P w K mg base 4 "_law_read_house" Q6 K7:=by
 refine Jj T.Oj.F Yb λcdv A outer s H E hr=>?_
 have nd:=Yb.nd
 exact(Ce (by trivial) (Ce (by trivial) (Ce (by trivial) (Ce (Ij PassesOwn.never rfl (by trivial) (by trivial) (Ce (by trivial) (Ce (by trivial) (Ce (Mz (qt_w (Tn (by trivial) (Tn (Ua ZCF Y5 (Gn 4) (by with_unfolding_all rfl)) (by trivial)))) (by trivial) Ny) (by trivial))))) (by trivial)))))
theorem ZCL:FnO P w K mg base 5 "_law_house" Py J6:=by exists T.Px.F,ZCz
theorem ZDG:FnO P w K mg base 2 "_law_rows" Mw Hy:=by exists T.Pb.F,ZG7
theorem ZDe:FnO P w K mg base 2 "_law_state" Ru M9:=by exists T.Sg.F,ZBN
theorem ZFq:FnO P w K mg base 6 "_law_given" O3 Jd:=by exists T.T3.F,ZGw
theorem ZFj:FnO P w K mg base 1 "_law_down" Sy Js:=by exists T.Rm.F,ZGt
theorem ZCe:FnO P w K mg base 1 "_law_due" Qx M3:=by
 refine Jj T.Rf.F T6 λcdv A outer s H E hr=>?_
 have nd:=T6.nd;exact(Ce (Sx 1 T6.nd ZDz) (Ce (Ij PassesOwn.never rfl (by trivial) (by trivial) (J8 (Ij PassesOwn.never rfl (by trivial) (by trivial) (J8 (Tf (by trivial) (Uj hr.units (Gn 1) (by trivial))))))) (by trivial)))
theorem ZAe:FnO P w K mg base 1 "_law_choice" U5 Fp:=by exists T.Qt.F,ZGM
theorem ZAw:FnO P w K mg base 2 "_law_row" P0 Gu:=by exists T.Nb.F,ZCt
theorem ZDU:FnO P w K mg base 1 "_law_send" Rv I9:=by
 refine Jj T.Rn.F Uz λcdv A outer s H E hr=>?_
 have nd:=Uz.nd;exact(J8 (Mz (by trivial) (J8 (Tf (Rh Sd (ZAS hr.units (Gn 0) (by trivial) Rw ⟨rfl,rfl,rfl,rfl⟩) (Gn 3)) (Uj hr.units (Gn 0) (by trivial)))) Ny))
theorem ZCY:FnO P w K mg base 1 "_law_to" Ro Le:=by exists T.Pj.F,ZDZ
theorem ZBs:FnO P w K mg base 3 "_law_pages" N8 La:=by
 refine Jj T.N6.F Rg λcdv A outer s H E hr=>?_
 have nd:=Rg.nd;exact(Ce (by trivial) (Ce (by trivial) (Ce (by trivial) (Ce (Ij PassesOwn.never rfl (by trivial) (by trivial) (Ce (by trivial) (Ce (Ij PassesOwn.never rfl (by trivial) (by trivial) (Ce (by trivial) (Ce (Sx 11 Rg.nd (Rh Sd (by trivial) (ZAS hr.units (Gn 4) (by trivial) Rw ⟨rfl,rfl,rfl,rfl⟩))) (by trivial)))) (by trivial)))) (by trivial)))))
theorem ZGr:FnO P w K mg base 1 "_law_whole" Nx Hh:=by exists T.Qn.F,ZDo
theorem ZFA:FnO P w K mg base 1 "earned_in_turn" Ol M7:=by exists T.Nq.F,ZEG
theorem ZCR:FnO P w K mg base 2 "earned" O8 Fi:=by exists T.O6.F,ZAu
theorem ZDa:FnO P w K mg base 7 "law" R1 Gh:=by exists T.M5.F,ZCc
end
theorem ZAp{K:PySem.W.Frag}{h:Heap}{mg:Str->Option jA}(X:K.In h)(G:h.Ns jL mg)(S:AllSaid K asks):Txt K mg:=by
 obtain⟨Tw,Nt,T9,Ng,Qj,Ml,Np,Sq,S6,R0,Oj,Px,Pb,Sg,T3,Rm,Rf,Qt,Nb,Rn,Pj,N6,Qn,Nq,O6,M5,z_bool,z_enumerate,z_int,z_isinstance,z_len,z_list,z_min,z_range,z_sum,ZIN,z_zip,Zi,Ul,ZAF,Ux,Xi,Vp,Xf,_⟩:=S
 constructor <;> first|assumption|exact PySem.W.mg_none_of X G (by assumption)|exact PySem.W.mg_of X G (by assumption)|((first|refine ZEM X G (by assumption) ?_);(first|exact λ_ _ _ _ _ _=>bnd1 λ_=>rfl|exact λ_ _ _ _ _ _=>bnd2 λ_ _=>rfl|exact λ_ _ _ _ _ _=>bnd3 λ_ _ _=>rfl|exact λ_ _ _ _ _ _=>bnd4 λ_ _ _ _=>rfl|exact λ_ _ _ _ _ _=>bnd5 λ_ _ _ _ _=>rfl|exact λ_ _ _ _ _ _=>bnd6 λ_ _ _ _ _ _=>rfl))
theorem all_mk{l:PySem.W.OpenLaw}{w:jB}{K:PySem.W.Frag}{h:Heap}{mg:Str->Option jA}{fa:j1}(X:K.In h)(G:h.Ns jL mg)(hfa:mg "law"=xk (.ref fa))(S:AllSaid K asks):
  ∃fd:j4,(∀(s:j8)(v:jA),BindsTo s fd ⟨[v],[]⟩ [("_law_script",v)])/\∀base:Heap,K.In base->base.Ns jL mg->FnOk l.prog w K mg base CX0 7 fa fd ["_law_script"] (lF K Gh):=by
 have T:=ZAp X G S;have eL:=T.M5.m;obtain rfl:fa=Ao K "law":=by rw[hfa]at eL;cases eL;rfl
 exact⟨_,λs v=>ZAh (T.M5.F),λbase _ _=>ZDa T⟩
theorem walk{l:PySem.W.OpenLaw}{q:j6}{loose:List Str}{XP:(Str->Option jA)->Heap->Prop}{YP:jB->Heap->Prop}{d:DefRec}{K:jB->PySem.W.Frag}(hn:l.most=xk 63)(hdf:d.params.defaults=[])(HH:Holds)
  (hY:∀(w:jB)(h:Heap),YP w h->(K w).In h)
  (F:∀(w:jB)(mg:Str->Option jA)(fa:j1)(h:Heap),(K w).In h->h.Ns jL mg->mg d.name=xk (.ref fa)->
   ∃fd:j4,(∀(s:j8)(u:jA),BindsTo s fd ⟨[u],[]⟩ [("_law_script",u)])/\∀base:Heap,(K w).In base->base.Ns jL mg->FnOk l.prog w (K w) mg base CX0 7 fa fd ["_law_script"] (lF (K w) Gh)):
  PySem.W.WalkO q loose XP YP l.row.toRowW d [] (λf vs=>PySem.call f vs):=
 _L.ZDH (n:=63) (k:=7) (x:="_law_script") (CX:=λ_=>CX0) (sp:=λw=>lF (K w) Gh) hn (by decide) hdf ⟨rfl,by decide,by decide⟩ hY F
  (λw H a ns hl hO hS=>by
   obtain⟨G,hG⟩:=HH ns hl;refine⟨⟨K w,0,λ_=>0,H⟩,[],[.fl (ns.map D.int)],rfl,rfl,⟨rfl,λi j h=>absurd h (Nat.not_lt_zero _),λi o h=>by simp at h,λi h=>absurd h (Nat.not_lt_zero _)⟩,Reps.cons ⟨a,ns.map V.int,rfl,?_,Reps.ints ns⟩ Reps.nil,?_⟩
   ·rcases hS with(hS|hS)|hS
    ·rcases hO a with z|⟨o,xs,z⟩
     ·rw[z]at hS;cases hS
     ·rw[z]at hS;cases hS
    ·exact .inl hS
    ·exact .inr hS
   ·rw[hG];exact λb v _ _ r=>r) λ_ _ _ _ _ z=>z
end _W
set_option maxRecDepth 100000
namespace _W
open PySem PySem.W _L _D
theorem Zw:∀w,(openEnds jR pw w 100000).map (λs=>(openSeen vw [] (jH pw.main.body) (XtOf rw_ vw) x0 s,Ql asks s.heap))=xk (openGood vw [],Ms asks):=ZCy (by kernel_rfl) (λs=>rfl) ZDf
theorem walked:WalkO vw [] (XL vw []) (Stays rw_.prog 100000) rw_.row.toRowW (dOf Dz) [] λf vs=>PySem.call f vs:=
 walk (l:=rw_) (K:=λw=>Jl (Fl pw 100000 w)) rfl hdf holds (λw h Y=>Y.in) λw mg fa h KX G hmg=>all_mk KX G (show mg "law"=_ from hmg) (W2 (ZDy Zw w))
end _W
open PySem PySem.W PyProof.Rows _D
theorem PySem.Challenge.cw_sluiceway_k71_what_pages_earn_holds : PySem.Challenge.rw_sluiceway_k71_what_pages_earn.Holds := by
 refine holds_top (l:=_W.rw_) (q:=_W.vw) (loose:=[]) (N:=100000) (see:=Ql _W.asks) (val:=Ms _W.asks) (d:=dOf _W.Dz) ?_ ?_ ?_ ?_ ?_ ?_ ?_ ?_ ?_ ?_
 ·exact _W.well
 ·exact _W.Zw
 ·exact _W.hdef
 ·exact _W.hp
 ·exact _W.hk
 ·rfl
 ·exact _W.hok
 ·exact _W.hbare
 ·exact _W.hw
 ·exact _W.walked
