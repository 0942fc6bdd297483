import PyProof.Rows.All
import PySem.Challenge.RW_sluiceway_k56_asks_for_ever
import KE.KNestM
import KE.KIsAll
import KE.KSortTup
import Wide.FinOn
import Lean
set_option compiler.extract_closed false
set_option bootstrap.genMatcherCode false
set_option genSizeOf false
set_option Elab.async false
set_option linter.all false
set_option maxRecDepth 100000
open Option renaming some→uz,none→uj
open Bool renaming true→ux,false→uv
open PySem.W renaming Frag→za,nsIn→zb,findIn→zc,keepIn→zd,instObj→zf,emptyDict→zh,kas_sort→zi,InstAt→qb,hasDictIn→qc,kia_one→qd,hideAll→qe,lookIn→qf,takerIn→qg,callWith_K→qh,fnOf→ja,plainGet→jd,handedIn→je,hideAll_get→xg,plainGet_of→xi,isFn→vB,looks_findIn→vC,methodCall_KW→vD,codeIn→vE,OpenLaw→vF,KasT→vI,kat_nil→vL,mg_of→vM,specialIn→vN,of_hideAll→vR,hideAll_none→vS,findObj_own→vT,plainOver→vU,set_plain→va,any_some→vb,looks_clsIn→vc,makesIn→vd,cellsFrom_some→ve,WalkO→wz,kat_one→wS,kat_cons→wa,kat_go→wb,kat_yes→wc,kat_no→wd,KatTups→we,kas_ask→wf,kat_kind→wg,isNs_of_in→uQ,readsIn→uZ,findCls→uJ,subIn→uV
open PySem.F renaming slot_tuple_iterator_next→jh,slot_enumerate_next→ji,slot_zip_next→xa,slot_tuple_add→vg,entry_tuple_add→vh,args_tuple_add_2→wQ,entry_tuple_iterator_next→wv,args_tuple_iterator_next_1→ww,entry_enumerate_next→wk,args_enumerate_next_1→w4,slot_enumerate_iter→w5,entry_zip_next→w6,args_zip_next_1→w8,called_enumerate→w9,entry_enumerate_new→wD,owner_object→wM,excBase_ValueError→uX
open PySem renaming mem_of_lookup→ze,call→jb,Within→xf
open PyProof.Rows renaming callWith_type1→zg,slot_tuple_getitem→jf,callWith_builtin1→vf,boot_enumerate→wE,boot_zip→wO,boot_range→wh
open PySem.SeqAt.EqAt renaming int_str→vO,str_int→vP,same→wZ,int_int→wW
open PySem.SeqAt.RcAt renaming lists_lengths→wx
open PySem.SeqAt renaming notIn_listAt→wK,notIn_tupleAt→wq,ne_of_list_tuple→wj
open PySem.Builtin.SmallTypes renaming nextOf→jc,ownedTupleIsFree→vG,ownedTupleHandOut→vH,newClass→uW,newRecord→uK,ownedTupleFields→uY,fitsIndex→uq
open PySem.Builtin.List renaming listTooLong→jg
open PySem.Builtin.Str renaming strSliceIndices→qa,occurrences→xh
open List renaming replicate→zZ,getElem?_eq_getElem→zJ,range→zX,mem_cons_of_mem→zV,mem_cons_self→zW,size_toArray→zK,mem_cons→zj,getElem?_map→zx,map_cons→zk,getD_eq_getElem?_getD→z6,getElem?_eq_none→z7,getElem?_append_right→z9,mem_map→zA,getElem?_eq_some_iff→zC,getElem?_range→zE,getElem?_append_left→zG,replicate_succ→zH,length_append→zL,length_cons→zM,drop_eq_getElem_cons→zO,mem_append_right→zP,length_map→zU,drop_of_length_le→qQ,filterMap_map→qX,set→qW,mem_range→qK,all_eq_true→qY,flatten_cons→qq,filterMap_cons→qz,getElem_of_mem→qx,getElem_mem→qw,filterMap_eq_map'→q9,map_congr_left→qC,find?_cons→qD,range_succ_eq_map→qE,getElem?_set→qF,append_nil→qG,mem_singleton→qH,ext_getElem→qI,getElem?_set_ne→qL,all_cons→qN,lookup→qO,append_assoc→qP,nodup_cons→qS,length_nil→qT,getElem?_eq_none_iff→qU,eq_nil_of_length_eq_zero→jJ,range_succ→jX,getElem?_replicate→jW,map_map→jK,getElem?_set_self→jY,lookup_cons→jq,length_set→jw,pairwise_iff_getElem→jy,getElem?_take_of_lt→j0,map_eq_nil_iff→j1,getElem?_cons_succ→j2,any_cons→j4,length_singleton→j6,ext_getElem?→j7,idxOf_lt_length_of_mem→j8,map_nil→jB,length_take→jC,getLast?_eq_getElem?→jD,mem_append→jE,foldl_cons→jG,mem_filterMap→jI,getElem?_cons_zero→jL,length_replicate→jM,length_drop→jN,set_append_right→jO,take_length→jP,zipIdx_cons→jR,any_eq_true→jT,mem_append_left→xQ,mem_of_getElem?→xZ,nil_append→xJ,forIn_cons→xX,drop_zero→xK
open Nat renaming le_refl→zY,lt_of_lt_of_le→zq,le_trans→z0,ne_of_lt→z8,lt_irrefl→qZ,lt_succ_self→qJ,lt_succ_of_lt→qR,ne_of_gt→jV,le_succ→jx,le_of_ble_eq_true→jv,mul_le_mul→j9,zero_le→jF,le_add_right→jS,lt_or_ge→xW
open Int renaming le_refl→qk,emod_lt_of_pos→jz,emod_nonneg→jk,mul_nonneg→jA,natCast_add→jH
open Option renaming map_eq_some_iff→zD,isSome_iff_exists→jZ,map_some→xV
open Bool renaming false_ne_true→zw,and_eq_true→z5,and_eq_true_iff→qM,false_eq_true→j3,or_eq_true→j5
open Array renaming getElem?_eq_some_iff→qV,length_toList→qB,getElem?_toList→jQ
open PySem.Heap renaming get?_push_of_some→zQ,lt_size→zz,get?_push_size→zy,get?_update_self→qj,size_push→qy,get?_update_other→q8,SameBut→qA,get?_none_of_le→jU
open PySem renaming Addr→xY,Around→xq,Expr→xz,FuncData→xj,NameKind→xw,Program→xk,Scope→xy,Shared→x0,Stmt→xA,Value→xB,World→xC,assignEach→xD,attributeBase→xE,backTo→xF,backToKw→xG,behindInMarks→xH,binaryOp→xI,bootBuiltins→xL,checkBuiltinCall→xM,codeAny_mono→xN,compareOp→xO,importedModules→xP,keywordEach→xR,letOwnedTupleGo→xS,mainGlobals→xT,model→xU,rawInt→vQ,sizeLine_eq→vZ,sliceBounds→vJ,starEach→vX,treeTable→vV,wpAny→vW,wpAny_Call_Name_kw→vK,wpAny_bind→vY,wpAny_callSpecial?_slot→vq,wpAny_call_entry→vz,wpAny_field→vj,wpAny_holding→vx,wpAny_mono→vv,wpAny_newObj_type→vk,wpAny_passesOwn→v0,wpAny_pure→v4,wpAny_setField_rec→v5,wpAny_truthy_bool→v6
open PySem.W renaming Frag→v7,boot_heap→v8,kas_rev→v9
set_option maxHeartbeats 0
noncomputable section
namespace _L
open PySem PySem.Spec PyProof.Rows
noncomputable def Eo(s:xA):Arguments:=match s with
 |.FunctionDef _ a _ _ _ _ _ _ _ _=>a
 |_=>{posonlyargs:=[],args:=[],vararg:=uj,kwonlyargs:=[],kw_defaults:=[],kwarg:=uj,defaults:=[]}
noncomputable def Dm(s:xA):List xA:=match s with
 |.FunctionDef _ _ b _ _ _ _ _ _ _=>b
 |_=>[]
noncomputable def Ad(s:xA):xy:=match s with
 |.FunctionDef _ _ _ _ _ _ sc _ _ _=>sc
 |_=>{kind:=.function,names:=[],isGenerator:=uv,isCoroutine:=uv}
end _L
namespace _D
open PySem PySem.W _L
variable{h:Heap}{C:xY}{m x q:Str}{st:xA}{mg:Str->Option xB}
noncomputable def Kg:List Obj->Nat->v7
 |[],_=>[]
 |o::r,n=>match o.cls,o.data with
  |.none,.fields _=>Kg r (n+1)
  |_,.freed=>Kg r (n+1)
  |_,_=>(n,o)::Kg r (n+1)
def O4(h:Heap):v7:=Kg h.objs.toList 0
noncomputable def dOf(s:xA):DefRec:=match s with
 |Stmt.FunctionDef n a b _ _ _ s _ _ p=>⟨n,a,b,s,p⟩
 |_=>⟨Str.empty,⟨[],[],uj,[],[],uj,[]⟩,[],{kind:=.module,names:=[],isGenerator:=uv,isCoroutine:=uv,more:=[]},⟨0,0,0,0⟩⟩
noncomputable abbrev XtOf(l:OpenLaw)(q:xk)(s:x0):Bool:=xlAt q [] s&&recOk l.row.toRowW.records s
noncomputable def Ab(K:v7)(n:Str):xY:=match nsIn K xT n with
 |some (uz (.ref f))=>f
 |_=>0
noncomputable def gOk(K:v7)(n:Str):Bool:=match nsIn K xT n with
 |some (uz (.ref _))=>ux
 |_=>uv
noncomputable def Di(K:v7)(C:xY)(m:Str):xY:=match findIn K (.ref C) m with
 |some (uz (.ref f))=>f
 |_=>0
noncomputable def mOk(K:v7)(C:xY)(m:Str):Bool:=match findIn K (.ref C) m with
 |some (uz (.ref f))=>isFn K (.ref f)
 |_=>uv
noncomputable def noF(K:v7)(C:xY)(m:Str):Bool:=match findIn K (.ref C) m with
 |some uj=>ux
 |_=>uv
noncomputable def zOk(K:v7)(n:Str):Bool:=match nsIn K xT n with
 |some uj=>ux
 |_=>uv
noncomputable def Rf(K:v7)(C:xY):Bool:=match findIn K (.ref C) "__setattr__" with
 |some (uz (.builtin s))=>s == "object.__setattr__"
 |_=>uv
noncomputable def iOk(K:v7)(n:Str)(v:Int):Bool:=match nsIn K xT n with
 |some (uz (.int u _))=>decide (u=v)
 |_=>uv
noncomputable def sOk(K:v7)(n:Str)(v:Str):Bool:=match nsIn K xT n with
 |some (uz (.str u _))=>decide (u=v)
 |_=>uv
noncomputable def G7(K:v7)(f:xY):Obj:=match K.lookup f with
 |some o=>o
 |none=>⟨.none,uj,.plain,#[]⟩
def An(K:v7)(f:xY):xj:=match(G7 K f).data with
 |.func fd=>fd
 |_=>default
noncomputable def ZOC:xB->Bool
 |.none=>ux
 |_=>uv
noncomputable def ZMd:FuncBody->Option (List xA)
 |.stmts b=>uz b
 |_=>uj
def U3(K:v7)(x q:Str)(f:xY):Bool:=match K.lookup f with
 |some ⟨_,_,.func fd,_⟩=>decide (fd.name=x)&&decide (fd.qualname=q)&&(fd.globals==xT&&fd.builtins==builtinsNs&&fd.closure.isEmpty&&ZOC fd.defaults)&&(codeIn K fd.code q&&keepIn K (.ref f))
 |_=>uv
noncomputable abbrev DefTxt:=Arguments×Option (List xA)×xy
def Ky(K:v7)(f:xY):DefTxt:=((An K f).params,ZMd (An K f).body,(An K f).scope)
def Jx(st:xA):DefTxt:=(Eo st,uz (Dm st),Ad st)
noncomputable def dfl(K:v7)(d:xB)(v:Int):Bool:=match d with
 | .ref T=>match K.lookup T with
  | some o=>(match o.data with
   |.seq a _=>(match a.toList with
    |[.int i _]=>decide (i=v)
    |_=>uv)
   |_=>uv)
  |none=>uv
 |_=>uv
def ZC3(K:v7)(x q:Str)(f:xY)(v:Int):Bool:=match K.lookup f with
 |some ⟨_,_,.func fd,_⟩=>decide (fd.name=x)&&decide (fd.qualname=q)&&(fd.globals==xT&&fd.builtins==builtinsNs&&fd.closure.isEmpty&&dfl K fd.defaults v)&&(codeIn K fd.code q&&keepIn K (.ref f))
 |_=>uv
noncomputable def strsOf:List xB->Option (List Str)
 |[]=>uz []
 |.str s _::r=>(strsOf r).map (s::·)
 |_::_=>uj
def Xh(K:v7)(n:Str)(vs:List Str):Bool:=match nsIn K xT n with
 | some (uz (.ref p))=>(match K.lookup p with
   |some ⟨.type t,_,.seq its _,_⟩=>t == "tuple"&&decide (strsOf its.toList=uz vs)&&Nat.ble its.toList.length 1000
   |_=>uv)
 |_=>uv
def ZAK(K:v7)(n:Str)(kvs:List (Str×Str)):Bool:=match nsIn K xT n with
 | some (uz (.ref p))=>(match K.lookup p with
   |some ⟨.type t,_,.dict es _,_⟩=>t == "dict" && !(p==sysModules)&&decide (strsOf (es.toList.map (·.key))=uz (kvs.map (·.1)))&&decide (strsOf (es.toList.map (·.val))=uz (kvs.map (·.2)))
   |_=>uv)
 |_=>uv
inductive Ask where
 |fn (n:Str) (st:xA)
 |mt (c m q:Str) (st:xA)
 |cl (c:Str)
 |no (c x:Str)
 |z (n:Str)
 |gi (n:Str) (v:Int)
 |gs (n v:Str)
 |gt (n:Str) (vs:List Str)
 |gd (n:Str) (kvs:List (Str×Str))
 |ck (φ:v7->Bool)
 |fd (n:Str) (st:xA) (v:Int)
def Ask.chk(K:v7):Ask->Bool
 |.fn n _=>gOk K n&&U3 K n n (Ab K n)
 |.mt c m q _=>mOk K (Ab K c) m&&U3 K m q (Di K (Ab K c) m)
 |.cl c=>gOk K c&&(plainGet K (Ab K c) Str.empty&&hasDictIn K (Ab K c)&&plainOver K (Ab K c))&&(Rf K (Ab K c)&&makesIn K (Ab K c)&&keepIn K (.ref (Ab K c)))
 |.no c x=>noF K (Ab K c) x
 |.z n=>zOk K n
 |.gi n v=>iOk K n v
 |.gs n v=>sOk K n v
 |.gt n vs=>Xh K n vs
 |.gd n kvs=>ZAK K n kvs
 |.ck φ=>φ K
 |.fd n _ v=>gOk K n&&ZC3 K n n (Ab K n) v
def Ask.txt(K:v7):Ask->Option DefTxt
 |.fn n _=>uz (Ky K (Ab K n))
 |.mt c m _ _=>uz (Ky K (Di K (Ab K c) m))
 |.fd n _ _=>uz (Ky K (Ab K n))
 |_=>uj
def Ask.want:Ask->Option DefTxt
 |.fn _ st=>uz (Jx st)
 |.mt _ _ _ st=>uz (Jx st)
 |.fd _ st _=>uz (Jx st)
 |_=>uj
def Qp(l:List Ask)(h:Heap):Bool×List (Option DefTxt):=(l.all (Ask.chk (O4 h)),l.map (Ask.txt (O4 h)))
noncomputable abbrev Pa(l:List Ask):Bool×List (Option DefTxt):=(ux,l.map Ask.want)
noncomputable def V8(p:xk)(w:xC)(n₀:Nat)(ann:Option xB):Nat->SharedT->Thread->Option SharedT
 |0,_,_=>uj
 | n+1,s,t=>match through t with
  |true=>uz s
  | false=>match PySem.W.Fast.tw6613529449190102663 n₀ ann t with
   |false=>uj
   |true=>match PySem.W.Fast.tw10156331382660048174 (PySem.W.Fast.tw11892475500146522536 PySem.W.Fast.tw14364793385576792824) p w s t with
    |some (s',t')=>V8 p w n₀ ann n s' t'
    |none=>uj
noncomputable def ZJS:List Obj->Nat->BT->BT
 |[],_,t=>t
 |o::r,n,t=>ZJS r (n+1) (t.ins n o)
def ZDj(w:xC)(os:OsState):SharedT:=⟨ZJS (v8 w.params).objs.toList 0 .nil,(v8 w.params).objs.size,(v8 w.params).life,Array.mk [],boot_drawn,boot_toks,os⟩
def R3(p:xk)(w:xC)(os:OsState):Option SharedT:=V8 p w (v8 w.params).objs.size (PySem.W.Fast.tw8920871248978507458 (v8 w.params) xT "__annotations__") 100000 (ZDj w os) (topStub p)
noncomputable def Q8(p:xk)(w:xC)(s:x0):Bool:=staticsOk (PySem.W.Fast.tw5923862056798008813 p.main.body) (v8 w.params) s.heap&&namesBound p s.heap&&gensDone s&&laidKept (v8 w.params) s.heap
theorem ZTn(h:PySem.W.Fast.tw9446332074065402090 l=ux):l.wellSaid=ux:=by rw[PySem.W.Fast.te9446332074065402090];exact h
noncomputable def ftW(w:xC)(b:Bool):xC:={w with params:={w.params with followText:=λx=>match x == "special-get-raises" with |true=>b|false=>w.params.followText x}}
theorem ZVr(w:xC):ftW w (w.params.followText "special-get-raises")=w:=by
 obtain⟨d,p⟩:=w;obtain⟨K,H,F,J,B,f,I,C,z,c,m,n,y,j,k,i,o,v,t,q,r,b,l,u,g⟩:=p
 have e:(λx:String=>match x == "special-get-raises" with |true=>f "special-get-raises"|false=>f x)=f:=by
  funext x;cases h:x == "special-get-raises" with
  |true=>rw[beq_iff_eq.mp h]
  |false=>rfl
 unfold ftW;dsimp only;rw[e]
theorem ZO1{P:xC->Prop}(d:∀w,P (ftW w ux))(c:∀w,P (ftW w uv)):∀w,P w:=λw=>by
 have h:∀b,P (ftW w b):=λb=>by cases b;exact c w;exact d w
 have:=h (w.params.followText "special-get-raises");rwa[ZVr]at this
noncomputable abbrev vmro:List xB:=[.type "ValueError",.type "Exception",.type "BaseException",.type "object"]
def Hn(K:za)(C:xY):Bool:=match K.lookup C with
 |some ⟨.type "type",_,.cls cd,sl⟩=>(match cd.mro,sl.toList with
  |.ref C'::bm,[_,_,_,_,uz (.builtin n),_]=>C'==C&&n == "ValueError.__new__" && !cd.hasDel&&cd.hasDict&&PySem.W.tailIn K vmro bm&&PySem.W.nsOkIn K cd.ns
  |_,_=>uv)
 |_=>uv
noncomputable def Kv(K:za)(C f:xY):Bool:=match K.lookup C with
 |some ⟨_,_,.cls cd,_⟩=>zb K cd.ns "__init__"==uz (uz (.ref f))
 |_=>uv
noncomputable def tyN:xB->String
 |.type n=>n
 |_=>""
noncomputable def isRf:xB->Bool
 |.ref _=>ux
 |_=>uv
def Q3:List xB->Bool
 |[]=>uv
 |a::r=>(isRf a&&Q3 r)||decide ((a::r).map tyN=["ValueError","Exception","BaseException","object"])
def R7(K:za)(C:xY):Bool:=(PySem.W.clsIn K C).any λcd=>Q3 cd.mro
noncomputable def isB(r:Option (Option xB))(n:String):Bool:=match r with
 |some (uz (.builtin m))=>m==n
 |_=>uv
noncomputable def Lq(r:Option Bool)(b:Bool):Bool:=match r with
 |some c=>c==b
 |_=>uv
noncomputable def U0{α:Type}(r:Option (Option α)):Bool:=match r with
 |some uj=>ux
 |_=>uv
noncomputable def Yu(K:v7)(a:xY):Bool:=match K.lookup a with
 |some ⟨.type t,_,_,_⟩=>t == "function"
 |_=>uv
def Z3(c f:Str)(K:v7):Bool:=gOk K c&&keepIn K (.ref (Ab K c))&&(Hn K (Ab K c)&&Rf K (Ab K c)&&R7 K (Ab K c)&&U0 (takerIn K (Ab K c) f)&&hasDictIn K (Ab K c))&&Kv K (Ab K c) (Di K (Ab K c) "__init__")&&Yu K (Di K (Ab K c) "__init__") &&
 (isB (findIn K (.ref (Ab K c)) "__getattribute__") "BaseException.__getattribute__"&&U0 (findIn K (.ref (Ab K c)) "__getattr__")&&Lq (subIn K (.ref (Ab K c)) (.type "BaseException")) ux&&isB (findIn K (.ref (Ab K c)) "__class__") "object.__class__" &&
  isB (specialIn K (.builtin "object.__class__") "__get__") "getset_descriptor.__get__"&&Lq (takesIn K (.builtin "object.__class__")) ux&&Lq (mroIn K (Ab K c) (.type "object")) ux&&Lq (kitCls K (.ref (Ab K c)) (.ref (Ab K c))) ux)&&noF K (Ab K c) f
noncomputable def Yp(r:Option CFound)(n:String):Bool:=match r with
 |some (.val (.builtin m))=>m==n
 |_=>uv
def Wq(x:Str)(K:v7):Bool:=gOk K x&&isB (specialIn K (.ref (Ab K x)) "__getattribute__") "type.__getattribute__"&&readsIn K (Ab K x) (.type "type")&&Yp (findCls K (.ref (Ab K x)) (.type "type") "__init__") "ValueError.__init__"
def Hv(K:za)(C W:xY)(b:Bool):Bool:=Hn K C&&Hn K W&&match K.lookup C with
 |some ⟨_,_,.cls cd,_⟩=>cd.mro.contains (.ref W)==b
 |_=>uv
end _D
namespace _W
open PySem PySem.W _L _D
noncomputable def top(i:Nat):xA:=PySem.Challenge.pw_sluiceway_k56_asks_for_ever.main.body.getD i (.Pass ⟨0,0,0,0⟩)
noncomputable def inC(s:xA)(j:Nat):xA:=match s with
 |.ClassDef _ _ _ body _ _ _ _ _ _ _=>body.getD j (.Pass ⟨0,0,0,0⟩)
 |_=>.Pass ⟨0,0,0,0⟩
noncomputable abbrev ZBk:=inC (top 5) 0
noncomputable abbrev Zd:=top 70
noncomputable abbrev ZBR:=top 66
noncomputable abbrev Wu:=top 65
noncomputable abbrev Wt:=top 67
noncomputable abbrev ZCm:=top 69
noncomputable abbrev ZCg:=top 80
noncomputable abbrev ZAZ:=top 81
noncomputable abbrev ZCy:=top 78
noncomputable abbrev Ws:=top 74
noncomputable abbrev Z9:=top 72
noncomputable abbrev ZAM:=top 71
noncomputable abbrev ZBi:=top 73
noncomputable abbrev ZCq:=top 75
noncomputable abbrev ZCx:=top 68
noncomputable abbrev ZCi:=top 76
noncomputable abbrev Z8:=top 62
noncomputable abbrev Xc:=top 63
noncomputable abbrev Y9:=top 61
noncomputable abbrev Xl:=top 56
noncomputable abbrev Xz:=top 52
noncomputable abbrev Xq:=top 51
noncomputable abbrev Wi:=top 50
noncomputable abbrev ZCe:=top 57
noncomputable abbrev ZC1:=top 58
noncomputable abbrev ZA5:=top 59
noncomputable abbrev ZAi:=inC (top 43) 0
noncomputable abbrev ZCS:=inC (top 43) 5
noncomputable abbrev ZCv:=top 21
noncomputable abbrev Ym:=top 22
noncomputable abbrev ZC0:=inC (top 43) 4
noncomputable abbrev Yb:=top 34
noncomputable abbrev ZB7:=top 33
noncomputable abbrev ZAE:=inC (top 43) 2
noncomputable abbrev ZAF:=top 29
noncomputable abbrev ZCt:=top 45
noncomputable abbrev Zr:=top 46
noncomputable abbrev ZCo:=top 30
noncomputable abbrev ZC8:=top 31
noncomputable abbrev ZAC:=top 28
noncomputable abbrev Z1:=inC (top 43) 3
noncomputable abbrev Zm:=top 44
noncomputable abbrev Xj:=inC (top 43) 1
noncomputable abbrev ZAR:=inC (top 43) 6
noncomputable abbrev Yj:=top 41
noncomputable abbrev ZBq:=top 42
noncomputable abbrev ZBA:=top 60
noncomputable abbrev ZAv:=top 55
noncomputable abbrev ZCD:=top 85
noncomputable abbrev W7:=top 77
noncomputable abbrev ZCI:=top 83
noncomputable abbrev Y0:=top 54
noncomputable abbrev ZBe:=top 84
noncomputable abbrev ZBV:=top 53
noncomputable abbrev Gb:=top 86
def asks:List Ask:=[.cl "Course",.fn "_law_amount" Zd,.fn "_law_off" ZBR,.fn "_law_tape" Wu,.fn "_law_cell_at" Wt,.fn "_law_unit" ZCm,.fn "_law_added" ZCg,.fn "_law_ask" ZAZ,.fn "_law_floods" ZCy,.fn "_law_pumped" Ws,.fn "_law_steps" Z9,.fn "_law_year" ZAM,.fn "_law_rule" ZBi,.fn "_law_basin" ZCq,.fn "_law_name" ZCx,.fn "_law_house" ZCi,.fn "is_beyond" Z8,.fn "part_asked" Xc,.fn "answered" Y9,.fn "check_ask" Xl,.fn "none_above" Xz,.fn "rows_under" Xq,.fn "under" Wi,.fn "check_bounds" ZCe,.fn "check_year" ZC1,.fn "looked_through" ZA5,.mt "Course" "__init__" "Course.__init__" ZAi,.mt "Course" "send" "Course.send" ZCS,.fn "number_of" ZCv,.fn "down_of" Ym,.mt "Course" "send_down" "Course.send_down" ZC0,.fn "opened" Yb,.fn "stairs_at" ZB7,.mt "Course" "go_basin" "Course.go_basin" ZAE,.fn "passed" ZAF,.fn "down_in_reach" ZCt,.fn "reach_rows" Zr,.fn "served" ZCo,.fn "way_down" ZC8,.fn "shares" ZAC,.mt "Course" "go_reach" "Course.go_reach" Z1,.fn "lasts_of_reaches" Zm,.mt "Course" "go" "Course.go" Xj,.mt "Course" "state_behind" "Course.state_behind" ZAR,.fn "turn" Yj,.fn "run" ZBq,.fn "years_until_again" ZBA,.fd "look_ever" ZAv 100,.fn "_law_most" ZCD,.fn "_law_state" W7,.fn "_law_told" ZCI,.fd "ever" Y0 100,.fn "_law_years" ZBe,.fn "look" ZBV,.fn "law" Gb,.no "Course" "came",.no "Course" "coming",.no "Course" "house",.no "Course" "levels",.no "Course" "page",.no "Course" "reaches",.no "Course" "year_turn",.z "all",.z "bool",.z "enumerate",.z "int",.z "isinstance",.z "len",.z "list",.z "max",.z "min",.z "range",.z "sorted",.z "str",.z "tuple",.z "zip",.gi "BRIM" 4,.gi "DELAY" 3,.gi "DOWN" 2,.gi "KIND" 0,.gi "LET" 3,.gi "LIES" 5,.gi "NAME" 1,.gi "NEED" 4,.gi "PLACES" 1,.gi "PUMP" 6,.gi "PUMPED" 4,.gi "PUMP_DELAY" 1,.gi "PUMP_TO" 0,.gi "RANK" 5,.gi "ROW_DOWN" 0,.gi "ROW_NEED" 2,.gi "ROW_RANK" 3,.gi "ROW_WATER" 1,.gi "RULE" 5,.gs "SEA" "sea",.gi "SPILLED" 2,.gi "TOOK" 1,.gi "YEAR" 0,.gt "SENSES" ["least","most"],.gd "KINDS_ASKED" [("lies","basin"),("spilled","basin"),("let","basin"),("pumped","basin"),("took","town")],.mt "TooLong" "__init__" "TooLong.__init__" ZBk,.ck (Z3 "TooLong" "most"),.ck (Wq "WaterError"),.ck (λK=>gOk K "TooLong"),.ck (λK=>Hv K (Ab K "TooLong") (Ab K "TooLong") ux)]
abbrev rw_:OpenLaw:=PySem.Challenge.rw_sluiceway_k56_asks_for_ever
abbrev pw:xk:=OpenLaw.prog PySem.Challenge.rw_sluiceway_k56_asks_for_ever
def vw:xk:=view pw (zX 87)
theorem ZVXb:∀w os,(R3 pw (ftW w ux) os).map (λs=>PySem.W.Fast.tw4187177175401517315 vw ["KINDS_ASKED"] (PySem.W.Fast.tw5923862056798008813 pw.main.body) (XtOf rw_ vw) ux s.abs)=uz (openGood vw ["KINDS_ASKED"]):=λw os=>by kernel_rfl
theorem ZVXa:∀w os,(R3 pw (ftW w ux) os).map (λs=>(Q8 pw (ftW w ux) s.abs,Qp asks s.abs.heap))=uz (ux,Pa asks):=λw os=>by kernel_rfl
theorem ZVX:∀w os,(R3 pw (ftW w ux) os).map (λs=>(Q8 pw (ftW w ux) s.abs,PySem.W.Fast.tw4187177175401517315 vw ["KINDS_ASKED"] (PySem.W.Fast.tw5923862056798008813 pw.main.body) (XtOf rw_ vw) ux s.abs,Qp asks s.abs.heap))=uz (ux,openGood vw ["KINDS_ASKED"],Pa asks):=λw os=>by
 have h1:=ZVXb w os
 have h2:=ZVXa w os
 revert h1 h2
 generalize R3 pw (ftW w ux) os=o
 intro h1 h2
 cases o with
 |none=>cases h2
 |some s=>exact congrArg some (Prod.ext (Prod.mk.inj (Option.some.inj h2)).1 (Prod.ext (Option.some.inj h1) (Prod.mk.inj (Option.some.inj h2)).2))
theorem ZQPb:∀w os,(R3 pw (ftW w uv) os).map (λs=>PySem.W.Fast.tw4187177175401517315 vw ["KINDS_ASKED"] (PySem.W.Fast.tw5923862056798008813 pw.main.body) (XtOf rw_ vw) ux s.abs)=uz (openGood vw ["KINDS_ASKED"]):=λw os=>by kernel_rfl
theorem ZQPa:∀w os,(R3 pw (ftW w uv) os).map (λs=>(Q8 pw (ftW w uv) s.abs,Qp asks s.abs.heap))=uz (ux,Pa asks):=λw os=>by kernel_rfl
theorem ZQP:∀w os,(R3 pw (ftW w uv) os).map (λs=>(Q8 pw (ftW w uv) s.abs,PySem.W.Fast.tw4187177175401517315 vw ["KINDS_ASKED"] (PySem.W.Fast.tw5923862056798008813 pw.main.body) (XtOf rw_ vw) ux s.abs,Qp asks s.abs.heap))=uz (ux,openGood vw ["KINDS_ASKED"],Pa asks):=λw os=>by
 have h1:=ZQPb w os
 have h2:=ZQPa w os
 revert h1 h2
 generalize R3 pw (ftW w uv) os=o
 intro h1 h2
 cases o with
 |none=>cases h2
 |some s=>exact congrArg some (Prod.ext (Prod.mk.inj (Option.some.inj h2)).1 (Prod.ext (Option.some.inj h1) (Prod.mk.inj (Option.some.inj h2)).2))
theorem ZPG:∀w os,(R3 pw w os).map (λs=>(Q8 pw w s.abs,PySem.W.Fast.tw4187177175401517315 vw ["KINDS_ASKED"] (PySem.W.Fast.tw5923862056798008813 pw.main.body) (XtOf rw_ vw) ux s.abs,Qp asks s.abs.heap))=uz (ux,openGood vw ["KINDS_ASKED"],Pa asks):=ZO1 ZVX ZQP
theorem well:rw_.wellSaid=ux:=ZTn (by kernel_rfl)
theorem hdef:defOf vw rw_.row.name=uz (dOf Gb,[]):=by kernel_rfl
theorem hp:rw_.row.prog.theDef rw_.row.name=uz ((dOf Gb).params,(dOf Gb).body,(dOf Gb).scope):=by kernel_rfl
theorem hk:kwWritten? (dOf Gb).params.kwonlyargs (dOf Gb).params.kw_defaults=uz []:=by kernel_rfl
theorem hok:(chainsOk vw&&opensWell rw_.row.prog&&(frees rw_.row.toRowW&&rw_.row.within.isEmpty))=ux:=by kernel_rfl
theorem hdf:(dOf Gb).params.defaults=[]:=by kernel_rfl
theorem hbare:rw_.row.prog.bare:=⟨rfl,rfl,rfl,rfl,rfl,by decide +kernel⟩
theorem hw:rw_.row.toRowW.promised:=by w_witness2
end _W
namespace _L
open PySem PySem.Spec PyProof.Rows
variable{t':Nat}{s:x0}{vA:List (xY×Obj)}{tg:xz}{P:xk}
noncomputable abbrev Key:=Sum Int Str
def Mw:Key->xB->Bool
 |.inl k,v=>Value.isInt k v
 |.inr x,v=>Value.isStrOf x v
def keyH(w:xC):Key->Int
 |.inl k=>hashInt k
 |.inr x=>hashStr w x
theorem Ip:∀{k:Key}{v:xB},Mw k v=ux->(∃i t,k=Sum.inl i/\v=Value.int i t)∨(∃x t,k=Sum.inr x/\v=Value.str x t)
 |.inl i,v,h=>by obtain⟨t,e⟩:=Value.isInt_shape h;exact .inl ⟨i,t,rfl,e⟩
 |.inr x,v,h=>by obtain⟨t,e⟩:=Value.isStrOf_shape h;exact .inr ⟨x,t,rfl,e⟩
theorem ZOo(i:Int)(t:Tok):Mw (.inl i) (.int i t)=ux:=by simp[Mw,Value.isInt]
theorem ZKk(x:Str)(t:Tok):Mw (.inr x) (.str x t)=ux:=by simp[Mw,Value.isStrOf]
theorem ZS0(a b:Int):decide ((Sum.inl a:Key)=Sum.inl b)=(a==b):=by
 by_cases e:a=b
 .subst e;simp
 .rw[decide_eq_false (λq=>e (Sum.inl.inj q))];exact(beq_eq_false_iff_ne.mpr e).symm
theorem ZR9(a b:Str):decide ((Sum.inr a:Key)=Sum.inr b)=decide (a=b):=by
 by_cases e:a=b
 .subst e;simp
 .rw[decide_eq_false (λq=>e (Sum.inr.inj q)),decide_eq_false e]
theorem ZN7(a:Int)(b:Str):decide ((Sum.inl a:Key)=Sum.inr b)=uv:=decide_eq_false (λq=>nomatch q)
theorem ZUs(a:Str)(b:Int):decide ((Sum.inr a:Key)=Sum.inl b)=uv:=decide_eq_false (λq=>nomatch q)
def Fq(prog:xk)(w:xC):PySem.KeyKind prog w Key where
 is:=Mw
 hash:=keyH w
 inj:=λv a b ha hb=>by
  rcases Ip ha with⟨i,t,rfl,rfl⟩|⟨x,t,rfl,rfl⟩
  .rcases Ip hb with⟨j,u,rfl,e⟩|⟨y,u,rfl,e⟩
   .injection e with e1 _;rw[e1]
   .exact nomatch e
  .rcases Ip hb with⟨j,u,rfl,e⟩|⟨y,u,rfl,e⟩
   .exact nomatch e
   .injection e with e1 _;rw[e1]
 byValue:=λk v h=>by rcases Ip h with⟨i,t,rfl,rfl⟩|⟨x,t,rfl,rfl⟩<;>rfl
 pyHash:=λhv h=>by
  rcases Ip hv with⟨i,t,rfl,rfl⟩|⟨x,t,rfl,rfl⟩
  .exact wpAny_pyHash_int h
  .exact wpAny_pyHash_str h
 eqBool:=λhu hv h=>by
  rcases Ip hu with⟨i,t,rfl,rfl⟩|⟨x,t,rfl,rfl⟩
  .rcases Ip hv with⟨j,u,rfl,rfl⟩|⟨y,u,rfl,rfl⟩
   .rw[ZS0]at h;exact wpAny_eqBool_int h
   .rw[ZN7]at h;exact vO i t y u _ _ _ _ h
  .rcases Ip hv with⟨j,u,rfl,rfl⟩|⟨y,u,rfl,rfl⟩
   .rw[ZUs]at h;exact vP x t j u _ _ _ _ h
   .rw[ZR9]at h;exact wpAny_eqBool_str h
 «strs»:=λk x t v h=>by
  rcases Ip h with⟨i,u,rfl,e⟩|⟨y,u,rfl,e⟩
  .exact nomatch e
  .injection e with e1 _
   subst e1
   cases v<;>rfl
theorem ZMf(prog:xk)(w:xC)(i:Int)(t:Tok):(Fq prog w).is (.inl i) (.int i t)=ux:=ZOo i t
theorem ZLs(prog:xk)(w:xC)(x:Str)(t:Tok):(Fq prog w).is (.inr x) (.str x t)=ux:=ZKk x t
inductive V where
 |non|bl (b:Bool)|int (i:Int)|str (x:Str)|byt (b:Array UInt8)|flt (b:UInt64)|ref (a:xY)|ty (n:String)
 deriving DecidableEq
def RelV:V->xB->Prop
 |.non,u=>u=Value.none
 |.bl b,u=>u=Value.bool b
 |.int i,u=>∃t,u=Value.int i t
 |.str x,u=>∃t,u=Value.str x t
 |.byt b,u=>∃t,u=Value.bytes b t
 |.flt b,u=>∃t,u=Value.float b t
 |.ref a,u=>u=Value.ref a
 |.ty n,u=>u=Value.type n
abbrev Vals:List V->List xB->Prop:=Paired RelV
theorem Vals.length{xs:List V}{us:List xB}(r:Vals xs us):xs.length=us.length:=Paired.length r
theorem Vals.get:∀{xs:List V}{us:List xB}{i:Nat}{x:V},Vals xs us->xs[i]?=uz x->∃u,us[i]?=uz u/\RelV x u
 |_,_,_,_,.nil,e=>by simp at e
 |_,_,0,_,.cons r _,e=>by simp at e;subst e;exact⟨_,rfl,r⟩
 |_,_,i+1,x,.cons _ t,e=>by obtain⟨u,j,d⟩:=Vals.get t (by simpa using e);exact⟨u,by simpa using j,d⟩
theorem Vals.set(r:RelV x u):∀{xs:List V}{us:List xB}(i:Nat),Vals xs us->Vals (xs.set i x) (us.set i u)
 |_,_,_,.nil=>.nil
 |_,_,0,.cons _ t=>.cons r t
 |_,_,i+1,.cons q t=>.cons q (Vals.set r i t)
theorem Vals.append:∀{xs ys:List V}{us d:List xB},Vals xs us->Vals ys d->Vals (xs++ys) (us++d)
 |_,_,_,_,.nil,s=>s
 |_,_,_,_,.cons r t,s=>.cons r (Vals.append t s)
theorem Vals.take:∀{xs:List V}{us:List xB}(n:Nat),Vals xs us->Vals (xs.take n) (us.take n)
 |_,_,0,_=>.nil
 |_,_,_+1,.nil=>.nil
 |_,_,n+1,.cons r t=>.cons r (Vals.take n t)
theorem Vals.drop:∀{xs:List V}{us:List xB}(n:Nat),Vals xs us->Vals (xs.drop n) (us.drop n)
 |_,_,0,r=>r
 |_,_,_+1,.nil=>.nil
 |_,_,n+1,.cons _ t=>Vals.drop n t
def RelO:Option V->Option xB->Prop
 |some v,uz u=>RelV v u
 |none,uj=>True
 |_,_=>False
def KV{κ:Type}:List (κ×V)->List (κ×xB)->Prop:=Paired λ(p:κ×V)(q:κ×xB)=>p.1=q.1/\RelV p.2 q.2
def kV:Key->V
 |.inl i=>.int i
 |.inr x=>.str x
inductive HO where
 |lst (xs:List V)
 |tup (xs:List V)
 |dK (kvs:List (Key×V))|dT (kvs:List (List Key×V))
 |set (S:Int->Bool) (n:Nat)
 |ins (C dx:xY) (fs:List (Str×V))
 |own (x:xY)
 |xd (fs:List (Str×V))
 |met (f x:xY)
 |rng (lo hi:Int)
 |frz (o:Obj) (u:HO)
 |tbl (ps:Array xB)
 |ext (φ:Heap->Prop)
noncomputable abbrev Hp:=xY->Option HO
noncomputable def upd(H:Hp)(a:xY)(o:HO):Hp:=λb=>if b=a then uz o else H b
theorem Dy:upd H a o a=uz o:=by unfold upd;rw[if_pos rfl]
theorem Ag(h:b≠a):upd H a o b=H b:=by unfold upd;rw[if_neg h]
theorem Fy{H:Hp}{a b:xY}{o:HO}(h:H a=uz o)(h':H b=uj):a≠b:=by intro e;subst e;rw[h]at h';cases h'
section
variable(P:xk)(w:xC)
def ObjOk(H:Hp)(h:Heap)(a:xY):HO->Prop
 |.lst xs=>xs.length<=sizeLine/\∃(its:List xB)(n:Nat),Vals xs its/\h.get? a=uz {cls:=.type "list",data:=.seq its.toArray n}
 |.tup xs=>xs.length<=sizeLine/\∃its:List xB,Vals xs its/\IsTup h a its.toArray
 |.dK kvs=>kvs.length<=sizeLine/\(a==sysModules)=uv/\∃vs,KV kvs vs/\h.DictOf (Fq P w) a vs
 | .dT kvs=>kvs.length<=sizeLine/\(a==sysModules)=uv/\∃xs:List (List Key×xY×xB),
   Paired (λ(p:List Key×V)(q:List Key×xY×xB)=>p.1=q.1/\H q.2.1=uz (.tup (p.1.map kV))/\RelV p.2 q.2.2) kvs xs/\
   ∃o es ep,h.get? a=uz o/\o.ExactDict/\o.data=.dict es ep/\es.toList=xs.map (entryOfKey (tupleKind (Fq P w)))/\(xs.map (·.1)).Nodup
 |.set S n=>h.SetOf (intKind P w) a S n
 | .ins C dx fs=>H dx=uz (.own a)/\fs.length<=1000/\dx≠a/\h.get? a=uz (zf C dx)/\
   ∃mA,h.Ns1 dx mA/\(∀f,RelO (fs.lookup f) (mA f))/\xf mA (fs.map (·.1))
 |.own _=>∃o,h.get? a=uz o
 |.xd fs=>∃mA,h.Ns1 a mA/\∀f,RelO (fs.lookup f) (mA f)
 |.rng lo hi=>∃t u v,h.get? a=uz {cls:=.type "range",data:=.fields #[.int lo t,.int hi u,.int 1 v]}
 |.frz o u=>h.get? a=uz o/\ObjOk H h a u
 |.tbl ps=>h.get? a=uz {cls:=.none,data:=.fields ps}
 |.met f x=>h.get? a=uz (PySem.W.methodObj (.ref f) (.ref x))
 |.ext φ=>φ h/\(∃o,h.get? a=uz o)/\∀h1 h2:Heap,φ h1->(∀o,h1.get? a=uz o->h2.get? a=uz o)->φ h2
def HOk(H:Hp)(h:Heap):Prop:=∀a o,H a=uz o->ObjOk P w H h a o
end
section
variable{P:xk}{w:xC}{H H':Hp}{h h':Heap}{a:xY}{o:HO}
theorem ObjOk.lt(x:ObjOk P w H h a o):a<h.objs.size:=by
 cases o with
 |lst i=>obtain⟨_,_,_,_,e⟩:=x;exact zz e
 |tup i=>obtain⟨_,_,_,p⟩:=x;exact p.lt
 |dK d=>obtain⟨_,_,_,_,o,_,_,e,_⟩:=x;exact zz e
 |dT d=>obtain⟨_,_,_,_,o,_,_,e,_⟩:=x;exact zz e
 |set S n=>obtain⟨o,_,_,_,e,_⟩:=x;exact zz e
 |ins C B fs=>obtain⟨_,_,_,e,_⟩:=x;exact zz e
 |own y=>obtain⟨_,e⟩:=x;exact zz e
 |xd fs=>obtain⟨_,⟨_,_,_,e,_⟩,_⟩:=x;exact zz e
 |rng F z=>obtain⟨_,_,_,e⟩:=x;exact zz e
 |frz q u=>obtain⟨e,_⟩:=x;exact zz e
 |tbl I=>exact zz (x)
 |met f y=>exact zz (x)
 |ext j=>obtain⟨_,⟨_,e⟩,_⟩:=x;exact zz e
theorem Paired.mapP{j n:Type}{F G:j->n->Prop}:∀{i:List j}{d:List n},Paired F i d->(∀a b,F a b->G a b)->Paired G i d
 |_,_,.nil,_=>.nil
 |_,_,.cons r t,f=>.cons (f _ _ r) (Paired.mapP t f)
theorem ObjOk.stay(x:ObjOk P w H h a o)(k:∀b u,(b=a∨H b=uz (.own a))->h.get? b=uz u->h'.get? b=uz u)
  (ho:∀b,H b=uz (.own a)->H' b=uz (.own a)) (Y:∀b xs,H b=uz (.tup xs)->H' b=uz (.tup xs)):ObjOk P w H' h' a o:=by
 induction o with
 |lst xs=>obtain⟨z,F,n,r,e⟩:=x;exact⟨z,F,n,r,k _ _ (.inl rfl) e⟩
 |tup xs=>obtain⟨z,F,r,i,e,c⟩:=x;exact⟨z,F,r,i,k _ _ (.inl rfl) e,c⟩
 |dK J=>obtain⟨z,y,O,r,i,j,B,e,c⟩:=x;exact⟨z,y,O,r,i,j,B,k _ _ (.inl rfl) e,c⟩
 |dT J=>
  obtain⟨z,y,xs,r,i,j,B,e,c⟩:=x;exact⟨z,y,xs,Paired.mapP r λp q z=>⟨z.1,Y _ _ z.2.1,z.2.2⟩,i,j,B,k _ _ (.inl rfl) e,c⟩
 |set S n=>obtain⟨i,j,B,t,e,c⟩:=x;exact⟨i,j,B,t,k _ _ (.inl rfl) e,c⟩
 |ins C dx fs=>
  obtain⟨d,z,N,e,L,⟨I,j,B,W,c⟩,r⟩:=x;exact⟨ho _ d,z,N,k _ _ (.inl rfl) e,L,⟨I,j,B,k _ _ (.inr d) W,c⟩,r⟩
 |own y=>obtain⟨i,e⟩:=x;exact⟨i,k _ _ (.inl rfl) e⟩
 |xd fs=>obtain⟨L,⟨I,j,B,e,c⟩,r⟩:=x;exact⟨L,⟨I,j,B,k _ _ (.inl rfl) e,c⟩,r⟩
 |rng lo hi=>obtain⟨t,u,v,e⟩:=x;exact⟨t,u,v,k _ _ (.inl rfl) e⟩
 |frz i u U=>obtain⟨e,q⟩:=x;exact⟨k _ _ (.inl rfl) e,U q⟩
 |tbl Z=>
  have e:=x;exact k a _ (.inl rfl) e
 |met f y=>
  have e:=x;exact k a _ (.inl rfl) e
 |ext φ=>obtain⟨p,⟨o,e⟩,M⟩:=x;exact⟨M _ _ p λo q=>k _ _ (.inl rfl) q,⟨o,k _ _ (.inl rfl) e⟩,M⟩
theorem HOk.lt(x:HOk P w H h)(e:H a=uz o):a<h.objs.size:=(x a o e).lt
theorem HOk.fresh(x:HOk P w H h)(e:h.objs.size<=a):H a=uj:=by
 cases q:H a with
 |none=>rfl
 |some u=>exact absurd (zq (x.lt q) e) (qZ _)
theorem HOk.kept(x:HOk P w H h)(k:∀b u,h.get? b=uz u->h'.get? b=uz u):HOk P w H h':=λa o e=>
 (x a o e).stay (λb u _ q=>k b u q) (λ_ q=>q) λ_ _ q=>q
theorem HOk.laid(x:HOk P w H h)(k:∀b u,h.get? b=uz u->h'.get? b=uz u)(hp:h.objs.size<=a)(d:ObjOk P w (upd H a o) h' a o):HOk P w (upd H a o) h':=λb u e=>by
 have j:=x.fresh hp;by_cases i:b=a
 .subst i;rw[Dy]at e;cases e;exact d
 .rw[Ag i]at e;exact(x b u e).stay (λc v _ q=>k c v q) (λc q=>by rw[Ag (Fy q j)];exact q) λc n q=>by rw[Ag (Fy q j)];exact q
end
def Rd(H:Hp)(a:xY)(u:HO):Prop:=H a=uz u∨∃o,H a=uz (.frz o u)
theorem Rd.ok(r:Rd H a u)(x:HOk P w H h):ObjOk P w H h a u:=by
 rcases r with r|⟨o,r⟩
 .exact x a u r
 .obtain⟨_,q⟩:=x a _ r;exact q
def Mut:Option HO->Prop
 |some (.lst _)=>True
 |some (.dK _)=>True
 |some (.dT _)=>True
 |some (.set _ _)=>True
 |some (.ins _ _ _)=>True
 |some (.ext _)=>True
 |_=>False
section
variable{P:xk}{w:xC}{H:Hp}{h h':Heap}{x e:xY}{o':HO}
theorem HOk.write(ok:HOk P w H h)(F:Mut (H x))(N:e=x∨H e=uz (.own x))(k:∀b u,b≠e->h.get? b=uz u->h'.get? b=uz u)(L:∃u,h'.get? e=uz u)
  (J:ObjOk P w (upd H x o') h' x o'):HOk P w (upd H x o') h':=λb u q=>by
 have i:∀c y,H c=uz (.own y)->c≠x:=λc y r z=>by subst z;rw[r]at F;exact F
 have j:∀c I,H c=uz (.tup I)->c≠x:=λc I r z=>by subst z;rw[r]at F;exact F
 by_cases n:b=x
 .subst n;rw[Dy]at q;cases q;exact J
 .rw[Ag n]at q;by_cases d:b=e
  .have M:H b=uz (.own x):=by
    rcases N with z|z
    .exact absurd (d.trans z) n
    .rw[d];exact z
   rw[q]at M;cases M;obtain⟨v,O⟩:=L;exact⟨v,by rw[d];exact O⟩
  .refine(ok b u q).stay (λc v B r=>k c v ?_ r) (λc r=>by rw[Ag (i c b r)];exact r) λc I r=>by rw[Ag (j c I r)];exact r
   rcases B with rfl|B
   .exact d
   .rintro rfl;rcases N with z|z
    .exact i c b B z
    .rw[B]at z;cases z;exact n rfl
end
structure Un (fs ex:List xY) (H H':Hp) (h h':Heap):Prop where
 keep:∀b o,h.get? b=uz o->H b=uj->b∉fs->b∉ex->h'.get? b=uz o
 slot:∀b o,h.get? b=uz o->H b=uj->b∈fs->b∉ex->∃sl,h'.get? b=uz {o with slots:=sl}
 free:∀b o,h.get? b=uz o->H b=uj->b∉ex->H' b=uj
 there:∀b o,h.get? b=uz o->b∉ex->∃o',h'.get? b=uz o'
 tups:∀b xs,H b=uz (.tup xs)->H' b=uz (.tup xs)
 frzs:∀b o u,H b=uz (.frz o u)->H' b=uz (.frz o u)
 tbls:∀b ps,H b=uz (.tbl ps)->∃more,H' b=uz (.tbl (ps++more))
section
variable{fs fs' ex ex':List xY}{H H1 H2:Hp}{h h1 h2 h':Heap}{a x e:xY}{o:HO}
theorem Un.any(u:Un fs ex H H1 h h1)(q:h.get? b=uz ob)(n:H b=uj)(j:b∉ex):∃y,h1.get? b=uz {ob with slots:=y}:=by
 by_cases i:b∈fs
 .exact u.slot b ob q n i j
 .exact⟨ob.slots,u.keep b ob q n i j⟩
theorem Un.kept(k:∀b u,h.get? b=uz u->h'.get? b=uz u):Un fs ex H H h h':=
 ⟨λb d q _ _ _=>k b d q,λb d q _ _ _=>⟨d.slots,k b d q⟩,λ_ _ _ n _=>n,λb d q _=>⟨d,k b d q⟩,λ_ _ q=>q,λ_ _ _ q=>q,λ_ i q=>⟨#[],by rw[q];simp⟩⟩
theorem Un.refl:Un fs ex H H h h:=Un.kept λ_ _ q=>q
theorem Un.laid(k:∀b u,h.get? b=uz u->h'.get? b=uz u)(hp:h.objs.size<=a)(d:H a=uj):Un fs ex H (upd H a o) h h' where
 keep:=λb u q _ _ _=>k b u q
 slot:=λb u q _ _ _=>⟨u.slots,k b u q⟩
 free:=λb u q n _=>by rw[Ag (z8 (zq (zz q) hp))];exact n
 there:=λb u q _=>⟨u,k b u q⟩
 tups:=λb i q=>by rw[Ag (Fy q d)];exact q
 frzs:=λb u i q=>by rw[Ag (Fy q d)];exact q
 tbls:=λb j q=>⟨#[],by rw[Ag (Fy q d),q];simp⟩
theorem Un.write(i:Mut (H x))(J:e=x∨H e=uz (.own x))(k:∀b u,b≠e->h.get? b=uz u->h'.get? b=uz u)(j:∃u,h'.get? e=uz u):Un fs ex H (upd H x o) h h':=by
 have F:∀b,H b=uj->b≠x:=λb n z=>by subst z;rw[n]at i;exact i
 have B:∀b,H b=uj->b≠e:=λb n z=>by
  subst z;rcases J with r|r
  .exact F b n r
  .rw[n]at r;cases r
 have y:∀b u,H b=uz u->¬Mut (uz u)->b≠x:=λb u q L z=>by subst z;rw[q]at i;exact L i
 refine⟨λb u q n _ _=>k b u (B b n) q,λb u q n _ _=>⟨u.slots,k b u (B b n) q⟩,λb u q n _=>by rw[Ag (F b n)];exact n,λb u q _=>?_,
  λb I q=>by rw[Ag (y b _ q λz=>z)];exact q,λb u I q=>by rw[Ag (y b _ q λz=>z)];exact q,λb M q=>⟨#[],by rw[Ag (y b _ q λz=>z),q];simp⟩⟩
 by_cases d:b=e
 .subst d;exact j
 .exact⟨u,k b u d q⟩
end
noncomputable def trk(h:Heap)(H:Hp):List xY:=(zX h.objs.size).filter λa=>(H a).isSome
def Jj(h:Heap)(H:Hp):Heap:=qe h (trk h H)
theorem ZON(h:Heap)(H:Hp):(Jj h H).objs.size=h.objs.size:=PySem.W.hideAll_size _ _
theorem ZOE(e:h.get? b=uz o)(n:H b=uj):(Jj h H).get? b=uz o:=
 xg _ e λd=>by have q:=(List.mem_filter.mp d).2;rw[n]at q;simp at q
theorem ZNN(e:(Jj h H).get? b=uz o):h.get? b=uz o/\H b=uj:=by
 have d:=vR (trk h H) e;refine⟨d,?_⟩;cases q:H b with
 |none=>rfl
 |some x=>
  have z:(Jj h H).get? b=uj:=vS (trk h H) (List.mem_filter.mpr ⟨qK.mpr (zz d),by simp[q]⟩);rw[z]at e;cases e
noncomputable def ZLI(g h:Heap)(L:xY):List (xY×Obj):=(zX h.objs.size).filterMap λa=>if a=L∨(g.get? a).isSome=ux then uj else(h.get? a).map λo=>(a,o)
def rest(g h:Heap)(L d:xY):List (xY×Obj):=(ZLI g h L).filter λp=>decide (p.1≠d)
structure Mod (K:za) (mg:Str->Option xB) (base:Heap):Prop where
 kin:K.In base
 glob:base.Ns xT mg
 blt:∃mb,base.Ns builtinsNs mb/\∀x:Str,x≠"__name__"->mb x=xL x
 nolimit:base.NoLimit
structure Cx where
 prog:xk
 w:xC
 K:za
 mg:Str->Option xB
 base:Heap
 A:xq
 N:List Str
 s₀:x0
 H₀:Hp
 env:Env
 outer:List Env
 stack:List Env
 ex:List xY
 fn:Str->Bool
 calm:Bool
 pn:List (xY×Obj)
 xe:xB->x0->Prop
noncomputable def frs(l:List Env):List xY:=l.filterMap (·.frame)
noncomputable abbrev Cx.fs(X:Cx):List xY:=frs X.outer
def Vis(sc:xy)(x:Str):Prop:=sc.names.lookup x=uz .local∨sc.names.lookup x=uz .cell∨sc.names.lookup x=uz .free
def Loc(sc:xy)(x:Str):Prop:=sc.names.lookup x=uz .local∨sc.names.lookup x=uz .cell
def Look(env:Env)(h:Heap)(m:Str->Option xB)(x:Str)(u:xB):Prop:=
 (env.kindOf x=uz .local/\m x=uz u)∨((env.kindOf x=uz .cell∨env.kindOf x=uz .free)/\∃c,env.cells.lookup x=uz c/\h.IsCell c (uz u))
structure Cx.Ok (X:Cx):Prop where
 mod:Mod X.K X.mg X.base
 kind:X.env.scope.kind=.function
 glob:X.env.globals=xT
 blt:X.env.builtins=builtinsNs
 above:X.s₀.heap.objs.size<=X.env.locals
 inj:∀x y c,X.env.cells.lookup x=uz c->X.env.cells.lookup y=uz c->x=y
 has:∀x,(X.env.kindOf x=uz .cell∨X.env.kindOf x=uz .free)->∃c,X.env.cells.lookup x=uz c
 cab:∀x c,X.fn x=ux->X.env.cells.lookup x=uz c->X.s₀.heap.objs.size<=c
 hd:X.calm=ux->X.A.handled=uj
 frames:X.A.frames=uz X.stack
 stk:X.stack=X.outer∨(X.stack=X.env::X.outer/\X.env.frame=uz X.env.locals)
 exf:∀b∈X.ex,b≠X.env.locals/\∀x c,X.env.cells.lookup x=uz c->c≠b
 bs:∀b o,X.base.get? b=uz o->X.s₀.heap.get? b=uz o/\X.H₀ b=uj
 bsz:X.base.objs.size<=X.s₀.heap.objs.size
 noex:∀b o,X.base.get? b=uz o->b∉X.ex
 exfs:∀b∈X.ex,b∉X.fs
 funs:X.s₀.heap.FunFrames X.base X.outer
 frf:∀b∈X.fs,X.H₀ b=uj
structure Inv (X:Cx) (vA:List (xY×Obj)) (σ:List (Option V)) (H:Hp) (s:x0):Prop where
 ok:X.Ok
 os:s.os=X.s₀.os
 bare:AllBare s.gens
 base:Un X.fs X.ex X.H₀ H X.s₀.heap s.heap
 loc:∃m,s.heap.Ns X.env.locals m/\∀(i:Nat)(x:Str)(v:V),X.N[i]?=uz x->σ[i]?=uz (uz v)->Vis X.env.scope x->∃u,RelV v u/\Look X.env s.heap m x u
 cell:∀x c,X.env.cells.lookup x=uz c->∃v,s.heap.IsCell c v
 free:H X.env.locals=uj
 Fj:∀x c,X.env.cells.lookup x=uz c->H c=uj
 pin:∀p∈X.pn++vA,s.heap.get? p.1=uz p.2/\H p.1=uj/\p.1≠X.env.locals/\p.1∉X.fs/\∀v,p.2.data≠ .cell v
 hok:HOk X.prog X.w H s.heap
 len:σ.length=X.N.length
section
variable{X:Cx}{vA:List (xY×Obj)}{σ:List (Option V)}{H H':Hp}{s:x0}{h':Heap}
theorem Cx.Ok.nofr(ok:X.Ok)(e:X.base.get? b=uz o):b∉X.fs:=λd=>by have:=(ok.funs.mem d).1;rw[e]at this;cases this
theorem Inv.bs(I:Inv X vA σ H s):∀b o,X.base.get? b=uz o->s.heap.get? b=uz o/\H b=uj:=λb o e=>
 ⟨I.base.keep b o (I.ok.bs b o e).1 (I.ok.bs b o e).2 (I.ok.nofr e) (I.ok.noex b o e),I.base.free b o (I.ok.bs b o e).1 (I.ok.bs b o e).2 (I.ok.noex b o e)⟩
theorem Inv.bk(I:Inv X vA σ H s):∀b o,X.base.get? b=uz o->s.heap.get? b=uz o:=λb o e=>(I.bs b o e).1
theorem Inv.mod(I:Inv X vA σ H s):Mod X.K X.mg X.base:=I.ok.mod
theorem Inv.kIn(I:Inv X vA σ H s):X.K.In s.heap:=I.ok.mod.kin.keeps I.bk
theorem Inv.lt(I:Inv X vA σ H s):X.env.locals<s.heap.objs.size:=let⟨_,d,_⟩:=I.loc;d.lt
theorem Inv.sz(I:Inv X vA σ H s):X.s₀.heap.objs.size<=s.heap.objs.size:=z0 I.ok.above (Nat.le_of_lt I.lt)
theorem Inv.nofs(I:Inv X vA σ H s){a:xY}(h:s.heap.objs.size<=a):a∉X.fs:=λd=>by obtain⟨_,o,i,_⟩:=I.ok.funs.mem d;exact absurd (zq (zz i) (z0 I.sz h)) (qZ _)
theorem Inv.cne(I:Inv X vA σ H s):∀x c,X.env.cells.lookup x=uz c->c≠X.env.locals:=λx c e z=>by obtain⟨v,o,n,j⟩:=I.cell x c e;obtain⟨m,⟨q,y,B,d,i,_⟩,_⟩:=I.loc;rw[z,d]at n;cases n;rw[i]at j;cases j
theorem Inv.funs(I:Inv X vA σ H s):s.heap.FunFrames X.base X.outer:=by
 have all:∀(l:List Env),(∀b∈frs l,b∈X.fs)->X.s₀.heap.FunFrames X.base l->s.heap.FunFrames X.base l:=by
  intro l
  induction l with
  |nil=>intro _ _;trivial
  |cons J r B=>
   intro n q;obtain⟨hk,⟨L,o,j,y,N,F⟩,M⟩:=q;have i:=n L (by unfold frs;rw[qz,j];exact zW);obtain⟨O,e⟩:=I.base.slot L o N (I.ok.frf L i) i λz=>I.ok.exfs L z i
   exact⟨hk,⟨L,_,j,y,e,F⟩,B (λb d=>n b (by unfold frs;rw[qz,j];exact zV _ d)) M⟩
 exact all X.outer (λ_ d=>d) I.ok.funs
theorem Inv.stack(I:Inv X vA σ H s):s.heap.FunFrames X.base X.stack:=by
 rcases I.ok.stk with e|⟨e,d⟩
 .rw[e];exact I.funs
 .rw[e];obtain⟨m,i,_⟩:=I.loc;refine .cons (by rw[I.ok.kind];decide) d i ?_ I.funs;exact jU (z0 I.ok.bsz I.ok.above)
theorem Inv.Tj(I:Inv X vA σ H s):∀b∈frs X.stack,b∈X.env.locals::X.fs:=λb d=>by
 rcases I.ok.stk with e|⟨e,i⟩
 .rw[e]at d;exact zV _ d
 .rw[e]at d;unfold frs at d;rw[qz,i]at d;exact d
theorem Inv.Rg(I:Inv X vA σ H s):∀b∈frs X.stack,H b=uj:=λb d=>by
 rcases zj.mp (I.Tj b d)with e|d
 .rw[e];exact I.free
 .obtain⟨_,o,i,_⟩:=I.ok.funs.mem d;exact I.base.free b o i (I.ok.frf b d) λz=>I.ok.exfs b z d
theorem Inv.step{g':Array GenState}{d':Drawn}{ch:List xY}(I:Inv X vA σ H s)
  (L:∀b∈ch,(b∈X.ex∨X.s₀.heap.objs.size<=b)/\b≠X.env.locals/\(∀x c,X.env.cells.lookup x=uz c->c≠b)/\∀p∈X.pn++vA,p.1≠b)
  (F:∀b o,b≠X.env.locals->b∉X.fs->b∉ch->s.heap.get? b=uz o->H b=uj->h'.get? b=uz o)
  (N:∀b o,b≠X.env.locals->b∈X.fs->b∉ch->s.heap.get? b=uz o->H b=uj->∃sl,h'.get? b=uz {o with slots:=sl}) (free:∀b o,b∉ch->s.heap.get? b=uz o->H b=uj->H' b=uj)
  (B:∀b o,b∉ch->s.heap.get? b=uz o->∃o',h'.get? b=uz o')
  (U:∀b xs,H b=uz (.tup xs)->H' b=uz (.tup xs)) (W:∀b o u,H b=uz (.frz o u)->H' b=uz (.frz o u)) (Y:∀b ps,H b=uz (.tbl ps)->∃more,H' b=uz (.tbl (ps++more)))
  (ns:∀m,s.heap.Ns X.env.locals m->h'.Ns X.env.locals m) (hok:HOk X.prog X.w H' h') (hg:AllBare g'):
  Inv X vA σ H' {s with heap:=h',gens:=g',drawn:=d',toks:=t'}:=by
 have neL:∀b o,X.s₀.heap.get? b=uz o->b≠X.env.locals:=λb o e=>z8 (zq (zz e) I.ok.above)
 have O:∀b o,X.s₀.heap.get? b=uz o->b∉X.ex->b∉ch:=λb o e y Z=>by
  rcases(L b Z).1 with z|z
  .exact y z
  .exact absurd (zq (zz e) z) (qZ _)
 have J:∀x c,X.env.cells.lookup x=uz c->∀v,s.heap.IsCell c v->h'.IsCell c v:=λx c e v ⟨o,ho,hd⟩=>by
  have M:c∉ch:=λz=>(L c z).2.2.1 x c e rfl
  by_cases hc:c∈X.fs
  .obtain⟨sl,q⟩:=N c o (I.cne x c e) hc M ho (I.Fj x c e);exact⟨_,q,hd⟩
  .exact⟨o,F c o (I.cne x c e) hc M ho (I.Fj x c e),hd⟩
 refine⟨I.ok,I.os,hg,⟨λb o e n Z y=>?_,λb o e n Z y=>?_,λb o e n y=>?_,λb o e y=>?_,λb xs e=>U b xs (I.base.tups b xs e),λb o xs e=>W b o xs (I.base.frzs b o xs e),λb ps e=>?_⟩,?_,λx c e=>?_,?_,λx c e=>?_,λp hp=>?_,hok,I.len⟩
 .exact F b o (neL b o e) Z (O b o e y) (I.base.keep b o e n Z y) (I.base.free b o e n y)
 .obtain⟨sl,S⟩:=I.base.slot b o e n Z y;obtain⟨sl',e2⟩:=N b _ (neL b o e) Z (O b o e y) S (I.base.free b o e n y);exact⟨sl',e2⟩
 .obtain⟨o',S⟩:=I.base.there b o e y;exact free b o' (O b o e y) S (I.base.free b o e n y)
 .obtain⟨o',S⟩:=I.base.there b o e y;exact B b o' (O b o e y) S
 .obtain⟨m1,S⟩:=I.base.tbls b ps e;obtain⟨m2,e2⟩:=Y b _ S;exact⟨m1++m2,by rw[e2,Array.append_assoc]⟩
 .obtain⟨m,hn,hl⟩:=I.loc;refine⟨m,ns m hn,λi x v S e2 e3=>?_⟩;obtain⟨u,r,l⟩:=hl i x v S e2 e3;refine⟨u,r,?_⟩;rcases l with l|⟨k,c,e,z⟩
  .exact .inl l
  .exact .inr ⟨k,c,e,J x c e _ z⟩
 .obtain⟨v,z⟩:=I.cell x c e;exact⟨v,J x c e v z⟩
 .obtain⟨m,⟨o,_,_,ho,_⟩,_⟩:=I.loc;exact free _ o (λz=>(L _ z).2.1 rfl) ho I.free
 .obtain⟨v,o,ho,hd⟩:=I.cell x c e;exact free c o (λz=>(L c z).2.2.1 x c e rfl) ho (I.Fj x c e)
 .obtain⟨e,n,ne,nf,d⟩:=I.pin p hp;have M:p.1∉ch:=λz=>(L p.1 z).2.2.2 p hp rfl
  exact⟨F p.1 p.2 ne nf M e n,free p.1 p.2 M e n,ne,nf,d⟩
theorem Inv.un(I:Inv X vA σ H s)(u:Un X.fs [] H H' s.heap h')(hok:HOk X.prog X.w H' h'):Inv X vA σ H' {s with heap:=h',toks:=t'}:=by
 obtain⟨m,⟨o,U,W,F,r⟩,_⟩:=id I.loc;obtain⟨N,J⟩:=u.any F I.free (by simp)
 exact I.step (ch:=[]) (λ_ z=>nomatch z) (λb o _ j _ e n=>u.keep b o e n j (by simp)) (λb o _ j _ e n=>u.slot b o e n j (by simp)) (λb o _ e n=>u.free b o e n (by simp)) (λb o _ e=>u.there b o e (by simp)) u.tups u.frzs u.tbls (λO L=>by obtain⟨S,y,q,d,M⟩:=L;rw[F]at d;cases d;exact⟨_,y,q,J,M⟩) hok I.bare
theorem Inv.call{g':Array GenState}{d':Drawn}{ch:List xY}(I:Inv X vA σ H s)(u:Un (frs X.stack) ch H H' s.heap h')(hok:HOk X.prog X.w H' h')(O:AllBare g')
  (j:∀b∈ch,(b∈X.ex∨X.s₀.heap.objs.size<=b)/\b≠X.env.locals/\(∀x c,X.env.cells.lookup x=uz c->c≠b)/\∀p∈X.pn++vA,p.1≠b):
  Inv X vA σ H' {s with heap:=h',gens:=g',drawn:=d',toks:=t'}:=by
 obtain⟨m,⟨o,es,Z,N,r⟩,_⟩:=id I.loc;obtain⟨Y,y⟩:=u.any N I.free λz=>(j _ z).2.1 rfl
 exact I.step j (λb o y S i e n=>u.keep b o e n (λz=>(zj.mp (I.Tj b z)).elim y S) i) (λb o _ _ i e n=>u.any e n i) (λb o i e n=>u.free b o e n i) (λb o i e=>u.there b o e i) u.tups u.frzs u.tbls (λm' W=>by obtain⟨o',F,B,q,U⟩:=W;rw[N]at q;cases q;exact⟨_,F,B,y,U⟩) hok O
theorem Inv.turned{it:xY}(I:Inv X vA σ H s)(k:∀b o,b≠it->s.heap.get? b=uz o->h'.get? b=uz o)(F:H it=uj)(B:it≠X.env.locals)
  (J:it∈X.ex∨X.s₀.heap.objs.size<=it) (M:∀x c,X.env.cells.lookup x=uz c->c≠it) (N:∀p∈X.pn++vA,p.1≠it):Inv X vA σ H {s with heap:=h',toks:=t'}:=by
 have j:∀b u,H b=uz u->b≠it:=λb u e z=>by rw[z,F]at e;cases e
 refine I.step (ch:=[it]) (λb L=>?_) (λb o _ _ i e _=>k b o (λz=>i (by simp[z])) e) (λb o _ _ i e _=>⟨o.slots,k b o (λz=>i (by simp[z])) e⟩) (λ_ _ _ _ n=>n)
  (λb o i e=>⟨o,k b o (λz=>i (by simp[z])) e⟩) (λ_ _ e=>e) (λ_ _ _ e=>e) (λb Y e=>⟨#[],by rw[e];simp⟩) (λm O=>?_) (λb u e=>?_) I.bare
 .have e:b=it:=by simpa using L
  subst e;exact⟨J,B,M,N⟩
 .obtain⟨o,S,U,W,r⟩:=O;exact⟨o,S,U,k _ o (Ne.symm B) W,r⟩
 .refine(I.hok b u e).stay (λc v i q=>k c v ?_ q) (λ_ q=>q) λ_ _ q=>q
  rcases i with z|z
  .rw[z];exact j b u e
  .exact j c _ z
theorem Inv.tok(I:Inv X vA σ H s)(t:Nat):Inv X vA σ H {s with toks:=t}:=I.un Un.refl I.hok
theorem Inv.kept(I:Inv X vA σ H s)(k:∀b u,s.heap.get? b=uz u->h'.get? b=uz u):Inv X vA σ H {s with heap:=h',toks:=t'}:=I.un (Un.kept k) (I.hok.kept k)
theorem Inv.laid{a:xY}{o:HO}(I:Inv X vA σ H s)(k:∀b u,s.heap.get? b=uz u->h'.get? b=uz u)(hp:s.heap.objs.size<=a)(i:ObjOk X.prog X.w (upd H a o) h' a o):
  Inv X vA σ (upd H a o) {s with heap:=h',toks:=t'}:=I.un (Un.laid k hp (I.hok.fresh hp)) (I.hok.laid k hp i)
theorem Inv.write(I:Inv X vA σ H s)(n:Mut (H x))(y:e=x∨H e=uz (.own x))(k:∀b u,b≠e->s.heap.get? b=uz u->h'.get? b=uz u)(d:∃u,h'.get? e=uz u)
  (j:ObjOk X.prog X.w (upd H x o) h' x o):Inv X vA σ (upd H x o) {s with heap:=h',toks:=t'}:=I.un (Un.write n y k d) (I.hok.write n y k d j)
theorem Inv.Jl(I:Inv X vA σ H s)(h:∀p∈pins',s.heap.get? p.1=uz p.2/\H p.1=uj/\p.1≠X.env.locals/\p.1∉X.fs/\∀v,p.2.data≠ .cell v):Inv X pins' σ H s:=
 ⟨I.ok,I.os,I.bare,I.base,I.loc,I.cell,I.free,I.Fj,λp hp=>(jE.mp hp).elim (λz=>I.pin p (xQ _ z)) (h p),I.hok,I.len⟩
theorem Z4{N:List Str}(n:N.Nodup){i j:Nat}{x:Str}(a:N[i]?=uz x)(b:N[j]?=uz x):i=j:=by obtain⟨y,d⟩:=zC.mp a;obtain⟨z,q⟩:=zC.mp b;exact(List.getElem_inj n).mp (d.trans q.symm)
theorem ZEc{M:Model}{A:xq}{E:xB->x0->Prop}{i:Nat}{x:Str}{v:V}{u:xB}{Q:Unit->x0->Prop}(I:Inv X vA σ H s)(hN:X.N.Nodup)(hi:X.N[i]?=uz x)(O:Loc X.env.scope x)(r:RelV v u)
  (h:∀s',Inv X vA (σ.set i (uz v)) H s'->(∃a,qA a s.heap s'.heap/\(a=X.env.locals∨X.env.cells.lookup x=uz a))->Q () s') (hf:X.fn x=ux∨X.env.scope.names.lookup x=uz .local:=by first|exact .inl rfl|exact .inr rfl|assumption):vW M A (storeName X.env x u) Q E s:=by
 obtain⟨m,hn,hl⟩:=id I.loc;have hcls:(X.env.scope.kind == .class||(X.env.scope.kind == .module&&X.env.locals != X.env.globals))=uv:=by rw[I.ok.kind];rfl
 have W:i<σ.length:=by rw[I.len];exact(zC.mp hi).1
 have cne:=I.cne;have J:∀{a:xY}{h':Heap},(∃o,s.heap.get? a=uz o/\H a=uj)->qA a s.heap h'->HOk X.prog X.w H h':=λ{a h'}ha B b ob e=>by
  obtain⟨_,_,S⟩:=ha;refine(I.hok b ob e).stay (λc w' L q=>(B.2 c ?_).trans q) (λ_ q=>q) λ_ _ q=>q
  rintro rfl;rcases L with rfl|L
  .rw[S]at e;cases e
  .rw[S]at L;cases L
 rcases O with hk|hk
 .refine wpAny_storeName_local hk hn (λh' hn' B=>?_) hcls;obtain⟨oL,_,_,hoL,_⟩:=id hn;refine h _ ⟨I.ok,I.os,I.bare,⟨λb o e n Z O=>?_,λb o e n Z O=>?_,I.base.free,λb o e O=>?_,I.base.tups,I.base.frzs,I.base.tbls⟩,⟨_,hn',λj y v' F U e3=>?_⟩,λy c e=>?_,I.free,I.Fj,λp hp=>?_,J ⟨oL,hoL,I.free⟩ B,by simpa using I.len⟩ ⟨_,B,.inl rfl⟩
  .exact(B.2 b (z8 (zq (zz e) I.ok.above))).trans (I.base.keep b o e n Z O)
  .obtain⟨sl,F⟩:=I.base.slot b o e n Z O;exact⟨sl,(B.2 b (z8 (zq (zz e) I.ok.above))).trans F⟩
  .obtain⟨o',F⟩:=I.base.there b o e O;exact⟨o',(B.2 b (z8 (zq (zz e) I.ok.above))).trans F⟩
  .by_cases hj:j=i
   .subst hj;rw[hi]at F;cases F;rw[jY W]at U;cases U;exact⟨u,r,.inl ⟨hk,by simp⟩⟩
   .rw[qL (Ne.symm hj)]at U;obtain⟨u',r',q⟩:=hl j y v' F U e3;refine⟨u',r',?_⟩;rcases q with⟨k,e⟩|⟨k,c,e,z⟩
    .refine .inl ⟨k,?_⟩;have:y≠x:=λe=>hj (Z4 hN F (e▸hi))
     simp[this,e]
    .exact .inr ⟨k,c,e,z.sameBut B (cne y c e)⟩
  .obtain⟨w',z⟩:=I.cell y c e;exact⟨w',z.sameBut B (cne y c e)⟩
  .obtain⟨e,n,ne,nf,d⟩:=I.pin p hp;exact⟨(B.2 p.1 ne).trans e,n,ne,nf,d⟩
 .have Y:X.fn x=ux:=by
   rcases hf with z|z
   .exact z
   .rw[z]at hk;cases hk
  obtain⟨c,L⟩:=I.ok.has x (.inl hk);obtain⟨w',z⟩:=I.cell x c L;refine wpAny_storeName_cell I.ok.kind hk L z (λh' hc' B=>?_);obtain⟨oc,hoc,hocd⟩:=id z;refine h {s with heap:=h'} ⟨I.ok,I.os,I.bare,⟨λb o e n Z O=>?_,λb o e n Z O=>?_,I.base.free,λb o e O=>?_,I.base.tups,I.base.frzs,I.base.tbls⟩,⟨m,hn.sameBut B (Ne.symm (cne x c L)),λj y v' F U e3=>?_⟩,λy c' e=>?_,I.free,I.Fj,λp hp=>?_,J ⟨oc,hoc,I.Fj x c L⟩ B,by simpa using I.len⟩ ⟨c,B,.inr L⟩
  .exact(B.2 b (z8 (zq (zz e) (I.ok.cab x c Y L)))).trans (I.base.keep b o e n Z O)
  .obtain⟨sl,F⟩:=I.base.slot b o e n Z O;exact⟨sl,(B.2 b (z8 (zq (zz e) (I.ok.cab x c Y L)))).trans F⟩
  .obtain⟨o',F⟩:=I.base.there b o e O;exact⟨o',(B.2 b (z8 (zq (zz e) (I.ok.cab x c Y L)))).trans F⟩
  .by_cases hj:j=i
   .subst hj;rw[hi]at F;cases F;rw[jY W]at U;cases U;exact⟨u,r,.inr ⟨.inl hk,c,L,hc'⟩⟩
   .rw[qL (Ne.symm hj)]at U;obtain⟨u',r',q⟩:=hl j y v' F U e3;refine⟨u',r',?_⟩;rcases q with q|⟨k,c',e,z'⟩
    .exact .inl q
    .refine .inr ⟨k,c',e,z'.sameBut B ?_⟩;rintro rfl;exact hj (Z4 hN F (I.ok.inj _ _ _ e L▸hi))
  .by_cases hcc:c'=c
   .subst hcc;exact⟨_,hc'⟩
   .obtain⟨w2,z2⟩:=I.cell y c' e;exact⟨w2,z2.sameBut B hcc⟩
  .obtain⟨e,n,ne,nf,d⟩:=I.pin p hp;refine⟨(B.2 p.1 ?_).trans e,n,ne,nf,d⟩;intro q;rw[q,hoc]at e;exact d w' (by rw[<-(Option.some.inj e)];exact hocd)
theorem Qu(I:Inv X vA σ H s)(d:X.N.Nodup)(n:X.N[i]?=uz x)(y:Loc X.env.scope x)(r:RelV v u)
  (h:∀s',Inv X vA (σ.set i (uz v)) H s'->Q () s') (q:X.fn x=ux∨X.env.scope.names.lookup x=uz .local:=by first|exact .inl rfl|exact .inr rfl|assumption):vW M A (storeName X.env x u) Q E s:=
 ZEc I d n y r (λs' j _=>h s' j) q
theorem Inv.call'(I:Inv X vA σ H s)(ho:s'.os=s.os)(u:Un (frs X.stack) ch H H' s.heap s'.heap)(hok:HOk X.prog X.w H' s'.heap)(i:AllBare s'.gens)
  (d:∀b∈ch,(b∈X.ex∨X.s₀.heap.objs.size<=b)/\b≠X.env.locals/\(∀x c,X.env.cells.lookup x=uz c->c≠b)/\∀p∈X.pn++vA,p.1≠b):Inv X vA σ H' s':=by
 obtain⟨z,j,q,y,n⟩:=s';have e:=ho;subst e;exact I.call u hok i d
end
noncomputable abbrev XK:=xB->Option xY->Hp->Prop
noncomputable abbrev St:=List (Option V)
noncomputable abbrev VK:=V->Hp->Prop
noncomputable abbrev TE:=St->Hp->VK->Prop
noncomputable abbrev TT:=St->Hp->(Bool->Hp->Prop)->Prop
noncomputable abbrev TA:=St->Hp->(List V->Hp->Prop)->Prop
structure Ends where
 nx:St->Hp->Prop
 rt:VK
 bk:St->Hp->Prop:=λ_ _=>False
 ct:St->Hp->Prop:=λ_ _=>False
noncomputable abbrev TS:=Ends->St->Hp->Prop
def EP(X:Cx)(vA:List (xY×Obj))(σ:St)(Q:VK)(u:xB)(s':x0):Prop:=∃v H',Inv X vA σ H' s'/\RelV v u/\Q v H'
def TP(X:Cx)(vA:List (xY×Obj))(σ:St)(Q:Bool->Hp->Prop)(b:Bool)(s':x0):Prop:=∃H',Inv X vA σ H' s'/\Q b H'
def AP(X:Cx)(vA:List (xY×Obj))(σ:St)(Q:List V->Hp->Prop)(us:List xB)(s':x0):Prop:=∃vs H',Inv X vA σ H' s'/\Vals vs us/\Q vs H'
def SP(X:Cx)(vA:List (xY×Obj))(D:Ends)(f:Flow)(s':x0):Prop:=
 match f with
 |.next=>∃σ' H',Inv X vA σ' H' s'/\D.nx σ' H'
 |.brk=>∃σ' H',Inv X vA σ' H' s'/\D.bk σ' H'
 |.cont=>∃σ' H',Inv X vA σ' H' s'/\D.ct σ' H'
 |.ret u=>∃v σ' H',Inv X vA σ' H' s'/\RelV v u/\D.rt v H'
def PE(X:Cx)(e:xz)(t:TE):Prop:=
 ∀(vA:List (xY×Obj))(s:x0)(σ:St)(H:Hp)(Q:VK),Inv X vA σ H s->t σ H Q->vW (xU X.prog X.w) X.A (eval e X.env) (EP X vA σ Q) X.xe s
def PT(X:Cx)(e:xz)(t:TT):Prop:=
 ∀(vA:List (xY×Obj))(s:x0)(σ:St)(H:Hp)(Q:Bool->Hp->Prop),Inv X vA σ H s->t σ H Q->vW (xU X.prog X.w) X.A (isTrue e X.env (eval e X.env)) (TP X vA σ Q) X.xe s
def PW(X:Cx)(e:xz)(t:TT):Prop:=
 ∀(whole:Sem xB)(vA:List (xY×Obj))(s:x0)(σ:St)(H:Hp)(Q:Bool->Hp->Prop),Inv X vA σ H s->t σ H Q->vW (xU X.prog X.w) X.A (isTrue e X.env whole) (TP X vA σ Q) X.xe s
theorem PW.pt(h:PW X e t):PT X e t:=h _
def PA(X:Cx)(es:List xz)(t:TA):Prop:=
 ∀(pos:Pos)(vA:List (xY×Obj))(s:x0)(σ:St)(H:Hp)(Q:List V->Hp->Prop),Inv X vA σ H s->t σ H Q->vW (xU X.prog X.w) X.A (spliced (xF pos (vX es X.env))) (AP X vA σ Q) X.xe s
def PS(X:Cx)(st:xA)(t:TS):Prop:=
 ∀(vA:List (xY×Obj))(s:x0)(σ:St)(H:Hp)(D:Ends),Inv X vA σ H s->t D σ H->vW (xU X.prog X.w) X.A (exec st X.env) (SP X vA D) X.xe s
def PSs(X:Cx)(st:List xA)(t:TS):Prop:=
 ∀(vA:List (xY×Obj))(s:x0)(σ:St)(H:Hp)(D:Ends),Inv X vA σ H s->t D σ H->vW (xU X.prog X.w) X.A (execs st X.env) (SP X vA D) X.xe s
theorem thn{d:Type}{t:Sem d}{Q i:d->x0->Prop}{M:Model}{A:xq}{E:xB->x0->Prop}(h:vW M A t Q E s)(j:∀a s,Q a s->i a s):vW M A t i E s:=vv h j λ_ _ x=>x
section
variable{X:Cx}
noncomputable def O6(i:Nat):TE:=λσ H Q=>∃v,σ[i]?=uz (uz v)/\Q v H
noncomputable def tC(v:V):TE:=λ_ H Q=>Q v H
theorem Ov{i:Nat}{x:Str}{pos:Pos}(L:X.N[i]?=uz x)(M:Vis X.env.scope x)(y:(x==("__debug__":Str))=uv:=by decide)(q:(x==("__classdict__":Str))=uv:=by decide):PE X (.Name x pos) (O6 i):=by
 intro n s F H Q I h;obtain⟨v,e,h⟩:=h;obtain⟨m,J,B⟩:=I.loc;obtain⟨u,r,l⟩:=B i x v L e M;have j:EP X n F Q u s:=⟨v,H,I,r,h⟩;rcases l with⟨hk,O⟩|⟨hk,c,z,d⟩
 .exact wpAny_Name (wpAny_loadName_local I.ok.kind hk J O j) y
 .rcases hk with hk|hk
  .exact wpAny_Name (wpAny_loadName_cell I.ok.kind hk z d j) y
  .exact wpAny_Name (wpAny_loadName_free I.ok.kind hk z d j q) y
theorem ZOa{i j pos}:PE X (.Constant (.int i) j pos) (tC (.int i)):=λ_ _ _ H _ I h=>wpAny_Constant_int ⟨.int i,H,I.tok _,⟨_,rfl⟩,h⟩
theorem ZRS{b j pos}:PE X (.Constant (.bool b) j pos) (tC (.bl b)):=λ_ _ _ H _ I h=>Constant_bool ⟨.bl b,H,I,rfl,h⟩
theorem ZLy{j pos}:PE X (.Constant .none j pos) (tC .non):=λ_ _ _ H _ I h=>Constant_none ⟨.non,H,I,rfl,h⟩
theorem Qz{x j pos}:PE X (.Constant (.str x) j pos) (tC (.str x)):=λ_ _ _ H _ I h=>Calls.Constant_str ⟨.str x,H,I.tok _,⟨_,rfl⟩,h⟩
def Gl(X:Cx)(x:Str):Prop:=X.env.kindOf x=uz .globalImplicit
theorem K6{E:xB->x0->Prop}{i:St}{H:Hp}{x:Str}{u:xB}{pos:Pos}{Q:xB->x0->Prop}(I:Inv X vA i H s)(j:Gl X x)(n:X.mg x=uz u)(h:Q u s)
  (d:(x==("__debug__":Str))=uv:=by decide):vW (xU X.prog X.w) X.A (eval (.Name x pos) X.env) Q E s:=
 Calls.Name_function_global I.ok.kind j (Calls.loadGlobal_global (by rw[I.ok.glob];exact I.mod.glob.keeps I.bk) n h) d
theorem Gx{E:xB->x0->Prop}{d:St}{H:Hp}{x:Str}{u:xB}{pos:Pos}{Q:xB->x0->Prop}(I:Inv X vA d H s)(n:Gl X x)(z:X.mg x=uj)(y:xL x=uz u)(h:Q u s)
  (i:x≠"__name__":=by decide) (B:(x==("__debug__":Str))=uv:=by decide):vW (xU X.prog X.w) X.A (eval (.Name x pos) X.env) Q E s:=by
 obtain⟨F,j,q⟩:=I.mod.blt;exact Calls.Name_function_global I.ok.kind n (Calls.loadGlobal_builtin (by rw[I.ok.glob];exact I.mod.glob.keeps I.bk) z (by rw[I.ok.blt];exact j.keeps I.bk) ((q x i).trans y) h) B
theorem Z0(i:Gl X x)(j:X.mg x=uz u)(r:RelV v u)(d:(x==("__debug__":Str))=uv:=by decide):PE X (.Name x pos) (tC v):=
 λ_ _ _ H _ I h=>K6 I i j ⟨v,H,I,r,h⟩ d
theorem ZKc{x:Str}{v:V}{u:xB}{pos:Pos}(i:Gl X x)(n:X.mg x=uj)(j:xL x=uz u)(r:RelV v u)(d:x≠"__name__":=by decide)(q:(x==("__debug__":Str))=uv:=by decide):PE X (.Name x pos) (tC v):=
 λ_ _ _ H _ I h=>Gx I i n j ⟨v,H,I,r,h⟩ d q
variable{a b:xz}{ta tb:TE}{pos:Pos}
noncomputable def tB(t:TE):TT:=λσ H Q=>t σ H λx H1=>∃c,x=.bl c/\Q c H1
theorem ZM5{e:xz}{t:TE}(h:PE X e t)(J:∀i,isTrue e X.env i=(do let v<-i;standAt e.pos;holding [v] (truthy v)):=by intro _;rfl):PT X e (tB t):=by intro j s y H Q I hw;refine isTrue_plain (thn (h j s y H _ I hw) λv L ⟨x,n,B,F,z⟩=>?_) (J _);obtain⟨d,rfl,q⟩:=z;cases F;exact v6 ⟨n,B,q⟩
variable{tA tB':TT}{rest:List xz}
noncomputable def tAnd(t u:TT):TT:=λσ H Q=>t σ H λc H1=>if c=ux then u σ H1 Q else Q uv H1
noncomputable def tOr(t u:TT):TT:=λσ H Q=>t σ H λc H1=>if c=ux then Q ux H1 else u σ H1 Q
noncomputable def tNot(t:TT):TT:=λσ H Q=>t σ H λc H1=>Q (!c) H1
theorem pw_and1(j:PT X a tA):PW X (.BoolOp .And [a] pos) tA:=by
 intro n d s i H Q I h;refine isTrue_and (thn (j d s i H Q I h) λc q e=>?_);cases c with
 |true=>exact isTrue_and_nil e
 |false=>exact e
theorem pw_or1(j:PT X a tA):PW X (.BoolOp .Or [a] pos) tA:=by
 intro n d s i H Q I h;refine isTrue_or (thn (j d s i H Q I h) λc q e=>?_);cases c with
 |false=>exact isTrue_or_nil e
 |true=>exact e
theorem pw_and(z:PT X a tA)(y:PW X (.BoolOp .And (b::rest) pos) tB'):PW X (.BoolOp .And (a::b::rest) pos) (tAnd tA tB'):=by
 intro B d s j H Q I h;refine isTrue_and (thn (z d s j H _ I h) λc F ⟨i,q,n⟩=>?_);cases c with
 |true=>exact y B d F j i Q q n
 |false=>exact⟨i,q,n⟩
theorem pw_or(z:PT X a tA)(y:PW X (.BoolOp .Or (b::rest) pos) tB'):PW X (.BoolOp .Or (a::b::rest) pos) (tOr tA tB'):=by
 intro B d s j H Q I h;refine isTrue_or (thn (z d s j H _ I h) λc F ⟨i,q,n⟩=>?_);cases c with
 |true=>exact⟨i,q,n⟩
 |false=>exact y B d F j i Q q n
theorem ZNk(n:PT X a tA):PT X (.UnaryOp .Not a pos) (tNot tA):=by intro d s j H Q I h;exact isTrue_not (n d s j H (λc i=>Q (!c) i) I h)
noncomputable def ZRL(ta tb:TE):TE:=λσ H Q=>ta σ H λx H1=>∃c,x=.bl c/\if c=ux then tb σ H1 Q else Q (.bl uv) H1
noncomputable def tOrV(ta tb:TE):TE:=λσ H Q=>ta σ H λx H1=>∃c,x=.bl c/\if c=ux then Q (.bl ux) H1 else tb σ H1 Q
noncomputable def ZLd(ta:TE):TE:=λσ H Q=>ta σ H λx H1=>∃c,x=.bl c/\Q (.bl (!c)) H1
theorem ZMu{op}(h:PE X a t):PE X (.BoolOp op [a] pos) t:=λd s i H Q I hw=>BoolOp_one (h d s i H Q I hw)
theorem ZK9(B:PE X a ta)(y:PE X (.BoolOp .And (b::rest) pos) tb):PE X (.BoolOp .And (a::b::rest) pos) (ZRL ta tb):=by
 intro d s n H Q I h;refine BoolOp_and (thn (B d s n H _ I h) λv F ⟨x,j,q,z,i⟩=>?_);obtain⟨c,rfl,i⟩:=i;cases z;refine v6 ?_;cases c with
 |true=>exact y d F n j Q q i
 |false=>exact⟨.bl uv,j,q,rfl,i⟩
theorem ZUr(B:PE X a ta)(y:PE X (.BoolOp .Or (b::rest) pos) tb):PE X (.BoolOp .Or (a::b::rest) pos) (tOrV ta tb):=by
 intro d s n H Q I h;refine BoolOp_or (thn (B d s n H _ I h) λv F ⟨x,j,q,z,i⟩=>?_);obtain⟨c,rfl,i⟩:=i;cases z;refine v6 ?_;cases c with
 |false=>exact y d F n j Q q i
 |true=>exact⟨.bl ux,j,q,rfl,i⟩
theorem ZVb(z:PE X a ta):PE X (.UnaryOp .Not a pos) (ZLd ta):=by intro d s n H Q I h;refine UnaryOp_ (thn (z d s n H _ I h) λv B ⟨x,j,q,y,i⟩=>?_);obtain⟨c,rfl,i⟩:=i;cases y;exact not_of (v6 ⟨.bl (!c),j,q,rfl,i⟩)
noncomputable def tIf(t:TT)(ta tb:TE):TE:=λσ H Q=>t σ H λc H1=>if c=ux then ta σ H1 Q else tb σ H1 Q
theorem ZRs{c:xz}(J:PT X c tA)(F:PE X a ta)(B:PE X b tb):PE X (.IfExp c a b pos) (tIf tA ta tb):=by
 intro i s j H Q I h;refine wpAny_IfExp (thn (J i s j H _ I h) λd z ⟨n,y,q⟩=>?_);cases d with
 |true=>exact F i z j n Q y q
 |false=>exact B i z j n Q y q
end
def SqL(K:za)(H:Hp)(a:xY)(xs:List V):Prop:=
 Rd H a (.lst xs)∨
  ∃(o:Obj)(its:Array xB)(n:Nat),K.lookup a=uz o/\o.cls=.type "list"/\o.dict=uj/\o.data=.seq its n/\its.size<=sizeLine/\Vals xs its.toList
def SqT(K:za)(H:Hp)(a:xY)(xs:List V):Prop:=
 Rd H a (.tup xs)∨
  ∃(o:Obj)(its:Array xB)(n:Nat),K.lookup a=uz o/\o.cls=.type "tuple"/\o.data=.seq its n/\its.size<=sizeLine/\Vals xs its.toList
noncomputable def absV:xB->Option V
 |.none=>uz .non
 |.bool b=>uz (.bl b)
 |.int i _=>uz (.int i)
 |.str x _=>uz (.str x)
 |.bytes b _=>uz (.byt b)
 |.float b _=>uz (.flt b)
 |.ref a=>uz (.ref a)
 |.type n=>uz (.ty n)
 |_=>uj
theorem RelV.abs(r:RelV x u):absV u=uz x:=by
 cases x with
 |non=>cases r;rfl
 |bl _=>cases r;rfl
 |int _=>obtain⟨t,rfl⟩:=r;rfl
 |str _=>obtain⟨t,rfl⟩:=r;rfl
 |byt _=>obtain⟨t,rfl⟩:=r;rfl
 |flt _=>obtain⟨t,rfl⟩:=r;rfl
 |ref _=>cases r;rfl
 |ty _=>cases r;rfl
theorem RelV.inj(r:RelV x u)(q:RelV y u):x=y:=Option.some.inj (r.abs.symm.trans q.abs)
theorem Vals.inj:∀{xs ys:List V}{us:List xB},Vals xs us->Vals ys us->xs=ys
 |_,_,_,.nil,.nil=>rfl
 |_,_,_,.cons r t,.cons i d=>by rw[r.inj i,Vals.inj t d]
section
variable{X:Cx}{vA:List (xY×Obj)}{σ:St}{H:Hp}{s:x0}{a:xY}{xs ys:List V}
theorem SqL.of{K:za}(h:H a=uz (.lst xs)):SqL K H a xs:=.inl (.inl h)
theorem SqT.of{K:za}(h:H a=uz (.tup xs)):SqT K H a xs:=.inl (.inl h)
theorem Inv.list(I:Inv X vA σ H s)(h:SqL X.K H a xs):∃its:List xB,Vals xs its/\PlainL s.heap a its.toArray/\xs.length<=sizeLine:=by
 rcases h with h|⟨o,its,n,hk,j,d,i,q,r⟩
 .obtain⟨z,its,n,r,e⟩:=h.ok I.hok;exact⟨its,r,⟨_,n,e,rfl,rfl,rfl⟩,z⟩
 .refine⟨its.toList,r,⟨o,n,I.kIn a o hk,j,d,by simpa using i⟩,?_⟩;have e:=r.length;simp only[qB]at e;lia
theorem Inv.tuple(I:Inv X vA σ H s)(h:SqT X.K H a xs):∃its:List xB,Vals xs its/\IsTup s.heap a its.toArray/\xs.length<=sizeLine:=by
 rcases h with h|⟨o,its,n,hk,i,d,j,r⟩
 .obtain⟨z,its,r,p⟩:=h.ok I.hok;exact⟨its,r,p,z⟩
 .refine⟨its.toList,r,⟨o,I.kIn a o hk,i,n,by simpa using d⟩,?_⟩;have e:=r.length;simp only[qB]at e;lia
theorem Inv.ZCd(I:Inv X vA σ H s)(h:SqL X.K H a xs)(h':SqL X.K H a ys):xs=ys:=by
 obtain⟨j,r,⟨o,n,e,_,_,d⟩,_⟩:=I.list h;obtain⟨i,z,⟨J,F,q,_,_,y⟩,_⟩:=I.list h';rw[e]at q;cases q;rw[d]at y;injection y with B _
 have:j=i:=by simpa using congrArg Array.toList B
 subst this;exact r.inj z
theorem Inv.ZBY(I:Inv X vA σ H s)(h:SqT X.K H a xs)(h':SqT X.K H a ys):xs=ys:=by
 obtain⟨j,r,⟨o,e,_,n,d⟩,_⟩:=I.tuple h;obtain⟨i,z,⟨J,q,_,F,y⟩,_⟩:=I.tuple h';rw[e]at q;cases q;rw[d]at y;injection y with B _
 have:j=i:=by simpa using congrArg Array.toList B
 subst this;exact r.inj z
end
noncomputable abbrev Cx.wish(X:Cx)(E:xB->x0->Prop):Cx:={X with xe:=E}
noncomputable abbrev Cx.nox(X:Cx):Cx:=X.wish λ_ _=>False
theorem Cx.Ok.wish{X:Cx}(ok:X.Ok)(E:xB->x0->Prop):(X.wish E).Ok:=
 ⟨ok.mod,ok.kind,ok.glob,ok.blt,ok.above,ok.inj,ok.has,ok.cab,ok.hd,ok.frames,ok.stk,ok.exf,ok.bs,ok.bsz,ok.noex,ok.exfs,ok.funs,ok.frf⟩
theorem Cx.Ok.unwish{X:Cx}{E:xB->x0->Prop}(ok:(X.wish E).Ok):X.Ok:=
 ⟨ok.mod,ok.kind,ok.glob,ok.blt,ok.above,ok.inj,ok.has,ok.cab,ok.hd,ok.frames,ok.stk,ok.exf,ok.bs,ok.bsz,ok.noex,ok.exfs,ok.funs,ok.frf⟩
section
variable{X:Cx}{vA:List (xY×Obj)}{σ:St}{H:Hp}{s:x0}{E:xB->x0->Prop}
theorem Inv.wish(I:Inv X vA σ H s)(E:xB->x0->Prop):Inv (X.wish E) vA σ H s:=⟨I.ok.wish E,I.os,I.bare,I.base,I.loc,I.cell,I.free,I.Fj,I.pin,I.hok,I.len⟩
theorem Inv.unwish(I:Inv (X.wish E) vA σ H s):Inv X vA σ H s:=⟨I.ok.unwish,I.os,I.bare,I.base,I.loc,I.cell,I.free,I.Fj,I.pin,I.hok,I.len⟩
theorem SP.unwish(h:SP (X.wish E) vA D f s'):SP X vA D f s':=by
 cases f with
 |next=>obtain⟨d,i,I,q⟩:=h;exact⟨d,i,I.unwish,q⟩
 |brk=>obtain⟨d,i,I,q⟩:=h;exact⟨d,i,I.unwish,q⟩
 |cont=>obtain⟨d,i,I,q⟩:=h;exact⟨d,i,I.unwish,q⟩
 |ret u=>obtain⟨v,d,i,I,r,q⟩:=h;exact⟨v,d,i,I.unwish,r,q⟩
theorem PSs.nox{st:List xA}{t:TS}(h:PSs X.nox st t):PSs X st t:=λd s i H D I hw=>
 vv (h d s i H D (I.wish _) hw) (λ_ _ q=>q.unwish) λ_ _ z=>False.elim z
end
section
variable{X:Cx}{st:xA}{rest:List xA}{t u:TS}{e:xz}{te:TE}{pos:Pos}
noncomputable def ZRk:TS:=λD σ H=>D.nx σ H
noncomputable def tSeq(t u:TS):TS:=λD σ H=>t {D with nx:=u D} σ H
theorem ZOk:PSs X [] ZRk:=λ_ _ d H _ I h=>wpAny_execs_nil ⟨d,H,I,h⟩
theorem ZH9(y:PS X st t)(B:PSs X rest u):PSs X (st::rest) (tSeq t u):=by
 intro d s j H D I h;refine wpAny_execs_cons (thn (y d s j H {D with nx:=u D} I h) λf F q=>?_);cases f with
 |next=>
  obtain⟨i,n,z,q⟩:=q;exact B d F i n D z q
 |ret v=>exact q
 |brk=>exact q
 |cont=>exact q
theorem ZD2(j:PS X st t):PSs X [st] t:=by
 intro d s i H D I h;refine wpAny_execs_cons (thn (j d s i H D I h) λf n q=>?_);cases f with
 |next=>exact wpAny_execs_nil q
 |ret v=>exact q
 |brk=>exact q
 |cont=>exact q
theorem Inv.quiet{d:St}{H:Hp}(I:Inv X vA d H s):interactive X.env=uv:=by simp[interactive,I.ok.kind]
noncomputable def ZSj(te:TE):TS:=λD σ H=>te σ H λ_ H1=>D.nx σ H1
theorem ZD0(z:PE X e te)(y:swapsWith e uj pos.line X.env=pure uv:=by rfl):PS X (.Expr e pos) (ZSj te):=by intro d s i H D I h;exact wpAny_Expr_any (thn (z d s i H _ I h) λv F ⟨x,j,q,B,n⟩=>⟨i,j,q,n⟩) I.quiet y
noncomputable def tRet(te:TE):TS:=λD σ H=>te σ H D.rt
theorem ZMD(z:PE X e te):PS X (.Return (uz e) pos) (tRet te):=by intro d s i H D I h;exact wpAny_Return_some (thn (z d s i H _ I h) λv B ⟨x,j,q,y,n⟩=>⟨x,i,j,q,y,n⟩)
noncomputable def tIfS(c:TT)(t u:TS):TS:=λD σ H=>c σ H λb H1=>if b=ux then t D σ H1 else u D σ H1
theorem ZPH{c:xz}{a b:List xA}{q:TT}(L:PT X c q)(J:PSs X a t)(F:PSs X b u):PS X (.If c a b pos) (tIfS q t u):=by
 intro i s j H D I h;refine wpAny_If (thn (L i s j H _ I h) λd B ⟨n,z,y⟩=>?_);cases d with
 |true=>exact J i B j n D z y
 |false=>exact F i B j n D z y
end
noncomputable abbrev TG:=V->St->Hp->(St->Hp->Prop)->Prop
noncomputable abbrev TGs:=List V->St->Hp->(St->Hp->Prop)->Prop
def PG(X:Cx)(target:xz)(t:TG):Prop:=
 ∀(vA:List (xY×Obj))(s:x0)(σ:St)(H:Hp)(v:V)(u:xB)(Q:St->Hp->Prop),Inv X vA σ H s->RelV v u->t v σ H Q->
  vW (xU X.prog X.w) X.A (assign target X.env u) (λ_ s'=>∃σ' H',Inv X vA σ' H' s'/\Q σ' H') X.xe s
def PGs(X:Cx)(ts:List xz)(t:TGs):Prop:=
 ∀(vA:List (xY×Obj))(s:x0)(σ:St)(H:Hp)(vs:List V)(us:List xB)(Q:St->Hp->Prop),Inv X vA σ H s->Vals vs us->t vs σ H Q->
  vW (xU X.prog X.w) X.A (assignInOrder ((xD ts X.env).map (·.2)) us) (λ_ s'=>∃σ' H',Inv X vA σ' H' s'/\Q σ' H') X.xe s
noncomputable abbrev TSet:=V->V->V->Hp->(Hp->Prop)->Prop
def PSet(X:Cx)(t:TSet):Prop:=
 ∀(vA:List (xY×Obj))(s:x0)(σ:St)(H:Hp)(o i v:V)(ov iv u:xB)(Q:Hp->Prop),Inv X vA σ H s->RelV o ov->RelV i iv->RelV v u->t o i v H Q->
  vW (xU X.prog X.w) X.A (setItem ov iv u) (λ_ s'=>∃H',Inv X vA σ H' s'/\Q H') X.xe s
noncomputable abbrev TIp:=V->V->Hp->VK->Prop
def PIp(X:Cx)(op:Operator)(t:TIp):Prop:=
 ∀(vA:List (xY×Obj))(s:x0)(σ:St)(H:Hp)(x y:V)(v u:xB)(Q:VK),Inv X vA σ H s->RelV x v->RelV y u->t x y H Q->
  vW (xU X.prog X.w) X.A (inplaceOp op v u) (EP X vA σ Q) X.xe s
section
variable{X:Cx}{pos:Pos}
noncomputable def ZDF(i:Nat):TG:=λv σ H Q=>Q (σ.set i (uz v)) H
theorem ZPU(j:X.N.Nodup)(q:X.N[i]?=uz x)(z:Loc X.env.scope x)(y:X.fn x=ux∨X.env.scope.names.lookup x=uz .local:=by first|exact .inl rfl|exact .inr rfl|assumption):PG X (.Name x pos) (ZDF i):=by intro d s B H v u Q I r h;exact wpAny_assign_Name (Qu I j q z r (λF n=>⟨_,H,n,h⟩) y)
noncomputable def gNil:TGs:=λvs σ H Q=>vs=[]/\Q σ H
noncomputable def ZRB(t:TG)(u:TGs):TGs:=λvs σ H Q=>∃v r,vs=v::r/\t v σ H λσ' H'=>u r σ' H' Q
theorem ZOf:PGs X [] gNil:=by intro d s i H n j Q I r h;obtain⟨e,h⟩:=h;subst e;cases r;exact assignInOrder_nil ⟨i,H,I,h⟩
theorem ZMB{e:xz}{es:List xz}{t:TG}{u:TGs}(z:PG X e t)(L:PGs X es u)
  (J:(xD (e::es) X.env).map (·.2)=assign e X.env::(xD es X.env).map (·.2):=by rfl):PGs X (e::es) (ZRB t u):=by
 intro d s n H O N Q I r h;obtain⟨v,S,B,h⟩:=h;subst B;cases r with
 |cons r F=>
  rw[J];refine assignInOrder_cons (thn (z d s n H _ _ _ I r h) λ_ M ⟨i,j,y,q⟩=>?_);exact L d M i j _ _ Q y F q
noncomputable def gTup(K:za)(n:Nat)(t:TGs):TG:=λv σ H Q=>∃a xs,v=.ref a/\SqT K H a xs/\xs.length=n/\t xs σ H Q
theorem ZOj{es:List xz}{k:Nat}{t:TGs}{n:Nat}(L:X.calm=ux)(h:PGs X es t)
  (z:(xD es X.env).length=n:=by rfl) (i:(xD es X.env).findIdx? (·.1)=uj:=by rfl):PG X (.Tuple es k pos) (gTup X.K n t):=by
 intro d s y H v u Q I r hw;obtain⟨a,M,F,B,q,hw⟩:=hw;subst F;cases r;obtain⟨J,j,N,S⟩:=I.tuple B;refine assign_Tuple_tuple (I.ok.hd L) N (by simp[z,<-q,j.length]) i λU O=>?_
 exact h d _ y H M _ Q (I.kept λb o e=>O b o (z8 (zz e)) e) (by simpa using j) hw
noncomputable def gSub(to ti:TE)(t:TSet):TG:=λv σ H Q=>to σ H λo H1=>ti σ H1 λi H2=>t o i v H2 λH3=>Q σ H3
theorem ZOn{o i:xz}{n ti:TE}{t:TSet}(ho:PE X o n)(Y:PE X i ti)(M:PSet X t)
  (ha:∀v,assign (.Subscript o i pos) X.env v=(do
   let ov<-holding [v] (eval o X.env);let iv<-holding [v,ov] (eval i X.env)
   standAt pos
   holding [v,ov,iv] (setItem ov iv v)
   release [v,ov,iv] []):=by intro _;rfl):PG X (.Subscript o i pos) (gSub n ti t):=by
 intro d s j H v u Q I r h;rw[ha];refine vY (vx (thn (ho d s j H _ I h) λov O ⟨x,q,L,Z,z⟩=>?_));refine vY (vx (thn (Y d O j q _ L z) λiv N ⟨y,W,I2,F,J⟩=>?_));refine vY (wpAny_standAt (vY (vx (thn (M d N j W x y v ov iv u _ I2 Z F r J) λ_ s3 ⟨B,U,S⟩=>?_))));exact wpAny_release ⟨j,B,U,S⟩
noncomputable def Z2(te:TE)(g:TG):TS:=λD σ H=>te σ H λx H1=>g x σ H1 D.nx
theorem ZRZ{e:xz}{j:TE}{g:TG}(N:PE X e j)(F:PG X tg g)(J:swapsWithSole [tg] e pos.line X.env=pure uv:=by rfl)(hw:swappedStores [tg] e X.env=pure uj:=by rfl)
  (B:(xD [tg] X.env).map (·.2)=[assign tg X.env]:=by rfl):PS X (.Assign [tg] e pos) (Z2 j g):=by
 intro d s i H D I h;refine wpAny_Assign_stores (thn (N d s i H _ I h) λv M ⟨x,n,z,L,y⟩=>?_) J hw;rw[B];exact thn (F d M i n x v _ z L y) λ_ O q=>q
theorem ZQ4{i:Nat}{x:Str}{e:xz}{n:TE}{d:Pos}(J:X.N.Nodup)(M:X.N[i]?=uz x)(Y:Loc X.env.scope x)(W:PE X e n)(L:swapsWith e (uz (.Name x d)) pos.line X.env=pure uv:=by rfl)(U:X.fn x=ux∨X.env.scope.names.lookup x=uz .local:=by first|exact .inl rfl|exact .inr rfl|assumption):
  PS X (.Assign [.Name x d] e pos) (Z2 n (ZDF i)):=by
 intro j s z H D I h;refine wpAny_Assign_Name (thn (W j s z H _ I h) λv s1 ⟨y,q,F,O,B⟩=>?_) L;exact Qu F J M Y O (λZ S=>⟨_,q,S,B⟩) U
noncomputable def tAug(i:Nat)(te:TE)(ti:TIp):TS:=λD σ H=>∃x,σ[i]?=uz (uz x)/\te σ H λy H1=>ti x y H1 λz H2=>D.nx (σ.set i (uz z)) H2
theorem ZKW{i:Nat}{x:Str}{e:xz}{S:TE}{op:Operator}{ti:TIp}{n:Pos}(hN:X.N.Nodup)(O:X.N[i]?=uz x)(J:Loc X.env.scope x)(he:PE X e S)(ho:PIp X op ti)(hf:X.fn x=ux∨X.env.scope.names.lookup x=uz .local:=by first|exact .inl rfl|exact .inr rfl|assumption):
  PS X (.AugAssign (.Name x n) op e pos) (tAug i S ti):=by
 intro d s M H D I h;obtain⟨v,e1,h⟩:=h;obtain⟨m,Y,hl⟩:=I.loc;have F:Vis X.env.scope x:=by rcases J with k|k;exact .inl k;exact .inr (.inl k)
 obtain⟨u,r,l⟩:=hl i x v O e1 F;refine wpAny_AugAssign_Name ?_
 have L:vW (xU X.prog X.w) X.A (eval e X.env) (λw q=>vW (xU X.prog X.w) X.A (inplaceOp op u w) (λr B=>vW (xU X.prog X.w) X.A (storeName X.env x r) (λ_=>SP X d D .next) X.xe B) X.xe q) X.xe s:=by
  refine thn (he d s M H _ I h) λw s1 ⟨y,U,I1,r1,W⟩=>?_
  refine thn (ho d s1 M U v y u w _ I1 r r1 W) λz s2 ⟨zv,H2,I2,Z,q2⟩=>?_
  exact Qu I2 hN O J Z (λs3 I3=>⟨_,H2,I3,q2⟩) hf
 rcases l with⟨hk,hm⟩|⟨hk,c,hc,j⟩
 .exact wpAny_loadName_local I.ok.kind hk Y hm L
 .rcases hk with hk|hk
  .exact wpAny_loadName_cell I.ok.kind hk hc j L
  .rcases J with k|k
   .have:X.env.scope.names.lookup x=uz .free:=hk;rw[k]at this;cases this
   .have:X.env.scope.names.lookup x=uz .free:=hk;rw[k]at this;cases this
noncomputable def ipI(f:Int->Int->Int):TIp:=λx y H Q=>∃i j,x=.int i/\y=.int j/\Q (.int (f i j)) H
theorem ZUD:PIp X .Add (ipI λi j=>i+j):=by intro d s J H x y v u Q I z B h;obtain⟨i,j,n,F,q⟩:=h;subst n;subst F;obtain⟨t,rfl⟩:=z;obtain⟨L,rfl⟩:=B;exact iadd_int ⟨.int _,H,I.tok _,⟨_,rfl⟩,q⟩
theorem ZM8:PIp X .Sub (ipI λi j=>i-j):=by intro d s J H x y v u Q I z B h;obtain⟨i,j,n,F,q⟩:=h;subst n;subst F;obtain⟨t,rfl⟩:=z;obtain⟨L,rfl⟩:=B;exact isub_int ⟨.int _,H,I.tok _,⟨_,rfl⟩,q⟩
end
section
variable{X:Cx}{pos:Pos}
def ZOD(c:TT)(tb:TS):TS:=λD σ H=>∃W:Nat->St->Hp->Prop,(∃m,W m σ H)/\∀m σ H,W m σ H->
 c σ H λb H1=>if b=ux then∃N:St->Hp->Prop,(∀σ' H',N σ' H'->∃m',m'<m/\W m' σ' H')/\tb {D with nx:=N,ct:=N,bk:=D.nx} σ H1 else D.nx σ H1
theorem ZSR{c:xz}{q:List xA}{Z:TT}{tb:TS}(hp:PassesOwn (xU X.prog X.w) X.A X.env X.xe)(hc:PT X c Z)(hb:PSs X q tb):PS X (.While c q [] pos) (ZOD Z tb):=by
 intro i s σ H D I h;obtain⟨W,⟨m0,w0⟩,B⟩:=h;refine wpAny_While (codeAny_whileLoop (λn s'=>∃z H',Inv X i z H' s'/\W n z H') ?_ m0 ⟨σ,H,I,w0⟩);rintro n s1 ⟨j,Y,I1,w1⟩;refine v0 hp (thn (hc i s1 j Y _ I1 (B n j Y w1)) λb s2 ⟨H2,I2,F⟩=>?_);cases b with
 | true=>
  obtain⟨N,hN,F⟩:=F;rw[if_pos rfl];refine v0 hp (thn (hb i s2 j H2 _ I2 F) λf s3 J=>?_);cases f with
  |next=>
   obtain⟨d,y,M,L⟩:=J;obtain⟨S,O,U⟩:=hN d y L;exact⟨S,O,d,y,M,U⟩
  |cont=>
   obtain⟨d,y,M,L⟩:=J;obtain⟨S,O,U⟩:=hN d y L;exact⟨S,O,d,y,M,U⟩
  |brk=>exact J
  |ret v=>exact J
 |false=>
  rw[if_neg zw];exact wpAny_execs_nil ⟨j,H2,I2,F⟩
end
structure It where
 go:Nat->Hp->Prop
 yld:Nat->Hp->V->Hp->Prop
 stop:Nat->Hp->Prop
def FpOk(X:Cx)(vA:List (xY×Obj))(H:Hp)(b:xY):Prop:=
 H b=uj/\b≠X.env.locals/\b∉X.fs/\(b∈X.ex∨X.s₀.heap.objs.size<=b)/\(∀x c,X.env.cells.lookup x=uz c->c≠b)/\∀p∈X.pn++vA,p.1≠b
theorem Inv.Hh{X:Cx}{i:St}{H H':Hp}{b:xY}(I:Inv X vA i H s)(d:s.heap.objs.size<=b)(j:H' b=uj):FpOk X vA H' b:=by
 refine⟨j,jV (zq I.lt d),I.nofs d,.inr (z0 I.sz d),λx c e z=>?_,λp hp z=>?_⟩
 .obtain⟨v,q⟩:=I.cell x c e;exact absurd (zq q.lt (by rw[z];exact d)) (qZ _)
 .exact absurd (zq (zz (I.pin p hp).1) (by rw[z];exact d)) (qZ _)
structure Turn (P:xk) (w:xC) (K:za) (tg:xz) (J:It) (fp:List xY) (it:xY) (tn:Nat->Heap->Prop):Prop where
 mem:it∈fp
 obj:∀i h,tn i h->∀b∈fp,∃o,h.get? b=uz o/\∀v,o.data≠ .cell v
 keep:∀i h h',tn i h->(∀b∈fp,∀o,h.get? b=uz o->h'.get? b=uz o)->tn i h'
 item:∀(X:Cx),X.prog=P->X.w=w->X.K=K->X.calm=ux->∀(i:Nat)(vA:List (xY×Obj))(s:x0)(σ:St)(H:Hp)(E:xB->x0->Prop),Inv X vA σ H s->(∀b∈fp,FpOk X vA H b)->tn i s.heap->J.go i H->
  vW (xU P w) X.A (pyNext (.ref it)) (λr s1=>∃u,r=uz u/\
   vW (xU P w) X.A (xS tg (.ref it) u) (λ_ s2=>∃x H',Inv X vA σ H' s2/\RelV x u/\J.yld i H x H'/\tn (i+1) s2.heap/\∀b∈fp,H' b=uj) E s1) E s
 done:∀(X:Cx),X.prog=P->X.w=w->X.K=K->X.calm=ux->∀(i:Nat)(vA:List (xY×Obj))(s:x0)(σ:St)(H:Hp)(E:xB->x0->Prop),Inv X vA σ H s->(∀b∈fp,FpOk X vA H b)->tn i s.heap->J.stop i H->
  vW (xU P w) X.A (pyNext (.ref it)) (λr s1=>r=uj/\Inv X vA σ H s1) E s
 self:∀(A:xq)(i:Nat)(s:x0)(Q:xB->x0->Prop)(E:xB->x0->Prop),tn i s.heap->Q (.ref it) s->vW (xU P w) A (pyIter (.ref it)) Q E s
noncomputable abbrev TI:=St->Hp->(It->Hp->Prop)->Prop
def PIE(X:Cx)(vA:List (xY×Obj))(σ:St)(tg:xz)(R:It->Hp->Prop)(itv:xB)(s2:x0):Prop:=
 ∃(it:xY)(fp:List xY)(tn:Nat->Heap->Prop)(J:It)(H':Hp),itv=.ref it/\Inv X vA σ H' s2/\Turn X.prog X.w X.K tg J fp it tn/\tn 0 s2.heap/\(∀b∈fp,FpOk X vA H' b)/\R J H'
def PI(X:Cx)(tg iter:xz)(wi:TI):Prop:=
 ∀(vA:List (xY×Obj))(s:x0)(σ:St)(H:Hp)(R:It->Hp->Prop),Inv X vA σ H s->wi σ H R->
  vW (xU X.prog X.w) X.A (eval iter X.env) (λv s1=>vW (xU X.prog X.w) X.A (pyIter v) (PIE X vA σ tg R) X.xe s1) X.xe s
theorem Lz(ho:s.heap.get? it=uz o)(hc:o.cls=.type n)(hd:o.data=.fields vs)
  (hn: ["enumerate","zip","dict_itemiterator","dict_reverseitemiterator","odict_iterator","itertools.zip_longest","itertools.pairwise"].contains n=uv) (hQ:Q () s):vW M A (xS tg (.ref it) u) Q E s:=by
 unfold xS
 cases tg<;>first
  |exact v4 hQ
  | (cases u<;>first
    |exact v4 hQ
    | (
      refine vY (wpAny_load ho ?_);rw[hc,hd];show vW M A (if(["enumerate","zip","dict_itemiterator","dict_reverseitemiterator","odict_iterator","itertools.zip_longest","itertools.pairwise"].contains n&&vs[0]?==uz (vQ _))=ux then _ else _) Q E s;rw[if_neg (by intro h;rw[hn,Bool.false_and]at h;cases h)];exact v4 hQ))
noncomputable def Itl(K:za)(a:xY):It:=
 ⟨λi H=>∃xs x,SqL K H a xs/\xs[i]?=uz x,λi H x H'=>H'=H/\∀xs,SqL K H a xs->xs[i]?=uz x,λi H=>∃xs,SqL K H a xs/\xs.length<=i⟩
noncomputable def Itt(K:za)(a:xY):It:=
 ⟨λi H=>∃xs x,SqT K H a xs/\xs[i]?=uz x,λi H x H'=>H'=H/\∀xs,SqT K H a xs->xs[i]?=uz x,λi H=>∃xs,SqT K H a xs/\xs.length<=i⟩
noncomputable def Itr(lo:Int)(n:Nat):It:=⟨λi _=>i<n,λi H x H'=>H'=H/\x=.int (lo+i),λi _=>n<=i⟩
theorem ZQw{w:xC}{K:za}(a it:xY):Turn P w K tg (Itl K a) [it] it (λi h=>h.IsListIter it a i) where
 mem:=by simp
 obj:=λi h j b n=>by
  have e:b=it:=by simpa using n
  subst e;obtain⟨o,e,c,d⟩:=j;exact⟨o,e,λv z=>by rw[d]at z;cases z⟩
 keep:=λi h h' j k=>j.at λo e=>k it (by simp) o e
 item:=by
  intro X J hw O hc i y s σ H E I B j N;subst J hw O;obtain⟨xs,x,F,hx⟩:=N;obtain⟨Z,S,p,hz⟩:=I.list F;obtain⟨u,hu,ru⟩:=S.get hx;obtain⟨Y,L,f2,U,M,f5⟩:=B it (by simp);refine wpAny_pyNext_list_item j p.isList (by simpa using hu) λh' q sb=>?_
  obtain⟨o,e,c,d⟩:=id q;exact⟨u,rfl,Lz e c d (by decide) ⟨x,H,I.turned (λb o n e=>(sb.2 b n).trans e) Y L U M f5,ru,⟨rfl,λys hy=>by rw[I.ZCd hy F];exact hx⟩,q,λb n=>(B b n).1⟩⟩
 done:=by intro X J hw O hc i y s σ H E I B j N;subst J hw O;obtain⟨xs,F,hx⟩:=N;obtain⟨Z,S,p,hz⟩:=I.list F;obtain⟨Y,L,f2,U,M,f5⟩:=B it (by simp);have hl:=S.length;exact wpAny_pyNext_list_end (I.ok.hd hc) j p.isList (by simp;lia) λh' eb=>⟨rfl,I.turned (λb o n e=>eb b o n e) Y L U M f5⟩
 self:=λ_ _ _ _ _ j h=>wpAny_pyIter_listiter j h
theorem ZM2{w:xC}{K:za}(a it:xY):Turn P w K tg (Itt K a) [it] it (λi h=>h.IsTupleIter it a i) where
 mem:=by simp
 obj:=λi h j b n=>by
  have e:b=it:=by simpa using n
  subst e;obtain⟨o,e,c,d⟩:=j;exact⟨o,e,λv z=>by rw[d]at z;cases z⟩
 keep:=λi h h' j k=>j.at λo e=>k it (by simp) o e
 item:=by
  intro X J hw O hc i y s σ H E I B j N;subst J hw O;obtain⟨xs,x,F,hx⟩:=N;obtain⟨Z,S,p,hz⟩:=I.tuple F;obtain⟨u,hu,ru⟩:=S.get hx;obtain⟨Y,L,f2,U,M,f5⟩:=B it (by simp);refine wpAny_pyNext_tuple_item j (p) (by simpa using hu) λh' q sb=>?_
  obtain⟨o,e,c,d⟩:=id q;exact⟨u,rfl,Lz e c d (by decide) ⟨x,H,I.turned (λb o n e=>(sb.2 b n).trans e) Y L U M f5,ru,⟨rfl,λys hy=>by rw[I.ZBY hy F];exact hx⟩,q,λb n=>(B b n).1⟩⟩
 done:=by intro X J hw O hc i y s σ H E I B j N;subst J hw O;obtain⟨xs,F,hx⟩:=N;obtain⟨Z,S,p,hz⟩:=I.tuple F;obtain⟨Y,L,f2,U,M,f5⟩:=B it (by simp);have hl:=S.length;exact wpAny_pyNext_tuple_end (I.ok.hd hc) j (p) (by simp;lia) λh' eb=>⟨rfl,I.turned (λb o n e=>eb b o n e) Y L U M f5⟩
 self:=λ_ _ _ _ _ j h=>wpAny_pyIter_tupleiter j h
theorem ZNu{w:xC}{K:za}(it:xY)(B:Int)(n:Nat):Turn P w K tg (Itr B n) [it] it (λi h=>IsRangeIter h it (B+(i:Nat)*1) ((n:Int)-(i:Nat)) 1) where
 mem:=by simp
 obj:=λi h d b j=>by
  have e:b=it:=by simpa using j
  subst e;exact⟨_,d,λv z=>by have z':=z;cases z'⟩
 keep:=λi h h' d k=>k it (by simp) _ d
 item:=by
  intro X J hw S O i y s σ H E I F d N;subst J hw S;obtain⟨Y,L,f2,U,M,Z⟩:=F it (by simp);refine(Walks.range (I.ok.hd O) it B 1 n).item i s _ _ N d λv h' tk hv q kk=>?_
  obtain⟨t,rfl⟩:=hv;refine⟨_,rfl,Lz q rfl rfl (by decide) ⟨.int (B+i),H,I.turned (λb o j e=>kk b o (by simpa using j) e) Y L U M Z,⟨t,?_⟩,⟨rfl,rfl⟩,q,λb j=>(F b j).1⟩⟩;rw[Int.mul_one]
 done:=by intro X J hw S O i y s σ H E I F d N;subst J hw S;obtain⟨Y,L,f2,U,M,Z⟩:=F it (by simp);exact wpAny_pyNext_range_end (I.ok.hd O) d (by have:n<=i:=N;lia) λh' eb=>⟨rfl,I.turned (λb o j e=>eb b o j e) Y L U M Z⟩
 self:=λ_ _ _ _ _ d h=>wpAny_pyIter_rangeiter d h
section
variable{X:Cx}{tg:xz}
def ZLV(K:za)(tl:TE):TI:=λσ H R=>tl σ H λx H1=>∃a,x=.ref a/\(∃xs,SqL K H1 a xs)/\R (Itl K a) H1
def iTup(K:za)(tl:TE):TI:=λσ H R=>tl σ H λx H1=>∃a,x=.ref a/\(∃xs,SqT K H1 a xs)/\R (Itt K a) H1
theorem Y6{l:xz}{n:TE}(z:PE X l n):PI X tg l (ZLV X.K n):=by
 intro d s F H R I h;refine thn (z d s F H _ I h) λv j ⟨x,y,i,N,B⟩=>?_
 obtain⟨a,e,⟨U,J⟩,q⟩:=B;subst e;cases N;obtain⟨L,S,p,O⟩:=i.list J;refine wpAny_pyIter_list p.isList ?_;refine⟨j.heap.objs.size,[j.heap.objs.size],_,_,y,rfl,i.kept λb o e=>zQ _ e,ZQw a _,⟨_,zy _ rfl,rfl,rfl⟩,λb M=>?_,q⟩;have e:b=j.heap.objs.size:=by simpa using M
 subst e;exact i.Hh (zY _) (i.hok.fresh (zY _))
theorem ZRD{l:xz}{n:TE}(z:PE X l n):PI X tg l (iTup X.K n):=by
 intro d s F H R I h;refine thn (z d s F H _ I h) λv j ⟨x,y,i,N,B⟩=>?_
 obtain⟨a,e,⟨U,J⟩,q⟩:=B;subst e;cases N;obtain⟨L,S,p,O⟩:=i.tuple J;refine wpAny_pyIter_tuple (p) ?_;refine⟨j.heap.objs.size,[j.heap.objs.size],_,_,y,rfl,i.kept λb o e=>zQ _ e,ZM2 a _,⟨_,zy _ rfl,rfl,rfl⟩,λb M=>?_,q⟩;have e:b=j.heap.objs.size:=by simpa using M
 subst e;exact i.Hh (zY _) (i.hok.fresh (zY _))
theorem ZLU{F:St}{H:Hp}{R:It->Hp->Prop}{E:xB->x0->Prop}{i n:Int}{t u v:Tok}{tk:Nat}(I:Inv X vA F H s)(J: -(2^62)<=i)(M:i<2^62)(O: -(2^62)<=n)(S:n<2^62)
  (q:R (Itr i (n-i).toNat) H):vW (xU X.prog X.w) X.A (pyIter (.ref s.heap.objs.size)) (PIE X vA F tg R) E {s with heap:=s.heap.push {cls:=.type "range",data:=.fields #[.int i t,.int n u,.int 1 v]},toks:=tk}:=by
 refine wpAny_pyIter_range (IsRange.new ..) (small_one J M O S) ?_;have B:Inv X vA F H {s with heap:=s.heap.push {cls:=.type "range",data:=.fields #[.int i t,.int n u,.int 1 v]},toks:=tk}:=I.kept λb o e=>zQ _ e
 refine⟨(s.heap.push {cls:=.type "range",data:=.fields #[.int i t,.int n u,.int 1 v]}).objs.size,[(s.heap.push {cls:=.type "range",data:=.fields #[.int i t,.int n u,.int 1 v]}).objs.size],_,_,H,rfl,
  B.kept λb o e=>zQ _ e,ZNu _ i (n-i).toNat,?_,λb N=>?_,q⟩
 .have L:i+((0:Nat):Int)*1=i:=by simp
  have U:(((n-i).toNat:Nat):Int)-((0:Nat):Int)=Builtin.Range.rangeSize i n 1:=by rw[rangeSize_one];split <;> lia
  rw[L,U];exact zy _ rfl
 .have e:b=(s.heap.push {cls:=.type "range",data:=.fields #[.int i t,.int n u,.int 1 v]}).objs.size:=by simpa using N
  subst e;exact B.Hh (zY _) (B.hok.fresh (zY _))
def ZNG(ta:TA):TI:=λσ H R=>ta σ H λvs H1=>∃j:Int,vs=[.int j]/\ -(2^62)<=j/\j<2^62/\R (Itr 0 j.toNat) H1
theorem ZVB{a:xz}{ta:TA}{p pos:Pos}(z:Gl X "range")(M:X.mg "range"=uj)(L:PA X [a] ta)(F:vX [a] X.env=[(uv,eval a X.env)]:=by rfl):PI X tg (.Call (.Name "range" p) [a] [] pos) (ZNG ta):=by
 intro d s n H R I h;refine Call_ (Gx I z M boot_range (zg (thn (L pos d s n H _ I h) λS W ⟨U,O,y,J,i⟩=>?_) F rfl));obtain⟨j,e,i,N,q⟩:=i;subst e;cases J with
 |cons r B=>
  cases B;obtain⟨t,rfl⟩:=r;exact call_range_1 (ZLU y (by lia) (by lia) i N (by simpa using q))
def tFor(wi:TI)(g:TG)(tb:TS):TS:=λD σ H=>wi σ H λJ H1=>∃W:Nat->Nat->St->Hp->Prop,(∃m,W 0 m σ H1)/\∀i m σ H,W i m σ H->
 (J.stop i H/\D.nx σ H)∨(J.go i H/\∃N:St->Hp->Prop,(∀σ' H',N σ' H'->∃m',m'<m/\W (i+1) m' σ' H')/\∀x H',J.yld i H x H'->g x σ H' λσ2 H2=>tb {D with nx:=N,ct:=N,bk:=D.nx} σ2 H2)
noncomputable def Nq(fp:List xY)(h:Heap):List (xY×Obj):=fp.filterMap λb=>(h.get? b).map λo=>(b,o)
theorem Us(d:b∈fp)(e:h.get? b=uz o):(b,o)∈Nq fp h:=jI.mpr ⟨b,d,by rw[e];rfl⟩
theorem ZEQ(hp:p∈Nq fp h):p.1∈fp/\h.get? p.1=uz p.2:=by
 obtain⟨b,d,e⟩:=jI.mp hp;cases q:h.get? b with
 |none=>rw[q]at e;cases e
 |some o=>
  rw[q]at e;have i:=Option.some.inj e;subst i;exact⟨d,q⟩
theorem Inv.pinned{i:St}{H:Hp}{fp:List xY}(I:Inv X vA i H s)(B:∀b∈fp,FpOk X vA H b)(ho:∀b∈fp,∃o,s.heap.get? b=uz o/\∀v,o.data≠ .cell v):Inv X (vA++Nq fp s.heap) i H s:=
 I.Jl λp hp=>(jE.mp hp).elim (λz=>I.pin p (zP _ z)) λz=>by obtain⟨n,e⟩:=ZEQ z;obtain⟨y,q,F,_⟩:=B p.1 n;obtain⟨o,j,d⟩:=ho p.1 n;rw[e]at j;cases j;exact⟨e,y,q,F,d⟩
theorem Inv.unpinned{pl:List (xY×Obj)}{d:St}{H:Hp}(I:Inv X (vA++pl) d H s):Inv X vA d H s:=I.Jl λp hp=>I.pin p (zP _ (xQ _ hp))
theorem ZR5(hp:PassesOwn (xU X.prog X.w) X.A X.env X.xe)(hc:X.calm=ux)(hi:PI X tg iter wi)(hg:PG X tg g)(B:PSs X body tb)
  (hs:∀x,foldedSetIterable iter X.env x=pure x:=by intro _;rfl):PS X (.For tg iter body [] pos) (tFor wi g tb):=by
 intro q s σ H D I h;refine wpAny_For (thn (hi q s σ H _ I h) λv s1 h1=>thn h1 λitv s2 h2=>?_) hs;obtain⟨it,fp,tn,J,H2,e,I2,T,st2,f2,W,⟨m0,w0⟩,turn⟩:=h2;subst e;have L:∀{S:Hp},(∀b∈fp,S b=uj)->∀b∈fp,FpOk X q S b:=λhn b B=>⟨hn b B,(f2 b B).2⟩
 refine codeAny_forLoop_any (λn s'=>∃i F S,Inv X q F S s'/\tn i s'.heap/\(∀b∈fp,S b=uj)/\W i n F S) ?_ m0 ⟨0,σ,H2,I2,st2,λb B=>(f2 b B).1,w0⟩;rintro n s3 ⟨i,M,H3,I3,st3,fr3,w3⟩;rcases turn i n M H3 w3 with⟨stop,qn⟩|⟨go,N,hN,step⟩
 .refine v0 hp (thn (T.done X rfl rfl rfl hc i q s3 M H3 X.xe I3 (L fr3) st3 stop) λr s4 ⟨hr,I4⟩=>?_);subst hr;exact wpAny_execs_nil ⟨M,H3,I4,qn⟩
 .refine v0 hp (thn (T.item X rfl rfl rfl hc i q s3 M H3 X.xe I3 (L fr3) st3 go) λr s4 ⟨u,hr,h4⟩=>?_);subst hr;refine v0 hp (thn h4 λ_ s5 ⟨x,H5,I5,r5,y5,Y,fr5⟩=>?_);refine v0 hp (thn (hg _ s5 M H5 x u _ (I5.pinned (L fr5) (T.obj _ _ Y)) r5 (step x H5 y5)) λ_ s6 ⟨σ6,H6,I6,q6⟩=>?_);refine v0 hp (thn (B _ s6 σ6 H6 _ I6 q6) λf s7 U=>?_);have O:∀{j:St}{y:Hp},Inv X (q++Nq fp s5.heap) j y s7->N j y->∃m,m<n/\∃i F S,Inv X q F S s7/\tn i s7.heap/\(∀b∈fp,S b=uj)/\W i m F S:=λ{j y}z Z=>by
   obtain⟨m',hm,w7⟩:=hN j y Z;refine⟨m',hm,i+1,j,y,z.unpinned,T.keep _ _ _ Y λb B o e=>(z.pin (b,o) (zP _ (zP _ (Us B e)))).1,λb B=>?_,w7⟩;obtain⟨o,e,d⟩:=T.obj _ _ Y b B;exact(z.pin (b,o) (zP _ (zP _ (Us B e)))).2.1
  cases f with
  |next=>obtain⟨j,y,z,Z⟩:=U;exact O z Z
  |cont=>obtain⟨j,y,z,Z⟩:=U;exact O z Z
  |brk=>obtain⟨j,y,z,U⟩:=U;exact⟨j,y,z.unpinned,U⟩
  |ret v=>obtain⟨x7,j,y,z,r7,U⟩:=U;exact⟨x7,j,y,z.unpinned,r7,U⟩
end
noncomputable abbrev R2:=V->V->Hp->VK->Prop
def OpR(X:Cx)(f:xB->xB->Sem xB)(r:R2):Prop:=
 ∀(vA:List (xY×Obj))(s:x0)(σ:St)(H:Hp)(x y:V)(v u:xB)(Q:VK),Inv X vA σ H s->RelV x v->RelV y u->r x y H Q->
  vW (xU X.prog X.w) X.A (f v u) (EP X vA σ Q) X.xe s
def UnR(X:Cx)(f:xB->Sem xB)(r:V->Hp->VK->Prop):Prop:=
 ∀(vA:List (xY×Obj))(s:x0)(σ:St)(H:Hp)(x:V)(v:xB)(Q:VK),Inv X vA σ H s->RelV x v->r x H Q->
  vW (xU X.prog X.w) X.A (f v) (EP X vA σ Q) X.xe s
def CallR(X:Cx)(f:xB)(r:List V->Hp->VK->Prop):Prop:=
 ∀(vA:List (xY×Obj))(s:x0)(σ:St)(H:Hp)(xs:List V)(us:List xB)(Q:VK),Inv X vA σ H s->Vals xs us->r xs H Q->
  vW (xU X.prog X.w) X.A (call f us) (EP X vA σ Q) X.xe s
noncomputable def tOp(r:R2)(ta tb:TE):TE:=λσ H Q=>ta σ H λx H1=>tb σ H1 λy H2=>r x y H2 Q
noncomputable def tUn(r:V->Hp->VK->Prop)(ta:TE):TE:=λσ H Q=>ta σ H λx H1=>r x H1 Q
noncomputable def rI(C:Int->Int->Prop)(g:Int->Int->V):R2:=λx y H Q=>∃i j,x=.int i/\y=.int j/\C i j/\Q (g i j) H
noncomputable def rI0(g:Int->Int->V):R2:=λx y H Q=>∃i j,x=.int i/\y=.int j/\Q (g i j) H
def rU(g:Int->V):V->Hp->VK->Prop:=λx H Q=>∃i,x=.int i/\Q (g i) H
section
variable{X:Cx}{a b c:xz}{ta tb tc:TE}{pos:Pos}
theorem Xi(N:PE X a ta)(J:PE X b tb){d:St}{H:Hp}{R:V->V->Hp->Prop}(I:Inv X vA d H s)
  (h:ta d H λx z=>tb d z λy i=>R x y i) {Q:xB->x0->Prop} {f:xB->xB->Sem xB}
  (W:∀v u q x y i,Inv X vA d i q->RelV x v->RelV y u->R x y i->vW (xU X.prog X.w) X.A (f v u) Q X.xe q):
  vW (xU X.prog X.w) X.A (eval a X.env) (λv n=>vW (xU X.prog X.w) X.A (eval b X.env) (λu j=>vW (xU X.prog X.w) X.A (f v u) Q X.xe j) X.xe n) X.xe s:=by
 refine thn (N vA s d H _ I h) λv U ⟨x,z,B,L,F⟩=>?_
 refine thn (J vA U d z _ B F) λu q ⟨y,i,S,M,O⟩=>?_
 exact W v u q x y i S L M O
theorem ZQo{op:Operator}{r:R2}(ho:OpR X (xI op) r)(B:PE X a ta)(j:PE X b tb):PE X (.BinOp a op b pos) (tOp r ta tb):=by intro d s i H Q I h;exact wpAny_BinOp (Xi B j I h λv u n x y L F z J q=>ho d n i L x y v u Q F z J q)
theorem ZVk(ho:UnR X (unaryOp op) r)(z:PE X a ta):PE X (.UnaryOp op a pos) (tUn r ta):=by intro d s i H Q I h;exact UnaryOp_ (thn (z d s i H _ I h) λv B ⟨x,j,q,y,n⟩=>ho d B i j x v Q q y n)
theorem opI{f:xB->xB->Sem xB}{C:Int->Int->Prop}{g:Int->Int->Int}
  (n:∀(i j:Int)(t u:Tok)(s:x0)(Q:xB->x0->Prop)(E:xB->x0->Prop),C i j->Q (.int (g i j) s.toks) {s with toks:=s.toks+1}->vW (xU X.prog X.w) X.A (f (.int i t) (.int j u)) Q E s):
  OpR X f (rI C λi j=>.int (g i j)):=by
 intro z s M H x y v u Q I B F h;obtain⟨i,j,rfl,rfl,J,q⟩:=h;obtain⟨t,rfl⟩:=B;obtain⟨L,rfl⟩:=F;exact n i j t L s _ _ J ⟨.int (g i j),H,I.tok _,⟨_,rfl⟩,q⟩
theorem opI0{f:xB->xB->Sem xB}{g:Int->Int->Int}
  (n:∀(i j:Int)(t u:Tok)(s:x0)(Q:xB->x0->Prop)(E:xB->x0->Prop),Q (.int (g i j) s.toks) {s with toks:=s.toks+1}->vW (xU X.prog X.w) X.A (f (.int i t) (.int j u)) Q E s):
  OpR X f (rI0 λi j=>.int (g i j)):=by
 intro z s L H x y v u Q I B F h;obtain⟨i,j,rfl,rfl,q⟩:=h;obtain⟨t,rfl⟩:=B;obtain⟨J,rfl⟩:=F;exact n i j t J s _ _ ⟨.int (g i j),H,I.tok _,⟨_,rfl⟩,q⟩
theorem Ub{f:xB->xB->Sem xB}{g:Int->Int->Bool}
  (d:∀(i j:Int)(t u:Tok)(s:x0)(Q:xB->x0->Prop)(E:xB->x0->Prop),Q (.bool (g i j)) s->vW (xU X.prog X.w) X.A (f (.int i t) (.int j u)) Q E s):
  OpR X f (rI0 λi j=>.bl (g i j)):=by
 intro n s J H x y v u Q I z B h;obtain⟨i,j,rfl,rfl,q⟩:=h;obtain⟨t,rfl⟩:=z;obtain⟨F,rfl⟩:=B;exact d i j t F s _ _ ⟨.bl (g i j),H,I,rfl,q⟩
def CPow(i j:Int):Prop:=0<=j/\j<=1000000/\i.natAbs<2^64
def CMul(i j:Int):Prop:=(-(2^64)<i/\i<2^64)∨(-(2^64)<j/\j<2^64)
theorem CMul.ok(h:CMul i j):IntMulOk i j:=by
 rcases h with⟨n,d⟩|⟨n,d⟩
 .exact .of_left (intBits_le_64 n d)
 .exact .of_right (intBits_le_64 n d)
theorem ZQJ:OpR X (xI .Add) (rI0 λi j=>.int (i+j)):=opI0 λ_ _ _ _ _ _ _ q=>add_int q
theorem ZRc:OpR X (xI .Sub) (rI0 λi j=>.int (i-j)):=opI0 λ_ _ _ _ _ _ _ q=>sub_int q
theorem ZQC:OpR X (xI .Mod) (rI (λ_ j=>0<j) λi j=>.int (i%j)):=opI λi j _ _ _ _ _ d q=>by exact mod_int' (by lia) (by rw[Int.fmod_eq_emod_of_nonneg i (by lia)];exact q)
theorem ZUJ:OpR X (xI .Pow) (rI CPow λi j=>.int (i^j.toNat)):=opI λ_ _ _ _ _ _ _ d q=>pow_int_small d.1 d.2.1 d.2.2 q
theorem unI{f:xB->Sem xB}{g:Int->Int}
  (j:∀(i:Int)(t:Tok)(s:x0)(Q:xB->x0->Prop)(E:xB->x0->Prop),Q (.int (g i) s.toks) {s with toks:=s.toks+1}->vW (xU X.prog X.w) X.A (f (.int i t)) Q E s):
  UnR X f (rU λi=>.int (g i)):=by
 intro n s z H x v Q I y h;obtain⟨i,rfl,q⟩:=h;obtain⟨t,rfl⟩:=y;exact j i t s _ _ ⟨.int (g i),H,I.tok _,⟨_,rfl⟩,q⟩
theorem ZPv:UnR X (unaryOp .USub) (rU λi=>.int (-i)):=unI λ_ _ _ _ _ q=>neg_int q
end
section
variable{X:Cx}{a b c:xz}{ta tb tc:TE}{pos:Pos}
theorem Tf{d:St}{H:Hp}{Q:VK}{k i:Bool}(I:Inv X vA d H s)(q:Q (.bl k) H)(e:k=i):EP X vA d Q (.bool i) s:=by subst e;exact⟨.bl k,H,I,rfl,q⟩
theorem ZK0:OpR X (xO .Lt) (rI0 λi j=>.bl (decide (i<j))):=Ub λ_ _ _ _ _ _ _ q=>lt_int q
theorem ZT5:OpR X (xO .LtE) (rI0 λi j=>.bl (decide (i<=j))):=Ub λ_ _ _ _ _ _ _ q=>le_int q
theorem ZTW:OpR X (xO .Gt) (rI0 λi j=>.bl (decide (j<i))):=Ub λ_ _ _ _ _ _ _ q=>gt_int q
theorem ZQV:OpR X (xO .GtE) (rI0 λi j=>.bl (decide (j<=i))):=Ub λ_ _ _ _ _ _ _ q=>ge_int q
theorem ZSf:OpR X (xO .Lt) (λx y H Q=>∃i j,x=.str i/\y=.str j/\Q (.bl (decide (i.cps.toList<j.cps.toList))) H):=by intro d s B H x y v u Q I n z h;obtain⟨i,j,rfl,rfl,q⟩:=h;obtain⟨t,rfl⟩:=n;obtain⟨F,rfl⟩:=z;exact lt_str (Tf I q rfl)
theorem ZOi:OpR X (xO .Is) (λx y H Q=>y=.non/\Q (.bl (decide (x=.non))) H):=by
 intro i s n H x y v u Q I d j h;obtain⟨rfl,q⟩:=h;cases j;refine is_none_gen (Tf I q ?_)
 cases x<;>first
  |(cases d;rfl)
  |(obtain⟨t,rfl⟩:=d;rfl)
theorem ZUd:OpR X (xO .IsNot) (λx y H Q=>y=.non/\Q (.bl (!decide (x=.non))) H):=by
 intro i s n H x y v u Q I d j h;obtain⟨rfl,q⟩:=h;cases j;refine isnot_none_gen (Tf I q ?_)
 cases x<;>first
  |(cases d;rfl)
  |(obtain⟨t,rfl⟩:=d;rfl)
theorem ZPX:OpR X (xO .NotIn) (λx y H Q=>∃i j,x=.str i/\y=.str j/\Q (.bl (!(!(xh j i 0 j.length 1).isEmpty))) H):=by intro d s B H x y v u Q I n z h;obtain⟨i,j,rfl,rfl,q⟩:=h;obtain⟨t,rfl⟩:=n;obtain⟨F,rfl⟩:=z;exact notIn_str (Tf I q rfl)
theorem OpR.or(h:OpR X f r)(h':OpR X f r'):OpR X f (λx y H Q=>r x y H Q∨r' x y H Q):=by
 intro d s j H x y v u Q I n i q;rcases q with q|q
 .exact h d s j H x y v u Q I n i q
 .exact h' d s j H x y v u Q I n i q
theorem nomark(b:xz)(h:op≠ .In:=by decide)(i:op≠ .NotIn:=by decide):xH op b=uv:=by
 have j:(op==CmpOp.In)=uv:=by cases op<;>first|rfl|exact absurd rfl h
 have d:(op==CmpOp.NotIn)=uv:=by cases op<;>first|rfl|exact absurd rfl i
 cases b<;>simp[xH,j,d]
theorem ZTJ{op:CmpOp}{r:R2}(ho:OpR X (xO op) r)(B:PE X a ta)(j:PE X b tb)(F:xH op b=uv):PE X (.Compare a [op] [b] pos) (tOp r ta tb):=by intro d s i H Q I h;exact wpAny_Compare1 (Xi B j I h λv u n x y M J z L q=>ho d n i M x y v u Q J z L q) F
noncomputable def Qq(t:TE):TT:=λσ H Q=>t σ H λx H'=>∃k,x=.bl k/\Q k H'
theorem ZDy(ho:OpR X (xO op) r)(ha:PE X a ta)(M:PE X b tb)(W:xH op b=uv):PT X (.Compare a [op] [b] pos) (Qq (tOp r ta tb)):=by
 intro d s i H Q I h;refine wpAny_isTrue_Compare1 (thn (ha d s i H _ I h) λv O ⟨x,j,L,Z,n⟩=>thn (M d O i j _ L n) λu N ⟨y,Y,I2,B,F⟩=>
  thn (ho d N i Y x y v u _ I2 Z B F) λc s3 ⟨z,q,U,J,k,e,S⟩=>?_) W
 subst e;cases J;exact v6 ⟨q,U,S⟩
noncomputable def ZKM(r r':R2)(ta tb tc:TE):TE:=λσ H Q=>ta σ H λx H1=>tb σ H1 λy H2=>r x y H2 λz H3=>∃k,z=.bl k/\
 (if k=ux then tc σ H3 λw' H4=>r' y w' H4 Q else Q (.bl uv) H3)
theorem ZVA(ho:OpR X (xO op) r)(n:OpR X (xO op') r')(ha:PE X a ta)(hb:PE X b tb)(hc:PE X c tc)
  (hm:lastMarks [op,op'] [b,c]=uv:=by with_unfolding_all rfl):PT X (.Compare a [op,op'] [b,c] pos) (Qq (ZKM r r' ta tb tc)):=by
 intro i s j H Q I h;refine isTrue_chain (thn (ha i s j H _ I h) λv s1 ⟨x,L,I1,r1,N⟩=>test_link (thn (hb i s1 j L _ I1 N) λu s2 ⟨y,H2,I2,B,S⟩=>
  thn (ho i s2 j H2 x y v u _ I2 r1 B S) λd s3 ⟨z,q,J,Y,k,e,F⟩=>?_)) hm
 subst e;cases Y;refine v6 ?_;cases k with
 |false=>
  obtain⟨k',e',q'⟩:=F;cases e';exact ite_ff ⟨q,J,q'⟩
 |true=>
  refine ite_tt (test_last (thn (hc i s3 j q _ J F) λw' O ⟨M,H4,I4,r4,Z⟩=>thn (n i O j H4 y M u w' _ I4 B r4 Z) λd' s5 ⟨z2,U,I5,r5,k2,W,q5⟩=>?_));subst W;cases r5;exact v6 ⟨U,I5,q5⟩
theorem line63:(sizeLine:Nat)<2^63:=by rw[vZ];decide
theorem ZQY:OpR X (xI .Add) (λx y H Q=>∃i j,x=.str i/\y=.str j/\i.length+j.length<=sizeLine/\Q (.str (i++j)) H):=by intro d s J H x y v u Q I n z h;obtain⟨i,j,rfl,rfl,F,q⟩:=h;obtain⟨t,rfl⟩:=n;obtain⟨B,rfl⟩:=z;exact add_str (λB L=>⟨.str (i++j),H,I.tok _,⟨_,rfl⟩,q⟩) F
theorem ZLG:OpR X (inplaceOp .Add) (λx y H Q=>∃i j,x=.str i/\y=.str j/\i.length+j.length<=sizeLine/\Q (.str (i++j)) H):=by intro d s J H x y v u Q I n z h;obtain⟨i,j,rfl,rfl,F,q⟩:=h;obtain⟨t,rfl⟩:=n;obtain⟨B,rfl⟩:=z;exact iadd_str (λB L=>⟨.str (i++j),H,I.tok _,⟨_,rfl⟩,q⟩) F
theorem vals1(r:Vals [x] us):∃u,us=[u]/\RelV x u:=by
 cases r with
 |cons d i=>cases i;exact⟨_,rfl,d⟩
theorem vals2(r:Vals [x,y] us):∃u d,us=[u,d]/\RelV x u/\RelV y d:=by
 cases r with
 |cons i j=>
  cases j with
  |cons q n=>cases n;exact⟨_,_,rfl,i,q⟩
theorem ZTy(y:X.calm=ux):CallR X (.builtin "max") (λxs H Q=>∃i j,xs=[.int i,.int j]/\Q (.int (if j>i then j else i)) H):=by
 intro n s z H xs B Q I r h;obtain⟨i,j,rfl,q⟩:=h;obtain⟨u,J,rfl,⟨t,rfl⟩,⟨L,rfl⟩⟩:=vals2 r;refine max_two_ints (I.ok.hd y) λM F k=>⟨_,H,I.kept k,?_,q⟩
 by_cases d:j>i
 .rw[if_pos d,if_pos d];exact⟨_,rfl⟩
 .rw[if_neg d,if_neg d];exact⟨_,rfl⟩
theorem ZRG(y:X.calm=ux):CallR X (.builtin "min") (λxs H Q=>∃i j,xs=[.int i,.int j]/\Q (.int (if j<i then j else i)) H):=by
 intro n s z H xs B Q I r h;obtain⟨i,j,rfl,q⟩:=h;obtain⟨u,J,rfl,⟨t,rfl⟩,⟨L,rfl⟩⟩:=vals2 r;refine min_two_ints (I.ok.hd y) λM F k=>⟨_,H,I.kept k,?_,q⟩
 by_cases d:j<i
 .rw[if_pos d,if_pos d];exact⟨_,rfl⟩
 .rw[if_neg d,if_neg d];exact⟨_,rfl⟩
end
structure ObjM (h:Heap) (x dx C:xY) (mA:Str->Option xB):Prop where
 obj:h.get? x=uz (zf C dx)
 ns:h.Ns1 dx mA
 ne:dx≠x
theorem ZEl{h:Heap}{i:xY}{B:Str->Option xB}(n:h.Ns1 i B):∃od,h.get? i=uz od/\∀name,qf name od=uz (B name):=by
 obtain⟨o,j,N,M,L,hk,_,J⟩:=n;refine⟨o,M,λname=>?_⟩;have e:=J name;unfold nsFind findBy at e;rw[<-Array.find?_toList]at e;unfold qf;rw[L];dsimp only;split
 .rename_i y q;rw[q]at e;exact congrArg uz e
 .rename_i q;rw[q]at e
  have a:j.toList.any (·.refKey)=uv:=by rw[List.any_eq_false];intro y I;obtain⟨z,t,d⟩:=hk y (Array.mem_toList_iff.mp I);simp[DictEntry.refKey,d]
  have F:¬j.toList.any (·.refKey)=ux:=by rw[a];exact zw
  rw[if_neg F];exact congrArg uz e
theorem ObjM.look(I:ObjM h x dx C mA):∃od,qb h x (zf C dx) C (uz od)/\∀name,qf name od=uz (mA name):=
 let⟨od,i,d⟩:=ZEl I.ns
 ⟨od,⟨I.obj,rfl,rfl,i⟩,d⟩
section
variable{prog:xk}{w:xC}{A:xq}{E:xB->x0->Prop}{s:x0}{K:za}{x dx C f:xY}{mA:Str->Option xB}{name:Str}{v:xB}
theorem ZRg(X:K.In s.heap)(I:ObjM s.heap x dx C mA)(n:jd K C name=ux)(z:qc K C=ux)
  (q:zc K (.ref C) name=uz uj) (y:mA name=uz v) (i:je v=ux) (h:Q v {s with toks:=s.toks+1}):
  vW (xU prog w) A (getAttr (.ref x) name expr) Q E s:=by
 obtain⟨B,J,j⟩:=I.look;exact PySem.W.get_value X J (xi n).1 (vT z q rfl (by rw[j,y])) i h
theorem ZSy(X:K.In s.heap)(I:ObjM s.heap x dx C mA)(d:jd K C name=ux)
  (q:zc K (.ref C) name=uz (uz (.ref f))) (y:vB K (.ref f)=ux) (n:mA name=uj) (h:Q (.ref f,[.ref x]) s):
  vW (xU prog w) A (getMethod (.ref x) name pl) Q E s:=by
 obtain⟨j,J,i⟩:=I.look
 exact PySem.W.method_fn X J (xi d).1 (xi d).2 q (beq_iff_eq.mp y) (by show(qf name j).map (·.isSome)=uz uv;rw[i,n];rfl) h
theorem ZVz(X:K.In s.heap)(I:ObjM s.heap x dx C mA)
  (L:zc K (.ref C) "__setattr__"=uz (uz (.builtin "object.__setattr__"))) (hp:vU K C=ux) (S:qg K C name=uz uj) (O:qc K C=ux)
  (hw:xf mA ns) (hsz:ns.length<=sizeLine)
  (h:∀h',ObjM h' x dx C (λy=>if y=name then uz v else mA y)->qA dx s.heap h'->Q () {s with heap:=h',toks:=s.toks+2}):
  vW (xU prog w) A (setAttr (.ref x) name v) Q E s:=by
 obtain⟨Z,J,Y⟩:=I.look;refine va X J L (PySem.W.osa_open X J hp S λb=>?_);obtain⟨cd,N,z⟩:=vb O;refine vY (v4 (vY (vY (wpAny_loadPart I.obj (vY (PySem.W.Looks.here (vc X N) ?_))))));rw[z];refine v4 (vY (v4 (vY ?_)));refine wpAny_nsSet1 I.ns λh' n j=>?_
 obtain⟨oD,M,U,B,F,q⟩:=n.count (PySem.Within.cons name v hw);refine vY (wpAny_lookBehind B (by rw[F];exact pastItsLine_dict (z0 q (by rw[zM];lia))) ?_);exact v4 (h _ ⟨(j.2 _ (Ne.symm I.ne)).trans I.obj,n,I.ne⟩ j)
theorem ZP8(X:K.In s.heap)(hm:vd K C=ux)
  (hi:zc K (.ref C) "__init__"=uz (uz (.ref f))) (hf:PySem.W.typeIn K (.ref f)=uz (.type "function"))
  (h:codeAny (xU prog w) (A.under (.builtin "type.__call__" ⟨.ref C::vs,kw⟩)) (.call (.ref f) ⟨.ref (s.heap.objs.size+1)::vs,kw⟩) (PySem.W.InitBack (s.heap.objs.size+1) R)
   {s with heap:=(s.heap.push zh).push (zf C s.heap.objs.size)}):
  codeAny (xU prog w) A (.call (.ref C) ⟨vs,kw⟩) R s:=by
 obtain⟨hh,g,d,t,os⟩:=s;exact PySem.W.make_core (PySem.W.makes_of X hm) (vC X hi) (λself=>PySem.W.bind_fn X self hf) (.inl rfl) h
end
noncomputable def Ed(f:Str)(v:V):List (Str×V)->List (Str×V)
 |[]=>[(f,v)]
 |(g,x)::r=>if g=f then(g,v)::r else(g,x)::Ed f v r
theorem ZGN(f g:Str)(v:V):∀fs:List (Str×V),(Ed f v fs).lookup g=if g=f then uz v else fs.lookup g
 |[]=>by
  show qO g [(f,v)]=_;by_cases h:g=f
  .have d:=beq_iff_eq.mpr h;simp only[qO,d,if_pos h]
  .have d:=beq_eq_false_iff_ne.mpr h;simp only[qO,d,if_neg h]
 | (k,x)::r=>by
  rw[show Ed f v ((k,x)::r)=(if k=f then(k,v)::r else(k,x)::Ed f v r)from rfl]
  by_cases hk:k=f
  .rw[if_pos hk];by_cases h:g=k
   .have d:=beq_iff_eq.mpr h;simp only[qO,d,if_pos (h.trans hk)]
   .have d:=beq_eq_false_iff_ne.mpr h;simp only[qO,d,if_neg (λe:g=f=>h (e.trans hk.symm))]
  .rw[if_neg hk];by_cases h:g=k
   .have d:=beq_iff_eq.mpr h;simp only[qO,d,if_neg (λe:g=f=>hk (h.symm.trans e))]
   .have d:=beq_eq_false_iff_ne.mpr h;simp only[qO,d];exact ZGN f g v r
theorem ZBF(f:Str)(v:V):∀fs:List (Str×V),f∈(Ed f v fs).map (·.1)/\∀g,g∈fs.map (·.1)->g∈(Ed f v fs).map (·.1)
 |[]=>⟨by simp[Ed],λg h=>by simp at h⟩
 | (k,x)::r=>by
  obtain⟨i,d⟩:=ZBF f v r
  rw[show Ed f v ((k,x)::r)=(if k=f then(k,v)::r else(k,x)::Ed f v r)from rfl]
  by_cases hk:k=f
  .rw[if_pos hk];subst hk;exact⟨by simp,λg h=>by simpa using h⟩
  .rw[if_neg hk];refine⟨?_,λg h=>?_⟩
   .rw[zk];exact zV _ i
   .rw[zk]at h⊢;rcases zj.mp h with e|e
    .exact zj.mpr (.inl e)
    .exact zV _ (d g e)
theorem ZFv(f:Str)(v:V):∀fs:List (Str×V),(Ed f v fs).length<=fs.length+1
 |[]=>by simp[Ed]
 |(k,x)::r=>by
  have d:=ZFv f v r
  rw[show Ed f v ((k,x)::r)=(if k=f then(k,v)::r else(k,x)::Ed f v r)from rfl]
  by_cases hk:k=f
  .rw[if_pos hk,zM,zM];lia
  .rw[if_neg hk,zM,zM];lia
theorem RelO.some_of(r:RelO (uz v) o):∃u,o=uz u/\RelV v u:=by
 cases o with
 |none=>exact(r).elim
 |some u=>exact⟨u,rfl,r⟩
theorem RelO.none_of(r:RelO uj o):o=uj:=by
 cases o with
 |none=>rfl
 |some u=>exact(r).elim
theorem ZGq(r:RelV v u):je u=ux:=by
 cases v with
 |non=>cases(r);rfl
 |bl b=>cases(r);rfl
 |int i=>obtain⟨t,e⟩:=(r);cases e;rfl
 |str x=>obtain⟨t,e⟩:=(r);cases e;rfl
 |byt b=>obtain⟨t,e⟩:=(r);cases e;rfl
 |flt b=>obtain⟨t,e⟩:=(r);cases e;rfl
 |ref a=>cases(r);rfl
 |ty n=>cases(r);rfl
section
variable{P:xk}{w:xC}{H H':Hp}{h h':Heap}{a C dx:xY}{fs fs':List (Str×V)}
theorem ZBO(hok:HOk P w H h)(e:H a=uz (.ins C dx fs)):∃i,ObjM h a dx C i/\(∀f,RelO (fs.lookup f) (i f))/\xf i (fs.map (·.1))/\fs.length<=1000/\H dx=uz (.own a):=by obtain⟨d,z,j,y,i,n,r,q⟩:=(hok a _ e);exact⟨i,⟨y,n,j⟩,r,q,z,d⟩
end
structure Cls (K:za) (C:xY):Prop where
 pg:jd K C Str.empty=ux
 hd:qc K C=ux
 po:vU K C=ux
 sa:zc K (.ref C) "__setattr__"=uz (uz (.builtin "object.__setattr__"))
theorem Cls.get{K:za}{C:xY}(c:Cls K C)(f:Str):jd K C f=ux:=c.pg
def NoAttr(K:za)(C:xY)(f:Str):Prop:=zc K (.ref C) f=uz uj
theorem NoAttr.taker{K:za}{C:xY}{f:Str}(n:NoAttr K C f):qg K C f=uz uj:=by
 unfold qg;rw[n]
 rfl
structure Meth (K:za) (C:xY) (m:Str) (f:xY):Prop where
 at_:zc K (.ref C) m=uz (uz (.ref f))
 fn:vB K (.ref f)=ux
 kp:zd K (.ref f)=ux
section
variable{X:Cx}{vA:List (xY×Obj)}{σ:St}{H:Hp}{s:x0}{a C dx:xY}{fs:List (Str×V)}{f:Str}{v:V}{A:xq}{E:xB->x0->Prop}
theorem ZPS(I:Inv X vA σ H s)(e:H a=uz (.ins C dx fs))(c:Cls X.K C)(n:NoAttr X.K C f)(l:fs.lookup f=uz v)
  (h:∀u s',Inv X vA σ H s'->RelV v u->Q u s'):vW (xU X.prog X.w) A (getAttr (.ref a) f b) Q E s:=by
 obtain⟨j,O,r,_,_,_⟩:=ZBO I.hok e;obtain⟨u,i,d⟩:=RelO.some_of (by rw[<-l];exact r f);exact ZRg I.kIn O (c.get f) c.hd n i (ZGq d) (h u _ (I.tok _) d)
theorem ZF0(I:Inv X vA σ H s)(e:H a=uz (.ins C dx fs))(c:Cls X.K C)(k:Meth X.K C m g)(l:fs.lookup m=uj)
  (h:Q (.ref g,[.ref a]) s):vW (xU X.prog X.w) A (getMethod (.ref a) m pl) Q E s:=by
 obtain⟨d,O,r,_,_,_⟩:=ZBO I.hok e;exact ZSy I.kIn O (c.get m) k.at_ k.fn (RelO.none_of (by rw[<-l];exact r m)) h
theorem ZR6(I:Inv X vA σ H s)(e:H a=uz (.ins C dx fs))(c:Cls X.K C)(n:NoAttr X.K C f)(Y:fs.length<1000)(U:RelV y u)
  (h:∀s',Inv X vA σ (upd H a (.ins C dx (Ed f y fs))) s'->Q () s'):vW (xU X.prog X.w) A (setAttr (.ref a) f u) Q E s:=by
 obtain⟨L,O,r,i,_,B⟩:=ZBO I.hok e
 have F:(fs.map (·.1)).length<=sizeLine:=by rw[zU,vZ];lia
 refine ZVz I.kIn O c.sa c.po n.taker c.hd i F λW d S=>h _ ?_
 have j:∃o,W.get? dx=uz o:=let⟨o,_,_,J,_⟩:=d.ns;⟨o,J⟩;refine I.write (by rw[e];exact True.intro) (.inr B) (λb q N z=>(S.2 b N).trans z) j ?_;refine⟨by rw[Ag O.ne];exact B,?_,O.ne,d.obj,_,d.ns,λg=>?_,λg M=>?_⟩
 .have:=ZFv f y fs;lia
 .rw[ZGN];by_cases q:g=f
  .rw[if_pos q,if_pos q];exact U
  .rw[if_neg q,if_neg q];exact r g
 .by_cases q:g=f
  .rw[q];exact(ZBF f y fs).1
  .refine(ZBF f y fs).2 g (i g λz=>M ?_);show(if g=f then uz u else L g)=uj;rw[if_neg q];exact z
theorem Inv.made(I:Inv X vA σ H s):Inv X vA σ (upd (upd H s.heap.objs.size (.own (s.heap.objs.size+1))) (s.heap.objs.size+1) (.ins C s.heap.objs.size []))
  {s with heap:=(s.heap.push zh).push (zf C s.heap.objs.size)}:=by
 have e1:(s.heap.push zh).get? s.heap.objs.size=uz zh:=zy s.heap rfl;have e2:((s.heap.push zh).push (zf C s.heap.objs.size)).get? (s.heap.objs.size+1)=uz (zf C s.heap.objs.size):=by have:=zy (s.heap.push zh) (o:=zf C s.heap.objs.size) rfl;rwa[qy]at this
 refine(I.laid (a:=s.heap.objs.size) (o:=.own (s.heap.objs.size+1)) (h':=s.heap.push zh) (t':=s.toks) (λb u q=>zQ _ q) (zY _) ⟨_,e1⟩).laid (λb u q=>zQ _ q) (Nat.le_of_eq (qy _ _)) ?_;have ne:s.heap.objs.size≠s.heap.objs.size+1:=z8 (qJ _);refine⟨by rw[Ag ne,Dy],jF _,ne,e2,λ_=>uj,(Heap.Ns1.of_empty ⟨zh,#[],_,e1,rfl,(λe he=>absurd he (by simp)),λ_=>rfl⟩).at λo q=>zQ _ q,λ_=>True.intro,λy hy=>absurd rfl hy⟩
theorem ZD8{f:Str}(i:xE e f env (eval e env)=eval e env)
  (h:vW (xU prog w) A (eval e env) (λo d=>vW (xU prog w) A (getAttr o f ux) Q E d) E s):vW (xU prog w) A (eval (.Attribute e f pos) env) Q E s:=
 Attribute_any_ h (by rw[arm_eval_Attribute,i])
end
def tFld(K:za)(ta:TE)(f:Str):TE:=λσ H Q=>ta σ H λx H1=>∃a C dx fs v,x=.ref a/\H1 a=uz (.ins C dx fs)/\Cls K C/\NoAttr K C f/\fs.lookup f=uz v/\Q v H1
def sFld(K:za)(ta tv:TE)(f:Str):TS:=λD σ H=>tv σ H λy H1=>ta σ H1 λx H2=>∃a C dx fs,x=.ref a/\H2 a=uz (.ins C dx fs)/\Cls K C/\NoAttr K C f/\fs.length<1000/\
 D.nx σ (upd H2 a (.ins C dx (Ed f y fs)))
section
variable{X:Cx}{o e value:xz}{f:Str}{pos pos' tpos:Pos}{ta tv:TE}
theorem ZVO(N:PE X e ta)(F:xE e f X.env (eval e X.env)=eval e X.env):PE X (.Attribute e f pos) (tFld X.K ta f):=by intro d s j H Q I h;refine ZD8 F (thn (N d s j H _ I h) λu W ⟨x,i,y,J,a,C,S,fs,v,z,L,c,n,l,q⟩=>?_);subst z;obtain rfl:u=Value.ref a:=J;exact ZPS y L c n l λU O M B=>⟨v,i,M,B,q⟩
theorem ZMX(U:PE X o ta)(B:PE X value tv)(M:swapsWith value (uz (.Attribute o f pos')) pos.line X.env=pure uv):PS X (.Assign [.Attribute o f pos'] value pos) (sFld X.K ta tv f):=by intro d s i H D I h;refine plainObj_wpAny_Assign_Attribute (thn (B d s i H _ I h) λu N ⟨y,j,L,Z,q⟩=>thn (U d N i j _ L q) λJ s2 ⟨x,H2,Y,z,a,C,dx,fs,S,W,c,n,l,F⟩=>?_) M;subst S;obtain rfl:J=Value.ref a:=z;exact ZR6 Y W c n l Z λs3 O=>⟨i,_,O,F⟩
end
section
variable{X:Cx}{vA:List (xY×Obj)}{σ:St}{H:Hp}{s:x0}{A:xq}{E:xB->x0->Prop}{Q:xB->x0->Prop}{c:xB}{b:Bool}
end
structure Room (k:Nat) (A:xq):Prop where
 hd:A.handled=uj
 dp:A.depth+3*k+5<recursionLimit
 un:A.units+16*k+200<cLine
theorem Room.mono(r:Room k A)(h:j<=k):Room j A:=⟨r.hd,by have:=r.dp;lia,by have:=r.un;lia⟩
theorem Room.deeper(r:Room (k+1) A)(env:Env):Room k (A.deeper env):=
 ⟨r.hd,by have:=r.dp;show A.depth+1+3*k+5<_;lia,by have:=r.un;show A.units+3+16*k+200<_;lia⟩
theorem ZKr{A:xq}{C:xY}{us:List xB}{d:List (Str×xB)}:(A.under (.builtin "type.__call__" ⟨.ref C::us,d⟩)).depth=A.depth+1:=by
 first|rfl|simp[Around.under,Code.weight,Code.isCreation,Code.isGuard,Code.isCaller,Code.frames,Code.isFrame,guardIds]
theorem ZV0{A:xq}{C:xY}{us:List xB}{d:List (Str×xB)}:(A.under (.builtin "type.__call__" ⟨.ref C::us,d⟩)).units=A.units+1:=by
 first|rfl|simp[Around.under,Code.cUnits,Code.frames,Code.isFrame]
theorem Room.make(r:Room (k+1) A)(C:xY)(us:List xB)(d:List (Str×xB)):Room k (A.under (.builtin "type.__call__" ⟨.ref C::us,d⟩)):=
 ⟨r.hd,by have:=r.dp;rw[ZKr];lia,by have:=r.un;rw[ZV0];lia⟩
theorem Room.depth(r:Room k A):A.depth<recursionLimit:=by have:=r.dp;lia
theorem Room.units(r:Room k A):A.units+64<cLine:=by have:=r.un;lia
noncomputable def Qf:TA:=λ_ H Q=>Q [] H
noncomputable def Qh(ta:TE)(tr:TA):TA:=λσ H Q=>ta σ H λx H1=>tr σ H1 λxs H2=>Q (x::xs) H2
section
variable{X:Cx}{e:xz}{es:List xz}{te:TE}{t:TA}{pos:Pos}
theorem ZHv:PA X [] Qf:=λ_ _ _ _ H Q I h=>Calls.spliced_nil ⟨[],H,I,.nil,h⟩
theorem ZCF(J:PE X e te)(M:PA X es t)(z:vX (e::es) X.env=(uv,eval e X.env)::vX es X.env:=by rfl):PA X (e::es) (Qh te t):=by intro i d s j H Q I h;rw[z];show vW _ _ (spliced ((uv,eval e X.env)::xF i (vX es X.env))) _ _ s;refine Calls.spliced_cons (thn (J d s j H _ I h) λu O ⟨x,n,y,B,q⟩=>?_);exact thn (M i d O j n _ y q) λW Y ⟨S,U,N,F,L⟩=>⟨x::S,U,N,.cons B F,L⟩
def tTup(t:TA):TE:=λσ H Q=>t σ H λxs H1=>xs.length<=sizeLine/\∀p,H1 p=uj->Q (.ref p) (upd H1 p (.tup xs))
def tLst(t:TA):TE:=λσ H Q=>t σ H λxs H1=>xs.length<=sizeLine/\∀p,H1 p=uj->Q (.ref p) (upd H1 p (.lst xs))
theorem ZPy{x1}(h:PA X es t):PE X (.Tuple es x1 pos) (tTup t):=by intro d s y H Q I B;refine wpAny_Tuple_spliced (thn (h pos d s y H _ I B) λF j ⟨J,n,i,r,z,q⟩=>⟨by rw[<-r.length];exact z,?_⟩);refine⟨.ref j.heap.objs.size,upd n j.heap.objs.size (.tup J),i.laid (λb u e=>zQ _ e) (zY _) ?_,rfl,q _ (i.hok.fresh (zY _))⟩;exact⟨z,F,r,⟨_,zy _ rfl,rfl,_,rfl⟩⟩
theorem ZRJ(h:PA X es t):PE X (.List es pos) (tLst t):=by intro d s y H Q I B;refine wpAny_List_spliced (thn (h pos d s y H _ I B) λF j ⟨J,n,i,r,z,q⟩=>⟨by rw[<-r.length];exact z,?_⟩);refine⟨.ref j.heap.objs.size,upd n j.heap.objs.size (.lst J),i.laid (λb u e=>zQ _ e) (zY _) ?_,rfl,q _ (i.hok.fresh (zY _))⟩;exact⟨z,F,0,r,zy _ rfl⟩
end
noncomputable abbrev Sp:=List V->Hp->VK->XK->Prop
noncomputable abbrev CXT:=List Env->Hp->x0->XK->xB->x0->Prop
structure Env0 (P:xk) (w:xC) (K:za) (mg:Str->Option xB) (base:Heap) (A:xq) (outer:List Env) (s:x0) (H:Hp):Prop where
 frames:A.frames=uz outer
 mod:Mod K mg base
 bs:∀b o,base.get? b=uz o->s.heap.get? b=uz o/\H b=uj
 bsz:base.objs.size<=s.heap.objs.size
 funs:s.heap.FunFrames base outer
 frf:∀b∈frs outer,H b=uj
 hok:HOk P w H s.heap
 bare:AllBare s.gens
def CE(outer:List Env)(P:xk)(w:xC)(H:Hp)(s:x0)(Q:VK)(u:xB)(s':x0):Prop:=
 ∃v H',s'.os=s.os/\AllBare s'.gens/\Un (frs outer) [] H H' s.heap s'.heap/\HOk P w H' s'.heap/\RelV v u/\Q v H'
def CR(CX:CXT)(outer:List Env)(P:xk)(w:xC)(H:Hp)(s:x0)(Q:VK)(E:XK)(r:Result)(s':x0):Prop:=
 match r with
 |.ok (.ret u)=>CE outer P w H s Q u s'
 |.ok _=>False
 |.error e=>CX outer H s E e s'
structure FnOk (P:xk) (w:xC) (K:za) (mg:Str->Option xB) (base:Heap) (CX:CXT) (k:Nat) (f:xY) (fd:xj) (ps:List Str) (sp:Sp):Prop where
 len:∀vs H Q E,sp vs H Q E->vs.length=ps.length
 run:∀(A:xq)(outer:List Env)(s:x0)(H:Hp)(args:Args)(us:List xB)(vs:List V)(Q:VK)(E:XK),Room k A->Env0 P w K mg base A outer s H->BindsTo s fd args (ps.zip us)->Vals vs us->sp vs H Q E->
  codeAny (xU P w) A (.call (.ref f) args) (CR CX outer P w H s Q E) s
theorem Env0.make{w:xC}{K:za}{i:Str->Option xB}{d:Heap}{A:xq}{outer:List Env}{H:Hp}(e:Env0 P w K i d A outer s H)(C:xY)(us:List xB)(j:List (Str×xB)):
  Env0 P w K i d (A.under (.builtin "type.__call__" ⟨.ref C::us,j⟩)) outer s H:=⟨by first|exact e.frames|(simpa[Around.under,Code.envs,Code.isFrame,pushEnvs]using e.frames),e.mod,e.bs,e.bsz,e.funs,e.frf,e.hok,e.bare⟩
section
variable{X:Cx}{vA:List (xY×Obj)}{σ:St}{H:Hp}{s s':x0}
theorem Inv.env0(I:Inv X vA σ H s):Env0 X.prog X.w X.K X.mg X.base X.A X.stack s H:=
 ⟨I.ok.frames,I.ok.mod,I.bs,z0 I.ok.bsz I.sz,I.stack,I.Rg,I.hok,I.bare⟩
theorem Inv.after(I:Inv X vA σ H s)(h:CE X.stack X.prog X.w H s Q u s'):EP X vA σ Q u s':=by obtain⟨v,y,n,i,un,hok,r,q⟩:=h;obtain⟨B,g,d,t,j⟩:=s';obtain rfl:j=s.os:=n;exact⟨v,y,I.call un hok i (λb z=>absurd z (by simp)),r,q⟩
end
noncomputable def ZKy(sp:Sp)(dvs:List V)(E:XK)(t:TA):TE:=λσ H Q=>t σ H λvs H1=>sp (vs++dvs) H1 Q E
def ZAd(C:xY)(m:Str)(sp:Sp)(dvs:List V)(E:XK)(ta:TE)(t:TA):TE:=λσ H Q=>ta σ H λx H1=>∃a dx fs,x=.ref a/\H1 a=uz (.ins C dx fs)/\fs.lookup m=uj/\
 t σ H1 λvs H2=>sp (x::(vs++dvs)) H2 Q E
def ZTD(C:xY)(sp:Sp)(dvs:List V)(E:XK)(t:TA):TE:=λσ H Q=>t σ H λvs H1=>∀x dx,H1 x=uj->H1 dx=uj->dx≠x->
 sp (.ref x::(vs++dvs)) (upd (upd H1 dx (.own x)) x (.ins C dx [])) (λv H2=>v=.non/\Q (.ref x) H2) E
def Binds(K:za)(fd:xj)(ps:List Str)(ds:List xB):Prop:=
 ∀(s:x0)(us:List xB),K.In s.heap->(us++ds).length=ps.length->BindsTo s fd ⟨us,[]⟩ (ps.zip (us++ds))
theorem Binds.all{K:za}{i:xj}{ps:List Str}(h:∀us:List xB,us.length=ps.length->bindArgs i ⟨us,[]⟩=pure (ps.zip us)):Binds K i ps []:=λs us _ d=>by rw[qG]at d⊢;exact .of_eq (h us d)
def Passes(CX:CXT)(X:Cx)(E:XK):Prop:=∀(vA:List (xY×Obj))(σ:St)(H:Hp)(s:x0)(e:xB)(s':x0),Inv X vA σ H s->CX X.stack H s E e s'->X.xe e s'
section
variable{X:Cx}{CX:CXT}{k:Nat}{f C:xY}{fd:xj}{ps:List Str}{sp:Sp}{dvs:List V}{ds:List xB}{E:XK}{x m:Str}{p pos apos:Pos}{e o:xz}{es:List xz}{ta:TE}{t:TA}
theorem ZCc{i:St}{H:Hp}{Q:VK}{us:List xB}{vs:List V}(F:FnOk X.prog X.w X.K X.mg X.base CX k f fd ps sp)(B:Room k X.A)(y:Binds X.K fd ps ds)(z:Vals dvs ds)(J:Passes CX X E)
  (I:Inv X vA i H s) (r:Vals vs us) (h:sp (vs++dvs) H Q E):vW (xU X.prog X.w) X.A (call (.ref f) us) (EP X vA i Q) X.xe s:=by
 have j:=r.append z;have n:(us++ds).length=ps.length:=by rw[<-j.length];exact F.len _ _ _ _ h
 refine wpAny_call (xN (F.run X.A X.stack s H ⟨us,[]⟩ (us++ds) (vs++dvs) Q E B I.env0 (y s us I.kIn n) j h) λr q d=>?_);cases r with
 |error e=>exact J vA i H s e q I d
 |ok fl=>
  cases fl with
  |ret u=>exact I.after d
  |next=>exact False.elim d
  |brk=>exact False.elim d
  |cont=>exact False.elim d
theorem ZCw(F:FnOk X.prog X.w X.K X.mg X.base CX k f fd ps sp)(N:Room k X.A)(z:Gl X x)(L:X.mg x=uz (.ref f))(hk:zd X.K (.ref f)=ux)(B:Binds X.K fd ps ds)(M:Vals dvs ds)(S:Passes CX X E)
  (J:PA X (e::es) t) (j:(x==("__debug__":Str))=uv:=by decide) (O:vX (e::es) X.env=(uv,eval e X.env)::vX es X.env:=by rfl) (i:(xF pos (vX es X.env)).any (·.1)=uv:=by rfl):
  PE X (.Call (.Name x p) (e::es) [] pos) (ZKy sp dvs E t):=by
 intro d s y H Q I h;refine vK (K6 I z L ?_ j);refine qh I.ok.mod.kin hk (thn (J pos d s y H _ I h) λY s1 ⟨Z,U,n,r,q⟩=>⟨n.kIn,?_⟩) O i;exact ZCc F N B M S n r q
theorem ZQa{pl:Sem Bool}(U:PE X o ta)(c:Cls X.K C)(z:Meth X.K C m f)(F:FnOk X.prog X.w X.K X.mg X.base CX k f fd ps sp)(Z:Room k X.A)(O:Binds X.K fd ps ds)(Y:Vals dvs ds)(hx:Passes CX X E)(ha:PA X (e::es) t)
  (i:vX (e::es) X.env=(uv,eval e X.env)::vX es X.env:=by rfl) (j:(xF pos (vX es X.env)).any (·.1)=uv:=by rfl)
  (ht:eval (.Call (.Attribute o m apos) (e::es) [] pos) X.env=(do
   let ov<-eval o X.env
   standAt apos.atName
   let(f,first)<-holding [ov] (getMethod ov m pl)
   callWith pos f first (xF pos (vX (e::es) X.env)) (xG pos (xR [] X.env))):=by rfl):
  PE X (.Call (.Attribute o m apos) (e::es) [] pos) (ZAd C m sp dvs E ta t):=by
 intro d s B H Q I h;refine vD (thn (U d s B H _ I h) λu S ⟨x,L,n,M,a,dx,fs,ex,ea,l,q⟩=>?_) ht;subst ex;obtain rfl:u=Value.ref a:=M;refine ZF0 n ea c z l ?_;refine qh I.ok.mod.kin z.kp (thn (ha pos d S B L _ n q) λus s2 ⟨y,H2,J,r,N⟩=>⟨J.kIn,?_⟩) i j;exact ZCc (vs:=.ref a::y) F Z O Y hx J (.cons rfl r) N
theorem ZKq(N:PE X o ta)(c:Cls X.K C)(j:Meth X.K C m f)(F:FnOk X.prog X.w X.K X.mg X.base CX k f fd ps sp)(M:Room k X.A)(z:Binds X.K fd ps ds)(L:Vals dvs ds)(S:Passes CX X E)
  (O:eval (.Call (.Attribute o m apos) [] [] pos) X.env=(do
   let ov<-eval o X.env
   standAt apos.atName
   let(f,first)<-holding [ov] (getMethod ov m pl)
   callWith pos f first (xF pos (vX [] X.env)) (xG pos (xR [] X.env))):=by rfl):
  PE X (.Call (.Attribute o m apos) [] [] pos) (ZAd C m sp dvs E ta Qf):=by
 intro d s n H Q I h;refine vD (thn (N d s n H _ I h) λu Z ⟨x,U,i,B,a,Y,fs,y,J,l,q⟩=>?_) O;subst y;obtain rfl:u=Value.ref a:=B;refine ZF0 i J c j l ?_;exact PySem.W.callWith_K0 i.kIn j.kp (ZCc (vs:=[.ref a]) F M z L S i (.cons rfl .nil) q)
structure Mk (K:za) (C f:xY):Prop where
 makes:vd K C=ux
 init:zc K (.ref C) "__init__"=uz (uz (.ref f))
 fn:vB K (.ref f)=ux
 kp:zd K (.ref C)=ux
theorem ZSc{σ:St}{H:Hp}{Q:VK}{us:List xB}{vs:List V}(M:Mk X.K C f)(F:FnOk X.prog X.w X.K X.mg X.base CX k f fd ps sp)(hr:Room (k+1) X.A)(hb:Binds X.K fd ps ds)(hd:Vals dvs ds)
  (hx:Passes CX X E) (I:Inv X vA σ H s) (r:Vals vs us)
  (h:∀x dx,H x=uj->H dx=uj->dx≠x->sp (.ref x::(vs++dvs)) (upd (upd H dx (.own x)) x (.ins C dx [])) (λv H2=>v=.non/\Q (.ref x) H2) E):
  vW (xU X.prog X.w) X.A (call (.ref C) us) (EP X vA σ Q) X.xe s:=by
 have hq:=h (s.heap.objs.size+1) s.heap.objs.size (I.hok.fresh (jx _)) (I.hok.fresh (zY _)) (z8 (qJ _));have I2:=Inv.made (C:=C) I;have r2:Vals (V.ref (s.heap.objs.size+1)::(vs++dvs)) (Value.ref (s.heap.objs.size+1)::(us++ds)):=.cons rfl (r.append hd);have hl:(Value.ref (s.heap.objs.size+1)::us++ds).length=ps.length:=by have e:=r2.length;rw[F.len _ _ _ _ hq]at e;exact e.symm
 refine wpAny_call (ZP8 I.kIn M.makes M.init (beq_iff_eq.mp M.fn) (xN (F.run _ X.stack _ _ ⟨Value.ref (s.heap.objs.size+1)::us,[]⟩ (Value.ref (s.heap.objs.size+1)::(us++ds)) _ _ E (hr.make C us [])
  (I2.env0.make C us []) (hb _ (Value.ref (s.heap.objs.size+1)::us) I2.kIn hl) r2 hq) λr s' hq'=>?_))
 cases r with
 |error e=>exact hx vA σ _ _ e s' I2 hq'
 | ok fl=>
  cases fl with
  |ret u=>
   obtain⟨v,H',I3,rv,ev,q3⟩:=I2.after hq';subst ev;exact⟨rv,⟨V.ref (s.heap.objs.size+1),H',I3,rfl,q3⟩⟩
  |next=>exact False.elim hq'
  |brk=>exact False.elim hq'
  |cont=>exact False.elim hq'
theorem ZNw(M:Mk X.K C f)(F:FnOk X.prog X.w X.K X.mg X.base CX k f fd ps sp)(O:Room (k+1) X.A)(z:Gl X x)(L:X.mg x=uz (.ref C))(B:Binds X.K fd ps ds)(N:Vals dvs ds)(U:Passes CX X E)
  (J:PA X (e::es) t) (j:(x==("__debug__":Str))=uv:=by decide) (S:vX (e::es) X.env=(uv,eval e X.env)::vX es X.env:=by rfl) (i:(xF pos (vX es X.env)).any (·.1)=uv:=by rfl):
  PE X (.Call (.Name x p) (e::es) [] pos) (ZTD C sp dvs E t):=by
 intro d s y H Q I h;refine vK (K6 I z L ?_ j);refine qh I.ok.mod.kin M.kp (thn (J pos d s y H _ I h) λZ s1 ⟨vs,Y,n,r,q⟩=>⟨n.kIn,?_⟩) S i;exact ZSc M F O B N U n r q
end
def PK(X:Cx)(kws:List Keyword)(t:TA):Prop:=
 ∀(pos:Pos)(vA:List (xY×Obj))(s:x0)(σ:St)(H:Hp)(Q:List V->Hp->Prop),Inv X vA σ H s->t σ H Q->vW (xU X.prog X.w) X.A (evalAll ((xG pos (xR kws X.env)).map (·.2))) (AP X vA σ Q) X.xe s
section
variable{X:Cx}{CX:CXT}{k:Nat}{f C:xY}{fd:xj}{ps ks:List Str}{sp:Sp}{E:XK}{x m:Str}{p pos apos kpos:Pos}{e o:xz}{es:List xz}{kws:List Keyword}{te ta:TE}{t tk:TA}{nm:Option Str}
theorem ZUF:PK X [] Qf:=λ_ _ _ _ H Q I h=>wpAny_evalAll_nil ⟨[],H,I,.nil,h⟩
theorem ZPz(F:PE X e te)(L:PK X kws t):PK X (⟨nm,e,kpos⟩::kws) (Qh te t):=by
 intro i d s j H Q I h
 show vW _ _ (evalAll ((do let v<-eval e X.env;standAt i;pure v)::(xG i (xR kws X.env)).map (·.2))) _ _ s
 refine wpAny_evalAll_cons (vY (thn (F d s j H _ I h) λu N ⟨x,n,y,z,q⟩=>vY (wpAny_standAt (v4 ?_))));exact thn (L i d N j n _ y q) λU W ⟨O,S,M,B,J⟩=>⟨x::O,S,M,.cons z B,J⟩
variable{g:List xB->List xB->List xB}{gV:List V->List V->List V}
end
structure FnScope (N P:List Str) (sc:xy):Prop where
 kind:sc.kind=.function
 co:sc.isCoroutine=uv
 gen:sc.isGenerator=uv
 nd:N.Nodup
 pre:N.take P.length=P
 par:∀x∈P,sc.names.lookup x=uz .local∨sc.names.lookup x=uz .cell
 nofree:∀y∈sc.names,y.2≠ .free
theorem ZH7{d:Str->Option xw}{x:Str}:∀{binds:List (Str×xB)}{m:Str->Option xB},(∀v,(x,v)∉binds)->bindL d binds m x=m x
 |[],_,_=>rfl
 | (n,v)::r,m,h=>by
  unfold bindL;rw[ZH7 λw hw=>h w (zV _ hw)];split
  .have:x≠n:=by rintro rfl;exact h v zW
   simp[this]
  .rfl
theorem ZDM{d:Str->Option xw}{x:Str}:∀{binds:List (Str×xB)}{m:Str->Option xB},(∀v,(x,v)∉binds)->bindC d binds m x=m x
 |[],_,_=>rfl
 | (n,v)::r,m,h=>by
  unfold bindC;rw[ZDM λw hw=>h w (zV _ hw)];split
  .rfl
  .have:x≠n:=by rintro rfl;exact h v zW
   simp[this]
theorem ZJz{d:Str->Option xw}{x:Str}{v:xB}:∀{P:List Str}{vs:List xB}{i:Nat}{m:Str->Option xB},P.Nodup->P[i]?=uz x->vs[i]?=uz v->d x=uz .local->
  bindL d (P.zip vs) m x=uz v
 |[],_,_,_,_,h,_,_=>by simp at h
 |_::_,[],_,_,_,_,h,_=>by simp at h
 |p::P,w::vs,0,m,q,j,n,hk=>by simp at j n;subst j;subst n;show bindL d ((p,w)::P.zip vs) m p=_;unfold bindL;rw[ZH7 λv y=>(qS.mp q).1 (List.of_mem_zip y).1,if_pos hk];simp
 |p::P,w::vs,i+1,m,q,j,n,hk=>by unfold bindL;exact ZJz (qS.mp q).2 (by simpa using j) (by simpa using n) hk
theorem ZHH{d:Str->Option xw}{x:Str}{v:xB}:∀{P:List Str}{vs:List xB}{i:Nat}{m:Str->Option xB},P.Nodup->P[i]?=uz x->vs[i]?=uz v->d x≠uz .local->
  bindC d (P.zip vs) m x=uz v
 |[],_,_,_,_,h,_,_=>by simp at h
 |_::_,[],_,_,_,_,h,_=>by simp at h
 |p::P,w::vs,0,m,q,j,n,hk=>by simp at j n;subst j;subst n;show bindC d ((p,w)::P.zip vs) m p=_;unfold bindC;rw[ZDM λv y=>(qS.mp q).1 (List.of_mem_zip y).1,if_neg hk];simp
 |p::P,w::vs,i+1,m,q,j,n,hk=>by unfold bindC;exact ZHH (qS.mp q).2 (by simpa using j) (by simpa using n) hk
noncomputable def start(N:List Str)(vs:List V):St:=vs.map uz++zZ (N.length-vs.length) uj
noncomputable def G9(CX:CXT)(P:xk)(w:xC)(K:za)(mg:Str->Option xB)(base:Heap)(N:List Str)(qual:Str)(scope:xy)(f:xY)(cd:xB)(A:xq)(outer:List Env)(s:x0)(H:Hp)(E:XK):Cx where
 prog:=P
 w:=w
 K:=K
 mg:=mg
 base:=base
 A:=A.deeper (envOfC qual scope s.heap.objs.size f cd)
 N:=N
 s₀:=s
 H₀:=H
 env:=envOfC qual scope s.heap.objs.size f cd
 outer:=outer
 stack:=envOfC qual scope s.heap.objs.size f cd::outer
 ex:=[]
 calm:=ux
 fn:=λ_=>ux
 pn:=[]
 xe:=λe s'=>vW (xU P w) (A.deeper (envOfC qual scope s.heap.objs.size f cd)) (leaving (envOfC qual scope s.heap.objs.size f cd) e) (λ_ s''=>CX outer H s E e s'') (λe' s''=>CX outer H s E e' s'') s'
theorem ZFp{d:xy}{n:Nat}{x:Str}(h:d.names.lookup x=uz .cell):∃c,(cellsFrom n d.names []).lookup x=uz c:=by exact jZ.mp (ve d.names n [] (.inl h))
theorem ZRC{CX:CXT}{w:xC}{K:za}{O:Str->Option xB}{n:Heap}{N ps:List Str}{qual:Str}{d:xy}{f:xY}{cd:xB}{A:xq}{outer:List Env}{U:x0}{H:Hp}{E:XK}{us:List xB}{vs:List V}
  (S:FnScope N ps d) (hd:A.handled=uj) (B:Env0 P w K O n A outer s H) (hl:vs.length=ps.length) (r:Vals vs us)
  (x:InCallC s s.heap.objs.size (bindL (envOfC qual d s.heap.objs.size f cd).kindOf (ps.zip us) λ_=>uj) (cellsFrom (s.heap.objs.size+1) d.names []) (bindC (envOfC qual d s.heap.objs.size f cd).kindOf (ps.zip us) λ_=>uj) U):
  Inv (G9 CX P w K O n N qual d f cd A outer s H E) [] (start N vs) H U:=by
 have hpl:ps.length<=N.length:=by have:=congrArg List.length S.pre;rw[jC]at this;lia
 obtain⟨L,tk,rfl,hk⟩:=x.done
 have I:∀b:xY,b∉(G9 CX P w K O n N qual d f cd A outer s H E).ex:=λb z=>absurd (show b∈([]:List xY)from z) (by simp)
 refine⟨⟨B.mod,S.kind,rfl,rfl,zY _,λy z c L j=>?_,λy F=>?_,λy c _ h=>?_,λ_=>hd,Around.frames_deeper B.frames,.inr ⟨rfl,rfl⟩,λb z=>absurd z (I b),B.bs,B.bsz,λb _ _=>I b,λb z=>absurd z (I b),B.funs,B.frf⟩,
  rfl,B.bare,Un.kept hk,⟨_,x.toInCall.ns,λi y v L j h3=>?_⟩,λy c h=>⟨_,x.cell y c h⟩,B.hok.fresh (zY _),λy c h=>?_,λp hp=>absurd (show p∈([]:List (xY×Obj))from hp) (by simp),B.hok.kept hk,?_⟩
 .exact name_of_addr x.apart (ze L) (ze j)
 .have F:=F;rcases F with F|F
  .exact ZFp F
  .exact absurd rfl (S.nofree _ (ze F))
 .exact Nat.le_of_lt (x.above y c (ze h))
 .have M:i<vs.length:=by
   unfold start at j;by_cases M:i<vs.length
   .exact M
   .rw[z9 (by simpa using M)]at j;rw[jW]at j
    split at j<;>cases j
  have ha:vs[i]?=uz v:=by
   unfold start at j;rw[zG (by simpa using M),zx]at j;cases e:vs[i]? with
   |none=>rw[e]at j;cases j
   |some a=>rw[e]at j;cases j;rfl
  obtain⟨u,Y,Z⟩:=r.get ha;have hp:ps[i]?=uz y:=by rw[<-S.pre,j0 (by lia)];exact L
  have J:ps.Nodup:=by rw[<-S.pre];exact S.nd.sublist (List.take_sublist _ _)
  refine⟨u,Z,?_⟩;rcases S.par y (xZ hp)with k|k
  .exact .inl ⟨k,ZJz J hp Y k⟩
  .obtain⟨c,e⟩:=ZFp k;refine .inr ⟨.inl k,c,e,?_⟩;have q:=x.cell y c e;rw[ZHH J hp Y (by show d.names.lookup y≠_;rw[k];decide)]at q;exact q
 .exact B.hok.fresh (Nat.le_of_lt (x.above y c (ze h)))
 .unfold start;show _=N.length;rw[zL,zU,jM];lia
theorem ZAB{CX:CXT}{w:xC}{K:za}{mg:Str->Option xB}{j:Heap}{k:Nat}{f:xY}{name qual:Str}{i:Arguments}{B:List xA}{d:xy}{dV kV U pm z ct oc:xB}{an od:Option xY}
  {osl:Array (Option xB)} {N ps:List Str} {sp:Sp} (lk:K.lookup f=uz ⟨oc,od,.func (ja name qual i B d dV kV U pm an z ct),osl⟩) (hcd:vE K z qual=ux) (S:FnScope N ps d)
  (len:∀vs H Q E,sp vs H Q E->vs.length=ps.length)
  (L:∀(A:xq)(outer:List Env)(s:x0)(H:Hp)(vs:List V)(Q:VK)(E:XK),Room k (A.deeper (envOfC qual d s.heap.objs.size f z))->sp vs H Q E->
   ∃t,PSs (G9 CX P w K mg j N qual d f z A outer s H E) B t/\t {nx:=λ_ H'=>Q .non H',rt:=Q} (start N vs) H):
  FnOk P w K mg j CX (k+1) f (ja name qual i B d dV kV U pm an z ct) ps sp:=by
 refine⟨len,λA outer s H args us vs Q E hr O hb r Z=>?_⟩;have hl:=len _ _ _ _ Z;have KX:=O.mod.kin.keeps λb o e=>(O.bs b o e).1
 have I:∀y∈ps.zip us,d.names.lookup y.1=uz .local∨(d.names.lookup y.1=uz .cell/\((cellsFrom (s.heap.objs.size+1) d.names []).lookup y.1).isSome=ux):=λ⟨n,v⟩ hy=>by
  rcases S.par n (List.of_mem_zip hy).1 with q|q
  .exact .inl q
  .exact .inr ⟨q,ve _ _ _ (.inl q)⟩
 refine codeAny_call_function hr.depth (KX _ _ lk) rfl S.co S.gen rfl (PySem.W.codeRec_of KX hcd) (hb _ _ _ _ ?_);refine wpAny_newFunctionEnv_cells S.kind I λenv he s1 x=>?_
 subst he;refine⟨(O.mod.nolimit.keeps λb o e=>(O.bs b o e).1).keeps x.toInCall.keep,codeAny_func ?_⟩;obtain⟨t,ht,hq⟩:=L A outer s H vs Q E (hr.deeper _) Z;refine vv (ht [] s1 (start N vs) H _ (ZRC S hr.hd O hl r x) hq) (λfl s' M=>?_) λe s' M=>M
 have Y:∀{F:St}{H':Hp}{v:V}{u:xB},Inv (G9 CX P w K mg j N qual d f z A outer s H E) [] F H' s'->RelV v u->Q v H'->CE outer P w H s Q u s':=
  λ{F H' v u}J rv q=>⟨v,H',J.os,J.bare,J.base,J.hok,rv,q⟩
 cases fl with
 |ret u=>
  obtain⟨v,F,H',J,rv,q⟩:=M;exact Y J rv q
 |next=>
  obtain⟨F,H',J,q⟩:=M;exact Y (v:=V.non) J rfl q
 |brk=>
  obtain⟨_,_,_,q⟩:=M;exact False.elim q
 |cont=>
  obtain⟨_,_,_,q⟩:=M;exact False.elim q
section
variable{X:Cx}{x:Str}{p pos:Pos}{e:xz}{es:List xz}{t:TA}{id T:String}{r:List V->Hp->VK->Prop}
noncomputable def tCB(r:List V->Hp->VK->Prop)(t:TA):TE:=λσ H Q=>t σ H λvs H1=>r vs H1 Q
theorem ZTo(U:CallR X (.builtin id) r)(J:Gl X x)(S:X.mg x=uj)(N:xL x=uz (.builtin id))(M:PA X (e::es) t)(B:x≠"__name__":=by decide)(j:(x==("__debug__":Str))=uv:=by decide)
  (Y:vX (e::es) X.env=(uv,eval e X.env)::vX es X.env:=by rfl) (i:(xF pos (vX es X.env)).any (·.1)=uv:=by rfl):PE X (.Call (.Name x p) (e::es) [] pos) (tCB r t):=by
 intro d s n H Q I h;refine vK (Gx I J S N ?_ B j);exact vf (thn (M pos d s n H _ I h) λF W ⟨O,q,z,L,y⟩=>U d W n q O F Q z L y) Y i
theorem ZNn(U:CallR X (.type T) r)(J:Gl X x)(S:X.mg x=uj)(N:xL x=uz (.type T))(M:PA X (e::es) t)(B:x≠"__name__":=by decide)(j:(x==("__debug__":Str))=uv:=by decide)
  (Y:vX (e::es) X.env=(uv,eval e X.env)::vX es X.env:=by rfl) (i:(xF pos (vX es X.env)).any (·.1)=uv:=by rfl):PE X (.Call (.Name x p) (e::es) [] pos) (tCB r t):=by
 intro d s n H Q I h;refine vK (Gx I J S N ?_ B j);exact zg (thn (M pos d s n H _ I h) λF W ⟨O,q,z,L,y⟩=>U d W n q O F Q z L y) Y i
end
end _L
namespace HT
open PySem PyProof.Rows
section
open PySem.SeqAt
open PySem.AutoSeq1 (wpAny_loadPart')
open PySem.MeetsSeq PySem.MeetsSeq2 PySem.MeetsSeq3
end
section
variable{prog:xk}{w:xC}{A:xq}{E:xB->x0->Prop}{s:x0}
theorem ZMy(ht:IsTup s.heap t vs.toArray)(hb:IsTup s.heap b i.toArray)(S:vs≠[])
  (h1:i=[]->Q (.ref t) s) (h2:i≠[]->Q (.ref s.heap.objs.size) {s with heap:=s.heap.push {cls:=.type "tuple",data:=.seq (vs++i).toArray}})
  (hsz:vs.length+i.length<=sizeLine):vW (xU prog w) A (xI .Add (.ref t) (.ref b)) Q E s:=by
 obtain⟨⟨M,W,q,N⟩,J,U,n,Z⟩:=id ht;obtain⟨⟨Y,I,L,y⟩,j,z,O,B⟩:=id hb;simp only at U Z z B;subst U Z z B;have e:vs.toArray++i.toArray=(vs++i).toArray:=by simp
 by_cases hw:i=[]
 .exact concat_meets ⟨_,J,rfl⟩ ⟨_,j,rfl⟩ noFill_tuple_add seq_tuple_add vg vh (wQ _ _)
   (tuple_addW1 t b vs.toArray i.toArray n O W I N y (by simpa using S) (by simp[hw])) ⟨J,j,h1 hw⟩
 .refine concat_meets ⟨_,J,rfl⟩ ⟨_,j,rfl⟩ noFill_tuple_add seq_tuple_add vg vh (wQ _ _)
   (tuple_addW2 t b vs.toArray i.toArray n O W I N y (by simpa using S) (by simpa using hw) (by rw[zK,zK];exact hsz)) ⟨J,j,?_⟩
  rw[e];exact h2 hw
noncomputable def sIx(n d:Nat):Option Int->Nat
 |none=>d
 |some v=>if v<0 then(v+(n:Int)).toNat else min v.toNat n
theorem ZSv(n d:Nat)(j:d<=n)(o:Option Int):sIx n d o<=n:=by
 cases o with
 |none=>exact j
 |some v=>
  show(if v<0 then(v+(n:Int)).toNat else min v.toNat n)<=n;by_cases i:v<0
  .rw[if_pos i];lia
  .rw[if_neg i];exact Nat.min_le_right _ _
theorem ZDO(v:Int)(n d:Nat):(if v<0 then max (v+(n:Int)) 0 else min v (n:Int))=((sIx n d (uz v):Nat):Int):=by
 show(if v<0 then max (v+(n:Int)) 0 else min v (n:Int))=(((if v<0 then(v+(n:Int)).toNat else min v.toNat n):Nat):Int);by_cases i:v<0
 .simp only[if_pos i];lia
 .simp only[if_neg i];lia
theorem ZQL(d i:Option Int)(n:Nat):Builtin.Slice.sliceAdjust d i 1 (n:Int)=(((sIx n 0 d:Nat):Int),((sIx n n i:Nat):Int)):=by
 have j:¬((1:Int)<0):=by lia
 unfold Builtin.Slice.sliceAdjust;simp only[j,if_false];refine Prod.ext ?_ ?_
 .cases d with
  |none=>rfl
  |some v=>exact ZDO v n 0
 .cases i with
  |none=>rfl
  |some v=>exact ZDO v n n
theorem ZPB(i j:Nat):Builtin.Slice.slicePlaces (i:Int) (j:Int) 1=j-i:=by
 unfold Builtin.Slice.slicePlaces;have d:(1:Int)>0:=by lia
 simp only[d,if_true,Int.ediv_one]
 split <;> lia
theorem ZJY(p:IsPart v o)(h:Q o s):vW (xU prog w) A (Builtin.Slice.slicePartIndex v) Q E s:=by
 cases p with
 |none=>exact slicePart_none h
 |int i t=>exact slicePart_int h
theorem ZIa{B:xY}{z y:xB}{d j:Option Int}{n:Nat}{Q:Int×Int×Nat->x0->Prop}(I:s.heap.IsSliceOf B z y .none)(pl:IsPart z d)(J:IsPart y j)
  (h:Q (((sIx n 0 d:Nat):Int),1,sIx n n j-sIx n 0 d) s):vW (xU prog w) A (Builtin.Slice.sliceApplied (.ref B) (pure (n:Int))) Q E s:=by
 obtain⟨L,i,F,q⟩:=id I;unfold Builtin.Slice.sliceApplied Builtin.Slice.sliceFields;refine vY (vY (vj i q (x:=z) rfl (vY (vj i q (x:=y) rfl (vY (vj i q rfl (v4 ?_)))))));refine vY (slicePart_none ?_);rw[if_neg (by decide)];refine vY (ZJY pl (vY (ZJY J (vY (v4 ?_)))))
 show vW _ _ (match Builtin.Slice.sliceAdjust d j 1 (n:Int)with |(d,j)=>pure (d,(1:Int),Builtin.Slice.slicePlaces d j 1)) _ _ s
 rw[ZQL d j n];show vW _ _ (pure (((sIx n 0 d:Nat):Int),(1:Int),Builtin.Slice.slicePlaces ((sIx n 0 d:Nat):Int) ((sIx n n j:Nat):Int) 1)) _ _ s;rw[ZPB];exact v4 h
theorem ZVt(xs:Array xB)(i k:Nat):((zX k).filterMap λ(m:Nat)=>xs[((i:Int)+(m:Int)*1).toNat]?).toArray=((xs.toList.drop i).take k).toArray:=by
 have e:(λ(m:Nat)=>xs[((i:Int)+(m:Int)*1).toNat]?)=λm=>xs[i+m]? :=by
  funext m;have:((i:Int)+(m:Int)*1).toNat=i+m:=by lia
  rw[this]
 rw[e];have:=pick_run xs i k;rw[qX]at this;have d:((λx=>xs[x]?) ∘ λx=>i+x)=λm=>xs[i+m]? :=rfl
 rw[d]at this;rw[this]
theorem ZMn{t sl:xY}{items:Array xB}{vl vu:xB}{lo hi:Option Int}{Q:xB->x0->Prop}(ht:IsTup s.heap t items)(hs:s.heap.IsSliceOf sl vl vu .none)(pl:IsPart vl lo)(pu:IsPart vu hi)
  (hw:¬(sIx items.size 0 lo=0/\sIx items.size items.size hi=items.size))
  (h:Q (.ref s.heap.objs.size) {s with heap:=s.heap.push {cls:=.type "tuple",data:=.seq ((items.toList.drop (sIx items.size 0 lo)).take (sIx items.size items.size hi-sIx items.size 0 lo)).toArray}})
  (hsz:items.size<=sizeLine):vW (xU prog w) A (getItem (.ref t) (.ref sl)) Q E s:=by
 have htake:sizeOk (.seq ((items.toList.drop (sIx items.size 0 lo)).take (sIx items.size items.size hi-sIx items.size 0 lo)).toArray):=by show((items.toList.drop (sIx items.size 0 lo)).take (sIx items.size items.size hi-sIx items.size 0 lo)).toArray.size<=sizeLine;rw[zK,jC,jN,qB];lia
 obtain⟨os,hos,hcs,hds⟩:=id hs;unfold getItem
 try with_reducible refine vx ?_
 first|refine vY (v4 ?_)|skip
 refine vY (wpAny_sequenceKey ht.typeIs (by decide) ?_);refine vY (vq ht.typeIs jf
  (vz jf ht.typeIs entry_tuple_getitem ?_ (args_tuple_getitem _ _)))
 show vW _ _ (Builtin.Tuple.tupleItemsOf (.ref t) >>=_) _ _ s;refine vY (tupleItemsOf_ ht ?_);refine vY (wpAny_typeOf ⟨os,hos,hcs⟩ ?_);rw[if_pos (by decide)];refine vY (ZIa hs pl pu ?_);have hno:¬((((sIx items.size 0 lo:Nat):Int)==0&&(1:Int)==1&&(sIx items.size items.size hi-sIx items.size 0 lo)==items.size)=ux):=by intro q;rw[z5,z5]at q;have q1:=eq_of_beq q.1.1;have q2:=eq_of_beq q.2;exact hw ⟨by lia,by lia⟩
 show vW _ _ (if(((sIx items.size 0 lo:Nat):Int)==0&&(1:Int)==1&&(sIx items.size items.size hi-sIx items.size 0 lo)==items.size)=ux then _ else _) _ _ s;rw[if_neg hno,ZVt]
 first
  |exact vY (vk (v4 ⟨_,rfl,v4 h⟩) htake)
  |exact vY (vk (vY (v4 (v4 ⟨_,rfl,v4 h⟩))) htake)
  |exact vY (vY (vk (v4 (v4 ⟨_,rfl,v4 h⟩)) htake))
  |exact vY (vY (vk (v4 ⟨_,rfl,v4 h⟩) htake))
end
end HT
namespace _L
open PySem PySem.Spec PyProof.Rows
variable{vA:List (xY×Obj)}{s:x0}
noncomputable abbrev TO:=St->Hp->(Option Int->Hp->Prop)->Prop
def PO(X:Cx)(e:Option xz)(t:TO):Prop:=
 ∀(vA:List (xY×Obj))(s:x0)(σ:St)(H:Hp)(Q:Option Int->Hp->Prop),Inv X vA σ H s->t σ H Q->
  vW (xU X.prog X.w) X.A (evalPart e X.env) (λu s'=>∃o H',Inv X vA σ H' s'/\IsPart u o/\Q o H') X.xe s
noncomputable def ZP9:TO:=λ_ H Q=>Q uj H
noncomputable def ZTf(t:TE):TO:=λσ H Q=>t σ H λx H1=>∃i,x=.int i/\Q (uz i) H1
section
variable{X:Cx}{e:xz}{te:TE}{lo hi:Option xz}{tl th:TO}{pos p2:Pos}
theorem ZQD:PO X uj ZP9:=by intro d s i H Q I h;rw[evalPart_none];exact v4 ⟨uj,H,I,.none,h⟩
theorem ZVj(h:PE X e te):PO X (uz e) (ZTf te):=by
 intro d s n H Q I hw;rw[evalPart_some];refine thn (h d s n H _ I hw) λu F ⟨x,j,z,B,y⟩=>?_
 obtain⟨i,rfl,q⟩:=y;obtain⟨t,rfl⟩:=B;exact⟨uz i,j,z,.int i t,q⟩
def SlR(X:Cx)(r:V->Option Int->Option Int->Hp->VK->Prop):Prop:=
 ∀(vA:List (xY×Obj))(s:x0)(σ:St)(H:Hp)(x:V)(v vl vu:xB)(lo hi:Option Int)(sl:xY)(Q:VK),Inv X vA σ H s->RelV x v->s.heap.IsSliceOf sl vl vu .none->IsPart vl lo->IsPart vu hi->r x lo hi H Q->
  ∃T id,typeLookup (.type T) "__getitem__"=pure (uz (.builtin id))/\s.TypeIs v T/\vW (xU X.prog X.w) X.A (getItem v (.ref sl)) (EP X vA σ Q) X.xe s
theorem SlR.or(h:SlR X r)(h':SlR X r'):SlR X (λx j i H Q=>r x j i H Q∨r' x j i H Q):=by
 intro d s y H x v M J j i n Q I F z L B q;rcases q with q|q
 .exact h d s y H x v M J j i n Q I F z L B q
 .exact h' d s y H x v M J j i n Q I F z L B q
noncomputable def tSl(r:V->Option Int->Option Int->Hp->VK->Prop)(te:TE)(tl th:TO):TE:=λσ H Q=>te σ H λx H1=>tl σ H1 λl H2=>th σ H2 λu H3=>r x l u H3 Q
theorem ZPZ(hr:SlR X r)(he:PE X e te)(hl:PO X lo tl)(hu:PO X hi th):PE X (.Subscript e (.Slice lo hi uj p2) pos) (tSl r te tl th):=by
 intro d s j H Q I h;refine Subscript_ (thn (he d s j H _ I h) λv Z ⟨x,F,S,r1,J⟩=>?_);refine wpAny_Slice (thn (hl d Z j F _ S J) λz Y ⟨l,H2,I2,O,N⟩=>thn (hu d Y j H2 _ I2 N) λB n ⟨u,L,I3,M,q3⟩=>?_);rw[evalPart_none];refine v4 ?_;obtain⟨T,id,W,ht,U⟩:=hr d {n with heap:=n.heap.push {cls:=.type "slice",data:=.fields #[z,B,.none]}} j L x v z B l u n.heap.objs.size Q (I3.kept (t':=n.toks) λb ob q=>zQ _ q) r1 (Heap.IsSliceOf.new ..) O M q3
 exact tail_any ht W U (by with_unfolding_all rfl)
def Mv(xs:List V)(lo hi:Option Int):List V:=(xs.drop (HT.sIx xs.length 0 lo)).take (HT.sIx xs.length xs.length hi-HT.sIx xs.length 0 lo)
theorem ZDB(xs:List V)(d i:Option Int):(Mv xs d i).length<=xs.length:=by unfold Mv;rw[jC,jN];lia
def rSlT(K:za):V->Option Int->Option Int->Hp->VK->Prop:=λx lo hi H Q=>∃a xs,x=.ref a/\SqT K H a xs/\
 ¬(HT.sIx xs.length 0 lo=0/\HT.sIx xs.length xs.length hi=xs.length)/\∀p,H p=uj->Q (.ref p) (upd H p (.tup (Mv xs lo hi)))
theorem ZM4:SlR X (rSlT X.K):=by
 intro B s U H x v Z Y n z S Q I M J N L h;obtain⟨a,i,rfl,O,hw,q⟩:=h;cases M;obtain⟨j,r,F,y⟩:=I.tuple O;have d:j.toArray.size=i.length:=by rw[zK];exact r.length.symm
 refine⟨"tuple",_,PyProof.Rows.slot_tuple_getitem.lookup,F.typeIs,?_⟩;refine HT.ZMn F J N L (by rw[d];exact hw) ?_ (by rw[d];exact y);rw[d];refine⟨.ref s.heap.objs.size,_,I.laid (λb W q=>zQ _ q) (zY _) ?_,rfl,q _ (I.hok.fresh (zY _))⟩;exact⟨z0 (ZDB i n z) y,_,(r.drop (HT.sIx i.length 0 n)).take (HT.sIx i.length i.length z-HT.sIx i.length 0 n),IsTup.new _ _⟩
def ZOm(K:za):R2:=λx y H Q=>∃a b xs ys,x=.ref a/\y=.ref b/\SqT K H a xs/\SqT K H b ys/\xs≠[]/\xs.length+ys.length<=sizeLine/\
 (ys=[]->Q (.ref a) H)/\(ys≠[]->∀p,H p=uj->Q (.ref p) (upd H p (.tup (xs++ys))))
theorem Vals.ZAn(r:Vals xs us):us=[]↔xs=[]:=by
 cases r with
 |nil=>simp
 |cons _ _=>simp
theorem ZMv:OpR X (xI .Add) (ZOm X.K):=by
 intro B s σ H x y v u Q I J W h;obtain⟨a,b,xs,Z,rfl,rfl,U,M,Y,j,F,L⟩:=h;cases J;cases W;obtain⟨S,i,O,_⟩:=I.tuple U;obtain⟨n,d,N,_⟩:=I.tuple M;refine HT.ZMy O N (λz=>Y (i.ZAn.mp z)) (λz=>⟨.ref a,H,I,rfl,F (d.ZAn.mp z)⟩) (λz=>?_) (by rw[<-i.length,<-d.length];exact j);refine⟨.ref s.heap.objs.size,_,I.laid (λb ob q=>zQ _ q) (zY _) ?_,rfl,L (λw=>z (d.ZAn.mpr w)) _ (I.hok.fresh (zY _))⟩
 exact⟨by rw[zL];exact j,_,i.append d,IsTup.new _ _⟩
end
noncomputable def ixN(n:Nat)(i:Int):Option Nat:=if 0<=i then(if i<n then uz i.toNat else uj)else if -(n:Int)<=i then uz (i+n).toNat else uj
def atI{α:Type}(xs:List α)(i:Int):Option α:=(ixN xs.length i).bind λj=>xs[j]?
theorem ZIL(h:ixN n i=uz j):seqIndex? i n=uz j/\j<n/\ -(n:Int)<=i/\i<n:=by
 unfold ixN at h;by_cases q:0<=i
 .rw[if_pos q]at h;by_cases d:i<n
  .rw[if_pos d]at h;have e:=Option.some.inj h;exact⟨by rw[seqIndex_of q d,e],by lia,by lia,d⟩
  .rw[if_neg d]at h;cases h
 .rw[if_neg q]at h;by_cases d: -(n:Int)<=i
  .rw[if_pos d]at h;have e:=Option.some.inj h;exact⟨by rw[seqIndex_neg (by lia) d,e],by lia,d,by lia⟩
  .rw[if_neg d]at h;cases h
theorem Rz{d:Type}{xs:List d}{i:Int}{v:d}(h:atI xs i=uz v):∃j,seqIndex? i xs.length=uz j/\xs[j]?=uz v/\j<xs.length/\ -(xs.length:Int)<=i/\i<xs.length:=by
 unfold atI at h;cases e:ixN xs.length i with
 |none=>rw[e]at h;cases h
 |some j=>
  rw[e]at h;obtain⟨n,q,y,z⟩:=ZIL e;exact⟨j,n,h,q,y,z⟩
def PlainIx(b:xz):Prop:=∀o i,subscripted b uv o i=operate [o,i] (getItem o i)
def IxR(X:Cx)(r:R2):Prop:=
 ∀(value slice:xz)(vA:List (xY×Obj))(s:x0)(σ:St)(H:Hp)(x y:V)(v u:xB)(Q:VK),Inv X vA σ H s->RelV x v->RelV y u->r x y H Q->
  subscripted slice uv v u=operate [v,u] (getItem v u)->vW (xU X.prog X.w) X.A (subscriptTail value slice v u) (EP X vA σ Q) X.xe s
def MtR(X:Cx)(id:String)(r:V->List V->Hp->VK->Prop):Prop:=
 ∀(vA:List (xY×Obj))(s:x0)(σ:St)(H:Hp)(x:V)(xs:List V)(v:xB)(us:List xB)(Q:VK),Inv X vA σ H s->RelV x v->Vals xs us->r x xs H Q->
  vW (xU X.prog X.w) X.A (call (.builtin id) (v::us)) (EP X vA σ Q) X.xe s
section
variable{X:Cx}{a b:xz}{ta tb:TE}{pos:Pos}
theorem IxR.or(h:IxR X r)(h':IxR X r'):IxR X (λx y H Q=>r x y H Q∨r' x y H Q):=by
 intro d i j s n H x y v u Q I B F q z;rcases q with q|q
 .exact h d i j s n H x y v u Q I B F q z
 .exact h' d i j s n H x y v u Q I B F q z
theorem ZJR(J:IxR X r)(F:PE X a ta)(n:PE X b tb)(j:PlainIx b):PE X (.Subscript a b pos) (tOp r ta tb):=by intro d s i H Q I h;exact Subscript_ (Xi F n I h λv u z x y N L B M q=>J a b d z i N x y v u Q L B M q (j _ _))
def rIxL(K:za):R2:=λx y H Q=>∃p xs i v,x=.ref p/\y=.int i/\SqL K H p xs/\atI xs i=uz v/\Q v H
def rIxT(K:za):R2:=λx y H Q=>∃p xs i v,x=.ref p/\y=.int i/\SqT K H p xs/\atI xs i=uz v/\Q v H
def rIxS:R2:=λx y H Q=>∃z i c,x=.str z/\y=.int i/\z.length<=sizeLine/\atI z.cps.toList i=uz c/\Q (.str ⟨#[c]⟩) H
theorem ZQd:IxR X (rIxL X.K):=by
 intro value slice vA s σ H x y v u Q I rx ry h hs;obtain⟨p,xs,i,z,rfl,rfl,hq,he,q⟩:=h;cases rx;obtain⟨t,rfl⟩:=ry;obtain⟨its,r,pl,hz⟩:=I.list hq;obtain⟨j,h1,h2,h3,h4,h5⟩:=Rz he;obtain⟨w,ew,rw'⟩:=r.get h2;have hl:=r.length;have hn:=line63;have fin:EP X vA σ Q w s:=⟨z,H,I,rw',q⟩;by_cases h0:0<=i
 .have hj:i.toNat=j:=by rw[seqIndex_of h0 h5]at h1;exact Option.some.inj h1
  exact item_listR pl.isList h0 (by lia) (by rw[hj];simpa using ew) fin hs
 .have hj:(i+(its.toArray.size:Int)).toNat=j:=by rw[seqIndex_neg (by lia) h4]at h1;rw[zK,<-hl];exact Option.some.inj h1
  exact subscriptTail_builtinR pl.isList.typeIs slot_list_getitem.lookup
   (wpAny_getItem_list_neg pl.isList (by lia) (by rw[zK]<;>lia) (by lia) (by rw[hj];simpa using ew) ⟨rfl,fin⟩) hs
theorem ZRN:IxR X (rIxT X.K):=by
 intro value slice vA s σ H x y v u Q I rx ry h hs;obtain⟨p,xs,i,z,rfl,rfl,hq,he,q⟩:=h;cases rx;obtain⟨t,rfl⟩:=ry;obtain⟨its,r,pl,hz⟩:=I.tuple hq;obtain⟨j,h1,h2,h3,h4,h5⟩:=Rz he;obtain⟨w,ew,rw'⟩:=r.get h2;have hn:=line63;exact subscriptTail_builtinR pl.typeIs slot_tuple_getitem.lookup
  (getItem_tuple pl (by lia) (by lia) (by rw[zK,<-r.length];exact h1) (by simpa using ew) ⟨rfl,⟨z,H,I,rw',q⟩⟩) hs
theorem ZMt:IxR X rIxS:=by
 intro value slice vA s σ H x y v u Q I rx ry h hs;obtain⟨z,i,c,rfl,rfl,hz,he,q⟩:=h;obtain⟨t,rfl⟩:=rx;obtain⟨t',rfl⟩:=ry;obtain⟨j,h1,h2,h3,h4,h5⟩:=Rz he;have hl:z.cps.toList.length=z.length:=by simp[Str.length]
 rw[hl]at h1 h4 h5;have hn:=line63;exact tail_any (typeIs_str s z t) slot_str_getitem.lookup (getItem_str (by rw[decide_eq_false (by lia),decide_eq_false (by lia),Bool.or_false]) (by rw[h1];simpa using h2) ⟨.str ⟨#[c]⟩,H,I.tok _,⟨_,rfl⟩,q⟩) hs
def rIx(K:za):R2:=λx y H Q=>rIxL K x y H Q∨rIxT K x y H Q∨rIxS x y H Q
theorem ZKS:IxR X (rIx X.K):=ZQd.or (ZRN.or ZMt)
theorem ZTu(its:List xB)(n j:Nat)(u:xB):Obj.mapSeq (·.setIfInBounds j u) {cls:=.type "list",data:=.seq its.toArray n}={cls:=.type "list",data:=.seq (its.set j u).toArray n}:=by simp[Obj.mapSeq]
theorem Inv.lst{d:St}{H:Hp}{p:xY}{xs:List V}(I:Inv X vA d H s)(h:H p=uz (.lst xs)):
  ∃(its:List xB)(n:Nat),Vals xs its/\s.heap.get? p=uz {cls:=.type "list",data:=.seq its.toArray n}/\xs.length<=sizeLine:=by
 obtain⟨z,its,n,r,e⟩:=I.hok p _ h;exact⟨its,n,r,e,z⟩
theorem Inv.ZWE{j:St}{H:Hp}{p:xY}{xs ys:List V}{its its':List xB}{n i:Nat}{f:Obj->Obj}(I:Inv X vA j H s)(h:H p=uz (.lst xs))
  (ho:s.heap.get? p=uz {cls:=.type "list",data:=.seq its.toArray n}) (z:f {cls:=.type "list",data:=.seq its.toArray n}={cls:=.type "list",data:=.seq its'.toArray i}) (r:Vals ys its') (hz:ys.length<=sizeLine) (t:Nat):
  Inv X vA j (upd H p (.lst ys)) {s with heap:=s.heap.update p f,toks:=t}:=by
 have e:(s.heap.update p f).get? p=uz {cls:=.type "list",data:=.seq its'.toArray i}:=by rw[qj f ho (by rw[z]<;>rfl),z]
 refine I.write (by rw[h];trivial) (.inl rfl) (λb u B q=>(q8 _ _ (Ne.symm B)).trans q) ⟨_,e⟩ ?_;exact⟨hz,its',i,r,e⟩
def ZRu:V->V->V->Hp->(Hp->Prop)->Prop:=λo i v H Q=>∃p xs k j,o=.ref p/\i=.int k/\H p=uz (.lst xs)/\ixN xs.length k=uz j/\Q (upd H p (.lst (xs.set j v)))
theorem set_list:PSet X ZRu:=by
 intro vA s σ H o i v ov iv u Q I ro ri rv h;obtain⟨p,xs,k,j,rfl,rfl,hp,hj,q⟩:=h;cases ro;obtain⟨t,rfl⟩:=ri;obtain⟨its,n,r,ho,hz⟩:=I.lst hp;obtain⟨h1,h2,h3,h4⟩:=ZIL hj;have hl:=r.length;have hn:=line63;have I':=
  I.ZWE hp ho (ZTu its n j u) (r.set rv j) (by rw[jw];exact hz) s.toks
 by_cases h0:0<=k
 .have hk:k.toNat=j:=by rw[seqIndex_of h0 h4]at h1;exact Option.some.inj h1
  exact PySem.W.ki_setAt ho h0 (by lia) (by rw[zK,<-hl];exact h4) (by rw[hk];exact⟨_,I',q⟩)
 .have hk:(k+(its.toArray.size:Int)).toNat=j:=by rw[seqIndex_neg (by lia) h3]at h1;rw[zK,<-hl];exact Option.some.inj h1
  exact PySem.W.ki_setBack ho (by lia) (by rw[zK,<-hl];exact h3) (by lia) (by rw[hk];exact⟨_,I',q⟩)
theorem ZS3(d j:Option Int)(n:Nat):(vJ d j uj n).1=((HT.sIx n 0 d:Nat):Int)/\(vJ d j uj n).2.1=((HT.sIx n n j:Nat):Int)/\(vJ d j uj n).2.2=1:=by
 refine⟨?_,?_,rfl⟩
 .cases d with
  |none=>simp[vJ,HT.sIx]
  |some i=>
   simp only[vJ,HT.sIx,Option.getD_none,show(1:Int)>0 by decide,if_true];by_cases h:i<0
   .simp only[h,if_true]<;>lia
   .simp only[h,if_false]<;>lia
 .cases j with
  |none=>simp[vJ,HT.sIx]
  |some i=>
   simp only[vJ,HT.sIx,Option.getD_none,show(1:Int)>0 by decide,if_true];by_cases h:i<0
   .simp only[h,if_true]<;>lia
   .simp only[h,if_false]<;>lia
theorem ZVg(its:List xB)(d i:Option Int):slicePick its.toArray d i uj=((its.drop (HT.sIx its.length 0 d)).take (HT.sIx its.length its.length i-HT.sIx its.length 0 d)).toArray:=by
 obtain⟨j,n,q⟩:=ZS3 d i its.toArray.size;unfold slicePick;rw[j,n,q]
 simp only[sliceRange_one,pick_run,zK]<;>rfl
def rSlL(K:za):V->Option Int->Option Int->Hp->VK->Prop:=λx lo hi H Q=>∃a xs,x=.ref a/\SqL K H a xs/\∀p,H p=uj->Q (.ref p) (upd H p (.lst (Mv xs lo hi)))
theorem ZOJ:SlR X (rSlL X.K):=by
 intro y s U H x v Z Y j n S Q I M J N L h;obtain⟨a,i,rfl,O,q⟩:=h;cases M;obtain⟨F,r,z,B⟩:=I.list O;have d:=r.length;refine⟨"list",_,slot_list_getitem.lookup,z.isList.typeIs,?_⟩
 refine wpAny_getItem_list_slice z.isList J N L .none (by simp) ?_ (by rw[zK]<;>lia)
 rw[ZVg,<-d];refine⟨.ref s.heap.objs.size,_,I.laid (λb W q=>zQ _ q) (zY _) ?_,rfl,q _ (I.hok.fresh (zY _))⟩;exact⟨z0 (ZDB i j n) B,_,0,(r.drop (HT.sIx i.length 0 j)).take (HT.sIx i.length i.length n-HT.sIx i.length 0 j),zy _ rfl⟩
noncomputable def Cq:V->Bool
 |.non=>ux
 |.bl _=>ux
 |.int _=>ux
 |.str _=>ux
 |_=>uv
noncomputable def eqV:V->V->Bool
 |.non,.non=>ux
 |.bl a,.bl b=>a==b
 |.bl a,.int b=>(if a then 1 else 0)==b
 |.int a,.bl b=>a==(if b then 1 else 0)
 |.int a,.int b=>a==b
 |.str a,.str b=>a==b
 |_,_=>uv
theorem ZJ5(n:RelV y u)(d:RelV x v)(q:Cq y=ux)(j:Cq x=ux):SeqAt.EqAt A s u v (eqV y x):=by
 cases y with
 |non=>
  cases n;cases x with
  |non=>cases d;exact wZ _
  |bl b=>cases d;exact SeqAt.EqAt.none_bool b
  |int b=>obtain⟨t,rfl⟩:=d;exact SeqAt.EqAt.none_int b t
  |str b=>obtain⟨t,rfl⟩:=d;exact SeqAt.EqAt.none_str b t
  |_=>exact absurd (j) zw
 |bl a=>
  cases n;cases x with
  |non=>cases d;exact SeqAt.EqAt.bool_none a
  |bl b=>cases d;exact SeqAt.EqAt.bool_bool a b
  |int b=>obtain⟨t,rfl⟩:=d;exact SeqAt.EqAt.bool_int a b t
  |str b=>obtain⟨t,rfl⟩:=d;exact SeqAt.EqAt.bool_str a b t
  |_=>exact absurd (j) zw
 |int a=>
  obtain⟨i,rfl⟩:=n;cases x with
  |non=>cases d;exact SeqAt.EqAt.int_none a i
  |bl b=>cases d;exact SeqAt.EqAt.int_bool a i b
  |int b=>obtain⟨t,rfl⟩:=d;exact wW a i b t
  |str b=>obtain⟨t,rfl⟩:=d;exact vO a i b t
  |_=>exact absurd (j) zw
 |str a=>
  obtain⟨i,rfl⟩:=n;cases x with
  |non=>cases d;exact SeqAt.EqAt.str_none a i
  |bl b=>cases d;exact SeqAt.EqAt.str_bool a i b
  |int b=>obtain⟨t,rfl⟩:=d;exact vP a i b t
  |str b=>obtain⟨t,rfl⟩:=d;exact SeqAt.EqAt.str_str a i b t
  |_=>exact absurd (j) zw
 |_=>exact absurd (q) zw
def eqU(x:V)(u:xB):Bool:=match u with
 |.none=>eqV .non x
 |.bool b=>eqV (.bl b) x
 |.int i _=>eqV (.int i) x
 |.str z _=>eqV (.str z) x
 |_=>uv
theorem ZGU(r:RelV y u)(f:Cq y=ux):eqU x u=eqV y x:=by
 cases y with
 |non=>cases r;rfl
 |bl b=>cases r;rfl
 |int i=>obtain⟨t,rfl⟩:=r;rfl
 |str z=>obtain⟨t,rfl⟩:=r;rfl
 |_=>exact absurd (f) zw
theorem ZBL:∀{xs:List V}{us:List xB},Vals xs us->xs.all Cq=ux->us.any (eqU x)=xs.any λy=>eqV y x
 |_,_,.nil,_=>rfl
 |y::xs,u::us,.cons r t,f=>by rw[qN,z5]at f;rw[j4,j4,ZGU r f.1,ZBL t f.2]
theorem ZAu(j:RelV x v)(i:Cq x=ux):∀{xs:List V}{us:List xB},Vals xs us->xs.all Cq=ux->∀u∈us,SeqAt.EqAt A s u v (eqU x u)
 |_,_,.nil,_=>λu d=>by cases d
 |y::xs,u::us,.cons r t,f=>λn d=>by
  rw[qN,z5]at f;rcases zj.mp d with rfl|d
  .rw[ZGU r f.1];exact ZJ5 r j f.1 i
  .exact ZAu j i t f.2 n d
def inV(x:V)(xs:List V):Bool:=xs.any λy=>eqV y x
def rIn(K:za)(neg:Bool):R2:=λx y H Q=>∃p xs,y=.ref p/\(SqL K H p xs∨SqT K H p xs)/\Cq x=ux/\xs.all Cq=ux/\Q (.bl (if neg then !inV x xs else inV x xs)) H
theorem ZOd:OpR X (xO .NotIn) (rIn X.K ux):=by
 intro B s L H x y v u Q I z J h;obtain⟨p,M,rfl,i,n,fs,q⟩:=h;cases J;rcases i with i|i
 .obtain⟨d,r,j,F⟩:=I.list i;refine wK (eqU x) j.isList (λw hw=>ZAu z n r fs w (by simpa using hw)) ⟨.bl _,H,I,rfl,?_⟩;rw[show d.toArray.any (eqU x)=d.any (eqU x) by simp,ZBL r fs];exact q
 .obtain⟨d,r,j,F⟩:=I.tuple i;refine wq (eqU x) j (λw hw=>ZAu z n r fs w (by simpa using hw)) ⟨.bl _,H,I,rfl,?_⟩;rw[show d.toArray.any (eqU x)=d.any (eqU x) by simp,ZBL r fs];exact q
theorem ZQl:CallR X (.builtin "len") (λxs H Q=>∃p ys,xs=[.ref p]/\(SqL X.K H p ys∨SqT X.K H p ys)/\Q (.int ys.length) H):=by
 intro vA s σ H xs us Q I r h;obtain⟨p,ys,rfl,hq,q⟩:=h;obtain⟨u,rfl,rx⟩:=vals1 r;cases rx;have hn:=line63;rcases hq with hq|hq
 .obtain⟨its,r',pl,hz⟩:=I.list hq;have hlen:=r'.length
  exact Calls.call_len_list pl.isList (by simp only[zK]<;>lia) ⟨.int ys.length,H,I.tok _,⟨s.toks+1,by rw[zK,hlen]⟩,q⟩
 .obtain⟨its,r',pl,hz⟩:=I.tuple hq;have hlen:=r'.length
  exact len_tuple pl (by simp only[zK]<;>lia) ⟨.int ys.length,H,I.tok _,⟨s.toks+1,by rw[zK,hlen]⟩,q⟩
theorem ZRH:CallR X (.builtin "len") (λxs H Q=>∃z,xs=[.str z]/\z.length<=sizeLine/\Q (.int z.length) H):=by intro vA s σ H xs us Q I r h;obtain⟨z,rfl,hz,q⟩:=h;obtain⟨u,rfl,t,rfl⟩:=vals1 r;have hn:=line63;exact len_str (by lia) ⟨.int z.length,H,I.tok _,⟨_,rfl⟩,q⟩
theorem CallR.or(h:CallR X f r)(h':CallR X f r'):CallR X f (λxs H Q=>r xs H Q∨r' xs H Q):=by
 intro d s i H xs j Q I n q;rcases q with q|q
 .exact h d s i H xs j Q I n q
 .exact h' d s i H xs j Q I n q
theorem ZRm:CallR X (.type "list") (λxs H Q=>∃p ys,xs=[.ref p]/\(SqL X.K H p ys∨SqT X.K H p ys)/\∀l,H l=uj->Q (.ref l) (upd H l (.lst ys))):=by
 intro M s σ H xs us Q I r h;obtain⟨p,ys,rfl,B,q⟩:=h;obtain⟨u,rfl,Z⟩:=vals1 r;cases Z;have J:∀(d:List xB),Vals ys d->ys.length<=sizeLine->∀(j:Heap)(z:Nat),(∀b Y,s.heap.get? b=uz Y->j.get? b=uz Y)->
   j.get? s.heap.objs.size=uz {cls:=.type "list",dict:=uj,data:=.seq d.toArray z,slots:= #[]}->EP X M σ Q (.ref s.heap.objs.size) {s with heap:=j}:=λd y F j z L e=>
  ⟨.ref s.heap.objs.size,_,I.laid L (zY _) (show ObjOk X.prog X.w _ j _ (.lst ys)from⟨F,d,z,y,e⟩),rfl,q _ (I.hok.fresh (zY _))⟩
 rcases B with B|B
 .obtain⟨d,y,O,F⟩:=I.list B;have N:=y.length;obtain⟨o,W,S,n,U⟩:=O.isList
  exact call_list_seq p (.inl rfl) W S U (λj z L e=>J d y F j z L e) (by simp only[zK]<;>lia)
 .obtain⟨d,y,O,F⟩:=I.tuple B;have N:=y.length;obtain⟨o,W,S,n,U⟩:=O
  exact call_list_seq p (.inr rfl) W S U (λj z L e=>J d y F j z L e) (by simp only[zK]<;>lia)
theorem ZLf:CallR X (.type "tuple") (λxs H Q=>∃p ys,xs=[.ref p]/\((SqL X.K H p ys/\∀l,H l=uj->Q (.ref l) (upd H l (.tup ys)))∨(SqT X.K H p ys/\Q (.ref p) H))):=by
 intro B s N H xs O Q I r h;obtain⟨p,ys,rfl,h⟩:=h;obtain⟨u,rfl,L⟩:=vals1 r;cases L;rcases h with⟨i,q⟩|⟨i,q⟩
 .obtain⟨d,j,n,z⟩:=I.list i;have F:=j.length
  refine call_tuple_list n.isList (λM J=>?_) (by simp only[zK]<;>lia)
  have y:=I.kept (t':=s.toks) J
  exact⟨.ref M.objs.size,_,y.laid (λb o e=>zQ _ e) (zY _) (show ObjOk X.prog X.w _ _ _ (.tup ys)from⟨z,d,j,IsTup.new _ _⟩),rfl,q _ (y.hok.fresh (zY _))⟩
 .obtain⟨d,j,n,z⟩:=I.tuple i;exact call_tuple_same n ⟨.ref p,H,I,rfl,q⟩
def tyV(K:za)(T:String)(x:V)(H:Hp):Prop:=match x with
 |.str _=>T="str"
 |.int _=>T="int"
 | .ref p=>(T="list"/\∃xs,SqL K H p xs)∨(T="tuple"/\∃o,K.lookup p=uz o/\o.cls=.type "tuple"/\o.dict=uj)∨
   (T="dict"/\((∃kvs,H p=uz (.dK kvs))∨∃kvs,H p=uz (.dT kvs)))∨(T="set"/\∃S n,H p=uz (.set S n))
 |_=>False
theorem ZUi{J:St}{H:Hp}{T:String}{x:V}{v:xB}(I:Inv X vA J H s)(r:RelV x v)(ty:tyV X.K T x H):
  s.TypeIs v T/\∀a,v=.ref a->∃B,s.heap.get? a=uz B/\B.dict=uj:=by
 cases x with
 |str z=>
  obtain⟨t,rfl⟩:=r;cases(ty)
  exact⟨typeIs_str s z t,λ_ e=>nomatch e⟩
 |int i=>
  obtain⟨t,rfl⟩:=r;cases(ty)
  exact⟨typeIs_int s i t,λ_ e=>nomatch e⟩
 | ref p=>
  cases r;rcases ty with⟨rfl,O,L⟩|⟨rfl,o,hk,N,q⟩|⟨rfl,hk⟩|⟨rfl,S,n,hk⟩
  .obtain⟨M,_,F,_⟩:=I.list L;refine⟨F.isList.typeIs,λa e=>?_⟩;cases e;obtain⟨o,n,e,c,q,_⟩:=F;exact⟨o,e,q⟩
  .refine⟨⟨o,I.kIn p o hk,N⟩,λa e=>?_⟩;cases e;exact⟨o,I.kIn _ o hk,q⟩
  .have z:∃o,s.heap.get? p=uz o/\o.ExactDict:=by
    rcases hk with⟨j,hk⟩|⟨j,hk⟩
    .obtain⟨_,_,_,_,o,_,_,e,d,_⟩:=I.hok p _ hk;exact⟨o,e,d⟩
    .obtain⟨_,_,_,_,o,_,_,e,d,_⟩:=I.hok p _ hk;exact⟨o,e,d⟩
   obtain⟨o,e,d⟩:=z;refine⟨⟨o,e,d.1⟩,λa y=>?_⟩;cases y;exact⟨o,e,d.2.1⟩
  .obtain⟨o,_,_,_,e,d,_⟩:=I.hok p _ hk;refine⟨⟨o,e,d.1⟩,λa y=>?_⟩;cases y;exact⟨o,e,d.2.1⟩
 |_=>exact False.elim ty
noncomputable def tBM(K:za)(T:String)(r:V->List V->Hp->VK->Prop)(to:TE)(t:TA):TE:=λσ H Q=>to σ H λx H1=>tyV K T x H1/\t σ H1 λxs H2=>r x xs H2 Q
variable{o e:xz}{es:List xz}{to:TE}{t:TA}{name:Str}{apos cpos:Pos}{T id:String}{r:V->List V->Hp->VK->Prop}
theorem ZN2(pa:PlainAttrs T)(y:Slot T name id)(z:typeOf (.builtin id)=pure (.type "method_descriptor"))(hm:MtR X id r)(ho:PE X o to)(ha:PA X (e::es) t)
  (j:xE o name X.env (eval o X.env)=eval o X.env:=by rfl)
  (q:((xF cpos (vX (e::es) X.env)).all (λx=> !x.1)&&(xG cpos (xR [] X.env)).all (λx=>x.1.isSome)
   && decide ((e::es).length+([]:List Keyword).length+(if([]:List Keyword).isEmpty then 0 else 1)<30))=ux:=by rfl)
  (n:(apos.endLine==cpos.line)=ux:=by rfl) (Y:vX (e::es) X.env=(uv,eval e X.env)::vX es X.env:=by rfl) (i:(xF cpos (vX es X.env)).any (·.1)=uv:=by rfl):
  PE X (.Call (.Attribute o name apos) (e::es) [] cpos) (tBM X.K T r to t):=by
 intro d s B H Q I h;refine wpAny_Call_method_late j q n rfl (thn (ho d s B H _ I h) λv s1 ⟨x,M,J,L,ty,N⟩=>?_);obtain⟨W,O⟩:=ZUi J L ty;refine⟨T,id,pa,y,z,W,O,?_⟩;have F:=ha cpos d s1 B M _ J N;rw[Y]at F⊢
 refine Calls.callWith_builtin (by show(uv||(xF cpos (vX es X.env)).any (·.1))=uv;rw[i]<;>rfl) (Calls.evalArgs_plain ?_)
 exact thn F λus Z ⟨vs,H2,I2,S,U⟩=>hm d Z B H2 x vs v us Q I2 L S U
end
def MtM(X:Cx)(id:String)(r:V->List V->Hp->VK->Prop):Prop:=
 ∀(vA:List (xY×Obj))(s:x0)(σ:St)(H:Hp)(x:V)(xs:List V)(v:xB)(us:List xB)(Q:VK),Inv X vA σ H s->RelV x v->Vals xs us->r x xs H Q->
  vW (xU X.prog X.w) X.A (call (.builtin id) (v::us)) (EP X vA σ Q) X.xe s
theorem Vals.one:∀{x:V}{us:List xB},Vals [x] us->∃u,us=[u]/\RelV x u:=by intro x us h;cases h with |cons r t=>cases t;exact⟨_,rfl,r⟩
theorem Vals.rep(h:Vals xs us):∀k:Nat,Vals (zZ k xs).flatten (zZ k us).flatten
 |0=>.nil
 |k+1=>by rw[zH,zH,qq,qq];exact Vals.append h (Vals.rep h k)
theorem foldl_rep(its:List xB):∀(k:Nat)(d:List xB),
  List.foldl (λx1 i=>x1++i) d.toArray (zZ k its.toArray)=(d++(zZ k its).flatten).toArray
 |0,d=>by simp
 |k+1,d=>by
  have e:d.toArray++its.toArray=(d++its).toArray:=by simp
  have j:(d++its)++(zZ k its).flatten=d++(zZ (k+1) its).flatten:=by rw[zH,qq,qP]
  rw[<-j,<-foldl_rep its k (d++its),<-e,zH,jG]
section
variable{X:Cx}{vA:List (xY×Obj)}{σ:St}{H:Hp}{s:x0}{l b:xY}{xs ys zs:List V}
theorem Inv.lset{its its':List xB}{n:Nat}{f:Array xB->Array xB}{t':Nat}(I:Inv X vA σ H s)(hH:H l=uz (.lst xs))
  (e:s.heap.get? l=uz {cls:=.type "list",data:=.seq its.toArray n}) (hf:f its.toArray=its'.toArray) (hv:Vals ys its') (hz:ys.length<=sizeLine):
  Inv X vA σ (upd H l (.lst ys)) {s with heap:=s.heap.update l (Obj.mapSeq f),toks:=t'}:=by
 have q:=PySem.IsL.update e f;rw[hf]at q;refine I.write (by rw[hH];exact trivial) (.inl rfl) (λb' u hb hu=>(q8 s.heap (Obj.mapSeq f) (Ne.symm hb)).trans hu) ⟨_,q⟩ ?_;exact⟨hz,its',_,hv,q⟩
theorem Inv.lnew(I:Inv X vA σ H s)(y:Vals ys its)(hz:ys.length<=sizeLine):
  Inv X vA σ (upd H s.heap.objs.size (.lst ys)) {s with heap:=s.heap.push {cls:=.type "list",data:=.seq its.toArray},toks:=t'}:=
 I.laid (λ_ _ q=>zQ _ q) (zY _) ⟨hz,its,0,y,zy _ rfl⟩
theorem Inv.fresh(I:Inv X vA σ H s):H s.heap.objs.size=uj:=I.hok.fresh (zY _)
theorem Inv.Y8(I:Inv X vA σ H s)(d:H l=uz (.lst xs)):xs.length<=sizeLine/\∃(its:List xB)(n:Nat),Vals xs its/\xs.length=its.length/\s.heap.get? l=uz {cls:=.type "list",data:=.seq its.toArray n}:=by obtain⟨z,its,n,r,e⟩:=I.hok l _ d;exact⟨z,its,n,r,r.length,e⟩
theorem ZFi(h:n<=sizeLine):jg n=uv:=by unfold jg;exact decide_eq_false (by lia)
end
section
variable{X:Cx}
def ZVp:V->List V->Hp->VK->Prop:=λx vs H Q=>∃l xs y,x=.ref l/\vs=[y]/\H l=uz (.lst xs)/\xs.length<sizeLine/\Q .non (upd H l (.lst (xs++[y])))
theorem ZRx:MtM X "list.append" ZVp:=by
 intro vA s σ H x vs v us Q I rx rv h;obtain⟨l,xs,y,rfl,rfl,hH,hz,q⟩:=h;cases rx;obtain⟨u,rfl,ru⟩:=rv.one;obtain⟨z,its,n,r,hl,e⟩:=I.Y8 hH;refine call_meets F.slot_list_append ⟨_,e,rfl⟩ F.entry_list_append (F.args_list_append_2 _ _) (PySem.list_append l its.toArray n u (by rw[zK];lia)) ⟨e,?_⟩;refine⟨.non,_,I.lset hH e (by simp) (r.append (.cons ru .nil)) ?_,rfl,q⟩;rw[zL,j6]
 lia
def ZRI:V->List V->Hp->VK->Prop:=λx vs H Q=>∃l b xs zs,x=.ref l/\vs=[.ref b]/\H l=uz (.lst xs)/\H b=uz (.lst zs)/\xs.length+zs.length<=sizeLine/\Q .non (upd H l (.lst (xs++zs)))
theorem ZRa:MtM X "list.extend" ZRI:=by
 intro vA s σ H x vs v us Q I rx rv h;obtain⟨l,b,xs,zs,rfl,rfl,hH,hB,hz,q⟩:=h;cases rx;obtain⟨u,rfl,ru⟩:=rv.one;cases ru;obtain⟨z,its,n,r,hl,e⟩:=I.Y8 hH;obtain⟨z2,its2,n2,r2,hl2,e2⟩:=I.Y8 hB;have hsz:its.toArray.size+its2.toArray.size<=sizeLine:=by rw[zK,zK];lia
 have hlong:¬(!its.toArray.isEmpty&&jg (its.toArray.size+its2.toArray.size))=ux:=by rw[ZFi hsz,Bool.and_false];exact zw
 refine call_meets F.slot_list_extend ⟨_,e,rfl⟩ F.entry_list_extend (F.args_list_extend_2 _ _)
  (AutoSeq1.list_extend_list_list_0 l its.toArray n b its2.toArray n2 hlong (by rw[zK];lia) (by lia)) ⟨e,e2,?_⟩
 refine⟨.non,_,I.lset hH e (by simp) (r.append r2) ?_,rfl,q⟩;rw[zL];lia
def rRep:R2:=λx y H Q=>∃l k xs,x=.ref l/\y=.int k/\Rd H l (.lst xs)/\ -(2^63)<=k/\k<2^63/\xs.length*k.toNat<=sizeLine/\
 ∀p,H p=uj->Q (.ref p) (upd H p (.lst (zZ k.toNat xs).flatten))
theorem len_rep{d:Type}(xs:List d)(k:Nat):(zZ k xs).flatten.length=k*xs.length:=by
 induction k with
 |zero=>simp
 |succ k i=>rw[zH,qq,zL,i,Nat.succ_mul,Nat.add_comm]
theorem ZV3:OpR X (xI .Mult) rRep:=by
 intro vA s σ H x y v u Q I rx ry h;obtain⟨l,k,xs,rfl,rfl,hH,h1,h2,hz,q⟩:=h;cases rx;obtain⟨t,rfl⟩:=ry;obtain⟨z,its,n,r,e⟩:=hH.ok I.hok;have hl:=r.length;have hlen:its.toArray.size*k.toNat<=sizeLine:=by rw[zK,<-hl];exact hz
 have hcap:¬its.toArray.size*k.toNat>(2^63-1)/8:=by
  have:(sizeLine:Nat)<=(2^63-1)/8:=by decide
  lia
 have hfit:¬(!Builtin.List.listFitsIndex k)=ux:=by rw[fitsIndex_both h1 h2];exact zw
 have hlong:¬jg (its.toArray.size*k.toNat)=ux:=by rw[ZFi hlen];exact zw
 have hnew:List.foldl (λx1 x2=>x1++x2) #[] (zZ (if its.toArray.isEmpty=ux then 0 else k.toNat) its.toArray)=(zZ k.toNat its).flatten.toArray:=by
  have f0:∀m:Nat,List.foldl (λx1 x2=>x1++x2) #[] (zZ m its.toArray)=(zZ m its).flatten.toArray:=λm=>by have:=foldl_rep its m [];rw[xJ]at this;exact this
  rw[f0];cases its with
  |nil=>simp
  |cons a r'=>rw[if_neg (by simp)]
 refine wpAny_binaryOp_repeat_ref (by decide) ⟨_,e,rfl⟩ (λs'=>typeIs_int s' k t) noFill_list_mul F.fills_int_mul F.slot_int_rmul repeat_list F.slot_int_index.lookup
  (call_meets F.slot_int_rmul (typeIs_int s k t) F.entry_int_rmul (F.args_int_rmul_2 _ _) (int___rmul___int_list k t l its.toArray n)
   ⟨e,rfl,⟨_,e,rfl⟩,call_meets F.slot_list_mul ⟨_,e,rfl⟩ F.entry_list_mul (F.args_list_mul_2 _ _) (AutoListH.list___mul___list_int_3 l its.toArray n k t hfit hcap hlong) ⟨e,?_⟩⟩)
 rw[hnew];exact⟨.ref _,_,I.lnew (r.rep k.toNat) (by rw[len_rep,Nat.mul_comm];exact hz),rfl,q _ I.fresh⟩
end
section
variable{prog:xk}{w:xC}{A:xq}{E:xB->x0->Prop}{s:x0}
end
section
variable{X:Cx}
end
end _L
namespace Att
open PySem PySem.W PySem.Calls PyProof.Rows
theorem ZQ6:∀(ns:List Int)(vs:List xB),WellAll P h vs (ns.map WData.int)->IntsAre vs ns:=by
 intro ns
 induction ns with
 |nil=>
  intro vs w;rw[jB]at w;cases w;exact .nil
 | cons n ns d=>
  intro vs w;rw[zk]at w;cases w with
  |cons a b=>
   cases a;exact .cons _ _ (d _ b)
theorem ZVd{l:OpenLaw}{n:Nat}(N:l.most=uz n){P:Params}{h:Heap}{i:List WData}{y:List xB}
  (z:l.row.toRowW.claim.pre i=ux) (L:WellAll P h y i):
  ∃a vs ns,y=[Value.ref a]/\i=[WData.list (ns.map WData.int)]/\h.get? a=uz {cls:=.type "list",data:=.seq vs.toArray}/\IntsAre vs ns/\ns.length<=n:=by
 have M:l.pre.holds [] {args:=i}=ux:=(pre_splitW z).2;obtain⟨d,r,rfl,O,S⟩:=hasAllW_cons ((pre_splitW z).1);obtain rfl:=hasAllW_nil S;obtain⟨xs,rfl,W⟩:=hasW_list O;obtain⟨ns,rfl⟩:=items_int W;have F:ns.length<=n:=by
  unfold OpenLaw.pre at M;have I:(WTm.not (.lt (.lit (.int (n:Int))) (.len (.arg 0)))).holds [] {args:=[.list (ns.map .int)]}=ux:=by have I:=(holds_andW M).1;rw[N]at I;exact I
  have J:=condW_of I (w_not (w_lt w_lit (w_len_list (w_arg rfl))));rw[zU]at J;refine Nat.le_of_not_lt λq=>?_
  first
   |(rw[j (by lia)]at J;exact absurd J (by decide))
   |(simp at J;lia)
 cases L with
 |cons Y U=>
  cases U;cases Y with
  |list Z B=>exact⟨_,_,ns,rfl,rfl,Z,ZQ6 ns _ B,F⟩
theorem ZVK(l:OpenLaw)(d:List WData):l.row.toRowW.claim.post d (.bool ux) d=ux:=
 postW_of
  (show WShape.has [] (.bool ux) .bool=ux by first|rfl|decide|simp[WShape.has,WShape.arms,WShape.armsAll])
  (w_eq_bool (w_res rfl) w_lit) rfl
theorem ZO3{l:OpenLaw}{n:Nat}{q:xk}{loose:List Str}{XP:(Str->Option xB)->Heap->Prop}{YP:xC->Heap->Prop}{d:DefRec}
  (hn:l.most=uz n) (hdf:d.params.defaults=[])
  (call:∀(w:xC)(j i:x0)(L U:Str->Option xB)(B:xY)(o:Obj)(S cd z:xB)(a:xY)(vs:List xB)(ns:List Int),
   Ground q loose [] XP w j L U i.heap->YP w i.heap->
   i.heap.get? B=uz o->o.data=.func (docDef d.name d.params d.body d.scope S cd z)->i.heap.CodeRec cd d.name->L d.name=uz (.ref B)->
   i.heap.get? a=uz {cls:=.type "list",data:=.seq vs.toArray}->IntsAre vs ns->ns.length<=n->i.gens= #[]->
   codeAny (xU l.prog w) callerA (.call (.ref B) ⟨[.ref a],[]⟩) (λr s'=>r=.ok (.ret (.bool ux))/\OldK i.heap s'.heap/\s'.os=i.os/\AllBare s'.gens) i):
  WalkO q loose XP YP l.row.toRowW d [] (λf vs=>jb f vs):=by
 intro w j i L U G Y B o S cd z dV kV ho hd M Z N hg W vals as I hlay hrd O hlo;obtain rfl:dV=.none:=Dflts.none Z hdf;obtain rfl:kV=.none:=Dflts.noKw Z;obtain⟨a,vs,ns,rfl,rfl,F,y,J⟩:=ZVd hn I O;refine enter_call (xN (call w j i L U B o S cd z a vs ns G Y ho (fd_plain hd) M N F y J hg) λr s' hq=>?_);obtain⟨rfl,h2,h3,h4⟩:=hq
 exact⟨.inl ⟨.bool ux,.bool ux,[],rfl,λ_=>rfl,.bool ux,ZVK l _,λ_=>⟨List.Pairwise.nil,λ_ hm=>(nomatch hm)⟩⟩,h2,h3,h4⟩
section
variable{prog:xk}{w:xC}{A:xq}{E:xB->x0->Prop}{s:x0}{K:v7}
noncomputable def Ss(h:Heap):Heap:={h with objs:= #[]}
theorem ZBD(h:Heap)(b:xY):(Ss h).get? b=uj:=by
 cases e:(Ss h).get? b with
 |none=>rfl
 |some o=>exact absurd (zz e) (Nat.not_lt_zero _)
noncomputable def ledger(h:Heap)(L d:xY):List (xY×Obj):=(zX h.objs.size).filterMap λa=>if a=L∨a=d then uj else(h.get? a).map λo=>(a,o)
theorem Q5:(a,o)∈ledger h L d↔a≠L/\a≠d/\h.get? a=uz o:=by
 unfold ledger;rw[jI];constructor
 .rintro⟨b,_,e⟩;split at e
  .cases e
  .rename_i j;obtain⟨B,i,n⟩:=zD.mp e;cases n;exact⟨λq=>j (.inl q),λq=>j (.inr q),i⟩
 .rintro⟨z,y,i⟩;refine⟨a,qK.mpr (zz i),?_⟩
  rw[if_neg (λq=>q.elim z y),i]<;>rfl
theorem ZTP(n:h.Ns L m):Fr (Ss h) L h m:=
 ⟨n,λb o e=>(by rw[ZBD]at e;cases e),jF _⟩
end
end Att
namespace _L
open PySem PySem.Spec PyProof.Rows
variable{P:xk}{pos:Pos}
theorem O1:∀{vs:List xB}{ns:List Int},IntsAre vs ns->Vals (ns.map V.int) vs
 |_,_,.nil=>.nil
 |_,_,.cons n t h=>.cons ⟨t,rfl⟩ (O1 h)
def Only(H:Hp):Prop:=∀b,H b=uj∨∃o xs,H b=uz (.frz o (.lst xs))
theorem ZRU{w:xC}{K:za}{mg mb:Str->Option xB}{CX:CXT}{k:Nat}{fa a:xY}{fd:xj}{x:Str}{sp:Sp}{i:x0}{vs:List xB}{ns:List Int}
  (KX:K.In i.heap) (Z:i.heap.Ns xT mg) (y:i.heap.Ns builtinsNs mb) (hbb:∀x:Str,x≠"__name__"->mb x=xL x) (U:i.heap.NoLimit) (hg:i.gens= #[])
  (ha:i.heap.get? a=uz {cls:=.type "list",data:=.seq vs.toArray}) (hi:IntsAre vs ns) (hl:ns.length<=sizeLine) (hr:Room k callerA)
  (F:∀B:Heap,K.In B->B.Ns xT mg->FnOk P w K mg B CX k fa fd [x] sp) (L:∀(s:x0)(u:xB),BindsTo s fd ⟨[u],[]⟩ [(x,u)])
  (hsp:∀H:Hp,Only H->SqL K H a (ns.map V.int)->sp [.ref a] H (λv _=>v=.bl ux) λ_ _ _=>False)
  (hCX:∀H e s',CX [] H i (λ_ _ _=>False) e s'->False):
  codeAny (xU P w) callerA (.call (.ref fa) ⟨[.ref a],[]⟩) (λr s'=>r=.ok (.ret (.bool ux))/\OldK i.heap s'.heap/\s'.os=i.os/\AllBare s'.gens) i:=by
 have rv:=O1 hi;have N:=hi.length;have J:∀H:Hp,Only H->SqL K H a (ns.map V.int)->HOk P w H i.heap->(∀b,H b≠uj->b=a)->(H a≠uj->K.lookup a=uj)->
   codeAny (xU P w) callerA (.call (.ref fa) ⟨[.ref a],[]⟩) (λr s'=>r=.ok (.ret (.bool ux))/\OldK i.heap s'.heap/\s'.os=i.os/\AllBare s'.gens) i:=by
  intro H hO hS hok hA hK;have j:∀{b:xY}{o:Obj},i.heap.get? b=uz o->H b=uj->(Jj i.heap H).get? b=uz o:=λe n=>ZOE e n
  have noA:∀{b:xY}{o:Obj}{es:Array DictEntry}{ep:Nat},i.heap.get? b=uz o->o.data=.dict es ep->H b=uj:=λ{b o es ep}e d=>by
   cases q:H b with
   |none=>rfl
   |some u=>
    have e':=hA b (by rw[q];simp);subst e';rw[ha]at e;cases e;have d':=d;cases d'
  have I:∀{b:xY}{m:Str->Option xB},i.heap.Ns b m->(Jj i.heap H).Ns b m:=λ{b m}⟨o,es,ep,e,d,r⟩=>⟨o,es,ep,j e (noA e d),d,r⟩
  have O:K.In (Jj i.heap H):=λb o e=>j (KX b o e) (by
   cases q:H b with
   |none=>rfl
   |some u=>
    have e':=hA b (by rw[q];simp);subst e';rw[hK (by rw[q];simp)]at e;cases e)
  have hM:Mod K mg (Jj i.heap H):=⟨O,I Z,⟨mb,I y,hbb⟩,let⟨mc,h1,h2⟩:=U;⟨mc,I h1,h2⟩⟩
  refine xN ((F _ O (I Z)).run callerA [] i H ⟨[.ref a],[]⟩ [.ref a] [.ref a] _ _ hr ⟨rfl,hM,λb o e=>ZNN e,Nat.le_of_eq (ZON _ _),trivial,λb y=>absurd (show b∈([]:List xY)from y) (by simp),hok,.of_eq hg⟩ (L i (.ref a)) (.cons rfl .nil) (hsp H hO hS)) λr s' h=>?_
  cases r with
  |error e=>exact(hCX H e s' h).elim
  | ok fl=>
   cases fl with
   |next=>exact False.elim h
   |brk=>exact False.elim h
   |cont=>exact False.elim h
   | ret u=>
    obtain⟨v,H',os,Y,un,S,r',q⟩:=h;have q':=q;subst q';obtain rfl:u=Value.bool ux:=r';refine⟨rfl,OldK.of_keep λb o e=>?_,os,Y⟩;cases q:H b with
    |none=>exact un.keep b o e q (by intro z;exact absurd (show b∈([]:List xY)from z) (by simp)) (by simp)
    |some u=>
     rcases hO b with z|⟨ob,xs,z⟩
     .rw[q]at z;cases z
     .obtain⟨e1,_⟩:=hok b _ z;obtain⟨e2,_⟩:=S b _ (un.frzs b ob _ z);rw[e]at e1;cases e1;exact e2
 cases hk:K.lookup a with
 |some o=>
  have e:=KX a o hk;rw[ha]at e;cases e;refine J (λ_=>uj) (λ_=>.inl rfl) (.inr ⟨_,vs.toArray,_,hk,rfl,rfl,rfl,by rw[zK,N];exact hl,by simpa using rv⟩) (λb u z=>by have M:=z;cases M) (λb z=>absurd rfl z) λz=>absurd rfl z
 | none=>
  refine J (λb=>if b=a then uz (.frz {cls:=.type "list",data:=.seq vs.toArray} (.lst (ns.map V.int)))else uj) (λb=>?_) (.inl (.inr ⟨{cls:=.type "list",data:=.seq vs.toArray},if_pos rfl⟩)) (λb u z=>?_) (λb z=>?_) λ_=>hk
  .by_cases y:b=a
   .exact .inr ⟨_,_,if_pos y⟩
   .exact .inl (if_neg y)
  .by_cases y:b=a
   .have M:=(if_pos y).symm.trans z;cases M;subst y;exact⟨ha,by rw[zU];exact hl,vs,_,rv,ha⟩
   .have M:=(if_neg y).symm.trans z;cases M
  .by_cases y:b=a
   .exact y
   .exact absurd (if_neg y) z
theorem ZMF{l:vF}{n k:Nat}{q:xk}{loose:List Str}{XP:(Str->Option xB)->Heap->Prop}{YP:xC->Heap->Prop}{d:DefRec}{K:xC->za}{CX:xC->CXT}{sp:xC->Sp}{x:Str}
  (hn:l.most=uz n) (O:n<=sizeLine) (hdf:d.params.defaults=[]) (hr:Room k callerA)
  (hY:∀(w:xC)(h:Heap),YP w h->(K w).In h)
  (F:∀(w:xC)(z:Str->Option xB)(J:xY)(h:Heap),(K w).In h->h.Ns xT z->z d.name=uz (.ref J)->
   ∃M:xj,(∀(s:x0)(u:xB),BindsTo s M ⟨[u],[]⟩ [(x,u)])/\
    ∀i:Heap,(K w).In i->i.Ns xT z->FnOk l.prog w (K w) z i (CX w) k J M [x] (sp w))
  (S:∀(w:xC)(H:Hp)(a:xY)(ns:List Int),ns.length<=n->Only H->SqL (K w) H a (ns.map V.int)->sp w [.ref a] H (λv _=>v=.bl ux) λ_ _ _=>False)
  (N:∀(w:xC)(H:Hp)(s:x0)(e:xB)(s':x0),CX w [] H s (λ_ _ _=>False) e s'->False):
  wz q loose XP YP l.row.toRowW d [] (λf vs=>jb f vs):=by
 refine Att.ZO3 hn hdf λw Z B z mb J o pm cd doc a vs ns G Y ho hd hcd L I y j hg=>?_
 have U:=hY w _ Y;obtain⟨M,hb,hF⟩:=F w z J _ U G.T.g L;exact ZRU U G.T.g G.T.b G.T.builtins G.T.nolimit hg I y (z0 j O) hr hF hb (λH hO hS=>S w H a ns j hO hS) λH e s'=>N w H B e s'
noncomputable abbrev CX0:CXT:=λ_ _ _ _ _ _=>False
noncomputable abbrev E0:XK:=λ_ _ _=>False
theorem pass0:Passes CX0 X E0:=λ_ _ _ _ _ _ _ h=>h.elim
structure Fun (K:za) (x qual:Str) (st:xA) (f:xY) (fd:xj):Prop where
 ex:∃(oc:xB)(od:Option xY)(kV doc pm:xB)(an:Option xY)(cdv ct:xB)(osl:Array (Option xB)),
  fd=ja x qual (Eo st) (Dm st) (Ad st) .none kV doc pm an cdv ct/\K.lookup f=uz ⟨oc,od,.func fd,osl⟩/\vE K cdv qual=ux
 kp:zd K (.ref f)=ux
section
variable{P:xk}{w:xC}{K:za}{mg:Str->Option xB}{base:Heap}
theorem Fun.ok{x qual:Str}{st:xA}{f:xY}{y:xj}{N ps:List Str}{k:Nat}{sp:Sp}(F:Fun K x qual st f y)(S:FnScope N ps (Ad st))(len:∀vs H Q E,sp vs H Q E->vs.length=ps.length)
  (i:∀(d:xB)(A:xq)(outer:List Env)(s:x0)(H:Hp)(vs:List V)(Q:VK)(E:XK),Room k (A.deeper (envOfC qual (Ad st) s.heap.objs.size f d))->sp vs H Q E->
   ∃t,PSs (G9 CX0 P w K mg base N qual (Ad st) f d A outer s H E).nox (Dm st) t/\t {nx:=λ_ H'=>Q .non H',rt:=Q} (start N vs) H):FnOk P w K mg base CX0 (k+1) f y ps sp:=by
 obtain⟨U,L,kV,z,W,O,d,M,J,rfl,I,j⟩:=F.ex;refine ZAB I j S len λA outer s H vs Q E B n=>?_
 obtain⟨t,h,q⟩:=i d A outer s H vs Q E B n;exact⟨t,h.nox,q⟩
theorem Fun.binds{x qual:Str}{st:xA}{f:xY}{y:xj}{ps:List Str}(F:Fun K x qual st f y)
  (h:∀(kV i q:xB)(n:Option xY)(d j:xB)(us:List xB),us.length=ps.length->bindArgs (ja x qual (Eo st) (Dm st) (Ad st) .none kV i q n d j) ⟨us,[]⟩=pure (ps.zip us)):Binds K y ps []:=by
 obtain⟨J,I,kV,i,q,n,d,j,B,rfl,L,z⟩:=F.ex;exact .all (h kV i q n d j)
end
section
variable{X:Cx}
theorem pv(i:Nat){x:Str}{pos:Pos}(n:X.N[i]?=uz x:=by rfl)(q:Vis X.env.scope x:=by first|exact Or.inl rfl|exact Or.inr (Or.inl rfl)|exact Or.inr (Or.inr rfl))(j:(x==("__debug__":Str))=uv:=by decide)
  (d:(x==("__classdict__":Str))=uv:=by decide):PE X (.Name x pos) (O6 i):=Ov n q j d
end
section
variable{κ:Type}[DecidableEq κ]
noncomputable def Fb(kvs:List (κ×V))(k:κ):Option V:=(kvs.find? λkv=>decide (kv.1=k)).map (·.2)
noncomputable def putK(kvs:List (κ×V))(k:κ)(v:V):List (κ×V):=
 if(kvs.any λkv=>decide (kv.1=k))=ux then kvs.map (λkv=>if kv.1=k then(kv.1,v)else kv)else kvs++[(k,v)]
theorem ZEr{p:κ×V}{r:List (κ×V)}{k:κ}(e:p.1=k):Fb (p::r) k=uz p.2:=by simp[Fb,qD,e]
theorem ZHu{p:κ×V}{r:List (κ×V)}{k:κ}(e:¬p.1=k):Fb (p::r) k=Fb r k:=by simp[Fb,qD,e]
theorem ZR1(kvs:List (κ×V))(k:κ)(v:V):(putK kvs k v).length<=kvs.length+1:=by
 unfold putK;split
 .rw[zU];lia
 .rw[zL,zM,qT];lia
theorem KV.val{kvs:List (κ×V)}{vs:List (κ×xB)}(r:KV kvs vs)(k:κ):RelO (Fb kvs k) (valueAt vs k):=by
 unfold KV at r
 induction r with
 |nil=>exact True.intro
 | @cons p q ps qs h t ih=>
  obtain⟨h1,h2⟩:=h;by_cases e:p.1=k
  .have e':q.1=k:=h1.symm.trans e;have b:valueAt (q::qs) k=uz q.2:=by simp[valueAt,qD,e']
   rw[ZEr e,b];exact h2
  .have e':¬q.1=k:=λz=>e (h1.trans z)
   have b:valueAt (q::qs) k=valueAt qs k:=by simp[valueAt,qD,e']
   rw[ZHu e,b];exact ih
theorem KV.any{kvs:List (κ×V)}{vs:List (κ×xB)}(r:KV kvs vs)(k:κ):(kvs.any λkv=>decide (kv.1=k))=vs.any λkv=>decide (kv.1=k):=by
 unfold KV at r
 induction r with
 |nil=>rfl
 |cons h t ih=>rw[j4,j4,ih,h.1]
theorem KV.repl{kvs:List (κ×V)}{vs:List (κ×xB)}(r:KV kvs vs)(k:κ){y:V}{u:xB}(ry:RelV y u):
  KV (kvs.map λkv=>if kv.1=k then(kv.1,y)else kv) (vs.map λkv=>if kv.1=k then(kv.1,u)else kv):=by
 unfold KV at r⊢
 induction r with
 |nil=>exact .nil
 |@cons p q ps qs h t ih=>
  rw[zk,zk];refine .cons ?_ ih;obtain⟨h1,h2⟩:=h;by_cases e:p.1=k
  .rw[if_pos e,if_pos (h1.symm.trans e)];exact⟨h1,ry⟩
  .rw[if_neg e,if_neg (λz=>e (h1.trans z))];exact⟨h1,h2⟩
theorem KV.put{kvs:List (κ×V)}{vs:List (κ×xB)}(r:KV kvs vs)(k:κ){y:V}{u:xB}(ry:RelV y u):KV (putK kvs k y) (stored vs k u):=by
 unfold putK stored;rw[r.any k];by_cases e:(vs.any λkv=>decide (kv.1=k))=ux
 .rw[if_pos e,if_pos e];exact r.repl k ry
 .rw[if_neg e,if_neg e];exact Paired.snoc r ⟨rfl,ry⟩
end
theorem Z7{w:xC}{k:Key}{u:xB}(r:RelV (kV k) u):(Fq P w).is k u=ux:=by
 cases k with
 |inl i=>obtain⟨t,e⟩:=(show∃t,u=Value.int i t from r);subst e;exact ZMf P w i t
 |inr x=>obtain⟨t,e⟩:=(show∃t,u=Value.str x t from r);subst e;exact ZLs P w x t
theorem ZJ6{w:xC}:∀{ks:List Key}{us:List xB},Vals (ks.map kV) us->ItemsAre (Fq P w) ks us
 |[],_,r=>by rw[jB]at r;cases r;exact .nil
 |k::ks,_,r=>by
  rw[zk]at r;cases r with
  |cons h t=>exact .cons (Z7 h) (ZJ6 t)
abbrev KT(H:Hp):List (List Key×V)->List (List Key×xY×xB)->Prop:=Paired λp q=>p.1=q.1/\H q.2.1=uz (.tup (p.1.map kV))/\RelV p.2 q.2.2
theorem KT.val{H:Hp}{kvs:List (List Key×V)}{xs:List (List Key×xY×xB)}(r:KT H kvs xs)(k:List Key):RelO (Fb kvs k) ((atKey xs k).map (·.2)):=by
 induction r with
 |nil=>exact True.intro
 | @cons p q ps qs h t ih=>
  obtain⟨h1,_,h2⟩:=h;by_cases e:p.1=k
  .have e':q.1=k:=h1.symm.trans e;have b:atKey (q::qs) k=uz q.2:=by simp[atKey,qD,e']
   rw[ZEr e,b];exact h2
  .have e':¬q.1=k:=λz=>e (h1.trans z)
   have b:atKey (q::qs) k=atKey qs k:=by simp[atKey,qD,e']
   rw[ZHu e,b];exact ih
section
variable{P:xk}{w:xC}{H:Hp}{h:Heap}{a:xY}
theorem ZIx{u:HO}(ok:HOk P w H h)(e:Rd H a u):ObjOk P w H h a u:=e.ok ok
theorem We{kvs:List (Key×V)}(ok:HOk P w H h)(e:Rd H a (.dK kvs)):kvs.length<=sizeLine/\(a==sysModules)=uv/\∃vs,KV kvs vs/\h.DictOf (Fq P w) a vs:=
 show ObjOk P w H h a (.dK kvs)from ZIx ok e
theorem ZL8{kvs:List (Key×V)}(ok:HOk P w H h)(e:H a=uz (.dK kvs)):kvs.length<=sizeLine/\(a==sysModules)=uv/\∃vs,KV kvs vs/\h.DictOf (Fq P w) a vs:=We ok (.inl e)
theorem ZKJ{ks:List Key}(ok:HOk P w H h)(e:H a=uz (.tup (ks.map kV))):(tupleKind (Fq P w)).is h ks a:=by
 obtain⟨_,its,r,o,h1,h2,n,h3⟩:=(show ObjOk P w H h a (.tup (ks.map kV))from ok a _ e)
 exact⟨o,its.toArray,n,h1,h2,h3,by simpa using ZJ6 r⟩
theorem ZHo{kvs:List (List Key×V)}(ok:HOk P w H h)(e:Rd H a (.dT kvs)):kvs.length<=sizeLine/\(a==sysModules)=uv/\
  ∃xs,KT H kvs xs/\h.DictOfH (tupleKind (Fq P w)) a xs:=by
 obtain⟨z,y,xs,r,o,es,ep,h1,h2,h3,h4,h5⟩:=(show ObjOk P w H h a (.dT kvs)from ZIx ok e)
 refine⟨z,y,xs,r,o,es,ep,h1,h2,h3,h4,λx hx=>?_,h5⟩;have all:∀{l:List (List Key×V)}{m:List (List Key×xY×xB)},KT H l m->∀x∈m,(tupleKind (Fq P w)).is h x.1 x.2.1:=by
  intro l m q
  induction q with
  |nil=>intro x hx;exact nomatch hx
  |@cons p q ps qs hq t ih=>
   intro x hx;rcases zj.mp hx with e|hx
   .subst e;exact ZKJ ok (by rw[<-hq.1];exact hq.2.1)
   .exact ih x hx
 exact all r x hx
end
def DGet(H:Hp)(a:xY)(y:V)(r:Option V):Prop:=
 (∃kvs k,Rd H a (.dK kvs)/\y=kV k/\r=Fb kvs k)∨∃kvs k b,Rd H a (.dT kvs)/\y=.ref b/\H b=uz (.tup (k.map kV))/\r=Fb kvs k
theorem DGet.k{H:Hp}{a:xY}{kvs:List (Key×V)}{k:Key}(e:H a=uz (.dK kvs)):DGet H a (kV k) (Fb kvs k):=.inl ⟨kvs,k,.inl e,rfl,rfl⟩
section
variable{X:Cx}{vA:List (xY×Obj)}{σ:St}{H:Hp}{s:x0}{a:xY}{y v:V}{u r:xB}{o:Option V}{A:xq}{E:xB->x0->Prop}
theorem Inv.big(I:Inv X vA σ H s):sysModules<s.heap.objs.size:=by have h:xT<s.heap.objs.size:=(I.mod.glob.keeps I.bk).lt;exact Nat.lt_trans (by decide) h
theorem ZQG{Q:xB->x0->Prop}(hu:A.units+1<cLine)(I:Inv X vA σ H s)(g:DGet H a y (uz v))(ry:RelV y u)(h:∀w' s',Inv X vA σ H s'->RelV v w'->Q w' s'):
  vW (xU X.prog X.w) A (getItem (.ref a) u) Q E s:=by
 rcases g with⟨kvs,k,e,ey,l⟩|⟨kvs,k,b,e,ey,eb,l⟩
 .subst ey;obtain⟨z,hd,vs,rel,dd⟩:=We I.hok e;obtain⟨w',hw,rw'⟩:=RelO.some_of (v:=v) (o:=valueAt vs k) (by rw[l];exact rel.val k);exact wpAny_getItem_of (Z7 ry) dd.mapOf hw (h w' _ (I.tok _) rw')
 .subst ey
  cases(show u=Value.ref b from ry)
  obtain⟨z,hd,xs,rel,dd⟩:=ZHo I.hok e
  obtain⟨w',hw,rw'⟩:=RelO.some_of (v:=v) (o:=(atKey xs k).map (·.2)) (by rw[l];exact rel.val k)
  obtain⟨p,hp,hp2⟩:=zD.mp hw;refine wpAny_getItem_heap (tupleKind_room_in1 hu) (ZKJ I.hok eb) dd hp ?_;rw[hp2];exact h w' _ (I.tok _) rw'
theorem ZSH{h':Heap}{t':Nat}{ob:HO}(I:Inv X vA σ H s)(mu:Mut (H a))(hs:qA a s.heap h')(he:∃q,h'.get? a=uz q)(new:ObjOk X.prog X.w (upd H a ob) h' a ob):
  Inv X vA σ (upd H a ob) {s with heap:=h',toks:=t'}:=
 I.write (x:=a) (e:=a) mu (.inl rfl) (λb q hb z=>(hs.2 b hb).trans z) he new
theorem ZKp{w:xC}{H':Hp}{h':Heap}{kvs:List (Key×V)}{vs:List (Key×xB)}(z:kvs.length<=sizeLine)(hd:(a==sysModules)=uv)(rel:KV kvs vs)(dd:h'.DictOf (Fq P w) a vs):
  ObjOk P w H' h' a (.dK kvs):=⟨z,hd,vs,rel,dd⟩
end
section
variable{X:Cx}{vA:List (xY×Obj)}{σ:St}{H:Hp}{s:x0}{a:xY}{kvs:List (Key×V)}{k:Key}{u:xB}{A:xq}{E:xB->x0->Prop}
end
theorem ZUI{X:Cx}{vA:List (xY×Obj)}{σ:St}{H:Hp}{s:x0}{a:xY}{y:V}{o:Option V}(I:Inv X vA σ H s)(g:DGet H a y o):s.TypeIs (.ref a) "dict":=by
 rcases g with⟨kvs,k,e,_,_⟩|⟨kvs,k,b,e,_,_,_⟩
 .obtain⟨_,_,vs,_,dd⟩:=We I.hok e;exact dd.typeIs
 .obtain⟨_,_,xs,_,dd⟩:=ZHo I.hok e;exact dd.typeIs
section
variable{X:Cx}{o i e value:xz}{pos pos' tpos:Pos}{td ty tv:TE}
end
theorem ZNg{w:xC}{H:Hp}(h:Heap)(hb:sysModules<h.objs.size):ObjOk P w H (h.push {cls:=.type "dict",data:=.dict #[]}) h.objs.size (.dK []):=
 ⟨jF _,beq_eq_false_iff_ne.mpr (Ne.symm (z8 hb)),[],.nil,Heap.DictOf.new h⟩
section
variable{X:Cx}{pos:Pos}
end
def V2:List (TE×TE)->St->Hp->(List (V×V)->Hp->Prop)->Prop
 |[],_,H,Q=>Q [] H
 |(tk,tv)::r,σ,H,Q=>tk σ H λx H1=>tv σ H1 λy H2=>V2 r σ H2 λps H3=>Q ((x,y)::ps) H3
abbrev VV:List (V×V)->List (xB×xB)->Prop:=Paired λp q=>RelV p.1 q.1/\RelV p.2 q.2
def PPs(X:Cx)(pos:Pos)(keys:List (Option xz))(values:List xz)(trs:List (TE×TE)):Prop:=
 ∀(vA:List (xY×Obj))(s:x0)(σ:St)(H:Hp)(Q:List (V×V)->Hp->Prop),Inv X vA σ H s->V2 trs σ H Q->
  vW (xU X.prog X.w) X.A (evalPairs (pairTrees keys values X.env pos)) (λvs s'=>∃ps H',Inv X vA σ H' s'/\VV ps vs/\Q ps H') X.xe s
theorem ZUS{X:Cx}:PPs X pos [] [] []:=λvA s σ H Q I h=>pairTrees_nil_walk ⟨[],H,I,.nil,h⟩
theorem ZNr{X:Cx}{k v:xz}{ks:List (Option xz)}{vs:List xz}{tk tv:TE}{trs:List (TE×TE)}(hk:PE X k tk)(hv:PE X v tv)(hr:PPs X pos ks vs trs):
  PPs X pos (uz k::ks) (v::vs) ((tk,tv)::trs):=λvA s σ H Q I h=>
 pairTrees_cons_walk (thn (hk vA s σ H _ I h) λu s1 ⟨x,H1,I1,rx,q1⟩=>thn (hv vA s1 σ H1 _ I1 q1) λw2 s2 ⟨y,H2,I2,ry,q2⟩=>
  thn (hr vA s2 σ H2 _ I2 q2) λws s3 ⟨ps,H3,I3,rel,q3⟩=>⟨(x,y)::ps,H3,I3,.cons ⟨rx,ry⟩ rel,q3⟩)
def N8(kvs more:List (Key×V)):List (Key×V):=more.foldl (λacc kv=>putK acc kv.1 kv.2) kvs
theorem KV.merge:∀{more:List (Key×V)}{rs:List (Key×xB)}{kvs:List (Key×V)}{vs:List (Key×xB)},KV more rs->KV kvs vs->KV (N8 kvs more) (merged vs rs):=by
 intro more rs kvs vs r;unfold KV at r
 induction r generalizing kvs vs with
 |nil=>intro q;exact q
 |@cons p q ps qs h t ih=>
  intro r0;have e:KV (putK kvs p.1 p.2) (stored vs q.1 q.2):=by have:=r0.put p.1 h.2;rw[<-h.1];exact this
  exact ih e
theorem ZHs:∀(more kvs:List (Key×V)),(N8 kvs more).length<=kvs.length+more.length
 |[],kvs=>by show kvs.length<=kvs.length+0;lia
 |p::r,kvs=>by have h1:=ZHs r (putK kvs p.1 p.2);have h2:=ZR1 kvs p.1 p.2;show(N8 (putK kvs p.1 p.2) r).length<=_;rw[zM];lia
theorem ZDi{P:xk}{w:xC}:∀{kvs:List (Key×V)}{ws:List (xB×xB)},VV (kvs.map λkv=>(kV kv.1,kv.2)) ws->∃rs,Carries (Fq P w) ws rs/\KV kvs rs
 |[],_,r=>by rw[jB]at r;cases r;exact⟨[],True.intro,.nil⟩
 | p::kvs,_,r=>by
  rw[zk]at r;cases r with
  |@cons a b as bs h t=>
   obtain⟨rs,c,q⟩:=ZDi (P:=P) (w:=w) t;obtain⟨b1,b2⟩:=b;exact⟨(p.1,b2)::rs,⟨Z7 h.1,rfl,c⟩,.cons ⟨rfl,h.2⟩ q⟩
def ZRz(trs:List (TE×TE)):TE:=λσ H Q=>∀p,H p=uj->V2 trs σ (upd H p (.dK [])) λps H2=>H2 p=uz (.dK [])/\∃kvs:List (Key×V),ps=kvs.map (λkv=>(kV kv.1,kv.2))/\kvs.length<=15/\Q (.ref p) (upd H2 p (.dK (N8 [] kvs)))
theorem ZM0{X:Cx}{keys:List (Option xz)}{values:List xz}{trs:List (TE×TE)}(h:PPs X pos keys values trs)(hall:keys.all (·.isSome)=ux)(hl:keys.length=values.length)(h0:keys≠[])
  (h15:keys.length<=15):PE X (.Dict keys values pos) (ZRz trs):=by
 intro vA s σ H Q I q;have hn:=I.hok.fresh (zY s.heap.objs.size);have I1:=I.laid (a:=s.heap.objs.size) (o:=.dK []) (h':=s.heap.push {cls:=.type "dict",data:=.dict #[]}) (t':=s.toks) (λ_ _ q=>zQ _ q) (zY _) (ZNg s.heap I.big);refine wpAny_Dict_walk (knd:=Fq X.prog X.w) hall hl h0 h15 (thn (h vA _ σ _ _ I1 (q _ hn)) λws s2 ⟨ps,H2,I2,rel,e,kvs,ep,lk,q2⟩=>?_)
 subst ep;obtain⟨rs,c,rk⟩:=ZDi (P:=X.prog) (w:=X.w) rel;obtain⟨z,hd,vs0,r0,dd⟩:=ZL8 I2.hok e;cases r0;refine⟨rs,c,dd,λh' dd' hs=>⟨.ref s.heap.objs.size,_,?_,rfl,q2⟩⟩;have hz:(N8 [] kvs).length<=sizeLine:=by have h1:=ZHs kvs [];rw[qT]at h1;rw[vZ];lia
 have he:∃q,h'.get? s.heap.objs.size=uz q:=let⟨q,_,_,hq,_⟩:=dd';⟨q,hq⟩;exact ZSH I2 (by rw[e];exact True.intro) hs he (ZKp hz hd (rk.merge .nil) dd')
section
variable{X:Cx}{vA:List (xY×Obj)}{σ:St}{H:Hp}{s:x0}{a:xY}{y d:V}{u r:xB}{o:Option V}{A:xq}{E:xB->x0->Prop}
end
section
variable{X:Cx}{o e f:xz}{apos cpos:Pos}{td ty tx:TE}
end
section
variable{X:Cx}{vA:List (xY×Obj)}{σ:St}{H:Hp}{s:x0}{a:xY}{kvs:List (Key×V)}{A:xq}{E:xB->x0->Prop}
end
section
variable{X:Cx}{vA:List (xY×Obj)}{σ:St}{H:Hp}{s:x0}{a:xY}{y:V}{u:xB}{A:xq}{E:xB->x0->Prop}
end
section
variable{X:Cx}
end
end _L
namespace _L
section
variable{κ:Type}[DecidableEq κ]
end
end _L
namespace _D
open PySem PySem.Spec _L
open PyProof.Rows hiding St
inductive D where
 |non|bl (b:Bool)|int (i:Int)|str (x:Str)|ty (n:String)
 |tup (xs:List D)
 |fl (xs:List D)
 |ref (i:Nat)
inductive DO where
 |lst (xs:List D)
 |dct (kvs:List (Key×D))
 |ins (c:Str) (fs:List (Str×D))
 |tab (c m:Str)
 |exc (c:Str) (fs:List (Str×D))
 |gone
noncomputable abbrev DH:=List DO
noncomputable abbrev DSt:=List (Option D)
structure Xn where
 cls:Str
 fs:List (Str×D)
inductive R (α:Type) where
 |ok (a:α) (G:DH)
 |err (x:Xn) (G:DH)
 |bad
abbrev Fx{α:Type}(_:α):Type:=Unit
noncomputable def R.bind{α β:Type}(f:α->DH->R β)(_:Fx f:=())(r:R α):R β:=match r with
 |.ok a G=>f a G
 |.err x G=>.err x G
 |.bad=>.bad
@[simp]theorem R.H8{b c:Type}(a:b)(G:DH)(f:b->DH->R c):(R.ok a G).bind f=f a G:=id rfl
inductive SR where
 |nx (S:DSt) (G:DH)
 |rt (d:D) (G:DH)
 |bk (S:DSt) (G:DH)
 |ct (S:DSt) (G:DH)
 |err (x:Xn) (G:DH)
 |bad
noncomputable abbrev DE:=DSt->DH->R D
noncomputable abbrev DB:=DSt->DH->R Bool
noncomputable abbrev DA:=DSt->DH->R (List D)
noncomputable abbrev DS:=DSt->DH->SR
def FzL(K:za)(H:Hp)(a:xY)(xs:List V):Prop:=
 (∃o,H a=uz (.frz o (.lst xs)))∨
  (∃ns:List Int,xs=ns.map V.int)/\∃(o:Obj)(its:Array xB)(n:Nat),K.lookup a=uz o/\o.cls=.type "list"/\o.dict=uj/\o.data=.seq its n/\its.size<=sizeLine/\Vals xs its.toList
theorem FzL.sq{K:za}{H:Hp}{a:xY}{xs:List V}(h:FzL K H a xs):SqL K H a xs:=by
 rcases h with⟨o,h⟩|⟨_,h⟩
 .exact .inl (.inr ⟨o,h⟩)
 .exact .inr h
structure Wd where
 K:za
 n:Nat
 m:Nat->xY
 H:Hp
mutual
def Rep(a:Wd):D->V->Prop
 |.non,v=>v=.non
 |.bl b,v=>v=.bl b
 |.int i,v=>v=.int i
 |.str x,v=>v=.str x
 |.ty n,v=>v=.ty n
 |.tup ds,v=>∃p vs,v=.ref p/\SqT a.K a.H p vs/\Reps a ds vs
 |.fl ds,v=>∃p vs,v=.ref p/\FzL a.K a.H p vs/\Reps a ds vs
 |.ref i,v=>i<a.n/\v=.ref (a.m i)
def Reps(a:Wd):List D->List V->Prop
 |[],vs=>vs=[]
 |d::ds,vs=>∃v r,vs=v::r/\Rep a d v/\Reps a ds r
end
noncomputable def lamQ:Str:="Sending.send_by.<locals>.<lambda>"
def TabOk(H:Hp)(P:xY):Prop:=
 ∃ps:Array xB,H P=uz (.tbl ps)/\TriplesOk ps.toList/\∀pos cv,codeAmong pos ps.toList=uz cv->∃(c:xY)(oc:Obj)(vs:Array xB)(t:Tok),cv=.ref c/\H c=uz (.frz oc (.own 0))/\oc.data=.fields vs/\vs[1]?=uz (.str lamQ t)
theorem TabOk.mono(h:TabOk H P)(j:∀p ps,H p=uz (.tbl ps)->H' p=uz (.tbl ps))(b:∀p o u,H p=uz (.frz o u)->H' p=uz (.frz o u)):TabOk H' P:=by obtain⟨ps,e,t,k⟩:=h;refine⟨ps,j _ _ e,t,λa r f=>?_⟩;obtain⟨c,l,n,g,d,i,m,q⟩:=k a r f;exact⟨c,l,n,g,d,b _ _ _ i,m,q⟩
def TabAt(K:za)(C m:Str)(c P:xY):Prop:=
 ∃(Ca f:xY)(oc:xB)(od:Option xY)(fd:xj)(sl:Array (Option xB)),zb K xT C=uz (uz (.ref Ca))/\zc K (.ref Ca) m=uz (uz (.ref f))/\K.lookup f=uz ⟨oc,od,.func fd,sl⟩/\fd.code=.ref c/\PySem.W.codeHdIn K c P=ux
structure Ext (a b:Wd):Prop where
 k:b.K=a.K
 n:a.n<=b.n
 m:∀i,i<a.n->b.m i=a.m i
 tup:∀p xs,a.H p=uz (.tup xs)->b.H p=uz (.tup xs)
 frz:∀p o u,a.H p=uz (.frz o u)->b.H p=uz (.frz o u)
 tab:∀p,TabOk a.H p->TabOk b.H p
theorem Ext.refl(a:Wd):Ext a a:=⟨rfl,zY _,λ_ _=>rfl,λ_ _ h=>h,λ_ _ _ h=>h,λ_ h=>h⟩
theorem Ext.trans(x:Ext a b)(y:Ext b c):Ext a c:=
 ⟨y.k.trans x.k,z0 x.n y.n,λi h=>(y.m i (zq h x.n)).trans (x.m i h),λp d h=>y.tup p d (x.tup p d h),λp o u h=>y.frz p o u (x.frz p o u h),λp h=>y.tab p (x.tab p h)⟩
theorem Ext.sqT(x:Ext a b)(h:SqT a.K a.H p xs):SqT b.K b.H p xs:=by
 rcases h with(h|⟨o,h⟩)|h
 .exact .inl (.inl (x.tup _ _ h))
 .exact .inl (.inr ⟨o,x.frz _ _ _ h⟩)
 .exact .inr (by rw[x.k];exact h)
theorem Ext.fzL(x:Ext a b)(h:FzL a.K a.H p xs):FzL b.K b.H p xs:=by
 rcases h with⟨o,h⟩|⟨e,h⟩
 .exact .inl ⟨o,x.frz _ _ _ h⟩
 .exact .inr ⟨e,by rw[x.k];exact h⟩
mutual
theorem Rep.mono(x:Ext a b):∀{d:D}{v:V},Rep a d v->Rep b d v
 |.non,_,h=>h
 |.bl _,_,h=>h
 |.int _,_,h=>h
 |.str _,_,h=>h
 |.ty _,_,h=>h
 |.tup f,v,h=>by obtain⟨p,c,e,q,r⟩:=h;exact⟨p,c,e,x.sqT q,Reps.mono x r⟩
 |.fl f,v,h=>by obtain⟨p,c,e,q,r⟩:=h;exact⟨p,c,e,x.fzL q,Reps.mono x r⟩
 |.ref i,v,h=>by obtain⟨l,e⟩:=h;exact⟨zq l x.n,by rw[x.m i l];exact e⟩
theorem Reps.mono(x:Ext a b):∀{ds:List D}{vs:List V},Reps a ds vs->Reps b ds vs
 |[],_,h=>h
 |d::ds,vs,h=>by obtain⟨v,r,e,f,c⟩:=h;exact⟨v,r,e,Rep.mono x f,Reps.mono x c⟩
end
theorem Reps.length:∀{ds:List D}{vs:List V},Reps a ds vs->ds.length=vs.length
 |[],vs,h=>by cases(h);rfl
 |d::ds,vs,h=>by obtain⟨v,r,e,c,b⟩:=h;subst e;show ds.length+1=r.length+1;rw[Reps.length b]
theorem Reps.get:∀{ds:List D}{vs:List V}{i:Nat}{d:D},Reps a ds vs->ds[i]?=uz d->∃v,vs[i]?=uz v/\Rep a d v
 |[],vs,_,_,h,e=>by simp at e
 |d::ds,vs,0,j,h,e=>by obtain⟨v,r,b,f,c⟩:=h;subst b;simp at e;subst e;exact⟨v,rfl,f⟩
 |d::ds,vs,i+1,j,h,e=>by obtain⟨v,r,b,f,c⟩:=h;subst b;obtain⟨w,g,k⟩:=Reps.get c (by simpa using e);exact⟨w,by simpa using g,k⟩
theorem Reps.get':∀{ds:List D}{vs:List V}{i:Nat}{v:V},Reps a ds vs->vs[i]?=uz v->∃d,ds[i]?=uz d/\Rep a d v
 |[],vs,_,_,h,e=>by cases(h);simp at e
 |d::ds,vs,0,j,h,e=>by obtain⟨v,r,b,f,c⟩:=h;subst b;simp at e;subst e;exact⟨d,rfl,f⟩
 |d::ds,vs,i+1,j,h,e=>by obtain⟨v,r,b,f,c⟩:=h;subst b;obtain⟨w,g,k⟩:=Reps.get' c (by simpa using e);exact⟨w,by simpa using g,k⟩
theorem Reps.append:∀{ds es:List D}{vs us:List V},Reps a ds vs->Reps a es us->Reps a (ds++es) (vs++us)
 |[],_,vs,_,h,b=>by cases(h);exact b
 |d::ds,es,vs,us,h,b=>by obtain⟨v,r,f,c,e⟩:=h;subst f;exact⟨v,r++us,rfl,c,Reps.append e b⟩
theorem Reps.cons(h:Rep a d v)(r:Reps a ds vs):Reps a (d::ds) (v::vs):=⟨v,vs,rfl,h,r⟩
theorem Reps.nil:Reps a [] []:=rfl
theorem Reps.set(h:Rep a d v):∀{ds:List D}{vs:List V}(i:Nat),Reps a ds vs->Reps a (ds.set i d) (vs.set i v)
 |[],vs,_,r=>by cases(r);exact rfl
 |j::ds,vs,0,r=>by obtain⟨f,e,b,g,c⟩:=r;subst b;exact⟨v,e,rfl,h,c⟩
 |j::ds,vs,i+1,r=>by obtain⟨f,e,b,g,c⟩:=r;subst b;exact⟨f,e.set i v,rfl,g,Reps.set h i c⟩
theorem Reps.take:∀{ds:List D}{vs:List V}(i:Nat),Reps a ds vs->Reps a (ds.take i) (vs.take i)
 |_,_,0,_=>rfl
 |[],vs,_+1,r=>by cases(r);exact rfl
 |g::ds,vs,i+1,r=>by obtain⟨d,f,b,e,c⟩:=r;subst b;exact⟨d,f.take i,rfl,e,Reps.take i c⟩
theorem Reps.drop:∀{ds:List D}{vs:List V}(i:Nat),Reps a ds vs->Reps a (ds.drop i) (vs.drop i)
 |_,_,0,r=>r
 |[],vs,_+1,r=>by cases(r);exact rfl
 |e::ds,vs,i+1,r=>by obtain⟨d,g,b,f,c⟩:=r;subst b;exact Reps.drop i c
theorem Reps.ints:∀(ns:List Int),Reps a (ns.map D.int) (ns.map V.int)
 |[]=>rfl
 |n::ns=>⟨.int n,ns.map V.int,rfl,rfl,Reps.ints ns⟩
def RepKV(a:Wd)(kvs:List (Key×D))(us:List (Key×V)):Prop:=kvs.map (·.1)=us.map (·.1)/\Reps a (kvs.map (·.2)) (us.map (·.2))
def RepF(a:Wd)(fs:List (Str×D))(us:List (Str×V)):Prop:=fs.map (·.1)=us.map (·.1)/\Reps a (fs.map (·.2)) (us.map (·.2))
def XD(a:Wd)(od:Option xY)(fs:List (Str×D)):Prop:=(fs=[]/\od=uj)∨∃dx o us,od=uz dx/\a.H dx=uz (.frz o (.xd us))/\RepF a fs us
def ORep(a:Wd):DO->Option HO->Prop
 |.lst ds,o=>∃vs,o=uz (.lst vs)/\Reps a ds vs
 |.dct kvs,o=>∃us,o=uz (.dK us)/\RepKV a kvs us
 |.ins c fs,o=>∃C dx us,zb a.K xT c=uz (uz (.ref C))/\o=uz (.ins C dx us)/\RepF a fs us
 |.tab C m,_=>∃c P,TabAt a.K C m c P/\TabOk a.H P
 |.exc c fs,o=>∃C oe u vs,zb a.K xT c=uz (uz (.ref C))/\o=uz (.frz oe u)/\oe.cls=.ref C/\oe.data=.fields vs/\XD a oe.dict fs
 |.gone,_=>True
structure Sim (a:Wd) (G:DH):Prop where
 len:G.length=a.n
 inj:∀i j,i<a.n->j<a.n->a.m i=a.m j->i=j
 obj:∀(i:Nat)(o:DO),G[i]?=uz o->ORep a o (a.H (a.m i))
 tr:∀i,i<a.n->a.H (a.m i)≠uj
structure RepS (a:Wd) (S:DSt) (σ:St):Prop where
 len:S.length=σ.length
 get:∀(i:Nat)(d:D),S[i]?=uz (uz d)->∃v,σ[i]?=uz (uz v)/\Rep a d v
theorem RepS.mono(x:Ext a b)(r:RepS a S σ):RepS b S σ:=⟨r.len,λi d h=>let⟨v,e,q⟩:=r.get i d h;⟨v,e,q.mono x⟩⟩
theorem RepS.set(r:RepS a S σ)(i:Nat)(h:Rep a d v):RepS a (S.set i (uz d)) (σ.set i (uz v)):=by
 refine⟨by simpa using r.len,λj e b=>?_⟩;rw[qF]at b⊢;by_cases c:i=j
 .subst c;rw[if_pos rfl]at b⊢;by_cases f:i<S.length
  .rw[if_pos f]at b;have g:d=e:=by simpa using b
   subst g;rw[if_pos (by rw[<-r.len];exact f)];exact⟨v,rfl,h⟩
  .rw[if_neg f]at b;cases b
 .rw[if_neg c]at b⊢;exact r.get j e b
def XOk(E:XK)(a:Wd)(x:Xn)(G:DH):Prop:=E≠E0/\∀(b:Wd)(C:xY)(od:Option xY),Ext a b->Sim b G->zb b.K xT x.cls=uz (uz (.ref C))->XD b od x.fs->E (.ref C) od b.H
def out(E:XK)(a:Wd)(r:R D)(Q:VK):Prop:=match r with
 |.ok d G=>∀(b:Wd)(v:V),Ext a b->Sim b G->Rep b d v->Q v b.H
 |.err x G=>XOk E a x G
 |.bad=>False
def Em(E:XK)(a:Wd)(r:R Bool)(Q:Bool->Hp->Prop):Prop:=match r with
 |.ok k G=>∀(b:Wd),Ext a b->Sim b G->Q k b.H
 |.err x G=>XOk E a x G
 |.bad=>False
def Ep(E:XK)(a:Wd)(r:R (List D))(Q:List V->Hp->Prop):Prop:=match r with
 |.ok ds G=>∀(b:Wd)(vs:List V),Ext a b->Sim b G->Reps b ds vs->Q vs b.H
 |.err x G=>XOk E a x G
 |.bad=>False
def Bm(E:XK)(a:Wd)(r:SR)(W:Ends):Prop:=match r with
 |.nx S G=>∀(b:Wd)(σ:St),Ext a b->Sim b G->RepS b S σ->W.nx σ b.H
 |.bk S G=>∀(b:Wd)(σ:St),Ext a b->Sim b G->RepS b S σ->W.bk σ b.H
 |.ct S G=>∀(b:Wd)(σ:St),Ext a b->Sim b G->RepS b S σ->W.ct σ b.H
 |.rt d G=>∀(b:Wd)(v:V),Ext a b->Sim b G->Rep b d v->W.rt v b.H
 |.err x G=>XOk E a x G
 |.bad=>False
theorem XOk.mono(x:Ext a b)(h:XOk E a e G):XOk E b e G:=⟨h.1,λc C d y s n q=>h.2 c C d (x.trans y) s n q⟩
theorem out.mono(x:Ext a b)(h:out E a r Q):out E b r Q:=by
 cases r with
 |ok d G=>exact λc v y s q=>h c v (x.trans y) s q
 |err e G=>exact XOk.mono x h
 |bad=>exact h
theorem Em.mono(x:Ext a b)(h:Em E a r Q):Em E b r Q:=by
 cases r with
 |ok d G=>exact λc y s=>h c (x.trans y) s
 |err e G=>exact XOk.mono x h
 |bad=>exact h
theorem Ep.mono(x:Ext a b)(h:Ep E a r Q):Ep E b r Q:=by
 cases r with
 |ok d G=>exact λc f y s q=>h c f (x.trans y) s q
 |err e G=>exact XOk.mono x h
 |bad=>exact h
theorem Bm.mono(x:Ext a b)(h:Bm E a r W):Bm E b r W:=by
 cases r with
 |nx d G=>exact λc f y s q=>h c f (x.trans y) s q
 |bk d G=>exact λc f y s q=>h c f (x.trans y) s q
 |ct d G=>exact λc f y s q=>h c f (x.trans y) s q
 |rt d G=>exact λc f y s q=>h c f (x.trans y) s q
 |err e G=>exact XOk.mono x h
 |bad=>exact h
def lE(K:za)(E:XK)(t:DE):TE:=λσ H Q=>∃(a:Wd)(S:DSt)(G:DH),a.K=K/\a.H=H/\Sim a G/\RepS a S σ/\out E a (t S G) Q
def lB(K:za)(E:XK)(t:DB):TT:=λσ H Q=>∃(a:Wd)(S:DSt)(G:DH),a.K=K/\a.H=H/\Sim a G/\RepS a S σ/\Em E a (t S G) Q
def lA(K:za)(E:XK)(t:DA):TA:=λσ H Q=>∃(a:Wd)(S:DSt)(G:DH),a.K=K/\a.H=H/\Sim a G/\RepS a S σ/\Ep E a (t S G) Q
def lS(K:za)(E:XK)(t:DS):TS:=λW σ H=>∃(a:Wd)(S:DSt)(G:DH),a.K=K/\a.H=H/\Sim a G/\RepS a S σ/\Bm E a (t S G) W
def lR2(K:za)(E:XK)(f:D->D->DH->R D):R2:=λx y H Q=>∃(a:Wd)(G:DH)(d e:D),a.K=K/\a.H=H/\Sim a G/\Rep a d x/\Rep a e y/\out E a (f d e G) Q
def lR1(K:za)(E:XK)(f:D->DH->R D):V->Hp->VK->Prop:=λx H Q=>∃(a:Wd)(G:DH)(d:D),a.K=K/\a.H=H/\Sim a G/\Rep a d x/\out E a (f d G) Q
def lRn(K:za)(E:XK)(f:List D->DH->R D):List V->Hp->VK->Prop:=λxs H Q=>∃(a:Wd)(G:DH)(ds:List D),a.K=K/\a.H=H/\Sim a G/\Reps a ds xs/\out E a (f ds G) Q
def lF(K:za)(f:List D->DH->R D):Sp:=λxs H Q _=>∃(a:Wd)(G:DH)(ds:List D),a.K=K/\a.H=H/\Sim a G/\Reps a ds xs/\out E0 a (f ds G) Q
def lFx(K:za)(f:List D->DH->R D):Sp:=λxs H Q E=>∃(a:Wd)(G:DH)(ds:List D),a.K=K/\a.H=H/\Sim a G/\Reps a ds xs/\out E a (f ds G) Q
section
variable{X:Cx}{E:XK}
def QE(X:Cx)(E:XK)(e:xz)(t:DE):Prop:=PE X e (lE X.K E t)
def QT(X:Cx)(E:XK)(e:xz)(t:DB):Prop:=PT X e (lB X.K E t)
def QA(X:Cx)(E:XK)(es:List xz)(t:DA):Prop:=PA X es (lA X.K E t)
def QS(X:Cx)(E:XK)(st:xA)(t:DS):Prop:=PS X st (lS X.K E t)
def QSs(X:Cx)(E:XK)(st:List xA)(t:DS):Prop:=PSs X st (lS X.K E t)
theorem _root_._L.PE.mono(h:PE X e t)(w:∀b H Q,t' b H Q->t b H Q):PE X e t':=λa s b H Q I q=>h a s b H Q I (w b H Q q)
theorem _root_._L.PT.mono(h:PT X e t)(w:∀b H Q,t' b H Q->t b H Q):PT X e t':=λa s b H Q I q=>h a s b H Q I (w b H Q q)
theorem _root_._L.PA.mono(h:PA X e t)(w:∀b H Q,t' b H Q->t b H Q):PA X e t':=λc a s b H Q I q=>h c a s b H Q I (w b H Q q)
theorem _root_._L.PS.mono(h:PS X e t)(w:∀W b H,t' W b H->t W b H):PS X e t':=λa s b H W I q=>h a s b H W I (w W b H q)
theorem _root_._L.PSs.mono(h:PSs X e t)(w:∀W b H,t' W b H->t W b H):PSs X e t':=λa s b H W I q=>h a s b H W I (w W b H q)
theorem _root_._L.OpR.mono(h:OpR X f r)(w:∀x y H Q,r' x y H Q->r x y H Q):OpR X f r':=λa s d H x y v u Q I c b q=>h a s d H x y v u Q I c b (w _ _ _ _ q)
end
theorem Dw(h:out E a (r.bind f) Q):
  out E a r (λv H=>∃(b:Wd)(d:D)(G:DH),b.H=H/\Ext a b/\Sim b G/\Rep b d v/\r=.ok d G/\out E b (f d G) Q):=by
 cases r with
 |ok d G=>exact λb v x s q=>⟨b,d,G,rfl,x,s,q,rfl,out.mono x h⟩
 |err e G=>exact h
 |bad=>exact h
theorem Ld(h:out E a (r.bind f) Q):
  Ep E a r (λvs H=>∃(b:Wd)(ds:List D)(G:DH),b.H=H/\Ext a b/\Sim b G/\Reps b ds vs/\r=.ok ds G/\out E b (f ds G) Q):=by
 cases r with
 |ok d G=>exact λb v x s q=>⟨b,d,G,rfl,x,s,q,rfl,out.mono x h⟩
 |err e G=>exact h
 |bad=>exact h
theorem ZGd(h:out E a (r.bind f) Q):
  Em E a r (λk H=>∃(b:Wd)(G:DH),b.H=H/\Ext a b/\Sim b G/\r=.ok k G/\out E b (f k G) Q):=by
 cases r with
 |ok d G=>exact λb x s=>⟨b,G,rfl,x,s,rfl,out.mono x h⟩
 |err e G=>exact h
 |bad=>exact h
theorem ZPM(h:Em E a (r.bind f) Q):
  out E a r (λv H=>∃(b:Wd)(d:D)(G:DH),b.H=H/\Ext a b/\Sim b G/\Rep b d v/\r=.ok d G/\Em E b (f d G) Q):=by
 cases r with
 |ok d G=>exact λb v x s q=>⟨b,d,G,rfl,x,s,q,rfl,Em.mono x h⟩
 |err e G=>exact h
 |bad=>exact h
theorem Ww(h:Em E a (r.bind f) Q):
  Em E a r (λk H=>∃(b:Wd)(G:DH),b.H=H/\Ext a b/\Sim b G/\r=.ok k G/\Em E b (f k G) Q):=by
 cases r with
 |ok d G=>exact λb x s=>⟨b,G,rfl,x,s,rfl,Em.mono x h⟩
 |err e G=>exact h
 |bad=>exact h
theorem ZPD(h:Ep E a (r.bind f) Q):
  out E a r (λv H=>∃(b:Wd)(d:D)(G:DH),b.H=H/\Ext a b/\Sim b G/\Rep b d v/\r=.ok d G/\Ep E b (f d G) Q):=by
 cases r with
 |ok d G=>exact λb v x s q=>⟨b,d,G,rfl,x,s,q,rfl,Ep.mono x h⟩
 |err e G=>exact h
 |bad=>exact h
theorem ZVW(h:Ep E a (r.bind f) Q):
  Ep E a r (λvs H=>∃(b:Wd)(ds:List D)(G:DH),b.H=H/\Ext a b/\Sim b G/\Reps b ds vs/\r=.ok ds G/\Ep E b (f ds G) Q):=by
 cases r with
 |ok d G=>exact λb v x s q=>⟨b,d,G,rfl,x,s,q,rfl,Ep.mono x h⟩
 |err e G=>exact h
 |bad=>exact h
noncomputable def R.toS{α:Type}(f:α->DH->SR)(_:Fx f:=())(r:R α):SR:=match r with
 |.ok a G=>f a G
 |.err x G=>.err x G
 |.bad=>.bad
@[simp]theorem R.Bq{b:Type}(a:b)(G:DH)(f:b->DH->SR):(R.ok a G).toS f=f a G:=id rfl
@[simp]theorem R.ZWT{a:Type}(x:Xn)(G:DH)(f:a->DH->SR):(R.err x G:R a).toS f=.err x G:=id rfl
theorem Fp(h:Bm E a (r.toS f) W):
  out E a r (λv H=>∃(b:Wd)(d:D)(G:DH),b.H=H/\Ext a b/\Sim b G/\Rep b d v/\r=.ok d G/\Bm E b (f d G) W):=by
 cases r with
 |ok d G=>exact λb v x s q=>⟨b,d,G,rfl,x,s,q,rfl,Bm.mono x h⟩
 |err e G=>exact h
 |bad=>exact h
theorem ZFA(h:Bm E a (r.toS f) W):
  Em E a r (λk H=>∃(b:Wd)(G:DH),b.H=H/\Ext a b/\Sim b G/\r=.ok k G/\Bm E b (f k G) W):=by
 cases r with
 |ok d G=>exact λb x s=>⟨b,G,rfl,x,s,rfl,Bm.mono x h⟩
 |err e G=>exact h
 |bad=>exact h
section
theorem out.imp(h:out E a r Q)(w:∀v H,Q v H->Q' v H):out E a r Q':=by
 cases r with
 |ok d G=>exact λb v x s q=>w _ _ (h b v x s q)
 |err e G=>exact h
 |bad=>exact h
theorem Ep.imp(h:Ep E a r Q)(w:∀v H,Q v H->Q' v H):Ep E a r Q':=by
 cases r with
 |ok d G=>exact λb v x s q=>w _ _ (h b v x s q)
 |err e G=>exact h
 |bad=>exact h
theorem Em.imp(h:Em E a r Q)(w:∀v H,Q v H->Q' v H):Em E a r Q':=by
 cases r with
 |ok d G=>exact λb x s=>w _ _ (h b x s)
 |err e G=>exact h
 |bad=>exact h
def Wd.push(a:Wd)(p:xY)(ho:HO):Wd:=⟨a.K,a.n+1,λk=>if k=a.n then p else a.m k,upd a.H p ho⟩
def Wd.put(a:Wd)(p:xY)(ho:HO):Wd:={a with H:=upd a.H p ho}
theorem Ext.put(h:a.H p=uj):Ext a (a.put p ho):=
 ⟨rfl,zY _,λ_ _=>rfl,λq c e=>by show upd a.H p ho q=_;rw[Ag (Fy e h)];exact e,λq o u e=>by show upd a.H p ho q=_;rw[Ag (Fy e h)];exact e,λ_ t=>t.mono (λq b e=>by show upd a.H p ho q=_;rw[Ag (Fy e h)];exact e) (λq o u e=>by show upd a.H p ho q=_;rw[Ag (Fy e h)];exact e)⟩
theorem Ext.push(h:a.H p=uj):Ext a (a.push p ho):=
 ⟨rfl,jx _,λi b=>by show(if i=a.n then p else a.m i)=a.m i;rw[if_neg (z8 b)],λq d e=>by show upd a.H p ho q=_;rw[Ag (Fy e h)];exact e,λq o u e=>by show upd a.H p ho q=_;rw[Ag (Fy e h)];exact e,λ_ t=>t.mono (λq c e=>by show upd a.H p ho q=_;rw[Ag (Fy e h)];exact e) (λq o u e=>by show upd a.H p ho q=_;rw[Ag (Fy e h)];exact e)⟩
theorem XD.mono(x:Ext a b)(h:XD a od fs):XD b od fs:=by
 rcases h with h|⟨d,o,c,e,f,k,r⟩
 .exact .inl h
 .exact .inr ⟨d,o,c,e,x.frz _ _ _ f,k,r.mono x⟩
theorem ORep.mono(x:Ext a b)(h:ORep a o q):ORep b o q:=by
 cases o with
 |lst s=>obtain⟨f,e,r⟩:=h;exact⟨f,e,r.mono x⟩
 |dct g=>obtain⟨d,e,k,r⟩:=h;exact⟨d,e,k,r.mono x⟩
 |ins c fs=>obtain⟨C,i,d,n,e,k,r⟩:=h;exact⟨C,i,d,by rw[x.k];exact n,e,k,r.mono x⟩
 |tab C m=>obtain⟨c,P,e,t⟩:=h;exact⟨c,P,by rw[x.k];exact e,x.tab _ t⟩
 |exc c fs=>obtain⟨C,p,u,f,n,e,j,l,z⟩:=h;exact⟨C,p,u,f,by rw[x.k];exact n,e,j,l,z.mono x⟩
 |gone=>trivial
theorem Sim.lt(s:Sim a G)(h:G[i]?=uz o):i<a.n:=by rw[<-s.len];exact(zC.mp h).1
theorem Sim.put(s:Sim a G)(h:a.H p=uj):Sim (a.put p ho) G:=by
 refine⟨s.len,s.inj,λi o e=>?_,λi b=>?_⟩
 .have z:=s.tr i (s.lt e);show ORep _ o (upd a.H p ho (a.m i));rw[Ag (λq=>z (by rw[q];exact h))];exact(s.obj i o e).mono (Ext.put h)
 .have z:=s.tr i b;show upd a.H p ho (a.m i)≠uj;rw[Ag (λq=>z (by rw[q];exact h))];exact z
theorem Sim.push(s:Sim a G)(h:a.H p=uj)(r:ORep (a.push p ho) o (uz ho)):Sim (a.push p ho) (G++[o]):=by
 have f:∀i,i<a.n->a.m i≠p:=λi g q=>s.tr i g (by rw[q];exact h)
 have b:∀i,i<a.n->(a.push p ho).m i=a.m i:=λi g=>by show(if i=a.n then p else a.m i)=_;rw[if_neg (z8 g)]
 have d:(a.push p ho).m a.n=p:=by show(if a.n=a.n then p else a.m a.n)=_;rw[if_pos rfl]
 refine⟨by simp[s.len,Wd.push],λi j g v e=>?_,λi u e=>?_,λi g=>?_⟩
 .have l:i<a.n+1:=g;have w:j<a.n+1:=v;by_cases c:i<a.n
  .by_cases k:j<a.n
   .rw[b i c,b j k]at e;exact s.inj i j c k e
   .have:j=a.n:=by lia
    subst this;rw[b i c,d]at e;exact absurd e (f i c)
  .have:i=a.n:=by lia
   subst this;by_cases k:j<a.n
   .rw[b j k,d]at e;exact absurd e.symm (f j k)
   .lia
 .by_cases c:i<a.n
  .rw[zG (by rw[s.len];exact c)]at e;rw[b i c];show ORep _ u (upd a.H p ho (a.m i));rw[Ag (f i c)];exact(s.obj i u e).mono (Ext.push h)
  .have t:=(zC.mp e).1;have:i=a.n:=by rw[zL,s.len]at t;simp at t;lia
   subst this;rw[z9 (by rw[s.len];exact zY _),s.len]at e;simp at e;subst e;rw[d];show ORep _ o (upd a.H p ho p);rw[Dy];exact r
 .have l:i<a.n+1:=g;by_cases c:i<a.n
  .rw[b i c];show upd a.H p ho (a.m i)≠uj;rw[Ag (f i c)];exact s.tr i c
  .have:i=a.n:=by lia
   subst this;rw[d];show upd a.H p ho p≠uj;rw[Dy];simp
theorem Ext.wr(h:a.H p=uz (.lst vs)):Ext a (a.put p ho):=
 ⟨rfl,zY _,λ_ _=>rfl,λq c e=>by
  show upd a.H p ho q=_;rw[Ag (λz=>by subst z;rw[h]at e;cases e)];exact e,λq o u e=>by
  show upd a.H p ho q=_;rw[Ag (λz=>by subst z;rw[h]at e;cases e)];exact e,λ_ t=>t.mono (λq b e=>by show upd a.H p ho q=_;rw[Ag (λz=>by subst z;rw[h]at e;cases e)];exact e) (λq o u e=>by show upd a.H p ho q=_;rw[Ag (λz=>by subst z;rw[h]at e;cases e)];exact e)⟩
theorem Sim.wr(s:Sim a G)(c:i<a.n)(h:a.H (a.m i)=uz (.lst vs))(r:Reps (a.put (a.m i) (.lst vs')) ds' vs'):Sim (a.put (a.m i) (.lst vs')) (G.set i (.lst ds')):=by
 refine⟨by rw[jw];exact s.len,s.inj,λj o e=>?_,λj d=>?_⟩
 .rw[qF]at e;show ORep _ o (upd a.H (a.m i) (.lst vs') (a.m j));by_cases b:i=j
  .subst b;rw[if_pos rfl,if_pos (by rw[s.len];exact c)]at e;cases e;rw[Dy];exact⟨vs',rfl,r⟩
  .rw[if_neg b]at e;rw[Ag λz=>b (s.inj _ _ (s.lt e) c z).symm];exact(s.obj j o e).mono (Ext.wr h)
 .show upd a.H (a.m i) (.lst vs') (a.m j)≠uj;by_cases b:a.m j=a.m i
  .rw[b,Dy];simp
  .rw[Ag b];exact s.tr j d
mutual
noncomputable def bel(n:Nat):D->Bool
 |.ref i=>decide (i<n)
 |.tup ds=>bels n ds
 |.fl ds=>bels n ds
 |_=>ux
noncomputable def bels(n:Nat):List D->Bool
 |[]=>ux
 |d::ds=>bel n d&&bels n ds
end
def Ka(n:Nat):DO->Bool
 |.lst ds=>bels n ds
 |.dct kvs=>bels n (kvs.map (·.2))
 |.ins _ fs=>bels n (fs.map (·.2))
 |.tab _ _=>ux
 |.exc _ fs=>bels n (fs.map (·.2))
 |.gone=>ux
mutual
theorem Rep.bel:∀{d:D}{v:V},Rep a d v->bel a.n d=ux
 |.non,_,_=>by simp[_D.bel]
 |.bl _,_,_=>by simp[_D.bel]
 |.int _,_,_=>by simp[_D.bel]
 |.str _,_,_=>by simp[_D.bel]
 |.ty _,_,_=>by simp[_D.bel]
 |.tup b,v,h=>by obtain⟨p,c,e,q,r⟩:=h;simp only[_D.bel];exact Reps.bels r
 |.fl b,v,h=>by obtain⟨p,c,e,q,r⟩:=h;simp only[_D.bel];exact Reps.bels r
 |.ref i,v,h=>by obtain⟨l,e⟩:=h;simp only[_D.bel];exact decide_eq_true l
theorem Reps.bels:∀{b:List D}{vs:List V},Reps a b vs->bels a.n b=ux
 |[],_,_=>by simp[_D.bels]
 |d::b,vs,h=>by
  obtain⟨v,r,e,f,c⟩:=h;simp only[_D.bels];rw[Rep.bel f,Reps.bels c]
  rfl
end
structure Cut (b c:Wd):Prop where
 k:c.K=b.K
 h:c.H=b.H
mutual
theorem Rep.cut(x:Cut b c)(a:n<=c.n)(g:∀i,i<n->c.m i=b.m i):∀{d:D}{v:V},Rep b d v->bel n d=ux->Rep c d v
 |.non,_,h,_=>h
 |.bl _,_,h,_=>h
 |.int _,_,h,_=>h
 |.str _,_,h,_=>h
 |.ty _,_,h,_=>h
 |.tup o,v,h,q=>by obtain⟨p,f,e,t,r⟩:=h;simp only[_D.bel]at q;exact⟨p,f,e,by rw[x.k,x.h];exact t,Reps.cut x a g r q⟩
 |.fl o,v,h,q=>by obtain⟨p,f,e,t,r⟩:=h;simp only[_D.bel]at q;exact⟨p,f,e,by rw[x.k,x.h];exact t,Reps.cut x a g r q⟩
 |.ref i,v,h,q=>by obtain⟨l,e⟩:=h;simp only[_D.bel]at q;have j:=of_decide_eq_true q;exact⟨zq j a,by rw[g i j];exact e⟩
theorem Reps.cut(x:Cut b c)(f:n<=c.n)(g:∀i,i<n->c.m i=b.m i):∀{a:List D}{vs:List V},Reps b a vs->bels n a=ux->Reps c a vs
 |[],_,h,_=>h
 |d::a,vs,h,q=>by obtain⟨v,r,e,j,k⟩:=h;simp only[_D.bels,z5]at q;exact⟨v,r,e,Rep.cut x f g j q.1,Reps.cut x f g k q.2⟩
end
theorem ORep.cut(x:Cut b c)(d:n<=c.n)(g:∀i,i<n->c.m i=b.m i)(h:ORep b o q)(l:Ka n o=ux):ORep c o q:=by
 cases o with
 |lst A=>obtain⟨p,e,r⟩:=h;exact⟨p,e,Reps.cut x d g r l⟩
 |dct s=>obtain⟨a,e,k,r⟩:=h;exact⟨a,e,k,Reps.cut x d g r l⟩
 |ins c fs=>obtain⟨C,j,a,n,e,k,r⟩:=h;exact⟨C,j,a,by rw[x.k];exact n,e,k,Reps.cut x d g r l⟩
 |tab C m=>obtain⟨c,P,e,t⟩:=h;exact⟨c,P,by rw[x.k];exact e,by rw[x.h];exact t⟩
 |exc c fs=>
  obtain⟨C,y,u,p,n,e,v,w,z⟩:=h;refine⟨C,y,u,p,by rw[x.k];exact n,e,v,w,?_⟩;rcases z with z|⟨j,o,a,e,f,k,r⟩
  .exact .inl z
  .exact .inr ⟨j,o,a,e,by rw[x.h];exact f,k,Reps.cut x d g r l⟩
 |gone=>trivial
theorem ORep.Ka(h:ORep a o q):Ka a.n o=ux:=by
 cases o with
 |lst l=>obtain⟨i,e,r⟩:=h;exact r.bels
 |dct d=>obtain⟨b,e,k,r⟩:=h;exact r.bels
 |ins c fs=>obtain⟨C,g,b,n,e,k,r⟩:=h;exact r.bels
 |tab C m=>rfl
 |exc c fs=>
  obtain⟨C,s,u,i,n,e,j,p,z⟩:=h;rcases z with⟨z,_⟩|⟨g,o,b,e,f,k,r⟩
  .rw[z];rfl
  .exact r.bels
 |gone=>rfl
open Classical in
def tidy (G:DH) (r:R D):R D:=match r with
 | .ok d G'=>if G'.take G.length=G then
   (if bel G.length d=ux then .ok d G else match d with
    |.ref i=>match G'[i]? with
     |some o=>if Ka G.length o=ux then .ok (.ref G.length) (G++[o])else .ok d G'
     |none=>.ok d G'
    |_=>.ok d G')else .ok d G'
 |r=>r
theorem R9 (s:Sim a G) (h:out E a (tidy G r) Q):out E a r Q:=by
 cases r with
 |err e M=>exact h
 |bad=>exact h
 | ok d M=>
  intro b v x f I;unfold tidy at h;dsimp only at h;split at h
  .rename_i S;have F:∀i o,G[i]?=uz o->M[i]?=uz o:=λi o e=>by have C:=(zC.mp e).1;rw[<-S,j0 C]at e;exact e
   have t:∀(c:Wd),Cut b c->a.n<=c.n->(∀i,i<a.n->c.m i=b.m i)->∀i o,G[i]?=uz o->ORep c o (c.H (c.m i)):=λc q P N i o e=>by rw[q.h,N i (s.lt e)];exact(f.obj i o (F i o e)).cut q P N (s.obj i o e).Ka
   split at h
   .rename_i z;rw[s.len]at z;let c:Wd:=⟨b.K,a.n,b.m,b.H⟩;have q:Cut b c:=⟨rfl,rfl⟩;refine h c v ⟨x.k,zY _,x.m,x.tup,x.frz,x.tab⟩ ⟨s.len,λi j C g=>f.inj i j (zq C x.n) (zq g x.n),t c q (zY _) (λ_ _=>rfl),λi C=>f.tr i (zq C x.n)⟩ ?_;exact I.cut q (zY _) (λ_ _=>rfl) z
   .rename_i z;split at h
    .rename_i i;obtain⟨B,L⟩:=I;split at h
     .rename_i o T;split at h
      .rename_i A;rw[s.len]at A z h;simp only[_D.bel,decide_eq_true_eq]at z;let c:Wd:=⟨b.K,a.n+1,λk=>if k=a.n then b.m i else b.m k,b.H⟩;have q:Cut b c:=⟨rfl,rfl⟩;have w:∀j,j<a.n->c.m j=b.m j:=λj g=>by show(if j=a.n then b.m i else b.m j)=_;rw[if_neg (z8 g)]
       have cn:c.m a.n=b.m i:=by show(if a.n=a.n then b.m i else b.m a.n)=_;rw[if_pos rfl]
       have l:∀j,j<a.n->j<b.n:=λj g=>zq g x.n
       refine h c v ⟨x.k,jx _,λj g=>(w j g).trans (x.m j g),x.tup,x.frz,x.tab⟩ ⟨by simp[s.len,c],λj k g hk e=>?_,λj u e=>?_,λj g=>?_⟩ ⟨qJ _,by rw[cn];exact L⟩
       .have J:j<a.n+1:=g;have U:k<a.n+1:=hk;by_cases p:j<a.n
        .by_cases y:k<a.n
         .rw[w j p,w k y]at e;exact f.inj j k (l j p) (l k y) e
         .have:k=a.n:=by lia
          subst this;rw[w j p,cn]at e;have:=f.inj j i (l j p) B e;lia
        .have:j=a.n:=by lia
         subst this;by_cases y:k<a.n
         .rw[w k y,cn]at e;have:=f.inj i k B (l k y) e;lia
         .lia
       .by_cases p:j<a.n
        .rw[zG (by rw[s.len];exact p)]at e;exact t c q (jx _) w j u e
        .have O:=(zC.mp e).1;have:j=a.n:=by rw[zL,s.len]at O;simp at O;lia
         subst this;rw[z9 (by rw[s.len];exact zY _),s.len]at e;simp at e;subst e;rw[cn];exact(f.obj i o T).cut q (jx _) w A
       .have J:j<a.n+1:=g;by_cases p:j<a.n
        .rw[w j p];exact f.tr j (l j p)
        .have:j=a.n:=by lia
         subst this;rw[cn];exact f.tr i B
      .exact h b v x f ⟨B,L⟩
     .exact h b v x f ⟨B,L⟩
    .exact h b v x f I
  .exact h b v x f I
end
noncomputable def dV(i:Nat):DE:=λS G=>match S[i]? with
 |some (uz d)=>.ok d G
 |_=>.bad
noncomputable def dC(d:D):DE:=λ_ G=>.ok d G
def dOp(f:D->D->DH->R D)(a b:DE):DE:=λS G=>(a S G).bind λx G1=>(b S G1).bind λy G2=>f x y G2
def dUn(f:D->DH->R D)(a:DE):DE:=λS G=>(a S G).bind f
noncomputable def Bj:DA:=λ_ G=>.ok [] G
def Ai(a:DE)(r:DA):DA:=λS G=>(a S G).bind λx G1=>(r S G1).bind λxs G2=>.ok (x::xs) G2
def dFn(f:List D->DH->R D)(t:DA):DE:=λS G=>(t S G).bind f
def Ci(t:DE):DE:=λS G=>tidy G (t S G)
def asB:D->DH->R Bool
 |.bl k,G=>.ok k G
 |_,_=>.bad
def Ay(t:DE):DB:=λS G=>(t S G).bind asB
def Jp(t u:DB):DB:=λS G=>(t S G).bind λk G1=>if k=ux then u S G1 else .ok uv G1
def dOr(t u:DB):DB:=λS G=>(t S G).bind λk G1=>if k=ux then .ok ux G1 else u S G1
def Gw(t:DB):DB:=λS G=>(t S G).bind λk G1=>.ok (!k) G1
def Ho(t u:DE):DE:=λS G=>(t S G).bind λx G1=>(asB x G1).bind λk G2=>if k=ux then u S G2 else .ok (.bl uv) G2
def S7(t u:DE):DE:=λS G=>(t S G).bind λx G1=>(asB x G1).bind λk G2=>if k=ux then .ok (.bl ux) G2 else u S G2
def Th(t:DE):DE:=λS G=>(t S G).bind λx G1=>(asB x G1).bind λk G2=>.ok (.bl (!k)) G2
def dIf(c:DB)(t u:DE):DE:=λS G=>(c S G).bind λk G1=>if k=ux then t S G1 else u S G1
def K5(f g:D->D->DH->R D)(a b c:DE):DE:=λS G=>(a S G).bind λx G1=>(b S G1).bind λy G2=>(f x y G2).bind λz G3=>(asB z G3).bind λk G4=>
 if k=ux then(c S G4).bind λw G5=>g y w G5 else .ok (.bl uv) G4
noncomputable def Am(ds:List D)(G:DH):R D:=if ds.length<=1000000 then .ok (.tup ds) G else .bad
noncomputable def Ae(ds:List D)(G:DH):R D:=if ds.length<=1000000 then .ok (.ref G.length) (G++[.lst ds])else .bad
noncomputable def Bd(d:D)(G:DH):Option (List D):=match d with
 |.tup xs=>uz xs
 |.fl xs=>uz xs
 |.ref i=>match G[i]? with
  |some (.lst xs)=>uz xs
  |_=>uj
 |_=>uj
theorem size6:(1000000:Nat)<=sizeLine:=by decide
section
variable{X:Cx}{E:XK}{a b c:xz}{ta tb tc:DE}{pos:Pos}
theorem two{K:za}{f:D->D->DH->R D}{g:St}{H:Hp}{Q:VK}(h:lE K E (dOp f ta tb) g H Q):tOp (lR2 K E f) (lE K E ta) (lE K E tb) g H Q:=by obtain⟨a,S,G,hk,rfl,s,r,h⟩:=h;refine⟨a,S,G,hk,rfl,s,r,(Dw h).imp ?_⟩;rintro v _ ⟨b,d,i,rfl,x,z,q,_,j⟩;refine⟨b,S,i,x.k.trans hk,rfl,z,r.mono x,(Dw j).imp ?_⟩;rintro w _ ⟨c,e,n,rfl,y,m,o,_,l⟩;exact⟨c,n,d,e,y.k.trans (x.k.trans hk),rfl,m,q.mono y,o,l⟩
theorem Mi(i:Nat){pos:Pos}(j:X.N[i]?=uz x:=by rfl)(k:Vis X.env.scope x:=by first|exact Or.inl rfl|exact Or.inr (Or.inl rfl)|exact Or.inr (Or.inr rfl))(l:(x==("__debug__":Str))=uv:=by decide)
  (f:(x==("__classdict__":Str))=uv:=by decide):QE X E (.Name x pos) (dV i):=by
 refine(Ov j k l f).mono λm H Q h=>?_
 obtain⟨a,S,G,hk,rfl,s,r,h⟩:=h;unfold dV at h;split at h
 .rename_i d e;obtain⟨v,g,q⟩:=r.get i d e;exact⟨v,g,h a v (Ext.refl a) s q⟩
 .exact h.elim
theorem Lw{K:za}{d:D}{v:V}{f:St}{H:Hp}{Q:VK}(h:lE K E (dC d) f H Q)(r:∀a:Wd,a.K=K->Rep a d v):Q v H:=by obtain⟨a,S,G,hk,rfl,s,_,h⟩:=h;exact h a v (Ext.refl a) s (r a hk)
theorem ZNO{i:Int}{j:Nat}:QE X E (.Constant (.int i) j pos) (dC (.int i)):=ZOa.mono λd H Q h=>Lw h λ_ _=>rfl
theorem ZTv{i:Bool}{j:Nat}:QE X E (.Constant (.bool i) j pos) (dC (.bl i)):=ZRS.mono λd H Q h=>Lw h λ_ _=>rfl
theorem ZPK{j:Nat}:QE X E (.Constant .none j pos) (dC .non):=ZLy.mono λd H Q h=>Lw h λ_ _=>rfl
theorem ZQ2{i:Str}{j:Nat}:QE X E (.Constant (.str i) j pos) (dC (.str i)):=Qz.mono λd H Q h=>Lw h λ_ _=>rfl
theorem ZAh(g:Gl X x)(i:X.mg x=uz u)(r:RelV v u)(f:∀a:Wd,a.K=X.K->Rep a d v)(j:(x==("__debug__":Str))=uv:=by decide):QE X E (.Name x pos) (dC d):=
 (Z0 g i r j).mono λk H Q h=>Lw h f
theorem ZN0(ho:OpR X (xI op) (lR2 X.K E f))(g:QE X E a ta)(d:QE X E b tb):QE X E (.BinOp a op b pos) (dOp f ta tb):=
 (ZQo ho g d).mono λ_ _ _ h=>two h
theorem ZLP(ho:OpR X (xO op) (lR2 X.K E f))(g:QE X E a ta)(d:QE X E b tb)(i:xH op b=uv):QE X E (.Compare a [op] [b] pos) (dOp f ta tb):=
 (ZTJ ho g d i).mono λ_ _ _ h=>two h
theorem V7{K:za}{t:DE}{f:St}{H:Hp}{Q:Bool->Hp->Prop}(h:lB K E (Ay t) f H Q):Qq (lE K E t) f H Q:=by
 obtain⟨a,S,G,hk,rfl,s,r,h⟩:=h;refine⟨a,S,G,hk,rfl,s,r,(ZPM h).imp ?_⟩;rintro v _ ⟨b,d,j,rfl,x,i,q,_,g⟩;cases d with
 |bl k=>exact⟨k,q,g b (Ext.refl b) i⟩
 |_=>exact g.elim
theorem Zw(w:∀d H Q,t' d H Q->t d H Q)(d:St)(H:Hp)(Q:Bool->Hp->Prop)(h:Qq t' d H Q):Qq t d H Q:=w _ _ _ h
theorem T6(ho:OpR X (xO op) (lR2 X.K E f))(i:QE X E a ta)(g:QE X E b tb)(j:xH op b=uv):QT X E (.Compare a [op] [b] pos) (Ay (dOp f ta tb)):=
 (ZDy ho i g j).mono λd H Q h=>Zw (λ_ _ _ z=>two z) d H Q (V7 h)
theorem chain{K:za}{f g:D->D->DH->R D}{n:St}{H:Hp}{Q:VK}(h:lE K E (K5 f g ta tb tc) n H Q):ZKM (lR2 K E f) (lR2 K E g) (lE K E ta) (lE K E tb) (lE K E tc) n H Q:=by
 obtain⟨a,S,G,hk,rfl,s,r,h⟩:=h;refine⟨a,S,G,hk,rfl,s,r,(Dw h).imp ?_⟩;rintro v _ ⟨b,d,B,rfl,x,U,q,_,O⟩;refine⟨b,S,B,x.k.trans hk,rfl,U,r.mono x,(Dw O).imp ?_⟩;rintro w _ ⟨c,e,J,rfl,y,P,l,_,C⟩;refine⟨c,J,d,e,y.k.trans (x.k.trans hk),rfl,P,q.mono y,l,(Dw C).imp ?_⟩;rintro z _ ⟨o,F,T,rfl,i,A,Y,_,j⟩;cases F with
 | bl k=>
  refine⟨k,Y,?_⟩;cases k with
  |false=>exact j o (.bl uv) (Ext.refl _) A rfl
  |true=>
   refine⟨o,S,T,(i.k.trans (y.k.trans (x.k.trans hk))),rfl,A,((r.mono x).mono y).mono i,(Dw j).imp ?_⟩;rintro z4 _ ⟨M,e4,L,rfl,m,I,N,_,Z⟩;exact⟨M,L,e,e4,m.k.trans (i.k.trans (y.k.trans (x.k.trans hk))),rfl,I,(l.mono i).mono m,N,Z⟩
 |_=>exact j.elim
theorem ZVw(ho:OpR X (xO op) (lR2 X.K E f))(d:OpR X (xO op') (lR2 X.K E g))(k:QE X E a ta)(j:QE X E b tb)(m:QE X E c tc)
  (l:lastMarks [op,op'] [b,c]=uv:=by with_unfolding_all rfl):QT X E (.Compare a [op,op'] [b,c] pos) (Ay (K5 f g ta tb tc)):=
 (ZVA ho d k j m l).mono λi H Q h=>Zw (λ_ _ _ z=>chain z) i H Q (V7 h)
theorem ZTN(g:QE X E a ta)(f:∀d,isTrue a X.env d=(do let v<-d;standAt a.pos;holding [v] (truthy v)):=by intro _;rfl):QT X E a (Ay ta):=
 (ZM5 g f).mono λi H Q h=>V7 h
theorem ZUE(d:QE X E a ta):QE X E a (Ci ta):=_L.PE.mono d λf H Q h=>by obtain⟨w,S,G,hk,rfl,s,r,h⟩:=h;exact⟨w,S,G,hk,rfl,s,r,R9 s h⟩
def QW(X:Cx)(E:XK)(e:xz)(t:DB):Prop:=PW X e (lB X.K E t)
theorem _root_._L.PW.mono(h:PW X e t)(w:∀d H Q,t' d H Q->t d H Q):PW X e t':=λg f s d H Q I q=>h g f s d H Q I (w d H Q q)
variable{u t:DB}{rest:List xz}
theorem ZN3{K:za}{d:St}{H:Hp}{Q:Bool->Hp->Prop}(h:lB K E (Jp t u) d H Q):tAnd (lB K E t) (lB K E u) d H Q:=by
 obtain⟨a,S,G,hk,rfl,s,r,h⟩:=h;refine⟨a,S,G,hk,rfl,s,r,(Ww h).imp ?_⟩;rintro k _ ⟨b,i,rfl,x,g,_,f⟩;cases k with
 |true=>exact⟨b,S,i,x.k.trans hk,rfl,g,r.mono x,f⟩
 |false=>exact f b (Ext.refl b) g
theorem ZSU{K:za}{d:St}{H:Hp}{Q:Bool->Hp->Prop}(h:lB K E (dOr t u) d H Q):tOr (lB K E t) (lB K E u) d H Q:=by
 obtain⟨a,S,G,hk,rfl,s,r,h⟩:=h;refine⟨a,S,G,hk,rfl,s,r,(Ww h).imp ?_⟩;rintro k _ ⟨b,i,rfl,x,g,_,f⟩;cases k with
 |true=>exact f b (Ext.refl b) g
 |false=>exact⟨b,S,i,x.k.trans hk,rfl,g,r.mono x,f⟩
theorem ZOv(d:QT X E a t):QW X E (.BoolOp .And [a] pos) t:=pw_and1 d
theorem ZEp(d:QT X E a t):QW X E (.BoolOp .Or [a] pos) t:=pw_or1 d
theorem ZM1(f:QT X E a t)(d:QW X E (.BoolOp .And (b::rest) pos) u):QW X E (.BoolOp .And (a::b::rest) pos) (Jp t u):=(pw_and f d).mono λ_ _ _ h=>ZN3 h
theorem ZDA(f:QT X E a t)(d:QW X E (.BoolOp .Or (b::rest) pos) u):QW X E (.BoolOp .Or (a::b::rest) pos) (dOr t u):=(pw_or f d).mono λ_ _ _ h=>ZSU h
theorem qt_w(h:QW X E a t):QT X E a t:=_L.PW.pt h
theorem ZPW(f:QT X E a t):QT X E (.UnaryOp .Not a pos) (Gw t):=(ZNk f).mono λj H Q h=>by obtain⟨a,S,G,hk,rfl,s,r,h⟩:=h;refine⟨a,S,G,hk,rfl,s,r,(Ww h).imp ?_⟩;rintro k _ ⟨b,i,rfl,x,g,_,d⟩;exact d b (Ext.refl b) g
theorem ZOU{op}(h:QE X E a ta):QE X E (.BoolOp op [a] pos) ta:=ZMu h
theorem ZUk(l:QE X E a ta)(j:QE X E (.BoolOp .And (b::rest) pos) tb):QE X E (.BoolOp .And (a::b::rest) pos) (Ho ta tb):=(ZK9 l j).mono λm H Q h=>by
 obtain⟨a,S,G,hk,rfl,s,r,h⟩:=h;refine⟨a,S,G,hk,rfl,s,r,(Dw h).imp ?_⟩;rintro v _ ⟨b,d,i,rfl,x,g,q,_,f⟩;cases d with
 |bl k=>
  refine⟨k,q,?_⟩;cases k with
  |true=>exact⟨b,S,i,x.k.trans hk,rfl,g,r.mono x,f⟩
  |false=>exact f b _ (Ext.refl b) g rfl
 |_=>exact f.elim
theorem ZLv(l:QE X E a ta)(j:QE X E (.BoolOp .Or (b::rest) pos) tb):QE X E (.BoolOp .Or (a::b::rest) pos) (S7 ta tb):=(ZUr l j).mono λm H Q h=>by
 obtain⟨a,S,G,hk,rfl,s,r,h⟩:=h;refine⟨a,S,G,hk,rfl,s,r,(Dw h).imp ?_⟩;rintro v _ ⟨b,d,i,rfl,x,g,q,_,f⟩;cases d with
 |bl k=>
  refine⟨k,q,?_⟩;cases k with
  |false=>exact⟨b,S,i,x.k.trans hk,rfl,g,r.mono x,f⟩
  |true=>exact f b _ (Ext.refl b) g rfl
 |_=>exact f.elim
theorem ZSN(g:QE X E a ta):QE X E (.UnaryOp .Not a pos) (Th ta):=(ZVb g).mono λl H Q h=>by
 obtain⟨a,S,G,hk,rfl,s,r,h⟩:=h;refine⟨a,S,G,hk,rfl,s,r,(Dw h).imp ?_⟩;rintro v _ ⟨b,d,j,rfl,x,i,q,_,f⟩;cases d with
 |bl k=>exact⟨k,q,f b _ (Ext.refl b) i rfl⟩
 |_=>exact f.elim
theorem ZQp(l:QT X E c t)(j:QE X E a ta)(i:QE X E b tb):QE X E (.IfExp c a b pos) (dIf t ta tb):=(ZRs l j i).mono λm H Q h=>by
 obtain⟨a,S,G,hk,rfl,s,r,h⟩:=h;refine⟨a,S,G,hk,rfl,s,r,(ZGd h).imp ?_⟩;rintro k _ ⟨b,d,rfl,x,g,_,f⟩;cases k with
 |true=>exact⟨b,S,d,x.k.trans hk,rfl,g,r.mono x,f⟩
 |false=>exact⟨b,S,d,x.k.trans hk,rfl,g,r.mono x,f⟩
variable{es:List xz}{tr:DA}
theorem ZL4:QA X E [] Bj:=ZHv.mono λd H Q h=>by obtain⟨a,S,G,hk,rfl,s,r,h⟩:=h;exact h a [] (Ext.refl a) s rfl
noncomputable def notStar:xz->Bool
 |.Starred _ _=>uv
 |_=>ux
theorem Hi(a:xz)(es:List xz)(env:Env)(h:notStar a=ux):vX (a::es) env=(uv,eval a env)::vX es env:=by
 cases a<;>first
  |exact absurd h zw
  |rfl
theorem Jb(pos:Pos)(env:Env):∀es:List xz,es.all notStar=ux->(xF pos (vX es env)).any (·.1)=uv
 |[],_=>rfl
 |a::es,h=>by
  rw[qN,z5]at h;rw[Hi a es env h.1];have d:=Jb pos env es h.2;unfold xF at d⊢;rw[zk,j4,d]
  rfl
theorem ZMQ(m:QE X E a ta)(o:QA X E es tr)(i:notStar a=ux:=by rfl):QA X E (a::es) (Ai ta tr):=(ZCF m o (Hi a es X.env i)).mono λz H Q h=>by obtain⟨a,S,G,hk,rfl,s,r,h⟩:=h;refine⟨a,S,G,hk,rfl,s,r,(ZPD h).imp ?_⟩;rintro v _ ⟨b,d,f,rfl,x,w,q,_,g⟩;refine⟨b,S,f,x.k.trans hk,rfl,w,r.mono x,(ZVW g).imp ?_⟩;rintro A _ ⟨c,C,B,rfl,y,l,n,_,j⟩;exact j c _ (Ext.refl c) l (Reps.cons (q.mono y) n)
theorem ZPj{x1}(h:QA X E es tr):QE X E (.Tuple es x1 pos) (dFn Am tr):=(ZPy h).mono λk H Q h=>by
 obtain⟨a,S,G,hk,rfl,s,r,h⟩:=h;refine⟨a,S,G,hk,rfl,s,r,(Ld h).imp ?_⟩;rintro f _ ⟨b,l,j,rfl,x,i,q,_,d⟩;unfold Am at d;split at d
 .rename_i g;refine⟨by rw[<-q.length];exact z0 g size6,λp hp=>?_⟩;exact d (b.put p (.tup f)) (.ref p) (Ext.put hp) (i.put hp) ⟨p,f,rfl,.of Dy,q.mono (Ext.put hp)⟩
 .exact d.elim
theorem ZKe(h:QA X E es tr):QE X E (.List es pos) (dFn Ae tr):=(ZRJ h).mono λk H Q h=>by
 obtain⟨a,S,G,hk,rfl,s,r,h⟩:=h;refine⟨a,S,G,hk,rfl,s,r,(Ld h).imp ?_⟩;rintro g _ ⟨b,l,j,rfl,x,f,q,_,d⟩;unfold Ae at d;split at d
 .rename_i i;refine⟨by rw[<-q.length];exact z0 i size6,λp hp=>?_⟩;refine d (b.push p (.lst g)) (.ref p) (Ext.push hp) (f.push hp ⟨g,rfl,q.mono (Ext.push hp)⟩) ⟨?_,?_⟩
  .rw[f.len];exact qJ _
  .rw[f.len];show V.ref p=.ref (if b.n=b.n then p else b.m b.n);rw[if_pos rfl]
 .exact d.elim
variable{e:xz}{x:Str}{p:Pos}
theorem Oi{K:za}{f:List D->DH->R D}{d:St}{H:Hp}{Q:VK}(h:lE K E (dFn f tr) d H Q):lA K E tr d H (λvs g=>lRn K E f vs g Q):=by obtain⟨a,S,G,hk,rfl,s,r,h⟩:=h;refine⟨a,S,G,hk,rfl,s,r,(Ld h).imp ?_⟩;rintro vs _ ⟨b,l,i,rfl,x,m,q,_,j⟩;exact⟨b,i,l,x.k.trans hk,rfl,m,q,j⟩
theorem ZTm{id:String}{f:List D->DH->R D}(n:CallR X (.builtin id) (lRn X.K E f))(j:Gl X x)(m:X.mg x=uj)(l:xL x=uz (.builtin id))(k:QA X E (e::es) tr)(i:x≠"__name__":=by decide)(g:(x==("__debug__":Str))=uv:=by decide)
  (o:notStar e=ux:=by rfl) (d:es.all notStar=ux:=by rfl):QE X E (.Call (.Name x p) (e::es) [] pos) (dFn f tr):=
 (ZTo n j m l k i g (Hi e es X.env o) (Jb pos X.env es d)).mono λq H Q h=>Oi h
theorem ZSY{id:String}{f:List D->DH->R D}(n:CallR X (.type id) (lRn X.K E f))(j:Gl X x)(m:X.mg x=uj)(l:xL x=uz (.type id))(k:QA X E (e::es) tr)(i:x≠"__name__":=by decide)(g:(x==("__debug__":Str))=uv:=by decide)
  (o:notStar e=ux:=by rfl) (d:es.all notStar=ux:=by rfl):QE X E (.Call (.Name x p) (e::es) [] pos) (dFn f tr):=
 (ZNn n j m l k i g (Hi e es X.env o) (Jb pos X.env es d)).mono λq H Q h=>Oi h
theorem ZRv{CX:CXT}{k:Nat}{f:xY}{i:xj}{ps:List Str}{F:List D->DH->R D}(m:FnOk X.prog X.w X.K X.mg X.base CX k f i ps (lF X.K F))(C:Room k X.A)(n:Gl X x)(z:X.mg x=uz (.ref f))(hk:zd X.K (.ref f)=ux)(v:Binds X.K i ps [])
  (o:Passes CX X E0) (y:QA X E0 (e::es) tr) (g:(x==("__debug__":Str))=uv:=by decide) (J:notStar e=ux:=by rfl) (d:es.all notStar=ux:=by rfl):
  QE X E0 (.Call (.Name x p) (e::es) [] pos) (dFn F tr):=
 (ZCw m C n z hk v .nil o y g (Hi e es X.env J) (Jb pos X.env es d)).mono λL H Q h=>by obtain⟨a,S,G,hk,rfl,s,r,h⟩:=Oi h;refine⟨a,S,G,hk,rfl,s,r,h.imp ?_⟩;rintro M _ ⟨b,j,B,hk,rfl,I,q,l⟩;exact⟨b,j,B,hk,rfl,I,by rw[qG];exact q,l⟩
theorem ZHD(g:IxR X (lR2 X.K E f))(i:QE X E a ta)(j:QE X E b tb)(d:PlainIx b:=by intro _ _;rfl):QE X E (.Subscript a b pos) (dOp f ta tb):=
 (ZJR g i j d).mono λ_ _ _ h=>two h
end
noncomputable instance (i j:Int):Decidable (CMul i j):=by unfold CMul;infer_instance
noncomputable instance (i j:Int):Decidable (CPow i j):=by unfold CPow;infer_instance
def CDivL(j:Int):Prop:=0<j/\j.natAbs.log2<9000
noncomputable instance (j:Int):Decidable (CDivL j):=by unfold CDivL;infer_instance
def M9:D->D->DH->R D
 |.int i,.int j,G=>.ok (.int (i-j)) G
 |_,_,_=>.bad
def Mt:D->D->DH->R D
 |.int i,.int j,G=>if CDivL j then .ok (.int (i/j)) G else .bad
 |_,_,_=>.bad
def Hy:D->D->DH->R D
 |.int i,.int j,G=>if 0<j then .ok (.int (i%j)) G else .bad
 |_,_,_=>.bad
def Ny:D->D->DH->R D
 |.int i,.int j,G=>if CPow i j then .ok (.int (i^j.toNat)) G else .bad
 |_,_,_=>.bad
def Kf:D->D->DH->R D
 |.int i,.int j,G=>.ok (.bl (decide (i<j))) G
 |.str i,.str j,G=>.ok (.bl (decide (i.cps.toList<j.cps.toList))) G
 |_,_,_=>.bad
def J0:D->D->DH->R D
 |.int i,.int j,G=>.ok (.bl (decide (i<=j))) G
 |.str i,.str j,G=>.ok (.bl (!decide (j.cps.toList<i.cps.toList))) G
 |_,_,_=>.bad
def Mx:D->D->DH->R D
 |.int i,.int j,G=>.ok (.bl (decide (j<i))) G
 |.str i,.str j,G=>.ok (.bl (decide (j.cps.toList<i.cps.toList))) G
 |_,_,_=>.bad
def U8:D->D->DH->R D
 |.int i,.int j,G=>.ok (.bl (decide (j<=i))) G
 |.str i,.str j,G=>.ok (.bl (!decide (i.cps.toList<j.cps.toList))) G
 |_,_,_=>.bad
noncomputable def Ft(d:D)(G:DH):Option (List D):=match d with
 |.fl xs=>uz xs
 |.ref i=>match G[i]? with
  |some (.lst xs)=>uz xs
  |_=>uj
 |_=>uj
def Hw:D->D->DH->R D
 |.int i,.int j,G=>.ok (.int (i+j)) G
 |.str i,.str j,G=>if i.length+j.length<=1000000 then .ok (.str (i++j)) G else .bad
 |.tup xs,.tup ys,G=>if xs≠[]/\xs.length+ys.length<=1000000 then .ok (.tup (xs++ys)) G else .bad
 |d,e,G=>match Ft d G,Ft e G with
  |some xs,uz ys=>if xs.length+ys.length<=1000000 then .ok (.ref G.length) (G++[.lst (xs++ys)])else .bad
  |_,_=>.bad
section
variable{X:Cx}{E:XK}
theorem Fe(ho:OpR X f r)
  (h:∀(a:Wd)(G:DH)(d e:D)(x y:V)(Q:VK),a.K=X.K->Sim a G->Rep a d x->Rep a e y->out E a (F d e G) Q->r x y a.H Q):OpR X f (lR2 X.K E F):=
 ho.mono λx y H Q ⟨a,G,d,e,hk,g,s,b,c,q⟩=>by subst g;exact h a G d e x y Q hk s b c q
theorem ZKY:OpR X (xI .Sub) (lR2 X.K E M9):=Fe ZRc λa G d e x y Q hk s b c q=>by
 cases d<;>cases e<;>first
  |exact q.elim
  |exact⟨_,_,b,c,q a _ (Ext.refl a) s rfl⟩
theorem ZVF:OpR X (xI .FloorDiv) (rI (λ_ j=>CDivL j) λi j=>.int (i/j)):=opI λi j _ _ _ _ _ a q=>by refine floordiv_int (by have:=a.1;lia) (by rw[Int.fdiv_eq_ediv_of_nonneg _ (Int.le_of_lt a.1)];exact q) (.inl (PyProof.noPylong_of_log2 a.2))
theorem ZQv:OpR X (xI .FloorDiv) (lR2 X.K E Mt):=Fe ZVF λa G d e x y Q hk s rd re q=>by
 cases d<;>cases e<;>first
  |exact q.elim
  | (
    rename_i i j;unfold Mt at q;dsimp only at q;split at q
    .exact⟨_,_,rd,re,by assumption,q a _ (Ext.refl a) s rfl⟩
    .exact q.elim)
theorem ZTM:OpR X (xI .Mod) (lR2 X.K E Hy):=Fe ZQC λa G d e x y Q hk s rd re q=>by
 cases d<;>cases e<;>first
  |exact q.elim
  | (
    rename_i i j;unfold Hy at q;dsimp only at q;split at q
    .exact⟨_,_,rd,re,by assumption,q a _ (Ext.refl a) s rfl⟩
    .exact q.elim)
theorem ZKs:OpR X (xI .Pow) (lR2 X.K E Ny):=Fe ZUJ λa G d e x y Q hk s rd re q=>by
 cases d<;>cases e<;>first
  |exact q.elim
  | (
    rename_i i j;unfold Ny at q;dsimp only at q;split at q
    .exact⟨_,_,rd,re,by assumption,q a _ (Ext.refl a) s rfl⟩
    .exact q.elim)
theorem o_lt:OpR X (xO .Lt) (lR2 X.K E Kf):=Fe (ZK0.or ZSf) λa G d e x y Q hk s b c q=>by
 cases d<;>cases e<;>first
  |exact q.elim
  |exact .inl ⟨_,_,b,c,q a _ (Ext.refl a) s rfl⟩
  |exact .inr ⟨_,_,b,c,q a _ (Ext.refl a) s rfl⟩
theorem ZRb:OpR X (xO .LtE) (λx y H Q=>∃i j,x=.str i/\y=.str j/\Q (.bl (!decide (j.cps.toList<i.cps.toList))) H):=by intro a s d H x y v u Q I b c h;obtain⟨i,j,rfl,rfl,q⟩:=h;obtain⟨t,rfl⟩:=b;obtain⟨e,rfl⟩:=c;exact PySem.P.le_str ⟨.bl _,H,I,rfl,q⟩
theorem ZPQ:OpR X (xO .Gt) (λx y H Q=>∃i j,x=.str i/\y=.str j/\Q (.bl (decide (j.cps.toList<i.cps.toList))) H):=by intro a s d H x y v u Q I b c h;obtain⟨i,j,rfl,rfl,q⟩:=h;obtain⟨t,rfl⟩:=b;obtain⟨e,rfl⟩:=c;exact PySem.P.gt_str ⟨.bl _,H,I,rfl,q⟩
theorem ZOG:OpR X (xO .GtE) (λx y H Q=>∃i j,x=.str i/\y=.str j/\Q (.bl (!decide (i.cps.toList<j.cps.toList))) H):=by intro a s d H x y v u Q I b c h;obtain⟨i,j,rfl,rfl,q⟩:=h;obtain⟨t,rfl⟩:=b;obtain⟨e,rfl⟩:=c;exact PySem.P.ge_str ⟨.bl _,H,I,rfl,q⟩
theorem o_le:OpR X (xO .LtE) (lR2 X.K E J0):=Fe (ZT5.or ZRb) λa G d e x y Q hk s b c q=>by
 cases d<;>cases e<;>first
  |exact q.elim
  |exact .inl ⟨_,_,b,c,q a _ (Ext.refl a) s rfl⟩
  |exact .inr ⟨_,_,b,c,q a _ (Ext.refl a) s rfl⟩
theorem o_gt:OpR X (xO .Gt) (lR2 X.K E Mx):=Fe (ZTW.or ZPQ) λa G d e x y Q hk s b c q=>by
 cases d<;>cases e<;>first
  |exact q.elim
  |exact .inl ⟨_,_,b,c,q a _ (Ext.refl a) s rfl⟩
  |exact .inr ⟨_,_,b,c,q a _ (Ext.refl a) s rfl⟩
theorem o_ge:OpR X (xO .GtE) (lR2 X.K E U8):=Fe (ZQV.or ZOG) λa G d e x y Q hk s b c q=>by
 cases d<;>cases e<;>first
  |exact q.elim
  |exact .inl ⟨_,_,b,c,q a _ (Ext.refl a) s rfl⟩
  |exact .inr ⟨_,_,b,c,q a _ (Ext.refl a) s rfl⟩
theorem Sim.lst(s:Sim a G)(h:G[i]?=uz (.lst xs)):∃vs,a.H (a.m i)=uz (.lst vs)/\Reps a xs vs:=s.obj i _ h
theorem Iw{E:XK}(s:Sim a G)(r:Reps a ds vs)(h:out E a (.ok (.ref G.length) (G++[.lst ds])) Q)(p:xY)(hp:a.H p=uj):Q (.ref p) (upd a.H p (.lst vs)):=by
 refine h (a.push p (.lst vs)) (.ref p) (Ext.push hp) (s.push hp ⟨vs,rfl,r.mono (Ext.push hp)⟩) ⟨?_,?_⟩
 .rw[s.len];exact qJ _
 .rw[s.len];show V.ref p=.ref (if a.n=a.n then p else a.m a.n);rw[if_pos rfl]
theorem Wo{E:XK}(s:Sim a G)(r:Reps a ds vs)(h:out E a (.ok (.tup ds) G) Q)(p:xY)(hp:a.H p=uj):Q (.ref p) (upd a.H p (.tup vs)):=
 h (a.put p (.tup vs)) (.ref p) (Ext.put hp) (s.put hp) ⟨p,vs,rfl,.of Dy,r.mono (Ext.put hp)⟩
theorem Qa(s:Sim a G)(r:Rep a d x)(h:Ft d G=uz xs):∃p vs,x=.ref p/\SqL a.K a.H p vs/\Reps a xs vs:=by
 cases d with
 |fl j=>
  have e:=Option.some.inj h;subst e;obtain⟨p,vs,e,q,c⟩:=r;exact⟨p,vs,e,q.sq,c⟩
 |ref i=>
  unfold Ft at h;dsimp only at h;split at h
  .rename_i j f;have e:=Option.some.inj h;subst e;obtain⟨vs,b,g⟩:=s.lst f;exact⟨a.m i,vs,r.2,.of b,g⟩
  .cases h
 |_=>cases h
def ZKG(K:za):R2:=λx y H Q=>∃l b xs zs,x=.ref l/\y=.ref b/\SqL K H l xs/\SqL K H b zs/\xs.length+zs.length<=sizeLine/\∀p,H p=uj->Q (.ref p) (upd H p (.lst (xs++zs)))
theorem ZV2:OpR X (xI .Add) (ZKG X.K):=by
 intro t s σ H x y v u Q I B U h;obtain⟨l,b,Z,W,rfl,rfl,J,A,Y,q⟩:=h;cases B;cases U;obtain⟨c,r,P,_⟩:=I.list J;obtain⟨a,m,C,_⟩:=I.list A;obtain⟨⟨N,M,k,w⟩,n,p,L,_,O⟩:=P;obtain⟨⟨o,j,e,f⟩,z,d,g,_,i⟩:=C;cases L;cases O;cases g;cases i;have hl:=r.length;have S:=m.length;refine concat_meets ⟨_,p,rfl⟩ ⟨_,d,rfl⟩ noFill_list_add seq_list_add PySem.F.slot_list_add PySem.F.entry_list_add (PySem.F.args_list_add_2 _ _) (list_addW l b c.toArray a.toArray n z M j w f (by rw[zK,zK];lia)) ⟨p,d,?_⟩
 have T:c.toArray++a.toArray=(c++a).toArray:=by simp
 rw[T];exact⟨.ref _,_,I.lnew (r.append m) (by rw[zL];lia),rfl,q _ I.fresh⟩
theorem ZLZ:OpR X (xI .Add) (lR2 X.K E Hw):=Fe (ZQJ.or (ZQY.or (ZV2.or ZMv))) λa G d e x y Q hk s rd re q=>by
 have lst:out E a (match Ft d G,Ft e G with
  |some xs,uz ys=>if xs.length+ys.length<=1000000 then .ok (.ref G.length) (G++[.lst (xs++ys)])else .bad
  |_,_=>.bad) Q->ZKG X.K x y a.H Q:=λq=>by
  split at q
  .rename_i xs ys h1 h2;split at q
   .rename_i hl;obtain⟨p,vs,e1,q1,r1⟩:=Qa s rd h1;obtain⟨p',vs',e2,q2,r2⟩:=Qa s re h2;rw[hk]at q1 q2;exact⟨p,p',vs,vs',e1,e2,q1,q2,by rw[<-r1.length,<-r2.length];exact z0 hl size6,λp hp=>Iw s (r1.append r2) q p hp⟩
   .exact q.elim
  .exact q.elim
 cases d<;>cases e<;>first
  |exact .inl ⟨_,_,rd,re,q a _ (Ext.refl a) s rfl⟩
  |exact(λq=>Or.inr (Or.inr (Or.inl (lst q)))) q
  |skip
 .rename_i i j;unfold Hw at q;dsimp only at q;split at q
  .rename_i hl;exact .inr (.inl ⟨_,_,rd,re,z0 hl size6,q a _ (Ext.refl a) s rfl⟩)
  .exact q.elim
 .rename_i xs ys;unfold Hw at q;dsimp only at q;split at q
  .rename_i hl;obtain⟨p,vs,e1,h1,r1⟩:=rd;obtain⟨p',vs',e2,h2,r2⟩:=re;rw[hk]at h1 h2;refine .inr (.inr (.inr ⟨p,p',vs,vs',e1,e2,h1,h2,λz=>hl.1 (jJ (by rw[r1.length,z];rfl)),by rw[<-r1.length,<-r2.length];exact z0 hl.2 size6,λz=>?_,λ_ p0 hp=>?_⟩))
   .refine q a (.ref p) (Ext.refl a) s ⟨p,vs,rfl,by rw[hk];exact h1,?_⟩;have e3:=jJ (by rw[r2.length,z];rfl);rw[e3,qG];exact r1
   .exact Wo s (r1.append r2) q p0 hp
  .exact q.elim
inductive VD where
 |flat (v:V)
 |lst (xs:List D)
 |tup (xs:List D)
 |bad
def view(G:DH):D->VD
 |.non=>.flat .non
 |.bl b=>.flat (.bl b)
 |.int i=>.flat (.int i)
 |.str x=>.flat (.str x)
 |.ty _=>.bad
 |.tup xs=>.tup xs
 |.fl xs=>.lst xs
 |.ref i=>match G[i]? with
  |some (.lst xs)=>.lst xs
  |_=>.bad
noncomputable def eqZ(f:D->D->Option Bool):List D->List D->Option Bool
 |x::xs,y::ys=>match f x y,eqZ f xs ys with
  |some a,uz b=>uz (a&&b)
  |_,_=>uj
 |_,_=>uz ux
def eqD:Nat->DH->D->D->Option Bool
 |0=>λ_ _ _=>uj
 | n+1=>λG d e=>match view G d,view G e with
  |.flat a,.flat b=>uz (eqV a b)
  |.lst xs,.lst ys=>if xs.length=ys.length then eqZ (eqD n G) xs ys else uz uv
  |.tup xs,.tup ys=>match eqZ (eqD n G) xs ys with
   |some b=>uz (b&&xs.length==ys.length)
   |none=>uj
  |.bad,_=>uj
  |_,.bad=>uj
  |_,_=>uz uv
theorem Vl:∀{xs ys:List D}{k:Bool},eqZ f xs ys=uz k->∃e:Nat->Bool,(∀(j:Nat)(x y:D),xs[j]?=uz x->ys[j]?=uz y->f x y=uz (e j))/\k=(zX (min xs.length ys.length)).all e
 | [],ys,k,h=>⟨λ_=>ux,λj x y c _=>by simp at c,by
   have d:uz ux=uz k:=by cases ys<;>exact h
   cases d;simp⟩
 |x::xs,[],k,h=>⟨λ_=>ux,λj x y _ c=>by simp at c,by have d:=h;cases d;simp⟩
 | x::xs,y::ys,k,h=>by
  unfold eqZ at h;split at h
  .rename_i a b i l;obtain⟨e,n,hk⟩:=Vl l
   refine⟨λj=>match j with |0=>a|j+1=>e j,λj o m c g=>?_,?_⟩
   .cases j with
    |zero=>simp at c g;subst c;subst g;exact i
    |succ j=>exact n j o m (by simpa using c) (by simpa using g)
   .rw[<-(Option.some.inj h),hk];have:min (x::xs).length (y::ys).length=min xs.length ys.length+1:=by simp only[zM];lia
    rw[this,qE,qN,List.all_map]
    rfl
  .cases h
theorem Uz(s:Sim a G)(r:Rep a d x):match view G d with
  |.flat v=>x=v/\Cq v=ux
  |.lst g=>∃p c,x=.ref p/\SqL a.K a.H p c/\Reps a g c
  |.tup g=>∃p c,x=.ref p/\SqT a.K a.H p c/\Reps a g c
  |.bad=>True:=by
 cases d with
 |non=>exact⟨r,rfl⟩
 |bl b=>exact⟨r,rfl⟩
 |int b=>exact⟨r,rfl⟩
 |str b=>exact⟨r,rfl⟩
 |ty n=>trivial
 |tup g=>
  obtain⟨p,c,e,h,q⟩:=r;exact⟨p,c,e,h,q⟩
 |fl g=>
  obtain⟨p,c,e,h,q⟩:=r;exact⟨p,c,e,h.sq,q⟩
 | ref i=>
  unfold view;dsimp only;split
  .rename_i v f
   split at f<;>cases f
  .rename_i g f;split at f
   .rename_i o k;cases f;obtain⟨c,j,l⟩:=s.lst k;exact⟨a.m i,c,r.2,.of j,l⟩
   .cases f
  .rename_i g f
   split at f<;>cases f
  .trivial
theorem ZKt(f:RelV y u)(c:RelV x v)(g:Cq y=ux)(e:Cq x=ux):SeqAt.RcAt A s u v (eqV y x):=by
 cases y with
 |non=>
  cases f;cases x with
  |non=>cases c;exact SeqAt.RcAt.none_none
  |bl b=>cases c;exact SeqAt.RcAt.none_bool b
  |int b=>obtain⟨t,rfl⟩:=c;exact SeqAt.RcAt.none_int b t
  |str b=>obtain⟨t,rfl⟩:=c;exact SeqAt.RcAt.none_str b t
  |_=>exact absurd (e) zw
 |bl a=>
  cases f;cases x with
  |non=>cases c;exact SeqAt.RcAt.bool_none a
  |bl b=>cases c;exact SeqAt.RcAt.bool_bool a b
  |int b=>obtain⟨t,rfl⟩:=c;exact SeqAt.RcAt.bool_int a b t
  |str b=>obtain⟨t,rfl⟩:=c;exact SeqAt.RcAt.bool_str a b t
  |_=>exact absurd (e) zw
 |int a=>
  obtain⟨d,rfl⟩:=f;cases x with
  |non=>cases c;exact SeqAt.RcAt.int_none a d
  |bl b=>cases c;exact SeqAt.RcAt.int_bool a d b
  |int b=>obtain⟨t,rfl⟩:=c;exact SeqAt.RcAt.int_int a d b t
  |str b=>obtain⟨t,rfl⟩:=c;exact SeqAt.RcAt.int_str a d b t
  |_=>exact absurd (e) zw
 |str a=>
  obtain⟨d,rfl⟩:=f;cases x with
  |non=>cases c;exact SeqAt.RcAt.str_none a d
  |bl b=>cases c;exact SeqAt.RcAt.str_bool a d b
  |int b=>obtain⟨t,rfl⟩:=c;exact SeqAt.RcAt.str_int a d b t
  |str b=>obtain⟨t,rfl⟩:=c;exact SeqAt.RcAt.str_str a d b t
  |_=>exact absurd (e) zw
 |_=>exact absurd (g) zw
theorem ZNJ(f:RelV y u)(c:RelV x v)(g:Cq y=ux)(e:Cq x=ux):SeqAt.RcNeAt A s u v (!eqV y x):=by
 cases y with
 |non=>
  cases f;cases x with
  |non=>cases c;exact SeqAt.RcNeAt.none_none
  |bl b=>cases c;exact SeqAt.RcNeAt.none_bool b
  |int b=>obtain⟨t,rfl⟩:=c;exact SeqAt.RcNeAt.none_int b t
  |str b=>obtain⟨t,rfl⟩:=c;exact SeqAt.RcNeAt.none_str b t
  |_=>exact absurd (e) zw
 |bl a=>
  cases f;cases x with
  |non=>cases c;exact SeqAt.RcNeAt.bool_none a
  |bl b=>cases c;exact SeqAt.RcNeAt.bool_bool a b
  |int b=>obtain⟨t,rfl⟩:=c;exact SeqAt.RcNeAt.bool_int a b t
  |str b=>obtain⟨t,rfl⟩:=c;exact SeqAt.RcNeAt.bool_str a b t
  |_=>exact absurd (e) zw
 |int a=>
  obtain⟨d,rfl⟩:=f;cases x with
  |non=>cases c;exact SeqAt.RcNeAt.int_none a d
  |bl b=>cases c;exact SeqAt.RcNeAt.int_bool a d b
  |int b=>obtain⟨t,rfl⟩:=c;exact SeqAt.RcNeAt.int_int a d b t
  |str b=>obtain⟨t,rfl⟩:=c;exact SeqAt.RcNeAt.int_str a d b t
  |_=>exact absurd (e) zw
 |str a=>
  obtain⟨d,rfl⟩:=f;cases x with
  |non=>cases c;exact SeqAt.RcNeAt.str_none a d
  |bl b=>cases c;exact SeqAt.RcNeAt.str_bool a d b
  |int b=>obtain⟨t,rfl⟩:=c;exact SeqAt.RcNeAt.str_int a d b t
  |str b=>obtain⟨t,rfl⟩:=c;exact SeqAt.RcNeAt.str_str a d b t
  |_=>exact absurd (e) zw
 |_=>exact absurd (g) zw
end
section
variable{X:Cx}{E:XK}{vA:List (xY×Obj)}{σ:St}{s:x0}
theorem ZQz(v:V)(h:Cq v=ux):eqV v v=ux:=by cases v<;>first|rfl|exact absurd (h) zw|(simp[eqV])
theorem ZGD(I:Inv X vA σ a.H s)(hk:a.K=X.K)(L:Sim a G):∀(n:Nat){d e:D}{x:V}{k:Bool},Rep a d x->Rep a e x->eqD n G d e=uz k->k=ux
 |0,_,_,_,_,_,_,h=>by cases h
 | n+1,d,e,x,k,T,P,h=>by
  have m:=Uz L T;have o:=Uz L P;have r:∀{B A:List D}{q:List V}{b:Bool},Reps a B q->Reps a A q->eqZ (eqD n G) B A=uz b->b=ux:=λ{B A q b}y t F=>by obtain⟨f,Q,S⟩:=Vl F;rw[S,qY];intro j W;have N:=qK.mp W;have l:B[j]?=uz (B[j]'(by lia)):=zJ (by lia);have g:A[j]?=uz (A[j]'(by lia)):=zJ (by lia);obtain⟨Z,c,M⟩:=y.get l;obtain⟨v2,i,O⟩:=t.get g;rw[c]at i;cases i;exact ZGD I hk L n M O (Q j _ _ l g)
  unfold eqD at h
  try dsimp only at h
  revert h m o
  cases view G d<;>cases view G e<;>intro m o h<;>dsimp only at h m o<;>first
   |cases h
   |skip
  .
   rename_i v w;obtain⟨rfl,u⟩:=m;obtain⟨rfl,Y⟩:=o;exact ZQz _ u
  .obtain⟨rfl,u⟩:=m;obtain⟨p,q,c,_⟩:=o;subst c;cases u
  .obtain⟨rfl,u⟩:=m;obtain⟨p,q,c,_⟩:=o;subst c;cases u
  .obtain⟨rfl,u⟩:=o;obtain⟨p,q,c,_⟩:=m;subst c;cases u
  .obtain⟨p,q,c,l,y⟩:=m;obtain⟨J,z,i,g,t⟩:=o;rw[c]at i;cases i;rw[hk]at l g;cases I.ZCd l g;split at h
   .exact r y t h
   .rename_i U;exact absurd (y.length.trans t.length.symm) U
  .obtain⟨p,q,c,l,y⟩:=m;obtain⟨J,z,i,g,t⟩:=o;rw[c]at i;cases i;rw[hk]at l g;obtain⟨_,_,C,_⟩:=I.list l;obtain⟨_,_,pt,_⟩:=I.tuple g;exact absurd rfl (wj C.isList pt)
  .obtain⟨rfl,u⟩:=o;obtain⟨p,q,c,_⟩:=m;subst c;cases u
  .obtain⟨p,q,c,l,y⟩:=m;obtain⟨J,z,i,g,t⟩:=o;rw[c]at i;cases i;rw[hk]at l g;obtain⟨_,_,C,_⟩:=I.list g;obtain⟨_,_,pt,_⟩:=I.tuple l;exact absurd rfl (wj C.isList pt)
  .obtain⟨p,q,c,l,y⟩:=m;obtain⟨J,z,i,g,t⟩:=o;rw[c]at i;cases i;rw[hk]at l g;cases I.ZBY l g;split at h
   .rename_i b F;rw[<-(Option.some.inj h),r y t F,y.length,t.length];simp
   .cases h
theorem Uo(r:Reps a xs vs)(q:Vals vs its)(h:j<its.toArray.size):∃d v,xs[j]?=uz d/\Rep a d v/\RelV v its.toArray[j]:=by
 have b:j<its.length:=by simpa using h
 have i:j<vs.length:=by rw[q.length];exact b
 obtain⟨v,c⟩:∃v,vs[j]?=uz v:=⟨vs[j],zJ i⟩;obtain⟨d,l,f⟩:=r.get' c;obtain⟨u,e,g⟩:=q.get c;have k:u=its.toArray[j]:=by have:=zJ b;rw[this]at e;simpa using(Option.some.inj e).symm
 exact⟨d,v,l,f,by rw[<-k];exact g⟩
theorem Qd(I:Inv X vA σ a.H s)(hk:a.K=X.K)(sm:Sim a G):∀(n:Nat){A:xq}{d e:D}{x y:V}{u w:xB}{k:Bool},A.units+n<cLine->Rep a d x->Rep a e y->RelV x u->RelV y w->eqD n G d e=uz k->
  SeqAt.EqAt A s u w k/\SeqAt.RcAt A s u w k/\SeqAt.RcNeAt A s u w (!k)
 |0,_,_,_,_,_,_,_,_,_,_,_,_,_,h=>by cases h
 | n + 1,A,d,e,x,y,u,w,k,hu,rd,re,r,m,h=>by
  have L:=Uz sm rd;have M:=Uz sm re;have c:A.units<cLine:=by lia
  have hu2:A.in1.units+n<cLine:=by show A.units+1+n<cLine;lia
  have F:∀{z:V},Rep a d z->Rep a e z->eqD (n+1) G d e=uz k->k=ux:=λS C r3=>ZGD I hk sm (n+1) S C r3
  have h0:=h;unfold eqD at h
  try dsimp only at h
  have O:∀{p q:xY}{k:Bool},(p=q->k=ux)->SeqAt.RcAt A s (.ref p) (.ref q) k->SeqAt.EqAt A s (.ref p) (.ref q) k:=λ{p q k}hs hr=>by
   by_cases e:p=q
   .rw[hs e,e];exact wZ _
   .exact SeqAt.EqAt.of_refs e hr
  revert h L M
  cases hvd:view G d<;>cases hve:view G e<;>intro L M h<;>dsimp only at h L M<;>first
   |cases h
   |skip
  .
   obtain⟨rfl,N⟩:=L;obtain⟨rfl,f2⟩:=M;exact⟨ZJ5 r m N f2,ZKt r m N f2,ZNJ r m N f2⟩
  .
   obtain⟨rfl,N⟩:=L;obtain⟨q,Y,rfl,o,C⟩:=M;cases m;rw[hk]at o;obtain⟨l,qv,g,_⟩:=I.list o;cases x with
   |non=>cases r;exact⟨SeqAt.EqAt.none_list g.isList c,SeqAt.RcAt.none_list g.isList c,SeqAt.RcNeAt.none_list g.isList c⟩
   |bl b=>cases r;exact⟨SeqAt.EqAt.bool_list b g.isList c,SeqAt.RcAt.bool_list b g.isList c,SeqAt.RcNeAt.bool_list b g.isList c⟩
   |int b=>obtain⟨t,rfl⟩:=r;exact⟨SeqAt.EqAt.int_list b t g.isList c,SeqAt.RcAt.int_list b t g.isList c,SeqAt.RcNeAt.int_list b t g.isList c⟩
   |str b=>obtain⟨t,rfl⟩:=r;exact⟨SeqAt.EqAt.str_list b t g.isList c,SeqAt.RcAt.str_list b t g.isList c,SeqAt.RcNeAt.str_list b t g.isList c⟩
   |_=>exact absurd (N) zw
  .
   obtain⟨rfl,N⟩:=L;obtain⟨q,Y,rfl,o,C⟩:=M;cases m;rw[hk]at o;obtain⟨l,qv,g,_⟩:=I.tuple o;cases x with
   |non=>cases r;exact⟨SeqAt.EqAt.none_tuple g c,SeqAt.RcAt.none_tuple g c,SeqAt.RcNeAt.none_tuple g c⟩
   |bl b=>cases r;exact⟨SeqAt.EqAt.bool_tuple b g c,SeqAt.RcAt.bool_tuple b g c,SeqAt.RcNeAt.bool_tuple b g c⟩
   |int b=>obtain⟨t,rfl⟩:=r;exact⟨SeqAt.EqAt.int_tuple b t g c,SeqAt.RcAt.int_tuple b t g c,SeqAt.RcNeAt.int_tuple b t g c⟩
   |str b=>obtain⟨t,rfl⟩:=r;exact⟨SeqAt.EqAt.str_tuple b t g c,SeqAt.RcAt.str_tuple b t g c,SeqAt.RcNeAt.str_tuple b t g c⟩
   |_=>exact absurd (N) zw
  .
   obtain⟨rfl,N⟩:=M;obtain⟨q,Y,rfl,o,C⟩:=L;cases r;rw[hk]at o;obtain⟨l,qv,g,_⟩:=I.list o;cases y with
   |non=>cases m;exact⟨SeqAt.EqAt.list_none g.isList c,SeqAt.RcAt.list_none g.isList c,SeqAt.RcNeAt.list_none g.isList c⟩
   |bl b=>cases m;exact⟨SeqAt.EqAt.list_bool b g.isList c,SeqAt.RcAt.list_bool b g.isList c,SeqAt.RcNeAt.list_bool b g.isList c⟩
   |int b=>obtain⟨t,rfl⟩:=m;exact⟨SeqAt.EqAt.list_int b t g.isList c,SeqAt.RcAt.list_int b t g.isList c,SeqAt.RcNeAt.list_int b t g.isList c⟩
   |str b=>obtain⟨t,rfl⟩:=m;exact⟨SeqAt.EqAt.list_str b t g.isList c,SeqAt.RcAt.list_str b t g.isList c,SeqAt.RcNeAt.list_str b t g.isList c⟩
   |_=>exact absurd (N) zw
  .
   obtain⟨p,Y,rfl,Q,S⟩:=L;obtain⟨q,W,rfl,o,C⟩:=M;cases r;cases m;rw[hk]at Q o;obtain⟨l,Z,B,_⟩:=I.list Q;obtain⟨i,q2,v,_⟩:=I.list o;have P:l.toArray.size=Y.length:=by rw[zK];exact Z.length.symm
   have U:i.toArray.size=W.length:=by rw[zK];exact q2.length.symm
   split at h
   .rename_i hl;obtain⟨f,hf,hb⟩:=Vl h;have J:l.toArray.size=i.toArray.size:=by rw[P,U,<-S.length,<-C.length];exact hl
    have he:∀j(g1:j<l.toArray.size)(g2:j<i.toArray.size),SeqAt.EqAt A.in1 s l.toArray[j] i.toArray[j] (f j):=λj g1 g2=>by obtain⟨d1,v1,e1,rd1,rv1⟩:=Uo S Z g1;obtain⟨d2,v2,e2,rd2,rv2⟩:=Uo C q2 g2;exact(Qd I hk sm n hu2 rd1 rd2 rv1 rv2 (hf j d1 d2 e1 e2)).1
    have T:k=(zX l.toArray.size).all f:=by
     rw[hb]
     congr 2
     rw[P,<-S.length,hl];lia
    have rc:SeqAt.RcAt A s (.ref p) (.ref q) k:=by rw[T];exact SeqAt.RcAt.lists B.isList v.isList J c he
    refine⟨O (λe=>?_) rc,rc,by rw[T];exact SeqAt.RcNeAt.lists B.isList v.isList J c he⟩;subst e;exact F rd re h0
   .rename_i hl;have h':=Option.some.inj h;subst h';have J:(l.toArray.size != i.toArray.size)=ux:=by rw[bne_iff_ne,P,U,<-S.length,<-C.length];exact hl
    refine⟨O (λe=>?_) (wx B.isList v.isList J c),wx B.isList v.isList J c,SeqAt.RcNeAt.lists_lengths B.isList v.isList J c⟩;subst e;exact F rd re h0
  .
   obtain⟨p,Y,rfl,Q,S⟩:=L;obtain⟨q,W,rfl,o,C⟩:=M;cases r;cases m;rw[hk]at Q o;obtain⟨l,Z,B,_⟩:=I.list Q;obtain⟨i,q2,v,_⟩:=I.tuple o;exact⟨SeqAt.EqAt.list_tuple B.isList v c,SeqAt.RcAt.list_tuple B.isList v c,SeqAt.RcNeAt.list_tuple B.isList v c⟩
  .
   obtain⟨rfl,N⟩:=M;obtain⟨q,Y,rfl,o,C⟩:=L;cases r;rw[hk]at o;obtain⟨l,qv,g,_⟩:=I.tuple o;cases y with
   |non=>cases m;exact⟨SeqAt.EqAt.tuple_none g c,SeqAt.RcAt.tuple_none g c,SeqAt.RcNeAt.tuple_none g c⟩
   |bl b=>cases m;exact⟨SeqAt.EqAt.tuple_bool b g c,SeqAt.RcAt.tuple_bool b g c,SeqAt.RcNeAt.tuple_bool b g c⟩
   |int b=>obtain⟨t,rfl⟩:=m;exact⟨SeqAt.EqAt.tuple_int b t g c,SeqAt.RcAt.tuple_int b t g c,SeqAt.RcNeAt.tuple_int b t g c⟩
   |str b=>obtain⟨t,rfl⟩:=m;exact⟨SeqAt.EqAt.tuple_str b t g c,SeqAt.RcAt.tuple_str b t g c,SeqAt.RcNeAt.tuple_str b t g c⟩
   |_=>exact absurd (N) zw
  .
   obtain⟨p,Y,rfl,Q,S⟩:=L;obtain⟨q,W,rfl,o,C⟩:=M;cases r;cases m;rw[hk]at Q o;obtain⟨l,Z,B,_⟩:=I.tuple Q;obtain⟨i,q2,v,_⟩:=I.list o;exact⟨SeqAt.EqAt.tuple_list B v.isList c,SeqAt.RcAt.tuple_list B v.isList c,SeqAt.RcNeAt.tuple_list B v.isList c⟩
  .
   rename_i xs ys;obtain⟨p,Y,rfl,Q,S⟩:=L;obtain⟨q,W,rfl,o,C⟩:=M;cases r;cases m;rw[hk]at Q o;obtain⟨l,Z,B,_⟩:=I.tuple Q;obtain⟨i,q2,v,_⟩:=I.tuple o;have P:l.toArray.size=xs.length:=by rw[zK,S.length];exact Z.length.symm
   have U:i.toArray.size=ys.length:=by rw[zK,C.length];exact q2.length.symm
   split at h
   .rename_i b hz;obtain⟨f,hf,hb⟩:=Vl hz;have he:∀j(g1:j<l.toArray.size)(g2:j<i.toArray.size),SeqAt.EqAt A.in1 s l.toArray[j] i.toArray[j] (f j):=λj g1 g2=>by obtain⟨d1,v1,e1,rd1,rv1⟩:=Uo S Z g1;obtain⟨d2,v2,e2,rd2,rv2⟩:=Uo C q2 g2;exact(Qd I hk sm n hu2 rd1 rd2 rv1 rv2 (hf j d1 d2 e1 e2)).1
    have T:k=((zX (min l.toArray.size i.toArray.size)).all f&&l.toArray.size==i.toArray.size):=by rw[<-(Option.some.inj h),hb,P,U]
    have rc:SeqAt.RcAt A s (.ref p) (.ref q) k:=by rw[T];exact SeqAt.RcAt.tuples B v c he
    refine⟨O (λe=>?_) rc,rc,by rw[T];exact SeqAt.RcNeAt.tuples B v c he⟩;subst e;exact F rd re h0
   .cases h
def Fi(d e:D)(G:DH):R D:=match eqD 30 G d e with
 |some k=>.ok (.bl k) G
 |none=>.bad
def Ef(d e:D)(G:DH):R D:=match eqD 30 G d e with
 |some k=>.ok (.bl (!k)) G
 |none=>.bad
theorem o_eq(n:X.A.units+64<cLine):OpR X (xO .Eq) (lR2 X.K E Fi):=by
 intro b s m H x y v u Q I g l ⟨a,G,d,e,hk,j,c,f,i,q⟩;subst j;unfold Fi at q;split at q
 .rename_i k h;exact(Qd I hk c 30 (by lia) f i g l h).2.1 _ _ _ _ ⟨.bl k,a.H,I,rfl,q a _ (Ext.refl a) c rfl⟩
 .exact q.elim
theorem o_ne(n:X.A.units+64<cLine):OpR X (xO .NotEq) (lR2 X.K E Ef):=by
 intro b s m H x y v u Q I g l ⟨a,G,d,e,hk,j,c,f,i,q⟩;subst j;unfold Ef at q;split at q
 .rename_i k h;exact(Qd I hk c 30 (by lia) f i g l h).2.2 _ _ _ _ ⟨.bl (!k),a.H,I,rfl,q a _ (Ext.refl a) c rfl⟩
 .exact q.elim
end
noncomputable abbrev DG:=D->DSt->DH->R DSt
def Ek(E:XK)(a:Wd)(r:R DSt)(Q:St->Hp->Prop):Prop:=match r with
 |.ok S G=>∀(b:Wd)(σ:St),Ext a b->Sim b G->RepS b S σ->Q σ b.H
 |.err x G=>XOk E a x G
 |.bad=>False
def lG(K:za)(E:XK)(t:DG):TG:=λv σ H Q=>∃(a:Wd)(S:DSt)(G:DH)(d:D),a.K=K/\a.H=H/\Sim a G/\RepS a S σ/\Rep a d v/\Ek E a (t d S G) Q
def QG(X:Cx)(E:XK)(tg:xz)(t:DG):Prop:=PG X tg (lG X.K E t)
noncomputable abbrev DGs:=List D->DSt->DH->R DSt
def lGs(K:za)(E:XK)(t:DGs):TGs:=λvs σ H Q=>∃(a:Wd)(S:DSt)(G:DH)(ds:List D),a.K=K/\a.H=H/\Sim a G/\RepS a S σ/\Reps a ds vs/\Ek E a (t ds S G) Q
def QGs(X:Cx)(E:XK)(tg:List xz)(t:DGs):Prop:=PGs X tg (lGs X.K E t)
noncomputable def gV(i:Nat):DG:=λd S G=>.ok (S.set i (uz d)) G
noncomputable def Ak:DGs:=λds S G=>match ds with
 |[]=>.ok S G
 |_=>.bad
def Aa(t:DG)(u:DGs):DGs:=λds S G=>match ds with
 |d::r=>(t d S G).bind λS1 G1=>u r S1 G1
 |[]=>.bad
noncomputable def Ah(n:Nat)(t:DGs):DG:=λd S G=>match d with
 |.tup ds=>if ds.length=n then t ds S G else .bad
 |_=>.bad
theorem Ek.imp(h:Ek E a r Q)(w:∀v H,Q v H->Q' v H):Ek E a r Q':=by
 cases r with
 |ok d G=>exact λb v x s q=>w _ _ (h b v x s q)
 |err e G=>exact h
 |bad=>exact h
theorem Ek.mono(x:Ext a b)(h:Ek E a r Q):Ek E b r Q:=by
 cases r with
 |ok d G=>exact λc v y s q=>h c v (x.trans y) s q
 |err e G=>exact XOk.mono x h
 |bad=>exact h
theorem ZOY(h:Ek E a (r.bind f) Q):
  Ek E a r (λc H=>∃(b:Wd)(S:DSt)(G:DH),b.H=H/\Ext a b/\Sim b G/\RepS b S c/\r=.ok S G/\Ek E b (f S G) Q):=by
 cases r with
 |ok d G=>exact λb v x s q=>⟨b,d,G,rfl,x,s,q,rfl,Ek.mono x h⟩
 |err e G=>exact h
 |bad=>exact h
theorem ZEh(h:Ek E a (r.bind f) Q):
  out E a r (λv H=>∃(b:Wd)(d:D)(G:DH),b.H=H/\Ext a b/\Sim b G/\Rep b d v/\r=.ok d G/\Ek E b (f d G) Q):=by
 cases r with
 |ok d G=>exact λb v x s q=>⟨b,d,G,rfl,x,s,q,rfl,Ek.mono x h⟩
 |err e G=>exact h
 |bad=>exact h
theorem ZDT(h:Bm E a (r.toS f) W):
  Ek E a r (λc H=>∃(b:Wd)(S:DSt)(G:DH),b.H=H/\Ext a b/\Sim b G/\RepS b S c/\r=.ok S G/\Bm E b (f S G) W):=by
 cases r with
 |ok d G=>exact λb v x s q=>⟨b,d,G,rfl,x,s,q,rfl,Bm.mono x h⟩
 |err e G=>exact h
 |bad=>exact h
section
variable{X:Cx}{E:XK}
theorem _root_._L.PG.mono(h:PG X e t)(w:∀v a H Q,t' v a H Q->t v a H Q):PG X e t':=λb s a H v u Q I r q=>h b s a H v u Q I r (w v a H Q q)
theorem _root_._L.PGs.mono(h:PGs X e t)(w:∀v a H Q,t' v a H Q->t v a H Q):PGs X e t':=λb s a H v u Q I r q=>h b s a H v u Q I r (w v a H Q q)
theorem ZK5(i:Nat){x:Str}{pos:Pos}(b:X.N.Nodup)(c:X.N[i]?=uz x:=by rfl)(g:Loc X.env.scope x:=by first|exact Or.inl rfl|exact Or.inr rfl)
  (f:X.fn x=ux∨X.env.scope.names.lookup x=uz .local:=by first|exact .inl rfl|exact .inr rfl|assumption):QG X E (.Name x pos) (gV i):=
 (ZPU b c g f).mono λv j H Q h=>by obtain⟨a,S,G,d,hk,rfl,s,r,q,h⟩:=h;exact h a _ (Ext.refl a) s (r.set i q)
theorem ZRl:QGs X E [] Ak:=ZOf.mono λf c H Q h=>by
 obtain⟨a,S,G,b,hk,rfl,s,r,q,h⟩:=h;cases b with
 |nil=>exact⟨q,h a c (Ext.refl a) s r⟩
 |cons d b=>exact h.elim
theorem ZNP(c:QG X E e t)(n:QGs X E es u)
  (l:(xD (e::es) X.env).map (·.2)=assign e X.env::(xD es X.env).map (·.2):=by rfl):QGs X E (e::es) (Aa t u):=(ZMB c n l).mono λA z H Q h=>by
 obtain⟨a,S,G,f,hk,rfl,s,r,q,h⟩:=h;cases f with
 |nil=>exact h.elim
 |cons d f=>
  obtain⟨v,rest,j,i,p⟩:=q;refine⟨v,rest,j,a,S,G,d,hk,rfl,s,r,i,(ZOY h).imp ?_⟩;rintro m _ ⟨b,w,g,rfl,x,y,o,_,c⟩;exact⟨b,w,g,f,x.k.trans hk,rfl,y,o,p.mono x,c⟩
theorem ZSd{es:List xz}{k:Nat}{t:DGs}{n:Nat}{pos:Pos}(m:X.calm=ux)(h:QGs X E es t)
  (g:(xD es X.env).length=n:=by rfl) (b:(xD es X.env).findIdx? (·.1)=uj:=by rfl):QG X E (.Tuple es k pos) (Ah n t):=(ZOj m h g b).mono λv o H Q h=>by
 obtain⟨a,S,G,d,hk,rfl,s,r,q,h⟩:=h;cases d with
 |tup l=>
  obtain⟨p,j,e,i,c⟩:=q;unfold Ah at h;dsimp only at h;split at h
  .rename_i f;exact⟨p,j,e,by rw[<-hk];exact i,by rw[<-c.length];exact f,a,S,G,l,hk,rfl,s,r,c,h⟩
  .exact h.elim
 |_=>exact h.elim
def K4(o i v:D)(G:DH):R D:=match o,i with
 | .ref p,.int k=>match G[p]? with
  |some (.lst xs)=>match ixN xs.length k with
   |some j=>.ok .non (G.set p (.lst (xs.set j v)))
   |none=>.bad
  |_=>.bad
 |_,_=>.bad
def gIx(to ti:DE):DG:=λv S G=>(to S G).bind λo G1=>(ti S G1).bind λi G2=>(K4 o i v G2).bind λ_ G3=>.ok S G3
theorem V3(s:Sim a G)(b:i<a.n)(h:a.H (a.m i)=uz (.lst vs))(r:Reps a ds' vs'):
  Ext a (a.put (a.m i) (.lst vs'))/\Sim (a.put (a.m i) (.lst vs')) (G.set i (.lst ds')):=⟨Ext.wr h,s.wr b h (r.mono (Ext.wr h))⟩
theorem ZLq(ho:QE X E o to)(N:QE X E i ti)
  (O:∀v,assign (.Subscript o i pos) X.env v=(do
   let ov<-holding [v] (eval o X.env);let iv<-holding [v,ov] (eval i X.env)
   standAt pos
   holding [v,ov,iv] (setItem ov iv v)
   release [v,ov,iv] []):=by intro _;rfl):QG X E (.Subscript o i pos) (gIx to ti):=(ZOn ho N set_list O).mono λv L H Q h=>by
 obtain⟨a,S,G,d,hk,rfl,s,r,q,h⟩:=h;refine⟨a,S,G,hk,rfl,s,r,(ZEh h).imp ?_⟩;rintro ov _ ⟨b,e,B,rfl,x,J,C,_,I⟩;refine⟨b,S,B,x.k.trans hk,rfl,J,r.mono x,(ZEh I).imp ?_⟩;rintro iv _ ⟨c,f,U,rfl,y,w,F,_,g⟩;cases e with
 | ref p=>
  cases f with
  | int k=>
   unfold K4 at g;dsimp only at g;split at g
   .rename_i W T;split at g
    .rename_i j M;obtain⟨K,n,A⟩:=w.lst T;have l:=C.mono y;obtain⟨z,P⟩:=V3 w l.1 n (A.set ((q.mono x).mono y) j);refine⟨c.m p,K,k,j,l.2,F,n,by rw[<-A.length];exact M,?_⟩;exact g _ L z P (((r.mono x).mono y).mono z)
    .exact g.elim
   .exact g.elim
  |_=>exact g.elim
 |_=>exact g.elim
variable{st:xA}{rest:List xA}{t u:DS}{e:xz}{te:DE}{pos:Pos}
noncomputable def sNx:DS:=λS G=>.nx S G
noncomputable def Ac(t u:DS):DS:=λS G=>match t S G with
 |.nx S1 G1=>u S1 G1
 |r=>r
def sEx(te:DE):DS:=λS G=>(te S G).toS λ_ G1=>.nx S G1
def sRt(te:DE):DS:=λS G=>(te S G).toS λd G1=>.rt d G1
def sIf(c:DB)(t u:DS):DS:=λS G=>(c S G).toS λk G1=>if k=ux then t S G1 else u S G1
def sAs(te:DE)(g:DG):DS:=λS G=>(te S G).toS λd G1=>(g d S G1).toS λS2 G2=>.nx S2 G2
def sAu(i:Nat)(te:DE)(f:D->D->DH->R D):DS:=λS G=>match S[i]? with
 |some (uz x)=>(te S G).toS λy G1=>(f x y G1).toS λz G2=>.nx (S.set i (uz z)) G2
 |_=>.bad
theorem N6:QSs X E [] sNx:=ZOk.mono λW b H h=>by obtain⟨a,S,G,hk,rfl,s,r,h⟩:=h;exact h a b (Ext.refl a) s r
theorem Bm.nxOf{E:XK}{a:Wd}{t u:DS}{S:DSt}{G:DH}{K:za}(hk:a.K=K){W:Ends}(h:Bm E a (Ac t u S G) W):Bm E a (t S G) {W with nx:=lS K E u W}:=by
 unfold Ac at h
 revert h
 cases t S G<;>intro h
 .exact λb c x s r=>⟨b,_,_,x.k.trans hk,rfl,s,r,Bm.mono x h⟩
 all_goals exact h
theorem Ge(c:QS X E st t)(b:QSs X E rest u):QSs X E (st::rest) (Ac t u):=(ZH9 c b).mono λW d H h=>by obtain⟨a,S,G,hk,rfl,s,r,h⟩:=h;exact⟨a,S,G,hk,rfl,s,r,h.nxOf hk⟩
theorem Gf(a:QS X E st t):QSs X E [st] t:=ZD2 a
theorem ZRt(j:QE X E e te)(g:swapsWith e uj pos.line X.env=pure uv:=by rfl):QS X E (.Expr e pos) (sEx te):=(ZD0 j g).mono λW c H h=>by obtain⟨a,S,G,hk,rfl,s,r,h⟩:=h;refine⟨a,S,G,hk,rfl,s,r,(Fp h).imp ?_⟩;rintro v _ ⟨b,d,k,rfl,x,i,q,_,f⟩;exact f b c (Ext.refl b) i (r.mono x)
theorem ZFm(g:QE X E e te):QS X E (.Return (uz e) pos) (sRt te):=(ZMD g).mono λW j H h=>by obtain⟨a,S,G,hk,rfl,s,r,h⟩:=h;refine⟨a,S,G,hk,rfl,s,r,(Fp h).imp ?_⟩;rintro v _ ⟨b,d,i,rfl,x,f,q,_,c⟩;exact c b v (Ext.refl b) f q
theorem Mg(l:QT X E c tc)(j:QSs X E a t)(i:QSs X E b u):QS X E (.If c a b pos) (sIf tc t u):=(ZPH l j i).mono λW m H h=>by
 obtain⟨a,S,G,hk,rfl,s,r,h⟩:=h;refine⟨a,S,G,hk,rfl,s,r,(ZFA h).imp ?_⟩;rintro k _ ⟨b,d,rfl,x,g,_,f⟩;cases k with
 |true=>exact⟨b,S,d,x.k.trans hk,rfl,g,r.mono x,f⟩
 |false=>exact⟨b,S,d,x.k.trans hk,rfl,g,r.mono x,f⟩
theorem ZO5{K:za}{g:DG}{W:Ends}{i:St}{H:Hp}(h:lS K E (sAs te g) W i H):Z2 (lE K E te) (lG K E g) W i H:=by obtain⟨a,S,G,hk,rfl,s,r,h⟩:=h;refine⟨a,S,G,hk,rfl,s,r,(Fp h).imp ?_⟩;rintro v _ ⟨b,d,j,rfl,x,p,q,_,l⟩;refine⟨b,S,j,d,x.k.trans hk,rfl,p,r.mono x,q,(ZDT l).imp ?_⟩;rintro f _ ⟨c,z,w,rfl,y,n,o,_,m⟩;exact m c f (Ext.refl c) n o
theorem ZRi(a:QE X E e te)(d:QG X E tg g)(b:swapsWithSole [tg] e pos.line X.env=pure uv:=by rfl)(hw:swappedStores [tg] e X.env=pure uj:=by rfl)
  (c:(xD [tg] X.env).map (·.2)=[assign tg X.env]:=by rfl):QS X E (.Assign [tg] e pos) (sAs te g):=(ZRZ a d b hw c).mono λ_ _ _ h=>ZO5 h
theorem ZEg(i:Nat){x:Str}{c:Pos}(g:X.N.Nodup)(n:QE X E e te)(k:X.N[i]?=uz x:=by rfl)(o:Loc X.env.scope x:=by first|exact Or.inl rfl|exact Or.inr rfl)(j:swapsWith e (uz (.Name x c)) pos.line X.env=pure uv:=by rfl)
  (m:X.fn x=ux∨X.env.scope.names.lookup x=uz .local:=by first|exact .inl rfl|exact .inr rfl|assumption):QS X E (.Assign [.Name x c] e pos) (sAs te (gV i)):=
 (ZQ4 g k o n j m).mono λW w H h=>by obtain⟨a,S,G,hk,rfl,s,r,h⟩:=h;refine⟨a,S,G,hk,rfl,s,r,(Fp h).imp ?_⟩;rintro v _ ⟨b,d,p,rfl,x,l,q,_,f⟩;exact f b _ (Ext.refl b) l ((r.mono x).set i q)
theorem ZRw(i:Nat){x:Str}{op:Operator}{f:D->D->DH->R D}{g:Pos}(J:X.N.Nodup)(I:QE X E e te)(ho:OpR X (inplaceOp op) (lR2 X.K E f))(M:X.N[i]?=uz x:=by rfl)(O:Loc X.env.scope x:=by first|exact Or.inl rfl|exact Or.inr rfl)
  (o:X.fn x=ux∨X.env.scope.names.lookup x=uz .local:=by first|exact .inl rfl|exact .inr rfl|assumption):QS X E (.AugAssign (.Name x g) op e pos) (sAu i te f):=
 (ZKW J M O I ho o).mono λW Q H h=>by
  obtain⟨a,S,G,hk,rfl,s,r,h⟩:=h;unfold sAu at h;split at h
  .rename_i d L;obtain⟨v,A,q⟩:=r.get i d L;refine⟨v,A,a,S,G,hk,rfl,s,r,(Fp h).imp ?_⟩;rintro w _ ⟨b,C,j,rfl,x,F,l,_,p⟩;refine⟨b,j,d,C,x.k.trans hk,rfl,F,q.mono x,l,(Fp p).imp ?_⟩;rintro z _ ⟨c,T,P,rfl,y,B,n,_,m⟩;exact m c _ (Ext.refl c) B (((r.mono x).mono y).set i n)
  .exact h.elim
def Jf:D->D->DH->R D
 |.int i,.int j,G=>.ok (.int (i+j)) G
 |.str i,.str j,G=>if i.length+j.length<=1000000 then .ok (.str (i++j)) G else .bad
 |_,_,_=>.bad
theorem ZTi:OpR X (inplaceOp .Add) (lR2 X.K E Jf):=Fe (OpR.or ZUD ZLG) λa G d e x y Q hk s rd re q=>by
 cases d<;>cases e<;>first
  |exact q.elim
  |exact .inl ⟨_,_,rd,re,q a _ (Ext.refl a) s rfl⟩
  | (
    unfold Jf at q;dsimp only at q;split at q
    .rename_i hl;exact .inr ⟨_,_,rd,re,z0 hl size6,q a _ (Ext.refl a) s rfl⟩
    .exact q.elim)
theorem ZOZ:OpR X (inplaceOp .Sub) (lR2 X.K E M9):=Fe ZM8 λa G d e x y Q hk s b c q=>by
 cases d<;>cases e<;>first
  |exact q.elim
  |exact⟨_,_,b,c,q a _ (Ext.refl a) s rfl⟩
end
noncomputable def aft(r:SR)(k:DSt->DH->SR)(_:Fx k:=()):SR:=match r with
 |.nx S G=>k S G
 |.ct S G=>k S G
 |.bk S G=>.nx S G
 |r=>r
def Av(g:DG)(b:DS):List D->DS
 |[],S,G=>.nx S G
 |x::xs,S,G=>(g x S G).toS λS1 G1=>aft (b S1 G1) (Av g b xs)
def forM(i:Nat)(g:DG)(b:DS):Nat->Nat->DS
 |0,j,S,G=>match G[i]? with
  |some (.lst xs)=>if xs.length<=j then .nx S G else .bad
  |_=>.bad
 | k+1,j,S,G=>match G[i]? with
  |some (.lst xs)=>match xs[j]? with
   |some x=>(g x S G).toS λS1 G1=>aft (b S1 G1) (forM i g b k (j+1))
   |none=>.nx S G
  |_=>.bad
def Cr(f:Nat->DH->Option (Option D))(g:DG)(b:DS):Nat->Nat->DS
 |0,j,S,G=>match f j G with
  |some uj=>.nx S G
  |_=>.bad
 |k+1,j,S,G=>match f j G with
  |some (uz x)=>(g x S G).toS λS1 G1=>aft (b S1 G1) (Cr f g b k (j+1))
  |some uj=>.nx S G
  |none=>.bad
inductive ItD where
 |pure (xs:List D)
 |mt (i:Nat)
 |fn (n:Nat) (f:Nat->DH->Option (Option D))
noncomputable abbrev DI:=DSt->DH->R ItD
def Bu(it:DI)(g:DG)(b:DS):DS:=λS G=>(it S G).toS λJ G1=>match J with
 |.pure xs=>Av g b xs S G1
 |.mt i=>match G1[i]? with
  |some (.lst xs)=>forM i g b xs.length 0 S G1
  |_=>.bad
 |.fn n f=>Cr f g b n 0 S G1
def RepI(a:Wd):ItD->It->Prop
 |.pure xs,J=>∃vs:List V,Reps a xs vs/\∀b:Wd,Ext a b->∀i,(∀v,vs[i]?=uz v->J.go i b.H/\∀x H',J.yld i b.H x H'->x=v/\H'=b.H)/\(vs.length<=i->J.stop i b.H)
 |.mt k,J=>k<a.n/\∀b:Wd,Ext a b->∀vs,b.H (b.m k)=uz (.lst vs)->∀i,(∀v,vs[i]?=uz v->J.go i b.H/\∀x H',J.yld i b.H x H'->x=v/\H'=b.H)/\(vs.length<=i->J.stop i b.H)
 |.fn _ f,J=>∀b:Wd,Ext a b->∀G,Sim b G->∀i,(∀d,f i G=uz (uz d)->J.go i b.H/\∀x H',J.yld i b.H x H'->∃c:Wd,c.H=H'/\Ext b c/\Sim c G/\Rep c d x)/\(f i G=uz uj->J.stop i b.H)
def outI(E:XK)(a:Wd)(r:R ItD)(Q:It->Hp->Prop):Prop:=match r with
 |.ok J G=>∀(b:Wd)(JJ:It),Ext a b->Sim b G->RepI b J JJ->Q JJ b.H
 |.err x G=>XOk E a x G
 |.bad=>False
def lI(K:za)(E:XK)(t:DI):TI:=λσ H Q=>∃(a:Wd)(S:DSt)(G:DH),a.K=K/\a.H=H/\Sim a G/\RepS a S σ/\outI E a (t S G) Q
def QI(X:Cx)(E:XK)(tg iter:xz)(t:DI):Prop:=PI X tg iter (lI X.K E t)
theorem outI.imp(h:outI E a r Q)(w:∀v H,Q v H->Q' v H):outI E a r Q':=by
 cases r with
 |ok d G=>exact λb v x s q=>w _ _ (h b v x s q)
 |err e G=>exact h
 |bad=>exact h
theorem ZTb(h:Bm E a (r.toS f) W):
  outI E a r (λJ H=>∃(b:Wd)(d:ItD)(G:DH),b.H=H/\Ext a b/\Sim b G/\RepI b d J/\r=.ok d G/\Bm E b (f d G) W):=by
 cases r with
 |ok d G=>exact λb v x s q=>⟨b,d,G,rfl,x,s,q,rfl,Bm.mono x h⟩
 |err e G=>exact h
 |bad=>exact h
theorem ZKD (h:Bm E a (aft r k) W):
  Bm E a r {W with
            nx:=λc H=>∃(b:Wd)(S:DSt)(G:DH),b.H=H/\Ext a b/\Sim b G/\RepS b S c/\Bm E b (k S G) W,
            ct:=λc H=>∃(b:Wd)(S:DSt)(G:DH),b.H=H/\Ext a b/\Sim b G/\RepS b S c/\Bm E b (k S G) W,bk:=W.nx}:=by
 cases r with
 |nx S G=>exact λb c x s q=>⟨b,S,G,rfl,x,s,q,Bm.mono x h⟩
 |ct S G=>exact λb c x s q=>⟨b,S,G,rfl,x,s,q,Bm.mono x h⟩
 |bk S G=>exact h
 |rt d G=>exact h
 |err x G=>exact h
 |bad=>exact h
noncomputable def mtF(i j:Nat)(G:DH):Option (Option D):=match G[i]? with
 |some (.lst xs)=>uz xs[j]?
 |_=>uj
theorem ZGM(r:RepI a (.pure xs) J):RepI a (.fn n λj _=>uz xs[j]?) J:=by
 obtain⟨p,c,h⟩:=r;refine λb x G o i=>⟨λd e=>?_,λe=>?_⟩
 .obtain⟨v,l,q⟩:=c.get (Option.some.inj e);obtain⟨g,k⟩:=(h b x i).1 v l;refine⟨g,λy f m=>?_⟩;obtain⟨rfl,rfl⟩:=k y f m;exact⟨b,rfl,Ext.refl b,o,q.mono x⟩
 .exact(h b x i).2 (by rw[<-c.length];exact qU.mp (Option.some.inj e))
theorem ZDn(r:RepI a (.mt k) J):RepI a (.fn n (mtF k)) J:=by
 obtain⟨hk,h⟩:=r;refine λb x G j i=>?_
 unfold mtF;cases t:G[k]? with
 |none=>exact⟨λd e=>(by cases e),λe=>(by cases e)⟩
 | some o=>
  cases o with
  |lst w=>
   obtain⟨f,c,g⟩:=j.lst t;refine⟨λd e=>?_,λe=>?_⟩
   .obtain⟨v,s,q⟩:=g.get (Option.some.inj e);obtain⟨m,p⟩:=(h b x f c i).1 v s;refine⟨m,λy l u=>?_⟩;obtain⟨rfl,rfl⟩:=p y l u;exact⟨b,rfl,Ext.refl b,j,q⟩
   .exact(h b x f c i).2 (by rw[<-g.length];exact qU.mp (Option.some.inj e))
  |_=>exact⟨λd e=>(by cases e),λe=>(by cases e)⟩
theorem ZGX{g:DG}{b:DS}{xs:List D}:∀(n j:Nat),j+n=xs.length->Av g b (xs.drop j)=Cr (λj _=>uz xs[j]?) g b n j
 |0,j,h=>by
  funext S G;rw[qQ (by lia)]
  show SR.nx S G=(match uz xs[j]? with |some uj=>SR.nx S G|_=>.bad)
  rw[z7 (by lia)]
 |n+1,j,h=>by
  funext S G;have d:j<xs.length:=by lia
  rw[zO d]
  show(g xs[j] S G).toS (λa c=>aft (b a c) (Av g b (xs.drop (j+1))))=(match uz xs[j]? with |some (uz x)=>(g x S G).toS (λa c=>aft (b a c) (Cr (λj _=>uz xs[j]?) g b n (j+1)))|some uj=>SR.nx S G|none=>.bad)
  rw[zJ d,ZGX n (j+1) (by lia)]
theorem ZJo:∀(n j:Nat),forM i g b n j=Cr (mtF i) g b n j
 | 0,j=>by
  funext S G;unfold forM Cr mtF;cases G[i]? with
  |none=>rfl
  | some o=>
   cases o with
   |lst a=>
    dsimp only;by_cases c:j<a.length
    .rw[if_neg (by lia),zJ c]
    .rw[if_pos (by lia),z7 (by lia)]
   |_=>rfl
 | n+1,j=>by
  funext S G;unfold forM Cr;rw[ZJo n (j+1)];unfold mtF;cases G[i]? with
  |none=>rfl
  | some o=>
   cases o with
   |lst a=>
    dsimp only
    cases a[j]?<;>rfl
   |_=>rfl
section
variable{X:Cx}{E:XK}{tg iter:xz}{pos:Pos}
theorem ZL7{K:za}{it:DI}{g:DG}{b:DS}{W:Ends}{N:St}{H:Hp}(h:lS K E (Bu it g b) W N H):tFor (lI K E it) (lG K E g) (lS K E b) W N H:=by
 obtain⟨a,S,G,hk,rfl,s,r,h⟩:=h;refine⟨a,S,G,hk,rfl,s,r,(ZTb h).imp ?_⟩;rintro J _ ⟨t,d,O,rfl,x1,s1,u,_,l⟩;have k1:=x1.k.trans hk
 suffices fnc:∃n f,RepI t (.fn n f) J/\Bm E t (Cr f g b n 0 S O) W by
  obtain⟨n,f,u,l⟩:=fnc;have walk:=u;refine⟨λi m N H=>∃(c:Wd)(S:DSt)(G:DH),c.H=H/\Ext t c/\Sim c G/\RepS c S N/\Bm E c (Cr f g b m i S G) W,⟨_,t,S,O,rfl,Ext.refl _,s1,r.mono x1,l⟩,?_⟩;rintro i m C _ ⟨c,S2,F,rfl,p,x,Q,j⟩;cases m with
  |zero=>
   unfold Cr at j;split at j
   .rename_i v;exact .inl ⟨(walk c p F x i).2 v,j c C (Ext.refl c) x Q⟩
   .exact j.elim
  | succ m=>
   unfold Cr at j;split at j
   .rename_i d v;obtain⟨go,yl⟩:=(walk c p F x i).1 d v;refine .inr ⟨go,λB M=>∃(c:Wd)(S:DSt)(G:DH),c.H=M/\Ext t c/\Sim c G/\RepS c S B/\Bm E c (Cr f g b m (i+1) S G) W,λB M z=>⟨m,qJ _,z⟩,λw M y=>?_⟩;obtain⟨cc,rfl,q,ss,rd⟩:=yl w M y;refine⟨cc,S2,F,d,q.k.trans (p.k.trans k1),rfl,ss,Q.mono q,rd,(ZDT (Bm.mono q j)).imp ?_⟩;rintro σ3 _ ⟨c3,S3,G3,rfl,x3,s3,r3,_,h3⟩;have e:=ZKD h3;refine⟨c3,S3,G3,x3.k.trans (q.k.trans (p.k.trans k1)),rfl,s3,r3,?_⟩
    revert e
    cases b S3 G3 with
    | nx L I=>
      intro e U o x4 P Y;obtain⟨Z,S5,G5,hh,x5,s5,r5,T⟩:=e U o x4 P Y;exact⟨Z,S5,G5,hh,p.trans (q.trans (x3.trans x5)),s5,r5,T⟩
    | ct L I=>
      intro e U o x4 P Y;obtain⟨Z,S5,G5,hh,x5,s5,r5,T⟩:=e U o x4 P Y;exact⟨Z,S5,G5,hh,p.trans (q.trans (x3.trans x5)),s5,r5,T⟩
    |bk L I=>exact λe=>e
    |rt L I=>exact λe=>e
    |err L I=>exact λe=>e
    |bad=>exact λe=>e
   .rename_i v;exact .inl ⟨(walk c p F x i).2 v,j c C (Ext.refl c) x Q⟩
   .exact j.elim
 cases d with
 |pure xs=>
  have A:Bm E t (Av g b (xs.drop 0) S O) W:=l;rw[ZGX xs.length 0 (by lia)]at A;exact⟨_,_,ZGM u,A⟩
 |mt k=>
  dsimp only at l;split at l
  .rw[ZJo]at l;exact⟨_,_,ZDn u,l⟩
  .exact l.elim
 |fn n f=>exact⟨n,f,u,l⟩
theorem ZQy(hp:PassesOwn (xU X.prog X.w) X.A X.env X.xe)(f:X.calm=ux)(d:QI X E tg iter it)(a:QG X E tg g)(e:QSs X E body b)
  (c:∀x,foldedSetIterable iter X.env x=pure x:=by intro _;rfl):QS X E (.For tg iter body [] pos) (Bu it g b):=(ZR5 hp f d a e c).mono λ_ _ _ h=>ZL7 h
theorem _root_._L.PI.mono(h:PI X tg iter t)(w:∀a H Q,t' a H Q->t a H Q):PI X tg iter t':=λb s a H Q I q=>h b s a H Q I (w a H Q q)
noncomputable def sgn(c:Nat):D:=.str ⟨#[c]⟩
def signs(x:Str):List D:=x.cps.toList.map sgn
noncomputable def Its(x:Str):It:=⟨λi _=>i<x.cps.size,λi H v H'=>H'=H/\∃c,x.cps[i]?=uz c/\v=.str ⟨#[c]⟩,λi _=>x.cps.size<=i⟩
theorem ZRT{P:xk}{w:xC}{K:za}{tg:xz}(it:xY)(x:Str)(t:Tok):Turn P w K tg (Its x) [it] it (λi h=>h.IsStrIter it "str_ascii_iterator" x t i) where
 mem:=by simp
 obj:=λi h a b f=>by
  have e:b=it:=by simpa using f
  subst e;obtain⟨o,e,c,d⟩:=a;exact⟨o,e,λv z=>by rw[d]at z;cases z⟩
 keep:=λi h J a k=>let⟨o,N,r⟩:=a;⟨o,k it (by simp) o N,r⟩
 item:=by
  intro X n hw y F i j s O H E I l a u;subst n hw y;obtain⟨B,p,L,A,q,C⟩:=l it (by simp);have m:i<x.cps.size:=u;refine wpAny_pyNext_ascii_item a (c:=x.cps[i]) (by simp[m]) λJ g Q=>?_
  obtain⟨o,e,c,d⟩:=id g;exact⟨_,rfl,Lz e c d (by decide) ⟨.str ⟨#[x.cps[i]]⟩,H,I.turned (λb o f e=>(Q.2 b f).trans e) B p A q C,⟨_,rfl⟩,⟨rfl,_,by simp[m],rfl⟩,g,λb f=>(l b f).1⟩⟩
 done:=by intro X n hw y F i j s O H E I l a u;subst n hw y;obtain⟨B,p,L,A,q,C⟩:=l it (by simp);have m:x.cps.size<=i:=u;exact wpAny_pyNext_ascii_end (I.ok.hd F) a (by simp[m]) λJ M=>⟨rfl,I.turned (λb o f e=>M b o f e) B p A q C⟩
 self:=λ_ _ _ _ _ a h=>wpAny_pyIter_striter_ascii a h
theorem ZTG{P:xk}{w:xC}{K:za}{tg:xz}(it:xY)(x:Str)(t:Tok):Turn P w K tg (Its x) [it] it (λi h=>h.IsStrIter it "str_iterator" x t i) where
 mem:=by simp
 obj:=λi h a b f=>by
  have e:b=it:=by simpa using f
  subst e;obtain⟨o,e,c,d⟩:=a;exact⟨o,e,λv z=>by rw[d]at z;cases z⟩
 keep:=λi h J a k=>let⟨o,N,r⟩:=a;⟨o,k it (by simp) o N,r⟩
 item:=by
  intro X n hw y F i j s O H E I l a u;subst n hw y;obtain⟨B,p,L,A,q,C⟩:=l it (by simp);have m:i<x.cps.size:=u;refine wpAny_pyNext_wide_item a (c:=x.cps[i]) (by simp[m]) λJ g Q=>?_
  obtain⟨o,e,c,d⟩:=id g;exact⟨_,rfl,Lz e c d (by decide) ⟨.str ⟨#[x.cps[i]]⟩,H,I.turned (λb o f e=>(Q.2 b f).trans e) B p A q C,⟨_,rfl⟩,⟨rfl,_,by simp[m],rfl⟩,g,λb f=>(l b f).1⟩⟩
 done:=by intro X n hw y F i j s O H E I l a u;subst n hw y;obtain⟨B,p,L,A,q,C⟩:=l it (by simp);have m:x.cps.size<=i:=u;exact wpAny_pyNext_wide_end (I.ok.hd F) a (by simp[m]) λJ M=>⟨rfl,I.turned (λb o f e=>M b o f e) B p A q C⟩
 self:=λ_ _ _ _ _ a h=>wpAny_pyIter_striter_wide a h
def iStr(tl:TE):TI:=λσ H R=>tl σ H λx H1=>∃z,x=.str z/\R (Its z) H1
theorem ZQI{l:xz}{g:TE}(m:PE X l g):PI X tg l (iStr g):=by
 intro a s n H R I h;refine thn (m a s n H _ I h) λv c ⟨x,f,d,r,k⟩=>?_
 obtain⟨z,e,q⟩:=k;subst e;obtain⟨t,rfl⟩:=r;have j:∀b∈[c.heap.objs.size],FpOk X a f b:=λb p=>by
  have e:b=c.heap.objs.size:=by simpa using p
  subst e;exact d.Hh (zY _) (d.hok.fresh (zY _))
 cases i:z.cps.all (· < 128)
 .refine wpAny_pyIter_wide i ?_;exact⟨c.heap.objs.size,[c.heap.objs.size],_,_,f,rfl,d.kept λb o e=>zQ _ e,ZTG _ z t,⟨_,zy _ rfl,rfl,rfl⟩,j,q⟩
 .refine wpAny_pyIter_ascii i ?_;exact⟨c.heap.objs.size,[c.heap.objs.size],_,_,f,rfl,d.kept λb o e=>zQ _ e,ZRT _ z t,⟨_,zy _ rfl,rfl,rfl⟩,j,q⟩
theorem Reps.signs(x:Str):Reps a (signs x) (x.cps.toList.map λc=>V.str ⟨#[c]⟩):=by
 unfold _D.signs
 induction x.cps.toList with
 |nil=>exact rfl
 |cons c r b=>exact⟨_,_,rfl,rfl,b⟩
def Fo:D->DH->R ItD
 |.tup xs,G=>.ok (.pure xs) G
 |.str x,G=>.ok (.pure (signs x)) G
 |.fl xs,G=>.ok (.pure xs) G
 |.ref i,G=>match G[i]? with
  |some (.lst _)=>.ok (.mt i) G
  |_=>.bad
 |_,_=>.bad
def Ds(te:DE):DI:=λS G=>(te S G).bind Fo
theorem ZNH(C:QE X E iter te):QI X E tg iter (Ds te):=by
 intro f s M H R I h;obtain⟨a,S,G,hk,rfl,N,r,h⟩:=h;cases u:te S G with
 |bad=>
  have j:outI E a ((te S G).bind Fo) R:=h;rw[u]at j;exact j.elim
 |err e W=>
  have j:outI E a ((te S G).bind Fo) R:=h;rw[u]at j;refine Y6 C f s M a.H R I ⟨a,S,G,hk,rfl,N,r,?_⟩;rw[u];exact j
 | ok d W=>
  have j:outI E a ((te S G).bind Fo) R:=h;rw[u]at j;cases d with
  |tup Z=>
   refine ZRD C f s M a.H R I ⟨a,S,G,hk,rfl,N,r,?_⟩;rw[u];rintro b v x t ⟨p,g,rfl,n,J⟩;have A:SqT X.K b.H p g:=by rw[<-hk,<-x.k];exact n
   refine⟨p,rfl,⟨g,A⟩,j b _ x t ⟨g,J,λc y i=>⟨λv l=>⟨⟨g,v,?_,l⟩,λw P z=>?_⟩,λo=>⟨g,?_,o⟩⟩⟩⟩
   .have:=y.sqT n;rw[y.k,x.k,hk]at this;exact this
   .have:=y.sqT n;rw[y.k,x.k,hk]at this;exact⟨Option.some.inj ((z.2 g this).symm.trans l),z.1⟩
   .have:=y.sqT n;rw[y.k,x.k,hk]at this;exact this
  |fl Z=>
   refine Y6 C f s M a.H R I ⟨a,S,G,hk,rfl,N,r,?_⟩;rw[u];rintro b v x t ⟨p,g,rfl,n,J⟩;have A:SqL X.K b.H p g:=by rw[<-hk,<-x.k];exact n.sq
   refine⟨p,rfl,⟨g,A⟩,j b _ x t ⟨g,J,λc y i=>⟨λv l=>⟨⟨g,v,?_,l⟩,λw P z=>?_⟩,λo=>⟨g,?_,o⟩⟩⟩⟩
   .have:=(y.fzL n).sq;rw[y.k,x.k,hk]at this;exact this
   .have:=(y.fzL n).sq;rw[y.k,x.k,hk]at this;exact⟨Option.some.inj ((z.2 g this).symm.trans l),z.1⟩
   .have:=(y.fzL n).sq;rw[y.k,x.k,hk]at this;exact this
  |ref k=>
   have B:outI E a (Fo (.ref k) W) R:=j;unfold Fo at B;dsimp only at B;split at B
   .rename_i Z U;refine Y6 C f s M a.H R I ⟨a,S,G,hk,rfl,N,r,?_⟩;rw[u];rintro b v x t ⟨F,rfl⟩;obtain⟨g,U,_⟩:=t.lst U;refine⟨b.m k,rfl,⟨g,.of U⟩,B b _ x t ⟨F,λc y T O i=>?_⟩⟩;rw[y.m k F]at O;exact⟨λv l=>⟨⟨T,v,.of O,l⟩,λw P z=>⟨Option.some.inj ((z.2 T (.of O)).symm.trans l),z.1⟩⟩,λo=>⟨T,.of O,o⟩⟩
   .exact B.elim
  | str z=>
   refine ZQI C f s M a.H R I ⟨a,S,G,hk,rfl,N,r,?_⟩;rw[u];intro b v x t J;cases(J);refine⟨z,rfl,j b _ x t ⟨_,Reps.signs z,λc y i=>⟨λv l=>?_,λo=>?_⟩⟩⟩
   .rw[zx,zD]at l;obtain⟨k,Q,rfl⟩:=l;have L:z.cps[i]?=uz k:=by rw[<-jQ];exact Q
    refine⟨(qV.mp L).1,λw P q=>?_⟩;obtain⟨e1,k',Y,e3⟩:=q;rw[L]at Y;cases Y;exact⟨e3,e1⟩
   .rw[zU,qB]at o;exact o
  |_=>exact j.elim
end
noncomputable def Bg(lo:Int)(n:Nat):List D:=(zX n).map λ(k:Nat)=>D.int (lo+(k:Int))
def inR(j:Int):Prop:= -(2^62)<=j/\j<2^62
noncomputable instance (j:Int):Decidable (inR j):=by unfold inR;infer_instance
def rng1(ds:List D)(G:DH):R ItD:=match ds with
 |[.int j]=>if inR j then .ok (.pure (Bg 0 j.toNat)) G else .bad
 |_=>.bad
def Bf(f:List D->DH->R ItD)(ta:DA):DI:=λS G=>(ta S G).bind f
def sWh(c:DB)(b:DS):Nat->DS
 |0,_,_=>.bad
 |n+1,S,G=>(c S G).toS λk G1=>if k=ux then aft (b S G1) (sWh c b n)else .nx S G1
def Al(np nl:Nat)(b:DS):List D->DH->R D:=λds G=>if ds.length=np then tidy G (match b (ds.map uz++zZ nl uj) G with
 |.nx _ G'=>.ok .non G'
 |.rt d G'=>.ok d G'
 |.err x G'=>.err x G'
 |_=>.bad)else .bad
theorem outI.mono(x:Ext a b)(h:outI E a r Q):outI E b r Q:=by
 cases r with
 |ok d G=>exact λc v y s q=>h c v (x.trans y) s q
 |err e G=>exact XOk.mono x h
 |bad=>exact h
theorem Ol(h:outI E a (r.bind f) Q):
  Ep E a r (λvs H=>∃(b:Wd)(c:List D)(G:DH),b.H=H/\Ext a b/\Sim b G/\Reps b c vs/\r=.ok c G/\outI E b (f c G) Q):=by
 cases r with
 |ok d G=>exact λb v x s q=>⟨b,d,G,rfl,x,s,q,rfl,outI.mono x h⟩
 |err e G=>exact h
 |bad=>exact h
section
variable{X:Cx}{E:XK}{tg iter:xz}{pos:Pos}
theorem ZUC(e:Int)(n:Nat):RepI a (.pure (Bg e n)) (Itr e n):=by
 refine⟨(zX n).map λ(k:Nat)=>V.int (e+(k:Int)),?_,λb x i=>⟨λv c=>?_,λf=>?_⟩⟩
 .unfold Bg;generalize zX n=l
  induction l with
  |nil=>exact rfl
  |cons k l g=>exact⟨_,_,rfl,rfl,g⟩
 .rw[zx]at c;by_cases d:i<n
  .rw[zE d]at c;exact⟨d,λw h y=>⟨y.2.trans (by simpa using c),y.1⟩⟩
  .rw[z7 (by simpa using d)]at c;cases c
 .show n<=i;simpa using f
theorem ZOu{p pos:Pos}(i:Gl X "range")(m:X.mg "range"=uj)(l:QA X E [e] ta)(k:vX [e] X.env=[(uv,eval e X.env)]:=by rfl):QI X E tg (.Call (.Name "range" p) [e] [] pos) (Bf rng1 ta):=
 (ZVB i m l k).mono λu H Q h=>by
  obtain⟨a,S,G,hk,rfl,s,r,h⟩:=h;refine⟨a,S,G,hk,rfl,s,r,(Ol h).imp ?_⟩;rintro w _ ⟨b,y,t,rfl,x,o,q,-,c⟩;unfold rng1 at c;split at c
  .rename_i j;split at c
   .rename_i d;obtain⟨v,r,g,f,n⟩:=q;cases(f);cases(n);exact⟨j,g,d.1,d.2,c b _ (Ext.refl b) o (ZUC 0 j.toNat)⟩
   .exact c.elim
  .exact c.elim
theorem ZGR(n:Nat)(hp:PassesOwn (xU X.prog X.w) X.A X.env X.xe)(hc:QT X E c tc)(Z:QSs X E body tb):QS X E (.While c body [] pos) (sWh tc tb n):=(ZSR hp hc Z).mono λW Q H h=>by
 obtain⟨a,S,G,hk,rfl,s,r,h⟩:=h;refine⟨λm Q H=>∃(b:Wd)(S:DSt)(G:DH),b.H=H/\Ext a b/\Sim b G/\RepS b S Q/\Bm E b (sWh tc tb m S G) W,⟨n,a,S,G,rfl,Ext.refl a,s,r,h⟩,?_⟩;rintro m J _ ⟨b,v,Y,rfl,l,s2,p,N⟩;cases m with
 |zero=>exact N.elim
 | succ m=>
  refine⟨b,v,Y,l.k.trans hk,rfl,s2,p,(ZFA N).imp ?_⟩;rintro k _ ⟨L,O,rfl,f,U,_,T⟩;cases k with
  |false=>exact T L J (Ext.refl L) U (p.mono f)
  | true=>
   refine⟨λg P=>∃(b:Wd)(S:DSt)(G:DH),b.H=P/\Ext a b/\Sim b G/\RepS b S g/\Bm E b (sWh tc tb m S G) W,λg P z=>⟨m,qJ _,z⟩,L,v,O,f.k.trans (l.k.trans hk),rfl,U,p.mono f,?_⟩;have d:=ZKD T
   revert d
   cases tb v O with
   |nx j i=>
    intro d u e B o y;obtain⟨t,I,M,C,K,x,F,q⟩:=d u e B o y;exact⟨t,I,M,C,l.trans (f.trans K),x,F,q⟩
   |ct j i=>
    intro d u e B o y;obtain⟨t,I,M,C,K,x,F,q⟩:=d u e B o y;exact⟨t,I,M,C,l.trans (f.trans K),x,F,q⟩
   |bk j i=>exact λd=>d
   |rt j i=>exact λd=>d
   |err j i=>exact λd=>d
   |bad=>exact λd=>d
end
theorem Yx(r:Reps a ds vs)(n m:Nat)(h:n=m):RepS a (ds.map uz++zZ n uj) (vs.map uz++zZ m uj):=by
 subst h;refine⟨by simp[r.length],λi d b=>?_⟩;by_cases c:i<ds.length
 .rw[zG (by simpa using c),zx]at b;cases e:ds[i]? with
  |none=>rw[e]at b;cases b
  |some j=>
   rw[e]at b;have f:j=d:=by simpa using b
   subst f;obtain⟨v,g,q⟩:=r.get e;exact⟨v,by rw[zG (by rw[zU,<-r.length];exact c),zx,g];rfl,q⟩
 .rw[z9 (by simpa using c),jW]at b
  split at b<;>cases b
theorem Jm{P:xk}{w:xC}{K:za}{u:Str->Option xB}{j:Heap}{x qual:Str}{st:xA}{f:xY}{y:xj}{N ps:List Str}{k:Nat}{b:DS}(F:Fun K x qual st f y)(S:FnScope N ps (Ad st))
  (m:∀(i:xB)(A:xq)(outer:List Env)(s:x0)(H:Hp)(E:XK),Room k (A.deeper (envOfC qual (Ad st) s.heap.objs.size f i))->QSs (G9 CX0 P w K u j N qual (Ad st) f i A outer s H E).nox E0 (Dm st) b):
  FnOk P w K u j CX0 (k+1) f y ps (lF K (Al ps.length (N.length-ps.length) b)):=by
 have l:∀n H Q E,lF K (Al ps.length (N.length-ps.length) b) n H Q E->n.length=ps.length:=λn H Q E h=>by
  obtain⟨a,G,q,hk,rfl,t,r,h⟩:=h;unfold Al at h;split at h
  .rename_i p;rw[<-r.length];exact p
  .exact h.elim
 refine F.ok S l (λi A outer s H n Q E z h=>?_);refine⟨lS K E0 b,m i A outer s H E z,?_⟩;have p:=l n H Q E h;obtain⟨a,G,q,hk,rfl,t,r,h⟩:=h;unfold Al at h;split at h
 .have g:=R9 t h;refine⟨a,q.map uz++zZ (N.length-ps.length) uj,G,hk,rfl,t,Yx r _ _ (by rw[p]),?_⟩
  revert g
  cases b (q.map uz++zZ (N.length-ps.length) uj) G with
  |nx v o=>exact λg c C x B _=>g c .non x B rfl
  |rt d o=>exact λg=>g
  |err e o=>exact λg=>g
  |bk v o=>exact λg=>g.elim
  |ct v o=>exact λg=>g.elim
  |bad=>exact λg=>g
 .exact h.elim
theorem Ie(s:Sim a G)(r:Rep a d x)(h:Bd d G=uz xs):∃p vs,x=.ref p/\(SqL a.K a.H p vs∨SqT a.K a.H p vs)/\Reps a xs vs:=by
 cases d with
 |tup c=>
  have e:=Option.some.inj h;subst e;obtain⟨p,vs,e,q,b⟩:=r;exact⟨p,vs,e,.inr q,b⟩
 |fl c=>
  have e:=Option.some.inj h;subst e;obtain⟨p,vs,e,q,b⟩:=r;exact⟨p,vs,e,.inl q.sq,b⟩
 |ref i=>
  unfold Bd at h;dsimp only at h;split at h
  .rename_i c j;have e:=Option.some.inj h;subst e;obtain⟨vs,g,k⟩:=s.lst j;exact⟨a.m i,vs,r.2,.inl (.of g),k⟩
  .cases h
 |_=>cases h
def Bk (d e:D) (G:DH):R D:=match e with
 | .int i=>match d with
  | .str z=>if z.length<=1000000 then(match atI z.cps.toList i with
    |some c=>.ok (.str ⟨#[c]⟩) G
    |none=>.bad)else .bad
  | d=>match Bd d G with
   |some xs=>match atI xs i with
    |some v=>.ok v G
    |none=>.bad
   |none=>.bad
 |_=>.bad
theorem ZJk(r:Reps a xs vs)(h:atI xs i=uz d):∃v,atI vs i=uz v/\Rep a d v:=by
 unfold atI at h⊢;rw[<-r.length];cases e:ixN xs.length i with
 |none=>rw[e]at h;cases h
 |some j=>
  rw[e]at h;obtain⟨v,b,q⟩:=r.get (h);exact⟨v,b,q⟩
section
variable{X:Cx}{E:XK}
theorem _root_._L.IxR.mono(h:IxR X r)(w:∀x y H Q,r' x y H Q->r x y H Q):IxR X r':=λa b c s d H x y v u Q I i j q g=>h a b c s d H x y v u Q I i j (w _ _ _ _ q) g
theorem _root_._L.CallR.mono(h:CallR X f r)(w:∀xs H Q,r' xs H Q->r xs H Q):CallR X f r':=λa s b H xs c Q I d q=>h a s b H xs c Q I d (w _ _ _ q)
theorem _root_._L.MtM.mono{id:String}{r b:V->List V->Hp->VK->Prop}(h:MtM X id r)(w:∀x xs H Q,b x xs H Q->r x xs H Q):MtM X id b:=λa s c H x xs v d Q I i g q=>h a s c H x xs v d Q I i g (w _ _ _ _ q)
theorem i_ix:IxR X (lR2 X.K E Bk):=ZKS.mono λx y H Q h=>by
 obtain⟨a,G,d,e,hk,rfl,s,r,m,q⟩:=h;cases e with
 | int i=>
  have n:∀{k:List D},Bd d G=uz k->out E a (match atI k i with |some v=>.ok v G|none=>.bad) Q->rIx X.K x y a.H Q:=λ{k}l q=>by
   obtain⟨p,B,w,g,I⟩:=Ie s r l;rw[hk]at g;split at q
   .rename_i v J;obtain⟨u,A,F⟩:=ZJk I J;have z:=q a u (Ext.refl a) s F;rcases g with g|g
    .exact .inl ⟨p,B,i,u,w,m,g,A,z⟩
    .exact .inr (.inl ⟨p,B,i,u,w,m,g,A,z⟩)
   .exact q.elim
  have b:out E a (match Bd d G with |some k=>(match atI k i with |some v=>.ok v G|none=>.bad)|none=>.bad) Q->rIx X.K x y a.H Q:=λq=>by
   cases l:Bd d G with
   |none=>rw[l]at q;exact q.elim
   |some k=>rw[l]at q;exact n l q
  cases d with
  | str z=>
   unfold Bk at q;dsimp only at q;split at q
   .rename_i C;split at q
    .rename_i c L;exact .inr (.inr ⟨z,i,c,r,m,z0 C size6,L,q a _ (Ext.refl a) s rfl⟩)
    .exact q.elim
   .exact q.elim
  |tup M=>exact b q
  |fl M=>exact b q
  |ref j=>exact b q
  |_=>exact b q
 |_=>exact q.elim
def Ax(ds:List D)(G:DH):R D:=match ds with
 |[.str z]=>if z.length<=1000000 then .ok (.int z.length) G else .bad
 |[d]=>match Bd d G with
  |some xs=>.ok (.int xs.length) G
  |none=>.bad
 |_=>.bad
theorem reps1(r:Reps a [d] vs):∃v,vs=[v]/\Rep a d v:=by obtain⟨v,b,e,q,z⟩:=r;cases(z);exact⟨v,e,q⟩
theorem reps2(r:Reps a [d,d'] vs):∃v b,vs=[v,b]/\Rep a d v/\Rep a d' b:=by obtain⟨v,h,e,q,z⟩:=r;obtain⟨b,g,c⟩:=reps1 z;subst g;exact⟨v,b,e,q,c⟩
theorem ZN5:CallR X (.builtin "len") (lRn X.K E Ax):=(ZQl.or ZRH).mono λl H Q h=>by
 obtain⟨a,G,m,hk,rfl,s,r,q⟩:=h;unfold Ax at q;split at q
 .rename_i z;split at q
  .rename_i g;obtain⟨v,rfl,b⟩:=reps1 r;cases(b);exact .inr ⟨z,rfl,z0 g size6,q a _ (Ext.refl a) s rfl⟩
  .exact q.elim
 .rename_i d _;split at q
  .rename_i n j;obtain⟨v,rfl,b⟩:=reps1 r;obtain⟨p,i,rfl,c,k⟩:=Ie s b j;rw[hk]at c;exact .inl ⟨p,i,rfl,c,q a _ (Ext.refl a) s (by rw[<-k.length];exact rfl)⟩
  .exact q.elim
 .exact q.elim
def Dr(ds:List D)(G:DH):R D:=match ds with
 |[d]=>match Bd d G with
  |some xs=>.ok (.tup xs) G
  |none=>.bad
 |_=>.bad
theorem ZUo:CallR X (.type "tuple") (lRn X.K E Dr):=ZLf.mono λm H Q h=>by
 obtain⟨a,G,n,hk,rfl,s,r,q⟩:=h;unfold Dr at q;split at q
 .rename_i d;split at q
  .rename_i u j;obtain⟨v,rfl,k⟩:=reps1 r;obtain⟨p,c,rfl,b,g⟩:=Ie s k j;refine⟨p,c,rfl,?_⟩;rcases b with b|b
   .exact .inl ⟨by rw[<-hk];exact b,λl i=>Wo s g q l i⟩
   .exact .inr ⟨by rw[<-hk];exact b,q a _ (Ext.refl a) s ⟨p,c,rfl,b,g⟩⟩
  .exact q.elim
 .exact q.elim
def Ji(ds:List D)(G:DH):R D:=match ds with
 |[.str z]=>if z.length<=1000000 then .ok (.ref G.length) (G++[.lst (signs z)])else .bad
 |[d]=>match Bd d G with
  |some xs=>.ok (.ref G.length) (G++[.lst xs])
  |none=>.bad
 |_=>.bad
theorem Wf:∀{vs:List V}{us:List xB},vs.length=us.length->(∀(i:Nat)(v:V)(u:xB),vs[i]?=uz v->us[i]?=uz u->RelV v u)->Vals vs us
 |[],[],_,_=>.nil
 |[],_::_,h,_=>by cases h
 |_::_,[],h,_=>by cases h
 |v::vs,u::us,h,f=>.cons (f 0 v u rfl rfl) (Wf (by simpa using h) λi a d c b=>f (i+1) a d (by simpa using c) (by simpa using b))
theorem ZQg(x:X.calm=ux):CallR X (.type "list") (λxs H Q=>∃z:Str,xs=[.str z]/\z.length<=sizeLine/\∀l,H l=uj->Q (.ref l) (upd H l (.lst (z.cps.toList.map λc=>V.str ⟨#[c]⟩)))):=by
 intro j s A H xs B Q I r h;obtain⟨z,rfl,m,q⟩:=h;obtain⟨u,rfl,t,rfl⟩:=vals1 r;refine PySem.call_list_str (I.ok.hd x) z t (λJ C b c hk p a=>?_) m;refine⟨.ref s.heap.objs.size,upd H s.heap.objs.size (.lst (z.cps.toList.map λc=>V.str ⟨#[c]⟩)),I.laid hk (zY _) ?_,rfl,q _ (I.hok.fresh (zY _))⟩;refine⟨by rw[zU,qB];exact m,b.toList,c,Wf ?_ λi v u d n=>?_,by simpa using p⟩
 .rw[zU,qB,qB];exact a.1.symm
 .rw[zx,zD]at d;obtain⟨k,g,rfl⟩:=d;obtain⟨F,w,y,rfl⟩:=a.2 i u (by rw[<-jQ];exact n);rw[jQ,y]at g;cases g;exact⟨w,rfl⟩
theorem ZPI(m:X.calm=ux):CallR X (.type "list") (lRn X.K E Ji):=(ZRm.or (ZQg m)).mono λn H Q h=>by
 obtain⟨a,G,u,hk,rfl,s,r,q⟩:=h;unfold Ji at q;split at q
 .rename_i z;split at q
  .rename_i b;obtain⟨v,rfl,c⟩:=reps1 r;cases(c);exact .inr ⟨z,rfl,z0 b size6,λl b=>Iw s (Reps.signs z) q l b⟩
  .exact q.elim
 .rename_i d _;split at q
  .rename_i w j;obtain⟨v,rfl,c⟩:=reps1 r;obtain⟨p,i,rfl,g,k⟩:=Ie s c j;exact .inl ⟨p,i,rfl,by rw[<-hk];exact g,λl b=>Iw s k q l b⟩
  .exact q.elim
 .exact q.elim
noncomputable def R0(ds:List D)(G:DH):R D:=match ds with
 |[.int i,.int j]=>.ok (.int (if j>i then j else i)) G
 |_=>.bad
noncomputable def Jq(ds:List D)(G:DH):R D:=match ds with
 |[.int i,.int j]=>.ok (.int (if j<i then j else i)) G
 |_=>.bad
theorem ZVh(d:X.calm=ux):CallR X (.builtin "max") (lRn X.K E R0):=(ZTy d).mono λg H Q h=>by
 obtain⟨a,G,i,hk,rfl,s,r,q⟩:=h;unfold R0 at q;split at q
 .obtain⟨v,j,rfl,b,c⟩:=reps2 r;cases(b);cases(c);exact⟨_,_,rfl,q a _ (Ext.refl a) s rfl⟩
 .exact q.elim
theorem ZMH(d:X.calm=ux):CallR X (.builtin "min") (lRn X.K E Jq):=(ZRG d).mono λg H Q h=>by
 obtain⟨a,G,i,hk,rfl,s,r,q⟩:=h;unfold Jq at q;split at q
 .obtain⟨v,j,rfl,b,c⟩:=reps2 r;cases(b);cases(c);exact⟨_,_,rfl,q a _ (Ext.refl a) s rfl⟩
 .exact q.elim
noncomputable def Do(o:D)(ds:List D)(G:DH):R D:=match o,ds with
 |.ref i,[d]=>match G[i]? with
  |some (.lst xs)=>if xs.length<1000000 then .ok .non (G.set i (.lst (xs++[d])))else .bad
  |_=>.bad
 |_,_=>.bad
def lRm(K:za)(E:XK)(f:D->List D->DH->R D):V->List V->Hp->VK->Prop:=λx xs H Q=>∃(a:Wd)(G:DH)(d:D)(ds:List D),a.K=K/\a.H=H/\Sim a G/\Rep a d x/\Reps a ds xs/\out E a (f d ds G) Q
theorem Sim.isList(s:Sim a G)(h:G[i]?=uz (.lst xs)):∃vs,SqL a.K a.H (a.m i) vs:=let⟨vs,e,_⟩:=s.lst h;⟨vs,.of e⟩
theorem ZV9:MtM X "list.append" (lRm X.K E Do):=ZRx.mono λx y H Q h=>by
 obtain⟨a,G,d,w,hk,rfl,s,b,r,q⟩:=h;unfold Do at q;split at q
 .rename_i i d;obtain⟨v,rfl,p⟩:=reps1 r;split at q
  .rename_i z k;split at q
   .rename_i j;obtain⟨l,c,g⟩:=s.lst k;obtain⟨n,u⟩:=V3 s b.1 c (g.append (Reps.cons p Reps.nil));refine⟨a.m i,l,v,b.2,rfl,c,by rw[<-g.length];exact zq j size6,?_⟩;exact q _ .non n u rfl
   .exact q.elim
  .exact q.elim
 .exact q.elim
variable{o e:xz}{es:List xz}{to:DE}{t:DA}{name:Str}{apos cpos:Pos}{T id:String}{f:D->List D->DH->R D}
noncomputable def isL(d:D)(G:DH):Bool:=match d with
 |.ref i=>match G[i]? with
  |some (.lst _)=>ux
  |_=>uv
 |.fl _=>ux
 |_=>uv
def Cw(f:D->List D->DH->R D)(o:DE)(t:DA):DE:=λS G=>(o S G).bind λx G1=>if isL x G1=ux then(t S G1).bind λxs G2=>f x xs G2 else .bad
theorem ZQ1(s:Sim a G)(r:Rep a d x)(h:isL d G=ux):tyV a.K "list" x a.H:=by
 cases d with
 |ref i=>
  unfold isL at h;dsimp only at h;split at h
  .rename_i b g;cases r.2;exact .inl ⟨rfl,s.isList g⟩
  .cases h
 |fl b=>
  obtain⟨p,c,rfl,q,_⟩:=r;exact .inl ⟨rfl,c,q.sq⟩
 |_=>cases h
theorem ZMe(m:Slot "list" name id)(p:typeOf (.builtin id)=pure (.type "method_descriptor"))(L:MtM X id (lRm X.K E f))(ho:QE X E o to)(N:QA X E (e::es) t)
  (i:xE o name X.env (eval o X.env)=eval o X.env:=by rfl)
  (l:((xF cpos (vX (e::es) X.env)).all (λx=> !x.1)&&(xG cpos (xR [] X.env)).all (λx=>x.1.isSome)
   && decide ((e::es).length+([]:List Keyword).length+(if([]:List Keyword).isEmpty then 0 else 1)<30))=ux:=by rfl)
  (j:(apos.endLine==cpos.line)=ux:=by rfl) (C:vX (e::es) X.env=(uv,eval e X.env)::vX es X.env:=by rfl) (g:(xF cpos (vX es X.env)).any (·.1)=uv:=by rfl):
  QE X E (.Call (.Attribute o name apos) (e::es) [] cpos) (Cw f to t):=(ZN2 PySem.F.plainAttrs_list m p L ho N i l j C g).mono λP H Q h=>by
 obtain⟨a,S,G,hk,rfl,s,r,h⟩:=h;refine⟨a,S,G,hk,rfl,s,r,(Dw h).imp ?_⟩;rintro v _ ⟨b,d,w,rfl,x,u,q,-,n⟩;split at n
 .rename_i M;have ty:=ZQ1 u q M;rw[x.k,hk]at ty;refine⟨ty,b,S,w,x.k.trans hk,rfl,u,r.mono x,(Ld n).imp ?_⟩;rintro O _ ⟨c,J,A,rfl,y,I,B,-,z⟩;exact⟨c,A,d,J,y.k.trans (x.k.trans hk),rfl,I,q.mono y,B,z⟩
 .exact n.elim
end
inductive Ty where|non|bl|int|str|tup|lst
noncomputable def Ty.name:Ty->String
 |.non=>"NoneType" | .bl=>"bool" | .int=>"int" | .str=>"str" | .tup=>"tuple" | .lst=>"list"
def tyD(G:DH):D->Option Ty
 |.non=>uz .non
 |.bl _=>uz .bl
 |.int _=>uz .int
 |.str _=>uz .str
 |.tup _=>uz .tup
 |.fl _=>uz .lst
 |.ref i=>match G[i]? with
  |some (.lst _)=>uz .lst
  |_=>uj
 |.ty _=>uj
noncomputable def Ty.sub(t:Ty):String->Option Bool
 |"int"=>uz (match t with | .int=>ux | .bl=>ux|_=>uv)
 |"bool"=>uz (match t with | .bl=>ux|_=>uv)
 |"str"=>uz (match t with | .str=>ux|_=>uv)
 |"tuple"=>uz (match t with | .tup=>ux|_=>uv)
 |"list"=>uz (match t with | .lst=>ux|_=>uv)
 |_=>uj
def Eh(ds:List D)(G:DH):R D:=match ds with
 | [d,.ty T]=>match tyD G d with
  |some t=>match t.sub T with
   |some k=>.ok (.bl k) G
   |none=>.bad
  |none=>.bad
 |_=>.bad
theorem ZKl{K:za}{t:Ty}{T:String}{k:Bool}(h:t.sub T=uz k):PySem.W.kitOne K (.type t.name) (.type T)=uz k:=by
 unfold Ty.sub at h;split at h
 iterate 5 (cases t<;>cases h<;>rfl)
 cases h
section
variable{X:Cx}{E:XK}
theorem ZK3:CallR X (.builtin "isinstance") (lRn X.K E Eh):=by
 intro i s O H vs us Q I rs h;obtain⟨a,G,ds,hk,rfl,P,r,q⟩:=h;unfold Eh at q;split at q
 .rename_i d T;obtain⟨v,v',rfl,j,S⟩:=reps2 r;cases(S);obtain⟨u,J,rfl,m,F⟩:∃u J,us=[u,J]/\RelV v u/\RelV (.ty T) J:=by
   cases rs with
   |cons p q=>cases q with
    |cons Z q'=>cases q';exact⟨_,_,rfl,p,Z⟩
  cases(F);split at q
  .rename_i t g;split at q
   .rename_i k y;have f:∀B:Nat,EP X i O Q (.bool k) {s with toks:=B}:=λB=>⟨.bl k,a.H,I.tok _,rfl,q a _ (Ext.refl a) P rfl⟩
    have e:=ZKl (K:=X.K) y;clear q y r;have L:∀(p:xY)(l:List V),SqL X.K a.H p l->u=.ref p->t=.lst->vW (xU X.prog X.w) X.A (call (.builtin "isinstance") [u,.type T]) (EP X i O Q) X.xe s:=λp l x eu U=>by
     subst eu U;obtain⟨M,_,C,_⟩:=I.list x
     exact qd PySem.W.kitx_list I.kIn (let⟨o,e,c,_⟩:=C.isList;⟨o,e,c⟩) e (λz=>nomatch z) f
    cases d with
    |non=>cases g;cases(j);cases m;exact qd PySem.W.kitx_none I.kIn True.intro e (λz=>nomatch z) f
    |bl b=>cases g;cases(j);cases m;exact qd PySem.W.kitx_bool I.kIn True.intro e (λz=>nomatch z) f
    |int b=>cases g;cases(j);obtain⟨B,rfl⟩:=m;exact qd PySem.W.kitx_int I.kIn True.intro e (λz=>nomatch z) f
    |str b=>cases g;cases(j);obtain⟨B,rfl⟩:=m;exact qd PySem.W.kitx_str I.kIn True.intro e (λz=>nomatch z) f
    |tup b=>
     cases g;obtain⟨p,l,rfl,x,_⟩:=j;cases m;rw[hk]at x;obtain⟨M,_,C,_⟩:=I.tuple x
     exact qd PySem.W.kitx_tuple I.kIn (let⟨o,e,c,_⟩:=C;⟨o,e,c⟩) e (λz=>nomatch z) f
    |fl b=>
     cases g;obtain⟨p,l,rfl,x,_⟩:=j;exact L p l (hk▸x.sq) m rfl
    |ref b=>
     unfold tyD at g;dsimp only at g;split at g
     .rename_i xs hx;cases g;obtain⟨l,Y,_⟩:=P.lst hx;cases j.2;exact L _ l (.of Y) m rfl
     .cases g
    |ty n=>cases g
   .exact q.elim
  .exact q.elim
 .exact q.elim
end
noncomputable def Fg:List D->Option (List Int)
 |[]=>uz []
 |.int i::r=>(Fg r).map (i::·)
 |_=>uj
noncomputable def Fw:List D->Option (List Bool)
 |[]=>uz []
 |.bl i::r=>(Fw r).map (i::·)
 |_=>uj
@[simp]theorem ZBl(ns:List Int):Fg (ns.map D.int)=uz ns:=by
 induction ns with
 |nil=>rfl
 |cons n ns a=>simp[Fg,a]
@[simp]theorem ZXI(ns:List Bool):Fw (ns.map D.bl)=uz ns:=by
 induction ns with
 |nil=>rfl
 |cons n ns a=>simp[Fw,a]
theorem Ua:∀{xs:List D}{ns:List Int},Fg xs=uz ns->xs=ns.map D.int
 |[],ns,h=>by cases h;rfl
 |.int i::r,ns,h=>by simp only[Fg,zD]at h;obtain⟨b,a,rfl⟩:=h;rw[zk,Ua a]
 |.non::r,ns,h=>by simp[Fg]at h
 |.bl _::r,ns,h=>by simp[Fg]at h
 |.str _::r,ns,h=>by simp[Fg]at h
 |.ty _::r,ns,h=>by simp[Fg]at h
 |.tup _::r,ns,h=>by simp[Fg]at h
 |.fl _::r,ns,h=>by simp[Fg]at h
 |.ref _::r,ns,h=>by simp[Fg]at h
theorem ZJb:∀{xs:List D}{ns:List Bool},Fw xs=uz ns->xs=ns.map D.bl
 |[],ns,h=>by cases h;rfl
 |.bl i::r,ns,h=>by simp only[Fw,zD]at h;obtain⟨b,a,rfl⟩:=h;rw[zk,ZJb a]
 |.non::r,ns,h=>by simp[Fw]at h
 |.int _::r,ns,h=>by simp[Fw]at h
 |.str _::r,ns,h=>by simp[Fw]at h
 |.ty _::r,ns,h=>by simp[Fw]at h
 |.tup _::r,ns,h=>by simp[Fw]at h
 |.fl _::r,ns,h=>by simp[Fw]at h
 |.ref _::r,ns,h=>by simp[Fw]at h
def Lg(ds:List D)(G:DH):R D:=match ds with
 | [d]=>match Bd d G with
  |some xs=>match Fw xs with
   |some ns=>.ok (.bl (ns.all id)) G
   |none=>.bad
  |none=>.bad
 |_=>.bad
section
variable{X:Cx}{E:XK}{vA:List (xY×Obj)}{σ:St}{s:x0}{H:Hp}
theorem ZBa(I:Inv X vA σ H s)(t:X.calm=ux)(h:SqL X.K H p vs∨SqT X.K H p vs)
  (n:∀(it:xY)(fp wr:List xY)(its:List xB)(St:Nat->Heap->Prop)(d:x0),Vals vs its->Walks X.prog X.w X.A.in1 it fp wr its.toArray.size (λi v=>its.toArray[i]?=uz v) St->St 0 d.heap->(∀b∈fp,b<d.heap.objs.size)->
   (∀h' tk,(∀b o,b∉wr->d.heap.get? b=uz o->h'.get? b=uz o)->Inv X vA σ H {d with heap:=h',toks:=tk})->Q (.ref it) d):
  vW (xU X.prog X.w) X.A.in1 (pyIter (.ref p)) Q E' s:=by
 have m:X.A.in1.handled=uj:=I.ok.hd t;rcases h with h|h
 .obtain⟨its,r,g,q⟩:=I.list h;refine wpAny_pyIter_list g.isList ?_;have hp:p<s.heap.objs.size:=by obtain⟨o,e,_⟩:=g.isList;exact zz e
  refine n _ _ _ its _ _ r (Walks.list m _ p (z8 hp) its.toArray) ⟨⟨_,zy _ rfl,rfl,rfl⟩,?_⟩ (λb f=>?_) λh' tk k=>?_
  .obtain⟨o,e,c⟩:=g.isList;exact⟨o,zQ _ e,c⟩
  .rw[qy];rcases zj.mp f with rfl|f
   .exact qJ _
   .have e:b=p:=by simpa using f
    subst e;exact qR hp
  .refine I.kept λb o e=>k b o (λf=>?_) (zQ _ e)
   have j:b=s.heap.objs.size:=by simpa using f
   subst j;exact absurd (zz e) (qZ _)
 .obtain⟨its,r,g,q⟩:=I.tuple h;refine wpAny_pyIter_tuple (g) ?_;have hp:p<s.heap.objs.size:=by obtain⟨o,e,_⟩:=g;exact zz e
  refine n _ _ _ its _ _ r (Walks.tuple m _ p (z8 hp) its.toArray) ⟨⟨_,zy _ rfl,rfl,rfl⟩,?_⟩ (λb f=>?_) λh' tk k=>?_
  .obtain⟨o,e,c⟩:=g;exact⟨o,zQ _ e,c⟩
  .rw[qy];rcases zj.mp f with rfl|f
   .exact qJ _
   .have e:b=p:=by simpa using f
    subst e;exact qR hp
  .refine I.kept λb o e=>k b o (λf=>?_) (zQ _ e)
   have j:b=s.heap.objs.size:=by simpa using f
   subst j;exact absurd (zz e) (qZ _)
theorem ZAe:∀{ns:List Int}{vs:List V},Reps a (ns.map D.int) vs->vs=ns.map V.int
 |[],vs,h=>h
 |n::ns,vs,h=>by
  obtain⟨v,r,e,c,b⟩:=h;cases(c);rw[e,ZAe b]
  rfl
theorem ZGC:∀{ns:List Bool}{vs:List V},Reps a (ns.map D.bl) vs->vs=ns.map V.bl
 |[],vs,h=>h
 |n::ns,vs,h=>by
  obtain⟨v,r,e,c,b⟩:=h;cases(c);rw[e,ZGC b]
  rfl
theorem all_range(ns:List Bool):(zX ns.length).all (λi=>ns.getD i ux)=ns.all id:=by
 rw[Bool.eq_iff_iff,qY,qY];constructor
 .intro h b d;obtain⟨i,c,rfl⟩:=qx d;simpa[c]using h i (qK.mpr c)
 .intro h i c;have a:=qK.mp c;simpa[a]using h ns[i] (qw a)
theorem ZMj(z:X.calm=ux):CallR X (.builtin "all") (lRn X.K E Lg):=by
 intro m s U H S Y Q I C h;obtain⟨a,G,N,hk,rfl,n,r,q⟩:=h;unfold Lg at q;split at q
 .rename_i d;obtain⟨v,rfl,A⟩:=reps1 r;split at q
  .rename_i T y;split at q
   .rename_i b o;cases ZJb o;obtain⟨p,O,rfl,k,F⟩:=Ie n A y;cases ZGC F;rw[hk]at k;obtain⟨u,rfl,f⟩:=vals1 C;cases f;refine call_all_walk (ZBa I z k λit fp wr its St s₂ hv W st hfp fin=>⟨it,fp,wr,its.toArray.size,_,St,λi=>b.getD i ux,rfl,W,st,λi w M L P hw j=>?_,λB t J=>?_⟩)
    .have c:its[i]?=uz w:=by simpa using hw
     have g:i<(b.map V.bl).length:=by rw[hv.length];exact(zC.mp c).1
     have e:i<b.length:=by simpa using g
     obtain⟨u,l,f⟩:=hv.get (i:=i) (x:=V.bl b[i]) (by simp[e]);rw[c]at l;cases l;cases f;refine v6 ?_;simpa[e]using j
    .refine⟨.bl (b.all id),a.H,fin B t J,?_,q a _ (Ext.refl a) n rfl⟩;have g:its.toArray.size=b.length:=by rw[zK,<-hv.length];simp
     rw[g,all_range]
     rfl
   .exact q.elim
  .exact q.elim
 .exact q.elim
end
section
variable{X:Cx}{vA:List (xY×Obj)}{σ:St}{H:Hp}{s:x0}
theorem Yk(I:Inv X vA σ H s)(l:H a=uj)(v:X.s₀.heap.objs.size<=a)(t:a≠X.env.locals)(y:∀x c,X.env.cells.lookup x=uz c->c≠a)(hp:∀p∈X.pn++vA,p.1≠a)
  (h:ObjOk X.prog X.w (upd H a o) s.heap a o):Inv X vA σ (upd H a o) s:=by
 have f:∀b u,H b=uz u->b≠a:=λb u e z=>by rw[z,l]at e;cases e
 refine⟨I.ok,I.os,I.bare,⟨I.base.keep,I.base.slot,λb i q n C=>?_,I.base.there,λb j q=>?_,λb i u q=>?_,λb A q=>?_⟩,I.loc,I.cell,?_,λx c e=>?_,λp d=>?_,λb u e=>?_,I.len⟩
 .rw[Ag (z8 (zq (zz q) v))];exact I.base.free b i q n C
 .have:=I.base.tups b j q;rw[Ag (f _ _ this)];exact this
 .have:=I.base.frzs b i u q;rw[Ag (f _ _ this)];exact this
 .obtain⟨g,this⟩:=I.base.tbls b A q;exact⟨g,by rw[Ag (f _ _ this)];exact this⟩
 .rw[Ag (Ne.symm t)];exact I.free
 .rw[Ag (y x c e)];exact I.Fj x c e
 .obtain⟨m,B,r⟩:=I.pin p d;exact⟨m,by rw[Ag (hp p d)];exact B,r⟩
 .by_cases k:b=a
  .subst k;rw[Dy]at e;cases e;exact h
  .rw[Ag k]at e;exact(I.hok b u e).stay (λ_ _ _ q=>q) (λc q=>by rw[Ag (f _ _ q)];exact q) λc j q=>by rw[Ag (f _ _ q)];exact q
end
noncomputable def Ea(env:Env):List (Str×xw)->List (Str×xY)->List (Str×xY)
 |[],cs=>cs
 |(n,k)::r,cs=>if(k==NameKind.free)=ux then Ea env r ((n,(env.cells.lookup n).getD 0)::cs)else Ea env r cs
theorem ZJ3(h:∀y∈scope.names,y.2=.free->∃c,env.cells.lookup y.1=uz c):closureFor scope env=pure (Ea env scope.names []):=by
 unfold closureFor;obtain⟨b,names,p,q⟩:=scope;have e:∀(names:List (Str×xw))(a:List (Str×xY)),(∀y∈names,y.2=.free->∃c,env.cells.lookup y.1=uz c)->
   (forIn names a (λx r=>match x with
    |(name,b)=>if(b==NameKind.free)=ux then(do let c<-cellOf env name;pure (ForInStep.yield ((name,c)::r)))else pure (ForInStep.yield r)):Sem (List (Str×xY)))=pure (Ea env names a):=by
  intro names
  induction names with
  |nil=>intro a _;rfl
  | cons y r j=>
   intro a f;obtain⟨n,k⟩:=y;rw[xX];by_cases hk:(k==NameKind.free)=ux
   .obtain⟨c,l⟩:=f (n,k) zW (by simpa using hk);have o:cellOf env n=pure c:=by unfold cellOf;rw[l]
    have i:Ea env ((n,k)::r) a=Ea env r ((n,c)::a):=by rw[Ea,if_pos hk,l];rfl
    rw[i,<-j ((n,c)::a) λg d=>f g (zV _ d)];simp only[hk,if_true,o]
    rfl
   .have i:Ea env ((n,k)::r) a=Ea env r a:=by rw[Ea,if_neg hk]
    rw[i,<-j a λg d=>f g (zV _ d)];simp only[hk]
    rfl
 have:=e names [] h;exact congrArg (λm:Sem (List (Str×xY))=>m >>=λr=>pure r) this
theorem Ye:∀{names:List (Str×xw)}{cs:List (Str×xY)},(∀y∈names,y.2=.free->∃c,env.cells.lookup y.1=uz c)->(∀p∈cs,env.cells.lookup p.1=uz p.2)->∀p∈Ea env names cs,env.cells.lookup p.1=uz p.2
 |[],cs,_,a,p,hp=>a p hp
 | (n,k)::r,cs,d,a,p,hp=>by
  rw[Ea]at hp;split at hp
  .rename_i hk;obtain⟨c,e⟩:=d (n,k) zW (by simpa using hk);refine Ye (λy b=>d y (zV _ b)) (λq f=>?_) p hp;rcases zj.mp f with rfl|f
   .rw[e];rfl
   .exact a q f
  .exact Ye (λy b=>d y (zV _ b)) a p hp
theorem Ud:∀{names:List (Str×xw)}{cs:List (Str×xY)},((x,.free)∈names∨∃c,(x,c)∈cs)->∃c,(x,c)∈Ea env names cs
 |[],cs,h=>by
  rcases h with h|h
  .cases h
  .exact h
 | (n,k)::r,cs,h=>by
  rw[Ea];split
  .refine Ud ?_;rcases h with h|⟨c,h⟩
   .rcases zj.mp h with e|h
    .cases e;exact .inr ⟨_,zW⟩
    .exact .inl h
   .exact .inr ⟨c,zV _ h⟩
  .rename_i hk;refine Ud ?_;rcases h with h|h
   .rcases zj.mp h with e|h
    .cases e;exact absurd rfl hk
    .exact .inl h
   .exact .inr h
theorem Wg:∀{l:List (Str×xY)},(x,c)∈l->∃d,l.lookup x=uz d
 |[],h=>by cases h
 | (y,d)::l,h=>by
  by_cases e:x=y
  .subst e;exact⟨d,by simp⟩
  .rcases zj.mp h with z|h
   .cases z;exact absurd rfl e
   .obtain⟨a,q⟩:=Wg h;exact⟨a,by rw[jq,beq_eq_false_iff_ne.mpr e];exact q⟩
theorem ZJA(x:Str):(relabel scope env).names.lookup x=(scope.names.lookup x).map λk=>if(k==NameKind.free&&env.scope.kind == .function&&env.kindOf x==uz .cell)=ux then .cell else k:=by
 unfold relabel;generalize scope.names=l
 induction l with
 |nil=>rfl
 | cons y r b=>
  obtain⟨n,k⟩:=y;by_cases e:x=n
  .subst e;simp only[zk]
   cases c:(k==NameKind.free&&env.scope.kind==ScopeKind.function&&env.kindOf x==uz NameKind.cell) <;>
    simp only[c,if_true,jq,beq_self_eq_true,xV,j3,if_false]
  .have a:=beq_eq_false_iff_ne.mpr e;simp only[zk];split
   .rw[jq,jq,a];exact b
   .rw[jq,jq,a];exact b
def blk(X:Cx)(N:List Str)(scope:xy)(C:xY)(s₀:x0)(H₀:Hp)(ex:List xY):Cx where
 prog:=X.prog
 w:=X.w
 K:=X.K
 mg:=X.mg
 base:=X.base
 A:=X.A
 N:=N
 s₀:=s₀
 H₀:=H₀
 env:=compEnvC scope (Ea X.env scope.names []) C X.env
 outer:=X.stack
 stack:=X.stack
 ex:=ex
 fn:=λ_=>uv
 calm:=X.calm
 pn:=[]
 xe:=λ_ _=>False
structure CompSc (X:Cx) (N:List Str) (scope:xy) (nt:Nat) (caps:List Nat):Prop where
 kind:scope.kind=.function
 names:∀y∈scope.names,y.2=.local->scope.names.lookup y.1=uz .local
 nocell:∀y∈scope.names,y.2≠ .cell
 free:∀y∈scope.names,y.2=.free->X.env.kindOf y.1=uz .cell∨X.env.kindOf y.1=uz .free
 nd:N.Nodup
 len:N.length=nt+caps.length
 cap:∀(k j:Nat),caps[k]?=uz j->∃x,X.N[j]?=uz x/\N[nt+k]?=uz x/\scope.names.lookup x=uz .free
section
variable{X:Cx}{vA:List (xY×Obj)}{σ:St}{H:Hp}{s:x0}{N:List Str}{scope:xy}{nt:Nat}{caps:List Nat}
theorem CompSc.cells(c:CompSc X N scope nt caps)(ok:X.Ok):∀y∈scope.names,y.2=.free->∃c,X.env.cells.lookup y.1=uz c:=λy a hk=>ok.has y.1 (c.free y a hk)
theorem CompSc.cl(c:CompSc X N scope nt caps)(ok:X.Ok)(h:(Ea X.env scope.names []).lookup x=uz d):X.env.cells.lookup x=uz d:=
 Ye (c.cells ok) (λp hp=>by cases hp) (x,d) (ze h)
theorem ZRQ(c:CompSc X N scope nt caps)(I:Inv X vA σ H s){fp:List xY}(hf:∀b∈fp,FpOk X vA H b){C:xY}(hC:s.heap.objs.size<=C)(hCf:C∉fp):(blk X N scope C s H fp).Ok where
 mod:=I.ok.mod
 kind:=c.kind
 glob:=I.ok.glob
 blt:=I.ok.blt
 above:=hC
 inj:=λx y d h1 h2=>I.ok.inj x y d (c.cl I.ok h1) (c.cl I.ok h2)
 has:=λx h=>by
  have h':(relabel scope X.env).names.lookup x=uz .cell∨(relabel scope X.env).names.lookup x=uz .free:=h;rw[ZJA]at h';have hfree:scope.names.lookup x=uz .free:=by
   cases e:scope.names.lookup x with
   |none=>rw[e]at h';rcases h' with h'|h'<;>cases h'
   |some k=>
    rw[e]at h';cases k with
    |free=>rfl
    |cell=>exact absurd rfl (c.nocell _ (ze e))
    |_=>rcases h' with h'|h'<;>(simp at h')
  obtain⟨d,hd⟩:=Ud (.inl (ze hfree));exact Wg hd
 cab:=λx d h=>by cases h
 hd:=I.ok.hd
 frames:=I.ok.frames
 stk:=.inl rfl
 exf:=λb hb=>⟨λz=>hCf (by rw[<-show b=C from z];exact hb),λx d h=>(hf b hb).2.2.2.2.1 x d (c.cl I.ok h)⟩
 bs:=I.bs
 bsz:=z0 I.ok.bsz I.sz
 noex:=λb o e hb=>by
  rcases(hf b hb).2.2.2.1 with h|h
  .exact I.ok.noex b o e h
  .exact absurd (zq (zz (I.ok.bs b o e).1) h) (qZ _)
 exfs:=λb hb hz=>by
  rcases zj.mp (I.Tj b hz)with z|z
  .exact(hf b hb).2.1 z
  .exact(hf b hb).2.2.1 z
 funs:=I.stack
 frf:=I.Rg
end
def Cm(g:DG)(c:DB)(te:DE)(S:DSt):List D->DH->R (List D)
 |[],G=>.ok [] G
 | x::xs,G=>(g x S G).bind λS1 G1=>(c S1 G1).bind λk G2=>
   if k=ux then(te S1 G2).bind λd G3=>(Cm g c te S xs G3).bind λds G4=>.ok (d::ds) G4 else Cm g c te S xs G2
def Ff(i:Nat)(g:DG)(c:DB)(te:DE)(S:DSt):Nat->Nat->DH->R (List D)
 |0,j,G=>match G[i]? with
  |some (.lst xs)=>if xs.length<=j then .ok [] G else .bad
  |_=>.bad
 | n + 1,j,G=>match G[i]? with
  |some (.lst xs)=>match xs[j]? with
   | some x=>(g x S G).bind λS1 G1=>(c S1 G1).bind λk G2=>
     if k=ux then(te S1 G2).bind λd G3=>(Ff i g c te S n (j+1) G3).bind λds G4=>.ok (d::ds) G4 else Ff i g c te S n (j+1) G2
   |none=>.ok [] G
  |_=>.bad
def Cp(f:Nat->DH->Option (Option D))(g:DG)(c:DB)(te:DE)(S:DSt):Nat->Nat->DH->R (List D)
 |0,j,G=>match f j G with
  |some uj=>.ok [] G
  |_=>.bad
 | n + 1,j,G=>match f j G with
  |some (uz x)=>(g x S G).bind λS1 G1=>(c S1 G1).bind λk G2=>
     if k=ux then(te S1 G2).bind λd G3=>(Cp f g c te S n (j+1) G3).bind λds G4=>.ok (d::ds) G4 else Cp f g c te S n (j+1) G2
  |some uj=>.ok [] G
  |none=>.bad
noncomputable def Aw(nt:Nat)(caps:List Nat)(S:DSt):DSt:=zZ nt uj++caps.map λj=>(S[j]?).join
def Bx(it:DI)(nt:Nat)(caps:List Nat)(g:DG)(c:DB)(te:DE):DE:=λS G=>(it S G).bind λJ G1=>(match J with
 |.pure xs=>Cm g c te (Aw nt caps S) xs G1
 |.mt i=>match G1[i]? with
  |some (.lst xs)=>Ff i g c te (Aw nt caps S) xs.length 0 G1
  |_=>.bad
 |.fn n f=>Cp f g c te (Aw nt caps S) n 0 G1).bind Ae
noncomputable def Bb:DB:=λ_ G=>.ok ux G
def GK(nt:Nat)(g:DG):Prop:=∀d S G S1 G1,g d S G=.ok S1 G1->∀i e,nt<=i->S[i]?=uz (uz e)->S1[i]?=uz (uz e)
def GKs(nt:Nat)(g:DGs):Prop:=∀d S G S1 G1,g d S G=.ok S1 G1->∀i e,nt<=i->S[i]?=uz (uz e)->S1[i]?=uz (uz e)
theorem ZLF(h:i<nt):GK nt (gV i):=λd S G b f e j x k a=>by cases e;rw[qL (by lia)];exact a
theorem ZU0:GKs nt Ak:=λd S G b f e j x h a=>by
 cases d with
 |nil=>cases e;exact a
 |cons _ _=>cases e
theorem ZKn(l:GK nt t)(m:GKs nt u):GKs nt (Aa t u):=λd S G i h e j x k n=>by
 cases d with
 |nil=>cases e
 |cons a r=>
  have b:(t a S G).bind (λi h=>u r i h)=.ok i h:=e;cases f:t a S G with
  |ok p o=>rw[f]at b;exact m _ _ _ _ _ b j x k (l _ _ _ _ _ f j x k n)
  |err _ _=>rw[f]at b;cases b
  |bad=>rw[f]at b;cases b
theorem ZPl(h:GKs nt t):GK nt (Ah n t):=λd S G k f e j x a b=>by
 cases d with
 |tup i=>
  unfold Ah at e;dsimp only at e;split at e
  .exact h _ _ _ _ _ e j x a b
  .cases e
 |_=>cases e
theorem ZTh(h:out E a (r.bind f) Q):
  Ek E a r (λi H=>∃(b:Wd)(S:DSt)(G:DH),b.H=H/\Ext a b/\Sim b G/\RepS b S i/\r=.ok S G/\out E b (f S G) Q):=by
 cases r with
 |ok d G=>exact λb v x s q=>⟨b,d,G,rfl,x,s,q,rfl,out.mono x h⟩
 |err e G=>exact h
 |bad=>exact h
theorem R.bind_assoc{b d e:Type}(r:R b)(f:b->DH->R d)(g:d->DH->R e):(r.bind f).bind g=r.bind λa G=>(f a G).bind g:=by cases r<;>rfl
theorem ZHS(h:out E a (r.bind f) Q):
  outI E a r (λJ H=>∃(b:Wd)(d:ItD)(G:DH),b.H=H/\Ext a b/\Sim b G/\RepI b d J/\r=.ok d G/\out E b (f d G) Q):=by
 cases r with
 |ok d G=>exact λb v x s q=>⟨b,d,G,rfl,x,s,q,rfl,out.mono x h⟩
 |err e G=>exact h
 |bad=>exact h
section
variable{prog:xk}{w:xC}{A:xq}{R':Result->x0->Prop}{s:x0}
def CItem(prog:xk)(w:xC)(A:xq)(target elt:xz)(ifs:List xz)(acc:xB)(env:Env)(P:x0->Prop)(v:xB)(s:x0):Prop:=
 vW (xU prog w) A (assign target env v) (λ_ s₂=>
  vW (xU prog w) A (forIn ifs ux λc r=>if r=ux then do let ok<-isTrue c env (eval c env);pure (ForInStep.yield ok)else pure (ForInStep.yield r)) (λok s₃=>
   if ok=ux then vW (xU prog w) A (eval elt env) (λx s₄=>vW (xU prog w) A (call (.builtin "list.append") [acc,x]) (λ_ s₅=>P s₅) (λ_ _=>False) s₄) (λ_ _=>False) s₃
   else P s₃) (λ_ _=>False) s₂) (λ_ _=>False) s
def CTurn(prog:xk)(w:xC)(A:xq)(target elt:xz)(ifs:List xz)(it acc:xB)(env:Env)(R' P:x0->Prop)(s:x0):Prop:=
 vW (xU prog w) A (pyNext it) (λr s₁=>match r with
  |none=>R' s₁
  |some v=>vW (xU prog w) A (xS target it v) (λ_ s₁=>CItem prog w A target elt ifs acc env P v s₁) (λ_ _=>False) s₁) (λ_ _=>False) s
theorem ZPr(I:Nat->x0->Prop)
  (i:∀n s,I n s->CTurn prog w A target elt ifs it acc env (R' (.ok .next)) (λs'=>∃m,m<n/\I m s') s)
  (n:Nat) (h:I n s):
  codeAny (xU prog w) A (.compLoop (.ListComp elt [⟨target,iter,ifs,0⟩] scope pos) 0 it acc env) R' s:=by
 refine codeAny_loop rfl I (λn s u=>?_) n h
 show vW _ A ((compTurn (.ListComp elt [⟨target,iter,ifs,0⟩] scope pos) 0 it acc env).onRaise (λx=>do noteFrame x env;theTreesLotGoes x)) _ _ s
 refine wpAny_noted ?_;rw[compTurn_list];refine vv ?_ (λ_ _ q=>q) (λ_ _(f:False)=>f.elim);refine vY (wpAny_standAt (vY (vv (i n s u) (λr p a=>?_) λ_ _ b=>b)));cases r with
 |none=>exact v4 a
 | some v=>
  refine vY (vv a (λ_ k a=>?_) λ_ _ b=>b);refine vY (vv a (λ_ l j=>vY (vv j (λok s₃ h₃=>?_) λ_ _ b=>b)) λ_ _ b=>b);cases ok with
  |false=>exact v4 ⟨rfl,h₃⟩
  |true=>
   exact vY (vY (vv h₃ (λx o d=>vY (vv d (λ_ t e=>v4 (v4 ⟨rfl,e⟩)) λ_ _ b=>b)) λ_ _ b=>b))
end
def QTs(X:Cx)(E:XK)(ifs:List xz)(t:DB):Prop:=
 ∀(vA:List (xY×Obj))(s:x0)(σ:St)(H:Hp)(Q:Bool->Hp->Prop),Inv X vA σ H s->lB X.K E t σ H Q->
  vW (xU X.prog X.w) X.A (forIn ifs ux λc r=>if r=ux then do let ok<-isTrue c X.env (eval c X.env);pure (ForInStep.yield ok)else pure (ForInStep.yield r)) (TP X vA σ Q) X.xe s
theorem ZUc:QTs X E [] Bb:=λb s e H Q I h=>by obtain⟨a,S,G,hk,rfl,d,r,h⟩:=h;exact wpAny_tests_nil ⟨a.H,I,h a (Ext.refl a) d⟩
theorem ZSw(d:QT X E c t):QTs X E [c] t:=λa s b H Q I h=>wpAny_tests_one (d a s b H Q I h)
section
variable{X:Cx}{E:XK}{N:List Str}{scope:xy}{nt:Nat}{caps:List Nat}{tg elt iter:xz}{ifs:List xz}{pos:Pos}{it:DI}{g:DG}{c:DB}{te:DE}
theorem ZO6(r:RepS a S σ):RepS a (Aw nt caps S) (zZ nt uj++caps.map λj=>(σ[j]?).join):=by
 refine⟨by simp[Aw],λi d h=>?_⟩;unfold Aw at h;by_cases f:i<nt
 .rw[zG (by simpa using f),jW]at h
  split at h<;>cases h
 .rw [z9 (by simpa using f),zx]at h;rw[z9 (by simpa using f),zx];rw[jM]at h⊢;cases e:caps[i-nt]? with
  |none=>rw[e]at h;cases h
  | some j=>
   rw[e]at h;have b:(S[j]?).join=uz d:=by simpa using h
   have l:S[j]?=uz (uz d):=by
    cases q:S[j]? with
    |none=>rw[q]at b;cases b
    |some o=>
     rw[q]at b;have k:o=uz d:=b;rw[k]
   obtain⟨v,m,n⟩:=r.get j d l;exact⟨v,by simp[m],n⟩
theorem ZMg(h:(Aw nt caps S)[i]?=uz (uz d)):nt<=i:=by
 unfold Aw at h;by_cases a:i<nt
 .rw[zG (by simpa using a),jW]at h
  split at h<;>cases h
 .lia
theorem X5(hc:X.calm=ux)(cs:CompSc X N t nt caps)
  (hg:∀C s₀ H₀ ex,QG (blk X N t C s₀ H₀ ex) E0 tg g) (gk:GK nt g) (hts:∀C s₀ H₀ ex,QTs (blk X N t C s₀ H₀ ex) E0 ifs c) (he:∀C s₀ H₀ ex,QE (blk X N t C s₀ H₀ ex) E0 elt te)
  {vA:List (xY×Obj)} {σ:St} {s:x0} {a:Wd} {S:DSt} {G:DH} {J:It} {n0:Nat} {f:Nat->DH->Option (Option D)} {i0:xY} {fp:List xY} {tn:Nat->Heap->Prop} (I:Inv X vA σ a.H s) (hk:a.K=X.K) (sm:Sim a G) (rS:RepS a S σ)
  (T:Turn X.prog X.w X.K tg J fp i0 tn) (t0:tn 0 s.heap) (hf:∀b∈fp,FpOk X vA a.H b) (rJ:RepI a (.fn n0 f) J) {Q:VK}
  (h:out E0 a ((Cp f g c te (Aw nt caps S) n0 0 G).bind Ae) Q)
  {RR:xB->xY->Result->x0->Prop} {E':xB->x0->Prop}
  (hRR:∀(D C:xY)(s':x0)(b:Wd)(vs:List V),Inv X vA σ (upd b.H D (.lst vs)) s'->b.H D=uj->s.heap.objs.size<=C->D≠C->(∃m,s'.heap.Ns C m)->b.H C=uj->Q (.ref D) (upd b.H D (.lst vs))->RR (.ref D) C (.ok .next) s'):
  vW (xU X.prog X.w) X.A (newList []) (λF s₃=>vW (xU X.prog X.w) X.A (newFunctionEnv t X.env.globals (Ea X.env t.names []) [] X.env.qual uj .none (uz X.env)) (λcenv s₄=>
   codeAny (xU X.prog X.w) X.A (.compStart (.ListComp elt [⟨tg,iter,ifs,0⟩] t pos) 0 (.ref i0) F {cenv with scope:=relabel t X.env}) (RR F cenv.locals) s₄) E' s₃) E' s:=by
 refine vk (wpAny_newFunctionEnv cs.nocell (by intro y hy;simp at hy) (λh₁ hns₁ W=>?_) cs.kind);dsimp only at hns₁ W⊢;generalize hH2:s.heap.push {cls:=.type "list",dict:=uj,data:=.seq ([]:List xB).toArray}=H2 at hns₁ W⊢;have hC:H2.objs.size=s.heap.objs.size+1:=by rw[<-hH2,qy]
 have hDC:s.heap.objs.size≠H2.objs.size:=by rw[hC];exact z8 (qJ _)
 have hCle:s.heap.objs.size<=H2.objs.size:=by rw[hC];exact jx _
 have fpOld:∀b∈fp,b<s.heap.objs.size:=λb hb=>by obtain⟨o,e,_⟩:=T.obj 0 _ t0 b hb;exact zz e
 have hDf:s.heap.objs.size∉fp:=λhm=>qZ _ (fpOld _ hm)
 have hCf:H2.objs.size∉fp:=λhm=>by have:=fpOld _ hm;rw[hC]at this;exact qZ _ (Nat.lt_of_succ_lt this)
 have old:∀b o,s.heap.get? b=uz o->h₁.get? b=uz o:=λb o e=>
  W.extBut b o (by rw[hC];exact z8 (qR (zz e))) (zQ _ (hH2▸zQ _ e))
 have hacc:h₁.PlainList s.heap.objs.size ([]:List xB).toArray:=⟨_,W.extBut _ _ hDC (zQ _ (hH2▸zy _ rfl))⟩;generalize hCe:H2.objs.size=C at*;generalize hDe:s.heap.objs.size=M at*;let B:=blk X N t C s a.H fp;have okB:=ZRQ cs I hf (by rw[hDe];exact hCle) hCf;let σ0:St:=zZ nt uj++caps.map λj=>(σ[j]?).join
 have start:∀tk,Inv B [] σ0 a.H {s with heap:=h₁,toks:=tk}:=λtk=>by
  refine⟨okB,rfl,I.bare,Un.kept old,⟨_,hns₁,λi x v e1 e2 e3=>?_⟩,λx d' e=>?_,I.hok.fresh (by rw[hDe];exact hCle),λx d' e=>?_,λp hp=>?_,I.hok.kept old,?_⟩
  .have hi:nt<=i:=by
    by_cases hi:i<nt
    .have e2':=e2;rw[zG (by simpa using hi),jW]at e2'
     split at e2'<;>cases e2'
    .lia
   have e2':=e2;rw[z9 (by simpa using hi),zx,jM]at e2';cases ej:caps[i-nt]? with
   |none=>rw[ej]at e2';cases e2'
   | some j=>
    rw[ej]at e2';have h1:(σ[j]?).join=uz v:=by simpa using e2'
    have h2:σ[j]?=uz (uz v):=by
     cases q:σ[j]? with
     |none=>rw[q]at h1;cases h1
     |some o=>
      rw[q]at h1;have h1':o=uz v:=h1;rw[h1']
    obtain⟨y,ey,en,ek⟩:=cs.cap (i-nt) j ej;have exy:x=y:=by
     have:nt+(i-nt)=i:=by lia
     rw[this]at en;have e1':N[i]?=uz x:=e1;rw[e1']at en;exact Option.some.inj en
    subst exy;have kx:=cs.free (x,.free) (ze ek) rfl;have vis:Vis X.env.scope x:=by
     rcases kx with kx|kx
     .exact .inr (.inl kx)
     .exact .inr (.inr kx)
    obtain⟨m,hn,hl⟩:=I.loc;obtain⟨u,ru,lk⟩:=hl j x v ey h2 vis;refine⟨u,ru,?_⟩;rcases lk with⟨k1,_⟩|⟨k1,c1,ec,hcell⟩
    .rcases kx with kx|kx
     .rw[k1]at kx;cases kx
     .rw[k1]at kx;cases kx
    .refine .inr ⟨?_,c1,?_,?_⟩
     .show(relabel t X.env).names.lookup x=uz .cell∨(relabel t X.env).names.lookup x=uz .free;rw[ZJA,ek];simp only[xV];split
      .exact .inl rfl
      .exact .inr rfl
     .obtain⟨d1,hd1⟩:=Ud (.inl (ze ek));obtain⟨d2,hd2⟩:=Wg hd1;have:=cs.cl I.ok hd2;rw[ec]at this;cases this;exact hd2
     .obtain⟨o,e,dd⟩:=hcell;exact⟨o,old _ _ e,dd⟩
  .obtain⟨v,o,e',dd⟩:=I.cell x d' (cs.cl I.ok e);exact⟨v,o,old _ _ e',dd⟩
  .exact I.Fj x d' (cs.cl I.ok e)
  .exact absurd hp (by simp[B,blk])
  .show σ0.length=N.length;rw[cs.len];simp[σ0]
 have young:∀b∈fp,b≠C:=λb hb z=>hCf (z▸hb)
 have fpB:∀{H':Hp}{ps:List (xY×Obj)},(∀b∈fp,H' b=uj)->(∀p∈ps,p.1∉fp)->∀b∈fp,FpOk B ps H' b:=λ{H' ps}hn hps b hb=>
  ⟨hn b hb,young b hb,okB.exfs b hb,.inl hb,λx d' e=>(hf b hb).2.2.2.2.1 x d' (cs.cl I.ok e),λp hp z=>by exact hps p (by simpa[B,blk]using hp) (z▸hb)⟩
 have nstk:M∉frs X.stack:=λz=>by
  rcases zj.mp (I.Tj M z)with z|z
  .have:=I.lt;rw[hDe,<-z]at this;exact qZ _ this
  .exact I.nofs (by rw[hDe];exact zY _) z
 have pinD:∀{L:St}{H':Hp}{s':x0}{l:List xB}{nD:Nat},Inv B [] L H' s'->s'.heap.get? M=uz {cls:=.type "list",data:=.seq l.toArray nD}->H' M=uj->Inv B [(M,{cls:=.type "list",data:=.seq l.toArray nD})] L H' s':=λ{L H' s' l nD}J e n=>
  J.Jl λp hp=>by
   have ep:p=(M,{cls:=.type "list",data:=.seq l.toArray nD}):=by simpa using hp
   subst ep;exact⟨e,n,hDC,nstk,λv' z=>by cases z⟩
 have fin:∀(s':x0)(b:Wd)(L:St)(l:List xB)(U:List D)(G':DH),Inv B [] L b.H s'->Ext a b->Sim b G'->s'.heap.PlainList M l.toArray->b.H M=uj->(∃vs,Vals vs l/\Reps b U vs)->out E0 b (Ae U G') Q->RR (.ref M) C (.ok .next) s':=by
  intro s' b L l U G' IB x sb pl hD ⟨vs,hv,rv⟩ hq;have hz:U.length<=1000000:=by
   unfold Ae at hq;split at hq
   .assumption
   .exact hq.elim
  obtain⟨n,eD⟩:=pl;have ylt:∀{q:xY}{o:Obj},s.heap.get? q=uz o->q≠M:=λe z=>by rw[z,<-hDe]at e;exact absurd (zz e) (qZ _)
  have Ia:Inv X vA σ (upd b.H M (.lst vs)) s':=by
   refine Yk (I.call' IB.os IB.base IB.hok IB.bare λb hb=>⟨(hf b hb).2.2.2.1,(hf b hb).2.1,(hf b hb).2.2.2.2.1,(hf b hb).2.2.2.2.2⟩) hD (by rw[<-hDe];exact I.sz) ?_ (λy c' ec=>?_) (λp hp=>?_) ⟨?_,l,n,hv,eD⟩
   .rw[<-hDe];exact jV I.lt
   .obtain⟨v,o,e,_⟩:=I.cell y c' ec;exact ylt e
   .exact ylt (I.pin p hp).1
   .rw[<-rv.length];exact z0 hz size6
  refine hRR M C s' b vs Ia hD hCle hDC (let⟨m,hn,_⟩:=IB.loc;⟨m,hn⟩) IB.free ?_;unfold Ae at hq;rw[if_pos hz]at hq;exact Iw sb rv hq M hD
 have turnX:∀(P:x0->Prop)(rest:DH->R (List D))(s1:x0)(b:Wd)(G1:DH)(σ1:St)(l:List xB)(F:List D)(u:xB)(v:V)(x:D)(i:Nat),Inv B [] σ1 b.H s1->Ext a b->Sim b G1->RepS b (Aw nt caps S) σ1->tn i s1.heap->(∀q∈fp,b.H q=uj)->
   s1.heap.PlainList M l.toArray->b.H M=uj->(∃vs,Vals vs l/\Reps b F vs)->RelV v u->Rep b x v->
   out E0 b (((g x (Aw nt caps S) G1).bind λS1 G1=>(c S1 G1).bind λk G2=>if k=ux then(te S1 G2).bind λd G3=>(rest G3).bind λU G4=>.ok (d::U) G4 else rest G2).bind λU G=>Ae (F++U) G) Q->
   (∀(s2:x0)(b2:Wd)(G2:DH)(Z:St)(its2:List xB)(acc2:List D),Inv B [] Z b2.H s2->Ext a b2->Sim b2 G2->RepS b2 (Aw nt caps S) Z->tn i s2.heap->(∀q∈fp,b2.H q=uj)->
    s2.heap.PlainList M its2.toArray->b2.H M=uj->(∃vs,Vals vs its2/\Reps b2 acc2 vs)->out E0 b2 ((rest G2).bind λU G=>Ae (acc2++U) G) Q->P s2)->
   CItem X.prog X.w X.A tg elt ifs (.ref M) B.env P u s1:=by
  intro P rest s1 b G1 σ1 l F u v x i I1 x1 sb rSb t1 hfp pl hD hacc' ru rx hq next
  rw[R.bind_assoc]at hq;obtain⟨nD,eD⟩:=id pl;let pinD:List (xY×Obj):=[(M,{cls:=.type "list",data:=.seq l.toArray nD})];have pinOk:∀{L:St}{H':Hp}{s':x0},Inv B (pinD++Nq fp s1.heap) L H' s'->s'.heap.PlainList M l.toArray/\H' M=uj/\tn i s'.heap/\∀q∈fp,H' q=uj:=λ{L H' s'}J=>by
   have p1:=J.pin (M,{cls:=.type "list",data:=.seq l.toArray nD}) (zP _ (xQ _ (by simp[pinD])));refine⟨⟨nD,p1.1⟩,p1.2.1,T.keep _ _ _ t1 λq O o e=>(J.pin (q,o) (zP _ (zP _ (Us O e)))).1,λq O=>?_⟩;obtain⟨o,e,_⟩:=T.obj _ _ t1 q O;exact(J.pin (q,o) (zP _ (zP _ (Us O e)))).2.1
  have I2:Inv B (pinD++Nq fp s1.heap) σ1 b.H s1:=I1.Jl λp hp=>by
   rcases jE.mp hp with hp|hp
   .have e:p=(M,{cls:=.type "list",data:=.seq l.toArray nD}):=by simpa[pinD]using hp
    subst e;refine⟨eD,hD,hDC,λz=>?_,λv' z=>by cases z⟩;exact nstk z
   .obtain⟨hb,e⟩:=ZEQ hp;obtain⟨f0,f1,f2,_⟩:=fpB (ps:=[]) hfp (λp hp=>by cases hp) p.1 hb;obtain⟨o,e',dd⟩:=T.obj _ _ t1 p.1 hb;rw[e]at e';cases e';exact⟨e,f0,f1,f2,dd⟩
  refine thn (hg C s a.H fp _ s1 σ1 b.H v u _ I2 ru ⟨b,Aw nt caps S,G1,x,x1.k.trans hk,rfl,sb,rSb,rx,(ZTh hq).imp λ_ _ z=>z⟩) ?_;rintro _ s2 ⟨Z,H2',J2,b2,S2,G2,rfl,y2,sb2,rS2,eg,hq2⟩;rw[R.bind_assoc]at hq2;have rS2':RepS b2 (Aw nt caps S) Z:=⟨by rw[rSb.len,I1.len];exact J2.len.symm,λj e' hj=>rS2.get j e' (gk _ _ _ _ _ eg j e' (ZMg hj) hj)⟩
  refine thn (hts C s a.H fp _ s2 Z b2.H _ J2 ⟨b2,S2,G2,y2.k.trans (x1.k.trans hk),rfl,sb2,rS2,(ZGd hq2).imp λ_ _ z=>z⟩) ?_;rintro k s3 ⟨H3,J3,b3,G3,rfl,y3,sb3,_,hq3⟩;cases k with
  |false=>
   obtain⟨p1,p2,p3,p4⟩:=pinOk J3;have Jn:Inv B [] Z b3.H s3:=J3.Jl λp hp=>by cases hp
   obtain⟨vs,hv,rv⟩:=hacc'
   exact next s3 b3 G3 Z l F Jn (x1.trans (y2.trans y3)) sb3 (rS2'.mono y3) p3 p4 p1 p2 ⟨vs,hv,(rv.mono y2).mono y3⟩ hq3
  | true=>
   have hq3':out E0 b3 (((te S2 G3).bind λd G3=>(rest G3).bind λU G4=>.ok (d::U) G4).bind λU G=>Ae (F++U) G) Q:=hq3;rw[R.bind_assoc]at hq3';refine thn (he C s a.H fp _ s3 Z b3.H _ J3 ⟨b3,S2,G3,y3.k.trans (y2.k.trans (x1.k.trans hk)),rfl,sb3,rS2.mono y3,(Dw hq3').imp λ_ _ z=>z⟩) ?_;rintro w s4 ⟨vw,H4,J4,rw',b4,d4,G4,rfl,y4,sb4,q4,_,hq4⟩;obtain⟨p1,p2,p3,p4⟩:=pinOk J4;rw[R.bind_assoc]at hq4;have Y:out E0 b4 ((rest G4).bind λU G=>Ae ((F++[d4])++U) G) Q:=by
    have e:(λ(U:List D)(G:DH)=>(R.ok (d4::U) G).bind λU G=>Ae (F++U) G)=λU G=>Ae ((F++[d4])++U) G:=by funext U G;simp
    rw[<-e];exact hq4
   obtain⟨vs,hv,rv⟩:=hacc';have hsz:l.toArray.size<=sizeLine:=by
    have:F.length<=1000000:=by
     cases hr:rest G4 with
     |ok U G5=>
      rw[hr]at Y;have hq5:out E0 b4 (Ae ((F++[d4])++U) G5) Q:=Y;unfold Ae at hq5;split at hq5
      .rename_i hl;simp at hl;lia
      .exact hq5.elim
     |err e' G5=>rw[hr]at Y;exact(Y.1 rfl).elim
     |bad=>rw[hr]at Y;exact Y.elim
    rw[zK,<-hv.length,<-rv.length];exact z0 this size6
   refine wpAny_list_append_plain p1 (λh' hpl hsb=>?_) hsz;have J5:Inv B [] Z b4.H {s4 with heap:=h'}:=by refine(J4.Jl λp hp=>by cases hp).turned (λq o O e=>(hsb.2 q O).trans e) p2 hDC (.inr (by show s.heap.objs.size<=M;rw[hDe];exact zY _)) (λy c' ec=>?_) (λp hp=>absurd hp (by simp[B,blk]));obtain⟨v',o,e,_⟩:=I.cell y c' (cs.cl I.ok ec);intro z;rw[z,<-hDe]at e;exact absurd (zz e) (qZ _)
   refine next _ b4 G4 Z (l++[w]) (F++[d4]) J5 (x1.trans (y2.trans (y3.trans y4))) sb4 ((rS2'.mono y3).mono y4) (T.keep _ _ _ p3 λq O o e=>(hsb.2 q (λz=>hDf (z▸O))).trans e) p4 (by simpa using hpl) p2 ⟨vs++[vw],hv.append (.cons rw' .nil),(((rv.mono y2).mono y3).mono y4).append (Reps.cons q4 Reps.nil)⟩ Y
 have loop:∀s₃:x0,s₃={s with heap:=h₁,toks:=s.toks+([]:List (Str×xB)).length}->
   codeAny (xU X.prog X.w) X.A (.compLoop (.ListComp elt [⟨tg,iter,ifs,0⟩] t pos) 0 (.ref i0) (.ref M) B.env) (RR (.ref M) C) s₃:=by
  rintro s₃ rfl;have walk:=rJ;obtain⟨Iv,hIv⟩:∃Iv:Nat->x0->Prop,∀m s',Iv m s'↔∃(i:Nat)(b:Wd)(G':DH)(L:St)(l:List xB)(F:List D),Inv B [] L b.H s'/\Ext a b/\Sim b G'/\RepS b (Aw nt caps S) L/\tn i s'.heap/\(∀q∈fp,b.H q=uj)/\s'.heap.PlainList M l.toArray/\b.H M=uj/\(∃vs,Vals vs l/\Reps b F vs)/\out E0 b ((Cp f g c te (Aw nt caps S) m i G').bind λU G=>Ae (F++U) G) Q:=⟨_,λ_ _=>Iff.rfl⟩;refine ZPr Iv (λm s' h'=>?_) n0 ((hIv _ _).2 ⟨0,a,G,σ0,[],[],start _,Ext.refl a,sm,ZO6 rS,T.keep _ _ _ t0 λq _ o e=>old q o e,λq hq=>(hf q hq).1,hacc,I.hok.fresh (by rw[hDe];exact zY _),⟨[],.nil,rfl⟩,by simpa using h⟩)
  obtain⟨i,b,G',L,l,F,IB,x,sb,rSb,ti,hfp,pl,hD,hac,hq⟩:=(hIv _ _).1 h';clear h';obtain⟨nD,eD⟩:=pl;have I0:=pinD IB eD hD;have f0:=fpB (ps:=[(M,{cls:=.type "list",data:=.seq l.toArray nD})]) hfp (λp hp=>by
   have ep:p=(M,{cls:=.type "list",data:=.seq l.toArray nD}):=by simpa using hp
   subst ep;exact hDf)
  have stop:J.stop i b.H->out E0 b (Ae F G') Q->∀P,CTurn X.prog X.w X.A tg elt ifs (.ref i0) (.ref M) B.env (RR (.ref M) C (.ok .next)) P s':=by intro st O P;refine thn (T.done B rfl rfl rfl hc i _ s' L b.H _ I0 f0 ti st) ?_;rintro r s1 ⟨rfl,I2⟩;have pD:=(I2.pin (M,{cls:=.type "list",data:=.seq l.toArray nD}) (zP _ (by simp))).1;exact fin s1 b L l F G' (I2.Jl λp hp=>by cases hp) x sb ⟨nD,pD⟩ hD hac O
  cases m with
  |zero=>
   unfold Cp at hq;split at hq
   .rename_i hf;exact stop ((walk b x G' sb i).2 hf) (by have O:out E0 b (Ae (F++[]) G') Q:=hq;rw[qG]at O;exact O) _
   .exact hq.elim
  | succ m=>
   unfold Cp at hq;split at hq
   .rename_i d1 hf;obtain⟨go,yl⟩:=(walk b x G' sb i).1 d1 hf;refine thn (T.item B rfl rfl rfl hc i _ s' L b.H _ I0 f0 ti go) ?_;rintro r s1 ⟨u,rfl,hgo⟩;refine thn hgo ?_;rintro _ s2 ⟨v,H',I2,ru,y,t2,hfp2⟩;obtain⟨cc,rfl,xx,ss,rd⟩:=yl v H' y;have pD:=I2.pin (M,{cls:=.type "list",data:=.seq l.toArray nD}) (zP _ (by simp));obtain⟨vs1,hv1,rv1⟩:=hac;refine turnX _ (λG3=>Cp f g c te (Aw nt caps S) m (i+1) G3) s2 cc G' L l F u _ d1 (i+1) (I2.Jl λp hp=>by cases hp) (x.trans xx) ss (rSb.mono xx) t2 hfp2 ⟨nD,pD.1⟩ pD.2.1 ⟨vs1,hv1,rv1.mono xx⟩ ru rd (out.mono xx hq) ?_
    intro s3 b3 G3 σ3 its3 acc3 a1 a2 a3 a4 a5 a6 a7 a8 a9 a10;exact⟨m,qJ _,(hIv _ _).2 ⟨i+1,b3,G3,σ3,its3,acc3,a1,a2,a3,a4,a5,a6,a7,a8,a9,a10⟩⟩
   .rename_i hf;exact stop ((walk b x G' sb i).2 hf) (by have O:out E0 b (Ae (F++[]) G') Q:=hq;rw[qG]at O;exact O) _
   .exact hq.elim
 exact codeAny_compStart_list (loop _ rfl) (T.self _ 0 _ _ _ (T.keep _ _ _ t0 λq _ o e=>old q o e) (loop _ rfl))
theorem Xp{g:DG}{c:DB}{b:DE}{S:DSt}{xs:List D}:∀(n j:Nat)(G:DH),j+n=xs.length->Cm g c b S (xs.drop j) G=Cp (λj _=>uz xs[j]?) g c b S n j G
 |0,j,G,h=>by
  rw[qQ (by lia)]
  show _=(match uz xs[j]? with |some uj=>R.ok [] G|_=>.bad)
  rw[z7 (by lia)]
  rfl
 |n+1,j,G,h=>by
  have a:j<xs.length:=by lia
  rw[zO a]
  show(g xs[j] S G).bind _=(match uz xs[j]? with |some (uz x)=>_|some uj=>R.ok [] G|none=>.bad)
  rw[zJ a];dsimp only
  congr 1
  funext l i
  congr 1
  funext k f;rw[Xp n (j+1) f (by lia)]
  congr 1
  congr 1
  funext d e;rw[Xp n (j+1) e (by lia)]
theorem ZJB{g:DG}{c:DB}{a:DE}:∀(n j:Nat)(G:DH),Ff i g c a S n j G=Cp (mtF i) g c a S n j G
 | 0,j,G=>by
  unfold Ff Cp mtF;cases G[i]? with
  |none=>rfl
  | some o=>
   cases o with
   |lst b=>
    dsimp only;by_cases d:j<b.length
    .rw[if_neg (by lia),zJ d]
    .rw[if_pos (by lia),z7 (by lia)]
   |_=>rfl
 | n+1,j,G=>by
  have e:(Ff i g c a S n (j+1))=Cp (mtF i) g c a S n (j+1):=funext λG=>ZJB n (j+1) G
  unfold Ff Cp;rw[e];unfold mtF;cases G[i]? with
  |none=>rfl
  | some o=>
   cases o with
   |lst b=>
    dsimp only
    cases b[j]?<;>rfl
   |_=>rfl
theorem ZFB(hc:X.calm=ux)(cs:CompSc X N scope nt caps)
  (hg:∀C s₀ H₀ ex,QG (blk X N scope C s₀ H₀ ex) E0 tg g) (gk:GK nt g) (hts:∀C s₀ H₀ ex,QTs (blk X N scope C s₀ H₀ ex) E0 ifs c) (he:∀C s₀ H₀ ex,QE (blk X N scope C s₀ H₀ ex) E0 elt te)
  {vA:List (xY×Obj)} {σ:St} {s:x0} {a:Wd} {S:DSt} {G:DH} {J:It} {d:ItD} {i0:xY} {fp:List xY} {tn:Nat->Heap->Prop} (I:Inv X vA σ a.H s) (hk:a.K=X.K) (sm:Sim a G) (rS:RepS a S σ)
  (T:Turn X.prog X.w X.K tg J fp i0 tn) (t0:tn 0 s.heap) (hf:∀b∈fp,FpOk X vA a.H b) (rJ:RepI a d J) {Q:VK}
  (h:out E0 a ((match d with
   |.pure xs=>Cm g c te (Aw nt caps S) xs G
   |.mt i=>match G[i]? with
    |some (.lst xs)=>Ff i g c te (Aw nt caps S) xs.length 0 G
    |_=>.bad
   |.fn n f=>Cp f g c te (Aw nt caps S) n 0 G).bind Ae) Q)
  {RR:xB->xY->Result->x0->Prop} {E':xB->x0->Prop}
  (hRR:∀(D C:xY)(s':x0)(b:Wd)(vs:List V),Inv X vA σ (upd b.H D (.lst vs)) s'->b.H D=uj->s.heap.objs.size<=C->D≠C->(∃m,s'.heap.Ns C m)->b.H C=uj->Q (.ref D) (upd b.H D (.lst vs))->RR (.ref D) C (.ok .next) s'):
  vW (xU X.prog X.w) X.A (newList []) (λacc s₃=>vW (xU X.prog X.w) X.A (newFunctionEnv scope X.env.globals (Ea X.env scope.names []) [] X.env.qual uj .none (uz X.env)) (λcenv s₄=>
   codeAny (xU X.prog X.w) X.A (.compStart (.ListComp elt [⟨tg,iter,ifs,0⟩] scope pos) 0 (.ref i0) acc {cenv with scope:=relabel scope X.env}) (RR acc cenv.locals) s₄) E' s₃) E' s:=by
 cases d with
 |pure xs=>
  have h':out E0 a ((Cm g c te (Aw nt caps S) (xs.drop 0) G).bind Ae) Q:=h;rw[Xp xs.length 0 G (by lia)]at h';exact X5 hc cs hg gk hts he I hk sm rS T t0 hf (ZGM rJ) h' hRR
 |mt k=>
  dsimp only at h;split at h
  .rename_i xs hx;rw[ZJB]at h;exact X5 hc cs hg gk hts he I hk sm rS T t0 hf (ZDn rJ) h hRR
  .exact h.elim
 |fn n0 f=>exact X5 hc cs hg gk hts he I hk sm rS T t0 hf rJ h hRR
end
section
variable{X:Cx}{N:List Str}{scope:xy}{nt:Nat}{caps:List Nat}{tg elt iter:xz}{ifs:List xz}{pos:Pos}{it:DI}{g:DG}{c:DB}{te:DE}
theorem letGo{vA:List (xY×Obj)}{l:St}{H:Hp}{j s':x0}{h':Heap}{C:xY}{t':Nat}{i:St}{t:Hp}(f:Inv X vA i t j)(u:Inv X vA l H s')(h:j.heap.objs.size<=C)(n:H C=uj)(k:qA C s'.heap h'):Inv X vA l H {s' with heap:=h',toks:=t'}:=by
 have a:∀{b:xY}{o:Obj},j.heap.get? b=uz o->b≠C:=λe z=>by rw[z]at e;exact absurd (zq (zz e) h) (qZ _)
 refine u.turned (λb o r e=>(k.2 b r).trans e) n (jV (zq f.lt h)) (.inr (z0 f.sz h)) (λx s e=>?_) λp hp=>?_
 .obtain⟨v,o,q,_⟩:=f.cell x s e;exact a q
 .exact a (f.pin p hp).1
theorem ZTw(L:X.calm=ux)(cs:CompSc X N scope nt caps)(U:QI X E0 tg iter it)
  (F:∀C e f i,QG (blk X N scope C e f i) E0 tg g) (A:GK nt g) (n:∀C e f i,QTs (blk X N scope C e f i) E0 ifs c) (M:∀C e f i,QE (blk X N scope C e f i) E0 elt te)
  (K:∀x,foldedSetIterable iter X.env x=pure x:=by intro _;rfl):QE X E0 (.ListComp elt [⟨tg,iter,ifs,0⟩] scope pos) (Bx it nt caps g c te):=by
 intro j s O H Q I h;obtain⟨a,S,G,hk,rfl,Y,r,h⟩:=h;rw[eval_ListComp];refine wpAny_comprehension_free rfl K (ZJ3 (cs.cells I.ok)) cs.kind cs.names (thn (U j s O a.H _ I ⟨a,S,G,hk,rfl,Y,r,(ZHS h).imp λ_ _ z=>z⟩) λxv s1 o=>thn o λw s2 y=>?_);obtain⟨i0,fp,tn,J,H2,rfl,u,T,P,B,b,d,G1,rfl,x,W,Z,_,o⟩:=y;refine ZFB L cs F A n M u (x.k.trans hk) W (r.mono x) T P B Z o ?_;intro D C s' b vs Ia hD l p ⟨m,v⟩ t E
 refine⟨m,v,λh' q=>⟨.ref D,_,letGo u Ia l ?_ q,rfl,E⟩⟩;rw[Ag (Ne.symm p)];exact t
theorem ZMY(i:Nat){y:Str}{U n:Pos}(hc:X.calm=ux)(hN:X.N.Nodup)(cs:CompSc X N scope nt caps)(hi:QI X E0 tg iter it)
  (hg:∀C f j t,QG (blk X N scope C f j t) E0 tg g) (gk:GK nt g) (A:∀C f j t,QTs (blk X N scope C f j t) E0 ifs c) (he:∀C f j t,QE (blk X N scope C f j t) E0 elt te)
  (hy:X.N[i]?=uz y:=by rfl) (hx:Loc X.env.scope y:=by first|exact Or.inl rfl|exact Or.inr rfl) (hf:X.fn y=ux∨X.env.scope.names.lookup y=uz .local:=by first|exact .inl rfl|exact .inr rfl|assumption)
  (Q:swapsWith (.ListComp elt [⟨tg,iter,ifs,0⟩] scope pos) (uz (.Name y U)) n.line X.env=pure ux:=by rfl)
  (hs:∀x,foldedSetIterable iter X.env x=pure x:=by intro _;rfl):QS X E0 (.Assign [.Name y U] (.ListComp elt [⟨tg,iter,ifs,0⟩] scope pos) n) (sAs (Bx it nt caps g c te) (gV i)):=by
 intro u s σ H W I h;obtain⟨a,S,G,hk,rfl,sm,r,h⟩:=h;have h0:=Fp h;rw[exec_Assign_Name_used _ _ _ _ Q];refine vY (wpAny_standAt (vY ?_));refine vY (vv (wpAny_comprehension_free rfl hs (ZJ3 (cs.cells I.ok)) cs.kind cs.names
  (thn (hi u s σ a.H _ I ⟨a,S,G,hk,rfl,sm,r,(ZHS h0).imp λ_ _ z=>z⟩) λxv s1 F=>thn F λitv s2 h2=>?_)) (λ_ s' K=>v4 (v4 K)) λ_ _ e=>e)
 obtain⟨i0,fp,tn,J,H2,rfl,w,T,t0,f2,b,d,G1,rfl,x,sb,rJ,_,F⟩:=h2;refine ZFB hc cs hg gk A he w (x.k.trans hk) sb (r.mono x) T t0 f2 rJ F ?_;intro D C s' b' vs Ia hD l M ⟨m,Z⟩ P K;refine wpAny_assign_Name (ZEc Ia hN hy hx (v:=.ref D) rfl (λs'' B E=>?_) hf);obtain⟨a',q,p⟩:=E;have L:C≠a':=by
  rintro rfl;rcases p with rfl|p
  .exact absurd (zq w.lt l) (qZ _)
  .obtain⟨v,o,e',_⟩:=w.cell _ _ p;exact absurd (zq (zz e') l) (qZ _)
 refine⟨m,Z.sameBut q L,λh' O=>⟨_,_,letGo w B l ?_ O,?_⟩⟩
 .rw[Ag (Ne.symm M)];exact P
 .obtain⟨Y,d3,G3,e3,x3,s3,q3,_,h3⟩:=K;rw[<-e3];exact h3 Y _ (Ext.refl Y) s3 ((r.mono x3).set i q3)
end
def Gr:D->DH->R D
 |.int i,G=>.ok (.int (-i)) G
 |_,_=>.bad
noncomputable def Hb:D->Bool
 |.non=>ux
 |_=>uv
def K9:D->D->DH->R D
 |d,.non,G=>.ok (.bl (Hb d)) G
 |_,_,_=>.bad
def I7:D->D->DH->R D
 |d,.non,G=>.ok (.bl (!Hb d)) G
 |_,_,_=>.bad
noncomputable def Uh:D->Option V
 |.non=>uz .non
 |.bl b=>uz (.bl b)
 |.int i=>uz (.int i)
 |.str x=>uz (.str x)
 |_=>uj
def Oc:List D->Option (List V)
 |[]=>uz []
 |d::r=>match Uh d,Oc r with
  |some v,uz vs=>uz (v::vs)
  |_,_=>uj
def inD(d e:D)(G:DH):Option Bool:=match e with
 |.str j=>match d with
  |.str i=>uz (!(xh j i 0 j.length 1).isEmpty)
  |_=>uj
 |e=>match Bd e G,Uh d with
  |some xs,uz v=>(Oc xs).map λvs=>inV v vs
  |_,_=>uj
def Ml(d e:D)(G:DH):R D:=match inD d e G with
 |some k=>.ok (.bl (!k)) G
 |none=>.bad
section
variable{X:Cx}{E:XK}{a b:xz}{ta tb:DE}{pos:Pos}
theorem ZUY:UnR X (unaryOp .USub) (lR1 X.K E Gr):=λc s f H x v Q I g h=>by
 obtain⟨a,G,d,hk,rfl,j,e,q⟩:=h;cases d with
 |int i=>exact ZPv c s f a.H x v Q I g ⟨i,e,q a _ (Ext.refl a) j rfl⟩
 |_=>exact q.elim
theorem ZLx(ho:UnR X (unaryOp op) (lR1 X.K E f))(g:QE X E a ta):QE X E (.UnaryOp op a pos) (dUn f ta):=(ZVk ho g).mono λj H Q h=>by obtain⟨a,S,G,hk,rfl,s,r,h⟩:=h;refine⟨a,S,G,hk,rfl,s,r,(Dw h).imp ?_⟩;rintro v _ ⟨b,d,c,rfl,x,i,q,-,e⟩;exact⟨b,c,d,x.k.trans hk,rfl,i,q,e⟩
theorem ZTq(d:Gl X x)(f:X.mg x=uj)(e:xL x=uz (.type n))(c:x≠"__name__":=by decide)(g:(x==("__debug__":Str))=uv:=by decide):QE X E (.Name x pos) (dC (.ty n)):=
 (ZKc (v:=.ty n) d f e rfl c g).mono λi H Q h=>Lw h λ_ _=>rfl
theorem ZHl{a:Wd}(c:Rep a d x):decide (x=V.non)=Hb d:=by
 cases d with
 |non=>rw[c];rfl
 |bl _=>rw[c];rfl
 |int _=>rw[c];rfl
 |str _=>rw[c];rfl
 |ty _=>rw[c];rfl
 |tup _=>obtain⟨p,e,rfl,_⟩:=c;rfl
 |fl _=>obtain⟨p,e,rfl,_⟩:=c;rfl
 |ref _=>rw[c.2];rfl
theorem o_is:OpR X (xO .Is) (lR2 X.K E K9):=Fe ZOi λa G d e x y Q hk s c f q=>by
 cases e with
 |non=>exact⟨f,by rw[ZHl c];cases d<;>exact q a _ (Ext.refl a) s rfl⟩
 |_=>cases d<;>exact q.elim
theorem ZTR:OpR X (xO .IsNot) (lR2 X.K E I7):=Fe ZUd λa G d e x y Q hk s c f q=>by
 cases e with
 |non=>exact⟨f,by rw[ZHl c];cases d<;>exact q a _ (Ext.refl a) s rfl⟩
 |_=>cases d<;>exact q.elim
theorem ZF7{a:Wd}(r:Rep a d x)(h:Uh d=uz v):x=v/\Cq v=ux:=by
 cases d<;>first
  |(cases h;exact⟨r,rfl⟩)
  |cases h
theorem ZIi{a:Wd}:∀{c:List D}{xs vs:List V},Reps a c xs->Oc c=uz vs->xs=vs/\vs.all Cq=ux
 |[],xs,vs,r,h=>by cases h;exact⟨r,rfl⟩
 |d::c,xs,vs,r,h=>by
  obtain⟨x,o,rfl,i,j⟩:=r;unfold Oc at h;split at h
  .rename_i v n e g;cases h;obtain⟨f,k⟩:=ZF7 i e;obtain⟨l,m⟩:=ZIi j g;subst f;subst l;exact⟨rfl,by rw[qN,k,m];rfl⟩
  .cases h
theorem ZM6{a:Wd}(s:Sim a G)(c:Rep a d x)(f:Rep a e y)(h:inD d e G=uz k):
  (∃i j,x=.str i/\y=.str j/\k= !(xh j i 0 j.length 1).isEmpty)∨(∃p xs,y=.ref p/\(SqL a.K a.H p xs∨SqT a.K a.H p xs)/\Cq x=ux/\xs.all Cq=ux/\k=inV x xs):=by
 have seq:(match Bd e G,Uh d with |some xs,uz v=>(Oc xs).map λt=>inV v t|_,_=>uj)=uz k->(∃p xs,y=.ref p/\(SqL a.K a.H p xs∨SqT a.K a.H p xs)/\Cq x=ux/\xs.all Cq=ux/\k=inV x xs):=λh=>by
  split at h
  .rename_i xs v l n;obtain⟨p,g,m,q,r⟩:=Ie s f l;obtain⟨A,B⟩:=ZF7 c n;subst A;rw[zD]at h;obtain⟨C,u,w⟩:=h;obtain⟨o,z⟩:=ZIi r u;subst o;exact⟨p,g,m,q,B,z,w.symm⟩
  .cases h
 cases e with
 |str j=>
  cases d with
  |str i=>exact .inl ⟨i,j,c,f,(Option.some.inj h).symm⟩
  |_=>cases h
 |tup xs=>exact .inr (seq h)
 |fl xs=>exact .inr (seq h)
 |ref i=>exact .inr (seq h)
 |_=>exact .inr (seq h)
theorem ZMr:OpR X (xO .NotIn) (lR2 X.K E Ml):=Fe (ZPX.or ZOd) λa G d e x y Q hk s f l q=>by
 unfold Ml at q;split at q
 .rename_i k h;have z:=q a _ (Ext.refl a) s rfl;rcases ZM6 s f l h with⟨i,j,c,o,rfl⟩|⟨p,n,c,g,m,r,rfl⟩
  .exact .inl ⟨i,j,c,o,z⟩
  .exact .inr ⟨p,n,c,by rw[<-hk];exact g,m,r,z⟩
 .exact q.elim
end
theorem ZQ5:xL "isinstance"=uz (.builtin "isinstance"):=by decide +kernel
theorem ZQW:xL "all"=uz (.builtin "all"):=by decide +kernel
theorem ZLh:xL "max"=uz (.builtin "max"):=by decide +kernel
theorem ZNh:xL "min"=uz (.builtin "min"):=by decide +kernel
theorem ZVQ:xL "len"=uz (.builtin "len"):=by decide +kernel
theorem ZSC:xL "int"=uz (.type "int"):=by decide +kernel
theorem ZKh:xL "bool"=uz (.type "bool"):=by decide +kernel
theorem ZO9:xL "str"=uz (.type "str"):=by decide +kernel
theorem ZNE:xL "tuple"=uz (.type "tuple"):=by decide +kernel
theorem ZDo:xL "list"=uz (.type "list"):=by decide +kernel
noncomputable def Nr:xw->Bool | .local=>ux|_=>uv
noncomputable def Lj:xw->Bool | .cell=>ux|_=>uv
noncomputable def Lx:xw->Bool | .free=>ux|_=>uv
noncomputable def isK(p:xw->Bool):Option xw->Bool|some k=>p k|none=>uv
theorem ZTa(h:Nr k=ux):k=.local:=by cases k<;>first|rfl|cases h
theorem ZTB(h:Lj k=ux):k=.cell:=by cases k<;>first|rfl|cases h
theorem ZFH(h:Lx k=ux):k=.free:=by cases k<;>first|rfl|cases h
theorem Sy(hp:∀a,p a=ux->a=k)(h:isK p o=ux):o=uz k:=by
 cases o with
 |none=>cases h
 |some a=>rw[hp _ h]
def Rh(dn:List (Str×xw))(N0 N:List Str)(names:List (Str×xw))(nt:Nat)(caps:List Nat):Bool:=
 names.all (λy=>(!Nr y.2||isK Nr (names.lookup y.1)) && !Lj y.2&&(!Lx y.2||isK Lj (dn.lookup y.1)||isK Lx (dn.lookup y.1)))&&decide N.Nodup&&decide (N.length=nt+caps.length) &&
 (zX caps.length).all λk=>match caps[k]? with
  |some j=>match N0[j]? with
   |some x=>decide (N[nt+k]?=uz x)&&isK Lx (names.lookup x)
   |none=>uv
  |none=>ux
theorem ZE5{X:Cx}{N0 N:List Str}{a:xy}{nt:Nat}{caps:List Nat}{dn:List (Str×xw)}(hk:a.kind=.function:=by rfl)(f:∀x,X.env.kindOf x=dn.lookup x:=by intro _;rfl)(m:X.N=N0:=by rfl)
  (h:Rh dn N0 N a.names nt caps=ux:=by decide +kernel):CompSc X N a nt caps:=by
 unfold Rh at h;rw[z5,z5,z5]at h;obtain⟨⟨⟨g,n⟩,o⟩,l⟩:=h;rw[qY]at g l;have b:=λ(y:Str×xw)(c:y∈a.names)=>(by have:=g y c;rw[z5,z5]at this;exact this:((!Nr y.2||isK Nr (a.names.lookup y.1))=ux/\(!Lj y.2)=ux)/\(!Lx y.2||isK Lj (dn.lookup y.1)||isK Lx (dn.lookup y.1))=ux)
 refine⟨hk,λy c d=>?_,λy c d=>?_,λy c d=>?_,of_decide_eq_true n,of_decide_eq_true o,λk j i=>?_⟩
 .have:=(b y c).1.1;rw[d]at this;exact Sy (λ_ h=>ZTa h) (by have t:(uv||isK Nr (a.names.lookup y.1))=ux:=this;simpa using t)
 .have:=(b y c).1.2;rw[d]at this;exact absurd this (by decide)
 .have:=(b y c).2;rw[d,j5]at this;rw[f];rcases this with h|h
  .exact .inl (Sy (λ_ h=>ZTB h) (by have t:(uv||isK Lj (dn.lookup y.1))=ux:=h;simpa using t))
  .exact .inr (Sy (λ_ h=>ZFH h) h)
 .have:=l k (qK.mpr ((zC.mp i).1));rw[i]at this;dsimp only at this;cases e:N0[j]? with
  |none=>rw[e]at this;cases this
  |some x=>
   rw[e]at this;dsimp only at this;rw[z5]at this;exact⟨x,by rw[m];exact e,of_decide_eq_true this.1,Sy (λ_ h=>ZFH h) this.2⟩
section
section
variable{X:Cx}{vA:List (xY×Obj)}{σ:St}{H:Hp}{s:x0}
theorem ZKz(I:Inv X vA σ H s)(h:H p=uz (.lst xs)):∃o,Inv X vA σ (upd H p (.frz o (.lst xs))) s:=by
 obtain⟨j,a,n,r,e⟩:=I.hok p _ h;have f:∀b(u:HO),H b=uz u->u≠ .lst xs->b≠p:=λb u q d z=>by subst z;rw[h]at q;exact d (Option.some.inj q).symm
 refine⟨_,I.un (H':=upd H p (.frz {cls:=.type "list",data:=.seq a.toArray n} (.lst xs))) ⟨λb o q _ _ _=>q,λb o q _ _ _=>⟨o.slots,q⟩,λb o q z _=>?_,λb o q _=>⟨o,q⟩,λb i q=>?_,λb o u q=>?_,λb l q=>⟨#[],?_⟩⟩ ?_⟩
 .rw[Ag (λk=>by subst k;rw[h]at z;cases z)];exact z
 .rw[Ag (f b _ q (by intro z;cases z))];exact q
 .rw[Ag (f b _ q (by intro z;cases z))];exact q
 .rw[Ag (f b _ q (by intro z;cases z)),Array.append_empty];exact q
 .intro b u q;by_cases g:b=p
  .subst g;rw[Dy]at q;cases q;exact⟨e,j,a,n,r,e⟩
  .rw[Ag g]at q;exact(I.hok b u q).stay (λc v _ z=>z) (λc z=>by rw[Ag (f c _ z (by intro z;cases z))];exact z) λc i z=>by rw[Ag (f c _ z (by intro z;cases z))];exact z
def Fz(P:xY->Prop)(H H':Hp):Prop:=∀p,(H' p=H p/\(∀vs,H p=uz (.lst vs)->¬P p))∨∃o vs,P p/\H p=uz (.lst vs)/\H' p=uz (.frz o (.lst vs))
theorem ZH8(I:Inv X vA σ H s)(m:Nat->xY)(n:Nat):∀k:Nat,∃H',Inv X vA σ H' s/\Fz (λp=>∃i,n<=i/\i<n+k/\p=m i) H H'
 |0=>⟨H,I,λp=>.inl ⟨rfl,λ_ _ ⟨i,g,l,_⟩=>by lia⟩⟩
 | k + 1=>by
  obtain⟨H',r,F⟩:=ZH8 I m n k;have f:(∀a,H' (m (n+k))≠uz (.lst a))->Fz (λp=>∃i,n<=i/\i<n+(k+1)/\p=m i) H H':=λw p=>by
   rcases F p with⟨e,z⟩|⟨o,a,⟨i,g,l,d⟩,b,h⟩
   .refine .inl ⟨e,λa b ⟨i,g,l,d⟩=>?_⟩;by_cases q:i<n+k
    .exact z a b ⟨i,g,q,d⟩
    .have:i=n+k:=by lia
     subst this;subst d;exact w a (e.trans b)
   .exact .inr ⟨o,a,⟨i,g,by lia,d⟩,b,h⟩
  cases j:H' (m (n+k))with
  |none=>exact⟨H',r,f λa z=>by rw[j]at z;cases z⟩
  | some u=>
   cases u with
   | lst a=>
    obtain⟨o,v⟩:=ZKz r j;refine⟨_,v,λp=>?_⟩;by_cases hp:p=m (n+k)
    .subst hp;rcases F (m (n+k))with⟨e,z⟩|⟨t,c,_,b,h⟩
     .exact .inr ⟨o,a,⟨n+k,by lia,by lia,rfl⟩,e.symm.trans j,Dy⟩
     .rw[j]at h;cases h
    .rcases F p with⟨e,z⟩|⟨t,c,⟨i,g,l,d⟩,b,h⟩
     .refine .inl ⟨by rw[Ag hp];exact e,λc b ⟨i,g,l,d⟩=>?_⟩;by_cases q:i<n+k
      .exact z c b ⟨i,g,q,d⟩
      .have:i=n+k:=by lia
       subst this;exact hp d
     .exact .inr ⟨t,c,⟨i,g,by lia,d⟩,b,by rw[Ag hp];exact h⟩
   |_=>exact⟨H',r,f λa z=>by rw[j]at z;cases z⟩
end
noncomputable def Gu(f:D->Option D):List D->Option (List D)
 |[]=>uz []
 |d::r=>match f d,Gu f r with
  |some d',uz r'=>uz (d'::r')
  |_,_=>uj
def Cd(G:DH)(n:Nat):Nat->D->Option D
 |0,_=>uj
 | k+1,d=>if bel n d=ux then uz d else match d with
  |.ref i=>match G[i]? with
   |some (.lst xs)=>(Gu (Cd G n k) xs).map .fl
   |_=>uj
  |.tup xs=>(Gu (Cd G n k) xs).map .tup
  |.fl xs=>(Gu (Cd G n k) xs).map .fl
  |_=>uj
open Classical in
def freeze(G:DH)(r:R D):R D:=match r with
 | .ok d G'=>if G'.take G.length=G then(match Cd G' G.length 9 d with
   |some d'=>.ok d' G
   |none=>.ok d G')else .ok d G'
 |r=>r
def Aq(t:DE):DE:=λS G=>freeze G (t S G)
structure CutF (b c:Wd) (n:Nat):Prop where
 k:c.K=b.K
 n:c.n=n
 m:c.m=b.m
 tup:∀p xs,b.H p=uz (.tup xs)->c.H p=uz (.tup xs)
 frz:∀p o u,b.H p=uz (.frz o u)->c.H p=uz (.frz o u)
theorem CutF.sqT{b c:Wd}{n:Nat}(x:CutF b c n){p:xY}{xs:List V}(h:SqT b.K b.H p xs):SqT c.K c.H p xs:=by
 rcases h with(h|⟨o,h⟩)|h
 .exact .inl (.inl (x.tup _ _ h))
 .exact .inl (.inr ⟨o,x.frz _ _ _ h⟩)
 .exact .inr (by rw[x.k];exact h)
theorem CutF.fzL{b c:Wd}{n:Nat}(x:CutF b c n){p:xY}{xs:List V}(h:FzL b.K b.H p xs):FzL c.K c.H p xs:=by
 rcases h with⟨o,h⟩|⟨e,h⟩
 .exact .inl ⟨o,x.frz _ _ _ h⟩
 .exact .inr ⟨e,by rw[x.k];exact h⟩
mutual
theorem Rep.Gs(x:CutF b c n):∀{d:D}{v:V},Rep b d v->bel n d=ux->Rep c d v
 |.non,_,h,_=>h
 |.bl _,_,h,_=>h
 |.int _,_,h,_=>h
 |.str _,_,h,_=>h
 |.ty _,_,h,_=>h
 |.tup g,v,h,q=>by obtain⟨p,a,e,t,r⟩:=h;simp only[_D.bel]at q;exact⟨p,a,e,x.sqT t,Reps.Gs x r q⟩
 |.fl g,v,h,q=>by obtain⟨p,a,e,t,r⟩:=h;simp only[_D.bel]at q;exact⟨p,a,e,x.fzL t,Reps.Gs x r q⟩
 |.ref i,v,h,q=>by obtain⟨l,e⟩:=h;simp only[_D.bel]at q;have f:=of_decide_eq_true q;exact⟨by rw[x.n];exact f,by rw[x.m];exact e⟩
theorem Reps.Gs(x:CutF b c n):∀{ds:List D}{vs:List V},Reps b ds vs->bels n ds=ux->Reps c ds vs
 |[],_,h,_=>h
 |d::ds,vs,h,q=>by obtain⟨v,r,e,f,a⟩:=h;simp only[_D.bels,z5]at q;exact⟨v,r,e,Rep.Gs x f q.1,Reps.Gs x a q.2⟩
end
theorem V4(g:∀d d' v,f d=uz d'->Rep b d v->Rep c d' v):∀{ds a:List D}{vs:List V},Gu f ds=uz a->Reps b ds vs->Reps c a vs
 |[],a,vs,e,h=>by cases e;exact h
 |d::ds,a,vs,e,h=>by
  obtain⟨v,r,rfl,l,j⟩:=h;unfold Gu at e;split at e
  .rename_i d' m i k;cases e;exact⟨v,r,rfl,g _ _ _ i l,V4 g k j⟩
  .cases e
theorem ZFk(s:Sim b G')(x:CutF b c n)(hz:∀i,n<=i->i<b.n->∀vs,b.H (b.m i)=uz (.lst vs)->∃o,c.H (b.m i)=uz (.frz o (.lst vs))):∀(k:Nat)(d d':D)(v:V),Cd G' n k d=uz d'->Rep b d v->Rep c d' v
 |0,d,d',v,e,h=>by cases e
 | k + 1,d,d',v,e,h=>by
  have g:=ZFk s x hz k;unfold Cd at e;split at e
  .rename_i f;cases e;exact h.Gs x f
  .rename_i f;cases d with
   | ref i=>
    dsimp only at e;split at e
    .rename_i l z;rw[zD]at e;obtain⟨j,a,rfl⟩:=e;obtain⟨vs,y,w⟩:=s.obj i _ z;obtain⟨u,rfl⟩:=h;have q:n<=i:=by simp only[_D.bel,decide_eq_true_eq]at f;lia
     obtain⟨o,A⟩:=hz i q u vs y;exact⟨_,vs,rfl,.inl ⟨o,A⟩,V4 g a w⟩
    .cases e
   |tup l=>
    dsimp only at e;rw[zD]at e;obtain⟨j,a,rfl⟩:=e;obtain⟨p,vs,rfl,t,r⟩:=h;exact⟨p,vs,rfl,x.sqT t,V4 g a r⟩
   |fl l=>
    dsimp only at e;rw[zD]at e;obtain⟨j,a,rfl⟩:=e;obtain⟨p,vs,rfl,t,r⟩:=h;exact⟨p,vs,rfl,x.fzL t,V4 g a r⟩
   |_=>cases e
theorem ZGn{X:Cx}{vA:List (xY×Obj)}{Z:St}{sh:x0}{a b:Wd}{G O:DH}(s:Sim a G)(hG:O.take G.length=G)(x:Ext a b)(J:Sim b O)(I:Inv X vA Z b.H sh):
  ∃c:Wd,Inv X vA Z c.H sh/\Ext a c/\Sim c G/\CutF b c a.n/\∀(k:Nat)(d d':D)(v:V),Cd O G.length k d=uz d'->Rep b d v->Rep c d' v:=by
 have L:∀i o,G[i]?=uz o->O[i]?=uz o:=λi o e=>by have w:=(zC.mp e).1;rw[<-hG,j0 w]at e;exact e
 obtain⟨r,I',F⟩:=ZH8 I b.m a.n (b.n-a.n);have S:a.n+(b.n-a.n)=b.n:=by have:=x.n;lia
 rw[S]at F;have P:∀p(u:HO),(∀g,u≠ .lst g)->b.H p=uz u->r p=uz u:=λp u nu e=>by
  rcases F p with⟨f,_⟩|⟨o,g,_,f,_⟩
  .exact f.trans e
  .rw[e]at f;exact absurd (Option.some.inj f) (nu g)
 have l:∀p,TabOk b.H p->TabOk r p:=λp t=>t.mono (λp ps e=>P p _ (by intro _ z;cases z) e) λp o u e=>P p _ (by intro _ z;cases z) e
 have h:CutF b ⟨b.K,a.n,b.m,r⟩ a.n:=⟨rfl,rfl,rfl,λp U e=>P p _ (by intro _ z;cases z) e,λp o u e=>P p _ (by intro _ z;cases z) e⟩;have B:∀i,i<a.n->r (b.m i)=b.H (b.m i):=λi w=>by
  rcases F (b.m i)with⟨f,_⟩|⟨o,g,⟨j,h1,Q,h3⟩,f,M⟩
  .exact f
  .have:=J.inj i j (zq w x.n) Q h3;lia
 refine⟨⟨b.K,a.n,b.m,r⟩,I',⟨x.k,zY _,x.m,λp U e=>h.tup p U (x.tup p U e),λp o u e=>h.frz p o u (x.frz p o u e),λp t=>l p (x.tab p t)⟩,⟨s.len,λi j w hj=>J.inj i j (zq w x.n) (zq hj x.n),λi o e=>?_,λi w=>?_⟩,h,λk d d' v Y rb=>?_⟩
 .show ORep ⟨b.K,a.n,b.m,r⟩ o (r (b.m i));rw[B i (s.lt e)];have q:=J.obj i o (L i o e);have N:=(s.obj i o e).Ka;cases o with
  |lst ds=>obtain⟨g,f,y⟩:=q;exact⟨g,f,y.Gs h N⟩
  |dct kvs=>obtain⟨E,f,A,y⟩:=q;exact⟨E,f,A,y.Gs h N⟩
  |ins c fs=>obtain⟨C,T,E,W,f,A,y⟩:=q;exact⟨C,T,E,W,f,A,y.Gs h N⟩
  |tab C m=>obtain⟨c1,P1,f,t1⟩:=q;exact⟨c1,P1,f,l _ t1⟩
  |exc c fs=>
   obtain⟨C,oe,u,g,W,f,A,k2,z⟩:=q;refine⟨C,oe,u,g,W,f,A,k2,?_⟩;rcases z with z|⟨T,o,E,M,f2,k3,y⟩
   .exact .inl z
   .exact .inr ⟨T,o,E,M,h.frz _ _ _ f2,k3,y.Gs h N⟩
  |gone=>trivial
 .show r (b.m i)≠uj;rw[B i w];exact J.tr i (zq w x.n)
 .rw[s.len]at Y;refine ZFk J h (λi h1 Q g e=>?_) k d d' v Y rb;rcases F (b.m i)with⟨f,z⟩|⟨o,vs',_,f,M⟩
  .exact absurd ⟨i,h1,Q,rfl⟩ (z g e)
  .rw[e]at f;cases f;exact⟨o,M⟩
theorem ZSJ(s:Sim a G)(h:out E a (freeze G r) Q):
  out E a r λv H=>∀(vA:List (xY×Obj))(g:St)(j:x0),Inv X vA g H j->∃H',Inv X vA g H' j/\Q v H':=by
 cases r with
 |err e n=>exact h
 |bad=>exact h
 | ok d n=>
  intro b v x f i vA g j I;unfold freeze at h;dsimp only at h;split at h
  .rename_i m;split at h
   .rename_i t l;obtain⟨c,k,q,p,u,o⟩:=ZGn s m x f I;exact⟨c.H,k,h c v q p (o _ _ _ _ l i)⟩
   .exact⟨_,I,h b v x f i⟩
  .exact⟨_,I,h b v x f i⟩
theorem ZWC(k:QE X E e t):QE X E e (Aq t):=λb s d H Q I h=>by
 obtain⟨a,S,G,hk,rfl,c,r,h⟩:=h;refine thn (k b s d a.H _ I ⟨a,S,G,hk,rfl,c,r,ZSJ (X:=X) c h⟩) λu j ⟨v,m,g,rv,q⟩=>?_
 obtain⟨i,f,l⟩:=q b d j g;exact⟨v,i,f,rv,l⟩
theorem ZQ3 {X:Cx} {E:XK} {st:xA} {t:DE} {i:Nat} (Y:QS X E st (sAs t (gV i))):QS X E st (sAs (Aq t) (gV i)):=λg s o H W I h=>by
 obtain ⟨a,S,G,hk,rfl,J,r,h⟩:=h;have Q:Bm E a (sAs t (gV i) S G) {W with nx:=λo H=>∀(g:List (xY×Obj))(F:x0),Inv X g o H F->∃C,Inv X g o C F/\W.nx o C}:=by
  unfold sAs Aq at h;unfold sAs;cases B:t S G with
  |err e U=>rw[B]at h;exact h
  |bad=>rw[B]at h;exact h
  | ok d U=>
   rw[B]at h;intro b k x A n g F I;unfold freeze at h;dsimp only at h;split at h
   .rename_i hG;split at h
    .rename_i d' L;obtain⟨c,K,xc,N,cc,M⟩:=ZGn J hG x A I;refine⟨c.H,K,h c k xc N ⟨?_,λj e l=>?_⟩⟩
     .rw[jw,<-n.len,jw]
     .rw[qF]at l;by_cases m:i=j
      .subst m;rw[if_pos rfl]at l;by_cases y:i<S.length
       .rw[if_pos y]at l;have Z:d'=e:=by simpa using l
        subst Z;obtain⟨v,w,rv⟩:=n.get i d (by rw[qF,if_pos rfl,if_pos y]);exact⟨v,w,M _ _ _ _ L rv⟩
       .rw[if_neg y]at l;cases l
      .rw[if_neg m]at l;obtain⟨v,w,rv⟩:=n.get j e (by rw[qF,if_neg m];exact l);obtain⟨v',_,z⟩:=r.get j e l;exact⟨v,w,rv.Gs cc z.bel⟩
    .exact⟨_,I,h b k x A n⟩
   .exact⟨_,I,h b k x A n⟩
 refine thn (Y g s o a.H _ I ⟨a,S,G,hk,rfl,J,r,Q⟩) λf T p=>?_
 cases f with
 |next=>
  obtain⟨k,C,I',q⟩:=p;obtain⟨H2,P,O⟩:=q g T I';exact⟨k,H2,P,O⟩
 |brk=>exact p
 |cont=>exact p
 |ret u=>exact p
end
section
variable{S:DSt}{G:DH}
@[simp]theorem X6:dV i S G=(match S[i]? with |some (uz d)=>.ok d G|_=>.bad):=id rfl
@[simp]theorem ev_C:dC d S G=.ok d G:=id rfl
@[simp]theorem ev_Op:dOp f a b S G=(a S G).bind λx e=>(b S e).bind λy d=>f x y d:=id rfl
@[simp]theorem ev_Un:dUn f a S G=(a S G).bind f:=id rfl
@[simp]theorem ev_Nil:Bj S G=.ok [] G:=id rfl
@[simp]theorem ZWG:Ai a r S G=(a S G).bind λx d=>(r S d).bind λxs b=>.ok (x::xs) b:=id rfl
@[simp]theorem ev_Fn:dFn f t S G=(t S G).bind f:=id rfl
@[simp]theorem ZWN:Ci t S G=tidy G (t S G):=id rfl
@[simp]theorem ev_Frz:Aq t S G=freeze G (t S G):=id rfl
@[simp]theorem ev_asB:asB (.bl k) G=.ok k G:=id rfl
@[simp]theorem ev_Tst:Ay t S G=(t S G).bind asB:=id rfl
@[simp]theorem ev_And:Jp t u S G=(t S G).bind λk a=>if k=ux then u S a else .ok uv a:=id rfl
@[simp]theorem ev_Or:dOr t u S G=(t S G).bind λk a=>if k=ux then .ok ux a else u S a:=id rfl
@[simp]theorem ev_Not:Gw t S G=(t S G).bind λk a=>.ok (!k) a:=id rfl
@[simp]theorem ZXE:Ho t u S G=(t S G).bind λx b=>(asB x b).bind λk a=>if k=ux then u S a else .ok (.bl uv) a:=id rfl
@[simp]theorem ev_OrV:S7 t u S G=(t S G).bind λx b=>(asB x b).bind λk a=>if k=ux then .ok (.bl ux) a else u S a:=id rfl
@[simp]theorem ZW5:Th t S G=(t S G).bind λx b=>(asB x b).bind λk a=>.ok (.bl (!k)) a:=id rfl
@[simp]theorem ev_If:dIf c t u S G=(c S G).bind λk a=>if k=ux then t S a else u S a:=id rfl
@[simp]theorem ZWn:K5 f g a b c S G=(a S G).bind λx e=>(b S e).bind λy m=>(f x y m).bind λz h=>(asB z h).bind λk d=>
 if k=ux then(c S d).bind λw o=>g y w o else .ok (.bl uv) d:=id rfl
@[simp]theorem ev_sNx:sNx S G=.nx S G:=id rfl
noncomputable def SR.then(u:DS)(_:Fx u:=())(r:SR):SR:=match r with
 |.nx S1 G1=>u S1 G1
 |r=>r
@[simp]theorem Pu:Ac t u S G=(t S G).then u:=id rfl
@[simp]theorem Vo:(SR.nx S G).then u=u S G:=id rfl
@[simp]theorem ZWi:(SR.rt d G).then u=.rt d G:=id rfl
@[simp]theorem ZXF:(SR.err x G).then u=.err x G:=id rfl
@[simp]theorem ev_sEx:sEx t S G=(t S G).toS λ_ a=>.nx S a:=id rfl
@[simp]theorem ev_sRt:sRt t S G=(t S G).toS λd a=>.rt d a:=id rfl
@[simp]theorem ev_sIf:sIf c t u S G=(c S G).toS λk a=>if k=ux then t S a else u S a:=id rfl
@[simp]theorem ev_sAs:sAs t g S G=(t S G).toS λd b=>(g d S b).toS λe a=>.nx e a:=id rfl
@[simp]theorem ev_sAu:sAu i t f S G=(match S[i]? with
 |some (uz x)=>(t S G).toS λy b=>(f x y b).toS λz a=>.nx (S.set i (uz z)) a
 |_=>.bad):=id rfl
@[simp]theorem ZWs:Bu it g b S G=(it S G).toS λJ a=>(match J with
 |.pure xs=>Av g b xs S a
 |.mt i=>match a[i]? with
  |some (.lst xs)=>forM i g b xs.length 0 S a
  |_=>.bad
 |.fn n f=>Cr f g b n 0 S a):=id rfl
@[simp]theorem ZSW:Ds t S G=(t S G).bind Fo:=id rfl
@[simp]theorem ZWM:Bf f t S G=(t S G).bind f:=id rfl
@[simp]theorem Ce:gV i d S G=.ok (S.set i (uz d)) G:=id rfl
@[simp]theorem Nt:Ak [] S G=.ok S G:=id rfl
@[simp]theorem Lr:Aa t u (d::r) S G=(t d S G).bind λb a=>u r b a:=id rfl
@[simp]theorem Np:Ah n t (.tup ds) S G=if ds.length=n then t ds S G else .bad:=id rfl
@[simp]theorem ev_gIx:gIx o i v S G=(o S G).bind λo b=>(i S b).bind λi a=>(K4 o i v a).bind λ_ d=>.ok S d:=id rfl
@[simp]theorem ev_MtL:Cw f o t S G=(o S G).bind λx a=>if isL x a=ux then(t S a).bind λxs b=>f x xs b else .bad:=id rfl
@[simp]theorem ZSV:Bx it nt caps g c te S G=(it S G).bind λJ a=>(match J with
 |.pure xs=>Cm g c te (Aw nt caps S) xs a
 |.mt i=>match a[i]? with
  |some (.lst xs)=>Ff i g c te (Aw nt caps S) xs.length 0 a
  |_=>.bad
 |.fn n f=>Cp f g c te (Aw nt caps S) n 0 a).bind Ae:=id rfl
@[simp]theorem ZE4:Bb S G=.ok ux G:=id rfl
@[simp]theorem Ck:aft (.nx S G) k=k S G:=id rfl
@[simp]theorem aft_rt:aft (.rt d G) k=.rt d G:=id rfl
@[simp]theorem ZVS:aft (.err x G) k=.err x G:=id rfl
theorem Cv:Av g b [] S G=.nx S G:=id rfl
theorem Br:Av g b (x::xs) S G=(g x S G).toS λd a=>aft (b d a) (Av g b xs):=id rfl
theorem Wn:Cm g c te S (x::xs) G=(g x S G).bind λb e=>(c b e).bind λk a=>
   if k=ux then(te b a).bind λd f=>(Cm g c te S xs f).bind λh m=>.ok (d::h) m else Cm g c te S xs a:=id rfl
noncomputable def SR.ret(r:SR):R D:=match r with
 |.nx _ G'=>.ok .non G'
 |.rt d G'=>.ok d G'
 |.err x G'=>.err x G'
 |_=>.bad
@[simp]theorem ZL1:(SR.nx S G).ret=.ok .non G:=id rfl
@[simp]theorem ret_rt:(SR.rt d G).ret=.ok d G:=id rfl
@[simp]theorem ZXA:(SR.err x G).ret=.err x G:=id rfl
theorem Aj:Al np nl b ds G=if ds.length=np then tidy G (b (ds.map uz++zZ nl uj) G).ret else .bad:=id rfl
end
section
variable{n:Nat}{G:DH}
@[simp]theorem ZWx:bel n .non=ux:=by simp[_D.bel]
@[simp]theorem bel_bl:bel n (.bl b)=ux:=by simp[_D.bel]
@[simp]theorem ZUt:bel n (.int b)=ux:=by simp[_D.bel]
@[simp]theorem ZW8:bel n (.str b)=ux:=by simp[_D.bel]
@[simp]theorem ZWa:bel n (.tup b)=bels n b:=by simp[_D.bel]
@[simp]theorem bel_fl:bel n (.fl b)=bels n b:=by simp[_D.bel]
@[simp]theorem ZWt:bel n (.ref b)=decide (b<n):=by simp[_D.bel]
@[simp]theorem ZXH:bels n []=ux:=by simp[_D.bels]
@[simp]theorem ZOB:bels n (d::ds)=(bel n d&&bels n ds):=by simp[_D.bels]
theorem ZN9:bels n ds=ux↔∀d∈ds,bel n d=ux:=by
 induction ds with
 |nil=>simp
 |cons d ds a=>simp[a]
@[simp]theorem ZKf:bels n (ds++es)=(bels n ds&&bels n es):=by
 induction ds with
 |nil=>simp
 |cons d ds a=>simp[a,Bool.and_assoc]
theorem Dt{a:Type}{f:a->D}{xs:List a}(h:∀x∈xs,bel n (f x)=ux):bels n (xs.map f)=ux:=by rw[ZN9];intro d b;obtain⟨x,e,rfl⟩:=zA.mp b;exact h x e
@[simp]theorem ZIM{xs:List Int}:bels n (xs.map D.int)=ux:=Dt λ_ _=>ZUt
theorem Ba(h:bel G.length d=ux):tidy G (.ok d G)=.ok d G:=by unfold tidy;simp[h]
theorem I8(h:bel G.length d=ux):tidy G (.ok d (G++L))=.ok d G:=by unfold tidy;simp[h]
theorem ZAl(L:DH)(hk:L[k]?=uz (.lst ds))(h:bels G.length ds=ux):tidy G (.ok (.ref (G.length+k)) (G++L))=.ok (.ref G.length) (G++[.lst ds]):=by
 unfold tidy;have e:(G++L)[G.length+k]?=uz (.lst ds):=by rw[z9 (by lia)];simpa using hk
 simp[e,Ka,h]
theorem Dk{a:List D}{L:DH}(h:bels G.length a=ux):tidy G (.ok (.ref G.length) (G++ .lst a::L))=.ok (.ref G.length) (G++[.lst a]):=ZAl (.lst a::L) (k:=0) rfl h
@[simp]theorem ZW4:tidy G (.err x G')=.err x G':=id rfl
theorem Gk(h:bel G.length d=ux):freeze G (.ok d G)=.ok d G:=by unfold freeze;simp[h,Cd]
theorem Nv{n:Nat}:∀{a:List D},bels n a=ux->Gu (Cd G' n (k+1)) a=uz a
 |[],_=>rfl
 |d::a,h=>by simp only[ZOB,z5]at h;unfold Gu;rw[Nv h.2];simp[Cd,h.1]
theorem ZQj(L:DH)(hk:L[k]?=uz (.lst ds))(h:bels G.length ds=ux):freeze G (.ok (.ref (G.length+k)) (G++L))=.ok (.fl ds) G:=by
 unfold freeze;have e:(G++L)[G.length+k]?=uz (.lst ds):=by rw[z9 (by lia)];simpa using hk
 have m:Cd (G++L) G.length 9 (.ref (G.length+k))=uz (.fl ds):=by unfold Cd;simp[e,Nv h]
 simp[m]
theorem Cz{a:List D}{L:DH}(h:bels G.length a=ux):freeze G (.ok (.ref G.length) (G++ .lst a::L))=.ok (.fl a) G:=ZQj (.lst a::L) (k:=0) rfl h
theorem Qm(L:DH)(k:Nat):(G++L)[G.length+k]?=L[k]? :=by rw[z9 (by lia)];simp
theorem Bs(L:DH):(G++L)[G.length]?=L[0]? :=Qm L 0
theorem Uq(L:DH)(k:Nat)(o:DO):(G++L).set (G.length+k) o=G++L.set k o:=by rw[jO _ _ (by lia)];simp
theorem Dp(L:DH)(o:DO):(G++L).set G.length o=G++L.set 0 o:=Uq L 0 o
theorem Ib{a:Int}:Bg a 0=[]:=id rfl
theorem Gj{a:Int}{n:Nat}:Bg a (n+1)=.int a::Bg (a+1) n:=by
 unfold Bg;rw[qE,zk,jK]
 congr 1
 .simp
 .apply qC;intro k _;simp only[Function.comp]
  congr 1
  lia
end
section
variable{G:DH}{i j:Int}{x y:Str}{k l:Bool}
@[simp]theorem ev_add:Hw (.int i) (.int j) G=.ok (.int (i+j)) G:=id rfl
@[simp]theorem ev_ip:Jf (.int i) (.int j) G=.ok (.int (i+j)) G:=id rfl
@[simp]theorem ev_sub:M9 (.int i) (.int j) G=.ok (.int (i-j)) G:=id rfl
theorem log2_small(h:n<10^100):n.log2<9000:=by
 by_cases a:n=0
 .subst a;decide
 .rw[Nat.log2_lt a];exact Nat.lt_trans h (by decide)
@[simp]theorem ZXJ{n:Nat}[NeZero n](h:n<10^100):Mt (.int i) (.int (no_index (OfNat.ofNat n))) G=.ok (.int (i/OfNat.ofNat n)) G:=
 if_pos ⟨Int.ofNat_lt.mpr (Nat.pos_of_ne_zero (NeZero.ne n)),log2_small h⟩
@[simp]theorem ev_mod:Hy (.int i) (.int j) G=if 0<j then .ok (.int (i%j)) G else .bad:=id rfl
@[simp]theorem ev_pow:Ny (.int i) (.int j) G=if 0<=j/\j<=1000000/\i.natAbs<18446744073709551616 then .ok (.int (i^j.toNat)) G else .bad:=id rfl
@[simp]theorem ev_lt:Kf (.int i) (.int j) G=.ok (.bl (decide (i<j))) G:=id rfl
@[simp]theorem ev_le:J0 (.int i) (.int j) G=.ok (.bl (decide (i<=j))) G:=id rfl
@[simp]theorem ev_gt:Mx (.int i) (.int j) G=.ok (.bl (decide (j<i))) G:=id rfl
@[simp]theorem ev_ge:U8 (.int i) (.int j) G=.ok (.bl (decide (j<=i))) G:=id rfl
@[simp]theorem ev_eq:Fi (.int i) (.int j) G=.ok (.bl (decide (i=j))) G:=id rfl
@[simp]theorem ev_ne:Ef (.int i) (.int j) G=.ok (.bl (!decide (i=j))) G:=id rfl
@[simp]theorem ev_eqS:Fi (.str x) (.str y) G=.ok (.bl (decide (x=y))) G:=id rfl
@[simp]theorem ev_neS:Ef (.str x) (.str y) G=.ok (.bl (!decide (x=y))) G:=id rfl
@[simp]theorem ev_neg:Gr (.int i) G=.ok (.int (-i)) G:=id rfl
@[simp]theorem ev_is:K9 d .non G=.ok (.bl (Hb d)) G:=by cases d<;>exact id rfl
@[simp]theorem ZWo:I7 d .non G=.ok (.bl (!Hb d)) G:=by cases d<;>exact id rfl
@[simp]theorem ZWp:Hb .non=ux:=id rfl
@[simp]theorem ZWf:Hb (.int i)=uv:=id rfl
@[simp]theorem ZWu:Hb (.tup ds)=uv:=id rfl
@[simp]theorem ev_max:R0 [.int i,.int j] G=.ok (.int (max i j)) G:=by
 show R.ok (D.int (if j>i then j else i)) G=_
 congr 2
 split <;> lia
@[simp]theorem ev_min:Jq [.int i,.int j] G=.ok (.int (min i j)) G:=by
 show R.ok (D.int (if j<i then j else i)) G=_
 congr 2
 split <;> lia
@[simp]theorem ZWg:Bd (.tup ds) G=uz ds:=id rfl
@[simp]theorem ZWw:Bd (.fl ds) G=uz ds:=id rfl
@[simp]theorem ZBp:Bd (.ref n) G=(match G[n]? with |some (.lst xs)=>uz xs|_=>uj):=id rfl
@[simp]theorem ZWF:Ax [.tup ds] G=.ok (.int ds.length) G:=id rfl
@[simp]theorem ZW9:Ax [.fl ds] G=.ok (.int ds.length) G:=id rfl
@[simp]theorem ZWY:Ax [.ref n] G=(match G[n]? with |some (.lst xs)=>.ok (.int xs.length) G|_=>.bad):=by
 unfold Ax;simp only[ZBp];cases G[n]? with
 |none=>rfl
 |some o=>cases o<;>rfl
@[simp]theorem ev_ixT:Bk (.tup ds) (.int i) G=(match atI ds i with |some v=>.ok v G|none=>.bad):=id rfl
@[simp]theorem ev_ixF:Bk (.fl ds) (.int i) G=(match atI ds i with |some v=>.ok v G|none=>.bad):=id rfl
@[simp]theorem ev_ixR:Bk (.ref n) (.int i) G=(match G[n]? with |some (.lst xs)=>(match atI xs i with |some v=>.ok v G|none=>.bad)|_=>.bad):=by
 unfold Bk;simp only[ZBp];cases G[n]? with
 |none=>rfl
 |some o=>cases o<;>rfl
theorem Gm{n k:Nat}(h:k<n):ixN n (k:Int)=uz k:=by unfold ixN;rw[if_pos (by lia),if_pos (by lia)];simp
theorem ZUZ{a:Type}{xs:List a}{k:Nat}{d:a}(h:xs[k]?=uz d):atI xs (k:Int)=uz d:=by unfold atI;rw[Gm (zC.mp h).1];exact h
theorem Dj{a:Type}{xs:List a}{j:Int}{k:Nat}{d:a}(e:j=k)(h:xs[k]?=uz d):atI xs j=uz d:=by subst e;exact ZUZ h
theorem ZFT{a:Type}{xs:List a}{j:Int}(b:j<0)(h: -(xs.length:Int)<=j):atI xs j=uz (xs[(j+xs.length).toNat]'(by lia)):=by unfold atI ixN;rw[if_neg (by lia),if_pos h];exact zJ (by lia)
@[simp]theorem atI_0{b:Type}{a:b}{xs:List b}:atI (a::xs) 0=uz a:=Dj rfl rfl
@[simp]theorem atI_1{d:Type}{a b:d}{xs:List d}:atI (a::b::xs) 1=uz b:=Dj rfl rfl
@[simp]theorem atI_2{d:Type}{a b c:d}{xs:List d}:atI (a::b::c::xs) 2=uz c:=Dj rfl rfl
@[simp]theorem atI_3{e:Type}{a b c d:e}{xs:List e}:atI (a::b::c::d::xs) 3=uz d:=Dj rfl rfl
@[simp]theorem atI_4{f:Type}{a b c d e:f}{xs:List f}:atI (a::b::c::d::e::xs) 4=uz e:=Dj rfl rfl
@[simp]theorem atI_5{g:Type}{a b c d e f:g}{xs:List g}:atI (a::b::c::d::e::f::xs) 5=uz f:=Dj rfl rfl
@[simp]theorem atI_6{h:Type}{a b c d e f g:h}{xs:List h}:atI (a::b::c::d::e::f::g::xs) 6=uz g:=Dj rfl rfl
@[simp]theorem ZWz:Am ds G=if ds.length<=1000000 then .ok (.tup ds) G else .bad:=id rfl
@[simp]theorem ZWk:Ae ds G=if ds.length<=1000000 then .ok (.ref G.length) (G++[.lst ds])else .bad:=id rfl
@[simp]theorem ZWj:Dr [.fl ds] G=.ok (.tup ds) G:=id rfl
@[simp]theorem ZWr:Dr [.ref n] G=(match G[n]? with |some (.lst xs)=>.ok (.tup xs) G|_=>.bad):=by
 unfold Dr;simp only[ZBp];cases G[n]? with
 |none=>rfl
 |some o=>cases o<;>rfl
@[simp]theorem ev_itT:Fo (.tup ds) G=.ok (.pure ds) G:=id rfl
@[simp]theorem ev_itF:Fo (.fl ds) G=.ok (.pure ds) G:=id rfl
@[simp]theorem ZXB:rng1 [.int j] G=if inR j then .ok (.pure (Bg 0 j.toNat)) G else .bad:=id rfl
theorem Er(a: -1000000000<=i)(h:i<=1000000000):inR i:=⟨by lia,by lia⟩
@[simp]theorem ZWV:isL (.fl ds) G=ux:=id rfl
@[simp]theorem ZW2:isL (.ref n) G=(match G[n]? with |some (.lst _)=>ux|_=>uv):=id rfl
@[simp]theorem ev_app:Do (.ref n) [d] G=(match G[n]? with |some (.lst xs)=>if xs.length<1000000 then .ok .non (G.set n (.lst (xs++[d])))else .bad|_=>.bad):=id rfl
@[simp]theorem ZWq:K4 (.ref n) (.int i) d G=(match G[n]? with |some (.lst xs)=>(match ixN xs.length i with |some j=>.ok .non (G.set n (.lst (xs.set j d)))|none=>.bad)|_=>.bad):=id rfl
@[simp]theorem ev_all{ks:List Bool}:Lg [.fl (ks.map D.bl)] G=.ok (.bl (ks.all id)) G:=by simp[Lg]
@[simp]theorem ZWU:Eh [d,.ty "int"] G=(match tyD G d with |some .int=>.ok (.bl ux) G|some .bl=>.ok (.bl ux) G|some _=>.ok (.bl uv) G|none=>.bad):=by
 unfold Eh;dsimp only;cases tyD G d with
 |none=>rfl
 |some t=>cases t<;>rfl
@[simp]theorem ZXD:Eh [d,.ty "bool"] G=(match tyD G d with |some .bl=>.ok (.bl ux) G|some _=>.ok (.bl uv) G|none=>.bad):=by
 unfold Eh;dsimp only;cases tyD G d with
 |none=>rfl
 |some t=>cases t<;>rfl
@[simp]theorem ZWP:Eh [d,.ty "tuple"] G=(match tyD G d with |some .tup=>.ok (.bl ux) G|some _=>.ok (.bl uv) G|none=>.bad):=by
 unfold Eh;dsimp only;cases tyD G d with
 |none=>rfl
 |some t=>cases t<;>rfl
@[simp]theorem ZWK:Eh [d,.ty "str"] G=(match tyD G d with |some .str=>.ok (.bl ux) G|some _=>.ok (.bl uv) G|none=>.bad):=by
 unfold Eh;dsimp only;cases tyD G d with
 |none=>rfl
 |some t=>cases t<;>rfl
end
section
variable{c:Prop}[Decidable c]
end
noncomputable def Ga(kvs:List (Key×D))(k:Key):Option D:=(kvs.find? λkv=>decide (kv.1=k)).map (·.2)
def putD(kvs:List (Key×D))(k:Key)(v:D):List (Key×D):=
 if(kvs.any λkv=>decide (kv.1=k))=ux then kvs.map (λkv=>if kv.1=k then(kv.1,v)else kv)else kvs++[(k,v)]
def Du:D->Option Key
 |.int i=>uz (.inl i)
 |.str x=>uz (.inr x)
 |_=>uj
noncomputable def R1(d:D)(G:DH):Option (List (Key×D)):=match d with
 |.ref i=>match G[i]? with
  |some (.dct kvs)=>uz kvs
  |_=>uj
 |_=>uj
theorem ZSG(r:Rep a d x)(h:Du d=uz k):x=kV k:=by
 cases d<;>first
  |(cases h;exact r)
  |cases h
theorem RepKV.nil:RepKV a [] []:=⟨rfl,rfl⟩
theorem RepKV.cons(h:RepKV a ((k,d)::kvs) us):∃v r,us=(k,v)::r/\Rep a d v/\RepKV a kvs r:=by
 obtain⟨b,v,r,c,f,e⟩:=h;cases us with
 |nil=>cases c
 |cons p us=>
  obtain⟨q,w⟩:=p;simp only[zk,List.cons.injEq]at b c;obtain⟨rfl,b⟩:=b;obtain⟨rfl,rfl⟩:=c;exact⟨w,us,rfl,f,b,e⟩
theorem RepKV.mk(h:Rep a d v)(r:RepKV a kvs us):RepKV a ((k,d)::kvs) ((k,v)::us):=
 ⟨by simp only[zk,r.1],Reps.cons h r.2⟩
theorem RepKV.val:∀{b:List (Key×D)}{us:List (Key×V)},RepKV a b us->(Ga b k=uj/\Fb us k=uj)∨∃d v,Ga b k=uz d/\Fb us k=uz v/\Rep a d v
 |[],us,h=>by obtain⟨c,_⟩:=h;have:=j1.mp c.symm;subst this;exact .inl ⟨rfl,rfl⟩
 | (q,d)::b,us,h=>by
  obtain⟨v,r,rfl,c,i⟩:=RepKV.cons h;by_cases e:q=k
  .exact .inr ⟨d,v,by simp[Ga,e],by simp[Fb,e],c⟩
  .rcases RepKV.val i with⟨f,g⟩|⟨l,m,f,g,j⟩
   .exact .inl ⟨by simpa[Ga,qD,e]using f,by simpa[Fb,qD,e]using g⟩
   .exact .inr ⟨l,m,by simpa[Ga,qD,e]using f,by simpa[Fb,qD,e]using g,j⟩
theorem RepKV.any:∀{b:List (Key×D)}{us:List (Key×V)},RepKV a b us->(b.any λc=>decide (c.1=k))=us.any λc=>decide (c.1=k)
 |[],us,h=>by
  obtain⟨e,_⟩:=h;have:=j1.mp e.symm;subst this
  rfl
 |(q,d)::b,us,h=>by obtain⟨v,r,rfl,e,f⟩:=RepKV.cons h;simp only[j4,RepKV.any f]
theorem RepKV.repl(i:Rep a d v):∀{b:List (Key×D)}{us:List (Key×V)},RepKV a b us->RepKV a (b.map λc=>if c.1=k then(c.1,d)else c) (us.map λc=>if c.1=k then(c.1,v)else c)
 |[],us,h=>by obtain⟨g,_⟩:=h;have:=j1.mp g.symm;subst this;exact RepKV.nil
 |(q,e)::b,us,h=>by
  obtain⟨w,r,rfl,g,j⟩:=RepKV.cons h;simp only[zk];by_cases f:q=k
  .rw[if_pos f,if_pos f];exact RepKV.mk i (RepKV.repl i j)
  .rw[if_neg f,if_neg f];exact RepKV.mk g (RepKV.repl i j)
theorem RepKV.put(h:RepKV a kvs us)(b:Rep a d v):RepKV a (putD kvs k d) (putK us k v):=by
 unfold putD putK;rw[RepKV.any h];split
 .exact RepKV.repl b h
 .exact⟨by simp[h.1],by have:=Reps.append h.2 (Reps.cons b (Reps.nil));simpa using this⟩
theorem Sim.dct(s:Sim a G)(r:Rep a d x)(h:R1 d G=uz kvs):∃i us,d=.ref i/\i<a.n/\x=.ref (a.m i)/\G[i]?=uz (.dct kvs)/\a.H (a.m i)=uz (.dK us)/\RepKV a kvs us:=by
 cases d with
 |ref i=>
  unfold R1 at h;dsimp only at h;split at h
  .rename_i f b;cases h;obtain⟨us,e,c⟩:=s.obj i _ b;exact⟨i,us,rfl,r.1,r.2,b,e,c⟩
  .cases h
 |_=>cases h
def J7(d e:D)(G:DH):R D:=match R1 d G,Du e with
 |some kvs,uz k=>match Ga kvs k with
  |some v=>.ok v G
  |none=>.bad
 |none,_=>Bk d e G
 |_,_=>.bad
section
variable{X:Cx}{E:XK}
theorem ZQ8(hu:X.A.units+64<cLine):IxR X (λx y H Q=>∃a v,x=.ref a/\DGet H a y (uz v)/\Q v H):=by
 intro value slice vA s σ H x y v u Q I rx ry h hs;obtain⟨a,w,rfl,g,q⟩:=h;obtain rfl:v=Value.ref a:=rx;have hT:=ZUI I g;unfold subscriptTail;refine vY ?_;rw[getitemInPython_of_ne hT.not_modules];refine vY (wpAny_specialOf hT PySem.F.slot_dict_getitem.lookup ?_);have fin:vW (xU X.prog X.w) X.A (subscripted slice uv (.ref a) u) (λr s₃=>vW (xU X.prog X.w) X.A (letTemporaryGo value (.ref a) r >>=λ_=>pure r) (EP X vA σ Q) X.xe s₃) X.xe s:=by
  rw[hs];exact wpAny_operating (ZQG (by lia) I g ry λw' s3 I3 rw'=>vY (wpAny_letTemporaryGo (v4 ⟨w,H,I3,rw',q⟩)))
 first
  |exact v4 (vY fin)
  |exact vY (v4 (vY fin))
  |exact vY fin
theorem ZUx(s:Sim a G)(f:Rep a d x)(q:Rep a e y)(h:R1 d G=uz kvs)(l:Du e=uz k):
  ∃p,x=.ref p/\((Ga kvs k=uj/\DGet a.H p y uj)∨∃v w,Ga kvs k=uz v/\Rep a v w/\DGet a.H p y (uz w)):=by
 obtain⟨i,u,rfl,A,rfl,z,t,r⟩:=s.dct f h;have j:=ZSG q l;subst j;refine⟨a.m i,rfl,?_⟩;have g:=DGet.k (k:=k) t;rcases r.val with⟨b,c⟩|⟨v,w,b,c,o⟩
 .exact .inl ⟨b,by rw[c]at g;exact g⟩
 .exact .inr ⟨v,w,b,o,by rw[c]at g;exact g⟩
theorem ZNx(l:X.A.units+64<cLine):IxR X (lR2 X.K E J7):=(i_ix.or (ZQ8 l)).mono λx y H Q h=>by
 obtain⟨a,G,d,e,hk,rfl,s,c,f,q⟩:=h;unfold J7 at q;split at q
 .rename_i i k j m;obtain⟨p,rfl,⟨b,_⟩|⟨v,w,b,o,g⟩⟩:=ZUx s c f j m
  .rw[b]at q;exact q.elim
  .rw[b]at q;exact .inr ⟨p,w,rfl,g,q a w (Ext.refl a) s o⟩
 .exact .inl ⟨a,G,d,e,hk,rfl,s,c,f,q⟩
 .exact q.elim
theorem Ext.wrD(h:a.H p=uz (.dK us)):Ext a (a.put p ho):=
 ⟨rfl,zY _,λ_ _=>rfl,λq c e=>by
  show upd a.H p ho q=_;rw[Ag (λz=>by subst z;rw[h]at e;cases e)];exact e,λq o u e=>by
  show upd a.H p ho q=_;rw[Ag (λz=>by subst z;rw[h]at e;cases e)];exact e,λ_ t=>t.mono (λq b e=>by show upd a.H p ho q=_;rw[Ag (λz=>by subst z;rw[h]at e;cases e)];exact e) (λq o u e=>by show upd a.H p ho q=_;rw[Ag (λz=>by subst z;rw[h]at e;cases e)];exact e)⟩
theorem Sim.wrD(s:Sim a G)(c:i<a.n)(h:a.H (a.m i)=uz (.dK us))(r:RepKV (a.put (a.m i) (.dK us')) kvs' us'):Sim (a.put (a.m i) (.dK us')) (G.set i (.dct kvs')):=by
 refine⟨by rw[jw];exact s.len,s.inj,λj o e=>?_,λj d=>?_⟩
 .rw[qF]at e;show ORep _ o (upd a.H (a.m i) (.dK us') (a.m j));by_cases b:i=j
  .subst b;rw[if_pos rfl,if_pos (by rw[s.len];exact c)]at e;cases e;rw[Dy];exact⟨us',rfl,r⟩
  .rw[if_neg b]at e;rw[Ag λz=>b (s.inj _ _ (s.lt e) c z).symm];exact(s.obj j o e).mono (Ext.wrD h)
 .show upd a.H (a.m i) (.dK us') (a.m j)≠uj;by_cases b:a.m j=a.m i
  .rw[b,Dy];simp
  .rw[Ag b];exact s.tr j d
end
section
variable{S:DSt}{G:DH}{n:Nat}{kvs:List (Key×D)}
@[simp]theorem ZWI:R1 (.ref n) G=(match G[n]? with |some (.dct a)=>uz a|_=>uj):=id rfl
theorem ZNW(h:G[n]?=uz (.dct kvs))(hk:Du e=uz k):J7 (.ref n) e G=(match Ga kvs k with |some v=>.ok v G|none=>.bad):=by unfold J7;simp[h,hk]
end
section
noncomputable def okD:Nat->D->Bool
 |0,_=>uv
 |_+1,.non=>ux
 |_+1,.int _=>ux
 |_+1,.str _=>ux
 |n+1,.tup ds=>ds.all (okD n)
 |n+1,.fl ds=>ds.all (okD n)
 |_+1,_=>uv
theorem ZCA{f:D->D->Option Bool}{P:D->Prop}(e:∀x y,P x->P y->∃b,f x y=uz b/\(b=ux↔x=y)):∀{xs ys:List D},(∀x∈xs,P x)->(∀y∈ys,P y)->
  ∃b,eqZ f xs ys=uz b/\(b=ux↔xs.take ys.length=ys.take xs.length)
 |[],ys,_,_=>⟨ux,by cases ys<;>rfl,by simp⟩
 |x::xs,[],_,_=>⟨ux,rfl,by simp⟩
 |x::xs,y::ys,g,d=>by obtain⟨b,i,h⟩:=e x y (g x (by simp)) (d y (by simp));obtain⟨c,k,j⟩:=ZCA e (λz a=>g z (zV _ a)) (λz a=>d z (zV _ a));refine⟨b&&c,by simp[eqZ,i,k],?_⟩;simp[h,j]
theorem Vv{G:DH}:∀(n:Nat)(d e:D),okD n d=ux->okD n e=ux->∃b,eqD n G d e=uz b/\(b=ux↔d=e)
 |0,d,e,h,_=>by cases h
 | n+1,d,e,f,a=>by
  have o:=Vv (G:=G) n;cases d with
  |bl _=>simp[okD]at f
  |ty _=>simp[okD]at f
  |ref _=>simp[okD]at f
  | tup l=>
   cases e with
   |bl _=>simp[okD]at a
   |ty _=>simp[okD]at a
   |ref _=>simp[okD]at a
   |tup m=>
    simp only[okD,qY]at f a;obtain⟨b,j,k⟩:=ZCA o (λx g=>f x g) (λx g=>a x g);refine⟨b&&l.length==m.length,by simp[eqD,view,j],?_⟩;simp only[z5,k,beq_iff_eq,D.tup.injEq];constructor
    .rintro⟨e,c⟩;rw[<-c,jP]at e;rw[e,c,jP]
    .rintro rfl;exact⟨rfl,rfl⟩
   |_=>exact⟨uv,by simp[eqD,view],by simp⟩
  | fl l=>
   cases e with
   |bl _=>simp[okD]at a
   |ty _=>simp[okD]at a
   |ref _=>simp[okD]at a
   |fl m=>
    simp only[okD,qY]at f a;by_cases c:l.length=m.length
    .obtain⟨b,j,k⟩:=ZCA o (λx g=>f x g) (λx g=>a x g);refine⟨b,by simp[eqD,view,c,j],?_⟩;rw[k,<-c,jP,c,jP];simp
    .exact⟨uv,by simp[eqD,view,c],by simp;rintro rfl;exact c rfl⟩
   |_=>exact⟨uv,by simp[eqD,view],by simp⟩
  |non=>cases e<;>first|(simp[okD]at a;done)|exact⟨_,rfl,by simp[eqV]⟩
  |int i=>cases e<;>first|(simp[okD]at a;done)|exact⟨_,rfl,by simp[eqV]⟩
  |str i=>cases e<;>first|(simp[okD]at a;done)|exact⟨_,rfl,by simp[eqV]⟩
open Classical in
theorem ZRW(c:okD 30 d=ux)(a:okD 30 e=ux):Fi d e G=.ok (.bl (decide (d=e))) G:=by
 obtain⟨b,f,h⟩:=Vv (G:=G) 30 d e c a;unfold Fi;rw[f];cases b with
 |true=>simp[h.mp rfl]
 |false=>simp[show¬d=e from λz=>zw (h.mpr z)]
open Classical in
theorem ZLM(c:okD 30 d=ux)(a:okD 30 e=ux):Ef d e G=.ok (.bl (!decide (d=e))) G:=by
 obtain⟨b,f,h⟩:=Vv (G:=G) 30 d e c a;unfold Ef;rw[f];cases b with
 |true=>simp[h.mp rfl]
 |false=>simp[show¬d=e from λz=>zw (h.mpr z)]
theorem ZSK(a:okD 30 d=ux):Fi d d G=.ok (.bl ux) G:=by rw[ZRW a a];simp
theorem ZDK(a:okD 30 d=ux):Ef d d G=.ok (.bl uv) G:=by rw[ZLM a a];simp
theorem Ob(h:∀d∈ds,okD n d=ux):okD (n+1) (.tup ds)=ux:=by simpa[okD]using h
theorem ZE7(h:∀d∈ds,okD n d=ux):okD (n+1) (.fl ds)=ux:=by simpa[okD]using h
end
def cutD{α:Type}(xs:List α)(lo hi:Option Int):List α:=(xs.drop (HT.sIx xs.length 0 lo)).take (HT.sIx xs.length xs.length hi-HT.sIx xs.length 0 lo)
def Oq(z:Str)(lo hi:Option Int):Str:=⟨(cutD z.cps.toList lo hi).toArray⟩
theorem ZXG{b:Type}(xs:List b)(a c:Option Int):(cutD xs a c).length<=xs.length:=by unfold cutD;rw[jC,jN];lia
def Im(t:Option DE)(S:DSt)(G:DH):R (Option Int):=match t with
 |none=>.ok uj G
 |some t=>(t S G).bind λd G1=>match d with
  |.int i=>.ok (uz i) G1
  |_=>.bad
def Nf(d:D)(lo hi:Option Int)(G:DH):R D:=match d with
 |.str z=>if z.length<=1000000 then .ok (.str (Oq z lo hi)) G else .bad
 |.tup xs=>.ok (.tup (cutD xs lo hi)) G
 |d=>match Ft d G with
  |some xs=>.ok (.ref G.length) (G++[.lst (cutD xs lo hi)])
  |none=>.bad
def dSl(e:DE)(lo hi:Option DE):DE:=λS G=>(e S G).bind λd G1=>(Im lo S G1).bind λl G2=>(Im hi S G2).bind λh G3=>Nf d l h G3
theorem U7(n:Nat)(v:Int):((HT.sIx n n (uz v):Nat):Int)=max 0 (min (if v<0 then v+(n:Int)else v) n)/\((HT.sIx n 0 (uz v):Nat):Int)=max 0 (min (if v<0 then v+(n:Int)else v) n):=by
 unfold HT.sIx;by_cases a:v<0
 .simp only[if_pos a];lia
 .simp only[if_neg a];lia
theorem ZLB(xs:Array Nat)(i k:Nat):(zX k).filterMap (λm=>xs[i+m]?)=(xs.toList.drop i).take k:=by
 induction k generalizing i with
 |zero=>simp
 | succ k d=>
  rw[qE,qz];have e:(List.map Nat.succ (zX k)).filterMap (λm=>xs[i+m]?)=(zX k).filterMap (λm=>xs[i+1+m]?):=by
   rw[qX]
   congr 1
   funext m;simp only[Function.comp]
   congr 1
   lia
  rw[e,d (i+1)];by_cases b:i<xs.size
  .have a:xs[i+0]?=uz xs[i]:=by simp[b]
   rw[a];have c:xs.toList.drop i=xs[i]::xs.toList.drop (i+1):=by rw[zO (by simpa using b)];simp
   rw[c];simp
  .have a:xs[i+0]?=uj:=by simp;lia
   rw[a];simp only;rw[qQ (by simp;lia),qQ (by simp;lia)];simp
theorem ZVl(x:Str)(c b:Option Int):Txt.slice x c b=Oq x c b:=by
 have d:x.length=x.cps.toList.length:=by simp[Str.length]
 have m:(qa c b 1 x.length).filterMap (x.cps[·]?)=cutD x.cps.toList c b:=by
  have n:∀(v:Option Int),(match v with |none=>(0:Int)|some i=>max 0 (min (if i<0 then i+(x.length:Int)else i) x.length))=((HT.sIx x.length 0 v:Nat):Int):=λv=>by
   cases v with
   |none=>rfl
   |some i=>exact(U7 x.length i).2.symm
  have p:∀(v:Option Int),(match v with |none=>(x.length:Int)|some i=>max 0 (min (if i<0 then i+(x.length:Int)else i) x.length))=((HT.sIx x.length x.length v:Nat):Int):=λv=>by
   cases v with
   |none=>rfl
   |some i=>exact(U7 x.length i).1.symm
  have l:qa c b 1 x.length=sliceRange ((HT.sIx x.length 0 c:Nat):Int) ((HT.sIx x.length x.length b:Nat):Int) 1:=by
   rw[<-n c,<-p b];unfold qa
   cases c<;>cases b<;>simp
  rw[l];unfold sliceRange cutD;rw[qX,<-d];generalize HT.sIx x.length 0 c=i;generalize HT.sIx x.length x.length b=j;have s:((λa=>x.cps[a]?) ∘ λ(k:Nat)=>((i:Int)+1*(k:Int)).toNat)=λk=>x.cps[i+k]? :=by
   funext k;simp only[Function.comp]
   congr 1
   lia
  have q:(if(1:Int)>0 then if(i:Int)<(j:Int)then((j:Int)-i+1-1)/1 else 0 else if(i:Int)>(j:Int)then((i:Int)-j-1-1) / -1 else 0).toNat=j-i:=by
   rw[if_pos (by lia)];split
   .rw[Int.ediv_one];lia
   .lia
  rw[s,q];exact ZLB x.cps i (j-i)
 unfold Txt.slice Oq;split
 .rename_i h;have w:(qa c b 1 x.length).length=x.length:=by simpa using h
  have g:(cutD x.cps.toList c b).length=x.cps.toList.length:=by
   have l:(qa c b 1 x.length).length=HT.sIx x.length x.length b-HT.sIx x.length 0 c:=by
    have n:∀(v:Option Int),(match v with |none=>(0:Int)|some i=>max 0 (min (if i<0 then i+(x.length:Int)else i) x.length))=((HT.sIx x.length 0 v:Nat):Int):=λv=>by
     cases v with
     |none=>rfl
     |some i=>exact(U7 x.length i).2.symm
    have p:∀(v:Option Int),(match v with |none=>(x.length:Int)|some i=>max 0 (min (if i<0 then i+(x.length:Int)else i) x.length))=((HT.sIx x.length x.length v:Nat):Int):=λv=>by
     cases v with
     |none=>rfl
     |some i=>exact(U7 x.length i).1.symm
    have l:qa c b 1 x.length=sliceRange ((HT.sIx x.length 0 c:Nat):Int) ((HT.sIx x.length x.length b:Nat):Int) 1:=by
     rw[<-n c,<-p b];unfold qa
     cases c<;>cases b<;>simp
    rw[l];unfold sliceRange;rw[zU,List.length_range];generalize HT.sIx x.length 0 c=i;generalize HT.sIx x.length x.length b=j;rw[if_pos (by lia)];split
    .rw[Int.ediv_one];lia
    .lia
   have u:HT.sIx x.length x.length b<=x.length:=HT.ZSv _ _ (zY _) b;unfold cutD;rw[jC,jN,<-d];lia
  have r:(cutD x.cps.toList c b).Sublist x.cps.toList:=(List.take_sublist _ _).trans (List.drop_sublist _ _);rw[r.eq_of_length g]
 .rw[m]
section
variable{X:Cx}{E:XK}
theorem ZT4:SlR X (λx c n H Q=>∃z:Str,x=.str z/\z.length<=sizeLine/\Q (.str (Oq z c n)) H):=by
 intro b s P H x v K O c n B Q I C M J r h;obtain⟨z,rfl,N,q⟩:=h;obtain⟨t,rfl⟩:=C;refine⟨"str",_,PySem.F.slot_str_getitem.lookup,typeIs_str _ _ _,?_⟩
 have a:∀(l u:Option (Int×Tok)),K=partValue l->O=partValue u->l.map (·.1)=c->u.map (·.1)=n->vW (xU X.prog X.w) X.A (getItem (.str z t) (.ref B)) (EP X b P Q) X.xe s:=by
  rintro l u rfl rfl rfl rfl;refine wpAny_getItem_str_slice (st:=uj) (M) rfl ?_
  have e:∀d,(Txt.slice z (l.map (·.1)) (u.map (·.1))).length<=sizeLine/\(∀m k,d (.str (Txt.slice z (l.map (·.1)) (u.map (·.1))) m) {s with toks:=k})->(sliceMade z t l u uj).post d s:=λd L=>post_val_or_str L
  refine e _ ⟨z0 (Txt.slice_le z _ _) N,λm k=>?_⟩;rw[ZVl];exact⟨.str _,H,I.tok k,⟨m,rfl⟩,q⟩
 cases J with
 |none=>cases r with
  |none=>exact a uj uj rfl rfl rfl rfl
  |int j g=>exact a uj (uz (j,g)) rfl rfl rfl rfl
 |int i y=>cases r with
  |none=>exact a (uz (i,y)) uj rfl rfl rfl rfl
  |int j g=>exact a (uz (i,y)) (uz (j,g)) rfl rfl rfl rfl
theorem ZOy{prog:xk}{w:xC}{A:xq}{E:xB->x0->Prop}{s:x0}{t j:xY}{items:Array xB}{m l:xB}{a d:Option Int}{Q:xB->x0->Prop}(c:IsTup s.heap t items)(k:s.heap.IsSliceOf j m l .none)(pl:IsPart m a)(p:IsPart l d)
  (hw:HT.sIx items.size 0 a=0/\HT.sIx items.size items.size d=items.size) (h:Q (.ref t) s):vW (xU prog w) A (getItem (.ref t) (.ref j)) Q E s:=by
 obtain⟨n,i,g,q⟩:=id k;unfold getItem
 try with_reducible refine vx ?_
 first|refine vY (v4 ?_)|skip
 refine vY (wpAny_sequenceKey c.typeIs (by decide) ?_);refine vY (vq c.typeIs jf
  (vz jf c.typeIs entry_tuple_getitem ?_ (args_tuple_getitem _ _)))
 show vW _ _ (Builtin.Tuple.tupleItemsOf (.ref t) >>=_) _ _ s;refine vY (tupleItemsOf_ c ?_);refine vY (wpAny_typeOf ⟨n,i,g⟩ ?_);rw[if_pos (by decide)];refine vY (HT.ZIa k pl p ?_);have b:(((HT.sIx items.size 0 a:Nat):Int)==0&&(1:Int)==1&&(HT.sIx items.size items.size d-HT.sIx items.size 0 a)==items.size)=ux:=by rw[hw.1,hw.2];simp
 show vW _ _ (if(((HT.sIx items.size 0 a:Nat):Int)==0&&(1:Int)==1&&(HT.sIx items.size items.size d-HT.sIx items.size 0 a)==items.size)=ux then _ else _) _ _ s;rw[if_pos b];refine vY ?_;unfold Builtin.Tuple.tupleIsExact;refine vY (wpAny_typeOf c.typeIs (v4 ?_));rw[if_pos (by decide)];exact vY (wpAny_rule (v4 ⟨_,rfl,v4 h⟩))
theorem ZRY:SlR X (λx i d H Q=>∃a xs,x=.ref a/\SqT X.K H a xs/\(HT.sIx xs.length 0 i=0/\HT.sIx xs.length xs.length d=xs.length)/\Q (.ref a) H):=by
 intro g s w H x v A y i d u Q I m k n l h;obtain⟨a,xs,rfl,p,hw,q⟩:=h;cases m;obtain⟨c,r,j,z⟩:=I.tuple p;have b:c.toArray.size=xs.length:=by rw[zK];exact r.length.symm
 exact⟨"tuple",_,PyProof.Rows.slot_tuple_getitem.lookup,j.typeIs,ZOy j k n l (by rw[b];exact hw) ⟨.ref a,H,I,rfl,q⟩⟩
def M4(E:XK)(a:Wd)(r:R (Option Int))(Q:Option Int->Hp->Prop):Prop:=match r with
 |.ok k G=>∀(b:Wd),Ext a b->Sim b G->Q k b.H
 |.err x G=>XOk E a x G
 |.bad=>False
def QO(X:Cx)(E:XK)(e:Option xz)(t:Option DE):Prop:=PO X e (λσ H Q=>∃(a:Wd)(S:DSt)(G:DH),a.K=X.K/\a.H=H/\Sim a G/\RepS a S σ/\M4 E a (Im t S G) Q)
theorem _root_._L.PO.mono(h:PO X e t)(w:∀a H Q,t' a H Q->t a H Q):PO X e t':=λb s a H Q I q=>h b s a H Q I (w a H Q q)
theorem ZPu:QO X E uj uj:=ZQD.mono λb H Q h=>by obtain⟨a,S,G,hk,rfl,s,r,h⟩:=h;exact h a (Ext.refl a) s
theorem ZS9(m:QE X E e t):QO X E (uz e) (uz t):=(ZVj m).mono λn H Q h=>by
 obtain⟨a,S,G,hk,rfl,s,r,h⟩:=h;refine⟨a,S,G,hk,rfl,s,r,?_⟩
 have c:M4 E a ((t S G).bind λd g=>match d with | .int i=>.ok (uz i) g|_=>.bad) Q:=h
 cases j:t S G with
 |ok d g=>
  rw[j]at c;intro b v x k l;cases d with
  |int i=>exact⟨i,l,c b x k⟩
  |_=>exact c.elim
 |err x g=>rw[j]at c;exact c
 |bad=>rw[j]at c;exact c
theorem Reps.cutD(r:Reps a ds vs)(b c:Option Int):Reps a (_D.cutD ds b c) (Mv vs b c):=by unfold _D.cutD Mv;rw[r.length];exact(r.drop _).take _
theorem M4.imp(h:M4 E a r Q)(w:∀v H,Q v H->Q' v H):M4 E a r Q':=by
 cases r with
 |ok d G=>exact λb x s=>w _ _ (h b x s)
 |err e G=>exact h
 |bad=>exact h
theorem ZJT(h:out E a (r.bind f) Q):
  M4 E a r (λk H=>∃(b:Wd)(G:DH),b.H=H/\Ext a b/\Sim b G/\r=.ok k G/\out E b (f k G) Q):=by
 cases r with
 |ok d G=>exact λb x s=>⟨b,G,rfl,x,s,rfl,out.mono x h⟩
 |err e G=>exact h
 |bad=>exact h
theorem ZUG{e:xz}{N T:Option xz}{U:DE}{P th:Option DE}{p2 pos:Pos}(he:QE X E e U)(M:QO X E N P)(hu:QO X E T th):QE X E (.Subscript e (.Slice N T uj p2) pos) (dSl U P th):=
 (ZPZ (ZOJ.or (ZM4.or (ZRY.or ZT4))) he M hu).mono λσ H Q h=>by
 obtain⟨a,S,G,hk,rfl,s,r,h⟩:=h;refine⟨a,S,G,hk,rfl,s,r,(Dw h).imp ?_⟩;rintro v _ ⟨b,d,W,rfl,x,s1,q,_,h1⟩;refine⟨b,S,W,x.k.trans hk,rfl,s1,r.mono x,(ZJT h1).imp ?_⟩;rintro l _ ⟨c,Z,rfl,y,s2,_,Y⟩;refine⟨c,S,Z,y.k.trans (x.k.trans hk),rfl,s2,(r.mono x).mono y,(ZJT Y).imp ?_⟩;rintro u _ ⟨C,J,rfl,O,F,_,g⟩;have m:=O.k.trans (y.k.trans (x.k.trans hk));have L:=(q.mono y).mono O
 have lst:out E C (match Ft d J with |some w=>.ok (.ref J.length) (J++[.lst (cutD w l u)])|none=>.bad) Q->rSlL X.K v l u C.H Q:=λg=>by
  split at g
  .rename_i w hx;obtain⟨p,j,I,B,A⟩:=Qa F L hx;exact⟨p,j,I,by rw[<-m];exact B,λp hp=>Iw F (Reps.cutD A l u) g p hp⟩
  .exact g.elim
 cases d with
 |str z=>
  have n:out E C (if z.length<=1000000 then .ok (.str (Oq z l u)) J else .bad) Q:=g;split at n
  .rename_i M;cases(L);exact .inr (.inr (.inr ⟨z,rfl,z0 M size6,n C _ (Ext.refl _) F rfl⟩))
  .exact n.elim
 | tup w=>
  have n:=g;obtain⟨p,j,I,B,A⟩:=L;by_cases hw:HT.sIx j.length 0 l=0/\HT.sIx j.length j.length u=j.length
  .refine .inr (.inr (.inl ⟨p,j,I,by rw[<-m];exact B,hw,n C _ (Ext.refl _) F ⟨p,j,rfl,B,?_⟩⟩));have:cutD w l u=w:=by unfold cutD;rw[A.length,hw.1,hw.2,<-A.length];simp
   rw[this];exact A
  .exact .inr (.inl ⟨p,j,I,by rw[<-m];exact B,hw,λp hp=>Wo F (Reps.cutD A l u) n p hp⟩)
 |fl w=>exact .inl (lst g)
 |ref i=>exact .inl (lst g)
 |non=>exact(g).elim
 |bl _=>exact(g).elim
 |int _=>exact(g).elim
 |ty _=>exact(g).elim
section
variable{name:Str}{id:String}{f:D->List D->DH->R D}{o e:xz}{es:List xz}{to:DE}{t:DA}{apos cpos:Pos}
end
end
section
variable{S:DSt}{G:DH}
@[simp]theorem ev_Sl{e:DE}{b a:Option DE}:dSl e b a S G=(e S G).bind λd c=>(Im b S c).bind λl i=>(Im a S i).bind λh g=>Nf d l h g:=id rfl
@[simp]theorem ZWy:Im uj S G=.ok uj G:=id rfl
@[simp]theorem ZWR:Im (uz t) S G=(t S G).bind λd a=>match d with | .int i=>.ok (uz i) a|_=>.bad:=id rfl
@[simp]theorem ev_slT{xs:List D}{a b:Option Int}:Nf (.tup xs) a b G=.ok (.tup (cutD xs a b)) G:=id rfl
@[simp]theorem ZWe:Ji [.fl xs] G=.ok (.ref G.length) (G++[.lst xs]):=id rfl
@[simp]theorem Lh:Bk (.str z) (.int i) G=if z.length<=1000000 then(match atI z.cps.toList i with |some c=>.ok (sgn c) G|none=>.bad)else .bad:=id rfl
end
end _D
namespace _D
open PySem PySem.Spec _L
open PyProof.Rows hiding St
open Builtin.Str
section
variable(p:Nat->Bool)(m:Nat)
end
def CStep(g:DG)(c:DB)(te:DE)(S:DSt)(G:DH)(x:D)(r:Option D):Prop:=
 ∃S1,g x S G=.ok S1 G/\((c S1 G=.ok uv G/\r=uj)∨(c S1 G=.ok ux G/\∃d,te S1 G=.ok d G/\r=uz d))
theorem Vg:∀{xs:List D},(∀x∈xs,CStep g c te S G x (F x))->Cm g c te S xs G=.ok (xs.filterMap F) G
 |[],_=>rfl
 |x::xs,h=>by
  obtain⟨k,f,a⟩:=h x (by simp);have e:=Vg (λy i=>h y (zV _ i));rw[Wn,f];rcases a with⟨a,b⟩|⟨a,d,b,j⟩
  .simp[a,b,e]
  .simp[a,b,j,e]
theorem ZEb(e:G[i]?=uz (.lst xs))(h:∀x∈xs,CStep g c te S G x (F x)):
  ∀(n j:Nat),j+n=xs.length->Ff i g c te S n j G=.ok ((xs.drop j).filterMap F) G
 |0,j,o=>by
  unfold Ff;rw[e];simp only;rw[if_pos (by lia),qQ (by lia)]
  rfl
 |n+1,j,o=>by
  have a:j<xs.length:=by lia
  have k:=ZEb e h n (j+1) (by lia);obtain⟨r,l,b⟩:=h xs[j] (qw a);unfold Ff;rw[e];simp only;rw[zJ a];simp only[l,R.H8];rw[zO a,qz];rcases b with⟨b,f⟩|⟨b,d,f,q⟩
  .simp[b,f,k]
  .simp[b,f,q,k]
theorem ZEk(a:G[i]?=uz (.lst xs))(h:∀x∈xs,CStep g c te S G x (F x)):
  Ff i g c te S xs.length 0 G=.ok (xs.filterMap F) G:=ZEb a h xs.length 0 (by lia)
theorem ZJ9{x y:Str}(h:x.cps.toList=y.cps.toList):x=y:=by obtain⟨a⟩:=x;obtain⟨b⟩:=y;simp only at h;rw[Array.toList_inj.mp h]
end _D
namespace _D
open PySem PySem.Spec _L
open PyProof.Rows hiding St
inductive Src where
 |l (a:xY)
 |t (a:xY)
noncomputable def Src.itn:Src->String
 |.l _=>"list_iterator"
 |.t _=>"tuple_iterator"
noncomputable def Src.adr:Src->xY
 |.l a=>a
 |.t a=>a
def Src.it(h:Heap)(p:xY)(k:Nat)(sr:Src):Prop:=∃o,h.get? p=uz o/\o.cls=.type sr.itn/\o.data=.fields #[.ref sr.adr,.int k 0]
def Src.val(h:Heap)(xs:Array xB):Src->Prop
 |.l a=>h.IsList a xs
 |.t a=>h.IsTuple a xs
theorem Src.it.at{a:Src}{h h':Heap}{p:xY}{k:Nat}(x:a.it h p k)(e:∀o,h.get? p=uz o->h'.get? p=uz o):a.it h' p k:=let⟨o,b,r⟩:=x;⟨o,e o b,r⟩
theorem Src.val.at{b:Src}{h h':Heap}{xs:Array xB}(x:b.val h xs)(e:∀o,h.get? b.adr=uz o->h'.get? b.adr=uz o):b.val h' xs:=by
 cases b with
 |l a=>obtain⟨o,c,r⟩:=x;exact⟨o,e o c,r⟩
 |t a=>obtain⟨o,c,r⟩:=x;exact⟨o,e o c,r⟩
theorem Src.it.lt{a:Src}{h:Heap}{p:xY}{k:Nat}(x:a.it h p k):p<h.objs.size:=let⟨_,b,_⟩:=x;zz b
section
variable{prog:xk}{w:xC}{A:xq}{E:xB->x0->Prop}{s:x0}
theorem Src.val.obj{c:Src}{h:Heap}{xs:Array xB}(x:c.val h xs):∃o n,h.get? c.adr=uz o/\o.data=.seq xs n:=by
 cases c with
 |l a=>obtain⟨o,d,_,n,b⟩:=x;exact⟨o,n,d,b⟩
 |t a=>obtain⟨o,d,_,n,b⟩:=x;exact⟨o,n,d,b⟩
theorem Src.next_item{f:Src}{p:xY}{k:Nat}{xs:Array xB}{x:xB}{Q:xB->x0->Prop}(d:f.it s.heap p k)(n:f.val s.heap xs)(r:xs[k]?=uz x)
  (i:∀h',f.it h' p (k+1)->qA p s.heap h'->Q x {s with heap:=h'}):vW (xU prog w) A (jc (.ref p)) Q E s:=by
 cases f with
 |l a=>exact wpAny_nextOf_list_item (d) n r i
 |t a=>
  obtain⟨o,e,q,c⟩:=id d;obtain⟨u,h,_,v,g⟩:=n;have j:s.TypeIs (.ref p) "tuple_iterator":=⟨o,e,q⟩;unfold jc;refine vY (vq j jh (vz jh j wv ?_ (ww _)));refine vY (m:=field (.ref p) 0) (vj e c (x:=.ref a) rfl ?_)
  rw[if_neg (show¬((Value.ref a==Value.none)=ux)from zw)]
  refine vY (vj e c rfl (vY (wpAny_seqItems h g ?_)));simp only[Int.toNat_natCast,r];refine vY (wpAny_setField e c (by simp) (v4 ⟨x,rfl,v4 (i _ ⟨_,qj _ e (Obj.isFreed_of_fields (Obj.data_mapFields c _)),(Obj.cls_mapFields ..).trans q,?_⟩ (qA.update ..))⟩));rw[Obj.data_mapFields c];simp[vQ,Src.adr]
theorem Src.next_end{f:Src}{p:xY}{k:Nat}{xs:Array xB}{Q:xB->x0->Prop}(j:A.handled=uj)(c:f.it s.heap p k)(q:f.val s.heap xs)(u:xs[k]?=uj)
  (r:∀h' e,Heap.ExtBut p s.heap h'->(∃o,h'.get? e=uz o/\o.cls=.type "StopIteration")->E (.ref e) {s with heap:=h'}):vW (xU prog w) A (jc (.ref p)) Q E s:=by
 cases f with
 |l a=>exact wpAny_nextOf_list_end j (c) q u r
 |t a=>
  obtain⟨o,d,v,g⟩:=id c;obtain⟨y,i,_,z,h⟩:=q;have n:s.TypeIs (.ref p) "tuple_iterator":=⟨o,d,v⟩;unfold jc;refine vY (vq n jh (vz jh n wv ?_ (ww _)));refine vY (m:=field (.ref p) 0) (vj d g (x:=.ref a) rfl ?_)
  rw[if_neg (show¬((Value.ref a==Value.none)=ux)from zw)]
  refine vY (vj d g rfl (vY (wpAny_seqItems i h ?_)));simp only[Int.toNat_natCast,u];refine vY (wpAny_rule (vY (wpAny_setField d g (by simp) (vY ?_))));simp only[newExc,newTuple]
  refine vY (vk (vY (wpAny_of_eq (by first|rfl|(simp only[firstArgMember];rfl)) (vk ?_ (by size_fits)))) (by size_fits))
  simp only[raiseNew];refine vY (wpAny_handled ?_)
  first|rw[j]|rw[j]
  exact vY (v4 (wpAny_throw (r _ _ (((qA.update ..).extBut.push _).push _) ⟨_,zy _ rfl,rfl⟩)))
theorem Src.iter{c:Src}{xs:Array xB}{Q:xB->x0->Prop}(e:c.val s.heap xs)
  (f:Q (.ref s.heap.objs.size) {s with heap:=s.heap.push {cls:=.type c.itn,data:=.fields #[.ref c.adr,.int 0 0]}}):vW (xU prog w) A (pyIter (.ref c.adr)) Q E s:=by
 cases c with
 |l a=>exact wpAny_pyIter_list e f
 |t a=>exact wpAny_pyIter_tuple e f
end
abbrev En(h:Heap)(e it:xY)(f0:xB)(i:Int)(g old:xB):Prop:=
 h.get? e=uz {cls:=.type "enumerate",dict:=uj,data:=.fields #[f0,.bool uv,.ref it,vQ i,g,old],slots:= #[]}
def Gv(i:Int)(g:xB):Prop:=g=.none∨∃t,g=.int i t
section
variable{prog:xk}{w:xC}{A:xq}{E:xB->x0->Prop}{s:x0}
theorem ZRd{sr:Src}{e it:xY}{k:Nat}{i:Int}{xs:Array xB}{x g z:xB}{Q:xB->x0->Prop}(he:En s.heap e it .none i g z)(hg:Gv i g)(hit:sr.it s.heap it k)(hv:sr.val s.heap xs)(hx:xs[k]?=uz x)(K:e≠it)
  (hQ:∀h' t tk,En h' e it (vQ s.heap.objs.size) (i+1) .none x->sr.it h' it (k+1)->h'.get? s.heap.objs.size=uz {cls:=.type "tuple",data:=.seq #[.int i t,x]}->h'.objs.size=s.heap.objs.size+1->
   (∀b o,b≠e->b≠it->s.heap.get? b=uz o->h'.get? b=uz o)->Q (.ref s.heap.objs.size) {s with heap:=h',toks:=tk}):
  vW (xU prog w) A (Builtin.«enumerate.__next__» ⟨[.ref e],[]⟩) (λO s'=>∃v,O=.done (.ret v)/\Q v s') E s:=by
 obtain⟨hp,gg,d,tk,os⟩:=s;refine vY (m:=field (.ref e) 2) (vj he rfl rfl (vY (Src.next_item hit hv hx λU J p=>?_)));have n:=(p.2 e K).trans he;refine vY (vj n rfl rfl ?_);refine vY (vj n rfl (x:=g) rfl ?_)
 have rest:∀(t:Tok)(P:Nat),vW (xU prog w) A (do
   setField (.ref e) 3 (vQ (i+1));setField (.ref e) 4 .none
   let result<-newTuple [.int i t,x]
   if<-vG (.ref e)then
    rule "enumerate.__next__.owned-tuple-again"
    let z<-field (.ref e) 5
    setField (.ref e) 5 x
    vH (.ref e) result
    PySem.letGo [z] [result]
   ret result) (λO s'=>∃v,O=.done (.ret v)/\Q v s') E ⟨U,gg,d,P,os⟩:=by
  intro t P;refine vY (v5 n (by simp) λh₂ S j=>?_);refine vY (v5 S (by simp) λH l h=>?_)
  replace l:En H e it .none (i+1) .none z:=l
  have y:H.objs.size=hp.objs.size:=by rw[h.1];rw[j.1];exact p.1
  refine vY (wpAny_newTuple ?_);generalize c:H.push {cls:=.type "tuple",data:=.seq [Value.int i t,x].toArray}=f;have u:En f e it .none (i+1) .none z:=by rw[<-c];exact zQ _ l
  have N:f.get? hp.objs.size=uz {cls:=.type "tuple",data:=.seq #[.int i t,x]}:=by rw[<-c,<-y];exact zy _ rfl
  have z₄:f.objs.size=hp.objs.size+1:=by rw[<-c,qy,y]
  have k₄:∀b o,b≠e->b≠it->hp.get? b=uz o->f.get? b=uz o:=λb o M W q=>by rw[<-c];exact zQ _ ((λb o M W q=>h.extBut b o M (j.extBut b o M ((λb o _ Z q=>p.extBut b o Z q) b o M W q))) b o M W q)
  have X:sr.it f it (k+1):=((J.at λo q=>j.extBut it o (Ne.symm K) q).at λo q=>h.extBut it o (Ne.symm K) q).at λo q=>by rw[<-c];exact zQ _ q
  have ez:=zz he;refine vY ?_;unfold vG;refine vY (vj u rfl rfl (v4 ?_));simp only[if_true];refine vY (wpAny_rule (vY (vj u rfl (x:=z) rfl (vY (v5 u (by simp) λY r B=>?_)))))
  replace r:En Y e it .none (i+1) .none x:=r
  refine vY ?_;unfold vH;refine vY (v5 r (by simp) λh₆ T C=>?_);refine v5 T (by simp) λL I F=>?_
  refine vY (wpAny_letGo (v4 ⟨_,rfl,?_⟩));have up:∀b o,b≠e->f.get? b=uz o->L.get? b=uz o:=λb o Z q=>F.extBut b o Z (C.extBut b o Z (B.extBut b o Z q))
  rw[y];rw[y]at I;exact hQ L t P I (X.at λo q=>up it o (Ne.symm K) q) (up _ _ (jV ez) N) (by rw[F.1];rw[C.1];rw[B.1];exact z₄) λb o M W q=>up b o M (k₄ b o M W q)
 rcases hg with rfl|⟨t,rfl⟩
 .exact vY (wpAny_mkInt (rest tk (tk+1)))
 .exact vY (v4 (rest t tk))
theorem ZVH{c:Src}{e it:xY}{k:Nat}{i:Int}{xs:Array xB}{x g h:xB}{Q:Option xB->x0->Prop}(m:En s.heap e it .none i g h)(p:Gv i g)(d:c.it s.heap it k)(q:c.val s.heap xs)(B:xs[k]?=uz x)(f:e≠it)
  (y:∀h' t tk,En h' e it (vQ s.heap.objs.size) (i+1) .none x->c.it h' it (k+1)->h'.get? s.heap.objs.size=uz {cls:=.type "tuple",data:=.seq #[.int i t,x]}->h'.objs.size=s.heap.objs.size+1->
   (∀b o,b≠e->b≠it->s.heap.get? b=uz o->h'.get? b=uz o)->Q (uz (.ref s.heap.objs.size)) {s with heap:=h',toks:=tk}):
  vW (xU prog w) A (pyNext (.ref e)) Q E s:=by
 have l:s.TypeIs (.ref e) "enumerate":=⟨_,m,rfl⟩;unfold pyNext;exact vY (wpAny_attempt (vq l ji
  (vz ji l wk (ZRd m p d q B f λh' t tk z u r n v=>v4 (y h' t tk z u r n v)) (w4 _))))
theorem ZLw{l:Src}{e it:xY}{k:Nat}{i:Int}{xs:Array xB}{g c:xB}{Q:Option xB->x0->Prop}(r:A.handled=uj)(j:En s.heap e it .none i g c)(b:l.it s.heap it k)(p:l.val s.heap xs)(u:xs[k]?=uj)
  (n:∀h',Heap.ExtBut it s.heap h'->Q uj {s with heap:=h'}):vW (xU prog w) A (pyNext (.ref e)) Q E s:=by
 have h:s.TypeIs (.ref e) "enumerate":=⟨_,j,rfl⟩;unfold pyNext;refine vY (wpAny_attempt (vq h ji
  (vz ji h wk (vY (m:=field (.ref e) 2) (vj j rfl rfl (vY (Src.next_end r b p u λh' x f d=>?_)))) (w4 _))))
 obtain⟨o,t,q⟩:=d;exact vY (wpAny_isInstance ⟨o,t,q⟩ isSubtype_stop (v4 (n _ f)))
theorem ZV4{elts:List xz}{x1}{pos:Pos}{e it a:xY}{i:Int}{g c:xB}{Q:Unit->x0->Prop}(h:En s.heap e it (vQ a) i g c)
  (j:∀h',En h' e it .none i g c->qA e s.heap h'->Q () {s with heap:=h'}):vW (xU prog w) A (xS (.Tuple elts x1 pos) (.ref e) (.ref a)) Q E s:=by
 unfold xS;refine vY (wpAny_load h ?_);dsimp only;rw[if_pos (by simp)];exact vY (wpAny_rule (v5 h (by simp) λh' d f=>j h' d f))
theorem ZBg(b:En s.heap e it f0 i g old)(h:Q (.ref e) s):vW (xU prog w) A (pyIter (.ref e)) Q E s:=by have a:s.TypeIs (.ref e) "enumerate":=⟨_,b,rfl⟩;exact wpAny_pyIter_slot a w5 (vz w5 a PySem.F.entry_enumerate_iter (v4 ⟨_,rfl,"enumerate",_,a,PySem.F.slot_enumerate_next.lookup,h⟩) (PySem.F.args_enumerate_iter_1 _))
end
abbrev Tp(h:Heap)(T:xY)(xs:List xB):Prop:=h.get? T=uz {cls:=.type "tuple",data:=.seq xs.toArray}
inductive Drw (h:Heap) (i:Nat):List (Src×xY)->List xB->Prop where
 |nil:Drw h i [] []
 |cons {sr p r x us xs} (hit:Src.it h p i sr) (hv:sr.val h xs) (hx:xs[i]?=uz x) (t:Drw h i r us):Drw h i ((sr,p)::r) (x::us)
theorem Drw.length(d:Drw h i l us):us.length=l.length:=by
 induction d with
 |nil=>rfl
 |cons _ _ _ _ a=>simp[a]
section
variable{prog:xk}{w:xC}{A:xq}{E:xB->x0->Prop}{s:x0}
theorem ZNY(b:Tp s.heap T xs)(hz:xs.length<=1000000)
  (h:∀h',Tp h' T (xs.set k x)->qA T s.heap h'->Q () {s with heap:=h'}):vW (xU prog w) A (updateSeq T (·.setIfInBounds k x)) Q E s:=by
 have c:xs.toArray.size<=sizeLine:=by rw[zK];exact z0 hz size6
 refine wpAny_updateSeq b rfl (h _ ?_ (qA.update ..)) c (by rw[Array.size_setIfInBounds];exact Nat.le_succ_of_le c);show(s.heap.update T _).get? T=_;rw[qj _ b rfl];simp[Obj.mapSeq]
def ZS(prog:xk)(w:xC)(A:xq)(E:xB->x0->Prop)(z TO p:xY)(k:Nat)(R:x0->Prop)(s:x0):Prop:=
 vW (xU prog w) A (jc (.ref p)) (λx s1=>∃os,Tp s1.heap TO os/\os.length<=1000000/\∀h',Tp h' TO (os.set k x)->qA TO s1.heap h'->R {s1 with heap:=h'})
  (λe s'=>vW (xU prog w) A (setField (.ref z) 0 .none) (λ_ s''=>E e s'') E s') s
theorem ZJx{z TO p:xY}{k i:Nat}{r:Src}{xs:Array xB}{x:xB}{q:List xB}{Q:x0->Prop}(l:Tp s.heap TO q)(hz:q.length<=1000000)(j:r.it s.heap p i)(y:r.val s.heap xs)(F:xs[i]?=uz x)
  (h:∀h',Tp h' TO (q.set k x)->r.it h' p (i+1)->(∀b o,b≠TO->b≠p->s.heap.get? b=uz o->h'.get? b=uz o)->h'.objs.size=s.heap.objs.size->Q {s with heap:=h'}):ZS prog w A E z TO p k Q s:=by
 have m:TO≠p:=λe=>by
  obtain⟨o,u,C,_⟩:=j;rw[<-e,l]at u;cases u
  cases r<;>(simp[Src.itn]at C)
 refine Src.next_item j y F λt f d=>⟨q,d.extBut _ _ m l,hz,λn g c=>?_⟩
 exact h n g (f.at λo e=>c.extBut _ _ (Ne.symm m) e) (λb o B v e=>c.extBut b o B (d.extBut b o v e)) (by rw[c.1];rw[d.1])
theorem ZFa{z TO:xY}{i:Nat}{m:xB×Nat->Option Fin×PUnit->Sem (ForInStep (Option Fin×PUnit))}{R:Option Fin×PUnit->x0->Prop}
  (hb:∀(p:xY)(k:Nat)(s:x0)(R':ForInStep (Option Fin×PUnit)->x0->Prop),ZS prog w A E z TO p k (λs'=>R' (.yield (uj,⟨⟩)) s') s->
   vW (xU prog w) A (m (.ref p,k) (uj,⟨⟩)) R' E s):
  ∀(l:List (Src×xY))(us pre post:List xB)(s:x0),Drw s.heap i l us->Tp s.heap TO (pre++post)->post.length=l.length->(pre++post).length<=1000000->(l.map (·.2)).Nodup->(∀q∈l,q.1.adr≠TO)->(∀q∈l,∀r∈l,q.1.adr≠r.2)->
   (∀h',Tp h' TO (pre++us)->(∀q∈l,q.1.it h' q.2 (i+1))->(∀b o,b≠TO->b∉l.map (·.2)->s.heap.get? b=uz o->h'.get? b=uz o)->h'.objs.size=s.heap.objs.size->R (uj,⟨⟩) {s with heap:=h'})->
   vW (xU prog w) A (forIn ((l.map λq=>Value.ref q.2).zipIdx pre.length) (uj,⟨⟩) m) R E s
 | [],us,pre,post,s,d,H,u,J,O,N,C,M=>by
  cases d;cases post with
  |cons _ _=>simp at u
  |nil=>
   rw[jB,List.zipIdx_nil,List.forIn_nil];exact v4 (M s.heap H (λq a=>by cases a) (λb o _ _ e=>e) rfl)
 | (P,p)::l,us,pre,post,s,d,H,u,J,O,N,C,M=>by
  cases d with
  |@cons _ _ _ x us xs h hv hx d=>
  cases post with
  |nil=>simp at u
  | cons y post=>
   rw[zk,jR,xX];refine vY (hb p pre.length s _ (ZJx H J h hv hx λh' g it' kp sz=>?_));have X:(pre++y::post).set pre.length x=(pre++[x])++post:=by simp
   rw[X]at g;have W:pre.length+1=(pre++[x]).length:=by simp
   dsimp only;rw[W]
   have f:p∉l.map (·.2)/\(l.map (·.2)).Nodup:=by simpa using O
   have j:∀q∈l,q.2≠TO:=λq a e=>by
    have:∃P k,Src.it s.heap q.2 k P:=by
     clear M N C O f X W u g J
     induction d with
     |nil=>cases a
     |cons h _ _ _ U=>
      rcases zj.mp a with rfl|a
      .exact⟨_,_,h⟩
      .exact U a
    obtain⟨sr',k,o,L,Y,_⟩:=this;rw[e,H]at L;cases L
    cases sr'<;>(simp[Src.itn]at Y)
   have d':Drw h' i l us:=by
    have F:∀q∈l,q.1.adr≠TO:=λq a=>N q (zV _ a)
    have I:∀q∈l,q.1.adr≠p:=λq a=>C q (zV _ a) (P,p) zW
    have pp:∀q∈l,q.2≠p:=λq a e=>f.1 (zA.mpr ⟨q,a,e⟩)
    clear M N C O f X W u g J
    induction d with
    |nil=>exact .nil
    |@cons sr1 p1 r1 x1 us1 xs1 B T Z t1 U=>
     refine .cons (B.at λo e=>kp _ o (j _ zW) (pp _ zW) e) (T.at λo e=>kp _ o (F _ zW) (I _ zW) e) Z ?_;exact U (λq a=>j q (zV _ a)) (λq a=>F q (zV _ a)) (λq a=>I q (zV _ a)) (λq a=>pp q (zV _ a))
   refine ZFa hb l us (pre++[x]) post {s with heap:=h'} d' g (by simpa using u) (by simpa using J) f.2 (λq a=>N q (zV _ a)) (λq a r hr=>C q (zV _ a) r (zV _ hr)) λS Q t n v=>?_
   have K:p≠TO:=λe=>by
    obtain⟨o,L,Y,_⟩:=h;rw[e,H]at L;cases L
    cases P<;>(simp[Src.itn]at Y)
   refine M S (by simpa using Q) (λq a=>?_) (λb o b1 b2 e=>?_) (v.trans sz)
   .rcases zj.mp a with rfl|a
    .exact it'.at λo e=>n _ o K f.1 e
    .exact t q a
   .simp only[zk,zj,not_or]at b2;exact n b o b1 b2.2 (kp b o b1 b2.1 e)
end
inductive DrwE (h:Heap) (i:Nat):List (Src×xY)->Prop where
 |here {sr p r xs} (hit:Src.it h p i sr) (hv:sr.val h xs) (hx:xs[i]?=uj):DrwE h i ((sr,p)::r)
 |there {sr p r x xs} (hit:Src.it h p i sr) (hv:sr.val h xs) (hx:xs[i]?=uz x) (t:DrwE h i r):DrwE h i ((sr,p)::r)
structure ApZ (TO:xY) (l:List (Src×xY)):Prop where
 nd:(l.map (·.2)).Nodup
 na:∀q∈l,q.1.adr≠TO
 np:∀q∈l,∀r∈l,q.1.adr≠r.2
 to:∀q∈l,q.2≠TO
theorem ApZ.tail{TO:xY}{q:Src×xY}{l:List (Src×xY)}(a:ApZ TO (q::l)):ApZ TO l:=
 ⟨(qS.mp (by simpa using a.nd)).2,λq b=>a.na q (zV _ b),λq b r c=>a.np q (zV _ b) r (zV _ c),λq b=>a.to q (zV _ b)⟩
section
variable{prog:xk}{w:xC}{A:xq}{E:xB->x0->Prop}{s:x0}
theorem DrwE.at{TO p:xY}{u:Src}{i:Nat}{h h':Heap}{l:List (Src×xY)}(a:ApZ TO ((u,p)::l))(j:∀b o,b≠TO->b≠p->h.get? b=uz o->h'.get? b=uz o)(d:DrwE h i l):DrwE h' i l:=by
 have n:∀q∈l,q.2≠p:=λq f e=>(qS.mp (by simpa using a.nd)).1 (zA.mpr ⟨q,f,e⟩)
 have k:∀q∈l,q.1.adr≠p:=λq f=>a.np q (zV _ f) (u,p) zW
 have g:=a.tail;clear a
 induction d with
 |here c m r=>exact .here (c.at λo e=>j _ o (g.to _ zW) (n _ zW) e) (m.at λo e=>j _ o (g.na _ zW) (k _ zW) e) r
 | there c m r t v=>
  exact .there (c.at λo e=>j _ o (g.to _ zW) (n _ zW) e) (m.at λo e=>j _ o (g.na _ zW) (k _ zW) e) r
   (v (λq f=>n q (zV _ f)) (λq f=>k q (zV _ f)) g.tail)
theorem ZEB{z TO:xY}{i:Nat}{f:xB×Nat->Option Fin×PUnit->Sem (ForInStep (Option Fin×PUnit))}{R:Option Fin×PUnit->x0->Prop}(M:A.handled=uj)
  (J:∀(p:xY)(k:Nat)(s:x0)(K:ForInStep (Option Fin×PUnit)->x0->Prop),ZS prog w A E z TO p k (λs'=>K (.yield (uj,⟨⟩)) s') s->
   vW (xU prog w) A (f (.ref p,k) (uj,⟨⟩)) K E s):
  ∀(l:List (Src×xY))(m:List xB)(n:Nat)(s:x0),DrwE s.heap i l->Tp s.heap TO m->m.length<=1000000->ApZ TO l->
   (∀h' e,(∀b o,b≠TO->b∉l.map (·.2)->s.heap.get? b=uz o->h'.get? b=uz o)->(∃o,h'.get? e=uz o/\o.cls=.type "StopIteration")->vW (xU prog w) A (setField (.ref z) 0 .none) (λ_ F=>E (.ref e) F) E {s with heap:=h'})->
   vW (xU prog w) A (forIn ((l.map λq=>Value.ref q.2).zipIdx n) (uj,⟨⟩) f) R E s
 |[],m,n,s,d,I,B,a,y=>by cases d
 | (P,p)::l,m,n,s,d,I,B,a,y=>by
  rw[zk,jR,xX];refine vY (J p n s _ ?_);cases d with
  |here g v H=>
   exact Src.next_end M g v H λh' e N x=>y h' e (λb o C h q=>N b o (λz=>h (by rw[z];simp)) q) x
  |there g v H t=>
   refine ZJx I B g v H λh' u O L sz=>?_
   refine ZEB M J l _ (n+1) {s with heap:=h'} (t.at a L) u (by simpa using B) a.tail λr e j x=>?_
   refine y r e (λb o C h q=>?_) x;simp only[zk,zj,not_or]at h;exact j b o C h.2 (L b o C h.1 q)
theorem ZFg{z TI TO:xY}{l:List (Src×xY)}{R:Fin->x0->Prop}(hz:IsZip s.heap z TI TO .none)(F:Tp s.heap TI (l.map λq=>Value.ref q.2))(J:l≠[])
  (h:∀c,IsZip c z TI TO .ellipsis->qA z s.heap c->∀f:xB×Nat->Option Fin×PUnit->Sem (ForInStep (Option Fin×PUnit)),
   (∀(p:xY)(k:Nat)(s:x0)(H:ForInStep (Option Fin×PUnit)->x0->Prop),ZS prog w A E z TO p k (λs'=>H (.yield (uj,⟨⟩)) s') s->
    vW (xU prog w) A (f (.ref p,k) (uj,⟨⟩)) H E s)->
   vW (xU prog w) A (forIn ((l.map λq=>Value.ref q.2).zipIdx 0) (uj,⟨⟩) f) (λr s'=>r.1=uj/\∃us,Tp s'.heap TO us/\us.length<=1000000/\IsZip s'.heap z TI TO .ellipsis/\
    ∀h',IsZip h' z TI TO (vQ s'.heap.objs.size)->Tp h' s'.heap.objs.size us->h'.objs.size=s'.heap.objs.size+1->(∀b o,b≠z->s'.heap.get? b=uz o->h'.get? b=uz o)->R (.done (.ret (.ref s'.heap.objs.size))) {s' with heap:=h'}) E {s with heap:=c}):
  vW (xU prog w) A (Builtin.«zip.__next__» ⟨[.ref z],[]⟩) R E s:=by
 refine vY (m:=field (.ref z) 2) (vj hz rfl (x:=.bool uv) rfl (vY (vj hz rfl rfl (vY (wpAny_seqItems F rfl ?_)))));dsimp only;have y:(l.map λq=>Value.ref q.2).toArray.isEmpty=uv:=by cases l with
  |nil=>exact absurd rfl J
  |cons _ _=>simp
 rw[y];refine vY ?_;unfold vG;refine vY (vj hz rfl rfl (v4 ?_));simp only[if_true];refine vY (wpAny_rule (vY (vj hz rfl rfl (vY (v5 hz (by simp) λc j t=>?_)))));refine vY (vv (h c j t _ λp k s H C=>?_) (λr s' Q=>?_) λ_ _ x=>x)
 .refine vY (wpAny_onRaise ?_);refine vY (vv C (λx U T=>v4 ?_) λ_ _ x=>x);obtain⟨W,B,I,K⟩:=T;dsimp only;refine vY (wpAny_seqItems B rfl ?_);dsimp only;exact vY (ZNY B I λh' P S=>vY (wpAny_letGo (v4 (K h' P S))))
 .obtain⟨N,us,B,I,v,K⟩:=Q;rw[N];dsimp only;refine vY (wpAny_seqItems B rfl ?_);dsimp only;refine vY (wpAny_newTuple ?_ (by simpa using z0 I size6));have g:=zz v;refine vY ?_;unfold vH;have O:us.toArray.toList.toArray=us.toArray:=by simp
  rw[O];refine vY (v5 (zQ _ v) (by simp) λL n e=>?_);refine v5 n (by simp) λu i d=>?_
  refine v4 (K u i ?_ ?_ λb o M q=>d.extBut _ _ M (e.extBut _ _ M (zQ _ q)))
  .exact d.extBut _ _ (jV g) (e.extBut _ _ (jV g) (zy _ rfl))
  .rw[d.1];rw[e.1,qy]
theorem ZMV{z TI TO:xY}{i:Nat}{l:List (Src×xY)}{us W:List xB}{Q:Option xB->x0->Prop}(hz:IsZip s.heap z TI TO .none)(I:Tp s.heap TI (l.map λq=>Value.ref q.2))(U:Tp s.heap TO W)(n:W.length=l.length)(hsz:l.length<=1000000)(N:l≠[])
  (a:ApZ TO l) (y:z≠TO/\(∀q∈l,q.2≠z/\q.1.adr≠z)) (d:Drw s.heap i l us)
  (Y:∀h',IsZip h' z TI TO (vQ s.heap.objs.size)->Tp h' TO us->(∀q∈l,q.1.it h' q.2 (i+1))->Tp h' s.heap.objs.size us->h'.objs.size=s.heap.objs.size+1->
   (∀b o,b≠z->b≠TO->b∉l.map (·.2)->s.heap.get? b=uz o->h'.get? b=uz o)->Q (uz (.ref s.heap.objs.size)) {s with heap:=h'}):vW (xU prog w) A (pyNext (.ref z)) Q E s:=by
 have Z:s.TypeIs (.ref z) "zip":=⟨_,hz,rfl⟩;unfold pyNext;refine vY (wpAny_attempt (vq Z xa (vz xa Z w6 ?_ (w8 _))));refine ZFg hz I N λh x m body T=>?_
 have g:∀b o,b≠z->s.heap.get? b=uz o->h.get? b=uz o:=λb o T q=>m.extBut b o T q
 have O:Drw h i l us:=by
  have S:=y.2;clear I n hsz N a y Y
  induction d with
  |nil=>exact .nil
  |cons X hv hx t ih=>exact .cons (X.at λo e=>g _ o (S _ zW).1 e) (hv.at λo e=>g _ o (S _ zW).2 e) hx (ih λq C=>S q (zV _ C))
 refine ZFa T l us [] W {s with heap:=h} O (g _ _ (Ne.symm y.1) U) n (by simpa[n]using hsz) a.nd a.na a.np λL r B u v=>⟨rfl,us,r,by rw[d.length];exact hsz,?_,λM H J P K=>?_⟩
 .refine u _ _ y.1 (λhm=>?_) x;obtain⟨q,C,e⟩:=zA.mp hm;exact(y.2 q C).1 e
 .have e2:L.objs.size=s.heap.objs.size:=by rw[v];exact m.1
  refine⟨_,rfl,v4 ?_⟩;have p:=H;have k:=J;have j:=P;have f:=K;rw[e2]at p k j⊢;exact Y M p (f _ _ (Ne.symm y.1) r) (λq C=>(B q C).at λo e=>f _ o (y.2 q C).1 e) k j λb o b1 b2 b3 q=>f b o b1 (u b o b2 b3 (g b o b1 q))
theorem ZMN{z TI TO:xY}{i:Nat}{l:List (Src×xY)}{P:List xB}{Q:Option xB->x0->Prop}(hh:A.handled=uj)(hz:IsZip s.heap z TI TO .none)(u:Tp s.heap TI (l.map λq=>Value.ref q.2))(M:Tp s.heap TO P)(m:P.length=l.length)(hsz:l.length<=1000000)(H:l≠[])
  (a:ApZ TO l) (y:z≠TO/\(∀q∈l,q.2≠z/\q.1.adr≠z)) (d:DrwE s.heap i l)
  (T:∀h',(∀b o,b≠z->b≠TO->b∉l.map (·.2)->s.heap.get? b=uz o->h'.get? b=uz o)->Q uj {s with heap:=h'}):vW (xU prog w) A (pyNext (.ref z)) Q E s:=by
 have U:s.TypeIs (.ref z) "zip":=⟨_,hz,rfl⟩;unfold pyNext;refine vY (wpAny_attempt (vq U xa (vz xa U w6 ?_ (w8 _))));refine ZFg hz u H λg n p X L=>?_
 have f:∀b o,b≠z->s.heap.get? b=uz o->g.get? b=uz o:=λb o L q=>p.extBut b o L q
 have I:DrwE g i l:=by
  have v:=y.2;clear u m hsz H a y T
  induction d with
  |here r J S=>exact .here (r.at λo e=>f _ o (v _ zW).1 e) (J.at λo e=>f _ o (v _ zW).2 e) S
  |there r J S t Z=>exact .there (r.at λo e=>f _ o (v _ zW).1 e) (J.at λo e=>f _ o (v _ zW).2 e) S (Z λq K=>v q (zV _ K))
 refine ZEB (A:=A.in1) (hh) L l P 0 {s with heap:=g} I (f _ _ (Ne.symm y.1) M) (by rw[m];exact hsz) a λB e k st=>?_
 have h:IsZip B z TI TO .ellipsis:=by refine k _ _ y.1 (λhm=>?_) n;obtain⟨q,K,e⟩:=zA.mp hm;exact(y.2 q K).1 e
 obtain⟨o,O,W⟩:=st;have N:e≠z:=λx=>by subst x;rw[h]at O;cases O;simp at W
 refine v5 h (by simp) λC _ j=>?_
 refine vY (wpAny_isInstance ⟨o,j.extBut _ _ N O,W⟩ isSubtype_stop (v4 ?_));exact T C λb o Y b2 b3 q=>j.extBut _ _ Y (k b o b2 b3 (f b o Y q))
theorem ZGB:∀(c:List Src)(pre:Array xB)(s:x0){Q:Array xB->x0->Prop},(∀d∈c,∃xs,d.val s.heap xs)->
  (∀h',(∀q∈c.zipIdx s.heap.objs.size,q.1.it h' q.2 0)->h'.objs.size=s.heap.objs.size+c.length->(∀b o,s.heap.get? b=uz o->h'.get? b=uz o)->Q (pre++((c.zipIdx s.heap.objs.size).map λq=>Value.ref q.2).toArray) {s with heap:=h'})->
  vW (xU prog w) A (forIn (c.map λd=>Value.ref d.adr) pre λx r=>do let v<-holding r.toList (pyIter x);pure (ForInStep.yield (r.push v))) Q E s
 |[],pre,s,Q,j,h=>by rw[jB,List.forIn_nil];refine v4 ?_;have:=h s.heap (λq f=>by cases f) rfl (λ_ _ e=>e);simpa using this
 | d::c,pre,s,Q,j,h=>by
  rw[zk,xX];obtain⟨xs,y⟩:=j d zW;refine vY (vY (vx (Src.iter y (v4 ?_))));dsimp only;refine ZGB c (pre.push (.ref s.heap.objs.size)) {s with heap:=s.heap.push {cls:=.type d.itn,data:=.fields #[.ref d.adr,.int 0 0]}} (λl t=>?_) λh' i k g=>?_
  .obtain⟨u,p⟩:=j l (zV _ t);exact⟨u,p.at λo e=>zQ _ e⟩
  .dsimp only at i k g⊢;rw[qy ..]at i k⊢;have:=h h' (λq f=>?_) (by rw[k,zM];lia) (λb o e=>g b o (zQ _ e))
   .rw[jR,zk]at this;simpa using this
   .rw[jR]at f;rcases zj.mp f with rfl|f
    .exact⟨_,g _ _ (zy _ rfl),rfl,rfl⟩
    .exact i q f
theorem ZK4{c:List Src}{Q:xB->x0->Prop}(r:∀d∈c,∃xs,d.val s.heap xs)(H:c.length<=1000000)
  (y:checkTypeCall "zip" ⟨c.map λd=>Value.ref d.adr,[]⟩=pure ()) (t:xM "zip.__new__" ⟨.type "zip"::c.map λd=>Value.ref d.adr,[]⟩=pure ()) (hok:∀obj,argsOk "object.__init__" ⟨obj::c.map λd=>Value.ref d.adr,[]⟩)
  (h:∀h' n,n=s.heap.objs.size+c.length->IsZip h' (n+2) n (n+1) .none->Tp h' n ((c.zipIdx s.heap.objs.size).map λq=>Value.ref q.2)->Tp h' (n+1) (c.map λ_=>Value.none)->(∀q∈c.zipIdx s.heap.objs.size,q.1.it h' q.2 0)->
   (∀b o,s.heap.get? b=uz o->h'.get? b=uz o)->Q (.ref (n+2)) {s with heap:=h'}):
  vW (xU prog w) A (call (.type "zip") (c.map λd=>Value.ref d.adr)) Q E s:=by
 have g:Meets (Builtin.«zip.__new__» ⟨.type "zip"::c.map λd=>Value.ref d.adr,[]⟩) (λ_ R s=>(∀d∈c,∃xs,d.val s.heap xs)/\
   ∀h' n,n=s.heap.objs.size+c.length->IsZip h' (n+2) n (n+1) .none->Tp h' n ((c.zipIdx s.heap.objs.size).map λq=>Value.ref q.2)->Tp h' (n+1) (c.map λ_=>Value.none)->(∀q∈c.zipIdx s.heap.objs.size,q.1.it h' q.2 0)->
    (∀b o,s.heap.get? b=uz o->h'.get? b=uz o)->R (.ok (.ret (.ref (n+2)))) {s with heap:=h'}):=
  .of_wp λprog w A R s M=>by
   obtain⟨r,N⟩:=M;have C:=sub_zip;unfold Builtin.«zip.__new__» uW
   wp_walk
   refine ZGB c #[] s r λk x j u=>v4 ?_
   have L:(#[]++((c.zipIdx s.heap.objs.size).map λq=>Value.ref q.2).toArray:Array xB).toList=(c.zipIdx s.heap.objs.size).map λq=>Value.ref q.2:=by simp
   rw[L];have f:((c.zipIdx s.heap.objs.size).map λq=>Value.ref q.2).length=c.length:=by simp
   refine vY (wpAny_newTuple ?_ (by rw[f];exact z0 H size6));refine vY (wpAny_newTuple ?_ (by rw[zU,f];exact z0 H size6));refine vY ?_;unfold uK;dsimp only;refine vk (v4 ⟨_,rfl,?_⟩) (by simp[sizeOk,uY,vZ]);generalize P:s.heap.objs.size+c.length=n at*
   have J:((c.zipIdx s.heap.objs.size).map λq=>Value.ref q.2).map (λ_=>Value.none)=c.map λ_=>Value.none:=by refine qI (by simp) λi k O=>by simp
   dsimp only;rw[J];generalize((c.zipIdx s.heap.objs.size).map λq=>Value.ref q.2)=m at*;generalize(c.map λ_=>Value.none)=B at*;have l:(k.push {cls:=.type "tuple",data:=.seq m.toArray}).objs.size=n+1:=by rw[qy,j]
   have z:((k.push {cls:=.type "tuple",data:=.seq m.toArray}).push {cls:=.type "tuple",data:=.seq B.toArray}).objs.size=n+2:=by rw[qy,l]
   rw[z];refine N _ n rfl ?_ (zQ _ (zQ _ (by rw[<-j];exact zy _ rfl))) (zQ _ (by rw[<-l];exact zy _ rfl)) (λq K=>(x q K).at λo e=>zQ _ (zQ _ (zQ _ e))) λb o e=>zQ _ (zQ _ (zQ _ (u b o e)))
   have:=zy ((k.push {cls:=.type "tuple",data:=.seq m.toArray}).push {cls:=.type "tuple",data:=.seq B.toArray}) (o:={cls:=.type "zip",data:=.fields #[.none,.bool uv,.bool uv,.ref k.objs.size,.ref (k.push {cls:=.type "tuple",data:=.seq m.toArray}).objs.size]}) rfl;rw[z]at this;rw[j,l]at this;rw[j,l];exact this
 refine callType_new PySem.F.called_zip (by decide) y t hok PySem.F.entry_zip_new g ⟨r,λh' n I j p v x u=>⟨⟨_,j,rfl⟩,h h' n I j p v x u⟩⟩
end
end _D
namespace _D
open PySem PySem.W PyProof.Rows
section
def Bo(lt:Nat->Nat->Bool){α:Type}:KasT α->α
 |.ret a=>a
 |.ask i j k=>Bo lt (k (lt i j))
theorem M8(lt:Nat->Nat->Bool){a b:Type}(f:a->KasT b):∀t:KasT a,Bo lt (t.bind f)=Bo lt (f (Bo lt t))
 |.ret _=>rfl
 |.ask i j k=>M8 lt f (k (lt i j))
structure WO (lt:Nat->Nat->Bool):Prop where
 asy:∀i j,lt i j=ux->lt j i=uv
 neg:∀i j k,lt i k=ux->lt i j=ux∨lt j k=ux
variable{lt:Nat->Nat->Bool}
theorem WO.refl(o:WO lt)(i:Nat):lt i i=uv:=by
 cases h:lt i i
 .rfl
 .have:=o.asy i i h;rw[h]at this;exact this
theorem WO.tr(o:WO lt)(b:lt j i=uv)(a:lt k j=uv):lt k i=uv:=by
 cases h:lt k i
 .rfl
 .rcases o.neg k j i h with z|z
  .rw[z]at a;cases a
  .rw[z]at b;cases b
noncomputable abbrev pt(p:Array Nat)(j:Nat):Nat:=p.getD j 0
theorem Ln(p:Array Nat)(j:Nat):pt p j=(p[j]?).getD 0:=by simp[pt]
def Srt(lt:Nat->Nat->Bool)(p:Array Nat)(k:Nat):Prop:=∀i j,i<=j->j<k->lt (pt p j) (pt p i)=uv
def NIn(lt:Nat->Nat->Bool)(p:Array Nat)(k:Nat):Prop:=∀i j,i<=j->j<k->lt (pt p i) (pt p j)=uv
theorem H9(a:j<=p.size)(k:Nat):pt (v9 p i j) k=if i<=k/\k<j then pt p (i+j-1-k)else pt p k:=by
 rw[Ln,v9,getElem?_mirror_all a]
 split <;> exact(Ln ..).symm
theorem ZSP(e:src<p.size)(c:d<=src)(k:Nat):pt (bubble p src d) k=if k=src-d then pt p src else if src-d<k/\k<=src then pt p (k-1)else pt p k:=by
 rw[Ln,getElem?_bubble e d c];by_cases b:k=src-d
 .rw[if_pos b,if_pos b];exact(Ln ..).symm
 .rw[if_neg b,if_neg b];by_cases a:src-d<k/\k<=src
  .rw[if_pos a,if_pos a];exact(Ln ..).symm
  .rw[if_neg a,if_neg a];exact(Ln ..).symm
theorem Zg(o:WO lt)(p:Array Nat):∀f n,1<=n->Srt lt p n->∀m,Bo lt (kas_asc p f n)=m->n<=m/\m<=n+f/\Srt lt p m/\(m<n+f->lt (pt p m) (pt p (m-1))=ux)
 |0,n,r,h,m,e=>by have g:=e;subst g;exact⟨zY _,zY _,h,λz=>absurd z (qZ _)⟩
 | f + 1,n,r,h,m,e=>by
  unfold kas_asc at e;have k:Bo lt (if lt (pt p n) (pt p (n-1))=ux then KasT.ret n else kas_asc p f (n+1))=m:=e;cases l:lt (pt p n) (pt p (n-1))with
  |true=>
   rw[l,if_pos rfl]at k;have g:n=m:=k;subst g;exact⟨zY _,by lia,h,λ_=>l⟩
  | false=>
   rw[l,if_neg (by simp)]at k;have s:Srt lt p (n+1):=λi j q u=>by
    by_cases e:j<n
    .exact h i j q e
    .have g:j=n:=by lia
     subst g;by_cases t:i=j
     .rw[t];exact o.refl _
     .exact o.tr (h i (j-1) (by lia) (by lia)) l
   obtain⟨a,b,c,d⟩:=Zg o p f (n+1) (by lia) s m k;exact⟨by lia,by lia,c,λz=>d (by lia)⟩
structure Dn (lt:Nat->Nat->Bool) (p:Array Nat) (n q:Nat):Prop where
 ni:NIn lt p n
 al:∀i j,n-(q+1)<=i->i<n->n-(q+1)<=j->j<n->lt (pt p i) (pt p j)=uv
 qn:q+1<=n
theorem NIn.rev(d:Dn lt p n q)(c:n<=p.size):NIn lt (v9 p (n-(q+1)) n) n:=λi j b a=>by
 have:=d.qn;rw[H9 c,H9 c];by_cases e:n-(q+1)<=i
 .rw[if_pos ⟨e,by lia⟩,if_pos ⟨by lia,a⟩];exact d.al _ _ (by lia) (by lia) (by lia) (by lia)
 .rw[if_neg (by lia)];by_cases f:n-(q+1)<=j
  .rw[if_pos ⟨f,a⟩];exact d.ni _ _ (by lia) (by lia)
  .rw[if_neg (by lia)];exact d.ni i j b a
theorem Ti(o:WO lt):∀f(p:Array Nat)n q,n+f<=p.size->Dn lt p n q->∀r,Bo lt (kas_desc f p n q)=r->r.1.Perm p/\r.2.1<=n+f/\n<=r.2.1/\Dn lt r.1 r.2.1 r.2.2
 |0,p,n,q,hz,d,r,e=>by have e':=e;subst e';exact⟨.refl _,zY _,zY _,d⟩
 | f + 1,p,n,q,hz,d,r,e=>by
  have qn:=d.qn;unfold kas_desc at e;have e1:Bo lt (if lt (pt p n) (pt p (n-1))=ux then(if q>0 then kas_desc f (v9 p (n-(q+1)) n) (n+1) 0 else kas_desc f p (n+1) 0)
   else .ask (p.getD (n-1) 0) (p.getD n 0) λd=>if d=ux then .ret (p,n,q)else kas_desc f p (n+1) (q+1))=r:=e
  clear e;cases hc:lt (pt p n) (pt p (n-1))with
  | true=>
   rw [hc,if_pos rfl]at e1;have ext:∀p':Array Nat,NIn lt p' n->pt p' n=pt p n->(∀k,k<n->lt (pt p n) (pt p' k)=ux∨k<n)->lt (pt p' (n-1)) (pt p' n)=uv->Dn lt p' (n+1) 0:=λp' hni _ _ hl=>by
    refine⟨λi j hij hj=>?_,λi j h1 h2 h3 h4=>?_,by lia⟩
    .by_cases e:j<n
     .exact hni i j hij e
     .have e':j=n:=by lia
      subst e';by_cases e2:i=j
      .rw[e2];exact o.refl _
      .exact o.tr hl (hni i (j-1) (by lia) (by lia))
    .have e1:i=n:=by lia
     have e2:j=n:=by lia
     rw[e1,e2];exact o.refl _
   by_cases hq:q>0
   .rw[if_pos hq]at e1;have hl:lt (pt (v9 p (n-(q+1)) n) (n-1)) (pt (v9 p (n-(q+1)) n) n)=uv:=by
     rw[H9 (by lia),H9 (by lia),if_pos (by lia),if_neg (by lia)];cases hx:lt (pt p (n-(q+1)+n-1-(n-1))) (pt p n)
     .rfl
     .rcases o.neg _ (pt p (n-1)) _ hx with z|z
      .rw[d.al _ _ (by lia) (by lia) (by lia) (by lia)]at z;cases z
      .rw[o.asy _ _ hc]at z;cases z
    obtain⟨a,b,c,dd⟩:=Ti o f _ (n+1) 0 (by rw[v9,mirror_size];lia) (ext _ (NIn.rev d (by lia)) (by rw[H9 (by lia),if_neg (by lia)]) (λk hk=>.inr hk) hl) r e1;exact⟨a.trans (mirror_perm ..),by lia,by lia,dd⟩
   .rw[if_neg hq]at e1;obtain⟨a,b,c,dd⟩:=Ti o f p (n+1) 0 (by lia) (ext p d.ni rfl (λk hk=>.inr hk) (o.asy _ _ hc)) r e1;exact⟨a,by lia,by lia,dd⟩
  | false=>
   rw[hc,if_neg (by simp)]at e1;have e2:Bo lt (if lt (pt p (n-1)) (pt p n)=ux then .ret (p,n,q)else kas_desc f p (n+1) (q+1))=r:=e1;cases hd:lt (pt p (n-1)) (pt p n)with
   |true=>
    rw[hd,if_pos rfl]at e2;have e3:=e2;subst e3;exact⟨.refl _,by show n<=_;lia,zY _,d⟩
   | false=>
    rw[hd,if_neg (by simp)]at e2;have al':∀i,n-(q+1)<=i->i<n+1->lt (pt p i) (pt p n)=uv/\lt (pt p n) (pt p i)=uv:=λi h1 h2=>by
     by_cases e:i=n
     .rw[e];exact⟨o.refl _,o.refl _⟩
     .exact⟨o.tr hd (d.al i (n-1) h1 (by lia) (by lia) (by lia)),o.tr (d.al (n-1) i (by lia) (by lia) h1 (by lia)) hc⟩
    obtain⟨a,b,c,dd⟩:=Ti o f p (n+1) (q+1) (by lia) ⟨λi j hij hj=>by
     by_cases e:j<n
     .exact d.ni i j hij e
     .have e':j=n:=by lia
      subst e';by_cases e2:i=j
      .rw[e2];exact o.refl _
      .exact o.tr hd (d.ni i (j-1) (by lia) (by lia)),λi j h1 h2 h3 h4=>by
     by_cases ei:i=n
     .rw[ei];exact(al' j (by lia) h4).2
     .by_cases ej:j=n
      .rw[ej];exact(al' i (by lia) h2).1
      .exact d.al i j (by lia) (by lia) (by lia) (by lia),by lia⟩ r e2
    exact⟨a,by lia,by lia,dd⟩
theorem ZFt(o:WO lt)(g:1<=n)(l:n<=nrem)(hz:nrem<=p.size)(d:NIn lt p n):∀r,Bo lt (kas_tail3 n nrem p)=r->r.2.Perm p/\r.1<=nrem/\1<=r.1/\Srt lt r.2 r.1:=by
 intro r e;unfold kas_tail3 at e;rw[M8]at e;have k:Srt lt (v9 p 0 n) n:=λi j h m=>by rw[H9 (by lia),H9 (by lia),if_pos (by lia),if_pos (by lia)];exact d _ _ (by lia) (by lia)
 obtain⟨a,b,c,_⟩:=Zg o (v9 p 0 n) (nrem-n) n g k _ rfl;have f:(Bo lt (kas_asc (v9 p 0 n) (nrem-n) n),v9 p 0 n)=r:=e;subst f;exact⟨mirror_perm ..,by lia,by lia,c⟩
theorem ZHy(o:WO lt)(z:1<=n)(w:n<nrem)(hz:nrem<=p.size)(m:∀i j,i<n->j<n->lt (pt p i) (pt p j)=uv)(q:lt (pt p n) (pt p (n-1))=ux):
  ∀r,Bo lt (kas_descPart n nrem p)=r->r.2.Perm p/\r.1<=nrem/\1<=r.1/\Srt lt r.2 r.1:=by
 intro r e;unfold kas_descPart at e;rw[M8]at e;have v:Dn lt p (n+1) 0:=⟨λi j u y=>by
  by_cases e:j<n
  .exact m i j (by lia) e
  .have s:j=n:=by lia
   subst s;by_cases l:i=j
   .rw[l];exact o.refl _
   .exact o.tr (o.asy _ _ q) (m i (j-1) (by lia) (by lia)),λi j _ _ _ _=>by
  have t:i=n:=by lia
  have l:j=n:=by lia
  rw[t,l];exact o.refl _,by lia⟩
 obtain⟨a,b,c,d⟩:=Ti o (nrem-(n+1)) p (n+1) 0 (by lia) v _ rfl
 revert a b c d e
 generalize Bo lt (kas_desc (nrem-(n+1)) p (n+1) 0)=x;intro e a b c d;have A:=a.size_eq;split at e
 .obtain⟨f,k,g,h⟩:=ZFt o (by lia) (by lia) (by rw[v9,mirror_size];lia) (NIn.rev d (by lia)) r e;exact⟨(f.trans (mirror_perm ..)).trans a,k,g,h⟩
 .obtain⟨f,k,g,h⟩:=ZFt o (by lia) (by lia) (by lia) d.ni r e;exact⟨f.trans a,k,g,h⟩
theorem ZUL(o:WO lt)(C:1<=nrem)(hz:nrem<=p.size):∀r,Bo lt (kas_count nrem p)=r->r.2.Perm p/\r.1<=nrem/\1<=r.1/\Srt lt r.2 r.1:=by
 intro r e;unfold kas_count at e;rw[M8]at e;obtain⟨a,b,c,d⟩:=Zg o p (nrem-1) 1 (zY _) (λi j y k=>by
  have g:i=0:=by lia
  have h:j=0:=by lia
  rw[g,h];exact o.refl _) _ rfl
 revert a b c d e
 generalize Bo lt (kas_asc p (nrem-1) 1)=n;intro e a b c d;split at e
 .have f:(n,p)=r:=e;subst f;exact⟨.refl _,by lia,a,c⟩
 .rename_i m;have t:n<nrem:=by
   have:n≠nrem:=by simpa using m
   lia
  have s:=d (by lia);split at e
  .rename_i B;have f:Bo lt (if lt (pt p 0) (pt p (n-1))=ux then .ret (n,p)else kas_descPart n nrem (v9 p 0 n))=r:=e;cases q:lt (pt p 0) (pt p (n-1))with
   |true=>
    rw[q,if_pos rfl]at f;have h:(n,p)=r:=f;subst h;exact⟨.refl _,by lia,a,c⟩
   | false=>
    rw[q,if_neg (by simp)]at f;have u:∀i j,i<n->j<n->lt (pt p i) (pt p j)=uv:=λi j l k=>o.tr (c j (n-1) (by lia) (by lia) |> λz=>z) (o.tr q (c 0 i (by lia) l) |> λz=>by exact z)
    obtain⟨v,A,w,x⟩:=ZHy o a t (by rw[v9,mirror_size];lia) (λi j l k=>by
     rw[H9 (by lia),H9 (by lia),if_pos (by lia),if_pos (by lia)];exact u _ _ (by lia) (by lia)) (by
     rw[H9 (by lia),H9 (by lia),if_neg (by lia),if_pos (by lia)];rcases o.neg _ (pt p (0+n-1-(n-1))) _ s with z|z
     .exact z
     .rw[u _ _ (by lia) (by lia)]at z;cases z) r f
    exact⟨v.trans (mirror_perm ..),A,w,x⟩
  .have g:n=1:=by lia
   subst g;exact ZHy o (zY _) t hz (λi j l k=>by
    have g:i=0:=by lia
    have h:j=0:=by lia
    rw[g,h];exact o.refl _) s r e
theorem Wx(o:WO lt)(p:Array Nat)(k:Nat)(c:Srt lt p k):∀f l r,r-l<=f->l<=r->r<=k->(∀i,i<l->lt (pt p k) (pt p i)=uv)->(∀i,r<=i->i<k->lt (pt p k) (pt p i)=ux)->
  ∀m,Bo lt (kas_place p k f l r)=m->m<=k/\(∀i,i<m->lt (pt p k) (pt p i)=uv)/\(∀i,m<=i->i<k->lt (pt p k) (pt p i)=ux)
 |0,l,r,q,j,n,b,g,m,e=>by have a:l=m:=e;subst a;exact⟨by lia,b,λi d hk=>g i (by lia) hk⟩
 | f+1,l,r,q,j,n,b,g,m,e=>by
  unfold kas_place at e;split at e
  .have a:l=m:=e;subst a;exact⟨by lia,b,λi d hk=>g i (by lia) hk⟩
  .rename_i s;have a:Bo lt (if lt (pt p k) (pt p ((l+r)/2))=ux then kas_place p k f l ((l+r)/2)else kas_place p k f ((l+r)/2+1) r)=m:=e;cases h:lt (pt p k) (pt p ((l+r)/2))with
   |true=>
    rw[h,if_pos rfl]at a;refine Wx o p k c f l ((l+r)/2) (by lia) (by lia) (by lia) b (λi d hk=>?_) m a;rcases o.neg _ (pt p i) _ h with z|z
    .exact z
    .rw[c _ i d hk]at z;cases z
   |false=>
    rw[h,if_neg (by simp)]at a;exact Wx o p k c f ((l+r)/2+1) r (by lia) (by lia) n (λi d=>o.tr (c i ((l+r)/2) (by lia) (by lia)) h) g m a
theorem ZJs(o:WO lt):∀f(p:Array Nat)k,k+f=p.size->Srt lt p k->(Bo lt (kas_bin f p k)).Perm p/\Srt lt (Bo lt (kas_bin f p k)) p.size
 |0,p,k,t,c=>⟨.refl _,by
  have:k=p.size:=by lia
  rw[<-this];exact c⟩
 | f + 1,p,k,t,c=>by
  unfold kas_bin;rw[M8];obtain⟨q,g,h⟩:=Wx o p k c k 0 k (by lia) (by lia) (zY _) (λi s=>by lia) (λi s hk=>by lia) _ rfl
  revert q g h
  generalize Bo lt (kas_place p k k 0 k)=m;intro q g h;have sz:(bubble p k (k-m)).size=p.size:=bubble_size ..;have e:∀j,pt (bubble p k (k-m)) j=if j=m then pt p k else if m<j/\j<=k then pt p (j-1)else pt p j:=λj=>by
   rw[ZSP (by lia) (by lia)];have:k-(k-m)=m:=by lia
   rw[this]
  obtain⟨a,b⟩:=ZJs o f (bubble p k (k-m)) (k+1) (by lia) (λi j l v=>by
   rw[e i,e j];by_cases n:j=m
   .rw[if_pos n];by_cases d:i=m
    .rw[if_pos d];exact o.refl _
    .rw[if_neg d,if_neg (by lia)];exact g i (by lia)
   .rw[if_neg n];by_cases u:m<j
    .rw[if_pos ⟨u,by lia⟩];by_cases d:i=m
     .rw[if_pos d];exact o.asy _ _ (h _ (by lia) (by lia))
     .rw[if_neg d];by_cases r:m<i
      .rw[if_pos ⟨r,by lia⟩];exact c _ _ (by lia) (by lia)
      .rw[if_neg (by lia)];exact c _ _ (by lia) (by lia)
    .rw[if_neg (by lia),if_neg (by lia),if_neg (by lia)];exact c i j l (by lia))
  rw[sz]at b;exact⟨a.trans (bubble_perm ..),b⟩
theorem ZFu(o:WO lt)(h:1<=n):(Bo lt (kas_sort n)).toList.Perm (zX n)/\Srt lt (Bo lt (kas_sort n)) n:=by
 unfold kas_sort;rw[M8];obtain⟨a,b,c,d⟩:=ZUL o (p:=(zX n).toArray) h (by simp) _ rfl
 revert a b c d
 generalize Bo lt (kas_count n (zX n).toArray)=x;intro a b c d;have i:x.2.size=n:=by rw[a.size_eq];simp
 split
 .have e:max x.1 1=x.1:=by lia
  rw[e];obtain⟨g,f⟩:=ZJs o (n-x.1) x.2 x.1 (by lia) d;rw[i]at f;exact⟨by simpa using(g.trans a).toList,f⟩
 .have e:x.1=n:=by lia
  rw[e]at d;exact⟨by simpa[Bo]using a.toList,d⟩
end
end _D
namespace _D
open PySem PySem.Spec _L
open PyProof.Rows hiding St
variable{vA:List (xY×Obj)}{elts:List xz}
section
variable{X:Cx}{vA:List (xY×Obj)}{σ:St}{H:Hp}{s:x0}{h':Heap}
theorem ZBE{t':Nat}{fp:List xY}(I:Inv X vA σ H s)(k:∀b o,b∉fp->s.heap.get? b=uz o->h'.get? b=uz o)(g:∀b∈fp,FpOk X vA H b):Inv X vA σ H {s with heap:=h',toks:=t'}:=by
 have f:∀b u,H b=uz u->b∉fp:=λb u e z=>by rw[(g b z).1]at e;cases e
 refine I.step (λb i=>?_) (λb o _ _ a e _=>k b o a e) (λb o _ _ a e _=>⟨o.slots,k b o a e⟩) (λ_ _ _ _ n=>n)
  (λb o a e=>⟨o,k b o a e⟩) (λ_ _ e=>e) (λ_ _ _ e=>e) (λb C e=>⟨#[],by rw[e];simp⟩) (λm l=>?_) (λb u e=>?_) I.bare
 .obtain⟨B,x,F,t,A,j⟩:=g b i;exact⟨t,x,A,j⟩
 .obtain⟨o,p,w,y,r⟩:=l;exact⟨o,p,w,k _ o (λz=>(g _ z).2.1 rfl) y,r⟩
 .refine(I.hok b u e).stay (λc v a q=>k c v ?_ q) (λ_ q=>q) λ_ _ q=>q
  rcases a with z|z
  .rw[z];exact f b u e
  .exact f c _ z
theorem ZGZ{t':Nat}{fp:List xY}{p:xY}{xs:List V}{its:List xB}(I:Inv X vA σ H s)(k:∀b o,b∉fp->s.heap.get? b=uz o->h'.get? b=uz o)(h:∀b∈fp,FpOk X vA H b)(hp:s.heap.objs.size<=p)
  (hz:xs.length<=sizeLine) (r:Vals xs its) (i:Tp h' p its):Inv X vA σ (upd H p (.tup xs)) {s with heap:=h',toks:=t'}:=by
 obtain⟨d,f,l,j,g,e⟩:=I.Hh hp (I.hok.fresh hp);exact Yk (ZBE I k h) d (z0 I.sz hp) f g e ⟨hz,its,r,_,i,rfl,_,rfl⟩
end
def Src.sq(K:za)(H:Hp)(xs:List V):Src->Prop
 |.l a=>SqL K H a xs
 |.t a=>SqT K H a xs
theorem Src.sq.val{X:Cx}{d:St}{H:Hp}{s:x0}{b:Src}{xs:List V}(I:Inv X vA d H s)(h:b.sq X.K H xs):∃its:List xB,Vals xs its/\b.val s.heap its.toArray/\xs.length<=sizeLine:=by
 cases b with
 |l a=>obtain⟨its,r,p,c⟩:=I.list h;exact⟨its,r,p.isList,c⟩
 |t a=>obtain⟨its,r,p,c⟩:=I.tuple h;exact⟨its,r,p,c⟩
theorem Src.sq.inj{X:Cx}{c:St}{H:Hp}{s:x0}{b:Src}{xs ys:List V}(I:Inv X vA c H s)(h:b.sq X.K H xs)(h':b.sq X.K H ys):xs=ys:=by
 cases b with
 |l a=>exact I.ZCd h h'
 |t a=>exact I.ZBY h h'
def Ite(K:za)(sr:Src)(n:Int):It:=
 ⟨λi H=>∃xs x,sr.sq K H xs/\xs[i]?=uz x,λi H v H'=>∃p x,v=.ref p/\H p=uj/\H'=upd H p (.tup [.int (n+i),x])/\∀xs,sr.sq K H xs->xs[i]?=uz x,λi H=>∃xs,sr.sq K H xs/\xs.length<=i⟩
theorem ZFe{P:xk}{w:xC}{K:za}{x1}{pos:Pos}(Z:Src)(n:Int)(e it:xY)(B:e≠it):
  Turn P w K (.Tuple elts x1 pos) (Ite K Z n) [e,it] e (λi h=>∃g a,En h e it .none (n+i) g a/\Gv (n+i) g/\Z.it h it i) where
 mem:=by simp
 obj:=λi h f b j=>by
  obtain⟨g,a,d,_,o,ho,_,hd⟩:=f;rcases(show b=e∨b=it by simpa using j)with rfl|rfl
  .exact⟨_,d,λv z=>by cases z⟩
  .exact⟨o,ho,λv z=>by rw[hd]at z;cases z⟩
 keep:=λi h h' f k=>by obtain⟨g,a,d,y,p⟩:=f;exact⟨g,a,k e (by simp) _ d,y,p.at λo q=>k it (by simp) o q⟩
 item:=by
  intro X L hw N Y i m s σ H E I F f y;subst L hw N;obtain⟨xs,x,J,Q⟩:=y;obtain⟨S,O,M,hz⟩:=Src.sq.val I J;obtain⟨u,hu,ru⟩:=O.get Q;obtain⟨g,a,d,r,p⟩:=f;refine ZVH d r p M (by simpa using hu) B λh1 t tk e1 i1 t1 z1 k1=>⟨_,rfl,?_⟩
  refine ZV4 e1 λh2 e2 T=>?_
  have A:=jV (zz d);have I2:Inv X m σ (upd H s.heap.objs.size (.tup [.int (n+i),x])) {s with heap:=h2,toks:=tk}:=
   ZGZ I (λb o j q=>by
    have c:b≠e/\b≠it:=by simpa using j
    exact T.extBut b o c.1 (k1 b o c.1 c.2 q)) F (zY _) (by show 2<=sizeLine;decide) (.cons ⟨t,rfl⟩ (.cons ru .nil)) (T.extBut _ _ A t1)
  refine⟨.ref s.heap.objs.size,_,I2,rfl,⟨_,x,rfl,I.hok.fresh (zY _),rfl,λys hy=>by rw[Src.sq.inj I hy J];exact Q⟩,⟨.none,u,?_,.inl rfl,i1.at λo q=>T.extBut _ _ (Ne.symm B) q⟩,λb j=>?_⟩
  .have ee:n+(i:Int)+1=n+((i+1:Nat):Int):=by lia
   rw[<-ee];exact e2
  .have c:b=e∨b=it:=by simpa using j
   rw[Ag (λz=>?_)]
   .exact(F b j).1
   .rcases c with rfl|rfl
    .exact A z.symm
    .have C:=Src.it.lt p;rw[z]at C;exact qZ _ C
 done:=by
  intro X L hw N Y i m s σ H E I F f y;subst L hw N;obtain⟨xs,J,Q⟩:=y;obtain⟨S,O,M,hz⟩:=Src.sq.val I J;obtain⟨g,a,d,r,p⟩:=f;have hl:=O.length;refine ZLw (I.ok.hd Y) d p M (by simp;lia) λh1 xb=>⟨rfl,?_⟩
  exact ZBE I (λb o j q=>xb b o (λz=>j (by simp[z])) q) F
 self:=λ_ _ _ _ _ f h=>by obtain⟨g,a,d,_⟩:=f;exact ZBg d h
section
variable{X:Cx}{E:XK}
theorem ZUp{prog:xk}{w:xC}{A:xq}{E:xB->x0->Prop}{s:x0}{sr:Src}{xs:Array xB}{Q:xB->x0->Prop}(hv:sr.val s.heap xs)
  (h:∀h',En h' (s.heap.objs.size+1) s.heap.objs.size .none 0 .none .none->sr.it h' s.heap.objs.size 0->(∀b o,s.heap.get? b=uz o->h'.get? b=uz o)->Q (.ref (s.heap.objs.size+1)) {s with heap:=h'}):
  vW (xU prog w) A (call (.type "enumerate") [.ref sr.adr]) Q E s:=by
 have g:Meets (Builtin.«enumerate.__new__» ⟨[.type "enumerate",.ref sr.adr],[]⟩) (λ_ R s=>sr.val s.heap xs/\
   R (.ok (.ret (.ref (s.heap.push {cls:=.type sr.itn,data:=.fields #[.ref sr.adr,.int 0 0]}).objs.size)))
    {s with heap:=(s.heap.push {cls:=.type sr.itn,data:=.fields #[.ref sr.adr,.int 0 0]}).push {cls:=.type "enumerate",data:=.fields #[.none,.bool uv,.ref s.heap.objs.size,vQ 0,.none,.none]}}):=
  .of_wp λprog w A R s h=>by
   obtain⟨hp,g,d,tk,os⟩:=s;obtain⟨hl,h⟩:=h;have hsub:=sub_enumerate;have hL:=hl
   wp_walk
   refine wpAny_stack_any λst=>v4 ?_
   split
   .rename_i c _ _ _ _ _
    cases(c==Value.type "enumerate")<;>(wp_walk using Src.iter hL;exact⟨_,rfl,h⟩)
   .wp_walk using Src.iter hL
    exact⟨_,rfl,h⟩
 refine callType_new w9 (by decide) (PySem.F.typeCall_enumerate_1 _) (PySem.F.newCall_enumerate_1 _) (λobj=>PySem.F.args_object_init_2 obj _) wD g ⟨hv,?_⟩;have hz:(s.heap.push {cls:=.type sr.itn,data:=.fields #[.ref sr.adr,.int 0 0]}).objs.size=s.heap.objs.size+1:=qy ..;rw[hz];have he:En ((s.heap.push {cls:=.type sr.itn,data:=.fields #[.ref sr.adr,.int 0 0]}).push {cls:=.type "enumerate",data:=.fields #[.none,.bool uv,.ref s.heap.objs.size,vQ 0,.none,.none]}) (s.heap.objs.size+1) s.heap.objs.size .none 0 .none .none:=by
  have:=zy (s.heap.push {cls:=.type sr.itn,data:=.fields #[.ref sr.adr,.int 0 0]}) (o:={cls:=.type "enumerate",data:=.fields #[.none,.bool uv,.ref s.heap.objs.size,vQ 0,.none,.none]}) rfl;rw[hz]at this;exact this
 exact⟨⟨_,he,rfl⟩,h _ he ⟨_,zQ _ (zy _ rfl),rfl,rfl⟩ λb o x=>zQ _ (zQ _ x)⟩
def ZUy(K:za)(ta:TA):TI:=λσ H R=>ta σ H λvs H1=>∃sr xs,vs=[.ref (Src.adr sr)]/\sr.sq K H1 xs/\R (Ite K sr 0) H1
theorem ZSE{x1}(o:Gl X "enumerate")(y:X.mg "enumerate"=uj)(F:PA X [a] ta)(v:vX [a] X.env=[(uv,eval a X.env)]:=by rfl):PI X (.Tuple elts x1 tp) (.Call (.Name "enumerate" p) [a] [] pos) (ZUy X.K ta):=by
 intro f s z H R I h;refine Call_ (Gx I o y wE (zg (thn (F pos f s z H _ I h) λP c ⟨L,k,g,C,l⟩=>?_) v rfl));obtain⟨w,N,e,n,q⟩:=l;subst e;cases C with
 |cons r t=>
  cases t;cases r;obtain⟨A,M,m,J⟩:=Src.sq.val g n;refine ZUp m λO j B x=>?_
  refine ZBg j ?_;refine⟨c.heap.objs.size+1,[c.heap.objs.size+1,c.heap.objs.size],_,_,k,rfl,g.kept x,ZFe w 0 _ _ (Nat.succ_ne_self _),⟨.none,.none,by simpa using j,.inl rfl,B⟩,λb u=>?_,q⟩;have i:b=c.heap.objs.size+1∨b=c.heap.objs.size:=by simpa using u
  have d:c.heap.objs.size<=b:=by rcases i with rfl|rfl<;>lia
  exact g.Hh d (g.hok.fresh d)
end
inductive DrV (K:za) (H:Hp) (i:Nat):List Src->List V->Prop where
 |nil:DrV K H i [] []
 |cons {sr r v us xs} (hq:Src.sq K H xs sr) (hx:xs[i]?=uz v) (t:DrV K H i r us):DrV K H i (sr::r) (v::us)
inductive StV (K:za) (H:Hp) (i:Nat):List Src->Prop where
 |here {sr r xs} (hq:Src.sq K H xs sr) (hx:xs.length<=i):StV K H i (sr::r)
 |there {sr r v xs} (hq:Src.sq K H xs sr) (hx:xs[i]?=uz v) (t:StV K H i r):StV K H i (sr::r)
def Itz(K:za)(ls:List Src):It:=
 ⟨λi H=>∃us,DrV K H i ls us,λi H v H'=>∃p us,v=.ref p/\H p=uj/\H'=upd H p (.tup us)/\∀us',DrV K H i ls us'->us'=us,λi H=>StV K H i ls⟩
theorem DrV.length{K:za}{H:Hp}{i:Nat}{a:List Src}{us:List V}(d:DrV K H i a us):us.length=a.length:=by
 induction d with
 |nil=>rfl
 |cons _ _ _ b=>simp[b]
section
variable{X:Cx}{vA:List (xY×Obj)}{σ:St}{H:Hp}{s:x0}
theorem DrV.inj(I:Inv X vA σ H s):∀{f:List Src}{us us':List V},DrV X.K H i f us->DrV X.K H i f us'->us=us'
 |[],_,_,d,b=>by cases d;cases b;rfl
 | k::f,_,_,d,b=>by
  cases d with
  | cons g j t=>
   cases b with
   |cons c a h=>
    have e:=Src.sq.inj I g c;subst e;rw[j]at a;cases a;rw[DrV.inj I t h]
theorem DrV.drw(I:Inv X vA σ H s):∀{l:List (Src×xY)}{us:List V},DrV X.K H i (l.map (·.1)) us->(∀q∈l,q.1.it s.heap q.2 i)->∃a,Drw s.heap i l a/\Vals us a
 |[],us,d,h=>by cases d;exact⟨[],.nil,.nil⟩
 | (n,p)::l,us,d,h=>by
  cases d with
  |cons b o t=>
   obtain⟨c,m,g,r⟩:=Src.sq.val I b;obtain⟨u,f,e⟩:=m.get o;obtain⟨a,j,k⟩:=DrV.drw I t λq b=>h q (zV _ b)
   exact⟨u::a,.cons (h (n,p) zW) g (by simpa using f) j,.cons e k⟩
theorem StV.drw(I:Inv X vA σ H s):∀{l:List (Src×xY)},StV X.K H i (l.map (·.1))->(∀q∈l,q.1.it s.heap q.2 i)->DrwE s.heap i l
 |[],d,h=>by cases d
 | (f,p)::l,d,h=>by
  cases d with
  |here a g=>
   obtain⟨b,e,c,k⟩:=Src.sq.val I a;have m:=e.length;exact .here (h (f,p) zW) c (by simp;lia)
  |there a g t=>
   obtain⟨b,e,c,k⟩:=Src.sq.val I a;obtain⟨u,j,n⟩:=e.get g;exact .there (h (f,p) zW) c (by simpa using j) (StV.drw I t λq a=>h q (zV _ a))
end
theorem ZVE{P:xk}{w:xC}{K:za}{x1}{pos:Pos}(l:List (Src×xY))(z TI TO:xY)(a:ApZ TO l)(A:z≠TO/\(∀q∈l,q.2≠z/\q.1.adr≠z))(M:TI≠z/\TI≠TO/\∀q∈l,q.2≠TI)(hsz:l.length<=1000000)(x:l≠[]):
  Turn P w K (.Tuple elts x1 pos) (Itz K (l.map (·.1))) (z::TI::TO::l.map (·.2)) z
   (λi h=>IsZip h z TI TO .none/\Tp h TI (l.map λq=>Value.ref q.2)/\(∃r,Tp h TO r/\r.length=l.length)/\∀q∈l,q.1.it h q.2 i) where
 mem:=by simp
 obj:=λi h j b c=>by
  obtain⟨m,d,⟨r,f,_⟩,n⟩:=j;rcases zj.mp c with rfl|c
  .exact⟨_,m,λv z=>by cases z⟩
  .rcases zj.mp c with rfl|c
   .exact⟨_,d,λv z=>by cases z⟩
   .rcases zj.mp c with rfl|c
    .exact⟨_,f,λv z=>by cases z⟩
    .obtain⟨q,g,rfl⟩:=zA.mp c;obtain⟨o,p,_,Q⟩:=n q g;exact⟨o,p,λv z=>by rw[Q]at z;cases z⟩
 keep:=λi h h' j k=>by obtain⟨m,d,⟨r,f,p⟩,n⟩:=j;exact⟨k z (by simp) _ m,k TI (by simp) _ d,⟨r,k TO (by simp) _ f,p⟩,λq g=>(n q g).at λo e=>k q.2 (by simp only[zj];exact .inr (.inr (.inr (zA.mpr ⟨q,g,rfl⟩)))) o e⟩
 item:=by
  intro X C hw L O i t s σ H E I y j J;subst C hw L;obtain⟨T,F⟩:=J;obtain⟨m,d,⟨r,f,p⟩,n⟩:=j;obtain⟨ws,S,rv⟩:=DrV.drw I F n;refine ZMV m d f p hsz x a A S λh1 z1 t1 i1 p1 s1 B=>⟨_,rfl,?_⟩
  refine wpAny_letOwnedTupleGo_zip z1 λh2 z2 u=>?_
  have N:T.length<=sizeLine:=by rw[F.length,zU];exact z0 hsz size6
  have I2:=
   ZGZ (t':=s.toks) I (λb o c q=>by simp only[zj,not_or]at c;exact u.extBut b o c.1 (B b o c.1 c.2.2.1 c.2.2.2 q)) y (zY _) N rv (u.extBut _ _ (jV (zz m)) p1)
  refine⟨.ref s.heap.objs.size,_,I2,rfl,⟨_,T,rfl,I.hok.fresh (zY _),rfl,λus' Y=>DrV.inj I Y F⟩,⟨z2,(λb o U b2 Z q=>u.extBut b o U (B b o U b2 Z q)) TI _ M.1 M.2.1 (λhm=>?_) d,⟨ws,u.extBut _ _ (Ne.symm A.1) t1,S.length⟩,λq g=>(i1 q g).at λo e=>u.extBut _ _ (A.2 q g).1 e⟩,λb c=>?_⟩
  .obtain⟨q,g,e⟩:=zA.mp hm;exact M.2.2 q g e
  .rw [Ag (λe=>?_)]
   .exact(y b c).1
   .have lt:b<s.heap.objs.size:=by
     rcases zj.mp c with rfl|c
     .exact zz m
     .rcases zj.mp c with rfl|c
      .exact zz d
      .rcases zj.mp c with rfl|c
       .exact zz f
       .obtain⟨q,g,rfl⟩:=zA.mp c;exact(n q g).lt
    rw[e]at lt;exact qZ _ lt
 done:=by
  intro X C hw L O i t s σ H E I y j J;subst C hw L;obtain⟨m,d,⟨r,f,p⟩,n⟩:=j;refine ZMN (I.ok.hd O) m d f p hsz x a A (StV.drw I J n) λh1 B=>⟨rfl,?_⟩
  exact ZBE I (λb o c q=>by simp only[zj,not_or]at c;exact B b o c.1 c.2.2.1 c.2.2.2 q) y
 self:=λ_ _ _ _ _ j h=>wpAny_pyIter_zip j.1 h
def Fv (G:DH) (j:Nat):List D->Option (Option (List D))
 |[]=>uz (uz [])
 | d::r=>match Bd d G with
  |none=>uj
  | some xs=>match xs[j]? with
   |none=>uz uj
   |some x=>match Fv G j r with
    |some (uz ys)=>uz (uz (x::ys))
    |o=>o
def Ej(ds:List D)(j:Nat)(G:DH):Option (Option D):=(Fv G j ds).map λo=>o.map D.tup
def lenOf(G:DH)(d:D):Nat:=match Bd d G with
 |some xs=>xs.length
 |none=>0
def Hz(G:DH)(d:D):Bool:=(Bd d G).isSome
def De(n:Int)(d:D)(j:Nat)(G:DH):Option (Option D):=match Bd d G with
 |none=>uj
 |some xs=>uz (xs[j]?.map λx=>.tup [.int (n+j),x])
def Es(ds:List D)(G:DH):R ItD:=match ds with
 |[d]=>if Hz G d=ux then .ok (.fn (lenOf G d) (De 0 d)) G else .bad
 |_=>.bad
def Eg(n:Nat)(ds:List D)(G:DH):R ItD:=if ds.all (Hz G)=ux/\ds.length=n then .ok (.fn (lenOf G (ds.headD .non)) (Ej ds)) G else .bad
section
variable{X:Cx}{E:XK}
theorem ZBG{a:Wd}{G:DH}{d:D}{v:V}{xs:List D}(s:Sim a G)(r:Rep a d v)(h:Bd d G=uz xs):
  ∃j:Src,v=.ref j.adr/\(∃vs,j.sq a.K a.H vs)/\∀b:Wd,Ext a b->∀e,Sim b e->∀ys,Bd d e=uz ys->∃us,j.sq b.K b.H us/\Reps b ys us:=by
 cases d with
 |tup B=>
  obtain⟨p,vs,rfl,f,n⟩:=r;refine⟨.t p,rfl,⟨vs,f⟩,λb x e k ys c=>?_⟩;cases(c);exact⟨vs,x.sqT f,n.mono x⟩
 |fl B=>
  obtain⟨p,vs,rfl,f,n⟩:=r;refine⟨.l p,rfl,⟨vs,f.sq⟩,λb x e k ys c=>?_⟩;cases(c);exact⟨vs,(x.fzL f).sq,n.mono x⟩
 | ref i=>
  obtain⟨z,rfl⟩:=r;have C:∃g,G[i]?=uz (.lst g):=by
   unfold Bd at h;dsimp only at h;split at h
   .rename_i g q;exact⟨g,q⟩
   .cases h
  obtain⟨g,q⟩:=C;obtain⟨vs,y,_⟩:=s.lst q;refine⟨.l (a.m i),rfl,⟨vs,.of y⟩,λb x e k ys c=>?_⟩;unfold Bd at c;dsimp only at c;split at c
  .rename_i w o;cases c;obtain⟨us,u,A⟩:=k.lst o;rw[x.m i z]at u;exact⟨us,.of u,A⟩
  .cases c
 |_=>cases h
theorem ZKT{a:Wd}{G:DH}{d:D}{v:V}{z:Src}(hk:a.K=X.K)(r:∀b:Wd,Ext a b->∀h,Sim b h->∀ys,Bd d h=uz ys->∃us,z.sq b.K b.H us/\Reps b ys us)(n:Nat):RepI a (.fn n (De 0 d)) (Ite X.K z 0):=by
 intro b x h j i;have A:=x.k.trans hk;constructor
 .intro e f;unfold De at f;split at f
  .cases f
  .rename_i ys m;obtain⟨us,g,l⟩:=r b x h j ys m;rw[A]at g;cases c:ys[i]? with
   |none=>rw[c]at f;cases f
   |some y=>
    rw[c]at f;have q:D.tup [.int (0+i),y]=e:=by simpa using f
    subst q;obtain⟨u,t,B⟩:=l.get c;refine⟨⟨us,u,g,t⟩,?_⟩;rintro w F ⟨p,C,rfl,hp,rfl,o⟩;refine⟨b.put p (.tup [.int (0+i),C]),rfl,Ext.put hp,j.put hp,p,_,rfl,.of Dy,?_⟩;have s:=o us g;rw[t]at s;cases s;exact⟨_,_,rfl,rfl,Reps.cons (B.mono (Ext.put hp)) rfl⟩
 .intro f;unfold De at f;split at f
  .cases f
  .rename_i ys m;obtain⟨us,g,l⟩:=r b x h j ys m;rw[A]at g;cases c:ys[i]? with
   |none=>exact⟨us,g,by rw[<-l.length];exact qU.mp c⟩
   |some y=>rw[c]at f;cases f
theorem ZSa{elts:List xz}{x1}{tp:Pos}{e:xz}{ta:DA}{p pos:Pos}(o:Gl X "enumerate")(y:X.mg "enumerate"=uj)(A:QA X E [e] ta)(t:vX [e] X.env=[(uv,eval e X.env)]:=by rfl):
  QI X E (.Tuple elts x1 tp) (.Call (.Name "enumerate" p) [e] [] pos) (Bf Es ta):=(ZSE o y A t).mono λJ H Q h=>by
 obtain⟨a,S,G,hk,rfl,s,r,h⟩:=h;refine⟨a,S,G,hk,rfl,s,r,(Ol h).imp ?_⟩;rintro F _ ⟨b,C,i,rfl,x,f,q,-,c⟩;unfold Es at c;split at c
 .rename_i d;split at c
  .rename_i hok;obtain⟨v,r,n,j,l⟩:=q;cases(l);subst n;obtain⟨I,B⟩:=jZ.mp (hok);obtain⟨u,rfl,⟨z,m⟩,w⟩:=ZBG f j B;have g:=x.k.trans hk;exact⟨u,z,rfl,by rw[<-g];exact m,c b _ (Ext.refl b) f (ZKT (G:=i) (v:=.non) g w _)⟩
  .exact c.elim
 .exact c.elim
theorem ZFy(s:Sim a G):∀{l:List D}{vs:List V},Reps a l vs->l.all (Hz G)=ux->∃j:List Src,vs=j.map (λm=>V.ref m.adr)/\(∀m∈j,∃us,m.sq a.K a.H us)/\
   ∀b:Wd,Ext a b->∀f,Sim b f->∀i,(∀ys,Fv f i l=uz (uz ys)->∃us,DrV b.K b.H i j us/\Reps b ys us)/\(Fv f i l=uz uj->StV b.K b.H i j)
 |[],vs,r,_=>by
  cases(r)
  refine⟨[],rfl,(λ_ h=>nomatch h),λb x f k i=>⟨λys h=>?_,λh=>?_⟩⟩
  .cases h;exact⟨[],.nil,rfl⟩
  .cases h
 | d::l,vs,r,h=>by
  rw[qN,z5]at h;obtain⟨v,U,rfl,M,O⟩:=r;obtain⟨T,S⟩:=jZ.mp (h.1);obtain⟨m,rfl,P,L⟩:=ZBG s M S;obtain⟨j,rfl,A,n⟩:=ZFy s O h.2;refine⟨m::j,rfl,λF z=>?_,λb x f k i=>⟨λys c=>?_,λc=>?_⟩⟩
  .rcases zj.mp z with rfl|z
   .exact P
   .exact A F z
  .unfold Fv at c;split at c
   .cases c
   .rename_i q t;obtain⟨us,p,o⟩:=L b x f k q t;split at c
    .cases c
    .rename_i y e;obtain⟨u,g,J⟩:=o.get e;split at c
     .rename_i w B;cases c;obtain⟨I,N,Q⟩:=(n b x f k i).1 w B;exact⟨u::I,.cons p g N,Reps.cons J Q⟩
     .rename_i C;exact absurd c (C _)
  .unfold Fv at c;split at c
   .cases c
   .rename_i q t;obtain⟨us,p,o⟩:=L b x f k q t;split at c
    .rename_i e;exact .here p (by rw[<-o.length];exact qU.mp e)
    .rename_i y e;obtain⟨u,g,J⟩:=o.get e;split at c
     .cases c
     .exact .there p g ((n b x f k i).2 c)
theorem ZRX(hk:a.K=X.K)(m:∀b:Wd,Ext a b->∀f,Sim b f->∀i,(∀ys,Fv f i ds=uz (uz ys)->∃us,DrV b.K b.H i ls us/\Reps b ys us)/\(Fv f i ds=uz uj->StV b.K b.H i ls))(n:Nat):
  RepI a (.fn n (Ej ds)) (Itz X.K ls):=by
 intro b x f h i;have q:=x.k.trans hk;constructor
 .intro e c;unfold Ej at c;cases g:Fv f i ds with
  |none=>rw[g]at c;cases c
  | some o=>
   cases o with
   |none=>rw[g]at c;cases c
   |some ys=>
    rw[g]at c;have j:D.tup ys=e:=by simpa using c
    subst j;obtain⟨us,d,r⟩:=(m b x f h i).1 ys g;rw[q]at d;refine⟨⟨us,d⟩,?_⟩;rintro w t ⟨p,s,rfl,hp,rfl,l⟩;cases l us d;exact⟨b.put p (.tup us),rfl,Ext.put hp,h.put hp,p,us,rfl,.of Dy,r.mono (Ext.put hp)⟩
 .intro c;unfold Ej at c;cases g:Fv f i ds with
  |none=>rw[g]at c;cases c
  | some o=>
   cases o with
   |none=>
    have:=(m b x f h i).2 g;rw[q]at this;exact this
   |some ys=>rw[g]at c;cases c
def ZAf(n:Nat)(K:za)(ta:TA):TI:=λσ H R=>ta σ H λvs H1=>∃ls:List Src,vs=ls.map (λsr=>V.ref sr.adr)/\(∀sr∈ls,∃us,sr.sq K H1 us)/\ls.length=n/\R (Itz K ls) H1
theorem ZAp:∀{b:List Src}{us:List xB},Vals (b.map λa=>V.ref a.adr) us->us=b.map λa=>Value.ref a.adr
 |[],us,h=>by cases h;rfl
 | a::b,us,h=>by
  rw[zk]at h;cases h with
  |cons r c=>
   cases r;rw[ZAp c]
   rfl
theorem U9{a:List Src}{n:Nat}{q:Src×Nat}(h:q∈a.zipIdx n):q.1∈a/\n<=q.2/\q.2<n+a.length:=by obtain⟨i,b,rfl⟩:=qx h;simp only[List.length_zipIdx]at b;simp only[List.getElem_zipIdx];exact⟨qw b,by lia,by lia⟩
theorem ZDh{x1}{tp:Pos}{N:St}{H:Hp}{s:x0}{R:It->Hp->Prop}{d:List Src}(I:Inv X vA N H s)(p:∀c∈d,∃us,c.sq X.K H us)(u:d≠[])(M:d.length<=1000000)
  (x:checkTypeCall "zip" ⟨d.map λc=>Value.ref c.adr,[]⟩=pure ()) (m:xM "zip.__new__" ⟨.type "zip"::d.map λc=>Value.ref c.adr,[]⟩=pure ()) (hok:∀obj,argsOk "object.__init__" ⟨obj::d.map λc=>Value.ref c.adr,[]⟩)
  (q:R (Itz X.K d) H):vW (xU X.prog X.w) X.A (call (.type "zip") (d.map λc=>Value.ref c.adr)) (λv U=>vW (xU X.prog X.w) X.A (pyIter v) (PIE X vA N (.Tuple elts x1 tp) R) X.xe U) X.xe s:=by
 have B:∀c∈d,∃J,c.val s.heap J:=λc a=>by obtain⟨us,h⟩:=p c a;obtain⟨its,_,L,_⟩:=Src.sq.val I h;exact⟨_,L⟩
 have y:∀c∈d,c.adr<s.heap.objs.size:=λc a=>by obtain⟨J,h⟩:=B c a;obtain⟨o,n,Z,_⟩:=h.obj;exact zz Z
 refine ZK4 B M x m hok λL n z F l t hi W=>?_
 refine wpAny_pyIter_zip F ?_
 have C:(d.zipIdx s.heap.objs.size).map (·.1)=d:=by refine qI (by simp) λi S O=>by simp
 have Q:(d.zipIdx s.heap.objs.size).map (·.2)=List.range' s.heap.objs.size d.length:=by refine qI (by simp) λi S O=>by simp[Nat.add_comm]
 have g:∀q∈d.zipIdx s.heap.objs.size,q.1.adr<s.heap.objs.size/\s.heap.objs.size<=q.2/\q.2<n:=λq a=>⟨y _ (U9 a).1,(U9 a).2.1,by rw[z];exact(U9 a).2.2⟩
 have f:s.heap.objs.size<=n:=by rw[z];exact jS _ _
 have T:=ZVE (P:=X.prog) (w:=X.w) (K:=X.K) (elts:=elts) (x1:=x1) (pos:=tp) (d.zipIdx s.heap.objs.size) (n+2) n (n+1) ⟨by rw[Q];exact List.nodup_range',λq a=>z8 (zq (g q a).1 (Nat.le_succ_of_le f)),λq a r Y=>z8 (zq (g q a).1 (g r Y).2.1),λq a=>z8 (qR (g q a).2.2)⟩ ⟨Nat.succ_ne_self (n+1),λq a=>⟨z8 (zq (g q a).2.2 (jS n 2)),z8 (zq (g q a).1 (z0 f (jS n 2)))⟩⟩
  ⟨z8 (Nat.lt_add_of_pos_right (by decide)),z8 (qJ n),λq a=>z8 (g q a).2.2⟩ (by simpa using M) (by intro e;apply u;rw[<-C,e];rfl)
 rw [C]at T;refine⟨n+2,_,_,_,H,rfl,I.kept (t':=s.toks) W,T,⟨F,l,⟨_,t,by simp⟩,hi⟩,λb j=>?_,q⟩;have k:s.heap.objs.size<=b:=by
  rcases zj.mp j with rfl|j
  .exact z0 f (jS n 2)
  .rcases zj.mp j with rfl|j
   .exact f
   .rcases zj.mp j with rfl|j
    .exact Nat.le_succ_of_le f
    .obtain⟨q,p,rfl⟩:=zA.mp j;exact(U9 p).2.1
 exact I.Hh k (I.hok.fresh k)
theorem ZTg(a b c:xB):checkTypeCall "zip" ⟨[a,b,c],[]⟩=pure ():=by kernel_rfl
theorem ZTQ(a b c:xB):xM "zip.__new__" ⟨[.type "zip",a,b,c],[]⟩=pure ():=by kernel_rfl
theorem ZOF(a b c d:xB):argsOk "object.__init__" ⟨[a,b,c,d],[]⟩:=by unfold argsOk;rw[signature?_of (n:=['_','_','t','i','n','i','_','_']) (by kernel_rfl) wM];kernel_rfl
theorem ZVc{elts:List xz}{x1}{tp:Pos}{a b:xz}{ta:TA}{p pos:Pos}(k:Gl X "zip")(o:X.mg "zip"=uj)(n:PA X [a,b] ta)(l:vX [a,b] X.env=[(uv,eval a X.env),(uv,eval b X.env)]:=by rfl)(d:vX [b] X.env=[(uv,eval b X.env)]:=by rfl):
  PI X (.Tuple elts x1 tp) (.Call (.Name "zip" p) [a,b] [] pos) (ZAf 2 X.K ta):=by
 intro c s g H R I h;refine Call_ (Gx I k o wO (zg (thn (n pos c s g H _ I h) λu w ⟨v,t,i,m,f⟩=>?_) (by rw[l,d]) (by rw[d];rfl)));obtain⟨r,rfl,j,e,q⟩:=f;cases ZAp m
 match r,e with
 |[x,y],_=>exact ZDh i j (by simp) (by simp) (PySem.F.typeCall_zip_2 _ _) (PySem.F.newCall_zip_2 _ _) (λobj=>PySem.F.args_object_init_3 obj _ _) q
theorem ZTY{elts:List xz}{x1}{tp:Pos}{a b c:xz}{ta:TA}{p pos:Pos}(l:Gl X "zip")(r:X.mg "zip"=uj)(o:PA X [a,b,c] ta)(m:vX [a,b,c] X.env=[(uv,eval a X.env),(uv,eval b X.env),(uv,eval c X.env)]:=by rfl)
  (e:vX [b,c] X.env=[(uv,eval b X.env),(uv,eval c X.env)]:=by rfl):PI X (.Tuple elts x1 tp) (.Call (.Name "zip" p) [a,b,c] [] pos) (ZAf 3 X.K ta):=by
 intro d s i H R I h;refine Call_ (Gx I l r wO (zg (thn (o pos d s i H _ I h) λv A ⟨w,u,j,n,g⟩=>?_) (by rw[m,e]) (by rw[e];rfl)));obtain⟨t,rfl,k,f,q⟩:=g;cases ZAp n
 match t,f with
 |[x,y,z],_=>exact ZDh j k (by simp) (by simp) (ZTg _ _ _) (ZTQ _ _ _) (λobj=>ZOF obj _ _ _) q
theorem ZIh{K:za}{n:Nat}{ta:DA}{d:St}{H:Hp}{Q:It->Hp->Prop}(l:K=X.K)(h:lI K E (Bf (Eg n) ta) d H Q):ZAf n K (lA K E ta) d H Q:=by
 subst l;obtain⟨a,S,G,hk,rfl,s,r,h⟩:=h;refine⟨a,S,G,hk,rfl,s,r,(Ol h).imp ?_⟩;rintro v _ ⟨b,w,u,rfl,x,g,q,-,c⟩;unfold Eg at c;split at c
 .rename_i hok;obtain⟨f,e,o,j⟩:=ZFy g q hok.1;have i:=x.k.trans hk;have m:f.length=n:=by have:=q.length;rw[e,zU]at this;lia
  exact⟨f,e,λt p=>by rw[<-i];exact o t p,m,c b _ (Ext.refl b) g (ZRX i j _)⟩
 .exact c.elim
theorem ZVD{elts:List xz}{x1}{tp:Pos}{a b:xz}{ta:DA}{p pos:Pos}(d:Gl X "zip")(g:X.mg "zip"=uj)(f:QA X E [a,b] ta)(e:vX [a,b] X.env=[(uv,eval a X.env),(uv,eval b X.env)]:=by rfl)(c:vX [b] X.env=[(uv,eval b X.env)]:=by rfl):
  QI X E (.Tuple elts x1 tp) (.Call (.Name "zip" p) [a,b] [] pos) (Bf (Eg 2) ta):=(ZVc d g f e c).mono λi H Q h=>ZIh rfl h
theorem ZSl{elts:List xz}{x1}{tp:Pos}{a b c:xz}{ta:DA}{p pos:Pos}(e:Gl X "zip")(i:X.mg "zip"=uj)(g:QA X E [a,b,c] ta)(f:vX [a,b,c] X.env=[(uv,eval a X.env),(uv,eval b X.env),(uv,eval c X.env)]:=by rfl)
  (d:vX [b,c] X.env=[(uv,eval b X.env),(uv,eval c X.env)]:=by rfl):QI X E (.Tuple elts x1 tp) (.Call (.Name "zip" p) [a,b,c] [] pos) (Bf (Eg 3) ta):=(ZTY e i g f d).mono λj H Q h=>ZIh rfl h
end
def ixL:D->D->DH->R D
 | .ref p,.int k,G=>match G[p]? with
  |some (.lst xs)=>match atI xs k with
   |some v=>.ok v G
   |none=>.bad
  |_=>.bad
 |_,_,_=>.bad
def Jk(to ti te:DE)(f:D->D->DH->R D):DS:=λS G=>(to S G).toS λo G1=>(ti S G1).toS λi G2=>(ixL o i G2).toS λx G3=>(te S G3).toS λy G4=>(f x y G4).toS λz G5=>(K4 o i z G5).toS λ_ G6=>.nx S G6
noncomputable def Hd:DS:=λ_ _=>.bad
section
variable{X:Cx}{E:XK}
theorem Mj{st:xA}:QS X E st Hd:=λb s c H W I h=>by obtain⟨a,S,G,hk,rfl,d,r,h⟩:=h;exact h.elim
theorem ZN6(ho:QE X E o to)(hi:QE X E i ti)(he:QE X E e te)(U:OpR X (inplaceOp op) (lR2 X.K E f))
  (ha:∀B F c,augStore i B F c=(do holding [c,B,F] (setItem B F c);release [c,B,F] [];pure .next):=by intros;rfl):QS X E (.AugAssign (.Subscript o i tpos) op e pos) (Jk to ti te f):=by
 intro b s l H W I h;obtain⟨a,S,G,hk,rfl,sm,r,h⟩:=h;refine wpAny_AugAssign_SubscriptAny (thn (ho b s l a.H _ I ⟨a,S,G,hk,rfl,sm,r,Fp h⟩) ?_) ha;rintro B s1 ⟨vo,H1,I1,ro,b1,o,G1,rfl,M,m1,q1,_,h1⟩;have k1:=M.k.trans hk;refine thn (hi b s1 l b1.H _ I1 ⟨b1,S,G1,k1,rfl,m1,r.mono M,Fp h1⟩) ?_;rintro F s2 ⟨vi,H2,I2,ri,C,i,G2,rfl,J,m2,q2,_,g⟩;have k2:=J.k.trans k1;cases i with
 | int k=>
  cases o with
  | ref p=>
   obtain⟨hp,rfl⟩:=q1.mono J;cases(q2);cases ro;obtain⟨t,rfl⟩:=ri;unfold ixL at g;dsimp only at g;split at g
   .rename_i xs N;obtain⟨vs,e1,r1⟩:=m2.lst N;split at g
    .rename_i d hd;obtain⟨v,ev,rd⟩:=ZJk r1 hd;obtain⟨its,rv,pl,hz⟩:=I2.list (.of e1);obtain⟨j,L,g2,g3,g4,g5⟩:=Rz ev;obtain⟨w,ew,T⟩:=rv.get g2;have hl:=rv.length;have hn:=line63;have O:vW (xU X.prog X.w) X.A (getItem (.ref (C.m p)) (.int k t)) (λu Q=>u=w/\Q=s2) X.xe s2:=by
      by_cases h0:0<=k
      .have Z:k.toNat=j:=by rw[seqIndex_of h0 g5]at L;exact Option.some.inj L
       exact wpAny_getItem_list pl.isList h0 (by lia) (by rw[Z];simpa using ew) ⟨rfl,rfl⟩
      .have Z:(k+(its.toArray.size:Int)).toNat=j:=by rw[seqIndex_neg (by lia) g4]at L;rw[zK,<-hl];exact Option.some.inj L
       exact wpAny_getItem_list_neg pl.isList (by lia) (by rw[zK]<;>lia) (by lia) (by rw[Z];simpa using ew) ⟨rfl,rfl⟩
     refine thn O ?_;rintro u Q ⟨rfl,rfl⟩;refine thn (he b Q l C.H _ I2 ⟨C,S,G2,k2,rfl,m2,(r.mono M).mono J,Fp g⟩) ?_;rintro yv s4 ⟨vy,H4,I4,ry,b4,y,G4,rfl,x,m4,q4,_,h4⟩;refine thn (U b s4 l b4.H v vy u yv _ I4 T ry ⟨b4,G4,d,y,x.k.trans k2,rfl,m4,rd.mono x,q4,Fp h4⟩) ?_;rintro c s5 ⟨vn,H5,I5,rn,b5,z,G5,rfl,Y,m5,q5,_,q⟩;unfold K4 at q;dsimp only at q;split at q
     .rename_i ys hy;split at q
      .rename_i jj P;obtain⟨ws,e5,r5⟩:=m5.lst hy;obtain⟨x6,m6⟩:=V3 m5 (zq hp (z0 x.n Y.n)) e5 (r5.set q5 jj);refine thn (set_list b s5 l b5.H (.ref (C.m p)) (.int k) vn (.ref (C.m p)) (.int k t) c (λH'=>W.nx l H') I5 rfl ⟨t,rfl⟩ rn ⟨b5.m p,ws,k,jj,by rw[(Y.m p (zq hp x.n)).trans (x.m p hp)],rfl,e5,by rw[<-r5.length];exact P,?_⟩) ?_
       .exact q _ l x6 m6 (((((r.mono M).mono J).mono x).mono Y).mono x6)
       .rintro _ s6 ⟨H6,I6,q6⟩;exact⟨l,H6,I6,q6⟩
      .exact q.elim
     .exact q.elim
    .exact g.elim
   .exact g.elim
  |_=>exact(g).elim
 |_=>cases o<;>exact(g).elim
end
def Gp(ds:List D)(G:DH):R D:=match ds with
 | [d]=>match Bd d G with
  |some xs=>match Fg xs with
   |some (n::ns)=>.ok (.int (ns.foldl min n)) G
   |_=>.bad
  |none=>.bad
 |_=>.bad
def Ha(ds:List D)(G:DH):R D:=match ds with
 | [d]=>match Bd d G with
  |some xs=>match Fg xs with
   |some (n::ns)=>.ok (.int (ns.foldl max n)) G
   |_=>.bad
  |none=>.bad
 |_=>.bad
theorem Vf:∀(ns:List Int)(n:Int),ns.foldl min n<=n/\(∀x∈ns,ns.foldl min n<=x)/\(ns.foldl min n=n∨ns.foldl min n∈ns)
 |[],n=>⟨qk _,λx h=>(by cases h),.inl rfl⟩
 | m::ns,n=>by
  obtain⟨d,b,c⟩:=Vf ns (min n m);rw[jG];refine⟨by lia,λx a=>?_,?_⟩
  .rcases zj.mp a with rfl|a
   .lia
   .exact b x a
  .rcases c with h|h
   .by_cases e:n<=m
    .exact .inl (by rw[h];lia)
    .exact .inr (by rw[h];rw[show min n m=m by lia];exact zW)
   .exact .inr (zV _ h)
theorem ZJH:∀(ns:List Int)(n:Int),n<=ns.foldl max n/\(∀x∈ns,x<=ns.foldl max n)/\(ns.foldl max n=n∨ns.foldl max n∈ns)
 |[],n=>⟨qk _,λx h=>(by cases h),.inl rfl⟩
 | m::ns,n=>by
  obtain⟨d,b,c⟩:=ZJH ns (max n m);rw[jG];refine⟨by lia,λx a=>?_,?_⟩
  .rcases zj.mp a with rfl|a
   .lia
   .exact b x a
  .rcases c with h|h
   .by_cases e:m<=n
    .exact .inl (by rw[h];lia)
    .exact .inr (by rw[h];rw[show max n m=m by lia];exact zW)
   .exact .inr (zV _ h)
section
variable{X:Cx}{E:XK}
theorem intAt{ns:List Int}{its:List xB}{i:Nat}{w:xB}(d:Vals (ns.map V.int) its)(hw:its.toArray[i]?=uz w):i<ns.length/\∃t,w=.int (ns.getD i 0) t:=by
 have b:its[i]?=uz w:=by simpa using hw
 have f:i<(ns.map V.int).length:=by rw[d.length];exact(zC.mp b).1
 have a:i<ns.length:=by simpa using f
 obtain⟨u,c,e⟩:=d.get (i:=i) (x:=V.int ns[i]) (by simp[a]);rw[b]at c;cases c;obtain⟨t,rfl⟩:=e;exact⟨a,t,by simp[a]⟩
theorem ZK7(T:X.calm=ux):CallR X (.builtin "min") (lRn X.K E Gp):=by
 intro y s σ H vs us Q I Z h;obtain⟨a,G,ds,hk,rfl,o,r,q⟩:=h;unfold Gp at q;split at q
 .rename_i d;obtain⟨v,rfl,rv⟩:=reps1 r;split at q
  .rename_i xs L;split at q
   .rename_i n b C;cases Ua C;obtain⟨p,ws,rfl,z,M⟩:=Ie o rv L;cases ZAe M;rw[hk]at z;obtain⟨u,rfl,F⟩:=vals1 Z;cases F;refine call_min_walk (ZBa I T z λit fp wr its St s₂ hv W st hfp fin=>⟨it,fp,wr,its.toArray.size,_,St,_,rfl,W,st,hfp,?_,CmpOf.ints_lt (λi=>(n::b).getD i 0) (λi w hw=>(intAt hv hw).2),λw J A hw kk=>?_⟩)
    .rw[zK,<-hv.length];simp
    .obtain⟨l,t,rfl⟩:=intAt hv hw;obtain⟨b1,Y⟩:=argBest_lt (λi=>(n::b).getD i 0) (its.toArray.size-1);refine⟨.int (b.foldl min n),a.H,fin J A kk,⟨t,?_⟩,q a _ (Ext.refl a) o rfl⟩;have hsz:its.toArray.size=b.length+1:=by rw[zK,<-hv.length];simp
     obtain⟨U,O,P⟩:=Vf b n;have f:∀x∈n::b,b.foldl min n<=x:=λx g=>by
      rcases zj.mp g with rfl|g
      .exact U
      .exact O x g
     have e:b.foldl min n∈n::b:=by
      rcases P with h|h
      .rw[h];exact zW
      .exact zV _ h
     obtain⟨j,k,N⟩:=qx e;have m:=f _ (qw l);have S:(n::b).getD j 0=b.foldl min n:=by rw[z6,zJ k];exact N
     have B:(n::b).getD (argBest (λi j=>decide ((λi=>(n::b).getD i 0) i<(λi=>(n::b).getD i 0) j)) (its.toArray.size-1)) 0=(n::b)[argBest (λi j=>decide ((λi=>(n::b).getD i 0) i<(λi=>(n::b).getD i 0) j)) (its.toArray.size-1)]:=by rw[z6,zJ l];rfl
     have c:=Y j (by simp at k;lia);rw[S]at c;rw[<-B]at m
     congr 1
     exact Int.le_antisymm c m
   .exact q.elim
  .exact q.elim
 .exact q.elim
theorem ZUl(T:X.calm=ux):CallR X (.builtin "max") (lRn X.K E Ha):=by
 intro y s σ H vs us Q I Z h;obtain⟨a,G,ds,hk,rfl,o,r,q⟩:=h;unfold Ha at q;split at q
 .rename_i d;obtain⟨v,rfl,rv⟩:=reps1 r;split at q
  .rename_i xs L;split at q
   .rename_i n b C;cases Ua C;obtain⟨p,ws,rfl,z,M⟩:=Ie o rv L;cases ZAe M;rw[hk]at z;obtain⟨u,rfl,F⟩:=vals1 Z;cases F;refine call_max_walk (ZBa I T z λit fp wr its St s₂ hv W st hfp fin=>⟨it,fp,wr,its.toArray.size,_,St,_,rfl,W,st,hfp,?_,CmpOf.ints_gt (λi=>(n::b).getD i 0) (λi w hw=>(intAt hv hw).2),λw J A hw kk=>?_⟩)
    .rw[zK,<-hv.length];simp
    .obtain⟨l,t,rfl⟩:=intAt hv hw;obtain⟨b1,Y⟩:=argBest_gt (λi=>(n::b).getD i 0) (its.toArray.size-1);refine⟨.int (b.foldl max n),a.H,fin J A kk,⟨t,?_⟩,q a _ (Ext.refl a) o rfl⟩;have hsz:its.toArray.size=b.length+1:=by rw[zK,<-hv.length];simp
     obtain⟨U,O,P⟩:=ZJH b n;have f:∀x∈n::b,x<=b.foldl max n:=λx g=>by
      rcases zj.mp g with rfl|g
      .exact U
      .exact O x g
     have e:b.foldl max n∈n::b:=by
      rcases P with h|h
      .rw[h];exact zW
      .exact zV _ h
     obtain⟨j,k,N⟩:=qx e;have m:=f _ (qw l);have S:(n::b).getD j 0=b.foldl max n:=by rw[z6,zJ k];exact N
     have B:(n::b).getD (argBest (λi j=>decide ((λi=>(n::b).getD i 0) i>(λi=>(n::b).getD i 0) j)) (its.toArray.size-1)) 0=(n::b)[argBest (λi j=>decide ((λi=>(n::b).getD i 0) i>(λi=>(n::b).getD i 0) j)) (its.toArray.size-1)]:=by rw[z6,zJ l];rfl
     have c:=Y j (by simp at k;lia);rw[S]at c;rw[<-B]at m
     congr 1
     exact Int.le_antisymm m c
   .exact q.elim
  .exact q.elim
 .exact q.elim
def Ei:D->D->DH->R D
 |.ref p,.int k,G=>match G[p]? with
  |some (.lst xs)=>if -(2^63)<=k/\k<2^63/\xs.length*k.toNat<=1000000 then .ok (.ref G.length) (G++[.lst (zZ k.toNat xs).flatten])else .bad
  |_=>.bad
 |.fl (.tup t::xs),.int k,G=>(if -(2^63)<=k/\k<2^63/\(D.tup t::xs).length*k.toNat<=1000000 then .ok (.ref G.length) (G++[.lst (zZ k.toNat (.tup t::xs)).flatten])else .bad)|_,_,_=>.bad
theorem Reps.rep(r:Reps a ds vs):∀k,Reps a (zZ k ds).flatten (zZ k vs).flatten
 |0=>rfl
 |k+1=>by rw[zH,zH,qq,qq];exact r.append (Reps.rep r k)
theorem ZL6:OpR X (xI .Mult) (lR2 X.K E Ei):=ZV3.mono λx y H Q h=>by
 obtain⟨a,G,d,e,hk,rfl,s,j,n,q⟩:=h;cases d with
 | ref p=>
  cases e with
  | int k=>
   unfold Ei at q;dsimp only at q;split at q
   .rename_i g v;split at q
    .rename_i b;obtain⟨i,r,c⟩:=s.lst v;obtain⟨hp,rfl⟩:=j;refine⟨a.m p,k,i,rfl,n,.inl r,b.1,b.2.1,?_,λp hp=>Iw s (Reps.rep c k.toNat) q p hp⟩;rw[<-c.length];exact z0 b.2.2 size6
    .exact q.elim
   .exact q.elim
  |_=>exact(q).elim
 |fl g=>(cases g with |nil=>exact(show False from q).elim|cons d g=>(cases d with |tup t=>(cases e with |int k=>(unfold Ei at q;dsimp only at q;split at q;(rename_i b;obtain⟨l,i,rfl,f,c⟩:=j;rcases f with⟨o,f⟩|⟨⟨u,rfl⟩,_⟩;(exact⟨l,k,i,rfl,n,.inr ⟨o,f⟩,b.1,b.2.1,by rw[<-c.length];exact z0 b.2.2 size6,λp hp=>Iw s (Reps.rep c k.toNat) q p hp⟩);(obtain⟨_,_,w,⟨_,_,rfl,_⟩,_⟩:=c;cases u<;>cases w));exact q.elim)|_=>exact(show False from q).elim)|_=>exact(show False from q).elim))|_=>exact(show False from q).elim
end
end _D
namespace _D
open PySem PySem.W PyProof.Rows
def Safe(n:Nat){α:Type}(P:α->Prop):KasT α->Prop
 |.ret a=>P a
 |.ask i j k=>i<n/\j<n/\∀b,Safe n P (k b)
theorem Safe.bind{c e:Type}{f:c->KasT e}{P:c->Prop}{Q:e->Prop}(d:∀a,P a->Safe n Q (f a)):∀{t:KasT c},Safe n P t->Safe n Q (t.bind f)
 |.ret a,h=>d a h
 |.ask _ _ _,h=>⟨h.1,h.2.1,λb=>Safe.bind d (h.2.2 b)⟩
def Ents(n:Nat)(p:Array Nat):Prop:=0<n/\p.Perm (zX n).toArray
theorem Ents.lt(h:Ents n p)(a:x∈p):x<n:=by have:=h.2.mem_iff.mp a;simpa using this
theorem Ents.pt(h:Ents n p)(k:Nat):p.getD k 0<n:=by
 by_cases hk:k<p.size
 .have:p.getD k 0=p[k]:=by simp[Array.getD,hk]
  rw[this];exact h.lt (Array.getElem_mem hk)
 .have:p.getD k 0=0:=by simp[Array.getD,hk]
  rw[this];exact h.1
theorem Ents.perm(h:Ents n p)(e:q.Perm p):Ents n q:=⟨h.1,e.trans h.2⟩
theorem Zk(h:Ents n p):∀f m,Safe n (λ_=>True) (kas_asc p f m)
 |0,m=>trivial
 | f+1,m=>⟨h.pt _,h.pt _,λb=>by
   cases b with
   |true=>exact trivial
   |false=>exact Zk h f (m+1)⟩
theorem V5:∀f{p:Array Nat}m q,Ents n p->Safe n (λr=>Ents n r.1) (kas_desc f p m q)
 |0,p,m,q,h=>h
 | f+1,p,m,q,h=>⟨h.pt _,h.pt _,λb=>by
   cases b with
   |true=>
    by_cases a:q>0
    .simp only[if_true,if_pos a];exact V5 f _ _ (h.perm (mirror_perm ..))
    .simp only[if_true,if_neg a];exact V5 f _ _ h
   |false=>
    refine⟨h.pt _,h.pt _,λd=>?_⟩;cases d with
    |true=>exact h
    |false=>exact V5 f _ _ h⟩
theorem ZIj(h:Ents n p)(m k:Nat):Safe n (λr=>Ents n r.2) (kas_tail3 m k p):=by unfold kas_tail3;refine Safe.bind (λa _=>?_) (Zk (h.perm (mirror_perm ..)) _ _);exact h.perm (mirror_perm ..)
theorem ZFw(h:Ents n p)(m k:Nat):Safe n (λr=>Ents n r.2) (kas_descPart m k p):=
 Safe.bind (λa b=>by
  split
  .exact ZIj (b.perm (mirror_perm ..)) _ _
  .exact ZIj b _ _) (V5 _ _ _ h)
theorem ZHM(h:Ents n p)(k:Nat):Safe n (λr=>Ents n r.2) (kas_count k p):=
 Safe.bind (λa _=>by
  split
  .exact h
  .split
   .refine⟨h.pt _,h.pt _,λc=>?_⟩;cases c with
    |true=>exact h
    |false=>exact ZFw (h.perm (mirror_perm ..)) _ _
   .exact ZFw h _ _) (Zk h _ _)
theorem Vz(h:Ents n p)(k:Nat):∀f l r,Safe n (λ_=>True) (kas_place p k f l r)
 |0,l,r=>trivial
 | f+1,l,r=>by
  unfold kas_place;split
  .trivial
  .refine⟨h.pt _,h.pt _,λc=>?_⟩;cases c with
   |true=>exact Vz h k f _ _
   |false=>exact Vz h k f _ _
theorem ZFL:∀f{p:Array Nat}k,Ents n p->Safe n (λ_=>True) (kas_bin f p k)
 |0,p,k,h=>trivial
 |f+1,p,k,h=>Safe.bind (λa _=>ZFL f _ (h.perm (bubble_perm ..))) (Vz h k _ _ _)
theorem ZSx(c:0<n):Safe n (λ_=>True) (kas_sort n):=
 Safe.bind (λa b=>by
  split
  .exact ZFL _ _ b
  .trivial) (ZHM ⟨c,Array.Perm.refl _⟩ _)
end _D
namespace _D
open PySem PySem.Spec _L
open PyProof.Rows hiding St
def ltL:List D->List D->Option Bool
 |[],[]=>uz uv
 |[],_::_=>uz ux
 |_::_,[]=>uz uv
 |.int a::r,.int b::r'=>if a=b then ltL r r' else uz (decide (a<b))
 |.str a::r,.str b::r'=>if a=b then ltL r r' else uz (decide (a.cps.toList<b.cps.toList))
 |_::_,_::_=>uj
def ltD:D->D->Option Bool
 |.tup xs,.tup ys=>ltL xs ys
 |_,_=>uj
def ltI(xs:List D)(i j:Nat):Bool:=(ltD (xs.getD i .non) (xs.getD j .non)).getD uv
noncomputable def isIt:D->Bool
 |.tup (.int _::_)=>ux
 |_=>uv
noncomputable def Rv:D->Bool
 |.tup (.str _::_)=>ux
 |_=>uv
def Mr(xs:List D):Bool:=(xs.all isIt||xs.all Rv)&&xs.all λx=>xs.all λy=>(ltD x y).isSome
def J1(xs:List D):List D:=if xs.length<2 then xs else(Bo (ltI xs) (zi xs.length)).toList.map λi=>xs.getD i .non
def Mp(ds:List D)(G:DH):R D:=match ds with
 |[d]=>match Ft d G with
  |some xs=>if(xs.length<64/\(J1 xs).length<64)/\Mr xs=ux then .ok (.ref G.length) (G++[.lst (J1 xs)])else .bad
  |none=>.bad
 |_=>.bad
theorem ZHN(h:∀i j,i<n->j<n->∀C:Bool->x0->Prop,C (lt i j) s->cmp i j C s){b:Type}{P:b->Prop}{Q:b->x0->Prop}:
  ∀{t:vI b},Safe n P t->Q (Bo lt t) s->t.kasWp cmp Q s
 |.ret _,_,c=>c
 |.ask i j k,a,c=>h i j a.1 a.2.1 _ (ZHN h (a.2.2 (lt i j)) c)
section
variable{prog:xk}{w:xC}{A:xq}{s:x0}
theorem ZMW(h:Q (decide (a<b)) s):vW (xU prog w) A (oneLt' c (.int a t) (.int b u)) Q E s:=by
 cases c with
 |true=>exact oneLt_int h
 |false=>exact wS _ _ (lt_int h)
theorem ZT7(h:Q (decide (a.cps.toList<b.cps.toList)) s):vW (xU prog w) A (oneLt' c (.str a t) (.str b u)) Q E s:=by
 cases c with
 |true=>exact oneLt_str h
 |false=>exact wS _ _ (lt_str h)
theorem Xa:∀{xs ys:List D}{vs q:List V}{us o:List xB}{i:Nat}{k:Bool},Reps a xs vs->Reps a ys q->Vals vs us->Vals q o->ltL xs ys=uz k->fin=decide (us.length<o.length)->Q k s->
  PySem.W.KatLex prog w A ux fin Q (us.zip o) i s
 |[],[],vs,q,us,o,i,k,f,g,c,b,h,j,d=>by cases(f);cases(g);cases c;cases b;cases h;subst j;exact vL d
 |[],y::ys,vs,q,us,o,i,k,f,g,c,b,h,j,d=>by cases(f);cases c;obtain⟨F,wr,rfl,_,_⟩:=g;cases b;cases h;subst j;exact vL (by simpa using d)
 |x::xs,[],vs,q,us,o,i,k,f,g,c,b,h,j,d=>by
  cases(g);cases b;obtain⟨F,wr,rfl,_,_⟩:=f;cases c;have hk:k=uv:=by cases x<;>(simp[ltL]at h;exact h)
  subst hk;subst j;exact vL (by simpa using d)
 | x::xs,y::ys,vs,q,us,o,i,k,f,g,c,b,h,j,d=>by
  have p:(∃m n,x=.int m/\y=.int n)∨(∃m n,x=.str m/\y=.str n):=by
   cases x<;>cases y<;>first
    |exact .inl ⟨_,_,rfl,rfl⟩
    |exact .inr ⟨_,_,rfl,rfl⟩
    |(exfalso;simp[ltL]at h)
  obtain⟨B,H,rfl,z,f⟩:=f;obtain⟨C,wr,rfl,E,g⟩:=g;rcases p with⟨m,n,rfl,rfl⟩|⟨m,n,rfl,rfl⟩
  .cases(show B=V.int m from z)
   cases(show C=V.int n from E)
   cases c with
   | cons r c=>
    cases b with
    | cons v b=>
     obtain⟨t,rfl⟩:=r;obtain⟨u,rfl⟩:=v;rw[List.zip_cons_cons];refine wa (wpAny_eqBool_int (wb (λl=>?_) λl=>?_))
     .have e:m=n:=by simpa using l
      rw[show ltL (.int m::xs) (.int n::ys)=if m=n then ltL xs ys else uz (decide (m<n))from rfl,if_pos e]at h
      exact wc (Xa f g c b h (by simpa using j) d)
     .have e:m≠n:=by simpa using l
      rw[show ltL (.int m::xs) (.int n::ys)=if m=n then ltL xs ys else uz (decide (m<n))from rfl,if_neg e]at h
      cases h;exact wd (ZMW d)
  .cases(show B=V.str m from z)
   cases(show C=V.str n from E)
   cases c with
   | cons r c=>
    cases b with
    | cons v b=>
     obtain⟨t,rfl⟩:=r;obtain⟨u,rfl⟩:=v;rw[List.zip_cons_cons];refine wa (wpAny_eqBool_str (wb (λl=>?_) λl=>?_))
     .have e:m=n:=by simpa using l
      rw[show ltL (.str m::xs) (.str n::ys)=if m=n then ltL xs ys else uz (decide (m.cps.toList<n.cps.toList))from rfl,if_pos e]at h
      exact wc (Xa f g c b h (by simpa using j) d)
     .rw[show ltL (.str m::xs) (.str n::ys)=if m=n then ltL xs ys else uz (decide (m.cps.toList<n.cps.toList))from rfl,if_neg (by simpa using l)]at h
      cases h;exact wd (ZT7 d)
end
section
variable{X:Cx}{E:XK}{vA:List (xY×Obj)}{σ:St}{s:x0}{H:Hp}{h':Heap}
theorem ZDH(I:Inv X vA σ H s)(k:∀b o,b≠X.env.locals->s.heap.get? b=uz o->h'.get? b=uz o)(ns:∀m,s.heap.Ns X.env.locals m->h'.Ns X.env.locals m):Inv X vA σ H {s with heap:=h',toks:=t'}:=by
 refine I.step (ch:=[]) (λ_ z=>nomatch z) (λb o f _ _ e _=>k b o f e) (λb o f _ _ e _=>⟨o.slots,k b o f e⟩) (λ_ _ _ _ n=>n) (λb o _ e=>?_) (λ_ _ e=>e) (λ_ _ _ e=>e)
  (λb r e=>⟨#[],by rw[e];simp⟩) ns (λb u e=>?_) I.bare
 .by_cases i:b=X.env.locals
  .obtain⟨m,j,_⟩:=I.loc;obtain⟨l,_,_,d,_⟩:=ns m j;exact⟨l,by rw[i];exact d⟩
  .exact⟨o,k b o i e⟩
 .have g:∀c w,H c=uz w->c≠X.env.locals:=λc w e z=>by rw[z,I.free]at e;cases e
  refine(I.hok b u e).stay (λc v p q=>k c v ?_ q) (λ_ q=>q) λ_ _ q=>q
  rcases p with z|z
  .rw[z];exact g b u e
  .exact g c _ z
end
section
variable{prog:xk}{w:xC}{A:xq}{E:xB->x0->Prop}{s:x0}
theorem ZQS{l:xY}{vs:List xB}{Q:xB->x0->Prop}(n:s.heap.IsList l vs.toArray)(hz:vs.length<64)
  (h:∀g,g.get? (s.heap.objs.size+1)=uz (seqObj "list" vs.toArray 0)->(∀b o,s.heap.get? b=uz o->g.get? b=uz o)->
   vW (xU prog w) A.in1.in1 (Builtin.«list.sort» ⟨[.ref (s.heap.objs.size+1)],[]⟩) (λd s'=>d=.done (.ret .none)/\Q (.ref (s.heap.objs.size+1)) s') E {s with heap:=g}):
  vW (xU prog w) A (call (.builtin "sorted") [.ref l]) Q E s:=by
 have c:vs.length<=sizeLine:=by rw[vZ];lia
 refine Calls.call_function_entry kind_sorted plain_sorted entry_sorted (args_sorted1 _) ?_;unfold Builtin.«sorted»;refine vY (v4 (vY (collect_list n (vY (wpAny_newList ?_ c)) c)))
 generalize m:(s.heap.push (seqObj "list" #[] 0)).update s.heap.objs.size (Obj.mapSeq (·++vs.toArray))=f
 have i:f.objs.size=s.heap.objs.size+1:=by rw[<-m,Heap.size_update,size_push']
 have p:∀b o,s.heap.get? b=uz o->f.get? b=uz o:=λb o q=>by have e:=zz q;rw[<-m,Heap.get?_update_ne _ _ _ _ (z8 e),Heap.get?_push_ne _ _ _ (z8 e)];exact q
 have j:(f.push (seqObj "list" vs.toArray 0)).get? (s.heap.objs.size+1)=uz (seqObj "list" vs.toArray 0):=by rw[<-i];exact zy _ rfl
 rw[i];refine vY (vx (vz slot_list_sort ⟨_,j,rfl⟩ entry_list_sort ?_ (args_list_sort _)));refine vv (h (f.push (seqObj "list" vs.toArray 0)) j λb o q=>zQ _ (p b o q)) (λd s' k=>?_) λ_ _ x=>x
 exact⟨_,k.1,v4 ⟨_,rfl,k.2⟩⟩
theorem ZO8{a:xY}{vs:List xB}{n:Nat}{P:Fin->x0->Prop}(ho:s.heap.get? a=uz (seqObj "list" vs.toArray n))(v:vs.length<2)
  (h:∀h' c,h'.get? a=uz (seqObj "list" vs.toArray c)->(∀b o,b≠a->s.heap.get? b=uz o->h'.get? b=uz o)->P (.done (.ret .none)) {s with heap:=h'}):vW (xU prog w) A (Builtin.«list.sort» ⟨[.ref a],[]⟩) P E s:=by
 obtain⟨k,g⟩:∃k,(s.heap.update a (Obj.mapSeq λ_=>(#[]:Array xB))).get? a=uz (seqObj "list" #[] k):=⟨_,get?_update_seq ho λ_=> #[]⟩;rw[list_sort_plain];refine vY (listItems_at ho rfl (vY (listUpdate_at ho rfl ?_ (by rw[zK,vZ];lia) (jF _))));refine vY (seqEpoch_at g rfl (vY (wpAny_newTuple (vY (wpAny_newList (vx ?_) (jF _))) (by show vs.length<=_;rw[vZ];lia))))
 dsimp only;have j:vs.toArray.size<2:=by rw[zK];lia
 rw[if_pos j,if_pos j];refine vY (v4 (vY (wpAny_of_eq rfl ?_)));dsimp only
 have f:(arrOf (SortSt.mk' general' (vs.toArray.zip vs.toArray) #[] 7 uj)).map (·.2)=vs.toArray:=by
  show(vs.toArray.zip vs.toArray).map (·.2)=vs.toArray
  refine Array.ext (by simp) λi x v=>by simp
 rw[f];generalize t:((s.heap.update a (Obj.mapSeq λ_=>(#[]:Array xB))).push {cls:=.type "tuple",data:=.seq vs.toArray.toList.toArray}).push {cls:=.type "list",data:=.seq ([]:List xB).toArray}=m;have e:m.get? a=uz (seqObj "list" #[] k):=by rw[<-t];exact zQ _ (zQ _ g)
 have u:∀b o,b≠a->s.heap.get? b=uz o->m.get? b=uz o:=λb o l q=>by rw[<-t];exact zQ _ (zQ _ ((qA.update s.heap a (Obj.mapSeq λ_=>(#[]:Array xB))).extBut b o l q))
 refine vY (seqEpoch_at (o:=seqObj "list" #[] k) ?_ rfl ?_)
 .exact e
 obtain⟨r,p⟩:∃r,(m.update a (Obj.mapSeq λ_=>vs.toArray)).get? a=uz (seqObj "list" vs.toArray r):=⟨_,get?_update_seq e λ_=>vs.toArray⟩;refine vY (listUpdate_at e rfl ?_ (jF _) (by rw[zK,vZ];lia));simp only[bne_self_eq_false,j3,if_false];exact v4 (h _ r p λb o l q=>(qA.update m a (Obj.mapSeq λ_=>vs.toArray)).extBut b o l (u b o l q))
end
theorem ZUz:xL "sorted"=uz (.builtin "sorted"):=by decide +kernel
section
variable{X:Cx}{E:XK}{vA:List (xY×Obj)}{σ:St}{s:x0}{H:Hp}
theorem Vc(I:Inv X vA σ a.H s)(hk:a.K=X.K)(r:Rep a d v)(e:RelV v u)(h:d=.tup xs):∃p o vs us n,u=.ref p/\s.heap.get? p=uz o/\o.cls=.type "tuple"/\o.data=.seq us n/\Vals vs us.toList/\Reps a xs vs:=by subst h;obtain⟨p,vs,rfl,c,g⟩:=r;cases e;rw[hk]at c;obtain⟨b,f,⟨o,k,j,n,i⟩,l⟩:=I.tuple c;exact⟨p,o,vs,b.toArray,n,rfl,k,j,i,by simpa using f,g⟩
theorem ZLR(h:isIt d=ux):∃i r,d=.tup (.int i::r):=by
 unfold isIt at h;split at h
 .exact⟨_,_,rfl⟩
 .cases h
theorem ZUA(h:Rv d=ux):∃i r,d=.tup (.str i::r):=by
 unfold Rv at h;split at h
 .exact⟨_,_,rfl⟩
 .cases h
theorem ZID(I:Inv X vA σ a.H s)(hk:a.K=X.K):∀{xs:List D}{vs:List V}{us:List xB},Reps a xs vs->Vals vs us->xs.all isIt=ux->∃fs,we s.heap us fs/\fs.length=us.length/\∀v∈fs,∃i t,v=.int i t
 |[],vs,us,r,v,h=>by
  cases(r);cases v
  exact⟨[],.nil,rfl,λ_ c=>nomatch c⟩
 | d::xs,vs,us,r,v,h=>by
  rw[qN,z5]at h;obtain⟨M,N,rfl,k,C⟩:=r;cases v with
  | cons g l=>
   obtain⟨i,J,rfl⟩:=ZLR h.1;obtain⟨p,o,L,f,n,rfl,A,m,u,e,w⟩:=Vc I hk k g rfl;obtain⟨F,wr,rfl,j,O⟩:=w;cases(j);obtain⟨fs,x,y,B⟩:=ZID I hk C l h.2;have b:∃t,f[0]?=uz (.int i t):=by
    cases b:f.toList with
    |nil=>rw[b]at e;cases e
    | cons z P=>
     rw[b]at e;cases e with
     |cons q _=>
      obtain⟨t,rfl⟩:=q;exact⟨t,by rw[<-jQ,b];rfl⟩
   obtain⟨t,b⟩:=b;refine⟨.int i t::fs,.cons A m u b x,by simp[y],λv c=>?_⟩;rcases zj.mp c with rfl|c
   .exact⟨i,t,rfl⟩
   .exact B v c
theorem ZIl(I:Inv X vA σ a.H s)(hk:a.K=X.K):∀{xs:List D}{vs:List V}{us:List xB},Reps a xs vs->Vals vs us->xs.all Rv=ux->∃fs,we s.heap us fs/\fs.length=us.length/\∀v∈fs,∃i t,v=.str i t
 |[],vs,us,r,v,h=>by
  cases(r);cases v
  exact⟨[],.nil,rfl,λ_ c=>nomatch c⟩
 | d::xs,vs,us,r,v,h=>by
  rw[qN,z5]at h;obtain⟨M,N,rfl,k,C⟩:=r;cases v with
  | cons g l=>
   obtain⟨i,J,rfl⟩:=ZUA h.1;obtain⟨p,o,L,f,n,rfl,A,m,u,e,w⟩:=Vc I hk k g rfl;obtain⟨F,wr,rfl,j,O⟩:=w;cases(j);obtain⟨fs,x,y,B⟩:=ZIl I hk C l h.2;have b:∃t,f[0]?=uz (.str i t):=by
    cases b:f.toList with
    |nil=>rw[b]at e;cases e
    | cons z P=>
     rw[b]at e;cases e with
     |cons q _=>
      obtain⟨t,rfl⟩:=q;exact⟨t,by rw[<-jQ,b];rfl⟩
   obtain⟨t,b⟩:=b;refine⟨.str i t::fs,.cons A m u b x,by simp[y],λv c=>?_⟩;rcases zj.mp c with rfl|c
   .exact⟨i,t,rfl⟩
   .exact B v c
theorem ZD1(I:Inv X vA σ a.H s)(l:Sim a G)(q:out E a (.ok (.ref G.length) (G++[.lst ys])) Q)(r:Reps a ys ws)(v:Vals ws us)(hz:us.length<64)
  (h:f.get? (s.heap.objs.size+1)=uz (seqObj "list" us.toArray c)) (k:∀b o,b≠X.env.locals->s.heap.get? b=uz o->f.get? b=uz o) (ns:∀m,s.heap.Ns X.env.locals m->f.Ns X.env.locals m):
  EP X vA σ Q (.ref (s.heap.objs.size+1)) {s with heap:=f}:=by
 have e:s.heap.objs.size<=s.heap.objs.size+1:=jx _;obtain⟨g,j,t,p,n,i⟩:=I.Hh e (I.hok.fresh e);refine⟨.ref (s.heap.objs.size+1),_,Yk (ZDH (t':=s.toks) I k ns) g (z0 I.sz e) j n i (o:=.lst ws) ⟨?_,us,c,v,h⟩,rfl,Iw l r q _ g⟩;rw[v.length,vZ];lia
end
section
variable{X:Cx}{E:XK}
theorem ZQx(h:Mr xs=ux)(b:x∈xs)(a:y∈xs):∃k,ltD x y=uz k:=by unfold Mr at h;rw[z5]at h;exact jZ.mp (qY.mp (qY.mp h.2 x b) y a)
theorem ZMI(h:ltD x y=uz k):∃xs ys,x=.tup xs/\y=.tup ys/\ltL xs ys=uz k:=by
 unfold ltD at h;split at h
 .exact⟨_,_,rfl,rfl,h⟩
 .cases h
theorem ZIA(r:Reps a xs vs):∀l:List Nat,(∀i∈l,i<xs.length)->Reps a (l.map λi=>xs.getD i .non) (l.map λi=>vs.getD i .non)
 |[],_=>rfl
 |i::l,h=>by
  have b:=h i zW;obtain⟨v,e,f⟩:=r.get (zJ b);refine⟨vs.getD i .non,_,rfl,?_,ZIA r l λj c=>h j (zV _ c)⟩;have d:xs.getD i .non=xs[i]:=by simp[b]
  have g:vs.getD i .non=v:=by rw[z6,e];rfl
  show Rep a (xs.getD i .non) (vs.getD i .non);rw[d,g];exact f
theorem ZEY(r:Vals vs us):∀l:List Nat,(∀i∈l,i<vs.length)->Vals (l.map λi=>vs.getD i .non) (l.map λi=>us.getD i .none)
 |[],_=>.nil
 |i::l,h=>by
  have a:=h i zW;obtain⟨u,f,d⟩:=r.get (zJ a);rw[zk,zk];have c:vs.getD i .non=vs[i]:=by simp[a]
  have e:us.getD i .none=u:=by rw[z6,f];rfl
  rw[c,e];exact .cons d (ZEY r l λj b=>h j (zV _ b))
theorem ZKQ:∀{t:vI (Array Nat)},Safe n P t->P (Bo lt t)
 |.ret _,h=>h
 |.ask i j k,h=>ZKQ (t:=k (lt i j)) (h.2.2 (lt i j))
theorem ZIv:∀f{p:Array Nat}k,Ents n p->Safe n (Ents n) (PySem.W.kas_bin f p k)
 |0,p,k,h=>h
 |f+1,p,k,h=>Safe.bind (λa _=>ZIv f _ (h.perm (bubble_perm ..))) (Vz h k _ _ _)
theorem ZFI(c:0<n):Safe n (Ents n) (zi n):=
 Safe.bind (λa b=>by
  split
  .exact ZIv _ _ b
  .exact b) (ZHM ⟨c,Array.Perm.refl _⟩ _)
theorem ZMi:CallR X (.builtin "sorted") (lRn X.K E Mp):=by
 intro vA s σ H vs us Q I rs h;obtain⟨a,G,ds,hk,rfl,sm,r,q⟩:=h;unfold Mp at q;split at q
 .rename_i d;obtain⟨v,rfl,rv⟩:=reps1 r;split at q
  .rename_i xs hs;split at q
   .rename_i hc;obtain⟨p,ws,rfl,h1,r1⟩:=Qa sm rv hs;rw[hk]at h1;obtain⟨u,rfl,ru⟩:=vals1 rs;cases ru;obtain⟨its,hv,pl,hz⟩:=I.list h1;have hlx:=r1.length.trans hv.length;refine ZQS pl.isList (by lia) λh1 hD k1=>?_
    obtain⟨m,hn,_⟩:=id I.loc;have hns1:=hn.keeps k1;have hDL:=jV (qR I.lt);have nsAll:∀{h2:Heap},h2.Ns X.env.locals m->∀m',s.heap.Ns X.env.locals m'->h2.Ns X.env.locals m':=λ{h2}hh m' hm'=>by have e1:=hn.eq_nsMap;have e2:=hm'.eq_nsMap;rw[e2,<-e1];exact hh
    by_cases hlen:xs.length<2
    .refine ZO8 hD (by lia) λh2 c hD2 k2=>⟨rfl,?_⟩
     have es:J1 xs=xs:=by unfold J1;rw[if_pos hlen]
     rw[es]at q;refine ZD1 I sm q r1 hv (by lia) hD2 (λb o hb e=>k2 b o ?_ (k1 b o e)) (nsAll (hns1.at λo e=>k2 _ o (Ne.symm hDL) e));exact z8 (qR (zz e))
    .have es:J1 xs=(Bo (ltI xs) (zi xs.length)).toList.map λi=>xs.getD i .non:=by unfold J1;rw[if_neg hlen]
     rw[es]at q;refine PySem.W.kat_list_sort (Att.ZTP hns1) (news:=Att.ledger h1 X.env.locals (s.heap.objs.size+1)) ?_ hD hDL (Att.ZBD _ _) (λ⟨_,_⟩ hp=>(Att.Q5.mp hp).2.1) (by lia) (by lia) λe1 h2 F2 N2=>?_
     .rintro⟨b,o⟩ hp;obtain⟨n1,n2,e⟩:=Att.Q5.mp hp;exact⟨e,n1,Att.ZBD _ _⟩
     have I2:=ZDH (t':=s.toks) I (λb o hb e=>(N2 (b,o) (zV _ (Att.Q5.mpr ⟨hb,z8 (qR (zz e)),k1 b o e⟩))).1) (nsAll F2.ns);have hpos:0<its.length:=by lia
     have fin:(zi its.length).kasWp (wf X.prog X.w X.A.in1.in1 (tuples' ux) its) (λp s''=>PySem.W.KasFin (Att.Ss h1) X.env.locals m (s.heap.objs.size+1) e1 (p.toList.map λi=>its.getD i Value.none) (λs3=>PySem.Fin.done (.ret .none)=PySem.Fin.done (.ret .none)/\EP X vA σ Q (.ref (s.heap.objs.size+1)) s3) s'') {s with heap:=h2}:=by
      refine ZHN (lt:=ltI xs) (λi j hi hj C hC=>?_) (ZFI hpos) ?_
      .have hxi:i<xs.length:=by lia
       have hxj:j<xs.length:=by lia
       obtain⟨v1,ev1,rv1⟩:=r1.get (zJ hxi);obtain⟨v2,ev2,rv2⟩:=r1.get (zJ hxj);obtain⟨u1,eu1,ru1⟩:=hv.get ev1;obtain⟨u2,eu2,ru2⟩:=hv.get ev2;obtain⟨k,hlt⟩:=ZQx hc.2 (qw hxi) (qw hxj);obtain⟨as,bs,ea,eb,hlL⟩:=ZMI hlt;obtain⟨p1,o1,vs1,us1,n1,rfl,ho1,_,hd1,hv1,hr1⟩:=Vc I2 hk rv1 ru1 ea;obtain⟨p2,o2,vs2,us2,n2,rfl,ho2,_,hd2,hv2,hr2⟩:=Vc I2 hk rv2 ru2 eb
       have hC':C k {s with heap:=h2}:=by
        have:ltI xs i j=k:=by
         unfold ltI;have e1:xs.getD i .non=xs[i]:=by simp[hxi]
         have e2:xs.getD j .non=xs[j]:=by simp[hxj]
         rw[e1,e2,hlt];rfl
        rw[<-this];exact hC
       unfold wf;have g1:its.getD i Value.none=.ref p1:=by rw[z6,eu1];rfl
       have g2:its.getD j Value.none=.ref p2:=by rw[z6,eu2];rfl
       rw[g1,g2];exact PySem.W.kat_lt ho1 hd1 ho2 hd2 (Xa hr1 hr2 hv1 hv2 hlL (by simp) hC')
      .rw[hlx]at q;refine PySem.W.KasFin.intro F2 N2 (.head λ⟨_,_⟩ hp=>(Att.Q5.mp hp).2.1) λh3 c F3 N3=>⟨rfl,?_⟩
       have hin:∀i∈(Bo (ltI xs) (zi its.length)).toList,i<its.length:=λi hi=>(ZKQ (ZFI hpos)).lt (by simpa using hi)
       refine ZD1 I sm q (ZIA r1 _ λi hi=>by rw[hlx];exact hin i hi) (ZEY hv _ λi hi=>by rw[hv.length];exact hin i hi) ?_ (N3 _ zW).1 (λb o hb e=>?_) (nsAll F3.ns)
       .rw[hlx]at es;have:=hc.1.2;rw[es]at this;simpa using this
       .exact(N3 (b,o) (zV _ (Att.Q5.mpr ⟨hb,z8 (qR (zz e)),k1 b o e⟩))).1
     unfold Mr at hc;rw[z5,j5]at hc;rcases hc.2.1 with hall|hall
     .obtain⟨fs,t1,t2,t3⟩:=ZID I2 hk r1 hv hall;refine wg (T:=.type "int") t1 (by lia) (λv hm=>?_) (by decide) ?_
      .obtain⟨i,t,rfl⟩:=t3 v hm;exact PySem.W.Looks.now
      .exact fin
     .obtain⟨fs,t1,t2,t3⟩:=ZIl I2 hk r1 hv hall;refine wg (T:=.type "str") t1 (by lia) (λv hm=>?_) (by decide) ?_
      .obtain⟨i,t,rfl⟩:=t3 v hm;exact PySem.W.Looks.now
      .exact fin
   .exact q.elim
  .exact q.elim
 .exact q.elim
end
section
variable{S:DSt}{G:DH}
@[simp]theorem ZW7:Jk to ti te f S G=(to S G).toS λo a=>(ti S a).toS λi c=>(ixL o i c).toS λx b=>(te S b).toS λy g=>(f x y g).toS λz e=>(K4 o i z e).toS λ_ d=>.nx S d:=id rfl
theorem Rm(h:G[p]?=uz (.lst xs))(e:atI xs k=uz d):ixL (.ref p) (.int k) G=.ok d G:=by unfold ixL;simp only;rw[h];simp only;rw[e]
noncomputable def Dg(xs:List D):List D:=xs.zipIdx.map λq=>.tup [.int q.2,q.1]
noncomputable def Ks(xs ys:List D):List D:=(xs.zip ys).map λq=>.tup [q.1,q.2]
theorem ZJw{f:Nat->DH->Option (Option D)}{g:DG}{b:DS}{xs:List D}(h:∀j G,f j G=uz xs[j]?):∀(n j:Nat),j+n=xs.length->∀S G,Cr f g b n j S G=Av g b (xs.drop j) S G
 |0,j,e,S,G=>by
  unfold Cr;rw[h,z7 (by lia),qQ (by lia)]
  rfl
 |n+1,j,e,S,G=>by
  have a:j<xs.length:=by lia
  unfold Cr;rw[h,zJ a,zO a,Br];have:Cr f g b n (j+1)=Av g b (xs.drop (j+1)):=by funext S G;exact ZJw h n (j+1) (by lia) S G
  rw[this]
theorem Qx(h:∀j G,f j G=uz xs[j]?)(a:n=xs.length):Cr f g b n 0 S G=Av g b xs S G:=by rw[ZJw h n 0 (by lia)];rfl
theorem Rj(j:Nat)(G:DH):De 0 (.fl xs) j G=uz (Dg xs)[j]? :=by
 unfold De Dg;simp only[Bd,zx,List.getElem?_zipIdx]
 cases xs[j]?<;>simp
theorem ZUa(j:Nat)(G:DH):De 0 (.tup xs) j G=uz (Dg xs)[j]? :=by
 unfold De Dg;simp only[Bd,zx,List.getElem?_zipIdx]
 cases xs[j]?<;>simp
theorem Ii:(Dg xs).length=xs.length:=by simp[Dg]
@[simp]theorem ZW1:Es [.fl xs] G=.ok (.fn xs.length (De 0 (.fl xs))) G:=by simp[Es,Hz,Bd,lenOf]
@[simp]theorem ZSu:Cr (De 0 (.fl xs)) g b xs.length 0 S G=Av g b (Dg xs) S G:=Qx Rj Ii.symm
@[simp]theorem ZWm:Cr (De 0 (.tup xs)) g b xs.length 0 S G=Av g b (Dg xs) S G:=Qx ZUa Ii.symm
theorem ZFz{f:Nat->DH->Option (Option D)}{g:DG}{c:DB}{l:DE}{F:D->Option D}{xs:List D}(i:∀j,f j G=uz xs[j]?)(h:∀x∈xs,CStep g c l S G x (F x)):
  ∀(n j:Nat),xs.length<=j+n->Cp f g c l S n j G=.ok ((xs.drop j).filterMap F) G
 |0,j,m=>by
  unfold Cp;rw[i,z7 (by lia)];simp only;rw[qQ (by lia)]
  rfl
 | n+1,j,m=>by
  unfold Cp;rw[i];by_cases a:j<xs.length
  .have k:=ZFz i h n (j+1) (by lia);obtain⟨q,o,b⟩:=h xs[j] (qw a);rw[zJ a];simp only[o,R.H8];rw[zO a,qz];rcases b with⟨b,e⟩|⟨b,d,e,p⟩
   .simp[b,e,k]
   .simp[b,e,p,k]
  .rw[z7 (by lia),qQ (by lia)]
   rfl
theorem V0{f:Nat->DH->Option (Option D)}{g:DG}{c:DB}{a:DE}{F:D->Option D}{xs:List D}{n:Nat}(b:∀j,f j G=uz xs[j]?)(h:∀x∈xs,CStep g c a S G x (F x))(d:xs.length<=n):
  Cp f g c a S n 0 G=.ok (xs.filterMap F) G:=ZFz b h n 0 (by lia)
theorem Zt(b:Bd d G=uz xs)(a:Bd e G=uz ys)(j:Nat):Ej [d,e] j G=uz (Ks xs ys)[j]? :=by
 unfold Ej Ks;simp only[Fv,b,a,zx]
 have c:(xs.zip ys)[j]?=match xs[j]?,ys[j]? with
  |some x,uz y=>uz (x,y)
  |_,_=>uj:=by
  rw[List.zip,List.getElem?_zipWith]
  cases xs[j]?<;>cases ys[j]?<;>rfl
 rw[c];cases xs[j]? with
 |none=>rfl
 |some x=>
  cases ys[j]? with
  |none=>rfl
  |some y=>rfl
theorem Vr(b:Bd d G=uz xs)(a:Bd e G=uz ys):Eg 2 [d,e] G=.ok (.fn xs.length (Ej [d,e])) G:=by simp[Eg,Hz,b,a,lenOf]
@[simp]theorem ZFO:Bd (.fl xs) G=uz xs:=id rfl
@[simp]theorem Je:Bd (.tup xs) G=uz xs:=id rfl
theorem ZNK(h:G[i]?=uz (.lst xs)):Bd (.ref i) G=uz xs:=by simp[Bd,h]
theorem ZId(h:Bd d G=uz ((n::ns).map D.int)):Gp [d] G=.ok (.int (ns.foldl min n)) G:=by simp only[Gp,h,ZBl]
theorem ZJN(h:Bd d G=uz ((n::ns).map D.int)):Ha [d] G=.ok (.int (ns.foldl max n)) G:=by simp only[Ha,h,ZBl]
theorem ZHf{p:Nat}{k:Nat}{d:D}(h:G[p]?=uz (.lst [d]))(hk:k<=1000000):Ei (.ref p) (.int (k:Int)) G=.ok (.ref G.length) (G++[.lst (zZ k d)]):=by
 unfold Ei;simp only;rw[h];simp only;have e:(zZ k [d]).flatten=zZ k d:=by
  induction k with
  |zero=>rfl
  |succ k a=>rw[zH,qq,a (by lia),zH];rfl
 rw[if_pos ⟨by lia,by lia,by simpa using hk⟩,Int.toNat_natCast,e]
end
def Bts(i:Int):Prop:=i.natAbs.log2<33554432
def MulB(i j:Int):Prop:=CMul i j∨(Bts i/\Bts j)
noncomputable instance (i:Int):Decidable (Bts i):=by unfold Bts;infer_instance
noncomputable instance (i j:Int):Decidable (MulB i j):=by unfold MulB;infer_instance
theorem MulB.ok(h:MulB i j):IntMulOk i j:=by
 rcases h with h|⟨c,a⟩
 .exact h.ok
 .have b:∀k:Int,Bts k->Builtin.Int.intBits k<=33554432:=λk hk=>by
   unfold Builtin.Int.intBits;split
   .exact jF _
   .exact hk
  have e:=b i c;have d:=b j a;have h:Builtin.Int.intTooBig (Builtin.Int.intBits i+Builtin.Int.intBits j)=uv:=by unfold Builtin.Int.intTooBig bitsLine;exact decide_eq_false (by lia)
  unfold IntMulOk;rw[h];simp
section
variable{X:Cx}{E:XK}
theorem ZL2:OpR X (xI .Mult) (rI MulB λi j=>.int (i*j)):=opI λ_ _ _ _ _ _ _ a q=>mul_int q a.ok
end
section
variable{i j:Int}{G:DH}
end
section
variable{X:Cx}{E:XK}
end
def Ey(f:Str)(v:D):List (Str×D)->List (Str×D)
 |[]=>[(f,v)]
 |(g,x)::r=>if g=f then(g,v)::r else(g,x)::Ey f v r
theorem RepF.mono(x:Ext a b)(h:RepF a fs us):RepF b fs us:=⟨h.1,h.2.mono x⟩
theorem RepF.cons(h:Rep a d v)(r:RepF a fs us):RepF a ((g,d)::fs) ((g,v)::us):=
 ⟨by simp[r.1],v,us.map (·.2),rfl,h,r.2⟩
theorem RepF.uncons(h:RepF a ((g,d)::fs) us):∃v us',us=(g,v)::us'/\Rep a d v/\RepF a fs us':=by
 obtain⟨b,k⟩:=h;cases us with
 |nil=>simp at b
 |cons q us=>
  obtain⟨n,y⟩:=q;simp only[zk,List.cons.injEq]at b;obtain⟨rfl,b⟩:=b;obtain⟨v,r,i,j,l⟩:=k;simp only[zk,List.cons.injEq]at i;obtain⟨rfl,rfl⟩:=i;exact⟨y,us,rfl,j,b,l⟩
theorem RepF.nil'(h:RepF a [] us):us=[]:=by
 obtain⟨b,_⟩:=h;cases us with
 |nil=>rfl
 |cons q us=>simp at b
theorem lkc{a:Type}{f g:Str}{x:a}{fs:List (Str×a)}:qO f ((g,x)::fs)=if(f==g)=ux then uz x else fs.lookup f:=by
 show(match f==g with
  |true=>uz x
  |false=>qO f fs)=_
 cases f==g<;>rfl
theorem RepF.look{a:Wd}{f:Str}{d:D}:∀{fs:List (Str×D)}{us:List (Str×V)},RepF a fs us->fs.lookup f=uz d->∃u,us.lookup f=uz u/\Rep a d u
 |[],us,h,e=>by simp at e
 |(g,x)::fs,us,h,e=>by
  obtain⟨v,j,rfl,i,b⟩:=h.uncons;rw[lkc]at e⊢;by_cases q:(f==g)=ux
  .rw[if_pos q]at e⊢;cases e;exact⟨v,rfl,i⟩
  .rw[if_neg q]at e⊢;exact RepF.look b e
theorem RepF.ZAN{a:Wd}{f:Str}:∀{fs:List (Str×D)}{us:List (Str×V)},RepF a fs us->fs.lookup f=uj->us.lookup f=uj
 |[],us,h,e=>by rw[h.nil'];rfl
 |(g,x)::fs,us,h,e=>by
  obtain⟨v,d,rfl,i,b⟩:=h.uncons;rw[lkc]at e⊢;by_cases q:(f==g)=ux
  .rw[if_pos q]at e;cases e
  .rw[if_neg q]at e⊢;exact RepF.ZAN b e
theorem RepF.put(q:Rep a d v):∀{fs:List (Str×D)}{us:List (Str×V)},RepF a fs us->RepF a (Ey f d fs) (Ed f v us)
 |[],us,h=>by rw[h.nil'];exact RepF.cons q ⟨rfl,rfl⟩
 |(g,x)::fs,us,h=>by
  obtain⟨w,j,rfl,i,b⟩:=h.uncons;unfold Ey Ed;by_cases e:g=f
  .rw[if_pos e,if_pos e];exact .cons q b
  .rw[if_neg e,if_neg e];exact .cons i (RepF.put q b)
theorem RepF.len(h:RepF a fs us):us.length=fs.length:=by have:=congrArg List.length h.1;simpa using this.symm
theorem Ext.wrI(h:a.H p=uz (.ins C dx us)):Ext a (a.put p ho):=
 ⟨rfl,zY _,λ_ _=>rfl,λq d e=>by
  show upd a.H p ho q=_;rw[Ag (λz=>by subst z;rw[h]at e;cases e)];exact e,λq o u e=>by
  show upd a.H p ho q=_;rw[Ag (λz=>by subst z;rw[h]at e;cases e)];exact e,λ_ t=>t.mono (λq b e=>by show upd a.H p ho q=_;rw[Ag (λz=>by subst z;rw[h]at e;cases e)];exact e) (λq o u e=>by show upd a.H p ho q=_;rw[Ag (λz=>by subst z;rw[h]at e;cases e)];exact e)⟩
theorem Sim.wrI(s:Sim a G)(d:i<a.n)(g:zb a.K xT c=uz (uz (.ref C)))(h:a.H (a.m i)=uz (.ins C dx us))(r:RepF (a.put (a.m i) (.ins C dx us')) fs' us'):
  Sim (a.put (a.m i) (.ins C dx us')) (G.set i (.ins c fs')):=by
 refine⟨by rw[jw];exact s.len,s.inj,λj o e=>?_,λj k=>?_⟩
 .rw[qF]at e;show ORep _ o (upd a.H (a.m i) (.ins C dx us') (a.m j));by_cases b:i=j
  .subst b;rw[if_pos rfl,if_pos (by rw[s.len];exact d)]at e;cases e;rw[Dy];exact⟨C,dx,us',g,rfl,r⟩
  .rw[if_neg b]at e;rw[Ag λz=>b (s.inj _ _ (s.lt e) d z).symm];exact(s.obj j o e).mono (Ext.wrI h)
 .show upd a.H (a.m i) (.ins C dx us') (a.m j)≠uj;by_cases b:a.m j=a.m i
  .rw[b,Dy];simp
  .rw[Ag b];exact s.tr j k
def Hl(c:Str)(d:D)(G:DH):Option (List (Str×D)):=match d with
 |.ref i=>match G[i]? with
  |some (.ins c' fs)=>if c'=c then uz fs else uj
  |_=>uj
 |_=>uj
theorem Sim.ins(s:Sim a G)(r:Rep a d x)(h:Hl c d G=uz fs):
  ∃i C b us,d=.ref i/\i<a.n/\x=.ref (a.m i)/\G[i]?=uz (.ins c fs)/\zb a.K xT c=uz (uz (.ref C))/\a.H (a.m i)=uz (.ins C b us)/\RepF a fs us:=by
 unfold Hl at h;split at h
 .rename_i i;split at h
  .rename_i u q e;split at h
   .rename_i p;subst p;cases h;obtain⟨l,k⟩:=r;obtain⟨C,b,us,n,g,j⟩:=s.obj i _ e;exact⟨i,C,b,us,rfl,l,k,e,n,g,j⟩
   .cases h
  .cases h
 .cases h
def Dl(c:Str)(t:DE)(f:Str):DE:=λS G=>(t S G).bind λd G1=>match Hl c d G1 with
 |some fs=>match fs.lookup f with
  |some v=>.ok v G1
  |none=>.bad
 |none=>.bad
def Eb(c:Str)(to tv:DE)(f:Str):DS:=λS G=>(tv S G).toS λd G1=>(to S G1).toS λo G2=>match o with
 |.ref i=>match Hl c o G2 with
  |some fs=>if fs.length<1000 then .nx S (G2.set i (.ins c (Ey f d fs)))else .bad
  |none=>.bad
 |_=>.bad
def Ew(c:Str)(m:Str)(F:List D->DH->R D)(to:DE)(t:DA):DE:=λS G=>(to S G).bind λo G1=>match Hl c o G1 with
 |some fs=>match fs.lookup m with
  |none=>(t S G1).bind λds G2=>F (o::ds) G2
  |some _=>.bad
 |none=>.bad
def Qc(c:Str)(F:List D->DH->R D)(t:DA):DE:=λS G=>(t S G).bind λds G1=>(F (.ref G1.length::ds) (G1++[.ins c []])).bind λv G2=>match v with
 |.non=>.ok (.ref G1.length) G2
 |_=>.bad
section
variable{X:Cx}{E:XK}{c f m:Str}{C:xY}{e o:xz}{es:List xz}{t ta tv:DE}{tr:DA}{pos apos pos':Pos}
theorem ZLe(w:zb X.K xT c=uz (uz (.ref C)))(F:Cls X.K C)(y:NoAttr X.K C f)(P:QE X E e t)(A:xE e f X.env (eval e X.env)=eval e X.env:=by rfl):QE X E (.Attribute e f pos) (Dl c t f):=
 (ZVO P A).mono λY H Q h=>by
  obtain⟨a,S,G,hk,rfl,s,r,h⟩:=h;refine⟨a,S,G,hk,rfl,s,r,(Dw h).imp ?_⟩;rintro v _ ⟨b,d,T,rfl,x,n,q,-,g⟩;split at g
  .rename_i fs N;obtain⟨i,p,B,M,rfl,_,rfl,_,l,z,O⟩:=n.ins q N;have j:p=C:=by
    rw[x.k,hk,w]at l;cases l
    rfl
   subst j;split at g
   .rename_i U J;obtain⟨u,L,I⟩:=O.look J;exact⟨b.m i,p,B,M,u,rfl,z,F,y,L,g b u (Ext.refl b) n I⟩
   .exact g.elim
  .exact g.elim
theorem ZNL(J:zb X.K xT c=uz (uz (.ref C)))(T:Cls X.K C)(N:NoAttr X.K C f)(ha:QE X E o ta)(L:QE X E e tv)(Q:swapsWith e (uz (.Attribute o f pos')) pos.line X.env=pure uv:=by rfl):
  QS X E (.Assign [.Attribute o f pos'] e pos) (Eb c ta tv f):=
 (ZMX ha L Q).mono λW σ H h=>by
  obtain⟨a,S,G,hk,rfl,s,r,h⟩:=h;refine⟨a,S,G,hk,rfl,s,r,(Fp h).imp ?_⟩;rintro v _ ⟨b,d,I,rfl,x,U,q,-,P⟩;refine⟨b,S,I,x.k.trans hk,rfl,U,r.mono x,(Fp P).imp ?_⟩;rintro v2 _ ⟨l,d2,G2,rfl,y,z,M,-,g⟩;split at g
  .rename_i i;split at g
   .rename_i fs hi;split at g
    .rename_i Z;obtain⟨i',w,A,B,O,Y,rfl,eg,u,p,F⟩:=z.ins M hi;cases O;have n:w=C:=by
      rw[y.k,x.k,hk,J]at u;cases u
      rfl
     subst n;have j:Ext l (l.put (l.m i) (.ins w A (Ed f v B))):=Ext.wrI p;exact⟨l.m i,w,A,B,rfl,p,T,N,by rw[F.len];exact Z,g _ σ j (z.wrI (fs':=Ey f d fs) Y u p (RepF.put ((q.mono y).mono j) (F.mono j))) (((r.mono x).mono y).mono j)⟩
    .exact g.elim
   .exact g.elim
  .exact g.elim
theorem ZLl{sp F:List D->DH->R D}{p:St}{H:Hp}{Q:VK}(y:zb X.K xT c=uz (uz (.ref C)))(h:lE X.K E0 (Ew c m F ta tr) p H Q):ZAd C m (lF X.K F) [] E0 (lE X.K E0 ta) (lA X.K E0 tr) p H Q:=by
 obtain⟨a,S,G,hk,rfl,s,r,h⟩:=h;refine⟨a,S,G,hk,rfl,s,r,(Dw h).imp ?_⟩;rintro v _ ⟨b,d,w,rfl,x,n,q,-,g⟩;split at g
 .rename_i fs Y;obtain⟨i,P,L,U,rfl,_,rfl,_,l,I,Z⟩:=n.ins q Y;have j:P=C:=by
   rw[x.k,hk,y]at l;cases l
   rfl
  subst j;split at g
  .rename_i O;refine⟨b.m i,L,U,rfl,I,Z.ZAN O,b,S,w,x.k.trans hk,rfl,n,r.mono x,(Ld g).imp ?_⟩;rintro N _ ⟨T,M,A,rfl,u,J,B,-,z⟩;exact⟨T,A,.ref i::M,(u.k.trans x.k).trans hk,rfl,J,⟨.ref (b.m i),N,by rw[qG],q.mono u,B⟩,z⟩
  .exact g.elim
 .exact g.elim
theorem Tg{CX:CXT}{k:Nat}{g:xY}{b:xj}{ps:List Str}{F:List D->DH->R D}{pl:Sem Bool}(d:zb X.K xT c=uz (uz (.ref C)))(r:Cls X.K C)(p:Meth X.K C m g)(i:FnOk X.prog X.w X.K X.mg X.base CX k g b ps (lF X.K F))(q:Room k X.A)(l:Binds X.K b ps [])
  (j:Passes CX X E0) (ho:QE X E0 o ta) (n:QA X E0 (e::es) tr) (s:notStar e=ux:=by rfl) (a:es.all notStar=ux:=by rfl)
  (u:eval (.Call (.Attribute o m apos) (e::es) [] pos) X.env=(do
   let ov<-eval o X.env
   standAt apos.atName
   let(f,first)<-holding [ov] (getMethod ov m pl)
   callWith pos f first (xF pos (vX (e::es) X.env)) (xG pos (xR [] X.env))):=by rfl):QE X E0 (.Call (.Attribute o m apos) (e::es) [] pos) (Ew c m F ta tr):=
 (ZQa ho r p i q l .nil j n (Hi e es X.env s) (Jb pos X.env es a) u).mono λv H Q h=>ZLl (sp:=F) d h
theorem ZEm(z:zb X.K xT c=uz (uz (.ref C)))(L:Cls X.K C)(n:Meth X.K C m g)(O:FnOk X.prog X.w X.K X.mg X.base CX k g fd ps (lF X.K F))(M:Room k X.A)(I:Binds X.K fd ps [])
  (Z:Passes CX X E0) (ho:QE X E0 o ta)
  (Y:eval (.Call (.Attribute o m apos) [] [] pos) X.env=(do
   let ov<-eval o X.env
   standAt apos.atName
   let(f,first)<-holding [ov] (getMethod ov m pl)
   callWith pos f first (xF pos (vX [] X.env)) (xG pos (xR [] X.env))):=by rfl):QE X E0 (.Call (.Attribute o m apos) [] [] pos) (Ew c m F ta Bj):=
 (ZKq ho L n O M I .nil Z Y).mono λσ H Q h=>by
  obtain⟨a,S,G,hk,rfl,s,r,h⟩:=h;refine⟨a,S,G,hk,rfl,s,r,(Dw h).imp ?_⟩;rintro v _ ⟨b,d,y,rfl,x,u,q,-,j⟩;split at j
  .rename_i fs T;obtain⟨i,N,J,P,rfl,_,rfl,_,p,B,U⟩:=u.ins q T;have l:N=C:=by
    rw[x.k,hk,z]at p;cases p
    rfl
   subst l;split at j
   .rename_i n;exact⟨b.m i,J,P,rfl,B,U.ZAN n,b,y,[.ref i],x.k.trans hk,rfl,u,⟨.ref (b.m i),[],rfl,q,rfl⟩,j⟩
   .exact j.elim
  .exact j.elim
theorem ZQU(hk:a.K=X.K)(A:zb X.K xT c=uz (uz (.ref C)))(s:Sim a G)(q:Reps a ds vs)
  (h:out E0 a ((F (.ref G.length::ds) (G++[.ins c []])).bind λv J=>match v with
   |.non=>.ok (.ref G.length) J
   |_=>.bad) Q):∀x g,a.H x=uj->a.H g=uj->g≠x->lF X.K F (.ref x::(vs++[])) (upd (upd a.H g (.own x)) x (.ins C g [])) (λv N=>v=.non/\Q (.ref x) N) E:=λp g hp k r=>by
 have u:Ext a (a.put g (.own p)):=Ext.put k;have j:(a.put g (.own p)).H p=uj:=by show upd a.H g (.own p) p=uj;rw[Ag λz=>r z.symm];exact hp
 have y:Ext (a.put g (.own p)) ((a.put g (.own p)).push p (.ins C g [])):=Ext.push j;have B:Sim ((a.put g (.own p)).push p (.ins C g [])) (G++[.ins c []]):=(s.put k).push j ⟨C,g,[],by show zb a.K xT c=_;rw[hk];exact A,rfl,rfl,rfl⟩;have i:((a.put g (.own p)).push p (.ins C g [])).m a.n=p:=by show(if a.n=a.n then p else a.m a.n)=p;rw[if_pos rfl]
 have w:Rep ((a.put g (.own p)).push p (.ins C g [])) (.ref G.length) (.ref p):=by rw[s.len];exact⟨qJ _,by rw[i]⟩
 refine⟨(a.put g (.own p)).push p (.ins C g []),_,.ref G.length::ds,hk,rfl,B,⟨.ref p,vs,by rw[qG],w,(q.mono u).mono y⟩,(Dw (out.mono (u.trans y) h)).imp ?_⟩;rintro v _ ⟨b,d,O,rfl,I,M,L,-,l⟩;split at l
 .have:=L;exact⟨this,l b _ (Ext.refl b) M (w.mono I)⟩
 .exact l.elim
theorem ZMT{CX:CXT}{k:Nat}{g:xY}{j:xj}{ps:List Str}{F:List D->DH->R D}{p:Pos}(n:zb X.K xT c=uz (uz (.ref C)))(M:Mk X.K C g)(v:FnOk X.prog X.w X.K X.mg X.base CX k g j ps (lF X.K F))(J:Room (k+1) X.A)(u:Gl X c)(I:X.mg c=uz (.ref C))(z:Binds X.K j ps [])
  (y:Passes CX X E0) (B:QA X E0 (e::es) tr) (i:(c==("__debug__":Str))=uv:=by decide) (N:notStar e=ux:=by rfl) (d:es.all notStar=ux:=by rfl):QE X E0 (.Call (.Name c p) (e::es) [] pos) (Qc c F tr):=
 (ZNw M v J u I z .nil y B i (Hi e es X.env N) (Jb pos X.env es d)).mono λP H Q h=>by obtain⟨a,S,G,hk,rfl,s,r,h⟩:=h;refine⟨a,S,G,hk,rfl,s,r,(Ld h).imp ?_⟩;rintro T _ ⟨b,U,O,rfl,x,L,q,-,l⟩;exact ZQU (x.k.trans hk) n L q l
end
def Ij(d:D)(ds:List D)(G:DH):R D:=match ds with
 | [.int k]=>match Ft d G with
  |some xs=>match Fg xs with
   |some ns=>if k∈ns/\ns.length<=1000000 then .ok (.int (ns.idxOf k)) G else .bad
   |none=>.bad
  |none=>.bad
 |_=>.bad
theorem ZD5:∀{ns:List Int}{vs:List V},Reps a (ns.map D.int) vs->vs=ns.map V.int
 |[],vs,h=>h
 |n::ns,vs,h=>by
  obtain⟨v,r,e,c,b⟩:=h;cases(c);rw[e,ZD5 b]
  rfl
theorem O1:∀{ns:List Int}{us:List xB},Vals (ns.map V.int) us->us.length=ns.length/\∀(j:Nat)(u:xB),us[j]?=uz u->∃t,∃h:j<ns.length,u=.int ns[j] t
 |[],us,h=>by cases h;exact⟨rfl,λj u e=>by simp at e⟩
 | n::ns,us,h=>by
  cases h with
  | cons r d=>
   obtain⟨b,f⟩:=O1 d;obtain⟨t,rfl⟩:=r;refine⟨by simp[b],λj u e=>?_⟩;cases j with
   |zero=>simp at e;exact⟨t,by simp,by simpa using e.symm⟩
   |succ j=>
    obtain⟨g,c,a⟩:=f j u (by simpa using e);exact⟨g,by simpa using c,by simpa using a⟩
section
variable{X:Cx}{E:XK}
theorem ZUW:MtM X "list.index" (lRm X.K E Ij):=by
 intro vA s σ H x xs v us Q I rx B h;obtain⟨a,G,d,ds,hk,rfl,sm,rd,L,q⟩:=h;unfold Ij at q;split at q
 .rename_i k;split at q
  .rename_i ys J;split at q
   .rename_i f T;split at q
    .rename_i S;obtain⟨j,hlen⟩:=S;obtain⟨p,vs,rfl,U,Z⟩:=Qa sm rd J;rw[Ua T]at Z;rw[ZD5 Z,hk]at U;cases rx;obtain⟨v1,rfl,M⟩:=reps1 L;cases(M);obtain⟨u,rfl,ru⟩:=B.one;obtain⟨t,rfl⟩:=ru;obtain⟨b,l,⟨o,n,O,W,hdi,hd⟩,hz⟩:=I.list U;obtain⟨w,c⟩:=O1 l;have z:=j8 j;have P:f.idxOf k<b.toArray.size:=by simpa[w]using z
     have A:o={cls:=.type "list",dict:=o.dict,data:=.seq b.toArray n,slots:=o.slots}:=by
      obtain⟨c1,c2,c3,c4⟩:=o;simp only at W hd;subst W;subst hd
      rfl
     rw[A]at O
     refine call_meets PySem.F.slot_list_index ⟨_,O,rfl⟩ PySem.F.entry_list_index (PySem.F.args_list_index_2 _ _) (SeqAt.list_indexAt p b.toArray n o.dict o.slots (.int k t) (λy=>match y with | .int i _=>i==k|_=>uv) (f.idxOf k) P (by lia) ?_ ?_) ⟨O,λy J=>?_,?_⟩
     .have C:b[f.idxOf k]?=uz b.toArray[f.idxOf k]:=by simp[zJ (by simpa[w]using z:f.idxOf k<b.length)]
      obtain⟨Y,h3,g⟩:=c _ _ C;rw[g];simp
     .intro m N r;have C:b[m]?=uz b.toArray[m]:=by simp[zJ (by simpa using N)]
      obtain⟨Y,h3,g⟩:=c _ _ C;rw[g];have:=List.not_of_lt_findIdx r;simpa using this
     .obtain⟨m,N,e⟩:=qx (by simpa using J);obtain⟨Y,h3,g⟩:=c m y (by rw[zJ N,e]);rw[g];exact wW _ _ _ _
     .exact⟨.int (f.idxOf k),a.H,I.tok _,⟨_,rfl⟩,q a _ (Ext.refl a) sm rfl⟩
    .exact q.elim
   .exact q.elim
  .exact q.elim
 .exact q.elim
def tLR(ta:TA):TE:=λσ H Q=>ta σ H λvs H1=>∃j:Int,vs=[.int j]/\ -(2^62)<=j/\j<=1000000/\∀l,H1 l=uj->Q (.ref l) (upd H1 l (.lst ((zX j.toNat).map λ(i:Nat)=>V.int (i:Int))))
theorem ZLu(h:ItemsOf (λi v=>∃t,v=.int ((0:Int)+i*1) t) acc n):Vals ((zX n).map λ(i:Nat)=>V.int (i:Int)) acc.toList:=by
 obtain⟨b,g⟩:=h;refine Wf (by simp[b]) λi v u a c=>?_
 have d:i<n:=by have:=(zC.mp a).1;simpa using this
 rw[zx,zE d]at a;have f:v=V.int (i:Int):=by simpa using a.symm
 obtain⟨t,e⟩:=g i u (by rw[<-jQ];exact c);subst f;refine⟨t,?_⟩;rw[e]
 congr 1
 lia
theorem ZLm{e:xz}{ta:TA}{p r pos a:Pos}(B:X.calm=ux)(z:Gl X "list")(J:X.mg "list"=uj)(l:Gl X "range")(m:X.mg "range"=uj)(N:PA X [e] ta)(A:vX [e] X.env=[(uv,eval e X.env)]:=by rfl)
  (d:vX [.Call (.Name "range" r) [e] [] a] X.env=[(uv,eval (.Call (.Name "range" r) [e] [] a) X.env)]:=by rfl):PE X (.Call (.Name "list" p) [.Call (.Name "range" r) [e] [] a] [] pos) (tLR ta):=by
 intro g s L H Q I h;refine Call_ (Gx I z J ZDo (zg ?_ d rfl));rw[d];refine Calls.spliced_cons (Call_ (Gx I l m wh (zg (thn (N a g s L H _ I h) λW k ⟨T,P,y,M,x⟩=>?_) A rfl)));obtain⟨j,rfl,O,U,q⟩:=x;obtain⟨u,rfl,C⟩:=M.one;obtain⟨t,rfl⟩:=C;refine call_range_1 (Calls.spliced_nil ?_)
 have n:Builtin.Range.rangeSize 0 j 1=(j.toNat:Int):=by rw[rangeSize_one];split <;> lia
 refine call_list_range (I.ok.hd B) (IsRange.new ..) (small_one (by decide) (by decide) O (by lia)) n (by lia) λK S f F hk v c=>?_
 have w:=y.kept (t':=k.toks+1+1) (h':=k.heap.push {cls:=.type "range",data:=.fields #[.int 0 k.toks,.int j t,.int 1 (k.toks+1)]}) λb o e=>zQ _ e
 refine⟨.ref _,_,w.laid (o:=.lst ((zX j.toNat).map λ(i:Nat)=>V.int (i:Int))) hk (zY _) ⟨?_,f.toList,F,ZLu c,by simpa using v⟩,rfl,q _ (w.hok.fresh (zY _))⟩;rw[zU,List.length_range,vZ];lia
def dLR(t:DA):DE:=λS G=>(t S G).bind λds G1=>match ds with
 |[.int j]=>if inR j/\j<=1000000 then .ok (.ref G1.length) (G1++[.lst (Bg 0 j.toNat)])else .bad
 |_=>.bad
theorem ZSq{e:xz}{ta:DA}{p m pos c:Pos}(w:X.calm=ux)(t:Gl X "list")(z:X.mg "list"=uj)(f:Gl X "range")(g:X.mg "range"=uj)(C:QA X E [e] ta)(u:vX [e] X.env=[(uv,eval e X.env)]:=by rfl)
  (i:vX [.Call (.Name "range" m) [e] [] c] X.env=[(uv,eval (.Call (.Name "range" m) [e] [] c) X.env)]:=by rfl):QE X E (.Call (.Name "list" p) [.Call (.Name "range" m) [e] [] c] [] pos) (dLR ta):=
 (ZLm w t z f g C u i).mono λK H Q h=>by
  obtain⟨a,S,G,hk,rfl,s,r,h⟩:=h;refine⟨a,S,G,hk,rfl,s,r,(Ld h).imp ?_⟩;rintro J _ ⟨b,I,F,rfl,x,y,q,-,d⟩;split at d
  .rename_i j;split at d
   .rename_i n;obtain⟨v,rfl,A⟩:=reps1 q;cases(A);refine⟨j,rfl,n.1.1,n.2,λl B=>Iw y ?_ d l B⟩;unfold Bg;generalize zX j.toNat=L
    induction L with
    |nil=>exact rfl
    |cons k L o=>exact⟨_,_,rfl,(by show V.int (k:Int)=V.int (0+(k:Int));rw[Int.zero_add]),o⟩
   .exact d.elim
  .exact d.elim
noncomputable def Itd(lo:Int)(n:Nat):It:=⟨λi _=>i<n,λi H x H'=>H'=H/\x=.int (lo-i),λi _=>n<=i⟩
theorem ZTc{P:xk}{w:xC}{K:za}{tg:xz}(it:xY)(g:Int)(n:Nat):Turn P w K tg (Itd g n) [it] it (λi h=>IsRangeIter h it (g+(i:Nat)*(-1)) ((n:Int)-(i:Nat)) (-1)) where
 mem:=by simp
 obj:=λi h a b c=>by
  have e:b=it:=by simpa using c
  subst e;exact⟨_,a,λv z=>by have C:=z;cases C⟩
 keep:=λi h B a k=>k it (by simp) _ a
 item:=by
  intro X l hw u r i f s M H E I j a q;subst l hw u;obtain⟨y,m,J,x,p,A⟩:=j it (by simp);refine(Walks.range (prog:=X.prog) (w:=X.w) (I.ok.hd r) it g (-1) n).item i s _ _ q a λv B O F d N=>?_
  obtain⟨t,rfl⟩:=F;refine⟨_,rfl,Lz d rfl rfl (by decide) ⟨.int (g-i),H,I.turned (λb o c e=>N b o (by simpa using c) e) y m x p A,⟨t,?_⟩,⟨rfl,rfl⟩,d,λb c=>(j b c).1⟩⟩
  congr 1
  lia
 done:=by intro X l hw u r i f s M H E I j a q;subst l hw u;obtain⟨y,m,J,x,p,A⟩:=j it (by simp);exact wpAny_pyNext_range_end (I.ok.hd r) a (by have:n<=i:=q;lia) λB L=>⟨rfl,I.turned (λb o c e=>L b o c e) y m x p A⟩
 self:=λ_ _ _ _ _ a h=>wpAny_pyIter_rangeiter a h
theorem rangeSize_down(a b:Int):Builtin.Range.rangeSize a b (-1)=if b<a then a-b else 0:=by
 unfold Builtin.Range.rangeSize;rw[if_neg (by decide)];have e:(- (-1:Int))=1:=by decide
 rw[e,Int.ediv_one]
 split <;> lia
theorem small_down(f: -(2^62)<=a)(d:a<2^62)(e: -(2^62)<=b)(c:b<2^62):Builtin.Range.small a b (-1)=ux:=by
 unfold Builtin.Range.small;rw[rangeSize_down];simp only[Builtin.Range.rangeFitsLong,z5,j5,decide_eq_true_eq,beq_iff_eq,show¬((-1:Int)>0) by decide,if_false]
 split <;> lia
def iDn(ta:TA):TI:=λσ H R=>ta σ H λvs H1=>∃i j:Int,vs=[.int i,.int j,.int (-1)]/\(-(2^62)<=i/\i<2^62/\ -(2^62)<=j/\j<2^62)/\R (Itd i (i-j).toNat) H1
theorem ZRO{tg a b c:xz}{ta:TA}{p pos:Pos}(M:Gl X "range")(S:X.mg "range"=uj)(U:PA X [a,b,c] ta)(O:vX [a,b,c] X.env=(uv,eval a X.env)::vX [b,c] X.env:=by rfl)(x:(xF pos (vX [b,c] X.env)).any (·.1)=uv:=by rfl):
  PI X tg (.Call (.Name "range" p) [a,b,c] [] pos) (iDn ta):=by
 intro k s B H R I h;refine Call_ (Gx I M S wh (zg (thn (U pos k s B H _ I h) λY m ⟨W,A,K,T,w⟩=>?_) O x));obtain⟨i,j,e,⟨w,C,Q,J⟩,q⟩:=w;subst e;cases T with
 | cons r u=>
  cases u with
  | cons P u=>
   cases u with
   | cons y u=>
    cases u;obtain⟨t,rfl⟩:=r;obtain⟨v,rfl⟩:=P;obtain⟨g,rfl⟩:=y;refine call_range_3 (by decide) ?_ (.inl (PyProof.noPylong_small (by lia)));refine wpAny_pyIter_range (IsRange.new ..) (small_down w C Q J) ?_;have z:Inv X k B A {m with heap:=m.heap.push {cls:=.type "range",data:=.fields #[.int i t,.int j v,.int (-1) g]},toks:=m.toks}:=K.kept λb o e=>zQ _ e
    refine⟨(m.heap.push {cls:=.type "range",data:=.fields #[.int i t,.int j v,.int (-1) g]}).objs.size,[(m.heap.push {cls:=.type "range",data:=.fields #[.int i t,.int j v,.int (-1) g]}).objs.size],_,_,A,rfl,
     z.kept λb o e=>zQ _ e,ZTc _ i (i-j).toNat,?_,λb N=>?_,q⟩
    .have L:i+((0:Nat):Int)*(-1)=i:=by simp
     have F:(((i-j).toNat:Nat):Int)-((0:Nat):Int)=Builtin.Range.rangeSize i j (-1):=by rw[rangeSize_down];split <;> lia
     rw[L,F];exact zy _ rfl
    .have e:b=(m.heap.push {cls:=.type "range",data:=.fields #[.int i t,.int j v,.int (-1) g]}).objs.size:=by simpa using N
     subst e;exact z.Hh (zY _) (z.hok.fresh (zY _))
noncomputable def Iu(lo:Int)(n:Nat):List D:=(zX n).map λ(k:Nat)=>D.int (lo-(k:Int))
def rng3(ds:List D)(G:DH):R ItD:=match ds with
 |[.int i,.int j,.int k]=>if inR i/\inR j/\k= -1 then .ok (.pure (Iu i (i-j).toNat)) G else .bad
 |_=>.bad
theorem ZOr(e:Int)(n:Nat):RepI a (.pure (Iu e n)) (Itd e n):=by
 refine⟨(zX n).map λ(k:Nat)=>V.int (e-(k:Int)),?_,λb x i=>⟨λv c=>?_,λf=>?_⟩⟩
 .unfold Iu;generalize zX n=l
  induction l with
  |nil=>exact rfl
  |cons k l g=>exact⟨_,_,rfl,rfl,g⟩
 .rw[zx]at c;by_cases d:i<n
  .rw[zE d]at c;exact⟨d,λw h y=>⟨y.2.trans (by simpa using c),y.1⟩⟩
  .rw[z7 (by simpa using d)]at c;cases c
 .show n<=i;simpa using f
theorem ZTz{tg e f c:xz}{ta:DA}{p pos:Pos}(z:Gl X "range")(F:X.mg "range"=uj)(I:QA X E [e,f,c] ta)(A:vX [e,f,c] X.env=(uv,eval e X.env)::vX [f,c] X.env:=by rfl)(l:(xF pos (vX [f,c] X.env)).any (·.1)=uv:=by rfl):
  QI X E tg (.Call (.Name "range" p) [e,f,c] [] pos) (Bf rng3 ta):=
 (ZRO z F I A l).mono λT H Q h=>by
  obtain⟨a,S,G,hk,rfl,s,r,h⟩:=h;refine⟨a,S,G,hk,rfl,s,r,(Ol h).imp ?_⟩;rintro P _ ⟨b,N,J,rfl,x,B,q,-,d⟩;unfold rng3 at d;split at d
  .rename_i i j k;split at d
   .rename_i g;obtain⟨m,g,rfl⟩:=g;obtain⟨v,r,y,n,O,K,u,t,M,L,o,C,w⟩:=q;cases(n);cases(t);cases(C);cases(w);subst o;subst u;exact⟨i,j,y,⟨m.1,m.2,g.1,g.2⟩,d b _ (Ext.refl b) B (ZOr i (i-j).toNat)⟩
   .exact d.elim
  .exact d.elim
end
theorem ZQk(a b:xB):checkTypeCall "enumerate" ⟨[a],[("start",b)]⟩=pure ():=by kernel_rfl
theorem ZKj(a b:xB):xM "enumerate.__new__" ⟨[.type "enumerate",a],[("start",b)]⟩=pure ():=by kernel_rfl
theorem ZQB(o a b:xB):argsOk "object.__init__" ⟨[o,a],[("start",b)]⟩:=by
 unfold argsOk;rw[signature?_of (n:=['_','_','t','i','n','i','_','_']) (by kernel_rfl) wM]
 kernel_rfl
section
variable{prog:xk}{w:xC}{A:xq}{E:xB->x0->Prop}{s:x0}
theorem ZPN(f:typeLookup (.type T) "__init__"=pure (uz (.builtin "object.__init__")))(h:Bind.madeBy (.type T)=pure (uz newId))(e:(uz newId != uz "object.__new__")=ux):
  Meets (Builtin.«object.__init__» ⟨[self,a],kw⟩) (λ_ R s=>s.TypeIs self T/\R (.ok (.ret .none)) s):=by
 refine Meets.of_wp λb w A R s d=>?_
 obtain⟨g,c⟩:=d
 repeat (any_goals (first|assumption|wp_step))
 exact⟨_,rfl,c⟩
theorem ZMo(d:TypeCalled T newId initId)
  (C:checkTypeCall T ⟨args,kw⟩=pure ()) (n:xM newId ⟨.type T::args,kw⟩=pure ())
  (i:entryFor table newId=uz Bn) (f:entryFor table initId=uz Bi) (g:Meets (Bn ⟨.type T::args,kw⟩) S) (h:S A.in1 (wants Q₁ E) s)
  (l:∀obj a,Q₁ obj a->a.TypeIs obj T/\argsOk initId ⟨obj::args,kw⟩/\∃p,Meets (Bi ⟨obj::args,kw⟩) p/\p A.in1 (wants (λr j=>r=.none/\Q obj j) E) a):
  vW (xU prog w) A (call (.type T) args kw) Q E s:=by
 obtain⟨c,K,u⟩:=d.mro;have t:=d.made;have v:=d.sub;refine wpAny_call (codeAny_of_tree ?_);refine v4 ⟨Code.quiet_builtin _ (by decide +kernel),codeAny_builtin PySem.F.entry_type_call ?_⟩;rw[Around.under_plain (weight_type_call_type T args kw) (units_type_call_type T args kw)];have I:=d.notType;have H:=d.canCreate
 repeat (any_goals (first|assumption|wp_step))
 refine xN (codeAny_call_builtin d.plain i (wpAny_of_eq n (g prog w A.in1 _ s h))) λr a q=>?_
 cases r with
 |error e=>exact q
 | ok fl=>
  cases fl with
  | ret obj=>
   obtain⟨x,hok,p,y,o⟩:=l _ _ q;have B:=d.init.lookup;have z:=d.init.bind obj
   repeat (any_goals (first|assumption|wp_step))
   refine xN (codeAny_call_builtin d.init.plain f (d.init.check _ _ _ _ _ _ _ _ x hok (y prog w A.in1 _ a o))) λm j b=>?_
   cases m with
   |error e=>exact b
   | ok k=>
    cases k with
    |ret r=>
     obtain⟨rfl,J⟩:=b
     repeat (any_goals (first|assumption|wp_step))
    |_=>exact b.elim
  |_=>exact q.elim
theorem ZOQ{sr:Src}{xs:Array xB}{n:Int}{t:Tok}{Q:xB->x0->Prop}(hv:sr.val s.heap xs)
  (h:∀h' tk g,Gv n g->En h' (s.heap.objs.size+1) s.heap.objs.size .none n g .none->sr.it h' s.heap.objs.size 0->(∀b o,s.heap.get? b=uz o->h'.get? b=uz o)->Q (.ref (s.heap.objs.size+1)) {s with heap:=h',toks:=tk}):
  vW (xU prog w) A (call (.type "enumerate") [.ref sr.adr] [("start",.int n t)]) Q E s:=by
 have g:Meets (Builtin.«enumerate.__new__» ⟨[.type "enumerate",.ref sr.adr],[("start",.int n t)]⟩) (λ_ R s=>sr.val s.heap xs/\∀g tk,Gv n g->
   R (.ok (.ret (.ref (s.heap.push {cls:=.type sr.itn,data:=.fields #[.ref sr.adr,.int 0 0]}).objs.size)))
    {s with heap:=(s.heap.push {cls:=.type sr.itn,data:=.fields #[.ref sr.adr,.int 0 0]}).push {cls:=.type "enumerate",data:=.fields #[.none,.bool uv,.ref s.heap.objs.size,vQ n,g,.none]},toks:=tk}):=
  .of_wp λprog w A R s h=>by
   obtain⟨hp,g,d,tk,os⟩:=s;obtain⟨hl,h⟩:=h;have hsub:=sub_enumerate;have hL:sr.val (Shared.heap ⟨hp,g,d,tk,os⟩) xs:=hl
   wp_walk
   refine wpAny_stack_any λst=>v4 ?_
   cases hf:uq n
   .split
    .rename_i c _ _ _ _ _
     cases(c==Value.type "enumerate")<;>(wp_walk using Src.iter hL;exact⟨_,rfl,h _ _ (.inr ⟨t,rfl⟩)⟩)
    .wp_walk using Src.iter hL
     exact⟨_,rfl,h _ _ (.inr ⟨t,rfl⟩)⟩
   .split
    .rename_i c _ _ _ _ _
     cases(c==Value.type "enumerate")<;>(wp_walk using Src.iter hL;exact⟨_,rfl,h _ _ (.inl rfl)⟩)
    .wp_walk using Src.iter hL
     exact⟨_,rfl,h _ _ (.inl rfl)⟩
 refine ZMo (Q₁:=λobj s₁=>s₁.TypeIs obj "enumerate"/\Q obj s₁) w9 (ZQk _ _) (ZKj _ _) wD PySem.F.entry_object_init g ⟨hv,λg tk hg=>?_⟩ λobj s₁ hq=>⟨hq.1,ZQB obj _ _,_,ZPN PySem.F.called_enumerate.init.lookup PySem.F.called_enumerate.made (by decide),hq.1,rfl,hq.2⟩
 have hz:(s.heap.push {cls:=.type sr.itn,data:=.fields #[.ref sr.adr,.int 0 0]}).objs.size=s.heap.objs.size+1:=qy ..;show _/\_;rw[hz];have he:En ((s.heap.push {cls:=.type sr.itn,data:=.fields #[.ref sr.adr,.int 0 0]}).push {cls:=.type "enumerate",data:=.fields #[.none,.bool uv,.ref s.heap.objs.size,vQ n,g,.none]}) (s.heap.objs.size+1) s.heap.objs.size .none n g .none:=by
  have:=zy (s.heap.push {cls:=.type sr.itn,data:=.fields #[.ref sr.adr,.int 0 0]}) (o:={cls:=.type "enumerate",data:=.fields #[.none,.bool uv,.ref s.heap.objs.size,vQ n,g,.none]}) rfl;rw[hz]at this;exact this
 exact⟨⟨_,he,rfl⟩,h _ tk g hg he ⟨_,zQ _ (zy _ rfl),rfl,rfl⟩ λb o x=>zQ _ (zQ _ x)⟩
theorem ZP2{M:Model}{A:xq}{E:xB->x0->Prop}{s:x0}{env:Env}{pos:Pos}{T:String}{e:xz}{rest:List xz}{c:List Keyword}{Q:xB->x0->Prop}
  (i:(xG pos (xR c env)).all (·.1.isSome)=ux)
  (h:vW M A (spliced (xF pos (vX (e::rest) env))) (λvs b=>vW M A (evalAll ((xG pos (xR c env)).map (·.2)))
   (λks f=>vW M A (call (.type T) vs (((xG pos (xR c env)).filterMap (·.1)).zip ks)) Q E f) E b) E s)
  (d:(xF pos (vX (e::rest) env)).any (·.1)=uv) (j:(xG pos (xR c env)).any (·.1.isNone)=uv) (l:vX (e::rest) env=(uv,eval e env)::vX rest env):
  vW M A (callWith pos (.type T) [] (xF pos (vX (e::rest) env)) (xG pos (xR c env))) Q E s:=by
 unfold callWith;refine vY (vx (vv (PyProof.Rows.evalArgs_kw2 (Q:=λa b=>vW M A (call (.type T) ([]++a.pos) a.kw) Q E b) i h l) (λa b g=>vY (wpAny_standAt ?_)) λ_ _ x=>x));simp only[d,j,Bool.or_false];refine vY (v4 ?_);exact vY (vv g (λr f k=>vY (vx (wpAny_point (v4 k)))) λ_ _ x=>x)
end
section
variable{X:Cx}{E:XK}
def ZUf(K:za)(ta tk:TA):TI:=λσ H R=>ta σ H λvs H1=>tk σ H1 λws H2=>∃sr xs n,vs=[.ref (Src.adr sr)]/\ws=[.int n]/\sr.sq K H2 xs/\R (Ite K sr n) H2
theorem ZTF{elts:List xz}{x1}{tp:Pos}{a b:xz}{ta tk:TA}{p pos i:Pos}(k:Gl X "enumerate")(S:X.mg "enumerate"=uj)(Z:PA X [a] ta)(hk:PK X [⟨uz "start",b,i⟩] tk)(m:vX [a] X.env=[(uv,eval a X.env)]:=by rfl):
  PI X (.Tuple elts x1 tp) (.Call (.Name "enumerate" p) [a] [⟨uz "start",b,i⟩] pos) (ZUf X.K ta tk):=by
 intro c s v H R I h;refine vK (Gx I k S wE (ZP2 rfl (thn (Z pos c s v H _ I h) λus O ⟨vs,x,J,Y,y⟩=>thn (hk pos c O v x _ J y) λus2 d ⟨ws,T,j,B,C⟩=>?_) (by rw[m];rfl) rfl m));obtain⟨P,xs,n,e,F,L,q⟩:=C;subst e;subst F;cases Y with
 |cons r M=>
  cases M;cases r;obtain⟨u,rfl,Q⟩:=B.one;obtain⟨t,rfl⟩:=Q;obtain⟨U,rv,z,hz⟩:=Src.sq.val j L;refine ZOQ z λh' tk g k o W i=>?_
  refine ZBg o ?_;refine⟨d.heap.objs.size+1,[d.heap.objs.size+1,d.heap.objs.size],_,_,T,rfl,j.kept (t':=tk) i,ZFe P n _ _ (Nat.succ_ne_self _),⟨g,.none,by simpa using o,by simpa using k,W⟩,λb N=>?_,q⟩;have l:b=d.heap.objs.size+1∨b=d.heap.objs.size:=by simpa using N
  have f:d.heap.objs.size<=b:=by rcases l with rfl|rfl<;>lia
  exact j.Hh f (j.hok.fresh f)
theorem ZOc(hk:a.K=X.K)(r:∀b:Wd,Ext a b->∀h,Sim b h->∀ys,Bd d h=uz ys->∃us,sr.sq b.K b.H us/\Reps b ys us)(n:Nat):RepI a (.fn n (De n0 d)) (Ite X.K sr n0):=by
 intro b x h l i;have z:=x.k.trans hk;constructor
 .intro e f;unfold De at f;split at f
  .cases f
  .rename_i ys m;obtain⟨us,g,j⟩:=r b x h l ys m;rw[z]at g;cases c:ys[i]? with
   |none=>rw[c]at f;cases f
   |some y=>
    rw[c]at f;have o:D.tup [.int (n0+i),y]=e:=by simpa using f
    subst o;obtain⟨u,v,B⟩:=j.get c;refine⟨⟨us,u,g,v⟩,?_⟩;rintro w F ⟨p,C,rfl,hp,rfl,q⟩;refine⟨b.put p (.tup [.int (n0+i),C]),rfl,Ext.put hp,l.put hp,p,_,rfl,.of Dy,?_⟩;have t:=q us g;rw[v]at t;cases t;exact⟨_,_,rfl,rfl,Reps.cons (B.mono (Ext.put hp)) rfl⟩
 .intro f;unfold De at f;split at f
  .cases f
  .rename_i ys m;obtain⟨us,g,j⟩:=r b x h l ys m;rw[z]at g;cases c:ys[i]? with
   |none=>exact⟨us,g,by rw[<-j.length];exact qU.mp c⟩
   |some y=>rw[c]at f;cases f
def O5(ta:DA)(tb:DE):DI:=λS G=>(ta S G).bind λds G1=>(tb S G1).bind λk G2=>match ds,k with
 |[d],.int n=>match Bd d G2 with
  |some xs=>.ok (.fn xs.length (De n d)) G2
  |none=>.bad
 |_,_=>.bad
theorem ZN4(a:QE X E b tb):PK X [⟨nm,b,kp⟩] (Qh (lE X.K E tb) Qf):=ZPz a ZUF
theorem ZNf{E:XK}(h:outI E a (r.bind f) Q):
  out E a r (λv H=>∃(b:Wd)(d:D)(G:DH),b.H=H/\Ext a b/\Sim b G/\Rep b d v/\outI E b (f d G) Q):=by
 cases r with
 |ok d G=>exact λb v x s q=>⟨b,d,G,rfl,x,s,q,outI.mono x h⟩
 |err e G=>exact h
 |bad=>exact h
theorem ZRR{x1}(z:Gl X "enumerate")(L:X.mg "enumerate"=uj)(N:QA X E [e] ta)(C:QE X E b tb)(B:vX [e] X.env=[(uv,eval e X.env)]:=by rfl):
  QI X E (.Tuple elts x1 tp) (.Call (.Name "enumerate" p) [e] [⟨uz "start",b,kp⟩] pos) (O5 ta tb):=(ZTF z L N (ZN4 C) B).mono λY H Q h=>by
 obtain⟨a,S,G,hk,rfl,s,r,h⟩:=h;refine⟨a,S,G,hk,rfl,s,r,(Ol h).imp ?_⟩;rintro U _ ⟨b,T,j,rfl,x,F,q,-,o⟩;refine⟨b,S,j,x.k.trans hk,rfl,F,r.mono x,(ZNf o).imp ?_⟩;rintro v _ ⟨c,k,P,rfl,y,g,m,f⟩;split at f
 .rename_i d n;split at f
  .rename_i W O;obtain⟨w,r,u,l,I⟩:=q;cases(I);subst u;cases(m);obtain⟨J,rfl,⟨M,t⟩,K⟩:=ZBG g (l.mono y) O;have i:=(y.k.trans x.k).trans hk;exact⟨J,M,n,rfl,rfl,by rw[<-i];exact t,f c _ (Ext.refl c) g (ZOc i K _)⟩
  .exact f.elim
 .exact f.elim
end
end _D
namespace _D
open PySem PySem.Spec _L
def Ht(c f:Str)(d:D)(G:DH):R D:=match Hl c d G with
 |some fs=>match fs.lookup f with
  |some v=>.ok v G
  |none=>.bad
 |none=>.bad
def Nj(c f:Str)(o d:D)(S:DSt)(G:DH):SR:=match o with
 |.ref i=>match Hl c o G with
  |some fs=>if fs.length<1000 then .nx S (G.set i (.ins c (Ey f d fs)))else .bad
  |none=>.bad
 |_=>.bad
def Sx(c m:Str)(F:List D->DH->R D)(t:DA)(S:DSt)(o:D)(G:DH):R D:=match Hl c o G with
 |some fs=>match fs.lookup m with
  |none=>(t S G).bind λds G2=>F (o::ds) G2
  |some _=>.bad
 |none=>.bad
def ZCG(F:List D->DH->R D)(c:Str)(ds:List D)(G1:DH):R D:=(F (.ref G1.length::ds) (G1++[.ins c []])).bind λv G2=>match v with
 |.non=>.ok (.ref G1.length) G2
 |_=>.bad
section
variable{S:DSt}{G:DH}{c f m:Str}{t to tv:DE}{ta:DA}{F:List D->DH->R D}{i:Nat}{fs:List (Str×D)}{v d:D}
@[simp]theorem ev_fld:Dl c t f S G=(t S G).bind λd a=>Ht c f d a:=id rfl
@[simp]theorem Ko:Eb c to tv f S G=(tv S G).toS λd b=>(to S b).toS λo a=>Nj c f o d S a:=id rfl
@[simp]theorem ZXK:Ew c m F to ta S G=(to S G).bind λo a=>Sx c m F ta S o a:=id rfl
@[simp]theorem ZWO:Qc c F ta S G=(ta S G).bind λa b=>ZCG F c a b:=id rfl
theorem ZBB(h:G[i]?=uz (.ins c fs)):Hl c (.ref i) G=uz fs:=by unfold Hl;simp only[h,if_true]
theorem Ku(h:G[i]?=uz (.ins c fs))(a:fs.lookup f=uz v):Ht c f (.ref i) G=.ok v G:=by unfold Ht;rw[ZBB h];simp only[a]
theorem ZMJ(h:G[i]?=uz (.ins c fs))(a:fs.length<1000):Nj c f (.ref i) d S G=.nx S (G.set i (.ins c (Ey f d fs))):=by unfold Nj;simp only[ZBB h,a,if_true]
theorem ZSX(h:G[i]?=uz (.ins c fs))(e:fs.lookup m=uj):Sx c m F ta S (.ref i) G=(ta S G).bind λb a=>F (.ref i::b) a:=by unfold Sx;rw[ZBB h];simp only[e]
@[simp]theorem ev_LR:dLR ta S G=(ta S G).bind λb a=>match b with
 |[.int j]=>if inR j/\j<=1000000 then .ok (.ref a.length) (a++[.lst (Bg 0 j.toNat)])else .bad
 |_=>.bad:=id rfl
@[simp]theorem ZSp{i j:Int}(a:inR i)(b:inR j):rng3 [.int i,.int j,.int (-1)] G=.ok (.pure (Iu i (i-j).toNat)) G:=by simp[rng3,a,b]
theorem ZR0:Iu lo 0=[]:=rfl
theorem ZV5:Iu lo (n+1)=.int lo::Iu (lo-1) n:=by
 unfold Iu;rw[qE,zk,jK]
 congr 1
 .simp
 .refine qC λk _=>?_
  simp only[Function.comp]
  congr 1
  lia
theorem ZGG{d:D}{ns:List Int}{k:Int}(h:Ft d G=uz (ns.map D.int))(b:k∈ns)(a:ns.length<=1000000):Ij d [.int k] G=.ok (.int (ns.idxOf k)) G:=by unfold Ij;simp only[h,ZBl,b,a,and_self,if_true]
theorem ZOM{d:D}{G a:DH}(e:a.length=G.length)(b:bel G.length d=ux):tidy G (.ok d a)=.ok d a:=by
 unfold tidy;simp only[b,if_true];split
 .rename_i h;rw[List.take_of_length_le (by lia)]at h;rw[h]
 .rfl
theorem ZPw{d:D}{G a:DH}(h:a.take G.length≠G):tidy G (.ok d a)=.ok d a:=by unfold tidy;simp only[h,if_false]
end
end _D
namespace _D
open PySem PySem.Spec _L
open PyProof.Rows hiding St
def Le(x:Str)(n:Int):Str:=if n<1 then Str.empty else if(n==1||x.length==0)=ux then x else⟨(zZ n.toNat x.cps).foldl (·++·) #[]⟩
theorem Yh:∀(n:Nat)(b:Array Nat),((zZ n a).foldl (·++·) b).toList=b.toList++(zZ n a.toList).flatten
 |0,b=>by simp
 |n+1,b=>by rw[zH,jG,Yh n (b++a),zH,qq];simp
theorem ZPo{a:Array Nat}(n:Nat):((zZ n a).foldl (·++·) #[]).size=n*a.size:=by rw[<-qB,Yh];simp
theorem ZLO:(Le x n).cps.toList=(zZ n.toNat x.cps.toList).flatten:=by
 unfold Le;split
 .rename_i h;have e:n.toNat=0:=by lia
  rw[e];rfl
 .rename_i h;split
  .rename_i a;rw[j5,beq_iff_eq,beq_iff_eq]at a;rcases a with rfl|a
   .simp
   .have e:x.cps.toList=[]:=by have:x.cps.size=0:=a;rw[<-qB]at this;exact jJ this
    rw[e];simp
  .rw[Yh];simp
def Bt:D->D->DH->R D
 |.int i,.int j,G=>if MulB i j then .ok (.int (i*j)) G else .bad
 |.str x,.int n,G=>if -1000<=n/\n<=1000/\x.length<=1000 then .ok (.str (Le x n)) G else .bad
 |_,_,_=>.bad
section
variable{X:Cx}{E:XK}
theorem ZOx:OpR X (xI .Mult) (λx y H Q=>∃i n,x=.str i/\y=.int n/\(-1000<=n/\n<=1000/\i.length<=1000)/\Q (.str (Le i n)) H):=by
 intro d s r H x y v u Q I k o h;obtain⟨i,n,rfl,rfl,⟨w,g,e⟩,q⟩:=h;obtain⟨t,rfl⟩:=k;obtain⟨C,rfl⟩:=o;have b:∀m:Nat,m<=1000->i.length*m<=1000000:=λm l=>z0 (j9 e l) (by decide)
 refine P.mul_str ?_ (λa c=>?_) (λa c=>?_) ?_
 .rw[decide_eq_false (by lia),decide_eq_false (by lia)];rfl
 .intro p;have:(i.length:Int)*n<=2^63-1:=by have A:(i.length:Int)*n<=1000*1000:=Int.mul_le_mul (by lia) g (by lia) (by lia);lia
  have B:=(Int.le_ediv_iff_mul_le (by lia)).mpr this;lia
 .have:=b n.toNat (by lia);unfold Builtin.Str.tooLong;rw[vZ];exact decide_eq_false (by lia)
 .unfold Le at q;split
  .rename_i a;rw[if_pos a]at q;exact⟨by decide,.str Str.empty,H,I.tok _,⟨_,rfl⟩,q⟩
  .rename_i a;rw[if_neg a]at q;split
   .rename_i c;rw[if_pos c]at q;exact⟨.str i,H,I,⟨t,rfl⟩,q⟩
   .rename_i c;rw[if_neg c]at q;refine⟨?_,.str _,H,I.tok _,⟨_,rfl⟩,q⟩
    show((zZ n.toNat i.cps).foldl (·++·) #[]).size<=sizeLine
    have f:i.cps.size<=1000:=e;have z:=j9 (show n.toNat<=1000 by lia) f;rw[ZPo,vZ];lia
theorem ZPd:OpR X (xI .Mult) (lR2 X.K E Bt):=Fe (ZL2.or ZOx) λa G d e x y Q hk s rd re q=>by
 cases d<;>cases e<;>first
  |exact q.elim
  | (
    rename_i i j;unfold Bt at q;dsimp only at q;split at q
    .first
     |exact .inl ⟨_,_,rd,re,by assumption,q a _ (Ext.refl a) s rfl⟩
     |exact .inr ⟨_,_,rd,re,by assumption,q a _ (Ext.refl a) s rfl⟩
    .exact q.elim)
end
section
variable{i j:Int}{G:DH}
theorem Gd(b: -(2^64)<i)(a:i<2^64):Bt (.int i) (.int j) G=.ok (.int (i*j)) G:=if_pos (.inl (.inl ⟨b,a⟩))
theorem Hg(b: -(2^64)<j)(a:j<2^64):Bt (.int i) (.int j) G=.ok (.int (i*j)) G:=if_pos (.inl (.inr ⟨b,a⟩))
@[simp]theorem ZWL(h:n<18446744073709551616):Bt (.int (no_index (OfNat.ofNat n))) (.int j) G=.ok (.int (OfNat.ofNat n*j)) G:=
 Gd (by have:(0:Int)<=(OfNat.ofNat n:Int):=Int.natCast_nonneg n;lia) (by have:(OfNat.ofNat n:Int)<18446744073709551616:=Int.ofNat_lt.mpr h;lia)
@[simp]theorem ZWS(h:n<18446744073709551616):Bt (.int i) (.int (no_index (OfNat.ofNat n))) G=.ok (.int (i*OfNat.ofNat n)) G:=
 Hg (by have:(0:Int)<=(OfNat.ofNat n:Int):=Int.natCast_nonneg n;lia) (by have:(OfNat.ofNat n:Int)<18446744073709551616:=Int.ofNat_lt.mpr h;lia)
theorem ZQ9(h: -1000<=n/\n<=1000/\x.length<=1000):Bt (.str x) (.int n) G=.ok (.str (Le x n)) G:=if_pos h
end
section
variable{X:Cx}{E:XK}{e st:xz}{te:TE}{ts:TO}{p2 pos:Pos}
end
section
variable{S:DSt}{G:DH}
end
section
variable{X:Cx}{E:XK}
theorem ZJ7:∀(l:List Str),Reps a (l.map D.str) (l.map V.str)
 |[]=>Reps.nil
 |x::l=>Reps.cons (rfl) (ZJ7 l)
def TupG(K:za)(mg:Str->Option xB)(n:Str)(ss:List Str):Prop:=∃(p:xY)(o:Obj)(its:Array xB)(k:Nat),mg n=uz (.ref p)/\K.lookup p=uz o/\o.cls=.type "tuple"/\o.data=.seq its k/\its.size<=sizeLine/\Vals (ss.map V.str) its.toList
theorem ZND{K:za}{h:Heap}{b:Str->Option xB}{n:Str}{p:xY}{od:Option xY}{c:Array (Option xB)}{k:Nat}{its:List xB}{ss:List Str}(e:K.In h)(G:h.Ns xT b)(a:zb K xT n=uz (uz (.ref p)))
  (l:K.lookup p=uz ⟨.type "tuple",od,.seq its.toArray k,c⟩) (d:its.length<=1000) (v:Vals (ss.map V.str) its):TupG K b n ss:=
 ⟨p,_,its.toArray,k,vM e G a,l,rfl,rfl,by rw[zK];exact z0 d (by decide),by simpa using v⟩
theorem ZKZ(e:Gl X x)(h:TupG X.K X.mg x ss)(l:(x==("__debug__":Str))=uv:=by decide):QE X E (.Name x pos) (dC (.tup (ss.map D.str))):=by obtain⟨p,o,b,k,c,f,i,j,m,d⟩:=h;exact ZAh (v:=.ref p) e c rfl (λa g=>⟨p,ss.map V.str,rfl,.inr ⟨o,b,k,by rw[g];exact f,i,j,m,d⟩,ZJ7 ss⟩) l
end
section
variable{S:DSt}{G:DH}
end
section
variable{X:Cx}{vA:List (xY×Obj)}{σ:St}{H:Hp}{s:x0}{N:List Str}{scope:xy}{caps:List Nat}{x qual:Str}{f:xY}{cd:xB}{A:xq}
end
section
variable{X:Cx}{vA:List (xY×Obj)}{σ:St}{s:x0}{scope:xy}{a:Wd}
end
noncomputable def ltK(ks:List Int)(i j:Nat):Bool:=decide (ks.getD i 0<ks.getD j 0)
section
variable{prog:xk}{w:xC}{A:xq}{E:xB->x0->Prop}{s:x0}
end
section
variable{X:Cx}{vA:List (xY×Obj)}{σ:St}{H:Hp}{s:x0}{h':Heap}{m:Str->Option xB}
end
section
variable{X:Cx}{vA:List (xY×Obj)}{σ:St}{N:List Str}{scope:xy}{caps:List Nat}{x:Str}{f:xY}{A:xq}{a:Wd}{S:DSt}{body:xz}{te:DE}{params:Arguments}{pm ctv:xB}{c':xY}{ob oc:Obj}{vs0:Array xB}{t0:Tok}{E:XK}
 {Dd kS:xY} {e1:Nat} {m:Str->Option xB} {h₀:Heap} {Q:VK}
end
end _D
namespace _D
open PySem PySem.Spec _L
open PyProof.Rows hiding St
open PySem.W (KatKeys KatFin katRev KatBack)
section
variable{prog:xk}{w:xC}{A:xq}{E:xB->x0->Prop}{s:x0}{h₀:Heap}{L a kS:xY}{m:Str->Option xB}{P:PySem.Fin->x0->Prop}
end
end _D
namespace _D
open PySem PySem.Spec _L
open PyProof.Rows hiding St
section
variable{X:Cx}{vA:List (xY×Obj)}{σ:St}{N:List Str}{scope:xy}{caps:List Nat}{x:Str}{f:xY}{A:xq}{a:Wd}{S:DSt}{body:xz}{te:DE}{params:Arguments}{pm ctv:xB}{c':xY}{ob oc:Obj}{vs0:Array xB}{t0:Tok}
 {Dd kS:xY} {e1:Nat} {m:Str->Option xB} {h₀:Heap} {Q:VK}
end
section
variable{X:Cx}{vA:List (xY×Obj)}{σ:St}{N:List Str}{scope:xy}{caps:List Nat}{x:Str}{f:xY}{A:xq}{a:Wd}{S:DSt}{body:xz}{te:DE}{params:Arguments}{pm ctv:xB}{c':xY}{ob oc:Obj}{vs0:Array xB}{t0:Tok}{Q:VK}
end
section
variable{X:Cx}{N:List Str}{scope:xy}{caps:List Nat}{x:Str}{body:xz}{te:DE}{params:Arguments}{e:xz}{tn:DA}{p p' pos pos' lp kp kp' cp:Pos}{C m:Str}{cj:Nat}
end
end _D
namespace _D
open PySem PySem.W _L
theorem ZEx:∀{l:List Obj}{n:Nat},(Kg l n).lookup a=uz o->n<=a/\l[a-n]?=uz o/\∀x y z,o≠⟨x,y,.freed,z⟩
 |[],n,h=>by cases h
 | p::r,n,h=>by
  have next:(Kg r (n+1)).lookup a=uz o->n<=a/\(p::r)[a-n]?=uz o/\∀x y z,o≠⟨x,y,.freed,z⟩:=λh=>by obtain⟨b,c,f⟩:=ZEx h;obtain⟨k,rfl⟩:=Nat.exists_eq_add_of_le b;rw[Nat.add_sub_cancel_left]at c;refine⟨z0 (jx n) b,?_,f⟩;rw[show n+1+k-n=k+1 by rw[Nat.add_assoc,Nat.add_sub_cancel_left,Nat.add_comm],j2];exact c
  unfold Kg at h;split at h
  .exact next h
  .exact next h
  .rename_i g i;rw[jq]at h;split at h
   .rename_i e;have d:a=n:=by simpa using e
    subst d;cases h;refine⟨zY _,by simp,λx y z q=>?_⟩;subst q;exact g rfl
   .exact next h
theorem ZVn(h:Heap):(O4 h).In h:=λa o e=>by
 obtain⟨_,c,d⟩:=ZEx e;have b:h.objs[a]?=uz o:=by simpa using c
 unfold Heap.get?;rw[b];split
 .rename_i q;cases q;exact absurd rfl (d _ _ _)
 .rfl
noncomputable def Ig(p:xk)(N:Nat)(w:xC):Heap:=match openEnds vV p w N with
 |some s=>s.heap
 |none=>default
def Stays(p:xk)(N:Nat)(w:xC)(h:Heap):Prop:=∀b o,(Ig p N w).get? b=uz o->h.get? b=uz o
theorem Stays.in(x:Stays p N w h):(O4 (Ig p N w)).In h:=λa o e=>x a o (ZVn _ a o e)
def Tn(p:xk)(N:Nat):Hook:=
 ⟨Heap,λs=>s.heap,Ig p N,Stays p N,λw s e b o q=>by rw[show s.heap=Ig p N w from e];exact q,λw h h' x k b o q=>k b o (x b o q)⟩
section
variable{p q:xk}{loose:List Str}{Xt:x0->Bool}{N:Nat}{β:Type}{see:Heap->β}{val:β}
theorem ZNF(E:∀w,(openEnds vV p w N).map (λs=>(openSeen q loose (xP p.main.body) Xt ux s,see s.heap))=uz (openGood q loose,val)):
  LeftO p q loose Xt (Tn p N).obs (Tn p N).val N:=λw=>by
 obtain⟨s,b,a⟩:=zD.mp (E w);show Option.map _ _=uz (openGood q loose,Ig p N w);unfold Ig;rw[b];show uz (openSeen q loose (xP p.main.body) Xt ux s,s.heap)=_;rw[(Prod.mk.inj a).1]
theorem ZMC(E:∀w,(openEnds vV p w N).map (λs=>(openSeen q loose (xP p.main.body) Xt ux s,see s.heap))=uz (openGood q loose,val))(w:xC):see (Ig p N w)=val:=by obtain⟨s,b,a⟩:=zD.mp (E w);unfold Ig;rw[b];exact(Prod.mk.inj a).2
end
theorem holds_top{l:OpenLaw}{q:xk}{loose:List Str}{N:Nat}{b:Type}{see:Heap->b}{val:b}{d:DefRec}(well:l.wellSaid=ux)
  (E:∀w,(openEnds vV l.prog w N).map (λs=>(openSeen q loose (xP l.prog.main.body) (XtOf l q) ux s,see s.heap))=uz (openGood q loose,val))
  (hdef:defOf q l.row.name=uz (d,[])) (hp:l.row.prog.theDef l.row.name=uz (d.params,d.body,d.scope)) (hk:kwWritten? d.params.kwonlyargs d.params.kw_defaults=uz []) (a:(!l.row.writes||l.row.records.isEmpty)=ux)
  (ok:(chainsOk q&&opensWell l.row.prog&&(frees l.row.toRowW&&l.row.within.isEmpty))=ux) (c:l.row.prog.bare) (hw:l.row.toRowW.promised)
  (call:WalkO q loose (XL q []) (Stays l.prog N) l.row.toRowW d [] λf vs=>jb f vs):l.Holds:=
 holds_law well λsaid=>holds_open (ZNF E) (Tn l.prog N).of (Tn l.prog N).keeps
  (λs e=>xl_of s (qM.mp e).1) XL.keeps hdef hp hk (λs e=>recFacts_of (qM.mp e).2) a said ok c hw call
theorem K3(h:gOk K n=ux):nsIn K xT n=uz (uz (.ref (Ab K n))):=by
 unfold gOk at h;unfold Ab;split at h
 .rename_i e;rw[e]
 .cases h
theorem ZEi(h:mOk K C m=ux):findIn K (.ref C) m=uz (uz (.ref (Di K C m)))/\isFn K (.ref (Di K C m))=ux:=by
 unfold mOk at h;unfold Di;split at h
 .rename_i e;rw[e];exact⟨rfl,h⟩
 .cases h
theorem ZIC(h:noF K C m=ux):findIn K (.ref C) m=uz uj:=by
 unfold noF at h;split at h
 .assumption
 .cases h
theorem ZS2(h:zOk K n=ux):nsIn K xT n=uz uj:=by
 unfold zOk at h;split at h
 .assumption
 .cases h
theorem ZDL(h:Rf K C=ux):findIn K (.ref C) "__setattr__"=uz (uz (.builtin "object.__setattr__")):=by
 unfold Rf at h;split at h
 .rename_i e;rw[e,beq_iff_eq.mp h]
 .cases h
noncomputable def Cg(K:v7)(n:Str):Tok:=match nsIn K xT n with
 |some (uz (.int _ t))=>t
 |some (uz (.str _ t))=>t
 |_=>0
theorem ZTt(h:iOk K n v=ux):nsIn K xT n=uz (uz (.int v (Cg K n))):=by
 unfold iOk at h;unfold Cg;split at h
 .rename_i e;rw[e,of_decide_eq_true h]
 .cases h
theorem ZL0(h:sOk K n v=ux):nsIn K xT n=uz (uz (.str v (Cg K n))):=by
 unfold sOk at h;unfold Cg;split at h
 .rename_i e;rw[e,of_decide_eq_true h]
 .cases h
abbrev FnSaid(K:v7)(x q:Str)(st:xA)(f:xY):Prop:=
 K.lookup f=uz ⟨(G7 K f).cls,(G7 K f).dict,.func (fnOf x q (Eo st) (Dm st) (Ad st) .none (An K f).kwdefaults (An K f).doc (An K f).pyModule (An K f).annotations (An K f).code (An K f).closureTuple),(G7 K f).slots⟩/\
  codeIn K (An K f).code q=ux/\keepIn K (.ref f)=ux
theorem ZJU(h:U3 K x q f=ux)(t:Ky K f=Jx st):FnSaid K x q st f:=by
 unfold U3 at h;split at h
 .rename_i j l a i e;have k:G7 K f=⟨j,l,.func a,i⟩:=by unfold G7;rw[e]
  have m:An K f=a:=by unfold An;rw[k]
  unfold Ky Jx at t;rw[m]at t;obtain⟨E,b⟩:=Prod.mk.inj t;obtain⟨b,C⟩:=Prod.mk.inj b;simp only[z5,decide_eq_true_eq,beq_iff_eq,List.isEmpty_iff]at h;obtain⟨⟨⟨s,n⟩,⟨⟨B,y⟩,o⟩,g⟩,u,v⟩:=h;unfold FnSaid;rw[m,k,e];refine⟨?_,u,v⟩;have d:a.defaults=.none:=by
   revert g
   generalize a.defaults=A;intro g
   cases A<;>first|rfl|cases g
  have w:a.body=.stmts (Dm st):=by
   revert b
   generalize a.body=r;intro b
   cases r<;>first|(cases b;rfl)|(cases b)
  have c:a=fnOf x q (Eo st) (Dm st) (Ad st) .none a.kwdefaults a.doc a.pyModule a.annotations a.code a.closureTuple:=by show FuncData.mk a.name a.qualname a.params a.body a.scope a.globals a.closure a.defaults a.kwdefaults a.doc a.pyModule a.annotations a.code a.closureTuple a.builtins=_;rw[s,n,E,w,C,B,o,d,y]
  exact congrArg (λz=>uz (Obj.mk j l (.func z) i)) c
 .cases h
abbrev DfSaid(K:v7)(d:xB)(v:Int):Prop:=∃T o t n,d=.ref T/\K.lookup T=uz o/\o.data=.seq #[.int v t] n
theorem ZVU(h:dfl K d v=ux):DfSaid K d v:=by
 unfold dfl at h;split at h
 .rename_i T;split at h
  .rename_i o e;split at h
   .rename_i a n b;split at h
    .rename_i i t c;cases of_decide_eq_true h;refine⟨T,o,t,n,rfl,e,?_⟩;rw[b]
     congr 1
     rw[<-Array.toList_inj,c]
    .cases h
   .cases h
  .cases h
 .cases h
abbrev FnSaidD(K:v7)(x q:Str)(st:xA)(f:xY)(v:Int):Prop:=
 K.lookup f=uz ⟨(G7 K f).cls,(G7 K f).dict,.func (fnOf x q (Eo st) (Dm st) (Ad st) (An K f).defaults (An K f).kwdefaults (An K f).doc (An K f).pyModule (An K f).annotations (An K f).code (An K f).closureTuple),(G7 K f).slots⟩/\
  codeIn K (An K f).code q=ux/\keepIn K (.ref f)=ux/\DfSaid K (An K f).defaults v
theorem ZVq(h:ZC3 K x q f v=ux)(t:Ky K f=Jx st):FnSaidD K x q st f v:=by
 unfold ZC3 at h;split at h
 .rename_i g j a d e;have i:G7 K f=⟨g,j,.func a,d⟩:=by unfold G7;rw[e]
  have k:An K f=a:=by unfold An;rw[i]
  unfold Ky Jx at t;rw[k]at t;obtain⟨C,b⟩:=Prod.mk.inj t;obtain⟨b,B⟩:=Prod.mk.inj b;simp only[z5,decide_eq_true_eq,beq_iff_eq,List.isEmpty_iff]at h;obtain⟨⟨⟨o,l⟩,⟨⟨A,w⟩,m⟩,y⟩,r,s⟩:=h;unfold FnSaidD;rw[k,i,e];refine⟨?_,r,s,ZVU y⟩;have u:a.body=.stmts (Dm st):=by
   revert b
   generalize a.body=n;intro b
   cases n<;>first|(cases b;rfl)|(cases b)
  have c:a=fnOf x q (Eo st) (Dm st) (Ad st) a.defaults a.kwdefaults a.doc a.pyModule a.annotations a.code a.closureTuple:=by show FuncData.mk a.name a.qualname a.params a.body a.scope a.globals a.closure a.defaults a.kwdefaults a.doc a.pyModule a.annotations a.code a.closureTuple a.builtins=_;rw[o,l,C,u,B,A,m,w]
  exact congrArg (λz=>uz (Obj.mk g j (.func z) d)) c
 .cases h
theorem T8:∀{l:List xB}{ss:List Str},strsOf l=uz ss->Vals (ss.map V.str) l
 |[],ss,h=>by cases h;exact .nil
 |v::r,ss,h=>by
  unfold strsOf at h;split at h
  .rename_i q;cases q
  .rename_i s t c q;cases q;obtain⟨a,b,rfl⟩:=zD.mp h;exact .cons ⟨_,rfl⟩ (T8 b)
  .cases h
abbrev GtSaid(K:v7)(n:Str)(vs:List Str):Prop:=∃(p:xY)(od:Option xY)(sl:Array (Option xB))(k:Nat)(its:List xB),nsIn K xT n=uz (uz (.ref p))/\K.lookup p=uz ⟨.type "tuple",od,.seq its.toArray k,sl⟩/\its.length<=1000/\Vals (vs.map V.str) its
theorem ZLE(h:Xh K n vs=ux):GtSaid K n vs:=by
 unfold Xh at h;split at h
 .rename_i p e;split at h
  .rename_i t c a k b g;simp only[z5,beq_iff_eq,decide_eq_true_eq]at h;obtain⟨⟨rfl,d⟩,f⟩:=h;exact⟨p,c,b,k,a.toList,e,by rw[g],jv f,T8 d⟩
  .cases h
 .cases h
theorem ZMh(X:K.In h)(G:h.Ns xT mg)(s:GtSaid K n vs):TupG K mg n vs:=by obtain⟨p,g,f,k,b,a,c,d,e⟩:=s;exact ZND X G a c d e
abbrev GdSaid(K:v7)(n:Str)(kvs:List (Str×Str)):Prop:=∃(p:xY)(od:Option xY)(sl:Array (Option xB))(k:Nat)(es:Array DictEntry),nsIn K xT n=uz (uz (.ref p))/\K.lookup p=uz ⟨.type "dict",od,.dict es k,sl⟩/\(p==sysModules)=uv/\Vals ((kvs.map (·.1)).map V.str) (es.toList.map (·.key))/\Vals ((kvs.map (·.2)).map V.str) (es.toList.map (·.val))
theorem ZSD(h:ZAK K n kvs=ux):GdSaid K n kvs:=by
 unfold ZAK at h;split at h
 .rename_i p e;split at h
  .rename_i t b f k a i;simp only[z5,beq_iff_eq,decide_eq_true_eq,Bool.not_eq_true']at h;obtain⟨⟨⟨rfl,c⟩,d⟩,g⟩:=h;exact⟨p,b,a,k,f,e,by rw[i],c,T8 d,T8 g⟩
  .cases h
 .cases h
def Ask.Said(K:v7):Ask->Prop
 |.fn n st=>nsIn K xT n=uz (uz (.ref (Ab K n)))/\FnSaid K n n st (Ab K n)
 |.mt c m q st=>findIn K (.ref (Ab K c)) m=uz (uz (.ref (Di K (Ab K c) m)))/\isFn K (.ref (Di K (Ab K c) m))=ux/\FnSaid K m q st (Di K (Ab K c) m)
 | .cl c=>nsIn K xT c=uz (uz (.ref (Ab K c)))/\plainGet K (Ab K c) Str.empty=ux/\hasDictIn K (Ab K c)=ux/\plainOver K (Ab K c)=ux/\
   findIn K (.ref (Ab K c)) "__setattr__"=uz (uz (.builtin "object.__setattr__"))/\makesIn K (Ab K c)=ux/\keepIn K (.ref (Ab K c))=ux
 |.no c x=>findIn K (.ref (Ab K c)) x=uz uj
 |.z n=>nsIn K xT n=uz uj
 |.gi n v=>nsIn K xT n=uz (uz (.int v (Cg K n)))
 |.gs n v=>nsIn K xT n=uz (uz (.str v (Cg K n)))
 |.gt n vs=>GtSaid K n vs
 |.gd n kvs=>GdSaid K n kvs
 |.ck φ=>φ K=ux
 |.fd n st v=>nsIn K xT n=uz (uz (.ref (Ab K n)))/\FnSaidD K n n st (Ab K n) v
theorem Ask.said:∀{a:Ask},a.chk K=ux->a.txt K=a.want->a.Said K
 |.fn n e,h,t=>by obtain⟨b,d⟩:=qM.mp h;exact⟨K3 b,ZJU d (Option.some.inj t)⟩
 |.mt c m q e,h,t=>by obtain⟨b,d⟩:=qM.mp h;exact⟨(ZEi b).1,(ZEi b).2,ZJU d (Option.some.inj t)⟩
 |.cl c,h,_=>by simp only[Ask.chk,z5]at h;obtain⟨⟨b,⟨d,j⟩,k⟩,⟨l,g⟩,i⟩:=h;exact⟨K3 b,d,j,k,ZDL l,g,i⟩
 |.no c x,h,_=>ZIC h
 |.z n,h,_=>ZS2 h
 |.gi n v,h,_=>ZTt h
 |.gs n v,h,_=>ZL0 h
 |.gt n o,h,_=>ZLE h
 |.gd n f,h,_=>ZSD h
 |.ck _,h,_=>h
 |.fd n e v,h,t=>by obtain⟨b,d⟩:=qM.mp h;exact⟨K3 b,ZVq d (Option.some.inj t)⟩
def AllSaid(K:v7):List Ask->Prop
 |[]=>True
 |a::r=>a.Said K/\AllSaid K r
theorem ZDv:∀{l:List Ask},(l.all (Ask.chk K),l.map (Ask.txt K))=(ux,l.map Ask.want)->AllSaid K l
 |[],_=>trivial
 |a::r,h=>by obtain⟨b,c⟩:=Prod.mk.inj h;rw[qN]at b;obtain⟨e,f⟩:=qM.mp b;rw[zk,zk]at c;obtain⟨g,d⟩:=List.cons.inj c;exact⟨Ask.said e g,ZDv (by rw[f,d])⟩
theorem ZTl(F:Fun K x q st f fd)
  (h:∀(kV b g:xB)(e:Option xY)(c d:xB)(u:xB),bindArgs (fnOf x q (Eo st) (Dm st) (Ad st) .none kV b g e c d) ⟨[u],[]⟩=pure [(a,u)]):BindsTo s fd ⟨[v],[]⟩ [(a,v)]:=by
 obtain⟨l,k,kV,b,g,e,c,d,j,rfl,m,i⟩:=F.ex;exact .of_eq (h kV b g e c d v)
theorem ZF6:∀{n:Nat}{s s':SharedT}{t:Thread},V8 p w n₀ ann n s t=uz s'->topRun vV p w n₀ ann n s.abs t=uz s'.abs
 |0,_,_,_,h=>by cases h
 | n+1,s,s',t,h=>by
  unfold V8 at h;unfold topRun;rw[<-PySem.W.Fast.te6613529449190102663,<-PySem.W.Fast.te10156331382660048174,<-PySem.W.Fast.te11892475500146522536,<-PySem.W.Fast.te14364793385576792824]at h;cases b:through t with
  |true=>
   rw[b]at h;cases h
   rfl
  | false=>
   rw[b]at h;dsimp only at h⊢;cases a:stepOk n₀ ann t with
   |false=>rw[a]at h;cases h
   |true=>
    rw[a]at h;dsimp only at h⊢;split at h
    .rename_i c d e;rw[stepT_spec e];exact ZF6 h
    .cases h
theorem boot_abs:∀w a,(ZDj w a).abs=⟨v8 w.params,Array.mk [],boot_drawn,boot_toks,a⟩:=λw a=>by kernel_rfl
theorem ZNl:∀w:xC,((v8 w.params).isNs xT&&(Array.mk []:Array GenState).size==0)=ux:=λw=>by kernel_rfl
theorem ZMp{p q:xk}{loose:List Str}{Xt:x0->Bool}{i:Type}{see:Heap->i}{val:i}(e:opening p=plainProg p.main.scope.names)(f:∀s,fenceModules? p s=uz s)
  (R:∀w a,(R3 p w a).map (λs=>(Q8 p w s.abs,PySem.W.Fast.tw4187177175401517315 q loose (PySem.W.Fast.tw5923862056798008813 p.main.body) Xt ux s.abs,see s.abs.heap))=uz (ux,openGood q loose,val)):
  ∀w,(openEnds vV p w 100000).map (λs=>(openSeen q loose (xP p.main.body) Xt ux s,see s.heap))=uz (openGood q loose,val):=λw=>by
 obtain⟨⟨h,o,d,k,a⟩,n,j⟩:=zD.mp (boot_open (N:=100000) e rfl f w);obtain⟨rfl,rfl,rfl,rfl⟩:h=v8 w.params/\o=Array.mk []/\d=boot_drawn/\k=boot_toks:=by simpa using j
 obtain⟨s,g,l⟩:=zD.mp (R w a);obtain⟨c,b⟩:=Prod.mk.inj l;obtain⟨b,m⟩:=Prod.mk.inj b;unfold R3 at g;have r:=ZF6 g;rw[boot_abs,<-PySem.W.Fast.te8920871248978507458]at r;rw[<-PySem.W.Fast.te4187177175401517315,<-PySem.W.Fast.te5923862056798008813]at b;unfold Q8 at c;rw[<-PySem.W.Fast.te5923862056798008813]at c;have t:topFrom vV p w 100000 ⟨v8 w.params,Array.mk [],boot_drawn,boot_toks,a⟩=uz s.abs:=by
  unfold topFrom;dsimp only;rw[ZNl,r]
  show(match staticsOk (xP p.main.body) (v8 w.params) s.abs.heap&&namesBound p s.abs.heap&&gensDone s.abs&&laidKept (v8 w.params) s.abs.heap with |true=>_|false=>_)=_
  rw[c]
 unfold openEnds;rw[n];show(topFrom vV p w 100000 _).map _=_;rw[t];exact congrArg uz (Prod.ext b m)
structure FT (K:v7) (mg:Str->Option xB) (n:Str) (st:xA) (ps:List Str):Prop where
 F:Fun K n n st (Ab K n) (An K (Ab K n))
 b:Binds K (An K (Ab K n)) ps []
 m:mg n=uz (.ref (Ab K n))
 k:keepIn K (.ref (Ab K n))=ux
structure MT (K:v7) (c m q:Str) (st:xA) (ps:List Str):Prop where
 F:Fun K m q st (Di K (Ab K c) m) (An K (Di K (Ab K c) m))
 b:Binds K (An K (Di K (Ab K c) m)) ps []
 me:Meth K (Ab K c) m (Di K (Ab K c) m)
structure CT (K:v7) (mg:Str->Option xB) (c:Str):Prop where
 N:nsIn K xT c=uz (uz (.ref (Ab K c)))
 cl:Cls K (Ab K c)
 g:mg c=uz (.ref (Ab K c))
 mK:Mk K (Ab K c) (Di K (Ab K c) "__init__")
theorem Rk(s:FnSaid K x q st f):Fun K x q st f (An K f):=by
 have e:An K f=fnOf x q (Eo st) (Dm st) (Ad st) .none (An K f).kwdefaults (An K f).doc (An K f).pyModule (An K f).annotations (An K f).code (An K f).closureTuple:=by conv=>lhs;unfold An G7;rw[s.1]
 exact⟨⟨_,_,_,_,_,_,_,_,_,e,by rw[e];exact s.1,s.2.1⟩,s.2.2⟩
theorem ZLT(X:K.In h)(G:h.Ns xT mg)(s:Ask.Said K (.fn n st))
  (d:∀(kV a f:xB)(e:Option xY)(b c:xB)(us:List xB),us.length=ps.length->bindArgs (fnOf n n (Eo st) (Dm st) (Ad st) .none kV a f e b c) ⟨us,[]⟩=pure (ps.zip us)):FT K mg n st ps:=
 ⟨Rk s.2,(Rk s.2).binds d,mg_of X G s.1,s.2.2.2⟩
theorem ZOz(s:Ask.Said K (.mt c m q st))
  (e:∀(kV a g:xB)(f:Option xY)(b d:xB)(us:List xB),us.length=ps.length->bindArgs (fnOf m q (Eo st) (Dm st) (Ad st) .none kV a g f b d) ⟨us,[]⟩=pure (ps.zip us)):MT K c m q st ps:=
 ⟨Rk s.2.2,(Rk s.2.2).binds e,s.1,s.2.1,s.2.2.2.2⟩
theorem ZSL(X:K.In h)(G:h.Ns xT mg)(s:Ask.Said K (.cl c))(i:Ask.Said K (.mt c "__init__" q st)):CT K mg c:=
 ⟨s.1,⟨s.2.1,s.2.2.1,s.2.2.2.1,s.2.2.2.2.1⟩,mg_of X G s.1,s.2.2.2.2.2.1,i.1,i.2.1,s.2.2.2.2.2.2⟩
abbrev FnO(P:xk)(w:xC)(K:v7)(mg:Str->Option xB)(base:Heap)(k:Nat)(n:Str)(ps:List Str)(F:List D->DH->R D):Prop:=FnOk P w K mg base CX0 k (Ab K n) (An K (Ab K n)) ps (lF K F)
abbrev MtO(P:xk)(w:xC)(K:v7)(mg:Str->Option xB)(base:Heap)(k:Nat)(c m:Str)(ps:List Str)(F:List D->DH->R D):Prop:=FnOk P w K mg base CX0 k (Di K (Ab K c) m) (An K (Di K (Ab K c) m)) ps (lF K F)
theorem ZLk(F:Fun K x q st f fd)
  (h:∀(kV b g:xB)(e:Option xY)(c d:xB)(u:xB),bindArgs (fnOf x q (Eo st) (Dm st) (Ad st) .none kV b g e c d) ⟨[u],[]⟩=pure [(a,u)]:=by intros;rfl):BindsTo s fd ⟨[v],[]⟩ [(a,v)]:=ZTl F h
end _D
namespace _D
open PySem PySem.Spec _L
open PyProof.Rows hiding St
variable{qual:Str}
section
variable{prog:xk}{w:xC}{A:xq}{E:xB->x0->Prop}{s:x0}
def strAt(es:Array DictEntry)(x:Str):Option xB:=(es.findIdx? λe=>e.key.isStr x).bind λi=>es[i]?.map (·.val)
theorem ZFZ{v:xB}{x:Str}(h:v.isStr x=ux):∃t,v=.str x t:=by
 cases v<;>first
  |(rename_i y t;unfold Value.isStr at h;exact⟨t,by rw[b h]⟩)
  |(rename_i y t;simp[Value.isStr]at h;exact⟨t,by rw[h]⟩)
  |cases h
theorem ZEZ{d:xY}{o:Obj}{es:Array DictEntry}{ep}{x:Str}{t:Tok}{Q:Option xB->x0->Prop}(ho:s.heap.get? d=uz o)(g:o.data=.dict es ep)
  (c:(es.all λe=>isExactStrKey e.key)=ux) (h:Q (strAt es x) {s with toks:=s.toks+1}):
  vW (xU prog w) A (dictGet d (.str x t)) Q E s:=by
 unfold strAt at h;unfold dictGet
 try with_reducible refine vx ?_
 refine vY (wpAny_pyHash_str (vY ?_));unfold dictFind
 try with_reducible refine vx ?_
 refine vY (wpAny_dictEntries ho g ?_);dsimp only;rw[if_pos c];unfold foundByValue;cases j:es.findIdx? (λe=>e.key.isStr x)with
 |none=>rw[j]at h;exact v4 (v4 h)
 |some i=>
  rw[j]at h;obtain⟨f,l,_⟩:=Array.findIdx?_eq_some_iff_getElem.mp j;obtain⟨u,k⟩:=ZFZ l;simp only[Array.getElem?_eq_getElem f]at h⊢;rw[k];refine vY (wpAny_dictEpoch ho g (vY (wpAny_eqBool_str (vY (wpAny_dictEpoch ho g ?_)))));rw[if_neg (by simp),decide_eq_true rfl];refine vY (wpAny_rule (v4 ?_));exact vY (wpAny_dictEntries ho g (v4 (by simpa[Array.getElem?_eq_getElem f]using h)))
theorem ZQ0{ep}(ho:s.heap.get? d=uz o)(j:o.cls=.type "dict")(i:o.data=.dict es ep)
  (c:(es.all λe=>isExactStrKey e.key)=ux) (g:strAt es x=uz v) (h:Q v {s with toks:=s.toks+1}):vW (xU prog w) A (getItem (.ref d) (.str x t)) Q E s:=by
 have f:s.TypeIs (.ref d) "dict":=⟨o,ho,j⟩;unfold getItem
 try with_reducible refine vx ?_
 refine vY (wpAny_sequenceKey f (by decide) ?_);refine vY (vq f slot_dict_getitem
  (vz slot_dict_getitem f entry_dict_getitem ?_ (args_dict_getitem _ _)))
 show vW _ _ (dictGet d (.str x t) >>=_) _ _ s;refine vY (ZEZ ho i c ?_);rw[g];exact v4 ⟨v,rfl,v4 h⟩
theorem ZSe{ep}(g:(d==sysModules)=uv)(ho:s.heap.get? d=uz o)(k:o.cls=.type "dict")(j:o.data=.dict es ep)
  (c:(es.all λe=>isExactStrKey e.key)=ux) (h:Q (.bool (!(strAt es x).isSome)) {s with toks:=s.toks+1}):vW (xU prog w) A (xO .NotIn (.str x t) (.ref d)) Q E s:=by
 have f:s.TypeIs (.ref d) "dict":=⟨o,ho,k⟩;refine vY ?_;unfold contains
 try with_reducible refine vx ?_
 refine vY (wpAny_specialOf f slot_dict_contains.lookup ?_);rw[if_neg (by rw[beq_builtin_none];exact zw)];refine vY (wpAny_callSpecialUnlessNone?_slot f slot_dict_contains
  (vz slot_dict_contains f entry_dict_contains ?_ (args_dict_contains _ _)))
 show vW _ _ (dictGet d (.str x t) >>=_) _ _ s;refine vY (ZEZ ho j c ?_);cases i:strAt es x with
 |some v=>
  rw[i]at h;exact v4 ⟨_,rfl,v6 (v4 h)⟩
 |none=>
  rw[i]at h;exact vY (wpAny_pendingKey_other g (v4 ⟨_,rfl,v6 (v4 h)⟩))
end
theorem strAt_eq:strAt es x=(es.toList.find? λe=>e.key.isStr x).map (·.val):=by
 obtain⟨l⟩:=es;have e:=findBy_of_findIdx? (λ(x:Str)(v:xB)=>v.isStr x) ⟨l⟩ x;unfold findBy at e;rw[<-Array.find?_toList]at e;unfold strAt;rw[e]
 cases(Array.findIdx? (λe=>e.key.isStr x) ⟨l⟩)<;>rfl
def AtT(kvs:List (Str×Str))(es:Array DictEntry):Prop:=∀x,(kvs.lookup x=uj/\strAt es x=uj)∨∃v t,kvs.lookup x=uz v/\strAt es x=uz (.str v t)
theorem ZGj:∀{b:List (Str×Str)}{es:List DictEntry},Vals ((b.map (·.1)).map V.str) (es.map (·.key))->Vals ((b.map (·.2)).map V.str) (es.map (·.val))->(es.all λe=>isExactStrKey e.key)=ux/\
  ∀x,(b.lookup x=uj/\(es.find? λe=>e.key.isStr x).map (·.val)=uj)∨∃v t,b.lookup x=uz v/\(es.find? λe=>e.key.isStr x).map (·.val)=uz (.str v t)
 |[],[],_,_=>⟨rfl,λ_=>.inl ⟨rfl,rfl⟩⟩
 |[],e::es,h,_=>by cases h
 |(k,v)::b,[],h,_=>by cases h
 | (k,v)::b,⟨B,y,C⟩::es,j,m=>by
  cases j with
  | cons r i=>cases m with
   | cons n q=>
    obtain⟨g,rfl⟩:=r;obtain⟨u,rfl⟩:=n;obtain⟨c,d⟩:=ZGj i q;refine⟨by rw[qN,c];rfl,λx=>?_⟩;by_cases f:x=k
    .subst f;exact .inr ⟨v,u,by simp[qO],by simp[Value.isStr]⟩
    .have o:(x==k)=uv:=by simpa using f
     have l:(Value.str k g).isStr x=uv:=by
      cases h:(Value.str k g).isStr x with
      |false=>rfl
      |true=>obtain⟨t,e⟩:=ZFZ h;cases e;exact absurd rfl (λz=>f z.symm)
     rw[qO,o,qD];simp only[l];exact d x
structure DctAt (K:za) (p:xY) (kvs:List (Str×Str)):Prop where
 ex:∃(o:Obj)(es:Array DictEntry)(ep:Nat),(p==sysModules)=uv/\K.lookup p=uz o/\o.cls=.type "dict"/\o.data=.dict es ep/\(es.all λe=>isExactStrKey e.key)=ux/\AtT kvs es
def DctG(K:za)(mg:Str->Option xB)(n:Str)(kvs:List (Str×Str)):Prop:=∃p,mg n=uz (.ref p)/\DctAt K p kvs
theorem ZN1{K:za}{h:Heap}{c:Str->Option xB}{n:Str}{b:List (Str×Str)}(X:K.In h)(G:h.Ns xT c)(s:GdSaid K n b):DctG K c n b:=by obtain⟨p,q,o,k,i,e,f,g,l,m⟩:=s;obtain⟨d,j⟩:=ZGj l m;exact⟨p,vM X G e,⟨_,i,k,g,f,rfl,rfl,by rw[<-Array.all_toList];exact d,λx=>by rw[strAt_eq];exact j x⟩⟩
def Km(kvs:List (Str×Str)):D->DH->R D
 |.str x,G=>match kvs.lookup x with
  |some v=>.ok (.str v) G
  |none=>.bad
 |_,_=>.bad
def Mm(kvs:List (Str×Str)):D->DH->R D
 |.str x,G=>.ok (.bl (!(kvs.lookup x).isSome)) G
 |_,_=>.bad
section
variable{X:Cx}{E:XK}{p:xY}{kvs:List (Str×Str)}{x:Str}{a:xz}{ta:DE}{np pos:Pos}
theorem ix_g(D:DctAt X.K p kvs):IxR X (λx y H Q=>∃k v,x=.ref p/\y=.str k/\kvs.lookup k=uz v/\Q (.str v) H):=by
 intro value slice vA s σ H x y v u Q I rx ry h hs;obtain⟨k,w,rfl,rfl,hl,q⟩:=h;obtain rfl:v=Value.ref p:=rx;obtain⟨t,rfl⟩:=ry;obtain⟨o,es,ep,hds,hK,hc,hd,ha,hat⟩:=D.ex;have ho:=I.kIn _ _ hK;have hT:s.TypeIs (.ref p) "dict":=⟨o,ho,hc⟩;obtain⟨v',t',hv⟩:∃v' t',strAt es k=uz (.str v' t')/\v'=w:=by
  rcases hat k with⟨z,_⟩|⟨v',t',z,z'⟩
  .rw[hl]at z;cases z
  .rw[hl]at z;cases z;exact⟨_,t',z',rfl⟩
 obtain⟨hv,rfl⟩:=hv;unfold subscriptTail;refine vY ?_;rw[getitemInPython_of_ne hT.not_modules];refine vY (wpAny_specialOf hT PySem.F.slot_dict_getitem.lookup ?_);have fin:vW (xU X.prog X.w) X.A (subscripted slice uv (.ref p) (.str k t)) (λr s₃=>vW (xU X.prog X.w) X.A (letTemporaryGo value (.ref p) r >>=λ_=>pure r) (EP X vA σ Q) X.xe s₃) X.xe s:=by rw[hs];exact wpAny_operating (ZQ0 ho hc hd ha hv (vY (wpAny_letTemporaryGo (v4 ⟨.str v',H,I.tok _,⟨_,rfl⟩,q⟩))))
 first
  |exact v4 (vY fin)
  |exact vY (v4 (vY fin))
  |exact vY fin
theorem ZOS(D:DctAt X.K p kvs):OpR X (xO .NotIn) (λy x H Q=>∃k,x=.ref p/\y=.str k/\Q (.bl (!(kvs.lookup k).isSome)) H):=by
 intro f s r H y x v u Q I m j ⟨k,e,h,q⟩;subst e h;obtain rfl:u=Value.ref p:=j;obtain⟨t,rfl⟩:=m;obtain⟨o,B,F,c,g,n,l,i,d⟩:=D.ex;refine ZSe c (I.kIn _ _ g) n l i ⟨.bl (!(kvs.lookup k).isSome),H,I.tok _,?_,q⟩;rcases d k with⟨z,b⟩|⟨C,J,z,b⟩
 .rw[z,b];rfl
 .rw[z,b];rfl
theorem ZM9(f:Gl X x)(h:DctG X.K X.mg x kvs)(i:QE X E a ta)(g:PlainIx a:=by intro _ _;rfl)(l:(x==("__debug__":Str))=uv:=by decide):QE X E (.Subscript (.Name x np) a pos) (dUn (Km kvs) ta):=by
 obtain⟨p,j,D⟩:=h;refine(ZJR (ix_g D) (Z0 (v:=.ref p) f j rfl l) i g).mono λo H Q h=>?_
 obtain⟨a,S,G,hk,rfl,s,r,h⟩:=h;refine⟨a,S,G,hk,rfl,s,r,(Dw h).imp ?_⟩;rintro v _ ⟨b,d,n,rfl,y,m,e,_,c⟩;cases d with
 |str k=>
  cases(e);unfold Km at c;dsimp only at c;split at c
  .rename_i w hw;exact⟨k,w,rfl,rfl,hw,c b _ (Ext.refl b) m rfl⟩
  .exact c.elim
 |_=>exact c.elim
theorem ZOV(h:lE X.K E (dUn (Mm kvs) ta) σ H Q):tOp (λy x H Q=>∃k,x=.ref p/\y=.str k/\Q (.bl (!(kvs.lookup k).isSome)) H) (lE X.K E ta) (tC (.ref p)) σ H Q:=by
 obtain⟨a,S,G,hk,rfl,s,r,h⟩:=h;refine⟨a,S,G,hk,rfl,s,r,(Dw h).imp ?_⟩;rintro v _ ⟨b,d,g,rfl,y,f,e,_,c⟩;cases d with
 |str k=>
  cases(e);exact⟨k,rfl,rfl,c b _ (Ext.refl b) f rfl⟩
 |_=>exact c.elim
theorem ZNQ(c:Gl X x)(h:DctG X.K X.mg x kvs)(d:QE X E a ta)(e:xH .NotIn (.Name x np)=uv)(f:(x==("__debug__":Str))=uv:=by decide):QT X E (.Compare a [.NotIn] [.Name x np] pos) (Ay (dUn (Mm kvs) ta)):=by obtain⟨p,hp,D⟩:=h;exact(ZDy (ZOS D) d (Z0 (v:=.ref p) c hp rfl f) e).mono λb H Q h=>Zw (λ_ _ _ z=>ZOV z) b H Q (V7 h)
end
def Hf(kvs more:List (Key×D)):List (Key×D):=more.foldl (λacc kv=>putD acc kv.1 kv.2) kvs
theorem RepKV.merge:∀{more:List (Key×D)}{ms:List (Key×V)}{b:List (Key×D)}{us:List (Key×V)},RepKV a more ms->RepKV a b us->RepKV a (Hf b more) (N8 us ms)
 |[],ms,b,us,h,r=>by have:=j1.mp h.1.symm;subst this;exact r
 |(k,d)::more,ms,b,us,h,r=>by obtain⟨v,c,rfl,f,e⟩:=RepKV.cons h;exact RepKV.merge (more:=more) (ms:=c) e (r.put f)
noncomputable def Cq:D->Option V
 |.int i=>uz (.int i)
 |.str x=>uz (.str x)
 |_=>uj
theorem ZOl(h:Cq d=uz w)(r:Rep a d v):v=w:=by
 cases d<;>first
  |(cases h;exact r)
  |cases h
theorem ZPa(h:Cq d=uz w):Rep a d w:=by
 cases d<;>first
  |(cases h;rfl)
  |cases h
def Qi(kvs:List (Str×D)):DE:=λ_ G=>.ok (.ref G.length) (G++[.dct (Hf [] (kvs.map λkv=>(.inr kv.1,kv.2)))])
section
variable{X:Cx}{E:XK}{pos:Pos}
def QPs(X:Cx)(E:XK)(pos:Pos)(keys:List (Option xz))(values:List xz)(kvs:List (Str×D)):Prop:=PPs X pos keys values (kvs.map λkv=>(tC (.str kv.1),lE X.K E (dC kv.2)))
theorem ZTp:QPs X E pos [] [] []:=ZUS
theorem Pq(c:QE X E v (dC d))(b:QPs X E pos ks vs kvs):QPs X E pos (uz (.Constant (.str x) j p)::ks) (v::vs) ((x,d)::kvs):=ZNr Qz c b
theorem ZGy:∀{e:List (Str×D)}{g:List V}{b:Wd}{Q:List (V×V)->Hp->Prop},e.map (λf=>Cq f.2)=g.map uz->b.K=X.K->Ext a0 b->Sim b G0->RepS b S σ->
  (∀c,Ext a0 c->Sim c G0->Q ((e.map λf=>V.str f.1).zip g) c.H)->V2 (e.map λf=>(tC (.str f.1),lE X.K E (dC f.2))) σ b.H Q
 |[],g,b,Q,hw,hk,i,j,l,h=>h b i j
 |(x,d)::e,[],b,Q,hw,hk,i,j,l,h=>by cases hw
 |(x,d)::e,w::g,b,Q,hw,hk,i,j,l,h=>by rw[zk,zk]at hw;obtain⟨o,r⟩:=List.cons.inj hw;refine⟨b,S,G0,hk,rfl,j,l,λc v m n u=>?_⟩;obtain rfl:=ZOl o u;exact ZGy r (m.k.trans hk) (i.trans m) n (l.mono m) λt y q=>h t y q
theorem ZDJ:∀{b:List (Str×D)},(b.all λc=>(Cq c.2).isSome)=ux->∃d:List V,b.map (λc=>Cq c.2)=d.map uz
 |[],_=>⟨[],rfl⟩
 |c::b,e=>by rw[qN,z5]at e;obtain⟨w,hw⟩:=jZ.mp e.1;obtain⟨d,f⟩:=ZDJ e.2;exact⟨w::d,by rw[zk,zk,f,hw]⟩
theorem ZFR:∀{b:List (Str×D)}{e:List V},b.map (λd=>Cq d.2)=e.map uz->RepKV c (b.map λd=>((.inr d.1:Key),d.2)) ((b.map λd=>(Sum.inr d.1:Key)).zip e)
 |[],_,_=>RepKV.nil
 |d::b,[],h=>by cases h
 |d::b,w::e,h=>by rw[zk,zk]at h;obtain⟨f,g⟩:=List.cons.inj h;exact RepKV.mk (ZPa f) (ZFR g)
theorem ZJq:∀{b:List (Str×D)}{d:List V},(b.map λc=>V.str c.1).zip d=((b.map λc=>(Sum.inr c.1:Key)).zip d).map λc=>(kV c.1,c.2)
 |[],_=>rfl
 |c::b,[]=>rfl
 |c::b,w::d=>congrArg _ ZJq
theorem ZMq(h:QPs X E pos keys values kvs)(t:(kvs.all λd=>(Cq d.2).isSome)=ux:=by rfl)(F:kvs.length<=15:=by decide)(f:keys.all (·.isSome)=ux:=by rfl)(B:keys.length=values.length:=by rfl)(v:keys≠[]:=by exact λz=>nomatch z)
  (l:keys.length<=15:=by decide):QE X E (.Dict keys values pos) (Qi kvs):=by
 refine(ZM0 h f B v l).mono λI H Q h=>?_
 obtain⟨a,S,G,hk,rfl,s,r,h⟩:=h;intro p hp;obtain⟨y,e⟩:=ZDJ t;have C:Sim (a.push p (.dK [])) (G++[.dct []]):=s.push hp ⟨[],rfl,RepKV.nil⟩;refine ZGy (b:=a.push p (.dK [])) e hk (Ext.refl _) C (r.mono (Ext.push hp)) λc k o=>?_
 have g:=zq (qJ _) k.n;have j:c.m a.n=p:=by rw[k.m a.n (qJ _)];show(if a.n=a.n then p else a.m a.n)=p;rw[if_pos rfl]
 obtain⟨J,i,u⟩:=o.obj a.n (.dct []) (by rw[<-s.len];simp);have:=j1.mp u.1.symm;subst this;rw[j]at i;refine⟨i,(kvs.map λd=>(Sum.inr d.1:Key)).zip y,ZJq,by simp;lia,?_⟩
 .have hw:=o.wrD g (by rw[j];exact i) (RepKV.merge (ZFR e) RepKV.nil);rw[j]at hw;have q:(G++[DO.dct []]).set a.n (DO.dct (Hf [] (kvs.map λd=>((.inr d.1:Key),d.2))))=G++[DO.dct (Hf [] (kvs.map λd=>((.inr d.1:Key),d.2)))]:=by rw[<-s.len];simp
  rw[q]at hw;refine h (c.put p _) (.ref p) (((Ext.push hp).trans k).trans (Ext.wrD i)) hw ⟨by rw[s.len];exact g,?_⟩;show V.ref p=V.ref (c.m G.length);rw[s.len,j]
end
section
variable{S:DSt}{G:DH}
@[simp]theorem ZWd:Qi kvs S G=.ok (.ref G.length) (G++[.dct (Hf [] (kvs.map λb=>(.inr b.1,b.2)))]):=id rfl
theorem ZPA(h:kvs.lookup x=uz v):Km kvs (.str x) G=.ok (.str v) G:=by
 show(match kvs.lookup x with |some v=>R.ok (D.str v) G|none=>R.bad)=_
 rw[h]
@[simp]theorem ZW0:Mm kvs (.str x) G=.ok (.bl (!(kvs.lookup x).isSome)) G:=id rfl
end
theorem Bh{X:Cx}{k j:Nat}{n:Str}{st:xA}{ps:List Str}{F:List D->DH->R D}{p pos:Pos}{e:xz}{es:List xz}{tr:DA}(c:FnO X.prog X.w X.K X.mg X.base k n ps F)(T:FT X.K X.mg n st ps)(i:Room j X.A)(g:QA X E0 (e::es) tr)
  (d:k<=j:=by decide) (f:Gl X n:=by exact rfl) (h:(n==("__debug__":Str))=uv:=by decide) (l:notStar e=ux:=by exact rfl) (hp:es.all notStar=ux:=by exact rfl):QE X E0 (.Call (.Name n p) (e::es) [] pos) (dFn F tr):=
 ZRv c (i.mono d) f T.m T.k T.b pass0 g h l hp
theorem ZT8:(Obj.mapFields f o).dict=o.dict:=by
 obtain⟨c,d,a,b⟩:=o;unfold Obj.mapFields
 cases a<;>rfl
def Trc(h B:Heap)(e:xY)(cls:xB)(od:Option xY)(fl:xB):Prop:=
 ∃oe vs T oT ts,h.get? e=uz oe/\(oe.cls=cls/\oe.dict=od)/\oe.data=.fields vs/\vs[1]?=uz (.ref T)/\(B.get? T=uj/\T≠e)/\h.get? T=uz oT/\oT.data=.fields ts/\ts[3]?=uz fl
structure Noted (B:Heap) (l:List Env) (e:xY) (cls:xB) (od:Option xY) (fl:xB) (h h':Heap):Prop where
 st:B.StaysIn h'
 fr:h'.FunFrames B l
 tr:Trc h' B e cls od fl
 up:∀b o,h.get? b=uz o->(∀vs,o.data≠ .fields vs)->∃sl,h'.get? b=uz {o with slots:=sl}
 th:∀b o,h.get? b=uz o->∃o',h'.get? b=uz o'
section
variable{M:Model}{A:xq}{E:xB->x0->Prop}{s:x0}{B:Heap}{env:Env}{outer:List Env}{L e:xY}{oe:Obj}{vs:Array xB}{head:xB}{hn:Bool}{Q:Unit->x0->Prop}
theorem ZIH(fr:A.frames=uz (env::outer))(p:s.heap.FunFrames B (env::outer))(J:env.frame=uz L)(u:s.heap.get? e=uz oe)(hk:B.StaysIn s.heap)(K:B.get? e=uj)(m:oe.data=.fields vs)(hz:1<vs.size)
  (q:∀h',Noted B (env::outer) e oe.cls oe.dict (vQ L) s.heap h'->Q () {s with heap:=h'}):
  vW M A (do let a<-frameOf env;let pl<-entryPlaceOf L hn;let b<-EntryCells.newEntry head a .none (vQ L) .none pl;setField (.ref e) 1 b) Q E s:=by
 have N:e∉(env::outer).filterMap (·.frame):=λv=>by obtain⟨_,o,F,l⟩:=p.mem v;rw[u]at F;cases F;exact l vs m
 refine vY (wpAny_frameOf_fun fr p J λh k=>?_);refine vY (wpAny_entryPlaceOf λpl hp=>?_);unfold EntryCells.newEntry newFields;refine vY (vk ?_ (hp.sizeOk5 _ _ _ _ _));generalize w:({cls:=.type "traceback",dict:=uj,data:=.fields ([head,.ref L,.none,vQ L,.none]++(if pl.isEmpty then zZ 6 Value.none else pl)).toArray}:Obj)=O;have t:O.data=.fields ([head,.ref L,.none,vQ L,.none]++(if pl.isEmpty then zZ 6 Value.none else pl)).toArray:=by rw[<-w]
 have C:=(k.2.1 e N).trans u;have H:B.StaysIn h:=λb o f=>(k.2.1 b λv=>by rw[(p.mem v).1]at f;cases f).trans (hk b o f)
 have y:=zQ O C;refine wpAny_setField y m hz (q _ ?_);have j:=jV (zz C)
 have I:=Obj.data_mapFields m (·.setIfInBounds 1 (Value.ref h.objs.size))
 have x:=qj (Obj.mapFields (·.setIfInBounds 1 (Value.ref h.objs.size))) y (Obj.isFreed_of_fields I)
 have P:=(q8 (h.push O) (Obj.mapFields (·.setIfInBounds 1 (Value.ref h.objs.size))) (Ne.symm j)).trans (zy h (by rw[<-w];rfl))
 have g:∀b o,b≠e->h.get? b=uz o->((h.push O).update e (Obj.mapFields (·.setIfInBounds 1 (Value.ref h.objs.size)))).get? b=uz o:=λb o n c=>by rw[q8 _ _ (Ne.symm n)];exact zQ _ c
 have l:∀b o,s.heap.get? b=uz o->(∀vs,o.data≠ .fields vs)->b≠e:=λb o c n z=>by rw[z,u]at c;cases c;exact n vs m
 refine⟨λb o f=>g b o (λz=>by rw[z,K]at f;cases f) (H b o f),p.of_keeps λb o c n=>?_,⟨_,_,h.objs.size,_,_,x,⟨Obj.cls_mapFields _ _,ZT8⟩,I,by simp[hz],⟨H.fresh,j⟩,P,t,by simp⟩,λb o c n=>?_,λb o c=>?_⟩
 .obtain⟨r,i⟩:=k.2.2 b o c;exact⟨_,g b _ (l b o c n) i,rfl⟩
 .obtain⟨r,i⟩:=k.2.2 b o c;exact⟨r,g b _ (l b o c n) i⟩
 .obtain⟨r,i⟩:=k.2.2 b o c;by_cases z:b=e
  .subst z;exact⟨_,x⟩
  .exact⟨_,g b _ z i⟩
theorem ZVi(fr:A.frames=uz (env::outer))(g:s.heap.FunFrames B (env::outer))(d:env.frame=uz L)(f:s.heap.get? e=uz oe)(hk:B.StaysIn s.heap)(h:B.get? e=uj)(c:oe.data=.fields vs)(b:vs[1]?=uz .none)
  (q:∀h',Noted B (env::outer) e oe.cls oe.dict (vQ L) s.heap h'->Q () {s with heap:=h'}):vW M A (noteFrame (.ref e) env) Q E s:=by
 unfold noteFrame;simp only[d];refine vY (vj f c b ?_);rw[if_neg (by decide)];exact ZIH fr g d f hk h c (qV.mp b).1 q
theorem ZFX(fr:A.frames=uz (env::outer))(y:s.heap.FunFrames B (env::outer))(k:env.frame=uz L)(C:Trc s.heap B e cls od .none)(hk:B.StaysIn s.heap)(v:B.get? e=uj)
  (q:∀h',Noted B (env::outer) e cls od (vQ L) s.heap h'->Q () {s with heap:=h'}):vW M A (noteFrame (.ref e) env) Q E s:=by
 obtain⟨H,r,T,F,w,p,⟨rfl,rfl⟩,t,m,⟨x,i⟩,h,g,u⟩:=C;unfold noteFrame;simp only[k];refine vY (vj p t m ?_);rw[if_pos (by simp)];refine vY (vj h g u ?_);rw[if_neg (by simp[vQ])];refine vY (wpAny_setField h g (qV.mp u).1 ?_)
 have d:∀b,b≠T->(s.heap.update T (Obj.mapFields (·.setIfInBounds 3 Value.none))).get? b=s.heap.get? b:=λb n=>q8 _ _ (Ne.symm n)
 have l:∀b o,s.heap.get? b=uz o->(∀r,o.data≠ .fields r)->b≠T:=λb o c n z=>by rw[z,h]at c;cases c;exact n w g
 refine ZIH fr (y.of_keeps λb o c n=>⟨o,(d b (l b o c n)).trans c,rfl⟩) k ((d e (Ne.symm i)).trans p)
  (λb o f=>(d b λz=>by rw[z,x]at f;cases f).trans (hk b o f)) v t (qV.mp m).1
  λh' n=>q h' ⟨n.st,n.fr,n.tr,λb o c j=>n.up b o ((d b (l b o c j)).trans c) j,λb o c=>?_⟩
 by_cases z:b=T
 .subst z;exact n.th b _ (qj _ h (Obj.isFreed_of_fields (Obj.data_mapFields g _)))
 .exact n.th b o ((d b z).trans c)
theorem Yn(F:s.heap.FunFrames B l)(H:Trc s.heap B e cls od fl)(hk:B.StaysIn s.heap)
  (q:∀h',Noted B l e cls od .none s.heap h'->Q () {s with heap:=h'}):vW M A (setFlight (.ref e) uj) Q E s:=by
 obtain⟨C,p,T,I,y,u,⟨rfl,rfl⟩,v,t,⟨w,i⟩,m,k,x⟩:=H;unfold setFlight;refine vY (vj u v t ?_);rw[if_pos (by simp)];refine wpAny_setField m k (qV.mp x).1 (q _ ?_)
 have d:∀b,b≠T->(s.heap.update T (Obj.mapFields (·.setIfInBounds 3 ((uj:Option xY).elim Value.none λf=>vQ f)))).get? b=s.heap.get? b:=λb n=>q8 _ _ (Ne.symm n)
 have r:∀b o,s.heap.get? b=uz o->(∀p,o.data≠ .fields p)->b≠T:=λb o c n z=>by rw[z,m]at c;cases c;exact n y k
 have j:=Obj.data_mapFields k (·.setIfInBounds 3 ((uj:Option xY).elim Value.none λf=>vQ f))
 have h:=qj (Obj.mapFields (·.setIfInBounds 3 ((uj:Option xY).elim Value.none λf=>vQ f))) m (Obj.isFreed_of_fields j)
 refine⟨λb o g=>(d b λz=>by rw[z,w]at g;cases g).trans (hk b o g),F.of_keeps λb o c n=>⟨o,(d b (r b o c n)).trans c,rfl⟩,
  ⟨C,p,T,_,_,(d e (Ne.symm i)).trans u,⟨rfl,rfl⟩,v,t,⟨w,i⟩,h,j,by simp[(qV.mp x).1]⟩,λb o c n=>⟨o.slots,(d b (r b o c n)).trans c⟩,λb o c=>?_⟩
 by_cases z:b=T
 .subst z;exact⟨_,h⟩
 .exact⟨o,(d b z).trans c⟩
theorem Noted.trans(x:Noted B l e cls od f1 h1 h2)(y:Noted B l e cls od f2 h2 h3):Noted B l e cls od f2 h1 h3:=
 ⟨y.st,y.fr,y.tr,λb o a n=>by
  obtain⟨g,k⟩:=x.up b o a n;obtain⟨c,f⟩:=y.up b _ k n;exact⟨c,f⟩,λb o a=>by
  obtain⟨d,k⟩:=x.th b o a;exact y.th b d k⟩
theorem ZNS(fr:A.frames=uz (env::outer))(c:s.heap.FunFrames B (env::outer))(i:env.frame=uz L)(j:s.heap.get? e=uz oe)(hk:B.StaysIn s.heap)(g:B.get? e=uj)(h:oe.data=.fields vs)(d:vs[1]?=uz .none)
  (q:∀h',Noted B (env::outer) e oe.cls oe.dict .none s.heap h'->Q () {s with heap:=h'}):vW M A (leaving env (.ref e)) Q E s:=by
 unfold leaving;exact vY (ZVi fr c i j hk g h d λh' n=>Yn n.fr n.tr n.st λb f=>q b (n.trans f))
theorem ZRn(fr:A.frames=uz (env::outer))(c:s.heap.FunFrames B (env::outer))(g:env.frame=uz L)(h:Trc s.heap B e cls od .none)(hk:B.StaysIn s.heap)(f:B.get? e=uj)
  (q:∀h',Noted B (env::outer) e cls od .none s.heap h'->Q () {s with heap:=h'}):vW M A (leaving env (.ref e)) Q E s:=by
 unfold leaving;exact vY (ZFX fr c g h hk f λh' n=>Yn n.fr n.tr n.st λb d=>q b (n.trans d))
end
structure Fly (B:Heap) (l:List Env) (e:xY) (cls:xB) (od:Option xY) (H':Hp) (h:Heap):Prop where
 st:B.StaysIn h
 fr:h.FunFrames B l
 tr:Trc h B e cls od .none
 eb:B.get? e=uj
 al:∀b,H' b≠uj->∃o,B.get? b=uz o
def CXx(P:xk)(w:xC):CXT:=λouter H s E e s'=>∃(ea:xY)(cls:xB)(od:Option xY)(H':Hp)(B:Heap),e=.ref ea/\s'.os=s.os/\AllBare s'.gens/\Un (frs outer) [] H H' s.heap s'.heap/\HOk P w H' s'.heap/\
 Fly B outer ea cls od H' s'.heap/\(∀b o,s.heap.get? b=uz o->H b=uj->b∉frs outer->B.get? b=uz o)/\s.heap.get? ea=uj/\E cls od H'/\∃C,cls=.ref C
section
variable{X:Cx}{vA:List (xY×Obj)}{σ:St}{H H':Hp}{s s':x0}{B h'':Heap}{ea:xY}{cls:xB}{od:Option xY}{E:XK}
theorem ZE3(hok:HOk P w H' h)(l:∀b,H' b≠uj->∃o,B.get? b=uz o)(j:B.StaysIn h)(g:B.StaysIn h'):HOk P w H' h':=λa o e=>
 (hok a o e).stay (λb u c q=>by
  have f:H' b≠uj:=by
   rcases c with rfl|c
   .rw[e];simp
   .rw[c];simp
  obtain⟨i,k⟩:=l b f;have d:=j b i k;rw[q]at d;cases d;exact g b u k) (λ_ q=>q) λ_ _ q=>q
theorem ZDW(I:Inv X vA σ H s)(K:X.stack=X.env::X.outer)(A:X.ex=[])(y:X.env.frame=uz X.env.locals)(t:s'.os=s.os)(m:AllBare s'.gens)(un:Un (frs X.stack) [] H H' s.heap s'.heap)(hok:HOk X.prog X.w H' s'.heap)
  (Q:∀b o,s.heap.get? b=uz o->H b=uj->b∉frs X.stack->B.get? b=uz o) (J:∀b,H' b≠uj->∃o,B.get? b=uz o) (P:B.get? ea=uj) (st:B.StaysIn s'.heap) (v:s.heap.get? ea=uj)
  (n:Noted B X.stack ea cls od .none s'.heap i) (S:E cls od H') (T:∃C,cls=.ref C):CXx X.prog X.w X.outer X.H₀ X.s₀ E (.ref ea) {s' with heap:=i}:=by
 have a:=I.base;rw[A]at a;have F:frs X.stack=X.env.locals::frs X.outer:=by rw[K];unfold frs;rw[qz,y]
 have l:∀b o,X.s₀.heap.get? b=uz o->X.H₀ b=uj->b∉frs X.outer->B.get? b=uz o:=λb o q d f=>by
  refine Q b o (a.keep b o q d f (by simp)) (a.free b o q d (by simp)) ?_;rw[F];intro p;rcases zj.mp p with z|z
  .exact absurd (zq (zz q) I.ok.above) (by rw[z];exact qZ _)
  .exact f z
 have x:i.FunFrames B X.outer:=by have:=n.fr;rw[K]at this;exact this.2.2
 refine⟨ea,cls,od,H',B,rfl,t.trans I.os,m,⟨λb o q d f _=>n.st b o (l b o q d f),λb o q d f _=>?_,λb o q d h=>?_,λb o q h=>?_,λb L q=>un.tups b L (a.tups b L q),λb o u q=>un.frzs b o u (a.frzs b o u q),λb Y q=>?_⟩,ZE3 hok J st n.st,⟨n.st,x,n.tr,P,J⟩,l,?_,S,T⟩
 .obtain⟨sl,k⟩:=a.slot b o q d f (by simp);have p:b∈frs X.stack:=by rw[F];exact zV _ f
  obtain⟨W,k'⟩:=un.slot b _ k (a.free b o q d (by simp)) p (by simp);obtain⟨_,M,g,O⟩:=I.stack.mem p;rw[k]at g;cases g;obtain⟨j,Z⟩:=n.up b _ k' O;exact⟨j,Z⟩
 .obtain⟨r,e⟩:=a.there b o q h;exact un.free b r e (a.free b o q d h) h
 .obtain⟨r,e⟩:=a.there b o q h;obtain⟨M,g⟩:=un.there b r e h;exact n.th b M g
 .obtain⟨U,e⟩:=a.tbls b Y q;obtain⟨N,g⟩:=un.tbls b _ e;exact⟨U++N,by rw[g,Array.append_assoc]⟩
 .cases q:X.s₀.heap.get? ea with
  |none=>rfl
  |some o=>
   obtain⟨r,e⟩:=a.there ea o q (by simp);rw[v]at e;cases e
def La(X:Cx)(E:XK):xB->x0->Prop:=λe s'=>vW (xU X.prog X.w) X.A (leaving X.env e) (λ_ s''=>CXx X.prog X.w X.outer X.H₀ X.s₀ E e s'') (λe' s''=>CXx X.prog X.w X.outer X.H₀ X.s₀ E e' s'') s'
theorem ZSk(d:X.stack=X.env::X.outer)(g:X.ex=[])(c:X.env.frame=uz X.env.locals)(I:Inv X vA σ H s)(h:CXx X.prog X.w X.stack H s E e s'):La X E e s':=by
 obtain⟨r,j,q,p,B,rfl,l,b,un,hok,a,k,f,m,o⟩:=h;unfold La;refine ZRn (by rw[I.ok.frames,d]) (by rw[<-d];exact a.fr) c a.tr a.st a.eb λi n=>?_
 rw[<-d]at n;exact ZDW I d g c l b un hok k a.al a.eb a.st f n m o
theorem ZOh(x:ObjOk P w H h a o):∃c,h.get? a=uz c:=by
 cases o with
 |lst d=>obtain⟨_,_,_,_,e⟩:=x;exact⟨_,e⟩
 |tup d=>obtain⟨_,_,_,_,e,_⟩:=x;exact⟨_,e⟩
 |dK b=>obtain⟨_,_,_,_,o,_,_,e,_⟩:=x;exact⟨_,e⟩
 |dT b=>obtain⟨_,_,_,_,o,_,_,e,_⟩:=x;exact⟨_,e⟩
 |set S n=>obtain⟨o,_,_,_,e,_⟩:=x;exact⟨_,e⟩
 |ins C j fs=>obtain⟨_,_,_,e,_⟩:=x;exact⟨_,e⟩
 |own y=>exact x
 |xd fs=>obtain⟨_,⟨_,_,_,e,_⟩,_⟩:=x;exact⟨_,e⟩
 |rng k i=>obtain⟨_,_,_,e⟩:=x;exact⟨_,e⟩
 |frz c u=>obtain⟨e,_⟩:=x;exact⟨_,e⟩
 |tbl l=>exact⟨_,x⟩
 |met f y=>exact⟨_,x⟩
 |ext g=>exact x.2.1
theorem ZIQ{a h h':Heap}:∀{l:List Env},h.FunFrames a l->(∀b∈frs l,∀o,h.get? b=uz o->∃f,h'.get? b=uz {o with slots:=f})->h'.FunFrames a l
 |[],_,_=>trivial
 |e::r,⟨hk,⟨L,o,i,j,t,p⟩,q⟩,k=>by
  have g:frs (e::r)=L::frs r:=by unfold frs;rw[qz,i]
  obtain⟨f,z⟩:=k L (by rw[g];exact zW) o t;exact⟨hk,⟨L,_,i,j,z,p⟩,ZIQ q λb m n c=>k b (by rw[g];exact zV _ m) n c⟩
structure Made (X:Cx) (H:Hp) (s:x0) (ea:xY) (cls:xB) (od:Option xY) (s':x0) (H':Hp):Prop where
 os:s'.os=s.os
 bare:AllBare s'.gens
 un:Un (frs X.stack) [] H H' s.heap s'.heap
 hok:HOk X.prog X.w H' s'.heap
 ob:∃oe vs,s'.heap.get? ea=uz oe/\oe.cls=cls/\oe.dict=od/\oe.data=.fields vs/\vs[1]?=uz .none
 fe:H' ea=uj
 new:s.heap.get? ea=uj
theorem ZPp(f:X.stack=X.env::X.outer)(g:X.ex=[])(d:X.env.frame=uz X.env.locals)(I:Inv X vA σ H s)(m:Made X H s ea cls od s' H')(v:E cls od H')(w:∃C,cls=.ref C):La X E (.ref ea) s':=by
 obtain⟨L,M,x,rfl,rfl,y,t⟩:=m.ob;have K:=ZIQ I.stack λb c o F=>m.un.slot b o F (I.Rg b c) c (by simp)
 have i:(qe s'.heap (ea::frs X.stack)).get? ea=uj:=by exact vS _ zW
 have h:(qe s'.heap (ea::frs X.stack)).StaysIn s'.heap:=λb o q=>vR _ q
 have r:∀b o,s.heap.get? b=uz o->H b=uj->b∉frs X.stack->(qe s'.heap (ea::frs X.stack)).get? b=uz o:=λb o q l c=>xg _ (m.un.keep b o q l c (by simp)) λe=>by
  rcases zj.mp e with z|z
  .rw[z,m.new]at q;cases q
  .exact c z
 have p:∀b,H' b≠uj->∃o,(qe s'.heap (ea::frs X.stack)).get? b=uz o:=λb c=>by
  cases q:H' b with
  |none=>exact absurd q c
  |some u=>
   obtain⟨o,k⟩:=ZOh (m.hok b u q);refine⟨o,xg _ k λe=>?_⟩;rcases zj.mp e with z|z
   .rw[z,m.fe]at q;cases q
   .obtain⟨_,J,A,_⟩:=I.stack.mem z;rw[m.un.free b J A (I.Rg b z) (by simp)]at q;cases q
 unfold La;refine ZNS (by rw[I.ok.frames,f]) (by rw[<-f];exact(PySem.W.funFrames_hide K λenv e a q=>zV _ (jI.mpr ⟨env,e,q⟩))) d x h i y t λj n=>?_
 rw[<-f]at n;exact ZDW I f g d m.os m.bare m.un m.hok r p i h m.new n v w
end
section
variable{prog:xk}{w:xC}{A:xq}{E:xB->x0->Prop}{h:Heap}{g:Array GenState}{d:Drawn}{t:Nat}{os:OsState}
variable{nm q:Str}{C N:xY}{bs bm bmB:List xB}{hdct:Bool}{sn:List Str}{sub:List xB}{ab:Bool}{col:Option Bool}{dd:Option xY}{k0 k1 k2 k3 k5:Option xB}{B newId initId:String}
theorem ZNZ(F:ExcBaseFacts B newId initId bmB)(T:OwnTail h bmB bm){y:Str->Option xB}{rest:List xB}{m:xY}{u:Obj}{Q:Fin->x0->Prop}
  (c:h.get? C=uz (excClassObj nm q C N bs bm hdct sn sub ab col dd k0 k1 k2 k3 k5 newId)) (H:h.Ns N y) (M:y "__init__"=uz (.ref m)) (l:h.get? m=uz u) (p:u.cls=.type "function")
  (K:∀h' e,Heap.MadeExcOf h h' e (.ref C) rest->h.objs.size<=e->vW (xU prog w) A (call (.ref m) (.ref e::rest)) (λr s'=>r=.none/\Q (.done (.ret (.ref e))) s') E ⟨h',g,d,t,os⟩) (L:rest.length<=sizeLine):
  vW (xU prog w) A (Builtin.«type.__call__» ⟨.ref C::rest,[]⟩) Q E ⟨h,g,d,t,os⟩:=by
 repeat (first|with_reducible refine wpAny_loadPart_at c ?_|with_reducible refine wpAny_madeBy_exc c ?_|wp_step)
 refine codeAny_call_builtin_code (Code.quiet_builtin _ F.quiet) (wpAny_check_new_subT F T c ?_);refine codeAny_exc_new_subT F T c ?_ L;generalize n:({cls:=.type "tuple",data:=.seq rest.toArray}:Obj)=v;generalize a:({cls:=.ref C,data:=.fields #[.ref h.objs.size,.none,.none,.none,.bool uv,.none]}:Obj)=j;have i:∀b o,h.get? b=uz o->((h.push v).push j).get? b=uz o:=λb o z=>zQ _ (zQ _ z)
 have f:=i _ _ c;have s:((h.push v).push j).get? (h.objs.size+1)=uz j:=Heap.get?_push_at (by simp only[qy]) (by rw[<-a];rfl);have k:j.cls=.ref C:=by rw[<-a]
 have J:(Value.ref C::bm).contains (.ref C)=ux:=by simp
 unfold isInstance
 repeat (first|(with_reducible refine wpAny_loadPart_at s ?_;rw[k])|(with_reducible refine wpAny_isSubtype_exc f ?_;rw[J])|wp_step)
 refine wpAny_typeLookup_tail f (H.keeps i) (T.keeps i) F.mroIs F.init.lookup ?_;rw[M];refine vx (vY ?_);unfold bindSpecial;refine vY (wpAny_typeOf ⟨_,i _ _ l,p⟩ ?_);rw[if_pos (by decide)];refine v4 (vY (vv (K _ (h.objs.size+1) ⟨i,jU (jx _),h.objs.size,by rw[s,<-a],jU (zY _),?_⟩ ?_) (λr s' z=>?_) λ_ _ x=>x))
 .rw[<-n];exact zQ _ (Heap.get?_push_at rfl rfl)
 .exact jx _
 .obtain⟨rfl,I⟩:=z
  wp_walk
  exact I
theorem ZOR(F:ExcBaseFacts B newId initId bmB)(T:OwnTail h bmB bm){j:Str->Option xB}{rest:List xB}{b:xY}{i:Obj}{Q:xB->x0->Prop}
  (a:h.get? C=uz (excClassObj nm q C N bs bm hdct sn sub ab col dd k0 k1 k2 k3 k5 newId)) (k:h.Ns N j) (m:j "__init__"=uz (.ref b)) (c:h.get? b=uz i) (f:i.cls=.type "function")
  (l:∀h' e,Heap.MadeExcOf h h' e (.ref C) rest->h.objs.size<=e->vW (xU prog w) (A.under (.builtin "type.__call__" ⟨.ref C::rest,[]⟩)) (call (.ref b) (.ref e::rest)) (λr s'=>r=.none/\Q (.ref e) s') E ⟨h',g,d,t,os⟩) (o:rest.length<=sizeLine):
  vW (xU prog w) A (call (.ref C) rest) Q E ⟨h,g,d,t,os⟩:=by
 have u:=tc_lookup;have v:=tc_bind (.ref C);have s:(⟨h,g,d,t,os⟩:x0).TypeIs (.ref C) "type":=⟨_,a,rfl⟩;refine wpAny_call (codeAny_of_tree ?_)
 repeat (any_goals (first|assumption|with_reducible refine wpAny_loadPart_at a ?_|wp_step))
 refine⟨rfl,?_⟩;refine codeAny_call_builtin_at (Code.quiet_builtin _ (by decide +kernel)) entry_typeCall (wpAny_check_type_call_sub a (ZNZ F T a k m c f (λh' e n p=>?_) o));exact l h' e n p
end
theorem ZKo{K:za}{h:Heap}{N:xY}{m:Str->Option xB}{n:Str}{v:xB}(X:K.In h)(G:h.Ns N m)(e:zb K N n=uz (uz v)):m n=uz v:=by
 obtain⟨o,l,r,g,a,_,b⟩:=G;unfold zb at e;split at e
 .rename_i c d i k j q;have:=X _ _ q;rw[g]at this;cases this;cases a;split at e
  .rename_i y f;rw[<-b];unfold nsFind findBy;rw[<-Array.find?_toList,f];exact Option.some.inj e
  .split at e<;>cases e
 .cases e
theorem Ox{K:za}{h:Heap}{C:xY}(X:K.In h)(q:Hn K C=ux):∃d N w v bs o sub r b u g i j k e,h.get? C=uz (excClassObj w v C N bs d ux o sub r b u g i j k e "ValueError.__new__")/\OwnTail h vmro d/\
  (∃m,h.Ns N m/\∀f,Kv K C f=ux->m "__init__"=uz (.ref f)):=by
 unfold Hn at q;split at q
 .rename_i u A y H;split at q
  .rename_i M d g i j k n e E B;simp only[z5,beq_iff_eq,Bool.not_eq_true']at q;obtain⟨⟨⟨⟨⟨rfl,rfl⟩,a⟩,c⟩,J⟩,hok⟩:=q;have I:∀f,Kv K M f=ux->zb K A.ns "__init__"=uz (uz (.ref f)):=λf z=>by unfold Kv at z;rw[H]at z;exact beq_iff_eq.mp z
   obtain⟨w,bs,O,F,v,P,o,sub,r,b,L⟩:=A;dsimp only at E a hok c I;subst E a c;have s:y= #[g,i,j,k,uz (.builtin "ValueError.__new__"),e]:=by obtain⟨l⟩:=y;simp only at B;rw[B]
   subst s;exact⟨d,F,w,v,bs,o,sub,r,b,u,g,i,j,k,e,X _ _ H,PySem.W.tail_of_in X J,_,.of_isNs (uQ X hok),λf z=>ZKo X (.of_isNs (uQ X hok)) (I f z)⟩
  .cases q
 .cases q
noncomputable def exO(C:xY)(od:Option xY)(t:xY):Obj:={cls:=.ref C,dict:=od,data:=.fields #[.ref t,.none,.none,.none,.bool uv,.none]}
def exo(e C:xY)(od:Option xY)(h:Heap):Prop:=∃t,h.get? e=uz (exO C od t)
theorem Xw(x:exo e C od h):ObjOk P w H h e (.ext (exo e C od)):=
 ⟨x,let⟨t,k⟩:=x;⟨_,k⟩,λb a ⟨t,k⟩ s=>⟨t,s _ k⟩⟩
section
variable{X:Cx}{C W:xY}{x:Str}{mc:xB}{p apos pos:Pos}{a1 a2:xz}{t:TA}
noncomputable def tBI(C:xY)(t:TA):TE:=λσ H Q=>t σ H λvs H1=>∃e v,vs=[.ref e,v]/\H1 e=uz (.ext (exo e C uj))/\Q .non H1
theorem ZLa(h:H a=uz o):upd H a o=H:=by
 funext b;unfold upd;split
 .rename_i z;rw[z,h]
 .rfl
theorem ZUn{pl:Sem Bool}(B:Hn X.K C=ux)(O:Gl X x)(Z:X.mg x=uz (.ref W))(P:vN X.K (.ref W) "__getattribute__"=uz (uz (.builtin "type.__getattribute__")))(hr:uZ X.K W mc=ux)
  (M:uJ X.K (.ref W) mc "__init__"=uz (.val (.builtin "ValueError.__init__"))) (ha:PA X [a1,a2] t) (w:(x==("__debug__":Str))=uv:=by decide)
  (U:vX [a1,a2] X.env=(uv,eval a1 X.env)::vX [a2] X.env:=by rfl) (y:(xF pos (vX [a2] X.env)).any (·.1)=uv:=by rfl)
  (ht:eval (.Call (.Attribute (.Name x p) "__init__" apos) [a1,a2] [] pos) X.env=(do
   let ov<-eval (.Name x p) X.env
   standAt apos.atName
   let(f,first)<-holding [ov] (getMethod ov "__init__" pl)
   callWith pos f first (xF pos (vX [a1,a2] X.env)) (xG pos (xR [] X.env))):=by rfl):
  PE X (.Call (.Attribute (.Name x p) "__init__" apos) [a1,a2] [] pos) (tBI C t):=by
 intro i s σ H Q I h;refine vD (K6 I O Z ?_ w) ht;refine PySem.W.method_cls I.kIn P (PySem.W.cls_value I.kIn hr M (by decide) ?_);refine vf (thn (ha pos i _ σ H _ (I.tok _) h) λus S ⟨vs,A,j,r,e,v,Y,z,q⟩=>?_) U y;subst Y;obtain⟨u,rfl⟩:∃u,us=[.ref e,u]:=by
  cases r with
  | cons r1 L=>
   cases L with
   |cons r3 r4=>
    cases r4;obtain rfl:=(r1);exact⟨_,rfl⟩
 obtain⟨⟨tp,c⟩,_,_⟩:=j.hok e _ z;obtain⟨bm,N,nm,qn,bs,sn,sub,ab,col,dd,k0,k1,k2,k3,k5,l,T,m,hN,_⟩:=Ox j.kIn B;obtain⟨hp,g,d,E,os⟩:=S;have F:=uX;refine wpAny_call (codeAny_call_builtin F.init.plain F.initEntry (wpAny_check_init_subT F T l c rfl ?_))
 wp_walk
 have a:((hp.push {cls:=.type "tuple",data:=.seq #[u]}).update e (Obj.mapFields (·.setIfInBounds 0 (Value.ref hp.objs.size)))).get? e=uz (exO C uj hp.objs.size):=qj _ (zQ _ c) rfl
 have J:=j.write (t':=E) (by rw[z];trivial) (.inl rfl)
  (λb o n k=>by rw[q8 _ _ (Ne.symm n)];exact zQ _ k) ⟨_,a⟩ (Xw ⟨_,a⟩)
 rw[ZLa z]at J;exact⟨.non,A,J,rfl,q⟩
end
theorem Rt(h:tyN v=n)(a:¬""=n):v=.type n:=by cases v<;>first|exact absurd h a|exact congrArg Value.type h
theorem ZRq(h:isRf v=ux):∃c,v=.ref c:=by cases v<;>first|exact⟨_,rfl⟩|cases h
theorem ZLN(h:l.map tyN=["ValueError","Exception","BaseException","object"]):l=vmro:=by
 rcases l with _|⟨a,_|⟨b,_|⟨c,_|⟨d,_|⟨e,l⟩⟩⟩⟩⟩<;>simp only[zk,jB,List.cons.injEq,reduceCtorEq,and_false]at h
 obtain⟨i,g,j,f,_⟩:=h;rw[Rt i (by decide),Rt g (by decide),Rt j (by decide),Rt f (by decide)]
theorem ZIz{P:List xB->Prop}(g:P vmro)(b:∀c r,P r->P (.ref c::r)):∀{l:List xB},Q3 l=ux->P l:=by
 intro l
 induction l with
 |nil=>intro e;cases e
 |cons a r f=>
  intro e;rcases Bool.or_eq_true_iff.mp e with e|e
  .obtain⟨d,h⟩:=qM.mp e;obtain⟨c,rfl⟩:=ZRq d;exact b c r (f h)
  .rw[ZLN (of_decide_eq_true e)];exact g
theorem ZNi(a:xB):∀{l:List xB},Q3 l=ux->refuseLoop a "__setattr__" l=pure ():=
 ZIz (P:=λl=>refuseLoop a "__setattr__" l=pure ()) (PySem.F.store_ValueError.passes a) λc r h=>by rw[refuseLoop_ref];exact h
theorem ZSM:∀{l:List xB},Q3 l=ux->l.contains (.type "object")=ux:=
 ZIz (P:=λl=>l.contains (.type "object")=ux) (by simp) λc r h=>by rw[List.contains_cons,h,Bool.or_true]
section
open PySem.W
variable{prog:xk}{w:xC}{A:xq}{s:x0}{K:v7}{x C:xY}{R:Result->x0->Prop}
theorem ZTZ(X:K.In s.heap)(I:InstAt s.heap x ox C od)(hp:R7 K C=ux)(y:takerIn K C name=uz r)
  (h:∀b,vW (xU prog w) A.in1 (match r with |some a=>Builtin.ObjectAttr.setByDescriptor a (.ref x) v|none=>Builtin.ObjectAttr.storeInOwnDict (.ref x) (.ref C) (.str name tk) name v b)
   (λn s'=>match n with | .done f=>R (.ok f) s' | .again c'=>c'.quiet=ux/\codeAny (xU prog w) A c' R s') (λe s'=>R (.error e) s') s):
  codeAny (xU prog w) A (.call (.builtin "object.__setattr__") ⟨[.ref x,.str name tk,v],[]⟩) R s:=by
 obtain⟨m,i,c⟩:=any_some hp;obtain⟨k,o,g⟩:=Option.bind_eq_some_iff.mp y;have d:m.mro≠[]:=λz=>by rw[z]at c;cases c
 have top:mroIn K C (.type "object")=uz ux:=by unfold mroIn;rw[i];show(if m.mro.isEmpty=ux then _ else _)=_;rw[if_neg (by simpa using d),ZSM c]
 have j:Looks (xU prog w) s.heap (mroOf (.ref C)) m.mro:=(looks_clsIn X i).andThen Looks.now;have l:Looks (xU prog w) s.heap (Builtin.ObjectAttr.storeTaker? k) r:=by
  rcases k with _|B
  .cases g;exact Looks.now
  .obtain⟨p,q,u⟩:=zD.mp g;subst u
   exact(looks_takesIn X q).andThen (by cases p<;>exact Looks.now)
 refine codeAny_call_builtin F.store_object.slot.plain F.store_object.entry (@check_slot (xU prog w) _ _ _ "object.__setattr__" "object" "__setattr__" (.ref x) [.str name tk,v] [] _ F.store_object.kind F.store_object.split (I.type.andThen (looks_mroIn X top)) (F.store_object.args (.ref x) (.str name tk) v) ?_);rw[osa_eq,refuse_eq];apply vY;apply vY;refine I.type.here ?_;apply vY
 refine j.here ?_;rw[ZNi _ c];apply v4;apply vY;refine I.type.here ?_;apply vY;refine(looks_findIn X o).here ?_;apply vY;exact l.here (h _)
end
section
variable{prog:xk}{w:xC}{A:xq}{E:xB->x0->Prop}{s:x0}{K:za}{e C t:xY}{name:Str}{v:xB}
theorem ZUQ(X:K.In s.heap)(g:s.heap.get? e=uz (exO C uj t))
  (F:zc K (.ref C) "__setattr__"=uz (uz (.builtin "object.__setattr__"))) (hp:R7 K C=ux) (M:qg K C name=uz uj) (L:qc K C=ux)
  (h:∀h' i tk,s.heap.objs.size<=i->h'.get? e=uz (exO C (uz i) t)->h'.Ns1 i (λy=>if y=name then uz v else uj)->(∀b o,b≠e->s.heap.get? b=uz o->h'.get? b=uz o)->Q () {s with heap:=h',toks:=tk}):
  vW (xU prog w) A (setAttr (.ref e) name v) Q E s:=by
 have J:qb s.heap e (exO C uj t) C uj:=⟨g,rfl,rfl,trivial⟩;refine va X J F (ZTZ X J hp M λb=>?_);obtain⟨N,I,j⟩:=vb L;refine vY (v4 (vY (vY (wpAny_loadPart g (vY (PySem.W.Looks.here (vc X I) ?_))))));rw[j];have d:(s.heap.push {cls:=.type "dict",data:=.dict #[]}).get? e=uz (exO C uj t):=zQ _ g
 have u:=z8 (zz g);refine vY (wpAny_alloc' ?_);refine vY (wpAny_update' d ?_);unfold dictMade;refine v4 ?_;have l:((s.heap.push {cls:=.type "dict",data:=.dict #[]}).update e λo=>{cls:=o.cls,dict:=uz s.heap.objs.size,data:=o.data,slots:=o.slots}).Ns s.heap.objs.size (λ_=>uj):=
  ⟨_,#[],_,(Heap.get?_update_ne _ _ _ _ u.symm).trans (Heap.get?_push_at rfl rfl),rfl,λy H=>absurd H (by simp),λ_=>rfl⟩
 unfold Builtin.ObjectAttr.storeInDict Builtin.ObjectAttr.newKeyGuard;refine vY (v4 (vY (wpAny_nsSet1 (Heap.Ns1.of_empty l) λh' c f=>?_)));obtain⟨O,z,B,k,p,m⟩:=c.count (Within.cons name v Within.nil);refine vY (wpAny_lookBehind k (by rw[p];exact pastItsLine_dict (z0 m (by rw[zM,qT,vZ];lia))) ?_);refine v4 (h h' s.heap.objs.size _ (zY _) ?_ c λb o n r=>?_)
 .exact(f.2 e u).trans (qj _ d rfl)
 .exact(f.2 b (z8 (zz r))).trans ((Heap.get?_update_ne _ _ _ _ n).trans (zQ _ r))
end
structure XSet (K:za) (C:xY) (f:Str):Prop where
 ec:Hn K C=ux
 sa:zc K (.ref C) "__setattr__"=uz (uz (.builtin "object.__setattr__"))
 po:R7 K C=ux
 tk:qg K C f=uz uj
 hd:qc K C=ux
section
variable{X:Cx}{C:xY}{f:Str}{o value:xz}{pos pos':Pos}{ta tv:TE}
def sXf(C:xY)(f:Str)(ta tv:TE):TS:=λD σ H=>tv σ H λy H1=>ta σ H1 λx H2=>∃e,x=.ref e/\H2 e=uz (.ext (exo e C uj))/\
 ∀dx o,H2 dx=uj->dx≠e->D.nx σ (upd (upd H2 e (.ext (exo e C (uz dx)))) dx (.frz o (.xd [(f,y)])))
theorem ZP6(S:XSet X.K C f)(ha:PE X o ta)(hv:PE X value tv)(hs:swapsWith value (uz (.Attribute o f pos')) pos.line X.env=pure uv):PS X (.Assign [.Attribute o f pos'] value pos) (sXf C f ta tv):=by
 intro i s N H D I h;refine plainObj_wpAny_Assign_Attribute (thn (hv i s N H _ I h) λu s1 ⟨y,H1,I1,ry,q⟩=>thn (ha i s1 N H1 _ I1 q) λov W ⟨x,c,v,rx,e,ex,m,q2⟩=>?_) hs;subst ex;obtain rfl:ov=Value.ref e:=rx;obtain⟨⟨t,F⟩,_,_⟩:=v.hok e _ m;refine ZUQ v.kIn F S.sa S.po S.tk S.hd λr a T Y j Q A=>?_
 have l:=v.hok.fresh Y;have ne:a≠e:=λz=>by rw[z,m]at l;cases l
 obtain⟨d,J⟩:∃d,r.get? a=uz d:=by obtain⟨o,_,_,k,_⟩:=Q;exact⟨o,k⟩
 have p:upd c e (.ext (exo e C (uz a))) a=uj:=by unfold upd;rw[if_neg ne];exact l
 have K2:HOk X.prog X.w (upd (upd c e (.ext (exo e C (uz a)))) a (.frz d (.xd [(f,y)]))) r:=λb O z=>by
  by_cases Z:b=a
  .subst Z;have zo:O=.frz d (.xd [(f,y)]):=by
    have E:upd (upd c e (.ext (exo e C (uz b)))) b (.frz d (.xd [(f,y)])) b=uz (.frz d (.xd [(f,y)])):=by unfold upd;rw[if_pos rfl]
    rw[E]at z;exact(Option.some.inj z).symm
   subst zo;refine⟨J,_,Q,λg=>?_⟩;by_cases M:g=f
   .subst M;simp[qO];exact ry
   .have:(g==f)=uv:=by simpa using M
    simp[qO,this,M]
    trivial
  .have E:upd c e (.ext (exo e C (uz a))) b=uz O:=by unfold upd at z⊢;rw[if_neg Z]at z;exact z
   refine((v.write (t':=T) (x:=e) (e:=e) (o:=.ext (exo e C (uz a))) (h':=r) (by rw[m];trivial) (.inl rfl) (λb o n k=>A b o n k) ⟨_,j⟩ (Xw ⟨t,j⟩)).hok b O E).stay (λ_ _ _ k=>k) (λP k=>?_) λP xs k=>?_
   .have:P≠a:=λw=>by rw[w,p]at k;cases k
    unfold upd at k⊢;rw[if_neg this];exact k
   .have:P≠a:=λw=>by rw[w,p]at k;cases k
    unfold upd at k⊢;rw[if_neg this];exact k
 have B:∀b,b≠e->b≠a->upd (upd c e (.ext (exo e C (uz a)))) a (.frz d (.xd [(f,y)])) b=c b:=λb n1 n2=>by unfold upd;rw[if_neg n2,if_neg n1]
 have U:Un X.fs [] c (upd (upd c e (.ext (exo e C (uz a)))) a (.frz d (.xd [(f,y)]))) W.heap r:=by
  have nd:∀b o,W.heap.get? b=uz o->b≠a:=λb o k z=>by have:=zz k;rw[z]at this;exact absurd this (Nat.not_lt.mpr Y)
  have L:∀b,c b=uj->b≠e:=λb k z=>by rw[z,m]at k;cases k
  refine⟨λb o k n _ _=>A b o (L b n) k,λb o k n _ _=>⟨o.slots,A b o (L b n) k⟩,λb o k n _=>by rw[B b (L b n) (nd b o k)];exact n,λb o k _=>?_,λb xs k=>?_,λb o u k=>?_,λb ps k=>⟨#[],?_⟩⟩
  .by_cases z:b=e
   .subst z;exact⟨_,j⟩
   .exact⟨o,A b o z k⟩
  .rw[B b (λz=>by rw[z,m]at k;cases k) (λz=>by rw[z,l]at k;cases k)];exact k
  .rw[B b (λz=>by rw[z,m]at k;cases k) (λz=>by rw[z,l]at k;cases k)];exact k
  .rw[B b (λz=>by rw[z,m]at k;cases k) (λz=>by rw[z,l]at k;cases k)];simpa using k
 exact⟨N,_,v.un U K2,q2 a d l ne⟩
end
def intS(i:Int):Prop:=i.natAbs.log2<1920/\(Str.ofString (toString i)).length<=1000
def Zn(w:V):Prop:=(∃i:Int,w=.int i/\intS i)∨w=.non
section
variable{X:Cx}{j:Nat}{v s1 s2:Str}{k1 k2 p1 p2 pv pf pos}
noncomputable def tFs(j:Nat):TE:=λσ H Q=>∃w:V,σ[j]?=uz (uz w)/\Zn w/\∀x,Q (.str x) H
theorem ZMk(K:X.N[j]?=uz v)(B:Vis X.env.scope v)(P:s1.length<=1000)(O:s2.length<=1000)(L:(v==("__debug__":Str))=uv:=by decide)(p:(v==("__classdict__":Str))=uv:=by decide):
  PE X (.JoinedStr [.Constant (.str s1) k1 p1,.FormattedValue (.Name v pv) (-1) uj pf,.Constant (.str s2) k2 p2] pos) (tFs j):=by
 intro d s l H Q I h;obtain⟨w,y,hw,q⟩:=h;have c:∀a b:Str,(a++b).length=a.length+b.length:=λa b=>by show(Str.append a b).length=_;unfold Str.append Str.length;simp
 have sz:∀n,n<=1000000->n<=sizeLine:=λn h=>by rw[vZ];lia
 refine JoinedStr_many (joinParts_cons (thn (Qz d s l H (λx g=>x=.str s1/\g=H) I ⟨rfl,rfl⟩) λu o f=>?_));obtain⟨x,z,C,e,rfl,rfl⟩:=f;obtain⟨S,rfl⟩:=e;refine⟨sz _ (by rw[c];show 0+_<=_;lia),?_⟩;refine joinParts_cons (FormattedValue_plain (thn (Ov K B L p d o l z (λx g=>x=w/\g=z) C ?_) λu J f=>?_))
 .exact⟨w,y,rfl,rfl⟩
 obtain⟨x,k,A,e,rfl,rfl⟩:=f;rcases hw with⟨i,rfl,M,E⟩|rfl
 .obtain⟨T,rfl⟩:=e;refine formatField_int_small M ⟨sz _ (by rw[c,c];show 0+_+_<=_;lia),?_⟩;refine joinParts_consE (joinParts_cons (thn (Qz d _ l k (λx g=>x=.str s2/\g=k) (A.tok _) ⟨rfl,rfl⟩) λu r f=>?_));obtain⟨x,m,t,e,rfl,rfl⟩:=f;obtain⟨F,rfl⟩:=e;refine⟨sz _ (by rw[c,c,c];show 0+_+_+_<=_;lia),?_⟩;exact joinParts_nilE (joinParts_nil ⟨.str _,m,t.tok _,⟨_,rfl⟩,q _⟩ (sz _ (by rw[c,c,c];show 0+_+_+_<=_;lia)))
 .cases(e);have E:(Str.ofString "None").length<=1000:=by decide
  refine wpAny_formatField_none ⟨sz _ (by rw[c,c];show 0+_+_<=_;lia),?_⟩;refine joinParts_consE (joinParts_cons (thn (Qz d _ l k (λx g=>x=.str s2/\g=k) (A.tok _) ⟨rfl,rfl⟩) λu r f=>?_));obtain⟨x,m,t,e,rfl,rfl⟩:=f;obtain⟨F,rfl⟩:=e;refine⟨sz _ (by rw[c,c,c];show 0+_+_+_<=_;lia),?_⟩;exact joinParts_nilE (joinParts_nil ⟨.str _,m,t.tok _,⟨_,rfl⟩,q _⟩ (sz _ (by rw[c,c,c];show 0+_+_+_<=_;lia)))
end
def spI(C:xY)(f:Str):Sp:=λvs H Q _=>∃(e:xY)(i:V),vs=[.ref e,i]/\Zn i/\H e=uz (.ext (exo e C uj))/\∀dx o,H dx=uj->dx≠e->Q .non (upd (upd H e (.ext (exo e C (uz dx)))) dx (.frz o (.xd [(f,i)])))
structure XBase (K:za) (mg:Str->Option xB) (x:Str) (W:xY):Prop where
 m:mg x=uz (.ref W)
 s:vN K (.ref W) "__getattribute__"=uz (uz (.builtin "type.__getattribute__"))
 r:uZ K W (.type "type")=ux
 f:uJ K (.ref W) (.type "type") "__init__"=uz (.val (.builtin "ValueError.__init__"))
theorem ZQR{P:xk}{w:xC}{K:za}{t:Str->Option xB}{c:Heap}{x b v f u n:Str}{st:xA}{Z C W:xY}{fd:xj}{k:Nat}{pw U g pe B M J T p5 p6 p7 p8 pv L:Pos}{k1 k2}
  (F:Fun K x qual st Z fd) (S:FnScope ["self",v] ["self",v] (Ad st)) (XS:XSet K C f) (O:XBase K t b W)
  (hb:Dm st=[.Expr (.Call (.Attribute (.Name b pw) "__init__" U) [.Name "self" B,.JoinedStr [.Constant (.str u) k1 M,.FormattedValue (.Name v pv) (-1) uj L,.Constant (.str n) k2 J] T] [] g) pe,.Assign [.Attribute (.Name "self" p5) f p6] (.Name v p8) p7])
  (l1:u.length<=1000) (l2:n.length<=1000) (hgl:(Ad st).names.lookup b=uz .globalImplicit) (Y:(b==("__debug__":Str))=uv) (o:(v==("__debug__":Str))=uv) (j:(v==("__classdict__":Str))=uv)
  (hvs:Vis (Ad st) "self") (l:Vis (Ad st) v)
  (hev:∀env:Env,∃pl:Sem Bool,eval (.Call (.Attribute (.Name b pw) "__init__" U) [.Name "self" B,.JoinedStr [.Constant (.str u) k1 M,.FormattedValue (.Name v pv) (-1) uj L,.Constant (.str n) k2 J] T] [] g) env=(do
   let ov<-eval (.Name b pw) env
   standAt U.atName
   let(f,first)<-holding [ov] (getMethod ov "__init__" pl)
   callWith g f first (xF g (vX [.Name "self" B,.JoinedStr [.Constant (.str u) k1 M,.FormattedValue (.Name v pv) (-1) uj L,.Constant (.str n) k2 J] T] env)) (xG g (xR [] env)))):
  FnOk P w K t c CX0 (k+1) Z fd ["self",v] (spI C f):=by
 refine F.ok S (λvs H Q E ⟨e,i,z,_⟩=>by rw[z];rfl) (λcdv A d s H vs Q E hr h=>?_);obtain⟨e,i,rfl,hi,hx,q⟩:=h;rw[hb];generalize I:(G9 CX0 P w K t c ["self",v] qual (Ad st) Z cdv A d s H E).nox=X;have y:X.K=K:=by rw[<-I];rfl
 have hm:X.mg=t:=by rw[<-I];rfl
 have hN:X.N=(["self",v]:List Str):=by rw[<-I];rfl
 have hs:X.env.scope=Ad st:=by rw[<-I];rfl
 have a:∀p,PE X (.Name "self" p) (O6 0):=λp=>Ov (by rw[hN];rfl) (by rw[hs];exact hvs) (by decide) (by decide)
 have pv':∀p,PE X (.Name v p) (O6 1):=λp=>Ov (by rw[hN];rfl) (by rw[hs];exact l) o j
 have hG:Gl X b:=by unfold Gl;rw[<-I];exact hgl
 obtain⟨pl,hpl⟩:=hev X.env;have c1:PE X (.Call (.Attribute (.Name b pw) "__init__" U) [.Name "self" B,.JoinedStr [.Constant (.str u) k1 M,.FormattedValue (.Name v pv) (-1) uj L,.Constant (.str n) k2 J] T] [] g) (tBI C (Qh (O6 0) (Qh (tFs 1) Qf))):=
  ZUn (by rw[y];exact XS.ec) hG (by rw[hm];exact O.m) (by rw[y];exact O.s) (by rw[y];exact O.r) (by rw[y];exact O.f) (ZCF (a B) (ZCF (ZMk (by rw[hN];rfl) (by rw[hs];exact l) l1 l2 o j) ZHv)) Y rfl rfl hpl
 refine⟨_,ZH9 (ZD0 c1 rfl) (ZD2 (ZP6 (by rw[y];exact XS) (a p5) (pv' p8) rfl)),?_⟩;refine⟨.ref e,rfl,i,rfl,hi,λxx=>⟨e,_,rfl,hx,?_⟩⟩;exact⟨i,rfl,.ref e,rfl,e,rfl,hx,q⟩
section
variable{M:Model}{A:xq}{E:xB->x0->Prop}{env:Env}
variable{nm q:Str}{C N:xY}{bs bm:List xB}{hdct:Bool}{sn:List Str}{sub:List xB}{ab:Bool}{col:Option Bool}{dd:Option xY}{k0 k1 k2 k3 k5:Option xB}{newId:String}
theorem ZOs(L:A.handled=uj)
  (h:vW M A x (λv b=>∃e od t m N H q bs i p sub r l w y z B F u c,v=.ref e/\b.heap.get? C=uz (excClassObj H q C N bs m i p sub r l w y z B F u c)/\m.contains (.type "BaseException")=ux/\
   b.heap.get? e=uz {cls:=.ref C,dict:=od,data:=.fields #[.ref t,.none,.none,.none,.bool uv,.none]}/\E (.ref e) b) E s):vW M A (raiseStmt env (uz x) uj) Q E s:=by
 unfold raiseStmt;refine vY (vv h (λv b j=>?_) λ_ _ x=>x);obtain⟨e,od,t,m,N,H,q,bs,i,p,sub,r,l,w,y,z,B,F,u,c,rfl,o,I,K,J⟩:=j;have n:(Value.ref C::m).contains (.type "BaseException")=ux:=by rw[List.contains_cons,I,Bool.or_true]
 obtain⟨hp,g,d,O,P⟩:=b
 repeat (first|with_reducible refine wpAny_loadPart_at K ?_|with_reducible refine wpAny_loadPart_at o ?_|(with_reducible refine wpAny_isSubtype_exc o ?_;rw[n])|wp_step)
 exact wpAny_raiseNew_none L J
theorem ZT6(z:A.handled=uj)
  (h:vW M A (eval x env) (λv b=>∃e od t j N B q bs d r sub w i o p u y m n c,v=.ref e/\b.heap.get? C=uz (excClassObj B q C N bs j d r sub w i o p u y m n c)/\j.contains (.type "BaseException")=ux/\
   b.heap.get? e=uz {cls:=.ref C,dict:=od,data:=.fields #[.ref t,.none,.none,.none,.bool uv,.none]}/\E (.ref e) b) E s):vW M A (exec (.Raise (uz x) uj pos) env) Q E s:=by
 rw[arm_exec_Raise];refine vY (wpAny_standAt (ZOs (C:=C) z ?_));exact vY (vv h (λv l g=>vY (wpAny_standAt (v4 g))) λ_ _ x=>x)
end
section
variable{X:Cx}{C fI:xY}{f x:Str}{np cpos pos:Pos}{a:xz}{ta:TA}{E:XK}{k:Nat}{fd:xj}{v:Str}
def tRz(C:xY)(f:Str)(E:XK)(ta:TA):TS:=λ_ σ H=>ta σ H λvs H1=>∃i:V,vs=[i]/\Zn i/\∀dx o,H1 dx=uj->E (.ref C) (uz dx) (upd H1 dx (.frz o (.xd [(f,i)])))
theorem ZQF(S:X.calm=ux)(hs:X.stack=X.env::X.outer)(hex:X.ex=[])(hfr:X.env.frame=uz X.env.locals)(hxe:∀e s,La X E e s->X.xe e s)
  (XS:XSet X.K C f) (hi:Kv X.K C fI=ux) (hfn:∃o,X.K.lookup fI=uz o/\o.cls=.type "function") (F:FnOk X.prog X.w X.K X.mg X.base CX0 k fI fd ["self",v] (spI C f)) (hr:Room (k+1) X.A) (hb:Binds X.K fd ["self",v] [])
  (hg:Gl X x) (hm:X.mg x=uz (.ref C)) (hk:zd X.K (.ref C)=ux) (ha:PA X [a] ta) (hdb:(x==("__debug__":Str))=uv:=by decide)
  (he:vX [a] X.env=(uv,eval a X.env)::vX [] X.env:=by rfl) (hpl:(xF cpos (vX [] X.env)).any (·.1)=uv:=by rfl):
  PS X (.Raise (uz (.Call (.Name x np) [a] [] cpos)) uj pos) (tRz C f E ta):=by
 intro vA s σ H D I h;refine ZT6 (C:=C) (I.ok.hd S) ?_;refine vK (K6 I hg hm ?_ hdb);refine qh I.ok.mod.kin hk (thn (ha cpos vA s σ H _ I h) λus s1 ⟨vs,B,U,r,i,ev,hi',q⟩=>⟨U.kIn,?_⟩) he hpl;subst ev;obtain⟨bm,N,nm,qn,bs,sn,sub,ab,col,dd,k0,k1,k2,k3,k5,hcl,T,m,hN,hin⟩:=Ox U.kIn XS.ec;obtain⟨oI,hfI,hfc⟩:=hfn;have hl1:us.length<=sizeLine:=by rw[<-r.length,vZ];show 1<=_;decide
 obtain⟨hp,g,d,tk,os⟩:=s1;have FB:=uX;refine ZOR FB T hcl hN (hin fI hi) (U.kIn _ _ hfI) hfc (λh' e j hz=>?_) hl1;obtain⟨t,ht,_,_⟩:=j.there;have I2:=U.laid (t':=tk) j.keeps hz (Xw ⟨t,ht⟩);have fe:=U.hok.fresh hz;obtain⟨u,rfl⟩:∃u,us=[u]:=by
  cases r with
  |cons r1 r2=>cases r2;exact⟨_,rfl⟩
 have h2e:upd B e (.ext (exo e C uj)) e=uz (.ext (exo e C uj)):=by unfold upd;rw[if_pos rfl]
 have l:∀b,b≠e->upd B e (.ext (exo e C uj)) b=B b:=λb n=>by unfold upd;rw[if_neg n]
 refine wpAny_call (xN (F.run _ X.stack _ _ ⟨[Value.ref e,u],[]⟩ [Value.ref e,u] [V.ref e,i] (λw H3=>w=.non/\∃c o,B c=uj/\c≠e/\H3=upd (upd (upd B e (.ext (exo e C uj))) e (.ext (exo e C (uz c)))) c (.frz o (.xd [(f,i)]))) E0 (hr.make C [u] [])
  (I2.env0.make C [u] []) (by simpa using hb _ [Value.ref e,u] I2.kIn rfl) (.cons rfl r) ⟨e,i,rfl,hi',h2e,λc o n1 n2=>⟨rfl,c,o,by rw[<-l c n2];exact n1,n2,rfl⟩⟩) λr s' y=>?_)
 cases r with
 |error e=>exact y.elim
 | ok fl=>
  cases fl with
  |next=>exact False.elim y
  |brk=>exact False.elim y
  |cont=>exact False.elim y
  | ret w=>
   obtain⟨_,_,I3,_⟩:=I2.after y;obtain⟨vw,H3,os',O,un,hok,rw',rfl,c,o,nd,ne,rfl⟩:=y;refine⟨rw',?_⟩;have p:∀b,b≠e->upd (upd (upd B e (.ext (exo e C uj))) e (.ext (exo e C (uz c)))) c (.frz o (.xd [(f,i)])) b=upd B c (.frz o (.xd [(f,i)])) b:=λb n=>by
    unfold upd;split
    .rfl
    .simp
   have P:upd (upd (upd B e (.ext (exo e C uj))) e (.ext (exo e C (uz c)))) c (.frz o (.xd [(f,i)])) e=uz (.ext (exo e C (uz c))):=by unfold upd;rw[if_neg (Ne.symm ne),if_pos rfl]
   have feN:upd B c (.frz o (.xd [(f,i)])) e=uj:=by unfold upd;rw[if_neg (Ne.symm ne)];exact fe
   obtain⟨⟨t',Z⟩,_,_⟩:=hok e _ P;obtain⟨bm',N',nm',qn',bs',sn',sub',ab',Y,dd',l0,l1,l2,l3,l5,hcl',T',_⟩:=Ox I3.kIn XS.ec;have L:∀b o,hp.get? b=uz o->b≠e:=λb o k z=>by rw[z,j.new]at k;cases k
   have mk:Made X B ⟨hp,g,d,tk,os⟩ e (.ref C) (uz c) s' (upd B c (.frz o (.xd [(f,i)]))):=by
    refine⟨os',O,⟨λb o k n hb Q=>un.keep b o (j.keeps b o k) (by rw[l b (L b o k)];exact n) hb Q,λb o k n hb Q=>un.slot b o (j.keeps b o k) (by rw[l b (L b o k)];exact n) hb Q,λb o k n Q=>?_,λb o k Q=>un.there b o (j.keeps b o k) Q,λb xs k=>?_,λb o u k=>?_,λb ps k=>?_⟩,λb ob z=>?_,⟨_,_,Z,rfl,rfl,rfl,rfl⟩,feN,j.new⟩
    .rw[<-p b (L b o k)];exact un.free b o (j.keeps b o k) (by rw[l b (L b o k)];exact n) Q
    .have J:b≠e:=λz=>by rw[z,fe]at k;cases k
     rw[<-p b J];exact un.tups b xs (by rw[l b J];exact k)
    .have J:b≠e:=λz=>by rw[z,fe]at k;cases k
     rw[<-p b J];exact un.frzs b o u (by rw[l b J];exact k)
    .have J:b≠e:=λz=>by rw[z,fe]at k;cases k
     rw[<-p b J];exact un.tbls b ps (by rw[l b J];exact k)
    .have J:b≠e:=λz'=>by rw[z',feN]at z;cases z
     rw[<-p b J]at z;refine(hok b ob z).stay (λ_ _ _ k=>k) (λb' k=>?_) λb' xs k=>?_
     .rw[<-p b' (λz'=>by rw[z',P]at k;cases k)];exact k
     .rw[<-p b' (λz'=>by rw[z',P]at k;cases k)];exact k
   exact⟨e,uz c,t',bm',N',nm',qn',bs',ux,sn',sub',ab',Y,dd',l0,l1,l2,l3,l5,_,rfl,hcl',T'.hasType FB.hasBase,Z,hxe _ _ (ZPp hs hex hfr U mk (q c o nd) ⟨C,rfl⟩)⟩
end
section
variable{X:Cx}{vA:List (xY×Obj)}{σ:St}{H H':Hp}{s s':x0}{B h'':Heap}{ea:xY}{cls:xB}{od:Option xY}{E:XK}{fl:xB}
theorem ZLb(I:Inv X vA σ H s)(v:s'.os=s.os)(h:AllBare s'.gens)(un:Un (frs X.stack) [] H H' s.heap s'.heap)(hok:HOk X.prog X.w H' s'.heap)
  (N:∀b o,s.heap.get? b=uz o->H b=uj->b∉frs X.stack->B.get? b=uz o) (A:∀b,H' b≠uj->∃o,B.get? b=uz o) (M:B.get? ea=uj) (st:B.StaysIn s'.heap) (l:s.heap.get? ea=uj)
  (n:Noted B X.stack ea cls od fl s'.heap g):∃c vs,g.get? ea=uz c/\c.cls=cls/\c.dict=od/\c.data=.fields vs/\H' ea=uj/\Inv X vA σ (upd H' ea (.frz c (.own 0))) {s' with heap:=g}:=by
 obtain⟨c,vs,T,oT,ts,r,⟨O,P⟩,p,_⟩:=n.tr;have e:H' ea=uj:=by
  cases z:H' ea with
  |none=>rfl
  |some u=>
   obtain⟨o,k⟩:=A ea (by rw[z];simp);rw[M]at k;cases k
 have d:∀b,b≠ea->upd H' ea (.frz c (.own 0)) b=H' b:=λb k=>by unfold upd;rw[if_neg k]
 have Q:∀b o,s.heap.get? b=uz o->b≠ea:=λb o k z=>by rw[z,l]at k;cases k
 refine⟨c,vs,r,O,P,p,e,I.call' (ch:=[]) v ⟨λb o q f i _=>n.st b o (N b o q f i),λb o q f i _=>?_,λb o q f y=>?_,λb o q y=>?_,λb F q=>?_,λb o u q=>?_,λb W q=>?_⟩ (λb K z=>?_) h λb z=>absurd z (by simp)⟩
 .obtain⟨sl,k⟩:=un.slot b o q f i (by simp);obtain⟨_,o2,C,L⟩:=I.stack.mem i;rw[q]at C;cases C;obtain⟨t,Z⟩:=n.up b _ k L;exact⟨t,Z⟩
 .rw[d b (Q b o q)];exact un.free b o q f y
 .obtain⟨Y,S⟩:=un.there b o q y;exact n.th b Y S
 .have:=un.tups b F q;rw[d b (λz=>by rw[z,e]at this;cases this)];exact this
 .have:=un.frzs b o u q;rw[d b (λz=>by rw[z,e]at this;cases this)];exact this
 .obtain⟨m,this⟩:=un.tbls b W q;exact⟨m,by rw[d b (λz=>by rw[z,e]at this;cases this)];exact this⟩
 .by_cases J:b=ea
  .subst J;have U:K=.frz c (.own 0):=by unfold upd at z;rw[if_pos rfl]at z;exact(Option.some.inj z).symm
   subst U;exact⟨r,c,r⟩
  .rw[d b J]at z;refine((ZE3 hok A st n.st) b K z).stay (λ_ _ _ k=>k) (λx k=>?_) λx F k=>?_
   .rw[d x (λj=>by rw[j,e]at k;cases k)];exact k
   .rw[d x (λj=>by rw[j,e]at k;cases k)];exact k
theorem lands(k:X.stack=X.env::X.outer)(l:X.env.frame=uz X.env.locals)(I:Inv X vA σ H s)(h:CXx X.prog X.w X.stack H s E e s')
  (q:∀(d:xY)(C:xB)(od:Option xY)(H':Hp)(c:Obj)(vs:Array xB)(b:Heap),e=.ref d->b.get? d=uz c->c.cls=C->c.dict=od->c.data=.fields vs->E C od H'->H' d=uj->Inv X vA σ (upd H' d (.frz c (.own 0))) {s' with heap:=b}->
   (∃B:Heap,Trc b B d C od .none)->(∃L,C=.ref L)->Q () {s' with heap:=b}):
  vW (xU X.prog X.w) X.A (noteFrame e X.env) (λ_ x=>vW (xU X.prog X.w) X.A (setFlight e uj) Q E' x) E' s':=by
 obtain⟨d,cls,od,H',B,rfl,M,g,un,hok,a,v,j,y,o⟩:=h;have p:=a.fr;rw[k]at p;refine ZFX (by rw[I.ok.frames,k]) p l a.tr a.st a.eb λN i=>?_
 refine Yn i.fr i.tr i.st λt r=>?_
 have n:=i.trans r;rw[<-k]at n;obtain⟨c,vs,F,z,K,m,u,J⟩:=ZLb I M g un hok v a.al a.eb a.st j n;exact q d cls od H' c vs t rfl F z K m y u J ⟨B,n.tr⟩ o
end
section
variable{M:Model}{A:xq}{E:xB->x0->Prop}{h:Heap}{g:Array GenState}{d:Drawn}{t:Nat}{os:OsState}
theorem ZQM
  (j:h.get? C=uz (excClassObj nm q C N bs bm hdct sn sub ab col dd k0 k1 k2 k3 k5 newId)) (i:h.get? W=uz (excClassObj nm' q' W N' bs' bm' hdct' sn' sub' ab' col' dd' l0 l1 l2 l3 l5 newId')) (n:h.get? e=uz oe) (m:oe.cls=.ref C)
  (l:bm'.contains (.type "BaseException")=ux) (c:(Value.ref C::bm).contains (.ref W)=b) (k:Q b ⟨h,g,d,t,os⟩):vW M A (excMatches (.ref e) (.ref W)) Q E ⟨h,g,d,t,os⟩:=by
 have a:(Value.ref W::bm').contains (.type "BaseException")=ux:=by rw[List.contains_cons,l,Bool.or_true]
 have f:=tc_notTuple;unfold excMatches
 repeat (first|(with_reducible refine wpAny_loadPart_at n ?_;rw[m])|with_reducible refine wpAny_loadPart_at i ?_|(with_reducible refine wpAny_isSubtype_exc i ?_;rw[a])|(with_reducible refine wpAny_isSubtype_exc j ?_;rw[c])|wp_step)
 cases b<;>(wp_walk;exact k)
theorem ZDD(x:Trc s.heap B e cls od .none)(q:∀h',(∀b o,s.heap.get? b=uz o->h'.get? b=uz o)->Q () {s with heap:=h'}):vW M A (setFlight (.ref e) uj) Q E s:=by
 obtain⟨I,F,T,r,l,w,_,u,n,⟨H,v⟩,f,m,j⟩:=x;unfold setFlight;refine vY (vj w u n ?_);rw[if_pos (by simp)];refine wpAny_setField f m (qV.mp j).1 (q _ λb o k=>?_);by_cases z:b=T
 .subst z;rw[f]at k;cases k;rw[qj _ f (Obj.isFreed_of_fields (Obj.data_mapFields m _))];obtain⟨c,C,p,y⟩:=r;obtain rfl:p=.fields l:=m;unfold Obj.mapFields;dsimp only
  congr 2
  have:l.setIfInBounds 3 Value.none=l:=by
   refine Array.ext_getElem? λi=>?_
   rw[Array.getElem?_setIfInBounds];split
   .rename_i z;subst z;rw[if_pos (qV.mp j).1,j]
   .rfl
  exact congrArg _ this
 .rw[q8 _ _ (Ne.symm z)];exact k
end
section
variable{X:Cx}{vA:List (xY×Obj)}{σ:St}{H:Hp}{s:x0}
theorem Te(I:Inv X vA σ H s)(S:X.N.Nodup)(Y:X.N[i]?=uz n)(hk:X.env.kindOf n=uz .local)
  (q:∀s',Inv X vA (σ.set i uj) H s'->Q () s'):vW M A (do bindName X.env n .none;unbindBehindTheSuite X.env n pos) Q E s:=by
 obtain⟨m,J,W⟩:=I.loc;have hp:(X.env.scope.kind == .class||(X.env.scope.kind == .module&&X.env.locals != X.env.globals))=uv:=by rw[I.ok.kind];rfl
 refine wpAny_nameGoes_keeps hk J hp λh' v x g=>q _ ?_
 have h:∀b o,X.s₀.heap.get? b=uz o->b≠X.env.locals:=λb o e=>z8 (zq (zz e) I.ok.above)
 refine⟨I.ok,I.os,I.bare,⟨λb o e t f w=>(g.2 b (h b o e)).trans (I.base.keep b o e t f w),λb o e t f w=>?_,I.base.free,λb o e w=>?_,I.base.tups,I.base.frzs,I.base.tbls⟩,⟨_,x,λj y L r l K=>?_⟩,λy c e=>?_,I.free,I.Fj,λp hp=>?_,?_,by rw[jw];exact I.len⟩
 .obtain⟨F,r⟩:=I.base.slot b o e t f w;exact⟨F,(g.2 b (h b o e)).trans r⟩
 .obtain⟨T,r⟩:=I.base.there b o e w;exact⟨T,(g.2 b (h b o e)).trans r⟩
 .have B:j≠i:=λz=>by
   subst z;rw[qF]at l;split at l
   .split at l<;>cases l
   .rename_i z;exact z rfl
  rw[qL (Ne.symm B)]at l;obtain⟨U,P,z⟩:=W j y L r l K;refine⟨U,P,?_⟩;rcases z with⟨k,e⟩|⟨k,c,e,z⟩
  .refine .inl ⟨k,?_⟩;have:y≠n:=λe=>B (Z4 S r (e▸Y))
   simp[this,e]
  .exact .inr ⟨k,c,e,z.sameBut g (I.cne y c e)⟩
 .obtain⟨Z,z⟩:=I.cell y c e;exact⟨Z,z.sameBut g (I.cne y c e)⟩
 .obtain⟨e,t,C,O,d⟩:=I.pin p hp;exact⟨(g.2 p.1 C).trans e,t,C,O,d⟩
 .exact λa o e=>(I.hok a o e).stay (λb u f k=>(g.2 b (λz=>by
   rcases f with rfl|f
   .rw[z,I.free]at e;cases e
   .rw[z,I.free]at f;cases f)).trans k) (λ_ k=>k) λ_ _ k=>k
end
noncomputable def Il(X:Cx)(ea:xY):Cx:={X with A:=X.A.mark (uz (.ref ea)),calm:=uv,xe:=λ_ _=>False}
section
variable{X:Cx}{vA:List (xY×Obj)}{σ:St}{H:Hp}{s:x0}{ea:xY}
theorem ZA4(I:Inv X vA σ H s):Inv (Il X ea) vA σ H s:=
 ⟨⟨I.ok.mod,I.ok.kind,I.ok.glob,I.ok.blt,I.ok.above,I.ok.inj,I.ok.has,I.ok.cab,λz=>absurd z (by simp[Il]),I.ok.frames,I.ok.stk,I.ok.exf,I.ok.bs,I.ok.bsz,I.ok.noex,I.ok.exfs,I.ok.funs,I.ok.frf⟩,I.os,I.bare,I.base,I.loc,I.cell,I.free,I.Fj,I.pin,I.hok,I.len⟩
theorem Jd{calm:X.calm=ux}(b:X.A.handled=uj)(I:Inv (Il X ea) vA σ H s):Inv X vA σ H s:=
 ⟨⟨I.ok.mod,I.ok.kind,I.ok.glob,I.ok.blt,I.ok.above,I.ok.inj,I.ok.has,I.ok.cab,λ_=>b,I.ok.frames,I.ok.stk,I.ok.exf,I.ok.bs,I.ok.bsz,I.ok.noex,I.ok.exfs,I.ok.funs,I.ok.frf⟩,I.os,I.bare,I.base,I.loc,I.cell,I.free,I.Fj,I.pin,I.hok,I.len⟩
end
section
variable{X:Cx}{f W:xY}{fn x n:Str}{fp cp ep np hp pos:Pos}{a:xz}{es:List xz}{ta:TA}{sp:Sp}{k i:Nat}{fd:xj}{ps:List Str}{b₀:xA}{suite:List xA}{th:TS}
def takes(K:za)(C W:xY):Bool:=Hn K C&&Hn K W&&match K.lookup C with
 |some ⟨_,_,.cls cd,_⟩=>cd.mro.contains (.ref W)
 |_=>uv
end
theorem ZOK:∀n:Nat,n<1000->intS (n:Int):=by
 have h:∀n:Fin 1000,((n.1:Int).natAbs.log2<1920/\(Str.ofString (toString (n.1:Int))).length<=1000):=by decide +kernel
 exact λn b=>h ⟨n,b⟩
def sRz(c f:Str)(t:DA):DS:=λS G=>match t S G with
 |.ok ds G1=>(match ds with
  |[.int i]=>if 0<=i/\i<1000 then .err ⟨c,[(f,.int i)]⟩ G1 else .bad
  |[.non]=>.err ⟨c,[(f,.non)]⟩ G1
  |_=>.bad)
 |.err x G1=>.err x G1
 |.bad=>.bad
section
variable{X:Cx}{E:XK}{C fI:xY}{c f v:Str}{np cpos pos:Pos}{a:xz}{t:DA}{k:Nat}{fd:xj}
theorem ZOw(N:zb X.K xT c=uz (uz (.ref C)))(g:X.calm=ux)(U:X.stack=X.env::X.outer)(I:X.ex=[])(y:X.env.frame=uz X.env.locals)(p:∀e s,La X E e s->X.xe e s)
  (Q:XSet X.K C f) (O:Kv X.K C fI=ux) (u:∃o,X.K.lookup fI=uz o/\o.cls=.type "function") (F:FnOk X.prog X.w X.K X.mg X.base CX0 k fI fd ["self",v] (spI C f)) (hr:Room (k+1) X.A) (Y:Binds X.K fd ["self",v] [])
  (T:Gl X c) (hm:X.mg c=uz (.ref C)) (hk:zd X.K (.ref C)=ux) (ha:QA X E [a] t) (J:(c==("__debug__":Str))=uv:=by decide) (m:notStar a=ux:=by rfl):
  QS X E (.Raise (uz (.Call (.Name c np) [a] [] cpos)) uj pos) (sRz c f t):=
 (ZQF g U I y p Q O u F hr Y T hm hk ha J (Hi a [] X.env m) rfl).mono λW σ H h=>by
  obtain⟨w,S,G,hk,rfl,sm,r,h⟩:=h;refine⟨w,S,G,hk,rfl,sm,r,?_⟩;unfold sRz at h;cases M:t S G with
  |err x P=>rw[M]at h;exact h
  |bad=>rw[M]at h;exact h
  | ok ds P=>
   rw[M]at h;dsimp only at h;split at h
   .rename_i i;split at h
    .rename_i O;intro b Z x B q;obtain⟨z,L,rfl,l,n⟩:=q;obtain rfl:z=.int i:=l;obtain rfl:L=[]:=n;refine⟨.int i,rfl,.inl ⟨i,rfl,?_⟩,λd o j=>?_⟩
     .have:=ZOK i.toNat (by lia);rwa[show((i.toNat:Nat):Int)=i by lia]at this
     .refine h.2 (b.put d (.frz o (.xd [(f,.int i)]))) C (uz d) (x.trans (Ext.put j)) (B.put j) ?_ (.inr ⟨d,o,[(f,.int i)],rfl,?_,rfl,?_⟩)
      .show zb b.K _ _=_;rw[x.k,hk];exact N
      .show upd b.H d _ d=_;unfold upd;rw[if_pos rfl]
      .exact⟨.int i,[],rfl,rfl,rfl⟩
    .exact h.elim
   .intro b Z x B q;obtain⟨z,L,rfl,l,n⟩:=q;obtain rfl:z=.non:=l;obtain rfl:L=[]:=n;refine⟨.non,rfl,.inr rfl,λd o j=>?_⟩;refine h.2 (b.put d (.frz o (.xd [(f,.non)]))) C (uz d) (x.trans (Ext.put j)) (B.put j) ?_ (.inr ⟨d,o,[(f,.non)],rfl,?_,rfl,?_⟩)
    .show zb b.K _ _=_;rw[x.k,hk];exact N
    .show upd b.H d _ d=_;unfold upd;rw[if_pos rfl]
    .exact⟨.non,[],rfl,rfl,rfl⟩
   .exact h.elim
end
noncomputable def unnm(i:Nat):SR->SR
 |.nx S G=>.nx (S.set i uj) G
 |.bk S G=>.bk (S.set i uj) G
 |.ct S G=>.ct (S.set i uj) G
 |.rt d G=>.rt d G
 |_=>.bad
theorem RepS.unset(r:RepS a S σ)(i:Nat):RepS a (S.set i uj) (σ.set i uj):=by
 refine⟨by simpa using r.len,λj e b=>?_⟩;rw[qF]at b⊢;by_cases c:i=j
 .subst c;rw[if_pos rfl]at b
  split at b<;>cases b
 .rw[if_neg c]at b⊢;exact r.get j e b
section
variable{X:Cx}{E:XK}{f W:xY}{fn x n:Str}{fp cp ep np hp pos:Pos}{a:xz}{es:List xz}{t:DA}{F:List D->DH->R D}{k i:Nat}{fd:xj}{ps:List Str}{b₀:xA}{suite:List xA}{hb:DS}{ws:List Str}
end
theorem ZSo{P:xk}{w:xC}{K:za}{mg:Str->Option xB}{base:Heap}{x:Str}{st:xA}{f:xY}{fd:xj}{N ps:List Str}{k:Nat}{b:DS}(F:Fun K x qual st f fd)(S:FnScope N ps (Ad st))
  (hbody:∀(cdv:xB)(A:xq)(outer:List Env)(s:x0)(H:Hp)(E:XK),Room k (A.deeper (envOfC qual (Ad st) s.heap.objs.size f cdv))->QSs (G9 (CXx P w) P w K mg base N qual (Ad st) f cdv A outer s H E) E (Dm st) b):
  FnOk P w K mg base (CXx P w) (k+1) f fd ps (lFx K (Al ps.length (N.length-ps.length) b)):=by
 have hlen:∀vs H Q E,lFx K (Al ps.length (N.length-ps.length) b) vs H Q E->vs.length=ps.length:=λvs H Q E h=>by
  obtain⟨a,G,ds,hk,rfl,sm,r,h⟩:=h;unfold Al at h;split at h
  .rename_i hl;rw[<-r.length];exact hl
  .exact h.elim
 obtain⟨oc,od,kV,doc,pm,an,cdv,ct,osl,rfl,lk,hcd⟩:=F.ex;refine ZAB lk hcd S hlen λA outer s H vs Q E hr h=>⟨lS K E b,hbody cdv A outer s H E hr,?_⟩
 have hl:=hlen vs H Q E h;obtain⟨a,G,ds,hk,rfl,sm,r,h⟩:=h;unfold Al at h;split at h
 .have h2:=R9 sm h;refine⟨a,ds.map uz++zZ (N.length-ps.length) uj,G,hk,rfl,sm,Yx r _ _ (by rw[hl]),?_⟩
  revert h2
  cases b (ds.map uz++zZ (N.length-ps.length) uj) G with
  |nx S1 G1=>exact λh2 c σ x s1 _=>h2 c .non x s1 rfl
  |rt d G1=>exact λh2=>h2
  |err e G1=>exact λh2=>h2
  |bk S1 G1=>exact λh2=>h2.elim
  |ct S1 G1=>exact λh2=>h2.elim
  |bad=>exact λh2=>h2
 .exact h.elim
theorem ZST{P:xk}{w:xC}{K:za}{d:Str->Option xB}{b:Heap}{N:List Str}{a:xy}{f:xY}{cd:xB}{A:xq}{outer:List Env}{s:x0}{H:Hp}{E:XK}:
  Passes (CXx P w) (G9 (CXx P w) P w K d b N qual a f cd A outer s H E) E:=λc i g k e j I h=>ZSk rfl rfl rfl I h
theorem ownX{P:xk}{w:xC}{K:za}{c:Str->Option xB}{b:Heap}{N:List Str}{a:xy}{f:xY}{cd:xB}{A:xq}{outer:List Env}{s:x0}{H:Hp}{E:XK}:
  PassesOwn (xU P w) (G9 (CXx P w) P w K c b N qual a f cd A outer s H E).A (G9 (CXx P w) P w K c b N qual a f cd A outer s H E).env (G9 (CXx P w) P w K c b N qual a f cd A outer s H E).xe:=PassesOwn.leaving
section
variable{X:Cx}{E:XK}{x:Str}{p pos:Pos}{e:xz}{es:List xz}{tr:DA}
theorem ZHQ(j:FnOk X.prog X.w X.K X.mg X.base (CXx X.prog X.w) k f fd ps (lFx X.K F))(u:Room k X.A)(l:Gl X x)(o:X.mg x=uz (.ref f))(hk:zd X.K (.ref f)=ux)(m:Binds X.K fd ps [])
  (z:Passes (CXx X.prog X.w) X E) (n:QA X E (e::es) tr) (d:(x==("__debug__":Str))=uv:=by decide) (y:notStar e=ux:=by rfl) (c:es.all notStar=ux:=by rfl):QE X E (.Call (.Name x p) (e::es) [] pos) (dFn F tr):=
 (ZCw j u l o hk m .nil z n d (Hi e es X.env y) (Jb pos X.env es c)).mono λB H Q h=>by obtain⟨a,S,G,hk,rfl,s,r,h⟩:=Oi h;refine⟨a,S,G,hk,rfl,s,r,h.imp ?_⟩;rintro C _ ⟨b,g,t,hk,rfl,v,q,i⟩;exact⟨b,g,t,hk,rfl,v,by rw[qG];exact q,i⟩
end
structure RoomH (k:Nat) (A:xq):Prop where
 dp:A.depth+3*k+5<recursionLimit
 un:A.units+16*k+200<cLine
theorem RoomH.of(r:Room k A):RoomH k A:=⟨r.dp,r.un⟩
theorem RoomH.held(r:RoomH k A):RoomH k (A.mark v):=⟨r.dp,r.un⟩
section
variable{X:Cx}{E:XK}{x:Str}{p pos:Pos}{e:xz}{es:List xz}{tr:DA}
end
structure XGet (K:za) (C:xY):Prop where
 ga:zc K (.ref C) "__getattribute__"=uz (uz (.builtin "BaseException.__getattribute__"))
 gn:zc K (.ref C) "__getattr__"=uz uj
 sb:uV K (.ref C) (.type "BaseException")=uz ux
 hd:qc K C=ux
 cl:zc K (.ref C) "__class__"=uz (uz (.builtin "object.__class__"))
 cg:vN K (.builtin "object.__class__") "__get__"=uz (uz (.builtin "getset_descriptor.__get__"))
 ct:PySem.W.takesIn K (.builtin "object.__class__")=uz ux
 mo:PySem.W.mroIn K C (.type "object")=uz ux
 kc:PySem.W.kitCls K (.ref C) (.ref C)=uz ux
 ec:Hn K C=ux
section
variable{prog:xk}{w:xC}{A:xq}{E:xB->x0->Prop}{s:x0}{K:za}{x C:xY}{ox:Obj}{od:Option Obj}{name:Str}{tk:Tok}
theorem ZV6(X:K.In s.heap)(I:qb s.heap x ox C od)(e:uV K (.ref C) (.type "BaseException")=uz ux)(c:Q () s):
  vW M A (xM "BaseException.__getattribute__" ⟨[.ref x,nameV],[]⟩) Q E s:=by
 have hk:builtinKind "BaseException.__getattribute__"=uz .slot:=by decide +kernel
 have a:splitId "BaseException.__getattribute__"=uz ("BaseException","__getattribute__"):=by decide +kernel
 have b:PySem.W.Looks M s.heap (isInstance (.ref x) (.type "BaseException")) ux:=(I.type).andThen (PySem.W.looks_subIn X e);obtain⟨h,g,d,t,f⟩:=s;simp only[xM,hk,a];refine vY (b.at ?_)
 repeat (first|wp_step)
 exact c
theorem ZMK{c a:Bool}{Q:xB->x0->Prop}(X:K.In s.heap)(I:qb s.heap x ox C od)(G:XGet K C)
  (h:∀f,vW (xU prog w) f (Builtin.«object.__getattribute__» ⟨[.ref x,.str name tk],[]⟩) (λb s'=>match b with | .done (.ret v)=>je v=ux/\Q v s'|_=>False) (λ_ _=>False) s):
  vW (xU prog w) A (getAttrBy (.ref x) (.str name tk) c a) Q E s:=by
 have e:(a&&onTheHeap (Value.builtin "BaseException.__getattribute__"))=uv:=by cases a<;>rfl
 obtain⟨j,g,d,t,i⟩:=s;unfold getAttrBy;refine vx (vY ((I.type (M:=xU prog w)).at (vY ((vC (M:=xU prog w) X G.ga).at ?_))));dsimp only;rw[show(onTheHeap (Value.ref C)&&Value.builtin "BaseException.__getattribute__"==Value.builtin "object.__getattribute__")=uv by rw[show(Value.builtin "BaseException.__getattribute__"==Value.builtin "object.__getattribute__")=uv by decide +kernel];rfl]
 simp only[j3,if_false];unfold getAttrByItsOwn;refine vY ((vC (M:=xU prog w) X G.gn).at ?_);refine vY (wpAny_attempt (vx ?_));unfold callGetattribute;rw[e];simp only[j3,if_false];unfold boundAndCalled;rw[F.excAttr_ValueError.ga.bind (.ref x)];refine vY (v4 ?_);refine wpAny_call (codeAny_call_builtin F.excAttr_ValueError.ga.plain F.entry_bexc_ga (ZV6 X I G.sb (vv (h _) (λb s' z=>?_) λ_ _ z=>z.elim)))
 rcases b with(_|_|_|_)|_<;>first|exact z.elim|exact PySem.W.handed_on z.1 z.2
theorem ZRh{b a:Bool}{v:xB}{Q:xB->x0->Prop}(X:K.In s.heap)(I:qb s.heap x ox C od)(G:XGet K C)(e:PySem.W.findObj K C od name=uz (.value v))(c:je v=ux)(h:Q v s):
  vW (xU prog w) A (getAttrBy (.ref x) (.str name tk) b a) Q E s:=by
 refine ZMK X I G λj=>?_
 obtain⟨i,g,d,t,f⟩:=s;refine vY (v4 (vY (v4 (vY ((I.type (M:=xU prog w)).at (vY ((PySem.W.looks_find (M:=xU prog w) X I e).at ?_)))))));exact v4 ⟨c,h⟩
end
def gtx(cs:List Str)(f:Str)(x:D)(G:DH):R D:=match x with
 | .ref i=>(match G[i]? with
  |some (.exc c (p::r))=>if c∈cs then(match(p::r).lookup f with
   |some d=>.ok d G
   |none=>.bad)else .bad
  |_=>.bad)
 |_=>.bad
def HeldAt(H:Hp)(x:V)(C:xY)(us:List (Str×V)):Prop:=∃a oe u vs dx o,x=.ref a/\H a=uz (.frz oe u)/\oe.cls=.ref C/\oe.data=.fields vs/\oe.dict=uz dx/\H dx=uz (.frz o (.xd us))
theorem Sim.exc(s:Sim b G)(r:Rep b (.ref i) v)(h:G[i]?=uz (.exc c (p::fs))):∃C us,zb b.K xT c=uz (uz (.ref C))/\HeldAt b.H v C us/\RepF b (p::fs) us:=by
 obtain⟨_,d⟩:=r;obtain⟨C,a,u,j,n,e,k,m,z⟩:=s.obj i _ h;rcases z with⟨z,_⟩|⟨g,o,us,q,w,l⟩
 .cases z
 .exact⟨C,us,n,⟨_,a,u,j,g,o,d,e,k,m,q,w⟩,l⟩
section
variable{X:Cx}{E:XK}{vA:List (xY×Obj)}{σ:St}{H:Hp}{s:x0}
theorem ZTK(I:Inv X vA σ H s)(h:HeldAt H x C us):∃(a:xY)(c od:Obj)(b:Str->Option xB),x=.ref a/\qb s.heap a c C (uz od)/\(∀name,qf name od=uz (b name))/\∀f,RelO (us.lookup f) (b f):=by
 obtain⟨a,c,u,w,k,o,rfl,l,m,n,g,r⟩:=h;obtain⟨j,_⟩:=(I.hok a _ l);obtain⟨y,b,i,q⟩:=(I.hok k _ r);obtain⟨od,v,d⟩:=ZEl i;refine⟨a,c,od,b,rfl,⟨j,m,?_,?_⟩,d,q⟩
 .unfold PySem.W.notCls;rw[n]
 .rw[g];exact v
variable{e ce:xz}{ces:List xz}{t:DE}{tb:List (Str×Bool)}{cv:V}{cu:xB}{cvs:List V}{cus:List xB}{p pos tp:Pos}
variable{f:Str}{cs:List Str}
noncomputable def tXf(K:za)(ta:TE)(f:Str):TE:=λσ H Q=>ta σ H λx H1=>∃C us v,HeldAt H1 x C us/\XGet K C/\NoAttr K C f/\us.lookup f=uz v/\Q v H1
theorem ZS4(r:PE X e ta)(m:xE e f X.env (eval e X.env)=eval e X.env):PE X (.Attribute e f pos) (tXf X.K ta f):=by intro b s A H Q I h;refine ZD8 m (thn (r b s A H _ I h) λu o ⟨x,j,c,k,C,P,v,B,G,n,l,q⟩=>?_);obtain⟨a,L,O,F,rfl,J,z,y⟩:=ZTK c B;cases(k);obtain⟨M,w,i⟩:=RelO.some_of (by rw[<-l];exact y f);obtain⟨N,g,d,t,S⟩:=o;unfold getAttr;refine vY (wpAny_mkText ?_);exact ZRh c.kIn J G (vT G.hd n rfl (by rw[z,w])) (ZGq i) ⟨v,j,c.tok _,i,q⟩
theorem ZKV(J:QE X E e t)(j:∀c∈cs,∀C,zb X.K xT c=uz (uz (.ref C))->XGet X.K C/\NoAttr X.K C f)(o:xE e f X.env (eval e X.env)=eval e X.env:=by rfl):
  QE X E (.Attribute e f pos) (dUn (gtx cs f) t):=
 (ZS4 J o).mono λT H Q h=>by
  obtain⟨a,S,G,hk,rfl,s,r,h⟩:=h;refine⟨a,S,G,hk,rfl,s,r,(Dw h).imp ?_⟩;rintro v _ ⟨b,d,N,rfl,x,l,q,-,g⟩;unfold gtx at g;split at g
  .rename_i i;split at g
   .rename_i c P fs I;split at g
    .rename_i w;split at g
     .rename_i O A;obtain⟨C,F,n,M,z⟩:=l.exc q I;obtain⟨m,L⟩:=j c w C (by rw[<-hk,<-x.k];exact n);obtain⟨u,B,y⟩:=z.look A;exact⟨C,F,u,M,m,L,B,g b u (Ext.refl b) l y⟩
     .exact g.elim
    .exact g.elim
   .exact g.elim
  .exact g.elim
end
end _D
namespace _D
open PySem PySem.Spec PySem.W _L
open PyProof.Rows hiding St
theorem Vj{r:Option (Option xB)}{n:String}(h:isB r n=ux):r=uz (uz (.builtin n)):=by
 unfold isB at h;split at h
 .rw[beq_iff_eq.mp h]
 .cases h
theorem Vd{r:Option Bool}{b:Bool}(h:Lq r b=ux):r=uz b:=by
 unfold Lq at h;split at h
 .rw[beq_iff_eq.mp h]
 .cases h
theorem ZIJ{d:Type}{r:Option (Option d)}(h:U0 r=ux):r=uz uj:=by
 unfold U0 at h;split at h
 .rfl
 .cases h
structure ET (K:v7) (mg:Str->Option xB) (c f:Str):Prop where
 N:nsIn K xT c=uz (uz (.ref (Ab K c)))
 g:mg c=uz (.ref (Ab K c))
 k:keepIn K (.ref (Ab K c))=ux
 X:XSet K (Ab K c) f
 i:Kv K (Ab K c) (Di K (Ab K c) "__init__")=ux
 o:∃o,K.lookup (Di K (Ab K c) "__init__")=uz o/\o.cls=.type "function"
 G:XGet K (Ab K c)
 no:NoAttr K (Ab K c) f
theorem ZVm{K:v7}{a:xY}(h:Yu K a=ux):∃o,K.lookup a=uz o/\o.cls=.type "function":=by
 unfold Yu at h;split at h
 .rename_i t _ _ _ e;exact⟨_,e,by rw[beq_iff_eq.mp h]⟩
 .cases h
theorem ZWD{K:v7}{h:Heap}{l:Str->Option xB}{c f:Str}(X:K.In h)(G:h.Ns xT l)(s:Z3 c f K=ux):ET K l c f:=by simp only[Z3,z5]at s;obtain⟨⟨⟨⟨⟨⟨g,r⟩,⟨⟨⟨m,H⟩,w⟩,L⟩,i⟩,y⟩,A⟩,⟨⟨⟨⟨⟨⟨u,M⟩,B⟩,J⟩,z⟩,I⟩,o⟩,C⟩,d⟩:=s;exact⟨K3 g,mg_of X G (K3 g),r,⟨m,ZDL H,w,ZIJ L,i⟩,y,ZVm A,⟨Vj u,ZIJ M,Vd B,i,Vj J,Vj z,Vd I,Vd o,Vd C,m⟩,ZIC d⟩
theorem ZOq(h:Yp r n=ux):r=uz (.val (.builtin n)):=by
 unfold Yp at h;split at h
 .rw[beq_iff_eq.mp h]
 .cases h
theorem ZNp{K:v7}{h:Heap}{d:Str->Option xB}{x:Str}(X:K.In h)(G:h.Ns xT d)(s:Wq x K=ux):XBase K d x (Ab K x):=by simp only[Wq,z5]at s;obtain⟨⟨⟨g,i⟩,l⟩,m⟩:=s;exact⟨mg_of X G (K3 g),Vj i,l,ZOq m⟩
theorem ZVI{K:v7}{h:Heap}{d:Str->Option xB}{x:Str}(X:K.In h)(G:h.Ns xT d)(s:gOk K x=ux):d x=uz (.ref (Ab K x)):=mg_of X G (K3 s)
abbrev FnX(P:xk)(w:xC)(K:v7)(mg:Str->Option xB)(base:Heap)(k:Nat)(n:Str)(ps:List Str)(F:List D->DH->R D):Prop:=FnOk P w K mg base (CXx P w) k (Ab K n) (An K (Ab K n)) ps (lFx K F)
theorem ZHG:Passes (CXx X.prog X.w) X E0:=λd g H s e i I h=>by obtain⟨_,_,_,_,_,_,_,_,_,_,_,_,_,z,_⟩:=h;exact z.elim
section
variable{X:Cx}{E:XK}{c x n f v:Str}{e a:xz}{es:List xz}{t:DE}{tr:DA}{p q pos cpos np:Pos}{b:Bool}{F:List D->DH->R D}{k j:Nat}{ps:List Str}{st:xA}
theorem ZLS(T:ET X.K X.mg c f)(h:QE X E e t)(g:xE e f X.env (eval e X.env)=eval e X.env:=by rfl):QE X E (.Attribute e f pos) (dUn (gtx [c] f) t):=
 ZKV h (λl i C d=>by cases qH.mp i;rw[T.N]at d;cases d;exact⟨T.G,T.no⟩) g
theorem ZNT(T:ET X.K X.mg c f)(C:FnOk X.prog X.w X.K X.mg X.base CX0 k (Di X.K (Ab X.K c) "__init__") (An X.K (Di X.K (Ab X.K c) "__init__")) ["self",v] (spI (Ab X.K c) f))(I:Binds X.K (An X.K (Di X.K (Ab X.K c) "__init__")) ["self",v] [])(L:Room j X.A)(J:QA X E [a] tr)
  (y:∀e s,La X E e s->X.xe e s:=by exact λ_ _ h=>h) (z:Nat.ble (k+1) j=ux:=by rfl) (d:X.calm=ux:=by rfl) (H:X.stack=X.env::X.outer:=by rfl) (m:X.ex=[]:=by rfl) (r:X.env.frame=uz X.env.locals:=by rfl) (B:Gl X c:=by rfl) (u:(c==("__debug__":Str))=uv:=by decide) (l:notStar a=ux:=by rfl):
  QS X E (.Raise (uz (.Call (.Name c np) [a] [] cpos)) uj pos) (sRz c f tr):=
 ZOw T.N d H m r y T.X T.i T.o C (L.mono (jv z)) I B T.g T.k J u l
end
noncomputable def SR.nr:SR->SR
 |.err _ _=>.bad
 |r=>r
def sNr(t:DS):DS:=λS G=>(t S G).nr
@[simp]theorem ev_sNr:sNr t S G=(t S G).nr:=id rfl
@[simp]theorem nr_nx:(SR.nx S G).nr=.nx S G:=id rfl
@[simp]theorem nr_rt:(SR.rt d G).nr=.rt d G:=id rfl
theorem ZMb{K:v7}{E:XK}{t:DS}{W:Ends}{e:St}{H:Hp}(h:lS K E (sNr t) W e H):lS K E0 t W e H:=by
 obtain⟨a,S,G,hk,rfl,f,r,h⟩:=h;refine⟨a,S,G,hk,rfl,f,r,?_⟩;unfold sNr at h
 revert h
 cases t S G with
 |err x b=>exact λh=>h.elim
 |nx c b=>exact λh=>h
 |bk c b=>exact λh=>h
 |ct c b=>exact λh=>h
 |rt d b=>exact λh=>h
 |bad=>exact λh=>h
theorem ZMO(h:QS X E0 s t):QS X E s (sNr t):=PS.mono h λ_ _ _ z=>ZMb z
end _D
namespace _D
open PySem PySem.Spec _L
open PyProof.Rows hiding St
def Kq(G:DH)(d:D):List D->Option (List Bool)
 |[]=>uz []
 |x::r=>match eqD 30 G x d,Kq G d r with
  |some k,uz ks=>uz (k::ks)
  |_,_=>uj
def inE(d e:D)(G:DH):Option Bool:=match Bd e G with
 |some xs=>(Kq G d xs).map λks=>ks.any id
 |none=>uj
def Kh(d e:D)(G:DH):R D:=match inE d e G with
 |some k=>.ok (.bl (!k)) G
 |none=>.bad
section
variable{X:Cx}{E:XK}{vA:List (xY×Obj)}{σ:St}{s:x0}
theorem Wy(I:Inv X vA σ a.H s)(hk:a.K=X.K)(j:Sim a G)(e:A.units+30<cLine)(c:Rep a d x)(g:RelV x v):
  ∀{xs:List D}{vs:List V}{its:List xB}{ks:List Bool},Reps a xs vs->Vals vs its->Kq G d xs=uz ks->ks.length=its.length/\∀(i:Nat)(u:xB)(k:Bool),its[i]?=uz u->ks[i]?=uz k->SeqAt.EqAt A s u v k
 |[],vs,its,ks,r,q,h=>by obtain rfl:vs=[]:=r;cases q;cases h;exact⟨rfl,λi u k h=>by simp at h⟩
 | y::L,vs,its,ks,r,q,h=>by
  obtain⟨w,J,rfl,t,o⟩:=r;cases q with
  | cons p z=>
   unfold Kq at h;split at h
   .rename_i k F l n;cases h;obtain⟨m,C⟩:=Wy I hk j e c g o z n;refine⟨by simp[m],λi u B f b=>?_⟩;cases i with
    |zero=>
     cases f;cases b;exact(Qd I hk j 30 e t c p g l).1
    |succ i=>exact C i u B (by simpa using f) (by simpa using b)
   .cases h
open Classical in
theorem ZFD{A:xq}{v:xB}{its:List xB}{ks:List Bool}(t:ks.length=its.length)(f:∀(i:Nat)(u:xB)(k:Bool),its[i]?=uz u->ks[i]?=uz k->SeqAt.EqAt A s u v k):
  ∃e:xB->Bool,(∀y,y∈its.toArray->SeqAt.EqAt A s y v (e y))/\its.toArray.any e=ks.any id:=by
 refine⟨λu=>decide (∃i:Nat,its[i]?=uz u/\ks[i]?=uz ux),λy o=>?_,?_⟩
 .obtain⟨j,c,e⟩:=qx (by simpa using o:y∈its);have a:j<ks.length:=by lia
  have g:its[j]?=uz y:=by rw[zJ c,e]
  have l:ks[j]?=uz ks[j]:=zJ a;show SeqAt.EqAt A s y v (decide (∃i:Nat,its[i]?=uz y/\ks[i]?=uz ux));by_cases b:∃i:Nat,its[i]?=uz y/\ks[i]?=uz ux
  .rw[decide_eq_true b];obtain⟨i,r,d⟩:=b;exact f i y ux r d
  .rw[decide_eq_false b];cases hk:ks[j]with
   |true=>exact absurd ⟨j,g,by rw[l,hk]⟩ b
   |false=>exact f j y uv g (by rw[l,hk])
 .rw[Bool.eq_iff_iff];constructor
  .intro h;have p:its.any (λu=>decide (∃i:Nat,its[i]?=uz u/\ks[i]?=uz ux))=ux:=by simpa using h
   obtain⟨u,_,m⟩:=jT.mp p;obtain⟨i,_,d⟩:=of_decide_eq_true m;exact jT.mpr ⟨ux,xZ d,rfl⟩
  .intro h;obtain⟨k,hk,e⟩:=jT.mp h;obtain⟨j,c,q⟩:=qx hk;have a:j<its.length:=by lia
   have n:k=ux:=e;have:its.any (λu=>decide (∃i:Nat,its[i]?=uz u/\ks[i]?=uz ux))=ux:=jT.mpr ⟨its[j],qw a,decide_eq_true ⟨j,zJ a,by rw[zJ c,q,n]⟩⟩;simpa using this
theorem ZLz(i:Sim a G)(j:Rep a e y)(h:inE d e G=uz k):∃xs ks p vs,y=.ref p/\(SqL a.K a.H p vs∨SqT a.K a.H p vs)/\Reps a xs vs/\Kq G d xs=uz ks/\k=ks.any id:=by
 unfold inE at h;split at h
 .rename_i xs b;rw[zD]at h;obtain⟨ks,f,g⟩:=h;obtain⟨p,vs,c,q,r⟩:=Ie i j b;exact⟨xs,ks,p,vs,c,q,r,f,g.symm⟩
 .cases h
theorem ZPY(S:X.A.units+64<cLine):OpR X (xO .NotIn) (lR2 X.K E Kh):=by
 intro g s O H x y v u Q I B P ⟨a,G,d,e,hk,L,i,C,J,q⟩;subst L;unfold Kh at q;split at q
 .rename_i k N;obtain⟨U,F,p,T,rfl,b,r,z,rfl⟩:=ZLz i J N;cases P;have h:X.A.in1.units+30<cLine:=by show X.A.units+1+30<cLine;lia
  rw[hk]at b;have c:EP X g O Q (.bool (!F.any id)) s:=⟨.bl _,a.H,I,rfl,q a _ (Ext.refl a) i rfl⟩;rcases b with b|b
  .obtain⟨t,o,l,M⟩:=I.list b;obtain⟨n,w⟩:=Wy I hk i h C B r o z;obtain⟨f,j,m⟩:=ZFD n w;exact wK f l.isList j (by rw[m];exact c)
  .obtain⟨t,o,l,M⟩:=I.tuple b;obtain⟨n,w⟩:=Wy I hk i h C B r o z;obtain⟨f,j,m⟩:=ZFD n w;exact wq f l j (by rw[m];exact c)
 .exact q.elim
def Mf(o:D)(ds:List D)(G:DH):R D:=match o,ds with
 |.ref i,[.ref j]=>match G[i]?,G[j]? with
  |some (.lst xs),uz (.lst ys)=>if xs.length+ys.length<=1000000 then .ok .non (G.set i (.lst (xs++ys)))else .bad
  |_,_=>.bad
 |_,_=>.bad
theorem ZTr:MtM X "list.extend" (lRm X.K E Mf):=ZRa.mono λx A H Q h=>by
 obtain⟨a,G,d,z,hk,rfl,s,b,r,q⟩:=h;unfold Mf at q;split at q
 .rename_i i j;obtain⟨v,rfl,p⟩:=reps1 r;split at q
  .rename_i B y o l;split at q
   .rename_i k;obtain⟨n,c,e⟩:=s.lst o;obtain⟨g,w,f⟩:=s.lst l;obtain⟨t,u⟩:=V3 s b.1 c (e.append f);refine⟨a.m i,a.m j,n,g,b.2,by rw[p.2],c,w,by rw[<-e.length,<-f.length];exact z0 k size6,?_⟩;exact q _ .non t u rfl
   .exact q.elim
  .exact q.elim
 .exact q.elim
end
end _D
namespace _D
open PySem PySem.W PySem.Spec _L
open PyProof.Rows hiding St
structure FunD (K:za) (x qual:Str) (st:xA) (f:xY) (fd:xj):Prop where
 ex:∃(oc:xB)(od:Option xY)(dV kV doc pm:xB)(an:Option xY)(cdv ct:xB)(osl:Array (Option xB)),
  fd=ja x qual (Eo st) (Dm st) (Ad st) dV kV doc pm an cdv ct/\K.lookup f=uz ⟨oc,od,.func fd,osl⟩/\vE K cdv qual=ux
structure FTD (K:v7) (mg:Str->Option xB) (n:Str) (st:xA) (ps:List Str) (v:Int):Prop where
 F:FunD K n n st (Ab K n) (An K (Ab K n))
 b:Binds K (An K (Ab K n)) ps []
 d:∃t,Binds K (An K (Ab K n)) ps [.int v t]
 m:mg n=uz (.ref (Ab K n))
 k:keepIn K (.ref (Ab K n))=ux
theorem ZIY{P:xk}{w:xC}{K:za}{mg:Str->Option xB}{base:Heap}{x qual:Str}{st:xA}{f:xY}{fd:xj}{N ps:List Str}{k:Nat}{b:DS}(F:FunD K x qual st f fd)(S:FnScope N ps (Ad st))
  (hbody:∀(cdv:xB)(A:xq)(outer:List Env)(s:x0)(H:Hp)(E:XK),Room k (A.deeper (envOfC qual (Ad st) s.heap.objs.size f cdv))->QSs (G9 (CXx P w) P w K mg base N qual (Ad st) f cdv A outer s H E) E (Dm st) b):
  FnOk P w K mg base (CXx P w) (k+1) f fd ps (lFx K (Al ps.length (N.length-ps.length) b)):=by
 have hlen:∀vs H Q E,lFx K (Al ps.length (N.length-ps.length) b) vs H Q E->vs.length=ps.length:=λvs H Q E h=>by
  obtain⟨a,G,ds,hk,rfl,sm,r,h⟩:=h;unfold Al at h;split at h
  .rename_i hl;rw[<-r.length];exact hl
  .exact h.elim
 obtain⟨oc,od,dV,kV,doc,pm,an,cdv,ct,osl,rfl,lk,hcd⟩:=F.ex;refine ZAB lk hcd S hlen λA outer s H vs Q E hr h=>⟨lS K E b,hbody cdv A outer s H E hr,?_⟩
 have hl:=hlen vs H Q E h;obtain⟨a,G,ds,hk,rfl,sm,r,h⟩:=h;unfold Al at h;split at h
 .have h2:=R9 sm h;refine⟨a,ds.map uz++zZ (N.length-ps.length) uj,G,hk,rfl,sm,Yx r _ _ (by rw[hl]),?_⟩
  revert h2
  cases b (ds.map uz++zZ (N.length-ps.length) uj) G with
  |nx S1 G1=>exact λh2 c σ x s1 _=>h2 c .non x s1 rfl
  |rt d G1=>exact λh2=>h2
  |err e G1=>exact λh2=>h2
  |bk S1 G1=>exact λh2=>h2.elim
  |ct S1 G1=>exact λh2=>h2.elim
  |bad=>exact λh2=>h2
 .exact h.elim
noncomputable def dfx(v:Int)(F:List D->DH->R D):List D->DH->R D:=λds G=>F (ds++[.int v]) G
section
variable{X:Cx}{E:XK}{x:Str}{p pos:Pos}{e:xz}{es:List xz}{tr:DA}
theorem ZRP(m:FnOk X.prog X.w X.K X.mg X.base (CXx X.prog X.w) k f fd ps (lFx X.K F))(C:Room k X.A)(o:Gl X x)(z:X.mg x=uz (.ref f))(hk:zd X.K (.ref f)=ux)(u:Binds X.K fd ps [.int v t])
  (L:Passes (CXx X.prog X.w) X E) (y:QA X E (e::es) tr) (g:(x==("__debug__":Str))=uv:=by decide) (J:notStar e=ux:=by rfl) (d:es.all notStar=ux:=by rfl):QE X E (.Call (.Name x p) (e::es) [] pos) (dFn (dfx v F) tr):=
 (ZCw m C o z hk u (dvs:=[.int v]) (.cons ⟨t,rfl⟩ .nil) L y g (Hi e es X.env J) (Jb pos X.env es d)).mono λM H Q h=>by obtain⟨a,S,G,hk,rfl,s,r,h⟩:=Oi h;refine⟨a,S,G,hk,rfl,s,r,h.imp ?_⟩;rintro N _ ⟨b,i,B,hk,rfl,I,q,l⟩;exact⟨b,i,B++[D.int v],hk,rfl,I,q.append (Reps.cons rfl Reps.nil),l⟩
end
section
variable{X:Cx}{E:XK}{n:Str}{e:xz}{es:List xz}{tr:DA}{p pos:Pos}{F:List D->DH->R D}{k j:Nat}{ps:List Str}{st:xA}{v:Int}
theorem ZTd(h:FnX X.prog X.w X.K X.mg X.base k n ps F)(T:FTD X.K X.mg n st ps v)(r:Room j X.A)(o:QA X E0 (e::es) tr)(i:Nat.ble k j=ux:=by rfl)(l:Gl X n:=by rfl)(g:(n==("__debug__":Str))=uv:=by decide)(s:notStar e=ux:=by rfl)(d:es.all notStar=ux:=by rfl):
  QE X E0 (.Call (.Name n p) (e::es) [] pos) (dFn F tr):=ZHQ h (r.mono (jv i)) l T.m T.k T.b ZHG o g s d
theorem ZVR(i:FnX X.prog X.w X.K X.mg X.base k n ps F)(T:FTD X.K X.mg n st ps v)(u:Room j X.A)(s:QA X E0 (e::es) tr)(l:Nat.ble k j=ux:=by rfl)(o:Gl X n:=by rfl)(h:(n==("__debug__":Str))=uv:=by decide)(y:notStar e=ux:=by rfl)(g:es.all notStar=ux:=by rfl):
  QE X E0 (.Call (.Name n p) (e::es) [] pos) (dFn (dfx v F) tr):=by
 obtain⟨t,r⟩:=T.d;exact ZRP i (u.mono (jv l)) o T.m T.k r ZHG s h y g
end
section
variable{X:Cx}{E:XK}{c x n f v:Str}{e a:xz}{es:List xz}{t:DE}{tr:DA}{p q pos cpos np:Pos}{b:Bool}{F:List D->DH->R D}{k j:Nat}{ps:List Str}{st:xA}
end
theorem ZH5{K:v7}{h:Heap}{J:Str->Option xB}{n:Str}{st:xA}{ps:List Str}{v:Int}(X:K.In h)(G:h.Ns xT J)(s:Ask.Said K (.fd n st v))
  (M:∀(T:xY)(kV d C:xB)(z:Option xY)(g u:xB)(us:List xB)(t:Tok),us.length=ps.length->∃k,bindArgs (fnOf n n (Eo st) (Dm st) (Ad st) (.ref T) kV d C z g u) ⟨us,[]⟩=seqItems? (.ref T) >>=k/\k (uz #[.int v t])=pure (ps.zip us))
  (O:∀(T:xY)(kV d C:xB)(z:Option xY)(g u:xB)(us:List xB)(t:Tok),us.length+1=ps.length->∃k,bindArgs (fnOf n n (Eo st) (Dm st) (Ad st) (.ref T) kV d C z g u) ⟨us,[]⟩=seqItems? (.ref T) >>=k/\k (uz #[.int v t])=pure (ps.zip (us++[.int v t]))):FTD K J n st ps v:=by
 obtain⟨N,i,P,L,T,o,t,m,y,I,H⟩:=s;have r:An K (Ab K n)=fnOf n n (Eo st) (Dm st) (Ad st) (.ref T) (An K (Ab K n)).kwdefaults (An K (Ab K n)).doc (An K (Ab K n)).pyModule (An K (Ab K n)).annotations (An K (Ab K n)).code (An K (Ab K n)).closureTuple:=by
  rw[<-y]
  conv=>lhs;unfold An G7;rw[i]
 refine⟨⟨_,_,_,_,_,_,_,_,_,_,by rw[y]at i;exact r,by rw[y,<-r]at i;exact i,P⟩,λs us w l=>?_,⟨t,λs us w l=>?_⟩,mg_of X G N,L⟩
 .rw[qG]at l⊢;rw[r];obtain⟨k,A,B⟩:=M T (An K (Ab K n)).kwdefaults (An K (Ab K n)).doc (An K (Ab K n)).pyModule (An K (Ab K n)).annotations (An K (Ab K n)).code (An K (Ab K n)).closureTuple us t l;exact BindsTo.of_defaults rfl (w T o I) H A B
 .rw[r];obtain⟨k,A,B⟩:=O T (An K (Ab K n)).kwdefaults (An K (Ab K n)).doc (An K (Ab K n)).pyModule (An K (Ab K n)).annotations (An K (Ab K n)).code (An K (Ab K n)).closureTuple us t (by simpa using l);exact BindsTo.of_defaults rfl (w T o I) H A B
end _D
namespace _D
open PySem PySem.Spec _L
open PyProof.Rows hiding St
noncomputable def dTc(F:List D->DH->R D)(t:DA):DE:=λS G=>match t S G with
 |.ok ds G1=>F ds G1
 |_=>.bad
def QTe(X:Cx)(e:xz)(t:DE):Prop:=∀(vA:List (xY×Obj))(s:x0)(σ:St)(H:Hp)(Q:VK)(E:XK),Inv X vA σ H s->lE X.K E t σ H Q->
 vW (xU X.prog X.w) X.A (eval e X.env) (EP X vA σ Q) (λe s'=>∃H1 s1,Inv X vA σ H1 s1/\CXx X.prog X.w X.stack H1 s1 E e s') s
def QTr(X:Cx)(b:List xA)(t:DS):Prop:=∀(vA:List (xY×Obj))(s:x0)(σ:St)(H:Hp)(Nx:St->Hp->Prop)(E:XK),Inv X vA σ H s->lS X.K E t {nx:=Nx,rt:=λ_ _=>False} σ H->
 vW (xU X.prog X.w) X.A (execs b X.env) (λfl s'=>fl=.next/\∃σ' H',Inv X vA σ' H' s'/\Nx σ' H') (λe s'=>∃H1 s1,Inv X vA σ H1 s1/\CXx X.prog X.w X.stack H1 s1 E e s') s
section
variable{X:Cx}{f:xY}{fn:Str}{fp cp ep pos:Pos}{a e:xz}{es:List xz}{t:DA}{te:DE}{F:List D->DH->R D}{k:Nat}{fd:xj}{ps:List Str}
theorem ZVo(U:FnOk X.prog X.w X.K X.mg X.base (CXx X.prog X.w) k f fd ps spx)(hr:Room k X.A)(C:Vals dvs dus)(B:Binds X.K fd ps dus)(Y:Gl X fn)(hm:X.mg fn=uz (.ref f))(hk:zd X.K (.ref f)=ux)(ha:QA X.nox E0 (a::es) t)
  (hF:∀(w:Wd)(G:DH)(p:List D)(vs:List V)(Q:VK)(E:XK),w.K=X.K->Sim w G->Reps w p vs->out E w (F p G) Q->spx (vs++dvs) w.H Q E)
  (J:(fn==("__debug__":Str))=uv) (he:vX (a::es) X.env=(uv,eval a X.env)::vX es X.env) (L:(xF cp (vX es X.env)).any (·.1)=uv):
  QTe X (.Call (.Name fn fp) (a::es) [] cp) (dTc F t):=by
 intro l s T H Z E I h;have h':lA X.K E0 t T H λvs o=>spx (vs++dvs) o Z E:=by
  obtain⟨w,S,G,d,rfl,sm,r,h⟩:=h;refine⟨w,S,G,d,rfl,sm,r,?_⟩;unfold dTc at h;cases M:t S G with
  |err x N=>rw[M]at h;exact h.elim
  |bad=>rw[M]at h;exact h
  |ok p N=>
   rw[M]at h;exact λb vs y j q=>hF b N p vs _ E (y.k.trans d) j q (out.mono y h)
 refine vK (K6 I Y hm ?_ J);refine qh I.ok.mod.kin hk (vv (ha cp l s T H _ (I.wish _) h') (λv j ⟨vs,o,P,r,q⟩=>⟨P.kIn,?_⟩) λ_ _ z=>z.elim) he L;have c:=P.unwish;have O:=r.append C;have m:(v++dus).length=ps.length:=by rw[<-O.length];exact U.len _ _ _ _ q
 refine wpAny_call (xN (U.run X.A X.stack j o ⟨v,[]⟩ (v++dus) (vs++dvs) _ E hr c.env0 (B j v c.kIn m) O q) λr s' g=>?_);cases r with
 |ok fl=>
  cases fl with
  |next=>exact False.elim g
  |brk=>exact False.elim g
  |cont=>exact False.elim g
  |ret u=>exact c.after g
 |error e=>exact⟨o,j,c,g⟩
theorem ZKi(L:QTe X e te)(j:swapsWith e uj ep.line X.env=pure uv:=by rfl):QTr X [.Expr e ep] (sEx te):=by
 intro g s c H C E I h;obtain⟨w,S,G,l,rfl,J,r,h⟩:=h;have M:lE X.K E te c w.H λ_ z=>C c z:=by
  refine⟨w,S,G,l,rfl,J,r,?_⟩;unfold sEx at h;cases m:te S G with
  |err x A=>rw[m]at h;exact h
  |bad=>rw[m]at h;exact h
  |ok d A=>rw[m]at h;exact λb v y o q=>h b c y o (r.mono y)
 exact wpAny_execs_cons (wpAny_Expr_any (thn (L g s c w.H _ E I M) λu o ⟨v,p,B,_,q⟩=>wpAny_execs_nil ⟨rfl,c,p,B,q⟩) I.quiet j)
theorem ZMl(i:Nat){x:Str}{c:Pos}(L:X.N.Nodup)(C:QTe X e te)(P:X.N[i]?=uz x:=by rfl)(U:Loc X.env.scope x:=by first|exact Or.inl rfl|exact Or.inr rfl)(A:swapsWith e (uz (.Name x c)) pos.line X.env=pure uv:=by rfl)
  (p:X.fn x=ux∨X.env.scope.names.lookup x=uz .local:=by first|exact .inl rfl|exact .inr rfl|assumption):QTr X [.Assign [.Name x c] e pos] (sAs te (gV i)):=by
 intro g s l H B E I h;obtain⟨w,S,G,j,rfl,T,r,h⟩:=h;have O:lE X.K E te l w.H λv J=>B (l.set i (uz v)) J:=by refine⟨w,S,G,j,rfl,T,r,(Fp h).imp ?_⟩;rintro v _ ⟨b,d,Y,rfl,x,m,q,_,z⟩;exact z b _ (Ext.refl b) m ((r.mono x).set i q)
 exact wpAny_execs_cons (wpAny_Assign_Name (thn (C g s l w.H _ E I O) λu m ⟨v,o,y,M,q⟩=>Qu y L P U M (λZ Q=>wpAny_execs_nil ⟨rfl,_,o,Q,q⟩) p) A)
end
noncomputable abbrev DHn:=Xn->DSt->DH->SR
def QH(X:Cx)(hs:List ExceptHandler)(f:DHn):Prop:=∀(vA:List (xY×Obj))(s:x0)(σ:St)(H':Hp)(W:Ends)(ea C:xY)(oe:Obj)(vs:Array xB)(x:Xn)(w:Wd)(S:DSt)(G:DH)(E:XK),
 s.heap.get? ea=uz oe->oe.cls=.ref C->oe.data=.fields vs->H' ea=uj->Inv X vA σ (upd H' ea (.frz oe (.own 0))) s->(∃B:Heap,Trc s.heap B ea (.ref C) oe.dict .none)->
 w.K=X.K->w.H=H'->Sim w G->RepS w S σ->zb w.K xT x.cls=uz (uz (.ref C))->XD w oe.dict x.fs->Bm E w (f x S G) W->
 vW (xU X.prog X.w) X.A (handleBy (.ref ea) X.env hs) (SP X vA W) X.xe s
noncomputable def W5:DHn:=λ_ _ _=>.bad
theorem ZE0:QH X [] W5:=λb s d c W g C l j x w S G E _ _ _ _ _ _ _ _ _ _ _ _ h=>h.elim
def Qw(ws ns:List Str)(i:Nat)(hb:DS)(f:DHn):DHn:=λx S G=>if x.cls∈ws then unnm i (hb (S.set i (uz (.ref G.length))) (G++[.exc x.cls x.fs]))else if x.cls∈ns then f x S G else .bad
theorem Sh{X:Cx}{vA:List (xY×Obj)}{Y:St}{H:Hp}{s:x0}{m C W:xY}{u:Obj}{x:Str}{I hp:Pos}{b:Bool}{R:Result->x0->Prop}(ho:s.heap.get? m=uz u)(O:u.cls=.ref C)(J:Inv X vA Y H s)(j:Gl X x)(g:X.mg x=uz (.ref W))(h:(x==("__debug__":Str))=uv)
  (r:Hv X.K C W b=ux) (q:R (.ok (if b then .brk else .next)) s):codeAny (xU X.prog X.w) (X.A.mark (uz (.ref m))) (.handlers (.ref m) [.ExceptHandler (uz (.Name x I)) uj [] hp] X.env) R s:=by
 unfold Hv at r;simp only[z5]at r;obtain⟨⟨t1,Q⟩,p⟩:=r;obtain⟨z,N,nm,qn,bs,sn,sub,ab,Z,dd,k0,k1,k2,k3,k5,d,T,_⟩:=Ox J.kIn t1;obtain⟨S,N',nm',qn',L,P,y,M,v,B,l0,l1,l2,l3,l5,c,E,_⟩:=Ox J.kIn Q;have o:(Value.ref C::z).contains (.ref W)=b:=by
  split at p
  .rename_i c0 d0 cd U l;have:=J.kIn _ _ l;rw[d]at this;cases this;exact eq_of_beq p
  .cases p
 refine codeAny_handlers_test (K6 (ZA4 J) j g ?_ h);exact ZQM d c ho O (E.hasType PySem.F.excBase_ValueError.hasBase) o q
section
variable{X:Cx}{W:xY}{x n:Str}{np hp pos:Pos}{i:Nat}{b₀:xA}{suite:List xA}{hb:DS}{ws ns:List Str}{hs:List ExceptHandler}{f:DHn}
theorem ZPf(d:X.calm=ux)(hgx:Gl X x)(T:X.mg x=uz (.ref W))(Z:X.N.Nodup)(hi:X.N[i]?=uz n)(Q:X.env.kindOf n=uz .local)
  (hws:∀c∈ws,∀C,zb X.K xT c=uz (uz (.ref C))->Hv X.K C W ux=ux) (hns:∀c∈ns,∀C,zb X.K xT c=uz (uz (.ref C))->Hv X.K C W uv=ux)
  (hh:∀o,QSs (Il X o) E0 (b₀::suite) hb) (hr:QH X hs f) (hdx:(x==("__debug__":Str))=uv:=by decide):
  QH X (.ExceptHandler (uz (.Name x np)) (uz n) (b₀::suite) hp::hs) (Qw ws ns i hb f):=by
 intro y s σ H' D o C Y vs xn w S G E ho hc U fe J tr p hH sm r hn hx h;subst hH;have b:=J.ok.hd d;unfold Qw at h;split at h
 .rename_i hw;refine wpAny_handleBy_cons (Sh ho hc J hgx T hdx (hws _ hw C (by rw[<-p];exact hn)) ?_) (by intro q;cases q);obtain⟨B,tr⟩:=tr;refine codeAny_handlers_suite_as (ZDD tr λh3 kp=>?_);refine Qu (J.kept (h':=h3) (t':=s.toks) kp) Z hi (.inl Q) (v:=.ref o) rfl (λs4 I4=>?_) (.inr Q);have P:=Ext.push (ho:=.frz Y (.own 0)) fe;have run:lS X.K E0 hb {nx:=λg j=>D.nx (g.set i uj) j,rt:=D.rt,bk:=λg j=>D.bk (g.set i uj) j,ct:=λg j=>D.ct (g.set i uj) j} (σ.set i (uz (.ref o))) (upd w.H o (.frz Y (.own 0))):=by
   refine⟨w.push o (.frz Y (.own 0)),S.set i (uz (.ref G.length)),G++[.exc xn.cls xn.fs],p,rfl,?_,?_,?_⟩
   .exact sm.push fe ⟨C,Y,.own 0,vs,hn,rfl,hc,U,hx.mono P⟩
   .refine(r.mono P).set i ⟨?_,?_⟩
    .rw[sm.len];exact qJ _
    .show V.ref o=V.ref (if G.length=w.n then o else w.m G.length);rw[if_pos sm.len]
   .revert h
    cases hb (S.set i (uz (.ref G.length))) (G++[.exc xn.cls xn.fs])with
    |nx S3 G3=>exact λh c σ3 I O A=>h c _ (P.trans I) O (A.unset i)
    |bk S3 G3=>exact λh c σ3 I O A=>h c _ (P.trans I) O (A.unset i)
    |ct S3 G3=>exact λh c σ3 I O A=>h c _ (P.trans I) O (A.unset i)
    |rt d3 G3=>exact λh c v3 I O A=>h c v3 (P.trans I) O A
    |err x3 G3=>exact λh=>h.elim
    |bad=>exact λh=>h.elim
  refine vv (hh o y s4 _ _ _ (ZA4 I4) run) (λfl s5 l=>?_) λ_ _ z=>z.elim
  cases fl with
  |next=>
   obtain⟨g,j,M,l⟩:=l;exact Te (Jd (calm:=d) b M) Z hi Q λs6 L=>⟨_,j,L,l⟩
  |brk=>
   obtain⟨g,j,M,l⟩:=l;exact Te (Jd (calm:=d) b M) Z hi Q λs6 L=>⟨_,j,L,l⟩
  |cont=>
   obtain⟨g,j,M,l⟩:=l;exact Te (Jd (calm:=d) b M) Z hi Q λs6 L=>⟨_,j,L,l⟩
  |ret u=>
   obtain⟨v,g,j,M,rv,l⟩:=l;exact Te (Jd (calm:=d) b M) Z hi Q λs6 L=>⟨v,_,j,L,rv,l⟩
 .split at h
  .rename_i hw;refine wpAny_handleBy_cons (Sh ho hc J hgx T hdx (hns _ hw C (by rw[<-p];exact hn)) ?_) (by intro q;cases q);exact hr y s σ w.H D o C Y vs xn w S G E ho hc U fe J tr p rfl sm r hn hx h
  .exact h.elim
end
def Pn(ws ns:List Str)(hb:DS)(f:DHn):DHn:=λx S G=>if x.cls∈ws then(hb S G).nr else if x.cls∈ns then f x S G else .bad
section
variable{X:Cx}{W:xY}{x:Str}{np hp pos:Pos}{b₀:xA}{suite:List xA}{hb:DS}{ws ns:List Str}{hs:List ExceptHandler}{f:DHn}
theorem ZOH(d:X.calm=ux)(P:Gl X x)(M:X.mg x=uz (.ref W))
  (hws:∀c∈ws,∀C,zb X.K xT c=uz (uz (.ref C))->Hv X.K C W ux=ux) (hns:∀c∈ns,∀C,zb X.K xT c=uz (uz (.ref C))->Hv X.K C W uv=ux)
  (hh:∀L,QSs (Il X L) E0 (b₀::suite) hb) (hr:QH X hs f) (O:(x==("__debug__":Str))=uv:=by decide):
  QH X (.ExceptHandler (uz (.Name x np)) uj (b₀::suite) hp::hs) (Pn ws ns hb f):=by
 intro m s σ H' D L C U vs xn w S G E Y hc hda fe J tr l hH sm r Z hx h;subst hH;have b:=J.ok.hd d;unfold Pn at h;split at h
 .rename_i hw;refine wpAny_handleBy_cons (Sh Y hc J P M O (hws _ hw C (by rw[<-l];exact Z)) ?_) (by intro q;cases q);obtain⟨B,tr⟩:=tr;refine codeAny_handlers_suite (ZDD tr λh3 kp=>?_);have N:=Ext.put (ho:=.frz U (.own 0)) fe;have run:lS X.K E0 hb D σ (upd w.H L (.frz U (.own 0))):=by
   refine⟨w.put L (.frz U (.own 0)),S,G,l,rfl,sm.put fe,r.mono N,?_⟩
   revert h
   cases hb S G with
   |nx S3 T=>exact λh c Q p I o=>h c _ (N.trans p) I o
   |bk S3 T=>exact λh c Q p I o=>h c _ (N.trans p) I o
   |ct S3 T=>exact λh c Q p I o=>h c _ (N.trans p) I o
   |rt d3 T=>exact λh c v3 p I o=>h c v3 (N.trans p) I o
   |err x3 T=>exact λh=>h.elim
   |bad=>exact λh=>h.elim
  refine vv (hh L m _ _ _ _ (ZA4 (J.kept (h':=h3) (t':=s.toks) kp)) run) (λfl s5 j=>?_) λ_ _ z=>z.elim
  cases fl with
  |next=>
   obtain⟨g,y,A,j⟩:=j;exact⟨g,y,Jd (calm:=d) b A,j⟩
  |brk=>
   obtain⟨g,y,A,j⟩:=j;exact⟨g,y,Jd (calm:=d) b A,j⟩
  |cont=>
   obtain⟨g,y,A,j⟩:=j;exact⟨g,y,Jd (calm:=d) b A,j⟩
  |ret u=>
   obtain⟨v,g,y,A,rv,j⟩:=j;exact⟨v,g,y,Jd (calm:=d) b A,rv,j⟩
 .split at h
  .rename_i hw;refine wpAny_handleBy_cons (Sh Y hc J P M O (hns _ hw C (by rw[<-l];exact Z)) ?_) (by intro q;cases q);exact hr m s σ w.H D L C U vs xn w S G E Y hc hda fe J tr l rfl sm r Z hx h
  .exact h.elim
end
noncomputable def Ik(t:DS)(f:DHn):DS:=λS G=>match t S G with
 |.nx S2 G2=>.nx S2 G2
 |.err x G2=>f x S G2
 |_=>.bad
theorem ZKg(v:X.stack=X.env::X.outer)(B:X.env.frame=uz X.env.locals)(hb:QTr X b t)(hh:QH X (h0::hs) f):QS X E (.Try b (h0::hs) [] [] pos) (Ik t f):=by
 intro j s u H D I h;obtain⟨w,S,G,o,rfl,sm,r,h⟩:=h;let E1:XK:=λl Q H'=>l=.none∨∃C x g c,l=.ref C/\zb c.K xT x.cls=uz (uz (.ref C))/\c.K=X.K/\c.H=H'/\Sim c g/\RepS c S u/\XD c Q x.fs/\Bm E c (f x S g) D
 have M:lS X.K E1 t {nx:=D.nx,rt:=λ_ _=>False} u w.H:=by
  refine⟨w,S,G,o,rfl,sm,r,?_⟩;unfold Ik at h;cases m:t S G with
  |bad=>rw[m]at h;exact h
  |bk S2 g=>rw[m]at h;exact h.elim
  |ct S2 g=>rw[m]at h;exact h.elim
  |rt d g=>rw[m]at h;exact h.elim
  |nx S2 g=>rw[m]at h;exact h
  |err xn g=>
   rw[m]at h;refine⟨λz=>?_,λc C Q O p y P=>.inr ⟨C,xn,g,c,rfl,y,O.k.trans o,rfl,p,r.mono O,P,Bm.mono O h⟩⟩;have:=congrFun (congrFun (congrFun z Value.none) uj) w.H;exact cast this (.inl rfl)
 refine wpAny_Try_except (vv (hb j s u w.H _ E1 I M) (λfl s1 ⟨e,T,Z,A,q⟩=>?_) λe s1 ⟨Z,p,A,hq⟩=>?_)
 .subst e;exact wpAny_execs_nil ⟨T,Z,A,q⟩
 .refine lands v B A hq λea C Q H' oe U h'' ee ho hc hd L hE fe J tr Y=>?_
  subst ee;rcases hE with z|⟨C',xn,g,c,z,y,N,hH,p,r2,P,h2⟩
  .obtain⟨C2,z2⟩:=Y;rw[z]at z2;cases z2
  .subst z hd hH;exact hh j _ u c.H D ea C' oe U xn c S g E ho hc L fe J tr N rfl p r2 y P h2
end _D
namespace _D
open PySem PySem.Spec PySem.W _L
open PyProof.Rows hiding St
section
variable{X:Cx}{C:xY}{x:Str}{np cpos pos:Pos}{a:xz}{ta:TA}{E:XK}
end
section
variable{X:Cx}{E:XK}{c x n f v w:Str}{e a:xz}{es:List xz}{t:DE}{tr:DA}{p q pos cpos np fp cp ep hp:Pos}{b:Bool}{F:List D->DH->R D}{k j:Nat}{ps:List Str}{st:xA}
theorem ZGV(l:FnX X.prog X.w X.K X.mg X.base k n ps F)(T:FTD X.K X.mg n st ps dv)(z:Room j X.A)(u:QA X.nox E0 (a::es) tr)(i:Nat.ble k j=ux:=by rfl)(o:Gl X n:=by rfl)
  (g:(n==("__debug__":Str))=uv:=by decide) (B:vX (a::es) X.env=(uv,eval a X.env)::vX es X.env:=by rfl) (d:(xF cp (vX es X.env)).any (·.1)=uv:=by rfl):
  QTe X (.Call (.Name n fp) (a::es) [] cp) (dTc F tr):=
 ZVo l (z.mono (jv i)) .nil T.b o T.m T.k u (λw G y H Q E hk s r h=>by rw[qG];exact⟨w,G,y,hk,rfl,s,r,h⟩) g B d
def Tk(K:v7)(w:Str)(b:Bool)(ws:List Str):Prop:=∀c∈ws,∀C,nsIn K xT c=uz (uz (.ref C))->Hv K C (Ab K w) b=ux
theorem Ui{K:v7}:Tk K w b []:=λc h=>absurd h (by simp)
theorem ZHW{K:v7}{g:List Str}(N:nsIn K xT c=uz (uz (.ref (Ab K c))))(h:Hv K (Ab K c) (Ab K w) b=ux)(r:Tk K w b g):Tk K w b (c::g):=λl i C d=>by
 rcases zj.mp i with z|z
 .subst z;rw[N]at d;cases d;exact h
 .exact r l z C d
theorem ZMm{i:Nat}{h:xA}{d:List xA}{y:DS}{s ns:List Str}{u:List ExceptHandler}{g:DHn}(M:X.mg w=uz (.ref (Ab X.K w)))(O:Tk X.K w ux s)(I:Tk X.K w uv ns)(J:Room j X.A)(B:X.N.Nodup)(L:∀m,RoomH j (Il X m).A->QSs (Il X m) E0 (h::d) y)(hrest:QH X u g)
  (l:X.calm=ux:=by rfl) (r:Gl X w:=by rfl) (H:X.N[i]?=uz x:=by rfl) (z:X.env.kindOf x=uz .local:=by rfl) (o:(w==("__debug__":Str))=uv:=by decide):
  QH X (.ExceptHandler (uz (.Name w np)) (uz x) (h::d) hp::u) (Qw s ns i y g):=
 ZPf l r M B H z O I (λm=>L m (RoomH.held (.of J))) hrest o
theorem ZPk(s:X.mg w=uz (.ref (Ab X.K w)))(u:Tk X.K w ux ws)(m:Tk X.K w uv ns)(o:Room j X.A)(r:∀h,RoomH j (Il X h).A->QSs (Il X h) E0 (b₀::suite) hb)(hrest:QH X hs g)
  (d:X.calm=ux:=by rfl) (l:Gl X w:=by rfl) (i:(w==("__debug__":Str))=uv:=by decide):
  QH X (.ExceptHandler (uz (.Name w np)) uj (b₀::suite) hp::hs) (Pn ws ns hb g):=
 ZOH d l s u m (λh=>r h (RoomH.held (.of o))) hrest i
theorem ZFY(l:QTr X bd ts)(i:QH X (h0::hs) g)(d:X.stack=X.env::X.outer:=by rfl)(h:X.env.frame=uz X.env.locals:=by rfl):QS X E (.Try bd (h0::hs) [] [] pos) (Ik ts g):=
 ZKg d h l i
def Cf(K:v7)(f:Str)(cs:List Str):Prop:=∀c∈cs,∀C,nsIn K xT c=uz (uz (.ref C))->XGet K C/\NoAttr K C f
end
section
variable{X:Cx}{n y:Str}{e e2:xz}{es:List xz}{tr:DA}{tu:DE}{p pos kp:Pos}{F:List D->DH->R D}{k j:Nat}{ps:List Str}{st:xA}{v:Int}
end
section
variable{prog:xk}{w:xC}{A:xq}{E:xB->x0->Prop}{s:x0}
end
section
variable{X:Cx}{E:XK}
end
section
variable{X:Cx}{E:XK}
end
section
variable{X:Cx}{E:XK}
end
end _D
namespace _D
open PySem PySem.Spec _L
open PyProof.Rows hiding St
noncomputable def tgN:xz->List Str
 |.Name x _=>[x]
 |.Tuple es _ _=>es.flatMap λe=>match e with
  |.Name x _=>[x]
  |_=>[]
 |_=>[]
def Hk(tg:xz)(caps:List Nat)(N:List Str):List Str:=tgN tg++caps.map λj=>N.getD j ""
section
variable{X:Cx}{scope:xy}{nt:Nat}{caps:List Nat}{tg elt iter:xz}{ifs:List xz}{pos:Pos}{it:DI}{g:DG}{c:DB}{te:DE}
theorem ZPc(m:QI X E0 tg iter it)(j:∀C b a d,(Hk tg caps X.N).Nodup->QG (blk X (Hk tg caps X.N) scope C b a d) E0 tg g)(o:GK nt g)(e:∀C b a d,QTs (blk X (Hk tg caps X.N) scope C b a d) E0 ifs c)
  (k:∀C b a d,QE (blk X (Hk tg caps X.N) scope C b a d) E0 elt te) (n:X.calm=ux:=by rfl) (hk:scope.kind=.function:=by rfl) (f:∀x,X.env.kindOf x=X.env.scope.names.lookup x:=by intro _;rfl)
  (h:Rh X.env.scope.names X.N (Hk tg caps X.N) scope.names nt caps=ux:=by kernel_rfl) (l:∀x,foldedSetIterable iter X.env x=pure x:=by intro _;rfl):QE X E0 (.ListComp elt [⟨tg,iter,ifs,0⟩] scope pos) (Bx it nt caps g c te):=
 have i:=ZE5 hk f rfl h
 ZTw n i m (λC b a d=>j C b a d i.nd) o e k l
theorem ZVv(i:Nat){y:Str}{l d:Pos}(u:X.N.Nodup)(v:QI X E0 tg iter it)(p:∀C a b e,(Hk tg caps X.N).Nodup->QG (blk X (Hk tg caps X.N) scope C a b e) E0 tg g)(o:GK nt g)(f:∀C a b e,QTs (blk X (Hk tg caps X.N) scope C a b e) E0 ifs c)
  (t:∀C a b e,QE (blk X (Hk tg caps X.N) scope C a b e) E0 elt te) (s:X.calm=ux:=by rfl) (hk:scope.kind=.function:=by rfl) (j:∀x,X.env.kindOf x=X.env.scope.names.lookup x:=by intro _;rfl)
  (h:Rh X.env.scope.names X.N (Hk tg caps X.N) scope.names nt caps=ux:=by kernel_rfl)
  (r:X.N[i]?=uz y:=by rfl) (w:Loc X.env.scope y:=by first|exact Or.inl rfl|exact Or.inr rfl) (n:X.fn y=ux∨X.env.scope.names.lookup y=uz .local:=by first|exact .inl rfl|exact .inr rfl|assumption)
  (k:swapsWith (.ListComp elt [⟨tg,iter,ifs,0⟩] scope pos) (uz (.Name y l)) d.line X.env=pure ux:=by rfl)
  (q:∀x,foldedSetIterable iter X.env x=pure x:=by intro _;rfl):QS X E0 (.Assign [.Name y l] (.ListComp elt [⟨tg,iter,ifs,0⟩] scope pos) d) (sAs (Bx it nt caps g c te) (gV i)):=
 have m:=ZE5 hk j rfl h
 ZMY i s u m v (λC a b e=>p C a b e m.nd) o f t r w n k q
end
theorem bnd1{p:List xB->Prop}(h:∀a,p [a]):∀us:List xB,us.length=1->p us
 |[a],_=>h a
theorem bnd2{p:List xB->Prop}(h:∀a b,p [a,b]):∀us:List xB,us.length=2->p us
 |[a,b],_=>h a b
theorem bnd3{p:List xB->Prop}(h:∀a b c,p [a,b,c]):∀us:List xB,us.length=3->p us
 |[a,b,c],_=>h a b c
theorem bnd4{p:List xB->Prop}(h:∀a b c d,p [a,b,c,d]):∀us:List xB,us.length=4->p us
 |[a,b,c,d],_=>h a b c d
theorem bnd5{p:List xB->Prop}(h:∀a b c d e,p [a,b,c,d,e]):∀us:List xB,us.length=5->p us
 |[a,b,c,d,e],_=>h a b c d e
theorem bnd7{p:List xB->Prop}(h:∀a b c d e f g,p [a,b,c,d,e,f,g]):∀us:List xB,us.length=7->p us
 |[a,b,c,d,e,f,g],_=>h a b c d e f g
theorem fsc{N P:List Str}{h:xy}(a:h.kind=.function:=by rfl)(b:h.isCoroutine=uv:=by rfl)(c:h.isGenerator=uv:=by rfl)(d:N.Nodup:=by decide +kernel)(e:N.take P.length=P:=by rfl)
  (f:∀x∈P,h.names.lookup x=uz .local∨h.names.lookup x=uz .cell:=by decide +kernel) (g:∀y∈h.names,y.2≠ .free:=by decide +kernel):FnScope N P h:=⟨a,b,c,d,e,f,g⟩
end _D
namespace _D
open PySem PySem.W _L
theorem ZOb(b:Gl X x)(c:X.mg x=uz (.int n t))(a:(x==("__debug__":Str))=uv:=by decide):QE X E (.Name x pos) (dC (.int n)):=
 ZAh (v:=.int n) b c ⟨_,rfl⟩ (λ_ _=>rfl) a
theorem ZMA(b:Gl X x)(c:X.mg x=uz (.str n t))(a:(x==("__debug__":Str))=uv:=by decide):QE X E (.Name x pos) (dC (.str n)):=
 ZAh (v:=.str n) b c ⟨_,rfl⟩ (λ_ _=>rfl) a
section
open Lean
def wA(s:String):Syntax:=.atom .none s
def wL(l:List Syntax):Syntax:=.node .none `null l.toArray
def wN(k:String)(l:List Syntax):Syntax:=.node .none ("Lean.Parser."++k).toName l.toArray
def wX(l:List Syntax):Syntax:=wN "Tactic.tacticSeq" [wN "Tactic.tacticSeq1Indented" [wL l]]
def wP(l:List Syntax):Syntax:=wN "Tactic.paren" [wA "(",wX l,wA ")"]
def wI(s:String):Syntax:=(mkIdent s.toName).raw
def wH:Syntax:=wN "Term.syntheticHole" [wA "?",wA "_"]
def wU(l:List String):Syntax:=wN "Term.fun" [wA "fun",wN "Term.basicFun" [wL (l.map wI),wL [],wA "=>",wH]]
def wY(l:List Syntax):Syntax:=match l.reverse with
 |x::y::r=>wN "Term.app" [x,wL (y::r)]
 |[x]=>x
 |_=>.missing
def wT(s:String):Syntax:=wY ((((s.replace "(" "( ").replace ")" " )").splitOn " ").foldl (λst w=>match st with
 | a::r=>
  if w="" then st else if w="(" then[]::st else if w=")" then(match r with
   |b::q=>(wY a::b)::q
   |_=>st)
  else((if w="_" then wN "Term.hole" [wA w]else if w="?" then wH else if w="." then wN "Term.ellipsis" [wA ".."]
   else if w="L" then wU ["C","s","H","e","nd"]else if w="l" then wU ["C","s","H","e"]
   else if w="d" then wN "Term.byTactic" [wA "by",wX [wN "Tactic.decide" [wA "decide",wN "Tactic.optConfig" [wL []]]]]
   else if w.isNat then(Syntax.mkNumLit w).raw else wI w)::a)::r
 |_=>st) [[]]).head!
def wF(l:List Syntax):Syntax:=wN "Tactic.first" [wA "first",wL (l.map λx=>.node .none `group #[wA "|",wX [x]])]
def wJ(a b:Syntax):Syntax:=wN "Tactic.«tactic_<;>_»" [a,wA "<;>",b]
def wG(k:String)(t:Syntax)(r:Syntax):Syntax:=wP [wN "Tactic.guardTarget" [wA "guard_target",wN "equal" [wN k [wA "="]],t],wA ";",r]
def wV:Syntax:=wN "Tactic.tacticTrivial" [wA "trivial"]
def wB(s:String):Syntax:=
 let t:=wT (s.drop 1).toString;let f:=λk=>wN ("Tactic."++k) [wA k,t]
 let c:=s.front
 if c='@' then f "apply" else if c='!' then wN "Tactic.withReducible" [wA "with_reducible",wX [f "exact"]]
 else if c='=' then wP [wJ (f "refine") (wN "Tactic.tacticRfl" [wA "rfl"])]else if c='<' then wP [wJ (f "refine'") wV]else if c='.' then f "exact" else f "refine'"
def wC(s:String):Syntax:=wF ((s.splitOn ",").map wB)
def wR(s:String):Syntax:=wF ((s.splitOn "#").map λg=>match g.splitOn "|" with
 | h::r=>
  let b:=wF (r.map λa=>match a.splitOn ":" with
   |[a,x]=>wG "equalD" (wT (h++" "++a)) (wC x)
   |_=>wC a)
  if h.front='=' then wG "equalR" (wT (h.drop 1).toString) b else if h.front='*' then b else wG "equalD" (wT (h++" _ _")) (wJ (wP [b]) wV)
 |_=>.missing)
end
end _D
namespace _D
open PySem PySem.Spec _L
open PyProof.Rows hiding St
section
variable{M:Model}{A:xq}{E:xB->x0->Prop}{s:x0}{B:Heap}{env:Env}{outer:List Env}{L e:xY}{oe:Obj}{vs:Array xB}{head:xB}{hn:Bool}{Q:Unit->x0->Prop}
end
section
variable{X:Cx}{vA:List (xY×Obj)}{σ:St}{H H':Hp}{s s':x0}{B h'':Heap}{ea C:xY}{cls:xB}{od:Option xY}{E:XK}
end
section
variable{prog:xk}{w:xC}{A:xq}{R':Result->x0->Prop}{s:x0}
end
section
variable{X:Cx}{E:XK}{N:List Str}{scope:xy}{nt:Nat}{caps:List Nat}{tg elt iter:xz}{ifs:List xz}{pos:Pos}{it:DI}{g:DG}{c:DB}{te:DE}
end
section
variable{X:Cx}{E:XK}
end
section
variable{prog:xk}{w:xC}{A:xq}{E:xB->x0->Prop}
end
section
variable{X:Cx}{E:XK}
end
section
variable{X:Cx}{E:XK}
end
section
variable{X:Cx}{E:XK}{tg iter elt:xz}{ifs:List xz}{scope:xy}{pos:Pos}{it:DI}{nt:Nat}{caps:List Nat}{g:DG}{c:DB}{te:DE}
end
section
variable{X:Cx}{E:XK}
end
end _D
namespace _W
open PySem _L _D
def fuel:Nat:=100000 abbrev FN:=List D->DH->R D abbrev cI (n:Int):DE:=dC (.int n) abbrev cS (n:Str):DE:=dC (.str n) abbrev d1 (a:DE):DA:=Ai a Bj abbrev d2 (a b:DE):DA:=Ai a (Ai b Bj) abbrev d3 (a b c:DE):DA:=Ai a (Ai b (Ai c Bj)) abbrev d4 (a b c d:DE):DA:=Ai a (Ai b (Ai c (Ai d Bj))) abbrev oI (a b:DE):DE:=dOp Bk a b abbrev oA (a b:DE):DE:=dOp Hw a b abbrev oM (a b:DE):DE:=dOp Hy a b abbrev oX (a b:DE):DE:=dOp Bt a b abbrev oS (a b:DE):DE:=dOp M9 a b abbrev oD (a b:DE):DE:=dOp Mt a b abbrev oE (a b:DE):DE:=dOp Fi a b abbrev oL (a b:DE):DE:=dOp Kf a b abbrev oG (a b:DE):DE:=dOp Mx a b abbrev oP (a b:DE):DE:=dOp Ny a b abbrev sL (k:Nat) (a:DE) (b:DS):DS:=Ac (sAs a (gV k)) b abbrev sC (a:DE) (b:DS):DS:=sIf (Ay a) b sNx
theorem ZS6:FnScope ["self","most"] ["self","most"] (Ad ZBk):=fsc
noncomputable abbrev ZJt:List Str:=["_law_cell","_law_unit_here"]
noncomputable abbrev ZCM:=ZJt.take 2
theorem ZS1:FnScope ZJt ZCM (Ad Zd):=fsc
noncomputable abbrev ZE8:List Str:=["_law_number_here","_law_k","_law_digit"]
noncomputable abbrev ZAW:=ZE8.take 2
theorem ZSO:FnScope ZE8 ZAW (Ad ZBR):=fsc
noncomputable abbrev ZH4:List Str:=["_law_script"]
noncomputable abbrev Yw:=ZH4.take 1
theorem ZSh:FnScope ZH4 Yw (Ad Wu):=fsc
noncomputable abbrev ZEd:List Str:=["_law_script","_law_k","_law_number_here"]
noncomputable abbrev Zv:=ZEd.take 2
theorem ZQt:FnScope ZEd Zv (Ad Wt):=fsc
noncomputable abbrev ZFN:List Str:=["_law_script"]
noncomputable abbrev ZB3:=ZFN.take 1
theorem ZTe:FnScope ZFN ZB3 (Ad ZCm):=fsc
noncomputable abbrev ZEO:List Str:=["_law_script","_law_house_here","_law_low","_law_lows","_law_unit_here","_law_many","_law_b","_law_levels","_law_coming","_law_k","_law_cell","_law_level","_law_room","_law_highs","_law_at","_law_cells","_law_added_here"]
noncomputable abbrev ZB1:=ZEO.take 4
theorem ZO2:FnScope ZEO ZB1 (Ad ZCg):=fsc
noncomputable abbrev ZF2:List Str:=["_law_script","_law_house_here","_law_many","_law_b","_law_k","_law_place","_law_kind","_law_what","_law_cell","_law_number_here"]
noncomputable abbrev ZAV:=ZF2.take 2
theorem ZTS:FnScope ZF2 ZAV (Ad ZAZ):=fsc
noncomputable abbrev ZGL:List Str:=["_law_script","_law_house_here","_law_turns","_law_many","_law_b","_law_floods_here","_law_at","_law_cells"]
noncomputable abbrev ZAx:=ZGL.take 3
theorem ZKx:FnScope ZGL ZAx (Ad ZCy):=fsc
noncomputable abbrev ZJG:List Str:=["_law_steps_here","_law_total","_law_low","_law_many","_law_way"]
noncomputable abbrev ZBK:=ZJG.take 1
theorem ZRj:FnScope ZJG ZBK (Ad Ws):=fsc
noncomputable abbrev ZIS:List Str:=["_law_cells","_law_unit_here","_law_pumps","_law_steps_here","_law_low","_law_k","_law_many","_law_way"]
noncomputable abbrev ZCR:=ZIS.take 3
theorem ZLt:FnScope ZIS ZCR (Ad Z9):=fsc
noncomputable abbrev ZKP:List Str:=["_law_script"]
noncomputable abbrev ZCf:=ZKP.take 1
theorem ZQh:FnScope ZKP ZCf (Ad ZAM):=fsc
noncomputable abbrev ZER:List Str:=["_law_script","_law_b","_law_unit_here","_law_pumps","_law_year_here","_law_rule_here","_law_begin","_law_j","_law_later","_law_cells"]
noncomputable abbrev ZBx:=ZER.take 4
theorem ZQK:FnScope ZER ZBx (Ad ZBi):=fsc
noncomputable abbrev ZDw:List Str:=["_law_script","_law_b","_law_k","_law_names","_law_river","_law_unit_here","_law_cell","_law_pumps","_law_rule_here","_law_pump","_law_most_here","_law_to","_law_brim"]
noncomputable abbrev ZB2:=ZDw.take 5
theorem ZLC:FnScope ZDw ZB2 (Ad ZCq):=fsc
noncomputable abbrev ZEe:List Str:=["_law_cell","_law_k","_law_many","_law_other","_law_telling"]
noncomputable abbrev ZCX:=ZEe.take 3
theorem ZP0:FnScope ZEe ZCX (Ad ZCx):=fsc
noncomputable abbrev ZKL:List Str:=["_law_script","_law_first","_law_many","_law_names","_law_k","_law_places","_law_b","_law_step","_law_delay","_law_river","_law_kind","_law_amount_here","_law_rank"]
noncomputable abbrev Wk:=ZKL.take 1
theorem ZPF:FnScope ZKL Wk (Ad ZCi):=fsc
noncomputable abbrev ZHn:List Str:=["cubes","sense","number"]
noncomputable abbrev ZCh:=ZHn.take 3
theorem ZNb:FnScope ZHn ZCh (Ad Z8):=fsc
noncomputable abbrev ZFl:List Str:=["what"]
noncomputable abbrev ZCN:=ZFl.take 1
theorem ZGI:FnScope ZFl ZCN (Ad Xc):=fsc
noncomputable abbrev ZE6:List Str:=["pages","ask","what","place","sense","number","part","found","when","cubes","nearest"]
noncomputable abbrev ZCW:=ZE6.take 2
theorem ZTE:FnScope ZE6 ZCW (Ad Y9):=fsc
noncomputable abbrev ZJ1:List Str:=["house","ask","what","place","sense","number"]
noncomputable abbrev ZAs:=ZJ1.take 2
theorem ZI9:FnScope ZJ1 ZAs (Ad Xl):=fsc
noncomputable abbrev ZGF:List Str:=["numbers","others"]
noncomputable abbrev ZBs:=ZGF.take 2
theorem ZRK:FnScope ZGF ZBs (Ad Xz):=fsc
noncomputable abbrev ZFj:List Str:=["floods","others"]
noncomputable abbrev Zj:=ZFj.take 2
theorem ZTC:FnScope ZFj Zj (Ad Xq):=fsc
noncomputable abbrev ZIt:List Str:=["state","other","levels","coming","other_levels","other_coming"]
noncomputable abbrev W6:=ZIt.take 2
theorem ZSZ:FnScope ZIt W6 (Ad Wi):=fsc
noncomputable abbrev ZFq:List Str:=["low","high","lows","highs"]
noncomputable abbrev Ys:=ZFq.take 4
theorem ZI2:FnScope ZFq Ys (Ad ZCe):=fsc
noncomputable abbrev ZIf:List Str:=["house","floods"]
noncomputable abbrev ZA0:=ZIf.take 2
theorem ZF9:FnScope ZIf ZA0 (Ad ZC1):=fsc
noncomputable abbrev ZJm:List Str:=["low","high","lows","highs","ask","what","place","sense","number"]
noncomputable abbrev ZCp:=ZJm.take 5
theorem ZKa:FnScope ZJm ZCp (Ad ZA5):=fsc
noncomputable abbrev ZEA:List Str:=["self","house","state","at","flood","levels","coming"]
noncomputable abbrev Wr:=ZEA.take 5
theorem ZNs:FnScope ZEA Wr (Ad ZAi):=fsc
noncomputable abbrev ZJ2:List Str:=["self","to","delay","cubes"]
noncomputable abbrev ZCk:=ZJ2.take 4
theorem ZPe:FnScope ZJ2 ZCk (Ad ZCS):=fsc
noncomputable abbrev ZEM:List Str:=["house","name","number","place"]
noncomputable abbrev Xe:=ZEM.take 2
theorem ZIU:FnScope ZEM Xe (Ad ZCv):=fsc
noncomputable abbrev ZDY:List Str:=["house","place","name"]
noncomputable abbrev X4:=ZDY.take 2
theorem ZV8:FnScope ZDY X4 (Ad Ym):=fsc
noncomputable abbrev ZEF:List Str:=["self","number","cubes","down"]
noncomputable abbrev Za:=ZEF.take 3
theorem ZMa:FnScope ZEF Za (Ad ZC0):=fsc
noncomputable abbrev ZFF:List Str:=["stairs","water","river","pump","height","many","way","cubes"]
noncomputable abbrev ZBU:=ZFF.take 2
theorem ZKX:FnScope ZFF ZBU (Ad Yb):=fsc
noncomputable abbrev ZEq:List Str:=["rule","turn","held","first","stairs"]
noncomputable abbrev Z6:=ZEq.take 2
theorem ZM3:FnScope ZEq Z6 (Ad ZB7):=fsc
noncomputable abbrev ZF1:List Str:=["self","number","place","came","let","pumped","stays","lies","spilled"]
noncomputable abbrev W0:=ZF1.take 2
theorem ZKv:FnScope ZF1 W0 (Ad ZAE):=fsc
noncomputable abbrev ZD6:List Str:=["rows","takes","passing","row","number"]
noncomputable abbrev ZBn:=ZD6.take 2
theorem ZVC:FnScope ZD6 ZBn (Ad ZAF):=fsc
noncomputable abbrev ZIk:List Str:=["house","number","places","down"]
noncomputable abbrev Xk:=ZIk.take 2
theorem ZLi:FnScope ZIk Xk (Ad ZCt):=fsc
noncomputable abbrev ZGk:List Str:=["house","members","came","rows","number","place","down","row_down"]
noncomputable abbrev Wb:=ZGk.take 3
theorem ZOe:FnScope ZGk Wb (Ad Zr):=fsc
noncomputable abbrev ZJJ:List Str:=["rows","order"]
noncomputable abbrev Zx:=ZJJ.take 1
theorem ZVY:FnScope ZJJ Zx (Ad ZCo):=fsc
noncomputable abbrev ZHk:List Str:=["rows","number","way","down"]
noncomputable abbrev Zc:=ZHk.take 2
theorem ZKb:FnScope ZHk Zc (Ad ZC8):=fsc
noncomputable abbrev ZI4:List Str:=["rows","takes","passing","number","way","take","below"]
noncomputable abbrev Zf:=ZI4.take 1
theorem ZT2:FnScope ZI4 Zf (Ad ZAC):=fsc
noncomputable abbrev ZDN:List Str:=["self","members","rows","takes","number","took","let"]
noncomputable abbrev ZCz:=ZDN.take 2
theorem ZQO:FnScope ZDN ZCz (Ad Z1):=fsc
noncomputable abbrev ZEa:List Str:=["house","lasts","number","down"]
noncomputable abbrev ZAj:=ZEa.take 1
theorem ZLg:FnScope ZEa ZAj (Ad Zm):=fsc
noncomputable abbrev ZJW:List Str:=["self","lasts","number","last"]
noncomputable abbrev ZBJ:=ZJW.take 1
theorem ZS7:FnScope ZJW ZBJ (Ad Xj):=fsc
noncomputable abbrev ZIe:List Str:=["self"]
noncomputable abbrev Wz:=ZIe.take 1
theorem ZS5:FnScope ZIe Wz (Ad ZAR):=fsc
noncomputable abbrev ZGf:List Str:=["house","state","at","flood","course"]
noncomputable abbrev ZAg:=ZGf.take 4
theorem ZPg:FnScope ZGf ZAg (Ad Yj):=fsc
noncomputable abbrev ZDZ:List Str:=["house","state","at","floods","pages","number","flood","page"]
noncomputable abbrev Xu:=ZDZ.take 4
theorem ZT0:FnScope ZDZ Xu (Ad ZBq):=fsc
noncomputable abbrev ZKN:List Str:=["house","state","floods","most","states","pages","year","behind"]
noncomputable abbrev ZC4:=ZKN.take 4
theorem ZKH:FnScope ZKN ZC4 (Ad ZBA):=fsc
noncomputable abbrev ZFW:List Str:=["house","low","high","lows","highs","ask","most","state","floods","states","pages"]
noncomputable abbrev Yg:=ZFW.take 7
theorem ZJe:FnScope ZFW Yg (Ad ZAv):=fsc
noncomputable abbrev ZHt:List Str:=["_law_house_here","_law_low","_law_high","_law_lows","_law_highs","_law_ask_here","_law_most_here","_law_told_here","e"]
noncomputable abbrev Yv:=ZHt.take 7
theorem V6:FnScope ZHt Yv (Ad ZCD):=fsc
noncomputable abbrev ZIg:List Str:=["_law_script","_law_house_here","_law_places","_law_unit_here","_law_b","_law_levels","_law_coming","_law_k","_law_level","_law_cell","_law_row","_law_j"]
noncomputable abbrev ZBh:=ZIg.take 2
theorem ZLj:FnScope ZIg ZBh (Ad W7):=fsc
noncomputable abbrev ZEo:List Str:=["_law_found","_law_number_here"]
noncomputable abbrev ZAJ:=ZEo.take 1
theorem ZVV:FnScope ZEo ZAJ (Ad ZCI):=fsc
noncomputable abbrev ZGc:List Str:=["house","state","floods","most","states","pages"]
noncomputable abbrev ZBo:=ZGc.take 4
theorem ZG6:FnScope ZGc ZBo (Ad Y0):=fsc
noncomputable abbrev ZFr:List Str:=["_law_house_here","_law_state_here","_law_floods_here","_law_most_here","_law_many","_law_states"]
noncomputable abbrev Xv:=ZFr.take 4
theorem ZBj:FnScope ZFr Xv (Ad ZBe):=fsc
noncomputable abbrev ZHi:List Str:=["house","low","high","at","lows","highs","ask","state","floods","pages","behind"]
noncomputable abbrev Y7:=ZHi.take 7
theorem ZOL:FnScope ZHi Y7 (Ad ZBV):=fsc
noncomputable abbrev ZJ8:List Str:=["_law_script","_law_house_here","_law_most_here","_law_low","_law_lows","_law_high","_law_highs","_law_ask_here","_law_years_here","_law_told_here","_law_due","_law_handed","_law_found"]
noncomputable abbrev ZCn:=ZJ8.take 1
theorem ZK6:FnScope ZJ8 ZCn (Ad Gb):=fsc
def ZIb:DS:=sRt (oA (oX (dV 1) (oM (dV 0) (cI 7))) (oM (oD (dV 0) (cI 7)) (dV 1)))
def Hx:FN:=Al 2 0 ZIb
def Ow:DS:=sAs (oD (dV 0) (oP (cI 10) (cI 8))) (gV 0)
def ZCK:DS:=Ac (sC (K5 J0 Kf (cI 0) (dV 0) (oP (cI 10) (cI 18))) (sL 0 (oM (oA (oA (dV 0) (oX (cI 1009) (dV 1))) (cI 7)) (cI 999999937)) (sL 0 (oM (oX (dV 0) (dV 0)) (cI 999999929)) (sRt (oM (oX (dV 0) (oA (dV 0) (dV 1))) (cI 99999989)))))) (Ac (Bu (Bf rng1 (d1 (dV 1))) (gV 2) Ow) (sRt (oM (dV 0) (oP (cI 10) (cI 8)))))
def Qj:FN:=Al 2 1 ZCK
def ZCB:DS:=sRt (Ho (oG (dFn Ax (d1 (dV 0))) (cI 0)) (S7 (oL (oI (dV 0) (cI 0)) (cI 0)) (dOp U8 (oI (dV 0) (cI 0)) (oP (cI 10) (cI 18)))))
def Kl:FN:=Al 1 0 ZCB
def Ms:DS:=Ac (sC (dFn Kl (d1 (dV 0))) (sL 2 (cI 0) (Ac (sC (oL (oA (cI 1) (oD (dV 1) (cI 14))) (dFn Ax (d1 (dV 0)))) (sAs (oI (dV 0) (oA (cI 1) (oD (dV 1) (cI 14)))) (gV 2))) (sRt (dFn Qj (d2 (dV 2) (oM (dV 1) (cI 14)))))))) (Ac (sC (oL (dV 1) (dFn Ax (d1 (dV 0)))) (sRt (oI (dV 0) (dV 1)))) (sL 2 (oM (oX (cI 48271) (oA (oX (dV 1) (dV 1)) (oX (cI 7) (dFn Ax (d1 (dV 0)))))) (cI 2147483647)) (Ac (sC (oG (dFn Ax (d1 (dV 0))) (cI 0)) (sAs (oA (dV 2) (oM (oX (oI (dV 0) (oM (dV 1) (dFn Ax (d1 (dV 0))))) (cI 69621)) (cI 2147483629))) (gV 2))) (sRt (dV 2)))))
def Az:FN:=Al 2 1 Ms
def Tu:DS:=sRt (oI (Aq (dFn Ae (d3 (cI 1) (cI 1) (oP (cI 10) (cI 30))))) (oM (oD (dFn Az (d2 (dV 0) (cI 0))) (cI 840)) (cI 3)))
def H7:FN:=Al 1 0 Tu
def Yd:DE:=oA (dV 0) (oX (dV 1) (oM (oD (dV 2) (cI 2)) (cI 2)))
def ZJv:DS:=sEx (Cw Do (dV 8) (d1 (dFn Dr (d1 (Aq (Bx (Ds (oI (oI (dV 2) (cI 1)) (dV 9))) 1 [4,10] (gV 0) Bb Yd))))))
def R6:DS:=Ac (sEx (Cw Do (dV 7) (d1 (dV 11)))) ZJv
def Ph:DS:=Ac (sC (oE (oI (oI (oI (dV 1) (cI 1)) (dV 9)) (cI 0)) (cS "basin")) (sL 12 (oA (oS (oI (oI (oI (dV 1) (cI 1)) (dV 9)) (cI 4)) (dV 11)) (cI 1)) (sAs (oA (dV 11) (oX (oM (dFn Hx (d2 (oD (dV 10) (cI 2)) (dV 4))) (dV 12)) (oM (dV 10) (cI 2)))) (gV 11)))) R6
def ZJQ:DS:=sL 11 (oI (oI (dV 2) (cI 0)) (dV 9)) Ph
def Nz:DS:=sL 10 (dFn Az (d2 (dV 0) (oA (dV 6) (dV 9)))) ZJQ
def ZA9:DE:=dFn Az (d2 (dV 1) (oA (oA (oA (dV 3) (dV 2)) (oX (dV 4) (dV 2))) (dV 0)))
def ZC5:DE:=oX (dFn Hx (d2 (oD (dV 0) (cI 2)) (dV 1))) (oM (dV 0) (cI 2))
def Yq:DE:=oA (oI (oI (dV 1) (dV 2)) (dV 0)) (oI (dV 3) (dV 0))
def ZHK:DS:=sEx (Cw Do (dV 13) (d1 (dFn Dr (d1 (Aq (Bx (Bf rng1 (d1 (dV 5))) 1 [3,14,16] (gV 0) Bb Yq))))))
def ZFs:DS:=sL 16 (Aq (Bx (Ds (dV 15)) 1 [4] (gV 0) Bb ZC5)) ZHK
def Oj:DS:=sL 15 (Aq (Bx (Bf rng1 (d1 (dV 5))) 1 [0,5,6,14] (gV 0) Bb ZA9)) ZFs
def ZH2:DS:=sL 4 (Aq (dFn H7 (d1 (dV 0)))) (sL 5 (dFn Ax (d1 (oI (dV 1) (cI 1)))) (sL 6 (oA (cI 6) (oX (cI 24) (dV 5))) (sL 7 (Ci (dFn Ae Bj)) (sL 8 (Ci (dFn Ae Bj)) (Ac (Bu (Bf rng1 (d1 (dV 5))) (gV 9) Nz) (sL 13 (Ci (dFn Ae Bj)) (Ac (Bu (Bf rng1 (d1 (dFn Ax (d1 (dV 3))))) (gV 14) Oj) (sRt (dFn Am (d2 (dFn Am (d2 (dFn Dr (d1 (dV 7))) (dFn Dr (d1 (dV 8))))) (dV 13)))))))))))
def Od:FN:=Al 4 13 ZH2
def Qe:DS:=sC (dOp Ef (dV 6) (cS "mill")) (sL 8 (dFn Az (d2 (dV 0) (oA (dV 3) (cI 2)))) (sL 9 (oS (dFn Hx (d2 (oD (dV 8) (cI 4)) (Aq (dFn H7 (d1 (dV 0)))))) (oM (oD (dV 8) (cI 2)) (cI 2))) (sRt (dFn Am (d4 (dV 7) (dV 5) (oI (Aq (dFn Ae (d2 (cS "least") (cS "most")))) (oM (dV 8) (cI 2))) (dV 9))))))
def Ly:DS:=Ac (sC (oE (dV 6) (cS "basin")) (sAs (oI (Aq (dFn Ae (d4 (cS "lies") (cS "spilled") (cS "let") (cS "pumped")))) (oM (dFn Az (d2 (dV 0) (oA (dV 3) (cI 1)))) (cI 4))) (gV 7))) Qe
def ZKC:DS:=sL 7 (cS "took") Ly
def ZDu:DS:=sL 6 (oI (oI (oI (dV 1) (cI 1)) (dV 5)) (cI 0)) ZKC
def M6:DS:=sL 5 (oM (oA (dFn Az (d2 (dV 0) (dV 3))) (dV 4)) (dV 2)) ZDu
def ZHX:DS:=sL 2 (dFn Ax (d1 (oI (dV 1) (cI 1)))) (sL 3 (oA (cI 6) (oX (cI 20) (dV 2))) (Ac (Bu (Bf rng1 (d1 (dV 2))) (gV 4) M6) (sRt (dC .non))))
def P0:FN:=Al 2 8 ZHX
def Xo:DE:=dFn Az (d2 (dV 1) (oA (oA (dV 3) (oX (dV 4) (dV 2))) (dV 0)))
def ZA6:DE:=dFn Hx (d2 (dV 0) (Aq (dFn H7 (d1 (dV 1)))))
def Ql:DS:=sL 7 (Aq (Bx (Bf rng1 (d1 (dV 3))) 1 [0,3,4,6] (gV 0) Bb Xo)) (sEx (Cw Do (dV 5) (d1 (dFn Dr (d1 (Aq (Bx (Ds (dV 7)) 1 [0] (gV 0) Bb ZA6)))))))
def ZGi:DS:=sL 3 (dFn Ax (d1 (oI (dV 1) (cI 1)))) (sL 4 (oA (cI 6) (oX (cI 14) (dV 3))) (sL 5 (Ci (dFn Ae Bj)) (Ac (Bu (Bf rng1 (d1 (dV 2))) (gV 6) Ql) (sRt (dV 5)))))
def Ut:FN:=Al 3 5 ZGi
def Vp:DS:=sC (oE (dV 4) (cS "pump")) (sAs (oA (dV 1) (dV 3)) (gV 1))
def ZJy:DS:=sL 1 (cI 0) (Ac (Bu (Ds (dV 0)) (Ah 3 (Aa (gV 2) (Aa (gV 3) (Aa (gV 4) Ak)))) Vp) (sRt (dV 1)))
def R5:FN:=Al 1 4 ZJy
def Px:DS:=sL 4 (oA (dV 4) (oX (dV 1) (oM (oI (dV 0) (oA (cI 1) (dV 5))) (cI 4)))) (sL 6 (oA (cI 1) (oX (dV 1) (oM (oD (oI (dV 0) (oA (cI 1) (dV 5))) (cI 4)) (cI 4)))) (sL 7 (cS "river") (Ac (sIf (Jp (Ay (dV 2)) (Ay (oE (oM (oD (oI (dV 0) (oA (cI 1) (dV 5))) (cI 16)) (cI 2)) (cI 1)))) (sAs (cS "pump") (gV 7)) sNx) (Ac (sEx (Cw Do (dV 3) (d1 (dFn Am (d3 (dV 4) (dV 6) (dV 7)))))) (sAs (oA (dV 4) (dV 6)) (gV 4))))))
def ZI6:DS:=sL 3 (Ci (dFn Ae Bj)) (sL 4 (cI 0) (Ac (Bu (Bf rng1 (d1 (oM (oI (dV 0) (cI 0)) (cI 4)))) (gV 5) Px) (sRt (dFn Dr (d1 (dV 3))))))
def Td:FN:=Al 3 5 ZI6
def ZEt:DS:=sRt (oA (cI 1) (oM (dFn Az (d2 (dV 0) (cI 1))) (cI 4)))
def Q4:FN:=Al 1 0 ZEt
def ZBf:DE:=oD (dFn Az (d2 (dV 1) (oA (oA (dV 2) (cI 5)) (oM (oA (oX (cI 3) (dV 3)) (dV 0)) (cI 6))))) (oA (cI 1) (oX (cI 7) (oD (dV 3) (cI 2))))
def X3:DE:=oD (dFn Az (d2 (dV 1) (oA (oA (dV 2) (cI 5)) (dV 0)))) (oI (Aq (dFn Ae (d4 (cI 1) (cI 64) (cI 4096) (cI 262144)))) (dV 3))
def Vm:DS:=sIf (dOr (Ay (oE (dV 7) (cI 0))) (Jp (Ay (oE (oM (dV 8) (cI 2)) (cI 1))) (Ay (oL (oA (dV 6) (cI 1)) (dV 4))))) (Ac (sC (oG (dV 7) (cI 0)) (sAs (oA (oA (dV 6) (cI 1)) (oM (oD (dV 8) (cI 2)) (oS (oS (dV 4) (dV 6)) (cI 1)))) (gV 6))) (sEx (Cw Do (dV 5) (d1 (dFn Am (d2 (dV 6) (dFn Td (d3 (dV 9) (dV 2) (dV 3))))))))) sNx
def ZDx:DS:=Ac (sC (dFn Kl (d1 (dV 0))) (sL 8 (oD (dFn Az (d2 (dV 0) (oA (dV 1) (cI 4)))) (oI (Aq (dFn Ae (d4 (cI 1) (cI 48) (cI 2304) (cI 110592)))) (dV 7))) (sAs (Aq (Bx (Bf rng1 (d1 (cI 4))) 1 [0,1,7] (gV 0) Bb X3)) (gV 9)))) Vm
def ZGK:DS:=sL 9 (Aq (Bx (Bf rng1 (d1 (cI 4))) 1 [0,1,7] (gV 0) Bb ZBf)) ZDx
def Js:DS:=sL 8 (oM (oX (oX (dFn Az (d2 (dV 0) (oA (dV 1) (cI 4)))) (cI 48271)) (oA (oX (dV 7) (dV 7)) (cI 1))) (cI 10007)) ZGK
def ZEH:DS:=sL 4 (dFn Q4 (d1 (dV 0))) (sL 5 (Ci (dFn Ae Bj)) (sL 6 (cI 0) (Ac (Bu (Bf rng1 (d1 (cI 4))) (gV 7) Js) (sRt (dFn Dr (d1 (dV 5)))))))
def R8:FN:=Al 4 6 ZEH
def Xm:DE:=dFn R5 (d1 (oI (dV 0) (cI 1)))
def ZEL:DS:=sRt (dFn Am (Ai (cS "basin") (Ai (oI (dV 3) (dV 2)) (Ai (oI (dV 4) (cI 0)) (d4 (oI (dV 4) (cI 1)) (dV 12) (dV 8) (dV 9))))))
def Lf:DS:=sL 12 (dFn Hx (d2 (dFn Az (d2 (dV 0) (oA (dV 1) (cI 3)))) (dV 5))) ZEL
def ZBw:DS:=Ac (sC (dV 7) (sL 10 (oA (dFn Ha (d1 (Aq (Bx (Ds (dV 8)) 1 [] (gV 0) Bb Xm)))) (oX (dV 5) (oM (oD (dV 6) (cI 130)) (cI 2)))) (sL 11 (oI (dV 3) (oM (oA (oA (dV 2) (cI 1)) (oM (oD (dV 6) (cI 2)) (oS (dFn Ax (d1 (dV 3))) (cI 1)))) (dFn Ax (d1 (dV 3))))) (sAs (dFn Am (d3 (dV 11) (oA (cI 1) (oM (oD (dV 6) (cI 26)) (cI 5))) (dV 10))) (gV 9))))) Lf
def Yy:DS:=sL 9 (dC .non) ZBw
def Lb:DS:=sL 8 (dFn R8 (d4 (dV 0) (dV 1) (dV 5) (dV 7))) Yy
def ZFU:DS:=sL 7 (Ho (oG (dFn Ax (d1 (dV 3))) (cI 1)) (oE (oM (dV 6) (cI 2)) (cI 1))) Lb
def ZHT:DS:=sL 6 (dFn Az (d2 (dV 0) (oA (dV 1) (cI 11)))) ZFU
def Zi:DS:=sL 5 (Aq (dFn H7 (d1 (dV 0)))) ZHT
def Og:FN:=Al 5 8 Zi
def ZKA:DS:=sL 3 (oI (cS "abcdefghijklmnopqrstuvwxyz") (oM (oD (dV 0) (cI 21)) (cI 26))) (Ac (sIf (Jp (Ay (oE (oM (dV 0) (cI 3)) (cI 1))) (Ay (oL (dV 2) (cI 9)))) (sRt (oX (dV 3) (oA (dV 1) (cI 1)))) sNx) (sL 4 (oI (cS "abcdefghijkl") (oM (oA (oX (cI 5) (dV 1)) (oD (dV 0) (cI 546))) (cI 12))) (Ac (sC (oE (oM (dV 0) (cI 3)) (cI 2)) (sRt (oA (dV 4) (oX (dV 3) (oM (oD (dV 0) (cI 3)) (cI 7)))))) (sRt (oA (oA (oX (dV 3) (oM (oD (dV 0) (cI 3)) (cI 7))) (dV 4)) (oX (dV 3) (oS (cI 6) (oM (oD (dV 0) (cI 3)) (cI 7)))))))))
def V1:FN:=Al 3 2 ZKA
def Wj:DE:=dFn V1 (d3 (dFn Az (d2 (dV 1) (cI 5))) (dV 0) (dV 2))
def N5:DS:=sIf (Ay (oL (dV 10) (cI 2))) (sEx (Cw Do (dV 5) (d1 (Aq (dFn Og (Ai (dV 0) (d4 (dV 6) (dV 4) (dV 3) (dV 9)))))))) (sIf (Ay (oL (dV 10) (cI 4))) (sEx (Cw Do (dV 5) (d1 (dFn Am (Ai (cS "town") (Ai (oI (dV 3) (dV 4)) (d4 (oI (dV 9) (cI 0)) (oI (dV 9) (cI 1)) (dV 11) (dV 12)))))))) (sEx (Cw Do (dV 5) (d1 (dFn Am (Ai (cS "mill") (d4 (oI (dV 3) (dV 4)) (oI (dV 9) (cI 0)) (oI (dV 9) (cI 1)) (dV 11))))))))
def ZAw:DS:=sL 12 (oM (dFn Az (d2 (dV 0) (oA (dV 6) (cI 4)))) (oI (Aq (dFn Ae (d2 (cI 4) (oP (cI 10) (cI 40))))) (oM (oD (dV 1) (cI 840)) (cI 2)))) N5
def ZBb:DS:=sL 11 (dFn Hx (d2 (dFn Az (d2 (dV 0) (oA (dV 6) (cI 3)))) (Aq (dFn H7 (d1 (dV 0)))))) ZAw
def Ou:DS:=sL 10 (oM (dFn Az (d2 (dV 0) (dV 6))) (cI 5)) ZBb
def ZCj:DS:=Ac (sC (oG (dV 7) (cI 0)) (sAs (dFn Am (d2 (oI (dV 3) (oA (dV 4) (dV 7))) (oI (dV 9) (cI 1)))) (gV 9))) Ou
def Z5:DS:=sL 9 (dFn Am (d2 (cS "sea") (oX (oM (dV 8) (cI 2)) (oM (oD (dV 8) (cI 2)) (cI 6))))) ZCj
def Q0:DS:=sL 8 (dFn Az (d2 (dV 0) (oA (dV 6) (cI 2)))) Z5
def ZAY:DS:=Ac (sC (oE (oM (oD (dV 1) (cI 280)) (cI 3)) (cI 1)) (sAs (dFn Jq (d2 (cI 1) (oS (oS (dV 2) (cI 1)) (dV 4)))) (gV 7))) Q0
def Vn:DS:=sL 7 (oM (dFn Az (d2 (dV 0) (oA (dV 6) (cI 1)))) (oS (dV 2) (dV 4))) ZAY
def Jt:DS:=Ac (sAs (oA (cI 6) (oX (cI 12) (dV 4))) (gV 6)) Vn
def ZDm:DS:=sL 1 (dFn Az (d2 (dV 0) (cI 0))) (sL 2 (oA (cI 1) (oM (dV 1) (cI 4))) (sL 3 (Aq (Bx (Bf rng1 (d1 (dV 2))) 1 [0,2] (gV 0) Bb Wj)) (sL 5 (Ci (dFn Ae Bj)) (Ac (Bu (Bf rng1 (d1 (dV 2))) (gV 4) Jt) (sRt (dFn Am (d2 (dFn Q4 (d1 (dV 0))) (dFn Dr (d1 (dV 5))))))))))
def Vw:FN:=Al 1 12 ZDm
def ZEs:DS:=Ac (sC (oE (dV 1) (cS "least")) (sRt (oL (dV 0) (dV 2)))) (sRt (oG (dV 0) (dV 2)))
def Va:FN:=Al 3 0 ZEs
def ZKO:DS:=sRt (dOp J7 (Qi [("lies",(.int 5)),("spilled",(.int 2)),("let",(.int 3)),("pumped",(.int 4)),("took",(.int 1))]) (dV 0))
def Ru:FN:=Al 1 0 ZKO
def Uv:DE:=oI (oI (dV 0) (dV 1)) (dV 2)
def Jv:DS:=sC (dFn Va (d3 (dV 9) (dV 4) (dV 5))) (sRt (dFn Am (d3 (cS "broken") (dV 8) (dV 9))))
def ZHq:DS:=sRt (dFn Am (d3 (cS "kept") (Cw Ij (dV 7) (d1 (dV 10))) (dV 10)))
def ZEJ:DS:=sL 10 (dIf (Ay (oE (dV 4) (cS "least"))) (dFn Gp (d1 (dV 7))) (dFn Ha (d1 (dV 7)))) ZHq
def Tz:DS:=Ac (sC (oE (dFn Ax (d1 (dV 7))) (cI 0)) (sRt (dFn Am (d3 (cS "kept") (dC .non) (dC .non))))) ZEJ
def Ot:DS:=Ac (Bu (Bf Es (d1 (dV 7))) (Ah 2 (Aa (gV 8) (Aa (gV 9) Ak))) Jv) Tz
def ZFf:DS:=sL 7 (Aq (Bx (Ds (dV 0)) 1 [3,6] (gV 0) Bb Uv)) Ot
def ZDc:DS:=sL 6 (dFn Ru (d1 (dV 2))) ZFf
def Rq:DS:=Ac (sAs (dV 1) (Ah 4 (Aa (gV 2) (Aa (gV 3) (Aa (gV 4) (Aa (gV 5) Ak)))))) ZDc
def Oe:FN:=Al 2 9 Rq
def ZG0:DS:=Ac (sAs (dV 1) (Ah 4 (Aa (gV 2) (Aa (gV 3) (Aa (gV 4) (Aa (gV 5) Ak)))))) (Ac (sIf (dOr (Ay (dOp Ml (dV 4) (dC (.tup [.str "least",.str "most"])))) (Ay (dUn (Mm [("lies","basin"),("spilled","basin"),("let","basin"),("pumped","basin"),("took","town")]) (dV 2)))) Hd sNx) (Ac (sIf (Gw (Ay (K5 J0 Kf (cI 0) (dV 3) (dFn Ax (d1 (oI (dV 0) (cI 1))))))) Hd sNx) (sC (dOp Ef (oI (oI (oI (dV 0) (cI 1)) (dV 3)) (cI 0)) (dUn (Km [("lies","basin"),("spilled","basin"),("let","basin"),("pumped","basin"),("took","town")]) (dV 2))) Hd)))
def O2:FN:=Al 2 4 ZG0
def ZC7:DE:=dOp J0 (dV 0) (dV 1)
def ZIu:DS:=Ac (sC (dOp Ef (dFn Ax (d1 (dV 0))) (dFn Ax (d1 (dV 1)))) (sRt (dC (.bl uv)))) (sRt (dFn Lg (d1 (Aq (Bx (Bf (Eg 2) (d2 (dV 0) (dV 1))) 2 [] (Ah 2 (Aa (gV 0) (Aa (gV 1) Ak))) Bb ZC7)))))
def O9:FN:=Al 2 0 ZIu
def ZBv:DE:=dFn O9 (d2 (dV 0) (dV 1))
def ZBC:DS:=Ac (sC (dOp Ef (dFn Ax (d1 (dV 0))) (dFn Ax (d1 (dV 1)))) (sRt (dC (.bl uv)))) (sRt (dFn Lg (d1 (Aq (Bx (Bf (Eg 2) (d2 (dV 0) (dV 1))) 2 [] (Ah 2 (Aa (gV 0) (Aa (gV 1) Ak))) Bb ZBv)))))
def K8:FN:=Al 2 0 ZBC
def ZHp:DS:=Ac (sAs (dV 0) (Ah 2 (Aa (gV 2) (Aa (gV 3) Ak)))) (Ac (sAs (dV 1) (Ah 2 (Aa (gV 4) (Aa (gV 5) Ak)))) (sRt (Ho (dFn O9 (d2 (dV 2) (dV 4))) (dFn K8 (d2 (dV 3) (dV 5))))))
def V9:FN:=Al 2 4 ZHp
def ZGs:DS:=sIf (dOr (Gw (Ay (dFn V9 (d2 (dV 0) (dV 1))))) (Gw (Ay (dFn K8 (d2 (dV 2) (dV 3)))))) Hd sNx
def Q7:FN:=Al 4 0 ZGs
def ZEU:DS:=sC (dOp Ef (dFn Ax (d1 (dV 1))) (oI (dV 0) (cI 0))) Hd
def Qt:FN:=Al 2 0 ZEU
def ZFS:DS:=Ac (sAs (dV 4) (Ah 4 (Aa (gV 5) (Aa (gV 6) (Aa (gV 7) (Aa (gV 8) Ak)))))) (Ac (sC (oE (dV 7) (cS "least")) (sRt (dFn Am (d2 (dV 0) (dV 2))))) (sRt (dFn Am (d2 (dV 1) (dV 3)))))
def O7:FN:=Al 5 4 ZFS
def T9:DE:=oA (dV 0) (oI (dV 1) (cI 0))
def Q9:DE:=Ci (oA (Aq (dFn Ji (d1 (Aq (dSl (dV 0) (uz (cI 1)) uj))))) (Aq (dFn Ae (d1 (cI 0)))))
def ZG1:DS:=Ac (sAs (dV 2) (Ah 2 (Aa (gV 5) (Aa (gV 6) Ak)))) (Ac (Eb "Course" (dV 0) (dV 1) "house") (Ac (Eb "Course" (dV 0) (dV 5) "levels") (Ac (Eb "Course" (dV 0) (oM (dV 3) (oI (dV 1) (cI 0))) "year_turn") (Ac (Eb "Course" (dV 0) (Bx (Bf (Eg 2) (d2 (dV 4) (dV 6))) 2 [] (Ah 2 (Aa (gV 0) (Aa (gV 1) Ak))) Bb T9) "came") (Ac (Eb "Course" (dV 0) (Bx (Ds (dV 6)) 1 [] (gV 0) Bb Q9) "coming") (Ac (Eb "Course" (dV 0) (Ci (dOp Ei (dFn Ae (d1 (dC .non))) (dFn Ax (d1 (dV 5))))) "page") (Eb "Course" (dV 0) (Ci (dFn Ae Bj)) "reaches")))))))
def Qg:FN:=Al 5 2 ZG1
def ZG8:DS:=sIf (Ay (oE (dV 2) (cI 0))) (Jk (Dl "Course" (dV 0) "came") (dV 1) (dV 3) Jf) (Jk (oI (Dl "Course" (dV 0) "coming") (dV 1)) (oS (dV 2) (cI 1)) (dV 3) Jf)
def Oh:FN:=Al 4 0 ZG8
def Nm:DS:=sC (oE (oI (dV 3) (cI 1)) (dV 1)) (sRt (dV 2))
def ZF5:DS:=Ac (Bu (Bf Es (d1 (oI (dV 0) (cI 1)))) (Ah 2 (Aa (gV 2) (Aa (gV 3) Ak))) Nm) Hd
def Oo:FN:=Al 2 2 ZF5
def ZEv:DS:=sL 2 (oI (oI (oI (dV 0) (cI 1)) (dV 1)) (cI 2)) (Ac (sC (oE (dV 2) (cS "sea")) (sRt (dC .non))) (sRt (dFn Oo (d2 (dV 0) (dV 2)))))
def Q6:FN:=Al 2 1 ZEv
def ZJX:DS:=sL 3 (dFn Q6 (d2 (Dl "Course" (dV 0) "house") (dV 1))) (sC (dOp I7 (dV 3) (dC .non)) (sEx (Ew "Course" "send" Oh (dV 0) (d3 (dV 3) (oI (oI (oI (Dl "Course" (dV 0) "house") (cI 1)) (dV 1)) (cI 3)) (dV 2)))))
def Oz:FN:=Al 3 1 ZJX
def R4:DS:=sL 7 (dFn R0 (d2 (cI 0) (dFn Jq (d2 (dV 5) (oS (dV 1) (dV 4)))))) (sIf (Ay (oE (dV 6) (cS "river"))) (sAu 2 (dV 7) Jf) (sAu 3 (dV 7) Jf))
def ZGw:DS:=sL 2 (cI 0) (sL 3 (cI 0) (Ac (Bu (Ds (dV 0)) (Ah 3 (Aa (gV 4) (Aa (gV 5) (Aa (gV 6) Ak)))) R4) (sRt (dFn Am (d3 (dV 2) (dV 3) (oS (oS (dV 1) (dV 2)) (dV 3)))))))
def Vk:FN:=Al 2 6 ZGw
def Tc:DS:=sC (dOp J0 (dV 3) (dV 1)) (sAs (dV 4) (gV 2))
def ZJr:DS:=sL 2 (dFn Am Bj) (Ac (Bu (Ds (dV 0)) (Ah 2 (Aa (gV 3) (Aa (gV 4) Ak))) Tc) (sRt (dV 2)))
def Rr:FN:=Al 2 3 ZJr
def ZII:DS:=sL 2 (oI (oI (Dl "Course" (dV 0) "house") (cI 1)) (dV 1)) (sL 3 (oI (Dl "Course" (dV 0) "came") (dV 1)) (Ac (sAs (dFn Vk (d2 (dFn Rr (d2 (oI (dV 2) (cI 5)) (Dl "Course" (dV 0) "year_turn"))) (oA (oI (Dl "Course" (dV 0) "levels") (dV 1)) (dV 3)))) (Ah 3 (Aa (gV 4) (Aa (gV 5) (Aa (gV 6) Ak))))) (sL 7 (dFn Jq (d2 (dV 6) (oI (dV 2) (cI 4)))) (sL 8 (oS (dV 6) (dV 7)) (Ac (sAs (dFn Am (Ai (dV 3) (Ai (cI 0) (d4 (dV 8) (dV 4) (dV 5) (dV 7))))) (gIx (Dl "Course" (dV 0) "page") (dV 1))) (Ac (sEx (Ew "Course" "send_down" Oz (dV 0) (d2 (dV 1) (oA (dV 4) (dV 8))))) (sC (dOp I7 (oI (dV 2) (cI 6)) (dC .non)) (sEx (Ew "Course" "send" Oh (dV 0) (d3 (dFn Oo (d2 (Dl "Course" (dV 0) "house") (oI (oI (dV 2) (cI 6)) (cI 0)))) (oI (oI (dV 2) (cI 6)) (cI 1)) (dV 5)))))))))))
def U6:FN:=Al 2 7 ZII
def Y4:DE:=oS (oI (dV 0) (cI 1)) (dV 1)
def Ni:DS:=sC (dOp I7 (oI (dV 3) (cI 0)) (dC .non)) (Jk (dV 2) (oI (dV 3) (cI 0)) (oI (dV 2) (dV 4)) Jf)
def ZGt:DS:=sL 2 (Bx (Bf (Eg 2) (d2 (dV 0) (dV 1))) 2 [] (Ah 2 (Aa (gV 0) (Aa (gV 1) Ak))) Bb Y4) (Ac (Bu (Bf Es (d1 (dV 0))) (Ah 2 (Aa (gV 4) (Aa (gV 3) Ak))) Ni) (sRt (dV 2)))
def Mh:FN:=Al 2 3 ZGt
def ZIO:DS:=sL 2 (oI (dV 0) (cI 1)) (sL 3 (dFn Q6 (d2 (dV 0) (dV 1))) (Ac (sIf (dOr (Ay (dOp K9 (dV 3) (dC .non))) (Ay (oG (oI (oI (dV 2) (dV 1)) (cI 3)) (cI 0)))) (sRt (dC .non)) sNx) (Ac (sIf (dOr (Ay (oE (oI (oI (dV 2) (dV 1)) (cI 0)) (cS "basin"))) (Ay (oE (oI (oI (dV 2) (dV 3)) (cI 0)) (cS "basin")))) (sRt (dC .non)) sNx) (sRt (dV 3)))))
def Oa:FN:=Al 2 2 ZIO
def Qv:DS:=sL 5 (oI (oI (dV 0) (cI 1)) (dV 4)) (sL 6 (dFn Oa (d2 (dV 0) (dV 4))) (sL 7 (dIf (Ay (dOp K9 (dV 6) (dC .non))) (dC .non) (Cw Ij (dV 1) (d1 (dV 6)))) (sIf (Ay (oE (oI (dV 5) (cI 0)) (cS "town"))) (sEx (Cw Do (dV 3) (d1 (dFn Am (d4 (dV 7) (oI (dV 2) (dV 4)) (oI (dV 5) (cI 4)) (oI (dV 5) (cI 5))))))) (sEx (Cw Do (dV 3) (d1 (dFn Am (d4 (dV 7) (oI (dV 2) (dV 4)) (cI 0) (cI 0)))))))))
def ZHV:DS:=sL 3 (Ci (dFn Ae Bj)) (Ac (Bu (Ds (dV 1)) (gV 4) Qv) (sRt (dV 3)))
def Ri:FN:=Al 3 5 ZHV
def ZBX:DE:=dFn Am (d2 (oI (dV 1) (cI 3)) (dV 0))
def Yc:DE:=dV 1
def ZHc:DS:=sL 1 (Aq (dFn Mp (d1 (Aq (Bx (Bf Es (d1 (dV 0))) 2 [] (Ah 2 (Aa (gV 0) (Aa (gV 1) Ak))) Bb ZBX))))) (sRt (Bx (Ds (dV 1)) 2 [] (Ah 2 (Aa (gV 0) (Aa (gV 1) Ak))) Bb Yc))
def Su:FN:=Al 1 1 ZHc
def O8:DS:=Ac (sEx (Cw Do (dV 2) (d1 (dV 3)))) (sAs (oI (oI (dV 0) (dV 3)) (cI 0)) (gV 3))
def Jz:DB:=(Ay (dOp I7 (dV 3) (dC .non)))
def ZJF:DS:=sL 2 (Ci (dFn Ae (d1 (dV 1)))) (sL 3 (oI (oI (dV 0) (dV 1)) (cI 0)) (Ac (sWh Jz O8 fuel) (sRt (dV 2))))
def Sg:FN:=Al 2 2 ZJF
def ZCQ:DE:=oI (dV 1) (dV 0)
def Uj:DS:=Jk (dV 2) (dV 6) (dV 5) M9
def Pb:DS:=sL 4 (Aq (dFn Sg (d2 (dV 0) (dV 3)))) (sL 5 (dFn Jq (d2 (oI (oI (dV 0) (dV 3)) (cI 2)) (dFn Gp (d1 (Aq (Bx (Ds (dV 4)) 1 [2] (gV 0) Bb ZCQ)))))) (Ac (sAs (dV 5) (gIx (dV 1) (dV 3))) (Bu (Ds (dV 4)) (gV 6) Uj)))
def ZJ0:DS:=sL 1 (Ci (dOp Ei (dFn Ae (d1 (cI 0))) (dFn Ax (d1 (dV 0))))) (sL 2 (Ci (dFn Mh (d2 (dV 0) (dV 1)))) (Ac (Bu (Ds (Aq (dFn Su (d1 (dV 0))))) (gV 3) Pb) (sRt (dV 1))))
def Tq:FN:=Al 1 6 ZJ0
def Jo:DS:=Ac (sAs (dFn Am (Ai (oA (dV 5) (dV 6)) (Ai (dV 5) (d4 (cI 0) (dV 6) (cI 0) (cI 0))))) (gIx (Dl "Course" (dV 0) "page") (dV 4))) (sC (oE (dV 4) (oI (dV 1) (dUn Gr (cI 1)))) (sEx (Ew "Course" "send_down" Oz (dV 0) (d2 (dV 4) (dV 6)))))
def ZI5:DS:=sL 2 (Aq (dFn Ri (d3 (Dl "Course" (dV 0) "house") (dV 1) (Dl "Course" (dV 0) "came")))) (sL 3 (Aq (dFn Tq (d1 (dV 2)))) (Ac (Bu (Bf (Eg 3) (d3 (dV 1) (dV 3) (Aq (dFn Mh (d2 (dV 2) (dV 3)))))) (Ah 3 (Aa (gV 4) (Aa (gV 5) (Aa (gV 6) Ak)))) Jo) (sEx (Cw Do (Dl "Course" (dV 0) "reaches") (d1 (Ci (dFn Am (d2 (dV 1) (dV 2)))))))))
def Tr:FN:=Al 2 5 ZI5
def Ux:DS:=sL 3 (dFn Oa (d2 (dV 0) (dV 2))) (sC (dOp I7 (dV 3) (dC .non)) (sAs (oI (dV 1) (dV 3)) (gIx (dV 1) (dV 2))))
def ZFJ:DS:=sL 1 (Ci (dLR (d1 (dFn Ax (d1 (oI (dV 0) (cI 1))))))) (Ac (Bu (Bf rng3 (d3 (oS (dFn Ax (d1 (oI (dV 0) (cI 1)))) (cI 1)) (dUn Gr (cI 1)) (dUn Gr (cI 1)))) (gV 2) Ux) (sRt (dV 1)))
def Ro:FN:=Al 1 3 ZFJ
def Vt:DE:=dV 0
def Py:DB:=(Ay (dOp Fi (dV 1) (dV 2)))
def Mq:DS:=sIf (Ay (oE (oI (oI (oI (Dl "Course" (dV 0) "house") (cI 1)) (dV 2)) (cI 0)) (cS "basin"))) (sEx (Ew "Course" "go_basin" U6 (dV 0) (d1 (dV 2)))) (sC (oE (dV 3) (dV 2)) (sEx (Ew "Course" "go_reach" Tr (dV 0) (d1 (Aq (Bx (Bf Es (d1 (dV 1))) 2 [2] (Ah 2 (Aa (gV 0) (Aa (gV 1) Ak))) Py Vt))))))
def ZGb:DS:=sL 1 (Aq (dFn Ro (d1 (Dl "Course" (dV 0) "house")))) (Bu (Bf Es (d1 (dV 1))) (Ah 2 (Aa (gV 2) (Aa (gV 3) Ak))) Mq)
def Vb:FN:=Al 1 3 ZGb
def Tw:DE:=oI (dV 0) (cI 5)
def Uk:DE:=dFn Dr (d1 (dV 0))
def ZFK:DS:=sRt (dFn Am (d2 (dFn Dr (d1 (Aq (Bx (Ds (Dl "Course" (dV 0) "page")) 1 [] (gV 0) Bb Tw)))) (dFn Dr (d1 (Aq (Bx (Ds (Dl "Course" (dV 0) "coming")) 1 [] (gV 0) Bb Uk))))))
def Ra:FN:=Al 1 0 ZFK
def ZJO:DS:=sL 4 (Qc "Course" Qg (d4 (dV 0) (dV 1) (dV 2) (dV 3))) (Ac (sEx (Ew "Course" "go" Vb (dV 4) Bj)) (sRt (dFn Am (d2 (dFn Dr (d1 (Dl "Course" (dV 4) "page"))) (Ew "Course" "state_behind" Ra (dV 4) Bj)))))
def Uc:FN:=Al 4 1 ZJO
def Pj:DS:=Ac (sAs (dFn Uc (d4 (dV 0) (dV 1) (dV 5) (dV 6))) (Ah 2 (Aa (gV 7) (Aa (gV 1) Ak)))) (sEx (Cw Do (dV 4) (d1 (dV 7))))
def ZDk:DS:=sL 4 (Ci (dFn Ae Bj)) (Ac (Bu (O5 (d1 (dV 3)) (dV 2)) (Ah 2 (Aa (gV 5) (Aa (gV 6) Ak))) Pj) (sRt (dFn Am (d2 (dV 4) (dV 1)))))
def My:FN:=Al 4 4 ZDk
def Jy:DS:=Ac (sC (oG (dFn Ax (d1 (dV 4))) (dV 3)) (sRz "TooLong" "most" (d1 (dV 3)))) (Ac (sNr (sAs (Ci (dFn My (d4 (dV 0) (oI (dV 4) (dUn Gr (cI 1))) (cI 0) (dV 2)))) (Ah 2 (Aa (gV 6) (Aa (gV 7) Ak))))) (Ac (sNr (sEx (Cw Mf (dV 5) (d1 (dV 6))))) (sNr (sEx (Cw Do (dV 4) (d1 (dV 7)))))))
def Pk:DB:=(Ay (dOp Kh (dOp Bk (dV 4) (dUn Gr (dC (.int 1)))) (Aq (dSl (dV 4) uj (uz (dUn Gr (dC (.int 1))))))))
def Xg:DS:=Ac (sNr (sAs (Ci (dFn Ae (d1 (dV 1)))) (gV 4))) (Ac (sNr (sAs (Ci (dFn Ae Bj)) (gV 5))) (Ac (sWh Pk Jy fuel) (sNr (sRt (dFn Am (d2 (dV 4) (dV 5)))))))
def Kr:FN:=Al 4 4 Xg
def Wc:DS:=Ac (sNr (sEx (dFn O2 (d2 (dV 0) (dV 5))))) (Ac (sNr (sEx (dFn Qt (d2 (dV 0) (dV 3))))) (Ac (sNr (sEx (dFn Q7 (d4 (dV 1) (dV 2) (dV 3) (dV 4))))) (Ac (sNr (sAs (dFn O7 (Ai (dV 1) (d4 (dV 2) (dV 3) (dV 4) (dV 5)))) (Ah 2 (Aa (gV 7) (Aa (gV 8) Ak))))) (Ac (sAs (Aq (dFn Kr (d4 (dV 0) (dV 7) (dV 8) (dV 6)))) (Ah 2 (Aa (gV 9) (Aa (gV 10) Ak)))) (sNr (sRt (dFn Oe (d2 (dV 10) (dV 5)))))))))
def Gq:FN:=Al 7 4 Wc
def ZFd:DS:=sAs (dUn (gtx ["TooLong"] "most") (dV 8)) (gV 7)
def ZIK:DS:=sL 7 (dC .non) (Ac (Ik (sEx (dTc Gq (Ai (dV 0) (Ai (dV 1) (Ai (dV 2) (d4 (dV 3) (dV 4) (dV 5) (dV 6))))))) (Qw ["TooLong"] [] 8 ZFd W5)) (sRt (dV 7)))
def Pg:FN:=Al 7 2 ZIK
def ZFM:DS:=sAs (oD (dV 9) (cI 3)) (gV 9)
def Pz:DS:=Ac (sEx (Cw Do (dV 10) (d1 (oX (dV 3) (oM (dV 9) (cI 3)))))) ZFM
def ZFn:DS:=sEx (Cw Do (dV 6) (d1 (dFn Dr (d1 (dV 10)))))
def Vu:DS:=Ac (Bu (Bf rng1 (d1 (cI 5))) (gV 11) Pz) ZFn
def ZJg:DS:=sL 10 (Ci (dFn Ae Bj)) Vu
def ZEI:DS:=sL 9 (dFn Az (d2 (dV 0) (oA (oA (dV 4) (dFn Ax (d1 (dV 2)))) (dV 7)))) ZJg
def Vh:DS:=Ac (sEx (Cw Do (dV 5) (d1 (dV 8)))) ZEI
def ZHe:DS:=Ac (sC (oE (oI (oI (dV 2) (dV 7)) (cI 0)) (cS "basin")) (sAs (oM (dFn Hx (d2 (dFn Az (d2 (dV 0) (oA (dV 4) (dV 7)))) (dV 3))) (oA (oI (oI (dV 2) (dV 7)) (cI 4)) (cI 1))) (gV 8))) Vh
def Pr:DS:=sL 8 (cI 0) ZHe
def ZEj:DS:=sL 2 (oI (dV 1) (cI 1)) (sL 3 (Aq (dFn H7 (d1 (dV 0)))) (sL 4 (oA (cI 6) (oX (cI 12) (dFn Ax (d1 (dV 2))))) (sL 5 (Ci (dFn Ae Bj)) (sL 6 (Ci (dFn Ae Bj)) (Ac (Bu (Bf rng1 (d1 (dFn Ax (d1 (dV 2))))) (gV 7) Pr) (sRt (dFn Am (d2 (dFn Dr (d1 (dV 5))) (dFn Dr (d1 (dV 6)))))))))))
def Ry:FN:=Al 2 10 ZEj
def Om:DS:=sIf (Jp (Ay (dOp I7 (dV 1) (dC .non))) (dOr (Gw (Ay (dFn Eh (d2 (dV 1) (dC (.ty "int")))))) (Ay (dFn Eh (d2 (dV 1) (dC (.ty "bool"))))))) (sRt (dC (.bl uv))) sNx
def ZDf:DS:=Ac (sIf (dOr (Gw (Ay (dFn Eh (d2 (dV 0) (dC (.ty "tuple")))))) (dOr (Ay (dOp Ef (dFn Ax (d1 (dV 0))) (cI 3))) (Gw (Ay (dFn Eh (d2 (oI (dV 0) (cI 0)) (dC (.ty "str")))))))) (sRt (dC (.bl uv))) sNx) (Ac (Bu (Ds (Aq (dSl (dV 0) (uz (cI 1)) uj))) (gV 1) Om) (sRt (dC (.bl ux))))
def M3:FN:=Al 1 1 ZDf
def Xx:DS:=Ac (sNr (sEx (dFn Qt (d2 (dV 0) (dV 2))))) (Ac (sAs (Ci (dFn Kr (d4 (dV 0) (dV 1) (dV 2) (dV 3)))) (Ah 2 (Aa (gV 4) (Aa (gV 5) Ak)))) (sNr (sRt (dV 4))))
def Lp:FN:=Al 4 2 Xx
def ZIn:DS:=sAs (Aq (dFn Ae Bj)) (gV 5)
def Xb:DS:=sL 4 (dC .non) (Ac (Ik (sAs (dTc Lp (d4 (dV 0) (dV 1) (dV 2) (dV 3))) (gV 5)) (Pn ["TooLong"] [] ZIn W5)) (Ac (sC (oG (dFn Ax (d1 (dV 5))) (cI 0)) (sAs (oS (dFn Ax (d1 (dV 5))) (cI 1)) (gV 4))) (sRt (dV 4))))
def Gi:FN:=Al 4 2 Xb
def ZEz:DS:=Ac (sEx (dFn O2 (d2 (dV 0) (dV 6)))) (Ac (sEx (dFn Q7 (d4 (dV 1) (dV 2) (dV 4) (dV 5)))) (Ac (sAs (dFn O7 (Ai (dV 1) (d4 (dV 2) (dV 4) (dV 5) (dV 6)))) (Ah 2 (Aa (gV 7) (Aa (gV 8) Ak)))) (Ac (sAs (Aq (dFn My (d4 (dV 0) (dV 7) (dV 3) (dV 8)))) (Ah 2 (Aa (gV 9) (Aa (gV 10) Ak)))) (sRt (dFn Oe (d2 (dV 9) (dV 6)))))))
def Qy:FN:=Al 7 4 ZEz
def ZGr:DS:=sRt (oE (dFn (dfx 100 Gq) (Ai (dV 1) (Ai (dV 3) (d4 (dV 5) (dV 4) (dV 6) (dV 7))))) (dV 10))
def ZKE:DS:=Ac (sIf (dOr (Ay (dOp Ef (dV 11) (Aq (dFn Ae (d2 (dV 4) (dV 6)))))) (dOr (Gw (Ay (dFn M3 (d1 (dV 12))))) (Ay (dOp Ef (dV 12) (dV 10))))) (sRt (dC (.bl uv))) sNx) ZGr
def ZFc:DS:=sL 12 (dFn Gq (Ai (dV 1) (Ai (dV 3) (Ai (dV 5) (d4 (oI (dV 11) (cI 0)) (oI (dV 11) (cI 1)) (dV 7) (dV 2)))))) ZKE
def ZEu:DS:=sL 11 (Aq (dFn Ae (d2 (Aq (dFn Ji (d1 (dV 4)))) (Aq (dFn Ji (d1 (dV 6))))))) ZFc
def ZIN:DS:=sL 10 (dFn Qy (Ai (dV 1) (Ai (dV 3) (Ai (dV 5) (d4 (cI 0) (Aq (dOp Ei (dV 4) (dV 8))) (Aq (dOp Ei (dV 6) (dV 8))) (dV 7)))))) ZEu
def M7:DS:=Ac (sC (dOp K9 (dV 8) (dC .non)) (sL 9 (dFn Pg (Ai (dV 1) (Ai (dV 3) (Ai (dV 5) (d4 (dV 4) (dV 6) (dV 7) (dV 2)))))) (sRt (Ho (dFn Eh (d2 (dV 9) (dC (.ty "int")))) (Ho (Th (dFn Eh (d2 (dV 9) (dC (.ty "bool"))))) (oE (dV 9) (dV 2))))))) ZIN
def ZEC:DS:=Ac (sC (oE (oI (dV 7) (cI 2)) (cS "most")) (sAs (dFn Gi (d4 (dV 1) (dV 5) (dV 6) (dV 2))) (gV 8))) M7
def Vx:DS:=sL 8 (dFn Gi (d4 (dV 1) (dV 3) (dV 4) (dV 2))) ZEC
def ZCC:DS:=Ac (sC (dOp K9 (dV 7) (dC .non)) (sRt (dC (.bl ux)))) Vx
def X8:DS:=sL 7 (Aq (dFn P0 (d2 (dV 0) (dV 1)))) ZCC
def Wa:DS:=Ac (sAs (Aq (dFn Od (d4 (dV 0) (dV 1) (dV 3) (dV 4)))) (Ah 2 (Aa (gV 5) (Aa (gV 6) Ak)))) X8
def ZCJ:DS:=sL 4 (Aq (dFn Ut (d3 (dV 0) (dV 1) (oI (dV 1) (cI 0))))) Wa
def ZB4:DS:=sL 3 (dFn Ry (d2 (dV 0) (dV 1))) ZCJ
def ZA2:DS:=sL 2 (oM (dFn Az (d2 (dV 0) (cI 3))) (cI 10)) ZB4
def ZC9:DS:=sL 1 (dFn Vw (d1 (dV 0))) ZA2
def Ja:FN:=Al 1 12 ZC9
def Holds:Prop:=∀ns:List Int,ns.length<=63->∃G,Ja [.fl (ns.map D.int)] []=.ok (.bl ux) G
end _W
namespace _W
open PySem _L _D
seal QE QT QA QS QSs QG QGs QI QTs QW QO
structure Txt (K:za) (mg:Str->Option xB):Prop where
 ZCT:FT K mg "_law_amount" Zd ZCM
 ZCs:FT K mg "_law_off" ZBR ZAW
 ZCZ:FT K mg "_law_tape" Wu Yw
 Yz:FT K mg "_law_cell_at" Wt Zv
 ZAm:FT K mg "_law_unit" ZCm ZB3
 ZAO:FT K mg "_law_added" ZCg ZB1
 ZBm:FT K mg "_law_ask" ZAZ ZAV
 Yo:FT K mg "_law_floods" ZCy ZAx
 ZCO:FT K mg "_law_pumped" Ws ZBK
 ZAS:FT K mg "_law_steps" Z9 ZCR
 Yl:FT K mg "_law_year" ZAM ZCf
 ZCb:FT K mg "_law_rule" ZBi ZBx
 ZBS:FT K mg "_law_basin" ZCq ZB2
 Xy:FT K mg "_law_name" ZCx ZCX
 ZBI:FT K mg "_law_house" ZCi Wk
 Ze:FT K mg "is_beyond" Z8 ZCh
 ZAz:FT K mg "part_asked" Xc ZCN
 Zy:FT K mg "answered" Y9 ZCW
 ZCu:FT K mg "check_ask" Xl ZAs
 Wv:FT K mg "none_above" Xz ZBs
 ZB9:FT K mg "rows_under" Xq Zj
 ZBH:FT K mg "under" Wi W6
 ZB0:FT K mg "check_bounds" ZCe Ys
 ZAr:FT K mg "check_year" ZC1 ZA0
 W9:FT K mg "looked_through" ZA5 ZCp
 ZBt:MT K "Course" "__init__" "Course.__init__" ZAi Wr
 Ul:MT K "Course" "send" "Course.send" ZCS ZCk
 Yi:FT K mg "number_of" ZCv Xe
 ZCP:FT K mg "down_of" Ym X4
 Vs:MT K "Course" "send_down" "Course.send_down" ZC0 Za
 W3:FT K mg "opened" Yb ZBU
 W2:FT K mg "stairs_at" ZB7 Z6
 Vy:MT K "Course" "go_basin" "Course.go_basin" ZAE W0
 ZAb:FT K mg "passed" ZAF ZBn
 ZBz:FT K mg "down_in_reach" ZCt Xk
 Zb:FT K mg "reach_rows" Zr Wb
 ZBy:FT K mg "served" ZCo Zx
 ZBP:FT K mg "way_down" ZC8 Zc
 ZB8:FT K mg "shares" ZAC Zf
 Ue:MT K "Course" "go_reach" "Course.go_reach" Z1 ZCz
 Zh:FT K mg "lasts_of_reaches" Zm ZAj
 Ve:MT K "Course" "go" "Course.go" Xj ZBJ
 Ug:MT K "Course" "state_behind" "Course.state_behind" ZAR Wz
 ZCU:FT K mg "turn" Yj ZAg
 ZB6:FT K mg "run" ZBq Xu
 Qn:FT K mg "years_until_again" ZBA ZC4
 Qs:FTD K mg "look_ever" ZAv Yg 100
 Wm:FT K mg "_law_most" ZCD Yv
 ZBN:FT K mg "_law_state" W7 ZBh
 ZBQ:FT K mg "_law_told" ZCI ZAJ
 Xd:FTD K mg "ever" Y0 ZBo 100
 ZA1:FT K mg "_law_years" ZBe Xv
 ZCY:FT K mg "look" ZBV Y7
 Rx:FT K mg "law" Gb ZCn
 Dz:CT K mg "Course"
 ZGa:NoAttr K (Ab K "Course") "came"
 ZES:NoAttr K (Ab K "Course") "coming"
 ZDd:NoAttr K (Ab K "Course") "house"
 ZDs:NoAttr K (Ab K "Course") "levels"
 ZDC:NoAttr K (Ab K "Course") "page"
 ZE1:NoAttr K (Ab K "Course") "reaches"
 ZHj:NoAttr K (Ab K "Course") "year_turn"
 ZTx:mg "all"=uj
 ZMZ:mg "bool"=uj
 ZPC:mg "enumerate"=uj
 ZTO:mg "int"=uj
 ZNX:mg "isinstance"=uj
 ZP7:mg "len"=uj
 ZVP:mg "list"=uj
 ZNq:mg "max"=uj
 ZLK:mg "min"=uj
 ZVu:mg "range"=uj
 ZUw:mg "sorted"=uj
 ZMP:mg "str"=uj
 ZMz:mg "tuple"=uj
 ZQr:mg "zip"=uj
 ZGE:mg "BRIM"=uz (.int 4 (Cg K "BRIM"))
 ZJL:mg "DELAY"=uz (.int 3 (Cg K "DELAY"))
 ZGT:mg "DOWN"=uz (.int 2 (Cg K "DOWN"))
 ZJI:mg "KIND"=uz (.int 0 (Cg K "KIND"))
 ZHh:mg "LET"=uz (.int 3 (Cg K "LET"))
 ZGg:mg "LIES"=uz (.int 5 (Cg K "LIES"))
 ZI1:mg "NAME"=uz (.int 1 (Cg K "NAME"))
 ZKB:mg "NEED"=uz (.int 4 (Cg K "NEED"))
 ZGA:mg "PLACES"=uz (.int 1 (Cg K "PLACES"))
 ZDp:mg "PUMP"=uz (.int 6 (Cg K "PUMP"))
 ZJZ:mg "PUMPED"=uz (.int 4 (Cg K "PUMPED"))
 ZIo:mg "PUMP_DELAY"=uz (.int 1 (Cg K "PUMP_DELAY"))
 ZDr:mg "PUMP_TO"=uz (.int 0 (Cg K "PUMP_TO"))
 ZJK:mg "RANK"=uz (.int 5 (Cg K "RANK"))
 ZJV:mg "ROW_DOWN"=uz (.int 0 (Cg K "ROW_DOWN"))
 ZDg:mg "ROW_NEED"=uz (.int 2 (Cg K "ROW_NEED"))
 ZDQ:mg "ROW_RANK"=uz (.int 3 (Cg K "ROW_RANK"))
 ZI8:mg "ROW_WATER"=uz (.int 1 (Cg K "ROW_WATER"))
 ZKF:mg "RULE"=uz (.int 5 (Cg K "RULE"))
 ZFo:mg "SEA"=uz (.str "sea" (Cg K "SEA"))
 ZG3:mg "SPILLED"=uz (.int 2 (Cg K "SPILLED"))
 ZHR:mg "TOOK"=uz (.int 1 (Cg K "TOOK"))
 ZHx:mg "YEAR"=uz (.int 0 (Cg K "YEAR"))
 ZBc:TupG K mg "SENSES" ["least","most"]
 U5:DctG K mg "KINDS_ASKED" [("lies","basin"),("spilled","basin"),("let","basin"),("pumped","basin"),("took","town")]
 ZAc:MT K "TooLong" "__init__" "TooLong.__init__" ZBk ["self","most"]
 Nk:ET K mg "TooLong" "most"
 ZDS:XBase K mg "WaterError" (Ab K "WaterError")
 ZBZ:mg "TooLong"=uz (.ref (Ab K "TooLong"))
 ZCL:Hv K (Ab K "TooLong") (Ab K "TooLong") ux=ux
section
seal Jp Ho dC K5 Bx Ai Qi Dl dFn Aq dIf dLR Qc Ew Cw Bj Gw Th dOp dOr S7 dSl dTc Ci Ay dUn dV Lg Eh Ax Ji R0 Ha Jq Gp Mp Dr Aa gIx Ak Ah gV O5 Es Bf Ds Eg Do Mf Ij Hw Mt Fi U8 Km Mm Mx K9 I7 Bk J7 J0 Kf Hy Bt Ef Gr Ml Kh Ny Ei M9 rng1 rng3 sAs sAu Jk Hd sEx Eb Bu sIf sNr sNx sRt sRz Ac Ik sWh
local macro_rules | `(tactic|trivial)=> `(tactic|first|refine' (_:String)|refine' (_:Str)|refine' (_:xY))
local macro_rules | `(tactic|trivial)=>pure (wR "QS _ _|_ (sAs (Aq _) _):-ZQ3 ?|(Stmt.Assign (List.cons (Expr.Name .) List.nil) (Expr.ListComp .) .) _:-ZVv _ nd ? L ? l l|(Stmt.Assign (List.cons (Expr.Name .) List.nil) .) (sAs _ (gV _)):-ZEg _ nd ?|_ (sEx _):-ZRt ?|_ (sAs _ _):-ZRi ? ?|_ (Eb _ _ _ _):-ZNL ? ? ? ? ?|_ (Bu _ _ _):-ZQy PassesOwn.never rfl ? ? ?|_ (Jk _ _ _ _):-ZN6 ? ? ? ?|_ (sAu _ _ _):-ZRw _ nd ? ?|_ (sWh _ _ _):-ZGR fuel PassesOwn.never ? ?|@ZFm,@Mg,@ZMO,-ZNT T.Nk (ZLr T) T.ZAc.b hr ?#QE _ _|_ (dV _):.Mi _|(Expr.Subscript .) (dOp _ _ _):-ZHD ? ? ?|(Expr.Compare .) _:-ZLP ? ? ? (nomark _)|(Expr.Call (Expr.Name .) .) (dFn _ _):<ZTm ? rfl ? ? ?,<ZSY ? rfl ? ? ?,-Bh (ZS8 T) T.Yz hr ?,-Bh (ZTT T) T.ZCT hr ?,-Bh (ZQb T) T.ZAm hr ?,-Bh (ZSB T) T.ZCZ hr ?,-Bh (ZLW T) T.Yl hr ?,-Bh (ZQn T) T.Wv hr ?,-Bh (ZTH T) T.ZB9 hr ?,-Bh (ZQm T) T.Yi hr ?,-Bh (ZNt T) T.ZCP hr ?,-Bh (ZVT T) T.ZBz hr ?,-Bh (ZK2 T) T.ZAb hr ?,-Bh (ZNy T) T.ZB6 hr ?,-Bh (ZMS T) T.ZCu hr ?,-Bh (ZPm T) T.ZAr hr ?,-Bh (ZLn T) T.ZB0 hr ?,-Bh (ZPL T) T.W9 hr ?,-ZHQ (ZPh T) (hr.mono d) rfl T.Qn.m T.Qn.k T.Qn.b ZST ?,-Bh (ZKu T) T.Zy hr ?,-Bh (ZPO T) T.ZA1 hr ?,-Bh (ZKR T) T.ZCs hr ?,-Bh (ZPi T) T.ZAS hr ?,-Bh (ZKm T) T.ZCb hr ?,-Bh (ZPE T) T.ZCO hr ?,-Bh (ZUu T) T.Xy hr ?,-Bh (ZQA T) T.ZBS hr ?,-Bh (ZNU T) T.ZAz hr ?,-Bh (ZPx T) T.Ze hr ?,-Bh (ZUH T) T.ZBH hr ?,-Bh (ZNe T) T.W2 hr ?,-Bh (ZV7 T) T.W3 hr ?,-Bh (ZVs T) T.ZBy hr ?,-Bh (ZLQ T) T.ZBP hr ?,-Bh (ZTs T) T.Zb hr ?,-Bh (ZNc T) T.ZB8 hr ?,-Bh (ZQX T) T.Zh hr ?,-Bh (ZKU T) T.ZCU hr ?,-Bh (ZPR T) T.ZBI hr ?,-Bh (ZNR T) T.ZBN hr ?,-Bh (ZQf T) T.Yo hr ?,-Bh (ZLY T) T.ZAO hr ?,-Bh (ZVy T) T.ZBm hr ?,-Bh (ZQc T) T.Wm hr ?,-Bh (ZTA T) T.ZCY hr ?,-Bh (ZVM T) T.ZBQ hr ?|_ (Cw _ _ _):-ZMe ? ? ? ? ?|_ (Dl _ _ _):-ZLe ? ? ? ?|(Expr.Name .) (dC (D.ty .)):-ZTq rfl ? ?|_ (dSl _ _ _):-ZUG ? ? ?|_ (dLR _):-ZSq rfl rfl ? rfl ? ?|_ (Bx _ _ _ _ _ _):-ZPc ? L ? l l|(Expr.Name .) (dC _):<ZOb rfl ?,<ZMA rfl ?|(Expr.Call _ (List.cons .) .) (Ew _ _ _ _ _):-Tg T.Dz.N T.Dz.cl T.Ul.me (ZVx T) (hr.mono d) T.Ul.b pass0 ? ?,-Tg T.Dz.N T.Dz.cl T.Vs.me (ZTX T) (hr.mono d) T.Vs.b pass0 ? ?,-Tg T.Dz.N T.Dz.cl T.Vy.me (ZRE T) (hr.mono d) T.Vy.b pass0 ? ?,-Tg T.Dz.N T.Dz.cl T.Ue.me (ZO7 T) (hr.mono d) T.Ue.b pass0 ? ?|_ (Qc _ _ _):-ZMT T.Dz.N T.Dz.mK (ZR4 T) (hr.mono d) rfl T.Dz.g T.ZBt.b pass0 ?|_ (Ew _ _ _ _ _):-ZEm T.Dz.N T.Dz.cl T.Ve.me (ZLH T) (hr.mono d) T.Ve.b pass0 ?,-ZEm T.Dz.N T.Dz.cl T.Ug.me (ZMw T) (hr.mono d) T.Ug.b pass0 ?|.ZNO,.ZQ2,.ZPK,.ZTv,@ZN0,@ZWC,@ZUE,@ZPj,@ZKe,@ZSN,@ZOU,@ZUk,@ZLv,@ZLx,@ZQp,-ZTd (ZCa T) T.Qs hr ?,-ZVR (ZCa T) T.Qs hr ?#QA _ _|.ZL4,-ZMQ ? ?#QSs _ _|@Ge,.N6,@Gf#QG _ _|_ (gV _):.ZK5 _ nd|_ (Ah _ _):-ZSd rfl ?|_ (gIx _ _):-ZLq ? ?#QGs _ _|.ZRl,-ZNP ? ?#QTs _ _|.ZUc,-ZSw ?#QT _ _|(Expr.Compare _ (List.cons _ List.nil) .) (Ay _):-T6 ? ? ? (nomark _)|_ (Ay _):-ZTN ?|(Expr.BoolOp .) _:-qt_w ?|(Expr.Compare _ (List.cons _ (List.cons _ List.nil)) .) _:-ZVw ? ? ? ? ?|@ZPW#QI _ _ _|(Expr.Call _ (List.cons _ List.nil) .) (Bf rng1 _):-ZOu rfl ? ?|_ (Bf rng3 _):-ZTz rfl ? ?|_ (Bf Es _):-ZSa rfl ? ?|_ (O5 _ _):-ZRR rfl ? ? ?|_ (Bf (Eg 2) _):-ZVD rfl ? ?|_ (Bf (Eg 3) _):-ZSl rfl ? ?|@ZNH#QW _ _|@ZDA,@ZEp,@ZM1,@ZOv#QO _ _|.ZPu,@ZS9#GK|_ (gV _):.ZLF d|@ZPl#GKs|.ZU0,@ZKn#=IxR _ _|!i_ix#=OpR _ _ _|!ZLZ,!ZTM,!ZPd,!ZQv,!ZKY,!o_lt,!o_gt,!ZKs,!ZTR,!ZTi,!o_le,!ZL6,!o_is,!o_ge,!ZOZ,.o_eq hr.units,.o_ne hr.units#=CallR _ _ _|.ZN5,.ZUo,.ZK3,=ZMH ?,=ZPI ?,=ZUl ?,=ZK7 ?,=ZMj ?,=ZVh ?,.ZMi#=Eq _ none|.T.ZP7,.T.ZVu,.T.ZMz,.T.ZPC,.T.ZLK,.T.ZNX,.T.ZQr,.T.ZVP,.T.ZNq,.T.ZTx,.T.ZTO,.T.ZMZ,.T.ZUw,.T.ZMP#=Eq (bootBuiltins _) _|!ZVQ,!ZNE,!ZNh,!ZQ5,!ZLh,!ZDo,!ZQW,!ZSC,!ZKh,!ZUz,!ZO9#=Slot _ _ _|!PySem.F.slot_list_append,!PySem.F.slot_list_index,!PySem.F.slot_list_extend#=Eq (typeOf _) _|!PySem.F.type_list_append,!PySem.F.type_list_index,!PySem.F.type_list_extend#=MtM _ _ _|!ZV9,!ZUW,!ZTr#=Eq _ (some _)|.T.ZGA,.T.ZJI,.T.ZJV,.T.ZDp,.T.ZGg,.T.ZHx,.T.ZJL,.T.ZG3,.T.ZHh,.T.ZJZ,.T.ZHR,.T.ZI1,.T.ZGT,.T.ZFo,.T.ZKF,.T.ZGE,.T.ZDr,.T.ZIo,.T.ZI8,.T.ZKB,.T.ZJK,.T.ZDQ,.T.ZDg#=NoAttr _ _ _|.T.ZDd,.T.ZDC,.T.ZGa,.T.ZES,.T.ZDs,.T.ZHj,.T.ZE1#=UnR _ _ _|!ZUY#*|.T.Dz.N,.T.Dz.cl,.hr.mono d")
set_option hygiene false in
local macro_rules | `(tactic|exists $a,$b)=> `(tactic|(refine Jm $a $b λcdv A outer s H E hr=>?_;have nd:=($b).nd;trivial))
variable{P:xk}{w:xC}{K:za}{mg:Str->Option xB}{base:Heap}(T:Txt K mg)
include T
theorem ZLr:FnOk P w K mg base CX0 1 (Di K (Ab K "TooLong") "__init__") (An K (Di K (Ab K "TooLong") "__init__")) ["self","most"] (spI (Ab K "TooLong") "most"):=
 ZQR (k:=0) T.ZAc.F ZS6 T.Nk.X T.ZDS rfl (by decide +kernel) (by decide +kernel) rfl rfl rfl rfl (.inl rfl) (.inl rfl) (λ_=>⟨_,rfl⟩)
theorem ZTT:FnO P w K mg base 1 "_law_amount" ZCM Hx:=by exists T.ZCT.F,ZS1
theorem ZKR:FnO P w K mg base 1 "_law_off" ZAW Qj:=by exists T.ZCs.F,ZSO
theorem ZSB:FnO P w K mg base 1 "_law_tape" Yw Kl:=by exists T.ZCZ.F,ZSh
theorem ZS8:FnO P w K mg base 2 "_law_cell_at" Zv Az:=by exists T.Yz.F,ZQt
theorem ZQb:FnO P w K mg base 3 "_law_unit" ZB3 H7:=by exists T.ZAm.F,ZTe
theorem ZLY:FnO P w K mg base 4 "_law_added" ZB1 Od:=by exists T.ZAO.F,ZO2
theorem ZVy:FnO P w K mg base 4 "_law_ask" ZAV P0:=by exists T.ZBm.F,ZTS
theorem ZQf:FnO P w K mg base 4 "_law_floods" ZAx Ut:=by exists T.Yo.F,ZKx
theorem ZPE:FnO P w K mg base 1 "_law_pumped" ZBK R5:=by exists T.ZCO.F,ZRj
theorem ZPi:FnO P w K mg base 1 "_law_steps" ZCR Td:=by exists T.ZAS.F,ZLt
theorem ZLW:FnO P w K mg base 3 "_law_year" ZCf Q4:=by exists T.Yl.F,ZQh
theorem ZKm:FnO P w K mg base 4 "_law_rule" ZBx R8:=by exists T.ZCb.F,ZQK
theorem ZQA:FnO P w K mg base 5 "_law_basin" ZB2 Og:=by exists T.ZBS.F,ZLC
theorem ZUu:FnO P w K mg base 1 "_law_name" ZCX V1:=by exists T.Xy.F,ZP0
theorem ZPR:FnO P w K mg base 6 "_law_house" Wk Vw:=by exists T.ZBI.F,ZPF
theorem ZPx:FnO P w K mg base 1 "is_beyond" ZCh Va:=by exists T.Ze.F,ZNb
theorem ZNU:FnO P w K mg base 1 "part_asked" ZCN Ru:=by
 refine Jm T.ZAz.F ZGI λcdv A outer s H E hr=>?_
 have nd:=ZGI.nd;exact(Gf (ZFm (ZHD (ZNx hr.units) (ZMq (Pq (by trivial) (Pq (by trivial) (Pq (by trivial) (Pq (by trivial) (Pq (by trivial) ZTp)))))) (Mi 0))))
theorem ZKu:FnO P w K mg base 2 "answered" ZCW Oe:=by exists T.Zy.F,ZTE
theorem ZMS:FnO P w K mg base 1 "check_ask" ZAs O2:=by
 refine Jm T.ZCu.F ZI9 λcdv A outer s H E hr=>?_
 have nd:=ZI9.nd
 exact(Ge (by trivial) (Ge (Mg (qt_w (ZDA (T6 ZMr (Mi 4) (ZKZ (ss:=["least","most"]) rfl T.ZBc) (by with_unfolding_all rfl)) (ZEp (ZNQ rfl T.U5 (Mi 2) (by with_unfolding_all rfl))))) (Gf Mj) N6) (Ge (Mg (by trivial) (Gf Mj) N6) (Gf (Mg (T6 (o_ne hr.units) (by trivial) (ZM9 rfl T.U5 (Mi 2)) (nomark _)) (Gf Mj) N6)))))
theorem ZQn:FnO P w K mg base 1 "none_above" ZBs O9:=by exists T.Wv.F,ZRK
theorem ZTH:FnO P w K mg base 2 "rows_under" Zj K8:=by exists T.ZB9.F,ZTC
theorem ZUH:FnO P w K mg base 3 "under" W6 V9:=by exists T.ZBH.F,ZSZ
theorem ZLn:FnO P w K mg base 4 "check_bounds" Ys Q7:=by
 refine Jm T.ZB0.F ZI2 λcdv A outer s H E hr=>?_
 have nd:=ZI2.nd;exact(Gf (Mg (by trivial) (Gf Mj) N6))
theorem ZPm:FnO P w K mg base 1 "check_year" ZA0 Qt:=by
 refine Jm T.ZAr.F ZF9 λcdv A outer s H E hr=>?_
 have nd:=ZF9.nd;exact(Gf (Mg (by trivial) (Gf Mj) N6))
theorem ZPL:FnO P w K mg base 1 "looked_through" ZCp O7:=by exists T.W9.F,ZKa
theorem ZR4:MtO P w K mg base 1 "Course" "__init__" Wr Qg:=by exists T.ZBt.F,ZNs
theorem ZVx:MtO P w K mg base 1 "Course" "send" ZCk Oh:=by exists T.Ul.F,ZPe
theorem ZQm:FnO P w K mg base 1 "number_of" Xe Oo:=by
 refine Jm T.Yi.F ZIU λcdv A outer s H E hr=>?_
 have nd:=ZIU.nd;exact(Ge (by trivial) (Gf Mj))
theorem ZNt:FnO P w K mg base 2 "down_of" X4 Q6:=by exists T.ZCP.F,ZV8
theorem ZTX:MtO P w K mg base 3 "Course" "send_down" Za Oz:=by exists T.Vs.F,ZMa
theorem ZV7:FnO P w K mg base 1 "opened" ZBU Vk:=by exists T.W3.F,ZKX
theorem ZNe:FnO P w K mg base 1 "stairs_at" Z6 Rr:=by exists T.W2.F,ZM3
theorem ZRE:MtO P w K mg base 4 "Course" "go_basin" W0 U6:=by exists T.Vy.F,ZKv
theorem ZK2:FnO P w K mg base 1 "passed" ZBn Mh:=by exists T.ZAb.F,ZVC
theorem ZVT:FnO P w K mg base 3 "down_in_reach" Xk Oa:=by exists T.ZBz.F,ZLi
theorem ZTs:FnO P w K mg base 4 "reach_rows" Wb Ri:=by exists T.Zb.F,ZOe
theorem ZVs:FnO P w K mg base 1 "served" Zx Su:=by exists T.ZBy.F,ZVY
theorem ZLQ:FnO P w K mg base 1 "way_down" Zc Sg:=by exists T.ZBP.F,ZKb
theorem ZNc:FnO P w K mg base 2 "shares" Zf Tq:=by exists T.ZB8.F,ZT2
theorem ZO7:MtO P w K mg base 5 "Course" "go_reach" ZCz Tr:=by exists T.Ue.F,ZQO
theorem ZQX:FnO P w K mg base 4 "lasts_of_reaches" ZAj Ro:=by exists T.Zh.F,ZLg
theorem ZLH:MtO P w K mg base 6 "Course" "go" ZBJ Vb:=by exists T.Ve.F,ZS7
theorem ZMw:MtO P w K mg base 1 "Course" "state_behind" Wz Ra:=by exists T.Ug.F,ZS5
theorem ZKU:FnO P w K mg base 7 "turn" ZAg Uc:=by exists T.ZCU.F,ZPg
theorem ZNy:FnO P w K mg base 8 "run" Xu My:=by exists T.ZB6.F,ZT0
theorem ZPh:FnX P w K mg base 9 "years_until_again" ZC4 Kr:=by
 refine ZSo T.Qn.F ZKH λcdv A outer s H E hr=>?_
 have nd:=ZKH.nd
 exact(Ge (by trivial) (Ge (by trivial) (Ge (ZGR fuel ownX (T6 (ZPY hr.units) (by trivial) (by trivial) (by with_unfolding_all rfl)) (by trivial)) (by trivial))))
theorem ZCa:FnX P w K mg base 10 "look_ever" Yg Gq:=by
 refine ZIY T.Qs.F ZJe λcdv A outer s H E hr=>?_
 have nd:=ZJe.nd
 trivial
theorem ZQc:FnO P w K mg base 11 "_law_most" Yv Pg:=by
 refine Jm T.Wm.F V6 λcdv A outer s H E hr=>?_
 have nd:=V6.nd;exact(Ge (by trivial) (Ge (ZFY (ZKi (ZGV (ZCa T) T.Qs hr (by trivial))) (ZMm T.ZBZ (ZHW T.Nk.N T.ZCL Ui) Ui hr V6.nd (λea hr=>(Gf (ZEg 7 V6.nd (ZLS T.Nk (Mi 8))))) ZE0)) (by trivial)))
theorem ZNR:FnO P w K mg base 4 "_law_state" ZBh Ry:=by exists T.ZBN.F,ZLj
theorem ZVM:FnO P w K mg base 1 "_law_told" ZAJ M3:=by exists T.ZBQ.F,ZVV
theorem ZRp:FnX P w K mg base 10 "ever" ZBo Lp:=by
 refine ZIY T.Xd.F ZG6 λcdv A outer s H E hr=>?_
 have nd:=ZG6.nd
 trivial
theorem ZPO:FnO P w K mg base 11 "_law_years" Xv Gi:=by
 refine Jm T.ZA1.F ZBj λcdv A outer s H E hr=>?_
 have nd:=ZBj.nd;exact(Ge (by trivial) (Ge (ZFY (ZMl 5 ZBj.nd (ZGV (ZRp T) T.Xd hr (by trivial))) (ZPk T.ZBZ (ZHW T.Nk.N T.ZCL Ui) Ui hr (λea hr=>(by trivial)) ZE0)) (by trivial)))
theorem ZTA:FnO P w K mg base 9 "look" Y7 Qy:=by exists T.ZCY.F,ZOL
theorem ZVe:FnO P w K mg base 12 "law" ZCn Ja:=by exists T.Rx.F,ZK6
end
theorem ZK8{K:za}{h:Heap}{mg:Str->Option xB}(X:K.In h)(G:h.Ns xT mg)(S:AllSaid K asks):Txt K mg:=by
 obtain⟨Dz,ZCT,ZCs,ZCZ,Yz,ZAm,ZAO,ZBm,Yo,ZCO,ZAS,Yl,ZCb,ZBS,Xy,ZBI,Ze,ZAz,Zy,ZCu,Wv,ZB9,ZBH,ZB0,ZAr,W9,ZBt,Ul,Yi,ZCP,Vs,W3,W2,Vy,ZAb,ZBz,Zb,ZBy,ZBP,ZB8,Ue,Zh,Ve,Ug,ZCU,ZB6,Qn,Qs,Wm,ZBN,ZBQ,Xd,ZA1,ZCY,Rx,ZGa,ZES,ZDd,ZDs,ZDC,ZE1,ZHj,z_all,z_bool,z_enumerate,z_int,z_isinstance,z_len,z_list,z_max,z_min,z_range,ZXL,z_str,ZXM,z_zip,ZGE,ZJL,ZGT,ZJI,ZHh,ZGg,ZI1,ZKB,ZGA,ZDp,ZJZ,ZIo,ZDr,ZJK,ZJV,ZDg,ZDQ,ZI8,ZKF,ZFo,ZG3,ZHR,ZHx,ZBc,U5,ZAc,Nk,ZDS,ZBZ,ZCL,_⟩:=S
 constructor <;> first|assumption|exact PySem.W.mg_none_of X G (by assumption)|exact vM X G (by assumption)|exact ZVI X G (by assumption)|exact ZNp X G (by assumption)|exact ZWD X G (by assumption)|exact ZSL X G (by assumption) (by assumption)|((first|refine ZLT X G (by assumption) ?_|refine ZOz (by assumption) ?_);(first|exact λ_ _ _ _ _ _=>bnd1 λ_=>rfl|exact λ_ _ _ _ _ _=>bnd2 λ_ _=>rfl|exact λ_ _ _ _ _ _=>bnd3 λ_ _ _=>rfl|exact λ_ _ _ _ _ _=>bnd4 λ_ _ _ _=>rfl|exact λ_ _ _ _ _ _=>bnd5 λ_ _ _ _ _=>rfl|exact λ_ _ _ _ _ _=>bnd7 λ_ _ _ _ _ _ _=>rfl))|exact ZH5 X G (by assumption) (λ_ _ _ _ _ _ _ us _ hl=>match us,hl with |[_,_,_,_,_,_,_],_=>⟨_,rfl,rfl⟩) (λ_ _ _ _ _ _ _ us _ hl=>match us,hl with |[_,_,_,_,_,_],_=>⟨_,rfl,rfl⟩)|exact ZH5 X G (by assumption) (λ_ _ _ _ _ _ _ us _ hl=>match us,hl with |[_,_,_,_],_=>⟨_,rfl,rfl⟩) (λ_ _ _ _ _ _ _ us _ hl=>match us,hl with |[_,_,_],_=>⟨_,rfl,rfl⟩)|exact ZMh X G ZBc|exact ZN1 X G U5
theorem all_mk{l:vF}{w:xC}{K:za}{h:Heap}{mg:Str->Option xB}{fa:xY}(X:K.In h)(G:h.Ns xT mg)(hfa:mg "law"=uz (.ref fa))(S:AllSaid K asks):
  ∃fd:xj,(∀(s:x0)(v:xB),BindsTo s fd ⟨[v],[]⟩ [("_law_script",v)])/\∀base:Heap,K.In base->base.Ns xT mg->FnOk l.prog w K mg base CX0 12 fa fd ["_law_script"] (lF K Ja):=by
 have T:=ZK8 X G S;have eL:=T.Rx.m;obtain rfl:fa=Ab K "law":=by rw[hfa]at eL;cases eL;rfl
 exact⟨_,λs v=>ZLk (T.Rx.F),λbase _ _=>ZVe T⟩
theorem walk{l:vF}{q:xk}{loose:List Str}{XP:(Str->Option xB)->Heap->Prop}{YP:xC->Heap->Prop}{d:DefRec}{K:xC->za}(hn:l.most=uz 63)(hdf:d.params.defaults=[])(HH:Holds)
  (hY:∀(w:xC)(h:Heap),YP w h->(K w).In h)
  (F:∀(w:xC)(mg:Str->Option xB)(fa:xY)(h:Heap),(K w).In h->h.Ns xT mg->mg d.name=uz (.ref fa)->
   ∃fd:xj,(∀(s:x0)(u:xB),BindsTo s fd ⟨[u],[]⟩ [("_law_script",u)])/\∀base:Heap,(K w).In base->base.Ns xT mg->FnOk l.prog w (K w) mg base CX0 12 fa fd ["_law_script"] (lF (K w) Ja)):
  wz q loose XP YP l.row.toRowW d [] (λf vs=>jb f vs):=
 _L.ZMF (n:=63) (k:=12) (x:="_law_script") (CX:=λ_=>CX0) (sp:=λw=>lF (K w) Ja) hn (by decide) hdf ⟨rfl,by decide,by decide⟩ hY F
  (λw H a ns hl hO hS=>by
   obtain⟨G,hG⟩:=HH ns hl;refine⟨⟨K w,0,λ_=>0,H⟩,[],[.fl (ns.map D.int)],rfl,rfl,⟨rfl,λi j h=>absurd h (Nat.not_lt_zero _),λi o h=>by simp at h,λi h=>absurd h (Nat.not_lt_zero _)⟩,Reps.cons ⟨a,ns.map V.int,rfl,?_,Reps.ints ns⟩ Reps.nil,?_⟩
   .rcases hS with(hS|hS)|hS
    .rcases hO a with z|⟨o,xs,z⟩
     .rw[z]at hS;cases hS
     .rw[z]at hS;cases hS
    .exact .inl hS
    .exact .inr ⟨⟨ns,rfl⟩,hS⟩
   .rw[hG];exact λb v _ _ r=>r) λ_ _ _ _ _ z=>z
end _W
namespace _W
open PySem _L _D
variable{ns xs:List Int}{G L:DH}{F T P ca fl lv f lat lv':Nat->Int}{m i d j p dl w Y M y:Nat}{A B:DO}{ds:List D}{ws ms:List Nat}{x s0 s1 s2 s5 s6 s7 s3 s9 s10 s11 s12:Option D}{t c a at_ u yr most:Int}{H LV e:D}{q:Nat->List Int}{S:DSt}{co cel co':Nat->Nat->Int}{nm:Nat->Str}{fls fls' l:List (Nat->Int)}{b:Bool}
noncomputable abbrev zI(i:Int):Option D:=uz (.int i)
noncomputable abbrev zR(i:Nat):Option D:=uz (.ref i)
noncomputable abbrev zF(xs:List D):Option D:=uz (.fl xs)
noncomputable abbrev zT(xs:List D):Option D:=uz (.tup xs)
noncomputable abbrev zS(x:Str):Option D:=uz (.str x)
noncomputable abbrev zB(b:Bool):Option D:=uz (.bl b)
section
variable{S:DSt}{G:DH}{d v:D}{o:D->D->DH->R D}{t:DE}{r:DA}{a b c e f g h i j k l m n:Option D}
@[simp high]theorem rV0:dV 0 (uz d::S) G=.ok d G:=id rfl
@[simp high]theorem rV1:dV 1 (a::uz d::S) G=.ok d G:=id rfl
@[simp high]theorem rV2:dV 2 (a::b::uz d::S) G=.ok d G:=id rfl
@[simp high]theorem rV3:dV 3 (a::b::c::uz d::S) G=.ok d G:=id rfl
@[simp high]theorem rV4:dV 4 (a::b::c::e::uz d::S) G=.ok d G:=id rfl
@[simp high]theorem rV5:dV 5 (a::b::c::e::f::uz d::S) G=.ok d G:=id rfl
@[simp high]theorem rV6:dV 6 (a::b::c::e::f::g::uz d::S) G=.ok d G:=id rfl
@[simp high]theorem rV7:dV 7 (a::b::c::e::f::g::h::uz d::S) G=.ok d G:=id rfl
@[simp high]theorem rV8:dV 8 (a::b::c::e::f::g::h::i::uz d::S) G=.ok d G:=id rfl
@[simp high]theorem rV9:dV 9 (a::b::c::e::f::g::h::i::j::uz d::S) G=.ok d G:=id rfl
@[simp high]theorem rV10:dV 10 (a::b::c::e::f::g::h::i::j::k::uz d::S) G=.ok d G:=id rfl
@[simp high]theorem rV11:dV 11 (a::b::c::e::f::g::h::i::j::k::l::uz d::S) G=.ok d G:=id rfl
@[simp high]theorem rV12:dV 12 (a::b::c::e::f::g::h::i::j::k::l::m::uz d::S) G=.ok d G:=id rfl
@[simp high]theorem rV13:dV 13 (a::b::c::e::f::g::h::i::j::k::l::m::n::uz d::S) G=.ok d G:=id rfl
@[simp 10002] theorem rOC0:dOp o (dV 0) (dC v) (uz d::S) G=o d v G:=id rfl
@[simp 10002] theorem rOC1:dOp o (dV 1) (dC v) (a::uz d::S) G=o d v G:=id rfl
@[simp 10002] theorem rOC2:dOp o (dV 2) (dC v) (a::b::uz d::S) G=o d v G:=id rfl
@[simp 10002] theorem rOC3:dOp o (dV 3) (dC v) (a::b::c::uz d::S) G=o d v G:=id rfl
@[simp 10002] theorem rOC4:dOp o (dV 4) (dC v) (a::b::c::e::uz d::S) G=o d v G:=id rfl
@[simp 10002] theorem rOC5:dOp o (dV 5) (dC v) (a::b::c::e::f::uz d::S) G=o d v G:=id rfl
@[simp 10002] theorem rOC6:dOp o (dV 6) (dC v) (a::b::c::e::f::g::uz d::S) G=o d v G:=id rfl
@[simp 10002] theorem rOC7:dOp o (dV 7) (dC v) (a::b::c::e::f::g::h::uz d::S) G=o d v G:=id rfl
@[simp 10002] theorem rOC8:dOp o (dV 8) (dC v) (a::b::c::e::f::g::h::i::uz d::S) G=o d v G:=id rfl
@[simp 10002] theorem rOC9:dOp o (dV 9) (dC v) (a::b::c::e::f::g::h::i::j::uz d::S) G=o d v G:=id rfl
@[simp 10002] theorem rOC10:dOp o (dV 10) (dC v) (a::b::c::e::f::g::h::i::j::k::uz d::S) G=o d v G:=id rfl
@[simp 10002] theorem rOC11:dOp o (dV 11) (dC v) (a::b::c::e::f::g::h::i::j::k::l::uz d::S) G=o d v G:=id rfl
@[simp high]theorem rOV0:dOp o (dV 0) t (uz d::S) G=(t (uz d::S) G).bind λy q=>o d y q:=id rfl
@[simp high]theorem rOV1:dOp o (dV 1) t (a::uz d::S) G=(t (a::uz d::S) G).bind λy q=>o d y q:=id rfl
@[simp high]theorem rOV2:dOp o (dV 2) t (a::b::uz d::S) G=(t (a::b::uz d::S) G).bind λy q=>o d y q:=id rfl
@[simp high]theorem rOV3:dOp o (dV 3) t (a::b::c::uz d::S) G=(t (a::b::c::uz d::S) G).bind λy q=>o d y q:=id rfl
@[simp high]theorem rOV4:dOp o (dV 4) t (a::b::c::e::uz d::S) G=(t (a::b::c::e::uz d::S) G).bind λy q=>o d y q:=id rfl
@[simp high]theorem rOV5:dOp o (dV 5) t (a::b::c::e::f::uz d::S) G=(t (a::b::c::e::f::uz d::S) G).bind λy q=>o d y q:=id rfl
@[simp high]theorem rOV6:dOp o (dV 6) t (a::b::c::e::f::g::uz d::S) G=(t (a::b::c::e::f::g::uz d::S) G).bind λy q=>o d y q:=id rfl
@[simp high]theorem rOV7:dOp o (dV 7) t (a::b::c::e::f::g::h::uz d::S) G=(t (a::b::c::e::f::g::h::uz d::S) G).bind λy q=>o d y q:=id rfl
@[simp high]theorem rOV9:dOp o (dV 9) t (a::b::c::e::f::g::h::i::j::uz d::S) G=(t (a::b::c::e::f::g::h::i::j::uz d::S) G).bind λy q=>o d y q:=id rfl
@[simp high]theorem rOV11:dOp o (dV 11) t (a::b::c::e::f::g::h::i::j::k::l::uz d::S) G=(t (a::b::c::e::f::g::h::i::j::k::l::uz d::S) G).bind λy q=>o d y q:=id rfl
@[simp high]theorem rOV12:dOp o (dV 12) t (a::b::c::e::f::g::h::i::j::k::l::m::uz d::S) G=(t (a::b::c::e::f::g::h::i::j::k::l::m::uz d::S) G).bind λy q=>o d y q:=id rfl
@[simp high]theorem rCV0:Ai (dV 0) r (uz d::S) G=(r (uz d::S) G).bind λxs q=>.ok (d::xs) q:=id rfl
@[simp high]theorem rCV1:Ai (dV 1) r (a::uz d::S) G=(r (a::uz d::S) G).bind λxs q=>.ok (d::xs) q:=id rfl
@[simp high]theorem rCV2:Ai (dV 2) r (a::b::uz d::S) G=(r (a::b::uz d::S) G).bind λxs q=>.ok (d::xs) q:=id rfl
@[simp high]theorem rCV3:Ai (dV 3) r (a::b::c::uz d::S) G=(r (a::b::c::uz d::S) G).bind λxs q=>.ok (d::xs) q:=id rfl
@[simp high]theorem rCV4:Ai (dV 4) r (a::b::c::e::uz d::S) G=(r (a::b::c::e::uz d::S) G).bind λxs q=>.ok (d::xs) q:=id rfl
@[simp high]theorem rCV5:Ai (dV 5) r (a::b::c::e::f::uz d::S) G=(r (a::b::c::e::f::uz d::S) G).bind λxs q=>.ok (d::xs) q:=id rfl
@[simp high]theorem rCV6:Ai (dV 6) r (a::b::c::e::f::g::uz d::S) G=(r (a::b::c::e::f::g::uz d::S) G).bind λxs q=>.ok (d::xs) q:=id rfl
@[simp high]theorem rCV7:Ai (dV 7) r (a::b::c::e::f::g::h::uz d::S) G=(r (a::b::c::e::f::g::h::uz d::S) G).bind λxs q=>.ok (d::xs) q:=id rfl
@[simp high]theorem rCV8:Ai (dV 8) r (a::b::c::e::f::g::h::i::uz d::S) G=(r (a::b::c::e::f::g::h::i::uz d::S) G).bind λxs q=>.ok (d::xs) q:=id rfl
@[simp high]theorem rCV9:Ai (dV 9) r (a::b::c::e::f::g::h::i::j::uz d::S) G=(r (a::b::c::e::f::g::h::i::j::uz d::S) G).bind λxs q=>.ok (d::xs) q:=id rfl
@[simp high]theorem rCV10:Ai (dV 10) r (a::b::c::e::f::g::h::i::j::k::uz d::S) G=(r (a::b::c::e::f::g::h::i::j::k::uz d::S) G).bind λxs q=>.ok (d::xs) q:=id rfl
@[simp high]theorem rCV11:Ai (dV 11) r (a::b::c::e::f::g::h::i::j::k::l::uz d::S) G=(r (a::b::c::e::f::g::h::i::j::k::l::uz d::S) G).bind λxs q=>.ok (d::xs) q:=id rfl
@[simp high]theorem rCV12:Ai (dV 12) r (a::b::c::e::f::g::h::i::j::k::l::m::uz d::S) G=(r (a::b::c::e::f::g::h::i::j::k::l::m::uz d::S) G).bind λxs q=>.ok (d::xs) q:=id rfl
@[simp high]theorem rCV13:Ai (dV 13) r (a::b::c::e::f::g::h::i::j::k::l::m::n::uz d::S) G=(r (a::b::c::e::f::g::h::i::j::k::l::m::n::uz d::S) G).bind λxs q=>.ok (d::xs) q:=id rfl
@[simp high]theorem rCC:Ai (dC v) r S G=(r S G).bind λxs q=>.ok (v::xs) q:=id rfl
@[simp 10001] theorem rOtC:dOp o t (dC v) S G=(t S G).bind λx q=>o x v q:=id rfl
@[simp 10001] theorem rOCt:dOp o (dC v) t S G=(t S G).bind λy q=>o v y q:=id rfl
end
theorem ZJh:∃b,∀G,Kl [.fl (ns.map D.int)] G=.ok (.bl b) G:=by
 cases ns with
 |nil=>exact⟨uv,λG=>by unfold Kl ZCB;rw[Aj];simp[Ba]⟩
 |cons n r=>
  refine⟨decide (n<0)||decide (1000000000000000000<=n),λG=>?_⟩;unfold Kl ZCB;rw[Aj];have q:atI ((n::r).map D.int) 0=zI n:=Dj rfl rfl;by_cases h:n<0
  .simp[q,h,Ba]
  .simp[q,h,Ba]
noncomputable def offV:Nat->Int->Int
 |0,v=>v
 |n+1,v=>offV n (v/100000000)
theorem ZEy{k:D}:∀(n:Nat)(j:Nat)(v:Int)(x:Option D),∃q,Av (gV 2) Ow (Bg j n) [zI v,uz k,x] G=.nx [zI (offV n v),uz k,q] G
 |0,j,v,x=>⟨x,by rw[Ib,Cv];rfl⟩
 |n+1,j,v,x=>by
  obtain⟨q,w⟩:=ZEy n (j+1) (v/100000000) (zI j);refine⟨q,?_⟩;have u:Ow [zI v,uz k,zI j] G=.nx [zI (v/100000000),uz k,zI j] G:=by unfold Ow;simp
  rw[Gj,Br];simp only[Ce,R.Bq,qW,u,Ck];have y:((j:Int)+1)=((j+1:Nat):Int):=by lia
  rw[y,w]
  rfl
theorem ZHL{v:Int}{k:Nat}(hk:k<=1000):∃r:Int,(0<=r/\r<100000000)/\∀G,Qj [.int v,.int k] G=.ok (.int r) G:=by
 by_cases h:0<=v/\v<1000000000000000000
 .let a:=(v+1009*(k:Int)+7)%999999937;let b:=a*a%999999929;refine⟨b*(b+k)%99999989,by lia,λG=>?_⟩;unfold Qj ZCK;rw[Aj];have y:Bt (.int a) (.int a)=λG=>R.ok (.int (a*a)) G:=by funext G;exact Gd (by lia) (by lia)
  have x:Bt (.int b) (.int (b+k))=λG=>R.ok (.int (b*(b+k))) G:=by funext G;exact Gd (by lia) (by lia)
  simp[h.1,h.2]
  rw[show(v+1009*(k:Int)+7)%999999937=a from rfl,y]
  simp
  rw[show a*a%999999929=b from rfl,x]
  simp[Ba]
 .refine⟨offV k v%100000000,by lia,λG=>?_⟩;obtain⟨B,A⟩:=ZEy k 0 v uj;have q:Av (gV 2) Ow (Bg 0 k) [zI v,zI k,uj] G=.nx [zI (offV k v),zI k,B] G:=A;unfold Qj ZCK;rw[Aj];have w:inR (k:Int):=Er (by lia) (by lia);by_cases u:0<=v
  .have C:¬v<1000000000000000000:=λz=>h ⟨u,z⟩
   simp[u,C,w,q,Ba]
  .simp[u,w,q,Ba]
theorem ZF8(I:ns.length<=63){k:Nat}(hk:k<=1000):∃v:Int,∀G,Az [.fl (ns.map D.int),.int k] G=.ok (.int v) G:=by
 obtain⟨b,u⟩:=ZJh (ns:=ns);have A:((k:Int)%14)=((k%14:Nat):Int):=by lia
 cases b with
 | true=>
  by_cases h:1+k/14<ns.length
  .obtain⟨r,E,w⟩:=ZHL (k:=k%14) (by lia);refine⟨r,λG=>?_⟩;unfold Az Ms;rw[Aj];have q:atI (ns.map D.int) (1+(k:Int)/14)=zI ns[1+k/14]:=Dj (k:=1+k/14) (by lia) (by rw[zx,zJ h];rfl);have y:(1+(k:Int)/14)<ns.length:=by lia
   simp[u,y,q];rw[A,w];simp[Ba]
  .obtain⟨r,E,w⟩:=ZHL (k:=k%14) (by lia);refine⟨r,λG=>?_⟩;unfold Az Ms;rw[Aj];have y:¬(1+(k:Int)/14)<ns.length:=by lia
   simp[u,y];rw[A,w];simp[Ba]
 | false=>
  by_cases h:k<ns.length
  .refine⟨ns[k],λG=>?_⟩;unfold Az Ms;rw[Aj];have q:atI (ns.map D.int) (k:Int)=zI ns[k]:=Dj rfl (by rw[zx,zJ h];rfl);simp[u,h,q,Ba]
  .have C:∀G,Bt (.int k) (.int k) G=R.ok (.int ((k:Int)*k)) G:=λG=>Gd (by lia) (by lia)
   by_cases B:0<ns.length
   .have F:k%ns.length<ns.length:=Nat.mod_lt _ B;refine⟨48271*((k:Int)*k+7*ns.length)%2147483647+ns[k%ns.length]*69621%2147483629,λG=>?_⟩;unfold Az Ms;rw[Aj];have q:atI (ns.map D.int) ((k:Int)%ns.length)=zI ns[k%ns.length]:=Dj (k:=k%ns.length) (by simp) (by rw[zx,zJ F];rfl);simp[u,h,C,B,q,Ba]
   .have e:ns=[]:=jJ (by lia);subst e;refine⟨48271*((k:Int)*k+7*0)%2147483647,λG=>?_⟩;unfold Az Ms;rw[Aj];have x:∀G,Kl [.fl []] G=.ok (.bl uv) G:=u;have z:¬(k:Int)<0:=by lia
    simp[x,z,C,Ba]
theorem cells(q:ns.length<=63):∃f:Nat->Int,∀k:Nat,k<=1000->∀G,Az [.fl (ns.map D.int),.int k] G=.ok (.int (f k)) G:=by refine⟨λk=>if h:k<=1000 then(ZF8 q h).choose else 0,λk hk=>?_⟩;simp only[dif_pos hk];exact(ZF8 q hk).choose_spec
abbrev nD(ns:List Int):D:=.fl (ns.map D.int) abbrev zN (ns:List Int):Option D:=uz (nD ns) abbrev Cf (ns:List Int) (f:Nat->Int):Prop:=∀k:Nat,k<=1000->∀G,Az [nD ns,.int k] G=.ok (.int (f k)) G abbrev Cu (ns:List Int) (u:Int):Prop:=∀G,H7 [nD ns] G=.ok (.int u) G abbrev Cy (ns:List Int) (u:Int):Prop:=∀G,Q4 [nD ns] G=.ok (.int u) G
structure Row where
 down:Option Nat
 water:Int
 need:Int
 rank:Int
variable{rs:List Row}
noncomputable def dnD:Option Nat->D
 |none=>.non
 |some d=>.int d
def Row.enc(r:Row):D:=.tup [dnD r.down,.int r.water,.int r.need,.int r.rank]
@[simp]theorem ZWH{n:Nat}{o:Option Nat}:bel n (dnD o)=ux:=by cases o<;>rfl
@[simp]theorem ZL9{n:Nat}{r:Row}:bel n r.enc=ux:=by simp[Row.enc]
@[simp]theorem ZW3{n:Nat}:bels n (rs.map Row.enc)=ux:=Dt λr _=>ZL9
@[simp]theorem ZIM{n:Nat}:bels n (xs.map D.int)=ux:=Dt λr _=>rfl
structure Fine (k n:Nat) (r:Row):Prop where
 dn:∀d,r.down=uz d->k<d/\d<n
 w0:0<=r.water
 n0:0<=r.need
 r0:0<=r.rank
def Reach(rs:List Row):Prop:=∀k r,rs[k]?=uz r->Fine k rs.length r
noncomputable def tab(n:Nat)(F:Nat->Int):List D:=(zX n).map λi=>D.int (F i)
def fset(F:Nat->Int)(d:Nat)(v:Int):Nat->Int:=λi=>if i=d then v else F i
@[simp]theorem ZL5{n:Nat}:(tab n F).length=n:=by simp[tab]
@[simp]theorem Gz{n:Nat}:bels m (tab n F)=ux:=Dt λ_ _=>rfl
theorem K7{n:Nat}(h:i<n):(tab n F)[i]?=zI (F i):=by unfold tab;rw[zx,zE h];rfl
theorem Et{n:Nat}(h:i<n):atI (tab n F) (i:Int)=zI (F i):=Dj rfl (K7 h)
theorem M5{n:Nat}{v:Int}:(tab n F).set d (.int v)=tab n (fset F d v):=by
 refine j7 λi=>?_
 by_cases q:i<n
 .by_cases e:d=i
  .subst e;rw[jY (by simpa using q),K7 q];simp[fset]
  .rw[qL e,K7 q,K7 q];have:i≠d:=λz=>e z.symm
   simp[fset,this]
 .rw[z7 (by simp;lia),z7 (by simp;lia)]
theorem ZDz{n:Nat}{q:Nat->Int}(h:∀i,i<n->F i=q i):tab n F=tab n q:=by
 unfold tab;refine qC λi u=>?_
 rw[h i (qK.mp u)]
noncomputable def col(g:Row->Int)(rs:List Row)(i:Nat):Int:=match rs[i]? with
 |some r=>g r
 |none=>0
def Bp(rs:List Row)(i:Nat):Option Nat:=rs[i]?.bind Row.down
theorem Hc(h:Reach rs){k:Nat}(e:Bp rs k=uz d):k<d/\d<rs.length:=by
 unfold Bp at e;cases q:rs[k]? with
 |none=>rw[q]at e;cases e
 |some r=>rw[q]at e;exact(h k r q).dn d e
theorem U4{k:Nat}(hk:k<rs.length):Bp rs k=rs[k].down:=by unfold Bp;rw[zJ hk];rfl
theorem ZD3{k:Nat}(hk:¬k<rs.length):Bp rs k=uj:=by unfold Bp;rw[z7 (by lia)];rfl
def gstep(F:Nat->Int)(k:Nat)(o:Option Nat):Nat->Int:=match o with
 |none=>F
 |some d=>fset F d (F d+F k)
def gat(rs:List Row):Nat->Nat->(Nat->Int)->Nat->Int
 |0,_,F=>F
 |m+1,k,F=>gat rs m (k+1) (gstep F k (Bp rs k))
noncomputable abbrev gath(rs:List Row)(F:Nat->Int):Nat->Int:=gat rs rs.length 0 F
theorem ZAa{k:Nat}(hk:k<rs.length):atI (rs.map Row.enc) (k:Int)=zT [dnD (Bp rs k),.int (col Row.water rs k),.int (col Row.need rs k),.int (col Row.rank rs k)]:=
 Dj rfl (by rw[zx,U4 hk];simp[col,zJ hk,Row.enc])
theorem ZGu(A:Reach rs){t:D}:∀(m k:Nat)(F:Nat->Int)(x y:Option D),k+m=rs.length->∃w u,
  Av (Ah 2 (Aa (gV 4) (Aa (gV 3) Ak))) Ni ((Dg (rs.map Row.enc)).drop k) [zF (rs.map Row.enc),uz t,zR G.length,x,y] (G++[.lst (tab rs.length F)])=
   .nx [zF (rs.map Row.enc),uz t,zR G.length,w,u] (G++[.lst (tab rs.length (gat rs m k F))])
 |0,k,F,x,y,h=>⟨x,y,by rw[qQ (by rw[Ii];simp;lia),Cv];rfl⟩
 | m+1,k,F,x,y,h=>by
  have hk:k<rs.length:=by lia
  have B:(Dg (rs.map Row.enc)).drop k=.tup [.int k,rs[k].enc]::(Dg (rs.map Row.enc)).drop (k+1):=by rw[zO (by rw[Ii];simpa using hk)];simp[Dg]
  obtain⟨w,u,I⟩:=ZGu A m (k+1) (gstep F k (Bp rs k)) (uz rs[k].enc) (zI k) (by lia);refine⟨w,u,?_⟩;have E:Ni [zF (rs.map Row.enc),uz t,zR G.length,uz rs[k].enc,zI k] (G++[.lst (tab rs.length F)])=
    .nx [zF (rs.map Row.enc),uz t,zR G.length,uz rs[k].enc,zI k] (G++[.lst (tab rs.length (gstep F k (Bp rs k)))]):=by
   unfold Ni;cases z:Bp rs k with
   |none=>
    have:rs[k].down=uj:=by rw[<-U4 hk];exact z
    simp[Row.enc,this,dnD,gstep]
   |some d=>
    have e:rs[k].down=uz d:=by rw[<-U4 hk];exact z
    have q:=Hc A z;have C:(G++[DO.lst (tab rs.length F)])[G.length]?=uz (.lst (tab rs.length F)):=by simp
    simp[Row.enc,e,dnD,gstep,Rm C (Et q.2),Bs,Et hk,Dp,Gm,q.2,M5]
  rw[B,Br];simp[Ce,E];exact I
def J9(rs:List Row)(i:Nat):D:=.tup [dnD (Bp rs i),.int (col Row.water rs i),.int (col Row.need rs i),.int (col Row.rank rs i)]
theorem ZFQ:rs.map Row.enc=(zX rs.length).map (J9 rs):=by
 refine j7 λi=>?_
 by_cases q:i<rs.length
 .rw[zx,zx,zE q,zJ q];simp[J9,Row.enc,U4 q,col,zJ q]
 .rw[z7 (by simp;lia),z7 (by simp;lia)]
theorem ZKK(I:Reach rs)(K:rs.length<=40){t:D}(y:Bd t G=uz (tab rs.length T)):Mh [.fl (rs.map Row.enc),t] G=.ok (.ref G.length) (G++[.lst (tab rs.length (gath rs λi=>col Row.water rs i-T i))]):=by
 obtain⟨C,B,A⟩:=ZGu I rs.length 0 (λi=>col Row.water rs i-T i) uj uj (by lia);have E:∀j,Ej [.fl (rs.map Row.enc),t] j G=uz ((zX rs.length).map λi=>D.tup [J9 rs i,.int (T i)])[j]? :=λj=>by
  rw[Zt ZFO y,Ks,ZFQ,tab,List.zip_map',jK]
  rfl
 let F:D->Option D:=λd=>match d with
  |.tup [.tup [_,.int w,_,_],.int v]=>zI (w-v)
  |_=>uj
 have J:Cp (Ej [.fl (rs.map Row.enc),t]) (Ah 2 (Aa (gV 0) (Aa (gV 1) Ak))) Bb Y4 (Aw 2 [] [zF (rs.map Row.enc),uz t,uj,uj,uj]) rs.length 0 G=.ok (tab rs.length λi=>col Row.water rs i-T i) G:=by
  rw[V0 (F:=F) E (λx z=>?_) (by simp)]
  .congr 1
   rw[qX];show(zX rs.length).filterMap (λi=>zI (col Row.water rs i-T i))=_;rw[q9]
   rfl
  .obtain⟨i,_,rfl⟩:=zA.mp z;refine⟨[uz (J9 rs i),zI (T i)],by simp[Aw],.inr ⟨rfl,.int (col Row.water rs i-T i),?_,rfl⟩⟩;unfold Y4;simp[J9]
 have q:rs.length<=1000000:=by lia
 unfold Mh ZGt;rw[Aj];have u:Cr (De 0 (.fl (rs.map Row.enc))) (Ah 2 (Aa (gV 4) (Aa (gV 3) Ak))) Ni rs.length 0 [zF (rs.map Row.enc),uz t,zR G.length,uj,uj] (G++[.lst (tab rs.length λi=>col Row.water rs i-T i)])=.nx [zF (rs.map Row.enc),uz t,zR G.length,C,B] (G++[.lst (tab rs.length (gath rs λi=>col Row.water rs i-T i))]):=by have:=ZSu (S:=[zF (rs.map Row.enc),uz t,zR G.length,uj,uj]) (G:=G++[.lst (tab rs.length λi=>col Row.water rs i-T i)]) (g:=Ah 2 (Aa (gV 4) (Aa (gV 3) Ak))) (b:=Ni) (xs:=rs.map Row.enc);rw[zU]at this;rw[this];exact A
 simp[Vr (ZFO) y,J,Ae,q,u,Dk]
theorem ZF3{g:Row->Int}(h:∀r∈rs,0<=g r)(k:Nat):0<=col g rs k:=by
 unfold col;split
 .rename_i r q;exact h r (xZ q)
 .exact qk _
theorem Reach.need(h:Reach rs)(k:Nat):0<=col Row.need rs k:=ZF3 (λr q=>by obtain⟨i,u,rfl⟩:=qx q;exact(h i _ (zJ u)).n0) k
theorem Reach.water(h:Reach rs)(k:Nat):0<=col Row.water rs k:=ZF3 (λr q=>by obtain⟨i,u,rfl⟩:=qx q;exact(h i _ (zJ u)).w0) k
theorem ZJn(h:bels (G.length+1) ds=ux):freeze (G++[A]) (.ok (.ref (G.length+1)) (G++A:: .lst ds::L))=.ok (.fl ds) (G++[A]):=by have:=Cz (G:=G++[A]) (L:=L) (by simpa using h);simpa using this
theorem Um(h:bels (G.length+1) ds=ux):tidy (G++[A]) (.ok (.ref (G.length+1)) (G++A:: .lst ds::L))=.ok (.ref (G.length+1)) (G++[A,.lst ds]):=by have:=Dk (G:=G++[A]) (L:=L) (by simpa using h);simpa using this
theorem ZCH(h:bels (G.length+2) ds=ux):freeze (G++[A,B]) (.ok (.ref (G.length+2)) (G++A::B:: .lst ds::L))=.ok (.fl ds) (G++[A,B]):=by have:=Cz (G:=G++[A,B]) (L:=L) (by simpa using h);simpa using this
def J6(rs:List Row):Nat->Nat->List Nat
 |0,k=>[k]
 |m+1,k=>k::(match Bp rs k with
  |none=>[]
  |some d=>J6 rs m d)
def way(rs:List Row)(k:Nat):List Nat:=J6 rs rs.length k
theorem ZEK(u:Reach rs):∀(m m' k:Nat),rs.length<=m+k+1->rs.length<=m'+k+1->J6 rs m k=J6 rs m' k
 | 0,m',k,h,x=>by
  have w:Bp rs k=uj:=by
   cases q:Bp rs k with
   |none=>rfl
   |some d=>have:=Hc u q;lia
  cases m' with
  |zero=>rfl
  |succ m'=>simp[J6,w]
 | m+1,0,k,h,x=>by
  have w:Bp rs k=uj:=by
   cases q:Bp rs k with
   |none=>rfl
   |some d=>have:=Hc u q;lia
  simp[J6,w]
 | m+1,m'+1,k,h,x=>by
  cases q:Bp rs k with
  |none=>simp[J6,q]
  |some d=>
   have:=Hc u q;simp[J6,q,ZEK u m m' d (by lia) (by lia)]
def I9(rs:List Row):Option Nat->List Nat
 |none=>[]
 |some d=>way rs d
theorem Hq(q:Reach rs)(k:Nat):way rs k=k::I9 rs (Bp rs k):=by
 unfold way;rw[ZEK q rs.length (rs.length+1) k (by lia) (by lia)];show k::_=_;cases u:Bp rs k with
 |none=>rfl
 |some d=>rfl
@[simp]theorem ZWb:dnD (uz d)=.int d:=id rfl
noncomputable def Ao(ws:List Nat):List D:=ws.map λ(i:Nat)=>D.int (i:Int)
@[simp]theorem ZFb:bels m (Ao ws)=ux:=Dt λ_ _=>rfl
@[simp]theorem ZWv:(Ao ws).length=ws.length:=by simp[Ao]
theorem ZIF(w:Reach rs)(A:rs.length<=40):∀(m:Nat)(o:Option Nat)(acc:List Nat),0<m->(∀d,o=uz d->d<rs.length/\rs.length-d<m/\acc.length+(rs.length-d)<=100)->
  sWh Jz O8 m [zF (rs.map Row.enc),x,zR G.length,uz (dnD o)] (G++[.lst (Ao acc)])=.nx [zF (rs.map Row.enc),x,zR G.length,uz .non] (G++[.lst (Ao (acc++I9 rs o))])
 |0,o,acc,y,h=>by lia
 |m+1,uj,acc,y,h=>by
  have u:Jz [zF (rs.map Row.enc),x,zR G.length,uz (dnD uj)] (G++[.lst (Ao acc)])=.ok uv (G++[.lst (Ao acc)]):=by unfold Jz;simp[dnD]
  unfold sWh;rw[u];simp[I9,dnD]
 |m+1,uz d,acc,y,h=>by
  obtain⟨B,E,F⟩:=h d rfl;have u:Jz [zF (rs.map Row.enc),x,zR G.length,uz (dnD (uz d))] (G++[.lst (Ao acc)])=.ok ux (G++[.lst (Ao acc)]):=by unfold Jz;simp[dnD]
  have q:acc.length<1000000:=by lia
  have C:O8 [zF (rs.map Row.enc),x,zR G.length,uz (dnD (uz d))] (G++[.lst (Ao acc)])=.nx [zF (rs.map Row.enc),x,zR G.length,uz (dnD (Bp rs d))] (G++[.lst (Ao (acc++[d]))]):=by unfold O8;simp[Bs,Dp,q,ZAa B,Ao]
  unfold sWh;rw[u];simp only[R.Bq,if_true,C,Ck];rw[ZIF w A m (Bp rs d) (acc++[d]) (by lia) (λe z=>by have:=Hc w z;simp;lia)]
  have:I9 rs (uz d)=d::I9 rs (Bp rs d):=Hq w d;rw[this];simp
theorem ZSm(u:Reach rs)(y:rs.length<=40){k:Nat}(hk:k<rs.length)(G:DH):Sg [.fl (rs.map Row.enc),.int k] G=.ok (.ref G.length) (G++[.lst (Ao (way rs k))]):=by
 have w:=ZIF u y (x:=zI k) (G:=G) fuel (Bp rs k) [k] (by unfold fuel;lia) (λd z=>by have:=Hc u z;unfold fuel;simp;lia)
 have q:sWh Jz O8 fuel [zF (rs.map Row.enc),zI k,zR G.length,uz (dnD (Bp rs k))] (G++[.lst [.int k]])=_:=w;rw[Hq u];unfold Sg ZJF;rw[Aj];simp[Ae,Dk,ZAa hk,q]
def ltK(rs:List Row)(i j:Nat):Bool:=decide (col Row.rank rs i<col Row.rank rs j∨(col Row.rank rs i=col Row.rank rs j/\i<j))
theorem ZJj(rs:List Row):WO (ltK rs) where
 asy:=λi j h=>by simp only[ltK,decide_eq_true_eq,decide_eq_false_iff_not]at h⊢;lia
 neg:=λi j k h=>by simp only[ltK,decide_eq_true_eq]at h⊢;lia
def ord(rs:List Row):List Nat:=if rs.length<2 then zX rs.length else(Bo (ltK rs) (zi rs.length)).toList
theorem ZAo(rs:List Row):(ord rs).Perm (zX rs.length):=by
 unfold ord;split
 .exact .refl _
 .exact(ZFu (ZJj rs) (by lia)).1
theorem ZH3{k:Nat}(h:k∈ord rs):k<rs.length:=by have:=(ZAo rs).mem_iff.mp h;simpa using this
theorem ZHm(rs:List Row):(ord rs).length=rs.length:=by rw[(ZAo rs).length_eq];simp
theorem ZJM{n:Nat}{lt q:Nat->Nat->Bool}(h:∀i j,i<n->j<n->lt i j=q i j){w:Type}{P:w->Prop}:∀{t:vI w},Safe n P t->Bo lt t=Bo q t
 |.ret _,_=>rfl
 |.ask i j k,u=>by show Bo lt (k (lt i j))=Bo q (k (q i j));rw[h i j u.1 u.2.1];exact ZJM h (u.2.2 _)
def Du(rs:List Row)(k:Nat):D:=.tup [.int (col Row.rank rs k),.int k]
theorem ZE9(i j:Nat):ltD (Du rs i) (Du rs j)=uz (ltK rs i j):=by
 have e:ltD (Du rs i) (Du rs j)=if col Row.rank rs i=col Row.rank rs j then(if(i:Int)=j then uz uv else uz (decide ((i:Int)<j)))else uz (decide (col Row.rank rs i<col Row.rank rs j)):=rfl
 rw[e];by_cases h:col Row.rank rs i=col Row.rank rs j
 .rw[if_pos h];by_cases q:(i:Int)=j
  .rw[if_pos q]
   congr 1
   simp only[ltK]
   symm
   simp only[decide_eq_false_iff_not];lia
  .rw[if_neg q]
   congr 1
   simp only[ltK];rw[decide_eq_decide];lia
 .rw[if_neg h]
  congr 1
  simp only[ltK];rw[decide_eq_decide];lia
def Fd(rs:List Row):List D:=(zX rs.length).map (Du rs)
theorem Wl(h:i<rs.length):(Fd rs).getD i .non=Du rs i:=by unfold Fd;rw[z6,zx,zE h];rfl
theorem ZDG(rs:List Row):J1 (Fd rs)=(ord rs).map (Du rs):=by
 have w:(Fd rs).length=rs.length:=by simp[Fd]
 unfold J1 ord;rw[w];split
 .rfl
 .rename_i h;have e:Bo (ltI (Fd rs)) (zi rs.length)=Bo (ltK rs) (zi rs.length):=
   ZJM (λi j q u=>by unfold ltI;rw[Wl q,Wl u,ZE9];rfl) (ZSx (by lia))
  rw[e];refine qC λi q=>?_
  exact Wl (by simpa using((ZFu (ZJj rs) (n:=rs.length) (by lia)).1).mem_iff.mp q)
theorem ZRM(rs:List Row):Mr (Fd rs)=ux:=by
 unfold Mr Fd;rw[z5,j5];refine⟨.inl ?_,?_⟩
 .rw[qY];intro x q;obtain⟨i,_,rfl⟩:=zA.mp q
  rfl
 .rw[qY];intro x q;rw[qY];intro y u;obtain⟨i,_,rfl⟩:=zA.mp q;obtain⟨j,_,rfl⟩:=zA.mp u;rw[ZE9];rfl
@[simp]theorem ZLJ:bels m (ws.map (Du rs))=ux:=Dt λ_ _=>by simp[Du]
theorem ZME(L:rs.length<=40)(G:DH):Su [.fl (rs.map Row.enc)] G=.ok (.ref G.length) (G++[.lst (Ao (ord rs))]):=by
 have C:∀j,De 0 (.fl (rs.map Row.enc)) j G=uz ((zX rs.length).map λ(k:Nat)=>D.tup [.int (k:Int),J9 rs k])[j]? :=λj=>by
  rw[Rj,Dg,ZFQ,List.zipIdx_map,jK]
  congr 2
  refine qI (by simp) λi A K=>by simp
 let F:D->Option D:=λd=>match d with
  |.tup [.int k,.tup [_,_,_,.int r]]=>zT [.int r,.int k]
  |_=>uj
 have E:Cp (De 0 (.fl (rs.map Row.enc))) (Ah 2 (Aa (gV 0) (Aa (gV 1) Ak))) Bb ZBX (Aw 2 [] [zF (rs.map Row.enc),uj]) rs.length 0 G=.ok (Fd rs) G:=by
  rw[V0 (F:=F) C (λx w=>?_) (by simp)]
  .congr 1
   rw[qX];show(zX rs.length).filterMap (λi=>uz (Du rs i))=_;rw[q9]
   rfl
  .obtain⟨i,_,rfl⟩:=zA.mp w;refine⟨[zI i,uz (J9 rs i)],by simp[Aw],.inr ⟨rfl,Du rs i,?_,rfl⟩⟩;unfold ZBX;simp[J9,Du,Am]
 let B:D->Option D:=λd=>match d with
  |.tup [_,k]=>uz k
  |_=>uj
 have u:∀S,Cm (Ah 2 (Aa (gV 0) (Aa (gV 1) Ak))) Bb Yc (Aw 2 [] S) ((ord rs).map (Du rs)) G=.ok (Ao (ord rs)) G:=λS=>by
  rw[Vg (F:=B) (λx w=>?_)]
  .congr 1
   rw[qX];show(ord rs).filterMap (λ(i:Nat)=>zI (i:Int))=_;rw[q9]
   rfl
  .obtain⟨i,_,rfl⟩:=zA.mp w;refine⟨[zI (col Row.rank rs i),zI i],by simp[Aw,Du],.inr ⟨rfl,.int i,?_,rfl⟩⟩;unfold Yc;simp
 have q:(Fd rs).length=rs.length:=by simp[Fd]
 have y:rs.length<=1000000:=by lia
 have I:∀G,Mp [.fl (Fd rs)] G=.ok (.ref G.length) (G++[.lst ((ord rs).map (Du rs))]):=λG=>by have A:Ft (.fl (Fd rs)) G=uz (Fd rs):=rfl;simp only[Mp,A];rw[if_pos ⟨⟨by rw[q];lia,by rw[ZDG];simp[ZHm];lia⟩,ZRM rs⟩,ZDG]
 have z:bels G.length (Fd rs)=ux:=ZLJ;have J:=ZHm rs;unfold Su ZHc;rw[Aj];simp[E,Ae,q,y,Cz,z,I,u,by omega,Dk]
noncomputable def wmin(P:Nat->Int):List Nat->Int
 |[]=>0
 |k::r=>(r.map P).foldl min (P k)
theorem ZR2{b:Nat}(h:b∈ws):wmin P ws<=P b:=by
 cases ws with
 |nil=>cases h
 |cons k r=>
  obtain⟨u,q,_⟩:=Vf (r.map P) (P k);rcases zj.mp h with rfl|h
  .exact u
  .exact q _ (zA.mpr ⟨b,h,rfl⟩)
theorem ZQH(h:ws≠[]):∃b∈ws,wmin P ws=P b:=by
 cases ws with
 |nil=>exact absurd rfl h
 |cons k r=>
  obtain⟨_,_,q⟩:=Vf (r.map P) (P k);rcases q with q|q
  .exact⟨k,zW,q⟩
  .obtain⟨b,u,e⟩:=zA.mp q;exact⟨b,zV _ u,e.symm⟩
def Gn(P:Nat->Int)(ws:List Nat)(t:Int):Nat->Int:=λi=>if i∈ws then P i-t else P i
def Uu(P:Nat->Int)(t:Int)(ws:List Nat):Nat->Int:=ws.foldl (λP b=>fset P b (P b-t)) P
theorem ZDE:∀{ws:List Nat}{P:Nat->Int},ws.Nodup->Uu P t ws=Gn P ws t
 |[],P,_=>by funext i;simp[Uu,Gn]
 |b::ws,P,h=>by
  obtain⟨u,q⟩:=qS.mp h;show Uu (fset P b (P b-t)) t ws=_;rw[ZDE q];funext i;by_cases e:i=b
  .subst e;simp[Gn,fset,u]
  .simp[Gn,fset,e]
theorem ZG9(u:Reach rs):∀(m k:Nat),rs.length<=m+k->k<rs.length->∀b∈way rs k,k<=b/\b<rs.length
 |0,k,h,hk,b,q=>by lia
 | m+1,k,h,hk,b,q=>by
  rw[Hq u]at q;rcases zj.mp q with rfl|q
  .lia
  .cases w:Bp rs k with
   |none=>rw[w]at q;cases q
   |some d=>
    have:=Hc u w;rw[w]at q;have:=ZG9 u m d (by lia) (by lia) b q;lia
theorem Sq(q:Reach rs){k b:Nat}(hk:k<rs.length)(u:b∈way rs k):k<=b/\b<rs.length:=ZG9 q rs.length k (by lia) hk b u
theorem ZIc(q:Reach rs):∀(m k:Nat),rs.length<=m+k->(way rs k).Nodup
 |0,k,h=>by rw[Hq q,ZD3 (by lia)];simp[I9]
 | m+1,k,h=>by
  rw[Hq q];cases x:Bp rs k with
  |none=>simp[I9]
  |some d=>
   have u:=Hc q x;refine qS.mpr ⟨λw=>?_,ZIc q m d (by lia)⟩;have:=Sq q u.2 w;lia
theorem ZVZ(q:Reach rs)(k:Nat):(way rs k).Nodup:=ZIc q rs.length k (by lia)
theorem ZDI(q:Reach rs):∀(m k:Nat),rs.length<=m+k->(way rs k).length<=m+1
 |0,k,h=>by rw[Hq q,ZD3 (by lia)];simp[I9]
 | m+1,k,h=>by
  rw[Hq q];cases w:Bp rs k with
  |none=>simp[I9]
  |some d=>
   have u:=Hc q w;have:=ZDI q m d (by lia);show(way rs d).length+1<=_;lia
def take1(rs:List Row)(P:Nat->Int)(k:Nat):Int:=min (col Row.need rs k) (wmin P (way rs k))
def srv(rs:List Row):List Nat->(Nat->Int)->(Nat->Int)->(Nat->Int)×(Nat->Int)
 |[],P,T=>(P,T)
 |k::ks,P,T=>srv rs ks (Gn P (way rs k) (take1 rs P k)) (fset T k (take1 rs P k))
def shr(rs:List Row):Nat->Int:=(srv rs (ord rs) (gath rs (col Row.water rs)) λ_=>0).2
noncomputable def pD(P:Nat->Int)(ws:List Nat):List D:=ws.map λi=>D.int (P i)
@[simp]theorem ZXC:(pD P ws).length=ws.length:=by simp[pD]
@[simp]theorem ZRf:bels m (pD P ws)=ux:=Dt λ_ _=>rfl
theorem ZFx{a b c d e:Option D}:∀(ws:List Nat)(P:Nat->Int)(x:Option D),(∀b∈ws,b<rs.length)->∃u,
  Av (gV 6) Uj (Ao ws) [a,b,zR (G.length+1),c,d,zI t,x] (G++[A,.lst (tab rs.length P)])=.nx [a,b,zR (G.length+1),c,d,zI t,u] (G++[A,.lst (tab rs.length (Uu P t ws))])
 |[],P,x,h=>⟨x,rfl⟩
 |w::ws,P,x,h=>by
  obtain⟨u,z⟩:=ZFx (e:=e) ws (fset P w (P w-t)) (zI w) λb q=>h b (zV _ q)
  refine⟨u,?_⟩;have hw:=h w zW;have y:(G++[A,DO.lst (tab rs.length P)])[G.length+1]?=uz (.lst (tab rs.length P)):=Qm _ 1;have q:Uj [a,b,zR (G.length+1),c,d,zI t,zI w] (G++[A,.lst (tab rs.length P)])=.nx [a,b,zR (G.length+1),c,d,zI t,zI w] (G++[A,.lst (tab rs.length (fset P w (P w-t)))]):=by unfold Uj;simp[Rm y (Et hw),y,λL o=>Uq L 1 o,Gm,hw,M5]
  show Av _ _ (.int w::Ao ws) _ _=_;rw[Br];simp only[Ce,R.Bq,qW,q,Ck];exact z
theorem ZKI(C:Reach rs)(W:rs.length<=40){G:DH}:∀(ks:List Nat)(P T:Nat->Int)(x y z w:Option D),(∀k∈ks,k<rs.length)->∃L O J N,
  Av (gV 3) Pb (Ao ks) [zF (rs.map Row.enc),zR G.length,zR (G.length+1),x,y,z,w] (G++[.lst (tab rs.length T),.lst (tab rs.length P)])=
   .nx [zF (rs.map Row.enc),zR G.length,zR (G.length+1),L,O,J,N] (G++[.lst (tab rs.length (srv rs ks P T).2),.lst (tab rs.length (srv rs ks P T).1)])
 |[],P,T,x,y,z,w,h=>⟨x,y,z,w,rfl⟩
 | k::ks,P,T,x,y,z,w,h=>by
  have hk:=h k zW;have E:∀b∈way rs k,b<rs.length:=λb M=>(Sq C hk M).2
  obtain⟨U,u⟩:=ZFx (a:=zF (rs.map Row.enc)) (b:=zR G.length) (c:=zI k) (d:=zF (Ao (way rs k))) (e:=uj) (t:=take1 rs P k) (A:=.lst (tab rs.length (fset T k (take1 rs P k)))) (G:=G) (way rs k) P w E;rw[ZDE (ZVZ C k)]at u;obtain⟨L,O,J,N,ih⟩:=ZKI C W ks (Gn P (way rs k) (take1 rs P k)) (fset T k (take1 rs P k)) (zI k) (zF (Ao (way rs k))) (zI (take1 rs P k)) U λj Y=>h j (zV _ Y)
  refine⟨L,O,J,N,?_⟩;have B:Cm (gV 0) Bb ZCQ (Aw 1 [2] [zF (rs.map Row.enc),zR G.length,zR (G.length+1),zI k,zF (Ao (way rs k)),z,w]) (Ao (way rs k)) (G++[DO.lst (tab rs.length T),DO.lst (tab rs.length P)])=.ok (pD P (way rs k)) (G++[DO.lst (tab rs.length T),DO.lst (tab rs.length P)]):=by
   rw[Vg (F:=λd=>match d with | .int i=>zI (P i.toNat)|_=>uj) (λq X=>?_)]
   .congr 1
    unfold Ao;rw[qX];show(way rs k).filterMap (λ(i:Nat)=>zI (P ((i:Int).toNat)))=_;rw[q9];simp[pD]
   .obtain⟨i,Z,rfl⟩:=zA.mp X;refine⟨[zI i,zR (G.length+1)],by simp[Aw],.inr ⟨rfl,.int (P i),?_,by simp⟩⟩;unfold ZCQ;simp[Qm _ 1,Et (E i Z)]
  have Q:(way rs k).length<=1000000:=by have h1:=ZDI C rs.length k (by lia);lia
  have I:∀G,Gp [.fl (pD P (way rs k))] G=.ok (.int (wmin P (way rs k))) G:=λG=>by rw[Hq C];exact ZId (by simp[pD])
  have M:Pb [zF (rs.map Row.enc),zR G.length,zR (G.length+1),zI k,y,z,w] (G++[.lst (tab rs.length T),.lst (tab rs.length P)])=
    .nx [zF (rs.map Row.enc),zR G.length,zR (G.length+1),zI k,zF (Ao (way rs k)),zI (take1 rs P k),U] (G++[.lst (tab rs.length (fset T k (take1 rs P k))),.lst (tab rs.length (Gn P (way rs k) (take1 rs P k)))]):=by
   unfold Pb;have K:min (col Row.need rs k) (wmin P (way rs k))=take1 rs P k:=rfl;simp[ZSm C W hk,ZCH ZFb,ZAa hk,B,Ae,Q,ZCH ZRf,I,K,Bs,Dp,Gm,hk,M5,u]
  show Av _ _ (.int k::Ao ks) _ _=_;rw[Br];simp only[Ce,R.Bq,qW,M,Ck];exact ih
theorem ZK1(z:Reach rs)(y:rs.length<=40)(G:DH):Tq [.fl (rs.map Row.enc)] G=.ok (.ref G.length) (G++[.lst (tab rs.length (shr rs))]):=by
 have F:zZ rs.length (D.int 0)=tab rs.length λ_=>0:=by unfold tab;refine qI (by simp) λi L K=>by simp
 have u:Ei (.ref G.length) (.int (rs.length:Int)) (G++[.lst [.int 0]])=.ok (.ref (G.length+1)) (G++[.lst [.int 0],.lst (tab rs.length λ_=>0)]):=by rw[ZHf (by rw[Bs];rfl) (by lia),F];simp
 have x:tidy G (.ok (.ref (G.length+1)) (G++[.lst [.int 0],.lst (tab rs.length λ_=>0)]))=.ok (.ref G.length) (G++[.lst (tab rs.length λ_=>0)]):=ZAl _ rfl Gz;have hp:Mh [.fl (rs.map Row.enc),.ref G.length] (G++[.lst (tab rs.length λ_=>0)])=.ok (.ref (G.length+1)) (G++[.lst (tab rs.length λ_=>0),.lst (tab rs.length (gath rs (col Row.water rs)))]):=by rw[ZKK z y (ZNK (by rw[Bs];rfl))];simp
 obtain⟨I,E,C,J,B⟩:=ZKI z y (ord rs) (gath rs (col Row.water rs)) (λ_=>0) uj uj uj uj λk hk=>ZH3 hk
 have q:∀A,tidy G (.ok (.ref G.length) (G++[.lst (tab rs.length (shr rs)),A]))=.ok (.ref G.length) (G++[.lst (tab rs.length (shr rs))]):=λA=>Dk Gz
 have w:Av (gV 3) Pb (Ao (ord rs)) [zF (rs.map Row.enc),zR G.length,zR (G.length+1),uj,uj,uj,uj] (G++[.lst (tab rs.length λ_=>0),.lst (tab rs.length (gath rs (col Row.water rs)))])=
   .nx [zF (rs.map Row.enc),zR G.length,zR (G.length+1),I,E,C,J] (G++[.lst (tab rs.length (shr rs)),.lst (tab rs.length (srv rs (ord rs) (gath rs (col Row.water rs)) λ_=>0).1)]):=B
 unfold Tq ZJ0;rw[Aj];simp[Ae,u,x,hp,Um Gz,ZME y,ZCH ZFb,w,q]
def ind(t:Int)(ws:List Nat):Nat->Int:=λi=>if i∈ws then t else 0
theorem ZBu(u:Reach rs){k:Nat}:∀(m j:Nat)(A:Nat->Int),k<j->gat rs m j (λi=>A i+ind t [k] i)=λi=>gat rs m j A i+ind t [k] i
 |0,j,A,h=>rfl
 | m+1,j,A,h=>by
  unfold gat;have e:gstep (λi=>A i+ind t [k] i) j (Bp rs j)=λi=>gstep A j (Bp rs j) i+ind t [k] i:=by
   cases y:Bp rs j with
   |none=>rfl
   |some d=>
    have:=Hc u y;funext i;simp only[gstep,fset,ind,qH];have x:j≠k:=by lia
    have w:d≠k:=by lia
    by_cases q:i=d
    .subst q;simp[x,w]
    .simp[q]
  rw[e,ZBu u m (j+1) _ (by lia)]
theorem ZCE(u:Reach rs):∀(m j k:Nat)(A:Nat->Int),j+m=rs.length->j<=k->k<rs.length->gat rs m j (λi=>A i+ind t [k] i)=λi=>gat rs m j A i+ind t (way rs k) i
 |0,j,k,A,h,F,B=>by lia
 | m + 1,j,k,A,h,F,B=>by
  unfold gat;by_cases I:j<k
  .have e:gstep (λi=>A i+ind t [k] i) j (Bp rs j)=λi=>gstep A j (Bp rs j) i+ind t [k] i:=by
    cases x:Bp rs j with
    |none=>rfl
    |some d=>
     funext i;simp only[gstep,fset,ind,qH];have y:j≠k:=by lia
     by_cases q:i=d
     .subst q;simp[y];split <;> lia
     .simp[q]
   rw[e,ZCE u m (j+1) k _ (by lia) (by lia) B]
  .have E:j=k:=by lia
   subst E;cases x:Bp rs j with
   |none=>
    have hw:way rs j=[j]:=by rw[Hq u,x];rfl
    show gat rs m (j+1) (λi=>A i+ind t [j] i)=_;rw[ZBu u m (j+1) A (by lia),hw]
    rfl
   | some d=>
    have w:=Hc u x;have hw:way rs j=j::way rs d:=by rw[Hq u,x];rfl
    have e:gstep (λi=>A i+ind t [j] i) j (uz d)=λi=>(gstep A j (uz d) i+ind t [d] i)+ind t [j] i:=by
     funext i;simp only[gstep,fset,ind,qH];have y:d≠j:=by lia
     by_cases q:i=d
     .subst q;simp[y];lia
     .simp[q]
    rw[e,ZBu u m (j+1) _ (by lia),ZCE u m (j+1) d _ (by lia) (by lia) w.2];funext i;have z:j∉way rs d:=λC=>by have:=Sq u w.2 C;lia
    simp only[ind,hw,zj,qH];by_cases q:i=j
    .subst q;simp[z]
    .simp[q]
theorem ZVa(u:Reach rs){W:Nat->Int}{k:Nat}(hk:k<rs.length)(w:T k=0):gath rs (λi=>W i-fset T k t i)=Gn (gath rs λi=>W i-T i) (way rs k) t:=by
 have e:(λi=>W i-fset T k t i)=λi=>(W i-T i)+ind (-t) [k] i:=by
  funext i;simp only[fset,ind,qH];by_cases q:i=k
  .subst q;simp[w];lia
  .simp[q]
 rw[e];show gat rs rs.length 0 _=_;rw[ZCE u rs.length 0 k _ (by lia) (by lia) hk];funext i;simp only[ind,Gn,gath]
 split <;> lia
theorem ZDX:∀(m k:Nat)(F:Nat->Int),(∀i,0<=F i)->∀i,0<=gat rs m k F i
 |0,k,F,h,i=>h i
 | m+1,k,F,h,i=>by
  refine ZDX m (k+1) _ (λj=>?_) i;cases Bp rs k with
  |none=>exact h j
  |some d=>
   simp only[gstep,fset];have:=h d;have:=h k;have:=h j
   split <;> lia
structure SI (rs:List Row) (P T:Nat->Int):Prop where
 pg:P=gath rs λi=>col Row.water rs i-T i
 t0:∀i,0<=T i
 tn:∀i,T i<=col Row.need rs i
 p0:∀i,i<rs.length->0<=P i
theorem ZKd(h:∀b∈ws,0<=P b):0<=wmin P ws:=by
 cases ws with
 |nil=>exact qk _
 |cons k r=>
  obtain⟨b,q,e⟩:=ZQH (ws:=k::r) (by simp);rw[e];exact h b q
theorem SI.take(u:Reach rs)(s:SI rs P T){k:Nat}(hk:k<rs.length):0<=take1 rs P k/\take1 rs P k<=col Row.need rs k/\∀b∈way rs k,take1 rs P k<=P b:=by
 have x:=ZKd λb q=>s.p0 b (Sq u hk q).2
 have w:=u.need k;unfold take1;refine⟨by lia,by lia,λb q=>?_⟩;have:=ZR2 (P:=P) q;lia
theorem SI.step(q:Reach rs)(s:SI rs P T){k:Nat}(hk:k<rs.length)(w:T k=0):SI rs (Gn P (way rs k) (take1 rs P k)) (fset T k (take1 rs P k)):=by
 obtain⟨a,b,c⟩:=s.take q hk;refine⟨?_,λi=>?_,λi=>?_,λi x=>?_⟩
 .rw[ZVa q hk w,<-s.pg]
 .simp only[fset];split
  .exact a
  .exact s.t0 i
 .simp only[fset];split
  .rename_i e;rw[e];exact b
  .exact s.tn i
 .simp only[Gn];split
  .rename_i u;have:=c i u;lia
  .exact s.p0 i x
theorem SI.run(w:Reach rs):∀(ks:List Nat)(P T:Nat->Int),SI rs P T->ks.Nodup->(∀k∈ks,k<rs.length/\T k=0)->SI rs (srv rs ks P T).1 (srv rs ks P T).2
 |[],P,T,s,_,_=>s
 |k::ks,P,T,s,B,h=>by
  obtain⟨z,y⟩:=qS.mp B;obtain⟨hk,A⟩:=h k zW;refine SI.run w ks _ _ (s.step w hk A) y λj x=>?_
  obtain⟨u,q⟩:=h j (zV _ x);have:j≠k:=λe=>z (e▸x)
  exact⟨u,by simp[fset,this,q]⟩
theorem ZRF(rs:List Row):(ord rs).Nodup:=(ZAo rs).nodup_iff.mpr List.nodup_range
theorem SI.first(q:Reach rs):SI rs (gath rs (col Row.water rs)) λ_=>0:=
 ⟨by simp,λ_=>qk _,q.need,λi _=>ZDX _ _ _ q.water i⟩
theorem ZNA(q:Reach rs):SI rs (srv rs (ord rs) (gath rs (col Row.water rs)) λ_=>0).1 (shr rs):=
 SI.run q (ord rs) _ _ (SI.first q) (ZRF rs) λk hk=>⟨ZH3 hk,rfl⟩
theorem rp:¬(("pump":Str)="river"):=by decide
theorem pr:¬(("river":Str)="pump"):=by decide
structure Stp where
 h:Int
 m:Int
 r:Bool
variable{st:List Stp}
def wy(r:Bool):Str:=if r then "river" else "pump"
def Stp.enc(s:Stp):D:=.tup [.int s.h,.int s.m,.str (wy s.r)]
@[simp]theorem ZWQ{n:Nat}:bels n (st.map Stp.enc)=ux:=Dt λs _=>by simp[Stp.enc]
@[simp]theorem ZWZ{r:Bool}:(wy r="river")=(r=ux):=by
 cases r
 .exact propext ⟨λh=>absurd h rp,λh=>by cases h⟩
 .exact propext ⟨λh=>rfl,λ_=>rfl⟩
@[simp]theorem ZWc{r:Bool}:(wy r="pump")=(r=uv):=by
 cases r
 .exact propext ⟨λh=>rfl,λ_=>rfl⟩
 .exact propext ⟨λh=>absurd h pr,λh=>by cases h⟩
noncomputable abbrev Ssn:=Int×List Stp
def Be(s:Ssn):D:=.tup [.int s.1,.tup (s.2.map Stp.enc)]
@[simp]theorem ZWl{n:Nat}{ss:List Ssn}:bels n (ss.map Be)=ux:=Dt λs _=>by simp[Be]
def held(t:Int):List Ssn->List Stp->List Stp
 |[],h=>h
 |s::r,h=>held t r (if s.1<=t then s.2 else h)
theorem ZD9{c:D}:∀{ss:List Ssn}{h:List Stp}{a b:Option D},∃q u,Av (Ah 2 (Aa (gV 3) (Aa (gV 4) Ak))) Tc (ss.map Be) [uz c,zI t,zT (h.map Stp.enc),a,b] G=
  .nx [uz c,zI t,zT ((held t ss h).map Stp.enc),q,u] G
 |[],h,a,b=>⟨a,b,by rw[jB,Cv];rfl⟩
 | s::r,h,a,b=>by
  obtain⟨q,u,y⟩:=ZD9;refine⟨q,u,?_⟩;have w:Tc [uz c,zI t,zT (h.map Stp.enc),zI s.1,zT (s.2.map Stp.enc)] G=.nx [uz c,zI t,zT ((if s.1<=t then s.2 else h).map Stp.enc),zI s.1,zT (s.2.map Stp.enc)] G:=by
   unfold Tc
   by_cases x:s.1<=t<;>simp[x]
  rw[zk,Br];simp only[Be,Np,Lr,Nt,Ce,R.H8,R.Bq,qW,w,Ck,zM,qT,Nat.reduceAdd,if_true];exact y
theorem c_at{ss:List Ssn}:Rr [.tup (ss.map Be),.int t] G=.ok (.tup ((held t ss []).map Stp.enc)) G:=by obtain⟨a,b,h⟩:=ZD9 (c:=.tup (ss.map Be)) (t:=t) (G:=G) (ss:=ss) (h:=[]) (a:=uj) (b:=uj);unfold Rr ZJr;rw[Aj];simp at h;simp[h,Ba]
noncomputable def cub(w:Int)(s:Stp):Int:=max 0 (min s.m (w-s.h))
def rv(w:Int):List Stp->Int
 |[]=>0
 |s::r=>(if s.r then cub w s else 0)+rv w r
def pm(w:Int):List Stp->Int
 |[]=>0
 |s::r=>(if s.r then 0 else cub w s)+pm w r
theorem ZJa{c:D}{w:Int}:∀{st:List Stp}{a b:Int}{e f g h:Option D},∃q u g' h',Av (Ah 3 (Aa (gV 4) (Aa (gV 5) (Aa (gV 6) Ak)))) R4 (st.map Stp.enc) [uz c,zI w,zI a,zI b,e,f,g,h] G=
  .nx [uz c,zI w,zI (a+rv w st),zI (b+pm w st),q,u,g',h'] G
 |[],a,b,e,f,g,h=>⟨e,f,g,h,by simp[Cv,rv,pm]⟩
 | s::r,a,b,e,f,g,h=>by
  obtain⟨q,u,g',h',y⟩:=ZJa;refine⟨q,u,g',h',?_⟩;have x:R4 [uz c,zI w,zI a,zI b,zI s.h,zI s.m,zS (wy s.r),h] G=.nx [uz c,zI w,zI (a+(if s.r then cub w s else 0)),zI (b+(if s.r then 0 else cub w s)),zI s.h,zI s.m,zS (wy s.r),zI (cub w s)] G:=by
   unfold R4 cub
   cases s.r<;>simp
  rw[zk,Br];simp[Stp.enc,x];rw[y];simp[rv,pm,Int.add_assoc]
theorem ZHd{w:Int}:Vk [.tup (st.map Stp.enc),.int w] G=.ok (.tup [.int (rv w st),.int (pm w st),.int (w-rv w st-pm w st)]) G:=by obtain⟨e,f,g,h,q⟩:=ZJa (c:=.tup (st.map Stp.enc)) (w:=w) (G:=G) (st:=st) (a:=0) (b:=0) (e:=uj) (f:=uj) (g:=uj) (h:=uj);unfold Vk ZGw;rw[Aj];simp at q;simp[q,Ba]
inductive Kd where
 |basin (brim:Int) (rule:List Ssn) (pump:Option (Nat×Nat×Int))
 |town (need rank:Int)
 |mill (most:Int)
structure Pl where
 nm:Str
 dn:Option Nat
 dl:Nat
 kd:Kd
noncomputable def ZC2:Pl:=⟨"",uj,0,.mill 0⟩
structure Hs where
 yr:Int
 ps:List Pl
variable{h:Hs}
noncomputable def Kd.txt:Kd->Str
 |.basin ..=>"basin"
 |.town ..=>"town"
 |.mill ..=>"mill"
noncomputable def Kd.isB:Kd->Bool
 |.basin ..=>ux
 |_=>uv
noncomputable def Kd.isT:Kd->Bool
 |.town ..=>ux
 |_=>uv
def Hs.pl(h:Hs)(k:Nat):Pl:=h.ps.getD k ZC2
noncomputable def Hs.n(h:Hs):Nat:=h.ps.length
def Hs.dnT(h:Hs):Option Nat->Str
 |none=>"sea"
 |some d=>(h.pl d).nm
def Hs.Ke(h:Hs):Option (Nat×Nat×Int)->D
 |none=>.non
 |some (to,dl,m)=>.tup [.str (h.pl to).nm,.int dl,.int m]
def Hs.encP(h:Hs)(p:Pl):D:=match p.kd with
 |.basin b r q=>.tup [.str "basin",.str p.nm,.str (h.dnT p.dn),.int p.dl,.int b,.tup (r.map Be),h.Ke q]
 |.town a b=>.tup [.str "town",.str p.nm,.str (h.dnT p.dn),.int p.dl,.int a,.int b]
 |.mill a=>.tup [.str "mill",.str p.nm,.str (h.dnT p.dn),.int p.dl,.int a]
def Hs.Bv(h:Hs):List D:=h.ps.map h.encP
def Hs.enc(h:Hs):D:=.tup [.int h.yr,.tup h.Bv]
def Good:Int->List Stp->Prop
 |_,[]=>True
 |t,s::r=>t<=s.h/\1<=s.m/\Good (s.h+s.m) r
structure GoodH (h:Hs):Prop where
 yr:0<h.yr
 len:h.n<=12
 inj:∀i j,i<h.n->j<h.n->(h.pl i).nm=(h.pl j).nm->i=j
 sea:∀i,i<h.n->(h.pl i).nm≠"sea"
 dn:∀k d,k<h.n->(h.pl k).dn=uz d->k<d/\d<h.n
 dl:∀k,k<h.n->(h.pl k).dl<=5
 pump:∀k b r to dl m,k<h.n->(h.pl k).kd=.basin b r (uz (to,dl,m))->to<h.n/\1<=dl/\dl<=5
 brim:∀k b r q,k<h.n->(h.pl k).kd=.basin b r q->0<=b/\∀s∈r,Good 0 s.2
 town:∀k a b,k<h.n->(h.pl k).kd=.town a b->0<=a/\0<=b
theorem Hs.Hr:h.Bv.length=h.n:=by simp[Hs.Bv,Hs.n]
theorem Hs.ZD7{k:Nat}(hk:k<h.n):h.Bv[k]?=uz (h.encP (h.pl k)):=by unfold Hs.Bv Hs.pl;rw[zx,zJ hk];simp[z6,zJ hk]
theorem Hs.Dq{k:Nat}(hk:k<h.n):atI h.Bv (k:Int)=uz (h.encP (h.pl k)):=Dj rfl (Hs.ZD7 hk)
theorem Hs.ZP1{n:Nat}{q:Option (Nat×Nat×Int)}:bel n (h.Ke q)=ux:=by
 cases q with
 |none=>rfl
 |some x=>obtain⟨a,b,c⟩:=x;simp[Hs.Ke]
@[simp]theorem Hs.ZMs{n:Nat}{p:Pl}:bel n (h.encP p)=ux:=by
 unfold Hs.encP
 cases p.kd<;>simp[Hs.ZP1]
@[simp]theorem Hs.ZW6{n:Nat}:bels n h.Bv=ux:=Dt λ_ _=>Hs.ZMs
section
variable{h:Hs}{p:Pl}{G:DH}
@[simp]theorem encP0:Bk (h.encP p) (.int 0) G=.ok (.str p.kd.txt) G:=by
 unfold Hs.encP
 cases p.kd<;>simp[Kd.txt]
@[simp]theorem encP1:Bk (h.encP p) (.int 1) G=.ok (.str p.nm) G:=by
 unfold Hs.encP
 cases p.kd<;>simp
@[simp]theorem encP2:Bk (h.encP p) (.int 2) G=.ok (.str (h.dnT p.dn)) G:=by
 unfold Hs.encP
 cases p.kd<;>simp
@[simp]theorem encP3:Bk (h.encP p) (.int 3) G=.ok (.int p.dl) G:=by
 unfold Hs.encP
 cases p.kd<;>simp
theorem Cj:Bk h.enc (.int 1) G=.ok (.tup h.Bv) G:=by unfold Hs.enc;simp
theorem Rp:Bk h.enc (.int 0) G=.ok (.int h.yr) G:=by unfold Hs.enc;simp
theorem Gh{k:Kd}:(k.txt="basin")=(k.isB=ux):=by cases k<;>simp[Kd.txt,Kd.isB]<;>decide
theorem T7{k:Kd}:(k.txt="town")=(k.isT=ux):=by cases k<;>simp[Kd.txt,Kd.isT]<;>decide
end
theorem ZH6(g:GoodH h)(w:d<h.n):∀(m k:Nat)(a b:Option D),k+m=d->
  Av (Ah 2 (Aa (gV 2) (Aa (gV 3) Ak))) Nm ((Dg h.Bv).drop k) [uz h.enc,zS (h.pl d).nm,a,b] G=.rt (.int d) G
 | m,k,a,b,e=>by
  have hk:k<h.n:=by lia
  have x:(Dg h.Bv).drop k=.tup [.int k,h.encP (h.pl k)]::(Dg h.Bv).drop (k+1):=by rw[zO (by rw[Ii,Hs.Hr];exact hk)];have:=Hs.ZD7 hk;rw[zJ (by rw[Hs.Hr];exact hk)]at this;simp[Dg,Option.some.inj this]
  rw[x,Br];cases m with
  |zero=>
   have y:k=d:=by lia
   subst y;have u:Nm [uz h.enc,zS (h.pl k).nm,zI k,uz (h.encP (h.pl k))] G=.rt (.int k) G:=by unfold Nm;simp
   simp[u]
  |succ m=>
   have q:(h.pl k).nm≠(h.pl d).nm:=λz=>by have:=g.inj k d hk w z;lia
   have u:Nm [uz h.enc,zS (h.pl d).nm,zI k,uz (h.encP (h.pl k))] G=.nx [uz h.enc,zS (h.pl d).nm,zI k,uz (h.encP (h.pl k))] G:=by unfold Nm;simp[q]
   simp[u];exact ZH6 g w m (k+1) _ _ (by lia)
theorem ZGv(g:GoodH h)(u:d<h.n)(G:DH):Oo [h.enc,.str (h.pl d).nm] G=.ok (.int d) G:=by have q:=ZH6 g u (G:=G) d 0 uj uj (by lia);rw[xK]at q;unfold Oo ZF5;rw[Aj];simp[Cj,Es,Hz,lenOf,q,Ba]
def Hs.dn(h:Hs)(k:Nat):Option Nat:=(h.pl k).dn
theorem Kw(g:GoodH h){k:Nat}(hk:k<h.n)(G:DH):Q6 [h.enc,.int k] G=.ok (dnD (h.dn k)) G:=by
 unfold Q6 ZEv;rw[Aj];cases u:h.dn k with
 |none=>
  have e:(h.pl k).dn=uj:=u;simp[Cj,Hs.Dq hk,e,Hs.dnT,dnD,Ba]
 |some d=>
  have e:(h.pl k).dn=uz d:=u;have q:=g.dn k d hk e;simp[Cj,Hs.Dq hk,e,Hs.dnT,g.sea d q.2,ZGv g q.2,dnD,Ba]
def Hs.dir(h:Hs)(k:Nat):Option Nat:=match h.dn k with
 |none=>uj
 |some d=>if 0<(h.pl k).dl∨(h.pl k).kd.isB=ux∨(h.pl d).kd.isB=ux then uj else uz d
theorem Nu(g:GoodH h){k:Nat}(hk:k<h.n)(G:DH):Oa [h.enc,.int k] G=.ok (dnD (h.dir k)) G:=by
 unfold Oa ZIO;rw[Aj];cases q:h.dn k with
 |none=>simp[Cj,Kw g hk,q,Hs.dir,dnD,Ba]
 | some d=>
  have y:=g.dn k d hk q;by_cases u:0<(h.pl k).dl
  .simp[Cj,Kw g hk,q,Hs.dir,dnD,Ba,Hs.Dq hk,u]
  .by_cases w:(h.pl k).kd.isB=ux
   .simp[Cj,Kw g hk,q,Hs.dir,dnD,Ba,Hs.Dq hk,u,Gh,w]
   .by_cases x:(h.pl d).kd.isB=ux
    .simp[Cj,Kw g hk,q,Hs.dir,dnD,Ba,Hs.Dq hk,Hs.Dq y.2,u,Gh,w,x]
    .simp[Cj,Kw g hk,q,Hs.dir,dnD,Ba,Hs.Dq hk,Hs.Dq y.2,u,Gh,w,x]
theorem ZML(g:GoodH h){k:Nat}(hk:k<h.n)(e:h.dir k=uz d):k<d/\d<h.n:=by
 unfold Hs.dir at e;cases q:h.dn k with
 |none=>rw[q]at e;cases e
 |some u=>
  rw[q]at e;simp only at e;split at e
  .cases e
  .cases e;exact g.dn k d hk q
theorem ZPV{k:Nat}(hk:¬k<h.n):h.pl k=ZC2:=by
 unfold Hs.pl;rw[z6,z7 (by unfold Hs.n at hk;lia)]
 rfl
theorem N7{k:Nat}(hk:¬k<h.n):h.dir k=uj:=by
 have e:h.dn k=uj:=by unfold Hs.dn;rw[ZPV hk];rfl
 unfold Hs.dir;rw[e]
theorem K1(g:GoodH h){k:Nat}(e:h.dir k=uz d):k<d/\d<h.n/\k<h.n:=by
 by_cases hk:k<h.n
 .have:=ZML g hk e;lia
 .rw[N7 hk]at e;cases e
def Hs.Hm(h:Hs):Nat->Nat->Nat
 |0,k=>k
 |m+1,k=>match h.dir k with
  |none=>k
  |some d=>h.Hm m d
def Hs.last(h:Hs)(k:Nat):Nat:=h.Hm h.n k
theorem Xf(g:GoodH h):∀(m m' k:Nat),h.n<=m+k->h.n<=m'+k->h.Hm m k=h.Hm m' k
 |0,m',k,e,w=>by
  have q:h.dir k=uj:=N7 (by lia);cases m' with
  |zero=>rfl
  |succ m'=>simp[Hs.Hm,q]
 |m+1,0,k,e,w=>by have q:h.dir k=uj:=N7 (by lia);simp[Hs.Hm,q]
 | m+1,m'+1,k,e,w=>by
  cases u:h.dir k with
  |none=>simp[Hs.Hm,u]
  |some d=>
   have:=K1 g u;simp[Hs.Hm,u,Xf g m m' d (by lia) (by lia)]
theorem J8(g:GoodH h){k:Nat}(e:h.dir k=uj):h.last k=k:=by unfold Hs.last;rw[Xf g h.n (h.n+1) k (by lia) (by lia)];simp[Hs.Hm,e]
theorem Ma(g:GoodH h){k:Nat}(e:h.dir k=uz d):h.last k=h.last d:=by unfold Hs.last;rw[Xf g h.n (h.n+1) k (by lia) (by lia)];simp[Hs.Hm,e]
theorem ZJC(g:GoodH h):∀(m k:Nat),h.n<=m+k->k<=h.last k/\(k<h.n->h.last k<h.n)
 |0,k,e=>by rw[J8 g (N7 (by lia))];lia
 | m+1,k,e=>by
  cases q:h.dir k with
  |none=>rw[J8 g q];lia
  |some d=>
   have:=K1 g q;rw[Ma g q];have:=ZJC g m d (by lia);lia
theorem ZHB(g:GoodH h)(k:Nat):k<=h.last k/\(k<h.n->h.last k<h.n):=ZJC g h.n k (by lia)
def Hs.Ez(h:Hs)(j:Nat):Nat->Int:=λi=>if j<=i then h.last i else i
theorem ZGm(g:GoodH h){G:DH}:∀(j:Nat)(x y:Option D),j<=h.n->∃B A,
  Av (gV 2) Ux (Iu ((j:Int)-1) j) [uz h.enc,zR G.length,x,y] (G++[.lst (tab h.n (h.Ez j))])=.nx [uz h.enc,zR G.length,B,A] (G++[.lst (tab h.n (h.Ez 0))])
 |0,x,y,e=>⟨x,y,by rw[ZR0,Cv]⟩
 | j + 1,x,y,e=>by
  have C:j<h.n:=by lia
  obtain⟨B,A,K⟩:=ZGm g (G:=G) j (zI j) (uz (dnD (h.dir j))) (by lia);refine⟨B,A,?_⟩;have J:(((j+1:Nat):Int)-1)=j:=by lia
  have I:Ux [uz h.enc,zR G.length,zI j,y] (G++[.lst (tab h.n (h.Ez (j+1)))])=.nx [uz h.enc,zR G.length,zI j,uz (dnD (h.dir j))] (G++[.lst (tab h.n (h.Ez j))]):=by
   unfold Ux;cases u:h.dir j with
   | none=>
    have z:tab h.n (h.Ez (j+1))=tab h.n (h.Ez j):=ZDz λi E=>by
     unfold Hs.Ez;by_cases w:i=j
     .subst w;rw[J8 g u];simp
     .by_cases q:j<=i
      .rw[if_pos q,if_pos (by lia)]
      .rw[if_neg q,if_neg (by lia)]
    simp[Nu g C,u,dnD,z]
   | some d=>
    have F:=K1 g u;have z:tab h.n (fset (h.Ez (j+1)) j (h.Ez (j+1) d))=tab h.n (h.Ez j):=ZDz λi E=>by
     unfold Hs.Ez fset;by_cases w:i=j
     .subst w;rw[if_pos rfl,if_pos (by lia),if_pos (by lia),Ma g u]
     .rw[if_neg w];dsimp only;by_cases q:j<=i
      .rw[if_pos q,if_pos (by lia)]
      .rw[if_neg q,if_neg (by lia)]
    simp[Nu g C,u,dnD,Bs,Et F.2.1,Dp,Gm,C,M5,z]
  rw[J,ZV5,Br];simp only[Ce,R.Bq,qW,I,Ck];exact K
theorem ZSQ(g:GoodH h)(G:DH):Ro [h.enc] G=.ok (.ref G.length) (G++[.lst (tab h.n λi=>(h.last i:Int))]):=by
 obtain⟨I,F,u⟩:=ZGm g (G:=G) h.n uj uj (zY _);have x:tab h.n (h.Ez h.n)=Bg 0 h.n:=by
  unfold tab Bg;refine qC λi y=>?_
  have:=qK.mp y;unfold Hs.Ez;rw[if_neg (by lia)];simp
 have B:h.Ez 0=λi=>(h.last i:Int):=by funext i;unfold Hs.Ez;simp
 rw[x,B]at u;have E:=g.len;have A:inR (h.n:Int):=Er (by lia) (by lia);have z:inR ((h.n:Int)-1):=Er (by lia) (by lia);have C:inR (-1):=Er (by lia) (by lia);have w:(h.n:Int)<=1000000:=by lia
 have q:bels G.length (Bg 0 h.n)=ux:=Dt λ_ _=>rfl
 unfold Ro ZFJ;rw[Aj];simp[Cj,Hs.Hr,A,w,Dk q,z,C,ZSp,by omega,u,Dk]
def Hs.mem(h:Hs)(m:Nat):List Nat:=(zX h.n).filter λk=>decide (h.last k=m)
theorem mem_iff{k:Nat}:k∈h.mem m↔k<h.n/\h.last k=m:=by unfold Hs.mem;rw[List.mem_filter,qK];simp
theorem ZAQ:(h.mem m).Pairwise (· < ·):=List.Pairwise.filter _ List.pairwise_lt_range
theorem ZIw:(h.mem m).length<=h.n:=by have:=List.length_filter_le (λk=>decide (h.last k=m)) (zX h.n);simpa[Hs.mem]using this
theorem ZP5(u:ms.Pairwise (· < ·))(w:i<ms.length)(q:j<ms.length)(h:ms[i]<ms[j]):i<j:=by
 rcases Nat.lt_trichotomy i j with z|z|z
 .exact z
 .subst z;lia
 .have:=jy.mp u j i q w z;lia
theorem ZR8(g:GoodH h)(w:m<h.n)(e:h.last m=m):(h.mem m).getLast?=uz m:=by
 have q:=mem_iff.mpr ⟨w,e⟩;have u:h.mem m≠[]:=λz=>by rw[z]at q;cases q
 rw[List.getLast?_eq_some_getLast u]
 congr 1
 have E:=mem_iff.mp (List.getLast_mem u);have A:=(ZHB g ((h.mem m).getLast u)).1;obtain⟨i,x,C⟩:=qx q;have B:m<=(h.mem m).getLast u:=by
  rw[List.getLast_eq_getElem];by_cases y:i=(h.mem m).length-1
  .subst y;lia
  .have:=jy.mp (ZAQ) i ((h.mem m).length-1) x (by lia) (by lia);lia
 lia
def Hs.need(h:Hs)(k:Nat):Int:=match(h.pl k).kd with
 |.town a _=>a
 |_=>0
def Hs.rank(h:Hs)(k:Nat):Int:=match(h.pl k).kd with
 |.town _ b=>b
 |_=>0
def Hs.row(h:Hs)(ms:List Nat)(ca:Nat->Int)(k:Nat):Row:=⟨(h.dir k).map λd=>ms.idxOf d,ca k,h.need k,h.rank k⟩
def Hs.rows(h:Hs)(ms:List Nat)(ca:Nat->Int):List Row:=ms.map (h.row ms ca)
theorem idx_map(d:Nat):∀ms:List Nat,(ms.map λ(i:Nat)=>(i:Int)).idxOf (d:Int)=ms.idxOf d
 |[]=>rfl
 | m::ms=>by
  rw[zk,List.idxOf_cons,List.idxOf_cons,idx_map d ms];by_cases e:m=d
  .subst e;simp
  .have u:¬((m:Int)=d):=by lia
   have q:((m:Int)==(d:Int))=uv:=by simp[u]
   have w:(m==d)=uv:=by simp[e]
   rw[q,w]
theorem ZGQ(g:GoodH h)(U:∀k∈ms,k<h.n/\∀d,h.dir k=uz d->d∈ms)(Y:ms.length<=40)(hp:G[p]?=uz (.lst (tab h.n ca))):∀(ks:List Nat)(acc:List Row)(x1 I B E:Option D),(∀k∈ks,k∈ms)->acc.length+ks.length<=40->∃O M Q N,
  Av (gV 4) Qv (Ao ks) [uz h.enc,zF (Ao ms),zR p,zR G.length,x1,I,B,E] (G++[.lst (acc.map Row.enc)])=
   .nx [uz h.enc,zF (Ao ms),zR p,zR G.length,O,M,Q,N] (G++[.lst ((acc++ks.map (h.row ms ca)).map Row.enc)])
 |[],acc,x1,I,B,E,_,_=>⟨x1,I,B,E,by simp[Ao,Cv]⟩
 | k::ks,acc,x1,I,B,E,hk,T=>by
  obtain⟨q,P⟩:=U k (hk k zW);obtain⟨O,M,Q,N,ih⟩:=ZGQ g U Y hp ks (acc++[h.row ms ca k]) (zI k) (uz (h.encP (h.pl k))) (uz (dnD (h.dir k))) (uz (dnD ((h.dir k).map λd=>ms.idxOf d))) (λj hj=>hk j (zV _ hj)) (by simp at T⊢;lia);refine⟨O,M,Q,N,?_⟩;have y:∀L:DH,(G++L)[p]?=uz (.lst (tab h.n ca)):=λL=>by rw[zG ((zC.mp hp).1)];exact hp
  have x:acc.length<1000000:=by simp at T;lia
  have J:h.row ms ca k=⟨(h.dir k).map λd=>ms.idxOf d,ca k,h.need k,h.rank k⟩:=rfl;have Z:Qv [uz h.enc,zF (Ao ms),zR p,zR G.length,zI k,I,B,E] (G++[.lst (acc.map Row.enc)])=
    .nx [uz h.enc,zF (Ao ms),zR p,zR G.length,zI k,uz (h.encP (h.pl k)),uz (dnD (h.dir k)),uz (dnD ((h.dir k).map λd=>ms.idxOf d))] (G++[.lst ((acc++[h.row ms ca k]).map Row.enc)]):=by
   have F:∀d,h.dir k=uz d->∀w,Ij (.fl (Ao ms)) [.int (d:Int)] w=.ok (.int (ms.idxOf d:Nat)) w:=λd z w=>by
    have e:Ao ms=(ms.map λ(i:Nat)=>(i:Int)).map D.int:=by simp[Ao]
    rw[e,ZGG (by simp[Ft]) (zA.mpr ⟨d,P d z,rfl⟩) (by simp;lia),idx_map]
   unfold Qv;by_cases u:(h.pl k).kd.isT=ux
   .obtain⟨a,b,K⟩:∃a b,(h.pl k).kd=.town a b:=by
     cases e:(h.pl k).kd with
     |town a b=>exact⟨a,b,rfl⟩
     |basin _ _ _=>rw[e]at u;cases u
     |mill _=>rw[e]at u;cases u
    have W:∀w,Bk (h.encP (h.pl k)) (.int 4) w=.ok (.int a) w:=λw=>by unfold Hs.encP;rw[K];simp
    have X:∀w,Bk (h.encP (h.pl k)) (.int 5) w=.ok (.int b) w:=λw=>by unfold Hs.encP;rw[K];simp
    have A:h.need k=a:=by unfold Hs.need;rw[K]
    have C:h.rank k=b:=by unfold Hs.rank;rw[K]
    cases z:h.dir k with
    |none=>simp[Cj,Hs.Dq q,Nu g q,z,dnD,T7,u,y,Et q,W,X,Am,Bs,Dp,x,J,Row.enc,A,C]
    |some d=>simp[Cj,Hs.Dq q,Nu g q,z,dnD,F d z,T7,u,y,Et q,W,X,Am,Bs,Dp,x,J,Row.enc,A,C]
   .have A:h.need k=0:=by
     unfold Hs.need;cases e:(h.pl k).kd with
     |town a b=>rw[e]at u;exact absurd rfl u
     |basin _ _ _=>rfl
     |mill _=>rfl
    have C:h.rank k=0:=by
     unfold Hs.rank;cases e:(h.pl k).kd with
     |town a b=>rw[e]at u;exact absurd rfl u
     |basin _ _ _=>rfl
     |mill _=>rfl
    cases z:h.dir k with
    |none=>simp[Cj,Hs.Dq q,Nu g q,z,dnD,T7,u,y,Et q,Am,Bs,Dp,x,J,Row.enc,A,C]
    |some d=>simp[Cj,Hs.Dq q,Nu g q,z,dnD,F d z,T7,u,y,Et q,Am,Bs,Dp,x,J,Row.enc,A,C]
  show Av _ _ (.int k::Ao ks) _ _=_;rw[Br];simp only[Ce,R.Bq,qW,Z,Ck];rw[ih];simp
theorem ZNz(g:GoodH h)(w:∀k∈ms,k<h.n/\∀d,h.dir k=uz d->d∈ms)(u:ms.length<=40)(hp:G[p]?=uz (.lst (tab h.n ca))):
  Ri [h.enc,.fl (Ao ms),.ref p] G=.ok (.ref G.length) (G++[.lst ((h.rows ms ca).map Row.enc)]):=by
 obtain⟨A,x,z,B,y⟩:=ZGQ g w u hp ms [] uj uj uj uj (λk hk=>hk) (by simpa using u);have q:Av (gV 4) Qv (Ao ms) [uz h.enc,zF (Ao ms),zR p,zR G.length,uj,uj,uj,uj] (G++[.lst []])=.nx [uz h.enc,zF (Ao ms),zR p,zR G.length,A,x,z,B] (G++[.lst ((h.rows ms ca).map Row.enc)]):=y;unfold Ri ZHV;rw[Aj];simp[Ae,Dk,q]
theorem ZHa(g:GoodH h)(E:∀k,k<h.n->0<=ca k):Reach (h.rows (h.mem m) ca):=λi r z=>by
 have u:i<(h.mem m).length:=by have:=(zC.mp z).1;simpa[Hs.rows]using this
 have e:r=h.row (h.mem m) ca (h.mem m)[i]:=by unfold Hs.rows at z;rw[zx,zJ u]at z;simpa using z.symm
 obtain⟨hk,w⟩:=mem_iff.mp (qw u);subst e;refine⟨λd F=>?_,E _ hk,?_,?_⟩
 .have q:(h.dir (h.mem m)[i]).map (λd=>(h.mem m).idxOf d)=uz d:=F;cases e:h.dir (h.mem m)[i]with
  |none=>rw[e]at q;cases q
  |some B=>
   rw[e]at q;have C:(h.mem m).idxOf B=d:=by simpa using q
   have A:=K1 g e;have y:B∈h.mem m:=mem_iff.mpr ⟨A.2.1,by rw[<-Ma g e];exact w⟩;have x:=j8 y;subst C;refine⟨ZP5 ZAQ u x (by rw[List.getElem_idxOf x];exact A.1),by simpa[Hs.rows]using x⟩
 .show 0<=h.need _;unfold Hs.need;cases e:(h.pl (h.mem m)[i]).kd with
  |town a b=>exact(g.town _ a b hk e).1
  |basin _ _ _=>exact qk _
  |mill _=>exact qk _
 .show 0<=h.rank _;unfold Hs.rank;cases e:(h.pl (h.mem m)[i]).kd with
  |town a b=>exact(g.town _ a b hk e).2
  |basin _ _ _=>exact qk _
  |mill _=>exact qk _
structure Cs where
 came:Nat->Int
 coming:Nat->Nat->Int
 page:Nat->List Int
 rea:List D
variable{s:Cs}
noncomputable def Ir(l:List Int):D:=match l with
 |[]=>.non
 |_=>.tup (l.map D.int)
@[simp]theorem ZQi{n:Nat}{l:List Int}:bel n (Ir l)=ux:=by
 cases l with
 |nil=>rfl
 |cons a l=>simp only[Ir,_D.bel];exact ZIM
noncomputable def cfl(ds:List D):List (Str×D):=(["house","levels","year_turn","came","coming","page","reaches"]:List Str).zip ds
def cflds(i n:Nat)(H LV:D)(yt:Int):List (Str×D):=cfl [H,LV,.int yt,.ref (i+1),.ref (i+(2+n)),.ref (i+(3+n)),.ref (i+(4+n))]
def Bw(n:Nat)(pg:Nat->List Int):List D:=(zX n).map λk=>Ir (pg k)
def Df(i n:Nat):List D:=(zX n).map λk=>D.ref (i+(2+k))
def csT(i n:Nat)(H LV:D)(yt:Int)(s:Cs):DH:=.ins "Course" (cflds i n H LV yt):: .lst (tab n s.came)::((zX n).map (λk=>DO.lst (tab 5 (s.coming k)))++[.lst (Df i n),.lst (Bw n s.page),.lst s.rea])
def csH(G:DH)(n:Nat)(H LV:D)(yt:Int)(s:Cs):DH:=G++csT G.length n H LV yt s
theorem ZLp{n:Nat}{yt:Int}:(csT i n H LV yt s).length=n+5:=by simp[csT]
theorem ZIm{n:Nat}{yt:Int}:(csH G n H LV yt s).length=G.length+(n+5):=by unfold csH;rw[zL,ZLp]
section
variable{G:DH}{n:Nat}{H LV:D}{yt:Int}{s:Cs}
theorem Li(j:Nat):(csH G n H LV yt s)[G.length+j]?=(csT G.length n H LV yt s)[j]? :=Qm _ j
theorem Ih:(csH G n H LV yt s)[G.length]?=uz (.ins "Course" (cflds G.length n H LV yt)):=Li 0
theorem Qo:(csH G n H LV yt s)[G.length+1]?=uz (.lst (tab n s.came)):=Li 1
theorem Vi:(csT i n H LV yt s)[2+j]?=((zX n).map (λk=>DO.lst (tab 5 (s.coming k)))++[.lst (Df i n),.lst (Bw n s.page),.lst s.rea])[j]? :=by
 have e:2+j=j+1+1:=by lia
 rw[e]
 rfl
theorem ZA8{k:Nat}(hk:k<n):(csH G n H LV yt s)[G.length+(2+k)]?=uz (.lst (tab 5 (s.coming k))):=by
 rw[Li,Vi,zG (by simpa using hk),zx,zE hk]
 rfl
theorem Uw:(csH G n H LV yt s)[G.length+(2+n)]?=uz (.lst (Df G.length n)):=by rw[Li,Vi,z9 (by simp)];simp
theorem Jh:(csH G n H LV yt s)[G.length+(3+n)]?=uz (.lst (Bw n s.page)):=by
 have e:3+n=2+(n+1):=by lia
 rw[e,Li,Vi,z9 (by simp)];simp
theorem csHe:(csH G n H LV yt s)[G.length+(4+n)]?=uz (.lst s.rea):=by
 have e:4+n=2+(n+2):=by lia
 rw[e,Li,Vi,z9 (by simp)];simp
theorem Rn(j:Nat)(o:DO):(csH G n H LV yt s).set (G.length+j) o=G++(csT G.length n H LV yt s).set j o:=Uq _ j o
theorem csS1:(csH G n H LV yt s).set (G.length+1) (.lst (tab n ca))=csH G n H LV yt {s with came:=ca}:=Rn 1 _
def upd2(co:Nat->Nat->Int)(k:Nat)(r:Nat->Int):Nat->Nat->Int:=λi=>if i=k then r else co i
theorem ZC6{o:DO}:(csT i n H LV yt s).set (2+j) o=.ins "Course" (cflds i n H LV yt):: .lst (tab n s.came)::((zX n).map (λk=>DO.lst (tab 5 (s.coming k)))++[DO.lst (Df i n),DO.lst (Bw n s.page),DO.lst s.rea]).set j o:=by
 have e:2+j=j+1+1:=by lia
 rw[e]
 rfl
theorem csSr{k:Nat}(hk:k<n){r:Nat->Int}:(csH G n H LV yt s).set (G.length+(2+k)) (.lst (tab 5 r))=csH G n H LV yt {s with coming:=upd2 s.coming k r}:=by
 rw[Rn,ZC6,List.set_append_left _ _ (by simpa using hk)];unfold csH csT
 congr 3
 congr 1
 refine j7 λi=>?_
 by_cases u:i<n
 .by_cases e:k=i
  .subst e;rw[jY (by simpa using u),zx,zE u];simp[upd2]
  .rw[qL e,zx,zE u,zx,zE u];have:i≠k:=λz=>e z.symm
   simp[upd2,this]
 .rw[z7 (by simp;lia),z7 (by simp;lia)]
theorem Sd:(csH G n H LV yt s).set (G.length+(3+n)) (.lst (Bw n q))=csH G n H LV yt {s with page:=q}:=by
 have e:3+n=2+(n+1):=by lia
 rw[e,Rn,ZC6,jO _ _ (by simp)];unfold csH csT;simp
theorem csSe{q:List D}:(csH G n H LV yt s).set (G.length+(4+n)) (.lst q)=csH G n H LV yt {s with rea:=q}:=by
 have e:4+n=2+(n+2):=by lia
 rw[e,Rn,ZC6,jO _ _ (by simp)];unfold csH csT;simp
theorem Iz:Ht "Course" "house" (.ref G.length) (csH G n H LV yt s)=.ok H (csH G n H LV yt s):=Ku Ih rfl
theorem ZHZ:Ht "Course" "levels" (.ref G.length) (csH G n H LV yt s)=.ok LV (csH G n H LV yt s):=Ku Ih rfl
theorem ZJc:Ht "Course" "year_turn" (.ref G.length) (csH G n H LV yt s)=.ok (.int yt) (csH G n H LV yt s):=Ku Ih rfl
theorem Sw:Ht "Course" "came" (.ref G.length) (csH G n H LV yt s)=.ok (.ref (G.length+1)) (csH G n H LV yt s):=Ku Ih rfl
theorem ZG5:Ht "Course" "coming" (.ref G.length) (csH G n H LV yt s)=.ok (.ref (G.length+(2+n))) (csH G n H LV yt s):=Ku Ih rfl
theorem Nb:Ht "Course" "page" (.ref G.length) (csH G n H LV yt s)=.ok (.ref (G.length+(3+n))) (csH G n H LV yt s):=Ku Ih rfl
theorem ZSz:Ht "Course" "reaches" (.ref G.length) (csH G n H LV yt s)=.ok (.ref (G.length+(4+n))) (csH G n H LV yt s):=Ku Ih rfl
theorem Io{m:Str}{F:List D->DH->R D}{t:DA}(q:∀i,(cflds i n H LV yt).lookup m=uj):Sx "Course" m F t S (.ref G.length) (csH G n H LV yt s)=(t S (csH G n H LV yt s)).bind λds u=>F (.ref G.length::ds) u:=ZSX Ih (q _)
theorem ZET:∀i,(cflds i n H LV yt).lookup ("send":Str)=uj:=λ_=>rfl
theorem ZAq:∀i,(cflds i n H LV yt).lookup ("send_down":Str)=uj:=λ_=>rfl
theorem ZNa:∀i,(cflds i n H LV yt).lookup ("go_basin":Str)=uj:=λ_=>rfl
theorem ZQZ:∀i,(cflds i n H LV yt).lookup ("go_reach":Str)=uj:=λ_=>rfl
theorem ZSn:∀i,(cflds i n H LV yt).lookup ("go":Str)=uj:=λ_=>rfl
theorem ZLL:∀i,(cflds i n H LV yt).lookup ("state_behind":Str)=uj:=λ_=>rfl
theorem Jc{s':Cs}{d:D}(q:∀m,bel m d=ux):tidy (csH G n H LV yt s) (.ok d (csH G n H LV yt s'))=.ok d (csH G n H LV yt s'):=ZOM (by rw[ZIm,ZIm]) (q _)
theorem ZO4{k:Nat}(hk:k<n):atI (Df i n) (k:Int)=zR (i+(2+k)):=Dj rfl (by unfold Df;rw[zx,zE hk];rfl)
theorem ZUv{u:Nat->List Int}{k:Nat}{l:List Int}:(Bw n u).set k (Ir l)=Bw n λi=>if i=k then l else u i:=by
 unfold Bw;refine j7 λi=>?_
 by_cases q:i<n
 .by_cases e:k=i
  .subst e;rw[jY (by simpa using q),zx,zE q];simp
  .rw[qL e,zx,zE q,zx,zE q];have:i≠k:=λz=>e z.symm
   simp[this]
 .rw[z7 (by simp;lia),z7 (by simp;lia)]
@[simp]theorem ZNj:(Bw n q).length=n:=by simp[Bw]
def Cs.send(s:Cs)(to dl:Nat)(c:Int):Cs:=if dl=0 then{s with came:=fset s.came to (s.came to+c)}else{s with coming:=upd2 s.coming to (fset (s.coming to) (dl-1) (s.coming to (dl-1)+c))}
theorem ZDR{u:Nat}(q:u<n)(y:dl<=5):Oh [.ref G.length,.int u,.int dl,.int c] (csH G n H LV yt s)=.ok .non (csH G n H LV yt (s.send u dl c)):=by
 unfold Oh ZG8;rw[Aj];by_cases w:dl=0
 .subst w;simp[Sw,Rm Qo (Et q),Qo,Gm,q,M5,csS1,Cs.send,Jc]
 .have e:((dl:Int)-1)=((dl-1:Nat):Int):=by lia
  have x:dl-1<5:=by lia
  simp[w,ZG5,Uw,ZO4 q,e,Rm (ZA8 q) (Et x),ZA8 q,Gm,x,M5,csSr q,Cs.send,Jc]
end
def Hs.Ex(h:Hs)(s:Cs)(k:Nat)(c:Int):Cs:=match h.dn k with
 |none=>s
 |some d=>s.send d (h.pl k).dl c
section
variable{G:DH}{h:Hs}{lv:Nat->Int}{yt:Int}{s:Cs}
theorem ZB5(g:GoodH h){k:Nat}(hk:k<h.n):Oz [.ref G.length,.int k,.int c] (csH G h.n h.enc LV yt s)=.ok .non (csH G h.n h.enc LV yt (h.Ex s k c)):=by
 unfold Oz ZJX;rw[Aj];cases q:h.dn k with
 |none=>simp[Iz,Kw g hk,q,dnD,Hs.Ex,Jc]
 |some d=>
  simp[Iz,Kw g hk,q,dnD,Io ZET,Cj,Hs.Dq hk,ZDR (g.dn k d hk q).2 (g.dl k hk),Hs.Ex,Jc]
theorem S8{n:Nat}{k:Nat}{b d e f:Int}:(Bw n q).set k (.tup [.int a,.int b,.int c,.int d,.int e,.int f])=Bw n λi=>if i=k then[a,b,c,d,e,f]else q i:=ZUv (l:=[a,b,c,d,e,f])
def Hs.basin(h:Hs)(yt:Int)(lv:Nat->Int)(s:Cs)(k:Nat):Cs:=match(h.pl k).kd with
 |.basin brim rule pump=>
  let w:=lv k+s.came k;let st:=held yt rule [];let stays:=w-rv w st-pm w st;let lies:=min stays brim;let s1:Cs:={s with page:=λi=>if i=k then[s.came k,0,stays-lies,rv w st,pm w st,lies]else s.page i};let s2:=h.Ex s1 k (rv w st+(stays-lies))
  match pump with
  |none=>s2
  |some (to,dl,_)=>s2.send to dl (pm w st)
 |_=>s
theorem ZOI(g:GoodH h){k:Nat}(hk:k<h.n)(A:(h.pl k).kd.isB=ux):U6 [.ref G.length,.int k] (csH G h.n h.enc (.tup (tab h.n lv)) yt s)=.ok .non (csH G h.n h.enc (.tup (tab h.n lv)) yt (h.basin yt lv s k)):=by
 obtain⟨x,y,w,z⟩:∃a b c,(h.pl k).kd=.basin a b c:=by
  cases e:(h.pl k).kd with
  |basin a b c=>exact⟨a,b,c,rfl⟩
  |town _ _=>rw[e]at A;cases A
  |mill _=>rw[e]at A;cases A
 have C:∀u,Bk (h.encP (h.pl k)) (.int 4) u=.ok (.int x) u:=λu=>by unfold Hs.encP;rw[z];simp
 have E:∀u,Bk (h.encP (h.pl k)) (.int 5) u=.ok (.tup (y.map Be)) u:=λu=>by unfold Hs.encP;rw[z];simp
 have F:∀u,Bk (h.encP (h.pl k)) (.int 6) u=.ok (h.Ke w) u:=λu=>by unfold Hs.encP;rw[z];simp
 simp only[Hs.basin,z];unfold U6 ZII;rw[Aj];cases hp:w with
 |none=>simp[Iz,Cj,Hs.Dq hk,Sw,Qo,Et hk,E,ZJc,c_at,ZHZ,ZHd,C,Am,Nb,Jh,Gm,hk,S8,Sd,Io ZAq,ZB5 g hk,F,hp,Hs.Ke,Jc]
 |some q=>
  obtain⟨I,K,J⟩:=q;have B:=g.pump k x y I K J hk (by rw[z,hp]);simp[Iz,Cj,Hs.Dq hk,Sw,Qo,Et hk,E,ZJc,c_at,ZHZ,ZHd,C,Am,Nb,Jh,Gm,hk,S8,Sd,Io ZAq,ZB5 g hk,F,hp,Hs.Ke,Io ZET,ZGv g B.1,ZDR B.1 B.2.2,Jc]
end
noncomputable def z3(ms:List Nat)(T L:Nat->Int):List D:=(zX ms.length).map λi=>D.tup [.int (ms.getD i 0:Nat),.int (T i),.int (L i)]
theorem ZM7{L:Nat->Int}(j:Nat)(G:DH):Ej [.fl (Ao ms),.fl (tab ms.length T),.fl (tab ms.length L)] j G=uz (z3 ms T L)[j]? :=by
 unfold Ej z3;by_cases q:j<ms.length
 .have u:(Ao ms)[j]?=zI (ms.getD j 0:Nat):=by unfold Ao;rw[zx,zJ q];simp[z6,zJ q]
  simp[Fv,u,K7 q,zE q]
 .have u:(Ao ms)[j]?=uj:=z7 (by simp;lia);have w:(zX ms.length)[j]?=uj:=z7 (by simp;lia);simp[Fv,u,w]
noncomputable def rrow(T L:Nat->Int)(i:Nat):List Int:=[T i+L i,T i,0,L i,0,0]
def pgM(ms:List Nat)(T L:Nat->Int)(pg:Nat->List Int)(i:Nat):Nat->List Int:=λk=>if k∈ms.take i then rrow T L (ms.idxOf k)else pg k
theorem ZUU{L:Nat->Int}:pgM ms T L q 0=q:=by funext k;simp[pgM]
theorem ZGY(w:ms.Nodup)(u:i<ms.length)(q:j<ms.length)(e:ms[i]=ms[j]):i=j:=by
 rcases Nat.lt_trichotomy i j with z|z|z
 .exact absurd e (jy.mp w i j u q z)
 .exact z
 .exact absurd e.symm (jy.mp w j i q u z)
theorem ZRr(w:ms.Nodup)(u:i<ms.length):ms.idxOf ms[i]=i:=by have q:=j8 (qw u);exact ZGY w q u (List.getElem_idxOf q)
theorem ZNo(x:ms.Nodup){L:Nat->Int}{u:Nat->List Int}(q:i<ms.length):pgM ms T L u (i+1)=λk=>if k=ms.getD i 0 then rrow T L i else pgM ms T L u i k:=by
 have w:ms.getD i 0=ms[i]:=by simp[z6,zJ q]
 funext k;rw[w];unfold pgM;rw[List.take_succ_eq_append_getElem q];by_cases e:k=ms[i]
 .subst e;rw[if_pos rfl,if_pos (jE.mpr (.inr (qH.mpr rfl))),ZRr x q]
 .rw[if_neg e];have:(k∈ms.take i++[ms[i]])↔k∈ms.take i:=by rw[jE,qH];exact⟨λh=>h.elim id λz=>absurd z e,.inl⟩
  simp only[this]
section
variable{G:DH}{h:Hs}{LV:D}{yt:Int}
theorem ZIy(g:GoodH h)(C:∀k∈ms,k<h.n)(F:ms.Nodup)(u:ms.getLast?=uz m){L:Nat->Int}{r t:D}:∀(q i:Nat)(x y z:Option D),i+q=ms.length->0<q->∃J N I,
  Av (Ah 3 (Aa (gV 4) (Aa (gV 5) (Aa (gV 6) Ak)))) Jo ((z3 ms T L).drop i) [zR G.length,zF (Ao ms),uz r,uz t,x,y,z] (csH G h.n h.enc LV yt {s with page:=pgM ms T L s.page i})=
   .nx [zR G.length,zF (Ao ms),uz r,uz t,J,N,I] (csH G h.n h.enc LV yt (h.Ex {s with page:=pgM ms T L s.page ms.length} m (L (ms.length-1))))
 |0,i,x,y,z,e,h0=>by lia
 | q + 1,i,x,y,z,e,h0=>by
  have E:i<ms.length:=by lia
  have M:ms.getD i 0=ms[i]:=by simp[z6,zJ E]
  have hk:ms.getD i 0<h.n:=by rw[M];exact C _ (qw E)
  have Q:(z3 ms T L).drop i=.tup [.int (ms.getD i 0:Nat),.int (T i),.int (L i)]::(z3 ms T L).drop (i+1):=by rw[zO (by simp[z3];exact E)];simp[z3]
  have B:atI (Ao ms) (-1)=zI (m:Nat):=by
   have hl:0<ms.length:=by lia
   rw[ZFT (by decide) (by simp;lia)]
   congr 1
   have U:((-1:Int)+((Ao ms).length:Int)).toNat=ms.length-1:=by simp;lia
   simp only[U];unfold Ao;rw[List.getElem_map];have W:ms[ms.length-1]'(by lia)=m:=by have:=jD (l:=ms);rw[u,zJ (by lia)]at this;exact(Option.some.inj this).symm
   rw[W]
  have w:(λk=>if k=ms.getD i 0 then[T i+L i,T i,0,L i,0,0]else pgM ms T L s.page i k)=pgM ms T L s.page (i+1):=(ZNo F E).symm;rw[Q,Br];cases q with
  | zero=>
   have O:i=ms.length-1:=by lia
   have Z:ms.getD i 0=m:=by have:=jD (l:=ms);rw[u,zJ (by lia)]at this;rw[M];subst O;exact(Option.some.inj this).symm
   have K:Jo [zR G.length,zF (Ao ms),uz r,uz t,zI (ms.getD i 0:Nat),zI (T i),zI (L i)] (csH G h.n h.enc LV yt {s with page:=pgM ms T L s.page i})=
     .nx [zR G.length,zF (Ao ms),uz r,uz t,zI (ms.getD i 0:Nat),zI (T i),zI (L i)] (csH G h.n h.enc LV yt (h.Ex {s with page:=pgM ms T L s.page ms.length} m (L (ms.length-1)))):=by
    have X:i+1=ms.length:=by lia
    rw[X]at w;unfold Jo;simp only[Z]at hk w⊢;simp[Am,Nb,Jh,Gm,hk,S8,w,Sd,B,Io ZAq,ZB5 g (C m (List.mem_of_getLast? u)),<-O]
   refine⟨zI (ms.getD i 0:Nat),zI (T i),zI (L i),?_⟩;rw[qQ (by simp[z3];lia)];simp only[Np,Lr,Nt,Ce,R.H8,R.Bq,qW,K,Ck,zM,qT,Nat.reduceAdd,if_true,Cv]
  | succ q=>
   have hne:ms.getD i 0≠m:=λz=>by have P:=jD (l:=ms);rw[u,zJ (by lia)]at P;rw[M,Option.some.inj P]at z;have:=ZGY F E (by lia) z;lia
   have A:¬((ms.getD i 0:Nat):Int)=(m:Int):=by lia
   have K:Jo [zR G.length,zF (Ao ms),uz r,uz t,zI (ms.getD i 0:Nat),zI (T i),zI (L i)] (csH G h.n h.enc LV yt {s with page:=pgM ms T L s.page i})=
     .nx [zR G.length,zF (Ao ms),uz r,uz t,zI (ms.getD i 0:Nat),zI (T i),zI (L i)] (csH G h.n h.enc LV yt {s with page:=pgM ms T L s.page (i+1)}):=by
    unfold Jo;generalize ms.getD i 0=a at hk w A;simp[Am,Nb,Jh,Gm,hk,S8,w,Sd,B,A]
   obtain⟨J,N,I,Y⟩:=ZIy g C F u (q+1) (i+1) (zI (ms.getD i 0:Nat)) (zI (T i)) (zI (L i)) (by lia) (by lia);refine⟨J,N,I,?_⟩;simp only[Np,Lr,Nt,Ce,R.H8,R.Bq,qW,K,Ck,zM,qT,Nat.reduceAdd,if_true];exact Y
def Hs.Hu(h:Hs)(s:Cs)(m:Nat):Nat->Int:=shr (h.rows (h.mem m) s.came)
def Hs.Gy(h:Hs)(s:Cs)(m:Nat):Nat->Int:=gath (h.rows (h.mem m) s.came) λi=>col Row.water (h.rows (h.mem m) s.came) i-h.Hu s m i
def Hs.reach(h:Hs)(s:Cs)(m:Nat):Cs:=
 let s1:=h.Ex {s with page:=pgM (h.mem m) (h.Hu s m) (h.Gy s m) s.page (h.mem m).length} m (h.Gy s m ((h.mem m).length-1))
 {s1 with rea:=s1.rea++[.tup [.fl (Ao (h.mem m)),.fl ((h.rows (h.mem m) s.came).map Row.enc)]]}
theorem Rc{n:Nat}(q:∀m,bels m ds=ux):freeze (csH G n H LV yt s) (.ok (.ref (csH G n H LV yt s).length) (csH G n H LV yt s++[.lst ds]))=.ok (.fl ds) (csH G n H LV yt s):=Cz (q _)
theorem S9:(h.rows ms ca).length=ms.length:=by simp[Hs.rows]
theorem ZUm(g:GoodH h)(I:m<h.n)(F:h.last m=m)(P:∀k,k<h.n->0<=s.came k)(Q:s.rea.length<=100):Tr [.ref G.length,.fl (Ao (h.mem m))] (csH G h.n h.enc LV yt s)=.ok .non (csH G h.n h.enc LV yt (h.reach s m)):=by
 have J:=ZHa g (m:=m) P;have q:(h.rows (h.mem m) s.came).length<=40:=by have:=ZIw (h:=h) (m:=m);have:=g.len;rw[S9];lia
 have y:=mem_iff.mpr ⟨I,F⟩;have T:=ZNz g (ms:=h.mem m) (λk hk=>⟨(mem_iff.mp hk).1,λd K=>by exact mem_iff.mpr ⟨(K1 g K).2.1,by rw[<-Ma g K];exact(mem_iff.mp hk).2⟩⟩) (by rw[<-S9];exact q) (G:=csH G h.n h.enc LV yt s) Qo
 have cs:=ZK1 J q (csH G h.n h.enc LV yt s);have A:=ZKK J q (t:=.fl (tab (h.rows (h.mem m) s.came).length (shr (h.rows (h.mem m) s.came)))) (G:=csH G h.n h.enc LV yt s) rfl;rw[S9]at cs A;obtain⟨W,Y,U,C⟩:=ZIy (G:=G) (LV:=LV) (yt:=yt) g (λk hk=>(mem_iff.mp hk).1) ((ZAQ (h:=h) (m:=m)).imp λB=>z8 B) (ZR8 g I F) (r:=.fl ((h.rows (h.mem m) s.came).map Row.enc)) (t:=.fl (tab (h.mem m).length (h.Hu s m))) (h.mem m).length 0 uj uj uj (by lia) (List.length_pos_of_mem y)
 rw[ZUU,xK]at C;have O:∀S u,Cr (Ej [.fl (Ao (h.mem m)),.fl (tab (h.mem m).length (h.Hu s m)),.fl (tab (h.mem m).length (h.Gy s m))]) (Ah 3 (Aa (gV 4) (Aa (gV 5) (Aa (gV 6) Ak)))) Jo (h.mem m).length 0 S u=Av (Ah 3 (Aa (gV 4) (Aa (gV 5) (Aa (gV 6) Ak)))) Jo (z3 (h.mem m) (h.Hu s m) (h.Gy s m)) S u:=λS u=>Qx ZM7 (by simp[z3])
 have L:shr (h.rows (h.mem m) s.came)=h.Hu s m:=rfl;have N:gath (h.rows (h.mem m) s.came) (λi=>col Row.water (h.rows (h.mem m) s.came) i-h.Hu s m i)=h.Gy s m:=rfl;rw[L]at cs A;rw[N]at A;have z:∀w:Cs,w.rea=s.rea->w.rea.length<1000000:=λw e=>by rw[e];lia
 have E:∀w:Cs,∀k c,(h.Ex w k c).rea=w.rea:=λw k c=>by
  unfold Hs.Ex;cases h.dn k with
  |none=>rfl
  |some d=>simp only[Cs.send];split <;> rfl
 have x:=z _ (E {s with page:=pgM (h.mem m) (h.Hu s m) (h.Gy s m) s.page (h.mem m).length} m (h.Gy s m ((h.mem m).length-1)));simp only[Hs.reach];generalize h.Ex {s with page:=pgM (h.mem m) (h.Hu s m) (h.Gy s m) s.page (h.mem m).length} m (h.Gy s m ((h.mem m).length-1))=X at C x;have M:∀u,tidy u (.ok (.tup [.fl (Ao (h.mem m)),.fl ((h.rows (h.mem m) s.came).map Row.enc)]) u)=.ok (.tup [.fl (Ao (h.mem m)),.fl ((h.rows (h.mem m) s.came).map Row.enc)]) u:=λu=>Ba (by simp)
 unfold Tr ZI5;rw[Aj];simp[Iz,Sw,T,Rc,cs,A,Eg,Hz,lenOf,O,C,Am,M,ZSz,csHe,x,csSe,Jc]
end
def Cs.NN(n:Nat)(s:Cs):Prop:=(∀k,k<n->0<=s.came k)/\∀k j,k<n->j<5->0<=s.coming k j
theorem Cs.NN.send{n:Nat}(h:s.NN n){u:Nat}(x:0<=c):(s.send u dl c).NN n:=by
 unfold Cs.send;split
 .refine⟨λk hk=>?_,h.2⟩;simp only[fset];split
  .rename_i e;subst e;have:=h.1 k hk;lia
  .exact h.1 k hk
 .refine⟨h.1,λk j hk q=>?_⟩;simp only[upd2];split
  .rename_i e;subst e;simp only[fset];split
   .rename_i w;subst w;have:=h.2 k _ hk q;lia
   .exact h.2 k j hk q
  .exact h.2 k j hk q
theorem Cs.NN.down{n:Nat}(h:s.NN n){q:Hs}{k:Nat}(u:0<=c):(q.Ex s k c).NN n:=by
 unfold Hs.Ex;cases q.dn k with
 |none=>exact h
 |some d=>exact h.send u
theorem ZJD{w:Int}{s:Stp}:0<=cub w s:=by unfold cub;lia
theorem ZJd{w:Int}:∀{st:List Stp},0<=rv w st
 |[]=>qk _
 |s::r=>by
  have u:=ZJd (w:=w) (st:=r);have q:=ZJD (w:=w) (s:=s);unfold rv
  split <;> lia
theorem ZGx{w:Int}:∀{st:List Stp},0<=pm w st
 |[]=>qk _
 |s::r=>by
  have u:=ZGx (w:=w) (st:=r);have q:=ZJD (w:=w) (s:=s);unfold pm
  split <;> lia
theorem Cs.NN.page{n:Nat}(h:s.NN n):({s with page:=q}:Cs).NN n:=h
theorem Xr{q:Nat}:(s.send q dl c).rea=s.rea/\(s.send q dl c).page=s.page:=by
 unfold Cs.send
 split <;> exact⟨rfl,rfl⟩
theorem Mz{k:Nat}:(h.Ex s k c).rea=s.rea/\(h.Ex s k c).page=s.page:=by
 unfold Hs.Ex;cases h.dn k with
 |none=>exact⟨rfl,rfl⟩
 |some d=>exact Xr
section
variable{h:Hs}{yt:Int}{lv:Nat->Int}{s:Cs}
theorem ZPP{k:Nat}(y:s.NN h.n):(h.basin yt lv s k).NN h.n:=by
 unfold Hs.basin;cases(h.pl k).kd with
 | basin z u x=>
  simp only;have A:=ZJd (w:=lv k+s.came k) (st:=held yt u []);cases x with
  |none=>exact y.page.down (by lia)
  |some q=>
   obtain⟨B,E,C⟩:=q;exact Cs.NN.send (y.page.down (by lia)) (ZGx (w:=lv k+s.came k) (st:=held yt u []))
 |town _ _=>exact y
 |mill _=>exact y
theorem ZP4{k:Nat}:(h.basin yt lv s k).rea=s.rea:=by
 unfold Hs.basin;cases(h.pl k).kd with
 |basin w x u=>
  simp only;cases u with
  |none=>rw[Mz.1]
  |some q=>obtain⟨y,A,z⟩:=q;simp only;rw[Xr.1,Mz.1]
 |town _ _=>rfl
 |mill _=>rfl
theorem ZG2{k:Nat}(w:(h.pl k).kd.isB=ux):((h.basin yt lv s k).page k).length=6/\∀i,i≠k->(h.basin yt lv s k).page i=s.page i:=by
 unfold Hs.basin;cases e:(h.pl k).kd with
 | basin y z u=>
  simp only;cases u with
  |none=>
   simp only;rw[Mz.2];exact⟨by simp,λi x=>by simp[x]⟩
  |some q=>
   obtain⟨A,C,B⟩:=q;simp only;rw[Xr.2,Mz.2];exact⟨by simp,λi x=>by simp[x]⟩
 |town _ _=>rw[e]at w;cases w
 |mill _=>rw[e]at w;cases w
theorem ZNB(g:GoodH h)(u:s.NN h.n)(w:i<(h.mem m).length):0<=h.Gy s m i:=by have q:=ZNA (ZHa g (m:=m) u.1);have:=q.p0 i (by rw[S9];exact w);rw[q.pg]at this;exact this
theorem ZNI(g:GoodH h)(w:m<h.n)(x:h.last m=m)(u:s.NN h.n):(h.reach s m).NN h.n:=by have q:=List.length_pos_of_mem (mem_iff.mpr ⟨w,x⟩);unfold Hs.reach;exact Cs.NN.down u.page (ZNB g u (by lia))
theorem ZOW:(h.reach s m).rea.length=s.rea.length+1:=by unfold Hs.reach;simp only[zL,j6];rw[Mz.1]
theorem ZQE{k:Nat}:(h.reach s m).page k=if k∈h.mem m then rrow (h.Hu s m) (h.Gy s m) ((h.mem m).idxOf k)else s.page k:=by unfold Hs.reach;simp only;rw[Mz.2];unfold pgM;rw[List.take_of_length_le (zY _)]
def Hs.step(h:Hs)(yt:Int)(lv:Nat->Int)(s:Cs)(k:Nat):Cs:=if(h.pl k).kd.isB=ux then h.basin yt lv s k else if h.last k=k then h.reach s k else s
def Hs.goF(h:Hs)(yt:Int)(lv:Nat->Int):Nat->Nat->Cs->Cs
 |0,_,s=>s
 |m+1,k,s=>h.goF yt lv m (k+1) (h.step yt lv s k)
theorem ZGH(g:GoodH h){k:Nat}(hk:k<h.n)(q:s.NN h.n):(h.step yt lv s k).NN h.n:=by
 unfold Hs.step;split
 .exact ZPP q
 .split
  .rename_i e;exact ZNI g hk e q
  .exact q
theorem ZNV{k:Nat}:(h.step yt lv s k).rea.length<=s.rea.length+1:=by
 unfold Hs.step;split
 .rw[ZP4];lia
 .split
  .rw[ZOW];lia
  .lia
end
section
variable{G:DH}{h:Hs}{yt:Int}{lv:Nat->Int}
theorem Tv{q A:Type}{f w:q->Option A}:∀{l:List q},(∀x∈l,f x=w x)->l.filterMap f=l.filterMap w
 |[],_=>rfl
 |x::l,u=>by rw[qz,qz,u x zW,Tv λy z=>u y (zV _ z)]
theorem ZMx{k:Nat}(y:Aw 2 [2] S=[uj,uj,zI k])(G:DH):Cp (De 0 (.fl (tab h.n λi=>(h.last i:Int)))) (Ah 2 (Aa (gV 0) (Aa (gV 1) Ak))) Py Vt (Aw 2 [2] S) h.n 0 G=.ok (Ao (h.mem k)) G:=by
 have w:Dg (tab h.n λi=>(h.last i:Int))=(zX h.n).map λ(i:Nat)=>D.tup [.int (i:Int),.int (h.last i:Int)]:=by refine qI (by simp[Dg]) λi A z=>by simp[Dg,tab]
 rw[V0 (F:=λd=>match d with | .tup [.int i,.int e]=>if e=(k:Int)then zI i else uj|_=>uj) (λj=>Rj j G) (λx u=>?_) (by rw[Ii];simp)]
 .congr 1
  rw[w,qX];unfold Hs.mem Ao;rw[<-List.filterMap_eq_filter,List.map_filterMap];refine Tv λi _=>?_
  by_cases e:h.last i=k
  .subst e;simp[Option.guard]
  .have q:¬((h.last i:Int)=(k:Int)):=by lia
   simp[Option.guard,e,q]
 .rw[w]at u;obtain⟨i,_,rfl⟩:=zA.mp u;refine⟨[zI i,zI (h.last i:Int),zI k],by rw[y];simp,?_⟩;by_cases e:h.last i=k
  .refine .inr ⟨by unfold Py;simp[e],.int i,by unfold Vt;simp,by simp[e]⟩
  .have q:¬((h.last i:Int)=(k:Int)):=by lia
   exact .inl ⟨by unfold Py;simp[q],by simp[q]⟩
theorem ZFC(g:GoodH h):∀(m k:Nat)(s:Cs)(x y:Option D),k+m=h.n->s.NN h.n->s.rea.length<=k->∃z w,
  Av (Ah 2 (Aa (gV 2) (Aa (gV 3) Ak))) Mq ((Dg (tab h.n λi=>(h.last i:Int))).drop k) [zR G.length,zF (tab h.n λi=>(h.last i:Int)),x,y] (csH G h.n h.enc (.tup (tab h.n lv)) yt s)=
   .nx [zR G.length,zF (tab h.n λi=>(h.last i:Int)),z,w] (csH G h.n h.enc (.tup (tab h.n lv)) yt (h.goF yt lv m k s))
 |0,k,s,x,y,e,_,_=>⟨x,y,by rw[qQ (by rw[Ii];simp;lia),Cv];rfl⟩
 | m + 1,k,s,x,y,e,E,I=>by
  have hk:k<h.n:=by lia
  have M:=g.len;have C:=ZNV (h:=h) (yt:=yt) (lv:=lv) (s:=s) (k:=k);obtain⟨z,w,L⟩:=ZFC g m (k+1) (h.step yt lv s k) (zI k) (zI (h.last k:Int)) (by lia) (ZGH g hk E) (by lia);refine⟨z,w,?_⟩;have F:(Dg (tab h.n λi=>(h.last i:Int))).drop k=.tup [.int k,.int (h.last k:Int)]::(Dg (tab h.n λi=>(h.last i:Int))).drop (k+1):=by rw[zO (by rw[Ii];simpa using hk)];simp[Dg,tab]
  have u:(h.mem k).length<=1000000:=by have:=ZIw (h:=h) (m:=k);lia
  have J:Mq [zR G.length,zF (tab h.n λi=>(h.last i:Int)),zI k,zI (h.last k:Int)] (csH G h.n h.enc (.tup (tab h.n lv)) yt s)=
    .nx [zR G.length,zF (tab h.n λi=>(h.last i:Int)),zI k,zI (h.last k:Int)] (csH G h.n h.enc (.tup (tab h.n lv)) yt (h.step yt lv s k)):=by
   unfold Mq Hs.step;by_cases q:(h.pl k).kd.isB=ux
   .simp[Iz,Cj,Hs.Dq hk,Gh,q,Io ZNa,ZOI g hk q]
   .by_cases A:h.last k=k
    .have K:Cp (De 0 (.fl (tab h.n λi=>(h.last i:Int)))) (Ah 2 (Aa (gV 0) (Aa (gV 1) Ak))) Py Vt (Aw 2 [2] [zR G.length,zF (tab h.n λi=>(h.last i:Int)),zI k,zI (k:Int)]) h.n 0 (csH G h.n h.enc (.tup (tab h.n lv)) yt s)=.ok (Ao (h.mem k)) (csH G h.n h.enc (.tup (tab h.n lv)) yt s):=ZMx rfl _;simp[Iz,Cj,Hs.Dq hk,Gh,q,A,Io ZQZ,Es,Hz,lenOf,K,Ae,u,Rc,ZUm g hk A E.1 (by lia)]
    .have B:¬((h.last k:Int)=(k:Int)):=by lia
     simp[Iz,Cj,Hs.Dq hk,Gh,q,A,B]
  rw[F,Br];simp only[Np,Lr,Nt,Ce,R.H8,R.Bq,qW,J,Ck,zM,qT,Nat.reduceAdd,if_true];exact L
theorem ZLX(g:GoodH h)(y:s.NN h.n)(q:s.rea=[]):Vb [.ref G.length] (csH G h.n h.enc (.tup (tab h.n lv)) yt s)=.ok .non (csH G h.n h.enc (.tup (tab h.n lv)) yt (h.goF yt lv h.n 0 s)):=by
 obtain⟨A,z,w⟩:=ZFC (G:=G) (yt:=yt) (lv:=lv) g h.n 0 s uj uj (by lia) y (by rw[q];simp);rw[xK]at w;unfold Vb ZGb;rw[Aj];have x:∀S u,Cr (De 0 (.fl (tab h.n λi=>(h.last i:Int)))) (Ah 2 (Aa (gV 2) (Aa (gV 3) Ak))) Mq h.n 0 S u=Av (Ah 2 (Aa (gV 2) (Aa (gV 3) Ak))) Mq (Dg (tab h.n λi=>(h.last i:Int))) S u:=λS u=>Qx Rj (by rw[Ii];simp)
 simp[Iz,ZSQ g,Rc,Es,Hz,lenOf,x,w,Jc]
end
def Ar(n:Nat)(co:Nat->Nat->Int):List D:=(zX n).map λk=>D.tup (tab 5 (co k))
def stD(n:Nat)(lv:Nat->Int)(co:Nat->Nat->Int):D:=.tup [.tup (tab n lv),.tup (Ar n co)]
@[simp]theorem ZWW{n:Nat}:bels m (Ar n co)=ux:=Dt λk _=>by simp[Gz]
@[simp]theorem ZLc{n:Nat}:bels m (Bw n q)=ux:=Dt λk _=>ZQi
@[simp]theorem ZWh{n:Nat}:(Ar n co).length=n:=by simp[Ar]
def Kz(co:Nat->Nat->Int):Nat->Nat->Int:=λk j=>if j<4 then co k (j+1)else 0
def cs0(co:Nat->Nat->Int)(fl:Nat->Int):Cs:=⟨λk=>fl k+co k 0,Kz co,λ_=>[],[]⟩
theorem tab5:tab 5 F=[.int (F 0),.int (F 1),.int (F 2),.int (F 3),.int (F 4)]:=rfl
theorem Jw{c f:Str}{fs:List (Str×D)}{d:D}(q:fs.length<1000):Nj c f (.ref G.length) d S (G++ .ins c fs::L)=.nx S (G++ .ins c (Ey f d fs)::L):=by
 rw[ZMJ (by rw[Bs];rfl) q,Dp]
 rfl
theorem ZSb{n:Nat}(G:DH):Cp (Ej [.tup (tab n fl),.tup (Ar n co)]) (Ah 2 (Aa (gV 0) (Aa (gV 1) Ak))) Bb T9 (Aw 2 [] S) n 0 G=.ok (tab n λk=>fl k+co k 0) G:=by
 have q:Ks (tab n fl) (Ar n co)=(zX n).map λ(i:Nat)=>D.tup [.int (fl i),.tup (tab 5 (co i))]:=by refine qI (by simp[Ks]) λi y w=>by simp[Ks,tab,Ar]
 rw[V0 (F:=λd=>match d with | .tup [.int c,.tup (.int a::_)]=>zI (c+a)|_=>uj) (λj=>Zt (Je) (Je) j) (λx u=>?_) (by rw[q];simp)]
 .congr 1
  rw[q,qX];show(zX n).filterMap (λi=>zI (fl i+co i 0))=_;rw[q9]
  rfl
 .rw[q]at u;obtain⟨i,_,rfl⟩:=zA.mp u;refine⟨[zI (fl i),zT (tab 5 (co i))],by simp[Aw],.inr ⟨rfl,.int (fl i+co i 0),?_,by simp[tab5]⟩⟩;unfold T9;simp[tab5]
theorem ZUK{k:Nat}(G:DH):Q9 [zT (tab 5 (co k))] G=.ok (.ref G.length) (G++[.lst (tab 5 (Kz co k))]):=by
 have q:cutD (tab 5 (co k)) (uz 1) uj=[.int (co k 1),.int (co k 2),.int (co k 3),.int (co k 4)]:=rfl;have y:Ji [.tup [.int (co k 1),.int (co k 2),.int (co k 3),.int (co k 4)]] G=.ok (.ref G.length) (G++[.lst [.int (co k 1),.int (co k 2),.int (co k 3),.int (co k 4)]]):=rfl;have w:Hw (.fl [.int (co k 1),.int (co k 2),.int (co k 3),.int (co k 4)]) (.fl [.int 0]) G=.ok (.ref G.length) (G++[.lst (tab 5 (Kz co k))]):=rfl
 have z:∀u:List D,bels G.length u=ux->freeze G (.ok (.ref G.length) (G++[.lst u]))=.ok (.fl u) G:=λu x=>Cz x
 unfold Q9;simp[Im,Nf,q,Gk,y,z,Ae,w,Dk]
theorem ZHw{n:Nat}{co:Nat->Nat->Int}:∀(m k:Nat)(G:DH),k+m=n->Cm (gV 0) Bb Q9 [uj] ((Ar n co).drop k) G=.ok ((zX m).map λj=>D.ref (G.length+j)) (G++(zX m).map λj=>DO.lst (tab 5 (Kz co (k+j))))
 |0,k,G,e=>by rw[qQ (by simp;lia)];simp[Cm]
 | m+1,k,G,e=>by
  have q:(Ar n co).drop k=.tup (tab 5 (co k))::(Ar n co).drop (k+1):=by rw[zO (by simp;lia)];simp[Ar]
  rw[q,Wn];simp only[Ce,R.H8,qW,ZE4,if_true,ZUK,ZHw (n:=n) (co:=co) m (k+1) (G++[.lst (tab 5 (Kz co k))]) (by lia)]
  congr 1
  .rw[qE,zk,jK]
   congr 1
   refine qC λj _=>?_
   simp only[Function.comp,zL,j6]
   congr 1
   lia
  .rw[qE,zk,jK,qP]
   congr 1
   show _::_=_::_
   congr 1
   refine qC λj _=>?_
   simp only[Function.comp]
   congr 3
   lia
theorem ZUN(g:GoodH h):
  Qg [.ref G.length,h.enc,stD h.n lv co,.int at_,.tup (tab h.n fl)] (G++[.ins "Course" []])=.ok .non (csH G h.n h.enc (.tup (tab h.n lv)) (at_%h.yr) (cs0 co fl)):=by
 have hn:=g.len;have U:=g.yr;have K:h.n<=1000000:=by lia
 have p1:∀a:D,Ey "house" a (cfl [])=cfl [a]:=λ_=>rfl
 have p2:∀a b:D,Ey "levels" b (cfl [a])=cfl [a,b]:=λ_ _=>rfl
 have p3:∀a b c:D,Ey "year_turn" c (cfl [a,b])=cfl [a,b,c]:=λ_ _ _=>rfl
 have p4:∀a b c d:D,Ey "came" d (cfl [a,b,c])=cfl [a,b,c,d]:=λ_ _ _ _=>rfl
 have p5:∀a b c d e:D,Ey "coming" e (cfl [a,b,c,d])=cfl [a,b,c,d,e]:=λ_ _ _ _ _=>rfl
 have p6:∀a b c d e f:D,Ey "page" f (cfl [a,b,c,d,e])=cfl [a,b,c,d,e,f]:=λ_ _ _ _ _ _=>rfl
 have p7:∀a b c d e f q:D,Ey "reaches" q (cfl [a,b,c,d,e,f])=cfl [a,b,c,d,e,f,q]:=λ_ _ _ _ _ _ _=>rfl
 have C:∀ds,(cfl ds).length<1000:=λds=>by unfold cfl;rw[List.length_zip];have:(["house","levels","year_turn","came","coming","page","reaches"]:List Str).length=7:=rfl;lia
 have hz:∀y,Eg 2 [.tup (tab h.n fl),.tup (Ar h.n co)] y=.ok (.fn h.n (Ej [.tup (tab h.n fl),.tup (Ar h.n co)])) y:=λy=>by rw[Vr Je Je];simp
 have F:=λy=>ZHw (n:=h.n) (co:=co) h.n 0 y (by lia)
 simp only[xK,Nat.zero_add]at F;have X:∀S:DSt,Aw 1 [] S=[uj]:=λ_=>rfl
 have T:zZ h.n D.non=Bw h.n λ_=>[]:=by unfold Bw;refine qI (by simp) λi J h2=>by simp[Ir]
 let S:DSt:=[zR G.length,uz h.enc,uz (stD h.n lv co),zI at_,zT (tab h.n fl),zT (tab h.n lv),zT (Ar h.n co)];have A:S=[zR G.length,uz h.enc,uz (stD h.n lv co),zI at_,zT (tab h.n fl),zT (tab h.n lv),zT (Ar h.n co)]:=rfl;let w:DH:=(zX h.n).map λk=>DO.lst (tab 5 (Kz co k))
 have E:w.length=h.n:=by simp[w]
 let W:List D->DH->DH:=λL t=>G++ .ins "Course" (cfl L)::t
 let B:D:=.tup (tab h.n lv);let Y:D:=.int (at_%h.yr);let u:DO:=.lst (tab h.n λk=>fl k+co k 0);have q1:Eb "Course" (dV 0) (dV 1) "house" S (W [] [])=.nx S (W [h.enc] []):=by rw[Ko,A];simp only[W,B,X6,jL,j2,R.Bq,Jw (C _),p1]
 have q2:Eb "Course" (dV 0) (dV 5) "levels" S (W [h.enc] [])=.nx S (W [h.enc,B] []):=by rw[Ko,A];simp only[W,B,X6,jL,j2,R.Bq,Jw (C _),p2]
 have q3:Eb "Course" (dV 0) (dOp Hy (dV 3) (dOp Bk (dV 1) (dC (.int 0)))) "year_turn" S (W [h.enc,B] [])=.nx S (W [h.enc,B,Y] []):=by rw[Ko,A];simp[W,B,Y,u,Rp,U,Jw (C _),p3]
 have q4:Eb "Course" (dV 0) (Bx (Bf (Eg 2) (Ai (dV 4) (Ai (dV 6) Bj))) 2 [] (Ah 2 (Aa (gV 0) (Aa (gV 1) Ak))) Bb T9) "came" S (W [h.enc,B,Y] [])=
   .nx S (W [h.enc,B,Y,.ref (G.length+1)] (u::[])):=by
  rw[Ko,A];simp[W,B,Y,u,hz,ZSb,Ae,K,Jw (C _),p4]
 have q5:Eb "Course" (dV 0) (Bx (Ds (dV 6)) 1 [] (gV 0) Bb Q9) "coming" S (W [h.enc,B,Y,.ref (G.length+1)] (u::[]))=
   .nx S (W [h.enc,B,Y,.ref (G.length+1),.ref (G.length+(2+h.n))] (u::(w++[.lst (Df G.length h.n)]))):=by
  have hi:Fo (.tup (Ar h.n co)) (W [h.enc,B,Y,.ref (G.length+1)] (u::[]))=.ok (.pure (Ar h.n co)) (W [h.enc,B,Y,.ref (G.length+1)] (u::[])):=rfl;have er:∀L:DH,L.length=2->(zX h.n).map (λj=>D.ref ((G++L).length+j))=Df G.length h.n:=λL e=>by
   unfold Df;refine qC λj _=>?_
   rw[zL,e,Nat.add_assoc]
  have M:=F (W [h.enc,B,Y,.ref (G.length+1)] (u::[]));rw[er _ rfl]at M;have O:∀y,Ae (Df G.length h.n) y=.ok (.ref y.length) (y++[.lst (Df G.length h.n)]):=λy=>by simp[Ae,Df,K]
  rw[Ko,A];simp only[W,B,Y,u,ZSV,ZSW,X6,jL,j2,R.H8,hi,X,M,O,R.Bq];have e2:(G++DO.ins "Course" (cfl [h.enc,.tup (tab h.n lv),.int (at_%h.yr),.ref (G.length+1)]):: .lst (tab h.n λk=>fl k+co k 0)::[]++(zX h.n).map λj=>DO.lst (tab 5 (Kz co j))).length=G.length+(2+h.n):=by simp;lia
  rw[e2];simp only[W,qP,List.cons_append,xJ];rw[Jw (C _),p5]
 have q6:Eb "Course" (dV 0) (Ci (dOp Ei (dFn Ae (Ai (dC .non) Bj)) (dFn Ax (Ai (dV 5) Bj)))) "page" S (W [h.enc,B,Y,.ref (G.length+1),.ref (G.length+(2+h.n))] (u::(w++[.lst (Df G.length h.n)])))=
   .nx S (W [h.enc,B,Y,.ref (G.length+1),.ref (G.length+(2+h.n)),.ref (G.length+(3+h.n))] (u::(w++[.lst (Df G.length h.n),.lst (Bw h.n λ_=>[])]))):=by
  rw[Ko,A];generalize I:W [h.enc,B,Y,.ref (G.length+1),.ref (G.length+(2+h.n))] (u::(w++[.lst (Df G.length h.n)]))=Q;have eQ:Q.length=G.length+(3+h.n):=by rw[<-I];simp[W,E];lia
  have N:Ei (.ref Q.length) (.int (h.n:Int)) (Q++[.lst [.non]])=.ok (.ref (Q.length+1)) (Q++[.lst [.non],.lst (Bw h.n λ_=>[])]):=by rw[ZHf (d:=.non) (by rw[Bs];rfl) (by lia),T];simp
  have P:tidy Q (.ok (.ref (Q.length+1)) (Q++[.lst [.non],.lst (Bw h.n λ_=>[])]))=.ok (.ref Q.length) (Q++[.lst (Bw h.n λ_=>[])]):=ZAl _ (k:=1) rfl ZLc;have x:Nj "Course" "page" (.ref G.length) (.ref Q.length) S (Q++[.lst (Bw h.n λ_=>[])])=.nx S (W [h.enc,B,Y,.ref (G.length+1),.ref (G.length+(2+h.n)),.ref (G.length+(3+h.n))] (u::(w++[.lst (Df G.length h.n),.lst (Bw h.n λ_=>[])]))):=by rw[eQ,<-I];simp only[W,qP,List.cons_append,xJ];rw[Jw (C _),p6]
  rw[A]at x;simp[Ae,N,P,x]
 have q7:Eb "Course" (dV 0) (Ci (dFn Ae Bj)) "reaches" S (W [h.enc,B,Y,.ref (G.length+1),.ref (G.length+(2+h.n)),.ref (G.length+(3+h.n))] (u::(w++[.lst (Df G.length h.n),.lst (Bw h.n λ_=>[])])))=
   .nx S (W [h.enc,B,Y,.ref (G.length+1),.ref (G.length+(2+h.n)),.ref (G.length+(3+h.n)),.ref (G.length+(4+h.n))] (u::(w++[.lst (Df G.length h.n),.lst (Bw h.n λ_=>[]),.lst []]))):=by
  rw[Ko,A];generalize I:W [h.enc,B,Y,.ref (G.length+1),.ref (G.length+(2+h.n)),.ref (G.length+(3+h.n))] (u::(w++[.lst (Df G.length h.n),.lst (Bw h.n λ_=>[])]))=Q;have eQ:Q.length=G.length+(4+h.n):=by rw[<-I];simp[W,E];lia
  have P:tidy Q (.ok (.ref Q.length) (Q++[.lst []]))=.ok (.ref Q.length) (Q++[.lst []]):=Dk rfl;have x:Nj "Course" "reaches" (.ref G.length) (.ref Q.length) S (Q++[.lst []])=.nx S (W [h.enc,B,Y,.ref (G.length+1),.ref (G.length+(2+h.n)),.ref (G.length+(3+h.n)),.ref (G.length+(4+h.n))] (u::(w++[.lst (Df G.length h.n),.lst (Bw h.n λ_=>[]),.lst []]))):=by rw[eQ,<-I];simp only[W,qP,List.cons_append,xJ];rw[Jw (C _),p7]
  rw[A]at x;simp[Ae,P,x]
 have Z:tidy (G++[.ins "Course" []]) (.ok .non (csH G h.n h.enc (.tup (tab h.n lv)) (at_%h.yr) (cs0 co fl)))=.ok .non (csH G h.n h.enc (.tup (tab h.n lv)) (at_%h.yr) (cs0 co fl)):=ZPw λz=>by
  have J:=congrArg (λl:DH=>l[G.length]?) z;simp only[zL,j6]at J;rw[j0 (by lia),Ih]at J;have h2:(G++[DO.ins "Course" []])[G.length]?=uz (.ins "Course" []):=by rw[Bs];rfl
  rw[h2]at J;simp[cflds,cfl]at J
 have q0:sAs (dV 2) (Ah 2 (Aa (gV 5) (Aa (gV 6) Ak))) [zR G.length,uz h.enc,uz (stD h.n lv co),zI at_,zT (tab h.n fl),uj,uj] (G++[.ins "Course" []])=.nx S (W [] []):=by
  simp[stD,A]
  rfl
 unfold Qg ZG1;rw[Aj];have h5: [D.ref G.length,h.enc,stD h.n lv co,.int at_,.tup (tab h.n fl)].length=5:=rfl;rw[if_pos h5];have hd:([D.ref G.length,h.enc,stD h.n lv co,.int at_,.tup (tab h.n fl)].map uz++zZ 2 uj)=[zR G.length,uz h.enc,uz (stD h.n lv co),zI at_,zT (tab h.n fl),uj,uj]:=rfl;rw[hd];simp only[Pu,q0,Vo,q1,q2,q3,q4,q5,q6,q7,ZL1];exact Z
section
variable{h:Hs}{yt:Int}{lv:Nat->Int}
theorem ZEn(g:GoodH h):∀(m k:Nat),h.n<=m+k->h.last k=k∨(h.pl (h.last k)).kd.isB=uv
 |0,k,e=>.inl (J8 g (N7 (by lia)))
 | m + 1,k,e=>by
  cases q:h.dir k with
  |none=>exact .inl (J8 g q)
  | some d=>
   have y:=K1 g q;rw[Ma g q];rcases ZEn g m d (by lia)with z|z
   .refine .inr ?_;rw[z];unfold Hs.dir at q;cases u:h.dn k with
    |none=>rw[u]at q;cases q
    | some A=>
     rw[u]at q;simp only at q;split at q
     .cases q
     .rename_i x;cases q;cases w:(h.pl d).kd.isB with
      |false=>rfl
      |true=>exact absurd (.inr (.inr w)) x
   .exact .inr z
theorem ZDb(g:GoodH h):∀(m k:Nat),h.n<=m+k->h.last (h.last k)=h.last k
 |0,k,e=>by have u:=J8 g (k:=k) (N7 (by lia));rw[u,u]
 | m+1,k,e=>by
  cases q:h.dir k with
  |none=>rw[J8 g q,J8 g q]
  |some d=>
   have w:=K1 g q;rw[Ma g q];exact ZDb g m d (by lia)
def Hs.done(h:Hs)(j k:Nat):Prop:=if(h.pl k).kd.isB=ux then k<j else h.last k<j
theorem ZTj(g:GoodH h){k:Nat}(hk:k<h.n)(B:∀i,i<h.n->h.done k i->(s.page i).length=6):∀i,i<h.n->h.done (k+1) i->((h.step yt lv s k).page i).length=6:=λi A w=>by
 unfold Hs.step;split
 .rename_i x;by_cases e:i=k
  .subst e;exact(ZG2 x).1
  .rw[(ZG2 x).2 i e];refine B i A ?_;unfold Hs.done at w⊢;by_cases q:(h.pl i).kd.isB=ux
   .rw[if_pos q]at w⊢;lia
   .rw[if_neg q]at w⊢;rcases xW (h.last i) k with z|z
    .exact z
    .have u:h.last i=k:=by lia
     rcases ZEn g h.n i (by lia)with y|y
     .rw[y]at u;exact absurd u e
     .rw[u,x]at y;cases y
 .rename_i x;split
  .rename_i C;rw[ZQE];split
   .rfl
   .rename_i E;refine B i A ?_;unfold Hs.done at w⊢;by_cases q:(h.pl i).kd.isB=ux
    .rw[if_pos q]at w⊢;rcases xW i k with z|z
     .exact z
     .have u:i=k:=by lia
      rw[u]at q;exact absurd q x
    .rw[if_neg q]at w⊢;rcases xW (h.last i) k with z|z
     .exact z
     .exact absurd (mem_iff.mpr ⟨A,by lia⟩) E
  .rename_i C;refine B i A ?_;unfold Hs.done at w⊢;by_cases q:(h.pl i).kd.isB=ux
   .rw[if_pos q]at w⊢;rcases xW i k with z|z
    .exact z
    .have u:i=k:=by lia
     rw[u]at q;exact absurd q x
   .rw[if_neg q]at w⊢;rcases xW (h.last i) k with z|z
    .exact z
    .have u:h.last i=k:=by lia
     have:=ZDb g h.n i (by lia);rw[u]at this;exact absurd this C
theorem ZAt(g:GoodH h):∀(m k:Nat)(s:Cs),k+m=h.n->(∀i,i<h.n->h.done k i->(s.page i).length=6)->∀i,i<h.n->((h.goF yt lv m k s).page i).length=6
 | 0,k,s,e,u,i,q=>u i q (by
   unfold Hs.done;split
   .lia
   .have:=(ZHB g i).2 q;lia)
 |m+1,k,s,e,u,i,q=>ZAt g m (k+1) _ (by lia) (ZTj g (by lia) u) i q
theorem ZIp(g:GoodH h):∀(m k:Nat)(s:Cs),k+m=h.n->s.NN h.n->(h.goF yt lv m k s).NN h.n
 |0,k,s,e,q=>q
 |m+1,k,s,e,q=>ZIp g m (k+1) _ (by lia) (ZGH g (by lia) q)
end
noncomputable def lies(pg:Nat->List Int):Nat->Int:=λk=>(pg k).getD 5 0
theorem row6{l:List Int}(h:l.length=6):∃a b c d e f,l=[a,b,c,d,e,f]:=by
 match l,h with
 |[a,b,c,d,e,f],_=>exact⟨a,b,c,d,e,f,rfl⟩
section
variable{G:DH}{h:Hs}{LV:D}{yt:Int}{s:Cs}
theorem ZMc(w:∀k,k<h.n->(s.page k).length=6):Ff (G.length+(3+h.n)) (gV 0) Bb Tw (Aw 1 [] S) h.n 0 (csH G h.n h.enc LV yt s)=.ok (tab h.n (lies s.page)) (csH G h.n h.enc LV yt s):=by
 have q:=ZEk (g:=gV 0) (c:=Bb) (te:=Tw) (S:=Aw 1 [] S) (G:=csH G h.n h.enc LV yt s) (F:=λd=>match d with | .tup [_,_,_,_,_,x]=>uz x|_=>uj) Jh (λx q=>by obtain⟨k,hk,rfl⟩:=zA.mp q;obtain⟨a,b,c,d,e,f,u⟩:=row6 (w k (qK.mp hk));rw[u];refine⟨[uz (Ir [a,b,c,d,e,f])],by simp[Aw],.inr ⟨rfl,.int f,?_,rfl⟩⟩;unfold Tw;simp[Ir])
 rw[ZNj]at q;rw[q]
 congr 1
 unfold Bw;rw[qX];unfold tab;rw[<-q9];refine Tv λk hk=>?_
 obtain⟨a,b,c,d,e,f,u⟩:=row6 (w k (qK.mp hk));simp[Function.comp,u,Ir,lies]
theorem ZVf:Ff (G.length+(2+h.n)) (gV 0) Bb Uk (Aw 1 [] S) h.n 0 (csH G h.n h.enc LV yt s)=.ok (Ar h.n s.coming) (csH G h.n h.enc LV yt s):=by
 have q:(Df G.length h.n).length=h.n:=by simp[Df]
 have u:=ZEk (g:=gV 0) (c:=Bb) (te:=Uk) (S:=Aw 1 [] S) (G:=csH G h.n h.enc LV yt s) (F:=λd=>match d with | .ref j=>zT (tab 5 (s.coming (j-(G.length+2))))|_=>uj) Uw (λx u=>by
  obtain⟨k,hk,rfl⟩:=zA.mp u;refine⟨[zR (G.length+(2+k))],by simp[Aw],.inr ⟨rfl,.tup (tab 5 (s.coming k)),?_,?_⟩⟩
  .unfold Uk;simp[ZA8 (qK.mp hk)]
  .have e:G.length+(2+k)-(G.length+2)=k:=by lia
   simp only[e])
 rw[q]at u;rw[u]
 congr 1
 unfold Df;rw[qX];unfold Ar;rw[<-q9];refine Tv λk hk=>?_
 have e:G.length+(2+k)-(G.length+2)=k:=by lia
 simp only[Function.comp,e]
theorem ZUh(g:GoodH h)(z:∀k,k<h.n->(s.page k).length=6):Ra [.ref G.length] (csH G h.n h.enc LV yt s)=.ok (stD h.n (lies s.page) s.coming) (csH G h.n h.enc LV yt s):=by
 have A:=g.len;have q:h.n<=1000000:=by lia
 have u:(Df G.length h.n).length=h.n:=by simp[Df]
 have y:bel (csH G h.n h.enc LV yt s).length (stD h.n (lies s.page) s.coming)=ux:=by simp[stD]
 unfold Ra ZFK;rw[Aj];unfold stD at y⊢;have w:Fo (.ref (G.length+(3+h.n))) (csH G h.n h.enc LV yt s)=.ok (.mt (G.length+(3+h.n))) (csH G h.n h.enc LV yt s):=by simp[Fo,Jh]
 have x:Fo (.ref (G.length+(2+h.n))) (csH G h.n h.enc LV yt s)=.ok (.mt (G.length+(2+h.n))) (csH G h.n h.enc LV yt s):=by simp[Fo,Uw]
 simp[w,x,Nb,Jh,ZMc z,Ae,q,Rc,Am,ZG5,Uw,u,ZVf,Ba]
def Hs.cs(h:Hs)(lv:Nat->Int)(co:Nat->Nat->Int)(at_:Int)(fl:Nat->Int):Cs:=h.goF (at_%h.yr) lv h.n 0 (cs0 co fl)
theorem ZIq{n:Nat}(q:∀k j,k<n->j<5->0<=co k j)(u:∀k,k<n->0<=fl k):(cs0 co fl).NN n:=by
 refine⟨λk hk=>?_,λk j hk w=>?_⟩
 .have:=q k 0 hk (by lia);have:=u k hk;show 0<=fl k+co k 0;lia
 .show 0<=if j<4 then co k (j+1)else 0
  split
  .exact q k (j+1) hk (by lia)
  .exact qk _
theorem ZQ7(g:GoodH h):∀k,k<h.n->((h.cs lv co at_ fl).page k).length=6:=ZAt g h.n 0 _ (by lia) λi u q=>by
 unfold Hs.done at q
 split at q<;>lia
theorem ZRV(g:GoodH h)(y:∀k j,k<h.n->j<5->0<=co k j)(z:∀k,k<h.n->0<=fl k)(G:DH):
  Uc [h.enc,stD h.n lv co,.int at_,.tup (tab h.n fl)] G=.ok (.tup [.tup (Bw h.n (h.cs lv co at_ fl).page),stD h.n (lies (h.cs lv co at_ fl).page) (h.cs lv co at_ fl).coming]) G:=by
 have q:=ZLX (G:=G) (lv:=lv) (yt:=at_%h.yr) g (ZIq y z) rfl;have u:ZCG Qg "Course" [h.enc,stD h.n lv co,.int at_,.tup (tab h.n fl)] G=.ok (.ref G.length) (csH G h.n h.enc (.tup (tab h.n lv)) (at_%h.yr) (cs0 co fl)):=by
  unfold ZCG;rw[ZUN g]
  rfl
 have x:h.goF (at_%h.yr) lv h.n 0 (cs0 co fl)=h.cs lv co at_ fl:=rfl;rw[x]at q;have w:∀s,csH G h.n h.enc (.tup (tab h.n lv)) (at_%h.yr) s=G++csT G.length h.n h.enc (.tup (tab h.n lv)) (at_%h.yr) s:=λ_=>rfl
 unfold Uc ZJO;rw[Aj];simp[u,Io ZSn,q,Nb,Jh,Io ZLL,ZUh (G:=G) (LV:=.tup (tab h.n lv)) (yt:=at_%h.yr) g (ZQ7 g (lv:=lv) (fl:=fl) (co:=co) (at_:=at_)),Am];rw[w];exact I8 (by simp[stD])
end
theorem ZQN(x:Cf ns f):∃u:Int,(u=1∨u=1000000000000000000000000000000)/\Cu ns u:=by
 have q:∀G,Az [nD ns,.int 0] G=.ok (.int (f 0)) G:=x 0 (by lia);have w:∀G:DH,freeze G (.ok (.ref G.length) (G++[.lst [.int 1,.int 1,.int 1000000000000000000000000000000]]))=.ok (.fl [.int 1,.int 1,.int 1000000000000000000000000000000]) G:=λG=>Cz rfl
 rcases(by lia:f 0/840%3=0∨f 0/840%3=1∨f 0/840%3=2)with h|h|h
 .refine⟨1,.inl rfl,λG=>?_⟩;unfold H7 Tu;rw[Aj];simp[q,h,Ae,w,Ba]
 .refine⟨1,.inl rfl,λG=>?_⟩;unfold H7 Tu;rw[Aj];simp[q,h,Ae,w,Ba]
 .refine⟨1000000000000000000000000000000,.inr rfl,λG=>?_⟩;unfold H7 Tu;rw[Aj];simp[q,h,Ae,w,Ba]
noncomputable def amt(c u:Int):Int:=u*(c%7)+c/7%u
theorem Qk(x:0<u):0<=amt c u:=by unfold amt;have w:0<=u*(c%7):=jA (by lia) (by lia);have q:0<=c/7%u:=jk _ (by lia);lia
theorem Ju(w:0<u)(G:DH):Hx [.int c,.int u] G=.ok (.int (amt c u)) G:=by
 have q:∀G,Bt (.int u) (.int (c%7)) G=.ok (.int (u*(c%7))) G:=λG=>Hg (by lia) (by lia)
 unfold Hx ZIb;rw[Aj];simp[q,w,Ba,amt]
def Kc(xs:Nat->Int)(u:Int)(p:Bool):Nat->Nat->Int->List Stp
 |0,_,_=>[]
 |n+1,j,low=>⟨low+u*(xs (1+j)%4),1+u*(xs (1+j)/4%4), !(p&&decide (xs (1+j)/16%2=1))⟩::Kc xs u p n (j+1) (low+u*(xs (1+j)%4)+(1+u*(xs (1+j)/4%4)))
theorem ZGh{xs:Nat->Int}(w:0<u){p:Bool}:∀(n j:Nat)(q:Int),Good q (Kc xs u p n j q)
 |0,_,_=>trivial
 |n+1,j,q=>by have y:0<=u*(xs (1+j)%4):=jA (by lia) (by lia);have x:0<=u*(xs (1+j)/4%4):=jA (by lia) (by lia);exact⟨by show q<=q+_;lia,by show 1<=1+_;lia,ZGh w n (j+1) _⟩
theorem ZI0{xs:Nat->Int}:∀(n j:Nat)(q:Int),∀s∈Kc xs u uv n j q,s.r=ux
 |0,_,_,s,h=>by cases h
 |n+1,j,q,s,h=>by
  rcases zj.mp h with rfl|h
  .simp
  .exact ZI0 n (j+1) _ s h
theorem ZGz{xs:Nat->Int}{p:Bool}:∀(n j:Nat)(q:Int)(acc:List Stp)(x y z:Option D),j+n<=3->acc.length+n<=10->∃K J I C,
  Av (gV 5) Px (Bg j n) [zF (tab 4 xs),zI u,zB p,zR G.length,zI q,x,y,z] (G++[.lst (acc.map Stp.enc)])=
   .nx [zF (tab 4 xs),zI u,zB p,zR G.length,C,K,J,I] (G++[.lst ((acc++Kc xs u p n j q).map Stp.enc)])
 |0,j,q,acc,x,y,z,h,L=>⟨x,y,z,zI q,by rw[Ib,Cv];simp[Kc]⟩
 | n+1,j,q,acc,x,y,z,h,L=>by
  have F:atI (tab 4 xs) (1+(j:Int))=zI (xs (1+j)):=Dj (by lia) (K7 (by lia));let s:Stp:=⟨q+u*(xs (1+j)%4),1+u*(xs (1+j)/4%4), !(p&&decide (xs (1+j)/16%2=1))⟩;obtain⟨K,J,I,C,O⟩:=ZGz n (j+1) (s.h+s.m) (acc++[s]) (zI j) (zI s.m) (zS (wy s.r)) (by lia) (by simp;lia);refine⟨K,J,I,C,?_⟩;have E:∀G,Bt (.int u) (.int (xs (1+j)%4)) G=.ok (.int (u*(xs (1+j)%4))) G:=λG=>Hg (by lia) (by lia)
  have B:∀G,Bt (.int u) (.int (xs (1+j)/4%4)) G=.ok (.int (u*(xs (1+j)/4%4))) G:=λG=>Hg (by lia) (by lia)
  have w:acc.length<1000000:=by lia
  have M:Px [zF (tab 4 xs),zI u,zB p,zR G.length,zI q,zI j,y,z] (G++[.lst (acc.map Stp.enc)])=
    .nx [zF (tab 4 xs),zI u,zB p,zR G.length,zI (s.h+s.m),zI j,zI s.m,zS (wy s.r)] (G++[.lst ((acc++[s]).map Stp.enc)]):=by
   unfold Px;cases p with
   |false=>simp[F,E,B,Bs,Dp,w,Am,s,Stp.enc,wy]
   |true=>
    by_cases A:xs (1+j)/16%2=1
    .simp[F,E,B,A,Bs,Dp,w,Am,s,Stp.enc,wy]
    .simp[F,E,B,A,Bs,Dp,w,Am,s,Stp.enc,wy]
  rw[Gj,Br];simp only[Ce,R.Bq,qW,M,Ck];have N:((j:Int)+1)=((j+1:Nat):Int):=by lia
  rw[N,O];simp[Kc,s]
def stps(xs:Nat->Int)(u:Int)(p:Bool):List Stp:=Kc xs u p (xs 0%4).toNat 0 0
theorem ZDa{xs:Nat->Int}{p:Bool}(G:DH):Td [.fl (tab 4 xs),.int u,.bl p] G=.ok (.tup ((stps xs u p).map Stp.enc)) G:=by
 obtain⟨C,B,A,w,z⟩:=ZGz (xs 0%4).toNat 0 0 [] uj uj uj (by lia) (by simp;lia);have q:Av (gV 5) Px (Bg 0 (xs 0%4).toNat) [zF (tab 4 xs),zI u,zB p,zR G.length,zI 0,uj,uj,uj] (G++[.lst []])=.nx [zF (tab 4 xs),zI u,zB p,zR G.length,w,C,B,A] (G++[.lst ((stps xs u p).map Stp.enc)]):=z;have y:atI (tab 4 xs) 0=zI (xs 0):=Dj (k:=0) rfl (K7 (by lia));have x:inR (xs 0%4):=Er (by lia) (by lia)
 unfold Td ZI6;rw[Aj];simp[Ae,Dk,y,x,q,Bs,I8]
def Dc(st:List Stp):Int:=match st with
 |[]=>0
 |s::r=>(if s.r then 0 else s.m)+Dc r
theorem ZHz{c:D}:∀(st:List Stp)(v:Int)(x y z:Option D),∃A u w,Av (Ah 3 (Aa (gV 2) (Aa (gV 3) (Aa (gV 4) Ak)))) Vp (st.map Stp.enc) [uz c,zI v,x,y,z] G=.nx [uz c,zI (v+Dc st),A,u,w] G
 |[],v,x,y,z=>⟨x,y,z,by simp[Dc,Cv]⟩
 | s::st,v,x,y,z=>by
  let q:Int:=v+if s.r then 0 else s.m
  obtain⟨A,u,w,C⟩:=ZHz st q (zI s.h) (zI s.m) (zS (wy s.r));refine⟨A,u,w,?_⟩;have B:Vp [uz c,zI v,zI s.h,zI s.m,zS (wy s.r)] G=.nx [uz c,zI q,zI s.h,zI s.m,zS (wy s.r)] G:=by
   unfold Vp
   cases e:s.r<;>simp[q,e]
  rw[zk,Br];simp[Stp.enc,B];rw[C];simp[Dc,q,Int.add_assoc]
theorem ZVL(G:DH):R5 [.tup (st.map Stp.enc)] G=.ok (.int (Dc st)) G:=by obtain⟨x,u,w,q⟩:=ZHz (c:=.tup (st.map Stp.enc)) (G:=G) st 0 uj uj uj;unfold R5 ZJy;rw[Aj];simp at q;simp[q,Ba]
theorem ZSr(u:Cf ns f):∃y:Int,(1<=y/\y<=4)/\Cy ns y:=by have q:∀G,Az [nD ns,.int 1] G=.ok (.int (f 1)) G:=u 1 (by lia);refine⟨1+f 1%4,by lia,λG=>?_⟩;unfold Q4 ZEt;rw[Aj];simp[q,Ba]
def Dv(lat:Nat->Int)(cel:Nat->Nat->Int)(u:Int)(p:Bool)(yr:Int):Nat->Nat->Int->List Ssn
 |0,_,_=>[]
 |m+1,j,bg=>if j=0∨(lat j%2=1/\bg+1<yr)then(if 0<j then bg+1+lat j/2%(yr-bg-1)else bg,stps (cel j) u p)::Dv lat cel u p yr m (j+1) (if 0<j then bg+1+lat j/2%(yr-bg-1)else bg)
  else Dv lat cel u p yr m (j+1) bg
theorem ZA3(q:0<u){p:Bool}:∀(m j:Nat)(w:Int),∀s∈Dv lat cel u p yr m j w,Good 0 s.2/\(p=uv->∀t∈s.2,t.r=ux)
 |0,_,_,s,h=>by cases h
 | m+1,j,w,s,h=>by
  unfold Dv at h;split at h
  .rcases zj.mp h with rfl|h
   .refine⟨ZGh q _ _ _,λhp=>?_⟩;subst hp;exact ZI0 _ _ _
   .exact ZA3 q m (j+1) _ s h
  .exact ZA3 q m (j+1) _ s h
theorem Tt{p:Bool}{yr:Int}:∀(m j:Nat)(q:Int),0<j->q<yr->(∀s∈Dv lat cel u p yr m j q,q<s.1/\s.1<yr)/\(Dv lat cel u p yr m j q).Pairwise (λa b:Ssn=>a.1<b.1)
 |0,_,_,_,_=>⟨λs h=>(nomatch h),List.Pairwise.nil⟩
 | m+1,j,q,I,B=>by
  unfold Dv;split
  .rename_i C;have y:q+1<yr:=by
    rcases C with z|z
    .lia
    .exact z.2
   have F:0<=lat j/2%(yr-q-1):=jk _ (by lia);have E:lat j/2%(yr-q-1)<yr-q-1:=jz _ (by lia);obtain⟨x,A⟩:=Tt (yr:=yr) m (j+1) (q+1+lat j/2%(yr-q-1)) (by lia) (by lia);refine⟨λs w=>?_,List.pairwise_cons.mpr ⟨λs w=>(x s w).1,A⟩⟩;rcases zj.mp w with rfl|w
   .exact⟨by lia,by show q+1+_<yr;lia⟩
   .have:=x s w;lia
  .exact Tt m (j+1) q (by lia) B
theorem Ls{te:DE}{n:Nat}{F:Nat->D}(h:∀k:Nat,k<n->te (S.set 0 (zI k)) G=.ok (F k) G):Cm (gV 0) Bb te S (Bg 0 n) G=.ok ((zX n).map F) G:=by
 have e:Bg 0 n=(zX n).map λ(i:Nat)=>D.int (i:Int):=by
  refine j7 λi=>?_
  simp[Bg]
 rw[Vg (F:=λd=>match d with | .int i=>uz (F i.toNat)|_=>uj) (λq u=>?_)]
 .congr 1
  rw[e,qX];show(zX n).filterMap (λ(i:Nat)=>uz (F ((i:Int).toNat)))=_;rw[q9];simp
 .rw[e]at u;obtain⟨i,w,rfl⟩:=zA.mp u;exact⟨S.set 0 (zI i),by simp,.inr ⟨rfl,F i,h i (qK.mp w),by simp⟩⟩
noncomputable def Mu:Nat->Int
 |0=>1
 |1=>48
 |2=>2304
 |_=>110592
noncomputable def Up:Nat->Int
 |0=>1
 |1=>64
 |2=>4096
 |_=>262144
theorem ZGW(w:Cf ns f){b:Nat}(x:b<=900)(y:j<4)(G:DH):
  Cm (gV 0) Bb ZBf [uj,zN ns,zI b,zI j] (Bg 0 4) G=.ok (tab 4 λk=>f (b+5+(3*j+k)%6)/(1+7*((j:Int)/2))) G:=
 Ls λk hk=>by
  have q:=w (b+5+(3*j+k)%6) (by lia) G;have u:((b+5+(3*j+k)%6:Nat):Int)=(b:Int)+5+(3*(j:Int)+k)%6:=by lia
  rw[u]at q;unfold ZBf
  rcases(by lia:j=0∨j=1∨j=2∨j=3)with rfl|rfl|rfl|rfl<;>simp at q⊢<;> simp[q]
theorem ZPn(x:Cf ns f){b:Nat}(y:b<=900)(z:j<4)(G:DH):
  Cm (gV 0) Bb X3 [uj,zN ns,zI b,zI j] (Bg 0 4) G=.ok (tab 4 λk=>f (b+5+k)/Up j) G:=
 Ls λk hk=>by
  have q:=x (b+5+k) (by lia) G;have u:((b+5+k:Nat):Int)=(b:Int)+5+k:=by lia
  rw[u]at q;have w:freeze G (.ok (.ref G.length) (G++[.lst [.int 1,.int 64,.int 4096,.int 262144]]))=.ok (.fl [.int 1,.int 64,.int 4096,.int 262144]) G:=Cz rfl;unfold X3
  rcases(by lia:j=0∨j=1∨j=2∨j=3)with rfl|rfl|rfl|rfl<;>simp[q,Ae,w,Up]
theorem ZSi(N:Cf ns f){b:Nat}(X:b<=900){p:Bool}(Y:j<4):∃(lat:Int)(xs:Nat->Int),∀(G:DH)(q:Int)(acc:List Ssn)(x y:Option D),acc.length<=10->q<yr->∃B A,
   Js [zN ns,zI b,zI u,zB p,zI yr,zR G.length,zI q,zI j,x,y] (G++[.lst (acc.map Be)])=
    .nx [zN ns,zI b,zI u,zB p,zI yr,zR G.length,zI B,zI j,zI lat,zF (tab 4 xs)] (G++[.lst (A.map Be)])/\
   ((j=0∨(lat%2=1/\q+1<yr))->B=(if 0<j then q+1+lat/2%(yr-q-1)else q)/\A=acc++[(B,stps xs u p)])/\
   (¬(j=0∨(lat%2=1/\q+1<yr))->B=q/\A=acc):=by
 obtain⟨Z,M⟩:=ZJh (ns:=ns);have U:=N (b+4) (by lia);have e4:((b+4:Nat):Int)=(b:Int)+4:=by lia
 rw[e4]at U;let lat:Int:=if Z then f (b+4)/Mu j else f (b+4)*48271*((j:Int)*j+1)%10007
 let xs:Nat->Int:=if Z then λk=>f (b+5+k)/Up j else λk=>f (b+5+(3*j+k)%6)/(1+7*((j:Int)/2))
 refine⟨lat,xs,λG q acc x y ha hbg=>?_⟩;have hr:inR 4:=Er (by lia) (by lia);have E:acc.length<1000000:=by lia
 have fz:∀O:List D,(∀m,bels m O=ux)->freeze (G++[.lst (acc.map Be)]) (.ok (.ref (G.length+1)) (G++[.lst (acc.map Be),.lst O]))=.ok (.fl O) (G++[.lst (acc.map Be)]):=λO h=>ZJn (h _)
 have J:∀a b c d e f' g h i j':Option D,Aw 1 [0,1,7] [a,b,c,d,e,f',g,h,i,j']=[uj,a,b,h]:=λ_ _ _ _ _ _ _ _ _ _=>rfl
 have mj:∀G,Bt (.int (j:Int)) (.int (j:Int)) G=.ok (.int ((j:Int)*j)) G:=λG=>Gd (by lia) (by lia)
 have L:∀G,Bt (.int (f (b+4)*48271)) (.int ((j:Int)*j+1)) G=.ok (.int (f (b+4)*48271*((j:Int)*j+1))) G:=λG=>Hg (by
   have:=jA (show(0:Int)<=j by lia) (show(0:Int)<=j by lia);lia) (by
   rcases(by lia:j=0∨j=1∨j=2∨j=3)with rfl|rfl|rfl|rfl<;>decide)
 have F:Js [zN ns,zI b,zI u,zB p,zI yr,zR G.length,zI q,zI j,x,y] (G++[.lst (acc.map Be)])=
   Vm [zN ns,zI b,zI u,zB p,zI yr,zR G.length,zI q,zI j,zI lat,zF (tab 4 xs)] (G++[.lst (acc.map Be)]):=by
  unfold Js ZGK ZDx;cases w:Z with
  |false=>
   have e1:lat=f (b+4)*48271*((j:Int)*j+1)%10007:=by simp[lat,w]
   have P:xs=λk=>f (b+5+(3*j+k)%6)/(1+7*((j:Int)/2)):=by simp[xs,w]
   rw[e1,P];rw[w]at M;simp[U,mj,L,hr,J,ZGW N X Y,Ae,fz,M]
  |true=>
   have e1:lat=f (b+4)/Mu j:=by simp[lat,w]
   have P:xs=λk=>f (b+5+k)/Up j:=by simp[xs,w]
   rw[e1,P];rw[w]at M;have dv:atI [D.int 1,D.int 48,D.int 2304,D.int 110592] (j:Int)=zI (Mu j):=by rcases(by lia:j=0∨j=1∨j=2∨j=3)with rfl|rfl|rfl|rfl<;>rfl
   have dd:∀T,Mt (.int (f (b+4))) (.int (Mu j)) T=.ok (.int (f (b+4)/Mu j)) T:=λT=>by rcases(by lia:j=0∨j=1∨j=2∨j=3)with rfl|rfl|rfl|rfl<;>simp[Mu]
   have Q:freeze (G++[.lst (acc.map Be)]) (.ok (.ref (G.length+1)) (G++[.lst (acc.map Be),.lst [D.int 1,D.int 48,D.int 2304,D.int 110592]]))=.ok (.fl [D.int 1,D.int 48,D.int 2304,D.int 110592]) (G++[.lst (acc.map Be)]):=ZJn rfl;simp[U,mj,L,hr,J,ZGW N X Y,Ae,fz,M,Q,dv,dd,ZPn N X Y]
 rw[F]
 clear_value lat xs
 by_cases I:j=0∨(lat%2=1/\q+1<yr)
 .refine⟨_,_,?_,λ_=>⟨rfl,rfl⟩,λz=>absurd I z⟩;unfold Vm;by_cases C:j=0
  .subst C;simp[ZDa,Am,Bs,Dp,E,Be]
  .have K:lat%2=1/\q+1<yr:=by
    rcases I with z|z
    .exact absurd z C
    .exact z
   have hj0:0<j:=by lia
   have hp3:1<yr-q:=by lia
   simp[C,K.1,K.2,hj0,hp3,ZDa,Am,Bs,Dp,E,Be]
 .refine⟨q,acc,?_,λz=>absurd z I,λ_=>⟨rfl,rfl⟩⟩;have C:¬j=0:=λz=>I (.inl z)
  unfold Vm;by_cases W:lat%2=1
  .have h2:¬q+1<yr:=λz=>I (.inr ⟨W,z⟩)
   simp[C,W,h2]
  .simp[C,W]
theorem Zo{b:Nat}{p:Bool} 
  (O:∀j:Nat,j<4->∀(G:DH)(q:Int)(acc:List Ssn)(x y:Option D),acc.length<=10->q<yr->∃w A,
   Js [zN ns,zI b,zI u,zB p,zI yr,zR G.length,zI q,zI j,x,y] (G++[.lst (acc.map Be)])=
    .nx [zN ns,zI b,zI u,zB p,zI yr,zR G.length,zI w,zI j,zI (lat j),zF (tab 4 (cel j))] (G++[.lst (A.map Be)])/\
   ((j=0∨(lat j%2=1/\q+1<yr))->w=(if 0<j then q+1+lat j/2%(yr-q-1)else q)/\A=acc++[(w,stps (cel j) u p)])/\
   (¬(j=0∨(lat j%2=1/\q+1<yr))->w=q/\A=acc)) {G:DH}:∀(m j:Nat)(q:Int)(acc:List Ssn)(x y z:Option D),j+m=4->acc.length<=j->q<yr->∃F K E I,
   Av (gV 7) Js (Bg j m) [zN ns,zI b,zI u,zB p,zI yr,zR G.length,zI q,x,y,z] (G++[.lst (acc.map Be)])=
    .nx [zN ns,zI b,zI u,zB p,zI yr,zR G.length,F,K,E,I] (G++[.lst ((acc++Dv lat cel u p yr m j q).map Be)])
 |0,j,q,acc,x,y,z,e,U,L=>⟨zI q,x,y,z,by rw[Ib,Cv];simp[Dv]⟩
 | m + 1,j,q,acc,x,y,z,e,U,L=>by
  obtain⟨w,A,P,X,T⟩:=O j (by lia) G q acc y z (by lia) L;have Q:((j:Int)+1)=((j+1:Nat):Int):=by lia
  by_cases J:j=0∨(lat j%2=1/\q+1<yr)
  .obtain⟨B,C⟩:=X J;have M:w<yr:=by
    rw[B];split
    .have Y:q+1<yr:=by
      rcases J with z|z
      .lia
      .exact z.2
     have Z:lat j/2%(yr-q-1)<yr-q-1:=jz _ (by lia);lia
    .exact L
   obtain⟨F,K,E,I,N⟩:=Zo O m (j+1) w A (zI j) (zI (lat j)) (zF (tab 4 (cel j))) (by lia) (by rw[C];simp;lia) M;refine⟨F,K,E,I,?_⟩;rw[Gj,Br];simp only[Ce,R.Bq,qW,P,Ck];have W:Dv lat cel u p yr (m+1) j q=(w,stps (cel j) u p)::Dv lat cel u p yr m (j+1) w:=by rw[B];exact if_pos J
   rw[Q,N,C,W];simp
  .obtain⟨B,C⟩:=T J;obtain⟨F,K,E,I,N⟩:=Zo O m (j+1) w A (zI j) (zI (lat j)) (zF (tab 4 (cel j))) (by lia) (by rw[C];lia) (by rw[B];exact L);refine⟨F,K,E,I,?_⟩;rw[Gj,Br];simp only[Ce,R.Bq,qW,P,Ck];rw[Q,N,C,B]
   conv=>rhs;unfold Dv
   rw[if_neg J]
structure RuleOk (yr:Int) (p:Bool) (r:List Ssn):Prop where
 good:∀s∈r,Good 0 s.2/\(p=uv->∀t∈s.2,t.r=ux)
 cons:∃st rest,r=(0,st)::rest
 asc:r.Pairwise (λa b:Ssn=>a.1<b.1)
 yr:∀s∈r,0<=s.1/\s.1<yr
 len:r.length<=4
theorem ZBd{lat:Nat->Int}{cel:Nat->Nat->Int}{u:Int}{p:Bool}{yr:Int}:∀(m j:Nat)(q:Int),(Dv lat cel u p yr m j q).length<=m
 |0,_,_=>zY _
 |m+1,j,q=>by
  unfold Dv;split
  .have:=ZBd (lat:=lat) (cel:=cel) (u:=u) (p:=p) (yr:=yr) m (j+1) (if 0<j then q+1+lat j/2%(yr-q-1)else q);simp only[zM];lia
  .have:=ZBd (lat:=lat) (cel:=cel) (u:=u) (p:=p) (yr:=yr) m (j+1) q;lia
theorem ZF4(T:Cf ns f)(Q:1<=yr/\yr<=24)(O:Cy ns yr){b:Nat}(Y:b<=900)(hu:0<u){p:Bool}:
  ∃r:List Ssn,RuleOk yr p r/\∀G,R8 [nD ns,.int b,.int u,.bl p] G=.ok (.tup (r.map Be)) G:=by
 have L:∀j:Nat,∃q:Int×(Nat->Int),j<4->∀(G:DH)(F:Int)(C:List Ssn)(x y:Option D),C.length<=10->F<yr->∃E B,
   Js [zN ns,zI b,zI u,zB p,zI yr,zR G.length,zI F,zI j,x,y] (G++[.lst (C.map Be)])=
    .nx [zN ns,zI b,zI u,zB p,zI yr,zR G.length,zI E,zI j,zI q.1,zF (tab 4 q.2)] (G++[.lst (B.map Be)])/\
   ((j=0∨(q.1%2=1/\F+1<yr))->E=(if 0<j then F+1+q.1/2%(yr-F-1)else F)/\B=C++[(E,stps q.2 u p)])/\
   (¬(j=0∨(q.1%2=1/\F+1<yr))->E=F/\B=C):=λj=>by
  by_cases K:j<4
  .obtain⟨w,P,h⟩:=ZSi T Y K;exact⟨(w,P),λ_=>h⟩
  .exact⟨(0,λ_=>0),λz=>absurd z K⟩
 let w:Nat->Int:=λj=>(L j).choose.1
 let A:Nat->Nat->Int:=λj=>(L j).choose.2
 refine⟨Dv w A u p yr 4 0 0,⟨ZA3 hu 4 0 0,?_,?_,?_,ZBd 4 0 0⟩,λG=>?_⟩
 .unfold Dv;rw[if_pos (.inl rfl)];exact⟨_,_,rfl⟩
 .unfold Dv;rw[if_pos (.inl rfl)];obtain⟨M,N⟩:=Tt (yr:=yr) 3 1 0 (by lia) (by lia);exact List.pairwise_cons.mpr ⟨λs J=>(M s J).1,N⟩
 .unfold Dv;rw[if_pos (.inl rfl)];obtain⟨M,N⟩:=Tt (yr:=yr) 3 1 0 (by lia) (by lia);intro s J;rcases zj.mp J with rfl|J
  .exact⟨qk _,by show(0:Int)<yr;lia⟩
  .have:=M s J;lia
 .obtain⟨X,y',W,Z,U⟩:=Zo (lat:=w) (cel:=A) (λ(j:Nat)(K:j<4)=>(L j).choose_spec K) 4 0 0 [] uj uj uj (by lia) (by simp) (by lia);have I:Av (gV 7) Js (Bg 0 4) [zN ns,zI b,zI u,zB p,zI yr,zR G.length,zI 0,uj,uj,uj] (G++[.lst []])=.nx [zN ns,zI b,zI u,zB p,zI yr,zR G.length,X,y',W,Z] (G++[.lst ((Dv w A u p yr 4 0 0).map Be)]):=U;have hr:inR 4:=Er (by lia) (by lia);generalize Dv w A u p yr 4 0 0=rl at I
  unfold R8 ZEH;rw[Aj];simp[O,Ae,Dk,hr,I,Bs,I8]
noncomputable def lowA:List Nat:=("abcdefghijklmnopqrstuvwxyz":Str).cps.toList
noncomputable def ZAk:List Nat:=("abcdefghijkl":Str).cps.toList
theorem ZR7:∀i,i<26->lowA[i]?=uz (97+i):=by decide +kernel
theorem ZO0:∀i,i<12->ZAk[i]?=uz (97+i):=by decide +kernel
noncomputable def Dh(l:List Nat):Str:=⟨l.toArray⟩
theorem ZGP{l q:List Nat}(h:Dh l=Dh q):l=q:=by simpa[Dh]using(congrArg (λs:Str=>s.cps.toList) h)
theorem ZN8{l q:List Nat}:Dh l++Dh q=Dh (l++q):=by show Str.append _ _=_;unfold Str.append Dh;simp
theorem ZJ9{s:Str}{l:List Nat}(h:s.cps.toList=l):s=Dh l:=by obtain⟨a⟩:=s;unfold Dh;simp only at h;rw[<-h]
theorem ZSg{o:Nat}{n:Int}:Le ⟨#[o]⟩ n=Dh (zZ n.toNat o):=by
 refine ZJ9 ?_;rw[ZLO];generalize n.toNat=m
 induction m with
 |zero=>rfl
 |succ m q=>rw[zH,qq,q,zH];rfl
noncomputable def ocF(c:Int):Nat:=97+(c/21%26).toNat
noncomputable def tcF(c:Int)(k:Nat):Nat:=97+((5*(k:Int)+c/546)%12).toNat
def El(c:Int)(n k:Nat):List Nat:=if c%3=1/\n<9 then zZ (k+1) (ocF c)else if c%3=2 then tcF c k::zZ (c/3%7).toNat (ocF c)else zZ (c/3%7).toNat (ocF c)++tcF c k::zZ (6-(c/3%7)).toNat (ocF c)
theorem ZLo{n k:Nat}(Q:n<=12)(hk:k<n)(G:DH):V1 [.int c,.int k,.int n] G=.ok (.str (Dh (El c n k))) G:=by
 have P:atI ZAk ((5*(k:Int)+c/546)%12)=uz (tcF c k):=Dj (by lia) (ZO0 _ (by lia));have A:∀m:Int,-1000<=m->m<=1000->∀G,Bt (.str ⟨#[ocF c]⟩) (.int m) G=.ok (.str (Dh (zZ m.toNat (ocF c)))) G:=λm u B G=>by rw[ZQ9 ⟨u,B,by show(#[ocF c]).size<=1000;simp⟩,ZSg]
 have J:∀G,Bk (.str ("abcdefghijklmnopqrstuvwxyz":Str)) (.int (c/21%26)) G=R.ok (.str ⟨#[ocF c]⟩) G:=λG=>by
  rw[Lh,if_pos (by decide +kernel)]
  show(match atI lowA (c/21%26)with |some c=>R.ok (sgn c) G|none=>.bad)=_
  rw[Dj (k:=(c/21%26).toNat) (by lia) (ZR7 _ (by lia))]
  rfl
 have K:∀G,Bk (.str ("abcdefghijkl":Str)) (.int ((5*(k:Int)+c/546)%12)) G=R.ok (.str (Dh [tcF c k])) G:=λG=>by
  rw[Lh,if_pos (by decide +kernel)]
  show(match atI ZAk ((5*(k:Int)+c/546)%12)with |some c=>R.ok (sgn c) G|none=>.bad)=_
  rw[P]
  rfl
 have q:∀(l w:List Nat)(G:DH),l.length+w.length<=1000000->Hw (.str (Dh l)) (.str (Dh w)) G=.ok (.str (Dh (l++w))) G:=λl w G h=>by
  have e:Hw (.str (Dh l)) (.str (Dh w)) G=if(Dh l).length+(Dh w).length<=1000000 then .ok (.str (Dh l++Dh w)) G else .bad:=rfl
  rw[e,if_pos (by show l.toArray.size+w.toArray.size<=1000000;simpa using h),ZN8]
 unfold V1 ZKA;rw[Aj];by_cases u:c%3=1
 .by_cases M:n<9
  .have x:El c n k=zZ (k+1) (ocF c):=if_pos ⟨u,M⟩;have I:=A ((k:Int)+1) (by lia) (by lia);have O:((k:Int)+1).toNat=k+1:=by lia
   rw[O]at I;rw[x];have y:(n:Int)<9:=by lia
   simp[-Lh,J,u,y,I,Ba]
  .have x:El c n k=zZ (c/3%7).toNat (ocF c)++tcF c k::zZ (6-(c/3%7)).toNat (ocF c):=by unfold El;rw[if_neg (λz=>M z.2),if_neg (by lia)]
   have L:=A (c/3%7) (by lia) (by lia);have N:=A (6-(c/3%7)) (by lia) (by lia);have C:=λG=>q (zZ (c/3%7).toNat (ocF c)) [tcF c k] G (by simp;lia)
   have E:=λG=>q (zZ (c/3%7).toNat (ocF c)++[tcF c k]) (zZ (6-(c/3%7)).toNat (ocF c)) G (by simp;lia)
   have F:zZ (c/3%7).toNat (ocF c)++[tcF c k]++zZ (6-(c/3%7)).toNat (ocF c)=El c n k:=by rw[x];simp
   rw[F]at E;have y:¬(n:Int)<9:=by lia
   simp[-Lh,J,K,u,y,L,N,C,E,Ba]
 .by_cases B:c%3=2
  .have x:El c n k=tcF c k::zZ (c/3%7).toNat (ocF c):=by unfold El;rw[if_neg (λz=>u z.1),if_pos B]
   have L:=A (c/3%7) (by lia) (by lia);have C:=λG=>q [tcF c k] (zZ (c/3%7).toNat (ocF c)) G (by simp;lia)
   have F: [tcF c k]++zZ (c/3%7).toNat (ocF c)=El c n k:=by rw[x];rfl
   rw[F]at C;simp[-Lh,J,K,B,L,C,Ba]
  .have x:El c n k=zZ (c/3%7).toNat (ocF c)++tcF c k::zZ (6-(c/3%7)).toNat (ocF c):=by unfold El;rw[if_neg (λz=>u z.1),if_neg B]
   have C:=λG=>q (zZ (c/3%7).toNat (ocF c)) [tcF c k] G (by simp;lia)
   have E:=λG=>q (zZ (c/3%7).toNat (ocF c)++[tcF c k]) (zZ (6-(c/3%7)).toNat (ocF c)) G (by simp;lia)
   have F:zZ (c/3%7).toNat (ocF c)++[tcF c k]++zZ (6-(c/3%7)).toNat (ocF c)=El c n k:=by rw[x];simp
   rw[F]at E;simp[-Lh,J,K,u,B,A (c/3%7) (by lia) (by lia),A (6-(c/3%7)) (by lia) (by lia),C,E,Ba]
theorem ZGS{k q:Nat}(hk:k<12)(u:q<12)(h:tcF c k=tcF c q):k=q:=by unfold tcF at h;omega +splitNatSub
theorem ZUe{n k q:Nat}(w:n<=12)(hk:k<n)(u:q<n)(h:El c n k=El c n q):k=q:=by
 unfold El at h;split at h
 .have:=congrArg List.length h;simp at this;exact this
 .split at h
  .exact ZGS (by lia) (by lia) (List.cons.inj h).1
  .have:=List.append_cancel_left h;exact ZGS (by lia) (by lia) (List.cons.inj this).1
theorem ZLD:("sea":Str)=Dh [115,101,97]:=by decide +kernel
theorem ZSI{n k:Nat}:Dh (El c n k)≠"sea":=λh=>by
 rw[ZLD]at h;have h:=ZGP h;unfold El at h;split at h
 .have q:∀x∈[115,101,97],x=ocF c:=λx u=>by rw[<-h]at u;exact List.eq_of_mem_replicate u
  have a:=q 115 (by simp);have b:=q 101 (by simp);lia
 .split at h
  .have:=(List.cons.inj h).1;unfold tcF at this;lia
  .have:=congrArg List.length h;simp at this;lia
theorem Lk{c:Type}{te:DE}{S:DSt}{E:c->D}{F:c->D}{G:DH}:∀{l:List c},(∀a∈l,te (S.set 0 (uz (E a))) G=.ok (F a) G)->Cm (gV 0) Bb te S (l.map E) G=.ok (l.map F) G
 |[],_=>rfl
 |a::l,h=>by rw[zk,Wn];simp[h a (by simp),Lk (te:=te) (S:=S) (E:=E) (F:=F) (G:=G) (l:=l) λb d=>h b (zV _ d)]
def Bc(nm:Nat->Str)(n:Nat):List D:=(zX n).map λk=>.str (nm k)
theorem Sv{n k:Nat}(h:k<n):atI (Bc nm n) (k:Int)=zS (nm k):=Dj rfl (by simp[Bc,h])
theorem Ur{n:Nat}:(Bc nm n).length=n:=by simp[Bc]
@[simp]theorem ZVG{n:Nat}:bels m (Bc nm n)=ux:=Dt λ_ _=>rfl
noncomputable def Fl(nm:Nat->Str):Option (Nat×Nat×Int)->D
 |none=>.non
 |some (to,dl,m)=>.tup [.str (nm to),.int dl,.int m]
@[simp]theorem ZWX{q:Option (Nat×Nat×Int)}:bel m (Fl nm q)=ux:=by
 cases q with
 |none=>rfl
 |some q=>obtain⟨a,b,c⟩:=q;simp[Fl]
theorem ZQq(B:Cf ns f)(o:1<=yr/\yr<=24)(O:Cy ns yr)(M:0<u)(cu:Cu ns u){b k n:Nat}(Q:b<=900)(hk:k<n)(hn:n<=12){d:Str}{dl:Int}:
  ∃(r:List Ssn)(q:Option (Nat×Nat×Int)),RuleOk yr q.isSome r/\(∀E dl m,q=uz (E,dl,m)->E<n/\1<=dl/\dl<=5)/\
   ∀G,Og [nD ns,.int b,.int k,.fl (Bc nm n),.tup [.str d,.int dl]] G=.ok (.tup [.str "basin",.str (nm k),.str d,.int dl,.int (amt (f (b+3)) u),.tup (r.map Be),Fl nm q]) G:=by
 have z:∀G,Az [nD ns,.int ((b:Int)+11)] G=.ok (.int (f (b+11))) G:=λG=>by have:=B (b+11) (by lia) G;rwa[show((b+11:Nat):Int)=(b:Int)+11 by lia]at this
 have h3:∀G,Az [nD ns,.int ((b:Int)+3)] G=.ok (.int (f (b+3))) G:=λG=>by have:=B (b+3) (by lia) G;rwa[show((b+3:Nat):Int)=(b:Int)+3 by lia]at this
 have T:atI (Bc nm n) (k:Int)=zS (nm k):=Sv hk;have fu:∀G,freeze G (.ok (.int u) G)=.ok (.int u) G:=λG=>Gk rfl
 generalize f (b+11)=c at z;have L:∀G,Zi [zN ns,zI b,zI k,zF (Bc nm n),zT [.str d,.int dl],uj,uj,uj,uj,uj,uj,uj,uj] G=
   Lb [zN ns,zI b,zI k,zF (Bc nm n),zT [.str d,.int dl],zI u,zI c,zB (decide (1<n/\c%2=1)),uj,uj,uj,uj,uj] G:=λG=>by
  have t:∀S:DSt,S[3]?=uz (zF (Bc nm n))->S[6]?=uz (zI c)->Ho (dOp Mx (dFn Ax (Ai (dV 3) Bj)) (dC (.int 1))) (dOp Fi (dOp Hy (dV 6) (dC (.int 2))) (dC (.int 1))) S G=.ok (.bl (decide (1<n/\c%2=1))) G:=λS C U=>by
   by_cases l:1<n
   .have a:(1:Int)<n:=by lia
    simp[dV,C,U,Ur,l,a]
   .have a:¬(1:Int)<n:=by lia
    simp[dV,C,U,Ur,l,a]
  unfold Zi ZHT ZFU;generalize Ho (dOp Mx (dFn Ax (Ai (dV 3) Bj)) (dC (.int 1))) (dOp Fi (dOp Hy (dV 6) (dC (.int 2))) (dC (.int 1)))=te at t;generalize Bc nm n=H at t;simp[cu,fu,z,t]
 have x:∀(r:List Ssn)(q:Option (Nat×Nat×Int))(Y Z j y:Option D)(G:DH),Lf [zN ns,zI b,zI k,zF (Bc nm n),zT [.str d,.int dl],zI u,Y,Z,zT (r.map Be),uz (Fl nm q),j,y,uj] G=.rt (.tup [.str "basin",.str (nm k),.str d,.int dl,.int (amt (f (b+3)) u),.tup (r.map Be),Fl nm q]) G:=λr q Y Z j y G=>by generalize r.map Be=RR;generalize Fl nm q=PQ;generalize Bc nm n=H at T;unfold Lf ZEL;simp[h3,Ju M,T,Am]
 have cl:∀G,Og [nD ns,.int b,.int k,.fl (Bc nm n),.tup [.str d,.int dl]] G=tidy G ((Lb [zN ns,zI b,zI k,zF (Bc nm n),zT [.str d,.int dl],zI u,zI c,zB (decide (1<n/\c%2=1)),uj,uj,uj,uj,uj] G).ret):=λG=>by
  rw[<-L];unfold Og;rw[Aj]
  rfl
 have td:∀(r:List Ssn)(q:Option (Nat×Nat×Int))(G:DH),tidy G ((SR.rt (.tup [.str "basin",.str (nm k),.str d,.int dl,.int (amt (f (b+3)) u),.tup (r.map Be),Fl nm q]) G).ret)=.ok (.tup [.str "basin",.str (nm k),.str d,.int dl,.int (amt (f (b+3)) u),.tup (r.map Be),Fl nm q]) G:=λr q G=>by simp[Ba]
 by_cases hp:1<n/\c%2=1
 .obtain⟨r,i,F⟩:=ZF4 B o O Q M;obtain⟨h,rest,er⟩:=i.cons;have K:0<=((k:Int)+1+c/2%((n:Int)-1))%n:=jk _ (by lia);have I:((k:Int)+1+c/2%((n:Int)-1))%n<n:=jz _ (by lia);generalize ht:((k:Int)+1+c/2%((n:Int)-1))%n=t at K I;have v:atI (Bc nm n) t=zS (nm t.toNat):=by have:=Sv (nm:=nm) (n:=n) (k:=t.toNat) (by lia);rwa[show((t.toNat:Nat):Int)=t by lia]at this
  have J:∀G,Ha [.fl (r.map λs=>.int (Dc s.2))] G=.ok (.int ((rest.map λs=>Dc s.2).foldl max (Dc h))) G:=λG=>ZJN (by rw[er];simp[Bd])
  have m2:∀G,Bt (.int u) (.int (c/130%2)) G=.ok (.int (u*(c/130%2))) G:=λG=>Hg (by lia) (by lia)
  have N:∀(G:DH),Cm (gV 0) Bb Xm [uj] (r.map Be) G=.ok (r.map λs=>.int (Dc s.2)) G:=λG=>Lk λs _=>by unfold Xm;simp[Be,ZVL]
  have X:∀G:DH,freeze G (.ok (.ref G.length) (G++[.lst (r.map λs=>.int (Dc s.2))]))=.ok (.fl (r.map λs=>.int (Dc s.2))) G:=λG=>Cz (Dt λ_ _=>rfl)
  have hd:((1+c/26%5).toNat:Int)=1+c/26%5:=by lia
  refine⟨r,uz (t.toNat,(1+c/26%5).toNat,(rest.map λs=>Dc s.2).foldl max (Dc h)+u*(c/130%2)),i,?_,λG=>?_⟩
  .intro E dl m e;cases e;lia
  .have C:(1:Int)<n:=by lia
   have w:0<n:=by lia
   have A:(r.map Be).length<=1000000:=by have:=i.len;simp;lia
   have W:(r.map λs=>D.int (Dc s.2)).length<=1000000:=by have:=i.len;simp;lia
   have g:Lb [zN ns,zI b,zI k,zF (Bc nm n),zT [.str d,.int dl],zI u,zI c,zB ux,uj,uj,uj,uj,uj] G=
     Lf [zN ns,zI b,zI k,zF (Bc nm n),zT [.str d,.int dl],zI u,zI c,zB ux,zT (r.map Be),uz (Fl nm (uz (t.toNat,(1+c/26%5).toNat,(rest.map λs=>Dc s.2).foldl max (Dc h)+u*(c/130%2)))),zI ((rest.map λs=>Dc s.2).foldl max (Dc h)+u*(c/130%2)),zS (nm t.toNat),uj] G:=by
    have P:(Bc nm n).length=n:=Ur;show _=Lf [zN ns,zI b,zI k,zF (Bc nm n),zT [.str d,.int dl],zI u,zI c,zB ux,zT (r.map Be),zT [.str (nm t.toNat),.int ((1+c/26%5).toNat:Nat),.int ((rest.map λs=>Dc s.2).foldl max (Dc h)+u*(c/130%2))],zI ((rest.map λs=>Dc s.2).foldl max (Dc h)+u*(c/130%2)),zS (nm t.toNat),uj] G;rw[hd];generalize(rest.map λs=>Dc s.2).foldl max (Dc h)=MX at J
    generalize Bc nm n=H at v P;generalize r.map Be=RR at F N A;generalize(r.map λs=>D.int (Dc s.2))=RP at J N X W;unfold Lb Yy ZBw;simp[A,F,N,Aw,X,W,J,m2,P,C,by omega,by omega,w,ht,v,Am]
   rw[cl,decide_eq_true hp,g,x,td]
 .obtain⟨r,i,F⟩:=ZF4 B o O Q M (p:=uv)
  refine⟨r,uj,i,(λE dl m e=>nomatch e),λG=>?_⟩
  have g:Lb [zN ns,zI b,zI k,zF (Bc nm n),zT [.str d,.int dl],zI u,zI c,zB uv,uj,uj,uj,uj,uj] G=
    Lf [zN ns,zI b,zI k,zF (Bc nm n),zT [.str d,.int dl],zI u,zI c,zB uv,zT (r.map Be),uz (Fl nm uj),uj,uj,uj] G:=by
   show _=Lf [zN ns,zI b,zI k,zF (Bc nm n),zT [.str d,.int dl],zI u,zI c,zB uv,zT (r.map Be),uz .non,uj,uj,uj] G;generalize Bc nm n=H;unfold Lb Yy ZBw;simp[F]
  rw[cl,decide_eq_false hp,g,x,td]
noncomputable def dnS(nm:Nat->Str):Option Nat->Str
 |none=>"sea"
 |some d=>nm d
def G8(nm:Nat->Str)(p:Pl):D:=match p.kd with
 |.basin b r q=>.tup [.str "basin",.str p.nm,.str (dnS nm p.dn),.int p.dl,.int b,.tup (r.map Be),Fl nm q]
 |.town a b=>.tup [.str "town",.str p.nm,.str (dnS nm p.dn),.int p.dl,.int a,.int b]
 |.mill a=>.tup [.str "mill",.str p.nm,.str (dnS nm p.dn),.int p.dl,.int a]
structure PlOk (yr:Int) (nm:Nat->Str) (n k:Nat) (p:Pl):Prop where
 nm:p.nm=nm k
 dn:∀d,p.dn=uz d->k<d/\d<n
 dl:p.dl<=5
 basin:∀b r q,p.kd=.basin b r q->0<=b/\RuleOk yr q.isSome r/\∀to dl m,q=uz (to,dl,m)->to<n/\1<=dl/\dl<=5
 town:∀a b,p.kd=.town a b->0<=a/\0<=b
 mill:∀a,p.kd=.mill a->0<=a
theorem ZUV(S:Cf ns f)(Q:1<=yr/\yr<=24)(cy:Cy ns yr)(I:0<u)(cu:Cu ns u){k n:Nat}(hk:k<n)(hn:n<=12):
  ∃p:Pl,PlOk yr nm n k p/\∀(G:DH)(acc:List D)(K m g i x10 x11 x12:Option D),acc.length<=20->∃y6 Z y8 y9 C B E,
   Jt [zN ns,zI c,zI n,zF (Bc nm n),zI k,zR G.length,K,m,g,i,x10,x11,x12] (G++[.lst acc])=
    .nx [zN ns,zI c,zI n,zF (Bc nm n),zI k,zR G.length,y6,Z,y8,y9,C,B,E] (G++[.lst (acc++[G8 nm p])]):=by
 have L:∀j:Nat,j<=11->∀G,Az [nD ns,.int (((6+12*k:Nat):Int)+j)] G=.ok (.int (f (6+12*k+j))) G:=λj hj G=>by have:=S (6+12*k+j) (by lia) G;rwa[show((6+12*k+j:Nat):Int)=((6+12*k:Nat):Int)+j by lia]at this
 have hb:6+12*k<=900:=by lia
 have e6:(6+12*(k:Int))=((6+12*k:Nat):Int):=by lia
 have P:∀G,Bt (.int 12) (.int (k:Int)) G=.ok (.int (12*(k:Int))) G:=λG=>Gd (by lia) (by lia)
 have h0:∀G,Az [nD ns,.int ((6+12*k:Nat):Int)] G=.ok (.int (f (6+12*k))) G:=S _ (by lia);have W:∀G,Az [nD ns,.int (((6+12*k:Nat):Int)+1)] G=.ok (.int (f (6+12*k+1))) G:=L 1 (by lia);have Y:∀G,Az [nD ns,.int (((6+12*k:Nat):Int)+2)] G=.ok (.int (f (6+12*k+2))) G:=L 2 (by lia);have U:∀G,Az [nD ns,.int (((6+12*k:Nat):Int)+3)] G=.ok (.int (f (6+12*k+3))) G:=L 3 (by lia)
 have T:∀G,Az [nD ns,.int (((6+12*k:Nat):Int)+4)] G=.ok (.int (f (6+12*k+4))) G:=L 4 (by lia);have ak:atI (Bc nm n) (k:Int)=zS (nm k):=Sv hk;have fu:∀G,freeze G (.ok (.int u) G)=.ok (.int u) G:=λG=>Gk rfl
 have cb:=λd l=>ZQq (nm:=nm) (d:=d) (dl:=l) S Q cy I cu hb hk hn
 generalize 6+12*k=b at L hb e6 h0 W Y U T cb;obtain⟨s,hs0,hs1,hs⟩:∃s:Int,0<=s/\s<(n:Int)-k/\∀(H:DH)(o m g i x10 x11 x12:Option D),Vn [zN ns,zI c,zI n,zF (Bc nm n),zI k,o,zI b,m,g,i,x10,x11,x12] H=
   Q0 [zN ns,zI c,zI n,zF (Bc nm n),zI k,o,zI b,zI s,g,i,x10,x11,x12] H:=by
  have X:0<(n:Int)-k:=by lia
  have M:(k:Int)<n:=by lia
  by_cases hw:c/280%3=1
  .refine⟨min 1 ((n:Int)-1-k),by lia,by lia,λH o m g i x10 x11 x12=>?_⟩;unfold Vn ZAY;simp[W,X,M,hk,hw]
  .refine⟨f (b+1)%((n:Int)-k),jk _ (by lia),jz _ X,λH o m g i x10 x11 x12=>?_⟩;unfold Vn ZAY;simp[W,X,M,hk,hw]
 obtain⟨dn,l,F,A,hr⟩:∃(dn:Option Nat)(l:Nat),(∀d,dn=uz d->k<d/\d<n)/\l<=5/\∀(H:DH)(o g i x10 x11 x12:Option D),Q0 [zN ns,zI c,zI n,zF (Bc nm n),zI k,o,zI b,zI s,g,i,x10,x11,x12] H=
   Ou [zN ns,zI c,zI n,zF (Bc nm n),zI k,o,zI b,zI s,zI (f (b+2)),zT [.str (dnS nm dn),.int l],x10,x11,x12] H:=by
  have N:((f (b+2)%2*(f (b+2)/2%6)).toNat:Int)=f (b+2)%2*(f (b+2)/2%6)/\(f (b+2)%2*(f (b+2)/2%6)).toNat<=5:=by rcases(by lia:f (b+2)%2=0∨f (b+2)%2=1)with z|z<;>rw[z]<;>lia
  have md:∀G,Bt (.int (f (b+2)%2)) (.int (f (b+2)/2%6)) G=.ok (.int (f (b+2)%2*(f (b+2)/2%6))) G:=λG=>Hg (by lia) (by lia)
  generalize f (b+2)%2*(f (b+2)/2%6)=w at N md;by_cases hp:0<s
  .have a2:atI (Bc nm n) ((k:Int)+s)=zS (nm (k+s.toNat)):=by have:=Sv (nm:=nm) (n:=n) (k:=k+s.toNat) (by lia);rwa[show((k+s.toNat:Nat):Int)=(k:Int)+s by lia]at this
   refine⟨uz (k+s.toNat),w.toNat,λd e=>by cases e;lia,N.2,λH o g i x10 x11 x12=>?_⟩;unfold Q0 Z5 ZCj;simp[Y,md,hp,a2,Am,dnS,N.1]
  .refine⟨uj,w.toNat,(λd e=>nomatch e),N.2,λH o g i x10 x11 x12=>?_⟩
   unfold Q0 Z5 ZCj;simp[Y,md,hp,Am,dnS,N.1]
 obtain⟨y,hrk,hk2⟩:∃y:Int,0<=y/\∀(H:DH)(o m g i x10 x11 x12:Option D),Ou [zN ns,zI c,zI n,zF (Bc nm n),zI k,o,zI b,m,g,i,x10,x11,x12] H=
   N5 [zN ns,zI c,zI n,zF (Bc nm n),zI k,o,zI b,m,g,i,zI (f b%5),zI (amt (f (b+3)) u),zI y] H:=by
  have fz:∀G:DH,freeze G (.ok (.ref G.length) (G++[.lst [.int 4,.int 10000000000000000000000000000000000000000]]))=.ok (.fl [.int 4,.int 10000000000000000000000000000000000000000]) G:=λG=>Cz rfl
  rcases(by lia:c/840%2=0∨c/840%2=1)with z|z
  .refine⟨f (b+4)%4,by lia,λH o m g i x10 x11 x12=>?_⟩;unfold Ou ZBb ZAw;simp[h0,U,T,cu,fu,Ju I,z,Ae,fz]
  .refine⟨f (b+4)%10000000000000000000000000000000000000000,by lia,λH o m g i x10 x11 x12=>?_⟩;unfold Ou ZBb ZAw;simp[h0,U,T,cu,fu,Ju I,z,Ae,fz]
 have t:∀acc:List D,acc.length<=20->acc.length<1000000:=λacc h=>by lia
 have go:∀p:Pl,(∀(G:DH)(acc:List D),acc.length<=20->
   N5 [zN ns,zI c,zI n,zF (Bc nm n),zI k,zR G.length,zI b,zI s,zI (f (b+2)),zT [.str (dnS nm dn),.int l],zI (f b%5),zI (amt (f (b+3)) u),zI y] (G++[.lst acc])=
    .nx [zN ns,zI c,zI n,zF (Bc nm n),zI k,zR G.length,zI b,zI s,zI (f (b+2)),zT [.str (dnS nm dn),.int l],zI (f b%5),zI (amt (f (b+3)) u),zI y] (G++[.lst (acc++[G8 nm p])]))->
   ∀(G:DH)(acc:List D)(K m g i x10 x11 x12:Option D),acc.length<=20->∃y6 Z y8 y9 C B E,
   Jt [zN ns,zI c,zI n,zF (Bc nm n),zI k,zR G.length,K,m,g,i,x10,x11,x12] (G++[.lst acc])=
    .nx [zN ns,zI c,zI n,zF (Bc nm n),zI k,zR G.length,y6,Z,y8,y9,C,B,E] (G++[.lst (acc++[G8 nm p])]):=λp h9 G acc K m g i x10 x11 x12 v=>by
  refine⟨zI b,zI s,zI (f (b+2)),zT [.str (dnS nm dn),.int l],zI (f b%5),zI (amt (f (b+3)) u),zI y,?_⟩
  .unfold Jt;have e:(sAs (dOp Hw (dC (.int 6)) (dOp Bt (dC (.int 12)) (dV 4))) (gV 6)) [zN ns,zI c,zI n,zF (Bc nm n),zI k,zR G.length,K,m,g,i,x10,x11,x12] (G++[.lst acc])=.nx [zN ns,zI c,zI n,zF (Bc nm n),zI k,zR G.length,zI b,m,g,i,x10,x11,x12] (G++[.lst acc]):=by simp[P,e6]
   rw[Pu,e,Vo,hs,hr,hk2];exact h9 G acc v
 by_cases x:f b%5<2
 .obtain⟨r,q,O,hq,cr⟩:=cb (dnS nm dn) l
  refine⟨⟨nm k,dn,l,.basin (amt (f (b+3)) u) r q⟩,⟨rfl,F,A,λb' r' q' e=>?_,(λ_ _ e=>nomatch e),(λ_ e=>nomatch e)⟩,go _ λG acc v=>?_⟩
  .cases e;exact⟨Qk I,O,hq⟩
  .have fr:∀G:DH,freeze G (.ok (.tup [.str "basin",.str (nm k),.str (dnS nm dn),.int l,.int (amt (f (b+3)) u),.tup (r.map Be),Fl nm q]) G)=.ok (.tup [.str "basin",.str (nm k),.str (dnS nm dn),.int l,.int (amt (f (b+3)) u),.tup (r.map Be),Fl nm q]) G:=λG=>Gk (by simp)
   unfold N5;simp[x,cr,fr,Bs,Dp,t acc v,G8]
 .by_cases J:f b%5<4
  .refine⟨⟨nm k,dn,l,.town (amt (f (b+3)) u) y⟩,⟨rfl,F,A,(λ_ _ _ e=>nomatch e),λa b' e=>?_,(λ_ e=>nomatch e)⟩,go _ λG acc v=>?_⟩
   .cases e;exact⟨Qk I,hrk⟩
   .unfold N5;simp[x,J,ak,Am,Bs,Dp,t acc v,G8]
  .refine⟨⟨nm k,dn,l,.mill (amt (f (b+3)) u)⟩,⟨rfl,F,A,(λ_ _ _ e=>nomatch e),(λ_ _ e=>nomatch e),λa e=>?_⟩,go _ λG acc v=>?_⟩
   .cases e;exact Qk I
   .unfold N5;simp[x,J,ak,Am,Bs,Dp,t acc v,G8]
theorem ZDt{n:Nat}{P:Nat->Pl} 
  (v:∀k,k<n->∀(acc:List D)(h f g j x10 x11 x12:Option D),acc.length<=20->∃o l q p b a d,
   Jt [zN ns,zI c,zI n,zF (Bc nm n),zI k,zR G.length,h,f,g,j,x10,x11,x12] (G++[.lst acc])=
    .nx [zN ns,zI c,zI n,zF (Bc nm n),zI k,zR G.length,o,l,q,p,b,a,d] (G++[.lst (acc++[G8 nm (P k)])])):
  ∀(m k:Nat) (acc:List D) (r h f g j x10 x11 x12:Option D),k+m=n->acc.length+m<=20->∃A o l q p b a d,
   Av (gV 4) Jt (Bg k m) [zN ns,zI c,zI n,zF (Bc nm n),r,zR G.length,h,f,g,j,x10,x11,x12] (G++[.lst acc])=
    .nx [zN ns,zI c,zI n,zF (Bc nm n),A,zR G.length,o,l,q,p,b,a,d] (G++[.lst (acc++(List.range' k m).map λi=>G8 nm (P i))])
 |0,k,acc,r,h,f,g,j,x10,x11,x12,e,y=>⟨r,h,f,g,j,x10,x11,x12,by rw[Ib,Cv];simp⟩
 |m+1,k,acc,r,h,f,g,j,x10,x11,x12,e,y=>by
  obtain⟨o,l,q,p,b,a,d,z⟩:=v k (by lia) acc h f g j x10 x11 x12 (by lia);obtain⟨B,F,x,w,E,t,s,u,C⟩:=ZDt v m (k+1) (acc++[G8 nm (P k)]) (zI k) o l q p b a d (by lia) (by simp;lia);refine⟨B,F,x,w,E,t,s,u,?_⟩;rw[Gj,Br];simp only[Ce,R.Bq,qW,z,Ck];have H:((k:Int)+1)=((k+1:Nat):Int):=by lia
  rw[H,C];simp[List.range'_succ]
structure Told (h:Hs) (yr:Int):Prop where
 good:GoodH h
 one:1<=h.n
 ey:h.yr=yr
 ok:∃nm:Nat->Str,∀k,k<h.n->PlOk yr nm h.n k (h.pl k)
theorem ZL3:∃n:Nat,1<=n/\n<=12/\(n:Int)=1+c%4:=⟨(1+c%4).toNat,by lia,by lia,by lia⟩
theorem ZSt(M:Cf ns f)(K:1<=yr/\yr<=24)(cy:Cy ns yr)(hu:0<u)(cu:Cu ns u):
  ∃h:Hs,Told h yr/\∀G,Vw [nD ns] G=.ok h.enc G:=by
 obtain⟨n,hn1,W,en⟩:=ZL3 (c:=f 0);let l:Nat->Str:=λk=>Dh (El (f 5) n k)
 have L:∀k:Nat,∃p:Pl,k<n->(PlOk yr l n k p/\∀(G:DH)(x:List D)(x6 x7 x8 x9 I X T:Option D),x.length<=20->∃S Q Z Y A y C,
   Jt [zN ns,zI (f 0),zI n,zF (Bc l n),zI k,zR G.length,x6,x7,x8,x9,I,X,T] (G++[.lst x])=
    .nx [zN ns,zI (f 0),zI n,zF (Bc l n),zI k,zR G.length,S,Q,Z,Y,A,y,C] (G++[.lst (x++[G8 l p])])):=λk=>by
  by_cases hk:k<n
  .obtain⟨p,hp⟩:=ZUV M K cy hu cu hk W;exact⟨p,λ_=>hp⟩
  .exact⟨ZC2,λz=>absurd z hk⟩
 let P:Nat->Pl:=λk=>(L k).choose
 have v:=λ(k:Nat)(hk:k<n)=>((L k).choose_spec hk).1
 let h:Hs:=⟨yr,(zX n).map P⟩;have t:h.n=n:=by simp[h,Hs.n]
 have g:∀k,k<n->h.pl k=P k:=λk hk=>by simp[h,Hs.pl,hk]
 have hg:GoodH h:=by
  refine⟨?_,by lia,?_,?_,?_,?_,?_,?_,?_⟩
  .show 0<yr;lia
  .intro i j w H e;rw[t]at w H;rw[g i w,g j H,(v i w).nm,(v j H).nm]at e;exact ZUe W w H (ZGP e)
  .intro i w;rw[t]at w;rw[g i w,(v i w).nm];exact ZSI
  .intro k d hk e;rw[t]at hk⊢;rw[g k hk]at e;exact(v k hk).dn d e
  .intro k hk;rw[t]at hk;rw[g k hk];exact(v k hk).dl
  .intro k b r B F m hk e;rw[t]at hk⊢;rw[g k hk]at e;exact((v k hk).basin _ _ _ e).2.2 B F m rfl
  .intro k b r q hk e;rw[t]at hk;rw[g k hk]at e;have:=(v k hk).basin _ _ _ e;exact⟨this.1,λs hs=>(this.2.1.good s hs).1⟩
  .intro k a b hk e;rw[t]at hk;rw[g k hk]at e;exact(v k hk).town _ _ e
 refine⟨h,⟨hg,by lia,rfl,l,λk hk=>by rw[t]at hk⊢;rw[g k hk];exact v k hk⟩,λG=>?_⟩;have U:∀o:Option Nat,(∀d,o=uz d->d<n)->h.dnT o=dnS l o:=λo ho=>by
  cases o with
  |none=>rfl
  |some d=>
   show(h.pl d).nm=l d;rw[g d (ho d rfl),(v d (ho d rfl)).nm]
 have E:h.Bv=(List.range' 0 n).map λi=>G8 l (P i):=by
  show((zX n).map P).map h.encP=_;rw[jK,List.range_eq_range'];refine qC λk hk=>?_
  have N:k<n:=by have:=List.mem_range'_1.mp hk;lia
  have ok:=v k N;show h.encP (P k)=G8 l (P k);unfold Hs.encP G8;rw[U (P k).dn λd e=>(ok.dn d e).2];cases e:(P k).kd with
  | basin b r q=>
   have hq:=(ok.basin b r q e).2.2;cases q with
   |none=>rfl
   |some q=>
    obtain⟨B,F,m⟩:=q;have ht:=(hq B F m rfl).1;have e2:(h.pl B).nm=l B:=by rw[g B ht,(v B ht).nm]
    simp[Hs.Ke,Fl,e2]
  |town a b=>rfl
  |mill a=>rfl
 obtain⟨y4,S,Q,Z,Y,A,y,C,hL⟩:=ZDt (P:=P) (λk hk=>(λ(k:Nat)(hk:k<n)=>((L k).choose_spec hk).2) k hk G) n 0 [] uj uj uj uj uj uj uj uj (by lia) (by simp;lia);rw[<-E]at hL;have J:Av (gV 4) Jt (Bg 0 n) [zN ns,zI (f 0),zI n,zF (Bc l n),uj,zR G.length,uj,uj,uj,uj,uj,uj,uj] (G++[.lst []])=
    .nx [zN ns,zI (f 0),zI n,zF (Bc l n),y4,zR G.length,S,Q,Z,Y,A,y,C] (G++[.lst h.Bv]):=hL
 have f0:∀G,Az [nD ns,.int 0] G=.ok (.int (f 0)) G:=M 0 (by lia);have f5:∀G,Az [nD ns,.int 5] G=.ok (.int (f 5)) G:=M 5 (by lia);have cp:∀G:DH,Cm (gV 0) Bb Wj [uj,zN ns,zI n] (Bg 0 n) G=.ok (Bc l n) G:=λG=>Ls λk hk=>by unfold Wj;simp[f5,ZLo W hk,l]
 have hr:inR (n:Int):=Er (by lia) (by lia);have O:n<=1000000:=by lia
 have eh:h.enc=.tup [.int yr,.tup h.Bv]:=rfl;unfold Vw ZDm;rw[Aj];simp[Ur,O,f0,<-en,hr,Aw,cp,Cz ZVG,Ae,Dk,J,cy,Bs,Am,I8,eh]
noncomputable def thr(c:Int):Nat->Int
 |0=>c
 |j+1=>thr (c/3) j
theorem ZNM{s4 s8:Option D}(G:DH):
  ∃y,Av (gV 11) Pz (Bg 0 5) [s0,s1,s2,zI u,s4,s5,s6,s7,s8,zI c,zR G.length,x] (G++[.lst []])=.nx [s0,s1,s2,zI u,s4,s5,s6,s7,s8,y,zR G.length,zI 4] (G++[.lst (tab 5 λj=>u*(thr c j%3))]):=by
 have b:∀(c:Int)(a:List D)(x:Option D),a.length<=10->Pz [s0,s1,s2,zI u,s4,s5,s6,s7,s8,zI c,zR G.length,x] (G++[.lst a])=.nx [s0,s1,s2,zI u,s4,s5,s6,s7,s8,zI (c/3),zR G.length,x] (G++[.lst (a++[.int (u*(c%3))])]):=λc a x f=>by
  have m:∀G,Bt (.int u) (.int (c%3)) G=.ok (.int (u*(c%3))) G:=λG=>Hg (by lia) (by lia)
  have d:a.length<1000000:=by lia
  unfold Pz ZFM;simp[m,Bs,Dp,d]
 have e:Bg 0 5=[.int 0,.int 1,.int 2,.int 3,.int 4]:=rfl;refine⟨zI (c/3/3/3/3/3),?_⟩;rw[e];simp only[Br,Cv,Ce,R.Bq,qW,Ck];rw[b _ _ _ (by simp)];simp only[Ck,Br,Cv,Ce,R.Bq,qW];rw[b _ _ _ (by simp)];simp only[Ck,Br,Cv,Ce,R.Bq,qW];rw[b _ _ _ (by simp)];simp only[Ck,Br,Cv,Ce,R.Bq,qW];rw[b _ _ _ (by simp)];simp only[Ck,Br,Cv,Ce,R.Bq,qW];rw[b _ _ _ (by simp)]
 simp only[Ck,Br,Cv,Ce,R.Bq,qW];simp[tab5,thr]
def lvS(h:Hs)(f:Nat->Int)(u:Int)(k:Nat):Int:=match(h.pl k).kd with
 |.basin b _ _=>amt (f (6+12*h.n+k)) u%(b+1)
 |_=>0
def coS(h:Hs)(f:Nat->Int)(u:Int)(k j:Nat):Int:=u*(thr (f (6+12*h.n+h.n+k)) j%3)
theorem ZQu(a:0<u)(k j:Nat):0<=coS h f u k j:=jA (by lia) (by lia)
theorem ZKw(g:GoodH h){k:Nat}(hk:k<h.n):0<=lvS h f u k/\(∀b r q,(h.pl k).kd=.basin b r q->lvS h f u k<=b)/\((h.pl k).kd.isB=uv->lvS h f u k=0):=by
 unfold lvS;cases e:(h.pl k).kd with
 |basin b r q=>
  have:=(g.brim k b r q hk e).1
  refine⟨jk _ (by lia),λj d i c=>?_,λz=>nomatch z⟩
  cases c;show amt (f (6+12*h.n+k)) u%(b+1)<=b;have:=jz (amt (f (6+12*h.n+k)) u) (show 0<b+1 by lia);lia
 |town a b=>exact⟨qk _,(λ_ _ _ z=>nomatch z),λ_=>rfl⟩
 |mill a=>exact⟨qk _,(λ_ _ _ z=>nomatch z),λ_=>rfl⟩
theorem ZGe(v:Cf ns f){u:Int}(S:0<u)(g:GoodH h){s1:Option D}{G:DH}:∀(m k:Nat)(L:DH)(t s i x10 x11:Option D),k+m=h.n->∃J A K F o l,
  Av (gV 7) Pr (Bg k m) [zN ns,s1,zT h.Bv,zI u,zI ((6+12*h.n:Nat):Int),zR G.length,zR (G.length+1),t,s,i,x10,x11] (G++ .lst (tab k (lvS h f u)):: .lst (Ar k (coS h f u))::L)=
   .nx [zN ns,s1,zT h.Bv,zI u,zI ((6+12*h.n:Nat):Int),zR G.length,zR (G.length+1),A,K,F,o,l] (G++ .lst (tab h.n (lvS h f u)):: .lst (Ar h.n (coS h f u))::J)
 |0,k,L,t,s,i,x10,x11,e=>by
  have I:k=h.n:=by lia
  subst I;exact⟨L,t,s,i,x10,x11,by rw[Ib,Cv]⟩
 | m+1,k,L,t,s,i,x10,x11,e=>by
  have hk:k<h.n:=by lia
  have hn:=g.len;let c:Int:=f (6+12*h.n+h.n+k);let d:DH:=G++ .lst (tab (k+1) (lvS h f u)):: .lst (Ar k (coS h f u))::L;obtain⟨y,C⟩:=ZNM (u:=u) (c:=c) (s0:=zN ns) (s1:=s1) (s2:=zT h.Bv) (s4:=zI ((6+12*h.n:Nat):Int)) (s5:=zR G.length) (s6:=zR (G.length+1)) (s7:=zI k) (s8:=zI (lvS h f u k)) (x:=x11) d;obtain⟨J,A,K,F,o,l,Q⟩:=ZGe v S g m (k+1) (L++[.lst (tab 5 (coS h f u k))]) (s1:=s1) (G:=G) (zI k) (zI (lvS h f u k)) y (zR d.length) (zI 4) (by lia)
  refine⟨J,A,K,F,o,l,?_⟩;have z:=Hs.Dq hk;have T:∀G,Az [nD ns,.int (((6+12*h.n:Nat):Int)+(k:Int))] G=.ok (.int (f (6+12*h.n+k))) G:=λG=>by have:=v (6+12*h.n+k) (by lia) G;rwa[show((6+12*h.n+k:Nat):Int)=((6+12*h.n:Nat):Int)+k by lia]at this
  have O:∀G,Az [nD ns,.int (((6+12*h.n:Nat):Int)+(h.n:Int)+(k:Int))] G=.ok (.int c) G:=λG=>by have:=v (6+12*h.n+h.n+k) (by lia) G;rwa[show((6+12*h.n+h.n+k:Nat):Int)=((6+12*h.n:Nat):Int)+h.n+k by lia]at this
  generalize hB:((6+12*h.n:Nat):Int)=B at T O C Q⊢;have t1:∀(H:DH)(i x10 x11:Option D),Pr [zN ns,s1,zT h.Bv,zI u,zI B,zR G.length,zR (G.length+1),zI k,s,i,x10,x11] H=Vh [zN ns,s1,zT h.Bv,zI u,zI B,zR G.length,zR (G.length+1),zI k,zI (lvS h f u k),i,x10,x11] H:=λH i x10 x11=>by
   unfold Pr ZHe lvS;cases e:(h.pl k).kd with
   |basin b r q=>
    have X:=(g.brim k b r q hk e).1;have e4:∀G,Bk (h.encP (h.pl k)) (.int 4) G=.ok (.int b) G:=λG=>by unfold Hs.encP;rw[e];simp
    have w:0<b+1:=by lia
    simp[z,Gh,e,Kd.isB,T,Ju S,e4,w,by omega]
   |town a b=>simp[z,Gh,e,Kd.isB]
   |mill a=>simp[z,Gh,e,Kd.isB]
  have p:k<1000000:=by lia
  have et:tab k (lvS h f u)++[.int (lvS h f u k)]=tab (k+1) (lvS h f u):=by simp[tab,jX]
  have Y:Ar k (coS h f u)++[.tup (tab 5 (coS h f u k))]=Ar (k+1) (coS h f u):=by simp[Ar,jX]
  have Z:Vh [zN ns,s1,zT h.Bv,zI u,zI B,zR G.length,zR (G.length+1),zI k,zI (lvS h f u k),i,x10,x11] (G++ .lst (tab k (lvS h f u)):: .lst (Ar k (coS h f u))::L)=Vu [zN ns,s1,zT h.Bv,zI u,zI B,zR G.length,zR (G.length+1),zI k,zI (lvS h f u k),zI c,zR d.length,x11] (d++[.lst []]):=by
   have U:tidy d (.ok (.ref d.length) (d++[.lst []]))=.ok (.ref d.length) (d++[.lst []]):=Dk rfl;unfold Vh ZEI ZJg;have E:(sEx (Cw Do (dV 5) (Ai (dV 8) Bj))) [zN ns,s1,zT h.Bv,zI u,zI B,zR G.length,zR (G.length+1),zI k,zI (lvS h f u k),i,x10,x11] (G++ .lst (tab k (lvS h f u)):: .lst (Ar k (coS h f u))::L)=.nx [zN ns,s1,zT h.Bv,zI u,zI B,zR G.length,zR (G.length+1),zI k,zI (lvS h f u k),i,x10,x11] d:=by simp[Bs,Dp,p,et,d]
   rw[Pu,E,Vo]
   clear_value d
   simp[Hs.Hr,O,Ae,U]
  have W:Vu [zN ns,s1,zT h.Bv,zI u,zI B,zR G.length,zR (G.length+1),zI k,zI (lvS h f u k),zI c,zR d.length,x11] (d++[.lst []])=.nx [zN ns,s1,zT h.Bv,zI u,zI B,zR G.length,zR (G.length+1),zI k,zI (lvS h f u k),y,zR d.length,zI 4] (G++ .lst (tab (k+1) (lvS h f u)):: .lst (Ar (k+1) (coS h f u))::(L++[.lst (tab 5 (coS h f u k))])):=by
   have hr:inR 5:=Er (by lia) (by lia);have eC:(tab 5 λj=>u*(thr c j%3))=tab 5 (coS h f u k):=rfl;rw[eC]at C;unfold Vu;have E:(Bu (Bf rng1 (Ai (dC (.int 5)) Bj)) (gV 11) Pz) [zN ns,s1,zT h.Bv,zI u,zI B,zR G.length,zR (G.length+1),zI k,zI (lvS h f u k),zI c,zR d.length,x11] (d++[.lst []])=.nx [zN ns,s1,zT h.Bv,zI u,zI B,zR G.length,zR (G.length+1),zI k,zI (lvS h f u k),y,zR d.length,zI 4] (d++[.lst (tab 5 (coS h f u k))]):=by simp[hr,C]
   rw[Pu,E,Vo];have M:(d++[DO.lst (tab 5 (coS h f u k))])[d.length]?=uz (.lst (tab 5 (coS h f u k))):=by simp
   have P:(d++[DO.lst (tab 5 (coS h f u k))])[G.length+1]?=uz (.lst (Ar k (coS h f u))):=by simp[d]
   have N:(d++[DO.lst (tab 5 (coS h f u k))]).set (G.length+1) (.lst (Ar (k+1) (coS h f u)))=(G++ .lst (tab (k+1) (lvS h f u)):: .lst (Ar (k+1) (coS h f u))::(L++[.lst (tab 5 (coS h f u k))])):=by simp[d]
   generalize d++[DO.lst (tab 5 (coS h f u k))]=G2 at M P N;unfold ZFn;simp[M,P,p,Y,N]
  rw[Gj,Br];simp only[Ce,R.Bq,qW,t1,Z,W,Ck];have I:((k:Int)+1)=((k+1:Nat):Int):=by lia
  rw[I,Q]
theorem ZOt(o:Cf ns f)(v:0<u)(cu:Cu ns u)(g:GoodH h)(G:DH):
  Ry [nD ns,h.enc] G=.ok (stD h.n (lvS h f u) (coS h f u)) G:=by
 obtain⟨b,s,x,w,e,d,p⟩:=ZGe o v g h.n 0 [] uj uj uj uj uj (by lia);have a:Av (gV 7) Pr (Bg 0 h.n) [zN ns,uz h.enc,zT h.Bv,zI u,zI ((6+12*h.n:Nat):Int),zR G.length,zR (G.length+1),uj,uj,uj,uj,uj] (G++[.lst [],.lst []])=
   .nx [zN ns,uz h.enc,zT h.Bv,zI u,zI ((6+12*h.n:Nat):Int),zR G.length,zR (G.length+1),s,x,w,e,d] (G++ .lst (tab h.n (lvS h f u)):: .lst (Ar h.n (coS h f u))::b):=p
 have z:=g.len;have c:∀G,Bt (.int 12) (.int (h.n:Int)) G=.ok (.int (12*(h.n:Int))) G:=λG=>Gd (by lia) (by lia)
 have m:(6+12*(h.n:Int))=((6+12*h.n:Nat):Int):=by lia
 generalize A:((6+12*h.n:Nat):Int)=B at a m;have r:freeze G (.ok (.int u) G)=.ok (.int u) G:=Gk rfl;have q:inR (h.n:Int):=Er (by lia) (by lia);have t:tidy (G++[.lst []]) (.ok (.ref (G.length+1)) (G++[.lst [],.lst []]))=.ok (.ref (G.length+1)) (G++[.lst [],.lst []]):=by have:=Dk (G:=G++[.lst []]) (a:=[]) (L:=[]) rfl;simpa using this
 have j:(G++ .lst (tab h.n (lvS h f u)):: .lst (Ar h.n (coS h f u))::b)[G.length]?=uz (.lst (tab h.n (lvS h f u))):=by simp
 have l:(G++ .lst (tab h.n (lvS h f u)):: .lst (Ar h.n (coS h f u))::b)[G.length+1]?=uz (.lst (Ar h.n (coS h f u))):=by simp
 have i:tidy G (.ok (stD h.n (lvS h f u) (coS h f u)) (G++ .lst (tab h.n (lvS h f u)):: .lst (Ar h.n (coS h f u))::b))=.ok (stD h.n (lvS h f u) (coS h f u)) G:=I8 (by simp[stD,Gz]);generalize G++DO.lst (tab h.n (lvS h f u))::DO.lst (Ar h.n (coS h f u))::b=y at a j l i;unfold stD at i⊢;unfold Ry ZEj;rw[Aj];simp[Cj,cu,r,Hs.Hr,c,m,Ae,Dk,t,q,a,j,l,Am,i]
def flS(n:Nat)(f:Nat->Int)(u:Int)(i k:Nat):Int:=amt (f (6+14*n+i*n+k)) u
theorem ZGp{n:Nat}(a:0<u)(i k:Nat):0<=flS n f u i k:=Qk a
def Af(n:Nat)(fls:List (Nat->Int)):List D:=fls.map λfl=>.tup (tab n fl)
@[simp]theorem Nh{n:Nat}:bels m (Af n fls)=ux:=Dt λ_ _=>by simp
theorem ZJP{o:DO}(h:∀m,bels m ds=ux):freeze (G++[o]) (.ok (.ref (G.length+1)) (G++[o,.lst ds]))=.ok (.fl ds) (G++[o]):=by have:=Cz (G:=G++[o]) (L:=[]) (h _);simpa using this
theorem ZPt(F:Cf ns f)(v:0<u)(cu:Cu ns u){n:Nat}(H:6+14*n+i*n+n<=1000)(A:i<=1000)(z:n<=1000){acc:List D}(I:acc.length<=1000)(G:DH):
  Ql [zN ns,s1,s2,zI n,zI ((6+14*n:Nat):Int),zR G.length,zI i,x] (G++[.lst acc])=
   .nx [zN ns,s1,s2,zI n,zI ((6+14*n:Nat):Int),zR G.length,zI i,zF (tab n λk=>f (6+14*n+i*n+k))] (G++[.lst (acc++[.tup (tab n (flS n f u i))])]):=by
 have j:acc.length<1000000:=by lia
 have E:∀G,Bt (.int (i:Int)) (.int (n:Int)) G=.ok (.int ((i:Int)*n)) G:=λG=>Gd (by lia) (by lia)
 have w:∀G,freeze G (.ok (.int u) G)=.ok (.int u) G:=λG=>Gk rfl
 have s:∀G,Cm (gV 0) Bb Xo [uj,zN ns,zI n,zI ((6+14*n:Nat):Int),zI i] (Bg 0 n) G=.ok (tab n λk=>f (6+14*n+i*n+k)) G:=λG=>
  Ls λk hk=>by
   have q:=F (6+14*n+i*n+k) (by lia) G;have C:((6+14*n+i*n+k:Nat):Int)=((6+14*n:Nat):Int)+(i:Int)*n+k:=by rw[jH,jH,Int.natCast_mul]
   rw[C]at q;generalize((6+14*n:Nat):Int)=B at q;unfold Xo;simp[E,q]
 have y:∀G,Cm (gV 0) Bb ZA6 [uj,zN ns] (tab n λk=>f (6+14*n+i*n+k)) G=.ok (tab n (flS n f u i)) G:=λG=>
  Lk λk hk=>by unfold ZA6;simp[cu,w,Ju v,flS]
 have t:inR (n:Int):=Er (by lia) (by lia);have m:∀a b c d e r g h:Option D,Aw 1 [0,3,4,6] [a,b,c,d,e,r,g,h]=[uj,a,d,e,g]:=λ_ _ _ _ _ _ _ _=>rfl
 have p:∀a b c d e r g h:Option D,Aw 1 [0] [a,b,c,d,e,r,g,h]=[uj,a]:=λ_ _ _ _ _ _ _ _=>rfl
 generalize((6+14*n:Nat):Int)=B at s;have l:n<=1000000:=by lia
 unfold Ql;simp[l,t,m,p,s,y,ZJP (G:=G) (o:=.lst acc) (ds:=tab n λk=>f (6+14*n+i*n+k)) λ_=>Gz,ZJP (G:=G) (o:=.lst acc) (ds:=tab n (flS n f u i)) λ_=>Gz,Bs,Dp,j]
theorem ZD4(p:Cf ns f)(l:0<u)(cu:Cu ns u){n t:Nat}(r:6+14*n+t*n<=1000)(h:t<=100)(a:n<=1000){s1 s2:Option D}(G:DH):∀(m i:Nat)(c b:Option D),i+m=t->∃g d,
  Av (gV 6) Ql (Bg i m) [zN ns,s1,s2,zI n,zI ((6+14*n:Nat):Int),zR G.length,c,b] (G++[.lst (Af n ((zX i).map (flS n f u)))])=
   .nx [zN ns,s1,s2,zI n,zI ((6+14*n:Nat):Int),zR G.length,g,d] (G++[.lst (Af n ((zX t).map (flS n f u)))])
 |0,i,c,b,e=>by
  have j:i=t:=by lia
  subst j;exact⟨c,b,by rw[Ib,Cv]⟩
 |m+1,i,c,b,e=>by
  obtain⟨g,d,v⟩:=ZD4 p l cu r h a G m (i+1) (zI i) (zF (tab n λk=>f (6+14*n+i*n+k))) (by lia);refine⟨g,d,?_⟩;have w:(i+1)*n<=t*n:=Nat.mul_le_mul_right n (by lia);have s:(i+1)*n=i*n+n:=Nat.succ_mul i n;have o:=ZPt p l cu (i:=i) (by lia) (by lia) a (s1:=s1) (s2:=s2) (x:=b) (acc:=Af n ((zX i).map (flS n f u))) (by simp[Af];lia) G;have q:Af n ((zX i).map (flS n f u))++[.tup (tab n (flS n f u i))]=Af n ((zX (i+1)).map (flS n f u)):=by simp[Af,jX]
  rw[q]at o;rw[Gj,Br];simp only[Ce,R.Bq,qW,o,Ck];have j:((i:Int)+1)=((i+1:Nat):Int):=by lia
  rw[j,v]
theorem ZPq(p:Cf ns f)(i:0<u)(cu:Cu ns u)(g:GoodH h){t:Nat}(o:6+14*h.n+t*h.n<=1000)(c:t<=100)(G:DH):
  Ut [nD ns,h.enc,.int t] G=.ok (.ref G.length) (G++[.lst (Af h.n ((zX t).map (flS h.n f u)))]):=by
 have q:=g.len;obtain⟨m,l,j⟩:=ZD4 p i cu o c (by lia) G t 0 uj uj (by lia);have a:Av (gV 6) Ql (Bg 0 t) [zN ns,uz h.enc,zI t,zI h.n,zI ((6+14*h.n:Nat):Int),zR G.length,uj,uj] (G++[.lst []])=
   .nx [zN ns,uz h.enc,zI t,zI h.n,zI ((6+14*h.n:Nat):Int),zR G.length,m,l] (G++[.lst (Af h.n ((zX t).map (flS h.n f u)))]):=j
 have b:∀G,Bt (.int 14) (.int (h.n:Int)) G=.ok (.int (14*(h.n:Int))) G:=λG=>Gd (by lia) (by lia)
 have d:(6+14*(h.n:Int))=((6+14*h.n:Nat):Int):=by lia
 generalize r:((6+14*h.n:Nat):Int)=B at a d;have e:inR (t:Int):=Er (by lia) (by lia);unfold Ut ZGi;rw[Aj];simp[Cj,Hs.Hr,b,d,Ae,Dk,e,a]
noncomputable abbrev St2:=(Nat->Int)×(Nat->Nat->Int)
def Hs.nxt(h:Hs)(s:St2)(a:Int)(fl:Nat->Int):St2:=(lies (h.cs s.1 s.2 a fl).page,(h.cs s.1 s.2 a fl).coming)
def Hs.Ec(h:Hs):List (Nat->Int)->St2->Int->St2
 |[],s,_=>s
 |fl::r,s,a=>h.Ec r (h.nxt s a fl) (a+1)
def Hs.Bl(h:Hs):List (Nat->Int)->St2->Int->List (Nat->List Int)
 |[],_,_=>[]
 |fl::r,s,a=>(h.cs s.1 s.2 a fl).page::h.Bl r (h.nxt s a fl) (a+1)
theorem ZAU:∀{fls:List (Nat->Int)}{s:St2}{a:Int},(h.Bl fls s a).length=fls.length
 |[],_,_=>rfl
 |fl::r,s,a=>by show(h.Bl r (h.nxt s a fl) (a+1)).length+1=r.length+1;rw[ZAU]
def pgD(n:Nat)(pg:Nat->List Int):D:=.tup (Bw n pg)
@[simp]theorem ZOp{n:Nat}{a:Nat->List Int}:bel m (pgD n a)=ux:=by simp[pgD]
@[simp]theorem ZIs{n:Nat}{pgs:List (Nat->List Int)}:bels m (pgs.map (pgD n))=ux:=Dt λ_ _=>ZOp
@[simp]theorem ZBr{n:Nat}:bel m (stD n lv co)=ux:=by simp[stD]
theorem ZJf(g:GoodH h)(b:∀k j,k<h.n->j<5->0<=co k j)(c:∀k,k<h.n->0<=fl k):(h.cs lv co a fl).NN h.n:=ZIp g h.n 0 _ (by lia) (ZIq b c)
noncomputable def enS:Int->List D->List D
 |_,[]=>[]
 |a,x::r=>.tup [.int a,x]::enS (a+1) r
theorem ZHr:∀(xs:List D)(a:Int)(j:Nat),(enS a xs)[j]?=xs[j]?.map λx=>.tup [.int (a+j),x]
 |[],a,j=>by simp[enS]
 |x::r,a,0=>by simp[enS]
 |x::r,a,j+1=>by
  show(enS (a+1) r)[j]?=r[j]?.map _;rw[ZHr r (a+1) j];have e:a+1+(j:Int)=a+((j+1:Nat):Int):=by lia
  rw[e]
theorem ZHJ:∀(xs:List D)(a:Int),(enS a xs).length=xs.length
 |[],a=>rfl
 |x::r,a=>by show(enS (a+1) r).length+1=r.length+1;rw[ZHJ]
theorem ZEw{g:DG}{b:DS}{xs:List D}:Cr (De a (.fl xs)) g b xs.length 0 S G=Av g b (enS a xs) S G:=Qx (λj G=>by show uz (xs[j]?.map _)=_;rw[ZHr]) (ZHJ xs a).symm
theorem ZHF(g:GoodH h):∀(fls:List (Nat->Int))(s:St2)(a:Int)(acc:List D)(e d c:Option D),acc.length+fls.length<=1000->(∀k j,k<h.n->j<5->0<=s.2 k j)->(∀fl∈fls,∀k,k<h.n->0<=fl k)->∃m l i,
  Av (Ah 2 (Aa (gV 5) (Aa (gV 6) Ak))) Pj (enS a (Af h.n fls)) [uz h.enc,uz (stD h.n s.1 s.2),s2,s3,zR G.length,e,d,c] (G++[.lst acc])=
   .nx [uz h.enc,uz (stD h.n (h.Ec fls s a).1 (h.Ec fls s a).2),s2,s3,zR G.length,m,l,i] (G++[.lst (acc++(h.Bl fls s a).map (pgD h.n))])
 |[],s,a,acc,e,d,c,_,_,_=>⟨e,d,c,by show Av _ _ [] _ _=_;rw[Cv];simp[Hs.Ec,Hs.Bl]⟩
 |fl::r,s,a,acc,e,d,c,t,p,q=>by
  have b:=q fl (by simp);simp only[zM]at t;obtain⟨m,l,i,w⟩:=ZHF g r (h.nxt s a fl) (a+1) (acc++[pgD h.n (h.cs s.1 s.2 a fl).page]) (zI a) (zT (tab h.n fl)) (uz (pgD h.n (h.cs s.1 s.2 a fl).page)) (by simp;lia) (ZJf g (lv:=s.1) (fl:=fl) (co:=s.2) (a:=a) p b).2 (λv o=>q v (zV _ o));refine⟨m,l,i,?_⟩;have f:acc.length<1000000:=by lia
  have u:Pj [uz h.enc,uz (stD h.n s.1 s.2),s2,s3,zR G.length,zI a,zT (tab h.n fl),c] (G++[.lst acc])=.nx [uz h.enc,uz (stD h.n (h.nxt s a fl).1 (h.nxt s a fl).2),s2,s3,zR G.length,zI a,zT (tab h.n fl),uz (pgD h.n (h.cs s.1 s.2 a fl).page)] (G++[.lst (acc++[pgD h.n (h.cs s.1 s.2 a fl).page])]):=by unfold Pj;simp[ZRV g (lv:=s.1) (fl:=fl) (co:=s.2) (at_:=a) p b,Bs,Dp,f,pgD,Hs.nxt]
  show Av _ _ (.tup [.int a,.tup (tab h.n fl)]::enS (a+1) (Af h.n r)) _ _=_;rw[Br];simp only[Np,Lr,Nt,Ce,R.H8,R.Bq,qW,u,Ck,zM,qT,Nat.reduceAdd,if_true];rw[w];simp[Hs.Ec,Hs.Bl]
theorem Jr{n:Nat}:(Af n fls).length=fls.length:=by simp[Af]
theorem O3{a:DH}(h:bels G.length ds=uv):tidy G (.ok (.tup ds) a)=.ok (.tup ds) a:=by unfold tidy;simp[h]
theorem ZRe(d:bels G.length ds=ux)(b:bel G.length e=ux):freeze G (.ok (.tup [.ref G.length,e]) (G++[.lst ds]))=.ok (.tup [.fl ds,e]) G:=by
 unfold freeze;have m:Cd (G++[.lst ds]) G.length 9 (.tup [.ref G.length,e])=zT [.fl ds,e]:=by
  unfold Cd;have c:Cd (G++[.lst ds]) G.length 8 (.ref G.length)=zF ds:=by unfold Cd;simp[Nv d]
  have a:Cd (G++[.lst ds]) G.length 8 e=uz e:=by unfold Cd;simp[b]
  simp[Gu,c,a]
 simp[m]
theorem ZJ4(g:GoodH h){s:St2}(p:fls.length<=1000)(i:∀k j,k<h.n->j<5->0<=s.2 k j)(o:∀fl∈fls,∀k,k<h.n->0<=fl k)(G:DH):
  My [h.enc,stD h.n s.1 s.2,.int a,.fl (Af h.n fls)] G=.ok (.tup [.ref G.length,stD h.n (h.Ec fls s a).1 (h.Ec fls s a).2]) (G++[.lst ((h.Bl fls s a).map (pgD h.n))]):=by
 obtain⟨l,f,d,c⟩:=ZHF g fls s a [] uj uj uj (by simp;lia) i o;have b:Cr (De a (.fl (Af h.n fls))) (Ah 2 (Aa (gV 5) (Aa (gV 6) Ak))) Pj (Af h.n fls).length 0 [uz h.enc,uz (stD h.n s.1 s.2),zI a,zF (Af h.n fls),zR G.length,uj,uj,uj] (G++[.lst []])=
   .nx [uz h.enc,uz (stD h.n (h.Ec fls s a).1 (h.Ec fls s a).2),zI a,zF (Af h.n fls),zR G.length,l,f,d] (G++[.lst ((h.Bl fls s a).map (pgD h.n))]):=by
  rw[ZEw];exact c
 have m:∀e:D,tidy G (.ok (.tup [.ref G.length,e]) (G++[.lst ((h.Bl fls s a).map (pgD h.n))]))=.ok (.tup [.ref G.length,e]) (G++[.lst ((h.Bl fls s a).map (pgD h.n))]):=λe=>O3 (by simp)
 unfold My ZDk;rw[Aj];simp[Ae,Dk,O5,b,Am,m]
theorem ZEf{d:D}(c:okD 30 d=ux):∀xs:List D,(∀x∈xs,okD 30 x=ux)->∃ks:List Bool,Kq G d xs=uz ks/\(ks.any id=ux↔d∈xs)
 |[],_=>⟨[],rfl,by simp⟩
 |x::xs,h=>by
  obtain⟨ks,i,e⟩:=ZEf c xs λy g=>h y (zV _ g)
  obtain⟨b,f,a⟩:=Vv 30 x d (h x (by simp)) c;refine⟨b::ks,by unfold Kq;rw[f,i],?_⟩;rw[j4,j5,e,zj];exact⟨λz=>z.elim (λz=>.inl (a.mp z).symm) .inr,λz=>z.elim (λz=>.inl (a.mpr z.symm)) .inr⟩
theorem ZPJ{d:D}{xs:List D}(i:okD 30 d=ux)(h:∀x∈xs,okD 30 x=ux)(c:d∈xs↔b=uv):Kh d (.fl xs) G=.ok (.bl b) G:=by
 obtain⟨f,g,a⟩:=ZEf (G:=G) i xs h;unfold Kh inE;have e:Bd (.fl xs) G=uz xs:=rfl;rw[e];simp only[g,xV];cases hk:f.any id with
 |true=>
  have:=c.mp (a.mp hk);subst this
  rfl
 |false=>
  cases b with
  |true=>rfl
  |false=>rw[a.mpr (c.mpr rfl)]at hk;cases hk
theorem ZMM{a:Type}{xs:List a}{x:a}:cutD (xs++[x]) uj (uz (-1))=xs:=by
 have e:HT.sIx (xs++[x]).length (xs++[x]).length (uz (-1))=xs.length:=by
  simp[HT.sIx]
  try lia
 unfold cutD;rw[e];simp[HT.sIx]
theorem ZDV{xs:List D}{x:D}:atI (xs++[x]) (-1)=uz x:=by
 rw[ZFT (by decide) (by simp;lia)];have a:((-1:Int)+((xs++[x]).length:Int)).toNat=xs.length:=by simp;lia
 simp only[a];simp
section
variable{H FL:D}{SW:Nat->D}{PG:Nat->List D}
structure Yr (H FL:D) (SW:Nat->D) (PG:Nat->List D):Prop where
 run:∀(w:Nat)(G:DH),My [H,SW w,.int 0,FL] G=.ok (.tup [.ref G.length,SW (w+1)]) (G++[.lst (PG w)])
 ok:∀w,okD 30 (SW w)=ux
 bel:∀w m,bel m (SW w)=ux
 pb:∀w m,bels m (PG w)=ux
 pl:∀w,(PG w).length<=24
noncomputable def pgs(PG:Nat->List D)(w:Nat):List D:=(zX w).flatMap PG
theorem ZBT:pgs PG (w+1)=pgs PG w++PG w:=by simp[pgs,jX]
theorem ZAD(h:∀w,(PG w).length<=24):∀w,(pgs PG w).length<=24*w
 |0=>zY _
 |w+1=>by have:=ZAD h w;have:=h w;rw[ZBT,zL];lia
theorem ZEV(h:∀w m,bels m (PG w)=ux):∀w,bels m (pgs PG w)=ux
 |0=>rfl
 |w+1=>by rw[ZBT,ZKf,ZEV h w,h w m];rfl
noncomputable def sts(SW:Nat->D)(w:Nat):List D:=(zX w).map SW
theorem Rb:sts SW (w+1)=sts SW w++[SW w]:=by simp[sts,jX]
theorem S6:(sts SW w).length=w:=by simp[sts]
theorem Zu(a:∀w m,bel m (SW w)=ux):bels m (sts SW w)=ux:=Dt λ_ _=>a _ _
theorem Wh(ho:∀w,okD 30 (SW w)=ux)(j:∀w m,bel m (SW w)=ux)(h:SW w∈sts SW w↔b=uv){P:List D}:
  Pk [s0,s1,s2,s3,zR G.length,s5,s6,s7] (G++ .lst (sts SW (w+1)):: .lst P::L)=.ok b (G++ .lst (sts SW (w+1)):: .lst P::L):=by
 have g:atI (sts SW (w+1)) (-1)=uz (SW w):=by rw[Rb];exact ZDV
 have k:cutD (sts SW (w+1)) uj (uz (-1))=sts SW w:=by rw[Rb];exact ZMM
 have e:∀G,Kh (SW w) (.fl (sts SW w)) G=.ok (.bl b) G:=λG=>ZPJ (ho w) (λx f=>by obtain⟨i,_,rfl⟩:=zA.mp f;exact ho i) h
 generalize d:G++DO.lst (sts SW (w+1)):: .lst P::L=a;have c:a[G.length]?=uz (.lst (sts SW (w+1))):=by rw[<-d,Bs];rfl
 have l:Nf (.ref G.length) uj (uz (-1)) a=.ok (.ref a.length) (a++[.lst (sts SW w)]):=by unfold Nf;simp only[Ft,c,k]
 unfold Pk;simp[c,g,l,Cz (Zu j),e,Im,Gr]
theorem ZJl(c:Yr H FL SW PG)(y:(w:Int)+1<=most)(hw:w<=1000):
  ∃(n m:Option D),Jy [uz H,s1,uz FL,zI most,zR G.length,zR (G.length+1),s6,s7] (G++ .lst (sts SW (w+1)):: .lst (pgs PG w)::L)=
   .nx [uz H,s1,uz FL,zI most,zR G.length,zR (G.length+1),n,m] (G++ .lst (sts SW (w+2)):: .lst (pgs PG (w+1))::(L++[.lst (PG w)])):=by
 have k:atI (sts SW (w+1)) (-1)=uz (SW w):=by rw[Rb];exact ZDV
 have v:=ZAD c.pl w;have x:=c.pl w;rw[ZBT];generalize pgs PG w=P at*;have p:=c.run w (G++DO.lst (sts SW (w+1)):: .lst P::L);generalize PG w=a at*;refine⟨zR (G++DO.lst (sts SW (w+1)):: .lst P::L).length,uz (SW (w+1)),?_⟩;have r:(G++DO.lst (sts SW (w+1)):: .lst P::L)[G.length]?=uz (.lst (sts SW (w+1))):=by rw[Bs];rfl
 have l:¬((((sts SW (w+1)).length:Nat):Int)>most):=by rw[S6];lia
 have t:tidy (G++DO.lst (sts SW (w+1)):: .lst P::L) (.ok (.tup [.ref (G++DO.lst (sts SW (w+1)):: .lst P::L).length,SW (w+1)]) ((G++DO.lst (sts SW (w+1)):: .lst P::L)++[DO.lst a]))=.ok (.tup [.ref (G++DO.lst (sts SW (w+1)):: .lst P::L).length,SW (w+1)]) ((G++DO.lst (sts SW (w+1)):: .lst P::L)++[DO.lst a]):=O3 (by simp);have d:((G++DO.lst (sts SW (w+1)):: .lst P::L)++[DO.lst a])[G.length+1]?=uz (.lst P):=by
  rw[qP,Qm]
  rfl
 have g:((G++DO.lst (sts SW (w+1)):: .lst P::L)++[DO.lst a])[(G++DO.lst (sts SW (w+1)):: .lst P::L).length]?=uz (.lst a):=by simp
 have b:∀o,((G++DO.lst (sts SW (w+1)):: .lst P::L)++[DO.lst a]).set (G.length+1) o=G++ .lst (sts SW (w+1))::o::(L++[.lst a]):=λo=>by
  rw[qP,Uq]
  rfl
 have j:Mf (.ref (G.length+1)) [.ref (G++DO.lst (sts SW (w+1)):: .lst P::L).length] ((G++DO.lst (sts SW (w+1)):: .lst P::L)++[DO.lst a])=.ok .non (G++ .lst (sts SW (w+1)):: .lst (P++a)::(L++[.lst a])):=by unfold Mf;simp only[d,g];rw[if_pos (by lia),b]
 have e:(G++DO.lst (sts SW (w+1)):: .lst (P++a)::(L++[DO.lst a]))[G.length]?=uz (.lst (sts SW (w+1))):=by rw[Bs];rfl
 have i:∀o,(G++DO.lst (sts SW (w+1)):: .lst (P++a)::(L++[DO.lst a])).set G.length o=G++o:: .lst (P++a)::(L++[.lst a]):=λo=>by rw[Dp];rfl
 have f:(sts SW (w+1)).length<1000000:=by rw[S6];lia
 have q:sts SW (w+2)=sts SW (w+1)++[SW (w+1)]:=Rb;rw[q];generalize(G++DO.lst (sts SW (w+1)):: .lst P::L)=z at*;generalize G++DO.lst (sts SW (w+1)):: .lst (P++a)::(L++[DO.lst a])=u at*;generalize sts SW (w+1)=A at*;unfold Jy;simp[r,l,k,p,t,d,j,e,i,f,Gr]
end
section
variable{H FL:D}{SW:Nat->D}{PG:Nat->List D}
theorem ZSF(hw:w<1000){P:List D}:
  Jy [s0,s1,s2,zI w,zR G.length,s5,s6,s7] (G++ .lst (sts SW (w+1)):: .lst P::L)=.err ⟨"TooLong",[("most",.int w)]⟩ (G++ .lst (sts SW (w+1)):: .lst P::L):=by
 generalize a:G++DO.lst (sts SW (w+1)):: .lst P::L=b;have c:b[G.length]?=uz (.lst (sts SW (w+1))):=by rw[<-a,Bs];rfl
 have e:(w:Int)<(((sts SW (w+1)).length:Nat):Int):=by rw[S6];lia
 have d:(0:Int)<=(w:Int)/\(w:Int)<1000:=by lia
 generalize sts SW (w+1)=f at*;unfold Jy;simp[c,e,sRz,d]
theorem ZI7(c:Yr H FL SW PG)(p:Y<=900)(a:∀w,w<Y->SW w∉sts SW w)(d:SW Y∈sts SW Y){most:Int}(k:(Y:Int)<=most){s1:Option D}{G:DH}:
  ∀(n w:Nat) (L:DH) (s6 s7:Option D),w<=Y->Y<w+n->∃(j:DH)(i g:Option D),
   sWh Pk Jy n [uz H,s1,uz FL,zI most,zR G.length,zR (G.length+1),s6,s7] (G++ .lst (sts SW (w+1)):: .lst (pgs PG w)::L)=
    .nx [uz H,s1,uz FL,zI most,zR G.length,zR (G.length+1),i,g] (G++ .lst (sts SW (Y+1)):: .lst (pgs PG Y)::j)
 |0,w,L,s6,s7,q,l=>by lia
 |n+1,w,L,s6,s7,q,l=>by
  by_cases e:w=Y
  .subst e;refine⟨L,s6,s7,?_⟩;unfold sWh;rw[Wh c.ok c.bel (b:=uv) (by simp[d])];simp
  .obtain⟨i,g,f⟩:=ZJl c (w:=w) (most:=most) (by lia) (by lia) (s1:=s1) (s6:=s6) (s7:=s7) (G:=G) (L:=L);obtain⟨j,o,m,r⟩:=ZI7 c p a d k n (w+1) (L++[.lst (PG w)]) i g (by lia) (by lia);refine⟨j,o,m,?_⟩;unfold sWh;rw[Wh c.ok c.bel (b:=ux) (by simp[a w (by lia)])];simp only[R.Bq,if_true,f,Ck];exact r
theorem ZEG(c:Yr H FL SW PG)(j:M<1000)(a:∀w,w<=M->SW w∉sts SW w){s1:Option D}{G:DH}:
  ∀(n w:Nat)(L:DH)(s6 s7:Option D),w<=M->M<w+n->∃f,sWh Pk Jy n [uz H,s1,uz FL,zI M,zR G.length,zR (G.length+1),s6,s7] (G++ .lst (sts SW (w+1)):: .lst (pgs PG w)::L)=.err ⟨"TooLong",[("most",.int M)]⟩ (G++f)
 |0,w,L,s6,s7,i,k=>by lia
 |n+1,w,L,s6,s7,i,k=>by
  have g:=Wh c.ok c.bel (w:=w) (b:=ux) (by simp[a w i]) (s0:=uz H) (s1:=s1) (s2:=uz FL) (s3:=zI M) (s5:=zR (G.length+1)) (s6:=s6) (s7:=s7) (G:=G) (L:=L) (P:=pgs PG w);by_cases e:w=M
  .subst e;refine⟨.lst (sts SW (w+1)):: .lst (pgs PG w)::L,?_⟩;unfold sWh;rw[g];simp only[R.Bq,if_true];rw[ZSF j,ZVS]
  .obtain⟨m,l,d⟩:=ZJl c (w:=w) (most:=(M:Int)) (by lia) (by lia) (s1:=s1) (s6:=s6) (s7:=s7) (G:=G) (L:=L);obtain⟨f,o⟩:=ZEG c j a n (w+1) (L++[.lst (PG w)]) m l (by lia) (by lia);refine⟨f,?_⟩;unfold sWh;rw[g];simp only[R.Bq,if_true,d,Ck];exact o
theorem ZGJ(d:Yr H FL SW PG)(j:Y<=900)(a:∀w,w<Y->SW w∉sts SW w)(c:SW Y∈sts SW Y)(f:(Y:Int)<=most)(G:DH):
  ∃L,Kr [H,SW 0,FL,.int most] G=.ok (.tup [.ref G.length,.ref (G.length+1)]) (G++ .lst (sts SW (Y+1)):: .lst (pgs PG Y)::L):=by
 obtain⟨L,p,o,e⟩:=ZI7 d j a c f (s1:=uz (SW 0)) (G:=G) fuel 0 [] uj uj (by lia) (by unfold fuel;lia);have k:sts SW (0+1)=[SW 0]:=rfl;have g:pgs PG 0=[]:=rfl;rw[k,g]at e;have l:tidy G (.ok (.ref G.length) (G++[.lst [SW 0]]))=.ok (.ref G.length) (G++[.lst [SW 0]]):=Dk (by simp[d.bel]);have b:tidy (G++[.lst [SW 0]]) (.ok (.ref (G.length+1)) (G++[.lst [SW 0],.lst []]))=.ok (.ref (G.length+1)) (G++[.lst [SW 0],.lst []]):=Um rfl
 have i:tidy G (.ok (.tup [.ref G.length,.ref (G.length+1)]) (G++ .lst (sts SW (Y+1)):: .lst (pgs PG Y)::L))=.ok (.tup [.ref G.length,.ref (G.length+1)]) (G++ .lst (sts SW (Y+1)):: .lst (pgs PG Y)::L):=O3 (by simp);refine⟨L,?_⟩;generalize sts SW (Y+1)=m at*;generalize pgs PG Y=n at*;unfold Kr Xg;rw[Aj];simp[Ae,l,b,e,Am,i]
theorem ZIV(d:Yr H FL SW PG)(i:M<1000)(a:∀w,w<=M->SW w∉sts SW w)(G:DH):
  ∃c,Kr [H,SW 0,FL,.int M] G=.err ⟨"TooLong",[("most",.int M)]⟩ (G++c):=by
 obtain⟨c,e⟩:=ZEG d i a (s1:=uz (SW 0)) (G:=G) fuel 0 [] uj uj (by lia) (by unfold fuel;lia);have g:sts SW (0+1)=[SW 0]:=rfl;have f:pgs PG 0=[]:=rfl;rw[g,f]at e;refine⟨c,?_⟩;have j:tidy G (.ok (.ref G.length) (G++[.lst [SW 0]]))=.ok (.ref G.length) (G++[.lst [SW 0]]):=Dk (by simp[d.bel]);have b:tidy (G++[.lst [SW 0]]) (.ok (.ref (G.length+1)) (G++[.lst [SW 0],.lst []]))=.ok (.ref (G.length+1)) (G++[.lst [SW 0],.lst []]):=Um rfl
 unfold Kr Xg;rw[Aj];simp[Ae,j,b,e,tidy]
theorem Vq(a:∀G,Bk H (.int 0) G=.ok (.int yr) G)(b:∀G,Ax [FL] G=.ok (.int yr) G)(G:DH):Qt [H,FL] G=.ok .non G:=by unfold Qt ZEU;rw[Aj];simp[a,b,Ba]
end
section
variable{H FL:D}{SW:Nat->D}{PG:Nat->List D}
theorem ZRo(e:Yr H FL SW PG)(j:∀G,Bk H (.int 0) G=.ok (.int yr) G)(k:∀G,Ax [FL] G=.ok (.int yr) G)(i:Y<=900)(a:∀w,w<Y->SW w∉sts SW w)(b:SW Y∈sts SW Y)(f:(Y:Int)<=most)(G:DH):
  Lp [H,SW 0,FL,.int most] G=.ok (.ref G.length) (G++[.lst (sts SW (Y+1))]):=by
 obtain⟨L,g⟩:=ZGJ e i a b f G;have l:bels G.length (sts SW (Y+1))=ux:=Zu e.bel;generalize sts SW (Y+1)=c at*;generalize pgs PG Y=d at*;have m:tidy G (.ok (.tup [.ref G.length,.ref (G.length+1)]) (G++ .lst c:: .lst d::L))=.ok (.tup [.ref G.length,.ref (G.length+1)]) (G++ .lst c:: .lst d::L):=O3 (by simp);unfold Lp Xx;rw[Aj];simp[Vq j k G,g,m,Dk l]
theorem ZUj(d:Yr H FL SW PG)(e:∀G,Bk H (.int 0) G=.ok (.int yr) G)(f:∀G,Ax [FL] G=.ok (.int yr) G)(g:M<1000)(a:∀w,w<=M->SW w∉sts SW w)(G:DH):
  ∃b,Lp [H,SW 0,FL,.int M] G=.err ⟨"TooLong",[("most",.int M)]⟩ (G++b):=by
 obtain⟨b,c⟩:=ZIV d g a G;refine⟨b,?_⟩;unfold Lp Xx;rw[Aj];simp[Vq e f G,c,tidy]
end
def it55(h:Hs)(fls:List (Nat->Int))(s:St2):Nat->St2
 |0=>s
 |w+1=>h.Ec fls (it55 h fls s w) 0
def SW55(h:Hs)(fls:List (Nat->Int))(s:St2)(w:Nat):D:=stD h.n (it55 h fls s w).1 (it55 h fls s w).2
theorem ZTU{n:Nat}:okD (m+4) (stD n lv co)=ux:=by
 unfold stD;refine Ob λd a=>?_
 simp only[zj,List.not_mem_nil,or_false]at a;rcases a with rfl|rfl
 .refine Ob λd a=>?_
  unfold tab at a;obtain⟨i,_,rfl⟩:=zA.mp a
  rfl
 .refine Ob λd a=>?_
  unfold Ar at a;obtain⟨i,_,rfl⟩:=zA.mp a;refine Ob λd a=>?_
  unfold tab at a;obtain⟨i,_,rfl⟩:=zA.mp a
  rfl
section
variable{h:Hs}{fls:List (Nat->Int)}{s:St2}
theorem ZDU(g:GoodH h):∀(fls:List (Nat->Int))(s:St2)(a:Int),(∀k j,k<h.n->j<5->0<=s.2 k j)->(∀fl∈fls,∀k,k<h.n->0<=fl k)->∀k j,k<h.n->j<5->0<=(h.Ec fls s a).2 k j
 |[],s,a,c,_=>c
 |fl::r,s,a,c,d=>ZDU g r (h.nxt s a fl) (a+1) (ZJf g c (d fl (by simp))).2 λe b=>d e (zV _ b)
theorem ZED(g:GoodH h)(a:∀k j,k<h.n->j<5->0<=s.2 k j)(b:∀fl∈fls,∀k,k<h.n->0<=fl k):∀w k j,k<h.n->j<5->0<=(it55 h fls s w).2 k j
 |0=>a
 |w+1=>ZDU g fls _ 0 (ZED g a b w) b
theorem yr55(g:GoodH h)(b:fls.length<=24)(c:∀k j,k<h.n->j<5->0<=s.2 k j)(a:∀fl∈fls,∀k,k<h.n->0<=fl k):
  Yr h.enc (.fl (Af h.n fls)) (SW55 h fls s) λw=>(h.Bl fls (it55 h fls s w) 0).map (pgD h.n):=
 ⟨λw G=>ZJ4 g (by lia) (ZED g c a w) a G,λw=>ZTU,λw m=>ZBr,λw m=>ZIs,λw=>by rw[zU,ZAU];exact b⟩
end
section
variable{H FL:D}{SW:Nat->D}{PG:Nat->List D}
end
def mcell(h:Hs)(f:Nat->Int)(k:Nat):Int:=f (6+24*h.n+k)
def lvM(h:Hs)(f:Nat->Int)(u:Int)(lv:Nat->Int)(k:Nat):Int:=match(h.pl k).kd with
 |.basin b _ _=>lv k+amt (mcell h f k/2) u%(b-lv k+1)*(mcell h f k%2)
 |_=>lv k
def coM(h:Hs)(f:Nat->Int)(u:Int)(co:Nat->Nat->Int)(k j:Nat):Int:=co k j+u*(mcell h f k/2%2)
def flM(h:Hs)(f:Nat->Int)(u:Int)(fl:Nat->Nat->Int)(i k:Nat):Int:=fl i k+amt (f (6+24*h.n+h.n+i*h.n+k)/2) u*(f (6+24*h.n+h.n+i*h.n+k)%2)
theorem ZBM{x:Int}(a:0<=x):0<=x*(c%2):=jA a (by lia)
theorem ZWB{k:Nat}:tab k F++[.int (F k)]=tab (k+1) F:=by simp[tab,jX]
theorem ZQs{k:Nat}:Ar k co++[.tup (tab 5 (co k))]=Ar (k+1) co:=by simp[Ar,jX]
theorem ZV1{n k:Nat}(hk:k<n):atI (Ar n co) (k:Int)=zT (tab 5 (co k)):=Dj rfl (by simp[Ar,hk])
theorem ZVJ(h:∀m,bels m ds=ux):freeze (G++[A,B]) (.ok (.ref (G.length+2)) (G++[A,B,.lst ds]))=.ok (.fl ds) (G++[A,B]):=by have:=Cz (G:=G++[A,B]) (L:=[]) (h _);simpa using this
theorem Zq{C:DO}(h:∀m,bels m ds=ux):freeze (G++[A,B,C]) (.ok (.ref (G.length+3)) (G++[A,B,C,.lst ds]))=.ok (.fl ds) (G++[A,B,C]):=by have:=Cz (G:=G++[A,B,C]) (L:=[]) (h _);simpa using this
section
variable{ns:List Int}{f:Nat->Int}{u:Int}{h:Hs}
theorem ZTV(Z:Cf ns f)(hu:0<u)(g:GoodH h)(hb:∀k b r q,k<h.n->(h.pl k).kd=.basin b r q->lv k<=b){k:Nat}(hk:k<h.n){x10 x11 x12 s14 s15 s16 s17:Option D}(G:DH):∃s,
  Nz [zN ns,uz h.enc,uz (stD h.n lv co),s3,zI u,zI h.n,zI ((6+24*h.n:Nat):Int),zR G.length,zR (G.length+1),zI k,x10,x11,x12,s14,s15,s16,s17] (G++[.lst (tab k (lvM h f u lv)),.lst (Ar k (coM h f u co))])=
   .nx [zN ns,uz h.enc,uz (stD h.n lv co),s3,zI u,zI h.n,zI ((6+24*h.n:Nat):Int),zR G.length,zR (G.length+1),zI k,zI (mcell h f k),zI (lvM h f u lv k),s,s14,s15,s16,s17] (G++[.lst (tab (k+1) (lvM h f u lv)),.lst (Ar (k+1) (coM h f u co))]):=by
 have hn:=g.len;have U:∀G,Az [nD ns,.int (((6+24*h.n:Nat):Int)+(k:Int))] G=.ok (.int (mcell h f k)) G:=λG=>by have:=Z (6+24*h.n+k) (by lia) G;rwa[show((6+24*h.n+k:Nat):Int)=((6+24*h.n:Nat):Int)+k by lia]at this
 generalize((6+24*h.n:Nat):Int)=B at U;have K:atI h.Bv (k:Int)=uz (h.encP (h.pl k)):=Hs.Dq hk;have mu:∀G,Bt (.int u) (.int (mcell h f k/2%2)) G=.ok (.int (u*(mcell h f k/2%2))) G:=λG=>Hg (by lia) (by lia)
 have O:∀G,Cm (gV 0) Bb Yd [uj,zI u,zI (mcell h f k)] (tab 5 (co k)) G=.ok (tab 5 (coM h f u co k)) G:=λG=>Lk (E:=λj=>D.int (co k j)) (F:=λj=>.int (coM h f u co k j)) λj _=>by unfold Yd;simp[mu,coM]
 have M:∀C t:List D,freeze (G++[.lst C,.lst t]) (.ok (.ref (G.length+2)) (G++[.lst C,.lst t,.lst (tab 5 (coM h f u co k))]))=.ok (.fl (tab 5 (coM h f u co k))) (G++[.lst C,.lst t]):=λC t=>ZVJ λ_=>Gz
 have J:k<1000000:=by lia
 have cs:∀a b c d e f' g h i j Q l m n o p q:Option D,Aw 1 [4,10] [a,b,c,d,e,f',g,h,i,j,Q,l,m,n,o,p,q]=[uj,e,Q]:=λ_ _ _ _ _ _ _ _ _ _ _ _ _ _ _ _ _=>rfl
 have W:∀a b:DO,(G++[a,b])[G.length]?=uz a:=λa b=>by simp
 have X:∀a b:DO,(G++[a,b])[G.length+1]?=uz b:=λa b=>by simp
 have P:∀a b c:DO,(G++[a,b]).set G.length c=G++[c,b]:=λa b c=>by simp
 have T:∀a b c:DO,(G++[a,b]).set (G.length+1) c=G++[a,c]:=λa b c=>by simp
 have N:=ZWB (k:=k) (F:=lvM h f u lv);have H:=ZQs (k:=k) (co:=coM h f u co);have z:(tab 5 (coM h f u co k)).length<=1000000:=by simp
 generalize tab 5 (coM h f u co k)=T5 at O M H z;generalize tab (k+1) (lvM h f u lv)=TL at N;generalize Ar (k+1) (coM h f u co)=RL at H;have w:∀s:Option D,R6 [zN ns,uz h.enc,uz (stD h.n lv co),s3,zI u,zI h.n,zI B,zR G.length,zR (G.length+1),zI k,zI (mcell h f k),zI (lvM h f u lv k),s,s14,s15,s16,s17] (G++[.lst (tab k (lvM h f u lv)),.lst (Ar k (coM h f u co))])=.nx [zN ns,uz h.enc,uz (stD h.n lv co),s3,zI u,zI h.n,zI B,zR G.length,zR (G.length+1),zI k,zI (mcell h f k),zI (lvM h f u lv k),s,s14,s15,s16,s17] (G++[.lst TL,.lst RL]):=λs=>by
  unfold R6 ZJv stD;simp[z,W,X,P,T,J,N,ZV1 hk,cs,O,M,λC=>rfl,H]
 have I:∃s:Option D,∀y,Ph [zN ns,uz h.enc,uz (stD h.n lv co),s3,zI u,zI h.n,zI B,zR G.length,zR (G.length+1),zI k,zI (mcell h f k),zI (lv k),x12,s14,s15,s16,s17] y=R6 [zN ns,uz h.enc,uz (stD h.n lv co),s3,zI u,zI h.n,zI B,zR G.length,zR (G.length+1),zI k,zI (mcell h f k),zI (lvM h f u lv k),s,s14,s15,s16,s17] y:=by
  clear w M W X P T N H O;generalize uz (stD h.n lv co)=S2;cases v:(h.pl k).kd with
  |basin b r q=>
   have hbl:=hb k b r q hk v;have A:lvM h f u lv k=lv k+amt (mcell h f k/2) u%(b-lv k+1)*(mcell h f k%2):=by unfold lvM;rw[v]
   have e4:∀G,Bk (h.encP (h.pl k)) (.int 4) G=.ok (.int b) G:=λG=>by unfold Hs.encP;rw[v];simp
   have Y:0<b-lv k+1:=by lia
   have m2:∀x G,Bt (.int x) (.int (mcell h f k%2)) G=.ok (.int (x*(mcell h f k%2))) G:=λx G=>Hg (by lia) (by lia)
   have om:∀x G,Hy (.int x) (.int (b-lv k+1)) G=.ok (.int (x%(b-lv k+1))) G:=λx G=>by simp[Y]
   refine⟨zI (b-lv k+1),λy=>?_⟩;rw[A];unfold Ph;simp[Cj,K,Gh,v,Kd.isB,e4,Ju hu,om,m2]
  |town a b=>
   have A:lvM h f u lv k=lv k:=by unfold lvM;rw[v]
   refine⟨x12,λy=>?_⟩;rw[A];unfold Ph;simp[Cj,K,Gh,v,Kd.isB]
  |mill a=>
   have A:lvM h f u lv k=lv k:=by unfold lvM;rw[v]
   refine⟨x12,λy=>?_⟩;rw[A];unfold Ph;simp[Cj,K,Gh,v,Kd.isB]
 obtain⟨s,S⟩:=I;refine⟨s,?_⟩;have L:=(S _).trans (w s);clear w S;have st:stD h.n lv co=.tup [.tup (tab h.n lv),.tup (Ar h.n co)]:=rfl;rw[st]at L⊢;generalize(G++[.lst (tab k (lvM h f u lv)),.lst (Ar k (coM h f u co))])=y at L⊢;unfold Nz ZJQ;simp[U,Et hk,L]
theorem ZIr(v:Cf ns f)(s:0<u)(g:GoodH h){co:Nat->Nat->Int}(t:∀k b r q,k<h.n->(h.pl k).kd=.basin b r q->lv k<=b){s3 s14 s15 s16 s17:Option D}(G:DH):∀(m k:Nat)(i x10 x11 x12:Option D),k+m=h.n->∃j a c d,
  Av (gV 9) Nz (Bg k m) [zN ns,uz h.enc,uz (stD h.n lv co),s3,zI u,zI h.n,zI ((6+24*h.n:Nat):Int),zR G.length,zR (G.length+1),i,x10,x11,x12,s14,s15,s16,s17] (G++[.lst (tab k (lvM h f u lv)),.lst (Ar k (coM h f u co))])=
   .nx [zN ns,uz h.enc,uz (stD h.n lv co),s3,zI u,zI h.n,zI ((6+24*h.n:Nat):Int),zR G.length,zR (G.length+1),j,a,c,d,s14,s15,s16,s17] (G++[.lst (tab h.n (lvM h f u lv)),.lst (Ar h.n (coM h f u co))])
 |0,k,i,x10,x11,x12,e=>by
  have p:k=h.n:=by lia
  subst p;exact⟨i,x10,x11,x12,by rw[Ib,Cv]⟩
 |m+1,k,i,x10,x11,x12,e=>by
  obtain⟨o,l⟩:=ZTV v s g t (k:=k) (by lia) (s3:=s3) (x10:=x10) (x11:=x11) (x12:=x12) (s14:=s14) (s15:=s15) (s16:=s16) (s17:=s17) (co:=co) G;obtain⟨j,a,c,d,w⟩:=ZIr v s g t G m (k+1) (zI k) (zI (mcell h f k)) (zI (lvM h f u lv k)) o (by lia);refine⟨j,a,c,d,?_⟩;rw[Gj,Br];simp only[Ce,R.Bq,qW,l,Ck];have p:((k:Int)+1)=((k+1:Nat):Int):=by lia
  rw[p,w]
theorem ZPs(U:Cf ns f)(hu:0<u)(g:GoodH h){fl:Nat->Nat->Int}{t:Nat}(hi:i<t)(ht:t<=6){s8 s14 x16 x17:Option D}{acc:List D}(ha:acc.length<=100)(G:DH):∃O J,
  Oj [zN ns,uz h.enc,s2,zF (Af h.n ((zX t).map fl)),zI u,zI h.n,zI ((6+24*h.n:Nat):Int),s7,s8,s9,s10,s11,s12,zR (G.length+2),zI i,x16,x17] (G++[A,B,.lst acc])=
   .nx [zN ns,uz h.enc,s2,zF (Af h.n ((zX t).map fl)),zI u,zI h.n,zI ((6+24*h.n:Nat):Int),s7,s8,s9,s10,s11,s12,zR (G.length+2),zI i,O,J] (G++[A,B,.lst (acc++[.tup (tab h.n (flM h f u fl i))])]):=by
 have hn:=g.len;have X:i*h.n<=6*12:=j9 (by lia) hn;have Y:∀G,Bt (.int (i:Int)) (.int (h.n:Int)) G=.ok (.int ((i:Int)*h.n)) G:=λG=>Gd (by lia) (by lia)
 have P:∀G,Cm (gV 0) Bb ZA9 [uj,zN ns,zI h.n,zI ((6+24*h.n:Nat):Int),zI i] (Bg 0 h.n) G=.ok (tab h.n λk=>f (6+24*h.n+h.n+i*h.n+k)) G:=λG=>
  Ls λk hk=>by
   have K:=U (6+24*h.n+h.n+i*h.n+k) (by lia) G;have e1:((6+24*h.n+h.n+i*h.n+k:Nat):Int)=((6+24*h.n:Nat):Int)+(h.n:Int)+(i:Int)*h.n+k:=by rw[jH,jH,jH,Int.natCast_mul]
   rw[e1]at K;generalize((6+24*h.n:Nat):Int)=B at K;unfold ZA9;simp[Y,K]
 have H:∀G,Cm (gV 0) Bb ZC5 [uj,zI u] (tab h.n λk=>f (6+24*h.n+h.n+i*h.n+k)) G=.ok (tab h.n λk=>amt (f (6+24*h.n+h.n+i*h.n+k)/2) u*(f (6+24*h.n+h.n+i*h.n+k)%2)) G:=λG=>
  Lk (E:=λk=>.int (f (6+24*h.n+h.n+i*h.n+k))) (F:=λk=>.int (amt (f (6+24*h.n+h.n+i*h.n+k)/2) u*(f (6+24*h.n+h.n+i*h.n+k)%2))) λk _=>by
   generalize f (6+24*h.n+h.n+i*h.n+k)=c;have Z:∀x G,Bt (.int x) (.int (c%2)) G=.ok (.int (x*(c%2))) G:=λx G=>Hg (by lia) (by lia)
   unfold ZC5;simp[Ju hu,Z]
 have af:atI (Af h.n ((zX t).map fl)) (i:Int)=zT (tab h.n (fl i)):=Dj rfl (by simp[Af,hi]);have M:∀G,Cm (gV 0) Bb Yq [uj,zF (Af h.n ((zX t).map fl)),zI i,zF (tab h.n λk=>amt (f (6+24*h.n+h.n+i*h.n+k)/2) u*(f (6+24*h.n+h.n+i*h.n+k)%2))] (Bg 0 h.n) G=.ok (tab h.n (flM h f u fl i)) G:=λG=>
  Ls λk hk=>by unfold Yq;simp[af,Et hk,Et hk,flM]
 have hr:inR (h.n:Int):=Er (by lia) (by lia);have L:∀a b c d e r g h i j v l m n o p q:Option D,Aw 1 [0,5,6,14] [a,b,c,d,e,r,g,h,i,j,v,l,m,n,o,p,q]=[uj,a,r,g,o]:=λ_ _ _ _ _ _ _ _ _ _ _ _ _ _ _ _ _=>rfl
 have I:∀a b c d e r g h i j v l m n o p q:Option D,Aw 1 [4] [a,b,c,d,e,r,g,h,i,j,v,l,m,n,o,p,q]=[uj,e]:=λ_ _ _ _ _ _ _ _ _ _ _ _ _ _ _ _ _=>rfl
 have N:∀a b c d e r g h i j v l m n o p q:Option D,Aw 1 [3,14,16] [a,b,c,d,e,r,g,h,i,j,v,l,m,n,o,p,q]=[uj,d,o,q]:=λ_ _ _ _ _ _ _ _ _ _ _ _ _ _ _ _ _=>rfl
 have w:=Zq (G:=G) (A:=A) (B:=B) (C:=.lst acc) (ds:=tab h.n λk=>f (6+24*h.n+h.n+i*h.n+k)) λ_=>Gz
 have s:=Zq (G:=G) (A:=A) (B:=B) (C:=.lst acc) (ds:=tab h.n λk=>amt (f (6+24*h.n+h.n+i*h.n+k)/2) u*(f (6+24*h.n+h.n+i*h.n+k)%2)) λ_=>Gz
 have y:=Zq (G:=G) (A:=A) (B:=B) (C:=.lst acc) (ds:=tab h.n (flM h f u fl i)) λ_=>Gz
 have W:(G++[A,B,.lst acc])[G.length+2]?=uz (.lst acc):=by simp
 have s2:∀c:DO,(G++[A,B,.lst acc]).set (G.length+2) c=G++[A,B,c]:=λc=>by simp
 have z:acc.length<1000000:=by lia
 refine⟨zF (tab h.n λk=>f (6+24*h.n+h.n+i*h.n+k)),zF (tab h.n λk=>amt (f (6+24*h.n+h.n+i*h.n+k)/2) u*(f (6+24*h.n+h.n+i*h.n+k)%2)),?_⟩;generalize((6+24*h.n:Nat):Int)=BB at P;have Q:(tab h.n λk=>amt (f (6+24*h.n+h.n+i*h.n+k)/2) u*(f (6+24*h.n+h.n+i*h.n+k)%2)).length<=1000000:=by simp;lia
 have S:(tab h.n λk=>f (6+24*h.n+h.n+i*h.n+k)).length<=1000000:=by simp;lia
 have T:(tab h.n (flM h f u fl i)).length<=1000000:=by simp;lia
 generalize(tab h.n λk=>amt (f (6+24*h.n+h.n+i*h.n+k)/2) u*(f (6+24*h.n+h.n+i*h.n+k)%2))=T4 at H M s Q;generalize(tab h.n λk=>f (6+24*h.n+h.n+i*h.n+k))=T3 at P H w S;generalize tab h.n (flM h f u fl i)=T5 at M y T;unfold Oj ZFs ZHK;simp[S,Q,T,hr,L,I,N,P,H,M,w,s,y,W,s2,z]
theorem ZIZ(s:Cf ns f)(p:0<u)(g:GoodH h){fl:Nat->Nat->Int}{t:Nat}(q:t<=6){s2 s7 s8 s9 s10 s11 s12:Option D}{A B:DO}(G:DH):∀(m i:Nat)(a x16 x17:Option D),i+m=t->∃d c b,
  Av (gV 14) Oj (Bg i m) [zN ns,uz h.enc,s2,zF (Af h.n ((zX t).map fl)),zI u,zI h.n,zI ((6+24*h.n:Nat):Int),s7,s8,s9,s10,s11,s12,zR (G.length+2),a,x16,x17] (G++[A,B,.lst (Af h.n ((zX i).map (flM h f u fl)))])=
   .nx [zN ns,uz h.enc,s2,zF (Af h.n ((zX t).map fl)),zI u,zI h.n,zI ((6+24*h.n:Nat):Int),s7,s8,s9,s10,s11,s12,zR (G.length+2),d,c,b] (G++[A,B,.lst (Af h.n ((zX t).map (flM h f u fl)))])
 |0,i,a,x16,x17,e=>by
  have o:i=t:=by lia
  subst o;exact⟨a,x16,x17,by rw[Ib,Cv]⟩
 |m+1,i,a,x16,x17,e=>by
  obtain⟨l,j,r⟩:=ZPs s p g (i:=i) (by lia) q (s2:=s2) (s7:=s7) (s8:=s8) (s9:=s9) (s10:=s10) (s11:=s11) (s12:=s12) (s14:=uj) (x16:=x16) (x17:=x17) (A:=A) (B:=B) (acc:=Af h.n ((zX i).map (flM h f u fl))) (by simp[Af];lia) G;obtain⟨d,c,b,w⟩:=ZIZ s p g q G m (i+1) (zI i) l j (by lia);refine⟨d,c,b,?_⟩;have v:Af h.n ((zX i).map (flM h f u fl))++[.tup (tab h.n (flM h f u fl i))]=Af h.n ((zX (i+1)).map (flM h f u fl)):=by simp[Af,jX]
  rw[v]at r;rw[Gj,Br];simp only[Ce,R.Bq,qW,r,Ck];have o:((i:Int)+1)=((i+1:Nat):Int):=by lia
  rw[o,w]
theorem ZUB(d:bels G.length ds=ux)(b:bel G.length e=ux):freeze G (.ok (.tup [e,.ref (G.length+2)]) (G++[A,B,.lst ds]))=.ok (.tup [e,.fl ds]) G:=by
 unfold freeze;have m:Cd (G++[A,B,.lst ds]) G.length 9 (.tup [e,.ref (G.length+2)])=zT [e,.fl ds]:=by
  unfold Cd;have c:Cd (G++[A,B,.lst ds]) G.length 8 (.ref (G.length+2))=zF ds:=by unfold Cd;simp[Nv d]
  have a:Cd (G++[A,B,.lst ds]) G.length 8 e=uz e:=by unfold Cd;simp[b]
  simp[Gu,c,a]
 simp[m]
theorem ZUq(w:Cf ns f)(x:0<u)(cu:Cu ns u)(g:GoodH h)(K:∀k b r q,k<h.n->(h.pl k).kd=.basin b r q->lv k<=b){fl:Nat->Nat->Int}{t:Nat}(F:t<=6)(G:DH):
  freeze G (Od [nD ns,h.enc,stD h.n lv co,.fl (Af h.n ((zX t).map fl))] G)=.ok (.tup [stD h.n (lvM h f u lv) (coM h f u co),.fl (Af h.n ((zX t).map (flM h f u fl)))]) G:=by
 have hn:=g.len;obtain⟨z,m,l,o,I⟩:=ZIr w x g K (co:=co) (s14:=uj) (s15:=uj) (s16:=uj) (s17:=uj) G h.n 0 uj uj uj uj (by lia);obtain⟨M,S,H,O⟩:=ZIZ w x g (fl:=fl) F (s9:=z) (s10:=m) (s11:=l) (s12:=o) G t 0 uj uj uj (by lia);have i:Av (gV 9) Nz (Bg 0 h.n) [zN ns,uz h.enc,uz (stD h.n lv co),zF (Af h.n ((zX t).map fl)),zI u,zI h.n,zI ((6+24*h.n:Nat):Int),zR G.length,zR (G.length+1),uj,uj,uj,uj,uj,uj,uj,uj] (G++[.lst [],.lst []])=_:=I
 have d:Av (gV 14) Oj (Bg 0 t) [zN ns,uz h.enc,uz (stD h.n lv co),zF (Af h.n ((zX t).map fl)),zI u,zI h.n,zI ((6+24*h.n:Nat):Int),zR G.length,zR (G.length+1),z,m,l,o,zR (G.length+2),uj,uj,uj] (G++[.lst (tab h.n (lvM h f u lv)),.lst (Ar h.n (coM h f u co)),.lst []])=_:=O;have s:∀G,Bt (.int 24) (.int (h.n:Int)) G=.ok (.int (24*(h.n:Int))) G:=λG=>Gd (by lia) (by lia)
 have E:(6+24*(h.n:Int))=((6+24*h.n:Nat):Int):=by lia
 have Q:freeze G (.ok (.int u) G)=.ok (.int u) G:=Gk rfl;have P:inR (h.n:Int):=Er (by lia) (by lia);have v:inR (t:Int):=Er (by lia) (by lia);have U:tidy (G++[.lst []]) (.ok (.ref (G.length+1)) (G++[.lst [],.lst []]))=.ok (.ref (G.length+1)) (G++[.lst [],.lst []]):=Um rfl;have J:∀A B:DO,tidy (G++[A,B]) (.ok (.ref (G.length+2)) (G++[A,B,.lst []]))=.ok (.ref (G.length+2)) (G++[A,B,.lst []]):=λA B=>by have:=Dk (G:=G++[A,B]) (a:=[]) (L:=[]) rfl;simpa using this
 have j:(Af h.n ((zX t).map fl)).length=t:=by simp[Af]
 have y:∀b c:DO,(G++[.lst (tab h.n (lvM h f u lv)),b,c])[G.length]?=uz (.lst (tab h.n (lvM h f u lv))):=λb c=>by simp
 have C:∀a c:DO,(G++[a,.lst (Ar h.n (coM h f u co)),c])[G.length+1]?=uz (.lst (Ar h.n (coM h f u co))):=λa c=>by simp
 have T:∀(e:D)(p:DH),tidy G (.ok (.tup [e,.ref (G.length+2)]) p)=.ok (.tup [e,.ref (G.length+2)]) p:=λe p=>O3 (by simp)
 have N:Od [nD ns,h.enc,stD h.n lv co,.fl (Af h.n ((zX t).map fl))] G=.ok (.tup [stD h.n (lvM h f u lv) (coM h f u co),.ref (G.length+2)]) (G++[.lst (tab h.n (lvM h f u lv)),.lst (Ar h.n (coM h f u co)),.lst (Af h.n ((zX t).map (flM h f u fl)))]):=by
  generalize((6+24*h.n:Nat):Int)=X at i d E;generalize Af h.n ((zX t).map (flM h f u fl))=Y at d;generalize Af h.n ((zX t).map fl)=W at i d j;generalize stD h.n lv co=E0 at i d;unfold stD;generalize tab h.n (lvM h f u lv)=Z at i d y;generalize Ar h.n (coM h f u co)=RL at i d C;unfold Od ZH2;rw[Aj];simp[cu,Q,Cj,Hs.Hr,s,E,Ae,Dk,U,P,i,J,j,v,d,y,C,Am,T]
 rw[N,ZUB (G:=G) (A:=.lst (tab h.n (lvM h f u lv))) (B:=.lst (Ar h.n (coM h f u co))) (ds:=Af h.n ((zX t).map (flM h f u fl))) (e:=stD h.n (lvM h f u lv) (coM h f u co)) Nh ZBr]
end
theorem ZGO{te:DE}{n:Nat}{E1 E2 F:Nat->D}{d:D}(q:Bd d G=uz ((zX n).map E1))(g:Bd e G=uz ((zX n).map E2))(h:∀k,k<n->te [uz (E1 k),uz (E2 k)] G=.ok (F k) G):
  Cp (Ej [d,e]) (Ah 2 (Aa (gV 0) (Aa (gV 1) Ak))) Bb te (Aw 2 [] S) n 0 G=.ok ((zX n).map F) G:=by
 have c:∀j,Ej [d,e] j G=uz ((zX n).map λi=>D.tup [E1 i,E2 i])[j]? :=λj=>by
  rw[Zt q g,Ks,List.zip_map',jK]
  rfl
 have p:Aw 2 [] S=[uj,uj]:=rfl;rw[p];have b:∀m j,j+m=n->Cp (Ej [d,e]) (Ah 2 (Aa (gV 0) (Aa (gV 1) Ak))) Bb te [uj,uj] m j G=.ok ((List.range' j m).map F) G:=by
  intro m
  induction m with
  |zero=>
   intro j o;unfold Cp;rw[c,z7 (by simp;lia)]
   rfl
  |succ m r=>
   intro j o;have a:j<n:=by lia
   unfold Cp;rw[c,zx,zE a];have l:(Ah 2 (Aa (gV 0) (Aa (gV 1) Ak))) (.tup [E1 j,E2 j]) [uj,uj] G=.ok [uz (E1 j),uz (E2 j)] G:=by simp
   simp only[xV,l,R.H8,ZE4,if_true,h j a,r (j+1) (by lia)];rw[List.range'_succ,zk]
 have:=b n 0 (by lia);rw[this,List.range_eq_range']
def leN(n:Nat)(a b:Nat->Int):Bool:=(zX n).all λk=>decide (a k<=b k)
def Kp(w m:Nat)(A:Nat->Nat->Int):List D:=(zX m).map λi=>D.tup (tab w (A i))
@[simp]theorem ZPT{A:Nat->Nat->Int}:(Kp w m A).length=m:=by simp[Kp]
def leR(w m:Nat)(A B:Nat->Nat->Int):Bool:=(zX m).all λi=>leN w (A i) (B i)
theorem ZJu{n:Nat}{p:Nat->Bool}:((zX n).map λk=>D.bl (p k))=((zX n).map p).map D.bl:=by rw[jK];rfl
theorem ZFP{ks:List Bool}:bels m (ks.map D.bl)=ux:=Dt λ_ _=>rfl
theorem ZHg{n:Nat}{a b:Nat->Int}(j:n<=1000)(G:DH):O9 [.tup (tab n a),.tup (tab n b)] G=.ok (.bl (leN n a b)) G:=by
 have e:=Vr (G:=G) (Je (xs:=tab n a)) (Je (xs:=tab n b));rw[ZL5]at e;have c:=ZGO (te:=ZC7) (S:=[zT (tab n a),zT (tab n b)]) (F:=λk=>.bl (decide (a k<=b k))) (G:=G) (Je (xs:=tab n a)) (Je (xs:=tab n b)) λk _=>by unfold ZC7;simp
 rw[ZJu]at c;have d:((zX n).map λk=>decide (a k<=b k)).all id=leN n a b:=by rw[List.all_map];rfl
 have g:((zX n).map λk=>decide (a k<=b k)).length<=1000000:=by simp;lia
 generalize((zX n).map λk=>decide (a k<=b k))=i at c d g;unfold O9 ZIu;rw[Aj];simp[e,c,g,Cz ZFP,d,Ba]
theorem ZJp{m':Nat}{A B:Nat->Nat->Int}(hw:w<=1000)(p:m<=1000){d:D}(n:Bd d G=uz (Kp w m A))(i:Bd e G=uz (Kp w m' B))(g:Ax [d] G=.ok (.int m) G)(a:Ax [e] G=.ok (.int m') G):
  K8 [d,e] G=.ok (.bl (decide (m=m')&&leR w m A B)) G:=by
 by_cases h:m=m'
 .subst h;have j:=Vr n i;rw[ZPT]at j;have b:=ZGO (te:=ZBv) (S:=[uz d,uz e]) (F:=λk=>.bl (leN w (A k) (B k))) n i λk _=>by unfold ZBv;simp[ZHg hw]
  rw[ZJu]at b;have c:((zX m).map λk=>leN w (A k) (B k)).all id=leR w m A B:=by rw[List.all_map];rfl
  have l:((zX m).map λk=>leN w (A k) (B k)).length<=1000000:=by simp;lia
  generalize((zX m).map λk=>leN w (A k) (B k))=q at b c l;unfold K8 ZBC;rw[Aj];simp[g,a,j,b,l,Cz ZFP,c,Ba]
 .have o:¬(m:Int)=(m':Int):=by lia
  unfold K8 ZBC;rw[Aj];simp[g,a,h,o,Ba]
theorem ZNC{n:Nat}(g:n<=1000)(G:DH):V9 [stD n lv co,stD n lv' co'] G=.ok (.bl (leN n lv lv'&&leR 5 n co co')) G:=by
 have c:=ZJp (by lia) g (d:=.tup (Ar n co)) (e:=.tup (Ar n co')) (G:=G) rfl rfl (by simp) (by simp);simp at c;unfold stD V9 ZHp;rw[Aj]
 cases e:leN n lv lv'<;>simp[ZHg g (a:=lv) (b:=lv') G,c,e,Ba]
theorem ZIR{n:Nat}:Af n fls=Kp n fls.length λi=>fls.getD i λ_=>0:=by
 refine qI (by simp[Af,Kp]) λi a b=>?_
 simp[Af,Kp,z6,by simpa[Af]using a]
theorem ZP3{n:Nat}(b:n<=1000)(a:fls.length<=1000)(G:DH):K8 [.fl (Af n fls),.fl (Af n fls')] G=.ok (.bl (decide (fls.length=fls'.length)&&leR n fls.length (λi=>fls.getD i λ_=>0) λi=>fls'.getD i λ_=>0)) G:=
 ZJp b a (by rw[ZIR];rfl) (by rw[ZIR];rfl) (by simp[Af]) (by simp[Af])
theorem ZQe{n:Nat}:okD 29 (.fl (Af n fls))=ux:=ZE7 λd a=>by
 obtain⟨fl,_,rfl⟩:=zA.mp a;refine Ob λd a=>?_
 obtain⟨x,_,rfl⟩:=zA.mp a
 rfl
theorem ZNm{n:Nat}{b:List (Nat->Int)}:okD 30 (.fl [.fl (Af n l),.fl (Af n b)])=ux:=ZE7 λd a=>by
 simp at a
 rcases a with rfl|rfl<;>exact ZQe
theorem ZT3{n k:Nat}{g:Nat->List Int}(hk:k<n){b d e f:Int}(h:g k=[a,b,c,d,e,f]):atI (Bw n g) (k:Int)=zT [.int a,.int b,.int c,.int d,.int e,.int f]:=Dj rfl (by unfold Bw;rw[zx,zE hk];simp[Ir,h])
noncomputable def wt:Nat->Str
 |1=>"took"
 |2=>"spilled"
 |3=>"let"
 |4=>"pumped"
 |_=>"lies"
def snT(b:Bool):Str:=if b=ux then "least" else "most"
def byd(b:Bool)(x m:Int):Bool:=if b=ux then decide (x<m)else decide (m<x)
theorem ZCV:(snT b="least")=(b=ux):=by cases b<;>simp[snT]<;>decide
theorem ZNv:(snT b="most")=(b=uv):=by cases b<;>simp[snT]<;>decide
def By(c p:Nat)(b:Bool)(m:Int):D:=.tup [.str (wt c),.int p,.str (snT b),.int m]
@[simp]theorem ZH1{c:Nat}{m:Int}{k:Nat}:bel k (By c p b m)=ux:=rfl
theorem ZOg{x m:Int}(G:DH):Va [.int x,.str (snT b),.int m] G=.ok (.bl (byd b x m)) G:=by
 unfold Va ZEs;rw[Aj]
 cases b<;>simp[ZCV,byd,Ba]
theorem five{P:Nat->Prop}{c:Nat}(h:1<=c)(g:c<=5)(a:P 1)(b:P 2)(d:P 3)(e:P 4)(f:P 5):P c:=by rcases(by lia:c=1∨c=2∨c=3∨c=4∨c=5)with rfl|rfl|rfl|rfl|rfl<;>assumption
noncomputable def prt:List (Str×D):=[("lies",.int 5),("spilled",.int 2),("let",.int 3),("pumped",.int 4),("took",.int 1)]
theorem ZMU{c:Nat}(d:1<=c)(b:c<=5):Ga (Hf [] (prt.map λa=>(.inr a.1,a.2))) (.inr (wt c))=zI c:=five (P:=λc=>Ga (Hf [] (prt.map λa=>(.inr a.1,a.2))) (.inr (wt c))=zI c) d b rfl rfl rfl rfl rfl
theorem ZQT{kvs:List (Str×D)}{x:Str}{v:D}(h:Ga (Hf [] (kvs.map λa=>(.inr a.1,a.2))) (.inr x)=uz v)(b:bel G.length v=ux):tidy G ((sRt (dOp J7 (Qi kvs) (dV 0)) [zS x] G).ret)=.ok v G:=by
 have e:J7 (.ref G.length) (.str x) (G++[.dct (Hf [] (kvs.map λa=>(.inr a.1,a.2)))])=.ok v (G++[.dct (Hf [] (kvs.map λa=>(.inr a.1,a.2)))]):=by rw[ZNW (kvs:=Hf [] (kvs.map λa=>(.inr a.1,a.2))) (by simp) rfl,h]
 simp[e,I8,b]
theorem ZR3{c:Nat}(b:1<=c)(a:c<=5)(G:DH):Ru [.str (wt c)] G=.ok (.int c) G:=by unfold Ru ZKO;rw[Aj];exact ZQT (ZMU b a) rfl
def Jg(b:Bool)(m:Int):List Int->Nat->Option (Nat×Int)
 |[],_=>uj
 |x::r,k=>if byd b x m=ux then uz (k,x)else Jg b m r (k+1)
def Hj(b:Bool)(r:List Int)(x:Int):Int:=if b=ux then r.foldl min x else r.foldl max x
def Eu(b:Bool)(m:Int)(xs:List Int):D:=match Jg b m xs 0 with
 |some (i,x)=>.tup [.str "broken",.int i,.int x]
 |none=>match xs with
  |[]=>.tup [.str "kept",.non,.non]
  |x::r=>.tup [.str "kept",.int ((x::r).idxOf (Hj b r x):Nat),.int (Hj b r x)]
theorem ZAy{f:Int->Int->Int}(c:∀a b,f a b=a∨f a b=b):∀(r:List Int)(x:Int),r.foldl f x∈x::r
 |[],x=>by simp
 | y::r,x=>by
  have:=ZAy c r (f x y);rw[jG];rcases zj.mp this with h|h
  .rcases c x y with e|e
   .rw[h,e];simp
   .rw[h,e];simp
  .simp[h]
theorem ZNd{r:List Int}{x:Int}:Hj b r x∈x::r:=by
 unfold Hj;cases b
 .exact ZAy (λa b=>by lia) r x
 .exact ZAy (λa b=>by lia) r x
theorem ZG4{b:Bool}{m:Int}{s0 s1 s2 s3 s6 s7 s10:Option D}{G:DH}:∀(xs:List Int)(k:Nat)(c a:Option D),∃f d,
  Av (Ah 2 (Aa (gV 8) (Aa (gV 9) Ak))) Jv (enS k (xs.map D.int)) [s0,s1,s2,s3,zS (snT b),zI m,s6,s7,c,a,s10] G=
   match Jg b m xs k with
   |some (i,x)=>.rt (.tup [.str "broken",.int i,.int x]) G
   |none=>.nx [s0,s1,s2,s3,zS (snT b),zI m,s6,s7,f,d,s10] G
 |[],k,c,a=>⟨c,a,by show Av _ _ [] _ _=_;rw[Cv];rfl⟩
 | x::r,k,c,a=>by
  obtain⟨f,d,j⟩:=ZG4 (b:=b) (m:=m) (s0:=s0) (s1:=s1) (s2:=s2) (s3:=s3) (s6:=s6) (s7:=s7) (s10:=s10) (G:=G) r (k+1) (zI k) (zI x);refine⟨f,d,?_⟩;have h:((k:Int)+1)=((k+1:Nat):Int):=by lia
  show Av _ _ (.tup [.int k,.int x]::enS ((k:Int)+1) (r.map D.int)) _ _=_;rw[Br,h];have g:Jv [s0,s1,s2,s3,zS (snT b),zI m,s6,s7,zI k,zI x,s10] G=if byd b x m=ux then .rt (.tup [.str "broken",.int k,.int x]) G else .nx [s0,s1,s2,s3,zS (snT b),zI m,s6,s7,zI k,zI x,s10] G:=by
   unfold Jv
   cases e:byd b x m<;>simp[ZOg,e,Am]
  simp only[Np,Lr,Nt,Ce,R.H8,R.Bq,qW,g,zM,qT,Nat.reduceAdd,if_true];unfold Jg;cases e:byd b x m with
  |true=>simp
  |false=>simp only[j3,if_false,Ck,j]
def Gg(pgs:List (Nat->List Int))(p c:Nat):List Int:=pgs.map λpg=>(pg p).getD c 0
abbrev Row6(h:Hs)(pg:Nat->List Int):Prop:=∀k,k<h.n->(pg k).length=6
theorem run6(g:GoodH h):∀(fls:List (Nat->Int))(s:St2)(a:Int),∀b∈h.Bl fls s a,Row6 h b
 |[],s,a,b,hp=>nomatch hp
 |fl::r,s,a,b,hp=>by
  rcases zj.mp hp with rfl|hp
  .exact ZAt g h.n 0 _ (by lia) λi d c=>by
    unfold Hs.done at c
    split at c<;>lia
  .exact run6 g r _ _ b hp
theorem ZPb{i:Nat->List Int}(l:Row6 h i){c:Nat}(hp:p<h.n)(m:1<=c)(k:c<=5)(G:DH):∃t,atI (Bw h.n i) (p:Int)=zT t/\atI t (c:Int)=zI ((i p).getD c 0):=by obtain⟨a,b,d,e,f,g,j⟩:=row6 (l p hp);refine⟨_,ZT3 hp j,?_⟩;rw[j];exact five (P:=λc=>atI [D.int a,.int b,.int d,.int e,.int f,.int g] (c:Int)=zI ([a,b,d,e,f,g].getD c 0)) m k rfl rfl rfl rfl rfl
theorem ZCl{m:Int}{k:Nat}:bel k (Eu b m xs)=ux:=by
 unfold Eu;split
 .rfl
 .split <;> rfl
theorem ZHP{pgs:List (Nat->List Int)}(hl:pgs.length<=100000)(T:∀k∈pgs,Row6 h k){c:Nat}(hp:p<h.n)(C:1<=c)(H:c<=5){m:Int}(G:DH):
  Oe [.fl (pgs.map (pgD h.n)),By c p b m] G=.ok (Eu b m (Gg pgs p c)) G:=by
 have u:Cm (gV 0) Bb Uv [uj,zI p,zI c] (pgs.map (pgD h.n)) G=.ok ((Gg pgs p c).map D.int) G:=by
  have:=Lk (te:=Uv) (S:=[uj,zI p,zI c]) (E:=pgD h.n) (F:=λk=>.int ((k p).getD c 0)) (G:=G) λk v=>by obtain⟨t,e1,M⟩:=ZPb (T k v) hp C H G;unfold Uv pgD;simp[e1,M]
  rw[this,Gg,jK]
  rfl
 have U:(Gg pgs p c).length=pgs.length:=by simp[Gg]
 generalize Gg pgs p c=d at u U;have Q:d.length<=1000000:=by lia
 obtain⟨z,y,O⟩:=ZG4 d 0 uj uj
 have f:Cr (De 0 (.fl (d.map D.int))) (Ah 2 (Aa (gV 8) (Aa (gV 9) Ak))) Jv d.length 0 [zF (pgs.map (pgD h.n)),uz (By c p b m),zS (wt c),zI p,zS (snT b),zI m,zI c,zF (d.map D.int),uj,uj,uj] G=(match Jg b m d 0 with
   |some (i,x)=>.rt (.tup [.str "broken",.int i,.int x]) G
   |none=>.nx [zF (pgs.map (pgD h.n)),uz (By c p b m),zS (wt c),zI p,zS (snT b),zI m,zI c,zF (d.map D.int),z,y,uj] G):=by
  have:=ZEw (g:=Ah 2 (Aa (gV 8) (Aa (gV 9) Ak))) (b:=Jv) (xs:=d.map D.int) (a:=0) (S:=[zF (pgs.map (pgD h.n)),uz (By c p b m),zS (wt c),zI p,zS (snT b),zI m,zI c,zF (d.map D.int),uj,uj,uj]) (G:=G);rw[zU]at this;rw[this];exact O
 have K:freeze G (.ok (.ref G.length) (G++[.lst (d.map D.int)]))=.ok (.fl (d.map D.int)) G:=Cz (Dt λ_ _=>rfl);have W:By c p b m=.tup [.str (wt c),.int p,.str (snT b),.int m]:=rfl;have j:(pgs.map (pgD h.n)).length<=1000000:=by simp;exact(by lia)
 have o:(d.map D.int).length=d.length:=by simp
 have w:Rq [zF (pgs.map (pgD h.n)),uz (By c p b m),uj,uj,uj,uj,uj,uj,uj,uj,uj] G=Ot [zF (pgs.map (pgD h.n)),uz (By c p b m),zS (wt c),zI p,zS (snT b),zI m,zI c,zF (d.map D.int),uj,uj,uj] G:=by
  generalize pgs.map (pgD h.n)=PG at u j;have l:(d.map D.int).length<=1000000:=by simp;lia
  generalize d.map D.int=X at u K l;unfold Rq ZDc ZFf;simp[W,ZR3 C H,Aw,u,K,j,l]
 have Y:Ot [zF (pgs.map (pgD h.n)),uz (By c p b m),zS (wt c),zI p,zS (snT b),zI m,zI c,zF (d.map D.int),uj,uj,uj] G=(match Jg b m d 0 with
   |some (i,x)=>.rt (.tup [.str "broken",.int i,.int x]) G
   |none=>Tz [zF (pgs.map (pgD h.n)),uz (By c p b m),zS (wt c),zI p,zS (snT b),zI m,zI c,zF (d.map D.int),z,y,uj] G):=by
  unfold Ot;generalize pgs.map (pgD h.n)=PG at f;generalize By c p b m=s at f;generalize d.map D.int=X at f o;simp only[<-o]at f;rw[Pu];have e:(Bu (Bf Es (Ai (dV 7) Bj)) (Ah 2 (Aa (gV 8) (Aa (gV 9) Ak))) Jv) [zF PG,uz s,zS (wt c),zI p,zS (snT b),zI m,zI c,zF X,uj,uj,uj] G=_:=(by simp:_=Cr (De 0 (.fl X)) (Ah 2 (Aa (gV 8) (Aa (gV 9) Ak))) Jv X.length 0 [zF PG,uz s,zS (wt c),zI p,zS (snT b),zI m,zI c,zF X,uj,uj,uj] G).trans f
  rw[e];cases Jg b m d 0 with
  |some q=>rfl
  |none=>rfl
 have go:Ot [zF (pgs.map (pgD h.n)),uz (By c p b m),zS (wt c),zI p,zS (snT b),zI m,zI c,zF (d.map D.int),uj,uj,uj] G=.rt (Eu b m d) G:=by
  rw[Y];unfold Eu;cases hF:Jg b m d 0 with
  |some q=>rfl
  | none=>
   generalize pgs.map (pgD h.n)=PG;generalize By c p b m=s;cases d with
   |nil=>
    unfold Tz;simp[Am]
   | cons x r=>
    have J:∀G,Ij (.fl ((x::r).map D.int)) [.int (Hj b r x)] G=.ok (.int ((x::r).idxOf (Hj b r x):Nat)) G:=λG=>ZGG rfl ZNd Q
    have L:∀G,Gp [.fl ((x::r).map D.int)] G=.ok (.int (r.foldl min x)) G:=λG=>ZId rfl
    have P:∀G,Ha [.fl ((x::r).map D.int)] G=.ok (.int (r.foldl max x)) G:=λG=>ZJN rfl
    have Z:¬((x::r).map D.int)=[]:=by simp
    dsimp only;have bl:Hj b r x=if b=ux then r.foldl min x else r.foldl max x:=rfl
    generalize(((x::r).idxOf (Hj b r x):Nat):Int)=I at J⊢;generalize(x::r).map D.int=X at*;have A:dIf (Ay (dOp Fi (dV 4) (dC (.str "least")))) (dFn Gp (Ai (dV 7) Bj)) (dFn Ha (Ai (dV 7) Bj)) [zF PG,uz s,zS (wt c),zI p,zS (snT b),zI m,zI c,zF X,z,y,uj] G=.ok (.int (Hj b r x)) G:=by
     rw[bl]
     cases b<;>simp[ZCV,L,P]
    generalize Hj b r x=B at*;unfold Tz ZEJ ZHq;generalize dIf (Ay (dOp Fi (dV 4) (dC (.str "least")))) (dFn Gp (Ai (dV 7) Bj)) (dFn Ha (Ai (dV 7) Bj))=N at A;simp[Z,A,J,Am]
 unfold Oe;rw[Aj];show tidy G ((Rq [zF (pgs.map (pgD h.n)),uz (By c p b m),uj,uj,uj,uj,uj,uj,uj,uj,uj] G).ret)=_;rw[w,go];exact Ba ZCl
theorem ZUg(G:DH):Ml (.str (snT b)) (.tup [.str "least",.str "most"]) G=.ok (.bl uv) G:=by cases b<;>rfl
noncomputable def knd:List (Str×Str):=[("lies","basin"),("spilled","basin"),("let","basin"),("pumped","basin"),("took","town")]
def knT(c:Nat):Str:=if c=1 then "town" else "basin"
theorem ZUb{c:Nat}(b:1<=c)(a:c<=5):knd.lookup (wt c)=uz (knT c):=five (P:=λc=>knd.lookup (wt c)=uz (knT c)) b a rfl rfl rfl rfl rfl
theorem Zz{c:Nat}(hp:p<h.n)(g:1<=c)(d:c<=5)(hk:(h.pl p).kd.txt=knT c){m:Int}(G:DH):O2 [h.enc,By c p b m] G=.ok .non G:=by
 have e:=ZUb g d;have a:Km knd (.str (wt c)) G=.ok (.str (knT c)) G:=ZPA e;have f:By c p b m=.tup [.str (wt c),.int p,.str (snT b),.int m]:=rfl;have i:ZG0=(Ac (sAs (dV 1) (Ah 4 (Aa (gV 2) (Aa (gV 3) (Aa (gV 4) (Aa (gV 5) Ak)))))) (Ac (sIf (dOr (Ay (dOp Ml (dV 4) (dC (.tup [.str "least",.str "most"])))) (Ay (dUn (Mm knd) (dV 2)))) Hd sNx) (Ac (sIf (Gw (Ay (K5 J0 Kf (dC (.int 0)) (dV 3) (dFn Ax (Ai (dOp Bk (dV 0) (dC (.int 1))) Bj))))) Hd sNx) (sIf (Ay (dOp Ef (dOp Bk (dOp Bk (dOp Bk (dV 0) (dC (.int 1))) (dV 3)) (dC (.int 0))) (dUn (Km knd) (dV 2)))) Hd sNx)))):=rfl
 unfold O2;rw[Aj,i];generalize knd=M at e a;simp[f,ZUg,e,a,Cj,Hs.Hr,hp,Hs.Dq hp,hk,Ba]
theorem ZBW{n:Nat}(b:n<=1000)(e:fls.length<=1000)(f:(leN n lv lv'&&leR 5 n co co')=ux)
  (d:(decide (fls.length=fls'.length)&&leR n fls.length (λi=>fls.getD i λ_=>0) λi=>fls'.getD i λ_=>0)=ux) (G:DH):Q7 [stD n lv co,stD n lv' co',.fl (Af n fls),.fl (Af n fls')] G=.ok .non G:=by
 have c:=ZNC b (lv:=lv) (lv':=lv') (co:=co) (co':=co') G;have a:=ZP3 b (fls':=fls') e G;rw[f]at c;rw[d]at a;unfold Q7 ZGs;rw[Aj];simp[c,a,Ba]
theorem X7{n c:Nat}{m:Int}(G:DH):
  O7 [stD n lv co,stD n lv' co',.fl (Af n fls),.fl (Af n fls'),By c p b m] G=.ok (.tup [stD n (if b=ux then lv else lv') (if b=ux then co else co'),.fl (Af n (if b=ux then fls else fls'))]) G:=by
 have a:By c p b m=.tup [.str (wt c),.int p,.str (snT b),.int m]:=rfl;unfold O7 ZFS;rw[Aj]
 cases b<;>simp[a,ZCV,Am,Ba]
theorem ZMR(g:GoodH h)(x:fls.length<=1000)(z:fls'.length<=1000){c:Nat}(hp:p<h.n)(q:1<=c)(l:c<=5)(hk:(h.pl p).kd.txt=knT c){m:Int}
  (y:(leN h.n lv lv'&&leR 5 h.n co co')=ux) (w:(decide (fls.length=fls'.length)&&leR h.n fls.length (λi=>fls.getD i λ_=>0) λi=>fls'.getD i λ_=>0)=ux)
  (s1:∀k j,k<h.n->j<5->0<=co k j) (s2:∀k j,k<h.n->j<5->0<=co' k j) (E:∀fl∈fls,∀k,k<h.n->0<=fl k) (B:∀fl∈fls',∀k,k<h.n->0<=fl k) (G:DH):
  Qy [h.enc,stD h.n lv co,stD h.n lv' co',.int a,.fl (Af h.n fls),.fl (Af h.n fls'),By c p b m] G=
   .ok (Eu b m (Gg (h.Bl (if b=ux then fls else fls') (if b=ux then lv else lv',if b=ux then co else co') a) p c)) G:=by
 have A:=g.len
 have t:∀k j,k<h.n->j<5->0<=(if b=ux then co else co') k j:=by cases b<;>assumption
 have u:∀fl∈(if b=ux then fls else fls'),∀k,k<h.n->0<=fl k:=by cases b<;>assumption
 have v:(if b=ux then fls else fls').length<=1000:=by cases b<;>assumption
 have d:=X7 (n:=h.n) (c:=c) (p:=p) (b:=b) (m:=m) (lv:=lv) (lv':=lv') (co:=co) (co':=co') (fls:=fls) (fls':=fls') G;generalize(if b=ux then lv else lv')=L at d⊢;generalize(if b=ux then co else co')=C at t d⊢;generalize(if b=ux then fls else fls')=F at u v d⊢;have o:=ZJ4 g (s:=(L,C)) (a:=a) v t u G;have f:=ZHP (by rw[ZAU];lia) (run6 g F (L,C) a) hp q l (b:=b) (m:=m) G;have fr:=ZRe (G:=G) (ds:=(h.Bl F (L,C) a).map (pgD h.n)) (e:=stD h.n (h.Ec F (L,C) a).1 (h.Ec F (L,C) a).2) ZIs ZBr
 have r:∀k,bel k (Eu b m (Gg (h.Bl F (L,C) a) p c))=ux:=λk=>ZCl
 generalize Eu b m (Gg (h.Bl F (L,C) a) p c)=R at f r⊢;generalize(h.Bl F (L,C) a).map (pgD h.n)=PG at o f fr;unfold Qy ZEz;rw[Aj];simp[Zz hp q l hk (b:=b) (m:=m) G,ZBW (by lia) x y w G,d,o,fr,f,Ba,r]
def Ng:Option (Nat×Nat×Bool×Int)->D
 |none=>.non
 |some (c,p,b,m)=>By c p b m
theorem ZRy(K:Cf ns f)(hu:0<u)(cu:Cu ns u)(g:GoodH h)(h1:1<=h.n)(k:Nat):
  ∃o:Option (Nat×Nat×Bool×Int),(∀c p b m,o=uz (c,p,b,m)->1<=c/\c<=5/\p<h.n/\(h.pl p).kd.txt=knT c)/\
   ∀(t j i a d:Option D)(G:DH),∃X y6 y7 y8 y9,M6 [zN ns,uz h.enc,zI h.n,zI ((6+20*h.n:Nat):Int),zI k,t,j,i,a,d] G=
    match o with
    |some _=>.rt (Ng o) G
    |none=>.nx [zN ns,uz h.enc,zI h.n,zI ((6+20*h.n:Nat):Int),zI k,X,y6,y7,y8,y9] G:=by
 have hn:=g.len;have M:∀G,Az [nD ns,.int ((6+20*h.n:Nat):Int)] G=.ok (.int (f (6+20*h.n))) G:=K _ (by lia);have S:∀G,Az [nD ns,.int (((6+20*h.n:Nat):Int)+1)] G=.ok (.int (f (6+20*h.n+1))) G:=λG=>by have:=K (6+20*h.n+1) (by lia) G;rwa[show((6+20*h.n+1:Nat):Int)=((6+20*h.n:Nat):Int)+1 by lia]at this
 have P:∀G,Az [nD ns,.int (((6+20*h.n:Nat):Int)+2)] G=.ok (.int (f (6+20*h.n+2))) G:=λG=>by have:=K (6+20*h.n+2) (by lia) G;rwa[show((6+20*h.n+2:Nat):Int)=((6+20*h.n:Nat):Int)+2 by lia]at this
 generalize((6+20*h.n:Nat):Int)=B at M S P;generalize f (6+20*h.n)=H at M;generalize f (6+20*h.n+1)=A at S;generalize f (6+20*h.n+2)=l at P;have C:0<(h.n:Int):=by lia
 have E:0<h.n:=by lia
 have e0:=jk (H+k) (show(h.n:Int)≠0 by lia);have e1:=jz (H+k) C;obtain⟨p,hp⟩:∃p:Nat,(H+k)%(h.n:Int)=p:=⟨((H+k)%(h.n:Int)).toNat,by lia⟩;have v:p<h.n:=by lia
 have Y:∀G,Bk h.enc (.int 1) G=.ok (.tup h.Bv) G:=λG=>Cj
 have fu:∀G,freeze G (.ok (.int u) G)=.ok (.int u) G:=λG=>Gk rfl
 have J:∀G:DH,freeze G (.ok (.ref G.length) (G++[.lst [.str "lies",.str "spilled",.str "let",.str "pumped"]]))=.ok (.fl [.str "lies",.str "spilled",.str "let",.str "pumped"]) G:=λG=>Cz rfl
 have Q:∀G:DH,freeze G (.ok (.ref G.length) (G++[.lst [.str "least",.str "most"]]))=.ok (.fl [.str "least",.str "most"]) G:=λG=>Cz rfl
 obtain⟨c,hc1,hc2,Z⟩:∃c:Nat,2<=c/\c<=5/\atI [D.str "lies",.str "spilled",.str "let",.str "pumped"] (A%4)=zS (wt c):=by
  rcases(by lia:A%4=0∨A%4=1∨A%4=2∨A%4=3)with z|z|z|z<;>rw[z]
  .exact⟨5,by lia,by lia,rfl⟩
  .exact⟨2,by lia,by lia,rfl⟩
  .exact⟨3,by lia,by lia,rfl⟩
  .exact⟨4,by lia,by lia,rfl⟩
 obtain⟨b,a2⟩:∃b:Bool,atI [D.str "least",.str "most"] (l%2)=zS (snT b):=by
  rcases(by lia:l%2=0∨l%2=1)with z|z<;>rw[z]
  .exact⟨ux,rfl⟩
  .exact⟨uv,rfl⟩
 have y:∀(t j i a d:Option D)(G:DH),M6 [zN ns,uz h.enc,zI h.n,zI B,zI k,t,j,i,a,d] G=Ly [zN ns,uz h.enc,zI h.n,zI B,zI k,zI p,zS (h.pl p).kd.txt,zS "took",a,d] G:=λt j i a d G=>by generalize h.enc=N at*;unfold M6 ZDu ZKC;simp[M,C,E,hp,Y,Hs.Dq v]
 have F:∀(w s:Str)(a d:Option D)(G:DH),¬s="mill"->Qe [zN ns,uz h.enc,zI h.n,zI B,zI k,zI p,zS s,zS w,a,d] G=.rt (.tup [.str w,.int p,.str (snT b),.int (amt (l/4) u-l/2%2)]) G:=λw s a d G hs=>by generalize h.enc=N at*;unfold Qe;simp[hs,P,Ae,Q,a2,cu,fu,Ju hu,Am]
 cases O:(h.pl p).kd with
 | basin I r q=>
  have x:(h.pl p).kd.txt="basin":=by rw[O];rfl
  refine⟨uz (c,p,b,amt (l/4) u-l/2%2),?_,λt j i a d G=>⟨t,j,i,a,d,?_⟩⟩
  .intro U W I T e;cases e;exact⟨by lia,by lia,v,by rw[x];unfold knT;rw[if_neg (by lia)]⟩
  .rw[y,x];have m3:Ly [zN ns,uz h.enc,zI h.n,zI B,zI k,zI p,zS "basin",zS "took",a,d] G=Qe [zN ns,uz h.enc,zI h.n,zI B,zI k,zI p,zS "basin",zS (wt c),a,d] G:=by generalize h.enc=N at*;unfold Ly;simp[S,Ae,J,Z]
   rw[m3,F _ _ _ _ _ (by decide)]
   rfl
 | town a' I=>
  have x:(h.pl p).kd.txt="town":=by rw[O];rfl
  have L:¬("town":Str)="basin":=by decide
  refine⟨uz (1,p,b,amt (l/4) u-l/2%2),?_,λt j i a d G=>⟨t,j,i,a,d,?_⟩⟩
  .intro U W I T e;cases e;exact⟨by lia,by lia,v,by rw[x];rfl⟩
  .rw[y,x];unfold Ly;generalize h.enc=N at*;simp[L,F _ "town" _ _ _ (by decide)]
   rfl
 |mill a'=>
  have x:(h.pl p).kd.txt="mill":=by rw[O];rfl
  have L:¬("mill":Str)="basin":=by decide
  refine⟨uj,(λU W I T e=>nomatch e),λt j i a d G=>⟨zI p,zS "mill",zS "took",a,d,?_⟩⟩
  rw[y,x];unfold Ly Qe;simp[L]
theorem ZFG(z:Cf ns f)(C:0<u)(cu:Cu ns u)(g:GoodH h)(B:1<=h.n):∀(m k:Nat),
  ∃o:Option (Nat×Nat×Bool×Int),(∀c p b m,o=uz (c,p,b,m)->1<=c/\c<=5/\p<h.n/\(h.pl p).kd.txt=knT c)/\
   ∀(r l i a d j:Option D)(G:DH),∃J s v t x w,Av (gV 4) M6 (Bg k m) [zN ns,uz h.enc,zI h.n,zI ((6+20*h.n:Nat):Int),r,l,i,a,d,j] G=
    match o with
    |some _=>.rt (Ng o) G
    |none=>.nx [zN ns,uz h.enc,zI h.n,zI ((6+20*h.n:Nat):Int),J,s,v,t,x,w] G
 |0,k=>⟨uj,(λ_ _ _ _ e=>nomatch e),λr l i a d j G=>⟨r,l,i,a,d,j,by rw[Ib,Cv]⟩⟩
 | m+1,k=>by
  obtain⟨o,y,A⟩:=ZRy z C cu g B k;cases o with
  |some q=>
   refine⟨uz q,y,λr l i a d j G=>?_⟩;obtain⟨s,v,t,x,w,e⟩:=A l i a d j G;refine⟨r,l,i,a,d,j,?_⟩;rw[Gj,Br];simp only[Ce,R.Bq,qW,e]
   rfl
  |none=>
   obtain⟨o,y,L⟩:=ZFG z C cu g B m (k+1);refine⟨o,y,λr l i a d j G=>?_⟩;obtain⟨s,v,t,x,w,e⟩:=A l i a d j G;obtain⟨K,H,N,I,F,M,E⟩:=L (zI k) s v t x w G;refine⟨K,H,N,I,F,M,?_⟩;have O:((k:Int)+1)=((k+1:Nat):Int):=by lia
   rw[Gj,Br];simp only[Ce,R.Bq,qW,e,Ck,O,E]
theorem ZSs(v:Cf ns f)(r:0<u)(cu:Cu ns u)(g:GoodH h)(t:1<=h.n):
  ∃o:Option (Nat×Nat×Bool×Int),(∀c p b m,o=uz (c,p,b,m)->1<=c/\c<=5/\p<h.n/\(h.pl p).kd.txt=knT c)/\∀G,P0 [nD ns,h.enc] G=.ok (Ng o) G:=by
 obtain⟨o,l,s⟩:=ZFG v r cu g t h.n 0;refine⟨o,l,λG=>?_⟩;have w:=g.len;have j:inR (h.n:Int):=Er (by lia) (by lia);obtain⟨C,E,A,x,z,y,e⟩:=s uj uj uj uj uj uj G;have a:∀G,Bt (.int 20) (.int (h.n:Int)) G=.ok (.int (20*(h.n:Int))) G:=λG=>Gd (by lia) (by lia)
 have i:(6+20*(h.n:Int))=((6+20*h.n:Nat):Int):=by lia
 have d:Av (gV 4) M6 (Bg 0 h.n) _ G=_:=e;generalize((6+20*h.n:Nat):Int)=B at d i;unfold P0 ZHX;rw[Aj];cases o with
 |some q=>
  obtain⟨c,p,b,m⟩:=q;simp[Cj,Hs.Hr,a,i,j,d,Ba ZH1,Ng]
 |none=>simp[Cj,Hs.Hr,a,i,j,d,Ba,Ng]
theorem ZCr{s:Str}{x y:D}(h:x=.non/\y=.non∨∃i j,x=.int i/\y=.int j)(G:DH):M3 [.tup [.str s,x,y]] G=.ok (.bl ux) G:=by
 have c:∀x y:D,bel G.length x=ux->bel G.length y=ux->freeze G (.ok (.tup [x,y]) G)=.ok (.tup [x,y]) G:=λx y e d=>Gk (by simp[e,d])
 have f:∀(a:Option D)(i:Int),Om [a,zI i] G=.nx [a,zI i] G:=λa i=>by unfold Om;simp[tyD]
 have g:∀(a:Option D),Om [a,uz .non] G=.nx [a,uz .non] G:=λa=>by unfold Om;simp[tyD]
 have b:∀x y:D,cutD [D.str s,x,y] (uz 1) uj=[x,y]:=λx y=>rfl
 unfold M3 ZDf;rw[Aj];rcases h with⟨rfl,rfl⟩|⟨i,j,rfl,rfl⟩
 .simp[tyD,b,c,Br,Cv,g,Ba]
 .simp[tyD,b,c,Br,Cv,f,Ba]
theorem ZQQ(a:∀k b r q,k<h.n->(h.pl k).kd=.basin b r q->lv k<=b){k:Nat}(hk:k<h.n):lv k<=lvM h f u lv k:=by
 unfold lvM;cases e:(h.pl k).kd with
 |basin b r q=>
  have i:=a k b r q hk e;have d:0<=amt (mcell h f k/2) u%(b-lv k+1):=jk _ (by lia);have g:=ZBM (c:=mcell h f k) d;show lv k<=lv k+_;lia
 |town _ _=>exact qk _
 |mill _=>exact qk _
theorem ZHC(b:0<u)(k j:Nat):co k j<=coM h f u co k j:=by unfold coM;have a:=ZBM (x:=u) (c:=mcell h f k/2) (by lia);lia
theorem ZIW(a:0<u){fl:Nat->Nat->Int}(i k:Nat):fl i k<=flM h f u fl i k:=by unfold flM;have b:=ZBM (x:=amt (f (6+24*h.n+h.n+i*h.n+k)/2) u) (c:=f (6+24*h.n+h.n+i*h.n+k)) (Qk a);lia
theorem ZDP{n:Nat}{a b:Nat->Int}(h:∀k,k<n->a k<=b k):leN n a b=ux:=qY.mpr λk hk=>decide_eq_true (h k (qK.mp hk))
theorem ZEW{A B:Nat->Nat->Int}(h:∀i,i<m->∀k,k<w->A i k<=B i k):leR w m A B=ux:=qY.mpr λi a=>ZDP (h i (qK.mp a))
theorem ZFh{t:Nat}{F:Nat->Nat->Int}(a:i<t):((zX t).map F).getD i (λ_=>0)=F i:=by simp[z6,a]
theorem ZTL{a b:List D}(f:bels G.length a=ux)(d:bels G.length b=ux):freeze G (.ok (.tup [.ref G.length,.ref (G.length+1)]) (G++ .lst a:: .lst b::L))=.ok (.tup [.fl a,.fl b]) G:=by
 unfold freeze;have m:Cd (G++ .lst a:: .lst b::L) G.length 9 (.tup [.ref G.length,.ref (G.length+1)])=zT [.fl a,.fl b]:=by
  unfold Cd;have e:Cd (G++ .lst a:: .lst b::L) G.length 8 (.ref G.length)=zF a:=by unfold Cd;simp[Nv f]
  have c:Cd (G++ .lst a:: .lst b::L) G.length 8 (.ref (G.length+1))=zF b:=by unfold Cd;simp[Nv d]
  simp[Gu,e,c]
 simp[m]
theorem Uy{SW:Nat->D}:∀M:Nat,(∀v,v<=M->SW v∉sts SW v)∨∃Y,1<=Y/\Y<=M/\SW Y∈sts SW Y/\∀v,v<Y->SW v∉sts SW v
 |0=>.inl λv f=>by
  have:v=0:=by lia
  subst this;simp[sts]
 | M+1=>by
  rcases Uy M with a|⟨Y,a,b,c,d⟩
  .by_cases e:SW (M+1)∈sts SW (M+1)
   .exact .inr ⟨M+1,by lia,by lia,e,λv f=>a v (by lia)⟩
   .refine .inl λv f=>?_
    by_cases z:v=M+1
    .subst z;exact e
    .exact a v (by lia)
  .exact .inr ⟨Y,a,by lia,c,d⟩
section
variable{h:Hs}{fls:List (Nat->Int)}{s:St2}
theorem ZG7:h.cs lv co (a+h.yr) fl=h.cs lv co a fl:=by simp[Hs.cs]
theorem ZH0:∀(r:List (Nat->Int))(s:St2)(a:Int),h.Bl r s (a+h.yr)=h.Bl r s a
 |[],_,_=>rfl
 |fl::r,s,a=>by
  have e:h.nxt s (a+h.yr) fl=h.nxt s a fl:=by unfold Hs.nxt;rw[ZG7]
  show(h.cs s.1 s.2 (a+h.yr) fl).page::h.Bl r (h.nxt s (a+h.yr) fl) (a+h.yr+1)=_::h.Bl r (h.nxt s a fl) (a+1);rw[ZG7,e,show a+h.yr+1=a+1+h.yr by lia,ZH0 r]
theorem ZFV:∀(b c:List (Nat->Int))(s:St2)(a:Int),h.Bl (b++c) s a=h.Bl b s a++h.Bl c (h.Ec b s a) (a+b.length)
 |[],c,s,a=>by simp[Hs.Bl,Hs.Ec]
 |fl::b,c,s,a=>by show(h.cs s.1 s.2 a fl).page::h.Bl (b++c) (h.nxt s a fl) (a+1)=(h.cs s.1 s.2 a fl).page::(h.Bl b (h.nxt s a fl) (a+1)++h.Bl c (h.Ec b (h.nxt s a fl) (a+1)) (a+((b.length+1:Nat):Int)));rw[ZFV b c,show a+1+(b.length:Int)=a+((b.length+1:Nat):Int) by lia]
theorem ZDq:∀w,it55 h fls (h.Ec fls s 0) w=it55 h fls s (w+1)
 |0=>rfl
 |w+1=>congrArg (λx=>h.Ec fls x 0) (ZDq w)
theorem ZDl(a:(fls.length:Int)=h.yr):∀(y:Nat)(s:St2),h.Bl (zZ y fls).flatten s 0=(zX y).flatMap λw=>h.Bl fls (it55 h fls s w) 0
 |0,s=>rfl
 |y+1,s=>by
  rw[zH,qq,ZFV,a,ZH0,ZDl a y,qE,List.flatMap_cons,List.flatMap_map];simp only[ZDq]
  rfl
end
theorem Rw{n:Nat}:(zZ y (Af n l)).flatten=Af n (zZ y l).flatten:=by simp[Af,List.map_flatten]
def Le56(n:Nat)(l l':List (Nat->Int)):Prop:=l.length=l'.length/\∀i,i<l.length->∀k,k<n->l.getD i (λ_=>0) k<=l'.getD i (λ_=>0) k
theorem le_app{n:Nat}{a d b e:List (Nat->Int)}(h:Le56 n a d)(q:Le56 n b e):Le56 n (a++b) (d++e):=by
 refine⟨by simp[h.1,q.1],λi f k hk=>?_⟩;by_cases c:i<a.length
 .have:=h.2 i c k hk;simpa[z6,zG c,zG (h.1▸c)]using this
 .have:=q.2 (i-a.length) (by rw[zL]at f;lia) k hk;simpa[z6,z9 (show a.length<=i by lia),z9 (show d.length<=i by rw[<-h.1];lia),<-h.1]using this
theorem ZDe{n:Nat}{a:List (Nat->Int)}(q:Le56 n l a):∀y,Le56 n (zZ y l).flatten (zZ y a).flatten
 |0=>⟨rfl,λi b=>by simp at b⟩
 |y+1=>by rw[zH,zH,qq,qq];exact le_app q (ZDe q y)
theorem W8{n:Nat}{a:List (Nat->Int)}(q:Le56 n l a):(decide (l.length=a.length)&&leR n l.length (λi=>l.getD i λ_=>0) λi=>a.getD i λ_=>0)=ux:=by rw[ZEW λi b k hk=>q.2 i b k hk];simp[q.1]
section
theorem ZSS(g:GoodH h){l':List (Nat->Int)}(hl:l.length<=24)(hl':l'.length<=24)(s1:∀k j,k<h.n->j<5->0<=co k j)(s2:∀k j,k<h.n->j<5->0<=co' k j)(f1:∀fl∈l,∀k,k<h.n->0<=fl k)(f2:∀fl∈l',∀k,k<h.n->0<=fl k)(hy:((l.length:Nat):Int)=h.yr){c:Nat}(hp:p<h.n)(h1:1<=c)(h2:c<=5)(hk:(h.pl p).kd.txt=knT c){m:Int}(u1:(leN h.n lv lv'&&leR 5 h.n co co')=ux)(u2:Le56 h.n l l')(hM:M<=100)(d:∀v,v<=M->SW55 h (if b=ux then l else l') (if b=ux then lv else lv',if b=ux then co else co') v∉sts (SW55 h (if b=ux then l else l') (if b=ux then lv else lv',if b=ux then co else co')) v)(G:DH):
  ∃L,Gq [h.enc,stD h.n lv co,stD h.n lv' co',.fl (Af h.n l),.fl (Af h.n l'),By c p b m,.int M] G=.err ⟨"TooLong",[("most",.int M)]⟩ (G++L):=by
 have u:=g.len;have t:=Zz hp h1 h2 hk (b:=b) (m:=m) G
 have e:∀k j,k<h.n->j<5->0<=(if b=ux then co else co') k j:=by cases b<;>assumption
 have f:∀fl∈(if b=ux then l else l'),∀k,k<h.n->0<=fl k:=by cases b<;>assumption
 have i:(if b=ux then l else l').length<=24:=by cases b<;>assumption
 have a:=X7 (n:=h.n) (c:=c) (p:=p) (b:=b) (m:=m) (lv:=lv) (lv':=lv') (co:=co) (co':=co') (fls:=l) (fls':=l') G;generalize(if b=ux then lv else lv')=L at a d⊢;generalize(if b=ux then co else co')=C at e a d⊢;generalize(if b=ux then l else l')=F at f i a d⊢;have o:stD h.n L C=SW55 h F (L,C) 0:=rfl;rw[o]at a;obtain⟨r,q⟩:=ZIV (yr55 g (s:=(L,C)) i e f) (by lia) d G;refine⟨r,?_⟩;generalize By c p b m=A at*
 generalize SW55 h F (L,C) 0=w at*;unfold Gq Wc;rw[Aj];simp[t,Vq (H:=h.enc) (FL:=.fl (Af h.n l)) (yr:=h.yr) (λG=>Rp) (λG=>by simp[Jr,hy]) G,ZBW (by lia) (by lia) u1 (W8 u2) G,a,q,freeze]
theorem ZGl(g:GoodH h){l':List (Nat->Int)}(hl:l.length<=24)(hl':l'.length<=24)(s1:∀k j,k<h.n->j<5->0<=co k j)(s2:∀k j,k<h.n->j<5->0<=co' k j)(f1:∀fl∈l,∀k,k<h.n->0<=fl k)(f2:∀fl∈l',∀k,k<h.n->0<=fl k)(hy:((l.length:Nat):Int)=h.yr){c:Nat}(hp:p<h.n)(h1:1<=c)(h2:c<=5)(hk:(h.pl p).kd.txt=knT c){m:Int}(u1:(leN h.n lv lv'&&leR 5 h.n co co')=ux)(u2:Le56 h.n l l')(hM:M<=100)(U:y<=M)(e:SW55 h (if b=ux then l else l') (if b=ux then lv else lv',if b=ux then co else co') y∈sts (SW55 h (if b=ux then l else l') (if b=ux then lv else lv',if b=ux then co else co')) y)
  (d:∀v,v<y->SW55 h (if b=ux then l else l') (if b=ux then lv else lv',if b=ux then co else co') v∉sts (SW55 h (if b=ux then l else l') (if b=ux then lv else lv',if b=ux then co else co')) v) (G:DH):
  Gq [h.enc,stD h.n lv co,stD h.n lv' co',.fl (Af h.n l),.fl (Af h.n l'),By c p b m,.int M] G=
   .ok (Eu b m (Gg ((zX y).flatMap λw=>h.Bl (if b=ux then l else l') (it55 h (if b=ux then l else l') (if b=ux then lv else lv',if b=ux then co else co') w) 0) p c)) G:=by
 have Q:=g.len;have P:=Zz hp h1 h2 hk (b:=b) (m:=m) G
 have B:∀k j,k<h.n->j<5->0<=(if b=ux then co else co') k j:=by cases b<;>assumption
 have u:∀fl∈(if b=ux then l else l'),∀k,k<h.n->0<=fl k:=by cases b<;>assumption
 have x:(if b=ux then l else l').length<=24:=by cases b<;>assumption
 have f:=X7 (n:=h.n) (c:=c) (p:=p) (b:=b) (m:=m) (lv:=lv) (lv':=lv') (co:=co) (co':=co') (fls:=l) (fls':=l') G;generalize(if b=ux then lv else lv')=L at f e d⊢;generalize(if b=ux then co else co')=C at B f e d⊢;generalize(if b=ux then l else l')=F at u x f e d⊢;have Y:=yr55 g (s:=(L,C)) x B u;have E:stD h.n L C=SW55 h F (L,C) 0:=rfl;rw[E]at f;obtain⟨J,I⟩:=ZGJ Y (by lia) d e (most:=(M:Int)) (by lia) G
 have t:pgs (λw=>(h.Bl F (it55 h F (L,C) w) 0).map (pgD h.n)) y=((zX y).flatMap λw=>h.Bl F (it55 h F (L,C) w) 0).map (pgD h.n):=by rw[List.map_flatMap];rfl
 have O:=ZAD Y.pl y;rw[t,zU]at O;have N:∀o∈(zX y).flatMap λw=>h.Bl F (it55 h F (L,C) w) 0,Row6 h o:=λo i=>by obtain⟨v,_,K⟩:=List.mem_flatMap.mp i;exact run6 g F _ 0 o K
 have r:=ZHP (by lia) N hp h1 h2 (b:=b) (m:=m) G;have fr:=ZTL (G:=G) (L:=J) (a:=sts (SW55 h F (L,C)) (y+1)) (Zu Y.bel) (ZEV Y.pb y);rw[<-t]at r;have z:∀q,bel q (Eu b m (Gg ((zX y).flatMap λw=>h.Bl F (it55 h F (L,C) w) 0) p c))=ux:=λq=>ZCl
 generalize Eu b m (Gg ((zX y).flatMap λw=>h.Bl F (it55 h F (L,C) w) 0) p c)=S at r z⊢;generalize pgs (λw=>(h.Bl F (it55 h F (L,C) w) 0).map (pgD h.n)) y=PG at*;generalize sts (SW55 h F (L,C)) (y+1)=W at*;generalize By c p b m=A at*;generalize SW55 h F (L,C) 0=T at*;unfold Gq Wc;rw[Aj];simp[P,Vq (H:=h.enc) (FL:=.fl (Af h.n l)) (yr:=h.yr) (λG=>Rp) (λG=>by simp[Jr,hy]) G,ZBW (by lia) (by lia) u1 (W8 u2) G,f,I,fr,r,Ba,z]
end
section
variable{H FL:D}{SW:Nat->D}{PG:Nat->List D}
theorem W4(e:Yr H FL SW PG)(f:∀G,Bk H (.int 0) G=.ok (.int yr) G)(i:∀G,Ax [FL] G=.ok (.int yr) G)(j:M<1000)(b:∀w,w<=M->SW w∉sts SW w)(G:DH):Gi [H,SW 0,FL,.int M] G=.ok .non G:=by obtain⟨a,d⟩:=ZUj e f i j b G;have k:freeze (G++a) (.ok (.ref (G++a).length) (G++a++[.lst []]))=.ok (.fl []) (G++a):=Cz rfl;have c:tidy G (.ok .non (G++a))=.ok .non G:=I8 rfl;generalize G++a=m at*;unfold Gi Xb ZIn;rw[Aj];simp[Ik,dTc,d,Pn,Ae,k,c]
theorem Y5(k:Yr H FL SW PG)(m:∀G,Bk H (.int 0) G=.ok (.int yr) G)(n:∀G,Ax [FL] G=.ok (.int yr) G)(q:M<900)(p:Y<=M)(a:∀w,w<Y->SW w∉sts SW w)(c:SW Y∈sts SW Y)(G:DH):Gi [H,SW 0,FL,.int M] G=.ok (.int Y) G:=by
 have j:=ZRo k m n (by lia) a c (most:=(M:Int)) (by lia) G;have e:(sts SW (Y+1)).length=Y+1:=S6;have i:∀L:DH,tidy G (.ok (.int Y) (G++L))=.ok (.int Y) G:=λL=>I8 rfl
 have f:(G++[DO.lst (sts SW (Y+1))])[G.length]?=uz (.lst (sts SW (Y+1))):=by simp
 have b:=i [.lst (sts SW (Y+1))];generalize sts SW (Y+1)=d at*;generalize G++[DO.lst d]=o at*;unfold Gi Xb;rw[Aj];simp[Ik,dTc,j,f,e,by omega,by omega,b]
end
theorem lm_X{ds:List D}{d x1 c f i:D}(n:Gq [d,x1,c,f,i,e,.int M] G=.err ⟨"TooLong",[("most",.int M)]⟩ (G++L)):Pg [d,x1,c,f,i,e,.int M] G=.ok (.int M) G:=by
 obtain⟨b,a⟩:∃b:DH,b=G++L++[DO.exc "TooLong" [("most",.int M)]]:=⟨_,rfl⟩;have k:b[(G++L).length]?=uz (.exc "TooLong" [("most",.int M)]):=by rw[a];simp
 have o:gtx ["TooLong"] "most" (.ref (G++L).length) b=.ok (.int M) b:=by
  unfold gtx;simp only[k]
  rfl
 have m:tidy G (.ok (.int M) b)=.ok (.int M) G:=by rw[a,qP];exact I8 rfl
 generalize j:G++L=p at*;unfold Pg ZIK ZFd;rw[Aj];simp[Ik,dTc,n,Qw,<-a,o,unnm,m]
theorem ZJi{xs:List D}(j:∃t r,xs=.tup t::r)(h:xs.length*y<=1000000)(a:y<=1000):Ei (.fl xs) (.int (y:Int)) G=.ok (.ref G.length) (G++[.lst (zZ y xs).flatten]):=by
 obtain⟨t,r,rfl⟩:=j;unfold Ei;have e:(y:Int).toNat=y:=by lia
 simp only[e];rw[if_pos ⟨by lia,by lia,h⟩]
theorem ZFE{n:Nat}(h:0<l.length):∃t r,Af n l=.tup t::r:=by
 cases l with
 |nil=>simp at h
 |cons x l=>exact⟨_,_,rfl⟩
theorem ZMG{m:Int}(G:DH):M3 [Eu b m xs] G=.ok (.bl ux) G:=by
 unfold Eu;split
 .exact ZCr (.inr ⟨_,_,rfl,rfl⟩) G
 .split
  .exact ZCr (.inl ⟨rfl,rfl⟩) G
  .exact ZCr (.inr ⟨_,_,rfl,rfl⟩) G
theorem ZTI{m:Int}:okD 30 (Eu b m xs)=ux:=by
 unfold Eu;split
 .rfl
 .split <;> rfl
section
variable{s0:Option D}{H S1 S2 A:D}{F1 F2:List D}{M:Nat}{b:Bool}{G:DH}
theorem years56(a:∀G,Bk A (.int 2) G=.ok (.str (snT b)) G){Y:Bool->D}(c:Gi [H,S1,.fl F1,.int M] G=.ok (Y ux) G)(d:Gi [H,S2,.fl F2,.int M] G=.ok (Y uv) G):
  Vx [s0,uz H,zI M,uz S1,zF F1,uz S2,zF F2,uz A,x,s9,s10,s11,s12] G=M7 [s0,uz H,zI M,uz S1,zF F1,uz S2,zF F2,uz A,uz (Y b),s9,s10,s11,s12] G:=by
 unfold Vx ZEC
 cases b<;>simp[c,d,a,ZNv]
theorem never56(a:Pg [H,S1,S2,.fl F1,.fl F2,A,.int M] G=.ok (.int M) G):
  M7 [s0,uz H,zI M,uz S1,zF F1,uz S2,zF F2,uz A,uz .non,s9,s10,s11,s12] G=.rt (.bl ux) G:=by
 unfold M7;simp[a,tyD]
theorem again56{R:D}(j:∃t r,F1=.tup t::r)(n:∃t r,F2=.tup t::r)(f:y<=1000)(s:F1.length*y<=1000000)(h:F2.length*y<=1000000)(g:∀m,bels m F1=ux)(e:∀m,bels m F2=ux)(i:∀m,bels m (zZ y F1).flatten=ux)(k:∀m,bels m (zZ y F2).flatten=ux)(w:F1.length<=1000000)(o:F2.length<=1000000)
  (l:Qy [H,S1,S2,.int 0,.fl (zZ y F1).flatten,.fl (zZ y F2).flatten,A] G=.ok R G) (le:Gq [H,S1,S2,.fl F1,.fl F2,A,.int M] G=.ok R G) (d:Gq [H,S1,S2,.fl F1,.fl F2,A,.int 100] G=.ok R G)
  (v:M3 [R] G=.ok (.bl ux) G) (a:okD 30 R=ux) (c:okD 30 (.fl [.fl F1,.fl F2])=ux) {s9 s10 s11 s12:Option D}:
  M7 [s0,uz H,zI M,uz S1,zF F1,uz S2,zF F2,uz A,zI y,s9,s10,s11,s12] G=.rt (.bl ux) G:=by
 have p:Ei (.fl F1) (.int (y:Int)) G=_:=ZJi j s f;have q:Ei (.fl F2) (.int (y:Int)) G=_:=ZJi n h f;have u:freeze G (.ok (.ref G.length) (G++[.lst [.fl F1,.fl F2]]))=.ok (.fl [.fl F1,.fl F2]) G:=Cz (by simp[g,e]);generalize(zZ y F1).flatten=x at*;generalize(zZ y F2).flatten=z at*;unfold M7 ZIN ZEu ZFc ZKE ZGr;simp[Hb,p,q,Cz (i _),Cz (k _),l,w,o,Cz (g _),Cz (e _),Ae,u,le,ZDK c,v,ZDK a,dfx,d,ZSK a]
end
theorem ZVN(hl:ns.length<=63):∃G,Ja [nD ns] []=.ok (.bl ux) G:=by
 obtain⟨f,I⟩:=cells hl;obtain⟨u,hu1,cu⟩:=ZQN I;have B:0<u:=by lia
 obtain⟨yr,hyr,cy⟩:=ZSr I;obtain⟨h,hT,ch⟩:=ZSt I ⟨by lia,by lia⟩ cy B cu;have g:=hT.good;have hn:=g.len;have hy:=hT.ey;have h3:∀G,Az [nD ns,.int 3] G=.ok (.int (f 3)) G:=I 3 (by lia);obtain⟨M,hM,eM⟩:∃M:Nat,M<=9/\f 3%10=M:=⟨(f 3%10).toNat,by lia,by lia⟩;obtain⟨t,ht,et⟩:∃t:Nat,t<=4/\h.yr=t:=⟨h.yr.toNat,by lia,by lia⟩;have ht1:6+14*h.n+t*h.n<=1000:=by have hm:=j9 ht hn;lia
 have cs:=ZOt I B cu g;have cf:=ZPq I B cu g ht1 (by lia) [];have W:∀k b r q,k<h.n->(h.pl k).kd=.basin b r q->lvS h f u k<=b:=λk b r q hk e=>(ZKw g hk).2.1 b r q e
 have ca:=ZUq I B cu g (co:=coS h f u) W (fl:=flS h.n f u) (t:=t) (by lia) [];obtain⟨o,ho,cq⟩:=ZSs I B cu g hT.one;have Q:∀k j,k<h.n->j<5->0<=coS h f u k j:=λk j _ _=>ZQu B k j
 have s2:∀k j,k<h.n->j<5->0<=coM h f u (coS h f u) k j:=λk j hk hj=>Int.le_trans (Q k j hk hj) (ZHC B k j)
 have u1:(leN h.n (lvS h f u) (lvM h f u (lvS h f u))&&leR 5 h.n (coS h f u) (coM h f u (coS h f u)))=ux:=by
  rw[ZDP λk hk=>ZQQ W hk,ZEW λi T k hk=>ZHC B i k]
  rfl
 have u2:Le56 h.n ((zX t).map (flS h.n f u)) ((zX t).map (flM h f u (flS h.n f u))):=⟨by simp,λi T k hk=>by
  have T:i<t:=by simpa using T
  rw[ZFh T,ZFh T];exact ZIW B i k⟩
 have Z:∀x∈(zX t).map (flS h.n f u),∀k,k<h.n->0<=x k:=λx hm k _=>by obtain⟨i,_,rfl⟩:=zA.mp hm;exact ZGp B i k
 have f2:∀x∈(zX t).map (flM h f u (flS h.n f u)),∀k,k<h.n->0<=x k:=λx hm k hk=>by obtain⟨i,_,rfl⟩:=zA.mp hm;exact Int.le_trans (ZGp B i k) (ZIW B i k)
 have U:((zX t).map (flS h.n f u)).length=t:=by simp
 have X:((zX t).map (flM h f u (flS h.n f u))).length=t:=by simp
 have F:∀G,Bk h.enc (.int 0) G=.ok (.int (t:Int)) G:=λG=>by rw[<-et];exact Rp
 generalize lvM h f u (lvS h f u)=d at*;generalize coM h f u (coS h f u)=v at*;generalize(zX t).map (flM h f u (flS h.n f u))=z at*;generalize(zX t).map (flS h.n f u)=l at*;generalize lvS h f u=E at*;generalize coS h f u=C at*;have fz:freeze ([]:DH) (.ok (.ref 0) [.lst (Af h.n l)])=.ok (.fl (Af h.n l)) []:=Cz Nh;have td:tidy ([]:DH) (.ok (.bl ux) [])=.ok (.bl ux) []:=Ba rfl
 refine⟨[],?_⟩;cases o with
 |none=>
  have fq:freeze ([]:DH) (.ok .non [])=.ok .non []:=Gk rfl;generalize Af h.n l=F1 at*;generalize Af h.n z=F2 at*;generalize stD h.n E C=S1 at*;generalize stD h.n d v=S2 at*;generalize h.enc=H at*;have qn:Hb .non=ux:=rfl;unfold Ja ZC9 ZA2 ZB4 ZCJ Wa X8 ZCC;rw[Aj];simp[ch,h3,eM,cs,F,cf,fz,ca,cq,fq,Ng,td,qn]
 | some q=>
  obtain⟨c,p,b,m⟩:=q;obtain⟨h1,h2,hp,hk⟩:=ho c p b m rfl;have fq:freeze ([]:DH) (.ok (By c p b m) [])=.ok (By c p b m) []:=Gk ZH1;have qi:Hb (By c p b m)=uv:=rfl;have cq':∀G,P0 [nD ns,h.enc] G=.ok (By c p b m) G:=cq;have tl:Vx [zN ns,uz h.enc,zI M,uz (stD h.n E C),zF (Af h.n l),uz (stD h.n d v),zF (Af h.n z),uz (By c p b m),uj,uj,uj,uj,uj] []=.rt (.bl ux) []:=by
   have O:∀G,Ax [.fl (Af h.n l)] G=.ok (.int (t:Int)) G:=λG=>by simp[Jr,U]
   have P:∀G,Ax [.fl (Af h.n z)] G=.ok (.int (t:Int)) G:=λG=>by simp[Jr,X]
   have Y1:=yr55 g (s:=(E,C)) (by lia) Q Z;have Y2:=yr55 g (s:=(d,v)) (by lia) s2 f2;have lT:∃Y:D,Gi [h.enc,stD h.n E C,.fl (Af h.n l),.int M] []=.ok Y []:=by
    rcases Uy M with a|⟨y,_,S,N,K⟩
    .exact⟨_,W4 Y1 F O (by lia) a []⟩
    .exact⟨_,Y5 Y1 F O (by lia) S K N []⟩
   have lF:∃Y:D,Gi [h.enc,stD h.n d v,.fl (Af h.n z),.int M] []=.ok Y []:=by
    rcases Uy M with a|⟨y,_,S,N,K⟩
    .exact⟨_,W4 Y2 F P (by lia) a []⟩
    .exact⟨_,Y5 Y2 F P (by lia) S K N []⟩
   have lF':(if b=ux then l else z).length=t:=by cases b;exact X;exact U
   have YF:Yr h.enc (.fl (Af h.n (if b=ux then l else z))) (SW55 h (if b=ux then l else z) (if b=ux then E else d,if b=ux then C else v)) λw=>(h.Bl (if b=ux then l else z) (it55 h (if b=ux then l else z) (if b=ux then E else d,if b=ux then C else v) w) 0).map (pgD h.n):=by cases b;exact Y2;exact Y1
   have flF:∀G,Ax [.fl (Af h.n (if b=ux then l else z))] G=.ok (.int (t:Int)) G:=by cases b;exact P;exact O
   obtain⟨Yt,eT⟩:=lT;obtain⟨Yf,eF⟩:=lF;have eb:Gi [h.enc,SW55 h (if b=ux then l else z) (if b=ux then E else d,if b=ux then C else v) 0,.fl (Af h.n (if b=ux then l else z)),.int M] []=.ok (if b=ux then Yt else Yf) []:=by cases b;exact eF;exact eT
   rw[years56 (λG=>rfl) (Y:=λb=>if b=ux then Yt else Yf) eT eF];have J:((l.length:Nat):Int)=h.yr:=by lia
   rcases Uy M with a|⟨y,y1,S,N,K⟩
   .have e1:=(R.ok.inj ((W4 YF F flF (by lia) a []).symm.trans eb)).1;obtain⟨L,eL⟩:=ZSS g (by lia) (by lia) Q s2 Z f2 J hp h1 h2 hk u1 u2 (by lia) a [];rw[<-e1];exact never56 (lm_X (ds:=[]) eL)
   .have rl:∀r:List (Nat->Int),r.length=t->(zZ y r).flatten.length<=1000:=λr e=>by rw[len_rep,e];exact z0 (j9 (show y<=9 by lia) ht) (by lia)
    have rf:∀r:List (Nat->Int),(∀x∈r,∀k,k<h.n->0<=x k)->∀x∈(zZ y r).flatten,∀k,k<h.n->0<=x k:=λr e x hx=>by obtain⟨r',hr,hx⟩:=List.mem_flatten.mp hx;rw[(List.mem_replicate.mp hr).2]at hx;exact e x hx
    have LK:=ZMR g (a:=0) (rl l U) (rl z X) hp h1 h2 hk (b:=b) (m:=m) u1 (W8 (ZDe u2 y)) Q s2 (rf l Z) (rf z f2) []
    have er:(if b=ux then(zZ y l).flatten else(zZ y z).flatten)=(zZ y (if b=ux then l else z)).flatten:=by cases b<;>rfl
    rw[er,ZDl (by lia),<-Rw,<-Rw]at LK;rw[<-((R.ok.inj ((Y5 YF F flF (by lia) S K N []).symm.trans eb)).1)];have kk:t*y<=1000000:=z0 (j9 ht (show y<=9 by lia)) (by lia);exact again56 (ZFE (by lia)) (ZFE (by lia)) (by lia) (by rw[Jr,U];exact kk) (by rw[Jr,X];exact kk) (λ_=>Nh) (λ_=>Nh) (λ_=>by rw[Rw];exact Nh) (λ_=>by rw[Rw];exact Nh) (by rw[Jr,U];lia) (by rw[Jr,X];lia) LK (ZGl g (by lia) (by lia) Q s2 Z f2 J hp h1 h2 hk (m:=m) u1 u2 (M:=M) (by lia) S N K []) (ZGl g (by lia) (by lia) Q s2 Z f2 J hp h1 h2 hk (m:=m) u1 u2 (M:=100) (by lia) (by lia) N K []) (ZMG []) ZTI ZNm
  generalize Af h.n l=F1 at*;generalize Af h.n z=F2 at*;generalize stD h.n E C=S1 at*;generalize stD h.n d v=S2 at*;generalize By c p b m=A at*;generalize h.enc=H at*;unfold Ja ZC9 ZA2 ZB4 ZCJ Wa X8 ZCC;rw[Aj];simp[ch,h3,eM,cs,F,cf,fz,ca,cq',fq,qi,tl,td]
theorem holds:Holds:=λc a=>ZVN a
end _W
set_option maxRecDepth 100000
namespace _W
open PySem PySem.W _L _D
theorem ZHb:∀w,(openEnds vV pw w 100000).map (λs=>(openSeen vw ["KINDS_ASKED"] (xP pw.main.body) (XtOf rw_ vw) ux s,Qp asks s.heap))=uz (openGood vw ["KINDS_ASKED"],Pa asks):=ZMp (by kernel_rfl) (λs=>rfl) ZPG
theorem walked:WalkO vw ["KINDS_ASKED"] (XL vw []) (Stays rw_.prog 100000) rw_.row.toRowW (dOf Gb) [] λf vs=>jb f vs:=
 walk (l:=rw_) (K:=λw=>O4 (Ig pw 100000 w)) rfl hdf holds (λw h Y=>Y.in) λw mg fa h KX G hmg=>all_mk KX G (show mg "law"=_ from hmg) (ZDv (ZMC ZHb w))
end _W
open PySem PySem.W PyProof.Rows _D
theorem PySem.Challenge.cw_sluiceway_k56_asks_for_ever_holds : PySem.Challenge.rw_sluiceway_k56_asks_for_ever.Holds := by
 refine holds_top (l:=_W.rw_) (q:=_W.vw) (loose:=["KINDS_ASKED"]) (N:=100000) (see:=Qp _W.asks) (val:=Pa _W.asks) (d:=dOf _W.Gb) ?_ ?_ ?_ ?_ ?_ ?_ ?_ ?_ ?_ ?_
 .exact _W.well
 .exact _W.ZHb
 .exact _W.hdef
 .exact _W.hp
 .exact _W.hk
 .rfl
 .exact _W.hok
 .exact _W.hbare
 .exact _W.hw
 .exact _W.walked
