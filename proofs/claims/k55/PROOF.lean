import PyProof.Rows.All
import Wide.All
import OpenK.AllK
import Wide.FinOn
import Lean
import PyProof.EqAt
import PyProof.EqKinds
import PyProof.TupleCall
import PyProof.NeKinds
import PyProof.IsInstanceH
import PyProof.SumWalkG
import PyProof.ConsumeWalk
import PyProof.IsiNone
import PyProof.WalksMore
import PyProof.PlainList
import PyProof.CompFree
import KE.KIntText
import PyProof.DictTable
import PyProof.ExcInit
import PyProof.ExcClass2
import PyProof.ExcBaseAll.ValueError
import OpenK.KOwn
import PyProof.RulesAs
import PyProof.NsDelKeeps
import OpenK.KMore
import PyProof.TupleOps
import PyProof.FactsAll.tuple_2
import PyProof.Rows.SetFrom
import PyProof.Rows.SortWalk
import PySem.Challenge.RW_sluiceway_k55_years_that_come_again
set_option compiler.extract_closed false
set_option bootstrap.genMatcherCode false
set_option genSizeOf false
set_option Elab.async false
set_option linter.all false
set_option maxRecDepth 100000
open Option renaming some→vD,none→vE
open Bool renaming true→vF,false→vG
open List renaming getElem?_eq_getElem→zZ,mem_cons_of_mem→zJ,replicate→zX,range→zV,mem_cons_self→zW,size_toArray→zK,mem_cons→zx,getElem?_map→zw,getElem?_eq_none→zA,mem_map→zD,map_cons→zE,getElem?_eq_some_iff→zG,getD_eq_getElem?_getD→zH,getElem?_append_right→zL,getElem?_range→zN,drop_eq_getElem_cons→zO,mem_append_right→zP,drop_of_length_le→zU,getElem?_append_left→qZ,length_append→qJ,replicate_succ→qX,length_cons→qV,length_map→qW,filterMap_cons→qK,filterMap_map→qq,append_nil→qj,getElem_mem→qx,set→qw,getElem_of_mem→qy,mem_range→q8,filterMap_eq_map'→qB,all_eq_true→qC,map_congr_left→qE,flatten_cons→qH,append_assoc→qI,getElem?_set_ne→qL,lookup→qN,getElem?_set→qP,nodup_cons→qS,range_succ_eq_map→qT,getElem?_eq_none_iff→qU,ext_getElem→jZ,mem_singleton→jJ,eq_nil_of_length_eq_zero→jX,getElem?_replicate→jW,getElem?_set_self→jK,lookup_cons→jY,map_map→jx,pairwise_iff_getElem→jv,getElem?_take_of_lt→jk,getElem?_cons_succ→jy,length_set→j0,length_nil→j2,length_singleton→j3,ext_getElem?→j4,idxOf_lt_length_of_mem→j5,length_take→j6,all_cons→j7,getLast?_eq_getElem?→j8,mem_append→j9,range_succ→jB,mem_filterMap→jC,getElem?_cons_zero→jE,length_replicate→jH,length_drop→jI,set_append_right→jL,take_length→jM,zipIdx_cons→jN,any_eq_true→jP,mem_append_left→jS,mem_of_getElem?→jT,of_mem_zip→jU,foldl_cons→xQ,nil_append→xZ,forIn_cons→xJ,map_nil→xV,drop_zero→xK
open Nat renaming le_refl→zY,lt_of_lt_of_le→zq,le_trans→z5,ne_of_lt→zC,lt_irrefl→qQ,lt_succ_self→qY,le_of_ble_eq_true→qF,lt_succ_of_lt→qR,ne_of_gt→jV,le_succ→jz,zero_le→jG,le_add_right→jO,lt_or_ge→xW
open Int renaming le_refl→qO,emod_nonneg→jA,emod_lt_of_pos→jD,mul_nonneg→jF
open Option renaming map_eq_some_iff→zM,isSome_iff_exists→jw,map_some→xX
open Bool renaming false_ne_true→zk,and_eq_true→z0,and_eq_true_iff→qM,false_eq_true→jq,or_eq_true→j1
open Array renaming getElem?_eq_some_iff→qz,length_toList→qD,getElem?_toList→jQ
open PySem.Heap renaming get?_push_of_some→zQ,lt_size→zj,get?_push_size→zy,get?_update_self→qk,size_push→q9,get?_update_other→qA,SameBut→qG,get?_none_of_le→jR
open PySem renaming Addr→xY,Around→xq,Expr→xz,FuncData→xj,NameKind→xk,Program→xy,Scope→x0,Shared→xA,Stmt→xB,Value→xC,World→xD,assignEach→xE,attributeBase→xF,backTo→xG,backToKw→xH,behindInMarks→xI,binaryOp→xL,bootBuiltins→xM,checkBuiltinCall→xN,codeAny_mono→xO,compareOp→xP,importedModules→xR,keywordEach→xS,letOwnedTupleGo→xT,mainGlobals→xU,model→vQ,rawInt→vZ,sizeLine_eq→vJ,sliceBounds→vX,starEach→vV,treeTable→vW,wpAny→vK,wpAny_Call_Name_kw→vY,wpAny_bind→vq,wpAny_callSpecial?_slot→vz,wpAny_call_entry→vj,wpAny_field→vx,wpAny_holding→vv,wpAny_mono→vk,wpAny_newObj_type→v4,wpAny_passesOwn→v5,wpAny_pure→v6,wpAny_setField_rec→v7,wpAny_truthy_bool→v8
open PySem.W renaming Frag→v9,boot_heap→vA,kas_rev→vB
set_option maxHeartbeats 0
noncomputable section
namespace _L
open PySem PySem.Spec PyProof.Rows
noncomputable def Eg(s:xB):Arguments:=match s with
 |.FunctionDef _ a _ _ _ _ _ _ _ _=>a
 |_=>{posonlyargs:=[],args:=[],vararg:=vE,kwonlyargs:=[],kw_defaults:=[],kwarg:=vE,defaults:=[]}
noncomputable def Cp(s:xB):List xB:=match s with
 |.FunctionDef _ _ b _ _ _ _ _ _ _=>b
 |_=>[]
noncomputable def Ag(s:xB):x0:=match s with
 |.FunctionDef _ _ _ _ _ _ sc _ _ _=>sc
 |_=>{kind:=.function,names:=[],isGenerator:=vG,isCoroutine:=vG}
end _L
namespace _D
open PySem PySem.W _L
variable{h:Heap}{C:xY}{m x q:Str}{st:xB}{mg:Str->Option xC}
noncomputable def Lg:List Obj->Nat->v9
 |[],_=>[]
 |o::r,n=>match o.cls,o.data with
  |.none,.fields _=>Lg r (n+1)
  |_,.freed=>Lg r (n+1)
  |_,_=>(n,o)::Lg r (n+1)
def Oa(h:Heap):v9:=Lg h.objs.toList 0
noncomputable def dOf(s:xB):DefRec:=match s with
 |Stmt.FunctionDef n a b _ _ _ s _ _ p=>⟨n,a,b,s,p⟩
 |_=>⟨Str.empty,⟨[],[],vE,[],[],vE,[]⟩,[],{kind:=.module,names:=[],isGenerator:=vG,isCoroutine:=vG,more:=[]},⟨0,0,0,0⟩⟩
noncomputable abbrev XtOf(l:OpenLaw)(q:xy)(s:xA):Bool:=xlAt q [] s&&recOk l.row.toRowW.records s
noncomputable def Ab(K:v9)(n:Str):xY:=match nsIn K xU n with
 |some (vD (.ref f))=>f
 |_=>0
noncomputable def gOk(K:v9)(n:Str):Bool:=match nsIn K xU n with
 |some (vD (.ref _))=>vF
 |_=>vG
noncomputable def Dc(K:v9)(C:xY)(m:Str):xY:=match findIn K (.ref C) m with
 |some (vD (.ref f))=>f
 |_=>0
noncomputable def mOk(K:v9)(C:xY)(m:Str):Bool:=match findIn K (.ref C) m with
 |some (vD (.ref f))=>isFn K (.ref f)
 |_=>vG
noncomputable def noF(K:v9)(C:xY)(m:Str):Bool:=match findIn K (.ref C) m with
 |some vE=>vF
 |_=>vG
noncomputable def zOk(K:v9)(n:Str):Bool:=match nsIn K xU n with
 |some vE=>vF
 |_=>vG
noncomputable def Sh(K:v9)(C:xY):Bool:=match findIn K (.ref C) "__setattr__" with
 |some (vD (.builtin s))=>s == "object.__setattr__"
 |_=>vG
noncomputable def iOk(K:v9)(n:Str)(v:Int):Bool:=match nsIn K xU n with
 |some (vD (.int u _))=>decide (u=v)
 |_=>vG
noncomputable def sOk(K:v9)(n:Str)(v:Str):Bool:=match nsIn K xU n with
 |some (vD (.str u _))=>decide (u=v)
 |_=>vG
noncomputable def Ft(K:v9)(f:xY):Obj:=match K.lookup f with
 |some o=>o
 |none=>⟨.none,vE,.plain,#[]⟩
def Ai(K:v9)(f:xY):xj:=match(Ft K f).data with
 |.func fd=>fd
 |_=>default
noncomputable def ZOV:xC->Bool
 |.none=>vF
 |_=>vG
noncomputable def ZOl:FuncBody->Option (List xB)
 |.stmts b=>vD b
 |_=>vE
def Ug(K:v9)(x q:Str)(f:xY):Bool:=match K.lookup f with
 |some ⟨_,_,.func fd,_⟩=>decide (fd.name=x)&&decide (fd.qualname=q)&&(fd.globals==xU&&fd.builtins==builtinsNs&&fd.closure.isEmpty&&ZOV fd.defaults)&&(codeIn K fd.code q&&keepIn K (.ref f))
 |_=>vG
noncomputable abbrev DefTxt:=Arguments×Option (List xB)×x0
def Kc(K:v9)(f:xY):DefTxt:=((Ai K f).params,ZOl (Ai K f).body,(Ai K f).scope)
def Li(st:xB):DefTxt:=(Eg st,vD (Cp st),Ag st)
noncomputable def dfl(K:v9)(d:xC)(v:Int):Bool:=match d with
 | .ref T=>match K.lookup T with
  | some o=>(match o.data with
   |.seq a _=>(match a.toList with
    |[.int i _]=>decide (i=v)
    |_=>vG)
   |_=>vG)
  |none=>vG
 |_=>vG
def ZBQ(K:v9)(x q:Str)(f:xY)(v:Int):Bool:=match K.lookup f with
 |some ⟨_,_,.func fd,_⟩=>decide (fd.name=x)&&decide (fd.qualname=q)&&(fd.globals==xU&&fd.builtins==builtinsNs&&fd.closure.isEmpty&&dfl K fd.defaults v)&&(codeIn K fd.code q&&keepIn K (.ref f))
 |_=>vG
noncomputable def strsOf:List xC->Option (List Str)
 |[]=>vD []
 |.str s _::r=>(strsOf r).map (s::·)
 |_::_=>vE
def Z7(K:v9)(n:Str)(vs:List Str):Bool:=match nsIn K xU n with
 | some (vD (.ref p))=>(match K.lookup p with
   |some ⟨.type t,_,.seq its _,_⟩=>t == "tuple"&&decide (strsOf its.toList=vD vs)&&Nat.ble its.toList.length 1000
   |_=>vG)
 |_=>vG
def ZBd(K:v9)(n:Str)(kvs:List (Str×Str)):Bool:=match nsIn K xU n with
 | some (vD (.ref p))=>(match K.lookup p with
   |some ⟨.type t,_,.dict es _,_⟩=>t == "dict" && !(p==sysModules)&&decide (strsOf (es.toList.map (·.key))=vD (kvs.map (·.1)))&&decide (strsOf (es.toList.map (·.val))=vD (kvs.map (·.2)))
   |_=>vG)
 |_=>vG
inductive Ask where
 |fn (n:Str) (st:xB)
 |mt (c m q:Str) (st:xB)
 |cl (c:Str)
 |no (c x:Str)
 |z (n:Str)
 |gi (n:Str) (v:Int)
 |gs (n v:Str)
 |gt (n:Str) (vs:List Str)
 |gd (n:Str) (kvs:List (Str×Str))
 |ck (φ:v9->Bool)
 |fd (n:Str) (st:xB) (v:Int)
def Ask.chk(K:v9):Ask->Bool
 |.fn n _=>gOk K n&&Ug K n n (Ab K n)
 |.mt c m q _=>mOk K (Ab K c) m&&Ug K m q (Dc K (Ab K c) m)
 |.cl c=>gOk K c&&(plainGet K (Ab K c) Str.empty&&hasDictIn K (Ab K c)&&plainOver K (Ab K c))&&(Sh K (Ab K c)&&makesIn K (Ab K c)&&keepIn K (.ref (Ab K c)))
 |.no c x=>noF K (Ab K c) x
 |.z n=>zOk K n
 |.gi n v=>iOk K n v
 |.gs n v=>sOk K n v
 |.gt n vs=>Z7 K n vs
 |.gd n kvs=>ZBd K n kvs
 |.ck φ=>φ K
 |.fd n _ v=>gOk K n&&ZBQ K n n (Ab K n) v
def Ask.txt(K:v9):Ask->Option DefTxt
 |.fn n _=>vD (Kc K (Ab K n))
 |.mt c m _ _=>vD (Kc K (Dc K (Ab K c) m))
 |.fd n _ _=>vD (Kc K (Ab K n))
 |_=>vE
def Ask.want:Ask->Option DefTxt
 |.fn _ st=>vD (Li st)
 |.mt _ _ _ st=>vD (Li st)
 |.fd _ st _=>vD (Li st)
 |_=>vE
def W0(l:List Ask)(h:Heap):Bool×List (Option DefTxt):=(l.all (Ask.chk (Oa h)),l.map (Ask.txt (Oa h)))
noncomputable abbrev Xl(l:List Ask):Bool×List (Option DefTxt):=(vF,l.map Ask.want)
noncomputable def Qn(p:xy)(w:xD)(n₀:Nat)(ann:Option xC):Nat->SharedT->Thread->Option SharedT
 |0,_,_=>vE
 | n+1,s,t=>match through t with
  |true=>vD s
  | false=>match PySem.W.Fast.tw6613529449190102663 n₀ ann t with
   |false=>vE
   |true=>match PySem.W.Fast.tw10156331382660048174 (PySem.W.Fast.tw11892475500146522536 PySem.W.Fast.tw14364793385576792824) p w s t with
    |some (s',t')=>Qn p w n₀ ann n s' t'
    |none=>vE
noncomputable def ZH8:List Obj->Nat->BT->BT
 |[],_,t=>t
 |o::r,n,t=>ZH8 r (n+1) (t.ins n o)
def ZEy(w:xD)(os:OsState):SharedT:=⟨ZH8 (vA w.params).objs.toList 0 .nil,(vA w.params).objs.size,(vA w.params).life,Array.mk [],boot_drawn,boot_toks,os⟩
def ZBA(p:xy)(w:xD)(os:OsState):Option SharedT:=Qn p w (vA w.params).objs.size (PySem.W.Fast.tw8920871248978507458 (vA w.params) xU "__annotations__") 100000 (ZEy w os) (topStub p)
noncomputable def Zg(p:xy)(w:xD)(s:xA):Bool:=staticsOk (PySem.W.Fast.tw5923862056798008813 p.main.body) (vA w.params) s.heap&&namesBound p s.heap&&gensDone s&&laidKept (vA w.params) s.heap
theorem ZNo(h:PySem.W.Fast.tw9446332074065402090 l=vF):l.wellSaid=vF:=by rw[PySem.W.Fast.te9446332074065402090];exact h
noncomputable abbrev vmro:List xC:=[.type "ValueError",.type "Exception",.type "BaseException",.type "object"]
def Et(K:PySem.W.Frag)(C:xY):Bool:=match K.lookup C with
 |some ⟨.type "type",_,.cls cd,sl⟩=>(match cd.mro,sl.toList with
  |.ref C'::bm,[_,_,_,_,vD (.builtin n),_]=>C'==C&&n == "ValueError.__new__" && !cd.hasDel&&cd.hasDict&&PySem.W.tailIn K vmro bm&&PySem.W.nsOkIn K cd.ns
  |_,_=>vG)
 |_=>vG
noncomputable def Kf(K:PySem.W.Frag)(C f:xY):Bool:=match K.lookup C with
 |some ⟨_,_,.cls cd,_⟩=>PySem.W.nsIn K cd.ns "__init__"==vD (vD (.ref f))
 |_=>vG
noncomputable def tyN:xC->String
 |.type n=>n
 |_=>""
noncomputable def isRf:xC->Bool
 |.ref _=>vF
 |_=>vG
def O5:List xC->Bool
 |[]=>vG
 |a::r=>(isRf a&&O5 r)||decide ((a::r).map tyN=["ValueError","Exception","BaseException","object"])
def R3(K:PySem.W.Frag)(C:xY):Bool:=(PySem.W.clsIn K C).any λcd=>O5 cd.mro
noncomputable def isB(r:Option (Option xC))(n:String):Bool:=match r with
 |some (vD (.builtin m))=>m==n
 |_=>vG
noncomputable def Bt(r:Option Bool)(b:Bool):Bool:=match r with
 |some c=>c==b
 |_=>vG
noncomputable def N7{α:Type}(r:Option (Option α)):Bool:=match r with
 |some vE=>vF
 |_=>vG
noncomputable def ZBg(K:v9)(a:xY):Bool:=match K.lookup a with
 |some ⟨.type t,_,_,_⟩=>t == "function"
 |_=>vG
def V6(c f:Str)(K:v9):Bool:=gOk K c&&keepIn K (.ref (Ab K c))&&(Et K (Ab K c)&&Sh K (Ab K c)&&R3 K (Ab K c)&&N7 (takerIn K (Ab K c) f)&&hasDictIn K (Ab K c))&&Kf K (Ab K c) (Dc K (Ab K c) "__init__")&&ZBg K (Dc K (Ab K c) "__init__") &&
 (isB (findIn K (.ref (Ab K c)) "__getattribute__") "BaseException.__getattribute__"&&N7 (findIn K (.ref (Ab K c)) "__getattr__")&&Bt (subIn K (.ref (Ab K c)) (.type "BaseException")) vF&&isB (findIn K (.ref (Ab K c)) "__class__") "object.__class__" &&
  isB (specialIn K (.builtin "object.__class__") "__get__") "getset_descriptor.__get__"&&Bt (takesIn K (.builtin "object.__class__")) vF&&Bt (mroIn K (Ab K c) (.type "object")) vF&&Bt (kitCls K (.ref (Ab K c)) (.ref (Ab K c))) vF)&&noF K (Ab K c) f
noncomputable def Wu(r:Option CFound)(n:String):Bool:=match r with
 |some (.val (.builtin m))=>m==n
 |_=>vG
def ZAr(x:Str)(K:v9):Bool:=gOk K x&&isB (specialIn K (.ref (Ab K x)) "__getattribute__") "type.__getattribute__"&&readsIn K (Ab K x) (.type "type")&&Wu (findCls K (.ref (Ab K x)) (.type "type") "__init__") "ValueError.__init__"
def Eo(K:PySem.W.Frag)(C W:xY)(b:Bool):Bool:=Et K C&&Et K W&&match K.lookup C with
 |some ⟨_,_,.cls cd,_⟩=>cd.mro.contains (.ref W)==b
 |_=>vG
def Ul(K:v9)(C:xY):Bool:=match K.lookup C with
 |some ⟨_,_,.cls cd,_⟩=>N7 (nsIn K cd.ns "__init__")
 |_=>vG
def et0Ok(c:Str)(K:v9):Bool:=gOk K c&&keepIn K (.ref (Ab K c))&&(Et K (Ab K c)&&hasDictIn K (Ab K c))&&Ul K (Ab K c) &&
 (isB (findIn K (.ref (Ab K c)) "__getattribute__") "BaseException.__getattribute__"&&N7 (findIn K (.ref (Ab K c)) "__getattr__")&&Bt (subIn K (.ref (Ab K c)) (.type "BaseException")) vF&&isB (findIn K (.ref (Ab K c)) "__class__") "object.__class__" &&
  isB (specialIn K (.builtin "object.__class__") "__get__") "getset_descriptor.__get__"&&Bt (takesIn K (.builtin "object.__class__")) vF&&Bt (mroIn K (Ab K c) (.type "object")) vF&&Bt (kitCls K (.ref (Ab K c)) (.ref (Ab K c))) vF)
end _D
namespace _W
open PySem PySem.W _L _D
noncomputable def top(i:Nat):xB:=PySem.Challenge.pw_sluiceway_k55_years_that_come_again.main.body.getD i (.Pass ⟨0,0,0,0⟩)
noncomputable def inC(s:xB)(j:Nat):xB:=match s with
 |.ClassDef _ _ _ body _ _ _ _ _ _ _=>body.getD j (.Pass ⟨0,0,0,0⟩)
 |_=>.Pass ⟨0,0,0,0⟩
noncomputable abbrev Xp:=inC (top 12) 0
noncomputable abbrev ZAf:=top 58
noncomputable abbrev Wz:=top 57
noncomputable abbrev V7:=top 59
noncomputable abbrev ZAc:=top 62
noncomputable abbrev W7:=top 61
noncomputable abbrev Wf:=top 70
noncomputable abbrev Wr:=top 66
noncomputable abbrev Wg:=top 64
noncomputable abbrev Yi:=top 63
noncomputable abbrev ZBi:=top 65
noncomputable abbrev ZA2:=top 67
noncomputable abbrev V9:=top 60
noncomputable abbrev Zy:=top 68
noncomputable abbrev ZBc:=top 72
noncomputable abbrev Vp:=top 54
noncomputable abbrev ZAv:=inC (top 48) 0
noncomputable abbrev Yt:=inC (top 48) 5
noncomputable abbrev Vw:=top 30
noncomputable abbrev Vc:=top 31
noncomputable abbrev Zr:=inC (top 48) 4
noncomputable abbrev ZAa:=top 43
noncomputable abbrev Wq:=top 42
noncomputable abbrev Z4:=inC (top 48) 2
noncomputable abbrev Zd:=top 38
noncomputable abbrev Yk:=top 50
noncomputable abbrev Ys:=top 51
noncomputable abbrev ZBP:=top 39
noncomputable abbrev Vr:=top 40
noncomputable abbrev ZBI:=top 37
noncomputable abbrev Zq:=inC (top 48) 3
noncomputable abbrev Z9:=top 49
noncomputable abbrev ZA1:=inC (top 48) 1
noncomputable abbrev W8:=inC (top 48) 6
noncomputable abbrev W2:=top 46
noncomputable abbrev Y6:=top 47
noncomputable abbrev Wt:=top 55
noncomputable abbrev ZAd:=top 53
noncomputable abbrev W9:=top 76
noncomputable abbrev Ym:=top 69
noncomputable abbrev Zc:=top 74
noncomputable abbrev Yc:=top 75
noncomputable abbrev Y0:=top 73
noncomputable abbrev Gh:=top 77
def asks:List Ask:=[.cl "Course",.fn "_law_off" ZAf,.fn "_law_tape" Wz,.fn "_law_cell_at" V7,.fn "_law_amount" ZAc,.fn "_law_unit" W7,.fn "_law_floods" Wf,.fn "_law_pumped" Wr,.fn "_law_steps" Wg,.fn "_law_year" Yi,.fn "_law_rule" ZBi,.fn "_law_basin" ZA2,.fn "_law_name" V9,.fn "_law_house" Zy,.fn "_law_other" ZBc,.fn "check_year" Vp,.mt "Course" "__init__" "Course.__init__" ZAv,.mt "Course" "send" "Course.send" Yt,.fn "number_of" Vw,.fn "down_of" Vc,.mt "Course" "send_down" "Course.send_down" Zr,.fn "opened" ZAa,.fn "stairs_at" Wq,.mt "Course" "go_basin" "Course.go_basin" Z4,.fn "passed" Zd,.fn "down_in_reach" Yk,.fn "reach_rows" Ys,.fn "served" ZBP,.fn "way_down" Vr,.fn "shares" ZBI,.mt "Course" "go_reach" "Course.go_reach" Zq,.fn "lasts_of_reaches" Z9,.mt "Course" "go" "Course.go" ZA1,.mt "Course" "state_behind" "Course.state_behind" W8,.fn "turn" W2,.fn "run" Y6,.fn "years_until_again" Wt,.fd "ever" ZAd 100,.fn "_law_refusal" W9,.fn "_law_state" Ym,.fn "_law_plain" Zc,.fn "_law_states_like" Yc,.fn "_law_years" Y0,.fn "law" Gh,.no "Course" "came",.no "Course" "coming",.no "Course" "house",.no "Course" "levels",.no "Course" "page",.no "Course" "reaches",.no "Course" "year_turn",.z "ValueError",.z "all",.z "bool",.z "enumerate",.z "int",.z "isinstance",.z "len",.z "list",.z "max",.z "min",.z "range",.z "sorted",.z "tuple",.z "zip",.gi "BRIM" 4,.gi "DELAY" 3,.gi "DOWN" 2,.gi "KIND" 0,.gi "LIES" 5,.gi "NAME" 1,.gi "NEED" 4,.gi "PLACES" 1,.gi "PUMP" 6,.gi "PUMP_DELAY" 1,.gi "PUMP_TO" 0,.gi "RANK" 5,.gi "ROW_DOWN" 0,.gi "ROW_NEED" 2,.gi "ROW_RANK" 3,.gi "ROW_WATER" 1,.gi "RULE" 5,.gs "SEA" "sea",.gi "YEAR" 0,.mt "TooLong" "__init__" "TooLong.__init__" Xp,.ck (V6 "TooLong" "most"),.ck (et0Ok "NoBounds"),.ck (ZAr "WaterError"),.ck (λK=>gOk K "NoAsk"),.ck (λK=>gOk K "NoBounds"),.ck (λK=>gOk K "NoHouse"),.ck (λK=>gOk K "NoLevel"),.ck (λK=>gOk K "NoName"),.ck (λK=>gOk K "NoNumber"),.ck (λK=>gOk K "NoPump"),.ck (λK=>gOk K "NoRiver"),.ck (λK=>gOk K "NoRow"),.ck (λK=>gOk K "NoRule"),.ck (λK=>gOk K "NoText"),.ck (λK=>gOk K "NoWay"),.ck (λK=>gOk K "TooLong"),.ck (λK=>gOk K "WaterError"),.ck (λK=>Eo K (Ab K "NoBounds") (Ab K "NoBounds") vF),.ck (λK=>Eo K (Ab K "NoBounds") (Ab K "WaterError") vF),.ck (λK=>Eo K (Ab K "TooLong") (Ab K "NoBounds") vG),.ck (λK=>Eo K (Ab K "TooLong") (Ab K "TooLong") vF),.ck (λK=>Eo K (Ab K "TooLong") (Ab K "WaterError") vF),.ck (λK=>Bt (PySem.W.kitOne K (.ref (Ab K "NoBounds")) (.ref (Ab K "NoAsk"))) vG),.ck (λK=>Bt (PySem.W.kitOne K (.ref (Ab K "TooLong")) (.ref (Ab K "NoAsk"))) vG),.ck (λK=>Bt (PySem.W.kitOne K (.ref (Ab K "NoBounds")) (.type "ValueError")) vF),.ck (λK=>Bt (PySem.W.kitOne K (.ref (Ab K "TooLong")) (.type "ValueError")) vF),.ck (λK=>Bt (PySem.W.kitAny K (.ref (Ab K "NoBounds")) ((["TooLong","NoAsk"]:List Str).map λw=>Value.ref (Ab K w))) vG),.ck (λK=>Bt (PySem.W.kitAny K (.ref (Ab K "TooLong")) ((["TooLong","NoAsk"]:List Str).map λw=>Value.ref (Ab K w))) vF),.ck (λK=>Bt (PySem.W.kitAny K (.ref (Ab K "NoBounds")) ((["NoHouse","NoName","NoNumber","NoPump","NoRiver"]:List Str).map λw=>Value.ref (Ab K w))) vG),.ck (λK=>Bt (PySem.W.kitAny K (.ref (Ab K "TooLong")) ((["NoHouse","NoName","NoNumber","NoPump","NoRiver"]:List Str).map λw=>Value.ref (Ab K w))) vG),.ck (λK=>Bt (PySem.W.kitAny K (.ref (Ab K "NoBounds")) ((["NoLevel","NoRow","NoRule","NoText","NoWay"]:List Str).map λw=>Value.ref (Ab K w))) vG),.ck (λK=>Bt (PySem.W.kitAny K (.ref (Ab K "TooLong")) ((["NoLevel","NoRow","NoRule","NoText","NoWay"]:List Str).map λw=>Value.ref (Ab K w))) vG)]
abbrev rw_:OpenLaw:=PySem.Challenge.rw_sluiceway_k55_years_that_come_again
abbrev pw:xy:=OpenLaw.prog PySem.Challenge.rw_sluiceway_k55_years_that_come_again
def vw:xy:=view pw (zV 78)
theorem ZP5b:∀w os,(ZBA pw w os).map (λs=>PySem.W.Fast.tw4187177175401517315 vw [] (PySem.W.Fast.tw5923862056798008813 pw.main.body) (XtOf rw_ vw) vF s.abs)=vD (openGood vw []):=λw os=>by kernel_rfl
theorem ZP5a:∀w os,(ZBA pw w os).map (λs=>(Zg pw w s.abs,W0 asks s.abs.heap))=vD (vF,Xl asks):=λw os=>by kernel_rfl
theorem ZP5:∀w os,(ZBA pw w os).map (λs=>(Zg pw w s.abs,PySem.W.Fast.tw4187177175401517315 vw [] (PySem.W.Fast.tw5923862056798008813 pw.main.body) (XtOf rw_ vw) vF s.abs,W0 asks s.abs.heap))=vD (vF,openGood vw [],Xl asks):=λw os=>by
 have h1:=ZP5b w os
 have h2:=ZP5a w os
 revert h1 h2
 generalize ZBA pw w os=o
 intro h1 h2
 cases o with
 |none=>cases h2
 |some s=>exact congrArg some (Prod.ext (Prod.mk.inj (Option.some.inj h2)).1 (Prod.ext (Option.some.inj h1) (Prod.mk.inj (Option.some.inj h2)).2))
theorem well:rw_.wellSaid=vF:=ZNo (by kernel_rfl)
theorem hdef:defOf vw rw_.row.name=vD (dOf Gh,[]):=by kernel_rfl
theorem hp:rw_.row.prog.theDef rw_.row.name=vD ((dOf Gh).params,(dOf Gh).body,(dOf Gh).scope):=by kernel_rfl
theorem hk:kwWritten? (dOf Gh).params.kwonlyargs (dOf Gh).params.kw_defaults=vD []:=by kernel_rfl
theorem hok:(chainsOk vw&&opensWell rw_.row.prog&&(frees rw_.row.toRowW&&rw_.row.within.isEmpty))=vF:=by kernel_rfl
theorem hdf:(dOf Gh).params.defaults=[]:=by kernel_rfl
theorem hbare:rw_.row.prog.bare:=⟨rfl,rfl,rfl,rfl,rfl,by decide +kernel⟩
theorem hw:rw_.row.toRowW.promised:=by w_witness2
end _W
namespace _L
open PySem PySem.Spec PyProof.Rows
variable{t':Nat}{s:xA}{vC:List (xY×Obj)}{K:PySem.W.Frag}{tg:xz}{P:xy}{mg:Str->Option xC}{base:Heap}{kindOf:Str->Option xk}
noncomputable abbrev Key:=Sum Int Str
def ZG9:Key->xC->Bool
 |.inl k,v=>Value.isInt k v
 |.inr x,v=>Value.isStrOf x v
def keyH(w:xD):Key->Int
 |.inl k=>hashInt k
 |.inr x=>hashStr w x
theorem Hi:∀{k:Key}{v:xC},ZG9 k v=vF->(∃i t,k=Sum.inl i/\v=Value.int i t)∨(∃x t,k=Sum.inr x/\v=Value.str x t)
 |.inl i,v,h=>by obtain⟨t,e⟩:=Value.isInt_shape (k:=i) (v:=v) h;exact .inl ⟨i,t,rfl,e⟩
 |.inr x,v,h=>by obtain⟨t,e⟩:=Value.isStrOf_shape (x:=x) (v:=v) h;exact .inr ⟨x,t,rfl,e⟩
theorem ZOS(a b:Int):decide ((Sum.inl a:Key)=Sum.inl b)=(a==b):=by
 by_cases e:a=b
 ·subst e;simp
 ·have h:¬(Sum.inl a:Key)=Sum.inl b:=λq=>e (Sum.inl.inj q)
  rw[decide_eq_false h];exact(beq_eq_false_iff_ne.mpr e).symm
theorem ZLU(a b:Str):decide ((Sum.inr a:Key)=Sum.inr b)=decide (a=b):=by
 by_cases e:a=b
 ·subst e;simp
 ·have h:¬(Sum.inr a:Key)=Sum.inr b:=λq=>e (Sum.inr.inj q)
  rw[decide_eq_false h,decide_eq_false e]
theorem ZOG(a:Int)(b:Str):decide ((Sum.inl a:Key)=Sum.inr b)=vG:=decide_eq_false (λq=>nomatch q)
theorem ZOs(a:Str)(b:Int):decide ((Sum.inr a:Key)=Sum.inl b)=vG:=decide_eq_false (λq=>nomatch q)
def ZD5(prog:xy)(w:xD):PySem.KeyKind prog w Key where
 is:=ZG9
 hash:=keyH w
 inj:=λv a b ha hb=>by
  rcases Hi ha with⟨i,t,rfl,rfl⟩|⟨x,t,rfl,rfl⟩
  ·rcases Hi hb with⟨j,u,rfl,e⟩|⟨y,u,rfl,e⟩
   ·injection e with e1 _;rw[e1]
   ·exact nomatch e
  ·rcases Hi hb with⟨j,u,rfl,e⟩|⟨y,u,rfl,e⟩
   ·exact nomatch e
   ·injection e with e1 _;rw[e1]
 byValue:=λk v h=>by rcases Hi h with⟨i,t,rfl,rfl⟩|⟨x,t,rfl,rfl⟩<;>rfl
 pyHash:=λhv h=>by
  rcases Hi hv with⟨i,t,rfl,rfl⟩|⟨x,t,rfl,rfl⟩
  ·exact wpAny_pyHash_int h
  ·exact wpAny_pyHash_str h
 eqBool:=λhu hv h=>by
  rcases Hi hu with⟨i,t,rfl,rfl⟩|⟨x,t,rfl,rfl⟩
  ·rcases Hi hv with⟨j,u,rfl,rfl⟩|⟨y,u,rfl,rfl⟩
   ·rw[ZOS]at h;exact wpAny_eqBool_int h
   ·rw[ZOG]at h;exact SeqAt.EqAt.int_str i t y u _ _ _ _ h
  ·rcases Hi hv with⟨j,u,rfl,rfl⟩|⟨y,u,rfl,rfl⟩
   ·rw[ZOs]at h;exact SeqAt.EqAt.str_int x t j u _ _ _ _ h
   ·rw[ZLU]at h;exact wpAny_eqBool_str h
 «strs»:=λk x t v h=>by
  rcases Hi h with⟨i,u,rfl,e⟩|⟨y,u,rfl,e⟩
  ·exact nomatch e
  ·injection e with e1 _
   subst e1
   cases v<;>rfl
inductive V where
 |non|bl (b:Bool)|int (i:Int)|str (x:Str)|byt (b:Array UInt8)|flt (b:UInt64)|ref (a:xY)|ty (n:String)
 deriving DecidableEq
def RelV:V->xC->Prop
 |.non,u=>u=Value.none
 |.bl b,u=>u=Value.bool b
 |.int i,u=>∃t,u=Value.int i t
 |.str x,u=>∃t,u=Value.str x t
 |.byt b,u=>∃t,u=Value.bytes b t
 |.flt b,u=>∃t,u=Value.float b t
 |.ref a,u=>u=Value.ref a
 |.ty n,u=>u=Value.type n
abbrev Vals:List V->List xC->Prop:=Paired RelV
theorem Vals.length{xs:List V}{us:List xC}(r:Vals xs us):xs.length=us.length:=Paired.length r
theorem Vals.get:∀{xs:List V}{us:List xC}{i:Nat}{x:V},Vals xs us->xs[i]?=vD x->∃u,us[i]?=vD u/\RelV x u
 |_,_,_,_,.nil,e=>by simp at e
 |_,_,0,_,.cons r _,e=>by simp at e;subst e;exact⟨_,rfl,r⟩
 |_,_,i+1,x,.cons _ t,e=>by obtain⟨u,h1,h2⟩:=Vals.get (i:=i) (x:=x) t (by simpa using e);exact⟨u,by simpa using h1,h2⟩
theorem Vals.set(r:RelV x u):∀{xs:List V}{us:List xC}(i:Nat),Vals xs us->Vals (xs.set i x) (us.set i u)
 |_,_,_,.nil=>.nil
 |_,_,0,.cons _ t=>.cons r t
 |_,_,i+1,.cons q t=>.cons q (Vals.set r i t)
theorem Vals.append:∀{xs ys:List V}{us ws:List xC},Vals xs us->Vals ys ws->Vals (xs++ys) (us++ws)
 |_,_,_,_,.nil,s=>s
 |_,_,_,_,.cons r t,s=>.cons r (Vals.append t s)
theorem Vals.take:∀{xs:List V}{us:List xC}(n:Nat),Vals xs us->Vals (xs.take n) (us.take n)
 |_,_,0,_=>.nil
 |_,_,_+1,.nil=>.nil
 |_,_,n+1,.cons r t=>.cons r (Vals.take n t)
theorem Vals.drop:∀{xs:List V}{us:List xC}(n:Nat),Vals xs us->Vals (xs.drop n) (us.drop n)
 |_,_,0,r=>r
 |_,_,_+1,.nil=>.nil
 |_,_,n+1,.cons _ t=>Vals.drop n t
def RelO:Option V->Option xC->Prop
 |some v,vD u=>RelV v u
 |none,vE=>True
 |_,_=>False
def KV{κ:Type}:List (κ×V)->List (κ×xC)->Prop:=Paired λ(p:κ×V)(q:κ×xC)=>p.1=q.1/\RelV p.2 q.2
def kV:Key->V
 |.inl i=>.int i
 |.inr x=>.str x
inductive HO where
 |lst (xs:List V)
 |tup (xs:List V)
 |dK (kvs:List (Key×V))|dT (kvs:List (List Key×V))
 |set (S:Int->Bool) (n:Nat)
 |ins (C dx:xY) (fs:List (Str×V))
 |own (x:xY)
 |xd (fs:List (Str×V))
 |met (f x:xY)
 |rng (lo hi:Int)
 |frz (o:Obj) (u:HO)
 |tbl (ps:Array xC)
 |ext (φ:Heap->Prop)
noncomputable abbrev Hp:=xY->Option HO
noncomputable def upd(H:Hp)(a:xY)(o:HO):Hp:=λb=>if b=a then vD o else H b
theorem Ei:upd H a o a=vD o:=by unfold upd;rw[if_pos rfl]
theorem Am(h:b≠a):upd H a o b=H b:=by unfold upd;rw[if_neg h]
theorem Ga{H:Hp}{a b:xY}{o:HO}(h:H a=vD o)(h':H b=vE):a≠b:=by intro e;subst e;rw[h]at h';cases h'
section
variable(P:xy)(w:xD)
def ObjOk(H:Hp)(h:Heap)(a:xY):HO->Prop
 |.lst xs=>xs.length<=sizeLine/\∃(its:List xC)(n:Nat),Vals xs its/\h.get? a=vD {cls:=.type "list",data:=.seq its.toArray n}
 |.tup xs=>xs.length<=sizeLine/\∃its:List xC,Vals xs its/\IsTup h a its.toArray
 |.dK kvs=>kvs.length<=sizeLine/\(a==sysModules)=vG/\∃vs,KV kvs vs/\h.DictOf (ZD5 P w) a vs
 | .dT kvs=>kvs.length<=sizeLine/\(a==sysModules)=vG/\∃xs:List (List Key×xY×xC),
   Paired (λ(p:List Key×V)(q:List Key×xY×xC)=>p.1=q.1/\H q.2.1=vD (.tup (p.1.map kV))/\RelV p.2 q.2.2) kvs xs/\
   ∃o es ep,h.get? a=vD o/\o.ExactDict/\o.data=.dict es ep/\es.toList=xs.map (entryOfKey (tupleKind (ZD5 P w)))/\(xs.map (·.1)).Nodup
 |.set S n=>h.SetOf (intKind P w) a S n
 | .ins C dx fs=>H dx=vD (.own a)/\fs.length<=1000/\dx≠a/\h.get? a=vD (PySem.W.instObj C dx)/\
   ∃mA,h.Ns1 dx mA/\(∀f,RelO (fs.lookup f) (mA f))/\PySem.Within mA (fs.map (·.1))
 |.own _=>∃o,h.get? a=vD o
 |.xd fs=>∃mA,h.Ns1 a mA/\∀f,RelO (fs.lookup f) (mA f)
 |.rng lo hi=>∃t u v,h.get? a=vD {cls:=.type "range",data:=.fields #[.int lo t,.int hi u,.int 1 v]}
 |.frz o u=>h.get? a=vD o/\ObjOk H h a u
 |.tbl ps=>h.get? a=vD {cls:=.none,data:=.fields ps}
 |.met f x=>h.get? a=vD (PySem.W.methodObj (.ref f) (.ref x))
 |.ext φ=>φ h/\(∃o,h.get? a=vD o)/\∀h1 h2:Heap,φ h1->(∀o,h1.get? a=vD o->h2.get? a=vD o)->φ h2
def HOk(H:Hp)(h:Heap):Prop:=∀a o,H a=vD o->ObjOk P w H h a o
end
section
variable{P:xy}{w:xD}{H H':Hp}{h h':Heap}{a:xY}{o:HO}
theorem ObjOk.lt(x:ObjOk P w H h a o):a<h.objs.size:=by
 cases o with
 |lst xs=>obtain⟨_,_,_,_,e⟩:=x;exact zj e
 |tup xs=>obtain⟨_,_,_,p⟩:=x;exact p.lt
 |dK kvs=>obtain⟨_,_,_,_,o,_,_,e,_⟩:=x;exact zj e
 |dT kvs=>obtain⟨_,_,_,_,o,_,_,e,_⟩:=x;exact zj e
 |set S n=>obtain⟨o,_,_,_,e,_⟩:=x;exact zj e
 |ins C dx fs=>obtain⟨_,_,_,e,_⟩:=x;exact zj e
 |own y=>obtain⟨_,e⟩:=x;exact zj e
 |xd fs=>obtain⟨_,⟨_,_,_,e,_⟩,_⟩:=x;exact zj e
 |rng lo hi=>obtain⟨_,_,_,e⟩:=x;exact zj e
 |frz ob u=>obtain⟨e,_⟩:=x;exact zj e
 |tbl ps=>exact zj (show h.get? a=vD _ from x)
 |met f y=>exact zj (show h.get? a=vD _ from x)
 |ext φ=>obtain⟨_,⟨_,e⟩,_⟩:=x;exact zj e
theorem Paired.mapP{α β:Type}{F G:α->β->Prop}:∀{l₁:List α}{l₂:List β},Paired F l₁ l₂->(∀a b,F a b->G a b)->Paired G l₁ l₂
 |_,_,.nil,_=>.nil
 |_,_,.cons r t,f=>.cons (f _ _ r) (Paired.mapP t f)
theorem ObjOk.stay(x:ObjOk P w H h a o)(k:∀b u,(b=a∨H b=vD (.own a))->h.get? b=vD u->h'.get? b=vD u)
  (ho:∀b,H b=vD (.own a)->H' b=vD (.own a)) (ht:∀b xs,H b=vD (.tup xs)->H' b=vD (.tup xs)):ObjOk P w H' h' a o:=by
 induction o with
 |lst xs=>obtain⟨z,its,n,r,e⟩:=x;exact⟨z,its,n,r,k _ _ (.inl rfl) e⟩
 |tup xs=>obtain⟨z,its,r,ob,e,c⟩:=x;exact⟨z,its,r,ob,k _ _ (.inl rfl) e,c⟩
 |dK kvs=>obtain⟨z,y,vs,r,ob,es,ep,e,c⟩:=x;exact⟨z,y,vs,r,ob,es,ep,k _ _ (.inl rfl) e,c⟩
 |dT kvs=>
  obtain⟨z,y,xs,r,ob,es,ep,e,c⟩:=x;exact⟨z,y,xs,Paired.mapP r λp q z=>⟨z.1,ht _ _ z.2.1,z.2.2⟩,ob,es,ep,k _ _ (.inl rfl) e,c⟩
 |set S n=>obtain⟨ob,es,ep,t,e,c⟩:=x;exact⟨ob,es,ep,t,k _ _ (.inl rfl) e,c⟩
 |ins C dx fs=>
  obtain⟨d,z,ne,e,mA,⟨od,es,ep,e2,c⟩,r⟩:=x;exact⟨ho _ d,z,ne,k _ _ (.inl rfl) e,mA,⟨od,es,ep,k _ _ (.inr d) e2,c⟩,r⟩
 |own y=>obtain⟨ob,e⟩:=x;exact⟨ob,k _ _ (.inl rfl) e⟩
 |xd fs=>obtain⟨mA,⟨od,es,ep,e,c⟩,r⟩:=x;exact⟨mA,⟨od,es,ep,k _ _ (.inl rfl) e,c⟩,r⟩
 |rng lo hi=>obtain⟨t,u,v,e⟩:=x;exact⟨t,u,v,k _ _ (.inl rfl) e⟩
 |frz ob u ih=>obtain⟨e,q⟩:=x;exact⟨k _ _ (.inl rfl) e,ih q⟩
 |tbl ps=>
  have e:h.get? a=vD {cls:=.none,data:=.fields ps}:=x;show h'.get? a=vD {cls:=.none,data:=.fields ps};exact k a _ (.inl rfl) e
 |met f y=>
  have e:h.get? a=vD (PySem.W.methodObj (.ref f) (.ref y)):=x;show h'.get? a=vD (PySem.W.methodObj (.ref f) (.ref y));exact k a _ (.inl rfl) e
 |ext φ=>obtain⟨p,⟨o,e⟩,st⟩:=x;exact⟨st _ _ p λo q=>k _ _ (.inl rfl) q,⟨o,k _ _ (.inl rfl) e⟩,st⟩
theorem HOk.lt(x:HOk P w H h)(e:H a=vD o):a<h.objs.size:=(x a o e).lt
theorem HOk.fresh(x:HOk P w H h)(e:h.objs.size<=a):H a=vE:=by
 cases q:H a with
 |none=>rfl
 |some u=>exact absurd (zq (x.lt q) e) (qQ _)
theorem HOk.kept(x:HOk P w H h)(k:∀b u,h.get? b=vD u->h'.get? b=vD u):HOk P w H h':=λa o e=>
 (x a o e).stay (λb u _ q=>k b u q) (λ_ q=>q) λ_ _ q=>q
theorem HOk.laid(x:HOk P w H h)(k:∀b u,h.get? b=vD u->h'.get? b=vD u)(hp:h.objs.size<=a)(new:ObjOk P w (upd H a o) h' a o):HOk P w (upd H a o) h':=λb u e=>by
 have hn:=x.fresh hp;by_cases hb:b=a
 ·subst hb;rw[Ei]at e;cases e;exact new
 ·rw[Am hb]at e;exact(x b u e).stay (λc v _ q=>k c v q) (λc q=>by rw[Am (Ga q hn)];exact q) λc xs q=>by rw[Am (Ga q hn)];exact q
end
def Rd(H:Hp)(a:xY)(u:HO):Prop:=H a=vD u∨∃o,H a=vD (.frz o u)
theorem Rd.ok(r:Rd H a u)(x:HOk P w H h):ObjOk P w H h a u:=by
 rcases r with r|⟨o,r⟩
 ·exact x a u r
 ·obtain⟨_,q⟩:=x a _ r;exact q
def Mut:Option HO->Prop
 |some (.lst _)=>True
 |some (.dK _)=>True
 |some (.dT _)=>True
 |some (.set _ _)=>True
 |some (.ins _ _ _)=>True
 |some (.ext _)=>True
 |_=>False
section
variable{P:xy}{w:xD}{H:Hp}{h h':Heap}{x e:xY}{o':HO}
theorem HOk.write(ok:HOk P w H h)(mu:Mut (H x))(he:e=x∨H e=vD (.own x))(k:∀b u,b≠e->h.get? b=vD u->h'.get? b=vD u)(heo:∃u,h'.get? e=vD u)
  (new:ObjOk P w (upd H x o') h' x o'):HOk P w (upd H x o') h':=λb u q=>by
 have nown:∀c y,H c=vD (.own y)->c≠x:=λc y r z=>by subst z;rw[r]at mu;exact mu
 have ntup:∀c xs,H c=vD (.tup xs)->c≠x:=λc xs r z=>by subst z;rw[r]at mu;exact mu
 by_cases hb:b=x
 ·subst hb;rw[Ei]at q;cases q;exact new
 ·rw[Am hb]at q;by_cases hbe:b=e
  ·have q':H b=vD (.own x):=by
    rcases he with z|z
    ·exact absurd (hbe.trans z) hb
    ·rw[hbe];exact z
   rw[q]at q';cases q';obtain⟨v,hv⟩:=heo;exact⟨v,by rw[hbe];exact hv⟩
  ·refine(ok b u q).stay (λc v hc r=>k c v ?_ r) (λc r=>by rw[Am (nown c b r)];exact r) λc xs r=>by rw[Am (ntup c xs r)];exact r
   rcases hc with rfl|hc
   ·exact hbe
   ·rintro rfl;rcases he with z|z
    ·exact nown c b hc z
    ·rw[hc]at z;cases z;exact hb rfl
end
structure Un (fs ex:List xY) (H H':Hp) (h h':Heap):Prop where
 keep:∀b o,h.get? b=vD o->H b=vE->b∉fs->b∉ex->h'.get? b=vD o
 slot:∀b o,h.get? b=vD o->H b=vE->b∈fs->b∉ex->∃sl,h'.get? b=vD {o with slots:=sl}
 free:∀b o,h.get? b=vD o->H b=vE->b∉ex->H' b=vE
 there:∀b o,h.get? b=vD o->b∉ex->∃o',h'.get? b=vD o'
 tups:∀b xs,H b=vD (.tup xs)->H' b=vD (.tup xs)
 frzs:∀b o u,H b=vD (.frz o u)->H' b=vD (.frz o u)
 tbls:∀b ps,H b=vD (.tbl ps)->∃more,H' b=vD (.tbl (ps++more))
section
variable{fs fs' ex ex':List xY}{H H1 H2:Hp}{h h1 h2 h':Heap}{a x e:xY}{o:HO}
theorem Un.any(u:Un fs ex H H1 h h1)(q:h.get? b=vD ob)(n:H b=vE)(hx:b∉ex):∃sl,h1.get? b=vD {ob with slots:=sl}:=by
 by_cases hb:b∈fs
 ·exact u.slot b ob q n hb hx
 ·exact⟨ob.slots,u.keep b ob q n hb hx⟩
theorem Un.kept(k:∀b u,h.get? b=vD u->h'.get? b=vD u):Un fs ex H H h h':=
 ⟨λb ob q _ _ _=>k b ob q,λb ob q _ _ _=>⟨ob.slots,k b ob q⟩,λ_ _ _ n _=>n,λb ob q _=>⟨ob,k b ob q⟩,λ_ _ q=>q,λ_ _ _ q=>q,λ_ ps q=>⟨#[],by rw[q];simp⟩⟩
theorem Un.refl:Un fs ex H H h h:=Un.kept λ_ _ q=>q
theorem Un.laid(k:∀b u,h.get? b=vD u->h'.get? b=vD u)(hp:h.objs.size<=a)(hn:H a=vE):Un fs ex H (upd H a o) h h' where
 keep:=λb u q _ _ _=>k b u q
 slot:=λb u q _ _ _=>⟨u.slots,k b u q⟩
 free:=λb u q n _=>by rw[Am (zC (zq (zj q) hp))];exact n
 there:=λb u q _=>⟨u,k b u q⟩
 tups:=λb xs q=>by rw[Am (Ga q hn)];exact q
 frzs:=λb u xs q=>by rw[Am (Ga q hn)];exact q
 tbls:=λb ps q=>⟨#[],by rw[Am (Ga q hn),q];simp⟩
theorem Un.write(mu:Mut (H x))(he:e=x∨H e=vD (.own x))(k:∀b u,b≠e->h.get? b=vD u->h'.get? b=vD u)(heo:∃u,h'.get? e=vD u):Un fs ex H (upd H x o) h h':=by
 have hx:∀b,H b=vE->b≠x:=λb n z=>by subst z;rw[n]at mu;exact mu
 have hb:∀b,H b=vE->b≠e:=λb n z=>by
  subst z;rcases he with r|r
  ·exact hx b n r
  ·rw[n]at r;cases r
 have hm:∀b u,H b=vD u->¬Mut (vD u)->b≠x:=λb u q nm z=>by subst z;rw[q]at mu;exact nm mu
 refine⟨λb u q n _ _=>k b u (hb b n) q,λb u q n _ _=>⟨u.slots,k b u (hb b n) q⟩,λb u q n _=>by rw[Am (hx b n)];exact n,λb u q _=>?_,
  λb xs q=>by rw[Am (hm b _ q λz=>z)];exact q,λb u xs q=>by rw[Am (hm b _ q λz=>z)];exact q,λb ps q=>⟨#[],by rw[Am (hm b _ q λz=>z),q];simp⟩⟩
 by_cases hbe:b=e
 ·subst hbe;exact heo
 ·exact⟨u,k b u hbe q⟩
end
noncomputable def trk(h:Heap)(H:Hp):List xY:=(zV h.objs.size).filter λa=>(H a).isSome
def Ij(h:Heap)(H:Hp):Heap:=PySem.W.hideAll h (trk h H)
theorem ZL7(h:Heap)(H:Hp):(Ij h H).objs.size=h.objs.size:=PySem.W.hideAll_size _ _
theorem ZQY(e:h.get? b=vD o)(n:H b=vE):(Ij h H).get? b=vD o:=
 PySem.W.hideAll_get _ e λhm=>by have q:(H b).isSome=vF:=(List.mem_filter.mp hm).2;rw[n]at q;simp at q
theorem ZIr(e:(Ij h H).get? b=vD o):h.get? b=vD o/\H b=vE:=by
 have e':h.get? b=vD o:=PySem.W.of_hideAll (trk h H) e;refine⟨e',?_⟩;cases q:H b with
 |none=>rfl
 |some x=>
  have hm:b∈trk h H:=List.mem_filter.mpr ⟨q8.mpr (zj e'),by simp[q]⟩;have z:(Ij h H).get? b=vE:=PySem.W.hideAll_none (trk h H) hm;rw[z]at e;cases e
noncomputable def ZJ6(g h:Heap)(L:xY):List (xY×Obj):=(zV h.objs.size).filterMap λa=>if a=L∨(g.get? a).isSome=vF then vE else(h.get? a).map λo=>(a,o)
def rest(g h:Heap)(L d:xY):List (xY×Obj):=(ZJ6 g h L).filter λp=>decide (p.1≠d)
structure Mod (K:PySem.W.Frag) (mg:Str->Option xC) (base:Heap):Prop where
 kin:K.In base
 glob:base.Ns xU mg
 blt:∃mb,base.Ns builtinsNs mb/\∀x:Str,x≠"__name__"->mb x=xM x
 nolimit:base.NoLimit
structure Cx where
 prog:xy
 w:xD
 K:PySem.W.Frag
 mg:Str->Option xC
 base:Heap
 A:xq
 N:List Str
 s₀:xA
 H₀:Hp
 env:Env
 outer:List Env
 stack:List Env
 ex:List xY
 fn:Str->Bool
 calm:Bool
 pn:List (xY×Obj)
 xe:xC->xA->Prop
noncomputable def frs(l:List Env):List xY:=l.filterMap (·.frame)
noncomputable abbrev Cx.fs(X:Cx):List xY:=frs X.outer
def Vis(sc:x0)(x:Str):Prop:=sc.names.lookup x=vD .local∨sc.names.lookup x=vD .cell∨sc.names.lookup x=vD .free
def Loc(sc:x0)(x:Str):Prop:=sc.names.lookup x=vD .local∨sc.names.lookup x=vD .cell
def Look(env:Env)(h:Heap)(m:Str->Option xC)(x:Str)(u:xC):Prop:=
 (env.kindOf x=vD .local/\m x=vD u)∨((env.kindOf x=vD .cell∨env.kindOf x=vD .free)/\∃c,env.cells.lookup x=vD c/\h.IsCell c (vD u))
structure Cx.Ok (X:Cx):Prop where
 mod:Mod X.K X.mg X.base
 kind:X.env.scope.kind=.function
 glob:X.env.globals=xU
 blt:X.env.builtins=builtinsNs
 above:X.s₀.heap.objs.size<=X.env.locals
 inj:∀x y c,X.env.cells.lookup x=vD c->X.env.cells.lookup y=vD c->x=y
 has:∀x,(X.env.kindOf x=vD .cell∨X.env.kindOf x=vD .free)->∃c,X.env.cells.lookup x=vD c
 cab:∀x c,X.fn x=vF->X.env.cells.lookup x=vD c->X.s₀.heap.objs.size<=c
 hd:X.calm=vF->X.A.handled=vE
 frames:X.A.frames=vD X.stack
 stk:X.stack=X.outer∨(X.stack=X.env::X.outer/\X.env.frame=vD X.env.locals)
 exf:∀b∈X.ex,b≠X.env.locals/\∀x c,X.env.cells.lookup x=vD c->c≠b
 bs:∀b o,X.base.get? b=vD o->X.s₀.heap.get? b=vD o/\X.H₀ b=vE
 bsz:X.base.objs.size<=X.s₀.heap.objs.size
 noex:∀b o,X.base.get? b=vD o->b∉X.ex
 exfs:∀b∈X.ex,b∉X.fs
 funs:X.s₀.heap.FunFrames X.base X.outer
 frf:∀b∈X.fs,X.H₀ b=vE
structure Inv (X:Cx) (vC:List (xY×Obj)) (σ:List (Option V)) (H:Hp) (s:xA):Prop where
 ok:X.Ok
 os:s.os=X.s₀.os
 bare:AllBare s.gens
 base:Un X.fs X.ex X.H₀ H X.s₀.heap s.heap
 loc:∃m,s.heap.Ns X.env.locals m/\∀(i:Nat)(x:Str)(v:V),X.N[i]?=vD x->σ[i]?=vD (vD v)->Vis X.env.scope x->∃u,RelV v u/\Look X.env s.heap m x u
 cell:∀x c,X.env.cells.lookup x=vD c->∃v,s.heap.IsCell c v
 free:H X.env.locals=vE
 Fw:∀x c,X.env.cells.lookup x=vD c->H c=vE
 pin:∀p∈X.pn++vC,s.heap.get? p.1=vD p.2/\H p.1=vE/\p.1≠X.env.locals/\p.1∉X.fs/\∀v,p.2.data≠ .cell v
 hok:HOk X.prog X.w H s.heap
 len:σ.length=X.N.length
section
variable{X:Cx}{vC:List (xY×Obj)}{σ:List (Option V)}{H H':Hp}{s:xA}{h':Heap}
theorem Cx.Ok.nofr(ok:X.Ok)(e:X.base.get? b=vD o):b∉X.fs:=λhb=>by have:=(ok.funs.mem hb).1;rw[e]at this;cases this
theorem Inv.bs(I:Inv X vC σ H s):∀b o,X.base.get? b=vD o->s.heap.get? b=vD o/\H b=vE:=λb o e=>
 ⟨I.base.keep b o (I.ok.bs b o e).1 (I.ok.bs b o e).2 (I.ok.nofr e) (I.ok.noex b o e),I.base.free b o (I.ok.bs b o e).1 (I.ok.bs b o e).2 (I.ok.noex b o e)⟩
theorem Inv.bk(I:Inv X vC σ H s):∀b o,X.base.get? b=vD o->s.heap.get? b=vD o:=λb o e=>(I.bs b o e).1
theorem Inv.mod(I:Inv X vC σ H s):Mod X.K X.mg X.base:=I.ok.mod
theorem Inv.kIn(I:Inv X vC σ H s):X.K.In s.heap:=I.ok.mod.kin.keeps I.bk
theorem Inv.lt(I:Inv X vC σ H s):X.env.locals<s.heap.objs.size:=let⟨_,hn,_⟩:=I.loc;hn.lt
theorem Inv.sz(I:Inv X vC σ H s):X.s₀.heap.objs.size<=s.heap.objs.size:=z5 I.ok.above (Nat.le_of_lt I.lt)
theorem Inv.nofs(I:Inv X vC σ H s){a:xY}(h:s.heap.objs.size<=a):a∉X.fs:=λhb=>by obtain⟨_,o,ho,_⟩:=I.ok.funs.mem hb;exact absurd (zq (zj ho) (z5 I.sz h)) (qQ _)
theorem Inv.cne(I:Inv X vC σ H s):∀x c,X.env.cells.lookup x=vD c->c≠X.env.locals:=λx c e z=>by obtain⟨v,o,ho,hd⟩:=I.cell x c e;obtain⟨m,⟨o',es,ep,ho',hd',_⟩,_⟩:=I.loc;rw[z,ho']at ho;cases ho;rw[hd']at hd;cases hd
theorem Inv.funs(I:Inv X vC σ H s):s.heap.FunFrames X.base X.outer:=by
 have all:∀(l:List Env),(∀b∈frs l,b∈X.fs)->X.s₀.heap.FunFrames X.base l->s.heap.FunFrames X.base l:=by
  intro l
  induction l with
  |nil=>intro _ _;trivial
  |cons env r ih=>
   intro hs hl;obtain⟨hk,⟨L,o,hf,hn,ho,hd⟩,hr⟩:=hl;have hL:L∈X.fs:=hs L (by unfold frs;rw[qK,hf];exact zW);obtain⟨sl,e⟩:=I.base.slot L o ho (I.ok.frf L hL) hL λz=>I.ok.exfs L z hL
   exact⟨hk,⟨L,_,hf,hn,e,hd⟩,ih (λb hb=>hs b (by unfold frs;rw[qK,hf];exact zJ _ hb)) hr⟩
 exact all X.outer (λ_ hb=>hb) I.ok.funs
theorem Inv.stack(I:Inv X vC σ H s):s.heap.FunFrames X.base X.stack:=by
 rcases I.ok.stk with e|⟨e,hf⟩
 ·rw[e];exact I.funs
 ·rw[e];obtain⟨m,hn,_⟩:=I.loc;refine .cons (by rw[I.ok.kind];decide) hf hn ?_ I.funs;exact jR (z5 I.ok.bsz I.ok.above)
theorem Inv.Rp(I:Inv X vC σ H s):∀b∈frs X.stack,b∈X.env.locals::X.fs:=λb hb=>by
 rcases I.ok.stk with e|⟨e,hf⟩
 ·rw[e]at hb;exact zJ _ hb
 ·rw[e]at hb;unfold frs at hb;rw[qK,hf]at hb;exact hb
theorem Inv.Ut(I:Inv X vC σ H s):∀b∈frs X.stack,H b=vE:=λb hb=>by
 rcases zx.mp (I.Rp b hb)with e|hb
 ·rw[e];exact I.free
 ·obtain⟨_,o,ho,_⟩:=I.ok.funs.mem hb;exact I.base.free b o ho (I.ok.frf b hb) λz=>I.ok.exfs b z hb
theorem Inv.step{g':Array GenState}{d':Drawn}{ch:List xY}(I:Inv X vC σ H s)
  (hch:∀b∈ch,(b∈X.ex∨X.s₀.heap.objs.size<=b)/\b≠X.env.locals/\(∀x c,X.env.cells.lookup x=vD c->c≠b)/\∀p∈X.pn++vC,p.1≠b)
  (keep:∀b o,b≠X.env.locals->b∉X.fs->b∉ch->s.heap.get? b=vD o->H b=vE->h'.get? b=vD o)
  (slot:∀b o,b≠X.env.locals->b∈X.fs->b∉ch->s.heap.get? b=vD o->H b=vE->∃sl,h'.get? b=vD {o with slots:=sl}) (free:∀b o,b∉ch->s.heap.get? b=vD o->H b=vE->H' b=vE)
  (there:∀b o,b∉ch->s.heap.get? b=vD o->∃o',h'.get? b=vD o')
  (tups:∀b xs,H b=vD (.tup xs)->H' b=vD (.tup xs)) (frzs:∀b o u,H b=vD (.frz o u)->H' b=vD (.frz o u)) (tbls:∀b ps,H b=vD (.tbl ps)->∃more,H' b=vD (.tbl (ps++more)))
  (ns:∀m,s.heap.Ns X.env.locals m->h'.Ns X.env.locals m) (hok:HOk X.prog X.w H' h') (hg:AllBare g'):
  Inv X vC σ H' {s with heap:=h',gens:=g',drawn:=d',toks:=t'}:=by
 have neL:∀b o,X.s₀.heap.get? b=vD o->b≠X.env.locals:=λb o e=>zC (zq (zj e) I.ok.above)
 have neC:∀b o,X.s₀.heap.get? b=vD o->b∉X.ex->b∉ch:=λb o e hx hb=>by
  rcases(hch b hb).1 with z|z
  ·exact hx z
  ·exact absurd (zq (zj e) z) (qQ _)
 have cellK:∀x c,X.env.cells.lookup x=vD c->∀v,s.heap.IsCell c v->h'.IsCell c v:=λx c e v ⟨o,ho,hd⟩=>by
  have nch:c∉ch:=λz=>(hch c z).2.2.1 x c e rfl
  by_cases hc:c∈X.fs
  ·obtain⟨sl,q⟩:=slot c o (I.cne x c e) hc nch ho (I.Fw x c e);exact⟨_,q,hd⟩
  ·exact⟨o,keep c o (I.cne x c e) hc nch ho (I.Fw x c e),hd⟩
 refine⟨I.ok,I.os,hg,⟨λb o e n hb hx=>?_,λb o e n hb hx=>?_,λb o e n hx=>?_,λb o e hx=>?_,λb xs e=>tups b xs (I.base.tups b xs e),λb o xs e=>frzs b o xs (I.base.frzs b o xs e),λb ps e=>?_⟩,?_,λx c e=>?_,?_,λx c e=>?_,λp hp=>?_,hok,I.len⟩
 ·exact keep b o (neL b o e) hb (neC b o e hx) (I.base.keep b o e n hb hx) (I.base.free b o e n hx)
 ·obtain⟨sl,e1⟩:=I.base.slot b o e n hb hx;obtain⟨sl',e2⟩:=slot b _ (neL b o e) hb (neC b o e hx) e1 (I.base.free b o e n hx);exact⟨sl',e2⟩
 ·obtain⟨o',e1⟩:=I.base.there b o e hx;exact free b o' (neC b o e hx) e1 (I.base.free b o e n hx)
 ·obtain⟨o',e1⟩:=I.base.there b o e hx;exact there b o' (neC b o e hx) e1
 ·obtain⟨m1,e1⟩:=I.base.tbls b ps e;obtain⟨m2,e2⟩:=tbls b _ e1;exact⟨m1++m2,by rw[e2,Array.append_assoc]⟩
 ·obtain⟨m,hn,hl⟩:=I.loc;refine⟨m,ns m hn,λi x v e1 e2 e3=>?_⟩;obtain⟨u,r,l⟩:=hl i x v e1 e2 e3;refine⟨u,r,?_⟩;rcases l with l|⟨k,c,e,z⟩
  ·exact .inl l
  ·exact .inr ⟨k,c,e,cellK x c e _ z⟩
 ·obtain⟨v,z⟩:=I.cell x c e;exact⟨v,cellK x c e v z⟩
 ·obtain⟨m,⟨o,_,_,ho,_⟩,_⟩:=I.loc;exact free _ o (λz=>(hch _ z).2.1 rfl) ho I.free
 ·obtain⟨v,o,ho,hd⟩:=I.cell x c e;exact free c o (λz=>(hch c z).2.2.1 x c e rfl) ho (I.Fw x c e)
 ·obtain⟨e,n,ne,nf,d⟩:=I.pin p hp;have nch:p.1∉ch:=λz=>(hch p.1 z).2.2.2 p hp rfl
  exact⟨keep p.1 p.2 ne nf nch e n,free p.1 p.2 nch e n,ne,nf,d⟩
theorem Inv.un(I:Inv X vC σ H s)(u:Un X.fs [] H H' s.heap h')(hok:HOk X.prog X.w H' h'):Inv X vC σ H' {s with heap:=h',toks:=t'}:=by
 obtain⟨m,⟨o,es,ep,ho,r⟩,_⟩:=id I.loc;obtain⟨sl,hL⟩:=u.any ho I.free (by simp)
 exact I.step (g':=s.gens) (d':=s.drawn) (ch:=[]) (λ_ z=>nomatch z) (λb o _ hb _ e n=>u.keep b o e n hb (by simp)) (λb o _ hb _ e n=>u.slot b o e n hb (by simp)) (λb o _ e n=>u.free b o e n (by simp)) (λb o _ e=>u.there b o e (by simp)) u.tups u.frzs u.tbls (λm' hm=>by obtain⟨o',es',ep',ho',r'⟩:=hm;rw[ho]at ho';cases ho';exact⟨_,es',ep',hL,r'⟩) hok I.bare
theorem Inv.call{g':Array GenState}{d':Drawn}{ch:List xY}(I:Inv X vC σ H s)(u:Un (frs X.stack) ch H H' s.heap h')(hok:HOk X.prog X.w H' h')(hg:AllBare g')
  (hch:∀b∈ch,(b∈X.ex∨X.s₀.heap.objs.size<=b)/\b≠X.env.locals/\(∀x c,X.env.cells.lookup x=vD c->c≠b)/\∀p∈X.pn++vC,p.1≠b):
  Inv X vC σ H' {s with heap:=h',gens:=g',drawn:=d',toks:=t'}:=by
 obtain⟨m,⟨o,es,ep,ho,r⟩,_⟩:=id I.loc;obtain⟨sl,hL⟩:=u.any ho I.free λz=>(hch _ z).2.1 rfl
 exact I.step (ch:=ch) hch (λb o hL hb hc e n=>u.keep b o e n (λz=>(zx.mp (I.Rp b z)).elim hL hb) hc) (λb o _ _ hc e n=>u.any e n hc) (λb o hc e n=>u.free b o e n hc) (λb o hc e=>u.there b o e hc) u.tups u.frzs u.tbls (λm' hm=>by obtain⟨o',es',ep',ho',r'⟩:=hm;rw[ho]at ho';cases ho';exact⟨_,es',ep',hL,r'⟩) hok hg
theorem Inv.turned{it:xY}(I:Inv X vC σ H s)(k:∀b o,b≠it->s.heap.get? b=vD o->h'.get? b=vD o)(hn:H it=vE)(hL:it≠X.env.locals)
  (h1:it∈X.ex∨X.s₀.heap.objs.size<=it) (h2:∀x c,X.env.cells.lookup x=vD c->c≠it) (h3:∀p∈X.pn++vC,p.1≠it):Inv X vC σ H {s with heap:=h',toks:=t'}:=by
 have nit:∀b u,H b=vD u->b≠it:=λb u e z=>by rw[z,hn]at e;cases e
 refine I.step (g':=s.gens) (d':=s.drawn) (ch:=[it]) (λb hb=>?_) (λb o _ _ hc e _=>k b o (λz=>hc (by simp[z])) e) (λb o _ _ hc e _=>⟨o.slots,k b o (λz=>hc (by simp[z])) e⟩) (λ_ _ _ _ n=>n)
  (λb o hc e=>⟨o,k b o (λz=>hc (by simp[z])) e⟩) (λ_ _ e=>e) (λ_ _ _ e=>e) (λb ps e=>⟨#[],by rw[e];simp⟩) (λm hm=>?_) (λb u e=>?_) I.bare
 ·have e:b=it:=by simpa using hb
  subst e;exact⟨h1,hL,h2,h3⟩
 ·obtain⟨o,es,ep,ho,r⟩:=hm;exact⟨o,es,ep,k _ o (Ne.symm hL) ho,r⟩
 ·refine(I.hok b u e).stay (λc v hc q=>k c v ?_ q) (λ_ q=>q) λ_ _ q=>q
  rcases hc with z|z
  ·rw[z];exact nit b u e
  ·exact nit c _ z
theorem Inv.tok(I:Inv X vC σ H s)(t:Nat):Inv X vC σ H {s with toks:=t}:=I.un (h':=s.heap) (t':=t) Un.refl I.hok
theorem Inv.kept(I:Inv X vC σ H s)(k:∀b u,s.heap.get? b=vD u->h'.get? b=vD u):Inv X vC σ H {s with heap:=h',toks:=t'}:=I.un (Un.kept k) (I.hok.kept k)
theorem Inv.laid{a:xY}{o:HO}(I:Inv X vC σ H s)(k:∀b u,s.heap.get? b=vD u->h'.get? b=vD u)(hp:s.heap.objs.size<=a)(new:ObjOk X.prog X.w (upd H a o) h' a o):
  Inv X vC σ (upd H a o) {s with heap:=h',toks:=t'}:=I.un (Un.laid k hp (I.hok.fresh hp)) (I.hok.laid k hp new)
theorem Inv.write(I:Inv X vC σ H s)(mu:Mut (H x))(he:e=x∨H e=vD (.own x))(k:∀b u,b≠e->s.heap.get? b=vD u->h'.get? b=vD u)(heo:∃u,h'.get? e=vD u)
  (new:ObjOk X.prog X.w (upd H x o) h' x o):Inv X vC σ (upd H x o) {s with heap:=h',toks:=t'}:=I.un (Un.write mu he k heo) (I.hok.write mu he k heo new)
theorem Inv.Io(I:Inv X vC σ H s)(h:∀p∈pins',s.heap.get? p.1=vD p.2/\H p.1=vE/\p.1≠X.env.locals/\p.1∉X.fs/\∀v,p.2.data≠ .cell v):Inv X pins' σ H s:=
 ⟨I.ok,I.os,I.bare,I.base,I.loc,I.cell,I.free,I.Fw,λp hp=>(j9.mp hp).elim (λz=>I.pin p (jS _ z)) (h p),I.hok,I.len⟩
theorem Xb{N:List Str}(hN:N.Nodup){i j:Nat}{x:Str}(a:N[i]?=vD x)(b:N[j]?=vD x):i=j:=by obtain⟨h1,e1⟩:=zG.mp a;obtain⟨h2,e2⟩:=zG.mp b;exact(List.getElem_inj hN).mp (e1.trans e2.symm)
theorem ZHT{M:Model}{A:xq}{E:xC->xA->Prop}{i:Nat}{x:Str}{v:V}{u:xC}{Q:Unit->xA->Prop}(I:Inv X vC σ H s)(hN:X.N.Nodup)(hi:X.N[i]?=vD x)(hx:Loc X.env.scope x)(r:RelV v u)
  (h:∀s',Inv X vC (σ.set i (vD v)) H s'->(∃a,qG a s.heap s'.heap/\(a=X.env.locals∨X.env.cells.lookup x=vD a))->Q () s') (hf:X.fn x=vF∨X.env.scope.names.lookup x=vD .local:=by first|exact .inl rfl|exact .inr rfl|assumption):vK M A (storeName X.env x u) Q E s:=by
 obtain⟨m,hn,hl⟩:=id I.loc;have hcls:(X.env.scope.kind == .class||(X.env.scope.kind == .module&&X.env.locals != X.env.globals))=vG:=by rw[I.ok.kind];rfl
 have hiσ:i<σ.length:=by rw[I.len];exact(zG.mp hi).1
 have cne:=I.cne;have tracked:∀{a:xY}{h':Heap},(∃o,s.heap.get? a=vD o/\H a=vE)->qG a s.heap h'->HOk X.prog X.w H h':=λ{a h'}ha hs b ob e=>by
  obtain⟨_,_,hfree⟩:=ha;refine(I.hok b ob e).stay (λc w' hc q=>(hs.2 c ?_).trans q) (λ_ q=>q) λ_ _ q=>q
  rintro rfl;rcases hc with rfl|hc
  ·rw[hfree]at e;cases e
  ·rw[hfree]at hc;cases hc
 rcases hx with hk|hk
 ·refine wpAny_storeName_local hk hn (λh' hn' hs=>?_) hcls;obtain⟨oL,_,_,hoL,_⟩:=id hn;refine h _ ⟨I.ok,I.os,I.bare,⟨λb o e n hb hx=>?_,λb o e n hb hx=>?_,I.base.free,λb o e hx=>?_,I.base.tups,I.base.frzs,I.base.tbls⟩,⟨_,hn',λj y v' e1 e2 e3=>?_⟩,λy c e=>?_,I.free,I.Fw,λp hp=>?_,tracked ⟨oL,hoL,I.free⟩ hs,by simpa using I.len⟩ ⟨_,hs,.inl rfl⟩
  ·exact(hs.2 b (zC (zq (zj e) I.ok.above))).trans (I.base.keep b o e n hb hx)
  ·obtain⟨sl,e1⟩:=I.base.slot b o e n hb hx;exact⟨sl,(hs.2 b (zC (zq (zj e) I.ok.above))).trans e1⟩
  ·obtain⟨o',e1⟩:=I.base.there b o e hx;exact⟨o',(hs.2 b (zC (zq (zj e) I.ok.above))).trans e1⟩
  ·by_cases hj:j=i
   ·subst hj;rw[hi]at e1;cases e1;rw[jK hiσ]at e2;cases e2;exact⟨u,r,.inl ⟨hk,by simp⟩⟩
   ·rw[qL (Ne.symm hj)]at e2;obtain⟨u',r',q⟩:=hl j y v' e1 e2 e3;refine⟨u',r',?_⟩;rcases q with⟨k,e⟩|⟨k,c,e,z⟩
    ·refine .inl ⟨k,?_⟩;have:y≠x:=λe=>hj (Xb hN e1 (e▸hi))
     simp[this,e]
    ·exact .inr ⟨k,c,e,z.sameBut hs (cne y c e)⟩
  ·obtain⟨w',z⟩:=I.cell y c e;exact⟨w',z.sameBut hs (cne y c e)⟩
  ·obtain⟨e,n,ne,nf,d⟩:=I.pin p hp;exact⟨(hs.2 p.1 ne).trans e,n,ne,nf,d⟩
 ·have hfn:X.fn x=vF:=by
   rcases hf with z|z
   ·exact z
   ·rw[z]at hk;cases hk
  obtain⟨c,hc⟩:=I.ok.has x (.inl hk);obtain⟨w',z⟩:=I.cell x c hc;refine wpAny_storeName_cell I.ok.kind hk hc z (λh' hc' hs=>?_);obtain⟨oc,hoc,hocd⟩:=id z;refine h {s with heap:=h'} ⟨I.ok,I.os,I.bare,⟨λb o e n hb hx=>?_,λb o e n hb hx=>?_,I.base.free,λb o e hx=>?_,I.base.tups,I.base.frzs,I.base.tbls⟩,⟨m,hn.sameBut hs (Ne.symm (cne x c hc)),λj y v' e1 e2 e3=>?_⟩,λy c' e=>?_,I.free,I.Fw,λp hp=>?_,tracked ⟨oc,hoc,I.Fw x c hc⟩ hs,by simpa using I.len⟩ ⟨c,hs,.inr hc⟩
  ·exact(hs.2 b (zC (zq (zj e) (I.ok.cab x c hfn hc)))).trans (I.base.keep b o e n hb hx)
  ·obtain⟨sl,e1⟩:=I.base.slot b o e n hb hx;exact⟨sl,(hs.2 b (zC (zq (zj e) (I.ok.cab x c hfn hc)))).trans e1⟩
  ·obtain⟨o',e1⟩:=I.base.there b o e hx;exact⟨o',(hs.2 b (zC (zq (zj e) (I.ok.cab x c hfn hc)))).trans e1⟩
  ·by_cases hj:j=i
   ·subst hj;rw[hi]at e1;cases e1;rw[jK hiσ]at e2;cases e2;exact⟨u,r,.inr ⟨.inl hk,c,hc,hc'⟩⟩
   ·rw[qL (Ne.symm hj)]at e2;obtain⟨u',r',q⟩:=hl j y v' e1 e2 e3;refine⟨u',r',?_⟩;rcases q with q|⟨k,c',e,z'⟩
    ·exact .inl q
    ·refine .inr ⟨k,c',e,z'.sameBut hs ?_⟩;rintro rfl;exact hj (Xb hN e1 (I.ok.inj _ _ _ e hc▸hi))
  ·by_cases hcc:c'=c
   ·subst hcc;exact⟨_,hc'⟩
   ·obtain⟨w2,z2⟩:=I.cell y c' e;exact⟨w2,z2.sameBut hs hcc⟩
  ·obtain⟨e,n,ne,nf,d⟩:=I.pin p hp;refine⟨(hs.2 p.1 ?_).trans e,n,ne,nf,d⟩;intro q;rw[q,hoc]at e;have q':oc=p.2:=Option.some.inj e;exact d w' (by rw[<-q'];exact hocd)
theorem S9(I:Inv X vC σ H s)(hN:X.N.Nodup)(hi:X.N[i]?=vD x)(hx:Loc X.env.scope x)(r:RelV v u)
  (h:∀s',Inv X vC (σ.set i (vD v)) H s'->Q () s') (hf:X.fn x=vF∨X.env.scope.names.lookup x=vD .local:=by first|exact .inl rfl|exact .inr rfl|assumption):vK M A (storeName X.env x u) Q E s:=
 ZHT I hN hi hx r (λs' I' _=>h s' I') hf
theorem Inv.call'(I:Inv X vC σ H s)(ho:s'.os=s.os)(u:Un (frs X.stack) ch H H' s.heap s'.heap)(hok:HOk X.prog X.w H' s'.heap)(hg:AllBare s'.gens)
  (hch:∀b∈ch,(b∈X.ex∨X.s₀.heap.objs.size<=b)/\b≠X.env.locals/\(∀x c,X.env.cells.lookup x=vD c->c≠b)/\∀p∈X.pn++vC,p.1≠b):Inv X vC σ H' s':=by
 obtain⟨h',g',d',t',o'⟩:=s';have e:o'=s.os:=ho;subst e;exact I.call (g':=g') (t':=t') (d':=d') u hok hg hch
end
noncomputable abbrev XK:=xC->Option xY->Hp->Prop
noncomputable abbrev St:=List (Option V)
noncomputable abbrev VK:=V->Hp->Prop
noncomputable abbrev TE:=St->Hp->VK->Prop
variable{te:TE}
noncomputable abbrev TT:=St->Hp->(Bool->Hp->Prop)->Prop
noncomputable abbrev TA:=St->Hp->(List V->Hp->Prop)->Prop
structure Ends where
 nx:St->Hp->Prop
 rt:VK
 bk:St->Hp->Prop:=λ_ _=>False
 ct:St->Hp->Prop:=λ_ _=>False
noncomputable abbrev TS:=Ends->St->Hp->Prop
def EP(X:Cx)(vC:List (xY×Obj))(σ:St)(Q:VK)(u:xC)(s':xA):Prop:=∃v H',Inv X vC σ H' s'/\RelV v u/\Q v H'
def TP(X:Cx)(vC:List (xY×Obj))(σ:St)(Q:Bool->Hp->Prop)(b:Bool)(s':xA):Prop:=∃H',Inv X vC σ H' s'/\Q b H'
def AP(X:Cx)(vC:List (xY×Obj))(σ:St)(Q:List V->Hp->Prop)(us:List xC)(s':xA):Prop:=∃vs H',Inv X vC σ H' s'/\Vals vs us/\Q vs H'
def SP(X:Cx)(vC:List (xY×Obj))(D:Ends)(f:Flow)(s':xA):Prop:=
 match f with
 |.next=>∃σ' H',Inv X vC σ' H' s'/\D.nx σ' H'
 |.brk=>∃σ' H',Inv X vC σ' H' s'/\D.bk σ' H'
 |.cont=>∃σ' H',Inv X vC σ' H' s'/\D.ct σ' H'
 |.ret u=>∃v σ' H',Inv X vC σ' H' s'/\RelV v u/\D.rt v H'
def PE(X:Cx)(e:xz)(t:TE):Prop:=
 ∀(vC:List (xY×Obj))(s:xA)(σ:St)(H:Hp)(Q:VK),Inv X vC σ H s->t σ H Q->vK (vQ X.prog X.w) X.A (eval e X.env) (EP X vC σ Q) X.xe s
def PT(X:Cx)(e:xz)(t:TT):Prop:=
 ∀(vC:List (xY×Obj))(s:xA)(σ:St)(H:Hp)(Q:Bool->Hp->Prop),Inv X vC σ H s->t σ H Q->vK (vQ X.prog X.w) X.A (isTrue e X.env (eval e X.env)) (TP X vC σ Q) X.xe s
def PW(X:Cx)(e:xz)(t:TT):Prop:=
 ∀(whole:Sem xC)(vC:List (xY×Obj))(s:xA)(σ:St)(H:Hp)(Q:Bool->Hp->Prop),Inv X vC σ H s->t σ H Q->vK (vQ X.prog X.w) X.A (isTrue e X.env whole) (TP X vC σ Q) X.xe s
theorem PW.pt(h:PW X e t):PT X e t:=h _
def PA(X:Cx)(es:List xz)(t:TA):Prop:=
 ∀(pos:Pos)(vC:List (xY×Obj))(s:xA)(σ:St)(H:Hp)(Q:List V->Hp->Prop),Inv X vC σ H s->t σ H Q->vK (vQ X.prog X.w) X.A (spliced (xG pos (vV es X.env))) (AP X vC σ Q) X.xe s
def PS(X:Cx)(st:xB)(t:TS):Prop:=
 ∀(vC:List (xY×Obj))(s:xA)(σ:St)(H:Hp)(D:Ends),Inv X vC σ H s->t D σ H->vK (vQ X.prog X.w) X.A (exec st X.env) (SP X vC D) X.xe s
def PSs(X:Cx)(st:List xB)(t:TS):Prop:=
 ∀(vC:List (xY×Obj))(s:xA)(σ:St)(H:Hp)(D:Ends),Inv X vC σ H s->t D σ H->vK (vQ X.prog X.w) X.A (execs st X.env) (SP X vC D) X.xe s
theorem thn{α:Type}{t:Sem α}{Q Q':α->xA->Prop}{M:Model}{A:xq}{E:xC->xA->Prop}(h:vK M A t Q E s)(hQ:∀a s,Q a s->Q' a s):vK M A t Q' E s:=vk h hQ λ_ _ x=>x
section
variable{X:Cx}
noncomputable def Lh(i:Nat):TE:=λσ H Q=>∃v,σ[i]?=vD (vD v)/\Q v H
noncomputable def tC(v:V):TE:=λ_ H Q=>Q v H
theorem O9{i:Nat}{x:Str}{pos:Pos}(hN:X.N[i]?=vD x)(hv:Vis X.env.scope x)(hd:(x==("__debug__":Str))=vG:=by decide)(hcd:(x==("__classdict__":Str))=vG:=by decide):PE X (.Name x pos) (Lh i):=by
 intro vC s σ H Q I h;obtain⟨v,e,h⟩:=h;obtain⟨m,hn,hl⟩:=I.loc;obtain⟨u,r,l⟩:=hl i x v hN e hv;have fin:EP X vC σ Q u s:=⟨v,H,I,r,h⟩;rcases l with⟨hk,hm⟩|⟨hk,c,hc,hcell⟩
 ·exact wpAny_Name (wpAny_loadName_local I.ok.kind hk hn hm fin) hd
 ·rcases hk with hk|hk
  ·exact wpAny_Name (wpAny_loadName_cell I.ok.kind hk hc hcell fin) hd
  ·exact wpAny_Name (wpAny_loadName_free I.ok.kind hk hc hcell fin hcd) hd
theorem ZMP{i j pos}:PE X (.Constant (.int i) j pos) (tC (.int i)):=λ_ _ _ H _ I h=>wpAny_Constant_int ⟨.int i,H,I.tok _,⟨_,rfl⟩,h⟩
theorem ZSC{b j pos}:PE X (.Constant (.bool b) j pos) (tC (.bl b)):=λ_ _ _ H _ I h=>Constant_bool ⟨.bl b,H,I,rfl,h⟩
theorem ZNr{j pos}:PE X (.Constant .none j pos) (tC .non):=λ_ _ _ H _ I h=>Constant_none ⟨.non,H,I,rfl,h⟩
theorem Tf{x j pos}:PE X (.Constant (.str x) j pos) (tC (.str x)):=λ_ _ _ H _ I h=>Calls.Constant_str ⟨.str x,H,I.tok _,⟨_,rfl⟩,h⟩
def Gl(X:Cx)(x:Str):Prop:=X.env.kindOf x=vD .globalImplicit
theorem H9{E:xC->xA->Prop}{σ:St}{H:Hp}{x:Str}{u:xC}{pos:Pos}{Q:xC->xA->Prop}(I:Inv X vC σ H s)(hg:Gl X x)(hm:X.mg x=vD u)(h:Q u s)
  (hd:(x==("__debug__":Str))=vG:=by decide):vK (vQ X.prog X.w) X.A (eval (.Name x pos) X.env) Q E s:=
 Calls.Name_function_global I.ok.kind hg (Calls.loadGlobal_global (by rw[I.ok.glob];exact I.mod.glob.keeps I.bk) hm h) hd
theorem Gj{E:xC->xA->Prop}{σ:St}{H:Hp}{x:Str}{u:xC}{pos:Pos}{Q:xC->xA->Prop}(I:Inv X vC σ H s)(hg:Gl X x)(hm:X.mg x=vE)(hv:xM x=vD u)(h:Q u s)
  (hn:x≠"__name__":=by decide) (hd:(x==("__debug__":Str))=vG:=by decide):vK (vQ X.prog X.w) X.A (eval (.Name x pos) X.env) Q E s:=by
 obtain⟨mb,h1,h2⟩:=I.mod.blt;exact Calls.Name_function_global I.ok.kind hg (Calls.loadGlobal_builtin (by rw[I.ok.glob];exact I.mod.glob.keeps I.bk) hm (by rw[I.ok.blt];exact h1.keeps I.bk) ((h2 x hn).trans hv) h) hd
theorem Wx(hg:Gl X x)(hm:X.mg x=vD u)(r:RelV v u)(hd:(x==("__debug__":Str))=vG:=by decide):PE X (.Name x pos) (tC v):=
 λ_ _ _ H _ I h=>H9 I hg hm ⟨v,H,I,r,h⟩ hd
theorem ZHV{x:Str}{v:V}{u:xC}{pos:Pos}(hg:Gl X x)(hm:X.mg x=vE)(hv:xM x=vD u)(r:RelV v u)(hn:x≠"__name__":=by decide)(hd:(x==("__debug__":Str))=vG:=by decide):PE X (.Name x pos) (tC v):=
 λ_ _ _ H _ I h=>Gj I hg hm hv ⟨v,H,I,r,h⟩ hn hd
variable{a b:xz}{ta tb:TE}{pos:Pos}
def PC(X:Cx)(op:CmpOp)(a b:xz)(t:TE):Prop:=
 ∀(vC:List (xY×Obj))(s:xA)(σ:St)(H:Hp)(Q:VK),Inv X vC σ H s->t σ H Q->
  vK (vQ X.prog X.w) X.A (eval a X.env) (λv s₁=>vK (vQ X.prog X.w) X.A (eval b X.env) (λu s₂=>vK (vQ X.prog X.w) X.A (xP op v u) (EP X vC σ Q) X.xe s₂) X.xe s₁) X.xe s
noncomputable def tB(t:TE):TT:=λσ H Q=>t σ H λx H1=>∃c,x=.bl c/\Q c H1
theorem ZRJ{e:xz}{t:TE}(h:PE X e t)(he:∀whole,isTrue e X.env whole=(do let v<-whole;standAt e.pos;holding [v] (truthy v)):=by intro _;rfl):PT X e (tB t):=by intro vC s σ H Q I hw;refine isTrue_plain (thn (h vC s σ H _ I hw) λv s1 ⟨x,H1,I1,r1,q1⟩=>?_) (he _);obtain⟨d,rfl,q⟩:=q1;cases r1;exact v8 ⟨H1,I1,q⟩
variable{tA tB':TT}{rest:List xz}
noncomputable def tAnd(t u:TT):TT:=λσ H Q=>t σ H λc H1=>if c=vF then u σ H1 Q else Q vG H1
noncomputable def tOr(t u:TT):TT:=λσ H Q=>t σ H λc H1=>if c=vF then Q vF H1 else u σ H1 Q
noncomputable def tNot(t:TT):TT:=λσ H Q=>t σ H λc H1=>Q (!c) H1
theorem pw_and1(ha:PT X a tA):PW X (.BoolOp .And [a] pos) tA:=by
 intro wh vC s σ H Q I h;refine isTrue_and (thn (ha vC s σ H Q I h) λc s1 e=>?_);cases c with
 |true=>exact isTrue_and_nil e
 |false=>exact e
theorem pw_or1(ha:PT X a tA):PW X (.BoolOp .Or [a] pos) tA:=by
 intro wh vC s σ H Q I h;refine isTrue_or (thn (ha vC s σ H Q I h) λc s1 e=>?_);cases c with
 |false=>exact isTrue_or_nil e
 |true=>exact e
theorem pw_and(ha:PT X a tA)(hb:PW X (.BoolOp .And (b::rest) pos) tB'):PW X (.BoolOp .And (a::b::rest) pos) (tAnd tA tB'):=by
 intro wh vC s σ H Q I h;refine isTrue_and (thn (ha vC s σ H _ I h) λc s1 ⟨H1,I1,q1⟩=>?_);cases c with
 |true=>exact hb wh vC s1 σ H1 Q I1 q1
 |false=>exact⟨H1,I1,q1⟩
theorem pw_or(ha:PT X a tA)(hb:PW X (.BoolOp .Or (b::rest) pos) tB'):PW X (.BoolOp .Or (a::b::rest) pos) (tOr tA tB'):=by
 intro wh vC s σ H Q I h;refine isTrue_or (thn (ha vC s σ H _ I h) λc s1 ⟨H1,I1,q1⟩=>?_);cases c with
 |true=>exact⟨H1,I1,q1⟩
 |false=>exact hb wh vC s1 σ H1 Q I1 q1
theorem ZIu(ha:PT X a tA):PT X (.UnaryOp .Not a pos) (tNot tA):=by intro vC s σ H Q I h;exact isTrue_not (ha vC s σ H (λc H1=>Q (!c) H1) I h)
noncomputable def ZLR(ta tb:TE):TE:=λσ H Q=>ta σ H λx H1=>∃c,x=.bl c/\if c=vF then tb σ H1 Q else Q (.bl vG) H1
noncomputable def tOrV(ta tb:TE):TE:=λσ H Q=>ta σ H λx H1=>∃c,x=.bl c/\if c=vF then Q (.bl vF) H1 else tb σ H1 Q
noncomputable def ZKS(ta:TE):TE:=λσ H Q=>ta σ H λx H1=>∃c,x=.bl c/\Q (.bl (!c)) H1
theorem ZSX{op}(h:PE X a t):PE X (.BoolOp op [a] pos) t:=λvC s σ H Q I hw=>BoolOp_one (h vC s σ H Q I hw)
theorem ZIe(ha:PE X a ta)(hb:PE X (.BoolOp .And (b::rest) pos) tb):PE X (.BoolOp .And (a::b::rest) pos) (ZLR ta tb):=by
 intro vC s σ H Q I h;refine BoolOp_and (thn (ha vC s σ H _ I h) λv s1 ⟨x,H1,I1,r1,q1⟩=>?_);obtain⟨c,rfl,q1⟩:=q1;cases r1;refine v8 ?_;cases c with
 |true=>exact hb vC s1 σ H1 Q I1 q1
 |false=>exact⟨.bl vG,H1,I1,rfl,q1⟩
theorem ZNc(ha:PE X a ta)(hb:PE X (.BoolOp .Or (b::rest) pos) tb):PE X (.BoolOp .Or (a::b::rest) pos) (tOrV ta tb):=by
 intro vC s σ H Q I h;refine BoolOp_or (thn (ha vC s σ H _ I h) λv s1 ⟨x,H1,I1,r1,q1⟩=>?_);obtain⟨c,rfl,q1⟩:=q1;cases r1;refine v8 ?_;cases c with
 |false=>exact hb vC s1 σ H1 Q I1 q1
 |true=>exact⟨.bl vF,H1,I1,rfl,q1⟩
theorem ZLv(ha:PE X a ta):PE X (.UnaryOp .Not a pos) (ZKS ta):=by intro vC s σ H Q I h;refine UnaryOp_ (thn (ha vC s σ H _ I h) λv s1 ⟨x,H1,I1,r1,q1⟩=>?_);obtain⟨c,rfl,q1⟩:=q1;cases r1;exact not_of (v8 ⟨.bl (!c),H1,I1,rfl,q1⟩)
noncomputable def tIf(t:TT)(ta tb:TE):TE:=λσ H Q=>t σ H λc H1=>if c=vF then ta σ H1 Q else tb σ H1 Q
theorem ZMx{c:xz}(hc:PT X c tA)(ha:PE X a ta)(hb:PE X b tb):PE X (.IfExp c a b pos) (tIf tA ta tb):=by
 intro vC s σ H Q I h;refine wpAny_IfExp (thn (hc vC s σ H _ I h) λd s1 ⟨H1,I1,q1⟩=>?_);cases d with
 |true=>exact ha vC s1 σ H1 Q I1 q1
 |false=>exact hb vC s1 σ H1 Q I1 q1
end
def SqL(K:PySem.W.Frag)(H:Hp)(a:xY)(xs:List V):Prop:=
 Rd H a (.lst xs)∨
  ∃(o:Obj)(its:Array xC)(n:Nat),K.lookup a=vD o/\o.cls=.type "list"/\o.dict=vE/\o.data=.seq its n/\its.size<=sizeLine/\Vals xs its.toList
def SqT(K:PySem.W.Frag)(H:Hp)(a:xY)(xs:List V):Prop:=
 Rd H a (.tup xs)∨
  ∃(o:Obj)(its:Array xC)(n:Nat),K.lookup a=vD o/\o.cls=.type "tuple"/\o.data=.seq its n/\its.size<=sizeLine/\Vals xs its.toList
noncomputable def absV:xC->Option V
 |.none=>vD .non
 |.bool b=>vD (.bl b)
 |.int i _=>vD (.int i)
 |.str x _=>vD (.str x)
 |.bytes b _=>vD (.byt b)
 |.float b _=>vD (.flt b)
 |.ref a=>vD (.ref a)
 |.type n=>vD (.ty n)
 |_=>vE
theorem RelV.abs(r:RelV x u):absV u=vD x:=by
 cases x with
 |non=>cases r;rfl
 |bl _=>cases r;rfl
 |int _=>obtain⟨t,rfl⟩:=r;rfl
 |str _=>obtain⟨t,rfl⟩:=r;rfl
 |byt _=>obtain⟨t,rfl⟩:=r;rfl
 |flt _=>obtain⟨t,rfl⟩:=r;rfl
 |ref _=>cases r;rfl
 |ty _=>cases r;rfl
theorem RelV.inj(r:RelV x u)(q:RelV y u):x=y:=Option.some.inj (r.abs.symm.trans q.abs)
theorem Vals.inj:∀{xs ys:List V}{us:List xC},Vals xs us->Vals ys us->xs=ys
 |_,_,_,.nil,.nil=>rfl
 |_,_,_,.cons r t,.cons r' t'=>by rw[r.inj r',Vals.inj t t']
section
variable{X:Cx}{vC:List (xY×Obj)}{σ:St}{H:Hp}{s:xA}{a:xY}{xs ys:List V}
theorem SqL.of(h:H a=vD (.lst xs)):SqL K H a xs:=.inl (.inl h)
theorem SqT.of(h:H a=vD (.tup xs)):SqT K H a xs:=.inl (.inl h)
theorem Inv.list(I:Inv X vC σ H s)(h:SqL X.K H a xs):∃its:List xC,Vals xs its/\PlainL s.heap a its.toArray/\xs.length<=sizeLine:=by
 rcases h with h|⟨o,its,n,hk,hc,hd,hs,hz,r⟩
 ·obtain⟨z,its,n,r,e⟩:=h.ok I.hok;exact⟨its,r,⟨_,n,e,rfl,rfl,rfl⟩,z⟩
 ·refine⟨its.toList,r,⟨o,n,I.kIn a o hk,hc,hd,by simpa using hs⟩,?_⟩;have e:=r.length;simp only[qD]at e;lia
theorem Inv.tuple(I:Inv X vC σ H s)(h:SqT X.K H a xs):∃its:List xC,Vals xs its/\IsTup s.heap a its.toArray/\xs.length<=sizeLine:=by
 rcases h with h|⟨o,its,n,hk,hc,hs,hz,r⟩
 ·obtain⟨z,its,r,p⟩:=h.ok I.hok;exact⟨its,r,p,z⟩
 ·refine⟨its.toList,r,⟨o,I.kIn a o hk,hc,n,by simpa using hs⟩,?_⟩;have e:=r.length;simp only[qD]at e;lia
theorem Inv.ZAB(I:Inv X vC σ H s)(h:SqL X.K H a xs)(h':SqL X.K H a ys):xs=ys:=by
 obtain⟨its,r,⟨o,n,e,_,_,d⟩,_⟩:=I.list h;obtain⟨its',r',⟨o',n',e',_,_,d'⟩,_⟩:=I.list h';rw[e]at e';cases e';rw[d]at d';injection d' with d1 _
 have:its=its':=by simpa using congrArg Array.toList d1
 subst this;exact r.inj r'
theorem Inv.ZA9(I:Inv X vC σ H s)(h:SqT X.K H a xs)(h':SqT X.K H a ys):xs=ys:=by
 obtain⟨its,r,⟨o,e,_,n,d⟩,_⟩:=I.tuple h;obtain⟨its',r',⟨o',e',_,n',d'⟩,_⟩:=I.tuple h';rw[e]at e';cases e';rw[d]at d';injection d' with d1 _
 have:its=its':=by simpa using congrArg Array.toList d1
 subst this;exact r.inj r'
end
noncomputable abbrev Cx.wish(X:Cx)(E:xC->xA->Prop):Cx:={X with xe:=E}
noncomputable abbrev Cx.nox(X:Cx):Cx:=X.wish λ_ _=>False
theorem Cx.Ok.wish{X:Cx}(ok:X.Ok)(E:xC->xA->Prop):(X.wish E).Ok:=
 ⟨ok.mod,ok.kind,ok.glob,ok.blt,ok.above,ok.inj,ok.has,ok.cab,ok.hd,ok.frames,ok.stk,ok.exf,ok.bs,ok.bsz,ok.noex,ok.exfs,ok.funs,ok.frf⟩
theorem Cx.Ok.unwish{X:Cx}{E:xC->xA->Prop}(ok:(X.wish E).Ok):X.Ok:=
 ⟨ok.mod,ok.kind,ok.glob,ok.blt,ok.above,ok.inj,ok.has,ok.cab,ok.hd,ok.frames,ok.stk,ok.exf,ok.bs,ok.bsz,ok.noex,ok.exfs,ok.funs,ok.frf⟩
section
variable{X:Cx}{vC:List (xY×Obj)}{σ:St}{H:Hp}{s:xA}{E:xC->xA->Prop}
theorem Inv.wish(I:Inv X vC σ H s)(E:xC->xA->Prop):Inv (X.wish E) vC σ H s:=⟨I.ok.wish E,I.os,I.bare,I.base,I.loc,I.cell,I.free,I.Fw,I.pin,I.hok,I.len⟩
theorem Inv.unwish(I:Inv (X.wish E) vC σ H s):Inv X vC σ H s:=⟨I.ok.unwish,I.os,I.bare,I.base,I.loc,I.cell,I.free,I.Fw,I.pin,I.hok,I.len⟩
theorem SP.unwish(h:SP (X.wish E) vC D f s'):SP X vC D f s':=by
 cases f with
 |next=>obtain⟨σ',H',I,q⟩:=h;exact⟨σ',H',I.unwish,q⟩
 |brk=>obtain⟨σ',H',I,q⟩:=h;exact⟨σ',H',I.unwish,q⟩
 |cont=>obtain⟨σ',H',I,q⟩:=h;exact⟨σ',H',I.unwish,q⟩
 |ret u=>obtain⟨v,σ',H',I,r,q⟩:=h;exact⟨v,σ',H',I.unwish,r,q⟩
theorem PSs.nox{st:List xB}{t:TS}(h:PSs X.nox st t):PSs X st t:=λvC s σ H D I hw=>
 vk (h vC s σ H D (I.wish _) hw) (λ_ _ q=>q.unwish) λ_ _ z=>False.elim z
end
section
variable{X:Cx}{st:xB}{rest:List xB}{t u:TS}{e:xz}{te:TE}{pos:Pos}
noncomputable def ZJG:TS:=λD σ H=>D.nx σ H
noncomputable def tSeq(t u:TS):TS:=λD σ H=>t {D with nx:=u D} σ H
theorem ZMD:PSs X [] ZJG:=λ_ _ σ H _ I h=>wpAny_execs_nil ⟨σ,H,I,h⟩
theorem ZEo(h1:PS X st t)(h2:PSs X rest u):PSs X (st::rest) (tSeq t u):=by
 intro vC s σ H D I h;refine wpAny_execs_cons (thn (h1 vC s σ H {D with nx:=u D} I h) λf s1 q=>?_);cases f with
 |next=>
  obtain⟨σ',H',I',q⟩:=q;exact h2 vC s1 σ' H' D I' q
 |ret v=>exact q
 |brk=>exact q
 |cont=>exact q
theorem ZFP(h1:PS X st t):PSs X [st] t:=by
 intro vC s σ H D I h;refine wpAny_execs_cons (thn (h1 vC s σ H D I h) λf s1 q=>?_);cases f with
 |next=>exact wpAny_execs_nil q
 |ret v=>exact q
 |brk=>exact q
 |cont=>exact q
theorem Inv.quiet{σ:St}{H:Hp}(I:Inv X vC σ H s):interactive X.env=vG:=by simp[interactive,I.ok.kind]
noncomputable def ZP4(te:TE):TS:=λD σ H=>te σ H λ_ H1=>D.nx σ H1
theorem ZDl(he:PE X e te)(hs:swapsWith e vE pos.line X.env=pure vG:=by rfl):PS X (.Expr e pos) (ZP4 te):=by intro vC s σ H D I h;exact wpAny_Expr_any (thn (he vC s σ H _ I h) λv s1 ⟨x,H1,I1,r1,q1⟩=>⟨σ,H1,I1,q1⟩) I.quiet hs
noncomputable def tRet(te:TE):TS:=λD σ H=>te σ H D.rt
theorem ZM9(he:PE X e te):PS X (.Return (vD e) pos) (tRet te):=by intro vC s σ H D I h;exact wpAny_Return_some (thn (he vC s σ H _ I h) λv s1 ⟨x,H1,I1,r1,q1⟩=>⟨x,σ,H1,I1,r1,q1⟩)
noncomputable def tIfS(c:TT)(t u:TS):TS:=λD σ H=>c σ H λb H1=>if b=vF then t D σ H1 else u D σ H1
theorem ZKg{c:xz}{a b:List xB}{tc:TT}(hc:PT X c tc)(ha:PSs X a t)(hb:PSs X b u):PS X (.If c a b pos) (tIfS tc t u):=by
 intro vC s σ H D I h;refine wpAny_If (thn (hc vC s σ H _ I h) λd s1 ⟨H1,I1,q1⟩=>?_);cases d with
 |true=>exact ha vC s1 σ H1 D I1 q1
 |false=>exact hb vC s1 σ H1 D I1 q1
end
noncomputable abbrev TG:=V->St->Hp->(St->Hp->Prop)->Prop
noncomputable abbrev TGs:=List V->St->Hp->(St->Hp->Prop)->Prop
def PG(X:Cx)(target:xz)(t:TG):Prop:=
 ∀(vC:List (xY×Obj))(s:xA)(σ:St)(H:Hp)(v:V)(u:xC)(Q:St->Hp->Prop),Inv X vC σ H s->RelV v u->t v σ H Q->
  vK (vQ X.prog X.w) X.A (assign target X.env u) (λ_ s'=>∃σ' H',Inv X vC σ' H' s'/\Q σ' H') X.xe s
def PGs(X:Cx)(ts:List xz)(t:TGs):Prop:=
 ∀(vC:List (xY×Obj))(s:xA)(σ:St)(H:Hp)(vs:List V)(us:List xC)(Q:St->Hp->Prop),Inv X vC σ H s->Vals vs us->t vs σ H Q->
  vK (vQ X.prog X.w) X.A (assignInOrder ((xE ts X.env).map (·.2)) us) (λ_ s'=>∃σ' H',Inv X vC σ' H' s'/\Q σ' H') X.xe s
noncomputable abbrev TSet:=V->V->V->Hp->(Hp->Prop)->Prop
def PSet(X:Cx)(t:TSet):Prop:=
 ∀(vC:List (xY×Obj))(s:xA)(σ:St)(H:Hp)(o i v:V)(ov iv u:xC)(Q:Hp->Prop),Inv X vC σ H s->RelV o ov->RelV i iv->RelV v u->t o i v H Q->
  vK (vQ X.prog X.w) X.A (setItem ov iv u) (λ_ s'=>∃H',Inv X vC σ H' s'/\Q H') X.xe s
noncomputable abbrev TIp:=V->V->Hp->VK->Prop
def PIp(X:Cx)(op:Operator)(t:TIp):Prop:=
 ∀(vC:List (xY×Obj))(s:xA)(σ:St)(H:Hp)(x y:V)(v u:xC)(Q:VK),Inv X vC σ H s->RelV x v->RelV y u->t x y H Q->
  vK (vQ X.prog X.w) X.A (inplaceOp op v u) (EP X vC σ Q) X.xe s
section
variable{X:Cx}{pos:Pos}
noncomputable def ZFB(i:Nat):TG:=λv σ H Q=>Q (σ.set i (vD v)) H
theorem ZOe(hN:X.N.Nodup)(hi:X.N[i]?=vD x)(hx:Loc X.env.scope x)(hf:X.fn x=vF∨X.env.scope.names.lookup x=vD .local:=by first|exact .inl rfl|exact .inr rfl|assumption):PG X (.Name x pos) (ZFB i):=by intro vC s σ H v u Q I r h;exact wpAny_assign_Name (S9 I hN hi hx r (λs' I'=>⟨_,H,I',h⟩) hf)
noncomputable def gNil:TGs:=λvs σ H Q=>vs=[]/\Q σ H
noncomputable def ZOj(t:TG)(u:TGs):TGs:=λvs σ H Q=>∃v r,vs=v::r/\t v σ H λσ' H'=>u r σ' H' Q
theorem ZLW:PGs X [] gNil:=by intro vC s σ H vs us Q I r h;obtain⟨e,h⟩:=h;subst e;cases r;exact assignInOrder_nil ⟨σ,H,I,h⟩
theorem ZKX{e:xz}{es:List xz}{t:TG}{u:TGs}(h1:PG X e t)(h2:PGs X es u)
  (hs:(xE (e::es) X.env).map (·.2)=assign e X.env::(xE es X.env).map (·.2):=by rfl):PGs X (e::es) (ZOj t u):=by
 intro vC s σ H vs us Q I r h;obtain⟨v,vr,e1,h⟩:=h;subst e1;cases r with
 |cons r rr=>
  rw[hs];refine assignInOrder_cons (thn (h1 vC s σ H _ _ _ I r h) λ_ s1 ⟨σ1,H1,I1,q1⟩=>?_);exact h2 vC s1 σ1 H1 _ _ Q I1 rr q1
noncomputable def gTup(K:PySem.W.Frag)(n:Nat)(t:TGs):TG:=λv σ H Q=>∃a xs,v=.ref a/\SqT K H a xs/\xs.length=n/\t xs σ H Q
theorem ZJ8{es:List xz}{k:Nat}{t:TGs}{n:Nat}(hc:X.calm=vF)(h:PGs X es t)
  (hn:(xE es X.env).length=n:=by rfl) (hst:(xE es X.env).findIdx? (·.1)=vE:=by rfl):PG X (.Tuple es k pos) (gTup X.K n t):=by
 intro vC s σ H v u Q I r hw;obtain⟨a,xs,e1,hq,hl,hw⟩:=hw;subst e1;cases r;obtain⟨its,rv,ht,hz⟩:=I.tuple hq;refine assign_Tuple_tuple (I.ok.hd hc) ht (by simp[hn,<-hl,rv.length]) hst λh' hx=>?_
 have I1:Inv X vC σ H {s with heap:=h'}:=I.kept (t':=s.toks) λb o e=>hx b o (zC (zj e)) e
 exact h vC _ σ H xs _ Q I1 (by simpa using rv) hw
noncomputable def gSub(to ti:TE)(t:TSet):TG:=λv σ H Q=>to σ H λo H1=>ti σ H1 λi H2=>t o i v H2 λH3=>Q σ H3
theorem ZKf{o i:xz}{to ti:TE}{t:TSet}(ho:PE X o to)(hi:PE X i ti)(hs:PSet X t)
  (ha:∀v,assign (.Subscript o i pos) X.env v=(do
   let ov<-holding [v] (eval o X.env);let iv<-holding [v,ov] (eval i X.env)
   standAt pos
   holding [v,ov,iv] (setItem ov iv v)
   release [v,ov,iv] []):=by intro _;rfl):PG X (.Subscript o i pos) (gSub to ti t):=by
 intro vC s σ H v u Q I r h;rw[ha];refine vq (vv (thn (ho vC s σ H _ I h) λov s1 ⟨x,H1,I1,r1,q1⟩=>?_));refine vq (vv (thn (hi vC s1 σ H1 _ I1 q1) λiv s2 ⟨y,H2,I2,r2,q2⟩=>?_));refine vq (wpAny_standAt (vq (vv (thn (hs vC s2 σ H2 x y v ov iv u _ I2 r1 r2 r q2) λ_ s3 ⟨H3,I3,q3⟩=>?_))));exact wpAny_release ⟨σ,H3,I3,q3⟩
noncomputable def Zm(te:TE)(g:TG):TS:=λD σ H=>te σ H λx H1=>g x σ H1 D.nx
theorem ZSU{e:xz}{g:TG}(he:PE X e te)(hg:PG X tg g)(hs:swapsWithSole [tg] e pos.line X.env=pure vG:=by rfl)(hw:swappedStores [tg] e X.env=pure vE:=by rfl)
  (h1:(xE [tg] X.env).map (·.2)=[assign tg X.env]:=by rfl):PS X (.Assign [tg] e pos) (Zm te g):=by
 intro vC s σ H D I h;refine wpAny_Assign_stores (thn (he vC s σ H _ I h) λv s1 ⟨x,H1,I1,r1,q1⟩=>?_) hs hw;rw[h1];exact thn (hg vC s1 σ H1 x v _ I1 r1 q1) λ_ s2 q=>q
theorem ZMF{i:Nat}{x:Str}{e:xz}{pos':Pos}(hN:X.N.Nodup)(hi:X.N[i]?=vD x)(hx:Loc X.env.scope x)(he:PE X e te)(hs:swapsWith e (vD (.Name x pos')) pos.line X.env=pure vG:=by rfl)(hf:X.fn x=vF∨X.env.scope.names.lookup x=vD .local:=by first|exact .inl rfl|exact .inr rfl|assumption):
  PS X (.Assign [.Name x pos'] e pos) (Zm te (ZFB i)):=by
 intro vC s σ H D I h;refine wpAny_Assign_Name (thn (he vC s σ H _ I h) λv s1 ⟨y,H1,I1,r1,q1⟩=>?_) hs;exact S9 I1 hN hi hx r1 (λs2 I2=>⟨_,H1,I2,q1⟩) hf
noncomputable def tAug(i:Nat)(te:TE)(ti:TIp):TS:=λD σ H=>∃x,σ[i]?=vD (vD x)/\te σ H λy H1=>ti x y H1 λz H2=>D.nx (σ.set i (vD z)) H2
theorem ZJ5{i:Nat}{x:Str}{e:xz}{op:Operator}{ti:TIp}{pos':Pos}(hN:X.N.Nodup)(hi:X.N[i]?=vD x)(hx:Loc X.env.scope x)(he:PE X e te)(ho:PIp X op ti)(hf:X.fn x=vF∨X.env.scope.names.lookup x=vD .local:=by first|exact .inl rfl|exact .inr rfl|assumption):
  PS X (.AugAssign (.Name x pos') op e pos) (tAug i te ti):=by
 intro vC s σ H D I h;obtain⟨v,e1,h⟩:=h;obtain⟨m,hn,hl⟩:=I.loc;have vis:Vis X.env.scope x:=by rcases hx with k|k;exact .inl k;exact .inr (.inl k)
 obtain⟨u,r,l⟩:=hl i x v hi e1 vis;refine wpAny_AugAssign_Name ?_
 have go:vK (vQ X.prog X.w) X.A (eval e X.env) (λw s₂=>vK (vQ X.prog X.w) X.A (inplaceOp op u w) (λr s₃=>vK (vQ X.prog X.w) X.A (storeName X.env x r) (λ_=>SP X vC D .next) X.xe s₃) X.xe s₂) X.xe s:=by
  refine thn (he vC s σ H _ I h) λw s1 ⟨y,H1,I1,r1,q1⟩=>?_
  refine thn (ho vC s1 σ H1 v y u w _ I1 r r1 q1) λz s2 ⟨zv,H2,I2,r2,q2⟩=>?_
  exact S9 I2 hN hi hx r2 (λs3 I3=>⟨_,H2,I3,q2⟩) hf
 rcases l with⟨hk,hm⟩|⟨hk,c,hc,hcell⟩
 ·exact wpAny_loadName_local I.ok.kind hk hn hm go
 ·rcases hk with hk|hk
  ·exact wpAny_loadName_cell I.ok.kind hk hc hcell go
  ·rcases hx with k|k
   ·have:X.env.scope.names.lookup x=vD .free:=hk;rw[k]at this;cases this
   ·have:X.env.scope.names.lookup x=vD .free:=hk;rw[k]at this;cases this
noncomputable def ipI(f:Int->Int->Int):TIp:=λx y H Q=>∃i j,x=.int i/\y=.int j/\Q (.int (f i j)) H
theorem ZIh:PIp X .Add (ipI λi j=>i+j):=by intro vC s σ H x y v u Q I r1 r2 h;obtain⟨i,j,e1,e2,q⟩:=h;subst e1;subst e2;obtain⟨t,rfl⟩:=r1;obtain⟨t',rfl⟩:=r2;exact iadd_int ⟨.int _,H,I.tok _,⟨_,rfl⟩,q⟩
theorem ZQw:PIp X .Sub (ipI λi j=>i-j):=by intro vC s σ H x y v u Q I r1 r2 h;obtain⟨i,j,e1,e2,q⟩:=h;subst e1;subst e2;obtain⟨t,rfl⟩:=r1;obtain⟨t',rfl⟩:=r2;exact isub_int ⟨.int _,H,I.tok _,⟨_,rfl⟩,q⟩
end
section
variable{X:Cx}{pos:Pos}
def ZJb(c:TT)(tb:TS):TS:=λD σ H=>∃W:Nat->St->Hp->Prop,(∃m,W m σ H)/\∀m σ H,W m σ H->
 c σ H λb H1=>if b=vF then∃N:St->Hp->Prop,(∀σ' H',N σ' H'->∃m',m'<m/\W m' σ' H')/\tb {D with nx:=N,ct:=N,bk:=D.nx} σ H1 else D.nx σ H1
theorem ZKD{c:xz}{body:List xB}{tc:TT}{tb:TS}(hp:PassesOwn (vQ X.prog X.w) X.A X.env X.xe)(hc:PT X c tc)(hb:PSs X body tb):PS X (.While c body [] pos) (ZJb tc tb):=by
 intro vC s σ H D I h;obtain⟨W,⟨m0,w0⟩,turn⟩:=h;refine wpAny_While (codeAny_whileLoop (λn s'=>∃σ' H',Inv X vC σ' H' s'/\W n σ' H') ?_ m0 ⟨σ,H,I,w0⟩);rintro n s1 ⟨σ1,H1,I1,w1⟩;refine v5 hp (thn (hc vC s1 σ1 H1 _ I1 (turn n σ1 H1 w1)) λb s2 ⟨H2,I2,q2⟩=>?_);cases b with
 | true=>
  obtain⟨N,hN,q2⟩:=q2;rw[if_pos rfl];refine v5 hp (thn (hb vC s2 σ1 H2 _ I2 q2) λf s3 q3=>?_);cases f with
  |next=>
   obtain⟨σ3,H3,I3,n3⟩:=q3;obtain⟨m',hm,w3⟩:=hN σ3 H3 n3;exact⟨m',hm,σ3,H3,I3,w3⟩
  |cont=>
   obtain⟨σ3,H3,I3,n3⟩:=q3;obtain⟨m',hm,w3⟩:=hN σ3 H3 n3;exact⟨m',hm,σ3,H3,I3,w3⟩
  |brk=>exact q3
  |ret v=>exact q3
 |false=>
  rw[if_neg zk];exact wpAny_execs_nil ⟨σ1,H2,I2,q2⟩
end
structure It where
 go:Nat->Hp->Prop
 yld:Nat->Hp->V->Hp->Prop
 stop:Nat->Hp->Prop
def FpOk(X:Cx)(vC:List (xY×Obj))(H:Hp)(b:xY):Prop:=
 H b=vE/\b≠X.env.locals/\b∉X.fs/\(b∈X.ex∨X.s₀.heap.objs.size<=b)/\(∀x c,X.env.cells.lookup x=vD c->c≠b)/\∀p∈X.pn++vC,p.1≠b
theorem Inv.Ha{X:Cx}{σ:St}{H H':Hp}{b:xY}(I:Inv X vC σ H s)(hb:s.heap.objs.size<=b)(hn:H' b=vE):FpOk X vC H' b:=by
 refine⟨hn,jV (zq I.lt hb),I.nofs hb,.inr (z5 I.sz hb),λx c e z=>?_,λp hp z=>?_⟩
 ·obtain⟨v,q⟩:=I.cell x c e;exact absurd (zq q.lt (by rw[z];exact hb)) (qQ _)
 ·exact absurd (zq (zj (I.pin p hp).1) (by rw[z];exact hb)) (qQ _)
structure Turn (P:xy) (w:xD) (K:PySem.W.Frag) (tg:xz) (J:It) (fp:List xY) (it:xY) (tn:Nat->Heap->Prop):Prop where
 mem:it∈fp
 obj:∀i h,tn i h->∀b∈fp,∃o,h.get? b=vD o/\∀v,o.data≠ .cell v
 keep:∀i h h',tn i h->(∀b∈fp,∀o,h.get? b=vD o->h'.get? b=vD o)->tn i h'
 item:∀(X:Cx),X.prog=P->X.w=w->X.K=K->X.calm=vF->∀(i:Nat)(vC:List (xY×Obj))(s:xA)(σ:St)(H:Hp)(E:xC->xA->Prop),Inv X vC σ H s->(∀b∈fp,FpOk X vC H b)->tn i s.heap->J.go i H->
  vK (vQ P w) X.A (pyNext (.ref it)) (λr s1=>∃u,r=vD u/\
   vK (vQ P w) X.A (xT tg (.ref it) u) (λ_ s2=>∃x H',Inv X vC σ H' s2/\RelV x u/\J.yld i H x H'/\tn (i+1) s2.heap/\∀b∈fp,H' b=vE) E s1) E s
 done:∀(X:Cx),X.prog=P->X.w=w->X.K=K->X.calm=vF->∀(i:Nat)(vC:List (xY×Obj))(s:xA)(σ:St)(H:Hp)(E:xC->xA->Prop),Inv X vC σ H s->(∀b∈fp,FpOk X vC H b)->tn i s.heap->J.stop i H->
  vK (vQ P w) X.A (pyNext (.ref it)) (λr s1=>r=vE/\Inv X vC σ H s1) E s
 self:∀(A:xq)(i:Nat)(s:xA)(Q:xC->xA->Prop)(E:xC->xA->Prop),tn i s.heap->Q (.ref it) s->vK (vQ P w) A (pyIter (.ref it)) Q E s
noncomputable abbrev TI:=St->Hp->(It->Hp->Prop)->Prop
def PIE(X:Cx)(vC:List (xY×Obj))(σ:St)(tg:xz)(R:It->Hp->Prop)(itv:xC)(s2:xA):Prop:=
 ∃(it:xY)(fp:List xY)(tn:Nat->Heap->Prop)(J:It)(H':Hp),itv=.ref it/\Inv X vC σ H' s2/\Turn X.prog X.w X.K tg J fp it tn/\tn 0 s2.heap/\(∀b∈fp,FpOk X vC H' b)/\R J H'
def PI(X:Cx)(tg iter:xz)(wi:TI):Prop:=
 ∀(vC:List (xY×Obj))(s:xA)(σ:St)(H:Hp)(R:It->Hp->Prop),Inv X vC σ H s->wi σ H R->
  vK (vQ X.prog X.w) X.A (eval iter X.env) (λv s1=>vK (vQ X.prog X.w) X.A (pyIter v) (PIE X vC σ tg R) X.xe s1) X.xe s
theorem Ly(ho:s.heap.get? it=vD o)(hc:o.cls=.type n)(hd:o.data=.fields vs)
  (hn: ["enumerate","zip","dict_itemiterator","dict_reverseitemiterator","odict_iterator","itertools.zip_longest","itertools.pairwise"].contains n=vG) (hQ:Q () s):vK M A (xT tg (.ref it) u) Q E s:=by
 unfold xT
 cases tg<;>first
  |exact v6 hQ
  | (cases u<;>first
    |exact v6 hQ
    | (
      refine vq (wpAny_load ho ?_);rw[hc,hd];show vK M A (if(["enumerate","zip","dict_itemiterator","dict_reverseitemiterator","odict_iterator","itertools.zip_longest","itertools.pairwise"].contains n&&vs[0]?==vD (vZ _))=vF then _ else _) Q E s;rw[if_neg (by intro h;rw[hn,Bool.false_and]at h;cases h)];exact v6 hQ))
noncomputable def Itl(K:PySem.W.Frag)(a:xY):It:=
 ⟨λi H=>∃xs x,SqL K H a xs/\xs[i]?=vD x,λi H x H'=>H'=H/\∀xs,SqL K H a xs->xs[i]?=vD x,λi H=>∃xs,SqL K H a xs/\xs.length<=i⟩
noncomputable def Itt(K:PySem.W.Frag)(a:xY):It:=
 ⟨λi H=>∃xs x,SqT K H a xs/\xs[i]?=vD x,λi H x H'=>H'=H/\∀xs,SqT K H a xs->xs[i]?=vD x,λi H=>∃xs,SqT K H a xs/\xs.length<=i⟩
noncomputable def Itr(lo:Int)(n:Nat):It:=⟨λi _=>i<n,λi H x H'=>H'=H/\x=.int (lo+i),λi _=>n<=i⟩
theorem ZMI{w:xD}(a it:xY):Turn P w K tg (Itl K a) [it] it (λi h=>h.IsListIter it a i) where
 mem:=by simp
 obj:=λi h st b hb=>by
  have e:b=it:=by simpa using hb
  subst e;obtain⟨o,e,c,d⟩:=st;exact⟨o,e,λv z=>by rw[d]at z;cases z⟩
 keep:=λi h h' st k=>st.at λo e=>k it (by simp) o e
 item:=by
  intro X hP hw hK hc i vC s σ H E I hf st hg;subst hP hw hK;obtain⟨xs,x,hq,hx⟩:=hg;obtain⟨its,rv,p,hz⟩:=I.list hq;obtain⟨u,hu,ru⟩:=rv.get hx;obtain⟨f0,f1,f2,f3,f4,f5⟩:=hf it (by simp);refine wpAny_pyNext_list_item st p.isList (x:=u) (by simpa using hu) λh' st' sb=>?_
  have I1:Inv X vC σ H {s with heap:=h'}:=I.turned (t':=s.toks) (λb o hb e=>(sb.2 b hb).trans e) f0 f1 f3 f4 f5;obtain⟨o,e,c,d⟩:=id st';exact⟨u,rfl,Ly (s:={s with heap:=h'}) e c d (by decide) ⟨x,H,I1,ru,⟨rfl,λys hy=>by rw[I.ZAB hy hq];exact hx⟩,st',λb hb=>(hf b hb).1⟩⟩
 done:=by intro X hP hw hK hc i vC s σ H E I hf st hg;subst hP hw hK;obtain⟨xs,hq,hx⟩:=hg;obtain⟨its,rv,p,hz⟩:=I.list hq;obtain⟨f0,f1,f2,f3,f4,f5⟩:=hf it (by simp);have hl:=rv.length;exact wpAny_pyNext_list_end (I.ok.hd hc) st p.isList (by simp;lia) λh' eb=>⟨rfl,I.turned (t':=s.toks) (λb o hb e=>eb b o hb e) f0 f1 f3 f4 f5⟩
 self:=λ_ _ _ _ _ st h=>wpAny_pyIter_listiter st h
theorem ZMp{w:xD}(a it:xY):Turn P w K tg (Itt K a) [it] it (λi h=>h.IsTupleIter it a i) where
 mem:=by simp
 obj:=λi h st b hb=>by
  have e:b=it:=by simpa using hb
  subst e;obtain⟨o,e,c,d⟩:=st;exact⟨o,e,λv z=>by rw[d]at z;cases z⟩
 keep:=λi h h' st k=>st.at λo e=>k it (by simp) o e
 item:=by
  intro X hP hw hK hc i vC s σ H E I hf st hg;subst hP hw hK;obtain⟨xs,x,hq,hx⟩:=hg;obtain⟨its,rv,p,hz⟩:=I.tuple hq;obtain⟨u,hu,ru⟩:=rv.get hx;obtain⟨f0,f1,f2,f3,f4,f5⟩:=hf it (by simp)
  refine wpAny_pyNext_tuple_item st (show s.heap.IsTuple a its.toArray from p) (x:=u) (by simpa using hu) λh' st' sb=>?_
  have I1:Inv X vC σ H {s with heap:=h'}:=I.turned (t':=s.toks) (λb o hb e=>(sb.2 b hb).trans e) f0 f1 f3 f4 f5;obtain⟨o,e,c,d⟩:=id st';exact⟨u,rfl,Ly (s:={s with heap:=h'}) e c d (by decide) ⟨x,H,I1,ru,⟨rfl,λys hy=>by rw[I.ZA9 hy hq];exact hx⟩,st',λb hb=>(hf b hb).1⟩⟩
 done:=by
  intro X hP hw hK hc i vC s σ H E I hf st hg;subst hP hw hK;obtain⟨xs,hq,hx⟩:=hg;obtain⟨its,rv,p,hz⟩:=I.tuple hq;obtain⟨f0,f1,f2,f3,f4,f5⟩:=hf it (by simp);have hl:=rv.length
  exact wpAny_pyNext_tuple_end (I.ok.hd hc) st (show s.heap.IsTuple a its.toArray from p) (by simp;lia) λh' eb=>⟨rfl,I.turned (t':=s.toks) (λb o hb e=>eb b o hb e) f0 f1 f3 f4 f5⟩
 self:=λ_ _ _ _ _ st h=>wpAny_pyIter_tupleiter st h
theorem ZMW{w:xD}(it:xY)(lo:Int)(n:Nat):Turn P w K tg (Itr lo n) [it] it (λi h=>IsRangeIter h it (lo+(i:Nat)*1) ((n:Int)-(i:Nat)) 1) where
 mem:=by simp
 obj:=λi h st b hb=>by
  have e:b=it:=by simpa using hb
  subst e;exact⟨_,st,λv z=>by have z':Data.fields _=Data.cell v:=z;cases z'⟩
 keep:=λi h h' st k=>k it (by simp) _ st
 item:=by
  intro X hP hw hK hc i vC s σ H E I hf st hg;subst hP hw hK;obtain⟨f0,f1,f2,f3,f4,f5⟩:=hf it (by simp);have W:=Walks.range (prog:=X.prog) (w:=X.w) (I.ok.hd hc) it lo 1 n;refine W.item i s _ _ hg st λv h' tk hv st' kk=>?_
  obtain⟨t,rfl⟩:=hv;have I1:Inv X vC σ H {s with heap:=h',toks:=tk}:=I.turned (λb o hb e=>kk b o (by simpa using hb) e) f0 f1 f3 f4 f5;refine⟨_,rfl,Ly (s:={s with heap:=h',toks:=tk}) (n:="range_iterator") st' rfl rfl (by decide) ⟨.int (lo+i),H,I1,⟨t,?_⟩,⟨rfl,rfl⟩,st',λb hb=>(hf b hb).1⟩⟩;rw[Int.mul_one]
 done:=by intro X hP hw hK hc i vC s σ H E I hf st hg;subst hP hw hK;obtain⟨f0,f1,f2,f3,f4,f5⟩:=hf it (by simp);exact wpAny_pyNext_range_end (I.ok.hd hc) st (by have:n<=i:=hg;lia) λh' eb=>⟨rfl,I.turned (t':=s.toks) (λb o hb e=>eb b o hb e) f0 f1 f3 f4 f5⟩
 self:=λ_ _ _ _ _ st h=>wpAny_pyIter_rangeiter st h
section
variable{X:Cx}{tg:xz}
def ZMe(K:PySem.W.Frag)(tl:TE):TI:=λσ H R=>tl σ H λx H1=>∃a,x=.ref a/\(∃xs,SqL K H1 a xs)/\R (Itl K a) H1
def iTup(K:PySem.W.Frag)(tl:TE):TI:=λσ H R=>tl σ H λx H1=>∃a,x=.ref a/\(∃xs,SqT K H1 a xs)/\R (Itt K a) H1
theorem Xj{l:xz}{tl:TE}(hl:PE X l tl):PI X tg l (ZMe X.K tl):=by
 intro vC s σ H R I h;refine thn (hl vC s σ H _ I h) λv s1 ⟨x,H1,I1,r1,q1⟩=>?_
 obtain⟨a,e,⟨xs,hq⟩,q⟩:=q1;subst e;cases r1;obtain⟨its,rv,p,hz⟩:=I1.list hq;refine wpAny_pyIter_list p.isList ?_;refine⟨s1.heap.objs.size,[s1.heap.objs.size],_,_,H1,rfl,I1.kept (t':=s1.toks) λb o e=>zQ _ e,ZMI a _,⟨_,zy _ rfl,rfl,rfl⟩,λb hb=>?_,q⟩;have e:b=s1.heap.objs.size:=by simpa using hb
 subst e;exact I1.Ha (zY _) (I1.hok.fresh (zY _))
theorem ZM0{l:xz}{tl:TE}(hl:PE X l tl):PI X tg l (iTup X.K tl):=by
 intro vC s σ H R I h;refine thn (hl vC s σ H _ I h) λv s1 ⟨x,H1,I1,r1,q1⟩=>?_
 obtain⟨a,e,⟨xs,hq⟩,q⟩:=q1;subst e;cases r1;obtain⟨its,rv,p,hz⟩:=I1.tuple hq
 refine wpAny_pyIter_tuple (show s1.heap.IsTuple a its.toArray from p) ?_
 refine⟨s1.heap.objs.size,[s1.heap.objs.size],_,_,H1,rfl,I1.kept (t':=s1.toks) λb o e=>zQ _ e,ZMp a _,⟨_,zy _ rfl,rfl,rfl⟩,λb hb=>?_,q⟩;have e:b=s1.heap.objs.size:=by simpa using hb
 subst e;exact I1.Ha (zY _) (I1.hok.fresh (zY _))
theorem ZP9{σ:St}{H:Hp}{R:It->Hp->Prop}{E:xC->xA->Prop}{lo hi:Int}{t u v:Tok}{tk:Nat}(I:Inv X vC σ H s)(h1: -(2^62)<=lo)(h2:lo<2^62)(h3: -(2^62)<=hi)(h4:hi<2^62)
  (q:R (Itr lo (hi-lo).toNat) H):vK (vQ X.prog X.w) X.A (pyIter (.ref s.heap.objs.size)) (PIE X vC σ tg R) E {s with heap:=s.heap.push {cls:=.type "range",data:=.fields #[.int lo t,.int hi u,.int 1 v]},toks:=tk}:=by
 refine wpAny_pyIter_range (IsRange.new ..) (small_one h1 h2 h3 h4) ?_;have I1:Inv X vC σ H {s with heap:=s.heap.push {cls:=.type "range",data:=.fields #[.int lo t,.int hi u,.int 1 v]},toks:=tk}:=I.kept λb o e=>zQ _ e
 refine⟨(s.heap.push {cls:=.type "range",data:=.fields #[.int lo t,.int hi u,.int 1 v]}).objs.size,[(s.heap.push {cls:=.type "range",data:=.fields #[.int lo t,.int hi u,.int 1 v]}).objs.size],_,_,H,rfl,
  I1.kept (t':=tk) λb o e=>zQ _ e,ZMW _ lo (hi-lo).toNat,?_,λb hb=>?_,q⟩
 ·have e1:lo+((0:Nat):Int)*1=lo:=by simp
  have e2:(((hi-lo).toNat:Nat):Int)-((0:Nat):Int)=Builtin.Range.rangeSize lo hi 1:=by rw[rangeSize_one];split <;> lia
  show IsRangeIter _ _ (lo+((0:Nat):Int)*1) ((((hi-lo).toNat:Nat):Int)-((0:Nat):Int)) 1;rw[e1,e2];exact zy _ rfl
 ·have e:b=(s.heap.push {cls:=.type "range",data:=.fields #[.int lo t,.int hi u,.int 1 v]}).objs.size:=by simpa using hb
  subst e;exact I1.Ha (zY _) (I1.hok.fresh (zY _))
def ZLB(ta:TA):TI:=λσ H R=>ta σ H λvs H1=>∃j:Int,vs=[.int j]/\ -(2^62)<=j/\j<2^62/\R (Itr 0 j.toNat) H1
theorem ZQo{a:xz}{ta:TA}{p pos:Pos}(hg:Gl X "range")(hm:X.mg "range"=vE)(ha:PA X [a] ta)(hs:vV [a] X.env=[(vG,eval a X.env)]:=by rfl):PI X tg (.Call (.Name "range" p) [a] [] pos) (ZLB ta):=by
 intro vC s σ H R I h;refine Call_ (Gj I hg hm boot_range (PyProof.Rows.callWith_type1 (thn (ha pos vC s σ H _ I h) λus s1 ⟨vs,H1,I1,r1,q1⟩=>?_) hs rfl));obtain⟨j,e,q1,q2,q⟩:=q1;subst e;cases r1 with
 |cons r rr=>
  cases rr;obtain⟨t,rfl⟩:=r;exact call_range_1 (ZP9 I1 (by lia) (by lia) q1 q2 (by simpa using q))
def tFor(wi:TI)(g:TG)(tb:TS):TS:=λD σ H=>wi σ H λJ H1=>∃W:Nat->Nat->St->Hp->Prop,(∃m,W 0 m σ H1)/\∀i m σ H,W i m σ H->
 (J.stop i H/\D.nx σ H)∨(J.go i H/\∃N:St->Hp->Prop,(∀σ' H',N σ' H'->∃m',m'<m/\W (i+1) m' σ' H')/\∀x H',J.yld i H x H'->g x σ H' λσ2 H2=>tb {D with nx:=N,ct:=N,bk:=D.nx} σ2 H2)
noncomputable def My(fp:List xY)(h:Heap):List (xY×Obj):=fp.filterMap λb=>(h.get? b).map λo=>(b,o)
theorem Qw(hb:b∈fp)(e:h.get? b=vD o):(b,o)∈My fp h:=jC.mpr ⟨b,hb,by rw[e];rfl⟩
theorem ZCR(hp:p∈My fp h):p.1∈fp/\h.get? p.1=vD p.2:=by
 obtain⟨b,hb,e⟩:=jC.mp hp;cases q:h.get? b with
 |none=>rw[q]at e;cases e
 |some o=>
  rw[q]at e;have e':(b,o)=p:=Option.some.inj e;subst e';exact⟨hb,q⟩
theorem Inv.pinned{σ:St}{H:Hp}{fp:List xY}(I:Inv X vC σ H s)(hf:∀b∈fp,FpOk X vC H b)(ho:∀b∈fp,∃o,s.heap.get? b=vD o/\∀v,o.data≠ .cell v):Inv X (vC++My fp s.heap) σ H s:=
 I.Io λp hp=>(j9.mp hp).elim (λz=>I.pin p (zP _ z)) λz=>by obtain⟨hb,e⟩:=ZCR z;obtain⟨f0,f1,f2,_⟩:=hf p.1 hb;obtain⟨o,e',d⟩:=ho p.1 hb;rw[e]at e';cases e';exact⟨e,f0,f1,f2,d⟩
theorem Inv.unpinned{pl:List (xY×Obj)}{σ:St}{H:Hp}(I:Inv X (vC++pl) σ H s):Inv X vC σ H s:=I.Io λp hp=>I.pin p (zP _ (jS _ hp))
theorem ZRF(hp:PassesOwn (vQ X.prog X.w) X.A X.env X.xe)(hc:X.calm=vF)(hi:PI X tg iter wi)(hg:PG X tg g)(hb:PSs X body tb)
  (hs:∀x,foldedSetIterable iter X.env x=pure x:=by intro _;rfl):PS X (.For tg iter body [] pos) (tFor wi g tb):=by
 intro vC s σ H D I h;refine wpAny_For (thn (hi vC s σ H _ I h) λv s1 h1=>thn h1 λitv s2 h2=>?_) hs;obtain⟨it,fp,tn,J,H2,e,I2,T,st2,f2,W,⟨m0,w0⟩,turn⟩:=h2;subst e;have stat:∀{H':Hp},(∀b∈fp,H' b=vE)->∀b∈fp,FpOk X vC H' b:=λhn b hb=>⟨hn b hb,(f2 b hb).2⟩
 refine codeAny_forLoop_any (λn s'=>∃i σ' H',Inv X vC σ' H' s'/\tn i s'.heap/\(∀b∈fp,H' b=vE)/\W i n σ' H') ?_ m0 ⟨0,σ,H2,I2,st2,λb hb=>(f2 b hb).1,w0⟩;rintro n s3 ⟨i,σ3,H3,I3,st3,fr3,w3⟩;rcases turn i n σ3 H3 w3 with⟨stop,qn⟩|⟨go,N,hN,step⟩
 ·refine v5 hp (thn (T.done X rfl rfl rfl hc i vC s3 σ3 H3 X.xe I3 (stat fr3) st3 stop) λr s4 ⟨hr,I4⟩=>?_);subst hr;exact wpAny_execs_nil ⟨σ3,H3,I4,qn⟩
 ·refine v5 hp (thn (T.item X rfl rfl rfl hc i vC s3 σ3 H3 X.xe I3 (stat fr3) st3 go) λr s4 ⟨u,hr,h4⟩=>?_);subst hr;refine v5 hp (thn h4 λ_ s5 ⟨x,H5,I5,r5,y5,st5,fr5⟩=>?_);have I5':=I5.pinned (stat fr5) (T.obj _ _ st5);refine v5 hp (thn (hg _ s5 σ3 H5 x u _ I5' r5 (step x H5 y5)) λ_ s6 ⟨σ6,H6,I6,q6⟩=>?_);refine v5 hp (thn (hb _ s6 σ6 H6 _ I6 q6) λf s7 q7=>?_)
  have again:∀{σ7:St}{H7:Hp},Inv X (vC++My fp s5.heap) σ7 H7 s7->N σ7 H7->∃m,m<n/\∃i σ' H',Inv X vC σ' H' s7/\tn i s7.heap/\(∀b∈fp,H' b=vE)/\W i m σ' H':=λ{σ7 H7}I7 n7=>by obtain⟨m',hm,w7⟩:=hN σ7 H7 n7;refine⟨m',hm,i+1,σ7,H7,I7.unpinned,T.keep _ _ _ st5 λb hb o e=>(I7.pin (b,o) (zP _ (zP _ (Qw hb e)))).1,λb hb=>?_,w7⟩;obtain⟨o,e,d⟩:=T.obj _ _ st5 b hb;exact(I7.pin (b,o) (zP _ (zP _ (Qw hb e)))).2.1
  cases f with
  |next=>obtain⟨σ7,H7,I7,n7⟩:=q7;exact again I7 n7
  |cont=>obtain⟨σ7,H7,I7,n7⟩:=q7;exact again I7 n7
  |brk=>obtain⟨σ7,H7,I7,q7⟩:=q7;exact⟨σ7,H7,I7.unpinned,q7⟩
  |ret v=>obtain⟨x7,σ7,H7,I7,r7,q7⟩:=q7;exact⟨x7,σ7,H7,I7.unpinned,r7,q7⟩
end
noncomputable abbrev R2:=V->V->Hp->VK->Prop
def OpR(X:Cx)(f:xC->xC->Sem xC)(r:R2):Prop:=
 ∀(vC:List (xY×Obj))(s:xA)(σ:St)(H:Hp)(x y:V)(v u:xC)(Q:VK),Inv X vC σ H s->RelV x v->RelV y u->r x y H Q->
  vK (vQ X.prog X.w) X.A (f v u) (EP X vC σ Q) X.xe s
def UnR(X:Cx)(f:xC->Sem xC)(r:V->Hp->VK->Prop):Prop:=
 ∀(vC:List (xY×Obj))(s:xA)(σ:St)(H:Hp)(x:V)(v:xC)(Q:VK),Inv X vC σ H s->RelV x v->r x H Q->
  vK (vQ X.prog X.w) X.A (f v) (EP X vC σ Q) X.xe s
def CallR(X:Cx)(f:xC)(r:List V->Hp->VK->Prop):Prop:=
 ∀(vC:List (xY×Obj))(s:xA)(σ:St)(H:Hp)(xs:List V)(us:List xC)(Q:VK),Inv X vC σ H s->Vals xs us->r xs H Q->
  vK (vQ X.prog X.w) X.A (call f us) (EP X vC σ Q) X.xe s
noncomputable def tOp(r:R2)(ta tb:TE):TE:=λσ H Q=>ta σ H λx H1=>tb σ H1 λy H2=>r x y H2 Q
noncomputable def tUn(r:V->Hp->VK->Prop)(ta:TE):TE:=λσ H Q=>ta σ H λx H1=>r x H1 Q
noncomputable def rI(C:Int->Int->Prop)(g:Int->Int->V):R2:=λx y H Q=>∃i j,x=.int i/\y=.int j/\C i j/\Q (g i j) H
noncomputable def rI0(g:Int->Int->V):R2:=λx y H Q=>∃i j,x=.int i/\y=.int j/\Q (g i j) H
def rU(g:Int->V):V->Hp->VK->Prop:=λx H Q=>∃i,x=.int i/\Q (g i) H
section
variable{X:Cx}{a b c:xz}{ta tb tc:TE}{pos:Pos}
theorem ZBG(ha:PE X a ta)(hb:PE X b tb){σ:St}{H:Hp}{R:V->V->Hp->Prop}(I:Inv X vC σ H s)
  (h:ta σ H λx H1=>tb σ H1 λy H2=>R x y H2) {Q:xC->xA->Prop} {f:xC->xC->Sem xC}
  (hf:∀v u s2 x y H2,Inv X vC σ H2 s2->RelV x v->RelV y u->R x y H2->vK (vQ X.prog X.w) X.A (f v u) Q X.xe s2):
  vK (vQ X.prog X.w) X.A (eval a X.env) (λv s₁=>vK (vQ X.prog X.w) X.A (eval b X.env) (λu s₂=>vK (vQ X.prog X.w) X.A (f v u) Q X.xe s₂) X.xe s₁) X.xe s:=by
 refine thn (ha vC s σ H _ I h) λv s1 ⟨x,H1,I1,r1,q1⟩=>?_
 refine thn (hb vC s1 σ H1 _ I1 q1) λu s2 ⟨y,H2,I2,r2,q2⟩=>?_
 exact hf v u s2 x y H2 I2 r1 r2 q2
theorem ZMC{op:Operator}{r:R2}(ho:OpR X (xL op) r)(ha:PE X a ta)(hb:PE X b tb):PE X (.BinOp a op b pos) (tOp r ta tb):=by intro vC s σ H Q I h;exact wpAny_BinOp (ZBG ha hb I h λv u s2 x y H2 I2 rx ry q=>ho vC s2 σ H2 x y v u Q I2 rx ry q)
theorem ZND(ho:UnR X (unaryOp op) r)(ha:PE X a ta):PE X (.UnaryOp op a pos) (tUn r ta):=by intro vC s σ H Q I h;exact UnaryOp_ (thn (ha vC s σ H _ I h) λv s1 ⟨x,H1,I1,r1,q1⟩=>ho vC s1 σ H1 x v Q I1 r1 q1)
theorem opI{f:xC->xC->Sem xC}{C:Int->Int->Prop}{g:Int->Int->Int}
  (rule:∀(i j:Int)(t u:Tok)(s:xA)(Q:xC->xA->Prop)(E:xC->xA->Prop),C i j->Q (.int (g i j) s.toks) {s with toks:=s.toks+1}->vK (vQ X.prog X.w) X.A (f (.int i t) (.int j u)) Q E s):
  OpR X f (rI C λi j=>.int (g i j)):=by
 intro vC s σ H x y v u Q I rx ry h;obtain⟨i,j,rfl,rfl,hc,q⟩:=h;obtain⟨t,rfl⟩:=rx;obtain⟨t',rfl⟩:=ry;exact rule i j t t' s _ _ hc ⟨.int (g i j),H,I.tok _,⟨_,rfl⟩,q⟩
theorem opI0{f:xC->xC->Sem xC}{g:Int->Int->Int}
  (rule:∀(i j:Int)(t u:Tok)(s:xA)(Q:xC->xA->Prop)(E:xC->xA->Prop),Q (.int (g i j) s.toks) {s with toks:=s.toks+1}->vK (vQ X.prog X.w) X.A (f (.int i t) (.int j u)) Q E s):
  OpR X f (rI0 λi j=>.int (g i j)):=by
 intro vC s σ H x y v u Q I rx ry h;obtain⟨i,j,rfl,rfl,q⟩:=h;obtain⟨t,rfl⟩:=rx;obtain⟨t',rfl⟩:=ry;exact rule i j t t' s _ _ ⟨.int (g i j),H,I.tok _,⟨_,rfl⟩,q⟩
theorem Us{f:xC->xC->Sem xC}{g:Int->Int->Bool}
  (rule:∀(i j:Int)(t u:Tok)(s:xA)(Q:xC->xA->Prop)(E:xC->xA->Prop),Q (.bool (g i j)) s->vK (vQ X.prog X.w) X.A (f (.int i t) (.int j u)) Q E s):
  OpR X f (rI0 λi j=>.bl (g i j)):=by
 intro vC s σ H x y v u Q I rx ry h;obtain⟨i,j,rfl,rfl,q⟩:=h;obtain⟨t,rfl⟩:=rx;obtain⟨t',rfl⟩:=ry;exact rule i j t t' s _ _ ⟨.bl (g i j),H,I,rfl,q⟩
def CPow(i j:Int):Prop:=0<=j/\j<=1000000/\i.natAbs<2^64
def CMul(i j:Int):Prop:=(-(2^64)<i/\i<2^64)∨(-(2^64)<j/\j<2^64)
theorem CMul.ok(h:CMul i j):IntMulOk i j:=by
 rcases h with⟨h1,h2⟩|⟨h1,h2⟩
 ·exact .of_left (intBits_le_64 h1 h2)
 ·exact .of_right (intBits_le_64 h1 h2)
theorem ZN4:OpR X (xL .Add) (rI0 λi j=>.int (i+j)):=opI0 λ_ _ _ _ _ _ _ q=>add_int q
theorem ZMB:OpR X (xL .Sub) (rI0 λi j=>.int (i-j)):=opI0 λ_ _ _ _ _ _ _ q=>sub_int q
theorem ZRw:OpR X (xL .Mod) (rI (λ_ j=>0<j) λi j=>.int (i%j)):=opI λi j _ _ _ _ _ hc q=>by have h1:(0:Int)<j:=hc;exact mod_int' (by lia) (by rw[Int.fmod_eq_emod_of_nonneg i (by lia)];exact q)
theorem ZPx:OpR X (xL .Pow) (rI CPow λi j=>.int (i^j.toNat)):=opI λ_ _ _ _ _ _ _ hc q=>pow_int_small hc.1 hc.2.1 hc.2.2 q
theorem unI{f:xC->Sem xC}{g:Int->Int}
  (rule:∀(i:Int)(t:Tok)(s:xA)(Q:xC->xA->Prop)(E:xC->xA->Prop),Q (.int (g i) s.toks) {s with toks:=s.toks+1}->vK (vQ X.prog X.w) X.A (f (.int i t)) Q E s):
  UnR X f (rU λi=>.int (g i)):=by
 intro vC s σ H x v Q I rx h;obtain⟨i,rfl,q⟩:=h;obtain⟨t,rfl⟩:=rx;exact rule i t s _ _ ⟨.int (g i),H,I.tok _,⟨_,rfl⟩,q⟩
theorem ZR6:UnR X (unaryOp .USub) (rU λi=>.int (-i)):=unI λ_ _ _ _ _ q=>neg_int q
end
section
variable{X:Cx}{a b c:xz}{ta tb tc:TE}{pos:Pos}
theorem Zn{σ:St}{H:Hp}{Q:VK}{k k':Bool}(I:Inv X vC σ H s)(q:Q (.bl k) H)(e:k=k'):EP X vC σ Q (.bool k') s:=by subst e;exact⟨.bl k,H,I,rfl,q⟩
theorem ZPV:OpR X (xP .Lt) (rI0 λi j=>.bl (decide (i<j))):=Us λ_ _ _ _ _ _ _ q=>lt_int q
theorem ZOg:OpR X (xP .LtE) (rI0 λi j=>.bl (decide (i<=j))):=Us λ_ _ _ _ _ _ _ q=>le_int q
theorem ZMU:OpR X (xP .Gt) (rI0 λi j=>.bl (decide (j<i))):=Us λ_ _ _ _ _ _ _ q=>gt_int q
theorem ZSE:OpR X (xP .GtE) (rI0 λi j=>.bl (decide (j<=i))):=Us λ_ _ _ _ _ _ _ q=>ge_int q
theorem ZLd:OpR X (xP .Lt) (λx y H Q=>∃i j,x=.str i/\y=.str j/\Q (.bl (decide (i.cps.toList<j.cps.toList))) H):=by intro vC s σ H x y v u Q I rx ry h;obtain⟨i,j,rfl,rfl,q⟩:=h;obtain⟨t,rfl⟩:=rx;obtain⟨t',rfl⟩:=ry;exact lt_str (Zn I q rfl)
theorem ZRg:OpR X (xP .Is) (λx y H Q=>y=.non/\Q (.bl (decide (x=.non))) H):=by
 intro vC s σ H x y v u Q I rx ry h;obtain⟨rfl,q⟩:=h;cases ry;refine is_none_gen (Zn I q ?_)
 cases x<;>first
  |(cases rx;rfl)
  |(obtain⟨t,rfl⟩:=rx;rfl)
theorem ZM5:OpR X (xP .IsNot) (λx y H Q=>y=.non/\Q (.bl (!decide (x=.non))) H):=by
 intro vC s σ H x y v u Q I rx ry h;obtain⟨rfl,q⟩:=h;cases ry;refine isnot_none_gen (Zn I q ?_)
 cases x<;>first
  |(cases rx;rfl)
  |(obtain⟨t,rfl⟩:=rx;rfl)
theorem OpR.or(h:OpR X f r)(h':OpR X f r'):OpR X f (λx y H Q=>r x y H Q∨r' x y H Q):=by
 intro vC s σ H x y v u Q I rx ry q;rcases q with q|q
 ·exact h vC s σ H x y v u Q I rx ry q
 ·exact h' vC s σ H x y v u Q I rx ry q
theorem nomark(b:xz)(h:op≠ .In:=by decide)(h2:op≠ .NotIn:=by decide):xI op b=vG:=by
 have e1:(op==CmpOp.In)=vG:=by cases op<;>first|rfl|exact absurd rfl h
 have e2:(op==CmpOp.NotIn)=vG:=by cases op<;>first|rfl|exact absurd rfl h2
 cases b<;>simp[xI,e1,e2]
theorem ZIp{op:CmpOp}{r:R2}(ho:OpR X (xP op) r)(ha:PE X a ta)(hb:PE X b tb)(hm:xI op b=vG):PE X (.Compare a [op] [b] pos) (tOp r ta tb):=by intro vC s σ H Q I h;exact wpAny_Compare1 (ZBG ha hb I h λv u s2 x y H2 I2 rx ry q=>ho vC s2 σ H2 x y v u Q I2 rx ry q) hm
noncomputable def Od(t:TE):TT:=λσ H Q=>t σ H λx H'=>∃k,x=.bl k/\Q k H'
theorem ZIm(ho:OpR X (xP op) r)(ha:PE X a ta)(hb:PE X b tb)(hm:xI op b=vG):PT X (.Compare a [op] [b] pos) (Od (tOp r ta tb)):=by
 intro vC s σ H Q I h;refine wpAny_isTrue_Compare1 (thn (ha vC s σ H _ I h) λv s1 ⟨x,H1,I1,r1,q1⟩=>thn (hb vC s1 σ H1 _ I1 q1) λu s2 ⟨y,H2,I2,r2,q2⟩=>
  thn (ho vC s2 σ H2 x y v u _ I2 r1 r2 q2) λc s3 ⟨z,H3,I3,r3,k,e,q3⟩=>?_) hm
 subst e;cases r3;exact v8 ⟨H3,I3,q3⟩
noncomputable def ZD2(r r':R2)(ta tb tc:TE):TE:=λσ H Q=>ta σ H λx H1=>tb σ H1 λy H2=>r x y H2 λz H3=>∃k,z=.bl k/\
 (if k=vF then tc σ H3 λw' H4=>r' y w' H4 Q else Q (.bl vG) H3)
theorem ZRG(ho:OpR X (xP op) r)(ho':OpR X (xP op') r')(ha:PE X a ta)(hb:PE X b tb)(hc:PE X c tc)
  (hm:lastMarks [op,op'] [b,c]=vG:=by with_unfolding_all rfl):PT X (.Compare a [op,op'] [b,c] pos) (Od (ZD2 r r' ta tb tc)):=by
 intro vC s σ H Q I h;refine isTrue_chain (thn (ha vC s σ H _ I h) λv s1 ⟨x,H1,I1,r1,q1⟩=>test_link (thn (hb vC s1 σ H1 _ I1 q1) λu s2 ⟨y,H2,I2,r2,q2⟩=>
  thn (ho vC s2 σ H2 x y v u _ I2 r1 r2 q2) λd s3 ⟨z,H3,I3,r3,k,e,q3⟩=>?_)) hm
 subst e;cases r3;refine v8 ?_;cases k with
 |false=>
  obtain⟨k',e',q'⟩:=q3;cases e';exact ite_ff ⟨H3,I3,q'⟩
 |true=>
  refine ite_tt (test_last (thn (hc vC s3 σ H3 _ I3 q3) λw' s4 ⟨z',H4,I4,r4,q4⟩=>thn (ho' vC s4 σ H4 y z' u w' _ I4 r2 r4 q4) λd' s5 ⟨z2,H5,I5,r5,k2,e2,q5⟩=>?_));subst e2;cases r5;exact v8 ⟨H5,I5,q5⟩
theorem line63:(sizeLine:Nat)<2^63:=by rw[vJ];decide
theorem ZJB:OpR X (xL .Add) (λx y H Q=>∃i j,x=.str i/\y=.str j/\i.length+j.length<=sizeLine/\Q (.str (i++j)) H):=by intro vC s σ H x y v u Q I rx ry h;obtain⟨i,j,rfl,rfl,hz,q⟩:=h;obtain⟨t,rfl⟩:=rx;obtain⟨t',rfl⟩:=ry;exact add_str (λt' tk=>⟨.str (i++j),H,I.tok _,⟨_,rfl⟩,q⟩) hz
theorem ZJz:OpR X (inplaceOp .Add) (λx y H Q=>∃i j,x=.str i/\y=.str j/\i.length+j.length<=sizeLine/\Q (.str (i++j)) H):=by intro vC s σ H x y v u Q I rx ry h;obtain⟨i,j,rfl,rfl,hz,q⟩:=h;obtain⟨t,rfl⟩:=rx;obtain⟨t',rfl⟩:=ry;exact iadd_str (λt' tk=>⟨.str (i++j),H,I.tok _,⟨_,rfl⟩,q⟩) hz
theorem vals1(r:Vals [x] us):∃u,us=[u]/\RelV x u:=by
 cases r with
 |cons r1 r2=>cases r2;exact⟨_,rfl,r1⟩
theorem vals2(r:Vals [x,y] us):∃u w',us=[u,w']/\RelV x u/\RelV y w':=by
 cases r with
 |cons r1 r2=>
  cases r2 with
  |cons r3 r4=>cases r4;exact⟨_,_,rfl,r1,r3⟩
theorem ZKL(hc:X.calm=vF):CallR X (.builtin "max") (λxs H Q=>∃i j,xs=[.int i,.int j]/\Q (.int (if j>i then j else i)) H):=by
 intro vC s σ H xs us Q I r h;obtain⟨i,j,rfl,q⟩:=h;obtain⟨u,w',rfl,⟨t,rfl⟩,⟨t',rfl⟩⟩:=vals2 r;refine max_two_ints (I.ok.hd hc) λh' tk k=>⟨_,H,I.kept k,?_,q⟩
 by_cases hj:j>i
 ·rw[if_pos hj,if_pos hj];exact⟨_,rfl⟩
 ·rw[if_neg hj,if_neg hj];exact⟨_,rfl⟩
theorem ZNs(hc:X.calm=vF):CallR X (.builtin "min") (λxs H Q=>∃i j,xs=[.int i,.int j]/\Q (.int (if j<i then j else i)) H):=by
 intro vC s σ H xs us Q I r h;obtain⟨i,j,rfl,q⟩:=h;obtain⟨u,w',rfl,⟨t,rfl⟩,⟨t',rfl⟩⟩:=vals2 r;refine min_two_ints (I.ok.hd hc) λh' tk k=>⟨_,H,I.kept k,?_,q⟩
 by_cases hj:j<i
 ·rw[if_pos hj,if_pos hj];exact⟨_,rfl⟩
 ·rw[if_neg hj,if_neg hj];exact⟨_,rfl⟩
theorem ZRB:CallR X (.type "int") (λxs H Q=>(∃i,xs=[.int i]/\Q (.int i) H)∨∃k,xs=[.bl k]/\Q (.int (if k then 1 else 0)) H):=by
 intro vC s σ H xs us Q I r h;rcases h with⟨i,rfl,q⟩|⟨k,rfl,q⟩
 ·obtain⟨u,rfl,t,rfl⟩:=vals1 r;exact call_int_int ⟨.int i,H,I,⟨_,rfl⟩,q⟩
 ·obtain⟨u,rfl,r1⟩:=vals1 r;cases r1;exact call_int_bool ⟨.int (if k then 1 else 0),H,I.tok _,⟨_,rfl⟩,q⟩
end
structure ObjM (h:Heap) (x dx C:xY) (mA:Str->Option xC):Prop where
 obj:h.get? x=vD (PySem.W.instObj C dx)
 ns:h.Ns1 dx mA
 ne:dx≠x
theorem Y7{h:Heap}{dx:xY}{mA:Str->Option xC}(n:h.Ns1 dx mA):∃od,h.get? dx=vD od/\∀name,PySem.W.lookIn name od=vD (mA name):=by
 obtain⟨o,es,ep,ho,hd,hk,_,hm⟩:=n;refine⟨o,ho,λname=>?_⟩;have e:=hm name;unfold nsFind findBy at e;rw[<-Array.find?_toList]at e;unfold PySem.W.lookIn;rw[hd];dsimp only;split
 ·rename_i y q;rw[q]at e;exact congrArg vD e
 ·rename_i q;rw[q]at e
  have a:es.toList.any (·.refKey)=vG:=by rw[List.any_eq_false];intro y hy;obtain⟨z,t,hkey⟩:=hk y (Array.mem_toList_iff.mp hy);simp[DictEntry.refKey,hkey]
  have a':¬es.toList.any (·.refKey)=vF:=by rw[a];exact zk
  rw[if_neg a'];exact congrArg vD e
theorem ObjM.look(I:ObjM h x dx C mA):∃od,PySem.W.InstAt h x (PySem.W.instObj C dx) C (vD od)/\∀name,PySem.W.lookIn name od=vD (mA name):=
 let⟨od,ho,hl⟩:=Y7 I.ns
 ⟨od,⟨I.obj,rfl,rfl,ho⟩,hl⟩
section
variable{prog:xy}{w:xD}{A:xq}{E:xC->xA->Prop}{s:xA}{K:PySem.W.Frag}{x dx C f:xY}{mA:Str->Option xC}{name:Str}{v:xC}
theorem ZQZ(X:K.In s.heap)(I:ObjM s.heap x dx C mA)(hg:PySem.W.plainGet K C name=vF)(hh:PySem.W.hasDictIn K C=vF)
  (ha:PySem.W.findIn K (.ref C) name=vD vE) (hv:mA name=vD v) (hv':PySem.W.handedIn v=vF) (h:Q v {s with toks:=s.toks+1}):
  vK (vQ prog w) A (getAttr (.ref x) name expr) Q E s:=by
 obtain⟨od,J,hl⟩:=I.look;exact PySem.W.get_value X J (PySem.W.plainGet_of hg).1 (PySem.W.findObj_own hh ha rfl (by rw[hl,hv])) hv' h
theorem ZRx(X:K.In s.heap)(I:ObjM s.heap x dx C mA)(hg:PySem.W.plainGet K C name=vF)
  (hf:PySem.W.findIn K (.ref C) name=vD (vD (.ref f))) (ht:PySem.W.isFn K (.ref f)=vF) (hv:mA name=vE) (h:Q (.ref f,[.ref x]) s):
  vK (vQ prog w) A (getMethod (.ref x) name pl) Q E s:=by
 obtain⟨od,J,hl⟩:=I.look
 exact PySem.W.method_fn X J (PySem.W.plainGet_of hg).1 (PySem.W.plainGet_of hg).2 hf (beq_iff_eq.mp ht) (by show(PySem.W.lookIn name od).map (·.isSome)=vD vG;rw[hl,hv];rfl) h
theorem ZOw(X:K.In s.heap)(I:ObjM s.heap x dx C mA)
  (hs:PySem.W.findIn K (.ref C) "__setattr__"=vD (vD (.builtin "object.__setattr__"))) (hp:PySem.W.plainOver K C=vF) (ht:PySem.W.takerIn K C name=vD vE) (hh:PySem.W.hasDictIn K C=vF)
  (hw:PySem.Within mA ns) (hsz:ns.length<=sizeLine)
  (h:∀h',ObjM h' x dx C (λy=>if y=name then vD v else mA y)->qG dx s.heap h'->Q () {s with heap:=h',toks:=s.toks+2}):
  vK (vQ prog w) A (setAttr (.ref x) name v) Q E s:=by
 obtain⟨od,J,hl⟩:=I.look;refine PySem.W.set_plain X J hs (PySem.W.osa_open (s:={s with toks:=s.toks+1}) (r:=vE) X J hp ht λb=>?_);obtain⟨cd,hc,hd'⟩:=PySem.W.any_some hh;have hx:s.heap.get? x=vD ⟨.ref C,vD dx,.plain,#[]⟩:=I.obj;refine vq (v6 (vq (vq (wpAny_loadPart hx (vq (PySem.W.Looks.here (s:={s with toks:=s.toks+1}) (PySem.W.looks_clsIn X hc) ?_))))))
 rw[hd'];refine v6 (a:=vD dx) (vq (v6 (vq ?_)));refine wpAny_nsSet1 (s:={s with toks:=s.toks+1}) I.ns λh' hn2 hs2=>?_
 obtain⟨oD,esD,epD,hoD,hdD,hcD⟩:=hn2.count (PySem.Within.cons name v hw);refine vq (wpAny_lookBehind hoD (by rw[hdD];exact pastItsLine_dict (z5 hcD (by rw[qV];lia))) ?_);exact v6 (h _ ⟨(hs2.2 _ (Ne.symm I.ne)).trans I.obj,hn2,I.ne⟩ hs2)
theorem ZP2(X:K.In s.heap)(hm:PySem.W.makesIn K C=vF)
  (hi:PySem.W.findIn K (.ref C) "__init__"=vD (vD (.ref f))) (hf:PySem.W.typeIn K (.ref f)=vD (.type "function"))
  (h:codeAny (vQ prog w) (A.under (.builtin "type.__call__" ⟨.ref C::vs,kw⟩)) (.call (.ref f) ⟨.ref (s.heap.objs.size+1)::vs,kw⟩) (PySem.W.InitBack (s.heap.objs.size+1) R)
   {s with heap:=(s.heap.push PySem.W.emptyDict).push (PySem.W.instObj C s.heap.objs.size)}):
  codeAny (vQ prog w) A (.call (.ref C) ⟨vs,kw⟩) R s:=by
 obtain⟨hh,g,d,t,os⟩:=s;exact PySem.W.make_core (PySem.W.makes_of X hm) (PySem.W.looks_findIn X hi) (λself=>PySem.W.bind_fn X self hf) (.inl rfl) h
end
noncomputable def Dv(f:Str)(v:V):List (Str×V)->List (Str×V)
 |[]=>[(f,v)]
 |(g,x)::r=>if g=f then(g,v)::r else(g,x)::Dv f v r
theorem ZEw(f g:Str)(v:V):∀fs:List (Str×V),(Dv f v fs).lookup g=if g=f then vD v else fs.lookup g
 |[]=>by
  show qN g [(f,v)]=_;by_cases h:g=f
  ·have hb:(g==f)=vF:=beq_iff_eq.mpr h;simp only[qN,hb,if_pos h]
  ·have hb:(g==f)=vG:=beq_eq_false_iff_ne.mpr h;simp only[qN,hb,if_neg h]
 | (k,x)::r=>by
  have ih:=ZEw f g v r
  rw[show Dv f v ((k,x)::r)=(if k=f then(k,v)::r else(k,x)::Dv f v r)from rfl]
  by_cases hk:k=f
  ·rw[if_pos hk];by_cases h:g=k
   ·have hb:(g==k)=vF:=beq_iff_eq.mpr h;simp only[qN,hb,if_pos (h.trans hk)]
   ·have hb:(g==k)=vG:=beq_eq_false_iff_ne.mpr h;simp only[qN,hb,if_neg (λe:g=f=>h (e.trans hk.symm))]
  ·rw[if_neg hk];by_cases h:g=k
   ·have hb:(g==k)=vF:=beq_iff_eq.mpr h;simp only[qN,hb,if_neg (λe:g=f=>hk (h.symm.trans e))]
   ·have hb:(g==k)=vG:=beq_eq_false_iff_ne.mpr h;simp only[qN,hb];exact ih
theorem W5(f:Str)(v:V):∀fs:List (Str×V),f∈(Dv f v fs).map (·.1)/\∀g,g∈fs.map (·.1)->g∈(Dv f v fs).map (·.1)
 |[]=>⟨by simp[Dv],λg h=>by simp at h⟩
 | (k,x)::r=>by
  obtain⟨i1,i2⟩:=W5 f v r
  rw[show Dv f v ((k,x)::r)=(if k=f then(k,v)::r else(k,x)::Dv f v r)from rfl]
  by_cases hk:k=f
  ·rw[if_pos hk];subst hk;exact⟨by simp,λg h=>by simpa using h⟩
  ·rw[if_neg hk];refine⟨?_,λg h=>?_⟩
   ·rw[zE];exact zJ _ i1
   ·rw[zE]at h⊢;rcases zx.mp h with e|e
    ·exact zx.mpr (.inl e)
    ·exact zJ _ (i2 g e)
theorem ZCO(f:Str)(v:V):∀fs:List (Str×V),(Dv f v fs).length<=fs.length+1
 |[]=>by simp[Dv]
 |(k,x)::r=>by
  have ih:=ZCO f v r
  rw[show Dv f v ((k,x)::r)=(if k=f then(k,v)::r else(k,x)::Dv f v r)from rfl]
  by_cases hk:k=f
  ·rw[if_pos hk,qV,qV];lia
  ·rw[if_neg hk,qV,qV];lia
theorem RelO.some_of(r:RelO (vD v) o):∃u,o=vD u/\RelV v u:=by
 cases o with
 |none=>exact(show False from r).elim
 |some u=>exact⟨u,rfl,r⟩
theorem RelO.none_of(r:RelO vE o):o=vE:=by
 cases o with
 |none=>rfl
 |some u=>exact(show False from r).elim
theorem ZDi(r:RelV v u):PySem.W.handedIn u=vF:=by
 cases v with
 |non=>cases(show u=Value.none from r);rfl
 |bl b=>cases(show u=Value.bool b from r);rfl
 |int i=>obtain⟨t,e⟩:=(show∃t,u=Value.int i t from r);cases e;rfl
 |str x=>obtain⟨t,e⟩:=(show∃t,u=Value.str x t from r);cases e;rfl
 |byt b=>obtain⟨t,e⟩:=(show∃t,u=Value.bytes b t from r);cases e;rfl
 |flt b=>obtain⟨t,e⟩:=(show∃t,u=Value.float b t from r);cases e;rfl
 |ref a=>cases(show u=Value.ref a from r);rfl
 |ty n=>cases(show u=Value.type n from r);rfl
section
variable{P:xy}{w:xD}{H H':Hp}{h h':Heap}{a C dx:xY}{fs fs':List (Str×V)}
theorem Vm(hok:HOk P w H h)(e:H a=vD (.ins C dx fs)):∃mA,ObjM h a dx C mA/\(∀f,RelO (fs.lookup f) (mA f))/\PySem.Within mA (fs.map (·.1))/\fs.length<=1000/\H dx=vD (.own a):=by
 obtain⟨d,z,ne,ob,mA,n,r,q⟩:=(show ObjOk P w H h a (.ins C dx fs)from hok a _ e)
 exact⟨mA,⟨ob,n,ne⟩,r,q,z,d⟩
end
structure Cls (K:PySem.W.Frag) (C:xY):Prop where
 pg:PySem.W.plainGet K C Str.empty=vF
 hd:PySem.W.hasDictIn K C=vF
 po:PySem.W.plainOver K C=vF
 sa:PySem.W.findIn K (.ref C) "__setattr__"=vD (vD (.builtin "object.__setattr__"))
theorem Cls.get{C:xY}(c:Cls K C)(f:Str):PySem.W.plainGet K C f=vF:=c.pg
def NoAttr(K:PySem.W.Frag)(C:xY)(f:Str):Prop:=PySem.W.findIn K (.ref C) f=vD vE
theorem NoAttr.taker{C:xY}{f:Str}(n:NoAttr K C f):PySem.W.takerIn K C f=vD vE:=by
 unfold PySem.W.takerIn
 rw[show PySem.W.findIn K (.ref C) f=vD vE from n]
 rfl
structure Meth (K:PySem.W.Frag) (C:xY) (m:Str) (f:xY):Prop where
 at_:PySem.W.findIn K (.ref C) m=vD (vD (.ref f))
 fn:PySem.W.isFn K (.ref f)=vF
 kp:PySem.W.keepIn K (.ref f)=vF
section
variable{X:Cx}{vC:List (xY×Obj)}{σ:St}{H:Hp}{s:xA}{a C dx:xY}{fs:List (Str×V)}{f:Str}{v:V}{A:xq}{E:xC->xA->Prop}
theorem ZSj(I:Inv X vC σ H s)(e:H a=vD (.ins C dx fs))(c:Cls X.K C)(n:NoAttr X.K C f)(l:fs.lookup f=vD v)
  (h:∀u s',Inv X vC σ H s'->RelV v u->Q u s'):vK (vQ X.prog X.w) A (getAttr (.ref a) f b) Q E s:=by
 obtain⟨mA,O,r,_,_,_⟩:=Vm I.hok e;obtain⟨u,hu,ru⟩:=RelO.some_of (v:=v) (o:=mA f) (by rw[<-l];exact r f);exact ZQZ I.kIn O (c.get f) c.hd n hu (ZDi ru) (h u _ (I.tok _) ru)
theorem ZHL(I:Inv X vC σ H s)(e:H a=vD (.ins C dx fs))(c:Cls X.K C)(k:Meth X.K C m g)(l:fs.lookup m=vE)
  (h:Q (.ref g,[.ref a]) s):vK (vQ X.prog X.w) A (getMethod (.ref a) m pl) Q E s:=by
 obtain⟨mA,O,r,_,_,_⟩:=Vm I.hok e;have hn:mA m=vE:=RelO.none_of (by rw[<-l];exact r m);exact ZRx I.kIn O (c.get m) k.at_ k.fn hn h
theorem ZSW(I:Inv X vC σ H s)(e:H a=vD (.ins C dx fs))(c:Cls X.K C)(n:NoAttr X.K C f)(hl:fs.length<1000)(ry:RelV y u)
  (h:∀s',Inv X vC σ (upd H a (.ins C dx (Dv f y fs))) s'->Q () s'):vK (vQ X.prog X.w) A (setAttr (.ref a) f u) Q E s:=by
 obtain⟨mA,O,r,wi,_,ho⟩:=Vm I.hok e
 have hz:(fs.map (·.1)).length<=sizeLine:=by rw[qW,vJ];lia
 refine ZOw I.kIn O c.sa c.po n.taker c.hd wi hz λh' O' sb=>h _ ?_
 have hd:∃o,h'.get? dx=vD o:=let⟨o,_,_,e',_⟩:=O'.ns;⟨o,e'⟩;refine I.write (x:=a) (e:=dx) (by rw[e];exact True.intro) (.inr ho) (λb q hb z=>(sb.2 b hb).trans z) hd ?_;refine⟨by rw[Am O.ne];exact ho,?_,O.ne,O'.obj,_,O'.ns,λg=>?_,λg hg=>?_⟩
 ·have:=ZCO f y fs;lia
 ·show RelO ((Dv f y fs).lookup g) (if g=f then vD u else mA g);rw[ZEw];by_cases q:g=f
  ·rw[if_pos q,if_pos q];exact ry
  ·rw[if_neg q,if_neg q];exact r g
 ·by_cases q:g=f
  ·rw[q];exact(W5 f y fs).1
  ·refine(W5 f y fs).2 g (wi g λz=>hg ?_);show(if g=f then vD u else mA g)=vE;rw[if_neg q];exact z
theorem Inv.made(I:Inv X vC σ H s):Inv X vC σ (upd (upd H s.heap.objs.size (.own (s.heap.objs.size+1))) (s.heap.objs.size+1) (.ins C s.heap.objs.size []))
  {s with heap:=(s.heap.push PySem.W.emptyDict).push (PySem.W.instObj C s.heap.objs.size)}:=by
 have e1:(s.heap.push PySem.W.emptyDict).get? s.heap.objs.size=vD PySem.W.emptyDict:=zy s.heap rfl;have e2:((s.heap.push PySem.W.emptyDict).push (PySem.W.instObj C s.heap.objs.size)).get? (s.heap.objs.size+1)=vD (PySem.W.instObj C s.heap.objs.size):=by have:=zy (s.heap.push PySem.W.emptyDict) (o:=PySem.W.instObj C s.heap.objs.size) rfl;rwa[q9]at this
 have e3:(s.heap.push PySem.W.emptyDict).Ns s.heap.objs.size (λ_=>vE):=⟨PySem.W.emptyDict,#[],_,e1,rfl,(λe he=>absurd he (by simp)),λ_=>rfl⟩;have I1:=I.laid (a:=s.heap.objs.size) (o:=.own (s.heap.objs.size+1)) (h':=s.heap.push PySem.W.emptyDict) (t':=s.toks) (λb u q=>zQ _ q) (zY _) ⟨_,e1⟩;refine I1.laid (a:=s.heap.objs.size+1) (o:=.ins C s.heap.objs.size []) (t':=s.toks) (λb u q=>zQ _ q) (Nat.le_of_eq (q9 _ _)) ?_
 have ne:s.heap.objs.size≠s.heap.objs.size+1:=zC (qY _);refine⟨by rw[Am ne,Ei],jG _,ne,e2,λ_=>vE,(Heap.Ns1.of_empty e3).at λo q=>zQ _ q,λ_=>True.intro,λy hy=>absurd rfl hy⟩
theorem ZFS{f:Str}(hb:xF e f env (eval e env)=eval e env)
  (h:vK (vQ prog w) A (eval e env) (λo s₁=>vK (vQ prog w) A (getAttr o f vF) Q E s₁) E s):vK (vQ prog w) A (eval (.Attribute e f pos) env) Q E s:=
 Attribute_any_ h (by rw[arm_eval_Attribute,hb])
end
def tFld(K:PySem.W.Frag)(ta:TE)(f:Str):TE:=λσ H Q=>ta σ H λx H1=>∃a C dx fs v,x=.ref a/\H1 a=vD (.ins C dx fs)/\Cls K C/\NoAttr K C f/\fs.lookup f=vD v/\Q v H1
def sFld(K:PySem.W.Frag)(ta tv:TE)(f:Str):TS:=λD σ H=>tv σ H λy H1=>ta σ H1 λx H2=>∃a C dx fs,x=.ref a/\H2 a=vD (.ins C dx fs)/\Cls K C/\NoAttr K C f/\fs.length<1000/\
 D.nx σ (upd H2 a (.ins C dx (Dv f y fs)))
section
variable{X:Cx}{o e value:xz}{f:Str}{pos pos' tpos:Pos}{ta tv:TE}
theorem ZQT(he:PE X e ta)(hb:xF e f X.env (eval e X.env)=eval e X.env):PE X (.Attribute e f pos) (tFld X.K ta f):=by intro vC s σ H Q I h;refine ZFS hb (thn (he vC s σ H _ I h) λu s1 ⟨x,H1,I1,rx,a,C,dx,fs,v,ex,ea,c,n,l,q⟩=>?_);subst ex;obtain rfl:u=Value.ref a:=rx;exact ZSj I1 ea c n l λu' s2 I2 ru=>⟨v,H1,I2,ru,q⟩
theorem ZLX(ha:PE X o ta)(hv:PE X value tv)(hs:swapsWith value (vD (.Attribute o f pos')) pos.line X.env=pure vG):PS X (.Assign [.Attribute o f pos'] value pos) (sFld X.K ta tv f):=by intro vC s σ H D I h;refine plainObj_wpAny_Assign_Attribute (thn (hv vC s σ H _ I h) λu s1 ⟨y,H1,I1,ry,q⟩=>thn (ha vC s1 σ H1 _ I1 q) λov s2 ⟨x,H2,I2,rx,a,C,dx,fs,ex,ea,c,n,l,q2⟩=>?_) hs;subst ex;obtain rfl:ov=Value.ref a:=rx;exact ZSW I2 ea c n l ry λs3 I3=>⟨σ,_,I3,q2⟩
end
section
variable{X:Cx}{vC:List (xY×Obj)}{σ:St}{H:Hp}{s:xA}{A:xq}{E:xC->xA->Prop}{Q:xC->xA->Prop}{c:xC}{b:Bool}
end
structure Room (k:Nat) (A:xq):Prop where
 hd:A.handled=vE
 dp:A.depth+3*k+5<recursionLimit
 un:A.units+16*k+200<cLine
theorem Room.mono(r:Room k A)(h:j<=k):Room j A:=⟨r.hd,by have:=r.dp;lia,by have:=r.un;lia⟩
theorem Room.deeper(r:Room (k+1) A)(env:Env):Room k (A.deeper env):=
 ⟨r.hd,by have:=r.dp;show A.depth+1+3*k+5<_;lia,by have:=r.un;show A.units+3+16*k+200<_;lia⟩
theorem ZQO{A:xq}{C:xY}{us:List xC}{kw:List (Str×xC)}:(A.under (.builtin "type.__call__" ⟨.ref C::us,kw⟩)).depth=A.depth+1:=by
 first|rfl|simp[Around.under,Code.weight,Code.isCreation,Code.isGuard,Code.isCaller,Code.frames,Code.isFrame,guardIds]
theorem ZMz{A:xq}{C:xY}{us:List xC}{kw:List (Str×xC)}:(A.under (.builtin "type.__call__" ⟨.ref C::us,kw⟩)).units=A.units+1:=by
 first|rfl|simp[Around.under,Code.cUnits,Code.frames,Code.isFrame]
theorem Room.make(r:Room (k+1) A)(C:xY)(us:List xC)(kw:List (Str×xC)):Room k (A.under (.builtin "type.__call__" ⟨.ref C::us,kw⟩)):=
 ⟨r.hd,by have:=r.dp;rw[ZQO];lia,by have:=r.un;rw[ZMz];lia⟩
theorem Room.depth(r:Room k A):A.depth<recursionLimit:=by have:=r.dp;lia
theorem Room.units(r:Room k A):A.units+64<cLine:=by have:=r.un;lia
noncomputable def Nz:TA:=λ_ H Q=>Q [] H
noncomputable def P0(ta:TE)(tr:TA):TA:=λσ H Q=>ta σ H λx H1=>tr σ H1 λxs H2=>Q (x::xs) H2
section
variable{X:Cx}{e:xz}{es:List xz}{te:TE}{t:TA}{pos:Pos}
theorem Ph:PA X [] Nz:=λ_ _ _ _ H Q I h=>Calls.spliced_nil ⟨[],H,I,.nil,h⟩
theorem Iz(ha:PE X e te)(hr:PA X es t)(hs:vV (e::es) X.env=(vG,eval e X.env)::vV es X.env:=by rfl):PA X (e::es) (P0 te t):=by intro pos vC s σ H Q I h;rw[hs];show vK _ _ (spliced ((vG,eval e X.env)::xG pos (vV es X.env))) _ _ s;refine Calls.spliced_cons (thn (ha vC s σ H _ I h) λu s1 ⟨x,H1,I1,r1,q1⟩=>?_);exact thn (hr pos vC s1 σ H1 _ I1 q1) λus s2 ⟨xs,H2,I2,r2,q2⟩=>⟨x::xs,H2,I2,.cons r1 r2,q2⟩
def tTup(t:TA):TE:=λσ H Q=>t σ H λxs H1=>xs.length<=sizeLine/\∀p,H1 p=vE->Q (.ref p) (upd H1 p (.tup xs))
def tLst(t:TA):TE:=λσ H Q=>t σ H λxs H1=>xs.length<=sizeLine/\∀p,H1 p=vE->Q (.ref p) (upd H1 p (.lst xs))
theorem ZCS{x1}(h:PA X es t):PE X (.Tuple es x1 pos) (tTup t):=by intro vC s σ H Q I hq;refine wpAny_Tuple_spliced (thn (h pos vC s σ H _ I hq) λus s1 ⟨xs,H1,I1,r,z,q⟩=>⟨by rw[<-r.length];exact z,?_⟩);have hf:H1 s1.heap.objs.size=vE:=I1.hok.fresh (zY _);refine⟨.ref s1.heap.objs.size,upd H1 s1.heap.objs.size (.tup xs),I1.laid (t':=s1.toks) (λb u e=>zQ _ e) (zY _) ?_,rfl,q _ hf⟩;exact⟨z,us,r,⟨_,zy _ rfl,rfl,_,rfl⟩⟩
theorem ZON(h:PA X es t):PE X (.List es pos) (tLst t):=by intro vC s σ H Q I hq;refine wpAny_List_spliced (thn (h pos vC s σ H _ I hq) λus s1 ⟨xs,H1,I1,r,z,q⟩=>⟨by rw[<-r.length];exact z,?_⟩);have hf:H1 s1.heap.objs.size=vE:=I1.hok.fresh (zY _);refine⟨.ref s1.heap.objs.size,upd H1 s1.heap.objs.size (.lst xs),I1.laid (t':=s1.toks) (λb u e=>zQ _ e) (zY _) ?_,rfl,q _ hf⟩;exact⟨z,us,0,r,zy _ rfl⟩
end
noncomputable abbrev Sp:=List V->Hp->VK->XK->Prop
noncomputable abbrev CXT:=List Env->Hp->xA->XK->xC->xA->Prop
structure Env0 (P:xy) (w:xD) (K:PySem.W.Frag) (mg:Str->Option xC) (base:Heap) (A:xq) (outer:List Env) (s:xA) (H:Hp):Prop where
 frames:A.frames=vD outer
 mod:Mod K mg base
 bs:∀b o,base.get? b=vD o->s.heap.get? b=vD o/\H b=vE
 bsz:base.objs.size<=s.heap.objs.size
 funs:s.heap.FunFrames base outer
 frf:∀b∈frs outer,H b=vE
 hok:HOk P w H s.heap
 bare:AllBare s.gens
def CE(outer:List Env)(P:xy)(w:xD)(H:Hp)(s:xA)(Q:VK)(u:xC)(s':xA):Prop:=
 ∃v H',s'.os=s.os/\AllBare s'.gens/\Un (frs outer) [] H H' s.heap s'.heap/\HOk P w H' s'.heap/\RelV v u/\Q v H'
def CR(CX:CXT)(outer:List Env)(P:xy)(w:xD)(H:Hp)(s:xA)(Q:VK)(E:XK)(r:Result)(s':xA):Prop:=
 match r with
 |.ok (.ret u)=>CE outer P w H s Q u s'
 |.ok _=>False
 |.error e=>CX outer H s E e s'
structure FnOk (P:xy) (w:xD) (K:PySem.W.Frag) (mg:Str->Option xC) (base:Heap) (CX:CXT) (k:Nat) (f:xY) (fd:xj) (ps:List Str) (sp:Sp):Prop where
 len:∀vs H Q E,sp vs H Q E->vs.length=ps.length
 run:∀(A:xq)(outer:List Env)(s:xA)(H:Hp)(args:Args)(us:List xC)(vs:List V)(Q:VK)(E:XK),Room k A->Env0 P w K mg base A outer s H->BindsTo s fd args (ps.zip us)->Vals vs us->sp vs H Q E->
  codeAny (vQ P w) A (.call (.ref f) args) (CR CX outer P w H s Q E) s
theorem Env0.make{w:xD}{A:xq}{outer:List Env}{H:Hp}(e:Env0 P w K mg base A outer s H)(C:xY)(us:List xC)(kw:List (Str×xC)):
  Env0 P w K mg base (A.under (.builtin "type.__call__" ⟨.ref C::us,kw⟩)) outer s H:=⟨by first|exact e.frames|(simpa[Around.under,Code.envs,Code.isFrame,pushEnvs]using e.frames),e.mod,e.bs,e.bsz,e.funs,e.frf,e.hok,e.bare⟩
section
variable{X:Cx}{vC:List (xY×Obj)}{σ:St}{H:Hp}{s s':xA}
theorem Inv.env0(I:Inv X vC σ H s):Env0 X.prog X.w X.K X.mg X.base X.A X.stack s H:=
 ⟨I.ok.frames,I.ok.mod,I.bs,z5 I.ok.bsz I.sz,I.stack,I.Ut,I.hok,I.bare⟩
theorem Inv.after(I:Inv X vC σ H s)(h:CE X.stack X.prog X.w H s Q u s'):EP X vC σ Q u s':=by obtain⟨v,H',os,bare,un,hok,r,q⟩:=h;obtain⟨hh,g,d,t,os'⟩:=s';obtain rfl:os'=s.os:=os;exact⟨v,H',I.call (h':=hh) (g':=g) (d':=d) (t':=t) (ch:=[]) un hok bare (λb z=>absurd z (by simp)),r,q⟩
end
noncomputable def ZG0(sp:Sp)(dvs:List V)(E:XK)(t:TA):TE:=λσ H Q=>t σ H λvs H1=>sp (vs++dvs) H1 Q E
def Wy(C:xY)(m:Str)(sp:Sp)(dvs:List V)(E:XK)(ta:TE)(t:TA):TE:=λσ H Q=>ta σ H λx H1=>∃a dx fs,x=.ref a/\H1 a=vD (.ins C dx fs)/\fs.lookup m=vE/\
 t σ H1 λvs H2=>sp (x::(vs++dvs)) H2 Q E
def ZNm(C:xY)(sp:Sp)(dvs:List V)(E:XK)(t:TA):TE:=λσ H Q=>t σ H λvs H1=>∀x dx,H1 x=vE->H1 dx=vE->dx≠x->
 sp (.ref x::(vs++dvs)) (upd (upd H1 dx (.own x)) x (.ins C dx [])) (λv H2=>v=.non/\Q (.ref x) H2) E
def Binds(K:PySem.W.Frag)(fd:xj)(ps:List Str)(ds:List xC):Prop:=
 ∀(s:xA)(us:List xC),K.In s.heap->(us++ds).length=ps.length->BindsTo s fd ⟨us,[]⟩ (ps.zip (us++ds))
theorem Binds.all{fd:xj}{ps:List Str}(h:∀us:List xC,us.length=ps.length->bindArgs fd ⟨us,[]⟩=pure (ps.zip us)):Binds K fd ps []:=λs us _ hl=>by rw[qj]at hl⊢;exact .of_eq (h us hl)
def Passes(CX:CXT)(X:Cx)(E:XK):Prop:=∀(vC:List (xY×Obj))(σ:St)(H:Hp)(s:xA)(e:xC)(s':xA),Inv X vC σ H s->CX X.stack H s E e s'->X.xe e s'
section
variable{X:Cx}{CX:CXT}{k:Nat}{f C:xY}{fd:xj}{ps:List Str}{sp:Sp}{dvs:List V}{ds:List xC}{E:XK}{x m:Str}{p pos apos:Pos}{e o:xz}{es:List xz}{ta:TE}{t:TA}
theorem Zb{σ:St}{H:Hp}{Q:VK}{us:List xC}{vs:List V}(F:FnOk X.prog X.w X.K X.mg X.base CX k f fd ps sp)(hr:Room k X.A)(hb:Binds X.K fd ps ds)(hd:Vals dvs ds)(hx:Passes CX X E)
  (I:Inv X vC σ H s) (r:Vals vs us) (h:sp (vs++dvs) H Q E):vK (vQ X.prog X.w) X.A (call (.ref f) us) (EP X vC σ Q) X.xe s:=by
 have r2:Vals (vs++dvs) (us++ds):=r.append hd;have hl:(us++ds).length=ps.length:=by rw[<-r2.length];exact F.len _ _ _ _ h
 refine wpAny_call (xO (F.run X.A X.stack s H ⟨us,[]⟩ (us++ds) (vs++dvs) Q E hr I.env0 (hb s us I.kIn hl) r2 h) λr s' hq=>?_);cases r with
 |error e=>exact hx vC σ H s e s' I hq
 |ok fl=>
  cases fl with
  |ret u=>exact I.after hq
  |next=>exact False.elim hq
  |brk=>exact False.elim hq
  |cont=>exact False.elim hq
theorem Zh(F:FnOk X.prog X.w X.K X.mg X.base CX k f fd ps sp)(hr:Room k X.A)(hg:Gl X x)(hm:X.mg x=vD (.ref f))(hk:PySem.W.keepIn X.K (.ref f)=vF)(hb:Binds X.K fd ps ds)(hd:Vals dvs ds)(hx:Passes CX X E)
  (ha:PA X (e::es) t) (hdb:(x==("__debug__":Str))=vG:=by decide) (he:vV (e::es) X.env=(vG,eval e X.env)::vV es X.env:=by rfl) (hpl:(xG pos (vV es X.env)).any (·.1)=vG:=by rfl):
  PE X (.Call (.Name x p) (e::es) [] pos) (ZG0 sp dvs E t):=by
 intro vC s σ H Q I h;refine vY (H9 I hg hm ?_ hdb);refine PySem.W.callWith_K (h₀:=X.base) I.ok.mod.kin hk (thn (ha pos vC s σ H _ I h) λus s1 ⟨vs,H1,I1,r,q⟩=>⟨I1.kIn,?_⟩) he hpl;exact Zb F hr hb hd hx I1 r q
theorem ZJj{pl:Sem Bool}(he:PE X o ta)(c:Cls X.K C)(hm:Meth X.K C m f)(F:FnOk X.prog X.w X.K X.mg X.base CX k f fd ps sp)(hr:Room k X.A)(hb:Binds X.K fd ps ds)(hd:Vals dvs ds)(hx:Passes CX X E)(ha:PA X (e::es) t)
  (hst:vV (e::es) X.env=(vG,eval e X.env)::vV es X.env:=by rfl) (hpl:(xG pos (vV es X.env)).any (·.1)=vG:=by rfl)
  (ht:eval (.Call (.Attribute o m apos) (e::es) [] pos) X.env=(do
   let ov<-eval o X.env
   standAt apos.atName
   let(f,first)<-holding [ov] (getMethod ov m pl)
   callWith pos f first (xG pos (vV (e::es) X.env)) (xH pos (xS [] X.env))):=by rfl):
  PE X (.Call (.Attribute o m apos) (e::es) [] pos) (Wy C m sp dvs E ta t):=by
 intro vC s σ H Q I h;refine PySem.W.methodCall_KW (pl:=pl) (thn (he vC s σ H _ I h) λu s1 ⟨x,H1,I1,rx,a,dx,fs,ex,ea,l,q⟩=>?_) ht;subst ex;obtain rfl:u=Value.ref a:=rx;refine ZHL I1 ea c hm l ?_
 refine PySem.W.callWith_K (first:=[.ref a]) (h₀:=X.base) I.ok.mod.kin hm.kp (thn (ha pos vC s1 σ H1 _ I1 q) λus s2 ⟨vs,H2,I2,r,q2⟩=>⟨I2.kIn,?_⟩) hst hpl
 exact Zb (us:=.ref a::us) (vs:=.ref a::vs) F hr hb hd hx I2 (.cons rfl r) q2
theorem ZMS(he:PE X o ta)(c:Cls X.K C)(hm:Meth X.K C m f)(F:FnOk X.prog X.w X.K X.mg X.base CX k f fd ps sp)(hr:Room k X.A)(hb:Binds X.K fd ps ds)(hd:Vals dvs ds)(hx:Passes CX X E)
  (ht:eval (.Call (.Attribute o m apos) [] [] pos) X.env=(do
   let ov<-eval o X.env
   standAt apos.atName
   let(f,first)<-holding [ov] (getMethod ov m pl)
   callWith pos f first (xG pos (vV [] X.env)) (xH pos (xS [] X.env))):=by rfl):
  PE X (.Call (.Attribute o m apos) [] [] pos) (Wy C m sp dvs E ta Nz):=by
 intro vC s σ H Q I h;refine PySem.W.methodCall_KW (pl:=pl) (thn (he vC s σ H _ I h) λu s1 ⟨x,H1,I1,rx,a,dx,fs,ex,ea,l,q⟩=>?_) ht;subst ex;obtain rfl:u=Value.ref a:=rx;refine ZHL I1 ea c hm l ?_
 exact PySem.W.callWith_K0 (first:=[.ref a]) I1.kIn hm.kp (Zb (us:=[.ref a]) (vs:=[.ref a]) F hr hb hd hx I1 (.cons rfl .nil) q)
structure Mk (K:PySem.W.Frag) (C f:xY):Prop where
 makes:PySem.W.makesIn K C=vF
 init:PySem.W.findIn K (.ref C) "__init__"=vD (vD (.ref f))
 fn:PySem.W.isFn K (.ref f)=vF
 kp:PySem.W.keepIn K (.ref C)=vF
theorem ZNL{σ:St}{H:Hp}{Q:VK}{us:List xC}{vs:List V}(M:Mk X.K C f)(F:FnOk X.prog X.w X.K X.mg X.base CX k f fd ps sp)(hr:Room (k+1) X.A)(hb:Binds X.K fd ps ds)(hd:Vals dvs ds)
  (hx:Passes CX X E) (I:Inv X vC σ H s) (r:Vals vs us)
  (h:∀x dx,H x=vE->H dx=vE->dx≠x->sp (.ref x::(vs++dvs)) (upd (upd H dx (.own x)) x (.ins C dx [])) (λv H2=>v=.non/\Q (.ref x) H2) E):
  vK (vQ X.prog X.w) X.A (call (.ref C) us) (EP X vC σ Q) X.xe s:=by
 have hq:=h (s.heap.objs.size+1) s.heap.objs.size (I.hok.fresh (jz _)) (I.hok.fresh (zY _)) (zC (qY _));have I2:=Inv.made (C:=C) I;have r2:Vals (V.ref (s.heap.objs.size+1)::(vs++dvs)) (Value.ref (s.heap.objs.size+1)::(us++ds)):=.cons rfl (r.append hd);have hl:(Value.ref (s.heap.objs.size+1)::us++ds).length=ps.length:=by have e:=r2.length;rw[F.len _ _ _ _ hq]at e;exact e.symm
 refine wpAny_call (ZP2 (f:=f) I.kIn M.makes M.init (beq_iff_eq.mp M.fn) (xO (F.run _ X.stack _ _ ⟨Value.ref (s.heap.objs.size+1)::us,[]⟩ (Value.ref (s.heap.objs.size+1)::(us++ds)) _ _ E (hr.make C us [])
  (I2.env0.make C us []) (hb _ (Value.ref (s.heap.objs.size+1)::us) I2.kIn hl) r2 hq) λr s' hq'=>?_))
 cases r with
 |error e=>exact hx vC σ _ _ e s' I2 hq'
 | ok fl=>
  cases fl with
  |ret u=>
   obtain⟨v,H',I3,rv,ev,q3⟩:=I2.after hq';subst ev;exact⟨rv,⟨V.ref (s.heap.objs.size+1),H',I3,rfl,q3⟩⟩
  |next=>exact False.elim hq'
  |brk=>exact False.elim hq'
  |cont=>exact False.elim hq'
theorem ZMy(M:Mk X.K C f)(F:FnOk X.prog X.w X.K X.mg X.base CX k f fd ps sp)(hr:Room (k+1) X.A)(hg:Gl X x)(hm:X.mg x=vD (.ref C))(hb:Binds X.K fd ps ds)(hd:Vals dvs ds)(hx:Passes CX X E)
  (ha:PA X (e::es) t) (hdb:(x==("__debug__":Str))=vG:=by decide) (he:vV (e::es) X.env=(vG,eval e X.env)::vV es X.env:=by rfl) (hpl:(xG pos (vV es X.env)).any (·.1)=vG:=by rfl):
  PE X (.Call (.Name x p) (e::es) [] pos) (ZNm C sp dvs E t):=by
 intro vC s σ H Q I h;refine vY (H9 I hg hm ?_ hdb);refine PySem.W.callWith_K (h₀:=X.base) I.ok.mod.kin M.kp (thn (ha pos vC s σ H _ I h) λus s1 ⟨vs,H1,I1,r,q⟩=>⟨I1.kIn,?_⟩) he hpl;exact ZNL M F hr hb hd hx I1 r q
end
def PK(X:Cx)(kws:List Keyword)(t:TA):Prop:=
 ∀(pos:Pos)(vC:List (xY×Obj))(s:xA)(σ:St)(H:Hp)(Q:List V->Hp->Prop),Inv X vC σ H s->t σ H Q->vK (vQ X.prog X.w) X.A (evalAll ((xH pos (xS kws X.env)).map (·.2))) (AP X vC σ Q) X.xe s
section
variable{X:Cx}{CX:CXT}{k:Nat}{f C:xY}{fd:xj}{ps ks:List Str}{sp:Sp}{E:XK}{x m:Str}{p pos apos kpos:Pos}{e o:xz}{es:List xz}{kws:List Keyword}{te ta:TE}{t tk:TA}{nm:Option Str}
theorem ZNM:PK X [] Nz:=λ_ _ _ _ H Q I h=>wpAny_evalAll_nil ⟨[],H,I,.nil,h⟩
theorem ZJ2(ha:PE X e te)(hr:PK X kws t):PK X (⟨nm,e,kpos⟩::kws) (P0 te t):=by
 intro pos vC s σ H Q I h
 show vK _ _ (evalAll ((do let v<-eval e X.env;standAt pos;pure v)::(xH pos (xS kws X.env)).map (·.2))) _ _ s
 refine wpAny_evalAll_cons (vq (thn (ha vC s σ H _ I h) λu s1 ⟨x,H1,I1,r1,q1⟩=>vq (wpAny_standAt (v6 ?_))));exact thn (hr pos vC s1 σ H1 _ I1 q1) λus s2 ⟨xs,H2,I2,r2,q2⟩=>⟨x::xs,H2,I2,.cons r1 r2,q2⟩
variable{g:List xC->List xC->List xC}{gV:List V->List V->List V}
end
structure FnScope (N P:List Str) (sc:x0):Prop where
 kind:sc.kind=.function
 co:sc.isCoroutine=vG
 gen:sc.isGenerator=vG
 nd:N.Nodup
 pre:N.take P.length=P
 par:∀x∈P,sc.names.lookup x=vD .local∨sc.names.lookup x=vD .cell
 nofree:∀y∈sc.names,y.2≠ .free
theorem ZDy{x:Str}:∀{binds:List (Str×xC)}{m:Str->Option xC},(∀v,(x,v)∉binds)->bindL kindOf binds m x=m x
 |[],_,_=>rfl
 | (n,v)::r,m,h=>by
  unfold bindL;rw[ZDy λw hw=>h w (zJ _ hw)];split
  ·have:x≠n:=by rintro rfl;exact h v zW
   simp[this]
  ·rfl
theorem ZDT{x:Str}:∀{binds:List (Str×xC)}{m:Str->Option xC},(∀v,(x,v)∉binds)->bindC kindOf binds m x=m x
 |[],_,_=>rfl
 | (n,v)::r,m,h=>by
  unfold bindC;rw[ZDT λw hw=>h w (zJ _ hw)];split
  ·rfl
  ·have:x≠n:=by rintro rfl;exact h v zW
   simp[this]
theorem ZGN{x:Str}{v:xC}:∀{P:List Str}{vs:List xC}{i:Nat}{m:Str->Option xC},P.Nodup->P[i]?=vD x->vs[i]?=vD v->kindOf x=vD .local->
  bindL kindOf (P.zip vs) m x=vD v
 |[],_,_,_,_,h,_,_=>by simp at h
 |_::_,[],_,_,_,_,h,_=>by simp at h
 |p::P,w::vs,0,m,nd,h1,h2,hk=>by simp at h1 h2;subst h1;subst h2;show bindL kindOf ((p,w)::P.zip vs) m p=_;unfold bindL;rw[ZDy λv hv=>(qS.mp nd).1 (jU hv).1,if_pos hk];simp
 |p::P,w::vs,i+1,m,nd,h1,h2,hk=>by show bindL kindOf ((p,w)::P.zip vs) m x=_;unfold bindL;exact ZGN (i:=i) (qS.mp nd).2 (by simpa using h1) (by simpa using h2) hk
theorem ZCA{x:Str}{v:xC}:∀{P:List Str}{vs:List xC}{i:Nat}{m:Str->Option xC},P.Nodup->P[i]?=vD x->vs[i]?=vD v->kindOf x≠vD .local->
  bindC kindOf (P.zip vs) m x=vD v
 |[],_,_,_,_,h,_,_=>by simp at h
 |_::_,[],_,_,_,_,h,_=>by simp at h
 |p::P,w::vs,0,m,nd,h1,h2,hk=>by simp at h1 h2;subst h1;subst h2;show bindC kindOf ((p,w)::P.zip vs) m p=_;unfold bindC;rw[ZDT λv hv=>(qS.mp nd).1 (jU hv).1,if_neg hk];simp
 |p::P,w::vs,i+1,m,nd,h1,h2,hk=>by show bindC kindOf ((p,w)::P.zip vs) m x=_;unfold bindC;exact ZCA (i:=i) (qS.mp nd).2 (by simpa using h1) (by simpa using h2) hk
noncomputable def start(N:List Str)(vs:List V):St:=vs.map vD++zX (N.length-vs.length) vE
noncomputable def El(CX:CXT)(P:xy)(w:xD)(K:PySem.W.Frag)(mg:Str->Option xC)(base:Heap)(N:List Str)(qual:Str)(scope:x0)(f:xY)(cd:xC)(A:xq)(outer:List Env)(s:xA)(H:Hp)(E:XK):Cx where
 prog:=P
 w:=w
 K:=K
 mg:=mg
 base:=base
 A:=A.deeper (envOfC qual scope s.heap.objs.size f cd)
 N:=N
 s₀:=s
 H₀:=H
 env:=envOfC qual scope s.heap.objs.size f cd
 outer:=outer
 stack:=envOfC qual scope s.heap.objs.size f cd::outer
 ex:=[]
 calm:=vF
 fn:=λ_=>vF
 pn:=[]
 xe:=λe s'=>vK (vQ P w) (A.deeper (envOfC qual scope s.heap.objs.size f cd)) (leaving (envOfC qual scope s.heap.objs.size f cd) e) (λ_ s''=>CX outer H s E e s'') (λe' s''=>CX outer H s E e' s'') s'
theorem ZDp{sc:x0}{n:Nat}{x:Str}(h:sc.names.lookup x=vD .cell):∃c,(cellsFrom n sc.names []).lookup x=vD c:=by have q:=PySem.W.cellsFrom_some sc.names n [] (.inl h);exact jw.mp q
theorem ZFN{CX:CXT}{w:xD}{N ps:List Str}{qual:Str}{scope:x0}{f:xY}{cd:xC}{A:xq}{outer:List Env}{s1:xA}{H:Hp}{E:XK}{us:List xC}{vs:List V}
  (S:FnScope N ps scope) (hd:A.handled=vE) (e0:Env0 P w K mg base A outer s H) (hl:vs.length=ps.length) (r:Vals vs us)
  (x:InCallC s s.heap.objs.size (bindL (envOfC qual scope s.heap.objs.size f cd).kindOf (ps.zip us) λ_=>vE) (cellsFrom (s.heap.objs.size+1) scope.names []) (bindC (envOfC qual scope s.heap.objs.size f cd).kindOf (ps.zip us) λ_=>vE) s1):
  Inv (El CX P w K mg base N qual scope f cd A outer s H E) [] (start N vs) H s1:=by
 have hpl:ps.length<=N.length:=by have:=congrArg List.length S.pre;rw[j6]at this;lia
 obtain⟨h1,tk,rfl,hk⟩:=x.done
 have noA:∀b:xY,b∉(El CX P w K mg base N qual scope f cd A outer s H E).ex:=λb z=>absurd (show b∈([]:List xY)from z) (by simp)
 refine⟨⟨e0.mod,S.kind,rfl,rfl,zY _,λy z c h1 h2=>?_,λy hy=>?_,λy c _ h=>?_,λ_=>hd,Around.frames_deeper e0.frames,.inr ⟨rfl,rfl⟩,λb z=>absurd z (noA b),e0.bs,e0.bsz,λb _ _=>noA b,λb z=>absurd z (noA b),e0.funs,e0.frf⟩,
  rfl,e0.bare,Un.kept hk,⟨_,x.toInCall.ns,λi y v h1 h2 h3=>?_⟩,λy c h=>⟨_,x.cell y c h⟩,e0.hok.fresh (zY _),λy c h=>?_,λp hp=>absurd (show p∈([]:List (xY×Obj))from hp) (by simp),e0.hok.kept hk,?_⟩
 ·exact name_of_addr x.apart (PySem.mem_of_lookup h1) (PySem.mem_of_lookup h2)
 ·have hy:scope.names.lookup y=vD .cell∨scope.names.lookup y=vD .free:=hy;rcases hy with hy|hy
  ·exact ZDp hy
  ·exact absurd rfl (S.nofree _ (PySem.mem_of_lookup hy))
 ·exact Nat.le_of_lt (x.above y c (PySem.mem_of_lookup h))
 ·have hi:i<vs.length:=by
   unfold start at h2;by_cases hi:i<vs.length
   ·exact hi
   ·rw[zL (by simpa using hi)]at h2;rw[jW]at h2
    split at h2<;>cases h2
  have ha:vs[i]?=vD v:=by
   unfold start at h2;rw[qZ (by simpa using hi),zw]at h2;cases e:vs[i]? with
   |none=>rw[e]at h2;cases h2
   |some a=>rw[e]at h2;cases h2;rfl
  obtain⟨u,hu,rv⟩:=r.get ha;have hp:ps[i]?=vD y:=by rw[<-S.pre,jk (by lia)];exact h1
  have ndP:ps.Nodup:=by rw[<-S.pre];exact S.nd.sublist (List.take_sublist _ _)
  refine⟨u,rv,?_⟩;rcases S.par y (jT hp)with k|k
  ·exact .inl ⟨k,ZGN ndP hp hu k⟩
  ·obtain⟨c,e⟩:=ZDp (n:=s.heap.objs.size+1) k;refine .inr ⟨.inl k,c,e,?_⟩;have q:=x.cell y c e;rw[ZCA ndP hp hu (by show scope.names.lookup y≠_;rw[k];decide)]at q;exact q
 ·exact e0.hok.fresh (Nat.le_of_lt (x.above y c (PySem.mem_of_lookup h)))
 ·unfold start;show _=N.length;rw[qJ,qW,jH];lia
theorem ZAn{CX:CXT}{w:xD}{k:Nat}{f:xY}{name qual:Str}{params:Arguments}{body:List xB}{scope:x0}{dV kV doc pm cdv ct oc:xC}{an od:Option xY}
  {osl:Array (Option xC)} {N ps:List Str} {sp:Sp} (lk:K.lookup f=vD ⟨oc,od,.func (PySem.W.fnOf name qual params body scope dV kV doc pm an cdv ct),osl⟩) (hcd:PySem.W.codeIn K cdv qual=vF) (S:FnScope N ps scope)
  (len:∀vs H Q E,sp vs H Q E->vs.length=ps.length)
  (hbody:∀(A:xq)(outer:List Env)(s:xA)(H:Hp)(vs:List V)(Q:VK)(E:XK),Room k (A.deeper (envOfC qual scope s.heap.objs.size f cdv))->sp vs H Q E->
   ∃t,PSs (El CX P w K mg base N qual scope f cdv A outer s H E) body t/\t {nx:=λ_ H'=>Q .non H',rt:=Q} (start N vs) H):
  FnOk P w K mg base CX (k+1) f (PySem.W.fnOf name qual params body scope dV kV doc pm an cdv ct) ps sp:=by
 refine⟨len,λA outer s H args us vs Q E hr e0 hb r hsp=>?_⟩;have hl:=len _ _ _ _ hsp;have KX:K.In s.heap:=e0.mod.kin.keeps λb o e=>(e0.bs b o e).1
 have lim:s.heap.NoLimit:=e0.mod.nolimit.keeps λb o e=>(e0.bs b o e).1
 have hkind:∀y∈ps.zip us,scope.names.lookup y.1=vD .local∨(scope.names.lookup y.1=vD .cell/\((cellsFrom (s.heap.objs.size+1) scope.names []).lookup y.1).isSome=vF):=λ⟨n,v⟩ hy=>by
  rcases S.par n (jU hy).1 with q|q
  ·exact .inl q
  ·exact .inr ⟨q,PySem.W.cellsFrom_some _ _ _ (.inl q)⟩
 refine codeAny_call_function hr.depth (KX _ _ lk) rfl S.co S.gen rfl (PySem.W.codeRec_of KX hcd) (hb _ _ _ _ ?_);refine wpAny_newFunctionEnv_cells S.kind hkind λenv he s1 x=>?_
 subst he;refine⟨lim.keeps x.toInCall.keep,codeAny_func ?_⟩;obtain⟨t,ht,hq⟩:=hbody A outer s H vs Q E (hr.deeper _) hsp;have I:Inv (El CX P w K mg base N qual scope f cdv A outer s H E) [] (start N vs) H s1:=ZFN S hr.hd e0 hl r x;refine vk (ht [] s1 (start N vs) H _ I hq) (λfl s' hs=>?_) λe s' hs=>hs
 have fin:∀{σ':St}{H':Hp}{v:V}{u:xC},Inv (El CX P w K mg base N qual scope f cdv A outer s H E) [] σ' H' s'->RelV v u->Q v H'->CE outer P w H s Q u s':=
  λ{σ' H' v u}J rv q=>⟨v,H',J.os,J.bare,J.base,J.hok,rv,q⟩
 cases fl with
 |ret u=>
  obtain⟨v,σ',H',J,rv,q⟩:=hs;exact fin J rv q
 |next=>
  obtain⟨σ',H',J,q⟩:=hs;exact fin (v:=V.non) (u:=Value.none) J rfl q
 |brk=>
  obtain⟨_,_,_,q⟩:=hs;exact False.elim q
 |cont=>
  obtain⟨_,_,_,q⟩:=hs;exact False.elim q
section
variable{X:Cx}{x:Str}{p pos:Pos}{e:xz}{es:List xz}{t:TA}{id T:String}{r:List V->Hp->VK->Prop}
noncomputable def tCB(r:List V->Hp->VK->Prop)(t:TA):TE:=λσ H Q=>t σ H λvs H1=>r vs H1 Q
theorem Xa(hc:CallR X (.builtin id) r)(hg:Gl X x)(hm:X.mg x=vE)(hv:xM x=vD (.builtin id))(ha:PA X (e::es) t)(hn:x≠"__name__":=by decide)(hdb:(x==("__debug__":Str))=vG:=by decide)
  (he:vV (e::es) X.env=(vG,eval e X.env)::vV es X.env:=by rfl) (hpl:(xG pos (vV es X.env)).any (·.1)=vG:=by rfl):PE X (.Call (.Name x p) (e::es) [] pos) (tCB r t):=by
 intro vC s σ H Q I h;refine vY (Gj I hg hm hv ?_ hn hdb);exact PyProof.Rows.callWith_builtin1 (thn (ha pos vC s σ H _ I h) λus s1 ⟨vs,H1,I1,r1,q1⟩=>hc vC s1 σ H1 vs us Q I1 r1 q1) he hpl
theorem ZLI(hc:CallR X (.type T) r)(hg:Gl X x)(hm:X.mg x=vE)(hv:xM x=vD (.type T))(ha:PA X (e::es) t)(hn:x≠"__name__":=by decide)(hdb:(x==("__debug__":Str))=vG:=by decide)
  (he:vV (e::es) X.env=(vG,eval e X.env)::vV es X.env:=by rfl) (hpl:(xG pos (vV es X.env)).any (·.1)=vG:=by rfl):PE X (.Call (.Name x p) (e::es) [] pos) (tCB r t):=by
 intro vC s σ H Q I h;refine vY (Gj I hg hm hv ?_ hn hdb);exact PyProof.Rows.callWith_type1 (thn (ha pos vC s σ H _ I h) λus s1 ⟨vs,H1,I1,r1,q1⟩=>hc vC s1 σ H1 vs us Q I1 r1 q1) he hpl
end
end _L
namespace HT
open PySem PyProof.Rows
section
open PySem.SeqAt
open PySem.AutoSeq1 (wpAny_loadPart')
open PySem.MeetsSeq PySem.MeetsSeq2 PySem.MeetsSeq3
end
section
variable{prog:xy}{w:xD}{A:xq}{E:xC->xA->Prop}{s:xA}
theorem ZKU(ht:IsTup s.heap t vs.toArray)(hb:IsTup s.heap b ws.toArray)(hv:vs≠[])
  (h1:ws=[]->Q (.ref t) s) (h2:ws≠[]->Q (.ref s.heap.objs.size) {s with heap:=s.heap.push {cls:=.type "tuple",data:=.seq (vs++ws).toArray}})
  (hsz:vs.length+ws.length<=sizeLine):vK (vQ prog w) A (xL .Add (.ref t) (.ref b)) Q E s:=by
 obtain⟨⟨cls,dd,data,sl⟩,ho,hc,n,hd⟩:=id ht;obtain⟨⟨cls2,dd2,data2,sl2⟩,ho2,hc2,n2,hd2⟩:=id hb;simp only at hc hd hc2 hd2;subst hc hd hc2 hd2;have e:vs.toArray++ws.toArray=(vs++ws).toArray:=by simp
 by_cases hw:ws=[]
 ·exact concat_meets ⟨_,ho,rfl⟩ ⟨_,ho2,rfl⟩ noFill_tuple_add seq_tuple_add PySem.F.slot_tuple_add PySem.F.entry_tuple_add (PySem.F.args_tuple_add_2 _ _)
   (tuple_addW1 t b vs.toArray ws.toArray n n2 dd dd2 sl sl2 (by simpa using hv) (by simp[hw])) ⟨ho,ho2,h1 hw⟩
 ·refine concat_meets ⟨_,ho,rfl⟩ ⟨_,ho2,rfl⟩ noFill_tuple_add seq_tuple_add PySem.F.slot_tuple_add PySem.F.entry_tuple_add (PySem.F.args_tuple_add_2 _ _)
   (tuple_addW2 t b vs.toArray ws.toArray n n2 dd dd2 sl sl2 (by simpa using hv) (by simpa using hw) (by rw[zK,zK];exact hsz)) ⟨ho,ho2,?_⟩
  rw[e];exact h2 hw
noncomputable def sIx(n d:Nat):Option Int->Nat
 |none=>d
 |some v=>if v<0 then(v+(n:Int)).toNat else min v.toNat n
theorem ZGB(n d:Nat)(hd:d<=n)(o:Option Int):sIx n d o<=n:=by
 cases o with
 |none=>exact hd
 |some v=>
  show(if v<0 then(v+(n:Int)).toNat else min v.toNat n)<=n;by_cases hv:v<0
  ·rw[if_pos hv];lia
  ·rw[if_neg hv];exact Nat.min_le_right _ _
theorem ZIL(v:Int)(n d:Nat):(if v<0 then max (v+(n:Int)) 0 else min v (n:Int))=((sIx n d (vD v):Nat):Int):=by
 show(if v<0 then max (v+(n:Int)) 0 else min v (n:Int))=(((if v<0 then(v+(n:Int)).toNat else min v.toNat n):Nat):Int);by_cases hv:v<0
 ·simp only[if_pos hv];lia
 ·simp only[if_neg hv];lia
theorem ZRT(lo hi:Option Int)(n:Nat):Builtin.Slice.sliceAdjust lo hi 1 (n:Int)=(((sIx n 0 lo:Nat):Int),((sIx n n hi:Nat):Int)):=by
 have h1:¬((1:Int)<0):=by lia
 unfold Builtin.Slice.sliceAdjust;simp only[h1,if_false];refine Prod.ext ?_ ?_
 ·cases lo with
  |none=>rfl
  |some v=>exact ZIL v n 0
 ·cases hi with
  |none=>rfl
  |some v=>exact ZIL v n n
theorem ZPM(i j:Nat):Builtin.Slice.slicePlaces (i:Int) (j:Int) 1=j-i:=by
 unfold Builtin.Slice.slicePlaces;have h1:(1:Int)>0:=by lia
 simp only[h1,if_true,Int.ediv_one]
 split <;> lia
theorem ZFb(p:IsPart v o)(h:Q o s):vK (vQ prog w) A (Builtin.Slice.slicePartIndex v) Q E s:=by
 cases p with
 |none=>exact slicePart_none h
 |int i t=>exact slicePart_int h
theorem ZER{sl:xY}{vl vu:xC}{lo hi:Option Int}{n:Nat}{Q:Int×Int×Nat->xA->Prop}(hs:s.heap.IsSliceOf sl vl vu .none)(pl:IsPart vl lo)(pu:IsPart vu hi)
  (h:Q (((sIx n 0 lo:Nat):Int),1,sIx n n hi-sIx n 0 lo) s):vK (vQ prog w) A (Builtin.Slice.sliceApplied (.ref sl) (pure (n:Int))) Q E s:=by
 obtain⟨os,hos,hcs,hds⟩:=id hs;unfold Builtin.Slice.sliceApplied Builtin.Slice.sliceFields;refine vq (vq (vx hos hds (x:=vl) rfl (vq (vx hos hds (x:=vu) rfl (vq (vx hos hds (x:=.none) rfl (v6 ?_)))))));refine vq (slicePart_none ?_);show vK _ _ (if((1:Int)==0)=vF then _ else _) _ _ s;rw[if_neg (by decide)];refine vq (ZFb pl (vq (ZFb pu (vq (v6 ?_)))))
 show vK _ _ (match Builtin.Slice.sliceAdjust lo hi 1 (n:Int)with |(lo,hi)=>pure (lo,(1:Int),Builtin.Slice.slicePlaces lo hi 1)) _ _ s
 rw[ZRT lo hi n];show vK _ _ (pure (((sIx n 0 lo:Nat):Int),(1:Int),Builtin.Slice.slicePlaces ((sIx n 0 lo:Nat):Int) ((sIx n n hi:Nat):Int) 1)) _ _ s;rw[ZPM];exact v6 h
theorem ZOy(xs:Array xC)(i k:Nat):((zV k).filterMap λ(m:Nat)=>xs[((i:Int)+(m:Int)*1).toNat]?).toArray=((xs.toList.drop i).take k).toArray:=by
 have e:(λ(m:Nat)=>xs[((i:Int)+(m:Int)*1).toNat]?)=λm=>xs[i+m]? :=by
  funext m;have:((i:Int)+(m:Int)*1).toNat=i+m:=by lia
  rw[this]
 rw[e];have:=pick_run xs i k;rw[qq]at this;have e2:((λx=>xs[x]?) ∘ λx=>i+x)=λm=>xs[i+m]? :=rfl
 rw[e2]at this;rw[this]
theorem ZNe{t sl:xY}{items:Array xC}{vl vu:xC}{lo hi:Option Int}{Q:xC->xA->Prop}(ht:IsTup s.heap t items)(hs:s.heap.IsSliceOf sl vl vu .none)(pl:IsPart vl lo)(pu:IsPart vu hi)
  (hw:¬(sIx items.size 0 lo=0/\sIx items.size items.size hi=items.size))
  (h:Q (.ref s.heap.objs.size) {s with heap:=s.heap.push {cls:=.type "tuple",data:=.seq ((items.toList.drop (sIx items.size 0 lo)).take (sIx items.size items.size hi-sIx items.size 0 lo)).toArray}})
  (hsz:items.size<=sizeLine):vK (vQ prog w) A (getItem (.ref t) (.ref sl)) Q E s:=by
 have htake:sizeOk (.seq ((items.toList.drop (sIx items.size 0 lo)).take (sIx items.size items.size hi-sIx items.size 0 lo)).toArray):=by show((items.toList.drop (sIx items.size 0 lo)).take (sIx items.size items.size hi-sIx items.size 0 lo)).toArray.size<=sizeLine;rw[zK,j6,jI,qD];lia
 have hj:sIx items.size items.size hi<=items.size:=ZGB _ _ (zY _) hi;obtain⟨os,hos,hcs,hds⟩:=id hs;have hTs:s.TypeIs (.ref sl) "slice":=⟨os,hos,hcs⟩;unfold getItem
 try with_reducible refine vv ?_
 first|refine vq (v6 ?_)|skip
 refine vq (wpAny_sequenceKey ht.typeIs (by decide) ?_);refine vq (vz (name:=Str.ofString "__getitem__") ht.typeIs PyProof.Rows.slot_tuple_getitem
  (vj PyProof.Rows.slot_tuple_getitem ht.typeIs entry_tuple_getitem ?_ (args_tuple_getitem _ _)))
 show vK _ _ (Builtin.Tuple.tupleItemsOf (.ref t) >>=_) _ _ s;refine vq (tupleItemsOf_ ht ?_);refine vq (wpAny_typeOf hTs ?_);rw[if_pos (by decide)];refine vq (ZER hs pl pu ?_);have hno:¬((((sIx items.size 0 lo:Nat):Int)==0&&(1:Int)==1&&(sIx items.size items.size hi-sIx items.size 0 lo)==items.size)=vF):=by intro q;rw[z0,z0]at q;have q1:((sIx items.size 0 lo:Nat):Int)=0:=eq_of_beq q.1.1;have q2:sIx items.size items.size hi-sIx items.size 0 lo=items.size:=eq_of_beq q.2;exact hw ⟨by lia,by lia⟩
 show vK _ _ (if(((sIx items.size 0 lo:Nat):Int)==0&&(1:Int)==1&&(sIx items.size items.size hi-sIx items.size 0 lo)==items.size)=vF then _ else _) _ _ s;rw[if_neg hno,ZOy]
 first
  |exact vq (m:=Builtin.Tuple.tupleExact _) (v4 (v6 ⟨_,rfl,v6 h⟩) htake)
  |exact vq (m:=Builtin.Tuple.tupleExact _) (v4 (vq (v6 (v6 ⟨_,rfl,v6 h⟩))) htake)
  |exact vq (vq (m:=Builtin.Tuple.tupleExact _) (v4 (v6 (v6 ⟨_,rfl,v6 h⟩)) htake))
  |exact vq (vq (m:=Builtin.Tuple.tupleExact _) (v4 (v6 ⟨_,rfl,v6 h⟩) htake))
end
end HT
namespace _L
open PySem PySem.Spec PyProof.Rows
variable{vC:List (xY×Obj)}{s:xA}
noncomputable abbrev TO:=St->Hp->(Option Int->Hp->Prop)->Prop
def PO(X:Cx)(e:Option xz)(t:TO):Prop:=
 ∀(vC:List (xY×Obj))(s:xA)(σ:St)(H:Hp)(Q:Option Int->Hp->Prop),Inv X vC σ H s->t σ H Q->
  vK (vQ X.prog X.w) X.A (evalPart e X.env) (λu s'=>∃o H',Inv X vC σ H' s'/\IsPart u o/\Q o H') X.xe s
noncomputable def ZO9:TO:=λ_ H Q=>Q vE H
noncomputable def ZKm(t:TE):TO:=λσ H Q=>t σ H λx H1=>∃i,x=.int i/\Q (vD i) H1
section
variable{X:Cx}{e:xz}{te:TE}{lo hi:Option xz}{tl th:TO}{pos p2:Pos}
theorem ZM8:PO X vE ZO9:=by intro vC s σ H Q I h;rw[evalPart_none];exact v6 ⟨vE,H,I,.none,h⟩
theorem ZML(h:PE X e te):PO X (vD e) (ZKm te):=by
 intro vC s σ H Q I hw;rw[evalPart_some];refine thn (h vC s σ H _ I hw) λu s1 ⟨x,H1,I1,r1,q1⟩=>?_
 obtain⟨i,rfl,q⟩:=q1;obtain⟨t,rfl⟩:=r1;exact⟨vD i,H1,I1,.int i t,q⟩
def SlR(X:Cx)(r:V->Option Int->Option Int->Hp->VK->Prop):Prop:=
 ∀(vC:List (xY×Obj))(s:xA)(σ:St)(H:Hp)(x:V)(v vl vu:xC)(lo hi:Option Int)(sl:xY)(Q:VK),Inv X vC σ H s->RelV x v->s.heap.IsSliceOf sl vl vu .none->IsPart vl lo->IsPart vu hi->r x lo hi H Q->
  ∃T id,typeLookup (.type T) "__getitem__"=pure (vD (.builtin id))/\s.TypeIs v T/\vK (vQ X.prog X.w) X.A (getItem v (.ref sl)) (EP X vC σ Q) X.xe s
theorem SlR.or(h:SlR X r)(h':SlR X r'):SlR X (λx lo hi H Q=>r x lo hi H Q∨r' x lo hi H Q):=by
 intro vC s σ H x v vl vu lo hi sl Q I rx hs pl pu q;rcases q with q|q
 ·exact h vC s σ H x v vl vu lo hi sl Q I rx hs pl pu q
 ·exact h' vC s σ H x v vl vu lo hi sl Q I rx hs pl pu q
noncomputable def tSl(r:V->Option Int->Option Int->Hp->VK->Prop)(te:TE)(tl th:TO):TE:=λσ H Q=>te σ H λx H1=>tl σ H1 λl H2=>th σ H2 λu H3=>r x l u H3 Q
theorem ZR5(hr:SlR X r)(he:PE X e te)(hl:PO X lo tl)(hu:PO X hi th):PE X (.Subscript e (.Slice lo hi vE p2) pos) (tSl r te tl th):=by
 intro vC s σ H Q I h;refine Subscript_ (thn (he vC s σ H _ I h) λv s1 ⟨x,H1,I1,r1,q1⟩=>?_);refine wpAny_Slice (thn (hl vC s1 σ H1 _ I1 q1) λvl s2 ⟨l,H2,I2,pl,q2⟩=>thn (hu vC s2 σ H2 _ I2 q2) λvu s3 ⟨u,H3,I3,pu,q3⟩=>?_);rw[evalPart_none];refine v6 ?_;have I4:Inv X vC σ H3 {s3 with heap:=s3.heap.push {cls:=.type "slice",data:=.fields #[vl,vu,.none]}}:=I3.kept (t':=s3.toks) λb ob q=>zQ _ q
 obtain⟨T,id,hT,ht,hg⟩:=hr vC {s3 with heap:=s3.heap.push {cls:=.type "slice",data:=.fields #[vl,vu,.none]}} σ H3 x v vl vu l u s3.heap.objs.size Q I4 r1 (Heap.IsSliceOf.new ..) pl pu q3;show vK (vQ X.prog X.w) X.A (subscriptTail e (.Slice lo hi vE p2) v (.ref s3.heap.objs.size)) (EP X vC σ Q) X.xe {s3 with heap:=s3.heap.push {cls:=.type "slice",data:=.fields #[vl,vu,.none]}}
 exact tail_any (ops:=[.ref s3.heap.objs.size,v]) ht hT hg (by with_unfolding_all rfl)
def J1(xs:List V)(lo hi:Option Int):List V:=(xs.drop (HT.sIx xs.length 0 lo)).take (HT.sIx xs.length xs.length hi-HT.sIx xs.length 0 lo)
theorem ZFz(xs:List V)(lo hi:Option Int):(J1 xs lo hi).length<=xs.length:=by unfold J1;rw[j6,jI];lia
def rSlT(K:PySem.W.Frag):V->Option Int->Option Int->Hp->VK->Prop:=λx lo hi H Q=>∃a xs,x=.ref a/\SqT K H a xs/\
 ¬(HT.sIx xs.length 0 lo=0/\HT.sIx xs.length xs.length hi=xs.length)/\∀p,H p=vE->Q (.ref p) (upd H p (.tup (J1 xs lo hi)))
theorem ZPC:SlR X (rSlT X.K):=by
 intro vC s σ H x v vl vu lo hi sl Q I rx hs pl pu h;obtain⟨a,xs,rfl,hx,hw,q⟩:=h;cases rx;obtain⟨its,r,ht,hz⟩:=I.tuple hx;have hlen:its.toArray.size=xs.length:=by rw[zK];exact r.length.symm
 refine⟨"tuple",_,PyProof.Rows.slot_tuple_getitem.lookup,ht.typeIs,?_⟩;refine HT.ZNe ht hs pl pu (by rw[hlen];exact hw) ?_ (by rw[hlen];exact hz);rw[hlen];refine⟨.ref s.heap.objs.size,_,I.laid (t':=s.toks) (o:=.tup (J1 xs lo hi)) (λb ob q=>zQ _ q) (zY _) ?_,rfl,q _ (I.hok.fresh (zY _))⟩;exact⟨z5 (ZFz xs lo hi) hz,_,(r.drop (HT.sIx xs.length 0 lo)).take (HT.sIx xs.length xs.length hi-HT.sIx xs.length 0 lo),IsTup.new _ _⟩
def ZHu(K:PySem.W.Frag):R2:=λx y H Q=>∃a b xs ys,x=.ref a/\y=.ref b/\SqT K H a xs/\SqT K H b ys/\xs≠[]/\xs.length+ys.length<=sizeLine/\
 (ys=[]->Q (.ref a) H)/\(ys≠[]->∀p,H p=vE->Q (.ref p) (upd H p (.tup (xs++ys))))
theorem Vals.ZBk(r:Vals xs us):us=[]↔xs=[]:=by
 cases r with
 |nil=>simp
 |cons _ _=>simp
theorem ZSi:OpR X (xL .Add) (ZHu X.K):=by
 intro vC s σ H x y v u Q I rx ry h;obtain⟨a,b,xs,ys,rfl,rfl,ha,hb,hx,hz,q1,q2⟩:=h;cases rx;cases ry;obtain⟨its,r1,p1,_⟩:=I.tuple ha;obtain⟨its2,r2,p2,_⟩:=I.tuple hb;refine HT.ZKU p1 p2 (λz=>hx (r1.ZBk.mp z)) (λz=>⟨.ref a,H,I,rfl,q1 (r2.ZBk.mp z)⟩) (λz=>?_) (by rw[<-r1.length,<-r2.length];exact hz);refine⟨.ref s.heap.objs.size,_,I.laid (t':=s.toks) (o:=.tup (xs++ys)) (λb ob q=>zQ _ q) (zY _) ?_,rfl,q2 (λw=>z (r2.ZBk.mpr w)) _ (I.hok.fresh (zY _))⟩
 exact⟨by rw[qJ];exact hz,_,r1.append r2,IsTup.new _ _⟩
end
noncomputable def ixN(n:Nat)(i:Int):Option Nat:=if 0<=i then(if i<n then vD i.toNat else vE)else if -(n:Int)<=i then vD (i+n).toNat else vE
def atI{α:Type}(xs:List α)(i:Int):Option α:=(ixN xs.length i).bind λj=>xs[j]?
theorem ZGG(h:ixN n i=vD j):seqIndex? i n=vD j/\j<n/\ -(n:Int)<=i/\i<n:=by
 unfold ixN at h;by_cases h0:0<=i
 ·rw[if_pos h0]at h;by_cases h1:i<n
  ·rw[if_pos h1]at h;have e:i.toNat=j:=Option.some.inj h;exact⟨by rw[seqIndex_of h0 h1,e],by lia,by lia,h1⟩
  ·rw[if_neg h1]at h;cases h
 ·rw[if_neg h0]at h;by_cases h1: -(n:Int)<=i
  ·rw[if_pos h1]at h;have e:(i+n).toNat=j:=Option.some.inj h;exact⟨by rw[seqIndex_neg (by lia) h1,e],by lia,h1,by lia⟩
  ·rw[if_neg h1]at h;cases h
theorem Ql{α:Type}{xs:List α}{i:Int}{v:α}(h:atI xs i=vD v):∃j,seqIndex? i xs.length=vD j/\xs[j]?=vD v/\j<xs.length/\ -(xs.length:Int)<=i/\i<xs.length:=by
 unfold atI at h;cases e:ixN xs.length i with
 |none=>rw[e]at h;cases h
 |some j=>
  rw[e]at h;obtain⟨h1,h2,h3,h4⟩:=ZGG e;exact⟨j,h1,h,h2,h3,h4⟩
def PlainIx(b:xz):Prop:=∀o i,subscripted b vG o i=operate [o,i] (getItem o i)
def IxR(X:Cx)(r:R2):Prop:=
 ∀(value slice:xz)(vC:List (xY×Obj))(s:xA)(σ:St)(H:Hp)(x y:V)(v u:xC)(Q:VK),Inv X vC σ H s->RelV x v->RelV y u->r x y H Q->
  subscripted slice vG v u=operate [v,u] (getItem v u)->vK (vQ X.prog X.w) X.A (subscriptTail value slice v u) (EP X vC σ Q) X.xe s
def MtR(X:Cx)(id:String)(r:V->List V->Hp->VK->Prop):Prop:=
 ∀(vC:List (xY×Obj))(s:xA)(σ:St)(H:Hp)(x:V)(xs:List V)(v:xC)(us:List xC)(Q:VK),Inv X vC σ H s->RelV x v->Vals xs us->r x xs H Q->
  vK (vQ X.prog X.w) X.A (call (.builtin id) (v::us)) (EP X vC σ Q) X.xe s
section
variable{X:Cx}{a b:xz}{ta tb:TE}{pos:Pos}
theorem IxR.or(h:IxR X r)(h':IxR X r'):IxR X (λx y H Q=>r x y H Q∨r' x y H Q):=by
 intro value slice vC s σ H x y v u Q I rx ry q hs;rcases q with q|q
 ·exact h value slice vC s σ H x y v u Q I rx ry q hs
 ·exact h' value slice vC s σ H x y v u Q I rx ry q hs
theorem ZQC(hr:IxR X r)(ha:PE X a ta)(hb:PE X b tb)(hs:PlainIx b):PE X (.Subscript a b pos) (tOp r ta tb):=by intro vC s σ H Q I h;exact Subscript_ (ZBG ha hb I h λv u s2 x y H2 I2 rx ry q=>hr a b vC s2 σ H2 x y v u Q I2 rx ry q (hs _ _))
def rIxL(K:PySem.W.Frag):R2:=λx y H Q=>∃p xs i v,x=.ref p/\y=.int i/\SqL K H p xs/\atI xs i=vD v/\Q v H
def rIxT(K:PySem.W.Frag):R2:=λx y H Q=>∃p xs i v,x=.ref p/\y=.int i/\SqT K H p xs/\atI xs i=vD v/\Q v H
def rIxS:R2:=λx y H Q=>∃z i c,x=.str z/\y=.int i/\z.length<=sizeLine/\atI z.cps.toList i=vD c/\Q (.str ⟨#[c]⟩) H
theorem ZQd:IxR X (rIxL X.K):=by
 intro value slice vC s σ H x y v u Q I rx ry h hs;obtain⟨p,xs,i,z,rfl,rfl,hq,he,q⟩:=h;cases rx;obtain⟨t,rfl⟩:=ry;obtain⟨its,r,pl,hz⟩:=I.list hq;obtain⟨j,h1,h2,h3,h4,h5⟩:=Ql he;obtain⟨w,ew,rw'⟩:=r.get h2;have hl:=r.length;have hn:=line63;have fin:EP X vC σ Q w s:=⟨z,H,I,rw',q⟩;by_cases h0:0<=i
 ·have hj:i.toNat=j:=by rw[seqIndex_of h0 h5]at h1;exact Option.some.inj h1
  exact item_listR pl.isList h0 (by lia) (by rw[hj];simpa using ew) fin hs
 ·have hj:(i+(its.toArray.size:Int)).toNat=j:=by rw[seqIndex_neg (by lia) h4]at h1;rw[zK,<-hl];exact Option.some.inj h1
  exact subscriptTail_builtinR (x:=w) pl.isList.typeIs slot_list_getitem.lookup
   (wpAny_getItem_list_neg (Q:=λr s'=>r=w/\EP X vC σ Q r s') pl.isList (by lia) (by rw[zK]<;>lia) (by lia) (by rw[hj];simpa using ew) ⟨rfl,fin⟩) hs
theorem ZOt:IxR X (rIxT X.K):=by
 intro value slice vC s σ H x y v u Q I rx ry h hs;obtain⟨p,xs,i,z,rfl,rfl,hq,he,q⟩:=h;cases rx;obtain⟨t,rfl⟩:=ry;obtain⟨its,r,pl,hz⟩:=I.tuple hq;obtain⟨j,h1,h2,h3,h4,h5⟩:=Ql he;obtain⟨w,ew,rw'⟩:=r.get h2;have hl:=r.length;have hn:=line63;have fin:EP X vC σ Q w s:=⟨z,H,I,rw',q⟩;exact subscriptTail_builtinR (x:=w) pl.typeIs slot_tuple_getitem.lookup
  (getItem_tuple (j:=j) (Q:=λr s'=>r=w/\EP X vC σ Q r s') pl (by lia) (by lia) (by rw[zK,<-hl];exact h1) (by simpa using ew) ⟨rfl,fin⟩) hs
theorem ZOY:IxR X rIxS:=by
 intro value slice vC s σ H x y v u Q I rx ry h hs;obtain⟨z,i,c,rfl,rfl,hz,he,q⟩:=h;obtain⟨t,rfl⟩:=rx;obtain⟨t',rfl⟩:=ry;obtain⟨j,h1,h2,h3,h4,h5⟩:=Ql he;have hl:z.cps.toList.length=z.length:=by simp[Str.length]
 rw[hl]at h1 h4 h5;have hn:=line63;exact tail_any (typeIs_str s z t) slot_str_getitem.lookup (getItem_str (c:=c) (by have e1:decide (i < -(2^63:Int))=vG:=decide_eq_false (by lia);have e2:decide (i ≥ 2^63)=vG:=decide_eq_false (by lia);rw[e1,e2,Bool.or_false]) (by rw[h1];simpa using h2) ⟨.str ⟨#[c]⟩,H,I.tok _,⟨_,rfl⟩,q⟩) hs
def rIx(K:PySem.W.Frag):R2:=λx y H Q=>rIxL K x y H Q∨rIxT K x y H Q∨rIxS x y H Q
theorem ZJI:IxR X (rIx X.K):=ZQd.or (ZOt.or ZOY)
theorem ZQS(its:List xC)(n j:Nat)(u:xC):Obj.mapSeq (·.setIfInBounds j u) {cls:=.type "list",data:=.seq its.toArray n}={cls:=.type "list",data:=.seq (its.set j u).toArray n}:=by simp[Obj.mapSeq]
theorem Inv.lst{σ:St}{H:Hp}{p:xY}{xs:List V}(I:Inv X vC σ H s)(h:H p=vD (.lst xs)):
  ∃(its:List xC)(n:Nat),Vals xs its/\s.heap.get? p=vD {cls:=.type "list",data:=.seq its.toArray n}/\xs.length<=sizeLine:=by
 obtain⟨z,its,n,r,e⟩:=I.hok p _ h;exact⟨its,n,r,e,z⟩
theorem Inv.ZO3{σ:St}{H:Hp}{p:xY}{xs ys:List V}{its its':List xC}{n n':Nat}{f:Obj->Obj}(I:Inv X vC σ H s)(h:H p=vD (.lst xs))
  (ho:s.heap.get? p=vD {cls:=.type "list",data:=.seq its.toArray n}) (hf:f {cls:=.type "list",data:=.seq its.toArray n}={cls:=.type "list",data:=.seq its'.toArray n'}) (r:Vals ys its') (hz:ys.length<=sizeLine) (t:Nat):
  Inv X vC σ (upd H p (.lst ys)) {s with heap:=s.heap.update p f,toks:=t}:=by
 have e:(s.heap.update p f).get? p=vD {cls:=.type "list",data:=.seq its'.toArray n'}:=by rw[qk f ho (by rw[hf]<;>rfl),hf]
 refine I.write (x:=p) (e:=p) (by rw[h];trivial) (.inl rfl) (λb u hb q=>(qA _ _ (Ne.symm hb)).trans q) ⟨_,e⟩ ?_;exact⟨hz,its',n',r,e⟩
def ZPt:V->V->V->Hp->(Hp->Prop)->Prop:=λo i v H Q=>∃p xs k j,o=.ref p/\i=.int k/\H p=vD (.lst xs)/\ixN xs.length k=vD j/\Q (upd H p (.lst (xs.set j v)))
theorem set_list:PSet X ZPt:=by
 intro vC s σ H o i v ov iv u Q I ro ri rv h;obtain⟨p,xs,k,j,rfl,rfl,hp,hj,q⟩:=h;cases ro;obtain⟨t,rfl⟩:=ri;obtain⟨its,n,r,ho,hz⟩:=I.lst hp;obtain⟨h1,h2,h3,h4⟩:=ZGG hj;have hl:=r.length;have hn:=line63
 have I':Inv X vC σ (upd H p (.lst (xs.set j v))) {s with heap:=s.heap.update p (Obj.mapSeq (·.setIfInBounds j u))}:=
  I.ZO3 hp ho (ZQS its n j u) (r.set rv j) (by rw[j0];exact hz) s.toks
 by_cases h0:0<=k
 ·have hk:k.toNat=j:=by rw[seqIndex_of h0 h4]at h1;exact Option.some.inj h1
  exact PySem.W.ki_setAt ho h0 (by lia) (by rw[zK,<-hl];exact h4) (by rw[hk];exact⟨_,I',q⟩)
 ·have hk:(k+(its.toArray.size:Int)).toNat=j:=by rw[seqIndex_neg (by lia) h3]at h1;rw[zK,<-hl];exact Option.some.inj h1
  exact PySem.W.ki_setBack ho (by lia) (by rw[zK,<-hl];exact h3) (by lia) (by rw[hk];exact⟨_,I',q⟩)
theorem ZMY(lo hi:Option Int)(n:Nat):(vX lo hi vE n).1=((HT.sIx n 0 lo:Nat):Int)/\(vX lo hi vE n).2.1=((HT.sIx n n hi:Nat):Int)/\(vX lo hi vE n).2.2=1:=by
 refine⟨?_,?_,rfl⟩
 ·cases lo with
  |none=>simp[vX,HT.sIx]
  |some i=>
   simp only[vX,HT.sIx,Option.getD_none,show(1:Int)>0 by decide,if_true];by_cases h:i<0
   ·simp only[h,if_true]<;>lia
   ·simp only[h,if_false]<;>lia
 ·cases hi with
  |none=>simp[vX,HT.sIx]
  |some i=>
   simp only[vX,HT.sIx,Option.getD_none,show(1:Int)>0 by decide,if_true];by_cases h:i<0
   ·simp only[h,if_true]<;>lia
   ·simp only[h,if_false]<;>lia
theorem ZQX(its:List xC)(lo hi:Option Int):slicePick its.toArray lo hi vE=((its.drop (HT.sIx its.length 0 lo)).take (HT.sIx its.length its.length hi-HT.sIx its.length 0 lo)).toArray:=by
 obtain⟨h1,h2,h3⟩:=ZMY lo hi its.toArray.size;unfold slicePick;rw[h1,h2,h3]
 simp only[sliceRange_one,pick_run,zK]<;>rfl
def rSlL(K:PySem.W.Frag):V->Option Int->Option Int->Hp->VK->Prop:=λx lo hi H Q=>∃a xs,x=.ref a/\SqL K H a xs/\∀p,H p=vE->Q (.ref p) (upd H p (.lst (J1 xs lo hi)))
theorem ZL0:SlR X (rSlL X.K):=by
 intro vC s σ H x v vl vu lo hi sl Q I rx hs pl pu h;obtain⟨a,xs,rfl,hx,q⟩:=h;cases rx;obtain⟨its,r,ht,hz⟩:=I.list hx;have hlen:=r.length;refine⟨"list",_,slot_list_getitem.lookup,ht.isList.typeIs,?_⟩
 refine wpAny_getItem_list_slice ht.isList hs pl pu .none (by simp) ?_ (by rw[zK]<;>lia)
 rw[ZQX,<-hlen];refine⟨.ref s.heap.objs.size,_,I.laid (t':=s.toks) (o:=.lst (J1 xs lo hi)) (λb ob q=>zQ _ q) (zY _) ?_,rfl,q _ (I.hok.fresh (zY _))⟩;exact⟨z5 (ZFz xs lo hi) hz,_,0,(r.drop (HT.sIx xs.length 0 lo)).take (HT.sIx xs.length xs.length hi-HT.sIx xs.length 0 lo),zy _ rfl⟩
noncomputable def Hz:V->Bool
 |.non=>vF
 |.bl _=>vF
 |.int _=>vF
 |.str _=>vF
 |_=>vG
noncomputable def eqV:V->V->Bool
 |.non,.non=>vF
 |.bl a,.bl b=>a==b
 |.bl a,.int b=>(if a then 1 else 0)==b
 |.int a,.bl b=>a==(if b then 1 else 0)
 |.int a,.int b=>a==b
 |.str a,.str b=>a==b
 |_,_=>vG
theorem ZPE(ry:RelV y u)(rx:RelV x v)(fy:Hz y=vF)(fx:Hz x=vF):SeqAt.EqAt A s u v (eqV y x):=by
 cases y with
 |non=>
  cases ry;cases x with
  |non=>cases rx;exact SeqAt.EqAt.same _
  |bl b=>cases rx;exact SeqAt.EqAt.none_bool b
  |int b=>obtain⟨t,rfl⟩:=rx;exact SeqAt.EqAt.none_int b t
  |str b=>obtain⟨t,rfl⟩:=rx;exact SeqAt.EqAt.none_str b t
  |_=>exact absurd (show vG=vF from fx) zk
 |bl a=>
  cases ry;cases x with
  |non=>cases rx;exact SeqAt.EqAt.bool_none a
  |bl b=>cases rx;exact SeqAt.EqAt.bool_bool a b
  |int b=>obtain⟨t,rfl⟩:=rx;exact SeqAt.EqAt.bool_int a b t
  |str b=>obtain⟨t,rfl⟩:=rx;exact SeqAt.EqAt.bool_str a b t
  |_=>exact absurd (show vG=vF from fx) zk
 |int a=>
  obtain⟨t',rfl⟩:=ry;cases x with
  |non=>cases rx;exact SeqAt.EqAt.int_none a t'
  |bl b=>cases rx;exact SeqAt.EqAt.int_bool a t' b
  |int b=>obtain⟨t,rfl⟩:=rx;exact SeqAt.EqAt.int_int a t' b t
  |str b=>obtain⟨t,rfl⟩:=rx;exact SeqAt.EqAt.int_str a t' b t
  |_=>exact absurd (show vG=vF from fx) zk
 |str a=>
  obtain⟨t',rfl⟩:=ry;cases x with
  |non=>cases rx;exact SeqAt.EqAt.str_none a t'
  |bl b=>cases rx;exact SeqAt.EqAt.str_bool a t' b
  |int b=>obtain⟨t,rfl⟩:=rx;exact SeqAt.EqAt.str_int a t' b t
  |str b=>obtain⟨t,rfl⟩:=rx;exact SeqAt.EqAt.str_str a t' b t
  |_=>exact absurd (show vG=vF from fx) zk
 |_=>exact absurd (show vG=vF from fy) zk
theorem ZOH:CallR X (.builtin "len") (λxs H Q=>∃p ys,xs=[.ref p]/\(SqL X.K H p ys∨SqT X.K H p ys)/\Q (.int ys.length) H):=by
 intro vC s σ H xs us Q I r h;obtain⟨p,ys,rfl,hq,q⟩:=h;obtain⟨u,rfl,rx⟩:=vals1 r;cases rx;have hn:=line63;rcases hq with hq|hq
 ·obtain⟨its,r',pl,hz⟩:=I.list hq;have hlen:=r'.length
  exact Calls.call_len_list pl.isList (by simp only[zK]<;>lia) ⟨.int ys.length,H,I.tok _,⟨s.toks+1,by rw[zK,hlen]⟩,q⟩
 ·obtain⟨its,r',pl,hz⟩:=I.tuple hq;have hlen:=r'.length
  exact len_tuple pl (by simp only[zK]<;>lia) ⟨.int ys.length,H,I.tok _,⟨s.toks+1,by rw[zK,hlen]⟩,q⟩
theorem ZJv:CallR X (.builtin "len") (λxs H Q=>∃z,xs=[.str z]/\z.length<=sizeLine/\Q (.int z.length) H):=by intro vC s σ H xs us Q I r h;obtain⟨z,rfl,hz,q⟩:=h;obtain⟨u,rfl,t,rfl⟩:=vals1 r;have hn:=line63;exact len_str (by lia) ⟨.int z.length,H,I.tok _,⟨_,rfl⟩,q⟩
theorem CallR.or(h:CallR X f r)(h':CallR X f r'):CallR X f (λxs H Q=>r xs H Q∨r' xs H Q):=by
 intro vC s σ H xs us Q I rs q;rcases q with q|q
 ·exact h vC s σ H xs us Q I rs q
 ·exact h' vC s σ H xs us Q I rs q
theorem ZRc:CallR X (.type "list") (λxs H Q=>∃p ys,xs=[.ref p]/\(SqL X.K H p ys∨SqT X.K H p ys)/\∀l,H l=vE->Q (.ref l) (upd H l (.lst ys))):=by
 intro vC s σ H xs us Q I r h;obtain⟨p,ys,rfl,hq,q⟩:=h;obtain⟨u,rfl,rx⟩:=vals1 r;cases rx;have fin:∀(its:List xC),Vals ys its->ys.length<=sizeLine->∀(h':Heap)(c':Nat),(∀b o',s.heap.get? b=vD o'->h'.get? b=vD o')->
   h'.get? s.heap.objs.size=vD {cls:=.type "list",dict:=vE,data:=.seq its.toArray c',slots:= #[]}->EP X vC σ Q (.ref s.heap.objs.size) {s with heap:=h'}:=λits r' hz h' c' kp e=>
  ⟨.ref s.heap.objs.size,_,I.laid (t':=s.toks) kp (zY _) (show ObjOk X.prog X.w _ h' _ (.lst ys)from⟨hz,its,c',r',e⟩),rfl,q _ (I.hok.fresh (zY _))⟩
 rcases hq with hq|hq
 ·obtain⟨its,r',pl,hz⟩:=I.list hq;have hlen:=r'.length;obtain⟨o,ho,hc,n,hd⟩:=pl.isList
  exact call_list_seq p (.inl rfl) ho hc hd (λh' c' kp e=>fin its r' hz h' c' kp e) (by simp only[zK]<;>lia)
 ·obtain⟨its,r',pl,hz⟩:=I.tuple hq;have hlen:=r'.length;obtain⟨o,ho,hc,n,hd⟩:=pl
  exact call_list_seq p (.inr rfl) ho hc hd (λh' c' kp e=>fin its r' hz h' c' kp e) (by simp only[zK]<;>lia)
theorem ZRi:CallR X (.type "tuple") (λxs H Q=>∃p ys,xs=[.ref p]/\((SqL X.K H p ys/\∀l,H l=vE->Q (.ref l) (upd H l (.tup ys)))∨(SqT X.K H p ys/\Q (.ref p) H))):=by
 intro vC s σ H xs us Q I r h;obtain⟨p,ys,rfl,h⟩:=h;obtain⟨u,rfl,rx⟩:=vals1 r;cases rx;rcases h with⟨hq,q⟩|⟨hq,q⟩
 ·obtain⟨its,r',pl,hz⟩:=I.list hq;have hlen:=r'.length
  refine call_tuple_list pl.isList (λh' kp=>?_) (by simp only[zK]<;>lia)
  have I1:Inv X vC σ H {s with heap:=h'}:=I.kept (t':=s.toks) kp;have I2:Inv X vC σ (upd H h'.objs.size (.tup ys)) {s with heap:=h'.push {cls:=.type "tuple",data:=.seq its.toArray}}:=
   I1.laid (t':=s.toks) (λb o e=>zQ _ e) (zY _) (show ObjOk X.prog X.w _ _ _ (.tup ys)from⟨hz,its,r',IsTup.new _ _⟩)
  exact⟨.ref h'.objs.size,_,I2,rfl,q _ (I1.hok.fresh (zY _))⟩
 ·obtain⟨its,r',pl,hz⟩:=I.tuple hq;exact call_tuple_same pl ⟨.ref p,H,I,rfl,q⟩
def tyV(K:PySem.W.Frag)(T:String)(x:V)(H:Hp):Prop:=match x with
 |.str _=>T="str"
 |.int _=>T="int"
 | .ref p=>(T="list"/\∃xs,SqL K H p xs)∨(T="tuple"/\∃o,K.lookup p=vD o/\o.cls=.type "tuple"/\o.dict=vE)∨
   (T="dict"/\((∃kvs,H p=vD (.dK kvs))∨∃kvs,H p=vD (.dT kvs)))∨(T="set"/\∃S n,H p=vD (.set S n))
 |_=>False
theorem ZPA{σ:St}{H:Hp}{T:String}{x:V}{v:xC}(I:Inv X vC σ H s)(r:RelV x v)(ty:tyV X.K T x H):
  s.TypeIs v T/\∀a,v=.ref a->∃ob,s.heap.get? a=vD ob/\ob.dict=vE:=by
 cases x with
 |str z=>
  obtain⟨t,rfl⟩:=r
  cases(show T="str" from ty)
  exact⟨typeIs_str s z t,λ_ e=>nomatch e⟩
 |int i=>
  obtain⟨t,rfl⟩:=r
  cases(show T="int" from ty)
  exact⟨typeIs_int s i t,λ_ e=>nomatch e⟩
 | ref p=>
  cases r;rcases ty with⟨rfl,xs,hq⟩|⟨rfl,o,hk,hc,hd⟩|⟨rfl,hk⟩|⟨rfl,S,n,hk⟩
  ·obtain⟨its,_,pl,_⟩:=I.list hq;refine⟨pl.isList.typeIs,λa e=>?_⟩;cases e;obtain⟨o,n,e,c,hd,_⟩:=pl;exact⟨o,e,hd⟩
  ·refine⟨⟨o,I.kIn p o hk,hc⟩,λa e=>?_⟩;cases e;exact⟨o,I.kIn _ o hk,hd⟩
  ·have z:∃o,s.heap.get? p=vD o/\o.ExactDict:=by
    rcases hk with⟨kvs,hk⟩|⟨kvs,hk⟩
    ·obtain⟨_,_,_,_,o,_,_,e,ex,_⟩:=I.hok p _ hk;exact⟨o,e,ex⟩
    ·obtain⟨_,_,_,_,o,_,_,e,ex,_⟩:=I.hok p _ hk;exact⟨o,e,ex⟩
   obtain⟨o,e,ex⟩:=z;refine⟨⟨o,e,ex.1⟩,λa e2=>?_⟩;cases e2;exact⟨o,e,ex.2.1⟩
  ·obtain⟨o,_,_,_,e,ex,_⟩:=I.hok p _ hk;refine⟨⟨o,e,ex.1⟩,λa e2=>?_⟩;cases e2;exact⟨o,e,ex.2.1⟩
 |_=>exact False.elim ty
noncomputable def tBM(K:PySem.W.Frag)(T:String)(r:V->List V->Hp->VK->Prop)(to:TE)(t:TA):TE:=λσ H Q=>to σ H λx H1=>tyV K T x H1/\t σ H1 λxs H2=>r x xs H2 Q
variable{o e:xz}{es:List xz}{to:TE}{t:TA}{name:Str}{apos cpos:Pos}{T id:String}{r:V->List V->Hp->VK->Prop}
theorem ZI4(pa:PlainAttrs T)(slot:Slot T name id)(hty:typeOf (.builtin id)=pure (.type "method_descriptor"))(hm:MtR X id r)(ho:PE X o to)(ha:PA X (e::es) t)
  (hbase:xF o name X.env (eval o X.env)=eval o X.env:=by rfl)
  (hfew:((xG cpos (vV (e::es) X.env)).all (λx=> !x.1)&&(xH cpos (xS [] X.env)).all (λx=>x.1.isSome)
   && decide ((e::es).length+([]:List Keyword).length+(if([]:List Keyword).isEmpty then 0 else 1)<30))=vF:=by rfl)
  (hline:(apos.endLine==cpos.line)=vF:=by rfl) (hs:vV (e::es) X.env=(vG,eval e X.env)::vV es X.env:=by rfl) (hplain:(xG cpos (vV es X.env)).any (·.1)=vG:=by rfl):
  PE X (.Call (.Attribute o name apos) (e::es) [] cpos) (tBM X.K T r to t):=by
 intro vC s σ H Q I h;refine wpAny_Call_method_late hbase hfew hline rfl (thn (ho vC s σ H _ I h) λv s1 ⟨x,H1,I1,r1,ty,q1⟩=>?_);obtain⟨h1,h2⟩:=ZPA I1 r1 ty;refine⟨T,id,pa,slot,hty,h1,h2,?_⟩;have hA:=ha cpos vC s1 σ H1 _ I1 q1;rw[hs]at hA⊢
 refine Calls.callWith_builtin (by show(vG||(xG cpos (vV es X.env)).any (·.1))=vG;rw[hplain]<;>rfl) (Calls.evalArgs_plain ?_)
 exact thn hA λus s2 ⟨vs,H2,I2,r2,q2⟩=>hm vC s2 σ H2 x vs v us Q I2 r1 r2 q2
end
def MtM(X:Cx)(id:String)(r:V->List V->Hp->VK->Prop):Prop:=
 ∀(vC:List (xY×Obj))(s:xA)(σ:St)(H:Hp)(x:V)(xs:List V)(v:xC)(us:List xC)(Q:VK),Inv X vC σ H s->RelV x v->Vals xs us->r x xs H Q->
  vK (vQ X.prog X.w) X.A (call (.builtin id) (v::us)) (EP X vC σ Q) X.xe s
theorem Vals.one:∀{x:V}{us:List xC},Vals [x] us->∃u,us=[u]/\RelV x u:=by intro x us h;cases h with |cons r t=>cases t;exact⟨_,rfl,r⟩
theorem Vals.rep(h:Vals xs us):∀k:Nat,Vals (zX k xs).flatten (zX k us).flatten
 |0=>.nil
 |k+1=>by rw[qX,qX,qH,qH];exact Vals.append h (Vals.rep h k)
theorem foldl_rep(its:List xC):∀(k:Nat)(acc:List xC),
  List.foldl (λx1 x2=>x1++x2) acc.toArray (zX k its.toArray)=(acc++(zX k its).flatten).toArray
 |0,acc=>by simp
 |k+1,acc=>by
  have e:acc.toArray++its.toArray=(acc++its).toArray:=by simp
  have e2:(acc++its)++(zX k its).flatten=acc++(zX (k+1) its).flatten:=by rw[qX,qH,qI]
  rw[<-e2,<-foldl_rep its k (acc++its),<-e,qX,xQ]
section
variable{X:Cx}{vC:List (xY×Obj)}{σ:St}{H:Hp}{s:xA}{l b:xY}{xs ys zs:List V}
theorem Inv.lset{its its':List xC}{n:Nat}{f:Array xC->Array xC}{t':Nat}(I:Inv X vC σ H s)(hH:H l=vD (.lst xs))
  (e:s.heap.get? l=vD {cls:=.type "list",data:=.seq its.toArray n}) (hf:f its.toArray=its'.toArray) (hv:Vals ys its') (hz:ys.length<=sizeLine):
  Inv X vC σ (upd H l (.lst ys)) {s with heap:=s.heap.update l (Obj.mapSeq f),toks:=t'}:=by
 have q:=PySem.IsL.update e f;rw[hf]at q;refine I.write (x:=l) (e:=l) (by rw[hH];exact trivial) (.inl rfl) (λb' u hb hu=>(qA s.heap (Obj.mapSeq f) (Ne.symm hb)).trans hu) ⟨_,q⟩ ?_;exact⟨hz,its',_,hv,q⟩
theorem Inv.lnew(I:Inv X vC σ H s)(hv:Vals ys its)(hz:ys.length<=sizeLine):
  Inv X vC σ (upd H s.heap.objs.size (.lst ys)) {s with heap:=s.heap.push {cls:=.type "list",data:=.seq its.toArray},toks:=t'}:=
 I.laid (λ_ _ q=>zQ _ q) (zY _) ⟨hz,its,0,hv,zy _ rfl⟩
theorem Inv.fresh(I:Inv X vC σ H s):H s.heap.objs.size=vE:=I.hok.fresh (zY _)
theorem Inv.Qm(I:Inv X vC σ H s)(hH:H l=vD (.lst xs)):xs.length<=sizeLine/\∃(its:List xC)(n:Nat),Vals xs its/\xs.length=its.length/\s.heap.get? l=vD {cls:=.type "list",data:=.seq its.toArray n}:=by obtain⟨z,its,n,r,e⟩:=I.hok l _ hH;exact⟨z,its,n,r,r.length,e⟩
theorem ZC2(h:n<=sizeLine):Builtin.List.listTooLong n=vG:=by unfold Builtin.List.listTooLong;exact decide_eq_false (by lia)
end
section
variable{X:Cx}
def ZQH:V->List V->Hp->VK->Prop:=λx vs H Q=>∃l xs y,x=.ref l/\vs=[y]/\H l=vD (.lst xs)/\xs.length<sizeLine/\Q .non (upd H l (.lst (xs++[y])))
theorem ZRv:MtM X "list.append" ZQH:=by
 intro vC s σ H x vs v us Q I rx rv h;obtain⟨l,xs,y,rfl,rfl,hH,hz,q⟩:=h;cases rx;obtain⟨u,rfl,ru⟩:=rv.one;obtain⟨z,its,n,r,hl,e⟩:=I.Qm hH;refine call_meets F.slot_list_append ⟨_,e,rfl⟩ F.entry_list_append (F.args_list_append_2 _ _) (PySem.list_append l its.toArray n u (by rw[zK];lia)) ⟨e,?_⟩;refine⟨.non,_,I.lset (its':=its++[u]) hH e (by simp) (r.append (.cons ru .nil)) ?_,rfl,q⟩
 rw[qJ,j3];lia
def ZRb:V->List V->Hp->VK->Prop:=λx vs H Q=>∃l b xs zs,x=.ref l/\vs=[.ref b]/\H l=vD (.lst xs)/\H b=vD (.lst zs)/\xs.length+zs.length<=sizeLine/\Q .non (upd H l (.lst (xs++zs)))
theorem ZNQ:MtM X "list.extend" ZRb:=by
 intro vC s σ H x vs v us Q I rx rv h;obtain⟨l,b,xs,zs,rfl,rfl,hH,hB,hz,q⟩:=h;cases rx;obtain⟨u,rfl,ru⟩:=rv.one;cases ru;obtain⟨z,its,n,r,hl,e⟩:=I.Qm hH;obtain⟨z2,its2,n2,r2,hl2,e2⟩:=I.Qm hB;have hsz:its.toArray.size+its2.toArray.size<=sizeLine:=by rw[zK,zK];lia
 have hlong:¬(!its.toArray.isEmpty&&Builtin.List.listTooLong (its.toArray.size+its2.toArray.size))=vF:=by rw[ZC2 hsz,Bool.and_false];exact zk
 refine call_meets F.slot_list_extend ⟨_,e,rfl⟩ F.entry_list_extend (F.args_list_extend_2 _ _)
  (AutoSeq1.list_extend_list_list_0 l its.toArray n b its2.toArray n2 hlong (by rw[zK];lia) (by lia)) ⟨e,e2,?_⟩
 refine⟨.non,_,I.lset (its':=its++its2) hH e (by simp) (r.append r2) ?_,rfl,q⟩;rw[qJ];lia
def rRep:R2:=λx y H Q=>∃l k xs,x=.ref l/\y=.int k/\H l=vD (.lst xs)/\ -(2^63)<=k/\k<2^63/\xs.length*k.toNat<=sizeLine/\
 ∀p,H p=vE->Q (.ref p) (upd H p (.lst (zX k.toNat xs).flatten))
theorem len_rep{α:Type}(xs:List α)(k:Nat):(zX k xs).flatten.length=k*xs.length:=by
 induction k with
 |zero=>simp
 |succ k ih=>rw[qX,qH,qJ,ih,Nat.succ_mul,Nat.add_comm]
theorem ZJU:OpR X (xL .Mult) rRep:=by
 intro vC s σ H x y v u Q I rx ry h;obtain⟨l,k,xs,rfl,rfl,hH,h1,h2,hz,q⟩:=h;cases rx;obtain⟨t,rfl⟩:=ry;obtain⟨z,its,n,r,hl,e⟩:=I.Qm hH;have hlen:its.toArray.size*k.toNat<=sizeLine:=by rw[zK,<-hl];exact hz
 have hcap:¬its.toArray.size*k.toNat>(2^63-1)/8:=by
  have:(sizeLine:Nat)<=(2^63-1)/8:=by decide
  lia
 have hfit:¬(!Builtin.List.listFitsIndex k)=vF:=by rw[fitsIndex_both h1 h2];exact zk
 have hlong:¬Builtin.List.listTooLong (its.toArray.size*k.toNat)=vF:=by rw[ZC2 hlen];exact zk
 have hnew:List.foldl (λx1 x2=>x1++x2) #[] (zX (if its.toArray.isEmpty=vF then 0 else k.toNat) its.toArray)=(zX k.toNat its).flatten.toArray:=by
  have f0:∀m:Nat,List.foldl (λx1 x2=>x1++x2) #[] (zX m its.toArray)=(zX m its).flatten.toArray:=λm=>by have:=foldl_rep its m [];rw[xZ]at this;exact this
  rw[f0];cases its with
  |nil=>simp
  |cons a r'=>rw[if_neg (by simp)]
 refine wpAny_binaryOp_repeat_ref (T:="list") (U:="int") (by decide) ⟨_,e,rfl⟩ (λs'=>typeIs_int s' k t) noFill_list_mul F.fills_int_mul F.slot_int_rmul repeat_list F.slot_int_index.lookup
  (call_meets F.slot_int_rmul (typeIs_int s k t) F.entry_int_rmul (F.args_int_rmul_2 _ _) (int___rmul___int_list k t l its.toArray n)
   ⟨e,rfl,⟨_,e,rfl⟩,call_meets F.slot_list_mul ⟨_,e,rfl⟩ F.entry_list_mul (F.args_list_mul_2 _ _) (AutoListH.list___mul___list_int_3 l its.toArray n k t hfit hcap hlong) ⟨e,?_⟩⟩)
 rw[hnew];exact⟨.ref _,_,I.lnew (t':=s.toks) (r.rep k.toNat) (by rw[len_rep,Nat.mul_comm];exact hz),rfl,q _ I.fresh⟩
end
section
variable{prog:xy}{w:xD}{A:xq}{E:xC->xA->Prop}{s:xA}
end
section
variable{X:Cx}
end
end _L
namespace Att
open PySem PySem.W PySem.Calls PyProof.Rows
theorem ZJx:∀(ns:List Int)(vs:List xC),WellAll P h vs (ns.map WData.int)->IntsAre vs ns:=by
 intro ns
 induction ns with
 |nil=>
  intro vs w;rw[xV]at w;cases w;exact .nil
 | cons n ns ih=>
  intro vs w;rw[zE]at w;cases w with
  |cons a b=>
   cases a;exact .cons _ _ (ih _ b)
theorem ZOh{l:OpenLaw}{n:Nat}(hn:l.most=vD n){P:Params}{h:Heap}{args:List WData}{vals:List xC}
  (hpre:l.row.toRowW.claim.pre args=vF) (hwl:WellAll P h vals args):
  ∃a vs ns,vals=[Value.ref a]/\args=[WData.list (ns.map WData.int)]/\h.get? a=vD {cls:=.type "list",data:=.seq vs.toArray}/\IntsAre vs ns/\ns.length<=n:=by
 have hsh:WShape.hasAll [] args [.list .int]=vF:=(pre_splitW hpre).1;have hc:l.pre.holds [] {args:=args}=vF:=(pre_splitW hpre).2;obtain⟨d,r,rfl,h1,h2⟩:=hasAllW_cons hsh;obtain rfl:=hasAllW_nil h2;obtain⟨xs,rfl,h3⟩:=hasW_list h1;obtain⟨ns,rfl⟩:=items_int h3;have hlen:ns.length<=n:=by
  unfold OpenLaw.pre at hc;have h4:(WTm.not (.lt (.lit (.int (n:Int))) (.len (.arg 0)))).holds [] {args:=[.list (ns.map .int)]}=vF:=by have h4:=(holds_andW hc).1;rw[hn]at h4;exact h4
  have h5:=condW_of h4 (w_not (w_lt w_lit (w_len_list (w_arg rfl))));rw[qW]at h5;refine Nat.le_of_not_lt λq=>?_
  have q':(n:Int)<((ns.length:Nat):Int):=by lia
  first
   |(rw[decide_eq_true q']at h5;exact absurd h5 (by decide))
   |(simp at h5;lia)
 cases hwl with
 |cons w1 w2=>
  cases w2;cases w1 with
  |list ho hall=>exact⟨_,_,ns,rfl,rfl,ho,ZJx ns _ hall,hlen⟩
theorem ZJJ(l:OpenLaw)(args:List WData):l.row.toRowW.claim.post args (.bool vF) args=vF:=
 postW_of (r:=l.row.toRowW) (X:=(vF==vF))
  (show WShape.has [] (.bool vF) .bool=vF by first|rfl|decide|simp[WShape.has,WShape.arms,WShape.armsAll])
  (show(WTm.eq .res (.lit (.bool vF))).value [] {args:=args,res:=vD (.bool vF),after:=args}=vD (.bool (vF==vF))from w_eq_bool (w_res rfl) w_lit) rfl
theorem ZPY{l:OpenLaw}{n:Nat}{q:xy}{loose:List Str}{XP:(Str->Option xC)->Heap->Prop}{YP:xD->Heap->Prop}{d:DefRec}
  (hn:l.most=vD n) (hdf:d.params.defaults=[])
  (call:∀(w:xD)(s₀ s₁:xA)(mg mb:Str->Option xC)(fa:xY)(o:Obj)(pm cd doc:xC)(a:xY)(vs:List xC)(ns:List Int),
   Ground q loose [] XP w s₀ mg mb s₁.heap->YP w s₁.heap->
   s₁.heap.get? fa=vD o->o.data=.func (docDef d.name d.params d.body d.scope pm cd doc)->s₁.heap.CodeRec cd d.name->mg d.name=vD (.ref fa)->
   s₁.heap.get? a=vD {cls:=.type "list",data:=.seq vs.toArray}->IntsAre vs ns->ns.length<=n->s₁.gens= #[]->
   codeAny (vQ l.prog w) callerA (.call (.ref fa) ⟨[.ref a],[]⟩) (λr s'=>r=.ok (.ret (.bool vF))/\OldK s₁.heap s'.heap/\s'.os=s₁.os/\AllBare s'.gens) s₁):
  WalkO q loose XP YP l.row.toRowW d [] (λf vs=>PySem.call f vs):=by
 intro w s₀ s₁ mg mb G Y fa o pm cd doc dV kV ho hd hcd hD hmg hg args vals as hpre hlay hrd hwl hlo;obtain rfl:dV=.none:=Dflts.none hD hdf;obtain rfl:kV=.none:=Dflts.noKw hD;obtain⟨a,vs,ns,rfl,rfl,hobj,hints,hlen⟩:=ZOh hn hpre hwl;refine enter_call (xO (call w s₀ s₁ mg mb fa o pm cd doc a vs ns G Y ho (fd_plain hd) hcd hmg hobj hints hlen hg) λr s' hq=>?_);obtain⟨rfl,h2,h3,h4⟩:=hq
 exact⟨.inl ⟨.bool vF,.bool vF,[],rfl,λ_=>rfl,.bool vF,ZJJ l _,λ_=>⟨List.Pairwise.nil,λ_ hm=>(nomatch hm)⟩⟩,h2,h3,h4⟩
section
variable{prog:xy}{w:xD}{A:xq}{E:xC->xA->Prop}{s:xA}{K:v9}
noncomputable def Tg(h:Heap):Heap:={h with objs:= #[]}
theorem Vz(h:Heap)(b:xY):(Tg h).get? b=vE:=by
 cases e:(Tg h).get? b with
 |none=>rfl
 |some o=>exact absurd (zj e) (Nat.not_lt_zero _)
noncomputable def ledger(h:Heap)(L d:xY):List (xY×Obj):=(zV h.objs.size).filterMap λa=>if a=L∨a=d then vE else(h.get? a).map λo=>(a,o)
theorem Ob:(a,o)∈ledger h L d↔a≠L/\a≠d/\h.get? a=vD o:=by
 unfold ledger;rw[jC];constructor
 ·rintro⟨b,_,e⟩;split at e
  ·cases e
  ·rename_i hb;obtain⟨o',ho,e'⟩:=zM.mp e;cases e';exact⟨λq=>hb (.inl q),λq=>hb (.inr q),ho⟩
 ·rintro⟨n1,n2,ho⟩;refine⟨a,q8.mpr (zj ho),?_⟩
  rw[if_neg (show¬(a=L∨a=d)from λq=>q.elim n1 n2),ho]<;>rfl
theorem ZJa(n:h.Ns L m):Fr (Tg h) L h m:=
 ⟨n,λb o e=>(by rw[Vz]at e;cases e),jG _⟩
end
end Att
namespace _L
open PySem PySem.Spec PyProof.Rows
variable{fd:xj}
theorem Np:∀{vs:List xC}{ns:List Int},IntsAre vs ns->Vals (ns.map V.int) vs
 |_,_,.nil=>.nil
 |_,_,.cons n t h=>.cons ⟨t,rfl⟩ (Np h)
def Only(H:Hp):Prop:=∀b,H b=vE∨∃o xs,H b=vD (.frz o (.lst xs))
theorem ZQz{P:xy}{w:xD}{K:PySem.W.Frag}{mg mb:Str->Option xC}{CX:CXT}{k:Nat}{fa a:xY}{x:Str}{sp:Sp}{s₁:xA}{vs:List xC}{ns:List Int}
  (KX:K.In s₁.heap) (hns:s₁.heap.Ns xU mg) (hb:s₁.heap.Ns builtinsNs mb) (hbb:∀x:Str,x≠"__name__"->mb x=xM x) (hlim:s₁.heap.NoLimit) (hg:s₁.gens= #[])
  (ha:s₁.heap.get? a=vD {cls:=.type "list",data:=.seq vs.toArray}) (hi:IntsAre vs ns) (hl:ns.length<=sizeLine) (hr:Room k callerA)
  (F:∀base:Heap,K.In base->base.Ns xU mg->FnOk P w K mg base CX k fa fd [x] sp) (hbind:∀(s:xA)(u:xC),BindsTo s fd ⟨[u],[]⟩ [(x,u)])
  (hsp:∀H:Hp,Only H->SqL K H a (ns.map V.int)->sp [.ref a] H (λv _=>v=.bl vF) λ_ _ _=>False)
  (hCX:∀H e s',CX [] H s₁ (λ_ _ _=>False) e s'->False):
  codeAny (vQ P w) callerA (.call (.ref fa) ⟨[.ref a],[]⟩) (λr s'=>r=.ok (.ret (.bool vF))/\OldK s₁.heap s'.heap/\s'.os=s₁.os/\AllBare s'.gens) s₁:=by
 have rv:=Np hi;have lenV:=hi.length;have core:∀H:Hp,Only H->SqL K H a (ns.map V.int)->HOk P w H s₁.heap->(∀b,H b≠vE->b=a)->(H a≠vE->K.lookup a=vE)->
   codeAny (vQ P w) callerA (.call (.ref fa) ⟨[.ref a],[]⟩) (λr s'=>r=.ok (.ret (.bool vF))/\OldK s₁.heap s'.heap/\s'.os=s₁.os/\AllBare s'.gens) s₁:=by
  intro H hO hS hok hA hK;have base_of:∀{b:xY}{o:Obj},s₁.heap.get? b=vD o->H b=vE->(Ij s₁.heap H).get? b=vD o:=λe n=>ZQY e n
  have noA:∀{b:xY}{o:Obj}{es:Array DictEntry}{ep:Nat},s₁.heap.get? b=vD o->o.data=.dict es ep->H b=vE:=λ{b o es ep}e d=>by
   cases q:H b with
   |none=>rfl
   |some u=>
    have e':b=a:=hA b (by rw[q];simp);subst e';rw[ha]at e;cases e;have d':Data.seq vs.toArray _=Data.dict es ep:=d;cases d'
  have nsK:∀{b:xY}{m:Str->Option xC},s₁.heap.Ns b m->(Ij s₁.heap H).Ns b m:=λ{b m}⟨o,es,ep,e,d,r⟩=>⟨o,es,ep,base_of e (noA e d),d,r⟩
  have hKb:K.In (Ij s₁.heap H):=λb o e=>base_of (KX b o e) (by
   cases q:H b with
   |none=>rfl
   |some u=>
    have e':b=a:=hA b (by rw[q];simp);subst e';rw[hK (by rw[q];simp)]at e;cases e)
  have hM:Mod K mg (Ij s₁.heap H):=⟨hKb,nsK hns,⟨mb,nsK hb,hbb⟩,let⟨mc,h1,h2⟩:=hlim;⟨mc,nsK h1,h2⟩⟩
  have e0:Env0 P w K mg (Ij s₁.heap H) callerA [] s₁ H:=⟨rfl,hM,λb o e=>ZIr e,Nat.le_of_eq (ZL7 _ _),trivial,λb hb=>absurd (show b∈([]:List xY)from hb) (by simp),hok,.of_eq hg⟩
  refine xO ((F _ hKb (nsK hns)).run callerA [] s₁ H ⟨[.ref a],[]⟩ [.ref a] [.ref a] _ _ hr e0 (hbind s₁ (.ref a)) (.cons rfl .nil) (hsp H hO hS)) λr s' h=>?_
  cases r with
  |error e=>exact(hCX H e s' h).elim
  | ok fl=>
   cases fl with
   |next=>exact False.elim h
   |brk=>exact False.elim h
   |cont=>exact False.elim h
   | ret u=>
    obtain⟨v,H',os,bare,un,hok',r',q⟩:=h;have q':v=.bl vF:=q;subst q';obtain rfl:u=Value.bool vF:=r';refine⟨rfl,OldK.of_keep λb o e=>?_,os,bare⟩;cases q:H b with
    |none=>exact un.keep b o e q (by intro z;exact absurd (show b∈([]:List xY)from z) (by simp)) (by simp)
    |some u=>
     rcases hO b with z|⟨ob,xs,z⟩
     ·rw[q]at z;cases z
     ·have z2:=un.frzs b ob _ z;obtain⟨e1,_⟩:=hok b _ z;obtain⟨e2,_⟩:=hok' b _ z2;rw[e]at e1;cases e1;exact e2
 cases hk:K.lookup a with
 |some o=>
  have e:=KX a o hk;rw[ha]at e;cases e;refine core (λ_=>vE) (λ_=>.inl rfl) (.inr ⟨_,vs.toArray,_,hk,rfl,rfl,rfl,by rw[zK,lenV];exact hl,by simpa using rv⟩) (λb u z=>by have z':(vE:Option HO)=vD u:=z;cases z') (λb z=>absurd rfl z) λz=>absurd rfl z
 | none=>
  refine core (λb=>if b=a then vD (.frz {cls:=.type "list",data:=.seq vs.toArray} (.lst (ns.map V.int)))else vE) (λb=>?_) (.inl (.inr ⟨{cls:=.type "list",data:=.seq vs.toArray},if_pos rfl⟩)) (λb u z=>?_) (λb z=>?_) λ_=>hk
  ·by_cases hb:b=a
   ·exact .inr ⟨_,_,if_pos hb⟩
   ·exact .inl (if_neg hb)
  ·by_cases hb:b=a
   ·have z':=(if_pos hb).symm.trans z;cases z';subst hb;exact⟨ha,by rw[qW];exact hl,vs,_,rv,ha⟩
   ·have z':=(if_neg hb).symm.trans z;cases z'
  ·by_cases hb:b=a
   ·exact hb
   ·exact absurd (if_neg hb) z
theorem ZNP{l:PySem.W.OpenLaw}{n k:Nat}{q:xy}{loose:List Str}{XP:(Str->Option xC)->Heap->Prop}{YP:xD->Heap->Prop}{d:DefRec}{K:xD->PySem.W.Frag}{CX:xD->CXT}{sp:xD->Sp}{x:Str}
  (hn:l.most=vD n) (hn2:n<=sizeLine) (hdf:d.params.defaults=[]) (hr:Room k callerA)
  (hY:∀(w:xD)(h:Heap),YP w h->(K w).In h)
  (F:∀(w:xD)(mg:Str->Option xC)(fa:xY)(h:Heap),(K w).In h->h.Ns xU mg->mg d.name=vD (.ref fa)->
   ∃fd:xj,(∀(s:xA)(u:xC),BindsTo s fd ⟨[u],[]⟩ [(x,u)])/\
    ∀base:Heap,(K w).In base->base.Ns xU mg->FnOk l.prog w (K w) mg base (CX w) k fa fd [x] (sp w))
  (hsp:∀(w:xD)(H:Hp)(a:xY)(ns:List Int),ns.length<=n->Only H->SqL (K w) H a (ns.map V.int)->sp w [.ref a] H (λv _=>v=.bl vF) λ_ _ _=>False)
  (hCX:∀(w:xD)(H:Hp)(s:xA)(e:xC)(s':xA),CX w [] H s (λ_ _ _=>False) e s'->False):
  PySem.W.WalkO q loose XP YP l.row.toRowW d [] (λf vs=>PySem.call f vs):=by
 refine Att.ZPY hn hdf λw s₀ s₁ mg mb fa o pm cd doc a vs ns G Y ho hd hcd hmg hobj hints hlen hg=>?_
 have KX:=hY w _ Y;obtain⟨fd,hb,hF⟩:=F w mg fa _ KX G.T.g hmg;exact ZQz KX G.T.g G.T.b G.T.builtins G.T.nolimit hg hobj hints (z5 hlen hn2) hr hF hb (λH hO hS=>hsp w H a ns hlen hO hS) λH e s'=>hCX w H s₁ e s'
noncomputable abbrev CX0:CXT:=λ_ _ _ _ _ _=>False
noncomputable abbrev E0:XK:=λ_ _ _=>False
theorem pass0:Passes CX0 X E0:=λ_ _ _ _ _ _ _ h=>h.elim
structure Fun (K:PySem.W.Frag) (x qual:Str) (st:xB) (f:xY) (fd:xj):Prop where
 ex:∃(oc:xC)(od:Option xY)(kV doc pm:xC)(an:Option xY)(cdv ct:xC)(osl:Array (Option xC)),
  fd=PySem.W.fnOf x qual (Eg st) (Cp st) (Ag st) .none kV doc pm an cdv ct/\K.lookup f=vD ⟨oc,od,.func fd,osl⟩/\PySem.W.codeIn K cdv qual=vF
 kp:PySem.W.keepIn K (.ref f)=vF
section
variable{P:xy}{w:xD}{K:PySem.W.Frag}{mg:Str->Option xC}{base:Heap}
theorem Fun.ok{x qual:Str}{st:xB}{f:xY}{N ps:List Str}{k:Nat}{sp:Sp}(F:Fun K x qual st f fd)(S:FnScope N ps (Ag st))(len:∀vs H Q E,sp vs H Q E->vs.length=ps.length)
  (hbody:∀(cdv:xC)(A:xq)(outer:List Env)(s:xA)(H:Hp)(vs:List V)(Q:VK)(E:XK),Room k (A.deeper (envOfC qual (Ag st) s.heap.objs.size f cdv))->sp vs H Q E->
   ∃t,PSs (El CX0 P w K mg base N qual (Ag st) f cdv A outer s H E).nox (Cp st) t/\t {nx:=λ_ H'=>Q .non H',rt:=Q} (start N vs) H):FnOk P w K mg base CX0 (k+1) f fd ps sp:=by
 obtain⟨oc,od,kV,doc,pm,an,cdv,ct,osl,rfl,lk,hcd⟩:=F.ex;refine ZAn lk hcd S len λA outer s H vs Q E hr hsp=>?_
 obtain⟨t,h,q⟩:=hbody cdv A outer s H vs Q E hr hsp;exact⟨t,h.nox,q⟩
theorem Fun.binds{x qual:Str}{st:xB}{f:xY}{ps:List Str}(F:Fun K x qual st f fd)
  (h:∀(kV doc pm:xC)(an:Option xY)(cdv ct:xC)(us:List xC),us.length=ps.length->bindArgs (PySem.W.fnOf x qual (Eg st) (Cp st) (Ag st) .none kV doc pm an cdv ct) ⟨us,[]⟩=pure (ps.zip us)):Binds K fd ps []:=by
 obtain⟨oc,od,kV,doc,pm,an,cdv,ct,osl,rfl,lk,hcd⟩:=F.ex;exact .all (h kV doc pm an cdv ct)
end
section
variable{X:Cx}
theorem pv(i:Nat){x:Str}{pos:Pos}(hN:X.N[i]?=vD x:=by rfl)(hv:Vis X.env.scope x:=by first|exact Or.inl rfl|exact Or.inr (Or.inl rfl)|exact Or.inr (Or.inr rfl))(hd:(x==("__debug__":Str))=vG:=by decide)
  (hcd:(x==("__classdict__":Str))=vG:=by decide):PE X (.Name x pos) (Lh i):=O9 hN hv hd hcd
end
section
variable{κ:Type}[DecidableEq κ]
end
section
variable{P:xy}{w:xD}{H:Hp}{h:Heap}{a:xY}
end
section
variable{X:Cx}{vC:List (xY×Obj)}{σ:St}{H:Hp}{s:xA}{a:xY}{y v:V}{u r:xC}{o:Option V}{A:xq}{E:xC->xA->Prop}
end
section
variable{X:Cx}{vC:List (xY×Obj)}{σ:St}{H:Hp}{s:xA}{a:xY}{kvs:List (Key×V)}{k:Key}{u:xC}{A:xq}{E:xC->xA->Prop}
end
section
variable{X:Cx}{o i e value:xz}{pos pos' tpos:Pos}{td ty tv:TE}
end
section
variable{X:Cx}{pos:Pos}
end
section
variable{X:Cx}{vC:List (xY×Obj)}{σ:St}{H:Hp}{s:xA}{a:xY}{y d:V}{u r:xC}{o:Option V}{A:xq}{E:xC->xA->Prop}
end
section
variable{X:Cx}{o e f:xz}{apos cpos:Pos}{td ty tx:TE}
end
section
variable{X:Cx}{vC:List (xY×Obj)}{σ:St}{H:Hp}{s:xA}{a:xY}{kvs:List (Key×V)}{A:xq}{E:xC->xA->Prop}
end
section
variable{X:Cx}{vC:List (xY×Obj)}{σ:St}{H:Hp}{s:xA}{a:xY}{y:V}{u:xC}{A:xq}{E:xC->xA->Prop}
end
section
variable{X:Cx}
end
end _L
namespace _L
section
variable{κ:Type}[DecidableEq κ]
end
end _L
namespace _D
open PySem PySem.Spec _L
open PyProof.Rows hiding St
variable{α β:Type}
inductive D where
 |non|bl (b:Bool)|int (i:Int)|str (x:Str)|ty (n:String)
 |tup (xs:List D)
 |fl (xs:List D)
 |ref (i:Nat)
inductive DO where
 |lst (xs:List D)
 |dct (kvs:List (Key×D))
 |ins (c:Str) (fs:List (Str×D))
 |tab (c m:Str)
 |exc (c:Str) (fs:List (Str×D))
 |gone
noncomputable abbrev DH:=List DO
noncomputable abbrev DSt:=List (Option D)
structure Xn where
 cls:Str
 fs:List (Str×D)
inductive R (α:Type) where
 |ok (a:α) (G:DH)
 |err (x:Xn) (G:DH)
 |bad
noncomputable def R.bind{α β:Type}(r:R α)(f:α->DH->R β):R β:=match r with
 |.ok a G=>f a G
 |.err x G=>.err x G
 |.bad=>.bad
@[simp]theorem R.Hn(a:α)(G:DH)(f:α->DH->R β):(R.ok a G).bind f=f a G:=id rfl
@[simp]theorem R.ZTm(f:α->DH->R β):(R.bad:R α).bind f=.bad:=id rfl
inductive SR where
 |nx (S:DSt) (G:DH)
 |rt (d:D) (G:DH)
 |bk (S:DSt) (G:DH)
 |ct (S:DSt) (G:DH)
 |err (x:Xn) (G:DH)
 |bad
noncomputable abbrev DE:=DSt->DH->R D
noncomputable abbrev DB:=DSt->DH->R Bool
noncomputable abbrev DA:=DSt->DH->R (List D)
noncomputable abbrev DS:=DSt->DH->SR
def FzL(K:PySem.W.Frag)(H:Hp)(a:xY)(xs:List V):Prop:=
 (∃o,H a=vD (.frz o (.lst xs)))∨
  ∃(o:Obj)(its:Array xC)(n:Nat),K.lookup a=vD o/\o.cls=.type "list"/\o.dict=vE/\o.data=.seq its n/\its.size<=sizeLine/\Vals xs its.toList
theorem FzL.sq{K:PySem.W.Frag}{H:Hp}{a:xY}{xs:List V}(h:FzL K H a xs):SqL K H a xs:=by
 rcases h with⟨o,h⟩|h
 ·exact .inl (.inr ⟨o,h⟩)
 ·exact .inr h
structure Wd where
 K:PySem.W.Frag
 n:Nat
 m:Nat->xY
 H:Hp
mutual
def Rep(a:Wd):D->V->Prop
 |.non,v=>v=.non
 |.bl b,v=>v=.bl b
 |.int i,v=>v=.int i
 |.str x,v=>v=.str x
 |.ty n,v=>v=.ty n
 |.tup ds,v=>∃p vs,v=.ref p/\SqT a.K a.H p vs/\Reps a ds vs
 |.fl ds,v=>∃p vs,v=.ref p/\FzL a.K a.H p vs/\Reps a ds vs
 |.ref i,v=>i<a.n/\v=.ref (a.m i)
def Reps(a:Wd):List D->List V->Prop
 |[],vs=>vs=[]
 |d::ds,vs=>∃v r,vs=v::r/\Rep a d v/\Reps a ds r
end
noncomputable def lamQ:Str:="Sending.send_by.<locals>.<lambda>"
def TabOk(H:Hp)(P:xY):Prop:=
 ∃ps:Array xC,H P=vD (.tbl ps)/\TriplesOk ps.toList/\∀pos cv,codeAmong pos ps.toList=vD cv->∃(c:xY)(oc:Obj)(vs:Array xC)(t:Tok),cv=.ref c/\H c=vD (.frz oc (.own 0))/\oc.data=.fields vs/\vs[1]?=vD (.str lamQ t)
theorem TabOk.mono(h:TabOk H P)(ht:∀p ps,H p=vD (.tbl ps)->H' p=vD (.tbl ps))(hf:∀p o u,H p=vD (.frz o u)->H' p=vD (.frz o u)):TabOk H' P:=by obtain⟨ps,e,t,k⟩:=h;refine⟨ps,ht _ _ e,t,λpos cv hc=>?_⟩;obtain⟨c,oc,vs,tk,e1,e2,e3,e4⟩:=k pos cv hc;exact⟨c,oc,vs,tk,e1,hf _ _ _ e2,e3,e4⟩
def TabAt(K:PySem.W.Frag)(C m:Str)(c P:xY):Prop:=
 ∃(Ca f:xY)(oc:xC)(od:Option xY)(fd:xj)(sl:Array (Option xC)),PySem.W.nsIn K xU C=vD (vD (.ref Ca))/\PySem.W.findIn K (.ref Ca) m=vD (vD (.ref f))/\K.lookup f=vD ⟨oc,od,.func fd,sl⟩/\fd.code=.ref c/\PySem.W.codeHdIn K c P=vF
structure Ext (a b:Wd):Prop where
 k:b.K=a.K
 n:a.n<=b.n
 m:∀i,i<a.n->b.m i=a.m i
 tup:∀p xs,a.H p=vD (.tup xs)->b.H p=vD (.tup xs)
 frz:∀p o u,a.H p=vD (.frz o u)->b.H p=vD (.frz o u)
 tab:∀p,TabOk a.H p->TabOk b.H p
theorem Ext.refl(a:Wd):Ext a a:=⟨rfl,zY _,λ_ _=>rfl,λ_ _ h=>h,λ_ _ _ h=>h,λ_ h=>h⟩
theorem Ext.trans(x:Ext a b)(y:Ext b c):Ext a c:=
 ⟨y.k.trans x.k,z5 x.n y.n,λi h=>(y.m i (zq h x.n)).trans (x.m i h),λp xs h=>y.tup p xs (x.tup p xs h),λp o u h=>y.frz p o u (x.frz p o u h),λp h=>y.tab p (x.tab p h)⟩
theorem Ext.sqT(x:Ext a b)(h:SqT a.K a.H p xs):SqT b.K b.H p xs:=by
 rcases h with(h|⟨o,h⟩)|h
 ·exact .inl (.inl (x.tup _ _ h))
 ·exact .inl (.inr ⟨o,x.frz _ _ _ h⟩)
 ·exact .inr (by rw[x.k];exact h)
theorem Ext.fzL(x:Ext a b)(h:FzL a.K a.H p xs):FzL b.K b.H p xs:=by
 rcases h with⟨o,h⟩|h
 ·exact .inl ⟨o,x.frz _ _ _ h⟩
 ·exact .inr (by rw[x.k];exact h)
mutual
theorem Rep.mono(x:Ext a b):∀{d:D}{v:V},Rep a d v->Rep b d v
 |.non,_,h=>h
 |.bl _,_,h=>h
 |.int _,_,h=>h
 |.str _,_,h=>h
 |.ty _,_,h=>h
 |.tup ds,v,h=>by obtain⟨p,vs,e,q,r⟩:=h;exact⟨p,vs,e,x.sqT q,Reps.mono x r⟩
 |.fl ds,v,h=>by obtain⟨p,vs,e,q,r⟩:=h;exact⟨p,vs,e,x.fzL q,Reps.mono x r⟩
 |.ref i,v,h=>by obtain⟨l,e⟩:=h;exact⟨zq l x.n,by rw[x.m i l];exact e⟩
theorem Reps.mono(x:Ext a b):∀{ds:List D}{vs:List V},Reps a ds vs->Reps b ds vs
 |[],_,h=>h
 |d::ds,vs,h=>by obtain⟨v,r,e,h1,h2⟩:=h;exact⟨v,r,e,Rep.mono x h1,Reps.mono x h2⟩
end
theorem Reps.length:∀{ds:List D}{vs:List V},Reps a ds vs->ds.length=vs.length
 |[],vs,h=>by cases(show vs=[]from h);rfl
 |d::ds,vs,h=>by obtain⟨v,r,e,h1,h2⟩:=h;subst e;show ds.length+1=r.length+1;rw[Reps.length h2]
theorem Reps.get:∀{ds:List D}{vs:List V}{i:Nat}{d:D},Reps a ds vs->ds[i]?=vD d->∃v,vs[i]?=vD v/\Rep a d v
 |[],vs,_,_,h,e=>by simp at e
 |d::ds,vs,0,d',h,e=>by obtain⟨v,r,e1,h1,h2⟩:=h;subst e1;simp at e;subst e;exact⟨v,rfl,h1⟩
 |d::ds,vs,i+1,d',h,e=>by obtain⟨v,r,e1,h1,h2⟩:=h;subst e1;obtain⟨w,e2,h3⟩:=Reps.get (i:=i) (d:=d') h2 (by simpa using e);exact⟨w,by simpa using e2,h3⟩
theorem Reps.get':∀{ds:List D}{vs:List V}{i:Nat}{v:V},Reps a ds vs->vs[i]?=vD v->∃d,ds[i]?=vD d/\Rep a d v
 |[],vs,_,_,h,e=>by cases(show vs=[]from h);simp at e
 |d::ds,vs,0,v',h,e=>by obtain⟨v,r,e1,h1,h2⟩:=h;subst e1;simp at e;subst e;exact⟨d,rfl,h1⟩
 |d::ds,vs,i+1,v',h,e=>by obtain⟨v,r,e1,h1,h2⟩:=h;subst e1;obtain⟨w,e2,h3⟩:=Reps.get' (i:=i) (v:=v') h2 (by simpa using e);exact⟨w,by simpa using e2,h3⟩
theorem Reps.append:∀{ds es:List D}{vs us:List V},Reps a ds vs->Reps a es us->Reps a (ds++es) (vs++us)
 |[],_,vs,_,h,h'=>by cases(show vs=[]from h);exact h'
 |d::ds,es,vs,us,h,h'=>by obtain⟨v,r,e1,h1,h2⟩:=h;subst e1;exact⟨v,r++us,rfl,h1,Reps.append h2 h'⟩
theorem Reps.cons(h:Rep a d v)(r:Reps a ds vs):Reps a (d::ds) (v::vs):=⟨v,vs,rfl,h,r⟩
theorem Reps.nil:Reps a [] []:=rfl
theorem Reps.set(h:Rep a d v):∀{ds:List D}{vs:List V}(i:Nat),Reps a ds vs->Reps a (ds.set i d) (vs.set i v)
 |[],vs,_,r=>by cases(show vs=[]from r);exact rfl
 |d'::ds,vs,0,r=>by obtain⟨v',r',e1,h1,h2⟩:=r;subst e1;exact⟨v,r',rfl,h,h2⟩
 |d'::ds,vs,i+1,r=>by obtain⟨v',r',e1,h1,h2⟩:=r;subst e1;exact⟨v',r'.set i v,rfl,h1,Reps.set h i h2⟩
theorem Reps.take:∀{ds:List D}{vs:List V}(i:Nat),Reps a ds vs->Reps a (ds.take i) (vs.take i)
 |_,_,0,_=>rfl
 |[],vs,_+1,r=>by cases(show vs=[]from r);exact rfl
 |d'::ds,vs,i+1,r=>by obtain⟨v',r',e1,h1,h2⟩:=r;subst e1;exact⟨v',r'.take i,rfl,h1,Reps.take i h2⟩
theorem Reps.drop:∀{ds:List D}{vs:List V}(i:Nat),Reps a ds vs->Reps a (ds.drop i) (vs.drop i)
 |_,_,0,r=>r
 |[],vs,_+1,r=>by cases(show vs=[]from r);exact rfl
 |d'::ds,vs,i+1,r=>by obtain⟨v',r',e1,h1,h2⟩:=r;subst e1;exact Reps.drop i h2
theorem Reps.ints:∀(ns:List Int),Reps a (ns.map D.int) (ns.map V.int)
 |[]=>rfl
 |n::ns=>⟨.int n,ns.map V.int,rfl,rfl,Reps.ints ns⟩
def RepKV(a:Wd)(kvs:List (Key×D))(us:List (Key×V)):Prop:=kvs.map (·.1)=us.map (·.1)/\Reps a (kvs.map (·.2)) (us.map (·.2))
def RepF(a:Wd)(fs:List (Str×D))(us:List (Str×V)):Prop:=fs.map (·.1)=us.map (·.1)/\Reps a (fs.map (·.2)) (us.map (·.2))
def XD(a:Wd)(od:Option xY)(fs:List (Str×D)):Prop:=(fs=[]/\od=vE)∨∃dx o us,od=vD dx/\a.H dx=vD (.frz o (.xd us))/\RepF a fs us
def ORep(a:Wd):DO->Option HO->Prop
 |.lst ds,o=>∃vs,o=vD (.lst vs)/\Reps a ds vs
 |.dct kvs,o=>∃us,o=vD (.dK us)/\RepKV a kvs us
 |.ins c fs,o=>∃C dx us,PySem.W.nsIn a.K xU c=vD (vD (.ref C))/\o=vD (.ins C dx us)/\RepF a fs us
 |.tab C m,_=>∃c P,TabAt a.K C m c P/\TabOk a.H P
 |.exc c fs,o=>∃C oe u vs,PySem.W.nsIn a.K xU c=vD (vD (.ref C))/\o=vD (.frz oe u)/\oe.cls=.ref C/\oe.data=.fields vs/\XD a oe.dict fs
 |.gone,_=>True
structure Sim (a:Wd) (G:DH):Prop where
 len:G.length=a.n
 inj:∀i j,i<a.n->j<a.n->a.m i=a.m j->i=j
 obj:∀(i:Nat)(o:DO),G[i]?=vD o->ORep a o (a.H (a.m i))
 tr:∀i,i<a.n->a.H (a.m i)≠vE
structure RepS (a:Wd) (S:DSt) (σ:St):Prop where
 len:S.length=σ.length
 get:∀(i:Nat)(d:D),S[i]?=vD (vD d)->∃v,σ[i]?=vD (vD v)/\Rep a d v
theorem RepS.mono(x:Ext a b)(r:RepS a S σ):RepS b S σ:=⟨r.len,λi d h=>let⟨v,e,q⟩:=r.get i d h;⟨v,e,q.mono x⟩⟩
theorem RepS.set(r:RepS a S σ)(i:Nat)(h:Rep a d v):RepS a (S.set i (vD d)) (σ.set i (vD v)):=by
 refine⟨by simpa using r.len,λj e he=>?_⟩;rw[qP]at he⊢;by_cases hij:i=j
 ·subst hij;rw[if_pos rfl]at he⊢;by_cases hl:i<S.length
  ·rw[if_pos hl]at he;have e1:d=e:=by simpa using he
   subst e1;rw[if_pos (by rw[<-r.len];exact hl)];exact⟨v,rfl,h⟩
  ·rw[if_neg hl]at he;cases he
 ·rw[if_neg hij]at he⊢;exact r.get j e he
def XOk(E:XK)(a:Wd)(x:Xn)(G:DH):Prop:=E≠E0/\∀(b:Wd)(C:xY)(od:Option xY),Ext a b->Sim b G->PySem.W.nsIn b.K xU x.cls=vD (vD (.ref C))->XD b od x.fs->E (.ref C) od b.H
def out(E:XK)(a:Wd)(r:R D)(Q:VK):Prop:=match r with
 |.ok d G=>∀(b:Wd)(v:V),Ext a b->Sim b G->Rep b d v->Q v b.H
 |.err x G=>XOk E a x G
 |.bad=>False
def Er(E:XK)(a:Wd)(r:R Bool)(Q:Bool->Hp->Prop):Prop:=match r with
 |.ok k G=>∀(b:Wd),Ext a b->Sim b G->Q k b.H
 |.err x G=>XOk E a x G
 |.bad=>False
def Ew(E:XK)(a:Wd)(r:R (List D))(Q:List V->Hp->Prop):Prop:=match r with
 |.ok ds G=>∀(b:Wd)(vs:List V),Ext a b->Sim b G->Reps b ds vs->Q vs b.H
 |.err x G=>XOk E a x G
 |.bad=>False
def Bm(E:XK)(a:Wd)(r:SR)(W:Ends):Prop:=match r with
 |.nx S G=>∀(b:Wd)(σ:St),Ext a b->Sim b G->RepS b S σ->W.nx σ b.H
 |.bk S G=>∀(b:Wd)(σ:St),Ext a b->Sim b G->RepS b S σ->W.bk σ b.H
 |.ct S G=>∀(b:Wd)(σ:St),Ext a b->Sim b G->RepS b S σ->W.ct σ b.H
 |.rt d G=>∀(b:Wd)(v:V),Ext a b->Sim b G->Rep b d v->W.rt v b.H
 |.err x G=>XOk E a x G
 |.bad=>False
theorem XOk.mono(x:Ext a b)(h:XOk E a e G):XOk E b e G:=⟨h.1,λc C od y s n q=>h.2 c C od (x.trans y) s n q⟩
theorem out.mono(x:Ext a b)(h:out E a r Q):out E b r Q:=by
 cases r with
 |ok d G=>exact λc v y s q=>h c v (x.trans y) s q
 |err e G=>exact XOk.mono (E:=E) (e:=e) (G:=G) x h
 |bad=>exact h
theorem Er.mono(x:Ext a b)(h:Er E a r Q):Er E b r Q:=by
 cases r with
 |ok d G=>exact λc y s=>h c (x.trans y) s
 |err e G=>exact XOk.mono (E:=E) (e:=e) (G:=G) x h
 |bad=>exact h
theorem Ew.mono(x:Ext a b)(h:Ew E a r Q):Ew E b r Q:=by
 cases r with
 |ok d G=>exact λc vs y s q=>h c vs (x.trans y) s q
 |err e G=>exact XOk.mono (E:=E) (e:=e) (G:=G) x h
 |bad=>exact h
theorem Bm.mono(x:Ext a b)(h:Bm E a r W):Bm E b r W:=by
 cases r with
 |nx d G=>exact λc vs y s q=>h c vs (x.trans y) s q
 |bk d G=>exact λc vs y s q=>h c vs (x.trans y) s q
 |ct d G=>exact λc vs y s q=>h c vs (x.trans y) s q
 |rt d G=>exact λc vs y s q=>h c vs (x.trans y) s q
 |err e G=>exact XOk.mono (E:=E) (e:=e) (G:=G) x h
 |bad=>exact h
def lE(K:PySem.W.Frag)(E:XK)(t:DE):TE:=λσ H Q=>∃(a:Wd)(S:DSt)(G:DH),a.K=K/\a.H=H/\Sim a G/\RepS a S σ/\out E a (t S G) Q
def lB(K:PySem.W.Frag)(E:XK)(t:DB):TT:=λσ H Q=>∃(a:Wd)(S:DSt)(G:DH),a.K=K/\a.H=H/\Sim a G/\RepS a S σ/\Er E a (t S G) Q
def lA(K:PySem.W.Frag)(E:XK)(t:DA):TA:=λσ H Q=>∃(a:Wd)(S:DSt)(G:DH),a.K=K/\a.H=H/\Sim a G/\RepS a S σ/\Ew E a (t S G) Q
def lS(K:PySem.W.Frag)(E:XK)(t:DS):TS:=λW σ H=>∃(a:Wd)(S:DSt)(G:DH),a.K=K/\a.H=H/\Sim a G/\RepS a S σ/\Bm E a (t S G) W
def lR2(K:PySem.W.Frag)(E:XK)(f:D->D->DH->R D):R2:=λx y H Q=>∃(a:Wd)(G:DH)(d e:D),a.K=K/\a.H=H/\Sim a G/\Rep a d x/\Rep a e y/\out E a (f d e G) Q
def lR1(K:PySem.W.Frag)(E:XK)(f:D->DH->R D):V->Hp->VK->Prop:=λx H Q=>∃(a:Wd)(G:DH)(d:D),a.K=K/\a.H=H/\Sim a G/\Rep a d x/\out E a (f d G) Q
def lRn(K:PySem.W.Frag)(E:XK)(f:List D->DH->R D):List V->Hp->VK->Prop:=λxs H Q=>∃(a:Wd)(G:DH)(ds:List D),a.K=K/\a.H=H/\Sim a G/\Reps a ds xs/\out E a (f ds G) Q
def lF(K:PySem.W.Frag)(f:List D->DH->R D):Sp:=λxs H Q _=>∃(a:Wd)(G:DH)(ds:List D),a.K=K/\a.H=H/\Sim a G/\Reps a ds xs/\out E0 a (f ds G) Q
def lFx(K:PySem.W.Frag)(f:List D->DH->R D):Sp:=λxs H Q E=>∃(a:Wd)(G:DH)(ds:List D),a.K=K/\a.H=H/\Sim a G/\Reps a ds xs/\out E a (f ds G) Q
section
variable{X:Cx}{E:XK}
def QE(X:Cx)(E:XK)(e:xz)(t:DE):Prop:=PE X e (lE X.K E t)
def QT(X:Cx)(E:XK)(e:xz)(t:DB):Prop:=PT X e (lB X.K E t)
def QA(X:Cx)(E:XK)(es:List xz)(t:DA):Prop:=PA X es (lA X.K E t)
def QS(X:Cx)(E:XK)(st:xB)(t:DS):Prop:=PS X st (lS X.K E t)
def QSs(X:Cx)(E:XK)(st:List xB)(t:DS):Prop:=PSs X st (lS X.K E t)
theorem _root_._L.PE.mono(h:PE X e t)(w:∀σ H Q,t' σ H Q->t σ H Q):PE X e t':=λvC s σ H Q I q=>h vC s σ H Q I (w σ H Q q)
theorem _root_._L.PT.mono(h:PT X e t)(w:∀σ H Q,t' σ H Q->t σ H Q):PT X e t':=λvC s σ H Q I q=>h vC s σ H Q I (w σ H Q q)
theorem _root_._L.PA.mono(h:PA X e t)(w:∀σ H Q,t' σ H Q->t σ H Q):PA X e t':=λpos vC s σ H Q I q=>h pos vC s σ H Q I (w σ H Q q)
theorem _root_._L.PS.mono(h:PS X e t)(w:∀W σ H,t' W σ H->t W σ H):PS X e t':=λvC s σ H W I q=>h vC s σ H W I (w W σ H q)
theorem _root_._L.PSs.mono(h:PSs X e t)(w:∀W σ H,t' W σ H->t W σ H):PSs X e t':=λvC s σ H W I q=>h vC s σ H W I (w W σ H q)
theorem _root_._L.OpR.mono(h:OpR X f r)(w:∀x y H Q,r' x y H Q->r x y H Q):OpR X f r':=λvC s σ H x y v u Q I rx ry q=>h vC s σ H x y v u Q I rx ry (w _ _ _ _ q)
end
theorem Dq(h:out E a (r.bind f) Q):
  out E a r (λv H=>∃(b:Wd)(d:D)(G:DH),b.H=H/\Ext a b/\Sim b G/\Rep b d v/\r=.ok d G/\out E b (f d G) Q):=by
 cases r with
 |ok d G=>exact λb v x s q=>⟨b,d,G,rfl,x,s,q,rfl,out.mono x h⟩
 |err e G=>exact h
 |bad=>exact h
theorem Jx(h:out E a (r.bind f) Q):
  Ew E a r (λvs H=>∃(b:Wd)(ds:List D)(G:DH),b.H=H/\Ext a b/\Sim b G/\Reps b ds vs/\r=.ok ds G/\out E b (f ds G) Q):=by
 cases r with
 |ok d G=>exact λb v x s q=>⟨b,d,G,rfl,x,s,q,rfl,out.mono x h⟩
 |err e G=>exact h
 |bad=>exact h
theorem ZCp(h:out E a (r.bind f) Q):
  Er E a r (λk H=>∃(b:Wd)(G:DH),b.H=H/\Ext a b/\Sim b G/\r=.ok k G/\out E b (f k G) Q):=by
 cases r with
 |ok d G=>exact λb x s=>⟨b,G,rfl,x,s,rfl,out.mono x h⟩
 |err e G=>exact h
 |bad=>exact h
theorem ZQ8(h:Er E a (r.bind f) Q):
  out E a r (λv H=>∃(b:Wd)(d:D)(G:DH),b.H=H/\Ext a b/\Sim b G/\Rep b d v/\r=.ok d G/\Er E b (f d G) Q):=by
 cases r with
 |ok d G=>exact λb v x s q=>⟨b,d,G,rfl,x,s,q,rfl,Er.mono x h⟩
 |err e G=>exact h
 |bad=>exact h
theorem Yd(h:Er E a (r.bind f) Q):
  Er E a r (λk H=>∃(b:Wd)(G:DH),b.H=H/\Ext a b/\Sim b G/\r=.ok k G/\Er E b (f k G) Q):=by
 cases r with
 |ok d G=>exact λb x s=>⟨b,G,rfl,x,s,rfl,Er.mono x h⟩
 |err e G=>exact h
 |bad=>exact h
theorem ZQ1(h:Ew E a (r.bind f) Q):
  out E a r (λv H=>∃(b:Wd)(d:D)(G:DH),b.H=H/\Ext a b/\Sim b G/\Rep b d v/\r=.ok d G/\Ew E b (f d G) Q):=by
 cases r with
 |ok d G=>exact λb v x s q=>⟨b,d,G,rfl,x,s,q,rfl,Ew.mono x h⟩
 |err e G=>exact h
 |bad=>exact h
theorem ZKd(h:Ew E a (r.bind f) Q):
  Ew E a r (λvs H=>∃(b:Wd)(ds:List D)(G:DH),b.H=H/\Ext a b/\Sim b G/\Reps b ds vs/\r=.ok ds G/\Ew E b (f ds G) Q):=by
 cases r with
 |ok d G=>exact λb v x s q=>⟨b,d,G,rfl,x,s,q,rfl,Ew.mono x h⟩
 |err e G=>exact h
 |bad=>exact h
noncomputable def R.toS{α:Type}(r:R α)(f:α->DH->SR):SR:=match r with
 |.ok a G=>f a G
 |.err x G=>.err x G
 |.bad=>.bad
@[simp]theorem R.Bs(a:α)(G:DH)(f:α->DH->SR):(R.ok a G).toS f=f a G:=id rfl
@[simp]theorem R.ZSz(x:Xn)(G:DH)(f:α->DH->SR):(R.err x G:R α).toS f=.err x G:=id rfl
@[simp]theorem R.ZS6(f:α->DH->SR):(R.bad:R α).toS f=.bad:=id rfl
theorem G7(h:Bm E a (r.toS f) W):
  out E a r (λv H=>∃(b:Wd)(d:D)(G:DH),b.H=H/\Ext a b/\Sim b G/\Rep b d v/\r=.ok d G/\Bm E b (f d G) W):=by
 cases r with
 |ok d G=>exact λb v x s q=>⟨b,d,G,rfl,x,s,q,rfl,Bm.mono x h⟩
 |err e G=>exact h
 |bad=>exact h
theorem ZH4(h:Bm E a (r.toS f) W):
  Er E a r (λk H=>∃(b:Wd)(G:DH),b.H=H/\Ext a b/\Sim b G/\r=.ok k G/\Bm E b (f k G) W):=by
 cases r with
 |ok d G=>exact λb x s=>⟨b,G,rfl,x,s,rfl,Bm.mono x h⟩
 |err e G=>exact h
 |bad=>exact h
section
theorem out.imp(h:out E a r Q)(w:∀v H,Q v H->Q' v H):out E a r Q':=by
 cases r with
 |ok d G=>exact λb v x s q=>w _ _ (h b v x s q)
 |err e G=>exact h
 |bad=>exact h
theorem Ew.imp(h:Ew E a r Q)(w:∀v H,Q v H->Q' v H):Ew E a r Q':=by
 cases r with
 |ok d G=>exact λb v x s q=>w _ _ (h b v x s q)
 |err e G=>exact h
 |bad=>exact h
theorem Er.imp(h:Er E a r Q)(w:∀v H,Q v H->Q' v H):Er E a r Q':=by
 cases r with
 |ok d G=>exact λb x s=>w _ _ (h b x s)
 |err e G=>exact h
 |bad=>exact h
def Wd.push(a:Wd)(p:xY)(ho:HO):Wd:=⟨a.K,a.n+1,λk=>if k=a.n then p else a.m k,upd a.H p ho⟩
def Wd.put(a:Wd)(p:xY)(ho:HO):Wd:={a with H:=upd a.H p ho}
theorem Ext.put(h:a.H p=vE):Ext a (a.put p ho):=
 ⟨rfl,zY _,λ_ _=>rfl,λq xs e=>by show upd a.H p ho q=_;rw[Am (Ga e h)];exact e,λq o u e=>by show upd a.H p ho q=_;rw[Am (Ga e h)];exact e,λ_ t=>t.mono (λq ps e=>by show upd a.H p ho q=_;rw[Am (Ga e h)];exact e) (λq o u e=>by show upd a.H p ho q=_;rw[Am (Ga e h)];exact e)⟩
theorem Ext.push(h:a.H p=vE):Ext a (a.push p ho):=
 ⟨rfl,jz _,λi hi=>by show(if i=a.n then p else a.m i)=a.m i;rw[if_neg (zC hi)],λq xs e=>by show upd a.H p ho q=_;rw[Am (Ga e h)];exact e,λq o u e=>by show upd a.H p ho q=_;rw[Am (Ga e h)];exact e,λ_ t=>t.mono (λq ps e=>by show upd a.H p ho q=_;rw[Am (Ga e h)];exact e) (λq o u e=>by show upd a.H p ho q=_;rw[Am (Ga e h)];exact e)⟩
theorem XD.mono(x:Ext a b)(h:XD a od fs):XD b od fs:=by
 rcases h with h|⟨dx,o,us,e,f,k,r⟩
 ·exact .inl h
 ·exact .inr ⟨dx,o,us,e,x.frz _ _ _ f,k,r.mono x⟩
theorem ORep.mono(x:Ext a b)(h:ORep a o q):ORep b o q:=by
 cases o with
 |lst ds=>obtain⟨vs,e,r⟩:=h;exact⟨vs,e,r.mono x⟩
 |dct kvs=>obtain⟨us,e,k,r⟩:=h;exact⟨us,e,k,r.mono x⟩
 |ins c fs=>obtain⟨C,dx,us,n,e,k,r⟩:=h;exact⟨C,dx,us,by rw[x.k];exact n,e,k,r.mono x⟩
 |tab C m=>obtain⟨c,P,e,t⟩:=h;exact⟨c,P,by rw[x.k];exact e,x.tab _ t⟩
 |exc c fs=>obtain⟨C,oe,u,vs,n,e,k1,k2,z⟩:=h;exact⟨C,oe,u,vs,by rw[x.k];exact n,e,k1,k2,z.mono x⟩
 |gone=>trivial
theorem Sim.lt(s:Sim a G)(h:G[i]?=vD o):i<a.n:=by rw[<-s.len];exact(zG.mp h).1
theorem Sim.put(s:Sim a G)(h:a.H p=vE):Sim (a.put p ho) G:=by
 refine⟨s.len,s.inj,λi o e=>?_,λi hi=>?_⟩
 ·have z:a.H (a.m i)≠vE:=s.tr i (s.lt e);have ne:a.m i≠p:=λq=>z (by rw[q];exact h)
  show ORep _ o (upd a.H p ho (a.m i));rw[Am ne];exact(s.obj i o e).mono (Ext.put h)
 ·have z:a.H (a.m i)≠vE:=s.tr i hi;have ne:a.m i≠p:=λq=>z (by rw[q];exact h)
  show upd a.H p ho (a.m i)≠vE;rw[Am ne];exact z
theorem Sim.push(s:Sim a G)(h:a.H p=vE)(r:ORep (a.push p ho) o (vD ho)):Sim (a.push p ho) (G++[o]):=by
 have nep:∀i,i<a.n->a.m i≠p:=λi hi q=>s.tr i hi (by rw[q];exact h)
 have old:∀i,i<a.n->(a.push p ho).m i=a.m i:=λi hi=>by show(if i=a.n then p else a.m i)=_;rw[if_neg (zC hi)]
 have new:(a.push p ho).m a.n=p:=by show(if a.n=a.n then p else a.m a.n)=_;rw[if_pos rfl]
 refine⟨by simp[s.len,Wd.push],λi j hi hj e=>?_,λi u e=>?_,λi hi=>?_⟩
 ·have hi':i<a.n+1:=hi;have hj':j<a.n+1:=hj;by_cases h1:i<a.n
  ·by_cases h2:j<a.n
   ·rw[old i h1,old j h2]at e;exact s.inj i j h1 h2 e
   ·have:j=a.n:=by lia
    subst this;rw[old i h1,new]at e;exact absurd e (nep i h1)
  ·have:i=a.n:=by lia
   subst this;by_cases h2:j<a.n
   ·rw[old j h2,new]at e;exact absurd e.symm (nep j h2)
   ·lia
 ·by_cases h1:i<a.n
  ·rw[qZ (by rw[s.len];exact h1)]at e;rw[old i h1];show ORep _ u (upd a.H p ho (a.m i));rw[Am (nep i h1)];exact(s.obj i u e).mono (Ext.push h)
  ·have hl:i<(G++[o]).length:=(zG.mp e).1;have:i=a.n:=by rw[qJ,s.len]at hl;simp at hl;lia
   subst this;rw[zL (by rw[s.len];exact zY _),s.len]at e;simp at e;subst e;rw[new];show ORep _ o (upd a.H p ho p);rw[Ei];exact r
 ·have hi':i<a.n+1:=hi;by_cases h1:i<a.n
  ·rw[old i h1];show upd a.H p ho (a.m i)≠vE;rw[Am (nep i h1)];exact s.tr i h1
  ·have:i=a.n:=by lia
   subst this;rw[new];show upd a.H p ho p≠vE;rw[Ei];simp
theorem Ext.wr(h:a.H p=vD (.lst vs)):Ext a (a.put p ho):=
 ⟨rfl,zY _,λ_ _=>rfl,λq xs e=>by
  show upd a.H p ho q=_;rw[Am (λz=>by subst z;rw[h]at e;cases e)];exact e,λq o u e=>by
  show upd a.H p ho q=_;rw[Am (λz=>by subst z;rw[h]at e;cases e)];exact e,λ_ t=>t.mono (λq ps e=>by show upd a.H p ho q=_;rw[Am (λz=>by subst z;rw[h]at e;cases e)];exact e) (λq o u e=>by show upd a.H p ho q=_;rw[Am (λz=>by subst z;rw[h]at e;cases e)];exact e)⟩
theorem Sim.wr(s:Sim a G)(hi:i<a.n)(h:a.H (a.m i)=vD (.lst vs))(r:Reps (a.put (a.m i) (.lst vs')) ds' vs'):Sim (a.put (a.m i) (.lst vs')) (G.set i (.lst ds')):=by
 refine⟨by rw[j0];exact s.len,s.inj,λj o e=>?_,λj hj=>?_⟩
 ·rw[qP]at e;show ORep _ o (upd a.H (a.m i) (.lst vs') (a.m j));by_cases hij:i=j
  ·subst hij;rw[if_pos rfl,if_pos (by rw[s.len];exact hi)]at e;cases e;rw[Ei];exact⟨vs',rfl,r⟩
  ·rw[if_neg hij]at e;rw[Am λz=>hij (s.inj _ _ (s.lt e) hi z).symm];exact(s.obj j o e).mono (Ext.wr h)
 ·show upd a.H (a.m i) (.lst vs') (a.m j)≠vE;by_cases hij:a.m j=a.m i
  ·rw[hij,Ei];simp
  ·rw[Am hij];exact s.tr j hj
mutual
noncomputable def bel(n:Nat):D->Bool
 |.ref i=>decide (i<n)
 |.tup ds=>bels n ds
 |.fl ds=>bels n ds
 |_=>vF
noncomputable def bels(n:Nat):List D->Bool
 |[]=>vF
 |d::ds=>bel n d&&bels n ds
end
def Jt(n:Nat):DO->Bool
 |.lst ds=>bels n ds
 |.dct kvs=>bels n (kvs.map (·.2))
 |.ins _ fs=>bels n (fs.map (·.2))
 |.tab _ _=>vF
 |.exc _ fs=>bels n (fs.map (·.2))
 |.gone=>vF
mutual
theorem Rep.bel:∀{d:D}{v:V},Rep a d v->bel a.n d=vF
 |.non,_,_=>by simp[_D.bel]
 |.bl _,_,_=>by simp[_D.bel]
 |.int _,_,_=>by simp[_D.bel]
 |.str _,_,_=>by simp[_D.bel]
 |.ty _,_,_=>by simp[_D.bel]
 |.tup ds,v,h=>by obtain⟨p,vs,e,q,r⟩:=h;simp only[_D.bel];exact Reps.bels r
 |.fl ds,v,h=>by obtain⟨p,vs,e,q,r⟩:=h;simp only[_D.bel];exact Reps.bels r
 |.ref i,v,h=>by obtain⟨l,e⟩:=h;simp only[_D.bel];exact decide_eq_true l
theorem Reps.bels:∀{ds:List D}{vs:List V},Reps a ds vs->bels a.n ds=vF
 |[],_,_=>by simp[_D.bels]
 |d::ds,vs,h=>by
  obtain⟨v,r,e,h1,h2⟩:=h;simp only[_D.bels];rw[Rep.bel h1,Reps.bels h2]
  rfl
end
structure Cut (b c:Wd):Prop where
 k:c.K=b.K
 h:c.H=b.H
mutual
theorem Rep.cut(x:Cut b c)(hn:n<=c.n)(hm:∀i,i<n->c.m i=b.m i):∀{d:D}{v:V},Rep b d v->bel n d=vF->Rep c d v
 |.non,_,h,_=>h
 |.bl _,_,h,_=>h
 |.int _,_,h,_=>h
 |.str _,_,h,_=>h
 |.ty _,_,h,_=>h
 |.tup ds,v,h,q=>by obtain⟨p,vs,e,t,r⟩:=h;simp only[_D.bel]at q;exact⟨p,vs,e,by rw[x.k,x.h];exact t,Reps.cut x hn hm r q⟩
 |.fl ds,v,h,q=>by obtain⟨p,vs,e,t,r⟩:=h;simp only[_D.bel]at q;exact⟨p,vs,e,by rw[x.k,x.h];exact t,Reps.cut x hn hm r q⟩
 |.ref i,v,h,q=>by obtain⟨l,e⟩:=h;simp only[_D.bel]at q;have q':=of_decide_eq_true q;exact⟨zq q' hn,by rw[hm i q'];exact e⟩
theorem Reps.cut(x:Cut b c)(hn:n<=c.n)(hm:∀i,i<n->c.m i=b.m i):∀{ds:List D}{vs:List V},Reps b ds vs->bels n ds=vF->Reps c ds vs
 |[],_,h,_=>h
 |d::ds,vs,h,q=>by obtain⟨v,r,e,h1,h2⟩:=h;simp only[_D.bels,z0]at q;exact⟨v,r,e,Rep.cut x hn hm h1 q.1,Reps.cut x hn hm h2 q.2⟩
end
theorem ORep.cut(x:Cut b c)(hn:n<=c.n)(hm:∀i,i<n->c.m i=b.m i)(h:ORep b o q)(l:Jt n o=vF):ORep c o q:=by
 cases o with
 |lst ds=>obtain⟨vs,e,r⟩:=h;exact⟨vs,e,Reps.cut x hn hm r l⟩
 |dct kvs=>obtain⟨us,e,k,r⟩:=h;exact⟨us,e,k,Reps.cut x hn hm r l⟩
 |ins c fs=>obtain⟨C,dx,us,n,e,k,r⟩:=h;exact⟨C,dx,us,by rw[x.k];exact n,e,k,Reps.cut x hn hm r l⟩
 |tab C m=>obtain⟨c,P,e,t⟩:=h;exact⟨c,P,by rw[x.k];exact e,by rw[x.h];exact t⟩
 |exc c fs=>
  obtain⟨C,oe,u,vs,n,e,k1,k2,z⟩:=h;refine⟨C,oe,u,vs,by rw[x.k];exact n,e,k1,k2,?_⟩;rcases z with z|⟨dx,o,us,e,f,k,r⟩
  ·exact .inl z
  ·exact .inr ⟨dx,o,us,e,by rw[x.h];exact f,k,Reps.cut x hn hm r l⟩
 |gone=>trivial
theorem ORep.Jt(h:ORep a o q):Jt a.n o=vF:=by
 cases o with
 |lst ds=>obtain⟨vs,e,r⟩:=h;exact r.bels
 |dct kvs=>obtain⟨us,e,k,r⟩:=h;exact r.bels
 |ins c fs=>obtain⟨C,dx,us,n,e,k,r⟩:=h;exact r.bels
 |tab C m=>rfl
 |exc c fs=>
  obtain⟨C,oe,u,vs,n,e,k1,k2,z⟩:=h;rcases z with⟨z,_⟩|⟨dx,o,us,e,f,k,r⟩
  ·rw[z];rfl
  ·exact r.bels
 |gone=>rfl
open Classical in
def tidy (G:DH) (r:R D):R D:=match r with
 | .ok d G'=>if G'.take G.length=G then
   (if bel G.length d=vF then .ok d G else match d with
    |.ref i=>match G'[i]? with
     |some o=>if Jt G.length o=vF then .ok (.ref G.length) (G++[o])else .ok d G'
     |none=>.ok d G'
    |_=>.ok d G')else .ok d G'
 |r=>r
theorem Pb (s:Sim a G) (h:out E a (tidy G r) Q):out E a r Q:=by
 cases r with
 |err e G'=>exact h
 |bad=>exact h
 | ok d G'=>
  intro b v x sb rb;unfold tidy at h;dsimp only at h;split at h
  ·rename_i hG;have hlen:∀i o,G[i]?=vD o->G'[i]?=vD o:=λi o e=>by have hi:i<G.length:=(zG.mp e).1;rw[<-hG,jk hi]at e;exact e
   have base:∀(c:Wd),Cut b c->a.n<=c.n->(∀i,i<a.n->c.m i=b.m i)->∀i o,G[i]?=vD o->ORep c o (c.H (c.m i)):=λc cc hn hm i o e=>by have q:=sb.obj i o (hlen i o e);rw[cc.h,hm i (s.lt e)];exact q.cut cc hn hm (s.obj i o e).Jt
   split at h
   ·rename_i hb;rw[s.len]at hb;let c:Wd:=⟨b.K,a.n,b.m,b.H⟩;have cc:Cut b c:=⟨rfl,rfl⟩;refine h c v ⟨x.k,zY _,x.m,x.tup,x.frz,x.tab⟩ ⟨s.len,λi j hi hj=>sb.inj i j (zq hi x.n) (zq hj x.n),base c cc (zY _) (λ_ _=>rfl),λi hi=>sb.tr i (zq hi x.n)⟩ ?_;exact rb.cut cc (zY _) (λ_ _=>rfl) hb
   ·rename_i hb;split at h
    ·rename_i i;obtain⟨il,iv⟩:=rb;split at h
     ·rename_i o ho;split at h
      ·rename_i hbo;rw[s.len]at hbo hb h;simp only[_D.bel,decide_eq_true_eq]at hb;let c:Wd:=⟨b.K,a.n+1,λk=>if k=a.n then b.m i else b.m k,b.H⟩;have cc:Cut b c:=⟨rfl,rfl⟩;have cm:∀j,j<a.n->c.m j=b.m j:=λj hj=>by show(if j=a.n then b.m i else b.m j)=_;rw[if_neg (zC hj)]
       have cn:c.m a.n=b.m i:=by show(if a.n=a.n then b.m i else b.m a.n)=_;rw[if_pos rfl]
       have lt':∀j,j<a.n->j<b.n:=λj hj=>zq hj x.n
       refine h c v ⟨x.k,jz _,λj hj=>(cm j hj).trans (x.m j hj),x.tup,x.frz,x.tab⟩ ⟨by simp[s.len,c],λj k hj hk e=>?_,λj u e=>?_,λj hj=>?_⟩ ⟨qY _,by rw[cn];exact iv⟩
       ·have hj':j<a.n+1:=hj;have hk':k<a.n+1:=hk;by_cases h1:j<a.n
        ·by_cases h2:k<a.n
         ·rw[cm j h1,cm k h2]at e;exact sb.inj j k (lt' j h1) (lt' k h2) e
         ·have:k=a.n:=by lia
          subst this;rw[cm j h1,cn]at e;have:=sb.inj j i (lt' j h1) il e;lia
        ·have:j=a.n:=by lia
         subst this;by_cases h2:k<a.n
         ·rw[cm k h2,cn]at e;have:=sb.inj i k il (lt' k h2) e;lia
         ·lia
       ·by_cases h1:j<a.n
        ·rw[qZ (by rw[s.len];exact h1)]at e;exact base c cc (jz _) cm j u e
        ·have hl:j<(G++[o]).length:=(zG.mp e).1;have:j=a.n:=by rw[qJ,s.len]at hl;simp at hl;lia
         subst this;rw[zL (by rw[s.len];exact zY _),s.len]at e;simp at e;subst e;rw[cn];exact(sb.obj i o ho).cut cc (jz _) cm hbo
       ·have hj':j<a.n+1:=hj;by_cases h1:j<a.n
        ·rw[cm j h1];exact sb.tr j (lt' j h1)
        ·have:j=a.n:=by lia
         subst this;rw[cn];exact sb.tr i il
      ·exact h b v x sb ⟨il,iv⟩
     ·exact h b v x sb ⟨il,iv⟩
    ·exact h b v x sb rb
  ·exact h b v x sb rb
end
noncomputable def dV(i:Nat):DE:=λS G=>match S[i]? with
 |some (vD d)=>.ok d G
 |_=>.bad
noncomputable def dC(d:D):DE:=λ_ G=>.ok d G
def dOp(f:D->D->DH->R D)(a b:DE):DE:=λS G=>(a S G).bind λx G1=>(b S G1).bind λy G2=>f x y G2
def dUn(f:D->DH->R D)(a:DE):DE:=λS G=>(a S G).bind f
noncomputable def Ac:DA:=λ_ G=>.ok [] G
def Aa(a:DE)(r:DA):DA:=λS G=>(a S G).bind λx G1=>(r S G1).bind λxs G2=>.ok (x::xs) G2
def dFn(f:List D->DH->R D)(t:DA):DE:=λS G=>(t S G).bind f
def Cj(t:DE):DE:=λS G=>tidy G (t S G)
def asB:D->DH->R Bool
 |.bl k,G=>.ok k G
 |_,_=>.bad
def Ak(t:DE):DB:=λS G=>(t S G).bind asB
def Jr(t u:DB):DB:=λS G=>(t S G).bind λk G1=>if k=vF then u S G1 else .ok vG G1
def dOr(t u:DB):DB:=λS G=>(t S G).bind λk G1=>if k=vF then .ok vF G1 else u S G1
def Hy(t:DB):DB:=λS G=>(t S G).bind λk G1=>.ok (!k) G1
def Gd(t u:DE):DE:=λS G=>(t S G).bind λx G1=>(asB x G1).bind λk G2=>if k=vF then u S G2 else .ok (.bl vG) G2
def N5(t u:DE):DE:=λS G=>(t S G).bind λx G1=>(asB x G1).bind λk G2=>if k=vF then .ok (.bl vF) G2 else u S G2
def N8(t:DE):DE:=λS G=>(t S G).bind λx G1=>(asB x G1).bind λk G2=>.ok (.bl (!k)) G2
def dIf(c:DB)(t u:DE):DE:=λS G=>(c S G).bind λk G1=>if k=vF then t S G1 else u S G1
def O4(f g:D->D->DH->R D)(a b c:DE):DE:=λS G=>(a S G).bind λx G1=>(b S G1).bind λy G2=>(f x y G2).bind λz G3=>(asB z G3).bind λk G4=>
 if k=vF then(c S G4).bind λw G5=>g y w G5 else .ok (.bl vG) G4
noncomputable def An(ds:List D)(G:DH):R D:=if ds.length<=1000000 then .ok (.tup ds) G else .bad
noncomputable def Ah(ds:List D)(G:DH):R D:=if ds.length<=1000000 then .ok (.ref G.length) (G++[.lst ds])else .bad
noncomputable def Bc(d:D)(G:DH):Option (List D):=match d with
 |.tup xs=>vD xs
 |.fl xs=>vD xs
 |.ref i=>match G[i]? with
  |some (.lst xs)=>vD xs
  |_=>vE
 |_=>vE
theorem size6:(1000000:Nat)<=sizeLine:=by decide
section
variable{X:Cx}{E:XK}{a b c:xz}{ta tb tc:DE}{pos:Pos}
theorem two{K:PySem.W.Frag}{f:D->D->DH->R D}{σ:St}{H:Hp}{Q:VK}(h:lE K E (dOp f ta tb) σ H Q):tOp (lR2 K E f) (lE K E ta) (lE K E tb) σ H Q:=by obtain⟨a,S,G,hk,rfl,s,r,h⟩:=h;refine⟨a,S,G,hk,rfl,s,r,(Dq h).imp ?_⟩;rintro v _ ⟨b,d,G1,rfl,x,s1,q,_,h1⟩;refine⟨b,S,G1,x.k.trans hk,rfl,s1,r.mono x,(Dq h1).imp ?_⟩;rintro w _ ⟨c,e,G2,rfl,y,s2,q2,_,h2⟩;exact⟨c,G2,d,e,y.k.trans (x.k.trans hk),rfl,s2,q.mono y,q2,h2⟩
theorem Il(i:Nat){pos:Pos}(hN:X.N[i]?=vD x:=by rfl)(hv:Vis X.env.scope x:=by first|exact Or.inl rfl|exact Or.inr (Or.inl rfl)|exact Or.inr (Or.inr rfl))(hd:(x==("__debug__":Str))=vG:=by decide)
  (hcd:(x==("__classdict__":Str))=vG:=by decide):QE X E (.Name x pos) (dV i):=by
 refine(O9 hN hv hd hcd).mono λσ H Q h=>?_
 obtain⟨a,S,G,hk,rfl,s,r,h⟩:=h;unfold dV at h;split at h
 ·rename_i d e;obtain⟨v,e',q⟩:=r.get i d e;exact⟨v,e',h a v (Ext.refl a) s q⟩
 ·exact h.elim
theorem N6{K:PySem.W.Frag}{d:D}{v:V}{σ:St}{H:Hp}{Q:VK}(h:lE K E (dC d) σ H Q)(r:∀a:Wd,a.K=K->Rep a d v):Q v H:=by obtain⟨a,S,G,hk,rfl,s,_,h⟩:=h;exact h a v (Ext.refl a) s (r a hk)
theorem ZKI{i:Int}{j:Nat}:QE X E (.Constant (.int i) j pos) (dC (.int i)):=ZMP.mono λσ H Q h=>N6 h λ_ _=>rfl
theorem ZJk{i:Bool}{j:Nat}:QE X E (.Constant (.bool i) j pos) (dC (.bl i)):=ZSC.mono λσ H Q h=>N6 h λ_ _=>rfl
theorem ZPX{j:Nat}:QE X E (.Constant .none j pos) (dC .non):=ZNr.mono λσ H Q h=>N6 h λ_ _=>rfl
theorem ZDN{i:Str}{j:Nat}:QE X E (.Constant (.str i) j pos) (dC (.str i)):=Tf.mono λσ H Q h=>N6 h λ_ _=>rfl
theorem ZEC(hg:Gl X x)(hm:X.mg x=vD u)(r:RelV v u)(rd:∀a:Wd,a.K=X.K->Rep a d v)(hd:(x==("__debug__":Str))=vG:=by decide):QE X E (.Name x pos) (dC d):=
 (Wx hg hm r hd).mono λσ H Q h=>N6 h rd
theorem ZQN(ho:OpR X (xL op) (lR2 X.K E f))(ha:QE X E a ta)(hb:QE X E b tb):QE X E (.BinOp a op b pos) (dOp f ta tb):=
 (ZMC ho ha hb).mono λ_ _ _ h=>two h
theorem ZGW(ho:OpR X (xP op) (lR2 X.K E f))(ha:QE X E a ta)(hb:QE X E b tb)(hm:xI op b=vG):QE X E (.Compare a [op] [b] pos) (dOp f ta tb):=
 (ZIp ho ha hb hm).mono λ_ _ _ h=>two h
theorem Xc{K:PySem.W.Frag}{t:DE}{σ:St}{H:Hp}{Q:Bool->Hp->Prop}(h:lB K E (Ak t) σ H Q):Od (lE K E t) σ H Q:=by
 obtain⟨a,S,G,hk,rfl,s,r,h⟩:=h;refine⟨a,S,G,hk,rfl,s,r,(ZQ8 h).imp ?_⟩;rintro v _ ⟨b,d,G1,rfl,x,s1,q,_,h1⟩;cases d with
 |bl k=>exact⟨k,q,h1 b (Ext.refl b) s1⟩
 |_=>exact h1.elim
theorem ZB4(w:∀σ H Q,t' σ H Q->t σ H Q)(σ:St)(H:Hp)(Q:Bool->Hp->Prop)(h:Od t' σ H Q):Od t σ H Q:=w _ _ _ h
theorem Yq(ho:OpR X (xP op) (lR2 X.K E f))(ha:QE X E a ta)(hb:QE X E b tb)(hm:xI op b=vG):QT X E (.Compare a [op] [b] pos) (Ak (dOp f ta tb)):=
 (ZIm ho ha hb hm).mono λσ H Q h=>ZB4 (λ_ _ _ z=>two z) σ H Q (Xc h)
theorem chain{K:PySem.W.Frag}{f g:D->D->DH->R D}{σ:St}{H:Hp}{Q:VK}(h:lE K E (O4 f g ta tb tc) σ H Q):ZD2 (lR2 K E f) (lR2 K E g) (lE K E ta) (lE K E tb) (lE K E tc) σ H Q:=by
 obtain⟨a,S,G,hk,rfl,s,r,h⟩:=h;refine⟨a,S,G,hk,rfl,s,r,(Dq h).imp ?_⟩;rintro v _ ⟨b,d,G1,rfl,x,s1,q,_,h1⟩;refine⟨b,S,G1,x.k.trans hk,rfl,s1,r.mono x,(Dq h1).imp ?_⟩;rintro w _ ⟨c,e,G2,rfl,y,s2,q2,_,h2⟩;refine⟨c,G2,d,e,y.k.trans (x.k.trans hk),rfl,s2,q.mono y,q2,(Dq h2).imp ?_⟩;rintro z _ ⟨c3,e3,G3,rfl,y3,s3,q3,_,h3⟩;cases e3 with
 | bl k=>
  refine⟨k,q3,?_⟩;cases k with
  |false=>exact h3 c3 (.bl vG) (Ext.refl _) s3 rfl
  |true=>
   refine⟨c3,S,G3,(y3.k.trans (y.k.trans (x.k.trans hk))),rfl,s3,((r.mono x).mono y).mono y3,(Dq h3).imp ?_⟩;rintro z4 _ ⟨c4,e4,G4,rfl,y4,s4,q4,_,h4⟩;exact⟨c4,G4,e,e4,y4.k.trans (y3.k.trans (y.k.trans (x.k.trans hk))),rfl,s4,(q2.mono y3).mono y4,q4,h4⟩
 |_=>exact h3.elim
theorem ZPi(ho:OpR X (xP op) (lR2 X.K E f))(ho':OpR X (xP op') (lR2 X.K E g))(ha:QE X E a ta)(hb:QE X E b tb)(hc:QE X E c tc)
  (hm:lastMarks [op,op'] [b,c]=vG:=by with_unfolding_all rfl):QT X E (.Compare a [op,op'] [b,c] pos) (Ak (O4 f g ta tb tc)):=
 (ZRG ho ho' ha hb hc hm).mono λσ H Q h=>ZB4 (λ_ _ _ z=>chain z) σ H Q (Xc h)
theorem ZCm(ha:QE X E a ta)(he:∀whole,isTrue a X.env whole=(do let v<-whole;standAt a.pos;holding [v] (truthy v)):=by intro _;rfl):QT X E a (Ak ta):=
 (ZRJ ha he).mono λσ H Q h=>Xc h
theorem ZIZ(ha:QE X E a ta):QE X E a (Cj ta):=_L.PE.mono ha λσ H Q h=>by obtain⟨w,S,G,hk,rfl,s,r,h⟩:=h;exact⟨w,S,G,hk,rfl,s,r,Pb s h⟩
def QW(X:Cx)(E:XK)(e:xz)(t:DB):Prop:=PW X e (lB X.K E t)
theorem _root_._L.PW.mono(h:PW X e t)(w:∀σ H Q,t' σ H Q->t σ H Q):PW X e t':=λwh vC s σ H Q I q=>h wh vC s σ H Q I (w σ H Q q)
variable{u t:DB}{rest:List xz}
theorem ZPg{K:PySem.W.Frag}{σ:St}{H:Hp}{Q:Bool->Hp->Prop}(h:lB K E (Jr t u) σ H Q):tAnd (lB K E t) (lB K E u) σ H Q:=by
 obtain⟨a,S,G,hk,rfl,s,r,h⟩:=h;refine⟨a,S,G,hk,rfl,s,r,(Yd h).imp ?_⟩;rintro k _ ⟨b,G1,rfl,x,s1,_,h1⟩;cases k with
 |true=>exact⟨b,S,G1,x.k.trans hk,rfl,s1,r.mono x,h1⟩
 |false=>exact h1 b (Ext.refl b) s1
theorem ZLl{K:PySem.W.Frag}{σ:St}{H:Hp}{Q:Bool->Hp->Prop}(h:lB K E (dOr t u) σ H Q):tOr (lB K E t) (lB K E u) σ H Q:=by
 obtain⟨a,S,G,hk,rfl,s,r,h⟩:=h;refine⟨a,S,G,hk,rfl,s,r,(Yd h).imp ?_⟩;rintro k _ ⟨b,G1,rfl,x,s1,_,h1⟩;cases k with
 |true=>exact h1 b (Ext.refl b) s1
 |false=>exact⟨b,S,G1,x.k.trans hk,rfl,s1,r.mono x,h1⟩
theorem ZNq(ha:QT X E a t):QW X E (.BoolOp .And [a] pos) t:=pw_and1 ha
theorem ZQF(ha:QT X E a t):QW X E (.BoolOp .Or [a] pos) t:=pw_or1 ha
theorem ZNn(ha:QT X E a t)(hb:QW X E (.BoolOp .And (b::rest) pos) u):QW X E (.BoolOp .And (a::b::rest) pos) (Jr t u):=(pw_and ha hb).mono λ_ _ _ h=>ZPg h
theorem ZNF(ha:QT X E a t)(hb:QW X E (.BoolOp .Or (b::rest) pos) u):QW X E (.BoolOp .Or (a::b::rest) pos) (dOr t u):=(pw_or ha hb).mono λ_ _ _ h=>ZLl h
theorem qt_w(h:QW X E a t):QT X E a t:=_L.PW.pt h
theorem ZJ0(ha:QT X E a t):QT X E (.UnaryOp .Not a pos) (Hy t):=(ZIu ha).mono λσ H Q h=>by obtain⟨a,S,G,hk,rfl,s,r,h⟩:=h;refine⟨a,S,G,hk,rfl,s,r,(Yd h).imp ?_⟩;rintro k _ ⟨b,G1,rfl,x,s1,_,h1⟩;exact h1 b (Ext.refl b) s1
theorem ZFs{op}(h:QE X E a ta):QE X E (.BoolOp op [a] pos) ta:=ZSX h
theorem ZHz(ha:QE X E a ta)(hb:QE X E (.BoolOp .And (b::rest) pos) tb):QE X E (.BoolOp .And (a::b::rest) pos) (Gd ta tb):=(ZIe ha hb).mono λσ H Q h=>by
 obtain⟨a,S,G,hk,rfl,s,r,h⟩:=h;refine⟨a,S,G,hk,rfl,s,r,(Dq h).imp ?_⟩;rintro v _ ⟨b,d,G1,rfl,x,s1,q,_,h1⟩;cases d with
 |bl k=>
  refine⟨k,q,?_⟩;cases k with
  |true=>exact⟨b,S,G1,x.k.trans hk,rfl,s1,r.mono x,h1⟩
  |false=>exact h1 b _ (Ext.refl b) s1 rfl
 |_=>exact h1.elim
theorem ZAM(ha:QE X E a ta)(hb:QE X E (.BoolOp .Or (b::rest) pos) tb):QE X E (.BoolOp .Or (a::b::rest) pos) (N5 ta tb):=(ZNc ha hb).mono λσ H Q h=>by
 obtain⟨a,S,G,hk,rfl,s,r,h⟩:=h;refine⟨a,S,G,hk,rfl,s,r,(Dq h).imp ?_⟩;rintro v _ ⟨b,d,G1,rfl,x,s1,q,_,h1⟩;cases d with
 |bl k=>
  refine⟨k,q,?_⟩;cases k with
  |false=>exact⟨b,S,G1,x.k.trans hk,rfl,s1,r.mono x,h1⟩
  |true=>exact h1 b _ (Ext.refl b) s1 rfl
 |_=>exact h1.elim
theorem ZKc(ha:QE X E a ta):QE X E (.UnaryOp .Not a pos) (N8 ta):=(ZLv ha).mono λσ H Q h=>by
 obtain⟨a,S,G,hk,rfl,s,r,h⟩:=h;refine⟨a,S,G,hk,rfl,s,r,(Dq h).imp ?_⟩;rintro v _ ⟨b,d,G1,rfl,x,s1,q,_,h1⟩;cases d with
 |bl k=>exact⟨k,q,h1 b _ (Ext.refl b) s1 rfl⟩
 |_=>exact h1.elim
theorem ZQM(hc:QT X E c t)(ha:QE X E a ta)(hb:QE X E b tb):QE X E (.IfExp c a b pos) (dIf t ta tb):=(ZMx hc ha hb).mono λσ H Q h=>by
 obtain⟨a,S,G,hk,rfl,s,r,h⟩:=h;refine⟨a,S,G,hk,rfl,s,r,(ZCp h).imp ?_⟩;rintro k _ ⟨b,G1,rfl,x,s1,_,h1⟩;cases k with
 |true=>exact⟨b,S,G1,x.k.trans hk,rfl,s1,r.mono x,h1⟩
 |false=>exact⟨b,S,G1,x.k.trans hk,rfl,s1,r.mono x,h1⟩
variable{es:List xz}{tr:DA}
theorem Lr:QA X E [] Ac:=Ph.mono λσ H Q h=>by obtain⟨a,S,G,hk,rfl,s,r,h⟩:=h;exact h a [] (Ext.refl a) s rfl
noncomputable def notStar:xz->Bool
 |.Starred _ _=>vG
 |_=>vF
theorem Dy(a:xz)(es:List xz)(env:Env)(h:notStar a=vF):vV (a::es) env=(vG,eval a env)::vV es env:=by
 cases a<;>first
  |exact absurd h zk
  |rfl
theorem Gn(pos:Pos)(env:Env):∀es:List xz,es.all notStar=vF->(xG pos (vV es env)).any (·.1)=vG
 |[],_=>rfl
 |a::es,h=>by
  rw[j7,z0]at h;rw[Dy a es env h.1];have ih:=Gn pos env es h.2;unfold xG at ih⊢;rw[zE,List.any_cons,ih]
  rfl
theorem Jd(ha:QE X E a ta)(hr:QA X E es tr)(hs:notStar a=vF:=by rfl):QA X E (a::es) (Aa ta tr):=(Iz ha hr (Dy a es X.env hs)).mono λσ H Q h=>by obtain⟨a,S,G,hk,rfl,s,r,h⟩:=h;refine⟨a,S,G,hk,rfl,s,r,(ZQ1 h).imp ?_⟩;rintro v _ ⟨b,d,G1,rfl,x,s1,q,_,h1⟩;refine⟨b,S,G1,x.k.trans hk,rfl,s1,r.mono x,(ZKd h1).imp ?_⟩;rintro vs _ ⟨c,ds,G2,rfl,y,s2,q2,_,h2⟩;exact h2 c _ (Ext.refl c) s2 (Reps.cons (q.mono y) q2)
theorem Xf{x1}(h:QA X E es tr):QE X E (.Tuple es x1 pos) (dFn An tr):=(ZCS h).mono λσ H Q h=>by
 obtain⟨a,S,G,hk,rfl,s,r,h⟩:=h;refine⟨a,S,G,hk,rfl,s,r,(Jx h).imp ?_⟩;rintro vs _ ⟨b,ds,G1,rfl,x,s1,q,_,h1⟩;unfold An at h1;split at h1
 ·rename_i hl;refine⟨by rw[<-q.length];exact z5 hl size6,λp hp=>?_⟩;exact h1 (b.put p (.tup vs)) (.ref p) (Ext.put hp) (s1.put hp) ⟨p,vs,rfl,.of Ei,q.mono (Ext.put hp)⟩
 ·exact h1.elim
theorem ZJH(h:QA X E es tr):QE X E (.List es pos) (dFn Ah tr):=(ZON h).mono λσ H Q h=>by
 obtain⟨a,S,G,hk,rfl,s,r,h⟩:=h;refine⟨a,S,G,hk,rfl,s,r,(Jx h).imp ?_⟩;rintro vs _ ⟨b,ds,G1,rfl,x,s1,q,_,h1⟩;unfold Ah at h1;split at h1
 ·rename_i hl;refine⟨by rw[<-q.length];exact z5 hl size6,λp hp=>?_⟩;refine h1 (b.push p (.lst vs)) (.ref p) (Ext.push hp) (s1.push hp ⟨vs,rfl,q.mono (Ext.push hp)⟩) ⟨?_,?_⟩
  ·rw[s1.len];exact qY _
  ·rw[s1.len];show V.ref p=.ref (if b.n=b.n then p else b.m b.n);rw[if_pos rfl]
 ·exact h1.elim
variable{e:xz}{x:Str}{p:Pos}
theorem Lk{K:PySem.W.Frag}{f:List D->DH->R D}{σ:St}{H:Hp}{Q:VK}(h:lE K E (dFn f tr) σ H Q):lA K E tr σ H (λvs H1=>lRn K E f vs H1 Q):=by obtain⟨a,S,G,hk,rfl,s,r,h⟩:=h;refine⟨a,S,G,hk,rfl,s,r,(Jx h).imp ?_⟩;rintro vs _ ⟨b,ds,G1,rfl,x,s1,q,_,h1⟩;exact⟨b,G1,ds,x.k.trans hk,rfl,s1,q,h1⟩
theorem ZIl{id:String}{f:List D->DH->R D}(hc:CallR X (.builtin id) (lRn X.K E f))(hg:Gl X x)(hm:X.mg x=vE)(hv:xM x=vD (.builtin id))(ha:QA X E (e::es) tr)(hn:x≠"__name__":=by decide)(hdb:(x==("__debug__":Str))=vG:=by decide)
  (he:notStar e=vF:=by rfl) (hpl:es.all notStar=vF:=by rfl):QE X E (.Call (.Name x p) (e::es) [] pos) (dFn f tr):=
 (Xa hc hg hm hv ha hn hdb (Dy e es X.env he) (Gn pos X.env es hpl)).mono λσ H Q h=>Lk h
theorem Rn{id:String}{f:List D->DH->R D}(hc:CallR X (.type id) (lRn X.K E f))(hg:Gl X x)(hm:X.mg x=vE)(hv:xM x=vD (.type id))(ha:QA X E (e::es) tr)(hn:x≠"__name__":=by decide)(hdb:(x==("__debug__":Str))=vG:=by decide)
  (he:notStar e=vF:=by rfl) (hpl:es.all notStar=vF:=by rfl):QE X E (.Call (.Name x p) (e::es) [] pos) (dFn f tr):=
 (ZLI hc hg hm hv ha hn hdb (Dy e es X.env he) (Gn pos X.env es hpl)).mono λσ H Q h=>Lk h
theorem ZQh{CX:CXT}{k:Nat}{f:xY}{fd:xj}{ps:List Str}{F:List D->DH->R D}(FF:FnOk X.prog X.w X.K X.mg X.base CX k f fd ps (lF X.K F))(hr:Room k X.A)(hg:Gl X x)(hm:X.mg x=vD (.ref f))(hk:PySem.W.keepIn X.K (.ref f)=vF)(hb:Binds X.K fd ps [])
  (hx:Passes CX X E0) (ha:QA X E0 (e::es) tr) (hdb:(x==("__debug__":Str))=vG:=by decide) (he:notStar e=vF:=by rfl) (hpl:es.all notStar=vF:=by rfl):
  QE X E0 (.Call (.Name x p) (e::es) [] pos) (dFn F tr):=
 (Zh FF hr hg hm hk hb .nil hx ha hdb (Dy e es X.env he) (Gn pos X.env es hpl)).mono λσ H Q h=>by obtain⟨a,S,G,hk,rfl,s,r,h⟩:=Lk h;refine⟨a,S,G,hk,rfl,s,r,h.imp ?_⟩;rintro vs _ ⟨b,G1,ds,hk,rfl,s1,q,h1⟩;exact⟨b,G1,ds,hk,rfl,s1,by rw[qj];exact q,h1⟩
theorem Z1(hr:IxR X (lR2 X.K E f))(ha:QE X E a ta)(hb:QE X E b tb)(hs:PlainIx b:=by intro _ _;rfl):QE X E (.Subscript a b pos) (dOp f ta tb):=
 (ZQC hr ha hb hs).mono λ_ _ _ h=>two h
end
noncomputable instance (i j:Int):Decidable (CMul i j):=by unfold CMul;infer_instance
noncomputable instance (i j:Int):Decidable (CPow i j):=by unfold CPow;infer_instance
def CDivL(j:Int):Prop:=0<j/\j.natAbs.log2<9000
noncomputable instance (j:Int):Decidable (CDivL j):=by unfold CDivL;infer_instance
def Do:D->D->DH->R D
 |.int i,.int j,G=>.ok (.int (i-j)) G
 |_,_,_=>.bad
def Bx:D->D->DH->R D
 |.int i,.int j,G=>if CDivL j then .ok (.int (i/j)) G else .bad
 |_,_,_=>.bad
def Aw:D->D->DH->R D
 |.int i,.int j,G=>if 0<j then .ok (.int (i%j)) G else .bad
 |_,_,_=>.bad
def Hc:D->D->DH->R D
 |.int i,.int j,G=>if CPow i j then .ok (.int (i^j.toNat)) G else .bad
 |_,_,_=>.bad
def Gm:D->D->DH->R D
 |.int i,.int j,G=>.ok (.bl (decide (i<j))) G
 |.str i,.str j,G=>.ok (.bl (decide (i.cps.toList<j.cps.toList))) G
 |_,_,_=>.bad
def Pu:D->D->DH->R D
 |.int i,.int j,G=>.ok (.bl (decide (i<=j))) G
 |.str i,.str j,G=>.ok (.bl (!decide (j.cps.toList<i.cps.toList))) G
 |_,_,_=>.bad
def Gf:D->D->DH->R D
 |.int i,.int j,G=>.ok (.bl (decide (j<i))) G
 |.str i,.str j,G=>.ok (.bl (decide (j.cps.toList<i.cps.toList))) G
 |_,_,_=>.bad
def Ro:D->D->DH->R D
 |.int i,.int j,G=>.ok (.bl (decide (j<=i))) G
 |.str i,.str j,G=>.ok (.bl (!decide (i.cps.toList<j.cps.toList))) G
 |_,_,_=>.bad
noncomputable def Fi(d:D)(G:DH):Option (List D):=match d with
 |.fl xs=>vD xs
 |.ref i=>match G[i]? with
  |some (.lst xs)=>vD xs
  |_=>vE
 |_=>vE
def Aj:D->D->DH->R D
 |.int i,.int j,G=>.ok (.int (i+j)) G
 |.str i,.str j,G=>if i.length+j.length<=1000000 then .ok (.str (i++j)) G else .bad
 |.tup xs,.tup ys,G=>if xs≠[]/\xs.length+ys.length<=1000000 then .ok (.tup (xs++ys)) G else .bad
 |d,e,G=>match Fi d G,Fi e G with
  |some xs,vD ys=>if xs.length+ys.length<=1000000 then .ok (.ref G.length) (G++[.lst (xs++ys)])else .bad
  |_,_=>.bad
section
variable{X:Cx}{E:XK}
theorem Fq(ho:OpR X f r)
  (h:∀(a:Wd)(G:DH)(d e:D)(x y:V)(Q:VK),a.K=X.K->Sim a G->Rep a d x->Rep a e y->out E a (F d e G) Q->r x y a.H Q):OpR X f (lR2 X.K E F):=
 ho.mono λx y H Q ⟨a,G,d,e,hk,hH,s,rd,re,q⟩=>by subst hH;exact h a G d e x y Q hk s rd re q
theorem ZNR:OpR X (xL .Sub) (lR2 X.K E Do):=Fq ZMB λa G d e x y Q hk s rd re q=>by
 cases d<;>cases e<;>first
  |exact q.elim
  |exact⟨_,_,rd,re,q a _ (Ext.refl a) s rfl⟩
theorem ZJl:OpR X (xL .FloorDiv) (rI (λ_ j=>CDivL j) λi j=>.int (i/j)):=opI λi j _ _ _ _ _ hc q=>by have e:i.fdiv j=i/j:=Int.fdiv_eq_ediv_of_nonneg _ (Int.le_of_lt hc.1);refine floordiv_int (by have:=hc.1;lia) (by rw[e];exact q) (.inl (PyProof.noPylong_of_log2 hc.2))
theorem ZOM:OpR X (xL .FloorDiv) (lR2 X.K E Bx):=Fq ZJl λa G d e x y Q hk s rd re q=>by
 cases d<;>cases e<;>first
  |exact q.elim
  | (
    rename_i i j;unfold Bx at q;dsimp only at q;split at q
    ·exact⟨_,_,rd,re,by assumption,q a _ (Ext.refl a) s rfl⟩
    ·exact q.elim)
theorem ZLC:OpR X (xL .Mod) (lR2 X.K E Aw):=Fq ZRw λa G d e x y Q hk s rd re q=>by
 cases d<;>cases e<;>first
  |exact q.elim
  | (
    rename_i i j;unfold Aw at q;dsimp only at q;split at q
    ·exact⟨_,_,rd,re,by assumption,q a _ (Ext.refl a) s rfl⟩
    ·exact q.elim)
theorem ZMJ:OpR X (xL .Pow) (lR2 X.K E Hc):=Fq ZPx λa G d e x y Q hk s rd re q=>by
 cases d<;>cases e<;>first
  |exact q.elim
  | (
    rename_i i j;unfold Hc at q;dsimp only at q;split at q
    ·exact⟨_,_,rd,re,by assumption,q a _ (Ext.refl a) s rfl⟩
    ·exact q.elim)
theorem o_lt:OpR X (xP .Lt) (lR2 X.K E Gm):=Fq (ZPV.or ZLd) λa G d e x y Q hk s rd re q=>by
 cases d<;>cases e<;>first
  |exact q.elim
  |exact .inl ⟨_,_,rd,re,q a _ (Ext.refl a) s rfl⟩
  |exact .inr ⟨_,_,rd,re,q a _ (Ext.refl a) s rfl⟩
theorem ZQI:OpR X (xP .LtE) (λx y H Q=>∃i j,x=.str i/\y=.str j/\Q (.bl (!decide (j.cps.toList<i.cps.toList))) H):=by intro vC s σ H x y v u Q I rx ry h;obtain⟨i,j,rfl,rfl,q⟩:=h;obtain⟨t,rfl⟩:=rx;obtain⟨t',rfl⟩:=ry;exact PySem.P.le_str ⟨.bl _,H,I,rfl,q⟩
theorem ZRh:OpR X (xP .Gt) (λx y H Q=>∃i j,x=.str i/\y=.str j/\Q (.bl (decide (j.cps.toList<i.cps.toList))) H):=by intro vC s σ H x y v u Q I rx ry h;obtain⟨i,j,rfl,rfl,q⟩:=h;obtain⟨t,rfl⟩:=rx;obtain⟨t',rfl⟩:=ry;exact PySem.P.gt_str ⟨.bl _,H,I,rfl,q⟩
theorem ZR4:OpR X (xP .GtE) (λx y H Q=>∃i j,x=.str i/\y=.str j/\Q (.bl (!decide (i.cps.toList<j.cps.toList))) H):=by intro vC s σ H x y v u Q I rx ry h;obtain⟨i,j,rfl,rfl,q⟩:=h;obtain⟨t,rfl⟩:=rx;obtain⟨t',rfl⟩:=ry;exact PySem.P.ge_str ⟨.bl _,H,I,rfl,q⟩
theorem o_le:OpR X (xP .LtE) (lR2 X.K E Pu):=Fq (ZOg.or ZQI) λa G d e x y Q hk s rd re q=>by
 cases d<;>cases e<;>first
  |exact q.elim
  |exact .inl ⟨_,_,rd,re,q a _ (Ext.refl a) s rfl⟩
  |exact .inr ⟨_,_,rd,re,q a _ (Ext.refl a) s rfl⟩
theorem o_gt:OpR X (xP .Gt) (lR2 X.K E Gf):=Fq (ZMU.or ZRh) λa G d e x y Q hk s rd re q=>by
 cases d<;>cases e<;>first
  |exact q.elim
  |exact .inl ⟨_,_,rd,re,q a _ (Ext.refl a) s rfl⟩
  |exact .inr ⟨_,_,rd,re,q a _ (Ext.refl a) s rfl⟩
theorem o_ge:OpR X (xP .GtE) (lR2 X.K E Ro):=Fq (ZSE.or ZR4) λa G d e x y Q hk s rd re q=>by
 cases d<;>cases e<;>first
  |exact q.elim
  |exact .inl ⟨_,_,rd,re,q a _ (Ext.refl a) s rfl⟩
  |exact .inr ⟨_,_,rd,re,q a _ (Ext.refl a) s rfl⟩
theorem Sim.lst(s:Sim a G)(h:G[i]?=vD (.lst xs)):∃vs,a.H (a.m i)=vD (.lst vs)/\Reps a xs vs:=s.obj i _ h
theorem Jh{E:XK}(s:Sim a G)(r:Reps a ds vs)(h:out E a (.ok (.ref G.length) (G++[.lst ds])) Q)(p:xY)(hp:a.H p=vE):Q (.ref p) (upd a.H p (.lst vs)):=by
 refine h (a.push p (.lst vs)) (.ref p) (Ext.push hp) (s.push hp ⟨vs,rfl,r.mono (Ext.push hp)⟩) ⟨?_,?_⟩
 ·rw[s.len];exact qY _
 ·rw[s.len];show V.ref p=.ref (if a.n=a.n then p else a.m a.n);rw[if_pos rfl]
theorem Vg{E:XK}(s:Sim a G)(r:Reps a ds vs)(h:out E a (.ok (.tup ds) G) Q)(p:xY)(hp:a.H p=vE):Q (.ref p) (upd a.H p (.tup vs)):=
 h (a.put p (.tup vs)) (.ref p) (Ext.put hp) (s.put hp) ⟨p,vs,rfl,.of Ei,r.mono (Ext.put hp)⟩
theorem Oo(s:Sim a G)(r:Rep a d x)(h:Fi d G=vD xs):∃p vs,x=.ref p/\SqL a.K a.H p vs/\Reps a xs vs:=by
 cases d with
 |fl ys=>
  have e:ys=xs:=Option.some.inj h;subst e;obtain⟨p,vs,e,q,rr⟩:=r;exact⟨p,vs,e,q.sq,rr⟩
 |ref i=>
  unfold Fi at h;dsimp only at h;split at h
  ·rename_i ys hi;have e:ys=xs:=Option.some.inj h;subst e;obtain⟨vs,e1,r1⟩:=s.lst hi;exact⟨a.m i,vs,r.2,.of e1,r1⟩
  ·cases h
 |_=>cases h
def ZE4(K:PySem.W.Frag):R2:=λx y H Q=>∃l b xs zs,x=.ref l/\y=.ref b/\SqL K H l xs/\SqL K H b zs/\xs.length+zs.length<=sizeLine/\∀p,H p=vE->Q (.ref p) (upd H p (.lst (xs++zs)))
theorem ZLO:OpR X (xL .Add) (ZE4 X.K):=by
 intro vC s σ H x y v u Q I rx ry h;obtain⟨l,b,xs,zs,rfl,rfl,hH,hB,hz,q⟩:=h;cases rx;cases ry;obtain⟨its,r,p1,_⟩:=I.list hH;obtain⟨its2,r2,p2,_⟩:=I.list hB;obtain⟨⟨cls,dd,data,sl⟩,n,ho,hc,_,hd⟩:=p1;obtain⟨⟨cls2,dd2,data2,sl2⟩,n2,ho2,hc2,_,hd2⟩:=p2;cases hc;cases hd;cases hc2;cases hd2;have hl:=r.length;have hl2:=r2.length;refine concat_meets ⟨_,ho,rfl⟩ ⟨_,ho2,rfl⟩ noFill_list_add seq_list_add PySem.F.slot_list_add PySem.F.entry_list_add (PySem.F.args_list_add_2 _ _) (list_addW l b its.toArray its2.toArray n n2 dd dd2 sl sl2 (by rw[zK,zK];lia)) ⟨ho,ho2,?_⟩
 have ea:its.toArray++its2.toArray=(its++its2).toArray:=by simp
 rw[ea];exact⟨.ref _,_,I.lnew (t':=s.toks) (r.append r2) (by rw[qJ];lia),rfl,q _ I.fresh⟩
theorem ZPs:OpR X (xL .Add) (lR2 X.K E Aj):=Fq (ZN4.or (ZJB.or (ZLO.or ZSi))) λa G d e x y Q hk s rd re q=>by
 have lst:out E a (match Fi d G,Fi e G with
  |some xs,vD ys=>if xs.length+ys.length<=1000000 then .ok (.ref G.length) (G++[.lst (xs++ys)])else .bad
  |_,_=>.bad) Q->ZE4 X.K x y a.H Q:=λq=>by
  split at q
  ·rename_i xs ys h1 h2;split at q
   ·rename_i hl;obtain⟨p,vs,e1,q1,r1⟩:=Oo s rd h1;obtain⟨p',vs',e2,q2,r2⟩:=Oo s re h2;rw[hk]at q1 q2;exact⟨p,p',vs,vs',e1,e2,q1,q2,by rw[<-r1.length,<-r2.length];exact z5 hl size6,λp hp=>Jh s (r1.append r2) q p hp⟩
   ·exact q.elim
  ·exact q.elim
 have L:=λq=>Or.inr (a:=rI0 (λi j=>V.int (i+j)) x y a.H Q) (Or.inr (a:=∃i j,x=.str i/\y=.str j/\i.length+j.length<=sizeLine/\Q (.str (i++j)) a.H) (Or.inl (b:=ZHu X.K x y a.H Q) (lst q)))
 cases d<;>cases e<;>first
  |exact .inl ⟨_,_,rd,re,q a _ (Ext.refl a) s rfl⟩
  |exact L q
  |skip
 ·rename_i i j;unfold Aj at q;dsimp only at q;split at q
  ·rename_i hl;exact .inr (.inl ⟨_,_,rd,re,z5 hl size6,q a _ (Ext.refl a) s rfl⟩)
  ·exact q.elim
 ·rename_i xs ys;unfold Aj at q;dsimp only at q;split at q
  ·rename_i hl;obtain⟨p,vs,e1,h1,r1⟩:=rd;obtain⟨p',vs',e2,h2,r2⟩:=re;rw[hk]at h1 h2;refine .inr (.inr (.inr ⟨p,p',vs,vs',e1,e2,h1,h2,λz=>hl.1 (jX (by rw[r1.length,z];rfl)),by rw[<-r1.length,<-r2.length];exact z5 hl.2 size6,λz=>?_,λ_ p0 hp=>?_⟩))
   ·refine q a (.ref p) (Ext.refl a) s ⟨p,vs,rfl,by rw[hk];exact h1,?_⟩;have e3:ys=[]:=jX (by rw[r2.length,z];rfl);rw[e3,qj];exact r1
   ·exact Vg s (r1.append r2) q p0 hp
  ·exact q.elim
inductive VD where
 |flat (v:V)
 |lst (xs:List D)
 |tup (xs:List D)
 |bad
def view(G:DH):D->VD
 |.non=>.flat .non
 |.bl b=>.flat (.bl b)
 |.int i=>.flat (.int i)
 |.str x=>.flat (.str x)
 |.ty _=>.bad
 |.tup xs=>.tup xs
 |.fl xs=>.lst xs
 |.ref i=>match G[i]? with
  |some (.lst xs)=>.lst xs
  |_=>.bad
noncomputable def eqZ(f:D->D->Option Bool):List D->List D->Option Bool
 |x::xs,y::ys=>match f x y,eqZ f xs ys with
  |some a,vD b=>vD (a&&b)
  |_,_=>vE
 |_,_=>vD vF
def eqD:Nat->DH->D->D->Option Bool
 |0=>λ_ _ _=>vE
 | n+1=>λG d e=>match view G d,view G e with
  |.flat a,.flat b=>vD (eqV a b)
  |.lst xs,.lst ys=>if xs.length=ys.length then eqZ (eqD n G) xs ys else vD vG
  |.tup xs,.tup ys=>match eqZ (eqD n G) xs ys with
   |some b=>vD (b&&xs.length==ys.length)
   |none=>vE
  |.bad,_=>vE
  |_,.bad=>vE
  |_,_=>vD vG
theorem Qo:∀{xs ys:List D}{k:Bool},eqZ f xs ys=vD k->∃e:Nat->Bool,(∀(j:Nat)(x y:D),xs[j]?=vD x->ys[j]?=vD y->f x y=vD (e j))/\k=(zV (min xs.length ys.length)).all e
 | [],ys,k,h=>⟨λ_=>vF,λj x y e1 _=>by simp at e1,by
   have h':vD vF=vD k:=by cases ys<;>exact h
   cases h';simp⟩
 |x::xs,[],k,h=>⟨λ_=>vF,λj x y _ e1=>by simp at e1,by have h':vD vF=vD k:=h;cases h';simp⟩
 | x::xs,y::ys,k,h=>by
  unfold eqZ at h;split at h
  ·rename_i a b h1 h2;obtain⟨e,he,hk⟩:=Qo h2;have h':(a&&b)=k:=Option.some.inj h
   refine⟨λj=>match j with |0=>a|j+1=>e j,λj x' y' e1 e2=>?_,?_⟩
   ·cases j with
    |zero=>simp at e1 e2;subst e1;subst e2;exact h1
    |succ j=>exact he j x' y' (by simpa using e1) (by simpa using e2)
   ·rw[<-h',hk];have:min (x::xs).length (y::ys).length=min xs.length ys.length+1:=by simp only[qV];lia
    rw[this,qT,j7,List.all_map]
    rfl
  ·cases h
theorem Rh(s:Sim a G)(r:Rep a d x):match view G d with
  |.flat v=>x=v/\Hz v=vF
  |.lst xs=>∃p vs,x=.ref p/\SqL a.K a.H p vs/\Reps a xs vs
  |.tup xs=>∃p vs,x=.ref p/\SqT a.K a.H p vs/\Reps a xs vs
  |.bad=>True:=by
 cases d with
 |non=>exact⟨r,rfl⟩
 |bl b=>exact⟨r,rfl⟩
 |int b=>exact⟨r,rfl⟩
 |str b=>exact⟨r,rfl⟩
 |ty n=>trivial
 |tup xs=>
  obtain⟨p,vs,e,h,q⟩:=r;exact⟨p,vs,e,h,q⟩
 |fl xs=>
  obtain⟨p,vs,e,h,q⟩:=r;exact⟨p,vs,e,h.sq,q⟩
 | ref i=>
  unfold view;dsimp only;split
  ·rename_i v hv
   split at hv<;>cases hv
  ·rename_i xs hv;split at hv
   ·rename_i ys hi;cases hv;obtain⟨vs,e1,r1⟩:=s.lst hi;exact⟨a.m i,vs,r.2,.of e1,r1⟩
   ·cases hv
  ·rename_i xs hv
   split at hv<;>cases hv
  ·trivial
theorem ZLF(ry:RelV y u)(rx:RelV x v)(fy:Hz y=vF)(fx:Hz x=vF):SeqAt.RcAt A s u v (eqV y x):=by
 cases y with
 |non=>
  cases ry;cases x with
  |non=>cases rx;exact SeqAt.RcAt.none_none
  |bl b=>cases rx;exact SeqAt.RcAt.none_bool b
  |int b=>obtain⟨t,rfl⟩:=rx;exact SeqAt.RcAt.none_int b t
  |str b=>obtain⟨t,rfl⟩:=rx;exact SeqAt.RcAt.none_str b t
  |_=>exact absurd (show vG=vF from fx) zk
 |bl a=>
  cases ry;cases x with
  |non=>cases rx;exact SeqAt.RcAt.bool_none a
  |bl b=>cases rx;exact SeqAt.RcAt.bool_bool a b
  |int b=>obtain⟨t,rfl⟩:=rx;exact SeqAt.RcAt.bool_int a b t
  |str b=>obtain⟨t,rfl⟩:=rx;exact SeqAt.RcAt.bool_str a b t
  |_=>exact absurd (show vG=vF from fx) zk
 |int a=>
  obtain⟨t',rfl⟩:=ry;cases x with
  |non=>cases rx;exact SeqAt.RcAt.int_none a t'
  |bl b=>cases rx;exact SeqAt.RcAt.int_bool a t' b
  |int b=>obtain⟨t,rfl⟩:=rx;exact SeqAt.RcAt.int_int a t' b t
  |str b=>obtain⟨t,rfl⟩:=rx;exact SeqAt.RcAt.int_str a t' b t
  |_=>exact absurd (show vG=vF from fx) zk
 |str a=>
  obtain⟨t',rfl⟩:=ry;cases x with
  |non=>cases rx;exact SeqAt.RcAt.str_none a t'
  |bl b=>cases rx;exact SeqAt.RcAt.str_bool a t' b
  |int b=>obtain⟨t,rfl⟩:=rx;exact SeqAt.RcAt.str_int a t' b t
  |str b=>obtain⟨t,rfl⟩:=rx;exact SeqAt.RcAt.str_str a t' b t
  |_=>exact absurd (show vG=vF from fx) zk
 |_=>exact absurd (show vG=vF from fy) zk
theorem ZOn(ry:RelV y u)(rx:RelV x v)(fy:Hz y=vF)(fx:Hz x=vF):SeqAt.RcNeAt A s u v (!eqV y x):=by
 cases y with
 |non=>
  cases ry;cases x with
  |non=>cases rx;exact SeqAt.RcNeAt.none_none
  |bl b=>cases rx;exact SeqAt.RcNeAt.none_bool b
  |int b=>obtain⟨t,rfl⟩:=rx;exact SeqAt.RcNeAt.none_int b t
  |str b=>obtain⟨t,rfl⟩:=rx;exact SeqAt.RcNeAt.none_str b t
  |_=>exact absurd (show vG=vF from fx) zk
 |bl a=>
  cases ry;cases x with
  |non=>cases rx;exact SeqAt.RcNeAt.bool_none a
  |bl b=>cases rx;exact SeqAt.RcNeAt.bool_bool a b
  |int b=>obtain⟨t,rfl⟩:=rx;exact SeqAt.RcNeAt.bool_int a b t
  |str b=>obtain⟨t,rfl⟩:=rx;exact SeqAt.RcNeAt.bool_str a b t
  |_=>exact absurd (show vG=vF from fx) zk
 |int a=>
  obtain⟨t',rfl⟩:=ry;cases x with
  |non=>cases rx;exact SeqAt.RcNeAt.int_none a t'
  |bl b=>cases rx;exact SeqAt.RcNeAt.int_bool a t' b
  |int b=>obtain⟨t,rfl⟩:=rx;exact SeqAt.RcNeAt.int_int a t' b t
  |str b=>obtain⟨t,rfl⟩:=rx;exact SeqAt.RcNeAt.int_str a t' b t
  |_=>exact absurd (show vG=vF from fx) zk
 |str a=>
  obtain⟨t',rfl⟩:=ry;cases x with
  |non=>cases rx;exact SeqAt.RcNeAt.str_none a t'
  |bl b=>cases rx;exact SeqAt.RcNeAt.str_bool a t' b
  |int b=>obtain⟨t,rfl⟩:=rx;exact SeqAt.RcNeAt.str_int a t' b t
  |str b=>obtain⟨t,rfl⟩:=rx;exact SeqAt.RcNeAt.str_str a t' b t
  |_=>exact absurd (show vG=vF from fx) zk
 |_=>exact absurd (show vG=vF from fy) zk
end
section
variable{X:Cx}{E:XK}{vC:List (xY×Obj)}{σ:St}{s:xA}
theorem ZQ9(v:V)(h:Hz v=vF):eqV v v=vF:=by cases v<;>first|rfl|exact absurd (show vG=vF from h) zk|(simp[eqV])
theorem ZH3(I:Inv X vC σ a.H s)(hk:a.K=X.K)(sm:Sim a G):∀(n:Nat){d e:D}{x:V}{k:Bool},Rep a d x->Rep a e x->eqD n G d e=vD k->k=vF
 |0,_,_,_,_,_,_,h=>by cases h
 | n+1,d,e,x,k,rd,re,h=>by
  have vd:=Rh sm rd;have ve:=Rh sm re;have items:∀{xs ys:List D}{vs:List V}{b:Bool},Reps a xs vs->Reps a ys vs->eqZ (eqD n G) xs ys=vD b->b=vF:=λ{xs ys vs b}r1 r2 hz=>by obtain⟨f,hf,hb⟩:=Qo hz;rw[hb,qC];intro j hj;have hj':j<min xs.length ys.length:=q8.mp hj;have h1:xs[j]?=vD (xs[j]'(by lia)):=zZ (by lia);have h2:ys[j]?=vD (ys[j]'(by lia)):=zZ (by lia);obtain⟨v1,e1,q1⟩:=r1.get h1;obtain⟨v2,e2,q2⟩:=r2.get h2;rw[e1]at e2;cases e2;exact ZH3 I hk sm n q1 q2 (hf j _ _ h1 h2)
  unfold eqD at h
  try dsimp only at h
  revert h vd ve
  cases view G d<;>cases view G e<;>intro vd ve h<;>dsimp only at h vd ve<;>first
   |cases h
   |skip
  ·
   rename_i v w;obtain⟨rfl,f1⟩:=vd;obtain⟨rfl,f2⟩:=ve;exact ZQ9 _ f1
  ·obtain⟨rfl,f1⟩:=vd;obtain⟨p,vs,e1,_⟩:=ve;subst e1;cases f1
  ·obtain⟨rfl,f1⟩:=vd;obtain⟨p,vs,e1,_⟩:=ve;subst e1;cases f1
  ·obtain⟨rfl,f1⟩:=ve;obtain⟨p,vs,e1,_⟩:=vd;subst e1;cases f1
  ·obtain⟨p,vs,e1,h1,r1⟩:=vd;obtain⟨p',vs',e2,h2,r2⟩:=ve;rw[e1]at e2;cases e2;rw[hk]at h1 h2;cases I.ZAB h1 h2;split at h
   ·exact items r1 r2 h
   ·rename_i hl;exact absurd (r1.length.trans r2.length.symm) hl
  ·obtain⟨p,vs,e1,h1,r1⟩:=vd;obtain⟨p',vs',e2,h2,r2⟩:=ve;rw[e1]at e2;cases e2;rw[hk]at h1 h2;obtain⟨_,_,pl,_⟩:=I.list h1;obtain⟨_,_,pt,_⟩:=I.tuple h2;exact absurd rfl (SeqAt.ne_of_list_tuple pl.isList pt)
  ·obtain⟨rfl,f1⟩:=ve;obtain⟨p,vs,e1,_⟩:=vd;subst e1;cases f1
  ·obtain⟨p,vs,e1,h1,r1⟩:=vd;obtain⟨p',vs',e2,h2,r2⟩:=ve;rw[e1]at e2;cases e2;rw[hk]at h1 h2;obtain⟨_,_,pl,_⟩:=I.list h2;obtain⟨_,_,pt,_⟩:=I.tuple h1;exact absurd rfl (SeqAt.ne_of_list_tuple pl.isList pt)
  ·obtain⟨p,vs,e1,h1,r1⟩:=vd;obtain⟨p',vs',e2,h2,r2⟩:=ve;rw[e1]at e2;cases e2;rw[hk]at h1 h2;cases I.ZA9 h1 h2;split at h
   ·rename_i b hz;have h':(b&&_)=k:=Option.some.inj h;rw[<-h',items r1 r2 hz,r1.length,r2.length];simp
   ·cases h
theorem Uo(r:Reps a xs vs)(q:Vals vs its)(h:j<its.toArray.size):∃d v,xs[j]?=vD d/\Rep a d v/\RelV v its.toArray[j]:=by
 have hl:j<its.length:=by simpa using h
 have h2:j<vs.length:=by rw[q.length];exact hl
 obtain⟨v,e1⟩:∃v,vs[j]?=vD v:=⟨vs[j],zZ h2⟩;obtain⟨d,e2,rd⟩:=r.get' e1;obtain⟨u,e3,ru⟩:=q.get e1;have e4:u=its.toArray[j]:=by have:its[j]?=vD its[j]:=zZ hl;rw[this]at e3;simpa using(Option.some.inj e3).symm
 exact⟨d,v,e2,rd,by rw[<-e4];exact ru⟩
theorem Pr(I:Inv X vC σ a.H s)(hk:a.K=X.K)(sm:Sim a G):∀(n:Nat){A:xq}{d e:D}{x y:V}{u w:xC}{k:Bool},A.units+n<cLine->Rep a d x->Rep a e y->RelV x u->RelV y w->eqD n G d e=vD k->
  SeqAt.EqAt A s u w k/\SeqAt.RcAt A s u w k/\SeqAt.RcNeAt A s u w (!k)
 |0,_,_,_,_,_,_,_,_,_,_,_,_,_,h=>by cases h
 | n + 1,A,d,e,x,y,u,w,k,hu,rd,re,ru,rw',h=>by
  have vd:=Rh sm rd;have ve:=Rh sm re;have hu1:A.units<cLine:=by lia
  have hu2:A.in1.units+n<cLine:=by show A.units+1+n<cLine;lia
  have same:∀{z:V},Rep a d z->Rep a e z->eqD (n+1) G d e=vD k->k=vF:=λr1 r2 r3=>ZH3 I hk sm (n+1) r1 r2 r3
  have h0:=h;unfold eqD at h
  try dsimp only at h
  have refs:∀{p q:xY}{k:Bool},(p=q->k=vF)->SeqAt.RcAt A s (.ref p) (.ref q) k->SeqAt.EqAt A s (.ref p) (.ref q) k:=λ{p q k}hs hr=>by
   by_cases e:p=q
   ·rw[hs e,e];exact SeqAt.EqAt.same _
   ·exact SeqAt.EqAt.of_refs e hr
  revert h vd ve
  cases hvd:view G d<;>cases hve:view G e<;>intro vd ve h<;>dsimp only at h vd ve<;>first
   |cases h
   |skip
  ·
   obtain⟨rfl,f1⟩:=vd;obtain⟨rfl,f2⟩:=ve;exact⟨ZPE ru rw' f1 f2,ZLF ru rw' f1 f2,ZOn ru rw' f1 f2⟩
  ·
   obtain⟨rfl,f1⟩:=vd;obtain⟨q,vs,rfl,h2,r2⟩:=ve;cases rw';rw[hk]at h2;obtain⟨its,qv,pl,_⟩:=I.list h2;cases x with
   |non=>cases ru;exact⟨SeqAt.EqAt.none_list pl.isList hu1,SeqAt.RcAt.none_list pl.isList hu1,SeqAt.RcNeAt.none_list pl.isList hu1⟩
   |bl b=>cases ru;exact⟨SeqAt.EqAt.bool_list b pl.isList hu1,SeqAt.RcAt.bool_list b pl.isList hu1,SeqAt.RcNeAt.bool_list b pl.isList hu1⟩
   |int b=>obtain⟨t,rfl⟩:=ru;exact⟨SeqAt.EqAt.int_list b t pl.isList hu1,SeqAt.RcAt.int_list b t pl.isList hu1,SeqAt.RcNeAt.int_list b t pl.isList hu1⟩
   |str b=>obtain⟨t,rfl⟩:=ru;exact⟨SeqAt.EqAt.str_list b t pl.isList hu1,SeqAt.RcAt.str_list b t pl.isList hu1,SeqAt.RcNeAt.str_list b t pl.isList hu1⟩
   |_=>exact absurd (show vG=vF from f1) zk
  ·
   obtain⟨rfl,f1⟩:=vd;obtain⟨q,vs,rfl,h2,r2⟩:=ve;cases rw';rw[hk]at h2;obtain⟨its,qv,pl,_⟩:=I.tuple h2;cases x with
   |non=>cases ru;exact⟨SeqAt.EqAt.none_tuple pl hu1,SeqAt.RcAt.none_tuple pl hu1,SeqAt.RcNeAt.none_tuple pl hu1⟩
   |bl b=>cases ru;exact⟨SeqAt.EqAt.bool_tuple b pl hu1,SeqAt.RcAt.bool_tuple b pl hu1,SeqAt.RcNeAt.bool_tuple b pl hu1⟩
   |int b=>obtain⟨t,rfl⟩:=ru;exact⟨SeqAt.EqAt.int_tuple b t pl hu1,SeqAt.RcAt.int_tuple b t pl hu1,SeqAt.RcNeAt.int_tuple b t pl hu1⟩
   |str b=>obtain⟨t,rfl⟩:=ru;exact⟨SeqAt.EqAt.str_tuple b t pl hu1,SeqAt.RcAt.str_tuple b t pl hu1,SeqAt.RcNeAt.str_tuple b t pl hu1⟩
   |_=>exact absurd (show vG=vF from f1) zk
  ·
   obtain⟨rfl,f1⟩:=ve;obtain⟨q,vs,rfl,h2,r2⟩:=vd;cases ru;rw[hk]at h2;obtain⟨its,qv,pl,_⟩:=I.list h2;cases y with
   |non=>cases rw';exact⟨SeqAt.EqAt.list_none pl.isList hu1,SeqAt.RcAt.list_none pl.isList hu1,SeqAt.RcNeAt.list_none pl.isList hu1⟩
   |bl b=>cases rw';exact⟨SeqAt.EqAt.list_bool b pl.isList hu1,SeqAt.RcAt.list_bool b pl.isList hu1,SeqAt.RcNeAt.list_bool b pl.isList hu1⟩
   |int b=>obtain⟨t,rfl⟩:=rw';exact⟨SeqAt.EqAt.list_int b t pl.isList hu1,SeqAt.RcAt.list_int b t pl.isList hu1,SeqAt.RcNeAt.list_int b t pl.isList hu1⟩
   |str b=>obtain⟨t,rfl⟩:=rw';exact⟨SeqAt.EqAt.list_str b t pl.isList hu1,SeqAt.RcAt.list_str b t pl.isList hu1,SeqAt.RcNeAt.list_str b t pl.isList hu1⟩
   |_=>exact absurd (show vG=vF from f1) zk
  ·
   obtain⟨p,vs,rfl,h1,r1⟩:=vd;obtain⟨q,vs',rfl,h2,r2⟩:=ve;cases ru;cases rw';rw[hk]at h1 h2;obtain⟨its,q1,p1,_⟩:=I.list h1;obtain⟨its',q2,p2,_⟩:=I.list h2;have sz1:its.toArray.size=vs.length:=by rw[zK];exact q1.length.symm
   have sz2:its'.toArray.size=vs'.length:=by rw[zK];exact q2.length.symm
   split at h
   ·rename_i hl;obtain⟨f,hf,hb⟩:=Qo h;have hsz:its.toArray.size=its'.toArray.size:=by rw[sz1,sz2,<-r1.length,<-r2.length];exact hl
    have he:∀j(g1:j<its.toArray.size)(g2:j<its'.toArray.size),SeqAt.EqAt A.in1 s its.toArray[j] its'.toArray[j] (f j):=λj g1 g2=>by obtain⟨d1,v1,e1,rd1,rv1⟩:=Uo r1 q1 g1;obtain⟨d2,v2,e2,rd2,rv2⟩:=Uo r2 q2 g2;exact(Pr I hk sm n hu2 rd1 rd2 rv1 rv2 (hf j d1 d2 e1 e2)).1
    have hk':k=(zV its.toArray.size).all f:=by
     rw[hb]
     congr 2
     rw[sz1,<-r1.length,hl];lia
    have rc:SeqAt.RcAt A s (.ref p) (.ref q) k:=by rw[hk'];exact SeqAt.RcAt.lists p1.isList p2.isList hsz hu1 he
    refine⟨refs (λe=>?_) rc,rc,by rw[hk'];exact SeqAt.RcNeAt.lists p1.isList p2.isList hsz hu1 he⟩;subst e;exact same rd re h0
   ·rename_i hl;have h':vG=k:=Option.some.inj h;subst h';have hsz:(its.toArray.size != its'.toArray.size)=vF:=by rw[bne_iff_ne,sz1,sz2,<-r1.length,<-r2.length];exact hl
    refine⟨refs (λe=>?_) (SeqAt.RcAt.lists_lengths p1.isList p2.isList hsz hu1),SeqAt.RcAt.lists_lengths p1.isList p2.isList hsz hu1,SeqAt.RcNeAt.lists_lengths p1.isList p2.isList hsz hu1⟩;subst e;exact same rd re h0
  ·
   obtain⟨p,vs,rfl,h1,r1⟩:=vd;obtain⟨q,vs',rfl,h2,r2⟩:=ve;cases ru;cases rw';rw[hk]at h1 h2;obtain⟨its,q1,p1,_⟩:=I.list h1;obtain⟨its',q2,p2,_⟩:=I.tuple h2;exact⟨SeqAt.EqAt.list_tuple p1.isList p2 hu1,SeqAt.RcAt.list_tuple p1.isList p2 hu1,SeqAt.RcNeAt.list_tuple p1.isList p2 hu1⟩
  ·
   obtain⟨rfl,f1⟩:=ve;obtain⟨q,vs,rfl,h2,r2⟩:=vd;cases ru;rw[hk]at h2;obtain⟨its,qv,pl,_⟩:=I.tuple h2;cases y with
   |non=>cases rw';exact⟨SeqAt.EqAt.tuple_none pl hu1,SeqAt.RcAt.tuple_none pl hu1,SeqAt.RcNeAt.tuple_none pl hu1⟩
   |bl b=>cases rw';exact⟨SeqAt.EqAt.tuple_bool b pl hu1,SeqAt.RcAt.tuple_bool b pl hu1,SeqAt.RcNeAt.tuple_bool b pl hu1⟩
   |int b=>obtain⟨t,rfl⟩:=rw';exact⟨SeqAt.EqAt.tuple_int b t pl hu1,SeqAt.RcAt.tuple_int b t pl hu1,SeqAt.RcNeAt.tuple_int b t pl hu1⟩
   |str b=>obtain⟨t,rfl⟩:=rw';exact⟨SeqAt.EqAt.tuple_str b t pl hu1,SeqAt.RcAt.tuple_str b t pl hu1,SeqAt.RcNeAt.tuple_str b t pl hu1⟩
   |_=>exact absurd (show vG=vF from f1) zk
  ·
   obtain⟨p,vs,rfl,h1,r1⟩:=vd;obtain⟨q,vs',rfl,h2,r2⟩:=ve;cases ru;cases rw';rw[hk]at h1 h2;obtain⟨its,q1,p1,_⟩:=I.tuple h1;obtain⟨its',q2,p2,_⟩:=I.list h2;exact⟨SeqAt.EqAt.tuple_list p1 p2.isList hu1,SeqAt.RcAt.tuple_list p1 p2.isList hu1,SeqAt.RcNeAt.tuple_list p1 p2.isList hu1⟩
  ·
   rename_i xs ys;obtain⟨p,vs,rfl,h1,r1⟩:=vd;obtain⟨q,vs',rfl,h2,r2⟩:=ve;cases ru;cases rw';rw[hk]at h1 h2;obtain⟨its,q1,p1,_⟩:=I.tuple h1;obtain⟨its',q2,p2,_⟩:=I.tuple h2;have sz1:its.toArray.size=xs.length:=by rw[zK,r1.length];exact q1.length.symm
   have sz2:its'.toArray.size=ys.length:=by rw[zK,r2.length];exact q2.length.symm
   split at h
   ·rename_i b hz;have h':(b&&xs.length==ys.length)=k:=Option.some.inj h;obtain⟨f,hf,hb⟩:=Qo hz;have he:∀j(g1:j<its.toArray.size)(g2:j<its'.toArray.size),SeqAt.EqAt A.in1 s its.toArray[j] its'.toArray[j] (f j):=λj g1 g2=>by obtain⟨d1,v1,e1,rd1,rv1⟩:=Uo r1 q1 g1;obtain⟨d2,v2,e2,rd2,rv2⟩:=Uo r2 q2 g2;exact(Pr I hk sm n hu2 rd1 rd2 rv1 rv2 (hf j d1 d2 e1 e2)).1
    have hk':k=((zV (min its.toArray.size its'.toArray.size)).all f&&its.toArray.size==its'.toArray.size):=by rw[<-h',hb,sz1,sz2]
    have rc:SeqAt.RcAt A s (.ref p) (.ref q) k:=by rw[hk'];exact SeqAt.RcAt.tuples p1 p2 hu1 he
    refine⟨refs (λe=>?_) rc,rc,by rw[hk'];exact SeqAt.RcNeAt.tuples p1 p2 hu1 he⟩;subst e;exact same rd re h0
   ·cases h
def Bf(d e:D)(G:DH):R D:=match eqD 30 G d e with
 |some k=>.ok (.bl k) G
 |none=>.bad
def Dw(d e:D)(G:DH):R D:=match eqD 30 G d e with
 |some k=>.ok (.bl (!k)) G
 |none=>.bad
theorem o_eq(hu:X.A.units+64<cLine):OpR X (xP .Eq) (lR2 X.K E Bf):=by
 intro vC s σ H x y v u Q I rx ry ⟨a,G,d,e,hk,hH,sm,rd,re,q⟩;subst hH;unfold Bf at q;split at q
 ·rename_i k hd;exact(Pr I hk sm 30 (by lia) rd re rx ry hd).2.1 _ _ _ _ ⟨.bl k,a.H,I,rfl,q a _ (Ext.refl a) sm rfl⟩
 ·exact q.elim
theorem o_ne(hu:X.A.units+64<cLine):OpR X (xP .NotEq) (lR2 X.K E Dw):=by
 intro vC s σ H x y v u Q I rx ry ⟨a,G,d,e,hk,hH,sm,rd,re,q⟩;subst hH;unfold Dw at q;split at q
 ·rename_i k hd;exact(Pr I hk sm 30 (by lia) rd re rx ry hd).2.2 _ _ _ _ ⟨.bl (!k),a.H,I,rfl,q a _ (Ext.refl a) sm rfl⟩
 ·exact q.elim
end
noncomputable abbrev DG:=D->DSt->DH->R DSt
def Ej(E:XK)(a:Wd)(r:R DSt)(Q:St->Hp->Prop):Prop:=match r with
 |.ok S G=>∀(b:Wd)(σ:St),Ext a b->Sim b G->RepS b S σ->Q σ b.H
 |.err x G=>XOk E a x G
 |.bad=>False
def lG(K:PySem.W.Frag)(E:XK)(t:DG):TG:=λv σ H Q=>∃(a:Wd)(S:DSt)(G:DH)(d:D),a.K=K/\a.H=H/\Sim a G/\RepS a S σ/\Rep a d v/\Ej E a (t d S G) Q
def QG(X:Cx)(E:XK)(tg:xz)(t:DG):Prop:=PG X tg (lG X.K E t)
noncomputable abbrev DGs:=List D->DSt->DH->R DSt
def lGs(K:PySem.W.Frag)(E:XK)(t:DGs):TGs:=λvs σ H Q=>∃(a:Wd)(S:DSt)(G:DH)(ds:List D),a.K=K/\a.H=H/\Sim a G/\RepS a S σ/\Reps a ds vs/\Ej E a (t ds S G) Q
def QGs(X:Cx)(E:XK)(tg:List xz)(t:DGs):Prop:=PGs X tg (lGs X.K E t)
noncomputable def gV(i:Nat):DG:=λd S G=>.ok (S.set i (vD d)) G
noncomputable def Bd:DGs:=λds S G=>match ds with
 |[]=>.ok S G
 |_=>.bad
def Af(t:DG)(u:DGs):DGs:=λds S G=>match ds with
 |d::r=>(t d S G).bind λS1 G1=>u r S1 G1
 |[]=>.bad
noncomputable def Ba(n:Nat)(t:DGs):DG:=λd S G=>match d with
 |.tup ds=>if ds.length=n then t ds S G else .bad
 |_=>.bad
theorem Ej.imp(h:Ej E a r Q)(w:∀v H,Q v H->Q' v H):Ej E a r Q':=by
 cases r with
 |ok d G=>exact λb v x s q=>w _ _ (h b v x s q)
 |err e G=>exact h
 |bad=>exact h
theorem Ej.mono(x:Ext a b)(h:Ej E a r Q):Ej E b r Q:=by
 cases r with
 |ok d G=>exact λc v y s q=>h c v (x.trans y) s q
 |err e G=>exact XOk.mono (E:=E) (e:=e) (G:=G) x h
 |bad=>exact h
theorem ZLP(h:Ej E a (r.bind f) Q):
  Ej E a r (λσ H=>∃(b:Wd)(S:DSt)(G:DH),b.H=H/\Ext a b/\Sim b G/\RepS b S σ/\r=.ok S G/\Ej E b (f S G) Q):=by
 cases r with
 |ok d G=>exact λb v x s q=>⟨b,d,G,rfl,x,s,q,rfl,Ej.mono x h⟩
 |err e G=>exact h
 |bad=>exact h
theorem ZC6(h:Ej E a (r.bind f) Q):
  out E a r (λv H=>∃(b:Wd)(d:D)(G:DH),b.H=H/\Ext a b/\Sim b G/\Rep b d v/\r=.ok d G/\Ej E b (f d G) Q):=by
 cases r with
 |ok d G=>exact λb v x s q=>⟨b,d,G,rfl,x,s,q,rfl,Ej.mono x h⟩
 |err e G=>exact h
 |bad=>exact h
theorem ZF9(h:Bm E a (r.toS f) W):
  Ej E a r (λσ H=>∃(b:Wd)(S:DSt)(G:DH),b.H=H/\Ext a b/\Sim b G/\RepS b S σ/\r=.ok S G/\Bm E b (f S G) W):=by
 cases r with
 |ok d G=>exact λb v x s q=>⟨b,d,G,rfl,x,s,q,rfl,Bm.mono x h⟩
 |err e G=>exact h
 |bad=>exact h
section
variable{X:Cx}{E:XK}
theorem _root_._L.PG.mono(h:PG X e t)(w:∀v σ H Q,t' v σ H Q->t v σ H Q):PG X e t':=λvC s σ H v u Q I r q=>h vC s σ H v u Q I r (w v σ H Q q)
theorem _root_._L.PGs.mono(h:PGs X e t)(w:∀v σ H Q,t' v σ H Q->t v σ H Q):PGs X e t':=λvC s σ H v u Q I r q=>h vC s σ H v u Q I r (w v σ H Q q)
theorem ZP7(i:Nat){x:Str}{pos:Pos}(hN:X.N.Nodup)(hi:X.N[i]?=vD x:=by rfl)(hx:Loc X.env.scope x:=by first|exact Or.inl rfl|exact Or.inr rfl)
  (hf:X.fn x=vF∨X.env.scope.names.lookup x=vD .local:=by first|exact .inl rfl|exact .inr rfl|assumption):QG X E (.Name x pos) (gV i):=
 (ZOe hN hi hx hf).mono λv σ H Q h=>by obtain⟨a,S,G,d,hk,rfl,s,r,q,h⟩:=h;exact h a _ (Ext.refl a) s (r.set i q)
theorem ZKl:QGs X E [] Bd:=ZLW.mono λvs σ H Q h=>by
 obtain⟨a,S,G,ds,hk,rfl,s,r,q,h⟩:=h;cases ds with
 |nil=>exact⟨q,h a σ (Ext.refl a) s r⟩
 |cons d ds=>exact h.elim
theorem ZJ3(h1:QG X E e t)(h2:QGs X E es u)
  (hs:(xE (e::es) X.env).map (·.2)=assign e X.env::(xE es X.env).map (·.2):=by rfl):QGs X E (e::es) (Af t u):=(ZKX h1 h2 hs).mono λvs σ H Q h=>by
 obtain⟨a,S,G,ds,hk,rfl,s,r,q,h⟩:=h;cases ds with
 |nil=>exact h.elim
 |cons d ds=>
  obtain⟨v,rest,e1,q1,q2⟩:=q;refine⟨v,rest,e1,a,S,G,d,hk,rfl,s,r,q1,(ZLP h).imp ?_⟩;rintro σ' _ ⟨b,S1,G1,rfl,x,s1,r1,_,h1⟩;exact⟨b,S1,G1,ds,x.k.trans hk,rfl,s1,r1,q2.mono x,h1⟩
theorem ZLh{es:List xz}{k:Nat}{t:DGs}{n:Nat}{pos:Pos}(hc:X.calm=vF)(h:QGs X E es t)
  (hn:(xE es X.env).length=n:=by rfl) (hst:(xE es X.env).findIdx? (·.1)=vE:=by rfl):QG X E (.Tuple es k pos) (Ba n t):=(ZJ8 hc h hn hst).mono λv σ H Q h=>by
 obtain⟨a,S,G,d,hk,rfl,s,r,q,h⟩:=h;cases d with
 |tup ds=>
  obtain⟨p,vs,e,h1,r1⟩:=q;unfold Ba at h;dsimp only at h;split at h
  ·rename_i hl;exact⟨p,vs,e,by rw[<-hk];exact h1,by rw[<-r1.length];exact hl,a,S,G,ds,hk,rfl,s,r,r1,h⟩
  ·exact h.elim
 |_=>exact h.elim
def J0(o i v:D)(G:DH):R D:=match o,i with
 | .ref p,.int k=>match G[p]? with
  |some (.lst xs)=>match ixN xs.length k with
   |some j=>.ok .non (G.set p (.lst (xs.set j v)))
   |none=>.bad
  |_=>.bad
 |_,_=>.bad
def gIx(to ti:DE):DG:=λv S G=>(to S G).bind λo G1=>(ti S G1).bind λi G2=>(J0 o i v G2).bind λ_ G3=>.ok S G3
theorem U9(s:Sim a G)(hi:i<a.n)(h:a.H (a.m i)=vD (.lst vs))(r:Reps a ds' vs'):
  Ext a (a.put (a.m i) (.lst vs'))/\Sim (a.put (a.m i) (.lst vs')) (G.set i (.lst ds')):=⟨Ext.wr h,s.wr hi h (r.mono (Ext.wr h))⟩
theorem ZRf(ho:QE X E o to)(hi:QE X E i ti)
  (ha:∀v,assign (.Subscript o i pos) X.env v=(do
   let ov<-holding [v] (eval o X.env);let iv<-holding [v,ov] (eval i X.env)
   standAt pos
   holding [v,ov,iv] (setItem ov iv v)
   release [v,ov,iv] []):=by intro _;rfl):QG X E (.Subscript o i pos) (gIx to ti):=(ZKf ho hi set_list ha).mono λv σ H Q h=>by
 obtain⟨a,S,G,d,hk,rfl,s,r,q,h⟩:=h;refine⟨a,S,G,hk,rfl,s,r,(ZC6 h).imp ?_⟩;rintro ov _ ⟨b,e,G1,rfl,x,s1,q1,_,h1⟩;refine⟨b,S,G1,x.k.trans hk,rfl,s1,r.mono x,(ZC6 h1).imp ?_⟩;rintro iv _ ⟨c,f,G2,rfl,y,s2,q2,_,h2⟩;cases e with
 | ref p=>
  cases f with
  | int k=>
   unfold J0 at h2;dsimp only at h2;split at h2
   ·rename_i xs hx;split at h2
    ·rename_i j hj;obtain⟨vs,e1,r1⟩:=s2.lst hx;have q1':=q1.mono y;have rv:=(q.mono x).mono y;obtain⟨x3,s3⟩:=U9 s2 q1'.1 e1 (r1.set rv j);refine⟨c.m p,vs,k,j,q1'.2,q2,e1,by rw[<-r1.length];exact hj,?_⟩;exact h2 _ σ x3 s3 (((r.mono x).mono y).mono x3)
    ·exact h2.elim
   ·exact h2.elim
  |_=>exact h2.elim
 |_=>exact h2.elim
variable{st:xB}{rest:List xB}{t u:DS}{e:xz}{te:DE}{pos:Pos}
noncomputable def sNx:DS:=λS G=>.nx S G
noncomputable def Ad(t u:DS):DS:=λS G=>match t S G with
 |.nx S1 G1=>u S1 G1
 |r=>r
def sEx(te:DE):DS:=λS G=>(te S G).toS λ_ G1=>.nx S G1
def sRt(te:DE):DS:=λS G=>(te S G).toS λd G1=>.rt d G1
def sIf(c:DB)(t u:DS):DS:=λS G=>(c S G).toS λk G1=>if k=vF then t S G1 else u S G1
def sAs(te:DE)(g:DG):DS:=λS G=>(te S G).toS λd G1=>(g d S G1).toS λS2 G2=>.nx S2 G2
def sAu(i:Nat)(te:DE)(f:D->D->DH->R D):DS:=λS G=>match S[i]? with
 |some (vD x)=>(te S G).toS λy G1=>(f x y G1).toS λz G2=>.nx (S.set i (vD z)) G2
 |_=>.bad
theorem R8:QSs X E [] sNx:=ZMD.mono λW σ H h=>by obtain⟨a,S,G,hk,rfl,s,r,h⟩:=h;exact h a σ (Ext.refl a) s r
theorem Bm.nxOf{E:XK}{a:Wd}{t u:DS}{S:DSt}{G:DH}{K:PySem.W.Frag}(hk:a.K=K){W:Ends}(h:Bm E a (Ad t u S G) W):Bm E a (t S G) {W with nx:=lS K E u W}:=by
 unfold Ad at h
 revert h
 cases t S G<;>intro h
 ·exact λb σ x s r=>⟨b,_,_,x.k.trans hk,rfl,s,r,Bm.mono x h⟩
 all_goals exact h
theorem Ck(h1:QS X E st t)(h2:QSs X E rest u):QSs X E (st::rest) (Ad t u):=(ZEo h1 h2).mono λW σ H h=>by obtain⟨a,S,G,hk,rfl,s,r,h⟩:=h;exact⟨a,S,G,hk,rfl,s,r,h.nxOf hk⟩
theorem H8(h1:QS X E st t):QSs X E [st] t:=ZFP h1
theorem ZLn(he:QE X E e te)(hs:swapsWith e vE pos.line X.env=pure vG:=by rfl):QS X E (.Expr e pos) (sEx te):=(ZDl he hs).mono λW σ H h=>by obtain⟨a,S,G,hk,rfl,s,r,h⟩:=h;refine⟨a,S,G,hk,rfl,s,r,(G7 h).imp ?_⟩;rintro v _ ⟨b,d,G1,rfl,x,s1,q,_,h1⟩;exact h1 b σ (Ext.refl b) s1 (r.mono x)
theorem ZAp(he:QE X E e te):QS X E (.Return (vD e) pos) (sRt te):=(ZM9 he).mono λW σ H h=>by obtain⟨a,S,G,hk,rfl,s,r,h⟩:=h;refine⟨a,S,G,hk,rfl,s,r,(G7 h).imp ?_⟩;rintro v _ ⟨b,d,G1,rfl,x,s1,q,_,h1⟩;exact h1 b v (Ext.refl b) s1 q
theorem Rw(hc:QT X E c tc)(ha:QSs X E a t)(hb:QSs X E b u):QS X E (.If c a b pos) (sIf tc t u):=(ZKg hc ha hb).mono λW σ H h=>by
 obtain⟨a,S,G,hk,rfl,s,r,h⟩:=h;refine⟨a,S,G,hk,rfl,s,r,(ZH4 h).imp ?_⟩;rintro k _ ⟨b,G1,rfl,x,s1,_,h1⟩;cases k with
 |true=>exact⟨b,S,G1,x.k.trans hk,rfl,s1,r.mono x,h1⟩
 |false=>exact⟨b,S,G1,x.k.trans hk,rfl,s1,r.mono x,h1⟩
theorem ZPu{K:PySem.W.Frag}{g:DG}{W:Ends}{σ:St}{H:Hp}(h:lS K E (sAs te g) W σ H):Zm (lE K E te) (lG K E g) W σ H:=by obtain⟨a,S,G,hk,rfl,s,r,h⟩:=h;refine⟨a,S,G,hk,rfl,s,r,(G7 h).imp ?_⟩;rintro v _ ⟨b,d,G1,rfl,x,s1,q,_,h1⟩;refine⟨b,S,G1,d,x.k.trans hk,rfl,s1,r.mono x,q,(ZF9 h1).imp ?_⟩;rintro σ' _ ⟨c,S2,G2,rfl,y,s2,r2,_,h2⟩;exact h2 c σ' (Ext.refl c) s2 r2
theorem ZIj(he:QE X E e te)(hg:QG X E tg g)(hs:swapsWithSole [tg] e pos.line X.env=pure vG:=by rfl)(hw:swappedStores [tg] e X.env=pure vE:=by rfl)
  (h1:(xE [tg] X.env).map (·.2)=[assign tg X.env]:=by rfl):QS X E (.Assign [tg] e pos) (sAs te g):=(ZSU he hg hs hw h1).mono λ_ _ _ h=>ZPu h
theorem Uv(i:Nat){x:Str}{pos':Pos}(hN:X.N.Nodup)(he:QE X E e te)(hi:X.N[i]?=vD x:=by rfl)(hx:Loc X.env.scope x:=by first|exact Or.inl rfl|exact Or.inr rfl)(hs:swapsWith e (vD (.Name x pos')) pos.line X.env=pure vG:=by rfl)
  (hf:X.fn x=vF∨X.env.scope.names.lookup x=vD .local:=by first|exact .inl rfl|exact .inr rfl|assumption):QS X E (.Assign [.Name x pos'] e pos) (sAs te (gV i)):=
 (ZMF hN hi hx he hs hf).mono λW σ H h=>by obtain⟨a,S,G,hk,rfl,s,r,h⟩:=h;refine⟨a,S,G,hk,rfl,s,r,(G7 h).imp ?_⟩;rintro v _ ⟨b,d,G1,rfl,x,s1,q,_,h1⟩;exact h1 b _ (Ext.refl b) s1 ((r.mono x).set i q)
theorem ZL5(i:Nat){x:Str}{op:Operator}{f:D->D->DH->R D}{pos':Pos}(hN:X.N.Nodup)(he:QE X E e te)(ho:OpR X (inplaceOp op) (lR2 X.K E f))(hi:X.N[i]?=vD x:=by rfl)(hx:Loc X.env.scope x:=by first|exact Or.inl rfl|exact Or.inr rfl)
  (hf:X.fn x=vF∨X.env.scope.names.lookup x=vD .local:=by first|exact .inl rfl|exact .inr rfl|assumption):QS X E (.AugAssign (.Name x pos') op e pos) (sAu i te f):=
 (ZJ5 (ti:=lR2 X.K E f) hN hi hx he ho hf).mono λW σ H h=>by
  obtain⟨a,S,G,hk,rfl,s,r,h⟩:=h;unfold sAu at h;split at h
  ·rename_i d hd;obtain⟨v,e1,q⟩:=r.get i d hd;refine⟨v,e1,a,S,G,hk,rfl,s,r,(G7 h).imp ?_⟩;rintro w _ ⟨b,d1,G1,rfl,x,s1,q1,_,h1⟩;refine⟨b,G1,d,d1,x.k.trans hk,rfl,s1,q.mono x,q1,(G7 h1).imp ?_⟩;rintro z _ ⟨c,d2,G2,rfl,y,s2,q2,_,h2⟩;exact h2 c _ (Ext.refl c) s2 (((r.mono x).mono y).set i q2)
  ·exact h.elim
def Jb:D->D->DH->R D
 |.int i,.int j,G=>.ok (.int (i+j)) G
 |.str i,.str j,G=>if i.length+j.length<=1000000 then .ok (.str (i++j)) G else .bad
 |_,_,_=>.bad
theorem ZKt:OpR X (inplaceOp .Add) (lR2 X.K E Jb):=Fq (OpR.or (r:=ipI λi j=>i+j) ZIh ZJz) λa G d e x y Q hk s rd re q=>by
 cases d<;>cases e<;>first
  |exact q.elim
  |exact .inl ⟨_,_,rd,re,q a _ (Ext.refl a) s rfl⟩
  | (
    unfold Jb at q;dsimp only at q;split at q
    ·rename_i hl;exact .inr ⟨_,_,rd,re,z5 hl size6,q a _ (Ext.refl a) s rfl⟩
    ·exact q.elim)
theorem ZLb:OpR X (inplaceOp .Sub) (lR2 X.K E Do):=Fq (r:=ipI λi j=>i-j) ZQw λa G d e x y Q hk s rd re q=>by
 cases d<;>cases e<;>first
  |exact q.elim
  |exact⟨_,_,rd,re,q a _ (Ext.refl a) s rfl⟩
end
noncomputable def aft(r:SR)(k:DSt->DH->SR):SR:=match r with
 |.nx S G=>k S G
 |.ct S G=>k S G
 |.bk S G=>.nx S G
 |r=>r
def Av(g:DG)(b:DS):List D->DS
 |[],S,G=>.nx S G
 |x::xs,S,G=>(g x S G).toS λS1 G1=>aft (b S1 G1) (Av g b xs)
def forM(i:Nat)(g:DG)(b:DS):Nat->Nat->DS
 |0,j,S,G=>match G[i]? with
  |some (.lst xs)=>if xs.length<=j then .nx S G else .bad
  |_=>.bad
 | k+1,j,S,G=>match G[i]? with
  |some (.lst xs)=>match xs[j]? with
   |some x=>(g x S G).toS λS1 G1=>aft (b S1 G1) (forM i g b k (j+1))
   |none=>.nx S G
  |_=>.bad
def Cy(f:Nat->DH->Option (Option D))(g:DG)(b:DS):Nat->Nat->DS
 |0,j,S,G=>match f j G with
  |some vE=>.nx S G
  |_=>.bad
 |k+1,j,S,G=>match f j G with
  |some (vD x)=>(g x S G).toS λS1 G1=>aft (b S1 G1) (Cy f g b k (j+1))
  |some vE=>.nx S G
  |none=>.bad
inductive ItD where
 |pure (xs:List D)
 |mt (i:Nat)
 |fn (n:Nat) (f:Nat->DH->Option (Option D))
noncomputable abbrev DI:=DSt->DH->R ItD
def Ci(it:DI)(g:DG)(b:DS):DS:=λS G=>(it S G).toS λJ G1=>match J with
 |.pure xs=>Av g b xs S G1
 |.mt i=>match G1[i]? with
  |some (.lst xs)=>forM i g b xs.length 0 S G1
  |_=>.bad
 |.fn n f=>Cy f g b n 0 S G1
def RepI(a:Wd):ItD->It->Prop
 |.pure xs,J=>∃vs:List V,Reps a xs vs/\∀b:Wd,Ext a b->∀i,(∀v,vs[i]?=vD v->J.go i b.H/\∀x H',J.yld i b.H x H'->x=v/\H'=b.H)/\(vs.length<=i->J.stop i b.H)
 |.mt k,J=>k<a.n/\∀b:Wd,Ext a b->∀vs,b.H (b.m k)=vD (.lst vs)->∀i,(∀v,vs[i]?=vD v->J.go i b.H/\∀x H',J.yld i b.H x H'->x=v/\H'=b.H)/\(vs.length<=i->J.stop i b.H)
 |.fn _ f,J=>∀b:Wd,Ext a b->∀G,Sim b G->∀i,(∀d,f i G=vD (vD d)->J.go i b.H/\∀x H',J.yld i b.H x H'->∃c:Wd,c.H=H'/\Ext b c/\Sim c G/\Rep c d x)/\(f i G=vD vE->J.stop i b.H)
def outI(E:XK)(a:Wd)(r:R ItD)(Q:It->Hp->Prop):Prop:=match r with
 |.ok J G=>∀(b:Wd)(JJ:It),Ext a b->Sim b G->RepI b J JJ->Q JJ b.H
 |.err x G=>XOk E a x G
 |.bad=>False
def lI(K:PySem.W.Frag)(E:XK)(t:DI):TI:=λσ H Q=>∃(a:Wd)(S:DSt)(G:DH),a.K=K/\a.H=H/\Sim a G/\RepS a S σ/\outI E a (t S G) Q
def QI(X:Cx)(E:XK)(tg iter:xz)(t:DI):Prop:=PI X tg iter (lI X.K E t)
theorem outI.imp(h:outI E a r Q)(w:∀v H,Q v H->Q' v H):outI E a r Q':=by
 cases r with
 |ok d G=>exact λb v x s q=>w _ _ (h b v x s q)
 |err e G=>exact h
 |bad=>exact h
theorem ZKv(h:Bm E a (r.toS f) W):
  outI E a r (λJ H=>∃(b:Wd)(d:ItD)(G:DH),b.H=H/\Ext a b/\Sim b G/\RepI b d J/\r=.ok d G/\Bm E b (f d G) W):=by
 cases r with
 |ok d G=>exact λb v x s q=>⟨b,d,G,rfl,x,s,q,rfl,Bm.mono x h⟩
 |err e G=>exact h
 |bad=>exact h
theorem ZDj (h:Bm E a (aft r k) W):
  Bm E a r {W with
            nx:=λσ H=>∃(b:Wd)(S:DSt)(G:DH),b.H=H/\Ext a b/\Sim b G/\RepS b S σ/\Bm E b (k S G) W,
            ct:=λσ H=>∃(b:Wd)(S:DSt)(G:DH),b.H=H/\Ext a b/\Sim b G/\RepS b S σ/\Bm E b (k S G) W,bk:=W.nx}:=by
 cases r with
 |nx S G=>exact λb σ x s q=>⟨b,S,G,rfl,x,s,q,Bm.mono x h⟩
 |ct S G=>exact λb σ x s q=>⟨b,S,G,rfl,x,s,q,Bm.mono x h⟩
 |bk S G=>exact h
 |rt d G=>exact h
 |err x G=>exact h
 |bad=>exact h
noncomputable def mtF(i j:Nat)(G:DH):Option (Option D):=match G[i]? with
 |some (.lst xs)=>vD xs[j]?
 |_=>vE
theorem ZEi(r:RepI a (.pure xs) J):RepI a (.fn n λj _=>vD xs[j]?) J:=by
 obtain⟨vs,rv,h⟩:=r;refine λb x G sm i=>⟨λd e=>?_,λe=>?_⟩
 ·obtain⟨v,ev,q⟩:=rv.get (Option.some.inj e);obtain⟨h1,h2⟩:=(h b x i).1 v ev;refine⟨h1,λy H' hy=>?_⟩;obtain⟨rfl,rfl⟩:=h2 y H' hy;exact⟨b,rfl,Ext.refl b,sm,q.mono x⟩
 ·exact(h b x i).2 (by rw[<-rv.length];exact qU.mp (Option.some.inj e))
theorem ZGO(r:RepI a (.mt k) J):RepI a (.fn n (mtF k)) J:=by
 obtain⟨hk,h⟩:=r;refine λb x G sm i=>?_
 unfold mtF;cases hG:G[k]? with
 |none=>exact⟨λd e=>(by cases e),λe=>(by cases e)⟩
 | some o=>
  cases o with
  |lst xs=>
   obtain⟨vs,e1,rv⟩:=sm.lst hG;refine⟨λd e=>?_,λe=>?_⟩
   ·obtain⟨v,ev,q⟩:=rv.get (Option.some.inj e);obtain⟨h1,h2⟩:=(h b x vs e1 i).1 v ev;refine⟨h1,λy H' hy=>?_⟩;obtain⟨rfl,rfl⟩:=h2 y H' hy;exact⟨b,rfl,Ext.refl b,sm,q⟩
   ·exact(h b x vs e1 i).2 (by rw[<-rv.length];exact qU.mp (Option.some.inj e))
  |_=>exact⟨λd e=>(by cases e),λe=>(by cases e)⟩
theorem ZEj{g:DG}{b:DS}{xs:List D}:∀(n j:Nat),j+n=xs.length->Av g b (xs.drop j)=Cy (λj _=>vD xs[j]?) g b n j
 |0,j,h=>by
  funext S G;rw[zU (by lia)]
  show SR.nx S G=(match vD xs[j]? with |some vE=>SR.nx S G|_=>.bad)
  rw[zA (by lia)]
 |n+1,j,h=>by
  funext S G;have hj:j<xs.length:=by lia
  rw[zO hj]
  show(g xs[j] S G).toS (λS1 G1=>aft (b S1 G1) (Av g b (xs.drop (j+1))))=(match vD xs[j]? with |some (vD x)=>(g x S G).toS (λS1 G1=>aft (b S1 G1) (Cy (λj _=>vD xs[j]?) g b n (j+1)))|some vE=>SR.nx S G|none=>.bad)
  rw[zZ hj,ZEj n (j+1) (by lia)]
theorem ZG6:∀(n j:Nat),forM i g b n j=Cy (mtF i) g b n j
 | 0,j=>by
  funext S G;unfold forM Cy mtF;cases G[i]? with
  |none=>rfl
  | some o=>
   cases o with
   |lst xs=>
    dsimp only;by_cases hj:j<xs.length
    ·rw[if_neg (by lia),zZ hj]
    ·rw[if_pos (by lia),zA (by lia)]
   |_=>rfl
 | n+1,j=>by
  funext S G;unfold forM Cy;rw[ZG6 n (j+1)];unfold mtF;cases G[i]? with
  |none=>rfl
  | some o=>
   cases o with
   |lst xs=>
    dsimp only
    cases xs[j]?<;>rfl
   |_=>rfl
section
variable{X:Cx}{E:XK}{tg iter:xz}{pos:Pos}
theorem ZLS{K:PySem.W.Frag}{it:DI}{g:DG}{b:DS}{W:Ends}{σ:St}{H:Hp}(h:lS K E (Ci it g b) W σ H):tFor (lI K E it) (lG K E g) (lS K E b) W σ H:=by
 obtain⟨a,S,G,hk,rfl,s,r,h⟩:=h;refine⟨a,S,G,hk,rfl,s,r,(ZKv h).imp ?_⟩;rintro J _ ⟨a1,d,G1,rfl,x1,s1,q1,_,h1⟩;have k1:a1.K=K:=x1.k.trans hk
 suffices fnc:∃n f,RepI a1 (.fn n f) J/\Bm E a1 (Cy f g b n 0 S G1) W by
  obtain⟨n,f,q1,h1⟩:=fnc;have walk:∀b:Wd,Ext a1 b->∀G,Sim b G->∀i,(∀d,f i G=vD (vD d)->J.go i b.H/\∀x H',J.yld i b.H x H'->∃c:Wd,c.H=H'/\Ext b c/\Sim c G/\Rep c d x)/\(f i G=vD vE->J.stop i b.H):=q1;refine⟨λi m σ H=>∃(c:Wd)(S:DSt)(G:DH),c.H=H/\Ext a1 c/\Sim c G/\RepS c S σ/\Bm E c (Cy f g b m i S G) W,⟨_,a1,S,G1,rfl,Ext.refl _,s1,r.mono x1,h1⟩,?_⟩;rintro i m σ2 _ ⟨c,S2,G2,rfl,x2,s2,r2,h2⟩
  cases m with
  |zero=>
   unfold Cy at h2;split at h2
   ·rename_i hf;exact .inl ⟨(walk c x2 G2 s2 i).2 hf,h2 c σ2 (Ext.refl c) s2 r2⟩
   ·exact h2.elim
  | succ m=>
   unfold Cy at h2;split at h2
   ·rename_i d hf;obtain⟨go,yl⟩:=(walk c x2 G2 s2 i).1 d hf;refine .inr ⟨go,λσ' H'=>∃(c:Wd)(S:DSt)(G:DH),c.H=H'/\Ext a1 c/\Sim c G/\RepS c S σ'/\Bm E c (Cy f g b m (i+1) S G) W,λσ' H' z=>⟨m,qY _,z⟩,λw H' y=>?_⟩;obtain⟨cc,rfl,xx,ss,rd⟩:=yl w H' y;refine⟨cc,S2,G2,d,xx.k.trans (x2.k.trans k1),rfl,ss,r2.mono xx,rd,(ZF9 (Bm.mono xx h2)).imp ?_⟩;rintro σ3 _ ⟨c3,S3,G3,rfl,x3,s3,r3,_,h3⟩
    have fin:=ZDj h3;refine⟨c3,S3,G3,x3.k.trans (xx.k.trans (x2.k.trans k1)),rfl,s3,r3,?_⟩
    revert fin
    cases b S3 G3 with
    | nx S4 G4=>
      intro fin c4 σ4 x4 s4 q4;obtain⟨c5,S5,G5,hh,x5,s5,r5,h5⟩:=fin c4 σ4 x4 s4 q4;exact⟨c5,S5,G5,hh,x2.trans (xx.trans (x3.trans x5)),s5,r5,h5⟩
    | ct S4 G4=>
      intro fin c4 σ4 x4 s4 q4;obtain⟨c5,S5,G5,hh,x5,s5,r5,h5⟩:=fin c4 σ4 x4 s4 q4;exact⟨c5,S5,G5,hh,x2.trans (xx.trans (x3.trans x5)),s5,r5,h5⟩
    |bk S4 G4=>exact λfin=>fin
    |rt S4 G4=>exact λfin=>fin
    |err S4 G4=>exact λfin=>fin
    |bad=>exact λfin=>fin
   ·rename_i hf;exact .inl ⟨(walk c x2 G2 s2 i).2 hf,h2 c σ2 (Ext.refl c) s2 r2⟩
   ·exact h2.elim
 cases d with
 |pure xs=>
  have h1':Bm E a1 (Av g b (xs.drop 0) S G1) W:=h1;rw[ZEj xs.length 0 (by lia)]at h1';exact⟨_,_,ZEi q1,h1'⟩
 |mt k=>
  dsimp only at h1;split at h1
  ·rw[ZG6]at h1;exact⟨_,_,ZGO q1,h1⟩
  ·exact h1.elim
 |fn n f=>exact⟨n,f,q1,h1⟩
theorem ZGu(hp:PassesOwn (vQ X.prog X.w) X.A X.env X.xe)(hc:X.calm=vF)(hi:QI X E tg iter it)(hg:QG X E tg g)(hb:QSs X E body b)
  (hs:∀x,foldedSetIterable iter X.env x=pure x:=by intro _;rfl):QS X E (.For tg iter body [] pos) (Ci it g b):=(ZRF hp hc hi hg hb hs).mono λ_ _ _ h=>ZLS h
theorem _root_._L.PI.mono(h:PI X tg iter t)(w:∀σ H Q,t' σ H Q->t σ H Q):PI X tg iter t':=λvC s σ H Q I q=>h vC s σ H Q I (w σ H Q q)
noncomputable def sgn(c:Nat):D:=.str ⟨#[c]⟩
def signs(x:Str):List D:=x.cps.toList.map sgn
noncomputable def Its(x:Str):It:=⟨λi _=>i<x.cps.size,λi H v H'=>H'=H/\∃c,x.cps[i]?=vD c/\v=.str ⟨#[c]⟩,λi _=>x.cps.size<=i⟩
theorem ZLG{P:xy}{w:xD}{K:PySem.W.Frag}{tg:xz}(it:xY)(x:Str)(t:Tok):Turn P w K tg (Its x) [it] it (λi h=>h.IsStrIter it "str_ascii_iterator" x t i) where
 mem:=by simp
 obj:=λi h st b hb=>by
  have e:b=it:=by simpa using hb
  subst e;obtain⟨o,e,c,d⟩:=st;exact⟨o,e,λv z=>by rw[d]at z;cases z⟩
 keep:=λi h h' st k=>let⟨o,ho,r⟩:=st;⟨o,k it (by simp) o ho,r⟩
 item:=by
  intro X hP hw hK hc i vC s σ H E I hf st hg;subst hP hw hK;obtain⟨f0,f1,f2,f3,f4,f5⟩:=hf it (by simp);have hi:i<x.cps.size:=hg;refine wpAny_pyNext_ascii_item st (c:=x.cps[i]) (by simp[hi]) λh' st' sb=>?_
  have I1:Inv X vC σ H {s with heap:=h',toks:=s.toks+1}:=I.turned (λb o hb e=>(sb.2 b hb).trans e) f0 f1 f3 f4 f5;obtain⟨o,e,c,d⟩:=id st';exact⟨_,rfl,Ly (s:={s with heap:=h',toks:=s.toks+1}) e c d (by decide) ⟨.str ⟨#[x.cps[i]]⟩,H,I1,⟨_,rfl⟩,⟨rfl,_,by simp[hi],rfl⟩,st',λb hb=>(hf b hb).1⟩⟩
 done:=by intro X hP hw hK hc i vC s σ H E I hf st hg;subst hP hw hK;obtain⟨f0,f1,f2,f3,f4,f5⟩:=hf it (by simp);have hi:x.cps.size<=i:=hg;exact wpAny_pyNext_ascii_end (I.ok.hd hc) st (by simp[hi]) λh' eb=>⟨rfl,I.turned (t':=s.toks) (λb o hb e=>eb b o hb e) f0 f1 f3 f4 f5⟩
 self:=λ_ _ _ _ _ st h=>wpAny_pyIter_striter_ascii st h
theorem ZJd{P:xy}{w:xD}{K:PySem.W.Frag}{tg:xz}(it:xY)(x:Str)(t:Tok):Turn P w K tg (Its x) [it] it (λi h=>h.IsStrIter it "str_iterator" x t i) where
 mem:=by simp
 obj:=λi h st b hb=>by
  have e:b=it:=by simpa using hb
  subst e;obtain⟨o,e,c,d⟩:=st;exact⟨o,e,λv z=>by rw[d]at z;cases z⟩
 keep:=λi h h' st k=>let⟨o,ho,r⟩:=st;⟨o,k it (by simp) o ho,r⟩
 item:=by
  intro X hP hw hK hc i vC s σ H E I hf st hg;subst hP hw hK;obtain⟨f0,f1,f2,f3,f4,f5⟩:=hf it (by simp);have hi:i<x.cps.size:=hg;refine wpAny_pyNext_wide_item st (c:=x.cps[i]) (by simp[hi]) λh' st' sb=>?_
  have I1:Inv X vC σ H {s with heap:=h',toks:=s.toks+1}:=I.turned (λb o hb e=>(sb.2 b hb).trans e) f0 f1 f3 f4 f5;obtain⟨o,e,c,d⟩:=id st';exact⟨_,rfl,Ly (s:={s with heap:=h',toks:=s.toks+1}) e c d (by decide) ⟨.str ⟨#[x.cps[i]]⟩,H,I1,⟨_,rfl⟩,⟨rfl,_,by simp[hi],rfl⟩,st',λb hb=>(hf b hb).1⟩⟩
 done:=by intro X hP hw hK hc i vC s σ H E I hf st hg;subst hP hw hK;obtain⟨f0,f1,f2,f3,f4,f5⟩:=hf it (by simp);have hi:x.cps.size<=i:=hg;exact wpAny_pyNext_wide_end (I.ok.hd hc) st (by simp[hi]) λh' eb=>⟨rfl,I.turned (t':=s.toks) (λb o hb e=>eb b o hb e) f0 f1 f3 f4 f5⟩
 self:=λ_ _ _ _ _ st h=>wpAny_pyIter_striter_wide st h
def iStr(tl:TE):TI:=λσ H R=>tl σ H λx H1=>∃z,x=.str z/\R (Its z) H1
theorem ZLs{l:xz}{tl:TE}(hl:PE X l tl):PI X tg l (iStr tl):=by
 intro vC s σ H R I h;refine thn (hl vC s σ H _ I h) λv s1 ⟨x,H1,I1,r1,q1⟩=>?_
 obtain⟨z,e,q⟩:=q1;subst e;obtain⟨t,rfl⟩:=r1;have fp:∀b∈[s1.heap.objs.size],FpOk X vC H1 b:=λb hb=>by
  have e:b=s1.heap.objs.size:=by simpa using hb
  subst e;exact I1.Ha (zY _) (I1.hok.fresh (zY _))
 cases ha:z.cps.all (· < 128)
 ·refine wpAny_pyIter_wide ha ?_;exact⟨s1.heap.objs.size,[s1.heap.objs.size],_,_,H1,rfl,I1.kept (t':=s1.toks) λb o e=>zQ _ e,ZJd _ z t,⟨_,zy _ rfl,rfl,rfl⟩,fp,q⟩
 ·refine wpAny_pyIter_ascii ha ?_;exact⟨s1.heap.objs.size,[s1.heap.objs.size],_,_,H1,rfl,I1.kept (t':=s1.toks) λb o e=>zQ _ e,ZLG _ z t,⟨_,zy _ rfl,rfl,rfl⟩,fp,q⟩
theorem Reps.signs(x:Str):Reps a (signs x) (x.cps.toList.map λc=>V.str ⟨#[c]⟩):=by
 unfold _D.signs
 induction x.cps.toList with
 |nil=>exact rfl
 |cons c r ih=>exact⟨_,_,rfl,rfl,ih⟩
def Ec:D->DH->R ItD
 |.tup xs,G=>.ok (.pure xs) G
 |.str x,G=>.ok (.pure (signs x)) G
 |.fl xs,G=>.ok (.pure xs) G
 |.ref i,G=>match G[i]? with
  |some (.lst _)=>.ok (.mt i) G
  |_=>.bad
 |_,_=>.bad
def Ds(te:DE):DI:=λS G=>(te S G).bind Ec
theorem ZLk(he:QE X E iter te):QI X E tg iter (Ds te):=by
 intro vC s σ H R I h;obtain⟨a,S,G,hk,rfl,sm,r,h⟩:=h;cases ht:te S G with
 |bad=>
  have h':outI E a ((te S G).bind Ec) R:=h;rw[ht]at h';exact h'.elim
 |err e G1=>
  have h':outI E a ((te S G).bind Ec) R:=h;rw[ht]at h';refine Xj (tg:=tg) he vC s σ a.H R I ⟨a,S,G,hk,rfl,sm,r,?_⟩;rw[ht];exact h'
 | ok d G1=>
  have h':outI E a ((te S G).bind Ec) R:=h;rw[ht]at h';cases d with
  |tup xs=>
   refine ZM0 (tg:=tg) he vC s σ a.H R I ⟨a,S,G,hk,rfl,sm,r,?_⟩;rw[ht];rintro b v x sb ⟨p,vs,rfl,hq,rv⟩;have hq':SqT X.K b.H p vs:=by rw[<-hk,<-x.k];exact hq
   refine⟨p,rfl,⟨vs,hq'⟩,h' b _ x sb ⟨vs,rv,λc y i=>⟨λv hv=>⟨⟨vs,v,?_,hv⟩,λw H' z=>?_⟩,λhl=>⟨vs,?_,hl⟩⟩⟩⟩
   ·have:=y.sqT hq;rw[y.k,x.k,hk]at this;exact this
   ·have:=y.sqT hq;rw[y.k,x.k,hk]at this;exact⟨Option.some.inj ((z.2 vs this).symm.trans hv),z.1⟩
   ·have:=y.sqT hq;rw[y.k,x.k,hk]at this;exact this
  |fl xs=>
   refine Xj (tg:=tg) he vC s σ a.H R I ⟨a,S,G,hk,rfl,sm,r,?_⟩;rw[ht];rintro b v x sb ⟨p,vs,rfl,hq,rv⟩;have hq':SqL X.K b.H p vs:=by rw[<-hk,<-x.k];exact hq.sq
   refine⟨p,rfl,⟨vs,hq'⟩,h' b _ x sb ⟨vs,rv,λc y i=>⟨λv hv=>⟨⟨vs,v,?_,hv⟩,λw H' z=>?_⟩,λhl=>⟨vs,?_,hl⟩⟩⟩⟩
   ·have:=(y.fzL hq).sq;rw[y.k,x.k,hk]at this;exact this
   ·have:=(y.fzL hq).sq;rw[y.k,x.k,hk]at this;exact⟨Option.some.inj ((z.2 vs this).symm.trans hv),z.1⟩
   ·have:=(y.fzL hq).sq;rw[y.k,x.k,hk]at this;exact this
  |ref k=>
   have h2:outI E a (Ec (.ref k) G1) R:=h';unfold Ec at h2;dsimp only at h2;split at h2
   ·rename_i xs hx;refine Xj (tg:=tg) he vC s σ a.H R I ⟨a,S,G,hk,rfl,sm,r,?_⟩;rw[ht];rintro b v x sb ⟨hkn,rfl⟩;obtain⟨vs,hx,_⟩:=sb.lst hx;refine⟨b.m k,rfl,⟨vs,.of hx⟩,h2 b _ x sb ⟨hkn,λc y us hu i=>?_⟩⟩;rw[y.m k hkn]at hu;exact⟨λv hv=>⟨⟨us,v,.of hu,hv⟩,λw H' z=>⟨Option.some.inj ((z.2 us (.of hu)).symm.trans hv),z.1⟩⟩,λhl=>⟨us,.of hu,hl⟩⟩
   ·exact h2.elim
  | str z=>
   refine ZLs (tg:=tg) he vC s σ a.H R I ⟨a,S,G,hk,rfl,sm,r,?_⟩;rw[ht];intro b v x sb rv
   cases(show v=V.str z from rv)
   refine⟨z,rfl,h' b _ x sb ⟨_,Reps.signs z,λc y i=>⟨λv hv=>?_,λhl=>?_⟩⟩⟩
   ·rw[zw,zM]at hv;obtain⟨k,hk1,rfl⟩:=hv;have hk2:z.cps[i]?=vD k:=by rw[<-jQ];exact hk1
    refine⟨(qz.mp hk2).1,λw H' q=>?_⟩;obtain⟨e1,k',e2,e3⟩:=q;rw[hk2]at e2;cases e2;exact⟨e3,e1⟩
   ·rw[qW,qD]at hl;exact hl
  |_=>exact h'.elim
end
noncomputable def Bk(lo:Int)(n:Nat):List D:=(zV n).map λ(k:Nat)=>D.int (lo+(k:Int))
def inR(j:Int):Prop:= -(2^62)<=j/\j<2^62
noncomputable instance (j:Int):Decidable (inR j):=by unfold inR;infer_instance
def rng1(ds:List D)(G:DH):R ItD:=match ds with
 |[.int j]=>if inR j then .ok (.pure (Bk 0 j.toNat)) G else .bad
 |_=>.bad
def Br(f:List D->DH->R ItD)(ta:DA):DI:=λS G=>(ta S G).bind f
def sWh(c:DB)(b:DS):Nat->DS
 |0,_,_=>.bad
 |n+1,S,G=>(c S G).toS λk G1=>if k=vF then aft (b S G1) (sWh c b n)else .nx S G1
def Ao(np nl:Nat)(b:DS):List D->DH->R D:=λds G=>if ds.length=np then tidy G (match b (ds.map vD++zX nl vE) G with
 |.nx _ G'=>.ok .non G'
 |.rt d G'=>.ok d G'
 |.err x G'=>.err x G'
 |_=>.bad)else .bad
theorem outI.mono(x:Ext a b)(h:outI E a r Q):outI E b r Q:=by
 cases r with
 |ok d G=>exact λc v y s q=>h c v (x.trans y) s q
 |err e G=>exact XOk.mono (E:=E) (e:=e) (G:=G) x h
 |bad=>exact h
theorem Nq(h:outI E a (r.bind f) Q):
  Ew E a r (λvs H=>∃(b:Wd)(ds:List D)(G:DH),b.H=H/\Ext a b/\Sim b G/\Reps b ds vs/\r=.ok ds G/\outI E b (f ds G) Q):=by
 cases r with
 |ok d G=>exact λb v x s q=>⟨b,d,G,rfl,x,s,q,rfl,outI.mono x h⟩
 |err e G=>exact h
 |bad=>exact h
section
variable{X:Cx}{E:XK}{tg iter:xz}{pos:Pos}
theorem ZKa(lo:Int)(n:Nat):RepI a (.pure (Bk lo n)) (Itr lo n):=by
 refine⟨(zV n).map λ(k:Nat)=>V.int (lo+(k:Int)),?_,λb x i=>⟨λv hv=>?_,λhl=>?_⟩⟩
 ·unfold Bk;generalize zV n=l
  induction l with
  |nil=>exact rfl
  |cons k l ih=>exact⟨_,_,rfl,rfl,ih⟩
 ·rw[zw]at hv;by_cases hi:i<n
  ·rw[zN hi]at hv;have hv':V.int (lo+(i:Int))=v:=by simpa using hv
   exact⟨hi,λw H' y=>⟨y.2.trans hv',y.1⟩⟩
  ·rw[zA (by simpa using hi)]at hv;cases hv
 ·show n<=i;simpa using hl
theorem ZKG{p pos:Pos}(hg:Gl X "range")(hm:X.mg "range"=vE)(ha:QA X E [e] ta)(hs:vV [e] X.env=[(vG,eval e X.env)]:=by rfl):QI X E tg (.Call (.Name "range" p) [e] [] pos) (Br rng1 ta):=
 (ZQo hg hm ha hs).mono λσ H Q h=>by
  obtain⟨a,S,G,hk,rfl,s,r,h⟩:=h;refine⟨a,S,G,hk,rfl,s,r,(Nq h).imp ?_⟩;rintro vs _ ⟨b,ds,G1,rfl,x,s1,q,-,h1⟩;unfold rng1 at h1;split at h1
  ·rename_i j;split at h1
   ·rename_i hj;obtain⟨v,r,e1,q1,q2⟩:=q
    cases(show v=V.int j from q1)
    cases(show r=[]from q2)
    exact⟨j,e1,hj.1,hj.2,h1 b _ (Ext.refl b) s1 (ZKa 0 j.toNat)⟩
   ·exact h1.elim
  ·exact h1.elim
theorem ZFy(n:Nat)(hp:PassesOwn (vQ X.prog X.w) X.A X.env X.xe)(hc:QT X E c tc)(hb:QSs X E body tb):QS X E (.While c body [] pos) (sWh tc tb n):=(ZKD hp hc hb).mono λW σ H h=>by
 obtain⟨a,S,G,hk,rfl,s,r,h⟩:=h;refine⟨λm σ H=>∃(b:Wd)(S:DSt)(G:DH),b.H=H/\Ext a b/\Sim b G/\RepS b S σ/\Bm E b (sWh tc tb m S G) W,⟨n,a,S,G,rfl,Ext.refl a,s,r,h⟩,?_⟩;rintro m σ2 _ ⟨b,S2,G2,rfl,x2,s2,r2,h2⟩;cases m with
 |zero=>exact h2.elim
 | succ m=>
  refine⟨b,S2,G2,x2.k.trans hk,rfl,s2,r2,(ZH4 h2).imp ?_⟩;rintro k _ ⟨c3,G3,rfl,x3,s3,_,h3⟩;cases k with
  |false=>exact h3 c3 σ2 (Ext.refl c3) s3 (r2.mono x3)
  | true=>
   refine⟨λσ' H'=>∃(b:Wd)(S:DSt)(G:DH),b.H=H'/\Ext a b/\Sim b G/\RepS b S σ'/\Bm E b (sWh tc tb m S G) W,λσ' H' z=>⟨m,qY _,z⟩,c3,S2,G3,x3.k.trans (x2.k.trans hk),rfl,s3,r2.mono x3,?_⟩;have fin:=ZDj h3
   revert fin
   cases tb S2 G3 with
   |nx S4 G4=>
    intro fin c4 σ4 x4 s4 q4;obtain⟨c5,S5,G5,hh,x5,s5,r5,h5⟩:=fin c4 σ4 x4 s4 q4;exact⟨c5,S5,G5,hh,x2.trans (x3.trans x5),s5,r5,h5⟩
   |ct S4 G4=>
    intro fin c4 σ4 x4 s4 q4;obtain⟨c5,S5,G5,hh,x5,s5,r5,h5⟩:=fin c4 σ4 x4 s4 q4;exact⟨c5,S5,G5,hh,x2.trans (x3.trans x5),s5,r5,h5⟩
   |bk S4 G4=>exact λfin=>fin
   |rt S4 G4=>exact λfin=>fin
   |err S4 G4=>exact λfin=>fin
   |bad=>exact λfin=>fin
end
theorem Uc(r:Reps a ds vs)(n m:Nat)(h:n=m):RepS a (ds.map vD++zX n vE) (vs.map vD++zX m vE):=by
 subst h;refine⟨by simp[r.length],λi d hd=>?_⟩;by_cases hi:i<ds.length
 ·rw[qZ (by simpa using hi),zw]at hd;cases e:ds[i]? with
  |none=>rw[e]at hd;cases hd
  |some d'=>
   rw[e]at hd;have hd':d'=d:=by simpa using hd
   subst hd';obtain⟨v,ev,q⟩:=r.get e;exact⟨v,by rw[qZ (by rw[qW,<-r.length];exact hi),zw,ev];rfl,q⟩
 ·rw[zL (by simpa using hi),jW]at hd
  split at hd<;>cases hd
theorem Oi{P:xy}{w:xD}{K:PySem.W.Frag}{mg:Str->Option xC}{base:Heap}{x qual:Str}{st:xB}{f:xY}{fd:xj}{N ps:List Str}{k:Nat}{b:DS}(F:Fun K x qual st f fd)(S:FnScope N ps (Ag st))
  (hbody:∀(cdv:xC)(A:xq)(outer:List Env)(s:xA)(H:Hp)(E:XK),Room k (A.deeper (envOfC qual (Ag st) s.heap.objs.size f cdv))->QSs (El CX0 P w K mg base N qual (Ag st) f cdv A outer s H E).nox E0 (Cp st) b):
  FnOk P w K mg base CX0 (k+1) f fd ps (lF K (Ao ps.length (N.length-ps.length) b)):=by
 have hlen:∀vs H Q E,lF K (Ao ps.length (N.length-ps.length) b) vs H Q E->vs.length=ps.length:=λvs H Q E h=>by
  obtain⟨a,G,ds,hk,rfl,sm,r,h⟩:=h;unfold Ao at h;split at h
  ·rename_i hl;rw[<-r.length];exact hl
  ·exact h.elim
 refine F.ok S hlen (λcdv A outer s H vs Q E hr h=>?_);refine⟨lS K E0 b,hbody cdv A outer s H E hr,?_⟩;have hl:=hlen vs H Q E h;obtain⟨a,G,ds,hk,rfl,sm,r,h⟩:=h;unfold Ao at h;split at h
 ·have h2:=Pb sm h;refine⟨a,ds.map vD++zX (N.length-ps.length) vE,G,hk,rfl,sm,Uc r _ _ (by rw[hl]),?_⟩
  revert h2
  cases b (ds.map vD++zX (N.length-ps.length) vE) G with
  |nx S1 G1=>exact λh2 c σ x s1 _=>h2 c .non x s1 rfl
  |rt d G1=>exact λh2=>h2
  |err e G1=>exact λh2=>h2
  |bk S1 G1=>exact λh2=>h2.elim
  |ct S1 G1=>exact λh2=>h2.elim
  |bad=>exact λh2=>h2
 ·exact h.elim
theorem J7(s:Sim a G)(r:Rep a d x)(h:Bc d G=vD xs):∃p vs,x=.ref p/\(SqL a.K a.H p vs∨SqT a.K a.H p vs)/\Reps a xs vs:=by
 cases d with
 |tup ys=>
  have e:ys=xs:=Option.some.inj h;subst e;obtain⟨p,vs,e,q,rr⟩:=r;exact⟨p,vs,e,.inr q,rr⟩
 |fl ys=>
  have e:ys=xs:=Option.some.inj h;subst e;obtain⟨p,vs,e,q,rr⟩:=r;exact⟨p,vs,e,.inl q.sq,rr⟩
 |ref i=>
  unfold Bc at h;dsimp only at h;split at h
  ·rename_i ys hi;have e:ys=xs:=Option.some.inj h;subst e;obtain⟨vs,e1,r1⟩:=s.lst hi;exact⟨a.m i,vs,r.2,.inl (.of e1),r1⟩
  ·cases h
 |_=>cases h
def Ae (d e:D) (G:DH):R D:=match e with
 | .int i=>match d with
  | .str z=>if z.length<=1000000 then(match atI z.cps.toList i with
    |some c=>.ok (.str ⟨#[c]⟩) G
    |none=>.bad)else .bad
  | d=>match Bc d G with
   |some xs=>match atI xs i with
    |some v=>.ok v G
    |none=>.bad
   |none=>.bad
 |_=>.bad
theorem ZHN(r:Reps a xs vs)(h:atI xs i=vD d):∃v,atI vs i=vD v/\Rep a d v:=by
 unfold atI at h⊢;rw[<-r.length];cases e:ixN xs.length i with
 |none=>rw[e]at h;cases h
 |some j=>
  rw[e]at h
  obtain⟨v,ev,q⟩:=r.get (show xs[j]?=vD d from h)
  exact⟨v,ev,q⟩
section
variable{X:Cx}{E:XK}
theorem _root_._L.IxR.mono(h:IxR X r)(w:∀x y H Q,r' x y H Q->r x y H Q):IxR X r':=λvalue slice vC s σ H x y v u Q I rx ry q hs=>h value slice vC s σ H x y v u Q I rx ry (w _ _ _ _ q) hs
theorem _root_._L.CallR.mono(h:CallR X f r)(w:∀xs H Q,r' xs H Q->r xs H Q):CallR X f r':=λvC s σ H xs us Q I rs q=>h vC s σ H xs us Q I rs (w _ _ _ q)
theorem _root_._L.MtM.mono{id:String}{r r':V->List V->Hp->VK->Prop}(h:MtM X id r)(w:∀x xs H Q,r' x xs H Q->r x xs H Q):MtM X id r':=λvC s σ H x xs v us Q I rx rs q=>h vC s σ H x xs v us Q I rx rs (w _ _ _ _ q)
theorem ZAw:IxR X (lR2 X.K E Ae):=ZJI.mono λx y H Q h=>by
 obtain⟨a,G,d,e,hk,rfl,s,rd,re,q⟩:=h;cases e with
 | int i=>
  have fin:∀{xs:List D},Bc d G=vD xs->out E a (match atI xs i with |some v=>.ok v G|none=>.bad) Q->rIx X.K x y a.H Q:=λ{xs}hs q=>by
   obtain⟨p,vs,e1,h1,r1⟩:=J7 s rd hs;rw[hk]at h1;split at q
   ·rename_i v hv;obtain⟨u,hu,ru⟩:=ZHN r1 hv;have z:=q a u (Ext.refl a) s ru;rcases h1 with h1|h1
    ·exact .inl ⟨p,vs,i,u,e1,re,h1,hu,z⟩
    ·exact .inr (.inl ⟨p,vs,i,u,e1,re,h1,hu,z⟩)
   ·exact q.elim
  have fin':out E a (match Bc d G with |some xs=>(match atI xs i with |some v=>.ok v G|none=>.bad)|none=>.bad) Q->rIx X.K x y a.H Q:=λq=>by
   cases hs:Bc d G with
   |none=>rw[hs]at q;exact q.elim
   |some xs=>rw[hs]at q;exact fin hs q
  cases d with
  | str z=>
   unfold Ae at q;dsimp only at q;split at q
   ·rename_i hl;split at q
    ·rename_i c hc;exact .inr (.inr ⟨z,i,c,rd,re,z5 hl size6,hc,q a _ (Ext.refl a) s rfl⟩)
    ·exact q.elim
   ·exact q.elim
  |tup ys=>exact fin' q
  |fl ys=>exact fin' q
  |ref j=>exact fin' q
  |_=>exact fin' q
 |_=>exact q.elim
def Bp(ds:List D)(G:DH):R D:=match ds with
 |[.str z]=>if z.length<=1000000 then .ok (.int z.length) G else .bad
 |[d]=>match Bc d G with
  |some xs=>.ok (.int xs.length) G
  |none=>.bad
 |_=>.bad
theorem reps1(r:Reps a [d] vs):∃v,vs=[v]/\Rep a d v:=by
 obtain⟨v,r',e,q,z⟩:=r
 cases(show r'=[]from z)
 exact⟨v,e,q⟩
theorem reps2(r:Reps a [d,d'] vs):∃v v',vs=[v,v']/\Rep a d v/\Rep a d' v':=by obtain⟨v,r',e,q,z⟩:=r;obtain⟨v',e',q'⟩:=reps1 z;subst e';exact⟨v,v',e,q,q'⟩
theorem ZLY:CallR X (.builtin "len") (lRn X.K E Bp):=(ZOH.or ZJv).mono λvs H Q h=>by
 obtain⟨a,G,ds,hk,rfl,s,r,q⟩:=h;unfold Bp at q;split at q
 ·rename_i z;split at q
  ·rename_i hl;obtain⟨v,rfl,rv⟩:=reps1 r
   cases(show v=V.str z from rv)
   exact .inr ⟨z,rfl,z5 hl size6,q a _ (Ext.refl a) s rfl⟩
  ·exact q.elim
 ·rename_i d _;split at q
  ·rename_i xs hs;obtain⟨v,rfl,rv⟩:=reps1 r;obtain⟨p,us,rfl,h1,r1⟩:=J7 s rv hs;rw[hk]at h1;exact .inl ⟨p,us,rfl,h1,q a _ (Ext.refl a) s (by rw[<-r1.length];exact rfl)⟩
  ·exact q.elim
 ·exact q.elim
def Ek(ds:List D)(G:DH):R D:=match ds with
 |[d]=>match Bc d G with
  |some xs=>.ok (.tup xs) G
  |none=>.bad
 |_=>.bad
theorem ZRV:CallR X (.type "tuple") (lRn X.K E Ek):=ZRi.mono λvs H Q h=>by
 obtain⟨a,G,ds,hk,rfl,s,r,q⟩:=h;unfold Ek at q;split at q
 ·rename_i d;split at q
  ·rename_i xs hs;obtain⟨v,rfl,rv⟩:=reps1 r;obtain⟨p,us,rfl,h1,r1⟩:=J7 s rv hs;refine⟨p,us,rfl,?_⟩;rcases h1 with h1|h1
   ·exact .inl ⟨by rw[<-hk];exact h1,λl hl=>Vg s r1 q l hl⟩
   ·exact .inr ⟨by rw[<-hk];exact h1,q a _ (Ext.refl a) s ⟨p,us,rfl,h1,r1⟩⟩
  ·exact q.elim
 ·exact q.elim
def Jq(ds:List D)(G:DH):R D:=match ds with
 |[.str z]=>if z.length<=1000000 then .ok (.ref G.length) (G++[.lst (signs z)])else .bad
 |[d]=>match Bc d G with
  |some xs=>.ok (.ref G.length) (G++[.lst xs])
  |none=>.bad
 |_=>.bad
theorem X8:∀{vs:List V}{us:List xC},vs.length=us.length->(∀(i:Nat)(v:V)(u:xC),vs[i]?=vD v->us[i]?=vD u->RelV v u)->Vals vs us
 |[],[],_,_=>.nil
 |[],_::_,h,_=>by cases h
 |_::_,[],h,_=>by cases h
 |v::vs,u::us,h,f=>.cons (f 0 v u rfl rfl) (X8 (by simpa using h) λi v' u' h1 h2=>f (i+1) v' u' (by simpa using h1) (by simpa using h2))
theorem ZMk(hc:X.calm=vF):CallR X (.type "list") (λxs H Q=>∃z:Str,xs=[.str z]/\z.length<=sizeLine/\∀l,H l=vE->Q (.ref l) (upd H l (.lst (z.cps.toList.map λc=>V.str ⟨#[c]⟩)))):=by
 intro vC s σ H xs us Q I r h;obtain⟨z,rfl,hz,q⟩:=h;obtain⟨u,rfl,t,rfl⟩:=vals1 r;refine PySem.call_list_str (I.ok.hd hc) z t (λh' tk acc c hk hS hacc=>?_) hz;have hn:H s.heap.objs.size=vE:=I.hok.fresh (zY _);refine⟨.ref s.heap.objs.size,upd H s.heap.objs.size (.lst (z.cps.toList.map λc=>V.str ⟨#[c]⟩)),I.laid (t':=tk) (h':=h') hk (zY _) ?_,rfl,q _ hn⟩;refine⟨by rw[qW,qD];exact hz,acc.toList,c,X8 ?_ λi v u h1 h2=>?_,by simpa using hS⟩
 ·rw[qW,qD,qD];exact hacc.1.symm
 ·rw[zw,zM]at h1;obtain⟨k,e1,rfl⟩:=h1;obtain⟨k',t',e2,rfl⟩:=hacc.2 i u (by rw[<-jQ];exact h2);rw[jQ,e2]at e1;cases e1;exact⟨t',rfl⟩
theorem ZSK(hc:X.calm=vF):CallR X (.type "list") (lRn X.K E Jq):=(ZRc.or (ZMk hc)).mono λvs H Q h=>by
 obtain⟨a,G,ds,hk,rfl,s,r,q⟩:=h;unfold Jq at q;split at q
 ·rename_i z;split at q
  ·rename_i hl;obtain⟨v,rfl,rv⟩:=reps1 r
   cases(show v=V.str z from rv)
   exact .inr ⟨z,rfl,z5 hl size6,λl hl=>Jh s (Reps.signs z) q l hl⟩
  ·exact q.elim
 ·rename_i d _;split at q
  ·rename_i xs hs;obtain⟨v,rfl,rv⟩:=reps1 r;obtain⟨p,us,rfl,h1,r1⟩:=J7 s rv hs;exact .inl ⟨p,us,rfl,by rw[<-hk];exact h1,λl hl=>Jh s r1 q l hl⟩
  ·exact q.elim
 ·exact q.elim
noncomputable def Q8(ds:List D)(G:DH):R D:=match ds with
 |[.int i,.int j]=>.ok (.int (if j>i then j else i)) G
 |_=>.bad
noncomputable def Im(ds:List D)(G:DH):R D:=match ds with
 |[.int i,.int j]=>.ok (.int (if j<i then j else i)) G
 |_=>.bad
theorem ZP6(hc:X.calm=vF):CallR X (.builtin "max") (lRn X.K E Q8):=(ZKL hc).mono λvs H Q h=>by
 obtain⟨a,G,ds,hk,rfl,s,r,q⟩:=h;unfold Q8 at q;split at q
 ·obtain⟨v,v',rfl,h1,h2⟩:=reps2 r
  cases(show v=V.int _ from h1)
  cases(show v'=V.int _ from h2)
  exact⟨_,_,rfl,q a _ (Ext.refl a) s rfl⟩
 ·exact q.elim
theorem ZRm(hc:X.calm=vF):CallR X (.builtin "min") (lRn X.K E Im):=(ZNs hc).mono λvs H Q h=>by
 obtain⟨a,G,ds,hk,rfl,s,r,q⟩:=h;unfold Im at q;split at q
 ·obtain⟨v,v',rfl,h1,h2⟩:=reps2 r
  cases(show v=V.int _ from h1)
  cases(show v'=V.int _ from h2)
  exact⟨_,_,rfl,q a _ (Ext.refl a) s rfl⟩
 ·exact q.elim
noncomputable def Kg(ds:List D)(G:DH):R D:=match ds with
 |[.int i]=>.ok (.int i) G
 |[.bl k]=>.ok (.int (if k then 1 else 0)) G
 |_=>.bad
theorem Vt:CallR X (.type "int") (lRn X.K E Kg):=ZRB.mono λvs H Q h=>by
 obtain⟨a,G,ds,hk,rfl,s,r,q⟩:=h;unfold Kg at q;split at q
 ·obtain⟨v,rfl,h1⟩:=reps1 r
  cases(show v=V.int _ from h1)
  exact .inl ⟨_,rfl,q a _ (Ext.refl a) s rfl⟩
 ·obtain⟨v,rfl,h1⟩:=reps1 r
  cases(show v=V.bl _ from h1)
  exact .inr ⟨_,rfl,q a _ (Ext.refl a) s rfl⟩
 ·exact q.elim
noncomputable def Dl(o:D)(ds:List D)(G:DH):R D:=match o,ds with
 |.ref i,[d]=>match G[i]? with
  |some (.lst xs)=>if xs.length<1000000 then .ok .non (G.set i (.lst (xs++[d])))else .bad
  |_=>.bad
 |_,_=>.bad
def lRm(K:PySem.W.Frag)(E:XK)(f:D->List D->DH->R D):V->List V->Hp->VK->Prop:=λx xs H Q=>∃(a:Wd)(G:DH)(d:D)(ds:List D),a.K=K/\a.H=H/\Sim a G/\Rep a d x/\Reps a ds xs/\out E a (f d ds G) Q
theorem Sim.isList(s:Sim a G)(h:G[i]?=vD (.lst xs)):∃vs,SqL a.K a.H (a.m i) vs:=let⟨vs,e,_⟩:=s.lst h;⟨vs,.of e⟩
theorem ZKA:MtM X "list.append" (lRm X.K E Dl):=ZRv.mono λx xs H Q h=>by
 obtain⟨a,G,d,ds,hk,rfl,s,rd,r,q⟩:=h;unfold Dl at q;split at q
 ·rename_i i d;obtain⟨v,rfl,rv⟩:=reps1 r;split at q
  ·rename_i ys hy;split at q
   ·rename_i hl;obtain⟨vs,e1,r1⟩:=s.lst hy;obtain⟨x3,s3⟩:=U9 s rd.1 e1 (r1.append (Reps.cons rv Reps.nil));refine⟨a.m i,vs,v,rd.2,rfl,e1,by rw[<-r1.length];exact zq hl size6,?_⟩;exact q _ .non x3 s3 rfl
   ·exact q.elim
  ·exact q.elim
 ·exact q.elim
variable{o e:xz}{es:List xz}{to:DE}{t:DA}{name:Str}{apos cpos:Pos}{T id:String}{f:D->List D->DH->R D}
noncomputable def isL(d:D)(G:DH):Bool:=match d with
 |.ref i=>match G[i]? with
  |some (.lst _)=>vF
  |_=>vG
 |.fl _=>vF
 |_=>vG
def De(f:D->List D->DH->R D)(o:DE)(t:DA):DE:=λS G=>(o S G).bind λx G1=>if isL x G1=vF then(t S G1).bind λxs G2=>f x xs G2 else .bad
theorem ZQt(s:Sim a G)(r:Rep a d x)(h:isL d G=vF):tyV a.K "list" x a.H:=by
 cases d with
 |ref i=>
  unfold isL at h;dsimp only at h;split at h
  ·rename_i xs hx;cases r.2;exact .inl ⟨rfl,s.isList hx⟩
  ·cases h
 |fl xs=>
  obtain⟨p,vs,rfl,q,_⟩:=r;exact .inl ⟨rfl,vs,q.sq⟩
 |_=>cases h
theorem ZOI(slot:Slot "list" name id)(hty:typeOf (.builtin id)=pure (.type "method_descriptor"))(hm:MtM X id (lRm X.K E f))(ho:QE X E o to)(ha:QA X E (e::es) t)
  (hbase:xF o name X.env (eval o X.env)=eval o X.env:=by rfl)
  (hfew:((xG cpos (vV (e::es) X.env)).all (λx=> !x.1)&&(xH cpos (xS [] X.env)).all (λx=>x.1.isSome)
   && decide ((e::es).length+([]:List Keyword).length+(if([]:List Keyword).isEmpty then 0 else 1)<30))=vF:=by rfl)
  (hline:(apos.endLine==cpos.line)=vF:=by rfl) (hs:vV (e::es) X.env=(vG,eval e X.env)::vV es X.env:=by rfl) (hplain:(xG cpos (vV es X.env)).any (·.1)=vG:=by rfl):
  QE X E (.Call (.Attribute o name apos) (e::es) [] cpos) (De f to t):=(ZI4 PySem.F.plainAttrs_list slot hty hm ho ha hbase hfew hline hs hplain).mono λσ H Q h=>by
 obtain⟨a,S,G,hk,rfl,s,r,h⟩:=h;refine⟨a,S,G,hk,rfl,s,r,(Dq h).imp ?_⟩;rintro v _ ⟨b,d,G1,rfl,x,s1,q,-,h1⟩;split at h1
 ·rename_i hl;have ty:=ZQt s1 q hl;rw[x.k,hk]at ty;refine⟨ty,b,S,G1,x.k.trans hk,rfl,s1,r.mono x,(Jx h1).imp ?_⟩;rintro vs _ ⟨c,ds,G2,rfl,y,s2,q2,-,h2⟩;exact⟨c,G2,d,ds,y.k.trans (x.k.trans hk),rfl,s2,q.mono y,q2,h2⟩
 ·exact h1.elim
end
inductive Ty where|non|bl|int|str|tup|lst
noncomputable def Ty.name:Ty->String
 |.non=>"NoneType" | .bl=>"bool" | .int=>"int" | .str=>"str" | .tup=>"tuple" | .lst=>"list"
def tyD(G:DH):D->Option Ty
 |.non=>vD .non
 |.bl _=>vD .bl
 |.int _=>vD .int
 |.str _=>vD .str
 |.tup _=>vD .tup
 |.fl _=>vD .lst
 |.ref i=>match G[i]? with
  |some (.lst _)=>vD .lst
  |_=>vE
 |.ty _=>vE
noncomputable def Ty.sub(t:Ty):String->Option Bool
 |"int"=>vD (match t with | .int=>vF | .bl=>vF|_=>vG)
 |"bool"=>vD (match t with | .bl=>vF|_=>vG)
 |"str"=>vD (match t with | .str=>vF|_=>vG)
 |"tuple"=>vD (match t with | .tup=>vF|_=>vG)
 |"list"=>vD (match t with | .lst=>vF|_=>vG)
 |_=>vE
def Dz(ds:List D)(G:DH):R D:=match ds with
 | [d,.ty T]=>match tyD G d with
  |some t=>match t.sub T with
   |some k=>.ok (.bl k) G
   |none=>.bad
  |none=>.bad
 |_=>.bad
theorem ZNu{K:PySem.W.Frag}{t:Ty}{T:String}{k:Bool}(h:t.sub T=vD k):PySem.W.kitOne K (.type t.name) (.type T)=vD k:=by
 unfold Ty.sub at h;split at h
 iterate 5 (cases t<;>cases h<;>rfl)
 cases h
section
variable{X:Cx}{E:XK}
theorem ZOK:CallR X (.builtin "isinstance") (lRn X.K E Dz):=by
 intro vC s σ H vs us Q I rs h;obtain⟨a,G,ds,hk,rfl,sm,r,q⟩:=h;unfold Dz at q;split at q
 ·rename_i d T;obtain⟨v,v',rfl,h1,h2⟩:=reps2 r
  cases(show v'=V.ty T from h2)
  obtain⟨u,u',rfl,ru,ru'⟩:∃u u',us=[u,u']/\RelV v u/\RelV (.ty T) u':=by
   cases rs with
   |cons p q=>cases q with
    |cons p' q'=>cases q';exact⟨_,_,rfl,p,p'⟩
  cases(show u'=Value.type T from ru')
  split at q
  ·rename_i t ht;split at q
   ·rename_i k hk';have fin:∀tk:Nat,EP X vC σ Q (.bool k) {s with toks:=tk}:=λtk=>⟨.bl k,a.H,I.tok _,rfl,q a _ (Ext.refl a) sm rfl⟩
    have e:=ZNu (K:=X.K) hk';clear q hk' r;have L:∀(p:xY)(ws:List V),SqL X.K a.H p ws->u=.ref p->t=.lst->vK (vQ X.prog X.w) X.A (call (.builtin "isinstance") [u,.type T]) (EP X vC σ Q) X.xe s:=λp ws hq eu et=>by
     subst eu et;obtain⟨its,_,pl,_⟩:=I.list hq
     exact PySem.W.kia_one PySem.W.kitx_list I.kIn (let⟨o,e,c,_⟩:=pl.isList;⟨o,e,c⟩) e (λz=>nomatch z) fin
    cases d with
    |non=>cases ht;cases(show v=_ from h1);cases ru;exact PySem.W.kia_one PySem.W.kitx_none I.kIn True.intro e (λz=>nomatch z) fin
    |bl b=>cases ht;cases(show v=_ from h1);cases ru;exact PySem.W.kia_one PySem.W.kitx_bool I.kIn True.intro e (λz=>nomatch z) fin
    |int b=>cases ht;cases(show v=_ from h1);obtain⟨tk,rfl⟩:=ru;exact PySem.W.kia_one PySem.W.kitx_int I.kIn True.intro e (λz=>nomatch z) fin
    |str b=>cases ht;cases(show v=_ from h1);obtain⟨tk,rfl⟩:=ru;exact PySem.W.kia_one PySem.W.kitx_str I.kIn True.intro e (λz=>nomatch z) fin
    |tup b=>
     cases ht;obtain⟨p,ws,rfl,hq,_⟩:=h1;cases ru;rw[hk]at hq;obtain⟨its,_,pl,_⟩:=I.tuple hq
     exact PySem.W.kia_one PySem.W.kitx_tuple I.kIn (let⟨o,e,c,_⟩:=pl;⟨o,e,c⟩) e (λz=>nomatch z) fin
    |fl b=>
     cases ht;obtain⟨p,ws,rfl,hq,_⟩:=h1;exact L p ws (hk▸hq.sq) ru rfl
    |ref b=>
     unfold tyD at ht;dsimp only at ht;split at ht
     ·rename_i xs hx;cases ht;obtain⟨ws,e1,_⟩:=sm.lst hx;cases h1.2;exact L _ ws (.of e1) ru rfl
     ·cases ht
    |ty n=>cases ht
   ·exact q.elim
  ·exact q.elim
 ·exact q.elim
end
noncomputable def Fd:List D->Option (List Int)
 |[]=>vD []
 |.int i::r=>(Fd r).map (i::·)
 |_=>vE
noncomputable def Fy:List D->Option (List Bool)
 |[]=>vD []
 |.bl i::r=>(Fy r).map (i::·)
 |_=>vE
@[simp]theorem ZAm(ns:List Int):Fd (ns.map D.int)=vD ns:=by
 induction ns with
 |nil=>rfl
 |cons n ns ih=>simp[Fd,ih]
@[simp]theorem ZTH(ns:List Bool):Fy (ns.map D.bl)=vD ns:=by
 induction ns with
 |nil=>rfl
 |cons n ns ih=>simp[Fy,ih]
theorem R0:∀{xs:List D}{ns:List Int},Fd xs=vD ns->xs=ns.map D.int
 |[],ns,h=>by cases h;rfl
 |.int i::r,ns,h=>by simp only[Fd,zM]at h;obtain⟨ms,h1,rfl⟩:=h;rw[zE,R0 h1]
 |.non::r,ns,h=>by simp[Fd]at h
 |.bl _::r,ns,h=>by simp[Fd]at h
 |.str _::r,ns,h=>by simp[Fd]at h
 |.ty _::r,ns,h=>by simp[Fd]at h
 |.tup _::r,ns,h=>by simp[Fd]at h
 |.fl _::r,ns,h=>by simp[Fd]at h
 |.ref _::r,ns,h=>by simp[Fd]at h
theorem ZDq:∀{xs:List D}{ns:List Bool},Fy xs=vD ns->xs=ns.map D.bl
 |[],ns,h=>by cases h;rfl
 |.bl i::r,ns,h=>by simp only[Fy,zM]at h;obtain⟨ms,h1,rfl⟩:=h;rw[zE,ZDq h1]
 |.non::r,ns,h=>by simp[Fy]at h
 |.int _::r,ns,h=>by simp[Fy]at h
 |.str _::r,ns,h=>by simp[Fy]at h
 |.ty _::r,ns,h=>by simp[Fy]at h
 |.tup _::r,ns,h=>by simp[Fy]at h
 |.fl _::r,ns,h=>by simp[Fy]at h
 |.ref _::r,ns,h=>by simp[Fy]at h
def Ky(ds:List D)(G:DH):R D:=match ds with
 | [d]=>match Bc d G with
  |some xs=>match Fy xs with
   |some ns=>.ok (.bl (ns.all id)) G
   |none=>.bad
  |none=>.bad
 |_=>.bad
section
variable{X:Cx}{E:XK}{vC:List (xY×Obj)}{σ:St}{s:xA}{H:Hp}
theorem ZBo(I:Inv X vC σ H s)(hc:X.calm=vF)(h:SqL X.K H p vs∨SqT X.K H p vs)
  (hQ:∀(it:xY)(fp wr:List xY)(its:List xC)(St:Nat->Heap->Prop)(s₂:xA),Vals vs its->Walks X.prog X.w X.A.in1 it fp wr its.toArray.size (λi v=>its.toArray[i]?=vD v) St->St 0 s₂.heap->(∀b∈fp,b<s₂.heap.objs.size)->
   (∀h' tk,(∀b o,b∉wr->s₂.heap.get? b=vD o->h'.get? b=vD o)->Inv X vC σ H {s₂ with heap:=h',toks:=tk})->Q (.ref it) s₂):
  vK (vQ X.prog X.w) X.A.in1 (pyIter (.ref p)) Q E' s:=by
 have hh:X.A.in1.handled=vE:=I.ok.hd hc;rcases h with h|h
 ·obtain⟨its,r,pl,hz⟩:=I.list h;refine wpAny_pyIter_list pl.isList ?_;have hp:p<s.heap.objs.size:=by obtain⟨o,e,_⟩:=pl.isList;exact zj e
  refine hQ _ _ _ its _ _ r (Walks.list hh _ p (zC hp) its.toArray) ⟨⟨_,zy _ rfl,rfl,rfl⟩,?_⟩ (λb hb=>?_) λh' tk kk=>?_
  ·obtain⟨o,e,c⟩:=pl.isList;exact⟨o,zQ _ e,c⟩
  ·show b<(s.heap.push _).objs.size;rw[q9];rcases zx.mp hb with rfl|hb
   ·exact qY _
   ·have e:b=p:=by simpa using hb
    subst e;exact qR hp
  ·refine I.kept λb o e=>kk b o (λhb=>?_) (zQ _ e)
   have e2:b=s.heap.objs.size:=by simpa using hb
   subst e2;exact absurd (zj e) (qQ _)
 ·obtain⟨its,r,pl,hz⟩:=I.tuple h
  refine wpAny_pyIter_tuple (show s.heap.IsTuple p its.toArray from pl) ?_
  have hp:p<s.heap.objs.size:=by obtain⟨o,e,_⟩:=pl;exact zj e
  refine hQ _ _ _ its _ _ r (Walks.tuple hh _ p (zC hp) its.toArray) ⟨⟨_,zy _ rfl,rfl,rfl⟩,?_⟩ (λb hb=>?_) λh' tk kk=>?_
  ·obtain⟨o,e,c⟩:=pl;exact⟨o,zQ _ e,c⟩
  ·show b<(s.heap.push _).objs.size;rw[q9];rcases zx.mp hb with rfl|hb
   ·exact qY _
   ·have e:b=p:=by simpa using hb
    subst e;exact qR hp
  ·refine I.kept λb o e=>kk b o (λhb=>?_) (zQ _ e)
   have e2:b=s.heap.objs.size:=by simpa using hb
   subst e2;exact absurd (zj e) (qQ _)
theorem Vq:∀{ns:List Int}{vs:List V},Reps a (ns.map D.int) vs->vs=ns.map V.int
 |[],vs,h=>h
 |n::ns,vs,h=>by
  obtain⟨v,r,e,h1,h2⟩:=h
  cases(show v=V.int n from h1)
  rw[e,Vq h2]
  rfl
theorem ZGK:∀{ns:List Bool}{vs:List V},Reps a (ns.map D.bl) vs->vs=ns.map V.bl
 |[],vs,h=>h
 |n::ns,vs,h=>by
  obtain⟨v,r,e,h1,h2⟩:=h
  cases(show v=V.bl n from h1)
  rw[e,ZGK h2]
  rfl
theorem all_range(ns:List Bool):(zV ns.length).all (λi=>ns.getD i vF)=ns.all id:=by
 rw[Bool.eq_iff_iff,qC,qC];constructor
 ·intro h b hb;obtain⟨i,hi,rfl⟩:=qy hb;simpa[hi]using h i (q8.mpr hi)
 ·intro h i hi;have hi':i<ns.length:=q8.mp hi;simpa[hi']using h ns[i] (qx hi')
theorem ZK8(hc:X.calm=vF):CallR X (.builtin "all") (lRn X.K E Ky):=by
 intro vC s σ H vs us Q I rs h;obtain⟨a,G,ds,hk,rfl,sm,r,q⟩:=h;unfold Ky at q;split at q
 ·rename_i d;obtain⟨v,rfl,rv⟩:=reps1 r;split at q
  ·rename_i xs hs;split at q
   ·rename_i ns hn;cases ZDq hn;obtain⟨p,ws,rfl,h1,r1⟩:=J7 sm rv hs;cases ZGK r1;rw[hk]at h1;obtain⟨u,rfl,ru⟩:=vals1 rs;cases ru;refine call_all_walk (ZBo I hc h1 λit fp wr its St s₂ hv W st hfp fin=>⟨it,fp,wr,its.toArray.size,_,St,λi=>ns.getD i vF,rfl,W,st,λi w s' Q' E' hw hQ'=>?_,λh' tk kk=>?_⟩)
    ·have hw':its[i]?=vD w:=by simpa using hw
     have hl:i<(ns.map V.bl).length:=by rw[hv.length];exact(zG.mp hw').1
     have hl':i<ns.length:=by simpa using hl
     obtain⟨u,hu,ru⟩:=hv.get (i:=i) (x:=V.bl ns[i]) (by simp[hl']);rw[hw']at hu;cases hu;cases ru;refine v8 ?_;simpa[hl']using hQ'
    ·refine⟨.bl (ns.all id),a.H,fin h' tk kk,?_,q a _ (Ext.refl a) sm rfl⟩;have hl:its.toArray.size=ns.length:=by rw[zK,<-hv.length];simp
     rw[hl,all_range]
     rfl
   ·exact q.elim
  ·exact q.elim
 ·exact q.elim
end
section
variable{X:Cx}{vC:List (xY×Obj)}{σ:St}{H:Hp}{s:xA}
theorem ZAU(I:Inv X vC σ H s)(hn:H a=vE)(hy:X.s₀.heap.objs.size<=a)(hL:a≠X.env.locals)(hc:∀x c,X.env.cells.lookup x=vD c->c≠a)(hp:∀p∈X.pn++vC,p.1≠a)
  (new:ObjOk X.prog X.w (upd H a o) s.heap a o):Inv X vC σ (upd H a o) s:=by
 have ne:∀b u,H b=vD u->b≠a:=λb u e z=>by rw[z,hn]at e;cases e
 refine⟨I.ok,I.os,I.bare,⟨I.base.keep,I.base.slot,λb ob q n hx=>?_,I.base.there,λb xs q=>?_,λb ob u q=>?_,λb ps q=>?_⟩,I.loc,I.cell,?_,λx c e=>?_,λp hp'=>?_,λb u e=>?_,I.len⟩
 ·rw[Am (zC (zq (zj q) hy))];exact I.base.free b ob q n hx
 ·have:=I.base.tups b xs q;rw[Am (ne _ _ this)];exact this
 ·have:=I.base.frzs b ob u q;rw[Am (ne _ _ this)];exact this
 ·obtain⟨more,this⟩:=I.base.tbls b ps q;exact⟨more,by rw[Am (ne _ _ this)];exact this⟩
 ·rw[Am (Ne.symm hL)];exact I.free
 ·rw[Am (hc x c e)];exact I.Fw x c e
 ·obtain⟨e1,e2,e3⟩:=I.pin p hp';exact⟨e1,by rw[Am (hp p hp')];exact e2,e3⟩
 ·by_cases hb:b=a
  ·subst hb;rw[Ei]at e;cases e;exact new
  ·rw[Am hb]at e;exact(I.hok b u e).stay (λ_ _ _ q=>q) (λc q=>by rw[Am (ne _ _ q)];exact q) λc xs q=>by rw[Am (ne _ _ q)];exact q
end
noncomputable def Ef(env:Env):List (Str×xk)->List (Str×xY)->List (Str×xY)
 |[],cs=>cs
 |(n,k)::r,cs=>if(k==NameKind.free)=vF then Ef env r ((n,(env.cells.lookup n).getD 0)::cs)else Ef env r cs
theorem ZEc(h:∀y∈scope.names,y.2=.free->∃c,env.cells.lookup y.1=vD c):closureFor scope env=pure (Ef env scope.names []):=by
 unfold closureFor;obtain⟨kind,names,g1,g2⟩:=scope;have key:∀(names:List (Str×xk))(cs:List (Str×xY)),(∀y∈names,y.2=.free->∃c,env.cells.lookup y.1=vD c)->
   (forIn names cs (λx r=>match x with
    |(name,kind)=>if(kind==NameKind.free)=vF then(do let c<-cellOf env name;pure (ForInStep.yield ((name,c)::r)))else pure (ForInStep.yield r)):Sem (List (Str×xY)))=pure (Ef env names cs):=by
  intro names
  induction names with
  |nil=>intro cs _;rfl
  | cons y r ih=>
   intro cs hy;obtain⟨n,k⟩:=y;rw[xJ];by_cases hk:(k==NameKind.free)=vF
   ·obtain⟨c,hc⟩:=hy (n,k) zW (by simpa using hk)
    have e1:cellOf env n=pure c:=by unfold cellOf;rw[show env.cells.lookup n=vD c from hc]
    have e2:Ef env ((n,k)::r) cs=Ef env r ((n,c)::cs):=by rw[Ef,if_pos hk,show env.cells.lookup n=vD c from hc];rfl
    rw[e2,<-ih ((n,c)::cs) λy' hy'=>hy y' (zJ _ hy')];simp only[hk,if_true,e1]
    rfl
   ·have e2:Ef env ((n,k)::r) cs=Ef env r cs:=by rw[Ef,if_neg hk]
    rw[e2,<-ih cs λy' hy'=>hy y' (zJ _ hy')];simp only[hk]
    rfl
 have:=key names [] h;exact congrArg (λm:Sem (List (Str×xY))=>m >>=λr=>pure r) this
theorem ZAR:∀{names:List (Str×xk)}{cs:List (Str×xY)},(∀y∈names,y.2=.free->∃c,env.cells.lookup y.1=vD c)->(∀p∈cs,env.cells.lookup p.1=vD p.2)->∀p∈Ef env names cs,env.cells.lookup p.1=vD p.2
 |[],cs,_,hc,p,hp=>hc p hp
 | (n,k)::r,cs,hn,hc,p,hp=>by
  rw[Ef]at hp;split at hp
  ·rename_i hk;obtain⟨c,e⟩:=hn (n,k) zW (by simpa using hk);refine ZAR (λy hy=>hn y (zJ _ hy)) (λq hq=>?_) p hp;rcases zx.mp hq with rfl|hq
   ·rw[show env.cells.lookup n=vD c from e];rfl
   ·exact hc q hq
  ·exact ZAR (λy hy=>hn y (zJ _ hy)) hc p hp
theorem T7:∀{names:List (Str×xk)}{cs:List (Str×xY)},((x,.free)∈names∨∃c,(x,c)∈cs)->∃c,(x,c)∈Ef env names cs
 |[],cs,h=>by
  rcases h with h|h
  ·cases h
  ·exact h
 | (n,k)::r,cs,h=>by
  rw[Ef];split
  ·refine T7 ?_;rcases h with h|⟨c,h⟩
   ·rcases zx.mp h with e|h
    ·cases e;exact .inr ⟨_,zW⟩
    ·exact .inl h
   ·exact .inr ⟨c,zJ _ h⟩
  ·rename_i hk;refine T7 ?_;rcases h with h|h
   ·rcases zx.mp h with e|h
    ·cases e;exact absurd rfl hk
    ·exact .inl h
   ·exact .inr h
theorem W6:∀{l:List (Str×xY)},(x,c)∈l->∃d,l.lookup x=vD d
 |[],h=>by cases h
 | (y,d)::l,h=>by
  by_cases e:x=y
  ·subst e;exact⟨d,by simp⟩
  ·rcases zx.mp h with z|h
   ·cases z;exact absurd rfl e
   ·obtain⟨d',q⟩:=W6 h;exact⟨d',by rw[jY,beq_eq_false_iff_ne.mpr e];exact q⟩
theorem ZC0(x:Str):(relabel scope env).names.lookup x=(scope.names.lookup x).map λk=>if(k==NameKind.free&&env.scope.kind == .function&&env.kindOf x==vD .cell)=vF then .cell else k:=by
 unfold relabel;generalize scope.names=l
 induction l with
 |nil=>rfl
 | cons y r ih=>
  obtain⟨n,k⟩:=y;by_cases e:x=n
  ·subst e;simp only[zE]
   cases hc:(k==NameKind.free&&env.scope.kind==ScopeKind.function&&env.kindOf x==vD NameKind.cell) <;>
    simp only[hc,if_true,jY,beq_self_eq_true,xX,jq,if_false]
  ·have hb:(x==n)=vG:=beq_eq_false_iff_ne.mpr e;simp only[zE];split
   ·rw[jY,jY,hb];exact ih
   ·rw[jY,jY,hb];exact ih
def blk(X:Cx)(N:List Str)(scope:x0)(C:xY)(s₀:xA)(H₀:Hp)(ex:List xY):Cx where
 prog:=X.prog
 w:=X.w
 K:=X.K
 mg:=X.mg
 base:=X.base
 A:=X.A
 N:=N
 s₀:=s₀
 H₀:=H₀
 env:=compEnvC scope (Ef X.env scope.names []) C X.env
 outer:=X.stack
 stack:=X.stack
 ex:=ex
 fn:=λ_=>vG
 calm:=X.calm
 pn:=[]
 xe:=λ_ _=>False
structure CompSc (X:Cx) (N:List Str) (scope:x0) (nt:Nat) (caps:List Nat):Prop where
 kind:scope.kind=.function
 names:∀y∈scope.names,y.2=.local->scope.names.lookup y.1=vD .local
 nocell:∀y∈scope.names,y.2≠ .cell
 free:∀y∈scope.names,y.2=.free->X.env.kindOf y.1=vD .cell∨X.env.kindOf y.1=vD .free
 nd:N.Nodup
 len:N.length=nt+caps.length
 cap:∀(k j:Nat),caps[k]?=vD j->∃x,X.N[j]?=vD x/\N[nt+k]?=vD x/\scope.names.lookup x=vD .free
section
variable{X:Cx}{vC:List (xY×Obj)}{σ:St}{H:Hp}{s:xA}{N:List Str}{scope:x0}{nt:Nat}{caps:List Nat}
theorem CompSc.cells(c:CompSc X N scope nt caps)(ok:X.Ok):∀y∈scope.names,y.2=.free->∃c,X.env.cells.lookup y.1=vD c:=λy hy hk=>ok.has y.1 (c.free y hy hk)
theorem CompSc.cl(c:CompSc X N scope nt caps)(ok:X.Ok)(h:(Ef X.env scope.names []).lookup x=vD d):X.env.cells.lookup x=vD d:=
 ZAR (c.cells ok) (λp hp=>by cases hp) (x,d) (PySem.mem_of_lookup h)
theorem ZSl(c:CompSc X N scope nt caps)(I:Inv X vC σ H s){fp:List xY}(hf:∀b∈fp,FpOk X vC H b){C:xY}(hC:s.heap.objs.size<=C)(hCf:C∉fp):(blk X N scope C s H fp).Ok where
 mod:=I.ok.mod
 kind:=c.kind
 glob:=I.ok.glob
 blt:=I.ok.blt
 above:=hC
 inj:=λx y d h1 h2=>I.ok.inj x y d (c.cl I.ok h1) (c.cl I.ok h2)
 has:=λx h=>by
  have h':(relabel scope X.env).names.lookup x=vD .cell∨(relabel scope X.env).names.lookup x=vD .free:=h;rw[ZC0]at h';have hfree:scope.names.lookup x=vD .free:=by
   cases e:scope.names.lookup x with
   |none=>rw[e]at h';rcases h' with h'|h'<;>cases h'
   |some k=>
    rw[e]at h';cases k with
    |free=>rfl
    |cell=>exact absurd rfl (c.nocell _ (PySem.mem_of_lookup e))
    |_=>rcases h' with h'|h'<;>(simp at h')
  obtain⟨d,hd⟩:=T7 (env:=X.env) (x:=x) (names:=scope.names) (cs:=[]) (.inl (PySem.mem_of_lookup hfree));exact W6 hd
 cab:=λx d h=>by cases h
 hd:=I.ok.hd
 frames:=I.ok.frames
 stk:=.inl rfl
 exf:=λb hb=>⟨λz=>hCf (by rw[<-show b=C from z];exact hb),λx d h=>(hf b hb).2.2.2.2.1 x d (c.cl I.ok h)⟩
 bs:=I.bs
 bsz:=z5 I.ok.bsz I.sz
 noex:=λb o e hb=>by
  rcases(hf b hb).2.2.2.1 with h|h
  ·exact I.ok.noex b o e h
  ·exact absurd (zq (zj (I.ok.bs b o e).1) h) (qQ _)
 exfs:=λb hb hz=>by
  rcases zx.mp (I.Rp b hz)with z|z
  ·exact(hf b hb).2.1 z
  ·exact(hf b hb).2.2.1 z
 funs:=I.stack
 frf:=I.Ut
end
def Cu(g:DG)(c:DB)(te:DE)(S:DSt):List D->DH->R (List D)
 |[],G=>.ok [] G
 | x::xs,G=>(g x S G).bind λS1 G1=>(c S1 G1).bind λk G2=>
   if k=vF then(te S1 G2).bind λd G3=>(Cu g c te S xs G3).bind λds G4=>.ok (d::ds) G4 else Cu g c te S xs G2
def Ez(i:Nat)(g:DG)(c:DB)(te:DE)(S:DSt):Nat->Nat->DH->R (List D)
 |0,j,G=>match G[i]? with
  |some (.lst xs)=>if xs.length<=j then .ok [] G else .bad
  |_=>.bad
 | n + 1,j,G=>match G[i]? with
  |some (.lst xs)=>match xs[j]? with
   | some x=>(g x S G).bind λS1 G1=>(c S1 G1).bind λk G2=>
     if k=vF then(te S1 G2).bind λd G3=>(Ez i g c te S n (j+1) G3).bind λds G4=>.ok (d::ds) G4 else Ez i g c te S n (j+1) G2
   |none=>.ok [] G
  |_=>.bad
def Dg(f:Nat->DH->Option (Option D))(g:DG)(c:DB)(te:DE)(S:DSt):Nat->Nat->DH->R (List D)
 |0,j,G=>match f j G with
  |some vE=>.ok [] G
  |_=>.bad
 | n + 1,j,G=>match f j G with
  |some (vD x)=>(g x S G).bind λS1 G1=>(c S1 G1).bind λk G2=>
     if k=vF then(te S1 G2).bind λd G3=>(Dg f g c te S n (j+1) G3).bind λds G4=>.ok (d::ds) G4 else Dg f g c te S n (j+1) G2
  |some vE=>.ok [] G
  |none=>.bad
noncomputable def Ay(nt:Nat)(caps:List Nat)(S:DSt):DSt:=zX nt vE++caps.map λj=>(S[j]?).join
def Cm(it:DI)(nt:Nat)(caps:List Nat)(g:DG)(c:DB)(te:DE):DE:=λS G=>(it S G).bind λJ G1=>(match J with
 |.pure xs=>Cu g c te (Ay nt caps S) xs G1
 |.mt i=>match G1[i]? with
  |some (.lst xs)=>Ez i g c te (Ay nt caps S) xs.length 0 G1
  |_=>.bad
 |.fn n f=>Dg f g c te (Ay nt caps S) n 0 G1).bind Ah
noncomputable def Bh:DB:=λ_ G=>.ok vF G
def GK(nt:Nat)(g:DG):Prop:=∀d S G S1 G1,g d S G=.ok S1 G1->∀i e,nt<=i->S[i]?=vD (vD e)->S1[i]?=vD (vD e)
def GKs(nt:Nat)(g:DGs):Prop:=∀d S G S1 G1,g d S G=.ok S1 G1->∀i e,nt<=i->S[i]?=vD (vD e)->S1[i]?=vD (vD e)
theorem ZNp(h:i<nt):GK nt (gV i):=λd S G S1 G1 e j x hj hx=>by cases e;rw[qL (by lia)];exact hx
theorem ZQl:GKs nt Bd:=λd S G S1 G1 e j x hj hx=>by
 cases d with
 |nil=>cases e;exact hx
 |cons _ _=>cases e
theorem ZSG(h1:GK nt t)(h2:GKs nt u):GKs nt (Af t u):=λd S G S1 G1 e j x hj hx=>by
 cases d with
 |nil=>cases e
 |cons a r=>
  have e':(t a S G).bind (λS1 G1=>u r S1 G1)=.ok S1 G1:=e;cases ht:t a S G with
  |ok S2 G2=>rw[ht]at e';exact h2 _ _ _ _ _ e' j x hj (h1 _ _ _ _ _ ht j x hj hx)
  |err _ _=>rw[ht]at e';cases e'
  |bad=>rw[ht]at e';cases e'
theorem ZI9(h:GKs nt t):GK nt (Ba n t):=λd S G S1 G1 e j x hj hx=>by
 cases d with
 |tup ds=>
  unfold Ba at e;dsimp only at e;split at e
  ·exact h _ _ _ _ _ e j x hj hx
  ·cases e
 |_=>cases e
theorem ZL6(h:out E a (r.bind f) Q):
  Ej E a r (λσ H=>∃(b:Wd)(S:DSt)(G:DH),b.H=H/\Ext a b/\Sim b G/\RepS b S σ/\r=.ok S G/\out E b (f S G) Q):=by
 cases r with
 |ok d G=>exact λb v x s q=>⟨b,d,G,rfl,x,s,q,rfl,out.mono x h⟩
 |err e G=>exact h
 |bad=>exact h
theorem R.bind_assoc{γ:Type}(r:R α)(f:α->DH->R β)(g:β->DH->R γ):(r.bind f).bind g=r.bind λa G=>(f a G).bind g:=by cases r<;>rfl
theorem ZB3(h:out E a (r.bind f) Q):
  outI E a r (λJ H=>∃(b:Wd)(d:ItD)(G:DH),b.H=H/\Ext a b/\Sim b G/\RepI b d J/\r=.ok d G/\out E b (f d G) Q):=by
 cases r with
 |ok d G=>exact λb v x s q=>⟨b,d,G,rfl,x,s,q,rfl,out.mono x h⟩
 |err e G=>exact h
 |bad=>exact h
section
variable{prog:xy}{w:xD}{A:xq}{R':Result->xA->Prop}{s:xA}
def CItem(prog:xy)(w:xD)(A:xq)(target elt:xz)(ifs:List xz)(acc:xC)(env:Env)(P:xA->Prop)(v:xC)(s:xA):Prop:=
 vK (vQ prog w) A (assign target env v) (λ_ s₂=>
  vK (vQ prog w) A (forIn ifs vF λc r=>if r=vF then do let ok<-isTrue c env (eval c env);pure (ForInStep.yield ok)else pure (ForInStep.yield r)) (λok s₃=>
   if ok=vF then vK (vQ prog w) A (eval elt env) (λx s₄=>vK (vQ prog w) A (call (.builtin "list.append") [acc,x]) (λ_ s₅=>P s₅) (λ_ _=>False) s₄) (λ_ _=>False) s₃
   else P s₃) (λ_ _=>False) s₂) (λ_ _=>False) s
def CTurn(prog:xy)(w:xD)(A:xq)(target elt:xz)(ifs:List xz)(it acc:xC)(env:Env)(R' P:xA->Prop)(s:xA):Prop:=
 vK (vQ prog w) A (pyNext it) (λr s₁=>match r with
  |none=>R' s₁
  |some v=>vK (vQ prog w) A (xT target it v) (λ_ s₁=>CItem prog w A target elt ifs acc env P v s₁) (λ_ _=>False) s₁) (λ_ _=>False) s
theorem ZMb(I:Nat->xA->Prop)
  (turn:∀n s,I n s->CTurn prog w A target elt ifs it acc env (R' (.ok .next)) (λs'=>∃m,m<n/\I m s') s)
  (n:Nat) (h:I n s):
  codeAny (vQ prog w) A (.compLoop (.ListComp elt [⟨target,iter,ifs,0⟩] scope pos) 0 it acc env) R' s:=by
 refine codeAny_loop rfl I (λn s hI=>?_) n h
 show vK _ A ((compTurn (.ListComp elt [⟨target,iter,ifs,0⟩] scope pos) 0 it acc env).onRaise (λx=>do noteFrame x env;theTreesLotGoes x)) _ _ s
 refine wpAny_noted ?_;rw[compTurn_list];refine vk ?_ (λ_ _ q=>q) (λ_ _(f:False)=>f.elim);refine vq (wpAny_standAt (vq (vk (turn n s hI) (λr s₁ h₁=>?_) λ_ _ h'=>h')));cases r with
 |none=>exact v6 h₁
 | some v=>
  refine vq (vk h₁ (λ_ s₂' h₁=>?_) λ_ _ h'=>h');refine vq (vk h₁ (λ_ s₂ h₂=>vq (vk h₂ (λok s₃ h₃=>?_) λ_ _ h'=>h')) λ_ _ h'=>h');cases ok with
  |false=>exact v6 ⟨rfl,h₃⟩
  |true=>
   exact vq (vq (vk h₃ (λx s₄ h₄=>vq (vk h₄ (λ_ s₅ h₅=>v6 (v6 ⟨rfl,h₅⟩)) λ_ _ h'=>h')) λ_ _ h'=>h'))
end
def QTs(X:Cx)(E:XK)(ifs:List xz)(t:DB):Prop:=
 ∀(vC:List (xY×Obj))(s:xA)(σ:St)(H:Hp)(Q:Bool->Hp->Prop),Inv X vC σ H s->lB X.K E t σ H Q->
  vK (vQ X.prog X.w) X.A (forIn ifs vF λc r=>if r=vF then do let ok<-isTrue c X.env (eval c X.env);pure (ForInStep.yield ok)else pure (ForInStep.yield r)) (TP X vC σ Q) X.xe s
theorem ZJ7:QTs X E [] Bh:=λvC s σ H Q I h=>by obtain⟨a,S,G,hk,rfl,sm,r,h⟩:=h;exact wpAny_tests_nil ⟨a.H,I,h a (Ext.refl a) sm⟩
theorem ZMR(hc:QT X E c t):QTs X E [c] t:=λvC s σ H Q I h=>wpAny_tests_one (hc vC s σ H Q I h)
section
variable{X:Cx}{E:XK}{N:List Str}{scope:x0}{nt:Nat}{caps:List Nat}{tg elt iter:xz}{ifs:List xz}{pos:Pos}{it:DI}{g:DG}{c:DB}{te:DE}
theorem ZNi(r:RepS a S σ):RepS a (Ay nt caps S) (zX nt vE++caps.map λj=>(σ[j]?).join):=by
 refine⟨by simp[Ay],λi d h=>?_⟩;unfold Ay at h;by_cases hi:i<nt
 ·rw[qZ (by simpa using hi),jW]at h
  split at h<;>cases h
 ·rw [zL (by simpa using hi),zw]at h;rw[zL (by simpa using hi),zw];rw[jH]at h⊢;cases e:caps[i-nt]? with
  |none=>rw[e]at h;cases h
  | some j=>
   rw[e]at h;have h1:(S[j]?).join=vD d:=by simpa using h
   have h2:S[j]?=vD (vD d):=by
    cases q:S[j]? with
    |none=>rw[q]at h1;cases h1
    |some o=>
     rw[q]at h1;have h1':o=vD d:=h1;rw[h1']
   obtain⟨v,ev,rv⟩:=r.get j d h2;exact⟨v,by simp[ev],rv⟩
theorem ZLq(h:(Ay nt caps S)[i]?=vD (vD d)):nt<=i:=by
 unfold Ay at h;by_cases hi:i<nt
 ·rw[qZ (by simpa using hi),jW]at h
  split at h<;>cases h
 ·lia
theorem ZBY(hc:X.calm=vF)(cs:CompSc X N scope nt caps)
  (hg:∀C s₀ H₀ ex,QG (blk X N scope C s₀ H₀ ex) E0 tg g) (gk:GK nt g) (hts:∀C s₀ H₀ ex,QTs (blk X N scope C s₀ H₀ ex) E0 ifs c) (he:∀C s₀ H₀ ex,QE (blk X N scope C s₀ H₀ ex) E0 elt te)
  {vC:List (xY×Obj)} {σ:St} {s:xA} {a:Wd} {S:DSt} {G:DH} {J:It} {n0:Nat} {f:Nat->DH->Option (Option D)} {i0:xY} {fp:List xY} {tn:Nat->Heap->Prop} (I:Inv X vC σ a.H s) (hk:a.K=X.K) (sm:Sim a G) (rS:RepS a S σ)
  (T:Turn X.prog X.w X.K tg J fp i0 tn) (t0:tn 0 s.heap) (hf:∀b∈fp,FpOk X vC a.H b) (rJ:RepI a (.fn n0 f) J) {Q:VK}
  (h:out E0 a ((Dg f g c te (Ay nt caps S) n0 0 G).bind Ah) Q)
  {RR:xC->xY->Result->xA->Prop} {E':xC->xA->Prop}
  (hRR:∀(D C:xY)(s':xA)(b:Wd)(vs:List V),Inv X vC σ (upd b.H D (.lst vs)) s'->b.H D=vE->s.heap.objs.size<=C->D≠C->(∃m,s'.heap.Ns C m)->b.H C=vE->Q (.ref D) (upd b.H D (.lst vs))->RR (.ref D) C (.ok .next) s'):
  vK (vQ X.prog X.w) X.A (newList []) (λacc s₃=>vK (vQ X.prog X.w) X.A (newFunctionEnv scope X.env.globals (Ef X.env scope.names []) [] X.env.qual vE .none (vD X.env)) (λcenv s₄=>
   codeAny (vQ X.prog X.w) X.A (.compStart (.ListComp elt [⟨tg,iter,ifs,0⟩] scope pos) 0 (.ref i0) acc {cenv with scope:=relabel scope X.env}) (RR acc cenv.locals) s₄) E' s₃) E' s:=by
 refine v4 (wpAny_newFunctionEnv cs.nocell (by intro y hy;simp at hy) (λh₁ hns₁ hsb₁=>?_) cs.kind);dsimp only at hns₁ hsb₁⊢;generalize hH2:s.heap.push {cls:=.type "list",dict:=vE,data:=.seq ([]:List xC).toArray}=H2 at hns₁ hsb₁⊢;have hC:H2.objs.size=s.heap.objs.size+1:=by rw[<-hH2,q9]
 have hDC:s.heap.objs.size≠H2.objs.size:=by rw[hC];exact zC (qY _)
 have hCle:s.heap.objs.size<=H2.objs.size:=by rw[hC];exact jz _
 have fpOld:∀b∈fp,b<s.heap.objs.size:=λb hb=>by obtain⟨o,e,_⟩:=T.obj 0 _ t0 b hb;exact zj e
 have hDf:s.heap.objs.size∉fp:=λhm=>qQ _ (fpOld _ hm)
 have hCf:H2.objs.size∉fp:=λhm=>by have:=fpOld _ hm;rw[hC]at this;exact qQ _ (Nat.lt_of_succ_lt this)
 have old:∀b o,s.heap.get? b=vD o->h₁.get? b=vD o:=λb o e=>
  hsb₁.extBut b o (by rw[hC];exact zC (qR (zj e))) (zQ _ (hH2▸zQ _ e))
 have hacc:h₁.PlainList s.heap.objs.size ([]:List xC).toArray:=⟨_,hsb₁.extBut _ _ hDC (zQ _ (hH2▸zy _ rfl))⟩;generalize hCe:H2.objs.size=C at*;generalize hDe:s.heap.objs.size=Dd at*;let B:=blk X N scope C s a.H fp;have okB:B.Ok:=ZSl cs I hf (by rw[hDe];exact hCle) hCf;let σ0:St:=zX nt vE++caps.map λj=>(σ[j]?).join
 have start:∀tk,Inv B [] σ0 a.H {s with heap:=h₁,toks:=tk}:=λtk=>by
  refine⟨okB,rfl,I.bare,Un.kept old,⟨_,hns₁,λi x v e1 e2 e3=>?_⟩,λx d' e=>?_,I.hok.fresh (by rw[hDe];exact hCle),λx d' e=>?_,λp hp=>?_,I.hok.kept old,?_⟩
  ·have hi:nt<=i:=by
    by_cases hi:i<nt
    ·have e2':σ0[i]?=vD (vD v):=e2;rw[qZ (by simpa using hi),jW]at e2'
     split at e2'<;>cases e2'
    ·lia
   have e2':σ0[i]?=vD (vD v):=e2;rw[zL (by simpa using hi),zw,jH]at e2';cases ej:caps[i-nt]? with
   |none=>rw[ej]at e2';cases e2'
   | some j=>
    rw[ej]at e2';have h1:(σ[j]?).join=vD v:=by simpa using e2'
    have h2:σ[j]?=vD (vD v):=by
     cases q:σ[j]? with
     |none=>rw[q]at h1;cases h1
     |some o=>
      rw[q]at h1;have h1':o=vD v:=h1;rw[h1']
    obtain⟨y,ey,en,ek⟩:=cs.cap (i-nt) j ej;have exy:x=y:=by
     have:nt+(i-nt)=i:=by lia
     rw[this]at en;have e1':N[i]?=vD x:=e1;rw[e1']at en;exact Option.some.inj en
    subst exy;have kx:=cs.free (x,.free) (PySem.mem_of_lookup ek) rfl;have vis:Vis X.env.scope x:=by
     rcases kx with kx|kx
     ·exact .inr (.inl kx)
     ·exact .inr (.inr kx)
    obtain⟨m,hn,hl⟩:=I.loc;obtain⟨u,ru,lk⟩:=hl j x v ey h2 vis;refine⟨u,ru,?_⟩;rcases lk with⟨k1,_⟩|⟨k1,c1,ec,hcell⟩
    ·rcases kx with kx|kx
     ·rw[k1]at kx;cases kx
     ·rw[k1]at kx;cases kx
    ·refine .inr ⟨?_,c1,?_,?_⟩
     ·show(relabel scope X.env).names.lookup x=vD .cell∨(relabel scope X.env).names.lookup x=vD .free;rw[ZC0,ek];simp only[xX];split
      ·exact .inl rfl
      ·exact .inr rfl
     ·obtain⟨d1,hd1⟩:=T7 (env:=X.env) (x:=x) (names:=scope.names) (cs:=[]) (.inl (PySem.mem_of_lookup ek));obtain⟨d2,hd2⟩:=W6 hd1;have:=cs.cl I.ok hd2;rw[ec]at this;cases this;exact hd2
     ·obtain⟨o,e,dd⟩:=hcell;exact⟨o,old _ _ e,dd⟩
  ·obtain⟨v,o,e',dd⟩:=I.cell x d' (cs.cl I.ok e);exact⟨v,o,old _ _ e',dd⟩
  ·exact I.Fw x d' (cs.cl I.ok e)
  ·exact absurd hp (by simp[B,blk])
  ·show σ0.length=N.length;rw[cs.len];simp[σ0]
 have rS0:RepS a (Ay nt caps S) σ0:=ZNi rS;have aD:a.H Dd=vE:=I.hok.fresh (by rw[hDe];exact zY _);have young:∀b∈fp,b≠C:=λb hb z=>hCf (z▸hb)
 have fpB:∀{H':Hp}{ps:List (xY×Obj)},(∀b∈fp,H' b=vE)->(∀p∈ps,p.1∉fp)->∀b∈fp,FpOk B ps H' b:=λ{H' ps}hn hps b hb=>
  ⟨hn b hb,young b hb,okB.exfs b hb,.inl hb,λx d' e=>(hf b hb).2.2.2.2.1 x d' (cs.cl I.ok e),λp hp z=>by
   have hp':p∈ps:=by simpa[B,blk]using hp
   exact hps p hp' (z▸hb)⟩
 have nstk:Dd∉frs X.stack:=λz=>by
  rcases zx.mp (I.Rp Dd z)with z|z
  ·have:=I.lt;rw[hDe,<-z]at this;exact qQ _ this
  ·exact I.nofs (by rw[hDe];exact zY _) z
 have pinD:∀{σ':St}{H':Hp}{s':xA}{its:List xC}{nD:Nat},Inv B [] σ' H' s'->s'.heap.get? Dd=vD {cls:=.type "list",data:=.seq its.toArray nD}->H' Dd=vE->Inv B [(Dd,{cls:=.type "list",data:=.seq its.toArray nD})] σ' H' s':=λ{σ' H' s' its nD}J e n=>
  J.Io λp hp=>by
   have ep:p=(Dd,{cls:=.type "list",data:=.seq its.toArray nD}):=by simpa using hp
   subst ep;exact⟨e,n,hDC,nstk,λv' z=>by cases z⟩
 have fin:∀(s':xA)(b:Wd)(σ':St)(its:List xC)(ds:List D)(G':DH),Inv B [] σ' b.H s'->Ext a b->Sim b G'->s'.heap.PlainList Dd its.toArray->b.H Dd=vE->(∃vs,Vals vs its/\Reps b ds vs)->out E0 b (Ah ds G') Q->RR (.ref Dd) C (.ok .next) s':=by
  intro s' b σ' its ds G' IB x sb pl hD ⟨vs,hv,rv⟩ hq;have hz:ds.length<=1000000:=by
   unfold Ah at hq;split at hq
   ·assumption
   ·exact hq.elim
  have Ix:Inv X vC σ b.H s':=I.call' IB.os IB.base IB.hok IB.bare λb hb=>⟨(hf b hb).2.2.2.1,(hf b hb).2.1,(hf b hb).2.2.2.2.1,(hf b hb).2.2.2.2.2⟩
  obtain⟨n,eD⟩:=pl;have ylt:∀{q:xY}{o:Obj},s.heap.get? q=vD o->q≠Dd:=λe z=>by rw[z,<-hDe]at e;exact absurd (zj e) (qQ _)
  have Ia:Inv X vC σ (upd b.H Dd (.lst vs)) s':=by
   refine ZAU Ix hD (by rw[<-hDe];exact I.sz) ?_ (λy c' ec=>?_) (λp hp=>?_) ⟨?_,its,n,hv,eD⟩
   ·rw[<-hDe];exact jV I.lt
   ·obtain⟨v,o,e,_⟩:=I.cell y c' ec;exact ylt e
   ·exact ylt (I.pin p hp).1
   ·rw[<-rv.length];exact z5 hz size6
  refine hRR Dd C s' b vs Ia hD hCle hDC (let⟨m,hn,_⟩:=IB.loc;⟨m,hn⟩) IB.free ?_;unfold Ah at hq;rw[if_pos hz]at hq;exact Jh sb rv hq Dd hD
 have turnX:∀(P:xA->Prop)(rest:DH->R (List D))(s1:xA)(b:Wd)(G1:DH)(σ1:St)(its:List xC)(acc:List D)(u:xC)(v:V)(x:D)(i:Nat),Inv B [] σ1 b.H s1->Ext a b->Sim b G1->RepS b (Ay nt caps S) σ1->tn i s1.heap->(∀q∈fp,b.H q=vE)->
   s1.heap.PlainList Dd its.toArray->b.H Dd=vE->(∃vs,Vals vs its/\Reps b acc vs)->RelV v u->Rep b x v->
   out E0 b (((g x (Ay nt caps S) G1).bind λS1 G1=>(c S1 G1).bind λk G2=>if k=vF then(te S1 G2).bind λd G3=>(rest G3).bind λds G4=>.ok (d::ds) G4 else rest G2).bind λds G=>Ah (acc++ds) G) Q->
   (∀(s2:xA)(b2:Wd)(G2:DH)(σ2:St)(its2:List xC)(acc2:List D),Inv B [] σ2 b2.H s2->Ext a b2->Sim b2 G2->RepS b2 (Ay nt caps S) σ2->tn i s2.heap->(∀q∈fp,b2.H q=vE)->
    s2.heap.PlainList Dd its2.toArray->b2.H Dd=vE->(∃vs,Vals vs its2/\Reps b2 acc2 vs)->out E0 b2 ((rest G2).bind λds G=>Ah (acc2++ds) G) Q->P s2)->
   CItem X.prog X.w X.A tg elt ifs (.ref Dd) B.env P u s1:=by
  intro P rest s1 b G1 σ1 its acc u v x i I1 x1 sb rSb t1 hfp pl hD hacc' ru rx hq next
  rw[R.bind_assoc]at hq;obtain⟨nD,eD⟩:=id pl;let pinD:List (xY×Obj):=[(Dd,{cls:=.type "list",data:=.seq its.toArray nD})];have pinOk:∀{σ':St}{H':Hp}{s':xA},Inv B (pinD++My fp s1.heap) σ' H' s'->s'.heap.PlainList Dd its.toArray/\H' Dd=vE/\tn i s'.heap/\∀q∈fp,H' q=vE:=λ{σ' H' s'}J=>by
   have p1:=J.pin (Dd,{cls:=.type "list",data:=.seq its.toArray nD}) (zP _ (jS _ (by simp[pinD])));refine⟨⟨nD,p1.1⟩,p1.2.1,T.keep _ _ _ t1 λq hq' o e=>(J.pin (q,o) (zP _ (zP _ (Qw hq' e)))).1,λq hq'=>?_⟩;obtain⟨o,e,_⟩:=T.obj _ _ t1 q hq';exact(J.pin (q,o) (zP _ (zP _ (Qw hq' e)))).2.1
  have I2:Inv B (pinD++My fp s1.heap) σ1 b.H s1:=I1.Io λp hp=>by
   rcases j9.mp hp with hp|hp
   ·have e:p=(Dd,{cls:=.type "list",data:=.seq its.toArray nD}):=by simpa[pinD]using hp
    subst e;refine⟨eD,hD,hDC,λz=>?_,λv' z=>by cases z⟩;exact nstk z
   ·obtain⟨hb,e⟩:=ZCR hp;obtain⟨f0,f1,f2,_⟩:=fpB (ps:=[]) hfp (λp hp=>by cases hp) p.1 hb;obtain⟨o,e',dd⟩:=T.obj _ _ t1 p.1 hb;rw[e]at e';cases e';exact⟨e,f0,f1,f2,dd⟩
  refine thn (hg C s a.H fp _ s1 σ1 b.H v u _ I2 ru ⟨b,Ay nt caps S,G1,x,x1.k.trans hk,rfl,sb,rSb,rx,(ZL6 hq).imp λ_ _ z=>z⟩) ?_;rintro _ s2 ⟨σ2,H2',J2,b2,S2,G2,rfl,y2,sb2,rS2,eg,hq2⟩;rw[R.bind_assoc]at hq2;have rS2':RepS b2 (Ay nt caps S) σ2:=⟨by have h1:=J2.len;have h2:σ1.length=N.length:=I1.len;rw[rSb.len,h2];exact h1.symm,λj e' hj=>rS2.get j e' (gk _ _ _ _ _ eg j e' (ZLq hj) hj)⟩
  refine thn (hts C s a.H fp _ s2 σ2 b2.H _ J2 ⟨b2,S2,G2,y2.k.trans (x1.k.trans hk),rfl,sb2,rS2,(ZCp hq2).imp λ_ _ z=>z⟩) ?_;rintro k s3 ⟨H3,J3,b3,G3,rfl,y3,sb3,_,hq3⟩;cases k with
  |false=>
   obtain⟨p1,p2,p3,p4⟩:=pinOk J3;have Jn:Inv B [] σ2 b3.H s3:=J3.Io λp hp=>by cases hp
   obtain⟨vs,hv,rv⟩:=hacc'
   exact next s3 b3 G3 σ2 its acc Jn (x1.trans (y2.trans y3)) sb3 (rS2'.mono y3) p3 p4 p1 p2 ⟨vs,hv,(rv.mono y2).mono y3⟩ hq3
  | true=>
   have hq3':out E0 b3 (((te S2 G3).bind λd G3=>(rest G3).bind λds G4=>.ok (d::ds) G4).bind λds G=>Ah (acc++ds) G) Q:=hq3;rw[R.bind_assoc]at hq3';refine thn (he C s a.H fp _ s3 σ2 b3.H _ J3 ⟨b3,S2,G3,y3.k.trans (y2.k.trans (x1.k.trans hk)),rfl,sb3,rS2.mono y3,(Dq hq3').imp λ_ _ z=>z⟩) ?_;rintro w s4 ⟨vw,H4,J4,rw',b4,d4,G4,rfl,y4,sb4,q4,_,hq4⟩;obtain⟨p1,p2,p3,p4⟩:=pinOk J4;rw[R.bind_assoc]at hq4
   have hq4':out E0 b4 ((rest G4).bind λds G=>Ah ((acc++[d4])++ds) G) Q:=by
    have e:(λ(ds:List D)(G:DH)=>(R.ok (d4::ds) G).bind λds G=>Ah (acc++ds) G)=λds G=>Ah ((acc++[d4])++ds) G:=by funext ds G;simp
    rw[<-e];exact hq4
   obtain⟨vs,hv,rv⟩:=hacc';have hsz:its.toArray.size<=sizeLine:=by
    have:acc.length<=1000000:=by
     cases hr:rest G4 with
     |ok ds G5=>
      rw[hr]at hq4';have hq5:out E0 b4 (Ah ((acc++[d4])++ds) G5) Q:=hq4';unfold Ah at hq5;split at hq5
      ·rename_i hl;simp at hl;lia
      ·exact hq5.elim
     |err e' G5=>rw[hr]at hq4';exact(hq4'.1 rfl).elim
     |bad=>rw[hr]at hq4';exact hq4'.elim
    rw[zK,<-hv.length,<-rv.length];exact z5 this size6
   refine wpAny_list_append_plain p1 (λh' hpl hsb=>?_) hsz;have Jn:Inv B [] σ2 b4.H s4:=J4.Io λp hp=>by cases hp
   have J5:Inv B [] σ2 b4.H {s4 with heap:=h'}:=by refine Jn.turned (it:=Dd) (t':=s4.toks) (λq o hq' e=>(hsb.2 q hq').trans e) p2 hDC (.inr (by show s.heap.objs.size<=Dd;rw[hDe];exact zY _)) (λy c' ec=>?_) (λp hp=>absurd hp (by simp[B,blk]));obtain⟨v',o,e,_⟩:=I.cell y c' (cs.cl I.ok ec);intro z;rw[z,<-hDe]at e;exact absurd (zj e) (qQ _)
   refine next _ b4 G4 σ2 (its++[w]) (acc++[d4]) J5 (x1.trans (y2.trans (y3.trans y4))) sb4 ((rS2'.mono y3).mono y4) (T.keep _ _ _ p3 λq hq' o e=>(hsb.2 q (λz=>hDf (z▸hq'))).trans e) p4 (by simpa using hpl) p2 ⟨vs++[vw],hv.append (.cons rw' .nil),(((rv.mono y2).mono y3).mono y4).append (Reps.cons q4 Reps.nil)⟩ hq4'
 have loop:∀s₃:xA,s₃={s with heap:=h₁,toks:=s.toks+([]:List (Str×xC)).length}->
   codeAny (vQ X.prog X.w) X.A (.compLoop (.ListComp elt [⟨tg,iter,ifs,0⟩] scope pos) 0 (.ref i0) (.ref Dd) B.env) (RR (.ref Dd) C) s₃:=by
  rintro s₃ rfl;have t1:tn 0 h₁:=T.keep _ _ _ t0 λq _ o e=>old q o e
  have fp0:∀q∈fp,a.H q=vE:=λq hq=>(hf q hq).1
  have walk:∀b:Wd,Ext a b->∀G,Sim b G->∀i,(∀d,f i G=vD (vD d)->J.go i b.H/\∀x H',J.yld i b.H x H'->∃c:Wd,c.H=H'/\Ext b c/\Sim c G/\Rep c d x)/\(f i G=vD vE->J.stop i b.H):=rJ;obtain⟨Iv,hIv⟩:∃Iv:Nat->xA->Prop,∀m s',Iv m s'↔∃(i:Nat)(b:Wd)(G':DH)(σ':St)(its:List xC)(acc:List D),Inv B [] σ' b.H s'/\Ext a b/\Sim b G'/\RepS b (Ay nt caps S) σ'/\tn i s'.heap/\(∀q∈fp,b.H q=vE)/\s'.heap.PlainList Dd its.toArray/\b.H Dd=vE/\(∃vs,Vals vs its/\Reps b acc vs)/\out E0 b ((Dg f g c te (Ay nt caps S) m i G').bind λds G=>Ah (acc++ds) G) Q:=⟨_,λ_ _=>Iff.rfl⟩
  refine ZMb Iv (λm s' h'=>?_) n0 ((hIv _ _).2 ⟨0,a,G,σ0,[],[],start _,Ext.refl a,sm,rS0,t1,fp0,hacc,aD,⟨[],.nil,rfl⟩,by simpa using h⟩);obtain⟨i,b,G',σ',its,acc,IB,x,sb,rSb,ti,hfp,pl,hD,hac,hq⟩:=(hIv _ _).1 h';clear h';obtain⟨nD,eD⟩:=pl;have I0:=pinD IB eD hD;have f0:=fpB (ps:=[(Dd,{cls:=.type "list",data:=.seq its.toArray nD})]) hfp (λp hp=>by
   have ep:p=(Dd,{cls:=.type "list",data:=.seq its.toArray nD}):=by simpa using hp
   subst ep;exact hDf)
  have stop:J.stop i b.H->out E0 b (Ah acc G') Q->∀P,CTurn X.prog X.w X.A tg elt ifs (.ref i0) (.ref Dd) B.env (RR (.ref Dd) C (.ok .next)) P s':=by intro st hq' P;refine thn (T.done B rfl rfl rfl hc i _ s' σ' b.H _ I0 f0 ti st) ?_;rintro r s1 ⟨rfl,I2⟩;have pD:=(I2.pin (Dd,{cls:=.type "list",data:=.seq its.toArray nD}) (zP _ (by simp))).1;exact fin s1 b σ' its acc G' (I2.Io λp hp=>by cases hp) x sb ⟨nD,pD⟩ hD hac hq'
  cases m with
  |zero=>
   unfold Dg at hq;split at hq
   ·rename_i hf;exact stop ((walk b x G' sb i).2 hf) (by have hq':out E0 b (Ah (acc++[]) G') Q:=hq;rw[qj]at hq';exact hq') _
   ·exact hq.elim
  | succ m=>
   unfold Dg at hq;split at hq
   ·rename_i d1 hf;obtain⟨go,yl⟩:=(walk b x G' sb i).1 d1 hf;refine thn (T.item B rfl rfl rfl hc i _ s' σ' b.H _ I0 f0 ti go) ?_;rintro r s1 ⟨u,rfl,hgo⟩;refine thn hgo ?_;rintro _ s2 ⟨v,H',I2,ru,y,t2,hfp2⟩;obtain⟨cc,rfl,xx,ss,rd⟩:=yl v H' y;have pD:=I2.pin (Dd,{cls:=.type "list",data:=.seq its.toArray nD}) (zP _ (by simp));obtain⟨vs1,hv1,rv1⟩:=hac;refine turnX _ (λG3=>Dg f g c te (Ay nt caps S) m (i+1) G3) s2 cc G' σ' its acc u _ d1 (i+1) (I2.Io λp hp=>by cases hp) (x.trans xx) ss (rSb.mono xx) t2 hfp2 ⟨nD,pD.1⟩ pD.2.1 ⟨vs1,hv1,rv1.mono xx⟩ ru rd (out.mono xx hq) ?_
    intro s3 b3 G3 σ3 its3 acc3 a1 a2 a3 a4 a5 a6 a7 a8 a9 a10;exact⟨m,qY _,(hIv _ _).2 ⟨i+1,b3,G3,σ3,its3,acc3,a1,a2,a3,a4,a5,a6,a7,a8,a9,a10⟩⟩
   ·rename_i hf;exact stop ((walk b x G' sb i).2 hf) (by have hq':out E0 b (Ah (acc++[]) G') Q:=hq;rw[qj]at hq';exact hq') _
   ·exact hq.elim
 exact codeAny_compStart_list (loop _ rfl) (T.self _ 0 _ _ _ (T.keep _ _ _ t0 λq _ o e=>old q o e) (loop _ rfl))
theorem ZBR{g:DG}{c:DB}{te:DE}{S:DSt}{xs:List D}:∀(n j:Nat)(G:DH),j+n=xs.length->Cu g c te S (xs.drop j) G=Dg (λj _=>vD xs[j]?) g c te S n j G
 |0,j,G,h=>by
  rw[zU (by lia)]
  show _=(match vD xs[j]? with |some vE=>R.ok [] G|_=>.bad)
  rw[zA (by lia)]
  rfl
 |n+1,j,G,h=>by
  have hj:j<xs.length:=by lia
  rw[zO hj]
  show(g xs[j] S G).bind _=(match vD xs[j]? with |some (vD x)=>_|some vE=>R.ok [] G|none=>.bad)
  rw[zZ hj];dsimp only
  congr 1
  funext S1 G1
  congr 1
  funext k G2;rw[ZBR n (j+1) G2 (by lia)]
  congr 1
  congr 1
  funext d G3;rw[ZBR n (j+1) G3 (by lia)]
theorem ZGw{g:DG}{c:DB}{te:DE}:∀(n j:Nat)(G:DH),Ez i g c te S n j G=Dg (mtF i) g c te S n j G
 | 0,j,G=>by
  unfold Ez Dg mtF;cases G[i]? with
  |none=>rfl
  | some o=>
   cases o with
   |lst xs=>
    dsimp only;by_cases hj:j<xs.length
    ·rw[if_neg (by lia),zZ hj]
    ·rw[if_pos (by lia),zA (by lia)]
   |_=>rfl
 | n+1,j,G=>by
  have ih:(Ez i g c te S n (j+1))=Dg (mtF i) g c te S n (j+1):=funext λG=>ZGw n (j+1) G
  unfold Ez Dg;rw[ih];unfold mtF;cases G[i]? with
  |none=>rfl
  | some o=>
   cases o with
   |lst xs=>
    dsimp only
    cases xs[j]?<;>rfl
   |_=>rfl
theorem ZFc(hc:X.calm=vF)(cs:CompSc X N scope nt caps)
  (hg:∀C s₀ H₀ ex,QG (blk X N scope C s₀ H₀ ex) E0 tg g) (gk:GK nt g) (hts:∀C s₀ H₀ ex,QTs (blk X N scope C s₀ H₀ ex) E0 ifs c) (he:∀C s₀ H₀ ex,QE (blk X N scope C s₀ H₀ ex) E0 elt te)
  {vC:List (xY×Obj)} {σ:St} {s:xA} {a:Wd} {S:DSt} {G:DH} {J:It} {d:ItD} {i0:xY} {fp:List xY} {tn:Nat->Heap->Prop} (I:Inv X vC σ a.H s) (hk:a.K=X.K) (sm:Sim a G) (rS:RepS a S σ)
  (T:Turn X.prog X.w X.K tg J fp i0 tn) (t0:tn 0 s.heap) (hf:∀b∈fp,FpOk X vC a.H b) (rJ:RepI a d J) {Q:VK}
  (h:out E0 a ((match d with
   |.pure xs=>Cu g c te (Ay nt caps S) xs G
   |.mt i=>match G[i]? with
    |some (.lst xs)=>Ez i g c te (Ay nt caps S) xs.length 0 G
    |_=>.bad
   |.fn n f=>Dg f g c te (Ay nt caps S) n 0 G).bind Ah) Q)
  {RR:xC->xY->Result->xA->Prop} {E':xC->xA->Prop}
  (hRR:∀(D C:xY)(s':xA)(b:Wd)(vs:List V),Inv X vC σ (upd b.H D (.lst vs)) s'->b.H D=vE->s.heap.objs.size<=C->D≠C->(∃m,s'.heap.Ns C m)->b.H C=vE->Q (.ref D) (upd b.H D (.lst vs))->RR (.ref D) C (.ok .next) s'):
  vK (vQ X.prog X.w) X.A (newList []) (λacc s₃=>vK (vQ X.prog X.w) X.A (newFunctionEnv scope X.env.globals (Ef X.env scope.names []) [] X.env.qual vE .none (vD X.env)) (λcenv s₄=>
   codeAny (vQ X.prog X.w) X.A (.compStart (.ListComp elt [⟨tg,iter,ifs,0⟩] scope pos) 0 (.ref i0) acc {cenv with scope:=relabel scope X.env}) (RR acc cenv.locals) s₄) E' s₃) E' s:=by
 cases d with
 |pure xs=>
  have h':out E0 a ((Cu g c te (Ay nt caps S) (xs.drop 0) G).bind Ah) Q:=h;rw[ZBR xs.length 0 G (by lia)]at h';exact ZBY hc cs hg gk hts he I hk sm rS T t0 hf (ZEi rJ) h' hRR
 |mt k=>
  dsimp only at h;split at h
  ·rename_i xs hx;rw[ZGw]at h;exact ZBY hc cs hg gk hts he I hk sm rS T t0 hf (ZGO rJ) h hRR
  ·exact h.elim
 |fn n0 f=>exact ZBY hc cs hg gk hts he I hk sm rS T t0 hf rJ h hRR
end
section
variable{X:Cx}{N:List Str}{scope:x0}{nt:Nat}{caps:List Nat}{tg elt iter:xz}{ifs:List xz}{pos:Pos}{it:DI}{g:DG}{c:DB}{te:DE}
theorem letGo{vC:List (xY×Obj)}{σ:St}{H:Hp}{s2 s':xA}{h':Heap}{C:xY}{t':Nat}{σ2:St}{H2:Hp}(I2:Inv X vC σ2 H2 s2)(Ia:Inv X vC σ H s')(hC:s2.heap.objs.size<=C)(hn:H C=vE)(hsb:qG C s'.heap h'):Inv X vC σ H {s' with heap:=h',toks:=t'}:=by
 have young:∀{b:xY}{o:Obj},s2.heap.get? b=vD o->b≠C:=λe z=>by rw[z]at e;exact absurd (zq (zj e) hC) (qQ _)
 refine Ia.turned (it:=C) (λb o hb e=>(hsb.2 b hb).trans e) hn (jV (zq I2.lt hC)) (.inr (z5 I2.sz hC)) (λx c' e=>?_) λp hp=>?_
 ·obtain⟨v,o,e',_⟩:=I2.cell x c' e;exact young e'
 ·exact young (I2.pin p hp).1
theorem ZLe(hc:X.calm=vF)(cs:CompSc X N scope nt caps)(hi:QI X E0 tg iter it)
  (hg:∀C s₀ H₀ ex,QG (blk X N scope C s₀ H₀ ex) E0 tg g) (gk:GK nt g) (hts:∀C s₀ H₀ ex,QTs (blk X N scope C s₀ H₀ ex) E0 ifs c) (he:∀C s₀ H₀ ex,QE (blk X N scope C s₀ H₀ ex) E0 elt te)
  (hs:∀x,foldedSetIterable iter X.env x=pure x:=by intro _;rfl):QE X E0 (.ListComp elt [⟨tg,iter,ifs,0⟩] scope pos) (Cm it nt caps g c te):=by
 intro vC s σ H Q I h;obtain⟨a,S,G,hk,rfl,sm,r,h⟩:=h;rw[eval_ListComp];refine wpAny_comprehension_free (use:=vE) rfl hs (ZEc (cs.cells I.ok)) cs.kind cs.names (thn (hi vC s σ a.H _ I ⟨a,S,G,hk,rfl,sm,r,(ZB3 h).imp λ_ _ z=>z⟩) λxv s1 h1=>thn h1 λitv s2 h2=>?_);obtain⟨i0,fp,tn,J,H2,rfl,I2,T,t0,f2,b,d,G1,rfl,x,sb,rJ,_,h1⟩:=h2;refine ZFc hc cs hg gk hts he I2 (x.k.trans hk) sb (r.mono x) T t0 f2 rJ h1 (RR:=λacc C=>compPost (vQ X.prog X.w) X.A X.xe vE (EP X vC σ Q) acc C) ?_
 intro D C s' b vs Ia hD hCle hDC ⟨m,hn⟩ hCn hq;refine⟨m,hn,λh' hsb=>⟨.ref D,_,letGo I2 Ia hCle ?_ hsb,rfl,hq⟩⟩;rw[Am (Ne.symm hDC)];exact hCn
theorem ZPI(i:Nat){y:Str}{py spos:Pos}(hc:X.calm=vF)(hN:X.N.Nodup)(cs:CompSc X N scope nt caps)(hi:QI X E0 tg iter it)
  (hg:∀C s₀ H₀ ex,QG (blk X N scope C s₀ H₀ ex) E0 tg g) (gk:GK nt g) (hts:∀C s₀ H₀ ex,QTs (blk X N scope C s₀ H₀ ex) E0 ifs c) (he:∀C s₀ H₀ ex,QE (blk X N scope C s₀ H₀ ex) E0 elt te)
  (hy:X.N[i]?=vD y:=by rfl) (hx:Loc X.env.scope y:=by first|exact Or.inl rfl|exact Or.inr rfl) (hf:X.fn y=vF∨X.env.scope.names.lookup y=vD .local:=by first|exact .inl rfl|exact .inr rfl|assumption)
  (hsw:swapsWith (.ListComp elt [⟨tg,iter,ifs,0⟩] scope pos) (vD (.Name y py)) spos.line X.env=pure vF:=by rfl)
  (hs:∀x,foldedSetIterable iter X.env x=pure x:=by intro _;rfl):QS X E0 (.Assign [.Name y py] (.ListComp elt [⟨tg,iter,ifs,0⟩] scope pos) spos) (sAs (Cm it nt caps g c te) (gV i)):=by
 intro vC s σ H W I h;obtain⟨a,S,G,hk,rfl,sm,r,h⟩:=h;have h0:=G7 h;rw[exec_Assign_Name_used _ _ _ _ hsw];refine vq (wpAny_standAt (vq ?_))
 show vK _ X.A (do let _<-comprehension (.ListComp elt [⟨tg,iter,ifs,0⟩] scope pos) scope X.env _ (newList []) vG (eval iter X.env) (vD (assign (.Name y py) X.env))) _ _ s
 refine vq (vk (wpAny_comprehension_free (use:=vD (assign (.Name y py) X.env)) (Q:=λ_ s'=>SP X vC W .next s') rfl hs (ZEc (cs.cells I.ok)) cs.kind cs.names
  (thn (hi vC s σ a.H _ I ⟨a,S,G,hk,rfl,sm,r,(ZB3 h0).imp λ_ _ z=>z⟩) λxv s1 h1=>thn h1 λitv s2 h2=>?_)) (λ_ s' hq=>v6 (v6 hq)) λ_ _ e=>e)
 obtain⟨i0,fp,tn,J,H2,rfl,I2,T,t0,f2,b,d,G1,rfl,x,sb,rJ,_,h1⟩:=h2
 refine ZFc hc cs hg gk hts he I2 (x.k.trans hk) sb (r.mono x) T t0 f2 rJ h1 (RR:=λacc C=>compPost (vQ X.prog X.w) X.A X.xe (vD (assign (.Name y py) X.env)) (λ_ s'=>SP X vC W .next s') acc C) ?_
 intro D C s' b' vs Ia hD hCle hDC ⟨m,hn⟩ hCn hq;show vK _ X.A (assign (.Name y py) X.env (.ref D)) _ _ _;refine wpAny_assign_Name (ZHT Ia hN hy hx (v:=.ref D) rfl (λs'' I'' hch=>?_) hf);obtain⟨a',hsb',ha'⟩:=hch;have hCa:C≠a':=by
  rintro rfl;rcases ha' with rfl|ha'
  ·exact absurd (zq I2.lt hCle) (qQ _)
  ·obtain⟨v,o,e',_⟩:=I2.cell _ _ ha';exact absurd (zq (zj e') hCle) (qQ _)
 refine⟨m,hn.sameBut hsb' hCa,λh' hsb=>⟨_,_,letGo I2 I'' hCle ?_ hsb,?_⟩⟩
 ·rw[Am (Ne.symm hDC)];exact hCn
 ·obtain⟨b3,d3,G3,e3,x3,s3,q3,_,h3⟩:=hq;rw[<-e3];exact h3 b3 _ (Ext.refl b3) s3 ((r.mono x3).set i q3)
end
def Eu:D->DH->R D
 |.int i,G=>.ok (.int (-i)) G
 |_,_=>.bad
noncomputable def Ii:D->Bool
 |.non=>vF
 |_=>vG
def Mf:D->D->DH->R D
 |d,.non,G=>.ok (.bl (Ii d)) G
 |_,_,_=>.bad
def J8:D->D->DH->R D
 |d,.non,G=>.ok (.bl (!Ii d)) G
 |_,_,_=>.bad
section
variable{X:Cx}{E:XK}{a b:xz}{ta tb:DE}{pos:Pos}
theorem ZPG:UnR X (unaryOp .USub) (lR1 X.K E Eu):=λvC s σ H x v Q I rx h=>by
 obtain⟨a,G,d,hk,rfl,sm,rd,q⟩:=h;cases d with
 |int i=>exact ZR6 vC s σ a.H x v Q I rx ⟨i,rd,q a _ (Ext.refl a) sm rfl⟩
 |_=>exact q.elim
theorem ZJo(ho:UnR X (unaryOp op) (lR1 X.K E f))(ha:QE X E a ta):QE X E (.UnaryOp op a pos) (dUn f ta):=(ZND ho ha).mono λσ H Q h=>by obtain⟨a,S,G,hk,rfl,s,r,h⟩:=h;refine⟨a,S,G,hk,rfl,s,r,(Dq h).imp ?_⟩;rintro v _ ⟨b,d,G1,rfl,x,s1,q,-,h1⟩;exact⟨b,G1,d,x.k.trans hk,rfl,s1,q,h1⟩
theorem ZPS(hg:Gl X x)(hm:X.mg x=vE)(hv:xM x=vD (.type n))(hn:x≠"__name__":=by decide)(hd:(x==("__debug__":Str))=vG:=by decide):QE X E (.Name x pos) (dC (.ty n)):=
 (ZHV (v:=.ty n) hg hm hv rfl hn hd).mono λσ H Q h=>N6 h λ_ _=>rfl
theorem ZGc{a:Wd}(rd:Rep a d x):decide (x=V.non)=Ii d:=by
 cases d with
 |non=>rw[show x=V.non from rd];rfl
 |bl _=>rw[show x=V.bl _ from rd];rfl
 |int _=>rw[show x=V.int _ from rd];rfl
 |str _=>rw[show x=V.str _ from rd];rfl
 |ty _=>rw[show x=V.ty _ from rd];rfl
 |tup _=>obtain⟨p,vs,rfl,_⟩:=rd;rfl
 |fl _=>obtain⟨p,vs,rfl,_⟩:=rd;rfl
 |ref _=>rw[rd.2];rfl
theorem o_is:OpR X (xP .Is) (lR2 X.K E Mf):=Fq ZRg λa G d e x y Q hk s rd re q=>by
 cases e with
 |non=>exact⟨re,by rw[ZGc rd];cases d<;>exact q a _ (Ext.refl a) s rfl⟩
 |_=>cases d<;>exact q.elim
theorem ZQx:OpR X (xP .IsNot) (lR2 X.K E J8):=Fq ZM5 λa G d e x y Q hk s rd re q=>by
 cases e with
 |non=>exact⟨re,by rw[ZGc rd];cases d<;>exact q a _ (Ext.refl a) s rfl⟩
 |_=>cases d<;>exact q.elim
end
theorem Z5:xM "isinstance"=vD (.builtin "isinstance"):=by decide +kernel
theorem ZPR:xM "all"=vD (.builtin "all"):=by decide +kernel
theorem ZL4:xM "max"=vD (.builtin "max"):=by decide +kernel
theorem ZKw:xM "min"=vD (.builtin "min"):=by decide +kernel
theorem ZKK:xM "len"=vD (.builtin "len"):=by decide +kernel
theorem Th:xM "int"=vD (.type "int"):=by decide +kernel
theorem ZNZ:xM "bool"=vD (.type "bool"):=by decide +kernel
theorem ZKB:xM "tuple"=vD (.type "tuple"):=by decide +kernel
theorem ZIM:xM "list"=vD (.type "list"):=by decide +kernel
noncomputable def Jo:xk->Bool | .local=>vF|_=>vG
noncomputable def Km:xk->Bool | .cell=>vF|_=>vG
noncomputable def Jc:xk->Bool | .free=>vF|_=>vG
noncomputable def isK(p:xk->Bool):Option xk->Bool|some k=>p k|none=>vG
theorem ZQu(h:Jo k=vF):k=.local:=by cases k<;>first|rfl|cases h
theorem ZIi(h:Km k=vF):k=.cell:=by cases k<;>first|rfl|cases h
theorem ZD0(h:Jc k=vF):k=.free:=by cases k<;>first|rfl|cases h
theorem Tj(hp:∀k',p k'=vF->k'=k)(h:isK p o=vF):o=vD k:=by
 cases o with
 |none=>cases h
 |some k'=>rw[hp _ h]
def Ui(dn:List (Str×xk))(N0 N:List Str)(names:List (Str×xk))(nt:Nat)(caps:List Nat):Bool:=
 names.all (λy=>(!Jo y.2||isK Jo (names.lookup y.1)) && !Km y.2&&(!Jc y.2||isK Km (dn.lookup y.1)||isK Jc (dn.lookup y.1)))&&decide N.Nodup&&decide (N.length=nt+caps.length) &&
 (zV caps.length).all λk=>match caps[k]? with
  |some j=>match N0[j]? with
   |some x=>decide (N[nt+k]?=vD x)&&isK Jc (names.lookup x)
   |none=>vG
  |none=>vF
theorem ZEH{X:Cx}{N0 N:List Str}{scope:x0}{nt:Nat}{caps:List Nat}{dn:List (Str×xk)}(hk:scope.kind=.function:=by rfl)(hdn:∀x,X.env.kindOf x=dn.lookup x:=by intro _;rfl)(hN:X.N=N0:=by rfl)
  (h:Ui dn N0 N scope.names nt caps=vF:=by decide +kernel):CompSc X N scope nt caps:=by
 unfold Ui at h;rw[z0,z0,z0]at h;obtain⟨⟨⟨h1,h2⟩,h3⟩,h4⟩:=h;rw[qC]at h1 h4;have key:=λ(y:Str×xk)(hy:y∈scope.names)=>(by have:=h1 y hy;rw[z0,z0]at this;exact this:((!Jo y.2||isK Jo (scope.names.lookup y.1))=vF/\(!Km y.2)=vF)/\(!Jc y.2||isK Km (dn.lookup y.1)||isK Jc (dn.lookup y.1))=vF)
 refine⟨hk,λy hy hl=>?_,λy hy hl=>?_,λy hy hl=>?_,of_decide_eq_true h2,of_decide_eq_true h3,λk j hj=>?_⟩
 ·have:=(key y hy).1.1;rw[hl]at this;exact Tj (p:=Jo) (λ_ h=>ZQu h) (by have t:(vG||isK Jo (scope.names.lookup y.1))=vF:=this;simpa using t)
 ·have:=(key y hy).1.2;rw[hl]at this;exact absurd this (by decide)
 ·have:=(key y hy).2;rw[hl,j1]at this;rw[hdn];rcases this with h|h
  ·exact .inl (Tj (p:=Km) (λ_ h=>ZIi h) (by have t:(vG||isK Km (dn.lookup y.1))=vF:=h;simpa using t))
  ·exact .inr (Tj (p:=Jc) (λ_ h=>ZD0 h) h)
 ·have hk':k<caps.length:=(zG.mp hj).1;have:=h4 k (q8.mpr hk');rw[hj]at this;dsimp only at this;cases e:N0[j]? with
  |none=>rw[e]at this;cases this
  |some x=>
   rw[e]at this;dsimp only at this;rw[z0]at this;exact⟨x,by rw[hN];exact e,of_decide_eq_true this.1,Tj (p:=Jc) (λ_ h=>ZD0 h) this.2⟩
section
section
variable{X:Cx}{vC:List (xY×Obj)}{σ:St}{H:Hp}{s:xA}
theorem ZSI(I:Inv X vC σ H s)(h:H p=vD (.lst xs)):∃o,Inv X vC σ (upd H p (.frz o (.lst xs))) s:=by
 obtain⟨hl,its,n,r,e⟩:=I.hok p _ h;have nt:∀b(u:HO),H b=vD u->u≠ .lst xs->b≠p:=λb u q d z=>by subst z;rw[h]at q;exact d (Option.some.inj q).symm
 refine⟨_,I.un (t':=s.toks) (H':=upd H p (.frz {cls:=.type "list",data:=.seq its.toArray n} (.lst xs))) ⟨λb o q _ _ _=>q,λb o q _ _ _=>⟨o.slots,q⟩,λb o q z _=>?_,λb o q _=>⟨o,q⟩,λb ys q=>?_,λb o u q=>?_,λb ps q=>⟨#[],?_⟩⟩ ?_⟩
 ·rw[Am (λz'=>by subst z';rw[h]at z;cases z)];exact z
 ·rw[Am (nt b _ q (by intro z;cases z))];exact q
 ·rw[Am (nt b _ q (by intro z;cases z))];exact q
 ·rw[Am (nt b _ q (by intro z;cases z)),Array.append_empty];exact q
 ·intro b u q;by_cases hb:b=p
  ·subst hb;rw[Ei]at q;cases q;exact⟨e,hl,its,n,r,e⟩
  ·rw[Am hb]at q;exact(I.hok b u q).stay (λc v _ z=>z) (λc z=>by rw[Am (nt c _ z (by intro z;cases z))];exact z) λc ys z=>by rw[Am (nt c _ z (by intro z;cases z))];exact z
def Fz(P:xY->Prop)(H H':Hp):Prop:=∀p,(H' p=H p/\(∀vs,H p=vD (.lst vs)->¬P p))∨∃o vs,P p/\H p=vD (.lst vs)/\H' p=vD (.frz o (.lst vs))
theorem ZHn(I:Inv X vC σ H s)(m:Nat->xY)(n:Nat):∀k:Nat,∃H',Inv X vC σ H' s/\Fz (λp=>∃i,n<=i/\i<n+k/\p=m i) H H'
 |0=>⟨H,I,λp=>.inl ⟨rfl,λ_ _ ⟨i,h1,h2,_⟩=>by lia⟩⟩
 | k + 1=>by
  obtain⟨H',I',F⟩:=ZHn I m n k;have keep:(∀vs,H' (m (n+k))≠vD (.lst vs))->Fz (λp=>∃i,n<=i/\i<n+(k+1)/\p=m i) H H':=λno p=>by
   rcases F p with⟨e,z⟩|⟨o,vs,⟨i,h1,h2,h3⟩,e1,e2⟩
   ·refine .inl ⟨e,λvs e1 ⟨i,h1,h2,h3⟩=>?_⟩;by_cases hi:i<n+k
    ·exact z vs e1 ⟨i,h1,hi,h3⟩
    ·have:i=n+k:=by lia
     subst this;subst h3;exact no vs (e.trans e1)
   ·exact .inr ⟨o,vs,⟨i,h1,by lia,h3⟩,e1,e2⟩
  cases hH:H' (m (n+k))with
  |none=>exact⟨H',I',keep λvs z=>by rw[hH]at z;cases z⟩
  | some u=>
   cases u with
   | lst vs=>
    obtain⟨o,I2⟩:=ZSI I' hH;refine⟨_,I2,λp=>?_⟩;by_cases hp:p=m (n+k)
    ·subst hp;rcases F (m (n+k))with⟨e,z⟩|⟨o',vs',_,e1,e2⟩
     ·exact .inr ⟨o,vs,⟨n+k,by lia,by lia,rfl⟩,e.symm.trans hH,Ei⟩
     ·rw[hH]at e2;cases e2
    ·rcases F p with⟨e,z⟩|⟨o',vs',⟨i,h1,h2,h3⟩,e1,e2⟩
     ·refine .inl ⟨by rw[Am hp];exact e,λvs' e1 ⟨i,h1,h2,h3⟩=>?_⟩;by_cases hi:i<n+k
      ·exact z vs' e1 ⟨i,h1,hi,h3⟩
      ·have:i=n+k:=by lia
       subst this;exact hp h3
     ·exact .inr ⟨o',vs',⟨i,h1,by lia,h3⟩,e1,by rw[Am hp];exact e2⟩
   |_=>exact⟨H',I',keep λvs z=>by rw[hH]at z;cases z⟩
end
noncomputable def Ib(f:D->Option D):List D->Option (List D)
 |[]=>vD []
 |d::r=>match f d,Ib f r with
  |some d',vD r'=>vD (d'::r')
  |_,_=>vE
def Eh(G:DH)(n:Nat):Nat->D->Option D
 |0,_=>vE
 | k+1,d=>if bel n d=vF then vD d else match d with
  |.ref i=>match G[i]? with
   |some (.lst xs)=>(Ib (Eh G n k) xs).map .fl
   |_=>vE
  |.tup xs=>(Ib (Eh G n k) xs).map .tup
  |.fl xs=>(Ib (Eh G n k) xs).map .fl
  |_=>vE
open Classical in
def freeze(G:DH)(r:R D):R D:=match r with
 | .ok d G'=>if G'.take G.length=G then(match Eh G' G.length 9 d with
   |some d'=>.ok d' G
   |none=>.ok d G')else .ok d G'
 |r=>r
def Bb(t:DE):DE:=λS G=>freeze G (t S G)
structure CutF (b c:Wd) (n:Nat):Prop where
 k:c.K=b.K
 n:c.n=n
 m:c.m=b.m
 tup:∀p xs,b.H p=vD (.tup xs)->c.H p=vD (.tup xs)
 frz:∀p o u,b.H p=vD (.frz o u)->c.H p=vD (.frz o u)
theorem CutF.sqT{b c:Wd}{n:Nat}(x:CutF b c n){p:xY}{xs:List V}(h:SqT b.K b.H p xs):SqT c.K c.H p xs:=by
 rcases h with(h|⟨o,h⟩)|h
 ·exact .inl (.inl (x.tup _ _ h))
 ·exact .inl (.inr ⟨o,x.frz _ _ _ h⟩)
 ·exact .inr (by rw[x.k];exact h)
theorem CutF.fzL{b c:Wd}{n:Nat}(x:CutF b c n){p:xY}{xs:List V}(h:FzL b.K b.H p xs):FzL c.K c.H p xs:=by
 rcases h with⟨o,h⟩|h
 ·exact .inl ⟨o,x.frz _ _ _ h⟩
 ·exact .inr (by rw[x.k];exact h)
mutual
theorem Rep.Gs(x:CutF b c n):∀{d:D}{v:V},Rep b d v->bel n d=vF->Rep c d v
 |.non,_,h,_=>h
 |.bl _,_,h,_=>h
 |.int _,_,h,_=>h
 |.str _,_,h,_=>h
 |.ty _,_,h,_=>h
 |.tup ds,v,h,q=>by obtain⟨p,vs,e,t,r⟩:=h;simp only[_D.bel]at q;exact⟨p,vs,e,x.sqT t,Reps.Gs x r q⟩
 |.fl ds,v,h,q=>by obtain⟨p,vs,e,t,r⟩:=h;simp only[_D.bel]at q;exact⟨p,vs,e,x.fzL t,Reps.Gs x r q⟩
 |.ref i,v,h,q=>by obtain⟨l,e⟩:=h;simp only[_D.bel]at q;have q':=of_decide_eq_true q;exact⟨by rw[x.n];exact q',by rw[x.m];exact e⟩
theorem Reps.Gs(x:CutF b c n):∀{ds:List D}{vs:List V},Reps b ds vs->bels n ds=vF->Reps c ds vs
 |[],_,h,_=>h
 |d::ds,vs,h,q=>by obtain⟨v,r,e,h1,h2⟩:=h;simp only[_D.bels,z0]at q;exact⟨v,r,e,Rep.Gs x h1 q.1,Reps.Gs x h2 q.2⟩
end
theorem Sv(hf:∀d d' v,f d=vD d'->Rep b d v->Rep c d' v):∀{ds ds':List D}{vs:List V},Ib f ds=vD ds'->Reps b ds vs->Reps c ds' vs
 |[],ds',vs,e,h=>by cases e;exact h
 |d::ds,ds',vs,e,h=>by
  obtain⟨v,r,rfl,h1,h2⟩:=h;unfold Ib at e;split at e
  ·rename_i d' r' e1 e2;cases e;exact⟨v,r,rfl,hf _ _ _ e1 h1,Sv hf e2 h2⟩
  ·cases e
theorem ZEW(s:Sim b G')(x:CutF b c n)(hz:∀i,n<=i->i<b.n->∀vs,b.H (b.m i)=vD (.lst vs)->∃o,c.H (b.m i)=vD (.frz o (.lst vs))):∀(k:Nat)(d d':D)(v:V),Eh G' n k d=vD d'->Rep b d v->Rep c d' v
 |0,d,d',v,e,h=>by cases e
 | k + 1,d,d',v,e,h=>by
  have ih:=ZEW s x hz k;unfold Eh at e;split at e
  ·rename_i hb;cases e;exact h.Gs x hb
  ·rename_i hb;cases d with
   | ref i=>
    dsimp only at e;split at e
    ·rename_i xs hx;rw[zM]at e;obtain⟨ys,e1,rfl⟩:=e;obtain⟨vs,e2,r2⟩:=s.obj i _ hx;obtain⟨il,rfl⟩:=h;have hi:n<=i:=by simp only[_D.bel,decide_eq_true_eq]at hb;lia
     obtain⟨o,e3⟩:=hz i hi il vs e2;exact⟨_,vs,rfl,.inl ⟨o,e3⟩,Sv ih e1 r2⟩
    ·cases e
   |tup xs=>
    dsimp only at e;rw[zM]at e;obtain⟨ys,e1,rfl⟩:=e;obtain⟨p,vs,rfl,t,r⟩:=h;exact⟨p,vs,rfl,x.sqT t,Sv ih e1 r⟩
   |fl xs=>
    dsimp only at e;rw[zM]at e;obtain⟨ys,e1,rfl⟩:=e;obtain⟨p,vs,rfl,t,r⟩:=h;exact⟨p,vs,rfl,x.fzL t,Sv ih e1 r⟩
   |_=>cases e
theorem ZCf{X:Cx}{vC:List (xY×Obj)}{σ:St}{sh:xA}{a b:Wd}{G G':DH}(s:Sim a G)(hG:G'.take G.length=G)(x:Ext a b)(sb:Sim b G')(I:Inv X vC σ b.H sh):
  ∃c:Wd,Inv X vC σ c.H sh/\Ext a c/\Sim c G/\CutF b c a.n/\∀(k:Nat)(d d':D)(v:V),Eh G' G.length k d=vD d'->Rep b d v->Rep c d' v:=by
 have hlen:∀i o,G[i]?=vD o->G'[i]?=vD o:=λi o e=>by have hi:i<G.length:=(zG.mp e).1;rw[<-hG,jk hi]at e;exact e
 obtain⟨H',I',F⟩:=ZHn I b.m a.n (b.n-a.n);have hbn:a.n+(b.n-a.n)=b.n:=by have:=x.n;lia
 rw[hbn]at F;have ct:∀p(u:HO),(∀vs,u≠ .lst vs)->b.H p=vD u->H' p=vD u:=λp u nu e=>by
  rcases F p with⟨e1,_⟩|⟨o,vs,_,e1,_⟩
  ·exact e1.trans e
  ·rw[e]at e1;exact absurd (Option.some.inj e1) (nu vs)
 have tabs:∀p,TabOk b.H p->TabOk H' p:=λp t=>t.mono (λp ps e=>ct p _ (by intro _ z;cases z) e) λp o u e=>ct p _ (by intro _ z;cases z) e
 have cc:CutF b ⟨b.K,a.n,b.m,H'⟩ a.n:=⟨rfl,rfl,rfl,λp xs e=>ct p _ (by intro _ z;cases z) e,λp o u e=>ct p _ (by intro _ z;cases z) e⟩;have old:∀i,i<a.n->H' (b.m i)=b.H (b.m i):=λi hi=>by
  rcases F (b.m i)with⟨e1,_⟩|⟨o,vs,⟨j,h1,h2,h3⟩,e1,e2⟩
  ·exact e1
  ·have:=sb.inj i j (zq hi x.n) h2 h3;lia
 refine⟨⟨b.K,a.n,b.m,H'⟩,I',⟨x.k,zY _,x.m,λp xs e=>cc.tup p xs (x.tup p xs e),λp o u e=>cc.frz p o u (x.frz p o u e),λp t=>tabs p (x.tab p t)⟩,⟨s.len,λi j hi hj=>sb.inj i j (zq hi x.n) (zq hj x.n),λi o e=>?_,λi hi=>?_⟩,cc,λk d d' v hd rb=>?_⟩
 ·show ORep ⟨b.K,a.n,b.m,H'⟩ o (H' (b.m i));rw[old i (s.lt e)];have q:=sb.obj i o (hlen i o e);have lb:=(s.obj i o e).Jt;cases o with
  |lst ds=>obtain⟨vs,e1,r1⟩:=q;exact⟨vs,e1,r1.Gs cc lb⟩
  |dct kvs=>obtain⟨us,e1,k1,r1⟩:=q;exact⟨us,e1,k1,r1.Gs cc lb⟩
  |ins c fs=>obtain⟨C,dx,us,n1,e1,k1,r1⟩:=q;exact⟨C,dx,us,n1,e1,k1,r1.Gs cc lb⟩
  |tab C m=>obtain⟨c1,P1,e1,t1⟩:=q;exact⟨c1,P1,e1,tabs _ t1⟩
  |exc c fs=>
   obtain⟨C,oe,u,vs,n1,e1,k1,k2,z⟩:=q;refine⟨C,oe,u,vs,n1,e1,k1,k2,?_⟩;rcases z with z|⟨dx,o,us,e2,f2,k3,r1⟩
   ·exact .inl z
   ·exact .inr ⟨dx,o,us,e2,cc.frz _ _ _ f2,k3,r1.Gs cc lb⟩
  |gone=>trivial
 ·show H' (b.m i)≠vE;rw[old i hi];exact sb.tr i (zq hi x.n)
 ·rw[s.len]at hd;refine ZEW sb cc (λi h1 h2 vs e=>?_) k d d' v hd rb;rcases F (b.m i)with⟨e1,z⟩|⟨o,vs',_,e1,e2⟩
  ·exact absurd ⟨i,h1,h2,rfl⟩ (z vs e)
  ·rw[e]at e1;cases e1;exact⟨o,e2⟩
theorem ZIY(s:Sim a G)(h:out E a (freeze G r) Q):
  out E a r λv H=>∀(vC:List (xY×Obj))(σ:St)(sh:xA),Inv X vC σ H sh->∃H',Inv X vC σ H' sh/\Q v H':=by
 cases r with
 |err e G'=>exact h
 |bad=>exact h
 | ok d G'=>
  intro b v x sb rb vC σ sh I;unfold freeze at h;dsimp only at h;split at h
  ·rename_i hG;split at h
   ·rename_i d' hd;obtain⟨c,Ic,xc,sc,cc,hr⟩:=ZCf s hG x sb I;exact⟨c.H,Ic,h c v xc sc (hr _ _ _ _ hd rb)⟩
   ·exact⟨_,I,h b v x sb rb⟩
  ·exact⟨_,I,h b v x sb rb⟩
theorem ZMA(ha:QE X E e t):QE X E e (Bb t):=λvC s σ H Q I h=>by
 obtain⟨a,S,G,hk,rfl,sm,r,h⟩:=h;refine thn (ha vC s σ a.H _ I ⟨a,S,G,hk,rfl,sm,r,ZIY (X:=X) sm h⟩) λu s' ⟨v,H',I',rv,q⟩=>?_
 obtain⟨H2,I2,q2⟩:=q vC σ s' I';exact⟨v,H2,I2,rv,q2⟩
theorem ZId {X:Cx} {E:XK} {st:xB} {t:DE} {i:Nat} (ha:QS X E st (sAs t (gV i))):QS X E st (sAs (Bb t) (gV i)):=λvC s σ H W I h=>by
 obtain ⟨a,S,G,hk,rfl,sm,r,h⟩:=h;have h2:Bm E a (sAs t (gV i) S G) {W with nx:=λσ H=>∀(vC:List (xY×Obj))(sh:xA),Inv X vC σ H sh->∃H',Inv X vC σ H' sh/\W.nx σ H'}:=by
  unfold sAs Bb at h;unfold sAs;cases ht:t S G with
  |err e G'=>rw[ht]at h;exact h
  |bad=>rw[ht]at h;exact h
  | ok d G'=>
   rw[ht]at h;intro b σ' x sb rb vC sh I;unfold freeze at h;dsimp only at h;split at h
   ·rename_i hG;split at h
    ·rename_i d' hd;obtain⟨c,Ic,xc,sc,cc,hr⟩:=ZCf sm hG x sb I;refine⟨c.H,Ic,h c σ' xc sc ⟨?_,λj e he=>?_⟩⟩
     ·rw[j0,<-rb.len,j0]
     ·rw[qP]at he;by_cases hij:i=j
      ·subst hij;rw[if_pos rfl]at he;by_cases hl:i<S.length
       ·rw[if_pos hl]at he;have e1:d'=e:=by simpa using he
        subst e1;obtain⟨v,e2,rv⟩:=rb.get i d (by rw[qP,if_pos rfl,if_pos hl]);exact⟨v,e2,hr _ _ _ _ hd rv⟩
       ·rw[if_neg hl]at he;cases he
      ·rw[if_neg hij]at he;obtain⟨v,e2,rv⟩:=rb.get j e (by rw[qP,if_neg hij];exact he);obtain⟨v',_,rv'⟩:=r.get j e he;exact⟨v,e2,rv.Gs cc rv'.bel⟩
    ·exact⟨_,I,h b σ' x sb rb⟩
   ·exact⟨_,I,h b σ' x sb rb⟩
 refine thn (ha vC s σ a.H _ I ⟨a,S,G,hk,rfl,sm,r,h2⟩) λf s' hf=>?_
 cases f with
 |next=>
  obtain⟨σ',H',I',q⟩:=hf;obtain⟨H2,I2,q2⟩:=q vC s' I';exact⟨σ',H2,I2,q2⟩
 |brk=>exact hf
 |cont=>exact hf
 |ret u=>exact hf
end
section
variable{S:DSt}{G:DH}
@[simp]theorem Zt:dV i S G=(match S[i]? with |some (vD d)=>.ok d G|_=>.bad):=id rfl
@[simp]theorem ev_C:dC d S G=.ok d G:=id rfl
@[simp]theorem ev_Op:dOp f a b S G=(a S G).bind λx G1=>(b S G1).bind λy G2=>f x y G2:=id rfl
@[simp]theorem ev_Un:dUn f a S G=(a S G).bind f:=id rfl
@[simp]theorem ev_Nil:Ac S G=.ok [] G:=id rfl
@[simp]theorem ZTM:Aa a r S G=(a S G).bind λx G1=>(r S G1).bind λxs G2=>.ok (x::xs) G2:=id rfl
@[simp]theorem ev_Fn:dFn f t S G=(t S G).bind f:=id rfl
@[simp]theorem ZSw:Cj t S G=tidy G (t S G):=id rfl
@[simp]theorem ev_Frz:Bb t S G=freeze G (t S G):=id rfl
@[simp]theorem ev_asB:asB (.bl k) G=.ok k G:=id rfl
@[simp]theorem ev_Tst:Ak t S G=(t S G).bind asB:=id rfl
@[simp]theorem ev_And:Jr t u S G=(t S G).bind λk G1=>if k=vF then u S G1 else .ok vG G1:=id rfl
@[simp]theorem ev_Or:dOr t u S G=(t S G).bind λk G1=>if k=vF then .ok vF G1 else u S G1:=id rfl
@[simp]theorem ev_Not:Hy t S G=(t S G).bind λk G1=>.ok (!k) G1:=id rfl
@[simp]theorem ZTG:Gd t u S G=(t S G).bind λx G1=>(asB x G1).bind λk G2=>if k=vF then u S G2 else .ok (.bl vG) G2:=id rfl
@[simp]theorem ev_OrV:N5 t u S G=(t S G).bind λx G1=>(asB x G1).bind λk G2=>if k=vF then .ok (.bl vF) G2 else u S G2:=id rfl
@[simp]theorem ZTV:N8 t S G=(t S G).bind λx G1=>(asB x G1).bind λk G2=>.ok (.bl (!k)) G2:=id rfl
@[simp]theorem ev_If:dIf c t u S G=(c S G).bind λk G1=>if k=vF then t S G1 else u S G1:=id rfl
@[simp]theorem ZSu:O4 f g a b c S G=(a S G).bind λx G1=>(b S G1).bind λy G2=>(f x y G2).bind λz G3=>(asB z G3).bind λk G4=>
 if k=vF then(c S G4).bind λw G5=>g y w G5 else .ok (.bl vG) G4:=id rfl
@[simp]theorem ev_sNx:sNx S G=.nx S G:=id rfl
noncomputable def SR.then(r:SR)(u:DS):SR:=match r with
 |.nx S1 G1=>u S1 G1
 |r=>r
@[simp]theorem Rf:Ad t u S G=(t S G).then u:=id rfl
@[simp]theorem Ud:(SR.nx S G).then u=u S G:=id rfl
@[simp]theorem ZTe:(SR.rt d G).then u=.rt d G:=id rfl
@[simp]theorem ZTP:(SR.err x G).then u=.err x G:=id rfl
@[simp]theorem ev_sEx:sEx t S G=(t S G).toS λ_ G1=>.nx S G1:=id rfl
@[simp]theorem ev_sRt:sRt t S G=(t S G).toS λd G1=>.rt d G1:=id rfl
@[simp]theorem ev_sIf:sIf c t u S G=(c S G).toS λk G1=>if k=vF then t S G1 else u S G1:=id rfl
@[simp]theorem ev_sAs:sAs t g S G=(t S G).toS λd G1=>(g d S G1).toS λS2 G2=>.nx S2 G2:=id rfl
@[simp]theorem ev_sAu:sAu i t f S G=(match S[i]? with
 |some (vD x)=>(t S G).toS λy G1=>(f x y G1).toS λz G2=>.nx (S.set i (vD z)) G2
 |_=>.bad):=id rfl
@[simp]theorem ZTf:Ci it g b S G=(it S G).toS λJ G1=>(match J with
 |.pure xs=>Av g b xs S G1
 |.mt i=>match G1[i]? with
  |some (.lst xs)=>forM i g b xs.length 0 S G1
  |_=>.bad
 |.fn n f=>Cy f g b n 0 S G1):=id rfl
@[simp]theorem ZKP:Ds t S G=(t S G).bind Ec:=id rfl
@[simp]theorem ZTi:Br f t S G=(t S G).bind f:=id rfl
@[simp]theorem Cd:gV i d S G=.ok (S.set i (vD d)) G:=id rfl
@[simp]theorem Og:Bd [] S G=.ok S G:=id rfl
@[simp]theorem Oe:Af t u (d::r) S G=(t d S G).bind λS1 G1=>u r S1 G1:=id rfl
@[simp]theorem Pj:Ba n t (.tup ds) S G=if ds.length=n then t ds S G else .bad:=id rfl
@[simp]theorem ev_gIx:gIx o i v S G=(o S G).bind λo G1=>(i S G1).bind λi G2=>(J0 o i v G2).bind λ_ G3=>.ok S G3:=id rfl
@[simp]theorem ev_MtL:De f o t S G=(o S G).bind λx G1=>if isL x G1=vF then(t S G1).bind λxs G2=>f x xs G2 else .bad:=id rfl
@[simp]theorem ZKq:Cm it nt caps g c te S G=(it S G).bind λJ G1=>(match J with
 |.pure xs=>Cu g c te (Ay nt caps S) xs G1
 |.mt i=>match G1[i]? with
  |some (.lst xs)=>Ez i g c te (Ay nt caps S) xs.length 0 G1
  |_=>.bad
 |.fn n f=>Dg f g c te (Ay nt caps S) n 0 G1).bind Ah:=id rfl
@[simp]theorem ZOb:Bh S G=.ok vF G:=id rfl
@[simp]theorem Ce:aft (.nx S G) k=k S G:=id rfl
@[simp]theorem ZK2:aft (.rt d G) k=.rt d G:=id rfl
@[simp]theorem ZLE:aft (.err x G) k=.err x G:=id rfl
theorem Dj:Av g b [] S G=.nx S G:=id rfl
theorem Cg:Av g b (x::xs) S G=(g x S G).toS λS1 G1=>aft (b S1 G1) (Av g b xs):=id rfl
theorem V1:Cu g c te S (x::xs) G=(g x S G).bind λS1 G1=>(c S1 G1).bind λk G2=>
   if k=vF then(te S1 G2).bind λd G3=>(Cu g c te S xs G3).bind λds G4=>.ok (d::ds) G4 else Cu g c te S xs G2:=id rfl
noncomputable def SR.ret(r:SR):R D:=match r with
 |.nx _ G'=>.ok .non G'
 |.rt d G'=>.ok d G'
 |.err x G'=>.err x G'
 |_=>.bad
@[simp]theorem ZNk:(SR.nx S G).ret=.ok .non G:=id rfl
@[simp]theorem ret_rt:(SR.rt d G).ret=.ok d G:=id rfl
@[simp]theorem ZTS:(SR.err x G).ret=.err x G:=id rfl
theorem Ar:Ao np nl b ds G=if ds.length=np then tidy G (b (ds.map vD++zX nl vE) G).ret else .bad:=id rfl
end
section
variable{n:Nat}{G:DH}
@[simp]theorem ZTn:bel n .non=vF:=by simp[_D.bel]
@[simp]theorem bel_bl:bel n (.bl b)=vF:=by simp[_D.bel]
@[simp]theorem ZOE:bel n (.int b)=vF:=by simp[_D.bel]
@[simp]theorem ZTl:bel n (.str b)=vF:=by simp[_D.bel]
@[simp]theorem ZTB:bel n (.tup b)=bels n b:=by simp[_D.bel]
@[simp]theorem bel_fl:bel n (.fl b)=bels n b:=by simp[_D.bel]
@[simp]theorem ZTK:bel n (.ref b)=decide (b<n):=by simp[_D.bel]
@[simp]theorem ZTj:bels n []=vF:=by simp[_D.bels]
@[simp]theorem ZJA:bels n (d::ds)=(bel n d&&bels n ds):=by simp[_D.bels]
theorem ZNb:bels n ds=vF↔∀d∈ds,bel n d=vF:=by
 induction ds with
 |nil=>simp
 |cons d ds ih=>simp[ih]
theorem Dt{f:α->D}{xs:List α}(h:∀x∈xs,bel n (f x)=vF):bels n (xs.map f)=vF:=by rw[ZNb];intro d hd;obtain⟨x,hx,rfl⟩:=zD.mp hd;exact h x hx
@[simp]theorem ZFT{xs:List Int}:bels n (xs.map D.int)=vF:=Dt λ_ _=>ZOE
theorem Bo(h:bel G.length d=vF):tidy G (.ok d G)=.ok d G:=by unfold tidy;simp[h]
theorem Hm(h:bel G.length d=vF):tidy G (.ok d (G++L))=.ok d G:=by unfold tidy;simp[h]
theorem Zi(L:DH)(hk:L[k]?=vD (.lst ds))(h:bels G.length ds=vF):tidy G (.ok (.ref (G.length+k)) (G++L))=.ok (.ref G.length) (G++[.lst ds]):=by
 unfold tidy;have e:(G++L)[G.length+k]?=vD (.lst ds):=by rw[zL (by lia)];simpa using hk
 simp[e,Jt,h]
theorem Df{ds:List D}{L:DH}(h:bels G.length ds=vF):tidy G (.ok (.ref G.length) (G++ .lst ds::L))=.ok (.ref G.length) (G++[.lst ds]):=Zi (.lst ds::L) (k:=0) rfl h
theorem I8(h:bel G.length d=vF):freeze G (.ok d G)=.ok d G:=by unfold freeze;simp[h,Eh]
theorem ZAY{n:Nat}:∀{ds:List D},bels n ds=vF->Ib (Eh G' n (k+1)) ds=vD ds
 |[],_=>rfl
 |d::ds,h=>by simp only[ZJA,z0]at h;unfold Ib;rw[ZAY h.2];simp[Eh,h.1]
theorem ZSN(L:DH)(hk:L[k]?=vD (.lst ds))(h:bels G.length ds=vF):freeze G (.ok (.ref (G.length+k)) (G++L))=.ok (.fl ds) G:=by
 unfold freeze;have e:(G++L)[G.length+k]?=vD (.lst ds):=by rw[zL (by lia)];simpa using hk
 have m:Eh (G++L) G.length 9 (.ref (G.length+k))=vD (.fl ds):=by unfold Eh;simp[e,ZAY h]
 simp[m]
theorem Du{ds:List D}{L:DH}(h:bels G.length ds=vF):freeze G (.ok (.ref G.length) (G++ .lst ds::L))=.ok (.fl ds) G:=ZSN (.lst ds::L) (k:=0) rfl h
theorem O3(L:DH)(k:Nat):(G++L)[G.length+k]?=L[k]? :=by rw[zL (by lia)];simp
theorem Bu(L:DH):(G++L)[G.length]?=L[0]? :=O3 L 0
theorem R4(L:DH)(k:Nat)(o:DO):(G++L).set (G.length+k) o=G++L.set k o:=by rw[jL _ _ (by lia)];simp
theorem Dk(L:DH)(o:DO):(G++L).set G.length o=G++L.set 0 o:=R4 L 0 o
theorem Lf{lo:Int}:Bk lo 0=[]:=id rfl
theorem Hu{lo:Int}{n:Nat}:Bk lo (n+1)=.int lo::Bk (lo+1) n:=by
 unfold Bk;rw[qT,zE,jx]
 congr 1
 ·simp
 ·apply qE;intro k _;simp only[Function.comp]
  congr 1
  lia
end
section
variable{G:DH}{i j:Int}{x y:Str}{k l:Bool}
@[simp]theorem ev_add:Aj (.int i) (.int j) G=.ok (.int (i+j)) G:=id rfl
@[simp]theorem ZTX:Aj (.str x) (.str y) G=if x.length+y.length<=1000000 then .ok (.str (x++y)) G else .bad:=id rfl
@[simp]theorem ev_ip:Jb (.int i) (.int j) G=.ok (.int (i+j)) G:=id rfl
@[simp]theorem ev_sub:Do (.int i) (.int j) G=.ok (.int (i-j)) G:=id rfl
theorem log2_small(h:n<10^100):n.log2<9000:=by
 by_cases hn:n=0
 ·subst hn;decide
 ·rw[Nat.log2_lt hn];exact Nat.lt_trans h (by decide)
@[simp]theorem ZS2{n:Nat}[NeZero n](h:n<10^100):Bx (.int i) (.int (no_index (OfNat.ofNat n))) G=.ok (.int (i/OfNat.ofNat n)) G:=
 if_pos ⟨Int.ofNat_lt.mpr (Nat.pos_of_ne_zero (NeZero.ne n)),log2_small h⟩
@[simp]theorem ev_mod:Aw (.int i) (.int j) G=if 0<j then .ok (.int (i%j)) G else .bad:=id rfl
@[simp]theorem ev_pow:Hc (.int i) (.int j) G=if 0<=j/\j<=1000000/\i.natAbs<18446744073709551616 then .ok (.int (i^j.toNat)) G else .bad:=id rfl
@[simp]theorem ev_lt:Gm (.int i) (.int j) G=.ok (.bl (decide (i<j))) G:=id rfl
@[simp]theorem ev_le:Pu (.int i) (.int j) G=.ok (.bl (decide (i<=j))) G:=id rfl
@[simp]theorem ev_gt:Gf (.int i) (.int j) G=.ok (.bl (decide (j<i))) G:=id rfl
@[simp]theorem ev_ge:Ro (.int i) (.int j) G=.ok (.bl (decide (j<=i))) G:=id rfl
@[simp]theorem ev_eq:Bf (.int i) (.int j) G=.ok (.bl (decide (i=j))) G:=id rfl
@[simp]theorem ev_ne:Dw (.int i) (.int j) G=.ok (.bl (!decide (i=j))) G:=id rfl
@[simp]theorem ev_eqS:Bf (.str x) (.str y) G=.ok (.bl (decide (x=y))) G:=id rfl
@[simp]theorem ev_neB:Dw (.bl k) (.bl l) G=.ok (.bl (!(k==l))) G:=id rfl
@[simp]theorem ev_neg:Eu (.int i) G=.ok (.int (-i)) G:=id rfl
@[simp]theorem ev_is:Mf d .non G=.ok (.bl (Ii d)) G:=by cases d<;>exact id rfl
@[simp]theorem ZS4:J8 d .non G=.ok (.bl (!Ii d)) G:=by cases d<;>exact id rfl
@[simp]theorem ZTp:Ii .non=vF:=id rfl
@[simp]theorem ZSx:Ii (.int i)=vG:=id rfl
@[simp]theorem ZS1:Ii (.tup ds)=vG:=id rfl
@[simp]theorem ev_max:Q8 [.int i,.int j] G=.ok (.int (max i j)) G:=by
 show R.ok (D.int (if j>i then j else i)) G=_
 congr 2
 split <;> lia
@[simp]theorem ev_min:Im [.int i,.int j] G=.ok (.int (min i j)) G:=by
 show R.ok (D.int (if j<i then j else i)) G=_
 congr 2
 split <;> lia
@[simp]theorem ZTa:Kg [.bl k] G=.ok (.int (if k then 1 else 0)) G:=id rfl
@[simp]theorem ZS5:Bc (.tup ds) G=vD ds:=id rfl
@[simp]theorem ZTF:Bc (.fl ds) G=vD ds:=id rfl
@[simp]theorem ZAs:Bc (.ref n) G=(match G[n]? with |some (.lst xs)=>vD xs|_=>vE):=id rfl
@[simp]theorem ZTR:Bp [.tup ds] G=.ok (.int ds.length) G:=id rfl
@[simp]theorem ZTU:Bp [.fl ds] G=.ok (.int ds.length) G:=id rfl
@[simp]theorem ZSy:Bp [.ref n] G=(match G[n]? with |some (.lst xs)=>.ok (.int xs.length) G|_=>.bad):=by
 unfold Bp;simp only[ZAs];cases G[n]? with
 |none=>rfl
 |some o=>cases o<;>rfl
@[simp]theorem ev_ixT:Ae (.tup ds) (.int i) G=(match atI ds i with |some v=>.ok v G|none=>.bad):=id rfl
@[simp]theorem ev_ixF:Ae (.fl ds) (.int i) G=(match atI ds i with |some v=>.ok v G|none=>.bad):=id rfl
@[simp]theorem ev_ixR:Ae (.ref n) (.int i) G=(match G[n]? with |some (.lst xs)=>(match atI xs i with |some v=>.ok v G|none=>.bad)|_=>.bad):=by
 unfold Ae;simp only[ZAs];cases G[n]? with
 |none=>rfl
 |some o=>cases o<;>rfl
theorem Gk{n k:Nat}(h:k<n):ixN n (k:Int)=vD k:=by unfold ixN;rw[if_pos (by lia),if_pos (by lia)];simp
theorem ZRz{xs:List α}{k:Nat}{d:α}(h:xs[k]?=vD d):atI xs (k:Int)=vD d:=by unfold atI;rw[Gk (zG.mp h).1];exact h
theorem Dp{xs:List α}{j:Int}{k:Nat}{d:α}(e:j=k)(h:xs[k]?=vD d):atI xs j=vD d:=by subst e;exact ZRz h
theorem ZB5{xs:List α}{j:Int}(h0:j<0)(h: -(xs.length:Int)<=j):atI xs j=vD (xs[(j+xs.length).toNat]'(by lia)):=by unfold atI ixN;rw[if_neg (by lia),if_pos h];exact zZ (by lia)
@[simp]theorem atI_0{a:α}{xs:List α}:atI (a::xs) 0=vD a:=Dp (k:=0) rfl rfl
@[simp]theorem atI_1{a b:α}{xs:List α}:atI (a::b::xs) 1=vD b:=Dp (k:=1) rfl rfl
@[simp]theorem atI_2{a b c:α}{xs:List α}:atI (a::b::c::xs) 2=vD c:=Dp (k:=2) rfl rfl
@[simp]theorem atI_3{a b c d:α}{xs:List α}:atI (a::b::c::d::xs) 3=vD d:=Dp (k:=3) rfl rfl
@[simp]theorem atI_4{a b c d e:α}{xs:List α}:atI (a::b::c::d::e::xs) 4=vD e:=Dp (k:=4) rfl rfl
@[simp]theorem atI_5{a b c d e f:α}{xs:List α}:atI (a::b::c::d::e::f::xs) 5=vD f:=Dp (k:=5) rfl rfl
@[simp]theorem atI_6{a b c d e f g:α}{xs:List α}:atI (a::b::c::d::e::f::g::xs) 6=vD g:=Dp (k:=6) rfl rfl
@[simp]theorem ZTJ:An ds G=if ds.length<=1000000 then .ok (.tup ds) G else .bad:=id rfl
@[simp]theorem ZTd:Ah ds G=if ds.length<=1000000 then .ok (.ref G.length) (G++[.lst ds])else .bad:=id rfl
@[simp]theorem ZTo:Ek [.fl ds] G=.ok (.tup ds) G:=id rfl
@[simp]theorem ZTC:Ek [.ref n] G=(match G[n]? with |some (.lst xs)=>.ok (.tup xs) G|_=>.bad):=by
 unfold Ek;simp only[ZAs];cases G[n]? with
 |none=>rfl
 |some o=>cases o<;>rfl
@[simp]theorem ev_itT:Ec (.tup ds) G=.ok (.pure ds) G:=id rfl
@[simp]theorem ev_itF:Ec (.fl ds) G=.ok (.pure ds) G:=id rfl
@[simp]theorem ZTD:rng1 [.int j] G=if inR j then .ok (.pure (Bk 0 j.toNat)) G else .bad:=id rfl
theorem Fo(h0: -1000000000<=i)(h:i<=1000000000):inR i:=⟨by lia,by lia⟩
@[simp]theorem ZS3:isL (.fl ds) G=vF:=id rfl
@[simp]theorem ZTW:isL (.ref n) G=(match G[n]? with |some (.lst _)=>vF|_=>vG):=id rfl
@[simp]theorem ev_app:Dl (.ref n) [d] G=(match G[n]? with |some (.lst xs)=>if xs.length<1000000 then .ok .non (G.set n (.lst (xs++[d])))else .bad|_=>.bad):=id rfl
@[simp]theorem ZSp:J0 (.ref n) (.int i) d G=(match G[n]? with |some (.lst xs)=>(match ixN xs.length i with |some j=>.ok .non (G.set n (.lst (xs.set j d)))|none=>.bad)|_=>.bad):=id rfl
@[simp]theorem ev_all{ks:List Bool}:Ky [.fl (ks.map D.bl)] G=.ok (.bl (ks.all id)) G:=by simp[Ky]
@[simp]theorem ZS7:Dz [d,.ty "int"] G=(match tyD G d with |some .int=>.ok (.bl vF) G|some .bl=>.ok (.bl vF) G|some _=>.ok (.bl vG) G|none=>.bad):=by
 unfold Dz;dsimp only;cases tyD G d with
 |none=>rfl
 |some t=>cases t<;>rfl
@[simp]theorem ZS0:Dz [d,.ty "bool"] G=(match tyD G d with |some .bl=>.ok (.bl vF) G|some _=>.ok (.bl vG) G|none=>.bad):=by
 unfold Dz;dsimp only;cases tyD G d with
 |none=>rfl
 |some t=>cases t<;>rfl
@[simp]theorem ZTh:Dz [d,.ty "tuple"] G=(match tyD G d with |some .tup=>.ok (.bl vF) G|some _=>.ok (.bl vG) G|none=>.bad):=by
 unfold Dz;dsimp only;cases tyD G d with
 |none=>rfl
 |some t=>cases t<;>rfl
@[simp]theorem ZSq:Dz [d,.ty "list"] G=(match tyD G d with |some .lst=>.ok (.bl vF) G|some _=>.ok (.bl vG) G|none=>.bad):=by
 unfold Dz;dsimp only;cases tyD G d with
 |none=>rfl
 |some t=>cases t<;>rfl
end
section
variable{c:Prop}[Decidable c]
@[simp]theorem ite_ok{a b:α}:(if c then R.ok a G else R.ok b G)=R.ok (if c then a else b) G:=by split <;> rfl
end
def Ep:D->Option Key
 |.int i=>vD (.inl i)
 |.str x=>vD (.inr x)
 |_=>vE
section
variable{X:Cx}{E:XK}
end
section
variable{S:DSt}{G:DH}{n:Nat}{kvs:List (Key×D)}
end
section
noncomputable def okD:Nat->D->Bool
 |0,_=>vG
 |_+1,.non=>vF
 |_+1,.int _=>vF
 |_+1,.str _=>vF
 |n+1,.tup ds=>ds.all (okD n)
 |n+1,.fl ds=>ds.all (okD n)
 |_+1,_=>vG
theorem ZBM{f:D->D->Option Bool}{P:D->Prop}(hf:∀x y,P x->P y->∃b,f x y=vD b/\(b=vF↔x=y)):∀{xs ys:List D},(∀x∈xs,P x)->(∀y∈ys,P y)->
  ∃b,eqZ f xs ys=vD b/\(b=vF↔xs.take ys.length=ys.take xs.length)
 |[],ys,_,_=>⟨vF,by cases ys<;>rfl,by simp⟩
 |x::xs,[],_,_=>⟨vF,rfl,by simp⟩
 |x::xs,y::ys,hx,hy=>by obtain⟨b,e1,h1⟩:=hf x y (hx x (by simp)) (hy y (by simp));obtain⟨c,e2,h2⟩:=ZBM hf (λz hz=>hx z (zJ _ hz)) (λz hz=>hy z (zJ _ hz));refine⟨b&&c,by simp[eqZ,e1,e2],?_⟩;simp[h1,h2]
theorem T6{G:DH}:∀(n:Nat)(d e:D),okD n d=vF->okD n e=vF->∃b,eqD n G d e=vD b/\(b=vF↔d=e)
 |0,d,e,h,_=>by cases h
 | n+1,d,e,h1,h2=>by
  have ih:=T6 (G:=G) n;cases d with
  |bl _=>simp[okD]at h1
  |ty _=>simp[okD]at h1
  |ref _=>simp[okD]at h1
  | tup xs=>
   cases e with
   |bl _=>simp[okD]at h2
   |ty _=>simp[okD]at h2
   |ref _=>simp[okD]at h2
   |tup ys=>
    simp only[okD,qC]at h1 h2;obtain⟨b,e1,h3⟩:=ZBM ih (λx hx=>h1 x hx) (λx hx=>h2 x hx);refine⟨b&&xs.length==ys.length,by simp[eqD,view,e1],?_⟩;simp only[z0,h3,beq_iff_eq,D.tup.injEq];constructor
    ·rintro⟨e,hl⟩;rw[<-hl,jM]at e;rw[e,hl,jM]
    ·rintro rfl;exact⟨rfl,rfl⟩
   |_=>exact⟨vG,by simp[eqD,view],by simp⟩
  | fl xs=>
   cases e with
   |bl _=>simp[okD]at h2
   |ty _=>simp[okD]at h2
   |ref _=>simp[okD]at h2
   |fl ys=>
    simp only[okD,qC]at h1 h2;by_cases hl:xs.length=ys.length
    ·obtain⟨b,e1,h3⟩:=ZBM ih (λx hx=>h1 x hx) (λx hx=>h2 x hx);refine⟨b,by simp[eqD,view,hl,e1],?_⟩;rw[h3,<-hl,jM,hl,jM];simp
    ·exact⟨vG,by simp[eqD,view,hl],by simp;rintro rfl;exact hl rfl⟩
   |_=>exact⟨vG,by simp[eqD,view],by simp⟩
  |non=>cases e<;>first|(simp[okD]at h2;done)|exact⟨_,rfl,by simp[eqV]⟩
  |int i=>cases e<;>first|(simp[okD]at h2;done)|exact⟨_,rfl,by simp[eqV]⟩
  |str i=>cases e<;>first|(simp[okD]at h2;done)|exact⟨_,rfl,by simp[eqV]⟩
open Classical in
theorem ZPH(h1:okD 30 d=vF)(h2:okD 30 e=vF):Bf d e G=.ok (.bl (decide (d=e))) G:=by
 obtain⟨b,e1,h⟩:=T6 (G:=G) 30 d e h1 h2;unfold Bf;rw[e1];cases b with
 |true=>simp[h.mp rfl]
 |false=>simp[show¬d=e from λz=>zk (h.mpr z)]
open Classical in
theorem ZQU(h1:okD 30 d=vF)(h2:okD 30 e=vF):Dw d e G=.ok (.bl (!decide (d=e))) G:=by
 obtain⟨b,e1,h⟩:=T6 (G:=G) 30 d e h1 h2;unfold Dw;rw[e1];cases b with
 |true=>simp[h.mp rfl]
 |false=>simp[show¬d=e from λz=>zk (h.mpr z)]
theorem Za(h1:okD 30 d=vF):Bf d d G=.ok (.bl vF) G:=by rw[ZPH h1 h1];simp
theorem ZD8(h1:okD 30 d=vF):Dw d d G=.ok (.bl vG) G:=by rw[ZQU h1 h1];simp
theorem Ng(h:∀d∈ds,okD n d=vF):okD (n+1) (.tup ds)=vF:=by simpa[okD]using h
theorem ZFt(h:∀d∈ds,okD n d=vF):okD (n+1) (.fl ds)=vF:=by simpa[okD]using h
end
def cutD{α:Type}(xs:List α)(lo hi:Option Int):List α:=(xs.drop (HT.sIx xs.length 0 lo)).take (HT.sIx xs.length xs.length hi-HT.sIx xs.length 0 lo)
def Qa(z:Str)(lo hi:Option Int):Str:=⟨(cutD z.cps.toList lo hi).toArray⟩
theorem ZNA(xs:List α)(lo hi:Option Int):(cutD xs lo hi).length<=xs.length:=by unfold cutD;rw[j6,jI];lia
def Ho(t:Option DE)(S:DSt)(G:DH):R (Option Int):=match t with
 |none=>.ok vE G
 |some t=>(t S G).bind λd G1=>match d with
  |.int i=>.ok (vD i) G1
  |_=>.bad
def Kv(d:D)(lo hi:Option Int)(G:DH):R D:=match d with
 |.str z=>if z.length<=1000000 then .ok (.str (Qa z lo hi)) G else .bad
 |.tup xs=>.ok (.tup (cutD xs lo hi)) G
 |d=>match Fi d G with
  |some xs=>.ok (.ref G.length) (G++[.lst (cutD xs lo hi)])
  |none=>.bad
def dSl(e:DE)(lo hi:Option DE):DE:=λS G=>(e S G).bind λd G1=>(Ho lo S G1).bind λl G2=>(Ho hi S G2).bind λh G3=>Kv d l h G3
theorem Ue(n:Nat)(v:Int):((HT.sIx n n (vD v):Nat):Int)=max 0 (min (if v<0 then v+(n:Int)else v) n)/\((HT.sIx n 0 (vD v):Nat):Int)=max 0 (min (if v<0 then v+(n:Int)else v) n):=by
 unfold HT.sIx;by_cases hv:v<0
 ·simp only[if_pos hv];lia
 ·simp only[if_neg hv];lia
theorem ZQA(xs:Array Nat)(i k:Nat):(zV k).filterMap (λm=>xs[i+m]?)=(xs.toList.drop i).take k:=by
 induction k generalizing i with
 |zero=>simp
 | succ k ih=>
  rw[qT,qK];have e:(List.map Nat.succ (zV k)).filterMap (λm=>xs[i+m]?)=(zV k).filterMap (λm=>xs[i+1+m]?):=by
   rw[qq]
   congr 1
   funext m;simp only[Function.comp]
   congr 1
   lia
  rw[e,ih (i+1)];by_cases hi:i<xs.size
  ·have h1:xs[i+0]?=vD xs[i]:=by simp[hi]
   rw[h1];have h2:xs.toList.drop i=xs[i]::xs.toList.drop (i+1):=by rw[zO (by simpa using hi)];simp
   rw[h2];simp
  ·have h1:xs[i+0]?=vE:=by simp;lia
   rw[h1];simp only;rw[zU (by simp;lia),zU (by simp;lia)];simp
theorem ZKx(x:Str)(lo hi:Option Int):Txt.slice x lo hi=Qa x lo hi:=by
 have hlen:x.length=x.cps.toList.length:=by simp[Str.length]
 have key:(Builtin.Str.strSliceIndices lo hi 1 x.length).filterMap (x.cps[·]?)=cutD x.cps.toList lo hi:=by
  have e1:∀(v:Option Int),(match v with |none=>(0:Int)|some i=>max 0 (min (if i<0 then i+(x.length:Int)else i) x.length))=((HT.sIx x.length 0 v:Nat):Int):=λv=>by
   cases v with
   |none=>rfl
   |some i=>exact(Ue x.length i).2.symm
  have e2:∀(v:Option Int),(match v with |none=>(x.length:Int)|some i=>max 0 (min (if i<0 then i+(x.length:Int)else i) x.length))=((HT.sIx x.length x.length v:Nat):Int):=λv=>by
   cases v with
   |none=>rfl
   |some i=>exact(Ue x.length i).1.symm
  have e3:Builtin.Str.strSliceIndices lo hi 1 x.length=sliceRange ((HT.sIx x.length 0 lo:Nat):Int) ((HT.sIx x.length x.length hi:Nat):Int) 1:=by
   rw[<-e1 lo,<-e2 hi];unfold Builtin.Str.strSliceIndices
   cases lo<;>cases hi<;>simp
  rw[e3];unfold sliceRange cutD;rw[qq,<-hlen];generalize HT.sIx x.length 0 lo=i;generalize HT.sIx x.length x.length hi=j;have e4:((λa=>x.cps[a]?) ∘ λ(k:Nat)=>((i:Int)+1*(k:Int)).toNat)=λk=>x.cps[i+k]? :=by
   funext k;simp only[Function.comp]
   congr 1
   lia
  have e5:(if(1:Int)>0 then if(i:Int)<(j:Int)then((j:Int)-i+1-1)/1 else 0 else if(i:Int)>(j:Int)then((i:Int)-j-1-1) / -1 else 0).toNat=j-i:=by
   rw[if_pos (by lia)];split
   ·rw[Int.ediv_one];lia
   ·lia
  rw[e4,e5];exact ZQA x.cps i (j-i)
 unfold Txt.slice Qa;split
 ·rename_i h;have h':(Builtin.Str.strSliceIndices lo hi 1 x.length).length=x.length:=by simpa using h
  have hsz:(cutD x.cps.toList lo hi).length=x.cps.toList.length∨(cutD x.cps.toList lo hi).length<x.cps.toList.length:=by have:=ZNA x.cps.toList lo hi;lia
  have hall:(cutD x.cps.toList lo hi).length=x.cps.toList.length:=by
   have e3:(Builtin.Str.strSliceIndices lo hi 1 x.length).length=HT.sIx x.length x.length hi-HT.sIx x.length 0 lo:=by
    have e1:∀(v:Option Int),(match v with |none=>(0:Int)|some i=>max 0 (min (if i<0 then i+(x.length:Int)else i) x.length))=((HT.sIx x.length 0 v:Nat):Int):=λv=>by
     cases v with
     |none=>rfl
     |some i=>exact(Ue x.length i).2.symm
    have e2:∀(v:Option Int),(match v with |none=>(x.length:Int)|some i=>max 0 (min (if i<0 then i+(x.length:Int)else i) x.length))=((HT.sIx x.length x.length v:Nat):Int):=λv=>by
     cases v with
     |none=>rfl
     |some i=>exact(Ue x.length i).1.symm
    have e3:Builtin.Str.strSliceIndices lo hi 1 x.length=sliceRange ((HT.sIx x.length 0 lo:Nat):Int) ((HT.sIx x.length x.length hi:Nat):Int) 1:=by
     rw[<-e1 lo,<-e2 hi];unfold Builtin.Str.strSliceIndices
     cases lo<;>cases hi<;>simp
    rw[e3];unfold sliceRange;rw[qW,List.length_range];generalize HT.sIx x.length 0 lo=i;generalize HT.sIx x.length x.length hi=j;rw[if_pos (by lia)];split
    ·rw[Int.ediv_one];lia
    ·lia
   have hj:HT.sIx x.length x.length hi<=x.length:=HT.ZGB _ _ (zY _) hi;unfold cutD;rw[j6,jI,<-hlen];lia
  have hs:(cutD x.cps.toList lo hi).Sublist x.cps.toList:=(List.take_sublist _ _).trans (List.drop_sublist _ _);rw[hs.eq_of_length hall]
 ·rw[key]
section
variable{X:Cx}{E:XK}
theorem ZLZ:SlR X (λx lo hi H Q=>∃z:Str,x=.str z/\z.length<=sizeLine/\Q (.str (Qa z lo hi)) H):=by
 intro vC s σ H x v vl vu lo hi sl Q I rx hs pl pu h;obtain⟨z,rfl,hz,q⟩:=h;obtain⟨t,rfl⟩:=rx;refine⟨"str",_,PySem.F.slot_str_getitem.lookup,typeIs_str _ _ _,?_⟩
 have fin:∀(l u:Option (Int×Tok)),vl=partValue l->vu=partValue u->l.map (·.1)=lo->u.map (·.1)=hi->vK (vQ X.prog X.w) X.A (getItem (.str z t) (.ref sl)) (EP X vC σ Q) X.xe s:=by
  rintro l u rfl rfl rfl rfl
  refine wpAny_getItem_str_slice (l:=l) (u:=u) (st:=vE) (show s.heap.IsSlice sl l u vE from hs) rfl ?_
  have e:∀Q',(Txt.slice z (l.map (·.1)) (u.map (·.1))).length<=sizeLine/\(∀t' k,Q' (.str (Txt.slice z (l.map (·.1)) (u.map (·.1))) t') {s with toks:=k})->(sliceMade z t l u vE).post Q' s:=λQ' hq=>post_val_or_str hq
  refine e _ ⟨z5 (Txt.slice_le z _ _) hz,λt' k=>?_⟩;rw[ZKx];exact⟨.str _,H,I.tok k,⟨t',rfl⟩,q⟩
 cases pl with
 |none=>cases pu with
  |none=>exact fin vE vE rfl rfl rfl rfl
  |int j tj=>exact fin vE (vD (j,tj)) rfl rfl rfl rfl
 |int i ti=>cases pu with
  |none=>exact fin (vD (i,ti)) vE rfl rfl rfl rfl
  |int j tj=>exact fin (vD (i,ti)) (vD (j,tj)) rfl rfl rfl rfl
theorem ZRa{prog:xy}{w:xD}{A:xq}{E:xC->xA->Prop}{s:xA}{t sl:xY}{items:Array xC}{vl vu:xC}{lo hi:Option Int}{Q:xC->xA->Prop}(ht:IsTup s.heap t items)(hs:s.heap.IsSliceOf sl vl vu .none)(pl:IsPart vl lo)(pu:IsPart vu hi)
  (hw:HT.sIx items.size 0 lo=0/\HT.sIx items.size items.size hi=items.size) (h:Q (.ref t) s):vK (vQ prog w) A (getItem (.ref t) (.ref sl)) Q E s:=by
 obtain⟨os,hos,hcs,hds⟩:=id hs;have hTs:s.TypeIs (.ref sl) "slice":=⟨os,hos,hcs⟩;unfold getItem
 try with_reducible refine vv ?_
 first|refine vq (v6 ?_)|skip
 refine vq (wpAny_sequenceKey ht.typeIs (by decide) ?_);refine vq (vz (name:=Str.ofString "__getitem__") ht.typeIs PyProof.Rows.slot_tuple_getitem
  (vj PyProof.Rows.slot_tuple_getitem ht.typeIs entry_tuple_getitem ?_ (args_tuple_getitem _ _)))
 show vK _ _ (Builtin.Tuple.tupleItemsOf (.ref t) >>=_) _ _ s;refine vq (tupleItemsOf_ ht ?_);refine vq (wpAny_typeOf hTs ?_);rw[if_pos (by decide)];refine vq (HT.ZER hs pl pu ?_);have hyes:(((HT.sIx items.size 0 lo:Nat):Int)==0&&(1:Int)==1&&(HT.sIx items.size items.size hi-HT.sIx items.size 0 lo)==items.size)=vF:=by rw[hw.1,hw.2];simp
 show vK _ _ (if(((HT.sIx items.size 0 lo:Nat):Int)==0&&(1:Int)==1&&(HT.sIx items.size items.size hi-HT.sIx items.size 0 lo)==items.size)=vF then _ else _) _ _ s;rw[if_pos hyes];refine vq ?_;unfold Builtin.Tuple.tupleIsExact;refine vq (wpAny_typeOf ht.typeIs (v6 ?_));rw[if_pos (by decide)];exact vq (wpAny_rule (v6 ⟨_,rfl,v6 h⟩))
theorem ZN9:SlR X (λx lo hi H Q=>∃a xs,x=.ref a/\SqT X.K H a xs/\(HT.sIx xs.length 0 lo=0/\HT.sIx xs.length xs.length hi=xs.length)/\Q (.ref a) H):=by
 intro vC s σ H x v vl vu lo hi sl Q I rx hs pl pu h;obtain⟨a,xs,rfl,hx,hw,q⟩:=h;cases rx;obtain⟨its,r,ht,hz⟩:=I.tuple hx;have hlen:its.toArray.size=xs.length:=by rw[zK];exact r.length.symm
 exact⟨"tuple",_,PyProof.Rows.slot_tuple_getitem.lookup,ht.typeIs,ZRa ht hs pl pu (by rw[hlen];exact hw) ⟨.ref a,H,I,rfl,q⟩⟩
def M8(E:XK)(a:Wd)(r:R (Option Int))(Q:Option Int->Hp->Prop):Prop:=match r with
 |.ok k G=>∀(b:Wd),Ext a b->Sim b G->Q k b.H
 |.err x G=>XOk E a x G
 |.bad=>False
def QO(X:Cx)(E:XK)(e:Option xz)(t:Option DE):Prop:=PO X e (λσ H Q=>∃(a:Wd)(S:DSt)(G:DH),a.K=X.K/\a.H=H/\Sim a G/\RepS a S σ/\M8 E a (Ho t S G) Q)
theorem _root_._L.PO.mono(h:PO X e t)(w:∀σ H Q,t' σ H Q->t σ H Q):PO X e t':=λvC s σ H Q I q=>h vC s σ H Q I (w σ H Q q)
theorem ZMH:QO X E vE vE:=ZM8.mono λσ H Q h=>by obtain⟨a,S,G,hk,rfl,s,r,h⟩:=h;exact h a (Ext.refl a) s
theorem ZSP(he:QE X E e t):QO X E (vD e) (vD t):=(ZML he).mono λσ H Q h=>by
 obtain⟨a,S,G,hk,rfl,s,r,h⟩:=h;refine⟨a,S,G,hk,rfl,s,r,?_⟩
 have h':M8 E a ((t S G).bind λd G1=>match d with | .int i=>.ok (vD i) G1|_=>.bad) Q:=h
 cases ht:t S G with
 |ok d G1=>
  rw[ht]at h';intro b v x sb rv;cases d with
  |int i=>exact⟨i,rv,h' b x sb⟩
  |_=>exact h'.elim
 |err x G1=>rw[ht]at h';exact h'
 |bad=>rw[ht]at h';exact h'
theorem Reps.cutD(r:Reps a ds vs)(lo hi:Option Int):Reps a (_D.cutD ds lo hi) (J1 vs lo hi):=by unfold _D.cutD J1;rw[r.length];exact(r.drop _).take _
theorem M8.imp(h:M8 E a r Q)(w:∀v H,Q v H->Q' v H):M8 E a r Q':=by
 cases r with
 |ok d G=>exact λb x s=>w _ _ (h b x s)
 |err e G=>exact h
 |bad=>exact h
theorem ZFd(h:out E a (r.bind f) Q):
  M8 E a r (λk H=>∃(b:Wd)(G:DH),b.H=H/\Ext a b/\Sim b G/\r=.ok k G/\out E b (f k G) Q):=by
 cases r with
 |ok d G=>exact λb x s=>⟨b,G,rfl,x,s,rfl,out.mono x h⟩
 |err e G=>exact h
 |bad=>exact h
theorem ZOr{e:xz}{lo hi:Option xz}{te:DE}{tl th:Option DE}{p2 pos:Pos}(he:QE X E e te)(hl:QO X E lo tl)(hu:QO X E hi th):QE X E (.Subscript e (.Slice lo hi vE p2) pos) (dSl te tl th):=
 (ZR5 (ZL0.or (ZPC.or (ZN9.or ZLZ))) he hl hu).mono λσ H Q h=>by
 obtain⟨a,S,G,hk,rfl,s,r,h⟩:=h;refine⟨a,S,G,hk,rfl,s,r,(Dq h).imp ?_⟩;rintro v _ ⟨b,d,G1,rfl,x,s1,q,_,h1⟩;refine⟨b,S,G1,x.k.trans hk,rfl,s1,r.mono x,(ZFd h1).imp ?_⟩;rintro l _ ⟨c,G2,rfl,y,s2,_,h2⟩;refine⟨c,S,G2,y.k.trans (x.k.trans hk),rfl,s2,(r.mono x).mono y,(ZFd h2).imp ?_⟩;rintro u _ ⟨c3,G3,rfl,y3,s3,_,h3⟩;have hk3:=y3.k.trans (y.k.trans (x.k.trans hk));have q3:=(q.mono y).mono y3
 have lst:out E c3 (match Fi d G3 with |some xs=>.ok (.ref G3.length) (G3++[.lst (cutD xs l u)])|none=>.bad) Q->rSlL X.K v l u c3.H Q:=λh3=>by
  split at h3
  ·rename_i xs hx;obtain⟨p,vs,e1,q1,r1⟩:=Oo s3 q3 hx;exact⟨p,vs,e1,by rw[<-hk3];exact q1,λp hp=>Jh s3 (Reps.cutD r1 l u) h3 p hp⟩
  ·exact h3.elim
 cases d with
 | str z=>
  have h4:out E c3 (if z.length<=1000000 then .ok (.str (Qa z l u)) G3 else .bad) Q:=h3;split at h4
  ·rename_i hl
   cases(show v=V.str z from q3)
   exact .inr (.inr (.inr ⟨z,rfl,z5 hl size6,h4 c3 _ (Ext.refl _) s3 rfl⟩))
  ·exact h4.elim
 | tup xs=>
  have h4:out E c3 (.ok (.tup (cutD xs l u)) G3) Q:=h3;obtain⟨p,vs,e1,q1,r1⟩:=q3;by_cases hw:HT.sIx vs.length 0 l=0/\HT.sIx vs.length vs.length u=vs.length
  ·refine .inr (.inr (.inl ⟨p,vs,e1,by rw[<-hk3];exact q1,hw,h4 c3 _ (Ext.refl _) s3 ⟨p,vs,rfl,q1,?_⟩⟩));have:cutD xs l u=xs:=by unfold cutD;rw[r1.length,hw.1,hw.2,<-r1.length];simp
   rw[this];exact r1
  ·exact .inr (.inl ⟨p,vs,e1,by rw[<-hk3];exact q1,hw,λp hp=>Vg s3 (Reps.cutD r1 l u) h4 p hp⟩)
 |fl xs=>exact .inl (lst h3)
 |ref i=>exact .inl (lst h3)
 |non=>exact(show False from h3).elim
 |bl _=>exact(show False from h3).elim
 |int _=>exact(show False from h3).elim
 |ty _=>exact(show False from h3).elim
section
variable{name:Str}{id:String}{f:D->List D->DH->R D}{o e:xz}{es:List xz}{to:DE}{t:DA}{apos cpos:Pos}
end
end
section
variable{S:DSt}{G:DH}
@[simp]theorem ev_Sl{e:DE}{lo hi:Option DE}:dSl e lo hi S G=(e S G).bind λd G1=>(Ho lo S G1).bind λl G2=>(Ho hi S G2).bind λh G3=>Kv d l h G3:=id rfl
@[simp]theorem ZSv:Jq [.fl xs] G=.ok (.ref G.length) (G++[.lst xs]):=id rfl
@[simp]theorem Mi:Ae (.str z) (.int i) G=if z.length<=1000000 then(match atI z.cps.toList i with |some c=>.ok (sgn c) G|none=>.bad)else .bad:=id rfl
end
end _D
namespace _D
open PySem PySem.Spec _L
open PyProof.Rows hiding St
open Builtin.Str
section
variable(p:Nat->Bool)(m:Nat)
end
def CStep(g:DG)(c:DB)(te:DE)(S:DSt)(G:DH)(x:D)(r:Option D):Prop:=
 ∃S1,g x S G=.ok S1 G/\((c S1 G=.ok vG G/\r=vE)∨(c S1 G=.ok vF G/\∃d,te S1 G=.ok d G/\r=vD d))
theorem Qj:∀{xs:List D},(∀x∈xs,CStep g c te S G x (F x))->Cu g c te S xs G=.ok (xs.filterMap F) G
 |[],_=>rfl
 |x::xs,h=>by
  obtain⟨S1,h1,h2⟩:=h x (by simp);have ih:=Qj (λy hy=>h y (zJ _ hy));rw[V1,h1];rcases h2 with⟨h2,h3⟩|⟨h2,d,h3,h4⟩
  ·simp[h2,h3,ih,qK]
  ·simp[h2,h3,h4,ih,qK]
theorem ZGM(hG:G[i]?=vD (.lst xs))(h:∀x∈xs,CStep g c te S G x (F x)):
  ∀(n j:Nat),j+n=xs.length->Ez i g c te S n j G=.ok ((xs.drop j).filterMap F) G
 |0,j,hj=>by
  unfold Ez;rw[hG];simp only;rw[if_pos (by lia),zU (by lia)]
  rfl
 |n+1,j,hj=>by
  have hlt:j<xs.length:=by lia
  have ih:=ZGM hG h n (j+1) (by lia);obtain⟨S1,h1,h2⟩:=h xs[j] (qx hlt);unfold Ez;rw[hG];simp only;rw[zZ hlt];simp only[h1,R.Hn];rw[zO hlt,qK];rcases h2 with⟨h2,h3⟩|⟨h2,d,h3,h4⟩
  ·simp[h2,h3,ih]
  ·simp[h2,h3,h4,ih]
theorem ZDk(hG:G[i]?=vD (.lst xs))(h:∀x∈xs,CStep g c te S G x (F x)):
  Ez i g c te S xs.length 0 G=.ok (xs.filterMap F) G:=ZGM hG h xs.length 0 (by lia)
theorem ZQ5(h:G[i]?=vD (.lst xs)):view G (.ref i)=view G (.fl xs):=by simp[view,h]
theorem ZBu(h:G[i]?=vD (.lst xs)):eqD n G (.ref i) e=eqD n G (.fl xs) e:=by
 cases n with
 |zero=>rfl
 |succ n=>simp only[eqD,ZQ5 h]
theorem ZJD(h:G[i]?=vD (.lst xs)):Bf (.ref i) e G=Bf (.fl xs) e G:=by unfold Bf;rw[ZBu h]
theorem ZMG(h:G[i]?=vD (.lst xs)):Dw (.ref i) e G=Dw (.fl xs) e G:=by unfold Dw;rw[ZBu h]
theorem ZHJ{x y:Str}(h:x.cps.toList=y.cps.toList):x=y:=by obtain⟨a⟩:=x;obtain⟨b⟩:=y;simp only at h;rw[Array.toList_inj.mp h]
end _D
namespace _D
open PySem PySem.Spec _L
open PyProof.Rows hiding St
variable{os:List xC}
inductive Src where
 |l (a:xY)
 |t (a:xY)
noncomputable def Src.itn:Src->String
 |.l _=>"list_iterator"
 |.t _=>"tuple_iterator"
noncomputable def Src.adr:Src->xY
 |.l a=>a
 |.t a=>a
def Src.it(h:Heap)(p:xY)(k:Nat)(sr:Src):Prop:=∃o,h.get? p=vD o/\o.cls=.type sr.itn/\o.data=.fields #[.ref sr.adr,.int k 0]
def Src.val(h:Heap)(xs:Array xC):Src->Prop
 |.l a=>h.IsList a xs
 |.t a=>h.IsTuple a xs
theorem Src.it.at{sr:Src}{h h':Heap}{p:xY}{k:Nat}(x:sr.it h p k)(e:∀o,h.get? p=vD o->h'.get? p=vD o):sr.it h' p k:=let⟨o,ho,r⟩:=x;⟨o,e o ho,r⟩
theorem Src.val.at{sr:Src}{h h':Heap}{xs:Array xC}(x:sr.val h xs)(e:∀o,h.get? sr.adr=vD o->h'.get? sr.adr=vD o):sr.val h' xs:=by
 cases sr with
 |l a=>obtain⟨o,ho,r⟩:=x;exact⟨o,e o ho,r⟩
 |t a=>obtain⟨o,ho,r⟩:=x;exact⟨o,e o ho,r⟩
theorem Src.it.lt{sr:Src}{h:Heap}{p:xY}{k:Nat}(x:sr.it h p k):p<h.objs.size:=let⟨_,ho,_⟩:=x;zj ho
section
variable{prog:xy}{w:xD}{A:xq}{E:xC->xA->Prop}{s:xA}
theorem Src.val.obj{sr:Src}{h:Heap}{xs:Array xC}(x:sr.val h xs):∃o n,h.get? sr.adr=vD o/\o.data=.seq xs n:=by
 cases sr with
 |l a=>obtain⟨o,ho,_,n,hd⟩:=x;exact⟨o,n,ho,hd⟩
 |t a=>obtain⟨o,ho,_,n,hd⟩:=x;exact⟨o,n,ho,hd⟩
theorem Src.next_item{sr:Src}{p:xY}{k:Nat}{xs:Array xC}{x:xC}{Q:xC->xA->Prop}(hit:sr.it s.heap p k)(hv:sr.val s.heap xs)(hx:xs[k]?=vD x)
  (hQ:∀h',sr.it h' p (k+1)->qG p s.heap h'->Q x {s with heap:=h'}):vK (vQ prog w) A (Builtin.SmallTypes.nextOf (.ref p)) Q E s:=by
 cases sr with
 |l a=>exact wpAny_nextOf_list_item (show s.heap.IsListIter p a k from hit) hv hx hQ
 |t a=>
  obtain⟨o,ho,hc,hd⟩:=id hit;obtain⟨ol,hol,_,nl,hdl⟩:=hv;have hT:s.TypeIs (.ref p) "tuple_iterator":=⟨o,ho,hc⟩;unfold Builtin.SmallTypes.nextOf;refine vq (vz (name:=Str.ofString "__next__") hT PySem.F.slot_tuple_iterator_next (vj PySem.F.slot_tuple_iterator_next hT PySem.F.entry_tuple_iterator_next ?_ (PySem.F.args_tuple_iterator_next_1 _)));refine vq (m:=field (.ref p) 0) (vx ho hd (x:=.ref a) rfl ?_)
  show vK _ _ (if(Value.ref a==Value.none)=vF then _ else(field (.ref p) 1 >>=_)) _ _ s
  rw[if_neg (show¬((Value.ref a==Value.none)=vF)from zk)]
  refine vq (m:=field (.ref p) 1) (vx ho hd (x:=.int k 0) rfl (vq (m:=seqItems? (.ref a)) (wpAny_seqItems hol hdl ?_)));simp only[Int.toNat_natCast,hx];refine vq (wpAny_setField ho hd (by simp) (v6 ⟨x,rfl,v6 (hQ _ ⟨_,qk _ ho (Obj.isFreed_of_fields (Obj.data_mapFields hd _)),(Obj.cls_mapFields ..).trans hc,?_⟩ (qG.update ..))⟩))
  rw[Obj.data_mapFields hd];simp[vZ,Src.adr]
theorem Src.next_end{sr:Src}{p:xY}{k:Nat}{xs:Array xC}{Q:xC->xA->Prop}(hh:A.handled=vE)(hit:sr.it s.heap p k)(hv:sr.val s.heap xs)(hx:xs[k]?=vE)
  (hE:∀h' e,Heap.ExtBut p s.heap h'->(∃o,h'.get? e=vD o/\o.cls=.type "StopIteration")->E (.ref e) {s with heap:=h'}):vK (vQ prog w) A (Builtin.SmallTypes.nextOf (.ref p)) Q E s:=by
 cases sr with
 |l a=>exact wpAny_nextOf_list_end hh (show s.heap.IsListIter p a k from hit) hv hx hE
 |t a=>
  obtain⟨o,ho,hc,hd⟩:=id hit;obtain⟨ol,hol,_,nl,hdl⟩:=hv;have hT:s.TypeIs (.ref p) "tuple_iterator":=⟨o,ho,hc⟩;unfold Builtin.SmallTypes.nextOf;refine vq (vz (name:=Str.ofString "__next__") hT PySem.F.slot_tuple_iterator_next (vj PySem.F.slot_tuple_iterator_next hT PySem.F.entry_tuple_iterator_next ?_ (PySem.F.args_tuple_iterator_next_1 _)));refine vq (m:=field (.ref p) 0) (vx ho hd (x:=.ref a) rfl ?_)
  show vK _ _ (if(Value.ref a==Value.none)=vF then _ else(field (.ref p) 1 >>=_)) _ _ s
  rw[if_neg (show¬((Value.ref a==Value.none)=vF)from zk)]
  refine vq (m:=field (.ref p) 1) (vx ho hd (x:=.int k 0) rfl (vq (m:=seqItems? (.ref a)) (wpAny_seqItems hol hdl ?_)));simp only[Int.toNat_natCast,hx];refine vq (wpAny_rule (vq (wpAny_setField ho hd (by simp) (vq (m:=newExc (.type "StopIteration") []) ?_))));simp only[newExc,newTuple]
  refine vq (v4 (vq (m:=firstArgMember _ _) (wpAny_of_eq (a:=Value.none) (by first|rfl|(simp only[firstArgMember];rfl)) (v4 ?_ (by size_fits)))) (by size_fits))
  simp only[raiseNew];refine vq (wpAny_handled ?_)
  first|rw[show A.in1.handled=vE from hh]|rw[hh]
  exact vq (v6 (wpAny_throw (hE _ _ (((qG.update ..).extBut.push _).push _) ⟨_,zy _ rfl,rfl⟩)))
theorem Src.iter{sr:Src}{xs:Array xC}{Q:xC->xA->Prop}(hv:sr.val s.heap xs)
  (hQ:Q (.ref s.heap.objs.size) {s with heap:=s.heap.push {cls:=.type sr.itn,data:=.fields #[.ref sr.adr,.int 0 0]}}):vK (vQ prog w) A (pyIter (.ref sr.adr)) Q E s:=by
 cases sr with
 |l a=>exact wpAny_pyIter_list hv hQ
 |t a=>exact wpAny_pyIter_tuple hv hQ
end
abbrev En(h:Heap)(e it:xY)(f0:xC)(i:Int)(g old:xC):Prop:=
 h.get? e=vD {cls:=.type "enumerate",dict:=vE,data:=.fields #[f0,.bool vG,.ref it,vZ i,g,old],slots:= #[]}
def Gv(i:Int)(g:xC):Prop:=g=.none∨∃t,g=.int i t
section
variable{prog:xy}{w:xD}{A:xq}{E:xC->xA->Prop}{s:xA}
theorem ZNN{sr:Src}{e it:xY}{k:Nat}{i:Int}{xs:Array xC}{x g old:xC}{Q:xC->xA->Prop}(he:En s.heap e it .none i g old)(hg:Gv i g)(hit:sr.it s.heap it k)(hv:sr.val s.heap xs)(hx:xs[k]?=vD x)(hne:e≠it)
  (hQ:∀h' t tk,En h' e it (vZ s.heap.objs.size) (i+1) .none x->sr.it h' it (k+1)->h'.get? s.heap.objs.size=vD {cls:=.type "tuple",data:=.seq #[.int i t,x]}->h'.objs.size=s.heap.objs.size+1->
   (∀b o,b≠e->b≠it->s.heap.get? b=vD o->h'.get? b=vD o)->Q (.ref s.heap.objs.size) {s with heap:=h',toks:=tk}):
  vK (vQ prog w) A (Builtin.«enumerate.__next__» ⟨[.ref e],[]⟩) (λfin s'=>∃v,fin=.done (.ret v)/\Q v s') E s:=by
 obtain⟨hp,gg,d,tk,os⟩:=s;refine vq (m:=field (.ref e) 2) (vx he rfl (x:=.ref it) rfl (vq (m:=Builtin.SmallTypes.nextOf (.ref it)) (Src.next_item hit hv hx λh₁ hit₁ hs₁=>?_)));have he₁:En h₁ e it .none i g old:=(hs₁.2 e hne).trans he;have k₁:∀b o,b≠e->b≠it->hp.get? b=vD o->h₁.get? b=vD o:=λb o _ hb q=>hs₁.extBut b o hb q
 have z₁:h₁.objs.size=hp.objs.size:=hs₁.1;refine vq (m:=field (.ref e) 3) (vx he₁ rfl (x:=vZ i) rfl ?_);refine vq (m:=field (.ref e) 4) (vx he₁ rfl (x:=g) rfl ?_)
 have rest:∀(t:Tok)(tk':Nat),vK (vQ prog w) A (do
   setField (.ref e) 3 (vZ (i+1));setField (.ref e) 4 .none
   let result<-newTuple [.int i t,x]
   if<-Builtin.SmallTypes.ownedTupleIsFree (.ref e)then
    rule "enumerate.__next__.owned-tuple-again"
    let old<-field (.ref e) 5
    setField (.ref e) 5 x
    Builtin.SmallTypes.ownedTupleHandOut (.ref e) result
    PySem.letGo [old] [result]
   ret result) (λfin s'=>∃v,fin=.done (.ret v)/\Q v s') E ⟨h₁,gg,d,tk',os⟩:=by
  intro t tk';refine vq (v7 he₁ (by simp) λh₂ he₂ hs₂=>?_);refine vq (v7 he₂ (by simp) λh₃ he₃ hs₃=>?_)
  replace he₃:En h₃ e it .none (i+1) .none old:=he₃
  have z₃:h₃.objs.size=hp.objs.size:=by rw[hs₃.1];show h₂.objs.size=_;rw[hs₂.1];exact z₁
  have k₃:∀b o,b≠e->b≠it->hp.get? b=vD o->h₃.get? b=vD o:=λb o h1 h2 q=>hs₃.extBut b o h1 (hs₂.extBut b o h1 (k₁ b o h1 h2 q))
  have i₃:sr.it h₃ it (k+1):=(hit₁.at λo q=>hs₂.extBut it o (Ne.symm hne) q).at λo q=>hs₃.extBut it o (Ne.symm hne) q
  refine vq (wpAny_newTuple ?_);generalize hh₄:h₃.push {cls:=.type "tuple",data:=.seq [Value.int i t,x].toArray}=h₄;have he₄:En h₄ e it .none (i+1) .none old:=by rw[<-hh₄];exact zQ _ he₃
  have ht₄:h₄.get? hp.objs.size=vD {cls:=.type "tuple",data:=.seq #[.int i t,x]}:=by rw[<-hh₄,<-z₃];exact zy _ rfl
  have z₄:h₄.objs.size=hp.objs.size+1:=by rw[<-hh₄,q9,z₃]
  have k₄:∀b o,b≠e->b≠it->hp.get? b=vD o->h₄.get? b=vD o:=λb o h1 h2 q=>by rw[<-hh₄];exact zQ _ (k₃ b o h1 h2 q)
  have i₄:sr.it h₄ it (k+1):=i₃.at λo q=>by rw[<-hh₄];exact zQ _ q
  have ez:e<hp.objs.size:=zj he;refine vq (m:=Builtin.SmallTypes.ownedTupleIsFree (.ref e)) ?_;unfold Builtin.SmallTypes.ownedTupleIsFree;refine vq (vx he₄ rfl (x:=.none) rfl (v6 ?_));simp only[if_true];refine vq (wpAny_rule (vq (vx he₄ rfl (x:=old) rfl (vq (v7 he₄ (by simp) λh₅ he₅ hs₅=>?_)))))
  replace he₅:En h₅ e it .none (i+1) .none x:=he₅
  refine vq (m:=Builtin.SmallTypes.ownedTupleHandOut _ _) ?_;unfold Builtin.SmallTypes.ownedTupleHandOut;refine vq (v7 he₅ (by simp) λh₆ he₆ hs₆=>?_);refine v7 he₆ (by simp) λh₇ he₇ hs₇=>?_
  refine vq (wpAny_letGo (v6 ⟨_,rfl,?_⟩));have up:∀b o,b≠e->h₄.get? b=vD o->h₇.get? b=vD o:=λb o hb q=>hs₇.extBut b o hb (hs₆.extBut b o hb (hs₅.extBut b o hb q))
  show Q (.ref h₃.objs.size) _;rw[z₃];rw[z₃]at he₇;exact hQ h₇ t tk' he₇ (i₄.at λo q=>up it o (Ne.symm hne) q) (up _ _ (jV ez) ht₄) (by rw[hs₇.1];show h₆.objs.size=_;rw[hs₆.1];show h₅.objs.size=_;rw[hs₅.1];exact z₄) λb o h1 h2 q=>up b o h1 (k₄ b o h1 h2 q)
 rcases hg with rfl|⟨t,rfl⟩
 ·exact vq (m:=mkInt i) (wpAny_mkInt (rest tk (tk+1)))
 ·exact vq (m:=(pure (Value.int i t):Sem xC)) (v6 (rest t tk))
theorem ZLT{sr:Src}{e it:xY}{k:Nat}{i:Int}{xs:Array xC}{x g old:xC}{Q:Option xC->xA->Prop}(he:En s.heap e it .none i g old)(hg:Gv i g)(hit:sr.it s.heap it k)(hv:sr.val s.heap xs)(hx:xs[k]?=vD x)(hne:e≠it)
  (hQ:∀h' t tk,En h' e it (vZ s.heap.objs.size) (i+1) .none x->sr.it h' it (k+1)->h'.get? s.heap.objs.size=vD {cls:=.type "tuple",data:=.seq #[.int i t,x]}->h'.objs.size=s.heap.objs.size+1->
   (∀b o,b≠e->b≠it->s.heap.get? b=vD o->h'.get? b=vD o)->Q (vD (.ref s.heap.objs.size)) {s with heap:=h',toks:=tk}):
  vK (vQ prog w) A (pyNext (.ref e)) Q E s:=by
 have hT:s.TypeIs (.ref e) "enumerate":=⟨_,he,rfl⟩;unfold pyNext;exact vq (wpAny_attempt (vz (name:=Str.ofString "__next__") hT PySem.F.slot_enumerate_next
  (vj PySem.F.slot_enumerate_next hT PySem.F.entry_enumerate_next (ZNN he hg hit hv hx hne λh' t tk a1 a2 a3 a4 a5=>v6 (hQ h' t tk a1 a2 a3 a4 a5)) (PySem.F.args_enumerate_next_1 _))))
theorem ZOu{sr:Src}{e it:xY}{k:Nat}{i:Int}{xs:Array xC}{g old:xC}{Q:Option xC->xA->Prop}(hh:A.handled=vE)(he:En s.heap e it .none i g old)(hit:sr.it s.heap it k)(hv:sr.val s.heap xs)(hx:xs[k]?=vE)
  (hQ:∀h',Heap.ExtBut it s.heap h'->Q vE {s with heap:=h'}):vK (vQ prog w) A (pyNext (.ref e)) Q E s:=by
 have hT:s.TypeIs (.ref e) "enumerate":=⟨_,he,rfl⟩;unfold pyNext;refine vq (wpAny_attempt (vz (name:=Str.ofString "__next__") hT PySem.F.slot_enumerate_next
  (vj PySem.F.slot_enumerate_next hT PySem.F.entry_enumerate_next (vq (m:=field (.ref e) 2) (vx he rfl (x:=.ref it) rfl (vq (m:=Builtin.SmallTypes.nextOf (.ref it)) (Src.next_end hh hit hv hx λh' x he' hx'=>?_)))) (PySem.F.args_enumerate_next_1 _))))
 obtain⟨o,ho,hc⟩:=hx';exact vq (wpAny_isInstance (T:="StopIteration") (b:=vF) ⟨o,ho,hc⟩ isSubtype_stop (v6 (hQ _ he')))
theorem ZSO{elts:List xz}{x1}{pos:Pos}{e it a:xY}{i:Int}{g old:xC}{Q:Unit->xA->Prop}(he:En s.heap e it (vZ a) i g old)
  (hQ:∀h',En h' e it .none i g old->qG e s.heap h'->Q () {s with heap:=h'}):vK (vQ prog w) A (xT (.Tuple elts x1 pos) (.ref e) (.ref a)) Q E s:=by
 unfold xT;refine vq (wpAny_load he ?_);dsimp only;rw[if_pos (by simp)];exact vq (wpAny_rule (v7 he (by simp) λh' he' hs'=>hQ h' he' hs'))
theorem ZBW(he:En s.heap e it f0 i g old)(h:Q (.ref e) s):vK (vQ prog w) A (pyIter (.ref e)) Q E s:=by have hT:s.TypeIs (.ref e) "enumerate":=⟨_,he,rfl⟩;exact wpAny_pyIter_slot hT PySem.F.slot_enumerate_iter (vj PySem.F.slot_enumerate_iter hT PySem.F.entry_enumerate_iter (v6 ⟨_,rfl,"enumerate",_,hT,PySem.F.slot_enumerate_next.lookup,h⟩) (PySem.F.args_enumerate_iter_1 _))
end
abbrev Tp(h:Heap)(T:xY)(xs:List xC):Prop:=h.get? T=vD {cls:=.type "tuple",data:=.seq xs.toArray}
inductive Drw (h:Heap) (i:Nat):List (Src×xY)->List xC->Prop where
 |nil:Drw h i [] []
 |cons {sr p r x us xs} (hit:Src.it h p i sr) (hv:sr.val h xs) (hx:xs[i]?=vD x) (t:Drw h i r us):Drw h i ((sr,p)::r) (x::us)
theorem Drw.length(d:Drw h i l us):us.length=l.length:=by
 induction d with
 |nil=>rfl
 |cons _ _ _ _ ih=>simp[ih]
section
variable{prog:xy}{w:xD}{A:xq}{E:xC->xA->Prop}{s:xA}
theorem ZMh(hT:Tp s.heap T xs)(hz:xs.length<=1000000)
  (h:∀h',Tp h' T (xs.set k x)->qG T s.heap h'->Q () {s with heap:=h'}):vK (vQ prog w) A (updateSeq T (·.setIfInBounds k x)) Q E s:=by
 have h1:xs.toArray.size<=sizeLine:=by rw[zK];exact z5 hz size6
 refine wpAny_updateSeq hT rfl (h _ ?_ (qG.update ..)) h1 (by rw[Array.size_setIfInBounds];exact Nat.le_succ_of_le h1);show(s.heap.update T _).get? T=_;rw[qk _ hT rfl];simp[Obj.mapSeq]
def ZS(prog:xy)(w:xD)(A:xq)(E:xC->xA->Prop)(z TO p:xY)(k:Nat)(R:xA->Prop)(s:xA):Prop:=
 vK (vQ prog w) A (Builtin.SmallTypes.nextOf (.ref p)) (λx s1=>∃os,Tp s1.heap TO os/\os.length<=1000000/\∀h',Tp h' TO (os.set k x)->qG TO s1.heap h'->R {s1 with heap:=h'})
  (λe s'=>vK (vQ prog w) A (setField (.ref z) 0 .none) (λ_ s''=>E e s'') E s') s
theorem ZCI{z TO p:xY}{k i:Nat}{sr:Src}{xs:Array xC}{x:xC}{Q:xA->Prop}(hTO:Tp s.heap TO os)(hz:os.length<=1000000)(hit:sr.it s.heap p i)(hv:sr.val s.heap xs)(hx:xs[i]?=vD x)
  (h:∀h',Tp h' TO (os.set k x)->sr.it h' p (i+1)->(∀b o,b≠TO->b≠p->s.heap.get? b=vD o->h'.get? b=vD o)->h'.objs.size=s.heap.objs.size->Q {s with heap:=h'}):ZS prog w A E z TO p k Q s:=by
 have hne:TO≠p:=λe=>by
  obtain⟨o,ho,hc,_⟩:=hit;rw[<-e,hTO]at ho;cases ho
  cases sr<;>(simp[Src.itn]at hc)
 refine Src.next_item hit hv hx λh₁ it₁ sb₁=>⟨os,sb₁.extBut _ _ hne hTO,hz,λh₂ t₂ sb₂=>?_⟩
 exact h h₂ t₂ (it₁.at λo e=>sb₂.extBut _ _ (Ne.symm hne) e) (λb o b1 b2 e=>sb₂.extBut b o b1 (sb₁.extBut b o b2 e)) (by rw[sb₂.1];show h₁.objs.size=_;rw[sb₁.1])
theorem ZD6{z TO:xY}{i:Nat}{body:xC×Nat->Option Fin×PUnit->Sem (ForInStep (Option Fin×PUnit))}{R:Option Fin×PUnit->xA->Prop}
  (hb:∀(p:xY)(k:Nat)(s:xA)(R':ForInStep (Option Fin×PUnit)->xA->Prop),ZS prog w A E z TO p k (λs'=>R' (.yield (vE,⟨⟩)) s') s->
   vK (vQ prog w) A (body (.ref p,k) (vE,⟨⟩)) R' E s):
  ∀(l:List (Src×xY))(us pre post:List xC)(s:xA),Drw s.heap i l us->Tp s.heap TO (pre++post)->post.length=l.length->(pre++post).length<=1000000->(l.map (·.2)).Nodup->(∀q∈l,q.1.adr≠TO)->(∀q∈l,∀r∈l,q.1.adr≠r.2)->
   (∀h',Tp h' TO (pre++us)->(∀q∈l,q.1.it h' q.2 (i+1))->(∀b o,b≠TO->b∉l.map (·.2)->s.heap.get? b=vD o->h'.get? b=vD o)->h'.objs.size=s.heap.objs.size->R (vE,⟨⟩) {s with heap:=h'})->
   vK (vQ prog w) A (forIn ((l.map λq=>Value.ref q.2).zipIdx pre.length) (vE,⟨⟩) body) R E s
 | [],us,pre,post,s,d,hT,hl,hz,nd,na,np,hR=>by
  cases d;cases post with
  |cons _ _=>simp at hl
  |nil=>
   rw[xV,List.zipIdx_nil,List.forIn_nil];exact v6 (hR s.heap hT (λq hq=>by cases hq) (λb o _ _ e=>e) rfl)
 | (sr,p)::l,us,pre,post,s,d,hT,hl,hz,nd,na,np,hR=>by
  cases d with
  |@cons _ _ _ x us xs hit hv hx d=>
  cases post with
  |nil=>simp at hl
  | cons y post=>
   rw[zE,jN,xJ];refine vq (hb p pre.length s _ (ZCI hT hz hit hv hx λh' hT' it' kp sz=>?_));have e1:(pre++y::post).set pre.length x=(pre++[x])++post:=by simp
   rw[e1]at hT';have e2:pre.length+1=(pre++[x]).length:=by simp
   dsimp only;rw[e2]
   have nd':p∉l.map (·.2)/\(l.map (·.2)).Nodup:=by simpa using nd
   have hTOp:∀q∈l,q.2≠TO:=λq hq e=>by
    have:∃sr k,Src.it s.heap q.2 k sr:=by
     clear hR na np nd nd' e1 e2 hl hT' hz
     induction d with
     |nil=>cases hq
     |cons hit _ _ _ ih=>
      rcases zx.mp hq with rfl|hq
      ·exact⟨_,_,hit⟩
      ·exact ih hq
    obtain⟨sr',k,o,ho,hc,_⟩:=this;rw[e,hT]at ho;cases ho
    cases sr'<;>(simp[Src.itn]at hc)
   have d':Drw h' i l us:=by
    have na':∀q∈l,q.1.adr≠TO:=λq hq=>na q (zJ _ hq)
    have np':∀q∈l,q.1.adr≠p:=λq hq=>np q (zJ _ hq) (sr,p) zW
    have pp:∀q∈l,q.2≠p:=λq hq e=>nd'.1 (zD.mpr ⟨q,hq,e⟩)
    clear hR na np nd nd' e1 e2 hl hT' hz
    induction d with
    |nil=>exact .nil
    |@cons sr1 p1 r1 x1 us1 xs1 hit1 hv1 hx1 t1 ih=>
     refine .cons (hit1.at λo e=>kp _ o (hTOp _ zW) (pp _ zW) e) (hv1.at λo e=>kp _ o (na' _ zW) (np' _ zW) e) hx1 ?_;exact ih (λq hq=>hTOp q (zJ _ hq)) (λq hq=>na' q (zJ _ hq)) (λq hq=>np' q (zJ _ hq)) (λq hq=>pp q (zJ _ hq))
   refine ZD6 hb l us (pre++[x]) post {s with heap:=h'} d' hT' (by simpa using hl) (by simpa using hz) nd'.2 (λq hq=>na q (zJ _ hq)) (λq hq r hr=>np q (zJ _ hq) r (zJ _ hr)) λh'' t'' its'' kp'' sz''=>?_
   have hpTO:p≠TO:=λe=>by
    obtain⟨o,ho,hc,_⟩:=hit;rw[e,hT]at ho;cases ho
    cases sr<;>(simp[Src.itn]at hc)
   refine hR h'' (by simpa using t'') (λq hq=>?_) (λb o b1 b2 e=>?_) (sz''.trans sz)
   ·rcases zx.mp hq with rfl|hq
    ·exact it'.at λo e=>kp'' _ o hpTO nd'.1 e
    ·exact its'' q hq
   ·simp only[zE,zx,not_or]at b2;exact kp'' b o b1 b2.2 (kp b o b1 b2.1 e)
end
inductive DrwE (h:Heap) (i:Nat):List (Src×xY)->Prop where
 |here {sr p r xs} (hit:Src.it h p i sr) (hv:sr.val h xs) (hx:xs[i]?=vE):DrwE h i ((sr,p)::r)
 |there {sr p r x xs} (hit:Src.it h p i sr) (hv:sr.val h xs) (hx:xs[i]?=vD x) (t:DrwE h i r):DrwE h i ((sr,p)::r)
structure ApZ (TO:xY) (l:List (Src×xY)):Prop where
 nd:(l.map (·.2)).Nodup
 na:∀q∈l,q.1.adr≠TO
 np:∀q∈l,∀r∈l,q.1.adr≠r.2
 to:∀q∈l,q.2≠TO
theorem ApZ.tail{TO:xY}{q:Src×xY}{l:List (Src×xY)}(a:ApZ TO (q::l)):ApZ TO l:=
 ⟨(qS.mp (by simpa using a.nd)).2,λq hq=>a.na q (zJ _ hq),λq hq r hr=>a.np q (zJ _ hq) r (zJ _ hr),λq hq=>a.to q (zJ _ hq)⟩
section
variable{prog:xy}{w:xD}{A:xq}{E:xC->xA->Prop}{s:xA}
theorem DrwE.at{TO p:xY}{sr:Src}{i:Nat}{h h':Heap}{l:List (Src×xY)}(a:ApZ TO ((sr,p)::l))(kp:∀b o,b≠TO->b≠p->h.get? b=vD o->h'.get? b=vD o)(d:DrwE h i l):DrwE h' i l:=by
 have pp:∀q∈l,q.2≠p:=λq hq e=>(qS.mp (by simpa using a.nd)).1 (zD.mpr ⟨q,hq,e⟩)
 have np:∀q∈l,q.1.adr≠p:=λq hq=>a.np q (zJ _ hq) (sr,p) zW
 have a':=a.tail;clear a
 induction d with
 |here hit hv hx=>exact .here (hit.at λo e=>kp _ o (a'.to _ zW) (pp _ zW) e) (hv.at λo e=>kp _ o (a'.na _ zW) (np _ zW) e) hx
 | there hit hv hx t ih=>
  exact .there (hit.at λo e=>kp _ o (a'.to _ zW) (pp _ zW) e) (hv.at λo e=>kp _ o (a'.na _ zW) (np _ zW) e) hx
   (ih (λq hq=>pp q (zJ _ hq)) (λq hq=>np q (zJ _ hq)) a'.tail)
theorem ZE0{z TO:xY}{i:Nat}{body:xC×Nat->Option Fin×PUnit->Sem (ForInStep (Option Fin×PUnit))}{R:Option Fin×PUnit->xA->Prop}(hh:A.handled=vE)
  (hb:∀(p:xY)(k:Nat)(s:xA)(R':ForInStep (Option Fin×PUnit)->xA->Prop),ZS prog w A E z TO p k (λs'=>R' (.yield (vE,⟨⟩)) s') s->
   vK (vQ prog w) A (body (.ref p,k) (vE,⟨⟩)) R' E s):
  ∀(l:List (Src×xY))(os:List xC)(n:Nat)(s:xA),DrwE s.heap i l->Tp s.heap TO os->os.length<=1000000->ApZ TO l->
   (∀h' e,(∀b o,b≠TO->b∉l.map (·.2)->s.heap.get? b=vD o->h'.get? b=vD o)->(∃o,h'.get? e=vD o/\o.cls=.type "StopIteration")->vK (vQ prog w) A (setField (.ref z) 0 .none) (λ_ s''=>E (.ref e) s'') E {s with heap:=h'})->
   vK (vQ prog w) A (forIn ((l.map λq=>Value.ref q.2).zipIdx n) (vE,⟨⟩) body) R E s
 |[],os,n,s,d,hT,hz,a,hE=>by cases d
 | (sr,p)::l,os,n,s,d,hT,hz,a,hE=>by
  rw[zE,jN,xJ];refine vq (hb p n s _ ?_);cases d with
  |here hit hv hx=>
   exact Src.next_end hh hit hv hx λh' e xb st=>hE h' e (λb o b1 b2 q=>xb b o (λz=>b2 (by rw[z];simp)) q) st
  |there hit hv hx t=>
   refine ZCI hT hz hit hv hx λh' hT' it' kp sz=>?_
   refine ZE0 hh hb l _ (n+1) {s with heap:=h'} (t.at a kp) hT' (by simpa using hz) a.tail λh'' e kp'' st=>?_
   refine hE h'' e (λb o b1 b2 q=>?_) st;simp only[zE,zx,not_or]at b2;exact kp'' b o b1 b2.2 (kp b o b1 b2.1 q)
theorem ZHR{z TI TO:xY}{l:List (Src×xY)}{R:Fin->xA->Prop}(hz:IsZip s.heap z TI TO .none)(hTI:Tp s.heap TI (l.map λq=>Value.ref q.2))(hne:l≠[])
  (h:∀h₁,IsZip h₁ z TI TO .ellipsis->qG z s.heap h₁->∀body:xC×Nat->Option Fin×PUnit->Sem (ForInStep (Option Fin×PUnit)),
   (∀(p:xY)(k:Nat)(s:xA)(R':ForInStep (Option Fin×PUnit)->xA->Prop),ZS prog w A E z TO p k (λs'=>R' (.yield (vE,⟨⟩)) s') s->
    vK (vQ prog w) A (body (.ref p,k) (vE,⟨⟩)) R' E s)->
   vK (vQ prog w) A (forIn ((l.map λq=>Value.ref q.2).zipIdx 0) (vE,⟨⟩) body) (λr s'=>r.1=vE/\∃us,Tp s'.heap TO us/\us.length<=1000000/\IsZip s'.heap z TI TO .ellipsis/\
    ∀h',IsZip h' z TI TO (vZ s'.heap.objs.size)->Tp h' s'.heap.objs.size us->h'.objs.size=s'.heap.objs.size+1->(∀b o,b≠z->s'.heap.get? b=vD o->h'.get? b=vD o)->R (.done (.ret (.ref s'.heap.objs.size))) {s' with heap:=h'}) E {s with heap:=h₁}):
  vK (vQ prog w) A (Builtin.«zip.__next__» ⟨[.ref z],[]⟩) R E s:=by
 refine vq (m:=field (.ref z) 2) (vx hz rfl (x:=.bool vG) rfl (vq (m:=field (.ref z) 3) (vx hz rfl (x:=.ref TI) rfl (vq (m:=seqItems? (.ref TI)) (wpAny_seqItems hTI rfl ?_)))));dsimp only;have hemp:(l.map λq=>Value.ref q.2).toArray.isEmpty=vG:=by cases l with
  |nil=>exact absurd rfl hne
  |cons _ _=>simp
 rw[hemp];refine vq (m:=Builtin.SmallTypes.ownedTupleIsFree (.ref z)) ?_;unfold Builtin.SmallTypes.ownedTupleIsFree;refine vq (vx hz rfl (x:=.none) rfl (v6 ?_));simp only[if_true];refine vq (wpAny_rule (vq (vx hz rfl (x:=.ref TO) rfl (vq (v7 hz (by simp) λh₁ hz₁ hs₁=>?_)))));refine vq (vk (h h₁ hz₁ hs₁ _ λp k s R' hst=>?_) (λr s' hr=>?_) λ_ _ x=>x)
 ·refine vq (wpAny_onRaise ?_);show vK _ _ (Builtin.SmallTypes.nextOf (.ref p) >>=λv=>pure (vD v)) _ _ s;refine vq (vk hst (λx s1 hx=>v6 ?_) λ_ _ x=>x);obtain⟨os,hT,hl,hR⟩:=hx;dsimp only;refine vq (wpAny_seqItems hT rfl ?_);dsimp only;exact vq (ZMh hT hl λh' t' sb=>vq (wpAny_letGo (v6 (hR h' t' sb))))
 ·obtain⟨hn,us,hT,hl,hzz,hR⟩:=hr;rw[hn];dsimp only;refine vq (wpAny_seqItems hT rfl ?_);dsimp only;refine vq (wpAny_newTuple ?_ (by show us.toArray.toList.length<=_;simpa using z5 hl size6));have hzlt:z<s'.heap.objs.size:=zj hzz;refine vq (m:=Builtin.SmallTypes.ownedTupleHandOut _ _) ?_;unfold Builtin.SmallTypes.ownedTupleHandOut;have e1:us.toArray.toList.toArray=us.toArray:=by simp
  rw[e1];have hz2:IsZip (s'.heap.push {cls:=.type "tuple",data:=.seq us.toArray}) z TI TO .ellipsis:=zQ _ hzz;refine vq (v7 hz2 (by simp) λh₇ hz₇ hs₇=>?_);refine v7 hz₇ (by simp) λh₈ hz₈ hs₈=>?_
  refine v6 (hR h₈ hz₈ ?_ ?_ λb o hb q=>hs₈.extBut _ _ hb (hs₇.extBut _ _ hb (zQ _ q)))
  ·exact hs₈.extBut _ _ (jV hzlt) (hs₇.extBut _ _ (jV hzlt) (zy _ rfl))
  ·rw[hs₈.1];show h₇.objs.size=_;rw[hs₇.1,q9]
theorem ZKz{z TI TO:xY}{i:Nat}{l:List (Src×xY)}{us:List xC}{Q:Option xC->xA->Prop}(hz:IsZip s.heap z TI TO .none)(hTI:Tp s.heap TI (l.map λq=>Value.ref q.2))(hTO:Tp s.heap TO os)(hlen:os.length=l.length)(hsz:l.length<=1000000)(hne:l≠[])
  (a:ApZ TO l) (zz:z≠TO/\(∀q∈l,q.2≠z/\q.1.adr≠z)) (d:Drw s.heap i l us)
  (hQ:∀h',IsZip h' z TI TO (vZ s.heap.objs.size)->Tp h' TO us->(∀q∈l,q.1.it h' q.2 (i+1))->Tp h' s.heap.objs.size us->h'.objs.size=s.heap.objs.size+1->
   (∀b o,b≠z->b≠TO->b∉l.map (·.2)->s.heap.get? b=vD o->h'.get? b=vD o)->Q (vD (.ref s.heap.objs.size)) {s with heap:=h'}):vK (vQ prog w) A (pyNext (.ref z)) Q E s:=by
 have hT:s.TypeIs (.ref z) "zip":=⟨_,hz,rfl⟩;unfold pyNext;refine vq (wpAny_attempt (vz (name:=Str.ofString "__next__") hT PySem.F.slot_zip_next (vj PySem.F.slot_zip_next hT PySem.F.entry_zip_next ?_ (PySem.F.args_zip_next_1 _))));refine ZHR hz hTI hne λh₁ hz₁ hs₁ body hb=>?_
 have k₁:∀b o,b≠z->s.heap.get? b=vD o->h₁.get? b=vD o:=λb o hb q=>hs₁.extBut b o hb q
 have d₁:Drw h₁ i l us:=by
  have h1:∀q∈l,q.2≠z/\q.1.adr≠z:=zz.2;clear hTI hlen hsz hne a zz hQ
  induction d with
  |nil=>exact .nil
  |cons hit hv hx t ih=>exact .cons (hit.at λo e=>k₁ _ o (h1 _ zW).1 e) (hv.at λo e=>k₁ _ o (h1 _ zW).2 e) hx (ih λq hq=>h1 q (zJ _ hq))
 refine ZD6 (z:=z) (TO:=TO) (i:=i) hb l us [] os {s with heap:=h₁} d₁ (k₁ _ _ (Ne.symm zz.1) hTO) hlen (by simpa[hlen]using hsz) a.nd a.na a.np λh₂ t₂ it₂ k₂ sz₂=>⟨rfl,us,t₂,by rw[d.length];exact hsz,?_,λh₃ z₃ p₃ s₃ k₃=>?_⟩
 ·refine k₂ _ _ zz.1 (λhm=>?_) hz₁;obtain⟨q,hq,e⟩:=zD.mp hm;exact(zz.2 q hq).1 e
 ·have e2:h₂.objs.size=s.heap.objs.size:=by rw[sz₂];exact hs₁.1
  refine⟨_,rfl,v6 ?_⟩;show Q (vD (.ref h₂.objs.size)) _;have z₃':IsZip h₃ z TI TO (vZ h₂.objs.size):=z₃;have p₃':Tp h₃ h₂.objs.size us:=p₃;have s₃':h₃.objs.size=h₂.objs.size+1:=s₃;have k₃':∀b o,b≠z->h₂.get? b=vD o->h₃.get? b=vD o:=k₃;rw[e2]at z₃' p₃' s₃'⊢;exact hQ h₃ z₃' (k₃' _ _ (Ne.symm zz.1) t₂) (λq hq=>(it₂ q hq).at λo e=>k₃' _ o (zz.2 q hq).1 e) p₃' s₃' λb o b1 b2 b3 q=>k₃' b o b1 (k₂ b o b2 b3 (k₁ b o b1 q))
theorem ZJe{z TI TO:xY}{i:Nat}{l:List (Src×xY)}{Q:Option xC->xA->Prop}(hh:A.handled=vE)(hz:IsZip s.heap z TI TO .none)(hTI:Tp s.heap TI (l.map λq=>Value.ref q.2))(hTO:Tp s.heap TO os)(hlen:os.length=l.length)(hsz:l.length<=1000000)(hne:l≠[])
  (a:ApZ TO l) (zz:z≠TO/\(∀q∈l,q.2≠z/\q.1.adr≠z)) (d:DrwE s.heap i l)
  (hQ:∀h',(∀b o,b≠z->b≠TO->b∉l.map (·.2)->s.heap.get? b=vD o->h'.get? b=vD o)->Q vE {s with heap:=h'}):vK (vQ prog w) A (pyNext (.ref z)) Q E s:=by
 have hT:s.TypeIs (.ref z) "zip":=⟨_,hz,rfl⟩;unfold pyNext;refine vq (wpAny_attempt (vz (name:=Str.ofString "__next__") hT PySem.F.slot_zip_next (vj PySem.F.slot_zip_next hT PySem.F.entry_zip_next ?_ (PySem.F.args_zip_next_1 _))));refine ZHR hz hTI hne λh₁ hz₁ hs₁ body hb=>?_
 have k₁:∀b o,b≠z->s.heap.get? b=vD o->h₁.get? b=vD o:=λb o hb q=>hs₁.extBut b o hb q
 have d₁:DrwE h₁ i l:=by
  have h1:∀q∈l,q.2≠z/\q.1.adr≠z:=zz.2;clear hTI hlen hsz hne a zz hQ
  induction d with
  |here hit hv hx=>exact .here (hit.at λo e=>k₁ _ o (h1 _ zW).1 e) (hv.at λo e=>k₁ _ o (h1 _ zW).2 e) hx
  |there hit hv hx t ih=>exact .there (hit.at λo e=>k₁ _ o (h1 _ zW).1 e) (hv.at λo e=>k₁ _ o (h1 _ zW).2 e) hx (ih λq hq=>h1 q (zJ _ hq))
 refine ZE0 (A:=A.in1) (z:=z) (TO:=TO) (i:=i) (show A.in1.handled=vE from hh) hb l os 0 {s with heap:=h₁} d₁ (k₁ _ _ (Ne.symm zz.1) hTO) (by rw[hlen];exact hsz) a λh₂ e k₂ st=>?_
 have hz₂:IsZip h₂ z TI TO .ellipsis:=by refine k₂ _ _ zz.1 (λhm=>?_) hz₁;obtain⟨q,hq,e⟩:=zD.mp hm;exact(zz.2 q hq).1 e
 obtain⟨o,ho,hc⟩:=st;have hez:e≠z:=λx=>by subst x;rw[hz₂]at ho;cases ho;simp at hc
 refine v7 hz₂ (by simp) λh₃ _ hs₃=>?_
 refine vq (wpAny_isInstance (T:="StopIteration") (b:=vF) ⟨o,hs₃.extBut _ _ hez ho,hc⟩ isSubtype_stop (v6 ?_));exact hQ h₃ λb o b1 b2 b3 q=>hs₃.extBut _ _ b1 (k₂ b o b2 b3 (k₁ b o b1 q))
theorem ZE9:∀(ls:List Src)(pre:Array xC)(s:xA){Q:Array xC->xA->Prop},(∀sr∈ls,∃xs,sr.val s.heap xs)->
  (∀h',(∀q∈ls.zipIdx s.heap.objs.size,q.1.it h' q.2 0)->h'.objs.size=s.heap.objs.size+ls.length->(∀b o,s.heap.get? b=vD o->h'.get? b=vD o)->Q (pre++((ls.zipIdx s.heap.objs.size).map λq=>Value.ref q.2).toArray) {s with heap:=h'})->
  vK (vQ prog w) A (forIn (ls.map λsr=>Value.ref sr.adr) pre λx r=>do let v<-holding r.toList (pyIter x);pure (ForInStep.yield (r.push v))) Q E s
 |[],pre,s,Q,hv,h=>by rw[xV,List.forIn_nil];refine v6 ?_;have:=h s.heap (λq hq=>by cases hq) rfl (λ_ _ e=>e);simpa using this
 | sr::ls,pre,s,Q,hv,h=>by
  rw[zE,xJ];obtain⟨xs,hx⟩:=hv sr zW;refine vq (vq (vv (Src.iter hx (v6 ?_))));dsimp only;have z1:(s.heap.push {cls:=.type sr.itn,data:=.fields #[.ref sr.adr,.int 0 0]}).objs.size=s.heap.objs.size+1:=q9 ..;refine ZE9 ls (pre.push (.ref s.heap.objs.size)) {s with heap:=s.heap.push {cls:=.type sr.itn,data:=.fields #[.ref sr.adr,.int 0 0]}} (λsr' hm=>?_) λh' hi hz kp=>?_
  ·obtain⟨ys,hy⟩:=hv sr' (zJ _ hm);exact⟨ys,hy.at λo e=>zQ _ e⟩
  ·dsimp only at hi hz kp⊢;rw[z1]at hi hz⊢;have:=h h' (λq hq=>?_) (by rw[hz,qV];lia) (λb o e=>kp b o (zQ _ e))
   ·rw[jN,zE]at this;simpa using this
   ·rw[jN]at hq;rcases zx.mp hq with rfl|hq
    ·exact⟨_,kp _ _ (zy _ rfl),rfl,rfl⟩
    ·exact hi q hq
theorem ZMZ{ls:List Src}{Q:xC->xA->Prop}(hv:∀sr∈ls,∃xs,sr.val s.heap xs)(hl:ls.length<=1000000)
  (hct:checkTypeCall "zip" ⟨ls.map λsr=>Value.ref sr.adr,[]⟩=pure ()) (hcn:xN "zip.__new__" ⟨.type "zip"::ls.map λsr=>Value.ref sr.adr,[]⟩=pure ()) (hok:∀obj,argsOk "object.__init__" ⟨obj::ls.map λsr=>Value.ref sr.adr,[]⟩)
  (h:∀h' n,n=s.heap.objs.size+ls.length->IsZip h' (n+2) n (n+1) .none->Tp h' n ((ls.zipIdx s.heap.objs.size).map λq=>Value.ref q.2)->Tp h' (n+1) (ls.map λ_=>Value.none)->(∀q∈ls.zipIdx s.heap.objs.size,q.1.it h' q.2 0)->
   (∀b o,s.heap.get? b=vD o->h'.get? b=vD o)->Q (.ref (n+2)) {s with heap:=h'}):
  vK (vQ prog w) A (call (.type "zip") (ls.map λsr=>Value.ref sr.adr)) Q E s:=by
 have g:Meets (Builtin.«zip.__new__» ⟨.type "zip"::ls.map λsr=>Value.ref sr.adr,[]⟩) (λ_ R s=>(∀sr∈ls,∃xs,sr.val s.heap xs)/\
   ∀h' n,n=s.heap.objs.size+ls.length->IsZip h' (n+2) n (n+1) .none->Tp h' n ((ls.zipIdx s.heap.objs.size).map λq=>Value.ref q.2)->Tp h' (n+1) (ls.map λ_=>Value.none)->(∀q∈ls.zipIdx s.heap.objs.size,q.1.it h' q.2 0)->
    (∀b o,s.heap.get? b=vD o->h'.get? b=vD o)->R (.ok (.ret (.ref (n+2)))) {s with heap:=h'}):=
  .of_wp λprog w A R s hh=>by
   obtain⟨hv,hR⟩:=hh;have hsub:=sub_zip;unfold Builtin.«zip.__new__» Builtin.SmallTypes.newClass
   wp_walk
   refine ZE9 ls #[] s hv λh1 hi hz kp=>v6 ?_
   have e1:(#[]++((ls.zipIdx s.heap.objs.size).map λq=>Value.ref q.2).toArray:Array xC).toList=(ls.zipIdx s.heap.objs.size).map λq=>Value.ref q.2:=by simp
   rw[e1];have hlen:((ls.zipIdx s.heap.objs.size).map λq=>Value.ref q.2).length=ls.length:=by simp
   refine vq (wpAny_newTuple ?_ (by rw[hlen];exact z5 hl size6));refine vq (wpAny_newTuple ?_ (by rw[qW,hlen];exact z5 hl size6));refine vq ?_;unfold Builtin.SmallTypes.newRecord;dsimp only;refine v4 (v6 ⟨_,rfl,?_⟩) (by simp[sizeOk,Builtin.SmallTypes.ownedTupleFields,vJ]);generalize e2:s.heap.objs.size+ls.length=n at*
   have e3:((ls.zipIdx s.heap.objs.size).map λq=>Value.ref q.2).map (λ_=>Value.none)=ls.map λ_=>Value.none:=by refine jZ (by simp) λi h1 h2=>by simp
   dsimp only;rw[e3];generalize((ls.zipIdx s.heap.objs.size).map λq=>Value.ref q.2)=us at*;generalize(ls.map λ_=>Value.none)=ns at*;have s1:(h1.push {cls:=.type "tuple",data:=.seq us.toArray}).objs.size=n+1:=by rw[q9,hz]
   have s2:((h1.push {cls:=.type "tuple",data:=.seq us.toArray}).push {cls:=.type "tuple",data:=.seq ns.toArray}).objs.size=n+2:=by rw[q9,s1]
   show R (.ok (.ret (.ref ((h1.push {cls:=.type "tuple",data:=.seq us.toArray}).push {cls:=.type "tuple",data:=.seq ns.toArray}).objs.size))) _;rw[s2];refine hR _ n rfl ?_ (zQ _ (zQ _ (by rw[<-hz];exact zy _ rfl))) (zQ _ (by rw[<-s1];exact zy _ rfl)) (λq hq=>(hi q hq).at λo e=>zQ _ (zQ _ (zQ _ e))) λb o e=>zQ _ (zQ _ (zQ _ (kp b o e)))
   have:=zy ((h1.push {cls:=.type "tuple",data:=.seq us.toArray}).push {cls:=.type "tuple",data:=.seq ns.toArray}) (o:={cls:=.type "zip",data:=.fields #[.none,.bool vG,.bool vG,.ref h1.objs.size,.ref (h1.push {cls:=.type "tuple",data:=.seq us.toArray}).objs.size]}) rfl;rw[s2]at this;rw[hz,s1]at this;show _=_;rw[hz,s1];exact this
 refine callType_new PySem.F.called_zip (by decide) hct hcn hok PySem.F.entry_zip_new g ⟨hv,λh' n hn hz hTI hTO hi kp=>⟨⟨_,hz,rfl⟩,h h' n hn hz hTI hTO hi kp⟩⟩
end
end _D
namespace _D
open PySem PySem.W PyProof.Rows
section
def Bj(lt:Nat->Nat->Bool){α:Type}:KasT α->α
 |.ret a=>a
 |.ask i j k=>Bj lt (k (lt i j))
theorem Mt(lt:Nat->Nat->Bool){α β:Type}(f:α->KasT β):∀t:KasT α,Bj lt (t.bind f)=Bj lt (f (Bj lt t))
 |.ret _=>rfl
 |.ask i j k=>Mt lt f (k (lt i j))
structure WO (lt:Nat->Nat->Bool):Prop where
 asy:∀i j,lt i j=vF->lt j i=vG
 neg:∀i j k,lt i k=vF->lt i j=vF∨lt j k=vF
variable{lt:Nat->Nat->Bool}
theorem WO.refl(o:WO lt)(i:Nat):lt i i=vG:=by
 cases h:lt i i
 ·rfl
 ·have:=o.asy i i h;rw[h]at this;exact this
theorem WO.tr(o:WO lt)(h1:lt j i=vG)(h2:lt k j=vG):lt k i=vG:=by
 cases h:lt k i
 ·rfl
 ·rcases o.neg k j i h with z|z
  ·rw[z]at h2;cases h2
  ·rw[z]at h1;cases h1
noncomputable abbrev pt(p:Array Nat)(j:Nat):Nat:=p.getD j 0
theorem Mh(p:Array Nat)(j:Nat):pt p j=(p[j]?).getD 0:=by simp[pt]
def Srt(lt:Nat->Nat->Bool)(p:Array Nat)(k:Nat):Prop:=∀i j,i<=j->j<k->lt (pt p j) (pt p i)=vG
def NIn(lt:Nat->Nat->Bool)(p:Array Nat)(k:Nat):Prop:=∀i j,i<=j->j<k->lt (pt p i) (pt p j)=vG
theorem Gr(hj:j<=p.size)(k:Nat):pt (vB p i j) k=if i<=k/\k<j then pt p (i+j-1-k)else pt p k:=by
 rw[Mh,vB,getElem?_mirror_all hj]
 split <;> exact(Mh ..).symm
theorem ZPU(hs:src<p.size)(hd:d<=src)(k:Nat):pt (bubble p src d) k=if k=src-d then pt p src else if src-d<k/\k<=src then pt p (k-1)else pt p k:=by
 rw[Mh,getElem?_bubble hs d hd];by_cases h1:k=src-d
 ·rw[if_pos h1,if_pos h1];exact(Mh ..).symm
 ·rw[if_neg h1,if_neg h1];by_cases h2:src-d<k/\k<=src
  ·rw[if_pos h2,if_pos h2];exact(Mh ..).symm
  ·rw[if_neg h2,if_neg h2];exact(Mh ..).symm
theorem Y8(o:WO lt)(p:Array Nat):∀f n,1<=n->Srt lt p n->∀m,Bj lt (kas_asc p f n)=m->n<=m/\m<=n+f/\Srt lt p m/\(m<n+f->lt (pt p m) (pt p (m-1))=vF)
 |0,n,h1,h,m,e=>by have e':n=m:=e;subst e';exact⟨zY _,zY _,h,λz=>absurd z (qQ _)⟩
 | f + 1,n,h1,h,m,e=>by
  unfold kas_asc at e;have e1:Bj lt (if lt (pt p n) (pt p (n-1))=vF then KasT.ret n else kas_asc p f (n+1))=m:=e;cases hc:lt (pt p n) (pt p (n-1))with
  |true=>
   rw[hc,if_pos rfl]at e1;have e':n=m:=e1;subst e';exact⟨zY _,by lia,h,λ_=>hc⟩
  | false=>
   rw[hc,if_neg (by simp)]at e1;have h':Srt lt p (n+1):=λi j hij hj=>by
    by_cases e:j<n
    ·exact h i j hij e
    ·have e':j=n:=by lia
     subst e';by_cases e2:i=j
     ·rw[e2];exact o.refl _
     ·exact o.tr (h i (j-1) (by lia) (by lia)) hc
   obtain⟨a,b,c,d⟩:=Y8 o p f (n+1) (by lia) h' m e1;exact⟨by lia,by lia,c,λz=>d (by lia)⟩
structure Dn (lt:Nat->Nat->Bool) (p:Array Nat) (n q:Nat):Prop where
 ni:NIn lt p n
 al:∀i j,n-(q+1)<=i->i<n->n-(q+1)<=j->j<n->lt (pt p i) (pt p j)=vG
 qn:q+1<=n
theorem NIn.rev(d:Dn lt p n q)(hn:n<=p.size):NIn lt (vB p (n-(q+1)) n) n:=λi j hij hj=>by
 have:=d.qn;rw[Gr hn,Gr hn];by_cases h1:n-(q+1)<=i
 ·rw[if_pos ⟨h1,by lia⟩,if_pos ⟨by lia,hj⟩];exact d.al _ _ (by lia) (by lia) (by lia) (by lia)
 ·rw[if_neg (by lia)];by_cases h2:n-(q+1)<=j
  ·rw[if_pos ⟨h2,hj⟩];exact d.ni _ _ (by lia) (by lia)
  ·rw[if_neg (by lia)];exact d.ni i j hij hj
theorem Qf(o:WO lt):∀f(p:Array Nat)n q,n+f<=p.size->Dn lt p n q->∀r,Bj lt (kas_desc f p n q)=r->r.1.Perm p/\r.2.1<=n+f/\n<=r.2.1/\Dn lt r.1 r.2.1 r.2.2
 |0,p,n,q,hz,d,r,e=>by have e':(p,n,q)=r:=e;subst e';exact⟨.refl _,zY _,zY _,d⟩
 | f + 1,p,n,q,hz,d,r,e=>by
  have qn:=d.qn;unfold kas_desc at e;have e1:Bj lt (if lt (pt p n) (pt p (n-1))=vF then(if q>0 then kas_desc f (vB p (n-(q+1)) n) (n+1) 0 else kas_desc f p (n+1) 0)
   else .ask (p.getD (n-1) 0) (p.getD n 0) λd=>if d=vF then .ret (p,n,q)else kas_desc f p (n+1) (q+1))=r:=e
  clear e;cases hc:lt (pt p n) (pt p (n-1))with
  | true=>
   rw [hc,if_pos rfl]at e1;have ext:∀p':Array Nat,NIn lt p' n->pt p' n=pt p n->(∀k,k<n->lt (pt p n) (pt p' k)=vF∨k<n)->lt (pt p' (n-1)) (pt p' n)=vG->Dn lt p' (n+1) 0:=λp' hni _ _ hl=>by
    refine⟨λi j hij hj=>?_,λi j h1 h2 h3 h4=>?_,by lia⟩
    ·by_cases e:j<n
     ·exact hni i j hij e
     ·have e':j=n:=by lia
      subst e';by_cases e2:i=j
      ·rw[e2];exact o.refl _
      ·exact o.tr hl (hni i (j-1) (by lia) (by lia))
    ·have e1:i=n:=by lia
     have e2:j=n:=by lia
     rw[e1,e2];exact o.refl _
   by_cases hq:q>0
   ·rw[if_pos hq]at e1;have hl:lt (pt (vB p (n-(q+1)) n) (n-1)) (pt (vB p (n-(q+1)) n) n)=vG:=by
     rw[Gr (by lia),Gr (by lia),if_pos (by lia),if_neg (by lia)];cases hx:lt (pt p (n-(q+1)+n-1-(n-1))) (pt p n)
     ·rfl
     ·rcases o.neg _ (pt p (n-1)) _ hx with z|z
      ·rw[d.al _ _ (by lia) (by lia) (by lia) (by lia)]at z;cases z
      ·rw[o.asy _ _ hc]at z;cases z
    obtain⟨a,b,c,dd⟩:=Qf o f _ (n+1) 0 (by rw[vB,mirror_size];lia) (ext _ (NIn.rev d (by lia)) (by rw[Gr (by lia),if_neg (by lia)]) (λk hk=>.inr hk) hl) r e1;exact⟨a.trans (mirror_perm ..),by lia,by lia,dd⟩
   ·rw[if_neg hq]at e1;obtain⟨a,b,c,dd⟩:=Qf o f p (n+1) 0 (by lia) (ext p d.ni rfl (λk hk=>.inr hk) (o.asy _ _ hc)) r e1;exact⟨a,by lia,by lia,dd⟩
  | false=>
   rw[hc,if_neg (by simp)]at e1;have e2:Bj lt (if lt (pt p (n-1)) (pt p n)=vF then .ret (p,n,q)else kas_desc f p (n+1) (q+1))=r:=e1;cases hd:lt (pt p (n-1)) (pt p n)with
   |true=>
    rw[hd,if_pos rfl]at e2;have e3:(p,n,q)=r:=e2;subst e3;exact⟨.refl _,by show n<=_;lia,zY _,d⟩
   | false=>
    rw[hd,if_neg (by simp)]at e2;have al':∀i,n-(q+1)<=i->i<n+1->lt (pt p i) (pt p n)=vG/\lt (pt p n) (pt p i)=vG:=λi h1 h2=>by
     by_cases e:i=n
     ·rw[e];exact⟨o.refl _,o.refl _⟩
     ·exact⟨o.tr hd (d.al i (n-1) h1 (by lia) (by lia) (by lia)),o.tr (d.al (n-1) i (by lia) (by lia) h1 (by lia)) hc⟩
    obtain⟨a,b,c,dd⟩:=Qf o f p (n+1) (q+1) (by lia) ⟨λi j hij hj=>by
     by_cases e:j<n
     ·exact d.ni i j hij e
     ·have e':j=n:=by lia
      subst e';by_cases e2:i=j
      ·rw[e2];exact o.refl _
      ·exact o.tr hd (d.ni i (j-1) (by lia) (by lia)),λi j h1 h2 h3 h4=>by
     by_cases ei:i=n
     ·rw[ei];exact(al' j (by lia) h4).2
     ·by_cases ej:j=n
      ·rw[ej];exact(al' i (by lia) h2).1
      ·exact d.al i j (by lia) (by lia) (by lia) (by lia),by lia⟩ r e2
    exact⟨a,by lia,by lia,dd⟩
theorem ZEf(o:WO lt)(h1:1<=n)(hn:n<=nrem)(hz:nrem<=p.size)(d:NIn lt p n):∀r,Bj lt (kas_tail3 n nrem p)=r->r.2.Perm p/\r.1<=nrem/\1<=r.1/\Srt lt r.2 r.1:=by
 intro r e;unfold kas_tail3 at e;rw[Mt]at e;have s0:Srt lt (vB p 0 n) n:=λi j hij hj=>by rw[Gr (by lia),Gr (by lia),if_pos (by lia),if_pos (by lia)];exact d _ _ (by lia) (by lia)
 obtain⟨a,b,c,_⟩:=Y8 o (vB p 0 n) (nrem-n) n h1 s0 _ rfl;have e':(Bj lt (kas_asc (vB p 0 n) (nrem-n) n),vB p 0 n)=r:=e;subst e';exact⟨mirror_perm ..,by show Bj lt (kas_asc (vB p 0 n) (nrem-n) n)<=nrem;lia,by show 1<=Bj lt (kas_asc (vB p 0 n) (nrem-n) n);lia,c⟩
theorem ZGP(o:WO lt)(h1:1<=n)(hn:n<nrem)(hz:nrem<=p.size)(al:∀i j,i<n->j<n->lt (pt p i) (pt p j)=vG)(hl:lt (pt p n) (pt p (n-1))=vF):
  ∀r,Bj lt (kas_descPart n nrem p)=r->r.2.Perm p/\r.1<=nrem/\1<=r.1/\Srt lt r.2 r.1:=by
 intro r e;unfold kas_descPart at e;rw[Mt]at e;have d0:Dn lt p (n+1) 0:=⟨λi j hij hj=>by
  by_cases e:j<n
  ·exact al i j (by lia) e
  ·have e':j=n:=by lia
   subst e';by_cases e2:i=j
   ·rw[e2];exact o.refl _
   ·exact o.tr (o.asy _ _ hl) (al i (j-1) (by lia) (by lia)),λi j _ _ _ _=>by
  have e1:i=n:=by lia
  have e2:j=n:=by lia
  rw[e1,e2];exact o.refl _,by lia⟩
 obtain⟨a,b,c,dd⟩:=Qf o (nrem-(n+1)) p (n+1) 0 (by lia) d0 _ rfl
 revert a b c dd e
 generalize Bj lt (kas_desc (nrem-(n+1)) p (n+1) 0)=x;intro e a b c dd;have hx:x.1.size=p.size:=a.size_eq;split at e
 ·obtain⟨a',b',c',d'⟩:=ZEf o (by lia) (by lia) (by rw[vB,mirror_size];lia) (NIn.rev dd (by lia)) r e;exact⟨(a'.trans (mirror_perm ..)).trans a,b',c',d'⟩
 ·obtain⟨a',b',c',d'⟩:=ZEf o (by lia) (by lia) (by lia) dd.ni r e;exact⟨a'.trans a,b',c',d'⟩
theorem ZNO(o:WO lt)(h1:1<=nrem)(hz:nrem<=p.size):∀r,Bj lt (kas_count nrem p)=r->r.2.Perm p/\r.1<=nrem/\1<=r.1/\Srt lt r.2 r.1:=by
 intro r e;unfold kas_count at e;rw[Mt]at e;obtain⟨a,b,c,d⟩:=Y8 o p (nrem-1) 1 (zY _) (λi j hij hj=>by
  have e1:i=0:=by lia
  have e2:j=0:=by lia
  rw[e1,e2];exact o.refl _) _ rfl
 revert a b c d e
 generalize Bj lt (kas_asc p (nrem-1) 1)=n;intro e a b c d;split at e
 ·have e':(n,p)=r:=e;subst e';exact⟨.refl _,by show n<=nrem;lia,a,c⟩
 ·rename_i hne;have hn:n<nrem:=by
   have:n≠nrem:=by simpa using hne
   lia
  have hl:=d (by lia);split at e
  ·rename_i hgt;have e':Bj lt (if lt (pt p 0) (pt p (n-1))=vF then .ret (n,p)else kas_descPart n nrem (vB p 0 n))=r:=e;cases hc:lt (pt p 0) (pt p (n-1))with
   |true=>
    rw[hc,if_pos rfl]at e';have e2:(n,p)=r:=e';subst e2;exact⟨.refl _,by show n<=nrem;lia,a,c⟩
   | false=>
    rw[hc,if_neg (by simp)]at e';have al:∀i j,i<n->j<n->lt (pt p i) (pt p j)=vG:=λi j hi hj=>o.tr (c j (n-1) (by lia) (by lia) |> λz=>z) (o.tr hc (c 0 i (by lia) hi) |> λz=>by exact z)
    obtain⟨a',b',c',d'⟩:=ZGP o (p:=vB p 0 n) a hn (by rw[vB,mirror_size];lia) (λi j hi hj=>by
     rw[Gr (by lia),Gr (by lia),if_pos (by lia),if_pos (by lia)];exact al _ _ (by lia) (by lia)) (by
     rw[Gr (by lia),Gr (by lia),if_neg (by lia),if_pos (by lia)];rcases o.neg _ (pt p (0+n-1-(n-1))) _ hl with z|z
     ·exact z
     ·rw[al _ _ (by lia) (by lia)]at z;cases z) r e'
    exact⟨a'.trans (mirror_perm ..),b',c',d'⟩
  ·have e1:n=1:=by lia
   subst e1;exact ZGP o (zY _) hn hz (λi j hi hj=>by
    have e1:i=0:=by lia
    have e2:j=0:=by lia
    rw[e1,e2];exact o.refl _) hl r e
theorem Y4(o:WO lt)(p:Array Nat)(k:Nat)(hs:Srt lt p k):∀f l r,r-l<=f->l<=r->r<=k->(∀i,i<l->lt (pt p k) (pt p i)=vG)->(∀i,r<=i->i<k->lt (pt p k) (pt p i)=vF)->
  ∀m,Bj lt (kas_place p k f l r)=m->m<=k/\(∀i,i<m->lt (pt p k) (pt p i)=vG)/\(∀i,m<=i->i<k->lt (pt p k) (pt p i)=vF)
 |0,l,r,hf,hlr,hr,h1,h2,m,e=>by have e':l=m:=e;subst e';exact⟨by lia,h1,λi hi hk=>h2 i (by lia) hk⟩
 | f+1,l,r,hf,hlr,hr,h1,h2,m,e=>by
  unfold kas_place at e;split at e
  ·have e':l=m:=e;subst e';exact⟨by lia,h1,λi hi hk=>h2 i (by lia) hk⟩
  ·rename_i hlt;have e':Bj lt (if lt (pt p k) (pt p ((l+r)/2))=vF then kas_place p k f l ((l+r)/2)else kas_place p k f ((l+r)/2+1) r)=m:=e;cases hc:lt (pt p k) (pt p ((l+r)/2))with
   |true=>
    rw[hc,if_pos rfl]at e';refine Y4 o p k hs f l ((l+r)/2) (by lia) (by lia) (by lia) h1 (λi hi hk=>?_) m e';rcases o.neg _ (pt p i) _ hc with z|z
    ·exact z
    ·rw[hs _ i hi hk]at z;cases z
   |false=>
    rw[hc,if_neg (by simp)]at e';exact Y4 o p k hs f ((l+r)/2+1) r (by lia) (by lia) hr (λi hi=>o.tr (hs i ((l+r)/2) (by lia) (by lia)) hc) h2 m e'
theorem ZBw(o:WO lt):∀f(p:Array Nat)k,k+f=p.size->Srt lt p k->(Bj lt (kas_bin f p k)).Perm p/\Srt lt (Bj lt (kas_bin f p k)) p.size
 |0,p,k,hz,hs=>⟨.refl _,by
  have:k=p.size:=by lia
  rw[<-this];exact hs⟩
 | f + 1,p,k,hz,hs=>by
  unfold kas_bin;rw[Mt];obtain⟨hm,h1,h2⟩:=Y4 o p k hs k 0 k (by lia) (by lia) (zY _) (λi hi=>by lia) (λi hi hk=>by lia) _ rfl
  revert hm h1 h2
  generalize Bj lt (kas_place p k k 0 k)=m;intro hm h1 h2;have sz:(bubble p k (k-m)).size=p.size:=bubble_size ..;have hk:k<p.size:=by lia
  have e:∀j,pt (bubble p k (k-m)) j=if j=m then pt p k else if m<j/\j<=k then pt p (j-1)else pt p j:=λj=>by
   rw[ZPU hk (by lia)];have:k-(k-m)=m:=by lia
   rw[this]
  obtain⟨a,b⟩:=ZBw o f (bubble p k (k-m)) (k+1) (by lia) (λi j hij hj=>by
   rw[e i,e j];by_cases ji:j=m
   ·rw[if_pos ji];by_cases ii:i=m
    ·rw[if_pos ii];exact o.refl _
    ·rw[if_neg ii,if_neg (by lia)];exact h1 i (by lia)
   ·rw[if_neg ji];by_cases jm:m<j
    ·rw[if_pos ⟨jm,by lia⟩];by_cases ii:i=m
     ·rw[if_pos ii];exact o.asy _ _ (h2 _ (by lia) (by lia))
     ·rw[if_neg ii];by_cases im:m<i
      ·rw[if_pos ⟨im,by lia⟩];exact hs _ _ (by lia) (by lia)
      ·rw[if_neg (by lia)];exact hs _ _ (by lia) (by lia)
    ·rw[if_neg (by lia),if_neg (by lia),if_neg (by lia)];exact hs i j hij (by lia))
  rw[sz]at b;exact⟨a.trans (bubble_perm ..),b⟩
theorem ZES(o:WO lt)(hn:1<=n):(Bj lt (kas_sort n)).toList.Perm (zV n)/\Srt lt (Bj lt (kas_sort n)) n:=by
 unfold kas_sort;rw[Mt];obtain⟨a,b,c,d⟩:=ZNO o (p:=(zV n).toArray) (nrem:=n) hn (by simp) _ rfl
 revert a b c d
 generalize Bj lt (kas_count n (zV n).toArray)=x;intro a b c d;have hx:x.2.size=n:=by rw[a.size_eq];simp
 split
 ·have e:max x.1 1=x.1:=by lia
  rw[e];obtain⟨a',b'⟩:=ZBw o (n-x.1) x.2 x.1 (by lia) d;rw[hx]at b';exact⟨by simpa using(a'.trans a).toList,b'⟩
 ·have e:x.1=n:=by lia
  rw[e]at d;exact⟨by simpa[Bj]using a.toList,d⟩
end
end _D
namespace _D
open PySem PySem.Spec _L
open PyProof.Rows hiding St
variable{vC:List (xY×Obj)}{elts:List xz}
section
variable{X:Cx}{vC:List (xY×Obj)}{σ:St}{H:Hp}{s:xA}{h':Heap}
theorem ZBJ{t':Nat}{fp:List xY}(I:Inv X vC σ H s)(k:∀b o,b∉fp->s.heap.get? b=vD o->h'.get? b=vD o)(hf:∀b∈fp,FpOk X vC H b):Inv X vC σ H {s with heap:=h',toks:=t'}:=by
 have nit:∀b u,H b=vD u->b∉fp:=λb u e z=>by rw[(hf b z).1]at e;cases e
 refine I.step (g':=s.gens) (d':=s.drawn) (ch:=fp) (λb hb=>?_) (λb o _ _ hc e _=>k b o hc e) (λb o _ _ hc e _=>⟨o.slots,k b o hc e⟩) (λ_ _ _ _ n=>n)
  (λb o hc e=>⟨o,k b o hc e⟩) (λ_ _ e=>e) (λ_ _ _ e=>e) (λb ps e=>⟨#[],by rw[e];simp⟩) (λm hm=>?_) (λb u e=>?_) I.bare
 ·obtain⟨f0,f1,f2,f3,f4,f5⟩:=hf b hb;exact⟨f3,f1,f4,f5⟩
 ·obtain⟨o,es,ep,ho,r⟩:=hm;exact⟨o,es,ep,k _ o (λz=>(hf _ z).2.1 rfl) ho,r⟩
 ·refine(I.hok b u e).stay (λc v hc q=>k c v ?_ q) (λ_ q=>q) λ_ _ q=>q
  rcases hc with z|z
  ·rw[z];exact nit b u e
  ·exact nit c _ z
theorem ZFD{t':Nat}{fp:List xY}{p:xY}{xs:List V}{its:List xC}(I:Inv X vC σ H s)(k:∀b o,b∉fp->s.heap.get? b=vD o->h'.get? b=vD o)(hf:∀b∈fp,FpOk X vC H b)(hp:s.heap.objs.size<=p)
  (hz:xs.length<=sizeLine) (r:Vals xs its) (ht:Tp h' p its):Inv X vC σ (upd H p (.tup xs)) {s with heap:=h',toks:=t'}:=by
 obtain⟨g0,g1,g2,g3,g4,g5⟩:=I.Ha (H':=H) hp (I.hok.fresh hp);exact ZAU (ZBJ I k hf) g0 (z5 I.sz hp) g1 g4 g5 ⟨hz,its,r,_,ht,rfl,_,rfl⟩
end
def Src.sq(K:PySem.W.Frag)(H:Hp)(xs:List V):Src->Prop
 |.l a=>SqL K H a xs
 |.t a=>SqT K H a xs
variable{ls:List Src}
theorem Src.sq.val{X:Cx}{σ:St}{H:Hp}{s:xA}{sr:Src}{xs:List V}(I:Inv X vC σ H s)(h:sr.sq X.K H xs):∃its:List xC,Vals xs its/\sr.val s.heap its.toArray/\xs.length<=sizeLine:=by
 cases sr with
 |l a=>obtain⟨its,r,p,hz⟩:=I.list h;exact⟨its,r,p.isList,hz⟩
 |t a=>obtain⟨its,r,p,hz⟩:=I.tuple h;exact⟨its,r,p,hz⟩
theorem Src.sq.inj{X:Cx}{σ:St}{H:Hp}{s:xA}{sr:Src}{xs ys:List V}(I:Inv X vC σ H s)(h:sr.sq X.K H xs)(h':sr.sq X.K H ys):xs=ys:=by
 cases sr with
 |l a=>exact I.ZAB h h'
 |t a=>exact I.ZA9 h h'
def Ite(K:PySem.W.Frag)(sr:Src)(n:Int):It:=
 ⟨λi H=>∃xs x,sr.sq K H xs/\xs[i]?=vD x,λi H v H'=>∃p x,v=.ref p/\H p=vE/\H'=upd H p (.tup [.int (n+i),x])/\∀xs,sr.sq K H xs->xs[i]?=vD x,λi H=>∃xs,sr.sq K H xs/\xs.length<=i⟩
theorem ZGk{P:xy}{w:xD}{K:PySem.W.Frag}{x1}{pos:Pos}(sr:Src)(n:Int)(e it:xY)(hne:e≠it):
  Turn P w K (.Tuple elts x1 pos) (Ite K sr n) [e,it] e (λi h=>∃g old,En h e it .none (n+i) g old/\Gv (n+i) g/\sr.it h it i) where
 mem:=by simp
 obj:=λi h st b hb=>by
  obtain⟨g,old,he,_,o,ho,_,hd⟩:=st;rcases(show b=e∨b=it by simpa using hb)with rfl|rfl
  ·exact⟨_,he,λv z=>by cases z⟩
  ·exact⟨o,ho,λv z=>by rw[hd]at z;cases z⟩
 keep:=λi h h' st k=>by obtain⟨g,old,he,hg,hi⟩:=st;exact⟨g,old,k e (by simp) _ he,hg,hi.at λo q=>k it (by simp) o q⟩
 item:=by
  intro X hP hw hK hc i vC s σ H E I hf st hg;subst hP hw hK;obtain⟨xs,x,hq,hx⟩:=hg;obtain⟨its,rv,hv,hz⟩:=Src.sq.val I hq;obtain⟨u,hu,ru⟩:=rv.get hx;obtain⟨g,old,he,hgv,hi⟩:=st;refine ZLT he hgv hi hv (x:=u) (by simpa using hu) hne λh1 t tk e1 i1 t1 z1 k1=>⟨_,rfl,?_⟩
  refine ZSO (s:={s with heap:=h1,toks:=tk}) e1 λh2 e2 sb=>?_
  have hpe:s.heap.objs.size≠e:=jV (zj he);have I2:Inv X vC σ (upd H s.heap.objs.size (.tup [.int (n+i),x])) {s with heap:=h2,toks:=tk}:=
   ZFD (fp:=[e,it]) (its:=[.int (n+i) t,u]) I (λb o hb q=>by
    have hb':b≠e/\b≠it:=by simpa using hb
    exact sb.extBut b o hb'.1 (k1 b o hb'.1 hb'.2 q)) hf (zY _) (by show 2<=sizeLine;decide) (.cons ⟨t,rfl⟩ (.cons ru .nil)) (sb.extBut _ _ hpe t1)
  have hfr:H s.heap.objs.size=vE:=I.hok.fresh (zY _);refine⟨.ref s.heap.objs.size,_,I2,rfl,⟨_,x,rfl,hfr,rfl,λys hy=>by rw[Src.sq.inj I hy hq];exact hx⟩,⟨.none,u,?_,.inl rfl,i1.at λo q=>sb.extBut _ _ (Ne.symm hne) q⟩,λb hb=>?_⟩
  ·have ee:n+(i:Int)+1=n+((i+1:Nat):Int):=by lia
   rw[<-ee];exact e2
  ·have hb':b=e∨b=it:=by simpa using hb
   rw[Am (λz=>?_)]
   ·exact(hf b hb).1
   ·rcases hb' with rfl|rfl
    ·exact hpe z.symm
    ·have hlt:=Src.it.lt hi;rw[z]at hlt;exact qQ _ hlt
 done:=by
  intro X hP hw hK hc i vC s σ H E I hf st hg;subst hP hw hK;obtain⟨xs,hq,hx⟩:=hg;obtain⟨its,rv,hv,hz⟩:=Src.sq.val I hq;obtain⟨g,old,he,hgv,hi⟩:=st;have hl:=rv.length;refine ZOu (I.ok.hd hc) he hi hv (by simp;lia) λh1 xb=>⟨rfl,?_⟩
  exact ZBJ (t':=s.toks) (fp:=[e,it]) I (λb o hb q=>xb b o (λz=>hb (by simp[z])) q) hf
 self:=λ_ _ _ _ _ st h=>by obtain⟨g,old,he,_⟩:=st;exact ZBW he h
section
variable{X:Cx}{E:XK}
theorem ZNT{prog:xy}{w:xD}{A:xq}{E:xC->xA->Prop}{s:xA}{sr:Src}{xs:Array xC}{Q:xC->xA->Prop}(hv:sr.val s.heap xs)
  (h:∀h',En h' (s.heap.objs.size+1) s.heap.objs.size .none 0 .none .none->sr.it h' s.heap.objs.size 0->(∀b o,s.heap.get? b=vD o->h'.get? b=vD o)->Q (.ref (s.heap.objs.size+1)) {s with heap:=h'}):
  vK (vQ prog w) A (call (.type "enumerate") [.ref sr.adr]) Q E s:=by
 have g:Meets (Builtin.«enumerate.__new__» ⟨[.type "enumerate",.ref sr.adr],[]⟩) (λ_ R s=>sr.val s.heap xs/\
   R (.ok (.ret (.ref (s.heap.push {cls:=.type sr.itn,data:=.fields #[.ref sr.adr,.int 0 0]}).objs.size)))
    {s with heap:=(s.heap.push {cls:=.type sr.itn,data:=.fields #[.ref sr.adr,.int 0 0]}).push {cls:=.type "enumerate",data:=.fields #[.none,.bool vG,.ref s.heap.objs.size,vZ 0,.none,.none]}}):=
  .of_wp λprog w A R s h=>by
   obtain⟨hp,g,d,tk,os⟩:=s;obtain⟨hl,h⟩:=h;have hsub:=sub_enumerate;have hL:sr.val (Shared.heap ⟨hp,g,d,tk,os⟩) xs:=hl
   wp_walk
   refine wpAny_stack_any λst=>v6 ?_
   split
   ·rename_i c _ _ _ _ _
    cases(c==Value.type "enumerate")<;>(wp_walk using Src.iter hL;exact⟨_,rfl,h⟩)
   ·wp_walk using Src.iter hL
    exact⟨_,rfl,h⟩
 refine callType_new PySem.F.called_enumerate (by decide) (PySem.F.typeCall_enumerate_1 _) (PySem.F.newCall_enumerate_1 _) (λobj=>PySem.F.args_object_init_2 obj _) PySem.F.entry_enumerate_new g ⟨hv,?_⟩;have hz:(s.heap.push {cls:=.type sr.itn,data:=.fields #[.ref sr.adr,.int 0 0]}).objs.size=s.heap.objs.size+1:=q9 ..;show _/\_;rw[hz];have he:En ((s.heap.push {cls:=.type sr.itn,data:=.fields #[.ref sr.adr,.int 0 0]}).push {cls:=.type "enumerate",data:=.fields #[.none,.bool vG,.ref s.heap.objs.size,vZ 0,.none,.none]}) (s.heap.objs.size+1) s.heap.objs.size .none 0 .none .none:=by
  have:=zy (s.heap.push {cls:=.type sr.itn,data:=.fields #[.ref sr.adr,.int 0 0]}) (o:={cls:=.type "enumerate",data:=.fields #[.none,.bool vG,.ref s.heap.objs.size,vZ 0,.none,.none]}) rfl;rw[hz]at this;exact this
 exact⟨⟨_,he,rfl⟩,h _ he ⟨_,zQ _ (zy _ rfl),rfl,rfl⟩ λb o x=>zQ _ (zQ _ x)⟩
def ZMK(K:PySem.W.Frag)(ta:TA):TI:=λσ H R=>ta σ H λvs H1=>∃sr xs,vs=[.ref (Src.adr sr)]/\sr.sq K H1 xs/\R (Ite K sr 0) H1
theorem ZST{x1}(hg:Gl X "enumerate")(hm:X.mg "enumerate"=vE)(ha:PA X [a] ta)(hs:vV [a] X.env=[(vG,eval a X.env)]:=by rfl):PI X (.Tuple elts x1 tp) (.Call (.Name "enumerate" p) [a] [] pos) (ZMK X.K ta):=by
 intro vC s σ H R I h;refine Call_ (Gj I hg hm PyProof.Rows.boot_enumerate (PyProof.Rows.callWith_type1 (thn (ha pos vC s σ H _ I h) λus s1 ⟨vs,H1,I1,r1,q1⟩=>?_) hs rfl));obtain⟨sr,xs,e,hq,q⟩:=q1;subst e;cases r1 with
 |cons r rr=>
  cases rr;cases r;obtain⟨its,rv,hv,hz⟩:=Src.sq.val I1 hq;refine ZNT hv λh' he hi kp=>?_
  refine ZBW he ?_;have I2:Inv X vC σ H1 {s1 with heap:=h'}:=I1.kept (t':=s1.toks) kp;refine⟨s1.heap.objs.size+1,[s1.heap.objs.size+1,s1.heap.objs.size],_,_,H1,rfl,I2,ZGk sr 0 _ _ (Nat.succ_ne_self _),⟨.none,.none,by simpa using he,.inl rfl,hi⟩,λb hb=>?_,q⟩;have hb':b=s1.heap.objs.size+1∨b=s1.heap.objs.size:=by simpa using hb
  have hle:s1.heap.objs.size<=b:=by rcases hb' with rfl|rfl<;>lia
  exact I1.Ha hle (I1.hok.fresh hle)
end
inductive DrV (K:PySem.W.Frag) (H:Hp) (i:Nat):List Src->List V->Prop where
 |nil:DrV K H i [] []
 |cons {sr r v us xs} (hq:Src.sq K H xs sr) (hx:xs[i]?=vD v) (t:DrV K H i r us):DrV K H i (sr::r) (v::us)
inductive StV (K:PySem.W.Frag) (H:Hp) (i:Nat):List Src->Prop where
 |here {sr r xs} (hq:Src.sq K H xs sr) (hx:xs.length<=i):StV K H i (sr::r)
 |there {sr r v xs} (hq:Src.sq K H xs sr) (hx:xs[i]?=vD v) (t:StV K H i r):StV K H i (sr::r)
def Itz(K:PySem.W.Frag)(ls:List Src):It:=
 ⟨λi H=>∃us,DrV K H i ls us,λi H v H'=>∃p us,v=.ref p/\H p=vE/\H'=upd H p (.tup us)/\∀us',DrV K H i ls us'->us'=us,λi H=>StV K H i ls⟩
theorem DrV.length{K:PySem.W.Frag}{H:Hp}{i:Nat}{us:List V}(d:DrV K H i ls us):us.length=ls.length:=by
 induction d with
 |nil=>rfl
 |cons _ _ _ ih=>simp[ih]
section
variable{X:Cx}{vC:List (xY×Obj)}{σ:St}{H:Hp}{s:xA}
theorem DrV.inj(I:Inv X vC σ H s):∀{ls:List Src}{us us':List V},DrV X.K H i ls us->DrV X.K H i ls us'->us=us'
 |[],_,_,d,d'=>by cases d;cases d';rfl
 | sr::ls,_,_,d,d'=>by
  cases d with
  | cons hq hx t=>
   cases d' with
   |cons hq' hx' t'=>
    have e:=Src.sq.inj I hq hq';subst e;rw[hx]at hx';cases hx';rw[DrV.inj I t t']
theorem DrV.drw(I:Inv X vC σ H s):∀{l:List (Src×xY)}{us:List V},DrV X.K H i (l.map (·.1)) us->(∀q∈l,q.1.it s.heap q.2 i)->∃ws,Drw s.heap i l ws/\Vals us ws
 |[],us,d,h=>by cases d;exact⟨[],.nil,.nil⟩
 | (sr,p)::l,us,d,h=>by
  cases d with
  |cons hq hx t=>
   obtain⟨its,rv,hv,hz⟩:=Src.sq.val I hq;obtain⟨u,hu,ru⟩:=rv.get hx;obtain⟨ws,d',r'⟩:=DrV.drw I t λq hq=>h q (zJ _ hq)
   exact⟨u::ws,.cons (h (sr,p) zW) hv (by simpa using hu) d',.cons ru r'⟩
theorem StV.drw(I:Inv X vC σ H s):∀{l:List (Src×xY)},StV X.K H i (l.map (·.1))->(∀q∈l,q.1.it s.heap q.2 i)->DrwE s.heap i l
 |[],d,h=>by cases d
 | (sr,p)::l,d,h=>by
  cases d with
  |here hq hx=>
   obtain⟨its,rv,hv,hz⟩:=Src.sq.val I hq;have hl:=rv.length;exact .here (h (sr,p) zW) hv (by simp;lia)
  |there hq hx t=>
   obtain⟨its,rv,hv,hz⟩:=Src.sq.val I hq;obtain⟨u,hu,ru⟩:=rv.get hx;exact .there (h (sr,p) zW) hv (by simpa using hu) (StV.drw I t λq hq=>h q (zJ _ hq))
end
theorem ZMw{P:xy}{w:xD}{K:PySem.W.Frag}{x1}{pos:Pos}(l:List (Src×xY))(z TI TO:xY)(a:ApZ TO l)(zz:z≠TO/\(∀q∈l,q.2≠z/\q.1.adr≠z))(tt:TI≠z/\TI≠TO/\∀q∈l,q.2≠TI)(hsz:l.length<=1000000)(hne:l≠[]):
  Turn P w K (.Tuple elts x1 pos) (Itz K (l.map (·.1))) (z::TI::TO::l.map (·.2)) z
   (λi h=>IsZip h z TI TO .none/\Tp h TI (l.map λq=>Value.ref q.2)/\(∃os,Tp h TO os/\os.length=l.length)/\∀q∈l,q.1.it h q.2 i) where
 mem:=by simp
 obj:=λi h st b hb=>by
  obtain⟨hz,hTI,⟨os,hTO,_⟩,hi⟩:=st;rcases zx.mp hb with rfl|hb
  ·exact⟨_,hz,λv z=>by cases z⟩
  ·rcases zx.mp hb with rfl|hb
   ·exact⟨_,hTI,λv z=>by cases z⟩
   ·rcases zx.mp hb with rfl|hb
    ·exact⟨_,hTO,λv z=>by cases z⟩
    ·obtain⟨q,hq,rfl⟩:=zD.mp hb;obtain⟨o,ho,_,hd⟩:=hi q hq;exact⟨o,ho,λv z=>by rw[hd]at z;cases z⟩
 keep:=λi h h' st k=>by obtain⟨hz,hTI,⟨os,hTO,ho⟩,hi⟩:=st;exact⟨k z (by simp) _ hz,k TI (by simp) _ hTI,⟨os,k TO (by simp) _ hTO,ho⟩,λq hq=>(hi q hq).at λo e=>k q.2 (by simp only[zx];exact .inr (.inr (.inr (zD.mpr ⟨q,hq,rfl⟩)))) o e⟩
 item:=by
  intro X hP hw hK hc i vC s σ H E I hf st hg;subst hP hw hK;obtain⟨us,dv⟩:=hg;obtain⟨hz,hTI,⟨os,hTO,ho⟩,hi⟩:=st;obtain⟨ws,dw,rv⟩:=DrV.drw I dv hi;refine ZKz hz hTI hTO ho hsz hne a zz dw λh1 z1 t1 i1 p1 s1 k1=>⟨_,rfl,?_⟩
  refine wpAny_letOwnedTupleGo_zip (s:={s with heap:=h1}) z1 λh2 z2 sb=>?_
  have hpz:s.heap.objs.size≠z:=jV (zj hz);have hul:us.length<=sizeLine:=by rw[dv.length,qW];exact z5 hsz size6
  have I2:Inv X vC σ (upd H s.heap.objs.size (.tup us)) {s with heap:=h2}:=
   ZFD (t':=s.toks) (fp:=z::TI::TO::l.map (·.2)) (its:=ws) I (λb o hb q=>by simp only[zx,not_or]at hb;exact sb.extBut b o hb.1 (k1 b o hb.1 hb.2.2.1 hb.2.2.2 q)) hf (zY _) hul rv (sb.extBut _ _ hpz p1)
  have hfr:H s.heap.objs.size=vE:=I.hok.fresh (zY _)
  have up:∀b o,b≠z->b≠TO->b∉l.map (·.2)->s.heap.get? b=vD o->h2.get? b=vD o:=λb o b1 b2 b3 q=>sb.extBut b o b1 (k1 b o b1 b2 b3 q)
  refine⟨.ref s.heap.objs.size,_,I2,rfl,⟨_,us,rfl,hfr,rfl,λus' d'=>DrV.inj I d' dv⟩,⟨z2,up TI _ tt.1 tt.2.1 (λhm=>?_) hTI,⟨ws,sb.extBut _ _ (Ne.symm zz.1) t1,dw.length⟩,λq hq=>(i1 q hq).at λo e=>sb.extBut _ _ (zz.2 q hq).1 e⟩,λb hb=>?_⟩
  ·obtain⟨q,hq,e⟩:=zD.mp hm;exact tt.2.2 q hq e
  ·rw [Am (λe=>?_)]
   ·exact(hf b hb).1
   ·have lt:b<s.heap.objs.size:=by
     rcases zx.mp hb with rfl|hb
     ·exact zj hz
     ·rcases zx.mp hb with rfl|hb
      ·exact zj hTI
      ·rcases zx.mp hb with rfl|hb
       ·exact zj hTO
       ·obtain⟨q,hq,rfl⟩:=zD.mp hb;exact(hi q hq).lt
    rw[e]at lt;exact qQ _ lt
 done:=by
  intro X hP hw hK hc i vC s σ H E I hf st hg;subst hP hw hK;obtain⟨hz,hTI,⟨os,hTO,ho⟩,hi⟩:=st;have dw:=StV.drw I hg hi;refine ZJe (I.ok.hd hc) hz hTI hTO ho hsz hne a zz dw λh1 k1=>⟨rfl,?_⟩
  exact ZBJ (t':=s.toks) (fp:=z::TI::TO::l.map (·.2)) I (λb o hb q=>by simp only[zx,not_or]at hb;exact k1 b o hb.1 hb.2.2.1 hb.2.2.2 q) hf
 self:=λ_ _ _ _ _ st h=>wpAny_pyIter_zip st.1 h
def Fx (G:DH) (j:Nat):List D->Option (Option (List D))
 |[]=>vD (vD [])
 | d::r=>match Bc d G with
  |none=>vE
  | some xs=>match xs[j]? with
   |none=>vD vE
   |some x=>match Fx G j r with
    |some (vD ys)=>vD (vD (x::ys))
    |o=>o
def Fp(ds:List D)(j:Nat)(G:DH):Option (Option D):=(Fx G j ds).map λo=>o.map D.tup
def lenOf(G:DH)(d:D):Nat:=match Bc d G with
 |some xs=>xs.length
 |none=>0
def Ie(G:DH)(d:D):Bool:=(Bc d G).isSome
def Dh(n:Int)(d:D)(j:Nat)(G:DH):Option (Option D):=match Bc d G with
 |none=>vE
 |some xs=>vD (xs[j]?.map λx=>.tup [.int (n+j),x])
def Fj(ds:List D)(G:DH):R ItD:=match ds with
 |[d]=>if Ie G d=vF then .ok (.fn (lenOf G d) (Dh 0 d)) G else .bad
 |_=>.bad
def Fe(n:Nat)(ds:List D)(G:DH):R ItD:=if ds.all (Ie G)=vF/\ds.length=n then .ok (.fn (lenOf G (ds.headD .non)) (Fp ds)) G else .bad
section
variable{X:Cx}{E:XK}
theorem ZAJ{a:Wd}{G:DH}{d:D}{v:V}{xs:List D}(s:Sim a G)(r:Rep a d v)(h:Bc d G=vD xs):
  ∃sr:Src,v=.ref sr.adr/\(∃vs,sr.sq a.K a.H vs)/\∀b:Wd,Ext a b->∀G',Sim b G'->∀ys,Bc d G'=vD ys->∃us,sr.sq b.K b.H us/\Reps b ys us:=by
 cases d with
 |tup ds=>
  obtain⟨p,vs,rfl,hq,rv⟩:=r;refine⟨.t p,rfl,⟨vs,hq⟩,λb x G' s' ys hy=>?_⟩
  cases(show vD ds=vD ys from hy)
  exact⟨vs,x.sqT hq,rv.mono x⟩
 |fl ds=>
  obtain⟨p,vs,rfl,hq,rv⟩:=r;refine⟨.l p,rfl,⟨vs,hq.sq⟩,λb x G' s' ys hy=>?_⟩
  cases(show vD ds=vD ys from hy)
  exact⟨vs,(x.fzL hq).sq,rv.mono x⟩
 | ref i=>
  obtain⟨hi,rfl⟩:=r;have hx:∃zs,G[i]?=vD (.lst zs):=by
   unfold Bc at h;dsimp only at h;split at h
   ·rename_i zs hz;exact⟨zs,hz⟩
   ·cases h
  obtain⟨zs,hz⟩:=hx;obtain⟨vs,e1,_⟩:=s.lst hz;refine⟨.l (a.m i),rfl,⟨vs,.of e1⟩,λb x G' s' ys hy=>?_⟩;unfold Bc at hy;dsimp only at hy;split at hy
  ·rename_i zs' hz';cases hy;obtain⟨us,e2,r2⟩:=s'.lst hz';rw[x.m i hi]at e2;exact⟨us,.of e2,r2⟩
  ·cases hy
 |_=>cases h
theorem ZRN{a:Wd}{G:DH}{d:D}{v:V}{sr:Src}(hk:a.K=X.K)(rd:∀b:Wd,Ext a b->∀G',Sim b G'->∀ys,Bc d G'=vD ys->∃us,sr.sq b.K b.H us/\Reps b ys us)(n:Nat):RepI a (.fn n (Dh 0 d)) (Ite X.K sr 0):=by
 intro b x G' s' i;have kb:b.K=X.K:=x.k.trans hk;constructor
 ·intro e he;unfold Dh at he;split at he
  ·cases he
  ·rename_i ys hy;obtain⟨us,hq,ru⟩:=rd b x G' s' ys hy;rw[kb]at hq;cases hyi:ys[i]? with
   |none=>rw[hyi]at he;cases he
   |some y=>
    rw[hyi]at he;have he':D.tup [.int (0+i),y]=e:=by simpa using he
    subst he';obtain⟨u,hu,rx⟩:=ru.get hyi;refine⟨⟨us,u,hq,hu⟩,?_⟩;rintro w H' ⟨p,u',rfl,hp,rfl,hu'⟩;refine⟨b.put p (.tup [.int (0+i),u']),rfl,Ext.put hp,s'.put hp,p,_,rfl,.of Ei,?_⟩;have e1:=hu' us hq;rw[hu]at e1;cases e1;exact⟨_,_,rfl,rfl,Reps.cons (rx.mono (Ext.put hp)) rfl⟩
 ·intro he;unfold Dh at he;split at he
  ·cases he
  ·rename_i ys hy;obtain⟨us,hq,ru⟩:=rd b x G' s' ys hy;rw[kb]at hq;cases hyi:ys[i]? with
   |none=>exact⟨us,hq,by rw[<-ru.length];exact qU.mp hyi⟩
   |some y=>rw[hyi]at he;cases he
theorem ZR1{elts:List xz}{x1}{tp:Pos}{e:xz}{ta:DA}{p pos:Pos}(hg:Gl X "enumerate")(hm:X.mg "enumerate"=vE)(ha:QA X E [e] ta)(hs:vV [e] X.env=[(vG,eval e X.env)]:=by rfl):
  QI X E (.Tuple elts x1 tp) (.Call (.Name "enumerate" p) [e] [] pos) (Br Fj ta):=(ZST hg hm ha hs).mono λσ H Q h=>by
 obtain⟨a,S,G,hk,rfl,s,r,h⟩:=h;refine⟨a,S,G,hk,rfl,s,r,(Nq h).imp ?_⟩;rintro vs _ ⟨b,ds,G1,rfl,x,s1,q,-,h1⟩;unfold Fj at h1;split at h1
 ·rename_i d;split at h1
  ·rename_i hok;obtain⟨v,r,e1,q1,q2⟩:=q
   cases(show r=[]from q2)
   subst e1
   obtain⟨xs,hx⟩:=jw.mp (show(Bc d G1).isSome=vF from hok)
   obtain⟨sr,rfl,⟨us,hq⟩,rd⟩:=ZAJ s1 q1 hx;have kb:b.K=X.K:=x.k.trans hk;exact⟨sr,us,rfl,by rw[<-kb];exact hq,h1 b _ (Ext.refl b) s1 (ZRN (G:=G1) (v:=.non) kb rd _)⟩
  ·exact h1.elim
 ·exact h1.elim
theorem ZGR(s:Sim a G):∀{ds:List D}{vs:List V},Reps a ds vs->ds.all (Ie G)=vF->∃ls:List Src,vs=ls.map (λsr=>V.ref sr.adr)/\(∀sr∈ls,∃us,sr.sq a.K a.H us)/\
   ∀b:Wd,Ext a b->∀G',Sim b G'->∀i,(∀ys,Fx G' i ds=vD (vD ys)->∃us,DrV b.K b.H i ls us/\Reps b ys us)/\(Fx G' i ds=vD vE->StV b.K b.H i ls)
 |[],vs,r,_=>by
  cases(show vs=[]from r)
  refine⟨[],rfl,(λ_ h=>nomatch h),λb x G' s' i=>⟨λys h=>?_,λh=>?_⟩⟩
  ·cases h;exact⟨[],.nil,rfl⟩
  ·cases h
 | d::ds,vs,r,h=>by
  rw[j7,z0]at h;obtain⟨v,vr,rfl,q1,q2⟩:=r
  obtain⟨xs,hx⟩:=jw.mp (show(Bc d G).isSome=vF from h.1)
  obtain⟨sr,rfl,hq,rd⟩:=ZAJ s q1 hx;obtain⟨ls,rfl,hqs,rds⟩:=ZGR s q2 h.2;refine⟨sr::ls,rfl,λsr' hm=>?_,λb x G' s' i=>⟨λys hy=>?_,λhy=>?_⟩⟩
  ·rcases zx.mp hm with rfl|hm
   ·exact hq
   ·exact hqs sr' hm
  ·unfold Fx at hy;split at hy
   ·cases hy
   ·rename_i zs hz;obtain⟨us,hu,ru⟩:=rd b x G' s' zs hz;split at hy
    ·cases hy
    ·rename_i y hyi;obtain⟨u,hui,rx⟩:=ru.get hyi;split at hy
     ·rename_i ys' hys;cases hy;obtain⟨us',d',r'⟩:=(rds b x G' s' i).1 ys' hys;exact⟨u::us',.cons hu hui d',Reps.cons rx r'⟩
     ·rename_i hno;exact absurd hy (hno _)
  ·unfold Fx at hy;split at hy
   ·cases hy
   ·rename_i zs hz;obtain⟨us,hu,ru⟩:=rd b x G' s' zs hz;split at hy
    ·rename_i hyi;exact .here hu (by rw[<-ru.length];exact qU.mp hyi)
    ·rename_i y hyi;obtain⟨u,hui,rx⟩:=ru.get hyi;split at hy
     ·cases hy
     ·exact .there hu hui ((rds b x G' s' i).2 hy)
theorem ZIq(hk:a.K=X.K)(rd:∀b:Wd,Ext a b->∀G',Sim b G'->∀i,(∀ys,Fx G' i ds=vD (vD ys)->∃us,DrV b.K b.H i ls us/\Reps b ys us)/\(Fx G' i ds=vD vE->StV b.K b.H i ls))(n:Nat):
  RepI a (.fn n (Fp ds)) (Itz X.K ls):=by
 intro b x G' s' i;have kb:b.K=X.K:=x.k.trans hk;constructor
 ·intro e he;unfold Fp at he;cases hz:Fx G' i ds with
  |none=>rw[hz]at he;cases he
  | some o=>
   cases o with
   |none=>rw[hz]at he;cases he
   |some ys=>
    rw[hz]at he;have he':D.tup ys=e:=by simpa using he
    subst he';obtain⟨us,d,ru⟩:=(rd b x G' s' i).1 ys hz;rw[kb]at d;refine⟨⟨us,d⟩,?_⟩;rintro w H' ⟨p,us',rfl,hp,rfl,hu'⟩;cases hu' us d;exact⟨b.put p (.tup us),rfl,Ext.put hp,s'.put hp,p,us,rfl,.of Ei,ru.mono (Ext.put hp)⟩
 ·intro he;unfold Fp at he;cases hz:Fx G' i ds with
  |none=>rw[hz]at he;cases he
  | some o=>
   cases o with
   |none=>
    have:=(rd b x G' s' i).2 hz;rw[kb]at this;exact this
   |some ys=>rw[hz]at he;cases he
def ZAD(n:Nat)(K:PySem.W.Frag)(ta:TA):TI:=λσ H R=>ta σ H λvs H1=>∃ls:List Src,vs=ls.map (λsr=>V.ref sr.adr)/\(∀sr∈ls,∃us,sr.sq K H1 us)/\ls.length=n/\R (Itz K ls) H1
theorem V8:∀{ls:List Src}{us:List xC},Vals (ls.map λsr=>V.ref sr.adr) us->us=ls.map λsr=>Value.ref sr.adr
 |[],us,h=>by cases h;rfl
 | sr::ls,us,h=>by
  rw[zE]at h;cases h with
  |cons r rr=>
   cases r;rw[V8 rr]
   rfl
theorem Ra{n:Nat}{q:Src×Nat}(h:q∈ls.zipIdx n):q.1∈ls/\n<=q.2/\q.2<n+ls.length:=by obtain⟨i,hi,rfl⟩:=qy h;simp only[List.length_zipIdx]at hi;simp only[List.getElem_zipIdx];exact⟨qx hi,by lia,by lia⟩
theorem ZEu{x1}{tp:Pos}{σ:St}{H:Hp}{s:xA}{R:It->Hp->Prop}(I:Inv X vC σ H s)(hq:∀sr∈ls,∃us,sr.sq X.K H us)(hne:ls≠[])(hl:ls.length<=1000000)
  (hct:checkTypeCall "zip" ⟨ls.map λsr=>Value.ref sr.adr,[]⟩=pure ()) (hcn:xN "zip.__new__" ⟨.type "zip"::ls.map λsr=>Value.ref sr.adr,[]⟩=pure ()) (hok:∀obj,argsOk "object.__init__" ⟨obj::ls.map λsr=>Value.ref sr.adr,[]⟩)
  (q:R (Itz X.K ls) H):vK (vQ X.prog X.w) X.A (call (.type "zip") (ls.map λsr=>Value.ref sr.adr)) (λv s1=>vK (vQ X.prog X.w) X.A (pyIter v) (PIE X vC σ (.Tuple elts x1 tp) R) X.xe s1) X.xe s:=by
 have hv:∀sr∈ls,∃xs,sr.val s.heap xs:=λsr hm=>by obtain⟨us,h⟩:=hq sr hm;obtain⟨its,_,h',_⟩:=Src.sq.val I h;exact⟨_,h'⟩
 have hlt:∀sr∈ls,sr.adr<s.heap.objs.size:=λsr hm=>by obtain⟨xs,h⟩:=hv sr hm;obtain⟨o,n,ho,_⟩:=h.obj;exact zj ho
 refine ZMZ hv hl hct hcn hok λh' n hn hz hTI hTO hi kp=>?_
 refine wpAny_pyIter_zip hz ?_;have I2:Inv X vC σ H {s with heap:=h'}:=I.kept (t':=s.toks) kp
 have em:(ls.zipIdx s.heap.objs.size).map (·.1)=ls:=by refine jZ (by simp) λi h1 h2=>by simp
 have e2:(ls.zipIdx s.heap.objs.size).map (·.2)=List.range' s.heap.objs.size ls.length:=by refine jZ (by simp) λi h1 h2=>by simp[Nat.add_comm]
 have qb:∀q∈ls.zipIdx s.heap.objs.size,q.1.adr<s.heap.objs.size/\s.heap.objs.size<=q.2/\q.2<n:=λq hm=>⟨hlt _ (Ra hm).1,(Ra hm).2.1,by rw[hn];exact(Ra hm).2.2⟩
 have hsn:s.heap.objs.size<=n:=by rw[hn];exact jO _ _
 have ap:ApZ (n+1) (ls.zipIdx s.heap.objs.size):=⟨by rw[e2];exact List.nodup_range',λq hm=>zC (zq (qb q hm).1 (Nat.le_succ_of_le hsn)),λq hm r hr=>zC (zq (qb q hm).1 (qb r hr).2.1),λq hm=>zC (qR (qb q hm).2.2)⟩;have T:=ZMw (P:=X.prog) (w:=X.w) (K:=X.K) (elts:=elts) (x1:=x1) (pos:=tp) (ls.zipIdx s.heap.objs.size) (n+2) n (n+1) ap ⟨Nat.succ_ne_self (n+1),λq hm=>⟨zC (zq (qb q hm).2.2 (jO n 2)),zC (zq (qb q hm).1 (z5 hsn (jO n 2)))⟩⟩
  ⟨zC (Nat.lt_add_of_pos_right (by decide)),zC (qY n),λq hm=>zC (qb q hm).2.2⟩ (by simpa using hl) (by intro e;apply hne;rw[<-em,e];rfl)
 rw [em]at T;refine⟨n+2,_,_,_,H,rfl,I2,T,⟨hz,hTI,⟨_,hTO,by simp⟩,hi⟩,λb hb=>?_,q⟩;have hle:s.heap.objs.size<=b:=by
  rcases zx.mp hb with rfl|hb
  ·exact z5 hsn (jO n 2)
  ·rcases zx.mp hb with rfl|hb
   ·exact hsn
   ·rcases zx.mp hb with rfl|hb
    ·exact Nat.le_succ_of_le hsn
    ·obtain⟨q,hq,rfl⟩:=zD.mp hb;exact(Ra hq).2.1
 exact I.Ha hle (I.hok.fresh hle)
theorem ZMd(a b c:xC):checkTypeCall "zip" ⟨[a,b,c],[]⟩=pure ():=by kernel_rfl
theorem ZKF(a b c:xC):xN "zip.__new__" ⟨[.type "zip",a,b,c],[]⟩=pure ():=by kernel_rfl
theorem ZLo(a b c d:xC):argsOk "object.__init__" ⟨[a,b,c,d],[]⟩:=by unfold argsOk;rw[signature?_of (id:="object.__init__") (n:=['_','_','t','i','n','i','_','_']) (o:=['t','c','e','j','b','o']) (by kernel_rfl) PySem.F.owner_object];kernel_rfl
theorem ZOU{elts:List xz}{x1}{tp:Pos}{a b:xz}{ta:TA}{p pos:Pos}(hg:Gl X "zip")(hm:X.mg "zip"=vE)(ha:PA X [a,b] ta)(hs:vV [a,b] X.env=[(vG,eval a X.env),(vG,eval b X.env)]:=by rfl)(hs2:vV [b] X.env=[(vG,eval b X.env)]:=by rfl):
  PI X (.Tuple elts x1 tp) (.Call (.Name "zip" p) [a,b] [] pos) (ZAD 2 X.K ta):=by
 intro vC s σ H R I h;refine Call_ (Gj I hg hm PyProof.Rows.boot_zip (PyProof.Rows.callWith_type1 (thn (ha pos vC s σ H _ I h) λus s1 ⟨vs,H1,I1,r1,q1⟩=>?_) (by rw[hs,hs2]) (by rw[hs2];rfl)));obtain⟨ls,rfl,hq,hl,q⟩:=q1;cases V8 r1
 match ls,hl with
 |[x,y],_=>exact ZEu I1 hq (by simp) (by simp) (PySem.F.typeCall_zip_2 _ _) (PySem.F.newCall_zip_2 _ _) (λobj=>PySem.F.args_object_init_3 obj _ _) q
theorem ZO2{elts:List xz}{x1}{tp:Pos}{a b c:xz}{ta:TA}{p pos:Pos}(hg:Gl X "zip")(hm:X.mg "zip"=vE)(ha:PA X [a,b,c] ta)(hs:vV [a,b,c] X.env=[(vG,eval a X.env),(vG,eval b X.env),(vG,eval c X.env)]:=by rfl)
  (hs2:vV [b,c] X.env=[(vG,eval b X.env),(vG,eval c X.env)]:=by rfl):PI X (.Tuple elts x1 tp) (.Call (.Name "zip" p) [a,b,c] [] pos) (ZAD 3 X.K ta):=by
 intro vC s σ H R I h;refine Call_ (Gj I hg hm PyProof.Rows.boot_zip (PyProof.Rows.callWith_type1 (thn (ha pos vC s σ H _ I h) λus s1 ⟨vs,H1,I1,r1,q1⟩=>?_) (by rw[hs,hs2]) (by rw[hs2];rfl)));obtain⟨ls,rfl,hq,hl,q⟩:=q1;cases V8 r1
 match ls,hl with
 |[x,y,z],_=>exact ZEu I1 hq (by simp) (by simp) (ZMd _ _ _) (ZKF _ _ _) (λobj=>ZLo obj _ _ _) q
theorem ZEZ{K:PySem.W.Frag}{n:Nat}{ta:DA}{σ:St}{H:Hp}{Q:It->Hp->Prop}(hK:K=X.K)(h:lI K E (Br (Fe n) ta) σ H Q):ZAD n K (lA K E ta) σ H Q:=by
 subst hK;obtain⟨a,S,G,hk,rfl,s,r,h⟩:=h;refine⟨a,S,G,hk,rfl,s,r,(Nq h).imp ?_⟩;rintro vs _ ⟨b,ds,G1,rfl,x,s1,q,-,h1⟩;unfold Fe at h1;split at h1
 ·rename_i hok;obtain⟨ls,e,hq,rd⟩:=ZGR s1 q hok.1;have kb:b.K=X.K:=x.k.trans hk;have hl:ls.length=n:=by have:=q.length;rw[e,qW]at this;lia
  exact⟨ls,e,λsr hm=>by rw[<-kb];exact hq sr hm,hl,h1 b _ (Ext.refl b) s1 (ZIq kb rd _)⟩
 ·exact h1.elim
theorem ZMQ{elts:List xz}{x1}{tp:Pos}{a b:xz}{ta:DA}{p pos:Pos}(hg:Gl X "zip")(hm:X.mg "zip"=vE)(ha:QA X E [a,b] ta)(hs:vV [a,b] X.env=[(vG,eval a X.env),(vG,eval b X.env)]:=by rfl)(hs2:vV [b] X.env=[(vG,eval b X.env)]:=by rfl):
  QI X E (.Tuple elts x1 tp) (.Call (.Name "zip" p) [a,b] [] pos) (Br (Fe 2) ta):=(ZOU hg hm ha hs hs2).mono λσ H Q h=>ZEZ rfl h
theorem ZMf{elts:List xz}{x1}{tp:Pos}{a b c:xz}{ta:DA}{p pos:Pos}(hg:Gl X "zip")(hm:X.mg "zip"=vE)(ha:QA X E [a,b,c] ta)(hs:vV [a,b,c] X.env=[(vG,eval a X.env),(vG,eval b X.env),(vG,eval c X.env)]:=by rfl)
  (hs2:vV [b,c] X.env=[(vG,eval b X.env),(vG,eval c X.env)]:=by rfl):QI X E (.Tuple elts x1 tp) (.Call (.Name "zip" p) [a,b,c] [] pos) (Br (Fe 3) ta):=(ZO2 hg hm ha hs hs2).mono λσ H Q h=>ZEZ rfl h
end
def ixL:D->D->DH->R D
 | .ref p,.int k,G=>match G[p]? with
  |some (.lst xs)=>match atI xs k with
   |some v=>.ok v G
   |none=>.bad
  |_=>.bad
 |_,_,_=>.bad
def J6(to ti te:DE)(f:D->D->DH->R D):DS:=λS G=>(to S G).toS λo G1=>(ti S G1).toS λi G2=>(ixL o i G2).toS λx G3=>(te S G3).toS λy G4=>(f x y G4).toS λz G5=>(J0 o i z G5).toS λ_ G6=>.nx S G6
noncomputable def Vy:DS:=λ_ _=>.bad
section
variable{X:Cx}{E:XK}
theorem ZRK{st:xB}:QS X E st Vy:=λvC s σ H W I h=>by obtain⟨a,S,G,hk,rfl,sm,r,h⟩:=h;exact h.elim
theorem ZMq(ho:QE X E o to)(hi:QE X E i ti)(he:QE X E e te)(hop:OpR X (inplaceOp op) (lR2 X.K E f))
  (ha:∀ov iv new,augStore i ov iv new=(do holding [new,ov,iv] (setItem ov iv new);release [new,ov,iv] [];pure .next):=by intros;rfl):QS X E (.AugAssign (.Subscript o i tpos) op e pos) (J6 to ti te f):=by
 intro vC s σ H W I h;obtain⟨a,S,G,hk,rfl,sm,r,h⟩:=h;refine wpAny_AugAssign_SubscriptAny (thn (ho vC s σ a.H _ I ⟨a,S,G,hk,rfl,sm,r,G7 h⟩) ?_) ha;rintro ov s1 ⟨vo,H1,I1,ro,b1,o,G1,rfl,x1,m1,q1,_,h1⟩;have k1:=x1.k.trans hk;refine thn (hi vC s1 σ b1.H _ I1 ⟨b1,S,G1,k1,rfl,m1,r.mono x1,G7 h1⟩) ?_;rintro iv s2 ⟨vi,H2,I2,ri,b2,i,G2,rfl,x2,m2,q2,_,h2⟩;have k2:=x2.k.trans k1;have q1':=q1.mono x2;cases i with
 | int k=>
  cases o with
  | ref p=>
   obtain⟨hp,rfl⟩:=q1'
   cases(show vi=V.int k from q2)
   cases ro;obtain⟨t,rfl⟩:=ri;unfold ixL at h2;dsimp only at h2;split at h2
   ·rename_i xs hx';obtain⟨vs,e1,r1⟩:=m2.lst hx';split at h2
    ·rename_i d hd;obtain⟨v,ev,rd⟩:=ZHN r1 hd;have h2':Bm E b2 ((te S G2).toS λy G4=>(f d y G4).toS λz G5=>(J0 (.ref p) (.int k) z G5).toS λ_ G6=>.nx S G6) W:=h2;obtain⟨its,rv,pl,hz⟩:=I2.list (.of e1);obtain⟨j,g1,g2,g3,g4,g5⟩:=Ql ev;obtain⟨w,ew,rw'⟩:=rv.get g2;have hl:=rv.length;have hn:=line63;have fin:vK (vQ X.prog X.w) X.A (getItem (.ref (b2.m p)) (.int k t)) (λold s3=>old=w/\s3=s2) X.xe s2:=by
      by_cases h0:0<=k
      ·have hj:k.toNat=j:=by rw[seqIndex_of h0 g5]at g1;exact Option.some.inj g1
       exact wpAny_getItem_list pl.isList h0 (by lia) (by rw[hj];simpa using ew) ⟨rfl,rfl⟩
      ·have hj:(k+(its.toArray.size:Int)).toNat=j:=by rw[seqIndex_neg (by lia) g4]at g1;rw[zK,<-hl];exact Option.some.inj g1
       exact wpAny_getItem_list_neg pl.isList (by lia) (by rw[zK]<;>lia) (by lia) (by rw[hj];simpa using ew) ⟨rfl,rfl⟩
     refine thn fin ?_;rintro old s3 ⟨rfl,rfl⟩;refine thn (he vC s3 σ b2.H _ I2 ⟨b2,S,G2,k2,rfl,m2,(r.mono x1).mono x2,G7 h2'⟩) ?_;rintro yv s4 ⟨vy,H4,I4,ry,b4,y,G4,rfl,x4,m4,q4,_,h4⟩;have k4:=x4.k.trans k2;refine thn (hop vC s4 σ b4.H v vy old yv _ I4 rw' ry ⟨b4,G4,d,y,k4,rfl,m4,rd.mono x4,q4,G7 h4⟩) ?_;rintro new s5 ⟨vn,H5,I5,rn,b5,z,G5,rfl,x5,m5,q5,_,h5⟩;unfold J0 at h5;dsimp only at h5;split at h5
     ·rename_i ys hy;split at h5
      ·rename_i jj hjj;obtain⟨ws,e5,r5⟩:=m5.lst hy;have hp5:p<b5.n:=zq hp (z5 x4.n x5.n);have em:b5.m p=b2.m p:=(x5.m p (zq hp x4.n)).trans (x4.m p hp);obtain⟨x6,m6⟩:=U9 m5 hp5 e5 (r5.set q5 jj);refine thn (set_list vC s5 σ b5.H (.ref (b2.m p)) (.int k) vn (.ref (b2.m p)) (.int k t) new (λH'=>W.nx σ H') I5 rfl ⟨t,rfl⟩ rn ⟨b5.m p,ws,k,jj,by rw[em],rfl,e5,by rw[<-r5.length];exact hjj,?_⟩) ?_
       ·exact h5 _ σ x6 m6 (((((r.mono x1).mono x2).mono x4).mono x5).mono x6)
       ·rintro _ s6 ⟨H6,I6,q6⟩;exact⟨σ,H6,I6,q6⟩
      ·exact h5.elim
     ·exact h5.elim
    ·exact h2.elim
   ·exact h2.elim
  |_=>exact(show False from h2).elim
 |_=>cases o<;>exact(show False from h2).elim
end
def Le(ds:List D)(G:DH):R D:=match ds with
 | [d]=>match Bc d G with
  |some xs=>match Fd xs with
   |some (n::ns)=>.ok (.int (ns.foldl min n)) G
   |_=>.bad
  |none=>.bad
 |_=>.bad
def Kh(ds:List D)(G:DH):R D:=match ds with
 | [d]=>match Bc d G with
  |some xs=>match Fd xs with
   |some (n::ns)=>.ok (.int (ns.foldl max n)) G
   |_=>.bad
  |none=>.bad
 |_=>.bad
theorem Rt:∀(ns:List Int)(n:Int),ns.foldl min n<=n/\(∀x∈ns,ns.foldl min n<=x)/\(ns.foldl min n=n∨ns.foldl min n∈ns)
 |[],n=>⟨qO _,λx h=>(by cases h),.inl rfl⟩
 | m::ns,n=>by
  obtain⟨h1,h2,h3⟩:=Rt ns (min n m);rw[xQ];refine⟨by lia,λx hx=>?_,?_⟩
  ·rcases zx.mp hx with rfl|hx
   ·lia
   ·exact h2 x hx
  ·rcases h3 with h|h
   ·by_cases e:n<=m
    ·exact .inl (by rw[h];lia)
    ·exact .inr (by rw[h];rw[show min n m=m by lia];exact zW)
   ·exact .inr (zJ _ h)
theorem ZFh:∀(ns:List Int)(n:Int),n<=ns.foldl max n/\(∀x∈ns,x<=ns.foldl max n)/\(ns.foldl max n=n∨ns.foldl max n∈ns)
 |[],n=>⟨qO _,λx h=>(by cases h),.inl rfl⟩
 | m::ns,n=>by
  obtain⟨h1,h2,h3⟩:=ZFh ns (max n m);rw[xQ];refine⟨by lia,λx hx=>?_,?_⟩
  ·rcases zx.mp hx with rfl|hx
   ·lia
   ·exact h2 x hx
  ·rcases h3 with h|h
   ·by_cases e:m<=n
    ·exact .inl (by rw[h];lia)
    ·exact .inr (by rw[h];rw[show max n m=m by lia];exact zW)
   ·exact .inr (zJ _ h)
section
variable{X:Cx}{E:XK}
theorem intAt{ns:List Int}{its:List xC}{i:Nat}{w:xC}(hv:Vals (ns.map V.int) its)(hw:its.toArray[i]?=vD w):i<ns.length/\∃t,w=.int (ns.getD i 0) t:=by
 have hw':its[i]?=vD w:=by simpa using hw
 have hl:i<(ns.map V.int).length:=by rw[hv.length];exact(zG.mp hw').1
 have hl':i<ns.length:=by simpa using hl
 obtain⟨u,hu,ru⟩:=hv.get (i:=i) (x:=V.int ns[i]) (by simp[hl']);rw[hw']at hu;cases hu;obtain⟨t,rfl⟩:=ru;exact⟨hl',t,by simp[hl']⟩
theorem ZQ0(hc:X.calm=vF):CallR X (.builtin "min") (lRn X.K E Le):=by
 intro vC s σ H vs us Q I rs h;obtain⟨a,G,ds,hk,rfl,sm,r,q⟩:=h;unfold Le at q;split at q
 ·rename_i d;obtain⟨v,rfl,rv⟩:=reps1 r;split at q
  ·rename_i xs hs;split at q
   ·rename_i n ns hn;cases R0 hn;obtain⟨p,ws,rfl,h1,r1⟩:=J7 sm rv hs;cases Vq r1;rw[hk]at h1;obtain⟨u,rfl,ru⟩:=vals1 rs;cases ru;refine call_min_walk (ZBo I hc h1 λit fp wr its St s₂ hv W st hfp fin=>⟨it,fp,wr,its.toArray.size,_,St,_,rfl,W,st,hfp,?_,CmpOf.ints_lt (λi=>(n::ns).getD i 0) (λi w hw=>(intAt hv hw).2),λw h' tk hw kk=>?_⟩)
    ·rw[zK,<-hv.length];simp
    ·obtain⟨hl,t,rfl⟩:=intAt hv hw;obtain⟨b1,b2⟩:=argBest_lt (λi=>(n::ns).getD i 0) (its.toArray.size-1);refine⟨.int (ns.foldl min n),a.H,fin h' tk kk,⟨t,?_⟩,q a _ (Ext.refl a) sm rfl⟩;have hsz:its.toArray.size=ns.length+1:=by rw[zK,<-hv.length];simp
     obtain⟨m1,m2,m3⟩:=Rt ns n;have hle:∀x∈n::ns,ns.foldl min n<=x:=λx hx=>by
      rcases zx.mp hx with rfl|hx
      ·exact m1
      ·exact m2 x hx
     have hin:ns.foldl min n∈n::ns:=by
      rcases m3 with h|h
      ·rw[h];exact zW
      ·exact zJ _ h
     obtain⟨j,hj,ej⟩:=qy hin;have c1:=b2 j (by simp at hj;lia);have c2:=hle _ (qx hl);have e1:(n::ns).getD j 0=ns.foldl min n:=by rw[zH,zZ hj];exact ej
     have e2:(n::ns).getD (argBest (λi j=>decide ((λi=>(n::ns).getD i 0) i<(λi=>(n::ns).getD i 0) j)) (its.toArray.size-1)) 0=(n::ns)[argBest (λi j=>decide ((λi=>(n::ns).getD i 0) i<(λi=>(n::ns).getD i 0) j)) (its.toArray.size-1)]:=by rw[zH,zZ hl];rfl
     have c1':=c1;rw[e1]at c1';rw[<-e2]at c2
     congr 1
     exact Int.le_antisymm c1' c2
   ·exact q.elim
  ·exact q.elim
 ·exact q.elim
theorem ZQe(hc:X.calm=vF):CallR X (.builtin "max") (lRn X.K E Kh):=by
 intro vC s σ H vs us Q I rs h;obtain⟨a,G,ds,hk,rfl,sm,r,q⟩:=h;unfold Kh at q;split at q
 ·rename_i d;obtain⟨v,rfl,rv⟩:=reps1 r;split at q
  ·rename_i xs hs;split at q
   ·rename_i n ns hn;cases R0 hn;obtain⟨p,ws,rfl,h1,r1⟩:=J7 sm rv hs;cases Vq r1;rw[hk]at h1;obtain⟨u,rfl,ru⟩:=vals1 rs;cases ru;refine call_max_walk (ZBo I hc h1 λit fp wr its St s₂ hv W st hfp fin=>⟨it,fp,wr,its.toArray.size,_,St,_,rfl,W,st,hfp,?_,CmpOf.ints_gt (λi=>(n::ns).getD i 0) (λi w hw=>(intAt hv hw).2),λw h' tk hw kk=>?_⟩)
    ·rw[zK,<-hv.length];simp
    ·obtain⟨hl,t,rfl⟩:=intAt hv hw;obtain⟨b1,b2⟩:=argBest_gt (λi=>(n::ns).getD i 0) (its.toArray.size-1);refine⟨.int (ns.foldl max n),a.H,fin h' tk kk,⟨t,?_⟩,q a _ (Ext.refl a) sm rfl⟩;have hsz:its.toArray.size=ns.length+1:=by rw[zK,<-hv.length];simp
     obtain⟨m1,m2,m3⟩:=ZFh ns n;have hle:∀x∈n::ns,x<=ns.foldl max n:=λx hx=>by
      rcases zx.mp hx with rfl|hx
      ·exact m1
      ·exact m2 x hx
     have hin:ns.foldl max n∈n::ns:=by
      rcases m3 with h|h
      ·rw[h];exact zW
      ·exact zJ _ h
     obtain⟨j,hj,ej⟩:=qy hin;have c1:=b2 j (by simp at hj;lia);have c2:=hle _ (qx hl);have e1:(n::ns).getD j 0=ns.foldl max n:=by rw[zH,zZ hj];exact ej
     have e2:(n::ns).getD (argBest (λi j=>decide ((λi=>(n::ns).getD i 0) i>(λi=>(n::ns).getD i 0) j)) (its.toArray.size-1)) 0=(n::ns)[argBest (λi j=>decide ((λi=>(n::ns).getD i 0) i>(λi=>(n::ns).getD i 0) j)) (its.toArray.size-1)]:=by rw[zH,zZ hl];rfl
     have c1':=c1;rw[e1]at c1';rw[<-e2]at c2
     congr 1
     exact Int.le_antisymm c2 c1'
   ·exact q.elim
  ·exact q.elim
 ·exact q.elim
def Gx:D->D->DH->R D
 |.ref p,.int k,G=>match G[p]? with
  |some (.lst xs)=>if -(2^63)<=k/\k<2^63/\xs.length*k.toNat<=1000000 then .ok (.ref G.length) (G++[.lst (zX k.toNat xs).flatten])else .bad
  |_=>.bad
 |_,_,_=>.bad
theorem Reps.rep(r:Reps a ds vs):∀k,Reps a (zX k ds).flatten (zX k vs).flatten
 |0=>rfl
 |k+1=>by rw[qX,qX,qH,qH];exact r.append (Reps.rep r k)
theorem ZRS:OpR X (xL .Mult) (lR2 X.K E Gx):=ZJU.mono λx y H Q h=>by
 obtain⟨a,G,d,e,hk,rfl,s,rd,re,q⟩:=h;cases d with
 | ref p=>
  cases e with
  | int k=>
   unfold Gx at q;dsimp only at q;split at q
   ·rename_i xs hx;split at q
    ·rename_i hc;obtain⟨vs,e1,r1⟩:=s.lst hx;obtain⟨hp,rfl⟩:=rd;refine⟨a.m p,k,vs,rfl,re,e1,hc.1,hc.2.1,?_,λp hp=>Jh s (Reps.rep r1 k.toNat) q p hp⟩;rw[<-r1.length];exact z5 hc.2.2 size6
    ·exact q.elim
   ·exact q.elim
  |_=>exact(show False from q).elim
 |_=>exact(show False from q).elim
end
end _D
namespace _D
open PySem PySem.W PyProof.Rows
def Safe(n:Nat){α:Type}(P:α->Prop):KasT α->Prop
 |.ret a=>P a
 |.ask i j k=>i<n/\j<n/\∀b,Safe n P (k b)
theorem Safe.bind{α β:Type}{f:α->KasT β}{P:α->Prop}{Q:β->Prop}(h2:∀a,P a->Safe n Q (f a)):∀{t:KasT α},Safe n P t->Safe n Q (t.bind f)
 |.ret a,h=>h2 a h
 |.ask _ _ _,h=>⟨h.1,h.2.1,λb=>Safe.bind h2 (h.2.2 b)⟩
def Ents(n:Nat)(p:Array Nat):Prop:=0<n/\p.Perm (zV n).toArray
theorem Ents.lt(h:Ents n p)(hx:x∈p):x<n:=by have:=h.2.mem_iff.mp hx;simpa using this
theorem Ents.pt(h:Ents n p)(k:Nat):p.getD k 0<n:=by
 by_cases hk:k<p.size
 ·have:p.getD k 0=p[k]:=by simp[Array.getD,hk]
  rw[this];exact h.lt (Array.getElem_mem hk)
 ·have:p.getD k 0=0:=by simp[Array.getD,hk]
  rw[this];exact h.1
theorem Ents.perm(h:Ents n p)(e:q.Perm p):Ents n q:=⟨h.1,e.trans h.2⟩
theorem X7(h:Ents n p):∀f m,Safe n (λ_=>True) (kas_asc p f m)
 |0,m=>trivial
 | f+1,m=>⟨h.pt _,h.pt _,λb=>by
   cases b with
   |true=>exact trivial
   |false=>exact X7 h f (m+1)⟩
theorem Tc:∀f{p:Array Nat}m q,Ents n p->Safe n (λr=>Ents n r.1) (kas_desc f p m q)
 |0,p,m,q,h=>h
 | f+1,p,m,q,h=>⟨h.pt _,h.pt _,λb=>by
   cases b with
   |true=>
    by_cases hq:q>0
    ·simp only[if_true,if_pos hq];exact Tc f _ _ (h.perm (mirror_perm ..))
    ·simp only[if_true,if_neg hq];exact Tc f _ _ h
   |false=>
    refine⟨h.pt _,h.pt _,λd=>?_⟩;cases d with
    |true=>exact h
    |false=>exact Tc f _ _ h⟩
theorem ZDn(h:Ents n p)(m k:Nat):Safe n (λr=>Ents n r.2) (kas_tail3 m k p):=by unfold kas_tail3;refine Safe.bind (P:=λ_=>True) (λa _=>?_) (X7 (h.perm (mirror_perm ..)) _ _);exact h.perm (mirror_perm ..)
theorem ZGQ(h:Ents n p)(m k:Nat):Safe n (λr=>Ents n r.2) (kas_descPart m k p):=
 Safe.bind (P:=λr=>Ents n r.1) (λa ha=>by
  split
  ·exact ZDn (ha.perm (mirror_perm ..)) _ _
  ·exact ZDn ha _ _) (Tc _ _ _ h)
theorem ZBr(h:Ents n p)(k:Nat):Safe n (λr=>Ents n r.2) (kas_count k p):=
 Safe.bind (P:=λ_=>True) (λa _=>by
  split
  ·exact h
  ·split
   ·refine⟨h.pt _,h.pt _,λc=>?_⟩;cases c with
    |true=>exact h
    |false=>exact ZGQ (h.perm (mirror_perm ..)) _ _
   ·exact ZGQ h _ _) (X7 h _ _)
theorem Sd(h:Ents n p)(k:Nat):∀f l r,Safe n (λ_=>True) (kas_place p k f l r)
 |0,l,r=>trivial
 | f+1,l,r=>by
  unfold kas_place;split
  ·trivial
  ·refine⟨h.pt _,h.pt _,λc=>?_⟩;cases c with
   |true=>exact Sd h k f _ _
   |false=>exact Sd h k f _ _
theorem ZCx:∀f{p:Array Nat}k,Ents n p->Safe n (λ_=>True) (kas_bin f p k)
 |0,p,k,h=>trivial
 |f+1,p,k,h=>Safe.bind (P:=λ_=>True) (λa _=>ZCx f _ (h.perm (bubble_perm ..))) (Sd h k _ _ _)
theorem ZO0(hn:0<n):Safe n (λ_=>True) (kas_sort n):=
 Safe.bind (P:=λr=>Ents n r.2) (λa ha=>by
  split
  ·exact ZCx _ _ ha
  ·trivial) (ZBr ⟨hn,Array.Perm.refl _⟩ _)
end _D
namespace _D
open PySem PySem.Spec _L
open PyProof.Rows hiding St
def ltL:List D->List D->Option Bool
 |[],[]=>vD vG
 |[],_::_=>vD vF
 |_::_,[]=>vD vG
 |.int a::r,.int b::r'=>if a=b then ltL r r' else vD (decide (a<b))
 |.str a::r,.str b::r'=>if a=b then ltL r r' else vD (decide (a.cps.toList<b.cps.toList))
 |_::_,_::_=>vE
def ltD:D->D->Option Bool
 |.tup xs,.tup ys=>ltL xs ys
 |_,_=>vE
def ltI(xs:List D)(i j:Nat):Bool:=(ltD (xs.getD i .non) (xs.getD j .non)).getD vG
noncomputable def isIt:D->Bool
 |.tup (.int _::_)=>vF
 |_=>vG
noncomputable def Rm:D->Bool
 |.tup (.str _::_)=>vF
 |_=>vG
def M9(xs:List D):Bool:=(xs.all isIt||xs.all Rm)&&xs.all λx=>xs.all λy=>(ltD x y).isSome
def Iw(xs:List D):List D:=if xs.length<2 then xs else(Bj (ltI xs) (PySem.W.kas_sort xs.length)).toList.map λi=>xs.getD i .non
def Ls(ds:List D)(G:DH):R D:=match ds with
 |[d]=>match Fi d G with
  |some xs=>if(xs.length<64/\(Iw xs).length<64)/\M9 xs=vF then .ok (.ref G.length) (G++[.lst (Iw xs)])else .bad
  |none=>.bad
 |_=>.bad
theorem ZC4(h:∀i j,i<n->j<n->∀C:Bool->xA->Prop,C (lt i j) s->cmp i j C s){α:Type}{P:α->Prop}{Q:α->xA->Prop}:
  ∀{t:PySem.W.KasT α},Safe n P t->Q (Bj lt t) s->t.kasWp cmp Q s
 |.ret _,_,hq=>hq
 |.ask i j k,hs,hq=>h i j hs.1 hs.2.1 _ (ZC4 h (hs.2.2 (lt i j)) hq)
section
variable{prog:xy}{w:xD}{A:xq}{s:xA}
theorem ZRe(h:Q (decide (a<b)) s):vK (vQ prog w) A (oneLt' c (.int a t) (.int b u)) Q E s:=by
 cases c with
 |true=>exact oneLt_int h
 |false=>exact PySem.W.kat_one _ _ (lt_int (Q:=PySem.W.BoolBack Q) h)
theorem ZMm(h:Q (decide (a.cps.toList<b.cps.toList)) s):vK (vQ prog w) A (oneLt' c (.str a t) (.str b u)) Q E s:=by
 cases c with
 |true=>exact oneLt_str h
 |false=>exact PySem.W.kat_one _ _ (lt_str (Q:=PySem.W.BoolBack Q) h)
theorem Xo:∀{xs ys:List D}{vs ws:List V}{us zs:List xC}{i:Nat}{k:Bool},Reps a xs vs->Reps a ys ws->Vals vs us->Vals ws zs->ltL xs ys=vD k->fin=decide (us.length<zs.length)->Q k s->
  PySem.W.KatLex prog w A vF fin Q (us.zip zs) i s
 |[],[],vs,ws,us,zs,i,k,r1,r2,v1,v2,h,hf,hq=>by
  cases(show vs=[]from r1);cases(show ws=[]from r2);cases v1;cases v2
  cases h;subst hf;exact PySem.W.kat_nil hq
 |[],y::ys,vs,ws,us,zs,i,k,r1,r2,v1,v2,h,hf,hq=>by
  cases(show vs=[]from r1);cases v1
  obtain⟨w1,wr,rfl,_,_⟩:=r2;cases v2;cases h;subst hf;exact PySem.W.kat_nil (by simpa using hq)
 |x::xs,[],vs,ws,us,zs,i,k,r1,r2,v1,v2,h,hf,hq=>by
  cases(show ws=[]from r2);cases v2
  obtain⟨w1,wr,rfl,_,_⟩:=r1;cases v1;have hk:k=vG:=by cases x<;>(simp[ltL]at h;exact h)
  subst hk;subst hf;exact PySem.W.kat_nil (by simpa using hq)
 | x::xs,y::ys,vs,ws,us,zs,i,k,r1,r2,v1,v2,h,hf,hq=>by
  have hcase:(∃m n,x=.int m/\y=.int n)∨(∃m n,x=.str m/\y=.str n):=by
   cases x<;>cases y<;>first
    |exact .inl ⟨_,_,rfl,rfl⟩
    |exact .inr ⟨_,_,rfl,rfl⟩
    |(exfalso;simp[ltL]at h)
  obtain⟨v0,vr,rfl,e1,r1⟩:=r1;obtain⟨w0,wr,rfl,e2,r2⟩:=r2;rcases hcase with⟨m,n,rfl,rfl⟩|⟨m,n,rfl,rfl⟩
  ·cases(show v0=V.int m from e1)
   cases(show w0=V.int n from e2)
   cases v1 with
   | cons q1 v1=>
    cases v2 with
    | cons q2 v2=>
     obtain⟨t,rfl⟩:=q1;obtain⟨u,rfl⟩:=q2;rw[List.zip_cons_cons];refine PySem.W.kat_cons (wpAny_eqBool_int (PySem.W.kat_go (λhe=>?_) λhe=>?_))
     ·have e:m=n:=by simpa using he
      rw[show ltL (.int m::xs) (.int n::ys)=if m=n then ltL xs ys else vD (decide (m<n))from rfl,if_pos e]at h
      exact PySem.W.kat_yes (Xo r1 r2 v1 v2 h (by simpa using hf) hq)
     ·have e:m≠n:=by simpa using he
      rw[show ltL (.int m::xs) (.int n::ys)=if m=n then ltL xs ys else vD (decide (m<n))from rfl,if_neg e]at h
      cases h;exact PySem.W.kat_no (ZRe hq)
  ·cases(show v0=V.str m from e1)
   cases(show w0=V.str n from e2)
   cases v1 with
   | cons q1 v1=>
    cases v2 with
    | cons q2 v2=>
     obtain⟨t,rfl⟩:=q1;obtain⟨u,rfl⟩:=q2;rw[List.zip_cons_cons];refine PySem.W.kat_cons (wpAny_eqBool_str (PySem.W.kat_go (λhe=>?_) λhe=>?_))
     ·have e:m=n:=by simpa using he
      rw[show ltL (.str m::xs) (.str n::ys)=if m=n then ltL xs ys else vD (decide (m.cps.toList<n.cps.toList))from rfl,if_pos e]at h
      exact PySem.W.kat_yes (Xo r1 r2 v1 v2 h (by simpa using hf) hq)
     ·have e:m≠n:=by simpa using he
      rw[show ltL (.str m::xs) (.str n::ys)=if m=n then ltL xs ys else vD (decide (m.cps.toList<n.cps.toList))from rfl,if_neg e]at h
      cases h;exact PySem.W.kat_no (ZMm hq)
end
section
variable{X:Cx}{E:XK}{vC:List (xY×Obj)}{σ:St}{s:xA}{H:Hp}{h':Heap}
theorem ZCE(I:Inv X vC σ H s)(k:∀b o,b≠X.env.locals->s.heap.get? b=vD o->h'.get? b=vD o)(ns:∀m,s.heap.Ns X.env.locals m->h'.Ns X.env.locals m):Inv X vC σ H {s with heap:=h',toks:=t'}:=by
 refine I.step (g':=s.gens) (d':=s.drawn) (ch:=[]) (λ_ z=>nomatch z) (λb o hL _ _ e _=>k b o hL e) (λb o hL _ _ e _=>⟨o.slots,k b o hL e⟩) (λ_ _ _ _ n=>n) (λb o _ e=>?_) (λ_ _ e=>e) (λ_ _ _ e=>e)
  (λb ps e=>⟨#[],by rw[e];simp⟩) ns (λb u e=>?_) I.bare
 ·by_cases hb:b=X.env.locals
  ·obtain⟨m,hn,_⟩:=I.loc;obtain⟨o',_,_,ho',_⟩:=ns m hn;exact⟨o',by rw[hb];exact ho'⟩
  ·exact⟨o,k b o hb e⟩
 ·have nL:∀c w,H c=vD w->c≠X.env.locals:=λc w e z=>by rw[z,I.free]at e;cases e
  refine(I.hok b u e).stay (λc v hc q=>k c v ?_ q) (λ_ q=>q) λ_ _ q=>q
  rcases hc with z|z
  ·rw[z];exact nL b u e
  ·exact nL c _ z
end
section
variable{prog:xy}{w:xD}{A:xq}{E:xC->xA->Prop}{s:xA}
theorem ZLu{l:xY}{vs:List xC}{Q:xC->xA->Prop}(hl:s.heap.IsList l vs.toArray)(hz:vs.length<64)
  (h:∀h1,h1.get? (s.heap.objs.size+1)=vD (seqObj "list" vs.toArray 0)->(∀b o,s.heap.get? b=vD o->h1.get? b=vD o)->
   vK (vQ prog w) A.in1.in1 (Builtin.«list.sort» ⟨[.ref (s.heap.objs.size+1)],[]⟩) (λfin s'=>fin=.done (.ret .none)/\Q (.ref (s.heap.objs.size+1)) s') E {s with heap:=h1}):
  vK (vQ prog w) A (call (.builtin "sorted") [.ref l]) Q E s:=by
 have h64:vs.length<=sizeLine:=by rw[vJ];lia
 refine Calls.call_function_entry kind_sorted plain_sorted entry_sorted (args_sorted1 _) ?_;unfold Builtin.«sorted»;refine vq (m:=checkCount "sorted" 1 1 _) (v6 (vq (collect_list hl (vq (wpAny_newList ?_ h64)) h64)))
 generalize hh:(s.heap.push (seqObj "list" #[] 0)).update s.heap.objs.size (Obj.mapSeq (·++vs.toArray))=h0
 have e0:h0.objs.size=s.heap.objs.size+1:=by rw[<-hh,Heap.size_update,size_push']
 have k0:∀b o,s.heap.get? b=vD o->h0.get? b=vD o:=λb o q=>by have hlt:b<s.heap.objs.size:=zj q;rw[<-hh,Heap.get?_update_ne _ _ _ _ (zC hlt),Heap.get?_push_ne _ _ _ (zC hlt)];exact q
 have hD:(h0.push (seqObj "list" vs.toArray 0)).get? (s.heap.objs.size+1)=vD (seqObj "list" vs.toArray 0):=by rw[<-e0];exact zy _ rfl
 have hq:=h (h0.push (seqObj "list" vs.toArray 0)) hD λb o q=>zQ _ (k0 b o q)
 show vK _ _ _ _ _ {s with heap:=h0.push (seqObj "list" vs.toArray 0)};rw[e0];refine vq (vv (vj slot_list_sort ⟨_,hD,rfl⟩ entry_list_sort ?_ (args_list_sort _)));refine vk hq (λfin s' hf=>?_) λ_ _ x=>x
 exact⟨_,hf.1,v6 ⟨_,rfl,hf.2⟩⟩
theorem ZQL{a:xY}{vs:List xC}{n:Nat}{P:Fin->xA->Prop}(ho:s.heap.get? a=vD (seqObj "list" vs.toArray n))(h2:vs.length<2)
  (h:∀h' c,h'.get? a=vD (seqObj "list" vs.toArray c)->(∀b o,b≠a->s.heap.get? b=vD o->h'.get? b=vD o)->P (.done (.ret .none)) {s with heap:=h'}):vK (vQ prog w) A (Builtin.«list.sort» ⟨[.ref a],[]⟩) P E s:=by
 have ha:a<s.heap.objs.size:=zj ho;have s1:=qG.update s.heap a (Obj.mapSeq λ_=>(#[]:Array xC));obtain⟨e1,ho1⟩:∃e1,(s.heap.update a (Obj.mapSeq λ_=>(#[]:Array xC))).get? a=vD (seqObj "list" #[] e1):=⟨_,get?_update_seq ho λ_=> #[]⟩;rw[list_sort_plain];refine vq (listItems_at ho rfl (vq (listUpdate_at ho rfl ?_ (by rw[zK,vJ];lia) (jG _))))
 refine vq (seqEpoch_at ho1 rfl (vq (wpAny_newTuple (vq (wpAny_newList (vv ?_) (jG _))) (by show vs.length<=_;rw[vJ];lia))));dsimp only;have hn2:vs.toArray.size<2:=by rw[zK];lia
 rw[if_pos hn2,if_pos hn2];refine vq (v6 (vq (wpAny_of_eq (a:=((),SortSt.mk' general' (vs.toArray.zip vs.toArray) #[] 7 vE)) rfl ?_)));dsimp only
 have hout:(arrOf (SortSt.mk' general' (vs.toArray.zip vs.toArray) #[] 7 vE)).map (·.2)=vs.toArray:=by
  show(vs.toArray.zip vs.toArray).map (·.2)=vs.toArray
  refine Array.ext (by simp) λi h1 h2=>by simp
 rw[hout];generalize hh:((s.heap.update a (Obj.mapSeq λ_=>(#[]:Array xC))).push {cls:=.type "tuple",data:=.seq vs.toArray.toList.toArray}).push {cls:=.type "list",data:=.seq ([]:List xC).toArray}=h3;have ho3:h3.get? a=vD (seqObj "list" #[] e1):=by rw[<-hh];exact zQ _ (zQ _ ho1)
 have k3:∀b o,b≠a->s.heap.get? b=vD o->h3.get? b=vD o:=λb o hb q=>by rw[<-hh];exact zQ _ (zQ _ (s1.extBut b o hb q))
 refine vq (seqEpoch_at (o:=seqObj "list" #[] e1) ?_ rfl ?_)
 ·exact ho3
 have s2:=qG.update h3 a (Obj.mapSeq λ_=>vs.toArray);obtain⟨c2,hc2⟩:∃c2,(h3.update a (Obj.mapSeq λ_=>vs.toArray)).get? a=vD (seqObj "list" vs.toArray c2):=⟨_,get?_update_seq ho3 λ_=>vs.toArray⟩;refine vq (listUpdate_at ho3 rfl ?_ (jG _) (by show vs.toArray.size<=_;rw[zK,vJ];lia));simp only[bne_self_eq_false,jq,if_false];exact v6 (h _ c2 hc2 λb o hb q=>s2.extBut b o hb (k3 b o hb q))
end
theorem ZPO:xM "sorted"=vD (.builtin "sorted"):=by decide +kernel
section
variable{X:Cx}{E:XK}{vC:List (xY×Obj)}{σ:St}{s:xA}{H:Hp}
theorem Ub(I:Inv X vC σ a.H s)(hk:a.K=X.K)(r:Rep a d v)(ru:RelV v u)(h:d=.tup xs):∃p o vs us n,u=.ref p/\s.heap.get? p=vD o/\o.cls=.type "tuple"/\o.data=.seq us n/\Vals vs us.toList/\Reps a xs vs:=by subst h;obtain⟨p,vs,rfl,hq,rv⟩:=r;cases ru;rw[hk]at hq;obtain⟨its,rr,⟨o,ho,hc,n,hd⟩,hz⟩:=I.tuple hq;exact⟨p,o,vs,its.toArray,n,rfl,ho,hc,hd,by simpa using rr,rv⟩
theorem ZL2(h:isIt d=vF):∃i r,d=.tup (.int i::r):=by
 unfold isIt at h;split at h
 ·exact⟨_,_,rfl⟩
 ·cases h
theorem ZR8(h:Rm d=vF):∃i r,d=.tup (.str i::r):=by
 unfold Rm at h;split at h
 ·exact⟨_,_,rfl⟩
 ·cases h
theorem ZF4(I:Inv X vC σ a.H s)(hk:a.K=X.K):∀{xs:List D}{vs:List V}{us:List xC},Reps a xs vs->Vals vs us->xs.all isIt=vF->∃fs,PySem.W.KatTups s.heap us fs/\fs.length=us.length/\∀v∈fs,∃i t,v=.int i t
 |[],vs,us,r,v,h=>by
  cases(show vs=[]from r);cases v
  exact⟨[],.nil,rfl,λ_ hm=>nomatch hm⟩
 | d::xs,vs,us,r,v,h=>by
  rw[j7,z0]at h;obtain⟨v0,vr,rfl,e1,r1⟩:=r;cases v with
  | cons q1 v1=>
   obtain⟨i,rr,rfl⟩:=ZL2 h.1;obtain⟨p,o,ws,zs,n,rfl,ho,hc,hd,hv,hr⟩:=Ub I hk e1 q1 rfl;obtain⟨w0,wr,rfl,g1,g2⟩:=hr
   cases(show w0=V.int i from g1)
   obtain⟨fs,k1,k2,k3⟩:=ZF4 I hk r1 v1 h.2;have hz:∃t,zs[0]?=vD (.int i t):=by
    cases hz:zs.toList with
    |nil=>rw[hz]at hv;cases hv
    | cons z zr=>
     rw[hz]at hv;cases hv with
     |cons q _=>
      obtain⟨t,rfl⟩:=q;exact⟨t,by rw[<-jQ,hz];rfl⟩
   obtain⟨t,hz⟩:=hz;refine⟨.int i t::fs,.cons ho hc hd hz k1,by simp[k2],λv hm=>?_⟩;rcases zx.mp hm with rfl|hm
   ·exact⟨i,t,rfl⟩
   ·exact k3 v hm
theorem ZG1(I:Inv X vC σ a.H s)(hk:a.K=X.K):∀{xs:List D}{vs:List V}{us:List xC},Reps a xs vs->Vals vs us->xs.all Rm=vF->∃fs,PySem.W.KatTups s.heap us fs/\fs.length=us.length/\∀v∈fs,∃i t,v=.str i t
 |[],vs,us,r,v,h=>by
  cases(show vs=[]from r);cases v
  exact⟨[],.nil,rfl,λ_ hm=>nomatch hm⟩
 | d::xs,vs,us,r,v,h=>by
  rw[j7,z0]at h;obtain⟨v0,vr,rfl,e1,r1⟩:=r;cases v with
  | cons q1 v1=>
   obtain⟨i,rr,rfl⟩:=ZR8 h.1;obtain⟨p,o,ws,zs,n,rfl,ho,hc,hd,hv,hr⟩:=Ub I hk e1 q1 rfl;obtain⟨w0,wr,rfl,g1,g2⟩:=hr
   cases(show w0=V.str i from g1)
   obtain⟨fs,k1,k2,k3⟩:=ZG1 I hk r1 v1 h.2;have hz:∃t,zs[0]?=vD (.str i t):=by
    cases hz:zs.toList with
    |nil=>rw[hz]at hv;cases hv
    | cons z zr=>
     rw[hz]at hv;cases hv with
     |cons q _=>
      obtain⟨t,rfl⟩:=q;exact⟨t,by rw[<-jQ,hz];rfl⟩
   obtain⟨t,hz⟩:=hz;refine⟨.str i t::fs,.cons ho hc hd hz k1,by simp[k2],λv hm=>?_⟩;rcases zx.mp hm with rfl|hm
   ·exact⟨i,t,rfl⟩
   ·exact k3 v hm
theorem ZDB(I:Inv X vC σ a.H s)(sm:Sim a G)(q:out E a (.ok (.ref G.length) (G++[.lst ys])) Q)(r:Reps a ys ws)(v:Vals ws us)(hz:us.length<64)
  (hD:h2.get? (s.heap.objs.size+1)=vD (seqObj "list" us.toArray c)) (k:∀b o,b≠X.env.locals->s.heap.get? b=vD o->h2.get? b=vD o) (ns:∀m,s.heap.Ns X.env.locals m->h2.Ns X.env.locals m):
  EP X vC σ Q (.ref (s.heap.objs.size+1)) {s with heap:=h2}:=by
 have hle:s.heap.objs.size<=s.heap.objs.size+1:=jz _;obtain⟨g0,g1,g2,g3,g4,g5⟩:=I.Ha (H':=a.H) hle (I.hok.fresh hle);have I2:Inv X vC σ a.H {s with heap:=h2}:=ZCE (t':=s.toks) I k ns;refine⟨.ref (s.heap.objs.size+1),_,ZAU I2 g0 (z5 I.sz hle) g1 g4 g5 (o:=.lst ws) ⟨?_,us,c,v,hD⟩,rfl,Jh sm r q _ g0⟩;rw[v.length,vJ];lia
end
section
variable{X:Cx}{E:XK}
theorem ZOQ(h:M9 xs=vF)(hx:x∈xs)(hy:y∈xs):∃k,ltD x y=vD k:=by unfold M9 at h;rw[z0]at h;exact jw.mp (qC.mp (qC.mp h.2 x hx) y hy)
theorem ZM3(h:ltD x y=vD k):∃xs ys,x=.tup xs/\y=.tup ys/\ltL xs ys=vD k:=by
 unfold ltD at h;split at h
 ·exact⟨_,_,rfl,rfl,h⟩
 ·cases h
theorem ZCN(r:Reps a xs vs):∀l:List Nat,(∀i∈l,i<xs.length)->Reps a (l.map λi=>xs.getD i .non) (l.map λi=>vs.getD i .non)
 |[],_=>rfl
 |i::l,h=>by
  have hi:i<xs.length:=h i zW;obtain⟨v,ev,rv⟩:=r.get (i:=i) (d:=xs[i]) (zZ hi);refine⟨vs.getD i .non,_,rfl,?_,ZCN r l λj hj=>h j (zJ _ hj)⟩;have e1:xs.getD i .non=xs[i]:=by simp[hi]
  have e2:vs.getD i .non=v:=by rw[zH,ev];rfl
  show Rep a (xs.getD i .non) (vs.getD i .non);rw[e1,e2];exact rv
theorem ZGV(r:Vals vs us):∀l:List Nat,(∀i∈l,i<vs.length)->Vals (l.map λi=>vs.getD i .non) (l.map λi=>us.getD i .none)
 |[],_=>.nil
 |i::l,h=>by
  have hi:i<vs.length:=h i zW;obtain⟨u,eu,ru⟩:=r.get (i:=i) (x:=vs[i]) (zZ hi);rw[zE,zE];have e1:vs.getD i .non=vs[i]:=by simp[hi]
  have e2:us.getD i .none=u:=by rw[zH,eu];rfl
  rw[e1,e2];exact .cons ru (ZGV r l λj hj=>h j (zJ _ hj))
theorem ZEU:∀{t:PySem.W.KasT (Array Nat)},Safe n P t->P (Bj lt t)
 |.ret _,h=>h
 |.ask i j k,h=>ZEU (t:=k (lt i j)) (h.2.2 (lt i j))
theorem ZHZ:∀f{p:Array Nat}k,Ents n p->Safe n (Ents n) (PySem.W.kas_bin f p k)
 |0,p,k,h=>h
 |f+1,p,k,h=>Safe.bind (P:=λ_=>True) (λa _=>ZHZ f _ (h.perm (bubble_perm ..))) (Sd h k _ _ _)
theorem ZDa(hn:0<n):Safe n (Ents n) (PySem.W.kas_sort n):=
 Safe.bind (P:=λr=>Ents n r.2) (λa ha=>by
  split
  ·exact ZHZ _ _ ha
  ·exact ha) (ZBr ⟨hn,Array.Perm.refl _⟩ _)
theorem ZQi:CallR X (.builtin "sorted") (lRn X.K E Ls):=by
 intro vC s σ H vs us Q I rs h;obtain⟨a,G,ds,hk,rfl,sm,r,q⟩:=h;unfold Ls at q;split at q
 ·rename_i d;obtain⟨v,rfl,rv⟩:=reps1 r;split at q
  ·rename_i xs hs;split at q
   ·rename_i hc;obtain⟨p,ws,rfl,h1,r1⟩:=Oo sm rv hs;rw[hk]at h1;obtain⟨u,rfl,ru⟩:=vals1 rs;cases ru;obtain⟨its,hv,pl,hz⟩:=I.list h1;have hlx:xs.length=its.length:=r1.length.trans hv.length;refine ZLu pl.isList (by lia) λh1 hD k1=>?_
    obtain⟨m,hn,_⟩:=id I.loc;have hns1:h1.Ns X.env.locals m:=hn.keeps k1;have hDL:s.heap.objs.size+1≠X.env.locals:=jV (qR I.lt);have nsAll:∀{h2:Heap},h2.Ns X.env.locals m->∀m',s.heap.Ns X.env.locals m'->h2.Ns X.env.locals m':=λ{h2}hh m' hm'=>by have e1:=hn.eq_nsMap;have e2:=hm'.eq_nsMap;rw[e2,<-e1];exact hh
    by_cases hlen:xs.length<2
    ·refine ZQL (s:={s with heap:=h1}) hD (by lia) λh2 c hD2 k2=>⟨rfl,?_⟩
     have es:Iw xs=xs:=by unfold Iw;rw[if_pos hlen]
     rw[es]at q;refine ZDB I sm q r1 hv (by lia) hD2 (λb o hb e=>k2 b o ?_ (k1 b o e)) (nsAll (hns1.at λo e=>k2 _ o (Ne.symm hDL) e));exact zC (qR (zj e))
    ·have es:Iw xs=(Bj (ltI xs) (PySem.W.kas_sort xs.length)).toList.map λi=>xs.getD i .non:=by unfold Iw;rw[if_neg hlen]
     rw[es]at q;refine PySem.W.kat_list_sort (s:={s with heap:=h1}) (Att.ZJa hns1) (news:=Att.ledger h1 X.env.locals (s.heap.objs.size+1)) ?_ hD hDL (Att.Vz _ _) (λ⟨_,_⟩ hp=>(Att.Ob.mp hp).2.1) (by lia) (by lia) λe1 h2 F2 N2=>?_
     ·rintro⟨b,o⟩ hp;obtain⟨n1,n2,e⟩:=Att.Ob.mp hp;exact⟨e,n1,Att.Vz _ _⟩
     have k2:∀b o,b≠X.env.locals->s.heap.get? b=vD o->h2.get? b=vD o:=λb o hb e=>
      (N2 (b,o) (zJ _ (Att.Ob.mpr ⟨hb,zC (qR (zj e)),k1 b o e⟩))).1
     have I2:Inv X vC σ a.H {s with heap:=h2}:=ZCE (t':=s.toks) I k2 (nsAll F2.ns);have hpos:0<its.length:=by lia
     have fin:(PySem.W.kas_sort its.length).kasWp (PySem.W.kas_ask X.prog X.w X.A.in1.in1 (tuples' vF) its) (λp s''=>PySem.W.KasFin (Att.Tg h1) X.env.locals m (s.heap.objs.size+1) e1 (p.toList.map λi=>its.getD i Value.none) (λs3=>PySem.Fin.done (.ret .none)=PySem.Fin.done (.ret .none)/\EP X vC σ Q (.ref (s.heap.objs.size+1)) s3) s'') {s with heap:=h2}:=by
      refine ZC4 (lt:=ltI xs) (λi j hi hj C hC=>?_) (ZDa hpos) ?_
      ·have hxi:i<xs.length:=by lia
       have hxj:j<xs.length:=by lia
       obtain⟨v1,ev1,rv1⟩:=r1.get (i:=i) (d:=xs[i]) (zZ hxi);obtain⟨v2,ev2,rv2⟩:=r1.get (i:=j) (d:=xs[j]) (zZ hxj);obtain⟨u1,eu1,ru1⟩:=hv.get ev1;obtain⟨u2,eu2,ru2⟩:=hv.get ev2;obtain⟨k,hlt⟩:=ZOQ hc.2 (qx hxi) (qx hxj);obtain⟨as,bs,ea,eb,hlL⟩:=ZM3 hlt;obtain⟨p1,o1,vs1,us1,n1,rfl,ho1,_,hd1,hv1,hr1⟩:=Ub I2 hk rv1 ru1 ea;obtain⟨p2,o2,vs2,us2,n2,rfl,ho2,_,hd2,hv2,hr2⟩:=Ub I2 hk rv2 ru2 eb
       have hC':C k {s with heap:=h2}:=by
        have:ltI xs i j=k:=by
         unfold ltI;have e1:xs.getD i .non=xs[i]:=by simp[hxi]
         have e2:xs.getD j .non=xs[j]:=by simp[hxj]
         rw[e1,e2,hlt];rfl
        rw[<-this];exact hC
       unfold PySem.W.kas_ask;have g1:its.getD i Value.none=.ref p1:=by rw[zH,eu1];rfl
       have g2:its.getD j Value.none=.ref p2:=by rw[zH,eu2];rfl
       rw[g1,g2];exact PySem.W.kat_lt ho1 hd1 ho2 hd2 (Xo hr1 hr2 hv1 hv2 hlL (by simp) hC')
      ·have hen:Ents its.length (Bj (ltI xs) (PySem.W.kas_sort its.length)):=ZEU (ZDa hpos);rw[hlx]at q;refine PySem.W.KasFin.intro F2 N2 (.head λ⟨_,_⟩ hp=>(Att.Ob.mp hp).2.1) λh3 c F3 N3=>⟨rfl,?_⟩
       have hin:∀i∈(Bj (ltI xs) (PySem.W.kas_sort its.length)).toList,i<its.length:=λi hi=>hen.lt (by simpa using hi)
       refine ZDB I sm q (ZCN r1 _ λi hi=>by rw[hlx];exact hin i hi) (ZGV hv _ λi hi=>by rw[hv.length];exact hin i hi) ?_ (N3 _ zW).1 (λb o hb e=>?_) (nsAll F3.ns)
       ·rw[hlx]at es;have:=hc.1.2;rw[es]at this;simpa using this
       ·exact(N3 (b,o) (zJ _ (Att.Ob.mpr ⟨hb,zC (qR (zj e)),k1 b o e⟩))).1
     unfold M9 at hc;rw[z0,j1]at hc;rcases hc.2.1 with hall|hall
     ·obtain⟨fs,t1,t2,t3⟩:=ZF4 I2 hk r1 hv hall;refine PySem.W.kat_kind (T:=.type "int") t1 (by lia) (λv hm=>?_) (by decide) ?_
      ·obtain⟨i,t,rfl⟩:=t3 v hm;exact PySem.W.Looks.now
      ·exact fin
     ·obtain⟨fs,t1,t2,t3⟩:=ZG1 I2 hk r1 hv hall;refine PySem.W.kat_kind (T:=.type "str") t1 (by lia) (λv hm=>?_) (by decide) ?_
      ·obtain⟨i,t,rfl⟩:=t3 v hm;exact PySem.W.Looks.now
      ·exact fin
   ·exact q.elim
  ·exact q.elim
 ·exact q.elim
end
section
variable{S:DSt}{G:DH}
@[simp]theorem ZS8:J6 to ti te f S G=(to S G).toS λo G1=>(ti S G1).toS λi G2=>(ixL o i G2).toS λx G3=>(te S G3).toS λy G4=>(f x y G4).toS λz G5=>(J0 o i z G5).toS λ_ G6=>.nx S G6:=id rfl
theorem Ti(h:G[p]?=vD (.lst xs))(e:atI xs k=vD d):ixL (.ref p) (.int k) G=.ok d G:=by unfold ixL;simp only;rw[h];simp only;rw[e]
noncomputable def Cq(xs:List D):List D:=xs.zipIdx.map λq=>.tup [.int q.2,q.1]
noncomputable def M6(xs ys:List D):List D:=(xs.zip ys).map λq=>.tup [q.1,q.2]
theorem ZCZ{f:Nat->DH->Option (Option D)}{g:DG}{b:DS}{xs:List D}(h:∀j G,f j G=vD xs[j]?):∀(n j:Nat),j+n=xs.length->∀S G,Cy f g b n j S G=Av g b (xs.drop j) S G
 |0,j,e,S,G=>by
  unfold Cy;rw[h,zA (by lia),zU (by lia)]
  rfl
 |n+1,j,e,S,G=>by
  have hj:j<xs.length:=by lia
  unfold Cy;rw[h,zZ hj,zO hj,Cg];have:Cy f g b n (j+1)=Av g b (xs.drop (j+1)):=by funext S G;exact ZCZ h n (j+1) (by lia) S G
  rw[this]
theorem Nu(h:∀j G,f j G=vD xs[j]?)(hn:n=xs.length):Cy f g b n 0 S G=Av g b xs S G:=by rw[ZCZ h n 0 (by lia)];rfl
theorem Tz(j:Nat)(G:DH):Dh 0 (.fl xs) j G=vD (Cq xs)[j]? :=by
 unfold Dh Cq;simp only[Bc,zw,List.getElem?_zipIdx]
 cases xs[j]?<;>simp
theorem ZJV(j:Nat)(G:DH):Dh 0 (.tup xs) j G=vD (Cq xs)[j]? :=by
 unfold Dh Cq;simp only[Bc,zw,List.getElem?_zipIdx]
 cases xs[j]?<;>simp
theorem Hr:(Cq xs).length=xs.length:=by simp[Cq]
@[simp]theorem ZTb:Fj [.fl xs] G=.ok (.fn xs.length (Dh 0 (.fl xs))) G:=by simp[Fj,Ie,Bc,lenOf]
@[simp]theorem ZR0:Cy (Dh 0 (.fl xs)) g b xs.length 0 S G=Av g b (Cq xs) S G:=Nu Tz Hr.symm
@[simp]theorem ZTT:Cy (Dh 0 (.tup xs)) g b xs.length 0 S G=Av g b (Cq xs) S G:=Nu ZJV Hr.symm
theorem ZE6{f:Nat->DH->Option (Option D)}{g:DG}{c:DB}{te:DE}{F:D->Option D}{xs:List D}(hf:∀j,f j G=vD xs[j]?)(h:∀x∈xs,CStep g c te S G x (F x)):
  ∀(n j:Nat),xs.length<=j+n->Dg f g c te S n j G=.ok ((xs.drop j).filterMap F) G
 |0,j,hj=>by
  unfold Dg;rw[hf,zA (by lia)];simp only;rw[zU (by lia)]
  rfl
 | n+1,j,hj=>by
  unfold Dg;rw[hf];by_cases hlt:j<xs.length
  ·have ih:=ZE6 hf h n (j+1) (by lia);obtain⟨S1,h1,h2⟩:=h xs[j] (qx hlt);rw[zZ hlt];simp only[h1,R.Hn];rw[zO hlt,qK];rcases h2 with⟨h2,h3⟩|⟨h2,d,h3,h4⟩
   ·simp[h2,h3,ih]
   ·simp[h2,h3,h4,ih]
  ·rw[zA (by lia),zU (by lia)]
   rfl
theorem Up{f:Nat->DH->Option (Option D)}{g:DG}{c:DB}{te:DE}{F:D->Option D}{xs:List D}{n:Nat}(hf:∀j,f j G=vD xs[j]?)(h:∀x∈xs,CStep g c te S G x (F x))(hn:xs.length<=n):
  Dg f g c te S n 0 G=.ok (xs.filterMap F) G:=ZE6 hf h n 0 (by lia)
theorem ZG5(hd:Bc d G=vD xs)(he:Bc e G=vD ys)(j:Nat):Fp [d,e] j G=vD (M6 xs ys)[j]? :=by
 unfold Fp M6;simp only[Fx,hd,he,zw,List.getElem?_zip_eq_some]
 have ez:(xs.zip ys)[j]?=match xs[j]?,ys[j]? with
  |some x,vD y=>vD (x,y)
  |_,_=>vE:=by
  rw[List.zip,List.getElem?_zipWith]
  cases xs[j]?<;>cases ys[j]?<;>rfl
 rw[ez];cases xs[j]? with
 |none=>rfl
 |some x=>
  cases ys[j]? with
  |none=>rfl
  |some y=>rfl
theorem ZGm(hd:Bc d G=vD xs)(he:Bc e G=vD ys):Fe 2 [d,e] G=.ok (.fn xs.length (Fp [d,e])) G:=by simp[Fe,Ie,hd,he,lenOf]
@[simp]theorem ZEG:Bc (.fl xs) G=vD xs:=id rfl
@[simp]theorem Qt:Bc (.tup xs) G=vD xs:=id rfl
theorem ZLf(h:G[i]?=vD (.lst xs)):Bc (.ref i) G=vD xs:=by simp[Bc,h]
theorem ZRX(h:Bc d G=vD ((n::ns).map D.int)):Le [d] G=.ok (.int (ns.foldl min n)) G:=by simp only[Le,h,ZAm]
theorem ZK4(h:Bc d G=vD ((n::ns).map D.int)):Kh [d] G=.ok (.int (ns.foldl max n)) G:=by simp only[Kh,h,ZAm]
theorem ZGd{p:Nat}{k:Nat}{d:D}(h:G[p]?=vD (.lst [d]))(hk:k<=1000000):Gx (.ref p) (.int (k:Int)) G=.ok (.ref G.length) (G++[.lst (zX k d)]):=by
 unfold Gx;simp only;rw[h];simp only;have e:(zX k [d]).flatten=zX k d:=by
  induction k with
  |zero=>rfl
  |succ k ih=>rw[qX,qH,ih (by lia),qX];rfl
 rw[if_pos ⟨by lia,by lia,by simpa using hk⟩,Int.toNat_natCast,e]
end
def Bts(i:Int):Prop:=i.natAbs.log2<33554432
def MulB(i j:Int):Prop:=CMul i j∨(Bts i/\Bts j)
noncomputable instance (i:Int):Decidable (Bts i):=by unfold Bts;infer_instance
noncomputable instance (i j:Int):Decidable (MulB i j):=by unfold MulB;infer_instance
theorem MulB.ok(h:MulB i j):IntMulOk i j:=by
 rcases h with h|⟨h1,h2⟩
 ·exact h.ok
 ·have b:∀k:Int,Bts k->Builtin.Int.intBits k<=33554432:=λk hk=>by
   unfold Builtin.Int.intBits;split
   ·exact jG _
   ·exact hk
  have c1:=b i h1;have c2:=b j h2;have h:Builtin.Int.intTooBig (Builtin.Int.intBits i+Builtin.Int.intBits j)=vG:=by unfold Builtin.Int.intTooBig bitsLine;exact decide_eq_false (by lia)
  unfold IntMulOk;rw[h];simp
section
variable{X:Cx}{E:XK}
theorem ZIx:OpR X (xL .Mult) (rI MulB λi j=>.int (i*j)):=opI λ_ _ _ _ _ _ _ hc q=>mul_int q hc.ok
end
section
variable{i j:Int}{G:DH}
end
section
variable{X:Cx}{E:XK}
end
def Fb(f:Str)(v:D):List (Str×D)->List (Str×D)
 |[]=>[(f,v)]
 |(g,x)::r=>if g=f then(g,v)::r else(g,x)::Fb f v r
theorem RepF.mono(x:Ext a b)(h:RepF a fs us):RepF b fs us:=⟨h.1,h.2.mono x⟩
theorem RepF.cons(h:Rep a d v)(r:RepF a fs us):RepF a ((g,d)::fs) ((g,v)::us):=
 ⟨by simp[r.1],v,us.map (·.2),rfl,h,r.2⟩
theorem RepF.uncons(h:RepF a ((g,d)::fs) us):∃v us',us=(g,v)::us'/\Rep a d v/\RepF a fs us':=by
 obtain⟨h1,h2⟩:=h;cases us with
 |nil=>simp at h1
 |cons q us=>
  obtain⟨g',y⟩:=q;simp only[zE,List.cons.injEq]at h1;obtain⟨rfl,h1⟩:=h1;obtain⟨v,r,e1,r1,r2⟩:=h2;simp only[zE,List.cons.injEq]at e1;obtain⟨rfl,rfl⟩:=e1;exact⟨y,us,rfl,r1,h1,r2⟩
theorem RepF.nil'(h:RepF a [] us):us=[]:=by
 obtain⟨h1,_⟩:=h;cases us with
 |nil=>rfl
 |cons q us=>simp at h1
theorem lkc{α:Type}{f g:Str}{x:α}{fs:List (Str×α)}:qN f ((g,x)::fs)=if(f==g)=vF then vD x else fs.lookup f:=by
 show(match f==g with
  |true=>vD x
  |false=>qN f fs)=_
 cases f==g<;>rfl
theorem RepF.look{a:Wd}{f:Str}{d:D}:∀{fs:List (Str×D)}{us:List (Str×V)},RepF a fs us->fs.lookup f=vD d->∃u,us.lookup f=vD u/\Rep a d u
 |[],us,h,e=>by simp at e
 |(g,x)::fs,us,h,e=>by
  obtain⟨v,us',rfl,hv,hr⟩:=h.uncons;rw[lkc]at e⊢;by_cases q:(f==g)=vF
  ·rw[if_pos q]at e⊢;cases e;exact⟨v,rfl,hv⟩
  ·rw[if_neg q]at e⊢;exact RepF.look hr e
theorem RepF.Wc{a:Wd}{f:Str}:∀{fs:List (Str×D)}{us:List (Str×V)},RepF a fs us->fs.lookup f=vE->us.lookup f=vE
 |[],us,h,e=>by rw[h.nil'];rfl
 |(g,x)::fs,us,h,e=>by
  obtain⟨v,us',rfl,hv,hr⟩:=h.uncons;rw[lkc]at e⊢;by_cases q:(f==g)=vF
  ·rw[if_pos q]at e;cases e
  ·rw[if_neg q]at e⊢;exact RepF.Wc hr e
theorem RepF.put(q:Rep a d v):∀{fs:List (Str×D)}{us:List (Str×V)},RepF a fs us->RepF a (Fb f d fs) (Dv f v us)
 |[],us,h=>by rw[h.nil'];exact RepF.cons (fs:=[]) (us:=[]) q ⟨rfl,rfl⟩
 |(g,x)::fs,us,h=>by
  obtain⟨w,us',rfl,hv,hr⟩:=h.uncons;unfold Fb Dv;by_cases e:g=f
  ·rw[if_pos e,if_pos e];exact .cons q hr
  ·rw[if_neg e,if_neg e];exact .cons hv (RepF.put q hr)
theorem RepF.len(h:RepF a fs us):us.length=fs.length:=by have:=congrArg List.length h.1;simpa using this.symm
theorem Ext.wrI(h:a.H p=vD (.ins C dx us)):Ext a (a.put p ho):=
 ⟨rfl,zY _,λ_ _=>rfl,λq xs e=>by
  show upd a.H p ho q=_;rw[Am (λz=>by subst z;rw[h]at e;cases e)];exact e,λq o u e=>by
  show upd a.H p ho q=_;rw[Am (λz=>by subst z;rw[h]at e;cases e)];exact e,λ_ t=>t.mono (λq ps e=>by show upd a.H p ho q=_;rw[Am (λz=>by subst z;rw[h]at e;cases e)];exact e) (λq o u e=>by show upd a.H p ho q=_;rw[Am (λz=>by subst z;rw[h]at e;cases e)];exact e)⟩
theorem Sim.wrI(s:Sim a G)(hi:i<a.n)(hn:PySem.W.nsIn a.K xU c=vD (vD (.ref C)))(h:a.H (a.m i)=vD (.ins C dx us))(r:RepF (a.put (a.m i) (.ins C dx us')) fs' us'):
  Sim (a.put (a.m i) (.ins C dx us')) (G.set i (.ins c fs')):=by
 refine⟨by rw[j0];exact s.len,s.inj,λj o e=>?_,λj hj=>?_⟩
 ·rw[qP]at e;show ORep _ o (upd a.H (a.m i) (.ins C dx us') (a.m j));by_cases hij:i=j
  ·subst hij;rw[if_pos rfl,if_pos (by rw[s.len];exact hi)]at e;cases e;rw[Ei];exact⟨C,dx,us',hn,rfl,r⟩
  ·rw[if_neg hij]at e;rw[Am λz=>hij (s.inj _ _ (s.lt e) hi z).symm];exact(s.obj j o e).mono (Ext.wrI h)
 ·show upd a.H (a.m i) (.ins C dx us') (a.m j)≠vE;by_cases hij:a.m j=a.m i
  ·rw[hij,Ei];simp
  ·rw[Am hij];exact s.tr j hj
def Hh(c:Str)(d:D)(G:DH):Option (List (Str×D)):=match d with
 |.ref i=>match G[i]? with
  |some (.ins c' fs)=>if c'=c then vD fs else vE
  |_=>vE
 |_=>vE
theorem Sim.ins(s:Sim a G)(r:Rep a d x)(h:Hh c d G=vD fs):
  ∃i C dx us,d=.ref i/\i<a.n/\x=.ref (a.m i)/\G[i]?=vD (.ins c fs)/\PySem.W.nsIn a.K xU c=vD (vD (.ref C))/\a.H (a.m i)=vD (.ins C dx us)/\RepF a fs us:=by
 unfold Hh at h;split at h
 ·rename_i i;split at h
  ·rename_i c' fs' e;split at h
   ·rename_i hc;subst hc;cases h;obtain⟨l,ev⟩:=r;obtain⟨C,dx,us,n,e1,r1⟩:=s.obj i _ e;exact⟨i,C,dx,us,rfl,l,ev,e,n,e1,r1⟩
   ·cases h
  ·cases h
 ·cases h
def Di(c:Str)(t:DE)(f:Str):DE:=λS G=>(t S G).bind λd G1=>match Hh c d G1 with
 |some fs=>match fs.lookup f with
  |some v=>.ok v G1
  |none=>.bad
 |none=>.bad
def Eb(c:Str)(to tv:DE)(f:Str):DS:=λS G=>(tv S G).toS λd G1=>(to S G1).toS λo G2=>match o with
 |.ref i=>match Hh c o G2 with
  |some fs=>if fs.length<1000 then .nx S (G2.set i (.ins c (Fb f d fs)))else .bad
  |none=>.bad
 |_=>.bad
def Ey(c:Str)(m:Str)(F:List D->DH->R D)(to:DE)(t:DA):DE:=λS G=>(to S G).bind λo G1=>match Hh c o G1 with
 |some fs=>match fs.lookup m with
  |none=>(t S G1).bind λds G2=>F (o::ds) G2
  |some _=>.bad
 |none=>.bad
def Pg(c:Str)(F:List D->DH->R D)(t:DA):DE:=λS G=>(t S G).bind λds G1=>(F (.ref G1.length::ds) (G1++[.ins c []])).bind λv G2=>match v with
 |.non=>.ok (.ref G1.length) G2
 |_=>.bad
section
variable{X:Cx}{E:XK}{c f m:Str}{C:xY}{e o:xz}{es:List xz}{t ta tv:DE}{tr:DA}{pos apos pos':Pos}
theorem ZQv(hn:PySem.W.nsIn X.K xU c=vD (vD (.ref C)))(hc:Cls X.K C)(hf:NoAttr X.K C f)(ha:QE X E e t)(hb:xF e f X.env (eval e X.env)=eval e X.env:=by rfl):QE X E (.Attribute e f pos) (Di c t f):=
 (ZQT ha hb).mono λσ H Q h=>by
  obtain⟨a,S,G,hk,rfl,s,r,h⟩:=h;refine⟨a,S,G,hk,rfl,s,r,(Dq h).imp ?_⟩;rintro v _ ⟨b,d,G1,rfl,x,s1,q,-,h1⟩;split at h1
  ·rename_i fs hi;obtain⟨i,C',dx,us,rfl,_,rfl,_,n',e1,r1⟩:=s1.ins q hi;have hCC:C'=C:=by
    rw[x.k,hk,hn]at n';cases n'
    rfl
   subst hCC;split at h1
   ·rename_i d' hd;obtain⟨u,eu,ru⟩:=r1.look hd;exact⟨b.m i,C',dx,us,u,rfl,e1,hc,hf,eu,h1 b u (Ext.refl b) s1 ru⟩
   ·exact h1.elim
  ·exact h1.elim
theorem ZNa(hn:PySem.W.nsIn X.K xU c=vD (vD (.ref C)))(hc:Cls X.K C)(hf:NoAttr X.K C f)(ha:QE X E o ta)(hv:QE X E e tv)(hs:swapsWith e (vD (.Attribute o f pos')) pos.line X.env=pure vG:=by rfl):
  QS X E (.Assign [.Attribute o f pos'] e pos) (Eb c ta tv f):=
 (ZLX ha hv hs).mono λW σ H h=>by
  obtain⟨a,S,G,hk,rfl,s,r,h⟩:=h;refine⟨a,S,G,hk,rfl,s,r,(G7 h).imp ?_⟩;rintro v _ ⟨b,d,G1,rfl,x,s1,q,-,h1⟩;refine⟨b,S,G1,x.k.trans hk,rfl,s1,r.mono x,(G7 h1).imp ?_⟩;rintro v2 _ ⟨b2,d2,G2,rfl,x2,s2,q2,-,h2⟩;split at h2
  ·rename_i i;split at h2
   ·rename_i fs hi;split at h2
    ·rename_i hl;obtain⟨i',C',dx,us,ei,li,rfl,eg,n',e1,r1⟩:=s2.ins q2 hi;cases ei;have hCC:C'=C:=by
      rw[x2.k,x.k,hk,hn]at n';cases n'
      rfl
     subst hCC;have x3:Ext b2 (b2.put (b2.m i) (.ins C' dx (Dv f v us))):=Ext.wrI e1;have s3:=s2.wrI (fs':=Fb f d fs) li n' e1 (RepF.put ((q.mono x2).mono x3) (r1.mono x3));exact⟨b2.m i,C',dx,us,rfl,e1,hc,hf,by rw[r1.len];exact hl,h2 _ σ x3 s3 (((r.mono x).mono x2).mono x3)⟩
    ·exact h2.elim
   ·exact h2.elim
  ·exact h2.elim
theorem ZPN{sp F:List D->DH->R D}{σ:St}{H:Hp}{Q:VK}(hn:PySem.W.nsIn X.K xU c=vD (vD (.ref C)))(h:lE X.K E0 (Ey c m F ta tr) σ H Q):Wy C m (lF X.K F) [] E0 (lE X.K E0 ta) (lA X.K E0 tr) σ H Q:=by
 obtain⟨a,S,G,hk,rfl,s,r,h⟩:=h;refine⟨a,S,G,hk,rfl,s,r,(Dq h).imp ?_⟩;rintro v _ ⟨b,d,G1,rfl,x,s1,q,-,h1⟩;split at h1
 ·rename_i fs hi;obtain⟨i,C',dx,us,rfl,_,rfl,_,n',e1,r1⟩:=s1.ins q hi;have hCC:C'=C:=by
   rw[x.k,hk,hn]at n';cases n'
   rfl
  subst hCC;split at h1
  ·rename_i hm;refine⟨b.m i,dx,us,rfl,e1,r1.Wc hm,b,S,G1,x.k.trans hk,rfl,s1,r.mono x,(Jx h1).imp ?_⟩;rintro vs _ ⟨b2,ds,G2,rfl,x2,s2,q2,-,h2⟩;exact⟨b2,G2,.ref i::ds,(x2.k.trans x.k).trans hk,rfl,s2,⟨.ref (b.m i),vs,by rw[qj],q.mono x2,q2⟩,h2⟩
  ·exact h1.elim
 ·exact h1.elim
theorem Qg{CX:CXT}{k:Nat}{g:xY}{fd:xj}{ps:List Str}{F:List D->DH->R D}{pl:Sem Bool}(hn:PySem.W.nsIn X.K xU c=vD (vD (.ref C)))(hc:Cls X.K C)(hm:Meth X.K C m g)(FF:FnOk X.prog X.w X.K X.mg X.base CX k g fd ps (lF X.K F))(hr:Room k X.A)(hb:Binds X.K fd ps [])
  (hx:Passes CX X E0) (ho:QE X E0 o ta) (ha:QA X E0 (e::es) tr) (he:notStar e=vF:=by rfl) (hpl:es.all notStar=vF:=by rfl)
  (ht:eval (.Call (.Attribute o m apos) (e::es) [] pos) X.env=(do
   let ov<-eval o X.env
   standAt apos.atName
   let(f,first)<-holding [ov] (getMethod ov m pl)
   callWith pos f first (xG pos (vV (e::es) X.env)) (xH pos (xS [] X.env))):=by rfl):QE X E0 (.Call (.Attribute o m apos) (e::es) [] pos) (Ey c m F ta tr):=
 (ZJj (pl:=pl) ho hc hm FF hr hb .nil hx ha (Dy e es X.env he) (Gn pos X.env es hpl) ht).mono λσ H Q h=>ZPN (sp:=F) hn h
theorem ZFk(hn:PySem.W.nsIn X.K xU c=vD (vD (.ref C)))(hc:Cls X.K C)(hm:Meth X.K C m g)(FF:FnOk X.prog X.w X.K X.mg X.base CX k g fd ps (lF X.K F))(hr:Room k X.A)(hb:Binds X.K fd ps [])
  (hx:Passes CX X E0) (ho:QE X E0 o ta)
  (ht:eval (.Call (.Attribute o m apos) [] [] pos) X.env=(do
   let ov<-eval o X.env
   standAt apos.atName
   let(f,first)<-holding [ov] (getMethod ov m pl)
   callWith pos f first (xG pos (vV [] X.env)) (xH pos (xS [] X.env))):=by rfl):QE X E0 (.Call (.Attribute o m apos) [] [] pos) (Ey c m F ta Ac):=
 (ZMS (pl:=pl) ho hc hm FF hr hb .nil hx ht).mono λσ H Q h=>by
  obtain⟨a,S,G,hk,rfl,s,r,h⟩:=h;refine⟨a,S,G,hk,rfl,s,r,(Dq h).imp ?_⟩;rintro v _ ⟨b,d,G1,rfl,x,s1,q,-,h1⟩;split at h1
  ·rename_i fs hi;obtain⟨i,C',dx,us,rfl,_,rfl,_,n',e1,r1⟩:=s1.ins q hi;have hCC:C'=C:=by
    rw[x.k,hk,hn]at n';cases n'
    rfl
   subst hCC;split at h1
   ·rename_i hm;exact⟨b.m i,dx,us,rfl,e1,r1.Wc hm,b,G1,[.ref i],x.k.trans hk,rfl,s1,⟨.ref (b.m i),[],rfl,q,rfl⟩,h1⟩
   ·exact h1.elim
  ·exact h1.elim
theorem ZPh(hk:a.K=X.K)(hn:PySem.W.nsIn X.K xU c=vD (vD (.ref C)))(s:Sim a G)(q:Reps a ds vs)
  (h:out E0 a ((F (.ref G.length::ds) (G++[.ins c []])).bind λv G2=>match v with
   |.non=>.ok (.ref G.length) G2
   |_=>.bad) Q):∀x dx,a.H x=vE->a.H dx=vE->dx≠x->lF X.K F (.ref x::(vs++[])) (upd (upd a.H dx (.own x)) x (.ins C dx [])) (λv H2=>v=.non/\Q (.ref x) H2) E:=λp dx hp hdx hne=>by
 have x1:Ext a (a.put dx (.own p)):=Ext.put hdx;have s1:Sim (a.put dx (.own p)) G:=s.put hdx;have hp1:(a.put dx (.own p)).H p=vE:=by show upd a.H dx (.own p) p=vE;rw[Am λz=>hne z.symm];exact hp
 have x2:Ext (a.put dx (.own p)) ((a.put dx (.own p)).push p (.ins C dx [])):=Ext.push hp1;have s2:Sim ((a.put dx (.own p)).push p (.ins C dx [])) (G++[.ins c []]):=s1.push hp1 ⟨C,dx,[],by show PySem.W.nsIn a.K xU c=_;rw[hk];exact hn,rfl,rfl,rfl⟩;have hgl:G.length=a.n:=s.len;have mnew:((a.put dx (.own p)).push p (.ins C dx [])).m a.n=p:=by show(if a.n=a.n then p else a.m a.n)=p;rw[if_pos rfl]
 have rp:Rep ((a.put dx (.own p)).push p (.ins C dx [])) (.ref G.length) (.ref p):=by rw[hgl];exact⟨qY _,by rw[mnew]⟩
 refine⟨(a.put dx (.own p)).push p (.ins C dx []),_,.ref G.length::ds,hk,rfl,s2,⟨.ref p,vs,by rw[qj],rp,(q.mono x1).mono x2⟩,(Dq (out.mono (x1.trans x2) h)).imp ?_⟩;rintro v _ ⟨b,d,G1,rfl,x3,s3,q3,-,h3⟩;split at h3
 ·have:v=.non:=q3;exact⟨this,h3 b _ (Ext.refl b) s3 (rp.mono x3)⟩
 ·exact h3.elim
theorem ZOC{CX:CXT}{k:Nat}{g:xY}{fd:xj}{ps:List Str}{F:List D->DH->R D}{p:Pos}(hn:PySem.W.nsIn X.K xU c=vD (vD (.ref C)))(M:Mk X.K C g)(FF:FnOk X.prog X.w X.K X.mg X.base CX k g fd ps (lF X.K F))(hr:Room (k+1) X.A)(hg:Gl X c)(hm:X.mg c=vD (.ref C))(hb:Binds X.K fd ps [])
  (hx:Passes CX X E0) (ha:QA X E0 (e::es) tr) (hdb:(c==("__debug__":Str))=vG:=by decide) (he:notStar e=vF:=by rfl) (hpl:es.all notStar=vF:=by rfl):QE X E0 (.Call (.Name c p) (e::es) [] pos) (Pg c F tr):=
 (ZMy M FF hr hg hm hb .nil hx ha hdb (Dy e es X.env he) (Gn pos X.env es hpl)).mono λσ H Q h=>by obtain⟨a,S,G,hk,rfl,s,r,h⟩:=h;refine⟨a,S,G,hk,rfl,s,r,(Jx h).imp ?_⟩;rintro vs _ ⟨b,ds,G1,rfl,x,s1,q,-,h1⟩;exact ZPh (x.k.trans hk) hn s1 q h1
end
def Lb(d:D)(ds:List D)(G:DH):R D:=match ds with
 | [.int k]=>match Fi d G with
  |some xs=>match Fd xs with
   |some ns=>if k∈ns/\ns.length<=1000000 then .ok (.int (ns.idxOf k)) G else .bad
   |none=>.bad
  |none=>.bad
 |_=>.bad
theorem ZHb:∀{ns:List Int}{vs:List V},Reps a (ns.map D.int) vs->vs=ns.map V.int
 |[],vs,h=>h
 |n::ns,vs,h=>by
  obtain⟨v,r,e,h1,h2⟩:=h
  cases(show v=V.int n from h1)
  rw[e,ZHb h2]
  rfl
theorem Np:∀{ns:List Int}{us:List xC},Vals (ns.map V.int) us->us.length=ns.length/\∀(j:Nat)(u:xC),us[j]?=vD u->∃t,∃h:j<ns.length,u=.int ns[j] t
 |[],us,h=>by cases h;exact⟨rfl,λj u e=>by simp at e⟩
 | n::ns,us,h=>by
  cases h with
  | cons r rr=>
   obtain⟨h1,h2⟩:=Np rr;obtain⟨t,rfl⟩:=r;refine⟨by simp[h1],λj u e=>?_⟩;cases j with
   |zero=>simp at e;exact⟨t,by simp,by simpa using e.symm⟩
   |succ j=>
    obtain⟨t',hj,e'⟩:=h2 j u (by simpa using e);exact⟨t',by simpa using hj,by simpa using e'⟩
section
variable{X:Cx}{E:XK}
theorem ZMV:MtM X "list.index" (lRm X.K E Lb):=by
 intro vC s σ H x xs v us Q I rx rxs h;obtain⟨a,G,d,ds,hk,rfl,sm,rd,rds,q⟩:=h;unfold Lb at q;split at q
 ·rename_i k;split at q
  ·rename_i ys hy;split at q
   ·rename_i ns hns;split at q
    ·rename_i hk';obtain⟨hmem,hlen⟩:=hk';obtain⟨p,vs,rfl,hq,rv⟩:=Oo sm rd hy;rw[R0 hns]at rv;rw[ZHb rv,hk]at hq;cases rx;obtain⟨v1,rfl,rv1⟩:=reps1 rds
     cases(show v1=V.int k from rv1)
     obtain⟨u,rfl,ru⟩:=rxs.one;obtain⟨t,rfl⟩:=ru;obtain⟨its,rits,⟨o,n,ho,hc,hdi,hd⟩,hz⟩:=I.list hq;obtain⟨hl1,hl2⟩:=Np rits;have hlt:ns.idxOf k<ns.length:=j5 hmem;have hjs:ns.idxOf k<its.toArray.size:=by simpa[hl1]using hlt
     have hob:o={cls:=.type "list",dict:=o.dict,data:=.seq its.toArray n,slots:=o.slots}:=by
      obtain⟨c1,c2,c3,c4⟩:=o;simp only at hc hd;subst hc;subst hd
      rfl
     rw[hob]at ho
     refine call_meets PySem.F.slot_list_index ⟨_,ho,rfl⟩ PySem.F.entry_list_index (PySem.F.args_list_index_2 _ _) (SeqAt.list_indexAt p its.toArray n o.dict o.slots (.int k t) (λy=>match y with | .int i _=>i==k|_=>vG) (ns.idxOf k) hjs (by lia) ?_ ?_) ⟨ho,λy hy=>?_,?_⟩
     ·have hg:its[ns.idxOf k]?=vD its.toArray[ns.idxOf k]:=by simp[zZ (by simpa[hl1]using hlt:ns.idxOf k<its.length)]
      obtain⟨t',h3,e3⟩:=hl2 _ _ hg;rw[e3];simp
     ·intro m hm hlt2;have hml:m<its.length:=by simpa using hm
      have hg:its[m]?=vD its.toArray[m]:=by simp[zZ hml]
      obtain⟨t',h3,e3⟩:=hl2 _ _ hg;rw[e3];have:=List.not_of_lt_findIdx (p:=λx=>x==k) (xs:=ns) hlt2;simpa using this
     ·have hy2:y∈its:=by simpa using hy
      obtain⟨m,hm,e⟩:=qy hy2;obtain⟨t',h3,e3⟩:=hl2 m y (by rw[zZ hm,e]);rw[e3];exact SeqAt.EqAt.int_int _ _ _ _
     ·exact⟨.int (ns.idxOf k),a.H,I.tok _,⟨_,rfl⟩,q a _ (Ext.refl a) sm rfl⟩
    ·exact q.elim
   ·exact q.elim
  ·exact q.elim
 ·exact q.elim
def tLR(ta:TA):TE:=λσ H Q=>ta σ H λvs H1=>∃j:Int,vs=[.int j]/\ -(2^62)<=j/\j<=1000000/\∀l,H1 l=vE->Q (.ref l) (upd H1 l (.lst ((zV j.toNat).map λ(i:Nat)=>V.int (i:Int))))
theorem ZJc(h:ItemsOf (λi v=>∃t,v=.int ((0:Int)+i*1) t) acc n):Vals ((zV n).map λ(i:Nat)=>V.int (i:Int)) acc.toList:=by
 obtain⟨h1,h2⟩:=h;refine X8 (by simp[h1]) λi v u hv hu=>?_
 have hi:i<n:=by have:=(zG.mp hv).1;simpa using this
 rw[zw,zN hi]at hv;have ev:v=V.int (i:Int):=by simpa using hv.symm
 obtain⟨t,e⟩:=h2 i u (by rw[<-jQ];exact hu);subst ev;refine⟨t,?_⟩;rw[e]
 congr 1
 lia
theorem ZQy{e:xz}{ta:TA}{p p' pos pos':Pos}(hc:X.calm=vF)(hg:Gl X "list")(hm:X.mg "list"=vE)(hg2:Gl X "range")(hm2:X.mg "range"=vE)(ha:PA X [e] ta)(hs:vV [e] X.env=[(vG,eval e X.env)]:=by rfl)
  (hs2:vV [.Call (.Name "range" p') [e] [] pos'] X.env=[(vG,eval (.Call (.Name "range" p') [e] [] pos') X.env)]:=by rfl):PE X (.Call (.Name "list" p) [.Call (.Name "range" p') [e] [] pos'] [] pos) (tLR ta):=by
 intro vC s σ H Q I h;refine Call_ (Gj I hg hm ZIM (PyProof.Rows.callWith_type1 ?_ hs2 rfl));rw[hs2];refine Calls.spliced_cons (Call_ (Gj I hg2 hm2 PyProof.Rows.boot_range (PyProof.Rows.callWith_type1 (thn (ha pos' vC s σ H _ I h) λus s1 ⟨vs,H1,I1,r1,q1⟩=>?_) hs rfl)));obtain⟨j,rfl,b1,b2,q⟩:=q1;obtain⟨u,rfl,ru⟩:=r1.one;obtain⟨t,rfl⟩:=ru;refine call_range_1 (Calls.spliced_nil ?_)
 have hsz:Builtin.Range.rangeSize 0 j 1=(j.toNat:Int):=by rw[rangeSize_one];split <;> lia
 refine call_list_range (I.ok.hd hc) (IsRange.new ..) (small_one (by decide) (by decide) b1 (by lia)) hsz (by lia) λh' tk acc' c' hk hS' hacc=>?_
 have I2:=I1.kept (t':=s1.toks+1+1) (h':=s1.heap.push {cls:=.type "range",data:=.fields #[.int 0 s1.toks,.int j t,.int 1 (s1.toks+1)]}) λb o e=>zQ _ e
 refine⟨.ref _,_,I2.laid (o:=.lst ((zV j.toNat).map λ(i:Nat)=>V.int (i:Int))) (t':=tk) hk (zY _) ⟨?_,acc'.toList,c',ZJc hacc,by simpa using hS'⟩,rfl,q _ (I2.hok.fresh (zY _))⟩;rw[qW,List.length_range,vJ];lia
def dLR(t:DA):DE:=λS G=>(t S G).bind λds G1=>match ds with
 |[.int j]=>if inR j/\j<=1000000 then .ok (.ref G1.length) (G1++[.lst (Bk 0 j.toNat)])else .bad
 |_=>.bad
theorem ZQ3{e:xz}{ta:DA}{p p' pos pos':Pos}(hc:X.calm=vF)(hg:Gl X "list")(hm:X.mg "list"=vE)(hg2:Gl X "range")(hm2:X.mg "range"=vE)(ha:QA X E [e] ta)(hs:vV [e] X.env=[(vG,eval e X.env)]:=by rfl)
  (hs2:vV [.Call (.Name "range" p') [e] [] pos'] X.env=[(vG,eval (.Call (.Name "range" p') [e] [] pos') X.env)]:=by rfl):QE X E (.Call (.Name "list" p) [.Call (.Name "range" p') [e] [] pos'] [] pos) (dLR ta):=
 (ZQy hc hg hm hg2 hm2 ha hs hs2).mono λσ H Q h=>by
  obtain⟨a,S,G,hk,rfl,s,r,h⟩:=h;refine⟨a,S,G,hk,rfl,s,r,(Jx h).imp ?_⟩;rintro vs _ ⟨b,ds,G1,rfl,x,s1,q,-,h1⟩;split at h1
  ·rename_i j;split at h1
   ·rename_i hj;obtain⟨v,rfl,rv⟩:=reps1 q
    cases(show v=V.int j from rv)
    refine⟨j,rfl,hj.1.1,hj.2,λl hl=>Jh s1 ?_ h1 l hl⟩;unfold Bk;generalize zV j.toNat=L
    induction L with
    |nil=>exact rfl
    |cons k L ih=>exact⟨_,_,rfl,(by show V.int (k:Int)=V.int (0+(k:Int));rw[Int.zero_add]),ih⟩
   ·exact h1.elim
  ·exact h1.elim
noncomputable def Itd(lo:Int)(n:Nat):It:=⟨λi _=>i<n,λi H x H'=>H'=H/\x=.int (lo-i),λi _=>n<=i⟩
theorem ZNY{P:xy}{w:xD}{K:PySem.W.Frag}{tg:xz}(it:xY)(lo:Int)(n:Nat):Turn P w K tg (Itd lo n) [it] it (λi h=>IsRangeIter h it (lo+(i:Nat)*(-1)) ((n:Int)-(i:Nat)) (-1)) where
 mem:=by simp
 obj:=λi h st b hb=>by
  have e:b=it:=by simpa using hb
  subst e;exact⟨_,st,λv z=>by have z':Data.fields _=Data.cell v:=z;cases z'⟩
 keep:=λi h h' st k=>k it (by simp) _ st
 item:=by
  intro X hP hw hK hc i vC s σ H E I hf st hg;subst hP hw hK;obtain⟨f0,f1,f2,f3,f4,f5⟩:=hf it (by simp);have W:=Walks.range (prog:=X.prog) (w:=X.w) (I.ok.hd hc) it lo (-1) n;refine W.item i s _ _ hg st λv h' tk hv st' kk=>?_
  obtain⟨t,rfl⟩:=hv;have I1:Inv X vC σ H {s with heap:=h',toks:=tk}:=I.turned (λb o hb e=>kk b o (by simpa using hb) e) f0 f1 f3 f4 f5;refine⟨_,rfl,Ly (s:={s with heap:=h',toks:=tk}) (n:="range_iterator") st' rfl rfl (by decide) ⟨.int (lo-i),H,I1,⟨t,?_⟩,⟨rfl,rfl⟩,st',λb hb=>(hf b hb).1⟩⟩
  congr 1
  lia
 done:=by intro X hP hw hK hc i vC s σ H E I hf st hg;subst hP hw hK;obtain⟨f0,f1,f2,f3,f4,f5⟩:=hf it (by simp);exact wpAny_pyNext_range_end (I.ok.hd hc) st (by have:n<=i:=hg;lia) λh' eb=>⟨rfl,I.turned (t':=s.toks) (λb o hb e=>eb b o hb e) f0 f1 f3 f4 f5⟩
 self:=λ_ _ _ _ _ st h=>wpAny_pyIter_rangeiter st h
theorem rangeSize_down(a b:Int):Builtin.Range.rangeSize a b (-1)=if b<a then a-b else 0:=by
 unfold Builtin.Range.rangeSize;rw[if_neg (by decide)];have e:(- (-1:Int))=1:=by decide
 rw[e,Int.ediv_one]
 split <;> lia
theorem small_down(ha: -(2^62)<=a)(ha':a<2^62)(hb: -(2^62)<=b)(hb':b<2^62):Builtin.Range.small a b (-1)=vF:=by
 unfold Builtin.Range.small;rw[rangeSize_down];simp only[Builtin.Range.rangeFitsLong,z0,j1,decide_eq_true_eq,beq_iff_eq,show¬((-1:Int)>0) by decide,if_false]
 split <;> lia
def iDn(ta:TA):TI:=λσ H R=>ta σ H λvs H1=>∃i j:Int,vs=[.int i,.int j,.int (-1)]/\(-(2^62)<=i/\i<2^62/\ -(2^62)<=j/\j<2^62)/\R (Itd i (i-j).toNat) H1
theorem ZQj{tg a b c:xz}{ta:TA}{p pos:Pos}(hg:Gl X "range")(hm:X.mg "range"=vE)(ha:PA X [a,b,c] ta)(hs:vV [a,b,c] X.env=(vG,eval a X.env)::vV [b,c] X.env:=by rfl)(hs2:(xG pos (vV [b,c] X.env)).any (·.1)=vG:=by rfl):
  PI X tg (.Call (.Name "range" p) [a,b,c] [] pos) (iDn ta):=by
 intro vC s σ H R I h;refine Call_ (Gj I hg hm PyProof.Rows.boot_range (PyProof.Rows.callWith_type1 (thn (ha pos vC s σ H _ I h) λus s1 ⟨vs,H1,I1,r1,q1⟩=>?_) hs hs2));obtain⟨i,j,e,⟨q1,q2,q3,q4⟩,q⟩:=q1;subst e;cases r1 with
 | cons r rr=>
  cases rr with
  | cons r' rr=>
   cases rr with
   | cons r'' rr=>
    cases rr;obtain⟨t,rfl⟩:=r;obtain⟨t',rfl⟩:=r';obtain⟨t'',rfl⟩:=r'';refine call_range_3 (by decide) ?_ (.inl (PyProof.noPylong_small (by lia)));refine wpAny_pyIter_range (IsRange.new ..) (small_down q1 q2 q3 q4) ?_;have I2:Inv X vC σ H1 {s1 with heap:=s1.heap.push {cls:=.type "range",data:=.fields #[.int i t,.int j t',.int (-1) t'']},toks:=s1.toks}:=I1.kept λb o e=>zQ _ e
    refine⟨(s1.heap.push {cls:=.type "range",data:=.fields #[.int i t,.int j t',.int (-1) t'']}).objs.size,[(s1.heap.push {cls:=.type "range",data:=.fields #[.int i t,.int j t',.int (-1) t'']}).objs.size],_,_,H1,rfl,
     I2.kept (t':=s1.toks) λb o e=>zQ _ e,ZNY _ i (i-j).toNat,?_,λb hb=>?_,q⟩
    ·have e1:i+((0:Nat):Int)*(-1)=i:=by simp
     have e2:(((i-j).toNat:Nat):Int)-((0:Nat):Int)=Builtin.Range.rangeSize i j (-1):=by rw[rangeSize_down];split <;> lia
     show IsRangeIter _ _ (i+((0:Nat):Int)*(-1)) ((((i-j).toNat:Nat):Int)-((0:Nat):Int)) (-1);rw[e1,e2];exact zy _ rfl
    ·have e:b=(s1.heap.push {cls:=.type "range",data:=.fields #[.int i t,.int j t',.int (-1) t'']}).objs.size:=by simpa using hb
     subst e;exact I2.Ha (zY _) (I2.hok.fresh (zY _))
noncomputable def Hx(lo:Int)(n:Nat):List D:=(zV n).map λ(k:Nat)=>D.int (lo-(k:Int))
def rng3(ds:List D)(G:DH):R ItD:=match ds with
 |[.int i,.int j,.int k]=>if inR i/\inR j/\k= -1 then .ok (.pure (Hx i (i-j).toNat)) G else .bad
 |_=>.bad
theorem ZQm(lo:Int)(n:Nat):RepI a (.pure (Hx lo n)) (Itd lo n):=by
 refine⟨(zV n).map λ(k:Nat)=>V.int (lo-(k:Int)),?_,λb x i=>⟨λv hv=>?_,λhl=>?_⟩⟩
 ·unfold Hx;generalize zV n=l
  induction l with
  |nil=>exact rfl
  |cons k l ih=>exact⟨_,_,rfl,rfl,ih⟩
 ·rw[zw]at hv;by_cases hi:i<n
  ·rw[zN hi]at hv;have hv':V.int (lo-(i:Int))=v:=by simpa using hv
   exact⟨hi,λw H' y=>⟨y.2.trans hv',y.1⟩⟩
  ·rw[zA (by simpa using hi)]at hv;cases hv
 ·show n<=i;simpa using hl
theorem ZJM{tg e e' e'':xz}{ta:DA}{p pos:Pos}(hg:Gl X "range")(hm:X.mg "range"=vE)(ha:QA X E [e,e',e''] ta)(hs:vV [e,e',e''] X.env=(vG,eval e X.env)::vV [e',e''] X.env:=by rfl)(hs2:(xG pos (vV [e',e''] X.env)).any (·.1)=vG:=by rfl):
  QI X E tg (.Call (.Name "range" p) [e,e',e''] [] pos) (Br rng3 ta):=
 (ZQj hg hm ha hs hs2).mono λσ H Q h=>by
  obtain⟨a,S,G,hk,rfl,s,r,h⟩:=h;refine⟨a,S,G,hk,rfl,s,r,(Nq h).imp ?_⟩;rintro vs _ ⟨b,ds,G1,rfl,x,s1,q,-,h1⟩;unfold rng3 at h1;split at h1
  ·rename_i i j k;split at h1
   ·rename_i hj;obtain⟨hi,hj,rfl⟩:=hj;obtain⟨v,r,e1,q1,v2,r2,e2,q2,v3,r3,e3,q3,q4⟩:=q
    cases(show v=V.int i from q1)
    cases(show v2=V.int j from q2)
    cases(show v3=V.int (-1)from q3)
    cases(show r3=[]from q4)
    subst e3;subst e2;exact⟨i,j,e1,⟨hi.1,hi.2,hj.1,hj.2⟩,h1 b _ (Ext.refl b) s1 (ZQm i (i-j).toNat)⟩
   ·exact h1.elim
  ·exact h1.elim
end
theorem ZLg(a b:xC):checkTypeCall "enumerate" ⟨[a],[("start",b)]⟩=pure ():=by kernel_rfl
theorem ZIb(a b:xC):xN "enumerate.__new__" ⟨[.type "enumerate",a],[("start",b)]⟩=pure ():=by kernel_rfl
theorem ZNl(o a b:xC):argsOk "object.__init__" ⟨[o,a],[("start",b)]⟩:=by
 unfold argsOk;rw[signature?_of (id:="object.__init__") (n:=['_','_','t','i','n','i','_','_']) (o:=['t','c','e','j','b','o']) (by kernel_rfl) PySem.F.owner_object]
 kernel_rfl
section
variable{prog:xy}{w:xD}{A:xq}{E:xC->xA->Prop}{s:xA}
theorem ZPn(hl:typeLookup (.type T) "__init__"=pure (vD (.builtin "object.__init__")))(hm:Bind.madeBy (.type T)=pure (vD newId))(hne:(vD newId != vD "object.__new__")=vF):
  Meets (Builtin.«object.__init__» ⟨[self,a],kw⟩) (λ_ R s=>s.TypeIs self T/\R (.ok (.ret .none)) s):=by
 refine Meets.of_wp λprog w A R s hs=>?_
 obtain⟨hT,hq⟩:=hs
 repeat (any_goals (first|assumption|wp_step))
 exact⟨_,rfl,hq⟩
theorem ZJO(ft:TypeCalled T newId initId)
  (hct:checkTypeCall T ⟨args,kw⟩=pure ()) (hcn:xN newId ⟨.type T::args,kw⟩=pure ())
  (entryN:entryFor table newId=vD Bn) (entryI:entryFor table initId=vD Bi) (g:Meets (Bn ⟨.type T::args,kw⟩) S) (h:S A.in1 (wants Q₁ E) s)
  (hnext:∀obj s₁,Q₁ obj s₁->s₁.TypeIs obj T/\argsOk initId ⟨obj::args,kw⟩/\∃Si,Meets (Bi ⟨obj::args,kw⟩) Si/\Si A.in1 (wants (λr s₂=>r=.none/\Q obj s₂) E) s₁):
  vK (vQ prog w) A (call (.type T) args kw) Q E s:=by
 obtain⟨c,tl,hmro⟩:=ft.mro;have hmade:=ft.made;have hsub:=ft.sub;refine wpAny_call (codeAny_of_tree ?_);show vK _ _ (callAny (.type T) _) _ _ _;refine v6 ⟨Code.quiet_builtin _ (by decide +kernel),codeAny_builtin PySem.F.entry_type_call ?_⟩;rw[Around.under_plain (weight_type_call_type T args kw) (units_type_call_type T args kw)];have h1:=ft.notType;have h2:=ft.canCreate
 repeat (any_goals (first|assumption|wp_step))
 refine xO (codeAny_call_builtin ft.plain entryN (wpAny_of_eq hcn (g prog w A.in1 _ s h))) λr s₁ hr=>?_
 cases r with
 |error e=>exact hr
 | ok fl=>
  cases fl with
  | ret obj=>
   obtain⟨hT,hok,Si,gi,hsi⟩:=hnext _ _ hr;have hli:=ft.init.lookup;have hbi:=ft.init.bind obj
   repeat (any_goals (first|assumption|wp_step))
   refine xO (codeAny_call_builtin ft.init.plain entryI (ft.init.check _ _ _ _ _ _ _ _ hT hok (gi prog w A.in1 _ s₁ hsi))) λr₂ s₂ hr₂=>?_
   cases r₂ with
   |error e=>exact hr₂
   | ok fl₂=>
    cases fl₂ with
    |ret r=>
     obtain⟨rfl,hq⟩:=hr₂
     repeat (any_goals (first|assumption|wp_step))
    |_=>exact hr₂.elim
  |_=>exact hr.elim
theorem ZQK{sr:Src}{xs:Array xC}{n:Int}{t:Tok}{Q:xC->xA->Prop}(hv:sr.val s.heap xs)
  (h:∀h' tk g,Gv n g->En h' (s.heap.objs.size+1) s.heap.objs.size .none n g .none->sr.it h' s.heap.objs.size 0->(∀b o,s.heap.get? b=vD o->h'.get? b=vD o)->Q (.ref (s.heap.objs.size+1)) {s with heap:=h',toks:=tk}):
  vK (vQ prog w) A (call (.type "enumerate") [.ref sr.adr] [("start",.int n t)]) Q E s:=by
 have g:Meets (Builtin.«enumerate.__new__» ⟨[.type "enumerate",.ref sr.adr],[("start",.int n t)]⟩) (λ_ R s=>sr.val s.heap xs/\∀g tk,Gv n g->
   R (.ok (.ret (.ref (s.heap.push {cls:=.type sr.itn,data:=.fields #[.ref sr.adr,.int 0 0]}).objs.size)))
    {s with heap:=(s.heap.push {cls:=.type sr.itn,data:=.fields #[.ref sr.adr,.int 0 0]}).push {cls:=.type "enumerate",data:=.fields #[.none,.bool vG,.ref s.heap.objs.size,vZ n,g,.none]},toks:=tk}):=
  .of_wp λprog w A R s h=>by
   obtain⟨hp,g,d,tk,os⟩:=s;obtain⟨hl,h⟩:=h;have hsub:=sub_enumerate;have hL:sr.val (Shared.heap ⟨hp,g,d,tk,os⟩) xs:=hl
   wp_walk
   refine wpAny_stack_any λst=>v6 ?_
   cases hf:Builtin.SmallTypes.fitsIndex n
   ·split
    ·rename_i c _ _ _ _ _
     cases(c==Value.type "enumerate")<;>(wp_walk using Src.iter hL;exact⟨_,rfl,h _ _ (.inr ⟨t,rfl⟩)⟩)
    ·wp_walk using Src.iter hL
     exact⟨_,rfl,h _ _ (.inr ⟨t,rfl⟩)⟩
   ·split
    ·rename_i c _ _ _ _ _
     cases(c==Value.type "enumerate")<;>(wp_walk using Src.iter hL;exact⟨_,rfl,h _ _ (.inl rfl)⟩)
    ·wp_walk using Src.iter hL
     exact⟨_,rfl,h _ _ (.inl rfl)⟩
 refine ZJO (Q₁:=λobj s₁=>s₁.TypeIs obj "enumerate"/\Q obj s₁) PySem.F.called_enumerate (ZLg _ _) (ZIb _ _) PySem.F.entry_enumerate_new PySem.F.entry_object_init g ⟨hv,λg tk hg=>?_⟩ λobj s₁ hq=>⟨hq.1,ZNl obj _ _,_,ZPn PySem.F.called_enumerate.init.lookup PySem.F.called_enumerate.made (by decide),hq.1,rfl,hq.2⟩
 have hz:(s.heap.push {cls:=.type sr.itn,data:=.fields #[.ref sr.adr,.int 0 0]}).objs.size=s.heap.objs.size+1:=q9 ..;show _/\_;rw[hz];have he:En ((s.heap.push {cls:=.type sr.itn,data:=.fields #[.ref sr.adr,.int 0 0]}).push {cls:=.type "enumerate",data:=.fields #[.none,.bool vG,.ref s.heap.objs.size,vZ n,g,.none]}) (s.heap.objs.size+1) s.heap.objs.size .none n g .none:=by
  have:=zy (s.heap.push {cls:=.type sr.itn,data:=.fields #[.ref sr.adr,.int 0 0]}) (o:={cls:=.type "enumerate",data:=.fields #[.none,.bool vG,.ref s.heap.objs.size,vZ n,g,.none]}) rfl;rw[hz]at this;exact this
 exact⟨⟨_,he,rfl⟩,h _ tk g hg he ⟨_,zQ _ (zy _ rfl),rfl,rfl⟩ λb o x=>zQ _ (zQ _ x)⟩
theorem ZKN{M:Model}{A:xq}{E:xC->xA->Prop}{s:xA}{env:Env}{pos:Pos}{T:String}{e:xz}{rest:List xz}{kws:List Keyword}{Q:xC->xA->Prop}
  (hall:(xH pos (xS kws env)).all (·.1.isSome)=vF)
  (h:vK M A (spliced (xG pos (vV (e::rest) env))) (λvs s₁=>vK M A (evalAll ((xH pos (xS kws env)).map (·.2)))
   (λks s₂=>vK M A (call (.type T) vs (((xH pos (xS kws env)).filterMap (·.1)).zip ks)) Q E s₂) E s₁) E s)
  (hplain:(xG pos (vV (e::rest) env)).any (·.1)=vG) (hkw:(xH pos (xS kws env)).any (·.1.isNone)=vG) (he:vV (e::rest) env=(vG,eval e env)::vV rest env):
  vK M A (callWith pos (.type T) [] (xG pos (vV (e::rest) env)) (xH pos (xS kws env))) Q E s:=by
 unfold callWith;refine vq (vv (vk (PyProof.Rows.evalArgs_kw2 (Q:=λa s₁=>vK M A (call (.type T) ([]++a.pos) a.kw) Q E s₁) hall h he) (λa s₁ h₁=>vq (wpAny_standAt ?_)) λ_ _ x=>x));simp only[hplain,hkw,Bool.or_false];refine vq (v6 ?_);exact vq (vk h₁ (λr s₂ hr=>vq (vv (wpAny_point (v6 hr)))) λ_ _ x=>x)
end
section
variable{X:Cx}{E:XK}
def ZJr(K:PySem.W.Frag)(ta tk:TA):TI:=λσ H R=>ta σ H λvs H1=>tk σ H1 λws H2=>∃sr xs n,vs=[.ref (Src.adr sr)]/\ws=[.int n]/\sr.sq K H2 xs/\R (Ite K sr n) H2
theorem ZLm{elts:List xz}{x1}{tp:Pos}{a b:xz}{ta tk:TA}{p pos kp:Pos}(hg:Gl X "enumerate")(hm:X.mg "enumerate"=vE)(ha:PA X [a] ta)(hk:PK X [⟨vD "start",b,kp⟩] tk)(hs:vV [a] X.env=[(vG,eval a X.env)]:=by rfl):
  PI X (.Tuple elts x1 tp) (.Call (.Name "enumerate" p) [a] [⟨vD "start",b,kp⟩] pos) (ZJr X.K ta tk):=by
 intro vC s σ H R I h;refine vY (Gj I hg hm PyProof.Rows.boot_enumerate (ZKN rfl (thn (ha pos vC s σ H _ I h) λus s1 ⟨vs,H1,I1,r1,q1⟩=>thn (hk pos vC s1 σ H1 _ I1 q1) λus2 s2 ⟨ws,H2,I2,r2,q2⟩=>?_) (by rw[hs];rfl) rfl hs));obtain⟨sr,xs,n,e,e2,hq,q⟩:=q2;subst e;subst e2;cases r1 with
 |cons r rr=>
  cases rr;cases r;obtain⟨u,rfl,ru⟩:=r2.one;obtain⟨t,rfl⟩:=ru;obtain⟨its,rv,hv,hz⟩:=Src.sq.val I2 hq;refine ZQK hv λh' tk g hg he hi kp=>?_
  refine ZBW he ?_;have I3:Inv X vC σ H2 {s2 with heap:=h',toks:=tk}:=I2.kept (t':=tk) kp;refine⟨s2.heap.objs.size+1,[s2.heap.objs.size+1,s2.heap.objs.size],_,_,H2,rfl,I3,ZGk sr n _ _ (Nat.succ_ne_self _),⟨g,.none,by simpa using he,by simpa using hg,hi⟩,λb hb=>?_,q⟩;have hb':b=s2.heap.objs.size+1∨b=s2.heap.objs.size:=by simpa using hb
  have hle:s2.heap.objs.size<=b:=by rcases hb' with rfl|rfl<;>lia
  exact I2.Ha hle (I2.hok.fresh hle)
theorem ZMr(hk:a.K=X.K)(rd:∀b:Wd,Ext a b->∀G',Sim b G'->∀ys,Bc d G'=vD ys->∃us,sr.sq b.K b.H us/\Reps b ys us)(n:Nat):RepI a (.fn n (Dh n0 d)) (Ite X.K sr n0):=by
 intro b x G' s' i;have kb:b.K=X.K:=x.k.trans hk;constructor
 ·intro e he;unfold Dh at he;split at he
  ·cases he
  ·rename_i ys hy;obtain⟨us,hq,ru⟩:=rd b x G' s' ys hy;rw[kb]at hq;cases hyi:ys[i]? with
   |none=>rw[hyi]at he;cases he
   |some y=>
    rw[hyi]at he;have he':D.tup [.int (n0+i),y]=e:=by simpa using he
    subst he';obtain⟨u,hu,rx⟩:=ru.get hyi;refine⟨⟨us,u,hq,hu⟩,?_⟩;rintro w H' ⟨p,u',rfl,hp,rfl,hu'⟩;refine⟨b.put p (.tup [.int (n0+i),u']),rfl,Ext.put hp,s'.put hp,p,_,rfl,.of Ei,?_⟩;have e1:=hu' us hq;rw[hu]at e1;cases e1;exact⟨_,_,rfl,rfl,Reps.cons (rx.mono (Ext.put hp)) rfl⟩
 ·intro he;unfold Dh at he;split at he
  ·cases he
  ·rename_i ys hy;obtain⟨us,hq,ru⟩:=rd b x G' s' ys hy;rw[kb]at hq;cases hyi:ys[i]? with
   |none=>exact⟨us,hq,by rw[<-ru.length];exact qU.mp hyi⟩
   |some y=>rw[hyi]at he;cases he
def Nj(ta:DA)(tb:DE):DI:=λS G=>(ta S G).bind λds G1=>(tb S G1).bind λk G2=>match ds,k with
 |[d],.int n=>match Bc d G2 with
  |some xs=>.ok (.fn xs.length (Dh n d)) G2
  |none=>.bad
 |_,_=>.bad
theorem ZLc(hb:QE X E b tb):PK X [⟨nm,b,kp⟩] (P0 (lE X.K E tb) Nz):=ZJ2 hb ZNM
theorem ZMn{E:XK}(h:outI E a (r.bind f) Q):
  out E a r (λv H=>∃(b:Wd)(d:D)(G:DH),b.H=H/\Ext a b/\Sim b G/\Rep b d v/\outI E b (f d G) Q):=by
 cases r with
 |ok d G=>exact λb v x s q=>⟨b,d,G,rfl,x,s,q,outI.mono x h⟩
 |err e G=>exact h
 |bad=>exact h
theorem ZNv{x1}(hg:Gl X "enumerate")(hm:X.mg "enumerate"=vE)(ha:QA X E [e] ta)(hb:QE X E b tb)(hs:vV [e] X.env=[(vG,eval e X.env)]:=by rfl):
  QI X E (.Tuple elts x1 tp) (.Call (.Name "enumerate" p) [e] [⟨vD "start",b,kp⟩] pos) (Nj ta tb):=(ZLm hg hm ha (ZLc hb) hs).mono λσ H Q h=>by
 obtain⟨a,S,G,hk,rfl,s,r,h⟩:=h;refine⟨a,S,G,hk,rfl,s,r,(Nq h).imp ?_⟩;rintro vs _ ⟨b,ds,G1,rfl,x,s1,q,-,h1⟩;refine⟨b,S,G1,x.k.trans hk,rfl,s1,r.mono x,(ZMn h1).imp ?_⟩;rintro v _ ⟨c,k,G2,rfl,y,s2,q2,h2⟩;split at h2
 ·rename_i d n;split at h2
  ·rename_i xs hx;obtain⟨w,r,e1,q1,q3⟩:=q
   cases(show r=[]from q3)
   subst e1
   cases(show v=V.int n from q2)
   obtain⟨sr,rfl,⟨us,hq⟩,rd⟩:=ZAJ s2 (q1.mono y) hx;have kb:c.K=X.K:=(y.k.trans x.k).trans hk;exact⟨sr,us,n,rfl,rfl,by rw[<-kb];exact hq,h2 c _ (Ext.refl c) s2 (ZMr kb rd _)⟩
  ·exact h2.elim
 ·exact h2.elim
end
end _D
namespace _D
open PySem PySem.Spec _L
def Hf(c f:Str)(d:D)(G:DH):R D:=match Hh c d G with
 |some fs=>match fs.lookup f with
  |some v=>.ok v G
  |none=>.bad
 |none=>.bad
def Mq(c f:Str)(o d:D)(S:DSt)(G:DH):SR:=match o with
 |.ref i=>match Hh c o G with
  |some fs=>if fs.length<1000 then .nx S (G.set i (.ins c (Fb f d fs)))else .bad
  |none=>.bad
 |_=>.bad
def Rj(c m:Str)(F:List D->DH->R D)(t:DA)(S:DSt)(o:D)(G:DH):R D:=match Hh c o G with
 |some fs=>match fs.lookup m with
  |none=>(t S G).bind λds G2=>F (o::ds) G2
  |some _=>.bad
 |none=>.bad
def ZBX(F:List D->DH->R D)(c:Str)(ds:List D)(G1:DH):R D:=(F (.ref G1.length::ds) (G1++[.ins c []])).bind λv G2=>match v with
 |.non=>.ok (.ref G1.length) G2
 |_=>.bad
section
variable{S:DSt}{G:DH}{c f m:Str}{t to tv:DE}{ta:DA}{F:List D->DH->R D}{i:Nat}{fs:List (Str×D)}{v d:D}
@[simp]theorem ev_fld:Di c t f S G=(t S G).bind λd G1=>Hf c f d G1:=id rfl
@[simp]theorem Kr:Eb c to tv f S G=(tv S G).toS λd G1=>(to S G1).toS λo G2=>Mq c f o d S G2:=id rfl
@[simp]theorem ZTI:Ey c m F to ta S G=(to S G).bind λo G1=>Rj c m F ta S o G1:=id rfl
@[simp]theorem ZTY:Pg c F ta S G=(ta S G).bind λds G1=>ZBX F c ds G1:=id rfl
theorem Yv(h:G[i]?=vD (.ins c fs)):Hh c (.ref i) G=vD fs:=by unfold Hh;simp only[h,if_true]
theorem Ke(h:G[i]?=vD (.ins c fs))(h2:fs.lookup f=vD v):Hf c f (.ref i) G=.ok v G:=by unfold Hf;rw[Yv h];simp only[h2]
theorem ZJy(h:G[i]?=vD (.ins c fs))(hl:fs.length<1000):Mq c f (.ref i) d S G=.nx S (G.set i (.ins c (Fb f d fs))):=by unfold Mq;simp only[Yv h,hl,if_true]
theorem ZJN(h:G[i]?=vD (.ins c fs))(h2:fs.lookup m=vE):Rj c m F ta S (.ref i) G=(ta S G).bind λds G2=>F (.ref i::ds) G2:=by unfold Rj;rw[Yv h];simp only[h2]
@[simp]theorem ev_LR:dLR ta S G=(ta S G).bind λds G1=>match ds with
 |[.int j]=>if inR j/\j<=1000000 then .ok (.ref G1.length) (G1++[.lst (Bk 0 j.toNat)])else .bad
 |_=>.bad:=id rfl
@[simp]theorem ZSY{i j:Int}(hi:inR i)(hj:inR j):rng3 [.int i,.int j,.int (-1)] G=.ok (.pure (Hx i (i-j).toNat)) G:=by simp[rng3,hi,hj]
theorem ZI5:Hx lo 0=[]:=rfl
theorem ZN1:Hx lo (n+1)=.int lo::Hx (lo-1) n:=by
 unfold Hx;rw[qT,zE,jx]
 congr 1
 ·simp
 ·refine qE λk _=>?_
  simp only[Function.comp]
  congr 1
  lia
theorem ZLL{d:D}{ns:List Int}{k:Int}(h:Fi d G=vD (ns.map D.int))(hm:k∈ns)(hl:ns.length<=1000000):Lb d [.int k] G=.ok (.int (ns.idxOf k)) G:=by unfold Lb;simp only[h,ZAm,hm,hl,and_self,if_true]
theorem ZJF{d:D}{G G':DH}(hl:G'.length=G.length)(hb:bel G.length d=vF):tidy G (.ok d G')=.ok d G':=by
 unfold tidy;simp only[hb,if_true];split
 ·rename_i h;rw[List.take_of_length_le (by lia)]at h;rw[h]
 ·rfl
theorem ZNH{d:D}{G G':DH}(h:G'.take G.length≠G):tidy G (.ok d G')=.ok d G':=by unfold tidy;simp only[h,if_false]
end
end _D
namespace _D
open PySem PySem.Spec _L
open PyProof.Rows hiding St
def Jz(x:Str)(n:Int):Str:=if n<1 then Str.empty else if(n==1||x.length==0)=vF then x else⟨(zX n.toNat x.cps).foldl (·++·) #[]⟩
theorem Z6:∀(n:Nat)(b:Array Nat),((zX n a).foldl (·++·) b).toList=b.toList++(zX n a.toList).flatten
 |0,b=>by simp
 |n+1,b=>by rw[qX,xQ,Z6 n (b++a),qX,qH];simp
theorem ZPD{a:Array Nat}(n:Nat):((zX n a).foldl (·++·) #[]).size=n*a.size:=by rw[<-qD,Z6];simp
theorem ZNw:(Jz x n).cps.toList=(zX n.toNat x.cps.toList).flatten:=by
 unfold Jz;split
 ·rename_i h;have e:n.toNat=0:=by lia
  rw[e];rfl
 ·rename_i h;split
  ·rename_i hx;rw[j1,beq_iff_eq,beq_iff_eq]at hx;rcases hx with rfl|hx
   ·simp
   ·have e:x.cps.toList=[]:=by have:x.cps.size=0:=hx;rw[<-qD]at this;exact jX this
    rw[e];simp
  ·show((zX n.toNat x.cps).foldl (·++·) #[]).toList=_
   rw[Z6];simp
def Ax:D->D->DH->R D
 |.int i,.int j,G=>if MulB i j then .ok (.int (i*j)) G else .bad
 |.str x,.int n,G=>if -1000<=n/\n<=1000/\x.length<=1000 then .ok (.str (Jz x n)) G else .bad
 |_,_,_=>.bad
section
variable{X:Cx}{E:XK}
theorem ZLa:OpR X (xL .Mult) (λx y H Q=>∃i n,x=.str i/\y=.int n/\(-1000<=n/\n<=1000/\i.length<=1000)/\Q (.str (Jz i n)) H):=by
 intro vC s σ H x y v u Q I rx ry h;obtain⟨i,n,rfl,rfl,⟨h1,h2,h3⟩,q⟩:=h;obtain⟨t,rfl⟩:=rx;obtain⟨t',rfl⟩:=ry;have hlen:∀m:Nat,m<=1000->i.length*m<=1000000:=λm hm=>z5 (Nat.mul_le_mul h3 hm) (by decide)
 refine P.mul_str ?_ (λhn hx=>?_) (λhn hx=>?_) ?_
 ·rw[decide_eq_false (by lia),decide_eq_false (by lia)];rfl
 ·intro hgt;have hm:0<n:=by lia
  have:(i.length:Int)*n<=2^63-1:=by have h4:(i.length:Int)*n<=1000*1000:=Int.mul_le_mul (by lia) h2 (by lia) (by lia);lia
  have h5:=(Int.le_ediv_iff_mul_le hm).mpr this;lia
 ·have:=hlen n.toNat (by lia);unfold Builtin.Str.tooLong;rw[vJ];exact decide_eq_false (by lia)
 ·unfold Jz at q;split
  ·rename_i hn;rw[if_pos hn]at q;exact⟨by decide,.str Str.empty,H,I.tok _,⟨_,rfl⟩,q⟩
  ·rename_i hn;rw[if_neg hn]at q;split
   ·rename_i hx;rw[if_pos hx]at q;exact⟨.str i,H,I,⟨t,rfl⟩,q⟩
   ·rename_i hx;rw[if_neg hx]at q;refine⟨?_,.str _,H,I.tok _,⟨_,rfl⟩,q⟩
    show((zX n.toNat i.cps).foldl (·++·) #[]).size<=sizeLine
    have h6:i.cps.size<=1000:=h3;have h7:=Nat.mul_le_mul (show n.toNat<=1000 by lia) h6;rw[ZPD,vJ];lia
theorem ZL3:OpR X (xL .Mult) (lR2 X.K E Ax):=Fq (ZIx.or ZLa) λa G d e x y Q hk s rd re q=>by
 cases d<;>cases e<;>first
  |exact q.elim
  | (
    rename_i i j;unfold Ax at q;dsimp only at q;split at q
    ·first
     |exact .inl ⟨_,_,rd,re,by assumption,q a _ (Ext.refl a) s rfl⟩
     |exact .inr ⟨_,_,rd,re,by assumption,q a _ (Ext.refl a) s rfl⟩
    ·exact q.elim)
end
section
variable{i j:Int}{G:DH}
theorem Hv(h1: -(2^64)<i)(h2:i<2^64):Ax (.int i) (.int j) G=.ok (.int (i*j)) G:=if_pos (.inl (.inl ⟨h1,h2⟩))
theorem Jg(h1: -(2^64)<j)(h2:j<2^64):Ax (.int i) (.int j) G=.ok (.int (i*j)) G:=if_pos (.inl (.inr ⟨h1,h2⟩))
@[simp]theorem ZSo(h:n<18446744073709551616):Ax (.int (no_index (OfNat.ofNat n))) (.int j) G=.ok (.int (OfNat.ofNat n*j)) G:=
 Hv (by have:(0:Int)<=(OfNat.ofNat n:Int):=Int.natCast_nonneg n;lia) (by have:(OfNat.ofNat n:Int)<18446744073709551616:=Int.ofNat_lt.mpr h;lia)
@[simp]theorem ZS9(h:n<18446744073709551616):Ax (.int i) (.int (no_index (OfNat.ofNat n))) G=.ok (.int (i*OfNat.ofNat n)) G:=
 Jg (by have:(0:Int)<=(OfNat.ofNat n:Int):=Int.natCast_nonneg n;lia) (by have:(OfNat.ofNat n:Int)<18446744073709551616:=Int.ofNat_lt.mpr h;lia)
theorem ZP0(h: -1000<=n/\n<=1000/\x.length<=1000):Ax (.str x) (.int n) G=.ok (.str (Jz x n)) G:=if_pos h
end
section
variable{X:Cx}{E:XK}{e st:xz}{te:TE}{ts:TO}{p2 pos:Pos}
end
section
variable{S:DSt}{G:DH}
end
section
variable{X:Cx}{E:XK}
end
section
variable{S:DSt}{G:DH}
end
section
variable{X:Cx}{vC:List (xY×Obj)}{σ:St}{H:Hp}{s:xA}{N:List Str}{scope:x0}{caps:List Nat}{x qual:Str}{f:xY}{cd:xC}{A:xq}
end
section
variable{X:Cx}{vC:List (xY×Obj)}{σ:St}{s:xA}{scope:x0}{a:Wd}
end
noncomputable def ltK(ks:List Int)(i j:Nat):Bool:=decide (ks.getD i 0<ks.getD j 0)
section
variable{prog:xy}{w:xD}{A:xq}{E:xC->xA->Prop}{s:xA}
end
section
variable{X:Cx}{vC:List (xY×Obj)}{σ:St}{H:Hp}{s:xA}{h':Heap}{m:Str->Option xC}
end
section
variable{X:Cx}{vC:List (xY×Obj)}{σ:St}{N:List Str}{scope:x0}{caps:List Nat}{x:Str}{f:xY}{A:xq}{a:Wd}{S:DSt}{body:xz}{te:DE}{params:Arguments}{pm ctv:xC}{c':xY}{ob oc:Obj}{vs0:Array xC}{t0:Tok}{E:XK}
 {Dd kS:xY} {e1:Nat} {m:Str->Option xC} {h₀:Heap} {Q:VK}
end
end _D
namespace _D
open PySem PySem.Spec _L
open PyProof.Rows hiding St
open PySem.W (KatKeys KatFin katRev KatBack)
section
variable{prog:xy}{w:xD}{A:xq}{E:xC->xA->Prop}{s:xA}{h₀:Heap}{L a kS:xY}{m:Str->Option xC}{P:PySem.Fin->xA->Prop}
end
end _D
namespace _D
open PySem PySem.Spec _L
open PyProof.Rows hiding St
section
variable{X:Cx}{vC:List (xY×Obj)}{σ:St}{N:List Str}{scope:x0}{caps:List Nat}{x:Str}{f:xY}{A:xq}{a:Wd}{S:DSt}{body:xz}{te:DE}{params:Arguments}{pm ctv:xC}{c':xY}{ob oc:Obj}{vs0:Array xC}{t0:Tok}
 {Dd kS:xY} {e1:Nat} {m:Str->Option xC} {h₀:Heap} {Q:VK}
end
section
variable{X:Cx}{vC:List (xY×Obj)}{σ:St}{N:List Str}{scope:x0}{caps:List Nat}{x:Str}{f:xY}{A:xq}{a:Wd}{S:DSt}{body:xz}{te:DE}{params:Arguments}{pm ctv:xC}{c':xY}{ob oc:Obj}{vs0:Array xC}{t0:Tok}{Q:VK}
end
section
variable{X:Cx}{N:List Str}{scope:x0}{caps:List Nat}{x:Str}{body:xz}{te:DE}{params:Arguments}{e:xz}{tn:DA}{p p' pos pos' lp kp kp' cp:Pos}{C m:Str}{cj:Nat}
end
end _D
namespace _D
open PySem PySem.W _L
theorem ZCd:∀{l:List Obj}{n:Nat},(Lg l n).lookup a=vD o->n<=a/\l[a-n]?=vD o/\∀x y z,o≠⟨x,y,.freed,z⟩
 |[],n,h=>by cases h
 | p::r,n,h=>by
  have next:(Lg r (n+1)).lookup a=vD o->n<=a/\(p::r)[a-n]?=vD o/\∀x y z,o≠⟨x,y,.freed,z⟩:=λh=>by obtain⟨h1,h2,h3⟩:=ZCd h;obtain⟨k,rfl⟩:=Nat.exists_eq_add_of_le h1;rw[Nat.add_sub_cancel_left]at h2;refine⟨z5 (jz n) h1,?_,h3⟩;rw[show n+1+k-n=k+1 by rw[Nat.add_assoc,Nat.add_sub_cancel_left,Nat.add_comm],jy];exact h2
  unfold Lg at h;split at h
  ·exact next h
  ·exact next h
  ·rename_i hz hf;rw[jY]at h;split at h
   ·rename_i e;have e':a=n:=by simpa using e
    subst e';cases h;refine⟨zY _,by simp,λx y z q=>?_⟩;subst q;exact hz rfl
   ·exact next h
theorem ZQW(h:Heap):(Oa h).In h:=λa o e=>by
 obtain⟨_,h2,h3⟩:=ZCd e;have h4:h.objs[a]?=vD o:=by simpa using h2
 unfold Heap.get?;rw[h4];split
 ·rename_i q;cases q;exact absurd rfl (h3 _ _ _)
 ·rfl
noncomputable def Hl(p:xy)(N:Nat)(w:xD):Heap:=match openEnds vW p w N with
 |some s=>s.heap
 |none=>default
def Stays(p:xy)(N:Nat)(w:xD)(h:Heap):Prop:=∀b o,(Hl p N w).get? b=vD o->h.get? b=vD o
theorem Stays.in(x:Stays p N w h):(Oa (Hl p N w)).In h:=λa o e=>x a o (ZQW _ a o e)
def Ux(p:xy)(N:Nat):Hook:=
 ⟨Heap,λs=>s.heap,Hl p N,Stays p N,λw s e b o q=>by rw[show s.heap=Hl p N w from e];exact q,λw h h' x k b o q=>k b o (x b o q)⟩
section
variable{p q:xy}{loose:List Str}{Xt:xA->Bool}{N:Nat}{β:Type}{see:Heap->β}{val:β}
theorem ZIs(E:∀w,(openEnds vW p w N).map (λs=>(openSeen q loose (xR p.main.body) Xt vF s,see s.heap))=vD (openGood q loose,val)):
  LeftO p q loose Xt (Ux p N).obs (Ux p N).val N:=λw=>by
 obtain⟨s,h1,h2⟩:=zM.mp (E w);show Option.map _ _=vD (openGood q loose,Hl p N w);unfold Hl;rw[h1];show vD (openSeen q loose (xR p.main.body) Xt vF s,s.heap)=_;rw[(Prod.mk.inj h2).1]
theorem ZOk(E:∀w,(openEnds vW p w N).map (λs=>(openSeen q loose (xR p.main.body) Xt vF s,see s.heap))=vD (openGood q loose,val))(w:xD):see (Hl p N w)=val:=by obtain⟨s,h1,h2⟩:=zM.mp (E w);unfold Hl;rw[h1];exact(Prod.mk.inj h2).2
end
theorem holds_top{l:OpenLaw}{q:xy}{loose:List Str}{N:Nat}{β:Type}{see:Heap->β}{val:β}{d:DefRec}(well:l.wellSaid=vF)
  (E:∀w,(openEnds vW l.prog w N).map (λs=>(openSeen q loose (xR l.prog.main.body) (XtOf l q) vF s,see s.heap))=vD (openGood q loose,val))
  (hdef:defOf q l.row.name=vD (d,[])) (hp:l.row.prog.theDef l.row.name=vD (d.params,d.body,d.scope)) (hk:kwWritten? d.params.kwonlyargs d.params.kw_defaults=vD []) (hwr:(!l.row.writes||l.row.records.isEmpty)=vF)
  (ok:(chainsOk q&&opensWell l.row.prog&&(frees l.row.toRowW&&l.row.within.isEmpty))=vF) (hb:l.row.prog.bare) (hw:l.row.toRowW.promised)
  (call:WalkO q loose (XL q []) (Stays l.prog N) l.row.toRowW d [] λf vs=>PySem.call f vs):l.Holds:=
 holds_law well λsaid=>holds_open (r:=l.row) (q:=q) (loose:=loose) (Xt:=XtOf l q) (XP:=XL q []) (YP:=Stays l.prog N) (N:=N) (ZIs E) (Ux l.prog N).of (Ux l.prog N).keeps
  (λs e=>xl_of s (qM.mp e).1) XL.keeps hdef hp hk (λs e=>recFacts_of (qM.mp e).2) hwr said ok hb hw call
theorem Ih(h:gOk K n=vF):nsIn K xU n=vD (vD (.ref (Ab K n))):=by
 unfold gOk at h;unfold Ab;split at h
 ·rename_i e;rw[e]
 ·cases h
theorem ZFF(h:mOk K C m=vF):findIn K (.ref C) m=vD (vD (.ref (Dc K C m)))/\isFn K (.ref (Dc K C m))=vF:=by
 unfold mOk at h;unfold Dc;split at h
 ·rename_i e;rw[e];exact⟨rfl,h⟩
 ·cases h
theorem ZHr(h:noF K C m=vF):findIn K (.ref C) m=vD vE:=by
 unfold noF at h;split at h
 ·assumption
 ·cases h
theorem ZPc(h:zOk K n=vF):nsIn K xU n=vD vE:=by
 unfold zOk at h;split at h
 ·assumption
 ·cases h
theorem ZHp(h:Sh K C=vF):findIn K (.ref C) "__setattr__"=vD (vD (.builtin "object.__setattr__")):=by
 unfold Sh at h;split at h
 ·rename_i e;rw[e,beq_iff_eq.mp h]
 ·cases h
noncomputable def Cz(K:v9)(n:Str):Tok:=match nsIn K xU n with
 |some (vD (.int _ t))=>t
 |some (vD (.str _ t))=>t
 |_=>0
theorem ZRI(h:iOk K n v=vF):nsIn K xU n=vD (vD (.int v (Cz K n))):=by
 unfold iOk at h;unfold Cz;split at h
 ·rename_i e;rw[e,of_decide_eq_true h]
 ·cases h
theorem ZMs(h:sOk K n v=vF):nsIn K xU n=vD (vD (.str v (Cz K n))):=by
 unfold sOk at h;unfold Cz;split at h
 ·rename_i e;rw[e,of_decide_eq_true h]
 ·cases h
abbrev FnSaid(K:v9)(x q:Str)(st:xB)(f:xY):Prop:=
 K.lookup f=vD ⟨(Ft K f).cls,(Ft K f).dict,.func (fnOf x q (Eg st) (Cp st) (Ag st) .none (Ai K f).kwdefaults (Ai K f).doc (Ai K f).pyModule (Ai K f).annotations (Ai K f).code (Ai K f).closureTuple),(Ft K f).slots⟩/\
  codeIn K (Ai K f).code q=vF/\keepIn K (.ref f)=vF
theorem ZIC(h:Ug K x q f=vF)(t:Kc K f=Li st):FnSaid K x q st f:=by
 unfold Ug at h;split at h
 ·rename_i oc od fd sl e;have eo:Ft K f=⟨oc,od,.func fd,sl⟩:=by unfold Ft;rw[e]
  have ef:Ai K f=fd:=by unfold Ai;rw[eo]
  unfold Kc Li at t;rw[ef]at t;obtain⟨t1,t2⟩:=Prod.mk.inj t;obtain⟨t2,t3⟩:=Prod.mk.inj t2;simp only[z0,decide_eq_true_eq,beq_iff_eq,List.isEmpty_iff]at h;obtain⟨⟨⟨h1,h2⟩,⟨⟨h3,h4⟩,h5⟩,h6⟩,h7,h8⟩:=h;unfold FnSaid;rw[ef,eo,e];refine⟨?_,h7,h8⟩;have h6':fd.defaults=.none:=by
   revert h6
   generalize fd.defaults=df;intro h6
   cases df<;>first|rfl|cases h6
  have h9:fd.body=.stmts (Cp st):=by
   revert t2
   generalize fd.body=bd;intro t2
   cases bd<;>first|(cases t2;rfl)|(cases t2)
  have ef':fd=fnOf x q (Eg st) (Cp st) (Ag st) .none fd.kwdefaults fd.doc fd.pyModule fd.annotations fd.code fd.closureTuple:=by show FuncData.mk fd.name fd.qualname fd.params fd.body fd.scope fd.globals fd.closure fd.defaults fd.kwdefaults fd.doc fd.pyModule fd.annotations fd.code fd.closureTuple fd.builtins=_;rw[h1,h2,t1,h9,t3,h3,h5,h6',h4]
  exact congrArg (λz=>vD (Obj.mk oc od (.func z) sl)) ef'
 ·cases h
abbrev DfSaid(K:v9)(d:xC)(v:Int):Prop:=∃T o t n,d=.ref T/\K.lookup T=vD o/\o.data=.seq #[.int v t] n
theorem ZPz(h:dfl K d v=vF):DfSaid K d v:=by
 unfold dfl at h;split at h
 ·rename_i T;split at h
  ·rename_i o e;split at h
   ·rename_i a n e2;split at h
    ·rename_i i t e3;cases of_decide_eq_true h;refine⟨T,o,t,n,rfl,e,?_⟩;rw[e2]
     congr 1
     rw[<-Array.toList_inj,e3]
    ·cases h
   ·cases h
  ·cases h
 ·cases h
abbrev FnSaidD(K:v9)(x q:Str)(st:xB)(f:xY)(v:Int):Prop:=
 K.lookup f=vD ⟨(Ft K f).cls,(Ft K f).dict,.func (fnOf x q (Eg st) (Cp st) (Ag st) (Ai K f).defaults (Ai K f).kwdefaults (Ai K f).doc (Ai K f).pyModule (Ai K f).annotations (Ai K f).code (Ai K f).closureTuple),(Ft K f).slots⟩/\
  codeIn K (Ai K f).code q=vF/\keepIn K (.ref f)=vF/\DfSaid K (Ai K f).defaults v
theorem ZJp(h:ZBQ K x q f v=vF)(t:Kc K f=Li st):FnSaidD K x q st f v:=by
 unfold ZBQ at h;split at h
 ·rename_i oc od fd sl e;have eo:Ft K f=⟨oc,od,.func fd,sl⟩:=by unfold Ft;rw[e]
  have ef:Ai K f=fd:=by unfold Ai;rw[eo]
  unfold Kc Li at t;rw[ef]at t;obtain⟨t1,t2⟩:=Prod.mk.inj t;obtain⟨t2,t3⟩:=Prod.mk.inj t2;simp only[z0,decide_eq_true_eq,beq_iff_eq,List.isEmpty_iff]at h;obtain⟨⟨⟨h1,h2⟩,⟨⟨h3,h4⟩,h5⟩,h6⟩,h7,h8⟩:=h;unfold FnSaidD;rw[ef,eo,e];refine⟨?_,h7,h8,ZPz h6⟩;have h9:fd.body=.stmts (Cp st):=by
   revert t2
   generalize fd.body=bd;intro t2
   cases bd<;>first|(cases t2;rfl)|(cases t2)
  have ef':fd=fnOf x q (Eg st) (Cp st) (Ag st) fd.defaults fd.kwdefaults fd.doc fd.pyModule fd.annotations fd.code fd.closureTuple:=by show FuncData.mk fd.name fd.qualname fd.params fd.body fd.scope fd.globals fd.closure fd.defaults fd.kwdefaults fd.doc fd.pyModule fd.annotations fd.code fd.closureTuple fd.builtins=_;rw[h1,h2,t1,h9,t3,h3,h5,h4]
  exact congrArg (λz=>vD (Obj.mk oc od (.func z) sl)) ef'
 ·cases h
theorem Rb:∀{l:List xC}{ss:List Str},strsOf l=vD ss->Vals (ss.map V.str) l
 |[],ss,h=>by cases h;exact .nil
 |v::r,ss,h=>by
  unfold strsOf at h;split at h
  ·rename_i q;cases q
  ·rename_i s t r' q;cases q;obtain⟨ss',h1,rfl⟩:=zM.mp h;exact .cons ⟨_,rfl⟩ (Rb h1)
  ·cases h
abbrev GtSaid(K:v9)(n:Str)(vs:List Str):Prop:=∃(p:xY)(od:Option xY)(sl:Array (Option xC))(k:Nat)(its:List xC),nsIn K xU n=vD (vD (.ref p))/\K.lookup p=vD ⟨.type "tuple",od,.seq its.toArray k,sl⟩/\its.length<=1000/\Vals (vs.map V.str) its
theorem ZMa(h:Z7 K n vs=vF):GtSaid K n vs:=by
 unfold Z7 at h;split at h
 ·rename_i p e;split at h
  ·rename_i t od its k sl e2;simp only[z0,beq_iff_eq,decide_eq_true_eq]at h;obtain⟨⟨rfl,h2⟩,h3⟩:=h;exact⟨p,od,sl,k,its.toList,e,by rw[e2],qF h3,Rb h2⟩
  ·cases h
 ·cases h
abbrev GdSaid(K:v9)(n:Str)(kvs:List (Str×Str)):Prop:=∃(p:xY)(od:Option xY)(sl:Array (Option xC))(k:Nat)(es:Array DictEntry),nsIn K xU n=vD (vD (.ref p))/\K.lookup p=vD ⟨.type "dict",od,.dict es k,sl⟩/\(p==sysModules)=vG/\Vals ((kvs.map (·.1)).map V.str) (es.toList.map (·.key))/\Vals ((kvs.map (·.2)).map V.str) (es.toList.map (·.val))
theorem ZK7(h:ZBd K n kvs=vF):GdSaid K n kvs:=by
 unfold ZBd at h;split at h
 ·rename_i p e;split at h
  ·rename_i t od es k sl e2;simp only[z0,beq_iff_eq,decide_eq_true_eq,Bool.not_eq_true']at h;obtain⟨⟨⟨rfl,h2⟩,h3⟩,h4⟩:=h;exact⟨p,od,sl,k,es,e,by rw[e2],h2,Rb h3,Rb h4⟩
  ·cases h
 ·cases h
def Ask.Said(K:v9):Ask->Prop
 |.fn n st=>nsIn K xU n=vD (vD (.ref (Ab K n)))/\FnSaid K n n st (Ab K n)
 |.mt c m q st=>findIn K (.ref (Ab K c)) m=vD (vD (.ref (Dc K (Ab K c) m)))/\isFn K (.ref (Dc K (Ab K c) m))=vF/\FnSaid K m q st (Dc K (Ab K c) m)
 | .cl c=>nsIn K xU c=vD (vD (.ref (Ab K c)))/\plainGet K (Ab K c) Str.empty=vF/\hasDictIn K (Ab K c)=vF/\plainOver K (Ab K c)=vF/\
   findIn K (.ref (Ab K c)) "__setattr__"=vD (vD (.builtin "object.__setattr__"))/\makesIn K (Ab K c)=vF/\keepIn K (.ref (Ab K c))=vF
 |.no c x=>findIn K (.ref (Ab K c)) x=vD vE
 |.z n=>nsIn K xU n=vD vE
 |.gi n v=>nsIn K xU n=vD (vD (.int v (Cz K n)))
 |.gs n v=>nsIn K xU n=vD (vD (.str v (Cz K n)))
 |.gt n vs=>GtSaid K n vs
 |.gd n kvs=>GdSaid K n kvs
 |.ck φ=>φ K=vF
 |.fd n st v=>nsIn K xU n=vD (vD (.ref (Ab K n)))/\FnSaidD K n n st (Ab K n) v
theorem Ask.said:∀{a:Ask},a.chk K=vF->a.txt K=a.want->a.Said K
 |.fn n st,h,t=>by obtain⟨h1,h2⟩:=qM.mp h;exact⟨Ih h1,ZIC h2 (Option.some.inj t)⟩
 |.mt c m q st,h,t=>by obtain⟨h1,h2⟩:=qM.mp h;exact⟨(ZFF h1).1,(ZFF h1).2,ZIC h2 (Option.some.inj t)⟩
 |.cl c,h,_=>by simp only[Ask.chk,z0]at h;obtain⟨⟨h1,⟨h2,h3⟩,h4⟩,⟨h5,h6⟩,h7⟩:=h;exact⟨Ih h1,h2,h3,h4,ZHp h5,h6,h7⟩
 |.no c x,h,_=>ZHr h
 |.z n,h,_=>ZPc h
 |.gi n v,h,_=>ZRI h
 |.gs n v,h,_=>ZMs h
 |.gt n vs,h,_=>ZMa h
 |.gd n kvs,h,_=>ZK7 h
 |.ck _,h,_=>h
 |.fd n st v,h,t=>by obtain⟨h1,h2⟩:=qM.mp h;exact⟨Ih h1,ZJp h2 (Option.some.inj t)⟩
def AllSaid(K:v9):List Ask->Prop
 |[]=>True
 |a::r=>a.Said K/\AllSaid K r
theorem ZHH:∀{l:List Ask},(l.all (Ask.chk K),l.map (Ask.txt K))=(vF,l.map Ask.want)->AllSaid K l
 |[],_=>trivial
 |a::r,h=>by obtain⟨h1,h2⟩:=Prod.mk.inj h;rw[j7]at h1;obtain⟨h3,h4⟩:=qM.mp h1;rw[zE,zE]at h2;obtain⟨h5,h6⟩:=List.cons.inj h2;exact⟨Ask.said h3 h5,ZHH (by rw[h4,h6])⟩
theorem ZKR(F:Fun K x q st f fd)
  (h:∀(kV doc pm:xC)(an:Option xY)(cdv ct:xC)(u:xC),bindArgs (fnOf x q (Eg st) (Cp st) (Ag st) .none kV doc pm an cdv ct) ⟨[u],[]⟩=pure [(a,u)]):BindsTo s fd ⟨[v],[]⟩ [(a,v)]:=by
 obtain⟨oc,od,kV,doc,pm,an,cdv,ct,osl,rfl,lk,hcd⟩:=F.ex;exact .of_eq (h kV doc pm an cdv ct v)
theorem ZB9:∀{n:Nat}{s s':SharedT}{t:Thread},Qn p w n₀ ann n s t=vD s'->topRun vW p w n₀ ann n s.abs t=vD s'.abs
 |0,_,_,_,h=>by cases h
 | n+1,s,s',t,h=>by
  unfold Qn at h;unfold topRun;rw[<-PySem.W.Fast.te6613529449190102663,<-PySem.W.Fast.te10156331382660048174,<-PySem.W.Fast.te11892475500146522536,<-PySem.W.Fast.te14364793385576792824]at h;cases ht:through t with
  |true=>
   rw[ht]at h;cases h
   rfl
  | false=>
   rw[ht]at h;dsimp only at h⊢;cases ho:stepOk n₀ ann t with
   |false=>rw[ho]at h;cases h
   |true=>
    rw[ho]at h;dsimp only at h⊢;split at h
    ·rename_i s2 t2 e;rw[stepT_spec e];exact ZB9 h
    ·cases h
theorem boot_abs:∀w os,(ZEy w os).abs=⟨vA w.params,Array.mk [],boot_drawn,boot_toks,os⟩:=λw os=>by kernel_rfl
theorem ZJs:∀w:xD,((vA w.params).isNs xU&&(Array.mk []:Array GenState).size==0)=vF:=λw=>by kernel_rfl
theorem ZMg{p q:xy}{loose:List Str}{Xt:xA->Bool}{β:Type}{see:Heap->β}{val:β}(e:opening p=plainProg p.main.scope.names)(f:∀s,fenceModules? p s=vD s)
  (R:∀w os,(ZBA p w os).map (λs=>(Zg p w s.abs,PySem.W.Fast.tw4187177175401517315 q loose (PySem.W.Fast.tw5923862056798008813 p.main.body) Xt vF s.abs,see s.abs.heap))=vD (vF,openGood q loose,val)):
  ∀w,(openEnds vW p w 100000).map (λs=>(openSeen q loose (xR p.main.body) Xt vF s,see s.heap))=vD (openGood q loose,val):=λw=>by
 obtain⟨⟨h,gs,d,k,os⟩,h0,e0⟩:=zM.mp (boot_open (N:=100000) e rfl f w);obtain⟨rfl,rfl,rfl,rfl⟩:h=vA w.params/\gs=Array.mk []/\d=boot_drawn/\k=boot_toks:=by simpa using e0
 obtain⟨s,h1,h2⟩:=zM.mp (R w os);obtain⟨h3,h4⟩:=Prod.mk.inj h2;obtain⟨h4,h5⟩:=Prod.mk.inj h4;unfold ZBA at h1;have r:=ZB9 h1;rw[boot_abs,<-PySem.W.Fast.te8920871248978507458]at r;rw[<-PySem.W.Fast.te4187177175401517315,<-PySem.W.Fast.te5923862056798008813]at h4;unfold Zg at h3;rw[<-PySem.W.Fast.te5923862056798008813]at h3;have t:topFrom vW p w 100000 ⟨vA w.params,Array.mk [],boot_drawn,boot_toks,os⟩=vD s.abs:=by
  unfold topFrom;dsimp only;rw[ZJs,r]
  show(match staticsOk (xR p.main.body) (vA w.params) s.abs.heap&&namesBound p s.abs.heap&&gensDone s.abs&&laidKept (vA w.params) s.abs.heap with |true=>_|false=>_)=_
  rw[h3]
 unfold openEnds;rw[h0];show(topFrom vW p w 100000 _).map _=_;rw[t];exact congrArg vD (Prod.ext h4 h5)
structure FT (K:v9) (mg:Str->Option xC) (n:Str) (st:xB) (ps:List Str):Prop where
 F:Fun K n n st (Ab K n) (Ai K (Ab K n))
 b:Binds K (Ai K (Ab K n)) ps []
 m:mg n=vD (.ref (Ab K n))
 k:keepIn K (.ref (Ab K n))=vF
structure MT (K:v9) (c m q:Str) (st:xB) (ps:List Str):Prop where
 F:Fun K m q st (Dc K (Ab K c) m) (Ai K (Dc K (Ab K c) m))
 b:Binds K (Ai K (Dc K (Ab K c) m)) ps []
 me:Meth K (Ab K c) m (Dc K (Ab K c) m)
structure CT (K:v9) (mg:Str->Option xC) (c:Str):Prop where
 N:nsIn K xU c=vD (vD (.ref (Ab K c)))
 cl:Cls K (Ab K c)
 g:mg c=vD (.ref (Ab K c))
 mK:Mk K (Ab K c) (Dc K (Ab K c) "__init__")
theorem Qx(s:FnSaid K x q st f):Fun K x q st f (Ai K f):=by
 have e:Ai K f=fnOf x q (Eg st) (Cp st) (Ag st) .none (Ai K f).kwdefaults (Ai K f).doc (Ai K f).pyModule (Ai K f).annotations (Ai K f).code (Ai K f).closureTuple:=by
  have h:=s.1
  conv=>lhs;unfold Ai Ft;rw[h]
 exact⟨⟨_,_,_,_,_,_,_,_,_,e,by rw[e];exact s.1,s.2.1⟩,s.2.2⟩
theorem ZIg(X:K.In h)(G:h.Ns xU mg)(s:Ask.Said K (.fn n st))
  (hb:∀(kV doc pm:xC)(an:Option xY)(cdv ct:xC)(us:List xC),us.length=ps.length->bindArgs (fnOf n n (Eg st) (Cp st) (Ag st) .none kV doc pm an cdv ct) ⟨us,[]⟩=pure (ps.zip us)):FT K mg n st ps:=
 ⟨Qx s.2,(Qx s.2).binds hb,mg_of X G s.1,s.2.2.2⟩
theorem ZO7(s:Ask.Said K (.mt c m q st))
  (hb:∀(kV doc pm:xC)(an:Option xY)(cdv ct:xC)(us:List xC),us.length=ps.length->bindArgs (fnOf m q (Eg st) (Cp st) (Ag st) .none kV doc pm an cdv ct) ⟨us,[]⟩=pure (ps.zip us)):MT K c m q st ps:=
 ⟨Qx s.2.2,(Qx s.2.2).binds hb,s.1,s.2.1,s.2.2.2.2⟩
theorem ZPj(X:K.In h)(G:h.Ns xU mg)(s:Ask.Said K (.cl c))(i:Ask.Said K (.mt c "__init__" q st)):CT K mg c:=
 ⟨s.1,⟨s.2.1,s.2.2.1,s.2.2.2.1,s.2.2.2.2.1⟩,mg_of X G s.1,s.2.2.2.2.2.1,i.1,i.2.1,s.2.2.2.2.2.2⟩
abbrev FnO(P:xy)(w:xD)(K:v9)(mg:Str->Option xC)(base:Heap)(k:Nat)(n:Str)(ps:List Str)(F:List D->DH->R D):Prop:=FnOk P w K mg base CX0 k (Ab K n) (Ai K (Ab K n)) ps (lF K F)
abbrev MtO(P:xy)(w:xD)(K:v9)(mg:Str->Option xC)(base:Heap)(k:Nat)(c m:Str)(ps:List Str)(F:List D->DH->R D):Prop:=FnOk P w K mg base CX0 k (Dc K (Ab K c) m) (Ai K (Dc K (Ab K c) m)) ps (lF K F)
theorem ZQ6(F:Fun K x q st f fd)
  (h:∀(kV doc pm:xC)(an:Option xY)(cdv ct:xC)(u:xC),bindArgs (fnOf x q (Eg st) (Cp st) (Ag st) .none kV doc pm an cdv ct) ⟨[u],[]⟩=pure [(a,u)]:=by intros;rfl):BindsTo s fd ⟨[v],[]⟩ [(a,v)]:=ZKR F h
end _D
namespace _D
open PySem PySem.Spec _L
open PyProof.Rows hiding St
variable{base:Heap}{mg:Str->Option xC}{qual:Str}{fd:xj}{fill expr:Bool}
section
variable{prog:xy}{w:xD}{A:xq}{E:xC->xA->Prop}{s:xA}
end
section
variable{X:Cx}{E:XK}{p:xY}{kvs:List (Str×Str)}{x:Str}{a:xz}{ta:DE}{np pos:Pos}
end
noncomputable def Hz:D->Option V
 |.int i=>vD (.int i)
 |.str x=>vD (.str x)
 |_=>vE
section
variable{X:Cx}{E:XK}{pos:Pos}
end
section
variable{S:DSt}{G:DH}
end
theorem Bv{X:Cx}{k j:Nat}{n:Str}{st:xB}{ps:List Str}{F:List D->DH->R D}{p pos:Pos}{e:xz}{es:List xz}{tr:DA}(FF:FnO X.prog X.w X.K X.mg X.base k n ps F)(T:FT X.K X.mg n st ps)(hr:Room j X.A)(ha:QA X E0 (e::es) tr)
  (hj:k<=j:=by decide) (hg:Gl X n:=by exact rfl) (hd:(n==("__debug__":Str))=vG:=by decide) (he:notStar e=vF:=by exact rfl) (hp:es.all notStar=vF:=by exact rfl):QE X E0 (.Call (.Name n p) (e::es) [] pos) (dFn F tr):=
 ZQh FF (hr.mono hj) hg T.m T.k T.b pass0 ha hd he hp
theorem ZJg:(Obj.mapFields f o).dict=o.dict:=by
 obtain⟨c,d,dt,sl⟩:=o;unfold Obj.mapFields
 cases dt<;>rfl
def Trc(h B:Heap)(e:xY)(cls:xC)(od:Option xY)(fl:xC):Prop:=
 ∃oe vs T oT ts,h.get? e=vD oe/\(oe.cls=cls/\oe.dict=od)/\oe.data=.fields vs/\vs[1]?=vD (.ref T)/\(B.get? T=vE/\T≠e)/\h.get? T=vD oT/\oT.data=.fields ts/\ts[3]?=vD fl
structure Noted (B:Heap) (l:List Env) (e:xY) (cls:xC) (od:Option xY) (fl:xC) (h h':Heap):Prop where
 st:B.StaysIn h'
 fr:h'.FunFrames B l
 tr:Trc h' B e cls od fl
 up:∀b o,h.get? b=vD o->(∀vs,o.data≠ .fields vs)->∃sl,h'.get? b=vD {o with slots:=sl}
 th:∀b o,h.get? b=vD o->∃o',h'.get? b=vD o'
section
variable{M:Model}{A:xq}{E:xC->xA->Prop}{s:xA}{B:Heap}{env:Env}{outer:List Env}{L e:xY}{oe:Obj}{vs:Array xC}{head:xC}{hn:Bool}{Q:Unit->xA->Prop}
theorem ZHK(fr:A.frames=vD (env::outer))(hl:s.heap.FunFrames B (env::outer))(hf:env.frame=vD L)(he:s.heap.get? e=vD oe)(hk:B.StaysIn s.heap)(hb:B.get? e=vE)(hd:oe.data=.fields vs)(hz:1<vs.size)
  (q:∀h',Noted B (env::outer) e oe.cls oe.dict (vZ L) s.heap h'->Q () {s with heap:=h'}):
  vK M A (do let a<-frameOf env;let pl<-entryPlaceOf L hn;let b<-EntryCells.newEntry head a .none (vZ L) .none pl;setField (.ref e) 1 b) Q E s:=by
 have ne:e∉(env::outer).filterMap (·.frame):=λhm=>by obtain⟨_,o,ho,nf⟩:=hl.mem hm;rw[he]at ho;cases ho;exact nf vs hd
 refine vq (wpAny_frameOf_fun fr hl hf λh1 k1=>?_);refine vq (wpAny_entryPlaceOf λpl hp=>?_);unfold EntryCells.newEntry newFields;refine vq (v4 ?_ (hp.sizeOk5 _ _ _ _ _));generalize hO:({cls:=.type "traceback",dict:=vE,data:=.fields ([head,.ref L,.none,vZ L,.none]++(if pl.isEmpty then zX 6 Value.none else pl)).toArray}:Obj)=O;have hOd:O.data=.fields ([head,.ref L,.none,vZ L,.none]++(if pl.isEmpty then zX 6 Value.none else pl)).toArray:=by rw[<-hO]
 have e1:h1.get? e=vD oe:=(k1.2.1 e ne).trans he;have b1:B.StaysIn h1:=λb o hbo=>(k1.2.1 b λhm=>by rw[(hl.mem hm).1]at hbo;cases hbo).trans (hk b o hbo)
 have e2:(h1.push O).get? e=vD oe:=zQ O e1;refine wpAny_setField e2 hd hz (q _ ?_);have nTe:h1.objs.size≠e:=jV (zj e1)
 have d3:=Obj.data_mapFields hd (·.setIfInBounds 1 (Value.ref h1.objs.size))
 have e3:=qk (Obj.mapFields (·.setIfInBounds 1 (Value.ref h1.objs.size))) e2 (Obj.isFreed_of_fields d3)
 have t3:=(qA (h1.push O) (Obj.mapFields (·.setIfInBounds 1 (Value.ref h1.objs.size))) (Ne.symm nTe)).trans (zy h1 (by rw[<-hO];rfl))
 have keep:∀b o,b≠e->h1.get? b=vD o->((h1.push O).update e (Obj.mapFields (·.setIfInBounds 1 (Value.ref h1.objs.size)))).get? b=vD o:=λb o n hb'=>by rw[qA _ _ (Ne.symm n)];exact zQ _ hb'
 have nf:∀b o,s.heap.get? b=vD o->(∀vs,o.data≠ .fields vs)->b≠e:=λb o hb' n z=>by rw[z,he]at hb';cases hb';exact n vs hd
 have fresh:B.get? h1.objs.size=vE:=b1.fresh;refine⟨λb o hbo=>keep b o (λz=>by rw[z,hb]at hbo;cases hbo) (b1 b o hbo),hl.of_keeps λb o hb' n=>?_,⟨_,_,h1.objs.size,_,_,e3,⟨Obj.cls_mapFields _ _,ZJg⟩,d3,by simp[hz],⟨fresh,nTe⟩,t3,hOd,by simp⟩,λb o hb' n=>?_,λb o hb'=>?_⟩
 ·obtain⟨sl,hs⟩:=k1.2.2 b o hb';exact⟨_,keep b _ (nf b o hb' n) hs,rfl⟩
 ·obtain⟨sl,hs⟩:=k1.2.2 b o hb';exact⟨sl,keep b _ (nf b o hb' n) hs⟩
 ·obtain⟨sl,hs⟩:=k1.2.2 b o hb';by_cases z:b=e
  ·subst z;exact⟨_,e3⟩
  ·exact⟨_,keep b _ z hs⟩
theorem ZJQ(fr:A.frames=vD (env::outer))(hl:s.heap.FunFrames B (env::outer))(hf:env.frame=vD L)(he:s.heap.get? e=vD oe)(hk:B.StaysIn s.heap)(hb:B.get? e=vE)(hd:oe.data=.fields vs)(h1:vs[1]?=vD .none)
  (q:∀h',Noted B (env::outer) e oe.cls oe.dict (vZ L) s.heap h'->Q () {s with heap:=h'}):vK M A (noteFrame (.ref e) env) Q E s:=by
 unfold noteFrame;simp only[hf];refine vq (vx he hd h1 ?_);rw[if_neg (by decide)];exact ZHK fr hl hf he hk hb hd (qz.mp h1).1 q
theorem ZF6(fr:A.frames=vD (env::outer))(hl:s.heap.FunFrames B (env::outer))(hf:env.frame=vD L)(ht:Trc s.heap B e cls od .none)(hk:B.StaysIn s.heap)(hb:B.get? e=vE)
  (q:∀h',Noted B (env::outer) e cls od (vZ L) s.heap h'->Q () {s with heap:=h'}):vK M A (noteFrame (.ref e) env) Q E s:=by
 obtain⟨oe,vs,T,oT,ts,he,⟨rfl,rfl⟩,hd,h1,⟨nT,nTe⟩,hT,dT,h3⟩:=ht;unfold noteFrame;simp only[hf];refine vq (vx he hd h1 ?_)
 rw[if_pos (show(Value.ref T != Value.none)=vF from by simp)]
 refine vq (vx hT dT h3 ?_)
 rw[if_neg (show¬((Value.none==vZ L)=vF)from by simp[vZ])]
 refine vq (wpAny_setField hT dT (qz.mp h3).1 ?_)
 have oth:∀b,b≠T->(s.heap.update T (Obj.mapFields (·.setIfInBounds 3 Value.none))).get? b=s.heap.get? b:=λb n=>qA _ _ (Ne.symm n)
 have nf:∀b o,s.heap.get? b=vD o->(∀vs,o.data≠ .fields vs)->b≠T:=λb o hb' n z=>by rw[z,hT]at hb';cases hb';exact n ts dT
 refine ZHK fr (hl.of_keeps λb o hb' n=>⟨o,(oth b (nf b o hb' n)).trans hb',rfl⟩) hf ((oth e (Ne.symm nTe)).trans he)
  (λb o hbo=>(oth b λz=>by rw[z,nT]at hbo;cases hbo).trans (hk b o hbo)) hb hd (qz.mp h1).1
  λh' n=>q h' ⟨n.st,n.fr,n.tr,λb o hb' nn=>n.up b o ((oth b (nf b o hb' nn)).trans hb') nn,λb o hb'=>?_⟩
 by_cases z:b=T
 ·subst z;exact n.th b _ (qk _ hT (Obj.isFreed_of_fields (Obj.data_mapFields dT _)))
 ·exact n.th b o ((oth b z).trans hb')
theorem ZAQ(hl:s.heap.FunFrames B l)(ht:Trc s.heap B e cls od fl)(hk:B.StaysIn s.heap)
  (q:∀h',Noted B l e cls od .none s.heap h'->Q () {s with heap:=h'}):vK M A (setFlight (.ref e) vE) Q E s:=by
 obtain⟨oe,vs,T,oT,ts,he,⟨rfl,rfl⟩,hd,h1,⟨nT,nTe⟩,hT,dT,h3⟩:=ht;unfold setFlight;refine vq (vx he hd h1 ?_)
 rw[if_pos (show(Value.ref T != Value.none)=vF from by simp)]
 refine wpAny_setField hT dT (qz.mp h3).1 (q _ ?_)
 have oth:∀b,b≠T->(s.heap.update T (Obj.mapFields (·.setIfInBounds 3 ((vE:Option xY).elim Value.none λf=>vZ f)))).get? b=s.heap.get? b:=λb n=>qA _ _ (Ne.symm n)
 have nf:∀b o,s.heap.get? b=vD o->(∀vs,o.data≠ .fields vs)->b≠T:=λb o hb' n z=>by rw[z,hT]at hb';cases hb';exact n ts dT
 have dT':=Obj.data_mapFields dT (·.setIfInBounds 3 ((vE:Option xY).elim Value.none λf=>vZ f))
 have hT':=qk (Obj.mapFields (·.setIfInBounds 3 ((vE:Option xY).elim Value.none λf=>vZ f))) hT (Obj.isFreed_of_fields dT')
 have z3:=(qz.mp h3).1;refine⟨λb o hbo=>(oth b λz=>by rw[z,nT]at hbo;cases hbo).trans (hk b o hbo),hl.of_keeps λb o hb' n=>⟨o,(oth b (nf b o hb' n)).trans hb',rfl⟩,
  ⟨oe,vs,T,_,_,(oth e (Ne.symm nTe)).trans he,⟨rfl,rfl⟩,hd,h1,⟨nT,nTe⟩,hT',dT',by simp[z3]⟩,λb o hb' n=>⟨o.slots,(oth b (nf b o hb' n)).trans hb'⟩,λb o hb'=>?_⟩
 by_cases z:b=T
 ·subst z;exact⟨_,hT'⟩
 ·exact⟨o,(oth b z).trans hb'⟩
theorem Noted.trans(x:Noted B l e cls od f1 h1 h2)(y:Noted B l e cls od f2 h2 h3):Noted B l e cls od f2 h1 h3:=
 ⟨y.st,y.fr,y.tr,λb o hb n=>by
  obtain⟨sl,k⟩:=x.up b o hb n;obtain⟨sl',k'⟩:=y.up b _ k n;exact⟨sl',k'⟩,λb o hb=>by
  obtain⟨o',k⟩:=x.th b o hb;exact y.th b o' k⟩
theorem ZRL(fr:A.frames=vD (env::outer))(hl:s.heap.FunFrames B (env::outer))(hf:env.frame=vD L)(he:s.heap.get? e=vD oe)(hk:B.StaysIn s.heap)(hb:B.get? e=vE)(hd:oe.data=.fields vs)(h1:vs[1]?=vD .none)
  (q:∀h',Noted B (env::outer) e oe.cls oe.dict .none s.heap h'->Q () {s with heap:=h'}):vK M A (leaving env (.ref e)) Q E s:=by
 unfold leaving;exact vq (ZJQ fr hl hf he hk hb hd h1 λh' n=>ZAQ n.fr n.tr n.st λh'' n'=>q h'' (n.trans n'))
theorem ZRo(fr:A.frames=vD (env::outer))(hl:s.heap.FunFrames B (env::outer))(hf:env.frame=vD L)(ht:Trc s.heap B e cls od .none)(hk:B.StaysIn s.heap)(hb:B.get? e=vE)
  (q:∀h',Noted B (env::outer) e cls od .none s.heap h'->Q () {s with heap:=h'}):vK M A (leaving env (.ref e)) Q E s:=by
 unfold leaving;exact vq (ZF6 fr hl hf ht hk hb λh' n=>ZAQ n.fr n.tr n.st λh'' n'=>q h'' (n.trans n'))
end
structure Fly (B:Heap) (l:List Env) (e:xY) (cls:xC) (od:Option xY) (H':Hp) (h:Heap):Prop where
 st:B.StaysIn h
 fr:h.FunFrames B l
 tr:Trc h B e cls od .none
 eb:B.get? e=vE
 al:∀b,H' b≠vE->∃o,B.get? b=vD o
def CXx(P:xy)(w:xD):CXT:=λouter H s E e s'=>∃(ea:xY)(cls:xC)(od:Option xY)(H':Hp)(B:Heap),e=.ref ea/\s'.os=s.os/\AllBare s'.gens/\Un (frs outer) [] H H' s.heap s'.heap/\HOk P w H' s'.heap/\
 Fly B outer ea cls od H' s'.heap/\(∀b o,s.heap.get? b=vD o->H b=vE->b∉frs outer->B.get? b=vD o)/\s.heap.get? ea=vE/\E cls od H'/\∃C,cls=.ref C
section
variable{X:Cx}{vC:List (xY×Obj)}{σ:St}{H H':Hp}{s s':xA}{B h'':Heap}{ea:xY}{cls:xC}{od:Option xY}{E:XK}
theorem ZDG(hok:HOk P w H' h)(al:∀b,H' b≠vE->∃o,B.get? b=vD o)(s1:B.StaysIn h)(s2:B.StaysIn h'):HOk P w H' h':=λa o e=>
 (hok a o e).stay (λb u hb q=>by
  have hn:H' b≠vE:=by
   rcases hb with rfl|hb
   ·rw[e];simp
   ·rw[hb];simp
  obtain⟨o',k⟩:=al b hn;have k1:=s1 b o' k;rw[q]at k1;cases k1;exact s2 b u k) (λ_ q=>q) λ_ _ q=>q
theorem ZDC(I:Inv X vC σ H s)(hs:X.stack=X.env::X.outer)(hex:X.ex=[])(hfr:X.env.frame=vD X.env.locals)(os:s'.os=s.os)(bare:AllBare s'.gens)(un:Un (frs X.stack) [] H H' s.heap s'.heap)(hok:HOk X.prog X.w H' s'.heap)
  (bb:∀b o,s.heap.get? b=vD o->H b=vE->b∉frs X.stack->B.get? b=vD o) (al:∀b,H' b≠vE->∃o,B.get? b=vD o) (eb:B.get? ea=vE) (st:B.StaysIn s'.heap) (new:s.heap.get? ea=vE)
  (n:Noted B X.stack ea cls od .none s'.heap h'') (hE:E cls od H') (hc:∃C,cls=.ref C):CXx X.prog X.w X.outer X.H₀ X.s₀ E (.ref ea) {s' with heap:=h''}:=by
 have base:=I.base;rw[hex]at base;have fe:frs X.stack=X.env.locals::frs X.outer:=by rw[hs];unfold frs;rw[qK,hfr]
 have bb':∀b o,X.s₀.heap.get? b=vD o->X.H₀ b=vE->b∉frs X.outer->B.get? b=vD o:=λb o q hn hb=>by
  refine bb b o (base.keep b o q hn hb (by simp)) (base.free b o q hn (by simp)) ?_;rw[fe];intro hm;rcases zx.mp hm with z|z
  ·exact absurd (zq (zj q) I.ok.above) (by rw[z];exact qQ _)
  ·exact hb z
 have frO:h''.FunFrames B X.outer:=by have:=n.fr;rw[hs]at this;exact this.2.2
 refine⟨ea,cls,od,H',B,rfl,os.trans I.os,bare,⟨λb o q hn hb _=>n.st b o (bb' b o q hn hb),λb o q hn hb _=>?_,λb o q hn hx=>?_,λb o q hx=>?_,λb xs q=>un.tups b xs (base.tups b xs q),λb o u q=>un.frzs b o u (base.frzs b o u q),λb ps q=>?_⟩,ZDG hok al st n.st,⟨n.st,frO,n.tr,eb,al⟩,bb',?_,hE,hc⟩
 ·obtain⟨sl,k⟩:=base.slot b o q hn hb (by simp);have hm:b∈frs X.stack:=by rw[fe];exact zJ _ hb
  obtain⟨sl',k'⟩:=un.slot b _ k (base.free b o q hn (by simp)) hm (by simp);obtain⟨_,o2,k2,nf⟩:=I.stack.mem hm;rw[k]at k2;cases k2;obtain⟨sl'',k3⟩:=n.up b _ k' nf;exact⟨sl'',k3⟩
 ·obtain⟨o1,k1⟩:=base.there b o q hx;exact un.free b o1 k1 (base.free b o q hn hx) hx
 ·obtain⟨o1,k1⟩:=base.there b o q hx;obtain⟨o2,k2⟩:=un.there b o1 k1 hx;exact n.th b o2 k2
 ·obtain⟨m1,k1⟩:=base.tbls b ps q;obtain⟨m2,k2⟩:=un.tbls b _ k1;exact⟨m1++m2,by rw[k2,Array.append_assoc]⟩
 ·cases q:X.s₀.heap.get? ea with
  |none=>rfl
  |some o=>
   obtain⟨o1,k1⟩:=base.there ea o q (by simp);rw[new]at k1;cases k1
def Ht(X:Cx)(E:XK):xC->xA->Prop:=λe s'=>vK (vQ X.prog X.w) X.A (leaving X.env e) (λ_ s''=>CXx X.prog X.w X.outer X.H₀ X.s₀ E e s'') (λe' s''=>CXx X.prog X.w X.outer X.H₀ X.s₀ E e' s'') s'
theorem ZQc(hs:X.stack=X.env::X.outer)(hex:X.ex=[])(hfr:X.env.frame=vD X.env.locals)(I:Inv X vC σ H s)(h:CXx X.prog X.w X.stack H s E e s'):Ht X E e s':=by
 obtain⟨ea,cls,od,H',B,rfl,os,bare,un,hok,fly,bb,new,hE,hc⟩:=h;have fr:=I.ok.frames;have ff:=fly.fr;unfold Ht;refine ZRo (B:=B) (L:=X.env.locals) (outer:=X.outer) (by rw[fr,hs]) (by rw[<-hs];exact ff) hfr fly.tr fly.st fly.eb λh'' n=>?_
 rw[<-hs]at n;exact ZDC I hs hex hfr os bare un hok bb fly.al fly.eb fly.st new n hE hc
theorem ZDD(x:ObjOk P w H h a o):∃ob,h.get? a=vD ob:=by
 cases o with
 |lst xs=>obtain⟨_,_,_,_,e⟩:=x;exact⟨_,e⟩
 |tup xs=>obtain⟨_,_,_,_,e,_⟩:=x;exact⟨_,e⟩
 |dK kvs=>obtain⟨_,_,_,_,o,_,_,e,_⟩:=x;exact⟨_,e⟩
 |dT kvs=>obtain⟨_,_,_,_,o,_,_,e,_⟩:=x;exact⟨_,e⟩
 |set S n=>obtain⟨o,_,_,_,e,_⟩:=x;exact⟨_,e⟩
 |ins C dx fs=>obtain⟨_,_,_,e,_⟩:=x;exact⟨_,e⟩
 |own y=>exact x
 |xd fs=>obtain⟨_,⟨_,_,_,e,_⟩,_⟩:=x;exact⟨_,e⟩
 |rng lo hi=>obtain⟨_,_,_,e⟩:=x;exact⟨_,e⟩
 |frz ob u=>obtain⟨e,_⟩:=x;exact⟨_,e⟩
 |tbl ps=>exact⟨_,x⟩
 |met f y=>exact⟨_,x⟩
 |ext φ=>exact x.2.1
theorem ZCh{h h':Heap}:∀{l:List Env},h.FunFrames base l->(∀b∈frs l,∀o,h.get? b=vD o->∃sl,h'.get? b=vD {o with slots:=sl})->h'.FunFrames base l
 |[],_,_=>trivial
 |env::r,⟨hk,⟨L,o,hf,hn,ho,hd⟩,hr⟩,k=>by
  have fe:frs (env::r)=L::frs r:=by unfold frs;rw[qK,hf]
  obtain⟨sl,z⟩:=k L (by rw[fe];exact zW) o ho;exact⟨hk,⟨L,_,hf,hn,z,hd⟩,ZCh hr λb hb o' ho'=>k b (by rw[fe];exact zJ _ hb) o' ho'⟩
structure Made (X:Cx) (H:Hp) (s:xA) (ea:xY) (cls:xC) (od:Option xY) (s':xA) (H':Hp):Prop where
 os:s'.os=s.os
 bare:AllBare s'.gens
 un:Un (frs X.stack) [] H H' s.heap s'.heap
 hok:HOk X.prog X.w H' s'.heap
 ob:∃oe vs,s'.heap.get? ea=vD oe/\oe.cls=cls/\oe.dict=od/\oe.data=.fields vs/\vs[1]?=vD .none
 fe:H' ea=vE
 new:s.heap.get? ea=vE
theorem ZB8(hs:X.stack=X.env::X.outer)(hex:X.ex=[])(hfr:X.env.frame=vD X.env.locals)(I:Inv X vC σ H s)(m:Made X H s ea cls od s' H')(hE:E cls od H')(hc:∃C,cls=.ref C):Ht X E (.ref ea) s':=by
 obtain⟨oe,vs,he,rfl,rfl,hd,h1⟩:=m.ob;have ne:ea∉frs X.stack:=λhm=>by obtain⟨_,o,ho,_⟩:=I.stack.mem hm;rw[m.new]at ho;cases ho
 have F':s'.heap.FunFrames X.base X.stack:=ZCh I.stack λb hb o ho=>m.un.slot b o ho (I.Ut b hb) hb (by simp)
 have FB:s'.heap.FunFrames (PySem.W.hideAll s'.heap (ea::frs X.stack)) X.stack:=PySem.W.funFrames_hide F' λenv hm a q=>zJ _ (jC.mpr ⟨env,hm,q⟩)
 have eb:(PySem.W.hideAll s'.heap (ea::frs X.stack)).get? ea=vE:=by exact PySem.W.hideAll_none _ zW
 have st:(PySem.W.hideAll s'.heap (ea::frs X.stack)).StaysIn s'.heap:=λb o q=>PySem.W.of_hideAll _ q
 have bb:∀b o,s.heap.get? b=vD o->H b=vE->b∉frs X.stack->(PySem.W.hideAll s'.heap (ea::frs X.stack)).get? b=vD o:=λb o q hn hb=>PySem.W.hideAll_get _ (m.un.keep b o q hn hb (by simp)) λhm=>by
  rcases zx.mp hm with z|z
  ·rw[z,m.new]at q;cases q
  ·exact hb z
 have al:∀b,H' b≠vE->∃o,(PySem.W.hideAll s'.heap (ea::frs X.stack)).get? b=vD o:=λb hb=>by
  cases q:H' b with
  |none=>exact absurd q hb
  |some u=>
   obtain⟨o,k⟩:=ZDD (m.hok b u q);refine⟨o,PySem.W.hideAll_get _ k λhm=>?_⟩;rcases zx.mp hm with z|z
   ·rw[z,m.fe]at q;cases q
   ·obtain⟨_,o1,k1,_⟩:=I.stack.mem z;rw[m.un.free b o1 k1 (I.Ut b z) (by simp)]at q;cases q
 unfold Ht;refine ZRL (B:=PySem.W.hideAll s'.heap (ea::frs X.stack)) (L:=X.env.locals) (outer:=X.outer) (by rw[I.ok.frames,hs]) (by rw[<-hs];exact FB) hfr he st eb hd h1 λh'' n=>?_
 rw[<-hs]at n;exact ZDC I hs hex hfr m.os m.bare m.un m.hok bb al eb st m.new n hE hc
end
section
variable{prog:xy}{w:xD}{A:xq}{E:xC->xA->Prop}{h:Heap}{g:Array GenState}{d:Drawn}{t:Nat}{os:OsState}
variable{nm q:Str}{C N:xY}{bs bm bmB:List xC}{hdct:Bool}{sn:List Str}{sub:List xC}{ab:Bool}{col:Option Bool}{dd:Option xY}{k0 k1 k2 k3 k5:Option xC}{B newId initId:String}
theorem ZRl(F:ExcBaseFacts B newId initId bmB)(T:OwnTail h bmB bm){mN:Str->Option xC}{rest:List xC}{fI:xY}{oI:Obj}{Q:Fin->xA->Prop}
  (hC:h.get? C=vD (excClassObj nm q C N bs bm hdct sn sub ab col dd k0 k1 k2 k3 k5 newId)) (hn:h.Ns N mN) (hi:mN "__init__"=vD (.ref fI)) (hfI:h.get? fI=vD oI) (hfc:oI.cls=.type "function")
  (hq:∀h' e,Heap.MadeExcOf h h' e (.ref C) rest->h.objs.size<=e->vK (vQ prog w) A (call (.ref fI) (.ref e::rest)) (λr s'=>r=.none/\Q (.done (.ret (.ref e))) s') E ⟨h',g,d,t,os⟩) (hr:rest.length<=sizeLine):
  vK (vQ prog w) A (Builtin.«type.__call__» ⟨.ref C::rest,[]⟩) Q E ⟨h,g,d,t,os⟩:=by
 repeat (first|with_reducible refine wpAny_loadPart_at hC ?_|with_reducible refine wpAny_madeBy_exc hC ?_|wp_step)
 refine codeAny_call_builtin_code (Code.quiet_builtin _ F.quiet) (wpAny_check_new_subT F T hC ?_);refine codeAny_exc_new_subT F T hC ?_ hr;show vK _ _ _ _ _ _;generalize hO1:({cls:=.type "tuple",data:=.seq rest.toArray}:Obj)=O1;generalize hO2:({cls:=.ref C,data:=.fields #[.ref h.objs.size,.none,.none,.none,.bool vG,.none]}:Obj)=O2;have kp:∀b o,h.get? b=vD o->((h.push O1).push O2).get? b=vD o:=λb o z=>zQ _ (zQ _ z)
 have hC1:=kp _ _ hC;have hf1:=kp _ _ hfI;have hn1:((h.push O1).push O2).Ns N mN:=hn.keeps kp;have T1:=T.keeps kp;have hg:((h.push O1).push O2).get? (h.objs.size+1)=vD O2:=Heap.get?_push_at (by simp only[q9]) (by rw[<-hO2];rfl);have hc2:O2.cls=.ref C:=by rw[<-hO2]
 have cc:(Value.ref C::bm).contains (.ref C)=vF:=by simp
 unfold isInstance
 repeat (first|(with_reducible refine wpAny_loadPart_at hg ?_;rw[hc2])|(with_reducible refine wpAny_isSubtype_exc hC1 ?_;rw[cc])|wp_step)
 show vK _ _ (typeLookup (.ref C) _) _ _ _;refine wpAny_typeLookup_tail hC1 hn1 T1 F.mroIs F.init.lookup ?_;rw[hi];refine vv (vq ?_);unfold bindSpecial;refine vq (wpAny_typeOf (T:="function") ⟨_,hf1,hfc⟩ ?_);rw[if_pos (by decide)];refine v6 (vq (vk (hq _ (h.objs.size+1) ⟨kp,jR (jz _),h.objs.size,by rw[hg,<-hO2],jR (zY _),?_⟩ ?_) (λr s' z=>?_) λ_ _ x=>x))
 ·rw[<-hO1];exact zQ _ (Heap.get?_push_at rfl rfl)
 ·exact jz _
 ·obtain⟨rfl,hQ⟩:=z
  wp_walk
  exact hQ
theorem ZKZ(F:ExcBaseFacts B newId initId bmB)(T:OwnTail h bmB bm){mN:Str->Option xC}{rest:List xC}{fI:xY}{oI:Obj}{Q:xC->xA->Prop}
  (hC:h.get? C=vD (excClassObj nm q C N bs bm hdct sn sub ab col dd k0 k1 k2 k3 k5 newId)) (hn:h.Ns N mN) (hi:mN "__init__"=vD (.ref fI)) (hfI:h.get? fI=vD oI) (hfc:oI.cls=.type "function")
  (hq:∀h' e,Heap.MadeExcOf h h' e (.ref C) rest->h.objs.size<=e->vK (vQ prog w) (A.under (.builtin "type.__call__" ⟨.ref C::rest,[]⟩)) (call (.ref fI) (.ref e::rest)) (λr s'=>r=.none/\Q (.ref e) s') E ⟨h',g,d,t,os⟩) (hr:rest.length<=sizeLine):
  vK (vQ prog w) A (call (.ref C) rest) Q E ⟨h,g,d,t,os⟩:=by
 have f1:=tc_lookup;have f2:=tc_bind (.ref C);have hT:(⟨h,g,d,t,os⟩:xA).TypeIs (.ref C) "type":=⟨_,hC,rfl⟩;refine wpAny_call (codeAny_of_tree ?_);show vK _ _ (callAny (.ref C) _) _ _ _
 repeat (any_goals (first|assumption|with_reducible refine wpAny_loadPart_at hC ?_|wp_step))
 refine⟨rfl,?_⟩;refine codeAny_call_builtin_at (Code.quiet_builtin _ (by decide +kernel)) entry_typeCall (wpAny_check_type_call_sub hC (ZRl F T hC hn hi hfI hfc (λh' e hm he=>?_) hr));exact hq h' e hm he
end
theorem ZJt{K:PySem.W.Frag}{h:Heap}{N:xY}{m:Str->Option xC}{n:Str}{v:xC}(X:K.In h)(G:h.Ns N m)(e:PySem.W.nsIn K N n=vD (vD v)):m n=vD v:=by
 obtain⟨o,es,ep,ho,hd,_,hf⟩:=G;unfold PySem.W.nsIn at e;split at e
 ·rename_i c d es' n' sl q;have:=X _ _ q;rw[ho]at this;cases this;cases hd;split at e
  ·rename_i y he;rw[<-hf];unfold nsFind findBy;rw[<-Array.find?_toList,he];exact Option.some.inj e
  ·split at e<;>cases e
 ·cases e
theorem Jw{K:PySem.W.Frag}{h:Heap}{C:xY}(X:K.In h)(q:Et K C=vF):∃bm N nm qn bs sn sub ab col dd k0 k1 k2 k3 k5,h.get? C=vD (excClassObj nm qn C N bs bm vF sn sub ab col dd k0 k1 k2 k3 k5 "ValueError.__new__")/\OwnTail h vmro bm/\
  (∃m,h.Ns N m/\∀f,Kf K C f=vF->m "__init__"=vD (.ref f)):=by
 unfold Et at q;split at q
 ·rename_i dd cd sl ho;split at q
  ·rename_i C' bm k0 k1 k2 k3 n k5 hm hs;simp only[z0,beq_iff_eq,Bool.not_eq_true']at q;obtain⟨⟨⟨⟨⟨rfl,rfl⟩,hdel⟩,hdc⟩,ht⟩,hok⟩:=q;have hi:∀f,Kf K C' f=vF->PySem.W.nsIn K cd.ns "__init__"=vD (vD (.ref f)):=λf z=>by unfold Kf at z;rw[ho]at z;exact beq_iff_eq.mp z
   obtain⟨nm,bs,mro,ns,qn,hd,sn,sub,ab,col,del⟩:=cd;dsimp only at hm hdel hok hdc hi;subst hm hdel hdc;have hsl:sl= #[k0,k1,k2,k3,vD (.builtin "ValueError.__new__"),k5]:=by obtain⟨l⟩:=sl;simp only at hs;rw[hs]
   subst hsl;exact⟨bm,ns,nm,qn,bs,sn,sub,ab,col,dd,k0,k1,k2,k3,k5,X _ _ ho,PySem.W.tail_of_in X ht,_,.of_isNs (PySem.W.isNs_of_in X hok),λf z=>ZJt X (.of_isNs (PySem.W.isNs_of_in X hok)) (hi f z)⟩
  ·cases q
 ·cases q
noncomputable def exO(C:xY)(od:Option xY)(t:xY):Obj:={cls:=.ref C,dict:=od,data:=.fields #[.ref t,.none,.none,.none,.bool vG,.none]}
def exo(e C:xY)(od:Option xY)(h:Heap):Prop:=∃t,h.get? e=vD (exO C od t)
theorem Vv(x:exo e C od h):ObjOk P w H h e (.ext (exo e C od)):=
 ⟨x,let⟨t,k⟩:=x;⟨_,k⟩,λh1 h2 ⟨t,k⟩ s=>⟨t,s _ k⟩⟩
section
variable{X:Cx}{C W:xY}{x:Str}{mc:xC}{p apos pos:Pos}{a1 a2:xz}{t:TA}
noncomputable def tBI(C:xY)(t:TA):TE:=λσ H Q=>t σ H λvs H1=>∃e v,vs=[.ref e,v]/\H1 e=vD (.ext (exo e C vE))/\Q .non H1
theorem ZO5(h:H a=vD o):upd H a o=H:=by
 funext b;unfold upd;split
 ·rename_i z;rw[z,h]
 ·rfl
theorem ZIc{pl:Sem Bool}(hC:Et X.K C=vF)(hg:Gl X x)(hm:X.mg x=vD (.ref W))(hs:PySem.W.specialIn X.K (.ref W) "__getattribute__"=vD (vD (.builtin "type.__getattribute__")))(hr:PySem.W.readsIn X.K W mc=vF)
  (hf:PySem.W.findCls X.K (.ref W) mc "__init__"=vD (.val (.builtin "ValueError.__init__"))) (ha:PA X [a1,a2] t) (hdb:(x==("__debug__":Str))=vG:=by decide)
  (he:vV [a1,a2] X.env=(vG,eval a1 X.env)::vV [a2] X.env:=by rfl) (hpl:(xG pos (vV [a2] X.env)).any (·.1)=vG:=by rfl)
  (ht:eval (.Call (.Attribute (.Name x p) "__init__" apos) [a1,a2] [] pos) X.env=(do
   let ov<-eval (.Name x p) X.env
   standAt apos.atName
   let(f,first)<-holding [ov] (getMethod ov "__init__" pl)
   callWith pos f first (xG pos (vV [a1,a2] X.env)) (xH pos (xS [] X.env))):=by rfl):
  PE X (.Call (.Attribute (.Name x p) "__init__" apos) [a1,a2] [] pos) (tBI C t):=by
 intro vC s σ H Q I h;refine PySem.W.methodCall_KW (pl:=pl) (H9 I hg hm ?_ hdb) ht;refine PySem.W.method_cls I.kIn hs (PySem.W.cls_value I.kIn hr hf (by decide) ?_);refine PyProof.Rows.callWith_builtin1 (thn (ha pos vC _ σ H _ (I.tok _) h) λus s1 ⟨vs,H1,I1,r,e,v,ev,hx,q⟩=>?_) he hpl;subst ev;obtain⟨u,rfl⟩:∃u,us=[.ref e,u]:=by
  cases r with
  | cons r1 r2=>
   cases r2 with
   |cons r3 r4=>
    cases r4
    obtain rfl:=(show _=Value.ref e from r1)
    exact⟨_,rfl⟩
 obtain⟨⟨tp,hob⟩,_,_⟩:=I1.hok e _ hx;obtain⟨bm,N,nm,qn,bs,sn,sub,ab,col,dd,k0,k1,k2,k3,k5,hcl,T,m,hN,_⟩:=Jw I1.kIn hC;obtain⟨hp,g,d,tk,os⟩:=s1;have F:=PySem.F.excBase_ValueError;refine wpAny_call (codeAny_call_builtin F.init.plain F.initEntry (wpAny_check_init_subT F T hcl hob rfl ?_))
 wp_walk
 show EP X vC σ Q .none {heap:=(hp.push {cls:=.type "tuple",data:=.seq #[u]}).update e (Obj.mapFields (·.setIfInBounds 0 (Value.ref hp.objs.size))),gens:=g,drawn:=d,toks:=tk,os:=os}
 have he1:(hp.push {cls:=.type "tuple",data:=.seq #[u]}).get? e=vD (exO C vE tp):=zQ _ hob
 have he2:((hp.push {cls:=.type "tuple",data:=.seq #[u]}).update e (Obj.mapFields (·.setIfInBounds 0 (Value.ref hp.objs.size)))).get? e=vD (exO C vE hp.objs.size):=qk _ he1 rfl
 have J:=I1.write (t':=tk) (x:=e) (e:=e) (o:=.ext (exo e C vE)) (h':=(hp.push {cls:=.type "tuple",data:=.seq #[u]}).update e (Obj.mapFields (·.setIfInBounds 0 (Value.ref hp.objs.size)))) (by rw[hx];trivial) (.inl rfl)
  (λb o n k=>by rw[qA _ _ (Ne.symm n)];exact zQ _ k) ⟨_,he2⟩ (Vv ⟨_,he2⟩)
 rw[ZO5 hx]at J;exact⟨.non,H1,J,rfl,q⟩
end
theorem Qq(h:tyN v=n)(hn:¬""=n):v=.type n:=by cases v<;>first|exact absurd h hn|exact congrArg Value.type h
theorem ZK1(h:isRf v=vF):∃c,v=.ref c:=by cases v<;>first|exact⟨_,rfl⟩|cases h
theorem ZJ9(h:l.map tyN=["ValueError","Exception","BaseException","object"]):l=vmro:=by
 rcases l with _|⟨a,_|⟨b,_|⟨c,_|⟨d,_|⟨e,l⟩⟩⟩⟩⟩<;>simp only[zE,xV,List.cons.injEq,reduceCtorEq,and_false]at h
 obtain⟨h1,h2,h3,h4,_⟩:=h;rw[Qq h1 (by decide),Qq h2 (by decide),Qq h3 (by decide),Qq h4 (by decide)]
theorem ZF8{P:List xC->Prop}(h0:P vmro)(h1:∀c r,P r->P (.ref c::r)):∀{l:List xC},O5 l=vF->P l:=by
 intro l
 induction l with
 |nil=>intro e;cases e
 |cons a r ih=>
  intro e;rcases Bool.or_eq_true_iff.mp e with e|e
  ·obtain⟨e1,e2⟩:=qM.mp e;obtain⟨c,rfl⟩:=ZK1 e1;exact h1 c r (ih e2)
  ·rw[ZJ9 (of_decide_eq_true e)];exact h0
theorem ZOo(self:xC):∀{l:List xC},O5 l=vF->refuseLoop self "__setattr__" l=pure ():=
 ZF8 (P:=λl=>refuseLoop self "__setattr__" l=pure ()) (PySem.F.store_ValueError.passes self) λc r h=>by rw[refuseLoop_ref];exact h
theorem ZMj:∀{l:List xC},O5 l=vF->l.contains (.type "object")=vF:=
 ZF8 (P:=λl=>l.contains (.type "object")=vF) (by simp) λc r h=>by rw[List.contains_cons,h,Bool.or_true]
section
open PySem.W
variable{prog:xy}{w:xD}{A:xq}{s:xA}{K:v9}{x C:xY}{R:Result->xA->Prop}
theorem ZLN(X:K.In s.heap)(I:InstAt s.heap x ox C od)(hp:R3 K C=vF)(ht:takerIn K C name=vD r)
  (h:∀b,vK (vQ prog w) A.in1 (match r with |some a=>Builtin.ObjectAttr.setByDescriptor a (.ref x) v|none=>Builtin.ObjectAttr.storeInOwnDict (.ref x) (.ref C) (.str name tk) name v b)
   (λfin s'=>match fin with | .done f=>R (.ok f) s' | .again c'=>c'.quiet=vF/\codeAny (vQ prog w) A c' R s') (λe s'=>R (.error e) s') s):
  codeAny (vQ prog w) A (.call (.builtin "object.__setattr__") ⟨[.ref x,.str name tk,v],[]⟩) R s:=by
 obtain⟨cd,hcd,hve⟩:=any_some hp;obtain⟨at0,hat,htr⟩:=Option.bind_eq_some_iff.mp ht;have full:cd.mro≠[]:=λz=>by rw[z]at hve;cases hve
 have top:mroIn K C (.type "object")=vD vF:=by unfold mroIn;rw[hcd];show(if cd.mro.isEmpty=vF then _ else _)=_;rw[if_neg (by simpa using full),ZMj hve]
 have line:Looks (vQ prog w) s.heap (mroOf (.ref C)) cd.mro:=(looks_clsIn X hcd).andThen Looks.now;have obj:Looks (vQ prog w) s.heap (isInstance (.ref x) (.type "object")) vF:=I.type.andThen (looks_mroIn X top);have tk3:Looks (vQ prog w) s.heap (Builtin.ObjectAttr.storeTaker? at0) r:=by
  rcases at0 with _|av
  ·cases htr;exact Looks.now
  ·obtain⟨bb,h1,h2⟩:=zM.mp htr;subst h2
   exact(looks_takesIn X h1).andThen (by cases bb<;>exact Looks.now)
 refine codeAny_call_builtin F.store_object.slot.plain F.store_object.entry (@check_slot (vQ prog w) _ _ _ "object.__setattr__" "object" "__setattr__" (.ref x) [.str name tk,v] [] _ F.store_object.kind F.store_object.split obj (F.store_object.args (.ref x) (.str name tk) v) ?_);rw[osa_eq,refuse_eq];apply vq;apply vq;refine I.type.here ?_;apply vq;refine line.here ?_;rw[ZOo _ hve]
 apply v6;apply vq;refine I.type.here ?_;apply vq;refine(looks_findIn X hat).here ?_;apply vq;exact tk3.here (h _)
end
section
variable{prog:xy}{w:xD}{A:xq}{E:xC->xA->Prop}{s:xA}{K:PySem.W.Frag}{e C t:xY}{name:Str}{v:xC}
theorem ZQb(X:K.In s.heap)(he:s.heap.get? e=vD (exO C vE t))
  (hs:PySem.W.findIn K (.ref C) "__setattr__"=vD (vD (.builtin "object.__setattr__"))) (hp:R3 K C=vF) (ht:PySem.W.takerIn K C name=vD vE) (hh:PySem.W.hasDictIn K C=vF)
  (h:∀h' dx tk,s.heap.objs.size<=dx->h'.get? e=vD (exO C (vD dx) t)->h'.Ns1 dx (λy=>if y=name then vD v else vE)->(∀b o,b≠e->s.heap.get? b=vD o->h'.get? b=vD o)->Q () {s with heap:=h',toks:=tk}):
  vK (vQ prog w) A (setAttr (.ref e) name v) Q E s:=by
 have J:PySem.W.InstAt s.heap e (exO C vE t) C vE:=⟨he,rfl,rfl,trivial⟩;refine PySem.W.set_plain X J hs (ZLN (s:={s with toks:=s.toks+1}) (r:=vE) X J hp ht λb=>?_);obtain⟨cd,hc,hd'⟩:=PySem.W.any_some hh;refine vq (v6 (vq (vq (wpAny_loadPart he (vq (PySem.W.Looks.here (s:={s with toks:=s.toks+1}) (PySem.W.looks_clsIn X hc) ?_))))));rw[hd'];have hx1:(s.heap.push {cls:=.type "dict",data:=.dict #[]}).get? e=vD (exO C vE t):=zQ _ he
 have ne:e≠s.heap.objs.size:=zC (zj he);refine vq (wpAny_alloc' ?_);refine vq (wpAny_update' hx1 ?_);unfold dictMade;refine v6 ?_;have hgd:((s.heap.push {cls:=.type "dict",data:=.dict #[]}).update e λo=>{cls:=o.cls,dict:=vD s.heap.objs.size,data:=o.data,slots:=o.slots}).get? s.heap.objs.size=vD {cls:=.type "dict",data:=.dict #[]}:=
  (Heap.get?_update_ne _ _ _ _ ne.symm).trans (Heap.get?_push_at rfl rfl)
 have hnd:((s.heap.push {cls:=.type "dict",data:=.dict #[]}).update e λo=>{cls:=o.cls,dict:=vD s.heap.objs.size,data:=o.data,slots:=o.slots}).Ns s.heap.objs.size (λ_=>vE):=
  ⟨_,#[],_,hgd,rfl,λy hy=>absurd hy (by simp),λ_=>rfl⟩
 show vK _ _ (Builtin.ObjectAttr.storeInDict s.heap.objs.size _ name v) _ _ _;unfold Builtin.ObjectAttr.storeInDict Builtin.ObjectAttr.newKeyGuard;refine vq (v6 (vq (wpAny_nsSet1 (Heap.Ns1.of_empty hnd) λh' hn' hs'=>?_)));obtain⟨oD,esD,epD,hoD,hdD,hcD⟩:=hn'.count (Within.cons name v Within.nil);refine vq (wpAny_lookBehind hoD (by rw[hdD];exact pastItsLine_dict (z5 hcD (by rw[qV,j2,vJ];lia))) ?_)
 refine v6 (h h' s.heap.objs.size _ (zY _) ?_ hn' λb o n hb=>?_)
 ·exact(hs'.2 e ne).trans (qk _ hx1 rfl)
 ·exact(hs'.2 b (zC (zj hb))).trans ((Heap.get?_update_ne _ _ _ _ n).trans (zQ _ hb))
end
structure XSet (K:PySem.W.Frag) (C:xY) (f:Str):Prop where
 ec:Et K C=vF
 sa:PySem.W.findIn K (.ref C) "__setattr__"=vD (vD (.builtin "object.__setattr__"))
 po:R3 K C=vF
 tk:PySem.W.takerIn K C f=vD vE
 hd:PySem.W.hasDictIn K C=vF
section
variable{X:Cx}{C:xY}{f:Str}{o value:xz}{pos pos':Pos}{ta tv:TE}
def sXf(C:xY)(f:Str)(ta tv:TE):TS:=λD σ H=>tv σ H λy H1=>ta σ H1 λx H2=>∃e,x=.ref e/\H2 e=vD (.ext (exo e C vE))/\
 ∀dx o,H2 dx=vE->dx≠e->D.nx σ (upd (upd H2 e (.ext (exo e C (vD dx)))) dx (.frz o (.xd [(f,y)])))
theorem ZJq(S:XSet X.K C f)(ha:PE X o ta)(hv:PE X value tv)(hs:swapsWith value (vD (.Attribute o f pos')) pos.line X.env=pure vG):PS X (.Assign [.Attribute o f pos'] value pos) (sXf C f ta tv):=by
 intro vC s σ H D I h;refine plainObj_wpAny_Assign_Attribute (thn (hv vC s σ H _ I h) λu s1 ⟨y,H1,I1,ry,q⟩=>thn (ha vC s1 σ H1 _ I1 q) λov s2 ⟨x,H2,I2,rx,e,ex,hx,q2⟩=>?_) hs;subst ex;obtain rfl:ov=Value.ref e:=rx;obtain⟨⟨t,hob⟩,_,_⟩:=I2.hok e _ hx;refine ZQb I2.kIn hob S.sa S.po S.tk S.hd λh' dx tk hz he' hn kp=>?_
 have fx:H2 dx=vE:=I2.hok.fresh hz;have ne:dx≠e:=λz=>by rw[z,hx]at fx;cases fx
 obtain⟨od,hod⟩:∃od,h'.get? dx=vD od:=by obtain⟨o,_,_,k,_⟩:=hn;exact⟨o,k⟩
 have J:=I2.write (t':=tk) (x:=e) (e:=e) (o:=.ext (exo e C (vD dx))) (h':=h') (by rw[hx];trivial) (.inl rfl) (λb o n k=>kp b o n k) ⟨_,he'⟩ (Vv ⟨t,he'⟩);have fx':upd H2 e (.ext (exo e C (vD dx))) dx=vE:=by unfold upd;rw[if_neg ne];exact fx
 have K2:HOk X.prog X.w (upd (upd H2 e (.ext (exo e C (vD dx)))) dx (.frz od (.xd [(f,y)]))) h':=λb ob z=>by
  by_cases zb:b=dx
  ·subst zb;have zo:ob=.frz od (.xd [(f,y)]):=by
    have z':upd (upd H2 e (.ext (exo e C (vD b)))) b (.frz od (.xd [(f,y)])) b=vD (.frz od (.xd [(f,y)])):=by unfold upd;rw[if_pos rfl]
    rw[z']at z;exact(Option.some.inj z).symm
   subst zo;refine⟨hod,_,hn,λg=>?_⟩;by_cases zg:g=f
   ·subst zg;simp[qN];exact ry
   ·have:(g==f)=vG:=by simpa using zg
    simp[qN,this,zg]
    trivial
  ·have z':upd H2 e (.ext (exo e C (vD dx))) b=vD ob:=by unfold upd at z⊢;rw[if_neg zb]at z;exact z
   refine(J.hok b ob z').stay (λ_ _ _ k=>k) (λb' k=>?_) λb' xs k=>?_
   ·have:b'≠dx:=λw=>by rw[w,fx']at k;cases k
    show upd _ dx _ b'=_;unfold upd at k⊢;rw[if_neg this];exact k
   ·have:b'≠dx:=λw=>by rw[w,fx']at k;cases k
    show upd _ dx _ b'=_;unfold upd at k⊢;rw[if_neg this];exact k
 have ud:∀b,b≠e->b≠dx->upd (upd H2 e (.ext (exo e C (vD dx)))) dx (.frz od (.xd [(f,y)])) b=H2 b:=λb n1 n2=>by unfold upd;rw[if_neg n2,if_neg n1]
 have U:Un X.fs [] H2 (upd (upd H2 e (.ext (exo e C (vD dx)))) dx (.frz od (.xd [(f,y)]))) s2.heap h':=by
  have nd:∀b o,s2.heap.get? b=vD o->b≠dx:=λb o k z=>by have:=zj k;rw[z]at this;exact absurd this (Nat.not_lt.mpr hz)
  have n0:∀b,H2 b=vE->b≠e:=λb k z=>by rw[z,hx]at k;cases k
  refine⟨λb o k n _ _=>kp b o (n0 b n) k,λb o k n _ _=>⟨o.slots,kp b o (n0 b n) k⟩,λb o k n _=>by rw[ud b (n0 b n) (nd b o k)];exact n,λb o k _=>?_,λb xs k=>?_,λb o u k=>?_,λb ps k=>⟨#[],?_⟩⟩
  ·by_cases z:b=e
   ·subst z;exact⟨_,he'⟩
   ·exact⟨o,kp b o z k⟩
  ·rw[ud b (λz=>by rw[z,hx]at k;cases k) (λz=>by rw[z,fx]at k;cases k)];exact k
  ·rw[ud b (λz=>by rw[z,hx]at k;cases k) (λz=>by rw[z,fx]at k;cases k)];exact k
  ·rw[ud b (λz=>by rw[z,hx]at k;cases k) (λz=>by rw[z,fx]at k;cases k)];simpa using k
 exact⟨σ,_,I2.un (t':=tk) U K2,q2 dx od fx ne⟩
end
def intS(i:Int):Prop:=i.natAbs.log2<1920/\(Str.ofString (toString i)).length<=1000
def Xu(w:V):Prop:=(∃i:Int,w=.int i/\intS i)∨w=.non
section
variable{X:Cx}{j:Nat}{v s1 s2:Str}{k1 k2 p1 p2 pv pf pos}
noncomputable def tFs(j:Nat):TE:=λσ H Q=>∃w:V,σ[j]?=vD (vD w)/\Xu w/\∀x,Q (.str x) H
theorem ZSH(hN:X.N[j]?=vD v)(hv:Vis X.env.scope v)(l1:s1.length<=1000)(l2:s2.length<=1000)(hd:(v==("__debug__":Str))=vG:=by decide)(hcd:(v==("__classdict__":Str))=vG:=by decide):
  PE X (.JoinedStr [.Constant (.str s1) k1 p1,.FormattedValue (.Name v pv) (-1) vE pf,.Constant (.str s2) k2 p2] pos) (tFs j):=by
 intro vC s σ H Q I h;obtain⟨w,hσ,hw,q⟩:=h;have la:∀a b:Str,(a++b).length=a.length+b.length:=λa b=>by show(Str.append a b).length=_;unfold Str.append Str.length;simp
 have sz:∀n,n<=1000000->n<=sizeLine:=λn h=>by rw[vJ];lia
 refine JoinedStr_many (joinParts_cons (thn (Tf (X:=X) vC s σ H (λx H'=>x=.str s1/\H'=H) I ⟨rfl,rfl⟩) λu s1' h1=>?_));obtain⟨x,H1,I1,rx,rfl,rfl⟩:=h1;obtain⟨t0,rfl⟩:=rx;refine⟨sz _ (by rw[la];show 0+_<=_;lia),?_⟩;refine joinParts_cons (FormattedValue_plain (thn (O9 (pos:=pv) hN hv hd hcd vC s1' σ H1 (λx H'=>x=w/\H'=H1) I1 ?_) λu s2' h1=>?_))
 ·exact⟨w,hσ,rfl,rfl⟩
 obtain⟨x,H2,I2,rx,rfl,rfl⟩:=h1;rcases hw with⟨i,rfl,hi,ls⟩|rfl
 ·obtain⟨t1,rfl⟩:=rx;refine formatField_int_small hi ⟨sz _ (by rw[la,la];show 0+_+_<=_;lia),?_⟩;refine joinParts_consE (joinParts_cons (thn (Tf (X:=X) vC _ σ H2 (λx H'=>x=.str s2/\H'=H2) (I2.tok _) ⟨rfl,rfl⟩) λu s3' h1=>?_));obtain⟨x,H3,I3,rx,rfl,rfl⟩:=h1;obtain⟨t2,rfl⟩:=rx;refine⟨sz _ (by rw[la,la,la];show 0+_+_+_<=_;lia),?_⟩;exact joinParts_nilE (joinParts_nil ⟨.str _,H3,I3.tok _,⟨_,rfl⟩,q _⟩ (sz _ (by rw[la,la,la];show 0+_+_+_<=_;lia)))
 ·cases(show u=Value.none from rx)
  have ls:(Str.ofString "None").length<=1000:=by decide
  refine wpAny_formatField_none ⟨sz _ (by rw[la,la];show 0+_+_<=_;lia),?_⟩;refine joinParts_consE (joinParts_cons (thn (Tf (X:=X) vC _ σ H2 (λx H'=>x=.str s2/\H'=H2) (I2.tok _) ⟨rfl,rfl⟩) λu s3' h1=>?_));obtain⟨x,H3,I3,rx,rfl,rfl⟩:=h1;obtain⟨t2,rfl⟩:=rx;refine⟨sz _ (by rw[la,la,la];show 0+_+_+_<=_;lia),?_⟩;exact joinParts_nilE (joinParts_nil ⟨.str _,H3,I3.tok _,⟨_,rfl⟩,q _⟩ (sz _ (by rw[la,la,la];show 0+_+_+_<=_;lia)))
end
def spI(C:xY)(f:Str):Sp:=λvs H Q _=>∃(e:xY)(i:V),vs=[.ref e,i]/\Xu i/\H e=vD (.ext (exo e C vE))/\∀dx o,H dx=vE->dx≠e->Q .non (upd (upd H e (.ext (exo e C (vD dx)))) dx (.frz o (.xd [(f,i)])))
structure XBase (K:PySem.W.Frag) (mg:Str->Option xC) (x:Str) (W:xY):Prop where
 m:mg x=vD (.ref W)
 s:PySem.W.specialIn K (.ref W) "__getattribute__"=vD (vD (.builtin "type.__getattribute__"))
 r:PySem.W.readsIn K W (.type "type")=vF
 f:PySem.W.findCls K (.ref W) (.type "type") "__init__"=vD (.val (.builtin "ValueError.__init__"))
theorem ZRR{P:xy}{w:xD}{K:PySem.W.Frag}{x xw v f s1 s2:Str}{st:xB}{fa C W:xY}{k:Nat}{pw pa pc pe p1 p2 p3 p4 p5 p6 p7 p8 pv pf:Pos}{k1 k2}
  (F:Fun K x qual st fa fd) (S:FnScope ["self",v] ["self",v] (Ag st)) (XS:XSet K C f) (XB:XBase K mg xw W)
  (hb:Cp st=[.Expr (.Call (.Attribute (.Name xw pw) "__init__" pa) [.Name "self" p1,.JoinedStr [.Constant (.str s1) k1 p2,.FormattedValue (.Name v pv) (-1) vE pf,.Constant (.str s2) k2 p3] p4] [] pc) pe,.Assign [.Attribute (.Name "self" p5) f p6] (.Name v p8) p7])
  (l1:s1.length<=1000) (l2:s2.length<=1000) (hgl:(Ag st).names.lookup xw=vD .globalImplicit) (hdw:(xw==("__debug__":Str))=vG) (hdv:(v==("__debug__":Str))=vG) (hcv:(v==("__classdict__":Str))=vG)
  (hvs:Vis (Ag st) "self") (hvv:Vis (Ag st) v)
  (hev:∀env:Env,∃pl:Sem Bool,eval (.Call (.Attribute (.Name xw pw) "__init__" pa) [.Name "self" p1,.JoinedStr [.Constant (.str s1) k1 p2,.FormattedValue (.Name v pv) (-1) vE pf,.Constant (.str s2) k2 p3] p4] [] pc) env=(do
   let ov<-eval (.Name xw pw) env
   standAt pa.atName
   let(f,first)<-holding [ov] (getMethod ov "__init__" pl)
   callWith pc f first (xG pc (vV [.Name "self" p1,.JoinedStr [.Constant (.str s1) k1 p2,.FormattedValue (.Name v pv) (-1) vE pf,.Constant (.str s2) k2 p3] p4] env)) (xH pc (xS [] env)))):
  FnOk P w K mg base CX0 (k+1) fa fd ["self",v] (spI C f):=by
 refine F.ok S (λvs H Q E ⟨e,i,z,_⟩=>by rw[z];rfl) (λcdv A outer s H vs Q E hr h=>?_);obtain⟨e,i,rfl,hi,hx,q⟩:=h;rw[hb];generalize hX:(El CX0 P w K mg base ["self",v] qual (Ag st) fa cdv A outer s H E).nox=X;have hK:X.K=K:=by rw[<-hX];rfl
 have hm:X.mg=mg:=by rw[<-hX];rfl
 have hN:X.N=(["self",v]:List Str):=by rw[<-hX];rfl
 have hs:X.env.scope=Ag st:=by rw[<-hX];rfl
 have pself:∀p,PE X (.Name "self" p) (Lh 0):=λp=>O9 (by rw[hN];rfl) (by rw[hs];exact hvs) (by decide) (by decide)
 have pv':∀p,PE X (.Name v p) (Lh 1):=λp=>O9 (by rw[hN];rfl) (by rw[hs];exact hvv) hdv hcv
 have hG:Gl X xw:=by unfold Gl;rw[<-hX];exact hgl
 obtain⟨pl,hpl⟩:=hev X.env;have c1:PE X (.Call (.Attribute (.Name xw pw) "__init__" pa) [.Name "self" p1,.JoinedStr [.Constant (.str s1) k1 p2,.FormattedValue (.Name v pv) (-1) vE pf,.Constant (.str s2) k2 p3] p4] [] pc) (tBI C (P0 (Lh 0) (P0 (tFs 1) Nz))):=
  ZIc (mc:=.type "type") (W:=W) (by rw[hK];exact XS.ec) hG (by rw[hm];exact XB.m) (by rw[hK];exact XB.s) (by rw[hK];exact XB.r) (by rw[hK];exact XB.f) (Iz (pself p1) (Iz (ZSH (by rw[hN];rfl) (by rw[hs];exact hvv) l1 l2 hdv hcv) Ph)) hdw rfl rfl hpl
 have c2:PS X (.Assign [.Attribute (.Name "self" p5) f p6] (.Name v p8) p7) (sXf C f (Lh 0) (Lh 1)):=ZJq (by rw[hK];exact XS) (pself p5) (pv' p8) rfl;refine⟨_,ZEo (ZDl c1 rfl) (ZFP c2),?_⟩;refine⟨.ref e,rfl,i,rfl,hi,λxx=>⟨e,_,rfl,hx,?_⟩⟩;exact⟨i,rfl,.ref e,rfl,e,rfl,hx,q⟩
section
variable{M:Model}{A:xq}{E:xC->xA->Prop}{env:Env}
variable{nm q:Str}{C N:xY}{bs bm:List xC}{hdct:Bool}{sn:List Str}{sub:List xC}{ab:Bool}{col:Option Bool}{dd:Option xY}{k0 k1 k2 k3 k5:Option xC}{newId:String}
theorem ZNW(hh:A.handled=vE)
  (h:vK M A x (λv s₁=>∃e od t bm N nm q bs hdct sn sub ab col dd k0 k1 k2 k3 k5 newId,v=.ref e/\s₁.heap.get? C=vD (excClassObj nm q C N bs bm hdct sn sub ab col dd k0 k1 k2 k3 k5 newId)/\bm.contains (.type "BaseException")=vF/\
   s₁.heap.get? e=vD {cls:=.ref C,dict:=od,data:=.fields #[.ref t,.none,.none,.none,.bool vG,.none]}/\E (.ref e) s₁) E s):vK M A (raiseStmt env (vD x) vE) Q E s:=by
 unfold raiseStmt;refine vq (vk h (λv s₁ h₁=>?_) λ_ _ x=>x);obtain⟨e,od,t,bm,N,nm,q,bs,hdct,sn,sub,ab,col,dd,k0,k1,k2,k3,k5,newId,rfl,hC,hb,he,hE⟩:=h₁;have hcB:(Value.ref C::bm).contains (.type "BaseException")=vF:=by rw[List.contains_cons,hb,Bool.or_true]
 obtain⟨hp,g,d,tk,os⟩:=s₁
 repeat (first|with_reducible refine wpAny_loadPart_at he ?_|with_reducible refine wpAny_loadPart_at hC ?_|(with_reducible refine wpAny_isSubtype_exc hC ?_;rw[hcB])|wp_step)
 exact wpAny_raiseNew_none hh hE
theorem ZB2(hh:A.handled=vE)
  (h:vK M A (eval x env) (λv s₁=>∃e od t bm N nm q bs hdct sn sub ab col dd k0 k1 k2 k3 k5 newId,v=.ref e/\s₁.heap.get? C=vD (excClassObj nm q C N bs bm hdct sn sub ab col dd k0 k1 k2 k3 k5 newId)/\bm.contains (.type "BaseException")=vF/\
   s₁.heap.get? e=vD {cls:=.ref C,dict:=od,data:=.fields #[.ref t,.none,.none,.none,.bool vG,.none]}/\E (.ref e) s₁) E s):vK M A (exec (.Raise (vD x) vE pos) env) Q E s:=by
 rw[arm_exec_Raise];refine vq (wpAny_standAt (ZNW (C:=C) hh ?_));exact vq (vk h (λv s₃ h₃=>vq (wpAny_standAt (v6 h₃))) λ_ _ x=>x)
end
section
variable{X:Cx}{C fI:xY}{f x:Str}{np cpos pos:Pos}{a:xz}{ta:TA}{E:XK}{k:Nat}{fd:xj}{v:Str}
def tRz(C:xY)(f:Str)(E:XK)(ta:TA):TS:=λ_ σ H=>ta σ H λvs H1=>∃i:V,vs=[i]/\Xu i/\∀dx o,H1 dx=vE->E (.ref C) (vD dx) (upd H1 dx (.frz o (.xd [(f,i)])))
theorem ZRY(hcalm:X.calm=vF)(hs:X.stack=X.env::X.outer)(hex:X.ex=[])(hfr:X.env.frame=vD X.env.locals)(hxe:∀e s,Ht X E e s->X.xe e s)
  (XS:XSet X.K C f) (hi:Kf X.K C fI=vF) (hfn:∃o,X.K.lookup fI=vD o/\o.cls=.type "function") (F:FnOk X.prog X.w X.K X.mg X.base CX0 k fI fd ["self",v] (spI C f)) (hr:Room (k+1) X.A) (hb:Binds X.K fd ["self",v] [])
  (hg:Gl X x) (hm:X.mg x=vD (.ref C)) (hk:PySem.W.keepIn X.K (.ref C)=vF) (ha:PA X [a] ta) (hdb:(x==("__debug__":Str))=vG:=by decide)
  (he:vV [a] X.env=(vG,eval a X.env)::vV [] X.env:=by rfl) (hpl:(xG cpos (vV [] X.env)).any (·.1)=vG:=by rfl):
  PS X (.Raise (vD (.Call (.Name x np) [a] [] cpos)) vE pos) (tRz C f E ta):=by
 intro vC s σ H D I h;refine ZB2 (C:=C) (I.ok.hd hcalm) ?_;refine vY (H9 I hg hm ?_ hdb);refine PySem.W.callWith_K (h₀:=X.base) I.ok.mod.kin hk (thn (ha cpos vC s σ H _ I h) λus s1 ⟨vs,H1,I1,r,i,ev,hi',q⟩=>⟨I1.kIn,?_⟩) he hpl;subst ev;obtain⟨bm,N,nm,qn,bs,sn,sub,ab,col,dd,k0,k1,k2,k3,k5,hcl,T,m,hN,hin⟩:=Jw I1.kIn XS.ec;obtain⟨oI,hfI,hfc⟩:=hfn;have hfI:=I1.kIn _ _ hfI;have hl1:us.length<=sizeLine:=by rw[<-r.length,vJ];show 1<=_;decide
 obtain⟨hp,g,d,tk,os⟩:=s1;have FB:=PySem.F.excBase_ValueError;refine ZKZ FB T hcl hN (hin fI hi) hfI hfc (λh' e hm' hz=>?_) hl1;obtain⟨t,ht,_,_⟩:=hm'.there;have ho:exo e C vE h':=⟨t,ht⟩;have I2:=I1.laid (t':=tk) (a:=e) (o:=.ext (exo e C vE)) (h':=h') hm'.keeps hz (Vv ho);have fe:H1 e=vE:=I1.hok.fresh hz;obtain⟨u,rfl⟩:∃u,us=[u]:=by
  cases r with
  |cons r1 r2=>cases r2;exact⟨_,rfl⟩
 have r2:Vals [V.ref e,i] [Value.ref e,u]:=.cons rfl r;have h2e:upd H1 e (.ext (exo e C vE)) e=vD (.ext (exo e C vE)):=by unfold upd;rw[if_pos rfl]
 have h2n:∀b,b≠e->upd H1 e (.ext (exo e C vE)) b=H1 b:=λb n=>by unfold upd;rw[if_neg n]
 refine wpAny_call (xO (F.run _ X.stack _ _ ⟨[Value.ref e,u],[]⟩ [Value.ref e,u] [V.ref e,i] (λw H3=>w=.non/\∃dx o,H1 dx=vE/\dx≠e/\H3=upd (upd (upd H1 e (.ext (exo e C vE))) e (.ext (exo e C (vD dx)))) dx (.frz o (.xd [(f,i)]))) E0 (hr.make C [u] [])
  (I2.env0.make C [u] []) (by simpa using hb _ [Value.ref e,u] I2.kIn rfl) r2 ⟨e,i,rfl,hi',h2e,λdx o n1 n2=>⟨rfl,dx,o,by rw[<-h2n dx n2];exact n1,n2,rfl⟩⟩) λr s' hq'=>?_)
 cases r with
 |error e=>exact hq'.elim
 | ok fl=>
  cases fl with
  |next=>exact False.elim hq'
  |brk=>exact False.elim hq'
  |cont=>exact False.elim hq'
  | ret w=>
   obtain⟨_,_,I3,_⟩:=I2.after hq';obtain⟨vw,H3,os',bare',un,hok,rw',rfl,dx,o,nd,ne,rfl⟩:=hq';refine⟨rw',?_⟩;have hd3:∀b,b≠e->upd (upd (upd H1 e (.ext (exo e C vE))) e (.ext (exo e C (vD dx)))) dx (.frz o (.xd [(f,i)])) b=upd H1 dx (.frz o (.xd [(f,i)])) b:=λb n=>by
    unfold upd;split
    ·rfl
    ·simp[n]
   have he3:upd (upd (upd H1 e (.ext (exo e C vE))) e (.ext (exo e C (vD dx)))) dx (.frz o (.xd [(f,i)])) e=vD (.ext (exo e C (vD dx))):=by unfold upd;rw[if_neg (Ne.symm ne),if_pos rfl]
   have feN:upd H1 dx (.frz o (.xd [(f,i)])) e=vE:=by unfold upd;rw[if_neg (Ne.symm ne)];exact fe
   obtain⟨⟨t',ht'⟩,_,_⟩:=hok e _ he3;obtain⟨bm',N',nm',qn',bs',sn',sub',ab',col',dd',l0,l1,l2,l3,l5,hcl',T',_⟩:=Jw I3.kIn XS.ec;have ne':∀b o,hp.get? b=vD o->b≠e:=λb o k z=>by rw[z,hm'.new]at k;cases k
   have mk:Made X H1 ⟨hp,g,d,tk,os⟩ e (.ref C) (vD dx) s' (upd H1 dx (.frz o (.xd [(f,i)]))):=by
    refine⟨os',bare',⟨λb o k n hb hx=>un.keep b o (hm'.keeps b o k) (by rw[h2n b (ne' b o k)];exact n) hb hx,λb o k n hb hx=>un.slot b o (hm'.keeps b o k) (by rw[h2n b (ne' b o k)];exact n) hb hx,λb o k n hx=>?_,λb o k hx=>un.there b o (hm'.keeps b o k) hx,λb xs k=>?_,λb o u k=>?_,λb ps k=>?_⟩,λb ob z=>?_,⟨_,_,ht',rfl,rfl,rfl,rfl⟩,feN,hm'.new⟩
    ·rw[<-hd3 b (ne' b o k)];exact un.free b o (hm'.keeps b o k) (by rw[h2n b (ne' b o k)];exact n) hx
    ·have nb:b≠e:=λz=>by rw[z,fe]at k;cases k
     rw[<-hd3 b nb];exact un.tups b xs (by rw[h2n b nb];exact k)
    ·have nb:b≠e:=λz=>by rw[z,fe]at k;cases k
     rw[<-hd3 b nb];exact un.frzs b o u (by rw[h2n b nb];exact k)
    ·have nb:b≠e:=λz=>by rw[z,fe]at k;cases k
     rw[<-hd3 b nb];exact un.tbls b ps (by rw[h2n b nb];exact k)
    ·have nb:b≠e:=λz'=>by rw[z',feN]at z;cases z
     rw[<-hd3 b nb]at z;refine(hok b ob z).stay (λ_ _ _ k=>k) (λb' k=>?_) λb' xs k=>?_
     ·rw[<-hd3 b' (λz'=>by rw[z',he3]at k;cases k)];exact k
     ·rw[<-hd3 b' (λz'=>by rw[z',he3]at k;cases k)];exact k
   exact⟨e,vD dx,t',bm',N',nm',qn',bs',vF,sn',sub',ab',col',dd',l0,l1,l2,l3,l5,_,rfl,hcl',T'.hasType FB.hasBase,ht',hxe _ _ (ZB8 hs hex hfr I1 mk (q dx o nd) ⟨C,rfl⟩)⟩
end
section
variable{X:Cx}{vC:List (xY×Obj)}{σ:St}{H H':Hp}{s s':xA}{B h'':Heap}{ea:xY}{cls:xC}{od:Option xY}{E:XK}{fl:xC}
theorem ZKh(I:Inv X vC σ H s)(os:s'.os=s.os)(bare:AllBare s'.gens)(un:Un (frs X.stack) [] H H' s.heap s'.heap)(hok:HOk X.prog X.w H' s'.heap)
  (bb:∀b o,s.heap.get? b=vD o->H b=vE->b∉frs X.stack->B.get? b=vD o) (al:∀b,H' b≠vE->∃o,B.get? b=vD o) (eb:B.get? ea=vE) (st:B.StaysIn s'.heap) (new:s.heap.get? ea=vE)
  (n:Noted B X.stack ea cls od fl s'.heap h''):∃oe vs,h''.get? ea=vD oe/\oe.cls=cls/\oe.dict=od/\oe.data=.fields vs/\H' ea=vE/\Inv X vC σ (upd H' ea (.frz oe (.own 0))) {s' with heap:=h''}:=by
 obtain⟨oe,vs,T,oT,ts,he,⟨hc,hd⟩,hda,_⟩:=n.tr;have fe:H' ea=vE:=by
  cases z:H' ea with
  |none=>rfl
  |some u=>
   obtain⟨o,k⟩:=al ea (by rw[z];simp);rw[eb]at k;cases k
 have ud:∀b,b≠ea->upd H' ea (.frz oe (.own 0)) b=H' b:=λb k=>by unfold upd;rw[if_neg k]
 have ns:∀b o,s.heap.get? b=vD o->b≠ea:=λb o k z=>by rw[z,new]at k;cases k
 have hk:=ZDG hok al st n.st;refine⟨oe,vs,he,hc,hd,hda,fe,I.call' (ch:=[]) os ⟨λb o q hn hb _=>n.st b o (bb b o q hn hb),λb o q hn hb _=>?_,λb o q hn hx=>?_,λb o q hx=>?_,λb xs q=>?_,λb o u q=>?_,λb ps q=>?_⟩ (λb ob z=>?_) bare λb z=>absurd z (by simp)⟩
 ·obtain⟨sl,k⟩:=un.slot b o q hn hb (by simp);obtain⟨_,o2,k2,nf⟩:=I.stack.mem hb;rw[q]at k2;cases k2;obtain⟨sl',k3⟩:=n.up b _ k nf;exact⟨sl',k3⟩
 ·rw[ud b (ns b o q)];exact un.free b o q hn hx
 ·obtain⟨o1,k1⟩:=un.there b o q hx;exact n.th b o1 k1
 ·have:=un.tups b xs q;rw[ud b (λz=>by rw[z,fe]at this;cases this)];exact this
 ·have:=un.frzs b o u q;rw[ud b (λz=>by rw[z,fe]at this;cases this)];exact this
 ·obtain⟨m,this⟩:=un.tbls b ps q;exact⟨m,by rw[ud b (λz=>by rw[z,fe]at this;cases this)];exact this⟩
 ·by_cases zb:b=ea
  ·subst zb;have zo:ob=.frz oe (.own 0):=by unfold upd at z;rw[if_pos rfl]at z;exact(Option.some.inj z).symm
   subst zo;exact⟨he,oe,he⟩
  ·rw[ud b zb]at z;refine(hk b ob z).stay (λ_ _ _ k=>k) (λb' k=>?_) λb' xs k=>?_
   ·rw[ud b' (λz'=>by rw[z',fe]at k;cases k)];exact k
   ·rw[ud b' (λz'=>by rw[z',fe]at k;cases k)];exact k
theorem lands(hs:X.stack=X.env::X.outer)(hfr:X.env.frame=vD X.env.locals)(I:Inv X vC σ H s)(h:CXx X.prog X.w X.stack H s E e s')
  (q:∀(ea:xY)(C:xC)(od:Option xY)(H':Hp)(oe:Obj)(vs:Array xC)(h'':Heap),e=.ref ea->h''.get? ea=vD oe->oe.cls=C->oe.dict=od->oe.data=.fields vs->E C od H'->H' ea=vE->Inv X vC σ (upd H' ea (.frz oe (.own 0))) {s' with heap:=h''}->
   (∃B:Heap,Trc h'' B ea C od .none)->(∃C',C=.ref C')->Q () {s' with heap:=h''}):
  vK (vQ X.prog X.w) X.A (noteFrame e X.env) (λ_ s2=>vK (vQ X.prog X.w) X.A (setFlight e vE) Q E' s2) E' s':=by
 obtain⟨ea,cls,od,H',B,rfl,os,bare,un,hok,fly,bb,new,hE,hcC⟩:=h;have ff:=fly.fr;rw[hs]at ff;refine ZF6 (B:=B) (L:=X.env.locals) (outer:=X.outer) (by rw[I.ok.frames,hs]) ff hfr fly.tr fly.st fly.eb λh1 n1=>?_
 refine ZAQ n1.fr n1.tr n1.st λh2 n2=>?_
 have n:=n1.trans n2;rw[<-hs]at n;obtain⟨oe,vs,he,hc,hd,hda,fe,J⟩:=ZKh I os bare un hok bb fly.al fly.eb fly.st new n;exact q ea cls od H' oe vs h2 rfl he hc hd hda hE fe J ⟨B,n.tr⟩ hcC
end
section
variable{M:Model}{A:xq}{E:xC->xA->Prop}{h:Heap}{g:Array GenState}{d:Drawn}{t:Nat}{os:OsState}
theorem ZJP
  (hC:h.get? C=vD (excClassObj nm q C N bs bm hdct sn sub ab col dd k0 k1 k2 k3 k5 newId)) (hW:h.get? W=vD (excClassObj nm' q' W N' bs' bm' hdct' sn' sub' ab' col' dd' l0 l1 l2 l3 l5 newId')) (he:h.get? e=vD oe) (hc:oe.cls=.ref C)
  (hb:bm'.contains (.type "BaseException")=vF) (hin:(Value.ref C::bm).contains (.ref W)=b) (hq:Q b ⟨h,g,d,t,os⟩):vK M A (excMatches (.ref e) (.ref W)) Q E ⟨h,g,d,t,os⟩:=by
 have hcB:(Value.ref W::bm').contains (.type "BaseException")=vF:=by rw[List.contains_cons,hb,Bool.or_true]
 have f:=tc_notTuple;unfold excMatches
 repeat (first|(with_reducible refine wpAny_loadPart_at he ?_;rw[hc])|with_reducible refine wpAny_loadPart_at hW ?_|(with_reducible refine wpAny_isSubtype_exc hW ?_;rw[hcB])|(with_reducible refine wpAny_isSubtype_exc hC ?_;rw[hin])|wp_step)
 cases b<;>(wp_walk;exact hq)
theorem ZNg(ht:Trc s.heap B e cls od .none)(q:∀h',(∀b o,s.heap.get? b=vD o->h'.get? b=vD o)->Q () {s with heap:=h'}):vK M A (setFlight (.ref e) vE) Q E s:=by
 obtain⟨oe,vs,T,oT,ts,he,_,hd,h1,⟨nT,nTe⟩,hT,dT,h3⟩:=ht;unfold setFlight;refine vq (vx he hd h1 ?_)
 rw[if_pos (show(Value.ref T != Value.none)=vF from by simp)]
 refine wpAny_setField hT dT (qz.mp h3).1 (q _ λb o k=>?_);by_cases z:b=T
 ·subst z;rw[hT]at k;cases k;rw[qk _ hT (Obj.isFreed_of_fields (Obj.data_mapFields dT _))];obtain⟨c,dd,dt,sl⟩:=oT;obtain rfl:dt=.fields ts:=dT;unfold Obj.mapFields;dsimp only
  congr 2
  have:ts.setIfInBounds 3 Value.none=ts:=by
   refine Array.ext_getElem? λi=>?_
   rw[Array.getElem?_setIfInBounds];split
   ·rename_i z;subst z;rw[if_pos (qz.mp h3).1,h3]
   ·rfl
  exact congrArg _ this
 ·rw[qA _ _ (Ne.symm z)];exact k
end
section
variable{X:Cx}{vC:List (xY×Obj)}{σ:St}{H:Hp}{s:xA}
theorem Uh(I:Inv X vC σ H s)(hN:X.N.Nodup)(hi:X.N[i]?=vD n)(hk:X.env.kindOf n=vD .local)
  (q:∀s',Inv X vC (σ.set i vE) H s'->Q () s'):vK M A (do bindName X.env n .none;unbindBehindTheSuite X.env n pos) Q E s:=by
 obtain⟨m,hn,hl⟩:=I.loc;have hp:(X.env.scope.kind == .class||(X.env.scope.kind == .module&&X.env.locals != X.env.globals))=vG:=by rw[I.ok.kind];rfl
 refine wpAny_nameGoes_keeps hk hn hp λh' v hn' hs=>q _ ?_
 have neL:∀b o,X.s₀.heap.get? b=vD o->b≠X.env.locals:=λb o e=>zC (zq (zj e) I.ok.above)
 refine⟨I.ok,I.os,I.bare,⟨λb o e nn hb hx=>(hs.2 b (neL b o e)).trans (I.base.keep b o e nn hb hx),λb o e nn hb hx=>?_,I.base.free,λb o e hx=>?_,I.base.tups,I.base.frzs,I.base.tbls⟩,⟨_,hn',λj y v' e1 e2 e3=>?_⟩,λy c e=>?_,I.free,I.Fw,λp hp=>?_,?_,by rw[j0];exact I.len⟩
 ·obtain⟨sl,e1⟩:=I.base.slot b o e nn hb hx;exact⟨sl,(hs.2 b (neL b o e)).trans e1⟩
 ·obtain⟨o',e1⟩:=I.base.there b o e hx;exact⟨o',(hs.2 b (neL b o e)).trans e1⟩
 ·have hj:j≠i:=λz=>by
   subst z;rw[qP]at e2;split at e2
   ·split at e2<;>cases e2
   ·rename_i z;exact z rfl
  rw[qL (Ne.symm hj)]at e2;obtain⟨u',r',z⟩:=hl j y v' e1 e2 e3;refine⟨u',r',?_⟩;rcases z with⟨k,e⟩|⟨k,c,e,z⟩
  ·refine .inl ⟨k,?_⟩;have:y≠n:=λe=>hj (Xb hN e1 (e▸hi))
   simp[this,e]
  ·exact .inr ⟨k,c,e,z.sameBut hs (I.cne y c e)⟩
 ·obtain⟨w',z⟩:=I.cell y c e;exact⟨w',z.sameBut hs (I.cne y c e)⟩
 ·obtain⟨e,nn,ne,nf,d⟩:=I.pin p hp;exact⟨(hs.2 p.1 ne).trans e,nn,ne,nf,d⟩
 ·exact λa o e=>(I.hok a o e).stay (λb u hb k=>(hs.2 b (λz=>by
   rcases hb with rfl|hb
   ·rw[z,I.free]at e;cases e
   ·rw[z,I.free]at hb;cases hb)).trans k) (λ_ k=>k) λ_ _ k=>k
end
noncomputable def Ka(X:Cx)(ea:xY):Cx:={X with A:=X.A.mark (vD (.ref ea)),calm:=vG,xe:=λ_ _=>False}
section
variable{X:Cx}{vC:List (xY×Obj)}{σ:St}{H:Hp}{s:xA}{ea:xY}
theorem ZEa(I:Inv X vC σ H s):Inv (Ka X ea) vC σ H s:=
 ⟨⟨I.ok.mod,I.ok.kind,I.ok.glob,I.ok.blt,I.ok.above,I.ok.inj,I.ok.has,I.ok.cab,λz=>absurd z (by simp[Ka]),I.ok.frames,I.ok.stk,I.ok.exf,I.ok.bs,I.ok.bsz,I.ok.noex,I.ok.exfs,I.ok.funs,I.ok.frf⟩,I.os,I.bare,I.base,I.loc,I.cell,I.free,I.Fw,I.pin,I.hok,I.len⟩
theorem Rv{calm:X.calm=vF}(hh:X.A.handled=vE)(I:Inv (Ka X ea) vC σ H s):Inv X vC σ H s:=
 ⟨⟨I.ok.mod,I.ok.kind,I.ok.glob,I.ok.blt,I.ok.above,I.ok.inj,I.ok.has,I.ok.cab,λ_=>hh,I.ok.frames,I.ok.stk,I.ok.exf,I.ok.bs,I.ok.bsz,I.ok.noex,I.ok.exfs,I.ok.funs,I.ok.frf⟩,I.os,I.bare,I.base,I.loc,I.cell,I.free,I.Fw,I.pin,I.hok,I.len⟩
end
section
variable{X:Cx}{f W:xY}{fn x n:Str}{fp cp ep np hp pos:Pos}{a:xz}{es:List xz}{ta:TA}{sp:Sp}{k i:Nat}{fd:xj}{ps:List Str}{b₀:xB}{suite:List xB}{th:TS}
def takes(K:PySem.W.Frag)(C W:xY):Bool:=Et K C&&Et K W&&match K.lookup C with
 |some ⟨_,_,.cls cd,_⟩=>cd.mro.contains (.ref W)
 |_=>vG
end
theorem ZNx:∀n:Nat,n<1000->intS (n:Int):=by
 have h:∀n:Fin 1000,((n.1:Int).natAbs.log2<1920/\(Str.ofString (toString (n.1:Int))).length<=1000):=by decide +kernel
 exact λn hn=>h ⟨n,hn⟩
def sRz(c f:Str)(t:DA):DS:=λS G=>match t S G with
 |.ok ds G1=>(match ds with
  |[.int i]=>if 0<=i/\i<1000 then .err ⟨c,[(f,.int i)]⟩ G1 else .bad
  |[.non]=>.err ⟨c,[(f,.non)]⟩ G1
  |_=>.bad)
 |.err x G1=>.err x G1
 |.bad=>.bad
section
variable{X:Cx}{E:XK}{C fI:xY}{c f v:Str}{np cpos pos:Pos}{a:xz}{t:DA}{k:Nat}{fd:xj}
theorem ZOB(hn:PySem.W.nsIn X.K xU c=vD (vD (.ref C)))(hcalm:X.calm=vF)(hs:X.stack=X.env::X.outer)(hex:X.ex=[])(hfr:X.env.frame=vD X.env.locals)(hxe:∀e s,Ht X E e s->X.xe e s)
  (XS:XSet X.K C f) (hi:Kf X.K C fI=vF) (hfn:∃o,X.K.lookup fI=vD o/\o.cls=.type "function") (F:FnOk X.prog X.w X.K X.mg X.base CX0 k fI fd ["self",v] (spI C f)) (hr:Room (k+1) X.A) (hb:Binds X.K fd ["self",v] [])
  (hg:Gl X c) (hm:X.mg c=vD (.ref C)) (hk:PySem.W.keepIn X.K (.ref C)=vF) (ha:QA X E [a] t) (hdb:(c==("__debug__":Str))=vG:=by decide) (hst:notStar a=vF:=by rfl):
  QS X E (.Raise (vD (.Call (.Name c np) [a] [] cpos)) vE pos) (sRz c f t):=
 (ZRY hcalm hs hex hfr hxe XS hi hfn F hr hb hg hm hk ha hdb (Dy a [] X.env hst) rfl).mono λW σ H h=>by
  obtain⟨w,S,G,hk,rfl,sm,r,h⟩:=h;refine⟨w,S,G,hk,rfl,sm,r,?_⟩;unfold sRz at h;cases ht:t S G with
  |err x G1=>rw[ht]at h;exact h
  |bad=>rw[ht]at h;exact h
  | ok ds G1=>
   rw[ht]at h;dsimp only at h;split at h
   ·rename_i i;split at h
    ·rename_i hi;intro b vs x s1 q;obtain⟨v1,r1,rfl,q1,q2⟩:=q;obtain rfl:v1=.int i:=q1;obtain rfl:r1=[]:=q2;refine⟨.int i,rfl,.inl ⟨i,rfl,?_⟩,λdx o nd=>?_⟩
     ·have:=ZNx i.toNat (by lia);rwa[show((i.toNat:Nat):Int)=i by lia]at this
     ·refine h.2 (b.put dx (.frz o (.xd [(f,.int i)]))) C (vD dx) (x.trans (Ext.put nd)) (s1.put nd) ?_ (.inr ⟨dx,o,[(f,.int i)],rfl,?_,rfl,?_⟩)
      ·show PySem.W.nsIn b.K _ _=_;rw[x.k,hk];exact hn
      ·show upd b.H dx _ dx=_;unfold upd;rw[if_pos rfl]
      ·exact⟨.int i,[],rfl,rfl,rfl⟩
    ·exact h.elim
   ·intro b vs x s1 q;obtain⟨v1,r1,rfl,q1,q2⟩:=q;obtain rfl:v1=.non:=q1;obtain rfl:r1=[]:=q2;refine⟨.non,rfl,.inr rfl,λdx o nd=>?_⟩;refine h.2 (b.put dx (.frz o (.xd [(f,.non)]))) C (vD dx) (x.trans (Ext.put nd)) (s1.put nd) ?_ (.inr ⟨dx,o,[(f,.non)],rfl,?_,rfl,?_⟩)
    ·show PySem.W.nsIn b.K _ _=_;rw[x.k,hk];exact hn
    ·show upd b.H dx _ dx=_;unfold upd;rw[if_pos rfl]
    ·exact⟨.non,[],rfl,rfl,rfl⟩
   ·exact h.elim
end
noncomputable def unnm(i:Nat):SR->SR
 |.nx S G=>.nx (S.set i vE) G
 |.bk S G=>.bk (S.set i vE) G
 |.ct S G=>.ct (S.set i vE) G
 |.rt d G=>.rt d G
 |_=>.bad
theorem RepS.unset(r:RepS a S σ)(i:Nat):RepS a (S.set i vE) (σ.set i vE):=by
 refine⟨by simpa using r.len,λj e he=>?_⟩;rw[qP]at he⊢;by_cases hij:i=j
 ·subst hij;rw[if_pos rfl]at he
  split at he<;>cases he
 ·rw[if_neg hij]at he⊢;exact r.get j e he
section
variable{X:Cx}{E:XK}{f W:xY}{fn x n:Str}{fp cp ep np hp pos:Pos}{a:xz}{es:List xz}{t:DA}{F:List D->DH->R D}{k i:Nat}{fd:xj}{ps:List Str}{b₀:xB}{suite:List xB}{hb:DS}{ws:List Str}
end
theorem ZD1{P:xy}{w:xD}{K:PySem.W.Frag}{x:Str}{st:xB}{f:xY}{N ps:List Str}{k:Nat}{b:DS}(F:Fun K x qual st f fd)(S:FnScope N ps (Ag st))
  (hbody:∀(cdv:xC)(A:xq)(outer:List Env)(s:xA)(H:Hp)(E:XK),Room k (A.deeper (envOfC qual (Ag st) s.heap.objs.size f cdv))->QSs (El (CXx P w) P w K mg base N qual (Ag st) f cdv A outer s H E) E (Cp st) b):
  FnOk P w K mg base (CXx P w) (k+1) f fd ps (lFx K (Ao ps.length (N.length-ps.length) b)):=by
 have hlen:∀vs H Q E,lFx K (Ao ps.length (N.length-ps.length) b) vs H Q E->vs.length=ps.length:=λvs H Q E h=>by
  obtain⟨a,G,ds,hk,rfl,sm,r,h⟩:=h;unfold Ao at h;split at h
  ·rename_i hl;rw[<-r.length];exact hl
  ·exact h.elim
 obtain⟨oc,od,kV,doc,pm,an,cdv,ct,osl,rfl,lk,hcd⟩:=F.ex;refine ZAn lk hcd S hlen λA outer s H vs Q E hr h=>⟨lS K E b,hbody cdv A outer s H E hr,?_⟩
 have hl:=hlen vs H Q E h;obtain⟨a,G,ds,hk,rfl,sm,r,h⟩:=h;unfold Ao at h;split at h
 ·have h2:=Pb sm h;refine⟨a,ds.map vD++zX (N.length-ps.length) vE,G,hk,rfl,sm,Uc r _ _ (by rw[hl]),?_⟩
  revert h2
  cases b (ds.map vD++zX (N.length-ps.length) vE) G with
  |nx S1 G1=>exact λh2 c σ x s1 _=>h2 c .non x s1 rfl
  |rt d G1=>exact λh2=>h2
  |err e G1=>exact λh2=>h2
  |bk S1 G1=>exact λh2=>h2.elim
  |ct S1 G1=>exact λh2=>h2.elim
  |bad=>exact λh2=>h2
 ·exact h.elim
theorem ZHS{P:xy}{w:xD}{K:PySem.W.Frag}{N:List Str}{scope:x0}{f:xY}{cd:xC}{A:xq}{outer:List Env}{s:xA}{H:Hp}{E:XK}:
  Passes (CXx P w) (El (CXx P w) P w K mg base N qual scope f cd A outer s H E) E:=λvC σ H1 s1 e s' I h=>ZQc rfl rfl rfl I h
theorem ownX{P:xy}{w:xD}{K:PySem.W.Frag}{N:List Str}{scope:x0}{f:xY}{cd:xC}{A:xq}{outer:List Env}{s:xA}{H:Hp}{E:XK}:
  PassesOwn (vQ P w) (El (CXx P w) P w K mg base N qual scope f cd A outer s H E).A (El (CXx P w) P w K mg base N qual scope f cd A outer s H E).env (El (CXx P w) P w K mg base N qual scope f cd A outer s H E).xe:=PassesOwn.leaving
section
variable{X:Cx}{E:XK}{x:Str}{p pos:Pos}{e:xz}{es:List xz}{tr:DA}
theorem Y9(FF:FnOk X.prog X.w X.K X.mg X.base (CXx X.prog X.w) k f fd ps (lFx X.K F))(hr:Room k X.A)(hg:Gl X x)(hm:X.mg x=vD (.ref f))(hk:PySem.W.keepIn X.K (.ref f)=vF)(hb:Binds X.K fd ps [])
  (hx:Passes (CXx X.prog X.w) X E) (ha:QA X E (e::es) tr) (hdb:(x==("__debug__":Str))=vG:=by decide) (he:notStar e=vF:=by rfl) (hpl:es.all notStar=vF:=by rfl):QE X E (.Call (.Name x p) (e::es) [] pos) (dFn F tr):=
 (Zh FF hr hg hm hk hb .nil hx ha hdb (Dy e es X.env he) (Gn pos X.env es hpl)).mono λσ H Q h=>by obtain⟨a,S,G,hk,rfl,s,r,h⟩:=Lk h;refine⟨a,S,G,hk,rfl,s,r,h.imp ?_⟩;rintro vs _ ⟨b,G1,ds,hk,rfl,s1,q,h1⟩;exact⟨b,G1,ds,hk,rfl,s1,by rw[qj];exact q,h1⟩
end
structure RoomH (k:Nat) (A:xq):Prop where
 dp:A.depth+3*k+5<recursionLimit
 un:A.units+16*k+200<cLine
theorem RoomH.of(r:Room k A):RoomH k A:=⟨r.dp,r.un⟩
theorem RoomH.held(r:RoomH k A):RoomH k (A.mark v):=⟨r.dp,r.un⟩
structure FnOkH (P:xy) (w:xD) (K:PySem.W.Frag) (mg:Str->Option xC) (base:Heap) (k:Nat) (f:xY) (fd:xj) (ps:List Str) (sp:Sp):Prop where
 len:∀vs H Q E,sp vs H Q E->vs.length=ps.length
 run:∀(A:xq)(outer:List Env)(s:xA)(H:Hp)(args:Args)(us:List xC)(vs:List V)(Q:VK)(E:XK),RoomH k A->Env0 P w K mg base A outer s H->BindsTo s fd args (ps.zip us)->Vals vs us->sp vs H Q E->
  codeAny (vQ P w) A (.call (.ref f) args) (CR CX0 outer P w H s Q E) s
noncomputable def cxH(X:Cx):Cx:={X with calm:=vG}
theorem ZK6{P:xy}{w:xD}{K:PySem.W.Frag}{x:Str}{st:xB}{f:xY}{N ps:List Str}{k:Nat}{b:DS}(F:Fun K x qual st f fd)(S:FnScope N ps (Ag st))
  (hbody:∀(cdv:xC)(A:xq)(outer:List Env)(s:xA)(H:Hp)(E:XK),RoomH k (A.deeper (envOfC qual (Ag st) s.heap.objs.size f cdv))->QSs (cxH (El CX0 P w K mg base N qual (Ag st) f cdv A outer s H E).nox) E0 (Cp st) b):
  FnOkH P w K mg base (k+1) f fd ps (lF K (Ao ps.length (N.length-ps.length) b)):=by
 have hlen:∀vs H Q E,lF K (Ao ps.length (N.length-ps.length) b) vs H Q E->vs.length=ps.length:=λvs H Q E h=>by
  obtain⟨a,G,ds,hk,rfl,sm,r,h⟩:=h;unfold Ao at h;split at h
  ·rename_i hl;rw[<-r.length];exact hl
  ·exact h.elim
 obtain⟨oc,od,kV,doc,pm,an,cdv,ct,osl,rfl,lk,hcd⟩:=F.ex;refine⟨hlen,λA outer s H args us vs Q E rm ev bn rv pr=>?_⟩;have nl:=hlen _ _ _ _ pr;have old:=λb o e=>(ev.bs b o e).1
 have kin:=ev.mod.kin.keeps old;have scp:∀y∈ps.zip us,(Ag st).names.lookup y.1=vD .local∨((Ag st).names.lookup y.1=vD .cell/\((cellsFrom (s.heap.objs.size+1) (Ag st).names []).lookup y.1).isSome=vF):=λy hy=>
  (S.par y.1 (jU (a:=y.1) (b:=y.2) hy).1).imp id λq=>⟨q,PySem.W.cellsFrom_some _ _ _ (.inl q)⟩
 refine codeAny_call_function (show A.depth<_ by have:=rm.dp;lia) (kin _ _ lk) rfl S.co S.gen rfl (PySem.W.codeRec_of kin hcd) (bn _ _ _ _ (wpAny_newFunctionEnv_cells S.kind scp λenv he s1 x=>?_));subst he;refine⟨(ev.mod.nolimit.keeps old).keeps x.toInCall.keep,codeAny_func ?_⟩;have J:Inv (El CX0 P w K mg base N qual (Ag st) f cdv ({A with handled:=vE}:xq) outer s H E) [] (start N vs) H s1:=ZFN S rfl ⟨ev.frames,ev.mod,ev.bs,ev.bsz,ev.funs,ev.frf,ev.hok,ev.bare⟩ nl rv x
 have I:Inv (cxH (El CX0 P w K mg base N qual (Ag st) f cdv A outer s H E).nox) [] (start N vs) H s1:=by obtain⟨⟨a1,a2,a3,a4,a5,a6,a7,a8,_,a10,a11,a12,a13,a14,a15,a16,a17,a18⟩,b2,b3,b4,b5,b6,b7,b8,b9,b10,b11⟩:=J;exact⟨⟨a1,a2,a3,a4,a5,a6,a7,a8,λz=>absurd z (by simp[cxH]),a10,a11,a12,a13,a14,a15,a16,a17,a18⟩,b2,b3,b4,b5,b6,b7,b8,b9,b10,b11⟩
 have rm':RoomH k (A.deeper (envOfC qual (Ag st) s.heap.objs.size f cdv)):=by
  obtain⟨r1,r2⟩:=rm;constructor
  ·show A.depth+1+3*k+5<_;lia
  ·show A.units+3+16*k+200<_;lia
 have run:lS K E0 b {nx:=λ_ H'=>Q .non H',rt:=Q} (start N vs) H:=by
  obtain⟨a,G,ds,hk,rfl,sm,r,h⟩:=pr;unfold Ao at h;split at h
  ·have h2:=Pb sm h;refine⟨a,ds.map vD++zX (N.length-ps.length) vE,G,hk,rfl,sm,Uc r _ _ (by rw[nl]),?_⟩
   revert h2
   cases b (ds.map vD++zX (N.length-ps.length) vE) G with
   |nx S1 G1=>exact λh2 c σ x s1 _=>h2 c .non x s1 rfl
   |rt d G1=>exact λh2=>h2
   |err e G1=>exact λh2=>h2
   |bk S1 G1=>exact λh2=>h2.elim
   |ct S1 G1=>exact λh2=>h2.elim
   |bad=>exact λh2=>h2
  ·exact h.elim
 refine vk (hbody cdv A outer s H E rm' [] s1 (start N vs) H _ I run) (λfl s' hs=>?_) λ_ _ hs=>hs.elim
 rcases fl with _|_|_|u
 ·obtain⟨_,H',Z,q⟩:=hs;exact⟨.non,H',Z.os,Z.bare,Z.base,Z.hok,rfl,q⟩
 ·obtain⟨_,_,_,q⟩:=hs;exact q.elim
 ·obtain⟨_,_,_,q⟩:=hs;exact q.elim
 ·obtain⟨v,_,H',Z,ru,q⟩:=hs;exact⟨v,H',Z.os,Z.bare,Z.base,Z.hok,ru,q⟩
section
variable{X:Cx}{E:XK}{x:Str}{p pos:Pos}{e:xz}{es:List xz}{tr:DA}
theorem ZJh(FF:FnOkH X.prog X.w X.K X.mg X.base k f fd ps (lF X.K F))(hr:RoomH k X.A)(hg:Gl X x)(hm:X.mg x=vD (.ref f))(hk:PySem.W.keepIn X.K (.ref f)=vF)(hb:Binds X.K fd ps [])
  (ha:QA X E0 (e::es) tr) (hdb:(x==("__debug__":Str))=vG:=by decide) (he:notStar e=vF:=by rfl) (hpl:es.all notStar=vF:=by rfl):QE X E0 (.Call (.Name x p) (e::es) [] pos) (dFn F tr):=by
 have PP:PE X (.Call (.Name x p) (e::es) [] pos) (ZG0 (lF X.K F) [] E0 (lA X.K E0 tr)):=λvC s σ H Q I h=>by
  refine vY (H9 I hg hm ?_ hdb);refine PySem.W.callWith_K (h₀:=X.base) I.ok.mod.kin hk (thn (ha pos vC s σ H _ I h) λus s1 ⟨vs,H1,I1,r,q⟩=>⟨I1.kIn,?_⟩) (Dy e es X.env he) (Gn pos X.env es hpl);dsimp only at q;rw[qj]at q;have hl:(us++[]).length=ps.length:=by rw[qj,<-r.length];exact FF.len _ _ _ _ q
  refine wpAny_call (xO (FF.run X.A X.stack s1 H1 ⟨us,[]⟩ us vs Q E0 hr I1.env0 (by have:=hb s1 us I1.kIn hl;rwa[qj]at this) r q) λr s' hq=>?_);cases r with
  |error e=>exact hq.elim
  |ok fl=>
   cases fl with
   |ret u=>exact I1.after hq
   |next=>exact False.elim hq
   |brk=>exact False.elim hq
   |cont=>exact False.elim hq
 exact PE.mono PP λσ H Q h=>by obtain⟨a,S,G,hk,rfl,s,r,h⟩:=Lk h;refine⟨a,S,G,hk,rfl,s,r,h.imp ?_⟩;rintro vs _ ⟨b,G1,ds,hk,rfl,s1,q,h1⟩;exact⟨b,G1,ds,hk,rfl,s1,by rw[qj];exact q,h1⟩
end
structure XGet (K:PySem.W.Frag) (C:xY):Prop where
 ga:PySem.W.findIn K (.ref C) "__getattribute__"=vD (vD (.builtin "BaseException.__getattribute__"))
 gn:PySem.W.findIn K (.ref C) "__getattr__"=vD vE
 sb:PySem.W.subIn K (.ref C) (.type "BaseException")=vD vF
 hd:PySem.W.hasDictIn K C=vF
 cl:PySem.W.findIn K (.ref C) "__class__"=vD (vD (.builtin "object.__class__"))
 cg:PySem.W.specialIn K (.builtin "object.__class__") "__get__"=vD (vD (.builtin "getset_descriptor.__get__"))
 ct:PySem.W.takesIn K (.builtin "object.__class__")=vD vF
 mo:PySem.W.mroIn K C (.type "object")=vD vF
 kc:PySem.W.kitCls K (.ref C) (.ref C)=vD vF
 ec:Et K C=vF
section
variable{prog:xy}{w:xD}{A:xq}{E:xC->xA->Prop}{s:xA}{K:PySem.W.Frag}{x C:xY}{ox:Obj}{od:Option Obj}{name:Str}{tk:Tok}
theorem ZOm(X:K.In s.heap)(I:PySem.W.InstAt s.heap x ox C od)(hs:PySem.W.subIn K (.ref C) (.type "BaseException")=vD vF)(hq:Q () s):
  vK M A (xN "BaseException.__getattribute__" ⟨[.ref x,nameV],[]⟩) Q E s:=by
 have hk:builtinKind "BaseException.__getattribute__"=vD .slot:=by decide +kernel
 have hsplit:splitId "BaseException.__getattribute__"=vD ("BaseException","__getattribute__"):=by decide +kernel
 have ha:=F.args_bexc_ga (.ref x) nameV;have LI:PySem.W.Looks M s.heap (isInstance (.ref x) (.type "BaseException")) vF:=(I.type (M:=M)).andThen (PySem.W.looks_subIn X hs);obtain⟨h,g,d,t,os⟩:=s;simp only[xN,hk,hsplit];refine vq (LI.at ?_)
 repeat (first|wp_step)
 exact hq
theorem ZEs{Q:xC->xA->Prop}(X:K.In s.heap)(I:PySem.W.InstAt s.heap x ox C od)(G:XGet K C)
  (h:∀A',vK (vQ prog w) A' (Builtin.«object.__getattribute__» ⟨[.ref x,.str name tk],[]⟩) (λfin s'=>match fin with | .done (.ret v)=>PySem.W.handedIn v=vF/\Q v s'|_=>False) (λ_ _=>False) s):
  vK (vQ prog w) A (getAttrBy (.ref x) (.str name tk) fill expr) Q E s:=by
 have L0:=I.type (M:=vQ prog w);have L1:=PySem.W.looks_findIn (M:=vQ prog w) X G.ga;have _L:=PySem.W.looks_findIn (M:=vQ prog w) X G.gn;have f3:=F.excAttr_ValueError.ga.bind (.ref x)
 have hx0:(expr&&onTheHeap (Value.builtin "BaseException.__getattribute__"))=vG:=by cases expr<;>rfl
 obtain⟨hh,g,d,t,os⟩:=s;unfold getAttrBy;refine vv (vq (L0.at (vq (L1.at ?_))));dsimp only;rw[show(onTheHeap (Value.ref C)&&Value.builtin "BaseException.__getattribute__"==Value.builtin "object.__getattribute__")=vG by rw[show(Value.builtin "BaseException.__getattribute__"==Value.builtin "object.__getattribute__")=vG by decide +kernel];rfl];simp only[jq,if_false]
 unfold getAttrByItsOwn;show vK _ _ (typeLookup (.ref C) "__getattr__" >>=_) _ _ _;refine vq (_L.at ?_);refine vq (wpAny_attempt (vv ?_));unfold callGetattribute;rw[hx0];simp only[jq,if_false];unfold boundAndCalled;rw[f3];refine vq (v6 ?_);refine wpAny_call (codeAny_call_builtin F.excAttr_ValueError.ga.plain F.entry_bexc_ga (ZOm X I G.sb (vk (h _) (λfin s' z=>?_) λ_ _ z=>z.elim)))
 rcases fin with(_|_|_|_)|_<;>first|exact z.elim|exact PySem.W.handed_on z.1 z.2
theorem ZMo{v:xC}{Q:xC->xA->Prop}(X:K.In s.heap)(I:PySem.W.InstAt s.heap x ox C od)(G:XGet K C)(hf:PySem.W.findObj K C od name=vD (.value v))(hv:PySem.W.handedIn v=vF)(h:Q v s):
  vK (vQ prog w) A (getAttrBy (.ref x) (.str name tk) fill expr) Q E s:=by
 refine ZEs X I G λA'=>?_
 have L0:=I.type (M:=vQ prog w);have L1:=PySem.W.looks_find (M:=vQ prog w) X I hf;obtain⟨hh,g,d,t,os⟩:=s;refine vq (v6 (vq (v6 (vq (L0.at (vq (L1.at ?_)))))));exact v6 ⟨hv,h⟩
theorem ZP8{Q:xC->xA->Prop}(X:K.In s.heap)(I:PySem.W.InstAt s.heap x ox C od)(G:XGet K C)(h:Q (.ref C) s):
  vK (vQ prog w) A (getAttrBy (.ref x) (.str "__class__" tk) fill expr) Q E s:=by
 refine ZEs X I G λA'=>?_
 have hf:PySem.W.findObj K C od "__class__"=vD (.bind (.builtin "getset_descriptor.__get__") (.builtin "object.__class__")):=by obtain⟨cd,hc,_⟩:=PySem.W.any_some G.hd;unfold PySem.W.findObj;rw[hc,Option.bind_some,G.cl,Option.bind_some];simp[G.cg,G.ct]
 have L0:=I.type (M:=vQ prog w);have L1:=PySem.W.looks_find (M:=vQ prog w) X I hf;have cg:=λ(A:xq)(R:Result->xA->Prop)(z:R (.ok (.ret (.ref C))) s)=>PySem.W.class_get (prog:=prog) (w:=w) (A:=A) (R:=R) (tp:=.ref C) X I G.mo z
 obtain⟨hh,g,d,t,os⟩:=s;refine vq (v6 (vq (v6 (vq (L0.at (vq (L1.at ?_)))))));show vK _ _ (holding _ (call (.builtin "getset_descriptor.__get__") [.builtin "object.__class__",.ref x,.ref C]) >>=ret) _ _ _;exact vq (vv (wpAny_call (cg _ _ (v6 ⟨rfl,h⟩))))
theorem ZGY(G:XGet K C):PySem.W.KitX K (.ref x) (.ref C) (λh=>PySem.W.InstAt h x ox C od):=by
 refine⟨λ_ _ _ I=>I.type,λ_ _ X _=>(PySem.W.kit_cls X G.kc).2.1,λh tp dd its n sl X htp=>?_,λ{_ _ _ _ _ s}X I k=>?_⟩
 ·cases q:(Value.ref C == .ref tp)with
  |false=>rfl
  |true=>
   have z:C=tp:=Value.ref.inj (beq_iff_eq.mp q);obtain⟨_,_,_,_,_,_,_,_,_,_,_,_,_,_,_,hcl,_⟩:=Jw X G.ec;rw[z,htp]at hcl;have:=congrArg Obj.cls (Option.some.inj hcl);have z2:Value.type "tuple"=Value.type "type":=this;exact absurd (Value.type.inj z2) (by decide)
 ·obtain⟨hh,g,d,t,os⟩:=s;unfold getAttr? getAttrBy?;refine vq (wpAny_mkText (vq (wpAny_attempt ?_)));exact ZP8 (s:=⟨hh,g,d,t+1,os⟩) X I G (v6 k)
end
noncomputable def isx(tb:List (Str×Bool))(x:D)(G:DH):R D:=match x with
 | .ref i=>(match G[i]? with
  |some (.exc c _)=>(match tb.lookup c with
   |some b=>.ok (.bl b) G
   |none=>.bad)
  |_=>.bad)
 |_=>.bad
def gtx(cs:List Str)(f:Str)(x:D)(G:DH):R D:=match x with
 | .ref i=>(match G[i]? with
  |some (.exc c (p::r))=>if c∈cs then(match(p::r).lookup f with
   |some d=>.ok d G
   |none=>.bad)else .bad
  |_=>.bad)
 |_=>.bad
def HeldAt(H:Hp)(x:V)(C:xY)(us:List (Str×V)):Prop:=∃a oe u vs dx o,x=.ref a/\H a=vD (.frz oe u)/\oe.cls=.ref C/\oe.data=.fields vs/\oe.dict=vD dx/\H dx=vD (.frz o (.xd us))
theorem Sim.exc(s:Sim b G)(r:Rep b (.ref i) v)(h:G[i]?=vD (.exc c (p::fs))):∃C us,PySem.W.nsIn b.K xU c=vD (vD (.ref C))/\HeldAt b.H v C us/\RepF b (p::fs) us:=by
 obtain⟨_,ev⟩:=r;obtain⟨C,oe,u,vs,n,e,k1,k2,z⟩:=s.obj i _ h;rcases z with⟨z,_⟩|⟨dx,o,us,z1,z2,z3⟩
 ·cases z
 ·exact⟨C,us,n,⟨_,oe,u,vs,dx,o,ev,e,k1,k2,z1,z2⟩,z3⟩
def HeldC(H:Hp)(x:V)(C:xY):Prop:=∃a oe u vs,x=.ref a/\H a=vD (.frz oe u)/\oe.cls=.ref C/\oe.data=.fields vs/\(oe.dict=vE∨∃dx o us,oe.dict=vD dx/\H dx=vD (.frz o (.xd us)))
theorem Sim.Et(s:Sim b G)(r:Rep b (.ref i) v)(h:G[i]?=vD (.exc c fs)):∃C,PySem.W.nsIn b.K xU c=vD (vD (.ref C))/\HeldC b.H v C:=by
 obtain⟨_,ev⟩:=r;obtain⟨C,oe,u,vs,n,e,k1,k2,z⟩:=s.obj i _ h;rcases z with⟨_,z⟩|⟨dx,o,us,z1,z2,z3⟩
 ·exact⟨C,n,_,oe,u,vs,ev,e,k1,k2,.inl z⟩
 ·exact⟨C,n,_,oe,u,vs,ev,e,k1,k2,.inr ⟨dx,o,us,z1,z2⟩⟩
section
variable{X:Cx}{E:XK}{vC:List (xY×Obj)}{σ:St}{H:Hp}{s:xA}
theorem ZPF(I:Inv X vC σ H s)(h:HeldAt H x C us):∃(a:xY)(oe od:Obj)(mA:Str->Option xC),x=.ref a/\PySem.W.InstAt s.heap a oe C (vD od)/\(∀name,PySem.W.lookIn name od=vD (mA name))/\∀f,RelO (us.lookup f) (mA f):=by
 obtain⟨a,oe,u,vs,dx,o,rfl,ea,k1,k2,k3,ed⟩:=h
 obtain⟨ha,_⟩:=(show ObjOk X.prog X.w H s.heap a (.frz oe u)from I.hok a _ ea)
 obtain⟨hd,mA,hn,hr⟩:=(show ObjOk X.prog X.w H s.heap dx (.frz o (.xd us))from I.hok dx _ ed)
 obtain⟨od,ho,hl⟩:=Y7 hn;refine⟨a,oe,od,mA,rfl,⟨ha,k1,?_,?_⟩,hl,hr⟩
 ·unfold PySem.W.notCls;rw[k2]
 ·rw[k3];exact ho
theorem ZD9(I:Inv X vC σ H s)(h:HeldC H x C):∃(a:xY)(oe:Obj)(od:Option Obj),x=.ref a/\PySem.W.InstAt s.heap a oe C od:=by
 obtain⟨a,oe,u,vs,rfl,ea,k1,k2,z⟩:=h
 obtain⟨ha,_⟩:=(show ObjOk X.prog X.w H s.heap a (.frz oe u)from I.hok a _ ea)
 have nc:PySem.W.notCls oe=vF:=by unfold PySem.W.notCls;rw[k2]
 rcases z with z|⟨dx,o,us,z,ed⟩
 ·exact⟨a,oe,vE,rfl,ha,k1,nc,by rw[z];trivial⟩
 ·obtain⟨hd,mA,hn,hr⟩:=(show ObjOk X.prog X.w H s.heap dx (.frz o (.xd us))from I.hok dx _ ed)
  obtain⟨od,ho,hl⟩:=Y7 hn;exact⟨a,oe,vD od,rfl,ha,k1,nc,by rw[z];exact ho⟩
def rIs1(K:PySem.W.Frag)(cv:V)(cu:xC):List V->Hp->VK->Prop:=λvs H Q=>∃x C b,vs=[x,cv]/\HeldC H x C/\XGet K C/\PySem.W.kitOne K (.ref C) cu=vD b/\Q (.bl b) H
theorem ZMO(hcu:∀u,RelV cv u->u=cu):CallR X (.builtin "isinstance") (rIs1 X.K cv cu):=by
 intro vC s σ H xs us Q I rs h;obtain⟨x,C,b,rfl,hx,G,hk,q⟩:=h;obtain⟨u,u',rfl,ru,ru'⟩:∃u u',us=[u,u']/\RelV x u/\RelV cv u':=by
  cases rs with
  |cons p q=>cases q with
   |cons p' q'=>cases q';exact⟨_,_,rfl,p,p'⟩
 cases hcu _ ru';obtain⟨a,oe,od,rfl,J⟩:=ZD9 I hx
 cases(show u=Value.ref a from ru)
 exact PySem.W.kia_one (ZGY G) I.kIn J hk (λz=>nomatch z) λtk=>⟨.bl b,H,I.tok _,rfl,q⟩
def rIsT(K:PySem.W.Frag)(cvs:List V)(cus:List xC):List V->Hp->VK->Prop:=λvs H Q=>∃x C b p,vs=[x,.ref p]/\H p=vD (.tup cvs)/\HeldC H x C/\XGet K C/\PySem.W.kitAny K (.ref C) cus=vD b/\Q (.bl b) H
theorem ZM6(hcu:∀us,Vals cvs us->us=cus):CallR X (.builtin "isinstance") (rIsT X.K cvs cus):=by
 intro vC s σ H xs us Q I rs h;obtain⟨x,C,b,p,rfl,hp,hx,G,hk,q⟩:=h;obtain⟨u,u',rfl,ru,ru'⟩:∃u u',us=[u,u']/\RelV x u/\RelV (.ref p) u':=by
  cases rs with
  |cons p q=>cases q with
   |cons p' q'=>cases q';exact⟨_,_,rfl,p,p'⟩
 cases(show u'=Value.ref p from ru')
 obtain⟨a,oe,od,rfl,J⟩:=ZD9 I hx
 cases(show u=Value.ref a from ru)
 obtain⟨_,its,hv,ot,h1,h2,n,h3⟩:=(show ObjOk X.prog X.w H s.heap p (.tup cvs)from I.hok p _ hp)
 cases hcu _ hv;obtain⟨oc,od',odt,osl⟩:=ot;cases h2;cases h3
 exact PySem.W.kia_tup (ZGY G) I.kIn J h1 hk (λz=>nomatch z) λtk=>⟨.bl b,H,I.tok _,rfl,q⟩
variable{e ce:xz}{ces:List xz}{t:DE}{tb:List (Str×Bool)}{cv:V}{cu:xC}{cvs:List V}{cus:List xC}{p pos tp:Pos}
theorem ZIU(hg:Gl X "isinstance")(hm:X.mg "isinstance"=vE)(ha:QE X E e t)(hc:PE X ce (tC cv))(hcu:∀u,RelV cv u->u=cu)
  (htb:∀c b,tb.lookup c=vD b->∀C,PySem.W.nsIn X.K xU c=vD (vD (.ref C))->XGet X.K C/\PySem.W.kitOne X.K (.ref C) cu=vD b) (he:notStar e=vF:=by rfl) (hs:notStar ce=vF:=by rfl):
  QE X E (.Call (.Name "isinstance" p) [e,ce] [] pos) (dUn (isx tb) t):=
 (Xa (ZMO hcu) hg hm Z5 (Iz ha (Iz hc Ph (Dy ce [] X.env hs)) (Dy e [ce] X.env he)) (by decide) (by decide) (Dy e [ce] X.env he) (Gn pos X.env [ce] (by simp[hs]))).mono λσ H Q h=>by
  obtain⟨a,S,G,hk,rfl,s,r,h⟩:=h;refine⟨a,S,G,hk,rfl,s,r,(Dq h).imp ?_⟩;rintro v _ ⟨b,d,G1,rfl,x,s1,q,-,h1⟩;unfold isx at h1;split at h1
  ·rename_i i;split at h1
   ·rename_i c fs hi;split at h1
    ·rename_i bb hb;obtain⟨C,n,hx⟩:=s1.Et q hi;obtain⟨g1,g2⟩:=htb c bb hb C (by rw[<-hk,<-x.k];exact n);exact⟨v,C,bb,rfl,hx,g1,g2,h1 b _ (Ext.refl b) s1 rfl⟩
    ·exact h1.elim
   ·exact h1.elim
  ·exact h1.elim
theorem ZOv(hg:Gl X "isinstance")(hm:X.mg "isinstance"=vE)(ha:QE X E e t)(hc:PA X ces (λ_ H Q=>Q cvs H))(hl:cvs.length<=1000)(hcu:∀us,Vals cvs us->us=cus)
  (htb:∀c b,tb.lookup c=vD b->∀C,PySem.W.nsIn X.K xU c=vD (vD (.ref C))->XGet X.K C/\PySem.W.kitAny X.K (.ref C) cus=vD b) (he:notStar e=vF:=by rfl):
  QE X E (.Call (.Name "isinstance" p) [e,.Tuple ces x1 tp] [] pos) (dUn (isx tb) t):=
 (Xa (ZM6 hcu) hg hm Z5 (Iz ha (Iz (ZCS hc) Ph (Dy _ [] X.env rfl)) (Dy e _ X.env he)) (by decide) (by decide) (Dy e _ X.env he) (Gn pos X.env _ rfl)).mono λσ H Q h=>by
  obtain⟨a,S,G,hk,rfl,s,r,h⟩:=h;refine⟨a,S,G,hk,rfl,s,r,(Dq h).imp ?_⟩;rintro v _ ⟨b,d,G1,rfl,x,s1,q,-,h1⟩;unfold isx at h1;split at h1
  ·rename_i i;split at h1
   ·rename_i c fs hi;split at h1
    ·rename_i bb hb;refine⟨by rw[vJ];lia,λp hp=>?_⟩;obtain⟨C,n,hx⟩:=(s1.put (ho:=.tup cvs) hp).Et (q.mono (Ext.put hp)) hi;obtain⟨g1,g2⟩:=htb c bb hb C (by rw[<-hk,<-x.k];exact n);exact⟨v,C,bb,p,rfl,Ei,hx,g1,g2,h1 _ _ (Ext.put hp) (s1.put hp) rfl⟩
    ·exact h1.elim
   ·exact h1.elim
  ·exact h1.elim
variable{f:Str}{cs:List Str}
noncomputable def tXf(K:PySem.W.Frag)(ta:TE)(f:Str):TE:=λσ H Q=>ta σ H λx H1=>∃C us v,HeldAt H1 x C us/\XGet K C/\NoAttr K C f/\us.lookup f=vD v/\Q v H1
theorem ZQR(he:PE X e ta)(hb:xF e f X.env (eval e X.env)=eval e X.env):PE X (.Attribute e f pos) (tXf X.K ta f):=by
 intro vC s σ H Q I h;refine ZFS hb (thn (he vC s σ H _ I h) λu s1 ⟨x,H1,I1,rx,C,us,v,hx,G,n,l,q⟩=>?_);obtain⟨a,oe,od,mA,rfl,J,hl,hr⟩:=ZPF I1 hx
 cases(show u=Value.ref a from rx)
 obtain⟨u',hu,ru⟩:=RelO.some_of (v:=v) (o:=mA f) (by rw[<-l];exact hr f);obtain⟨hh,g,d,t,os⟩:=s1;unfold getAttr;refine vq (wpAny_mkText ?_);exact ZMo (s:=⟨hh,g,d,t+1,os⟩) I1.kIn J G (PySem.W.findObj_own G.hd n rfl (by rw[hl,hu])) (ZDi ru) ⟨v,H1,I1.tok _,ru,q⟩
theorem ZQJ(ha:QE X E e t)(hcs:∀c∈cs,∀C,PySem.W.nsIn X.K xU c=vD (vD (.ref C))->XGet X.K C/\NoAttr X.K C f)(hb:xF e f X.env (eval e X.env)=eval e X.env:=by rfl):
  QE X E (.Attribute e f pos) (dUn (gtx cs f) t):=
 (ZQR ha hb).mono λσ H Q h=>by
  obtain⟨a,S,G,hk,rfl,s,r,h⟩:=h;refine⟨a,S,G,hk,rfl,s,r,(Dq h).imp ?_⟩;rintro v _ ⟨b,d,G1,rfl,x,s1,q,-,h1⟩;unfold gtx at h1;split at h1
  ·rename_i i;split at h1
   ·rename_i c pf fs hi;split at h1
    ·rename_i hc;split at h1
     ·rename_i d' hd;obtain⟨C,us,n,hx,rf⟩:=s1.exc q hi;obtain⟨g1,g2⟩:=hcs c hc C (by rw[<-hk,<-x.k];exact n);obtain⟨u,eu,ru⟩:=rf.look hd;exact⟨C,us,u,hx,g1,g2,eu,h1 b u (Ext.refl b) s1 ru⟩
     ·exact h1.elim
    ·exact h1.elim
   ·exact h1.elim
  ·exact h1.elim
end
end _D
namespace _D
open PySem PySem.Spec PySem.W _L
open PyProof.Rows hiding St
variable{mg:Str->Option xC}
theorem K7{r:Option (Option xC)}{n:String}(h:isB r n=vF):r=vD (vD (.builtin n)):=by
 unfold isB at h;split at h
 ·rw[beq_iff_eq.mp h]
 ·cases h
theorem Hd{r:Option Bool}{b:Bool}(h:Bt r b=vF):r=vD b:=by
 unfold Bt at h;split at h
 ·rw[beq_iff_eq.mp h]
 ·cases h
theorem Qd{α:Type}{r:Option (Option α)}(h:N7 r=vF):r=vD vE:=by
 unfold N7 at h;split at h
 ·rfl
 ·cases h
structure ET (K:v9) (mg:Str->Option xC) (c f:Str):Prop where
 N:nsIn K xU c=vD (vD (.ref (Ab K c)))
 g:mg c=vD (.ref (Ab K c))
 k:keepIn K (.ref (Ab K c))=vF
 X:XSet K (Ab K c) f
 i:Kf K (Ab K c) (Dc K (Ab K c) "__init__")=vF
 o:∃o,K.lookup (Dc K (Ab K c) "__init__")=vD o/\o.cls=.type "function"
 G:XGet K (Ab K c)
 no:NoAttr K (Ab K c) f
theorem ZPe{K:v9}{a:xY}(h:ZBg K a=vF):∃o,K.lookup a=vD o/\o.cls=.type "function":=by
 unfold ZBg at h;split at h
 ·rename_i t _ _ _ e;exact⟨_,e,by rw[beq_iff_eq.mp h]⟩
 ·cases h
theorem ZJR{K:v9}{h:Heap}{c f:Str}(X:K.In h)(G:h.Ns xU mg)(s:V6 c f K=vF):ET K mg c f:=by simp only[V6,z0]at s;obtain⟨⟨⟨⟨⟨⟨h1,h2⟩,⟨⟨⟨h3,h4⟩,h5⟩,h6⟩,h7⟩,h8⟩,h9⟩,⟨⟨⟨⟨⟨⟨g1,g2⟩,g3⟩,g4⟩,g5⟩,g6⟩,g7⟩,g8⟩,h10⟩:=s;exact⟨Ih h1,mg_of X G (Ih h1),h2,⟨h3,ZHp h4,h5,Qd h6,h7⟩,h8,ZPe h9,⟨K7 g1,Qd g2,Hd g3,h7,K7 g4,K7 g5,Hd g6,Hd g7,Hd g8,h3⟩,ZHr h10⟩
theorem ZJZ(h:Wu r n=vF):r=vD (.val (.builtin n)):=by
 unfold Wu at h;split at h
 ·rw[beq_iff_eq.mp h]
 ·cases h
theorem ZI8{K:v9}{h:Heap}{x:Str}(X:K.In h)(G:h.Ns xU mg)(s:ZAr x K=vF):XBase K mg x (Ab K x):=by simp only[ZAr,z0]at s;obtain⟨⟨⟨h1,h2⟩,h3⟩,h4⟩:=s;exact⟨mg_of X G (Ih h1),K7 h2,h3,ZJZ h4⟩
theorem ZNh{K:v9}{h:Heap}{x:Str}(X:K.In h)(G:h.Ns xU mg)(s:gOk K x=vF):mg x=vD (.ref (Ab K x)):=mg_of X G (Ih s)
abbrev FnX(P:xy)(w:xD)(K:v9)(mg:Str->Option xC)(base:Heap)(k:Nat)(n:Str)(ps:List Str)(F:List D->DH->R D):Prop:=FnOk P w K mg base (CXx P w) k (Ab K n) (Ai K (Ab K n)) ps (lFx K F)
abbrev FnH(P:xy)(w:xD)(K:v9)(mg:Str->Option xC)(base:Heap)(k:Nat)(n:Str)(ps:List Str)(F:List D->DH->R D):Prop:=FnOkH P w K mg base k (Ab K n) (Ai K (Ab K n)) ps (lF K F)
theorem ZBK:Passes (CXx X.prog X.w) X E0:=λvC σ H s e s' I h=>by obtain⟨_,_,_,_,_,_,_,_,_,_,_,_,_,z,_⟩:=h;exact z.elim
theorem RoomH.mono(r:RoomH k A)(h:j<=k):RoomH j A:=⟨by have:=r.dp;lia,by have:=r.un;lia⟩
section
variable{X:Cx}{E:XK}{c x n f v:Str}{e a:xz}{es:List xz}{t:DE}{tr:DA}{p q pos cpos np:Pos}{b:Bool}{F:List D->DH->R D}{k j:Nat}{ps:List Str}{st:xB}
theorem ZJX(FF:FnH X.prog X.w X.K X.mg X.base k n ps F)(T:FT X.K X.mg n st ps)(hr:RoomH j X.A)(ha:QA X E0 (e::es) tr)(hj:Nat.ble k j=vF:=by rfl)(hg:Gl X n:=by rfl)(hdb:(n==("__debug__":Str))=vG:=by decide)(he:notStar e=vF:=by rfl)(hpl:es.all notStar=vF:=by rfl):
  QE X E0 (.Call (.Name n p) (e::es) [] pos) (dFn F tr):=ZJh FF (hr.mono (qF hj)) hg T.m T.k T.b ha hdb he hpl
def PC(X:Cx)(es:List xz)(ws:List Str):Prop:=PA X es (λ_ H Q=>Q (ws.map λw=>V.ref (Ab X.K w)) H)
theorem Zv:PC X [] []:=Ph
theorem Ge(mw:X.mg w=vD (.ref (Ab X.K w)))(r:PC X es ws)(gw:Gl X w:=by rfl)(hd:(w==("__debug__":Str))=vG:=by decide):PC X (.Name w q::es) (w::ws):=
 Iz (Wx gw mw (v:=.ref (Ab X.K w)) rfl hd) r (Dy _ es X.env rfl)
theorem ZDt{K:v9}:∀{ws:List Str}{us:List xC},Vals (ws.map λw=>V.ref (Ab K w)) us->us=ws.map λw=>Value.ref (Ab K w)
 |[],_,h=>by cases h;rfl
 | w::ws,_,h=>by
  cases h with
  |cons a b=>
   rw[ZDt b]
   exact congrArg (·::_) a
theorem ZPo(T:ET X.K X.mg c f)(FI:FnOk X.prog X.w X.K X.mg X.base CX0 k (Dc X.K (Ab X.K c) "__init__") (Ai X.K (Dc X.K (Ab X.K c) "__init__")) ["self",v] (spI (Ab X.K c) f))(hb:Binds X.K (Ai X.K (Dc X.K (Ab X.K c) "__init__")) ["self",v] [])(hr:Room j X.A)(ha:QA X E [a] tr)
  (hxe:∀e s,Ht X E e s->X.xe e s:=by exact λ_ _ h=>h) (hj:Nat.ble (k+1) j=vF:=by rfl) (hcalm:X.calm=vF:=by rfl) (hs:X.stack=X.env::X.outer:=by rfl) (hex:X.ex=[]:=by rfl) (hfr:X.env.frame=vD X.env.locals:=by rfl) (hg:Gl X c:=by rfl) (hdb:(c==("__debug__":Str))=vG:=by decide) (hst:notStar a=vF:=by rfl):
  QS X E (.Raise (vD (.Call (.Name c np) [a] [] cpos)) vE pos) (sRz c f tr):=
 ZOB T.N hcalm hs hex hfr hxe T.X T.i T.o FI (hr.mono (qF hj)) hb hg T.g T.k ha hdb hst
end
noncomputable def SR.nr:SR->SR
 |.err _ _=>.bad
 |r=>r
def sNr(t:DS):DS:=λS G=>(t S G).nr
@[simp]theorem ev_sNr:sNr t S G=(t S G).nr:=id rfl
@[simp]theorem nr_nx:(SR.nx S G).nr=.nx S G:=id rfl
@[simp]theorem nr_rt:(SR.rt d G).nr=.rt d G:=id rfl
theorem ZSf{K:v9}{E:XK}{t:DS}{W:Ends}{σ:St}{H:Hp}(h:lS K E (sNr t) W σ H):lS K E0 t W σ H:=by
 obtain⟨a,S,G,hk,rfl,sm,r,h⟩:=h;refine⟨a,S,G,hk,rfl,sm,r,?_⟩;unfold sNr at h
 revert h
 cases t S G with
 |err x G1=>exact λh=>h.elim
 |nx S1 G1=>exact λh=>h
 |bk S1 G1=>exact λh=>h
 |ct S1 G1=>exact λh=>h
 |rt d G1=>exact λh=>h
 |bad=>exact λh=>h
theorem ZMl(h:QS X E0 s t):QS X E s (sNr t):=PS.mono h λ_ _ _ z=>ZSf z
end _D
namespace _D
open PySem PySem.Spec _L
open PyProof.Rows hiding St
def Ld(G:DH)(d:D):List D->Option (List Bool)
 |[]=>vD []
 |x::r=>match eqD 30 G x d,Ld G d r with
  |some k,vD ks=>vD (k::ks)
  |_,_=>vE
def inE(d e:D)(G:DH):Option Bool:=match Bc e G with
 |some xs=>(Ld G d xs).map λks=>ks.any id
 |none=>vE
def Kw(d e:D)(G:DH):R D:=match inE d e G with
 |some k=>.ok (.bl k) G
 |none=>.bad
def K8(d e:D)(G:DH):R D:=match inE d e G with
 |some k=>.ok (.bl (!k)) G
 |none=>.bad
section
variable{X:Cx}{E:XK}{vC:List (xY×Obj)}{σ:St}{s:xA}
theorem Pk(I:Inv X vC σ a.H s)(hk:a.K=X.K)(sm:Sim a G)(hu:A.units+30<cLine)(rd:Rep a d x)(rx:RelV x v):
  ∀{xs:List D}{vs:List V}{its:List xC}{ks:List Bool},Reps a xs vs->Vals vs its->Ld G d xs=vD ks->ks.length=its.length/\∀(i:Nat)(u:xC)(k:Bool),its[i]?=vD u->ks[i]?=vD k->SeqAt.EqAt A s u v k
 |[],vs,its,ks,r,q,h=>by obtain rfl:vs=[]:=r;cases q;cases h;exact⟨rfl,λi u k h=>by simp at h⟩
 | y::ys,vs,its,ks,r,q,h=>by
  obtain⟨w,ws,rfl,r1,r2⟩:=r;cases q with
  | cons p q'=>
   unfold Ld at h;split at h
   ·rename_i k ks' h1 h2;cases h;obtain⟨e1,e2⟩:=Pk I hk sm hu rd rx r2 q' h2;refine⟨by simp[e1],λi u k' hi hk'=>?_⟩;cases i with
    |zero=>
     cases hi;cases hk';exact(Pr I hk sm 30 hu r1 rd p rx h1).1
    |succ i=>exact e2 i u k' (by simpa using hi) (by simpa using hk')
   ·cases h
open Classical in
theorem Rg{A:xq}{v:xC}{its:List xC}{ks:List Bool}(h1:ks.length=its.length)(h2:∀(i:Nat)(u:xC)(k:Bool),its[i]?=vD u->ks[i]?=vD k->SeqAt.EqAt A s u v k):
  ∃e:xC->Bool,(∀y,y∈its.toArray->SeqAt.EqAt A s y v (e y))/\its.toArray.any e=ks.any id:=by
 refine⟨λu=>decide (∃i:Nat,its[i]?=vD u/\ks[i]?=vD vF),λy hy=>?_,?_⟩
 ·obtain⟨j,hj,e⟩:=qy (by simpa using hy:y∈its);have hj2:j<ks.length:=by lia
  have g1:its[j]?=vD y:=by rw[zZ hj,e]
  have g2:ks[j]?=vD ks[j]:=zZ hj2;show SeqAt.EqAt A s y v (decide (∃i:Nat,its[i]?=vD y/\ks[i]?=vD vF));by_cases hE:∃i:Nat,its[i]?=vD y/\ks[i]?=vD vF
  ·rw[decide_eq_true hE];obtain⟨i,a1,a2⟩:=hE;exact h2 i y vF a1 a2
  ·rw[decide_eq_false hE];cases hk:ks[j]with
   |true=>exact absurd ⟨j,g1,by rw[g2,hk]⟩ hE
   |false=>exact h2 j y vG g1 (by rw[g2,hk])
 ·rw[Bool.eq_iff_iff];constructor
  ·intro h;have h':its.any (λu=>decide (∃i:Nat,its[i]?=vD u/\ks[i]?=vD vF))=vF:=by simpa using h
   obtain⟨u,_,hu⟩:=jP.mp h';obtain⟨i,_,a2⟩:=of_decide_eq_true hu;exact jP.mpr ⟨vF,jT a2,rfl⟩
  ·intro h;obtain⟨k,hk,e⟩:=jP.mp h;obtain⟨j,hj,e2⟩:=qy hk;have hj2:j<its.length:=by lia
   have e3:k=vF:=e;have:its.any (λu=>decide (∃i:Nat,its[i]?=vD u/\ks[i]?=vD vF))=vF:=jP.mpr ⟨its[j],qx hj2,decide_eq_true ⟨j,zZ hj2,by rw[zZ hj,e2,e3]⟩⟩;simpa using this
theorem ZGF(sm:Sim a G)(re:Rep a e y)(h:inE d e G=vD k):∃xs ks p vs,y=.ref p/\(SqL a.K a.H p vs∨SqT a.K a.H p vs)/\Reps a xs vs/\Ld G d xs=vD ks/\k=ks.any id:=by
 unfold inE at h;split at h
 ·rename_i xs h1;rw[zM]at h;obtain⟨ks,h2,h3⟩:=h;obtain⟨p,vs,e1,q,r⟩:=J7 sm re h1;exact⟨xs,ks,p,vs,e1,q,r,h2,h3.symm⟩
 ·cases h
theorem ZM1(hu:X.A.units+64<cLine):OpR X (xP .In) (lR2 X.K E Kw):=by
 intro vC s σ H x y v u Q I rx ry ⟨a,G,d,e,hk,hH,sm,rd,re,q⟩;subst hH;unfold Kw at q;split at q
 ·rename_i k hd;obtain⟨xs,ks,p,vs,rfl,hq,r,h2,rfl⟩:=ZGF sm re hd;cases ry;have hu1:X.A.in1.units+30<cLine:=by show X.A.units+1+30<cLine;lia
  rw[hk]at hq;have fin:EP X vC σ Q (.bool (ks.any id)) s:=⟨.bl _,a.H,I,rfl,q a _ (Ext.refl a) sm rfl⟩;rcases hq with hq|hq
  ·obtain⟨its,rv,pl,hz⟩:=I.list hq;obtain⟨z1,z2⟩:=Pk I hk sm hu1 rd rx r rv h2;obtain⟨f,f1,f2⟩:=Rg z1 z2;exact SeqAt.in_listAt f pl.isList f1 (by rw[f2];exact fin)
  ·obtain⟨its,rv,pl,hz⟩:=I.tuple hq;obtain⟨z1,z2⟩:=Pk I hk sm hu1 rd rx r rv h2;obtain⟨f,f1,f2⟩:=Rg z1 z2;exact SeqAt.in_tupleAt f pl f1 (by rw[f2];exact fin)
 ·exact q.elim
theorem ZRZ(hu:X.A.units+64<cLine):OpR X (xP .NotIn) (lR2 X.K E K8):=by
 intro vC s σ H x y v u Q I rx ry ⟨a,G,d,e,hk,hH,sm,rd,re,q⟩;subst hH;unfold K8 at q;split at q
 ·rename_i k hd;obtain⟨xs,ks,p,vs,rfl,hq,r,h2,rfl⟩:=ZGF sm re hd;cases ry;have hu1:X.A.in1.units+30<cLine:=by show X.A.units+1+30<cLine;lia
  rw[hk]at hq;have fin:EP X vC σ Q (.bool (!ks.any id)) s:=⟨.bl _,a.H,I,rfl,q a _ (Ext.refl a) sm rfl⟩;rcases hq with hq|hq
  ·obtain⟨its,rv,pl,hz⟩:=I.list hq;obtain⟨z1,z2⟩:=Pk I hk sm hu1 rd rx r rv h2;obtain⟨f,f1,f2⟩:=Rg z1 z2;exact SeqAt.notIn_listAt f pl.isList f1 (by rw[f2];exact fin)
  ·obtain⟨its,rv,pl,hz⟩:=I.tuple hq;obtain⟨z1,z2⟩:=Pk I hk sm hu1 rd rx r rv h2;obtain⟨f,f1,f2⟩:=Rg z1 z2;exact SeqAt.notIn_tupleAt f pl f1 (by rw[f2];exact fin)
 ·exact q.elim
def Ln(o:D)(ds:List D)(G:DH):R D:=match o,ds with
 |.ref i,[.ref j]=>match G[i]?,G[j]? with
  |some (.lst xs),vD (.lst ys)=>if xs.length+ys.length<=1000000 then .ok .non (G.set i (.lst (xs++ys)))else .bad
  |_,_=>.bad
 |_,_=>.bad
theorem ZRP:MtM X "list.extend" (lRm X.K E Ln):=ZNQ.mono λx xs H Q h=>by
 obtain⟨a,G,d,ds,hk,rfl,s,rd,r,q⟩:=h;unfold Ln at q;split at q
 ·rename_i i j;obtain⟨v,rfl,rv⟩:=reps1 r;split at q
  ·rename_i ys zs hy hz;split at q
   ·rename_i hl;obtain⟨vs,e1,r1⟩:=s.lst hy;obtain⟨ws,e2,r2⟩:=s.lst hz;obtain⟨x3,s3⟩:=U9 s rd.1 e1 (r1.append r2);refine⟨a.m i,a.m j,vs,ws,rd.2,by rw[rv.2],e1,e2,by rw[<-r1.length,<-r2.length];exact z5 hl size6,?_⟩;exact q _ .non x3 s3 rfl
   ·exact q.elim
  ·exact q.elim
 ·exact q.elim
end
end _D
namespace _D
open PySem PySem.W PySem.Spec _L
open PyProof.Rows hiding St
structure FunD (K:PySem.W.Frag) (x qual:Str) (st:xB) (f:xY) (fd:xj):Prop where
 ex:∃(oc:xC)(od:Option xY)(dV kV doc pm:xC)(an:Option xY)(cdv ct:xC)(osl:Array (Option xC)),
  fd=PySem.W.fnOf x qual (Eg st) (Cp st) (Ag st) dV kV doc pm an cdv ct/\K.lookup f=vD ⟨oc,od,.func fd,osl⟩/\PySem.W.codeIn K cdv qual=vF
structure FTD (K:v9) (mg:Str->Option xC) (n:Str) (st:xB) (ps:List Str) (v:Int):Prop where
 F:FunD K n n st (Ab K n) (Ai K (Ab K n))
 b:Binds K (Ai K (Ab K n)) ps []
 d:∃t,Binds K (Ai K (Ab K n)) ps [.int v t]
 m:mg n=vD (.ref (Ab K n))
 k:keepIn K (.ref (Ab K n))=vF
theorem ZPQ{P:xy}{w:xD}{K:PySem.W.Frag}{mg:Str->Option xC}{base:Heap}{x qual:Str}{st:xB}{f:xY}{fd:xj}{N ps:List Str}{k:Nat}{b:DS}(F:FunD K x qual st f fd)(S:FnScope N ps (Ag st))
  (hbody:∀(cdv:xC)(A:xq)(outer:List Env)(s:xA)(H:Hp)(E:XK),Room k (A.deeper (envOfC qual (Ag st) s.heap.objs.size f cdv))->QSs (El (CXx P w) P w K mg base N qual (Ag st) f cdv A outer s H E) E (Cp st) b):
  FnOk P w K mg base (CXx P w) (k+1) f fd ps (lFx K (Ao ps.length (N.length-ps.length) b)):=by
 have hlen:∀vs H Q E,lFx K (Ao ps.length (N.length-ps.length) b) vs H Q E->vs.length=ps.length:=λvs H Q E h=>by
  obtain⟨a,G,ds,hk,rfl,sm,r,h⟩:=h;unfold Ao at h;split at h
  ·rename_i hl;rw[<-r.length];exact hl
  ·exact h.elim
 obtain⟨oc,od,dV,kV,doc,pm,an,cdv,ct,osl,rfl,lk,hcd⟩:=F.ex;refine ZAn lk hcd S hlen λA outer s H vs Q E hr h=>⟨lS K E b,hbody cdv A outer s H E hr,?_⟩
 have hl:=hlen vs H Q E h;obtain⟨a,G,ds,hk,rfl,sm,r,h⟩:=h;unfold Ao at h;split at h
 ·have h2:=Pb sm h;refine⟨a,ds.map vD++zX (N.length-ps.length) vE,G,hk,rfl,sm,Uc r _ _ (by rw[hl]),?_⟩
  revert h2
  cases b (ds.map vD++zX (N.length-ps.length) vE) G with
  |nx S1 G1=>exact λh2 c σ x s1 _=>h2 c .non x s1 rfl
  |rt d G1=>exact λh2=>h2
  |err e G1=>exact λh2=>h2
  |bk S1 G1=>exact λh2=>h2.elim
  |ct S1 G1=>exact λh2=>h2.elim
  |bad=>exact λh2=>h2
 ·exact h.elim
noncomputable def dfx(v:Int)(F:List D->DH->R D):List D->DH->R D:=λds G=>F (ds++[.int v]) G
section
variable{X:Cx}{E:XK}{x:Str}{p pos:Pos}{e:xz}{es:List xz}{tr:DA}
theorem ZRQ(FF:FnOk X.prog X.w X.K X.mg X.base (CXx X.prog X.w) k f fd ps (lFx X.K F))(hr:Room k X.A)(hg:Gl X x)(hm:X.mg x=vD (.ref f))(hk:PySem.W.keepIn X.K (.ref f)=vF)(hb:Binds X.K fd ps [.int v t])
  (hx:Passes (CXx X.prog X.w) X E) (ha:QA X E (e::es) tr) (hdb:(x==("__debug__":Str))=vG:=by decide) (he:notStar e=vF:=by rfl) (hpl:es.all notStar=vF:=by rfl):QE X E (.Call (.Name x p) (e::es) [] pos) (dFn (dfx v F) tr):=
 (Zh FF hr hg hm hk hb (dvs:=[.int v]) (.cons ⟨t,rfl⟩ .nil) hx ha hdb (Dy e es X.env he) (Gn pos X.env es hpl)).mono λσ H Q h=>by obtain⟨a,S,G,hk,rfl,s,r,h⟩:=Lk h;refine⟨a,S,G,hk,rfl,s,r,h.imp ?_⟩;rintro vs _ ⟨b,G1,ds,hk,rfl,s1,q,h1⟩;exact⟨b,G1,ds++[D.int v],hk,rfl,s1,q.append (Reps.cons (d:=.int v) (v:=.int v) rfl Reps.nil),h1⟩
end
section
variable{X:Cx}{E:XK}{n:Str}{e:xz}{es:List xz}{tr:DA}{p pos:Pos}{F:List D->DH->R D}{k j:Nat}{ps:List Str}{st:xB}{v:Int}
theorem ZKJ(FF:FnX X.prog X.w X.K X.mg X.base k n ps F)(T:FTD X.K X.mg n st ps v)(hr:Room j X.A)(ha:QA X E0 (e::es) tr)(hj:Nat.ble k j=vF:=by rfl)(hg:Gl X n:=by rfl)(hdb:(n==("__debug__":Str))=vG:=by decide)(he:notStar e=vF:=by rfl)(hpl:es.all notStar=vF:=by rfl):
  QE X E0 (.Call (.Name n p) (e::es) [] pos) (dFn F tr):=Y9 FF (hr.mono (qF hj)) hg T.m T.k T.b ZBK ha hdb he hpl
theorem ZNy(FF:FnX X.prog X.w X.K X.mg X.base k n ps F)(T:FTD X.K X.mg n st ps v)(hr:Room j X.A)(ha:QA X E0 (e::es) tr)(hj:Nat.ble k j=vF:=by rfl)(hg:Gl X n:=by rfl)(hdb:(n==("__debug__":Str))=vG:=by decide)(he:notStar e=vF:=by rfl)(hpl:es.all notStar=vF:=by rfl):
  QE X E0 (.Call (.Name n p) (e::es) [] pos) (dFn (dfx v F) tr):=by
 obtain⟨t,hb⟩:=T.d;exact ZRQ FF (hr.mono (qF hj)) hg T.m T.k hb ZBK ha hdb he hpl
end
section
variable{X:Cx}{E:XK}{c x n f v:Str}{e a:xz}{es:List xz}{t:DE}{tr:DA}{p q pos cpos np:Pos}{b:Bool}{F:List D->DH->R D}{k j:Nat}{ps:List Str}{st:xB}
end
theorem ZJS{K:v9}{h:Heap}{mg:Str->Option xC}{n:Str}{st:xB}{ps:List Str}{v:Int}(X:K.In h)(G:h.Ns xU mg)(s:Ask.Said K (.fd n st v))
  (hb:∀(T:xY)(kV doc pm:xC)(an:Option xY)(cdv ct:xC)(us:List xC)(t:Tok),us.length=ps.length->∃k,bindArgs (fnOf n n (Eg st) (Cp st) (Ag st) (.ref T) kV doc pm an cdv ct) ⟨us,[]⟩=seqItems? (.ref T) >>=k/\k (vD #[.int v t])=pure (ps.zip us))
  (hd:∀(T:xY)(kV doc pm:xC)(an:Option xY)(cdv ct:xC)(us:List xC)(t:Tok),us.length+1=ps.length->∃k,bindArgs (fnOf n n (Eg st) (Cp st) (Ag st) (.ref T) kV doc pm an cdv ct) ⟨us,[]⟩=seqItems? (.ref T) >>=k/\k (vD #[.int v t])=pure (ps.zip (us++[.int v t]))):FTD K mg n st ps v:=by
 obtain⟨s1,s2,s3,s4,T,o,t,m,e1,e2,e3⟩:=s;have ef:Ai K (Ab K n)=fnOf n n (Eg st) (Cp st) (Ag st) (.ref T) (Ai K (Ab K n)).kwdefaults (Ai K (Ab K n)).doc (Ai K (Ab K n)).pyModule (Ai K (Ab K n)).annotations (Ai K (Ab K n)).code (Ai K (Ab K n)).closureTuple:=by
  rw[<-e1]
  conv=>lhs;unfold Ai Ft;rw[s2]
 refine⟨⟨_,_,_,_,_,_,_,_,_,_,by rw[e1]at s2;exact ef,by rw[e1,<-ef]at s2;exact s2,s3⟩,λs us ki hl=>?_,⟨t,λs us ki hl=>?_⟩,mg_of X G s1,s4⟩
 ·rw[qj]at hl⊢;rw[ef];obtain⟨k,k1,k2⟩:=hb T (Ai K (Ab K n)).kwdefaults (Ai K (Ab K n)).doc (Ai K (Ab K n)).pyModule (Ai K (Ab K n)).annotations (Ai K (Ab K n)).code (Ai K (Ab K n)).closureTuple us t hl;exact BindsTo.of_defaults rfl (ki T o e2) e3 k1 k2
 ·rw[ef];obtain⟨k,k1,k2⟩:=hd T (Ai K (Ab K n)).kwdefaults (Ai K (Ab K n)).doc (Ai K (Ab K n)).pyModule (Ai K (Ab K n)).annotations (Ai K (Ab K n)).code (Ai K (Ab K n)).closureTuple us t (by simpa using hl);exact BindsTo.of_defaults rfl (ki T o e2) e3 k1 k2
end _D
namespace _D
open PySem PySem.Spec _L
open PyProof.Rows hiding St
noncomputable def dTc(F:List D->DH->R D)(t:DA):DE:=λS G=>match t S G with
 |.ok ds G1=>F ds G1
 |_=>.bad
def QTe(X:Cx)(e:xz)(t:DE):Prop:=∀(vC:List (xY×Obj))(s:xA)(σ:St)(H:Hp)(Q:VK)(E:XK),Inv X vC σ H s->lE X.K E t σ H Q->
 vK (vQ X.prog X.w) X.A (eval e X.env) (EP X vC σ Q) (λe s'=>∃H1 s1,Inv X vC σ H1 s1/\CXx X.prog X.w X.stack H1 s1 E e s') s
def QTr(X:Cx)(b:List xB)(t:DS):Prop:=∀(vC:List (xY×Obj))(s:xA)(σ:St)(H:Hp)(Nx:St->Hp->Prop)(E:XK),Inv X vC σ H s->lS X.K E t {nx:=Nx,rt:=λ_ _=>False} σ H->
 vK (vQ X.prog X.w) X.A (execs b X.env) (λfl s'=>fl=.next/\∃σ' H',Inv X vC σ' H' s'/\Nx σ' H') (λe s'=>∃H1 s1,Inv X vC σ H1 s1/\CXx X.prog X.w X.stack H1 s1 E e s') s
section
variable{X:Cx}{f:xY}{fn:Str}{fp cp ep pos:Pos}{a e:xz}{es:List xz}{t:DA}{te:DE}{F:List D->DH->R D}{k:Nat}{fd:xj}{ps:List Str}
theorem ZLK(FF:FnOk X.prog X.w X.K X.mg X.base (CXx X.prog X.w) k f fd ps spx)(hr:Room k X.A)(hdv:Vals dvs dus)(hbd:Binds X.K fd ps dus)(hg:Gl X fn)(hm:X.mg fn=vD (.ref f))(hk:PySem.W.keepIn X.K (.ref f)=vF)(ha:QA X.nox E0 (a::es) t)
  (hF:∀(w:Wd)(G:DH)(ds:List D)(vs:List V)(Q:VK)(E:XK),w.K=X.K->Sim w G->Reps w ds vs->out E w (F ds G) Q->spx (vs++dvs) w.H Q E)
  (hdb:(fn==("__debug__":Str))=vG) (he:vV (a::es) X.env=(vG,eval a X.env)::vV es X.env) (hpl:(xG cp (vV es X.env)).any (·.1)=vG):
  QTe X (.Call (.Name fn fp) (a::es) [] cp) (dTc F t):=by
 intro vC s σ H Nx E I h;have h':lA X.K E0 t σ H λvs H1=>spx (vs++dvs) H1 Nx E:=by
  obtain⟨w,S,G,hkw,rfl,sm,r,h⟩:=h;refine⟨w,S,G,hkw,rfl,sm,r,?_⟩;unfold dTc at h;cases ht:t S G with
  |err x G1=>rw[ht]at h;exact h.elim
  |bad=>rw[ht]at h;exact h
  |ok ds G1=>
   rw[ht]at h;exact λb vs y s1 q=>hF b G1 ds vs _ E (y.k.trans hkw) s1 q (out.mono y h)
 refine vY (H9 I hg hm ?_ hdb);refine PySem.W.callWith_K (h₀:=X.base) I.ok.mod.kin hk (vk (ha cp vC s σ H _ (I.wish _) h') (λus s1 ⟨vs,H1,I1,r,q⟩=>⟨I1.kIn,?_⟩) λ_ _ z=>z.elim) he hpl;have I1':=I1.unwish;have r2:Vals (vs++dvs) (us++dus):=r.append hdv;have hlen:(us++dus).length=ps.length:=by rw[<-r2.length];exact FF.len _ _ _ _ q
 refine wpAny_call (xO (FF.run X.A X.stack s1 H1 ⟨us,[]⟩ (us++dus) (vs++dvs) _ E hr I1'.env0 (hbd s1 us I1'.kIn hlen) r2 q) λr s' hq=>?_);cases r with
 |ok fl=>
  cases fl with
  |next=>exact False.elim hq
  |brk=>exact False.elim hq
  |cont=>exact False.elim hq
  |ret u=>exact I1'.after hq
 |error e=>exact⟨H1,s1,I1',hq⟩
theorem ZFH(he:QTe X e te)(hsw:swapsWith e vE ep.line X.env=pure vG:=by rfl):QTr X [.Expr e ep] (sEx te):=by
 intro vC s σ H Nx E I h;obtain⟨w,S,G,hkw,rfl,sm,r,h⟩:=h;have h':lE X.K E te σ w.H λ_ H'=>Nx σ H':=by
  refine⟨w,S,G,hkw,rfl,sm,r,?_⟩;unfold sEx at h;cases ht:te S G with
  |err x G1=>rw[ht]at h;exact h
  |bad=>rw[ht]at h;exact h
  |ok d G1=>rw[ht]at h;exact λb v y s1 q=>h b σ y s1 (r.mono y)
 exact wpAny_execs_cons (wpAny_Expr_any (thn (he vC s σ w.H _ E I h') λu s1 ⟨v,H1,I1,_,q⟩=>wpAny_execs_nil ⟨rfl,σ,H1,I1,q⟩) I.quiet hsw)
end
noncomputable abbrev DHn:=Xn->DSt->DH->SR
def QH(X:Cx)(hs:List ExceptHandler)(f:DHn):Prop:=∀(vC:List (xY×Obj))(s:xA)(σ:St)(H':Hp)(W:Ends)(ea C:xY)(oe:Obj)(vs:Array xC)(x:Xn)(w:Wd)(S:DSt)(G:DH)(E:XK),
 s.heap.get? ea=vD oe->oe.cls=.ref C->oe.data=.fields vs->H' ea=vE->Inv X vC σ (upd H' ea (.frz oe (.own 0))) s->(∃B:Heap,Trc s.heap B ea (.ref C) oe.dict .none)->
 w.K=X.K->w.H=H'->Sim w G->RepS w S σ->PySem.W.nsIn w.K xU x.cls=vD (vD (.ref C))->XD w oe.dict x.fs->Bm E w (f x S G) W->
 vK (vQ X.prog X.w) X.A (handleBy (.ref ea) X.env hs) (SP X vC W) X.xe s
noncomputable def Vn:DHn:=λ_ _ _=>.bad
theorem ZHo:QH X [] Vn:=λvC s σ H' W ea C oe vs x w S G E _ _ _ _ _ _ _ _ _ _ _ _ h=>h.elim
def Jl(ws ns:List Str)(i:Nat)(hb:DS)(f:DHn):DHn:=λx S G=>if x.cls∈ws then unnm i (hb (S.set i (vD (.ref G.length))) (G++[.exc x.cls x.fs]))else if x.cls∈ns then f x S G else .bad
theorem ZGy{X:Cx}{vC:List (xY×Obj)}{σ:St}{H:Hp}{s:xA}{ea C W:xY}{oe:Obj}{x:Str}{np hp:Pos}{b:Bool}{R:Result->xA->Prop}(ho:s.heap.get? ea=vD oe)(hc:oe.cls=.ref C)(J:Inv X vC σ H s)(hgx:Gl X x)(hmx:X.mg x=vD (.ref W))(hdx:(x==("__debug__":Str))=vG)
  (ht:Eo X.K C W b=vF) (q:R (.ok (if b then .brk else .next)) s):codeAny (vQ X.prog X.w) (X.A.mark (vD (.ref ea))) (.handlers (.ref ea) [.ExceptHandler (vD (.Name x np)) vE [] hp] X.env) R s:=by
 unfold Eo at ht;simp only[z0]at ht;obtain⟨⟨t1,t2⟩,t3⟩:=ht;obtain⟨bm,N,nm,qn,bs,sn,sub,ab,col,dd,k0,k1,k2,k3,k5,hcl,T,_⟩:=Jw J.kIn t1;obtain⟨bm',N',nm',qn',bs',sn',sub',ab',col',dd',l0,l1,l2,l3,l5,hcl',T',_⟩:=Jw J.kIn t2;have hin:(Value.ref C::bm).contains (.ref W)=b:=by
  split at t3
  ·rename_i c0 d0 cd sl0 ho';have:=J.kIn _ _ ho';rw[hcl]at this;cases this;exact eq_of_beq t3
  ·cases t3
 refine codeAny_handlers_test (H9 (X:=Ka X ea) (ZEa J) hgx hmx ?_ hdx);exact ZJP hcl hcl' ho hc (T'.hasType PySem.F.excBase_ValueError.hasBase) hin q
section
variable{X:Cx}{W:xY}{x n:Str}{np hp pos:Pos}{i:Nat}{b₀:xB}{suite:List xB}{hb:DS}{ws ns:List Str}{hs:List ExceptHandler}{f:DHn}
theorem ZO4(hcalm:X.calm=vF)(hgx:Gl X x)(hmx:X.mg x=vD (.ref W))(hN:X.N.Nodup)(hi:X.N[i]?=vD n)(hl:X.env.kindOf n=vD .local)
  (hws:∀c∈ws,∀C,PySem.W.nsIn X.K xU c=vD (vD (.ref C))->Eo X.K C W vF=vF) (hns:∀c∈ns,∀C,PySem.W.nsIn X.K xU c=vD (vD (.ref C))->Eo X.K C W vG=vF)
  (hh:∀ea,QSs (Ka X ea) E0 (b₀::suite) hb) (hr:QH X hs f) (hdx:(x==("__debug__":Str))=vG:=by decide):
  QH X (.ExceptHandler (vD (.Name x np)) (vD n) (b₀::suite) hp::hs) (Jl ws ns i hb f):=by
 intro vC s σ H' D ea C oe vs xn w S G E ho hc hda fe J tr hkw hH sm r hn hx h;subst hH;have hcalm':=J.ok.hd hcalm;unfold Jl at h;split at h
 ·rename_i hw;refine wpAny_handleBy_cons (ZGy ho hc J hgx hmx hdx (hws _ hw C (by rw[<-hkw];exact hn)) ?_) (by intro q;cases q);obtain⟨B,tr⟩:=tr;refine codeAny_handlers_suite_as (ZNg tr λh3 kp=>?_);have J3:=J.kept (h':=h3) (t':=s.toks) kp;refine S9 J3 hN hi (.inl hl) (v:=.ref ea) rfl (λs4 I4=>?_) (.inr hl);have yp:=Ext.push (a:=w) (p:=ea) (ho:=.frz oe (.own 0)) fe;have run:lS X.K E0 hb {nx:=λσ2 H2=>D.nx (σ2.set i vE) H2,rt:=D.rt,bk:=λσ2 H2=>D.bk (σ2.set i vE) H2,ct:=λσ2 H2=>D.ct (σ2.set i vE) H2} (σ.set i (vD (.ref ea))) (upd w.H ea (.frz oe (.own 0))):=by
   refine⟨w.push ea (.frz oe (.own 0)),S.set i (vD (.ref G.length)),G++[.exc xn.cls xn.fs],hkw,rfl,?_,?_,?_⟩
   ·exact sm.push fe ⟨C,oe,.own 0,vs,hn,rfl,hc,hda,hx.mono yp⟩
   ·refine(r.mono yp).set i ⟨?_,?_⟩
    ·show G.length<w.n+1;rw[sm.len];exact qY _
    ·show V.ref ea=V.ref (if G.length=w.n then ea else w.m G.length);rw[if_pos sm.len]
   ·revert h
    cases hb (S.set i (vD (.ref G.length))) (G++[.exc xn.cls xn.fs])with
    |nx S3 G3=>exact λh c σ3 y3 s3 r3=>h c _ (yp.trans y3) s3 (r3.unset i)
    |bk S3 G3=>exact λh c σ3 y3 s3 r3=>h c _ (yp.trans y3) s3 (r3.unset i)
    |ct S3 G3=>exact λh c σ3 y3 s3 r3=>h c _ (yp.trans y3) s3 (r3.unset i)
    |rt d3 G3=>exact λh c v3 y3 s3 r3=>h c v3 (yp.trans y3) s3 r3
    |err x3 G3=>exact λh=>h.elim
    |bad=>exact λh=>h.elim
  refine vk (hh ea vC s4 _ _ _ (ZEa I4) run) (λfl s5 q5=>?_) λ_ _ z=>z.elim
  cases fl with
  |next=>
   obtain⟨σ2,H2,I5,q5⟩:=q5;exact Uh (Rv (calm:=hcalm) hcalm' I5) hN hi hl λs6 I6=>⟨_,H2,I6,q5⟩
  |brk=>
   obtain⟨σ2,H2,I5,q5⟩:=q5;exact Uh (Rv (calm:=hcalm) hcalm' I5) hN hi hl λs6 I6=>⟨_,H2,I6,q5⟩
  |cont=>
   obtain⟨σ2,H2,I5,q5⟩:=q5;exact Uh (Rv (calm:=hcalm) hcalm' I5) hN hi hl λs6 I6=>⟨_,H2,I6,q5⟩
  |ret u=>
   obtain⟨v,σ2,H2,I5,rv,q5⟩:=q5;exact Uh (Rv (calm:=hcalm) hcalm' I5) hN hi hl λs6 I6=>⟨v,_,H2,I6,rv,q5⟩
 ·split at h
  ·rename_i hw;refine wpAny_handleBy_cons (ZGy ho hc J hgx hmx hdx (hns _ hw C (by rw[<-hkw];exact hn)) ?_) (by intro q;cases q);exact hr vC s σ w.H D ea C oe vs xn w S G E ho hc hda fe J tr hkw rfl sm r hn hx h
  ·exact h.elim
end
section
variable{X:Cx}{W:xY}{x:Str}{np hp pos:Pos}{b₀:xB}{suite:List xB}{hb:DS}{ws ns:List Str}{hs:List ExceptHandler}{f:DHn}
end
noncomputable def Ip(t:DS)(f:DHn):DS:=λS G=>match t S G with
 |.nx S2 G2=>.nx S2 G2
 |.err x G2=>f x S G2
 |_=>.bad
theorem ZRd(hst:X.stack=X.env::X.outer)(hfr:X.env.frame=vD X.env.locals)(hb:QTr X b t)(hh:QH X (h0::hs) f):QS X E (.Try b (h0::hs) [] [] pos) (Ip t f):=by
 intro vC s σ H D I h;obtain⟨w,S,G,hkw,rfl,sm,r,h⟩:=h;let E1:XK:=λcls od H'=>cls=.none∨∃C x G2 b2,cls=.ref C/\PySem.W.nsIn b2.K xU x.cls=vD (vD (.ref C))/\b2.K=X.K/\b2.H=H'/\Sim b2 G2/\RepS b2 S σ/\XD b2 od x.fs/\Bm E b2 (f x S G2) D
 have run:lS X.K E1 t {nx:=D.nx,rt:=λ_ _=>False} σ w.H:=by
  refine⟨w,S,G,hkw,rfl,sm,r,?_⟩;unfold Ip at h;cases ht:t S G with
  |bad=>rw[ht]at h;exact h
  |bk S2 G2=>rw[ht]at h;exact h.elim
  |ct S2 G2=>rw[ht]at h;exact h.elim
  |rt d G2=>rw[ht]at h;exact h.elim
  |nx S2 G2=>rw[ht]at h;exact h
  |err xn G2=>
   rw[ht]at h;refine⟨λz=>?_,λb2 C od y2 s2 hn hx=>.inr ⟨C,xn,G2,b2,rfl,hn,y2.k.trans hkw,rfl,s2,r.mono y2,hx,Bm.mono y2 h⟩⟩;have:=congrFun (congrFun (congrFun z Value.none) vE) w.H;exact cast this (.inl rfl)
 refine wpAny_Try_except (vk (hb vC s σ w.H _ E1 I run) (λfl s1 ⟨e,σ1,H1,I1,q⟩=>?_) λe s1 ⟨H1,s2,I1,hq⟩=>?_)
 ·subst e;exact wpAny_execs_nil ⟨σ1,H1,I1,q⟩
 ·refine lands hst hfr I1 hq λea C od H' oe vs' h'' ee ho hc hd hda hE fe J tr hcC=>?_
  subst ee;rcases hE with z|⟨C',xn,G2,b2,z,hn,hkb,hH,s2,r2,hx,h2⟩
  ·obtain⟨C2,z2⟩:=hcC;rw[z]at z2;cases z2
  ·subst z hd hH;exact hh vC _ σ b2.H D ea C' oe vs' xn b2 S G2 E ho hc hda fe J tr hkb rfl s2 r2 hn hx h2
end _D
namespace _D
open PySem PySem.Spec PySem.W _L
open PyProof.Rows hiding St
variable{mg:Str->Option xC}
theorem ZOi{K:v9}{h:Heap}{N:xY}{m:Str->Option xC}{n:Str}(X:K.In h)(G:h.Ns N m)(e:nsIn K N n=vD vE):m n=vE:=by
 obtain⟨o,es,ep,ho,hd,_,hf⟩:=G;unfold nsIn at e;split at e
 ·rename_i c d es' n' sl q;have:=X _ _ q;rw[ho]at this;cases this;cases hd;split at e
  ·cases e
  ·rename_i he;rw[<-hf];unfold nsFind findBy;rw[<-Array.find?_toList,he]
   rfl
 ·cases e
section
variable{X:Cx}{C:xY}{x:Str}{np cpos pos:Pos}{a:xz}{ta:TA}{E:XK}
noncomputable def tRz0(C:xY)(E:XK)(ta:TA):TS:=λ_ σ H=>ta σ H λvs H1=>vs.length<=1000/\E (.ref C) vE H1
theorem ZPy(hcalm:X.calm=vF)(hs:X.stack=X.env::X.outer)(hex:X.ex=[])(hfr:X.env.frame=vD X.env.locals)(hxe:∀e s,Ht X E e s->X.xe e s)
  (ec:Et X.K C=vF) (ni:Ul X.K C=vF) (hg:Gl X x) (hm:X.mg x=vD (.ref C)) (hk:keepIn X.K (.ref C)=vF) (ha:PA X [a] ta) (hdb:(x==("__debug__":Str))=vG:=by decide)
  (he:vV [a] X.env=(vG,eval a X.env)::vV [] X.env:=by rfl) (hpl:(xG cpos (vV [] X.env)).any (·.1)=vG:=by rfl):
  PS X (.Raise (vD (.Call (.Name x np) [a] [] cpos)) vE pos) (tRz0 C E ta):=by
 intro vC s σ H D I h;refine ZB2 (C:=C) (I.ok.hd hcalm) ?_;refine vY (H9 I hg hm ?_ hdb);refine callWith_K (h₀:=X.base) I.ok.mod.kin hk (thn (ha cpos vC s σ H _ I h) λus s1 ⟨vs,H1,I1,r,hl,q⟩=>⟨I1.kIn,?_⟩) he hpl;obtain⟨bm,N,nm,qn,bs,sn,sub,ab,col,dd,k0,k1,k2,k3,k5,hcl,T,m,hN,hin⟩:=Jw I1.kIn ec;have hni:m "__init__"=vE:=by
  unfold Ul at ni;split at ni
  ·rename_i c0 d0 cd sl0 ho';have:=I1.kIn _ _ ho';rw[hcl]at this;cases this;exact ZOi I1.kIn hN (Qd ni)
  ·cases ni
 have hl1:us.length<=sizeLine:=by rw[<-r.length,vJ];lia
 obtain⟨hp,g,d,tk,os⟩:=s1;have FB:=PySem.F.excBase_ValueError;refine wpAny_call_exc_subT (hrest:=hl1) FB T hcl hN hni λh' e hm'=>?_
 obtain⟨t,ht,_,_⟩:=hm'.there;have fe:H1 e=vE:=by
  cases z:H1 e with
  |none=>rfl
  |some u=>
   obtain⟨o,k⟩:=ZDD (I1.hok e u z);have k':hp.get? e=vD o:=k;rw[hm'.new]at k';cases k'
 have J:=I1.kept (h':=h') (t':=tk) hm'.keeps;have mk:Made X H1 ⟨hp,g,d,tk,os⟩ e (.ref C) vE ⟨h',g,d,tk,os⟩ H1:=
  ⟨rfl,J.bare,⟨λb o k _ _ _=>hm'.keeps b o k,λb o k _ _ _=>⟨o.slots,hm'.keeps b o k⟩,λb o k n _=>n,λb o k _=>⟨o,hm'.keeps b o k⟩,λb xs k=>k,λb o u k=>k,λb ps k=>⟨#[],by rw[Array.append_empty];exact k⟩⟩,J.hok,⟨_,_,ht,rfl,rfl,rfl,rfl⟩,fe,hm'.new⟩
 have hcl':=hm'.keeps _ _ hcl;exact⟨e,vE,t,bm,N,nm,qn,bs,vF,sn,sub,ab,col,dd,k0,k1,k2,k3,k5,_,rfl,hcl',T.hasType FB.hasBase,ht,hxe _ _ (ZB8 hs hex hfr I1 mk q ⟨C,rfl⟩)⟩
end
def Q9(c:Str)(t:DA):DS:=λS G=>match t S G with
 |.ok ds G1=>if ds.length=1 then .err ⟨c,[]⟩ G1 else .bad
 |.err x G1=>.err x G1
 |.bad=>.bad
structure ET0 (K:v9) (mg:Str->Option xC) (c:Str):Prop where
 N:nsIn K xU c=vD (vD (.ref (Ab K c)))
 g:mg c=vD (.ref (Ab K c))
 k:keepIn K (.ref (Ab K c))=vF
 ec:Et K (Ab K c)=vF
 ni:Ul K (Ab K c)=vF
 G:XGet K (Ab K c)
theorem ZOD{K:v9}{h:Heap}{c:Str}(X:K.In h)(G:h.Ns xU mg)(s:et0Ok c K=vF):ET0 K mg c:=by simp only[et0Ok,z0]at s;obtain⟨⟨⟨⟨h1,h2⟩,h3,h7⟩,h8⟩,⟨⟨⟨⟨⟨⟨g1,g2⟩,g3⟩,g4⟩,g5⟩,g6⟩,g7⟩,g8⟩:=s;exact⟨Ih h1,mg_of X G (Ih h1),h2,h3,h8,⟨K7 g1,Qd g2,Hd g3,h7,K7 g4,K7 g5,Hd g6,Hd g7,Hd g8,h3⟩⟩
section
variable{X:Cx}{E:XK}{c x n f v w:Str}{e a:xz}{es:List xz}{t:DE}{tr:DA}{p q pos cpos np fp cp ep hp:Pos}{b:Bool}{F:List D->DH->R D}{k j:Nat}{ps:List Str}{st:xB}
theorem ZRq(T:ET0 X.K X.mg c)(ha:QA X E [a] tr)
  (hxe:∀e s,Ht X E e s->X.xe e s:=by exact λ_ _ h=>h) (hcalm:X.calm=vF:=by rfl) (hs:X.stack=X.env::X.outer:=by rfl) (hex:X.ex=[]:=by rfl) (hfr:X.env.frame=vD X.env.locals:=by rfl) (hg:Gl X c:=by rfl) (hdb:(c==("__debug__":Str))=vG:=by decide) (hst:notStar a=vF:=by rfl):
  QS X E (.Raise (vD (.Call (.Name c np) [a] [] cpos)) vE pos) (Q9 c tr):=
 (ZPy (ta:=lA X.K E tr) hcalm hs hex hfr hxe T.ec T.ni hg T.g T.k ha hdb (Dy a [] X.env hst) rfl).mono λW σ H h=>by
  obtain⟨w,S,G,hk,rfl,sm,r,h⟩:=h;refine⟨w,S,G,hk,rfl,sm,r,?_⟩;unfold Q9 at h;cases ht:tr S G with
  |err x G1=>rw[ht]at h;exact h
  |bad=>rw[ht]at h;exact h
  |ok ds G1=>
   rw[ht]at h;dsimp only at h;split at h
   ·rename_i hd;intro b vs y s1 q;refine⟨by rw[<-q.length,hd];decide,h.2 b _ vE y s1 ?_ (.inl ⟨rfl,rfl⟩)⟩;show nsIn b.K _ _=_;rw[y.k,hk];exact T.N
   ·exact h.elim
theorem ZFp(FF:FnX X.prog X.w X.K X.mg X.base k n ps F)(T:FTD X.K X.mg n st ps dv)(hr:Room j X.A)(ha:QA X.nox E0 (a::es) tr)(hj:Nat.ble k j=vF:=by rfl)(hg:Gl X n:=by rfl)
  (hdb:(n==("__debug__":Str))=vG:=by decide) (he:vV (a::es) X.env=(vG,eval a X.env)::vV es X.env:=by rfl) (hpl:(xG cp (vV es X.env)).any (·.1)=vG:=by rfl):
  QTe X (.Call (.Name n fp) (a::es) [] cp) (dTc F tr):=
 ZLK (dvs:=[]) (dus:=[]) FF (hr.mono (qF hj)) .nil T.b hg T.m T.k ha (λw G ds vs Q E hk s r h=>by rw[qj];exact⟨w,G,ds,hk,rfl,s,r,h⟩) hdb he hpl
def Tk(K:v9)(w:Str)(b:Bool)(ws:List Str):Prop:=∀c∈ws,∀C,nsIn K xU c=vD (vD (.ref C))->Eo K C (Ab K w) b=vF
theorem Mx{K:v9}:Tk K w b []:=λc h=>absurd h (by simp)
theorem Q5{K:v9}{ws:List Str}(N:nsIn K xU c=vD (vD (.ref (Ab K c))))(h:Eo K (Ab K c) (Ab K w) b=vF)(r:Tk K w b ws):Tk K w b (c::ws):=λc' hc C hC=>by
 rcases zx.mp hc with z|z
 ·subst z;rw[N]at hC;cases hC;exact h
 ·exact r c' z C hC
theorem V5{i:Nat}{b₀:xB}{suite:List xB}{hb:DS}{ws ns:List Str}{hs:List ExceptHandler}{g:DHn}(mw:X.mg w=vD (.ref (Ab X.K w)))(tw:Tk X.K w vF ws)(tn:Tk X.K w vG ns)(hr:Room j X.A)(hN:X.N.Nodup)(hh:∀ea,RoomH j (Ka X ea).A->QSs (Ka X ea) E0 (b₀::suite) hb)(hrest:QH X hs g)
  (hcalm:X.calm=vF:=by rfl) (hgw:Gl X w:=by rfl) (hi:X.N[i]?=vD x:=by rfl) (hl:X.env.kindOf x=vD .local:=by rfl) (hdx:(w==("__debug__":Str))=vG:=by decide):
  QH X (.ExceptHandler (vD (.Name w np)) (vD x) (b₀::suite) hp::hs) (Jl ws ns i hb g):=
 ZO4 hcalm hgw mw hN hi hl tw tn (λea=>hh ea (RoomH.held (.of hr))) hrest hdx
theorem ZC9(hb:QTr X bd ts)(hh:QH X (h0::hs) g)(hst:X.stack=X.env::X.outer:=by rfl)(hfr:X.env.frame=vD X.env.locals:=by rfl):QS X E (.Try bd (h0::hs) [] [] pos) (Ip ts g):=
 ZRd hst hfr hb hh
def Tb(K:v9)(P:xY->Bool->Prop)(tb:List (Str×Bool)):Prop:=∀c b,tb.lookup c=vD b->∀C,nsIn K xU c=vD (vD (.ref C))->P C b
theorem O6{K:v9}{P:xY->Bool->Prop}:Tb K P []:=λc b h=>by cases h
theorem ZCo{K:v9}{P:xY->Bool->Prop}{tb:List (Str×Bool)}(hn:nsIn K xU c=vD (vD (.ref (Ab K c))))(h:P (Ab K c) b)(r:Tb K P tb):Tb K P ((c,b)::tb):=by
 intro c' b' hl C hC;by_cases z:c'=c
 ·subst z;rw[hn]at hC;cases hC;simp only[qN,beq_self_eq_true]at hl;cases hl;exact h
 ·have:(c'==c)=vG:=by simpa using z
  simp only[qN,this]at hl;exact r c' b' hl C hC
theorem ZI0(hm:X.mg "isinstance"=vE)(mw:X.mg w=vD (.ref (Ab X.K w)))(k:Tb X.K (λC b=>XGet X.K C/\kitOne X.K (.ref C) (.ref (Ab X.K w))=vD b) tb)(ha:QE X E e t)(hg:Gl X "isinstance":=by rfl)(gw:Gl X w:=by rfl)(hd:(w==("__debug__":Str))=vG:=by decide)(he:notStar e=vF:=by rfl):
  QE X E (.Call (.Name "isinstance" p) [e,.Name w q] [] pos) (dUn (isx tb) t):=
 ZIU (cv:=.ref (Ab X.K w)) (cu:=.ref (Ab X.K w)) hg hm ha (Wx gw mw rfl hd) (λu h=>h) k he rfl
theorem ZSZ(hm:X.mg "isinstance"=vE)(mw:X.mg w=vE)(hv:xM w=vD (.type T))(k:Tb X.K (λC b=>XGet X.K C/\kitOne X.K (.ref C) (.type T)=vD b) tb)(ha:QE X E e t)(hg:Gl X "isinstance":=by rfl)(gw:Gl X w:=by rfl)(hn:w≠"__name__":=by decide)(hd:(w==("__debug__":Str))=vG:=by decide)(he:notStar e=vF:=by rfl):
  QE X E (.Call (.Name "isinstance" p) [e,.Name w q] [] pos) (dUn (isx tb) t):=
 ZIU (cv:=.ty T) (cu:=.type T) hg hm ha (ZHV gw mw hv rfl hn hd) (λu h=>h) k he rfl
theorem ZAV{ws:List Str}{x1:Nat}{tp:Pos}{ces:List xz}{tb:List (Str×Bool)}(hm:X.mg "isinstance"=vE)(hc:PC X ces ws)(k:Tb X.K (λC b=>XGet X.K C/\kitAny X.K (.ref C) (ws.map λw=>Value.ref (Ab X.K w))=vD b) tb)(ha:QE X E e t)(hl:Nat.ble ws.length 1000=vF:=by rfl)(hg:Gl X "isinstance":=by rfl)(he:notStar e=vF:=by rfl):
  QE X E (.Call (.Name "isinstance" p) [e,.Tuple ces x1 tp] [] pos) (dUn (isx tb) t):=
 ZOv hg hm ha hc (by rw[qW];exact qF hl) (λus h=>ZDt h) k he
structure XN (K:v9) (c:Str):Prop where
 N:nsIn K xU c=vD (vD (.ref (Ab K c)))
 G:XGet K (Ab K c)
theorem ET.xn{K:v9}(T:ET K mg c f):XN K c:=⟨T.N,T.G⟩
theorem ET0.xn{K:v9}(T:ET0 K mg c):XN K c:=⟨T.N,T.G⟩
theorem U4{K:v9}{cu:xC}{tb:List (Str×Bool)}(T:XN K c)(k:Bt (kitOne K (.ref (Ab K c)) cu) b=vF)(r:Tb K (λC b=>XGet K C/\kitOne K (.ref C) cu=vD b) tb):Tb K (λC b=>XGet K C/\kitOne K (.ref C) cu=vD b) ((c,b)::tb):=ZCo T.N ⟨T.G,Hd k⟩ r
theorem tb_any{K:v9}{cus:List xC}{tb:List (Str×Bool)}(T:XN K c)(k:Bt (kitAny K (.ref (Ab K c)) cus) b=vF)(r:Tb K (λC b=>XGet K C/\kitAny K (.ref C) cus=vD b) tb):Tb K (λC b=>XGet K C/\kitAny K (.ref C) cus=vD b) ((c,b)::tb):=ZCo T.N ⟨T.G,Hd k⟩ r
def Cf(K:v9)(f:Str)(cs:List Str):Prop:=∀c∈cs,∀C,nsIn K xU c=vD (vD (.ref C))->XGet K C/\NoAttr K C f
theorem ZSb{K:v9}:Cf K f []:=λc h=>absurd h (by simp)
theorem ZNV{K:v9}{cs:List Str}(T:ET K mg c f)(r:Cf K f cs):Cf K f (c::cs):=λc' hc C hC=>by
 rcases zx.mp hc with z|z
 ·subst z;rw[T.N]at hC;cases hC;exact⟨T.G,T.no⟩
 ·exact r c' z C hC
theorem ZRO(T:Cf X.K f cs)(ha:QE X E e t)(hb:xF e f X.env (eval e X.env)=eval e X.env:=by rfl):QE X E (.Attribute e f pos) (dUn (gtx cs f) t):=ZQJ ha T hb
end
def KB(K:v9)(n:Str)(ps:List Str)(y:Str):Prop:=∀(s:xA)(us:List xC)(u:xC),K.In s.heap->us.length+1=ps.length->BindsTo s (Ai K (Ab K n)) ⟨us,[(y,u)]⟩ (ps.zip (us++[u]))
theorem ZLj{K:v9}{n y:Str}{st:xB}{ps:List Str}{v:Int}(s:Ask.Said K (.fd n st v))
  (hb:∀(T:xY)(kV doc pm:xC)(an:Option xY)(cdv ct:xC)(us:List xC)(u:xC)(t:Tok),us.length+1=ps.length->∃k,bindArgs (fnOf n n (Eg st) (Cp st) (Ag st) (.ref T) kV doc pm an cdv ct) ⟨us,[(y,u)]⟩=seqItems? (.ref T) >>=k/\k (vD #[.int v t])=pure (ps.zip (us++[u]))):KB K n ps y:=by
 obtain⟨s1,s2,s3,s4,T,o,t,m,e1,e2,e3⟩:=s;have ef:Ai K (Ab K n)=fnOf n n (Eg st) (Cp st) (Ag st) (.ref T) (Ai K (Ab K n)).kwdefaults (Ai K (Ab K n)).doc (Ai K (Ab K n)).pyModule (Ai K (Ab K n)).annotations (Ai K (Ab K n)).code (Ai K (Ab K n)).closureTuple:=by
  rw[<-e1]
  conv=>lhs;unfold Ai Ft;rw[s2]
 intro s us u ki hl;rw[ef];obtain⟨k,k1,k2⟩:=hb T (Ai K (Ab K n)).kwdefaults (Ai K (Ab K n)).doc (Ai K (Ab K n)).pyModule (Ai K (Ab K n)).annotations (Ai K (Ab K n)).code (Ai K (Ab K n)).closureTuple us u t hl;exact BindsTo.of_defaults rfl (ki T o e2) e3 k1 k2
noncomputable def dKw(F:List D->DH->R D)(t:DA)(u:DE):DE:=λS G=>match t S G with
 |.ok ds G1=>(match u S G1 with
  |.ok d G2=>F (ds++[d]) G2
  |_=>.bad)
 |_=>.bad
section
variable{X:Cx}{n y:Str}{e e2:xz}{es:List xz}{tr:DA}{tu:DE}{p pos kp:Pos}{F:List D->DH->R D}{k j:Nat}{ps:List Str}{st:xB}{v:Int}
theorem ZRr(FF:FnX X.prog X.w X.K X.mg X.base k n ps F)(T:FTD X.K X.mg n st ps v)(kb:KB X.K n ps y)(hr:Room j X.A)(ha:QA X E0 (e::es) tr)(hu:QE X E0 e2 tu)(hj:Nat.ble k j=vF:=by rfl)(hg:Gl X n:=by rfl)(hdb:(n==("__debug__":Str))=vG:=by decide)
  (hpl:((xG pos (vV (e::es) X.env)).any (·.1)||(xH pos (xS [⟨vD y,e2,kp⟩] X.env)).any (·.1.isNone))=vG:=by rfl) (he:vV (e::es) X.env=(vG,eval e X.env)::vV es X.env:=by rfl):
  QE X E0 (.Call (.Name n p) (e::es) [⟨vD y,e2,kp⟩] pos) (dKw F tr tu):=by
 intro vC s σ H Q I h;have h':lA X.K E0 tr σ H λvs H1=>lE X.K E0 tu σ H1 λv H2=>lFx X.K F (vs++[v]) H2 Q E0:=by
  obtain⟨w,S,G,hkw,rfl,sm,r,h⟩:=h;refine⟨w,S,G,hkw,rfl,sm,r,?_⟩;unfold dKw at h;cases ht:tr S G with
  |err x G1=>rw[ht]at h;exact h.elim
  |bad=>rw[ht]at h;exact h
  | ok ds G1=>
   rw[ht]at h;intro b vs y1 s1 q1;refine⟨b,S,G1,y1.k.trans hkw,rfl,s1,r.mono y1,?_⟩;dsimp only at h;cases hu':tu S G1 with
   |err x G2=>rw[hu']at h;exact h.elim
   |bad=>rw[hu']at h;exact h
   |ok d G2=>
    rw[hu']at h;exact λb2 v2 y2 s2 q2=>⟨b2,G2,ds++[d],(y1.trans y2).k.trans hkw,rfl,s2,(q1.mono y2).append (Reps.cons q2 Reps.nil),out.mono (y1.trans y2) h⟩
 refine vY (H9 I hg T.m ?_ hdb);refine callWith_KW (h₀:=X.base) I.ok.mod.kin T.k rfl (thn (ha pos vC s σ H _ I h') λus s1 ⟨vs,H1,I1,r1,q1⟩=>kwAll_cons (thn (hu vC s1 σ H1 _ I1 q1) λu s2 ⟨v2,H2,I2,r2,q2⟩=>kwAll_nil ⟨I2.kIn,?_⟩)) hpl he;have rr:Vals (vs++[v2]) (us++[u]):=r1.append (.cons r2 .nil);have hl:us.length+1=ps.length:=by have:=FF.len _ _ _ _ q2;have:=r1.length;simp at*;lia
 refine wpAny_call (xO (FF.run X.A X.stack s2 H2 ⟨us,[(y,u)]⟩ (us++[u]) (vs++[v2]) Q E0 (hr.mono (qF hj)) I2.env0 (kb s2 us u I2.kIn hl) rr q2) λr s' hq=>?_);cases r with
 |error e=>exact(ZBK vC σ H2 s2 e s' I2 hq)
 |ok fl=>
  cases fl with
  |ret u=>exact I2.after hq
  |next=>exact False.elim hq
  |brk=>exact False.elim hq
  |cont=>exact False.elim hq
end
section
variable{prog:xy}{w:xD}{A:xq}{E:xC->xA->Prop}{s:xA}
end
section
variable{X:Cx}{E:XK}
end
section
variable{X:Cx}{E:XK}
end
section
variable{X:Cx}{E:XK}
end
end _D
namespace _D
open PySem PySem.Spec _L
open PyProof.Rows hiding St
noncomputable def tgN:xz->List Str
 |.Name x _=>[x]
 |.Tuple es _ _=>es.flatMap λe=>match e with
  |.Name x _=>[x]
  |_=>[]
 |_=>[]
def Hb(tg:xz)(caps:List Nat)(N:List Str):List Str:=tgN tg++caps.map λj=>N.getD j ""
section
variable{X:Cx}{scope:x0}{nt:Nat}{caps:List Nat}{tg elt iter:xz}{ifs:List xz}{pos:Pos}{it:DI}{g:DG}{c:DB}{te:DE}
theorem ZLD(hi:QI X E0 tg iter it)(hg:∀C s₀ H₀ ex,(Hb tg caps X.N).Nodup->QG (blk X (Hb tg caps X.N) scope C s₀ H₀ ex) E0 tg g)(gk:GK nt g)(hts:∀C s₀ H₀ ex,QTs (blk X (Hb tg caps X.N) scope C s₀ H₀ ex) E0 ifs c)
  (he:∀C s₀ H₀ ex,QE (blk X (Hb tg caps X.N) scope C s₀ H₀ ex) E0 elt te) (hc:X.calm=vF:=by rfl) (hk:scope.kind=.function:=by rfl) (hdn:∀x,X.env.kindOf x=X.env.scope.names.lookup x:=by intro _;rfl)
  (h:Ui X.env.scope.names X.N (Hb tg caps X.N) scope.names nt caps=vF:=by kernel_rfl) (hs:∀x,foldedSetIterable iter X.env x=pure x:=by intro _;rfl):QE X E0 (.ListComp elt [⟨tg,iter,ifs,0⟩] scope pos) (Cm it nt caps g c te):=
 have cs:=ZEH hk hdn rfl h
 ZLe hc cs hi (λC s₀ H₀ ex=>hg C s₀ H₀ ex cs.nd) gk hts he hs
theorem ZN5(i:Nat){y:Str}{py spos:Pos}(hN:X.N.Nodup)(hi:QI X E0 tg iter it)(hg:∀C s₀ H₀ ex,(Hb tg caps X.N).Nodup->QG (blk X (Hb tg caps X.N) scope C s₀ H₀ ex) E0 tg g)(gk:GK nt g)(hts:∀C s₀ H₀ ex,QTs (blk X (Hb tg caps X.N) scope C s₀ H₀ ex) E0 ifs c)
  (he:∀C s₀ H₀ ex,QE (blk X (Hb tg caps X.N) scope C s₀ H₀ ex) E0 elt te) (hc:X.calm=vF:=by rfl) (hk:scope.kind=.function:=by rfl) (hdn:∀x,X.env.kindOf x=X.env.scope.names.lookup x:=by intro _;rfl)
  (h:Ui X.env.scope.names X.N (Hb tg caps X.N) scope.names nt caps=vF:=by kernel_rfl)
  (hy:X.N[i]?=vD y:=by rfl) (hx:Loc X.env.scope y:=by first|exact Or.inl rfl|exact Or.inr rfl) (hf:X.fn y=vF∨X.env.scope.names.lookup y=vD .local:=by first|exact .inl rfl|exact .inr rfl|assumption)
  (hsw:swapsWith (.ListComp elt [⟨tg,iter,ifs,0⟩] scope pos) (vD (.Name y py)) spos.line X.env=pure vF:=by rfl)
  (hs:∀x,foldedSetIterable iter X.env x=pure x:=by intro _;rfl):QS X E0 (.Assign [.Name y py] (.ListComp elt [⟨tg,iter,ifs,0⟩] scope pos) spos) (sAs (Cm it nt caps g c te) (gV i)):=
 have cs:=ZEH hk hdn rfl h
 ZPI i hc hN cs hi (λC s₀ H₀ ex=>hg C s₀ H₀ ex cs.nd) gk hts he hy hx hf hsw hs
end
theorem bnd1{p:List xC->Prop}(h:∀a,p [a]):∀us:List xC,us.length=1->p us
 |[a],_=>h a
theorem bnd2{p:List xC->Prop}(h:∀a b,p [a,b]):∀us:List xC,us.length=2->p us
 |[a,b],_=>h a b
theorem bnd3{p:List xC->Prop}(h:∀a b c,p [a,b,c]):∀us:List xC,us.length=3->p us
 |[a,b,c],_=>h a b c
theorem bnd4{p:List xC->Prop}(h:∀a b c d,p [a,b,c,d]):∀us:List xC,us.length=4->p us
 |[a,b,c,d],_=>h a b c d
theorem bnd5{p:List xC->Prop}(h:∀a b c d e,p [a,b,c,d,e]):∀us:List xC,us.length=5->p us
 |[a,b,c,d,e],_=>h a b c d e
theorem fsc{N P:List Str}{sc:x0}(a:sc.kind=.function:=by rfl)(b:sc.isCoroutine=vG:=by rfl)(c:sc.isGenerator=vG:=by rfl)(d:N.Nodup:=by decide +kernel)(e:N.take P.length=P:=by rfl)
  (f:∀x∈P,sc.names.lookup x=vD .local∨sc.names.lookup x=vD .cell:=by decide +kernel) (g:∀y∈sc.names,y.2≠ .free:=by decide +kernel):FnScope N P sc:=⟨a,b,c,d,e,f,g⟩
end _D
namespace _D
open PySem PySem.W _L
theorem ZPf{X:Cx}{E:XK}{x:Str}{n:Int}{t:Tok}{pos:Pos}(hg:Gl X x)(hm:X.mg x=vD (.int n t))(hd:(x==("__debug__":Str))=vG:=by decide):QE X E (.Name x pos) (dC (.int n)):=
 ZEC (v:=.int n) hg hm ⟨_,rfl⟩ (λ_ _=>rfl) hd
theorem ZPd{X:Cx}{E:XK}{x:Str}{n:Str}{t:Tok}{pos:Pos}(hg:Gl X x)(hm:X.mg x=vD (.str n t))(hd:(x==("__debug__":Str))=vG:=by decide):QE X E (.Name x pos) (dC (.str n)):=
 ZEC (v:=.str n) hg hm ⟨_,rfl⟩ (λ_ _=>rfl) hd
section
open Lean
def wA(s:String):Syntax:=.atom .none s
def wL(l:List Syntax):Syntax:=.node .none `null l.toArray
def wN(k:String)(l:List Syntax):Syntax:=.node .none ("Lean.Parser."++k).toName l.toArray
def wX(l:List Syntax):Syntax:=wN "Tactic.tacticSeq" [wN "Tactic.tacticSeq1Indented" [wL l]]
def wP(l:List Syntax):Syntax:=wN "Tactic.paren" [wA "(",wX l,wA ")"]
def wI(s:String):Syntax:=(mkIdent s.toName).raw
def wH:Syntax:=wN "Term.syntheticHole" [wA "?",wA "_"]
def wU(l:List String):Syntax:=wN "Term.fun" [wA "fun",wN "Term.basicFun" [wL (l.map wI),wL [],wA "=>",wH]]
def wY(l:List Syntax):Syntax:=match l.reverse with
 |x::y::r=>wN "Term.app" [x,wL (y::r)]
 |[x]=>x
 |_=>.missing
def wT(s:String):Syntax:=wY ((((s.replace "(" "( ").replace ")" " )").splitOn " ").foldl (λst w=>match st with
 | a::r=>
  if w="" then st else if w="(" then[]::st else if w=")" then(match r with
   |b::q=>(wY a::b)::q
   |_=>st)
  else((if w="_" then wN "Term.hole" [wA w]else if w="?" then wH else if w="." then wN "Term.ellipsis" [wA ".."]
   else if w="L" then wU ["C","s","H","e","nd"]else if w="l" then wU ["C","s","H","e"]
   else if w="d" then wN "Term.byTactic" [wA "by",wX [wN "Tactic.decide" [wA "decide",wN "Tactic.optConfig" [wL []]]]]
   else if w.isNat then(Syntax.mkNumLit w).raw else wI w)::a)::r
 |_=>st) [[]]).head!
def wF(l:List Syntax):Syntax:=wN "Tactic.first" [wA "first",wL (l.map λx=>.node .none `group #[wA "|",wX [x]])]
def wJ(a b:Syntax):Syntax:=wN "Tactic.«tactic_<;>_»" [a,wA "<;>",b]
def wG(k:String)(t:Syntax)(r:Syntax):Syntax:=wP [wN "Tactic.guardTarget" [wA "guard_target",wN "equal" [wN k [wA "="]],t],wA ";",r]
def wV:Syntax:=wN "Tactic.tacticTrivial" [wA "trivial"]
def wB(s:String):Syntax:=
 let t:=wT (s.drop 1).toString;let f:=λk=>wN ("Tactic."++k) [wA k,t]
 let c:=s.front
 if c='@' then f "apply" else if c='!' then wN "Tactic.withReducible" [wA "with_reducible",wX [f "exact"]]
 else if c='=' then wP [wJ (f "refine") (wN "Tactic.tacticRfl" [wA "rfl"])]else if c='<' then wP [wJ (f "refine'") wV]else if c='.' then f "exact" else f "refine'"
def wC(s:String):Syntax:=wF ((s.splitOn ",").map wB)
def wR(s:String):Syntax:=wF ((s.splitOn "#").map λg=>match g.splitOn "|" with
 | h::r=>
  let b:=wF (r.map λa=>match a.splitOn ":" with
   |[a,x]=>wG "equalD" (wT (h++" "++a)) (wC x)
   |_=>wC a)
  if h.front='=' then wG "equalR" (wT (h.drop 1).toString) b else if h.front='*' then b else wG "equalD" (wT (h++" _ _")) (wJ (wP [b]) wV)
 |_=>.missing)
end
end _D
namespace _W
open PySem _L _D
noncomputable def fuel:Nat:=100000
theorem ZPq:FnScope ["self","most"] ["self","most"] (Ag Xp):=fsc
noncomputable abbrev ZF2:List Str:=["_law_number_here","_law_k","_law_digit"]
noncomputable abbrev ZBn:=ZF2.take 2
theorem ZNU:FnScope ZF2 ZBn (Ag ZAf):=fsc
noncomputable abbrev ZEd:List Str:=["_law_script"]
noncomputable abbrev ZAq:=ZEd.take 1
theorem ZOc:FnScope ZEd ZAq (Ag Wz):=fsc
noncomputable abbrev ZCF:List Str:=["_law_script","_law_k","_law_number_here"]
noncomputable abbrev Wb:=ZCF.take 2
theorem ZSQ:FnScope ZCF Wb (Ag V7):=fsc
noncomputable abbrev ZDg:List Str:=["_law_cell","_law_unit_here"]
noncomputable abbrev ZAe:=ZDg.take 2
theorem ZIa:FnScope ZDg ZAe (Ag ZAc):=fsc
noncomputable abbrev ZHa:List Str:=["_law_script"]
noncomputable abbrev Yl:=ZHa.take 1
theorem ZPB:FnScope ZHa Yl (Ag W7):=fsc
noncomputable abbrev ZDX:List Str:=["_law_script","_law_house_here","_law_turns","_law_many","_law_b","_law_floods_here","_law_at","_law_cells"]
noncomputable abbrev Xq:=ZDX.take 3
theorem ZOx:FnScope ZDX Xq (Ag Wf):=fsc
noncomputable abbrev ZHg:List Str:=["_law_steps_here","_law_total","_law_low","_law_many","_law_way"]
noncomputable abbrev Zf:=ZHg.take 1
theorem ZK5:FnScope ZHg Zf (Ag Wr):=fsc
noncomputable abbrev ZB1:List Str:=["_law_cells","_law_unit_here","_law_pumps","_law_steps_here","_law_low","_law_k","_law_many","_law_way"]
noncomputable abbrev Vi:=ZB1.take 3
theorem ZNS:FnScope ZB1 Vi (Ag Wg):=fsc
noncomputable abbrev ZFj:List Str:=["_law_script"]
noncomputable abbrev Yx:=ZFj.take 1
theorem ZKC:FnScope ZFj Yx (Ag Yi):=fsc
noncomputable abbrev ZCk:List Str:=["_law_script","_law_b","_law_unit_here","_law_pumps","_law_year_here","_law_rule_here","_law_begin","_law_j","_law_later","_law_cells"]
noncomputable abbrev Va:=ZCk.take 4
theorem ZOF:FnScope ZCk Va (Ag ZBi):=fsc
noncomputable abbrev ZGE:List Str:=["_law_script","_law_b","_law_k","_law_names","_law_river","_law_unit_here","_law_cell","_law_pumps","_law_rule_here","_law_pump","_law_limit","_law_to","_law_brim"]
noncomputable abbrev W3:=ZGE.take 5
theorem ZMi:FnScope ZGE W3 (Ag ZA2):=fsc
noncomputable abbrev ZGH:List Str:=["_law_cell","_law_k","_law_many","_law_other_here","_law_telling"]
noncomputable abbrev ZBO:=ZGH.take 3
theorem ZKp:FnScope ZGH ZBO (Ag V9):=fsc
noncomputable abbrev ZBv:List Str:=["_law_script","_law_first","_law_many","_law_names","_law_k","_law_places","_law_b","_law_step","_law_delay","_law_river","_law_kind","_law_amount_here","_law_rank"]
noncomputable abbrev ZAk:=ZBv.take 1
theorem ZLw:FnScope ZBv ZAk (Ag Zy):=fsc
noncomputable abbrev ZDE:List Str:=["_law_e"]
noncomputable abbrev ZAW:=ZDE.take 1
theorem ZDw:FnScope ZDE ZAW (Ag ZBc):=fsc
noncomputable abbrev ZGv:List Str:=["house","floods"]
noncomputable abbrev Xw:=ZGv.take 2
theorem ZDS:FnScope ZGv Xw (Ag Vp):=fsc
noncomputable abbrev ZEQ:List Str:=["self","house","state","at","flood","levels","coming"]
noncomputable abbrev Ye:=ZEQ.take 5
theorem ZQE:FnScope ZEQ Ye (Ag ZAv):=fsc
noncomputable abbrev ZHh:List Str:=["self","to","delay","cubes"]
noncomputable abbrev Vf:=ZHh.take 4
theorem ZRj:FnScope ZHh Vf (Ag Yt):=fsc
noncomputable abbrev ZCX:List Str:=["house","name","number","place"]
noncomputable abbrev ZBh:=ZCX.take 2
theorem ZCr:FnScope ZCX ZBh (Ag Vw):=fsc
noncomputable abbrev ZCL:List Str:=["house","place","name"]
noncomputable abbrev Yy:=ZCL.take 2
theorem ZPl:FnScope ZCL Yy (Ag Vc):=fsc
noncomputable abbrev ZGz:List Str:=["self","number","cubes","down"]
noncomputable abbrev ZBS:=ZGz.take 3
theorem ZNd:FnScope ZGz ZBS (Ag Zr):=fsc
noncomputable abbrev ZCl:List Str:=["stairs","water","river","pump","height","many","way","cubes"]
noncomputable abbrev ZBa:=ZCl.take 2
theorem ZKy:FnScope ZCl ZBa (Ag ZAa):=fsc
noncomputable abbrev ZGe:List Str:=["rule","turn","held","first","stairs"]
noncomputable abbrev ZBL:=ZGe.take 2
theorem ZJK:FnScope ZGe ZBL (Ag Wq):=fsc
noncomputable abbrev ZDK:List Str:=["self","number","place","came","let","pumped","stays","lies","spilled"]
noncomputable abbrev ZAN:=ZDK.take 2
theorem ZNt:FnScope ZDK ZAN (Ag Z4):=fsc
noncomputable abbrev ZE5:List Str:=["rows","takes","passing","row","number"]
noncomputable abbrev ZBm:=ZE5.take 2
theorem ZN7:FnScope ZE5 ZBm (Ag Zd):=fsc
noncomputable abbrev ZDr:List Str:=["house","number","places","down"]
noncomputable abbrev Yw:=ZDr.take 2
theorem ZSd:FnScope ZDr Yw (Ag Yk):=fsc
noncomputable abbrev ZHB:List Str:=["house","members","came","rows","number","place","down","row_down"]
noncomputable abbrev ZBB:=ZHB.take 3
theorem ZJC:FnScope ZHB ZBB (Ag Ys):=fsc
noncomputable abbrev ZIW:List Str:=["rows","order"]
noncomputable abbrev ZBD:=ZIW.take 1
theorem ZNz:FnScope ZIW ZBD (Ag ZBP):=fsc
noncomputable abbrev ZFg:List Str:=["rows","number","way","down"]
noncomputable abbrev Zk:=ZFg.take 2
theorem ZSL:FnScope ZFg Zk (Ag Vr):=fsc
noncomputable abbrev ZGI:List Str:=["rows","takes","passing","number","way","take","below"]
noncomputable abbrev ZAj:=ZGI.take 1
theorem ZSc:FnScope ZGI ZAj (Ag ZBI):=fsc
noncomputable abbrev ZBq:List Str:=["self","members","rows","takes","number","took","let"]
noncomputable abbrev Xh:=ZBq.take 2
theorem ZPv:FnScope ZBq Xh (Ag Zq):=fsc
noncomputable abbrev ZC8:List Str:=["house","lasts","number","down"]
noncomputable abbrev ZBF:=ZC8.take 1
theorem ZIt:FnScope ZC8 ZBF (Ag Z9):=fsc
noncomputable abbrev ZGU:List Str:=["self","lasts","number","last"]
noncomputable abbrev We:=ZGU.take 1
theorem ZNj:FnScope ZGU We (Ag ZA1):=fsc
noncomputable abbrev ZFm:List Str:=["self"]
noncomputable abbrev Vx:=ZFm.take 1
theorem ZNI:FnScope ZFm Vx (Ag W8):=fsc
noncomputable abbrev ZFW:List Str:=["house","state","at","flood","course"]
noncomputable abbrev Zo:=ZFW.take 4
theorem ZI2:FnScope ZFW Zo (Ag W2):=fsc
noncomputable abbrev ZEm:List Str:=["house","state","at","floods","pages","number","flood","page"]
noncomputable abbrev ZA8:=ZEm.take 4
theorem ZKb:FnScope ZEm ZA8 (Ag Y6):=fsc
noncomputable abbrev ZIK:List Str:=["house","state","floods","most","states","pages","year","behind"]
noncomputable abbrev Wo:=ZIK.take 4
theorem ZGb:FnScope ZIK Wo (Ag Wt):=fsc
noncomputable abbrev ZCW:List Str:=["house","state","floods","most","states","pages"]
noncomputable abbrev T9:=ZCW.take 4
theorem ZEz:FnScope ZCW T9 (Ag ZAd):=fsc
noncomputable abbrev ZCu:List Str:=["_law_house_here","_law_state_here","_law_floods_here","_law_limit","_law_told","_law_e","_law_base"]
noncomputable abbrev Ze:=ZCu.take 4
theorem Jm:FnScope ZCu Ze (Ag W9):=fsc
noncomputable abbrev ZHq:List Str:=["_law_script","_law_house_here","_law_places","_law_unit_here","_law_b","_law_levels","_law_coming","_law_k","_law_level","_law_cell","_law_row","_law_j"]
noncomputable abbrev ZAh:=ZHq.take 2
theorem ZQr:FnScope ZHq ZAh (Ag Ym):=fsc
noncomputable abbrev ZCJ:List Str:=["_law_row"]
noncomputable abbrev Xk:=ZCJ.take 1
theorem ZQq:FnScope ZCJ Xk (Ag Zc):=fsc
noncomputable abbrev ZEO:List Str:=["_law_found","_law_state_here"]
noncomputable abbrev Yu:=ZEO.take 1
theorem ZLV:FnScope ZEO Yu (Ag Yc):=fsc
noncomputable abbrev ZCw:List Str:=["_law_house_here","_law_state_here","_law_floods_here","_law_limit","_law_states","_law_k"]
noncomputable abbrev W4:=ZCw.take 4
theorem ZH1:FnScope ZCw W4 (Ag Y0):=fsc
noncomputable abbrev ZD7:List Str:=["_law_script","_law_house_here","_law_state_here","_law_way","_law_turns","_law_limit","_law_floods_here","_law_due","_law_told","_law_handed","_law_found"]
noncomputable abbrev Yn:=ZD7.take 1
theorem ZCP:FnScope ZD7 Yn (Ag Gh):=fsc
def O8:DS:=(sAs (dOp Bx (dV 0) (dOp Hc (dC (.int 10)) (dC (.int 8)))) (gV 0))
def Xg:DS:=(Ad (sIf (Ak (O4 Pu Gm (dC (.int 0)) (dV 0) (dOp Hc (dC (.int 10)) (dC (.int 18))))) (Ad (sAs (dOp Aw (dOp Aj (dOp Aj (dV 0) (dOp Ax (dC (.int 1009)) (dV 1))) (dC (.int 7))) (dC (.int 999999937))) (gV 0)) (Ad (sAs (dOp Aw (dOp Ax (dV 0) (dV 0)) (dC (.int 999999929))) (gV 0)) (sRt (dOp Aw (dOp Ax (dV 0) (dOp Aj (dV 0) (dV 1))) (dC (.int 99999989)))))) sNx) (Ad (Ci (Br rng1 (Aa (dV 1) Ac)) (gV 2) O8) (sRt (dOp Aw (dV 0) (dOp Hc (dC (.int 10)) (dC (.int 8)))))))
def Q4:List D->DH->R D:=Ao 2 1 Xg
def ZA6:DS:=(sRt (Gd (dOp Gf (dFn Bp (Aa (dV 0) Ac)) (dC (.int 0))) (N5 (dOp Gm (dOp Ae (dV 0) (dC (.int 0))) (dC (.int 0))) (dOp Ro (dOp Ae (dV 0) (dC (.int 0))) (dOp Hc (dC (.int 10)) (dC (.int 18)))))))
def Jy:List D->DH->R D:=Ao 1 0 ZA6
def Lq:DS:=(Ad (sIf (Ak (dFn Jy (Aa (dV 0) Ac))) (Ad (sAs (dC (.int 0)) (gV 2)) (Ad (sIf (Ak (dOp Gm (dOp Aj (dC (.int 1)) (dOp Bx (dV 1) (dC (.int 14)))) (dFn Bp (Aa (dV 0) Ac)))) (sAs (dOp Ae (dV 0) (dOp Aj (dC (.int 1)) (dOp Bx (dV 1) (dC (.int 14))))) (gV 2)) sNx) (sRt (dFn Q4 (Aa (dV 2) (Aa (dOp Aw (dV 1) (dC (.int 14))) Ac)))))) sNx) (Ad (sIf (Ak (dOp Gm (dV 1) (dFn Bp (Aa (dV 0) Ac)))) (sRt (dOp Ae (dV 0) (dV 1))) sNx) (Ad (sAs (dOp Aw (dOp Ax (dC (.int 48271)) (dOp Aj (dOp Ax (dV 1) (dV 1)) (dOp Ax (dC (.int 7)) (dFn Bp (Aa (dV 0) Ac))))) (dC (.int 2147483647))) (gV 2)) (Ad (sIf (Ak (dOp Gf (dFn Bp (Aa (dV 0) Ac)) (dC (.int 0)))) (sAs (dOp Aj (dV 2) (dOp Aw (dOp Ax (dOp Ae (dV 0) (dOp Aw (dV 1) (dFn Bp (Aa (dV 0) Ac)))) (dC (.int 69621))) (dC (.int 2147483629)))) (gV 2)) sNx) (sRt (dV 2))))))
def Aq:List D->DH->R D:=Ao 2 1 Lq
def ZID:DS:=(sRt (dOp Aj (dOp Ax (dV 1) (dOp Aw (dV 0) (dC (.int 7)))) (dOp Aw (dOp Bx (dV 0) (dC (.int 7))) (dV 1))))
def Ko:List D->DH->R D:=Ao 2 0 ZID
def Rz:DS:=(sRt (dOp Ae (Bb (dFn Ah (Aa (dC (.int 1)) (Aa (dC (.int 1)) (Aa (dOp Hc (dC (.int 10)) (dC (.int 30))) Ac))))) (dOp Aw (dOp Bx (dFn Aq (Aa (dV 0) (Aa (dC (.int 0)) Ac))) (dC (.int 840))) (dC (.int 3)))))
def Es:List D->DH->R D:=Ao 1 0 Rz
def Yp:DE:=(dFn Aq (Aa (dV 1) (Aa (dOp Aj (dOp Aj (dV 3) (dOp Ax (dV 4) (dV 2))) (dV 0)) Ac)))
def ZBC:DE:=(dFn Ko (Aa (dV 0) (Aa (Bb (dFn Es (Aa (dV 1) Ac))) Ac)))
def Nf:DS:=(Ad (sAs (Bb (Cm (Br rng1 (Aa (dV 3) Ac)) 1 [0,3,4,6] (gV 0) Bh Yp)) (gV 7)) (sEx (De Dl (dV 5) (Aa (dFn Ek (Aa (Bb (Cm (Ds (dV 7)) 1 [0] (gV 0) Bh ZBC)) Ac)) Ac))))
def ZGS:DS:=(Ad (sAs (dFn Bp (Aa (dOp Ae (dV 1) (dC (.int 1))) Ac)) (gV 3)) (Ad (sAs (dOp Aj (dC (.int 6)) (dOp Ax (dC (.int 14)) (dV 3))) (gV 4)) (Ad (sAs (Cj (dFn Ah Ac)) (gV 5)) (Ad (Ci (Br rng1 (Aa (dV 2) Ac)) (gV 6) Nf) (sRt (dV 5))))))
def Oc:List D->DH->R D:=Ao 3 5 ZGS
def Tr:DS:=(sIf (Ak (dOp Bf (dV 4) (dC (.str "pump")))) (sAs (dOp Aj (dV 1) (dV 3)) (gV 1)) sNx)
def ZCY:DS:=(Ad (sAs (dC (.int 0)) (gV 1)) (Ad (Ci (Ds (dV 0)) (Ba 3 (Af (gV 2) (Af (gV 3) (Af (gV 4) Bd)))) Tr) (sRt (dV 1))))
def U5:List D->DH->R D:=Ao 1 4 ZCY
def Oj:DS:=(Ad (sAs (dOp Aj (dV 4) (dOp Ax (dV 1) (dOp Aw (dOp Ae (dV 0) (dOp Aj (dC (.int 1)) (dV 5))) (dC (.int 4))))) (gV 4)) (Ad (sAs (dOp Aj (dC (.int 1)) (dOp Ax (dV 1) (dOp Aw (dOp Bx (dOp Ae (dV 0) (dOp Aj (dC (.int 1)) (dV 5))) (dC (.int 4))) (dC (.int 4))))) (gV 6)) (Ad (sAs (dC (.str "river")) (gV 7)) (Ad (sIf (Jr (Ak (dV 2)) (Ak (dOp Bf (dOp Aw (dOp Bx (dOp Ae (dV 0) (dOp Aj (dC (.int 1)) (dV 5))) (dC (.int 16))) (dC (.int 2))) (dC (.int 1))))) (sAs (dC (.str "pump")) (gV 7)) sNx) (Ad (sEx (De Dl (dV 3) (Aa (dFn An (Aa (dV 4) (Aa (dV 6) (Aa (dV 7) Ac)))) Ac))) (sAs (dOp Aj (dV 4) (dV 6)) (gV 4)))))))
def ZHW:DS:=(Ad (sAs (Cj (dFn Ah Ac)) (gV 3)) (Ad (sAs (dC (.int 0)) (gV 4)) (Ad (Ci (Br rng1 (Aa (dOp Aw (dOp Ae (dV 0) (dC (.int 0))) (dC (.int 4))) Ac)) (gV 5) Oj) (sRt (dFn Ek (Aa (dV 3) Ac))))))
def U6:List D->DH->R D:=Ao 3 5 ZHW
def ZDR:DS:=(sRt (dOp Aj (dC (.int 1)) (dOp Aw (dFn Aq (Aa (dV 0) (Aa (dC (.int 1)) Ac))) (dC (.int 4)))))
def Hk:List D->DH->R D:=Ao 1 0 ZDR
def Vo:DE:=(dOp Bx (dFn Aq (Aa (dV 1) (Aa (dOp Aj (dOp Aj (dV 2) (dC (.int 5))) (dOp Aw (dOp Aj (dOp Ax (dC (.int 3)) (dV 3)) (dV 0)) (dC (.int 6)))) Ac))) (dOp Aj (dC (.int 1)) (dOp Ax (dC (.int 7)) (dOp Bx (dV 3) (dC (.int 2))))))
def Z8:DE:=(dOp Bx (dFn Aq (Aa (dV 1) (Aa (dOp Aj (dOp Aj (dV 2) (dC (.int 5))) (dV 0)) Ac))) (dOp Ae (Bb (dFn Ah (Aa (dC (.int 1)) (Aa (dC (.int 64)) (Aa (dC (.int 4096)) (Aa (dC (.int 262144)) Ac)))))) (dV 3)))
def Sw:DS:=(sIf (dOr (Ak (dOp Bf (dV 7) (dC (.int 0)))) (Jr (Ak (dOp Bf (dOp Aw (dV 8) (dC (.int 2))) (dC (.int 1)))) (Ak (dOp Gm (dOp Aj (dV 6) (dC (.int 1))) (dV 4))))) (Ad (sIf (Ak (dOp Gf (dV 7) (dC (.int 0)))) (sAs (dOp Aj (dOp Aj (dV 6) (dC (.int 1))) (dOp Aw (dOp Bx (dV 8) (dC (.int 2))) (dOp Do (dOp Do (dV 4) (dV 6)) (dC (.int 1))))) (gV 6)) sNx) (sEx (De Dl (dV 5) (Aa (dFn An (Aa (dV 6) (Aa (dFn U6 (Aa (dV 9) (Aa (dV 2) (Aa (dV 3) Ac)))) Ac))) Ac)))) sNx)
def ZFr:DS:=(Ad (sIf (Ak (dFn Jy (Aa (dV 0) Ac))) (Ad (sAs (dOp Bx (dFn Aq (Aa (dV 0) (Aa (dOp Aj (dV 1) (dC (.int 4))) Ac))) (dOp Ae (Bb (dFn Ah (Aa (dC (.int 1)) (Aa (dC (.int 48)) (Aa (dC (.int 2304)) (Aa (dC (.int 110592)) Ac)))))) (dV 7))) (gV 8)) (sAs (Bb (Cm (Br rng1 (Aa (dC (.int 4)) Ac)) 1 [0,1,7] (gV 0) Bh Z8)) (gV 9))) sNx) Sw)
def ZEh:DS:=(Ad (sAs (Bb (Cm (Br rng1 (Aa (dC (.int 4)) Ac)) 1 [0,1,7] (gV 0) Bh Vo)) (gV 9)) ZFr)
def Iu:DS:=(Ad (sAs (dOp Aw (dOp Ax (dOp Ax (dFn Aq (Aa (dV 0) (Aa (dOp Aj (dV 1) (dC (.int 4))) Ac))) (dC (.int 48271))) (dOp Aj (dOp Ax (dV 7) (dV 7)) (dC (.int 1)))) (dC (.int 10007))) (gV 8)) ZEh)
def ZFC:DS:=(Ad (sAs (dFn Hk (Aa (dV 0) Ac)) (gV 4)) (Ad (sAs (Cj (dFn Ah Ac)) (gV 5)) (Ad (sAs (dC (.int 0)) (gV 6)) (Ad (Ci (Br rng1 (Aa (dC (.int 4)) Ac)) (gV 7) Iu) (sRt (dFn Ek (Aa (dV 5) Ac)))))))
def S8:List D->DH->R D:=Ao 4 6 ZFC
def Z3:DE:=(dFn U5 (Aa (dOp Ae (dV 0) (dC (.int 1))) Ac))
def ZFQ:DS:=(sRt (dFn An (Aa (dC (.str "basin")) (Aa (dOp Ae (dV 3) (dV 2)) (Aa (dOp Ae (dV 4) (dC (.int 0))) (Aa (dOp Ae (dV 4) (dC (.int 1))) (Aa (dV 12) (Aa (dV 8) (Aa (dV 9) Ac)))))))))
def K3:DS:=(Ad (sAs (dFn Ko (Aa (dFn Aq (Aa (dV 0) (Aa (dOp Aj (dV 1) (dC (.int 3))) Ac))) (Aa (dV 5) Ac))) (gV 12)) ZFQ)
def X4:DS:=(Ad (sIf (Ak (dV 7)) (Ad (sAs (dOp Aj (dFn Kh (Aa (Bb (Cm (Ds (dV 8)) 1 [] (gV 0) Bh Z3)) Ac)) (dOp Ax (dV 5) (dOp Aw (dOp Bx (dV 6) (dC (.int 130))) (dC (.int 2))))) (gV 10)) (Ad (sAs (dOp Ae (dV 3) (dOp Aw (dOp Aj (dOp Aj (dV 2) (dC (.int 1))) (dOp Aw (dOp Bx (dV 6) (dC (.int 2))) (dOp Do (dFn Bp (Aa (dV 3) Ac)) (dC (.int 1))))) (dFn Bp (Aa (dV 3) Ac)))) (gV 11)) (sAs (dFn An (Aa (dV 11) (Aa (dOp Aj (dC (.int 1)) (dOp Aw (dOp Bx (dV 6) (dC (.int 26))) (dC (.int 5)))) (Aa (dV 10) Ac)))) (gV 9)))) sNx) K3)
def ZA4:DS:=(Ad (sAs (dC .non) (gV 9)) X4)
def Kz:DS:=(Ad (sAs (dFn S8 (Aa (dV 0) (Aa (dV 1) (Aa (dV 5) (Aa (dV 7) Ac))))) (gV 8)) ZA4)
def ZHl:DS:=(Ad (sAs (Gd (dOp Gf (dFn Bp (Aa (dV 3) Ac)) (dC (.int 1))) (dOp Bf (dOp Aw (dV 6) (dC (.int 2))) (dC (.int 1)))) (gV 7)) Kz)
def ZDm:DS:=(Ad (sAs (dFn Aq (Aa (dV 0) (Aa (dOp Aj (dV 1) (dC (.int 11))) Ac))) (gV 6)) ZHl)
def ZAE:DS:=(Ad (sAs (Bb (dFn Es (Aa (dV 0) Ac))) (gV 5)) ZDm)
def Oz:List D->DH->R D:=Ao 5 8 ZAE
def ZCH:DS:=(Ad (sAs (dOp Ae (dC (.str "abcdefghijklmnopqrstuvwxyz")) (dOp Aw (dOp Bx (dV 0) (dC (.int 21))) (dC (.int 26)))) (gV 3)) (Ad (sIf (Jr (Ak (dOp Bf (dOp Aw (dV 0) (dC (.int 3))) (dC (.int 1)))) (Ak (dOp Gm (dV 2) (dC (.int 9))))) (sRt (dOp Ax (dV 3) (dOp Aj (dV 1) (dC (.int 1))))) sNx) (Ad (sAs (dOp Ae (dC (.str "abcdefghijkl")) (dOp Aw (dOp Aj (dOp Ax (dC (.int 5)) (dV 1)) (dOp Bx (dV 0) (dC (.int 546)))) (dC (.int 12)))) (gV 4)) (Ad (sIf (Ak (dOp Bf (dOp Aw (dV 0) (dC (.int 3))) (dC (.int 2)))) (sRt (dOp Aj (dV 4) (dOp Ax (dV 3) (dOp Aw (dOp Bx (dV 0) (dC (.int 3))) (dC (.int 7)))))) sNx) (sRt (dOp Aj (dOp Aj (dOp Ax (dV 3) (dOp Aw (dOp Bx (dV 0) (dC (.int 3))) (dC (.int 7)))) (dV 4)) (dOp Ax (dV 3) (dOp Do (dC (.int 6)) (dOp Aw (dOp Bx (dV 0) (dC (.int 3))) (dC (.int 7)))))))))))
def Uz:List D->DH->R D:=Ao 3 2 ZCH
def Xr:DE:=(dFn Uz (Aa (dFn Aq (Aa (dV 1) (Aa (dC (.int 5)) Ac))) (Aa (dV 0) (Aa (dV 2) Ac))))
def M3:DS:=(sIf (Ak (dOp Gm (dV 10) (dC (.int 2)))) (sEx (De Dl (dV 5) (Aa (Bb (dFn Oz (Aa (dV 0) (Aa (dV 6) (Aa (dV 4) (Aa (dV 3) (Aa (dV 9) Ac))))))) Ac))) (sIf (Ak (dOp Gm (dV 10) (dC (.int 4)))) (sEx (De Dl (dV 5) (Aa (dFn An (Aa (dC (.str "town")) (Aa (dOp Ae (dV 3) (dV 4)) (Aa (dOp Ae (dV 9) (dC (.int 0))) (Aa (dOp Ae (dV 9) (dC (.int 1))) (Aa (dV 11) (Aa (dV 12) Ac))))))) Ac))) (sEx (De Dl (dV 5) (Aa (dFn An (Aa (dC (.str "mill")) (Aa (dOp Ae (dV 3) (dV 4)) (Aa (dOp Ae (dV 9) (dC (.int 0))) (Aa (dOp Ae (dV 9) (dC (.int 1))) (Aa (dV 11) Ac)))))) Ac)))))
def Xx:DS:=(Ad (sAs (dOp Aw (dFn Aq (Aa (dV 0) (Aa (dOp Aj (dV 6) (dC (.int 4))) Ac))) (dOp Ae (Bb (dFn Ah (Aa (dC (.int 4)) (Aa (dOp Hc (dC (.int 10)) (dC (.int 40))) Ac)))) (dOp Aw (dOp Bx (dV 1) (dC (.int 840))) (dC (.int 2))))) (gV 12)) M3)
def ZAx:DS:=(Ad (sAs (dFn Ko (Aa (dFn Aq (Aa (dV 0) (Aa (dOp Aj (dV 6) (dC (.int 3))) Ac))) (Aa (Bb (dFn Es (Aa (dV 0) Ac))) Ac))) (gV 11)) Xx)
def Px:DS:=(Ad (sAs (dOp Aw (dFn Aq (Aa (dV 0) (Aa (dV 6) Ac))) (dC (.int 5))) (gV 10)) ZAx)
def ZAz:DS:=(Ad (sIf (Ak (dOp Gf (dV 7) (dC (.int 0)))) (sAs (dFn An (Aa (dOp Ae (dV 3) (dOp Aj (dV 4) (dV 7))) (Aa (dOp Ae (dV 9) (dC (.int 1))) Ac))) (gV 9)) sNx) Px)
def ZA3:DS:=(Ad (sAs (dFn An (Aa (dC (.str "sea")) (Aa (dOp Ax (dOp Aw (dV 8) (dC (.int 2))) (dOp Aw (dOp Bx (dV 8) (dC (.int 2))) (dC (.int 6)))) Ac))) (gV 9)) ZAz)
def Nt:DS:=(Ad (sAs (dFn Aq (Aa (dV 0) (Aa (dOp Aj (dV 6) (dC (.int 2))) Ac))) (gV 8)) ZA3)
def ZBE:DS:=(Ad (sIf (Ak (dOp Bf (dOp Aw (dOp Bx (dV 1) (dC (.int 280))) (dC (.int 3))) (dC (.int 1)))) (sAs (dFn Im (Aa (dC (.int 1)) (Aa (dOp Do (dOp Do (dV 2) (dC (.int 1))) (dV 4)) Ac))) (gV 7)) sNx) Nt)
def Qz:DS:=(Ad (sAs (dOp Aw (dFn Aq (Aa (dV 0) (Aa (dOp Aj (dV 6) (dC (.int 1))) Ac))) (dOp Do (dV 2) (dV 4))) (gV 7)) ZBE)
def J9:DS:=(Ad (sAs (dOp Aj (dC (.int 6)) (dOp Ax (dC (.int 12)) (dV 4))) (gV 6)) Qz)
def ZC7:DS:=(Ad (sAs (dFn Aq (Aa (dV 0) (Aa (dC (.int 0)) Ac))) (gV 1)) (Ad (sAs (dOp Aj (dC (.int 1)) (dOp Aw (dV 1) (dC (.int 4)))) (gV 2)) (Ad (sAs (Bb (Cm (Br rng1 (Aa (dV 2) Ac)) 1 [0,2] (gV 0) Bh Xr)) (gV 3)) (Ad (sAs (Cj (dFn Ah Ac)) (gV 5)) (Ad (Ci (Br rng1 (Aa (dV 2) Ac)) (gV 4) J9) (sRt (dFn An (Aa (dFn Hk (Aa (dV 0) Ac)) (Aa (dFn Ek (Aa (dV 5) Ac)) Ac)))))))))
def U7:List D->DH->R D:=Ao 1 12 ZC7
def ZGp:DS:=(Ad (sIf (Ak (dUn (isx [("NoBounds",vG),("TooLong",vG)]) (dV 0))) (sRt (dC (.bl vF))) sNx) (sRt (dUn (isx [("NoBounds",vG),("TooLong",vG)]) (dV 0))))
def Py:List D->DH->R D:=Ao 1 0 ZGp
def Vh:DS:=(sIf (Ak (dOp Dw (dFn Bp (Aa (dV 1) Ac)) (dOp Ae (dV 0) (dC (.int 0))))) (Q9 "NoBounds" (Aa (dC (.str "there is not a flood for each turn of the year")) Ac)) sNx)
def Lp:List D->DH->R D:=Ao 2 0 Vh
def Tv:DE:=(dOp Aj (dV 0) (dOp Ae (dV 1) (dC (.int 0))))
def Qc:DE:=(Cj (dOp Aj (Bb (dFn Jq (Aa (Bb (dSl (dV 0) (vD (dC (.int 1))) vE)) Ac))) (Bb (dFn Ah (Aa (dC (.int 0)) Ac)))))
def ZCj:DS:=(Ad (sAs (dV 2) (Ba 2 (Af (gV 5) (Af (gV 6) Bd)))) (Ad (Eb "Course" (dV 0) (dV 1) "house") (Ad (Eb "Course" (dV 0) (dV 5) "levels") (Ad (Eb "Course" (dV 0) (dOp Aw (dV 3) (dOp Ae (dV 1) (dC (.int 0)))) "year_turn") (Ad (Eb "Course" (dV 0) (Cm (Br (Fe 2) (Aa (dV 4) (Aa (dV 6) Ac))) 2 [] (Ba 2 (Af (gV 0) (Af (gV 1) Bd))) Bh Tv) "came") (Ad (Eb "Course" (dV 0) (Cm (Ds (dV 6)) 1 [] (gV 0) Bh Qc) "coming") (Ad (Eb "Course" (dV 0) (Cj (dOp Gx (dFn Ah (Aa (dC .non) Ac)) (dFn Bp (Aa (dV 5) Ac)))) "page") (Eb "Course" (dV 0) (Cj (dFn Ah Ac)) "reaches"))))))))
def Pz:List D->DH->R D:=Ao 5 2 ZCj
def ZDc:DS:=(sIf (Ak (dOp Bf (dV 2) (dC (.int 0)))) (J6 (Di "Course" (dV 0) "came") (dV 1) (dV 3) Jb) (J6 (dOp Ae (Di "Course" (dV 0) "coming") (dV 1)) (dOp Do (dV 2) (dC (.int 1))) (dV 3) Jb))
def Oh:List D->DH->R D:=Ao 4 0 ZDc
def Mp:DS:=(sIf (Ak (dOp Bf (dOp Ae (dV 3) (dC (.int 1))) (dV 1))) (sRt (dV 2)) sNx)
def ZEY:DS:=(Ad (Ci (Br Fj (Aa (dOp Ae (dV 0) (dC (.int 1))) Ac)) (Ba 2 (Af (gV 2) (Af (gV 3) Bd))) Mp) Vy)
def Q7:List D->DH->R D:=Ao 2 2 ZEY
def ZFw:DS:=(Ad (sAs (dOp Ae (dOp Ae (dOp Ae (dV 0) (dC (.int 1))) (dV 1)) (dC (.int 2))) (gV 2)) (Ad (sIf (Ak (dOp Bf (dV 2) (dC (.str "sea")))) (sRt (dC .non)) sNx) (sRt (dFn Q7 (Aa (dV 0) (Aa (dV 2) Ac))))))
def Ot:List D->DH->R D:=Ao 2 1 ZFw
def ZFl:DS:=(Ad (sAs (dFn Ot (Aa (Di "Course" (dV 0) "house") (Aa (dV 1) Ac))) (gV 3)) (sIf (Ak (dOp J8 (dV 3) (dC .non))) (sEx (Ey "Course" "send" Oh (dV 0) (Aa (dV 3) (Aa (dOp Ae (dOp Ae (dOp Ae (Di "Course" (dV 0) "house") (dC (.int 1))) (dV 1)) (dC (.int 3))) (Aa (dV 2) Ac))))) sNx))
def Pq:List D->DH->R D:=Ao 3 1 ZFl
def Qu:DS:=(Ad (sAs (dFn Q8 (Aa (dC (.int 0)) (Aa (dFn Im (Aa (dV 5) (Aa (dOp Do (dV 1) (dV 4)) Ac))) Ac))) (gV 7)) (sIf (Ak (dOp Bf (dV 6) (dC (.str "river")))) (sAu 2 (dV 7) Jb) (sAu 3 (dV 7) Jb)))
def ZF1:DS:=(Ad (sAs (dC (.int 0)) (gV 2)) (Ad (sAs (dC (.int 0)) (gV 3)) (Ad (Ci (Ds (dV 0)) (Ba 3 (Af (gV 4) (Af (gV 5) (Af (gV 6) Bd)))) Qu) (sRt (dFn An (Aa (dV 2) (Aa (dV 3) (Aa (dOp Do (dOp Do (dV 1) (dV 2)) (dV 3)) Ac))))))))
def Tw:List D->DH->R D:=Ao 2 6 ZF1
def Tt:DS:=(sIf (Ak (dOp Pu (dV 3) (dV 1))) (sAs (dV 4) (gV 2)) sNx)
def ZHF:DS:=(Ad (sAs (dFn An Ac) (gV 2)) (Ad (Ci (Ds (dV 0)) (Ba 2 (Af (gV 3) (Af (gV 4) Bd))) Tt) (sRt (dV 2))))
def Rr:List D->DH->R D:=Ao 2 3 ZHF
def ZH5:DS:=(Ad (sAs (dOp Ae (dOp Ae (Di "Course" (dV 0) "house") (dC (.int 1))) (dV 1)) (gV 2)) (Ad (sAs (dOp Ae (Di "Course" (dV 0) "came") (dV 1)) (gV 3)) (Ad (sAs (dFn Tw (Aa (dFn Rr (Aa (dOp Ae (dV 2) (dC (.int 5))) (Aa (Di "Course" (dV 0) "year_turn") Ac))) (Aa (dOp Aj (dOp Ae (Di "Course" (dV 0) "levels") (dV 1)) (dV 3)) Ac))) (Ba 3 (Af (gV 4) (Af (gV 5) (Af (gV 6) Bd))))) (Ad (sAs (dFn Im (Aa (dV 6) (Aa (dOp Ae (dV 2) (dC (.int 4))) Ac))) (gV 7)) (Ad (sAs (dOp Do (dV 6) (dV 7)) (gV 8)) (Ad (sAs (dFn An (Aa (dV 3) (Aa (dC (.int 0)) (Aa (dV 8) (Aa (dV 4) (Aa (dV 5) (Aa (dV 7) Ac))))))) (gIx (Di "Course" (dV 0) "page") (dV 1))) (Ad (sEx (Ey "Course" "send_down" Pq (dV 0) (Aa (dV 1) (Aa (dOp Aj (dV 4) (dV 8)) Ac)))) (sIf (Ak (dOp J8 (dOp Ae (dV 2) (dC (.int 6))) (dC .non))) (sEx (Ey "Course" "send" Oh (dV 0) (Aa (dFn Q7 (Aa (Di "Course" (dV 0) "house") (Aa (dOp Ae (dOp Ae (dV 2) (dC (.int 6))) (dC (.int 0))) Ac))) (Aa (dOp Ae (dOp Ae (dV 2) (dC (.int 6))) (dC (.int 1))) (Aa (dV 5) Ac))))) sNx))))))))
def R1:List D->DH->R D:=Ao 2 7 ZH5
def Wa:DE:=(dOp Do (dOp Ae (dV 0) (dC (.int 1))) (dV 1))
def K6:DS:=(sIf (Ak (dOp J8 (dOp Ae (dV 3) (dC (.int 0))) (dC .non))) (J6 (dV 2) (dOp Ae (dV 3) (dC (.int 0))) (dOp Ae (dV 2) (dV 4)) Jb) sNx)
def ZEJ:DS:=(Ad (sAs (Cm (Br (Fe 2) (Aa (dV 0) (Aa (dV 1) Ac))) 2 [] (Ba 2 (Af (gV 0) (Af (gV 1) Bd))) Bh Wa) (gV 2)) (Ad (Ci (Br Fj (Aa (dV 0) Ac)) (Ba 2 (Af (gV 4) (Af (gV 3) Bd))) K6) (sRt (dV 2))))
def M7:List D->DH->R D:=Ao 2 3 ZEJ
def ZEp:DS:=(Ad (sAs (dOp Ae (dV 0) (dC (.int 1))) (gV 2)) (Ad (sAs (dFn Ot (Aa (dV 0) (Aa (dV 1) Ac))) (gV 3)) (Ad (sIf (dOr (Ak (dOp Mf (dV 3) (dC .non))) (Ak (dOp Gf (dOp Ae (dOp Ae (dV 2) (dV 1)) (dC (.int 3))) (dC (.int 0))))) (sRt (dC .non)) sNx) (Ad (sIf (dOr (Ak (dOp Bf (dOp Ae (dOp Ae (dV 2) (dV 1)) (dC (.int 0))) (dC (.str "basin")))) (Ak (dOp Bf (dOp Ae (dOp Ae (dV 2) (dV 3)) (dC (.int 0))) (dC (.str "basin"))))) (sRt (dC .non)) sNx) (sRt (dV 3))))))
def Ou:List D->DH->R D:=Ao 2 2 ZEp
def Ni:DS:=(Ad (sAs (dOp Ae (dOp Ae (dV 0) (dC (.int 1))) (dV 4)) (gV 5)) (Ad (sAs (dFn Ou (Aa (dV 0) (Aa (dV 4) Ac))) (gV 6)) (Ad (sAs (dIf (Ak (dOp Mf (dV 6) (dC .non))) (dC .non) (De Lb (dV 1) (Aa (dV 6) Ac))) (gV 7)) (sIf (Ak (dOp Bf (dOp Ae (dV 5) (dC (.int 0))) (dC (.str "town")))) (sEx (De Dl (dV 3) (Aa (dFn An (Aa (dV 7) (Aa (dOp Ae (dV 2) (dV 4)) (Aa (dOp Ae (dV 5) (dC (.int 4))) (Aa (dOp Ae (dV 5) (dC (.int 5))) Ac))))) Ac))) (sEx (De Dl (dV 3) (Aa (dFn An (Aa (dV 7) (Aa (dOp Ae (dV 2) (dV 4)) (Aa (dC (.int 0)) (Aa (dC (.int 0)) Ac))))) Ac)))))))
def ZCM:DS:=(Ad (sAs (Cj (dFn Ah Ac)) (gV 3)) (Ad (Ci (Ds (dV 1)) (gV 4) Ni) (sRt (dV 3))))
def Ur:List D->DH->R D:=Ao 3 5 ZCM
def ZAS:DE:=(dFn An (Aa (dOp Ae (dV 1) (dC (.int 3))) (Aa (dV 0) Ac)))
def Wi:DE:=(dV 1)
def ZH6:DS:=(Ad (sAs (Bb (dFn Ls (Aa (Bb (Cm (Br Fj (Aa (dV 0) Ac)) 2 [] (Ba 2 (Af (gV 0) (Af (gV 1) Bd))) Bh ZAS)) Ac))) (gV 1)) (sRt (Cm (Ds (dV 1)) 2 [] (Ba 2 (Af (gV 0) (Af (gV 1) Bd))) Bh Wi)))
def Qi:List D->DH->R D:=Ao 1 1 ZH6
def Ny:DS:=(Ad (sEx (De Dl (dV 2) (Aa (dV 3) Ac))) (sAs (dOp Ae (dOp Ae (dV 0) (dV 3)) (dC (.int 0))) (gV 3)))
def La:DB:=(Ak (dOp J8 (dV 3) (dC .non)))
def ZG4:DS:=(Ad (sAs (Cj (dFn Ah (Aa (dV 1) Ac))) (gV 2)) (Ad (sAs (dOp Ae (dOp Ae (dV 0) (dV 1)) (dC (.int 0))) (gV 3)) (Ad (sWh La Ny fuel) (sRt (dV 2)))))
def Rx:List D->DH->R D:=Ao 2 2 ZG4
def ZBf:DE:=(dOp Ae (dV 1) (dV 0))
def Qe:DS:=(J6 (dV 2) (dV 6) (dV 5) Do)
def Q3:DS:=(Ad (sAs (Bb (dFn Rx (Aa (dV 0) (Aa (dV 3) Ac)))) (gV 4)) (Ad (sAs (dFn Im (Aa (dOp Ae (dOp Ae (dV 0) (dV 3)) (dC (.int 2))) (Aa (dFn Le (Aa (Bb (Cm (Ds (dV 4)) 1 [2] (gV 0) Bh ZBf)) Ac)) Ac))) (gV 5)) (Ad (sAs (dV 5) (gIx (dV 1) (dV 3))) (Ci (Ds (dV 4)) (gV 6) Qe))))
def ZFM:DS:=(Ad (sAs (Cj (dOp Gx (dFn Ah (Aa (dC (.int 0)) Ac)) (dFn Bp (Aa (dV 0) Ac)))) (gV 1)) (Ad (sAs (Cj (dFn M7 (Aa (dV 0) (Aa (dV 1) Ac)))) (gV 2)) (Ad (Ci (Ds (Bb (dFn Qi (Aa (dV 0) Ac)))) (gV 3) Q3) (sRt (dV 1)))))
def Tu:List D->DH->R D:=Ao 1 6 ZFM
def Jj:DS:=(Ad (sAs (dFn An (Aa (dOp Aj (dV 5) (dV 6)) (Aa (dV 5) (Aa (dC (.int 0)) (Aa (dV 6) (Aa (dC (.int 0)) (Aa (dC (.int 0)) Ac))))))) (gIx (Di "Course" (dV 0) "page") (dV 4))) (sIf (Ak (dOp Bf (dV 4) (dOp Ae (dV 1) (dUn Eu (dC (.int 1)))))) (sEx (Ey "Course" "send_down" Pq (dV 0) (Aa (dV 4) (Aa (dV 6) Ac)))) sNx))
def ZD3:DS:=(Ad (sAs (Bb (dFn Ur (Aa (Di "Course" (dV 0) "house") (Aa (dV 1) (Aa (Di "Course" (dV 0) "came") Ac))))) (gV 2)) (Ad (sAs (Bb (dFn Tu (Aa (dV 2) Ac))) (gV 3)) (Ad (Ci (Br (Fe 3) (Aa (dV 1) (Aa (dV 3) (Aa (Bb (dFn M7 (Aa (dV 2) (Aa (dV 3) Ac)))) Ac)))) (Ba 3 (Af (gV 4) (Af (gV 5) (Af (gV 6) Bd)))) Jj) (sEx (De Dl (Di "Course" (dV 0) "reaches") (Aa (Cj (dFn An (Aa (dV 1) (Aa (dV 2) Ac)))) Ac))))))
def Qy:List D->DH->R D:=Ao 2 5 ZD3
def R9:DS:=(Ad (sAs (dFn Ou (Aa (dV 0) (Aa (dV 2) Ac))) (gV 3)) (sIf (Ak (dOp J8 (dV 3) (dC .non))) (sAs (dOp Ae (dV 1) (dV 3)) (gIx (dV 1) (dV 2))) sNx))
def ZEF:DS:=(Ad (sAs (Cj (dLR (Aa (dFn Bp (Aa (dOp Ae (dV 0) (dC (.int 1))) Ac)) Ac))) (gV 1)) (Ad (Ci (Br rng3 (Aa (dOp Do (dFn Bp (Aa (dOp Ae (dV 0) (dC (.int 1))) Ac)) (dC (.int 1))) (Aa (dUn Eu (dC (.int 1))) (Aa (dUn Eu (dC (.int 1))) Ac)))) (gV 2) R9) (sRt (dV 1))))
def Rk:List D->DH->R D:=Ao 1 3 ZEF
def Ri:DE:=(dV 0)
def Ov:DB:=(Ak (dOp Bf (dV 1) (dV 2)))
def Lz:DS:=(sIf (Ak (dOp Bf (dOp Ae (dOp Ae (dOp Ae (Di "Course" (dV 0) "house") (dC (.int 1))) (dV 2)) (dC (.int 0))) (dC (.str "basin")))) (sEx (Ey "Course" "go_basin" R1 (dV 0) (Aa (dV 2) Ac))) (sIf (Ak (dOp Bf (dV 3) (dV 2))) (sEx (Ey "Course" "go_reach" Qy (dV 0) (Aa (Bb (Cm (Br Fj (Aa (dV 1) Ac)) 2 [2] (Ba 2 (Af (gV 0) (Af (gV 1) Bd))) Ov Ri)) Ac))) sNx))
def ZGn:DS:=(Ad (sAs (Bb (dFn Rk (Aa (Di "Course" (dV 0) "house") Ac))) (gV 1)) (Ci (Br Fj (Aa (dV 1) Ac)) (Ba 2 (Af (gV 2) (Af (gV 3) Bd))) Lz))
def Qh:List D->DH->R D:=Ao 1 3 ZGn
def Qs:DE:=(dOp Ae (dV 0) (dC (.int 5)))
def Ss:DE:=(dFn Ek (Aa (dV 0) Ac))
def ZEq:DS:=(sRt (dFn An (Aa (dFn Ek (Aa (Bb (Cm (Ds (Di "Course" (dV 0) "page")) 1 [] (gV 0) Bh Qs)) Ac)) (Aa (dFn Ek (Aa (Bb (Cm (Ds (Di "Course" (dV 0) "coming")) 1 [] (gV 0) Bh Ss)) Ac)) Ac))))
def U8:List D->DH->R D:=Ao 1 0 ZEq
def ZFu:DS:=(Ad (sAs (Pg "Course" Pz (Aa (dV 0) (Aa (dV 1) (Aa (dV 2) (Aa (dV 3) Ac))))) (gV 4)) (Ad (sEx (Ey "Course" "go" Qh (dV 4) Ac)) (sRt (dFn An (Aa (dFn Ek (Aa (Di "Course" (dV 4) "page") Ac)) (Aa (Ey "Course" "state_behind" U8 (dV 4) Ac) Ac))))))
def U0:List D->DH->R D:=Ao 4 1 ZFu
def Nv:DS:=(Ad (sAs (dFn U0 (Aa (dV 0) (Aa (dV 1) (Aa (dV 5) (Aa (dV 6) Ac))))) (Ba 2 (Af (gV 7) (Af (gV 1) Bd)))) (sEx (De Dl (dV 4) (Aa (dV 7) Ac))))
def ZGC:DS:=(Ad (sAs (Cj (dFn Ah Ac)) (gV 4)) (Ad (Ci (Nj (Aa (dV 3) Ac) (dV 2)) (Ba 2 (Af (gV 5) (Af (gV 6) Bd))) Nv) (sRt (dFn An (Aa (dV 4) (Aa (dV 1) Ac))))))
def Mz:List D->DH->R D:=Ao 4 4 ZGC
def Jv:DS:=(Ad (sIf (Ak (dOp Gf (dFn Bp (Aa (dV 4) Ac)) (dV 3))) (sRz "TooLong" "most" (Aa (dV 3) Ac)) sNx) (Ad (sNr (sAs (Cj (dFn Mz (Aa (dV 0) (Aa (dOp Ae (dV 4) (dUn Eu (dC (.int 1)))) (Aa (dC (.int 0)) (Aa (dV 2) Ac)))))) (Ba 2 (Af (gV 6) (Af (gV 7) Bd))))) (Ad (sNr (sEx (De Ln (dV 5) (Aa (dV 6) Ac)))) (sNr (sEx (De Dl (dV 4) (Aa (dV 7) Ac)))))))
def Om:DB:=(Ak (dOp K8 (dOp Ae (dV 4) (dUn Eu (dC (.int 1)))) (Bb (dSl (dV 4) vE (vD (dUn Eu (dC (.int 1))))))))
def Ws:DS:=(Ad (sNr (sAs (Cj (dFn Ah (Aa (dV 1) Ac))) (gV 4))) (Ad (sNr (sAs (Cj (dFn Ah Ac)) (gV 5))) (Ad (sWh Om Jv fuel) (sNr (sRt (dFn An (Aa (dV 4) (Aa (dV 5) Ac))))))))
def Ml:List D->DH->R D:=Ao 4 4 Ws
def Sg:DS:=(Ad (sEx (dFn Lp (Aa (dV 0) (Aa (dV 2) Ac)))) (Ad (sAs (Cj (dFn Ml (Aa (dV 0) (Aa (dV 1) (Aa (dV 2) (Aa (dV 3) Ac)))))) (Ba 2 (Af (gV 4) (Af (gV 5) Bd)))) (sNr (sRt (dV 4)))))
def Fl:List D->DH->R D:=Ao 4 2 Sg
def Wh:DS:=(sAs (dFn An (Aa (dC (.str "bounds")) (Aa (dFn Kg (Aa (N5 (dUn (isx [("NoBounds",vG),("TooLong",vF)]) (dV 5)) (dFn Py (Aa (dV 5) Ac))) Ac)) Ac))) (gV 4))
def ZBH:DS:=(sAs (dFn An (Aa (dOp Ae (Bb (dFn Ah (Aa (dC (.str "long")) (Aa (dC (.str "bad")) Ac)))) (dFn Kg (Aa (N5 (dUn (isx [("NoBounds",vG),("TooLong",vG)]) (dV 5)) (dFn Py (Aa (dV 5) Ac))) Ac))) (Aa (dUn (gtx ["TooLong"] "most") (dV 5)) Ac))) (gV 4))
def ZBN:DS:=(sAs (dOp Ae (Bb (dFn Ah (Aa (dC (.str "bad")) (Aa (dC (.str "refused")) Ac)))) (dFn Kg (Aa (dUn (isx [("NoBounds",vF),("TooLong",vF)]) (dV 5)) Ac))) (gV 6))
def Zz:DS:=(Ad (sAs (dFn An (Aa (dC (.str "none")) (Aa (dC (.int 0)) Ac))) (gV 4)) (Ad (Ip (sEx (dTc Fl (Aa (dV 0) (Aa (dV 1) (Aa (dV 2) (Aa (dV 3) Ac)))))) (Jl ["NoBounds"] ["TooLong"] 5 Wh (Jl ["TooLong"] [] 5 ZBH Vn))) (Ad (sAs (dC (.str "none")) (gV 6)) (Ad (Ip (sEx (dTc Fl (Aa (dV 0) (Aa (dV 1) (Aa (dV 2) (Aa (dV 3) Ac)))))) (Jl ["NoBounds","TooLong"] [] 5 ZBN Vn)) (Ad (sIf (dOr (Ak (dOp Bf (dV 6) (dC (.str "bad")))) (Ak (dOp Dw (dOp Bf (dV 6) (dC (.str "none"))) (dOp Bf (dOp Ae (dV 4) (dC (.int 0))) (dC (.str "none")))))) (sRt (dFn An (Aa (dC (.str "bad")) (Aa (dC (.int 0)) Ac)))) sNx) (sRt (dV 4)))))))
def Ks:List D->DH->R D:=Ao 4 3 Zz
def ZGj:DS:=(sAs (dOp Bx (dV 9) (dC (.int 3))) (gV 9))
def Q0:DS:=(Ad (sEx (De Dl (dV 10) (Aa (dOp Ax (dV 3) (dOp Aw (dV 9) (dC (.int 3)))) Ac))) ZGj)
def ZE7:DS:=(sEx (De Dl (dV 6) (Aa (dFn Ek (Aa (dV 10) Ac)) Ac)))
def Uj:DS:=(Ad (Ci (Br rng1 (Aa (dC (.int 5)) Ac)) (gV 11) Q0) ZE7)
def ZCt:DS:=(Ad (sAs (Cj (dFn Ah Ac)) (gV 10)) Uj)
def ZEe:DS:=(Ad (sAs (dFn Aq (Aa (dV 0) (Aa (dOp Aj (dOp Aj (dV 4) (dFn Bp (Aa (dV 2) Ac))) (dV 7)) Ac))) (gV 9)) ZCt)
def Sy:DS:=(Ad (sEx (De Dl (dV 5) (Aa (dV 8) Ac))) ZEe)
def ZEv:DS:=(Ad (sIf (Ak (dOp Bf (dOp Ae (dOp Ae (dV 2) (dV 7)) (dC (.int 0))) (dC (.str "basin")))) (sAs (dOp Aw (dFn Ko (Aa (dFn Aq (Aa (dV 0) (Aa (dOp Aj (dV 4) (dV 7)) Ac))) (Aa (dV 3) Ac))) (dOp Aj (dOp Ae (dOp Ae (dV 2) (dV 7)) (dC (.int 4))) (dC (.int 1)))) (gV 8)) sNx) Sy)
def Nr:DS:=(Ad (sAs (dC (.int 0)) (gV 8)) ZEv)
def ZHw:DS:=(Ad (sAs (dOp Ae (dV 1) (dC (.int 1))) (gV 2)) (Ad (sAs (Bb (dFn Es (Aa (dV 0) Ac))) (gV 3)) (Ad (sAs (dOp Aj (dC (.int 6)) (dOp Ax (dC (.int 12)) (dFn Bp (Aa (dV 2) Ac)))) (gV 4)) (Ad (sAs (Cj (dFn Ah Ac)) (gV 5)) (Ad (sAs (Cj (dFn Ah Ac)) (gV 6)) (Ad (Ci (Br rng1 (Aa (dFn Bp (Aa (dV 2) Ac)) Ac)) (gV 7) Nr) (sRt (dFn An (Aa (dFn Ek (Aa (dV 5) Ac)) (Aa (dFn Ek (Aa (dV 6) Ac)) Ac))))))))))
def Pn:List D->DH->R D:=Ao 2 10 ZHw
def S7:DE:=(Gd (dFn Dz (Aa (dV 0) (Aa (dC (.ty "int")) Ac))) (N8 (dFn Dz (Aa (dV 0) (Aa (dC (.ty "bool")) Ac)))))
def ZD4:DS:=(sRt (Gd (dFn Dz (Aa (dV 0) (Aa (dC (.ty "tuple")) Ac))) (dFn Ky (Aa (Bb (Cm (Ds (dV 0)) 1 [] (gV 0) Bh S7)) Ac))))
def Nh:List D->DH->R D:=Ao 1 0 ZD4
def Sq:DE:=(dFn Nh (Aa (dV 0) Ac))
def Uu:DS:=(Ad (sIf (dOr (Hy (Ak (dFn Dz (Aa (dV 1) (Aa (dC (.ty "tuple")) Ac))))) (dOr (Ak (dOp Dw (dFn Bp (Aa (dV 1) Ac)) (dC (.int 2)))) (Hy (Ak (dFn Nh (Aa (dOp Ae (dV 1) (dC (.int 0))) Ac)))))) (sRt (dC (.bl vG))) sNx) (sIf (dOr (Hy (Ak (dFn Dz (Aa (dOp Ae (dV 1) (dC (.int 1))) (Aa (dC (.ty "tuple")) Ac))))) (Hy (Ak (dFn Ky (Aa (Bb (Cm (Ds (dOp Ae (dV 1) (dC (.int 1)))) 1 [] (gV 0) Bh Sq)) Ac))))) (sRt (dC (.bl vG))) sNx))
def ZIV:DS:=(Ad (sIf (Hy (Ak (dFn Dz (Aa (dV 0) (Aa (dC (.ty "list")) Ac))))) (sRt (dC (.bl vG))) sNx) (Ad (Ci (Ds (dV 0)) (gV 1) Uu) (sRt (dC (.bl vF)))))
def Nb:List D->DH->R D:=Ao 1 1 ZIV
def Lj:DS:=(Ad (sEx (De Dl (dV 4) (Aa (dOp Ae (Bb (dFn Mz (Aa (dV 0) (Aa (dOp Ae (dV 4) (dUn Eu (dC (.int 1)))) (Aa (dC (.int 0)) (Aa (dV 2) Ac)))))) (dC (.int 1))) Ac))) (sIf (Ak (dOp Kw (dOp Ae (dV 4) (dUn Eu (dC (.int 1)))) (Bb (dSl (dV 4) vE (vD (dUn Eu (dC (.int 1)))))))) (sRt (dV 4)) sNx))
def ZBp:DS:=(Ad (sAs (Cj (dFn Ah (Aa (dV 1) Ac))) (gV 4)) (Ad (Ci (Br rng1 (Aa (dV 3) Ac)) (gV 5) Lj) (sRt (dC .non))))
def Jk:List D->DH->R D:=Ao 4 2 ZBp
def ZGl:DS:=(sRt (Gd (dOp Bf (dFn (dfx 100 Fl) (Aa (dV 1) (Aa (dV 2) (Aa (dV 6) Ac)))) (dV 7)) (dOp Bf (dKw Fl (Aa (dV 1) (Aa (dV 2) (Aa (dV 6) Ac))) (dOp Do (dFn Bp (Aa (dV 7) Ac)) (dC (.int 1)))) (dV 7))))
def ZCi:DS:=(Ad (sEx (De Dl (dV 10) (Aa (dC (.int 1)) Ac))) ZGl)
def ZGg:DS:=(Ad (sIf (dOr (Hy (Ak (dFn Nb (Aa (dV 10) Ac)))) (dOr (Ak (dOp Dw (dV 10) (dV 7))) (Ak (dOp Dw (dV 9) (dV 6))))) (sRt (dC (.bl vG))) sNx) ZCi)
def ZBs:DS:=(Ad (sAs (dFn Fl (Aa (dV 1) (Aa (dV 2) (Aa (dV 9) (Aa (dV 5) Ac))))) (gV 10)) ZGg)
def ZFV:DS:=(Ad (sAs (Bb (dFn Jq (Aa (dV 6) Ac))) (gV 9)) ZBs)
def Ve:DS:=(Ad (sIf (Ak (dOp Mf (dV 7) (dC .non))) (Ad (sAs (Bb (dFn Ks (Aa (dV 1) (Aa (dV 2) (Aa (dV 6) (Aa (dV 5) Ac)))))) (gV 8)) (sRt (Gd (dFn Dz (Aa (dOp Ae (dV 8) (dC (.int 1))) (Aa (dC (.ty "int")) Ac))) (Gd (N8 (dFn Dz (Aa (dOp Ae (dV 8) (dC (.int 1))) (Aa (dC (.ty "bool")) Ac)))) (dOp Bf (dV 8) (dFn An (Aa (dC (.str "long")) (Aa (dV 5) Ac)))))))) sNx) ZFV)
def ZBV:DS:=(Ad (sAs (Bb (dFn Jk (Aa (dV 1) (Aa (dV 2) (Aa (dV 6) (Aa (dV 5) Ac)))))) (gV 7)) Ve)
def Mw:DS:=(Ad (sIf (Ak (dOp Dw (dV 4) (dOp Ae (dV 1) (dC (.int 0))))) (sRt (dOp Bf (Bb (dFn Ks (Aa (dV 1) (Aa (dV 2) (Aa (dV 6) (Aa (dV 5) Ac)))))) (dFn An (Aa (dC (.str "bounds")) (Aa (dC (.int 0)) Ac))))) sNx) ZBV)
def ZEM:DS:=(Ad (sAs (Bb (dFn Oc (Aa (dV 0) (Aa (dV 1) (Aa (dV 4) Ac))))) (gV 6)) Mw)
def ZF3:DS:=(Ad (sAs (dOp Aw (dFn Aq (Aa (dV 0) (Aa (dC (.int 3)) Ac))) (dC (.int 10))) (gV 5)) ZEM)
def ZHc:DS:=(Ad (sIf (Ak (dOp Bf (dOp Aw (dV 3) (dC (.int 8))) (dC (.int 1)))) (sAs (dOp Aj (dOp Do (dV 4) (dC (.int 1))) (dOp Ax (dC (.int 2)) (dOp Aw (dOp Bx (dV 3) (dC (.int 8))) (dC (.int 2))))) (gV 4)) sNx) ZF3)
def ZIR:DS:=(Ad (sAs (dOp Ae (dV 1) (dC (.int 0))) (gV 4)) ZHc)
def ZDf:DS:=(Ad (sAs (dFn Aq (Aa (dV 0) (Aa (dC (.int 4)) Ac))) (gV 3)) ZIR)
def ZHM:DS:=(Ad (sAs (dFn Pn (Aa (dV 0) (Aa (dV 1) Ac))) (gV 2)) ZDf)
def ZIH:DS:=(Ad (sAs (dFn U7 (Aa (dV 0) Ac)) (gV 1)) ZHM)
def K4:List D->DH->R D:=Ao 1 10 ZIH
def Holds:Prop:=∀ns:List Int,ns.length<=63->∃G,K4 [.fl (ns.map D.int)] []=.ok (.bl vF) G
end _W
namespace _W
open PySem _L _D
variable{ns l:List Int}{k m i d b j to dl w Y M:Nat}{F T P ca fl lv f:Nat->Int}{G L:DH}{A:DO}{ds xs:List D}{ws ms:List Nat}{x s0 s1 s2 s5 s6 s7 s3:Option D}{α:Type}{t c a at_ u yr most:Int}{H LV:D}{pg:Nat->List Int}{S:DSt}{co:Nat->Nat->Int}{p:Bool}{nm:Nat->Str}{fls:List (Nat->Int)}
noncomputable abbrev zI(i:Int):Option D:=vD (.int i)
noncomputable abbrev zR(i:Nat):Option D:=vD (.ref i)
noncomputable abbrev zF(xs:List D):Option D:=vD (.fl xs)
noncomputable abbrev zT(xs:List D):Option D:=vD (.tup xs)
noncomputable abbrev zS(x:Str):Option D:=vD (.str x)
noncomputable abbrev zB(b:Bool):Option D:=vD (.bl b)
theorem ZHs:∃b,∀G,Jy [.fl (ns.map D.int)] G=.ok (.bl b) G:=by
 cases ns with
 |nil=>exact⟨vG,λG=>by unfold Jy ZA6;rw[Ar];simp[Bo]⟩
 |cons n r=>
  refine⟨decide (n<0)||decide (1000000000000000000<=n),λG=>?_⟩;unfold Jy ZA6;rw[Ar];have a0:atI ((n::r).map D.int) 0=zI n:=Dp (k:=0) rfl rfl;by_cases h:n<0
  ·simp[a0,h,Bo]
  ·simp[a0,h,Bo]
noncomputable def offV:Nat->Int->Int
 |0,v=>v
 |n+1,v=>offV n (v/100000000)
theorem ZDJ{k:D}{G:DH}:∀(n:Nat)(j:Nat)(v:Int)(x:Option D),∃x',Av (gV 2) O8 (Bk j n) [zI v,vD k,x] G=.nx [zI (offV n v),vD k,x'] G
 |0,j,v,x=>⟨x,by rw[Lf,Dj];rfl⟩
 |n+1,j,v,x=>by
  obtain⟨x',ih⟩:=ZDJ (k:=k) (G:=G) n (j+1) (v/100000000) (zI j);refine⟨x',?_⟩;have hb:O8 [zI v,vD k,zI j] G=.nx [zI (v/100000000),vD k,zI j] G:=by unfold O8;simp
  rw[Hu,Cg];simp only[Cd,R.Bs,qw,hb,Ce];have e1:((j:Int)+1)=((j+1:Nat):Int):=by lia
  rw[e1,ih]
  rfl
theorem ZG2{v:Int}(hk:k<=1000):∃r:Int,(0<=r/\r<100000000)/\∀G,Q4 [.int v,.int k] G=.ok (.int r) G:=by
 by_cases h:0<=v/\v<1000000000000000000
 ·let a:=(v+1009*(k:Int)+7)%999999937;let b:=a*a%999999929;refine⟨b*(b+k)%99999989,by lia,λG=>?_⟩;have ha:0<=a/\a<999999937:=by lia
  have hb:0<=b/\b<999999929:=by lia
  unfold Q4 Xg;rw[Ar];have m1:Ax (.int a) (.int a)=λG=>R.ok (.int (a*a)) G:=by funext G;exact Hv (by lia) (by lia)
  have m2:Ax (.int b) (.int (b+k))=λG=>R.ok (.int (b*(b+k))) G:=by funext G;exact Hv (by lia) (by lia)
  simp[h.1,h.2]
  rw[show(v+1009*(k:Int)+7)%999999937=a from rfl,m1]
  simp
  rw[show a*a%999999929=b from rfl,m2]
  simp[Bo]
 ·refine⟨offV k v%100000000,by lia,λG=>?_⟩;obtain⟨x',hx⟩:=ZDJ (k:=.int k) (G:=G) k 0 v vE;have hx':Av (gV 2) O8 (Bk 0 k) [zI v,zI k,vE] G=.nx [zI (offV k v),zI k,x'] G:=hx;unfold Q4 Xg;rw[Ar];have hr:inR (k:Int):=Fo (by lia) (by lia);by_cases h0:0<=v
  ·have h1:¬v<1000000000000000000:=λz=>h ⟨h0,z⟩
   simp[h0,h1,hr,hx',Bo]
  ·simp[h0,hr,hx',Bo]
theorem ZFU(hl:ns.length<=63)(hk:k<=1000):∃v:Int,∀G,Aq [.fl (ns.map D.int),.int k] G=.ok (.int v) G:=by
 obtain⟨b,ht⟩:=ZHs (ns:=ns);have hd:((k:Int)/14)=((k/14:Nat):Int):=by lia
 have hm:((k:Int)%14)=((k%14:Nat):Int):=by lia
 cases b with
 | true=>
  by_cases h:1+k/14<ns.length
  ·obtain⟨r,hr,ho⟩:=ZG2 (v:=ns[1+k/14]) (k:=k%14) (by lia);refine⟨r,λG=>?_⟩;unfold Aq Lq;rw[Ar];have a1:atI (ns.map D.int) (1+(k:Int)/14)=zI ns[1+k/14]:=Dp (k:=1+k/14) (by lia) (by rw[zw,zZ h];rfl);have hc:(1+(k:Int)/14)<ns.length:=by lia
   simp[ht,hc,a1];rw[hm,ho];simp[Bo]
  ·obtain⟨r,hr,ho⟩:=ZG2 (v:=0) (k:=k%14) (by lia);refine⟨r,λG=>?_⟩;unfold Aq Lq;rw[Ar];have hc:¬(1+(k:Int)/14)<ns.length:=by lia
   simp[ht,hc];rw[hm,ho];simp[Bo]
 | false=>
  by_cases h:k<ns.length
  ·refine⟨ns[k],λG=>?_⟩;unfold Aq Lq;rw[Ar];have a1:atI (ns.map D.int) (k:Int)=zI ns[k]:=Dp (k:=k) rfl (by rw[zw,zZ h];rfl);simp[ht,h,a1,Bo]
  ·have m0:∀G,Ax (.int k) (.int k) G=R.ok (.int ((k:Int)*k)) G:=λG=>Hv (by lia) (by lia)
   by_cases h0:0<ns.length
   ·have hi:k%ns.length<ns.length:=Nat.mod_lt _ h0;refine⟨48271*((k:Int)*k+7*ns.length)%2147483647+ns[k%ns.length]*69621%2147483629,λG=>?_⟩;unfold Aq Lq;rw[Ar];have a1:atI (ns.map D.int) ((k:Int)%ns.length)=zI ns[k%ns.length]:=Dp (k:=k%ns.length) (by simp) (by rw[zw,zZ hi];rfl);simp[ht,h,m0,h0,a1,Bo]
   ·have e:ns=[]:=jX (by lia);subst e;refine⟨48271*((k:Int)*k+7*0)%2147483647,λG=>?_⟩;unfold Aq Lq;rw[Ar];have ht':∀G,Jy [.fl []] G=.ok (.bl vG) G:=ht;have hk0:¬(k:Int)<0:=by lia
    simp[ht',hk0,m0,Bo]
theorem cells(hl:ns.length<=63):∃f:Nat->Int,∀k:Nat,k<=1000->∀G,Aq [.fl (ns.map D.int),.int k] G=.ok (.int (f k)) G:=by refine⟨λk=>if h:k<=1000 then(ZFU hl h).choose else 0,λk hk=>?_⟩;simp only[dif_pos hk];exact(ZFU hl hk).choose_spec
structure Row where
 down:Option Nat
 water:Int
 need:Int
 rank:Int
variable{rs:List Row}
noncomputable def dnD:Option Nat->D
 |none=>.non
 |some d=>.int d
def Row.enc(r:Row):D:=.tup [dnD r.down,.int r.water,.int r.need,.int r.rank]
@[simp]theorem ZTO{n:Nat}{o:Option Nat}:bel n (dnD o)=vF:=by cases o<;>rfl
@[simp]theorem ZR2{n:Nat}{r:Row}:bel n r.enc=vF:=by simp[Row.enc]
@[simp]theorem ZTc{n:Nat}:bels n (rs.map Row.enc)=vF:=Dt λr _=>ZR2
@[simp]theorem ZFT{n:Nat}{xs:List Int}:bels n (xs.map D.int)=vF:=Dt λr _=>rfl
structure Fine (k n:Nat) (r:Row):Prop where
 dn:∀d,r.down=vD d->k<d/\d<n
 w0:0<=r.water
 n0:0<=r.need
 r0:0<=r.rank
def Reach(rs:List Row):Prop:=∀k r,rs[k]?=vD r->Fine k rs.length r
noncomputable def tab(n:Nat)(F:Nat->Int):List D:=(zV n).map λi=>D.int (F i)
def fset(F:Nat->Int)(d:Nat)(v:Int):Nat->Int:=λi=>if i=d then v else F i
@[simp]theorem ZSt{n:Nat}:(tab n F).length=n:=by simp[tab]
@[simp]theorem K5{n:Nat}:bels m (tab n F)=vF:=Dt λ_ _=>rfl
theorem Ku{n:Nat}(h:i<n):(tab n F)[i]?=zI (F i):=by unfold tab;rw[zw,zN h];rfl
theorem G8{n:Nat}(h:i<n):atI (tab n F) (i:Int)=zI (F i):=Dp rfl (Ku h)
theorem Mv{n:Nat}{v:Int}:(tab n F).set d (.int v)=tab n (fset F d v):=by
 refine j4 λi=>?_
 by_cases hi:i<n
 ·by_cases e:d=i
  ·subst e;rw[jK (by simpa using hi),Ku hi];simp[fset]
  ·rw[qL e,Ku hi,Ku hi];have:i≠d:=λz=>e z.symm
   simp[fset,this]
 ·rw[zA (by simp;lia),zA (by simp;lia)]
theorem ZEk{n:Nat}{F':Nat->Int}(h:∀i,i<n->F i=F' i):tab n F=tab n F':=by
 unfold tab;refine qE λi hi=>?_
 rw[h i (q8.mp hi)]
noncomputable def col(g:Row->Int)(rs:List Row)(i:Nat):Int:=match rs[i]? with
 |some r=>g r
 |none=>0
def Bq(rs:List Row)(i:Nat):Option Nat:=rs[i]?.bind Row.down
theorem Gq(h:Reach rs)(e:Bq rs k=vD d):k<d/\d<rs.length:=by
 unfold Bq at e;cases hr:rs[k]? with
 |none=>rw[hr]at e;cases e
 |some r=>rw[hr]at e;exact(h k r hr).dn d e
theorem Qp(hk:k<rs.length):Bq rs k=rs[k].down:=by unfold Bq;rw[zZ hk];rfl
theorem ZG3(hk:¬k<rs.length):Bq rs k=vE:=by unfold Bq;rw[zA (by lia)];rfl
def gstep(F:Nat->Int)(k:Nat)(o:Option Nat):Nat->Int:=match o with
 |none=>F
 |some d=>fset F d (F d+F k)
def gat(rs:List Row):Nat->Nat->(Nat->Int)->Nat->Int
 |0,_,F=>F
 |m+1,k,F=>gat rs m (k+1) (gstep F k (Bq rs k))
noncomputable abbrev gath(rs:List Row)(F:Nat->Int):Nat->Int:=gat rs rs.length 0 F
theorem Zx(hk:k<rs.length):atI (rs.map Row.enc) (k:Int)=zT [dnD (Bq rs k),.int (col Row.water rs k),.int (col Row.need rs k),.int (col Row.rank rs k)]:=
 Dp rfl (by rw[zw,Qp hk];simp[col,zZ hk,Row.enc])
theorem ZH2(hR:Reach rs){t:D}{G:DH}:∀(m k:Nat)(F:Nat->Int)(x y:Option D),k+m=rs.length->∃x' y',
  Av (Ba 2 (Af (gV 4) (Af (gV 3) Bd))) K6 ((Cq (rs.map Row.enc)).drop k) [zF (rs.map Row.enc),vD t,zR G.length,x,y] (G++[.lst (tab rs.length F)])=
   .nx [zF (rs.map Row.enc),vD t,zR G.length,x',y'] (G++[.lst (tab rs.length (gat rs m k F))])
 |0,k,F,x,y,h=>⟨x,y,by rw[zU (by rw[Hr];simp;lia),Dj];rfl⟩
 | m+1,k,F,x,y,h=>by
  have hk:k<rs.length:=by lia
  have e0:(Cq (rs.map Row.enc)).drop k=.tup [.int k,rs[k].enc]::(Cq (rs.map Row.enc)).drop (k+1):=by rw[zO (by rw[Hr];simpa using hk)];simp[Cq]
  obtain⟨x',y',ih⟩:=ZH2 hR (t:=t) (G:=G) m (k+1) (gstep F k (Bq rs k)) (vD rs[k].enc) (zI k) (by lia);refine⟨x',y',?_⟩;have hb:K6 [zF (rs.map Row.enc),vD t,zR G.length,vD rs[k].enc,zI k] (G++[.lst (tab rs.length F)])=
    .nx [zF (rs.map Row.enc),vD t,zR G.length,vD rs[k].enc,zI k] (G++[.lst (tab rs.length (gstep F k (Bq rs k)))]):=by
   unfold K6;cases hd:Bq rs k with
   |none=>
    have:rs[k].down=vE:=by rw[<-Qp hk];exact hd
    simp[Row.enc,this,dnD,gstep]
   |some d=>
    have e:rs[k].down=vD d:=by rw[<-Qp hk];exact hd
    have hdn:=Gq hR hd;have g0:(G++[DO.lst (tab rs.length F)])[G.length]?=vD (.lst (tab rs.length F)):=by simp
    simp[Row.enc,e,dnD,gstep,Ti g0 (G8 hdn.2),Bu,G8 hk,Dk,Gk,hdn.2,Mv]
  rw[e0,Cg];simp[Cd,hb];exact ih
def Ja(rs:List Row)(i:Nat):D:=.tup [dnD (Bq rs i),.int (col Row.water rs i),.int (col Row.need rs i),.int (col Row.rank rs i)]
theorem ZHm:rs.map Row.enc=(zV rs.length).map (Ja rs):=by
 refine j4 λi=>?_
 by_cases hi:i<rs.length
 ·rw[zw,zw,zN hi,zZ hi];simp[Ja,Row.enc,Qp hi,col,zZ hi]
 ·rw[zA (by simp;lia),zA (by simp;lia)]
theorem ZDz(hR:Reach rs)(hl:rs.length<=40){t:D}(ht:Bc t G=vD (tab rs.length T)):M7 [.fl (rs.map Row.enc),t] G=.ok (.ref G.length) (G++[.lst (tab rs.length (gath rs λi=>col Row.water rs i-T i))]):=by
 obtain⟨x',y',hL⟩:=ZH2 hR (t:=t) (G:=G) rs.length 0 (λi=>col Row.water rs i-T i) vE vE (by lia);have hz:∀j,Fp [.fl (rs.map Row.enc),t] j G=vD ((zV rs.length).map λi=>D.tup [Ja rs i,.int (T i)])[j]? :=λj=>by
  rw[ZG5 ZEG ht,M6,ZHm,tab,List.zip_map',jx]
  rfl
 let F:D->Option D:=λd=>match d with
  |.tup [.tup [_,.int w,_,_],.int v]=>zI (w-v)
  |_=>vE
 have hc:Dg (Fp [.fl (rs.map Row.enc),t]) (Ba 2 (Af (gV 0) (Af (gV 1) Bd))) Bh Wa (Ay 2 [] [zF (rs.map Row.enc),vD t,vE,vE,vE]) rs.length 0 G=.ok (tab rs.length λi=>col Row.water rs i-T i) G:=by
  rw[Up (F:=F) hz (λx hx=>?_) (by simp)]
  ·congr 1
   rw[qq];show(zV rs.length).filterMap (λi=>zI (col Row.water rs i-T i))=_;rw[qB]
   rfl
  ·obtain⟨i,_,rfl⟩:=zD.mp hx;refine⟨[vD (Ja rs i),zI (T i)],by simp[Ay],.inr ⟨rfl,.int (col Row.water rs i-T i),?_,rfl⟩⟩;unfold Wa;simp[Ja]
 have hl2:rs.length<=1000000:=by lia
 unfold M7 ZEJ;rw[Ar];have hL':Av (Ba 2 (Af (gV 4) (Af (gV 3) Bd))) K6 (Cq (rs.map Row.enc)) [zF (rs.map Row.enc),vD t,zR G.length,vE,vE] (G++[.lst (tab rs.length λi=>col Row.water rs i-T i)])=_:=hL;have hcf:Cy (Dh 0 (.fl (rs.map Row.enc))) (Ba 2 (Af (gV 4) (Af (gV 3) Bd))) K6 rs.length 0 [zF (rs.map Row.enc),vD t,zR G.length,vE,vE] (G++[.lst (tab rs.length λi=>col Row.water rs i-T i)])=.nx [zF (rs.map Row.enc),vD t,zR G.length,x',y'] (G++[.lst (tab rs.length (gath rs λi=>col Row.water rs i-T i))]):=by
  have:=ZR0 (S:=[zF (rs.map Row.enc),vD t,zR G.length,vE,vE]) (G:=G++[.lst (tab rs.length λi=>col Row.water rs i-T i)]) (g:=Ba 2 (Af (gV 4) (Af (gV 3) Bd))) (b:=K6) (xs:=rs.map Row.enc);rw[qW]at this;rw[this];exact hL'
 simp[ZGm (ZEG (xs:=rs.map Row.enc)) ht,hc,Ah,hl2,hcf,Df]
theorem ZCD{g:Row->Int}(h:∀r∈rs,0<=g r)(k:Nat):0<=col g rs k:=by
 unfold col;split
 ·rename_i r hr;exact h r (jT hr)
 ·exact qO _
theorem Reach.need(h:Reach rs)(k:Nat):0<=col Row.need rs k:=ZCD (λr hr=>by obtain⟨i,hi,rfl⟩:=qy hr;exact(h i _ (zZ hi)).n0) k
theorem Reach.water(h:Reach rs)(k:Nat):0<=col Row.water rs k:=ZCD (λr hr=>by obtain⟨i,hi,rfl⟩:=qy hr;exact(h i _ (zZ hi)).w0) k
theorem ZHC(h:bels (G.length+1) ds=vF):freeze (G++[A]) (.ok (.ref (G.length+1)) (G++A:: .lst ds::L))=.ok (.fl ds) (G++[A]):=by have:=Du (G:=G++[A]) (ds:=ds) (L:=L) (by simpa using h);simpa using this
theorem Yj(h:bels (G.length+1) ds=vF):tidy (G++[A]) (.ok (.ref (G.length+1)) (G++A:: .lst ds::L))=.ok (.ref (G.length+1)) (G++[A,.lst ds]):=by have:=Df (G:=G++[A]) (ds:=ds) (L:=L) (by simpa using h);simpa using this
theorem Yh{B:DO}(h:bels (G.length+2) ds=vF):freeze (G++[A,B]) (.ok (.ref (G.length+2)) (G++A::B:: .lst ds::L))=.ok (.fl ds) (G++[A,B]):=by have:=Du (G:=G++[A,B]) (ds:=ds) (L:=L) (by simpa using h);simpa using this
def Ji(rs:List Row):Nat->Nat->List Nat
 |0,k=>[k]
 |m+1,k=>k::(match Bq rs k with
  |none=>[]
  |some d=>Ji rs m d)
def way(rs:List Row)(k:Nat):List Nat:=Ji rs rs.length k
theorem ZII(hR:Reach rs):∀(m m' k:Nat),rs.length<=m+k+1->rs.length<=m'+k+1->Ji rs m k=Ji rs m' k
 | 0,m',k,h,h'=>by
  have hn:Bq rs k=vE:=by
   cases hd:Bq rs k with
   |none=>rfl
   |some d=>have:=Gq hR hd;lia
  cases m' with
  |zero=>rfl
  |succ m'=>simp[Ji,hn]
 | m+1,0,k,h,h'=>by
  have hn:Bq rs k=vE:=by
   cases hd:Bq rs k with
   |none=>rfl
   |some d=>have:=Gq hR hd;lia
  simp[Ji,hn]
 | m+1,m'+1,k,h,h'=>by
  cases hd:Bq rs k with
  |none=>simp[Ji,hd]
  |some d=>
   have:=Gq hR hd;simp[Ji,hd,ZII hR m m' d (by lia) (by lia)]
def Gz(rs:List Row):Option Nat->List Nat
 |none=>[]
 |some d=>way rs d
theorem Hg(hR:Reach rs)(k:Nat):way rs k=k::Gz rs (Bq rs k):=by
 unfold way;rw[ZII hR rs.length (rs.length+1) k (by lia) (by lia)];show k::_=_;cases hd:Bq rs k with
 |none=>rfl
 |some d=>rfl
@[simp]theorem ZSs:dnD (vD d)=.int d:=id rfl
noncomputable def Al(ws:List Nat):List D:=ws.map λ(i:Nat)=>D.int (i:Int)
@[simp]theorem ZIN:bels m (Al ws)=vF:=Dt λ_ _=>rfl
@[simp]theorem ZTL:(Al ws).length=ws.length:=by simp[Al]
theorem ZDu(hR:Reach rs)(hl:rs.length<=40):∀(m:Nat)(o:Option Nat)(acc:List Nat),0<m->(∀d,o=vD d->d<rs.length/\rs.length-d<m/\acc.length+(rs.length-d)<=100)->
  sWh La Ny m [zF (rs.map Row.enc),x,zR G.length,vD (dnD o)] (G++[.lst (Al acc)])=.nx [zF (rs.map Row.enc),x,zR G.length,vD .non] (G++[.lst (Al (acc++Gz rs o))])
 |0,o,acc,h0,h=>by lia
 |m+1,vE,acc,h0,h=>by
  have ht:La [zF (rs.map Row.enc),x,zR G.length,vD (dnD vE)] (G++[.lst (Al acc)])=.ok vG (G++[.lst (Al acc)]):=by unfold La;simp[dnD]
  unfold sWh;rw[ht];simp[Gz,dnD]
 |m+1,vD d,acc,h0,h=>by
  obtain⟨h1,h2,h3⟩:=h d rfl;have ht:La [zF (rs.map Row.enc),x,zR G.length,vD (dnD (vD d))] (G++[.lst (Al acc)])=.ok vF (G++[.lst (Al acc)]):=by unfold La;simp[dnD]
  have hla:acc.length<1000000:=by lia
  have hb:Ny [zF (rs.map Row.enc),x,zR G.length,vD (dnD (vD d))] (G++[.lst (Al acc)])=.nx [zF (rs.map Row.enc),x,zR G.length,vD (dnD (Bq rs d))] (G++[.lst (Al (acc++[d]))]):=by unfold Ny;simp[Bu,Dk,hla,Zx h1,Al]
  unfold sWh;rw[ht];simp only[R.Bs,if_true,hb,Ce];rw[ZDu hR hl m (Bq rs d) (acc++[d]) (by lia) (λe he=>by have:=Gq hR he;simp;lia)]
  have:Gz rs (vD d)=d::Gz rs (Bq rs d):=Hg hR d;rw[this];simp
theorem ZSF(hR:Reach rs)(hl:rs.length<=40)(hk:k<rs.length)(G:DH):Rx [.fl (rs.map Row.enc),.int k] G=.ok (.ref G.length) (G++[.lst (Al (way rs k))]):=by
 have hL:=ZDu hR hl (x:=zI k) (G:=G) fuel (Bq rs k) [k] (by unfold fuel;lia) (λd hd=>by have:=Gq hR hd;unfold fuel;simp;lia)
 have hL':sWh La Ny fuel [zF (rs.map Row.enc),zI k,zR G.length,vD (dnD (Bq rs k))] (G++[.lst [.int k]])=_:=hL;rw[Hg hR];unfold Rx ZG4;rw[Ar];simp[Ah,Df,Zx hk,hL']
def ltK(rs:List Row)(i j:Nat):Bool:=decide (col Row.rank rs i<col Row.rank rs j∨(col Row.rank rs i=col Row.rank rs j/\i<j))
theorem ZCU(rs:List Row):WO (ltK rs) where
 asy:=λi j h=>by simp only[ltK,decide_eq_true_eq,decide_eq_false_iff_not]at h⊢;lia
 neg:=λi j k h=>by simp only[ltK,decide_eq_true_eq]at h⊢;lia
def ord(rs:List Row):List Nat:=if rs.length<2 then zV rs.length else(Bj (ltK rs) (PySem.W.kas_sort rs.length)).toList
theorem Xv(rs:List Row):(ord rs).Perm (zV rs.length):=by
 unfold ord;split
 ·exact .refl _
 ·exact(ZES (ZCU rs) (by lia)).1
theorem ZDZ(h:k∈ord rs):k<rs.length:=by have:=(Xv rs).mem_iff.mp h;simpa using this
theorem ZDW(rs:List Row):(ord rs).length=rs.length:=by rw[(Xv rs).length_eq];simp
theorem ZBt{n:Nat}{lt lt':Nat->Nat->Bool}(h:∀i j,i<n->j<n->lt i j=lt' i j){P:α->Prop}:∀{t:PySem.W.KasT α},Safe n P t->Bj lt t=Bj lt' t
 |.ret _,_=>rfl
 |.ask i j k,hs=>by show Bj lt (k (lt i j))=Bj lt' (k (lt' i j));rw[h i j hs.1 hs.2.1];exact ZBt h (hs.2.2 _)
def Ep(rs:List Row)(k:Nat):D:=.tup [.int (col Row.rank rs k),.int k]
theorem ZGf(i j:Nat):ltD (Ep rs i) (Ep rs j)=vD (ltK rs i j):=by
 have e:ltD (Ep rs i) (Ep rs j)=if col Row.rank rs i=col Row.rank rs j then(if(i:Int)=j then vD vG else vD (decide ((i:Int)<j)))else vD (decide (col Row.rank rs i<col Row.rank rs j)):=rfl
 rw[e];by_cases h:col Row.rank rs i=col Row.rank rs j
 ·rw[if_pos h];by_cases h2:(i:Int)=j
  ·rw[if_pos h2]
   congr 1
   simp only[ltK]
   symm
   simp only[decide_eq_false_iff_not];lia
  ·rw[if_neg h2]
   congr 1
   simp only[ltK];rw[decide_eq_decide];lia
 ·rw[if_neg h]
  congr 1
  simp only[ltK];rw[decide_eq_decide];lia
def Fg(rs:List Row):List D:=(zV rs.length).map (Ep rs)
theorem V3(h:i<rs.length):(Fg rs).getD i .non=Ep rs i:=by unfold Fg;rw[zH,zw,zN h];rfl
theorem ZEb(rs:List Row):Iw (Fg rs)=(ord rs).map (Ep rs):=by
 have hl:(Fg rs).length=rs.length:=by simp[Fg]
 unfold Iw ord;rw[hl];split
 ·rfl
 ·rename_i h;have e:Bj (ltI (Fg rs)) (PySem.W.kas_sort rs.length)=Bj (ltK rs) (PySem.W.kas_sort rs.length):=
   ZBt (n:=rs.length) (λi j hi hj=>by unfold ltI;rw[V3 hi,V3 hj,ZGf];rfl) (ZO0 (by lia))
  rw[e];refine qE λi hi=>?_
  have hp:=(ZES (ZCU rs) (n:=rs.length) (by lia)).1;exact V3 (by simpa using hp.mem_iff.mp hi)
theorem ZR9(rs:List Row):M9 (Fg rs)=vF:=by
 unfold M9 Fg;rw[z0,j1];refine⟨.inl ?_,?_⟩
 ·rw[qC];intro x hx;obtain⟨i,_,rfl⟩:=zD.mp hx
  rfl
 ·rw[qC];intro x hx;rw[qC];intro y hy;obtain⟨i,_,rfl⟩:=zD.mp hx;obtain⟨j,_,rfl⟩:=zD.mp hy;rw[ZGf];rfl
@[simp]theorem ZOp:bels m (ws.map (Ep rs))=vF:=Dt λ_ _=>by simp[Ep]
theorem ZPP(hl:rs.length<=40)(G:DH):Qi [.fl (rs.map Row.enc)] G=.ok (.ref G.length) (G++[.lst (Al (ord rs))]):=by
 have he:∀j,Dh 0 (.fl (rs.map Row.enc)) j G=vD ((zV rs.length).map λ(k:Nat)=>D.tup [.int (k:Int),Ja rs k])[j]? :=λj=>by
  rw[Tz,Cq,ZHm,List.zipIdx_map,jx]
  congr 2
  refine jZ (by simp) λi h1 h2=>by simp
 let F:D->Option D:=λd=>match d with
  |.tup [.int k,.tup [_,_,_,.int r]]=>zT [.int r,.int k]
  |_=>vE
 have hc:Dg (Dh 0 (.fl (rs.map Row.enc))) (Ba 2 (Af (gV 0) (Af (gV 1) Bd))) Bh ZAS (Ay 2 [] [zF (rs.map Row.enc),vE]) rs.length 0 G=.ok (Fg rs) G:=by
  rw[Up (F:=F) he (λx hx=>?_) (by simp)]
  ·congr 1
   rw[qq];show(zV rs.length).filterMap (λi=>vD (Ep rs i))=_;rw[qB]
   rfl
  ·obtain⟨i,_,rfl⟩:=zD.mp hx;refine⟨[zI i,vD (Ja rs i)],by simp[Ay],.inr ⟨rfl,Ep rs i,?_,rfl⟩⟩;unfold ZAS;simp[Ja,Ep,An]
 let F2:D->Option D:=λd=>match d with
  |.tup [_,k]=>vD k
  |_=>vE
 have hc2:∀S,Cu (Ba 2 (Af (gV 0) (Af (gV 1) Bd))) Bh Wi (Ay 2 [] S) ((ord rs).map (Ep rs)) G=.ok (Al (ord rs)) G:=λS=>by
  rw[Qj (F:=F2) (λx hx=>?_)]
  ·congr 1
   rw[qq];show(ord rs).filterMap (λ(i:Nat)=>zI (i:Int))=_;rw[qB]
   rfl
  ·obtain⟨i,_,rfl⟩:=zD.mp hx;refine⟨[zI (col Row.rank rs i),zI i],by simp[Ay,Ep],.inr ⟨rfl,.int i,?_,rfl⟩⟩;unfold Wi;simp
 have hkl:(Fg rs).length=rs.length:=by simp[Fg]
 have hl2:rs.length<=1000000:=by lia
 have hs:∀G,Ls [.fl (Fg rs)] G=.ok (.ref G.length) (G++[.lst ((ord rs).map (Ep rs))]):=λG=>by have h1:Fi (.fl (Fg rs)) G=vD (Fg rs):=rfl;simp only[Ls,h1];rw[if_pos ⟨⟨by rw[hkl];lia,by rw[ZEb];simp[ZDW];lia⟩,ZR9 rs⟩,ZEb]
 have hbk:bels G.length (Fg rs)=vF:=ZOp;have hol:=ZDW rs;have hl3:(ord rs).length<=1000000:=by lia
 unfold Qi ZH6;rw[Ar];simp[hc,Ah,hkl,hl2,Du,hbk,hs,hc2,hl3,Df]
noncomputable def wmin(P:Nat->Int):List Nat->Int
 |[]=>0
 |k::r=>(r.map P).foldl min (P k)
theorem ZPw(h:b∈ws):wmin P ws<=P b:=by
 cases ws with
 |nil=>cases h
 |cons k r=>
  obtain⟨h1,h2,_⟩:=Rt (r.map P) (P k);rcases zx.mp h with rfl|h
  ·exact h1
  ·exact h2 _ (zD.mpr ⟨b,h,rfl⟩)
theorem ZLi(h:ws≠[]):∃b∈ws,wmin P ws=P b:=by
 cases ws with
 |nil=>exact absurd rfl h
 |cons k r=>
  obtain⟨_,_,h3⟩:=Rt (r.map P) (P k);rcases h3 with h3|h3
  ·exact⟨k,zW,h3⟩
  ·obtain⟨b,hb,e⟩:=zD.mp h3;exact⟨b,zJ _ hb,e.symm⟩
def Gp(P:Nat->Int)(ws:List Nat)(t:Int):Nat->Int:=λi=>if i∈ws then P i-t else P i
def Uq(P:Nat->Int)(t:Int)(ws:List Nat):Nat->Int:=ws.foldl (λP b=>fset P b (P b-t)) P
theorem ZHD:∀{ws:List Nat}{P:Nat->Int},ws.Nodup->Uq P t ws=Gp P ws t
 |[],P,_=>by funext i;simp[Uq,Gp]
 |b::ws,P,h=>by
  obtain⟨h1,h2⟩:=qS.mp h;show Uq (fset P b (P b-t)) t ws=_;rw[ZHD h2];funext i;by_cases e:i=b
  ·subst e;simp[Gp,fset,h1]
  ·simp[Gp,fset,e]
theorem ZFi(hR:Reach rs):∀(m k:Nat),rs.length<=m+k->k<rs.length->∀b∈way rs k,k<=b/\b<rs.length
 |0,k,h,hk,b,hb=>by lia
 | m+1,k,h,hk,b,hb=>by
  rw[Hg hR]at hb;rcases zx.mp hb with rfl|hb
  ·lia
  ·cases hd:Bq rs k with
   |none=>rw[hd]at hb;cases hb
   |some d=>
    have:=Gq hR hd;rw[hd]at hb;have:=ZFi hR m d (by lia) (by lia) b hb;lia
theorem T5(hR:Reach rs)(hk:k<rs.length)(hb:b∈way rs k):k<=b/\b<rs.length:=ZFi hR rs.length k (by lia) hk b hb
theorem ZB7(hR:Reach rs):∀(m k:Nat),rs.length<=m+k->(way rs k).Nodup
 |0,k,h=>by rw[Hg hR,ZG3 (by lia)];simp[Gz]
 | m+1,k,h=>by
  rw[Hg hR];cases hd:Bq rs k with
  |none=>simp[Gz]
  |some d=>
   have hlt:=Gq hR hd;refine qS.mpr ⟨λhm=>?_,ZB7 hR m d (by lia)⟩;have:=T5 hR hlt.2 hm;lia
theorem ZSJ(hR:Reach rs)(k:Nat):(way rs k).Nodup:=ZB7 hR rs.length k (by lia)
theorem ZHe(hR:Reach rs):∀(m k:Nat),rs.length<=m+k->(way rs k).length<=m+1
 |0,k,h=>by rw[Hg hR,ZG3 (by lia)];simp[Gz]
 | m+1,k,h=>by
  rw[Hg hR];cases hd:Bq rs k with
  |none=>simp[Gz]
  |some d=>
   have hlt:=Gq hR hd;have:=ZHe hR m d (by lia);show(way rs d).length+1<=_;lia
def take1(rs:List Row)(P:Nat->Int)(k:Nat):Int:=min (col Row.need rs k) (wmin P (way rs k))
def srv(rs:List Row):List Nat->(Nat->Int)->(Nat->Int)->(Nat->Int)×(Nat->Int)
 |[],P,T=>(P,T)
 |k::ks,P,T=>srv rs ks (Gp P (way rs k) (take1 rs P k)) (fset T k (take1 rs P k))
def shr(rs:List Row):Nat->Int:=(srv rs (ord rs) (gath rs (col Row.water rs)) λ_=>0).2
noncomputable def pD(P:Nat->Int)(ws:List Nat):List D:=ws.map λi=>D.int (P i)
@[simp]theorem ZSr:(pD P ws).length=ws.length:=by simp[pD]
@[simp]theorem ZQp:bels m (pD P ws)=vF:=Dt λ_ _=>rfl
theorem ZCg{a b c d e:Option D}{t:Int}{A:DO}{G:DH}:∀(ws:List Nat)(P:Nat->Int)(x:Option D),(∀b∈ws,b<rs.length)->∃x',
  Av (gV 6) Qe (Al ws) [a,b,zR (G.length+1),c,d,zI t,x] (G++[A,.lst (tab rs.length P)])=.nx [a,b,zR (G.length+1),c,d,zI t,x'] (G++[A,.lst (tab rs.length (Uq P t ws))])
 |[],P,x,h=>⟨x,rfl⟩
 |w::ws,P,x,h=>by
  obtain⟨x',ih⟩:=ZCg (a:=a) (b:=b) (c:=c) (d:=d) (e:=e) (t:=t) (A:=A) (G:=G) ws (fset P w (P w-t)) (zI w) λb hb=>h b (zJ _ hb)
  refine⟨x',?_⟩;have hw:=h w zW;have g0:(G++[A,DO.lst (tab rs.length P)])[G.length+1]?=vD (.lst (tab rs.length P)):=O3 _ 1;have hse:∀(L:DH)o,(G++L).set (G.length+1) o=G++L.set 1 o:=λL o=>R4 L 1 o
  have hb:Qe [a,b,zR (G.length+1),c,d,zI t,zI w] (G++[A,.lst (tab rs.length P)])=.nx [a,b,zR (G.length+1),c,d,zI t,zI w] (G++[A,.lst (tab rs.length (fset P w (P w-t)))]):=by unfold Qe;simp[Ti g0 (G8 hw),g0,hse,Gk,hw,Mv]
  show Av _ _ (.int w::Al ws) _ _=_;rw[Cg];simp only[Cd,R.Bs,qw,hb,Ce];exact ih
theorem ZC5{rs:List Row}(hR:Reach rs)(hl:rs.length<=40){G:DH}:∀(ks:List Nat)(P T:Nat->Int)(x y z w:Option D),(∀k∈ks,k<rs.length)->∃x' y' z' w',
  Av (gV 3) Q3 (Al ks) [zF (rs.map Row.enc),zR G.length,zR (G.length+1),x,y,z,w] (G++[.lst (tab rs.length T),.lst (tab rs.length P)])=
   .nx [zF (rs.map Row.enc),zR G.length,zR (G.length+1),x',y',z',w'] (G++[.lst (tab rs.length (srv rs ks P T).2),.lst (tab rs.length (srv rs ks P T).1)])
 |[],P,T,x,y,z,w,h=>⟨x,y,z,w,rfl⟩
 | k::ks,P,T,x,y,z,w,h=>by
  have hk:=h k zW;have hwl:∀b∈way rs k,b<rs.length:=λb hb=>(T5 hR hk hb).2
  obtain⟨w1,hsub⟩:=ZCg (rs:=rs) (a:=zF (rs.map Row.enc)) (b:=zR G.length) (c:=zI k) (d:=zF (Al (way rs k))) (e:=vE) (t:=take1 rs P k) (A:=.lst (tab rs.length (fset T k (take1 rs P k)))) (G:=G) (way rs k) P w hwl;rw[ZHD (ZSJ hR k)]at hsub;obtain⟨x',y',z',w',ih⟩:=ZC5 hR hl (G:=G) ks (Gp P (way rs k) (take1 rs P k)) (fset T k (take1 rs P k)) (zI k) (zF (Al (way rs k))) (zI (take1 rs P k)) w1 λj hj=>h j (zJ _ hj)
  refine⟨x',y',z',w',?_⟩;have g0:(G++[DO.lst (tab rs.length T),DO.lst (tab rs.length P)])[G.length+1]?=vD (.lst (tab rs.length P)):=O3 _ 1;have hcomp:Cu (gV 0) Bh ZBf (Ay 1 [2] [zF (rs.map Row.enc),zR G.length,zR (G.length+1),zI k,zF (Al (way rs k)),z,w]) (Al (way rs k)) (G++[DO.lst (tab rs.length T),DO.lst (tab rs.length P)])=.ok (pD P (way rs k)) (G++[DO.lst (tab rs.length T),DO.lst (tab rs.length P)]):=by
   rw[Qj (F:=λd=>match d with | .int i=>zI (P i.toNat)|_=>vE) (λq hq=>?_)]
   ·congr 1
    unfold Al;rw[qq];show(way rs k).filterMap (λ(i:Nat)=>zI (P ((i:Int).toNat)))=_;rw[qB];simp[pD]
   ·obtain⟨i,hi,rfl⟩:=zD.mp hq;refine⟨[zI i,zR (G.length+1)],by simp[Ay],.inr ⟨rfl,.int (P i),?_,by simp⟩⟩;unfold ZBf;simp[g0,G8 (hwl i hi)]
  have hwn:(way rs k).length<=1000000:=by have h1:=ZHe hR rs.length k (by lia);lia
  have hmin:∀G,Le [.fl (pD P (way rs k))] G=.ok (.int (wmin P (way rs k))) G:=λG=>by rw[Hg hR];exact ZRX (n:=P k) (ns:=(Gz rs (Bq rs k)).map P) (by simp[pD])
  have hfr:freeze (G++[DO.lst (tab rs.length T),DO.lst (tab rs.length P)]) (.ok (.ref (G.length+2)) (G++[DO.lst (tab rs.length T),DO.lst (tab rs.length P),.lst (pD P (way rs k))]))=.ok (.fl (pD P (way rs k))) (G++[DO.lst (tab rs.length T),DO.lst (tab rs.length P)]):=Yh ZQp;have hfw:freeze (G++[DO.lst (tab rs.length T),DO.lst (tab rs.length P)]) (.ok (.ref (G.length+2)) (G++[DO.lst (tab rs.length T),DO.lst (tab rs.length P),.lst (Al (way rs k))]))=.ok (.fl (Al (way rs k))) (G++[DO.lst (tab rs.length T),DO.lst (tab rs.length P)]):=Yh ZIN
  have hb:Q3 [zF (rs.map Row.enc),zR G.length,zR (G.length+1),zI k,y,z,w] (G++[.lst (tab rs.length T),.lst (tab rs.length P)])=
    .nx [zF (rs.map Row.enc),zR G.length,zR (G.length+1),zI k,zF (Al (way rs k)),zI (take1 rs P k),w1] (G++[.lst (tab rs.length (fset T k (take1 rs P k))),.lst (tab rs.length (Gp P (way rs k) (take1 rs P k)))]):=by
   unfold Q3;have ht1:min (col Row.need rs k) (wmin P (way rs k))=take1 rs P k:=rfl;simp[ZSF hR hl hk,hfw,Zx hk,hcomp,Ah,hwn,hfr,hmin,ht1,Bu,Dk,Gk,hk,Mv,hsub]
  show Av _ _ (.int k::Al ks) _ _=_;rw[Cg];simp only[Cd,R.Bs,qw,hb,Ce];exact ih
theorem ZLJ(hR:Reach rs)(hl:rs.length<=40)(G:DH):Tu [.fl (rs.map Row.enc)] G=.ok (.ref G.length) (G++[.lst (tab rs.length (shr rs))]):=by
 have hz:zX rs.length (D.int 0)=tab rs.length λ_=>0:=by unfold tab;refine jZ (by simp) λi h1 h2=>by simp
 have hrep:Gx (.ref G.length) (.int (rs.length:Int)) (G++[.lst [.int 0]])=.ok (.ref (G.length+1)) (G++[.lst [.int 0],.lst (tab rs.length λ_=>0)]):=by rw[ZGd (d:=.int 0) (by rw[Bu];rfl) (by lia),hz];simp
 have ht1:tidy G (.ok (.ref (G.length+1)) (G++[.lst [.int 0],.lst (tab rs.length λ_=>0)]))=.ok (.ref G.length) (G++[.lst (tab rs.length λ_=>0)]):=Zi _ (k:=1) rfl K5;have hp:M7 [.fl (rs.map Row.enc),.ref G.length] (G++[.lst (tab rs.length λ_=>0)])=.ok (.ref (G.length+1)) (G++[.lst (tab rs.length λ_=>0),.lst (tab rs.length (gath rs (col Row.water rs)))]):=by rw[ZDz hR hl (T:=λ_=>0) (ZLf (by rw[Bu];rfl))];simp
 have ht2:tidy (G++[.lst (tab rs.length λ_=>0)]) (.ok (.ref (G.length+1)) (G++[.lst (tab rs.length λ_=>0),.lst (tab rs.length (gath rs (col Row.water rs)))]))=.ok (.ref (G.length+1)) (G++[.lst (tab rs.length λ_=>0),.lst (tab rs.length (gath rs (col Row.water rs)))]):=Yj K5;have hfs:freeze (G++[.lst (tab rs.length λ_=>0),.lst (tab rs.length (gath rs (col Row.water rs)))]) (.ok (.ref (G.length+2)) (G++[.lst (tab rs.length λ_=>0),.lst (tab rs.length (gath rs (col Row.water rs))),.lst (Al (ord rs))]))=.ok (.fl (Al (ord rs))) (G++[.lst (tab rs.length λ_=>0),.lst (tab rs.length (gath rs (col Row.water rs)))]):=Yh ZIN
 obtain⟨x',y',z',w',hL⟩:=ZC5 hR hl (G:=G) (ord rs) (gath rs (col Row.water rs)) (λ_=>0) vE vE vE vE λk hk=>ZDZ hk
 have hfin:∀A,tidy G (.ok (.ref G.length) (G++[.lst (tab rs.length (shr rs)),A]))=.ok (.ref G.length) (G++[.lst (tab rs.length (shr rs))]):=λA=>Df K5
 have hL':Av (gV 3) Q3 (Al (ord rs)) [zF (rs.map Row.enc),zR G.length,zR (G.length+1),vE,vE,vE,vE] (G++[.lst (tab rs.length λ_=>0),.lst (tab rs.length (gath rs (col Row.water rs)))])=
   .nx [zF (rs.map Row.enc),zR G.length,zR (G.length+1),x',y',z',w'] (G++[.lst (tab rs.length (shr rs)),.lst (tab rs.length (srv rs (ord rs) (gath rs (col Row.water rs)) λ_=>0).1)]):=hL
 unfold Tu ZFM;rw[Ar];simp[Ah,hrep,ht1,hp,ht2,ZPP hl,hfs,hL',hfin]
def ind(t:Int)(ws:List Nat):Nat->Int:=λi=>if i∈ws then t else 0
theorem ZAO(hR:Reach rs):∀(m j:Nat)(A:Nat->Int),k<j->gat rs m j (λi=>A i+ind t [k] i)=λi=>gat rs m j A i+ind t [k] i
 |0,j,A,h=>rfl
 | m+1,j,A,h=>by
  unfold gat;have e:gstep (λi=>A i+ind t [k] i) j (Bq rs j)=λi=>gstep A j (Bq rs j) i+ind t [k] i:=by
   cases hd:Bq rs j with
   |none=>rfl
   |some d=>
    have:=Gq hR hd;funext i;simp only[gstep,fset,ind,jJ];have h1:j≠k:=by lia
    have h2:d≠k:=by lia
    by_cases hi:i=d
    ·subst hi;simp[h1,h2]
    ·simp[hi]
  rw[e,ZAO hR m (j+1) _ (by lia)]
theorem ZAi(hR:Reach rs):∀(m j k:Nat)(A:Nat->Int),j+m=rs.length->j<=k->k<rs.length->gat rs m j (λi=>A i+ind t [k] i)=λi=>gat rs m j A i+ind t (way rs k) i
 |0,j,k,A,h,h1,h2=>by lia
 | m + 1,j,k,A,h,h1,h2=>by
  unfold gat;by_cases hjk:j<k
  ·have e:gstep (λi=>A i+ind t [k] i) j (Bq rs j)=λi=>gstep A j (Bq rs j) i+ind t [k] i:=by
    cases hd:Bq rs j with
    |none=>rfl
    |some d=>
     funext i;simp only[gstep,fset,ind,jJ];have h3:j≠k:=by lia
     by_cases hi:i=d
     ·subst hi;simp[h3];split <;> lia
     ·simp[hi]
   rw[e,ZAi hR m (j+1) k _ (by lia) (by lia) h2]
  ·have ej:j=k:=by lia
   subst ej;cases hd:Bq rs j with
   |none=>
    have hw:way rs j=[j]:=by rw[Hg hR,hd];rfl
    show gat rs m (j+1) (λi=>A i+ind t [j] i)=_;rw[ZAO hR m (j+1) A (by lia),hw]
    rfl
   | some d=>
    have hlt:=Gq hR hd;have hw:way rs j=j::way rs d:=by rw[Hg hR,hd];rfl
    have e:gstep (λi=>A i+ind t [j] i) j (vD d)=λi=>(gstep A j (vD d) i+ind t [d] i)+ind t [j] i:=by
     funext i;simp only[gstep,fset,ind,jJ];have h3:d≠j:=by lia
     by_cases hi:i=d
     ·subst hi;simp[h3];lia
     ·simp[hi]
    rw[e,ZAO hR m (j+1) _ (by lia),ZAi hR m (j+1) d _ (by lia) (by lia) hlt.2];funext i;have hnj:j∉way rs d:=λhm=>by have:=T5 hR hlt.2 hm;lia
    simp only[ind,hw,zx,jJ];by_cases hi:i=j
    ·subst hi;simp[hnj]
    ·simp[hi]
theorem ZIz(hR:Reach rs){W:Nat->Int}(hk:k<rs.length)(h0:T k=0):gath rs (λi=>W i-fset T k t i)=Gp (gath rs λi=>W i-T i) (way rs k) t:=by
 have e:(λi=>W i-fset T k t i)=λi=>(W i-T i)+ind (-t) [k] i:=by
  funext i;simp only[fset,ind,jJ];by_cases hi:i=k
  ·subst hi;simp[h0];lia
  ·simp[hi]
 rw[e];show gat rs rs.length 0 _=_;rw[ZAi hR rs.length 0 k _ (by lia) (by lia) hk];funext i;simp only[ind,Gp,gath]
 split <;> lia
theorem ZHP:∀(m k:Nat)(F:Nat->Int),(∀i,0<=F i)->∀i,0<=gat rs m k F i
 |0,k,F,h,i=>h i
 | m+1,k,F,h,i=>by
  refine ZHP m (k+1) _ (λj=>?_) i;cases Bq rs k with
  |none=>exact h j
  |some d=>
   simp only[gstep,fset];have:=h d;have:=h k;have:=h j
   split <;> lia
structure SI (rs:List Row) (P T:Nat->Int):Prop where
 pg:P=gath rs λi=>col Row.water rs i-T i
 t0:∀i,0<=T i
 tn:∀i,T i<=col Row.need rs i
 p0:∀i,i<rs.length->0<=P i
theorem ZJn(h:∀b∈ws,0<=P b):0<=wmin P ws:=by
 cases ws with
 |nil=>exact qO _
 |cons k r=>
  obtain⟨b,hb,e⟩:=ZLi (P:=P) (ws:=k::r) (by simp);rw[e];exact h b hb
theorem SI.take(hR:Reach rs)(s:SI rs P T)(hk:k<rs.length):0<=take1 rs P k/\take1 rs P k<=col Row.need rs k/\∀b∈way rs k,take1 rs P k<=P b:=by
 have h1:0<=wmin P (way rs k):=ZJn λb hb=>s.p0 b (T5 hR hk hb).2
 have h2:=hR.need k;unfold take1;refine⟨by lia,by lia,λb hb=>?_⟩;have:=ZPw (P:=P) hb;lia
theorem SI.step(hR:Reach rs)(s:SI rs P T)(hk:k<rs.length)(h0:T k=0):SI rs (Gp P (way rs k) (take1 rs P k)) (fset T k (take1 rs P k)):=by
 obtain⟨a,b,c⟩:=s.take hR hk;refine⟨?_,λi=>?_,λi=>?_,λi hi=>?_⟩
 ·rw[ZIz hR hk h0,<-s.pg]
 ·simp only[fset];split
  ·exact a
  ·exact s.t0 i
 ·simp only[fset];split
  ·rename_i e;rw[e];exact b
  ·exact s.tn i
 ·simp only[Gp];split
  ·rename_i hm;have:=c i hm;lia
  ·exact s.p0 i hi
theorem SI.run(hR:Reach rs):∀(ks:List Nat)(P T:Nat->Int),SI rs P T->ks.Nodup->(∀k∈ks,k<rs.length/\T k=0)->SI rs (srv rs ks P T).1 (srv rs ks P T).2
 |[],P,T,s,_,_=>s
 |k::ks,P,T,s,nd,h=>by
  obtain⟨n1,n2⟩:=qS.mp nd;obtain⟨hk,h0⟩:=h k zW;refine SI.run hR ks _ _ (s.step hR hk h0) n2 λj hj=>?_
  obtain⟨hj1,hj2⟩:=h j (zJ _ hj);have:j≠k:=λe=>n1 (e▸hj)
  exact⟨hj1,by simp[fset,this,hj2]⟩
theorem ZKo(rs:List Row):(ord rs).Nodup:=(Xv rs).nodup_iff.mpr List.nodup_range
theorem SI.first(hR:Reach rs):SI rs (gath rs (col Row.water rs)) λ_=>0:=
 ⟨by simp,λ_=>qO _,hR.need,λi _=>ZHP _ _ _ hR.water i⟩
theorem ZQG(hR:Reach rs):SI rs (srv rs (ord rs) (gath rs (col Row.water rs)) λ_=>0).1 (shr rs):=
 SI.run hR (ord rs) _ _ (SI.first hR) (ZKo rs) λk hk=>⟨ZDZ hk,rfl⟩
theorem rp:¬(("pump":Str)="river"):=by decide
theorem pr:¬(("river":Str)="pump"):=by decide
structure Stp where
 h:Int
 m:Int
 r:Bool
variable{st:List Stp}
def wy(r:Bool):Str:=if r then "river" else "pump"
def Stp.enc(s:Stp):D:=.tup [.int s.h,.int s.m,.str (wy s.r)]
@[simp]theorem ZTZ{n:Nat}:bels n (st.map Stp.enc)=vF:=Dt λs _=>by simp[Stp.enc]
@[simp]theorem ZTQ{r:Bool}:(wy r="river")=(r=vF):=by
 cases r
 ·exact propext ⟨λh=>absurd h rp,λh=>by cases h⟩
 ·exact propext ⟨λh=>rfl,λ_=>rfl⟩
@[simp]theorem ZTE{r:Bool}:(wy r="pump")=(r=vG):=by
 cases r
 ·exact propext ⟨λh=>rfl,λ_=>rfl⟩
 ·exact propext ⟨λh=>absurd h pr,λh=>by cases h⟩
noncomputable abbrev Ssn:=Int×List Stp
def Be(s:Ssn):D:=.tup [.int s.1,.tup (s.2.map Stp.enc)]
@[simp]theorem ZTA{n:Nat}{ss:List Ssn}:bels n (ss.map Be)=vF:=Dt λs _=>by simp[Be]
def held(t:Int):List Ssn->List Stp->List Stp
 |[],h=>h
 |s::r,h=>held t r (if s.1<=t then s.2 else h)
theorem ZH0{c:D}{t:Int}{G:DH}:∀{ss:List Ssn}{h:List Stp}{a b:Option D},∃a' b',Av (Ba 2 (Af (gV 3) (Af (gV 4) Bd))) Tt (ss.map Be) [vD c,zI t,zT (h.map Stp.enc),a,b] G=
  .nx [vD c,zI t,zT ((held t ss h).map Stp.enc),a',b'] G
 |[],h,a,b=>⟨a,b,by rw[xV,Dj];rfl⟩
 | s::r,h,a,b=>by
  obtain⟨a',b',ih⟩:=ZH0 (c:=c) (t:=t) (G:=G) (ss:=r) (h:=if s.1<=t then s.2 else h) (a:=zI s.1) (b:=zT (s.2.map Stp.enc));refine⟨a',b',?_⟩;have hb:Tt [vD c,zI t,zT (h.map Stp.enc),zI s.1,zT (s.2.map Stp.enc)] G=.nx [vD c,zI t,zT ((if s.1<=t then s.2 else h).map Stp.enc),zI s.1,zT (s.2.map Stp.enc)] G:=by
   unfold Tt
   by_cases h1:s.1<=t<;>simp[h1]
  rw[zE,Cg];simp only[Be,Pj,Oe,Og,Cd,R.Hn,R.Bs,qw,hb,Ce,qV,j2,Nat.reduceAdd,if_true];exact ih
theorem c_at{ss:List Ssn}:Rr [.tup (ss.map Be),.int t] G=.ok (.tup ((held t ss []).map Stp.enc)) G:=by obtain⟨a,b,h⟩:=ZH0 (c:=.tup (ss.map Be)) (t:=t) (G:=G) (ss:=ss) (h:=[]) (a:=vE) (b:=vE);unfold Rr ZHF;rw[Ar];simp at h;simp[h,Bo]
noncomputable def cub(w:Int)(s:Stp):Int:=max 0 (min s.m (w-s.h))
def rv(w:Int):List Stp->Int
 |[]=>0
 |s::r=>(if s.r then cub w s else 0)+rv w r
def pm(w:Int):List Stp->Int
 |[]=>0
 |s::r=>(if s.r then 0 else cub w s)+pm w r
theorem ZGA{c:D}{w:Int}{G:DH}:∀{st:List Stp}{a b:Int}{e f g h:Option D},∃e' f' g' h',Av (Ba 3 (Af (gV 4) (Af (gV 5) (Af (gV 6) Bd)))) Qu (st.map Stp.enc) [vD c,zI w,zI a,zI b,e,f,g,h] G=
  .nx [vD c,zI w,zI (a+rv w st),zI (b+pm w st),e',f',g',h'] G
 |[],a,b,e,f,g,h=>⟨e,f,g,h,by simp[Dj,rv,pm]⟩
 | s::r,a,b,e,f,g,h=>by
  obtain⟨e',f',g',h',ih⟩:=ZGA (c:=c) (w:=w) (G:=G) (st:=r) (a:=a+(if s.r then cub w s else 0)) (b:=b+(if s.r then 0 else cub w s)) (e:=zI s.h) (f:=zI s.m) (g:=zS (wy s.r)) (h:=zI (cub w s));refine⟨e',f',g',h',?_⟩;have hb:Qu [vD c,zI w,zI a,zI b,zI s.h,zI s.m,zS (wy s.r),h] G=.nx [vD c,zI w,zI (a+(if s.r then cub w s else 0)),zI (b+(if s.r then 0 else cub w s)),zI s.h,zI s.m,zS (wy s.r),zI (cub w s)] G:=by
   unfold Qu cub
   cases s.r<;>simp
  rw[zE,Cg];simp[Stp.enc,hb];rw[ih];simp[rv,pm,Int.add_assoc]
theorem ZEt{w:Int}:Tw [.tup (st.map Stp.enc),.int w] G=.ok (.tup [.int (rv w st),.int (pm w st),.int (w-rv w st-pm w st)]) G:=by obtain⟨e,f,g,h,hl⟩:=ZGA (c:=.tup (st.map Stp.enc)) (w:=w) (G:=G) (st:=st) (a:=0) (b:=0) (e:=vE) (f:=vE) (g:=vE) (h:=vE);unfold Tw ZF1;rw[Ar];simp at hl;simp[hl,Bo]
inductive Kd where
 |basin (brim:Int) (rule:List Ssn) (pump:Option (Nat×Nat×Int))
 |town (need rank:Int)
 |mill (most:Int)
structure Pl where
 nm:Str
 dn:Option Nat
 dl:Nat
 kd:Kd
noncomputable def Zj:Pl:=⟨"",vE,0,.mill 0⟩
structure Hs where
 yr:Int
 ps:List Pl
variable{h:Hs}
noncomputable def Kd.txt:Kd->Str
 |.basin ..=>"basin"
 |.town ..=>"town"
 |.mill ..=>"mill"
noncomputable def Kd.isB:Kd->Bool
 |.basin ..=>vF
 |_=>vG
noncomputable def Kd.isT:Kd->Bool
 |.town ..=>vF
 |_=>vG
def Hs.pl(h:Hs)(k:Nat):Pl:=h.ps.getD k Zj
noncomputable def Hs.n(h:Hs):Nat:=h.ps.length
def Hs.dnT(h:Hs):Option Nat->Str
 |none=>"sea"
 |some d=>(h.pl d).nm
def Hs.K9(h:Hs):Option (Nat×Nat×Int)->D
 |none=>.non
 |some (to,dl,m)=>.tup [.str (h.pl to).nm,.int dl,.int m]
def Hs.encP(h:Hs)(p:Pl):D:=match p.kd with
 |.basin b r q=>.tup [.str "basin",.str p.nm,.str (h.dnT p.dn),.int p.dl,.int b,.tup (r.map Be),h.K9 q]
 |.town a b=>.tup [.str "town",.str p.nm,.str (h.dnT p.dn),.int p.dl,.int a,.int b]
 |.mill a=>.tup [.str "mill",.str p.nm,.str (h.dnT p.dn),.int p.dl,.int a]
def Hs.Bw(h:Hs):List D:=h.ps.map h.encP
def Hs.enc(h:Hs):D:=.tup [.int h.yr,.tup h.Bw]
def Good:Int->List Stp->Prop
 |_,[]=>True
 |t,s::r=>t<=s.h/\1<=s.m/\Good (s.h+s.m) r
structure GoodH (h:Hs):Prop where
 yr:0<h.yr
 len:h.n<=12
 inj:∀i j,i<h.n->j<h.n->(h.pl i).nm=(h.pl j).nm->i=j
 sea:∀i,i<h.n->(h.pl i).nm≠"sea"
 dn:∀k d,k<h.n->(h.pl k).dn=vD d->k<d/\d<h.n
 dl:∀k,k<h.n->(h.pl k).dl<=5
 pump:∀k b r to dl m,k<h.n->(h.pl k).kd=.basin b r (vD (to,dl,m))->to<h.n/\1<=dl/\dl<=5
 brim:∀k b r q,k<h.n->(h.pl k).kd=.basin b r q->0<=b/\∀s∈r,Good 0 s.2
 town:∀k a b,k<h.n->(h.pl k).kd=.town a b->0<=a/\0<=b
theorem Hs.M5:h.Bw.length=h.n:=by simp[Hs.Bw,Hs.n]
theorem Hs.ZIJ(hk:k<h.n):h.Bw[k]?=vD (h.encP (h.pl k)):=by unfold Hs.Bw Hs.pl;rw[zw,zZ hk];simp[zH,zZ hk]
theorem Hs.Ea(hk:k<h.n):atI h.Bw (k:Int)=vD (h.encP (h.pl k)):=Dp rfl (Hs.ZIJ hk)
theorem Hs.ZIf{n:Nat}{q:Option (Nat×Nat×Int)}:bel n (h.K9 q)=vF:=by
 cases q with
 |none=>rfl
 |some x=>obtain⟨a,b,c⟩:=x;simp[Hs.K9]
@[simp]theorem Hs.ZJf{n:Nat}{p:Pl}:bel n (h.encP p)=vF:=by
 unfold Hs.encP
 cases p.kd<;>simp[Hs.ZIf]
@[simp]theorem Hs.ZTN{n:Nat}:bels n h.Bw=vF:=Dt λ_ _=>Hs.ZJf
section
variable{h:Hs}{p:Pl}{G:DH}
@[simp]theorem encP0:Ae (h.encP p) (.int 0) G=.ok (.str p.kd.txt) G:=by
 unfold Hs.encP
 cases p.kd<;>simp[Kd.txt]
@[simp]theorem encP1:Ae (h.encP p) (.int 1) G=.ok (.str p.nm) G:=by
 unfold Hs.encP
 cases p.kd<;>simp
@[simp]theorem encP2:Ae (h.encP p) (.int 2) G=.ok (.str (h.dnT p.dn)) G:=by
 unfold Hs.encP
 cases p.kd<;>simp
@[simp]theorem encP3:Ae (h.encP p) (.int 3) G=.ok (.int p.dl) G:=by
 unfold Hs.encP
 cases p.kd<;>simp
theorem Dm:Ae h.enc (.int 1) G=.ok (.tup h.Bw) G:=by unfold Hs.enc;simp
theorem Ww:Ae h.enc (.int 0) G=.ok (.int h.yr) G:=by unfold Hs.enc;simp
theorem Hj{k:Kd}:(k.txt="basin")=(k.isB=vF):=by cases k<;>simp[Kd.txt,Kd.isB]<;>decide
theorem Ru{k:Kd}:(k.txt="town")=(k.isT=vF):=by cases k<;>simp[Kd.txt,Kd.isT]<;>decide
end
theorem ZDH(g:GoodH h)(hd:d<h.n):∀(m k:Nat)(a b:Option D),k+m=d->
  Av (Ba 2 (Af (gV 2) (Af (gV 3) Bd))) Mp ((Cq h.Bw).drop k) [vD h.enc,zS (h.pl d).nm,a,b] G=.rt (.int d) G
 | m,k,a,b,e=>by
  have hk:k<h.n:=by lia
  have e0:(Cq h.Bw).drop k=.tup [.int k,h.encP (h.pl k)]::(Cq h.Bw).drop (k+1):=by rw[zO (by rw[Hr,Hs.M5];exact hk)];have:=Hs.ZIJ hk;rw[zZ (by rw[Hs.M5];exact hk)]at this;have e2:=Option.some.inj this;simp[Cq,e2]
  rw[e0,Cg];cases m with
  |zero=>
   have e1:k=d:=by lia
   subst e1;have hb:Mp [vD h.enc,zS (h.pl k).nm,zI k,vD (h.encP (h.pl k))] G=.rt (.int k) G:=by unfold Mp;simp
   simp[hb]
  |succ m=>
   have hne:(h.pl k).nm≠(h.pl d).nm:=λz=>by have:=g.inj k d hk hd z;lia
   have hb:Mp [vD h.enc,zS (h.pl d).nm,zI k,vD (h.encP (h.pl k))] G=.nx [vD h.enc,zS (h.pl d).nm,zI k,vD (h.encP (h.pl k))] G:=by unfold Mp;simp[hne]
   simp[hb];exact ZDH g hd m (k+1) _ _ (by lia)
theorem ZEA(g:GoodH h)(hd:d<h.n)(G:DH):Q7 [h.enc,.str (h.pl d).nm] G=.ok (.int d) G:=by have hL:=ZDH g hd (G:=G) d 0 vE vE (by lia);rw[xK]at hL;unfold Q7 ZEY;rw[Ar];simp[Dm,Fj,Ie,lenOf,hL,Bo]
def Hs.dn(h:Hs)(k:Nat):Option Nat:=(h.pl k).dn
theorem Jp(g:GoodH h)(hk:k<h.n)(G:DH):Ot [h.enc,.int k] G=.ok (dnD (h.dn k)) G:=by
 unfold Ot ZFw;rw[Ar];cases hd:h.dn k with
 |none=>
  have e:(h.pl k).dn=vE:=hd;simp[Dm,Hs.Ea hk,e,Hs.dnT,dnD,Bo]
 |some d=>
  have e:(h.pl k).dn=vD d:=hd;have hl:=g.dn k d hk e;simp[Dm,Hs.Ea hk,e,Hs.dnT,g.sea d hl.2,ZEA g hl.2,dnD,Bo]
def Hs.dir(h:Hs)(k:Nat):Option Nat:=match h.dn k with
 |none=>vE
 |some d=>if 0<(h.pl k).dl∨(h.pl k).kd.isB=vF∨(h.pl d).kd.isB=vF then vE else vD d
theorem Ms(g:GoodH h)(hk:k<h.n)(G:DH):Ou [h.enc,.int k] G=.ok (dnD (h.dir k)) G:=by
 unfold Ou ZEp;rw[Ar];cases hd:h.dn k with
 |none=>simp[Dm,Jp g hk,hd,Hs.dir,dnD,Bo]
 | some d=>
  have hl:=g.dn k d hk hd;by_cases h1:0<(h.pl k).dl
  ·simp[Dm,Jp g hk,hd,Hs.dir,dnD,Bo,Hs.Ea hk,h1]
  ·by_cases h2:(h.pl k).kd.isB=vF
   ·simp[Dm,Jp g hk,hd,Hs.dir,dnD,Bo,Hs.Ea hk,h1,Hj,h2]
   ·by_cases h3:(h.pl d).kd.isB=vF
    ·simp[Dm,Jp g hk,hd,Hs.dir,dnD,Bo,Hs.Ea hk,Hs.Ea hl.2,h1,Hj,h2,h3]
    ·simp[Dm,Jp g hk,hd,Hs.dir,dnD,Bo,Hs.Ea hk,Hs.Ea hl.2,h1,Hj,h2,h3]
theorem ZOJ(g:GoodH h)(hk:k<h.n)(e:h.dir k=vD d):k<d/\d<h.n:=by
 unfold Hs.dir at e;cases hd:h.dn k with
 |none=>rw[hd]at e;cases e
 |some d'=>
  rw[hd]at e;simp only at e;split at e
  ·cases e
  ·cases e;exact g.dn k d hk hd
theorem ZLx(hk:¬k<h.n):h.pl k=Zj:=by
 unfold Hs.pl;rw[zH,zA (by unfold Hs.n at hk;lia)]
 rfl
theorem M4(hk:¬k<h.n):h.dir k=vE:=by
 have e:h.dn k=vE:=by unfold Hs.dn;rw[ZLx hk];rfl
 unfold Hs.dir;rw[e]
theorem Kl(g:GoodH h)(e:h.dir k=vD d):k<d/\d<h.n/\k<h.n:=by
 by_cases hk:k<h.n
 ·have:=ZOJ g hk e;lia
 ·rw[M4 hk]at e;cases e
def Hs.Gy(h:Hs):Nat->Nat->Nat
 |0,k=>k
 |m+1,k=>match h.dir k with
  |none=>k
  |some d=>h.Gy m d
def Hs.last(h:Hs)(k:Nat):Nat:=h.Gy h.n k
theorem Z2(g:GoodH h):∀(m m' k:Nat),h.n<=m+k->h.n<=m'+k->h.Gy m k=h.Gy m' k
 |0,m',k,e,e'=>by
  have hn:h.dir k=vE:=M4 (by lia);cases m' with
  |zero=>rfl
  |succ m'=>simp[Hs.Gy,hn]
 |m+1,0,k,e,e'=>by have hn:h.dir k=vE:=M4 (by lia);simp[Hs.Gy,hn]
 | m+1,m'+1,k,e,e'=>by
  cases hd:h.dir k with
  |none=>simp[Hs.Gy,hd]
  |some d=>
   have:=Kl g hd;simp[Hs.Gy,hd,Z2 g m m' d (by lia) (by lia)]
theorem Je(g:GoodH h)(e:h.dir k=vE):h.last k=k:=by unfold Hs.last;rw[Z2 g h.n (h.n+1) k (by lia) (by lia)];simp[Hs.Gy,e]
theorem Mr(g:GoodH h)(e:h.dir k=vD d):h.last k=h.last d:=by unfold Hs.last;rw[Z2 g h.n (h.n+1) k (by lia) (by lia)];simp[Hs.Gy,e]
theorem ZFX(g:GoodH h):∀(m k:Nat),h.n<=m+k->k<=h.last k/\(k<h.n->h.last k<h.n)
 |0,k,e=>by rw[Je g (M4 (by lia))];lia
 | m+1,k,e=>by
  cases hd:h.dir k with
  |none=>rw[Je g hd];lia
  |some d=>
   have:=Kl g hd;rw[Mr g hd];have:=ZFX g m d (by lia);lia
theorem ZFE(g:GoodH h)(k:Nat):k<=h.last k/\(k<h.n->h.last k<h.n):=ZFX g h.n k (by lia)
def Hs.Ff(h:Hs)(j:Nat):Nat->Int:=λi=>if j<=i then h.last i else i
theorem ZFf(g:GoodH h){G:DH}:∀(j:Nat)(x y:Option D),j<=h.n->∃x' y',
  Av (gV 2) R9 (Hx ((j:Int)-1) j) [vD h.enc,zR G.length,x,y] (G++[.lst (tab h.n (h.Ff j))])=.nx [vD h.enc,zR G.length,x',y'] (G++[.lst (tab h.n (h.Ff 0))])
 |0,x,y,e=>⟨x,y,by rw[ZI5,Dj]⟩
 | j + 1,x,y,e=>by
  have hj:j<h.n:=by lia
  obtain⟨x',y',ih⟩:=ZFf g (G:=G) j (zI j) (vD (dnD (h.dir j))) (by lia);refine⟨x',y',?_⟩;have e1:(((j+1:Nat):Int)-1)=j:=by lia
  have hb:R9 [vD h.enc,zR G.length,zI j,y] (G++[.lst (tab h.n (h.Ff (j+1)))])=.nx [vD h.enc,zR G.length,zI j,vD (dnD (h.dir j))] (G++[.lst (tab h.n (h.Ff j))]):=by
   unfold R9;cases hd:h.dir j with
   | none=>
    have et:tab h.n (h.Ff (j+1))=tab h.n (h.Ff j):=ZEk λi hi=>by
     unfold Hs.Ff;by_cases e2:i=j
     ·subst e2;rw[Je g hd];simp
     ·by_cases e3:j<=i
      ·rw[if_pos e3,if_pos (by lia)]
      ·rw[if_neg e3,if_neg (by lia)]
    simp[Ms g hj,hd,dnD,et]
   | some d=>
    have hl:=Kl g hd;have et:tab h.n (fset (h.Ff (j+1)) j (h.Ff (j+1) d))=tab h.n (h.Ff j):=ZEk λi hi=>by
     unfold Hs.Ff fset;by_cases e2:i=j
     ·subst e2;rw[if_pos rfl,if_pos (by lia),if_pos (by lia),Mr g hd]
     ·rw[if_neg e2];dsimp only;by_cases e3:j<=i
      ·rw[if_pos e3,if_pos (by lia)]
      ·rw[if_neg e3,if_neg (by lia)]
    simp[Ms g hj,hd,dnD,Bu,G8 hl.2.1,Dk,Gk,hj,Mv,et]
  rw[e1,ZN1,Cg];simp only[Cd,R.Bs,qw,hb,Ce];exact ih
theorem ZKY(g:GoodH h)(G:DH):Rk [h.enc] G=.ok (.ref G.length) (G++[.lst (tab h.n λi=>(h.last i:Int))]):=by
 obtain⟨x',y',hL⟩:=ZFf g (G:=G) h.n vE vE (zY _);have e0:tab h.n (h.Ff h.n)=Bk 0 h.n:=by
  unfold tab Bk;refine qE λi hi=>?_
  have:=q8.mp hi;unfold Hs.Ff;rw[if_neg (by lia)];simp
 have e1:h.Ff 0=λi=>(h.last i:Int):=by funext i;unfold Hs.Ff;simp
 rw[e0,e1]at hL;have hn:=g.len;have r1:inR (h.n:Int):=Fo (by lia) (by lia);have r2:inR ((h.n:Int)-1):=Fo (by lia) (by lia);have r3:inR (-1):=Fo (by lia) (by lia);have e2:((h.n:Int)-1 - -1).toNat=h.n:=by lia
 have h6:(h.n:Int)<=1000000:=by lia
 have ebr:bels G.length (Bk 0 h.n)=vF:=Dt λ_ _=>rfl
 unfold Rk ZEF;rw[Ar];simp[Dm,Hs.M5,r1,h6,Df ebr,r2,r3,ZSY,e2,hL,Df]
def Hs.mem(h:Hs)(m:Nat):List Nat:=(zV h.n).filter λk=>decide (h.last k=m)
theorem mem_iff:k∈h.mem m↔k<h.n/\h.last k=m:=by unfold Hs.mem;rw[List.mem_filter,q8];simp
theorem ZAb:(h.mem m).Pairwise (· < ·):=List.Pairwise.filter _ List.pairwise_lt_range
theorem ZCG:(h.mem m).length<=h.n:=by have:=List.length_filter_le (λk=>decide (h.last k=m)) (zV h.n);simpa[Hs.mem]using this
theorem ZL1(hs:ms.Pairwise (· < ·))(hi:i<ms.length)(hj:j<ms.length)(h:ms[i]<ms[j]):i<j:=by
 rcases Nat.lt_trichotomy i j with z|z|z
 ·exact z
 ·subst z;lia
 ·have:=jv.mp hs j i hj hi z;lia
theorem ZMv(g:GoodH h)(hm:m<h.n)(e:h.last m=m):(h.mem m).getLast?=vD m:=by
 have hmem:m∈h.mem m:=mem_iff.mpr ⟨hm,e⟩;have hne:h.mem m≠[]:=λz=>by rw[z]at hmem;cases hmem
 rw[List.getLast?_eq_some_getLast hne]
 congr 1
 have h1:=mem_iff.mp (List.getLast_mem hne);have h2:=(ZFE g ((h.mem m).getLast hne)).1;obtain⟨i,hi,ei⟩:=qy hmem;have h3:m<=(h.mem m).getLast hne:=by
  rw[List.getLast_eq_getElem];by_cases e4:i=(h.mem m).length-1
  ·subst e4;lia
  ·have:=jv.mp (ZAb (h:=h) (m:=m)) i ((h.mem m).length-1) hi (by lia) (by lia);lia
 lia
def Hs.need(h:Hs)(k:Nat):Int:=match(h.pl k).kd with
 |.town a _=>a
 |_=>0
def Hs.rank(h:Hs)(k:Nat):Int:=match(h.pl k).kd with
 |.town _ b=>b
 |_=>0
def Hs.row(h:Hs)(ms:List Nat)(ca:Nat->Int)(k:Nat):Row:=⟨(h.dir k).map λd=>ms.idxOf d,ca k,h.need k,h.rank k⟩
def Hs.rows(h:Hs)(ms:List Nat)(ca:Nat->Int):List Row:=ms.map (h.row ms ca)
theorem idx_map(d:Nat):∀ms:List Nat,(ms.map λ(i:Nat)=>(i:Int)).idxOf (d:Int)=ms.idxOf d
 |[]=>rfl
 | m::ms=>by
  rw[zE,List.idxOf_cons,List.idxOf_cons,idx_map d ms];by_cases e:m=d
  ·subst e;simp
  ·have e2:¬((m:Int)=d):=by lia
   have b1:((m:Int)==(d:Int))=vG:=by simp[e2]
   have b2:(m==d)=vG:=by simp[e]
   rw[b1,b2]
theorem ZEl(g:GoodH h)(hm:∀k∈ms,k<h.n/\∀d,h.dir k=vD d->d∈ms)(hl:ms.length<=40){p:Nat}(hp:G[p]?=vD (.lst (tab h.n ca))):∀(ks:List Nat)(acc:List Row)(x1 x2 x3 x4:Option D),(∀k∈ks,k∈ms)->acc.length+ks.length<=40->∃y1 y2 y3 y4,
  Av (gV 4) Ni (Al ks) [vD h.enc,zF (Al ms),zR p,zR G.length,x1,x2,x3,x4] (G++[.lst (acc.map Row.enc)])=
   .nx [vD h.enc,zF (Al ms),zR p,zR G.length,y1,y2,y3,y4] (G++[.lst ((acc++ks.map (h.row ms ca)).map Row.enc)])
 |[],acc,x1,x2,x3,x4,_,_=>⟨x1,x2,x3,x4,by simp[Al,Dj]⟩
 | k::ks,acc,x1,x2,x3,x4,hk,ha=>by
  obtain⟨hkn,hkd⟩:=hm k (hk k zW);obtain⟨y1,y2,y3,y4,ih⟩:=ZEl g hm hl hp ks (acc++[h.row ms ca k]) (zI k) (vD (h.encP (h.pl k))) (vD (dnD (h.dir k))) (vD (dnD ((h.dir k).map λd=>ms.idxOf d))) (λj hj=>hk j (zJ _ hj)) (by simp at ha⊢;lia);refine⟨y1,y2,y3,y4,?_⟩;have hpl:p<G.length:=(zG.mp hp).1;have hgp:∀L:DH,(G++L)[p]?=vD (.lst (tab h.n ca)):=λL=>by rw[qZ hpl];exact hp
  have ha2:acc.length<1000000:=by simp at ha;lia
  have ht:h.row ms ca k=⟨(h.dir k).map λd=>ms.idxOf d,ca k,h.need k,h.rank k⟩:=rfl;have hb:Ni [vD h.enc,zF (Al ms),zR p,zR G.length,zI k,x2,x3,x4] (G++[.lst (acc.map Row.enc)])=
    .nx [vD h.enc,zF (Al ms),zR p,zR G.length,zI k,vD (h.encP (h.pl k)),vD (dnD (h.dir k)),vD (dnD ((h.dir k).map λd=>ms.idxOf d))] (G++[.lst ((acc++[h.row ms ca k]).map Row.enc)]):=by
   have hix:∀d,h.dir k=vD d->∀G',Lb (.fl (Al ms)) [.int (d:Int)] G'=.ok (.int (ms.idxOf d:Nat)) G':=λd hd G'=>by
    have e:Al ms=(ms.map λ(i:Nat)=>(i:Int)).map D.int:=by simp[Al]
    rw[e,ZLL (ns:=ms.map λ(i:Nat)=>(i:Int)) (by simp[Fi]) (zD.mpr ⟨d,hkd d hd,rfl⟩) (by simp;lia),idx_map]
   unfold Ni;by_cases hT:(h.pl k).kd.isT=vF
   ·obtain⟨a,b,ek⟩:∃a b,(h.pl k).kd=.town a b:=by
     cases e:(h.pl k).kd with
     |town a b=>exact⟨a,b,rfl⟩
     |basin _ _ _=>rw[e]at hT;cases hT
     |mill _=>rw[e]at hT;cases hT
    have e4:∀G',Ae (h.encP (h.pl k)) (.int 4) G'=.ok (.int a) G':=λG'=>by unfold Hs.encP;rw[ek];simp
    have e5:∀G',Ae (h.encP (h.pl k)) (.int 5) G'=.ok (.int b) G':=λG'=>by unfold Hs.encP;rw[ek];simp
    have en:h.need k=a:=by unfold Hs.need;rw[ek]
    have er:h.rank k=b:=by unfold Hs.rank;rw[ek]
    cases hd:h.dir k with
    |none=>simp[Dm,Hs.Ea hkn,Ms g hkn,hd,dnD,Ru,hT,hgp,G8 hkn,e4,e5,An,Bu,Dk,ha2,ht,Row.enc,en,er]
    |some d=>simp[Dm,Hs.Ea hkn,Ms g hkn,hd,dnD,hix d hd,Ru,hT,hgp,G8 hkn,e4,e5,An,Bu,Dk,ha2,ht,Row.enc,en,er]
   ·have en:h.need k=0:=by
     unfold Hs.need;cases e:(h.pl k).kd with
     |town a b=>rw[e]at hT;exact absurd rfl hT
     |basin _ _ _=>rfl
     |mill _=>rfl
    have er:h.rank k=0:=by
     unfold Hs.rank;cases e:(h.pl k).kd with
     |town a b=>rw[e]at hT;exact absurd rfl hT
     |basin _ _ _=>rfl
     |mill _=>rfl
    cases hd:h.dir k with
    |none=>simp[Dm,Hs.Ea hkn,Ms g hkn,hd,dnD,Ru,hT,hgp,G8 hkn,An,Bu,Dk,ha2,ht,Row.enc,en,er]
    |some d=>simp[Dm,Hs.Ea hkn,Ms g hkn,hd,dnD,hix d hd,Ru,hT,hgp,G8 hkn,An,Bu,Dk,ha2,ht,Row.enc,en,er]
  show Av _ _ (.int k::Al ks) _ _=_;rw[Cg];simp only[Cd,R.Bs,qw,hb,Ce];rw[ih];simp
theorem ZMT(g:GoodH h)(hm:∀k∈ms,k<h.n/\∀d,h.dir k=vD d->d∈ms)(hl:ms.length<=40){p:Nat}(hp:G[p]?=vD (.lst (tab h.n ca))):
  Ur [h.enc,.fl (Al ms),.ref p] G=.ok (.ref G.length) (G++[.lst ((h.rows ms ca).map Row.enc)]):=by
 obtain⟨y1,y2,y3,y4,hL⟩:=ZEl g hm hl hp ms [] vE vE vE vE (λk hk=>hk) (by simpa using hl);have hL':Av (gV 4) Ni (Al ms) [vD h.enc,zF (Al ms),zR p,zR G.length,vE,vE,vE,vE] (G++[.lst []])=.nx [vD h.enc,zF (Al ms),zR p,zR G.length,y1,y2,y3,y4] (G++[.lst ((h.rows ms ca).map Row.enc)]):=hL;unfold Ur ZCM;rw[Ar];simp[Ah,Df,hL']
theorem ZF7(g:GoodH h)(hc:∀k,k<h.n->0<=ca k):Reach (h.rows (h.mem m) ca):=λi r hr=>by
 have hil:i<(h.mem m).length:=by have:=(zG.mp hr).1;simpa[Hs.rows]using this
 have e:r=h.row (h.mem m) ca (h.mem m)[i]:=by unfold Hs.rows at hr;rw[zw,zZ hil]at hr;simpa using hr.symm
 obtain⟨hk,hlast⟩:=mem_iff.mp (qx hil);subst e;refine⟨λd hd=>?_,hc _ hk,?_,?_⟩
 ·have hd':(h.dir (h.mem m)[i]).map (λd=>(h.mem m).idxOf d)=vD d:=hd;cases e:h.dir (h.mem m)[i]with
  |none=>rw[e]at hd';cases hd'
  |some d0=>
   rw[e]at hd';have ed:(h.mem m).idxOf d0=d:=by simpa using hd'
   have hl:=Kl g e;have hmem:d0∈h.mem m:=mem_iff.mpr ⟨hl.2.1,by rw[<-Mr g e];exact hlast⟩;have hlt:=j5 hmem;have hg:(h.mem m)[(h.mem m).idxOf d0]=d0:=List.getElem_idxOf hlt;subst ed;refine⟨ZL1 ZAb hil hlt (by rw[hg];exact hl.1),by simpa[Hs.rows]using hlt⟩
 ·show 0<=h.need _;unfold Hs.need;cases e:(h.pl (h.mem m)[i]).kd with
  |town a b=>exact(g.town _ a b hk e).1
  |basin _ _ _=>exact qO _
  |mill _=>exact qO _
 ·show 0<=h.rank _;unfold Hs.rank;cases e:(h.pl (h.mem m)[i]).kd with
  |town a b=>exact(g.town _ a b hk e).2
  |basin _ _ _=>exact qO _
  |mill _=>exact qO _
structure Cs where
 came:Nat->Int
 coming:Nat->Nat->Int
 page:Nat->List Int
 rea:List D
variable{s:Cs}
noncomputable def Jf(l:List Int):D:=match l with
 |[]=>.non
 |_=>.tup (l.map D.int)
@[simp]theorem ZSD{n:Nat}:bel n (Jf l)=vF:=by
 cases l with
 |nil=>rfl
 |cons a l=>simp only[Jf,_D.bel];exact ZFT
noncomputable def cfl(ds:List D):List (Str×D):=(["house","levels","year_turn","came","coming","page","reaches"]:List Str).zip ds
def cflds(i n:Nat)(H LV:D)(yt:Int):List (Str×D):=cfl [H,LV,.int yt,.ref (i+1),.ref (i+(2+n)),.ref (i+(3+n)),.ref (i+(4+n))]
def By(n:Nat)(pg:Nat->List Int):List D:=(zV n).map λk=>Jf (pg k)
def Cw(i n:Nat):List D:=(zV n).map λk=>D.ref (i+(2+k))
def csT(i n:Nat)(H LV:D)(yt:Int)(s:Cs):DH:=.ins "Course" (cflds i n H LV yt):: .lst (tab n s.came)::((zV n).map (λk=>DO.lst (tab 5 (s.coming k)))++[.lst (Cw i n),.lst (By n s.page),.lst s.rea])
def csH(G:DH)(n:Nat)(H LV:D)(yt:Int)(s:Cs):DH:=G++csT G.length n H LV yt s
theorem ZIy{n:Nat}{yt:Int}:(csT i n H LV yt s).length=n+5:=by simp[csT]
theorem ZHG{n:Nat}{yt:Int}:(csH G n H LV yt s).length=G.length+(n+5):=by unfold csH;rw[qJ,ZIy]
section
variable{G:DH}{n:Nat}{H LV:D}{yt:Int}{s:Cs}
theorem Mg(j:Nat):(csH G n H LV yt s)[G.length+j]?=(csT G.length n H LV yt s)[j]? :=O3 _ j
theorem Ig:(csH G n H LV yt s)[G.length]?=vD (.ins "Course" (cflds G.length n H LV yt)):=Mg 0
theorem Ol:(csH G n H LV yt s)[G.length+1]?=vD (.lst (tab n s.came)):=Mg 1
theorem Um:(csT i n H LV yt s)[2+j]?=((zV n).map (λk=>DO.lst (tab 5 (s.coming k)))++[.lst (Cw i n),.lst (By n s.page),.lst s.rea])[j]? :=by
 have e:2+j=j+1+1:=by lia
 rw[e]
 rfl
theorem Y5(hk:k<n):(csH G n H LV yt s)[G.length+(2+k)]?=vD (.lst (tab 5 (s.coming k))):=by
 rw[Mg,Um,qZ (by simpa using hk),zw,zN hk]
 rfl
theorem T8:(csH G n H LV yt s)[G.length+(2+n)]?=vD (.lst (Cw G.length n)):=by rw[Mg,Um,zL (by simp)];simp
theorem Ik:(csH G n H LV yt s)[G.length+(3+n)]?=vD (.lst (By n s.page)):=by
 have e:3+n=2+(n+1):=by lia
 rw[e,Mg,Um,zL (by simp)];simp
theorem csHe:(csH G n H LV yt s)[G.length+(4+n)]?=vD (.lst s.rea):=by
 have e:4+n=2+(n+2):=by lia
 rw[e,Mg,Um,zL (by simp)];simp
theorem S6(j:Nat)(o:DO):(csH G n H LV yt s).set (G.length+j) o=G++(csT G.length n H LV yt s).set j o:=R4 _ j o
theorem csS1:(csH G n H LV yt s).set (G.length+1) (.lst (tab n ca))=csH G n H LV yt {s with came:=ca}:=S6 1 _
def upd2(co:Nat->Nat->Int)(k:Nat)(r:Nat->Int):Nat->Nat->Int:=λi=>if i=k then r else co i
theorem Wv{o:DO}:(csT i n H LV yt s).set (2+j) o=.ins "Course" (cflds i n H LV yt):: .lst (tab n s.came)::((zV n).map (λk=>DO.lst (tab 5 (s.coming k)))++[DO.lst (Cw i n),DO.lst (By n s.page),DO.lst s.rea]).set j o:=by
 have e:2+j=j+1+1:=by lia
 rw[e]
 rfl
theorem csSr(hk:k<n){r:Nat->Int}:(csH G n H LV yt s).set (G.length+(2+k)) (.lst (tab 5 r))=csH G n H LV yt {s with coming:=upd2 s.coming k r}:=by
 rw[S6,Wv,List.set_append_left _ _ (by simpa using hk)];unfold csH csT
 congr 3
 congr 1
 refine j4 λi=>?_
 by_cases hi:i<n
 ·by_cases e:k=i
  ·subst e;rw[jK (by simpa using hi),zw,zN hi];simp[upd2]
  ·rw[qL e,zw,zN hi,zw,zN hi];have:i≠k:=λz=>e z.symm
   simp[upd2,this]
 ·rw[zA (by simp;lia),zA (by simp;lia)]
theorem Te:(csH G n H LV yt s).set (G.length+(3+n)) (.lst (By n pg))=csH G n H LV yt {s with page:=pg}:=by
 have e:3+n=2+(n+1):=by lia
 rw[e,S6,Wv,jL _ _ (by simp)];unfold csH csT;simp
theorem csSe{re:List D}:(csH G n H LV yt s).set (G.length+(4+n)) (.lst re)=csH G n H LV yt {s with rea:=re}:=by
 have e:4+n=2+(n+2):=by lia
 rw[e,S6,Wv,jL _ _ (by simp)];unfold csH csT;simp
theorem Hq:Hf "Course" "house" (.ref G.length) (csH G n H LV yt s)=.ok H (csH G n H LV yt s):=Ke Ig rfl
theorem ZFv:Hf "Course" "levels" (.ref G.length) (csH G n H LV yt s)=.ok LV (csH G n H LV yt s):=Ke Ig rfl
theorem ZGT:Hf "Course" "year_turn" (.ref G.length) (csH G n H LV yt s)=.ok (.int yt) (csH G n H LV yt s):=Ke Ig rfl
theorem Tq:Hf "Course" "came" (.ref G.length) (csH G n H LV yt s)=.ok (.ref (G.length+1)) (csH G n H LV yt s):=Ke Ig rfl
theorem ZCq:Hf "Course" "coming" (.ref G.length) (csH G n H LV yt s)=.ok (.ref (G.length+(2+n))) (csH G n H LV yt s):=Ke Ig rfl
theorem Mu:Hf "Course" "page" (.ref G.length) (csH G n H LV yt s)=.ok (.ref (G.length+(3+n))) (csH G n H LV yt s):=Ke Ig rfl
theorem ZI7:Hf "Course" "reaches" (.ref G.length) (csH G n H LV yt s)=.ok (.ref (G.length+(4+n))) (csH G n H LV yt s):=Ke Ig rfl
theorem Hw{m:Str}{F:List D->DH->R D}{t:DA}(hm:∀i,(cflds i n H LV yt).lookup m=vE):Rj "Course" m F t S (.ref G.length) (csH G n H LV yt s)=(t S (csH G n H LV yt s)).bind λds G2=>F (.ref G.length::ds) G2:=ZJN Ig (hm _)
theorem ZF0:∀i,(cflds i n H LV yt).lookup ("send":Str)=vE:=λ_=>rfl
theorem ZAt:∀i,(cflds i n H LV yt).lookup ("send_down":Str)=vE:=λ_=>rfl
theorem ZQD:∀i,(cflds i n H LV yt).lookup ("go_basin":Str)=vE:=λ_=>rfl
theorem ZSR:∀i,(cflds i n H LV yt).lookup ("go_reach":Str)=vE:=λ_=>rfl
theorem ZRu:∀i,(cflds i n H LV yt).lookup ("go":Str)=vE:=λ_=>rfl
theorem ZM7:∀i,(cflds i n H LV yt).lookup ("state_behind":Str)=vE:=λ_=>rfl
theorem Ir{s':Cs}{d:D}(hb:∀m,bel m d=vF):tidy (csH G n H LV yt s) (.ok d (csH G n H LV yt s'))=.ok d (csH G n H LV yt s'):=ZJF (by rw[ZHG,ZHG]) (hb _)
theorem ZJL(hk:k<n):atI (Cw i n) (k:Int)=zR (i+(2+k)):=Dp rfl (by unfold Cw;rw[zw,zN hk];rfl)
theorem ZJT:(By n pg).set k (Jf l)=By n λi=>if i=k then l else pg i:=by
 unfold By;refine j4 λi=>?_
 by_cases hi:i<n
 ·by_cases e:k=i
  ·subst e;rw[jK (by simpa using hi),zw,zN hi];simp
  ·rw[qL e,zw,zN hi,zw,zN hi];have:i≠k:=λz=>e z.symm
   simp[this]
 ·rw[zA (by simp;lia),zA (by simp;lia)]
@[simp]theorem ZIw:(By n pg).length=n:=by simp[By]
def Cs.send(s:Cs)(to dl:Nat)(c:Int):Cs:=if dl=0 then{s with came:=fset s.came to (s.came to+c)}else{s with coming:=upd2 s.coming to (fset (s.coming to) (dl-1) (s.coming to (dl-1)+c))}
theorem ZGZ(ht:to<n)(hd:dl<=5):Oh [.ref G.length,.int to,.int dl,.int c] (csH G n H LV yt s)=.ok .non (csH G n H LV yt (s.send to dl c)):=by
 unfold Oh ZDc;rw[Ar];by_cases h0:dl=0
 ·subst h0;simp[Tq,Ti Ol (G8 ht),Ol,Gk,ht,Mv,csS1,Cs.send,Ir]
 ·have e:((dl:Int)-1)=((dl-1:Nat):Int):=by lia
  have h1:dl-1<5:=by lia
  simp[h0,ZCq,T8,ZJL ht,e,Ti (Y5 ht) (G8 h1),Y5 ht,Gk,h1,Mv,csSr ht,Cs.send,Ir]
end
def Hs.Ex(h:Hs)(s:Cs)(k:Nat)(c:Int):Cs:=match h.dn k with
 |none=>s
 |some d=>s.send d (h.pl k).dl c
section
variable{G:DH}{h:Hs}{lv:Nat->Int}{yt:Int}{s:Cs}
theorem ZAF(g:GoodH h)(hk:k<h.n):Pq [.ref G.length,.int k,.int c] (csH G h.n h.enc LV yt s)=.ok .non (csH G h.n h.enc LV yt (h.Ex s k c)):=by
 unfold Pq ZFl;rw[Ar];cases hd:h.dn k with
 |none=>simp[Hq,Jp g hk,hd,dnD,Hs.Ex,Ir]
 |some d=>
  have hl:=g.dn k d hk hd;simp[Hq,Jp g hk,hd,dnD,Hw ZF0,Dm,Hs.Ea hk,ZGZ hl.2 (g.dl k hk),Hs.Ex,Ir]
theorem T3{n:Nat}{b d e f:Int}:(By n pg).set k (.tup [.int a,.int b,.int c,.int d,.int e,.int f])=By n λi=>if i=k then[a,b,c,d,e,f]else pg i:=ZJT (l:=[a,b,c,d,e,f])
def Hs.basin(h:Hs)(yt:Int)(lv:Nat->Int)(s:Cs)(k:Nat):Cs:=match(h.pl k).kd with
 |.basin brim rule pump=>
  let w:=lv k+s.came k;let st:=held yt rule [];let stays:=w-rv w st-pm w st;let lies:=min stays brim;let s1:Cs:={s with page:=λi=>if i=k then[s.came k,0,stays-lies,rv w st,pm w st,lies]else s.page i};let s2:=h.Ex s1 k (rv w st+(stays-lies))
  match pump with
  |none=>s2
  |some (to,dl,_)=>s2.send to dl (pm w st)
 |_=>s
theorem ZN6(g:GoodH h)(hk:k<h.n)(hB:(h.pl k).kd.isB=vF):R1 [.ref G.length,.int k] (csH G h.n h.enc (.tup (tab h.n lv)) yt s)=.ok .non (csH G h.n h.enc (.tup (tab h.n lv)) yt (h.basin yt lv s k)):=by
 obtain⟨brim,rule,pump,ek⟩:∃a b c,(h.pl k).kd=.basin a b c:=by
  cases e:(h.pl k).kd with
  |basin a b c=>exact⟨a,b,c,rfl⟩
  |town _ _=>rw[e]at hB;cases hB
  |mill _=>rw[e]at hB;cases hB
 have e4:∀G',Ae (h.encP (h.pl k)) (.int 4) G'=.ok (.int brim) G':=λG'=>by unfold Hs.encP;rw[ek];simp
 have e5:∀G',Ae (h.encP (h.pl k)) (.int 5) G'=.ok (.tup (rule.map Be)) G':=λG'=>by unfold Hs.encP;rw[ek];simp
 have e6:∀G',Ae (h.encP (h.pl k)) (.int 6) G'=.ok (h.K9 pump) G':=λG'=>by unfold Hs.encP;rw[ek];simp
 simp only[Hs.basin,ek];unfold R1 ZH5;rw[Ar];cases hp:pump with
 |none=>simp[Hq,Dm,Hs.Ea hk,Tq,Ol,G8 hk,e5,ZGT,c_at,ZFv,ZEt,e4,An,Mu,Ik,Gk,hk,T3,Te,Hw ZAt,ZAF g hk,e6,hp,Hs.K9,Ir]
 |some q=>
  obtain⟨to,dl,mo⟩:=q;have hl:=g.pump k brim rule to dl mo hk (by rw[ek,hp]);simp[Hq,Dm,Hs.Ea hk,Tq,Ol,G8 hk,e5,ZGT,c_at,ZFv,ZEt,e4,An,Mu,Ik,Gk,hk,T3,Te,Hw ZAt,ZAF g hk,e6,hp,Hs.K9,Hw ZF0,ZEA g hl.1,ZGZ hl.1 hl.2.2,Ir]
end
noncomputable def z3(ms:List Nat)(T L:Nat->Int):List D:=(zV ms.length).map λi=>D.tup [.int (ms.getD i 0:Nat),.int (T i),.int (L i)]
theorem ZKe{L:Nat->Int}(j:Nat)(G:DH):Fp [.fl (Al ms),.fl (tab ms.length T),.fl (tab ms.length L)] j G=vD (z3 ms T L)[j]? :=by
 unfold Fp z3;by_cases hj:j<ms.length
 ·have e1:(Al ms)[j]?=zI (ms.getD j 0:Nat):=by unfold Al;rw[zw,zZ hj];simp[zH,zZ hj]
  simp[Fx,e1,Ku hj,zN hj]
 ·have e1:(Al ms)[j]?=vE:=zA (by simp;lia);have e2:(zV ms.length)[j]?=vE:=zA (by simp;lia);simp[Fx,e1,e2]
noncomputable def rrow(T L:Nat->Int)(i:Nat):List Int:=[T i+L i,T i,0,L i,0,0]
def pgM(ms:List Nat)(T L:Nat->Int)(pg:Nat->List Int)(i:Nat):Nat->List Int:=λk=>if k∈ms.take i then rrow T L (ms.idxOf k)else pg k
theorem ZNf{L:Nat->Int}:pgM ms T L pg 0=pg:=by funext k;simp[pgM]
theorem ZDs(nd:ms.Nodup)(hi:i<ms.length)(hj:j<ms.length)(e:ms[i]=ms[j]):i=j:=by
 rcases Nat.lt_trichotomy i j with z|z|z
 ·exact absurd e (jv.mp nd i j hi hj z)
 ·exact z
 ·exact absurd e.symm (jv.mp nd j i hj hi z)
theorem ZKV(nd:ms.Nodup)(hi:i<ms.length):ms.idxOf ms[i]=i:=by have hl:=j5 (qx hi);exact ZDs nd hl hi (List.getElem_idxOf hl)
theorem ZQ4(nd:ms.Nodup){L:Nat->Int}(hi:i<ms.length):pgM ms T L pg (i+1)=λk=>if k=ms.getD i 0 then rrow T L i else pgM ms T L pg i k:=by
 have eg:ms.getD i 0=ms[i]:=by simp[zH,zZ hi]
 funext k;rw[eg];unfold pgM;rw[List.take_succ_eq_append_getElem hi];by_cases e:k=ms[i]
 ·subst e;rw[if_pos rfl,if_pos (j9.mpr (.inr (jJ.mpr rfl))),ZKV nd hi]
 ·rw[if_neg e];have:(k∈ms.take i++[ms[i]])↔k∈ms.take i:=by rw[j9,jJ];exact⟨λh=>h.elim id λz=>absurd z e,.inl⟩
  simp only[this]
section
variable{G:DH}{h:Hs}{LV:D}{yt:Int}
theorem ZDP(g:GoodH h)(hms:∀k∈ms,k<h.n)(nd:ms.Nodup)(hlast:ms.getLast?=vD m){T L:Nat->Int}{s:Cs}{r t:D}:∀(q i:Nat)(x y z:Option D),i+q=ms.length->0<q->∃x' y' z',
  Av (Ba 3 (Af (gV 4) (Af (gV 5) (Af (gV 6) Bd)))) Jj ((z3 ms T L).drop i) [zR G.length,zF (Al ms),vD r,vD t,x,y,z] (csH G h.n h.enc LV yt {s with page:=pgM ms T L s.page i})=
   .nx [zR G.length,zF (Al ms),vD r,vD t,x',y',z'] (csH G h.n h.enc LV yt (h.Ex {s with page:=pgM ms T L s.page ms.length} m (L (ms.length-1))))
 |0,i,x,y,z,e,h0=>by lia
 | q + 1,i,x,y,z,e,h0=>by
  have hi:i<ms.length:=by lia
  have eg:ms.getD i 0=ms[i]:=by simp[zH,zZ hi]
  have hk:ms.getD i 0<h.n:=by rw[eg];exact hms _ (qx hi)
  have hmn:m<h.n:=hms m (List.mem_of_getLast? hlast);have e0:(z3 ms T L).drop i=.tup [.int (ms.getD i 0:Nat),.int (T i),.int (L i)]::(z3 ms T L).drop (i+1):=by rw[zO (by simp[z3];exact hi)];simp[z3]
  have hneg:atI (Al ms) (-1)=zI (m:Nat):=by
   have hl:0<ms.length:=by lia
   rw[ZB5 (by decide) (by simp;lia)]
   congr 1
   have e3:((-1:Int)+((Al ms).length:Int)).toNat=ms.length-1:=by simp;lia
   simp only[e3];unfold Al;rw[List.getElem_map];have e4:ms[ms.length-1]'(by lia)=m:=by have:=j8 (l:=ms);rw[hlast,zZ (by lia)]at this;exact(Option.some.inj this).symm
   rw[e4]
  have hpg:(λk=>if k=ms.getD i 0 then[T i+L i,T i,0,L i,0,0]else pgM ms T L s.page i k)=pgM ms T L s.page (i+1):=(ZQ4 nd hi).symm;rw[e0,Cg];cases q with
  | zero=>
   have ei:i=ms.length-1:=by lia
   have em:ms.getD i 0=m:=by have:=j8 (l:=ms);rw[hlast,zZ (by lia)]at this;rw[eg];subst ei;exact(Option.some.inj this).symm
   have hb:Jj [zR G.length,zF (Al ms),vD r,vD t,zI (ms.getD i 0:Nat),zI (T i),zI (L i)] (csH G h.n h.enc LV yt {s with page:=pgM ms T L s.page i})=
     .nx [zR G.length,zF (Al ms),vD r,vD t,zI (ms.getD i 0:Nat),zI (T i),zI (L i)] (csH G h.n h.enc LV yt (h.Ex {s with page:=pgM ms T L s.page ms.length} m (L (ms.length-1)))):=by
    have e5:i+1=ms.length:=by lia
    rw[e5]at hpg;unfold Jj;simp only[em]at hk hpg⊢;simp[An,Mu,Ik,Gk,hk,T3,hpg,Te,hneg,Hw ZAt,ZAF g hmn,<-ei]
   refine⟨zI (ms.getD i 0:Nat),zI (T i),zI (L i),?_⟩;rw[zU (by simp[z3];lia)];simp only[Pj,Oe,Og,Cd,R.Hn,R.Bs,qw,hb,Ce,qV,j2,Nat.reduceAdd,if_true,Dj]
  | succ q=>
   have hne:ms.getD i 0≠m:=λz=>by have h1:=j8 (l:=ms);rw[hlast,zZ (by lia)]at h1;have h2:=Option.some.inj h1;rw[eg,h2]at z;have:=ZDs nd hi (by lia) z;lia
   have hne':¬((ms.getD i 0:Nat):Int)=(m:Int):=by lia
   have hb:Jj [zR G.length,zF (Al ms),vD r,vD t,zI (ms.getD i 0:Nat),zI (T i),zI (L i)] (csH G h.n h.enc LV yt {s with page:=pgM ms T L s.page i})=
     .nx [zR G.length,zF (Al ms),vD r,vD t,zI (ms.getD i 0:Nat),zI (T i),zI (L i)] (csH G h.n h.enc LV yt {s with page:=pgM ms T L s.page (i+1)}):=by
    unfold Jj;generalize ms.getD i 0=a at hk hpg hne';simp[An,Mu,Ik,Gk,hk,T3,hpg,Te,hneg,hne']
   obtain⟨x',y',z',ih⟩:=ZDP g hms nd hlast (T:=T) (L:=L) (s:=s) (r:=r) (t:=t) (q+1) (i+1) (zI (ms.getD i 0:Nat)) (zI (T i)) (zI (L i)) (by lia) (by lia);refine⟨x',y',z',?_⟩;simp only[Pj,Oe,Og,Cd,R.Hn,R.Bs,qw,hb,Ce,qV,j2,Nat.reduceAdd,if_true];exact ih
def Hs.Gg(h:Hs)(s:Cs)(m:Nat):Nat->Int:=shr (h.rows (h.mem m) s.came)
def Hs.G9(h:Hs)(s:Cs)(m:Nat):Nat->Int:=gath (h.rows (h.mem m) s.came) λi=>col Row.water (h.rows (h.mem m) s.came) i-h.Gg s m i
def Hs.reach(h:Hs)(s:Cs)(m:Nat):Cs:=
 let s1:=h.Ex {s with page:=pgM (h.mem m) (h.Gg s m) (h.G9 s m) s.page (h.mem m).length} m (h.G9 s m ((h.mem m).length-1))
 {s1 with rea:=s1.rea++[.tup [.fl (Al (h.mem m)),.fl ((h.rows (h.mem m) s.came).map Row.enc)]]}
theorem Su{n:Nat}(hb:∀m,bels m ds=vF):freeze (csH G n H LV yt s) (.ok (.ref (csH G n H LV yt s).length) (csH G n H LV yt s++[.lst ds]))=.ok (.fl ds) (csH G n H LV yt s):=Du (hb _)
theorem U3:(h.rows ms ca).length=ms.length:=by simp[Hs.rows]
theorem ZRy(g:GoodH h)(hm:m<h.n)(hl:h.last m=m)(hc:∀k,k<h.n->0<=s.came k)(hre:s.rea.length<=100):Qy [.ref G.length,.fl (Al (h.mem m))] (csH G h.n h.enc LV yt s)=.ok .non (csH G h.n h.enc LV yt (h.reach s m)):=by
 have hR:=ZF7 g (m:=m) hc;have hlen:(h.rows (h.mem m) s.came).length<=40:=by have:=ZCG (h:=h) (m:=m);have:=g.len;rw[U3];lia
 have hmem:m∈h.mem m:=mem_iff.mpr ⟨hm,hl⟩;have hpos:0<(h.mem m).length:=List.length_pos_of_mem hmem;have nd:(h.mem m).Nodup:=(ZAb (h:=h) (m:=m)).imp λhab=>zC hab
 have cr:=ZMT g (ms:=h.mem m) (λk hk=>⟨(mem_iff.mp hk).1,λd hd=>by have h1:=mem_iff.mp hk;have h2:=Kl g hd;exact mem_iff.mpr ⟨h2.2.1,by rw[<-Mr g hd];exact h1.2⟩⟩) (by rw[<-U3 (h:=h) (ca:=s.came)];exact hlen) (p:=G.length+1) (ca:=s.came) (G:=csH G h.n h.enc LV yt s) Ol
 have cs:=ZLJ hR hlen (csH G h.n h.enc LV yt s);have cp:=ZDz hR hlen (t:=.fl (tab (h.rows (h.mem m) s.came).length (shr (h.rows (h.mem m) s.came)))) (T:=shr (h.rows (h.mem m) s.came)) (G:=csH G h.n h.enc LV yt s) rfl;rw[U3]at cs cp;obtain⟨x',y',z',hL⟩:=ZDP (G:=G) (LV:=LV) (yt:=yt) g (ms:=h.mem m) (λk hk=>(mem_iff.mp hk).1) nd (ZMv g hm hl) (T:=h.Gg s m) (L:=h.G9 s m) (s:=s) (r:=.fl ((h.rows (h.mem m) s.came).map Row.enc)) (t:=.fl (tab (h.mem m).length (h.Gg s m))) (h.mem m).length 0 vE vE vE (by lia) hpos
 rw[ZNf,xK]at hL;have hz:∀S G',Cy (Fp [.fl (Al (h.mem m)),.fl (tab (h.mem m).length (h.Gg s m)),.fl (tab (h.mem m).length (h.G9 s m))]) (Ba 3 (Af (gV 4) (Af (gV 5) (Af (gV 6) Bd)))) Jj (h.mem m).length 0 S G'=Av (Ba 3 (Af (gV 4) (Af (gV 5) (Af (gV 6) Bd)))) Jj (z3 (h.mem m) (h.Gg s m) (h.G9 s m)) S G':=λS G'=>Nu ZKe (by simp[z3])
 have eT:shr (h.rows (h.mem m) s.came)=h.Gg s m:=rfl;have eL:gath (h.rows (h.mem m) s.came) (λi=>col Row.water (h.rows (h.mem m) s.came) i-h.Gg s m i)=h.G9 s m:=rfl;rw[eT]at cs cp;rw[eL]at cp;have hre2:∀s':Cs,s'.rea=s.rea->s'.rea.length<1000000:=λs' e=>by rw[e];lia
 have ers:∀s':Cs,∀k c,(h.Ex s' k c).rea=s'.rea:=λs' k c=>by
  unfold Hs.Ex;cases h.dn k with
  |none=>rfl
  |some d=>simp only[Cs.send];split <;> rfl
 have el1:=hre2 _ (ers {s with page:=pgM (h.mem m) (h.Gg s m) (h.G9 s m) s.page (h.mem m).length} m (h.G9 s m ((h.mem m).length-1)));simp only[Hs.reach];generalize h.Ex {s with page:=pgM (h.mem m) (h.Gg s m) (h.G9 s m) s.page (h.mem m).length} m (h.G9 s m ((h.mem m).length-1))=s1 at hL el1;have hS:{s with page:=s.page}=s:=rfl;have ht:∀G',tidy G' (.ok (.tup [.fl (Al (h.mem m)),.fl ((h.rows (h.mem m) s.came).map Row.enc)]) G')=.ok (.tup [.fl (Al (h.mem m)),.fl ((h.rows (h.mem m) s.came).map Row.enc)]) G':=λG'=>Bo (by simp)
 unfold Qy ZD3;rw[Ar];simp[Hq,Tq,cr,Su,cs,cp,Fe,Ie,lenOf,hz,hL,An,ht,ZI7,csHe,el1,csSe,Ir]
end
def Cs.NN(n:Nat)(s:Cs):Prop:=(∀k,k<n->0<=s.came k)/\∀k j,k<n->j<5->0<=s.coming k j
theorem Cs.NN.send{n:Nat}(h:s.NN n)(hc:0<=c):(s.send to dl c).NN n:=by
 unfold Cs.send;split
 ·refine⟨λk hk=>?_,h.2⟩;simp only[fset];split
  ·rename_i e;subst e;have:=h.1 k hk;lia
  ·exact h.1 k hk
 ·refine⟨h.1,λk j hk hj=>?_⟩;simp only[upd2];split
  ·rename_i e;subst e;simp only[fset];split
   ·rename_i e2;subst e2;have:=h.2 k _ hk hj;lia
   ·exact h.2 k j hk hj
  ·exact h.2 k j hk hj
theorem Cs.NN.down{n:Nat}(h:s.NN n){hs:Hs}(hc:0<=c):(hs.Ex s k c).NN n:=by
 unfold Hs.Ex;cases hs.dn k with
 |none=>exact h
 |some d=>exact h.send hc
theorem ZGa{w:Int}{s:Stp}:0<=cub w s:=by unfold cub;lia
theorem ZCb{w:Int}:∀{st:List Stp},0<=rv w st
 |[]=>qO _
 |s::r=>by
  have h1:=ZCb (w:=w) (st:=r);have h2:=ZGa (w:=w) (s:=s);unfold rv
  split <;> lia
theorem ZB0{w:Int}:∀{st:List Stp},0<=pm w st
 |[]=>qO _
 |s::r=>by
  have h1:=ZB0 (w:=w) (st:=r);have h2:=ZGa (w:=w) (s:=s);unfold pm
  split <;> lia
theorem Cs.NN.page{n:Nat}(h:s.NN n):({s with page:=pg}:Cs).NN n:=h
theorem Zw:(s.send to dl c).rea=s.rea/\(s.send to dl c).page=s.page:=by
 unfold Cs.send
 split <;> exact⟨rfl,rfl⟩
theorem Mj:(h.Ex s k c).rea=s.rea/\(h.Ex s k c).page=s.page:=by
 unfold Hs.Ex;cases h.dn k with
 |none=>exact⟨rfl,rfl⟩
 |some d=>exact Zw
section
variable{h:Hs}{yt:Int}{lv:Nat->Int}{s:Cs}
theorem ZMN(hs:s.NN h.n):(h.basin yt lv s k).NN h.n:=by
 unfold Hs.basin;cases(h.pl k).kd with
 | basin brim rule pump=>
  simp only;have a1:=ZCb (w:=lv k+s.came k) (st:=held yt rule []);have a2:=ZB0 (w:=lv k+s.came k) (st:=held yt rule []);cases pump with
  |none=>exact hs.page.down (by lia)
  |some q=>
   obtain⟨to,dl,mo⟩:=q;exact Cs.NN.send (hs.page.down (by lia)) a2
 |town _ _=>exact hs
 |mill _=>exact hs
theorem ZKW:(h.basin yt lv s k).rea=s.rea:=by
 unfold Hs.basin;cases(h.pl k).kd with
 |basin brim rule pump=>
  simp only;cases pump with
  |none=>rw[Mj.1]
  |some q=>obtain⟨to,dl,mo⟩:=q;simp only;rw[Zw.1,Mj.1]
 |town _ _=>rfl
 |mill _=>rfl
theorem ZED(hB:(h.pl k).kd.isB=vF):((h.basin yt lv s k).page k).length=6/\∀i,i≠k->(h.basin yt lv s k).page i=s.page i:=by
 unfold Hs.basin;cases e:(h.pl k).kd with
 | basin brim rule pump=>
  simp only;cases pump with
  |none=>
   simp only;rw[Mj.2];exact⟨by simp,λi hi=>by simp[hi]⟩
  |some q=>
   obtain⟨to,dl,mo⟩:=q;simp only;rw[Zw.2,Mj.2];exact⟨by simp,λi hi=>by simp[hi]⟩
 |town _ _=>rw[e]at hB;cases hB
 |mill _=>rw[e]at hB;cases hB
theorem ZIn(g:GoodH h)(hs:s.NN h.n)(hi:i<(h.mem m).length):0<=h.G9 s m i:=by have hR:=ZF7 g (m:=m) hs.1;have hsi:=ZQG hR;have:=hsi.p0 i (by rw[U3];exact hi);rw[hsi.pg]at this;exact this
theorem ZRk(g:GoodH h)(hm:m<h.n)(hl:h.last m=m)(hs:s.NN h.n):(h.reach s m).NN h.n:=by have hpos:0<(h.mem m).length:=List.length_pos_of_mem (mem_iff.mpr ⟨hm,hl⟩);unfold Hs.reach;exact Cs.NN.down (s:={s with page:=pgM (h.mem m) (h.Gg s m) (h.G9 s m) s.page (h.mem m).length}) hs.page (ZIn g hs (by lia))
theorem ZOW:(h.reach s m).rea.length=s.rea.length+1:=by unfold Hs.reach;simp only[qJ,j3];rw[Mj.1]
theorem ZSh:(h.reach s m).page k=if k∈h.mem m then rrow (h.Gg s m) (h.G9 s m) ((h.mem m).idxOf k)else s.page k:=by unfold Hs.reach;simp only;rw[Mj.2];unfold pgM;rw[List.take_of_length_le (zY _)]
def Hs.step(h:Hs)(yt:Int)(lv:Nat->Int)(s:Cs)(k:Nat):Cs:=if(h.pl k).kd.isB=vF then h.basin yt lv s k else if h.last k=k then h.reach s k else s
def Hs.goF(h:Hs)(yt:Int)(lv:Nat->Int):Nat->Nat->Cs->Cs
 |0,_,s=>s
 |m+1,k,s=>h.goF yt lv m (k+1) (h.step yt lv s k)
theorem ZE8(g:GoodH h)(hk:k<h.n)(hs:s.NN h.n):(h.step yt lv s k).NN h.n:=by
 unfold Hs.step;split
 ·exact ZMN hs
 ·split
  ·rename_i e;exact ZRk g hk e hs
  ·exact hs
theorem ZJ4:(h.step yt lv s k).rea.length<=s.rea.length+1:=by
 unfold Hs.step;split
 ·rw[ZKW];lia
 ·split
  ·rw[ZOW];lia
  ·lia
end
section
variable{G:DH}{h:Hs}{yt:Int}{lv:Nat->Int}
theorem Td{β:Type}{f f':α->Option β}:∀{l:List α},(∀x∈l,f x=f' x)->l.filterMap f=l.filterMap f'
 |[],_=>rfl
 |x::l,hl=>by rw[qK,qK,hl x zW,Td λy hy=>hl y (zJ _ hy)]
theorem ZKi(hS:Ay 2 [2] S=[vE,vE,zI k])(G:DH):Dg (Dh 0 (.fl (tab h.n λi=>(h.last i:Int)))) (Ba 2 (Af (gV 0) (Af (gV 1) Bd))) Ov Ri (Ay 2 [2] S) h.n 0 G=.ok (Al (h.mem k)) G:=by
 have he:Cq (tab h.n λi=>(h.last i:Int))=(zV h.n).map λ(i:Nat)=>D.tup [.int (i:Int),.int (h.last i:Int)]:=by refine jZ (by simp[Cq]) λi h1 h2=>by simp[Cq,tab]
 rw[Up (F:=λd=>match d with | .tup [.int i,.int e]=>if e=(k:Int)then zI i else vE|_=>vE) (λj=>Tz j G) (λx hx=>?_) (by rw[Hr];simp)]
 ·congr 1
  rw[he,qq];unfold Hs.mem Al;rw[<-List.filterMap_eq_filter,List.map_filterMap];refine Td λi _=>?_
  by_cases e:h.last i=k
  ·subst e;simp[Option.guard]
  ·have e2:¬((h.last i:Int)=(k:Int)):=by lia
   simp[Option.guard,e,e2]
 ·rw[he]at hx;obtain⟨i,_,rfl⟩:=zD.mp hx;refine⟨[zI i,zI (h.last i:Int),zI k],by rw[hS];simp,?_⟩;by_cases e:h.last i=k
  ·refine .inr ⟨by unfold Ov;simp[e],.int i,by unfold Ri;simp,by simp[e]⟩
  ·have e2:¬((h.last i:Int)=(k:Int)):=by lia
   exact .inl ⟨by unfold Ov;simp[e2],by simp[e2]⟩
theorem ZHt(g:GoodH h):∀(m k:Nat)(s:Cs)(x y:Option D),k+m=h.n->s.NN h.n->s.rea.length<=k->∃x' y',
  Av (Ba 2 (Af (gV 2) (Af (gV 3) Bd))) Lz ((Cq (tab h.n λi=>(h.last i:Int))).drop k) [zR G.length,zF (tab h.n λi=>(h.last i:Int)),x,y] (csH G h.n h.enc (.tup (tab h.n lv)) yt s)=
   .nx [zR G.length,zF (tab h.n λi=>(h.last i:Int)),x',y'] (csH G h.n h.enc (.tup (tab h.n lv)) yt (h.goF yt lv m k s))
 |0,k,s,x,y,e,_,_=>⟨x,y,by rw[zU (by rw[Hr];simp;lia),Dj];rfl⟩
 | m + 1,k,s,x,y,e,hs,hre=>by
  have hk:k<h.n:=by lia
  have hn:=g.len;have hre2:=ZJ4 (h:=h) (yt:=yt) (lv:=lv) (s:=s) (k:=k);obtain⟨x',y',ih⟩:=ZHt g m (k+1) (h.step yt lv s k) (zI k) (zI (h.last k:Int)) (by lia) (ZE8 g hk hs) (by lia);refine⟨x',y',?_⟩;have e0:(Cq (tab h.n λi=>(h.last i:Int))).drop k=.tup [.int k,.int (h.last k:Int)]::(Cq (tab h.n λi=>(h.last i:Int))).drop (k+1):=by rw[zO (by rw[Hr];simpa using hk)];simp[Cq,tab]
  have hml:(h.mem k).length<=1000000:=by have:=ZCG (h:=h) (m:=k);lia
  have hb:Lz [zR G.length,zF (tab h.n λi=>(h.last i:Int)),zI k,zI (h.last k:Int)] (csH G h.n h.enc (.tup (tab h.n lv)) yt s)=
    .nx [zR G.length,zF (tab h.n λi=>(h.last i:Int)),zI k,zI (h.last k:Int)] (csH G h.n h.enc (.tup (tab h.n lv)) yt (h.step yt lv s k)):=by
   unfold Lz Hs.step;by_cases hB:(h.pl k).kd.isB=vF
   ·simp[Hq,Dm,Hs.Ea hk,Hj,hB,Hw ZQD,ZN6 g hk hB]
   ·by_cases hl:h.last k=k
    ·have hc:Dg (Dh 0 (.fl (tab h.n λi=>(h.last i:Int)))) (Ba 2 (Af (gV 0) (Af (gV 1) Bd))) Ov Ri (Ay 2 [2] [zR G.length,zF (tab h.n λi=>(h.last i:Int)),zI k,zI (k:Int)]) h.n 0 (csH G h.n h.enc (.tup (tab h.n lv)) yt s)=.ok (Al (h.mem k)) (csH G h.n h.enc (.tup (tab h.n lv)) yt s):=ZKi rfl _;simp[Hq,Dm,Hs.Ea hk,Hj,hB,hl,Hw ZSR,Fj,Ie,lenOf,hc,Ah,hml,Su,ZRy g hk hl hs.1 (by lia)]
    ·have hl':¬((h.last k:Int)=(k:Int)):=by lia
     simp[Hq,Dm,Hs.Ea hk,Hj,hB,hl,hl']
  rw[e0,Cg];simp only[Pj,Oe,Og,Cd,R.Hn,R.Bs,qw,hb,Ce,qV,j2,Nat.reduceAdd,if_true];exact ih
theorem ZI1(g:GoodH h)(hs:s.NN h.n)(hre:s.rea=[]):Qh [.ref G.length] (csH G h.n h.enc (.tup (tab h.n lv)) yt s)=.ok .non (csH G h.n h.enc (.tup (tab h.n lv)) yt (h.goF yt lv h.n 0 s)):=by
 obtain⟨x',y',hL⟩:=ZHt (G:=G) (yt:=yt) (lv:=lv) g h.n 0 s vE vE (by lia) hs (by rw[hre];simp);rw[xK]at hL;unfold Qh ZGn;rw[Ar];have hz:∀S G',Cy (Dh 0 (.fl (tab h.n λi=>(h.last i:Int)))) (Ba 2 (Af (gV 2) (Af (gV 3) Bd))) Lz h.n 0 S G'=Av (Ba 2 (Af (gV 2) (Af (gV 3) Bd))) Lz (Cq (tab h.n λi=>(h.last i:Int))) S G':=λS G'=>Nu Tz (by rw[Hr];simp)
 simp[Hq,ZKY g,Su,Fj,Ie,lenOf,hz,hL,Ir]
end
def Bg(n:Nat)(co:Nat->Nat->Int):List D:=(zV n).map λk=>D.tup (tab 5 (co k))
def stD(n:Nat)(lv:Nat->Int)(co:Nat->Nat->Int):D:=.tup [.tup (tab n lv),.tup (Bg n co)]
@[simp]theorem ZSm{n:Nat}:bels m (Bg n co)=vF:=Dt λk _=>by simp[K5]
@[simp]theorem ZRW{n:Nat}:bels m (By n pg)=vF:=Dt λk _=>ZSD
@[simp]theorem ZTg{n:Nat}:(Bg n co).length=n:=by simp[Bg]
def Ju(co:Nat->Nat->Int):Nat->Nat->Int:=λk j=>if j<4 then co k (j+1)else 0
def cs0(co:Nat->Nat->Int)(fl:Nat->Int):Cs:=⟨λk=>fl k+co k 0,Ju co,λ_=>[],[]⟩
theorem tab5:tab 5 F=[.int (F 0),.int (F 1),.int (F 2),.int (F 3),.int (F 4)]:=rfl
theorem Js{c f:Str}{fs:List (Str×D)}{d:D}(hl:fs.length<1000):Mq c f (.ref G.length) d S (G++ .ins c fs::L)=.nx S (G++ .ins c (Fb f d fs)::L):=by
 rw[ZJy (fs:=fs) (by rw[Bu];rfl) hl,Dk]
 rfl
theorem ZPr{n:Nat}(G:DH):Dg (Fp [.tup (tab n fl),.tup (Bg n co)]) (Ba 2 (Af (gV 0) (Af (gV 1) Bd))) Bh Tv (Ay 2 [] S) n 0 G=.ok (tab n λk=>fl k+co k 0) G:=by
 have he:M6 (tab n fl) (Bg n co)=(zV n).map λ(i:Nat)=>D.tup [.int (fl i),.tup (tab 5 (co i))]:=by refine jZ (by simp[M6]) λi h1 h2=>by simp[M6,tab,Bg]
 rw[Up (F:=λd=>match d with | .tup [.int c,.tup (.int a::_)]=>zI (c+a)|_=>vE) (λj=>ZG5 (Qt (xs:=tab n fl)) (Qt (xs:=Bg n co)) j) (λx hx=>?_) (by rw[he];simp)]
 ·congr 1
  rw[he,qq];show(zV n).filterMap (λi=>zI (fl i+co i 0))=_;rw[qB]
  rfl
 ·rw[he]at hx;obtain⟨i,_,rfl⟩:=zD.mp hx;refine⟨[zI (fl i),zT (tab 5 (co i))],by simp[Ay],.inr ⟨rfl,.int (fl i+co i 0),?_,by simp[tab5]⟩⟩;unfold Tv;simp[tab5]
theorem ZMu(G:DH):Qc [zT (tab 5 (co k))] G=.ok (.ref G.length) (G++[.lst (tab 5 (Ju co k))]):=by
 have hcut:cutD (tab 5 (co k)) (vD 1) vE=[.int (co k 1),.int (co k 2),.int (co k 3),.int (co k 4)]:=rfl;have h1:Jq [.tup [.int (co k 1),.int (co k 2),.int (co k 3),.int (co k 4)]] G=.ok (.ref G.length) (G++[.lst [.int (co k 1),.int (co k 2),.int (co k 3),.int (co k 4)]]):=rfl;have h2:Aj (.fl [.int (co k 1),.int (co k 2),.int (co k 3),.int (co k 4)]) (.fl [.int 0]) G=.ok (.ref G.length) (G++[.lst (tab 5 (Ju co k))]):=rfl
 have hf:∀ds:List D,bels G.length ds=vF->freeze G (.ok (.ref G.length) (G++[.lst ds]))=.ok (.fl ds) G:=λds hb=>Du hb
 unfold Qc;simp[Ho,Kv,hcut,I8,h1,hf,Ah,h2,Df]
theorem ZCn{n:Nat}{co:Nat->Nat->Int}:∀(m k:Nat)(G:DH),k+m=n->Cu (gV 0) Bh Qc [vE] ((Bg n co).drop k) G=.ok ((zV m).map λj=>D.ref (G.length+j)) (G++(zV m).map λj=>DO.lst (tab 5 (Ju co (k+j))))
 |0,k,G,e=>by rw[zU (by simp;lia)];simp[Cu]
 | m+1,k,G,e=>by
  have e0:(Bg n co).drop k=.tup (tab 5 (co k))::(Bg n co).drop (k+1):=by rw[zO (by simp;lia)];simp[Bg]
  have ih:=ZCn (n:=n) (co:=co) m (k+1) (G++[.lst (tab 5 (Ju co k))]) (by lia);rw[e0,V1];simp only[Cd,R.Hn,qw,ZOb,if_true,ZMu,ih]
  congr 1
  ·rw[qT,zE,jx]
   congr 1
   refine qE λj _=>?_
   simp only[Function.comp,qJ,j3]
   congr 1
   lia
  ·rw[qT,zE,jx,qI]
   congr 1
   show _::_=_::_
   congr 1
   refine qE λj _=>?_
   simp only[Function.comp]
   congr 3
   lia
theorem ZSg(g:GoodH h):
  Pz [.ref G.length,h.enc,stD h.n lv co,.int at_,.tup (tab h.n fl)] (G++[.ins "Course" []])=.ok .non (csH G h.n h.enc (.tup (tab h.n lv)) (at_%h.yr) (cs0 co fl)):=by
 have hn:=g.len;have hyr:=g.yr;have hnl:h.n<=1000000:=by lia
 have p1:∀a:D,Fb "house" a (cfl [])=cfl [a]:=λ_=>rfl
 have p2:∀a b:D,Fb "levels" b (cfl [a])=cfl [a,b]:=λ_ _=>rfl
 have p3:∀a b c:D,Fb "year_turn" c (cfl [a,b])=cfl [a,b,c]:=λ_ _ _=>rfl
 have p4:∀a b c d:D,Fb "came" d (cfl [a,b,c])=cfl [a,b,c,d]:=λ_ _ _ _=>rfl
 have p5:∀a b c d e:D,Fb "coming" e (cfl [a,b,c,d])=cfl [a,b,c,d,e]:=λ_ _ _ _ _=>rfl
 have p6:∀a b c d e f:D,Fb "page" f (cfl [a,b,c,d,e])=cfl [a,b,c,d,e,f]:=λ_ _ _ _ _ _=>rfl
 have p7:∀a b c d e f q:D,Fb "reaches" q (cfl [a,b,c,d,e,f])=cfl [a,b,c,d,e,f,q]:=λ_ _ _ _ _ _ _=>rfl
 have hl:∀ds,(cfl ds).length<1000:=λds=>by unfold cfl;rw[List.length_zip];have:(["house","levels","year_turn","came","coming","page","reaches"]:List Str).length=7:=rfl;lia
 have hz:∀G',Fe 2 [.tup (tab h.n fl),.tup (Bg h.n co)] G'=.ok (.fn h.n (Fp [.tup (tab h.n fl),.tup (Bg h.n co)])) G':=λG'=>by rw[ZGm Qt Qt];simp
 have hcc:=λG'=>ZCn (n:=h.n) (co:=co) h.n 0 G' (by lia)
 simp only[xK,Nat.zero_add]at hcc;have hcs:∀S:DSt,Ay 1 [] S=[vE]:=λ_=>rfl
 have epg:zX h.n D.non=By h.n λ_=>[]:=by unfold By;refine jZ (by simp) λi h1 h2=>by simp[Jf]
 let S:DSt:=[zR G.length,vD h.enc,vD (stD h.n lv co),zI at_,zT (tab h.n fl),zT (tab h.n lv),zT (Bg h.n co)];have hS:S=[zR G.length,vD h.enc,vD (stD h.n lv co),zI at_,zT (tab h.n fl),zT (tab h.n lv),zT (Bg h.n co)]:=rfl;let R5:DH:=(zV h.n).map λk=>DO.lst (tab 5 (Ju co k))
 have hR5:R5.length=h.n:=by simp[R5]
 let W:List D->DH->DH:=λL t=>G++ .ins "Course" (cfl L)::t
 let B:D:=.tup (tab h.n lv);let Y:D:=.int (at_%h.yr);let T1:DO:=.lst (tab h.n λk=>fl k+co k 0);have q1:Eb "Course" (dV 0) (dV 1) "house" S (W [] [])=.nx S (W [h.enc] []):=by rw[Kr,hS];simp only[W,B,Zt,jE,jy,R.Bs,Js (hl _),p1]
 have q2:Eb "Course" (dV 0) (dV 5) "levels" S (W [h.enc] [])=.nx S (W [h.enc,B] []):=by rw[Kr,hS];simp only[W,B,Zt,jE,jy,R.Bs,Js (hl _),p2]
 have q3:Eb "Course" (dV 0) (dOp Aw (dV 3) (dOp Ae (dV 1) (dC (.int 0)))) "year_turn" S (W [h.enc,B] [])=.nx S (W [h.enc,B,Y] []):=by rw[Kr,hS];simp[W,B,Y,T1,Ww,hyr,Js (hl _),p3]
 have q4:Eb "Course" (dV 0) (Cm (Br (Fe 2) (Aa (dV 4) (Aa (dV 6) Ac))) 2 [] (Ba 2 (Af (gV 0) (Af (gV 1) Bd))) Bh Tv) "came" S (W [h.enc,B,Y] [])=
   .nx S (W [h.enc,B,Y,.ref (G.length+1)] (T1::[])):=by
  rw[Kr,hS];simp[W,B,Y,T1,hz,ZPr,Ah,hnl,Js (hl _),p4]
 have q5:Eb "Course" (dV 0) (Cm (Ds (dV 6)) 1 [] (gV 0) Bh Qc) "coming" S (W [h.enc,B,Y,.ref (G.length+1)] (T1::[]))=
   .nx S (W [h.enc,B,Y,.ref (G.length+1),.ref (G.length+(2+h.n))] (T1::(R5++[.lst (Cw G.length h.n)]))):=by
  have hi:Ec (.tup (Bg h.n co)) (W [h.enc,B,Y,.ref (G.length+1)] (T1::[]))=.ok (.pure (Bg h.n co)) (W [h.enc,B,Y,.ref (G.length+1)] (T1::[])):=rfl;have er:∀L:DH,L.length=2->(zV h.n).map (λj=>D.ref ((G++L).length+j))=Cw G.length h.n:=λL e=>by
   unfold Cw;refine qE λj _=>?_
   rw[qJ,e,Nat.add_assoc]
  have hc2:=hcc (W [h.enc,B,Y,.ref (G.length+1)] (T1::[]));rw[er _ rfl]at hc2;have hml:∀G',Ah (Cw G.length h.n) G'=.ok (.ref G'.length) (G'++[.lst (Cw G.length h.n)]):=λG'=>by simp[Ah,Cw,hnl]
  rw[Kr,hS];simp only[W,B,Y,T1,ZKq,ZKP,Zt,jE,jy,R.Hn,hi,hcs,hc2,hml,R.Bs];have e2:(G++DO.ins "Course" (cfl [h.enc,.tup (tab h.n lv),.int (at_%h.yr),.ref (G.length+1)]):: .lst (tab h.n λk=>fl k+co k 0)::[]++(zV h.n).map λj=>DO.lst (tab 5 (Ju co j))).length=G.length+(2+h.n):=by simp;lia
  rw[e2];simp only[W,qI,List.cons_append,xZ];rw[Js (hl _),p5]
 have q6:Eb "Course" (dV 0) (Cj (dOp Gx (dFn Ah (Aa (dC .non) Ac)) (dFn Bp (Aa (dV 5) Ac)))) "page" S (W [h.enc,B,Y,.ref (G.length+1),.ref (G.length+(2+h.n))] (T1::(R5++[.lst (Cw G.length h.n)])))=
   .nx S (W [h.enc,B,Y,.ref (G.length+1),.ref (G.length+(2+h.n)),.ref (G.length+(3+h.n))] (T1::(R5++[.lst (Cw G.length h.n),.lst (By h.n λ_=>[])]))):=by
  rw[Kr,hS];generalize hQ:W [h.enc,B,Y,.ref (G.length+1),.ref (G.length+(2+h.n))] (T1::(R5++[.lst (Cw G.length h.n)]))=Q;have eQ:Q.length=G.length+(3+h.n):=by rw[<-hQ];simp[W,hR5];lia
  have hrep:Gx (.ref Q.length) (.int (h.n:Int)) (Q++[.lst [.non]])=.ok (.ref (Q.length+1)) (Q++[.lst [.non],.lst (By h.n λ_=>[])]):=by rw[ZGd (d:=.non) (by rw[Bu];rfl) (by lia),epg];simp
  have ht:tidy Q (.ok (.ref (Q.length+1)) (Q++[.lst [.non],.lst (By h.n λ_=>[])]))=.ok (.ref Q.length) (Q++[.lst (By h.n λ_=>[])]):=Zi _ (k:=1) rfl ZRW;have hst:Mq "Course" "page" (.ref G.length) (.ref Q.length) S (Q++[.lst (By h.n λ_=>[])])=.nx S (W [h.enc,B,Y,.ref (G.length+1),.ref (G.length+(2+h.n)),.ref (G.length+(3+h.n))] (T1::(R5++[.lst (Cw G.length h.n),.lst (By h.n λ_=>[])]))):=by rw[eQ,<-hQ];simp only[W,qI,List.cons_append,xZ];rw[Js (hl _),p6]
  rw[hS]at hst;simp[Ah,hrep,ht,hst]
 have q7:Eb "Course" (dV 0) (Cj (dFn Ah Ac)) "reaches" S (W [h.enc,B,Y,.ref (G.length+1),.ref (G.length+(2+h.n)),.ref (G.length+(3+h.n))] (T1::(R5++[.lst (Cw G.length h.n),.lst (By h.n λ_=>[])])))=
   .nx S (W [h.enc,B,Y,.ref (G.length+1),.ref (G.length+(2+h.n)),.ref (G.length+(3+h.n)),.ref (G.length+(4+h.n))] (T1::(R5++[.lst (Cw G.length h.n),.lst (By h.n λ_=>[]),.lst []]))):=by
  rw[Kr,hS];generalize hQ:W [h.enc,B,Y,.ref (G.length+1),.ref (G.length+(2+h.n)),.ref (G.length+(3+h.n))] (T1::(R5++[.lst (Cw G.length h.n),.lst (By h.n λ_=>[])]))=Q;have eQ:Q.length=G.length+(4+h.n):=by rw[<-hQ];simp[W,hR5];lia
  have ht:tidy Q (.ok (.ref Q.length) (Q++[.lst []]))=.ok (.ref Q.length) (Q++[.lst []]):=Df rfl;have hst:Mq "Course" "reaches" (.ref G.length) (.ref Q.length) S (Q++[.lst []])=.nx S (W [h.enc,B,Y,.ref (G.length+1),.ref (G.length+(2+h.n)),.ref (G.length+(3+h.n)),.ref (G.length+(4+h.n))] (T1::(R5++[.lst (Cw G.length h.n),.lst (By h.n λ_=>[]),.lst []]))):=by rw[eQ,<-hQ];simp only[W,qI,List.cons_append,xZ];rw[Js (hl _),p7]
  rw[hS]at hst;simp[Ah,ht,hst]
 have htd:tidy (G++[.ins "Course" []]) (.ok .non (csH G h.n h.enc (.tup (tab h.n lv)) (at_%h.yr) (cs0 co fl)))=.ok .non (csH G h.n h.enc (.tup (tab h.n lv)) (at_%h.yr) (cs0 co fl)):=ZNH λz=>by
  have h1:=congrArg (λl:DH=>l[G.length]?) z;simp only[qJ,j3]at h1;rw[jk (by lia),Ig]at h1;have h2:(G++[DO.ins "Course" []])[G.length]?=vD (.ins "Course" []):=by rw[Bu];rfl
  rw[h2]at h1;simp[cflds,cfl]at h1
 have q0:sAs (dV 2) (Ba 2 (Af (gV 5) (Af (gV 6) Bd))) [zR G.length,vD h.enc,vD (stD h.n lv co),zI at_,zT (tab h.n fl),vE,vE] (G++[.ins "Course" []])=.nx S (W [] []):=by
  simp[stD,hS]
  rfl
 unfold Pz ZCj;rw[Ar];have h5: [D.ref G.length,h.enc,stD h.n lv co,.int at_,.tup (tab h.n fl)].length=5:=rfl;rw[if_pos h5];have hd:([D.ref G.length,h.enc,stD h.n lv co,.int at_,.tup (tab h.n fl)].map vD++zX 2 vE)=[zR G.length,vD h.enc,vD (stD h.n lv co),zI at_,zT (tab h.n fl),vE,vE]:=rfl;rw[hd];simp only[Rf,q0,Ud,q1,q2,q3,q4,q5,q6,q7,ZNk];exact htd
section
variable{h:Hs}{yt:Int}{lv:Nat->Int}
theorem ZFo(g:GoodH h):∀(m k:Nat),h.n<=m+k->h.last k=k∨(h.pl (h.last k)).kd.isB=vG
 |0,k,e=>.inl (Je g (M4 (by lia)))
 | m + 1,k,e=>by
  cases hd:h.dir k with
  |none=>exact .inl (Je g hd)
  | some d=>
   have hl:=Kl g hd;rw[Mr g hd];rcases ZFo g m d (by lia)with z|z
   ·refine .inr ?_;rw[z];unfold Hs.dir at hd;cases h1:h.dn k with
    |none=>rw[h1]at hd;cases hd
    | some d'=>
     rw[h1]at hd;simp only at hd;split at hd
     ·cases hd
     ·rename_i hn;cases hd;cases e2:(h.pl d).kd.isB with
      |false=>rfl
      |true=>exact absurd (.inr (.inr e2)) hn
   ·exact .inr z
theorem ZHy(g:GoodH h):∀(m k:Nat),h.n<=m+k->h.last (h.last k)=h.last k
 |0,k,e=>by have h1:=Je g (h:=h) (k:=k) (M4 (by lia));rw[h1,h1]
 | m+1,k,e=>by
  cases hd:h.dir k with
  |none=>rw[Je g hd,Je g hd]
  |some d=>
   have hl:=Kl g hd;rw[Mr g hd];exact ZHy g m d (by lia)
def Hs.done(h:Hs)(j k:Nat):Prop:=if(h.pl k).kd.isB=vF then k<j else h.last k<j
theorem ZLH(g:GoodH h)(hk:k<h.n)(hf:∀i,i<h.n->h.done k i->(s.page i).length=6):∀i,i<h.n->h.done (k+1) i->((h.step yt lv s k).page i).length=6:=λi hi hd=>by
 unfold Hs.step;split
 ·rename_i hB;by_cases e:i=k
  ·subst e;exact(ZED hB).1
  ·rw[(ZED hB).2 i e];refine hf i hi ?_;unfold Hs.done at hd⊢;by_cases hiB:(h.pl i).kd.isB=vF
   ·rw[if_pos hiB]at hd⊢;lia
   ·rw[if_neg hiB]at hd⊢;rcases xW (h.last i) k with z|z
    ·exact z
    ·have e2:h.last i=k:=by lia
     rcases ZFo g h.n i (by lia)with z2|z2
     ·rw[z2]at e2;exact absurd e2 e
     ·rw[e2,hB]at z2;cases z2
 ·rename_i hB;split
  ·rename_i hl;rw[ZSh];split
   ·rfl
   ·rename_i hm;refine hf i hi ?_;unfold Hs.done at hd⊢;by_cases hiB:(h.pl i).kd.isB=vF
    ·rw[if_pos hiB]at hd⊢;rcases xW i k with z|z
     ·exact z
     ·have e2:i=k:=by lia
      rw[e2]at hiB;exact absurd hiB hB
    ·rw[if_neg hiB]at hd⊢;rcases xW (h.last i) k with z|z
     ·exact z
     ·exact absurd (mem_iff.mpr ⟨hi,by lia⟩) hm
  ·rename_i hl;refine hf i hi ?_;unfold Hs.done at hd⊢;by_cases hiB:(h.pl i).kd.isB=vF
   ·rw[if_pos hiB]at hd⊢;rcases xW i k with z|z
    ·exact z
    ·have e2:i=k:=by lia
     rw[e2]at hiB;exact absurd hiB hB
   ·rw[if_neg hiB]at hd⊢;rcases xW (h.last i) k with z|z
    ·exact z
    ·have e2:h.last i=k:=by lia
     have:=ZHy g h.n i (by lia);rw[e2]at this;exact absurd this hl
theorem ZEn(g:GoodH h):∀(m k:Nat)(s:Cs),k+m=h.n->(∀i,i<h.n->h.done k i->(s.page i).length=6)->∀i,i<h.n->((h.goF yt lv m k s).page i).length=6
 | 0,k,s,e,hf,i,hi=>hf i hi (by
   unfold Hs.done;split
   ·lia
   ·have:=(ZFE g i).2 hi;lia)
 |m+1,k,s,e,hf,i,hi=>ZEn g m (k+1) _ (by lia) (ZLH g (by lia) hf) i hi
theorem ZDV(g:GoodH h):∀(m k:Nat)(s:Cs),k+m=h.n->s.NN h.n->(h.goF yt lv m k s).NN h.n
 |0,k,s,e,hs=>hs
 |m+1,k,s,e,hs=>ZDV g m (k+1) _ (by lia) (ZE8 g (by lia) hs)
end
noncomputable def lies(pg:Nat->List Int):Nat->Int:=λk=>(pg k).getD 5 0
theorem row6(h:l.length=6):∃a b c d e f,l=[a,b,c,d,e,f]:=by
 match l,h with
 |[a,b,c,d,e,f],_=>exact⟨a,b,c,d,e,f,rfl⟩
section
variable{G:DH}{h:Hs}{LV:D}{yt:Int}{s:Cs}
theorem ZQB(hf:∀k,k<h.n->(s.page k).length=6):Ez (G.length+(3+h.n)) (gV 0) Bh Qs (Ay 1 [] S) h.n 0 (csH G h.n h.enc LV yt s)=.ok (tab h.n (lies s.page)) (csH G h.n h.enc LV yt s):=by
 have hx:=ZDk (i:=G.length+(3+h.n)) (g:=gV 0) (c:=Bh) (te:=Qs) (S:=Ay 1 [] S) (G:=csH G h.n h.enc LV yt s) (F:=λd=>match d with | .tup [_,_,_,_,_,x]=>vD x|_=>vE) Ik (λx hx=>by obtain⟨k,hk,rfl⟩:=zD.mp hx;obtain⟨a,b,c,d,e,f,el⟩:=row6 (hf k (q8.mp hk));rw[el];refine⟨[vD (Jf [a,b,c,d,e,f])],by simp[Ay],.inr ⟨rfl,.int f,?_,rfl⟩⟩;unfold Qs;simp[Jf])
 rw[ZIw]at hx;rw[hx]
 congr 1
 unfold By;rw[qq];unfold tab;rw[<-qB];refine Td λk hk=>?_
 obtain⟨a,b,c,d,e,f,el⟩:=row6 (hf k (q8.mp hk));simp[Function.comp,el,Jf,lies]
theorem ZRp:Ez (G.length+(2+h.n)) (gV 0) Bh Ss (Ay 1 [] S) h.n 0 (csH G h.n h.enc LV yt s)=.ok (Bg h.n s.coming) (csH G h.n h.enc LV yt s):=by
 have hlen:(Cw G.length h.n).length=h.n:=by simp[Cw]
 have hx:=ZDk (i:=G.length+(2+h.n)) (g:=gV 0) (c:=Bh) (te:=Ss) (S:=Ay 1 [] S) (G:=csH G h.n h.enc LV yt s) (F:=λd=>match d with | .ref j=>zT (tab 5 (s.coming (j-(G.length+2))))|_=>vE) T8 (λx hx=>by
  obtain⟨k,hk,rfl⟩:=zD.mp hx;refine⟨[zR (G.length+(2+k))],by simp[Ay],.inr ⟨rfl,.tup (tab 5 (s.coming k)),?_,?_⟩⟩
  ·unfold Ss;simp[Y5 (q8.mp hk)]
  ·have e:G.length+(2+k)-(G.length+2)=k:=by lia
   simp only[e])
 rw[hlen]at hx;rw[hx]
 congr 1
 unfold Cw;rw[qq];unfold Bg;rw[<-qB];refine Td λk hk=>?_
 have e:G.length+(2+k)-(G.length+2)=k:=by lia
 simp only[Function.comp,e]
theorem ZK0(g:GoodH h)(hf:∀k,k<h.n->(s.page k).length=6):U8 [.ref G.length] (csH G h.n h.enc LV yt s)=.ok (stD h.n (lies s.page) s.coming) (csH G h.n h.enc LV yt s):=by
 have hn:=g.len;have hnl:h.n<=1000000:=by lia
 have hl2:(Cw G.length h.n).length=h.n:=by simp[Cw]
 have hb:bel (csH G h.n h.enc LV yt s).length (stD h.n (lies s.page) s.coming)=vF:=by simp[stD]
 unfold U8 ZEq;rw[Ar];unfold stD at hb⊢;have i1:Ec (.ref (G.length+(3+h.n))) (csH G h.n h.enc LV yt s)=.ok (.mt (G.length+(3+h.n))) (csH G h.n h.enc LV yt s):=by simp[Ec,Ik]
 have i2:Ec (.ref (G.length+(2+h.n))) (csH G h.n h.enc LV yt s)=.ok (.mt (G.length+(2+h.n))) (csH G h.n h.enc LV yt s):=by simp[Ec,T8]
 simp[i1,i2,Mu,Ik,ZQB hf,Ah,hnl,Su,An,ZCq,T8,hl2,ZRp,Bo]
def Hs.cs(h:Hs)(lv:Nat->Int)(co:Nat->Nat->Int)(at_:Int)(fl:Nat->Int):Cs:=h.goF (at_%h.yr) lv h.n 0 (cs0 co fl)
theorem ZFY{n:Nat}(hc:∀k j,k<n->j<5->0<=co k j)(hf:∀k,k<n->0<=fl k):(cs0 co fl).NN n:=by
 refine⟨λk hk=>?_,λk j hk hj=>?_⟩
 ·have:=hc k 0 hk (by lia);have:=hf k hk;show 0<=fl k+co k 0;lia
 ·show 0<=if j<4 then co k (j+1)else 0
  split
  ·exact hc k (j+1) hk (by lia)
  ·exact qO _
theorem ZQP(g:GoodH h):∀k,k<h.n->((h.cs lv co at_ fl).page k).length=6:=ZEn g h.n 0 _ (by lia) λi hi hd=>by
 unfold Hs.done at hd
 split at hd<;>lia
theorem ZPk(g:GoodH h)(hc:∀k j,k<h.n->j<5->0<=co k j)(hf:∀k,k<h.n->0<=fl k)(G:DH):
  U0 [h.enc,stD h.n lv co,.int at_,.tup (tab h.n fl)] G=.ok (.tup [.tup (By h.n (h.cs lv co at_ fl).page),stD h.n (lies (h.cs lv co at_ fl).page) (h.cs lv co at_ fl).coming]) G:=by
 have hgo:=ZI1 (G:=G) (lv:=lv) (yt:=at_%h.yr) g (ZFY (fl:=fl) hc hf) rfl;have hst:=ZK0 (G:=G) (LV:=.tup (tab h.n lv)) (yt:=at_%h.yr) g (ZQP g (lv:=lv) (fl:=fl) (co:=co) (at_:=at_));have hmk:ZBX Pz "Course" [h.enc,stD h.n lv co,.int at_,.tup (tab h.n fl)] G=.ok (.ref G.length) (csH G h.n h.enc (.tup (tab h.n lv)) (at_%h.yr) (cs0 co fl)):=by
  unfold ZBX;rw[ZSg g]
  rfl
 have egs:h.goF (at_%h.yr) lv h.n 0 (cs0 co fl)=h.cs lv co at_ fl:=rfl;rw[egs]at hgo;have hcH:∀s,csH G h.n h.enc (.tup (tab h.n lv)) (at_%h.yr) s=G++csT G.length h.n h.enc (.tup (tab h.n lv)) (at_%h.yr) s:=λ_=>rfl
 have hbl:bel G.length (.tup [.tup (By h.n (h.cs lv co at_ fl).page),stD h.n (lies (h.cs lv co at_ fl).page) (h.cs lv co at_ fl).coming])=vF:=by simp[stD]
 unfold U0 ZFu;rw[Ar];simp[hmk,Hw ZRu,hgo,Mu,Ik,Hw ZM7,hst,An];rw[hcH];exact Hm hbl
end
theorem ZN8(hf:∀k:Nat,k<=1000->∀G,Aq [.fl (ns.map D.int),.int k] G=.ok (.int (f k)) G):∃u:Int,(u=1∨u=1000000000000000000000000000000)/\∀G,Es [.fl (ns.map D.int)] G=.ok (.int u) G:=by
 have h0:∀G,Aq [.fl (ns.map D.int),.int 0] G=.ok (.int (f 0)) G:=hf 0 (by lia);have fz:∀G:DH,freeze G (.ok (.ref G.length) (G++[.lst [.int 1,.int 1,.int 1000000000000000000000000000000]]))=.ok (.fl [.int 1,.int 1,.int 1000000000000000000000000000000]) G:=λG=>Du rfl
 rcases(by lia:f 0/840%3=0∨f 0/840%3=1∨f 0/840%3=2)with h|h|h
 ·refine⟨1,.inl rfl,λG=>?_⟩;unfold Es Rz;rw[Ar];simp[h0,h,Ah,fz,Bo]
 ·refine⟨1,.inl rfl,λG=>?_⟩;unfold Es Rz;rw[Ar];simp[h0,h,Ah,fz,Bo]
 ·refine⟨1000000000000000000000000000000,.inr rfl,λG=>?_⟩;unfold Es Rz;rw[Ar];simp[h0,h,Ah,fz,Bo]
noncomputable def amt(c u:Int):Int:=u*(c%7)+c/7%u
theorem Rc(hu:0<u):0<=amt c u:=by unfold amt;have h1:0<=u*(c%7):=jF (by lia) (by lia);have h2:0<=c/7%u:=jA _ (by lia);lia
theorem O7(hu:0<u)(G:DH):Ko [.int c,.int u] G=.ok (.int (amt c u)) G:=by
 have m1:∀G,Ax (.int u) (.int (c%7)) G=.ok (.int (u*(c%7))) G:=λG=>Jg (by lia) (by lia)
 unfold Ko ZID;rw[Ar];simp[m1,hu,Bo,amt]
def Kp(xs:Nat->Int)(u:Int)(p:Bool):Nat->Nat->Int->List Stp
 |0,_,_=>[]
 |n+1,j,low=>⟨low+u*(xs (1+j)%4),1+u*(xs (1+j)/4%4), !(p&&decide (xs (1+j)/16%2=1))⟩::Kp xs u p n (j+1) (low+u*(xs (1+j)%4)+(1+u*(xs (1+j)/4%4)))
theorem ZDA{xs:Nat->Int}(hu:0<u):∀(n j:Nat)(low:Int),Good low (Kp xs u p n j low)
 |0,_,_=>trivial
 |n+1,j,low=>by have h1:0<=u*(xs (1+j)%4):=jF (by lia) (by lia);have h2:0<=u*(xs (1+j)/4%4):=jF (by lia) (by lia);exact⟨by show low<=low+_;lia,by show 1<=1+_;lia,ZDA hu n (j+1) _⟩
theorem ZIA{xs:Nat->Int}:∀(n j:Nat)(low:Int),∀s∈Kp xs u vG n j low,s.r=vF
 |0,_,_,s,h=>by cases h
 |n+1,j,low,s,h=>by
  rcases zx.mp h with rfl|h
  ·simp
  ·exact ZIA n (j+1) _ s h
theorem ZFa{xs:Nat->Int}{u:Int}{p:Bool}{G:DH}:∀(n j:Nat)(low:Int)(acc:List Stp)(x y z:Option D),j+n<=3->acc.length+n<=10->∃x' y' z' l',
  Av (gV 5) Oj (Bk j n) [zF (tab 4 xs),zI u,zB p,zR G.length,zI low,x,y,z] (G++[.lst (acc.map Stp.enc)])=
   .nx [zF (tab 4 xs),zI u,zB p,zR G.length,l',x',y',z'] (G++[.lst ((acc++Kp xs u p n j low).map Stp.enc)])
 |0,j,low,acc,x,y,z,h,ha=>⟨x,y,z,zI low,by rw[Lf,Dj];simp[Kp]⟩
 | n+1,j,low,acc,x,y,z,h,ha=>by
  have hj:1+j<4:=by lia
  have a1:atI (tab 4 xs) (1+(j:Int))=zI (xs (1+j)):=Dp (k:=1+j) (by lia) (Ku hj);let s:Stp:=⟨low+u*(xs (1+j)%4),1+u*(xs (1+j)/4%4), !(p&&decide (xs (1+j)/16%2=1))⟩;obtain⟨x',y',z',l',ih⟩:=ZFa (xs:=xs) (u:=u) (p:=p) (G:=G) n (j+1) (s.h+s.m) (acc++[s]) (zI j) (zI s.m) (zS (wy s.r)) (by lia) (by simp;lia);refine⟨x',y',z',l',?_⟩;have m1:∀G,Ax (.int u) (.int (xs (1+j)%4)) G=.ok (.int (u*(xs (1+j)%4))) G:=λG=>Jg (by lia) (by lia)
  have m2:∀G,Ax (.int u) (.int (xs (1+j)/4%4)) G=.ok (.int (u*(xs (1+j)/4%4))) G:=λG=>Jg (by lia) (by lia)
  have hal:acc.length<1000000:=by lia
  have hb:Oj [zF (tab 4 xs),zI u,zB p,zR G.length,zI low,zI j,y,z] (G++[.lst (acc.map Stp.enc)])=
    .nx [zF (tab 4 xs),zI u,zB p,zR G.length,zI (s.h+s.m),zI j,zI s.m,zS (wy s.r)] (G++[.lst ((acc++[s]).map Stp.enc)]):=by
   unfold Oj;cases p with
   |false=>simp[a1,m1,m2,Bu,Dk,hal,An,s,Stp.enc,wy]
   |true=>
    by_cases h16:xs (1+j)/16%2=1
    ·simp[a1,m1,m2,h16,Bu,Dk,hal,An,s,Stp.enc,wy]
    ·simp[a1,m1,m2,h16,Bu,Dk,hal,An,s,Stp.enc,wy]
  rw[Hu,Cg];simp only[Cd,R.Bs,qw,hb,Ce];have e1:((j:Int)+1)=((j+1:Nat):Int):=by lia
  rw[e1,ih];simp[Kp,s]
def stps(xs:Nat->Int)(u:Int)(p:Bool):List Stp:=Kp xs u p (xs 0%4).toNat 0 0
theorem ZGL{xs:Nat->Int}(G:DH):U6 [.fl (tab 4 xs),.int u,.bl p] G=.ok (.tup ((stps xs u p).map Stp.enc)) G:=by
 have hn:(xs 0%4).toNat<=3:=by lia
 obtain⟨x',y',z',l',hL⟩:=ZFa (xs:=xs) (u:=u) (p:=p) (G:=G) (xs 0%4).toNat 0 0 [] vE vE vE (by lia) (by simp;lia);have hL':Av (gV 5) Oj (Bk 0 (xs 0%4).toNat) [zF (tab 4 xs),zI u,zB p,zR G.length,zI 0,vE,vE,vE] (G++[.lst []])=.nx [zF (tab 4 xs),zI u,zB p,zR G.length,l',x',y',z'] (G++[.lst ((stps xs u p).map Stp.enc)]):=hL;have a0:atI (tab 4 xs) 0=zI (xs 0):=Dp (k:=0) rfl (Ku (by lia))
 have hr:inR (xs 0%4):=Fo (by lia) (by lia);unfold U6 ZHW;rw[Ar];simp[Ah,Df,a0,hr,hL',Bu,Hm]
def Cv(st:List Stp):Int:=match st with
 |[]=>0
 |s::r=>(if s.r then 0 else s.m)+Cv r
theorem ZFR{c:D}{G:DH}:∀(st:List Stp)(v:Int)(x y z:Option D),∃x' y' z',Av (Ba 3 (Af (gV 2) (Af (gV 3) (Af (gV 4) Bd)))) Tr (st.map Stp.enc) [vD c,zI v,x,y,z] G=.nx [vD c,zI (v+Cv st),x',y',z'] G
 |[],v,x,y,z=>⟨x,y,z,by simp[Cv,Dj]⟩
 | s::st,v,x,y,z=>by
  let v1:Int:=v+if s.r then 0 else s.m
  obtain⟨x',y',z',ih⟩:=ZFR (c:=c) (G:=G) st v1 (zI s.h) (zI s.m) (zS (wy s.r));refine⟨x',y',z',?_⟩;have hb:Tr [vD c,zI v,zI s.h,zI s.m,zS (wy s.r)] G=.nx [vD c,zI v1,zI s.h,zI s.m,zS (wy s.r)] G:=by
   unfold Tr
   cases e:s.r<;>simp[v1,e]
  rw[zE,Cg];simp[Stp.enc,hb];rw[ih];simp[Cv,v1,Int.add_assoc]
theorem ZRn(G:DH):U5 [.tup (st.map Stp.enc)] G=.ok (.int (Cv st)) G:=by obtain⟨x',y',z',hL⟩:=ZFR (c:=.tup (st.map Stp.enc)) (G:=G) st 0 vE vE vE;unfold U5 ZCY;rw[Ar];simp at hL;simp[hL,Bo]
theorem ZJ1(hf:∀k:Nat,k<=1000->∀G,Aq [.fl (ns.map D.int),.int k] G=.ok (.int (f k)) G):∃y:Int,(1<=y/\y<=24)/\∀G,Hk [.fl (ns.map D.int)] G=.ok (.int y) G:=by have h1:∀G,Aq [.fl (ns.map D.int),.int 1] G=.ok (.int (f 1)) G:=hf 1 (by lia);refine⟨1+f 1%4,by lia,λG=>?_⟩;unfold Hk ZDR;rw[Ar];simp[h1,Bo]
def Dr(lat:Nat->Int)(cel:Nat->Nat->Int)(u:Int)(p:Bool)(yr:Int):Nat->Nat->Int->List Ssn
 |0,_,_=>[]
 |m+1,j,bg=>if j=0∨(lat j%2=1/\bg+1<yr)then(if 0<j then bg+1+lat j/2%(yr-bg-1)else bg,stps (cel j) u p)::Dr lat cel u p yr m (j+1) (if 0<j then bg+1+lat j/2%(yr-bg-1)else bg)
  else Dr lat cel u p yr m (j+1) bg
theorem ZAy{lat:Nat->Int}{cel:Nat->Nat->Int}(hu:0<u):∀(m j:Nat)(bg:Int),∀s∈Dr lat cel u p yr m j bg,Good 0 s.2/\(p=vG->∀t∈s.2,t.r=vF)
 |0,_,_,s,h=>by cases h
 | m+1,j,bg,s,h=>by
  unfold Dr at h;split at h
  ·rcases zx.mp h with rfl|h
   ·refine⟨ZDA hu _ _ _,λhp=>?_⟩;subst hp;exact ZIA _ _ _
   ·exact ZAy hu m (j+1) _ s h
  ·exact ZAy hu m (j+1) _ s h
theorem Sx{lat:Nat->Int}{cel:Nat->Nat->Int}{u:Int}{p:Bool}{yr:Int}:∀(m j:Nat)(bg:Int),0<j->bg<yr->(∀s∈Dr lat cel u p yr m j bg,bg<s.1/\s.1<yr)/\(Dr lat cel u p yr m j bg).Pairwise (λa b:Ssn=>a.1<b.1)
 |0,_,_,_,_=>⟨λs h=>(nomatch h),List.Pairwise.nil⟩
 | m+1,j,bg,hj,hb=>by
  unfold Dr;split
  ·rename_i hc;have hc2:bg+1<yr:=by
    rcases hc with z|z
    ·lia
    ·exact z.2
   have h1:0<=lat j/2%(yr-bg-1):=jA _ (by lia);have h2:lat j/2%(yr-bg-1)<yr-bg-1:=jD _ (by lia);obtain⟨i1,i2⟩:=Sx (lat:=lat) (cel:=cel) (u:=u) (p:=p) (yr:=yr) m (j+1) (bg+1+lat j/2%(yr-bg-1)) (by lia) (by lia);refine⟨λs hs=>?_,List.pairwise_cons.mpr ⟨λs hs=>(i1 s hs).1,i2⟩⟩;rcases zx.mp hs with rfl|hs
   ·exact⟨by show bg<bg+1+_;lia,by show bg+1+_<yr;lia⟩
   ·have:=i1 s hs;lia
  ·exact Sx m (j+1) bg (by lia) hb
theorem T4{te:DE}{n:Nat}{F:Nat->D}(h:∀k:Nat,k<n->te (S.set 0 (zI k)) G=.ok (F k) G):Cu (gV 0) Bh te S (Bk 0 n) G=.ok ((zV n).map F) G:=by
 have e:Bk 0 n=(zV n).map λ(i:Nat)=>D.int (i:Int):=by
  refine j4 λi=>?_
  simp[Bk]
 rw[Qj (F:=λd=>match d with | .int i=>vD (F i.toNat)|_=>vE) (λq hq=>?_)]
 ·congr 1
  rw[e,qq];show(zV n).filterMap (λ(i:Nat)=>vD (F ((i:Int).toNat)))=_;rw[qB];simp
 ·rw[e]at hq;obtain⟨i,hi,rfl⟩:=zD.mp hq;exact⟨S.set 0 (zI i),by simp,.inr ⟨rfl,F i,h i (q8.mp hi),by simp⟩⟩
noncomputable def Lx:Nat->Int
 |0=>1
 |1=>48
 |2=>2304
 |_=>110592
noncomputable def Q6:Nat->Int
 |0=>1
 |1=>64
 |2=>4096
 |_=>262144
theorem ZG8(hf:∀k:Nat,k<=1000->∀G,Aq [.fl (ns.map D.int),.int k] G=.ok (.int (f k)) G)(hb:b<=900)(hj:j<4)(G:DH):
  Cu (gV 0) Bh Vo [vE,zF (ns.map D.int),zI b,zI j] (Bk 0 4) G=.ok (tab 4 λk=>f (b+5+(3*j+k)%6)/(1+7*((j:Int)/2))) G:=
 T4 (n:=4) (F:=λk=>.int (f (b+5+(3*j+k)%6)/(1+7*((j:Int)/2)))) λk hk=>by
  have h1:=hf (b+5+(3*j+k)%6) (by lia) G;have e1:((b+5+(3*j+k)%6:Nat):Int)=(b:Int)+5+(3*(j:Int)+k)%6:=by lia
  rw[e1]at h1;unfold Vo
  rcases(by lia:j=0∨j=1∨j=2∨j=3)with rfl|rfl|rfl|rfl<;>simp at h1⊢<;> simp[h1]
theorem ZLt(hf:∀k:Nat,k<=1000->∀G,Aq [.fl (ns.map D.int),.int k] G=.ok (.int (f k)) G)(hb:b<=900)(hj:j<4)(G:DH):
  Cu (gV 0) Bh Z8 [vE,zF (ns.map D.int),zI b,zI j] (Bk 0 4) G=.ok (tab 4 λk=>f (b+5+k)/Q6 j) G:=
 T4 (n:=4) (F:=λk=>.int (f (b+5+k)/Q6 j)) λk hk=>by
  have h1:=hf (b+5+k) (by lia) G;have e1:((b+5+k:Nat):Int)=(b:Int)+5+k:=by lia
  rw[e1]at h1;have fz:freeze G (.ok (.ref G.length) (G++[.lst [.int 1,.int 64,.int 4096,.int 262144]]))=.ok (.fl [.int 1,.int 64,.int 4096,.int 262144]) G:=Du rfl;unfold Z8
  rcases(by lia:j=0∨j=1∨j=2∨j=3)with rfl|rfl|rfl|rfl<;>simp[h1,Ah,fz,Q6]
theorem ZL8(hf:∀k:Nat,k<=1000->∀G,Aq [.fl (ns.map D.int),.int k] G=.ok (.int (f k)) G)(hb:b<=900)(hj:j<4):∃(lat:Int)(xs:Nat->Int),∀(G:DH)(bg:Int)(acc:List Ssn)(x y:Option D),acc.length<=10->bg<yr->∃bg' acc',
   Iu [zF (ns.map D.int),zI b,zI u,zB p,zI yr,zR G.length,zI bg,zI j,x,y] (G++[.lst (acc.map Be)])=
    .nx [zF (ns.map D.int),zI b,zI u,zB p,zI yr,zR G.length,zI bg',zI j,zI lat,zF (tab 4 xs)] (G++[.lst (acc'.map Be)])/\
   ((j=0∨(lat%2=1/\bg+1<yr))->bg'=(if 0<j then bg+1+lat/2%(yr-bg-1)else bg)/\acc'=acc++[(bg',stps xs u p)])/\
   (¬(j=0∨(lat%2=1/\bg+1<yr))->bg'=bg/\acc'=acc):=by
 obtain⟨tp,ht⟩:=ZHs (ns:=ns);have h4:=hf (b+4) (by lia);have e4:((b+4:Nat):Int)=(b:Int)+4:=by lia
 rw[e4]at h4;let lat:Int:=if tp then f (b+4)/Lx j else f (b+4)*48271*((j:Int)*j+1)%10007
 let xs:Nat->Int:=if tp then λk=>f (b+5+k)/Q6 j else λk=>f (b+5+(3*j+k)%6)/(1+7*((j:Int)/2))
 refine⟨lat,xs,λG bg acc x y ha hbg=>?_⟩;have hr:inR 4:=Fo (by lia) (by lia);have hal:acc.length<1000000:=by lia
 have fz:∀ds:List D,(∀m,bels m ds=vF)->freeze (G++[.lst (acc.map Be)]) (.ok (.ref (G.length+1)) (G++[.lst (acc.map Be),.lst ds]))=.ok (.fl ds) (G++[.lst (acc.map Be)]):=λds h=>ZHC (h _)
 have cs1:∀a b c d e f' g h i j':Option D,Ay 1 [0,1,7] [a,b,c,d,e,f',g,h,i,j']=[vE,a,b,h]:=λ_ _ _ _ _ _ _ _ _ _=>rfl
 have mj:∀G,Ax (.int (j:Int)) (.int (j:Int)) G=.ok (.int ((j:Int)*j)) G:=λG=>Hv (by lia) (by lia)
 have mj2:∀G,Ax (.int (f (b+4)*48271)) (.int ((j:Int)*j+1)) G=.ok (.int (f (b+4)*48271*((j:Int)*j+1))) G:=λG=>Jg (by
   have:=jF (show(0:Int)<=j by lia) (show(0:Int)<=j by lia);lia) (by
   rcases(by lia:j=0∨j=1∨j=2∨j=3)with rfl|rfl|rfl|rfl<;>decide)
 have head:Iu [zF (ns.map D.int),zI b,zI u,zB p,zI yr,zR G.length,zI bg,zI j,x,y] (G++[.lst (acc.map Be)])=
   Sw [zF (ns.map D.int),zI b,zI u,zB p,zI yr,zR G.length,zI bg,zI j,zI lat,zF (tab 4 xs)] (G++[.lst (acc.map Be)]):=by
  unfold Iu ZEh ZFr;cases htp:tp with
  |false=>
   have e1:lat=f (b+4)*48271*((j:Int)*j+1)%10007:=by simp[lat,htp]
   have e2:xs=λk=>f (b+5+(3*j+k)%6)/(1+7*((j:Int)/2)):=by simp[xs,htp]
   rw[e1,e2];rw[htp]at ht;simp[h4,mj,mj2,hr,cs1,ZG8 hf hb hj,Ah,fz,ht]
  |true=>
   have e1:lat=f (b+4)/Lx j:=by simp[lat,htp]
   have e2:xs=λk=>f (b+5+k)/Q6 j:=by simp[xs,htp]
   rw[e1,e2];rw[htp]at ht;have dv:atI [D.int 1,D.int 48,D.int 2304,D.int 110592] (j:Int)=zI (Lx j):=by rcases(by lia:j=0∨j=1∨j=2∨j=3)with rfl|rfl|rfl|rfl<;>rfl
   have dd:∀G',Bx (.int (f (b+4))) (.int (Lx j)) G'=.ok (.int (f (b+4)/Lx j)) G':=λG'=>by rcases(by lia:j=0∨j=1∨j=2∨j=3)with rfl|rfl|rfl|rfl<;>simp[Lx]
   have fz4:freeze (G++[.lst (acc.map Be)]) (.ok (.ref (G.length+1)) (G++[.lst (acc.map Be),.lst [D.int 1,D.int 48,D.int 2304,D.int 110592]]))=.ok (.fl [D.int 1,D.int 48,D.int 2304,D.int 110592]) (G++[.lst (acc.map Be)]):=ZHC rfl;simp[h4,mj,mj2,hr,cs1,ZG8 hf hb hj,Ah,fz,ht,fz4,dv,dd,ZLt hf hb hj]
 rw[head]
 clear_value lat xs
 by_cases hc:j=0∨(lat%2=1/\bg+1<yr)
 ·refine⟨_,_,?_,λ_=>⟨rfl,rfl⟩,λz=>absurd hc z⟩;unfold Sw;by_cases h0:j=0
  ·subst h0;simp[ZGL,An,Bu,Dk,hal,Be]
  ·have hc2:lat%2=1/\bg+1<yr:=by
    rcases hc with z|z
    ·exact absurd z h0
    ·exact z
   have hj0:0<j:=by lia
   have hp:0<yr-bg-1:=by lia
   have hp3:1<yr-bg:=by lia
   simp[h0,hc2.1,hc2.2,hj0,hp3,ZGL,An,Bu,Dk,hal,Be]
 ·refine⟨bg,acc,?_,λz=>absurd z hc,λ_=>⟨rfl,rfl⟩⟩;have h0:¬j=0:=λz=>hc (.inl z)
  unfold Sw;by_cases h1:lat%2=1
  ·have h2:¬bg+1<yr:=λz=>hc (.inr ⟨h1,z⟩)
   simp[h0,h1,h2]
  ·simp[h0,h1]
theorem ZA0{lat:Nat->Int}{cel:Nat->Nat->Int}
  (hd:∀j:Nat,j<4->∀(G:DH)(bg:Int)(acc:List Ssn)(x y:Option D),acc.length<=10->bg<yr->∃bg' acc',
   Iu [zF (ns.map D.int),zI b,zI u,zB p,zI yr,zR G.length,zI bg,zI j,x,y] (G++[.lst (acc.map Be)])=
    .nx [zF (ns.map D.int),zI b,zI u,zB p,zI yr,zR G.length,zI bg',zI j,zI (lat j),zF (tab 4 (cel j))] (G++[.lst (acc'.map Be)])/\
   ((j=0∨(lat j%2=1/\bg+1<yr))->bg'=(if 0<j then bg+1+lat j/2%(yr-bg-1)else bg)/\acc'=acc++[(bg',stps (cel j) u p)])/\
   (¬(j=0∨(lat j%2=1/\bg+1<yr))->bg'=bg/\acc'=acc)) {G:DH}:∀(m j:Nat)(bg:Int)(acc:List Ssn)(x y z:Option D),j+m=4->acc.length<=j->bg<yr->∃x' y' z' w',
   Av (gV 7) Iu (Bk j m) [zF (ns.map D.int),zI b,zI u,zB p,zI yr,zR G.length,zI bg,x,y,z] (G++[.lst (acc.map Be)])=
    .nx [zF (ns.map D.int),zI b,zI u,zB p,zI yr,zR G.length,x',y',z',w'] (G++[.lst ((acc++Dr lat cel u p yr m j bg).map Be)])
 |0,j,bg,acc,x,y,z,e,ha,hb=>⟨zI bg,x,y,z,by rw[Lf,Dj];simp[Dr]⟩
 | m + 1,j,bg,acc,x,y,z,e,ha,hb=>by
  obtain⟨bg',acc',h1,h2,h3⟩:=hd j (by lia) G bg acc y z (by lia) hb;have e1:((j:Int)+1)=((j+1:Nat):Int):=by lia
  by_cases hc:j=0∨(lat j%2=1/\bg+1<yr)
  ·obtain⟨r1,r2⟩:=h2 hc;have hbg:bg'<yr:=by
    rw[r1];split
    ·have h4:bg+1<yr:=by
      rcases hc with z|z
      ·lia
      ·exact z.2
     have h5:lat j/2%(yr-bg-1)<yr-bg-1:=jD _ (by lia);lia
    ·exact hb
   obtain⟨x',y',z',w',ih⟩:=ZA0 hd (G:=G) m (j+1) bg' acc' (zI j) (zI (lat j)) (zF (tab 4 (cel j))) (by lia) (by rw[r2];simp;lia) hbg;refine⟨x',y',z',w',?_⟩;rw[Hu,Cg];simp only[Cd,R.Bs,qw,h1,Ce];have er:Dr lat cel u p yr (m+1) j bg=(bg',stps (cel j) u p)::Dr lat cel u p yr m (j+1) bg':=by rw[r1];exact if_pos hc
   rw[e1,ih,r2,er];simp
  ·obtain⟨r1,r2⟩:=h3 hc;obtain⟨x',y',z',w',ih⟩:=ZA0 hd (G:=G) m (j+1) bg' acc' (zI j) (zI (lat j)) (zF (tab 4 (cel j))) (by lia) (by rw[r2];lia) (by rw[r1];exact hb);refine⟨x',y',z',w',?_⟩;rw[Hu,Cg];simp only[Cd,R.Bs,qw,h1,Ce];rw[e1,ih,r2,r1]
   conv=>rhs;unfold Dr
   rw[if_neg hc]
structure RuleOk (yr:Int) (p:Bool) (r:List Ssn):Prop where
 good:∀s∈r,Good 0 s.2/\(p=vG->∀t∈s.2,t.r=vF)
 cons:∃st rest,r=(0,st)::rest
 asc:r.Pairwise (λa b:Ssn=>a.1<b.1)
 yr:∀s∈r,0<=s.1/\s.1<yr
 len:r.length<=4
theorem ZAu{lat:Nat->Int}{cel:Nat->Nat->Int}{u:Int}{p:Bool}{yr:Int}:∀(m j:Nat)(bg:Int),(Dr lat cel u p yr m j bg).length<=m
 |0,_,_=>zY _
 |m+1,j,bg=>by
  unfold Dr;split
  ·have:=ZAu (lat:=lat) (cel:=cel) (u:=u) (p:=p) (yr:=yr) m (j+1) (if 0<j then bg+1+lat j/2%(yr-bg-1)else bg);simp only[qV];lia
  ·have:=ZAu (lat:=lat) (cel:=cel) (u:=u) (p:=p) (yr:=yr) m (j+1) bg;lia
theorem ZGs(hf:∀k:Nat,k<=1000->∀G,Aq [.fl (ns.map D.int),.int k] G=.ok (.int (f k)) G)(hyr:1<=yr/\yr<=24)(cy:∀G,Hk [.fl (ns.map D.int)] G=.ok (.int yr) G)(hb:b<=900)(hu:0<u):
  ∃r:List Ssn,RuleOk yr p r/\∀G,S8 [.fl (ns.map D.int),.int b,.int u,.bl p] G=.ok (.tup (r.map Be)) G:=by
 have ex:∀j:Nat,∃q:Int×(Nat->Int),j<4->∀(G:DH)(bg:Int)(acc:List Ssn)(x y:Option D),acc.length<=10->bg<yr->∃bg' acc',
   Iu [zF (ns.map D.int),zI b,zI u,zB p,zI yr,zR G.length,zI bg,zI j,x,y] (G++[.lst (acc.map Be)])=
    .nx [zF (ns.map D.int),zI b,zI u,zB p,zI yr,zR G.length,zI bg',zI j,zI q.1,zF (tab 4 q.2)] (G++[.lst (acc'.map Be)])/\
   ((j=0∨(q.1%2=1/\bg+1<yr))->bg'=(if 0<j then bg+1+q.1/2%(yr-bg-1)else bg)/\acc'=acc++[(bg',stps q.2 u p)])/\
   (¬(j=0∨(q.1%2=1/\bg+1<yr))->bg'=bg/\acc'=acc):=λj=>by
  by_cases hj:j<4
  ·obtain⟨lat,xs,h⟩:=ZL8 (u:=u) (yr:=yr) (p:=p) hf hb hj;exact⟨(lat,xs),λ_=>h⟩
  ·exact⟨(0,λ_=>0),λz=>absurd z hj⟩
 let lat:Nat->Int:=λj=>(ex j).choose.1
 let cel:Nat->Nat->Int:=λj=>(ex j).choose.2
 have hd:=λ(j:Nat)(hj:j<4)=>(ex j).choose_spec hj
 refine⟨Dr lat cel u p yr 4 0 0,⟨ZAy hu 4 0 0,?_,?_,?_,ZAu 4 0 0⟩,λG=>?_⟩
 ·unfold Dr;rw[if_pos (.inl rfl)];exact⟨_,_,rfl⟩
 ·unfold Dr;rw[if_pos (.inl rfl)];obtain⟨i1,i2⟩:=Sx (lat:=lat) (cel:=cel) (u:=u) (p:=p) (yr:=yr) 3 1 0 (by lia) (by lia);exact List.pairwise_cons.mpr ⟨λs hs=>(i1 s hs).1,i2⟩
 ·unfold Dr;rw[if_pos (.inl rfl)];obtain⟨i1,i2⟩:=Sx (lat:=lat) (cel:=cel) (u:=u) (p:=p) (yr:=yr) 3 1 0 (by lia) (by lia);intro s hs;rcases zx.mp hs with rfl|hs
  ·exact⟨qO _,by show(0:Int)<yr;lia⟩
  ·have:=i1 s hs;lia
 ·obtain⟨x',y',z',w',hL⟩:=ZA0 (lat:=lat) (cel:=cel) hd (G:=G) 4 0 0 [] vE vE vE (by lia) (by simp) (by lia);have hL':Av (gV 7) Iu (Bk 0 4) [zF (ns.map D.int),zI b,zI u,zB p,zI yr,zR G.length,zI 0,vE,vE,vE] (G++[.lst []])=.nx [zF (ns.map D.int),zI b,zI u,zB p,zI yr,zR G.length,x',y',z',w'] (G++[.lst ((Dr lat cel u p yr 4 0 0).map Be)]):=hL;have hr:inR 4:=Fo (by lia) (by lia);generalize Dr lat cel u p yr 4 0 0=rl at hL'
  unfold S8 ZFC;rw[Ar];simp[cy,Ah,Df,hr,hL',Bu,Hm]
noncomputable def ZAC:List Nat:=("abcdefghijklmnopqrstuvwxyz":Str).cps.toList
noncomputable def X3:List Nat:=("abcdefghijkl":Str).cps.toList
theorem ZLy:∀i,i<26->ZAC[i]?=vD (97+i):=by decide +kernel
theorem ZKT:∀i,i<12->X3[i]?=vD (97+i):=by decide +kernel
noncomputable def Cr(l:List Nat):Str:=⟨l.toArray⟩
theorem ZDO{l l':List Nat}(h:Cr l=Cr l'):l=l':=by have h1:=congrArg (λs:Str=>s.cps.toList) h;simpa[Cr]using h1
theorem ZNJ{l l':List Nat}:Cr l++Cr l'=Cr (l++l'):=by show Str.append _ _=_;unfold Str.append Cr;simp
theorem ZHJ{s:Str}{l:List Nat}(h:s.cps.toList=l):s=Cr l:=by obtain⟨a⟩:=s;unfold Cr;simp only at h;rw[<-h]
theorem ZKM{o:Nat}{n:Int}:Jz ⟨#[o]⟩ n=Cr (zX n.toNat o):=by
 refine ZHJ ?_;rw[ZNw];show(zX n.toNat [o]).flatten=_;generalize n.toNat=m
 induction m with
 |zero=>rfl
 |succ m ih=>rw[qX,qH,ih,qX];rfl
noncomputable def ocF(c:Int):Nat:=97+(c/21%26).toNat
noncomputable def tcF(c:Int)(k:Nat):Nat:=97+((5*(k:Int)+c/546)%12).toNat
def Em(c:Int)(n k:Nat):List Nat:=if c%3=1/\n<9 then zX (k+1) (ocF c)else if c%3=2 then tcF c k::zX (c/3%7).toNat (ocF c)else zX (c/3%7).toNat (ocF c)++tcF c k::zX (6-(c/3%7)).toNat (ocF c)
theorem ZR3{n:Nat}(hn:n<=12)(hk:k<n)(G:DH):Uz [.int c,.int k,.int n] G=.ok (.str (Cr (Em c n k))) G:=by
 have a1:atI ZAC (c/21%26)=vD (ocF c):=Dp (k:=(c/21%26).toNat) (by lia) (ZLy _ (by lia));have a2:atI X3 ((5*(k:Int)+c/546)%12)=vD (tcF c k):=Dp (k:=((5*(k:Int)+c/546)%12).toNat) (by lia) (ZKT _ (by lia));have l1:("abcdefghijklmnopqrstuvwxyz":Str).length<=1000000:=by decide +kernel
 have l2:("abcdefghijkl":Str).length<=1000000:=by decide +kernel
 have ho:∀m:Int,-1000<=m->m<=1000->∀G,Ax (.str ⟨#[ocF c]⟩) (.int m) G=.ok (.str (Cr (zX m.toNat (ocF c)))) G:=λm h1 h2 G=>by rw[ZP0 ⟨h1,h2,by show(#[ocF c]).size<=1000;simp⟩,ZKM]
 have e1:∀G,Ae (.str ("abcdefghijklmnopqrstuvwxyz":Str)) (.int (c/21%26)) G=R.ok (.str ⟨#[ocF c]⟩) G:=λG=>by
  rw[Mi,if_pos l1]
  show(match atI ZAC (c/21%26)with |some c=>R.ok (sgn c) G|none=>.bad)=_
  rw[a1]
  rfl
 have e2:∀G,Ae (.str ("abcdefghijkl":Str)) (.int ((5*(k:Int)+c/546)%12)) G=R.ok (.str (Cr [tcF c k])) G:=λG=>by
  rw[Mi,if_pos l2]
  show(match atI X3 ((5*(k:Int)+c/546)%12)with |some c=>R.ok (sgn c) G|none=>.bad)=_
  rw[a2]
  rfl
 have hadd:∀(l l':List Nat)(G:DH),l.length+l'.length<=1000000->Aj (.str (Cr l)) (.str (Cr l')) G=.ok (.str (Cr (l++l'))) G:=λl l' G h=>by
  have e:Aj (.str (Cr l)) (.str (Cr l')) G=if(Cr l).length+(Cr l').length<=1000000 then .ok (.str (Cr l++Cr l')) G else .bad:=rfl
  rw[e,if_pos (by show l.toArray.size+l'.toArray.size<=1000000;simpa using h),ZNJ]
 unfold Uz ZCH;rw[Ar];by_cases h1:c%3=1
 ·by_cases h9:n<9
  ·have en:Em c n k=zX (k+1) (ocF c):=if_pos ⟨h1,h9⟩;have hk2:=ho ((k:Int)+1) (by lia) (by lia);have ek:((k:Int)+1).toNat=k+1:=by lia
   rw[ek]at hk2;rw[en];have h9':(n:Int)<9:=by lia
   simp[-Mi,e1,h1,h9',hk2,Bo]
  ·have en:Em c n k=zX (c/3%7).toNat (ocF c)++tcF c k::zX (6-(c/3%7)).toNat (ocF c):=by unfold Em;rw[if_neg (λz=>h9 z.2),if_neg (by lia)]
   have r1:=ho (c/3%7) (by lia) (by lia);have r2:=ho (6-(c/3%7)) (by lia) (by lia);have d1:=λG=>hadd (zX (c/3%7).toNat (ocF c)) [tcF c k] G (by simp;lia)
   have d2:=λG=>hadd (zX (c/3%7).toNat (ocF c)++[tcF c k]) (zX (6-(c/3%7)).toNat (ocF c)) G (by simp;lia)
   have ea:zX (c/3%7).toNat (ocF c)++[tcF c k]++zX (6-(c/3%7)).toNat (ocF c)=Em c n k:=by rw[en];simp
   rw[ea]at d2;have h9':¬(n:Int)<9:=by lia
   simp[-Mi,e1,e2,h1,h9',r1,r2,d1,d2,Bo]
 ·by_cases h2:c%3=2
  ·have en:Em c n k=tcF c k::zX (c/3%7).toNat (ocF c):=by unfold Em;rw[if_neg (λz=>h1 z.1),if_pos h2]
   have r1:=ho (c/3%7) (by lia) (by lia);have d1:=λG=>hadd [tcF c k] (zX (c/3%7).toNat (ocF c)) G (by simp;lia)
   have ea: [tcF c k]++zX (c/3%7).toNat (ocF c)=Em c n k:=by rw[en];rfl
   rw[ea]at d1;simp[-Mi,e1,e2,h2,r1,d1,Bo]
  ·have en:Em c n k=zX (c/3%7).toNat (ocF c)++tcF c k::zX (6-(c/3%7)).toNat (ocF c):=by unfold Em;rw[if_neg (λz=>h1 z.1),if_neg h2]
   have r1:=ho (c/3%7) (by lia) (by lia);have r2:=ho (6-(c/3%7)) (by lia) (by lia);have d1:=λG=>hadd (zX (c/3%7).toNat (ocF c)) [tcF c k] G (by simp;lia)
   have d2:=λG=>hadd (zX (c/3%7).toNat (ocF c)++[tcF c k]) (zX (6-(c/3%7)).toNat (ocF c)) G (by simp;lia)
   have ea:zX (c/3%7).toNat (ocF c)++[tcF c k]++zX (6-(c/3%7)).toNat (ocF c)=Em c n k:=by rw[en];simp
   rw[ea]at d2;simp[-Mi,e1,e2,h1,h2,r1,r2,d1,d2,Bo]
theorem ZFK{k':Nat}(hk:k<12)(hk':k'<12)(h:tcF c k=tcF c k'):k=k':=by unfold tcF at h;omega +splitNatSub
theorem ZLQ{n k':Nat}(hn:n<=12)(hk:k<n)(hk':k'<n)(h:Em c n k=Em c n k'):k=k':=by
 unfold Em at h;split at h
 ·have:=congrArg List.length h;simp at this;exact this
 ·split at h
  ·exact ZFK (by lia) (by lia) (List.cons.inj h).1
  ·have:=List.append_cancel_left h;exact ZFK (by lia) (by lia) (List.cons.inj this).1
theorem ZPW:("sea":Str)=Cr [115,101,97]:=by decide +kernel
theorem ZP1{n:Nat}:Cr (Em c n k)≠"sea":=λh=>by
 rw[ZPW]at h;have h:=ZDO h;unfold Em at h;split at h
 ·have h1:∀x∈[115,101,97],x=ocF c:=λx hx=>by rw[<-h]at hx;exact List.eq_of_mem_replicate hx
  have a:=h1 115 (by simp);have b:=h1 101 (by simp);lia
 ·split at h
  ·have:=(List.cons.inj h).1;unfold tcF at this;lia
  ·have:=congrArg List.length h;simp at this;lia
theorem Nm{te:DE}{S:DSt}{E:α->D}{F:α->D}{G:DH}:∀{l:List α},(∀a∈l,te (S.set 0 (vD (E a))) G=.ok (F a) G)->Cu (gV 0) Bh te S (l.map E) G=.ok (l.map F) G
 |[],_=>rfl
 |a::l,h=>by
  have h1:=h a (by simp);have ih:=Nm (te:=te) (S:=S) (E:=E) (F:=F) (G:=G) (l:=l) λb hb=>h b (zJ _ hb)
  rw[zE,V1];simp[h1,ih]
def Az(nm:Nat->Str)(n:Nat):List D:=(zV n).map λk=>.str (nm k)
theorem Ry{n:Nat}(h:k<n):atI (Az nm n) (k:Int)=zS (nm k):=Dp rfl (by simp[Az,h])
theorem Tn{n:Nat}:(Az nm n).length=n:=by simp[Az]
@[simp]theorem ZNX{n:Nat}:bels m (Az nm n)=vF:=Dt λ_ _=>rfl
noncomputable def Fv(nm:Nat->Str):Option (Nat×Nat×Int)->D
 |none=>.non
 |some (to,dl,m)=>.tup [.str (nm to),.int dl,.int m]
@[simp]theorem ZSn{q:Option (Nat×Nat×Int)}:bel m (Fv nm q)=vF:=by
 cases q with
 |none=>rfl
 |some q=>obtain⟨a,b,c⟩:=q;simp[Fv]
theorem ZKO(hf:∀k:Nat,k<=1000->∀G,Aq [.fl (ns.map D.int),.int k] G=.ok (.int (f k)) G)(hyr:1<=yr/\yr<=24)(cy:∀G,Hk [.fl (ns.map D.int)] G=.ok (.int yr) G)(hu:0<u)(cu:∀G,Es [.fl (ns.map D.int)] G=.ok (.int u) G){n:Nat}(hb:b<=900)(hk:k<n)(hn:n<=12){d:Str}{dl:Int}:
  ∃(r:List Ssn)(q:Option (Nat×Nat×Int)),RuleOk yr q.isSome r/\(∀to dl m,q=vD (to,dl,m)->to<n/\1<=dl/\dl<=5)/\
   ∀G,Oz [.fl (ns.map D.int),.int b,.int k,.fl (Az nm n),.tup [.str d,.int dl]] G=.ok (.tup [.str "basin",.str (nm k),.str d,.int dl,.int (amt (f (b+3)) u),.tup (r.map Be),Fv nm q]) G:=by
 have h11:∀G,Aq [.fl (ns.map D.int),.int ((b:Int)+11)] G=.ok (.int (f (b+11))) G:=λG=>by have:=hf (b+11) (by lia) G;rwa[show((b+11:Nat):Int)=(b:Int)+11 by lia]at this
 have h3:∀G,Aq [.fl (ns.map D.int),.int ((b:Int)+3)] G=.ok (.int (f (b+3))) G:=λG=>by have:=hf (b+3) (by lia) G;rwa[show((b+3:Nat):Int)=(b:Int)+3 by lia]at this
 have ak:atI (Az nm n) (k:Int)=zS (nm k):=Ry hk;have fu:∀G,freeze G (.ok (.int u) G)=.ok (.int u) G:=λG=>I8 rfl
 generalize f (b+11)=c at h11;have pre:∀G,ZAE [zF (ns.map D.int),zI b,zI k,zF (Az nm n),zT [.str d,.int dl],vE,vE,vE,vE,vE,vE,vE,vE] G=
   Kz [zF (ns.map D.int),zI b,zI k,zF (Az nm n),zT [.str d,.int dl],zI u,zI c,zB (decide (1<n/\c%2=1)),vE,vE,vE,vE,vE] G:=λG=>by
  have t:∀S:DSt,S[3]?=vD (zF (Az nm n))->S[6]?=vD (zI c)->Gd (dOp Gf (dFn Bp (Aa (dV 3) Ac)) (dC (.int 1))) (dOp Bf (dOp Aw (dV 6) (dC (.int 2))) (dC (.int 1))) S G=.ok (.bl (decide (1<n/\c%2=1))) G:=λS h1 h2=>by
   by_cases hn1:1<n
   ·have hn1':(1:Int)<n:=by lia
    simp[dV,h1,h2,Tn,hn1,hn1']
   ·have hn1':¬(1:Int)<n:=by lia
    simp[dV,h1,h2,Tn,hn1,hn1']
  unfold ZAE ZDm ZHl;generalize Gd (dOp Gf (dFn Bp (Aa (dV 3) Ac)) (dC (.int 1))) (dOp Bf (dOp Aw (dV 6) (dC (.int 2))) (dC (.int 1)))=te at t;generalize Az nm n=NM at t;simp[cu,fu,h11,t]
 have fin:∀(r:List Ssn)(q:Option (Nat×Nat×Int))(s6 s7 x10 x11:Option D)(G:DH),K3 [zF (ns.map D.int),zI b,zI k,zF (Az nm n),zT [.str d,.int dl],zI u,s6,s7,zT (r.map Be),vD (Fv nm q),x10,x11,vE] G=.rt (.tup [.str "basin",.str (nm k),.str d,.int dl,.int (amt (f (b+3)) u),.tup (r.map Be),Fv nm q]) G:=λr q s6 s7 x10 x11 G=>by generalize r.map Be=RR;generalize Fv nm q=PQ;generalize Az nm n=NM at ak;unfold K3 ZFQ;simp[h3,O7 hu,ak,An]
 have cl:∀G,Oz [.fl (ns.map D.int),.int b,.int k,.fl (Az nm n),.tup [.str d,.int dl]] G=tidy G ((Kz [zF (ns.map D.int),zI b,zI k,zF (Az nm n),zT [.str d,.int dl],zI u,zI c,zB (decide (1<n/\c%2=1)),vE,vE,vE,vE,vE] G).ret):=λG=>by
  rw[<-pre];unfold Oz;rw[Ar]
  rfl
 have td:∀(r:List Ssn)(q:Option (Nat×Nat×Int))(G:DH),tidy G ((SR.rt (.tup [.str "basin",.str (nm k),.str d,.int dl,.int (amt (f (b+3)) u),.tup (r.map Be),Fv nm q]) G).ret)=.ok (.tup [.str "basin",.str (nm k),.str d,.int dl,.int (amt (f (b+3)) u),.tup (r.map Be),Fv nm q]) G:=λr q G=>by simp[Bo]
 by_cases hp:1<n/\c%2=1
 ·obtain⟨r,hr,cr⟩:=ZGs (ns:=ns) (f:=f) hf hyr cy hb hu (p:=vF);obtain⟨st,rest,er⟩:=hr.cons;have hx0:0<=c/2%((n:Int)-1):=jA _ (by lia);have ht0:0<=((k:Int)+1+c/2%((n:Int)-1))%n:=jA _ (by lia);have ht1:((k:Int)+1+c/2%((n:Int)-1))%n<n:=jD _ (by lia);generalize ht:((k:Int)+1+c/2%((n:Int)-1))%n=t at ht0 ht1;have at_:atI (Az nm n) t=zS (nm t.toNat):=by have:=Ry (nm:=nm) (n:=n) (k:=t.toNat) (by lia);rwa[show((t.toNat:Nat):Int)=t by lia]at this
  have mx:∀G,Kh [.fl (r.map λs=>.int (Cv s.2))] G=.ok (.int ((rest.map λs=>Cv s.2).foldl max (Cv st))) G:=λG=>ZK4 (by rw[er];simp[Bc])
  have m2:∀G,Ax (.int u) (.int (c/130%2)) G=.ok (.int (u*(c/130%2))) G:=λG=>Jg (by lia) (by lia)
  have cp:∀(G:DH),Cu (gV 0) Bh Z3 [vE] (r.map Be) G=.ok (r.map λs=>.int (Cv s.2)) G:=λG=>Nm λs _=>by unfold Z3;simp[Be,ZRn]
  have fz:∀G:DH,freeze G (.ok (.ref G.length) (G++[.lst (r.map λs=>.int (Cv s.2))]))=.ok (.fl (r.map λs=>.int (Cv s.2))) G:=λG=>Du (Dt λ_ _=>rfl)
  have hd:((1+c/26%5).toNat:Int)=1+c/26%5:=by lia
  refine⟨r,vD (t.toNat,(1+c/26%5).toNat,(rest.map λs=>Cv s.2).foldl max (Cv st)+u*(c/130%2)),hr,?_,λG=>?_⟩
  ·intro to dl m e;cases e;lia
  ·have h1':0<(n:Int)-1:=by lia
   have h1:(1:Int)<n:=by lia
   have hn0:0<(n:Int):=by lia
   have hn0':0<n:=by lia
   have hrl:(r.map Be).length<=1000000:=by have:=hr.len;simp;lia
   have lr:(r.map λs=>D.int (Cv s.2)).length<=1000000:=by have:=hr.len;simp;lia
   have mid:Kz [zF (ns.map D.int),zI b,zI k,zF (Az nm n),zT [.str d,.int dl],zI u,zI c,zB vF,vE,vE,vE,vE,vE] G=
     K3 [zF (ns.map D.int),zI b,zI k,zF (Az nm n),zT [.str d,.int dl],zI u,zI c,zB vF,zT (r.map Be),vD (Fv nm (vD (t.toNat,(1+c/26%5).toNat,(rest.map λs=>Cv s.2).foldl max (Cv st)+u*(c/130%2)))),zI ((rest.map λs=>Cv s.2).foldl max (Cv st)+u*(c/130%2)),zS (nm t.toNat),vE] G:=by
    have ln:(Az nm n).length=n:=Tn;show _=K3 [zF (ns.map D.int),zI b,zI k,zF (Az nm n),zT [.str d,.int dl],zI u,zI c,zB vF,zT (r.map Be),zT [.str (nm t.toNat),.int ((1+c/26%5).toNat:Nat),.int ((rest.map λs=>Cv s.2).foldl max (Cv st)+u*(c/130%2))],zI ((rest.map λs=>Cv s.2).foldl max (Cv st)+u*(c/130%2)),zS (nm t.toNat),vE] G;rw[hd];generalize(rest.map λs=>Cv s.2).foldl max (Cv st)=MX at mx
    generalize Az nm n=NM at at_ ln;generalize r.map Be=RR at cr cp hrl;generalize(r.map λs=>D.int (Cv s.2))=RP at mx cp fz lr;unfold Kz ZA4 X4;simp[hrl,cr,cp,Ay,fz,lr,mx,m2,ln,h1,h1',hn0,hn0',ht,at_,An]
   rw[cl,decide_eq_true hp,mid,fin,td]
 ·obtain⟨r,hr,cr⟩:=ZGs (ns:=ns) (f:=f) hf hyr cy hb hu (p:=vG)
  refine⟨r,vE,hr,(λto dl m e=>nomatch e),λG=>?_⟩
  have mid:Kz [zF (ns.map D.int),zI b,zI k,zF (Az nm n),zT [.str d,.int dl],zI u,zI c,zB vG,vE,vE,vE,vE,vE] G=
    K3 [zF (ns.map D.int),zI b,zI k,zF (Az nm n),zT [.str d,.int dl],zI u,zI c,zB vG,zT (r.map Be),vD (Fv nm vE),vE,vE,vE] G:=by
   show _=K3 [zF (ns.map D.int),zI b,zI k,zF (Az nm n),zT [.str d,.int dl],zI u,zI c,zB vG,zT (r.map Be),vD .non,vE,vE,vE] G;generalize Az nm n=NM;unfold Kz ZA4 X4;simp[cr]
  rw[cl,decide_eq_false hp,mid,fin,td]
noncomputable def dnS(nm:Nat->Str):Option Nat->Str
 |none=>"sea"
 |some d=>nm d
def Gb(nm:Nat->Str)(p:Pl):D:=match p.kd with
 |.basin b r q=>.tup [.str "basin",.str p.nm,.str (dnS nm p.dn),.int p.dl,.int b,.tup (r.map Be),Fv nm q]
 |.town a b=>.tup [.str "town",.str p.nm,.str (dnS nm p.dn),.int p.dl,.int a,.int b]
 |.mill a=>.tup [.str "mill",.str p.nm,.str (dnS nm p.dn),.int p.dl,.int a]
structure PlOk (yr:Int) (nm:Nat->Str) (n k:Nat) (p:Pl):Prop where
 nm:p.nm=nm k
 dn:∀d,p.dn=vD d->k<d/\d<n
 dl:p.dl<=5
 basin:∀b r q,p.kd=.basin b r q->0<=b/\RuleOk yr q.isSome r/\∀to dl m,q=vD (to,dl,m)->to<n/\1<=dl/\dl<=5
 town:∀a b,p.kd=.town a b->0<=a/\0<=b
 mill:∀a,p.kd=.mill a->0<=a
theorem ZIk(hf:∀k:Nat,k<=1000->∀G,Aq [.fl (ns.map D.int),.int k] G=.ok (.int (f k)) G)(hyr:1<=yr/\yr<=24)(cy:∀G,Hk [.fl (ns.map D.int)] G=.ok (.int yr) G)(hu:0<u)(cu:∀G,Es [.fl (ns.map D.int)] G=.ok (.int u) G){n:Nat}(hk:k<n)(hn:n<=12):
  ∃p:Pl,PlOk yr nm n k p/\∀(G:DH)(acc:List D)(x6 x7 x8 x9 x10 x11 x12:Option D),acc.length<=20->∃y6 y7 y8 y9 y10 y11 y12,
   J9 [zF (ns.map D.int),zI c,zI n,zF (Az nm n),zI k,zR G.length,x6,x7,x8,x9,x10,x11,x12] (G++[.lst acc])=
    .nx [zF (ns.map D.int),zI c,zI n,zF (Az nm n),zI k,zR G.length,y6,y7,y8,y9,y10,y11,y12] (G++[.lst (acc++[Gb nm p])]):=by
 have hc:∀j:Nat,j<=11->∀G,Aq [.fl (ns.map D.int),.int (((6+12*k:Nat):Int)+j)] G=.ok (.int (f (6+12*k+j))) G:=λj hj G=>by have:=hf (6+12*k+j) (by lia) G;rwa[show((6+12*k+j:Nat):Int)=((6+12*k:Nat):Int)+j by lia]at this
 have hb:6+12*k<=900:=by lia
 have e6:(6+12*(k:Int))=((6+12*k:Nat):Int):=by lia
 have m12:∀G,Ax (.int 12) (.int (k:Int)) G=.ok (.int (12*(k:Int))) G:=λG=>Hv (by lia) (by lia)
 have h0:∀G,Aq [.fl (ns.map D.int),.int ((6+12*k:Nat):Int)] G=.ok (.int (f (6+12*k))) G:=hf _ (by lia);have h1:∀G,Aq [.fl (ns.map D.int),.int (((6+12*k:Nat):Int)+1)] G=.ok (.int (f (6+12*k+1))) G:=hc 1 (by lia);have h2:∀G,Aq [.fl (ns.map D.int),.int (((6+12*k:Nat):Int)+2)] G=.ok (.int (f (6+12*k+2))) G:=hc 2 (by lia);have h3:∀G,Aq [.fl (ns.map D.int),.int (((6+12*k:Nat):Int)+3)] G=.ok (.int (f (6+12*k+3))) G:=hc 3 (by lia)
 have h4:∀G,Aq [.fl (ns.map D.int),.int (((6+12*k:Nat):Int)+4)] G=.ok (.int (f (6+12*k+4))) G:=hc 4 (by lia);have ak:atI (Az nm n) (k:Int)=zS (nm k):=Ry hk;have fu:∀G,freeze G (.ok (.int u) G)=.ok (.int u) G:=λG=>I8 rfl
 have cb:=λd dl=>ZKO (nm:=nm) (d:=d) (dl:=dl) hf hyr cy hu cu hb hk hn
 generalize 6+12*k=b at hc hb e6 h0 h1 h2 h3 h4 cb;obtain⟨s,hs0,hs1,hs⟩:∃s:Int,0<=s/\s<(n:Int)-k/\∀(H:DH)(x5 x7 x8 x9 x10 x11 x12:Option D),Qz [zF (ns.map D.int),zI c,zI n,zF (Az nm n),zI k,x5,zI b,x7,x8,x9,x10,x11,x12] H=
   Nt [zF (ns.map D.int),zI c,zI n,zF (Az nm n),zI k,x5,zI b,zI s,x8,x9,x10,x11,x12] H:=by
  have hm:0<(n:Int)-k:=by lia
  have hm':(k:Int)<n:=by lia
  by_cases hw:c/280%3=1
  ·refine⟨min 1 ((n:Int)-1-k),by lia,by lia,λH x5 x7 x8 x9 x10 x11 x12=>?_⟩;unfold Qz ZBE;simp[h1,hm,hm',hk,hw]
  ·refine⟨f (b+1)%((n:Int)-k),jA _ (by lia),jD _ hm,λH x5 x7 x8 x9 x10 x11 x12=>?_⟩;unfold Qz ZBE;simp[h1,hm,hm',hk,hw]
 obtain⟨dn,dl,hdn,hdl,hr⟩:∃(dn:Option Nat)(dl:Nat),(∀d,dn=vD d->k<d/\d<n)/\dl<=5/\∀(H:DH)(x5 x8 x9 x10 x11 x12:Option D),Nt [zF (ns.map D.int),zI c,zI n,zF (Az nm n),zI k,x5,zI b,zI s,x8,x9,x10,x11,x12] H=
   Px [zF (ns.map D.int),zI c,zI n,zF (Az nm n),zI k,x5,zI b,zI s,zI (f (b+2)),zT [.str (dnS nm dn),.int dl],x10,x11,x12] H:=by
  have hd:((f (b+2)%2*(f (b+2)/2%6)).toNat:Int)=f (b+2)%2*(f (b+2)/2%6)/\(f (b+2)%2*(f (b+2)/2%6)).toNat<=5:=by rcases(by lia:f (b+2)%2=0∨f (b+2)%2=1)with z|z<;>rw[z]<;>lia
  have md:∀G,Ax (.int (f (b+2)%2)) (.int (f (b+2)/2%6)) G=.ok (.int (f (b+2)%2*(f (b+2)/2%6))) G:=λG=>Jg (by lia) (by lia)
  generalize f (b+2)%2*(f (b+2)/2%6)=w at hd md;by_cases hp:0<s
  ·have a2:atI (Az nm n) ((k:Int)+s)=zS (nm (k+s.toNat)):=by have:=Ry (nm:=nm) (n:=n) (k:=k+s.toNat) (by lia);rwa[show((k+s.toNat:Nat):Int)=(k:Int)+s by lia]at this
   refine⟨vD (k+s.toNat),w.toNat,λd e=>by cases e;lia,hd.2,λH x5 x8 x9 x10 x11 x12=>?_⟩;unfold Nt ZA3 ZAz;simp[h2,md,hp,a2,An,dnS,hd.1]
  ·refine⟨vE,w.toNat,(λd e=>nomatch e),hd.2,λH x5 x8 x9 x10 x11 x12=>?_⟩
   unfold Nt ZA3 ZAz;simp[h2,md,hp,An,dnS,hd.1]
 obtain⟨rk,hrk,hk2⟩:∃rk:Int,0<=rk/\∀(H:DH)(x5 x7 x8 x9 x10 x11 x12:Option D),Px [zF (ns.map D.int),zI c,zI n,zF (Az nm n),zI k,x5,zI b,x7,x8,x9,x10,x11,x12] H=
   M3 [zF (ns.map D.int),zI c,zI n,zF (Az nm n),zI k,x5,zI b,x7,x8,x9,zI (f b%5),zI (amt (f (b+3)) u),zI rk] H:=by
  have fz:∀G:DH,freeze G (.ok (.ref G.length) (G++[.lst [.int 4,.int 10000000000000000000000000000000000000000]]))=.ok (.fl [.int 4,.int 10000000000000000000000000000000000000000]) G:=λG=>Du rfl
  rcases(by lia:c/840%2=0∨c/840%2=1)with z|z
  ·refine⟨f (b+4)%4,by lia,λH x5 x7 x8 x9 x10 x11 x12=>?_⟩;unfold Px ZAx Xx;simp[h0,h3,h4,cu,fu,O7 hu,z,Ah,fz]
  ·refine⟨f (b+4)%10000000000000000000000000000000000000000,by lia,λH x5 x7 x8 x9 x10 x11 x12=>?_⟩;unfold Px ZAx Xx;simp[h0,h3,h4,cu,fu,O7 hu,z,Ah,fz]
 have hal:∀acc:List D,acc.length<=20->acc.length<1000000:=λacc h=>by lia
 have go:∀p:Pl,(∀(G:DH)(acc:List D),acc.length<=20->
   M3 [zF (ns.map D.int),zI c,zI n,zF (Az nm n),zI k,zR G.length,zI b,zI s,zI (f (b+2)),zT [.str (dnS nm dn),.int dl],zI (f b%5),zI (amt (f (b+3)) u),zI rk] (G++[.lst acc])=
    .nx [zF (ns.map D.int),zI c,zI n,zF (Az nm n),zI k,zR G.length,zI b,zI s,zI (f (b+2)),zT [.str (dnS nm dn),.int dl],zI (f b%5),zI (amt (f (b+3)) u),zI rk] (G++[.lst (acc++[Gb nm p])]))->
   ∀(G:DH)(acc:List D)(x6 x7 x8 x9 x10 x11 x12:Option D),acc.length<=20->∃y6 y7 y8 y9 y10 y11 y12,
   J9 [zF (ns.map D.int),zI c,zI n,zF (Az nm n),zI k,zR G.length,x6,x7,x8,x9,x10,x11,x12] (G++[.lst acc])=
    .nx [zF (ns.map D.int),zI c,zI n,zF (Az nm n),zI k,zR G.length,y6,y7,y8,y9,y10,y11,y12] (G++[.lst (acc++[Gb nm p])]):=λp h9 G acc x6 x7 x8 x9 x10 x11 x12 ha=>by
  refine⟨zI b,zI s,zI (f (b+2)),zT [.str (dnS nm dn),.int dl],zI (f b%5),zI (amt (f (b+3)) u),zI rk,?_⟩
  ·unfold J9;have e:(sAs (dOp Aj (dC (.int 6)) (dOp Ax (dC (.int 12)) (dV 4))) (gV 6)) [zF (ns.map D.int),zI c,zI n,zF (Az nm n),zI k,zR G.length,x6,x7,x8,x9,x10,x11,x12] (G++[.lst acc])=.nx [zF (ns.map D.int),zI c,zI n,zF (Az nm n),zI k,zR G.length,zI b,x7,x8,x9,x10,x11,x12] (G++[.lst acc]):=by simp[m12,e6]
   rw[Rf,e,Ud,hs,hr,hk2];exact h9 G acc ha
 by_cases hk1:f b%5<2
 ·obtain⟨r,q,hr1,hq,cr⟩:=cb (dnS nm dn) dl
  refine⟨⟨nm k,dn,dl,.basin (amt (f (b+3)) u) r q⟩,⟨rfl,hdn,hdl,λb' r' q' e=>?_,(λ_ _ e=>nomatch e),(λ_ e=>nomatch e)⟩,go _ λG acc ha=>?_⟩
  ·cases e;exact⟨Rc hu,hr1,hq⟩
  ·have fr:∀G:DH,freeze G (.ok (.tup [.str "basin",.str (nm k),.str (dnS nm dn),.int dl,.int (amt (f (b+3)) u),.tup (r.map Be),Fv nm q]) G)=.ok (.tup [.str "basin",.str (nm k),.str (dnS nm dn),.int dl,.int (amt (f (b+3)) u),.tup (r.map Be),Fv nm q]) G:=λG=>I8 (by simp)
   unfold M3;simp[hk1,cr,fr,Bu,Dk,hal acc ha,Gb]
 ·by_cases hk3:f b%5<4
  ·refine⟨⟨nm k,dn,dl,.town (amt (f (b+3)) u) rk⟩,⟨rfl,hdn,hdl,(λ_ _ _ e=>nomatch e),λa b' e=>?_,(λ_ e=>nomatch e)⟩,go _ λG acc ha=>?_⟩
   ·cases e;exact⟨Rc hu,hrk⟩
   ·unfold M3;simp[hk1,hk3,ak,An,Bu,Dk,hal acc ha,Gb]
  ·refine⟨⟨nm k,dn,dl,.mill (amt (f (b+3)) u)⟩,⟨rfl,hdn,hdl,(λ_ _ _ e=>nomatch e),(λ_ _ e=>nomatch e),λa e=>?_⟩,go _ λG acc ha=>?_⟩
   ·cases e;exact Rc hu
   ·unfold M3;simp[hk1,hk3,ak,An,Bu,Dk,hal acc ha,Gb]
theorem ZE3{n:Nat}{P:Nat->Pl} 
  (hd:∀k,k<n->∀(acc:List D)(x6 x7 x8 x9 x10 x11 x12:Option D),acc.length<=20->∃y6 y7 y8 y9 y10 y11 y12,
   J9 [zF (ns.map D.int),zI c,zI n,zF (Az nm n),zI k,zR G.length,x6,x7,x8,x9,x10,x11,x12] (G++[.lst acc])=
    .nx [zF (ns.map D.int),zI c,zI n,zF (Az nm n),zI k,zR G.length,y6,y7,y8,y9,y10,y11,y12] (G++[.lst (acc++[Gb nm (P k)])])):
  ∀(m k:Nat) (acc:List D) (x4 x6 x7 x8 x9 x10 x11 x12:Option D),k+m=n->acc.length+m<=20->∃y4 y6 y7 y8 y9 y10 y11 y12,
   Av (gV 4) J9 (Bk k m) [zF (ns.map D.int),zI c,zI n,zF (Az nm n),x4,zR G.length,x6,x7,x8,x9,x10,x11,x12] (G++[.lst acc])=
    .nx [zF (ns.map D.int),zI c,zI n,zF (Az nm n),y4,zR G.length,y6,y7,y8,y9,y10,y11,y12] (G++[.lst (acc++(List.range' k m).map λi=>Gb nm (P i))])
 |0,k,acc,x4,x6,x7,x8,x9,x10,x11,x12,e,ha=>⟨x4,x6,x7,x8,x9,x10,x11,x12,by rw[Lf,Dj];simp⟩
 |m+1,k,acc,x4,x6,x7,x8,x9,x10,x11,x12,e,ha=>by
  obtain⟨y6,y7,y8,y9,y10,y11,y12,hb⟩:=hd k (by lia) acc x6 x7 x8 x9 x10 x11 x12 (by lia);obtain⟨z4,z6,z7,z8,z9,z10,z11,z12,ih⟩:=ZE3 hd m (k+1) (acc++[Gb nm (P k)]) (zI k) y6 y7 y8 y9 y10 y11 y12 (by lia) (by simp;lia);refine⟨z4,z6,z7,z8,z9,z10,z11,z12,?_⟩;rw[Hu,Cg];simp only[Cd,R.Bs,qw,hb,Ce];have e1:((k:Int)+1)=((k+1:Nat):Int):=by lia
  rw[e1,ih];simp[List.range'_succ]
structure Told (h:Hs) (yr:Int):Prop where
 good:GoodH h
 one:1<=h.n
 ey:h.yr=yr
 ok:∃nm:Nat->Str,∀k,k<h.n->PlOk yr nm h.n k (h.pl k)
theorem ZOa:∃n:Nat,1<=n/\n<=12/\(n:Int)=1+c%4:=⟨(1+c%4).toNat,by lia,by lia,by lia⟩
theorem ZSS(hf:∀k:Nat,k<=1000->∀G,Aq [.fl (ns.map D.int),.int k] G=.ok (.int (f k)) G)(hyr:1<=yr/\yr<=24)(cy:∀G,Hk [.fl (ns.map D.int)] G=.ok (.int yr) G)(hu:0<u)(cu:∀G,Es [.fl (ns.map D.int)] G=.ok (.int u) G):
  ∃h:Hs,Told h yr/\∀G,U7 [.fl (ns.map D.int)] G=.ok h.enc G:=by
 obtain⟨n,hn1,hn,en⟩:=ZOa (c:=f 0);let nm:Nat->Str:=λk=>Cr (Em (f 5) n k)
 have ex:∀k:Nat,∃p:Pl,k<n->(PlOk yr nm n k p/\∀(G:DH)(acc:List D)(x6 x7 x8 x9 x10 x11 x12:Option D),acc.length<=20->∃y6 y7 y8 y9 y10 y11 y12,
   J9 [zF (ns.map D.int),zI (f 0),zI n,zF (Az nm n),zI k,zR G.length,x6,x7,x8,x9,x10,x11,x12] (G++[.lst acc])=
    .nx [zF (ns.map D.int),zI (f 0),zI n,zF (Az nm n),zI k,zR G.length,y6,y7,y8,y9,y10,y11,y12] (G++[.lst (acc++[Gb nm p])])):=λk=>by
  by_cases hk:k<n
  ·obtain⟨p,hp⟩:=ZIk (nm:=nm) (c:=f 0) hf hyr cy hu cu hk hn;exact⟨p,λ_=>hp⟩
  ·exact⟨Zj,λz=>absurd z hk⟩
 let P:Nat->Pl:=λk=>(ex k).choose
 have hP:=λ(k:Nat)(hk:k<n)=>((ex k).choose_spec hk).1
 have hB:=λ(k:Nat)(hk:k<n)=>((ex k).choose_spec hk).2
 let h:Hs:=⟨yr,(zV n).map P⟩;have hnn:h.n=n:=by simp[h,Hs.n]
 have hpl:∀k,k<n->h.pl k=P k:=λk hk=>by simp[h,Hs.pl,hk]
 have hg:GoodH h:=by
  refine⟨?_,by lia,?_,?_,?_,?_,?_,?_,?_⟩
  ·show 0<yr;lia
  ·intro i j hi hj e;rw[hnn]at hi hj;rw[hpl i hi,hpl j hj,(hP i hi).nm,(hP j hj).nm]at e;exact ZLQ hn hi hj (ZDO e)
  ·intro i hi;rw[hnn]at hi;rw[hpl i hi,(hP i hi).nm];exact ZP1
  ·intro k d hk e;rw[hnn]at hk⊢;rw[hpl k hk]at e;exact(hP k hk).dn d e
  ·intro k hk;rw[hnn]at hk;rw[hpl k hk];exact(hP k hk).dl
  ·intro k b r to dl m hk e;rw[hnn]at hk⊢;rw[hpl k hk]at e;exact((hP k hk).basin _ _ _ e).2.2 to dl m rfl
  ·intro k b r q hk e;rw[hnn]at hk;rw[hpl k hk]at e;have:=(hP k hk).basin _ _ _ e;exact⟨this.1,λs hs=>(this.2.1.good s hs).1⟩
  ·intro k a b hk e;rw[hnn]at hk;rw[hpl k hk]at e;exact(hP k hk).town _ _ e
 refine⟨h,⟨hg,by lia,rfl,nm,λk hk=>by rw[hnn]at hk⊢;rw[hpl k hk];exact hP k hk⟩,λG=>?_⟩;have hdT:∀o:Option Nat,(∀d,o=vD d->d<n)->h.dnT o=dnS nm o:=λo ho=>by
  cases o with
  |none=>rfl
  |some d=>
   show(h.pl d).nm=nm d;rw[hpl d (ho d rfl),(hP d (ho d rfl)).nm]
 have henc:h.Bw=(List.range' 0 n).map λi=>Gb nm (P i):=by
  show((zV n).map P).map h.encP=_;rw[jx,List.range_eq_range'];refine qE λk hk=>?_
  have hk':k<n:=by have:=List.mem_range'_1.mp hk;lia
  have ok:=hP k hk';show h.encP (P k)=Gb nm (P k);have ed:=hdT (P k).dn λd e=>(ok.dn d e).2
  unfold Hs.encP Gb;rw[ed];cases e:(P k).kd with
  | basin b r q=>
   have hq:=(ok.basin b r q e).2.2;cases q with
   |none=>rfl
   |some q=>
    obtain⟨to,dl,m⟩:=q;have ht:=(hq to dl m rfl).1;have e2:(h.pl to).nm=nm to:=by rw[hpl to ht,(hP to ht).nm]
    simp[Hs.K9,Fv,e2]
  |town a b=>rfl
  |mill a=>rfl
 obtain⟨y4,y6,y7,y8,y9,y10,y11,y12,hL⟩:=ZE3 (G:=G) (P:=P) (nm:=nm) (c:=f 0) (n:=n) (ns:=ns) (λk hk=>hB k hk G) n 0 [] vE vE vE vE vE vE vE vE (by lia) (by simp;lia);rw[<-henc]at hL;have hL':Av (gV 4) J9 (Bk 0 n) [zF (ns.map D.int),zI (f 0),zI n,zF (Az nm n),vE,zR G.length,vE,vE,vE,vE,vE,vE,vE] (G++[.lst []])=
    .nx [zF (ns.map D.int),zI (f 0),zI n,zF (Az nm n),y4,zR G.length,y6,y7,y8,y9,y10,y11,y12] (G++[.lst h.Bw]):=hL
 have f0:∀G,Aq [.fl (ns.map D.int),.int 0] G=.ok (.int (f 0)) G:=hf 0 (by lia);have f5:∀G,Aq [.fl (ns.map D.int),.int 5] G=.ok (.int (f 5)) G:=hf 5 (by lia);have cp:∀G:DH,Cu (gV 0) Bh Xr [vE,zF (ns.map D.int),zI n] (Bk 0 n) G=.ok (Az nm n) G:=λG=>T4 λk hk=>by unfold Xr;simp[f5,ZR3 hn hk,nm]
 have fz:freeze G (.ok (.ref G.length) (G++[.lst (Az nm n)]))=.ok (.fl (Az nm n)) G:=Du ZNX;have hr:inR (n:Int):=Fo (by lia) (by lia);have hnl:n<=1000000:=by lia
 have eh:h.enc=.tup [.int yr,.tup h.Bw]:=rfl;unfold U7 ZC7;rw[Ar];simp[Tn,hnl,f0,<-en,hr,Ay,cp,fz,Ah,Df,hL',cy,Bu,An,Hm,eh]
noncomputable def thr(c:Int):Nat->Int
 |0=>c
 |j+1=>thr (c/3) j
theorem ZPZ{s4 s8:Option D}(G:DH):
  ∃y,Av (gV 11) Q0 (Bk 0 5) [s0,s1,s2,zI u,s4,s5,s6,s7,s8,zI c,zR G.length,x] (G++[.lst []])=.nx [s0,s1,s2,zI u,s4,s5,s6,s7,s8,y,zR G.length,zI 4] (G++[.lst (tab 5 λj=>u*(thr c j%3))]):=by
 have hb:∀(c:Int)(acc:List D)(x:Option D),acc.length<=10->Q0 [s0,s1,s2,zI u,s4,s5,s6,s7,s8,zI c,zR G.length,x] (G++[.lst acc])=.nx [s0,s1,s2,zI u,s4,s5,s6,s7,s8,zI (c/3),zR G.length,x] (G++[.lst (acc++[.int (u*(c%3))])]):=λc acc x ha=>by
  have m:∀G,Ax (.int u) (.int (c%3)) G=.ok (.int (u*(c%3))) G:=λG=>Jg (by lia) (by lia)
  have hal:acc.length<1000000:=by lia
  unfold Q0 ZGj;simp[m,Bu,Dk,hal]
 have e:Bk 0 5=[.int 0,.int 1,.int 2,.int 3,.int 4]:=rfl;refine⟨zI (c/3/3/3/3/3),?_⟩;rw[e];simp only[Cg,Dj,Cd,R.Bs,qw,Ce];rw[hb _ _ _ (by simp)];simp only[Ce,Cg,Dj,Cd,R.Bs,qw];rw[hb _ _ _ (by simp)];simp only[Ce,Cg,Dj,Cd,R.Bs,qw];rw[hb _ _ _ (by simp)];simp only[Ce,Cg,Dj,Cd,R.Bs,qw];rw[hb _ _ _ (by simp)];simp only[Ce,Cg,Dj,Cd,R.Bs,qw];rw[hb _ _ _ (by simp)]
 simp only[Ce,Cg,Dj,Cd,R.Bs,qw];simp[tab5,thr]
def lvS(h:Hs)(f:Nat->Int)(u:Int)(k:Nat):Int:=match(h.pl k).kd with
 |.basin b _ _=>amt (f (6+12*h.n+k)) u%(b+1)
 |_=>0
def coS(h:Hs)(f:Nat->Int)(u:Int)(k j:Nat):Int:=u*(thr (f (6+12*h.n+h.n+k)) j%3)
theorem ZKr(hu:0<u)(k j:Nat):0<=coS h f u k j:=jF (by lia) (by lia)
theorem ZHj(hf:∀k:Nat,k<=1000->∀G,Aq [.fl (ns.map D.int),.int k] G=.ok (.int (f k)) G){u:Int}(hu:0<u)(g:GoodH h){s1:Option D}{G:DH}:∀(m k:Nat)(L:DH)(x7 x8 x9 x10 x11:Option D),k+m=h.n->∃L' y7 y8 y9 y10 y11,
  Av (gV 7) Nr (Bk k m) [zF (ns.map D.int),s1,zT h.Bw,zI u,zI ((6+12*h.n:Nat):Int),zR G.length,zR (G.length+1),x7,x8,x9,x10,x11] (G++ .lst (tab k (lvS h f u)):: .lst (Bg k (coS h f u))::L)=
   .nx [zF (ns.map D.int),s1,zT h.Bw,zI u,zI ((6+12*h.n:Nat):Int),zR G.length,zR (G.length+1),y7,y8,y9,y10,y11] (G++ .lst (tab h.n (lvS h f u)):: .lst (Bg h.n (coS h f u))::L')
 |0,k,L,x7,x8,x9,x10,x11,e=>by
  have e1:k=h.n:=by lia
  subst e1;exact⟨L,x7,x8,x9,x10,x11,by rw[Lf,Dj]⟩
 | m+1,k,L,x7,x8,x9,x10,x11,e=>by
  have hk:k<h.n:=by lia
  have hn:=g.len;let c:Int:=f (6+12*h.n+h.n+k);let G1:DH:=G++ .lst (tab (k+1) (lvS h f u)):: .lst (Bg k (coS h f u))::L;obtain⟨y,hR⟩:=ZPZ (u:=u) (c:=c) (s0:=zF (ns.map D.int)) (s1:=s1) (s2:=zT h.Bw) (s4:=zI ((6+12*h.n:Nat):Int)) (s5:=zR G.length) (s6:=zR (G.length+1)) (s7:=zI k) (s8:=zI (lvS h f u k)) (x:=x11) G1;obtain⟨L',y7,y8,y9,y10,y11,ih⟩:=ZHj hf hu g m (k+1) (L++[.lst (tab 5 (coS h f u k))]) (s1:=s1) (G:=G) (zI k) (zI (lvS h f u k)) y (zR G1.length) (zI 4) (by lia)
  refine⟨L',y7,y8,y9,y10,y11,?_⟩;have ap:atI h.Bw (k:Int)=vD (h.encP (h.pl k)):=Hs.Ea hk;have c1:∀G,Aq [.fl (ns.map D.int),.int (((6+12*h.n:Nat):Int)+(k:Int))] G=.ok (.int (f (6+12*h.n+k))) G:=λG=>by have:=hf (6+12*h.n+k) (by lia) G;rwa[show((6+12*h.n+k:Nat):Int)=((6+12*h.n:Nat):Int)+k by lia]at this
  have c2:∀G,Aq [.fl (ns.map D.int),.int (((6+12*h.n:Nat):Int)+(h.n:Int)+(k:Int))] G=.ok (.int c) G:=λG=>by have:=hf (6+12*h.n+h.n+k) (by lia) G;rwa[show((6+12*h.n+h.n+k:Nat):Int)=((6+12*h.n:Nat):Int)+h.n+k by lia]at this
  have hbb:(6+12*h.n:Nat)=(6+12*h.n):=rfl;generalize hB:((6+12*h.n:Nat):Int)=B at c1 c2 hR ih⊢;have t1:∀(H:DH)(x9 x10 x11:Option D),Nr [zF (ns.map D.int),s1,zT h.Bw,zI u,zI B,zR G.length,zR (G.length+1),zI k,x8,x9,x10,x11] H=Sy [zF (ns.map D.int),s1,zT h.Bw,zI u,zI B,zR G.length,zR (G.length+1),zI k,zI (lvS h f u k),x9,x10,x11] H:=λH x9 x10 x11=>by
   unfold Nr ZEv lvS;cases e:(h.pl k).kd with
   |basin b r q=>
    have hb0:=(g.brim k b r q hk e).1;have e4:∀G,Ae (h.encP (h.pl k)) (.int 4) G=.ok (.int b) G:=λG=>by unfold Hs.encP;rw[e];simp
    have hb1:0<b+1:=by lia
    have hb2:¬b+1=0:=by lia
    simp[ap,Hj,e,Kd.isB,c1,O7 hu,e4,hb1,hb2]
   |town a b=>simp[ap,Hj,e,Kd.isB]
   |mill a=>simp[ap,Hj,e,Kd.isB]
  have hl1:k<1000000:=by lia
  have et:tab k (lvS h f u)++[.int (lvS h f u k)]=tab (k+1) (lvS h f u):=by simp[tab,jB]
  have er:Bg k (coS h f u)++[.tup (tab 5 (coS h f u k))]=Bg (k+1) (coS h f u):=by simp[Bg,jB]
  have t2:Sy [zF (ns.map D.int),s1,zT h.Bw,zI u,zI B,zR G.length,zR (G.length+1),zI k,zI (lvS h f u k),x9,x10,x11] (G++ .lst (tab k (lvS h f u)):: .lst (Bg k (coS h f u))::L)=Uj [zF (ns.map D.int),s1,zT h.Bw,zI u,zI B,zR G.length,zR (G.length+1),zI k,zI (lvS h f u k),zI c,zR G1.length,x11] (G1++[.lst []]):=by
   have tn:tidy G1 (.ok (.ref G1.length) (G1++[.lst []]))=.ok (.ref G1.length) (G1++[.lst []]):=Df rfl;unfold Sy ZEe ZCt;have a1:(sEx (De Dl (dV 5) (Aa (dV 8) Ac))) [zF (ns.map D.int),s1,zT h.Bw,zI u,zI B,zR G.length,zR (G.length+1),zI k,zI (lvS h f u k),x9,x10,x11] (G++ .lst (tab k (lvS h f u)):: .lst (Bg k (coS h f u))::L)=.nx [zF (ns.map D.int),s1,zT h.Bw,zI u,zI B,zR G.length,zR (G.length+1),zI k,zI (lvS h f u k),x9,x10,x11] G1:=by simp[Bu,Dk,hl1,et,G1]
   rw[Rf,a1,Ud]
   clear_value G1
   simp[Hs.M5,c2,Ah,tn]
  have t5:Uj [zF (ns.map D.int),s1,zT h.Bw,zI u,zI B,zR G.length,zR (G.length+1),zI k,zI (lvS h f u k),zI c,zR G1.length,x11] (G1++[.lst []])=.nx [zF (ns.map D.int),s1,zT h.Bw,zI u,zI B,zR G.length,zR (G.length+1),zI k,zI (lvS h f u k),y,zR G1.length,zI 4] (G++ .lst (tab (k+1) (lvS h f u)):: .lst (Bg (k+1) (coS h f u))::(L++[.lst (tab 5 (coS h f u k))])):=by
   have hr:inR 5:=Fo (by lia) (by lia);have eC:(tab 5 λj=>u*(thr c j%3))=tab 5 (coS h f u k):=rfl;rw[eC]at hR;unfold Uj;have a1:(Ci (Br rng1 (Aa (dC (.int 5)) Ac)) (gV 11) Q0) [zF (ns.map D.int),s1,zT h.Bw,zI u,zI B,zR G.length,zR (G.length+1),zI k,zI (lvS h f u k),zI c,zR G1.length,x11] (G1++[.lst []])=.nx [zF (ns.map D.int),s1,zT h.Bw,zI u,zI B,zR G.length,zR (G.length+1),zI k,zI (lvS h f u k),y,zR G1.length,zI 4] (G1++[.lst (tab 5 (coS h f u k))]):=by simp[hr,hR]
   rw[Rf,a1,Ud];have gl:(G1++[DO.lst (tab 5 (coS h f u k))])[G1.length]?=vD (.lst (tab 5 (coS h f u k))):=by simp
   have gc:(G1++[DO.lst (tab 5 (coS h f u k))])[G.length+1]?=vD (.lst (Bg k (coS h f u))):=by simp[G1]
   have gs:(G1++[DO.lst (tab 5 (coS h f u k))]).set (G.length+1) (.lst (Bg (k+1) (coS h f u)))=(G++ .lst (tab (k+1) (lvS h f u)):: .lst (Bg (k+1) (coS h f u))::(L++[.lst (tab 5 (coS h f u k))])):=by simp[G1]
   generalize G1++[DO.lst (tab 5 (coS h f u k))]=G2 at gl gc gs;unfold ZE7;simp[gl,gc,hl1,er,gs]
  rw[Hu,Cg];simp only[Cd,R.Bs,qw,t1,t2,t5,Ce];have e1:((k:Int)+1)=((k+1:Nat):Int):=by lia
  rw[e1,ih]
theorem ZKn(hf:∀k:Nat,k<=1000->∀G,Aq [.fl (ns.map D.int),.int k] G=.ok (.int (f k)) G)(hu:0<u)(cu:∀G,Es [.fl (ns.map D.int)] G=.ok (.int u) G)(g:GoodH h)(G:DH):
  Pn [.fl (ns.map D.int),h.enc] G=.ok (stD h.n (lvS h f u) (coS h f u)) G:=by
 obtain⟨L',y7,y8,y9,y10,y11,hL⟩:=ZHj hf hu g (s1:=vD h.enc) (G:=G) h.n 0 [] vE vE vE vE vE (by lia);have hL':Av (gV 7) Nr (Bk 0 h.n) [zF (ns.map D.int),vD h.enc,zT h.Bw,zI u,zI ((6+12*h.n:Nat):Int),zR G.length,zR (G.length+1),vE,vE,vE,vE,vE] (G++[.lst [],.lst []])=
   .nx [zF (ns.map D.int),vD h.enc,zT h.Bw,zI u,zI ((6+12*h.n:Nat):Int),zR G.length,zR (G.length+1),y7,y8,y9,y10,y11] (G++ .lst (tab h.n (lvS h f u)):: .lst (Bg h.n (coS h f u))::L'):=hL
 have hn:=g.len;have m12:∀G,Ax (.int 12) (.int (h.n:Int)) G=.ok (.int (12*(h.n:Int))) G:=λG=>Hv (by lia) (by lia)
 have e6:(6+12*(h.n:Int))=((6+12*h.n:Nat):Int):=by lia
 generalize hB:((6+12*h.n:Nat):Int)=B at hL' e6;have fu:freeze G (.ok (.int u) G)=.ok (.int u) G:=I8 rfl;have hr:inR (h.n:Int):=Fo (by lia) (by lia);have t1:tidy (G++[.lst []]) (.ok (.ref (G.length+1)) (G++[.lst [],.lst []]))=.ok (.ref (G.length+1)) (G++[.lst [],.lst []]):=by have:=Df (G:=G++[.lst []]) (ds:=[]) (L:=[]) rfl;simpa using this
 have g0:(G++ .lst (tab h.n (lvS h f u)):: .lst (Bg h.n (coS h f u))::L')[G.length]?=vD (.lst (tab h.n (lvS h f u))):=by simp
 have g1:(G++ .lst (tab h.n (lvS h f u)):: .lst (Bg h.n (coS h f u))::L')[G.length+1]?=vD (.lst (Bg h.n (coS h f u))):=by simp
 have tp:tidy G (.ok (stD h.n (lvS h f u) (coS h f u)) (G++ .lst (tab h.n (lvS h f u)):: .lst (Bg h.n (coS h f u))::L'))=.ok (stD h.n (lvS h f u) (coS h f u)) G:=Hm (by simp[stD,K5]);generalize G++DO.lst (tab h.n (lvS h f u))::DO.lst (Bg h.n (coS h f u))::L'=G2 at hL' g0 g1 tp;unfold stD at tp⊢;unfold Pn ZHw;rw[Ar];simp[Dm,cu,fu,Hs.M5,m12,e6,Ah,Df,t1,hr,hL',g0,g1,An,tp]
def flS(n:Nat)(f:Nat->Int)(u:Int)(i k:Nat):Int:=amt (f (6+14*n+i*n+k)) u
theorem ZO8{n:Nat}(hu:0<u)(i k:Nat):0<=flS n f u i k:=Rc hu
def Bl(n:Nat)(fls:List (Nat->Int)):List D:=fls.map λfl=>.tup (tab n fl)
@[simp]theorem ZCV{n:Nat}:bels m (Bl n fls)=vF:=Dt λ_ _=>by simp
theorem ZG7{o:DO}(h:∀m,bels m ds=vF):freeze (G++[o]) (.ok (.ref (G.length+1)) (G++[o,.lst ds]))=.ok (.fl ds) (G++[o]):=by have:=Du (G:=G++[o]) (ds:=ds) (L:=[]) (h _);simpa using this
theorem ZOL(hf:∀k:Nat,k<=1000->∀G,Aq [.fl (ns.map D.int),.int k] G=.ok (.int (f k)) G)(hu:0<u)(cu:∀G,Es [.fl (ns.map D.int)] G=.ok (.int u) G){n:Nat}(hi:6+14*n+i*n+n<=1000)(hi2:i<=1000)(hn2:n<=1000){acc:List D}(ha:acc.length<=1000)(G:DH):
  Nf [zF (ns.map D.int),s1,s2,zI n,zI ((6+14*n:Nat):Int),zR G.length,zI i,x] (G++[.lst acc])=
   .nx [zF (ns.map D.int),s1,s2,zI n,zI ((6+14*n:Nat):Int),zR G.length,zI i,zF (tab n λk=>f (6+14*n+i*n+k))] (G++[.lst (acc++[.tup (tab n (flS n f u i))])]):=by
 have hal:acc.length<1000000:=by lia
 have mi:∀G,Ax (.int (i:Int)) (.int (n:Int)) G=.ok (.int ((i:Int)*n)) G:=λG=>Hv (by lia) (by lia)
 have fu:∀G,freeze G (.ok (.int u) G)=.ok (.int u) G:=λG=>I8 rfl
 have c1:∀G,Cu (gV 0) Bh Yp [vE,zF (ns.map D.int),zI n,zI ((6+14*n:Nat):Int),zI i] (Bk 0 n) G=.ok (tab n λk=>f (6+14*n+i*n+k)) G:=λG=>
  T4 (F:=λk=>.int (f (6+14*n+i*n+k))) λk hk=>by
   have h1:=hf (6+14*n+i*n+k) (by lia) G;have e1:((6+14*n+i*n+k:Nat):Int)=((6+14*n:Nat):Int)+(i:Int)*n+k:=by rw[Int.natCast_add,Int.natCast_add,Int.natCast_mul]
   rw[e1]at h1;generalize((6+14*n:Nat):Int)=B at h1;unfold Yp;simp[mi,h1]
 have c2:∀G,Cu (gV 0) Bh ZBC [vE,zF (ns.map D.int)] (tab n λk=>f (6+14*n+i*n+k)) G=.ok (tab n (flS n f u i)) G:=λG=>
  Nm (E:=λk=>.int (f (6+14*n+i*n+k))) (F:=λk=>.int (flS n f u i k)) λk hk=>by unfold ZBC;simp[cu,fu,O7 hu,flS]
 have hr:inR (n:Int):=Fo (by lia) (by lia);have cs1:∀a b c d e f' g h:Option D,Ay 1 [0,3,4,6] [a,b,c,d,e,f',g,h]=[vE,a,d,e,g]:=λ_ _ _ _ _ _ _ _=>rfl
 have cs2:∀a b c d e f' g h:Option D,Ay 1 [0] [a,b,c,d,e,f',g,h]=[vE,a]:=λ_ _ _ _ _ _ _ _=>rfl
 have fz1:=ZG7 (G:=G) (o:=.lst acc) (ds:=tab n λk=>f (6+14*n+i*n+k)) λ_=>K5
 have fz2:=ZG7 (G:=G) (o:=.lst acc) (ds:=tab n (flS n f u i)) λ_=>K5
 generalize((6+14*n:Nat):Int)=B at c1;have hnl:n<=1000000:=by lia
 unfold Nf;simp[hnl,hr,cs1,cs2,c1,c2,fz1,fz2,Bu,Dk,hal]
theorem ZDQ(hf:∀k:Nat,k<=1000->∀G,Aq [.fl (ns.map D.int),.int k] G=.ok (.int (f k)) G)(hu:0<u)(cu:∀G,Es [.fl (ns.map D.int)] G=.ok (.int u) G){n t:Nat}(ht:6+14*n+t*n<=1000)(ht2:t<=100)(hn2:n<=1000){s1 s2:Option D}(G:DH):∀(m i:Nat)(x6 x7:Option D),i+m=t->∃y6 y7,
  Av (gV 6) Nf (Bk i m) [zF (ns.map D.int),s1,s2,zI n,zI ((6+14*n:Nat):Int),zR G.length,x6,x7] (G++[.lst (Bl n ((zV i).map (flS n f u)))])=
   .nx [zF (ns.map D.int),s1,s2,zI n,zI ((6+14*n:Nat):Int),zR G.length,y6,y7] (G++[.lst (Bl n ((zV t).map (flS n f u)))])
 |0,i,x6,x7,e=>by
  have e1:i=t:=by lia
  subst e1;exact⟨x6,x7,by rw[Lf,Dj]⟩
 |m+1,i,x6,x7,e=>by
  obtain⟨y6,y7,ih⟩:=ZDQ hf hu cu ht ht2 hn2 (s1:=s1) (s2:=s2) G m (i+1) (zI i) (zF (tab n λk=>f (6+14*n+i*n+k))) (by lia);refine⟨y6,y7,?_⟩;have hm:(i+1)*n<=t*n:=Nat.mul_le_mul_right n (by lia);have hm2:(i+1)*n=i*n+n:=Nat.succ_mul i n;have hb:=ZOL hf hu cu (n:=n) (i:=i) (by lia) (by lia) hn2 (s1:=s1) (s2:=s2) (x:=x7) (acc:=Bl n ((zV i).map (flS n f u))) (by simp[Bl];lia) G
  have ea:Bl n ((zV i).map (flS n f u))++[.tup (tab n (flS n f u i))]=Bl n ((zV (i+1)).map (flS n f u)):=by simp[Bl,jB]
  rw[ea]at hb;rw[Hu,Cg];simp only[Cd,R.Bs,qw,hb,Ce];have e1:((i:Int)+1)=((i+1:Nat):Int):=by lia
  rw[e1,ih]
theorem ZQQ(hf:∀k:Nat,k<=1000->∀G,Aq [.fl (ns.map D.int),.int k] G=.ok (.int (f k)) G)(hu:0<u)(cu:∀G,Es [.fl (ns.map D.int)] G=.ok (.int u) G)(g:GoodH h){t:Nat}(ht:6+14*h.n+t*h.n<=1000)(ht2:t<=100)(G:DH):
  Oc [.fl (ns.map D.int),h.enc,.int t] G=.ok (.ref G.length) (G++[.lst (Bl h.n ((zV t).map (flS h.n f u)))]):=by
 have hn:=g.len;obtain⟨y6,y7,hL⟩:=ZDQ hf hu cu ht ht2 (by lia) (s1:=vD h.enc) (s2:=zI t) G t 0 vE vE (by lia);have hL':Av (gV 6) Nf (Bk 0 t) [zF (ns.map D.int),vD h.enc,zI t,zI h.n,zI ((6+14*h.n:Nat):Int),zR G.length,vE,vE] (G++[.lst []])=
   .nx [zF (ns.map D.int),vD h.enc,zI t,zI h.n,zI ((6+14*h.n:Nat):Int),zR G.length,y6,y7] (G++[.lst (Bl h.n ((zV t).map (flS h.n f u)))]):=hL
 have m14:∀G,Ax (.int 14) (.int (h.n:Int)) G=.ok (.int (14*(h.n:Int))) G:=λG=>Hv (by lia) (by lia)
 have e6:(6+14*(h.n:Int))=((6+14*h.n:Nat):Int):=by lia
 generalize hB:((6+14*h.n:Nat):Int)=B at hL' e6;have hr:inR (t:Int):=Fo (by lia) (by lia);unfold Oc ZGS;rw[Ar];simp[Dm,Hs.M5,m14,e6,Ah,Df,hr,hL']
noncomputable abbrev St2:=(Nat->Int)×(Nat->Nat->Int)
def Hs.nxt(h:Hs)(s:St2)(a:Int)(fl:Nat->Int):St2:=(lies (h.cs s.1 s.2 a fl).page,(h.cs s.1 s.2 a fl).coming)
def Hs.Gu(h:Hs):List (Nat->Int)->St2->Int->St2
 |[],s,_=>s
 |fl::r,s,a=>h.Gu r (h.nxt s a fl) (a+1)
def Hs.Gw(h:Hs):List (Nat->Int)->St2->Int->List (Nat->List Int)
 |[],_,_=>[]
 |fl::r,s,a=>(h.cs s.1 s.2 a fl).page::h.Gw r (h.nxt s a fl) (a+1)
theorem ZEK:∀{fls:List (Nat->Int)}{s:St2}{a:Int},(h.Gw fls s a).length=fls.length
 |[],_,_=>rfl
 |fl::r,s,a=>by show(h.Gw r (h.nxt s a fl) (a+1)).length+1=r.length+1;rw[ZEK]
def pgD(n:Nat)(pg:Nat->List Int):D:=.tup (By n pg)
@[simp]theorem ZL9{n:Nat}:bel m (pgD n pg)=vF:=by simp[pgD]
@[simp]theorem ZN2{n:Nat}{pgs:List (Nat->List Int)}:bels m (pgs.map (pgD n))=vF:=Dt λ_ _=>ZL9
@[simp]theorem ZRt{n:Nat}:bel m (stD n lv co)=vF:=by simp[stD]
theorem ZIQ(g:GoodH h)(hc:∀k j,k<h.n->j<5->0<=co k j)(hf:∀k,k<h.n->0<=fl k):(h.cs lv co a fl).NN h.n:=ZDV g h.n 0 _ (by lia) (ZFY hc hf)
noncomputable def enS:Int->List D->List D
 |_,[]=>[]
 |a,x::r=>.tup [.int a,x]::enS (a+1) r
theorem ZCT:∀(xs:List D)(a:Int)(j:Nat),(enS a xs)[j]?=xs[j]?.map λx=>.tup [.int (a+j),x]
 |[],a,j=>by simp[enS]
 |x::r,a,0=>by simp[enS]
 |x::r,a,j+1=>by
  show(enS (a+1) r)[j]?=r[j]?.map _;rw[ZCT r (a+1) j];have e:a+1+(j:Int)=a+((j+1:Nat):Int):=by lia
  rw[e]
theorem ZCc:∀(xs:List D)(a:Int),(enS a xs).length=xs.length
 |[],a=>rfl
 |x::r,a=>by show(enS (a+1) r).length+1=r.length+1;rw[ZCc]
theorem ZSM{g:DG}{b:DS}:Cy (Dh a (.fl xs)) g b xs.length 0 S G=Av g b (enS a xs) S G:=Nu (λj G=>by show vD (xs[j]?.map _)=_;rw[ZCT]) (ZCc xs a).symm
theorem ZBz(g:GoodH h){s2 s3:Option D}{G:DH}:∀(fls:List (Nat->Int))(s:St2)(a:Int)(acc:List D)(x5 x6 x7:Option D),acc.length+fls.length<=1000->(∀k j,k<h.n->j<5->0<=s.2 k j)->(∀fl∈fls,∀k,k<h.n->0<=fl k)->∃y5 y6 y7,
  Av (Ba 2 (Af (gV 5) (Af (gV 6) Bd))) Nv (enS a (Bl h.n fls)) [vD h.enc,vD (stD h.n s.1 s.2),s2,s3,zR G.length,x5,x6,x7] (G++[.lst acc])=
   .nx [vD h.enc,vD (stD h.n (h.Gu fls s a).1 (h.Gu fls s a).2),s2,s3,zR G.length,y5,y6,y7] (G++[.lst (acc++(h.Gw fls s a).map (pgD h.n))])
 |[],s,a,acc,x5,x6,x7,_,_,_=>⟨x5,x6,x7,by show Av _ _ [] _ _=_;rw[Dj];simp[Hs.Gu,Hs.Gw]⟩
 |fl::r,s,a,acc,x5,x6,x7,hl,hc,hf=>by
  have hf1:=hf fl (by simp);have nn:=ZIQ g (lv:=s.1) (fl:=fl) (co:=s.2) (a:=a) hc hf1;simp only[qV]at hl;obtain⟨y5,y6,y7,ih⟩:=ZBz g (s2:=s2) (s3:=s3) (G:=G) r (h.nxt s a fl) (a+1) (acc++[pgD h.n (h.cs s.1 s.2 a fl).page]) (zI a) (zT (tab h.n fl)) (vD (pgD h.n (h.cs s.1 s.2 a fl).page)) (by simp;lia) nn.2 (λf' hf'=>hf f' (zJ _ hf'));refine⟨y5,y6,y7,?_⟩;have ct:=ZPk g (lv:=s.1) (fl:=fl) (co:=s.2) (at_:=a) hc hf1
  have hal:acc.length<1000000:=by lia
  have hb:Nv [vD h.enc,vD (stD h.n s.1 s.2),s2,s3,zR G.length,zI a,zT (tab h.n fl),x7] (G++[.lst acc])=.nx [vD h.enc,vD (stD h.n (h.nxt s a fl).1 (h.nxt s a fl).2),s2,s3,zR G.length,zI a,zT (tab h.n fl),vD (pgD h.n (h.cs s.1 s.2 a fl).page)] (G++[.lst (acc++[pgD h.n (h.cs s.1 s.2 a fl).page])]):=by unfold Nv;simp[ct,Bu,Dk,hal,pgD,Hs.nxt]
  show Av _ _ (.tup [.int a,.tup (tab h.n fl)]::enS (a+1) (Bl h.n r)) _ _=_;rw[Cg];simp only[Pj,Oe,Og,Cd,R.Hn,R.Bs,qw,hb,Ce,qV,j2,Nat.reduceAdd,if_true];rw[ih];simp[Hs.Gu,Hs.Gw]
theorem ZBb{n:Nat}:(Bl n fls).length=fls.length:=by simp[Bl]
theorem Ua{G':DH}(h:bels G.length ds=vG):tidy G (.ok (.tup ds) G')=.ok (.tup ds) G':=by unfold tidy;simp[h]
theorem ZK9{e:D}(h1:bels G.length ds=vF)(h2:bel G.length e=vF):freeze G (.ok (.tup [.ref G.length,e]) (G++[.lst ds]))=.ok (.tup [.fl ds,e]) G:=by
 unfold freeze;have m:Eh (G++[.lst ds]) G.length 9 (.tup [.ref G.length,e])=zT [.fl ds,e]:=by
  unfold Eh;have m1:Eh (G++[.lst ds]) G.length 8 (.ref G.length)=zF ds:=by unfold Eh;simp[ZAY h1]
  have m2:Eh (G++[.lst ds]) G.length 8 e=vD e:=by unfold Eh;simp[h2]
  simp[Ib,m1,m2]
 simp[m]
theorem ZJm(g:GoodH h){s:St2}(hl:fls.length<=1000)(hc:∀k j,k<h.n->j<5->0<=s.2 k j)(hf:∀fl∈fls,∀k,k<h.n->0<=fl k)(G:DH):
  Mz [h.enc,stD h.n s.1 s.2,.int a,.fl (Bl h.n fls)] G=.ok (.tup [.ref G.length,stD h.n (h.Gu fls s a).1 (h.Gu fls s a).2]) (G++[.lst ((h.Gw fls s a).map (pgD h.n))]):=by
 obtain⟨y5,y6,y7,hL⟩:=ZBz g (s2:=zI a) (s3:=zF (Bl h.n fls)) (G:=G) fls s a [] vE vE vE (by simp;lia) hc hf;have hL':Cy (Dh a (.fl (Bl h.n fls))) (Ba 2 (Af (gV 5) (Af (gV 6) Bd))) Nv (Bl h.n fls).length 0 [vD h.enc,vD (stD h.n s.1 s.2),zI a,zF (Bl h.n fls),zR G.length,vE,vE,vE] (G++[.lst []])=
   .nx [vD h.enc,vD (stD h.n (h.Gu fls s a).1 (h.Gu fls s a).2),zI a,zF (Bl h.n fls),zR G.length,y5,y6,y7] (G++[.lst ((h.Gw fls s a).map (pgD h.n))]):=by
  rw[ZSM];exact hL
 have tt:∀e:D,tidy G (.ok (.tup [.ref G.length,e]) (G++[.lst ((h.Gw fls s a).map (pgD h.n))]))=.ok (.tup [.ref G.length,e]) (G++[.lst ((h.Gw fls s a).map (pgD h.n))]):=λe=>Ua (by simp)
 unfold Mz ZGC;rw[Ar];simp[Ah,Df,Nj,hL',An,tt]
theorem Wn{G:DH}{d:D}(hd:okD 30 d=vF):∀xs:List D,(∀x∈xs,okD 30 x=vF)->∃ks:List Bool,Ld G d xs=vD ks/\(ks.any id=vF↔d∈xs)
 |[],_=>⟨[],rfl,by simp⟩
 |x::xs,h=>by
  obtain⟨ks,h1,h2⟩:=Wn (G:=G) hd xs λy hy=>h y (zJ _ hy)
  obtain⟨b,h3,h4⟩:=T6 (G:=G) 30 x d (h x (by simp)) hd;refine⟨b::ks,by unfold Ld;rw[h3,h1],?_⟩;rw[List.any_cons,j1,h2,zx];exact⟨λz=>z.elim (λz=>.inl (h4.mp z).symm) .inr,λz=>z.elim (λz=>.inl (h4.mpr z.symm)) .inr⟩
theorem ZPp{d:D}(hd:okD 30 d=vF)(h:∀x∈xs,okD 30 x=vF){b:Bool}(hb:d∈xs↔b=vG):K8 d (.fl xs) G=.ok (.bl b) G:=by
 obtain⟨ks,h1,h2⟩:=Wn (G:=G) hd xs h;unfold K8 inE;have e:Bc (.fl xs) G=vD xs:=rfl;rw[e];simp only[h1,xX];cases hk:ks.any id with
 |true=>
  have:=hb.mp (h2.mp hk);subst this
  rfl
 |false=>
  cases b with
  |true=>rfl
  |false=>rw[h2.mpr (hb.mpr rfl)]at hk;cases hk
theorem ZH9{xs:List α}{x:α}:cutD (xs++[x]) vE (vD (-1))=xs:=by
 have e:HT.sIx (xs++[x]).length (xs++[x]).length (vD (-1))=xs.length:=by
  simp[HT.sIx]
  try lia
 unfold cutD;rw[e];simp[HT.sIx]
theorem R7{x:D}:atI (xs++[x]) (-1)=vD x:=by
 rw[ZB5 (by decide) (by simp;lia)];have e3:((-1:Int)+((xs++[x]).length:Int)).toNat=xs.length:=by simp;lia
 simp only[e3];simp
section
variable{H FL:D}{SW:Nat->D}{PG:Nat->List D}
structure Yr (H FL:D) (SW:Nat->D) (PG:Nat->List D):Prop where
 run:∀(w:Nat)(G:DH),Mz [H,SW w,.int 0,FL] G=.ok (.tup [.ref G.length,SW (w+1)]) (G++[.lst (PG w)])
 ok:∀w,okD 30 (SW w)=vF
 bel:∀w m,bel m (SW w)=vF
 pb:∀w m,bels m (PG w)=vF
 pl:∀w,(PG w).length<=24
noncomputable def pgs(PG:Nat->List D)(w:Nat):List D:=(zV w).flatMap PG
theorem ZHv:pgs PG (w+1)=pgs PG w++PG w:=by simp[pgs,jB]
theorem ZHd(h:∀w,(PG w).length<=24):∀w,(pgs PG w).length<=24*w
 |0=>zY _
 |w+1=>by have:=ZHd h w;have:=h w;rw[ZHv,qJ];lia
noncomputable def sts(SW:Nat->D)(w:Nat):List D:=(zV w).map SW
theorem Mm:sts SW (w+1)=sts SW w++[SW w]:=by simp[sts,jB]
theorem Ma:(sts SW w).length=w:=by simp[sts]
theorem Oq(hb:∀w m,bel m (SW w)=vF):bels m (sts SW w)=vF:=Dt λ_ _=>hb _ _
theorem V4(ho:∀w,okD 30 (SW w)=vF)(hb:∀w m,bel m (SW w)=vF){b:Bool}(h:SW w∈sts SW w↔b=vG){P:List D}:
  Om [s0,s1,s2,s3,zR G.length,s5,s6,s7] (G++ .lst (sts SW (w+1)):: .lst P::L)=.ok b (G++ .lst (sts SW (w+1)):: .lst P::L):=by
 have ha:atI (sts SW (w+1)) (-1)=vD (SW w):=by rw[Mm];exact R7
 have hc:cutD (sts SW (w+1)) vE (vD (-1))=sts SW w:=by rw[Mm];exact ZH9
 have hn:∀G,K8 (SW w) (.fl (sts SW w)) G=.ok (.bl b) G:=λG=>ZPp (ho w) (λx hx=>by obtain⟨i,_,rfl⟩:=zD.mp hx;exact ho i) h
 generalize hG:G++DO.lst (sts SW (w+1)):: .lst P::L=G1;have g0:G1[G.length]?=vD (.lst (sts SW (w+1))):=by rw[<-hG,Bu];rfl
 have hs:Kv (.ref G.length) vE (vD (-1)) G1=.ok (.ref G1.length) (G1++[.lst (sts SW w)]):=by unfold Kv;simp only[Fi,g0,hc]
 have fz:freeze G1 (.ok (.ref G1.length) (G1++[.lst (sts SW w)]))=.ok (.fl (sts SW w)) G1:=Du (Oq hb);unfold Om;simp[g0,ha,hs,fz,hn,Ho,Eu]
theorem ZHk(hy:Yr H FL SW PG)(hm:(w:Int)+1<=most)(hw:w<=1000):
  ∃(y6 y7:Option D),Jv [vD H,s1,vD FL,zI most,zR G.length,zR (G.length+1),s6,s7] (G++ .lst (sts SW (w+1)):: .lst (pgs PG w)::L)=
   .nx [vD H,s1,vD FL,zI most,zR G.length,zR (G.length+1),y6,y7] (G++ .lst (sts SW (w+2)):: .lst (pgs PG (w+1))::(L++[.lst (PG w)])):=by
 have ha:atI (sts SW (w+1)) (-1)=vD (SW w):=by rw[Mm];exact R7
 have hP:=ZHd hy.pl w;have hQ:=hy.pl w;rw[ZHv];generalize pgs PG w=P at*;have p2:=hy.run w (G++DO.lst (sts SW (w+1)):: .lst P::L);generalize PG w=pg at*;refine⟨zR (G++DO.lst (sts SW (w+1)):: .lst P::L).length,vD (SW (w+1)),?_⟩;have g0:(G++DO.lst (sts SW (w+1)):: .lst P::L)[G.length]?=vD (.lst (sts SW (w+1))):=by rw[Bu];rfl
 have ng:¬((((sts SW (w+1)).length:Nat):Int)>most):=by rw[Ma];lia
 have td:tidy (G++DO.lst (sts SW (w+1)):: .lst P::L) (.ok (.tup [.ref (G++DO.lst (sts SW (w+1)):: .lst P::L).length,SW (w+1)]) ((G++DO.lst (sts SW (w+1)):: .lst P::L)++[DO.lst pg]))=.ok (.tup [.ref (G++DO.lst (sts SW (w+1)):: .lst P::L).length,SW (w+1)]) ((G++DO.lst (sts SW (w+1)):: .lst P::L)++[DO.lst pg]):=Ua (by simp);have k1:((G++DO.lst (sts SW (w+1)):: .lst P::L)++[DO.lst pg])[G.length+1]?=vD (.lst P):=by
  rw[qI,O3]
  rfl
 have k2:((G++DO.lst (sts SW (w+1)):: .lst P::L)++[DO.lst pg])[(G++DO.lst (sts SW (w+1)):: .lst P::L).length]?=vD (.lst pg):=by simp
 have s1':∀o,((G++DO.lst (sts SW (w+1)):: .lst P::L)++[DO.lst pg]).set (G.length+1) o=G++ .lst (sts SW (w+1))::o::(L++[.lst pg]):=λo=>by
  rw[qI,R4]
  rfl
 have ex:Ln (.ref (G.length+1)) [.ref (G++DO.lst (sts SW (w+1)):: .lst P::L).length] ((G++DO.lst (sts SW (w+1)):: .lst P::L)++[DO.lst pg])=.ok .non (G++ .lst (sts SW (w+1)):: .lst (P++pg)::(L++[.lst pg])):=by unfold Ln;simp only[k1,k2];rw[if_pos (by lia),s1']
 have g3:(G++DO.lst (sts SW (w+1)):: .lst (P++pg)::(L++[DO.lst pg]))[G.length]?=vD (.lst (sts SW (w+1))):=by rw[Bu];rfl
 have s3:∀o,(G++DO.lst (sts SW (w+1)):: .lst (P++pg)::(L++[DO.lst pg])).set G.length o=G++o:: .lst (P++pg)::(L++[.lst pg]):=λo=>by rw[Dk];rfl
 have ll:(sts SW (w+1)).length<1000000:=by rw[Ma];lia
 have es:sts SW (w+2)=sts SW (w+1)++[SW (w+1)]:=Mm;rw[es];generalize(G++DO.lst (sts SW (w+1)):: .lst P::L)=G1 at*;generalize G++DO.lst (sts SW (w+1)):: .lst (P++pg)::(L++[DO.lst pg])=G2 at*;generalize sts SW (w+1)=ss at*;unfold Jv;simp[g0,ng,ha,p2,td,k1,ex,g3,s3,ll,Eu]
end
section
variable{H FL:D}{SW:Nat->D}{PG:Nat->List D}
theorem ZNG(hw:w<1000){P:List D}:
  Jv [s0,s1,s2,zI w,zR G.length,s5,s6,s7] (G++ .lst (sts SW (w+1)):: .lst P::L)=.err ⟨"TooLong",[("most",.int w)]⟩ (G++ .lst (sts SW (w+1)):: .lst P::L):=by
 generalize hG:G++DO.lst (sts SW (w+1)):: .lst P::L=G1;have g0:G1[G.length]?=vD (.lst (sts SW (w+1))):=by rw[<-hG,Bu];rfl
 have ng:(w:Int)<(((sts SW (w+1)).length:Nat):Int):=by rw[Ma];lia
 have hb:(0:Int)<=(w:Int)/\(w:Int)<1000:=by lia
 generalize sts SW (w+1)=ss at*;unfold Jv;simp[g0,ng,sRz,hb]
theorem ZCC(hy:Yr H FL SW PG)(hY:Y<=900)(hnew:∀w,w<Y->SW w∉sts SW w)(hag:SW Y∈sts SW Y){most:Int}(hm:(Y:Int)<=most){s1:Option D}{G:DH}:
  ∀(n w:Nat) (L:DH) (s6 s7:Option D),w<=Y->Y<w+n->∃(L':DH)(y6 y7:Option D),
   sWh Om Jv n [vD H,s1,vD FL,zI most,zR G.length,zR (G.length+1),s6,s7] (G++ .lst (sts SW (w+1)):: .lst (pgs PG w)::L)=
    .nx [vD H,s1,vD FL,zI most,zR G.length,zR (G.length+1),y6,y7] (G++ .lst (sts SW (Y+1)):: .lst (pgs PG Y)::L')
 |0,w,L,s6,s7,h1,h2=>by lia
 |n+1,w,L,s6,s7,h1,h2=>by
  by_cases e:w=Y
  ·subst e;refine⟨L,s6,s7,?_⟩;unfold sWh;rw[V4 hy.ok hy.bel (b:=vG) (by simp[hag])];simp
  ·obtain⟨y6,y7,hbd⟩:=ZHk hy (w:=w) (most:=most) (by lia) (by lia) (s1:=s1) (s6:=s6) (s7:=s7) (G:=G) (L:=L);obtain⟨L',z6,z7,b2⟩:=ZCC hy hY hnew hag hm (s1:=s1) (G:=G) n (w+1) (L++[.lst (PG w)]) y6 y7 (by lia) (by lia);refine⟨L',z6,z7,?_⟩;unfold sWh;rw[V4 hy.ok hy.bel (b:=vF) (by simp[hnew w (by lia)])];simp only[R.Bs,if_true,hbd,Ce];exact b2
theorem ZEr(hy:Yr H FL SW PG)(hM:M<1000)(hnew:∀w,w<=M->SW w∉sts SW w){s1:Option D}{G:DH}:
  ∀(n w:Nat)(L:DH)(s6 s7:Option D),w<=M->M<w+n->∃G',sWh Om Jv n [vD H,s1,vD FL,zI M,zR G.length,zR (G.length+1),s6,s7] (G++ .lst (sts SW (w+1)):: .lst (pgs PG w)::L)=.err ⟨"TooLong",[("most",.int M)]⟩ (G++G')
 |0,w,L,s6,s7,h1,h2=>by lia
 |n+1,w,L,s6,s7,h1,h2=>by
  have ht:=V4 hy.ok hy.bel (w:=w) (b:=vF) (by simp[hnew w h1]) (s0:=vD H) (s1:=s1) (s2:=vD FL) (s3:=zI M) (s5:=zR (G.length+1)) (s6:=s6) (s7:=s7) (G:=G) (L:=L) (P:=pgs PG w);by_cases e:w=M
  ·subst e;refine⟨.lst (sts SW (w+1)):: .lst (pgs PG w)::L,?_⟩;unfold sWh;rw[ht];simp only[R.Bs,if_true];rw[ZNG hM,ZLE]
  ·obtain⟨y6,y7,hbd⟩:=ZHk hy (w:=w) (most:=(M:Int)) (by lia) (by lia) (s1:=s1) (s6:=s6) (s7:=s7) (G:=G) (L:=L);obtain⟨G',ih⟩:=ZEr hy hM hnew (s1:=s1) (G:=G) n (w+1) (L++[.lst (PG w)]) y6 y7 (by lia) (by lia);refine⟨G',?_⟩;unfold sWh;rw[ht];simp only[R.Bs,if_true,hbd,Ce];exact ih
theorem ZPJ(hy:Yr H FL SW PG)(hY:Y<=900)(hnew:∀w,w<Y->SW w∉sts SW w)(hag:SW Y∈sts SW Y)(hm:(Y:Int)<=most)(G:DH):
  ∃L,Ml [H,SW 0,FL,.int most] G=.ok (.tup [.ref G.length,.ref (G.length+1)]) (G++ .lst (sts SW (Y+1)):: .lst (pgs PG Y)::L):=by
 obtain⟨L,y6,y7,b2⟩:=ZCC hy hY hnew hag hm (s1:=vD (SW 0)) (G:=G) fuel 0 [] vE vE (by lia) (by unfold fuel;lia);have e1:sts SW (0+1)=[SW 0]:=rfl;have e2:pgs PG 0=[]:=rfl;rw[e1,e2]at b2;have hb:=hy.bel;have tn:tidy G (.ok (.ref G.length) (G++[.lst [SW 0]]))=.ok (.ref G.length) (G++[.lst [SW 0]]):=Df (by simp[hb]);have tn2:tidy (G++[.lst [SW 0]]) (.ok (.ref (G.length+1)) (G++[.lst [SW 0],.lst []]))=.ok (.ref (G.length+1)) (G++[.lst [SW 0],.lst []]):=Yj rfl
 have td:tidy G (.ok (.tup [.ref G.length,.ref (G.length+1)]) (G++ .lst (sts SW (Y+1)):: .lst (pgs PG Y)::L))=.ok (.tup [.ref G.length,.ref (G.length+1)]) (G++ .lst (sts SW (Y+1)):: .lst (pgs PG Y)::L):=Ua (by simp);refine⟨L,?_⟩;generalize sts SW (Y+1)=ss at*;generalize pgs PG Y=ps at*;unfold Ml Ws;rw[Ar];simp[Ah,tn,tn2,b2,An,td]
theorem ZM2(hy:Yr H FL SW PG)(hM:M<1000)(hnew:∀w,w<=M->SW w∉sts SW w)(G:DH):
  ∃G',Ml [H,SW 0,FL,.int M] G=.err ⟨"TooLong",[("most",.int M)]⟩ (G++G'):=by
 obtain⟨G',b2⟩:=ZEr hy hM hnew (s1:=vD (SW 0)) (G:=G) fuel 0 [] vE vE (by lia) (by unfold fuel;lia);have e1:sts SW (0+1)=[SW 0]:=rfl;have e2:pgs PG 0=[]:=rfl;rw[e1,e2]at b2;have hb:=hy.bel;refine⟨G',?_⟩;have tn:tidy G (.ok (.ref G.length) (G++[.lst [SW 0]]))=.ok (.ref G.length) (G++[.lst [SW 0]]):=Df (by simp[hb]);have tn2:tidy (G++[.lst [SW 0]]) (.ok (.ref (G.length+1)) (G++[.lst [SW 0],.lst []]))=.ok (.ref (G.length+1)) (G++[.lst [SW 0],.lst []]):=Yj rfl
 unfold Ml Ws;rw[Ar];simp[Ah,tn,tn2,b2,tidy]
theorem ZBy(h0:∀G,Ae H (.int 0) G=.ok (.int yr) G)(h1:∀G,Bp [FL] G=.ok (.int yr) G)(G:DH):Lp [H,FL] G=.ok .non G:=by unfold Lp Vh;rw[Ar];simp[h0,h1,Bo]
end
section
variable{H FL:D}{SW:Nat->D}{PG:Nat->List D}
theorem X5(hy:Yr H FL SW PG)(h0:∀G,Ae H (.int 0) G=.ok (.int yr) G)(h1:∀G,Bp [FL] G=.ok (.int yr) G)(hY:Y<=900)(hnew:∀w,w<Y->SW w∉sts SW w)(hag:SW Y∈sts SW Y)(hm:(Y:Int)<=most)(G:DH):
  Fl [H,SW 0,FL,.int most] G=.ok (.ref G.length) (G++[.lst (sts SW (Y+1))]):=by
 obtain⟨L,hP⟩:=ZPJ hy hY hnew hag hm G;have hc:=ZBy h0 h1 G;have be:bels G.length (sts SW (Y+1))=vF:=Oq hy.bel;generalize sts SW (Y+1)=ss at*;generalize pgs PG Y=ps at*;have t1:tidy G (.ok (.tup [.ref G.length,.ref (G.length+1)]) (G++ .lst ss:: .lst ps::L))=.ok (.tup [.ref G.length,.ref (G.length+1)]) (G++ .lst ss:: .lst ps::L):=Ua (by simp);have t2:tidy G (.ok (.ref G.length) (G++ .lst ss:: .lst ps::L))=.ok (.ref G.length) (G++[.lst ss]):=Df be
 unfold Fl Sg;rw[Ar];simp[hc,hP,t1,t2]
theorem ZO6(hy:Yr H FL SW PG)(h0:∀G,Ae H (.int 0) G=.ok (.int yr) G)(h1:∀G,Bp [FL] G=.ok (.int yr) G)(hM:M<1000)(hnew:∀w,w<=M->SW w∉sts SW w)(G:DH):
  ∃G',Fl [H,SW 0,FL,.int M] G=.err ⟨"TooLong",[("most",.int M)]⟩ (G++G'):=by
 obtain⟨G',hP⟩:=ZM2 hy hM hnew G;have hc:=ZBy h0 h1 G;refine⟨G',?_⟩;unfold Fl Sg;rw[Ar];simp[hc,hP,tidy]
theorem ZJW{M:Int}{S:D}(h0:∀G,Ae H (.int 0) G=.ok (.int yr) G)(h1:∀G,Bp [FL] G=.ok (.int t) G)(hne:t≠yr)(G:DH):
  Fl [H,S,FL,.int M] G=.err ⟨"NoBounds",[]⟩ G:=by
 have hc:Lp [H,FL] G=.err ⟨"NoBounds",[]⟩ G:=by unfold Lp Vh;rw[Ar];simp[h0,h1,hne,Q9,tidy]
 unfold Fl Sg;rw[Ar];simp[hc,tidy]
end
def it55(h:Hs)(fls:List (Nat->Int))(s:St2):Nat->St2
 |0=>s
 |w+1=>h.Gu fls (it55 h fls s w) 0
def SW55(h:Hs)(fls:List (Nat->Int))(s:St2)(w:Nat):D:=stD h.n (it55 h fls s w).1 (it55 h fls s w).2
theorem ZFG{n:Nat}:okD (m+4) (stD n lv co)=vF:=by
 unfold stD;refine Ng (n:=m+3) λd hd=>?_
 simp only[zx,List.not_mem_nil,or_false]at hd;rcases hd with rfl|rfl
 ·refine Ng (n:=m+2) λd hd=>?_
  unfold tab at hd;obtain⟨i,_,rfl⟩:=zD.mp hd
  rfl
 ·refine Ng (n:=m+2) λd hd=>?_
  unfold Bg at hd;obtain⟨i,_,rfl⟩:=zD.mp hd;refine Ng (n:=m+1) λd hd=>?_
  unfold tab at hd;obtain⟨i,_,rfl⟩:=zD.mp hd
  rfl
section
variable{h:Hs}{fls:List (Nat->Int)}{s:St2}
theorem ZB6(g:GoodH h):∀(fls:List (Nat->Int))(s:St2)(a:Int),(∀k j,k<h.n->j<5->0<=s.2 k j)->(∀fl∈fls,∀k,k<h.n->0<=fl k)->∀k j,k<h.n->j<5->0<=(h.Gu fls s a).2 k j
 |[],s,a,hc,_=>hc
 |fl::r,s,a,hc,hf=>ZB6 g r (h.nxt s a fl) (a+1) (ZIQ g hc (hf fl (by simp))).2 λf' hf'=>hf f' (zJ _ hf')
theorem ZGD(g:GoodH h)(hc:∀k j,k<h.n->j<5->0<=s.2 k j)(hf:∀fl∈fls,∀k,k<h.n->0<=fl k):∀w k j,k<h.n->j<5->0<=(it55 h fls s w).2 k j
 |0=>hc
 |w+1=>ZB6 g fls _ 0 (ZGD g hc hf w) hf
theorem yr55(g:GoodH h)(hl:fls.length<=24)(hc:∀k j,k<h.n->j<5->0<=s.2 k j)(hf:∀fl∈fls,∀k,k<h.n->0<=fl k):
  Yr h.enc (.fl (Bl h.n fls)) (SW55 h fls s) λw=>(h.Gw fls (it55 h fls s w) 0).map (pgD h.n):=
 ⟨λw G=>ZJm g (by lia) (ZGD g hc hf w) hf G,λw=>ZFG (m:=26),λw m=>ZRt,λw m=>ZN2,λw=>by rw[qW,ZEK];exact hl⟩
end
section
variable{H FL:D}{SW:Nat->D}{PG:Nat->List D}
theorem ZPm{d:D}(hd:okD 30 d=vF)(h:∀x∈xs,okD 30 x=vF){b:Bool}(hb:d∈xs↔b=vF):Kw d (.fl xs) G=.ok (.bl b) G:=by
 obtain⟨ks,h1,h2⟩:=Wn (G:=G) hd xs h;unfold Kw inE;have e:Bc (.fl xs) G=vD xs:=rfl;rw[e];simp only[h1,xX];have:ks.any id=b:=by
  cases hk:ks.any id with
  |true=>exact(hb.mp (h2.mp hk)).symm
  |false=>
   cases b with
   |false=>rfl
   |true=>rw[h2.mpr (hb.mpr rfl)]at hk;cases hk
 rw[this]
theorem ZBU(hy:Yr H FL SW PG)(hw:w<=1000){b:Bool}(hb:SW (w+1)∈sts SW (w+1)↔b=vF):
  Lj [vD H,s1,vD FL,s3,zR G.length,x] (G++[.lst (sts SW (w+1))])=if b=vF then .rt (.ref G.length) (G++[.lst (sts SW (w+2))])else .nx [vD H,s1,vD FL,s3,zR G.length,x] (G++[.lst (sts SW (w+2))]):=by
 have g0:(G++[DO.lst (sts SW (w+1))])[G.length]?=vD (.lst (sts SW (w+1))):=by simp
 have ha:atI (sts SW (w+1)) (-1)=vD (SW w):=by rw[Mm];exact R7
 have rn:=hy.run w (G++[.lst (sts SW (w+1))]);have fr:=ZK9 (G:=G++[.lst (sts SW (w+1))]) (ds:=PG w) (e:=SW (w+1)) (hy.pb _ _) (hy.bel _ _);have ll:(sts SW (w+1)).length<1000000:=by rw[Ma];lia
 have es:sts SW (w+2)=sts SW (w+1)++[SW (w+1)]:=Mm;have st:(G++[DO.lst (sts SW (w+1))]).set G.length (.lst (sts SW (w+1)++[SW (w+1)]))=G++[.lst (sts SW (w+2))]:=by rw[es];simp
 have g1:(G++[DO.lst (sts SW (w+2))])[G.length]?=vD (.lst (sts SW (w+2))):=by simp
 have ha1:atI (sts SW (w+2)) (-1)=vD (SW (w+1)):=by rw[es];exact R7
 have hc:cutD (sts SW (w+2)) vE (vD (-1))=sts SW (w+1):=by rw[es];exact ZH9
 have hin:∀G,Kw (SW (w+1)) (.fl (sts SW (w+1))) G=.ok (.bl b) G:=λG=>ZPm (hy.ok _) (λx hx=>by obtain⟨i,_,rfl⟩:=zD.mp hx;exact hy.ok i) hb
 have hs:Kv (.ref G.length) vE (vD (-1)) (G++[DO.lst (sts SW (w+2))])=.ok (.ref (G++[DO.lst (sts SW (w+2))]).length) ((G++[DO.lst (sts SW (w+2))])++[.lst (sts SW (w+1))]):=by unfold Kv;simp only[Fi,g1,hc]
 have fz:freeze (G++[DO.lst (sts SW (w+2))]) (.ok (.ref (G++[DO.lst (sts SW (w+2))]).length) ((G++[DO.lst (sts SW (w+2))])++[.lst (sts SW (w+1))]))=.ok (.fl (sts SW (w+1))) (G++[DO.lst (sts SW (w+2))]):=Du (Oq hy.bel);rw[rn.symm]at fr;generalize G++[DO.lst (sts SW (w+1))]=G1 at*;generalize G++[DO.lst (sts SW (w+2))]=G2 at*;generalize sts SW (w+1)=ss at*;generalize sts SW (w+2)=tt at*
 unfold Lj;cases b with
 |true=>simp[g0,ha,fr,ll,st,g1,ha1,hs,fz,hin,Ho,Eu]
 |false=>simp[g0,ha,fr,ll,st,g1,ha1,hs,fz,hin,Ho,Eu]
theorem ZDv(hy:Yr H FL SW PG){s1 s3:Option D}{G:DH}:∀(m w:Nat)(x:Option D),w+m<=1000->(∀v,w<v->v<=w+m->SW v∉sts SW v)->∃y,
  Av (gV 5) Lj (Bk w m) [vD H,s1,vD FL,s3,zR G.length,x] (G++[.lst (sts SW (w+1))])=.nx [vD H,s1,vD FL,s3,zR G.length,y] (G++[.lst (sts SW (w+m+1))])
 |0,w,x,_,_=>⟨x,by rw[Lf,Dj]⟩
 |m+1,w,x,hm,hn=>by
  obtain⟨y,ih⟩:=ZDv hy (s1:=s1) (s3:=s3) (G:=G) m (w+1) (zI w) (by lia) λv h1 h2=>hn v (by lia) (by lia)
  refine⟨y,?_⟩;have hb:=ZBU hy (w:=w) (by lia) (b:=vG) (by simp[hn (w+1) (by lia) (by lia)]) (s1:=s1) (s3:=s3) (x:=zI w) (G:=G);have e1:((w:Int)+1)=((w+1:Nat):Int):=by lia
  have e2:w+(m+1)+1=w+1+m+1:=by lia
  rw[Hu,Cg];simp only[Cd,R.Bs,qw,hb,jq,if_false,Ce];rw[e1,e2];exact ih
theorem ZF5(hy:Yr H FL SW PG)(hag:SW Y∈sts SW Y){s1 s3:Option D}{G:DH}:∀(m w:Nat)(x:Option D),w+m<=1000->w<Y->Y<=w+m->(∀v,w<v->v<Y->SW v∉sts SW v)->
  Av (gV 5) Lj (Bk w m) [vD H,s1,vD FL,s3,zR G.length,x] (G++[.lst (sts SW (w+1))])=.rt (.ref G.length) (G++[.lst (sts SW (Y+1))])
 |0,w,x,_,h1,h2,_=>by lia
 |m+1,w,x,hm,h1,h2,hn=>by
  have e1:((w:Int)+1)=((w+1:Nat):Int):=by lia
  rw[Hu,Cg];by_cases e:Y=w+1
  ·subst e;have hb:=ZBU hy (w:=w) (by lia) (b:=vF) (by simp[hag]) (s1:=s1) (s3:=s3) (x:=zI w) (G:=G);simp only[Cd,R.Bs,qw,hb,if_true,ZK2]
  ·have hb:=ZBU hy (w:=w) (by lia) (b:=vG) (by simp[hn (w+1) (by lia) (by lia)]) (s1:=s1) (s3:=s3) (x:=zI w) (G:=G);simp only[Cd,R.Bs,qw,hb,jq,if_false,Ce];rw[e1];exact ZF5 hy hag m (w+1) (zI w) (by lia) (by lia) (by lia) λv h1 h2=>hn v (by lia) (by lia)
theorem ZQg(hy:Yr H FL SW PG)(hM:M<=100)(hn:∀v,v<=M->SW v∉sts SW v)(G:DH):freeze G (Jk [H,SW 0,FL,.int M] G)=.ok .non G:=by
 obtain⟨y,hL⟩:=ZDv hy (s1:=vD (SW 0)) (s3:=zI M) (G:=G) M 0 vE (by lia) λv _ h2=>hn v (by lia)
 have hL':Av (gV 5) Lj (Bk 0 M) [vD H,vD (SW 0),vD FL,zI M,zR G.length,vE] (G++[.lst [SW 0]])=_:=hL;have hb:=hy.bel;have tn:tidy G (.ok (.ref G.length) (G++[.lst [SW 0]]))=.ok (.ref G.length) (G++[.lst [SW 0]]):=Df (by simp[hb]);have hr:inR (M:Int):=Fo (by lia) (by lia);have td:∀L:DH,tidy G (.ok .non (G++L))=.ok .non G:=λL=>Hm rfl
 have hc:Jk [H,SW 0,FL,.int M] G=.ok .non G:=by unfold Jk ZBp;rw[Ar];simp[Ah,tn,hr,hL',td]
 rw[hc,I8 rfl]
theorem ZOf(hy:Yr H FL SW PG)(hM:M<=100)(h1:1<=Y)(h2:Y<=M)(hag:SW Y∈sts SW Y)(hn:∀v,v<Y->SW v∉sts SW v)(G:DH):freeze G (Jk [H,SW 0,FL,.int M] G)=.ok (.fl (sts SW (Y+1))) G:=by
 have hL:=ZF5 hy hag (s1:=vD (SW 0)) (s3:=zI M) (G:=G) M 0 vE (by lia) (by lia) (by lia) λv _ h2=>hn v h2
 have hL':Av (gV 5) Lj (Bk 0 M) [vD H,vD (SW 0),vD FL,zI M,zR G.length,vE] (G++[.lst [SW 0]])=_:=hL;have hb:=hy.bel;have tn:tidy G (.ok (.ref G.length) (G++[.lst [SW 0]]))=.ok (.ref G.length) (G++[.lst [SW 0]]):=Df (by simp[hb]);have hr:inR (M:Int):=Fo (by lia) (by lia);have td:tidy G (.ok (.ref G.length) (G++[.lst (sts SW (Y+1))]))=.ok (.ref G.length) (G++[.lst (sts SW (Y+1))]):=Df (Oq hb)
 have fz:freeze G (.ok (.ref G.length) (G++[.lst (sts SW (Y+1))]))=.ok (.fl (sts SW (Y+1))) G:=Du (Oq hb);generalize sts SW (Y+1)=ss at*;have hc:Jk [H,SW 0,FL,.int M] G=.ok (.ref G.length) (G++[.lst ss]):=by unfold Jk ZBp;rw[Ar];simp[Ah,tn,hr,hL',td]
 rw[hc,fz]
end
section
variable{H S FL:D}{M:Int}{G G':DH}
theorem Nk{tb:List (Str×Bool)}{c:Str}{fs:List (Str×D)}{b:Bool}(h:G[i]?=vD (.exc c fs))(hb:tb.lookup c=vD b):isx tb (.ref i) G=.ok (.bl b) G:=by unfold isx;simp only[h,hb]
theorem ZEV{c:Str}{fs:List (Str×D)}(h:G[i]?=vD (.exc c fs))(hc:c="NoBounds"∨c="TooLong"):Py [.ref i] G=.ok (.bl vG) G:=by
 have e1:isx [("NoBounds",vG),("TooLong",vG)] (.ref i) G=.ok (.bl vG) G:=Nk h (by rcases hc with rfl|rfl<;>rfl)
 unfold Py ZGp;rw[Ar];simp[e1,Bo]
theorem ZQV(he:∀G,Fl [H,S,FL,.int M] G=.err ⟨"NoBounds",[]⟩ G)(G:DH):Ks [H,S,FL,.int M] G=.ok (.tup [.str "bounds",.int 0]) G:=by
 have g0:(G++[DO.exc "NoBounds" []])[G.length]?=vD (.exc "NoBounds" []):=by simp
 have g1:(G++[DO.exc "NoBounds" []]++[DO.exc "NoBounds" []])[(G++[DO.exc "NoBounds" []]).length]?=vD (.exc "NoBounds" []):=by simp
 have i1:=Nk (tb:=[("NoBounds",vG),("TooLong",vF)]) (b:=vG) g0 rfl;have i2:=ZEV g0 (.inl rfl);have i3:=Nk (tb:=[("NoBounds",vF),("TooLong",vF)]) (b:=vF) g1 rfl;have td:∀L:DH,tidy G (.ok (.tup [.str "bounds",.int 0]) (G++L))=.ok (.tup [.str "bounds",.int 0]) G:=λL=>Hm rfl
 have fz:freeze (G++[DO.exc "NoBounds" []]++[DO.exc "NoBounds" []]) (.ok (.ref (G++[DO.exc "NoBounds" []]++[DO.exc "NoBounds" []]).length) ((G++[DO.exc "NoBounds" []]++[DO.exc "NoBounds" []])++[.lst [.str "bad",.str "refused"]]))=.ok (.fl [.str "bad",.str "refused"]) (G++[DO.exc "NoBounds" []]++[DO.exc "NoBounds" []]):=Du rfl;have td2:tidy G (.ok (.tup [.str "bounds",.int 0]) (G++[DO.exc "NoBounds" []]++[DO.exc "NoBounds" []]))=.ok (.tup [.str "bounds",.int 0]) G:=by rw[qI];exact td _
 have he1:=he G;have he2:=he (G++[DO.exc "NoBounds" []]);generalize hG1:G++[DO.exc "NoBounds" []]=G1 at*;generalize hG2:G1++[DO.exc "NoBounds" []]=G2 at*;have n1:("refused":Str)≠"bad":=by decide
 have n2:("refused":Str)≠"none":=by decide
 have n3:("bounds":Str)≠"none":=by decide
 unfold Ks Zz Wh ZBH ZBN;rw[Ar];simp[An,Ip,dTc,he1,Jl,hG1,i1,i2,unnm,he2,hG2,Ah,fz,i3,td2,n1,n2,n3]
theorem ZPT{M:Nat}(he:∀G,∃G',Fl [H,S,FL,.int M] G=.err ⟨"TooLong",[("most",.int M)]⟩ (G++G'))(G:DH):Ks [H,S,FL,.int M] G=.ok (.tup [.str "long",.int M]) G:=by
 obtain⟨K1,he1⟩:=he G;obtain⟨L1,hL1⟩:∃L1:DH,L1=G++K1++[DO.exc "TooLong" [("most",.int M)]]:=⟨_,rfl⟩;obtain⟨K2,he2⟩:=he L1;have g0:L1[(G++K1).length]?=vD (.exc "TooLong" [("most",.int M)]):=by rw[hL1];simp
 have g1:(L1++K2++[DO.exc "TooLong" [("most",.int M)]])[(L1++K2).length]?=vD (.exc "TooLong" [("most",.int M)]):=by simp
 have i1:=Nk (tb:=[("NoBounds",vG),("TooLong",vG)]) (b:=vG) g0 rfl;have i2:=ZEV g0 (.inr rfl);have i3:=Nk (tb:=[("NoBounds",vF),("TooLong",vF)]) (b:=vF) g1 rfl;have i4:gtx ["TooLong"] "most" (.ref (G++K1).length) L1=.ok (.int M) L1:=by
  unfold gtx;simp only[g0]
  rfl
 have td:∀L:DH,tidy G (.ok (.tup [.str "long",.int M]) (G++L))=.ok (.tup [.str "long",.int M]) G:=λL=>Hm rfl
 have fz:∀(L:DH)(a b:Str),freeze L (.ok (.ref L.length) (L++[.lst [.str a,.str b]]))=.ok (.fl [.str a,.str b]) L:=λL a b=>Du rfl
 have td2:tidy G (.ok (.tup [.str "long",.int M]) (L1++K2++[DO.exc "TooLong" [("most",.int M)]]))=.ok (.tup [.str "long",.int M]) G:=by rw[hL1];simp only[qI];exact td _
 have e1:∀x:Option D,(G++K1).length=(G++K1).length:=λ_=>rfl
 have n0:("TooLong":Str)≠"NoBounds":=by decide
 have n1:("refused":Str)≠"bad":=by decide
 have n2:("refused":Str)≠"none":=by decide
 have n3:("long":Str)≠"none":=by decide
 generalize hG0:G++K1=G0 at*;generalize hG2:L1++K2=G2 at*;generalize hG3:G2++[DO.exc "TooLong" [("most",.int (M:Int))]]=G3 at*;unfold Ks Zz Wh ZBH ZBN;rw[Ar];simp[An,Ip,dTc,he1,Jl,n0,<-hL1,i1,i2,i4,unnm,he2,hG3,Ah,fz,i3,td2,n1,n2,n3]
end
theorem ZEI{g:DG}{b:DS}(P:DSt->Prop)(hG:G[i]?=vD (.lst xs))(step:∀x∈xs,∀S,P S->∃S1,g x S G=.ok S1 G/\∃S2,b S1 G=.nx S2 G/\P S2):
  ∀(n j:Nat)(S:DSt),P S->j+n=xs.length->∃S',P S'/\_D.forM i g b n j S G=.nx S' G
 |0,j,S,h,e=>⟨S,h,by unfold _D.forM;rw[hG];simp only;rw[if_pos (by lia)]⟩
 |n+1,j,S,h,e=>by
  have hj:j<xs.length:=by lia
  obtain⟨S1,h1,S2,h2,h3⟩:=step xs[j] (qx hj) S h;obtain⟨S',p',ih⟩:=ZEI P hG step n (j+1) S2 h3 (by lia);refine⟨S',p',?_⟩;unfold _D.forM;rw[hG];simp only;rw[zZ hj];simp only[h1,R.Bs,h2,Ce,ih]
theorem ZEL{n:Nat}(hn:n<=1000)(G:DH):Nh [.tup (tab n F)] G=.ok (.bl vF) G:=by
 have cp:Cu (gV 0) Bh S7 [vE] (tab n F) G=.ok ((zV n).map λ_=>D.bl vF) G:=Nm (te:=S7) (S:=[vE]) (E:=λi=>.int (F i)) (F:=λ_=>.bl vF) (G:=G) (l:=zV n) λa _=>by unfold S7;simp[tyD]
 have hl:((zV n).map λ_=>D.bl vF).length<=1000000:=by simp;lia
 have eb:((zV n).map λ_=>D.bl vF)=((zV n).map λ_=>vF).map D.bl:=by rw[jx];rfl
 have ha:((zV n).map λ_=>vF).all id=vF:=by rw[List.all_map];simp
 rw[eb]at cp hl;generalize((zV n).map λ_=>vF)=ks at*;have fz:freeze G (.ok (.ref G.length) (G++[.lst (ks.map D.bl)]))=.ok (.fl (ks.map D.bl)) G:=Du (Dt λ_ _=>rfl);have it:Ec (.tup (tab n F)) G=.ok (.pure (tab n F)) G:=rfl;have hl2:ks.length<=1000000:=by simpa using hl
 unfold Nh ZD4;rw[Ar];simp[tyD,it,Ay,cp,hl2,fz,ha,Bo]
theorem ZMM{n:Nat}(hn:n<=1000)(G:DH):Uu [s0,vD (stD n lv co)] G=.nx [s0,vD (stD n lv co)] G:=by
 have c1:=ZEL hn (F:=lv) G;have cp:Cu (gV 0) Bh Sq [vE] (Bg n co) G=.ok ((zV n).map λ_=>D.bl vF) G:=Nm (te:=Sq) (S:=[vE]) (E:=λk=>.tup (tab 5 (co k))) (F:=λ_=>.bl vF) (G:=G) (l:=zV n) λa _=>by unfold Sq;simp[ZEL (n:=5) (by lia)]
 have hl:((zV n).map λ_=>D.bl vF).length<=1000000:=by simp;lia
 have eb:((zV n).map λ_=>D.bl vF)=((zV n).map λ_=>vF).map D.bl:=by rw[jx];rfl
 have ha:((zV n).map λ_=>vF).all id=vF:=by rw[List.all_map];simp
 rw[eb]at cp hl;generalize((zV n).map λ_=>vF)=ks at*;have fz:freeze G (.ok (.ref G.length) (G++[.lst (ks.map D.bl)]))=.ok (.fl (ks.map D.bl)) G:=Du (Dt λ_ _=>rfl);have it:Ec (.tup (Bg n co)) G=.ok (.pure (Bg n co)) G:=rfl;have hl2:ks.length<=1000000:=by simpa using hl
 unfold Uu stD;simp[tyD,c1,it,Ay,cp,hl2,fz,ha]
theorem ZSa{n:Nat}(hn:n<=1000){L:Nat->Nat->Int}{C:Nat->Nat->Nat->Int}(hG:G[i]?=vD (.lst (sts (λw=>stD n (L w) (C w)) m))):Nb [.ref i] G=.ok (.bl vF) G:=by
 obtain⟨S',⟨y,rfl⟩,hL⟩:=ZEI (g:=gV 1) (b:=Uu) (P:=λS=>∃y,S=[zR i,y]) hG (λx hx S ⟨y,e⟩=>by subst e;obtain⟨w,_,rfl⟩:=zD.mp hx;exact⟨_,Cd,_,ZMM hn G,_,rfl⟩) (sts (λw=>stD n (L w) (C w)) m).length 0 [zR i,vE] ⟨vE,rfl⟩ (by lia)
 have it:Ec (.ref i) G=.ok (.mt i) G:=by simp[Ec,hG]
 have tl:tyD G (.ref i)=vD .lst:=by simp[tyD,hG]
 generalize sts (λw=>stD n (L w) (C w)) m=ss at*;unfold Nb ZIV;rw[Ar];simp[tl,it,hG,hL,Bo]
section
variable{h:Hs}{fls:List (Nat->Int)}{s:St2}
theorem ZDI{SW:Nat->D}:∀M:Nat,(∀v,v<=M->SW v∉sts SW v)∨∃Y,1<=Y/\Y<=M/\SW Y∈sts SW Y/\∀v,v<Y->SW v∉sts SW v
 |0=>.inl λv hv=>by
  have:v=0:=by lia
  subst this;simp[sts]
 | M+1=>by
  rcases ZDI (SW:=SW) M with a|⟨Y,a,b,c,d⟩
  ·by_cases e:SW (M+1)∈sts SW (M+1)
   ·exact .inr ⟨M+1,by lia,by lia,e,λv hv=>a v (by lia)⟩
   ·refine .inl λv hv=>?_
    by_cases z:v=M+1
    ·subst z;exact e
    ·exact a v (by lia)
  ·exact .inr ⟨Y,a,by lia,c,d⟩
theorem ZJY{n:Nat}:okD 30 (.fl (sts (SW55 h fls s) n))=vF:=ZFt (n:=29) λd hd=>by obtain⟨w,_,rfl⟩:=zD.mp hd;exact ZFG (m:=25)
theorem ZNB:okD 30 (.fl (Bl h.n fls))=vF:=ZFt (n:=29) λd hd=>by
 obtain⟨fl,_,rfl⟩:=zD.mp hd;refine Ng (n:=28) λd hd=>?_
 obtain⟨x,_,rfl⟩:=zD.mp hd
 rfl
theorem tail55(g:GoodH h)(hyr:h.yr<=24)(hl:fls.length<=25)(hc:∀k j,k<h.n->j<5->0<=s.2 k j)(hf:∀fl∈fls,∀k,k<h.n->0<=fl k)(hM:M<=9):
  ∃G,Mw [s0,vD h.enc,vD (stD h.n s.1 s.2),s3,zI fls.length,zI M,zF (Bl h.n fls),vE,vE,vE,vE] []=.rt (.bl vF) G:=by
 have hn:=g.len;have h0:∀G,Ae h.enc (.int 0) G=.ok (.int h.yr) G:=λG=>Ww
 have e0:stD h.n s.1 s.2=SW55 h fls s 0:=rfl;rw[e0];by_cases hy:((fls.length:Nat):Int)=h.yr
 ·have h1:∀G,Bp [.fl (Bl h.n fls)] G=.ok (.int h.yr) G:=λG=>by simp[ZBb,hy]
  have Y:=yr55 g (by lia) hc hf;have ok:∀n,okD 30 (.fl (sts (SW55 h fls s) n))=vF:=λn=>ZJY
  rcases ZDI (SW:=SW55 h fls s) M with hnew|⟨y,y1,y2,hag,hnew⟩
  ·have ly:=ZQg Y (M:=M) (by lia) hnew [];have rf:=ZPT (M:=M) (λG=>ZO6 Y h0 h1 (by lia) hnew G) [];have fz:freeze ([]:DH) (.ok (.tup [.str "long",.int (M:Int)]) [])=.ok (.tup [.str "long",.int (M:Int)]) []:=I8 rfl;have eq:∀G,Bf (.tup [.str "long",.int (M:Int)]) (.tup [.str "long",.int (M:Int)]) G=.ok (.bl vF) G:=λG=>Za rfl
   refine⟨[],?_⟩;generalize h.enc=H at*;generalize SW55 h fls s 0=S0 at*;generalize Bl h.n fls=FL at*;unfold Mw ZBV Ve;simp[h0,hy,ly,rf,fz,tyD,An,eq]
  ·have ly:=ZOf Y (M:=M) (by lia) y1 y2 hag hnew [];have ev1:=X5 Y h0 h1 (Y:=y) (by lia) hnew hag (most:=(M:Int)) (by lia) [];have lk:=ZSa (n:=h.n) (by lia) (L:=λw=>(it55 h fls s w).1) (C:=λw=>(it55 h fls s w).2) (m:=y+1) (i:=0) (G:=[.lst (sts (SW55 h fls s) (y+1))]) rfl;have ev2:=X5 Y h0 h1 (Y:=y) (by lia) hnew hag (most:=100) (by lia) [.lst (sts (SW55 h fls s) (y+1)++[.int 1])]
   have ev3:=X5 Y h0 h1 (Y:=y) (by lia) hnew hag (most:=(y:Int)) (by lia) [.lst (sts (SW55 h fls s) (y+1)++[.int 1]),.lst (sts (SW55 h fls s) (y+1))];have ln:(((sts (SW55 h fls s) (y+1)).length:Nat):Int)-1=(y:Int):=by rw[Ma];lia
   have ll:(sts (SW55 h fls s) (y+1)).length<1000000:=by rw[Ma];lia
   have fz:freeze ([]:DH) (.ok (.ref 0) [.lst (Bl h.n fls)])=.ok (.fl (Bl h.n fls)) []:=Du (G:=[]) (L:=[]) ZCV;have lF:(Bl h.n fls).length<=1000000:=by rw[ZBb];lia
   have neF:∀G,Dw (.fl (Bl h.n fls)) (.fl (Bl h.n fls)) G=.ok (.bl vG) G:=λG=>ZD8 ZNB
   have ne1:Dw (.ref 0) (.fl (sts (SW55 h fls s) (y+1))) [.lst (sts (SW55 h fls s) (y+1))]=.ok (.bl vG) [.lst (sts (SW55 h fls s) (y+1))]:=by rw[ZMG (i:=0) rfl];exact ZD8 (ok _)
   have eqA:∀(G:DH)(i:Nat),G[i]?=vD (.lst (sts (SW55 h fls s) (y+1)))->Bf (.ref i) (.fl (sts (SW55 h fls s) (y+1))) G=.ok (.bl vF) G:=λG i hG=>by rw[ZJD hG];exact Za (ok _)
   have eq2:=eqA [.lst (sts (SW55 h fls s) (y+1)++[.int 1]),.lst (sts (SW55 h fls s) (y+1))] 1 rfl;have eq3:=eqA [.lst (sts (SW55 h fls s) (y+1)++[.int 1]),.lst (sts (SW55 h fls s) (y+1)),.lst (sts (SW55 h fls s) (y+1))] 2 rfl;have lk':Nb [.ref 0] [.lst (sts (SW55 h fls s) (y+1))]=.ok (.bl vF) [.lst (sts (SW55 h fls s) (y+1))]:=lk;refine⟨[.lst (sts (SW55 h fls s) (y+1)++[.int 1]),.lst (sts (SW55 h fls s) (y+1)),.lst (sts (SW55 h fls s) (y+1))],?_⟩
   ·generalize h.enc=H at*;generalize SW55 h fls s 0=S0 at*;generalize Bl h.n fls=FL at*;generalize sts (SW55 h fls s) (y+1)=ss at*;unfold Mw ZBV Ve ZFV ZBs ZGg ZCi ZGl;simp[h0,hy,ly,fz,lF,ev1,lk',ne1,neF,ll,dfx,ev2,eq2,dKw,ln,ev3,eq3,Ii]
 ·have h1:∀G,Bp [.fl (Bl h.n fls)] G=.ok (.int (fls.length:Nat)) G:=λG=>by simp[ZBb]
  have rf:=ZQV (M:=(M:Int)) (λG=>ZJW (S:=SW55 h fls s 0) h0 h1 hy G) [];have fz:freeze ([]:DH) (.ok (.tup [.str "bounds",.int 0]) [])=.ok (.tup [.str "bounds",.int 0]) []:=I8 rfl;have eq:∀G,Bf (.tup [.str "bounds",.int 0]) (.tup [.str "bounds",.int 0]) G=.ok (.bl vF) G:=λG=>Za rfl
  refine⟨[],?_⟩;generalize h.enc=H at*;generalize SW55 h fls s 0=S0 at*;generalize Bl h.n fls=FL at*;unfold Mw;simp[h0,hy,rf,fz,An,eq]
end
theorem ZR7(hl:ns.length<=63):∃G,K4 [.fl (ns.map D.int)] []=.ok (.bl vF) G:=by
 obtain⟨f,hf⟩:=cells hl;obtain⟨u,hu1,cu⟩:=ZN8 hf;have hu:0<u:=by lia
 obtain⟨yr,hyr,cy⟩:=ZJ1 hf;obtain⟨h,hT,ch⟩:=ZSS hf hyr cy hu cu;have g:=hT.good;have hn:=g.len;have hy:h.yr=yr:=hT.ey;have g0:=g.yr;have h3:∀G,Aq [.fl (ns.map D.int),.int 3] G=.ok (.int (f 3)) G:=hf 3 (by lia);have h4:∀G,Aq [.fl (ns.map D.int),.int 4] G=.ok (.int (f 4)) G:=hf 4 (by lia)
 obtain⟨t,et⟩:∃t:Nat,(t:Int)=if f 4%8=1 then h.yr-1+2*(f 4/8%2)else h.yr:=⟨(if f 4%8=1 then h.yr-1+2*(f 4/8%2)else h.yr).toNat,by split <;> lia⟩
 have ht:t<=25:=by split at et<;>lia
 have ht1:6+14*h.n+t*h.n<=1000:=by have hm:=Nat.mul_le_mul ht hn;lia
 obtain⟨M,eM⟩:∃M:Nat,(M:Int)=f 3%10:=⟨(f 3%10).toNat,by lia⟩;have cs:=ZKn hf hu cu g;have cf:=ZQQ hf hu cu g ht1 (by lia) [];have so:∀k j,k<h.n->j<5->0<=coS h f u k j:=λk j _ _=>ZKr hu k j
 have hfn:∀fl∈(zV t).map (flS h.n f u),∀k,k<h.n->0<=fl k:=λfl hm k _=>by obtain⟨i,_,rfl⟩:=zD.mp hm;exact ZO8 hu i k
 have l1:((zV t).map (flS h.n f u)).length=t:=by simp
 obtain⟨G,tl⟩:=tail55 g (by lia) (fls:=(zV t).map (flS h.n f u)) (s:=(lvS h f u,coS h f u)) (by rw[l1];exact ht) so hfn (M:=M) (by lia) (s0:=zF (ns.map D.int)) (s3:=zI (f 4));rw[l1]at tl;have fz:freeze ([]:DH) (.ok (.ref 0) [.lst (Bl h.n ((zV t).map (flS h.n f u)))])=.ok (.fl (Bl h.n ((zV t).map (flS h.n f u)))) []:=Du (G:=[]) (L:=[]) ZCV;have cf':Oc [.fl (ns.map D.int),h.enc,.int t] []=.ok (.ref 0) [.lst (Bl h.n ((zV t).map (flS h.n f u)))]:=cf
 have cs':∀G,Pn [.fl (ns.map D.int),h.enc] G=.ok (stD h.n (lvS h f u) (coS h f u)) G:=cs;have h0:∀G,Ae h.enc (.int 0) G=.ok (.int h.yr) G:=λG=>Ww
 have td:tidy ([]:DH) (.ok (.bl vF) G)=.ok (.bl vF) []:=Hm (G:=[]) (L:=G) rfl;refine⟨[],?_⟩;have tl':Mw [zF (ns.map D.int),vD h.enc,vD (stD h.n (lvS h f u) (coS h f u)),zI (f 4),zI t,zI M,zF (Bl h.n ((zV t).map (flS h.n f u))),vE,vE,vE,vE] []=.rt (.bl vF) G:=tl;generalize Bl h.n ((zV t).map (flS h.n f u))=FL at*;generalize stD h.n (lvS h f u) (coS h f u)=ST at*
 generalize h.enc=H at*;unfold K4 ZIH ZHM ZDf ZIR ZHc ZF3 ZEM;rw[Ar];by_cases z:f 4%8=1
 ·rw[if_pos z]at et;simp[ch,cs',h4,h0,z,<-et,h3,<-eM,cf',fz,tl',td]
 ·rw[if_neg z]at et;rw[<-et]at h0;simp[ch,cs',h4,h0,z,h3,<-eM,cf',fz,tl',td]
theorem holds:Holds:=λns hl=>ZR7 hl
end _W
namespace _W
open PySem _L _D
seal QE QT QA QS QSs QG QGs QI QTs QW QO
structure Txt (K:PySem.W.Frag) (mg:Str->Option xC):Prop where
 ZAg:FT K mg "_law_off" ZAf ZBn
 Xz:FT K mg "_law_tape" Wz ZAq
 ZAK:FT K mg "_law_cell_at" V7 Wb
 Xi:FT K mg "_law_amount" ZAc ZAe
 X6:FT K mg "_law_unit" W7 Yl
 ZAZ:FT K mg "_law_floods" Wf Xq
 Yg:FT K mg "_law_pumped" Wr Zf
 Xm:FT K mg "_law_steps" Wg Vi
 ZAo:FT K mg "_law_year" Yi Yx
 Wj:FT K mg "_law_rule" ZBi Va
 ZBe:FT K mg "_law_basin" ZA2 W3
 Vl:FT K mg "_law_name" V9 ZBO
 Wk:FT K mg "_law_house" Zy ZAk
 ZBZ:FT K mg "_law_other" ZBc ZAW
 Pa:FT K mg "check_year" Vp Xw
 Vs:MT K "Course" "__init__" "Course.__init__" ZAv Ye
 Uk:MT K "Course" "send" "Course.send" Yt Vf
 Vu:FT K mg "number_of" Vw ZBh
 Yz:FT K mg "down_of" Vc Yy
 V0:MT K "Course" "send_down" "Course.send_down" Zr ZBS
 Vd:FT K mg "opened" ZAa ZBa
 Zu:FT K mg "stairs_at" Wq ZBL
 Qv:MT K "Course" "go_basin" "Course.go_basin" Z4 ZAN
 Vb:FT K mg "passed" Zd ZBm
 ZA5:FT K mg "down_in_reach" Yk Yw
 Yb:FT K mg "reach_rows" Ys ZBB
 ZAl:FT K mg "served" ZBP ZBD
 Xd:FT K mg "way_down" Vr Zk
 Z0:FT K mg "shares" ZBI ZAj
 Qk:MT K "Course" "go_reach" "Course.go_reach" Zq Xh
 Wl:FT K mg "lasts_of_reaches" Z9 ZBF
 R6:MT K "Course" "go" "Course.go" ZA1 We
 Rq:MT K "Course" "state_behind" "Course.state_behind" W8 Vx
 ZBl:FT K mg "turn" W2 Zo
 Vj:FT K mg "run" Y6 ZA8
 Ow:FT K mg "years_until_again" Wt Wo
 Kq:FTD K mg "ever" ZAd T9 100
 Yo:FT K mg "_law_refusal" W9 Ze
 ZBj:FT K mg "_law_state" Ym ZAh
 ZBT:FT K mg "_law_plain" Zc Xk
 Xy:FT K mg "_law_states_like" Yc Yu
 V2:FT K mg "_law_years" Y0 W4
 Uy:FT K mg "law" Gh Yn
 Ed:CT K mg "Course"
 ZDx:NoAttr K (Ab K "Course") "came"
 ZGt:NoAttr K (Ab K "Course") "coming"
 ZCs:NoAttr K (Ab K "Course") "house"
 ZET:NoAttr K (Ab K "Course") "levels"
 ZHf:NoAttr K (Ab K "Course") "page"
 ZFA:NoAttr K (Ab K "Course") "reaches"
 ZFn:NoAttr K (Ab K "Course") "year_turn"
 ZRs:mg "ValueError"=vE
 ZP3:mg "all"=vE
 ZQf:mg "bool"=vE
 ZKj:mg "enumerate"=vE
 Uw:mg "int"=vE
 Lw:mg "isinstance"=vE
 ZLr:mg "len"=vE
 ZSV:mg "list"=vE
 ZNE:mg "max"=vE
 ZOZ:mg "min"=vE
 ZIv:mg "range"=vE
 ZKu:mg "sorted"=vE
 ZMX:mg "tuple"=vE
 ZLM:mg "zip"=vE
 ZGh:mg "BRIM"=vD (.int 4 (Cz K "BRIM"))
 ZHx:mg "DELAY"=vD (.int 3 (Cz K "DELAY"))
 ZDh:mg "DOWN"=vD (.int 2 (Cz K "DOWN"))
 ZHX:mg "KIND"=vD (.int 0 (Cz K "KIND"))
 ZCB:mg "LIES"=vD (.int 5 (Cz K "LIES"))
 ZEB:mg "NAME"=vD (.int 1 (Cz K "NAME"))
 ZBx:mg "NEED"=vD (.int 4 (Cz K "NEED"))
 ZDL:mg "PLACES"=vD (.int 1 (Cz K "PLACES"))
 ZIS:mg "PUMP"=vD (.int 6 (Cz K "PUMP"))
 ZIF:mg "PUMP_DELAY"=vD (.int 1 (Cz K "PUMP_DELAY"))
 ZGJ:mg "PUMP_TO"=vD (.int 0 (Cz K "PUMP_TO"))
 ZHi:mg "RANK"=vD (.int 5 (Cz K "RANK"))
 ZDe:mg "ROW_DOWN"=vD (.int 0 (Cz K "ROW_DOWN"))
 ZFI:mg "ROW_NEED"=vD (.int 2 (Cz K "ROW_NEED"))
 ZFO:mg "ROW_RANK"=vD (.int 3 (Cz K "ROW_RANK"))
 ZCy:mg "ROW_WATER"=vD (.int 1 (Cz K "ROW_WATER"))
 ZCv:mg "RULE"=vD (.int 5 (Cz K "RULE"))
 ZCa:mg "SEA"=vD (.str "sea" (Cz K "SEA"))
 ZDY:mg "YEAR"=vD (.int 0 (Cz K "YEAR"))
 Xe:MT K "TooLong" "__init__" "TooLong.__init__" Xp ["self","most"]
 Gi:ET K mg "TooLong" "most"
 I9:ET0 K mg "NoBounds"
 ZFq:XBase K mg "WaterError" (Ab K "WaterError")
 Wm:mg "NoAsk"=vD (.ref (Ab K "NoAsk"))
 ZH7:mg "NoBounds"=vD (.ref (Ab K "NoBounds"))
 ZFZ:mg "NoHouse"=vD (.ref (Ab K "NoHouse"))
 ZCe:mg "NoLevel"=vD (.ref (Ab K "NoLevel"))
 ZDb:mg "NoName"=vD (.ref (Ab K "NoName"))
 ZEx:mg "NoNumber"=vD (.ref (Ab K "NoNumber"))
 ZDo:mg "NoPump"=vD (.ref (Ab K "NoPump"))
 ZDd:mg "NoRiver"=vD (.ref (Ab K "NoRiver"))
 ZFe:mg "NoRow"=vD (.ref (Ab K "NoRow"))
 ZGx:mg "NoRule"=vD (.ref (Ab K "NoRule"))
 ZHQ:mg "NoText"=vD (.ref (Ab K "NoText"))
 ZDM:mg "NoWay"=vD (.ref (Ab K "NoWay"))
 Vk:mg "TooLong"=vD (.ref (Ab K "TooLong"))
 ZCQ:mg "WaterError"=vD (.ref (Ab K "WaterError"))
 ZDU:Eo K (Ab K "NoBounds") (Ab K "NoBounds") vF=vF
 ZE1:Eo K (Ab K "NoBounds") (Ab K "WaterError") vF=vF
 ZFJ:Eo K (Ab K "TooLong") (Ab K "NoBounds") vG=vF
 ZGX:Eo K (Ab K "TooLong") (Ab K "TooLong") vF=vF
 ZEg:Eo K (Ab K "TooLong") (Ab K "WaterError") vF=vF
 ZIO:Bt (PySem.W.kitOne K (.ref (Ab K "NoBounds")) (.ref (Ab K "NoAsk"))) vG=vF
 ZGq:Bt (PySem.W.kitOne K (.ref (Ab K "TooLong")) (.ref (Ab K "NoAsk"))) vG=vF
 ZDF:Bt (PySem.W.kitOne K (.ref (Ab K "NoBounds")) (.type "ValueError")) vF=vF
 ZGr:Bt (PySem.W.kitOne K (.ref (Ab K "TooLong")) (.type "ValueError")) vF=vF
 ZFx:Bt (PySem.W.kitAny K (.ref (Ab K "NoBounds")) ((["TooLong","NoAsk"]:List Str).map λw=>Value.ref (Ab K w))) vG=vF
 ZCz:Bt (PySem.W.kitAny K (.ref (Ab K "TooLong")) ((["TooLong","NoAsk"]:List Str).map λw=>Value.ref (Ab K w))) vF=vF
 ZC1:Bt (PySem.W.kitAny K (.ref (Ab K "NoBounds")) ((["NoHouse","NoName","NoNumber","NoPump","NoRiver"]:List Str).map λw=>Value.ref (Ab K w))) vG=vF
 ZCK:Bt (PySem.W.kitAny K (.ref (Ab K "TooLong")) ((["NoHouse","NoName","NoNumber","NoPump","NoRiver"]:List Str).map λw=>Value.ref (Ab K w))) vG=vF
 ZFL:Bt (PySem.W.kitAny K (.ref (Ab K "NoBounds")) ((["NoLevel","NoRow","NoRule","NoText","NoWay"]:List Str).map λw=>Value.ref (Ab K w))) vG=vF
 ZGi:Bt (PySem.W.kitAny K (.ref (Ab K "TooLong")) ((["NoLevel","NoRow","NoRule","NoText","NoWay"]:List Str).map λw=>Value.ref (Ab K w))) vG=vF
 ZNC:KB K "ever" T9 "most"
section
seal Jr Gd dC O4 Cm Aa Di dFn Bb dIf dKw dLR Pg Ey De Ac Hy N8 dOp dOr N5 dSl dTc Cj Ak dUn dV Ky Kg Dz Bp Jq Q8 Kh Im Le Ls Ek Af gIx Bd Ba gV Nj Fj Br Ds Fe Dl Ln Lb Aj Bx Bf Ro Gf Kw Mf J8 Ae Pu Gm Aw Ax Dw Eu K8 Hc Gx Do rng1 rng3 sAs sAu J6 Vy sEx Eb Ci sIf sNr sNx sRt sRz Q9 Ad Ip sWh
local macro_rules | `(tactic|trivial)=> `(tactic|first|refine' (_:String)|refine' (_:Str)|refine' (_:xY))
local macro_rules | `(tactic|trivial)=>pure (wR "QS _ _|_ (sAs (Bb _) _):-ZId ?|(Stmt.Assign (List.cons (Expr.Name .) List.nil) (Expr.ListComp .) .) _:-ZN5 _ nd ? L ? l l|(Stmt.Assign (List.cons (Expr.Name .) List.nil) .) (sAs _ (gV _)):-Uv _ nd ?|_ (sEx _):-ZLn ?|_ (sAs _ _):-ZIj ? ?|_ (Eb _ _ _ _):-ZNa ? ? ? ? ?|_ (Ci _ _ _):-ZGu PassesOwn.never rfl ? ? ?|_ (J6 _ _ _ _):-ZMq ? ? ? ?|_ (sAu _ _ _):-ZL5 _ nd ? ?|_ (sWh _ _ _):-ZFy fuel PassesOwn.never ? ?|@ZAp,@Rw,@ZMl,-ZPo T.Gi (ZLp T) T.Xe.b hr ?#QE _ _|_ (dV _):.Il _|(Expr.Subscript .) (dOp _ _ _):-Z1 ? ? ?|(Expr.Compare .) _:-ZGW ? ? ? (nomark _)|(Expr.Call (Expr.Name .) .) (dFn _ _):<ZIl ? rfl ? ? ?,<Rn ? rfl ? ? ?,-Bv (ZJw T) T.ZAK hr ?,-Bv (ZLz T) T.X6 hr ?,-Bv (ZQn T) T.Xi hr ?,-Bv (ZRU T) T.Xz hr ?,-Bv (ZKH T) T.ZAo hr ?,-Bv (ZIo T) T.Vu hr ?,-Bv (ZNK T) T.Yz hr ?,-Bv (ZRE T) T.ZA5 hr ?,-Bv (ZPb T) T.Vb hr ?,-Bv (ZOq T) T.Vj hr ?,-ZJX (ZKE T) T.ZBZ hr ?,-Bv (ZN3 T) T.ZBT hr ?,-Bv (ZRC T) T.Yo hr ?,-Bv (ZSB T) T.ZAg hr ?,-Bv (ZJu T) T.Xm hr ?,-Bv (ZSk T) T.Wj hr ?,-Bv (ZQ2 T) T.Yg hr ?,-Bv (ZRM T) T.Vl hr ?,-Bv (ZKQ T) T.ZBe hr ?,-Bv (ZMc T) T.Zu hr ?,-Bv (ZJi T) T.Vd hr ?,-Bv (ZPK T) T.ZAl hr ?,-Bv (ZK3 T) T.Xd hr ?,-Bv (ZI6 T) T.Yb hr ?,-Bv (ZOz T) T.Z0 hr ?,-Bv (ZRH T) T.Wl hr ?,-Bv (ZKk T) T.ZBl hr ?,-Y9 (ZOd T) (hr.mono d) rfl T.Pa.m T.Pa.k T.Pa.b ZHS ?,-Y9 (ZME T) (hr.mono d) rfl T.Ow.m T.Ow.k T.Ow.b ZHS ?,-Bv (ZKs T) T.Wk hr ?,-Bv (ZN0 T) T.ZBj hr ?,-Bv (ZQs T) T.ZAZ hr ?,-Bv (ZSe T) T.V2 hr ?,-Bv (ZOR T) T.Xy hr ?|_ (De _ _ _):-ZOI ? ? ? ? ?|_ (Di _ _ _):-ZQv ? ? ? ?|(Expr.Name .) (dC (D.ty .)):-ZPS rfl ? ?|_ (dSl _ _ _):-ZOr ? ? ?|_ (dLR _):-ZQ3 rfl rfl ? rfl ? ?|_ (Cm _ _ _ _ _ _):-ZLD ? L ? l l|(Expr.Name .) (dC _):<ZPf rfl ?,<ZPd rfl ?|(Expr.Call _ (List.cons .) .) (Ey _ _ _ _ _):-Qg T.Ed.N T.Ed.cl T.Uk.me (ZRD T) (hr.mono d) T.Uk.b pass0 ? ?,-Qg T.Ed.N T.Ed.cl T.V0.me (ZO1 T) (hr.mono d) T.V0.b pass0 ? ?,-Qg T.Ed.N T.Ed.cl T.Qv.me (ZQk T) (hr.mono d) T.Qv.b pass0 ? ?,-Qg T.Ed.N T.Ed.cl T.Qk.me (ZM4 T) (hr.mono d) T.Qk.b pass0 ? ?|_ (Pg _ _ _):-ZOC T.Ed.N T.Ed.mK (ZPL T) (hr.mono d) rfl T.Ed.g T.Vs.b pass0 ?|_ (Ey _ _ _ _ _):-ZFk T.Ed.N T.Ed.cl T.R6.me (ZQ7 T) (hr.mono d) T.R6.b pass0 ?,-ZFk T.Ed.N T.Ed.cl T.Rq.me (ZMt T) (hr.mono d) T.Rq.b pass0 ?|.ZKI,.ZDN,.ZPX,.ZJk,@ZQN,@ZMA,@ZIZ,@Xf,@ZJH,@ZKc,@ZFs,@ZHz,@ZAM,@ZJo,@ZQM,-ZKJ (Ox T) T.Kq hr ?,-ZNy (Ox T) T.Kq hr ?#QA _ _|.Lr,-Jd ? ?#QSs _ _|@Ck,.R8,@H8#QG _ _|_ (gV _):.ZP7 _ nd|_ (Ba _ _):-ZLh rfl ?|_ (gIx _ _):-ZRf ? ?#QGs _ _|.ZKl,-ZJ3 ? ?#QTs _ _|.ZJ7,-ZMR ?#QT _ _|(Expr.Compare _ (List.cons _ List.nil) .) (Ak _):-Yq ? ? ? (nomark _)|_ (Ak _):-ZCm ?|(Expr.BoolOp .) _:-qt_w ?|(Expr.Compare _ (List.cons _ (List.cons _ List.nil)) .) _:-ZPi ? ? ? ? ?|@ZJ0#QI _ _ _|(Expr.Call _ (List.cons _ List.nil) .) (Br rng1 _):-ZKG rfl ? ?|_ (Br rng3 _):-ZJM rfl ? ?|_ (Br Fj _):-ZR1 rfl ? ?|_ (Nj _ _):-ZNv rfl ? ? ?|_ (Br (Fe 2) _):-ZMQ rfl ? ?|_ (Br (Fe 3) _):-ZMf rfl ? ?|@ZLk#QW _ _|@ZNF,@ZQF,@ZNn,@ZNq#QO _ _|.ZMH,@ZSP#GK|_ (gV _):.ZNp d|@ZI9#GKs|.ZQl,@ZSG#=IxR _ _|!ZAw#=OpR _ _ _|!ZPs,!ZLC,!ZL3,!ZOM,!ZNR,!o_lt,!o_gt,!ZMJ,!ZKt,!ZQx,!o_is,!o_le,!ZRS,!o_ge,!ZLb,.o_eq hr.units,.o_ne hr.units#=CallR _ _ _|.ZLY,.ZRV,.ZOK,=ZRm ?,=ZSK ?,=ZK8 ?,=ZQe ?,=ZP6 ?,.ZQi,=ZQ0 ?#=Eq _ none|.T.ZLr,.T.ZIv,.T.ZMX,.T.Lw,.T.ZKj,.T.ZOZ,.T.ZSV,.T.ZLM,.T.ZNE,.T.ZP3,.T.Uw,.T.ZQf,.T.ZKu#=Eq (bootBuiltins _) _|!ZKK,!ZKB,!Z5,!ZKw,!ZIM,!ZL4,!ZPR,!Th,!ZNZ,!ZPO#=Slot _ _ _|!PySem.F.slot_list_append,!PySem.F.slot_list_index,!PySem.F.slot_list_extend#=Eq (typeOf _) _|!PySem.F.type_list_append,!PySem.F.type_list_index,!PySem.F.type_list_extend#=MtM _ _ _|!ZKA,!ZMV,!ZRP#=Eq _ (some _)|.T.ZDL,.T.ZDe,.T.ZHX,.T.ZIS,.T.ZDY,.T.ZHx,.T.ZEB,.T.ZDh,.T.ZCa,.T.ZCv,.T.ZGh,.T.ZGJ,.T.ZIF,.T.ZCy,.T.ZBx,.T.ZHi,.T.ZFO,.T.ZFI,.T.ZCB#=UnR _ _ _|!ZPG#=NoAttr _ _ _|.T.ZCs,.T.ZHf,.T.ZDx,.T.ZGt,.T.ZET,.T.ZFn,.T.ZFA#*|.T.Ed.N,.T.Ed.cl,.hr.mono d")
set_option hygiene false in
local macro_rules | `(tactic|exists $a,$b)=> `(tactic|(refine Oi $a $b λcdv A outer s H E hr=>?_;have nd:=($b).nd;trivial))
variable{P:xy}{w:xD}{K:PySem.W.Frag}{mg:Str->Option xC}{base:Heap}(T:Txt K mg)
include T
theorem ZLp:FnOk P w K mg base CX0 1 (Dc K (Ab K "TooLong") "__init__") (Ai K (Dc K (Ab K "TooLong") "__init__")) ["self","most"] (spI (Ab K "TooLong") "most"):=
 ZRR (k:=0) T.Xe.F ZPq T.Gi.X T.ZFq rfl (by decide +kernel) (by decide +kernel) rfl rfl rfl rfl (.inl rfl) (.inl rfl) (λ_=>⟨_,rfl⟩)
theorem ZSB:FnO P w K mg base 1 "_law_off" ZBn Q4:=by exists T.ZAg.F,ZNU
theorem ZRU:FnO P w K mg base 1 "_law_tape" ZAq Jy:=by exists T.Xz.F,ZOc
theorem ZJw:FnO P w K mg base 2 "_law_cell_at" Wb Aq:=by exists T.ZAK.F,ZSQ
theorem ZQn:FnO P w K mg base 1 "_law_amount" ZAe Ko:=by exists T.Xi.F,ZIa
theorem ZLz:FnO P w K mg base 3 "_law_unit" Yl Es:=by exists T.X6.F,ZPB
theorem ZQs:FnO P w K mg base 4 "_law_floods" Xq Oc:=by exists T.ZAZ.F,ZOx
theorem ZQ2:FnO P w K mg base 1 "_law_pumped" Zf U5:=by exists T.Yg.F,ZK5
theorem ZJu:FnO P w K mg base 1 "_law_steps" Vi U6:=by exists T.Xm.F,ZNS
theorem ZKH:FnO P w K mg base 3 "_law_year" Yx Hk:=by exists T.ZAo.F,ZKC
theorem ZSk:FnO P w K mg base 4 "_law_rule" Va S8:=by exists T.Wj.F,ZOF
theorem ZKQ:FnO P w K mg base 5 "_law_basin" W3 Oz:=by exists T.ZBe.F,ZMi
theorem ZRM:FnO P w K mg base 1 "_law_name" ZBO Uz:=by exists T.Vl.F,ZKp
theorem ZKs:FnO P w K mg base 6 "_law_house" ZAk U7:=by exists T.Wk.F,ZLw
theorem ZKE:FnH P w K mg base 1 "_law_other" ZAW Py:=by
 refine ZK6 T.ZBZ.F ZDw λcdv A outer s H E hr=>?_
 have nd:=ZDw.nd;exact(Ck (Rw (ZCm (ZAV T.Lw (Ge T.ZFZ (Ge T.ZDb (Ge T.ZEx (Ge T.ZDo (Ge T.ZDd Zv))))) (tb_any T.I9.xn T.ZC1 (tb_any T.Gi.xn T.ZCK O6)) (Il 0))) (by trivial) R8) (H8 (ZAp (ZAV T.Lw (Ge T.ZCe (Ge T.ZFe (Ge T.ZGx (Ge T.ZHQ (Ge T.ZDM Zv))))) (tb_any T.I9.xn T.ZFL (tb_any T.Gi.xn T.ZGi O6)) (Il 0)))))
theorem ZOd:FnX P w K mg base 1 "check_year" Xw Lp:=by
 refine ZD1 T.Pa.F ZDS λcdv A outer s H E hr=>?_
 have nd:=ZDS.nd;exact(H8 (Rw (by trivial) (H8 (ZRq T.I9 (by trivial))) R8))
theorem ZPL:MtO P w K mg base 1 "Course" "__init__" Ye Pz:=by exists T.Vs.F,ZQE
theorem ZRD:MtO P w K mg base 1 "Course" "send" Vf Oh:=by exists T.Uk.F,ZRj
theorem ZIo:FnO P w K mg base 1 "number_of" ZBh Q7:=by
 refine Oi T.Vu.F ZCr λcdv A outer s H E hr=>?_
 have nd:=ZCr.nd;exact(Ck (by trivial) (H8 ZRK))
theorem ZNK:FnO P w K mg base 2 "down_of" Yy Ot:=by exists T.Yz.F,ZPl
theorem ZO1:MtO P w K mg base 3 "Course" "send_down" ZBS Pq:=by exists T.V0.F,ZNd
theorem ZJi:FnO P w K mg base 1 "opened" ZBa Tw:=by exists T.Vd.F,ZKy
theorem ZMc:FnO P w K mg base 1 "stairs_at" ZBL Rr:=by exists T.Zu.F,ZJK
theorem ZQk:MtO P w K mg base 4 "Course" "go_basin" ZAN R1:=by exists T.Qv.F,ZNt
theorem ZPb:FnO P w K mg base 1 "passed" ZBm M7:=by exists T.Vb.F,ZN7
theorem ZRE:FnO P w K mg base 3 "down_in_reach" Yw Ou:=by exists T.ZA5.F,ZSd
theorem ZI6:FnO P w K mg base 4 "reach_rows" ZBB Ur:=by exists T.Yb.F,ZJC
theorem ZPK:FnO P w K mg base 1 "served" ZBD Qi:=by exists T.ZAl.F,ZNz
theorem ZK3:FnO P w K mg base 1 "way_down" Zk Rx:=by exists T.Xd.F,ZSL
theorem ZOz:FnO P w K mg base 2 "shares" ZAj Tu:=by exists T.Z0.F,ZSc
theorem ZM4:MtO P w K mg base 5 "Course" "go_reach" Xh Qy:=by exists T.Qk.F,ZPv
theorem ZRH:FnO P w K mg base 4 "lasts_of_reaches" ZBF Rk:=by exists T.Wl.F,ZIt
theorem ZQ7:MtO P w K mg base 6 "Course" "go" We Qh:=by exists T.R6.F,ZNj
theorem ZMt:MtO P w K mg base 1 "Course" "state_behind" Vx U8:=by exists T.Rq.F,ZNI
theorem ZKk:FnO P w K mg base 7 "turn" Zo U0:=by exists T.ZBl.F,ZI2
theorem ZOq:FnO P w K mg base 8 "run" ZA8 Mz:=by exists T.Vj.F,ZKb
theorem ZME:FnX P w K mg base 9 "years_until_again" Wo Ml:=by
 refine ZD1 T.Ow.F ZGb λcdv A outer s H E hr=>?_
 have nd:=ZGb.nd
 exact(Ck (by trivial) (Ck (by trivial) (Ck (ZFy fuel ownX (Yq (ZRZ hr.units) (by trivial) (by trivial) (by with_unfolding_all rfl)) (by trivial)) (by trivial))))
theorem Ox:FnX P w K mg base 10 "ever" T9 Fl:=by
 refine ZPQ T.Kq.F ZEz λcdv A outer s H E hr=>?_
 have nd:=ZEz.nd
 trivial
theorem ZRC:FnO P w K mg base 11 "_law_refusal" Ze Ks:=by
 refine Oi T.Yo.F Jm λcdv A outer s H E hr=>?_
 have nd:=Jm.nd;exact(Ck (by trivial) (Ck (ZC9 (ZFH (ZFp (Ox T) T.Kq hr (by trivial))) (V5 T.ZH7 (Q5 T.I9.N T.ZDU Mx) (Q5 T.Gi.N T.ZFJ Mx) hr Jm.nd (λea hr=>(H8 (Uv 4 Jm.nd (Xf (Jd ZDN (Jd (Rn Vt rfl T.Uw Th (Jd (ZAM (ZAV T.Lw (Ge T.Vk (Ge T.Wm Zv)) (tb_any T.I9.xn T.ZFx (tb_any T.Gi.xn T.ZCz O6)) (Il 5)) (by trivial)) Lr)) Lr)))))) (V5 T.Vk (Q5 T.Gi.N T.ZGX Mx) Mx hr Jm.nd (λea hr=>(H8 (Uv 4 Jm.nd (Xf (Jd (Z1 ZAw (by trivial) (Rn Vt rfl T.Uw Th (Jd (ZAM (ZI0 T.Lw T.Wm (U4 T.I9.xn T.ZIO (U4 T.Gi.xn T.ZGq O6)) (Il 5)) (by trivial)) Lr))) (Jd (ZRO (ZNV T.Gi ZSb) (Il 5)) Lr)))))) ZHo))) (Ck (by trivial) (Ck (ZC9 (ZFH (ZFp (Ox T) T.Kq hr (by trivial))) (V5 T.ZCQ (Q5 T.I9.N T.ZE1 (Q5 T.Gi.N T.ZEg Mx)) Mx hr Jm.nd (λea hr=>(H8 (Uv 6 Jm.nd (Z1 ZAw (by trivial) (Rn Vt rfl T.Uw Th (Jd (ZSZ T.Lw T.ZRs (by decide +kernel) (U4 T.I9.xn T.ZDF (U4 T.Gi.xn T.ZGr O6)) (Il 5)) Lr)))))) ZHo)) (by trivial)))))
theorem ZN0:FnO P w K mg base 4 "_law_state" ZAh Pn:=by exists T.ZBj.F,ZQr
theorem ZN3:FnO P w K mg base 1 "_law_plain" Xk Nh:=by exists T.ZBT.F,ZQq
theorem ZOR:FnO P w K mg base 2 "_law_states_like" Yu Nb:=by exists T.Xy.F,ZLV
theorem ZSe:FnO P w K mg base 9 "_law_years" W4 Jk:=by
 refine Oi T.V2.F ZH1 λcdv A outer s H E hr=>?_
 have nd:=ZH1.nd
 exact(Ck (by trivial) (Ck (ZGu PassesOwn.never rfl (by trivial) (by trivial) (Ck (by trivial) (H8 (Rw (Yq (ZM1 hr.units) (by trivial) (by trivial) (by with_unfolding_all rfl)) (by trivial) R8)))) (by trivial)))
theorem ZQa:FnO P w K mg base 12 "law" Yn K4:=by
 refine Oi T.Uy.F ZCP λcdv A outer s H E hr=>?_
 have nd:=ZCP.nd;exact(Ck (by trivial) (Ck (by trivial) (Ck (by trivial) (Ck (by trivial) (Ck (by trivial) (Ck (by trivial) (Ck (by trivial) (Ck (by trivial) (Ck (by trivial) (Ck (by trivial) (Ck (by trivial) (Ck (by trivial) (Ck (by trivial) (Ck (by trivial) (H8 (ZAp (ZHz (by trivial) (ZFs (ZGW (o_eq hr.units) (ZRr (Ox T) T.Kq T.ZNC hr (by trivial) (by trivial)) (Il 7) (nomark _))))))))))))))))))))
end
theorem ZPa{K:PySem.W.Frag}{h:Heap}{mg:Str->Option xC}(X:K.In h)(G:h.Ns xU mg)(S:AllSaid K asks):Txt K mg:=by
 obtain⟨Ed,ZAg,Xz,ZAK,Xi,X6,ZAZ,Yg,Xm,ZAo,Wj,ZBe,Vl,Wk,ZBZ,Pa,Vs,Uk,Vu,Yz,V0,Vd,Zu,Qv,Vb,ZA5,Yb,ZAl,Xd,Z0,Qk,Wl,R6,Rq,ZBl,Vj,Ow,Kq,Yo,ZBj,ZBT,Xy,V2,Uy,ZDx,ZGt,ZCs,ZET,ZHf,ZFA,ZFn,z_ValueError,z_all,z_bool,z_enumerate,z_int,z_isinstance,z_len,z_list,z_max,z_min,z_range,ZTq,ZTr,z_zip,ZGh,ZHx,ZDh,ZHX,ZCB,ZEB,ZBx,ZDL,ZIS,ZIF,ZGJ,ZHi,ZDe,ZFI,ZFO,ZCy,ZCv,ZCa,ZDY,Xe,Gi,I9,ZFq,Wm,ZH7,ZFZ,ZCe,ZDb,ZEx,ZDo,ZDd,ZFe,ZGx,ZHQ,ZDM,Vk,ZCQ,ZDU,ZE1,ZFJ,ZGX,ZEg,ZIO,ZGq,ZDF,ZGr,ZFx,ZCz,ZC1,ZCK,ZFL,ZGi,_⟩:=S
 constructor <;> first|assumption|exact PySem.W.mg_none_of X G (by assumption)|exact PySem.W.mg_of X G (by assumption)|exact ZNh X G (by assumption)|exact ZI8 X G (by assumption)|exact ZJR X G (by assumption)|exact ZOD X G (by assumption)|exact ZPj X G (by assumption) (by assumption)|((first|refine ZIg X G (by assumption) ?_|refine ZO7 (by assumption) ?_);(first|exact λ_ _ _ _ _ _=>bnd1 λ_=>rfl|exact λ_ _ _ _ _ _=>bnd2 λ_ _=>rfl|exact λ_ _ _ _ _ _=>bnd3 λ_ _ _=>rfl|exact λ_ _ _ _ _ _=>bnd4 λ_ _ _ _=>rfl|exact λ_ _ _ _ _ _=>bnd5 λ_ _ _ _ _=>rfl))|exact ZJS X G (by assumption) (λ_ _ _ _ _ _ _ us _ hl=>match us,hl with |[_,_,_,_],_=>⟨_,rfl,rfl⟩) (λ_ _ _ _ _ _ _ us _ hl=>match us,hl with |[_,_,_],_=>⟨_,rfl,rfl⟩)|exact ZLj (by assumption) (λ_ _ _ _ _ _ _ us u _ hl=>match us,hl with |[_,_,_],_=>⟨_,rfl,rfl⟩)
theorem all_mk{l:PySem.W.OpenLaw}{w:xD}{K:PySem.W.Frag}{h:Heap}{mg:Str->Option xC}{fa:xY}(X:K.In h)(G:h.Ns xU mg)(hfa:mg "law"=vD (.ref fa))(S:AllSaid K asks):
  ∃fd:xj,(∀(s:xA)(v:xC),BindsTo s fd ⟨[v],[]⟩ [("_law_script",v)])/\∀base:Heap,K.In base->base.Ns xU mg->FnOk l.prog w K mg base CX0 12 fa fd ["_law_script"] (lF K K4):=by
 have T:=ZPa X G S;have eL:=T.Uy.m;obtain rfl:fa=Ab K "law":=by rw[hfa]at eL;cases eL;rfl
 exact⟨_,λs v=>ZQ6 (T.Uy.F),λbase _ _=>ZQa T⟩
theorem walk{l:PySem.W.OpenLaw}{q:xy}{loose:List Str}{XP:(Str->Option xC)->Heap->Prop}{YP:xD->Heap->Prop}{d:DefRec}{K:xD->PySem.W.Frag}(hn:l.most=vD 63)(hdf:d.params.defaults=[])(HH:Holds)
  (hY:∀(w:xD)(h:Heap),YP w h->(K w).In h)
  (F:∀(w:xD)(mg:Str->Option xC)(fa:xY)(h:Heap),(K w).In h->h.Ns xU mg->mg d.name=vD (.ref fa)->
   ∃fd:xj,(∀(s:xA)(u:xC),BindsTo s fd ⟨[u],[]⟩ [("_law_script",u)])/\∀base:Heap,(K w).In base->base.Ns xU mg->FnOk l.prog w (K w) mg base CX0 12 fa fd ["_law_script"] (lF (K w) K4)):
  PySem.W.WalkO q loose XP YP l.row.toRowW d [] (λf vs=>PySem.call f vs):=
 _L.ZNP (n:=63) (k:=12) (x:="_law_script") (CX:=λ_=>CX0) (sp:=λw=>lF (K w) K4) hn (by decide) hdf ⟨rfl,by decide,by decide⟩ hY F
  (λw H a ns hl hO hS=>by
   obtain⟨G,hG⟩:=HH ns hl;refine⟨⟨K w,0,λ_=>0,H⟩,[],[.fl (ns.map D.int)],rfl,rfl,⟨rfl,λi j h=>absurd h (Nat.not_lt_zero _),λi o h=>by simp at h,λi h=>absurd h (Nat.not_lt_zero _)⟩,Reps.cons ⟨a,ns.map V.int,rfl,?_,Reps.ints ns⟩ Reps.nil,?_⟩
   ·rcases hS with(hS|hS)|hS
    ·rcases hO a with z|⟨o,xs,z⟩
     ·rw[z]at hS;cases hS
     ·rw[z]at hS;cases hS
    ·exact .inl hS
    ·exact .inr hS
   ·rw[hG];exact λb v _ _ r=>r) λ_ _ _ _ _ z=>z
end _W
set_option maxRecDepth 100000
namespace _W
open PySem PySem.W _L _D
theorem ZC3:∀w,(openEnds vW pw w 100000).map (λs=>(openSeen vw [] (xR pw.main.body) (XtOf rw_ vw) vF s,W0 asks s.heap))=vD (openGood vw [],Xl asks):=ZMg (by kernel_rfl) (λs=>rfl) ZP5
theorem walked:WalkO vw [] (XL vw []) (Stays rw_.prog 100000) rw_.row.toRowW (dOf Gh) [] λf vs=>PySem.call f vs:=
 walk (l:=rw_) (K:=λw=>Oa (Hl pw 100000 w)) rfl hdf holds (λw h Y=>Y.in) λw mg fa h KX G hmg=>all_mk KX G (show mg "law"=_ from hmg) (ZHH (ZOk ZC3 w))
end _W
open PySem PySem.W PyProof.Rows _D
theorem PySem.Challenge.cw_sluiceway_k55_years_that_come_again_holds : PySem.Challenge.rw_sluiceway_k55_years_that_come_again.Holds := by
 refine holds_top (l:=_W.rw_) (q:=_W.vw) (loose:=[]) (N:=100000) (see:=W0 _W.asks) (val:=Xl _W.asks) (d:=dOf _W.Gh) ?_ ?_ ?_ ?_ ?_ ?_ ?_ ?_ ?_ ?_
 ·exact _W.well
 ·exact _W.ZC3
 ·exact _W.hdef
 ·exact _W.hp
 ·exact _W.hk
 ·rfl
 ·exact _W.hok
 ·exact _W.hbare
 ·exact _W.hw
 ·exact _W.walked
