import PyProof.Rows.All
import Wide.All
import OpenK.AllK
import Wide.FinOn
import Lean
import PyProof.EqAt
import PyProof.EqKinds
import PyProof.TupleCall
import PyProof.NeKinds
import PyProof.IsInstanceH
import PyProof.SumWalkG
import PyProof.ConsumeWalk
import PyProof.IsiNone
import PyProof.WalksMore
import PyProof.PlainList
import PyProof.CompFree
import KE.KIntText
import PyProof.DictTable
import PyProof.ExcInit
import PyProof.ExcClass2
import PyProof.ExcBaseAll.ValueError
import OpenK.KOwn
import PyProof.RulesAs
import PyProof.NsDelKeeps
import OpenK.KMore
import PySem.Challenge.RW_sluiceway_k58_a_slow_basin
set_option compiler.extract_closed false
set_option bootstrap.genMatcherCode false
set_option genSizeOf false
set_option Elab.async false
set_option linter.all false
set_option maxRecDepth 100000
open Option renaming some→vk,none→v4
open Bool renaming true→v5,false→v6
open List renaming mem_cons_of_mem→zZ,getElem?_eq_getElem→zJ,size_toArray→zX,mem_cons_self→zW,range→zq,mem_cons→zj,replicate→zw,map_cons→zk,getElem?_map→z0,getElem?_eq_none→zB,getElem?_append_right→zC,getElem?_eq_some_iff→zD,getD_eq_getElem?_getD→zE,getElem?_range→zF,mem_append_right→zG,length_append→zH,getElem?_append_left→zL,length_map→zM,length_cons→zO,drop_eq_getElem_cons→zP,drop_of_length_le→zR,replicate_succ→zT,mem_map→zU,find?_cons→qQ,mem_range→qZ,filterMap_cons→qJ,all_eq_true→qY,append_assoc→qz,getElem?_set→qj,getElem_mem→qw,getElem?_set_ne→qk,all_cons→qy,lookup→q8,flatten_cons→q9,append_nil→qB,range_succ_eq_map→qC,getElem_of_mem→qD,map_congr_left→qE,getElem?_eq_none_iff→qF,getElem?_replicate→qM,getElem?_set_self→qN,lookup_cons→qO,filterMap_map→qP,length_set→qT,length_nil→qU,getElem?_take_of_lt→jQ,map_eq_nil_iff→jZ,ext_getElem→jJ,getElem?_cons_succ→jX,nodup_cons→jW,any_cons→jK,foldl_cons→jY,eq_nil_of_length_eq_zero→jq,map_map→jz,length_take→jx,range'→jw,mem_filterMap→jk,map_nil→jy,getElem?_cons_zero→j0,filterMap_eq_map'→j1,length_replicate→j2,length_drop→j3,length_singleton→j4,take_length→j5,zipIdx_cons→j6,any_eq_true→j9,mem_append_left→jB,mem_of_getElem?→jC,nil_append→jD,forIn_cons→jE,set→jH,range_succ→jI
open Nat renaming lt_of_lt_of_le→zV,le_refl→zY,le_trans→z8,ne_of_lt→z9,lt_succ_self→zI,lt_irrefl→zN,lt_succ_of_lt→qA,ne_of_gt→qL,le_succ→qR,le_of_ble_eq_true→qS,zero_le→jv,le_add_right→j7
open Int renaming mul_le_mul_of_nonneg_left→qx,le_refl→j8
open Option renaming map_eq_some_iff→zA,isSome_iff_exists→qH,map_some→jF
open Bool renaming false_ne_true→zx,and_eq_true→z5,and_eq_true_iff→qI,false_eq_true→jV,or_eq_true→jG
open Array renaming getElem?_eq_some_iff→zS,length_toList→qq,getElem?_toList→qG
open PySem.Heap renaming get?_push_of_some→zQ,lt_size→zK,get?_push_size→zy,get?_update_self→qX,size_push→qV,get?_update_other→qW,SameBut→qK,get?_none_of_le→jA
open PySem renaming Addr→jL,Around→jM,Expr→jN,FuncData→jO,NameKind→jP,Program→jR,Scope→jS,Shared→jT,Stmt→jU,Value→xQ,World→xZ,assignEach→xJ,attributeBase→xX,backTo→xV,backToKw→xW,behindInMarks→xK,binaryOp→xY,bootBuiltins→xq,call_isinstance→xz,checkBuiltinCall→xj,codeAny_mono→xk,compareOp→xy,importedModules→x0,isSubtype→xA,isinstance_false_int→xB,isinstance_false_list→xC,isinstance_false_none→xD,isinstance_false_str→xE,isinstance_false_tuple→xF,keywordEach→xG,letOwnedTupleGo→xH,mainGlobals→xI,model→xL,rawInt→xM,sizeLine_eq→xN,sliceBounds→xO,starEach→xP,treeTable→xR,wpAny→xS,wpAny_Call_Name_kw→xT,wpAny_bind→xU,wpAny_callSpecial?_slot→vQ,wpAny_call_entry→vZ,wpAny_field→vJ,wpAny_holding→vX,wpAny_mono→vV,wpAny_newObj_type→vW,wpAny_passesOwn→vK,wpAny_pure→vY,wpAny_setField_rec→vq,wpAny_truthy_bool→vz
open PySem.W renaming Frag→vj,boot_heap→vx
set_option maxHeartbeats 0
noncomputable section
namespace _L
open PySem PySem.Spec PyProof.Rows
noncomputable def Eg(s:jU):Arguments:=match s with
 |.FunctionDef _ a _ _ _ _ _ _ _ _=>a
 |_=>{posonlyargs:=[],args:=[],vararg:=v4,kwonlyargs:=[],kw_defaults:=[],kwarg:=v4,defaults:=[]}
noncomputable def Cz(s:jU):List jU:=match s with
 |.FunctionDef _ _ b _ _ _ _ _ _ _=>b
 |_=>[]
noncomputable def Am(s:jU):jS:=match s with
 |.FunctionDef _ _ _ _ _ _ sc _ _ _=>sc
 |_=>{kind:=.function,names:=[],isGenerator:=v6,isCoroutine:=v6}
end _L
namespace _D
open PySem PySem.W _L
variable{h:Heap}{C:jL}{m x q:Str}{st:jU}{mg:Str->Option xQ}
noncomputable def Lz:List Obj->Nat->vj
 |[],_=>[]
 |o::r,n=>match o.cls,o.data with
  |.none,.fields _=>Lz r (n+1)
  |_,.freed=>Lz r (n+1)
  |_,_=>(n,o)::Lz r (n+1)
def Pa(h:Heap):vj:=Lz h.objs.toList 0
noncomputable abbrev XtOf(l:OpenLaw)(q:jR)(s:jT):Bool:=xlAt q [] s&&recOk l.row.toRowW.records s
noncomputable def Af(K:vj)(n:Str):jL:=match nsIn K xI n with
 |some (vk (.ref f))=>f
 |_=>0
noncomputable def gOk(K:vj)(n:Str):Bool:=match nsIn K xI n with
 |some (vk (.ref _))=>v5
 |_=>v6
noncomputable def De(K:vj)(C:jL)(m:Str):jL:=match findIn K (.ref C) m with
 |some (vk (.ref f))=>f
 |_=>0
noncomputable def mOk(K:vj)(C:jL)(m:Str):Bool:=match findIn K (.ref C) m with
 |some (vk (.ref f))=>isFn K (.ref f)
 |_=>v6
noncomputable def noF(K:vj)(C:jL)(m:Str):Bool:=match findIn K (.ref C) m with
 |some v4=>v5
 |_=>v6
noncomputable def zOk(K:vj)(n:Str):Bool:=match nsIn K xI n with
 |some v4=>v5
 |_=>v6
noncomputable def S7(K:vj)(C:jL):Bool:=match findIn K (.ref C) "__setattr__" with
 |some (vk (.builtin s))=>s == "object.__setattr__"
 |_=>v6
noncomputable def iOk(K:vj)(n:Str)(v:Int):Bool:=match nsIn K xI n with
 |some (vk (.int u _))=>decide (u=v)
 |_=>v6
noncomputable def sOk(K:vj)(n:Str)(v:Str):Bool:=match nsIn K xI n with
 |some (vk (.str u _))=>decide (u=v)
 |_=>v6
noncomputable def Fq(K:vj)(f:jL):Obj:=match K.lookup f with
 |some o=>o
 |none=>⟨.none,v4,.plain,#[]⟩
def An(K:vj)(f:jL):jO:=match(Fq K f).data with
 |.func fd=>fd
 |_=>default
noncomputable def ZIr:xQ->Bool
 |.none=>v5
 |_=>v6
noncomputable def ZJZ:FuncBody->Option (List jU)
 |.stmts b=>vk b
 |_=>v4
def Vx(K:vj)(x q:Str)(f:jL):Bool:=match K.lookup f with
 |some ⟨_,_,.func fd,_⟩=>decide (fd.name=x)&&decide (fd.qualname=q)&&(fd.globals==xI&&fd.builtins==builtinsNs&&fd.closure.isEmpty&&ZIr fd.defaults)&&(codeIn K fd.code q&&keepIn K (.ref f))
 |_=>v6
noncomputable abbrev DefTxt:=Arguments×Option (List jU)×jS
def Ma(K:vj)(f:jL):DefTxt:=((An K f).params,ZJZ (An K f).body,(An K f).scope)
def Ly(st:jU):DefTxt:=(Eg st,vk (Cz st),Am st)
noncomputable def dfl(K:vj)(d:xQ)(v:Int):Bool:=match d with
 | .ref T=>match K.lookup T with
  | some o=>(match o.data with
   |.seq a _=>(match a.toList with
    |[.int i _]=>decide (i=v)
    |_=>v6)
   |_=>v6)
  |none=>v6
 |_=>v6
def ZAQ(K:vj)(x q:Str)(f:jL)(v:Int):Bool:=match K.lookup f with
 |some ⟨_,_,.func fd,_⟩=>decide (fd.name=x)&&decide (fd.qualname=q)&&(fd.globals==xI&&fd.builtins==builtinsNs&&fd.closure.isEmpty&&dfl K fd.defaults v)&&(codeIn K fd.code q&&keepIn K (.ref f))
 |_=>v6
noncomputable def strsOf:List xQ->Option (List Str)
 |[]=>vk []
 |.str s _::r=>(strsOf r).map (s::·)
 |_::_=>v4
def ZAy(K:vj)(n:Str)(vs:List Str):Bool:=match nsIn K xI n with
 | some (vk (.ref p))=>(match K.lookup p with
   |some ⟨.type t,_,.seq its _,_⟩=>t == "tuple"&&decide (strsOf its.toList=vk vs)&&Nat.ble its.toList.length 1000
   |_=>v6)
 |_=>v6
def ZAk(K:vj)(n:Str)(kvs:List (Str×Str)):Bool:=match nsIn K xI n with
 | some (vk (.ref p))=>(match K.lookup p with
   |some ⟨.type t,_,.dict es _,_⟩=>t == "dict" && !(p==sysModules)&&decide (strsOf (es.toList.map (·.key))=vk (kvs.map (·.1)))&&decide (strsOf (es.toList.map (·.val))=vk (kvs.map (·.2)))
   |_=>v6)
 |_=>v6
inductive Ask where
 |fn (n:Str) (st:jU)
 |mt (c m q:Str) (st:jU)
 |cl (c:Str)
 |no (c x:Str)
 |z (n:Str)
 |gi (n:Str) (v:Int)
 |gs (n v:Str)
 |gt (n:Str) (vs:List Str)
 |gd (n:Str) (kvs:List (Str×Str))
 |ck (φ:vj->Bool)
 |fd (n:Str) (st:jU) (v:Int)
def Ask.chk(K:vj):Ask->Bool
 |.fn n _=>gOk K n&&Vx K n n (Af K n)
 |.mt c m q _=>mOk K (Af K c) m&&Vx K m q (De K (Af K c) m)
 |.cl c=>gOk K c&&(plainGet K (Af K c) Str.empty&&hasDictIn K (Af K c)&&plainOver K (Af K c))&&(S7 K (Af K c)&&makesIn K (Af K c)&&keepIn K (.ref (Af K c)))
 |.no c x=>noF K (Af K c) x
 |.z n=>zOk K n
 |.gi n v=>iOk K n v
 |.gs n v=>sOk K n v
 |.gt n vs=>ZAy K n vs
 |.gd n kvs=>ZAk K n kvs
 |.ck φ=>φ K
 |.fd n _ v=>gOk K n&&ZAQ K n n (Af K n) v
def Ask.txt(K:vj):Ask->Option DefTxt
 |.fn n _=>vk (Ma K (Af K n))
 |.mt c m _ _=>vk (Ma K (De K (Af K c) m))
 |.fd n _ _=>vk (Ma K (Af K n))
 |_=>v4
def Ask.want:Ask->Option DefTxt
 |.fn _ st=>vk (Ly st)
 |.mt _ _ _ st=>vk (Ly st)
 |.fd _ st _=>vk (Ly st)
 |_=>v4
def Qk(l:List Ask)(h:Heap):Bool×List (Option DefTxt):=(l.all (Ask.chk (Pa h)),l.map (Ask.txt (Pa h)))
noncomputable abbrev Om(l:List Ask):Bool×List (Option DefTxt):=(v5,l.map Ask.want)
noncomputable def W6(p:jR)(w:xZ)(n₀:Nat)(ann:Option xQ):Nat->SharedT->Thread->Option SharedT
 |0,_,_=>v4
 | n+1,s,t=>match through t with
  |true=>vk s
  | false=>match PySem.W.Fast.tw6613529449190102663 n₀ ann t with
   |false=>v4
   |true=>match PySem.W.Fast.tw10156331382660048174 (PySem.W.Fast.tw11892475500146522536 PySem.W.Fast.tw14364793385576792824) p w s t with
    |some (s',t')=>W6 p w n₀ ann n s' t'
    |none=>v4
noncomputable def ZEB:List Obj->Nat->BT->BT
 |[],_,t=>t
 |o::r,n,t=>ZEB r (n+1) (t.ins n o)
def ZCZ(w:xZ)(os:OsState):SharedT:=⟨ZEB (vx w.params).objs.toList 0 .nil,(vx w.params).objs.size,(vx w.params).life,Array.mk [],boot_drawn,boot_toks,os⟩
def Qj(p:jR)(w:xZ)(os:OsState):Option SharedT:=W6 p w (vx w.params).objs.size (PySem.W.Fast.tw8920871248978507458 (vx w.params) xI "__annotations__") 100000 (ZCZ w os) (topStub p)
noncomputable def Q9(p:jR)(w:xZ)(s:jT):Bool:=staticsOk (PySem.W.Fast.tw5923862056798008813 p.main.body) (vx w.params) s.heap&&namesBound p s.heap&&gensDone s&&laidKept (vx w.params) s.heap
noncomputable def ftW(w:xZ)(b:Bool):xZ:={w with params:={w.params with followText:=λx=>match x == "special-get-raises" with |true=>b|false=>w.params.followText x}}
noncomputable abbrev vmro:List xQ:=[.type "ValueError",.type "Exception",.type "BaseException",.type "object"]
def Hu(K:PySem.W.Frag)(C:jL):Bool:=match K.lookup C with
 |some ⟨.type "type",_,.cls cd,sl⟩=>(match cd.mro,sl.toList with
  |.ref C'::bm,[_,_,_,_,vk (.builtin n),_]=>C'==C&&n == "ValueError.__new__" && !cd.hasDel&&cd.hasDict&&PySem.W.tailIn K vmro bm&&PySem.W.nsOkIn K cd.ns
  |_,_=>v6)
 |_=>v6
noncomputable def Lk(K:PySem.W.Frag)(C f:jL):Bool:=match K.lookup C with
 |some ⟨_,_,.cls cd,_⟩=>PySem.W.nsIn K cd.ns "__init__"==vk (vk (.ref f))
 |_=>v6
noncomputable def N7:List xQ->Bool
 |[.type a,.type b,.type c,.type d]=>a == "ValueError"&&b == "Exception"&&c == "BaseException"&&d == "object"
 |.ref _::r=>N7 r
 |_=>v6
def Ut(K:PySem.W.Frag)(C:jL):Bool:=(PySem.W.clsIn K C).any λcd=>N7 cd.mro
noncomputable def isB(r:Option (Option xQ))(n:String):Bool:=match r with
 |some (vk (.builtin m))=>m==n
 |_=>v6
noncomputable def Nk(r:Option Bool)(b:Bool):Bool:=match r with
 |some c=>c==b
 |_=>v6
noncomputable def Tz{α:Type}(r:Option (Option α)):Bool:=match r with
 |some v4=>v5
 |_=>v6
noncomputable def ZA6(K:vj)(a:jL):Bool:=match K.lookup a with
 |some ⟨.type t,_,_,_⟩=>t == "function"
 |_=>v6
def ZAD(c f:Str)(K:vj):Bool:=gOk K c&&keepIn K (.ref (Af K c))&&(Hu K (Af K c)&&S7 K (Af K c)&&Ut K (Af K c)&&Tz (takerIn K (Af K c) f)&&hasDictIn K (Af K c))&&Lk K (Af K c) (De K (Af K c) "__init__")&&ZA6 K (De K (Af K c) "__init__") &&
 (isB (findIn K (.ref (Af K c)) "__getattribute__") "BaseException.__getattribute__"&&Tz (findIn K (.ref (Af K c)) "__getattr__")&&Nk (subIn K (.ref (Af K c)) (.type "BaseException")) v5&&isB (findIn K (.ref (Af K c)) "__class__") "object.__class__" &&
  isB (specialIn K (.builtin "object.__class__") "__get__") "getset_descriptor.__get__"&&Nk (takesIn K (.builtin "object.__class__")) v5&&Nk (mroIn K (Af K c) (.type "object")) v5&&Nk (kitCls K (.ref (Af K c)) (.ref (Af K c))) v5)&&noF K (Af K c) f
noncomputable def ZBK(r:Option CFound)(n:String):Bool:=match r with
 |some (.val (.builtin m))=>m==n
 |_=>v6
def X7(x:Str)(K:vj):Bool:=gOk K x&&isB (specialIn K (.ref (Af K x)) "__getattribute__") "type.__getattribute__"&&readsIn K (Af K x) (.type "type")&&ZBK (findCls K (.ref (Af K x)) (.type "type") "__init__") "ValueError.__init__"
def Je(K:PySem.W.Frag)(C W:jL)(b:Bool):Bool:=Hu K C&&Hu K W&&match K.lookup C with
 |some ⟨_,_,.cls cd,_⟩=>cd.mro.contains (.ref W)==b
 |_=>v6
end _D
namespace _W
open PySem PySem.W _L _D
noncomputable def top(i:Nat):jU:=PySem.Challenge.pw_sluiceway_k58_a_slow_basin.main.body.getD i (.Pass ⟨0,0,0,0⟩)
noncomputable def inC(s:jU)(j:Nat):jU:=match s with
 |.ClassDef _ _ _ body _ _ _ _ _ _ _=>body.getD j (.Pass ⟨0,0,0,0⟩)
 |_=>.Pass ⟨0,0,0,0⟩
noncomputable abbrev ZBA:jU:=inC (top 5) 0
noncomputable abbrev Yv:jU:=top 65
noncomputable abbrev Z6:jU:=top 64
noncomputable abbrev ZAZ:jU:=top 66
noncomputable abbrev X3:jU:=top 57
noncomputable abbrev Ql:jU:=inC (top 43) 0
noncomputable abbrev Zo:jU:=inC (top 43) 5
noncomputable abbrev ZBD:jU:=top 21
noncomputable abbrev ZAg:jU:=top 22
noncomputable abbrev ZBW:jU:=inC (top 43) 4
noncomputable abbrev Xf:jU:=top 34
noncomputable abbrev Xh:jU:=top 33
noncomputable abbrev ZAO:jU:=inC (top 43) 2
noncomputable abbrev Tu:jU:=top 29
noncomputable abbrev Yz:jU:=top 45
noncomputable abbrev ZBJ:jU:=top 46
noncomputable abbrev Q0:jU:=top 30
noncomputable abbrev ZBy:jU:=top 31
noncomputable abbrev Ww:jU:=top 28
noncomputable abbrev ZAb:jU:=inC (top 43) 3
noncomputable abbrev Yn:jU:=top 44
noncomputable abbrev Up:jU:=inC (top 43) 1
noncomputable abbrev Pz:jU:=inC (top 43) 6
noncomputable abbrev Yi:jU:=top 41
noncomputable abbrev ZBj:jU:=top 42
noncomputable abbrev ZA4:jU:=top 59
noncomputable abbrev Xj:jU:=top 53
noncomputable abbrev Yw:jU:=top 61
noncomputable abbrev ZAB:jU:=top 62
noncomputable abbrev Ur:jU:=top 60
noncomputable abbrev ZBY:jU:=top 55
noncomputable abbrev Uu:jU:=top 52
noncomputable abbrev Tt:jU:=top 51
noncomputable abbrev Wz:jU:=top 50
noncomputable abbrev Yj:jU:=top 56
noncomputable abbrev ZB2:jU:=top 58
noncomputable abbrev ZBl:jU:=top 54
noncomputable abbrev Z7:jU:=top 69
noncomputable abbrev Zd:jU:=top 68
noncomputable abbrev ZBP:jU:=top 67
noncomputable abbrev Fy:jU:=top 70
def asks:List Ask:=[.cl "Course",.fn "_law_off" Yv,.fn "_law_tape" Z6,.fn "_law_cell_at" ZAZ,.fn "check_year" X3,.mt "Course" "__init__" "Course.__init__" Ql,.mt "Course" "send" "Course.send" Zo,.fn "number_of" ZBD,.fn "down_of" ZAg,.mt "Course" "send_down" "Course.send_down" ZBW,.fn "opened" Xf,.fn "stairs_at" Xh,.mt "Course" "go_basin" "Course.go_basin" ZAO,.fn "passed" Tu,.fn "down_in_reach" Yz,.fn "reach_rows" ZBJ,.fn "served" Q0,.fn "way_down" ZBy,.fn "shares" Ww,.mt "Course" "go_reach" "Course.go_reach" ZAb,.fn "lasts_of_reaches" Yn,.mt "Course" "go" "Course.go" Up,.mt "Course" "state_behind" "Course.state_behind" Pz,.fn "turn" Yi,.fn "run" ZBj,.fn "years_until_again" ZA4,.fd "ever" Xj 100,.fn "is_beyond" Yw,.fn "part_asked" ZAB,.fn "answered" Ur,.fn "check_ask" ZBY,.fn "none_above" Uu,.fn "rows_under" Tt,.fn "under" Wz,.fn "check_bounds" Yj,.fn "looked_through" ZB2,.fd "look_ever" ZBl 100,.fn "_law_most_of" Z7,.fn "_law_states" Zd,.fn "_law_whole" ZBP,.fn "law" Fy,.no "Course" "came",.no "Course" "coming",.no "Course" "house",.no "Course" "levels",.no "Course" "page",.no "Course" "reaches",.no "Course" "year_turn",.z "all",.z "bool",.z "enumerate",.z "int",.z "isinstance",.z "len",.z "list",.z "max",.z "min",.z "range",.z "sorted",.z "tuple",.z "zip",.gi "BRIM" 4,.gi "DELAY" 3,.gi "DOWN" 2,.gi "KIND" 0,.gi "LET" 3,.gi "LIES" 5,.gi "NAME" 1,.gi "NEED" 4,.gi "PLACES" 1,.gi "PUMP" 6,.gi "PUMPED" 4,.gi "PUMP_DELAY" 1,.gi "PUMP_TO" 0,.gi "RANK" 5,.gi "ROW_DOWN" 0,.gi "ROW_NEED" 2,.gi "ROW_RANK" 3,.gi "ROW_WATER" 1,.gi "RULE" 5,.gs "SEA" "sea",.gi "SPILLED" 2,.gi "TOOK" 1,.gi "YEAR" 0,.gt "SENSES" ["least","most"],.gd "KINDS_ASKED" [("lies","basin"),("spilled","basin"),("let","basin"),("pumped","basin"),("took","town")],.mt "TooLong" "__init__" "TooLong.__init__" ZBA,.ck (ZAD "TooLong" "most"),.ck (X7 "WaterError"),.ck (λK=>gOk K "TooLong"),.ck (λK=>Je K (Af K "TooLong") (Af K "TooLong") v5)]
abbrev rw_:OpenLaw:=PySem.Challenge.rw_sluiceway_k58_a_slow_basin
abbrev pw:jR:=OpenLaw.prog PySem.Challenge.rw_sluiceway_k58_a_slow_basin
def vw:jR:=view pw (zq 71)
theorem ZOob:∀w os,(Qj pw (ftW w v5) os).map (λs=>PySem.W.Fast.tw4187177175401517315 vw ["KINDS_ASKED"] (PySem.W.Fast.tw5923862056798008813 pw.main.body) (XtOf rw_ vw) v5 s.abs)=vk (openGood vw ["KINDS_ASKED"]):=λw os=>by kernel_rfl
theorem ZOoa:∀w os,(Qj pw (ftW w v5) os).map (λs=>(Q9 pw (ftW w v5) s.abs,Qk asks s.abs.heap))=vk (v5,Om asks):=λw os=>by kernel_rfl
theorem ZOo:∀w os,(Qj pw (ftW w v5) os).map (λs=>(Q9 pw (ftW w v5) s.abs,PySem.W.Fast.tw4187177175401517315 vw ["KINDS_ASKED"] (PySem.W.Fast.tw5923862056798008813 pw.main.body) (XtOf rw_ vw) v5 s.abs,Qk asks s.abs.heap))=vk (v5,openGood vw ["KINDS_ASKED"],Om asks):=λw os=>by
 have h1:=ZOob w os
 have h2:=ZOoa w os
 revert h1 h2
 generalize Qj pw (ftW w v5) os=o
 intro h1 h2
 cases o with
 |none=>cases h2
 |some s=>exact congrArg some (Prod.ext (Prod.mk.inj (Option.some.inj h2)).1 (Prod.ext (Option.some.inj h1) (Prod.mk.inj (Option.some.inj h2)).2))
theorem ZNJb:∀w os,(Qj pw (ftW w v6) os).map (λs=>PySem.W.Fast.tw4187177175401517315 vw ["KINDS_ASKED"] (PySem.W.Fast.tw5923862056798008813 pw.main.body) (XtOf rw_ vw) v5 s.abs)=vk (openGood vw ["KINDS_ASKED"]):=λw os=>by kernel_rfl
theorem ZNJa:∀w os,(Qj pw (ftW w v6) os).map (λs=>(Q9 pw (ftW w v6) s.abs,Qk asks s.abs.heap))=vk (v5,Om asks):=λw os=>by kernel_rfl
theorem ZNJ:∀w os,(Qj pw (ftW w v6) os).map (λs=>(Q9 pw (ftW w v6) s.abs,PySem.W.Fast.tw4187177175401517315 vw ["KINDS_ASKED"] (PySem.W.Fast.tw5923862056798008813 pw.main.body) (XtOf rw_ vw) v5 s.abs,Qk asks s.abs.heap))=vk (v5,openGood vw ["KINDS_ASKED"],Om asks):=λw os=>by
 have h1:=ZNJb w os
 have h2:=ZNJa w os
 revert h1 h2
 generalize Qj pw (ftW w v6) os=o
 intro h1 h2
 cases o with
 |none=>cases h2
 |some s=>exact congrArg some (Prod.ext (Prod.mk.inj (Option.some.inj h2)).1 (Prod.ext (Option.some.inj h1) (Prod.mk.inj (Option.some.inj h2)).2))
end _W
namespace _L
open PySem PySem.Spec PyProof.Rows
variable{us:List xQ}{u:xQ}{a b C:jL}{P:jR}{w:xZ}{h base:Heap}{t' i:Nat}{ch fp:List jL}{x:Str}{e c tg:jN}{A:jM}{E Q:xQ->jT->Prop}{s:jT}{vv:List (jL×Obj)}{K:PySem.W.Frag}{body:List jU}{f:xQ->xQ->Sem xQ}{op:CmpOp}{kw:List (Str×xQ)}{mg:Str->Option xQ}{kindOf:Str->Option jP}
noncomputable abbrev Key:=Sum Int Str
def Nu:Key->xQ->Bool
 |.inl k,v=>Value.isInt k v
 |.inr x,v=>Value.isStrOf x v
def keyH(w:xZ):Key->Int
 |.inl k=>hashInt k
 |.inr x=>hashStr w x
theorem Iv:∀{k:Key}{v:xQ},Nu k v=v5->(∃i t,k=Sum.inl i/\v=Value.int i t)∨(∃x t,k=Sum.inr x/\v=Value.str x t)
 |.inl i,v,h=>by obtain⟨t,e⟩:=Value.isInt_shape (k:=i) (v:=v) h;exact .inl ⟨i,t,rfl,e⟩
 |.inr x,v,h=>by obtain⟨t,e⟩:=Value.isStrOf_shape (x:=x) (v:=v) h;exact .inr ⟨x,t,rfl,e⟩
theorem ZLt(i:Int)(t:Tok):Nu (.inl i) (.int i t)=v5:=by simp[Nu,Value.isInt]
theorem ZJ5(x:Str)(t:Tok):Nu (.inr x) (.str x t)=v5:=by simp[Nu,Value.isStrOf]
theorem ZK5(a b:Int):decide ((Sum.inl a:Key)=Sum.inl b)=(a==b):=by
 by_cases e:a=b
 ·subst e;simp
 ·have h:¬(Sum.inl a:Key)=Sum.inl b:=λq=>e (Sum.inl.inj q)
  rw[decide_eq_false h];exact(beq_eq_false_iff_ne.mpr e).symm
theorem ZOF(a b:Str):decide ((Sum.inr a:Key)=Sum.inr b)=decide (a=b):=by
 by_cases e:a=b
 ·subst e;simp
 ·have h:¬(Sum.inr a:Key)=Sum.inr b:=λq=>e (Sum.inr.inj q)
  rw[decide_eq_false h,decide_eq_false e]
theorem ZQD(a:Int)(b:Str):decide ((Sum.inl a:Key)=Sum.inr b)=v6:=decide_eq_false (λq=>nomatch q)
theorem ZPa(a:Str)(b:Int):decide ((Sum.inr a:Key)=Sum.inl b)=v6:=decide_eq_false (λq=>nomatch q)
def Ft(prog:jR)(w:xZ):PySem.KeyKind prog w Key where
 is:=Nu
 hash:=keyH w
 inj:=λv a b ha hb=>by
  rcases Iv ha with⟨i,t,rfl,rfl⟩|⟨x,t,rfl,rfl⟩
  ·rcases Iv hb with⟨j,u,rfl,e⟩|⟨y,u,rfl,e⟩
   ·injection e with e1 _;rw[e1]
   ·exact nomatch e
  ·rcases Iv hb with⟨j,u,rfl,e⟩|⟨y,u,rfl,e⟩
   ·exact nomatch e
   ·injection e with e1 _;rw[e1]
 byValue:=λk v h=>by rcases Iv h with⟨i,t,rfl,rfl⟩|⟨x,t,rfl,rfl⟩<;>rfl
 pyHash:=λhv h=>by
  rcases Iv hv with⟨i,t,rfl,rfl⟩|⟨x,t,rfl,rfl⟩
  ·exact wpAny_pyHash_int h
  ·exact wpAny_pyHash_str h
 eqBool:=λhu hv h=>by
  rcases Iv hu with⟨i,t,rfl,rfl⟩|⟨x,t,rfl,rfl⟩
  ·rcases Iv hv with⟨j,u,rfl,rfl⟩|⟨y,u,rfl,rfl⟩
   ·rw[ZK5]at h;exact wpAny_eqBool_int h
   ·rw[ZQD]at h;exact SeqAt.EqAt.int_str i t y u _ _ _ _ h
  ·rcases Iv hv with⟨j,u,rfl,rfl⟩|⟨y,u,rfl,rfl⟩
   ·rw[ZPa]at h;exact SeqAt.EqAt.str_int x t j u _ _ _ _ h
   ·rw[ZOF]at h;exact wpAny_eqBool_str h
 «strs»:=λk x t v h=>by
  rcases Iv h with⟨i,u,rfl,e⟩|⟨y,u,rfl,e⟩
  ·exact nomatch e
  ·injection e with e1 _
   subst e1
   cases v<;>rfl
theorem ZQM(prog:jR)(w:xZ)(i:Int)(t:Tok):(Ft prog w).is (.inl i) (.int i t)=v5:=ZLt i t
theorem ZMc(prog:jR)(w:xZ)(x:Str)(t:Tok):(Ft prog w).is (.inr x) (.str x t)=v5:=ZJ5 x t
inductive V where
 |non|bl (b:Bool)|int (i:Int)|str (x:Str)|byt (b:Array UInt8)|flt (b:UInt64)|ref (a:jL)|ty (n:String)
 deriving DecidableEq
variable{v y:V}{vs:List V}
def RelV:V->xQ->Prop
 |.non,u=>u=Value.none
 |.bl b,u=>u=Value.bool b
 |.int i,u=>∃t,u=Value.int i t
 |.str x,u=>∃t,u=Value.str x t
 |.byt b,u=>∃t,u=Value.bytes b t
 |.flt b,u=>∃t,u=Value.float b t
 |.ref a,u=>u=Value.ref a
 |.ty n,u=>u=Value.type n
abbrev Vals:List V->List xQ->Prop:=Paired RelV
theorem Vals.length{xs:List V}(r:Vals xs us):xs.length=us.length:=Paired.length r
theorem Vals.get:∀{xs:List V}{us:List xQ}{i:Nat}{x:V},Vals xs us->xs[i]?=vk x->∃u,us[i]?=vk u/\RelV x u
 |_,_,_,_,.nil,e=>by simp at e
 |_,_,0,_,.cons r _,e=>by simp at e;subst e;exact⟨_,rfl,r⟩
 |_,_,i+1,x,.cons _ t,e=>by obtain⟨u,h1,h2⟩:=Vals.get (i:=i) (x:=x) t (by simpa using e);exact⟨u,by simpa using h1,h2⟩
theorem Vals.set{x:V}(r:RelV x u):∀{xs:List V}{us:List xQ}(i:Nat),Vals xs us->Vals (xs.set i x) (us.set i u)
 |_,_,_,.nil=>.nil
 |_,_,0,.cons _ t=>.cons r t
 |_,_,i+1,.cons q t=>.cons q (Vals.set r i t)
theorem Vals.append:∀{xs ys:List V}{us ws:List xQ},Vals xs us->Vals ys ws->Vals (xs++ys) (us++ws)
 |_,_,_,_,.nil,s=>s
 |_,_,_,_,.cons r t,s=>.cons r (Vals.append t s)
theorem Vals.take:∀{xs:List V}{us:List xQ}(n:Nat),Vals xs us->Vals (xs.take n) (us.take n)
 |_,_,0,_=>.nil
 |_,_,_+1,.nil=>.nil
 |_,_,n+1,.cons r t=>.cons r (Vals.take n t)
theorem Vals.drop:∀{xs:List V}{us:List xQ}(n:Nat),Vals xs us->Vals (xs.drop n) (us.drop n)
 |_,_,0,r=>r
 |_,_,_+1,.nil=>.nil
 |_,_,n+1,.cons _ t=>Vals.drop n t
def RelO:Option V->Option xQ->Prop
 |some v,vk u=>RelV v u
 |none,v4=>True
 |_,_=>False
def KV{κ:Type}:List (κ×V)->List (κ×xQ)->Prop:=Paired λ(p:κ×V)(q:κ×xQ)=>p.1=q.1/\RelV p.2 q.2
def kV:Key->V
 |.inl i=>.int i
 |.inr x=>.str x
inductive HO where
 |lst (xs:List V)
 |tup (xs:List V)
 |dK (kvs:List (Key×V))|dT (kvs:List (List Key×V))
 |set (S:Int->Bool) (n:Nat)
 |ins (C dx:jL) (fs:List (Str×V))
 |own (x:jL)
 |xd (fs:List (Str×V))
 |met (f x:jL)
 |rng (lo hi:Int)
 |frz (o:Obj) (u:HO)
 |tbl (ps:Array xQ)
 |ext (φ:Heap->Prop)
variable{o:HO}
noncomputable abbrev Hp:=jL->Option HO
variable{H:Hp}
noncomputable def upd(H:Hp)(a:jL)(o:HO):Hp:=λb=>if b=a then vk o else H b
theorem Dv:upd H a o a=vk o:=by unfold upd;rw[if_pos rfl]
theorem Ax(h:b≠a):upd H a o b=H b:=by unfold upd;rw[if_neg h]
theorem Ga(h:H a=vk o)(h':H b=v4):a≠b:=by intro e;subst e;rw[h]at h';cases h'
section
variable(P:jR)(w:xZ)
def ObjOk(H:Hp)(h:Heap)(a:jL):HO->Prop
 |.lst xs=>xs.length<=sizeLine/\∃(its:List xQ)(n:Nat),Vals xs its/\h.get? a=vk {cls:=.type "list",data:=.seq its.toArray n}
 |.tup xs=>xs.length<=sizeLine/\∃its:List xQ,Vals xs its/\IsTup h a its.toArray
 |.dK kvs=>kvs.length<=sizeLine/\(a==sysModules)=v6/\∃vs,KV kvs vs/\h.DictOf (Ft P w) a vs
 | .dT kvs=>kvs.length<=sizeLine/\(a==sysModules)=v6/\∃xs:List (List Key×jL×xQ),
   Paired (λ(p:List Key×V)(q:List Key×jL×xQ)=>p.1=q.1/\H q.2.1=vk (.tup (p.1.map kV))/\RelV p.2 q.2.2) kvs xs/\
   ∃o es ep,h.get? a=vk o/\o.ExactDict/\o.data=.dict es ep/\es.toList=xs.map (entryOfKey (tupleKind (Ft P w)))/\(xs.map (·.1)).Nodup
 |.set S n=>h.SetOf (intKind P w) a S n
 | .ins C dx fs=>H dx=vk (.own a)/\fs.length<=1000/\dx≠a/\h.get? a=vk (PySem.W.instObj C dx)/\
   ∃mA,h.Ns1 dx mA/\(∀f,RelO (fs.lookup f) (mA f))/\PySem.Within mA (fs.map (·.1))
 |.own _=>∃o,h.get? a=vk o
 |.xd fs=>∃mA,h.Ns1 a mA/\∀f,RelO (fs.lookup f) (mA f)
 |.rng lo hi=>∃t u v,h.get? a=vk {cls:=.type "range",data:=.fields #[.int lo t,.int hi u,.int 1 v]}
 |.frz o u=>h.get? a=vk o/\ObjOk H h a u
 |.tbl ps=>h.get? a=vk {cls:=.none,data:=.fields ps}
 |.met f x=>h.get? a=vk (PySem.W.methodObj (.ref f) (.ref x))
 |.ext φ=>φ h/\(∃o,h.get? a=vk o)/\∀h1 h2:Heap,φ h1->(∀o,h1.get? a=vk o->h2.get? a=vk o)->φ h2
def HOk(H:Hp)(h:Heap):Prop:=∀a o,H a=vk o->ObjOk P w H h a o
end
section
variable{P:jR}{w:xZ}{H H':Hp}{h h':Heap}{a:jL}{o:HO}
theorem ObjOk.lt(x:ObjOk P w H h a o):a<h.objs.size:=by
 cases o with
 |lst xs=>obtain⟨_,_,_,_,e⟩:=x;exact zK e
 |tup xs=>obtain⟨_,_,_,p⟩:=x;exact p.lt
 |dK kvs=>obtain⟨_,_,_,_,o,_,_,e,_⟩:=x;exact zK e
 |dT kvs=>obtain⟨_,_,_,_,o,_,_,e,_⟩:=x;exact zK e
 |set S n=>obtain⟨o,_,_,_,e,_⟩:=x;exact zK e
 |ins C dx fs=>obtain⟨_,_,_,e,_⟩:=x;exact zK e
 |own y=>obtain⟨_,e⟩:=x;exact zK e
 |xd fs=>obtain⟨_,⟨_,_,_,e,_⟩,_⟩:=x;exact zK e
 |rng lo hi=>obtain⟨_,_,_,e⟩:=x;exact zK e
 |frz ob u=>obtain⟨e,_⟩:=x;exact zK e
 |tbl ps=>exact zK (show h.get? a=vk _ from x)
 |met f y=>exact zK (show h.get? a=vk _ from x)
 |ext φ=>obtain⟨_,⟨_,e⟩,_⟩:=x;exact zK e
theorem Paired.mapP{α β:Type}{F G:α->β->Prop}:∀{l₁:List α}{l₂:List β},Paired F l₁ l₂->(∀a b,F a b->G a b)->Paired G l₁ l₂
 |_,_,.nil,_=>.nil
 |_,_,.cons r t,f=>.cons (f _ _ r) (Paired.mapP t f)
theorem ObjOk.stay(x:ObjOk P w H h a o)(k:∀b u,(b=a∨H b=vk (.own a))->h.get? b=vk u->h'.get? b=vk u)
  (ho:∀b,H b=vk (.own a)->H' b=vk (.own a)) (ht:∀b xs,H b=vk (.tup xs)->H' b=vk (.tup xs)):ObjOk P w H' h' a o:=by
 induction o with
 |lst xs=>obtain⟨z,its,n,r,e⟩:=x;exact⟨z,its,n,r,k _ _ (.inl rfl) e⟩
 |tup xs=>obtain⟨z,its,r,ob,e,c⟩:=x;exact⟨z,its,r,ob,k _ _ (.inl rfl) e,c⟩
 |dK kvs=>obtain⟨z,y,vs,r,ob,es,ep,e,c⟩:=x;exact⟨z,y,vs,r,ob,es,ep,k _ _ (.inl rfl) e,c⟩
 |dT kvs=>
  obtain⟨z,y,xs,r,ob,es,ep,e,c⟩:=x;exact⟨z,y,xs,Paired.mapP r λp q z=>⟨z.1,ht _ _ z.2.1,z.2.2⟩,ob,es,ep,k _ _ (.inl rfl) e,c⟩
 |set S n=>obtain⟨ob,es,ep,t,e,c⟩:=x;exact⟨ob,es,ep,t,k _ _ (.inl rfl) e,c⟩
 |ins C dx fs=>
  obtain⟨d,z,ne,e,mA,⟨od,es,ep,e2,c⟩,r⟩:=x;exact⟨ho _ d,z,ne,k _ _ (.inl rfl) e,mA,⟨od,es,ep,k _ _ (.inr d) e2,c⟩,r⟩
 |own y=>obtain⟨ob,e⟩:=x;exact⟨ob,k _ _ (.inl rfl) e⟩
 |xd fs=>obtain⟨mA,⟨od,es,ep,e,c⟩,r⟩:=x;exact⟨mA,⟨od,es,ep,k _ _ (.inl rfl) e,c⟩,r⟩
 |rng lo hi=>obtain⟨t,u,v,e⟩:=x;exact⟨t,u,v,k _ _ (.inl rfl) e⟩
 |frz ob u ih=>obtain⟨e,q⟩:=x;exact⟨k _ _ (.inl rfl) e,ih q⟩
 |tbl ps=>
  have e:h.get? a=vk {cls:=.none,data:=.fields ps}:=x;show h'.get? a=vk {cls:=.none,data:=.fields ps};exact k a _ (.inl rfl) e
 |met f y=>
  have e:h.get? a=vk (PySem.W.methodObj (.ref f) (.ref y)):=x;show h'.get? a=vk (PySem.W.methodObj (.ref f) (.ref y));exact k a _ (.inl rfl) e
 |ext φ=>obtain⟨p,⟨o,e⟩,st⟩:=x;exact⟨st _ _ p λo q=>k _ _ (.inl rfl) q,⟨o,k _ _ (.inl rfl) e⟩,st⟩
theorem HOk.lt(x:HOk P w H h)(e:H a=vk o):a<h.objs.size:=(x a o e).lt
theorem HOk.fresh(x:HOk P w H h)(e:h.objs.size<=a):H a=v4:=by
 cases q:H a with
 |none=>rfl
 |some u=>exact absurd (zV (x.lt q) e) (zN _)
theorem HOk.kept(x:HOk P w H h)(k:∀b u,h.get? b=vk u->h'.get? b=vk u):HOk P w H h':=λa o e=>
 (x a o e).stay (λb u _ q=>k b u q) (λ_ q=>q) λ_ _ q=>q
theorem HOk.laid(x:HOk P w H h)(k:∀b u,h.get? b=vk u->h'.get? b=vk u)(hp:h.objs.size<=a)(new:ObjOk P w (upd H a o) h' a o):HOk P w (upd H a o) h':=λb u e=>by
 have hn:=x.fresh hp;by_cases hb:b=a
 ·subst hb;rw[Dv]at e;cases e;exact new
 ·rw[Ax hb]at e;exact(x b u e).stay (λc v _ q=>k c v q) (λc q=>by rw[Ax (Ga q hn)];exact q) λc xs q=>by rw[Ax (Ga q hn)];exact q
end
def Rd(H:Hp)(a:jL)(u:HO):Prop:=H a=vk u∨∃o,H a=vk (.frz o u)
theorem Rd.ok{u:HO}(r:Rd H a u)(x:HOk P w H h):ObjOk P w H h a u:=by
 rcases r with r|⟨o,r⟩
 ·exact x a u r
 ·obtain⟨_,q⟩:=x a _ r;exact q
def Mut:Option HO->Prop
 |some (.lst _)=>True
 |some (.dK _)=>True
 |some (.dT _)=>True
 |some (.set _ _)=>True
 |some (.ins _ _ _)=>True
 |some (.ext _)=>True
 |_=>False
section
variable{P:jR}{w:xZ}{H:Hp}{h h':Heap}{x e:jL}{o':HO}
theorem HOk.write(ok:HOk P w H h)(mu:Mut (H x))(he:e=x∨H e=vk (.own x))(k:∀b u,b≠e->h.get? b=vk u->h'.get? b=vk u)(heo:∃u,h'.get? e=vk u)
  (new:ObjOk P w (upd H x o') h' x o'):HOk P w (upd H x o') h':=λb u q=>by
 have nown:∀c y,H c=vk (.own y)->c≠x:=λc y r z=>by subst z;rw[r]at mu;exact mu
 have ntup:∀c xs,H c=vk (.tup xs)->c≠x:=λc xs r z=>by subst z;rw[r]at mu;exact mu
 by_cases hb:b=x
 ·subst hb;rw[Dv]at q;cases q;exact new
 ·rw[Ax hb]at q;by_cases hbe:b=e
  ·have q':H b=vk (.own x):=by
    rcases he with z|z
    ·exact absurd (hbe.trans z) hb
    ·rw[hbe];exact z
   rw[q]at q';cases q';obtain⟨v,hv⟩:=heo;exact⟨v,by rw[hbe];exact hv⟩
  ·refine(ok b u q).stay (λc v hc r=>k c v ?_ r) (λc r=>by rw[Ax (nown c b r)];exact r) λc xs r=>by rw[Ax (ntup c xs r)];exact r
   rcases hc with rfl|hc
   ·exact hbe
   ·rintro rfl;rcases he with z|z
    ·exact nown c b hc z
    ·rw[hc]at z;cases z;exact hb rfl
end
structure Un (fs ex:List jL) (H H':Hp) (h h':Heap):Prop where
 keep:∀b o,h.get? b=vk o->H b=v4->b∉fs->b∉ex->h'.get? b=vk o
 slot:∀b o,h.get? b=vk o->H b=v4->b∈fs->b∉ex->∃sl,h'.get? b=vk {o with slots:=sl}
 free:∀b o,h.get? b=vk o->H b=v4->b∉ex->H' b=v4
 there:∀b o,h.get? b=vk o->b∉ex->∃o',h'.get? b=vk o'
 tups:∀b xs,H b=vk (.tup xs)->H' b=vk (.tup xs)
 frzs:∀b o u,H b=vk (.frz o u)->H' b=vk (.frz o u)
 tbls:∀b ps,H b=vk (.tbl ps)->∃more,H' b=vk (.tbl (ps++more))
section
variable{fs fs' ex ex':List jL}{H H1 H2:Hp}{h h1 h2 h':Heap}{a x e:jL}{o:HO}
theorem Un.any(u:Un fs ex H H1 h h1){ob:Obj}(q:h.get? b=vk ob)(n:H b=v4)(hx:b∉ex):∃sl,h1.get? b=vk {ob with slots:=sl}:=by
 by_cases hb:b∈fs
 ·exact u.slot b ob q n hb hx
 ·exact⟨ob.slots,u.keep b ob q n hb hx⟩
theorem Un.kept(k:∀b u,h.get? b=vk u->h'.get? b=vk u):Un fs ex H H h h':=
 ⟨λb ob q _ _ _=>k b ob q,λb ob q _ _ _=>⟨ob.slots,k b ob q⟩,λ_ _ _ n _=>n,λb ob q _=>⟨ob,k b ob q⟩,λ_ _ q=>q,λ_ _ _ q=>q,λ_ ps q=>⟨#[],by rw[q];simp⟩⟩
theorem Un.refl:Un fs ex H H h h:=Un.kept λ_ _ q=>q
theorem Un.laid(k:∀b u,h.get? b=vk u->h'.get? b=vk u)(hp:h.objs.size<=a)(hn:H a=v4):Un fs ex H (upd H a o) h h' where
 keep:=λb u q _ _ _=>k b u q
 slot:=λb u q _ _ _=>⟨u.slots,k b u q⟩
 free:=λb u q n _=>by rw[Ax (z9 (zV (zK q) hp))];exact n
 there:=λb u q _=>⟨u,k b u q⟩
 tups:=λb xs q=>by rw[Ax (Ga q hn)];exact q
 frzs:=λb u xs q=>by rw[Ax (Ga q hn)];exact q
 tbls:=λb ps q=>⟨#[],by rw[Ax (Ga q hn),q];simp⟩
theorem Un.write(mu:Mut (H x))(he:e=x∨H e=vk (.own x))(k:∀b u,b≠e->h.get? b=vk u->h'.get? b=vk u)(heo:∃u,h'.get? e=vk u):Un fs ex H (upd H x o) h h':=by
 have hx:∀b,H b=v4->b≠x:=λb n z=>by subst z;rw[n]at mu;exact mu
 have hb:∀b,H b=v4->b≠e:=λb n z=>by
  subst z;rcases he with r|r
  ·exact hx b n r
  ·rw[n]at r;cases r
 have hm:∀b u,H b=vk u->¬Mut (vk u)->b≠x:=λb u q nm z=>by subst z;rw[q]at mu;exact nm mu
 refine⟨λb u q n _ _=>k b u (hb b n) q,λb u q n _ _=>⟨u.slots,k b u (hb b n) q⟩,λb u q n _=>by rw[Ax (hx b n)];exact n,λb u q _=>?_,
  λb xs q=>by rw[Ax (hm b _ q λz=>z)];exact q,λb u xs q=>by rw[Ax (hm b _ q λz=>z)];exact q,λb ps q=>⟨#[],by rw[Ax (hm b _ q λz=>z),q];simp⟩⟩
 by_cases hbe:b=e
 ·subst hbe;exact heo
 ·exact⟨u,k b u hbe q⟩
end
noncomputable def trk(h:Heap)(H:Hp):List jL:=(zq h.objs.size).filter λa=>(H a).isSome
def Ih(h:Heap)(H:Hp):Heap:=PySem.W.hideAll h (trk h H)
theorem ZO0(h:Heap)(H:Hp):(Ih h H).objs.size=h.objs.size:=PySem.W.hideAll_size _ _
theorem ZNZ{o:Obj}(e:h.get? b=vk o)(n:H b=v4):(Ih h H).get? b=vk o:=
 PySem.W.hideAll_get _ e λhm=>by have q:(H b).isSome=v5:=(List.mem_filter.mp hm).2;rw[n]at q;simp at q
theorem ZPY{o:Obj}(e:(Ih h H).get? b=vk o):h.get? b=vk o/\H b=v4:=by
 have e':h.get? b=vk o:=PySem.W.of_hideAll (trk h H) e;refine⟨e',?_⟩;cases q:H b with
 |none=>rfl
 |some x=>
  have hm:b∈trk h H:=List.mem_filter.mpr ⟨qZ.mpr (zK e'),by simp[q]⟩;have z:(Ih h H).get? b=v4:=PySem.W.hideAll_none (trk h H) hm;rw[z]at e;cases e
noncomputable def ZMF(g h:Heap)(L:jL):List (jL×Obj):=(zq h.objs.size).filterMap λa=>if a=L∨(g.get? a).isSome=v5 then v4 else(h.get? a).map λo=>(a,o)
def rest(g h:Heap)(L d:jL):List (jL×Obj):=(ZMF g h L).filter λp=>decide (p.1≠d)
structure Mod (K:PySem.W.Frag) (mg:Str->Option xQ) (base:Heap):Prop where
 kin:K.In base
 glob:base.Ns xI mg
 blt:∃mb,base.Ns builtinsNs mb/\∀x:Str,x≠"__name__"->mb x=xq x
 nolimit:base.NoLimit
structure Cx where
 prog:jR
 w:xZ
 K:PySem.W.Frag
 mg:Str->Option xQ
 base:Heap
 A:jM
 N:List Str
 s₀:jT
 H₀:Hp
 env:Env
 outer:List Env
 stack:List Env
 ex:List jL
 fn:Str->Bool
 calm:Bool
 pn:List (jL×Obj)
 xe:xQ->jT->Prop
variable{X:Cx}
noncomputable def frs(l:List Env):List jL:=l.filterMap (·.frame)
noncomputable abbrev Cx.fs(X:Cx):List jL:=frs X.outer
def Vis(sc:jS)(x:Str):Prop:=sc.names.lookup x=vk .local∨sc.names.lookup x=vk .cell∨sc.names.lookup x=vk .free
def Loc(sc:jS)(x:Str):Prop:=sc.names.lookup x=vk .local∨sc.names.lookup x=vk .cell
def Look(env:Env)(h:Heap)(m:Str->Option xQ)(x:Str)(u:xQ):Prop:=
 (env.kindOf x=vk .local/\m x=vk u)∨((env.kindOf x=vk .cell∨env.kindOf x=vk .free)/\∃c,env.cells.lookup x=vk c/\h.IsCell c (vk u))
structure Cx.Ok (X:Cx):Prop where
 mod:Mod X.K X.mg X.base
 kind:X.env.scope.kind=.function
 glob:X.env.globals=xI
 blt:X.env.builtins=builtinsNs
 above:X.s₀.heap.objs.size<=X.env.locals
 inj:∀x y c,X.env.cells.lookup x=vk c->X.env.cells.lookup y=vk c->x=y
 has:∀x,(X.env.kindOf x=vk .cell∨X.env.kindOf x=vk .free)->∃c,X.env.cells.lookup x=vk c
 cab:∀x c,X.fn x=v5->X.env.cells.lookup x=vk c->X.s₀.heap.objs.size<=c
 hd:X.calm=v5->X.A.handled=v4
 frames:X.A.frames=vk X.stack
 stk:X.stack=X.outer∨(X.stack=X.env::X.outer/\X.env.frame=vk X.env.locals)
 exf:∀b∈X.ex,b≠X.env.locals/\∀x c,X.env.cells.lookup x=vk c->c≠b
 bs:∀b o,X.base.get? b=vk o->X.s₀.heap.get? b=vk o/\X.H₀ b=v4
 bsz:X.base.objs.size<=X.s₀.heap.objs.size
 noex:∀b o,X.base.get? b=vk o->b∉X.ex
 exfs:∀b∈X.ex,b∉X.fs
 funs:X.s₀.heap.FunFrames X.base X.outer
 frf:∀b∈X.fs,X.H₀ b=v4
structure Inv (X:Cx) (vv:List (jL×Obj)) (σ:List (Option V)) (H:Hp) (s:jT):Prop where
 ok:X.Ok
 os:s.os=X.s₀.os
 bare:AllBare s.gens
 base:Un X.fs X.ex X.H₀ H X.s₀.heap s.heap
 loc:∃m,s.heap.Ns X.env.locals m/\∀(i:Nat)(x:Str)(v:V),X.N[i]?=vk x->σ[i]?=vk (vk v)->Vis X.env.scope x->∃u,RelV v u/\Look X.env s.heap m x u
 cell:∀x c,X.env.cells.lookup x=vk c->∃v,s.heap.IsCell c v
 free:H X.env.locals=v4
 Fi:∀x c,X.env.cells.lookup x=vk c->H c=v4
 pin:∀p∈X.pn++vv,s.heap.get? p.1=vk p.2/\H p.1=v4/\p.1≠X.env.locals/\p.1∉X.fs/\∀v,p.2.data≠ .cell v
 hok:HOk X.prog X.w H s.heap
 len:σ.length=X.N.length
section
variable{X:Cx}{vv:List (jL×Obj)}{σ:List (Option V)}{H H':Hp}{s:jT}{h':Heap}
theorem Cx.Ok.nofr(ok:X.Ok){o:Obj}(e:X.base.get? b=vk o):b∉X.fs:=λhb=>by have:=(ok.funs.mem hb).1;rw[e]at this;cases this
theorem Inv.bs(I:Inv X vv σ H s):∀b o,X.base.get? b=vk o->s.heap.get? b=vk o/\H b=v4:=λb o e=>
 ⟨I.base.keep b o (I.ok.bs b o e).1 (I.ok.bs b o e).2 (I.ok.nofr e) (I.ok.noex b o e),I.base.free b o (I.ok.bs b o e).1 (I.ok.bs b o e).2 (I.ok.noex b o e)⟩
theorem Inv.bk(I:Inv X vv σ H s):∀b o,X.base.get? b=vk o->s.heap.get? b=vk o:=λb o e=>(I.bs b o e).1
theorem Inv.mod(I:Inv X vv σ H s):Mod X.K X.mg X.base:=I.ok.mod
theorem Inv.kIn(I:Inv X vv σ H s):X.K.In s.heap:=I.ok.mod.kin.keeps I.bk
theorem Inv.lt(I:Inv X vv σ H s):X.env.locals<s.heap.objs.size:=let⟨_,hn,_⟩:=I.loc;hn.lt
theorem Inv.sz(I:Inv X vv σ H s):X.s₀.heap.objs.size<=s.heap.objs.size:=z8 I.ok.above (Nat.le_of_lt I.lt)
theorem Inv.nofs(I:Inv X vv σ H s)(h:s.heap.objs.size<=a):a∉X.fs:=λhb=>by obtain⟨_,o,ho,_⟩:=I.ok.funs.mem hb;exact absurd (zV (zK ho) (z8 I.sz h)) (zN _)
theorem Inv.cne(I:Inv X vv σ H s):∀x c,X.env.cells.lookup x=vk c->c≠X.env.locals:=λx c e z=>by obtain⟨v,o,ho,hd⟩:=I.cell x c e;obtain⟨m,⟨o',es,ep,ho',hd',_⟩,_⟩:=I.loc;rw[z,ho']at ho;cases ho;rw[hd']at hd;cases hd
theorem Inv.funs(I:Inv X vv σ H s):s.heap.FunFrames X.base X.outer:=by
 have all:∀(l:List Env),(∀b∈frs l,b∈X.fs)->X.s₀.heap.FunFrames X.base l->s.heap.FunFrames X.base l:=by
  intro l
  induction l with
  |nil=>intro _ _;trivial
  |cons env r ih=>
   intro hs hl;obtain⟨hk,⟨L,o,hf,hn,ho,hd⟩,hr⟩:=hl;have hL:L∈X.fs:=hs L (by unfold frs;rw[qJ,hf];exact zW);obtain⟨sl,e⟩:=I.base.slot L o ho (I.ok.frf L hL) hL λz=>I.ok.exfs L z hL
   exact⟨hk,⟨L,_,hf,hn,e,hd⟩,ih (λb hb=>hs b (by unfold frs;rw[qJ,hf];exact zZ _ hb)) hr⟩
 exact all X.outer (λ_ hb=>hb) I.ok.funs
theorem Inv.stack(I:Inv X vv σ H s):s.heap.FunFrames X.base X.stack:=by
 rcases I.ok.stk with e|⟨e,hf⟩
 ·rw[e];exact I.funs
 ·rw[e];obtain⟨m,hn,_⟩:=I.loc;refine .cons (by rw[I.ok.kind];decide) hf hn ?_ I.funs;exact jA (z8 I.ok.bsz I.ok.above)
theorem Inv.Wo(I:Inv X vv σ H s):∀b∈frs X.stack,b∈X.env.locals::X.fs:=λb hb=>by
 rcases I.ok.stk with e|⟨e,hf⟩
 ·rw[e]at hb;exact zZ _ hb
 ·rw[e]at hb;unfold frs at hb;rw[qJ,hf]at hb;exact hb
theorem Inv.U9(I:Inv X vv σ H s):∀b∈frs X.stack,H b=v4:=λb hb=>by
 rcases zj.mp (I.Wo b hb)with e|hb
 ·rw[e];exact I.free
 ·obtain⟨_,o,ho,_⟩:=I.ok.funs.mem hb;exact I.base.free b o ho (I.ok.frf b hb) λz=>I.ok.exfs b z hb
theorem Inv.step{g':Array GenState}{d':Drawn}(I:Inv X vv σ H s)
  (hch:∀b∈ch,(b∈X.ex∨X.s₀.heap.objs.size<=b)/\b≠X.env.locals/\(∀x c,X.env.cells.lookup x=vk c->c≠b)/\∀p∈X.pn++vv,p.1≠b)
  (keep:∀b o,b≠X.env.locals->b∉X.fs->b∉ch->s.heap.get? b=vk o->H b=v4->h'.get? b=vk o)
  (slot:∀b o,b≠X.env.locals->b∈X.fs->b∉ch->s.heap.get? b=vk o->H b=v4->∃sl,h'.get? b=vk {o with slots:=sl}) (free:∀b o,b∉ch->s.heap.get? b=vk o->H b=v4->H' b=v4)
  (there:∀b o,b∉ch->s.heap.get? b=vk o->∃o',h'.get? b=vk o')
  (tups:∀b xs,H b=vk (.tup xs)->H' b=vk (.tup xs)) (frzs:∀b o u,H b=vk (.frz o u)->H' b=vk (.frz o u)) (tbls:∀b ps,H b=vk (.tbl ps)->∃more,H' b=vk (.tbl (ps++more)))
  (ns:∀m,s.heap.Ns X.env.locals m->h'.Ns X.env.locals m) (hok:HOk X.prog X.w H' h') (hg:AllBare g'):
  Inv X vv σ H' {s with heap:=h',gens:=g',drawn:=d',toks:=t'}:=by
 have neL:∀b o,X.s₀.heap.get? b=vk o->b≠X.env.locals:=λb o e=>z9 (zV (zK e) I.ok.above)
 have neC:∀b o,X.s₀.heap.get? b=vk o->b∉X.ex->b∉ch:=λb o e hx hb=>by
  rcases(hch b hb).1 with z|z
  ·exact hx z
  ·exact absurd (zV (zK e) z) (zN _)
 have cellK:∀x c,X.env.cells.lookup x=vk c->∀v,s.heap.IsCell c v->h'.IsCell c v:=λx c e v ⟨o,ho,hd⟩=>by
  have nch:c∉ch:=λz=>(hch c z).2.2.1 x c e rfl
  by_cases hc:c∈X.fs
  ·obtain⟨sl,q⟩:=slot c o (I.cne x c e) hc nch ho (I.Fi x c e);exact⟨_,q,hd⟩
  ·exact⟨o,keep c o (I.cne x c e) hc nch ho (I.Fi x c e),hd⟩
 refine⟨I.ok,I.os,hg,⟨λb o e n hb hx=>?_,λb o e n hb hx=>?_,λb o e n hx=>?_,λb o e hx=>?_,λb xs e=>tups b xs (I.base.tups b xs e),λb o xs e=>frzs b o xs (I.base.frzs b o xs e),λb ps e=>?_⟩,?_,λx c e=>?_,?_,λx c e=>?_,λp hp=>?_,hok,I.len⟩
 ·exact keep b o (neL b o e) hb (neC b o e hx) (I.base.keep b o e n hb hx) (I.base.free b o e n hx)
 ·obtain⟨sl,e1⟩:=I.base.slot b o e n hb hx;obtain⟨sl',e2⟩:=slot b _ (neL b o e) hb (neC b o e hx) e1 (I.base.free b o e n hx);exact⟨sl',e2⟩
 ·obtain⟨o',e1⟩:=I.base.there b o e hx;exact free b o' (neC b o e hx) e1 (I.base.free b o e n hx)
 ·obtain⟨o',e1⟩:=I.base.there b o e hx;exact there b o' (neC b o e hx) e1
 ·obtain⟨m1,e1⟩:=I.base.tbls b ps e;obtain⟨m2,e2⟩:=tbls b _ e1;exact⟨m1++m2,by rw[e2,Array.append_assoc]⟩
 ·obtain⟨m,hn,hl⟩:=I.loc;refine⟨m,ns m hn,λi x v e1 e2 e3=>?_⟩;obtain⟨u,r,l⟩:=hl i x v e1 e2 e3;refine⟨u,r,?_⟩;rcases l with l|⟨k,c,e,z⟩
  ·exact .inl l
  ·exact .inr ⟨k,c,e,cellK x c e _ z⟩
 ·obtain⟨v,z⟩:=I.cell x c e;exact⟨v,cellK x c e v z⟩
 ·obtain⟨m,⟨o,_,_,ho,_⟩,_⟩:=I.loc;exact free _ o (λz=>(hch _ z).2.1 rfl) ho I.free
 ·obtain⟨v,o,ho,hd⟩:=I.cell x c e;exact free c o (λz=>(hch c z).2.2.1 x c e rfl) ho (I.Fi x c e)
 ·obtain⟨e,n,ne,nf,d⟩:=I.pin p hp;have nch:p.1∉ch:=λz=>(hch p.1 z).2.2.2 p hp rfl
  exact⟨keep p.1 p.2 ne nf nch e n,free p.1 p.2 nch e n,ne,nf,d⟩
theorem Inv.un(I:Inv X vv σ H s)(u:Un X.fs [] H H' s.heap h')(hok:HOk X.prog X.w H' h'):Inv X vv σ H' {s with heap:=h',toks:=t'}:=by
 obtain⟨m,⟨o,es,ep,ho,r⟩,_⟩:=id I.loc;obtain⟨sl,hL⟩:=u.any ho I.free (by simp)
 exact I.step (g':=s.gens) (d':=s.drawn) (ch:=[]) (λ_ z=>nomatch z) (λb o _ hb _ e n=>u.keep b o e n hb (by simp)) (λb o _ hb _ e n=>u.slot b o e n hb (by simp)) (λb o _ e n=>u.free b o e n (by simp)) (λb o _ e=>u.there b o e (by simp)) u.tups u.frzs u.tbls (λm' hm=>by obtain⟨o',es',ep',ho',r'⟩:=hm;rw[ho]at ho';cases ho';exact⟨_,es',ep',hL,r'⟩) hok I.bare
theorem Inv.call{g':Array GenState}{d':Drawn}(I:Inv X vv σ H s)(u:Un (frs X.stack) ch H H' s.heap h')(hok:HOk X.prog X.w H' h')(hg:AllBare g')
  (hch:∀b∈ch,(b∈X.ex∨X.s₀.heap.objs.size<=b)/\b≠X.env.locals/\(∀x c,X.env.cells.lookup x=vk c->c≠b)/\∀p∈X.pn++vv,p.1≠b):
  Inv X vv σ H' {s with heap:=h',gens:=g',drawn:=d',toks:=t'}:=by
 obtain⟨m,⟨o,es,ep,ho,r⟩,_⟩:=id I.loc;obtain⟨sl,hL⟩:=u.any ho I.free λz=>(hch _ z).2.1 rfl
 exact I.step (ch:=ch) hch (λb o hL hb hc e n=>u.keep b o e n (λz=>(zj.mp (I.Wo b z)).elim hL hb) hc) (λb o _ _ hc e n=>u.any e n hc) (λb o hc e n=>u.free b o e n hc) (λb o hc e=>u.there b o e hc) u.tups u.frzs u.tbls (λm' hm=>by obtain⟨o',es',ep',ho',r'⟩:=hm;rw[ho]at ho';cases ho';exact⟨_,es',ep',hL,r'⟩) hok hg
theorem Inv.turned{it:jL}(I:Inv X vv σ H s)(k:∀b o,b≠it->s.heap.get? b=vk o->h'.get? b=vk o)(hn:H it=v4)(hL:it≠X.env.locals)
  (h1:it∈X.ex∨X.s₀.heap.objs.size<=it) (h2:∀x c,X.env.cells.lookup x=vk c->c≠it) (h3:∀p∈X.pn++vv,p.1≠it):Inv X vv σ H {s with heap:=h',toks:=t'}:=by
 have nit:∀b u,H b=vk u->b≠it:=λb u e z=>by rw[z,hn]at e;cases e
 refine I.step (g':=s.gens) (d':=s.drawn) (ch:=[it]) (λb hb=>?_) (λb o _ _ hc e _=>k b o (λz=>hc (by simp[z])) e) (λb o _ _ hc e _=>⟨o.slots,k b o (λz=>hc (by simp[z])) e⟩) (λ_ _ _ _ n=>n)
  (λb o hc e=>⟨o,k b o (λz=>hc (by simp[z])) e⟩) (λ_ _ e=>e) (λ_ _ _ e=>e) (λb ps e=>⟨#[],by rw[e];simp⟩) (λm hm=>?_) (λb u e=>?_) I.bare
 ·have e:b=it:=by simpa using hb
  subst e;exact⟨h1,hL,h2,h3⟩
 ·obtain⟨o,es,ep,ho,r⟩:=hm;exact⟨o,es,ep,k _ o (Ne.symm hL) ho,r⟩
 ·refine(I.hok b u e).stay (λc v hc q=>k c v ?_ q) (λ_ q=>q) λ_ _ q=>q
  rcases hc with z|z
  ·rw[z];exact nit b u e
  ·exact nit c _ z
theorem Inv.tok(I:Inv X vv σ H s)(t:Nat):Inv X vv σ H {s with toks:=t}:=I.un (h':=s.heap) (t':=t) Un.refl I.hok
theorem Inv.kept(I:Inv X vv σ H s)(k:∀b u,s.heap.get? b=vk u->h'.get? b=vk u):Inv X vv σ H {s with heap:=h',toks:=t'}:=I.un (Un.kept k) (I.hok.kept k)
theorem Inv.laid(I:Inv X vv σ H s)(k:∀b u,s.heap.get? b=vk u->h'.get? b=vk u)(hp:s.heap.objs.size<=a)(new:ObjOk X.prog X.w (upd H a o) h' a o):
  Inv X vv σ (upd H a o) {s with heap:=h',toks:=t'}:=I.un (Un.laid k hp (I.hok.fresh hp)) (I.hok.laid k hp new)
theorem Inv.write{x e:jL}(I:Inv X vv σ H s)(mu:Mut (H x))(he:e=x∨H e=vk (.own x))(k:∀b u,b≠e->s.heap.get? b=vk u->h'.get? b=vk u)(heo:∃u,h'.get? e=vk u)
  (new:ObjOk X.prog X.w (upd H x o) h' x o):Inv X vv σ (upd H x o) {s with heap:=h',toks:=t'}:=I.un (Un.write mu he k heo) (I.hok.write mu he k heo new)
theorem Inv.Jy{pins':List (jL×Obj)}(I:Inv X vv σ H s)(h:∀p∈pins',s.heap.get? p.1=vk p.2/\H p.1=v4/\p.1≠X.env.locals/\p.1∉X.fs/\∀v,p.2.data≠ .cell v):Inv X pins' σ H s:=
 ⟨I.ok,I.os,I.bare,I.base,I.loc,I.cell,I.free,I.Fi,λp hp=>(List.mem_append.mp hp).elim (λz=>I.pin p (jB _ z)) (h p),I.hok,I.len⟩
theorem ZA3{N:List Str}(hN:N.Nodup){j:Nat}(a:N[i]?=vk x)(b:N[j]?=vk x):i=j:=by obtain⟨h1,e1⟩:=zD.mp a;obtain⟨h2,e2⟩:=zD.mp b;exact(List.getElem_inj hN).mp (e1.trans e2.symm)
theorem ZDi{M:Model}{A:jM}{E:xQ->jT->Prop}{Q:Unit->jT->Prop}(I:Inv X vv σ H s)(hN:X.N.Nodup)(hi:X.N[i]?=vk x)(hx:Loc X.env.scope x)(r:RelV v u)
  (h:∀s',Inv X vv (σ.set i (vk v)) H s'->(∃a,qK a s.heap s'.heap/\(a=X.env.locals∨X.env.cells.lookup x=vk a))->Q () s') (hf:X.fn x=v5∨X.env.scope.names.lookup x=vk .local:=by first|exact .inl rfl|exact .inr rfl|assumption):xS M A (storeName X.env x u) Q E s:=by
 obtain⟨m,hn,hl⟩:=id I.loc;have hcls:(X.env.scope.kind == .class||(X.env.scope.kind == .module&&X.env.locals != X.env.globals))=v6:=by rw[I.ok.kind];rfl
 have hiσ:i<σ.length:=by rw[I.len];exact(zD.mp hi).1
 have cne:=I.cne;have tracked:∀{a:jL}{h':Heap},(∃o,s.heap.get? a=vk o/\H a=v4)->qK a s.heap h'->HOk X.prog X.w H h':=λ{a h'}ha hs b ob e=>by
  obtain⟨_,_,hfree⟩:=ha;refine(I.hok b ob e).stay (λc w' hc q=>(hs.2 c ?_).trans q) (λ_ q=>q) λ_ _ q=>q
  rintro rfl;rcases hc with rfl|hc
  ·rw[hfree]at e;cases e
  ·rw[hfree]at hc;cases hc
 rcases hx with hk|hk
 ·refine wpAny_storeName_local hk hn (λh' hn' hs=>?_) hcls;obtain⟨oL,_,_,hoL,_⟩:=id hn;refine h _ ⟨I.ok,I.os,I.bare,⟨λb o e n hb hx=>?_,λb o e n hb hx=>?_,I.base.free,λb o e hx=>?_,I.base.tups,I.base.frzs,I.base.tbls⟩,⟨_,hn',λj y v' e1 e2 e3=>?_⟩,λy c e=>?_,I.free,I.Fi,λp hp=>?_,tracked ⟨oL,hoL,I.free⟩ hs,by simpa using I.len⟩ ⟨_,hs,.inl rfl⟩
  ·exact(hs.2 b (z9 (zV (zK e) I.ok.above))).trans (I.base.keep b o e n hb hx)
  ·obtain⟨sl,e1⟩:=I.base.slot b o e n hb hx;exact⟨sl,(hs.2 b (z9 (zV (zK e) I.ok.above))).trans e1⟩
  ·obtain⟨o',e1⟩:=I.base.there b o e hx;exact⟨o',(hs.2 b (z9 (zV (zK e) I.ok.above))).trans e1⟩
  ·by_cases hj:j=i
   ·subst hj;rw[hi]at e1;cases e1;rw[qN hiσ]at e2;cases e2;exact⟨u,r,.inl ⟨hk,by simp⟩⟩
   ·rw[qk (Ne.symm hj)]at e2;obtain⟨u',r',q⟩:=hl j y v' e1 e2 e3;refine⟨u',r',?_⟩;rcases q with⟨k,e⟩|⟨k,c,e,z⟩
    ·refine .inl ⟨k,?_⟩;have:y≠x:=λe=>hj (ZA3 hN e1 (e▸hi))
     simp[this,e]
    ·exact .inr ⟨k,c,e,z.sameBut hs (cne y c e)⟩
  ·obtain⟨w',z⟩:=I.cell y c e;exact⟨w',z.sameBut hs (cne y c e)⟩
  ·obtain⟨e,n,ne,nf,d⟩:=I.pin p hp;exact⟨(hs.2 p.1 ne).trans e,n,ne,nf,d⟩
 ·have hfn:X.fn x=v5:=by
   rcases hf with z|z
   ·exact z
   ·rw[z]at hk;cases hk
  obtain⟨c,hc⟩:=I.ok.has x (.inl hk);obtain⟨w',z⟩:=I.cell x c hc;refine wpAny_storeName_cell I.ok.kind hk hc z (λh' hc' hs=>?_);obtain⟨oc,hoc,hocd⟩:=id z;refine h {s with heap:=h'} ⟨I.ok,I.os,I.bare,⟨λb o e n hb hx=>?_,λb o e n hb hx=>?_,I.base.free,λb o e hx=>?_,I.base.tups,I.base.frzs,I.base.tbls⟩,⟨m,hn.sameBut hs (Ne.symm (cne x c hc)),λj y v' e1 e2 e3=>?_⟩,λy c' e=>?_,I.free,I.Fi,λp hp=>?_,tracked ⟨oc,hoc,I.Fi x c hc⟩ hs,by simpa using I.len⟩ ⟨c,hs,.inr hc⟩
  ·exact(hs.2 b (z9 (zV (zK e) (I.ok.cab x c hfn hc)))).trans (I.base.keep b o e n hb hx)
  ·obtain⟨sl,e1⟩:=I.base.slot b o e n hb hx;exact⟨sl,(hs.2 b (z9 (zV (zK e) (I.ok.cab x c hfn hc)))).trans e1⟩
  ·obtain⟨o',e1⟩:=I.base.there b o e hx;exact⟨o',(hs.2 b (z9 (zV (zK e) (I.ok.cab x c hfn hc)))).trans e1⟩
  ·by_cases hj:j=i
   ·subst hj;rw[hi]at e1;cases e1;rw[qN hiσ]at e2;cases e2;exact⟨u,r,.inr ⟨.inl hk,c,hc,hc'⟩⟩
   ·rw[qk (Ne.symm hj)]at e2;obtain⟨u',r',q⟩:=hl j y v' e1 e2 e3;refine⟨u',r',?_⟩;rcases q with q|⟨k,c',e,z'⟩
    ·exact .inl q
    ·refine .inr ⟨k,c',e,z'.sameBut hs ?_⟩;rintro rfl;exact hj (ZA3 hN e1 (I.ok.inj _ _ _ e hc▸hi))
  ·by_cases hcc:c'=c
   ·subst hcc;exact⟨_,hc'⟩
   ·obtain⟨w2,z2⟩:=I.cell y c' e;exact⟨w2,z2.sameBut hs hcc⟩
  ·obtain⟨e,n,ne,nf,d⟩:=I.pin p hp;refine⟨(hs.2 p.1 ?_).trans e,n,ne,nf,d⟩;intro q;rw[q,hoc]at e;have q':oc=p.2:=Option.some.inj e;exact d w' (by rw[<-q'];exact hocd)
theorem Vt{M:Model}{A:jM}{E:xQ->jT->Prop}{Q:Unit->jT->Prop}(I:Inv X vv σ H s)(hN:X.N.Nodup)(hi:X.N[i]?=vk x)(hx:Loc X.env.scope x)(r:RelV v u)
  (h:∀s',Inv X vv (σ.set i (vk v)) H s'->Q () s') (hf:X.fn x=v5∨X.env.scope.names.lookup x=vk .local:=by first|exact .inl rfl|exact .inr rfl|assumption):xS M A (storeName X.env x u) Q E s:=
 ZDi I hN hi hx r (λs' I' _=>h s' I') hf
theorem Inv.call'{s':jT}(I:Inv X vv σ H s)(ho:s'.os=s.os)(u:Un (frs X.stack) ch H H' s.heap s'.heap)(hok:HOk X.prog X.w H' s'.heap)(hg:AllBare s'.gens)
  (hch:∀b∈ch,(b∈X.ex∨X.s₀.heap.objs.size<=b)/\b≠X.env.locals/\(∀x c,X.env.cells.lookup x=vk c->c≠b)/\∀p∈X.pn++vv,p.1≠b):Inv X vv σ H' s':=by
 obtain⟨h',g',d',t',o'⟩:=s';have e:o'=s.os:=ho;subst e;exact I.call (g':=g') (t':=t') (d':=d') u hok hg hch
end
noncomputable abbrev XK:=xQ->Option jL->Hp->Prop
noncomputable abbrev St:=List (Option V)
variable{σ:St}
noncomputable abbrev VK:=V->Hp->Prop
noncomputable abbrev TE:=St->Hp->VK->Prop
variable{te:TE}
noncomputable abbrev TT:=St->Hp->(Bool->Hp->Prop)->Prop
noncomputable abbrev TA:=St->Hp->(List V->Hp->Prop)->Prop
structure Ends where
 nx:St->Hp->Prop
 rt:VK
 bk:St->Hp->Prop:=λ_ _=>False
 ct:St->Hp->Prop:=λ_ _=>False
noncomputable abbrev TS:=Ends->St->Hp->Prop
def EP(X:Cx)(vv:List (jL×Obj))(σ:St)(Q:VK)(u:xQ)(s':jT):Prop:=∃v H',Inv X vv σ H' s'/\RelV v u/\Q v H'
def TP(X:Cx)(vv:List (jL×Obj))(σ:St)(Q:Bool->Hp->Prop)(b:Bool)(s':jT):Prop:=∃H',Inv X vv σ H' s'/\Q b H'
def AP(X:Cx)(vv:List (jL×Obj))(σ:St)(Q:List V->Hp->Prop)(us:List xQ)(s':jT):Prop:=∃vs H',Inv X vv σ H' s'/\Vals vs us/\Q vs H'
def SP(X:Cx)(vv:List (jL×Obj))(D:Ends)(f:Flow)(s':jT):Prop:=
 match f with
 |.next=>∃σ' H',Inv X vv σ' H' s'/\D.nx σ' H'
 |.brk=>∃σ' H',Inv X vv σ' H' s'/\D.bk σ' H'
 |.cont=>∃σ' H',Inv X vv σ' H' s'/\D.ct σ' H'
 |.ret u=>∃v σ' H',Inv X vv σ' H' s'/\RelV v u/\D.rt v H'
def PE(X:Cx)(e:jN)(t:TE):Prop:=
 ∀(vv:List (jL×Obj))(s:jT)(σ:St)(H:Hp)(Q:VK),Inv X vv σ H s->t σ H Q->xS (xL X.prog X.w) X.A (eval e X.env) (EP X vv σ Q) X.xe s
def PT(X:Cx)(e:jN)(t:TT):Prop:=
 ∀(vv:List (jL×Obj))(s:jT)(σ:St)(H:Hp)(Q:Bool->Hp->Prop),Inv X vv σ H s->t σ H Q->xS (xL X.prog X.w) X.A (isTrue e X.env (eval e X.env)) (TP X vv σ Q) X.xe s
def PW(X:Cx)(e:jN)(t:TT):Prop:=
 ∀(whole:Sem xQ)(vv:List (jL×Obj))(s:jT)(σ:St)(H:Hp)(Q:Bool->Hp->Prop),Inv X vv σ H s->t σ H Q->xS (xL X.prog X.w) X.A (isTrue e X.env whole) (TP X vv σ Q) X.xe s
theorem PW.pt{t:TT}(h:PW X e t):PT X e t:=h _
def PA(X:Cx)(es:List jN)(t:TA):Prop:=
 ∀(pos:Pos)(vv:List (jL×Obj))(s:jT)(σ:St)(H:Hp)(Q:List V->Hp->Prop),Inv X vv σ H s->t σ H Q->xS (xL X.prog X.w) X.A (spliced (xV pos (xP es X.env))) (AP X vv σ Q) X.xe s
def PS(X:Cx)(st:jU)(t:TS):Prop:=
 ∀(vv:List (jL×Obj))(s:jT)(σ:St)(H:Hp)(D:Ends),Inv X vv σ H s->t D σ H->xS (xL X.prog X.w) X.A (exec st X.env) (SP X vv D) X.xe s
def PSs(X:Cx)(st:List jU)(t:TS):Prop:=
 ∀(vv:List (jL×Obj))(s:jT)(σ:St)(H:Hp)(D:Ends),Inv X vv σ H s->t D σ H->xS (xL X.prog X.w) X.A (execs st X.env) (SP X vv D) X.xe s
theorem thn{α:Type}{t:Sem α}{Q Q':α->jT->Prop}{M:Model}(h:xS M A t Q E s)(hQ:∀a s,Q a s->Q' a s):xS M A t Q' E s:=vV h hQ λ_ _ x=>x
section
variable{X:Cx}
noncomputable def Ls(i:Nat):TE:=λσ H Q=>∃v,σ[i]?=vk (vk v)/\Q v H
noncomputable def tC(v:V):TE:=λ_ H Q=>Q v H
theorem Oe{pos:Pos}(hN:X.N[i]?=vk x)(hv:Vis X.env.scope x)(hd:(x==("__debug__":Str))=v6:=by decide)(hcd:(x==("__classdict__":Str))=v6:=by decide):PE X (.Name x pos) (Ls i):=by
 intro vv s σ H Q I h;obtain⟨v,e,h⟩:=h;obtain⟨m,hn,hl⟩:=I.loc;obtain⟨u,r,l⟩:=hl i x v hN e hv;have fin:EP X vv σ Q u s:=⟨v,H,I,r,h⟩;rcases l with⟨hk,hm⟩|⟨hk,c,hc,hcell⟩
 ·exact wpAny_Name (wpAny_loadName_local I.ok.kind hk hn hm fin) hd
 ·rcases hk with hk|hk
  ·exact wpAny_Name (wpAny_loadName_cell I.ok.kind hk hc hcell fin) hd
  ·exact wpAny_Name (wpAny_loadName_free I.ok.kind hk hc hcell fin hcd) hd
theorem ZJg{i j pos}:PE X (.Constant (.int i) j pos) (tC (.int i)):=λ_ _ _ H _ I h=>wpAny_Constant_int ⟨.int i,H,I.tok _,⟨_,rfl⟩,h⟩
theorem ZMU{b j pos}:PE X (.Constant (.bool b) j pos) (tC (.bl b)):=λ_ _ _ H _ I h=>Constant_bool ⟨.bl b,H,I,rfl,h⟩
theorem ZIe{j pos}:PE X (.Constant .none j pos) (tC .non):=λ_ _ _ H _ I h=>Constant_none ⟨.non,H,I,rfl,h⟩
theorem Rk{x j pos}:PE X (.Constant (.str x) j pos) (tC (.str x)):=λ_ _ _ H _ I h=>Calls.Constant_str ⟨.str x,H,I.tok _,⟨_,rfl⟩,h⟩
def Gl(X:Cx)(x:Str):Prop:=X.env.kindOf x=vk .globalImplicit
theorem Js{E:xQ->jT->Prop}{pos:Pos}(I:Inv X vv σ H s)(hg:Gl X x)(hm:X.mg x=vk u)(h:Q u s)
  (hd:(x==("__debug__":Str))=v6:=by decide):xS (xL X.prog X.w) X.A (eval (.Name x pos) X.env) Q E s:=
 Calls.Name_function_global I.ok.kind hg (Calls.loadGlobal_global (by rw[I.ok.glob];exact I.mod.glob.keeps I.bk) hm h) hd
theorem Hc{E:xQ->jT->Prop}{pos:Pos}(I:Inv X vv σ H s)(hg:Gl X x)(hm:X.mg x=v4)(hv:xq x=vk u)(h:Q u s)
  (hn:x≠"__name__":=by decide) (hd:(x==("__debug__":Str))=v6:=by decide):xS (xL X.prog X.w) X.A (eval (.Name x pos) X.env) Q E s:=by
 obtain⟨mb,h1,h2⟩:=I.mod.blt;exact Calls.Name_function_global I.ok.kind hg (Calls.loadGlobal_builtin (by rw[I.ok.glob];exact I.mod.glob.keeps I.bk) hm (by rw[I.ok.blt];exact h1.keeps I.bk) ((h2 x hn).trans hv) h) hd
theorem ZBs{pos:Pos}(hg:Gl X x)(hm:X.mg x=vk u)(r:RelV v u)(hd:(x==("__debug__":Str))=v6:=by decide):PE X (.Name x pos) (tC v):=
 λ_ _ _ H _ I h=>Js I hg hm ⟨v,H,I,r,h⟩ hd
theorem ZIl{pos:Pos}(hg:Gl X x)(hm:X.mg x=v4)(hv:xq x=vk u)(r:RelV v u)(hn:x≠"__name__":=by decide)(hd:(x==("__debug__":Str))=v6:=by decide):PE X (.Name x pos) (tC v):=
 λ_ _ _ H _ I h=>Hc I hg hm hv ⟨v,H,I,r,h⟩ hn hd
variable{a b:jN}{ta tb:TE}{pos:Pos}
noncomputable def tB(t:TE):TT:=λσ H Q=>t σ H λx H1=>∃c,x=.bl c/\Q c H1
theorem ZI9{t:TE}(h:PE X e t)(he:∀whole,isTrue e X.env whole=(do let v<-whole;standAt e.pos;holding [v] (truthy v)):=by intro _;rfl):PT X e (tB t):=by intro vv s σ H Q I hw;refine isTrue_plain (thn (h vv s σ H _ I hw) λv s1 ⟨x,H1,I1,r1,q1⟩=>?_) (he _);obtain⟨d,rfl,q⟩:=q1;cases r1;exact vz ⟨H1,I1,q⟩
variable{tA tB':TT}{rest:List jN}
noncomputable def tOr(t u:TT):TT:=λσ H Q=>t σ H λc H1=>if c=v5 then Q v5 H1 else u σ H1 Q
noncomputable def tNot(t:TT):TT:=λσ H Q=>t σ H λc H1=>Q (!c) H1
theorem pw_or1(ha:PT X a tA):PW X (.BoolOp .Or [a] pos) tA:=by
 intro wh vv s σ H Q I h;refine isTrue_or (thn (ha vv s σ H Q I h) λc s1 e=>?_);cases c with
 |false=>exact isTrue_or_nil e
 |true=>exact e
theorem pw_or(ha:PT X a tA)(hb:PW X (.BoolOp .Or (b::rest) pos) tB'):PW X (.BoolOp .Or (a::b::rest) pos) (tOr tA tB'):=by
 intro wh vv s σ H Q I h;refine isTrue_or (thn (ha vv s σ H _ I h) λc s1 ⟨H1,I1,q1⟩=>?_);cases c with
 |true=>exact⟨H1,I1,q1⟩
 |false=>exact hb wh vv s1 σ H1 Q I1 q1
theorem ZKO(ha:PT X a tA):PT X (.UnaryOp .Not a pos) (tNot tA):=by intro vv s σ H Q I h;exact isTrue_not (ha vv s σ H (λc H1=>Q (!c) H1) I h)
noncomputable def ZP2(ta tb:TE):TE:=λσ H Q=>ta σ H λx H1=>∃c,x=.bl c/\if c=v5 then tb σ H1 Q else Q (.bl v6) H1
noncomputable def tOrV(ta tb:TE):TE:=λσ H Q=>ta σ H λx H1=>∃c,x=.bl c/\if c=v5 then Q (.bl v5) H1 else tb σ H1 Q
noncomputable def ZJL(ta:TE):TE:=λσ H Q=>ta σ H λx H1=>∃c,x=.bl c/\Q (.bl (!c)) H1
theorem ZIN{op}{t:TE}(h:PE X a t):PE X (.BoolOp op [a] pos) t:=λvv s σ H Q I hw=>BoolOp_one (h vv s σ H Q I hw)
theorem ZNM(ha:PE X a ta)(hb:PE X (.BoolOp .And (b::rest) pos) tb):PE X (.BoolOp .And (a::b::rest) pos) (ZP2 ta tb):=by
 intro vv s σ H Q I h;refine BoolOp_and (thn (ha vv s σ H _ I h) λv s1 ⟨x,H1,I1,r1,q1⟩=>?_);obtain⟨c,rfl,q1⟩:=q1;cases r1;refine vz ?_;cases c with
 |true=>exact hb vv s1 σ H1 Q I1 q1
 |false=>exact⟨.bl v6,H1,I1,rfl,q1⟩
theorem ZM9(ha:PE X a ta)(hb:PE X (.BoolOp .Or (b::rest) pos) tb):PE X (.BoolOp .Or (a::b::rest) pos) (tOrV ta tb):=by
 intro vv s σ H Q I h;refine BoolOp_or (thn (ha vv s σ H _ I h) λv s1 ⟨x,H1,I1,r1,q1⟩=>?_);obtain⟨c,rfl,q1⟩:=q1;cases r1;refine vz ?_;cases c with
 |false=>exact hb vv s1 σ H1 Q I1 q1
 |true=>exact⟨.bl v5,H1,I1,rfl,q1⟩
theorem ZLy(ha:PE X a ta):PE X (.UnaryOp .Not a pos) (ZJL ta):=by intro vv s σ H Q I h;refine UnaryOp_ (thn (ha vv s σ H _ I h) λv s1 ⟨x,H1,I1,r1,q1⟩=>?_);obtain⟨c,rfl,q1⟩:=q1;cases r1;exact not_of (vz ⟨.bl (!c),H1,I1,rfl,q1⟩)
noncomputable def tIf(t:TT)(ta tb:TE):TE:=λσ H Q=>t σ H λc H1=>if c=v5 then ta σ H1 Q else tb σ H1 Q
theorem ZN8(hc:PT X c tA)(ha:PE X a ta)(hb:PE X b tb):PE X (.IfExp c a b pos) (tIf tA ta tb):=by
 intro vv s σ H Q I h;refine wpAny_IfExp (thn (hc vv s σ H _ I h) λd s1 ⟨H1,I1,q1⟩=>?_);cases d with
 |true=>exact ha vv s1 σ H1 Q I1 q1
 |false=>exact hb vv s1 σ H1 Q I1 q1
end
def SqL(K:PySem.W.Frag)(H:Hp)(a:jL)(xs:List V):Prop:=
 Rd H a (.lst xs)∨
  ∃(o:Obj)(its:Array xQ)(n:Nat),K.lookup a=vk o/\o.cls=.type "list"/\o.dict=v4/\o.data=.seq its n/\its.size<=sizeLine/\Vals xs its.toList
def SqT(K:PySem.W.Frag)(H:Hp)(a:jL)(xs:List V):Prop:=
 Rd H a (.tup xs)∨
  ∃(o:Obj)(its:Array xQ)(n:Nat),K.lookup a=vk o/\o.cls=.type "tuple"/\o.data=.seq its n/\its.size<=sizeLine/\Vals xs its.toList
noncomputable def absV:xQ->Option V
 |.none=>vk .non
 |.bool b=>vk (.bl b)
 |.int i _=>vk (.int i)
 |.str x _=>vk (.str x)
 |.bytes b _=>vk (.byt b)
 |.float b _=>vk (.flt b)
 |.ref a=>vk (.ref a)
 |.type n=>vk (.ty n)
 |_=>v4
theorem RelV.abs{x:V}(r:RelV x u):absV u=vk x:=by
 cases x with
 |non=>cases r;rfl
 |bl _=>cases r;rfl
 |int _=>obtain⟨t,rfl⟩:=r;rfl
 |str _=>obtain⟨t,rfl⟩:=r;rfl
 |byt _=>obtain⟨t,rfl⟩:=r;rfl
 |flt _=>obtain⟨t,rfl⟩:=r;rfl
 |ref _=>cases r;rfl
 |ty _=>cases r;rfl
theorem RelV.inj{x:V}(r:RelV x u)(q:RelV y u):x=y:=Option.some.inj (r.abs.symm.trans q.abs)
theorem Vals.inj:∀{xs ys:List V}{us:List xQ},Vals xs us->Vals ys us->xs=ys
 |_,_,_,.nil,.nil=>rfl
 |_,_,_,.cons r t,.cons r' t'=>by rw[r.inj r',Vals.inj t t']
section
variable{X:Cx}{vv:List (jL×Obj)}{σ:St}{H:Hp}{s:jT}{a:jL}{xs ys:List V}
theorem SqL.of(h:H a=vk (.lst xs)):SqL K H a xs:=.inl (.inl h)
theorem SqT.of(h:H a=vk (.tup xs)):SqT K H a xs:=.inl (.inl h)
theorem Inv.list(I:Inv X vv σ H s)(h:SqL X.K H a xs):∃its:List xQ,Vals xs its/\PlainL s.heap a its.toArray/\xs.length<=sizeLine:=by
 rcases h with h|⟨o,its,n,hk,hc,hd,hs,hz,r⟩
 ·obtain⟨z,its,n,r,e⟩:=h.ok I.hok;exact⟨its,r,⟨_,n,e,rfl,rfl,rfl⟩,z⟩
 ·refine⟨its.toList,r,⟨o,n,I.kIn a o hk,hc,hd,by simpa using hs⟩,?_⟩;have e:=r.length;simp only[qq]at e;lia
theorem Inv.tuple(I:Inv X vv σ H s)(h:SqT X.K H a xs):∃its:List xQ,Vals xs its/\IsTup s.heap a its.toArray/\xs.length<=sizeLine:=by
 rcases h with h|⟨o,its,n,hk,hc,hs,hz,r⟩
 ·obtain⟨z,its,r,p⟩:=h.ok I.hok;exact⟨its,r,p,z⟩
 ·refine⟨its.toList,r,⟨o,I.kIn a o hk,hc,n,by simpa using hs⟩,?_⟩;have e:=r.length;simp only[qq]at e;lia
theorem Inv.ZBS(I:Inv X vv σ H s)(h:SqL X.K H a xs)(h':SqL X.K H a ys):xs=ys:=by
 obtain⟨its,r,⟨o,n,e,_,_,d⟩,_⟩:=I.list h;obtain⟨its',r',⟨o',n',e',_,_,d'⟩,_⟩:=I.list h';rw[e]at e';cases e';rw[d]at d';injection d' with d1 _
 have:its=its':=by simpa using congrArg Array.toList d1
 subst this;exact r.inj r'
theorem Inv.Y6(I:Inv X vv σ H s)(h:SqT X.K H a xs)(h':SqT X.K H a ys):xs=ys:=by
 obtain⟨its,r,⟨o,e,_,n,d⟩,_⟩:=I.tuple h;obtain⟨its',r',⟨o',e',_,n',d'⟩,_⟩:=I.tuple h';rw[e]at e';cases e';rw[d]at d';injection d' with d1 _
 have:its=its':=by simpa using congrArg Array.toList d1
 subst this;exact r.inj r'
end
noncomputable abbrev Cx.wish(X:Cx)(E:xQ->jT->Prop):Cx:={X with xe:=E}
noncomputable abbrev Cx.nox(X:Cx):Cx:=X.wish λ_ _=>False
theorem Cx.Ok.wish(ok:X.Ok)(E:xQ->jT->Prop):(X.wish E).Ok:=
 ⟨ok.mod,ok.kind,ok.glob,ok.blt,ok.above,ok.inj,ok.has,ok.cab,ok.hd,ok.frames,ok.stk,ok.exf,ok.bs,ok.bsz,ok.noex,ok.exfs,ok.funs,ok.frf⟩
theorem Cx.Ok.unwish(ok:(X.wish E).Ok):X.Ok:=
 ⟨ok.mod,ok.kind,ok.glob,ok.blt,ok.above,ok.inj,ok.has,ok.cab,ok.hd,ok.frames,ok.stk,ok.exf,ok.bs,ok.bsz,ok.noex,ok.exfs,ok.funs,ok.frf⟩
section
variable{X:Cx}{vv:List (jL×Obj)}{σ:St}{H:Hp}{s:jT}{E:xQ->jT->Prop}
theorem Inv.wish(I:Inv X vv σ H s)(E:xQ->jT->Prop):Inv (X.wish E) vv σ H s:=⟨I.ok.wish E,I.os,I.bare,I.base,I.loc,I.cell,I.free,I.Fi,I.pin,I.hok,I.len⟩
theorem Inv.unwish(I:Inv (X.wish E) vv σ H s):Inv X vv σ H s:=⟨I.ok.unwish,I.os,I.bare,I.base,I.loc,I.cell,I.free,I.Fi,I.pin,I.hok,I.len⟩
theorem SP.unwish{D:Ends}{f:Flow}{s':jT}(h:SP (X.wish E) vv D f s'):SP X vv D f s':=by
 cases f with
 |next=>obtain⟨σ',H',I,q⟩:=h;exact⟨σ',H',I.unwish,q⟩
 |brk=>obtain⟨σ',H',I,q⟩:=h;exact⟨σ',H',I.unwish,q⟩
 |cont=>obtain⟨σ',H',I,q⟩:=h;exact⟨σ',H',I.unwish,q⟩
 |ret u=>obtain⟨v,σ',H',I,r,q⟩:=h;exact⟨v,σ',H',I.unwish,r,q⟩
theorem PSs.nox{st:List jU}{t:TS}(h:PSs X.nox st t):PSs X st t:=λvv s σ H D I hw=>
 vV (h vv s σ H D (I.wish _) hw) (λ_ _ q=>q.unwish) λ_ _ z=>False.elim z
end
section
variable{X:Cx}{st:jU}{rest:List jU}{t u:TS}{e:jN}{te:TE}{pos:Pos}
noncomputable def ZI8:TS:=λD σ H=>D.nx σ H
noncomputable def tSeq(t u:TS):TS:=λD σ H=>t {D with nx:=u D} σ H
theorem ZNA:PSs X [] ZI8:=λ_ _ σ H _ I h=>wpAny_execs_nil ⟨σ,H,I,h⟩
theorem ZFw(h1:PS X st t)(h2:PSs X rest u):PSs X (st::rest) (tSeq t u):=by
 intro vv s σ H D I h;refine wpAny_execs_cons (thn (h1 vv s σ H {D with nx:=u D} I h) λf s1 q=>?_);cases f with
 |next=>
  obtain⟨σ',H',I',q⟩:=q;exact h2 vv s1 σ' H' D I' q
 |ret v=>exact q
 |brk=>exact q
 |cont=>exact q
theorem ZEC(h1:PS X st t):PSs X [st] t:=by
 intro vv s σ H D I h;refine wpAny_execs_cons (thn (h1 vv s σ H D I h) λf s1 q=>?_);cases f with
 |next=>exact wpAny_execs_nil q
 |ret v=>exact q
 |brk=>exact q
 |cont=>exact q
theorem Inv.quiet(I:Inv X vv σ H s):interactive X.env=v6:=by simp[interactive,I.ok.kind]
noncomputable def ZOt(te:TE):TS:=λD σ H=>te σ H λ_ H1=>D.nx σ H1
theorem ZFy(he:PE X e te)(hs:swapsWith e v4 pos.line X.env=pure v6:=by rfl):PS X (.Expr e pos) (ZOt te):=by intro vv s σ H D I h;exact wpAny_Expr_any (thn (he vv s σ H _ I h) λv s1 ⟨x,H1,I1,r1,q1⟩=>⟨σ,H1,I1,q1⟩) I.quiet hs
noncomputable def tRet(te:TE):TS:=λD σ H=>te σ H D.rt
theorem ZM0(he:PE X e te):PS X (.Return (vk e) pos) (tRet te):=by intro vv s σ H D I h;exact wpAny_Return_some (thn (he vv s σ H _ I h) λv s1 ⟨x,H1,I1,r1,q1⟩=>⟨x,σ,H1,I1,r1,q1⟩)
noncomputable def tIfS(c:TT)(t u:TS):TS:=λD σ H=>c σ H λb H1=>if b=v5 then t D σ H1 else u D σ H1
theorem ZI7{a b:List jU}{tc:TT}(hc:PT X c tc)(ha:PSs X a t)(hb:PSs X b u):PS X (.If c a b pos) (tIfS tc t u):=by
 intro vv s σ H D I h;refine wpAny_If (thn (hc vv s σ H _ I h) λd s1 ⟨H1,I1,q1⟩=>?_);cases d with
 |true=>exact ha vv s1 σ H1 D I1 q1
 |false=>exact hb vv s1 σ H1 D I1 q1
end
noncomputable abbrev TG:=V->St->Hp->(St->Hp->Prop)->Prop
noncomputable abbrev TGs:=List V->St->Hp->(St->Hp->Prop)->Prop
def PG(X:Cx)(target:jN)(t:TG):Prop:=
 ∀(vv:List (jL×Obj))(s:jT)(σ:St)(H:Hp)(v:V)(u:xQ)(Q:St->Hp->Prop),Inv X vv σ H s->RelV v u->t v σ H Q->
  xS (xL X.prog X.w) X.A (assign target X.env u) (λ_ s'=>∃σ' H',Inv X vv σ' H' s'/\Q σ' H') X.xe s
def PGs(X:Cx)(ts:List jN)(t:TGs):Prop:=
 ∀(vv:List (jL×Obj))(s:jT)(σ:St)(H:Hp)(vs:List V)(us:List xQ)(Q:St->Hp->Prop),Inv X vv σ H s->Vals vs us->t vs σ H Q->
  xS (xL X.prog X.w) X.A (assignInOrder ((xJ ts X.env).map (·.2)) us) (λ_ s'=>∃σ' H',Inv X vv σ' H' s'/\Q σ' H') X.xe s
noncomputable abbrev TSet:=V->V->V->Hp->(Hp->Prop)->Prop
def PSet(X:Cx)(t:TSet):Prop:=
 ∀(vv:List (jL×Obj))(s:jT)(σ:St)(H:Hp)(o i v:V)(ov iv u:xQ)(Q:Hp->Prop),Inv X vv σ H s->RelV o ov->RelV i iv->RelV v u->t o i v H Q->
  xS (xL X.prog X.w) X.A (setItem ov iv u) (λ_ s'=>∃H',Inv X vv σ H' s'/\Q H') X.xe s
noncomputable abbrev TIp:=V->V->Hp->VK->Prop
def PIp(X:Cx)(op:Operator)(t:TIp):Prop:=
 ∀(vv:List (jL×Obj))(s:jT)(σ:St)(H:Hp)(x y:V)(v u:xQ)(Q:VK),Inv X vv σ H s->RelV x v->RelV y u->t x y H Q->
  xS (xL X.prog X.w) X.A (inplaceOp op v u) (EP X vv σ Q) X.xe s
section
variable{X:Cx}{pos:Pos}
noncomputable def ZF1(i:Nat):TG:=λv σ H Q=>Q (σ.set i (vk v)) H
theorem ZPZ(hN:X.N.Nodup)(hi:X.N[i]?=vk x)(hx:Loc X.env.scope x)(hf:X.fn x=v5∨X.env.scope.names.lookup x=vk .local:=by first|exact .inl rfl|exact .inr rfl|assumption):PG X (.Name x pos) (ZF1 i):=by intro vv s σ H v u Q I r h;exact wpAny_assign_Name (Vt I hN hi hx r (λs' I'=>⟨_,H,I',h⟩) hf)
noncomputable def gNil:TGs:=λvs σ H Q=>vs=[]/\Q σ H
noncomputable def ZQP(t:TG)(u:TGs):TGs:=λvs σ H Q=>∃v r,vs=v::r/\t v σ H λσ' H'=>u r σ' H' Q
theorem ZIJ:PGs X [] gNil:=by intro vv s σ H vs us Q I r h;obtain⟨e,h⟩:=h;subst e;cases r;exact assignInOrder_nil ⟨σ,H,I,h⟩
theorem ZKo{es:List jN}{t:TG}{u:TGs}(h1:PG X e t)(h2:PGs X es u)
  (hs:(xJ (e::es) X.env).map (·.2)=assign e X.env::(xJ es X.env).map (·.2):=by rfl):PGs X (e::es) (ZQP t u):=by
 intro vv s σ H vs us Q I r h;obtain⟨v,vr,e1,h⟩:=h;subst e1;cases r with
 |cons r rr=>
  rw[hs];refine assignInOrder_cons (thn (h1 vv s σ H _ _ _ I r h) λ_ s1 ⟨σ1,H1,I1,q1⟩=>?_);exact h2 vv s1 σ1 H1 _ _ Q I1 rr q1
noncomputable def gTup(K:PySem.W.Frag)(n:Nat)(t:TGs):TG:=λv σ H Q=>∃a xs,v=.ref a/\SqT K H a xs/\xs.length=n/\t xs σ H Q
theorem ZLC{es:List jN}{k:Nat}{t:TGs}{n:Nat}(hc:X.calm=v5)(h:PGs X es t)
  (hn:(xJ es X.env).length=n:=by rfl) (hst:(xJ es X.env).findIdx? (·.1)=v4:=by rfl):PG X (.Tuple es k pos) (gTup X.K n t):=by
 intro vv s σ H v u Q I r hw;obtain⟨a,xs,e1,hq,hl,hw⟩:=hw;subst e1;cases r;obtain⟨its,rv,ht,hz⟩:=I.tuple hq;refine assign_Tuple_tuple (I.ok.hd hc) ht (by simp[hn,<-hl,rv.length]) hst λh' hx=>?_
 have I1:Inv X vv σ H {s with heap:=h'}:=I.kept (t':=s.toks) λb o e=>hx b o (z9 (zK e)) e
 exact h vv _ σ H xs _ Q I1 (by simpa using rv) hw
noncomputable def gSub(to ti:TE)(t:TSet):TG:=λv σ H Q=>to σ H λo H1=>ti σ H1 λi H2=>t o i v H2 λH3=>Q σ H3
theorem ZPn{o i:jN}{to ti:TE}{t:TSet}(ho:PE X o to)(hi:PE X i ti)(hs:PSet X t)
  (ha:∀v,assign (.Subscript o i pos) X.env v=(do
   let ov<-holding [v] (eval o X.env);let iv<-holding [v,ov] (eval i X.env)
   standAt pos
   holding [v,ov,iv] (setItem ov iv v)
   release [v,ov,iv] []):=by intro _;rfl):PG X (.Subscript o i pos) (gSub to ti t):=by
 intro vv s σ H v u Q I r h;rw[ha];refine xU (vX (thn (ho vv s σ H _ I h) λov s1 ⟨x,H1,I1,r1,q1⟩=>?_));refine xU (vX (thn (hi vv s1 σ H1 _ I1 q1) λiv s2 ⟨y,H2,I2,r2,q2⟩=>?_));refine xU (wpAny_standAt (xU (vX (thn (hs vv s2 σ H2 x y v ov iv u _ I2 r1 r2 r q2) λ_ s3 ⟨H3,I3,q3⟩=>?_))));exact wpAny_release ⟨σ,H3,I3,q3⟩
noncomputable def Zg(te:TE)(g:TG):TS:=λD σ H=>te σ H λx H1=>g x σ H1 D.nx
theorem ZMI{g:TG}(he:PE X e te)(hg:PG X tg g)(hs:swapsWithSole [tg] e pos.line X.env=pure v6:=by rfl)(hw:swappedStores [tg] e X.env=pure v4:=by rfl)
  (h1:(xJ [tg] X.env).map (·.2)=[assign tg X.env]:=by rfl):PS X (.Assign [tg] e pos) (Zg te g):=by
 intro vv s σ H D I h;refine wpAny_Assign_stores (thn (he vv s σ H _ I h) λv s1 ⟨x,H1,I1,r1,q1⟩=>?_) hs hw;rw[h1];exact thn (hg vv s1 σ H1 x v _ I1 r1 q1) λ_ s2 q=>q
theorem ZJq{pos':Pos}(hN:X.N.Nodup)(hi:X.N[i]?=vk x)(hx:Loc X.env.scope x)(he:PE X e te)(hs:swapsWith e (vk (.Name x pos')) pos.line X.env=pure v6:=by rfl)(hf:X.fn x=v5∨X.env.scope.names.lookup x=vk .local:=by first|exact .inl rfl|exact .inr rfl|assumption):
  PS X (.Assign [.Name x pos'] e pos) (Zg te (ZF1 i)):=by
 intro vv s σ H D I h;refine wpAny_Assign_Name (thn (he vv s σ H _ I h) λv s1 ⟨y,H1,I1,r1,q1⟩=>?_) hs;exact Vt I1 hN hi hx r1 (λs2 I2=>⟨_,H1,I2,q1⟩) hf
noncomputable def tAug(i:Nat)(te:TE)(ti:TIp):TS:=λD σ H=>∃x,σ[i]?=vk (vk x)/\te σ H λy H1=>ti x y H1 λz H2=>D.nx (σ.set i (vk z)) H2
theorem ZLW{op:Operator}{ti:TIp}{pos':Pos}(hN:X.N.Nodup)(hi:X.N[i]?=vk x)(hx:Loc X.env.scope x)(he:PE X e te)(ho:PIp X op ti)(hf:X.fn x=v5∨X.env.scope.names.lookup x=vk .local:=by first|exact .inl rfl|exact .inr rfl|assumption):
  PS X (.AugAssign (.Name x pos') op e pos) (tAug i te ti):=by
 intro vv s σ H D I h;obtain⟨v,e1,h⟩:=h;obtain⟨m,hn,hl⟩:=I.loc;have vis:Vis X.env.scope x:=by rcases hx with k|k;exact .inl k;exact .inr (.inl k)
 obtain⟨u,r,l⟩:=hl i x v hi e1 vis;refine wpAny_AugAssign_Name ?_
 have go:xS (xL X.prog X.w) X.A (eval e X.env) (λw s₂=>xS (xL X.prog X.w) X.A (inplaceOp op u w) (λr s₃=>xS (xL X.prog X.w) X.A (storeName X.env x r) (λ_=>SP X vv D .next) X.xe s₃) X.xe s₂) X.xe s:=by
  refine thn (he vv s σ H _ I h) λw s1 ⟨y,H1,I1,r1,q1⟩=>?_
  refine thn (ho vv s1 σ H1 v y u w _ I1 r r1 q1) λz s2 ⟨zv,H2,I2,r2,q2⟩=>?_
  exact Vt I2 hN hi hx r2 (λs3 I3=>⟨_,H2,I3,q2⟩) hf
 rcases l with⟨hk,hm⟩|⟨hk,c,hc,hcell⟩
 ·exact wpAny_loadName_local I.ok.kind hk hn hm go
 ·rcases hk with hk|hk
  ·exact wpAny_loadName_cell I.ok.kind hk hc hcell go
  ·rcases hx with k|k
   ·have:X.env.scope.names.lookup x=vk .free:=hk;rw[k]at this;cases this
   ·have:X.env.scope.names.lookup x=vk .free:=hk;rw[k]at this;cases this
noncomputable def ipI(f:Int->Int->Int):TIp:=λx y H Q=>∃i j,x=.int i/\y=.int j/\Q (.int (f i j)) H
theorem ZOR:PIp X .Add (ipI λi j=>i+j):=by intro vv s σ H x y v u Q I r1 r2 h;obtain⟨i,j,e1,e2,q⟩:=h;subst e1;subst e2;obtain⟨t,rfl⟩:=r1;obtain⟨t',rfl⟩:=r2;exact iadd_int ⟨.int _,H,I.tok _,⟨_,rfl⟩,q⟩
theorem ZMC:PIp X .Sub (ipI λi j=>i-j):=by intro vv s σ H x y v u Q I r1 r2 h;obtain⟨i,j,e1,e2,q⟩:=h;subst e1;subst e2;obtain⟨t,rfl⟩:=r1;obtain⟨t',rfl⟩:=r2;exact isub_int ⟨.int _,H,I.tok _,⟨_,rfl⟩,q⟩
end
section
variable{X:Cx}{pos:Pos}
def ZKH(c:TT)(tb:TS):TS:=λD σ H=>∃W:Nat->St->Hp->Prop,(∃m,W m σ H)/\∀m σ H,W m σ H->
 c σ H λb H1=>if b=v5 then∃N:St->Hp->Prop,(∀σ' H',N σ' H'->∃m',m'<m/\W m' σ' H')/\tb {D with nx:=N,ct:=N,bk:=D.nx} σ H1 else D.nx σ H1
theorem ZMf{tc:TT}{tb:TS}(hp:PassesOwn (xL X.prog X.w) X.A X.env X.xe)(hc:PT X c tc)(hb:PSs X body tb):PS X (.While c body [] pos) (ZKH tc tb):=by
 intro vv s σ H D I h;obtain⟨W,⟨m0,w0⟩,turn⟩:=h;refine wpAny_While (codeAny_whileLoop (λn s'=>∃σ' H',Inv X vv σ' H' s'/\W n σ' H') ?_ m0 ⟨σ,H,I,w0⟩);rintro n s1 ⟨σ1,H1,I1,w1⟩;refine vK hp (thn (hc vv s1 σ1 H1 _ I1 (turn n σ1 H1 w1)) λb s2 ⟨H2,I2,q2⟩=>?_);cases b with
 | true=>
  obtain⟨N,hN,q2⟩:=q2;rw[if_pos rfl];refine vK hp (thn (hb vv s2 σ1 H2 _ I2 q2) λf s3 q3=>?_);cases f with
  |next=>
   obtain⟨σ3,H3,I3,n3⟩:=q3;obtain⟨m',hm,w3⟩:=hN σ3 H3 n3;exact⟨m',hm,σ3,H3,I3,w3⟩
  |cont=>
   obtain⟨σ3,H3,I3,n3⟩:=q3;obtain⟨m',hm,w3⟩:=hN σ3 H3 n3;exact⟨m',hm,σ3,H3,I3,w3⟩
  |brk=>exact q3
  |ret v=>exact q3
 |false=>
  rw[if_neg zx];exact wpAny_execs_nil ⟨σ1,H2,I2,q2⟩
end
structure It where
 go:Nat->Hp->Prop
 yld:Nat->Hp->V->Hp->Prop
 stop:Nat->Hp->Prop
def FpOk(X:Cx)(vv:List (jL×Obj))(H:Hp)(b:jL):Prop:=
 H b=v4/\b≠X.env.locals/\b∉X.fs/\(b∈X.ex∨X.s₀.heap.objs.size<=b)/\(∀x c,X.env.cells.lookup x=vk c->c≠b)/\∀p∈X.pn++vv,p.1≠b
theorem Inv.Hh{H':Hp}(I:Inv X vv σ H s)(hb:s.heap.objs.size<=b)(hn:H' b=v4):FpOk X vv H' b:=by
 refine⟨hn,qL (zV I.lt hb),I.nofs hb,.inr (z8 I.sz hb),λx c e z=>?_,λp hp z=>?_⟩
 ·obtain⟨v,q⟩:=I.cell x c e;exact absurd (zV q.lt (by rw[z];exact hb)) (zN _)
 ·exact absurd (zV (zK (I.pin p hp).1) (by rw[z];exact hb)) (zN _)
structure Turn (P:jR) (w:xZ) (K:PySem.W.Frag) (tg:jN) (J:It) (fp:List jL) (it:jL) (tn:Nat->Heap->Prop):Prop where
 mem:it∈fp
 obj:∀i h,tn i h->∀b∈fp,∃o,h.get? b=vk o/\∀v,o.data≠ .cell v
 keep:∀i h h',tn i h->(∀b∈fp,∀o,h.get? b=vk o->h'.get? b=vk o)->tn i h'
 item:∀(X:Cx),X.prog=P->X.w=w->X.K=K->X.calm=v5->∀(i:Nat)(vv:List (jL×Obj))(s:jT)(σ:St)(H:Hp)(E:xQ->jT->Prop),Inv X vv σ H s->(∀b∈fp,FpOk X vv H b)->tn i s.heap->J.go i H->
  xS (xL P w) X.A (pyNext (.ref it)) (λr s1=>∃u,r=vk u/\
   xS (xL P w) X.A (xH tg (.ref it) u) (λ_ s2=>∃x H',Inv X vv σ H' s2/\RelV x u/\J.yld i H x H'/\tn (i+1) s2.heap/\∀b∈fp,H' b=v4) E s1) E s
 done:∀(X:Cx),X.prog=P->X.w=w->X.K=K->X.calm=v5->∀(i:Nat)(vv:List (jL×Obj))(s:jT)(σ:St)(H:Hp)(E:xQ->jT->Prop),Inv X vv σ H s->(∀b∈fp,FpOk X vv H b)->tn i s.heap->J.stop i H->
  xS (xL P w) X.A (pyNext (.ref it)) (λr s1=>r=v4/\Inv X vv σ H s1) E s
 self:∀(A:jM)(i:Nat)(s:jT)(Q:xQ->jT->Prop)(E:xQ->jT->Prop),tn i s.heap->Q (.ref it) s->xS (xL P w) A (pyIter (.ref it)) Q E s
noncomputable abbrev TI:=St->Hp->(It->Hp->Prop)->Prop
def PIE(X:Cx)(vv:List (jL×Obj))(σ:St)(tg:jN)(R:It->Hp->Prop)(itv:xQ)(s2:jT):Prop:=
 ∃(it:jL)(fp:List jL)(tn:Nat->Heap->Prop)(J:It)(H':Hp),itv=.ref it/\Inv X vv σ H' s2/\Turn X.prog X.w X.K tg J fp it tn/\tn 0 s2.heap/\(∀b∈fp,FpOk X vv H' b)/\R J H'
def PI(X:Cx)(tg iter:jN)(wi:TI):Prop:=
 ∀(vv:List (jL×Obj))(s:jT)(σ:St)(H:Hp)(R:It->Hp->Prop),Inv X vv σ H s->wi σ H R->
  xS (xL X.prog X.w) X.A (eval iter X.env) (λv s1=>xS (xL X.prog X.w) X.A (pyIter v) (PIE X vv σ tg R) X.xe s1) X.xe s
theorem N6{M:Model}{it:jL}{o:Obj}{n:String}{vs:Array xQ}{Q:Unit->jT->Prop}(ho:s.heap.get? it=vk o)(hc:o.cls=.type n)(hd:o.data=.fields vs)
  (hn: ["enumerate","zip","dict_itemiterator","dict_reverseitemiterator","odict_iterator","itertools.zip_longest","itertools.pairwise"].contains n=v6) (hQ:Q () s):xS M A (xH tg (.ref it) u) Q E s:=by
 unfold xH
 cases tg<;>first
  |exact vY hQ
  | (cases u<;>first
    |exact vY hQ
    | (
      refine xU (wpAny_load ho ?_);rw[hc,hd];show xS M A (if(["enumerate","zip","dict_itemiterator","dict_reverseitemiterator","odict_iterator","itertools.zip_longest","itertools.pairwise"].contains n&&vs[0]?==vk (xM _))=v5 then _ else _) Q E s;rw[if_neg (by intro h;rw[hn,Bool.false_and]at h;cases h)];exact vY hQ))
noncomputable def Itl(K:PySem.W.Frag)(a:jL):It:=
 ⟨λi H=>∃xs x,SqL K H a xs/\xs[i]?=vk x,λi H x H'=>H'=H/\∀xs,SqL K H a xs->xs[i]?=vk x,λi H=>∃xs,SqL K H a xs/\xs.length<=i⟩
noncomputable def Itt(K:PySem.W.Frag)(a:jL):It:=
 ⟨λi H=>∃xs x,SqT K H a xs/\xs[i]?=vk x,λi H x H'=>H'=H/\∀xs,SqT K H a xs->xs[i]?=vk x,λi H=>∃xs,SqT K H a xs/\xs.length<=i⟩
noncomputable def Itr(lo:Int)(n:Nat):It:=⟨λi _=>i<n,λi H x H'=>H'=H/\x=.int (lo+i),λi _=>n<=i⟩
theorem ZM4(a it:jL):Turn P w K tg (Itl K a) [it] it (λi h=>h.IsListIter it a i) where
 mem:=by simp
 obj:=λi h st b hb=>by
  have e:b=it:=by simpa using hb
  subst e;obtain⟨o,e,c,d⟩:=st;exact⟨o,e,λv z=>by rw[d]at z;cases z⟩
 keep:=λi h h' st k=>st.at λo e=>k it (by simp) o e
 item:=by
  intro X hP hw hK hc i vv s σ H E I hf st hg;subst hP hw hK;obtain⟨xs,x,hq,hx⟩:=hg;obtain⟨its,rv,p,hz⟩:=I.list hq;obtain⟨u,hu,ru⟩:=rv.get hx;obtain⟨f0,f1,f2,f3,f4,f5⟩:=hf it (by simp);refine wpAny_pyNext_list_item st p.isList (x:=u) (by simpa using hu) λh' st' sb=>?_
  have I1:Inv X vv σ H {s with heap:=h'}:=I.turned (t':=s.toks) (λb o hb e=>(sb.2 b hb).trans e) f0 f1 f3 f4 f5;obtain⟨o,e,c,d⟩:=id st';exact⟨u,rfl,N6 (s:={s with heap:=h'}) e c d (by decide) ⟨x,H,I1,ru,⟨rfl,λys hy=>by rw[I.ZBS hy hq];exact hx⟩,st',λb hb=>(hf b hb).1⟩⟩
 done:=by intro X hP hw hK hc i vv s σ H E I hf st hg;subst hP hw hK;obtain⟨xs,hq,hx⟩:=hg;obtain⟨its,rv,p,hz⟩:=I.list hq;obtain⟨f0,f1,f2,f3,f4,f5⟩:=hf it (by simp);have hl:=rv.length;exact wpAny_pyNext_list_end (I.ok.hd hc) st p.isList (by simp;lia) λh' eb=>⟨rfl,I.turned (t':=s.toks) (λb o hb e=>eb b o hb e) f0 f1 f3 f4 f5⟩
 self:=λ_ _ _ _ _ st h=>wpAny_pyIter_listiter st h
theorem ZLj(a it:jL):Turn P w K tg (Itt K a) [it] it (λi h=>h.IsTupleIter it a i) where
 mem:=by simp
 obj:=λi h st b hb=>by
  have e:b=it:=by simpa using hb
  subst e;obtain⟨o,e,c,d⟩:=st;exact⟨o,e,λv z=>by rw[d]at z;cases z⟩
 keep:=λi h h' st k=>st.at λo e=>k it (by simp) o e
 item:=by
  intro X hP hw hK hc i vv s σ H E I hf st hg;subst hP hw hK;obtain⟨xs,x,hq,hx⟩:=hg;obtain⟨its,rv,p,hz⟩:=I.tuple hq;obtain⟨u,hu,ru⟩:=rv.get hx;obtain⟨f0,f1,f2,f3,f4,f5⟩:=hf it (by simp)
  refine wpAny_pyNext_tuple_item st (show s.heap.IsTuple a its.toArray from p) (x:=u) (by simpa using hu) λh' st' sb=>?_
  have I1:Inv X vv σ H {s with heap:=h'}:=I.turned (t':=s.toks) (λb o hb e=>(sb.2 b hb).trans e) f0 f1 f3 f4 f5;obtain⟨o,e,c,d⟩:=id st';exact⟨u,rfl,N6 (s:={s with heap:=h'}) e c d (by decide) ⟨x,H,I1,ru,⟨rfl,λys hy=>by rw[I.Y6 hy hq];exact hx⟩,st',λb hb=>(hf b hb).1⟩⟩
 done:=by
  intro X hP hw hK hc i vv s σ H E I hf st hg;subst hP hw hK;obtain⟨xs,hq,hx⟩:=hg;obtain⟨its,rv,p,hz⟩:=I.tuple hq;obtain⟨f0,f1,f2,f3,f4,f5⟩:=hf it (by simp);have hl:=rv.length
  exact wpAny_pyNext_tuple_end (I.ok.hd hc) st (show s.heap.IsTuple a its.toArray from p) (by simp;lia) λh' eb=>⟨rfl,I.turned (t':=s.toks) (λb o hb e=>eb b o hb e) f0 f1 f3 f4 f5⟩
 self:=λ_ _ _ _ _ st h=>wpAny_pyIter_tupleiter st h
theorem ZIy(it:jL)(lo:Int)(n:Nat):Turn P w K tg (Itr lo n) [it] it (λi h=>IsRangeIter h it (lo+(i:Nat)*1) ((n:Int)-(i:Nat)) 1) where
 mem:=by simp
 obj:=λi h st b hb=>by
  have e:b=it:=by simpa using hb
  subst e;exact⟨_,st,λv z=>by have z':Data.fields _=Data.cell v:=z;cases z'⟩
 keep:=λi h h' st k=>k it (by simp) _ st
 item:=by
  intro X hP hw hK hc i vv s σ H E I hf st hg;subst hP hw hK;obtain⟨f0,f1,f2,f3,f4,f5⟩:=hf it (by simp);have W:=Walks.range (prog:=X.prog) (w:=X.w) (I.ok.hd hc) it lo 1 n;refine W.item i s _ _ hg st λv h' tk hv st' kk=>?_
  obtain⟨t,rfl⟩:=hv;have I1:Inv X vv σ H {s with heap:=h',toks:=tk}:=I.turned (λb o hb e=>kk b o (by simpa using hb) e) f0 f1 f3 f4 f5;refine⟨_,rfl,N6 (s:={s with heap:=h',toks:=tk}) (n:="range_iterator") st' rfl rfl (by decide) ⟨.int (lo+i),H,I1,⟨t,?_⟩,⟨rfl,rfl⟩,st',λb hb=>(hf b hb).1⟩⟩;rw[Int.mul_one]
 done:=by intro X hP hw hK hc i vv s σ H E I hf st hg;subst hP hw hK;obtain⟨f0,f1,f2,f3,f4,f5⟩:=hf it (by simp);exact wpAny_pyNext_range_end (I.ok.hd hc) st (by have:n<=i:=hg;lia) λh' eb=>⟨rfl,I.turned (t':=s.toks) (λb o hb e=>eb b o hb e) f0 f1 f3 f4 f5⟩
 self:=λ_ _ _ _ _ st h=>wpAny_pyIter_rangeiter st h
section
variable{X:Cx}{tg:jN}
def ZKX(K:PySem.W.Frag)(tl:TE):TI:=λσ H R=>tl σ H λx H1=>∃a,x=.ref a/\(∃xs,SqL K H1 a xs)/\R (Itl K a) H1
def iTup(K:PySem.W.Frag)(tl:TE):TI:=λσ H R=>tl σ H λx H1=>∃a,x=.ref a/\(∃xs,SqT K H1 a xs)/\R (Itt K a) H1
theorem ZBa{l:jN}{tl:TE}(hl:PE X l tl):PI X tg l (ZKX X.K tl):=by
 intro vv s σ H R I h;refine thn (hl vv s σ H _ I h) λv s1 ⟨x,H1,I1,r1,q1⟩=>?_
 obtain⟨a,e,⟨xs,hq⟩,q⟩:=q1;subst e;cases r1;obtain⟨its,rv,p,hz⟩:=I1.list hq;refine wpAny_pyIter_list p.isList ?_;refine⟨s1.heap.objs.size,[s1.heap.objs.size],_,_,H1,rfl,I1.kept (t':=s1.toks) λb o e=>zQ _ e,ZM4 a _,⟨_,zy _ rfl,rfl,rfl⟩,λb hb=>?_,q⟩;have e:b=s1.heap.objs.size:=by simpa using hb
 subst e;exact I1.Hh (zY _) (I1.hok.fresh (zY _))
theorem ZJC{l:jN}{tl:TE}(hl:PE X l tl):PI X tg l (iTup X.K tl):=by
 intro vv s σ H R I h;refine thn (hl vv s σ H _ I h) λv s1 ⟨x,H1,I1,r1,q1⟩=>?_
 obtain⟨a,e,⟨xs,hq⟩,q⟩:=q1;subst e;cases r1;obtain⟨its,rv,p,hz⟩:=I1.tuple hq
 refine wpAny_pyIter_tuple (show s1.heap.IsTuple a its.toArray from p) ?_
 refine⟨s1.heap.objs.size,[s1.heap.objs.size],_,_,H1,rfl,I1.kept (t':=s1.toks) λb o e=>zQ _ e,ZLj a _,⟨_,zy _ rfl,rfl,rfl⟩,λb hb=>?_,q⟩;have e:b=s1.heap.objs.size:=by simpa using hb
 subst e;exact I1.Hh (zY _) (I1.hok.fresh (zY _))
theorem ZKS{R:It->Hp->Prop}{lo hi:Int}{t u v:Tok}{tk:Nat}(I:Inv X vv σ H s)(h1: -(2^62)<=lo)(h2:lo<2^62)(h3: -(2^62)<=hi)(h4:hi<2^62)
  (q:R (Itr lo (hi-lo).toNat) H):xS (xL X.prog X.w) X.A (pyIter (.ref s.heap.objs.size)) (PIE X vv σ tg R) E {s with heap:=s.heap.push {cls:=.type "range",data:=.fields #[.int lo t,.int hi u,.int 1 v]},toks:=tk}:=by
 refine wpAny_pyIter_range (IsRange.new ..) (small_one h1 h2 h3 h4) ?_;have I1:Inv X vv σ H {s with heap:=s.heap.push {cls:=.type "range",data:=.fields #[.int lo t,.int hi u,.int 1 v]},toks:=tk}:=I.kept λb o e=>zQ _ e
 refine⟨(s.heap.push {cls:=.type "range",data:=.fields #[.int lo t,.int hi u,.int 1 v]}).objs.size,[(s.heap.push {cls:=.type "range",data:=.fields #[.int lo t,.int hi u,.int 1 v]}).objs.size],_,_,H,rfl,
  I1.kept (t':=tk) λb o e=>zQ _ e,ZIy _ lo (hi-lo).toNat,?_,λb hb=>?_,q⟩
 ·have e1:lo+((0:Nat):Int)*1=lo:=by simp
  have e2:(((hi-lo).toNat:Nat):Int)-((0:Nat):Int)=Builtin.Range.rangeSize lo hi 1:=by rw[rangeSize_one];split <;> lia
  show IsRangeIter _ _ (lo+((0:Nat):Int)*1) ((((hi-lo).toNat:Nat):Int)-((0:Nat):Int)) 1;rw[e1,e2];exact zy _ rfl
 ·have e:b=(s.heap.push {cls:=.type "range",data:=.fields #[.int lo t,.int hi u,.int 1 v]}).objs.size:=by simpa using hb
  subst e;exact I1.Hh (zY _) (I1.hok.fresh (zY _))
def ZKw(ta:TA):TI:=λσ H R=>ta σ H λvs H1=>∃j:Int,vs=[.int j]/\ -(2^62)<=j/\j<2^62/\R (Itr 0 j.toNat) H1
theorem ZH6{a:jN}{ta:TA}{p pos:Pos}(hg:Gl X "range")(hm:X.mg "range"=v4)(ha:PA X [a] ta)(hs:xP [a] X.env=[(v6,eval a X.env)]:=by rfl):PI X tg (.Call (.Name "range" p) [a] [] pos) (ZKw ta):=by
 intro vv s σ H R I h;refine Call_ (Hc I hg hm boot_range (PyProof.Rows.callWith_type1 (thn (ha pos vv s σ H _ I h) λus s1 ⟨vs,H1,I1,r1,q1⟩=>?_) hs rfl));obtain⟨j,e,q1,q2,q⟩:=q1;subst e;cases r1 with
 |cons r rr=>
  cases rr;obtain⟨t,rfl⟩:=r;exact call_range_1 (ZKS I1 (by lia) (by lia) q1 q2 (by simpa using q))
def tFor(wi:TI)(g:TG)(tb:TS):TS:=λD σ H=>wi σ H λJ H1=>∃W:Nat->Nat->St->Hp->Prop,(∃m,W 0 m σ H1)/\∀i m σ H,W i m σ H->
 (J.stop i H/\D.nx σ H)∨(J.go i H/\∃N:St->Hp->Prop,(∀σ' H',N σ' H'->∃m',m'<m/\W (i+1) m' σ' H')/\∀x H',J.yld i H x H'->g x σ H' λσ2 H2=>tb {D with nx:=N,ct:=N,bk:=D.nx} σ2 H2)
noncomputable def Nf(fp:List jL)(h:Heap):List (jL×Obj):=fp.filterMap λb=>(h.get? b).map λo=>(b,o)
theorem T9{o:Obj}(hb:b∈fp)(e:h.get? b=vk o):(b,o)∈Nf fp h:=jk.mpr ⟨b,hb,by rw[e];rfl⟩
theorem ZFh{p:jL×Obj}(hp:p∈Nf fp h):p.1∈fp/\h.get? p.1=vk p.2:=by
 obtain⟨b,hb,e⟩:=jk.mp hp;cases q:h.get? b with
 |none=>rw[q]at e;cases e
 |some o=>
  rw[q]at e;have e':(b,o)=p:=Option.some.inj e;subst e';exact⟨hb,q⟩
theorem Inv.pinned(I:Inv X vv σ H s)(hf:∀b∈fp,FpOk X vv H b)(ho:∀b∈fp,∃o,s.heap.get? b=vk o/\∀v,o.data≠ .cell v):Inv X (vv++Nf fp s.heap) σ H s:=
 I.Jy λp hp=>(List.mem_append.mp hp).elim (λz=>I.pin p (zG _ z)) λz=>by obtain⟨hb,e⟩:=ZFh z;obtain⟨f0,f1,f2,_⟩:=hf p.1 hb;obtain⟨o,e',d⟩:=ho p.1 hb;rw[e]at e';cases e';exact⟨e,f0,f1,f2,d⟩
theorem Inv.unpinned{pl:List (jL×Obj)}(I:Inv X (vv++pl) σ H s):Inv X vv σ H s:=I.Jy λp hp=>I.pin p (zG _ (jB _ hp))
theorem ZMd{iter:jN}{wi:TI}{g:TG}{tb:TS}{pos:Pos}(hp:PassesOwn (xL X.prog X.w) X.A X.env X.xe)(hc:X.calm=v5)(hi:PI X tg iter wi)(hg:PG X tg g)(hb:PSs X body tb)
  (hs:∀x,foldedSetIterable iter X.env x=pure x:=by intro _;rfl):PS X (.For tg iter body [] pos) (tFor wi g tb):=by
 intro vv s σ H D I h;refine wpAny_For (thn (hi vv s σ H _ I h) λv s1 h1=>thn h1 λitv s2 h2=>?_) hs;obtain⟨it,fp,tn,J,H2,e,I2,T,st2,f2,W,⟨m0,w0⟩,turn⟩:=h2;subst e;have stat:∀{H':Hp},(∀b∈fp,H' b=v4)->∀b∈fp,FpOk X vv H' b:=λhn b hb=>⟨hn b hb,(f2 b hb).2⟩
 refine codeAny_forLoop_any (λn s'=>∃i σ' H',Inv X vv σ' H' s'/\tn i s'.heap/\(∀b∈fp,H' b=v4)/\W i n σ' H') ?_ m0 ⟨0,σ,H2,I2,st2,λb hb=>(f2 b hb).1,w0⟩;rintro n s3 ⟨i,σ3,H3,I3,st3,fr3,w3⟩;rcases turn i n σ3 H3 w3 with⟨stop,qn⟩|⟨go,N,hN,step⟩
 ·refine vK hp (thn (T.done X rfl rfl rfl hc i vv s3 σ3 H3 X.xe I3 (stat fr3) st3 stop) λr s4 ⟨hr,I4⟩=>?_);subst hr;exact wpAny_execs_nil ⟨σ3,H3,I4,qn⟩
 ·refine vK hp (thn (T.item X rfl rfl rfl hc i vv s3 σ3 H3 X.xe I3 (stat fr3) st3 go) λr s4 ⟨u,hr,h4⟩=>?_);subst hr;refine vK hp (thn h4 λ_ s5 ⟨x,H5,I5,r5,y5,st5,fr5⟩=>?_);have I5':=I5.pinned (stat fr5) (T.obj _ _ st5);refine vK hp (thn (hg _ s5 σ3 H5 x u _ I5' r5 (step x H5 y5)) λ_ s6 ⟨σ6,H6,I6,q6⟩=>?_);refine vK hp (thn (hb _ s6 σ6 H6 _ I6 q6) λf s7 q7=>?_)
  have again:∀{σ7:St}{H7:Hp},Inv X (vv++Nf fp s5.heap) σ7 H7 s7->N σ7 H7->∃m,m<n/\∃i σ' H',Inv X vv σ' H' s7/\tn i s7.heap/\(∀b∈fp,H' b=v4)/\W i m σ' H':=λ{σ7 H7}I7 n7=>by obtain⟨m',hm,w7⟩:=hN σ7 H7 n7;refine⟨m',hm,i+1,σ7,H7,I7.unpinned,T.keep _ _ _ st5 λb hb o e=>(I7.pin (b,o) (zG _ (zG _ (T9 hb e)))).1,λb hb=>?_,w7⟩;obtain⟨o,e,d⟩:=T.obj _ _ st5 b hb;exact(I7.pin (b,o) (zG _ (zG _ (T9 hb e)))).2.1
  cases f with
  |next=>obtain⟨σ7,H7,I7,n7⟩:=q7;exact again I7 n7
  |cont=>obtain⟨σ7,H7,I7,n7⟩:=q7;exact again I7 n7
  |brk=>obtain⟨σ7,H7,I7,q7⟩:=q7;exact⟨σ7,H7,I7.unpinned,q7⟩
  |ret v=>obtain⟨x7,σ7,H7,I7,r7,q7⟩:=q7;exact⟨x7,σ7,H7,I7.unpinned,r7,q7⟩
end
noncomputable abbrev R2:=V->V->Hp->VK->Prop
variable{r:R2}
def OpR(X:Cx)(f:xQ->xQ->Sem xQ)(r:R2):Prop:=
 ∀(vv:List (jL×Obj))(s:jT)(σ:St)(H:Hp)(x y:V)(v u:xQ)(Q:VK),Inv X vv σ H s->RelV x v->RelV y u->r x y H Q->
  xS (xL X.prog X.w) X.A (f v u) (EP X vv σ Q) X.xe s
def UnR(X:Cx)(f:xQ->Sem xQ)(r:V->Hp->VK->Prop):Prop:=
 ∀(vv:List (jL×Obj))(s:jT)(σ:St)(H:Hp)(x:V)(v:xQ)(Q:VK),Inv X vv σ H s->RelV x v->r x H Q->
  xS (xL X.prog X.w) X.A (f v) (EP X vv σ Q) X.xe s
def CallR(X:Cx)(f:xQ)(r:List V->Hp->VK->Prop):Prop:=
 ∀(vv:List (jL×Obj))(s:jT)(σ:St)(H:Hp)(xs:List V)(us:List xQ)(Q:VK),Inv X vv σ H s->Vals xs us->r xs H Q->
  xS (xL X.prog X.w) X.A (call f us) (EP X vv σ Q) X.xe s
noncomputable def tOp(r:R2)(ta tb:TE):TE:=λσ H Q=>ta σ H λx H1=>tb σ H1 λy H2=>r x y H2 Q
noncomputable def tUn(r:V->Hp->VK->Prop)(ta:TE):TE:=λσ H Q=>ta σ H λx H1=>r x H1 Q
noncomputable def rI(C:Int->Int->Prop)(g:Int->Int->V):R2:=λx y H Q=>∃i j,x=.int i/\y=.int j/\C i j/\Q (g i j) H
noncomputable def rI0(g:Int->Int->V):R2:=λx y H Q=>∃i j,x=.int i/\y=.int j/\Q (g i j) H
def rU(g:Int->V):V->Hp->VK->Prop:=λx H Q=>∃i,x=.int i/\Q (g i) H
section
variable{X:Cx}{a b c:jN}{ta tb tc:TE}{pos:Pos}
theorem ZBc(ha:PE X a ta)(hb:PE X b tb){R:V->V->Hp->Prop}(I:Inv X vv σ H s)
  (h:ta σ H λx H1=>tb σ H1 λy H2=>R x y H2) {Q:xQ->jT->Prop} {f:xQ->xQ->Sem xQ}
  (hf:∀v u s2 x y H2,Inv X vv σ H2 s2->RelV x v->RelV y u->R x y H2->xS (xL X.prog X.w) X.A (f v u) Q X.xe s2):
  xS (xL X.prog X.w) X.A (eval a X.env) (λv s₁=>xS (xL X.prog X.w) X.A (eval b X.env) (λu s₂=>xS (xL X.prog X.w) X.A (f v u) Q X.xe s₂) X.xe s₁) X.xe s:=by
 refine thn (ha vv s σ H _ I h) λv s1 ⟨x,H1,I1,r1,q1⟩=>?_
 refine thn (hb vv s1 σ H1 _ I1 q1) λu s2 ⟨y,H2,I2,r2,q2⟩=>?_
 exact hf v u s2 x y H2 I2 r1 r2 q2
theorem ZKE{op:Operator}(ho:OpR X (xY op) r)(ha:PE X a ta)(hb:PE X b tb):PE X (.BinOp a op b pos) (tOp r ta tb):=by intro vv s σ H Q I h;exact wpAny_BinOp (ZBc ha hb I h λv u s2 x y H2 I2 rx ry q=>ho vv s2 σ H2 x y v u Q I2 rx ry q)
theorem ZMz{op:UnaryOp}{r:V->Hp->VK->Prop}(ho:UnR X (unaryOp op) r)(ha:PE X a ta):PE X (.UnaryOp op a pos) (tUn r ta):=by intro vv s σ H Q I h;exact UnaryOp_ (thn (ha vv s σ H _ I h) λv s1 ⟨x,H1,I1,r1,q1⟩=>ho vv s1 σ H1 x v Q I1 r1 q1)
theorem opI{C:Int->Int->Prop}{g:Int->Int->Int}
  (rule:∀(i j:Int)(t u:Tok)(s:jT)(Q:xQ->jT->Prop)(E:xQ->jT->Prop),C i j->Q (.int (g i j) s.toks) {s with toks:=s.toks+1}->xS (xL X.prog X.w) X.A (f (.int i t) (.int j u)) Q E s):
  OpR X f (rI C λi j=>.int (g i j)):=by
 intro vv s σ H x y v u Q I rx ry h;obtain⟨i,j,rfl,rfl,hc,q⟩:=h;obtain⟨t,rfl⟩:=rx;obtain⟨t',rfl⟩:=ry;exact rule i j t t' s _ _ hc ⟨.int (g i j),H,I.tok _,⟨_,rfl⟩,q⟩
theorem opI0{g:Int->Int->Int}
  (rule:∀(i j:Int)(t u:Tok)(s:jT)(Q:xQ->jT->Prop)(E:xQ->jT->Prop),Q (.int (g i j) s.toks) {s with toks:=s.toks+1}->xS (xL X.prog X.w) X.A (f (.int i t) (.int j u)) Q E s):
  OpR X f (rI0 λi j=>.int (g i j)):=by
 intro vv s σ H x y v u Q I rx ry h;obtain⟨i,j,rfl,rfl,q⟩:=h;obtain⟨t,rfl⟩:=rx;obtain⟨t',rfl⟩:=ry;exact rule i j t t' s _ _ ⟨.int (g i j),H,I.tok _,⟨_,rfl⟩,q⟩
theorem U0{g:Int->Int->Bool}
  (rule:∀(i j:Int)(t u:Tok)(s:jT)(Q:xQ->jT->Prop)(E:xQ->jT->Prop),Q (.bool (g i j)) s->xS (xL X.prog X.w) X.A (f (.int i t) (.int j u)) Q E s):
  OpR X f (rI0 λi j=>.bl (g i j)):=by
 intro vv s σ H x y v u Q I rx ry h;obtain⟨i,j,rfl,rfl,q⟩:=h;obtain⟨t,rfl⟩:=rx;obtain⟨t',rfl⟩:=ry;exact rule i j t t' s _ _ ⟨.bl (g i j),H,I,rfl,q⟩
def CPow(i j:Int):Prop:=0<=j/\j<=1000000/\i.natAbs<2^64
def CMul(i j:Int):Prop:=(-(2^64)<i/\i<2^64)∨(-(2^64)<j/\j<2^64)
theorem CMul.ok{i j:Int}(h:CMul i j):IntMulOk i j:=by
 rcases h with⟨h1,h2⟩|⟨h1,h2⟩
 ·exact .of_left (intBits_le_64 h1 h2)
 ·exact .of_right (intBits_le_64 h1 h2)
theorem ZKy:OpR X (xY .Add) (rI0 λi j=>.int (i+j)):=opI0 λ_ _ _ _ _ _ _ q=>add_int q
theorem ZHv:OpR X (xY .Sub) (rI0 λi j=>.int (i-j)):=opI0 λ_ _ _ _ _ _ _ q=>sub_int q
theorem ZQO:OpR X (xY .Mod) (rI (λ_ j=>0<j) λi j=>.int (i%j)):=opI λi j _ _ _ _ _ hc q=>by have h1:(0:Int)<j:=hc;exact mod_int' (by lia) (by rw[Int.fmod_eq_emod_of_nonneg i (by lia)];exact q)
theorem ZMn:OpR X (xY .Pow) (rI CPow λi j=>.int (i^j.toNat)):=opI λ_ _ _ _ _ _ _ hc q=>pow_int_small hc.1 hc.2.1 hc.2.2 q
theorem unI{f:xQ->Sem xQ}{g:Int->Int}
  (rule:∀(i:Int)(t:Tok)(s:jT)(Q:xQ->jT->Prop)(E:xQ->jT->Prop),Q (.int (g i) s.toks) {s with toks:=s.toks+1}->xS (xL X.prog X.w) X.A (f (.int i t)) Q E s):
  UnR X f (rU λi=>.int (g i)):=by
 intro vv s σ H x v Q I rx h;obtain⟨i,rfl,q⟩:=h;obtain⟨t,rfl⟩:=rx;exact rule i t s _ _ ⟨.int (g i),H,I.tok _,⟨_,rfl⟩,q⟩
theorem ZIA:UnR X (unaryOp .USub) (rU λi=>.int (-i)):=unI λ_ _ _ _ _ q=>neg_int q
end
section
variable{X:Cx}{a b c:jN}{ta tb tc:TE}{pos:Pos}
theorem Ux{Q:VK}{k k':Bool}(I:Inv X vv σ H s)(q:Q (.bl k) H)(e:k=k'):EP X vv σ Q (.bool k') s:=by subst e;exact⟨.bl k,H,I,rfl,q⟩
theorem ZMj:OpR X (xy .Lt) (rI0 λi j=>.bl (decide (i<j))):=U0 λ_ _ _ _ _ _ _ q=>lt_int q
theorem ZOy:OpR X (xy .LtE) (rI0 λi j=>.bl (decide (i<=j))):=U0 λ_ _ _ _ _ _ _ q=>le_int q
theorem ZK7:OpR X (xy .Gt) (rI0 λi j=>.bl (decide (j<i))):=U0 λ_ _ _ _ _ _ _ q=>gt_int q
theorem ZJc:OpR X (xy .GtE) (rI0 λi j=>.bl (decide (j<=i))):=U0 λ_ _ _ _ _ _ _ q=>ge_int q
theorem ZI0:OpR X (xy .Lt) (λx y H Q=>∃i j,x=.str i/\y=.str j/\Q (.bl (decide (i.cps.toList<j.cps.toList))) H):=by intro vv s σ H x y v u Q I rx ry h;obtain⟨i,j,rfl,rfl,q⟩:=h;obtain⟨t,rfl⟩:=rx;obtain⟨t',rfl⟩:=ry;exact lt_str (Ux I q rfl)
theorem ZLR:OpR X (xy .Is) (λx y H Q=>y=.non/\Q (.bl (decide (x=.non))) H):=by
 intro vv s σ H x y v u Q I rx ry h;obtain⟨rfl,q⟩:=h;cases ry;refine is_none_gen (Ux I q ?_)
 cases x<;>first
  |(cases rx;rfl)
  |(obtain⟨t,rfl⟩:=rx;rfl)
theorem ZM5:OpR X (xy .IsNot) (λx y H Q=>y=.non/\Q (.bl (!decide (x=.non))) H):=by
 intro vv s σ H x y v u Q I rx ry h;obtain⟨rfl,q⟩:=h;cases ry;refine isnot_none_gen (Ux I q ?_)
 cases x<;>first
  |(cases rx;rfl)
  |(obtain⟨t,rfl⟩:=rx;rfl)
theorem ZLD:OpR X (xy .NotIn) (λx y H Q=>∃i j,x=.str i/\y=.str j/\Q (.bl (!(!(Builtin.Str.occurrences j i 0 j.length 1).isEmpty))) H):=by intro vv s σ H x y v u Q I rx ry h;obtain⟨i,j,rfl,rfl,q⟩:=h;obtain⟨t,rfl⟩:=rx;obtain⟨t',rfl⟩:=ry;exact notIn_str (Ux I q rfl)
theorem OpR.or{r':R2}(h:OpR X f r)(h':OpR X f r'):OpR X f (λx y H Q=>r x y H Q∨r' x y H Q):=by
 intro vv s σ H x y v u Q I rx ry q;rcases q with q|q
 ·exact h vv s σ H x y v u Q I rx ry q
 ·exact h' vv s σ H x y v u Q I rx ry q
theorem nomark(b:jN)(h:op≠ .In:=by decide)(h2:op≠ .NotIn:=by decide):xK op b=v6:=by
 have e1:(op==CmpOp.In)=v6:=by cases op<;>first|rfl|exact absurd rfl h
 have e2:(op==CmpOp.NotIn)=v6:=by cases op<;>first|rfl|exact absurd rfl h2
 cases b<;>simp[xK,e1,e2]
theorem ZKn(ho:OpR X (xy op) r)(ha:PE X a ta)(hb:PE X b tb)(hm:xK op b=v6):PE X (.Compare a [op] [b] pos) (tOp r ta tb):=by intro vv s σ H Q I h;exact wpAny_Compare1 (ZBc ha hb I h λv u s2 x y H2 I2 rx ry q=>ho vv s2 σ H2 x y v u Q I2 rx ry q) hm
noncomputable def R0(t:TE):TT:=λσ H Q=>t σ H λx H'=>∃k,x=.bl k/\Q k H'
theorem ZHf(ho:OpR X (xy op) r)(ha:PE X a ta)(hb:PE X b tb)(hm:xK op b=v6):PT X (.Compare a [op] [b] pos) (R0 (tOp r ta tb)):=by
 intro vv s σ H Q I h;refine wpAny_isTrue_Compare1 (thn (ha vv s σ H _ I h) λv s1 ⟨x,H1,I1,r1,q1⟩=>thn (hb vv s1 σ H1 _ I1 q1) λu s2 ⟨y,H2,I2,r2,q2⟩=>
  thn (ho vv s2 σ H2 x y v u _ I2 r1 r2 q2) λc s3 ⟨z,H3,I3,r3,k,e,q3⟩=>?_) hm
 subst e;cases r3;exact vz ⟨H3,I3,q3⟩
noncomputable def ZCh(r r':R2)(ta tb tc:TE):TE:=λσ H Q=>ta σ H λx H1=>tb σ H1 λy H2=>r x y H2 λz H3=>∃k,z=.bl k/\
 (if k=v5 then tc σ H3 λw' H4=>r' y w' H4 Q else Q (.bl v6) H3)
theorem ZPh{op':CmpOp}{r':R2}(ho:OpR X (xy op) r)(ho':OpR X (xy op') r')(ha:PE X a ta)(hb:PE X b tb)(hc:PE X c tc)
  (hm:lastMarks [op,op'] [b,c]=v6:=by with_unfolding_all rfl):PT X (.Compare a [op,op'] [b,c] pos) (R0 (ZCh r r' ta tb tc)):=by
 intro vv s σ H Q I h;refine isTrue_chain (thn (ha vv s σ H _ I h) λv s1 ⟨x,H1,I1,r1,q1⟩=>test_link (thn (hb vv s1 σ H1 _ I1 q1) λu s2 ⟨y,H2,I2,r2,q2⟩=>
  thn (ho vv s2 σ H2 x y v u _ I2 r1 r2 q2) λd s3 ⟨z,H3,I3,r3,k,e,q3⟩=>?_)) hm
 subst e;cases r3;refine vz ?_;cases k with
 |false=>
  obtain⟨k',e',q'⟩:=q3;cases e';exact ite_ff ⟨H3,I3,q'⟩
 |true=>
  refine ite_tt (test_last (thn (hc vv s3 σ H3 _ I3 q3) λw' s4 ⟨z',H4,I4,r4,q4⟩=>thn (ho' vv s4 σ H4 y z' u w' _ I4 r2 r4 q4) λd' s5 ⟨z2,H5,I5,r5,k2,e2,q5⟩=>?_));subst e2;cases r5;exact vz ⟨H5,I5,q5⟩
theorem line63:(sizeLine:Nat)<2^63:=by rw[xN];decide
theorem ZNj:OpR X (xY .Add) (λx y H Q=>∃i j,x=.str i/\y=.str j/\i.length+j.length<=sizeLine/\Q (.str (i++j)) H):=by intro vv s σ H x y v u Q I rx ry h;obtain⟨i,j,rfl,rfl,hz,q⟩:=h;obtain⟨t,rfl⟩:=rx;obtain⟨t',rfl⟩:=ry;exact add_str (λt' tk=>⟨.str (i++j),H,I.tok _,⟨_,rfl⟩,q⟩) hz
theorem ZKz:OpR X (inplaceOp .Add) (λx y H Q=>∃i j,x=.str i/\y=.str j/\i.length+j.length<=sizeLine/\Q (.str (i++j)) H):=by intro vv s σ H x y v u Q I rx ry h;obtain⟨i,j,rfl,rfl,hz,q⟩:=h;obtain⟨t,rfl⟩:=rx;obtain⟨t',rfl⟩:=ry;exact iadd_str (λt' tk=>⟨.str (i++j),H,I.tok _,⟨_,rfl⟩,q⟩) hz
theorem vals1{x:V}(r:Vals [x] us):∃u,us=[u]/\RelV x u:=by
 cases r with
 |cons r1 r2=>cases r2;exact⟨_,rfl,r1⟩
theorem vals2{x:V}(r:Vals [x,y] us):∃u w',us=[u,w']/\RelV x u/\RelV y w':=by
 cases r with
 |cons r1 r2=>
  cases r2 with
  |cons r3 r4=>cases r4;exact⟨_,_,rfl,r1,r3⟩
theorem ZJ0(hc:X.calm=v5):CallR X (.builtin "max") (λxs H Q=>∃i j,xs=[.int i,.int j]/\Q (.int (if j>i then j else i)) H):=by
 intro vv s σ H xs us Q I r h;obtain⟨i,j,rfl,q⟩:=h;obtain⟨u,w',rfl,⟨t,rfl⟩,⟨t',rfl⟩⟩:=vals2 r;refine max_two_ints (I.ok.hd hc) λh' tk k=>⟨_,H,I.kept k,?_,q⟩
 by_cases hj:j>i
 ·rw[if_pos hj,if_pos hj];exact⟨_,rfl⟩
 ·rw[if_neg hj,if_neg hj];exact⟨_,rfl⟩
theorem ZMX(hc:X.calm=v5):CallR X (.builtin "min") (λxs H Q=>∃i j,xs=[.int i,.int j]/\Q (.int (if j<i then j else i)) H):=by
 intro vv s σ H xs us Q I r h;obtain⟨i,j,rfl,q⟩:=h;obtain⟨u,w',rfl,⟨t,rfl⟩,⟨t',rfl⟩⟩:=vals2 r;refine min_two_ints (I.ok.hd hc) λh' tk k=>⟨_,H,I.kept k,?_,q⟩
 by_cases hj:j<i
 ·rw[if_pos hj,if_pos hj];exact⟨_,rfl⟩
 ·rw[if_neg hj,if_neg hj];exact⟨_,rfl⟩
theorem ZNr:CallR X (.type "int") (λxs H Q=>(∃i,xs=[.int i]/\Q (.int i) H)∨∃k,xs=[.bl k]/\Q (.int (if k then 1 else 0)) H):=by
 intro vv s σ H xs us Q I r h;rcases h with⟨i,rfl,q⟩|⟨k,rfl,q⟩
 ·obtain⟨u,rfl,t,rfl⟩:=vals1 r;exact call_int_int ⟨.int i,H,I,⟨_,rfl⟩,q⟩
 ·obtain⟨u,rfl,r1⟩:=vals1 r;cases r1;exact call_int_bool ⟨.int (if k then 1 else 0),H,I.tok _,⟨_,rfl⟩,q⟩
end
structure ObjM (h:Heap) (x dx C:jL) (mA:Str->Option xQ):Prop where
 obj:h.get? x=vk (PySem.W.instObj C dx)
 ns:h.Ns1 dx mA
 ne:dx≠x
theorem ZFj{dx:jL}{mA:Str->Option xQ}(n:h.Ns1 dx mA):∃od,h.get? dx=vk od/\∀name,PySem.W.lookIn name od=vk (mA name):=by
 obtain⟨o,es,ep,ho,hd,hk,_,hm⟩:=n;refine⟨o,ho,λname=>?_⟩;have e:=hm name;unfold nsFind findBy at e;rw[<-Array.find?_toList]at e;unfold PySem.W.lookIn;rw[hd];dsimp only;split
 ·rename_i y q;rw[q]at e;exact congrArg vk e
 ·rename_i q;rw[q]at e
  have a:es.toList.any (·.refKey)=v6:=by rw[List.any_eq_false];intro y hy;obtain⟨z,t,hkey⟩:=hk y (Array.mem_toList_iff.mp hy);simp[DictEntry.refKey,hkey]
  have a':¬es.toList.any (·.refKey)=v5:=by rw[a];exact zx
  rw[if_neg a'];exact congrArg vk e
theorem ObjM.look{x dx:jL}{mA:Str->Option xQ}(I:ObjM h x dx C mA):∃od,PySem.W.InstAt h x (PySem.W.instObj C dx) C (vk od)/\∀name,PySem.W.lookIn name od=vk (mA name):=
 let⟨od,ho,hl⟩:=ZFj I.ns
 ⟨od,⟨I.obj,rfl,rfl,ho⟩,hl⟩
section
variable{prog:jR}{w:xZ}{A:jM}{E:xQ->jT->Prop}{s:jT}{K:PySem.W.Frag}{x dx C f:jL}{mA:Str->Option xQ}{name:Str}{v:xQ}
theorem ZPw{expr:Bool}(X:K.In s.heap)(I:ObjM s.heap x dx C mA)(hg:PySem.W.plainGet K C name=v5)(hh:PySem.W.hasDictIn K C=v5)
  (ha:PySem.W.findIn K (.ref C) name=vk v4) (hv:mA name=vk v) (hv':PySem.W.handedIn v=v5) (h:Q v {s with toks:=s.toks+1}):
  xS (xL prog w) A (getAttr (.ref x) name expr) Q E s:=by
 obtain⟨od,J,hl⟩:=I.look;exact PySem.W.get_value X J (PySem.W.plainGet_of hg).1 (PySem.W.findObj_own hh ha rfl (by rw[hl,hv])) hv' h
theorem ZPE{pl:Sem Bool}{Q:xQ×List xQ->jT->Prop}(X:K.In s.heap)(I:ObjM s.heap x dx C mA)(hg:PySem.W.plainGet K C name=v5)
  (hf:PySem.W.findIn K (.ref C) name=vk (vk (.ref f))) (ht:PySem.W.isFn K (.ref f)=v5) (hv:mA name=v4) (h:Q (.ref f,[.ref x]) s):
  xS (xL prog w) A (getMethod (.ref x) name pl) Q E s:=by
 obtain⟨od,J,hl⟩:=I.look
 exact PySem.W.method_fn X J (PySem.W.plainGet_of hg).1 (PySem.W.plainGet_of hg).2 hf (beq_iff_eq.mp ht) (by show(PySem.W.lookIn name od).map (·.isSome)=vk v6;rw[hl,hv];rfl) h
theorem ZKl{ns:List Str}{Q:Unit->jT->Prop}(X:K.In s.heap)(I:ObjM s.heap x dx C mA)
  (hs:PySem.W.findIn K (.ref C) "__setattr__"=vk (vk (.builtin "object.__setattr__"))) (hp:PySem.W.plainOver K C=v5) (ht:PySem.W.takerIn K C name=vk v4) (hh:PySem.W.hasDictIn K C=v5)
  (hw:PySem.Within mA ns) (hsz:ns.length<=sizeLine)
  (h:∀h',ObjM h' x dx C (λy=>if y=name then vk v else mA y)->qK dx s.heap h'->Q () {s with heap:=h',toks:=s.toks+2}):
  xS (xL prog w) A (setAttr (.ref x) name v) Q E s:=by
 obtain⟨od,J,hl⟩:=I.look;refine PySem.W.set_plain X J hs (PySem.W.osa_open (s:={s with toks:=s.toks+1}) (r:=v4) X J hp ht λb=>?_);obtain⟨cd,hc,hd'⟩:=PySem.W.any_some hh;have hx:s.heap.get? x=vk ⟨.ref C,vk dx,.plain,#[]⟩:=I.obj;refine xU (vY (xU (xU (wpAny_loadPart hx (xU (PySem.W.Looks.here (s:={s with toks:=s.toks+1}) (PySem.W.looks_clsIn X hc) ?_))))))
 rw[hd'];refine vY (a:=vk dx) (xU (vY (xU ?_)));refine wpAny_nsSet1 (s:={s with toks:=s.toks+1}) I.ns λh' hn2 hs2=>?_
 obtain⟨oD,esD,epD,hoD,hdD,hcD⟩:=hn2.count (PySem.Within.cons name v hw);refine xU (wpAny_lookBehind hoD (by rw[hdD];exact pastItsLine_dict (z8 hcD (by rw[zO];lia))) ?_);exact vY (h _ ⟨(hs2.2 _ (Ne.symm I.ne)).trans I.obj,hn2,I.ne⟩ hs2)
theorem ZIL{R:Result->jT->Prop}{vs:List xQ}(X:K.In s.heap)(hm:PySem.W.makesIn K C=v5)
  (hi:PySem.W.findIn K (.ref C) "__init__"=vk (vk (.ref f))) (hf:PySem.W.typeIn K (.ref f)=vk (.type "function"))
  (h:codeAny (xL prog w) (A.under (.builtin "type.__call__" ⟨.ref C::vs,kw⟩)) (.call (.ref f) ⟨.ref (s.heap.objs.size+1)::vs,kw⟩) (PySem.W.InitBack (s.heap.objs.size+1) R)
   {s with heap:=(s.heap.push PySem.W.emptyDict).push (PySem.W.instObj C s.heap.objs.size)}):
  codeAny (xL prog w) A (.call (.ref C) ⟨vs,kw⟩) R s:=by
 obtain⟨hh,g,d,t,os⟩:=s;exact PySem.W.make_core (PySem.W.makes_of X hm) (PySem.W.looks_findIn X hi) (λself=>PySem.W.bind_fn X self hf) (.inl rfl) h
end
noncomputable def Ea(f:Str)(v:V):List (Str×V)->List (Str×V)
 |[]=>[(f,v)]
 |(g,x)::r=>if g=f then(g,v)::r else(g,x)::Ea f v r
theorem ZFI(f g:Str)(v:V):∀fs:List (Str×V),(Ea f v fs).lookup g=if g=f then vk v else fs.lookup g
 |[]=>by
  show q8 g [(f,v)]=_;by_cases h:g=f
  ·have hb:(g==f)=v5:=beq_iff_eq.mpr h;simp only[q8,hb,if_pos h]
  ·have hb:(g==f)=v6:=beq_eq_false_iff_ne.mpr h;simp only[q8,hb,if_neg h]
 | (k,x)::r=>by
  have ih:=ZFI f g v r
  rw[show Ea f v ((k,x)::r)=(if k=f then(k,v)::r else(k,x)::Ea f v r)from rfl]
  by_cases hk:k=f
  ·rw[if_pos hk];by_cases h:g=k
   ·have hb:(g==k)=v5:=beq_iff_eq.mpr h;simp only[q8,hb,if_pos (h.trans hk)]
   ·have hb:(g==k)=v6:=beq_eq_false_iff_ne.mpr h;simp only[q8,hb,if_neg (λe:g=f=>h (e.trans hk.symm))]
  ·rw[if_neg hk];by_cases h:g=k
   ·have hb:(g==k)=v5:=beq_iff_eq.mpr h;simp only[q8,hb,if_neg (λe:g=f=>hk (h.symm.trans e))]
   ·have hb:(g==k)=v6:=beq_eq_false_iff_ne.mpr h;simp only[q8,hb];exact ih
theorem Zm(f:Str)(v:V):∀fs:List (Str×V),f∈(Ea f v fs).map (·.1)/\∀g,g∈fs.map (·.1)->g∈(Ea f v fs).map (·.1)
 |[]=>⟨by simp[Ea],λg h=>by simp at h⟩
 | (k,x)::r=>by
  obtain⟨i1,i2⟩:=Zm f v r
  rw[show Ea f v ((k,x)::r)=(if k=f then(k,v)::r else(k,x)::Ea f v r)from rfl]
  by_cases hk:k=f
  ·rw[if_pos hk];subst hk;exact⟨by simp,λg h=>by simpa using h⟩
  ·rw[if_neg hk];refine⟨?_,λg h=>?_⟩
   ·rw[zk];exact zZ _ i1
   ·rw[zk]at h⊢;rcases zj.mp h with e|e
    ·exact zj.mpr (.inl e)
    ·exact zZ _ (i2 g e)
theorem ZDx(f:Str)(v:V):∀fs:List (Str×V),(Ea f v fs).length<=fs.length+1
 |[]=>by simp[Ea]
 |(k,x)::r=>by
  have ih:=ZDx f v r
  rw[show Ea f v ((k,x)::r)=(if k=f then(k,v)::r else(k,x)::Ea f v r)from rfl]
  by_cases hk:k=f
  ·rw[if_pos hk,zO,zO];lia
  ·rw[if_neg hk,zO,zO];lia
theorem RelO.some_of{o:Option xQ}(r:RelO (vk v) o):∃u,o=vk u/\RelV v u:=by
 cases o with
 |none=>exact(show False from r).elim
 |some u=>exact⟨u,rfl,r⟩
theorem RelO.none_of{o:Option xQ}(r:RelO v4 o):o=v4:=by
 cases o with
 |none=>rfl
 |some u=>exact(show False from r).elim
theorem ZEZ(r:RelV v u):PySem.W.handedIn u=v5:=by
 cases v with
 |non=>cases(show u=Value.none from r);rfl
 |bl b=>cases(show u=Value.bool b from r);rfl
 |int i=>obtain⟨t,e⟩:=(show∃t,u=Value.int i t from r);cases e;rfl
 |str x=>obtain⟨t,e⟩:=(show∃t,u=Value.str x t from r);cases e;rfl
 |byt b=>obtain⟨t,e⟩:=(show∃t,u=Value.bytes b t from r);cases e;rfl
 |flt b=>obtain⟨t,e⟩:=(show∃t,u=Value.float b t from r);cases e;rfl
 |ref a=>cases(show u=Value.ref a from r);rfl
 |ty n=>cases(show u=Value.type n from r);rfl
section
variable{P:jR}{w:xZ}{H H':Hp}{h h':Heap}{a C dx:jL}{fs fs':List (Str×V)}
theorem ZBQ(hok:HOk P w H h)(e:H a=vk (.ins C dx fs)):∃mA,ObjM h a dx C mA/\(∀f,RelO (fs.lookup f) (mA f))/\PySem.Within mA (fs.map (·.1))/\fs.length<=1000/\H dx=vk (.own a):=by
 obtain⟨d,z,ne,ob,mA,n,r,q⟩:=(show ObjOk P w H h a (.ins C dx fs)from hok a _ e)
 exact⟨mA,⟨ob,n,ne⟩,r,q,z,d⟩
end
structure Cls (K:PySem.W.Frag) (C:jL):Prop where
 pg:PySem.W.plainGet K C Str.empty=v5
 hd:PySem.W.hasDictIn K C=v5
 po:PySem.W.plainOver K C=v5
 sa:PySem.W.findIn K (.ref C) "__setattr__"=vk (vk (.builtin "object.__setattr__"))
theorem Cls.get(c:Cls K C)(f:Str):PySem.W.plainGet K C f=v5:=c.pg
def NoAttr(K:PySem.W.Frag)(C:jL)(f:Str):Prop:=PySem.W.findIn K (.ref C) f=vk v4
theorem NoAttr.taker{f:Str}(n:NoAttr K C f):PySem.W.takerIn K C f=vk v4:=by
 unfold PySem.W.takerIn
 rw[show PySem.W.findIn K (.ref C) f=vk v4 from n]
 rfl
structure Meth (K:PySem.W.Frag) (C:jL) (m:Str) (f:jL):Prop where
 at_:PySem.W.findIn K (.ref C) m=vk (vk (.ref f))
 fn:PySem.W.isFn K (.ref f)=v5
 kp:PySem.W.keepIn K (.ref f)=v5
section
variable{X:Cx}{vv:List (jL×Obj)}{σ:St}{H:Hp}{s:jT}{a C dx:jL}{fs:List (Str×V)}{f:Str}{v:V}{A:jM}{E:xQ->jT->Prop}
theorem ZJ3{b:Bool}(I:Inv X vv σ H s)(e:H a=vk (.ins C dx fs))(c:Cls X.K C)(n:NoAttr X.K C f)(l:fs.lookup f=vk v)
  (h:∀u s',Inv X vv σ H s'->RelV v u->Q u s'):xS (xL X.prog X.w) A (getAttr (.ref a) f b) Q E s:=by
 obtain⟨mA,O,r,_,_,_⟩:=ZBQ I.hok e;obtain⟨u,hu,ru⟩:=RelO.some_of (v:=v) (o:=mA f) (by rw[<-l];exact r f);exact ZPw I.kIn O (c.get f) c.hd n hu (ZEZ ru) (h u _ (I.tok _) ru)
theorem ZHG{m:Str}{g:jL}{pl:Sem Bool}{Q:xQ×List xQ->jT->Prop}(I:Inv X vv σ H s)(e:H a=vk (.ins C dx fs))(c:Cls X.K C)(k:Meth X.K C m g)(l:fs.lookup m=v4)
  (h:Q (.ref g,[.ref a]) s):xS (xL X.prog X.w) A (getMethod (.ref a) m pl) Q E s:=by
 obtain⟨mA,O,r,_,_,_⟩:=ZBQ I.hok e;have hn:mA m=v4:=RelO.none_of (by rw[<-l];exact r m);exact ZPE I.kIn O (c.get m) k.at_ k.fn hn h
theorem ZPk{Q:Unit->jT->Prop}(I:Inv X vv σ H s)(e:H a=vk (.ins C dx fs))(c:Cls X.K C)(n:NoAttr X.K C f)(hl:fs.length<1000)(ry:RelV y u)
  (h:∀s',Inv X vv σ (upd H a (.ins C dx (Ea f y fs))) s'->Q () s'):xS (xL X.prog X.w) A (setAttr (.ref a) f u) Q E s:=by
 obtain⟨mA,O,r,wi,_,ho⟩:=ZBQ I.hok e
 have hz:(fs.map (·.1)).length<=sizeLine:=by rw[zM,xN];lia
 refine ZKl I.kIn O c.sa c.po n.taker c.hd wi hz λh' O' sb=>h _ ?_
 have hd:∃o,h'.get? dx=vk o:=let⟨o,_,_,e',_⟩:=O'.ns;⟨o,e'⟩;refine I.write (x:=a) (e:=dx) (by rw[e];exact True.intro) (.inr ho) (λb q hb z=>(sb.2 b hb).trans z) hd ?_;refine⟨by rw[Ax O.ne];exact ho,?_,O.ne,O'.obj,_,O'.ns,λg=>?_,λg hg=>?_⟩
 ·have:=ZDx f y fs;lia
 ·show RelO ((Ea f y fs).lookup g) (if g=f then vk u else mA g);rw[ZFI];by_cases q:g=f
  ·rw[if_pos q,if_pos q];exact ry
  ·rw[if_neg q,if_neg q];exact r g
 ·by_cases q:g=f
  ·rw[q];exact(Zm f y fs).1
  ·refine(Zm f y fs).2 g (wi g λz=>hg ?_);show(if g=f then vk u else mA g)=v4;rw[if_neg q];exact z
theorem Inv.made(I:Inv X vv σ H s):Inv X vv σ (upd (upd H s.heap.objs.size (.own (s.heap.objs.size+1))) (s.heap.objs.size+1) (.ins C s.heap.objs.size []))
  {s with heap:=(s.heap.push PySem.W.emptyDict).push (PySem.W.instObj C s.heap.objs.size)}:=by
 have e1:(s.heap.push PySem.W.emptyDict).get? s.heap.objs.size=vk PySem.W.emptyDict:=zy s.heap rfl;have e2:((s.heap.push PySem.W.emptyDict).push (PySem.W.instObj C s.heap.objs.size)).get? (s.heap.objs.size+1)=vk (PySem.W.instObj C s.heap.objs.size):=by have:=zy (s.heap.push PySem.W.emptyDict) (o:=PySem.W.instObj C s.heap.objs.size) rfl;rwa[qV]at this
 have e3:(s.heap.push PySem.W.emptyDict).Ns s.heap.objs.size (λ_=>v4):=⟨PySem.W.emptyDict,#[],_,e1,rfl,(λe he=>absurd he (by simp)),λ_=>rfl⟩;have I1:=I.laid (a:=s.heap.objs.size) (o:=.own (s.heap.objs.size+1)) (h':=s.heap.push PySem.W.emptyDict) (t':=s.toks) (λb u q=>zQ _ q) (zY _) ⟨_,e1⟩;refine I1.laid (a:=s.heap.objs.size+1) (o:=.ins C s.heap.objs.size []) (t':=s.toks) (λb u q=>zQ _ q) (Nat.le_of_eq (qV _ _)) ?_
 have ne:s.heap.objs.size≠s.heap.objs.size+1:=z9 (zI _);refine⟨by rw[Ax ne,Dv],jv _,ne,e2,λ_=>v4,(Heap.Ns1.of_empty e3).at λo q=>zQ _ q,λ_=>True.intro,λy hy=>absurd rfl hy⟩
theorem ZGV{prog:jR}{env:Env}{f:Str}{pos:Pos}(hb:xX e f env (eval e env)=eval e env)
  (h:xS (xL prog w) A (eval e env) (λo s₁=>xS (xL prog w) A (getAttr o f v5) Q E s₁) E s):xS (xL prog w) A (eval (.Attribute e f pos) env) Q E s:=
 Attribute_any_ h (by rw[arm_eval_Attribute,hb])
end
def tFld(K:PySem.W.Frag)(ta:TE)(f:Str):TE:=λσ H Q=>ta σ H λx H1=>∃a C dx fs v,x=.ref a/\H1 a=vk (.ins C dx fs)/\Cls K C/\NoAttr K C f/\fs.lookup f=vk v/\Q v H1
def sFld(K:PySem.W.Frag)(ta tv:TE)(f:Str):TS:=λD σ H=>tv σ H λy H1=>ta σ H1 λx H2=>∃a C dx fs,x=.ref a/\H2 a=vk (.ins C dx fs)/\Cls K C/\NoAttr K C f/\fs.length<1000/\
 D.nx σ (upd H2 a (.ins C dx (Ea f y fs)))
section
variable{X:Cx}{o e value:jN}{f:Str}{pos pos' tpos:Pos}{ta tv:TE}
theorem ZHs(he:PE X e ta)(hb:xX e f X.env (eval e X.env)=eval e X.env):PE X (.Attribute e f pos) (tFld X.K ta f):=by intro vv s σ H Q I h;refine ZGV hb (thn (he vv s σ H _ I h) λu s1 ⟨x,H1,I1,rx,a,C,dx,fs,v,ex,ea,c,n,l,q⟩=>?_);subst ex;obtain rfl:u=Value.ref a:=rx;exact ZJ3 I1 ea c n l λu' s2 I2 ru=>⟨v,H1,I2,ru,q⟩
theorem ZN4(ha:PE X o ta)(hv:PE X value tv)(hs:swapsWith value (vk (.Attribute o f pos')) pos.line X.env=pure v6):PS X (.Assign [.Attribute o f pos'] value pos) (sFld X.K ta tv f):=by intro vv s σ H D I h;refine plainObj_wpAny_Assign_Attribute (thn (hv vv s σ H _ I h) λu s1 ⟨y,H1,I1,ry,q⟩=>thn (ha vv s1 σ H1 _ I1 q) λov s2 ⟨x,H2,I2,rx,a,C,dx,fs,ex,ea,c,n,l,q2⟩=>?_) hs;subst ex;obtain rfl:ov=Value.ref a:=rx;exact ZPk I2 ea c n l ry λs3 I3=>⟨σ,_,I3,q2⟩
end
section
variable{X:Cx}{vv:List (jL×Obj)}{σ:St}{H:Hp}{s:jT}{A:jM}{E:xQ->jT->Prop}{Q:xQ->jT->Prop}{c:xQ}{b:Bool}
end
structure Room (k:Nat) (A:jM):Prop where
 hd:A.handled=v4
 dp:A.depth+3*k+5<recursionLimit
 un:A.units+16*k+200<cLine
theorem Room.mono{j k:Nat}(r:Room k A)(h:j<=k):Room j A:=⟨r.hd,by have:=r.dp;lia,by have:=r.un;lia⟩
theorem Room.deeper{k:Nat}(r:Room (k+1) A)(env:Env):Room k (A.deeper env):=
 ⟨r.hd,by have:=r.dp;show A.depth+1+3*k+5<_;lia,by have:=r.un;show A.units+3+16*k+200<_;lia⟩
theorem ZJm:(A.under (.builtin "type.__call__" ⟨.ref C::us,kw⟩)).depth=A.depth+1:=by
 first|rfl|simp[Around.under,Code.weight,Code.isCreation,Code.isGuard,Code.isCaller,Code.frames,Code.isFrame,guardIds]
theorem ZKt:(A.under (.builtin "type.__call__" ⟨.ref C::us,kw⟩)).units=A.units+1:=by
 first|rfl|simp[Around.under,Code.cUnits,Code.frames,Code.isFrame]
theorem Room.make{k:Nat}(r:Room (k+1) A)(C:jL)(us:List xQ)(kw:List (Str×xQ)):Room k (A.under (.builtin "type.__call__" ⟨.ref C::us,kw⟩)):=
 ⟨r.hd,by have:=r.dp;rw[ZJm];lia,by have:=r.un;rw[ZKt];lia⟩
theorem Room.depth{k:Nat}(r:Room k A):A.depth<recursionLimit:=by have:=r.dp;lia
theorem Room.units{k:Nat}(r:Room k A):A.units+64<cLine:=by have:=r.un;lia
noncomputable def Ow:TA:=λ_ H Q=>Q [] H
noncomputable def R4(ta:TE)(tr:TA):TA:=λσ H Q=>ta σ H λx H1=>tr σ H1 λxs H2=>Q (x::xs) H2
section
variable{X:Cx}{e:jN}{es:List jN}{te:TE}{t:TA}{pos:Pos}
theorem ZGw:PA X [] Ow:=λ_ _ _ _ H Q I h=>Calls.spliced_nil ⟨[],H,I,.nil,h⟩
theorem Z5(ha:PE X e te)(hr:PA X es t)(hs:xP (e::es) X.env=(v6,eval e X.env)::xP es X.env:=by rfl):PA X (e::es) (R4 te t):=by intro pos vv s σ H Q I h;rw[hs];show xS _ _ (spliced ((v6,eval e X.env)::xV pos (xP es X.env))) _ _ s;refine Calls.spliced_cons (thn (ha vv s σ H _ I h) λu s1 ⟨x,H1,I1,r1,q1⟩=>?_);exact thn (hr pos vv s1 σ H1 _ I1 q1) λus s2 ⟨xs,H2,I2,r2,q2⟩=>⟨x::xs,H2,I2,.cons r1 r2,q2⟩
def tTup(t:TA):TE:=λσ H Q=>t σ H λxs H1=>xs.length<=sizeLine/\∀p,H1 p=v4->Q (.ref p) (upd H1 p (.tup xs))
def tLst(t:TA):TE:=λσ H Q=>t σ H λxs H1=>xs.length<=sizeLine/\∀p,H1 p=v4->Q (.ref p) (upd H1 p (.lst xs))
theorem ZOH{x1}(h:PA X es t):PE X (.Tuple es x1 pos) (tTup t):=by intro vv s σ H Q I hq;refine wpAny_Tuple_spliced (thn (h pos vv s σ H _ I hq) λus s1 ⟨xs,H1,I1,r,z,q⟩=>⟨by rw[<-r.length];exact z,?_⟩);have hf:H1 s1.heap.objs.size=v4:=I1.hok.fresh (zY _);refine⟨.ref s1.heap.objs.size,upd H1 s1.heap.objs.size (.tup xs),I1.laid (t':=s1.toks) (λb u e=>zQ _ e) (zY _) ?_,rfl,q _ hf⟩;exact⟨z,us,r,⟨_,zy _ rfl,rfl,_,rfl⟩⟩
theorem ZQU(h:PA X es t):PE X (.List es pos) (tLst t):=by intro vv s σ H Q I hq;refine wpAny_List_spliced (thn (h pos vv s σ H _ I hq) λus s1 ⟨xs,H1,I1,r,z,q⟩=>⟨by rw[<-r.length];exact z,?_⟩);have hf:H1 s1.heap.objs.size=v4:=I1.hok.fresh (zY _);refine⟨.ref s1.heap.objs.size,upd H1 s1.heap.objs.size (.lst xs),I1.laid (t':=s1.toks) (λb u e=>zQ _ e) (zY _) ?_,rfl,q _ hf⟩;exact⟨z,us,0,r,zy _ rfl⟩
end
noncomputable abbrev Sp:=List V->Hp->VK->XK->Prop
noncomputable abbrev CXT:=List Env->Hp->jT->XK->xQ->jT->Prop
structure Env0 (P:jR) (w:xZ) (K:PySem.W.Frag) (mg:Str->Option xQ) (base:Heap) (A:jM) (outer:List Env) (s:jT) (H:Hp):Prop where
 frames:A.frames=vk outer
 mod:Mod K mg base
 bs:∀b o,base.get? b=vk o->s.heap.get? b=vk o/\H b=v4
 bsz:base.objs.size<=s.heap.objs.size
 funs:s.heap.FunFrames base outer
 frf:∀b∈frs outer,H b=v4
 hok:HOk P w H s.heap
 bare:AllBare s.gens
def CE(outer:List Env)(P:jR)(w:xZ)(H:Hp)(s:jT)(Q:VK)(u:xQ)(s':jT):Prop:=
 ∃v H',s'.os=s.os/\AllBare s'.gens/\Un (frs outer) [] H H' s.heap s'.heap/\HOk P w H' s'.heap/\RelV v u/\Q v H'
def CR(CX:CXT)(outer:List Env)(P:jR)(w:xZ)(H:Hp)(s:jT)(Q:VK)(E:XK)(r:Result)(s':jT):Prop:=
 match r with
 |.ok (.ret u)=>CE outer P w H s Q u s'
 |.ok _=>False
 |.error e=>CX outer H s E e s'
structure FnOk (P:jR) (w:xZ) (K:PySem.W.Frag) (mg:Str->Option xQ) (base:Heap) (CX:CXT) (k:Nat) (f:jL) (fd:jO) (ps:List Str) (sp:Sp):Prop where
 len:∀vs H Q E,sp vs H Q E->vs.length=ps.length
 run:∀(A:jM)(outer:List Env)(s:jT)(H:Hp)(args:Args)(us:List xQ)(vs:List V)(Q:VK)(E:XK),Room k A->Env0 P w K mg base A outer s H->BindsTo s fd args (ps.zip us)->Vals vs us->sp vs H Q E->
  codeAny (xL P w) A (.call (.ref f) args) (CR CX outer P w H s Q E) s
theorem Env0.make{outer:List Env}(e:Env0 P w K mg base A outer s H)(C:jL)(us:List xQ)(kw:List (Str×xQ)):
  Env0 P w K mg base (A.under (.builtin "type.__call__" ⟨.ref C::us,kw⟩)) outer s H:=⟨by first|exact e.frames|(simpa[Around.under,Code.envs,Code.isFrame,pushEnvs]using e.frames),e.mod,e.bs,e.bsz,e.funs,e.frf,e.hok,e.bare⟩
section
variable{X:Cx}{vv:List (jL×Obj)}{σ:St}{H:Hp}{s s':jT}
theorem Inv.env0(I:Inv X vv σ H s):Env0 X.prog X.w X.K X.mg X.base X.A X.stack s H:=
 ⟨I.ok.frames,I.ok.mod,I.bs,z8 I.ok.bsz I.sz,I.stack,I.U9,I.hok,I.bare⟩
theorem Inv.after{Q:VK}(I:Inv X vv σ H s)(h:CE X.stack X.prog X.w H s Q u s'):EP X vv σ Q u s':=by obtain⟨v,H',os,bare,un,hok,r,q⟩:=h;obtain⟨hh,g,d,t,os'⟩:=s';obtain rfl:os'=s.os:=os;exact⟨v,H',I.call (h':=hh) (g':=g) (d':=d) (t':=t) (ch:=[]) un hok bare (λb z=>absurd z (by simp)),r,q⟩
end
noncomputable def ZOK(sp:Sp)(dvs:List V)(E:XK)(t:TA):TE:=λσ H Q=>t σ H λvs H1=>sp (vs++dvs) H1 Q E
def ZAq(C:jL)(m:Str)(sp:Sp)(dvs:List V)(E:XK)(ta:TE)(t:TA):TE:=λσ H Q=>ta σ H λx H1=>∃a dx fs,x=.ref a/\H1 a=vk (.ins C dx fs)/\fs.lookup m=v4/\
 t σ H1 λvs H2=>sp (x::(vs++dvs)) H2 Q E
def ZOl(C:jL)(sp:Sp)(dvs:List V)(E:XK)(t:TA):TE:=λσ H Q=>t σ H λvs H1=>∀x dx,H1 x=v4->H1 dx=v4->dx≠x->
 sp (.ref x::(vs++dvs)) (upd (upd H1 dx (.own x)) x (.ins C dx [])) (λv H2=>v=.non/\Q (.ref x) H2) E
def Binds(K:PySem.W.Frag)(fd:jO)(ps:List Str)(ds:List xQ):Prop:=
 ∀(s:jT)(us:List xQ),K.In s.heap->(us++ds).length=ps.length->BindsTo s fd ⟨us,[]⟩ (ps.zip (us++ds))
theorem Binds.all{fd:jO}{ps:List Str}(h:∀us:List xQ,us.length=ps.length->bindArgs fd ⟨us,[]⟩=pure (ps.zip us)):Binds K fd ps []:=λs us _ hl=>by rw[qB]at hl⊢;exact .of_eq (h us hl)
def Passes(CX:CXT)(X:Cx)(E:XK):Prop:=∀(vv:List (jL×Obj))(σ:St)(H:Hp)(s:jT)(e:xQ)(s':jT),Inv X vv σ H s->CX X.stack H s E e s'->X.xe e s'
section
variable{X:Cx}{CX:CXT}{k:Nat}{f C:jL}{fd:jO}{ps:List Str}{sp:Sp}{dvs:List V}{ds:List xQ}{E:XK}{x m:Str}{p pos apos:Pos}{e o:jN}{es:List jN}{ta:TE}{t:TA}
theorem Z9{Q:VK}(F:FnOk X.prog X.w X.K X.mg X.base CX k f fd ps sp)(hr:Room k X.A)(hb:Binds X.K fd ps ds)(hd:Vals dvs ds)(hx:Passes CX X E)
  (I:Inv X vv σ H s) (r:Vals vs us) (h:sp (vs++dvs) H Q E):xS (xL X.prog X.w) X.A (call (.ref f) us) (EP X vv σ Q) X.xe s:=by
 have r2:Vals (vs++dvs) (us++ds):=r.append hd;have hl:(us++ds).length=ps.length:=by rw[<-r2.length];exact F.len _ _ _ _ h
 refine wpAny_call (xk (F.run X.A X.stack s H ⟨us,[]⟩ (us++ds) (vs++dvs) Q E hr I.env0 (hb s us I.kIn hl) r2 h) λr s' hq=>?_);cases r with
 |error e=>exact hx vv σ H s e s' I hq
 |ok fl=>
  cases fl with
  |ret u=>exact I.after hq
  |next=>exact False.elim hq
  |brk=>exact False.elim hq
  |cont=>exact False.elim hq
theorem Wx(F:FnOk X.prog X.w X.K X.mg X.base CX k f fd ps sp)(hr:Room k X.A)(hg:Gl X x)(hm:X.mg x=vk (.ref f))(hk:PySem.W.keepIn X.K (.ref f)=v5)(hb:Binds X.K fd ps ds)(hd:Vals dvs ds)(hx:Passes CX X E)
  (ha:PA X (e::es) t) (hdb:(x==("__debug__":Str))=v6:=by decide) (he:xP (e::es) X.env=(v6,eval e X.env)::xP es X.env:=by rfl) (hpl:(xV pos (xP es X.env)).any (·.1)=v6:=by rfl):
  PE X (.Call (.Name x p) (e::es) [] pos) (ZOK sp dvs E t):=by
 intro vv s σ H Q I h;refine xT (Js I hg hm ?_ hdb);refine PySem.W.callWith_K (h₀:=X.base) I.ok.mod.kin hk (thn (ha pos vv s σ H _ I h) λus s1 ⟨vs,H1,I1,r,q⟩=>⟨I1.kIn,?_⟩) he hpl;exact Z9 F hr hb hd hx I1 r q
theorem ZPN{pl:Sem Bool}(he:PE X o ta)(c:Cls X.K C)(hm:Meth X.K C m f)(F:FnOk X.prog X.w X.K X.mg X.base CX k f fd ps sp)(hr:Room k X.A)(hb:Binds X.K fd ps ds)(hd:Vals dvs ds)(hx:Passes CX X E)(ha:PA X (e::es) t)
  (hst:xP (e::es) X.env=(v6,eval e X.env)::xP es X.env:=by rfl) (hpl:(xV pos (xP es X.env)).any (·.1)=v6:=by rfl)
  (ht:eval (.Call (.Attribute o m apos) (e::es) [] pos) X.env=(do
   let ov<-eval o X.env
   standAt apos.atName
   let(f,first)<-holding [ov] (getMethod ov m pl)
   callWith pos f first (xV pos (xP (e::es) X.env)) (xW pos (xG [] X.env))):=by rfl):
  PE X (.Call (.Attribute o m apos) (e::es) [] pos) (ZAq C m sp dvs E ta t):=by
 intro vv s σ H Q I h;refine PySem.W.methodCall_KW (pl:=pl) (thn (he vv s σ H _ I h) λu s1 ⟨x,H1,I1,rx,a,dx,fs,ex,ea,l,q⟩=>?_) ht;subst ex;obtain rfl:u=Value.ref a:=rx;refine ZHG I1 ea c hm l ?_
 refine PySem.W.callWith_K (first:=[.ref a]) (h₀:=X.base) I.ok.mod.kin hm.kp (thn (ha pos vv s1 σ H1 _ I1 q) λus s2 ⟨vs,H2,I2,r,q2⟩=>⟨I2.kIn,?_⟩) hst hpl
 exact Z9 (us:=.ref a::us) (vs:=.ref a::vs) F hr hb hd hx I2 (.cons rfl r) q2
theorem ZPO{pl:Sem Bool}(he:PE X o ta)(c:Cls X.K C)(hm:Meth X.K C m f)(F:FnOk X.prog X.w X.K X.mg X.base CX k f fd ps sp)(hr:Room k X.A)(hb:Binds X.K fd ps ds)(hd:Vals dvs ds)(hx:Passes CX X E)
  (ht:eval (.Call (.Attribute o m apos) [] [] pos) X.env=(do
   let ov<-eval o X.env
   standAt apos.atName
   let(f,first)<-holding [ov] (getMethod ov m pl)
   callWith pos f first (xV pos (xP [] X.env)) (xW pos (xG [] X.env))):=by rfl):
  PE X (.Call (.Attribute o m apos) [] [] pos) (ZAq C m sp dvs E ta Ow):=by
 intro vv s σ H Q I h;refine PySem.W.methodCall_KW (pl:=pl) (thn (he vv s σ H _ I h) λu s1 ⟨x,H1,I1,rx,a,dx,fs,ex,ea,l,q⟩=>?_) ht;subst ex;obtain rfl:u=Value.ref a:=rx;refine ZHG I1 ea c hm l ?_
 exact PySem.W.callWith_K0 (first:=[.ref a]) I1.kIn hm.kp (Z9 (us:=[.ref a]) (vs:=[.ref a]) F hr hb hd hx I1 (.cons rfl .nil) q)
structure Mk (K:PySem.W.Frag) (C f:jL):Prop where
 makes:PySem.W.makesIn K C=v5
 init:PySem.W.findIn K (.ref C) "__init__"=vk (vk (.ref f))
 fn:PySem.W.isFn K (.ref f)=v5
 kp:PySem.W.keepIn K (.ref C)=v5
theorem ZK6{Q:VK}(M:Mk X.K C f)(F:FnOk X.prog X.w X.K X.mg X.base CX k f fd ps sp)(hr:Room (k+1) X.A)(hb:Binds X.K fd ps ds)(hd:Vals dvs ds)
  (hx:Passes CX X E) (I:Inv X vv σ H s) (r:Vals vs us)
  (h:∀x dx,H x=v4->H dx=v4->dx≠x->sp (.ref x::(vs++dvs)) (upd (upd H dx (.own x)) x (.ins C dx [])) (λv H2=>v=.non/\Q (.ref x) H2) E):
  xS (xL X.prog X.w) X.A (call (.ref C) us) (EP X vv σ Q) X.xe s:=by
 have hq:=h (s.heap.objs.size+1) s.heap.objs.size (I.hok.fresh (qR _)) (I.hok.fresh (zY _)) (z9 (zI _));have I2:=Inv.made (C:=C) I;have r2:Vals (V.ref (s.heap.objs.size+1)::(vs++dvs)) (Value.ref (s.heap.objs.size+1)::(us++ds)):=.cons rfl (r.append hd);have hl:(Value.ref (s.heap.objs.size+1)::us++ds).length=ps.length:=by have e:=r2.length;rw[F.len _ _ _ _ hq]at e;exact e.symm
 refine wpAny_call (ZIL (f:=f) I.kIn M.makes M.init (beq_iff_eq.mp M.fn) (xk (F.run _ X.stack _ _ ⟨Value.ref (s.heap.objs.size+1)::us,[]⟩ (Value.ref (s.heap.objs.size+1)::(us++ds)) _ _ E (hr.make C us [])
  (I2.env0.make C us []) (hb _ (Value.ref (s.heap.objs.size+1)::us) I2.kIn hl) r2 hq) λr s' hq'=>?_))
 cases r with
 |error e=>exact hx vv σ _ _ e s' I2 hq'
 | ok fl=>
  cases fl with
  |ret u=>
   obtain⟨v,H',I3,rv,ev,q3⟩:=I2.after hq';subst ev;exact⟨rv,⟨V.ref (s.heap.objs.size+1),H',I3,rfl,q3⟩⟩
  |next=>exact False.elim hq'
  |brk=>exact False.elim hq'
  |cont=>exact False.elim hq'
theorem ZOr(M:Mk X.K C f)(F:FnOk X.prog X.w X.K X.mg X.base CX k f fd ps sp)(hr:Room (k+1) X.A)(hg:Gl X x)(hm:X.mg x=vk (.ref C))(hb:Binds X.K fd ps ds)(hd:Vals dvs ds)(hx:Passes CX X E)
  (ha:PA X (e::es) t) (hdb:(x==("__debug__":Str))=v6:=by decide) (he:xP (e::es) X.env=(v6,eval e X.env)::xP es X.env:=by rfl) (hpl:(xV pos (xP es X.env)).any (·.1)=v6:=by rfl):
  PE X (.Call (.Name x p) (e::es) [] pos) (ZOl C sp dvs E t):=by
 intro vv s σ H Q I h;refine xT (Js I hg hm ?_ hdb);refine PySem.W.callWith_K (h₀:=X.base) I.ok.mod.kin M.kp (thn (ha pos vv s σ H _ I h) λus s1 ⟨vs,H1,I1,r,q⟩=>⟨I1.kIn,?_⟩) he hpl;exact ZK6 M F hr hb hd hx I1 r q
end
def PK(X:Cx)(kws:List Keyword)(t:TA):Prop:=
 ∀(pos:Pos)(vv:List (jL×Obj))(s:jT)(σ:St)(H:Hp)(Q:List V->Hp->Prop),Inv X vv σ H s->t σ H Q->xS (xL X.prog X.w) X.A (evalAll ((xW pos (xG kws X.env)).map (·.2))) (AP X vv σ Q) X.xe s
section
variable{X:Cx}{CX:CXT}{k:Nat}{f C:jL}{fd:jO}{ps ks:List Str}{sp:Sp}{E:XK}{x m:Str}{p pos apos kpos:Pos}{e o:jN}{es:List jN}{kws:List Keyword}{te ta:TE}{t tk:TA}{nm:Option Str}
theorem ZL8:PK X [] Ow:=λ_ _ _ _ H Q I h=>wpAny_evalAll_nil ⟨[],H,I,.nil,h⟩
theorem ZNu(ha:PE X e te)(hr:PK X kws t):PK X (⟨nm,e,kpos⟩::kws) (R4 te t):=by
 intro pos vv s σ H Q I h
 show xS _ _ (evalAll ((do let v<-eval e X.env;standAt pos;pure v)::(xW pos (xG kws X.env)).map (·.2))) _ _ s
 refine wpAny_evalAll_cons (xU (thn (ha vv s σ H _ I h) λu s1 ⟨x,H1,I1,r1,q1⟩=>xU (wpAny_standAt (vY ?_))));exact thn (hr pos vv s1 σ H1 _ I1 q1) λus s2 ⟨xs,H2,I2,r2,q2⟩=>⟨x::xs,H2,I2,.cons r1 r2,q2⟩
variable{g:List xQ->List xQ->List xQ}{gV:List V->List V->List V}
end
structure FnScope (N P:List Str) (sc:jS):Prop where
 kind:sc.kind=.function
 co:sc.isCoroutine=v6
 gen:sc.isGenerator=v6
 nd:N.Nodup
 pre:N.take P.length=P
 par:∀x∈P,sc.names.lookup x=vk .local∨sc.names.lookup x=vk .cell
 nofree:∀y∈sc.names,y.2≠ .free
theorem ZEG:∀{binds:List (Str×xQ)}{m:Str->Option xQ},(∀v,(x,v)∉binds)->bindL kindOf binds m x=m x
 |[],_,_=>rfl
 | (n,v)::r,m,h=>by
  unfold bindL;rw[ZEG λw hw=>h w (zZ _ hw)];split
  ·have:x≠n:=by rintro rfl;exact h v zW
   simp[this]
  ·rfl
theorem ZHB:∀{binds:List (Str×xQ)}{m:Str->Option xQ},(∀v,(x,v)∉binds)->bindC kindOf binds m x=m x
 |[],_,_=>rfl
 | (n,v)::r,m,h=>by
  unfold bindC;rw[ZHB λw hw=>h w (zZ _ hw)];split
  ·rfl
  ·have:x≠n:=by rintro rfl;exact h v zW
   simp[this]
theorem ZDO{v:xQ}:∀{P:List Str}{vs:List xQ}{i:Nat}{m:Str->Option xQ},P.Nodup->P[i]?=vk x->vs[i]?=vk v->kindOf x=vk .local->
  bindL kindOf (P.zip vs) m x=vk v
 |[],_,_,_,_,h,_,_=>by simp at h
 |_::_,[],_,_,_,_,h,_=>by simp at h
 |p::P,w::vs,0,m,nd,h1,h2,hk=>by simp at h1 h2;subst h1;subst h2;show bindL kindOf ((p,w)::P.zip vs) m p=_;unfold bindL;rw[ZEG λv hv=>(jW.mp nd).1 (List.of_mem_zip hv).1,if_pos hk];simp
 |p::P,w::vs,i+1,m,nd,h1,h2,hk=>by show bindL kindOf ((p,w)::P.zip vs) m x=_;unfold bindL;exact ZDO (i:=i) (jW.mp nd).2 (by simpa using h1) (by simpa using h2) hk
theorem ZDM{v:xQ}:∀{P:List Str}{vs:List xQ}{i:Nat}{m:Str->Option xQ},P.Nodup->P[i]?=vk x->vs[i]?=vk v->kindOf x≠vk .local->
  bindC kindOf (P.zip vs) m x=vk v
 |[],_,_,_,_,h,_,_=>by simp at h
 |_::_,[],_,_,_,_,h,_=>by simp at h
 |p::P,w::vs,0,m,nd,h1,h2,hk=>by simp at h1 h2;subst h1;subst h2;show bindC kindOf ((p,w)::P.zip vs) m p=_;unfold bindC;rw[ZHB λv hv=>(jW.mp nd).1 (List.of_mem_zip hv).1,if_neg hk];simp
 |p::P,w::vs,i+1,m,nd,h1,h2,hk=>by show bindC kindOf ((p,w)::P.zip vs) m x=_;unfold bindC;exact ZDM (i:=i) (jW.mp nd).2 (by simpa using h1) (by simpa using h2) hk
noncomputable def start(N:List Str)(vs:List V):St:=vs.map vk++zw (N.length-vs.length) v4
noncomputable def Fo(CX:CXT)(P:jR)(w:xZ)(K:PySem.W.Frag)(mg:Str->Option xQ)(base:Heap)(N:List Str)(qual:Str)(scope:jS)(f:jL)(cd:xQ)(A:jM)(outer:List Env)(s:jT)(H:Hp)(E:XK):Cx where
 prog:=P
 w:=w
 K:=K
 mg:=mg
 base:=base
 A:=A.deeper (envOfC qual scope s.heap.objs.size f cd)
 N:=N
 s₀:=s
 H₀:=H
 env:=envOfC qual scope s.heap.objs.size f cd
 outer:=outer
 stack:=envOfC qual scope s.heap.objs.size f cd::outer
 ex:=[]
 calm:=v5
 fn:=λ_=>v5
 pn:=[]
 xe:=λe s'=>xS (xL P w) (A.deeper (envOfC qual scope s.heap.objs.size f cd)) (leaving (envOfC qual scope s.heap.objs.size f cd) e) (λ_ s''=>CX outer H s E e s'') (λe' s''=>CX outer H s E e' s'') s'
theorem ZHN{sc:jS}{n:Nat}(h:sc.names.lookup x=vk .cell):∃c,(cellsFrom n sc.names []).lookup x=vk c:=by have q:=PySem.W.cellsFrom_some sc.names n [] (.inl h);exact qH.mp q
theorem ZLw{CX:CXT}{N ps:List Str}{qual:Str}{scope:jS}{f:jL}{cd:xQ}{outer:List Env}{s1:jT}{E:XK} 
  (S:FnScope N ps scope) (hd:A.handled=v4) (e0:Env0 P w K mg base A outer s H) (hl:vs.length=ps.length) (r:Vals vs us)
  (x:InCallC s s.heap.objs.size (bindL (envOfC qual scope s.heap.objs.size f cd).kindOf (ps.zip us) λ_=>v4) (cellsFrom (s.heap.objs.size+1) scope.names []) (bindC (envOfC qual scope s.heap.objs.size f cd).kindOf (ps.zip us) λ_=>v4) s1):
  Inv (Fo CX P w K mg base N qual scope f cd A outer s H E) [] (start N vs) H s1:=by
 have hpl:ps.length<=N.length:=by have:=congrArg List.length S.pre;rw[jx]at this;lia
 obtain⟨h1,tk,rfl,hk⟩:=x.done
 have noA:∀b:jL,b∉(Fo CX P w K mg base N qual scope f cd A outer s H E).ex:=λb z=>absurd (show b∈([]:List jL)from z) (by simp)
 refine⟨⟨e0.mod,S.kind,rfl,rfl,zY _,λy z c h1 h2=>?_,λy hy=>?_,λy c _ h=>?_,λ_=>hd,Around.frames_deeper e0.frames,.inr ⟨rfl,rfl⟩,λb z=>absurd z (noA b),e0.bs,e0.bsz,λb _ _=>noA b,λb z=>absurd z (noA b),e0.funs,e0.frf⟩,
  rfl,e0.bare,Un.kept hk,⟨_,x.toInCall.ns,λi y v h1 h2 h3=>?_⟩,λy c h=>⟨_,x.cell y c h⟩,e0.hok.fresh (zY _),λy c h=>?_,λp hp=>absurd (show p∈([]:List (jL×Obj))from hp) (by simp),e0.hok.kept hk,?_⟩
 ·exact name_of_addr x.apart (PySem.mem_of_lookup h1) (PySem.mem_of_lookup h2)
 ·have hy:scope.names.lookup y=vk .cell∨scope.names.lookup y=vk .free:=hy;rcases hy with hy|hy
  ·exact ZHN hy
  ·exact absurd rfl (S.nofree _ (PySem.mem_of_lookup hy))
 ·exact Nat.le_of_lt (x.above y c (PySem.mem_of_lookup h))
 ·have hi:i<vs.length:=by
   unfold start at h2;by_cases hi:i<vs.length
   ·exact hi
   ·rw[zC (by simpa using hi)]at h2;rw[qM]at h2
    split at h2<;>cases h2
  have ha:vs[i]?=vk v:=by
   unfold start at h2;rw[zL (by simpa using hi),z0]at h2;cases e:vs[i]? with
   |none=>rw[e]at h2;cases h2
   |some a=>rw[e]at h2;cases h2;rfl
  obtain⟨u,hu,rv⟩:=r.get ha;have hp:ps[i]?=vk y:=by rw[<-S.pre,jQ (by lia)];exact h1
  have ndP:ps.Nodup:=by rw[<-S.pre];exact S.nd.sublist (List.take_sublist _ _)
  refine⟨u,rv,?_⟩;rcases S.par y (jC hp)with k|k
  ·exact .inl ⟨k,ZDO ndP hp hu k⟩
  ·obtain⟨c,e⟩:=ZHN (n:=s.heap.objs.size+1) k;refine .inr ⟨.inl k,c,e,?_⟩;have q:=x.cell y c e;rw[ZDM ndP hp hu (by show scope.names.lookup y≠_;rw[k];decide)]at q;exact q
 ·exact e0.hok.fresh (Nat.le_of_lt (x.above y c (PySem.mem_of_lookup h)))
 ·unfold start;show _=N.length;rw[zH,zM,j2];lia
theorem Y4{CX:CXT}{k:Nat}{f:jL}{name qual:Str}{params:Arguments}{scope:jS}{dV kV doc pm cdv ct oc:xQ}{an od:Option jL}
  {osl:Array (Option xQ)} {N ps:List Str} {sp:Sp} (lk:K.lookup f=vk ⟨oc,od,.func (PySem.W.fnOf name qual params body scope dV kV doc pm an cdv ct),osl⟩) (hcd:PySem.W.codeIn K cdv qual=v5) (S:FnScope N ps scope)
  (len:∀vs H Q E,sp vs H Q E->vs.length=ps.length)
  (hbody:∀(A:jM)(outer:List Env)(s:jT)(H:Hp)(vs:List V)(Q:VK)(E:XK),Room k (A.deeper (envOfC qual scope s.heap.objs.size f cdv))->sp vs H Q E->
   ∃t,PSs (Fo CX P w K mg base N qual scope f cdv A outer s H E) body t/\t {nx:=λ_ H'=>Q .non H',rt:=Q} (start N vs) H):
  FnOk P w K mg base CX (k+1) f (PySem.W.fnOf name qual params body scope dV kV doc pm an cdv ct) ps sp:=by
 refine⟨len,λA outer s H args us vs Q E hr e0 hb r hsp=>?_⟩;have hl:=len _ _ _ _ hsp;have KX:K.In s.heap:=e0.mod.kin.keeps λb o e=>(e0.bs b o e).1
 have lim:s.heap.NoLimit:=e0.mod.nolimit.keeps λb o e=>(e0.bs b o e).1
 have hkind:∀y∈ps.zip us,scope.names.lookup y.1=vk .local∨(scope.names.lookup y.1=vk .cell/\((cellsFrom (s.heap.objs.size+1) scope.names []).lookup y.1).isSome=v5):=λ⟨n,v⟩ hy=>by
  rcases S.par n (List.of_mem_zip hy).1 with q|q
  ·exact .inl q
  ·exact .inr ⟨q,PySem.W.cellsFrom_some _ _ _ (.inl q)⟩
 refine codeAny_call_function hr.depth (KX _ _ lk) rfl S.co S.gen rfl (PySem.W.codeRec_of KX hcd) (hb _ _ _ _ ?_);refine wpAny_newFunctionEnv_cells S.kind hkind λenv he s1 x=>?_
 subst he;refine⟨lim.keeps x.toInCall.keep,codeAny_func ?_⟩;obtain⟨t,ht,hq⟩:=hbody A outer s H vs Q E (hr.deeper _) hsp;have I:Inv (Fo CX P w K mg base N qual scope f cdv A outer s H E) [] (start N vs) H s1:=ZLw S hr.hd e0 hl r x;refine vV (ht [] s1 (start N vs) H _ I hq) (λfl s' hs=>?_) λe s' hs=>hs
 have fin:∀{σ':St}{H':Hp}{v:V}{u:xQ},Inv (Fo CX P w K mg base N qual scope f cdv A outer s H E) [] σ' H' s'->RelV v u->Q v H'->CE outer P w H s Q u s':=
  λ{σ' H' v u}J rv q=>⟨v,H',J.os,J.bare,J.base,J.hok,rv,q⟩
 cases fl with
 |ret u=>
  obtain⟨v,σ',H',J,rv,q⟩:=hs;exact fin J rv q
 |next=>
  obtain⟨σ',H',J,q⟩:=hs;exact fin (v:=V.non) (u:=Value.none) J rfl q
 |brk=>
  obtain⟨_,_,_,q⟩:=hs;exact False.elim q
 |cont=>
  obtain⟨_,_,_,q⟩:=hs;exact False.elim q
section
variable{X:Cx}{x:Str}{p pos:Pos}{e:jN}{es:List jN}{t:TA}{id T:String}{r:List V->Hp->VK->Prop}
noncomputable def tCB(r:List V->Hp->VK->Prop)(t:TA):TE:=λσ H Q=>t σ H λvs H1=>r vs H1 Q
theorem ZIh(hc:CallR X (.builtin id) r)(hg:Gl X x)(hm:X.mg x=v4)(hv:xq x=vk (.builtin id))(ha:PA X (e::es) t)(hn:x≠"__name__":=by decide)(hdb:(x==("__debug__":Str))=v6:=by decide)
  (he:xP (e::es) X.env=(v6,eval e X.env)::xP es X.env:=by rfl) (hpl:(xV pos (xP es X.env)).any (·.1)=v6:=by rfl):PE X (.Call (.Name x p) (e::es) [] pos) (tCB r t):=by
 intro vv s σ H Q I h;refine xT (Hc I hg hm hv ?_ hn hdb);exact PyProof.Rows.callWith_builtin1 (thn (ha pos vv s σ H _ I h) λus s1 ⟨vs,H1,I1,r1,q1⟩=>hc vv s1 σ H1 vs us Q I1 r1 q1) he hpl
theorem ZLo(hc:CallR X (.type T) r)(hg:Gl X x)(hm:X.mg x=v4)(hv:xq x=vk (.type T))(ha:PA X (e::es) t)(hn:x≠"__name__":=by decide)(hdb:(x==("__debug__":Str))=v6:=by decide)
  (he:xP (e::es) X.env=(v6,eval e X.env)::xP es X.env:=by rfl) (hpl:(xV pos (xP es X.env)).any (·.1)=v6:=by rfl):PE X (.Call (.Name x p) (e::es) [] pos) (tCB r t):=by
 intro vv s σ H Q I h;refine xT (Hc I hg hm hv ?_ hn hdb);exact PyProof.Rows.callWith_type1 (thn (ha pos vv s σ H _ I h) λus s1 ⟨vs,H1,I1,r1,q1⟩=>hc vv s1 σ H1 vs us Q I1 r1 q1) he hpl
end
end _L
namespace HT
open PySem PyProof.Rows
section
open PySem.SeqAt
open PySem.AutoSeq1 (wpAny_loadPart')
open PySem.MeetsSeq PySem.MeetsSeq2 PySem.MeetsSeq3
end
section
variable{prog:jR}{w:xZ}{A:jM}{E:xQ->jT->Prop}{s:jT}
theorem ZON{t b:jL}{vs ws:List xQ}{Q:xQ->jT->Prop}(ht:IsTup s.heap t vs.toArray)(hb:IsTup s.heap b ws.toArray)(hv:vs≠[])
  (h1:ws=[]->Q (.ref t) s) (h2:ws≠[]->Q (.ref s.heap.objs.size) {s with heap:=s.heap.push {cls:=.type "tuple",data:=.seq (vs++ws).toArray}})
  (hsz:vs.length+ws.length<=sizeLine):xS (xL prog w) A (xY .Add (.ref t) (.ref b)) Q E s:=by
 obtain⟨⟨cls,dd,data,sl⟩,ho,hc,n,hd⟩:=id ht;obtain⟨⟨cls2,dd2,data2,sl2⟩,ho2,hc2,n2,hd2⟩:=id hb;simp only at hc hd hc2 hd2;subst hc hd hc2 hd2;have e:vs.toArray++ws.toArray=(vs++ws).toArray:=by simp
 by_cases hw:ws=[]
 ·exact concat_meets ⟨_,ho,rfl⟩ ⟨_,ho2,rfl⟩ noFill_tuple_add seq_tuple_add PySem.F.slot_tuple_add PySem.F.entry_tuple_add (PySem.F.args_tuple_add_2 _ _)
   (tuple_addW1 t b vs.toArray ws.toArray n n2 dd dd2 sl sl2 (by simpa using hv) (by simp[hw])) ⟨ho,ho2,h1 hw⟩
 ·refine concat_meets ⟨_,ho,rfl⟩ ⟨_,ho2,rfl⟩ noFill_tuple_add seq_tuple_add PySem.F.slot_tuple_add PySem.F.entry_tuple_add (PySem.F.args_tuple_add_2 _ _)
   (tuple_addW2 t b vs.toArray ws.toArray n n2 dd dd2 sl sl2 (by simpa using hv) (by simpa using hw) (by rw[zX,zX];exact hsz)) ⟨ho,ho2,?_⟩
  rw[e];exact h2 hw
noncomputable def sIx(n d:Nat):Option Int->Nat
 |none=>d
 |some v=>if v<0 then(v+(n:Int)).toNat else min v.toNat n
theorem ZEI(n d:Nat)(hd:d<=n)(o:Option Int):sIx n d o<=n:=by
 cases o with
 |none=>exact hd
 |some v=>
  show(if v<0 then(v+(n:Int)).toNat else min v.toNat n)<=n;by_cases hv:v<0
  ·rw[if_pos hv];lia
  ·rw[if_neg hv];exact Nat.min_le_right _ _
theorem ZFf(v:Int)(n d:Nat):(if v<0 then max (v+(n:Int)) 0 else min v (n:Int))=((sIx n d (vk v):Nat):Int):=by
 show(if v<0 then max (v+(n:Int)) 0 else min v (n:Int))=(((if v<0 then(v+(n:Int)).toNat else min v.toNat n):Nat):Int);by_cases hv:v<0
 ·simp only[if_pos hv];lia
 ·simp only[if_neg hv];lia
theorem ZKe(lo hi:Option Int)(n:Nat):Builtin.Slice.sliceAdjust lo hi 1 (n:Int)=(((sIx n 0 lo:Nat):Int),((sIx n n hi:Nat):Int)):=by
 have h1:¬((1:Int)<0):=by lia
 unfold Builtin.Slice.sliceAdjust;simp only[h1,if_false];refine Prod.ext ?_ ?_
 ·cases lo with
  |none=>rfl
  |some v=>exact ZFf v n 0
 ·cases hi with
  |none=>rfl
  |some v=>exact ZFf v n n
theorem ZMq(i j:Nat):Builtin.Slice.slicePlaces (i:Int) (j:Int) 1=j-i:=by
 unfold Builtin.Slice.slicePlaces;have h1:(1:Int)>0:=by lia
 simp only[h1,if_true,Int.ediv_one]
 split <;> lia
theorem ZGW{v:xQ}{o:Option Int}{Q:Option Int->jT->Prop}(p:IsPart v o)(h:Q o s):xS (xL prog w) A (Builtin.Slice.slicePartIndex v) Q E s:=by
 cases p with
 |none=>exact slicePart_none h
 |int i t=>exact slicePart_int h
theorem ZDd{sl:jL}{vl vu:xQ}{lo hi:Option Int}{n:Nat}{Q:Int×Int×Nat->jT->Prop}(hs:s.heap.IsSliceOf sl vl vu .none)(pl:IsPart vl lo)(pu:IsPart vu hi)
  (h:Q (((sIx n 0 lo:Nat):Int),1,sIx n n hi-sIx n 0 lo) s):xS (xL prog w) A (Builtin.Slice.sliceApplied (.ref sl) (pure (n:Int))) Q E s:=by
 obtain⟨os,hos,hcs,hds⟩:=id hs;unfold Builtin.Slice.sliceApplied Builtin.Slice.sliceFields;refine xU (xU (vJ hos hds (x:=vl) rfl (xU (vJ hos hds (x:=vu) rfl (xU (vJ hos hds (x:=.none) rfl (vY ?_)))))));refine xU (slicePart_none ?_);show xS _ _ (if((1:Int)==0)=v5 then _ else _) _ _ s;rw[if_neg (by decide)];refine xU (ZGW pl (xU (ZGW pu (xU (vY ?_)))))
 show xS _ _ (match Builtin.Slice.sliceAdjust lo hi 1 (n:Int)with |(lo,hi)=>pure (lo,(1:Int),Builtin.Slice.slicePlaces lo hi 1)) _ _ s
 rw[ZKe lo hi n];show xS _ _ (pure (((sIx n 0 lo:Nat):Int),(1:Int),Builtin.Slice.slicePlaces ((sIx n 0 lo:Nat):Int) ((sIx n n hi:Nat):Int) 1)) _ _ s;rw[ZMq];exact vY h
theorem ZIH(xs:Array xQ)(i k:Nat):((zq k).filterMap λ(m:Nat)=>xs[((i:Int)+(m:Int)*1).toNat]?).toArray=((xs.toList.drop i).take k).toArray:=by
 have e:(λ(m:Nat)=>xs[((i:Int)+(m:Int)*1).toNat]?)=λm=>xs[i+m]? :=by
  funext m;have:((i:Int)+(m:Int)*1).toNat=i+m:=by lia
  rw[this]
 rw[e];have:=pick_run xs i k;rw[qP]at this;have e2:((λx=>xs[x]?) ∘ λx=>i+x)=λm=>xs[i+m]? :=rfl
 rw[e2]at this;rw[this]
theorem ZL9{t sl:jL}{items:Array xQ}{vl vu:xQ}{lo hi:Option Int}{Q:xQ->jT->Prop}(ht:IsTup s.heap t items)(hs:s.heap.IsSliceOf sl vl vu .none)(pl:IsPart vl lo)(pu:IsPart vu hi)
  (hw:¬(sIx items.size 0 lo=0/\sIx items.size items.size hi=items.size))
  (h:Q (.ref s.heap.objs.size) {s with heap:=s.heap.push {cls:=.type "tuple",data:=.seq ((items.toList.drop (sIx items.size 0 lo)).take (sIx items.size items.size hi-sIx items.size 0 lo)).toArray}})
  (hsz:items.size<=sizeLine):xS (xL prog w) A (getItem (.ref t) (.ref sl)) Q E s:=by
 have htake:sizeOk (.seq ((items.toList.drop (sIx items.size 0 lo)).take (sIx items.size items.size hi-sIx items.size 0 lo)).toArray):=by show((items.toList.drop (sIx items.size 0 lo)).take (sIx items.size items.size hi-sIx items.size 0 lo)).toArray.size<=sizeLine;rw[zX,jx,j3,qq];lia
 have hj:sIx items.size items.size hi<=items.size:=ZEI _ _ (zY _) hi;obtain⟨os,hos,hcs,hds⟩:=id hs;have hTs:s.TypeIs (.ref sl) "slice":=⟨os,hos,hcs⟩;unfold getItem
 try with_reducible refine vX ?_
 first|refine xU (vY ?_)|skip
 refine xU (wpAny_sequenceKey ht.typeIs (by decide) ?_);refine xU (vQ (name:=Str.ofString "__getitem__") ht.typeIs PyProof.Rows.slot_tuple_getitem
  (vZ PyProof.Rows.slot_tuple_getitem ht.typeIs entry_tuple_getitem ?_ (args_tuple_getitem _ _)))
 show xS _ _ (Builtin.Tuple.tupleItemsOf (.ref t) >>=_) _ _ s;refine xU (tupleItemsOf_ ht ?_);refine xU (wpAny_typeOf hTs ?_);rw[if_pos (by decide)];refine xU (ZDd hs pl pu ?_);have hno:¬((((sIx items.size 0 lo:Nat):Int)==0&&(1:Int)==1&&(sIx items.size items.size hi-sIx items.size 0 lo)==items.size)=v5):=by intro q;rw[z5,z5]at q;have q1:((sIx items.size 0 lo:Nat):Int)=0:=eq_of_beq q.1.1;have q2:sIx items.size items.size hi-sIx items.size 0 lo=items.size:=eq_of_beq q.2;exact hw ⟨by lia,by lia⟩
 show xS _ _ (if(((sIx items.size 0 lo:Nat):Int)==0&&(1:Int)==1&&(sIx items.size items.size hi-sIx items.size 0 lo)==items.size)=v5 then _ else _) _ _ s;rw[if_neg hno,ZIH]
 first
  |exact xU (m:=Builtin.Tuple.tupleExact _) (vW (vY ⟨_,rfl,vY h⟩) htake)
  |exact xU (m:=Builtin.Tuple.tupleExact _) (vW (xU (vY (vY ⟨_,rfl,vY h⟩))) htake)
  |exact xU (xU (m:=Builtin.Tuple.tupleExact _) (vW (vY (vY ⟨_,rfl,vY h⟩)) htake))
  |exact xU (xU (m:=Builtin.Tuple.tupleExact _) (vW (vY ⟨_,rfl,vY h⟩) htake))
end
end HT
namespace _L
open PySem PySem.Spec PyProof.Rows
variable{xs:List V}{vv:List (jL×Obj)}{σ:St}{H:Hp}{s:jT}{its:List xQ}
noncomputable abbrev TO:=St->Hp->(Option Int->Hp->Prop)->Prop
def PO(X:Cx)(e:Option jN)(t:TO):Prop:=
 ∀(vv:List (jL×Obj))(s:jT)(σ:St)(H:Hp)(Q:Option Int->Hp->Prop),Inv X vv σ H s->t σ H Q->
  xS (xL X.prog X.w) X.A (evalPart e X.env) (λu s'=>∃o H',Inv X vv σ H' s'/\IsPart u o/\Q o H') X.xe s
noncomputable def ZJG:TO:=λ_ H Q=>Q v4 H
noncomputable def ZPJ(t:TE):TO:=λσ H Q=>t σ H λx H1=>∃i,x=.int i/\Q (vk i) H1
section
variable{X:Cx}{e:jN}{te:TE}{lo hi:Option jN}{tl th:TO}{pos p2:Pos}
theorem ZJx:PO X v4 ZJG:=by intro vv s σ H Q I h;rw[evalPart_none];exact vY ⟨v4,H,I,.none,h⟩
theorem ZM6(h:PE X e te):PO X (vk e) (ZPJ te):=by
 intro vv s σ H Q I hw;rw[evalPart_some];refine thn (h vv s σ H _ I hw) λu s1 ⟨x,H1,I1,r1,q1⟩=>?_
 obtain⟨i,rfl,q⟩:=q1;obtain⟨t,rfl⟩:=r1;exact⟨vk i,H1,I1,.int i t,q⟩
def SlR(X:Cx)(r:V->Option Int->Option Int->Hp->VK->Prop):Prop:=
 ∀(vv:List (jL×Obj))(s:jT)(σ:St)(H:Hp)(x:V)(v vl vu:xQ)(lo hi:Option Int)(sl:jL)(Q:VK),Inv X vv σ H s->RelV x v->s.heap.IsSliceOf sl vl vu .none->IsPart vl lo->IsPart vu hi->r x lo hi H Q->
  ∃T id,typeLookup (.type T) "__getitem__"=pure (vk (.builtin id))/\s.TypeIs v T/\xS (xL X.prog X.w) X.A (getItem v (.ref sl)) (EP X vv σ Q) X.xe s
theorem SlR.or{r r':V->Option Int->Option Int->Hp->VK->Prop}(h:SlR X r)(h':SlR X r'):SlR X (λx lo hi H Q=>r x lo hi H Q∨r' x lo hi H Q):=by
 intro vv s σ H x v vl vu lo hi sl Q I rx hs pl pu q;rcases q with q|q
 ·exact h vv s σ H x v vl vu lo hi sl Q I rx hs pl pu q
 ·exact h' vv s σ H x v vl vu lo hi sl Q I rx hs pl pu q
noncomputable def tSl(r:V->Option Int->Option Int->Hp->VK->Prop)(te:TE)(tl th:TO):TE:=λσ H Q=>te σ H λx H1=>tl σ H1 λl H2=>th σ H2 λu H3=>r x l u H3 Q
theorem ZNL{r:V->Option Int->Option Int->Hp->VK->Prop}(hr:SlR X r)(he:PE X e te)(hl:PO X lo tl)(hu:PO X hi th):PE X (.Subscript e (.Slice lo hi v4 p2) pos) (tSl r te tl th):=by
 intro vv s σ H Q I h;refine Subscript_ (thn (he vv s σ H _ I h) λv s1 ⟨x,H1,I1,r1,q1⟩=>?_);refine wpAny_Slice (thn (hl vv s1 σ H1 _ I1 q1) λvl s2 ⟨l,H2,I2,pl,q2⟩=>thn (hu vv s2 σ H2 _ I2 q2) λvu s3 ⟨u,H3,I3,pu,q3⟩=>?_);rw[evalPart_none];refine vY ?_;have I4:Inv X vv σ H3 {s3 with heap:=s3.heap.push {cls:=.type "slice",data:=.fields #[vl,vu,.none]}}:=I3.kept (t':=s3.toks) λb ob q=>zQ _ q
 obtain⟨T,id,hT,ht,hg⟩:=hr vv {s3 with heap:=s3.heap.push {cls:=.type "slice",data:=.fields #[vl,vu,.none]}} σ H3 x v vl vu l u s3.heap.objs.size Q I4 r1 (Heap.IsSliceOf.new ..) pl pu q3;show xS (xL X.prog X.w) X.A (subscriptTail e (.Slice lo hi v4 p2) v (.ref s3.heap.objs.size)) (EP X vv σ Q) X.xe {s3 with heap:=s3.heap.push {cls:=.type "slice",data:=.fields #[vl,vu,.none]}}
 exact tail_any (ops:=[.ref s3.heap.objs.size,v]) ht hT hg (by with_unfolding_all rfl)
def J9(xs:List V)(lo hi:Option Int):List V:=(xs.drop (HT.sIx xs.length 0 lo)).take (HT.sIx xs.length xs.length hi-HT.sIx xs.length 0 lo)
theorem ZFE(xs:List V)(lo hi:Option Int):(J9 xs lo hi).length<=xs.length:=by unfold J9;rw[jx,j3];lia
def rSlT(K:PySem.W.Frag):V->Option Int->Option Int->Hp->VK->Prop:=λx lo hi H Q=>∃a xs,x=.ref a/\SqT K H a xs/\
 ¬(HT.sIx xs.length 0 lo=0/\HT.sIx xs.length xs.length hi=xs.length)/\∀p,H p=v4->Q (.ref p) (upd H p (.tup (J9 xs lo hi)))
theorem ZQL:SlR X (rSlT X.K):=by
 intro vv s σ H x v vl vu lo hi sl Q I rx hs pl pu h;obtain⟨a,xs,rfl,hx,hw,q⟩:=h;cases rx;obtain⟨its,r,ht,hz⟩:=I.tuple hx;have hlen:its.toArray.size=xs.length:=by rw[zX];exact r.length.symm
 refine⟨"tuple",_,PyProof.Rows.slot_tuple_getitem.lookup,ht.typeIs,?_⟩;refine HT.ZL9 ht hs pl pu (by rw[hlen];exact hw) ?_ (by rw[hlen];exact hz);rw[hlen];refine⟨.ref s.heap.objs.size,_,I.laid (t':=s.toks) (o:=.tup (J9 xs lo hi)) (λb ob q=>zQ _ q) (zY _) ?_,rfl,q _ (I.hok.fresh (zY _))⟩;exact⟨z8 (ZFE xs lo hi) hz,_,(r.drop (HT.sIx xs.length 0 lo)).take (HT.sIx xs.length xs.length hi-HT.sIx xs.length 0 lo),IsTup.new _ _⟩
def ZDL(K:PySem.W.Frag):R2:=λx y H Q=>∃a b xs ys,x=.ref a/\y=.ref b/\SqT K H a xs/\SqT K H b ys/\xs≠[]/\xs.length+ys.length<=sizeLine/\
 (ys=[]->Q (.ref a) H)/\(ys≠[]->∀p,H p=v4->Q (.ref p) (upd H p (.tup (xs++ys))))
theorem Vals.ZAf{us:List xQ}(r:Vals xs us):us=[]↔xs=[]:=by
 cases r with
 |nil=>simp
 |cons _ _=>simp
theorem ZKK:OpR X (xY .Add) (ZDL X.K):=by
 intro vv s σ H x y v u Q I rx ry h;obtain⟨a,b,xs,ys,rfl,rfl,ha,hb,hx,hz,q1,q2⟩:=h;cases rx;cases ry;obtain⟨its,r1,p1,_⟩:=I.tuple ha;obtain⟨its2,r2,p2,_⟩:=I.tuple hb;refine HT.ZON p1 p2 (λz=>hx (r1.ZAf.mp z)) (λz=>⟨.ref a,H,I,rfl,q1 (r2.ZAf.mp z)⟩) (λz=>?_) (by rw[<-r1.length,<-r2.length];exact hz);refine⟨.ref s.heap.objs.size,_,I.laid (t':=s.toks) (o:=.tup (xs++ys)) (λb ob q=>zQ _ q) (zY _) ?_,rfl,q2 (λw=>z (r2.ZAf.mpr w)) _ (I.hok.fresh (zY _))⟩
 exact⟨by rw[zH];exact hz,_,r1.append r2,IsTup.new _ _⟩
end
noncomputable def ixN(n:Nat)(i:Int):Option Nat:=if 0<=i then(if i<n then vk i.toNat else v4)else if -(n:Int)<=i then vk (i+n).toNat else v4
def atI{α:Type}(xs:List α)(i:Int):Option α:=(ixN xs.length i).bind λj=>xs[j]?
theorem ZCR{n:Nat}{i:Int}{j:Nat}(h:ixN n i=vk j):seqIndex? i n=vk j/\j<n/\ -(n:Int)<=i/\i<n:=by
 unfold ixN at h;by_cases h0:0<=i
 ·rw[if_pos h0]at h;by_cases h1:i<n
  ·rw[if_pos h1]at h;have e:i.toNat=j:=Option.some.inj h;exact⟨by rw[seqIndex_of h0 h1,e],by lia,by lia,h1⟩
  ·rw[if_neg h1]at h;cases h
 ·rw[if_neg h0]at h;by_cases h1: -(n:Int)<=i
  ·rw[if_pos h1]at h;have e:(i+n).toNat=j:=Option.some.inj h;exact⟨by rw[seqIndex_neg (by lia) h1,e],by lia,h1,by lia⟩
  ·rw[if_neg h1]at h;cases h
theorem Su{α:Type}{xs:List α}{i:Int}{v:α}(h:atI xs i=vk v):∃j,seqIndex? i xs.length=vk j/\xs[j]?=vk v/\j<xs.length/\ -(xs.length:Int)<=i/\i<xs.length:=by
 unfold atI at h;cases e:ixN xs.length i with
 |none=>rw[e]at h;cases h
 |some j=>
  rw[e]at h;obtain⟨h1,h2,h3,h4⟩:=ZCR e;exact⟨j,h1,h,h2,h3,h4⟩
def PlainIx(b:jN):Prop:=∀o i,subscripted b v6 o i=operate [o,i] (getItem o i)
def IxR(X:Cx)(r:R2):Prop:=
 ∀(value slice:jN)(vv:List (jL×Obj))(s:jT)(σ:St)(H:Hp)(x y:V)(v u:xQ)(Q:VK),Inv X vv σ H s->RelV x v->RelV y u->r x y H Q->
  subscripted slice v6 v u=operate [v,u] (getItem v u)->xS (xL X.prog X.w) X.A (subscriptTail value slice v u) (EP X vv σ Q) X.xe s
def MtR(X:Cx)(id:String)(r:V->List V->Hp->VK->Prop):Prop:=
 ∀(vv:List (jL×Obj))(s:jT)(σ:St)(H:Hp)(x:V)(xs:List V)(v:xQ)(us:List xQ)(Q:VK),Inv X vv σ H s->RelV x v->Vals xs us->r x xs H Q->
  xS (xL X.prog X.w) X.A (call (.builtin id) (v::us)) (EP X vv σ Q) X.xe s
section
variable{X:Cx}{a b:jN}{ta tb:TE}{pos:Pos}
theorem IxR.or{r r':R2}(h:IxR X r)(h':IxR X r'):IxR X (λx y H Q=>r x y H Q∨r' x y H Q):=by
 intro value slice vv s σ H x y v u Q I rx ry q hs;rcases q with q|q
 ·exact h value slice vv s σ H x y v u Q I rx ry q hs
 ·exact h' value slice vv s σ H x y v u Q I rx ry q hs
theorem ZFQ{r:R2}(hr:IxR X r)(ha:PE X a ta)(hb:PE X b tb)(hs:PlainIx b):PE X (.Subscript a b pos) (tOp r ta tb):=by intro vv s σ H Q I h;exact Subscript_ (ZBc ha hb I h λv u s2 x y H2 I2 rx ry q=>hr a b vv s2 σ H2 x y v u Q I2 rx ry q (hs _ _))
def rIxL(K:PySem.W.Frag):R2:=λx y H Q=>∃p xs i v,x=.ref p/\y=.int i/\SqL K H p xs/\atI xs i=vk v/\Q v H
def rIxT(K:PySem.W.Frag):R2:=λx y H Q=>∃p xs i v,x=.ref p/\y=.int i/\SqT K H p xs/\atI xs i=vk v/\Q v H
def rIxS:R2:=λx y H Q=>∃z i c,x=.str z/\y=.int i/\z.length<=sizeLine/\atI z.cps.toList i=vk c/\Q (.str ⟨#[c]⟩) H
theorem ZLq:IxR X (rIxL X.K):=by
 intro value slice vv s σ H x y v u Q I rx ry h hs;obtain⟨p,xs,i,z,rfl,rfl,hq,he,q⟩:=h;cases rx;obtain⟨t,rfl⟩:=ry;obtain⟨its,r,pl,hz⟩:=I.list hq;obtain⟨j,h1,h2,h3,h4,h5⟩:=Su he;obtain⟨w,ew,rw'⟩:=r.get h2;have hl:=r.length;have hn:=line63;have fin:EP X vv σ Q w s:=⟨z,H,I,rw',q⟩;by_cases h0:0<=i
 ·have hj:i.toNat=j:=by rw[seqIndex_of h0 h5]at h1;exact Option.some.inj h1
  exact item_listR pl.isList h0 (by lia) (by rw[hj];simpa using ew) fin hs
 ·have hj:(i+(its.toArray.size:Int)).toNat=j:=by rw[seqIndex_neg (by lia) h4]at h1;rw[zX,<-hl];exact Option.some.inj h1
  exact subscriptTail_builtinR (x:=w) pl.isList.typeIs slot_list_getitem.lookup
   (wpAny_getItem_list_neg (Q:=λr s'=>r=w/\EP X vv σ Q r s') pl.isList (by lia) (by rw[zX]<;>lia) (by lia) (by rw[hj];simpa using ew) ⟨rfl,fin⟩) hs
theorem ZP5:IxR X (rIxT X.K):=by
 intro value slice vv s σ H x y v u Q I rx ry h hs;obtain⟨p,xs,i,z,rfl,rfl,hq,he,q⟩:=h;cases rx;obtain⟨t,rfl⟩:=ry;obtain⟨its,r,pl,hz⟩:=I.tuple hq;obtain⟨j,h1,h2,h3,h4,h5⟩:=Su he;obtain⟨w,ew,rw'⟩:=r.get h2;have hl:=r.length;have hn:=line63;have fin:EP X vv σ Q w s:=⟨z,H,I,rw',q⟩;exact subscriptTail_builtinR (x:=w) pl.typeIs slot_tuple_getitem.lookup
  (getItem_tuple (j:=j) (Q:=λr s'=>r=w/\EP X vv σ Q r s') pl (by lia) (by lia) (by rw[zX,<-hl];exact h1) (by simpa using ew) ⟨rfl,fin⟩) hs
theorem ZOg:IxR X rIxS:=by
 intro value slice vv s σ H x y v u Q I rx ry h hs;obtain⟨z,i,c,rfl,rfl,hz,he,q⟩:=h;obtain⟨t,rfl⟩:=rx;obtain⟨t',rfl⟩:=ry;obtain⟨j,h1,h2,h3,h4,h5⟩:=Su he;have hl:z.cps.toList.length=z.length:=by simp[Str.length]
 rw[hl]at h1 h4 h5;have hn:=line63;exact tail_any (typeIs_str s z t) slot_str_getitem.lookup (getItem_str (c:=c) (by have e1:decide (i < -(2^63:Int))=v6:=decide_eq_false (by lia);have e2:decide (i ≥ 2^63)=v6:=decide_eq_false (by lia);rw[e1,e2,Bool.or_false]) (by rw[h1];simpa using h2) ⟨.str ⟨#[c]⟩,H,I.tok _,⟨_,rfl⟩,q⟩) hs
def rIx(K:PySem.W.Frag):R2:=λx y H Q=>rIxL K x y H Q∨rIxT K x y H Q∨rIxS x y H Q
theorem ZNH:IxR X (rIx X.K):=ZLq.or (ZP5.or ZOg)
theorem ZPW(its:List xQ)(n j:Nat)(u:xQ):Obj.mapSeq (·.setIfInBounds j u) {cls:=.type "list",data:=.seq its.toArray n}={cls:=.type "list",data:=.seq (its.set j u).toArray n}:=by simp[Obj.mapSeq]
theorem Inv.lst{p:jL}(I:Inv X vv σ H s)(h:H p=vk (.lst xs)):
  ∃(its:List xQ)(n:Nat),Vals xs its/\s.heap.get? p=vk {cls:=.type "list",data:=.seq its.toArray n}/\xs.length<=sizeLine:=by
 obtain⟨z,its,n,r,e⟩:=I.hok p _ h;exact⟨its,n,r,e,z⟩
theorem Inv.ZPt{p:jL}{ys:List V}{its':List xQ}{n n':Nat}{f:Obj->Obj}(I:Inv X vv σ H s)(h:H p=vk (.lst xs))
  (ho:s.heap.get? p=vk {cls:=.type "list",data:=.seq its.toArray n}) (hf:f {cls:=.type "list",data:=.seq its.toArray n}={cls:=.type "list",data:=.seq its'.toArray n'}) (r:Vals ys its') (hz:ys.length<=sizeLine) (t:Nat):
  Inv X vv σ (upd H p (.lst ys)) {s with heap:=s.heap.update p f,toks:=t}:=by
 have e:(s.heap.update p f).get? p=vk {cls:=.type "list",data:=.seq its'.toArray n'}:=by rw[qX f ho (by rw[hf]<;>rfl),hf]
 refine I.write (x:=p) (e:=p) (by rw[h];trivial) (.inl rfl) (λb u hb q=>(qW _ _ (Ne.symm hb)).trans q) ⟨_,e⟩ ?_;exact⟨hz,its',n',r,e⟩
def ZJz:V->V->V->Hp->(Hp->Prop)->Prop:=λo i v H Q=>∃p xs k j,o=.ref p/\i=.int k/\H p=vk (.lst xs)/\ixN xs.length k=vk j/\Q (upd H p (.lst (xs.set j v)))
theorem set_list:PSet X ZJz:=by
 intro vv s σ H o i v ov iv u Q I ro ri rv h;obtain⟨p,xs,k,j,rfl,rfl,hp,hj,q⟩:=h;cases ro;obtain⟨t,rfl⟩:=ri;obtain⟨its,n,r,ho,hz⟩:=I.lst hp;obtain⟨h1,h2,h3,h4⟩:=ZCR hj;have hl:=r.length;have hn:=line63
 have I':Inv X vv σ (upd H p (.lst (xs.set j v))) {s with heap:=s.heap.update p (Obj.mapSeq (·.setIfInBounds j u))}:=
  I.ZPt hp ho (ZPW its n j u) (r.set rv j) (by rw[qT];exact hz) s.toks
 by_cases h0:0<=k
 ·have hk:k.toNat=j:=by rw[seqIndex_of h0 h4]at h1;exact Option.some.inj h1
  exact PySem.W.ki_setAt ho h0 (by lia) (by rw[zX,<-hl];exact h4) (by rw[hk];exact⟨_,I',q⟩)
 ·have hk:(k+(its.toArray.size:Int)).toNat=j:=by rw[seqIndex_neg (by lia) h3]at h1;rw[zX,<-hl];exact Option.some.inj h1
  exact PySem.W.ki_setBack ho (by lia) (by rw[zX,<-hl];exact h3) (by lia) (by rw[hk];exact⟨_,I',q⟩)
theorem ZLs(lo hi:Option Int)(n:Nat):(xO lo hi v4 n).1=((HT.sIx n 0 lo:Nat):Int)/\(xO lo hi v4 n).2.1=((HT.sIx n n hi:Nat):Int)/\(xO lo hi v4 n).2.2=1:=by
 refine⟨?_,?_,rfl⟩
 ·cases lo with
  |none=>simp[xO,HT.sIx]
  |some i=>
   simp only[xO,HT.sIx,Option.getD_none,show(1:Int)>0 by decide,if_true];by_cases h:i<0
   ·simp only[h,if_true]<;>lia
   ·simp only[h,if_false]<;>lia
 ·cases hi with
  |none=>simp[xO,HT.sIx]
  |some i=>
   simp only[xO,HT.sIx,Option.getD_none,show(1:Int)>0 by decide,if_true];by_cases h:i<0
   ·simp only[h,if_true]<;>lia
   ·simp only[h,if_false]<;>lia
theorem ZH3(its:List xQ)(lo hi:Option Int):slicePick its.toArray lo hi v4=((its.drop (HT.sIx its.length 0 lo)).take (HT.sIx its.length its.length hi-HT.sIx its.length 0 lo)).toArray:=by
 obtain⟨h1,h2,h3⟩:=ZLs lo hi its.toArray.size;unfold slicePick;rw[h1,h2,h3]
 simp only[sliceRange_one,pick_run,zX]<;>rfl
def rSlL(K:PySem.W.Frag):V->Option Int->Option Int->Hp->VK->Prop:=λx lo hi H Q=>∃a xs,x=.ref a/\SqL K H a xs/\∀p,H p=v4->Q (.ref p) (upd H p (.lst (J9 xs lo hi)))
theorem ZNd:SlR X (rSlL X.K):=by
 intro vv s σ H x v vl vu lo hi sl Q I rx hs pl pu h;obtain⟨a,xs,rfl,hx,q⟩:=h;cases rx;obtain⟨its,r,ht,hz⟩:=I.list hx;have hlen:=r.length;refine⟨"list",_,slot_list_getitem.lookup,ht.isList.typeIs,?_⟩
 refine wpAny_getItem_list_slice ht.isList hs pl pu .none (by simp) ?_ (by rw[zX]<;>lia)
 rw[ZH3,<-hlen];refine⟨.ref s.heap.objs.size,_,I.laid (t':=s.toks) (o:=.lst (J9 xs lo hi)) (λb ob q=>zQ _ q) (zY _) ?_,rfl,q _ (I.hok.fresh (zY _))⟩;exact⟨z8 (ZFE xs lo hi) hz,_,0,(r.drop (HT.sIx xs.length 0 lo)).take (HT.sIx xs.length xs.length hi-HT.sIx xs.length 0 lo),zy _ rfl⟩
noncomputable def Cm:V->Bool
 |.non=>v5
 |.bl _=>v5
 |.int _=>v5
 |.str _=>v5
 |_=>v6
noncomputable def eqV:V->V->Bool
 |.non,.non=>v5
 |.bl a,.bl b=>a==b
 |.bl a,.int b=>(if a then 1 else 0)==b
 |.int a,.bl b=>a==(if b then 1 else 0)
 |.int a,.int b=>a==b
 |.str a,.str b=>a==b
 |_,_=>v6
theorem ZDa{A:jM}{y x:V}{u v:xQ}(ry:RelV y u)(rx:RelV x v)(fy:Cm y=v5)(fx:Cm x=v5):SeqAt.EqAt A s u v (eqV y x):=by
 cases y with
 |non=>
  cases ry;cases x with
  |non=>cases rx;exact SeqAt.EqAt.same _
  |bl b=>cases rx;exact SeqAt.EqAt.none_bool b
  |int b=>obtain⟨t,rfl⟩:=rx;exact SeqAt.EqAt.none_int b t
  |str b=>obtain⟨t,rfl⟩:=rx;exact SeqAt.EqAt.none_str b t
  |_=>exact absurd (show v6=v5 from fx) zx
 |bl a=>
  cases ry;cases x with
  |non=>cases rx;exact SeqAt.EqAt.bool_none a
  |bl b=>cases rx;exact SeqAt.EqAt.bool_bool a b
  |int b=>obtain⟨t,rfl⟩:=rx;exact SeqAt.EqAt.bool_int a b t
  |str b=>obtain⟨t,rfl⟩:=rx;exact SeqAt.EqAt.bool_str a b t
  |_=>exact absurd (show v6=v5 from fx) zx
 |int a=>
  obtain⟨t',rfl⟩:=ry;cases x with
  |non=>cases rx;exact SeqAt.EqAt.int_none a t'
  |bl b=>cases rx;exact SeqAt.EqAt.int_bool a t' b
  |int b=>obtain⟨t,rfl⟩:=rx;exact SeqAt.EqAt.int_int a t' b t
  |str b=>obtain⟨t,rfl⟩:=rx;exact SeqAt.EqAt.int_str a t' b t
  |_=>exact absurd (show v6=v5 from fx) zx
 |str a=>
  obtain⟨t',rfl⟩:=ry;cases x with
  |non=>cases rx;exact SeqAt.EqAt.str_none a t'
  |bl b=>cases rx;exact SeqAt.EqAt.str_bool a t' b
  |int b=>obtain⟨t,rfl⟩:=rx;exact SeqAt.EqAt.str_int a t' b t
  |str b=>obtain⟨t,rfl⟩:=rx;exact SeqAt.EqAt.str_str a t' b t
  |_=>exact absurd (show v6=v5 from fx) zx
 |_=>exact absurd (show v6=v5 from fy) zx
def eqU(x:V)(u:xQ):Bool:=match u with
 |.none=>eqV .non x
 |.bool b=>eqV (.bl b) x
 |.int i _=>eqV (.int i) x
 |.str z _=>eqV (.str z) x
 |_=>v6
theorem ZFc{x y:V}{u:xQ}(r:RelV y u)(f:Cm y=v5):eqU x u=eqV y x:=by
 cases y with
 |non=>cases r;rfl
 |bl b=>cases r;rfl
 |int i=>obtain⟨t,rfl⟩:=r;rfl
 |str z=>obtain⟨t,rfl⟩:=r;rfl
 |_=>exact absurd (show v6=v5 from f) zx
theorem Zx{x:V}:∀{xs:List V}{us:List xQ},Vals xs us->xs.all Cm=v5->us.any (eqU x)=xs.any λy=>eqV y x
 |_,_,.nil,_=>rfl
 |y::xs,u::us,.cons r t,f=>by rw[qy,z5]at f;rw[jK,jK,ZFc r f.1,Zx t f.2]
theorem ZA5{A:jM}{x:V}{v:xQ}(rx:RelV x v)(fx:Cm x=v5):∀{xs:List V}{us:List xQ},Vals xs us->xs.all Cm=v5->∀u∈us,SeqAt.EqAt A s u v (eqU x u)
 |_,_,.nil,_=>λu hu=>by cases hu
 |y::xs,u::us,.cons r t,f=>λu' hu=>by
  rw[qy,z5]at f;rcases zj.mp hu with rfl|hu
  ·rw[ZFc r f.1];exact ZDa r rx f.1 fx
  ·exact ZA5 rx fx t f.2 u' hu
def inV(x:V)(xs:List V):Bool:=xs.any λy=>eqV y x
def rIn(K:PySem.W.Frag)(neg:Bool):R2:=λx y H Q=>∃p xs,y=.ref p/\(SqL K H p xs∨SqT K H p xs)/\Cm x=v5/\xs.all Cm=v5/\Q (.bl (if neg then !inV x xs else inV x xs)) H
theorem ZMA:OpR X (xy .NotIn) (rIn X.K v5):=by
 intro vv s σ H x y v u Q I rx ry h;obtain⟨p,xs,rfl,hq,fx,fs,q⟩:=h;cases ry;rcases hq with hq|hq
 ·obtain⟨its,r,pl,hz⟩:=I.list hq;refine SeqAt.notIn_listAt (eqU x) pl.isList (λw hw=>ZA5 rx fx r fs w (by simpa using hw)) ⟨.bl _,H,I,rfl,?_⟩;rw[show its.toArray.any (eqU x)=its.any (eqU x) by simp,Zx r fs];exact q
 ·obtain⟨its,r,pl,hz⟩:=I.tuple hq;refine SeqAt.notIn_tupleAt (eqU x) pl (λw hw=>ZA5 rx fx r fs w (by simpa using hw)) ⟨.bl _,H,I,rfl,?_⟩;rw[show its.toArray.any (eqU x)=its.any (eqU x) by simp,Zx r fs];exact q
theorem ZNm:CallR X (.builtin "len") (λxs H Q=>∃p ys,xs=[.ref p]/\(SqL X.K H p ys∨SqT X.K H p ys)/\Q (.int ys.length) H):=by
 intro vv s σ H xs us Q I r h;obtain⟨p,ys,rfl,hq,q⟩:=h;obtain⟨u,rfl,rx⟩:=vals1 r;cases rx;have hn:=line63;rcases hq with hq|hq
 ·obtain⟨its,r',pl,hz⟩:=I.list hq;have hlen:=r'.length
  exact Calls.call_len_list pl.isList (by simp only[zX]<;>lia) ⟨.int ys.length,H,I.tok _,⟨s.toks+1,by rw[zX,hlen]⟩,q⟩
 ·obtain⟨its,r',pl,hz⟩:=I.tuple hq;have hlen:=r'.length
  exact len_tuple pl (by simp only[zX]<;>lia) ⟨.int ys.length,H,I.tok _,⟨s.toks+1,by rw[zX,hlen]⟩,q⟩
theorem ZIj:CallR X (.builtin "len") (λxs H Q=>∃z,xs=[.str z]/\z.length<=sizeLine/\Q (.int z.length) H):=by intro vv s σ H xs us Q I r h;obtain⟨z,rfl,hz,q⟩:=h;obtain⟨u,rfl,t,rfl⟩:=vals1 r;have hn:=line63;exact len_str (by lia) ⟨.int z.length,H,I.tok _,⟨_,rfl⟩,q⟩
theorem CallR.or{f:xQ}{r r':List V->Hp->VK->Prop}(h:CallR X f r)(h':CallR X f r'):CallR X f (λxs H Q=>r xs H Q∨r' xs H Q):=by
 intro vv s σ H xs us Q I rs q;rcases q with q|q
 ·exact h vv s σ H xs us Q I rs q
 ·exact h' vv s σ H xs us Q I rs q
theorem ZLF:CallR X (.type "list") (λxs H Q=>∃p ys,xs=[.ref p]/\(SqL X.K H p ys∨SqT X.K H p ys)/\∀l,H l=v4->Q (.ref l) (upd H l (.lst ys))):=by
 intro vv s σ H xs us Q I r h;obtain⟨p,ys,rfl,hq,q⟩:=h;obtain⟨u,rfl,rx⟩:=vals1 r;cases rx;have fin:∀(its:List xQ),Vals ys its->ys.length<=sizeLine->∀(h':Heap)(c':Nat),(∀b o',s.heap.get? b=vk o'->h'.get? b=vk o')->
   h'.get? s.heap.objs.size=vk {cls:=.type "list",dict:=v4,data:=.seq its.toArray c',slots:= #[]}->EP X vv σ Q (.ref s.heap.objs.size) {s with heap:=h'}:=λits r' hz h' c' kp e=>
  ⟨.ref s.heap.objs.size,_,I.laid (t':=s.toks) kp (zY _) (show ObjOk X.prog X.w _ h' _ (.lst ys)from⟨hz,its,c',r',e⟩),rfl,q _ (I.hok.fresh (zY _))⟩
 rcases hq with hq|hq
 ·obtain⟨its,r',pl,hz⟩:=I.list hq;have hlen:=r'.length;obtain⟨o,ho,hc,n,hd⟩:=pl.isList
  exact call_list_seq p (.inl rfl) ho hc hd (λh' c' kp e=>fin its r' hz h' c' kp e) (by simp only[zX]<;>lia)
 ·obtain⟨its,r',pl,hz⟩:=I.tuple hq;have hlen:=r'.length;obtain⟨o,ho,hc,n,hd⟩:=pl
  exact call_list_seq p (.inr rfl) ho hc hd (λh' c' kp e=>fin its r' hz h' c' kp e) (by simp only[zX]<;>lia)
theorem ZKQ:CallR X (.type "tuple") (λxs H Q=>∃p ys,xs=[.ref p]/\((SqL X.K H p ys/\∀l,H l=v4->Q (.ref l) (upd H l (.tup ys)))∨(SqT X.K H p ys/\Q (.ref p) H))):=by
 intro vv s σ H xs us Q I r h;obtain⟨p,ys,rfl,h⟩:=h;obtain⟨u,rfl,rx⟩:=vals1 r;cases rx;rcases h with⟨hq,q⟩|⟨hq,q⟩
 ·obtain⟨its,r',pl,hz⟩:=I.list hq;have hlen:=r'.length
  refine call_tuple_list pl.isList (λh' kp=>?_) (by simp only[zX]<;>lia)
  have I1:Inv X vv σ H {s with heap:=h'}:=I.kept (t':=s.toks) kp;have I2:Inv X vv σ (upd H h'.objs.size (.tup ys)) {s with heap:=h'.push {cls:=.type "tuple",data:=.seq its.toArray}}:=
   I1.laid (t':=s.toks) (λb o e=>zQ _ e) (zY _) (show ObjOk X.prog X.w _ _ _ (.tup ys)from⟨hz,its,r',IsTup.new _ _⟩)
  exact⟨.ref h'.objs.size,_,I2,rfl,q _ (I1.hok.fresh (zY _))⟩
 ·obtain⟨its,r',pl,hz⟩:=I.tuple hq;exact call_tuple_same pl ⟨.ref p,H,I,rfl,q⟩
def tyV(K:PySem.W.Frag)(T:String)(x:V)(H:Hp):Prop:=match x with
 |.str _=>T="str"
 |.int _=>T="int"
 | .ref p=>(T="list"/\∃xs,SqL K H p xs)∨(T="tuple"/\∃o,K.lookup p=vk o/\o.cls=.type "tuple"/\o.dict=v4)∨
   (T="dict"/\((∃kvs,H p=vk (.dK kvs))∨∃kvs,H p=vk (.dT kvs)))∨(T="set"/\∃S n,H p=vk (.set S n))
 |_=>False
theorem ZK9{T:String}{x:V}{v:xQ}(I:Inv X vv σ H s)(r:RelV x v)(ty:tyV X.K T x H):
  s.TypeIs v T/\∀a,v=.ref a->∃ob,s.heap.get? a=vk ob/\ob.dict=v4:=by
 cases x with
 |str z=>
  obtain⟨t,rfl⟩:=r
  cases(show T="str" from ty)
  exact⟨typeIs_str s z t,λ_ e=>nomatch e⟩
 |int i=>
  obtain⟨t,rfl⟩:=r
  cases(show T="int" from ty)
  exact⟨typeIs_int s i t,λ_ e=>nomatch e⟩
 | ref p=>
  cases r;rcases ty with⟨rfl,xs,hq⟩|⟨rfl,o,hk,hc,hd⟩|⟨rfl,hk⟩|⟨rfl,S,n,hk⟩
  ·obtain⟨its,_,pl,_⟩:=I.list hq;refine⟨pl.isList.typeIs,λa e=>?_⟩;cases e;obtain⟨o,n,e,c,hd,_⟩:=pl;exact⟨o,e,hd⟩
  ·refine⟨⟨o,I.kIn p o hk,hc⟩,λa e=>?_⟩;cases e;exact⟨o,I.kIn _ o hk,hd⟩
  ·have z:∃o,s.heap.get? p=vk o/\o.ExactDict:=by
    rcases hk with⟨kvs,hk⟩|⟨kvs,hk⟩
    ·obtain⟨_,_,_,_,o,_,_,e,ex,_⟩:=I.hok p _ hk;exact⟨o,e,ex⟩
    ·obtain⟨_,_,_,_,o,_,_,e,ex,_⟩:=I.hok p _ hk;exact⟨o,e,ex⟩
   obtain⟨o,e,ex⟩:=z;refine⟨⟨o,e,ex.1⟩,λa e2=>?_⟩;cases e2;exact⟨o,e,ex.2.1⟩
  ·obtain⟨o,_,_,_,e,ex,_⟩:=I.hok p _ hk;refine⟨⟨o,e,ex.1⟩,λa e2=>?_⟩;cases e2;exact⟨o,e,ex.2.1⟩
 |_=>exact False.elim ty
noncomputable def tBM(K:PySem.W.Frag)(T:String)(r:V->List V->Hp->VK->Prop)(to:TE)(t:TA):TE:=λσ H Q=>to σ H λx H1=>tyV K T x H1/\t σ H1 λxs H2=>r x xs H2 Q
variable{o e:jN}{es:List jN}{to:TE}{t:TA}{name:Str}{apos cpos:Pos}{T id:String}{r:V->List V->Hp->VK->Prop}
theorem ZOd(pa:PlainAttrs T)(slot:Slot T name id)(hty:typeOf (.builtin id)=pure (.type "method_descriptor"))(hm:MtR X id r)(ho:PE X o to)(ha:PA X (e::es) t)
  (hbase:xX o name X.env (eval o X.env)=eval o X.env:=by rfl)
  (hfew:((xV cpos (xP (e::es) X.env)).all (λx=> !x.1)&&(xW cpos (xG [] X.env)).all (λx=>x.1.isSome)
   && decide ((e::es).length+([]:List Keyword).length+(if([]:List Keyword).isEmpty then 0 else 1)<30))=v5:=by rfl)
  (hline:(apos.endLine==cpos.line)=v5:=by rfl) (hs:xP (e::es) X.env=(v6,eval e X.env)::xP es X.env:=by rfl) (hplain:(xV cpos (xP es X.env)).any (·.1)=v6:=by rfl):
  PE X (.Call (.Attribute o name apos) (e::es) [] cpos) (tBM X.K T r to t):=by
 intro vv s σ H Q I h;refine wpAny_Call_method_late hbase hfew hline rfl (thn (ho vv s σ H _ I h) λv s1 ⟨x,H1,I1,r1,ty,q1⟩=>?_);obtain⟨h1,h2⟩:=ZK9 I1 r1 ty;refine⟨T,id,pa,slot,hty,h1,h2,?_⟩;have hA:=ha cpos vv s1 σ H1 _ I1 q1;rw[hs]at hA⊢
 refine Calls.callWith_builtin (by show(v6||(xV cpos (xP es X.env)).any (·.1))=v6;rw[hplain]<;>rfl) (Calls.evalArgs_plain ?_)
 exact thn hA λus s2 ⟨vs,H2,I2,r2,q2⟩=>hm vv s2 σ H2 x vs v us Q I2 r1 r2 q2
end
def MtM(X:Cx)(id:String)(r:V->List V->Hp->VK->Prop):Prop:=
 ∀(vv:List (jL×Obj))(s:jT)(σ:St)(H:Hp)(x:V)(xs:List V)(v:xQ)(us:List xQ)(Q:VK),Inv X vv σ H s->RelV x v->Vals xs us->r x xs H Q->
  xS (xL X.prog X.w) X.A (call (.builtin id) (v::us)) (EP X vv σ Q) X.xe s
theorem Vals.one:∀{x:V}{us:List xQ},Vals [x] us->∃u,us=[u]/\RelV x u
 |_,_,.cons r .nil=>⟨_,rfl,r⟩
theorem Vals.rep{us:List xQ}(h:Vals xs us):∀k:Nat,Vals (zw k xs).flatten (zw k us).flatten
 |0=>.nil
 |k+1=>by rw[zT,zT,q9,q9];exact Vals.append h (Vals.rep h k)
theorem foldl_rep(its:List xQ):∀(k:Nat)(acc:List xQ),
  List.foldl (λx1 x2=>x1++x2) acc.toArray (zw k its.toArray)=(acc++(zw k its).flatten).toArray
 |0,acc=>by simp
 |k+1,acc=>by
  have e:acc.toArray++its.toArray=(acc++its).toArray:=by simp
  have e2:(acc++its)++(zw k its).flatten=acc++(zw (k+1) its).flatten:=by rw[zT,q9,qz]
  rw[<-e2,<-foldl_rep its k (acc++its),<-e,zT,jY]
section
variable{X:Cx}{vv:List (jL×Obj)}{σ:St}{H:Hp}{s:jT}{l b:jL}{xs ys zs:List V}
theorem Inv.lset{its':List xQ}{n:Nat}{f:Array xQ->Array xQ}{t':Nat}(I:Inv X vv σ H s)(hH:H l=vk (.lst xs))
  (e:s.heap.get? l=vk {cls:=.type "list",data:=.seq its.toArray n}) (hf:f its.toArray=its'.toArray) (hv:Vals ys its') (hz:ys.length<=sizeLine):
  Inv X vv σ (upd H l (.lst ys)) {s with heap:=s.heap.update l (Obj.mapSeq f),toks:=t'}:=by
 have q:=PySem.IsL.update e f;rw[hf]at q;refine I.write (x:=l) (e:=l) (by rw[hH];exact trivial) (.inl rfl) (λb' u hb hu=>(qW s.heap (Obj.mapSeq f) (Ne.symm hb)).trans hu) ⟨_,q⟩ ?_;exact⟨hz,its',_,hv,q⟩
theorem Inv.lnew{t':Nat}(I:Inv X vv σ H s)(hv:Vals ys its)(hz:ys.length<=sizeLine):
  Inv X vv σ (upd H s.heap.objs.size (.lst ys)) {s with heap:=s.heap.push {cls:=.type "list",data:=.seq its.toArray},toks:=t'}:=
 I.laid (λ_ _ q=>zQ _ q) (zY _) ⟨hz,its,0,hv,zy _ rfl⟩
theorem Inv.fresh(I:Inv X vv σ H s):H s.heap.objs.size=v4:=I.hok.fresh (zY _)
theorem Inv.V2(I:Inv X vv σ H s)(hH:H l=vk (.lst xs)):xs.length<=sizeLine/\∃(its:List xQ)(n:Nat),Vals xs its/\xs.length=its.length/\s.heap.get? l=vk {cls:=.type "list",data:=.seq its.toArray n}:=by obtain⟨z,its,n,r,e⟩:=I.hok l _ hH;exact⟨z,its,n,r,r.length,e⟩
theorem ZEg{n:Nat}(h:n<=sizeLine):Builtin.List.listTooLong n=v6:=by unfold Builtin.List.listTooLong;exact decide_eq_false (by lia)
end
section
variable{X:Cx}
def ZIq:V->List V->Hp->VK->Prop:=λx vs H Q=>∃l xs y,x=.ref l/\vs=[y]/\H l=vk (.lst xs)/\xs.length<sizeLine/\Q .non (upd H l (.lst (xs++[y])))
theorem ZKu:MtM X "list.append" ZIq:=by
 intro vv s σ H x vs v us Q I rx rv h;obtain⟨l,xs,y,rfl,rfl,hH,hz,q⟩:=h;cases rx;obtain⟨u,rfl,ru⟩:=rv.one;obtain⟨z,its,n,r,hl,e⟩:=I.V2 hH;refine call_meets F.slot_list_append ⟨_,e,rfl⟩ F.entry_list_append (F.args_list_append_2 _ _) (PySem.list_append l its.toArray n u (by rw[zX];lia)) ⟨e,?_⟩;refine⟨.non,_,I.lset (its':=its++[u]) hH e (by simp) (r.append (.cons ru .nil)) ?_,rfl,q⟩
 rw[zH,j4];lia
def ZOh:V->List V->Hp->VK->Prop:=λx vs H Q=>∃l b xs zs,x=.ref l/\vs=[.ref b]/\H l=vk (.lst xs)/\H b=vk (.lst zs)/\xs.length+zs.length<=sizeLine/\Q .non (upd H l (.lst (xs++zs)))
theorem ZN9:MtM X "list.extend" ZOh:=by
 intro vv s σ H x vs v us Q I rx rv h;obtain⟨l,b,xs,zs,rfl,rfl,hH,hB,hz,q⟩:=h;cases rx;obtain⟨u,rfl,ru⟩:=rv.one;cases ru;obtain⟨z,its,n,r,hl,e⟩:=I.V2 hH;obtain⟨z2,its2,n2,r2,hl2,e2⟩:=I.V2 hB;have hsz:its.toArray.size+its2.toArray.size<=sizeLine:=by rw[zX,zX];lia
 have hlong:¬(!its.toArray.isEmpty&&Builtin.List.listTooLong (its.toArray.size+its2.toArray.size))=v5:=by rw[ZEg hsz,Bool.and_false];exact zx
 refine call_meets F.slot_list_extend ⟨_,e,rfl⟩ F.entry_list_extend (F.args_list_extend_2 _ _)
  (AutoSeq1.list_extend_list_list_0 l its.toArray n b its2.toArray n2 hlong (by rw[zX];lia) (by lia)) ⟨e,e2,?_⟩
 refine⟨.non,_,I.lset (its':=its++its2) hH e (by simp) (r.append r2) ?_,rfl,q⟩;rw[zH];lia
def rRep:R2:=λx y H Q=>∃l k xs,x=.ref l/\y=.int k/\H l=vk (.lst xs)/\ -(2^63)<=k/\k<2^63/\xs.length*k.toNat<=sizeLine/\
 ∀p,H p=v4->Q (.ref p) (upd H p (.lst (zw k.toNat xs).flatten))
theorem len_rep{α:Type}(xs:List α)(k:Nat):(zw k xs).flatten.length=k*xs.length:=by
 induction k with
 |zero=>simp
 |succ k ih=>rw[zT,q9,zH,ih,Nat.succ_mul,Nat.add_comm]
theorem ZLn:OpR X (xY .Mult) rRep:=by
 intro vv s σ H x y v u Q I rx ry h;obtain⟨l,k,xs,rfl,rfl,hH,h1,h2,hz,q⟩:=h;cases rx;obtain⟨t,rfl⟩:=ry;obtain⟨z,its,n,r,hl,e⟩:=I.V2 hH;have hlen:its.toArray.size*k.toNat<=sizeLine:=by rw[zX,<-hl];exact hz
 have hcap:¬its.toArray.size*k.toNat>(2^63-1)/8:=by
  have:(sizeLine:Nat)<=(2^63-1)/8:=by decide
  lia
 have hfit:¬(!Builtin.List.listFitsIndex k)=v5:=by rw[fitsIndex_both h1 h2];exact zx
 have hlong:¬Builtin.List.listTooLong (its.toArray.size*k.toNat)=v5:=by rw[ZEg hlen];exact zx
 have hnew:List.foldl (λx1 x2=>x1++x2) #[] (zw (if its.toArray.isEmpty=v5 then 0 else k.toNat) its.toArray)=(zw k.toNat its).flatten.toArray:=by
  have f0:∀m:Nat,List.foldl (λx1 x2=>x1++x2) #[] (zw m its.toArray)=(zw m its).flatten.toArray:=λm=>by have:=foldl_rep its m [];rw[jD]at this;exact this
  rw[f0];cases its with
  |nil=>simp
  |cons a r'=>rw[if_neg (by simp)]
 refine wpAny_binaryOp_repeat_ref (T:="list") (U:="int") (by decide) ⟨_,e,rfl⟩ (λs'=>typeIs_int s' k t) noFill_list_mul F.fills_int_mul F.slot_int_rmul repeat_list F.slot_int_index.lookup
  (call_meets F.slot_int_rmul (typeIs_int s k t) F.entry_int_rmul (F.args_int_rmul_2 _ _) (int___rmul___int_list k t l its.toArray n)
   ⟨e,rfl,⟨_,e,rfl⟩,call_meets F.slot_list_mul ⟨_,e,rfl⟩ F.entry_list_mul (F.args_list_mul_2 _ _) (AutoListH.list___mul___list_int_3 l its.toArray n k t hfit hcap hlong) ⟨e,?_⟩⟩)
 rw[hnew];exact⟨.ref _,_,I.lnew (t':=s.toks) (r.rep k.toNat) (by rw[len_rep,Nat.mul_comm];exact hz),rfl,q _ I.fresh⟩
end
section
variable{prog:jR}{w:xZ}{A:jM}{E:xQ->jT->Prop}{s:jT}
end
section
variable{X:Cx}
end
end _L
namespace Att
open PySem PySem.W PySem.Calls PyProof.Rows
variable{h:Heap}
theorem ZIC{P:Params}:∀(ns:List Int)(vs:List xQ),WellAll P h vs (ns.map WData.int)->IntsAre vs ns:=by
 intro ns
 induction ns with
 |nil=>
  intro vs w;rw[jy]at w;cases w;exact .nil
 | cons n ns ih=>
  intro vs w;rw[zk]at w;cases w with
  |cons a b=>
   cases a;exact .cons _ _ (ih _ b)
theorem ZLr{l:OpenLaw}{n:Nat}(hn:l.most=vk n){P:Params}{args:List WData}{vals:List xQ}
  (hpre:l.row.toRowW.claim.pre args=v5) (hwl:WellAll P h vals args):
  ∃a vs ns,vals=[Value.ref a]/\args=[WData.list (ns.map WData.int)]/\h.get? a=vk {cls:=.type "list",data:=.seq vs.toArray}/\IntsAre vs ns/\ns.length<=n:=by
 have hsh:WShape.hasAll [] args [.list .int]=v5:=(pre_splitW hpre).1;have hc:l.pre.holds [] {args:=args}=v5:=(pre_splitW hpre).2;obtain⟨d,r,rfl,h1,h2⟩:=hasAllW_cons hsh;obtain rfl:=hasAllW_nil h2;obtain⟨xs,rfl,h3⟩:=hasW_list h1;obtain⟨ns,rfl⟩:=items_int h3;have hlen:ns.length<=n:=by
  unfold OpenLaw.pre at hc;have h4:(WTm.not (.lt (.lit (.int (n:Int))) (.len (.arg 0)))).holds [] {args:=[.list (ns.map .int)]}=v5:=by have h4:=(holds_andW hc).1;rw[hn]at h4;exact h4
  have h5:=condW_of h4 (w_not (w_lt w_lit (w_len_list (w_arg rfl))));rw[zM]at h5;refine Nat.le_of_not_lt λq=>?_
  have q':(n:Int)<((ns.length:Nat):Int):=by lia
  first
   |(rw[decide_eq_true q']at h5;exact absurd h5 (by decide))
   |(simp at h5;lia)
 cases hwl with
 |cons w1 w2=>
  cases w2;cases w1 with
  |list ho hall=>exact⟨_,_,ns,rfl,rfl,ho,ZIC ns _ hall,hlen⟩
theorem ZNI(l:OpenLaw)(args:List WData):l.row.toRowW.claim.post args (.bool v5) args=v5:=
 postW_of (r:=l.row.toRowW) (X:=(v5==v5))
  (show WShape.has [] (.bool v5) .bool=v5 by first|rfl|decide|simp[WShape.has,WShape.arms,WShape.armsAll])
  (show(WTm.eq .res (.lit (.bool v5))).value [] {args:=args,res:=vk (.bool v5),after:=args}=vk (.bool (v5==v5))from w_eq_bool (w_res rfl) w_lit) rfl
theorem ZN5{l:OpenLaw}{n:Nat}{q:jR}{loose:List Str}{XP:(Str->Option xQ)->Heap->Prop}{YP:xZ->Heap->Prop}{d:DefRec}
  (hn:l.most=vk n) (hdf:d.params.defaults=[])
  (call:∀(w:xZ)(s₀ s₁:jT)(mg mb:Str->Option xQ)(fa:jL)(o:Obj)(pm cd doc:xQ)(a:jL)(vs:List xQ)(ns:List Int),
   Ground q loose [] XP w s₀ mg mb s₁.heap->YP w s₁.heap->
   s₁.heap.get? fa=vk o->o.data=.func (docDef d.name d.params d.body d.scope pm cd doc)->s₁.heap.CodeRec cd d.name->mg d.name=vk (.ref fa)->
   s₁.heap.get? a=vk {cls:=.type "list",data:=.seq vs.toArray}->IntsAre vs ns->ns.length<=n->s₁.gens= #[]->
   codeAny (xL l.prog w) callerA (.call (.ref fa) ⟨[.ref a],[]⟩) (λr s'=>r=.ok (.ret (.bool v5))/\OldK s₁.heap s'.heap/\s'.os=s₁.os/\AllBare s'.gens) s₁):
  WalkO q loose XP YP l.row.toRowW d [] (λf vs=>PySem.call f vs):=by
 intro w s₀ s₁ mg mb G Y fa o pm cd doc dV kV ho hd hcd hD hmg hg args vals as hpre hlay hrd hwl hlo;obtain rfl:dV=.none:=Dflts.none hD hdf;obtain rfl:kV=.none:=Dflts.noKw hD;obtain⟨a,vs,ns,rfl,rfl,hobj,hints,hlen⟩:=ZLr hn hpre hwl;refine enter_call (xk (call w s₀ s₁ mg mb fa o pm cd doc a vs ns G Y ho (fd_plain hd) hcd hmg hobj hints hlen hg) λr s' hq=>?_);obtain⟨rfl,h2,h3,h4⟩:=hq
 exact⟨.inl ⟨.bool v5,.bool v5,[],rfl,λ_=>rfl,.bool v5,ZNI l _,λ_=>⟨List.Pairwise.nil,λ_ hm=>(nomatch hm)⟩⟩,h2,h3,h4⟩
section
variable{prog:jR}{w:xZ}{A:jM}{E:xQ->jT->Prop}{s:jT}{K:vj}
noncomputable def W7(h:Heap):Heap:={h with objs:= #[]}
theorem Ye(h:Heap)(b:jL):(W7 h).get? b=v4:=by
 cases e:(W7 h).get? b with
 |none=>rfl
 |some o=>exact absurd (zK e) (Nat.not_lt_zero _)
noncomputable def ledger(h:Heap)(L d:jL):List (jL×Obj):=(zq h.objs.size).filterMap λa=>if a=L∨a=d then v4 else(h.get? a).map λo=>(a,o)
theorem P0{L d a:jL}{o:Obj}:(a,o)∈ledger h L d↔a≠L/\a≠d/\h.get? a=vk o:=by
 unfold ledger;rw[jk];constructor
 ·rintro⟨b,_,e⟩;split at e
  ·cases e
  ·rename_i hb;obtain⟨o',ho,e'⟩:=zA.mp e;cases e';exact⟨λq=>hb (.inl q),λq=>hb (.inr q),ho⟩
 ·rintro⟨n1,n2,ho⟩;refine⟨a,qZ.mpr (zK ho),?_⟩
  rw[if_neg (show¬(a=L∨a=d)from λq=>q.elim n1 n2),ho]<;>rfl
theorem ZPm{L:jL}{m:Str->Option xQ}(n:h.Ns L m):Fr (W7 h) L h m:=
 ⟨n,λb o e=>(by rw[Ye]at e;cases e),jv _⟩
end
end Att
namespace _L
open PySem PySem.Spec PyProof.Rows
variable{P:jR}{w:xZ}{a:jL}{fd:jO}{x:Str}{X:Cx}{y:V}{u:xQ}{H:Hp}{kvs:List (Key×V)}{pos:Pos}
theorem Pu:∀{vs:List xQ}{ns:List Int},IntsAre vs ns->Vals (ns.map V.int) vs
 |_,_,.nil=>.nil
 |_,_,.cons n t h=>.cons ⟨t,rfl⟩ (Pu h)
def Only(H:Hp):Prop:=∀b,H b=v4∨∃o xs,H b=vk (.frz o (.lst xs))
theorem ZNp{K:PySem.W.Frag}{mg mb:Str->Option xQ}{CX:CXT}{k:Nat}{fa:jL}{sp:Sp}{s₁:jT}{vs:List xQ}{ns:List Int}
  (KX:K.In s₁.heap) (hns:s₁.heap.Ns xI mg) (hb:s₁.heap.Ns builtinsNs mb) (hbb:∀x:Str,x≠"__name__"->mb x=xq x) (hlim:s₁.heap.NoLimit) (hg:s₁.gens= #[])
  (ha:s₁.heap.get? a=vk {cls:=.type "list",data:=.seq vs.toArray}) (hi:IntsAre vs ns) (hl:ns.length<=sizeLine) (hr:Room k callerA)
  (F:∀base:Heap,K.In base->base.Ns xI mg->FnOk P w K mg base CX k fa fd [x] sp) (hbind:∀(s:jT)(u:xQ),BindsTo s fd ⟨[u],[]⟩ [(x,u)])
  (hsp:∀H:Hp,Only H->SqL K H a (ns.map V.int)->sp [.ref a] H (λv _=>v=.bl v5) λ_ _ _=>False)
  (hCX:∀H e s',CX [] H s₁ (λ_ _ _=>False) e s'->False):
  codeAny (xL P w) callerA (.call (.ref fa) ⟨[.ref a],[]⟩) (λr s'=>r=.ok (.ret (.bool v5))/\OldK s₁.heap s'.heap/\s'.os=s₁.os/\AllBare s'.gens) s₁:=by
 have rv:=Pu hi;have lenV:=hi.length;have core:∀H:Hp,Only H->SqL K H a (ns.map V.int)->HOk P w H s₁.heap->(∀b,H b≠v4->b=a)->(H a≠v4->K.lookup a=v4)->
   codeAny (xL P w) callerA (.call (.ref fa) ⟨[.ref a],[]⟩) (λr s'=>r=.ok (.ret (.bool v5))/\OldK s₁.heap s'.heap/\s'.os=s₁.os/\AllBare s'.gens) s₁:=by
  intro H hO hS hok hA hK;have base_of:∀{b:jL}{o:Obj},s₁.heap.get? b=vk o->H b=v4->(Ih s₁.heap H).get? b=vk o:=λe n=>ZNZ e n
  have noA:∀{b:jL}{o:Obj}{es:Array DictEntry}{ep:Nat},s₁.heap.get? b=vk o->o.data=.dict es ep->H b=v4:=λ{b o es ep}e d=>by
   cases q:H b with
   |none=>rfl
   |some u=>
    have e':b=a:=hA b (by rw[q];simp);subst e';rw[ha]at e;cases e;have d':Data.seq vs.toArray _=Data.dict es ep:=d;cases d'
  have nsK:∀{b:jL}{m:Str->Option xQ},s₁.heap.Ns b m->(Ih s₁.heap H).Ns b m:=λ{b m}⟨o,es,ep,e,d,r⟩=>⟨o,es,ep,base_of e (noA e d),d,r⟩
  have hKb:K.In (Ih s₁.heap H):=λb o e=>base_of (KX b o e) (by
   cases q:H b with
   |none=>rfl
   |some u=>
    have e':b=a:=hA b (by rw[q];simp);subst e';rw[hK (by rw[q];simp)]at e;cases e)
  have hM:Mod K mg (Ih s₁.heap H):=⟨hKb,nsK hns,⟨mb,nsK hb,hbb⟩,let⟨mc,h1,h2⟩:=hlim;⟨mc,nsK h1,h2⟩⟩
  have e0:Env0 P w K mg (Ih s₁.heap H) callerA [] s₁ H:=⟨rfl,hM,λb o e=>ZPY e,Nat.le_of_eq (ZO0 _ _),trivial,λb hb=>absurd (show b∈([]:List jL)from hb) (by simp),hok,.of_eq hg⟩
  refine xk ((F _ hKb (nsK hns)).run callerA [] s₁ H ⟨[.ref a],[]⟩ [.ref a] [.ref a] _ _ hr e0 (hbind s₁ (.ref a)) (.cons rfl .nil) (hsp H hO hS)) λr s' h=>?_
  cases r with
  |error e=>exact(hCX H e s' h).elim
  | ok fl=>
   cases fl with
   |next=>exact False.elim h
   |brk=>exact False.elim h
   |cont=>exact False.elim h
   | ret u=>
    obtain⟨v,H',os,bare,un,hok',r',q⟩:=h;have q':v=.bl v5:=q;subst q';obtain rfl:u=Value.bool v5:=r';refine⟨rfl,OldK.of_keep λb o e=>?_,os,bare⟩;cases q:H b with
    |none=>exact un.keep b o e q (by intro z;exact absurd (show b∈([]:List jL)from z) (by simp)) (by simp)
    |some u=>
     rcases hO b with z|⟨ob,xs,z⟩
     ·rw[q]at z;cases z
     ·have z2:=un.frzs b ob _ z;obtain⟨e1,_⟩:=hok b _ z;obtain⟨e2,_⟩:=hok' b _ z2;rw[e]at e1;cases e1;exact e2
 cases hk:K.lookup a with
 |some o=>
  have e:=KX a o hk;rw[ha]at e;cases e;refine core (λ_=>v4) (λ_=>.inl rfl) (.inr ⟨_,vs.toArray,_,hk,rfl,rfl,rfl,by rw[zX,lenV];exact hl,by simpa using rv⟩) (λb u z=>by have z':(v4:Option HO)=vk u:=z;cases z') (λb z=>absurd rfl z) λz=>absurd rfl z
 | none=>
  refine core (λb=>if b=a then vk (.frz {cls:=.type "list",data:=.seq vs.toArray} (.lst (ns.map V.int)))else v4) (λb=>?_) (.inl (.inr ⟨{cls:=.type "list",data:=.seq vs.toArray},if_pos rfl⟩)) (λb u z=>?_) (λb z=>?_) λ_=>hk
  ·by_cases hb:b=a
   ·exact .inr ⟨_,_,if_pos hb⟩
   ·exact .inl (if_neg hb)
  ·by_cases hb:b=a
   ·have z':=(if_pos hb).symm.trans z;cases z';subst hb;exact⟨ha,by rw[zM];exact hl,vs,_,rv,ha⟩
   ·have z':=(if_neg hb).symm.trans z;cases z'
  ·by_cases hb:b=a
   ·exact hb
   ·exact absurd (if_neg hb) z
theorem ZIs{l:PySem.W.OpenLaw}{n k:Nat}{q:jR}{loose:List Str}{XP:(Str->Option xQ)->Heap->Prop}{YP:xZ->Heap->Prop}{d:DefRec}{K:xZ->PySem.W.Frag}{CX:xZ->CXT}{sp:xZ->Sp} 
  (hn:l.most=vk n) (hn2:n<=sizeLine) (hdf:d.params.defaults=[]) (hr:Room k callerA)
  (hY:∀(w:xZ)(h:Heap),YP w h->(K w).In h)
  (F:∀(w:xZ)(mg:Str->Option xQ)(fa:jL)(h:Heap),(K w).In h->h.Ns xI mg->mg d.name=vk (.ref fa)->
   ∃fd:jO,(∀(s:jT)(u:xQ),BindsTo s fd ⟨[u],[]⟩ [(x,u)])/\
    ∀base:Heap,(K w).In base->base.Ns xI mg->FnOk l.prog w (K w) mg base (CX w) k fa fd [x] (sp w))
  (hsp:∀(w:xZ)(H:Hp)(a:jL)(ns:List Int),ns.length<=n->Only H->SqL (K w) H a (ns.map V.int)->sp w [.ref a] H (λv _=>v=.bl v5) λ_ _ _=>False)
  (hCX:∀(w:xZ)(H:Hp)(s:jT)(e:xQ)(s':jT),CX w [] H s (λ_ _ _=>False) e s'->False):
  PySem.W.WalkO q loose XP YP l.row.toRowW d [] (λf vs=>PySem.call f vs):=by
 refine Att.ZN5 hn hdf λw s₀ s₁ mg mb fa o pm cd doc a vs ns G Y ho hd hcd hmg hobj hints hlen hg=>?_
 have KX:=hY w _ Y;obtain⟨fd,hb,hF⟩:=F w mg fa _ KX G.T.g hmg;exact ZNp KX G.T.g G.T.b G.T.builtins G.T.nolimit hg hobj hints (z8 hlen hn2) hr hF hb (λH hO hS=>hsp w H a ns hlen hO hS) λH e s'=>hCX w H s₁ e s'
noncomputable abbrev CX0:CXT:=λ_ _ _ _ _ _=>False
noncomputable abbrev E0:XK:=λ_ _ _=>False
theorem pass0:Passes CX0 X E0:=λ_ _ _ _ _ _ _ h=>h.elim
structure Fun (K:PySem.W.Frag) (x qual:Str) (st:jU) (f:jL) (fd:jO):Prop where
 ex:∃(oc:xQ)(od:Option jL)(kV doc pm:xQ)(an:Option jL)(cdv ct:xQ)(osl:Array (Option xQ)),
  fd=PySem.W.fnOf x qual (Eg st) (Cz st) (Am st) .none kV doc pm an cdv ct/\K.lookup f=vk ⟨oc,od,.func fd,osl⟩/\PySem.W.codeIn K cdv qual=v5
 kp:PySem.W.keepIn K (.ref f)=v5
section
variable{P:jR}{w:xZ}{K:PySem.W.Frag}{mg:Str->Option xQ}{base:Heap}
theorem Fun.ok{qual:Str}{st:jU}{f:jL}{N ps:List Str}{k:Nat}{sp:Sp}(F:Fun K x qual st f fd)(S:FnScope N ps (Am st))(len:∀vs H Q E,sp vs H Q E->vs.length=ps.length)
  (hbody:∀(cdv:xQ)(A:jM)(outer:List Env)(s:jT)(H:Hp)(vs:List V)(Q:VK)(E:XK),Room k (A.deeper (envOfC qual (Am st) s.heap.objs.size f cdv))->sp vs H Q E->
   ∃t,PSs (Fo CX0 P w K mg base N qual (Am st) f cdv A outer s H E).nox (Cz st) t/\t {nx:=λ_ H'=>Q .non H',rt:=Q} (start N vs) H):FnOk P w K mg base CX0 (k+1) f fd ps sp:=by
 obtain⟨oc,od,kV,doc,pm,an,cdv,ct,osl,rfl,lk,hcd⟩:=F.ex;refine Y4 lk hcd S len λA outer s H vs Q E hr hsp=>?_
 obtain⟨t,h,q⟩:=hbody cdv A outer s H vs Q E hr hsp;exact⟨t,h.nox,q⟩
theorem Fun.binds{qual:Str}{st:jU}{f:jL}{ps:List Str}(F:Fun K x qual st f fd)
  (h:∀(kV doc pm:xQ)(an:Option jL)(cdv ct:xQ)(us:List xQ),us.length=ps.length->bindArgs (PySem.W.fnOf x qual (Eg st) (Cz st) (Am st) .none kV doc pm an cdv ct) ⟨us,[]⟩=pure (ps.zip us)):Binds K fd ps []:=by
 obtain⟨oc,od,kV,doc,pm,an,cdv,ct,osl,rfl,lk,hcd⟩:=F.ex;exact .all (h kV doc pm an cdv ct)
end
section
variable{X:Cx}
theorem pv(i:Nat){pos:Pos}(hN:X.N[i]?=vk x:=by rfl)(hv:Vis X.env.scope x:=by first|exact Or.inl rfl|exact Or.inr (Or.inl rfl)|exact Or.inr (Or.inr rfl))(hd:(x==("__debug__":Str))=v6:=by decide)
  (hcd:(x==("__classdict__":Str))=v6:=by decide):PE X (.Name x pos) (Ls i):=Oe hN hv hd hcd
end
section
variable{κ:Type}[DecidableEq κ]
noncomputable def Fb(kvs:List (κ×V))(k:κ):Option V:=(kvs.find? λkv=>decide (kv.1=k)).map (·.2)
noncomputable def putK(kvs:List (κ×V))(k:κ)(v:V):List (κ×V):=
 if(kvs.any λkv=>decide (kv.1=k))=v5 then kvs.map (λkv=>if kv.1=k then(kv.1,v)else kv)else kvs++[(k,v)]
theorem ZDe{p:κ×V}{r:List (κ×V)}{k:κ}(e:p.1=k):Fb (p::r) k=vk p.2:=by simp[Fb,qQ,e]
theorem ZCw{p:κ×V}{r:List (κ×V)}{k:κ}(e:¬p.1=k):Fb (p::r) k=Fb r k:=by simp[Fb,qQ,e]
theorem ZQF(kvs:List (κ×V))(k:κ)(v:V):(putK kvs k v).length<=kvs.length+1:=by
 unfold putK;split
 ·rw[zM];lia
 ·rw[zH,zO,qU];lia
theorem KV.val{kvs:List (κ×V)}{vs:List (κ×xQ)}(r:KV kvs vs)(k:κ):RelO (Fb kvs k) (valueAt vs k):=by
 unfold KV at r
 induction r with
 |nil=>exact True.intro
 | @cons p q ps qs h t ih=>
  obtain⟨h1,h2⟩:=h;by_cases e:p.1=k
  ·have e':q.1=k:=h1.symm.trans e;have b:valueAt (q::qs) k=vk q.2:=by simp[valueAt,qQ,e']
   rw[ZDe e,b];exact h2
  ·have e':¬q.1=k:=λz=>e (h1.trans z)
   have b:valueAt (q::qs) k=valueAt qs k:=by simp[valueAt,qQ,e']
   rw[ZCw e,b];exact ih
theorem KV.any{kvs:List (κ×V)}{vs:List (κ×xQ)}(r:KV kvs vs)(k:κ):(kvs.any λkv=>decide (kv.1=k))=vs.any λkv=>decide (kv.1=k):=by
 unfold KV at r
 induction r with
 |nil=>rfl
 |cons h t ih=>rw[jK,jK,ih,h.1]
theorem KV.repl{kvs:List (κ×V)}{vs:List (κ×xQ)}(r:KV kvs vs)(k:κ)(ry:RelV y u):
  KV (kvs.map λkv=>if kv.1=k then(kv.1,y)else kv) (vs.map λkv=>if kv.1=k then(kv.1,u)else kv):=by
 unfold KV at r⊢
 induction r with
 |nil=>exact .nil
 |@cons p q ps qs h t ih=>
  rw[zk,zk];refine .cons ?_ ih;obtain⟨h1,h2⟩:=h;by_cases e:p.1=k
  ·rw[if_pos e,if_pos (h1.symm.trans e)];exact⟨h1,ry⟩
  ·rw[if_neg e,if_neg (λz=>e (h1.trans z))];exact⟨h1,h2⟩
theorem KV.put{kvs:List (κ×V)}{vs:List (κ×xQ)}(r:KV kvs vs)(k:κ)(ry:RelV y u):KV (putK kvs k y) (stored vs k u):=by
 unfold putK stored;rw[r.any k];by_cases e:(vs.any λkv=>decide (kv.1=k))=v5
 ·rw[if_pos e,if_pos e];exact r.repl k ry
 ·rw[if_neg e,if_neg e];exact Paired.snoc r ⟨rfl,ry⟩
end
theorem Zf{k:Key}(r:RelV (kV k) u):(Ft P w).is k u=v5:=by
 cases k with
 |inl i=>obtain⟨t,e⟩:=(show∃t,u=Value.int i t from r);subst e;exact ZQM P w i t
 |inr x=>obtain⟨t,e⟩:=(show∃t,u=Value.str x t from r);subst e;exact ZMc P w x t
theorem ZDQ:∀{ks:List Key}{us:List xQ},Vals (ks.map kV) us->ItemsAre (Ft P w) ks us
 |[],_,r=>by rw[jy]at r;cases r;exact .nil
 |k::ks,_,r=>by
  rw[zk]at r;cases r with
  |cons h t=>exact .cons (Zf h) (ZDQ t)
abbrev KT(H:Hp):List (List Key×V)->List (List Key×jL×xQ)->Prop:=Paired λp q=>p.1=q.1/\H q.2.1=vk (.tup (p.1.map kV))/\RelV p.2 q.2.2
theorem KT.val{kvs:List (List Key×V)}{xs:List (List Key×jL×xQ)}(r:KT H kvs xs)(k:List Key):RelO (Fb kvs k) ((atKey xs k).map (·.2)):=by
 induction r with
 |nil=>exact True.intro
 | @cons p q ps qs h t ih=>
  obtain⟨h1,_,h2⟩:=h;by_cases e:p.1=k
  ·have e':q.1=k:=h1.symm.trans e;have b:atKey (q::qs) k=vk q.2:=by simp[atKey,qQ,e']
   rw[ZDe e,b];exact h2
  ·have e':¬q.1=k:=λz=>e (h1.trans z)
   have b:atKey (q::qs) k=atKey qs k:=by simp[atKey,qQ,e']
   rw[ZCw e,b];exact ih
section
variable{P:jR}{w:xZ}{H:Hp}{h:Heap}{a:jL}
theorem ZGM{u:HO}(ok:HOk P w H h)(e:Rd H a u):ObjOk P w H h a u:=e.ok ok
theorem Wy(ok:HOk P w H h)(e:Rd H a (.dK kvs)):kvs.length<=sizeLine/\(a==sysModules)=v6/\∃vs,KV kvs vs/\h.DictOf (Ft P w) a vs:=
 show ObjOk P w H h a (.dK kvs)from ZGM ok e
theorem ZNh(ok:HOk P w H h)(e:H a=vk (.dK kvs)):kvs.length<=sizeLine/\(a==sysModules)=v6/\∃vs,KV kvs vs/\h.DictOf (Ft P w) a vs:=Wy ok (.inl e)
theorem ZFs{ks:List Key}(ok:HOk P w H h)(e:H a=vk (.tup (ks.map kV))):(tupleKind (Ft P w)).is h ks a:=by
 obtain⟨_,its,r,o,h1,h2,n,h3⟩:=(show ObjOk P w H h a (.tup (ks.map kV))from ok a _ e)
 exact⟨o,its.toArray,n,h1,h2,h3,by simpa using ZDQ r⟩
theorem ZFe{kvs:List (List Key×V)}(ok:HOk P w H h)(e:Rd H a (.dT kvs)):kvs.length<=sizeLine/\(a==sysModules)=v6/\
  ∃xs,KT H kvs xs/\h.DictOfH (tupleKind (Ft P w)) a xs:=by
 obtain⟨z,y,xs,r,o,es,ep,h1,h2,h3,h4,h5⟩:=(show ObjOk P w H h a (.dT kvs)from ZGM ok e)
 refine⟨z,y,xs,r,o,es,ep,h1,h2,h3,h4,λx hx=>?_,h5⟩;have all:∀{l:List (List Key×V)}{m:List (List Key×jL×xQ)},KT H l m->∀x∈m,(tupleKind (Ft P w)).is h x.1 x.2.1:=by
  intro l m q
  induction q with
  |nil=>intro x hx;exact nomatch hx
  |@cons p q ps qs hq t ih=>
   intro x hx;rcases zj.mp hx with e|hx
   ·subst e;exact ZFs ok (by rw[<-hq.1];exact hq.2.1)
   ·exact ih x hx
 exact all r x hx
end
def DGet(H:Hp)(a:jL)(y:V)(r:Option V):Prop:=
 (∃kvs k,Rd H a (.dK kvs)/\y=kV k/\r=Fb kvs k)∨∃kvs k b,Rd H a (.dT kvs)/\y=.ref b/\H b=vk (.tup (k.map kV))/\r=Fb kvs k
theorem DGet.k{k:Key}(e:H a=vk (.dK kvs)):DGet H a (kV k) (Fb kvs k):=.inl ⟨kvs,k,.inl e,rfl,rfl⟩
section
variable{X:Cx}{vv:List (jL×Obj)}{σ:St}{H:Hp}{s:jT}{a:jL}{y v:V}{u r:xQ}{o:Option V}{A:jM}{E:xQ->jT->Prop}
theorem Inv.big(I:Inv X vv σ H s):sysModules<s.heap.objs.size:=by have h:xI<s.heap.objs.size:=(I.mod.glob.keeps I.bk).lt;exact Nat.lt_trans (by decide) h
theorem ZK3{Q:xQ->jT->Prop}(hu:A.units+1<cLine)(I:Inv X vv σ H s)(g:DGet H a y (vk v))(ry:RelV y u)(h:∀w' s',Inv X vv σ H s'->RelV v w'->Q w' s'):
  xS (xL X.prog X.w) A (getItem (.ref a) u) Q E s:=by
 rcases g with⟨kvs,k,e,ey,l⟩|⟨kvs,k,b,e,ey,eb,l⟩
 ·subst ey;obtain⟨z,hd,vs,rel,dd⟩:=Wy I.hok e;obtain⟨w',hw,rw'⟩:=RelO.some_of (v:=v) (o:=valueAt vs k) (by rw[l];exact rel.val k);exact wpAny_getItem_of (Zf ry) dd.mapOf hw (h w' _ (I.tok _) rw')
 ·subst ey
  cases(show u=Value.ref b from ry)
  obtain⟨z,hd,xs,rel,dd⟩:=ZFe I.hok e
  obtain⟨w',hw,rw'⟩:=RelO.some_of (v:=v) (o:=(atKey xs k).map (·.2)) (by rw[l];exact rel.val k)
  obtain⟨p,hp,hp2⟩:=zA.mp hw;refine wpAny_getItem_heap (tupleKind_room_in1 hu) (ZFs I.hok eb) dd hp ?_;rw[hp2];exact h w' _ (I.tok _) rw'
theorem ZPu{h':Heap}{t':Nat}{ob:HO}(I:Inv X vv σ H s)(mu:Mut (H a))(hs:qK a s.heap h')(he:∃q,h'.get? a=vk q)(new:ObjOk X.prog X.w (upd H a ob) h' a ob):
  Inv X vv σ (upd H a ob) {s with heap:=h',toks:=t'}:=
 I.write (x:=a) (e:=a) mu (.inl rfl) (λb q hb z=>(hs.2 b hb).trans z) he new
theorem ZMG{H':Hp}{h':Heap}{vs:List (Key×xQ)}(z:kvs.length<=sizeLine)(hd:(a==sysModules)=v6)(rel:KV kvs vs)(dd:h'.DictOf (Ft P w) a vs):
  ObjOk P w H' h' a (.dK kvs):=⟨z,hd,vs,rel,dd⟩
end
section
variable{X:Cx}{vv:List (jL×Obj)}{σ:St}{H:Hp}{s:jT}{a:jL}{kvs:List (Key×V)}{k:Key}{u:xQ}{A:jM}{E:xQ->jT->Prop}
end
theorem ZLp{vv:List (jL×Obj)}{σ:St}{s:jT}{o:Option V}(I:Inv X vv σ H s)(g:DGet H a y o):s.TypeIs (.ref a) "dict":=by
 rcases g with⟨kvs,k,e,_,_⟩|⟨kvs,k,b,e,_,_,_⟩
 ·obtain⟨_,_,vs,_,dd⟩:=Wy I.hok e;exact dd.typeIs
 ·obtain⟨_,_,xs,_,dd⟩:=ZFe I.hok e;exact dd.typeIs
section
variable{X:Cx}{o i e value:jN}{pos pos' tpos:Pos}{td ty tv:TE}
end
theorem ZO4(h:Heap)(hb:sysModules<h.objs.size):ObjOk P w H (h.push {cls:=.type "dict",data:=.dict #[]}) h.objs.size (.dK []):=
 ⟨jv _,beq_eq_false_iff_ne.mpr (Ne.symm (z9 hb)),[],.nil,Heap.DictOf.new h⟩
section
variable{X:Cx}{pos:Pos}
end
def T5:List (TE×TE)->St->Hp->(List (V×V)->Hp->Prop)->Prop
 |[],_,H,Q=>Q [] H
 |(tk,tv)::r,σ,H,Q=>tk σ H λx H1=>tv σ H1 λy H2=>T5 r σ H2 λps H3=>Q ((x,y)::ps) H3
abbrev VV:List (V×V)->List (xQ×xQ)->Prop:=Paired λp q=>RelV p.1 q.1/\RelV p.2 q.2
def PPs(X:Cx)(pos:Pos)(keys:List (Option jN))(values:List jN)(trs:List (TE×TE)):Prop:=
 ∀(vv:List (jL×Obj))(s:jT)(σ:St)(H:Hp)(Q:List (V×V)->Hp->Prop),Inv X vv σ H s->T5 trs σ H Q->
  xS (xL X.prog X.w) X.A (evalPairs (pairTrees keys values X.env pos)) (λvs s'=>∃ps H',Inv X vv σ H' s'/\VV ps vs/\Q ps H') X.xe s
theorem ZKJ:PPs X pos [] [] []:=λvv s σ H Q I h=>pairTrees_nil_walk ⟨[],H,I,.nil,h⟩
theorem ZO7{k v:jN}{ks:List (Option jN)}{vs:List jN}{tk tv:TE}{trs:List (TE×TE)}(hk:PE X k tk)(hv:PE X v tv)(hr:PPs X pos ks vs trs):
  PPs X pos (vk k::ks) (v::vs) ((tk,tv)::trs):=λvv s σ H Q I h=>
 pairTrees_cons_walk (thn (hk vv s σ H _ I h) λu s1 ⟨x,H1,I1,rx,q1⟩=>thn (hv vv s1 σ H1 _ I1 q1) λw2 s2 ⟨y,H2,I2,ry,q2⟩=>
  thn (hr vv s2 σ H2 _ I2 q2) λws s3 ⟨ps,H3,I3,rel,q3⟩=>⟨(x,y)::ps,H3,I3,.cons ⟨rx,ry⟩ rel,q3⟩)
def La(kvs more:List (Key×V)):List (Key×V):=more.foldl (λacc kv=>putK acc kv.1 kv.2) kvs
theorem KV.merge:∀{more:List (Key×V)}{rs:List (Key×xQ)}{kvs:List (Key×V)}{vs:List (Key×xQ)},KV more rs->KV kvs vs->KV (La kvs more) (merged vs rs):=by
 intro more rs kvs vs r;unfold KV at r
 induction r generalizing kvs vs with
 |nil=>intro q;exact q
 |@cons p q ps qs h t ih=>
  intro r0;have e:KV (putK kvs p.1 p.2) (stored vs q.1 q.2):=by have:=r0.put p.1 h.2;rw[<-h.1];exact this
  exact ih e
theorem ZFX:∀(more kvs:List (Key×V)),(La kvs more).length<=kvs.length+more.length
 |[],kvs=>by show kvs.length<=kvs.length+0;lia
 |p::r,kvs=>by have h1:=ZFX r (putK kvs p.1 p.2);have h2:=ZQF kvs p.1 p.2;show(La (putK kvs p.1 p.2) r).length<=_;rw[zO];lia
theorem ZGP{P:jR}{w:xZ}:∀{kvs:List (Key×V)}{ws:List (xQ×xQ)},VV (kvs.map λkv=>(kV kv.1,kv.2)) ws->∃rs,Carries (Ft P w) ws rs/\KV kvs rs
 |[],_,r=>by rw[jy]at r;cases r;exact⟨[],True.intro,.nil⟩
 | p::kvs,_,r=>by
  rw[zk]at r;cases r with
  |@cons a b as bs h t=>
   obtain⟨rs,c,q⟩:=ZGP (P:=P) (w:=w) t;obtain⟨b1,b2⟩:=b;exact⟨(p.1,b2)::rs,⟨Zf h.1,rfl,c⟩,.cons ⟨rfl,h.2⟩ q⟩
def ZJN(trs:List (TE×TE)):TE:=λσ H Q=>∀p,H p=v4->T5 trs σ (upd H p (.dK [])) λps H2=>H2 p=vk (.dK [])/\∃kvs:List (Key×V),ps=kvs.map (λkv=>(kV kv.1,kv.2))/\kvs.length<=15/\Q (.ref p) (upd H2 p (.dK (La [] kvs)))
theorem ZJv{keys:List (Option jN)}{values:List jN}{trs:List (TE×TE)}(h:PPs X pos keys values trs)(hall:keys.all (·.isSome)=v5)(hl:keys.length=values.length)(h0:keys≠[])
  (h15:keys.length<=15):PE X (.Dict keys values pos) (ZJN trs):=by
 intro vv s σ H Q I q;have hn:=I.hok.fresh (zY s.heap.objs.size);have I1:=I.laid (a:=s.heap.objs.size) (o:=.dK []) (h':=s.heap.push {cls:=.type "dict",data:=.dict #[]}) (t':=s.toks) (λ_ _ q=>zQ _ q) (zY _) (ZO4 s.heap I.big);refine wpAny_Dict_walk (knd:=Ft X.prog X.w) hall hl h0 h15 (thn (h vv _ σ _ _ I1 (q _ hn)) λws s2 ⟨ps,H2,I2,rel,e,kvs,ep,lk,q2⟩=>?_)
 subst ep;obtain⟨rs,c,rk⟩:=ZGP (P:=X.prog) (w:=X.w) rel;obtain⟨z,hd,vs0,r0,dd⟩:=ZNh I2.hok e;cases r0;refine⟨rs,c,dd,λh' dd' hs=>⟨.ref s.heap.objs.size,_,?_,rfl,q2⟩⟩;have hz:(La [] kvs).length<=sizeLine:=by have h1:=ZFX kvs [];rw[qU]at h1;rw[xN];lia
 have he:∃q,h'.get? s.heap.objs.size=vk q:=let⟨q,_,_,hq,_⟩:=dd';⟨q,hq⟩;exact ZPu I2 (by rw[e];exact True.intro) hs he (ZMG hz hd (rk.merge .nil) dd')
section
variable{X:Cx}{vv:List (jL×Obj)}{σ:St}{H:Hp}{s:jT}{a:jL}{y d:V}{u r:xQ}{o:Option V}{A:jM}{E:xQ->jT->Prop}
end
section
variable{X:Cx}{o e f:jN}{apos cpos:Pos}{td ty tx:TE}
end
section
variable{X:Cx}{vv:List (jL×Obj)}{σ:St}{H:Hp}{s:jT}{a:jL}{kvs:List (Key×V)}{A:jM}{E:xQ->jT->Prop}
end
section
variable{X:Cx}{vv:List (jL×Obj)}{σ:St}{H:Hp}{s:jT}{a:jL}{y:V}{u:xQ}{A:jM}{E:xQ->jT->Prop}
end
section
variable{X:Cx}
end
end _L
namespace _L
section
variable{κ:Type}[DecidableEq κ]
end
end _L
namespace _D
open PySem PySem.Spec _L
open PyProof.Rows hiding St
variable{α β:Type}{H:Hp}{p:jL}{v y:V}{vs:List V}{σ:St}{E:XK}{Q:VK}{W:Ends}{e tg:jN}{ho:HO}{i j nt:Nat}{x:Str}{A:jM}{s:jT}{P:jR}{w:xZ}{scope:jS}{env:Env}{X:Cx}
inductive D where
 |non|bl (b:Bool)|int (i:Int)|str (x:Str)|ty (n:String)
 |tup (xs:List D)
 |fl (xs:List D)
 |ref (i:Nat)
variable{d:D}{ds xs:List D}{kvs:List (Key×D)}
inductive DO where
 |lst (xs:List D)
 |dct (kvs:List (Key×D))
 |ins (c:Str) (fs:List (Str×D))
 |tab (c m:Str)
 |exc (c:Str) (fs:List (Str×D))
 |gone
variable{o:DO}
noncomputable abbrev DH:=List DO
variable{G G' L:DH}
noncomputable abbrev DSt:=List (Option D)
variable{S:DSt}
structure Xn where
 cls:Str
 fs:List (Str×D)
inductive R (α:Type) where
 |ok (a:α) (G:DH)
 |err (x:Xn) (G:DH)
 |bad
variable{r:R D}{f:D->D->DH->R D}
noncomputable def R.bind{α β:Type}(r:R α)(f:α->DH->R β):R β:=match r with
 |.ok a G=>f a G
 |.err x G=>.err x G
 |.bad=>.bad
@[simp]theorem R.Hl(a:α)(G:DH)(f:α->DH->R β):(R.ok a G).bind f=f a G:=id rfl
@[simp]theorem R.ZQq(f:α->DH->R β):(R.bad:R α).bind f=.bad:=id rfl
inductive SR where
 |nx (S:DSt) (G:DH)
 |rt (d:D) (G:DH)
 |bk (S:DSt) (G:DH)
 |ct (S:DSt) (G:DH)
 |err (x:Xn) (G:DH)
 |bad
noncomputable abbrev DE:=DSt->DH->R D
variable{t te:DE}
noncomputable abbrev DB:=DSt->DH->R Bool
noncomputable abbrev DA:=DSt->DH->R (List D)
noncomputable abbrev DS:=DSt->DH->SR
variable{u:DS}
def FzL(K:PySem.W.Frag)(H:Hp)(a:jL)(xs:List V):Prop:=
 (∃o,H a=vk (.frz o (.lst xs)))∨
  ∃(o:Obj)(its:Array xQ)(n:Nat),K.lookup a=vk o/\o.cls=.type "list"/\o.dict=v4/\o.data=.seq its n/\its.size<=sizeLine/\Vals xs its.toList
theorem FzL.sq{K:PySem.W.Frag}{a:jL}{xs:List V}(h:FzL K H a xs):SqL K H a xs:=by
 rcases h with⟨o,h⟩|h
 ·exact .inl (.inr ⟨o,h⟩)
 ·exact .inr h
structure Wd where
 K:PySem.W.Frag
 n:Nat
 m:Nat->jL
 H:Hp
variable{a b c:Wd}
mutual
def Rep(a:Wd):D->V->Prop
 |.non,v=>v=.non
 |.bl b,v=>v=.bl b
 |.int i,v=>v=.int i
 |.str x,v=>v=.str x
 |.ty n,v=>v=.ty n
 |.tup ds,v=>∃p vs,v=.ref p/\SqT a.K a.H p vs/\Reps a ds vs
 |.fl ds,v=>∃p vs,v=.ref p/\FzL a.K a.H p vs/\Reps a ds vs
 |.ref i,v=>i<a.n/\v=.ref (a.m i)
def Reps(a:Wd):List D->List V->Prop
 |[],vs=>vs=[]
 |d::ds,vs=>∃v r,vs=v::r/\Rep a d v/\Reps a ds r
end
noncomputable def lamQ:Str:="Sending.send_by.<locals>.<lambda>"
def TabOk(H:Hp)(P:jL):Prop:=
 ∃ps:Array xQ,H P=vk (.tbl ps)/\TriplesOk ps.toList/\∀pos cv,codeAmong pos ps.toList=vk cv->∃(c:jL)(oc:Obj)(vs:Array xQ)(t:Tok),cv=.ref c/\H c=vk (.frz oc (.own 0))/\oc.data=.fields vs/\vs[1]?=vk (.str lamQ t)
theorem TabOk.mono{H':Hp}{P:jL}(h:TabOk H P)(ht:∀p ps,H p=vk (.tbl ps)->H' p=vk (.tbl ps))(hf:∀p o u,H p=vk (.frz o u)->H' p=vk (.frz o u)):TabOk H' P:=by obtain⟨ps,e,t,k⟩:=h;refine⟨ps,ht _ _ e,t,λpos cv hc=>?_⟩;obtain⟨c,oc,vs,tk,e1,e2,e3,e4⟩:=k pos cv hc;exact⟨c,oc,vs,tk,e1,hf _ _ _ e2,e3,e4⟩
def TabAt(K:PySem.W.Frag)(C m:Str)(c P:jL):Prop:=
 ∃(Ca f:jL)(oc:xQ)(od:Option jL)(fd:jO)(sl:Array (Option xQ)),PySem.W.nsIn K xI C=vk (vk (.ref Ca))/\PySem.W.findIn K (.ref Ca) m=vk (vk (.ref f))/\K.lookup f=vk ⟨oc,od,.func fd,sl⟩/\fd.code=.ref c/\PySem.W.codeHdIn K c P=v5
structure Ext (a b:Wd):Prop where
 k:b.K=a.K
 n:a.n<=b.n
 m:∀i,i<a.n->b.m i=a.m i
 tup:∀p xs,a.H p=vk (.tup xs)->b.H p=vk (.tup xs)
 frz:∀p o u,a.H p=vk (.frz o u)->b.H p=vk (.frz o u)
 tab:∀p,TabOk a.H p->TabOk b.H p
theorem Ext.refl(a:Wd):Ext a a:=⟨rfl,zY _,λ_ _=>rfl,λ_ _ h=>h,λ_ _ _ h=>h,λ_ h=>h⟩
theorem Ext.trans(x:Ext a b)(y:Ext b c):Ext a c:=
 ⟨y.k.trans x.k,z8 x.n y.n,λi h=>(y.m i (zV h x.n)).trans (x.m i h),λp xs h=>y.tup p xs (x.tup p xs h),λp o u h=>y.frz p o u (x.frz p o u h),λp h=>y.tab p (x.tab p h)⟩
theorem Ext.sqT(x:Ext a b){xs:List V}(h:SqT a.K a.H p xs):SqT b.K b.H p xs:=by
 rcases h with(h|⟨o,h⟩)|h
 ·exact .inl (.inl (x.tup _ _ h))
 ·exact .inl (.inr ⟨o,x.frz _ _ _ h⟩)
 ·exact .inr (by rw[x.k];exact h)
theorem Ext.fzL(x:Ext a b){xs:List V}(h:FzL a.K a.H p xs):FzL b.K b.H p xs:=by
 rcases h with⟨o,h⟩|h
 ·exact .inl ⟨o,x.frz _ _ _ h⟩
 ·exact .inr (by rw[x.k];exact h)
mutual
theorem Rep.mono(x:Ext a b):∀{d:D}{v:V},Rep a d v->Rep b d v
 |.non,_,h=>h
 |.bl _,_,h=>h
 |.int _,_,h=>h
 |.str _,_,h=>h
 |.ty _,_,h=>h
 |.tup ds,v,h=>by obtain⟨p,vs,e,q,r⟩:=h;exact⟨p,vs,e,x.sqT q,Reps.mono x r⟩
 |.fl ds,v,h=>by obtain⟨p,vs,e,q,r⟩:=h;exact⟨p,vs,e,x.fzL q,Reps.mono x r⟩
 |.ref i,v,h=>by obtain⟨l,e⟩:=h;exact⟨zV l x.n,by rw[x.m i l];exact e⟩
theorem Reps.mono(x:Ext a b):∀{ds:List D}{vs:List V},Reps a ds vs->Reps b ds vs
 |[],_,h=>h
 |d::ds,vs,h=>by obtain⟨v,r,e,h1,h2⟩:=h;exact⟨v,r,e,Rep.mono x h1,Reps.mono x h2⟩
end
theorem Reps.length:∀{ds:List D}{vs:List V},Reps a ds vs->ds.length=vs.length
 |[],vs,h=>by cases(show vs=[]from h);rfl
 |d::ds,vs,h=>by obtain⟨v,r,e,h1,h2⟩:=h;subst e;show ds.length+1=r.length+1;rw[Reps.length h2]
theorem Reps.get:∀{ds:List D}{vs:List V}{i:Nat}{d:D},Reps a ds vs->ds[i]?=vk d->∃v,vs[i]?=vk v/\Rep a d v
 |[],vs,_,_,h,e=>by simp at e
 |d::ds,vs,0,d',h,e=>by obtain⟨v,r,e1,h1,h2⟩:=h;subst e1;simp at e;subst e;exact⟨v,rfl,h1⟩
 |d::ds,vs,i+1,d',h,e=>by obtain⟨v,r,e1,h1,h2⟩:=h;subst e1;obtain⟨w,e2,h3⟩:=Reps.get (i:=i) (d:=d') h2 (by simpa using e);exact⟨w,by simpa using e2,h3⟩
theorem Reps.get':∀{ds:List D}{vs:List V}{i:Nat}{v:V},Reps a ds vs->vs[i]?=vk v->∃d,ds[i]?=vk d/\Rep a d v
 |[],vs,_,_,h,e=>by cases(show vs=[]from h);simp at e
 |d::ds,vs,0,v',h,e=>by obtain⟨v,r,e1,h1,h2⟩:=h;subst e1;simp at e;subst e;exact⟨d,rfl,h1⟩
 |d::ds,vs,i+1,v',h,e=>by obtain⟨v,r,e1,h1,h2⟩:=h;subst e1;obtain⟨w,e2,h3⟩:=Reps.get' (i:=i) (v:=v') h2 (by simpa using e);exact⟨w,by simpa using e2,h3⟩
theorem Reps.append:∀{ds es:List D}{vs us:List V},Reps a ds vs->Reps a es us->Reps a (ds++es) (vs++us)
 |[],_,vs,_,h,h'=>by cases(show vs=[]from h);exact h'
 |d::ds,es,vs,us,h,h'=>by obtain⟨v,r,e1,h1,h2⟩:=h;subst e1;exact⟨v,r++us,rfl,h1,Reps.append h2 h'⟩
theorem Reps.cons(h:Rep a d v)(r:Reps a ds vs):Reps a (d::ds) (v::vs):=⟨v,vs,rfl,h,r⟩
theorem Reps.nil:Reps a [] []:=rfl
theorem Reps.set(h:Rep a d v):∀{ds:List D}{vs:List V}(i:Nat),Reps a ds vs->Reps a (ds.set i d) (vs.set i v)
 |[],vs,_,r=>by cases(show vs=[]from r);exact rfl
 |d'::ds,vs,0,r=>by obtain⟨v',r',e1,h1,h2⟩:=r;subst e1;exact⟨v,r',rfl,h,h2⟩
 |d'::ds,vs,i+1,r=>by obtain⟨v',r',e1,h1,h2⟩:=r;subst e1;exact⟨v',r'.set i v,rfl,h1,Reps.set h i h2⟩
theorem Reps.take:∀{ds:List D}{vs:List V}(i:Nat),Reps a ds vs->Reps a (ds.take i) (vs.take i)
 |_,_,0,_=>rfl
 |[],vs,_+1,r=>by cases(show vs=[]from r);exact rfl
 |d'::ds,vs,i+1,r=>by obtain⟨v',r',e1,h1,h2⟩:=r;subst e1;exact⟨v',r'.take i,rfl,h1,Reps.take i h2⟩
theorem Reps.drop:∀{ds:List D}{vs:List V}(i:Nat),Reps a ds vs->Reps a (ds.drop i) (vs.drop i)
 |_,_,0,r=>r
 |[],vs,_+1,r=>by cases(show vs=[]from r);exact rfl
 |d'::ds,vs,i+1,r=>by obtain⟨v',r',e1,h1,h2⟩:=r;subst e1;exact Reps.drop i h2
theorem Reps.ints:∀(ns:List Int),Reps a (ns.map D.int) (ns.map V.int)
 |[]=>rfl
 |n::ns=>⟨.int n,ns.map V.int,rfl,rfl,Reps.ints ns⟩
def RepKV(a:Wd)(kvs:List (Key×D))(us:List (Key×V)):Prop:=kvs.map (·.1)=us.map (·.1)/\Reps a (kvs.map (·.2)) (us.map (·.2))
def RepF(a:Wd)(fs:List (Str×D))(us:List (Str×V)):Prop:=fs.map (·.1)=us.map (·.1)/\Reps a (fs.map (·.2)) (us.map (·.2))
def XD(a:Wd)(od:Option jL)(fs:List (Str×D)):Prop:=(fs=[]/\od=v4)∨∃dx o us,od=vk dx/\a.H dx=vk (.frz o (.xd us))/\RepF a fs us
def ORep(a:Wd):DO->Option HO->Prop
 |.lst ds,o=>∃vs,o=vk (.lst vs)/\Reps a ds vs
 |.dct kvs,o=>∃us,o=vk (.dK us)/\RepKV a kvs us
 |.ins c fs,o=>∃C dx us,PySem.W.nsIn a.K xI c=vk (vk (.ref C))/\o=vk (.ins C dx us)/\RepF a fs us
 |.tab C m,_=>∃c P,TabAt a.K C m c P/\TabOk a.H P
 |.exc c fs,o=>∃C oe u vs,PySem.W.nsIn a.K xI c=vk (vk (.ref C))/\o=vk (.frz oe u)/\oe.cls=.ref C/\oe.data=.fields vs/\XD a oe.dict fs
 |.gone,_=>True
structure Sim (a:Wd) (G:DH):Prop where
 len:G.length=a.n
 inj:∀i j,i<a.n->j<a.n->a.m i=a.m j->i=j
 obj:∀(i:Nat)(o:DO),G[i]?=vk o->ORep a o (a.H (a.m i))
 tr:∀i,i<a.n->a.H (a.m i)≠v4
structure RepS (a:Wd) (S:DSt) (σ:St):Prop where
 len:S.length=σ.length
 get:∀(i:Nat)(d:D),S[i]?=vk (vk d)->∃v,σ[i]?=vk (vk v)/\Rep a d v
theorem RepS.mono(x:Ext a b)(r:RepS a S σ):RepS b S σ:=⟨r.len,λi d h=>let⟨v,e,q⟩:=r.get i d h;⟨v,e,q.mono x⟩⟩
theorem RepS.set(r:RepS a S σ)(i:Nat)(h:Rep a d v):RepS a (S.set i (vk d)) (σ.set i (vk v)):=by
 refine⟨by simpa using r.len,λj e he=>?_⟩;rw[qj]at he⊢;by_cases hij:i=j
 ·subst hij;rw[if_pos rfl]at he⊢;by_cases hl:i<S.length
  ·rw[if_pos hl]at he;have e1:d=e:=by simpa using he
   subst e1;rw[if_pos (by rw[<-r.len];exact hl)];exact⟨v,rfl,h⟩
  ·rw[if_neg hl]at he;cases he
 ·rw[if_neg hij]at he⊢;exact r.get j e he
def XOk(E:XK)(a:Wd)(x:Xn)(G:DH):Prop:=E≠E0/\∀(b:Wd)(C:jL)(od:Option jL),Ext a b->Sim b G->PySem.W.nsIn b.K xI x.cls=vk (vk (.ref C))->XD b od x.fs->E (.ref C) od b.H
def out(E:XK)(a:Wd)(r:R D)(Q:VK):Prop:=match r with
 |.ok d G=>∀(b:Wd)(v:V),Ext a b->Sim b G->Rep b d v->Q v b.H
 |.err x G=>XOk E a x G
 |.bad=>False
def Eu(E:XK)(a:Wd)(r:R Bool)(Q:Bool->Hp->Prop):Prop:=match r with
 |.ok k G=>∀(b:Wd),Ext a b->Sim b G->Q k b.H
 |.err x G=>XOk E a x G
 |.bad=>False
def Eo(E:XK)(a:Wd)(r:R (List D))(Q:List V->Hp->Prop):Prop:=match r with
 |.ok ds G=>∀(b:Wd)(vs:List V),Ext a b->Sim b G->Reps b ds vs->Q vs b.H
 |.err x G=>XOk E a x G
 |.bad=>False
def Bq(E:XK)(a:Wd)(r:SR)(W:Ends):Prop:=match r with
 |.nx S G=>∀(b:Wd)(σ:St),Ext a b->Sim b G->RepS b S σ->W.nx σ b.H
 |.bk S G=>∀(b:Wd)(σ:St),Ext a b->Sim b G->RepS b S σ->W.bk σ b.H
 |.ct S G=>∀(b:Wd)(σ:St),Ext a b->Sim b G->RepS b S σ->W.ct σ b.H
 |.rt d G=>∀(b:Wd)(v:V),Ext a b->Sim b G->Rep b d v->W.rt v b.H
 |.err x G=>XOk E a x G
 |.bad=>False
theorem XOk.mono(x:Ext a b){e:Xn}(h:XOk E a e G):XOk E b e G:=⟨h.1,λc C od y s n q=>h.2 c C od (x.trans y) s n q⟩
theorem out.mono(x:Ext a b)(h:out E a r Q):out E b r Q:=by
 cases r with
 |ok d G=>exact λc v y s q=>h c v (x.trans y) s q
 |err e G=>exact XOk.mono (E:=E) (e:=e) (G:=G) x h
 |bad=>exact h
theorem Eu.mono(x:Ext a b){r:R Bool}{Q:Bool->Hp->Prop}(h:Eu E a r Q):Eu E b r Q:=by
 cases r with
 |ok d G=>exact λc y s=>h c (x.trans y) s
 |err e G=>exact XOk.mono (E:=E) (e:=e) (G:=G) x h
 |bad=>exact h
theorem Eo.mono(x:Ext a b){r:R (List D)}{Q:List V->Hp->Prop}(h:Eo E a r Q):Eo E b r Q:=by
 cases r with
 |ok d G=>exact λc vs y s q=>h c vs (x.trans y) s q
 |err e G=>exact XOk.mono (E:=E) (e:=e) (G:=G) x h
 |bad=>exact h
theorem Bq.mono(x:Ext a b){r:SR}(h:Bq E a r W):Bq E b r W:=by
 cases r with
 |nx d G=>exact λc vs y s q=>h c vs (x.trans y) s q
 |bk d G=>exact λc vs y s q=>h c vs (x.trans y) s q
 |ct d G=>exact λc vs y s q=>h c vs (x.trans y) s q
 |rt d G=>exact λc vs y s q=>h c vs (x.trans y) s q
 |err e G=>exact XOk.mono (E:=E) (e:=e) (G:=G) x h
 |bad=>exact h
def lE(K:PySem.W.Frag)(E:XK)(t:DE):TE:=λσ H Q=>∃(a:Wd)(S:DSt)(G:DH),a.K=K/\a.H=H/\Sim a G/\RepS a S σ/\out E a (t S G) Q
def lB(K:PySem.W.Frag)(E:XK)(t:DB):TT:=λσ H Q=>∃(a:Wd)(S:DSt)(G:DH),a.K=K/\a.H=H/\Sim a G/\RepS a S σ/\Eu E a (t S G) Q
def lA(K:PySem.W.Frag)(E:XK)(t:DA):TA:=λσ H Q=>∃(a:Wd)(S:DSt)(G:DH),a.K=K/\a.H=H/\Sim a G/\RepS a S σ/\Eo E a (t S G) Q
def lS(K:PySem.W.Frag)(E:XK)(t:DS):TS:=λW σ H=>∃(a:Wd)(S:DSt)(G:DH),a.K=K/\a.H=H/\Sim a G/\RepS a S σ/\Bq E a (t S G) W
def lR2(K:PySem.W.Frag)(E:XK)(f:D->D->DH->R D):R2:=λx y H Q=>∃(a:Wd)(G:DH)(d e:D),a.K=K/\a.H=H/\Sim a G/\Rep a d x/\Rep a e y/\out E a (f d e G) Q
def lR1(K:PySem.W.Frag)(E:XK)(f:D->DH->R D):V->Hp->VK->Prop:=λx H Q=>∃(a:Wd)(G:DH)(d:D),a.K=K/\a.H=H/\Sim a G/\Rep a d x/\out E a (f d G) Q
def lRn(K:PySem.W.Frag)(E:XK)(f:List D->DH->R D):List V->Hp->VK->Prop:=λxs H Q=>∃(a:Wd)(G:DH)(ds:List D),a.K=K/\a.H=H/\Sim a G/\Reps a ds xs/\out E a (f ds G) Q
def lF(K:PySem.W.Frag)(f:List D->DH->R D):Sp:=λxs H Q _=>∃(a:Wd)(G:DH)(ds:List D),a.K=K/\a.H=H/\Sim a G/\Reps a ds xs/\out E0 a (f ds G) Q
def lFx(K:PySem.W.Frag)(f:List D->DH->R D):Sp:=λxs H Q E=>∃(a:Wd)(G:DH)(ds:List D),a.K=K/\a.H=H/\Sim a G/\Reps a ds xs/\out E a (f ds G) Q
section
variable{X:Cx}{E:XK}
def QE(X:Cx)(E:XK)(e:jN)(t:DE):Prop:=PE X e (lE X.K E t)
def QT(X:Cx)(E:XK)(e:jN)(t:DB):Prop:=PT X e (lB X.K E t)
def QA(X:Cx)(E:XK)(es:List jN)(t:DA):Prop:=PA X es (lA X.K E t)
def QS(X:Cx)(E:XK)(st:jU)(t:DS):Prop:=PS X st (lS X.K E t)
def QSs(X:Cx)(E:XK)(st:List jU)(t:DS):Prop:=PSs X st (lS X.K E t)
theorem _root_._L.PE.mono{t t':TE}(h:PE X e t)(w:∀σ H Q,t' σ H Q->t σ H Q):PE X e t':=λvv s σ H Q I q=>h vv s σ H Q I (w σ H Q q)
theorem _root_._L.PT.mono{t t':TT}(h:PT X e t)(w:∀σ H Q,t' σ H Q->t σ H Q):PT X e t':=λvv s σ H Q I q=>h vv s σ H Q I (w σ H Q q)
theorem _root_._L.PA.mono{e:List jN}{t t':TA}(h:PA X e t)(w:∀σ H Q,t' σ H Q->t σ H Q):PA X e t':=λpos vv s σ H Q I q=>h pos vv s σ H Q I (w σ H Q q)
theorem _root_._L.PS.mono{e:jU}{t t':TS}(h:PS X e t)(w:∀W σ H,t' W σ H->t W σ H):PS X e t':=λvv s σ H W I q=>h vv s σ H W I (w W σ H q)
theorem _root_._L.PSs.mono{e:List jU}{t t':TS}(h:PSs X e t)(w:∀W σ H,t' W σ H->t W σ H):PSs X e t':=λvv s σ H W I q=>h vv s σ H W I (w W σ H q)
theorem _root_._L.OpR.mono{f:xQ->xQ->Sem xQ}{r r':R2}(h:OpR X f r)(w:∀x y H Q,r' x y H Q->r x y H Q):OpR X f r':=λvv s σ H x y v u Q I rx ry q=>h vv s σ H x y v u Q I rx ry (w _ _ _ _ q)
end
theorem Dr{f:D->DH->R D}(h:out E a (r.bind f) Q):
  out E a r (λv H=>∃(b:Wd)(d:D)(G:DH),b.H=H/\Ext a b/\Sim b G/\Rep b d v/\r=.ok d G/\out E b (f d G) Q):=by
 cases r with
 |ok d G=>exact λb v x s q=>⟨b,d,G,rfl,x,s,q,rfl,out.mono x h⟩
 |err e G=>exact h
 |bad=>exact h
theorem Kc{r:R (List D)}{f:List D->DH->R D}(h:out E a (r.bind f) Q):
  Eo E a r (λvs H=>∃(b:Wd)(ds:List D)(G:DH),b.H=H/\Ext a b/\Sim b G/\Reps b ds vs/\r=.ok ds G/\out E b (f ds G) Q):=by
 cases r with
 |ok d G=>exact λb v x s q=>⟨b,d,G,rfl,x,s,q,rfl,out.mono x h⟩
 |err e G=>exact h
 |bad=>exact h
theorem ZCd{r:R Bool}{f:Bool->DH->R D}(h:out E a (r.bind f) Q):
  Eu E a r (λk H=>∃(b:Wd)(G:DH),b.H=H/\Ext a b/\Sim b G/\r=.ok k G/\out E b (f k G) Q):=by
 cases r with
 |ok d G=>exact λb x s=>⟨b,G,rfl,x,s,rfl,out.mono x h⟩
 |err e G=>exact h
 |bad=>exact h
theorem ZPQ{f:D->DH->R Bool}{Q:Bool->Hp->Prop}(h:Eu E a (r.bind f) Q):
  out E a r (λv H=>∃(b:Wd)(d:D)(G:DH),b.H=H/\Ext a b/\Sim b G/\Rep b d v/\r=.ok d G/\Eu E b (f d G) Q):=by
 cases r with
 |ok d G=>exact λb v x s q=>⟨b,d,G,rfl,x,s,q,rfl,Eu.mono x h⟩
 |err e G=>exact h
 |bad=>exact h
theorem ZFN{r:R Bool}{f:Bool->DH->R Bool}{Q:Bool->Hp->Prop}(h:Eu E a (r.bind f) Q):
  Eu E a r (λk H=>∃(b:Wd)(G:DH),b.H=H/\Ext a b/\Sim b G/\r=.ok k G/\Eu E b (f k G) Q):=by
 cases r with
 |ok d G=>exact λb x s=>⟨b,G,rfl,x,s,rfl,Eu.mono x h⟩
 |err e G=>exact h
 |bad=>exact h
theorem ZLv{f:D->DH->R (List D)}{Q:List V->Hp->Prop}(h:Eo E a (r.bind f) Q):
  out E a r (λv H=>∃(b:Wd)(d:D)(G:DH),b.H=H/\Ext a b/\Sim b G/\Rep b d v/\r=.ok d G/\Eo E b (f d G) Q):=by
 cases r with
 |ok d G=>exact λb v x s q=>⟨b,d,G,rfl,x,s,q,rfl,Eo.mono x h⟩
 |err e G=>exact h
 |bad=>exact h
theorem ZPF{r:R (List D)}{f:List D->DH->R (List D)}{Q:List V->Hp->Prop}(h:Eo E a (r.bind f) Q):
  Eo E a r (λvs H=>∃(b:Wd)(ds:List D)(G:DH),b.H=H/\Ext a b/\Sim b G/\Reps b ds vs/\r=.ok ds G/\Eo E b (f ds G) Q):=by
 cases r with
 |ok d G=>exact λb v x s q=>⟨b,d,G,rfl,x,s,q,rfl,Eo.mono x h⟩
 |err e G=>exact h
 |bad=>exact h
noncomputable def R.toS{α:Type}(r:R α)(f:α->DH->SR):SR:=match r with
 |.ok a G=>f a G
 |.err x G=>.err x G
 |.bad=>.bad
@[simp]theorem R.Gb(a:α)(G:DH)(f:α->DH->SR):(R.ok a G).toS f=f a G:=id rfl
@[simp]theorem R.ZQj(x:Xn)(G:DH)(f:α->DH->SR):(R.err x G:R α).toS f=.err x G:=id rfl
@[simp]theorem R.ZRJ(f:α->DH->SR):(R.bad:R α).toS f=.bad:=id rfl
theorem Ge{f:D->DH->SR}(h:Bq E a (r.toS f) W):
  out E a r (λv H=>∃(b:Wd)(d:D)(G:DH),b.H=H/\Ext a b/\Sim b G/\Rep b d v/\r=.ok d G/\Bq E b (f d G) W):=by
 cases r with
 |ok d G=>exact λb v x s q=>⟨b,d,G,rfl,x,s,q,rfl,Bq.mono x h⟩
 |err e G=>exact h
 |bad=>exact h
theorem ZD5{r:R Bool}{f:Bool->DH->SR}(h:Bq E a (r.toS f) W):
  Eu E a r (λk H=>∃(b:Wd)(G:DH),b.H=H/\Ext a b/\Sim b G/\r=.ok k G/\Bq E b (f k G) W):=by
 cases r with
 |ok d G=>exact λb x s=>⟨b,G,rfl,x,s,rfl,Bq.mono x h⟩
 |err e G=>exact h
 |bad=>exact h
section
theorem out.imp{Q':VK}(h:out E a r Q)(w:∀v H,Q v H->Q' v H):out E a r Q':=by
 cases r with
 |ok d G=>exact λb v x s q=>w _ _ (h b v x s q)
 |err e G=>exact h
 |bad=>exact h
theorem Eo.imp{r:R (List D)}{Q Q':List V->Hp->Prop}(h:Eo E a r Q)(w:∀v H,Q v H->Q' v H):Eo E a r Q':=by
 cases r with
 |ok d G=>exact λb v x s q=>w _ _ (h b v x s q)
 |err e G=>exact h
 |bad=>exact h
theorem Eu.imp{r:R Bool}{Q Q':Bool->Hp->Prop}(h:Eu E a r Q)(w:∀v H,Q v H->Q' v H):Eu E a r Q':=by
 cases r with
 |ok d G=>exact λb x s=>w _ _ (h b x s)
 |err e G=>exact h
 |bad=>exact h
def Wd.push(a:Wd)(p:jL)(ho:HO):Wd:=⟨a.K,a.n+1,λk=>if k=a.n then p else a.m k,upd a.H p ho⟩
def Wd.put(a:Wd)(p:jL)(ho:HO):Wd:={a with H:=upd a.H p ho}
theorem Ext.put(h:a.H p=v4):Ext a (a.put p ho):=
 ⟨rfl,zY _,λ_ _=>rfl,λq xs e=>by show upd a.H p ho q=_;rw[Ax (Ga e h)];exact e,λq o u e=>by show upd a.H p ho q=_;rw[Ax (Ga e h)];exact e,λ_ t=>t.mono (λq ps e=>by show upd a.H p ho q=_;rw[Ax (Ga e h)];exact e) (λq o u e=>by show upd a.H p ho q=_;rw[Ax (Ga e h)];exact e)⟩
theorem Ext.push(h:a.H p=v4):Ext a (a.push p ho):=
 ⟨rfl,qR _,λi hi=>by show(if i=a.n then p else a.m i)=a.m i;rw[if_neg (z9 hi)],λq xs e=>by show upd a.H p ho q=_;rw[Ax (Ga e h)];exact e,λq o u e=>by show upd a.H p ho q=_;rw[Ax (Ga e h)];exact e,λ_ t=>t.mono (λq ps e=>by show upd a.H p ho q=_;rw[Ax (Ga e h)];exact e) (λq o u e=>by show upd a.H p ho q=_;rw[Ax (Ga e h)];exact e)⟩
theorem XD.mono(x:Ext a b){od:Option jL}{fs:List (Str×D)}(h:XD a od fs):XD b od fs:=by
 rcases h with h|⟨dx,o,us,e,f,k,r⟩
 ·exact .inl h
 ·exact .inr ⟨dx,o,us,e,x.frz _ _ _ f,k,r.mono x⟩
theorem ORep.mono(x:Ext a b){q:Option HO}(h:ORep a o q):ORep b o q:=by
 cases o with
 |lst ds=>obtain⟨vs,e,r⟩:=h;exact⟨vs,e,r.mono x⟩
 |dct kvs=>obtain⟨us,e,k,r⟩:=h;exact⟨us,e,k,r.mono x⟩
 |ins c fs=>obtain⟨C,dx,us,n,e,k,r⟩:=h;exact⟨C,dx,us,by rw[x.k];exact n,e,k,r.mono x⟩
 |tab C m=>obtain⟨c,P,e,t⟩:=h;exact⟨c,P,by rw[x.k];exact e,x.tab _ t⟩
 |exc c fs=>obtain⟨C,oe,u,vs,n,e,k1,k2,z⟩:=h;exact⟨C,oe,u,vs,by rw[x.k];exact n,e,k1,k2,z.mono x⟩
 |gone=>trivial
theorem Sim.lt(s:Sim a G)(h:G[i]?=vk o):i<a.n:=by rw[<-s.len];exact(zD.mp h).1
theorem Sim.put(s:Sim a G)(h:a.H p=v4):Sim (a.put p ho) G:=by
 refine⟨s.len,s.inj,λi o e=>?_,λi hi=>?_⟩
 ·have z:a.H (a.m i)≠v4:=s.tr i (s.lt e);have ne:a.m i≠p:=λq=>z (by rw[q];exact h)
  show ORep _ o (upd a.H p ho (a.m i));rw[Ax ne];exact(s.obj i o e).mono (Ext.put h)
 ·have z:a.H (a.m i)≠v4:=s.tr i hi;have ne:a.m i≠p:=λq=>z (by rw[q];exact h)
  show upd a.H p ho (a.m i)≠v4;rw[Ax ne];exact z
theorem Sim.push(s:Sim a G)(h:a.H p=v4)(r:ORep (a.push p ho) o (vk ho)):Sim (a.push p ho) (G++[o]):=by
 have nep:∀i,i<a.n->a.m i≠p:=λi hi q=>s.tr i hi (by rw[q];exact h)
 have old:∀i,i<a.n->(a.push p ho).m i=a.m i:=λi hi=>by show(if i=a.n then p else a.m i)=_;rw[if_neg (z9 hi)]
 have new:(a.push p ho).m a.n=p:=by show(if a.n=a.n then p else a.m a.n)=_;rw[if_pos rfl]
 refine⟨by simp[s.len,Wd.push],λi j hi hj e=>?_,λi u e=>?_,λi hi=>?_⟩
 ·have hi':i<a.n+1:=hi;have hj':j<a.n+1:=hj;by_cases h1:i<a.n
  ·by_cases h2:j<a.n
   ·rw[old i h1,old j h2]at e;exact s.inj i j h1 h2 e
   ·have:j=a.n:=by lia
    subst this;rw[old i h1,new]at e;exact absurd e (nep i h1)
  ·have:i=a.n:=by lia
   subst this;by_cases h2:j<a.n
   ·rw[old j h2,new]at e;exact absurd e.symm (nep j h2)
   ·lia
 ·by_cases h1:i<a.n
  ·rw[zL (by rw[s.len];exact h1)]at e;rw[old i h1];show ORep _ u (upd a.H p ho (a.m i));rw[Ax (nep i h1)];exact(s.obj i u e).mono (Ext.push h)
  ·have hl:i<(G++[o]).length:=(zD.mp e).1;have:i=a.n:=by rw[zH,s.len]at hl;simp at hl;lia
   subst this;rw[zC (by rw[s.len];exact zY _),s.len]at e;simp at e;subst e;rw[new];show ORep _ o (upd a.H p ho p);rw[Dv];exact r
 ·have hi':i<a.n+1:=hi;by_cases h1:i<a.n
  ·rw[old i h1];show upd a.H p ho (a.m i)≠v4;rw[Ax (nep i h1)];exact s.tr i h1
  ·have:i=a.n:=by lia
   subst this;rw[new];show upd a.H p ho p≠v4;rw[Dv];simp
theorem Ext.wr(h:a.H p=vk (.lst vs)):Ext a (a.put p ho):=
 ⟨rfl,zY _,λ_ _=>rfl,λq xs e=>by
  show upd a.H p ho q=_;rw[Ax (λz=>by subst z;rw[h]at e;cases e)];exact e,λq o u e=>by
  show upd a.H p ho q=_;rw[Ax (λz=>by subst z;rw[h]at e;cases e)];exact e,λ_ t=>t.mono (λq ps e=>by show upd a.H p ho q=_;rw[Ax (λz=>by subst z;rw[h]at e;cases e)];exact e) (λq o u e=>by show upd a.H p ho q=_;rw[Ax (λz=>by subst z;rw[h]at e;cases e)];exact e)⟩
theorem Sim.wr(s:Sim a G)(hi:i<a.n){vs':List V}{ds':List D}(h:a.H (a.m i)=vk (.lst vs))(r:Reps (a.put (a.m i) (.lst vs')) ds' vs'):Sim (a.put (a.m i) (.lst vs')) (G.set i (.lst ds')):=by
 refine⟨by rw[qT];exact s.len,s.inj,λj o e=>?_,λj hj=>?_⟩
 ·rw[qj]at e;show ORep _ o (upd a.H (a.m i) (.lst vs') (a.m j));by_cases hij:i=j
  ·subst hij;rw[if_pos rfl,if_pos (by rw[s.len];exact hi)]at e;cases e;rw[Dv];exact⟨vs',rfl,r⟩
  ·rw[if_neg hij]at e;rw[Ax λz=>hij (s.inj _ _ (s.lt e) hi z).symm];exact(s.obj j o e).mono (Ext.wr h)
 ·show upd a.H (a.m i) (.lst vs') (a.m j)≠v4;by_cases hij:a.m j=a.m i
  ·rw[hij,Dv];simp
  ·rw[Ax hij];exact s.tr j hj
mutual
noncomputable def bel(n:Nat):D->Bool
 |.ref i=>decide (i<n)
 |.tup ds=>bels n ds
 |.fl ds=>bels n ds
 |_=>v5
noncomputable def bels(n:Nat):List D->Bool
 |[]=>v5
 |d::ds=>bel n d&&bels n ds
end
def Kq(n:Nat):DO->Bool
 |.lst ds=>bels n ds
 |.dct kvs=>bels n (kvs.map (·.2))
 |.ins _ fs=>bels n (fs.map (·.2))
 |.tab _ _=>v5
 |.exc _ fs=>bels n (fs.map (·.2))
 |.gone=>v5
mutual
theorem Rep.bel:∀{d:D}{v:V},Rep a d v->bel a.n d=v5
 |.non,_,_=>by simp[_D.bel]
 |.bl _,_,_=>by simp[_D.bel]
 |.int _,_,_=>by simp[_D.bel]
 |.str _,_,_=>by simp[_D.bel]
 |.ty _,_,_=>by simp[_D.bel]
 |.tup ds,v,h=>by obtain⟨p,vs,e,q,r⟩:=h;simp only[_D.bel];exact Reps.bels r
 |.fl ds,v,h=>by obtain⟨p,vs,e,q,r⟩:=h;simp only[_D.bel];exact Reps.bels r
 |.ref i,v,h=>by obtain⟨l,e⟩:=h;simp only[_D.bel];exact decide_eq_true l
theorem Reps.bels:∀{ds:List D}{vs:List V},Reps a ds vs->bels a.n ds=v5
 |[],_,_=>by simp[_D.bels]
 |d::ds,vs,h=>by
  obtain⟨v,r,e,h1,h2⟩:=h;simp only[_D.bels];rw[Rep.bel h1,Reps.bels h2]
  rfl
end
structure Cut (b c:Wd):Prop where
 k:c.K=b.K
 h:c.H=b.H
mutual
theorem Rep.cut(x:Cut b c){n:Nat}(hn:n<=c.n)(hm:∀i,i<n->c.m i=b.m i):∀{d:D}{v:V},Rep b d v->bel n d=v5->Rep c d v
 |.non,_,h,_=>h
 |.bl _,_,h,_=>h
 |.int _,_,h,_=>h
 |.str _,_,h,_=>h
 |.ty _,_,h,_=>h
 |.tup ds,v,h,q=>by obtain⟨p,vs,e,t,r⟩:=h;simp only[_D.bel]at q;exact⟨p,vs,e,by rw[x.k,x.h];exact t,Reps.cut x hn hm r q⟩
 |.fl ds,v,h,q=>by obtain⟨p,vs,e,t,r⟩:=h;simp only[_D.bel]at q;exact⟨p,vs,e,by rw[x.k,x.h];exact t,Reps.cut x hn hm r q⟩
 |.ref i,v,h,q=>by obtain⟨l,e⟩:=h;simp only[_D.bel]at q;have q':=of_decide_eq_true q;exact⟨zV q' hn,by rw[hm i q'];exact e⟩
theorem Reps.cut(x:Cut b c){n:Nat}(hn:n<=c.n)(hm:∀i,i<n->c.m i=b.m i):∀{ds:List D}{vs:List V},Reps b ds vs->bels n ds=v5->Reps c ds vs
 |[],_,h,_=>h
 |d::ds,vs,h,q=>by obtain⟨v,r,e,h1,h2⟩:=h;simp only[_D.bels,z5]at q;exact⟨v,r,e,Rep.cut x hn hm h1 q.1,Reps.cut x hn hm h2 q.2⟩
end
theorem ORep.cut(x:Cut b c){n:Nat}(hn:n<=c.n)(hm:∀i,i<n->c.m i=b.m i){q:Option HO}(h:ORep b o q)(l:Kq n o=v5):ORep c o q:=by
 cases o with
 |lst ds=>obtain⟨vs,e,r⟩:=h;exact⟨vs,e,Reps.cut x hn hm r l⟩
 |dct kvs=>obtain⟨us,e,k,r⟩:=h;exact⟨us,e,k,Reps.cut x hn hm r l⟩
 |ins c fs=>obtain⟨C,dx,us,n,e,k,r⟩:=h;exact⟨C,dx,us,by rw[x.k];exact n,e,k,Reps.cut x hn hm r l⟩
 |tab C m=>obtain⟨c,P,e,t⟩:=h;exact⟨c,P,by rw[x.k];exact e,by rw[x.h];exact t⟩
 |exc c fs=>
  obtain⟨C,oe,u,vs,n,e,k1,k2,z⟩:=h;refine⟨C,oe,u,vs,by rw[x.k];exact n,e,k1,k2,?_⟩;rcases z with z|⟨dx,o,us,e,f,k,r⟩
  ·exact .inl z
  ·exact .inr ⟨dx,o,us,e,by rw[x.h];exact f,k,Reps.cut x hn hm r l⟩
 |gone=>trivial
theorem ORep.Kq{q:Option HO}(h:ORep a o q):Kq a.n o=v5:=by
 cases o with
 |lst ds=>obtain⟨vs,e,r⟩:=h;exact r.bels
 |dct kvs=>obtain⟨us,e,k,r⟩:=h;exact r.bels
 |ins c fs=>obtain⟨C,dx,us,n,e,k,r⟩:=h;exact r.bels
 |tab C m=>rfl
 |exc c fs=>
  obtain⟨C,oe,u,vs,n,e,k1,k2,z⟩:=h;rcases z with⟨z,_⟩|⟨dx,o,us,e,f,k,r⟩
  ·rw[z];rfl
  ·exact r.bels
 |gone=>rfl
open Classical in
def tidy (G:DH) (r:R D):R D:=match r with
 | .ok d G'=>if G'.take G.length=G then
   (if bel G.length d=v5 then .ok d G else match d with
    |.ref i=>match G'[i]? with
     |some o=>if Kq G.length o=v5 then .ok (.ref G.length) (G++[o])else .ok d G'
     |none=>.ok d G'
    |_=>.ok d G')else .ok d G'
 |r=>r
theorem Th (s:Sim a G) (h:out E a (tidy G r) Q):out E a r Q:=by
 cases r with
 |err e G'=>exact h
 |bad=>exact h
 | ok d G'=>
  intro b v x sb rb;unfold tidy at h;dsimp only at h;split at h
  ·rename_i hG;have hlen:∀i o,G[i]?=vk o->G'[i]?=vk o:=λi o e=>by have hi:i<G.length:=(zD.mp e).1;rw[<-hG,jQ hi]at e;exact e
   have base:∀(c:Wd),Cut b c->a.n<=c.n->(∀i,i<a.n->c.m i=b.m i)->∀i o,G[i]?=vk o->ORep c o (c.H (c.m i)):=λc cc hn hm i o e=>by have q:=sb.obj i o (hlen i o e);rw[cc.h,hm i (s.lt e)];exact q.cut cc hn hm (s.obj i o e).Kq
   split at h
   ·rename_i hb;rw[s.len]at hb;let c:Wd:=⟨b.K,a.n,b.m,b.H⟩;have cc:Cut b c:=⟨rfl,rfl⟩;refine h c v ⟨x.k,zY _,x.m,x.tup,x.frz,x.tab⟩ ⟨s.len,λi j hi hj=>sb.inj i j (zV hi x.n) (zV hj x.n),base c cc (zY _) (λ_ _=>rfl),λi hi=>sb.tr i (zV hi x.n)⟩ ?_;exact rb.cut cc (zY _) (λ_ _=>rfl) hb
   ·rename_i hb;split at h
    ·rename_i i;obtain⟨il,iv⟩:=rb;split at h
     ·rename_i o ho;split at h
      ·rename_i hbo;rw[s.len]at hbo hb h;simp only[_D.bel,decide_eq_true_eq]at hb;let c:Wd:=⟨b.K,a.n+1,λk=>if k=a.n then b.m i else b.m k,b.H⟩;have cc:Cut b c:=⟨rfl,rfl⟩;have cm:∀j,j<a.n->c.m j=b.m j:=λj hj=>by show(if j=a.n then b.m i else b.m j)=_;rw[if_neg (z9 hj)]
       have cn:c.m a.n=b.m i:=by show(if a.n=a.n then b.m i else b.m a.n)=_;rw[if_pos rfl]
       have lt':∀j,j<a.n->j<b.n:=λj hj=>zV hj x.n
       refine h c v ⟨x.k,qR _,λj hj=>(cm j hj).trans (x.m j hj),x.tup,x.frz,x.tab⟩ ⟨by simp[s.len,c],λj k hj hk e=>?_,λj u e=>?_,λj hj=>?_⟩ ⟨zI _,by rw[cn];exact iv⟩
       ·have hj':j<a.n+1:=hj;have hk':k<a.n+1:=hk;by_cases h1:j<a.n
        ·by_cases h2:k<a.n
         ·rw[cm j h1,cm k h2]at e;exact sb.inj j k (lt' j h1) (lt' k h2) e
         ·have:k=a.n:=by lia
          subst this;rw[cm j h1,cn]at e;have:=sb.inj j i (lt' j h1) il e;lia
        ·have:j=a.n:=by lia
         subst this;by_cases h2:k<a.n
         ·rw[cm k h2,cn]at e;have:=sb.inj i k il (lt' k h2) e;lia
         ·lia
       ·by_cases h1:j<a.n
        ·rw[zL (by rw[s.len];exact h1)]at e;exact base c cc (qR _) cm j u e
        ·have hl:j<(G++[o]).length:=(zD.mp e).1;have:j=a.n:=by rw[zH,s.len]at hl;simp at hl;lia
         subst this;rw[zC (by rw[s.len];exact zY _),s.len]at e;simp at e;subst e;rw[cn];exact(sb.obj i o ho).cut cc (qR _) cm hbo
       ·have hj':j<a.n+1:=hj;by_cases h1:j<a.n
        ·rw[cm j h1];exact sb.tr j (lt' j h1)
        ·have:j=a.n:=by lia
         subst this;rw[cn];exact sb.tr i il
      ·exact h b v x sb ⟨il,iv⟩
     ·exact h b v x sb ⟨il,iv⟩
    ·exact h b v x sb rb
  ·exact h b v x sb rb
end
noncomputable def dV(i:Nat):DE:=λS G=>match S[i]? with
 |some (vk d)=>.ok d G
 |_=>.bad
noncomputable def dC(d:D):DE:=λ_ G=>.ok d G
def dOp(f:D->D->DH->R D)(a b:DE):DE:=λS G=>(a S G).bind λx G1=>(b S G1).bind λy G2=>f x y G2
def dUn(f:D->DH->R D)(a:DE):DE:=λS G=>(a S G).bind f
noncomputable def Ad:DA:=λ_ G=>.ok [] G
def Ab(a:DE)(r:DA):DA:=λS G=>(a S G).bind λx G1=>(r S G1).bind λxs G2=>.ok (x::xs) G2
def dFn(f:List D->DH->R D)(t:DA):DE:=λS G=>(t S G).bind f
def Ec(t:DE):DE:=λS G=>tidy G (t S G)
def asB:D->DH->R Bool
 |.bl k,G=>.ok k G
 |_,_=>.bad
def Ay(t:DE):DB:=λS G=>(t S G).bind asB
def dOr(t u:DB):DB:=λS G=>(t S G).bind λk G1=>if k=v5 then .ok v5 G1 else u S G1
def Jt(t:DB):DB:=λS G=>(t S G).bind λk G1=>.ok (!k) G1
def Rb(t u:DE):DE:=λS G=>(t S G).bind λx G1=>(asB x G1).bind λk G2=>if k=v5 then u S G2 else .ok (.bl v6) G2
def ZAJ(t u:DE):DE:=λS G=>(t S G).bind λx G1=>(asB x G1).bind λk G2=>if k=v5 then .ok (.bl v5) G2 else u S G2
def Ym(t:DE):DE:=λS G=>(t S G).bind λx G1=>(asB x G1).bind λk G2=>.ok (.bl (!k)) G2
def dIf(c:DB)(t u:DE):DE:=λS G=>(c S G).bind λk G1=>if k=v5 then t S G1 else u S G1
def Nv(f g:D->D->DH->R D)(a b c:DE):DE:=λS G=>(a S G).bind λx G1=>(b S G1).bind λy G2=>(f x y G2).bind λz G3=>(asB z G3).bind λk G4=>
 if k=v5 then(c S G4).bind λw G5=>g y w G5 else .ok (.bl v6) G4
noncomputable def Bf(ds:List D)(G:DH):R D:=if ds.length<=1000000 then .ok (.tup ds) G else .bad
noncomputable def Bg(ds:List D)(G:DH):R D:=if ds.length<=1000000 then .ok (.ref G.length) (G++[.lst ds])else .bad
noncomputable def Bj(d:D)(G:DH):Option (List D):=match d with
 |.tup xs=>vk xs
 |.fl xs=>vk xs
 |.ref i=>match G[i]? with
  |some (.lst xs)=>vk xs
  |_=>v4
 |_=>v4
theorem size6:(1000000:Nat)<=sizeLine:=by decide
section
variable{X:Cx}{E:XK}{a b c:jN}{ta tb tc:DE}{pos:Pos}
theorem two{K:PySem.W.Frag}(h:lE K E (dOp f ta tb) σ H Q):tOp (lR2 K E f) (lE K E ta) (lE K E tb) σ H Q:=by obtain⟨a,S,G,hk,rfl,s,r,h⟩:=h;refine⟨a,S,G,hk,rfl,s,r,(Dr h).imp ?_⟩;rintro v _ ⟨b,d,G1,rfl,x,s1,q,_,h1⟩;refine⟨b,S,G1,x.k.trans hk,rfl,s1,r.mono x,(Dr h1).imp ?_⟩;rintro w _ ⟨c,e,G2,rfl,y,s2,q2,_,h2⟩;exact⟨c,G2,d,e,y.k.trans (x.k.trans hk),rfl,s2,q.mono y,q2,h2⟩
theorem Aa(i:Nat){pos:Pos}(hN:X.N[i]?=vk x:=by rfl)(hv:Vis X.env.scope x:=by first|exact Or.inl rfl|exact Or.inr (Or.inl rfl)|exact Or.inr (Or.inr rfl))(hd:(x==("__debug__":Str))=v6:=by decide)
  (hcd:(x==("__classdict__":Str))=v6:=by decide):QE X E (.Name x pos) (dV i):=by
 refine(Oe hN hv hd hcd).mono λσ H Q h=>?_
 obtain⟨a,S,G,hk,rfl,s,r,h⟩:=h;unfold dV at h;split at h
 ·rename_i d e;obtain⟨v,e',q⟩:=r.get i d e;exact⟨v,e',h a v (Ext.refl a) s q⟩
 ·exact h.elim
theorem O6{K:PySem.W.Frag}(h:lE K E (dC d) σ H Q)(r:∀a:Wd,a.K=K->Rep a d v):Q v H:=by obtain⟨a,S,G,hk,rfl,s,_,h⟩:=h;exact h a v (Ext.refl a) s (r a hk)
theorem Aj{i:Int}:QE X E (.Constant (.int i) j pos) (dC (.int i)):=ZJg.mono λσ H Q h=>O6 h λ_ _=>rfl
theorem W0{i:Bool}:QE X E (.Constant (.bool i) j pos) (dC (.bl i)):=ZMU.mono λσ H Q h=>O6 h λ_ _=>rfl
theorem Es:QE X E (.Constant .none j pos) (dC .non):=ZIe.mono λσ H Q h=>O6 h λ_ _=>rfl
theorem Ds{i:Str}:QE X E (.Constant (.str i) j pos) (dC (.str i)):=Rk.mono λσ H Q h=>O6 h λ_ _=>rfl
theorem Bk{u:xQ}(hg:Gl X x)(hm:X.mg x=vk u)(r:RelV v u)(rd:∀a:Wd,a.K=X.K->Rep a d v)(hd:(x==("__debug__":Str))=v6:=by decide):QE X E (.Name x pos) (dC d):=
 (ZBs hg hm r hd).mono λσ H Q h=>O6 h rd
theorem Ar{op:Operator}(ho:OpR X (xY op) (lR2 X.K E f))(ha:QE X E a ta)(hb:QE X E b tb):QE X E (.BinOp a op b pos) (dOp f ta tb):=
 (ZKE ho ha hb).mono λ_ _ _ h=>two h
theorem Ij{op:CmpOp}(ho:OpR X (xy op) (lR2 X.K E f))(ha:QE X E a ta)(hb:QE X E b tb)(hm:xK op b=v6):QE X E (.Compare a [op] [b] pos) (dOp f ta tb):=
 (ZKn ho ha hb hm).mono λ_ _ _ h=>two h
theorem Ve{K:PySem.W.Frag}{Q:Bool->Hp->Prop}(h:lB K E (Ay t) σ H Q):R0 (lE K E t) σ H Q:=by
 obtain⟨a,S,G,hk,rfl,s,r,h⟩:=h;refine⟨a,S,G,hk,rfl,s,r,(ZPQ h).imp ?_⟩;rintro v _ ⟨b,d,G1,rfl,x,s1,q,_,h1⟩;cases d with
 |bl k=>exact⟨k,q,h1 b (Ext.refl b) s1⟩
 |_=>exact h1.elim
theorem ZA8{t t':TE}(w:∀σ H Q,t' σ H Q->t σ H Q)(σ:St)(H:Hp)(Q:Bool->Hp->Prop)(h:R0 t' σ H Q):R0 t σ H Q:=w _ _ _ h
theorem Bm{op:CmpOp}(ho:OpR X (xy op) (lR2 X.K E f))(ha:QE X E a ta)(hb:QE X E b tb)(hm:xK op b=v6):QT X E (.Compare a [op] [b] pos) (Ay (dOp f ta tb)):=
 (ZHf ho ha hb hm).mono λσ H Q h=>ZA8 (λ_ _ _ z=>two z) σ H Q (Ve h)
theorem chain{K:PySem.W.Frag}{g:D->D->DH->R D}(h:lE K E (Nv f g ta tb tc) σ H Q):ZCh (lR2 K E f) (lR2 K E g) (lE K E ta) (lE K E tb) (lE K E tc) σ H Q:=by
 obtain⟨a,S,G,hk,rfl,s,r,h⟩:=h;refine⟨a,S,G,hk,rfl,s,r,(Dr h).imp ?_⟩;rintro v _ ⟨b,d,G1,rfl,x,s1,q,_,h1⟩;refine⟨b,S,G1,x.k.trans hk,rfl,s1,r.mono x,(Dr h1).imp ?_⟩;rintro w _ ⟨c,e,G2,rfl,y,s2,q2,_,h2⟩;refine⟨c,G2,d,e,y.k.trans (x.k.trans hk),rfl,s2,q.mono y,q2,(Dr h2).imp ?_⟩;rintro z _ ⟨c3,e3,G3,rfl,y3,s3,q3,_,h3⟩;cases e3 with
 | bl k=>
  refine⟨k,q3,?_⟩;cases k with
  |false=>exact h3 c3 (.bl v6) (Ext.refl _) s3 rfl
  |true=>
   refine⟨c3,S,G3,(y3.k.trans (y.k.trans (x.k.trans hk))),rfl,s3,((r.mono x).mono y).mono y3,(Dr h3).imp ?_⟩;rintro z4 _ ⟨c4,e4,G4,rfl,y4,s4,q4,_,h4⟩;exact⟨c4,G4,e,e4,y4.k.trans (y3.k.trans (y.k.trans (x.k.trans hk))),rfl,s4,(q2.mono y3).mono y4,q4,h4⟩
 |_=>exact h3.elim
theorem ZF7{op op':CmpOp}{g:D->D->DH->R D}(ho:OpR X (xy op) (lR2 X.K E f))(ho':OpR X (xy op') (lR2 X.K E g))(ha:QE X E a ta)(hb:QE X E b tb)(hc:QE X E c tc)
  (hm:lastMarks [op,op'] [b,c]=v6:=by with_unfolding_all rfl):QT X E (.Compare a [op,op'] [b,c] pos) (Ay (Nv f g ta tb tc)):=
 (ZPh ho ho' ha hb hc hm).mono λσ H Q h=>ZA8 (λ_ _ _ z=>chain z) σ H Q (Ve h)
theorem O4(ha:QE X E a ta)(he:∀whole,isTrue a X.env whole=(do let v<-whole;standAt a.pos;holding [v] (truthy v)):=by intro _;rfl):QT X E a (Ay ta):=
 (ZI9 ha he).mono λσ H Q h=>Ve h
theorem Fp(ha:QE X E a ta):QE X E a (Ec ta):=_L.PE.mono ha λσ H Q h=>by obtain⟨w,S,G,hk,rfl,s,r,h⟩:=h;exact⟨w,S,G,hk,rfl,s,r,Th s h⟩
def QW(X:Cx)(E:XK)(e:jN)(t:DB):Prop:=PW X e (lB X.K E t)
theorem _root_._L.PW.mono{t t':TT}(h:PW X e t)(w:∀σ H Q,t' σ H Q->t σ H Q):PW X e t':=λwh vv s σ H Q I q=>h wh vv s σ H Q I (w σ H Q q)
variable{u t:DB}{rest:List jN}
theorem ZMK{K:PySem.W.Frag}{Q:Bool->Hp->Prop}(h:lB K E (dOr t u) σ H Q):tOr (lB K E t) (lB K E u) σ H Q:=by
 obtain⟨a,S,G,hk,rfl,s,r,h⟩:=h;refine⟨a,S,G,hk,rfl,s,r,(ZFN h).imp ?_⟩;rintro k _ ⟨b,G1,rfl,x,s1,_,h1⟩;cases k with
 |true=>exact h1 b (Ext.refl b) s1
 |false=>exact⟨b,S,G1,x.k.trans hk,rfl,s1,r.mono x,h1⟩
theorem Oa(ha:QT X E a t):QW X E (.BoolOp .Or [a] pos) t:=pw_or1 ha
theorem K3(ha:QT X E a t)(hb:QW X E (.BoolOp .Or (b::rest) pos) u):QW X E (.BoolOp .Or (a::b::rest) pos) (dOr t u):=(pw_or ha hb).mono λ_ _ _ h=>ZMK h
theorem Nm(h:QW X E a t):QT X E a t:=_L.PW.pt h
theorem R7(ha:QT X E a t):QT X E (.UnaryOp .Not a pos) (Jt t):=(ZKO ha).mono λσ H Q h=>by obtain⟨a,S,G,hk,rfl,s,r,h⟩:=h;refine⟨a,S,G,hk,rfl,s,r,(ZFN h).imp ?_⟩;rintro k _ ⟨b,G1,rfl,x,s1,_,h1⟩;exact h1 b (Ext.refl b) s1
theorem Ue{op}(h:QE X E a ta):QE X E (.BoolOp op [a] pos) ta:=ZIN h
theorem ZBC(ha:QE X E a ta)(hb:QE X E (.BoolOp .And (b::rest) pos) tb):QE X E (.BoolOp .And (a::b::rest) pos) (Rb ta tb):=(ZNM ha hb).mono λσ H Q h=>by
 obtain⟨a,S,G,hk,rfl,s,r,h⟩:=h;refine⟨a,S,G,hk,rfl,s,r,(Dr h).imp ?_⟩;rintro v _ ⟨b,d,G1,rfl,x,s1,q,_,h1⟩;cases d with
 |bl k=>
  refine⟨k,q,?_⟩;cases k with
  |true=>exact⟨b,S,G1,x.k.trans hk,rfl,s1,r.mono x,h1⟩
  |false=>exact h1 b _ (Ext.refl b) s1 rfl
 |_=>exact h1.elim
theorem ZMp(ha:QE X E a ta)(hb:QE X E (.BoolOp .Or (b::rest) pos) tb):QE X E (.BoolOp .Or (a::b::rest) pos) (ZAJ ta tb):=(ZM9 ha hb).mono λσ H Q h=>by
 obtain⟨a,S,G,hk,rfl,s,r,h⟩:=h;refine⟨a,S,G,hk,rfl,s,r,(Dr h).imp ?_⟩;rintro v _ ⟨b,d,G1,rfl,x,s1,q,_,h1⟩;cases d with
 |bl k=>
  refine⟨k,q,?_⟩;cases k with
  |false=>exact⟨b,S,G1,x.k.trans hk,rfl,s1,r.mono x,h1⟩
  |true=>exact h1 b _ (Ext.refl b) s1 rfl
 |_=>exact h1.elim
theorem ZQS(ha:QE X E a ta):QE X E (.UnaryOp .Not a pos) (Ym ta):=(ZLy ha).mono λσ H Q h=>by
 obtain⟨a,S,G,hk,rfl,s,r,h⟩:=h;refine⟨a,S,G,hk,rfl,s,r,(Dr h).imp ?_⟩;rintro v _ ⟨b,d,G1,rfl,x,s1,q,_,h1⟩;cases d with
 |bl k=>exact⟨k,q,h1 b _ (Ext.refl b) s1 rfl⟩
 |_=>exact h1.elim
theorem ZCp(hc:QT X E c t)(ha:QE X E a ta)(hb:QE X E b tb):QE X E (.IfExp c a b pos) (dIf t ta tb):=(ZN8 hc ha hb).mono λσ H Q h=>by
 obtain⟨a,S,G,hk,rfl,s,r,h⟩:=h;refine⟨a,S,G,hk,rfl,s,r,(ZCd h).imp ?_⟩;rintro k _ ⟨b,G1,rfl,x,s1,_,h1⟩;cases k with
 |true=>exact⟨b,S,G1,x.k.trans hk,rfl,s1,r.mono x,h1⟩
 |false=>exact⟨b,S,G1,x.k.trans hk,rfl,s1,r.mono x,h1⟩
variable{es:List jN}{tr:DA}
theorem Ae:QA X E [] Ad:=ZGw.mono λσ H Q h=>by obtain⟨a,S,G,hk,rfl,s,r,h⟩:=h;exact h a [] (Ext.refl a) s rfl
noncomputable def notStar:jN->Bool
 |.Starred _ _=>v6
 |_=>v5
theorem Hm(a:jN)(es:List jN)(env:Env)(h:notStar a=v5):xP (a::es) env=(v6,eval a env)::xP es env:=by
 cases a<;>first
  |exact absurd h zx
  |rfl
theorem Jx(pos:Pos)(env:Env):∀es:List jN,es.all notStar=v5->(xV pos (xP es env)).any (·.1)=v6
 |[],_=>rfl
 |a::es,h=>by
  rw[qy,z5]at h;rw[Hm a es env h.1];have ih:=Jx pos env es h.2;unfold xV at ih⊢;rw[zk,jK,ih]
  rfl
theorem Ac(ha:QE X E a ta)(hr:QA X E es tr)(hs:notStar a=v5:=by rfl):QA X E (a::es) (Ab ta tr):=(Z5 ha hr (Hm a es X.env hs)).mono λσ H Q h=>by obtain⟨a,S,G,hk,rfl,s,r,h⟩:=h;refine⟨a,S,G,hk,rfl,s,r,(ZLv h).imp ?_⟩;rintro v _ ⟨b,d,G1,rfl,x,s1,q,_,h1⟩;refine⟨b,S,G1,x.k.trans hk,rfl,s1,r.mono x,(ZPF h1).imp ?_⟩;rintro vs _ ⟨c,ds,G2,rfl,y,s2,q2,_,h2⟩;exact h2 c _ (Ext.refl c) s2 (Reps.cons (q.mono y) q2)
theorem Cg{x1}(h:QA X E es tr):QE X E (.Tuple es x1 pos) (dFn Bf tr):=(ZOH h).mono λσ H Q h=>by
 obtain⟨a,S,G,hk,rfl,s,r,h⟩:=h;refine⟨a,S,G,hk,rfl,s,r,(Kc h).imp ?_⟩;rintro vs _ ⟨b,ds,G1,rfl,x,s1,q,_,h1⟩;unfold Bf at h1;split at h1
 ·rename_i hl;refine⟨by rw[<-q.length];exact z8 hl size6,λp hp=>?_⟩;exact h1 (b.put p (.tup vs)) (.ref p) (Ext.put hp) (s1.put hp) ⟨p,vs,rfl,.of Dv,q.mono (Ext.put hp)⟩
 ·exact h1.elim
theorem Ht(h:QA X E es tr):QE X E (.List es pos) (dFn Bg tr):=(ZQU h).mono λσ H Q h=>by
 obtain⟨a,S,G,hk,rfl,s,r,h⟩:=h;refine⟨a,S,G,hk,rfl,s,r,(Kc h).imp ?_⟩;rintro vs _ ⟨b,ds,G1,rfl,x,s1,q,_,h1⟩;unfold Bg at h1;split at h1
 ·rename_i hl;refine⟨by rw[<-q.length];exact z8 hl size6,λp hp=>?_⟩;refine h1 (b.push p (.lst vs)) (.ref p) (Ext.push hp) (s1.push hp ⟨vs,rfl,q.mono (Ext.push hp)⟩) ⟨?_,?_⟩
  ·rw[s1.len];exact zI _
  ·rw[s1.len];show V.ref p=.ref (if b.n=b.n then p else b.m b.n);rw[if_pos rfl]
 ·exact h1.elim
variable{e:jN}{x:Str}{p:Pos}
theorem Pk{K:PySem.W.Frag}{f:List D->DH->R D}(h:lE K E (dFn f tr) σ H Q):lA K E tr σ H (λvs H1=>lRn K E f vs H1 Q):=by obtain⟨a,S,G,hk,rfl,s,r,h⟩:=h;refine⟨a,S,G,hk,rfl,s,r,(Kc h).imp ?_⟩;rintro vs _ ⟨b,ds,G1,rfl,x,s1,q,_,h1⟩;exact⟨b,G1,ds,x.k.trans hk,rfl,s1,q,h1⟩
theorem Bu{id:String}{f:List D->DH->R D}(hc:CallR X (.builtin id) (lRn X.K E f))(hg:Gl X x)(hm:X.mg x=v4)(hv:xq x=vk (.builtin id))(ha:QA X E (e::es) tr)(hn:x≠"__name__":=by decide)(hdb:(x==("__debug__":Str))=v6:=by decide)
  (he:notStar e=v5:=by rfl) (hpl:es.all notStar=v5:=by rfl):QE X E (.Call (.Name x p) (e::es) [] pos) (dFn f tr):=
 (ZIh hc hg hm hv ha hn hdb (Hm e es X.env he) (Jx pos X.env es hpl)).mono λσ H Q h=>Pk h
theorem Gk{id:String}{f:List D->DH->R D}(hc:CallR X (.type id) (lRn X.K E f))(hg:Gl X x)(hm:X.mg x=v4)(hv:xq x=vk (.type id))(ha:QA X E (e::es) tr)(hn:x≠"__name__":=by decide)(hdb:(x==("__debug__":Str))=v6:=by decide)
  (he:notStar e=v5:=by rfl) (hpl:es.all notStar=v5:=by rfl):QE X E (.Call (.Name x p) (e::es) [] pos) (dFn f tr):=
 (ZLo hc hg hm hv ha hn hdb (Hm e es X.env he) (Jx pos X.env es hpl)).mono λσ H Q h=>Pk h
theorem ZOf{CX:CXT}{k:Nat}{f:jL}{fd:jO}{ps:List Str}{F:List D->DH->R D}(FF:FnOk X.prog X.w X.K X.mg X.base CX k f fd ps (lF X.K F))(hr:Room k X.A)(hg:Gl X x)(hm:X.mg x=vk (.ref f))(hk:PySem.W.keepIn X.K (.ref f)=v5)(hb:Binds X.K fd ps [])
  (hx:Passes CX X E0) (ha:QA X E0 (e::es) tr) (hdb:(x==("__debug__":Str))=v6:=by decide) (he:notStar e=v5:=by rfl) (hpl:es.all notStar=v5:=by rfl):
  QE X E0 (.Call (.Name x p) (e::es) [] pos) (dFn F tr):=
 (Wx FF hr hg hm hk hb .nil hx ha hdb (Hm e es X.env he) (Jx pos X.env es hpl)).mono λσ H Q h=>by obtain⟨a,S,G,hk,rfl,s,r,h⟩:=Pk h;refine⟨a,S,G,hk,rfl,s,r,h.imp ?_⟩;rintro vs _ ⟨b,G1,ds,hk,rfl,s1,q,h1⟩;exact⟨b,G1,ds,hk,rfl,s1,by rw[qB];exact q,h1⟩
theorem Ao(hr:IxR X (lR2 X.K E f))(ha:QE X E a ta)(hb:QE X E b tb)(hs:PlainIx b:=by intro _ _;rfl):QE X E (.Subscript a b pos) (dOp f ta tb):=
 (ZFQ hr ha hb hs).mono λ_ _ _ h=>two h
end
noncomputable instance (i j:Int):Decidable (CMul i j):=by unfold CMul;infer_instance
noncomputable instance (i j:Int):Decidable (CPow i j):=by unfold CPow;infer_instance
def CDivL(j:Int):Prop:=0<j/\j.natAbs.log2<9000
noncomputable instance (j:Int):Decidable (CDivL j):=by unfold CDivL;infer_instance
def Fl:D->D->DH->R D
 |.int i,.int j,G=>.ok (.int (i-j)) G
 |_,_,_=>.bad
def Hj:D->D->DH->R D
 |.int i,.int j,G=>if CDivL j then .ok (.int (i/j)) G else .bad
 |_,_,_=>.bad
def Df:D->D->DH->R D
 |.int i,.int j,G=>if 0<j then .ok (.int (i%j)) G else .bad
 |_,_,_=>.bad
def Jb:D->D->DH->R D
 |.int i,.int j,G=>if CPow i j then .ok (.int (i^j.toNat)) G else .bad
 |_,_,_=>.bad
def Hn:D->D->DH->R D
 |.int i,.int j,G=>.ok (.bl (decide (i<j))) G
 |.str i,.str j,G=>.ok (.bl (decide (i.cps.toList<j.cps.toList))) G
 |_,_,_=>.bad
def Ky:D->D->DH->R D
 |.int i,.int j,G=>.ok (.bl (decide (i<=j))) G
 |.str i,.str j,G=>.ok (.bl (!decide (j.cps.toList<i.cps.toList))) G
 |_,_,_=>.bad
def Il:D->D->DH->R D
 |.int i,.int j,G=>.ok (.bl (decide (j<i))) G
 |.str i,.str j,G=>.ok (.bl (decide (j.cps.toList<i.cps.toList))) G
 |_,_,_=>.bad
def Z4:D->D->DH->R D
 |.int i,.int j,G=>.ok (.bl (decide (j<=i))) G
 |.str i,.str j,G=>.ok (.bl (!decide (i.cps.toList<j.cps.toList))) G
 |_,_,_=>.bad
noncomputable def Gr(d:D)(G:DH):Option (List D):=match d with
 |.fl xs=>vk xs
 |.ref i=>match G[i]? with
  |some (.lst xs)=>vk xs
  |_=>v4
 |_=>v4
def Cv:D->D->DH->R D
 |.int i,.int j,G=>.ok (.int (i+j)) G
 |.str i,.str j,G=>if i.length+j.length<=1000000 then .ok (.str (i++j)) G else .bad
 |.tup xs,.tup ys,G=>if xs≠[]/\xs.length+ys.length<=1000000 then .ok (.tup (xs++ys)) G else .bad
 |d,e,G=>match Gr d G,Gr e G with
  |some xs,vk ys=>if xs.length+ys.length<=1000000 then .ok (.ref G.length) (G++[.lst (xs++ys)])else .bad
  |_,_=>.bad
section
variable{X:Cx}{E:XK}
theorem Ey{f:xQ->xQ->Sem xQ}{r:R2}{F:D->D->DH->R D}(ho:OpR X f r)
  (h:∀(a:Wd)(G:DH)(d e:D)(x y:V)(Q:VK),a.K=X.K->Sim a G->Rep a d x->Rep a e y->out E a (F d e G) Q->r x y a.H Q):OpR X f (lR2 X.K E F):=
 ho.mono λx y H Q ⟨a,G,d,e,hk,hH,s,rd,re,q⟩=>by subst hH;exact h a G d e x y Q hk s rd re q
theorem I8:OpR X (xY .Sub) (lR2 X.K E Fl):=Ey ZHv λa G d e x y Q hk s rd re q=>by
 cases d<;>cases e<;>first
  |exact q.elim
  |exact⟨_,_,rd,re,q a _ (Ext.refl a) s rfl⟩
theorem ZO2:OpR X (xY .FloorDiv) (rI (λ_ j=>CDivL j) λi j=>.int (i/j)):=opI λi j _ _ _ _ _ hc q=>by have e:i.fdiv j=i/j:=Int.fdiv_eq_ediv_of_nonneg _ (Int.le_of_lt hc.1);refine floordiv_int (by have:=hc.1;lia) (by rw[e];exact q) (.inl (PyProof.noPylong_of_log2 hc.2))
theorem Ln:OpR X (xY .FloorDiv) (lR2 X.K E Hj):=Ey ZO2 λa G d e x y Q hk s rd re q=>by
 cases d<;>cases e<;>first
  |exact q.elim
  | (
    rename_i i j;unfold Hj at q;dsimp only at q;split at q
    ·exact⟨_,_,rd,re,by assumption,q a _ (Ext.refl a) s rfl⟩
    ·exact q.elim)
theorem Dq:OpR X (xY .Mod) (lR2 X.K E Df):=Ey ZQO λa G d e x y Q hk s rd re q=>by
 cases d<;>cases e<;>first
  |exact q.elim
  | (
    rename_i i j;unfold Df at q;dsimp only at q;split at q
    ·exact⟨_,_,rd,re,by assumption,q a _ (Ext.refl a) s rfl⟩
    ·exact q.elim)
theorem Q3:OpR X (xY .Pow) (lR2 X.K E Jb):=Ey ZMn λa G d e x y Q hk s rd re q=>by
 cases d<;>cases e<;>first
  |exact q.elim
  | (
    rename_i i j;unfold Jb at q;dsimp only at q;split at q
    ·exact⟨_,_,rd,re,by assumption,q a _ (Ext.refl a) s rfl⟩
    ·exact q.elim)
theorem Lp:OpR X (xy .Lt) (lR2 X.K E Hn):=Ey (ZMj.or ZI0) λa G d e x y Q hk s rd re q=>by
 cases d<;>cases e<;>first
  |exact q.elim
  |exact .inl ⟨_,_,rd,re,q a _ (Ext.refl a) s rfl⟩
  |exact .inr ⟨_,_,rd,re,q a _ (Ext.refl a) s rfl⟩
theorem ZLP:OpR X (xy .LtE) (λx y H Q=>∃i j,x=.str i/\y=.str j/\Q (.bl (!decide (j.cps.toList<i.cps.toList))) H):=by intro vv s σ H x y v u Q I rx ry h;obtain⟨i,j,rfl,rfl,q⟩:=h;obtain⟨t,rfl⟩:=rx;obtain⟨t',rfl⟩:=ry;exact PySem.P.le_str ⟨.bl _,H,I,rfl,q⟩
theorem ZI1:OpR X (xy .Gt) (λx y H Q=>∃i j,x=.str i/\y=.str j/\Q (.bl (decide (j.cps.toList<i.cps.toList))) H):=by intro vv s σ H x y v u Q I rx ry h;obtain⟨i,j,rfl,rfl,q⟩:=h;obtain⟨t,rfl⟩:=rx;obtain⟨t',rfl⟩:=ry;exact PySem.P.gt_str ⟨.bl _,H,I,rfl,q⟩
theorem ZJr:OpR X (xy .GtE) (λx y H Q=>∃i j,x=.str i/\y=.str j/\Q (.bl (!decide (i.cps.toList<j.cps.toList))) H):=by intro vv s σ H x y v u Q I rx ry h;obtain⟨i,j,rfl,rfl,q⟩:=h;obtain⟨t,rfl⟩:=rx;obtain⟨t',rfl⟩:=ry;exact PySem.P.ge_str ⟨.bl _,H,I,rfl,q⟩
theorem Uq:OpR X (xy .LtE) (lR2 X.K E Ky):=Ey (ZOy.or ZLP) λa G d e x y Q hk s rd re q=>by
 cases d<;>cases e<;>first
  |exact q.elim
  |exact .inl ⟨_,_,rd,re,q a _ (Ext.refl a) s rfl⟩
  |exact .inr ⟨_,_,rd,re,q a _ (Ext.refl a) s rfl⟩
theorem Lr:OpR X (xy .Gt) (lR2 X.K E Il):=Ey (ZK7.or ZI1) λa G d e x y Q hk s rd re q=>by
 cases d<;>cases e<;>first
  |exact q.elim
  |exact .inl ⟨_,_,rd,re,q a _ (Ext.refl a) s rfl⟩
  |exact .inr ⟨_,_,rd,re,q a _ (Ext.refl a) s rfl⟩
theorem o_ge:OpR X (xy .GtE) (lR2 X.K E Z4):=Ey (ZJc.or ZJr) λa G d e x y Q hk s rd re q=>by
 cases d<;>cases e<;>first
  |exact q.elim
  |exact .inl ⟨_,_,rd,re,q a _ (Ext.refl a) s rfl⟩
  |exact .inr ⟨_,_,rd,re,q a _ (Ext.refl a) s rfl⟩
theorem Sim.lst(s:Sim a G)(h:G[i]?=vk (.lst xs)):∃vs,a.H (a.m i)=vk (.lst vs)/\Reps a xs vs:=s.obj i _ h
theorem Ja(s:Sim a G)(r:Reps a ds vs)(h:out E a (.ok (.ref G.length) (G++[.lst ds])) Q)(p:jL)(hp:a.H p=v4):Q (.ref p) (upd a.H p (.lst vs)):=by
 refine h (a.push p (.lst vs)) (.ref p) (Ext.push hp) (s.push hp ⟨vs,rfl,r.mono (Ext.push hp)⟩) ⟨?_,?_⟩
 ·rw[s.len];exact zI _
 ·rw[s.len];show V.ref p=.ref (if a.n=a.n then p else a.m a.n);rw[if_pos rfl]
theorem Xl(s:Sim a G)(r:Reps a ds vs)(h:out E a (.ok (.tup ds) G) Q)(p:jL)(hp:a.H p=v4):Q (.ref p) (upd a.H p (.tup vs)):=
 h (a.put p (.tup vs)) (.ref p) (Ext.put hp) (s.put hp) ⟨p,vs,rfl,.of Dv,r.mono (Ext.put hp)⟩
theorem Rp{x:V}(s:Sim a G)(r:Rep a d x)(h:Gr d G=vk xs):∃p vs,x=.ref p/\SqL a.K a.H p vs/\Reps a xs vs:=by
 cases d with
 |fl ys=>
  have e:ys=xs:=Option.some.inj h;subst e;obtain⟨p,vs,e,q,rr⟩:=r;exact⟨p,vs,e,q.sq,rr⟩
 |ref i=>
  unfold Gr at h;dsimp only at h;split at h
  ·rename_i ys hi;have e:ys=xs:=Option.some.inj h;subst e;obtain⟨vs,e1,r1⟩:=s.lst hi;exact⟨a.m i,vs,r.2,.of e1,r1⟩
  ·cases h
 |_=>cases h
def ZD3(K:PySem.W.Frag):R2:=λx y H Q=>∃l b xs zs,x=.ref l/\y=.ref b/\SqL K H l xs/\SqL K H b zs/\xs.length+zs.length<=sizeLine/\∀p,H p=v4->Q (.ref p) (upd H p (.lst (xs++zs)))
theorem ZL4:OpR X (xY .Add) (ZD3 X.K):=by
 intro vv s σ H x y v u Q I rx ry h;obtain⟨l,b,xs,zs,rfl,rfl,hH,hB,hz,q⟩:=h;cases rx;cases ry;obtain⟨its,r,p1,_⟩:=I.list hH;obtain⟨its2,r2,p2,_⟩:=I.list hB;obtain⟨⟨cls,dd,data,sl⟩,n,ho,hc,_,hd⟩:=p1;obtain⟨⟨cls2,dd2,data2,sl2⟩,n2,ho2,hc2,_,hd2⟩:=p2;cases hc;cases hd;cases hc2;cases hd2;have hl:=r.length;have hl2:=r2.length;refine concat_meets ⟨_,ho,rfl⟩ ⟨_,ho2,rfl⟩ noFill_list_add seq_list_add PySem.F.slot_list_add PySem.F.entry_list_add (PySem.F.args_list_add_2 _ _) (list_addW l b its.toArray its2.toArray n n2 dd dd2 sl sl2 (by rw[zX,zX];lia)) ⟨ho,ho2,?_⟩
 have ea:its.toArray++its2.toArray=(its++its2).toArray:=by simp
 rw[ea];exact⟨.ref _,_,I.lnew (t':=s.toks) (r.append r2) (by rw[zH];lia),rfl,q _ I.fresh⟩
theorem Dm:OpR X (xY .Add) (lR2 X.K E Cv):=Ey (ZKy.or (ZNj.or (ZL4.or ZKK))) λa G d e x y Q hk s rd re q=>by
 have lst:out E a (match Gr d G,Gr e G with
  |some xs,vk ys=>if xs.length+ys.length<=1000000 then .ok (.ref G.length) (G++[.lst (xs++ys)])else .bad
  |_,_=>.bad) Q->ZD3 X.K x y a.H Q:=λq=>by
  split at q
  ·rename_i xs ys h1 h2;split at q
   ·rename_i hl;obtain⟨p,vs,e1,q1,r1⟩:=Rp s rd h1;obtain⟨p',vs',e2,q2,r2⟩:=Rp s re h2;rw[hk]at q1 q2;exact⟨p,p',vs,vs',e1,e2,q1,q2,by rw[<-r1.length,<-r2.length];exact z8 hl size6,λp hp=>Ja s (r1.append r2) q p hp⟩
   ·exact q.elim
  ·exact q.elim
 have L:=λq=>Or.inr (a:=rI0 (λi j=>V.int (i+j)) x y a.H Q) (Or.inr (a:=∃i j,x=.str i/\y=.str j/\i.length+j.length<=sizeLine/\Q (.str (i++j)) a.H) (Or.inl (b:=ZDL X.K x y a.H Q) (lst q)))
 cases d<;>cases e<;>first
  |exact .inl ⟨_,_,rd,re,q a _ (Ext.refl a) s rfl⟩
  |exact L q
  |skip
 ·rename_i i j;unfold Cv at q;dsimp only at q;split at q
  ·rename_i hl;exact .inr (.inl ⟨_,_,rd,re,z8 hl size6,q a _ (Ext.refl a) s rfl⟩)
  ·exact q.elim
 ·rename_i xs ys;unfold Cv at q;dsimp only at q;split at q
  ·rename_i hl;obtain⟨p,vs,e1,h1,r1⟩:=rd;obtain⟨p',vs',e2,h2,r2⟩:=re;rw[hk]at h1 h2;refine .inr (.inr (.inr ⟨p,p',vs,vs',e1,e2,h1,h2,λz=>hl.1 (jq (by rw[r1.length,z];rfl)),by rw[<-r1.length,<-r2.length];exact z8 hl.2 size6,λz=>?_,λ_ p0 hp=>?_⟩))
   ·refine q a (.ref p) (Ext.refl a) s ⟨p,vs,rfl,by rw[hk];exact h1,?_⟩;have e3:ys=[]:=jq (by rw[r2.length,z];rfl);rw[e3,qB];exact r1
   ·exact Xl s (r1.append r2) q p0 hp
  ·exact q.elim
inductive VD where
 |flat (v:V)
 |lst (xs:List D)
 |tup (xs:List D)
 |bad
def view(G:DH):D->VD
 |.non=>.flat .non
 |.bl b=>.flat (.bl b)
 |.int i=>.flat (.int i)
 |.str x=>.flat (.str x)
 |.ty _=>.bad
 |.tup xs=>.tup xs
 |.fl xs=>.lst xs
 |.ref i=>match G[i]? with
  |some (.lst xs)=>.lst xs
  |_=>.bad
noncomputable def eqZ(f:D->D->Option Bool):List D->List D->Option Bool
 |x::xs,y::ys=>match f x y,eqZ f xs ys with
  |some a,vk b=>vk (a&&b)
  |_,_=>v4
 |_,_=>vk v5
def eqD:Nat->DH->D->D->Option Bool
 |0=>λ_ _ _=>v4
 | n+1=>λG d e=>match view G d,view G e with
  |.flat a,.flat b=>vk (eqV a b)
  |.lst xs,.lst ys=>if xs.length=ys.length then eqZ (eqD n G) xs ys else vk v6
  |.tup xs,.tup ys=>match eqZ (eqD n G) xs ys with
   |some b=>vk (b&&xs.length==ys.length)
   |none=>v4
  |.bad,_=>v4
  |_,.bad=>v4
  |_,_=>vk v6
theorem Wb{f:D->D->Option Bool}:∀{xs ys:List D}{k:Bool},eqZ f xs ys=vk k->∃e:Nat->Bool,(∀(j:Nat)(x y:D),xs[j]?=vk x->ys[j]?=vk y->f x y=vk (e j))/\k=(zq (min xs.length ys.length)).all e
 | [],ys,k,h=>⟨λ_=>v5,λj x y e1 _=>by simp at e1,by
   have h':vk v5=vk k:=by cases ys<;>exact h
   cases h';simp⟩
 |x::xs,[],k,h=>⟨λ_=>v5,λj x y _ e1=>by simp at e1,by have h':vk v5=vk k:=h;cases h';simp⟩
 | x::xs,y::ys,k,h=>by
  unfold eqZ at h;split at h
  ·rename_i a b h1 h2;obtain⟨e,he,hk⟩:=Wb h2;have h':(a&&b)=k:=Option.some.inj h
   refine⟨λj=>match j with |0=>a|j+1=>e j,λj x' y' e1 e2=>?_,?_⟩
   ·cases j with
    |zero=>simp at e1 e2;subst e1;subst e2;exact h1
    |succ j=>exact he j x' y' (by simpa using e1) (by simpa using e2)
   ·rw[<-h',hk];have:min (x::xs).length (y::ys).length=min xs.length ys.length+1:=by simp only[zO];lia
    rw[this,qC,qy,List.all_map]
    rfl
  ·cases h
theorem Sy(s:Sim a G){x:V}(r:Rep a d x):match view G d with
  |.flat v=>x=v/\Cm v=v5
  |.lst xs=>∃p vs,x=.ref p/\SqL a.K a.H p vs/\Reps a xs vs
  |.tup xs=>∃p vs,x=.ref p/\SqT a.K a.H p vs/\Reps a xs vs
  |.bad=>True:=by
 cases d with
 |non=>exact⟨r,rfl⟩
 |bl b=>exact⟨r,rfl⟩
 |int b=>exact⟨r,rfl⟩
 |str b=>exact⟨r,rfl⟩
 |ty n=>trivial
 |tup xs=>
  obtain⟨p,vs,e,h,q⟩:=r;exact⟨p,vs,e,h,q⟩
 |fl xs=>
  obtain⟨p,vs,e,h,q⟩:=r;exact⟨p,vs,e,h.sq,q⟩
 | ref i=>
  unfold view;dsimp only;split
  ·rename_i v hv
   split at hv<;>cases hv
  ·rename_i xs hv;split at hv
   ·rename_i ys hi;cases hv;obtain⟨vs,e1,r1⟩:=s.lst hi;exact⟨a.m i,vs,r.2,.of e1,r1⟩
   ·cases hv
  ·rename_i xs hv
   split at hv<;>cases hv
  ·trivial
theorem ZNX{x:V}{u v:xQ}(ry:RelV y u)(rx:RelV x v)(fy:Cm y=v5)(fx:Cm x=v5):SeqAt.RcAt A s u v (eqV y x):=by
 cases y with
 |non=>
  cases ry;cases x with
  |non=>cases rx;exact SeqAt.RcAt.none_none
  |bl b=>cases rx;exact SeqAt.RcAt.none_bool b
  |int b=>obtain⟨t,rfl⟩:=rx;exact SeqAt.RcAt.none_int b t
  |str b=>obtain⟨t,rfl⟩:=rx;exact SeqAt.RcAt.none_str b t
  |_=>exact absurd (show v6=v5 from fx) zx
 |bl a=>
  cases ry;cases x with
  |non=>cases rx;exact SeqAt.RcAt.bool_none a
  |bl b=>cases rx;exact SeqAt.RcAt.bool_bool a b
  |int b=>obtain⟨t,rfl⟩:=rx;exact SeqAt.RcAt.bool_int a b t
  |str b=>obtain⟨t,rfl⟩:=rx;exact SeqAt.RcAt.bool_str a b t
  |_=>exact absurd (show v6=v5 from fx) zx
 |int a=>
  obtain⟨t',rfl⟩:=ry;cases x with
  |non=>cases rx;exact SeqAt.RcAt.int_none a t'
  |bl b=>cases rx;exact SeqAt.RcAt.int_bool a t' b
  |int b=>obtain⟨t,rfl⟩:=rx;exact SeqAt.RcAt.int_int a t' b t
  |str b=>obtain⟨t,rfl⟩:=rx;exact SeqAt.RcAt.int_str a t' b t
  |_=>exact absurd (show v6=v5 from fx) zx
 |str a=>
  obtain⟨t',rfl⟩:=ry;cases x with
  |non=>cases rx;exact SeqAt.RcAt.str_none a t'
  |bl b=>cases rx;exact SeqAt.RcAt.str_bool a t' b
  |int b=>obtain⟨t,rfl⟩:=rx;exact SeqAt.RcAt.str_int a t' b t
  |str b=>obtain⟨t,rfl⟩:=rx;exact SeqAt.RcAt.str_str a t' b t
  |_=>exact absurd (show v6=v5 from fx) zx
 |_=>exact absurd (show v6=v5 from fy) zx
theorem ZJD{x:V}{u v:xQ}(ry:RelV y u)(rx:RelV x v)(fy:Cm y=v5)(fx:Cm x=v5):SeqAt.RcNeAt A s u v (!eqV y x):=by
 cases y with
 |non=>
  cases ry;cases x with
  |non=>cases rx;exact SeqAt.RcNeAt.none_none
  |bl b=>cases rx;exact SeqAt.RcNeAt.none_bool b
  |int b=>obtain⟨t,rfl⟩:=rx;exact SeqAt.RcNeAt.none_int b t
  |str b=>obtain⟨t,rfl⟩:=rx;exact SeqAt.RcNeAt.none_str b t
  |_=>exact absurd (show v6=v5 from fx) zx
 |bl a=>
  cases ry;cases x with
  |non=>cases rx;exact SeqAt.RcNeAt.bool_none a
  |bl b=>cases rx;exact SeqAt.RcNeAt.bool_bool a b
  |int b=>obtain⟨t,rfl⟩:=rx;exact SeqAt.RcNeAt.bool_int a b t
  |str b=>obtain⟨t,rfl⟩:=rx;exact SeqAt.RcNeAt.bool_str a b t
  |_=>exact absurd (show v6=v5 from fx) zx
 |int a=>
  obtain⟨t',rfl⟩:=ry;cases x with
  |non=>cases rx;exact SeqAt.RcNeAt.int_none a t'
  |bl b=>cases rx;exact SeqAt.RcNeAt.int_bool a t' b
  |int b=>obtain⟨t,rfl⟩:=rx;exact SeqAt.RcNeAt.int_int a t' b t
  |str b=>obtain⟨t,rfl⟩:=rx;exact SeqAt.RcNeAt.int_str a t' b t
  |_=>exact absurd (show v6=v5 from fx) zx
 |str a=>
  obtain⟨t',rfl⟩:=ry;cases x with
  |non=>cases rx;exact SeqAt.RcNeAt.str_none a t'
  |bl b=>cases rx;exact SeqAt.RcNeAt.str_bool a t' b
  |int b=>obtain⟨t,rfl⟩:=rx;exact SeqAt.RcNeAt.str_int a t' b t
  |str b=>obtain⟨t,rfl⟩:=rx;exact SeqAt.RcNeAt.str_str a t' b t
  |_=>exact absurd (show v6=v5 from fx) zx
 |_=>exact absurd (show v6=v5 from fy) zx
end
section
variable{X:Cx}{E:XK}{vv:List (jL×Obj)}{σ:St}{s:jT}
theorem ZKd(v:V)(h:Cm v=v5):eqV v v=v5:=by cases v<;>first|rfl|exact absurd (show v6=v5 from h) zx|(simp[eqV])
theorem ZER(I:Inv X vv σ a.H s)(hk:a.K=X.K)(sm:Sim a G):∀(n:Nat){d e:D}{x:V}{k:Bool},Rep a d x->Rep a e x->eqD n G d e=vk k->k=v5
 |0,_,_,_,_,_,_,h=>by cases h
 | n+1,d,e,x,k,rd,re,h=>by
  have vd:=Sy sm rd;have ve:=Sy sm re;have items:∀{xs ys:List D}{vs:List V}{b:Bool},Reps a xs vs->Reps a ys vs->eqZ (eqD n G) xs ys=vk b->b=v5:=λ{xs ys vs b}r1 r2 hz=>by obtain⟨f,hf,hb⟩:=Wb hz;rw[hb,qY];intro j hj;have hj':j<min xs.length ys.length:=qZ.mp hj;have h1:xs[j]?=vk (xs[j]'(by lia)):=zJ (by lia);have h2:ys[j]?=vk (ys[j]'(by lia)):=zJ (by lia);obtain⟨v1,e1,q1⟩:=r1.get h1;obtain⟨v2,e2,q2⟩:=r2.get h2;rw[e1]at e2;cases e2;exact ZER I hk sm n q1 q2 (hf j _ _ h1 h2)
  unfold eqD at h
  try dsimp only at h
  revert h vd ve
  cases view G d<;>cases view G e<;>intro vd ve h<;>dsimp only at h vd ve<;>first
   |cases h
   |skip
  ·
   rename_i v w;obtain⟨rfl,f1⟩:=vd;obtain⟨rfl,f2⟩:=ve;exact ZKd _ f1
  ·obtain⟨rfl,f1⟩:=vd;obtain⟨p,vs,e1,_⟩:=ve;subst e1;cases f1
  ·obtain⟨rfl,f1⟩:=vd;obtain⟨p,vs,e1,_⟩:=ve;subst e1;cases f1
  ·obtain⟨rfl,f1⟩:=ve;obtain⟨p,vs,e1,_⟩:=vd;subst e1;cases f1
  ·obtain⟨p,vs,e1,h1,r1⟩:=vd;obtain⟨p',vs',e2,h2,r2⟩:=ve;rw[e1]at e2;cases e2;rw[hk]at h1 h2;cases I.ZBS h1 h2;split at h
   ·exact items r1 r2 h
   ·rename_i hl;exact absurd (r1.length.trans r2.length.symm) hl
  ·obtain⟨p,vs,e1,h1,r1⟩:=vd;obtain⟨p',vs',e2,h2,r2⟩:=ve;rw[e1]at e2;cases e2;rw[hk]at h1 h2;obtain⟨_,_,pl,_⟩:=I.list h1;obtain⟨_,_,pt,_⟩:=I.tuple h2;exact absurd rfl (SeqAt.ne_of_list_tuple pl.isList pt)
  ·obtain⟨rfl,f1⟩:=ve;obtain⟨p,vs,e1,_⟩:=vd;subst e1;cases f1
  ·obtain⟨p,vs,e1,h1,r1⟩:=vd;obtain⟨p',vs',e2,h2,r2⟩:=ve;rw[e1]at e2;cases e2;rw[hk]at h1 h2;obtain⟨_,_,pl,_⟩:=I.list h2;obtain⟨_,_,pt,_⟩:=I.tuple h1;exact absurd rfl (SeqAt.ne_of_list_tuple pl.isList pt)
  ·obtain⟨p,vs,e1,h1,r1⟩:=vd;obtain⟨p',vs',e2,h2,r2⟩:=ve;rw[e1]at e2;cases e2;rw[hk]at h1 h2;cases I.Y6 h1 h2;split at h
   ·rename_i b hz;have h':(b&&_)=k:=Option.some.inj h;rw[<-h',items r1 r2 hz,r1.length,r2.length];simp
   ·cases h
theorem W8{its:List xQ}(r:Reps a xs vs)(q:Vals vs its)(h:j<its.toArray.size):∃d v,xs[j]?=vk d/\Rep a d v/\RelV v its.toArray[j]:=by
 have hl:j<its.length:=by simpa using h
 have h2:j<vs.length:=by rw[q.length];exact hl
 obtain⟨v,e1⟩:∃v,vs[j]?=vk v:=⟨vs[j],zJ h2⟩;obtain⟨d,e2,rd⟩:=r.get' e1;obtain⟨u,e3,ru⟩:=q.get e1;have e4:u=its.toArray[j]:=by have:its[j]?=vk its[j]:=zJ hl;rw[this]at e3;simpa using(Option.some.inj e3).symm
 exact⟨d,v,e2,rd,by rw[<-e4];exact ru⟩
theorem Ro(I:Inv X vv σ a.H s)(hk:a.K=X.K)(sm:Sim a G):∀(n:Nat){A:jM}{d e:D}{x y:V}{u w:xQ}{k:Bool},A.units+n<cLine->Rep a d x->Rep a e y->RelV x u->RelV y w->eqD n G d e=vk k->
  SeqAt.EqAt A s u w k/\SeqAt.RcAt A s u w k/\SeqAt.RcNeAt A s u w (!k)
 |0,_,_,_,_,_,_,_,_,_,_,_,_,_,h=>by cases h
 | n + 1,A,d,e,x,y,u,w,k,hu,rd,re,ru,rw',h=>by
  have vd:=Sy sm rd;have ve:=Sy sm re;have hu1:A.units<cLine:=by lia
  have hu2:A.in1.units+n<cLine:=by show A.units+1+n<cLine;lia
  have same:∀{z:V},Rep a d z->Rep a e z->eqD (n+1) G d e=vk k->k=v5:=λr1 r2 r3=>ZER I hk sm (n+1) r1 r2 r3
  have h0:=h;unfold eqD at h
  try dsimp only at h
  have refs:∀{p q:jL}{k:Bool},(p=q->k=v5)->SeqAt.RcAt A s (.ref p) (.ref q) k->SeqAt.EqAt A s (.ref p) (.ref q) k:=λ{p q k}hs hr=>by
   by_cases e:p=q
   ·rw[hs e,e];exact SeqAt.EqAt.same _
   ·exact SeqAt.EqAt.of_refs e hr
  revert h vd ve
  cases hvd:view G d<;>cases hve:view G e<;>intro vd ve h<;>dsimp only at h vd ve<;>first
   |cases h
   |skip
  ·
   obtain⟨rfl,f1⟩:=vd;obtain⟨rfl,f2⟩:=ve;exact⟨ZDa ru rw' f1 f2,ZNX ru rw' f1 f2,ZJD ru rw' f1 f2⟩
  ·
   obtain⟨rfl,f1⟩:=vd;obtain⟨q,vs,rfl,h2,r2⟩:=ve;cases rw';rw[hk]at h2;obtain⟨its,qv,pl,_⟩:=I.list h2;cases x with
   |non=>cases ru;exact⟨SeqAt.EqAt.none_list pl.isList hu1,SeqAt.RcAt.none_list pl.isList hu1,SeqAt.RcNeAt.none_list pl.isList hu1⟩
   |bl b=>cases ru;exact⟨SeqAt.EqAt.bool_list b pl.isList hu1,SeqAt.RcAt.bool_list b pl.isList hu1,SeqAt.RcNeAt.bool_list b pl.isList hu1⟩
   |int b=>obtain⟨t,rfl⟩:=ru;exact⟨SeqAt.EqAt.int_list b t pl.isList hu1,SeqAt.RcAt.int_list b t pl.isList hu1,SeqAt.RcNeAt.int_list b t pl.isList hu1⟩
   |str b=>obtain⟨t,rfl⟩:=ru;exact⟨SeqAt.EqAt.str_list b t pl.isList hu1,SeqAt.RcAt.str_list b t pl.isList hu1,SeqAt.RcNeAt.str_list b t pl.isList hu1⟩
   |_=>exact absurd (show v6=v5 from f1) zx
  ·
   obtain⟨rfl,f1⟩:=vd;obtain⟨q,vs,rfl,h2,r2⟩:=ve;cases rw';rw[hk]at h2;obtain⟨its,qv,pl,_⟩:=I.tuple h2;cases x with
   |non=>cases ru;exact⟨SeqAt.EqAt.none_tuple pl hu1,SeqAt.RcAt.none_tuple pl hu1,SeqAt.RcNeAt.none_tuple pl hu1⟩
   |bl b=>cases ru;exact⟨SeqAt.EqAt.bool_tuple b pl hu1,SeqAt.RcAt.bool_tuple b pl hu1,SeqAt.RcNeAt.bool_tuple b pl hu1⟩
   |int b=>obtain⟨t,rfl⟩:=ru;exact⟨SeqAt.EqAt.int_tuple b t pl hu1,SeqAt.RcAt.int_tuple b t pl hu1,SeqAt.RcNeAt.int_tuple b t pl hu1⟩
   |str b=>obtain⟨t,rfl⟩:=ru;exact⟨SeqAt.EqAt.str_tuple b t pl hu1,SeqAt.RcAt.str_tuple b t pl hu1,SeqAt.RcNeAt.str_tuple b t pl hu1⟩
   |_=>exact absurd (show v6=v5 from f1) zx
  ·
   obtain⟨rfl,f1⟩:=ve;obtain⟨q,vs,rfl,h2,r2⟩:=vd;cases ru;rw[hk]at h2;obtain⟨its,qv,pl,_⟩:=I.list h2;cases y with
   |non=>cases rw';exact⟨SeqAt.EqAt.list_none pl.isList hu1,SeqAt.RcAt.list_none pl.isList hu1,SeqAt.RcNeAt.list_none pl.isList hu1⟩
   |bl b=>cases rw';exact⟨SeqAt.EqAt.list_bool b pl.isList hu1,SeqAt.RcAt.list_bool b pl.isList hu1,SeqAt.RcNeAt.list_bool b pl.isList hu1⟩
   |int b=>obtain⟨t,rfl⟩:=rw';exact⟨SeqAt.EqAt.list_int b t pl.isList hu1,SeqAt.RcAt.list_int b t pl.isList hu1,SeqAt.RcNeAt.list_int b t pl.isList hu1⟩
   |str b=>obtain⟨t,rfl⟩:=rw';exact⟨SeqAt.EqAt.list_str b t pl.isList hu1,SeqAt.RcAt.list_str b t pl.isList hu1,SeqAt.RcNeAt.list_str b t pl.isList hu1⟩
   |_=>exact absurd (show v6=v5 from f1) zx
  ·
   obtain⟨p,vs,rfl,h1,r1⟩:=vd;obtain⟨q,vs',rfl,h2,r2⟩:=ve;cases ru;cases rw';rw[hk]at h1 h2;obtain⟨its,q1,p1,_⟩:=I.list h1;obtain⟨its',q2,p2,_⟩:=I.list h2;have sz1:its.toArray.size=vs.length:=by rw[zX];exact q1.length.symm
   have sz2:its'.toArray.size=vs'.length:=by rw[zX];exact q2.length.symm
   split at h
   ·rename_i hl;obtain⟨f,hf,hb⟩:=Wb h;have hsz:its.toArray.size=its'.toArray.size:=by rw[sz1,sz2,<-r1.length,<-r2.length];exact hl
    have he:∀j(g1:j<its.toArray.size)(g2:j<its'.toArray.size),SeqAt.EqAt A.in1 s its.toArray[j] its'.toArray[j] (f j):=λj g1 g2=>by obtain⟨d1,v1,e1,rd1,rv1⟩:=W8 r1 q1 g1;obtain⟨d2,v2,e2,rd2,rv2⟩:=W8 r2 q2 g2;exact(Ro I hk sm n hu2 rd1 rd2 rv1 rv2 (hf j d1 d2 e1 e2)).1
    have hk':k=(zq its.toArray.size).all f:=by
     rw[hb]
     congr 2
     rw[sz1,<-r1.length,hl];lia
    have rc:SeqAt.RcAt A s (.ref p) (.ref q) k:=by rw[hk'];exact SeqAt.RcAt.lists p1.isList p2.isList hsz hu1 he
    refine⟨refs (λe=>?_) rc,rc,by rw[hk'];exact SeqAt.RcNeAt.lists p1.isList p2.isList hsz hu1 he⟩;subst e;exact same rd re h0
   ·rename_i hl;have h':v6=k:=Option.some.inj h;subst h';have hsz:(its.toArray.size != its'.toArray.size)=v5:=by rw[bne_iff_ne,sz1,sz2,<-r1.length,<-r2.length];exact hl
    refine⟨refs (λe=>?_) (SeqAt.RcAt.lists_lengths p1.isList p2.isList hsz hu1),SeqAt.RcAt.lists_lengths p1.isList p2.isList hsz hu1,SeqAt.RcNeAt.lists_lengths p1.isList p2.isList hsz hu1⟩;subst e;exact same rd re h0
  ·
   obtain⟨p,vs,rfl,h1,r1⟩:=vd;obtain⟨q,vs',rfl,h2,r2⟩:=ve;cases ru;cases rw';rw[hk]at h1 h2;obtain⟨its,q1,p1,_⟩:=I.list h1;obtain⟨its',q2,p2,_⟩:=I.tuple h2;exact⟨SeqAt.EqAt.list_tuple p1.isList p2 hu1,SeqAt.RcAt.list_tuple p1.isList p2 hu1,SeqAt.RcNeAt.list_tuple p1.isList p2 hu1⟩
  ·
   obtain⟨rfl,f1⟩:=ve;obtain⟨q,vs,rfl,h2,r2⟩:=vd;cases ru;rw[hk]at h2;obtain⟨its,qv,pl,_⟩:=I.tuple h2;cases y with
   |non=>cases rw';exact⟨SeqAt.EqAt.tuple_none pl hu1,SeqAt.RcAt.tuple_none pl hu1,SeqAt.RcNeAt.tuple_none pl hu1⟩
   |bl b=>cases rw';exact⟨SeqAt.EqAt.tuple_bool b pl hu1,SeqAt.RcAt.tuple_bool b pl hu1,SeqAt.RcNeAt.tuple_bool b pl hu1⟩
   |int b=>obtain⟨t,rfl⟩:=rw';exact⟨SeqAt.EqAt.tuple_int b t pl hu1,SeqAt.RcAt.tuple_int b t pl hu1,SeqAt.RcNeAt.tuple_int b t pl hu1⟩
   |str b=>obtain⟨t,rfl⟩:=rw';exact⟨SeqAt.EqAt.tuple_str b t pl hu1,SeqAt.RcAt.tuple_str b t pl hu1,SeqAt.RcNeAt.tuple_str b t pl hu1⟩
   |_=>exact absurd (show v6=v5 from f1) zx
  ·
   obtain⟨p,vs,rfl,h1,r1⟩:=vd;obtain⟨q,vs',rfl,h2,r2⟩:=ve;cases ru;cases rw';rw[hk]at h1 h2;obtain⟨its,q1,p1,_⟩:=I.tuple h1;obtain⟨its',q2,p2,_⟩:=I.list h2;exact⟨SeqAt.EqAt.tuple_list p1 p2.isList hu1,SeqAt.RcAt.tuple_list p1 p2.isList hu1,SeqAt.RcNeAt.tuple_list p1 p2.isList hu1⟩
  ·
   rename_i xs ys;obtain⟨p,vs,rfl,h1,r1⟩:=vd;obtain⟨q,vs',rfl,h2,r2⟩:=ve;cases ru;cases rw';rw[hk]at h1 h2;obtain⟨its,q1,p1,_⟩:=I.tuple h1;obtain⟨its',q2,p2,_⟩:=I.tuple h2;have sz1:its.toArray.size=xs.length:=by rw[zX,r1.length];exact q1.length.symm
   have sz2:its'.toArray.size=ys.length:=by rw[zX,r2.length];exact q2.length.symm
   split at h
   ·rename_i b hz;have h':(b&&xs.length==ys.length)=k:=Option.some.inj h;obtain⟨f,hf,hb⟩:=Wb hz;have he:∀j(g1:j<its.toArray.size)(g2:j<its'.toArray.size),SeqAt.EqAt A.in1 s its.toArray[j] its'.toArray[j] (f j):=λj g1 g2=>by obtain⟨d1,v1,e1,rd1,rv1⟩:=W8 r1 q1 g1;obtain⟨d2,v2,e2,rd2,rv2⟩:=W8 r2 q2 g2;exact(Ro I hk sm n hu2 rd1 rd2 rv1 rv2 (hf j d1 d2 e1 e2)).1
    have hk':k=((zq (min its.toArray.size its'.toArray.size)).all f&&its.toArray.size==its'.toArray.size):=by rw[<-h',hb,sz1,sz2]
    have rc:SeqAt.RcAt A s (.ref p) (.ref q) k:=by rw[hk'];exact SeqAt.RcAt.tuples p1 p2 hu1 he
    refine⟨refs (λe=>?_) rc,rc,by rw[hk'];exact SeqAt.RcNeAt.tuples p1 p2 hu1 he⟩;subst e;exact same rd re h0
   ·cases h
def Bx(d e:D)(G:DH):R D:=match eqD 30 G d e with
 |some k=>.ok (.bl k) G
 |none=>.bad
def Eb(d e:D)(G:DH):R D:=match eqD 30 G d e with
 |some k=>.ok (.bl (!k)) G
 |none=>.bad
theorem Dp(hu:X.A.units+64<cLine):OpR X (xy .Eq) (lR2 X.K E Bx):=by
 intro vv s σ H x y v u Q I rx ry ⟨a,G,d,e,hk,hH,sm,rd,re,q⟩;subst hH;unfold Bx at q;split at q
 ·rename_i k hd;exact(Ro I hk sm 30 (by lia) rd re rx ry hd).2.1 _ _ _ _ ⟨.bl k,a.H,I,rfl,q a _ (Ext.refl a) sm rfl⟩
 ·exact q.elim
theorem Jo(hu:X.A.units+64<cLine):OpR X (xy .NotEq) (lR2 X.K E Eb):=by
 intro vv s σ H x y v u Q I rx ry ⟨a,G,d,e,hk,hH,sm,rd,re,q⟩;subst hH;unfold Eb at q;split at q
 ·rename_i k hd;exact(Ro I hk sm 30 (by lia) rd re rx ry hd).2.2 _ _ _ _ ⟨.bl (!k),a.H,I,rfl,q a _ (Ext.refl a) sm rfl⟩
 ·exact q.elim
end
noncomputable abbrev DG:=D->DSt->DH->R DSt
variable{g:DG}
def Ej(E:XK)(a:Wd)(r:R DSt)(Q:St->Hp->Prop):Prop:=match r with
 |.ok S G=>∀(b:Wd)(σ:St),Ext a b->Sim b G->RepS b S σ->Q σ b.H
 |.err x G=>XOk E a x G
 |.bad=>False
def lG(K:PySem.W.Frag)(E:XK)(t:DG):TG:=λv σ H Q=>∃(a:Wd)(S:DSt)(G:DH)(d:D),a.K=K/\a.H=H/\Sim a G/\RepS a S σ/\Rep a d v/\Ej E a (t d S G) Q
def QG(X:Cx)(E:XK)(tg:jN)(t:DG):Prop:=PG X tg (lG X.K E t)
noncomputable abbrev DGs:=List D->DSt->DH->R DSt
def lGs(K:PySem.W.Frag)(E:XK)(t:DGs):TGs:=λvs σ H Q=>∃(a:Wd)(S:DSt)(G:DH)(ds:List D),a.K=K/\a.H=H/\Sim a G/\RepS a S σ/\Reps a ds vs/\Ej E a (t ds S G) Q
def QGs(X:Cx)(E:XK)(tg:List jN)(t:DGs):Prop:=PGs X tg (lGs X.K E t)
noncomputable def gV(i:Nat):DG:=λd S G=>.ok (S.set i (vk d)) G
noncomputable def Bd:DGs:=λds S G=>match ds with
 |[]=>.ok S G
 |_=>.bad
def Ai(t:DG)(u:DGs):DGs:=λds S G=>match ds with
 |d::r=>(t d S G).bind λS1 G1=>u r S1 G1
 |[]=>.bad
noncomputable def Bc(n:Nat)(t:DGs):DG:=λd S G=>match d with
 |.tup ds=>if ds.length=n then t ds S G else .bad
 |_=>.bad
theorem Ej.imp{r:R DSt}{Q Q':St->Hp->Prop}(h:Ej E a r Q)(w:∀v H,Q v H->Q' v H):Ej E a r Q':=by
 cases r with
 |ok d G=>exact λb v x s q=>w _ _ (h b v x s q)
 |err e G=>exact h
 |bad=>exact h
theorem Ej.mono(x:Ext a b){r:R DSt}{Q:St->Hp->Prop}(h:Ej E a r Q):Ej E b r Q:=by
 cases r with
 |ok d G=>exact λc v y s q=>h c v (x.trans y) s q
 |err e G=>exact XOk.mono (E:=E) (e:=e) (G:=G) x h
 |bad=>exact h
theorem ZPS{r:R DSt}{f:DSt->DH->R DSt}{Q:St->Hp->Prop}(h:Ej E a (r.bind f) Q):
  Ej E a r (λσ H=>∃(b:Wd)(S:DSt)(G:DH),b.H=H/\Ext a b/\Sim b G/\RepS b S σ/\r=.ok S G/\Ej E b (f S G) Q):=by
 cases r with
 |ok d G=>exact λb v x s q=>⟨b,d,G,rfl,x,s,q,rfl,Ej.mono x h⟩
 |err e G=>exact h
 |bad=>exact h
theorem ZDE{f:D->DH->R DSt}{Q:St->Hp->Prop}(h:Ej E a (r.bind f) Q):
  out E a r (λv H=>∃(b:Wd)(d:D)(G:DH),b.H=H/\Ext a b/\Sim b G/\Rep b d v/\r=.ok d G/\Ej E b (f d G) Q):=by
 cases r with
 |ok d G=>exact λb v x s q=>⟨b,d,G,rfl,x,s,q,rfl,Ej.mono x h⟩
 |err e G=>exact h
 |bad=>exact h
theorem ZCJ{r:R DSt}{f:DSt->DH->SR}(h:Bq E a (r.toS f) W):
  Ej E a r (λσ H=>∃(b:Wd)(S:DSt)(G:DH),b.H=H/\Ext a b/\Sim b G/\RepS b S σ/\r=.ok S G/\Bq E b (f S G) W):=by
 cases r with
 |ok d G=>exact λb v x s q=>⟨b,d,G,rfl,x,s,q,rfl,Bq.mono x h⟩
 |err e G=>exact h
 |bad=>exact h
section
variable{X:Cx}{E:XK}
theorem _root_._L.PG.mono{t t':TG}(h:PG X e t)(w:∀v σ H Q,t' v σ H Q->t v σ H Q):PG X e t':=λvv s σ H v u Q I r q=>h vv s σ H v u Q I r (w v σ H Q q)
theorem _root_._L.PGs.mono{e:List jN}{t t':TGs}(h:PGs X e t)(w:∀v σ H Q,t' v σ H Q->t v σ H Q):PGs X e t':=λvv s σ H v u Q I r q=>h vv s σ H v u Q I r (w v σ H Q q)
theorem Av(i:Nat){pos:Pos}(hN:X.N.Nodup)(hi:X.N[i]?=vk x:=by rfl)(hx:Loc X.env.scope x:=by first|exact Or.inl rfl|exact Or.inr rfl)
  (hf:X.fn x=v5∨X.env.scope.names.lookup x=vk .local:=by first|exact .inl rfl|exact .inr rfl|assumption):QG X E (.Name x pos) (gV i):=
 (ZPZ hN hi hx hf).mono λv σ H Q h=>by obtain⟨a,S,G,d,hk,rfl,s,r,q,h⟩:=h;exact h a _ (Ext.refl a) s (r.set i q)
theorem Cu:QGs X E [] Bd:=ZIJ.mono λvs σ H Q h=>by
 obtain⟨a,S,G,ds,hk,rfl,s,r,q,h⟩:=h;cases ds with
 |nil=>exact⟨q,h a σ (Ext.refl a) s r⟩
 |cons d ds=>exact h.elim
theorem Az{es:List jN}{t:DG}{u:DGs}(h1:QG X E e t)(h2:QGs X E es u)
  (hs:(xJ (e::es) X.env).map (·.2)=assign e X.env::(xJ es X.env).map (·.2):=by rfl):QGs X E (e::es) (Ai t u):=(ZKo h1 h2 hs).mono λvs σ H Q h=>by
 obtain⟨a,S,G,ds,hk,rfl,s,r,q,h⟩:=h;cases ds with
 |nil=>exact h.elim
 |cons d ds=>
  obtain⟨v,rest,e1,q1,q2⟩:=q;refine⟨v,rest,e1,a,S,G,d,hk,rfl,s,r,q1,(ZPS h).imp ?_⟩;rintro σ' _ ⟨b,S1,G1,rfl,x,s1,r1,_,h1⟩;exact⟨b,S1,G1,ds,x.k.trans hk,rfl,s1,r1,q2.mono x,h1⟩
theorem Cp{es:List jN}{k:Nat}{t:DGs}{n:Nat}{pos:Pos}(hc:X.calm=v5)(h:QGs X E es t)
  (hn:(xJ es X.env).length=n:=by rfl) (hst:(xJ es X.env).findIdx? (·.1)=v4:=by rfl):QG X E (.Tuple es k pos) (Bc n t):=(ZLC hc h hn hst).mono λv σ H Q h=>by
 obtain⟨a,S,G,d,hk,rfl,s,r,q,h⟩:=h;cases d with
 |tup ds=>
  obtain⟨p,vs,e,h1,r1⟩:=q;unfold Bc at h;dsimp only at h;split at h
  ·rename_i hl;exact⟨p,vs,e,by rw[<-hk];exact h1,by rw[<-r1.length];exact hl,a,S,G,ds,hk,rfl,s,r,r1,h⟩
  ·exact h.elim
 |_=>exact h.elim
def Jl(o i v:D)(G:DH):R D:=match o,i with
 | .ref p,.int k=>match G[p]? with
  |some (.lst xs)=>match ixN xs.length k with
   |some j=>.ok .non (G.set p (.lst (xs.set j v)))
   |none=>.bad
  |_=>.bad
 |_,_=>.bad
def gIx(to ti:DE):DG:=λv S G=>(to S G).bind λo G1=>(ti S G1).bind λi G2=>(Jl o i v G2).bind λ_ G3=>.ok S G3
theorem Rv{vs':List V}{ds':List D}(s:Sim a G)(hi:i<a.n)(h:a.H (a.m i)=vk (.lst vs))(r:Reps a ds' vs'):
  Ext a (a.put (a.m i) (.lst vs'))/\Sim (a.put (a.m i) (.lst vs')) (G.set i (.lst ds')):=⟨Ext.wr h,s.wr hi h (r.mono (Ext.wr h))⟩
theorem V3{o i:jN}{to ti:DE}{pos:Pos}(ho:QE X E o to)(hi:QE X E i ti)
  (ha:∀v,assign (.Subscript o i pos) X.env v=(do
   let ov<-holding [v] (eval o X.env);let iv<-holding [v,ov] (eval i X.env)
   standAt pos
   holding [v,ov,iv] (setItem ov iv v)
   release [v,ov,iv] []):=by intro _;rfl):QG X E (.Subscript o i pos) (gIx to ti):=(ZPn ho hi set_list ha).mono λv σ H Q h=>by
 obtain⟨a,S,G,d,hk,rfl,s,r,q,h⟩:=h;refine⟨a,S,G,hk,rfl,s,r,(ZDE h).imp ?_⟩;rintro ov _ ⟨b,e,G1,rfl,x,s1,q1,_,h1⟩;refine⟨b,S,G1,x.k.trans hk,rfl,s1,r.mono x,(ZDE h1).imp ?_⟩;rintro iv _ ⟨c,f,G2,rfl,y,s2,q2,_,h2⟩;cases e with
 | ref p=>
  cases f with
  | int k=>
   unfold Jl at h2;dsimp only at h2;split at h2
   ·rename_i xs hx;split at h2
    ·rename_i j hj;obtain⟨vs,e1,r1⟩:=s2.lst hx;have q1':=q1.mono y;have rv:=(q.mono x).mono y;obtain⟨x3,s3⟩:=Rv s2 q1'.1 e1 (r1.set rv j);refine⟨c.m p,vs,k,j,q1'.2,q2,e1,by rw[<-r1.length];exact hj,?_⟩;exact h2 _ σ x3 s3 (((r.mono x).mono y).mono x3)
    ·exact h2.elim
   ·exact h2.elim
  |_=>exact h2.elim
 |_=>exact h2.elim
variable{st:jU}{rest:List jU}{t u:DS}{e:jN}{te:DE}{pos:Pos}
noncomputable def sNx:DS:=λS G=>.nx S G
noncomputable def Ag(t u:DS):DS:=λS G=>match t S G with
 |.nx S1 G1=>u S1 G1
 |r=>r
def sEx(te:DE):DS:=λS G=>(te S G).toS λ_ G1=>.nx S G1
def sRt(te:DE):DS:=λS G=>(te S G).toS λd G1=>.rt d G1
def sIf(c:DB)(t u:DS):DS:=λS G=>(c S G).toS λk G1=>if k=v5 then t S G1 else u S G1
def sAs(te:DE)(g:DG):DS:=λS G=>(te S G).toS λd G1=>(g d S G1).toS λS2 G2=>.nx S2 G2
def sAu(i:Nat)(te:DE)(f:D->D->DH->R D):DS:=λS G=>match S[i]? with
 |some (vk x)=>(te S G).toS λy G1=>(f x y G1).toS λz G2=>.nx (S.set i (vk z)) G2
 |_=>.bad
theorem Bw:QSs X E [] sNx:=ZNA.mono λW σ H h=>by obtain⟨a,S,G,hk,rfl,s,r,h⟩:=h;exact h a σ (Ext.refl a) s r
theorem Bq.nxOf{t:DS}{K:PySem.W.Frag}(hk:a.K=K)(h:Bq E a (Ag t u S G) W):Bq E a (t S G) {W with nx:=lS K E u W}:=by
 unfold Ag at h
 revert h
 cases t S G<;>intro h
 ·exact λb σ x s r=>⟨b,_,_,x.k.trans hk,rfl,s,r,Bq.mono x h⟩
 all_goals exact h
theorem Ah(h1:QS X E st t)(h2:QSs X E rest u):QSs X E (st::rest) (Ag t u):=(ZFw h1 h2).mono λW σ H h=>by obtain⟨a,S,G,hk,rfl,s,r,h⟩:=h;exact⟨a,S,G,hk,rfl,s,r,h.nxOf hk⟩
theorem Al(h1:QS X E st t):QSs X E [st] t:=ZEC h1
theorem Dw(he:QE X E e te)(hs:swapsWith e v4 pos.line X.env=pure v6:=by rfl):QS X E (.Expr e pos) (sEx te):=(ZFy he hs).mono λW σ H h=>by obtain⟨a,S,G,hk,rfl,s,r,h⟩:=h;refine⟨a,S,G,hk,rfl,s,r,(Ge h).imp ?_⟩;rintro v _ ⟨b,d,G1,rfl,x,s1,q,_,h1⟩;exact h1 b σ (Ext.refl b) s1 (r.mono x)
theorem Bh(he:QE X E e te):QS X E (.Return (vk e) pos) (sRt te):=(ZM0 he).mono λW σ H h=>by obtain⟨a,S,G,hk,rfl,s,r,h⟩:=h;refine⟨a,S,G,hk,rfl,s,r,(Ge h).imp ?_⟩;rintro v _ ⟨b,d,G1,rfl,x,s1,q,_,h1⟩;exact h1 b v (Ext.refl b) s1 q
theorem Br{c:jN}{tc:DB}{a b:List jU}(hc:QT X E c tc)(ha:QSs X E a t)(hb:QSs X E b u):QS X E (.If c a b pos) (sIf tc t u):=(ZI7 hc ha hb).mono λW σ H h=>by
 obtain⟨a,S,G,hk,rfl,s,r,h⟩:=h;refine⟨a,S,G,hk,rfl,s,r,(ZD5 h).imp ?_⟩;rintro k _ ⟨b,G1,rfl,x,s1,_,h1⟩;cases k with
 |true=>exact⟨b,S,G1,x.k.trans hk,rfl,s1,r.mono x,h1⟩
 |false=>exact⟨b,S,G1,x.k.trans hk,rfl,s1,r.mono x,h1⟩
theorem ZIn{K:PySem.W.Frag}(h:lS K E (sAs te g) W σ H):Zg (lE K E te) (lG K E g) W σ H:=by obtain⟨a,S,G,hk,rfl,s,r,h⟩:=h;refine⟨a,S,G,hk,rfl,s,r,(Ge h).imp ?_⟩;rintro v _ ⟨b,d,G1,rfl,x,s1,q,_,h1⟩;refine⟨b,S,G1,d,x.k.trans hk,rfl,s1,r.mono x,q,(ZCJ h1).imp ?_⟩;rintro σ' _ ⟨c,S2,G2,rfl,y,s2,r2,_,h2⟩;exact h2 c σ' (Ext.refl c) s2 r2
theorem Er(he:QE X E e te)(hg:QG X E tg g)(hs:swapsWithSole [tg] e pos.line X.env=pure v6:=by rfl)(hw:swappedStores [tg] e X.env=pure v4:=by rfl)
  (h1:(xJ [tg] X.env).map (·.2)=[assign tg X.env]:=by rfl):QS X E (.Assign [tg] e pos) (sAs te g):=(ZMI he hg hs hw h1).mono λ_ _ _ h=>ZIn h
theorem Ba(i:Nat){pos':Pos}(hN:X.N.Nodup)(he:QE X E e te)(hi:X.N[i]?=vk x:=by rfl)(hx:Loc X.env.scope x:=by first|exact Or.inl rfl|exact Or.inr rfl)(hs:swapsWith e (vk (.Name x pos')) pos.line X.env=pure v6:=by rfl)
  (hf:X.fn x=v5∨X.env.scope.names.lookup x=vk .local:=by first|exact .inl rfl|exact .inr rfl|assumption):QS X E (.Assign [.Name x pos'] e pos) (sAs te (gV i)):=
 (ZJq hN hi hx he hs hf).mono λW σ H h=>by obtain⟨a,S,G,hk,rfl,s,r,h⟩:=h;refine⟨a,S,G,hk,rfl,s,r,(Ge h).imp ?_⟩;rintro v _ ⟨b,d,G1,rfl,x,s1,q,_,h1⟩;exact h1 b _ (Ext.refl b) s1 ((r.mono x).set i q)
theorem ZG2(i:Nat){op:Operator}{pos':Pos}(hN:X.N.Nodup)(he:QE X E e te)(ho:OpR X (inplaceOp op) (lR2 X.K E f))(hi:X.N[i]?=vk x:=by rfl)(hx:Loc X.env.scope x:=by first|exact Or.inl rfl|exact Or.inr rfl)
  (hf:X.fn x=v5∨X.env.scope.names.lookup x=vk .local:=by first|exact .inl rfl|exact .inr rfl|assumption):QS X E (.AugAssign (.Name x pos') op e pos) (sAu i te f):=
 (ZLW (ti:=lR2 X.K E f) hN hi hx he ho hf).mono λW σ H h=>by
  obtain⟨a,S,G,hk,rfl,s,r,h⟩:=h;unfold sAu at h;split at h
  ·rename_i d hd;obtain⟨v,e1,q⟩:=r.get i d hd;refine⟨v,e1,a,S,G,hk,rfl,s,r,(Ge h).imp ?_⟩;rintro w _ ⟨b,d1,G1,rfl,x,s1,q1,_,h1⟩;refine⟨b,G1,d,d1,x.k.trans hk,rfl,s1,q.mono x,q1,(Ge h1).imp ?_⟩;rintro z _ ⟨c,d2,G2,rfl,y,s2,q2,_,h2⟩;exact h2 c _ (Ext.refl c) s2 (((r.mono x).mono y).set i q2)
  ·exact h.elim
def Jc:D->D->DH->R D
 |.int i,.int j,G=>.ok (.int (i+j)) G
 |.str i,.str j,G=>if i.length+j.length<=1000000 then .ok (.str (i++j)) G else .bad
 |_,_,_=>.bad
theorem Qd:OpR X (inplaceOp .Add) (lR2 X.K E Jc):=Ey (OpR.or (r:=ipI λi j=>i+j) ZOR ZKz) λa G d e x y Q hk s rd re q=>by
 cases d<;>cases e<;>first
  |exact q.elim
  |exact .inl ⟨_,_,rd,re,q a _ (Ext.refl a) s rfl⟩
  | (
    unfold Jc at q;dsimp only at q;split at q
    ·rename_i hl;exact .inr ⟨_,_,rd,re,z8 hl size6,q a _ (Ext.refl a) s rfl⟩
    ·exact q.elim)
theorem ZOj:OpR X (inplaceOp .Sub) (lR2 X.K E Fl):=Ey (r:=ipI λi j=>i-j) ZMC λa G d e x y Q hk s rd re q=>by
 cases d<;>cases e<;>first
  |exact q.elim
  |exact⟨_,_,rd,re,q a _ (Ext.refl a) s rfl⟩
end
noncomputable def aft(r:SR)(k:DSt->DH->SR):SR:=match r with
 |.nx S G=>k S G
 |.ct S G=>k S G
 |.bk S G=>.nx S G
 |r=>r
def Cj(g:DG)(b:DS):List D->DS
 |[],S,G=>.nx S G
 |x::xs,S,G=>(g x S G).toS λS1 G1=>aft (b S1 G1) (Cj g b xs)
def forM(i:Nat)(g:DG)(b:DS):Nat->Nat->DS
 |0,j,S,G=>match G[i]? with
  |some (.lst xs)=>if xs.length<=j then .nx S G else .bad
  |_=>.bad
 | k+1,j,S,G=>match G[i]? with
  |some (.lst xs)=>match xs[j]? with
   |some x=>(g x S G).toS λS1 G1=>aft (b S1 G1) (forM i g b k (j+1))
   |none=>.nx S G
  |_=>.bad
def Dc(f:Nat->DH->Option (Option D))(g:DG)(b:DS):Nat->Nat->DS
 |0,j,S,G=>match f j G with
  |some v4=>.nx S G
  |_=>.bad
 |k+1,j,S,G=>match f j G with
  |some (vk x)=>(g x S G).toS λS1 G1=>aft (b S1 G1) (Dc f g b k (j+1))
  |some v4=>.nx S G
  |none=>.bad
inductive ItD where
 |pure (xs:List D)
 |mt (i:Nat)
 |fn (n:Nat) (f:Nat->DH->Option (Option D))
noncomputable abbrev DI:=DSt->DH->R ItD
def El(it:DI)(g:DG)(b:DS):DS:=λS G=>(it S G).toS λJ G1=>match J with
 |.pure xs=>Cj g b xs S G1
 |.mt i=>match G1[i]? with
  |some (.lst xs)=>forM i g b xs.length 0 S G1
  |_=>.bad
 |.fn n f=>Dc f g b n 0 S G1
def RepI(a:Wd):ItD->It->Prop
 |.pure xs,J=>∃vs:List V,Reps a xs vs/\∀b:Wd,Ext a b->∀i,(∀v,vs[i]?=vk v->J.go i b.H/\∀x H',J.yld i b.H x H'->x=v/\H'=b.H)/\(vs.length<=i->J.stop i b.H)
 |.mt k,J=>k<a.n/\∀b:Wd,Ext a b->∀vs,b.H (b.m k)=vk (.lst vs)->∀i,(∀v,vs[i]?=vk v->J.go i b.H/\∀x H',J.yld i b.H x H'->x=v/\H'=b.H)/\(vs.length<=i->J.stop i b.H)
 |.fn _ f,J=>∀b:Wd,Ext a b->∀G,Sim b G->∀i,(∀d,f i G=vk (vk d)->J.go i b.H/\∀x H',J.yld i b.H x H'->∃c:Wd,c.H=H'/\Ext b c/\Sim c G/\Rep c d x)/\(f i G=vk v4->J.stop i b.H)
def outI(E:XK)(a:Wd)(r:R ItD)(Q:It->Hp->Prop):Prop:=match r with
 |.ok J G=>∀(b:Wd)(JJ:It),Ext a b->Sim b G->RepI b J JJ->Q JJ b.H
 |.err x G=>XOk E a x G
 |.bad=>False
def lI(K:PySem.W.Frag)(E:XK)(t:DI):TI:=λσ H Q=>∃(a:Wd)(S:DSt)(G:DH),a.K=K/\a.H=H/\Sim a G/\RepS a S σ/\outI E a (t S G) Q
def QI(X:Cx)(E:XK)(tg iter:jN)(t:DI):Prop:=PI X tg iter (lI X.K E t)
theorem outI.imp{r:R ItD}{Q Q':It->Hp->Prop}(h:outI E a r Q)(w:∀v H,Q v H->Q' v H):outI E a r Q':=by
 cases r with
 |ok d G=>exact λb v x s q=>w _ _ (h b v x s q)
 |err e G=>exact h
 |bad=>exact h
theorem ZO8{r:R ItD}{f:ItD->DH->SR}(h:Bq E a (r.toS f) W):
  outI E a r (λJ H=>∃(b:Wd)(d:ItD)(G:DH),b.H=H/\Ext a b/\Sim b G/\RepI b d J/\r=.ok d G/\Bq E b (f d G) W):=by
 cases r with
 |ok d G=>exact λb v x s q=>⟨b,d,G,rfl,x,s,q,rfl,Bq.mono x h⟩
 |err e G=>exact h
 |bad=>exact h
theorem ZGF {r:SR} {k:DSt->DH->SR} (h:Bq E a (aft r k) W):
  Bq E a r {W with
            nx:=λσ H=>∃(b:Wd)(S:DSt)(G:DH),b.H=H/\Ext a b/\Sim b G/\RepS b S σ/\Bq E b (k S G) W,
            ct:=λσ H=>∃(b:Wd)(S:DSt)(G:DH),b.H=H/\Ext a b/\Sim b G/\RepS b S σ/\Bq E b (k S G) W,bk:=W.nx}:=by
 cases r with
 |nx S G=>exact λb σ x s q=>⟨b,S,G,rfl,x,s,q,Bq.mono x h⟩
 |ct S G=>exact λb σ x s q=>⟨b,S,G,rfl,x,s,q,Bq.mono x h⟩
 |bk S G=>exact h
 |rt d G=>exact h
 |err x G=>exact h
 |bad=>exact h
noncomputable def mtF(i j:Nat)(G:DH):Option (Option D):=match G[i]? with
 |some (.lst xs)=>vk xs[j]?
 |_=>v4
theorem ZE4{J:It}{n:Nat}(r:RepI a (.pure xs) J):RepI a (.fn n λj _=>vk xs[j]?) J:=by
 obtain⟨vs,rv,h⟩:=r;refine λb x G sm i=>⟨λd e=>?_,λe=>?_⟩
 ·obtain⟨v,ev,q⟩:=rv.get (Option.some.inj e);obtain⟨h1,h2⟩:=(h b x i).1 v ev;refine⟨h1,λy H' hy=>?_⟩;obtain⟨rfl,rfl⟩:=h2 y H' hy;exact⟨b,rfl,Ext.refl b,sm,q.mono x⟩
 ·exact(h b x i).2 (by rw[<-rv.length];exact qF.mp (Option.some.inj e))
theorem ZG8{k:Nat}{J:It}{n:Nat}(r:RepI a (.mt k) J):RepI a (.fn n (mtF k)) J:=by
 obtain⟨hk,h⟩:=r;refine λb x G sm i=>?_
 unfold mtF;cases hG:G[k]? with
 |none=>exact⟨λd e=>(by cases e),λe=>(by cases e)⟩
 | some o=>
  cases o with
  |lst xs=>
   obtain⟨vs,e1,rv⟩:=sm.lst hG;refine⟨λd e=>?_,λe=>?_⟩
   ·obtain⟨v,ev,q⟩:=rv.get (Option.some.inj e);obtain⟨h1,h2⟩:=(h b x vs e1 i).1 v ev;refine⟨h1,λy H' hy=>?_⟩;obtain⟨rfl,rfl⟩:=h2 y H' hy;exact⟨b,rfl,Ext.refl b,sm,q⟩
   ·exact(h b x vs e1 i).2 (by rw[<-rv.length];exact qF.mp (Option.some.inj e))
  |_=>exact⟨λd e=>(by cases e),λe=>(by cases e)⟩
theorem ZFb{b:DS}:∀(n j:Nat),j+n=xs.length->Cj g b (xs.drop j)=Dc (λj _=>vk xs[j]?) g b n j
 |0,j,h=>by
  funext S G;rw[zR (by lia)]
  show SR.nx S G=(match vk xs[j]? with |some v4=>SR.nx S G|_=>.bad)
  rw[zB (by lia)]
 |n+1,j,h=>by
  funext S G;have hj:j<xs.length:=by lia
  rw[zP hj]
  show(g xs[j] S G).toS (λS1 G1=>aft (b S1 G1) (Cj g b (xs.drop (j+1))))=(match vk xs[j]? with |some (vk x)=>(g x S G).toS (λS1 G1=>aft (b S1 G1) (Dc (λj _=>vk xs[j]?) g b n (j+1)))|some v4=>SR.nx S G|none=>.bad)
  rw[zJ hj,ZFb n (j+1) (by lia)]
theorem ZC8{b:DS}:∀(n j:Nat),forM i g b n j=Dc (mtF i) g b n j
 | 0,j=>by
  funext S G;unfold forM Dc mtF;cases G[i]? with
  |none=>rfl
  | some o=>
   cases o with
   |lst xs=>
    dsimp only;by_cases hj:j<xs.length
    ·rw[if_neg (by lia),zJ hj]
    ·rw[if_pos (by lia),zB (by lia)]
   |_=>rfl
 | n+1,j=>by
  funext S G;unfold forM Dc;rw[ZC8 n (j+1)];unfold mtF;cases G[i]? with
  |none=>rfl
  | some o=>
   cases o with
   |lst xs=>
    dsimp only
    cases xs[j]?<;>rfl
   |_=>rfl
section
variable{X:Cx}{E:XK}{tg iter:jN}{pos:Pos}
theorem ZKR{K:PySem.W.Frag}{it:DI}{b:DS}(h:lS K E (El it g b) W σ H):tFor (lI K E it) (lG K E g) (lS K E b) W σ H:=by
 obtain⟨a,S,G,hk,rfl,s,r,h⟩:=h;refine⟨a,S,G,hk,rfl,s,r,(ZO8 h).imp ?_⟩;rintro J _ ⟨a1,d,G1,rfl,x1,s1,q1,_,h1⟩;have k1:a1.K=K:=x1.k.trans hk
 suffices fnc:∃n f,RepI a1 (.fn n f) J/\Bq E a1 (Dc f g b n 0 S G1) W by
  obtain⟨n,f,q1,h1⟩:=fnc;have walk:∀b:Wd,Ext a1 b->∀G,Sim b G->∀i,(∀d,f i G=vk (vk d)->J.go i b.H/\∀x H',J.yld i b.H x H'->∃c:Wd,c.H=H'/\Ext b c/\Sim c G/\Rep c d x)/\(f i G=vk v4->J.stop i b.H):=q1;refine⟨λi m σ H=>∃(c:Wd)(S:DSt)(G:DH),c.H=H/\Ext a1 c/\Sim c G/\RepS c S σ/\Bq E c (Dc f g b m i S G) W,⟨_,a1,S,G1,rfl,Ext.refl _,s1,r.mono x1,h1⟩,?_⟩;rintro i m σ2 _ ⟨c,S2,G2,rfl,x2,s2,r2,h2⟩
  cases m with
  |zero=>
   unfold Dc at h2;split at h2
   ·rename_i hf;exact .inl ⟨(walk c x2 G2 s2 i).2 hf,h2 c σ2 (Ext.refl c) s2 r2⟩
   ·exact h2.elim
  | succ m=>
   unfold Dc at h2;split at h2
   ·rename_i d hf;obtain⟨go,yl⟩:=(walk c x2 G2 s2 i).1 d hf;refine .inr ⟨go,λσ' H'=>∃(c:Wd)(S:DSt)(G:DH),c.H=H'/\Ext a1 c/\Sim c G/\RepS c S σ'/\Bq E c (Dc f g b m (i+1) S G) W,λσ' H' z=>⟨m,zI _,z⟩,λw H' y=>?_⟩;obtain⟨cc,rfl,xx,ss,rd⟩:=yl w H' y;refine⟨cc,S2,G2,d,xx.k.trans (x2.k.trans k1),rfl,ss,r2.mono xx,rd,(ZCJ (Bq.mono xx h2)).imp ?_⟩;rintro σ3 _ ⟨c3,S3,G3,rfl,x3,s3,r3,_,h3⟩
    have fin:=ZGF h3;refine⟨c3,S3,G3,x3.k.trans (xx.k.trans (x2.k.trans k1)),rfl,s3,r3,?_⟩
    revert fin
    cases b S3 G3 with
    | nx S4 G4=>
      intro fin c4 σ4 x4 s4 q4;obtain⟨c5,S5,G5,hh,x5,s5,r5,h5⟩:=fin c4 σ4 x4 s4 q4;exact⟨c5,S5,G5,hh,x2.trans (xx.trans (x3.trans x5)),s5,r5,h5⟩
    | ct S4 G4=>
      intro fin c4 σ4 x4 s4 q4;obtain⟨c5,S5,G5,hh,x5,s5,r5,h5⟩:=fin c4 σ4 x4 s4 q4;exact⟨c5,S5,G5,hh,x2.trans (xx.trans (x3.trans x5)),s5,r5,h5⟩
    |bk S4 G4=>exact λfin=>fin
    |rt S4 G4=>exact λfin=>fin
    |err S4 G4=>exact λfin=>fin
    |bad=>exact λfin=>fin
   ·rename_i hf;exact .inl ⟨(walk c x2 G2 s2 i).2 hf,h2 c σ2 (Ext.refl c) s2 r2⟩
   ·exact h2.elim
 cases d with
 |pure xs=>
  have h1':Bq E a1 (Cj g b (xs.drop 0) S G1) W:=h1;rw[ZFb xs.length 0 (by lia)]at h1';exact⟨_,_,ZE4 q1,h1'⟩
 |mt k=>
  dsimp only at h1;split at h1
  ·rw[ZC8]at h1;exact⟨_,_,ZG8 q1,h1⟩
  ·exact h1.elim
 |fn n f=>exact⟨n,f,q1,h1⟩
theorem Gf{body:List jU}{it:DI}{b:DS}(hp:PassesOwn (xL X.prog X.w) X.A X.env X.xe)(hc:X.calm=v5)(hi:QI X E tg iter it)(hg:QG X E tg g)(hb:QSs X E body b)
  (hs:∀x,foldedSetIterable iter X.env x=pure x:=by intro _;rfl):QS X E (.For tg iter body [] pos) (El it g b):=(ZMd hp hc hi hg hb hs).mono λ_ _ _ h=>ZKR h
theorem _root_._L.PI.mono{t t':TI}(h:PI X tg iter t)(w:∀σ H Q,t' σ H Q->t σ H Q):PI X tg iter t':=λvv s σ H Q I q=>h vv s σ H Q I (w σ H Q q)
noncomputable def sgn(c:Nat):D:=.str ⟨#[c]⟩
def signs(x:Str):List D:=x.cps.toList.map sgn
noncomputable def Its(x:Str):It:=⟨λi _=>i<x.cps.size,λi H v H'=>H'=H/\∃c,x.cps[i]?=vk c/\v=.str ⟨#[c]⟩,λi _=>x.cps.size<=i⟩
theorem ZMB{K:PySem.W.Frag}(it:jL)(x:Str)(t:Tok):Turn P w K tg (Its x) [it] it (λi h=>h.IsStrIter it "str_ascii_iterator" x t i) where
 mem:=by simp
 obj:=λi h st b hb=>by
  have e:b=it:=by simpa using hb
  subst e;obtain⟨o,e,c,d⟩:=st;exact⟨o,e,λv z=>by rw[d]at z;cases z⟩
 keep:=λi h h' st k=>let⟨o,ho,r⟩:=st;⟨o,k it (by simp) o ho,r⟩
 item:=by
  intro X hP hw hK hc i vv s σ H E I hf st hg;subst hP hw hK;obtain⟨f0,f1,f2,f3,f4,f5⟩:=hf it (by simp);have hi:i<x.cps.size:=hg;refine wpAny_pyNext_ascii_item st (c:=x.cps[i]) (by simp[hi]) λh' st' sb=>?_
  have I1:Inv X vv σ H {s with heap:=h',toks:=s.toks+1}:=I.turned (λb o hb e=>(sb.2 b hb).trans e) f0 f1 f3 f4 f5;obtain⟨o,e,c,d⟩:=id st';exact⟨_,rfl,N6 (s:={s with heap:=h',toks:=s.toks+1}) e c d (by decide) ⟨.str ⟨#[x.cps[i]]⟩,H,I1,⟨_,rfl⟩,⟨rfl,_,by simp[hi],rfl⟩,st',λb hb=>(hf b hb).1⟩⟩
 done:=by intro X hP hw hK hc i vv s σ H E I hf st hg;subst hP hw hK;obtain⟨f0,f1,f2,f3,f4,f5⟩:=hf it (by simp);have hi:x.cps.size<=i:=hg;exact wpAny_pyNext_ascii_end (I.ok.hd hc) st (by simp[hi]) λh' eb=>⟨rfl,I.turned (t':=s.toks) (λb o hb e=>eb b o hb e) f0 f1 f3 f4 f5⟩
 self:=λ_ _ _ _ _ st h=>wpAny_pyIter_striter_ascii st h
theorem ZLI{K:PySem.W.Frag}(it:jL)(x:Str)(t:Tok):Turn P w K tg (Its x) [it] it (λi h=>h.IsStrIter it "str_iterator" x t i) where
 mem:=by simp
 obj:=λi h st b hb=>by
  have e:b=it:=by simpa using hb
  subst e;obtain⟨o,e,c,d⟩:=st;exact⟨o,e,λv z=>by rw[d]at z;cases z⟩
 keep:=λi h h' st k=>let⟨o,ho,r⟩:=st;⟨o,k it (by simp) o ho,r⟩
 item:=by
  intro X hP hw hK hc i vv s σ H E I hf st hg;subst hP hw hK;obtain⟨f0,f1,f2,f3,f4,f5⟩:=hf it (by simp);have hi:i<x.cps.size:=hg;refine wpAny_pyNext_wide_item st (c:=x.cps[i]) (by simp[hi]) λh' st' sb=>?_
  have I1:Inv X vv σ H {s with heap:=h',toks:=s.toks+1}:=I.turned (λb o hb e=>(sb.2 b hb).trans e) f0 f1 f3 f4 f5;obtain⟨o,e,c,d⟩:=id st';exact⟨_,rfl,N6 (s:={s with heap:=h',toks:=s.toks+1}) e c d (by decide) ⟨.str ⟨#[x.cps[i]]⟩,H,I1,⟨_,rfl⟩,⟨rfl,_,by simp[hi],rfl⟩,st',λb hb=>(hf b hb).1⟩⟩
 done:=by intro X hP hw hK hc i vv s σ H E I hf st hg;subst hP hw hK;obtain⟨f0,f1,f2,f3,f4,f5⟩:=hf it (by simp);have hi:x.cps.size<=i:=hg;exact wpAny_pyNext_wide_end (I.ok.hd hc) st (by simp[hi]) λh' eb=>⟨rfl,I.turned (t':=s.toks) (λb o hb e=>eb b o hb e) f0 f1 f3 f4 f5⟩
 self:=λ_ _ _ _ _ st h=>wpAny_pyIter_striter_wide st h
def iStr(tl:TE):TI:=λσ H R=>tl σ H λx H1=>∃z,x=.str z/\R (Its z) H1
theorem ZKj{l:jN}{tl:TE}(hl:PE X l tl):PI X tg l (iStr tl):=by
 intro vv s σ H R I h;refine thn (hl vv s σ H _ I h) λv s1 ⟨x,H1,I1,r1,q1⟩=>?_
 obtain⟨z,e,q⟩:=q1;subst e;obtain⟨t,rfl⟩:=r1;have fp:∀b∈[s1.heap.objs.size],FpOk X vv H1 b:=λb hb=>by
  have e:b=s1.heap.objs.size:=by simpa using hb
  subst e;exact I1.Hh (zY _) (I1.hok.fresh (zY _))
 cases ha:z.cps.all (· < 128)
 ·refine wpAny_pyIter_wide ha ?_;exact⟨s1.heap.objs.size,[s1.heap.objs.size],_,_,H1,rfl,I1.kept (t':=s1.toks) λb o e=>zQ _ e,ZLI _ z t,⟨_,zy _ rfl,rfl,rfl⟩,fp,q⟩
 ·refine wpAny_pyIter_ascii ha ?_;exact⟨s1.heap.objs.size,[s1.heap.objs.size],_,_,H1,rfl,I1.kept (t':=s1.toks) λb o e=>zQ _ e,ZMB _ z t,⟨_,zy _ rfl,rfl,rfl⟩,fp,q⟩
theorem Reps.signs(x:Str):Reps a (signs x) (x.cps.toList.map λc=>V.str ⟨#[c]⟩):=by
 unfold _D.signs
 induction x.cps.toList with
 |nil=>exact rfl
 |cons c r ih=>exact⟨_,_,rfl,rfl,ih⟩
def Fw:D->DH->R ItD
 |.tup xs,G=>.ok (.pure xs) G
 |.str x,G=>.ok (.pure (signs x)) G
 |.fl xs,G=>.ok (.pure xs) G
 |.ref i,G=>match G[i]? with
  |some (.lst _)=>.ok (.mt i) G
  |_=>.bad
 |_,_=>.bad
def Ff(te:DE):DI:=λS G=>(te S G).bind Fw
theorem Hd(he:QE X E iter te):QI X E tg iter (Ff te):=by
 intro vv s σ H R I h;obtain⟨a,S,G,hk,rfl,sm,r,h⟩:=h;cases ht:te S G with
 |bad=>
  have h':outI E a ((te S G).bind Fw) R:=h;rw[ht]at h';exact h'.elim
 |err e G1=>
  have h':outI E a ((te S G).bind Fw) R:=h;rw[ht]at h';refine ZBa (tg:=tg) he vv s σ a.H R I ⟨a,S,G,hk,rfl,sm,r,?_⟩;rw[ht];exact h'
 | ok d G1=>
  have h':outI E a ((te S G).bind Fw) R:=h;rw[ht]at h';cases d with
  |tup xs=>
   refine ZJC (tg:=tg) he vv s σ a.H R I ⟨a,S,G,hk,rfl,sm,r,?_⟩;rw[ht];rintro b v x sb ⟨p,vs,rfl,hq,rv⟩;have hq':SqT X.K b.H p vs:=by rw[<-hk,<-x.k];exact hq
   refine⟨p,rfl,⟨vs,hq'⟩,h' b _ x sb ⟨vs,rv,λc y i=>⟨λv hv=>⟨⟨vs,v,?_,hv⟩,λw H' z=>?_⟩,λhl=>⟨vs,?_,hl⟩⟩⟩⟩
   ·have:=y.sqT hq;rw[y.k,x.k,hk]at this;exact this
   ·have:=y.sqT hq;rw[y.k,x.k,hk]at this;exact⟨Option.some.inj ((z.2 vs this).symm.trans hv),z.1⟩
   ·have:=y.sqT hq;rw[y.k,x.k,hk]at this;exact this
  |fl xs=>
   refine ZBa (tg:=tg) he vv s σ a.H R I ⟨a,S,G,hk,rfl,sm,r,?_⟩;rw[ht];rintro b v x sb ⟨p,vs,rfl,hq,rv⟩;have hq':SqL X.K b.H p vs:=by rw[<-hk,<-x.k];exact hq.sq
   refine⟨p,rfl,⟨vs,hq'⟩,h' b _ x sb ⟨vs,rv,λc y i=>⟨λv hv=>⟨⟨vs,v,?_,hv⟩,λw H' z=>?_⟩,λhl=>⟨vs,?_,hl⟩⟩⟩⟩
   ·have:=(y.fzL hq).sq;rw[y.k,x.k,hk]at this;exact this
   ·have:=(y.fzL hq).sq;rw[y.k,x.k,hk]at this;exact⟨Option.some.inj ((z.2 vs this).symm.trans hv),z.1⟩
   ·have:=(y.fzL hq).sq;rw[y.k,x.k,hk]at this;exact this
  |ref k=>
   have h2:outI E a (Fw (.ref k) G1) R:=h';unfold Fw at h2;dsimp only at h2;split at h2
   ·rename_i xs hx;refine ZBa (tg:=tg) he vv s σ a.H R I ⟨a,S,G,hk,rfl,sm,r,?_⟩;rw[ht];rintro b v x sb ⟨hkn,rfl⟩;obtain⟨vs,hx,_⟩:=sb.lst hx;refine⟨b.m k,rfl,⟨vs,.of hx⟩,h2 b _ x sb ⟨hkn,λc y us hu i=>?_⟩⟩;rw[y.m k hkn]at hu;exact⟨λv hv=>⟨⟨us,v,.of hu,hv⟩,λw H' z=>⟨Option.some.inj ((z.2 us (.of hu)).symm.trans hv),z.1⟩⟩,λhl=>⟨us,.of hu,hl⟩⟩
   ·exact h2.elim
  | str z=>
   refine ZKj (tg:=tg) he vv s σ a.H R I ⟨a,S,G,hk,rfl,sm,r,?_⟩;rw[ht];intro b v x sb rv
   cases(show v=V.str z from rv)
   refine⟨z,rfl,h' b _ x sb ⟨_,Reps.signs z,λc y i=>⟨λv hv=>?_,λhl=>?_⟩⟩⟩
   ·rw[z0,zA]at hv;obtain⟨k,hk1,rfl⟩:=hv;have hk2:z.cps[i]?=vk k:=by rw[<-qG];exact hk1
    refine⟨(zS.mp hk2).1,λw H' q=>?_⟩;obtain⟨e1,k',e2,e3⟩:=q;rw[hk2]at e2;cases e2;exact⟨e3,e1⟩
   ·rw[zM,qq]at hl;exact hl
  |_=>exact h'.elim
end
noncomputable def Dz(lo:Int)(n:Nat):List D:=(zq n).map λ(k:Nat)=>D.int (lo+(k:Int))
def inR(j:Int):Prop:= -(2^62)<=j/\j<2^62
noncomputable instance (j:Int):Decidable (inR j):=by unfold inR;infer_instance
def rng1(ds:List D)(G:DH):R ItD:=match ds with
 |[.int j]=>if inR j then .ok (.pure (Dz 0 j.toNat)) G else .bad
 |_=>.bad
def Di(f:List D->DH->R ItD)(ta:DA):DI:=λS G=>(ta S G).bind f
def sWh(c:DB)(b:DS):Nat->DS
 |0,_,_=>.bad
 |n+1,S,G=>(c S G).toS λk G1=>if k=v5 then aft (b S G1) (sWh c b n)else .nx S G1
def Bb(np nl:Nat)(b:DS):List D->DH->R D:=λds G=>if ds.length=np then tidy G (match b (ds.map vk++zw nl v4) G with
 |.nx _ G'=>.ok .non G'
 |.rt d G'=>.ok d G'
 |.err x G'=>.err x G'
 |_=>.bad)else .bad
theorem outI.mono(x:Ext a b){r:R ItD}{Q:It->Hp->Prop}(h:outI E a r Q):outI E b r Q:=by
 cases r with
 |ok d G=>exact λc v y s q=>h c v (x.trans y) s q
 |err e G=>exact XOk.mono (E:=E) (e:=e) (G:=G) x h
 |bad=>exact h
theorem Pq{r:R (List D)}{f:List D->DH->R ItD}{Q:It->Hp->Prop}(h:outI E a (r.bind f) Q):
  Eo E a r (λvs H=>∃(b:Wd)(ds:List D)(G:DH),b.H=H/\Ext a b/\Sim b G/\Reps b ds vs/\r=.ok ds G/\outI E b (f ds G) Q):=by
 cases r with
 |ok d G=>exact λb v x s q=>⟨b,d,G,rfl,x,s,q,rfl,outI.mono x h⟩
 |err e G=>exact h
 |bad=>exact h
section
variable{X:Cx}{E:XK}{tg iter:jN}{pos:Pos}
theorem ZK1(lo:Int)(n:Nat):RepI a (.pure (Dz lo n)) (Itr lo n):=by
 refine⟨(zq n).map λ(k:Nat)=>V.int (lo+(k:Int)),?_,λb x i=>⟨λv hv=>?_,λhl=>?_⟩⟩
 ·unfold Dz;generalize zq n=l
  induction l with
  |nil=>exact rfl
  |cons k l ih=>exact⟨_,_,rfl,rfl,ih⟩
 ·rw[z0]at hv;by_cases hi:i<n
  ·rw[zF hi]at hv;have hv':V.int (lo+(i:Int))=v:=by simpa using hv
   exact⟨hi,λw H' y=>⟨y.2.trans hv',y.1⟩⟩
  ·rw[zB (by simpa using hi)]at hv;cases hv
 ·show n<=i;simpa using hl
theorem ZEw{ta:DA}{p pos:Pos}(hg:Gl X "range")(hm:X.mg "range"=v4)(ha:QA X E [e] ta)(hs:xP [e] X.env=[(v6,eval e X.env)]:=by rfl):QI X E tg (.Call (.Name "range" p) [e] [] pos) (Di rng1 ta):=
 (ZH6 hg hm ha hs).mono λσ H Q h=>by
  obtain⟨a,S,G,hk,rfl,s,r,h⟩:=h;refine⟨a,S,G,hk,rfl,s,r,(Pq h).imp ?_⟩;rintro vs _ ⟨b,ds,G1,rfl,x,s1,q,-,h1⟩;unfold rng1 at h1;split at h1
  ·rename_i j;split at h1
   ·rename_i hj;obtain⟨v,r,e1,q1,q2⟩:=q
    cases(show v=V.int j from q1)
    cases(show r=[]from q2)
    exact⟨j,e1,hj.1,hj.2,h1 b _ (Ext.refl b) s1 (ZK1 0 j.toNat)⟩
   ·exact h1.elim
  ·exact h1.elim
theorem ZAp(n:Nat){c:jN}{body:List jU}{tc:DB}{tb:DS}(hp:PassesOwn (xL X.prog X.w) X.A X.env X.xe)(hc:QT X E c tc)(hb:QSs X E body tb):QS X E (.While c body [] pos) (sWh tc tb n):=(ZMf hp hc hb).mono λW σ H h=>by
 obtain⟨a,S,G,hk,rfl,s,r,h⟩:=h;refine⟨λm σ H=>∃(b:Wd)(S:DSt)(G:DH),b.H=H/\Ext a b/\Sim b G/\RepS b S σ/\Bq E b (sWh tc tb m S G) W,⟨n,a,S,G,rfl,Ext.refl a,s,r,h⟩,?_⟩;rintro m σ2 _ ⟨b,S2,G2,rfl,x2,s2,r2,h2⟩;cases m with
 |zero=>exact h2.elim
 | succ m=>
  refine⟨b,S2,G2,x2.k.trans hk,rfl,s2,r2,(ZD5 h2).imp ?_⟩;rintro k _ ⟨c3,G3,rfl,x3,s3,_,h3⟩;cases k with
  |false=>exact h3 c3 σ2 (Ext.refl c3) s3 (r2.mono x3)
  | true=>
   refine⟨λσ' H'=>∃(b:Wd)(S:DSt)(G:DH),b.H=H'/\Ext a b/\Sim b G/\RepS b S σ'/\Bq E b (sWh tc tb m S G) W,λσ' H' z=>⟨m,zI _,z⟩,c3,S2,G3,x3.k.trans (x2.k.trans hk),rfl,s3,r2.mono x3,?_⟩;have fin:=ZGF h3
   revert fin
   cases tb S2 G3 with
   |nx S4 G4=>
    intro fin c4 σ4 x4 s4 q4;obtain⟨c5,S5,G5,hh,x5,s5,r5,h5⟩:=fin c4 σ4 x4 s4 q4;exact⟨c5,S5,G5,hh,x2.trans (x3.trans x5),s5,r5,h5⟩
   |ct S4 G4=>
    intro fin c4 σ4 x4 s4 q4;obtain⟨c5,S5,G5,hh,x5,s5,r5,h5⟩:=fin c4 σ4 x4 s4 q4;exact⟨c5,S5,G5,hh,x2.trans (x3.trans x5),s5,r5,h5⟩
   |bk S4 G4=>exact λfin=>fin
   |rt S4 G4=>exact λfin=>fin
   |err S4 G4=>exact λfin=>fin
   |bad=>exact λfin=>fin
end
theorem ZBZ(r:Reps a ds vs)(n m:Nat)(h:n=m):RepS a (ds.map vk++zw n v4) (vs.map vk++zw m v4):=by
 subst h;refine⟨by simp[r.length],λi d hd=>?_⟩;by_cases hi:i<ds.length
 ·rw[zL (by simpa using hi),z0]at hd;cases e:ds[i]? with
  |none=>rw[e]at hd;cases hd
  |some d'=>
   rw[e]at hd;have hd':d'=d:=by simpa using hd
   subst hd';obtain⟨v,ev,q⟩:=r.get e;exact⟨v,by rw[zL (by rw[zM,<-r.length];exact hi),z0,ev];rfl,q⟩
 ·rw[zC (by simpa using hi),qM]at hd
  split at hd<;>cases hd
theorem Bt{K:PySem.W.Frag}{mg:Str->Option xQ}{base:Heap}{qual:Str}{st:jU}{f:jL}{fd:jO}{N ps:List Str}{k:Nat}{b:DS}(F:Fun K x qual st f fd)(S:FnScope N ps (Am st))
  (hbody:∀(cdv:xQ)(A:jM)(outer:List Env)(s:jT)(H:Hp)(E:XK),Room k (A.deeper (envOfC qual (Am st) s.heap.objs.size f cdv))->QSs (Fo CX0 P w K mg base N qual (Am st) f cdv A outer s H E).nox E0 (Cz st) b):
  FnOk P w K mg base CX0 (k+1) f fd ps (lF K (Bb ps.length (N.length-ps.length) b)):=by
 have hlen:∀vs H Q E,lF K (Bb ps.length (N.length-ps.length) b) vs H Q E->vs.length=ps.length:=λvs H Q E h=>by
  obtain⟨a,G,ds,hk,rfl,sm,r,h⟩:=h;unfold Bb at h;split at h
  ·rename_i hl;rw[<-r.length];exact hl
  ·exact h.elim
 refine F.ok S hlen (λcdv A outer s H vs Q E hr h=>?_);refine⟨lS K E0 b,hbody cdv A outer s H E hr,?_⟩;have hl:=hlen vs H Q E h;obtain⟨a,G,ds,hk,rfl,sm,r,h⟩:=h;unfold Bb at h;split at h
 ·have h2:=Th sm h;refine⟨a,ds.map vk++zw (N.length-ps.length) v4,G,hk,rfl,sm,ZBZ r _ _ (by rw[hl]),?_⟩
  revert h2
  cases b (ds.map vk++zw (N.length-ps.length) v4) G with
  |nx S1 G1=>exact λh2 c σ x s1 _=>h2 c .non x s1 rfl
  |rt d G1=>exact λh2=>h2
  |err e G1=>exact λh2=>h2
  |bk S1 G1=>exact λh2=>h2.elim
  |ct S1 G1=>exact λh2=>h2.elim
  |bad=>exact λh2=>h2
 ·exact h.elim
theorem Io{x:V}(s:Sim a G)(r:Rep a d x)(h:Bj d G=vk xs):∃p vs,x=.ref p/\(SqL a.K a.H p vs∨SqT a.K a.H p vs)/\Reps a xs vs:=by
 cases d with
 |tup ys=>
  have e:ys=xs:=Option.some.inj h;subst e;obtain⟨p,vs,e,q,rr⟩:=r;exact⟨p,vs,e,.inr q,rr⟩
 |fl ys=>
  have e:ys=xs:=Option.some.inj h;subst e;obtain⟨p,vs,e,q,rr⟩:=r;exact⟨p,vs,e,.inl q.sq,rr⟩
 |ref i=>
  unfold Bj at h;dsimp only at h;split at h
  ·rename_i ys hi;have e:ys=xs:=Option.some.inj h;subst e;obtain⟨vs,e1,r1⟩:=s.lst hi;exact⟨a.m i,vs,r.2,.inl (.of e1),r1⟩
  ·cases h
 |_=>cases h
def Ak (d e:D) (G:DH):R D:=match e with
 | .int i=>match d with
  | .str z=>if z.length<=1000000 then(match atI z.cps.toList i with
    |some c=>.ok (.str ⟨#[c]⟩) G
    |none=>.bad)else .bad
  | d=>match Bj d G with
   |some xs=>match atI xs i with
    |some v=>.ok v G
    |none=>.bad
   |none=>.bad
 |_=>.bad
theorem ZGL{i:Int}(r:Reps a xs vs)(h:atI xs i=vk d):∃v,atI vs i=vk v/\Rep a d v:=by
 unfold atI at h⊢;rw[<-r.length];cases e:ixN xs.length i with
 |none=>rw[e]at h;cases h
 |some j=>
  rw[e]at h
  obtain⟨v,ev,q⟩:=r.get (show xs[j]?=vk d from h)
  exact⟨v,ev,q⟩
section
variable{X:Cx}{E:XK}
theorem _root_._L.IxR.mono{r r':R2}(h:IxR X r)(w:∀x y H Q,r' x y H Q->r x y H Q):IxR X r':=λvalue slice vv s σ H x y v u Q I rx ry q hs=>h value slice vv s σ H x y v u Q I rx ry (w _ _ _ _ q) hs
theorem _root_._L.CallR.mono{f:xQ}{r r':List V->Hp->VK->Prop}(h:CallR X f r)(w:∀xs H Q,r' xs H Q->r xs H Q):CallR X f r':=λvv s σ H xs us Q I rs q=>h vv s σ H xs us Q I rs (w _ _ _ q)
theorem _root_._L.MtM.mono{id:String}{r r':V->List V->Hp->VK->Prop}(h:MtM X id r)(w:∀x xs H Q,r' x xs H Q->r x xs H Q):MtM X id r':=λvv s σ H x xs v us Q I rx rs q=>h vv s σ H x xs v us Q I rx rs (w _ _ _ _ q)
theorem Aq:IxR X (lR2 X.K E Ak):=ZNH.mono λx y H Q h=>by
 obtain⟨a,G,d,e,hk,rfl,s,rd,re,q⟩:=h;cases e with
 | int i=>
  have fin:∀{xs:List D},Bj d G=vk xs->out E a (match atI xs i with |some v=>.ok v G|none=>.bad) Q->rIx X.K x y a.H Q:=λ{xs}hs q=>by
   obtain⟨p,vs,e1,h1,r1⟩:=Io s rd hs;rw[hk]at h1;split at q
   ·rename_i v hv;obtain⟨u,hu,ru⟩:=ZGL r1 hv;have z:=q a u (Ext.refl a) s ru;rcases h1 with h1|h1
    ·exact .inl ⟨p,vs,i,u,e1,re,h1,hu,z⟩
    ·exact .inr (.inl ⟨p,vs,i,u,e1,re,h1,hu,z⟩)
   ·exact q.elim
  have fin':out E a (match Bj d G with |some xs=>(match atI xs i with |some v=>.ok v G|none=>.bad)|none=>.bad) Q->rIx X.K x y a.H Q:=λq=>by
   cases hs:Bj d G with
   |none=>rw[hs]at q;exact q.elim
   |some xs=>rw[hs]at q;exact fin hs q
  cases d with
  | str z=>
   unfold Ak at q;dsimp only at q;split at q
   ·rename_i hl;split at q
    ·rename_i c hc;exact .inr (.inr ⟨z,i,c,rd,re,z8 hl size6,hc,q a _ (Ext.refl a) s rfl⟩)
    ·exact q.elim
   ·exact q.elim
  |tup ys=>exact fin' q
  |fl ys=>exact fin' q
  |ref j=>exact fin' q
  |_=>exact fin' q
 |_=>exact q.elim
def Bs(ds:List D)(G:DH):R D:=match ds with
 |[.str z]=>if z.length<=1000000 then .ok (.int z.length) G else .bad
 |[d]=>match Bj d G with
  |some xs=>.ok (.int xs.length) G
  |none=>.bad
 |_=>.bad
theorem reps1(r:Reps a [d] vs):∃v,vs=[v]/\Rep a d v:=by
 obtain⟨v,r',e,q,z⟩:=r
 cases(show r'=[]from z)
 exact⟨v,e,q⟩
theorem reps2{d':D}(r:Reps a [d,d'] vs):∃v v',vs=[v,v']/\Rep a d v/\Rep a d' v':=by obtain⟨v,r',e,q,z⟩:=r;obtain⟨v',e',q'⟩:=reps1 z;subst e';exact⟨v,v',e,q,q'⟩
theorem Dj:CallR X (.builtin "len") (lRn X.K E Bs):=(ZNm.or ZIj).mono λvs H Q h=>by
 obtain⟨a,G,ds,hk,rfl,s,r,q⟩:=h;unfold Bs at q;split at q
 ·rename_i z;split at q
  ·rename_i hl;obtain⟨v,rfl,rv⟩:=reps1 r
   cases(show v=V.str z from rv)
   exact .inr ⟨z,rfl,z8 hl size6,q a _ (Ext.refl a) s rfl⟩
  ·exact q.elim
 ·rename_i d _;split at q
  ·rename_i xs hs;obtain⟨v,rfl,rv⟩:=reps1 r;obtain⟨p,us,rfl,h1,r1⟩:=Io s rv hs;rw[hk]at h1;exact .inl ⟨p,us,rfl,h1,q a _ (Ext.refl a) s (by rw[<-r1.length];exact rfl)⟩
  ·exact q.elim
 ·exact q.elim
def J0(ds:List D)(G:DH):R D:=match ds with
 |[d]=>match Bj d G with
  |some xs=>.ok (.tup xs) G
  |none=>.bad
 |_=>.bad
theorem W9:CallR X (.type "tuple") (lRn X.K E J0):=ZKQ.mono λvs H Q h=>by
 obtain⟨a,G,ds,hk,rfl,s,r,q⟩:=h;unfold J0 at q;split at q
 ·rename_i d;split at q
  ·rename_i xs hs;obtain⟨v,rfl,rv⟩:=reps1 r;obtain⟨p,us,rfl,h1,r1⟩:=Io s rv hs;refine⟨p,us,rfl,?_⟩;rcases h1 with h1|h1
   ·exact .inl ⟨by rw[<-hk];exact h1,λl hl=>Xl s r1 q l hl⟩
   ·exact .inr ⟨by rw[<-hk];exact h1,q a _ (Ext.refl a) s ⟨p,us,rfl,h1,r1⟩⟩
  ·exact q.elim
 ·exact q.elim
def H8(ds:List D)(G:DH):R D:=match ds with
 |[.str z]=>if z.length<=1000000 then .ok (.ref G.length) (G++[.lst (signs z)])else .bad
 |[d]=>match Bj d G with
  |some xs=>.ok (.ref G.length) (G++[.lst xs])
  |none=>.bad
 |_=>.bad
theorem Zj:∀{vs:List V}{us:List xQ},vs.length=us.length->(∀(i:Nat)(v:V)(u:xQ),vs[i]?=vk v->us[i]?=vk u->RelV v u)->Vals vs us
 |[],[],_,_=>.nil
 |[],_::_,h,_=>by cases h
 |_::_,[],h,_=>by cases h
 |v::vs,u::us,h,f=>.cons (f 0 v u rfl rfl) (Zj (by simpa using h) λi v' u' h1 h2=>f (i+1) v' u' (by simpa using h1) (by simpa using h2))
theorem ZPB(hc:X.calm=v5):CallR X (.type "list") (λxs H Q=>∃z:Str,xs=[.str z]/\z.length<=sizeLine/\∀l,H l=v4->Q (.ref l) (upd H l (.lst (z.cps.toList.map λc=>V.str ⟨#[c]⟩)))):=by
 intro vv s σ H xs us Q I r h;obtain⟨z,rfl,hz,q⟩:=h;obtain⟨u,rfl,t,rfl⟩:=vals1 r;refine PySem.call_list_str (I.ok.hd hc) z t (λh' tk acc c hk hS hacc=>?_) hz;have hn:H s.heap.objs.size=v4:=I.hok.fresh (zY _);refine⟨.ref s.heap.objs.size,upd H s.heap.objs.size (.lst (z.cps.toList.map λc=>V.str ⟨#[c]⟩)),I.laid (t':=tk) (h':=h') hk (zY _) ?_,rfl,q _ hn⟩;refine⟨by rw[zM,qq];exact hz,acc.toList,c,Zj ?_ λi v u h1 h2=>?_,by simpa using hS⟩
 ·rw[zM,qq,qq];exact hacc.1.symm
 ·rw[z0,zA]at h1;obtain⟨k,e1,rfl⟩:=h1;obtain⟨k',t',e2,rfl⟩:=hacc.2 i u (by rw[<-qG];exact h2);rw[qG,e2]at e1;cases e1;exact⟨t',rfl⟩
theorem K5(hc:X.calm=v5):CallR X (.type "list") (lRn X.K E H8):=(ZLF.or (ZPB hc)).mono λvs H Q h=>by
 obtain⟨a,G,ds,hk,rfl,s,r,q⟩:=h;unfold H8 at q;split at q
 ·rename_i z;split at q
  ·rename_i hl;obtain⟨v,rfl,rv⟩:=reps1 r
   cases(show v=V.str z from rv)
   exact .inr ⟨z,rfl,z8 hl size6,λl hl=>Ja s (Reps.signs z) q l hl⟩
  ·exact q.elim
 ·rename_i d _;split at q
  ·rename_i xs hs;obtain⟨v,rfl,rv⟩:=reps1 r;obtain⟨p,us,rfl,h1,r1⟩:=Io s rv hs;exact .inl ⟨p,us,rfl,by rw[<-hk];exact h1,λl hl=>Ja s r1 q l hl⟩
  ·exact q.elim
 ·exact q.elim
noncomputable def Vr(ds:List D)(G:DH):R D:=match ds with
 |[.int i,.int j]=>.ok (.int (if j>i then j else i)) G
 |_=>.bad
noncomputable def Kw(ds:List D)(G:DH):R D:=match ds with
 |[.int i,.int j]=>.ok (.int (if j<i then j else i)) G
 |_=>.bad
theorem ZMZ(hc:X.calm=v5):CallR X (.builtin "max") (lRn X.K E Vr):=(ZJ0 hc).mono λvs H Q h=>by
 obtain⟨a,G,ds,hk,rfl,s,r,q⟩:=h;unfold Vr at q;split at q
 ·obtain⟨v,v',rfl,h1,h2⟩:=reps2 r
  cases(show v=V.int _ from h1)
  cases(show v'=V.int _ from h2)
  exact⟨_,_,rfl,q a _ (Ext.refl a) s rfl⟩
 ·exact q.elim
theorem Wj(hc:X.calm=v5):CallR X (.builtin "min") (lRn X.K E Kw):=(ZMX hc).mono λvs H Q h=>by
 obtain⟨a,G,ds,hk,rfl,s,r,q⟩:=h;unfold Kw at q;split at q
 ·obtain⟨v,v',rfl,h1,h2⟩:=reps2 r
  cases(show v=V.int _ from h1)
  cases(show v'=V.int _ from h2)
  exact⟨_,_,rfl,q a _ (Ext.refl a) s rfl⟩
 ·exact q.elim
noncomputable def Td(ds:List D)(G:DH):R D:=match ds with
 |[.int i]=>.ok (.int i) G
 |[.bl k]=>.ok (.int (if k then 1 else 0)) G
 |_=>.bad
theorem ZMo:CallR X (.type "int") (lRn X.K E Td):=ZNr.mono λvs H Q h=>by
 obtain⟨a,G,ds,hk,rfl,s,r,q⟩:=h;unfold Td at q;split at q
 ·obtain⟨v,rfl,h1⟩:=reps1 r
  cases(show v=V.int _ from h1)
  exact .inl ⟨_,rfl,q a _ (Ext.refl a) s rfl⟩
 ·obtain⟨v,rfl,h1⟩:=reps1 r
  cases(show v=V.bl _ from h1)
  exact .inr ⟨_,rfl,q a _ (Ext.refl a) s rfl⟩
 ·exact q.elim
noncomputable def Hr(o:D)(ds:List D)(G:DH):R D:=match o,ds with
 |.ref i,[d]=>match G[i]? with
  |some (.lst xs)=>if xs.length<1000000 then .ok .non (G.set i (.lst (xs++[d])))else .bad
  |_=>.bad
 |_,_=>.bad
def lRm(K:PySem.W.Frag)(E:XK)(f:D->List D->DH->R D):V->List V->Hp->VK->Prop:=λx xs H Q=>∃(a:Wd)(G:DH)(d:D)(ds:List D),a.K=K/\a.H=H/\Sim a G/\Rep a d x/\Reps a ds xs/\out E a (f d ds G) Q
theorem Sim.isList(s:Sim a G)(h:G[i]?=vk (.lst xs)):∃vs,SqL a.K a.H (a.m i) vs:=let⟨vs,e,_⟩:=s.lst h;⟨vs,.of e⟩
theorem Mf:MtM X "list.append" (lRm X.K E Hr):=ZKu.mono λx xs H Q h=>by
 obtain⟨a,G,d,ds,hk,rfl,s,rd,r,q⟩:=h;unfold Hr at q;split at q
 ·rename_i i d;obtain⟨v,rfl,rv⟩:=reps1 r;split at q
  ·rename_i ys hy;split at q
   ·rename_i hl;obtain⟨vs,e1,r1⟩:=s.lst hy;obtain⟨x3,s3⟩:=Rv s rd.1 e1 (r1.append (Reps.cons rv Reps.nil));refine⟨a.m i,vs,v,rd.2,rfl,e1,by rw[<-r1.length];exact zV hl size6,?_⟩;exact q _ .non x3 s3 rfl
   ·exact q.elim
  ·exact q.elim
 ·exact q.elim
variable{o e:jN}{es:List jN}{to:DE}{t:DA}{name:Str}{apos cpos:Pos}{T id:String}{f:D->List D->DH->R D}
noncomputable def isL(d:D)(G:DH):Bool:=match d with
 |.ref i=>match G[i]? with
  |some (.lst _)=>v5
  |_=>v6
 |.fl _=>v5
 |_=>v6
def Gp(f:D->List D->DH->R D)(o:DE)(t:DA):DE:=λS G=>(o S G).bind λx G1=>if isL x G1=v5 then(t S G1).bind λxs G2=>f x xs G2 else .bad
theorem ZQJ{x:V}(s:Sim a G)(r:Rep a d x)(h:isL d G=v5):tyV a.K "list" x a.H:=by
 cases d with
 |ref i=>
  unfold isL at h;dsimp only at h;split at h
  ·rename_i xs hx;cases r.2;exact .inl ⟨rfl,s.isList hx⟩
  ·cases h
 |fl xs=>
  obtain⟨p,vs,rfl,q,_⟩:=r;exact .inl ⟨rfl,vs,q.sq⟩
 |_=>cases h
theorem Hi(slot:Slot "list" name id)(hty:typeOf (.builtin id)=pure (.type "method_descriptor"))(hm:MtM X id (lRm X.K E f))(ho:QE X E o to)(ha:QA X E (e::es) t)
  (hbase:xX o name X.env (eval o X.env)=eval o X.env:=by rfl)
  (hfew:((xV cpos (xP (e::es) X.env)).all (λx=> !x.1)&&(xW cpos (xG [] X.env)).all (λx=>x.1.isSome)
   && decide ((e::es).length+([]:List Keyword).length+(if([]:List Keyword).isEmpty then 0 else 1)<30))=v5:=by rfl)
  (hline:(apos.endLine==cpos.line)=v5:=by rfl) (hs:xP (e::es) X.env=(v6,eval e X.env)::xP es X.env:=by rfl) (hplain:(xV cpos (xP es X.env)).any (·.1)=v6:=by rfl):
  QE X E (.Call (.Attribute o name apos) (e::es) [] cpos) (Gp f to t):=(ZOd PySem.F.plainAttrs_list slot hty hm ho ha hbase hfew hline hs hplain).mono λσ H Q h=>by
 obtain⟨a,S,G,hk,rfl,s,r,h⟩:=h;refine⟨a,S,G,hk,rfl,s,r,(Dr h).imp ?_⟩;rintro v _ ⟨b,d,G1,rfl,x,s1,q,-,h1⟩;split at h1
 ·rename_i hl;have ty:=ZQJ s1 q hl;rw[x.k,hk]at ty;refine⟨ty,b,S,G1,x.k.trans hk,rfl,s1,r.mono x,(Kc h1).imp ?_⟩;rintro vs _ ⟨c,ds,G2,rfl,y,s2,q2,-,h2⟩;exact⟨c,G2,d,ds,y.k.trans (x.k.trans hk),rfl,s2,q.mono y,q2,h2⟩
 ·exact h1.elim
end
inductive Ty where|non|bl|int|str|tup|lst
def tyD(G:DH):D->Option Ty
 |.non=>vk .non
 |.bl _=>vk .bl
 |.int _=>vk .int
 |.str _=>vk .str
 |.tup _=>vk .tup
 |.fl _=>vk .lst
 |.ref i=>match G[i]? with
  |some (.lst _)=>vk .lst
  |_=>v4
 |.ty _=>v4
noncomputable def Ty.sub(t:Ty):String->Option Bool
 |"int"=>vk (match t with | .int=>v5 | .bl=>v5|_=>v6)
 |"bool"=>vk (match t with | .bl=>v5|_=>v6)
 |"str"=>vk (match t with | .str=>v5|_=>v6)
 |"tuple"=>vk (match t with | .tup=>v5|_=>v6)
 |"list"=>vk (match t with | .lst=>v5|_=>v6)
 |_=>v4
def K4(ds:List D)(G:DH):R D:=match ds with
 | [d,.ty T]=>match tyD G d with
  |some t=>match t.sub T with
   |some k=>.ok (.bl k) G
   |none=>.bad
  |none=>.bad
 |_=>.bad
section
variable{prog:jR}{w:xZ}{A:jM}{E:xQ->jT->Prop}{s:jT}
theorem Mg{x:xQ}{Tx T:String}{Q:xQ->jT->Prop}(hx:s.TypeIs x Tx)(hty:typeOf (.type T)=pure (.type "type"))(hsub:xA (.type Tx) (.type T)=pure v5)(h:Q (.bool v5) s):
  xS (xL prog w) A (call (.builtin "isinstance") [x,.type T]) Q E s:=xz (isinstance_true hty hsub) ⟨hx,h⟩
end
theorem ty_int:typeOf (.type "int")=pure (.type "type"):=by with_unfolding_all rfl
theorem ty_bool:typeOf (.type "bool")=pure (.type "type"):=by with_unfolding_all rfl
theorem ty_str:typeOf (.type "str")=pure (.type "type"):=by with_unfolding_all rfl
theorem ty_tuple:typeOf (.type "tuple")=pure (.type "type"):=by with_unfolding_all rfl
theorem ty_list:typeOf (.type "list")=pure (.type "type"):=by with_unfolding_all rfl
theorem ZPv:xA (.type "NoneType") (.type "int")=pure v6:=by with_unfolding_all rfl
theorem ZIZ:xA (.type "NoneType") (.type "bool")=pure v6:=by with_unfolding_all rfl
theorem ZMb:xA (.type "NoneType") (.type "str")=pure v6:=by with_unfolding_all rfl
theorem ZIV:xA (.type "NoneType") (.type "tuple")=pure v6:=by with_unfolding_all rfl
theorem ZN7:xA (.type "NoneType") (.type "list")=pure v6:=by with_unfolding_all rfl
theorem ZMu:xA (.type "bool") (.type "int")=pure v5:=by with_unfolding_all rfl
theorem ZOE:xA (.type "bool") (.type "bool")=pure v5:=by with_unfolding_all rfl
theorem ZMx:xA (.type "bool") (.type "str")=pure v6:=by with_unfolding_all rfl
theorem ZMM:xA (.type "bool") (.type "tuple")=pure v6:=by with_unfolding_all rfl
theorem ZI4:xA (.type "bool") (.type "list")=pure v6:=by with_unfolding_all rfl
theorem ZN0:xA (.type "int") (.type "int")=pure v5:=by with_unfolding_all rfl
theorem ZHx:xA (.type "int") (.type "bool")=pure v6:=by with_unfolding_all rfl
theorem ZJa:xA (.type "int") (.type "str")=pure v6:=by with_unfolding_all rfl
theorem ZMl:xA (.type "int") (.type "tuple")=pure v6:=by with_unfolding_all rfl
theorem ZNG:xA (.type "int") (.type "list")=pure v6:=by with_unfolding_all rfl
theorem ZOB:xA (.type "str") (.type "int")=pure v6:=by with_unfolding_all rfl
theorem ZOw:xA (.type "str") (.type "bool")=pure v6:=by with_unfolding_all rfl
theorem ZPX:xA (.type "str") (.type "str")=pure v5:=by with_unfolding_all rfl
theorem ZIp:xA (.type "str") (.type "tuple")=pure v6:=by with_unfolding_all rfl
theorem ZLH:xA (.type "str") (.type "list")=pure v6:=by with_unfolding_all rfl
theorem ZN2:xA (.type "tuple") (.type "int")=pure v6:=by with_unfolding_all rfl
theorem ZPi:xA (.type "tuple") (.type "bool")=pure v6:=by with_unfolding_all rfl
theorem ZQI:xA (.type "tuple") (.type "str")=pure v6:=by with_unfolding_all rfl
theorem ZKm:xA (.type "tuple") (.type "tuple")=pure v5:=by with_unfolding_all rfl
theorem ZLL:xA (.type "tuple") (.type "list")=pure v6:=by with_unfolding_all rfl
theorem ZEu:xA (.type "list") (.type "int")=pure v6:=by with_unfolding_all rfl
theorem ZEj:xA (.type "list") (.type "bool")=pure v6:=by with_unfolding_all rfl
theorem ZHk:xA (.type "list") (.type "str")=pure v6:=by with_unfolding_all rfl
theorem ZF8:xA (.type "list") (.type "tuple")=pure v6:=by with_unfolding_all rfl
theorem ZDr:xA (.type "list") (.type "list")=pure v5:=by with_unfolding_all rfl
section
variable{X:Cx}{E:XK}
theorem ZE1:CallR X (.builtin "isinstance") (lRn X.K E K4):=by
 intro vv s σ H vs us Q I rs h;obtain⟨a,G,ds,hk,rfl,sm,r,q⟩:=h;unfold K4 at q;split at q
 ·rename_i d T;obtain⟨v,v',rfl,h1,h2⟩:=reps2 r
  cases(show v'=V.ty T from h2)
  obtain⟨u,u',rfl,ru,ru'⟩:∃u u',us=[u,u']/\RelV v u/\RelV (.ty T) u':=by
   cases rs with
   |cons p q=>cases q with
    |cons p' q'=>cases q';exact⟨_,_,rfl,p,p'⟩
  cases(show u'=Value.type T from ru')
  split at q
  ·rename_i t ht;split at q
   ·rename_i k hk';have fin:∀{n:Nat},EP X vv σ Q (.bool k) {s with toks:=n}:=λ{n}=>⟨.bl k,a.H,I.tok _,rfl,q a _ (Ext.refl a) sm rfl⟩
    have fin0:EP X vv σ Q (.bool k) s:=⟨.bl k,a.H,I,rfl,q a _ (Ext.refl a) sm rfl⟩;unfold Ty.sub at hk';split at hk'
    ·cases d with
     |non=>
      cases ht;cases hk'
      cases(show v=_ from h1)
      cases ru;exact xz (xD (by decide) ty_int ZPv) fin
     |bl b=>
      cases ht;cases hk'
      cases(show v=_ from h1)
      cases ru;exact Mg (Tx:="bool") rfl ty_int ZMu fin0
     |int b=>
      cases ht;cases hk'
      cases(show v=_ from h1)
      obtain⟨tk,rfl⟩:=ru;exact Mg (Tx:="int") (typeIs_int s _ _) ty_int ZN0 fin0
     |str b=>
      cases ht;cases hk'
      cases(show v=_ from h1)
      obtain⟨tk,rfl⟩:=ru;exact xz (xE (by decide) ty_int ZOB) fin
     |tup b=>
      cases ht;cases hk';obtain⟨p,ws,rfl,hq,_⟩:=h1;cases ru;rw[hk]at hq;obtain⟨its,_,pl,_⟩:=I.tuple hq;exact xz (xF (by decide) ty_int ZN2) ⟨(let⟨o,e,c,_⟩:=pl;⟨o,e,c⟩),fin⟩
     |fl b=>
      cases ht;cases hk';obtain⟨p,ws,rfl,hq,_⟩:=h1;cases ru;have hq:=hq.sq;rw[hk]at hq;obtain⟨its,_,pl,_⟩:=I.list hq;exact xz (xC (by decide) ty_int ZEu) ⟨(let⟨o,e,c,_⟩:=pl.isList;⟨o,e,c⟩),fin⟩
     |ref b=>
      unfold tyD at ht;dsimp only at ht;split at ht
      ·rename_i xs hx;cases ht;cases hk';obtain⟨ws,e1,_⟩:=sm.lst hx;cases h1.2;cases ru;obtain⟨its,_,pl,_⟩:=I.list (.of e1);exact xz (xC (by decide) ty_int ZEu) ⟨(let⟨o,e,c,_⟩:=pl.isList;⟨o,e,c⟩),fin⟩
      ·cases ht
     |ty n=>cases ht
    ·cases d with
     |non=>
      cases ht;cases hk'
      cases(show v=_ from h1)
      cases ru;exact xz (xD (by decide) ty_bool ZIZ) fin
     |bl b=>
      cases ht;cases hk'
      cases(show v=_ from h1)
      cases ru;exact Mg (Tx:="bool") rfl ty_bool ZOE fin0
     |int b=>
      cases ht;cases hk'
      cases(show v=_ from h1)
      obtain⟨tk,rfl⟩:=ru;exact xz (xB (by decide) ty_bool ZHx) fin
     |str b=>
      cases ht;cases hk'
      cases(show v=_ from h1)
      obtain⟨tk,rfl⟩:=ru;exact xz (xE (by decide) ty_bool ZOw) fin
     |tup b=>
      cases ht;cases hk';obtain⟨p,ws,rfl,hq,_⟩:=h1;cases ru;rw[hk]at hq;obtain⟨its,_,pl,_⟩:=I.tuple hq;exact xz (xF (by decide) ty_bool ZPi) ⟨(let⟨o,e,c,_⟩:=pl;⟨o,e,c⟩),fin⟩
     |fl b=>
      cases ht;cases hk';obtain⟨p,ws,rfl,hq,_⟩:=h1;cases ru;have hq:=hq.sq;rw[hk]at hq;obtain⟨its,_,pl,_⟩:=I.list hq;exact xz (xC (by decide) ty_bool ZEj) ⟨(let⟨o,e,c,_⟩:=pl.isList;⟨o,e,c⟩),fin⟩
     |ref b=>
      unfold tyD at ht;dsimp only at ht;split at ht
      ·rename_i xs hx;cases ht;cases hk';obtain⟨ws,e1,_⟩:=sm.lst hx;cases h1.2;cases ru;obtain⟨its,_,pl,_⟩:=I.list (.of e1);exact xz (xC (by decide) ty_bool ZEj) ⟨(let⟨o,e,c,_⟩:=pl.isList;⟨o,e,c⟩),fin⟩
      ·cases ht
     |ty n=>cases ht
    ·cases d with
     |non=>
      cases ht;cases hk'
      cases(show v=_ from h1)
      cases ru;exact xz (xD (by decide) ty_str ZMb) fin
     |bl b=>
      cases ht;cases hk'
      cases(show v=_ from h1)
      cases ru;exact xz (isinstance_false_bool (by decide) ty_str ZMx) fin
     |int b=>
      cases ht;cases hk'
      cases(show v=_ from h1)
      obtain⟨tk,rfl⟩:=ru;exact xz (xB (by decide) ty_str ZJa) fin
     |str b=>
      cases ht;cases hk'
      cases(show v=_ from h1)
      obtain⟨tk,rfl⟩:=ru;exact Mg (Tx:="str") (typeIs_str s _ _) ty_str ZPX fin0
     |tup b=>
      cases ht;cases hk';obtain⟨p,ws,rfl,hq,_⟩:=h1;cases ru;rw[hk]at hq;obtain⟨its,_,pl,_⟩:=I.tuple hq;exact xz (xF (by decide) ty_str ZQI) ⟨(let⟨o,e,c,_⟩:=pl;⟨o,e,c⟩),fin⟩
     |fl b=>
      cases ht;cases hk';obtain⟨p,ws,rfl,hq,_⟩:=h1;cases ru;have hq:=hq.sq;rw[hk]at hq;obtain⟨its,_,pl,_⟩:=I.list hq;exact xz (xC (by decide) ty_str ZHk) ⟨(let⟨o,e,c,_⟩:=pl.isList;⟨o,e,c⟩),fin⟩
     |ref b=>
      unfold tyD at ht;dsimp only at ht;split at ht
      ·rename_i xs hx;cases ht;cases hk';obtain⟨ws,e1,_⟩:=sm.lst hx;cases h1.2;cases ru;obtain⟨its,_,pl,_⟩:=I.list (.of e1);exact xz (xC (by decide) ty_str ZHk) ⟨(let⟨o,e,c,_⟩:=pl.isList;⟨o,e,c⟩),fin⟩
      ·cases ht
     |ty n=>cases ht
    ·cases d with
     |non=>
      cases ht;cases hk'
      cases(show v=_ from h1)
      cases ru;exact xz (xD (by decide) ty_tuple ZIV) fin
     |bl b=>
      cases ht;cases hk'
      cases(show v=_ from h1)
      cases ru;exact xz (isinstance_false_bool (by decide) ty_tuple ZMM) fin
     |int b=>
      cases ht;cases hk'
      cases(show v=_ from h1)
      obtain⟨tk,rfl⟩:=ru;exact xz (xB (by decide) ty_tuple ZMl) fin
     |str b=>
      cases ht;cases hk'
      cases(show v=_ from h1)
      obtain⟨tk,rfl⟩:=ru;exact xz (xE (by decide) ty_tuple ZIp) fin
     |tup b=>
      cases ht;cases hk';obtain⟨p,ws,rfl,hq,_⟩:=h1;cases ru;rw[hk]at hq;obtain⟨its,_,pl,_⟩:=I.tuple hq;exact Mg (Tx:="tuple") pl.typeIs ty_tuple ZKm fin0
     |fl b=>
      cases ht;cases hk';obtain⟨p,ws,rfl,hq,_⟩:=h1;cases ru;have hq:=hq.sq;rw[hk]at hq;obtain⟨its,_,pl,_⟩:=I.list hq;exact xz (xC (by decide) ty_tuple ZF8) ⟨(let⟨o,e,c,_⟩:=pl.isList;⟨o,e,c⟩),fin⟩
     |ref b=>
      unfold tyD at ht;dsimp only at ht;split at ht
      ·rename_i xs hx;cases ht;cases hk';obtain⟨ws,e1,_⟩:=sm.lst hx;cases h1.2;cases ru;obtain⟨its,_,pl,_⟩:=I.list (.of e1);exact xz (xC (by decide) ty_tuple ZF8) ⟨(let⟨o,e,c,_⟩:=pl.isList;⟨o,e,c⟩),fin⟩
      ·cases ht
     |ty n=>cases ht
    ·cases d with
     |non=>
      cases ht;cases hk'
      cases(show v=_ from h1)
      cases ru;exact xz (xD (by decide) ty_list ZN7) fin
     |bl b=>
      cases ht;cases hk'
      cases(show v=_ from h1)
      cases ru;exact xz (isinstance_false_bool (by decide) ty_list ZI4) fin
     |int b=>
      cases ht;cases hk'
      cases(show v=_ from h1)
      obtain⟨tk,rfl⟩:=ru;exact xz (xB (by decide) ty_list ZNG) fin
     |str b=>
      cases ht;cases hk'
      cases(show v=_ from h1)
      obtain⟨tk,rfl⟩:=ru;exact xz (xE (by decide) ty_list ZLH) fin
     |tup b=>
      cases ht;cases hk';obtain⟨p,ws,rfl,hq,_⟩:=h1;cases ru;rw[hk]at hq;obtain⟨its,_,pl,_⟩:=I.tuple hq;exact xz (xF (by decide) ty_list ZLL) ⟨(let⟨o,e,c,_⟩:=pl;⟨o,e,c⟩),fin⟩
     |fl b=>
      cases ht;cases hk';obtain⟨p,ws,rfl,hq,_⟩:=h1;cases ru;have hq:=hq.sq;rw[hk]at hq;obtain⟨its,_,pl,_⟩:=I.list hq;exact Mg (Tx:="list") pl.isList.typeIs ty_list ZDr fin0
     |ref b=>
      unfold tyD at ht;dsimp only at ht;split at ht
      ·rename_i xs hx;cases ht;cases hk';obtain⟨ws,e1,_⟩:=sm.lst hx;cases h1.2;cases ru;obtain⟨its,_,pl,_⟩:=I.list (.of e1);exact Mg (Tx:="list") pl.isList.typeIs ty_list ZDr fin0
      ·cases ht
     |ty n=>cases ht
    ·cases hk'
   ·exact q.elim
  ·exact q.elim
 ·exact q.elim
end
noncomputable def Ew:List D->Option (List Int)
 |[]=>vk []
 |.int i::r=>(Ew r).map (i::·)
 |_=>v4
noncomputable def G7:List D->Option (List Bool)
 |[]=>vk []
 |.bl i::r=>(G7 r).map (i::·)
 |_=>v4
@[simp]theorem Xc(ns:List Int):Ew (ns.map D.int)=vk ns:=by
 induction ns with
 |nil=>rfl
 |cons n ns ih=>simp[Ew,ih]
@[simp]theorem ZQr(ns:List Bool):G7 (ns.map D.bl)=vk ns:=by
 induction ns with
 |nil=>rfl
 |cons n ns ih=>simp[G7,ih]
theorem Vp:∀{xs:List D}{ns:List Int},Ew xs=vk ns->xs=ns.map D.int
 |[],ns,h=>by cases h;rfl
 |.int i::r,ns,h=>by simp only[Ew,zA]at h;obtain⟨ms,h1,rfl⟩:=h;rw[zk,Vp h1]
 |.non::r,ns,h=>by simp[Ew]at h
 |.bl _::r,ns,h=>by simp[Ew]at h
 |.str _::r,ns,h=>by simp[Ew]at h
 |.ty _::r,ns,h=>by simp[Ew]at h
 |.tup _::r,ns,h=>by simp[Ew]at h
 |.fl _::r,ns,h=>by simp[Ew]at h
 |.ref _::r,ns,h=>by simp[Ew]at h
theorem ZFO:∀{xs:List D}{ns:List Bool},G7 xs=vk ns->xs=ns.map D.bl
 |[],ns,h=>by cases h;rfl
 |.bl i::r,ns,h=>by simp only[G7,zA]at h;obtain⟨ms,h1,rfl⟩:=h;rw[zk,ZFO h1]
 |.non::r,ns,h=>by simp[G7]at h
 |.int _::r,ns,h=>by simp[G7]at h
 |.str _::r,ns,h=>by simp[G7]at h
 |.ty _::r,ns,h=>by simp[G7]at h
 |.tup _::r,ns,h=>by simp[G7]at h
 |.fl _::r,ns,h=>by simp[G7]at h
 |.ref _::r,ns,h=>by simp[G7]at h
def Mj(ds:List D)(G:DH):R D:=match ds with
 | [d]=>match Bj d G with
  |some xs=>match G7 xs with
   |some ns=>.ok (.bl (ns.all id)) G
   |none=>.bad
  |none=>.bad
 |_=>.bad
section
variable{X:Cx}{E:XK}{vv:List (jL×Obj)}{σ:St}{s:jT}{H:Hp}
theorem X8(I:Inv X vv σ H s)(hc:X.calm=v5)(h:SqL X.K H p vs∨SqT X.K H p vs){E':xQ->jT->Prop}{Q:xQ->jT->Prop}
  (hQ:∀(it:jL)(fp wr:List jL)(its:List xQ)(St:Nat->Heap->Prop)(s₂:jT),Vals vs its->Walks X.prog X.w X.A.in1 it fp wr its.toArray.size (λi v=>its.toArray[i]?=vk v) St->St 0 s₂.heap->(∀b∈fp,b<s₂.heap.objs.size)->
   (∀h' tk,(∀b o,b∉wr->s₂.heap.get? b=vk o->h'.get? b=vk o)->Inv X vv σ H {s₂ with heap:=h',toks:=tk})->Q (.ref it) s₂):
  xS (xL X.prog X.w) X.A.in1 (pyIter (.ref p)) Q E' s:=by
 have hh:X.A.in1.handled=v4:=I.ok.hd hc;rcases h with h|h
 ·obtain⟨its,r,pl,hz⟩:=I.list h;refine wpAny_pyIter_list pl.isList ?_;have hp:p<s.heap.objs.size:=by obtain⟨o,e,_⟩:=pl.isList;exact zK e
  refine hQ _ _ _ its _ _ r (Walks.list hh _ p (z9 hp) its.toArray) ⟨⟨_,zy _ rfl,rfl,rfl⟩,?_⟩ (λb hb=>?_) λh' tk kk=>?_
  ·obtain⟨o,e,c⟩:=pl.isList;exact⟨o,zQ _ e,c⟩
  ·show b<(s.heap.push _).objs.size;rw[qV];rcases zj.mp hb with rfl|hb
   ·exact zI _
   ·have e:b=p:=by simpa using hb
    subst e;exact qA hp
  ·refine I.kept λb o e=>kk b o (λhb=>?_) (zQ _ e)
   have e2:b=s.heap.objs.size:=by simpa using hb
   subst e2;exact absurd (zK e) (zN _)
 ·obtain⟨its,r,pl,hz⟩:=I.tuple h
  refine wpAny_pyIter_tuple (show s.heap.IsTuple p its.toArray from pl) ?_
  have hp:p<s.heap.objs.size:=by obtain⟨o,e,_⟩:=pl;exact zK e
  refine hQ _ _ _ its _ _ r (Walks.tuple hh _ p (z9 hp) its.toArray) ⟨⟨_,zy _ rfl,rfl,rfl⟩,?_⟩ (λb hb=>?_) λh' tk kk=>?_
  ·obtain⟨o,e,c⟩:=pl;exact⟨o,zQ _ e,c⟩
  ·show b<(s.heap.push _).objs.size;rw[qV];rcases zj.mp hb with rfl|hb
   ·exact zI _
   ·have e:b=p:=by simpa using hb
    subst e;exact qA hp
  ·refine I.kept λb o e=>kk b o (λhb=>?_) (zQ _ e)
   have e2:b=s.heap.objs.size:=by simpa using hb
   subst e2;exact absurd (zK e) (zN _)
theorem ZAw:∀{ns:List Int}{vs:List V},Reps a (ns.map D.int) vs->vs=ns.map V.int
 |[],vs,h=>h
 |n::ns,vs,h=>by
  obtain⟨v,r,e,h1,h2⟩:=h
  cases(show v=V.int n from h1)
  rw[e,ZAw h2]
  rfl
theorem ZFv:∀{ns:List Bool}{vs:List V},Reps a (ns.map D.bl) vs->vs=ns.map V.bl
 |[],vs,h=>h
 |n::ns,vs,h=>by
  obtain⟨v,r,e,h1,h2⟩:=h
  cases(show v=V.bl n from h1)
  rw[e,ZFv h2]
  rfl
theorem all_range(ns:List Bool):(zq ns.length).all (λi=>ns.getD i v5)=ns.all id:=by
 rw[Bool.eq_iff_iff,qY,qY];constructor
 ·intro h b hb;obtain⟨i,hi,rfl⟩:=qD hb;simpa[hi]using h i (qZ.mpr hi)
 ·intro h i hi;have hi':i<ns.length:=qZ.mp hi;simpa[hi']using h ns[i] (qw hi')
theorem ZFu(hc:X.calm=v5):CallR X (.builtin "all") (lRn X.K E Mj):=by
 intro vv s σ H vs us Q I rs h;obtain⟨a,G,ds,hk,rfl,sm,r,q⟩:=h;unfold Mj at q;split at q
 ·rename_i d;obtain⟨v,rfl,rv⟩:=reps1 r;split at q
  ·rename_i xs hs;split at q
   ·rename_i ns hn;cases ZFO hn;obtain⟨p,ws,rfl,h1,r1⟩:=Io sm rv hs;cases ZFv r1;rw[hk]at h1;obtain⟨u,rfl,ru⟩:=vals1 rs;cases ru;refine call_all_walk (X8 I hc h1 λit fp wr its St s₂ hv W st hfp fin=>⟨it,fp,wr,its.toArray.size,_,St,λi=>ns.getD i v5,rfl,W,st,λi w s' Q' E' hw hQ'=>?_,λh' tk kk=>?_⟩)
    ·have hw':its[i]?=vk w:=by simpa using hw
     have hl:i<(ns.map V.bl).length:=by rw[hv.length];exact(zD.mp hw').1
     have hl':i<ns.length:=by simpa using hl
     obtain⟨u,hu,ru⟩:=hv.get (i:=i) (x:=V.bl ns[i]) (by simp[hl']);rw[hw']at hu;cases hu;cases ru;refine vz ?_;simpa[hl']using hQ'
    ·refine⟨.bl (ns.all id),a.H,fin h' tk kk,?_,q a _ (Ext.refl a) sm rfl⟩;have hl:its.toArray.size=ns.length:=by rw[zX,<-hv.length];simp
     rw[hl,all_range]
     rfl
   ·exact q.elim
  ·exact q.elim
 ·exact q.elim
end
section
variable{X:Cx}{vv:List (jL×Obj)}{σ:St}{H:Hp}{s:jT}
theorem Zt{a:jL}{o:HO}(I:Inv X vv σ H s)(hn:H a=v4)(hy:X.s₀.heap.objs.size<=a)(hL:a≠X.env.locals)(hc:∀x c,X.env.cells.lookup x=vk c->c≠a)(hp:∀p∈X.pn++vv,p.1≠a)
  (new:ObjOk X.prog X.w (upd H a o) s.heap a o):Inv X vv σ (upd H a o) s:=by
 have ne:∀b u,H b=vk u->b≠a:=λb u e z=>by rw[z,hn]at e;cases e
 refine⟨I.ok,I.os,I.bare,⟨I.base.keep,I.base.slot,λb ob q n hx=>?_,I.base.there,λb xs q=>?_,λb ob u q=>?_,λb ps q=>?_⟩,I.loc,I.cell,?_,λx c e=>?_,λp hp'=>?_,λb u e=>?_,I.len⟩
 ·rw[Ax (z9 (zV (zK q) hy))];exact I.base.free b ob q n hx
 ·have:=I.base.tups b xs q;rw[Ax (ne _ _ this)];exact this
 ·have:=I.base.frzs b ob u q;rw[Ax (ne _ _ this)];exact this
 ·obtain⟨more,this⟩:=I.base.tbls b ps q;exact⟨more,by rw[Ax (ne _ _ this)];exact this⟩
 ·rw[Ax (Ne.symm hL)];exact I.free
 ·rw[Ax (hc x c e)];exact I.Fi x c e
 ·obtain⟨e1,e2,e3⟩:=I.pin p hp';exact⟨e1,by rw[Ax (hp p hp')];exact e2,e3⟩
 ·by_cases hb:b=a
  ·subst hb;rw[Dv]at e;cases e;exact new
  ·rw[Ax hb]at e;exact(I.hok b u e).stay (λ_ _ _ q=>q) (λc q=>by rw[Ax (ne _ _ q)];exact q) λc xs q=>by rw[Ax (ne _ _ q)];exact q
end
noncomputable def Eh(env:Env):List (Str×jP)->List (Str×jL)->List (Str×jL)
 |[],cs=>cs
 |(n,k)::r,cs=>if(k==NameKind.free)=v5 then Eh env r ((n,(env.cells.lookup n).getD 0)::cs)else Eh env r cs
theorem ZGI(h:∀y∈scope.names,y.2=.free->∃c,env.cells.lookup y.1=vk c):closureFor scope env=pure (Eh env scope.names []):=by
 unfold closureFor;obtain⟨kind,names,g1,g2⟩:=scope;have key:∀(names:List (Str×jP))(cs:List (Str×jL)),(∀y∈names,y.2=.free->∃c,env.cells.lookup y.1=vk c)->
   (forIn names cs (λx r=>match x with
    |(name,kind)=>if(kind==NameKind.free)=v5 then(do let c<-cellOf env name;pure (ForInStep.yield ((name,c)::r)))else pure (ForInStep.yield r)):Sem (List (Str×jL)))=pure (Eh env names cs):=by
  intro names
  induction names with
  |nil=>intro cs _;rfl
  | cons y r ih=>
   intro cs hy;obtain⟨n,k⟩:=y;rw[jE];by_cases hk:(k==NameKind.free)=v5
   ·obtain⟨c,hc⟩:=hy (n,k) zW (by simpa using hk)
    have e1:cellOf env n=pure c:=by unfold cellOf;rw[show env.cells.lookup n=vk c from hc]
    have e2:Eh env ((n,k)::r) cs=Eh env r ((n,c)::cs):=by rw[Eh,if_pos hk,show env.cells.lookup n=vk c from hc];rfl
    rw[e2,<-ih ((n,c)::cs) λy' hy'=>hy y' (zZ _ hy')];simp only[hk,if_true,e1]
    rfl
   ·have e2:Eh env ((n,k)::r) cs=Eh env r cs:=by rw[Eh,if_neg hk]
    rw[e2,<-ih cs λy' hy'=>hy y' (zZ _ hy')];simp only[hk]
    rfl
 have:=key names [] h;exact congrArg (λm:Sem (List (Str×jL))=>m >>=λr=>pure r) this
theorem X5:∀{names:List (Str×jP)}{cs:List (Str×jL)},(∀y∈names,y.2=.free->∃c,env.cells.lookup y.1=vk c)->(∀p∈cs,env.cells.lookup p.1=vk p.2)->∀p∈Eh env names cs,env.cells.lookup p.1=vk p.2
 |[],cs,_,hc,p,hp=>hc p hp
 | (n,k)::r,cs,hn,hc,p,hp=>by
  rw[Eh]at hp;split at hp
  ·rename_i hk;obtain⟨c,e⟩:=hn (n,k) zW (by simpa using hk);refine X5 (λy hy=>hn y (zZ _ hy)) (λq hq=>?_) p hp;rcases zj.mp hq with rfl|hq
   ·rw[show env.cells.lookup n=vk c from e];rfl
   ·exact hc q hq
  ·exact X5 (λy hy=>hn y (zZ _ hy)) hc p hp
theorem We:∀{names:List (Str×jP)}{cs:List (Str×jL)},((x,.free)∈names∨∃c,(x,c)∈cs)->∃c,(x,c)∈Eh env names cs
 |[],cs,h=>by
  rcases h with h|h
  ·cases h
  ·exact h
 | (n,k)::r,cs,h=>by
  rw[Eh];split
  ·refine We ?_;rcases h with h|⟨c,h⟩
   ·rcases zj.mp h with e|h
    ·cases e;exact .inr ⟨_,zW⟩
    ·exact .inl h
   ·exact .inr ⟨c,zZ _ h⟩
  ·rename_i hk;refine We ?_;rcases h with h|h
   ·rcases zj.mp h with e|h
    ·cases e;exact absurd rfl hk
    ·exact .inl h
   ·exact .inr h
theorem Xd{c:jL}:∀{l:List (Str×jL)},(x,c)∈l->∃d,l.lookup x=vk d
 |[],h=>by cases h
 | (y,d)::l,h=>by
  by_cases e:x=y
  ·subst e;exact⟨d,by simp⟩
  ·rcases zj.mp h with z|h
   ·cases z;exact absurd rfl e
   ·obtain⟨d',q⟩:=Xd h;exact⟨d',by rw[qO,beq_eq_false_iff_ne.mpr e];exact q⟩
theorem ZHS(x:Str):(relabel scope env).names.lookup x=(scope.names.lookup x).map λk=>if(k==NameKind.free&&env.scope.kind == .function&&env.kindOf x==vk .cell)=v5 then .cell else k:=by
 unfold relabel;generalize scope.names=l
 induction l with
 |nil=>rfl
 | cons y r ih=>
  obtain⟨n,k⟩:=y;by_cases e:x=n
  ·subst e;simp only[zk]
   cases hc:(k==NameKind.free&&env.scope.kind==ScopeKind.function&&env.kindOf x==vk NameKind.cell) <;>
    simp only[hc,if_true,qO,beq_self_eq_true,jF,jV,if_false]
  ·have hb:(x==n)=v6:=beq_eq_false_iff_ne.mpr e;simp only[zk];split
   ·rw[qO,qO,hb];exact ih
   ·rw[qO,qO,hb];exact ih
def blk(X:Cx)(N:List Str)(scope:jS)(C:jL)(s₀:jT)(H₀:Hp)(ex:List jL):Cx where
 prog:=X.prog
 w:=X.w
 K:=X.K
 mg:=X.mg
 base:=X.base
 A:=X.A
 N:=N
 s₀:=s₀
 H₀:=H₀
 env:=compEnvC scope (Eh X.env scope.names []) C X.env
 outer:=X.stack
 stack:=X.stack
 ex:=ex
 fn:=λ_=>v6
 calm:=X.calm
 pn:=[]
 xe:=λ_ _=>False
structure CompSc (X:Cx) (N:List Str) (scope:jS) (nt:Nat) (caps:List Nat):Prop where
 kind:scope.kind=.function
 names:∀y∈scope.names,y.2=.local->scope.names.lookup y.1=vk .local
 nocell:∀y∈scope.names,y.2≠ .cell
 free:∀y∈scope.names,y.2=.free->X.env.kindOf y.1=vk .cell∨X.env.kindOf y.1=vk .free
 nd:N.Nodup
 len:N.length=nt+caps.length
 cap:∀(k j:Nat),caps[k]?=vk j->∃x,X.N[j]?=vk x/\N[nt+k]?=vk x/\scope.names.lookup x=vk .free
section
variable{X:Cx}{vv:List (jL×Obj)}{σ:St}{H:Hp}{s:jT}{N:List Str}{scope:jS}{nt:Nat}{caps:List Nat}
theorem CompSc.cells(c:CompSc X N scope nt caps)(ok:X.Ok):∀y∈scope.names,y.2=.free->∃c,X.env.cells.lookup y.1=vk c:=λy hy hk=>ok.has y.1 (c.free y hy hk)
theorem CompSc.cl(c:CompSc X N scope nt caps)(ok:X.Ok){d:jL}(h:(Eh X.env scope.names []).lookup x=vk d):X.env.cells.lookup x=vk d:=
 X5 (c.cells ok) (λp hp=>by cases hp) (x,d) (PySem.mem_of_lookup h)
theorem ZIw(c:CompSc X N scope nt caps)(I:Inv X vv σ H s){fp:List jL}(hf:∀b∈fp,FpOk X vv H b){C:jL}(hC:s.heap.objs.size<=C)(hCf:C∉fp):(blk X N scope C s H fp).Ok where
 mod:=I.ok.mod
 kind:=c.kind
 glob:=I.ok.glob
 blt:=I.ok.blt
 above:=hC
 inj:=λx y d h1 h2=>I.ok.inj x y d (c.cl I.ok h1) (c.cl I.ok h2)
 has:=λx h=>by
  have h':(relabel scope X.env).names.lookup x=vk .cell∨(relabel scope X.env).names.lookup x=vk .free:=h;rw[ZHS]at h';have hfree:scope.names.lookup x=vk .free:=by
   cases e:scope.names.lookup x with
   |none=>rw[e]at h';rcases h' with h'|h'<;>cases h'
   |some k=>
    rw[e]at h';cases k with
    |free=>rfl
    |cell=>exact absurd rfl (c.nocell _ (PySem.mem_of_lookup e))
    |_=>rcases h' with h'|h'<;>(simp at h')
  obtain⟨d,hd⟩:=We (env:=X.env) (x:=x) (names:=scope.names) (cs:=[]) (.inl (PySem.mem_of_lookup hfree));exact Xd hd
 cab:=λx d h=>by cases h
 hd:=I.ok.hd
 frames:=I.ok.frames
 stk:=.inl rfl
 exf:=λb hb=>⟨λz=>hCf (by rw[<-show b=C from z];exact hb),λx d h=>(hf b hb).2.2.2.2.1 x d (c.cl I.ok h)⟩
 bs:=I.bs
 bsz:=z8 I.ok.bsz I.sz
 noex:=λb o e hb=>by
  rcases(hf b hb).2.2.2.1 with h|h
  ·exact I.ok.noex b o e h
  ·exact absurd (zV (zK (I.ok.bs b o e).1) h) (zN _)
 exfs:=λb hb hz=>by
  rcases zj.mp (I.Wo b hz)with z|z
  ·exact(hf b hb).2.1 z
  ·exact(hf b hb).2.2.1 z
 funs:=I.stack
 frf:=I.U9
end
def Ed(g:DG)(c:DB)(te:DE)(S:DSt):List D->DH->R (List D)
 |[],G=>.ok [] G
 | x::xs,G=>(g x S G).bind λS1 G1=>(c S1 G1).bind λk G2=>
   if k=v5 then(te S1 G2).bind λd G3=>(Ed g c te S xs G3).bind λds G4=>.ok (d::ds) G4 else Ed g c te S xs G2
def Ex(i:Nat)(g:DG)(c:DB)(te:DE)(S:DSt):Nat->Nat->DH->R (List D)
 |0,j,G=>match G[i]? with
  |some (.lst xs)=>if xs.length<=j then .ok [] G else .bad
  |_=>.bad
 | n + 1,j,G=>match G[i]? with
  |some (.lst xs)=>match xs[j]? with
   | some x=>(g x S G).bind λS1 G1=>(c S1 G1).bind λk G2=>
     if k=v5 then(te S1 G2).bind λd G3=>(Ex i g c te S n (j+1) G3).bind λds G4=>.ok (d::ds) G4 else Ex i g c te S n (j+1) G2
   |none=>.ok [] G
  |_=>.bad
def Cw(f:Nat->DH->Option (Option D))(g:DG)(c:DB)(te:DE)(S:DSt):Nat->Nat->DH->R (List D)
 |0,j,G=>match f j G with
  |some v4=>.ok [] G
  |_=>.bad
 | n + 1,j,G=>match f j G with
  |some (vk x)=>(g x S G).bind λS1 G1=>(c S1 G1).bind λk G2=>
     if k=v5 then(te S1 G2).bind λd G3=>(Cw f g c te S n (j+1) G3).bind λds G4=>.ok (d::ds) G4 else Cw f g c te S n (j+1) G2
  |some v4=>.ok [] G
  |none=>.bad
noncomputable def Bp(nt:Nat)(caps:List Nat)(S:DSt):DSt:=zw nt v4++caps.map λj=>(S[j]?).join
def Ei(it:DI)(nt:Nat)(caps:List Nat)(g:DG)(c:DB)(te:DE):DE:=λS G=>(it S G).bind λJ G1=>(match J with
 |.pure xs=>Ed g c te (Bp nt caps S) xs G1
 |.mt i=>match G1[i]? with
  |some (.lst xs)=>Ex i g c te (Bp nt caps S) xs.length 0 G1
  |_=>.bad
 |.fn n f=>Cw f g c te (Bp nt caps S) n 0 G1).bind Bg
noncomputable def Ck:DB:=λ_ G=>.ok v5 G
def GK(nt:Nat)(g:DG):Prop:=∀d S G S1 G1,g d S G=.ok S1 G1->∀i e,nt<=i->S[i]?=vk (vk e)->S1[i]?=vk (vk e)
def GKs(nt:Nat)(g:DGs):Prop:=∀d S G S1 G1,g d S G=.ok S1 G1->∀i e,nt<=i->S[i]?=vk (vk e)->S1[i]?=vk (vk e)
theorem Du(h:i<nt):GK nt (gV i):=λd S G S1 G1 e j x hj hx=>by cases e;rw[qk (by lia)];exact hx
theorem M9:GKs nt Bd:=λd S G S1 G1 e j x hj hx=>by
 cases d with
 |nil=>cases e;exact hx
 |cons _ _=>cases e
theorem Fg{t:DG}{u:DGs}(h1:GK nt t)(h2:GKs nt u):GKs nt (Ai t u):=λd S G S1 G1 e j x hj hx=>by
 cases d with
 |nil=>cases e
 |cons a r=>
  have e':(t a S G).bind (λS1 G1=>u r S1 G1)=.ok S1 G1:=e;cases ht:t a S G with
  |ok S2 G2=>rw[ht]at e';exact h2 _ _ _ _ _ e' j x hj (h1 _ _ _ _ _ ht j x hj hx)
  |err _ _=>rw[ht]at e';cases e'
  |bad=>rw[ht]at e';cases e'
theorem Lg{n:Nat}{t:DGs}(h:GKs nt t):GK nt (Bc n t):=λd S G S1 G1 e j x hj hx=>by
 cases d with
 |tup ds=>
  unfold Bc at e;dsimp only at e;split at e
  ·exact h _ _ _ _ _ e j x hj hx
  ·cases e
 |_=>cases e
theorem ZIY{r:R DSt}{f:DSt->DH->R D}(h:out E a (r.bind f) Q):
  Ej E a r (λσ H=>∃(b:Wd)(S:DSt)(G:DH),b.H=H/\Ext a b/\Sim b G/\RepS b S σ/\r=.ok S G/\out E b (f S G) Q):=by
 cases r with
 |ok d G=>exact λb v x s q=>⟨b,d,G,rfl,x,s,q,rfl,out.mono x h⟩
 |err e G=>exact h
 |bad=>exact h
theorem R.bind_assoc{γ:Type}(r:R α)(f:α->DH->R β)(g:β->DH->R γ):(r.bind f).bind g=r.bind λa G=>(f a G).bind g:=by cases r<;>rfl
theorem ZGT{r:R ItD}{f:ItD->DH->R D}(h:out E a (r.bind f) Q):
  outI E a r (λJ H=>∃(b:Wd)(d:ItD)(G:DH),b.H=H/\Ext a b/\Sim b G/\RepI b d J/\r=.ok d G/\out E b (f d G) Q):=by
 cases r with
 |ok d G=>exact λb v x s q=>⟨b,d,G,rfl,x,s,q,rfl,out.mono x h⟩
 |err e G=>exact h
 |bad=>exact h
section
variable{prog:jR}{w:xZ}{A:jM}{R':Result->jT->Prop}{s:jT}
theorem ZNe{elt target iter:jN}{ifs:List jN}{scope:jS}{pos:Pos}{it acc:xQ}{env:Env}(I:Nat->jT->Prop)
  (turn:∀n s,I n s->xS (xL prog w) A (pyNext it) (λr s₁=>match r with
   |none=>R' (.ok .next) s₁
   | some v=>xS (xL prog w) A (xH target it v) (λ_ s₁=>xS (xL prog w) A (assign target env v) (λ_ s₂=>
     xS (xL prog w) A (forIn ifs v5 λc r=>if r=v5 then do let ok<-isTrue c env (eval c env);pure (ForInStep.yield ok)else pure (ForInStep.yield r)) (λok s₃=>
      if ok=v5 then xS (xL prog w) A (eval elt env) (λx s₄=>
       xS (xL prog w) A (call (.builtin "list.append") [acc,x]) (λ_ s₅=>∃m,m<n/\I m s₅) (λ_ _=>False) s₄) (λ_ _=>False) s₃
      else∃m,m<n/\I m s₃) (λ_ _=>False) s₂) (λ_ _=>False) s₁) (λ_ _=>False) s₁) (λ_ _=>False) s)
  (n:Nat) (h:I n s):
  codeAny (xL prog w) A (.compLoop (.ListComp elt [⟨target,iter,ifs,0⟩] scope pos) 0 it acc env) R' s:=by
 refine codeAny_loop rfl I (λn s hI=>?_) n h
 show xS _ A ((compTurn (.ListComp elt [⟨target,iter,ifs,0⟩] scope pos) 0 it acc env).onRaise (λx=>do noteFrame x env;theTreesLotGoes x)) _ _ s
 refine wpAny_noted ?_;rw[compTurn_list];refine vV ?_ (λ_ _ q=>q) (λ_ _(f:False)=>f.elim);refine xU (wpAny_standAt (xU (vV (turn n s hI) (λr s₁ h₁=>?_) λ_ _ h'=>h')));cases r with
 |none=>exact vY h₁
 | some v=>
  refine xU (vV h₁ (λ_ s₂' h₁=>?_) λ_ _ h'=>h');refine xU (vV h₁ (λ_ s₂ h₂=>xU (vV h₂ (λok s₃ h₃=>?_) λ_ _ h'=>h')) λ_ _ h'=>h');cases ok with
  |false=>exact vY ⟨rfl,h₃⟩
  |true=>
   exact xU (xU (vV h₃ (λx s₄ h₄=>xU (vV h₄ (λ_ s₅ h₅=>vY (vY ⟨rfl,h₅⟩)) λ_ _ h'=>h')) λ_ _ h'=>h'))
end
def QTs(X:Cx)(E:XK)(ifs:List jN)(t:DB):Prop:=
 ∀(vv:List (jL×Obj))(s:jT)(σ:St)(H:Hp)(Q:Bool->Hp->Prop),Inv X vv σ H s->lB X.K E t σ H Q->
  xS (xL X.prog X.w) X.A (forIn ifs v5 λc r=>if r=v5 then do let ok<-isTrue c X.env (eval c X.env);pure (ForInStep.yield ok)else pure (ForInStep.yield r)) (TP X vv σ Q) X.xe s
theorem Gn:QTs X E [] Ck:=λvv s σ H Q I h=>by obtain⟨a,S,G,hk,rfl,sm,r,h⟩:=h;exact wpAny_tests_nil ⟨a.H,I,h a (Ext.refl a) sm⟩
theorem ZK0{c:jN}{t:DB}(hc:QT X E c t):QTs X E [c] t:=λvv s σ H Q I h=>wpAny_tests_one (hc vv s σ H Q I h)
section
variable{X:Cx}{E:XK}{N:List Str}{scope:jS}{nt:Nat}{caps:List Nat}{tg elt iter:jN}{ifs:List jN}{pos:Pos}{it:DI}{g:DG}{c:DB}{te:DE}
theorem ZMJ(r:RepS a S σ):RepS a (Bp nt caps S) (zw nt v4++caps.map λj=>(σ[j]?).join):=by
 refine⟨by simp[Bp],λi d h=>?_⟩;unfold Bp at h;by_cases hi:i<nt
 ·rw[zL (by simpa using hi),qM]at h
  split at h<;>cases h
 ·rw [zC (by simpa using hi),z0]at h;rw[zC (by simpa using hi),z0];rw[j2]at h⊢;cases e:caps[i-nt]? with
  |none=>rw[e]at h;cases h
  | some j=>
   rw[e]at h;have h1:(S[j]?).join=vk d:=by simpa using h
   have h2:S[j]?=vk (vk d):=by
    cases q:S[j]? with
    |none=>rw[q]at h1;cases h1
    |some o=>
     rw[q]at h1;have h1':o=vk d:=h1;rw[h1']
   obtain⟨v,ev,rv⟩:=r.get j d h2;exact⟨v,by simp[ev],rv⟩
theorem ZO3(h:(Bp nt caps S)[i]?=vk (vk d)):nt<=i:=by
 unfold Bp at h;by_cases hi:i<nt
 ·rw[zL (by simpa using hi),qM]at h
  split at h<;>cases h
 ·lia
theorem ZAa (hc:X.calm=v5) (cs:CompSc X N scope nt caps)
  (hg:∀C s₀ H₀ ex,QG (blk X N scope C s₀ H₀ ex) E0 tg g) (gk:GK nt g) (hts:∀C s₀ H₀ ex,QTs (blk X N scope C s₀ H₀ ex) E0 ifs c) (he:∀C s₀ H₀ ex,QE (blk X N scope C s₀ H₀ ex) E0 elt te)
  {vv:List (jL×Obj)} {σ:St} {s:jT} {a:Wd} {S:DSt} {G:DH} {J:It} {n0:Nat} {f:Nat->DH->Option (Option D)} {i0:jL} {fp:List jL} {tn:Nat->Heap->Prop} (I:Inv X vv σ a.H s) (hk:a.K=X.K) (sm:Sim a G) (rS:RepS a S σ)
  (T:Turn X.prog X.w X.K tg J fp i0 tn) (t0:tn 0 s.heap) (hf:∀b∈fp,FpOk X vv a.H b) (rJ:RepI a (.fn n0 f) J) {Q:VK}
  (h:out E0 a ((Cw f g c te (Bp nt caps S) n0 0 G).bind Bg) Q)
  {RR:xQ->jL->Result->jT->Prop} {E':xQ->jT->Prop}
  (hRR:∀(D C:jL)(s':jT)(b:Wd)(vs:List V),Inv X vv σ (upd b.H D (.lst vs)) s'->b.H D=v4->s.heap.objs.size<=C->D≠C->(∃m,s'.heap.Ns C m)->b.H C=v4->Q (.ref D) (upd b.H D (.lst vs))->RR (.ref D) C (.ok .next) s'):
  xS (xL X.prog X.w) X.A (newList []) (λacc s₃=>xS (xL X.prog X.w) X.A (newFunctionEnv scope X.env.globals (Eh X.env scope.names []) [] X.env.qual v4 .none (vk X.env)) (λcenv s₄=>
   codeAny (xL X.prog X.w) X.A (.compStart (.ListComp elt [⟨tg,iter,ifs,0⟩] scope pos) 0 (.ref i0) acc {cenv with scope:=relabel scope X.env}) (RR acc cenv.locals) s₄) E' s₃) E' s:=by
 refine vW (wpAny_newFunctionEnv cs.nocell (by intro y hy;simp at hy) (λh₁ hns₁ hsb₁=>?_) cs.kind);dsimp only at hns₁ hsb₁⊢;generalize hH2:s.heap.push {cls:=.type "list",dict:=v4,data:=.seq ([]:List xQ).toArray}=H2 at hns₁ hsb₁⊢;have hC:H2.objs.size=s.heap.objs.size+1:=by rw[<-hH2,qV]
 have hDC:s.heap.objs.size≠H2.objs.size:=by rw[hC];exact z9 (zI _)
 have hCle:s.heap.objs.size<=H2.objs.size:=by rw[hC];exact qR _
 have fpOld:∀b∈fp,b<s.heap.objs.size:=λb hb=>by obtain⟨o,e,_⟩:=T.obj 0 _ t0 b hb;exact zK e
 have hDf:s.heap.objs.size∉fp:=λhm=>zN _ (fpOld _ hm)
 have hCf:H2.objs.size∉fp:=λhm=>by have:=fpOld _ hm;rw[hC]at this;exact zN _ (Nat.lt_of_succ_lt this)
 have old:∀b o,s.heap.get? b=vk o->h₁.get? b=vk o:=λb o e=>
  hsb₁.extBut b o (by rw[hC];exact z9 (qA (zK e))) (zQ _ (hH2▸zQ _ e))
 have hacc:h₁.PlainList s.heap.objs.size ([]:List xQ).toArray:=⟨_,hsb₁.extBut _ _ hDC (zQ _ (hH2▸zy _ rfl))⟩;generalize hCe:H2.objs.size=C at*;generalize hDe:s.heap.objs.size=Dd at*;let B:=blk X N scope C s a.H fp;have okB:B.Ok:=ZIw cs I hf (by rw[hDe];exact hCle) hCf;let σ0:St:=zw nt v4++caps.map λj=>(σ[j]?).join
 have start:∀tk,Inv B [] σ0 a.H {s with heap:=h₁,toks:=tk}:=λtk=>by
  refine⟨okB,rfl,I.bare,Un.kept old,⟨_,hns₁,λi x v e1 e2 e3=>?_⟩,λx d' e=>?_,I.hok.fresh (by rw[hDe];exact hCle),λx d' e=>?_,λp hp=>?_,I.hok.kept old,?_⟩
  ·have hi:nt<=i:=by
    by_cases hi:i<nt
    ·have e2':σ0[i]?=vk (vk v):=e2;rw[zL (by simpa using hi),qM]at e2'
     split at e2'<;>cases e2'
    ·lia
   have e2':σ0[i]?=vk (vk v):=e2;rw[zC (by simpa using hi),z0,j2]at e2';cases ej:caps[i-nt]? with
   |none=>rw[ej]at e2';cases e2'
   | some j=>
    rw[ej]at e2';have h1:(σ[j]?).join=vk v:=by simpa using e2'
    have h2:σ[j]?=vk (vk v):=by
     cases q:σ[j]? with
     |none=>rw[q]at h1;cases h1
     |some o=>
      rw[q]at h1;have h1':o=vk v:=h1;rw[h1']
    obtain⟨y,ey,en,ek⟩:=cs.cap (i-nt) j ej;have exy:x=y:=by
     have:nt+(i-nt)=i:=by lia
     rw[this]at en;have e1':N[i]?=vk x:=e1;rw[e1']at en;exact Option.some.inj en
    subst exy;have kx:=cs.free (x,.free) (PySem.mem_of_lookup ek) rfl;have vis:Vis X.env.scope x:=by
     rcases kx with kx|kx
     ·exact .inr (.inl kx)
     ·exact .inr (.inr kx)
    obtain⟨m,hn,hl⟩:=I.loc;obtain⟨u,ru,lk⟩:=hl j x v ey h2 vis;refine⟨u,ru,?_⟩;rcases lk with⟨k1,_⟩|⟨k1,c1,ec,hcell⟩
    ·rcases kx with kx|kx
     ·rw[k1]at kx;cases kx
     ·rw[k1]at kx;cases kx
    ·refine .inr ⟨?_,c1,?_,?_⟩
     ·show(relabel scope X.env).names.lookup x=vk .cell∨(relabel scope X.env).names.lookup x=vk .free;rw[ZHS,ek];simp only[jF];split
      ·exact .inl rfl
      ·exact .inr rfl
     ·obtain⟨d1,hd1⟩:=We (env:=X.env) (x:=x) (names:=scope.names) (cs:=[]) (.inl (PySem.mem_of_lookup ek));obtain⟨d2,hd2⟩:=Xd hd1;have:=cs.cl I.ok hd2;rw[ec]at this;cases this;exact hd2
     ·obtain⟨o,e,dd⟩:=hcell;exact⟨o,old _ _ e,dd⟩
  ·obtain⟨v,o,e',dd⟩:=I.cell x d' (cs.cl I.ok e);exact⟨v,o,old _ _ e',dd⟩
  ·exact I.Fi x d' (cs.cl I.ok e)
  ·exact absurd hp (by simp[B,blk])
  ·show σ0.length=N.length;rw[cs.len];simp[σ0]
 have rS0:RepS a (Bp nt caps S) σ0:=ZMJ rS;have aD:a.H Dd=v4:=I.hok.fresh (by rw[hDe];exact zY _);have young:∀b∈fp,b≠C:=λb hb z=>hCf (z▸hb)
 have fpB:∀{H':Hp}{ps:List (jL×Obj)},(∀b∈fp,H' b=v4)->(∀p∈ps,p.1∉fp)->∀b∈fp,FpOk B ps H' b:=λ{H' ps}hn hps b hb=>
  ⟨hn b hb,young b hb,okB.exfs b hb,.inl hb,λx d' e=>(hf b hb).2.2.2.2.1 x d' (cs.cl I.ok e),λp hp z=>by
   have hp':p∈ps:=by simpa[B,blk]using hp
   exact hps p hp' (z▸hb)⟩
 have nstk:Dd∉frs X.stack:=λz=>by
  rcases zj.mp (I.Wo Dd z)with z|z
  ·have:=I.lt;rw[hDe,<-z]at this;exact zN _ this
  ·exact I.nofs (by rw[hDe];exact zY _) z
 have pinD:∀{σ':St}{H':Hp}{s':jT}{its:List xQ}{nD:Nat},Inv B [] σ' H' s'->s'.heap.get? Dd=vk {cls:=.type "list",data:=.seq its.toArray nD}->H' Dd=v4->Inv B [(Dd,{cls:=.type "list",data:=.seq its.toArray nD})] σ' H' s':=λ{σ' H' s' its nD}J e n=>
  J.Jy λp hp=>by
   have ep:p=(Dd,{cls:=.type "list",data:=.seq its.toArray nD}):=by simpa using hp
   subst ep;exact⟨e,n,hDC,nstk,λv' z=>by cases z⟩
 have fin:∀(s':jT)(b:Wd)(σ':St)(its:List xQ)(ds:List D)(G':DH),Inv B [] σ' b.H s'->Ext a b->Sim b G'->s'.heap.PlainList Dd its.toArray->b.H Dd=v4->(∃vs,Vals vs its/\Reps b ds vs)->out E0 b (Bg ds G') Q->RR (.ref Dd) C (.ok .next) s':=by
  intro s' b σ' its ds G' IB x sb pl hD ⟨vs,hv,rv⟩ hq;have hz:ds.length<=1000000:=by
   unfold Bg at hq;split at hq
   ·assumption
   ·exact hq.elim
  have Ix:Inv X vv σ b.H s':=I.call' IB.os IB.base IB.hok IB.bare λb hb=>⟨(hf b hb).2.2.2.1,(hf b hb).2.1,(hf b hb).2.2.2.2.1,(hf b hb).2.2.2.2.2⟩
  obtain⟨n,eD⟩:=pl;have ylt:∀{q:jL}{o:Obj},s.heap.get? q=vk o->q≠Dd:=λe z=>by rw[z,<-hDe]at e;exact absurd (zK e) (zN _)
  have Ia:Inv X vv σ (upd b.H Dd (.lst vs)) s':=by
   refine Zt Ix hD (by rw[<-hDe];exact I.sz) ?_ (λy c' ec=>?_) (λp hp=>?_) ⟨?_,its,n,hv,eD⟩
   ·rw[<-hDe];exact qL I.lt
   ·obtain⟨v,o,e,_⟩:=I.cell y c' ec;exact ylt e
   ·exact ylt (I.pin p hp).1
   ·rw[<-rv.length];exact z8 hz size6
  refine hRR Dd C s' b vs Ia hD hCle hDC (let⟨m,hn,_⟩:=IB.loc;⟨m,hn⟩) IB.free ?_;unfold Bg at hq;rw[if_pos hz]at hq;exact Ja sb rv hq Dd hD
 have turnX:∀(n:Nat)(P:Nat->jT->Prop)(rest:DH->R (List D))(s1:jT)(b:Wd)(G1:DH)(σ1:St)(its:List xQ)(acc:List D)(u:xQ)(v:V)(x:D)(i:Nat),Inv B [] σ1 b.H s1->Ext a b->Sim b G1->RepS b (Bp nt caps S) σ1->tn i s1.heap->(∀q∈fp,b.H q=v4)->
   s1.heap.PlainList Dd its.toArray->b.H Dd=v4->(∃vs,Vals vs its/\Reps b acc vs)->RelV v u->Rep b x v->
   out E0 b (((g x (Bp nt caps S) G1).bind λS1 G1=>(c S1 G1).bind λk G2=>if k=v5 then(te S1 G2).bind λd G3=>(rest G3).bind λds G4=>.ok (d::ds) G4 else rest G2).bind λds G=>Bg (acc++ds) G) Q->
   (∀(s2:jT)(b2:Wd)(G2:DH)(σ2:St)(its2:List xQ)(acc2:List D),Inv B [] σ2 b2.H s2->Ext a b2->Sim b2 G2->RepS b2 (Bp nt caps S) σ2->tn i s2.heap->(∀q∈fp,b2.H q=v4)->
    s2.heap.PlainList Dd its2.toArray->b2.H Dd=v4->(∃vs,Vals vs its2/\Reps b2 acc2 vs)->out E0 b2 ((rest G2).bind λds G=>Bg (acc2++ds) G) Q->∃m,m<n/\P m s2)->
   xS (xL X.prog X.w) X.A (assign tg B.env u) (λ_ s₂=>
     xS (xL X.prog X.w) X.A (forIn ifs v5 λc r=>if r=v5 then do let ok<-isTrue c B.env (eval c B.env);pure (ForInStep.yield ok)else pure (ForInStep.yield r)) (λok s₃=>
      if ok=v5 then xS (xL X.prog X.w) X.A (eval elt B.env) (λx s₄=>
       xS (xL X.prog X.w) X.A (call (.builtin "list.append") [.ref Dd,x]) (λ_ s₅=>∃m,m<n/\P m s₅) (λ_ _=>False) s₄) (λ_ _=>False) s₃
      else∃m,m<n/\P m s₃) (λ_ _=>False) s₂) (λ_ _=>False) s1:=by
  intro n P rest s1 b G1 σ1 its acc u v x i I1 x1 sb rSb t1 hfp pl hD hacc' ru rx hq next
  rw[R.bind_assoc]at hq;obtain⟨nD,eD⟩:=id pl;let pinD:List (jL×Obj):=[(Dd,{cls:=.type "list",data:=.seq its.toArray nD})];have pinOk:∀{σ':St}{H':Hp}{s':jT},Inv B (pinD++Nf fp s1.heap) σ' H' s'->s'.heap.PlainList Dd its.toArray/\H' Dd=v4/\tn i s'.heap/\∀q∈fp,H' q=v4:=λ{σ' H' s'}J=>by
   have p1:=J.pin (Dd,{cls:=.type "list",data:=.seq its.toArray nD}) (zG _ (jB _ (by simp[pinD])));refine⟨⟨nD,p1.1⟩,p1.2.1,T.keep _ _ _ t1 λq hq' o e=>(J.pin (q,o) (zG _ (zG _ (T9 hq' e)))).1,λq hq'=>?_⟩;obtain⟨o,e,_⟩:=T.obj _ _ t1 q hq';exact(J.pin (q,o) (zG _ (zG _ (T9 hq' e)))).2.1
  have I2:Inv B (pinD++Nf fp s1.heap) σ1 b.H s1:=I1.Jy λp hp=>by
   rcases List.mem_append.mp hp with hp|hp
   ·have e:p=(Dd,{cls:=.type "list",data:=.seq its.toArray nD}):=by simpa[pinD]using hp
    subst e;refine⟨eD,hD,hDC,λz=>?_,λv' z=>by cases z⟩;exact nstk z
   ·obtain⟨hb,e⟩:=ZFh hp;obtain⟨f0,f1,f2,_⟩:=fpB (ps:=[]) hfp (λp hp=>by cases hp) p.1 hb;obtain⟨o,e',dd⟩:=T.obj _ _ t1 p.1 hb;rw[e]at e';cases e';exact⟨e,f0,f1,f2,dd⟩
  refine thn (hg C s a.H fp _ s1 σ1 b.H v u _ I2 ru ⟨b,Bp nt caps S,G1,x,x1.k.trans hk,rfl,sb,rSb,rx,(ZIY hq).imp λ_ _ z=>z⟩) ?_;rintro _ s2 ⟨σ2,H2',J2,b2,S2,G2,rfl,y2,sb2,rS2,eg,hq2⟩;rw[R.bind_assoc]at hq2;have rS2':RepS b2 (Bp nt caps S) σ2:=⟨by have h1:=J2.len;have h2:σ1.length=N.length:=I1.len;rw[rSb.len,h2];exact h1.symm,λj e' hj=>rS2.get j e' (gk _ _ _ _ _ eg j e' (ZO3 hj) hj)⟩
  refine thn (hts C s a.H fp _ s2 σ2 b2.H _ J2 ⟨b2,S2,G2,y2.k.trans (x1.k.trans hk),rfl,sb2,rS2,(ZCd hq2).imp λ_ _ z=>z⟩) ?_;rintro k s3 ⟨H3,J3,b3,G3,rfl,y3,sb3,_,hq3⟩;cases k with
  |false=>
   obtain⟨p1,p2,p3,p4⟩:=pinOk J3;have Jn:Inv B [] σ2 b3.H s3:=J3.Jy λp hp=>by cases hp
   obtain⟨vs,hv,rv⟩:=hacc'
   exact next s3 b3 G3 σ2 its acc Jn (x1.trans (y2.trans y3)) sb3 (rS2'.mono y3) p3 p4 p1 p2 ⟨vs,hv,(rv.mono y2).mono y3⟩ hq3
  | true=>
   have hq3':out E0 b3 (((te S2 G3).bind λd G3=>(rest G3).bind λds G4=>.ok (d::ds) G4).bind λds G=>Bg (acc++ds) G) Q:=hq3;rw[R.bind_assoc]at hq3';refine thn (he C s a.H fp _ s3 σ2 b3.H _ J3 ⟨b3,S2,G3,y3.k.trans (y2.k.trans (x1.k.trans hk)),rfl,sb3,rS2.mono y3,(Dr hq3').imp λ_ _ z=>z⟩) ?_;rintro w s4 ⟨vw,H4,J4,rw',b4,d4,G4,rfl,y4,sb4,q4,_,hq4⟩;obtain⟨p1,p2,p3,p4⟩:=pinOk J4;rw[R.bind_assoc]at hq4
   have hq4':out E0 b4 ((rest G4).bind λds G=>Bg ((acc++[d4])++ds) G) Q:=by
    have e:(λ(ds:List D)(G:DH)=>(R.ok (d4::ds) G).bind λds G=>Bg (acc++ds) G)=λds G=>Bg ((acc++[d4])++ds) G:=by funext ds G;simp
    rw[<-e];exact hq4
   obtain⟨vs,hv,rv⟩:=hacc';have hsz:its.toArray.size<=sizeLine:=by
    have:acc.length<=1000000:=by
     cases hr:rest G4 with
     |ok ds G5=>
      rw[hr]at hq4';have hq5:out E0 b4 (Bg ((acc++[d4])++ds) G5) Q:=hq4';unfold Bg at hq5;split at hq5
      ·rename_i hl;simp at hl;lia
      ·exact hq5.elim
     |err e' G5=>rw[hr]at hq4';exact(hq4'.1 rfl).elim
     |bad=>rw[hr]at hq4';exact hq4'.elim
    rw[zX,<-hv.length,<-rv.length];exact z8 this size6
   refine wpAny_list_append_plain p1 (λh' hpl hsb=>?_) hsz;have Jn:Inv B [] σ2 b4.H s4:=J4.Jy λp hp=>by cases hp
   have J5:Inv B [] σ2 b4.H {s4 with heap:=h'}:=by refine Jn.turned (it:=Dd) (t':=s4.toks) (λq o hq' e=>(hsb.2 q hq').trans e) p2 hDC (.inr (by show s.heap.objs.size<=Dd;rw[hDe];exact zY _)) (λy c' ec=>?_) (λp hp=>absurd hp (by simp[B,blk]));obtain⟨v',o,e,_⟩:=I.cell y c' (cs.cl I.ok ec);intro z;rw[z,<-hDe]at e;exact absurd (zK e) (zN _)
   refine next _ b4 G4 σ2 (its++[w]) (acc++[d4]) J5 (x1.trans (y2.trans (y3.trans y4))) sb4 ((rS2'.mono y3).mono y4) (T.keep _ _ _ p3 λq hq' o e=>(hsb.2 q (λz=>hDf (z▸hq'))).trans e) p4 (by simpa using hpl) p2 ⟨vs++[vw],hv.append (.cons rw' .nil),(((rv.mono y2).mono y3).mono y4).append (Reps.cons q4 Reps.nil)⟩ hq4'
 have loop:∀s₃:jT,s₃={s with heap:=h₁,toks:=s.toks+([]:List (Str×xQ)).length}->
   codeAny (xL X.prog X.w) X.A (.compLoop (.ListComp elt [⟨tg,iter,ifs,0⟩] scope pos) 0 (.ref i0) (.ref Dd) B.env) (RR (.ref Dd) C) s₃:=by
  rintro s₃ rfl;have t1:tn 0 h₁:=T.keep _ _ _ t0 λq _ o e=>old q o e
  have fp0:∀q∈fp,a.H q=v4:=λq hq=>(hf q hq).1
  have walk:∀b:Wd,Ext a b->∀G,Sim b G->∀i,(∀d,f i G=vk (vk d)->J.go i b.H/\∀x H',J.yld i b.H x H'->∃c:Wd,c.H=H'/\Ext b c/\Sim c G/\Rep c d x)/\(f i G=vk v4->J.stop i b.H):=rJ;refine ZNe (λm s'=>∃(i:Nat)(b:Wd)(G':DH)(σ':St)(its:List xQ)(acc:List D),Inv B [] σ' b.H s'/\Ext a b/\Sim b G'/\RepS b (Bp nt caps S) σ'/\tn i s'.heap/\(∀q∈fp,b.H q=v4)/\s'.heap.PlainList Dd its.toArray/\b.H Dd=v4/\(∃vs,Vals vs its/\Reps b acc vs)/\
   out E0 b ((Cw f g c te (Bp nt caps S) m i G').bind λds G=>Bg (acc++ds) G) Q) ?_ n0 ⟨0,a,G,σ0,[],[],start _,Ext.refl a,sm,rS0,t1,fp0,hacc,aD,⟨[],.nil,rfl⟩,by simpa using h⟩
  rintro m s' ⟨i,b,G',σ',its,acc,IB,x,sb,rSb,ti,hfp,pl,hD,hac,hq⟩;obtain⟨nD,eD⟩:=pl;have I0:=pinD IB eD hD;have f0:=fpB (ps:=[(Dd,{cls:=.type "list",data:=.seq its.toArray nD})]) hfp (λp hp=>by
   have ep:p=(Dd,{cls:=.type "list",data:=.seq its.toArray nD}):=by simpa using hp
   subst ep;exact hDf)
  have stop:J.stop i b.H->out E0 b (Bg acc G') Q->xS (xL X.prog X.w) X.A (pyNext (.ref i0)) (λr s₁=>match r with
    |none=>RR (.ref Dd) C (.ok .next) s₁
    | some v=>xS (xL X.prog X.w) X.A (xH tg (.ref i0) v) (λ_ s₁=>xS (xL X.prog X.w) X.A (assign tg B.env v) (λ_ s₂=>
     xS (xL X.prog X.w) X.A (forIn ifs v5 λc r=>if r=v5 then do let ok<-isTrue c B.env (eval c B.env);pure (ForInStep.yield ok)else pure (ForInStep.yield r)) (λok s₃=>
      if ok=v5 then xS (xL X.prog X.w) X.A (eval elt B.env) (λx s₄=>
       xS (xL X.prog X.w) X.A (call (.builtin "list.append") [.ref Dd,x]) (λ_ s₅=>∃m',m'<m/\∃(i:Nat)(b:Wd)(G':DH)(σ':St)(its:List xQ)(acc:List D),Inv B [] σ' b.H s₅/\Ext a b/\Sim b G'/\RepS b (Bp nt caps S) σ'/\tn i s₅.heap/\(∀q∈fp,b.H q=v4)/\s₅.heap.PlainList Dd its.toArray/\b.H Dd=v4/\(∃vs,Vals vs its/\Reps b acc vs)/\
        out E0 b ((Cw f g c te (Bp nt caps S) m' i G').bind λds G=>Bg (acc++ds) G) Q) (λ_ _=>False) s₄) (λ_ _=>False) s₃
      else∃m',m'<m/\∃(i:Nat)(b:Wd)(G':DH)(σ':St)(its:List xQ)(acc:List D),Inv B [] σ' b.H s₃/\Ext a b/\Sim b G'/\RepS b (Bp nt caps S) σ'/\tn i s₃.heap/\(∀q∈fp,b.H q=v4)/\s₃.heap.PlainList Dd its.toArray/\b.H Dd=v4/\(∃vs,Vals vs its/\Reps b acc vs)/\
        out E0 b ((Cw f g c te (Bp nt caps S) m' i G').bind λds G=>Bg (acc++ds) G) Q) (λ_ _=>False) s₂) (λ_ _=>False) s₁) (λ_ _=>False) s₁) (λ_ _=>False) s':=by
   intro st hq';refine thn (T.done B rfl rfl rfl hc i _ s' σ' b.H _ I0 f0 ti st) ?_;rintro r s1 ⟨rfl,I2⟩;have pD:=(I2.pin (Dd,{cls:=.type "list",data:=.seq its.toArray nD}) (zG _ (by simp))).1;exact fin s1 b σ' its acc G' (I2.Jy λp hp=>by cases hp) x sb ⟨nD,pD⟩ hD hac hq'
  cases m with
  |zero=>
   unfold Cw at hq;split at hq
   ·rename_i hf;exact stop ((walk b x G' sb i).2 hf) (by have hq':out E0 b (Bg (acc++[]) G') Q:=hq;rw[qB]at hq';exact hq')
   ·exact hq.elim
  | succ m=>
   unfold Cw at hq;split at hq
   ·rename_i d1 hf;obtain⟨go,yl⟩:=(walk b x G' sb i).1 d1 hf;refine thn (T.item B rfl rfl rfl hc i _ s' σ' b.H _ I0 f0 ti go) ?_;rintro r s1 ⟨u,rfl,hgo⟩;refine thn hgo ?_;rintro _ s2 ⟨v,H',I2,ru,y,t2,hfp2⟩;obtain⟨cc,rfl,xx,ss,rd⟩:=yl v H' y;have pD:=I2.pin (Dd,{cls:=.type "list",data:=.seq its.toArray nD}) (zG _ (by simp));obtain⟨vs1,hv1,rv1⟩:=hac;refine turnX _ _ (λG3=>Cw f g c te (Bp nt caps S) m (i+1) G3) s2 cc G' σ' its acc u _ d1 (i+1) (I2.Jy λp hp=>by cases hp) (x.trans xx) ss (rSb.mono xx) t2 hfp2 ⟨nD,pD.1⟩ pD.2.1 ⟨vs1,hv1,rv1.mono xx⟩ ru rd (out.mono xx hq) ?_
    intro s3 b3 G3 σ3 its3 acc3 a1 a2 a3 a4 a5 a6 a7 a8 a9 a10;exact⟨m,zI _,i+1,b3,G3,σ3,its3,acc3,a1,a2,a3,a4,a5,a6,a7,a8,a9,a10⟩
   ·rename_i hf;exact stop ((walk b x G' sb i).2 hf) (by have hq':out E0 b (Bg (acc++[]) G') Q:=hq;rw[qB]at hq';exact hq')
   ·exact hq.elim
 exact codeAny_compStart_list (loop _ rfl) (T.self _ 0 _ _ _ (T.keep _ _ _ t0 λq _ o e=>old q o e) (loop _ rfl))
theorem ZAi{c:DB}:∀(n j:Nat)(G:DH),j+n=xs.length->Ed g c te S (xs.drop j) G=Cw (λj _=>vk xs[j]?) g c te S n j G
 |0,j,G,h=>by
  rw[zR (by lia)]
  show _=(match vk xs[j]? with |some v4=>R.ok [] G|_=>.bad)
  rw[zB (by lia)]
  rfl
 |n+1,j,G,h=>by
  have hj:j<xs.length:=by lia
  rw[zP hj]
  show(g xs[j] S G).bind _=(match vk xs[j]? with |some (vk x)=>_|some v4=>R.ok [] G|none=>.bad)
  rw[zJ hj];dsimp only
  congr 1
  funext S1 G1
  congr 1
  funext k G2;rw[ZAi n (j+1) G2 (by lia)]
  congr 1
  congr 1
  funext d G3;rw[ZAi n (j+1) G3 (by lia)]
theorem ZEz{c:DB}:∀(n j:Nat)(G:DH),Ex i g c te S n j G=Cw (mtF i) g c te S n j G
 | 0,j,G=>by
  unfold Ex Cw mtF;cases G[i]? with
  |none=>rfl
  | some o=>
   cases o with
   |lst xs=>
    dsimp only;by_cases hj:j<xs.length
    ·rw[if_neg (by lia),zJ hj]
    ·rw[if_pos (by lia),zB (by lia)]
   |_=>rfl
 | n+1,j,G=>by
  have ih:(Ex i g c te S n (j+1))=Cw (mtF i) g c te S n (j+1):=funext λG=>ZEz n (j+1) G
  unfold Ex Cw;rw[ih];unfold mtF;cases G[i]? with
  |none=>rfl
  | some o=>
   cases o with
   |lst xs=>
    dsimp only
    cases xs[j]?<;>rfl
   |_=>rfl
theorem ZF3(hc:X.calm=v5)(cs:CompSc X N scope nt caps)
  (hg:∀C s₀ H₀ ex,QG (blk X N scope C s₀ H₀ ex) E0 tg g) (gk:GK nt g) (hts:∀C s₀ H₀ ex,QTs (blk X N scope C s₀ H₀ ex) E0 ifs c) (he:∀C s₀ H₀ ex,QE (blk X N scope C s₀ H₀ ex) E0 elt te)
  {vv:List (jL×Obj)} {σ:St} {s:jT} {a:Wd} {S:DSt} {G:DH} {J:It} {d:ItD} {i0:jL} {fp:List jL} {tn:Nat->Heap->Prop} (I:Inv X vv σ a.H s) (hk:a.K=X.K) (sm:Sim a G) (rS:RepS a S σ)
  (T:Turn X.prog X.w X.K tg J fp i0 tn) (t0:tn 0 s.heap) (hf:∀b∈fp,FpOk X vv a.H b) (rJ:RepI a d J) {Q:VK}
  (h:out E0 a ((match d with
   |.pure xs=>Ed g c te (Bp nt caps S) xs G
   |.mt i=>match G[i]? with
    |some (.lst xs)=>Ex i g c te (Bp nt caps S) xs.length 0 G
    |_=>.bad
   |.fn n f=>Cw f g c te (Bp nt caps S) n 0 G).bind Bg) Q)
  {RR:xQ->jL->Result->jT->Prop} {E':xQ->jT->Prop}
  (hRR:∀(D C:jL)(s':jT)(b:Wd)(vs:List V),Inv X vv σ (upd b.H D (.lst vs)) s'->b.H D=v4->s.heap.objs.size<=C->D≠C->(∃m,s'.heap.Ns C m)->b.H C=v4->Q (.ref D) (upd b.H D (.lst vs))->RR (.ref D) C (.ok .next) s'):
  xS (xL X.prog X.w) X.A (newList []) (λacc s₃=>xS (xL X.prog X.w) X.A (newFunctionEnv scope X.env.globals (Eh X.env scope.names []) [] X.env.qual v4 .none (vk X.env)) (λcenv s₄=>
   codeAny (xL X.prog X.w) X.A (.compStart (.ListComp elt [⟨tg,iter,ifs,0⟩] scope pos) 0 (.ref i0) acc {cenv with scope:=relabel scope X.env}) (RR acc cenv.locals) s₄) E' s₃) E' s:=by
 cases d with
 |pure xs=>
  have h':out E0 a ((Ed g c te (Bp nt caps S) (xs.drop 0) G).bind Bg) Q:=h;rw[ZAi xs.length 0 G (by lia)]at h';exact ZAa hc cs hg gk hts he I hk sm rS T t0 hf (ZE4 rJ) h' hRR
 |mt k=>
  dsimp only at h;split at h
  ·rename_i xs hx;rw[ZEz]at h;exact ZAa hc cs hg gk hts he I hk sm rS T t0 hf (ZG8 rJ) h hRR
  ·exact h.elim
 |fn n0 f=>exact ZAa hc cs hg gk hts he I hk sm rS T t0 hf rJ h hRR
end
section
variable{X:Cx}{N:List Str}{scope:jS}{nt:Nat}{caps:List Nat}{tg elt iter:jN}{ifs:List jN}{pos:Pos}{it:DI}{g:DG}{c:DB}{te:DE}
theorem letGo{vv:List (jL×Obj)}{s2 s':jT}{h':Heap}{C:jL}{t':Nat}{σ2:St}{H2:Hp}(I2:Inv X vv σ2 H2 s2)(Ia:Inv X vv σ H s')(hC:s2.heap.objs.size<=C)(hn:H C=v4)(hsb:qK C s'.heap h'):Inv X vv σ H {s' with heap:=h',toks:=t'}:=by
 have young:∀{b:jL}{o:Obj},s2.heap.get? b=vk o->b≠C:=λe z=>by rw[z]at e;exact absurd (zV (zK e) hC) (zN _)
 refine Ia.turned (it:=C) (λb o hb e=>(hsb.2 b hb).trans e) hn (qL (zV I2.lt hC)) (.inr (z8 I2.sz hC)) (λx c' e=>?_) λp hp=>?_
 ·obtain⟨v,o,e',_⟩:=I2.cell x c' e;exact young e'
 ·exact young (I2.pin p hp).1
theorem I9(hc:X.calm=v5)(cs:CompSc X N scope nt caps)(hi:QI X E0 tg iter it)
  (hg:∀C s₀ H₀ ex,QG (blk X N scope C s₀ H₀ ex) E0 tg g) (gk:GK nt g) (hts:∀C s₀ H₀ ex,QTs (blk X N scope C s₀ H₀ ex) E0 ifs c) (he:∀C s₀ H₀ ex,QE (blk X N scope C s₀ H₀ ex) E0 elt te)
  (hs:∀x,foldedSetIterable iter X.env x=pure x:=by intro _;rfl):QE X E0 (.ListComp elt [⟨tg,iter,ifs,0⟩] scope pos) (Ei it nt caps g c te):=by
 intro vv s σ H Q I h;obtain⟨a,S,G,hk,rfl,sm,r,h⟩:=h;rw[eval_ListComp];refine wpAny_comprehension_free (use:=v4) rfl hs (ZGI (cs.cells I.ok)) cs.kind cs.names (thn (hi vv s σ a.H _ I ⟨a,S,G,hk,rfl,sm,r,(ZGT h).imp λ_ _ z=>z⟩) λxv s1 h1=>thn h1 λitv s2 h2=>?_);obtain⟨i0,fp,tn,J,H2,rfl,I2,T,t0,f2,b,d,G1,rfl,x,sb,rJ,_,h1⟩:=h2;refine ZF3 hc cs hg gk hts he I2 (x.k.trans hk) sb (r.mono x) T t0 f2 rJ h1 (RR:=λacc C=>compPost (xL X.prog X.w) X.A X.xe v4 (EP X vv σ Q) acc C) ?_
 intro D C s' b vs Ia hD hCle hDC ⟨m,hn⟩ hCn hq;refine⟨m,hn,λh' hsb=>⟨.ref D,_,letGo I2 Ia hCle ?_ hsb,rfl,hq⟩⟩;rw[Ax (Ne.symm hDC)];exact hCn
theorem ZAe(i:Nat){y:Str}{py spos:Pos}(hc:X.calm=v5)(hN:X.N.Nodup)(cs:CompSc X N scope nt caps)(hi:QI X E0 tg iter it)
  (hg:∀C s₀ H₀ ex,QG (blk X N scope C s₀ H₀ ex) E0 tg g) (gk:GK nt g) (hts:∀C s₀ H₀ ex,QTs (blk X N scope C s₀ H₀ ex) E0 ifs c) (he:∀C s₀ H₀ ex,QE (blk X N scope C s₀ H₀ ex) E0 elt te)
  (hy:X.N[i]?=vk y:=by rfl) (hx:Loc X.env.scope y:=by first|exact Or.inl rfl|exact Or.inr rfl) (hf:X.fn y=v5∨X.env.scope.names.lookup y=vk .local:=by first|exact .inl rfl|exact .inr rfl|assumption)
  (hsw:swapsWith (.ListComp elt [⟨tg,iter,ifs,0⟩] scope pos) (vk (.Name y py)) spos.line X.env=pure v5:=by rfl)
  (hs:∀x,foldedSetIterable iter X.env x=pure x:=by intro _;rfl):QS X E0 (.Assign [.Name y py] (.ListComp elt [⟨tg,iter,ifs,0⟩] scope pos) spos) (sAs (Ei it nt caps g c te) (gV i)):=by
 intro vv s σ H W I h;obtain⟨a,S,G,hk,rfl,sm,r,h⟩:=h;have h0:=Ge h;rw[exec_Assign_Name_used _ _ _ _ hsw];refine xU (wpAny_standAt (xU ?_))
 show xS _ X.A (do let _<-comprehension (.ListComp elt [⟨tg,iter,ifs,0⟩] scope pos) scope X.env _ (newList []) v6 (eval iter X.env) (vk (assign (.Name y py) X.env))) _ _ s
 refine xU (vV (wpAny_comprehension_free (use:=vk (assign (.Name y py) X.env)) (Q:=λ_ s'=>SP X vv W .next s') rfl hs (ZGI (cs.cells I.ok)) cs.kind cs.names
  (thn (hi vv s σ a.H _ I ⟨a,S,G,hk,rfl,sm,r,(ZGT h0).imp λ_ _ z=>z⟩) λxv s1 h1=>thn h1 λitv s2 h2=>?_)) (λ_ s' hq=>vY (vY hq)) λ_ _ e=>e)
 obtain⟨i0,fp,tn,J,H2,rfl,I2,T,t0,f2,b,d,G1,rfl,x,sb,rJ,_,h1⟩:=h2
 refine ZF3 hc cs hg gk hts he I2 (x.k.trans hk) sb (r.mono x) T t0 f2 rJ h1 (RR:=λacc C=>compPost (xL X.prog X.w) X.A X.xe (vk (assign (.Name y py) X.env)) (λ_ s'=>SP X vv W .next s') acc C) ?_
 intro D C s' b' vs Ia hD hCle hDC ⟨m,hn⟩ hCn hq;show xS _ X.A (assign (.Name y py) X.env (.ref D)) _ _ _;refine wpAny_assign_Name (ZDi Ia hN hy hx (v:=.ref D) rfl (λs'' I'' hch=>?_) hf);obtain⟨a',hsb',ha'⟩:=hch;have hCa:C≠a':=by
  rintro rfl;rcases ha' with rfl|ha'
  ·exact absurd (zV I2.lt hCle) (zN _)
  ·obtain⟨v,o,e',_⟩:=I2.cell _ _ ha';exact absurd (zV (zK e') hCle) (zN _)
 refine⟨m,hn.sameBut hsb' hCa,λh' hsb=>⟨_,_,letGo I2 I'' hCle ?_ hsb,?_⟩⟩
 ·rw[Ax (Ne.symm hDC)];exact hCn
 ·obtain⟨b3,d3,G3,e3,x3,s3,q3,_,h3⟩:=hq;rw[<-e3];exact h3 b3 _ (Ext.refl b3) s3 ((r.mono x3).set i q3)
end
def Gu:D->DH->R D
 |.int i,G=>.ok (.int (-i)) G
 |_,_=>.bad
noncomputable def Jq:D->Bool
 |.non=>v5
 |_=>v6
def Vv:D->D->DH->R D
 |d,.non,G=>.ok (.bl (Jq d)) G
 |_,_,_=>.bad
def Lb:D->D->DH->R D
 |d,.non,G=>.ok (.bl (!Jq d)) G
 |_,_,_=>.bad
noncomputable def Sw:D->Option V
 |.non=>vk .non
 |.bl b=>vk (.bl b)
 |.int i=>vk (.int i)
 |.str x=>vk (.str x)
 |_=>v4
def Qe:List D->Option (List V)
 |[]=>vk []
 |d::r=>match Sw d,Qe r with
  |some v,vk vs=>vk (v::vs)
  |_,_=>v4
def inD(d e:D)(G:DH):Option Bool:=match e with
 |.str j=>match d with
  |.str i=>vk (!(Builtin.Str.occurrences j i 0 j.length 1).isEmpty)
  |_=>v4
 |e=>match Bj e G,Sw d with
  |some xs,vk v=>(Qe xs).map λvs=>inV v vs
  |_,_=>v4
def Qm(d e:D)(G:DH):R D:=match inD d e G with
 |some k=>.ok (.bl (!k)) G
 |none=>.bad
section
variable{X:Cx}{E:XK}{a b:jN}{ta tb:DE}{pos:Pos}
theorem Jv:UnR X (unaryOp .USub) (lR1 X.K E Gu):=λvv s σ H x v Q I rx h=>by
 obtain⟨a,G,d,hk,rfl,sm,rd,q⟩:=h;cases d with
 |int i=>exact ZIA vv s σ a.H x v Q I rx ⟨i,rd,q a _ (Ext.refl a) sm rfl⟩
 |_=>exact q.elim
theorem Jw{op:UnaryOp}{f:D->DH->R D}(ho:UnR X (unaryOp op) (lR1 X.K E f))(ha:QE X E a ta):QE X E (.UnaryOp op a pos) (dUn f ta):=(ZMz ho ha).mono λσ H Q h=>by obtain⟨a,S,G,hk,rfl,s,r,h⟩:=h;refine⟨a,S,G,hk,rfl,s,r,(Dr h).imp ?_⟩;rintro v _ ⟨b,d,G1,rfl,x,s1,q,-,h1⟩;exact⟨b,G1,d,x.k.trans hk,rfl,s1,q,h1⟩
theorem ZEL{n:String}(hg:Gl X x)(hm:X.mg x=v4)(hv:xq x=vk (.type n))(hn:x≠"__name__":=by decide)(hd:(x==("__debug__":Str))=v6:=by decide):QE X E (.Name x pos) (dC (.ty n)):=
 (ZIl (v:=.ty n) hg hm hv rfl hn hd).mono λσ H Q h=>O6 h λ_ _=>rfl
theorem ZC9{a:Wd}{x:V}(rd:Rep a d x):decide (x=V.non)=Jq d:=by
 cases d with
 |non=>rw[show x=V.non from rd];rfl
 |bl _=>rw[show x=V.bl _ from rd];rfl
 |int _=>rw[show x=V.int _ from rd];rfl
 |str _=>rw[show x=V.str _ from rd];rfl
 |ty _=>rw[show x=V.ty _ from rd];rfl
 |tup _=>obtain⟨p,vs,rfl,_⟩:=rd;rfl
 |fl _=>obtain⟨p,vs,rfl,_⟩:=rd;rfl
 |ref _=>rw[rd.2];rfl
theorem o_is:OpR X (xy .Is) (lR2 X.K E Vv):=Ey ZLR λa G d e x y Q hk s rd re q=>by
 cases e with
 |non=>exact⟨re,by rw[ZC9 rd];cases d<;>exact q a _ (Ext.refl a) s rfl⟩
 |_=>cases d<;>exact q.elim
theorem Qw:OpR X (xy .IsNot) (lR2 X.K E Lb):=Ey ZM5 λa G d e x y Q hk s rd re q=>by
 cases e with
 |non=>exact⟨re,by rw[ZC9 rd];cases d<;>exact q a _ (Ext.refl a) s rfl⟩
 |_=>cases d<;>exact q.elim
theorem ZFm{a:Wd}{x:V}(r:Rep a d x)(h:Sw d=vk v):x=v/\Cm v=v5:=by
 cases d<;>first
  |(cases h;exact⟨r,rfl⟩)
  |cases h
theorem ZCx{a:Wd}:∀{ds:List D}{xs vs:List V},Reps a ds xs->Qe ds=vk vs->xs=vs/\vs.all Cm=v5
 |[],xs,vs,r,h=>by cases h;exact⟨r,rfl⟩
 |d::ds,xs,vs,r,h=>by
  obtain⟨x,r',rfl,r1,r2⟩:=r;unfold Qe at h;split at h
  ·rename_i v ws h1 h2;cases h;obtain⟨e1,f1⟩:=ZFm r1 h1;obtain⟨e2,f2⟩:=ZCx r2 h2;subst e1;subst e2;exact⟨rfl,by rw[qy,f1,f2];rfl⟩
  ·cases h
theorem ZLh{a:Wd}{e:D}{x:V}{k:Bool}(s:Sim a G)(rd:Rep a d x)(re:Rep a e y)(h:inD d e G=vk k):
  (∃i j,x=.str i/\y=.str j/\k= !(Builtin.Str.occurrences j i 0 j.length 1).isEmpty)∨(∃p xs,y=.ref p/\(SqL a.K a.H p xs∨SqT a.K a.H p xs)/\Cm x=v5/\xs.all Cm=v5/\k=inV x xs):=by
 have seq:(match Bj e G,Sw d with |some xs,vk v=>(Qe xs).map λvs=>inV v vs|_,_=>v4)=vk k->(∃p xs,y=.ref p/\(SqL a.K a.H p xs∨SqT a.K a.H p xs)/\Cm x=v5/\xs.all Cm=v5/\k=inV x xs):=λh=>by
  split at h
  ·rename_i xs v h1 h2;obtain⟨p,ws,e1,q,r1⟩:=Io s re h1;obtain⟨e2,f2⟩:=ZFm rd h2;subst e2;rw[zA]at h;obtain⟨us,h3,h4⟩:=h;obtain⟨e3,f3⟩:=ZCx r1 h3;subst e3;exact⟨p,ws,e1,q,f2,f3,h4.symm⟩
  ·cases h
 cases e with
 |str j=>
  cases d with
  |str i=>exact .inl ⟨i,j,rd,re,(Option.some.inj h).symm⟩
  |_=>cases h
 |tup xs=>exact .inr (seq h)
 |fl xs=>exact .inr (seq h)
 |ref i=>exact .inr (seq h)
 |_=>exact .inr (seq h)
theorem ZND:OpR X (xy .NotIn) (lR2 X.K E Qm):=Ey (ZLD.or ZMA) λa G d e x y Q hk s rd re q=>by
 unfold Qm at q;split at q
 ·rename_i k h;have z:=q a _ (Ext.refl a) s rfl;rcases ZLh s rd re h with⟨i,j,e1,e2,rfl⟩|⟨p,xs,e1,hq,f1,f2,rfl⟩
  ·exact .inl ⟨i,j,e1,e2,z⟩
  ·exact .inr ⟨p,xs,e1,by rw[<-hk];exact hq,f1,f2,z⟩
 ·exact q.elim
end
theorem ZEY:xq "isinstance"=vk (.builtin "isinstance"):=by decide +kernel
theorem ZGk:xq "all"=vk (.builtin "all"):=by decide +kernel
theorem ZGG:xq "max"=vk (.builtin "max"):=by decide +kernel
theorem Mp:xq "min"=vk (.builtin "min"):=by decide +kernel
theorem Dh:xq "len"=vk (.builtin "len"):=by decide +kernel
theorem ZFU:xq "int"=vk (.type "int"):=by decide +kernel
theorem ZKY:xq "bool"=vk (.type "bool"):=by decide +kernel
theorem Rw:xq "tuple"=vk (.type "tuple"):=by decide +kernel
theorem K1:xq "list"=vk (.type "list"):=by decide +kernel
noncomputable def Ku:jP->Bool | .local=>v5|_=>v6
noncomputable def Lw:jP->Bool | .cell=>v5|_=>v6
noncomputable def Jj:jP->Bool | .free=>v5|_=>v6
noncomputable def isK(p:jP->Bool):Option jP->Bool|some k=>p k|none=>v6
theorem ZQN{k:jP}(h:Ku k=v5):k=.local:=by cases k<;>first|rfl|cases h
theorem ZKv{k:jP}(h:Lw k=v5):k=.cell:=by cases k<;>first|rfl|cases h
theorem ZFV{k:jP}(h:Jj k=v5):k=.free:=by cases k<;>first|rfl|cases h
theorem Uh{p:jP->Bool}{k:jP}(hp:∀k',p k'=v5->k'=k){o:Option jP}(h:isK p o=v5):o=vk k:=by
 cases o with
 |none=>cases h
 |some k'=>rw[hp _ h]
def ZGA(dn:List (Str×jP))(N0 N:List Str)(names:List (Str×jP))(nt:Nat)(caps:List Nat):Bool:=
 names.all (λy=>(!Ku y.2||isK Ku (names.lookup y.1)) && !Lw y.2&&(!Jj y.2||isK Lw (dn.lookup y.1)||isK Jj (dn.lookup y.1)))&&decide N.Nodup&&decide (N.length=nt+caps.length) &&
 (zq caps.length).all λk=>match caps[k]? with
  |some j=>match N0[j]? with
   |some x=>decide (N[nt+k]?=vk x)&&isK Jj (names.lookup x)
   |none=>v6
  |none=>v5
theorem Gd{X:Cx}{N0 N:List Str}{nt:Nat}{caps:List Nat}{dn:List (Str×jP)}(hk:scope.kind=.function:=by rfl)(hdn:∀x,X.env.kindOf x=dn.lookup x:=by intro _;rfl)(hN:X.N=N0:=by rfl)
  (h:ZGA dn N0 N scope.names nt caps=v5:=by decide +kernel):CompSc X N scope nt caps:=by
 unfold ZGA at h;rw[z5,z5,z5]at h;obtain⟨⟨⟨h1,h2⟩,h3⟩,h4⟩:=h;rw[qY]at h1 h4;have key:=λ(y:Str×jP)(hy:y∈scope.names)=>(by have:=h1 y hy;rw[z5,z5]at this;exact this:((!Ku y.2||isK Ku (scope.names.lookup y.1))=v5/\(!Lw y.2)=v5)/\(!Jj y.2||isK Lw (dn.lookup y.1)||isK Jj (dn.lookup y.1))=v5)
 refine⟨hk,λy hy hl=>?_,λy hy hl=>?_,λy hy hl=>?_,of_decide_eq_true h2,of_decide_eq_true h3,λk j hj=>?_⟩
 ·have:=(key y hy).1.1;rw[hl]at this;exact Uh (p:=Ku) (λ_ h=>ZQN h) (by have t:(v6||isK Ku (scope.names.lookup y.1))=v5:=this;simpa using t)
 ·have:=(key y hy).1.2;rw[hl]at this;exact absurd this (by decide)
 ·have:=(key y hy).2;rw[hl,jG]at this;rw[hdn];rcases this with h|h
  ·exact .inl (Uh (p:=Lw) (λ_ h=>ZKv h) (by have t:(v6||isK Lw (dn.lookup y.1))=v5:=h;simpa using t))
  ·exact .inr (Uh (p:=Jj) (λ_ h=>ZFV h) h)
 ·have hk':k<caps.length:=(zD.mp hj).1;have:=h4 k (qZ.mpr hk');rw[hj]at this;dsimp only at this;cases e:N0[j]? with
  |none=>rw[e]at this;cases this
  |some x=>
   rw[e]at this;dsimp only at this;rw[z5]at this;exact⟨x,by rw[hN];exact e,of_decide_eq_true this.1,Uh (p:=Jj) (λ_ h=>ZFV h) this.2⟩
section
section
variable{X:Cx}{vv:List (jL×Obj)}{σ:St}{H:Hp}{s:jT}
theorem ZIm{xs:List V}(I:Inv X vv σ H s)(h:H p=vk (.lst xs)):∃o,Inv X vv σ (upd H p (.frz o (.lst xs))) s:=by
 obtain⟨hl,its,n,r,e⟩:=I.hok p _ h;have nt:∀b(u:HO),H b=vk u->u≠ .lst xs->b≠p:=λb u q d z=>by subst z;rw[h]at q;exact d (Option.some.inj q).symm
 refine⟨_,I.un (t':=s.toks) (H':=upd H p (.frz {cls:=.type "list",data:=.seq its.toArray n} (.lst xs))) ⟨λb o q _ _ _=>q,λb o q _ _ _=>⟨o.slots,q⟩,λb o q z _=>?_,λb o q _=>⟨o,q⟩,λb ys q=>?_,λb o u q=>?_,λb ps q=>⟨#[],?_⟩⟩ ?_⟩
 ·rw[Ax (λz'=>by subst z';rw[h]at z;cases z)];exact z
 ·rw[Ax (nt b _ q (by intro z;cases z))];exact q
 ·rw[Ax (nt b _ q (by intro z;cases z))];exact q
 ·rw[Ax (nt b _ q (by intro z;cases z)),Array.append_empty];exact q
 ·intro b u q;by_cases hb:b=p
  ·subst hb;rw[Dv]at q;cases q;exact⟨e,hl,its,n,r,e⟩
  ·rw[Ax hb]at q;exact(I.hok b u q).stay (λc v _ z=>z) (λc z=>by rw[Ax (nt c _ z (by intro z;cases z))];exact z) λc ys z=>by rw[Ax (nt c _ z (by intro z;cases z))];exact z
def Fz(P:jL->Prop)(H H':Hp):Prop:=∀p,(H' p=H p/\(∀vs,H p=vk (.lst vs)->¬P p))∨∃o vs,P p/\H p=vk (.lst vs)/\H' p=vk (.frz o (.lst vs))
theorem ZFx(I:Inv X vv σ H s)(m:Nat->jL)(n:Nat):∀k:Nat,∃H',Inv X vv σ H' s/\Fz (λp=>∃i,n<=i/\i<n+k/\p=m i) H H'
 |0=>⟨H,I,λp=>.inl ⟨rfl,λ_ _ ⟨i,h1,h2,_⟩=>by lia⟩⟩
 | k + 1=>by
  obtain⟨H',I',F⟩:=ZFx I m n k;have keep:(∀vs,H' (m (n+k))≠vk (.lst vs))->Fz (λp=>∃i,n<=i/\i<n+(k+1)/\p=m i) H H':=λno p=>by
   rcases F p with⟨e,z⟩|⟨o,vs,⟨i,h1,h2,h3⟩,e1,e2⟩
   ·refine .inl ⟨e,λvs e1 ⟨i,h1,h2,h3⟩=>?_⟩;by_cases hi:i<n+k
    ·exact z vs e1 ⟨i,h1,hi,h3⟩
    ·have:i=n+k:=by lia
     subst this;subst h3;exact no vs (e.trans e1)
   ·exact .inr ⟨o,vs,⟨i,h1,by lia,h3⟩,e1,e2⟩
  cases hH:H' (m (n+k))with
  |none=>exact⟨H',I',keep λvs z=>by rw[hH]at z;cases z⟩
  | some u=>
   cases u with
   | lst vs=>
    obtain⟨o,I2⟩:=ZIm I' hH;refine⟨_,I2,λp=>?_⟩;by_cases hp:p=m (n+k)
    ·subst hp;rcases F (m (n+k))with⟨e,z⟩|⟨o',vs',_,e1,e2⟩
     ·exact .inr ⟨o,vs,⟨n+k,by lia,by lia,rfl⟩,e.symm.trans hH,Dv⟩
     ·rw[hH]at e2;cases e2
    ·rcases F p with⟨e,z⟩|⟨o',vs',⟨i,h1,h2,h3⟩,e1,e2⟩
     ·refine .inl ⟨by rw[Ax hp];exact e,λvs' e1 ⟨i,h1,h2,h3⟩=>?_⟩;by_cases hi:i<n+k
      ·exact z vs' e1 ⟨i,h1,hi,h3⟩
      ·have:i=n+k:=by lia
       subst this;exact hp h3
     ·exact .inr ⟨o',vs',⟨i,h1,by lia,h3⟩,e1,by rw[Ax hp];exact e2⟩
   |_=>exact⟨H',I',keep λvs z=>by rw[hH]at z;cases z⟩
end
noncomputable def J8(f:D->Option D):List D->Option (List D)
 |[]=>vk []
 |d::r=>match f d,J8 f r with
  |some d',vk r'=>vk (d'::r')
  |_,_=>v4
def Ef(G:DH)(n:Nat):Nat->D->Option D
 |0,_=>v4
 | k+1,d=>if bel n d=v5 then vk d else match d with
  |.ref i=>match G[i]? with
   |some (.lst xs)=>(J8 (Ef G n k) xs).map .fl
   |_=>v4
  |.tup xs=>(J8 (Ef G n k) xs).map .tup
  |.fl xs=>(J8 (Ef G n k) xs).map .fl
  |_=>v4
open Classical in
def freeze(G:DH)(r:R D):R D:=match r with
 | .ok d G'=>if G'.take G.length=G then(match Ef G' G.length 9 d with
   |some d'=>.ok d' G
   |none=>.ok d G')else .ok d G'
 |r=>r
def By(t:DE):DE:=λS G=>freeze G (t S G)
structure CutF (b c:Wd) (n:Nat):Prop where
 k:c.K=b.K
 n:c.n=n
 m:c.m=b.m
 tup:∀p xs,b.H p=vk (.tup xs)->c.H p=vk (.tup xs)
 frz:∀p o u,b.H p=vk (.frz o u)->c.H p=vk (.frz o u)
theorem CutF.sqT{n:Nat}(x:CutF b c n){xs:List V}(h:SqT b.K b.H p xs):SqT c.K c.H p xs:=by
 rcases h with(h|⟨o,h⟩)|h
 ·exact .inl (.inl (x.tup _ _ h))
 ·exact .inl (.inr ⟨o,x.frz _ _ _ h⟩)
 ·exact .inr (by rw[x.k];exact h)
theorem CutF.fzL{n:Nat}(x:CutF b c n){xs:List V}(h:FzL b.K b.H p xs):FzL c.K c.H p xs:=by
 rcases h with⟨o,h⟩|h
 ·exact .inl ⟨o,x.frz _ _ _ h⟩
 ·exact .inr (by rw[x.k];exact h)
mutual
theorem Rep.Hf{n:Nat}(x:CutF b c n):∀{d:D}{v:V},Rep b d v->bel n d=v5->Rep c d v
 |.non,_,h,_=>h
 |.bl _,_,h,_=>h
 |.int _,_,h,_=>h
 |.str _,_,h,_=>h
 |.ty _,_,h,_=>h
 |.tup ds,v,h,q=>by obtain⟨p,vs,e,t,r⟩:=h;simp only[_D.bel]at q;exact⟨p,vs,e,x.sqT t,Reps.Hf x r q⟩
 |.fl ds,v,h,q=>by obtain⟨p,vs,e,t,r⟩:=h;simp only[_D.bel]at q;exact⟨p,vs,e,x.fzL t,Reps.Hf x r q⟩
 |.ref i,v,h,q=>by obtain⟨l,e⟩:=h;simp only[_D.bel]at q;have q':=of_decide_eq_true q;exact⟨by rw[x.n];exact q',by rw[x.m];exact e⟩
theorem Reps.Hf{n:Nat}(x:CutF b c n):∀{ds:List D}{vs:List V},Reps b ds vs->bels n ds=v5->Reps c ds vs
 |[],_,h,_=>h
 |d::ds,vs,h,q=>by obtain⟨v,r,e,h1,h2⟩:=h;simp only[_D.bels,z5]at q;exact⟨v,r,e,Rep.Hf x h1 q.1,Reps.Hf x h2 q.2⟩
end
theorem Uw{f:D->Option D}(hf:∀d d' v,f d=vk d'->Rep b d v->Rep c d' v):∀{ds ds':List D}{vs:List V},J8 f ds=vk ds'->Reps b ds vs->Reps c ds' vs
 |[],ds',vs,e,h=>by cases e;exact h
 |d::ds,ds',vs,e,h=>by
  obtain⟨v,r,rfl,h1,h2⟩:=h;unfold J8 at e;split at e
  ·rename_i d' r' e1 e2;cases e;exact⟨v,r,rfl,hf _ _ _ e1 h1,Uw hf e2 h2⟩
  ·cases e
theorem ZCQ{n:Nat}(s:Sim b G')(x:CutF b c n)(hz:∀i,n<=i->i<b.n->∀vs,b.H (b.m i)=vk (.lst vs)->∃o,c.H (b.m i)=vk (.frz o (.lst vs))):∀(k:Nat)(d d':D)(v:V),Ef G' n k d=vk d'->Rep b d v->Rep c d' v
 |0,d,d',v,e,h=>by cases e
 | k + 1,d,d',v,e,h=>by
  have ih:=ZCQ s x hz k;unfold Ef at e;split at e
  ·rename_i hb;cases e;exact h.Hf x hb
  ·rename_i hb;cases d with
   | ref i=>
    dsimp only at e;split at e
    ·rename_i xs hx;rw[zA]at e;obtain⟨ys,e1,rfl⟩:=e;obtain⟨vs,e2,r2⟩:=s.obj i _ hx;obtain⟨il,rfl⟩:=h;have hi:n<=i:=by simp only[_D.bel,decide_eq_true_eq]at hb;lia
     obtain⟨o,e3⟩:=hz i hi il vs e2;exact⟨_,vs,rfl,.inl ⟨o,e3⟩,Uw ih e1 r2⟩
    ·cases e
   |tup xs=>
    dsimp only at e;rw[zA]at e;obtain⟨ys,e1,rfl⟩:=e;obtain⟨p,vs,rfl,t,r⟩:=h;exact⟨p,vs,rfl,x.sqT t,Uw ih e1 r⟩
   |fl xs=>
    dsimp only at e;rw[zA]at e;obtain⟨ys,e1,rfl⟩:=e;obtain⟨p,vs,rfl,t,r⟩:=h;exact⟨p,vs,rfl,x.fzL t,Uw ih e1 r⟩
   |_=>cases e
theorem ZFM{vv:List (jL×Obj)}{sh:jT}(s:Sim a G)(hG:G'.take G.length=G)(x:Ext a b)(sb:Sim b G')(I:Inv X vv σ b.H sh):
  ∃c:Wd,Inv X vv σ c.H sh/\Ext a c/\Sim c G/\CutF b c a.n/\∀(k:Nat)(d d':D)(v:V),Ef G' G.length k d=vk d'->Rep b d v->Rep c d' v:=by
 have hlen:∀i o,G[i]?=vk o->G'[i]?=vk o:=λi o e=>by have hi:i<G.length:=(zD.mp e).1;rw[<-hG,jQ hi]at e;exact e
 obtain⟨H',I',F⟩:=ZFx I b.m a.n (b.n-a.n);have hbn:a.n+(b.n-a.n)=b.n:=by have:=x.n;lia
 rw[hbn]at F;have ct:∀p(u:HO),(∀vs,u≠ .lst vs)->b.H p=vk u->H' p=vk u:=λp u nu e=>by
  rcases F p with⟨e1,_⟩|⟨o,vs,_,e1,_⟩
  ·exact e1.trans e
  ·rw[e]at e1;exact absurd (Option.some.inj e1) (nu vs)
 have tabs:∀p,TabOk b.H p->TabOk H' p:=λp t=>t.mono (λp ps e=>ct p _ (by intro _ z;cases z) e) λp o u e=>ct p _ (by intro _ z;cases z) e
 have cc:CutF b ⟨b.K,a.n,b.m,H'⟩ a.n:=⟨rfl,rfl,rfl,λp xs e=>ct p _ (by intro _ z;cases z) e,λp o u e=>ct p _ (by intro _ z;cases z) e⟩;have old:∀i,i<a.n->H' (b.m i)=b.H (b.m i):=λi hi=>by
  rcases F (b.m i)with⟨e1,_⟩|⟨o,vs,⟨j,h1,h2,h3⟩,e1,e2⟩
  ·exact e1
  ·have:=sb.inj i j (zV hi x.n) h2 h3;lia
 refine⟨⟨b.K,a.n,b.m,H'⟩,I',⟨x.k,zY _,x.m,λp xs e=>cc.tup p xs (x.tup p xs e),λp o u e=>cc.frz p o u (x.frz p o u e),λp t=>tabs p (x.tab p t)⟩,⟨s.len,λi j hi hj=>sb.inj i j (zV hi x.n) (zV hj x.n),λi o e=>?_,λi hi=>?_⟩,cc,λk d d' v hd rb=>?_⟩
 ·show ORep ⟨b.K,a.n,b.m,H'⟩ o (H' (b.m i));rw[old i (s.lt e)];have q:=sb.obj i o (hlen i o e);have lb:=(s.obj i o e).Kq;cases o with
  |lst ds=>obtain⟨vs,e1,r1⟩:=q;exact⟨vs,e1,r1.Hf cc lb⟩
  |dct kvs=>obtain⟨us,e1,k1,r1⟩:=q;exact⟨us,e1,k1,r1.Hf cc lb⟩
  |ins c fs=>obtain⟨C,dx,us,n1,e1,k1,r1⟩:=q;exact⟨C,dx,us,n1,e1,k1,r1.Hf cc lb⟩
  |tab C m=>obtain⟨c1,P1,e1,t1⟩:=q;exact⟨c1,P1,e1,tabs _ t1⟩
  |exc c fs=>
   obtain⟨C,oe,u,vs,n1,e1,k1,k2,z⟩:=q;refine⟨C,oe,u,vs,n1,e1,k1,k2,?_⟩;rcases z with z|⟨dx,o,us,e2,f2,k3,r1⟩
   ·exact .inl z
   ·exact .inr ⟨dx,o,us,e2,cc.frz _ _ _ f2,k3,r1.Hf cc lb⟩
  |gone=>trivial
 ·show H' (b.m i)≠v4;rw[old i hi];exact sb.tr i (zV hi x.n)
 ·rw[s.len]at hd;refine ZCQ sb cc (λi h1 h2 vs e=>?_) k d d' v hd rb;rcases F (b.m i)with⟨e1,z⟩|⟨o,vs',_,e1,e2⟩
  ·exact absurd ⟨i,h1,h2,rfl⟩ (z vs e)
  ·rw[e]at e1;cases e1;exact⟨o,e2⟩
theorem ZOZ(s:Sim a G)(h:out E a (freeze G r) Q):
  out E a r λv H=>∀(vv:List (jL×Obj))(σ:St)(sh:jT),Inv X vv σ H sh->∃H',Inv X vv σ H' sh/\Q v H':=by
 cases r with
 |err e G'=>exact h
 |bad=>exact h
 | ok d G'=>
  intro b v x sb rb vv σ sh I;unfold freeze at h;dsimp only at h;split at h
  ·rename_i hG;split at h
   ·rename_i d' hd;obtain⟨c,Ic,xc,sc,cc,hr⟩:=ZFM s hG x sb I;exact⟨c.H,Ic,h c v xc sc (hr _ _ _ _ hd rb)⟩
   ·exact⟨_,I,h b v x sb rb⟩
  ·exact⟨_,I,h b v x sb rb⟩
theorem Cq(ha:QE X E e t):QE X E e (By t):=λvv s σ H Q I h=>by
 obtain⟨a,S,G,hk,rfl,sm,r,h⟩:=h;refine thn (ha vv s σ a.H _ I ⟨a,S,G,hk,rfl,sm,r,ZOZ (X:=X) sm h⟩) λu s' ⟨v,H',I',rv,q⟩=>?_
 obtain⟨H2,I2,q2⟩:=q vv σ s' I';exact⟨v,H2,I2,rv,q2⟩
theorem ZFz {st:jU} (ha:QS X E st (sAs t (gV i))):QS X E st (sAs (By t) (gV i)):=λvv s σ H W I h=>by
 obtain ⟨a,S,G,hk,rfl,sm,r,h⟩:=h;have h2:Bq E a (sAs t (gV i) S G) {W with nx:=λσ H=>∀(vv:List (jL×Obj))(sh:jT),Inv X vv σ H sh->∃H',Inv X vv σ H' sh/\W.nx σ H'}:=by
  unfold sAs By at h;unfold sAs;cases ht:t S G with
  |err e G'=>rw[ht]at h;exact h
  |bad=>rw[ht]at h;exact h
  | ok d G'=>
   rw[ht]at h;intro b σ' x sb rb vv sh I;unfold freeze at h;dsimp only at h;split at h
   ·rename_i hG;split at h
    ·rename_i d' hd;obtain⟨c,Ic,xc,sc,cc,hr⟩:=ZFM sm hG x sb I;refine⟨c.H,Ic,h c σ' xc sc ⟨?_,λj e he=>?_⟩⟩
     ·rw[qT,<-rb.len,qT]
     ·rw[qj]at he;by_cases hij:i=j
      ·subst hij;rw[if_pos rfl]at he;by_cases hl:i<S.length
       ·rw[if_pos hl]at he;have e1:d'=e:=by simpa using he
        subst e1;obtain⟨v,e2,rv⟩:=rb.get i d (by rw[qj,if_pos rfl,if_pos hl]);exact⟨v,e2,hr _ _ _ _ hd rv⟩
       ·rw[if_neg hl]at he;cases he
      ·rw[if_neg hij]at he;obtain⟨v,e2,rv⟩:=rb.get j e (by rw[qj,if_neg hij];exact he);obtain⟨v',_,rv'⟩:=r.get j e he;exact⟨v,e2,rv.Hf cc rv'.bel⟩
    ·exact⟨_,I,h b σ' x sb rb⟩
   ·exact⟨_,I,h b σ' x sb rb⟩
 refine thn (ha vv s σ a.H _ I ⟨a,S,G,hk,rfl,sm,r,h2⟩) λf s' hf=>?_
 cases f with
 |next=>
  obtain⟨σ',H',I',q⟩:=hf;obtain⟨H2,I2,q2⟩:=q vv s' I';exact⟨σ',H2,I2,q2⟩
 |brk=>exact hf
 |cont=>exact hf
 |ret u=>exact hf
end
section
variable{S:DSt}{G:DH}
@[simp]theorem ZAM:dV i S G=(match S[i]? with |some (vk d)=>.ok d G|_=>.bad):=id rfl
@[simp]theorem ev_C:dC d S G=.ok d G:=id rfl
@[simp]theorem ev_Op{a b:DE}:dOp f a b S G=(a S G).bind λx G1=>(b S G1).bind λy G2=>f x y G2:=id rfl
@[simp]theorem ev_Un{f:D->DH->R D}{a:DE}:dUn f a S G=(a S G).bind f:=id rfl
@[simp]theorem ev_Nil:Ad S G=.ok [] G:=id rfl
@[simp]theorem ZQs{a:DE}{r:DA}:Ab a r S G=(a S G).bind λx G1=>(r S G1).bind λxs G2=>.ok (x::xs) G2:=id rfl
@[simp]theorem ev_Fn{f:List D->DH->R D}{t:DA}:dFn f t S G=(t S G).bind f:=id rfl
@[simp]theorem ZRW:Ec t S G=tidy G (t S G):=id rfl
@[simp]theorem ev_Frz:By t S G=freeze G (t S G):=id rfl
@[simp]theorem ev_asB{k:Bool}:asB (.bl k) G=.ok k G:=id rfl
@[simp]theorem ev_Tst:Ay t S G=(t S G).bind asB:=id rfl
@[simp]theorem ev_Or{t u:DB}:dOr t u S G=(t S G).bind λk G1=>if k=v5 then .ok v5 G1 else u S G1:=id rfl
@[simp]theorem ev_Not{t:DB}:Jt t S G=(t S G).bind λk G1=>.ok (!k) G1:=id rfl
@[simp]theorem ZQk{u:DE}:Rb t u S G=(t S G).bind λx G1=>(asB x G1).bind λk G2=>if k=v5 then u S G2 else .ok (.bl v6) G2:=id rfl
@[simp]theorem ev_OrV{u:DE}:ZAJ t u S G=(t S G).bind λx G1=>(asB x G1).bind λk G2=>if k=v5 then .ok (.bl v5) G2 else u S G2:=id rfl
@[simp]theorem ZQu:Ym t S G=(t S G).bind λx G1=>(asB x G1).bind λk G2=>.ok (.bl (!k)) G2:=id rfl
@[simp]theorem ev_If{c:DB}{u:DE}:dIf c t u S G=(c S G).bind λk G1=>if k=v5 then t S G1 else u S G1:=id rfl
@[simp]theorem ZQ7{g:D->D->DH->R D}{a b c:DE}:Nv f g a b c S G=(a S G).bind λx G1=>(b S G1).bind λy G2=>(f x y G2).bind λz G3=>(asB z G3).bind λk G4=>
 if k=v5 then(c S G4).bind λw G5=>g y w G5 else .ok (.bl v6) G4:=id rfl
@[simp]theorem ev_sNx:sNx S G=.nx S G:=id rfl
noncomputable def SR.then(r:SR)(u:DS):SR:=match r with
 |.nx S1 G1=>u S1 G1
 |r=>r
@[simp]theorem ZHQ{t:DS}:Ag t u S G=(t S G).then u:=id rfl
@[simp]theorem ZO9:(SR.nx S G).then u=u S G:=id rfl
@[simp]theorem ZRU:(SR.rt d G).then u=.rt d G:=id rfl
@[simp]theorem ZRa{x:Xn}:(SR.err x G).then u=.err x G:=id rfl
@[simp]theorem ev_sEx:sEx t S G=(t S G).toS λ_ G1=>.nx S G1:=id rfl
@[simp]theorem ev_sRt:sRt t S G=(t S G).toS λd G1=>.rt d G1:=id rfl
@[simp]theorem ev_sIf{c:DB}{t:DS}:sIf c t u S G=(c S G).toS λk G1=>if k=v5 then t S G1 else u S G1:=id rfl
@[simp]theorem ev_sAs:sAs t g S G=(t S G).toS λd G1=>(g d S G1).toS λS2 G2=>.nx S2 G2:=id rfl
@[simp]theorem ev_sAu:sAu i t f S G=(match S[i]? with
 |some (vk x)=>(t S G).toS λy G1=>(f x y G1).toS λz G2=>.nx (S.set i (vk z)) G2
 |_=>.bad):=id rfl
@[simp]theorem ZRE{it:DI}{b:DS}:El it g b S G=(it S G).toS λJ G1=>(match J with
 |.pure xs=>Cj g b xs S G1
 |.mt i=>match G1[i]? with
  |some (.lst xs)=>forM i g b xs.length 0 S G1
  |_=>.bad
 |.fn n f=>Dc f g b n 0 S G1):=id rfl
@[simp]theorem ZNk:Ff t S G=(t S G).bind Fw:=id rfl
@[simp]theorem ZRT{f:List D->DH->R ItD}{t:DA}:Di f t S G=(t S G).bind f:=id rfl
@[simp]theorem Jm:gV i d S G=.ok (S.set i (vk d)) G:=id rfl
@[simp]theorem Vw:Bd [] S G=.ok S G:=id rfl
@[simp]theorem Ti{t:DG}{u:DGs}{r:List D}:Ai t u (d::r) S G=(t d S G).bind λS1 G1=>u r S1 G1:=id rfl
@[simp]theorem Um{n:Nat}{t:DGs}:Bc n t (.tup ds) S G=if ds.length=n then t ds S G else .bad:=id rfl
@[simp]theorem ev_gIx{o i:DE}{v:D}:gIx o i v S G=(o S G).bind λo G1=>(i S G1).bind λi G2=>(Jl o i v G2).bind λ_ G3=>.ok S G3:=id rfl
@[simp]theorem ev_MtL{f:D->List D->DH->R D}{o:DE}{t:DA}:Gp f o t S G=(o S G).bind λx G1=>if isL x G1=v5 then(t S G1).bind λxs G2=>f x xs G2 else .bad:=id rfl
@[simp]theorem ZNg{it:DI}{caps:List Nat}{c:DB}:Ei it nt caps g c te S G=(it S G).bind λJ G1=>(match J with
 |.pure xs=>Ed g c te (Bp nt caps S) xs G1
 |.mt i=>match G1[i]? with
  |some (.lst xs)=>Ex i g c te (Bp nt caps S) xs.length 0 G1
  |_=>.bad
 |.fn n f=>Cw f g c te (Bp nt caps S) n 0 G1).bind Bg:=id rfl
@[simp]theorem Xi:Ck S G=.ok v5 G:=id rfl
@[simp]theorem Ig{k:DSt->DH->SR}:aft (.nx S G) k=k S G:=id rfl
@[simp]theorem aft_rt{k:DSt->DH->SR}:aft (.rt d G) k=.rt d G:=id rfl
@[simp]theorem ZLE{k:DSt->DH->SR}{x:Xn}:aft (.err x G) k=.err x G:=id rfl
theorem Kg{b:DS}:Cj g b [] S G=.nx S G:=id rfl
theorem Ip{b:DS}{x:D}:Cj g b (x::xs) S G=(g x S G).toS λS1 G1=>aft (b S1 G1) (Cj g b xs):=id rfl
theorem ZKb{c:DB}:Ed g c te S [] G=.ok [] G:=id rfl
theorem ZBd{c:DB}{x:D}:Ed g c te S (x::xs) G=(g x S G).bind λS1 G1=>(c S1 G1).bind λk G2=>
   if k=v5 then(te S1 G2).bind λd G3=>(Ed g c te S xs G3).bind λds G4=>.ok (d::ds) G4 else Ed g c te S xs G2:=id rfl
noncomputable def SR.ret(r:SR):R D:=match r with
 |.nx _ G'=>.ok .non G'
 |.rt d G'=>.ok d G'
 |.err x G'=>.err x G'
 |_=>.bad
@[simp]theorem ZNy:(SR.nx S G).ret=.ok .non G:=id rfl
@[simp]theorem ret_rt:(SR.rt d G).ret=.ok d G:=id rfl
@[simp]theorem ZQz{x:Xn}:(SR.err x G).ret=.err x G:=id rfl
theorem Bl{np nl:Nat}{b:DS}:Bb np nl b ds G=if ds.length=np then tidy G (b (ds.map vk++zw nl v4) G).ret else .bad:=id rfl
end
section
variable{n:Nat}{G:DH}
@[simp]theorem ZRY:bel n .non=v5:=by simp[_D.bel]
@[simp]theorem bel_bl{b:Bool}:bel n (.bl b)=v5:=by simp[_D.bel]
@[simp]theorem ZIb{b:Int}:bel n (.int b)=v5:=by simp[_D.bel]
@[simp]theorem ZQ4{b:Str}:bel n (.str b)=v5:=by simp[_D.bel]
@[simp]theorem ZQ8{b:List D}:bel n (.tup b)=bels n b:=by simp[_D.bel]
@[simp]theorem bel_fl{b:List D}:bel n (.fl b)=bels n b:=by simp[_D.bel]
@[simp]theorem ZQx{b:Nat}:bel n (.ref b)=decide (b<n):=by simp[_D.bel]
@[simp]theorem ZQ9:bels n []=v5:=by simp[_D.bels]
@[simp]theorem ZQK:bels n (d::ds)=(bel n d&&bels n ds):=by simp[_D.bels]
theorem ZJJ:bels n ds=v5↔∀d∈ds,bel n d=v5:=by
 induction ds with
 |nil=>simp
 |cons d ds ih=>simp[ih]
@[simp]theorem ZID{es:List D}:bels n (ds++es)=(bels n ds&&bels n es):=by
 induction ds with
 |nil=>simp
 |cons d ds ih=>simp[ih,Bool.and_assoc]
theorem Gm{f:α->D}{xs:List α}(h:∀x∈xs,bel n (f x)=v5):bels n (xs.map f)=v5:=by rw[ZJJ];intro d hd;obtain⟨x,hx,rfl⟩:=zU.mp hd;exact h x hx
@[simp]theorem ZCt{xs:List Int}:bels n (xs.map D.int)=v5:=Gm λ_ _=>ZIb
theorem Bv(h:bel G.length d=v5):tidy G (.ok d G)=.ok d G:=by unfold tidy;simp[h]
theorem Og(h:bel G.length d=v5):tidy G (.ok d (G++L))=.ok d G:=by unfold tidy;simp[h]
theorem ZFF(L:DH){k:Nat}(hk:L[k]?=vk (.lst ds))(h:bels G.length ds=v5):tidy G (.ok (.ref (G.length+k)) (G++L))=.ok (.ref G.length) (G++[.lst ds]):=by
 unfold tidy;have e:(G++L)[G.length+k]?=vk (.lst ds):=by rw[zC (by lia)];simpa using hk
 simp[e,Kq,h]
theorem Hy(h:bels G.length ds=v5):tidy G (.ok (.ref G.length) (G++ .lst ds::L))=.ok (.ref G.length) (G++[.lst ds]):=ZFF (.lst ds::L) (k:=0) rfl h
theorem ZHn(h:bel G.length d=v5):freeze G (.ok d G)=.ok d G:=by unfold freeze;simp[h,Ef]
theorem Tq{n:Nat}{k:Nat}:∀{ds:List D},bels n ds=v5->J8 (Ef G' n (k+1)) ds=vk ds
 |[],_=>rfl
 |d::ds,h=>by simp only[ZQK,z5]at h;unfold J8;rw[Tq h.2];simp[Ef,h.1]
theorem ZPK(L:DH){k:Nat}(hk:L[k]?=vk (.lst ds))(h:bels G.length ds=v5):freeze G (.ok (.ref (G.length+k)) (G++L))=.ok (.fl ds) G:=by
 unfold freeze;have e:(G++L)[G.length+k]?=vk (.lst ds):=by rw[zC (by lia)];simpa using hk
 have m:Ef (G++L) G.length 9 (.ref (G.length+k))=vk (.fl ds):=by unfold Ef;simp[e,Tq h]
 simp[m]
theorem Ir(h:bels G.length ds=v5):freeze G (.ok (.ref G.length) (G++ .lst ds::L))=.ok (.fl ds) G:=ZPK (.lst ds::L) (k:=0) rfl h
theorem Tv(L:DH)(k:Nat):(G++L)[G.length+k]?=L[k]? :=by rw[zC (by lia)];simp
theorem Hz(L:DH):(G++L)[G.length]?=L[0]? :=Tv L 0
theorem ZAv(L:DH)(k:Nat)(o:DO):(G++L).set (G.length+k) o=G++L.set k o:=by rw[List.set_append_right _ _ (by lia)];simp
theorem Va(L:DH)(o:DO):(G++L).set G.length o=G++L.set 0 o:=ZAv L 0 o
theorem ZDZ{lo:Int}:Dz lo 0=[]:=id rfl
theorem ZGu{lo:Int}{n:Nat}:Dz lo (n+1)=.int lo::Dz (lo+1) n:=by
 unfold Dz;rw[qC,zk,jz]
 congr 1
 ·simp
 ·apply qE;intro k _;simp only[Function.comp]
  congr 1
  lia
end
section
variable{G:DH}{i j:Int}{x y:Str}{k l:Bool}
@[simp]theorem ev_add:Cv (.int i) (.int j) G=.ok (.int (i+j)) G:=id rfl
@[simp]theorem ev_ip:Jc (.int i) (.int j) G=.ok (.int (i+j)) G:=id rfl
@[simp]theorem ev_sub:Fl (.int i) (.int j) G=.ok (.int (i-j)) G:=id rfl
theorem log2_small{n:Nat}(h:n<10^100):n.log2<9000:=by
 by_cases hn:n=0
 ·subst hn;decide
 ·rw[Nat.log2_lt hn];exact Nat.lt_trans h (by decide)
@[simp]theorem ZQw{n:Nat}[NeZero n](h:n<10^100):Hj (.int i) (.int (no_index (OfNat.ofNat n))) G=.ok (.int (i/OfNat.ofNat n)) G:=
 if_pos ⟨Int.ofNat_lt.mpr (Nat.pos_of_ne_zero (NeZero.ne n)),log2_small h⟩
@[simp]theorem ev_mod:Df (.int i) (.int j) G=if 0<j then .ok (.int (i%j)) G else .bad:=id rfl
@[simp]theorem ev_pow:Jb (.int i) (.int j) G=if 0<=j/\j<=1000000/\i.natAbs<18446744073709551616 then .ok (.int (i^j.toNat)) G else .bad:=id rfl
@[simp]theorem ev_lt:Hn (.int i) (.int j) G=.ok (.bl (decide (i<j))) G:=id rfl
@[simp]theorem ev_le:Ky (.int i) (.int j) G=.ok (.bl (decide (i<=j))) G:=id rfl
@[simp]theorem ev_gt:Il (.int i) (.int j) G=.ok (.bl (decide (j<i))) G:=id rfl
@[simp]theorem ev_ge:Z4 (.int i) (.int j) G=.ok (.bl (decide (j<=i))) G:=id rfl
@[simp]theorem ev_eq:Bx (.int i) (.int j) G=.ok (.bl (decide (i=j))) G:=id rfl
@[simp]theorem ev_ne:Eb (.int i) (.int j) G=.ok (.bl (!decide (i=j))) G:=id rfl
@[simp]theorem ev_eqS:Bx (.str x) (.str y) G=.ok (.bl (decide (x=y))) G:=id rfl
@[simp]theorem ev_neS:Eb (.str x) (.str y) G=.ok (.bl (!decide (x=y))) G:=id rfl
@[simp]theorem ev_neg:Gu (.int i) G=.ok (.int (-i)) G:=id rfl
@[simp]theorem ev_is:Vv d .non G=.ok (.bl (Jq d)) G:=by cases d<;>exact id rfl
@[simp]theorem ZQn:Lb d .non G=.ok (.bl (!Jq d)) G:=by cases d<;>exact id rfl
@[simp]theorem ZRS:Jq .non=v5:=id rfl
@[simp]theorem ZRF:Jq (.int i)=v6:=id rfl
@[simp]theorem ZRQ:Jq (.tup ds)=v6:=id rfl
@[simp]theorem ev_max:Vr [.int i,.int j] G=.ok (.int (max i j)) G:=by
 show R.ok (D.int (if j>i then j else i)) G=_
 congr 2
 split <;> lia
@[simp]theorem ev_min:Kw [.int i,.int j] G=.ok (.int (min i j)) G:=by
 show R.ok (D.int (if j<i then j else i)) G=_
 congr 2
 split <;> lia
@[simp]theorem ZRI:Td [.bl k] G=.ok (.int (if k then 1 else 0)) G:=id rfl
@[simp]theorem ZQ6:Bj (.tup ds) G=vk ds:=id rfl
@[simp]theorem ZQv:Bj (.fl ds) G=vk ds:=id rfl
@[simp]theorem Xk{n:Nat}:Bj (.ref n) G=(match G[n]? with |some (.lst xs)=>vk xs|_=>v4):=id rfl
@[simp]theorem ZQp:Bs [.tup ds] G=.ok (.int ds.length) G:=id rfl
@[simp]theorem ZQ3:Bs [.fl ds] G=.ok (.int ds.length) G:=id rfl
@[simp]theorem ZRb{n:Nat}:Bs [.ref n] G=(match G[n]? with |some (.lst xs)=>.ok (.int xs.length) G|_=>.bad):=by
 unfold Bs;simp only[Xk];cases G[n]? with
 |none=>rfl
 |some o=>cases o<;>rfl
@[simp]theorem ev_ixT:Ak (.tup ds) (.int i) G=(match atI ds i with |some v=>.ok v G|none=>.bad):=id rfl
@[simp]theorem ev_ixF:Ak (.fl ds) (.int i) G=(match atI ds i with |some v=>.ok v G|none=>.bad):=id rfl
@[simp]theorem ev_ixR{n:Nat}:Ak (.ref n) (.int i) G=(match G[n]? with |some (.lst xs)=>(match atI xs i with |some v=>.ok v G|none=>.bad)|_=>.bad):=by
 unfold Ak;simp only[Xk];cases G[n]? with
 |none=>rfl
 |some o=>cases o<;>rfl
theorem Mt{n k:Nat}(h:k<n):ixN n (k:Int)=vk k:=by unfold ixN;rw[if_pos (by lia),if_pos (by lia)];simp
theorem ZJW{xs:List α}{k:Nat}{d:α}(h:xs[k]?=vk d):atI xs (k:Int)=vk d:=by unfold atI;rw[Mt (zD.mp h).1];exact h
theorem Ep{xs:List α}{j:Int}{k:Nat}{d:α}(e:j=k)(h:xs[k]?=vk d):atI xs j=vk d:=by subst e;exact ZJW h
theorem ZFL{xs:List α}{j:Int}(h0:j<0)(h: -(xs.length:Int)<=j):atI xs j=vk (xs[(j+xs.length).toNat]'(by lia)):=by unfold atI ixN;rw[if_neg (by lia),if_pos h];exact zJ (by lia)
@[simp]theorem atI_0{a:α}{xs:List α}:atI (a::xs) 0=vk a:=Ep (k:=0) rfl rfl
@[simp]theorem atI_1{a b:α}{xs:List α}:atI (a::b::xs) 1=vk b:=Ep (k:=1) rfl rfl
@[simp]theorem atI_2{a b c:α}{xs:List α}:atI (a::b::c::xs) 2=vk c:=Ep (k:=2) rfl rfl
@[simp]theorem atI_3{a b c d:α}{xs:List α}:atI (a::b::c::d::xs) 3=vk d:=Ep (k:=3) rfl rfl
@[simp]theorem atI_4{a b c d e:α}{xs:List α}:atI (a::b::c::d::e::xs) 4=vk e:=Ep (k:=4) rfl rfl
@[simp]theorem atI_5{a b c d e f:α}{xs:List α}:atI (a::b::c::d::e::f::xs) 5=vk f:=Ep (k:=5) rfl rfl
@[simp]theorem atI_6{a b c d e f g:α}{xs:List α}:atI (a::b::c::d::e::f::g::xs) 6=vk g:=Ep (k:=6) rfl rfl
@[simp]theorem ZRO:Bf ds G=if ds.length<=1000000 then .ok (.tup ds) G else .bad:=id rfl
@[simp]theorem ZRK:Bg ds G=if ds.length<=1000000 then .ok (.ref G.length) (G++[.lst ds])else .bad:=id rfl
@[simp]theorem ZRH:J0 [.fl ds] G=.ok (.tup ds) G:=id rfl
@[simp]theorem ZRL{n:Nat}:J0 [.ref n] G=(match G[n]? with |some (.lst xs)=>.ok (.tup xs) G|_=>.bad):=by
 unfold J0;simp only[Xk];cases G[n]? with
 |none=>rfl
 |some o=>cases o<;>rfl
@[simp]theorem ev_itT:Fw (.tup ds) G=.ok (.pure ds) G:=id rfl
@[simp]theorem ev_itF:Fw (.fl ds) G=.ok (.pure ds) G:=id rfl
@[simp]theorem ZRN:rng1 [.int j] G=if inR j then .ok (.pure (Dz 0 j.toNat)) G else .bad:=id rfl
theorem Q6(h0: -1000000000<=i)(h:i<=1000000000):inR i:=⟨by lia,by lia⟩
@[simp]theorem ZRM:isL (.fl ds) G=v5:=id rfl
@[simp]theorem ZRZ{n:Nat}:isL (.ref n) G=(match G[n]? with |some (.lst _)=>v5|_=>v6):=id rfl
@[simp]theorem ev_app{n:Nat}:Hr (.ref n) [d] G=(match G[n]? with |some (.lst xs)=>if xs.length<1000000 then .ok .non (G.set n (.lst (xs++[d])))else .bad|_=>.bad):=id rfl
@[simp]theorem ZRc{n:Nat}:Jl (.ref n) (.int i) d G=(match G[n]? with |some (.lst xs)=>(match ixN xs.length i with |some j=>.ok .non (G.set n (.lst (xs.set j d)))|none=>.bad)|_=>.bad):=id rfl
@[simp]theorem ev_all{ks:List Bool}:Mj [.fl (ks.map D.bl)] G=.ok (.bl (ks.all id)) G:=by simp[Mj]
@[simp]theorem ZQ0:K4 [d,.ty "int"] G=(match tyD G d with |some .int=>.ok (.bl v5) G|some .bl=>.ok (.bl v5) G|some _=>.ok (.bl v6) G|none=>.bad):=by
 unfold K4;dsimp only;cases tyD G d with
 |none=>rfl
 |some t=>cases t<;>rfl
@[simp]theorem ZRd:K4 [d,.ty "bool"] G=(match tyD G d with |some .bl=>.ok (.bl v5) G|some _=>.ok (.bl v6) G|none=>.bad):=by
 unfold K4;dsimp only;cases tyD G d with
 |none=>rfl
 |some t=>cases t<;>rfl
end
section
variable{c:Prop}[Decidable c]
@[simp]theorem ite_ok{a b:α}:(if c then R.ok a G else R.ok b G)=R.ok (if c then a else b) G:=by split <;> rfl
end
noncomputable def Gs(kvs:List (Key×D))(k:Key):Option D:=(kvs.find? λkv=>decide (kv.1=k)).map (·.2)
def putD(kvs:List (Key×D))(k:Key)(v:D):List (Key×D):=
 if(kvs.any λkv=>decide (kv.1=k))=v5 then kvs.map (λkv=>if kv.1=k then(kv.1,v)else kv)else kvs++[(k,v)]
def Py:D->Option Key
 |.int i=>vk (.inl i)
 |.str x=>vk (.inr x)
 |_=>v4
noncomputable def Rj(d:D)(G:DH):Option (List (Key×D)):=match d with
 |.ref i=>match G[i]? with
  |some (.dct kvs)=>vk kvs
  |_=>v4
 |_=>v4
theorem ZIM{x:V}{k:Key}(r:Rep a d x)(h:Py d=vk k):x=kV k:=by
 cases d<;>first
  |(cases h;exact r)
  |cases h
theorem RepKV.nil:RepKV a [] []:=⟨rfl,rfl⟩
theorem RepKV.cons{k:Key}{us:List (Key×V)}(h:RepKV a ((k,d)::kvs) us):∃v r,us=(k,v)::r/\Rep a d v/\RepKV a kvs r:=by
 obtain⟨h1,v,r,h2,h3,h4⟩:=h;cases us with
 |nil=>cases h2
 |cons p us=>
  obtain⟨q,w⟩:=p;simp only[zk,List.cons.injEq]at h1 h2;obtain⟨rfl,h1⟩:=h1;obtain⟨rfl,rfl⟩:=h2;exact⟨w,us,rfl,h3,h1,h4⟩
theorem RepKV.mk{k:Key}{us:List (Key×V)}(h:Rep a d v)(r:RepKV a kvs us):RepKV a ((k,d)::kvs) ((k,v)::us):=
 ⟨by simp only[zk,r.1],Reps.cons h r.2⟩
theorem RepKV.val{k:Key}:∀{kvs:List (Key×D)}{us:List (Key×V)},RepKV a kvs us->(Gs kvs k=v4/\Fb us k=v4)∨∃d v,Gs kvs k=vk d/\Fb us k=vk v/\Rep a d v
 |[],us,h=>by obtain⟨h1,_⟩:=h;have:us=[]:=jZ.mp h1.symm;subst this;exact .inl ⟨rfl,rfl⟩
 | (q,d)::kvs,us,h=>by
  obtain⟨v,r,rfl,h1,h2⟩:=RepKV.cons h;by_cases e:q=k
  ·exact .inr ⟨d,v,by simp[Gs,qQ,e],by simp[Fb,qQ,e],h1⟩
  ·rcases RepKV.val (k:=k) h2 with⟨e1,e2⟩|⟨d',v',e1,e2,e3⟩
   ·exact .inl ⟨by simpa[Gs,qQ,e]using e1,by simpa[Fb,qQ,e]using e2⟩
   ·exact .inr ⟨d',v',by simpa[Gs,qQ,e]using e1,by simpa[Fb,qQ,e]using e2,e3⟩
theorem RepKV.any{k:Key}:∀{kvs:List (Key×D)}{us:List (Key×V)},RepKV a kvs us->(kvs.any λkv=>decide (kv.1=k))=us.any λkv=>decide (kv.1=k)
 |[],us,h=>by
  obtain⟨h1,_⟩:=h;have:us=[]:=jZ.mp h1.symm;subst this
  rfl
 |(q,d)::kvs,us,h=>by obtain⟨v,r,rfl,h1,h2⟩:=RepKV.cons h;simp only[jK,RepKV.any (k:=k) h2]
theorem RepKV.repl{k:Key}(hv:Rep a d v):∀{kvs:List (Key×D)}{us:List (Key×V)},RepKV a kvs us->RepKV a (kvs.map λkv=>if kv.1=k then(kv.1,d)else kv) (us.map λkv=>if kv.1=k then(kv.1,v)else kv)
 |[],us,h=>by obtain⟨h1,_⟩:=h;have:us=[]:=jZ.mp h1.symm;subst this;exact RepKV.nil
 |(q,e)::kvs,us,h=>by
  obtain⟨w,r,rfl,h1,h2⟩:=RepKV.cons h;simp only[zk];by_cases hq:q=k
  ·rw[if_pos hq,if_pos hq];exact RepKV.mk hv (RepKV.repl hv h2)
  ·rw[if_neg hq,if_neg hq];exact RepKV.mk h1 (RepKV.repl hv h2)
theorem RepKV.put{k:Key}{us:List (Key×V)}(h:RepKV a kvs us)(hv:Rep a d v):RepKV a (putD kvs k d) (putK us k v):=by
 unfold putD putK;rw[RepKV.any (k:=k) h];split
 ·exact RepKV.repl hv h
 ·exact⟨by simp[h.1],by have:=Reps.append h.2 (Reps.cons hv (Reps.nil));simpa using this⟩
theorem Sim.dct{x:V}(s:Sim a G)(r:Rep a d x)(h:Rj d G=vk kvs):∃i us,d=.ref i/\i<a.n/\x=.ref (a.m i)/\G[i]?=vk (.dct kvs)/\a.H (a.m i)=vk (.dK us)/\RepKV a kvs us:=by
 cases d with
 |ref i=>
  unfold Rj at h;dsimp only at h;split at h
  ·rename_i ks hi;cases h;obtain⟨us,e1,r1⟩:=s.obj i _ hi;exact⟨i,us,rfl,r.1,r.2,hi,e1,r1⟩
  ·cases h
 |_=>cases h
def M7(d e:D)(G:DH):R D:=match Rj d G,Py e with
 |some kvs,vk k=>match Gs kvs k with
  |some v=>.ok v G
  |none=>.bad
 |none,_=>Ak d e G
 |_,_=>.bad
section
variable{X:Cx}{E:XK}
theorem ZJS(hu:X.A.units+64<cLine):IxR X (λx y H Q=>∃a v,x=.ref a/\DGet H a y (vk v)/\Q v H):=by
 intro value slice vv s σ H x y v u Q I rx ry h hs;obtain⟨a,w,rfl,g,q⟩:=h;obtain rfl:v=Value.ref a:=rx;have hT:=ZLp I g;unfold subscriptTail;refine xU ?_;rw[getitemInPython_of_ne hT.not_modules];refine xU (wpAny_specialOf hT PySem.F.slot_dict_getitem.lookup ?_);have fin:xS (xL X.prog X.w) X.A (subscripted slice v6 (.ref a) u) (λr s₃=>xS (xL X.prog X.w) X.A (letTemporaryGo value (.ref a) r >>=λ_=>pure r) (EP X vv σ Q) X.xe s₃) X.xe s:=by
  rw[hs];exact wpAny_operating (ZK3 (by lia) I g ry λw' s3 I3 rw'=>xU (wpAny_letTemporaryGo (vY ⟨w,H,I3,rw',q⟩)))
 first
  |exact vY (xU fin)
  |exact xU (vY (xU fin))
  |exact xU fin
theorem ZPf{e:D}{x:V}{k:Key}(s:Sim a G)(rd:Rep a d x)(re:Rep a e y)(h1:Rj d G=vk kvs)(h2:Py e=vk k):
  ∃p,x=.ref p/\((Gs kvs k=v4/\DGet a.H p y v4)∨∃v w,Gs kvs k=vk v/\Rep a v w/\DGet a.H p y (vk w)):=by
 obtain⟨i,us,rfl,il,rfl,hg,hh,r⟩:=s.dct rd h1;have ey:=ZIM re h2;subst ey;refine⟨a.m i,rfl,?_⟩;have g:=DGet.k (k:=k) hh;rcases r.val (k:=k)with⟨e1,e2⟩|⟨v,w,e1,e2,e3⟩
 ·exact .inl ⟨e1,by rw[e2]at g;exact g⟩
 ·exact .inr ⟨v,w,e1,e3,by rw[e2]at g;exact g⟩
theorem ZN1(hu:X.A.units+64<cLine):IxR X (lR2 X.K E M7):=(Aq (E:=E).or (ZJS hu)).mono λx y H Q h=>by
 obtain⟨a,G,d,e,hk,rfl,s,rd,re,q⟩:=h;unfold M7 at q;split at q
 ·rename_i kvs k h1 h2;obtain⟨p,rfl,⟨e1,_⟩|⟨v,w,e1,rv,g⟩⟩:=ZPf s rd re h1 h2
  ·rw[e1]at q;exact q.elim
  ·rw[e1]at q;exact .inr ⟨p,w,rfl,g,q a w (Ext.refl a) s rv⟩
 ·exact .inl ⟨a,G,d,e,hk,rfl,s,rd,re,q⟩
 ·exact q.elim
theorem Ext.wrD{us:List (Key×V)}(h:a.H p=vk (.dK us)):Ext a (a.put p ho):=
 ⟨rfl,zY _,λ_ _=>rfl,λq xs e=>by
  show upd a.H p ho q=_;rw[Ax (λz=>by subst z;rw[h]at e;cases e)];exact e,λq o u e=>by
  show upd a.H p ho q=_;rw[Ax (λz=>by subst z;rw[h]at e;cases e)];exact e,λ_ t=>t.mono (λq ps e=>by show upd a.H p ho q=_;rw[Ax (λz=>by subst z;rw[h]at e;cases e)];exact e) (λq o u e=>by show upd a.H p ho q=_;rw[Ax (λz=>by subst z;rw[h]at e;cases e)];exact e)⟩
theorem Sim.wrD(s:Sim a G)(hi:i<a.n){us us':List (Key×V)}{kvs':List (Key×D)}(h:a.H (a.m i)=vk (.dK us))(r:RepKV (a.put (a.m i) (.dK us')) kvs' us'):Sim (a.put (a.m i) (.dK us')) (G.set i (.dct kvs')):=by
 refine⟨by rw[qT];exact s.len,s.inj,λj o e=>?_,λj hj=>?_⟩
 ·rw[qj]at e;show ORep _ o (upd a.H (a.m i) (.dK us') (a.m j));by_cases hij:i=j
  ·subst hij;rw[if_pos rfl,if_pos (by rw[s.len];exact hi)]at e;cases e;rw[Dv];exact⟨us',rfl,r⟩
  ·rw[if_neg hij]at e;rw[Ax λz=>hij (s.inj _ _ (s.lt e) hi z).symm];exact(s.obj j o e).mono (Ext.wrD h)
 ·show upd a.H (a.m i) (.dK us') (a.m j)≠v4;by_cases hij:a.m j=a.m i
  ·rw[hij,Dv];simp
  ·rw[Ax hij];exact s.tr j hj
end
section
variable{S:DSt}{G:DH}{n:Nat}{kvs:List (Key×D)}
@[simp]theorem ZRV:Rj (.ref n) G=(match G[n]? with |some (.dct kvs)=>vk kvs|_=>v4):=id rfl
theorem ZJp{e:D}{k:Key}(h:G[n]?=vk (.dct kvs))(hk:Py e=vk k):M7 (.ref n) e G=(match Gs kvs k with |some v=>.ok v G|none=>.bad):=by unfold M7;simp[h,hk]
end
section
noncomputable def okD:Nat->D->Bool
 |0,_=>v6
 |_+1,.non=>v5
 |_+1,.int _=>v5
 |_+1,.str _=>v5
 |n+1,.tup ds=>ds.all (okD n)
 |n+1,.fl ds=>ds.all (okD n)
 |_+1,_=>v6
theorem Yt{f:D->D->Option Bool}{P:D->Prop}(hf:∀x y,P x->P y->∃b,f x y=vk b/\(b=v5↔x=y)):∀{xs ys:List D},(∀x∈xs,P x)->(∀y∈ys,P y)->
  ∃b,eqZ f xs ys=vk b/\(b=v5↔xs.take ys.length=ys.take xs.length)
 |[],ys,_,_=>⟨v5,by cases ys<;>rfl,by simp⟩
 |x::xs,[],_,_=>⟨v5,rfl,by simp⟩
 |x::xs,y::ys,hx,hy=>by obtain⟨b,e1,h1⟩:=hf x y (hx x (by simp)) (hy y (by simp));obtain⟨c,e2,h2⟩:=Yt hf (λz hz=>hx z (zZ _ hz)) (λz hz=>hy z (zZ _ hz));refine⟨b&&c,by simp[eqZ,e1,e2],?_⟩;simp[h1,h2]
theorem Sq{G:DH}:∀(n:Nat)(d e:D),okD n d=v5->okD n e=v5->∃b,eqD n G d e=vk b/\(b=v5↔d=e)
 |0,d,e,h,_=>by cases h
 | n+1,d,e,h1,h2=>by
  have ih:=Sq (G:=G) n;cases d with
  |bl _=>simp[okD]at h1
  |ty _=>simp[okD]at h1
  |ref _=>simp[okD]at h1
  | tup xs=>
   cases e with
   |bl _=>simp[okD]at h2
   |ty _=>simp[okD]at h2
   |ref _=>simp[okD]at h2
   |tup ys=>
    simp only[okD,qY]at h1 h2;obtain⟨b,e1,h3⟩:=Yt ih (λx hx=>h1 x hx) (λx hx=>h2 x hx);refine⟨b&&xs.length==ys.length,by simp[eqD,view,e1],?_⟩;simp only[z5,h3,beq_iff_eq,D.tup.injEq];constructor
    ·rintro⟨e,hl⟩;rw[<-hl,j5]at e;rw[e,hl,j5]
    ·rintro rfl;exact⟨rfl,rfl⟩
   |_=>exact⟨v6,by simp[eqD,view],by simp⟩
  | fl xs=>
   cases e with
   |bl _=>simp[okD]at h2
   |ty _=>simp[okD]at h2
   |ref _=>simp[okD]at h2
   |fl ys=>
    simp only[okD,qY]at h1 h2;by_cases hl:xs.length=ys.length
    ·obtain⟨b,e1,h3⟩:=Yt ih (λx hx=>h1 x hx) (λx hx=>h2 x hx);refine⟨b,by simp[eqD,view,hl,e1],?_⟩;rw[h3,<-hl,j5,hl,j5];simp
    ·exact⟨v6,by simp[eqD,view,hl],by simp;rintro rfl;exact hl rfl⟩
   |_=>exact⟨v6,by simp[eqD,view],by simp⟩
  |non=>cases e<;>first|(simp[okD]at h2;done)|exact⟨_,rfl,by simp[eqV]⟩
  |int i=>cases e<;>first|(simp[okD]at h2;done)|exact⟨_,rfl,by simp[eqV]⟩
  |str i=>cases e<;>first|(simp[okD]at h2;done)|exact⟨_,rfl,by simp[eqV]⟩
open Classical in
theorem ZOa{e:D}(h1:okD 30 d=v5)(h2:okD 30 e=v5):Bx d e G=.ok (.bl (decide (d=e))) G:=by
 obtain⟨b,e1,h⟩:=Sq (G:=G) 30 d e h1 h2;unfold Bx;rw[e1];cases b with
 |true=>simp[h.mp rfl]
 |false=>simp[show¬d=e from λz=>zx (h.mpr z)]
open Classical in
theorem ZGD{e:D}(h1:okD 30 d=v5)(h2:okD 30 e=v5):Eb d e G=.ok (.bl (!decide (d=e))) G:=by
 obtain⟨b,e1,h⟩:=Sq (G:=G) 30 d e h1 h2;unfold Eb;rw[e1];cases b with
 |true=>simp[h.mp rfl]
 |false=>simp[show¬d=e from λz=>zx (h.mpr z)]
theorem ZAm(h1:okD 30 d=v5):Bx d d G=.ok (.bl v5) G:=by rw[ZOa h1 h1];simp
theorem ZNC(h1:okD 30 d=v5):Eb d d G=.ok (.bl v6) G:=by rw[ZGD h1 h1];simp
theorem ZKW{n:Nat}(h:∀d∈ds,okD n d=v5):okD (n+1) (.fl ds)=v5:=by simpa[okD]using h
end
def cutD{α:Type}(xs:List α)(lo hi:Option Int):List α:=(xs.drop (HT.sIx xs.length 0 lo)).take (HT.sIx xs.length xs.length hi-HT.sIx xs.length 0 lo)
def Pj(z:Str)(lo hi:Option Int):Str:=⟨(cutD z.cps.toList lo hi).toArray⟩
theorem ZKc(xs:List α)(lo hi:Option Int):(cutD xs lo hi).length<=xs.length:=by unfold cutD;rw[jx,j3];lia
def Ka(t:Option DE)(S:DSt)(G:DH):R (Option Int):=match t with
 |none=>.ok v4 G
 |some t=>(t S G).bind λd G1=>match d with
  |.int i=>.ok (vk i) G1
  |_=>.bad
def Qv(d:D)(lo hi:Option Int)(G:DH):R D:=match d with
 |.str z=>if z.length<=1000000 then .ok (.str (Pj z lo hi)) G else .bad
 |.tup xs=>.ok (.tup (cutD xs lo hi)) G
 |d=>match Gr d G with
  |some xs=>.ok (.ref G.length) (G++[.lst (cutD xs lo hi)])
  |none=>.bad
def dSl(e:DE)(lo hi:Option DE):DE:=λS G=>(e S G).bind λd G1=>(Ka lo S G1).bind λl G2=>(Ka hi S G2).bind λh G3=>Qv d l h G3
theorem Wr(n:Nat)(v:Int):((HT.sIx n n (vk v):Nat):Int)=max 0 (min (if v<0 then v+(n:Int)else v) n)/\((HT.sIx n 0 (vk v):Nat):Int)=max 0 (min (if v<0 then v+(n:Int)else v) n):=by
 unfold HT.sIx;by_cases hv:v<0
 ·simp only[if_pos hv];lia
 ·simp only[if_neg hv];lia
theorem ZOL(xs:Array Nat)(i k:Nat):(zq k).filterMap (λm=>xs[i+m]?)=(xs.toList.drop i).take k:=by
 induction k generalizing i with
 |zero=>simp
 | succ k ih=>
  rw[qC,qJ];have e:(List.map Nat.succ (zq k)).filterMap (λm=>xs[i+m]?)=(zq k).filterMap (λm=>xs[i+1+m]?):=by
   rw[qP]
   congr 1
   funext m;simp only[Function.comp]
   congr 1
   lia
  rw[e,ih (i+1)];by_cases hi:i<xs.size
  ·have h1:xs[i+0]?=vk xs[i]:=by simp[hi]
   rw[h1];have h2:xs.toList.drop i=xs[i]::xs.toList.drop (i+1):=by rw[zP (by simpa using hi)];simp
   rw[h2];simp
  ·have h1:xs[i+0]?=v4:=by simp;lia
   rw[h1];simp only;rw[zR (by simp;lia),zR (by simp;lia)];simp
theorem ZKh(x:Str)(lo hi:Option Int):Txt.slice x lo hi=Pj x lo hi:=by
 have hlen:x.length=x.cps.toList.length:=by simp[Str.length]
 have key:(Builtin.Str.strSliceIndices lo hi 1 x.length).filterMap (x.cps[·]?)=cutD x.cps.toList lo hi:=by
  have e1:∀(v:Option Int),(match v with |none=>(0:Int)|some i=>max 0 (min (if i<0 then i+(x.length:Int)else i) x.length))=((HT.sIx x.length 0 v:Nat):Int):=λv=>by
   cases v with
   |none=>rfl
   |some i=>exact(Wr x.length i).2.symm
  have e2:∀(v:Option Int),(match v with |none=>(x.length:Int)|some i=>max 0 (min (if i<0 then i+(x.length:Int)else i) x.length))=((HT.sIx x.length x.length v:Nat):Int):=λv=>by
   cases v with
   |none=>rfl
   |some i=>exact(Wr x.length i).1.symm
  have e3:Builtin.Str.strSliceIndices lo hi 1 x.length=sliceRange ((HT.sIx x.length 0 lo:Nat):Int) ((HT.sIx x.length x.length hi:Nat):Int) 1:=by
   rw[<-e1 lo,<-e2 hi];unfold Builtin.Str.strSliceIndices
   cases lo<;>cases hi<;>simp
  rw[e3];unfold sliceRange cutD;rw[qP,<-hlen];generalize HT.sIx x.length 0 lo=i;generalize HT.sIx x.length x.length hi=j;have e4:((λa=>x.cps[a]?) ∘ λ(k:Nat)=>((i:Int)+1*(k:Int)).toNat)=λk=>x.cps[i+k]? :=by
   funext k;simp only[Function.comp]
   congr 1
   lia
  have e5:(if(1:Int)>0 then if(i:Int)<(j:Int)then((j:Int)-i+1-1)/1 else 0 else if(i:Int)>(j:Int)then((i:Int)-j-1-1) / -1 else 0).toNat=j-i:=by
   rw[if_pos (by lia)];split
   ·rw[Int.ediv_one];lia
   ·lia
  rw[e4,e5];exact ZOL x.cps i (j-i)
 unfold Txt.slice Pj;split
 ·rename_i h;have h':(Builtin.Str.strSliceIndices lo hi 1 x.length).length=x.length:=by simpa using h
  have hsz:(cutD x.cps.toList lo hi).length=x.cps.toList.length∨(cutD x.cps.toList lo hi).length<x.cps.toList.length:=by have:=ZKc x.cps.toList lo hi;lia
  have hall:(cutD x.cps.toList lo hi).length=x.cps.toList.length:=by
   have e3:(Builtin.Str.strSliceIndices lo hi 1 x.length).length=HT.sIx x.length x.length hi-HT.sIx x.length 0 lo:=by
    have e1:∀(v:Option Int),(match v with |none=>(0:Int)|some i=>max 0 (min (if i<0 then i+(x.length:Int)else i) x.length))=((HT.sIx x.length 0 v:Nat):Int):=λv=>by
     cases v with
     |none=>rfl
     |some i=>exact(Wr x.length i).2.symm
    have e2:∀(v:Option Int),(match v with |none=>(x.length:Int)|some i=>max 0 (min (if i<0 then i+(x.length:Int)else i) x.length))=((HT.sIx x.length x.length v:Nat):Int):=λv=>by
     cases v with
     |none=>rfl
     |some i=>exact(Wr x.length i).1.symm
    have e3:Builtin.Str.strSliceIndices lo hi 1 x.length=sliceRange ((HT.sIx x.length 0 lo:Nat):Int) ((HT.sIx x.length x.length hi:Nat):Int) 1:=by
     rw[<-e1 lo,<-e2 hi];unfold Builtin.Str.strSliceIndices
     cases lo<;>cases hi<;>simp
    rw[e3];unfold sliceRange;rw[zM,List.length_range];generalize HT.sIx x.length 0 lo=i;generalize HT.sIx x.length x.length hi=j;rw[if_pos (by lia)];split
    ·rw[Int.ediv_one];lia
    ·lia
   have hj:HT.sIx x.length x.length hi<=x.length:=HT.ZEI _ _ (zY _) hi;unfold cutD;rw[jx,j3,<-hlen];lia
  have hs:(cutD x.cps.toList lo hi).Sublist x.cps.toList:=(List.take_sublist _ _).trans (List.drop_sublist _ _);rw[hs.eq_of_length hall]
 ·rw[key]
section
variable{X:Cx}{E:XK}
theorem ZJP:SlR X (λx lo hi H Q=>∃z:Str,x=.str z/\z.length<=sizeLine/\Q (.str (Pj z lo hi)) H):=by
 intro vv s σ H x v vl vu lo hi sl Q I rx hs pl pu h;obtain⟨z,rfl,hz,q⟩:=h;obtain⟨t,rfl⟩:=rx;refine⟨"str",_,PySem.F.slot_str_getitem.lookup,typeIs_str _ _ _,?_⟩
 have fin:∀(l u:Option (Int×Tok)),vl=partValue l->vu=partValue u->l.map (·.1)=lo->u.map (·.1)=hi->xS (xL X.prog X.w) X.A (getItem (.str z t) (.ref sl)) (EP X vv σ Q) X.xe s:=by
  rintro l u rfl rfl rfl rfl
  refine wpAny_getItem_str_slice (l:=l) (u:=u) (st:=v4) (show s.heap.IsSlice sl l u v4 from hs) rfl ?_
  have e:∀Q',(Txt.slice z (l.map (·.1)) (u.map (·.1))).length<=sizeLine/\(∀t' k,Q' (.str (Txt.slice z (l.map (·.1)) (u.map (·.1))) t') {s with toks:=k})->(sliceMade z t l u v4).post Q' s:=λQ' hq=>post_val_or_str hq
  refine e _ ⟨z8 (Txt.slice_le z _ _) hz,λt' k=>?_⟩;rw[ZKh];exact⟨.str _,H,I.tok k,⟨t',rfl⟩,q⟩
 cases pl with
 |none=>cases pu with
  |none=>exact fin v4 v4 rfl rfl rfl rfl
  |int j tj=>exact fin v4 (vk (j,tj)) rfl rfl rfl rfl
 |int i ti=>cases pu with
  |none=>exact fin (vk (i,ti)) v4 rfl rfl rfl rfl
  |int j tj=>exact fin (vk (i,ti)) (vk (j,tj)) rfl rfl rfl rfl
theorem ZKB{prog:jR}{E:xQ->jT->Prop}{t sl:jL}{items:Array xQ}{vl vu:xQ}{lo hi:Option Int}{Q:xQ->jT->Prop}(ht:IsTup s.heap t items)(hs:s.heap.IsSliceOf sl vl vu .none)(pl:IsPart vl lo)(pu:IsPart vu hi)
  (hw:HT.sIx items.size 0 lo=0/\HT.sIx items.size items.size hi=items.size) (h:Q (.ref t) s):xS (xL prog w) A (getItem (.ref t) (.ref sl)) Q E s:=by
 obtain⟨os,hos,hcs,hds⟩:=id hs;have hTs:s.TypeIs (.ref sl) "slice":=⟨os,hos,hcs⟩;unfold getItem
 try with_reducible refine vX ?_
 first|refine xU (vY ?_)|skip
 refine xU (wpAny_sequenceKey ht.typeIs (by decide) ?_);refine xU (vQ (name:=Str.ofString "__getitem__") ht.typeIs PyProof.Rows.slot_tuple_getitem
  (vZ PyProof.Rows.slot_tuple_getitem ht.typeIs entry_tuple_getitem ?_ (args_tuple_getitem _ _)))
 show xS _ _ (Builtin.Tuple.tupleItemsOf (.ref t) >>=_) _ _ s;refine xU (tupleItemsOf_ ht ?_);refine xU (wpAny_typeOf hTs ?_);rw[if_pos (by decide)];refine xU (HT.ZDd hs pl pu ?_);have hyes:(((HT.sIx items.size 0 lo:Nat):Int)==0&&(1:Int)==1&&(HT.sIx items.size items.size hi-HT.sIx items.size 0 lo)==items.size)=v5:=by rw[hw.1,hw.2];simp
 show xS _ _ (if(((HT.sIx items.size 0 lo:Nat):Int)==0&&(1:Int)==1&&(HT.sIx items.size items.size hi-HT.sIx items.size 0 lo)==items.size)=v5 then _ else _) _ _ s;rw[if_pos hyes];refine xU ?_;unfold Builtin.Tuple.tupleIsExact;refine xU (wpAny_typeOf ht.typeIs (vY ?_));rw[if_pos (by decide)];exact xU (wpAny_rule (vY ⟨_,rfl,vY h⟩))
theorem ZMv:SlR X (λx lo hi H Q=>∃a xs,x=.ref a/\SqT X.K H a xs/\(HT.sIx xs.length 0 lo=0/\HT.sIx xs.length xs.length hi=xs.length)/\Q (.ref a) H):=by
 intro vv s σ H x v vl vu lo hi sl Q I rx hs pl pu h;obtain⟨a,xs,rfl,hx,hw,q⟩:=h;cases rx;obtain⟨its,r,ht,hz⟩:=I.tuple hx;have hlen:its.toArray.size=xs.length:=by rw[zX];exact r.length.symm
 exact⟨"tuple",_,PyProof.Rows.slot_tuple_getitem.lookup,ht.typeIs,ZKB ht hs pl pu (by rw[hlen];exact hw) ⟨.ref a,H,I,rfl,q⟩⟩
def O9(E:XK)(a:Wd)(r:R (Option Int))(Q:Option Int->Hp->Prop):Prop:=match r with
 |.ok k G=>∀(b:Wd),Ext a b->Sim b G->Q k b.H
 |.err x G=>XOk E a x G
 |.bad=>False
def QO(X:Cx)(E:XK)(e:Option jN)(t:Option DE):Prop:=PO X e (λσ H Q=>∃(a:Wd)(S:DSt)(G:DH),a.K=X.K/\a.H=H/\Sim a G/\RepS a S σ/\O9 E a (Ka t S G) Q)
theorem _root_._L.PO.mono{e:Option jN}{t t':TO}(h:PO X e t)(w:∀σ H Q,t' σ H Q->t σ H Q):PO X e t':=λvv s σ H Q I q=>h vv s σ H Q I (w σ H Q q)
theorem ZDk:QO X E v4 v4:=ZJx.mono λσ H Q h=>by obtain⟨a,S,G,hk,rfl,s,r,h⟩:=h;exact h a (Ext.refl a) s
theorem ZHm(he:QE X E e t):QO X E (vk e) (vk t):=(ZM6 he).mono λσ H Q h=>by
 obtain⟨a,S,G,hk,rfl,s,r,h⟩:=h;refine⟨a,S,G,hk,rfl,s,r,?_⟩
 have h':O9 E a ((t S G).bind λd G1=>match d with | .int i=>.ok (vk i) G1|_=>.bad) Q:=h
 cases ht:t S G with
 |ok d G1=>
  rw[ht]at h';intro b v x sb rv;cases d with
  |int i=>exact⟨i,rv,h' b x sb⟩
  |_=>exact h'.elim
 |err x G1=>rw[ht]at h';exact h'
 |bad=>rw[ht]at h';exact h'
theorem Reps.cutD(r:Reps a ds vs)(lo hi:Option Int):Reps a (_D.cutD ds lo hi) (J9 vs lo hi):=by unfold _D.cutD J9;rw[r.length];exact(r.drop _).take _
theorem O9.imp{r:R (Option Int)}{Q Q':Option Int->Hp->Prop}(h:O9 E a r Q)(w:∀v H,Q v H->Q' v H):O9 E a r Q':=by
 cases r with
 |ok d G=>exact λb x s=>w _ _ (h b x s)
 |err e G=>exact h
 |bad=>exact h
theorem ZDs{r:R (Option Int)}{f:Option Int->DH->R D}(h:out E a (r.bind f) Q):
  O9 E a r (λk H=>∃(b:Wd)(G:DH),b.H=H/\Ext a b/\Sim b G/\r=.ok k G/\out E b (f k G) Q):=by
 cases r with
 |ok d G=>exact λb x s=>⟨b,G,rfl,x,s,rfl,out.mono x h⟩
 |err e G=>exact h
 |bad=>exact h
theorem ZDt{lo hi:Option jN}{tl th:Option DE}{p2 pos:Pos}(he:QE X E e te)(hl:QO X E lo tl)(hu:QO X E hi th):QE X E (.Subscript e (.Slice lo hi v4 p2) pos) (dSl te tl th):=
 (ZNL (ZNd.or (ZQL.or (ZMv.or ZJP))) he hl hu).mono λσ H Q h=>by
 obtain⟨a,S,G,hk,rfl,s,r,h⟩:=h;refine⟨a,S,G,hk,rfl,s,r,(Dr h).imp ?_⟩;rintro v _ ⟨b,d,G1,rfl,x,s1,q,_,h1⟩;refine⟨b,S,G1,x.k.trans hk,rfl,s1,r.mono x,(ZDs h1).imp ?_⟩;rintro l _ ⟨c,G2,rfl,y,s2,_,h2⟩;refine⟨c,S,G2,y.k.trans (x.k.trans hk),rfl,s2,(r.mono x).mono y,(ZDs h2).imp ?_⟩;rintro u _ ⟨c3,G3,rfl,y3,s3,_,h3⟩;have hk3:=y3.k.trans (y.k.trans (x.k.trans hk));have q3:=(q.mono y).mono y3
 have lst:out E c3 (match Gr d G3 with |some xs=>.ok (.ref G3.length) (G3++[.lst (cutD xs l u)])|none=>.bad) Q->rSlL X.K v l u c3.H Q:=λh3=>by
  split at h3
  ·rename_i xs hx;obtain⟨p,vs,e1,q1,r1⟩:=Rp s3 q3 hx;exact⟨p,vs,e1,by rw[<-hk3];exact q1,λp hp=>Ja s3 (Reps.cutD r1 l u) h3 p hp⟩
  ·exact h3.elim
 cases d with
 | str z=>
  have h4:out E c3 (if z.length<=1000000 then .ok (.str (Pj z l u)) G3 else .bad) Q:=h3;split at h4
  ·rename_i hl
   cases(show v=V.str z from q3)
   exact .inr (.inr (.inr ⟨z,rfl,z8 hl size6,h4 c3 _ (Ext.refl _) s3 rfl⟩))
  ·exact h4.elim
 | tup xs=>
  have h4:out E c3 (.ok (.tup (cutD xs l u)) G3) Q:=h3;obtain⟨p,vs,e1,q1,r1⟩:=q3;by_cases hw:HT.sIx vs.length 0 l=0/\HT.sIx vs.length vs.length u=vs.length
  ·refine .inr (.inr (.inl ⟨p,vs,e1,by rw[<-hk3];exact q1,hw,h4 c3 _ (Ext.refl _) s3 ⟨p,vs,rfl,q1,?_⟩⟩));have:cutD xs l u=xs:=by unfold cutD;rw[r1.length,hw.1,hw.2,<-r1.length];simp
   rw[this];exact r1
  ·exact .inr (.inl ⟨p,vs,e1,by rw[<-hk3];exact q1,hw,λp hp=>Xl s3 (Reps.cutD r1 l u) h4 p hp⟩)
 |fl xs=>exact .inl (lst h3)
 |ref i=>exact .inl (lst h3)
 |non=>exact(show False from h3).elim
 |bl _=>exact(show False from h3).elim
 |int _=>exact(show False from h3).elim
 |ty _=>exact(show False from h3).elim
section
variable{name:Str}{id:String}{f:D->List D->DH->R D}{o e:jN}{es:List jN}{to:DE}{t:DA}{apos cpos:Pos}
end
end
section
variable{S:DSt}{G:DH}
@[simp]theorem ev_Sl{e:DE}{lo hi:Option DE}:dSl e lo hi S G=(e S G).bind λd G1=>(Ka lo S G1).bind λl G2=>(Ka hi S G2).bind λh G3=>Qv d l h G3:=id rfl
@[simp]theorem ZQ1:H8 [.fl xs] G=.ok (.ref G.length) (G++[.lst xs]):=id rfl
end
end _D
namespace _D
open PySem PySem.Spec _L
open PyProof.Rows hiding St
open Builtin.Str
section
variable(p:Nat->Bool)(m:Nat)
end
def CStep(g:DG)(c:DB)(te:DE)(S:DSt)(G:DH)(x:D)(r:Option D):Prop:=
 ∃S1,g x S G=.ok S1 G/\((c S1 G=.ok v6 G/\r=v4)∨(c S1 G=.ok v5 G/\∃d,te S1 G=.ok d G/\r=vk d))
theorem ZED{i:Nat}{g:DG}{c:DB}{te:DE}{S:DSt}{G:DH}{F:D->Option D}{xs:List D}(hG:G[i]?=vk (.lst xs))(h:∀x∈xs,CStep g c te S G x (F x)):
  ∀(n j:Nat),j+n=xs.length->Ex i g c te S n j G=.ok ((xs.drop j).filterMap F) G
 |0,j,hj=>by
  unfold Ex;rw[hG];simp only;rw[if_pos (by lia),zR (by lia)]
  rfl
 |n+1,j,hj=>by
  have hlt:j<xs.length:=by lia
  have ih:=ZED hG h n (j+1) (by lia);obtain⟨S1,h1,h2⟩:=h xs[j] (qw hlt);unfold Ex;rw[hG];simp only;rw[zJ hlt];simp only[h1,R.Hl];rw[zP hlt,qJ];rcases h2 with⟨h2,h3⟩|⟨h2,d,h3,h4⟩
  ·simp[h2,h3,ih]
  ·simp[h2,h3,h4,ih]
theorem ZGe{i:Nat}{g:DG}{c:DB}{te:DE}{S:DSt}{G:DH}{F:D->Option D}{xs:List D}(hG:G[i]?=vk (.lst xs))(h:∀x∈xs,CStep g c te S G x (F x)):
  Ex i g c te S xs.length 0 G=.ok (xs.filterMap F) G:=ZED hG h xs.length 0 (by lia)
end _D
namespace _D
open PySem PySem.Spec _L
open PyProof.Rows hiding St
variable{h h':Heap}{p z:jL}{old:xQ}{i:Nat}{os:List xQ}
inductive Src where
 |l (a:jL)
 |t (a:jL)
variable{sr:Src}{l:List (Src×jL)}
noncomputable def Src.itn:Src->String
 |.l _=>"list_iterator"
 |.t _=>"tuple_iterator"
noncomputable def Src.adr:Src->jL
 |.l a=>a
 |.t a=>a
def Src.it(h:Heap)(p:jL)(k:Nat)(sr:Src):Prop:=∃o,h.get? p=vk o/\o.cls=.type sr.itn/\o.data=.fields #[.ref sr.adr,.int k 0]
def Src.val(h:Heap)(xs:Array xQ):Src->Prop
 |.l a=>h.IsList a xs
 |.t a=>h.IsTuple a xs
theorem Src.it.at{k:Nat}(x:sr.it h p k)(e:∀o,h.get? p=vk o->h'.get? p=vk o):sr.it h' p k:=let⟨o,ho,r⟩:=x;⟨o,e o ho,r⟩
theorem Src.val.at{xs:Array xQ}(x:sr.val h xs)(e:∀o,h.get? sr.adr=vk o->h'.get? sr.adr=vk o):sr.val h' xs:=by
 cases sr with
 |l a=>obtain⟨o,ho,r⟩:=x;exact⟨o,e o ho,r⟩
 |t a=>obtain⟨o,ho,r⟩:=x;exact⟨o,e o ho,r⟩
theorem Src.it.lt{k:Nat}(x:sr.it h p k):p<h.objs.size:=let⟨_,ho,_⟩:=x;zK ho
section
variable{prog:jR}{w:xZ}{A:jM}{E:xQ->jT->Prop}{s:jT}
theorem Src.val.obj{xs:Array xQ}(x:sr.val h xs):∃o n,h.get? sr.adr=vk o/\o.data=.seq xs n:=by
 cases sr with
 |l a=>obtain⟨o,ho,_,n,hd⟩:=x;exact⟨o,n,ho,hd⟩
 |t a=>obtain⟨o,ho,_,n,hd⟩:=x;exact⟨o,n,ho,hd⟩
theorem Src.next_item{k:Nat}{xs:Array xQ}{x:xQ}{Q:xQ->jT->Prop}(hit:sr.it s.heap p k)(hv:sr.val s.heap xs)(hx:xs[k]?=vk x)
  (hQ:∀h',sr.it h' p (k+1)->qK p s.heap h'->Q x {s with heap:=h'}):xS (xL prog w) A (Builtin.SmallTypes.nextOf (.ref p)) Q E s:=by
 cases sr with
 |l a=>exact wpAny_nextOf_list_item (show s.heap.IsListIter p a k from hit) hv hx hQ
 |t a=>
  obtain⟨o,ho,hc,hd⟩:=id hit;obtain⟨ol,hol,_,nl,hdl⟩:=hv;have hT:s.TypeIs (.ref p) "tuple_iterator":=⟨o,ho,hc⟩;unfold Builtin.SmallTypes.nextOf;refine xU (vQ (name:=Str.ofString "__next__") hT PySem.F.slot_tuple_iterator_next (vZ PySem.F.slot_tuple_iterator_next hT PySem.F.entry_tuple_iterator_next ?_ (PySem.F.args_tuple_iterator_next_1 _)));refine xU (m:=field (.ref p) 0) (vJ ho hd (x:=.ref a) rfl ?_)
  show xS _ _ (if(Value.ref a==Value.none)=v5 then _ else(field (.ref p) 1 >>=_)) _ _ s
  rw[if_neg (show¬((Value.ref a==Value.none)=v5)from zx)]
  refine xU (m:=field (.ref p) 1) (vJ ho hd (x:=.int k 0) rfl (xU (m:=seqItems? (.ref a)) (wpAny_seqItems hol hdl ?_)));simp only[Int.toNat_natCast,hx];refine xU (wpAny_setField ho hd (by simp) (vY ⟨x,rfl,vY (hQ _ ⟨_,qX _ ho (Obj.isFreed_of_fields (Obj.data_mapFields hd _)),(Obj.cls_mapFields ..).trans hc,?_⟩ (qK.update ..))⟩))
  rw[Obj.data_mapFields hd];simp[xM,Src.adr]
theorem Src.next_end{k:Nat}{xs:Array xQ}{Q:xQ->jT->Prop}(hh:A.handled=v4)(hit:sr.it s.heap p k)(hv:sr.val s.heap xs)(hx:xs[k]?=v4)
  (hE:∀h' e,Heap.ExtBut p s.heap h'->(∃o,h'.get? e=vk o/\o.cls=.type "StopIteration")->E (.ref e) {s with heap:=h'}):xS (xL prog w) A (Builtin.SmallTypes.nextOf (.ref p)) Q E s:=by
 cases sr with
 |l a=>exact wpAny_nextOf_list_end hh (show s.heap.IsListIter p a k from hit) hv hx hE
 |t a=>
  obtain⟨o,ho,hc,hd⟩:=id hit;obtain⟨ol,hol,_,nl,hdl⟩:=hv;have hT:s.TypeIs (.ref p) "tuple_iterator":=⟨o,ho,hc⟩;unfold Builtin.SmallTypes.nextOf;refine xU (vQ (name:=Str.ofString "__next__") hT PySem.F.slot_tuple_iterator_next (vZ PySem.F.slot_tuple_iterator_next hT PySem.F.entry_tuple_iterator_next ?_ (PySem.F.args_tuple_iterator_next_1 _)));refine xU (m:=field (.ref p) 0) (vJ ho hd (x:=.ref a) rfl ?_)
  show xS _ _ (if(Value.ref a==Value.none)=v5 then _ else(field (.ref p) 1 >>=_)) _ _ s
  rw[if_neg (show¬((Value.ref a==Value.none)=v5)from zx)]
  refine xU (m:=field (.ref p) 1) (vJ ho hd (x:=.int k 0) rfl (xU (m:=seqItems? (.ref a)) (wpAny_seqItems hol hdl ?_)));simp only[Int.toNat_natCast,hx];refine xU (wpAny_rule (xU (wpAny_setField ho hd (by simp) (xU (m:=newExc (.type "StopIteration") []) ?_))));simp only[newExc,newTuple]
  refine xU (vW (xU (m:=firstArgMember _ _) (wpAny_of_eq (a:=Value.none) (by first|rfl|(simp only[firstArgMember];rfl)) (vW ?_ (by size_fits)))) (by size_fits))
  simp only[raiseNew];refine xU (wpAny_handled ?_)
  first|rw[show A.in1.handled=v4 from hh]|rw[hh]
  exact xU (vY (wpAny_throw (hE _ _ (((qK.update ..).extBut.push _).push _) ⟨_,zy _ rfl,rfl⟩)))
theorem Src.iter{xs:Array xQ}{Q:xQ->jT->Prop}(hv:sr.val s.heap xs)
  (hQ:Q (.ref s.heap.objs.size) {s with heap:=s.heap.push {cls:=.type sr.itn,data:=.fields #[.ref sr.adr,.int 0 0]}}):xS (xL prog w) A (pyIter (.ref sr.adr)) Q E s:=by
 cases sr with
 |l a=>exact wpAny_pyIter_list hv hQ
 |t a=>exact wpAny_pyIter_tuple hv hQ
end
abbrev En(h:Heap)(e it:jL)(f0:xQ)(i:Int)(g old:xQ):Prop:=
 h.get? e=vk {cls:=.type "enumerate",dict:=v4,data:=.fields #[f0,.bool v6,.ref it,xM i,g,old],slots:= #[]}
def Gv(i:Int)(g:xQ):Prop:=g=.none∨∃t,g=.int i t
section
variable{prog:jR}{w:xZ}{A:jM}{E:xQ->jT->Prop}{s:jT}
theorem ZMV{e it:jL}{k:Nat}{i:Int}{xs:Array xQ}{x g:xQ}{Q:xQ->jT->Prop}(he:En s.heap e it .none i g old)(hg:Gv i g)(hit:sr.it s.heap it k)(hv:sr.val s.heap xs)(hx:xs[k]?=vk x)(hne:e≠it)
  (hQ:∀h' t tk,En h' e it (xM s.heap.objs.size) (i+1) .none x->sr.it h' it (k+1)->h'.get? s.heap.objs.size=vk {cls:=.type "tuple",data:=.seq #[.int i t,x]}->h'.objs.size=s.heap.objs.size+1->
   (∀b o,b≠e->b≠it->s.heap.get? b=vk o->h'.get? b=vk o)->Q (.ref s.heap.objs.size) {s with heap:=h',toks:=tk}):
  xS (xL prog w) A (Builtin.«enumerate.__next__» ⟨[.ref e],[]⟩) (λfin s'=>∃v,fin=.done (.ret v)/\Q v s') E s:=by
 obtain⟨hp,gg,d,tk,os⟩:=s;refine xU (m:=field (.ref e) 2) (vJ he rfl (x:=.ref it) rfl (xU (m:=Builtin.SmallTypes.nextOf (.ref it)) (Src.next_item hit hv hx λh₁ hit₁ hs₁=>?_)));have he₁:En h₁ e it .none i g old:=(hs₁.2 e hne).trans he;have k₁:∀b o,b≠e->b≠it->hp.get? b=vk o->h₁.get? b=vk o:=λb o _ hb q=>hs₁.extBut b o hb q
 have z₁:h₁.objs.size=hp.objs.size:=hs₁.1;refine xU (m:=field (.ref e) 3) (vJ he₁ rfl (x:=xM i) rfl ?_);refine xU (m:=field (.ref e) 4) (vJ he₁ rfl (x:=g) rfl ?_)
 have rest:∀(t:Tok)(tk':Nat),xS (xL prog w) A (do
   setField (.ref e) 3 (xM (i+1));setField (.ref e) 4 .none
   let result<-newTuple [.int i t,x]
   if<-Builtin.SmallTypes.ownedTupleIsFree (.ref e)then
    rule "enumerate.__next__.owned-tuple-again"
    let old<-field (.ref e) 5
    setField (.ref e) 5 x
    Builtin.SmallTypes.ownedTupleHandOut (.ref e) result
    PySem.letGo [old] [result]
   ret result) (λfin s'=>∃v,fin=.done (.ret v)/\Q v s') E ⟨h₁,gg,d,tk',os⟩:=by
  intro t tk';refine xU (vq he₁ (by simp) λh₂ he₂ hs₂=>?_);refine xU (vq he₂ (by simp) λh₃ he₃ hs₃=>?_)
  replace he₃:En h₃ e it .none (i+1) .none old:=he₃
  have z₃:h₃.objs.size=hp.objs.size:=by rw[hs₃.1];show h₂.objs.size=_;rw[hs₂.1];exact z₁
  have k₃:∀b o,b≠e->b≠it->hp.get? b=vk o->h₃.get? b=vk o:=λb o h1 h2 q=>hs₃.extBut b o h1 (hs₂.extBut b o h1 (k₁ b o h1 h2 q))
  have i₃:sr.it h₃ it (k+1):=(hit₁.at λo q=>hs₂.extBut it o (Ne.symm hne) q).at λo q=>hs₃.extBut it o (Ne.symm hne) q
  refine xU (wpAny_newTuple ?_);generalize hh₄:h₃.push {cls:=.type "tuple",data:=.seq [Value.int i t,x].toArray}=h₄;have he₄:En h₄ e it .none (i+1) .none old:=by rw[<-hh₄];exact zQ _ he₃
  have ht₄:h₄.get? hp.objs.size=vk {cls:=.type "tuple",data:=.seq #[.int i t,x]}:=by rw[<-hh₄,<-z₃];exact zy _ rfl
  have z₄:h₄.objs.size=hp.objs.size+1:=by rw[<-hh₄,qV,z₃]
  have k₄:∀b o,b≠e->b≠it->hp.get? b=vk o->h₄.get? b=vk o:=λb o h1 h2 q=>by rw[<-hh₄];exact zQ _ (k₃ b o h1 h2 q)
  have i₄:sr.it h₄ it (k+1):=i₃.at λo q=>by rw[<-hh₄];exact zQ _ q
  have ez:e<hp.objs.size:=zK he;refine xU (m:=Builtin.SmallTypes.ownedTupleIsFree (.ref e)) ?_;unfold Builtin.SmallTypes.ownedTupleIsFree;refine xU (vJ he₄ rfl (x:=.none) rfl (vY ?_));simp only[if_true];refine xU (wpAny_rule (xU (vJ he₄ rfl (x:=old) rfl (xU (vq he₄ (by simp) λh₅ he₅ hs₅=>?_)))))
  replace he₅:En h₅ e it .none (i+1) .none x:=he₅
  refine xU (m:=Builtin.SmallTypes.ownedTupleHandOut _ _) ?_;unfold Builtin.SmallTypes.ownedTupleHandOut;refine xU (vq he₅ (by simp) λh₆ he₆ hs₆=>?_);refine vq he₆ (by simp) λh₇ he₇ hs₇=>?_
  refine xU (wpAny_letGo (vY ⟨_,rfl,?_⟩));have up:∀b o,b≠e->h₄.get? b=vk o->h₇.get? b=vk o:=λb o hb q=>hs₇.extBut b o hb (hs₆.extBut b o hb (hs₅.extBut b o hb q))
  show Q (.ref h₃.objs.size) _;rw[z₃];rw[z₃]at he₇;exact hQ h₇ t tk' he₇ (i₄.at λo q=>up it o (Ne.symm hne) q) (up _ _ (qL ez) ht₄) (by rw[hs₇.1];show h₆.objs.size=_;rw[hs₆.1];show h₅.objs.size=_;rw[hs₅.1];exact z₄) λb o h1 h2 q=>up b o h1 (k₄ b o h1 h2 q)
 rcases hg with rfl|⟨t,rfl⟩
 ·exact xU (m:=mkInt i) (wpAny_mkInt (rest tk (tk+1)))
 ·exact xU (m:=(pure (Value.int i t):Sem xQ)) (vY (rest t tk))
theorem ZKP{e it:jL}{k:Nat}{i:Int}{xs:Array xQ}{x g:xQ}{Q:Option xQ->jT->Prop}(he:En s.heap e it .none i g old)(hg:Gv i g)(hit:sr.it s.heap it k)(hv:sr.val s.heap xs)(hx:xs[k]?=vk x)(hne:e≠it)
  (hQ:∀h' t tk,En h' e it (xM s.heap.objs.size) (i+1) .none x->sr.it h' it (k+1)->h'.get? s.heap.objs.size=vk {cls:=.type "tuple",data:=.seq #[.int i t,x]}->h'.objs.size=s.heap.objs.size+1->
   (∀b o,b≠e->b≠it->s.heap.get? b=vk o->h'.get? b=vk o)->Q (vk (.ref s.heap.objs.size)) {s with heap:=h',toks:=tk}):
  xS (xL prog w) A (pyNext (.ref e)) Q E s:=by
 have hT:s.TypeIs (.ref e) "enumerate":=⟨_,he,rfl⟩;unfold pyNext;exact xU (wpAny_attempt (vQ (name:=Str.ofString "__next__") hT PySem.F.slot_enumerate_next
  (vZ PySem.F.slot_enumerate_next hT PySem.F.entry_enumerate_next (ZMV he hg hit hv hx hne λh' t tk a1 a2 a3 a4 a5=>vY (hQ h' t tk a1 a2 a3 a4 a5)) (PySem.F.args_enumerate_next_1 _))))
theorem ZNi{e it:jL}{k:Nat}{i:Int}{xs:Array xQ}{g:xQ}{Q:Option xQ->jT->Prop}(hh:A.handled=v4)(he:En s.heap e it .none i g old)(hit:sr.it s.heap it k)(hv:sr.val s.heap xs)(hx:xs[k]?=v4)
  (hQ:∀h',Heap.ExtBut it s.heap h'->Q v4 {s with heap:=h'}):xS (xL prog w) A (pyNext (.ref e)) Q E s:=by
 have hT:s.TypeIs (.ref e) "enumerate":=⟨_,he,rfl⟩;unfold pyNext;refine xU (wpAny_attempt (vQ (name:=Str.ofString "__next__") hT PySem.F.slot_enumerate_next
  (vZ PySem.F.slot_enumerate_next hT PySem.F.entry_enumerate_next (xU (m:=field (.ref e) 2) (vJ he rfl (x:=.ref it) rfl (xU (m:=Builtin.SmallTypes.nextOf (.ref it)) (Src.next_end hh hit hv hx λh' x he' hx'=>?_)))) (PySem.F.args_enumerate_next_1 _))))
 obtain⟨o,ho,hc⟩:=hx';exact xU (wpAny_isInstance (T:="StopIteration") (b:=v5) ⟨o,ho,hc⟩ isSubtype_stop (vY (hQ _ he')))
theorem ZL2{elts:List jN}{x1}{pos:Pos}{e it a:jL}{i:Int}{g:xQ}{Q:Unit->jT->Prop}(he:En s.heap e it (xM a) i g old)
  (hQ:∀h',En h' e it .none i g old->qK e s.heap h'->Q () {s with heap:=h'}):xS (xL prog w) A (xH (.Tuple elts x1 pos) (.ref e) (.ref a)) Q E s:=by
 unfold xH;refine xU (wpAny_load he ?_);dsimp only;rw[if_pos (by simp)];exact xU (wpAny_rule (vq he (by simp) λh' he' hs'=>hQ h' he' hs'))
theorem ZA1{e it:jL}{f0:xQ}{i:Int}{g:xQ}{Q:xQ->jT->Prop}(he:En s.heap e it f0 i g old)(h:Q (.ref e) s):xS (xL prog w) A (pyIter (.ref e)) Q E s:=by have hT:s.TypeIs (.ref e) "enumerate":=⟨_,he,rfl⟩;exact wpAny_pyIter_slot hT PySem.F.slot_enumerate_iter (vZ PySem.F.slot_enumerate_iter hT PySem.F.entry_enumerate_iter (vY ⟨_,rfl,"enumerate",_,hT,PySem.F.slot_enumerate_next.lookup,h⟩) (PySem.F.args_enumerate_iter_1 _))
end
abbrev Tp(h:Heap)(T:jL)(xs:List xQ):Prop:=h.get? T=vk {cls:=.type "tuple",data:=.seq xs.toArray}
inductive Drw (h:Heap) (i:Nat):List (Src×jL)->List xQ->Prop where
 |nil:Drw h i [] []
 |cons {sr p r x us xs} (hit:Src.it h p i sr) (hv:sr.val h xs) (hx:xs[i]?=vk x) (t:Drw h i r us):Drw h i ((sr,p)::r) (x::us)
theorem Drw.length{us:List xQ}(d:Drw h i l us):us.length=l.length:=by
 induction d with
 |nil=>rfl
 |cons _ _ _ _ ih=>simp[ih]
section
variable{prog:jR}{w:xZ}{A:jM}{E:xQ->jT->Prop}{s:jT}
theorem ZKk{T:jL}{xs:List xQ}{x:xQ}{k:Nat}{Q:Unit->jT->Prop}(hT:Tp s.heap T xs)(hz:xs.length<=1000000)
  (h:∀h',Tp h' T (xs.set k x)->qK T s.heap h'->Q () {s with heap:=h'}):xS (xL prog w) A (updateSeq T (·.setIfInBounds k x)) Q E s:=by
 have h1:xs.toArray.size<=sizeLine:=by rw[zX];exact z8 hz size6
 refine wpAny_updateSeq hT rfl (h _ ?_ (qK.update ..)) h1 (by rw[Array.size_setIfInBounds];exact Nat.le_succ_of_le h1);show(s.heap.update T _).get? T=_;rw[qX _ hT rfl];simp[Obj.mapSeq]
def ZS(prog:jR)(w:xZ)(A:jM)(E:xQ->jT->Prop)(z TO p:jL)(k:Nat)(R:jT->Prop)(s:jT):Prop:=
 xS (xL prog w) A (Builtin.SmallTypes.nextOf (.ref p)) (λx s1=>∃os,Tp s1.heap TO os/\os.length<=1000000/\∀h',Tp h' TO (os.set k x)->qK TO s1.heap h'->R {s1 with heap:=h'})
  (λe s'=>xS (xL prog w) A (setField (.ref z) 0 .none) (λ_ s''=>E e s'') E s') s
theorem ZFP{TO:jL}{k:Nat}{xs:Array xQ}{x:xQ}{Q:jT->Prop}(hTO:Tp s.heap TO os)(hz:os.length<=1000000)(hit:sr.it s.heap p i)(hv:sr.val s.heap xs)(hx:xs[i]?=vk x)
  (h:∀h',Tp h' TO (os.set k x)->sr.it h' p (i+1)->(∀b o,b≠TO->b≠p->s.heap.get? b=vk o->h'.get? b=vk o)->h'.objs.size=s.heap.objs.size->Q {s with heap:=h'}):ZS prog w A E z TO p k Q s:=by
 have hne:TO≠p:=λe=>by
  obtain⟨o,ho,hc,_⟩:=hit;rw[<-e,hTO]at ho;cases ho
  cases sr<;>(simp[Src.itn]at hc)
 refine Src.next_item hit hv hx λh₁ it₁ sb₁=>⟨os,sb₁.extBut _ _ hne hTO,hz,λh₂ t₂ sb₂=>?_⟩
 exact h h₂ t₂ (it₁.at λo e=>sb₂.extBut _ _ (Ne.symm hne) e) (λb o b1 b2 e=>sb₂.extBut b o b1 (sb₁.extBut b o b2 e)) (by rw[sb₂.1];show h₁.objs.size=_;rw[sb₁.1])
theorem ZGs{TO:jL}{body:xQ×Nat->Option Fin×PUnit->Sem (ForInStep (Option Fin×PUnit))}{R:Option Fin×PUnit->jT->Prop}
  (hb:∀(p:jL)(k:Nat)(s:jT)(R':ForInStep (Option Fin×PUnit)->jT->Prop),ZS prog w A E z TO p k (λs'=>R' (.yield (v4,⟨⟩)) s') s->
   xS (xL prog w) A (body (.ref p,k) (v4,⟨⟩)) R' E s):
  ∀(l:List (Src×jL))(us pre post:List xQ)(s:jT),Drw s.heap i l us->Tp s.heap TO (pre++post)->post.length=l.length->(pre++post).length<=1000000->(l.map (·.2)).Nodup->(∀q∈l,q.1.adr≠TO)->(∀q∈l,∀r∈l,q.1.adr≠r.2)->
   (∀h',Tp h' TO (pre++us)->(∀q∈l,q.1.it h' q.2 (i+1))->(∀b o,b≠TO->b∉l.map (·.2)->s.heap.get? b=vk o->h'.get? b=vk o)->h'.objs.size=s.heap.objs.size->R (v4,⟨⟩) {s with heap:=h'})->
   xS (xL prog w) A (forIn ((l.map λq=>Value.ref q.2).zipIdx pre.length) (v4,⟨⟩) body) R E s
 | [],us,pre,post,s,d,hT,hl,hz,nd,na,np,hR=>by
  cases d;cases post with
  |cons _ _=>simp at hl
  |nil=>
   rw[jy,List.zipIdx_nil,List.forIn_nil];exact vY (hR s.heap hT (λq hq=>by cases hq) (λb o _ _ e=>e) rfl)
 | (sr,p)::l,us,pre,post,s,d,hT,hl,hz,nd,na,np,hR=>by
  cases d with
  |@cons _ _ _ x us xs hit hv hx d=>
  cases post with
  |nil=>simp at hl
  | cons y post=>
   rw[zk,j6,jE];refine xU (hb p pre.length s _ (ZFP hT hz hit hv hx λh' hT' it' kp sz=>?_));have e1:(pre++y::post).set pre.length x=(pre++[x])++post:=by simp
   rw[e1]at hT';have e2:pre.length+1=(pre++[x]).length:=by simp
   dsimp only;rw[e2]
   have nd':p∉l.map (·.2)/\(l.map (·.2)).Nodup:=by simpa using nd
   have hTOp:∀q∈l,q.2≠TO:=λq hq e=>by
    have:∃sr k,Src.it s.heap q.2 k sr:=by
     clear hR na np nd nd' e1 e2 hl hT' hz
     induction d with
     |nil=>cases hq
     |cons hit _ _ _ ih=>
      rcases zj.mp hq with rfl|hq
      ·exact⟨_,_,hit⟩
      ·exact ih hq
    obtain⟨sr',k,o,ho,hc,_⟩:=this;rw[e,hT]at ho;cases ho
    cases sr'<;>(simp[Src.itn]at hc)
   have d':Drw h' i l us:=by
    have na':∀q∈l,q.1.adr≠TO:=λq hq=>na q (zZ _ hq)
    have np':∀q∈l,q.1.adr≠p:=λq hq=>np q (zZ _ hq) (sr,p) zW
    have pp:∀q∈l,q.2≠p:=λq hq e=>nd'.1 (zU.mpr ⟨q,hq,e⟩)
    clear hR na np nd nd' e1 e2 hl hT' hz
    induction d with
    |nil=>exact .nil
    |@cons sr1 p1 r1 x1 us1 xs1 hit1 hv1 hx1 t1 ih=>
     refine .cons (hit1.at λo e=>kp _ o (hTOp _ zW) (pp _ zW) e) (hv1.at λo e=>kp _ o (na' _ zW) (np' _ zW) e) hx1 ?_;exact ih (λq hq=>hTOp q (zZ _ hq)) (λq hq=>na' q (zZ _ hq)) (λq hq=>np' q (zZ _ hq)) (λq hq=>pp q (zZ _ hq))
   refine ZGs hb l us (pre++[x]) post {s with heap:=h'} d' hT' (by simpa using hl) (by simpa using hz) nd'.2 (λq hq=>na q (zZ _ hq)) (λq hq r hr=>np q (zZ _ hq) r (zZ _ hr)) λh'' t'' its'' kp'' sz''=>?_
   have hpTO:p≠TO:=λe=>by
    obtain⟨o,ho,hc,_⟩:=hit;rw[e,hT]at ho;cases ho
    cases sr<;>(simp[Src.itn]at hc)
   refine hR h'' (by simpa using t'') (λq hq=>?_) (λb o b1 b2 e=>?_) (sz''.trans sz)
   ·rcases zj.mp hq with rfl|hq
    ·exact it'.at λo e=>kp'' _ o hpTO nd'.1 e
    ·exact its'' q hq
   ·simp only[zk,zj,not_or]at b2;exact kp'' b o b1 b2.2 (kp b o b1 b2.1 e)
end
inductive DrwE (h:Heap) (i:Nat):List (Src×jL)->Prop where
 |here {sr p r xs} (hit:Src.it h p i sr) (hv:sr.val h xs) (hx:xs[i]?=v4):DrwE h i ((sr,p)::r)
 |there {sr p r x xs} (hit:Src.it h p i sr) (hv:sr.val h xs) (hx:xs[i]?=vk x) (t:DrwE h i r):DrwE h i ((sr,p)::r)
structure ApZ (TO:jL) (l:List (Src×jL)):Prop where
 nd:(l.map (·.2)).Nodup
 na:∀q∈l,q.1.adr≠TO
 np:∀q∈l,∀r∈l,q.1.adr≠r.2
 to:∀q∈l,q.2≠TO
theorem ApZ.tail{TO:jL}{q:Src×jL}(a:ApZ TO (q::l)):ApZ TO l:=
 ⟨(jW.mp (by simpa using a.nd)).2,λq hq=>a.na q (zZ _ hq),λq hq r hr=>a.np q (zZ _ hq) r (zZ _ hr),λq hq=>a.to q (zZ _ hq)⟩
section
variable{prog:jR}{w:xZ}{A:jM}{E:xQ->jT->Prop}{s:jT}
theorem DrwE.at{TO:jL}(a:ApZ TO ((sr,p)::l))(kp:∀b o,b≠TO->b≠p->h.get? b=vk o->h'.get? b=vk o)(d:DrwE h i l):DrwE h' i l:=by
 have pp:∀q∈l,q.2≠p:=λq hq e=>(jW.mp (by simpa using a.nd)).1 (zU.mpr ⟨q,hq,e⟩)
 have np:∀q∈l,q.1.adr≠p:=λq hq=>a.np q (zZ _ hq) (sr,p) zW
 have a':=a.tail;clear a
 induction d with
 |here hit hv hx=>exact .here (hit.at λo e=>kp _ o (a'.to _ zW) (pp _ zW) e) (hv.at λo e=>kp _ o (a'.na _ zW) (np _ zW) e) hx
 | there hit hv hx t ih=>
  exact .there (hit.at λo e=>kp _ o (a'.to _ zW) (pp _ zW) e) (hv.at λo e=>kp _ o (a'.na _ zW) (np _ zW) e) hx
   (ih (λq hq=>pp q (zZ _ hq)) (λq hq=>np q (zZ _ hq)) a'.tail)
theorem ZCY{TO:jL}{body:xQ×Nat->Option Fin×PUnit->Sem (ForInStep (Option Fin×PUnit))}{R:Option Fin×PUnit->jT->Prop}(hh:A.handled=v4)
  (hb:∀(p:jL)(k:Nat)(s:jT)(R':ForInStep (Option Fin×PUnit)->jT->Prop),ZS prog w A E z TO p k (λs'=>R' (.yield (v4,⟨⟩)) s') s->
   xS (xL prog w) A (body (.ref p,k) (v4,⟨⟩)) R' E s):
  ∀(l:List (Src×jL))(os:List xQ)(n:Nat)(s:jT),DrwE s.heap i l->Tp s.heap TO os->os.length<=1000000->ApZ TO l->
   (∀h' e,(∀b o,b≠TO->b∉l.map (·.2)->s.heap.get? b=vk o->h'.get? b=vk o)->(∃o,h'.get? e=vk o/\o.cls=.type "StopIteration")->xS (xL prog w) A (setField (.ref z) 0 .none) (λ_ s''=>E (.ref e) s'') E {s with heap:=h'})->
   xS (xL prog w) A (forIn ((l.map λq=>Value.ref q.2).zipIdx n) (v4,⟨⟩) body) R E s
 |[],os,n,s,d,hT,hz,a,hE=>by cases d
 | (sr,p)::l,os,n,s,d,hT,hz,a,hE=>by
  rw[zk,j6,jE];refine xU (hb p n s _ ?_);cases d with
  |here hit hv hx=>
   exact Src.next_end hh hit hv hx λh' e xb st=>hE h' e (λb o b1 b2 q=>xb b o (λz=>b2 (by rw[z];simp)) q) st
  |there hit hv hx t=>
   refine ZFP hT hz hit hv hx λh' hT' it' kp sz=>?_
   refine ZCY hh hb l _ (n+1) {s with heap:=h'} (t.at a kp) hT' (by simpa using hz) a.tail λh'' e kp'' st=>?_
   refine hE h'' e (λb o b1 b2 q=>?_) st;simp only[zk,zj,not_or]at b2;exact kp'' b o b1 b2.2 (kp b o b1 b2.1 q)
theorem ZGO{TI TO:jL}{R:Fin->jT->Prop}(hz:IsZip s.heap z TI TO .none)(hTI:Tp s.heap TI (l.map λq=>Value.ref q.2))(hne:l≠[])
  (h:∀h₁,IsZip h₁ z TI TO .ellipsis->qK z s.heap h₁->∀body:xQ×Nat->Option Fin×PUnit->Sem (ForInStep (Option Fin×PUnit)),
   (∀(p:jL)(k:Nat)(s:jT)(R':ForInStep (Option Fin×PUnit)->jT->Prop),ZS prog w A E z TO p k (λs'=>R' (.yield (v4,⟨⟩)) s') s->
    xS (xL prog w) A (body (.ref p,k) (v4,⟨⟩)) R' E s)->
   xS (xL prog w) A (forIn ((l.map λq=>Value.ref q.2).zipIdx 0) (v4,⟨⟩) body) (λr s'=>r.1=v4/\∃us,Tp s'.heap TO us/\us.length<=1000000/\IsZip s'.heap z TI TO .ellipsis/\
    ∀h',IsZip h' z TI TO (xM s'.heap.objs.size)->Tp h' s'.heap.objs.size us->h'.objs.size=s'.heap.objs.size+1->(∀b o,b≠z->s'.heap.get? b=vk o->h'.get? b=vk o)->R (.done (.ret (.ref s'.heap.objs.size))) {s' with heap:=h'}) E {s with heap:=h₁}):
  xS (xL prog w) A (Builtin.«zip.__next__» ⟨[.ref z],[]⟩) R E s:=by
 refine xU (m:=field (.ref z) 2) (vJ hz rfl (x:=.bool v6) rfl (xU (m:=field (.ref z) 3) (vJ hz rfl (x:=.ref TI) rfl (xU (m:=seqItems? (.ref TI)) (wpAny_seqItems hTI rfl ?_)))));dsimp only;have hemp:(l.map λq=>Value.ref q.2).toArray.isEmpty=v6:=by cases l with
  |nil=>exact absurd rfl hne
  |cons _ _=>simp
 rw[hemp];refine xU (m:=Builtin.SmallTypes.ownedTupleIsFree (.ref z)) ?_;unfold Builtin.SmallTypes.ownedTupleIsFree;refine xU (vJ hz rfl (x:=.none) rfl (vY ?_));simp only[if_true];refine xU (wpAny_rule (xU (vJ hz rfl (x:=.ref TO) rfl (xU (vq hz (by simp) λh₁ hz₁ hs₁=>?_)))));refine xU (vV (h h₁ hz₁ hs₁ _ λp k s R' hst=>?_) (λr s' hr=>?_) λ_ _ x=>x)
 ·refine xU (wpAny_onRaise ?_);show xS _ _ (Builtin.SmallTypes.nextOf (.ref p) >>=λv=>pure (vk v)) _ _ s;refine xU (vV hst (λx s1 hx=>vY ?_) λ_ _ x=>x);obtain⟨os,hT,hl,hR⟩:=hx;dsimp only;refine xU (wpAny_seqItems hT rfl ?_);dsimp only;exact xU (ZKk hT hl λh' t' sb=>xU (wpAny_letGo (vY (hR h' t' sb))))
 ·obtain⟨hn,us,hT,hl,hzz,hR⟩:=hr;rw[hn];dsimp only;refine xU (wpAny_seqItems hT rfl ?_);dsimp only;refine xU (wpAny_newTuple ?_ (by show us.toArray.toList.length<=_;simpa using z8 hl size6));have hzlt:z<s'.heap.objs.size:=zK hzz;refine xU (m:=Builtin.SmallTypes.ownedTupleHandOut _ _) ?_;unfold Builtin.SmallTypes.ownedTupleHandOut;have e1:us.toArray.toList.toArray=us.toArray:=by simp
  rw[e1];have hz2:IsZip (s'.heap.push {cls:=.type "tuple",data:=.seq us.toArray}) z TI TO .ellipsis:=zQ _ hzz;refine xU (vq hz2 (by simp) λh₇ hz₇ hs₇=>?_);refine vq hz₇ (by simp) λh₈ hz₈ hs₈=>?_
  refine vY (hR h₈ hz₈ ?_ ?_ λb o hb q=>hs₈.extBut _ _ hb (hs₇.extBut _ _ hb (zQ _ q)))
  ·exact hs₈.extBut _ _ (qL hzlt) (hs₇.extBut _ _ (qL hzlt) (zy _ rfl))
  ·rw[hs₈.1];show h₇.objs.size=_;rw[hs₇.1,qV]
theorem ZHz{TI TO:jL}{us:List xQ}{Q:Option xQ->jT->Prop}(hz:IsZip s.heap z TI TO .none)(hTI:Tp s.heap TI (l.map λq=>Value.ref q.2))(hTO:Tp s.heap TO os)(hlen:os.length=l.length)(hsz:l.length<=1000000)(hne:l≠[])
  (a:ApZ TO l) (zz:z≠TO/\(∀q∈l,q.2≠z/\q.1.adr≠z)) (d:Drw s.heap i l us)
  (hQ:∀h',IsZip h' z TI TO (xM s.heap.objs.size)->Tp h' TO us->(∀q∈l,q.1.it h' q.2 (i+1))->Tp h' s.heap.objs.size us->h'.objs.size=s.heap.objs.size+1->
   (∀b o,b≠z->b≠TO->b∉l.map (·.2)->s.heap.get? b=vk o->h'.get? b=vk o)->Q (vk (.ref s.heap.objs.size)) {s with heap:=h'}):xS (xL prog w) A (pyNext (.ref z)) Q E s:=by
 have hT:s.TypeIs (.ref z) "zip":=⟨_,hz,rfl⟩;unfold pyNext;refine xU (wpAny_attempt (vQ (name:=Str.ofString "__next__") hT PySem.F.slot_zip_next (vZ PySem.F.slot_zip_next hT PySem.F.entry_zip_next ?_ (PySem.F.args_zip_next_1 _))));refine ZGO hz hTI hne λh₁ hz₁ hs₁ body hb=>?_
 have k₁:∀b o,b≠z->s.heap.get? b=vk o->h₁.get? b=vk o:=λb o hb q=>hs₁.extBut b o hb q
 have d₁:Drw h₁ i l us:=by
  have h1:∀q∈l,q.2≠z/\q.1.adr≠z:=zz.2;clear hTI hlen hsz hne a zz hQ
  induction d with
  |nil=>exact .nil
  |cons hit hv hx t ih=>exact .cons (hit.at λo e=>k₁ _ o (h1 _ zW).1 e) (hv.at λo e=>k₁ _ o (h1 _ zW).2 e) hx (ih λq hq=>h1 q (zZ _ hq))
 refine ZGs (z:=z) (TO:=TO) (i:=i) hb l us [] os {s with heap:=h₁} d₁ (k₁ _ _ (Ne.symm zz.1) hTO) hlen (by simpa[hlen]using hsz) a.nd a.na a.np λh₂ t₂ it₂ k₂ sz₂=>⟨rfl,us,t₂,by rw[d.length];exact hsz,?_,λh₃ z₃ p₃ s₃ k₃=>?_⟩
 ·refine k₂ _ _ zz.1 (λhm=>?_) hz₁;obtain⟨q,hq,e⟩:=zU.mp hm;exact(zz.2 q hq).1 e
 ·have e2:h₂.objs.size=s.heap.objs.size:=by rw[sz₂];exact hs₁.1
  refine⟨_,rfl,vY ?_⟩;show Q (vk (.ref h₂.objs.size)) _;have z₃':IsZip h₃ z TI TO (xM h₂.objs.size):=z₃;have p₃':Tp h₃ h₂.objs.size us:=p₃;have s₃':h₃.objs.size=h₂.objs.size+1:=s₃;have k₃':∀b o,b≠z->h₂.get? b=vk o->h₃.get? b=vk o:=k₃;rw[e2]at z₃' p₃' s₃'⊢;exact hQ h₃ z₃' (k₃' _ _ (Ne.symm zz.1) t₂) (λq hq=>(it₂ q hq).at λo e=>k₃' _ o (zz.2 q hq).1 e) p₃' s₃' λb o b1 b2 b3 q=>k₃' b o b1 (k₂ b o b2 b3 (k₁ b o b1 q))
theorem ZOp{TI TO:jL}{Q:Option xQ->jT->Prop}(hh:A.handled=v4)(hz:IsZip s.heap z TI TO .none)(hTI:Tp s.heap TI (l.map λq=>Value.ref q.2))(hTO:Tp s.heap TO os)(hlen:os.length=l.length)(hsz:l.length<=1000000)(hne:l≠[])
  (a:ApZ TO l) (zz:z≠TO/\(∀q∈l,q.2≠z/\q.1.adr≠z)) (d:DrwE s.heap i l)
  (hQ:∀h',(∀b o,b≠z->b≠TO->b∉l.map (·.2)->s.heap.get? b=vk o->h'.get? b=vk o)->Q v4 {s with heap:=h'}):xS (xL prog w) A (pyNext (.ref z)) Q E s:=by
 have hT:s.TypeIs (.ref z) "zip":=⟨_,hz,rfl⟩;unfold pyNext;refine xU (wpAny_attempt (vQ (name:=Str.ofString "__next__") hT PySem.F.slot_zip_next (vZ PySem.F.slot_zip_next hT PySem.F.entry_zip_next ?_ (PySem.F.args_zip_next_1 _))));refine ZGO hz hTI hne λh₁ hz₁ hs₁ body hb=>?_
 have k₁:∀b o,b≠z->s.heap.get? b=vk o->h₁.get? b=vk o:=λb o hb q=>hs₁.extBut b o hb q
 have d₁:DrwE h₁ i l:=by
  have h1:∀q∈l,q.2≠z/\q.1.adr≠z:=zz.2;clear hTI hlen hsz hne a zz hQ
  induction d with
  |here hit hv hx=>exact .here (hit.at λo e=>k₁ _ o (h1 _ zW).1 e) (hv.at λo e=>k₁ _ o (h1 _ zW).2 e) hx
  |there hit hv hx t ih=>exact .there (hit.at λo e=>k₁ _ o (h1 _ zW).1 e) (hv.at λo e=>k₁ _ o (h1 _ zW).2 e) hx (ih λq hq=>h1 q (zZ _ hq))
 refine ZCY (A:=A.in1) (z:=z) (TO:=TO) (i:=i) (show A.in1.handled=v4 from hh) hb l os 0 {s with heap:=h₁} d₁ (k₁ _ _ (Ne.symm zz.1) hTO) (by rw[hlen];exact hsz) a λh₂ e k₂ st=>?_
 have hz₂:IsZip h₂ z TI TO .ellipsis:=by refine k₂ _ _ zz.1 (λhm=>?_) hz₁;obtain⟨q,hq,e⟩:=zU.mp hm;exact(zz.2 q hq).1 e
 obtain⟨o,ho,hc⟩:=st;have hez:e≠z:=λx=>by subst x;rw[hz₂]at ho;cases ho;simp at hc
 refine vq hz₂ (by simp) λh₃ _ hs₃=>?_
 refine xU (wpAny_isInstance (T:="StopIteration") (b:=v5) ⟨o,hs₃.extBut _ _ hez ho,hc⟩ isSubtype_stop (vY ?_));exact hQ h₃ λb o b1 b2 b3 q=>hs₃.extBut _ _ b1 (k₂ b o b2 b3 (k₁ b o b1 q))
theorem ZFK:∀(ls:List Src)(pre:Array xQ)(s:jT){Q:Array xQ->jT->Prop},(∀sr∈ls,∃xs,sr.val s.heap xs)->
  (∀h',(∀q∈ls.zipIdx s.heap.objs.size,q.1.it h' q.2 0)->h'.objs.size=s.heap.objs.size+ls.length->(∀b o,s.heap.get? b=vk o->h'.get? b=vk o)->Q (pre++((ls.zipIdx s.heap.objs.size).map λq=>Value.ref q.2).toArray) {s with heap:=h'})->
  xS (xL prog w) A (forIn (ls.map λsr=>Value.ref sr.adr) pre λx r=>do let v<-holding r.toList (pyIter x);pure (ForInStep.yield (r.push v))) Q E s
 |[],pre,s,Q,hv,h=>by rw[jy,List.forIn_nil];refine vY ?_;have:=h s.heap (λq hq=>by cases hq) rfl (λ_ _ e=>e);simpa using this
 | sr::ls,pre,s,Q,hv,h=>by
  rw[zk,jE];obtain⟨xs,hx⟩:=hv sr zW;refine xU (xU (vX (Src.iter hx (vY ?_))));dsimp only;have z1:(s.heap.push {cls:=.type sr.itn,data:=.fields #[.ref sr.adr,.int 0 0]}).objs.size=s.heap.objs.size+1:=qV ..;refine ZFK ls (pre.push (.ref s.heap.objs.size)) {s with heap:=s.heap.push {cls:=.type sr.itn,data:=.fields #[.ref sr.adr,.int 0 0]}} (λsr' hm=>?_) λh' hi hz kp=>?_
  ·obtain⟨ys,hy⟩:=hv sr' (zZ _ hm);exact⟨ys,hy.at λo e=>zQ _ e⟩
  ·dsimp only at hi hz kp⊢;rw[z1]at hi hz⊢;have:=h h' (λq hq=>?_) (by rw[hz,zO];lia) (λb o e=>kp b o (zQ _ e))
   ·rw[j6,zk]at this;simpa using this
   ·rw[j6]at hq;rcases zj.mp hq with rfl|hq
    ·exact⟨_,kp _ _ (zy _ rfl),rfl,rfl⟩
    ·exact hi q hq
theorem ZJs{ls:List Src}{Q:xQ->jT->Prop}(hv:∀sr∈ls,∃xs,sr.val s.heap xs)(hl:ls.length<=1000000)
  (hct:checkTypeCall "zip" ⟨ls.map λsr=>Value.ref sr.adr,[]⟩=pure ()) (hcn:xj "zip.__new__" ⟨.type "zip"::ls.map λsr=>Value.ref sr.adr,[]⟩=pure ()) (hok:∀obj,argsOk "object.__init__" ⟨obj::ls.map λsr=>Value.ref sr.adr,[]⟩)
  (h:∀h' n,n=s.heap.objs.size+ls.length->IsZip h' (n+2) n (n+1) .none->Tp h' n ((ls.zipIdx s.heap.objs.size).map λq=>Value.ref q.2)->Tp h' (n+1) (ls.map λ_=>Value.none)->(∀q∈ls.zipIdx s.heap.objs.size,q.1.it h' q.2 0)->
   (∀b o,s.heap.get? b=vk o->h'.get? b=vk o)->Q (.ref (n+2)) {s with heap:=h'}):
  xS (xL prog w) A (call (.type "zip") (ls.map λsr=>Value.ref sr.adr)) Q E s:=by
 have g:Meets (Builtin.«zip.__new__» ⟨.type "zip"::ls.map λsr=>Value.ref sr.adr,[]⟩) (λ_ R s=>(∀sr∈ls,∃xs,sr.val s.heap xs)/\
   ∀h' n,n=s.heap.objs.size+ls.length->IsZip h' (n+2) n (n+1) .none->Tp h' n ((ls.zipIdx s.heap.objs.size).map λq=>Value.ref q.2)->Tp h' (n+1) (ls.map λ_=>Value.none)->(∀q∈ls.zipIdx s.heap.objs.size,q.1.it h' q.2 0)->
    (∀b o,s.heap.get? b=vk o->h'.get? b=vk o)->R (.ok (.ret (.ref (n+2)))) {s with heap:=h'}):=
  .of_wp λprog w A R s hh=>by
   obtain⟨hv,hR⟩:=hh;have hsub:=sub_zip;unfold Builtin.«zip.__new__» Builtin.SmallTypes.newClass
   wp_walk
   refine ZFK ls #[] s hv λh1 hi hz kp=>vY ?_
   have e1:(#[]++((ls.zipIdx s.heap.objs.size).map λq=>Value.ref q.2).toArray:Array xQ).toList=(ls.zipIdx s.heap.objs.size).map λq=>Value.ref q.2:=by simp
   rw[e1];have hlen:((ls.zipIdx s.heap.objs.size).map λq=>Value.ref q.2).length=ls.length:=by simp
   refine xU (wpAny_newTuple ?_ (by rw[hlen];exact z8 hl size6));refine xU (wpAny_newTuple ?_ (by rw[zM,hlen];exact z8 hl size6));refine xU ?_;unfold Builtin.SmallTypes.newRecord;dsimp only;refine vW (vY ⟨_,rfl,?_⟩) (by simp[sizeOk,Builtin.SmallTypes.ownedTupleFields,xN]);generalize e2:s.heap.objs.size+ls.length=n at*
   have e3:((ls.zipIdx s.heap.objs.size).map λq=>Value.ref q.2).map (λ_=>Value.none)=ls.map λ_=>Value.none:=by refine jJ (by simp) λi h1 h2=>by simp
   dsimp only;rw[e3];generalize((ls.zipIdx s.heap.objs.size).map λq=>Value.ref q.2)=us at*;generalize(ls.map λ_=>Value.none)=ns at*;have s1:(h1.push {cls:=.type "tuple",data:=.seq us.toArray}).objs.size=n+1:=by rw[qV,hz]
   have s2:((h1.push {cls:=.type "tuple",data:=.seq us.toArray}).push {cls:=.type "tuple",data:=.seq ns.toArray}).objs.size=n+2:=by rw[qV,s1]
   show R (.ok (.ret (.ref ((h1.push {cls:=.type "tuple",data:=.seq us.toArray}).push {cls:=.type "tuple",data:=.seq ns.toArray}).objs.size))) _;rw[s2];refine hR _ n rfl ?_ (zQ _ (zQ _ (by rw[<-hz];exact zy _ rfl))) (zQ _ (by rw[<-s1];exact zy _ rfl)) (λq hq=>(hi q hq).at λo e=>zQ _ (zQ _ (zQ _ e))) λb o e=>zQ _ (zQ _ (zQ _ (kp b o e)))
   have:=zy ((h1.push {cls:=.type "tuple",data:=.seq us.toArray}).push {cls:=.type "tuple",data:=.seq ns.toArray}) (o:={cls:=.type "zip",data:=.fields #[.none,.bool v6,.bool v6,.ref h1.objs.size,.ref (h1.push {cls:=.type "tuple",data:=.seq us.toArray}).objs.size]}) rfl;rw[s2]at this;rw[hz,s1]at this;show _=_;rw[hz,s1];exact this
 refine callType_new PySem.F.called_zip (by decide) hct hcn hok PySem.F.entry_zip_new g ⟨hv,λh' n hn hz hTI hTO hi kp=>⟨⟨_,hz,rfl⟩,h h' n hn hz hTI hTO hi kp⟩⟩
end
end _D
namespace _D
open PySem PySem.W PyProof.Rows
section
def Kv(lt:Nat->Nat->Bool){α:Type}:KasT α->α
 |.ret a=>a
 |.ask i j k=>Kv lt (k (lt i j))
variable{lt:Nat->Nat->Bool}
noncomputable abbrev pt(p:Array Nat)(j:Nat):Nat:=p.getD j 0
end
end _D
namespace _D
open PySem PySem.Spec _L
open PyProof.Rows hiding St
variable{vv:List (jL×Obj)}{σ:St}{H:Hp}{s:jT}{w:xZ}{elts:List jN}{i:Nat}{a:Wd}{ta:DA}
section
variable{X:Cx}{vv:List (jL×Obj)}{σ:St}{H:Hp}{s:jT}{h':Heap}
theorem ZBX{t':Nat}{fp:List jL}(I:Inv X vv σ H s)(k:∀b o,b∉fp->s.heap.get? b=vk o->h'.get? b=vk o)(hf:∀b∈fp,FpOk X vv H b):Inv X vv σ H {s with heap:=h',toks:=t'}:=by
 have nit:∀b u,H b=vk u->b∉fp:=λb u e z=>by rw[(hf b z).1]at e;cases e
 refine I.step (g':=s.gens) (d':=s.drawn) (ch:=fp) (λb hb=>?_) (λb o _ _ hc e _=>k b o hc e) (λb o _ _ hc e _=>⟨o.slots,k b o hc e⟩) (λ_ _ _ _ n=>n)
  (λb o hc e=>⟨o,k b o hc e⟩) (λ_ _ e=>e) (λ_ _ _ e=>e) (λb ps e=>⟨#[],by rw[e];simp⟩) (λm hm=>?_) (λb u e=>?_) I.bare
 ·obtain⟨f0,f1,f2,f3,f4,f5⟩:=hf b hb;exact⟨f3,f1,f4,f5⟩
 ·obtain⟨o,es,ep,ho,r⟩:=hm;exact⟨o,es,ep,k _ o (λz=>(hf _ z).2.1 rfl) ho,r⟩
 ·refine(I.hok b u e).stay (λc v hc q=>k c v ?_ q) (λ_ q=>q) λ_ _ q=>q
  rcases hc with z|z
  ·rw[z];exact nit b u e
  ·exact nit c _ z
theorem ZCL{t':Nat}{fp:List jL}{p:jL}{xs:List V}{its:List xQ}(I:Inv X vv σ H s)(k:∀b o,b∉fp->s.heap.get? b=vk o->h'.get? b=vk o)(hf:∀b∈fp,FpOk X vv H b)(hp:s.heap.objs.size<=p)
  (hz:xs.length<=sizeLine) (r:Vals xs its) (ht:Tp h' p its):Inv X vv σ (upd H p (.tup xs)) {s with heap:=h',toks:=t'}:=by
 obtain⟨g0,g1,g2,g3,g4,g5⟩:=I.Hh (H':=H) hp (I.hok.fresh hp);exact Zt (ZBX I k hf) g0 (z8 I.sz hp) g1 g4 g5 ⟨hz,its,r,_,ht,rfl,_,rfl⟩
end
def Src.sq(K:PySem.W.Frag)(H:Hp)(xs:List V):Src->Prop
 |.l a=>SqL K H a xs
 |.t a=>SqT K H a xs
variable{sr:Src}{ls:List Src}
theorem Src.sq.val{X:Cx}{xs:List V}(I:Inv X vv σ H s)(h:sr.sq X.K H xs):∃its:List xQ,Vals xs its/\sr.val s.heap its.toArray/\xs.length<=sizeLine:=by
 cases sr with
 |l a=>obtain⟨its,r,p,hz⟩:=I.list h;exact⟨its,r,p.isList,hz⟩
 |t a=>obtain⟨its,r,p,hz⟩:=I.tuple h;exact⟨its,r,p,hz⟩
theorem Src.sq.inj{X:Cx}{xs ys:List V}(I:Inv X vv σ H s)(h:sr.sq X.K H xs)(h':sr.sq X.K H ys):xs=ys:=by
 cases sr with
 |l a=>exact I.ZBS h h'
 |t a=>exact I.Y6 h h'
def Ite(K:PySem.W.Frag)(sr:Src)(n:Int):It:=
 ⟨λi H=>∃xs x,sr.sq K H xs/\xs[i]?=vk x,λi H v H'=>∃p x,v=.ref p/\H p=v4/\H'=upd H p (.tup [.int (n+i),x])/\∀xs,sr.sq K H xs->xs[i]?=vk x,λi H=>∃xs,sr.sq K H xs/\xs.length<=i⟩
theorem ZEs{P:jR}{K:PySem.W.Frag}{x1}{pos:Pos}(sr:Src)(n:Int)(e it:jL)(hne:e≠it):
  Turn P w K (.Tuple elts x1 pos) (Ite K sr n) [e,it] e (λi h=>∃g old,En h e it .none (n+i) g old/\Gv (n+i) g/\sr.it h it i) where
 mem:=by simp
 obj:=λi h st b hb=>by
  obtain⟨g,old,he,_,o,ho,_,hd⟩:=st;rcases(show b=e∨b=it by simpa using hb)with rfl|rfl
  ·exact⟨_,he,λv z=>by cases z⟩
  ·exact⟨o,ho,λv z=>by rw[hd]at z;cases z⟩
 keep:=λi h h' st k=>by obtain⟨g,old,he,hg,hi⟩:=st;exact⟨g,old,k e (by simp) _ he,hg,hi.at λo q=>k it (by simp) o q⟩
 item:=by
  intro X hP hw hK hc i vv s σ H E I hf st hg;subst hP hw hK;obtain⟨xs,x,hq,hx⟩:=hg;obtain⟨its,rv,hv,hz⟩:=Src.sq.val I hq;obtain⟨u,hu,ru⟩:=rv.get hx;obtain⟨g,old,he,hgv,hi⟩:=st;refine ZKP he hgv hi hv (x:=u) (by simpa using hu) hne λh1 t tk e1 i1 t1 z1 k1=>⟨_,rfl,?_⟩
  refine ZL2 (s:={s with heap:=h1,toks:=tk}) e1 λh2 e2 sb=>?_
  have hpe:s.heap.objs.size≠e:=qL (zK he);have I2:Inv X vv σ (upd H s.heap.objs.size (.tup [.int (n+i),x])) {s with heap:=h2,toks:=tk}:=
   ZCL (fp:=[e,it]) (its:=[.int (n+i) t,u]) I (λb o hb q=>by
    have hb':b≠e/\b≠it:=by simpa using hb
    exact sb.extBut b o hb'.1 (k1 b o hb'.1 hb'.2 q)) hf (zY _) (by show 2<=sizeLine;decide) (.cons ⟨t,rfl⟩ (.cons ru .nil)) (sb.extBut _ _ hpe t1)
  have hfr:H s.heap.objs.size=v4:=I.hok.fresh (zY _);refine⟨.ref s.heap.objs.size,_,I2,rfl,⟨_,x,rfl,hfr,rfl,λys hy=>by rw[Src.sq.inj I hy hq];exact hx⟩,⟨.none,u,?_,.inl rfl,i1.at λo q=>sb.extBut _ _ (Ne.symm hne) q⟩,λb hb=>?_⟩
  ·have ee:n+(i:Int)+1=n+((i+1:Nat):Int):=by lia
   rw[<-ee];exact e2
  ·have hb':b=e∨b=it:=by simpa using hb
   rw[Ax (λz=>?_)]
   ·exact(hf b hb).1
   ·rcases hb' with rfl|rfl
    ·exact hpe z.symm
    ·have hlt:=Src.it.lt hi;rw[z]at hlt;exact zN _ hlt
 done:=by
  intro X hP hw hK hc i vv s σ H E I hf st hg;subst hP hw hK;obtain⟨xs,hq,hx⟩:=hg;obtain⟨its,rv,hv,hz⟩:=Src.sq.val I hq;obtain⟨g,old,he,hgv,hi⟩:=st;have hl:=rv.length;refine ZNi (I.ok.hd hc) he hi hv (by simp;lia) λh1 xb=>⟨rfl,?_⟩
  exact ZBX (t':=s.toks) (fp:=[e,it]) I (λb o hb q=>xb b o (λz=>hb (by simp[z])) q) hf
 self:=λ_ _ _ _ _ st h=>by obtain⟨g,old,he,_⟩:=st;exact ZA1 he h
section
variable{X:Cx}{E:XK}
theorem ZL5{prog:jR}{A:jM}{E:xQ->jT->Prop}{xs:Array xQ}{Q:xQ->jT->Prop}(hv:sr.val s.heap xs)
  (h:∀h',En h' (s.heap.objs.size+1) s.heap.objs.size .none 0 .none .none->sr.it h' s.heap.objs.size 0->(∀b o,s.heap.get? b=vk o->h'.get? b=vk o)->Q (.ref (s.heap.objs.size+1)) {s with heap:=h'}):
  xS (xL prog w) A (call (.type "enumerate") [.ref sr.adr]) Q E s:=by
 have g:Meets (Builtin.«enumerate.__new__» ⟨[.type "enumerate",.ref sr.adr],[]⟩) (λ_ R s=>sr.val s.heap xs/\
   R (.ok (.ret (.ref (s.heap.push {cls:=.type sr.itn,data:=.fields #[.ref sr.adr,.int 0 0]}).objs.size)))
    {s with heap:=(s.heap.push {cls:=.type sr.itn,data:=.fields #[.ref sr.adr,.int 0 0]}).push {cls:=.type "enumerate",data:=.fields #[.none,.bool v6,.ref s.heap.objs.size,xM 0,.none,.none]}}):=
  .of_wp λprog w A R s h=>by
   obtain⟨hp,g,d,tk,os⟩:=s;obtain⟨hl,h⟩:=h;have hsub:=sub_enumerate;have hL:sr.val (Shared.heap ⟨hp,g,d,tk,os⟩) xs:=hl
   wp_walk
   refine wpAny_stack_any λst=>vY ?_
   split
   ·rename_i c _ _ _ _ _
    cases(c==Value.type "enumerate")<;>(wp_walk using Src.iter hL;exact⟨_,rfl,h⟩)
   ·wp_walk using Src.iter hL
    exact⟨_,rfl,h⟩
 refine callType_new PySem.F.called_enumerate (by decide) (PySem.F.typeCall_enumerate_1 _) (PySem.F.newCall_enumerate_1 _) (λobj=>PySem.F.args_object_init_2 obj _) PySem.F.entry_enumerate_new g ⟨hv,?_⟩;have hz:(s.heap.push {cls:=.type sr.itn,data:=.fields #[.ref sr.adr,.int 0 0]}).objs.size=s.heap.objs.size+1:=qV ..;show _/\_;rw[hz];have he:En ((s.heap.push {cls:=.type sr.itn,data:=.fields #[.ref sr.adr,.int 0 0]}).push {cls:=.type "enumerate",data:=.fields #[.none,.bool v6,.ref s.heap.objs.size,xM 0,.none,.none]}) (s.heap.objs.size+1) s.heap.objs.size .none 0 .none .none:=by
  have:=zy (s.heap.push {cls:=.type sr.itn,data:=.fields #[.ref sr.adr,.int 0 0]}) (o:={cls:=.type "enumerate",data:=.fields #[.none,.bool v6,.ref s.heap.objs.size,xM 0,.none,.none]}) rfl;rw[hz]at this;exact this
 exact⟨⟨_,he,rfl⟩,h _ he ⟨_,zQ _ (zy _ rfl),rfl,rfl⟩ λb o x=>zQ _ (zQ _ x)⟩
def ZKp(K:PySem.W.Frag)(ta:TA):TI:=λσ H R=>ta σ H λvs H1=>∃sr xs,vs=[.ref (Src.adr sr)]/\sr.sq K H1 xs/\R (Ite K sr 0) H1
theorem ZJu{elts:List jN}{x1}{tp:Pos}{a:jN}{ta:TA}{p pos:Pos}(hg:Gl X "enumerate")(hm:X.mg "enumerate"=v4)(ha:PA X [a] ta)(hs:xP [a] X.env=[(v6,eval a X.env)]:=by rfl):PI X (.Tuple elts x1 tp) (.Call (.Name "enumerate" p) [a] [] pos) (ZKp X.K ta):=by
 intro vv s σ H R I h;refine Call_ (Hc I hg hm PyProof.Rows.boot_enumerate (PyProof.Rows.callWith_type1 (thn (ha pos vv s σ H _ I h) λus s1 ⟨vs,H1,I1,r1,q1⟩=>?_) hs rfl));obtain⟨sr,xs,e,hq,q⟩:=q1;subst e;cases r1 with
 |cons r rr=>
  cases rr;cases r;obtain⟨its,rv,hv,hz⟩:=Src.sq.val I1 hq;refine ZL5 hv λh' he hi kp=>?_
  refine ZA1 he ?_;have I2:Inv X vv σ H1 {s1 with heap:=h'}:=I1.kept (t':=s1.toks) kp;refine⟨s1.heap.objs.size+1,[s1.heap.objs.size+1,s1.heap.objs.size],_,_,H1,rfl,I2,ZEs sr 0 _ _ (Nat.succ_ne_self _),⟨.none,.none,by simpa using he,.inl rfl,hi⟩,λb hb=>?_,q⟩;have hb':b=s1.heap.objs.size+1∨b=s1.heap.objs.size:=by simpa using hb
  have hle:s1.heap.objs.size<=b:=by rcases hb' with rfl|rfl<;>lia
  exact I1.Hh hle (I1.hok.fresh hle)
end
inductive DrV (K:PySem.W.Frag) (H:Hp) (i:Nat):List Src->List V->Prop where
 |nil:DrV K H i [] []
 |cons {sr r v us xs} (hq:Src.sq K H xs sr) (hx:xs[i]?=vk v) (t:DrV K H i r us):DrV K H i (sr::r) (v::us)
inductive StV (K:PySem.W.Frag) (H:Hp) (i:Nat):List Src->Prop where
 |here {sr r xs} (hq:Src.sq K H xs sr) (hx:xs.length<=i):StV K H i (sr::r)
 |there {sr r v xs} (hq:Src.sq K H xs sr) (hx:xs[i]?=vk v) (t:StV K H i r):StV K H i (sr::r)
def Itz(K:PySem.W.Frag)(ls:List Src):It:=
 ⟨λi H=>∃us,DrV K H i ls us,λi H v H'=>∃p us,v=.ref p/\H p=v4/\H'=upd H p (.tup us)/\∀us',DrV K H i ls us'->us'=us,λi H=>StV K H i ls⟩
theorem DrV.length{K:PySem.W.Frag}{us:List V}(d:DrV K H i ls us):us.length=ls.length:=by
 induction d with
 |nil=>rfl
 |cons _ _ _ ih=>simp[ih]
section
variable{X:Cx}{vv:List (jL×Obj)}{σ:St}{H:Hp}{s:jT}
theorem DrV.inj(I:Inv X vv σ H s):∀{ls:List Src}{us us':List V},DrV X.K H i ls us->DrV X.K H i ls us'->us=us'
 |[],_,_,d,d'=>by cases d;cases d';rfl
 | sr::ls,_,_,d,d'=>by
  cases d with
  | cons hq hx t=>
   cases d' with
   |cons hq' hx' t'=>
    have e:=Src.sq.inj I hq hq';subst e;rw[hx]at hx';cases hx';rw[DrV.inj I t t']
theorem DrV.drw(I:Inv X vv σ H s):∀{l:List (Src×jL)}{us:List V},DrV X.K H i (l.map (·.1)) us->(∀q∈l,q.1.it s.heap q.2 i)->∃ws,Drw s.heap i l ws/\Vals us ws
 |[],us,d,h=>by cases d;exact⟨[],.nil,.nil⟩
 | (sr,p)::l,us,d,h=>by
  cases d with
  |cons hq hx t=>
   obtain⟨its,rv,hv,hz⟩:=Src.sq.val I hq;obtain⟨u,hu,ru⟩:=rv.get hx;obtain⟨ws,d',r'⟩:=DrV.drw I t λq hq=>h q (zZ _ hq)
   exact⟨u::ws,.cons (h (sr,p) zW) hv (by simpa using hu) d',.cons ru r'⟩
theorem StV.drw(I:Inv X vv σ H s):∀{l:List (Src×jL)},StV X.K H i (l.map (·.1))->(∀q∈l,q.1.it s.heap q.2 i)->DrwE s.heap i l
 |[],d,h=>by cases d
 | (sr,p)::l,d,h=>by
  cases d with
  |here hq hx=>
   obtain⟨its,rv,hv,hz⟩:=Src.sq.val I hq;have hl:=rv.length;exact .here (h (sr,p) zW) hv (by simp;lia)
  |there hq hx t=>
   obtain⟨its,rv,hv,hz⟩:=Src.sq.val I hq;obtain⟨u,hu,ru⟩:=rv.get hx;exact .there (h (sr,p) zW) hv (by simpa using hu) (StV.drw I t λq hq=>h q (zZ _ hq))
end
theorem ZPT{P:jR}{K:PySem.W.Frag}{x1}{pos:Pos}(l:List (Src×jL))(z TI TO:jL)(a:ApZ TO l)(zz:z≠TO/\(∀q∈l,q.2≠z/\q.1.adr≠z))(tt:TI≠z/\TI≠TO/\∀q∈l,q.2≠TI)(hsz:l.length<=1000000)(hne:l≠[]):
  Turn P w K (.Tuple elts x1 pos) (Itz K (l.map (·.1))) (z::TI::TO::l.map (·.2)) z
   (λi h=>IsZip h z TI TO .none/\Tp h TI (l.map λq=>Value.ref q.2)/\(∃os,Tp h TO os/\os.length=l.length)/\∀q∈l,q.1.it h q.2 i) where
 mem:=by simp
 obj:=λi h st b hb=>by
  obtain⟨hz,hTI,⟨os,hTO,_⟩,hi⟩:=st;rcases zj.mp hb with rfl|hb
  ·exact⟨_,hz,λv z=>by cases z⟩
  ·rcases zj.mp hb with rfl|hb
   ·exact⟨_,hTI,λv z=>by cases z⟩
   ·rcases zj.mp hb with rfl|hb
    ·exact⟨_,hTO,λv z=>by cases z⟩
    ·obtain⟨q,hq,rfl⟩:=zU.mp hb;obtain⟨o,ho,_,hd⟩:=hi q hq;exact⟨o,ho,λv z=>by rw[hd]at z;cases z⟩
 keep:=λi h h' st k=>by obtain⟨hz,hTI,⟨os,hTO,ho⟩,hi⟩:=st;exact⟨k z (by simp) _ hz,k TI (by simp) _ hTI,⟨os,k TO (by simp) _ hTO,ho⟩,λq hq=>(hi q hq).at λo e=>k q.2 (by simp only[zj];exact .inr (.inr (.inr (zU.mpr ⟨q,hq,rfl⟩)))) o e⟩
 item:=by
  intro X hP hw hK hc i vv s σ H E I hf st hg;subst hP hw hK;obtain⟨us,dv⟩:=hg;obtain⟨hz,hTI,⟨os,hTO,ho⟩,hi⟩:=st;obtain⟨ws,dw,rv⟩:=DrV.drw I dv hi;refine ZHz hz hTI hTO ho hsz hne a zz dw λh1 z1 t1 i1 p1 s1 k1=>⟨_,rfl,?_⟩
  refine wpAny_letOwnedTupleGo_zip (s:={s with heap:=h1}) z1 λh2 z2 sb=>?_
  have hpz:s.heap.objs.size≠z:=qL (zK hz);have hul:us.length<=sizeLine:=by rw[dv.length,zM];exact z8 hsz size6
  have I2:Inv X vv σ (upd H s.heap.objs.size (.tup us)) {s with heap:=h2}:=
   ZCL (t':=s.toks) (fp:=z::TI::TO::l.map (·.2)) (its:=ws) I (λb o hb q=>by simp only[zj,not_or]at hb;exact sb.extBut b o hb.1 (k1 b o hb.1 hb.2.2.1 hb.2.2.2 q)) hf (zY _) hul rv (sb.extBut _ _ hpz p1)
  have hfr:H s.heap.objs.size=v4:=I.hok.fresh (zY _)
  have up:∀b o,b≠z->b≠TO->b∉l.map (·.2)->s.heap.get? b=vk o->h2.get? b=vk o:=λb o b1 b2 b3 q=>sb.extBut b o b1 (k1 b o b1 b2 b3 q)
  refine⟨.ref s.heap.objs.size,_,I2,rfl,⟨_,us,rfl,hfr,rfl,λus' d'=>DrV.inj I d' dv⟩,⟨z2,up TI _ tt.1 tt.2.1 (λhm=>?_) hTI,⟨ws,sb.extBut _ _ (Ne.symm zz.1) t1,dw.length⟩,λq hq=>(i1 q hq).at λo e=>sb.extBut _ _ (zz.2 q hq).1 e⟩,λb hb=>?_⟩
  ·obtain⟨q,hq,e⟩:=zU.mp hm;exact tt.2.2 q hq e
  ·rw [Ax (λe=>?_)]
   ·exact(hf b hb).1
   ·have lt:b<s.heap.objs.size:=by
     rcases zj.mp hb with rfl|hb
     ·exact zK hz
     ·rcases zj.mp hb with rfl|hb
      ·exact zK hTI
      ·rcases zj.mp hb with rfl|hb
       ·exact zK hTO
       ·obtain⟨q,hq,rfl⟩:=zU.mp hb;exact(hi q hq).lt
    rw[e]at lt;exact zN _ lt
 done:=by
  intro X hP hw hK hc i vv s σ H E I hf st hg;subst hP hw hK;obtain⟨hz,hTI,⟨os,hTO,ho⟩,hi⟩:=st;have dw:=StV.drw I hg hi;refine ZOp (I.ok.hd hc) hz hTI hTO ho hsz hne a zz dw λh1 k1=>⟨rfl,?_⟩
  exact ZBX (t':=s.toks) (fp:=z::TI::TO::l.map (·.2)) I (λb o hb q=>by simp only[zj,not_or]at hb;exact k1 b o hb.1 hb.2.2.1 hb.2.2.2 q) hf
 self:=λ_ _ _ _ _ st h=>wpAny_pyIter_zip st.1 h
def H9 (G:DH) (j:Nat):List D->Option (Option (List D))
 |[]=>vk (vk [])
 | d::r=>match Bj d G with
  |none=>v4
  | some xs=>match xs[j]? with
   |none=>vk v4
   |some x=>match H9 G j r with
    |some (vk ys)=>vk (vk (x::ys))
    |o=>o
def Gz(ds:List D)(j:Nat)(G:DH):Option (Option D):=(H9 G j ds).map λo=>o.map D.tup
def lenOf(G:DH)(d:D):Nat:=match Bj d G with
 |some xs=>xs.length
 |none=>0
def Ko(G:DH)(d:D):Bool:=(Bj d G).isSome
def Dt(n:Int)(d:D)(j:Nat)(G:DH):Option (Option D):=match Bj d G with
 |none=>v4
 |some xs=>vk (xs[j]?.map λx=>.tup [.int (n+j),x])
def Gg(ds:List D)(G:DH):R ItD:=match ds with
 |[d]=>if Ko G d=v5 then .ok (.fn (lenOf G d) (Dt 0 d)) G else .bad
 |_=>.bad
def G9(n:Nat)(ds:List D)(G:DH):R ItD:=if ds.all (Ko G)=v5/\ds.length=n then .ok (.fn (lenOf G (ds.headD .non)) (Gz ds)) G else .bad
section
variable{X:Cx}{E:XK}
theorem ZAj{G:DH}{d:D}{v:V}{xs:List D}(s:Sim a G)(r:Rep a d v)(h:Bj d G=vk xs):
  ∃sr:Src,v=.ref sr.adr/\(∃vs,sr.sq a.K a.H vs)/\∀b:Wd,Ext a b->∀G',Sim b G'->∀ys,Bj d G'=vk ys->∃us,sr.sq b.K b.H us/\Reps b ys us:=by
 cases d with
 |tup ds=>
  obtain⟨p,vs,rfl,hq,rv⟩:=r;refine⟨.t p,rfl,⟨vs,hq⟩,λb x G' s' ys hy=>?_⟩
  cases(show vk ds=vk ys from hy)
  exact⟨vs,x.sqT hq,rv.mono x⟩
 |fl ds=>
  obtain⟨p,vs,rfl,hq,rv⟩:=r;refine⟨.l p,rfl,⟨vs,hq.sq⟩,λb x G' s' ys hy=>?_⟩
  cases(show vk ds=vk ys from hy)
  exact⟨vs,(x.fzL hq).sq,rv.mono x⟩
 | ref i=>
  obtain⟨hi,rfl⟩:=r;have hx:∃zs,G[i]?=vk (.lst zs):=by
   unfold Bj at h;dsimp only at h;split at h
   ·rename_i zs hz;exact⟨zs,hz⟩
   ·cases h
  obtain⟨zs,hz⟩:=hx;obtain⟨vs,e1,_⟩:=s.lst hz;refine⟨.l (a.m i),rfl,⟨vs,.of e1⟩,λb x G' s' ys hy=>?_⟩;unfold Bj at hy;dsimp only at hy;split at hy
  ·rename_i zs' hz';cases hy;obtain⟨us,e2,r2⟩:=s'.lst hz';rw[x.m i hi]at e2;exact⟨us,.of e2,r2⟩
  ·cases hy
 |_=>cases h
theorem ZJ7{G:DH}{d:D}{v:V}(hk:a.K=X.K)(rd:∀b:Wd,Ext a b->∀G',Sim b G'->∀ys,Bj d G'=vk ys->∃us,sr.sq b.K b.H us/\Reps b ys us)(n:Nat):RepI a (.fn n (Dt 0 d)) (Ite X.K sr 0):=by
 intro b x G' s' i;have kb:b.K=X.K:=x.k.trans hk;constructor
 ·intro e he;unfold Dt at he;split at he
  ·cases he
  ·rename_i ys hy;obtain⟨us,hq,ru⟩:=rd b x G' s' ys hy;rw[kb]at hq;cases hyi:ys[i]? with
   |none=>rw[hyi]at he;cases he
   |some y=>
    rw[hyi]at he;have he':D.tup [.int (0+i),y]=e:=by simpa using he
    subst he';obtain⟨u,hu,rx⟩:=ru.get hyi;refine⟨⟨us,u,hq,hu⟩,?_⟩;rintro w H' ⟨p,u',rfl,hp,rfl,hu'⟩;refine⟨b.put p (.tup [.int (0+i),u']),rfl,Ext.put hp,s'.put hp,p,_,rfl,.of Dv,?_⟩;have e1:=hu' us hq;rw[hu]at e1;cases e1;exact⟨_,_,rfl,rfl,Reps.cons (rx.mono (Ext.put hp)) rfl⟩
 ·intro he;unfold Dt at he;split at he
  ·cases he
  ·rename_i ys hy;obtain⟨us,hq,ru⟩:=rd b x G' s' ys hy;rw[kb]at hq;cases hyi:ys[i]? with
   |none=>exact⟨us,hq,by rw[<-ru.length];exact qF.mp hyi⟩
   |some y=>rw[hyi]at he;cases he
theorem Mq{elts:List jN}{x1}{tp:Pos}{e:jN}{p pos:Pos}(hg:Gl X "enumerate")(hm:X.mg "enumerate"=v4)(ha:QA X E [e] ta)(hs:xP [e] X.env=[(v6,eval e X.env)]:=by rfl):
  QI X E (.Tuple elts x1 tp) (.Call (.Name "enumerate" p) [e] [] pos) (Di Gg ta):=(ZJu hg hm ha hs).mono λσ H Q h=>by
 obtain⟨a,S,G,hk,rfl,s,r,h⟩:=h;refine⟨a,S,G,hk,rfl,s,r,(Pq h).imp ?_⟩;rintro vs _ ⟨b,ds,G1,rfl,x,s1,q,-,h1⟩;unfold Gg at h1;split at h1
 ·rename_i d;split at h1
  ·rename_i hok;obtain⟨v,r,e1,q1,q2⟩:=q
   cases(show r=[]from q2)
   subst e1
   obtain⟨xs,hx⟩:=qH.mp (show(Bj d G1).isSome=v5 from hok)
   obtain⟨sr,rfl,⟨us,hq⟩,rd⟩:=ZAj s1 q1 hx;have kb:b.K=X.K:=x.k.trans hk;exact⟨sr,us,rfl,by rw[<-kb];exact hq,h1 b _ (Ext.refl b) s1 (ZJ7 (G:=G1) (v:=.non) kb rd _)⟩
  ·exact h1.elim
 ·exact h1.elim
theorem ZG3{G:DH}(s:Sim a G):∀{ds:List D}{vs:List V},Reps a ds vs->ds.all (Ko G)=v5->∃ls:List Src,vs=ls.map (λsr=>V.ref sr.adr)/\(∀sr∈ls,∃us,sr.sq a.K a.H us)/\
   ∀b:Wd,Ext a b->∀G',Sim b G'->∀i,(∀ys,H9 G' i ds=vk (vk ys)->∃us,DrV b.K b.H i ls us/\Reps b ys us)/\(H9 G' i ds=vk v4->StV b.K b.H i ls)
 |[],vs,r,_=>by
  cases(show vs=[]from r)
  refine⟨[],rfl,(λ_ h=>nomatch h),λb x G' s' i=>⟨λys h=>?_,λh=>?_⟩⟩
  ·cases h;exact⟨[],.nil,rfl⟩
  ·cases h
 | d::ds,vs,r,h=>by
  rw[qy,z5]at h;obtain⟨v,vr,rfl,q1,q2⟩:=r
  obtain⟨xs,hx⟩:=qH.mp (show(Bj d G).isSome=v5 from h.1)
  obtain⟨sr,rfl,hq,rd⟩:=ZAj s q1 hx;obtain⟨ls,rfl,hqs,rds⟩:=ZG3 s q2 h.2;refine⟨sr::ls,rfl,λsr' hm=>?_,λb x G' s' i=>⟨λys hy=>?_,λhy=>?_⟩⟩
  ·rcases zj.mp hm with rfl|hm
   ·exact hq
   ·exact hqs sr' hm
  ·unfold H9 at hy;split at hy
   ·cases hy
   ·rename_i zs hz;obtain⟨us,hu,ru⟩:=rd b x G' s' zs hz;split at hy
    ·cases hy
    ·rename_i y hyi;obtain⟨u,hui,rx⟩:=ru.get hyi;split at hy
     ·rename_i ys' hys;cases hy;obtain⟨us',d',r'⟩:=(rds b x G' s' i).1 ys' hys;exact⟨u::us',.cons hu hui d',Reps.cons rx r'⟩
     ·rename_i hno;exact absurd hy (hno _)
  ·unfold H9 at hy;split at hy
   ·cases hy
   ·rename_i zs hz;obtain⟨us,hu,ru⟩:=rd b x G' s' zs hz;split at hy
    ·rename_i hyi;exact .here hu (by rw[<-ru.length];exact qF.mp hyi)
    ·rename_i y hyi;obtain⟨u,hui,rx⟩:=ru.get hyi;split at hy
     ·cases hy
     ·exact .there hu hui ((rds b x G' s' i).2 hy)
theorem ZNt{ds:List D}(hk:a.K=X.K)(rd:∀b:Wd,Ext a b->∀G',Sim b G'->∀i,(∀ys,H9 G' i ds=vk (vk ys)->∃us,DrV b.K b.H i ls us/\Reps b ys us)/\(H9 G' i ds=vk v4->StV b.K b.H i ls))(n:Nat):
  RepI a (.fn n (Gz ds)) (Itz X.K ls):=by
 intro b x G' s' i;have kb:b.K=X.K:=x.k.trans hk;constructor
 ·intro e he;unfold Gz at he;cases hz:H9 G' i ds with
  |none=>rw[hz]at he;cases he
  | some o=>
   cases o with
   |none=>rw[hz]at he;cases he
   |some ys=>
    rw[hz]at he;have he':D.tup ys=e:=by simpa using he
    subst he';obtain⟨us,d,ru⟩:=(rd b x G' s' i).1 ys hz;rw[kb]at d;refine⟨⟨us,d⟩,?_⟩;rintro w H' ⟨p,us',rfl,hp,rfl,hu'⟩;cases hu' us d;exact⟨b.put p (.tup us),rfl,Ext.put hp,s'.put hp,p,us,rfl,.of Dv,ru.mono (Ext.put hp)⟩
 ·intro he;unfold Gz at he;cases hz:H9 G' i ds with
  |none=>rw[hz]at he;cases he
  | some o=>
   cases o with
   |none=>
    have:=(rd b x G' s' i).2 hz;rw[kb]at this;exact this
   |some ys=>rw[hz]at he;cases he
def ZBG(n:Nat)(K:PySem.W.Frag)(ta:TA):TI:=λσ H R=>ta σ H λvs H1=>∃ls:List Src,vs=ls.map (λsr=>V.ref sr.adr)/\(∀sr∈ls,∃us,sr.sq K H1 us)/\ls.length=n/\R (Itz K ls) H1
theorem ZBM:∀{ls:List Src}{us:List xQ},Vals (ls.map λsr=>V.ref sr.adr) us->us=ls.map λsr=>Value.ref sr.adr
 |[],us,h=>by cases h;rfl
 | sr::ls,us,h=>by
  rw[zk]at h;cases h with
  |cons r rr=>
   cases r;rw[ZBM rr]
   rfl
theorem V8{n:Nat}{q:Src×Nat}(h:q∈ls.zipIdx n):q.1∈ls/\n<=q.2/\q.2<n+ls.length:=by obtain⟨i,hi,rfl⟩:=qD h;simp only[List.length_zipIdx]at hi;simp only[List.getElem_zipIdx];exact⟨qw hi,by lia,by lia⟩
theorem ZDc{x1}{tp:Pos}{R:It->Hp->Prop}(I:Inv X vv σ H s)(hq:∀sr∈ls,∃us,sr.sq X.K H us)(hne:ls≠[])(hl:ls.length<=1000000)
  (hct:checkTypeCall "zip" ⟨ls.map λsr=>Value.ref sr.adr,[]⟩=pure ()) (hcn:xj "zip.__new__" ⟨.type "zip"::ls.map λsr=>Value.ref sr.adr,[]⟩=pure ()) (hok:∀obj,argsOk "object.__init__" ⟨obj::ls.map λsr=>Value.ref sr.adr,[]⟩)
  (q:R (Itz X.K ls) H):xS (xL X.prog X.w) X.A (call (.type "zip") (ls.map λsr=>Value.ref sr.adr)) (λv s1=>xS (xL X.prog X.w) X.A (pyIter v) (PIE X vv σ (.Tuple elts x1 tp) R) X.xe s1) X.xe s:=by
 have hv:∀sr∈ls,∃xs,sr.val s.heap xs:=λsr hm=>by obtain⟨us,h⟩:=hq sr hm;obtain⟨its,_,h',_⟩:=Src.sq.val I h;exact⟨_,h'⟩
 have hlt:∀sr∈ls,sr.adr<s.heap.objs.size:=λsr hm=>by obtain⟨xs,h⟩:=hv sr hm;obtain⟨o,n,ho,_⟩:=h.obj;exact zK ho
 refine ZJs hv hl hct hcn hok λh' n hn hz hTI hTO hi kp=>?_
 refine wpAny_pyIter_zip hz ?_;have I2:Inv X vv σ H {s with heap:=h'}:=I.kept (t':=s.toks) kp
 have em:(ls.zipIdx s.heap.objs.size).map (·.1)=ls:=by refine jJ (by simp) λi h1 h2=>by simp
 have e2:(ls.zipIdx s.heap.objs.size).map (·.2)=jw s.heap.objs.size ls.length:=by refine jJ (by simp) λi h1 h2=>by simp[Nat.add_comm]
 have qb:∀q∈ls.zipIdx s.heap.objs.size,q.1.adr<s.heap.objs.size/\s.heap.objs.size<=q.2/\q.2<n:=λq hm=>⟨hlt _ (V8 hm).1,(V8 hm).2.1,by rw[hn];exact(V8 hm).2.2⟩
 have hsn:s.heap.objs.size<=n:=by rw[hn];exact j7 _ _
 have ap:ApZ (n+1) (ls.zipIdx s.heap.objs.size):=⟨by rw[e2];exact List.nodup_range',λq hm=>z9 (zV (qb q hm).1 (Nat.le_succ_of_le hsn)),λq hm r hr=>z9 (zV (qb q hm).1 (qb r hr).2.1),λq hm=>z9 (qA (qb q hm).2.2)⟩;have T:=ZPT (P:=X.prog) (w:=X.w) (K:=X.K) (elts:=elts) (x1:=x1) (pos:=tp) (ls.zipIdx s.heap.objs.size) (n+2) n (n+1) ap ⟨Nat.succ_ne_self (n+1),λq hm=>⟨z9 (zV (qb q hm).2.2 (j7 n 2)),z9 (zV (qb q hm).1 (z8 hsn (j7 n 2)))⟩⟩
  ⟨z9 (Nat.lt_add_of_pos_right (by decide)),z9 (zI n),λq hm=>z9 (qb q hm).2.2⟩ (by simpa using hl) (by intro e;apply hne;rw[<-em,e];rfl)
 rw [em]at T;refine⟨n+2,_,_,_,H,rfl,I2,T,⟨hz,hTI,⟨_,hTO,by simp⟩,hi⟩,λb hb=>?_,q⟩;have hle:s.heap.objs.size<=b:=by
  rcases zj.mp hb with rfl|hb
  ·exact z8 hsn (j7 n 2)
  ·rcases zj.mp hb with rfl|hb
   ·exact hsn
   ·rcases zj.mp hb with rfl|hb
    ·exact Nat.le_succ_of_le hsn
    ·obtain⟨q,hq,rfl⟩:=zU.mp hb;exact(V8 hq).2.1
 exact I.Hh hle (I.hok.fresh hle)
theorem ZMS(a b c:xQ):checkTypeCall "zip" ⟨[a,b,c],[]⟩=pure ():=by kernel_rfl
theorem ZMs(a b c:xQ):xj "zip.__new__" ⟨[.type "zip",a,b,c],[]⟩=pure ():=by kernel_rfl
theorem ZJf(a b c d:xQ):argsOk "object.__init__" ⟨[a,b,c,d],[]⟩:=by unfold argsOk;rw[signature?_of (id:="object.__init__") (n:=['_','_','t','i','n','i','_','_']) (o:=['t','c','e','j','b','o']) (by kernel_rfl) PySem.F.owner_object];kernel_rfl
theorem ZJT{elts:List jN}{x1}{tp:Pos}{a b:jN}{ta:TA}{p pos:Pos}(hg:Gl X "zip")(hm:X.mg "zip"=v4)(ha:PA X [a,b] ta)(hs:xP [a,b] X.env=[(v6,eval a X.env),(v6,eval b X.env)]:=by rfl)(hs2:xP [b] X.env=[(v6,eval b X.env)]:=by rfl):
  PI X (.Tuple elts x1 tp) (.Call (.Name "zip" p) [a,b] [] pos) (ZBG 2 X.K ta):=by
 intro vv s σ H R I h;refine Call_ (Hc I hg hm PyProof.Rows.boot_zip (PyProof.Rows.callWith_type1 (thn (ha pos vv s σ H _ I h) λus s1 ⟨vs,H1,I1,r1,q1⟩=>?_) (by rw[hs,hs2]) (by rw[hs2];rfl)));obtain⟨ls,rfl,hq,hl,q⟩:=q1;cases ZBM r1
 match ls,hl with
 |[x,y],_=>exact ZDc I1 hq (by simp) (by simp) (PySem.F.typeCall_zip_2 _ _) (PySem.F.newCall_zip_2 _ _) (λobj=>PySem.F.args_object_init_3 obj _ _) q
theorem ZOG{elts:List jN}{x1}{tp:Pos}{a b c:jN}{ta:TA}{p pos:Pos}(hg:Gl X "zip")(hm:X.mg "zip"=v4)(ha:PA X [a,b,c] ta)(hs:xP [a,b,c] X.env=[(v6,eval a X.env),(v6,eval b X.env),(v6,eval c X.env)]:=by rfl)
  (hs2:xP [b,c] X.env=[(v6,eval b X.env),(v6,eval c X.env)]:=by rfl):PI X (.Tuple elts x1 tp) (.Call (.Name "zip" p) [a,b,c] [] pos) (ZBG 3 X.K ta):=by
 intro vv s σ H R I h;refine Call_ (Hc I hg hm PyProof.Rows.boot_zip (PyProof.Rows.callWith_type1 (thn (ha pos vv s σ H _ I h) λus s1 ⟨vs,H1,I1,r1,q1⟩=>?_) (by rw[hs,hs2]) (by rw[hs2];rfl)));obtain⟨ls,rfl,hq,hl,q⟩:=q1;cases ZBM r1
 match ls,hl with
 |[x,y,z],_=>exact ZDc I1 hq (by simp) (by simp) (ZMS _ _ _) (ZMs _ _ _) (λobj=>ZJf obj _ _ _) q
theorem ZDP{K:PySem.W.Frag}{n:Nat}{Q:It->Hp->Prop}(hK:K=X.K)(h:lI K E (Di (G9 n) ta) σ H Q):ZBG n K (lA K E ta) σ H Q:=by
 subst hK;obtain⟨a,S,G,hk,rfl,s,r,h⟩:=h;refine⟨a,S,G,hk,rfl,s,r,(Pq h).imp ?_⟩;rintro vs _ ⟨b,ds,G1,rfl,x,s1,q,-,h1⟩;unfold G9 at h1;split at h1
 ·rename_i hok;obtain⟨ls,e,hq,rd⟩:=ZG3 s1 q hok.1;have kb:b.K=X.K:=x.k.trans hk;have hl:ls.length=n:=by have:=q.length;rw[e,zM]at this;lia
  exact⟨ls,e,λsr hm=>by rw[<-kb];exact hq sr hm,hl,h1 b _ (Ext.refl b) s1 (ZNt kb rd _)⟩
 ·exact h1.elim
theorem Ui{elts:List jN}{x1}{tp:Pos}{a b:jN}{p pos:Pos}(hg:Gl X "zip")(hm:X.mg "zip"=v4)(ha:QA X E [a,b] ta)(hs:xP [a,b] X.env=[(v6,eval a X.env),(v6,eval b X.env)]:=by rfl)(hs2:xP [b] X.env=[(v6,eval b X.env)]:=by rfl):
  QI X E (.Tuple elts x1 tp) (.Call (.Name "zip" p) [a,b] [] pos) (Di (G9 2) ta):=(ZJT hg hm ha hs hs2).mono λσ H Q h=>ZDP rfl h
theorem ZPb{elts:List jN}{x1}{tp:Pos}{a b c:jN}{p pos:Pos}(hg:Gl X "zip")(hm:X.mg "zip"=v4)(ha:QA X E [a,b,c] ta)(hs:xP [a,b,c] X.env=[(v6,eval a X.env),(v6,eval b X.env),(v6,eval c X.env)]:=by rfl)
  (hs2:xP [b,c] X.env=[(v6,eval b X.env),(v6,eval c X.env)]:=by rfl):QI X E (.Tuple elts x1 tp) (.Call (.Name "zip" p) [a,b,c] [] pos) (Di (G9 3) ta):=(ZOG hg hm ha hs hs2).mono λσ H Q h=>ZDP rfl h
end
def ixL:D->D->DH->R D
 | .ref p,.int k,G=>match G[p]? with
  |some (.lst xs)=>match atI xs k with
   |some v=>.ok v G
   |none=>.bad
  |_=>.bad
 |_,_,_=>.bad
def O8(to ti te:DE)(f:D->D->DH->R D):DS:=λS G=>(to S G).toS λo G1=>(ti S G1).toS λi G2=>(ixL o i G2).toS λx G3=>(te S G3).toS λy G4=>(f x y G4).toS λz G5=>(Jl o i z G5).toS λ_ G6=>.nx S G6
noncomputable def Hg:DS:=λ_ _=>.bad
section
variable{X:Cx}{E:XK}
theorem Nh{st:jU}:QS X E st Hg:=λvv s σ H W I h=>by obtain⟨a,S,G,hk,rfl,sm,r,h⟩:=h;exact h.elim
theorem Tc{o i e:jN}{op:Operator}{to ti te:DE}{f:D->D->DH->R D}{tpos pos:Pos}(ho:QE X E o to)(hi:QE X E i ti)(he:QE X E e te)(hop:OpR X (inplaceOp op) (lR2 X.K E f))
  (ha:∀ov iv new,augStore i ov iv new=(do holding [new,ov,iv] (setItem ov iv new);release [new,ov,iv] [];pure .next):=by intros;rfl):QS X E (.AugAssign (.Subscript o i tpos) op e pos) (O8 to ti te f):=by
 intro vv s σ H W I h;obtain⟨a,S,G,hk,rfl,sm,r,h⟩:=h;refine wpAny_AugAssign_SubscriptAny (thn (ho vv s σ a.H _ I ⟨a,S,G,hk,rfl,sm,r,Ge h⟩) ?_) ha;rintro ov s1 ⟨vo,H1,I1,ro,b1,o,G1,rfl,x1,m1,q1,_,h1⟩;have k1:=x1.k.trans hk;refine thn (hi vv s1 σ b1.H _ I1 ⟨b1,S,G1,k1,rfl,m1,r.mono x1,Ge h1⟩) ?_;rintro iv s2 ⟨vi,H2,I2,ri,b2,i,G2,rfl,x2,m2,q2,_,h2⟩;have k2:=x2.k.trans k1;have q1':=q1.mono x2;cases i with
 | int k=>
  cases o with
  | ref p=>
   obtain⟨hp,rfl⟩:=q1'
   cases(show vi=V.int k from q2)
   cases ro;obtain⟨t,rfl⟩:=ri;unfold ixL at h2;dsimp only at h2;split at h2
   ·rename_i xs hx';obtain⟨vs,e1,r1⟩:=m2.lst hx';split at h2
    ·rename_i d hd;obtain⟨v,ev,rd⟩:=ZGL r1 hd;have h2':Bq E b2 ((te S G2).toS λy G4=>(f d y G4).toS λz G5=>(Jl (.ref p) (.int k) z G5).toS λ_ G6=>.nx S G6) W:=h2;obtain⟨its,rv,pl,hz⟩:=I2.list (.of e1);obtain⟨j,g1,g2,g3,g4,g5⟩:=Su ev;obtain⟨w,ew,rw'⟩:=rv.get g2;have hl:=rv.length;have hn:=line63;have fin:xS (xL X.prog X.w) X.A (getItem (.ref (b2.m p)) (.int k t)) (λold s3=>old=w/\s3=s2) X.xe s2:=by
      by_cases h0:0<=k
      ·have hj:k.toNat=j:=by rw[seqIndex_of h0 g5]at g1;exact Option.some.inj g1
       exact wpAny_getItem_list pl.isList h0 (by lia) (by rw[hj];simpa using ew) ⟨rfl,rfl⟩
      ·have hj:(k+(its.toArray.size:Int)).toNat=j:=by rw[seqIndex_neg (by lia) g4]at g1;rw[zX,<-hl];exact Option.some.inj g1
       exact wpAny_getItem_list_neg pl.isList (by lia) (by rw[zX]<;>lia) (by lia) (by rw[hj];simpa using ew) ⟨rfl,rfl⟩
     refine thn fin ?_;rintro old s3 ⟨rfl,rfl⟩;refine thn (he vv s3 σ b2.H _ I2 ⟨b2,S,G2,k2,rfl,m2,(r.mono x1).mono x2,Ge h2'⟩) ?_;rintro yv s4 ⟨vy,H4,I4,ry,b4,y,G4,rfl,x4,m4,q4,_,h4⟩;have k4:=x4.k.trans k2;refine thn (hop vv s4 σ b4.H v vy old yv _ I4 rw' ry ⟨b4,G4,d,y,k4,rfl,m4,rd.mono x4,q4,Ge h4⟩) ?_;rintro new s5 ⟨vn,H5,I5,rn,b5,z,G5,rfl,x5,m5,q5,_,h5⟩;unfold Jl at h5;dsimp only at h5;split at h5
     ·rename_i ys hy;split at h5
      ·rename_i jj hjj;obtain⟨ws,e5,r5⟩:=m5.lst hy;have hp5:p<b5.n:=zV hp (z8 x4.n x5.n);have em:b5.m p=b2.m p:=(x5.m p (zV hp x4.n)).trans (x4.m p hp);obtain⟨x6,m6⟩:=Rv m5 hp5 e5 (r5.set q5 jj);refine thn (set_list vv s5 σ b5.H (.ref (b2.m p)) (.int k) vn (.ref (b2.m p)) (.int k t) new (λH'=>W.nx σ H') I5 rfl ⟨t,rfl⟩ rn ⟨b5.m p,ws,k,jj,by rw[em],rfl,e5,by rw[<-r5.length];exact hjj,?_⟩) ?_
       ·exact h5 _ σ x6 m6 (((((r.mono x1).mono x2).mono x4).mono x5).mono x6)
       ·rintro _ s6 ⟨H6,I6,q6⟩;exact⟨σ,H6,I6,q6⟩
      ·exact h5.elim
     ·exact h5.elim
    ·exact h2.elim
   ·exact h2.elim
  |_=>exact(show False from h2).elim
 |_=>cases o<;>exact(show False from h2).elim
end
def Ik(ds:List D)(G:DH):R D:=match ds with
 | [d]=>match Bj d G with
  |some xs=>match Ew xs with
   |some (n::ns)=>.ok (.int (ns.foldl min n)) G
   |_=>.bad
  |none=>.bad
 |_=>.bad
def Jr(ds:List D)(G:DH):R D:=match ds with
 | [d]=>match Bj d G with
  |some xs=>match Ew xs with
   |some (n::ns)=>.ok (.int (ns.foldl max n)) G
   |_=>.bad
  |none=>.bad
 |_=>.bad
theorem ZGb:∀(ns:List Int)(n:Int),ns.foldl min n<=n/\(∀x∈ns,ns.foldl min n<=x)/\(ns.foldl min n=n∨ns.foldl min n∈ns)
 |[],n=>⟨j8 _,λx h=>(by cases h),.inl rfl⟩
 | m::ns,n=>by
  obtain⟨h1,h2,h3⟩:=ZGb ns (min n m);rw[jY];refine⟨by lia,λx hx=>?_,?_⟩
  ·rcases zj.mp hx with rfl|hx
   ·lia
   ·exact h2 x hx
  ·rcases h3 with h|h
   ·by_cases e:n<=m
    ·exact .inl (by rw[h];lia)
    ·exact .inr (by rw[h];rw[show min n m=m by lia];exact zW)
   ·exact .inr (zZ _ h)
theorem ZHZ:∀(ns:List Int)(n:Int),n<=ns.foldl max n/\(∀x∈ns,x<=ns.foldl max n)/\(ns.foldl max n=n∨ns.foldl max n∈ns)
 |[],n=>⟨j8 _,λx h=>(by cases h),.inl rfl⟩
 | m::ns,n=>by
  obtain⟨h1,h2,h3⟩:=ZHZ ns (max n m);rw[jY];refine⟨by lia,λx hx=>?_,?_⟩
  ·rcases zj.mp hx with rfl|hx
   ·lia
   ·exact h2 x hx
  ·rcases h3 with h|h
   ·by_cases e:m<=n
    ·exact .inl (by rw[h];lia)
    ·exact .inr (by rw[h];rw[show max n m=m by lia];exact zW)
   ·exact .inr (zZ _ h)
section
variable{X:Cx}{E:XK}
theorem intAt{ns:List Int}{its:List xQ}{w:xQ}(hv:Vals (ns.map V.int) its)(hw:its.toArray[i]?=vk w):i<ns.length/\∃t,w=.int (ns.getD i 0) t:=by
 have hw':its[i]?=vk w:=by simpa using hw
 have hl:i<(ns.map V.int).length:=by rw[hv.length];exact(zD.mp hw').1
 have hl':i<ns.length:=by simpa using hl
 obtain⟨u,hu,ru⟩:=hv.get (i:=i) (x:=V.int ns[i]) (by simp[hl']);rw[hw']at hu;cases hu;obtain⟨t,rfl⟩:=ru;exact⟨hl',t,by simp[hl']⟩
theorem ZGQ(hc:X.calm=v5):CallR X (.builtin "min") (lRn X.K E Ik):=by
 intro vv s σ H vs us Q I rs h;obtain⟨a,G,ds,hk,rfl,sm,r,q⟩:=h;unfold Ik at q;split at q
 ·rename_i d;obtain⟨v,rfl,rv⟩:=reps1 r;split at q
  ·rename_i xs hs;split at q
   ·rename_i n ns hn;cases Vp hn;obtain⟨p,ws,rfl,h1,r1⟩:=Io sm rv hs;cases ZAw r1;rw[hk]at h1;obtain⟨u,rfl,ru⟩:=vals1 rs;cases ru;refine call_min_walk (X8 I hc h1 λit fp wr its St s₂ hv W st hfp fin=>⟨it,fp,wr,its.toArray.size,_,St,_,rfl,W,st,hfp,?_,CmpOf.ints_lt (λi=>(n::ns).getD i 0) (λi w hw=>(intAt hv hw).2),λw h' tk hw kk=>?_⟩)
    ·rw[zX,<-hv.length];simp
    ·obtain⟨hl,t,rfl⟩:=intAt hv hw;obtain⟨b1,b2⟩:=argBest_lt (λi=>(n::ns).getD i 0) (its.toArray.size-1);refine⟨.int (ns.foldl min n),a.H,fin h' tk kk,⟨t,?_⟩,q a _ (Ext.refl a) sm rfl⟩;have hsz:its.toArray.size=ns.length+1:=by rw[zX,<-hv.length];simp
     obtain⟨m1,m2,m3⟩:=ZGb ns n;have hle:∀x∈n::ns,ns.foldl min n<=x:=λx hx=>by
      rcases zj.mp hx with rfl|hx
      ·exact m1
      ·exact m2 x hx
     have hin:ns.foldl min n∈n::ns:=by
      rcases m3 with h|h
      ·rw[h];exact zW
      ·exact zZ _ h
     obtain⟨j,hj,ej⟩:=qD hin;have c1:=b2 j (by simp at hj;lia);have c2:=hle _ (qw hl);have e1:(n::ns).getD j 0=ns.foldl min n:=by rw[zE,zJ hj];exact ej
     have e2:(n::ns).getD (argBest (λi j=>decide ((λi=>(n::ns).getD i 0) i<(λi=>(n::ns).getD i 0) j)) (its.toArray.size-1)) 0=(n::ns)[argBest (λi j=>decide ((λi=>(n::ns).getD i 0) i<(λi=>(n::ns).getD i 0) j)) (its.toArray.size-1)]:=by rw[zE,zJ hl];rfl
     have c1':=c1;rw[e1]at c1';rw[<-e2]at c2
     congr 1
     exact Int.le_antisymm c1' c2
   ·exact q.elim
  ·exact q.elim
 ·exact q.elim
theorem ZH1(hc:X.calm=v5):CallR X (.builtin "max") (lRn X.K E Jr):=by
 intro vv s σ H vs us Q I rs h;obtain⟨a,G,ds,hk,rfl,sm,r,q⟩:=h;unfold Jr at q;split at q
 ·rename_i d;obtain⟨v,rfl,rv⟩:=reps1 r;split at q
  ·rename_i xs hs;split at q
   ·rename_i n ns hn;cases Vp hn;obtain⟨p,ws,rfl,h1,r1⟩:=Io sm rv hs;cases ZAw r1;rw[hk]at h1;obtain⟨u,rfl,ru⟩:=vals1 rs;cases ru;refine call_max_walk (X8 I hc h1 λit fp wr its St s₂ hv W st hfp fin=>⟨it,fp,wr,its.toArray.size,_,St,_,rfl,W,st,hfp,?_,CmpOf.ints_gt (λi=>(n::ns).getD i 0) (λi w hw=>(intAt hv hw).2),λw h' tk hw kk=>?_⟩)
    ·rw[zX,<-hv.length];simp
    ·obtain⟨hl,t,rfl⟩:=intAt hv hw;obtain⟨b1,b2⟩:=argBest_gt (λi=>(n::ns).getD i 0) (its.toArray.size-1);refine⟨.int (ns.foldl max n),a.H,fin h' tk kk,⟨t,?_⟩,q a _ (Ext.refl a) sm rfl⟩;have hsz:its.toArray.size=ns.length+1:=by rw[zX,<-hv.length];simp
     obtain⟨m1,m2,m3⟩:=ZHZ ns n;have hle:∀x∈n::ns,x<=ns.foldl max n:=λx hx=>by
      rcases zj.mp hx with rfl|hx
      ·exact m1
      ·exact m2 x hx
     have hin:ns.foldl max n∈n::ns:=by
      rcases m3 with h|h
      ·rw[h];exact zW
      ·exact zZ _ h
     obtain⟨j,hj,ej⟩:=qD hin;have c1:=b2 j (by simp at hj;lia);have c2:=hle _ (qw hl);have e1:(n::ns).getD j 0=ns.foldl max n:=by rw[zE,zJ hj];exact ej
     have e2:(n::ns).getD (argBest (λi j=>decide ((λi=>(n::ns).getD i 0) i>(λi=>(n::ns).getD i 0) j)) (its.toArray.size-1)) 0=(n::ns)[argBest (λi j=>decide ((λi=>(n::ns).getD i 0) i>(λi=>(n::ns).getD i 0) j)) (its.toArray.size-1)]:=by rw[zE,zJ hl];rfl
     have c1':=c1;rw[e1]at c1';rw[<-e2]at c2
     congr 1
     exact Int.le_antisymm c2 c1'
   ·exact q.elim
  ·exact q.elim
 ·exact q.elim
def Jf:D->D->DH->R D
 |.ref p,.int k,G=>match G[p]? with
  |some (.lst xs)=>if -(2^63)<=k/\k<2^63/\xs.length*k.toNat<=1000000 then .ok (.ref G.length) (G++[.lst (zw k.toNat xs).flatten])else .bad
  |_=>.bad
 |_,_,_=>.bad
theorem Reps.rep{ds:List D}{vs:List V}(r:Reps a ds vs):∀k,Reps a (zw k ds).flatten (zw k vs).flatten
 |0=>rfl
 |k+1=>by rw[zT,zT,q9,q9];exact r.append (Reps.rep r k)
theorem ZFR:OpR X (xY .Mult) (lR2 X.K E Jf):=ZLn.mono λx y H Q h=>by
 obtain⟨a,G,d,e,hk,rfl,s,rd,re,q⟩:=h;cases d with
 | ref p=>
  cases e with
  | int k=>
   unfold Jf at q;dsimp only at q;split at q
   ·rename_i xs hx;split at q
    ·rename_i hc;obtain⟨vs,e1,r1⟩:=s.lst hx;obtain⟨hp,rfl⟩:=rd;refine⟨a.m p,k,vs,rfl,re,e1,hc.1,hc.2.1,?_,λp hp=>Ja s (Reps.rep r1 k.toNat) q p hp⟩;rw[<-r1.length];exact z8 hc.2.2 size6
    ·exact q.elim
   ·exact q.elim
  |_=>exact(show False from q).elim
 |_=>exact(show False from q).elim
end
end _D
namespace _D
open PySem PySem.W PyProof.Rows
def Safe(n:Nat){α:Type}(P:α->Prop):KasT α->Prop
 |.ret a=>P a
 |.ask i j k=>i<n/\j<n/\∀b,Safe n P (k b)
theorem Safe.bind{n:Nat}{α β:Type}{f:α->KasT β}{P:α->Prop}{Q:β->Prop}(h2:∀a,P a->Safe n Q (f a)):∀{t:KasT α},Safe n P t->Safe n Q (t.bind f)
 |.ret a,h=>h2 a h
 |.ask _ _ _,h=>⟨h.1,h.2.1,λb=>Safe.bind h2 (h.2.2 b)⟩
def Ents(n:Nat)(p:Array Nat):Prop:=0<n/\p.Perm (zq n).toArray
theorem Ents.lt{n:Nat}{p:Array Nat}(h:Ents n p){x:Nat}(hx:x∈p):x<n:=by have:=h.2.mem_iff.mp hx;simpa using this
theorem Ents.pt{n:Nat}{p:Array Nat}(h:Ents n p)(k:Nat):p.getD k 0<n:=by
 by_cases hk:k<p.size
 ·have:p.getD k 0=p[k]:=by simp[Array.getD,hk]
  rw[this];exact h.lt (Array.getElem_mem hk)
 ·have:p.getD k 0=0:=by simp[Array.getD,hk]
  rw[this];exact h.1
theorem Ents.perm{n:Nat}{p q:Array Nat}(h:Ents n p)(e:q.Perm p):Ents n q:=⟨h.1,e.trans h.2⟩
theorem ZB4{n:Nat}{p:Array Nat}(h:Ents n p):∀f m,Safe n (λ_=>True) (kas_asc p f m)
 |0,m=>trivial
 | f+1,m=>⟨h.pt _,h.pt _,λb=>by
   cases b with
   |true=>exact trivial
   |false=>exact ZB4 h f (m+1)⟩
theorem Wt{n:Nat}:∀f{p:Array Nat}m q,Ents n p->Safe n (λr=>Ents n r.1) (kas_desc f p m q)
 |0,p,m,q,h=>h
 | f+1,p,m,q,h=>⟨h.pt _,h.pt _,λb=>by
   cases b with
   |true=>
    by_cases hq:q>0
    ·simp only[if_true,if_pos hq];exact Wt f _ _ (h.perm (mirror_perm ..))
    ·simp only[if_true,if_neg hq];exact Wt f _ _ h
   |false=>
    refine⟨h.pt _,h.pt _,λd=>?_⟩;cases d with
    |true=>exact h
    |false=>exact Wt f _ _ h⟩
theorem ZCi{n:Nat}{p:Array Nat}(h:Ents n p)(m k:Nat):Safe n (λr=>Ents n r.2) (kas_tail3 m k p):=by unfold kas_tail3;refine Safe.bind (P:=λ_=>True) (λa _=>?_) (ZB4 (h.perm (mirror_perm ..)) _ _);exact h.perm (mirror_perm ..)
theorem ZGC{n:Nat}{p:Array Nat}(h:Ents n p)(m k:Nat):Safe n (λr=>Ents n r.2) (kas_descPart m k p):=
 Safe.bind (P:=λr=>Ents n r.1) (λa ha=>by
  split
  ·exact ZCi (ha.perm (mirror_perm ..)) _ _
  ·exact ZCi ha _ _) (Wt _ _ _ h)
theorem ZOJ{n:Nat}{p:Array Nat}(h:Ents n p)(k:Nat):Safe n (λr=>Ents n r.2) (kas_count k p):=
 Safe.bind (P:=λ_=>True) (λa _=>by
  split
  ·exact h
  ·split
   ·refine⟨h.pt _,h.pt _,λc=>?_⟩;cases c with
    |true=>exact h
    |false=>exact ZGC (h.perm (mirror_perm ..)) _ _
   ·exact ZGC h _ _) (ZB4 h _ _)
theorem ZB5{n:Nat}{p:Array Nat}(h:Ents n p)(k:Nat):∀f l r,Safe n (λ_=>True) (kas_place p k f l r)
 |0,l,r=>trivial
 | f+1,l,r=>by
  unfold kas_place;split
  ·trivial
  ·refine⟨h.pt _,h.pt _,λc=>?_⟩;cases c with
   |true=>exact ZB5 h k f _ _
   |false=>exact ZB5 h k f _ _
end _D
namespace _D
open PySem PySem.Spec _L
open PyProof.Rows hiding St
variable{a:Wd}{d:D}{v:V}{xs ys:List D}{G:DH}{vs:List V}{te:DE}{g:DG}{us:List (Str×V)}{F:List D->DH->R D}{CX:CXT}{fd:jO}{ps:List Str}{e:jN}{ta:DA}{T:String}
def ltL:List D->List D->Option Bool
 |[],[]=>vk v6
 |[],_::_=>vk v5
 |_::_,[]=>vk v6
 |.int a::r,.int b::r'=>if a=b then ltL r r' else vk (decide (a<b))
 |.str a::r,.str b::r'=>if a=b then ltL r r' else vk (decide (a.cps.toList<b.cps.toList))
 |_::_,_::_=>v4
def ltD:D->D->Option Bool
 |.tup xs,.tup ys=>ltL xs ys
 |_,_=>v4
def ltI(xs:List D)(i j:Nat):Bool:=(ltD (xs.getD i .non) (xs.getD j .non)).getD v6
noncomputable def isIt:D->Bool
 |.tup (.int _::_)=>v5
 |_=>v6
noncomputable def Vc:D->Bool
 |.tup (.str _::_)=>v5
 |_=>v6
def Wm(xs:List D):Bool:=(xs.all isIt||xs.all Vc)&&xs.all λx=>xs.all λy=>(ltD x y).isSome
def N8(xs:List D):List D:=if xs.length<2 then xs else(Kv (ltI xs) (PySem.W.kas_sort xs.length)).toList.map λi=>xs.getD i .non
def Z8(ds:List D)(G:DH):R D:=match ds with
 |[d]=>match Gr d G with
  |some xs=>if(xs.length<64/\(N8 xs).length<64)/\Wm xs=v5 then .ok (.ref G.length) (G++[.lst (N8 xs)])else .bad
  |none=>.bad
 |_=>.bad
theorem ZGj{n:Nat}{cmp:Nat->Nat->(Bool->jT->Prop)->jT->Prop}{lt:Nat->Nat->Bool}{s:jT}(h:∀i j,i<n->j<n->∀C:Bool->jT->Prop,C (lt i j) s->cmp i j C s){α:Type}{P:α->Prop}{Q:α->jT->Prop}:
  ∀{t:PySem.W.KasT α},Safe n P t->Q (Kv lt t) s->t.kasWp cmp Q s
 |.ret _,_,hq=>hq
 |.ask i j k,hs,hq=>h i j hs.1 hs.2.1 _ (ZGj h (hs.2.2 (lt i j)) hq)
section
variable{prog:jR}{w:xZ}{A:jM}{s:jT}
theorem ZNR{c:Bool}{a b:Int}{t u:Tok}{Q:Bool->jT->Prop}{E:xQ->jT->Prop}(h:Q (decide (a<b)) s):xS (xL prog w) A (oneLt' c (.int a t) (.int b u)) Q E s:=by
 cases c with
 |true=>exact oneLt_int h
 |false=>exact PySem.W.kat_one _ _ (lt_int (Q:=PySem.W.BoolBack Q) h)
theorem ZLN{c:Bool}{a b:Str}{t u:Tok}{Q:Bool->jT->Prop}{E:xQ->jT->Prop}(h:Q (decide (a.cps.toList<b.cps.toList)) s):xS (xL prog w) A (oneLt' c (.str a t) (.str b u)) Q E s:=by
 cases c with
 |true=>exact oneLt_str h
 |false=>exact PySem.W.kat_one _ _ (lt_str (Q:=PySem.W.BoolBack Q) h)
theorem Xe{Q:Bool->jT->Prop}{fin:Bool}:∀{xs ys:List D}{vs ws:List V}{us zs:List xQ}{i:Nat}{k:Bool},Reps a xs vs->Reps a ys ws->Vals vs us->Vals ws zs->ltL xs ys=vk k->fin=decide (us.length<zs.length)->Q k s->
  PySem.W.KatLex prog w A v5 fin Q (us.zip zs) i s
 |[],[],vs,ws,us,zs,i,k,r1,r2,v1,v2,h,hf,hq=>by
  cases(show vs=[]from r1);cases(show ws=[]from r2);cases v1;cases v2
  cases h;subst hf;exact PySem.W.kat_nil hq
 |[],y::ys,vs,ws,us,zs,i,k,r1,r2,v1,v2,h,hf,hq=>by
  cases(show vs=[]from r1);cases v1
  obtain⟨w1,wr,rfl,_,_⟩:=r2;cases v2;cases h;subst hf;exact PySem.W.kat_nil (by simpa using hq)
 |x::xs,[],vs,ws,us,zs,i,k,r1,r2,v1,v2,h,hf,hq=>by
  cases(show ws=[]from r2);cases v2
  obtain⟨w1,wr,rfl,_,_⟩:=r1;cases v1;have hk:k=v6:=by cases x<;>(simp[ltL]at h;exact h)
  subst hk;subst hf;exact PySem.W.kat_nil (by simpa using hq)
 | x::xs,y::ys,vs,ws,us,zs,i,k,r1,r2,v1,v2,h,hf,hq=>by
  have hcase:(∃m n,x=.int m/\y=.int n)∨(∃m n,x=.str m/\y=.str n):=by
   cases x<;>cases y<;>first
    |exact .inl ⟨_,_,rfl,rfl⟩
    |exact .inr ⟨_,_,rfl,rfl⟩
    |(exfalso;simp[ltL]at h)
  obtain⟨v0,vr,rfl,e1,r1⟩:=r1;obtain⟨w0,wr,rfl,e2,r2⟩:=r2;rcases hcase with⟨m,n,rfl,rfl⟩|⟨m,n,rfl,rfl⟩
  ·cases(show v0=V.int m from e1)
   cases(show w0=V.int n from e2)
   cases v1 with
   | cons q1 v1=>
    cases v2 with
    | cons q2 v2=>
     obtain⟨t,rfl⟩:=q1;obtain⟨u,rfl⟩:=q2;rw[List.zip_cons_cons];refine PySem.W.kat_cons (wpAny_eqBool_int (PySem.W.kat_go (λhe=>?_) λhe=>?_))
     ·have e:m=n:=by simpa using he
      rw[show ltL (.int m::xs) (.int n::ys)=if m=n then ltL xs ys else vk (decide (m<n))from rfl,if_pos e]at h
      exact PySem.W.kat_yes (Xe r1 r2 v1 v2 h (by simpa using hf) hq)
     ·have e:m≠n:=by simpa using he
      rw[show ltL (.int m::xs) (.int n::ys)=if m=n then ltL xs ys else vk (decide (m<n))from rfl,if_neg e]at h
      cases h;exact PySem.W.kat_no (ZNR hq)
  ·cases(show v0=V.str m from e1)
   cases(show w0=V.str n from e2)
   cases v1 with
   | cons q1 v1=>
    cases v2 with
    | cons q2 v2=>
     obtain⟨t,rfl⟩:=q1;obtain⟨u,rfl⟩:=q2;rw[List.zip_cons_cons];refine PySem.W.kat_cons (wpAny_eqBool_str (PySem.W.kat_go (λhe=>?_) λhe=>?_))
     ·have e:m=n:=by simpa using he
      rw[show ltL (.str m::xs) (.str n::ys)=if m=n then ltL xs ys else vk (decide (m.cps.toList<n.cps.toList))from rfl,if_pos e]at h
      exact PySem.W.kat_yes (Xe r1 r2 v1 v2 h (by simpa using hf) hq)
     ·have e:m≠n:=by simpa using he
      rw[show ltL (.str m::xs) (.str n::ys)=if m=n then ltL xs ys else vk (decide (m.cps.toList<n.cps.toList))from rfl,if_neg e]at h
      cases h;exact PySem.W.kat_no (ZLN hq)
end
section
variable{X:Cx}{E:XK}{vv:List (jL×Obj)}{σ:St}{s:jT}{H:Hp}{h':Heap}
theorem ZHT{t':Nat}(I:Inv X vv σ H s)(k:∀b o,b≠X.env.locals->s.heap.get? b=vk o->h'.get? b=vk o)(ns:∀m,s.heap.Ns X.env.locals m->h'.Ns X.env.locals m):Inv X vv σ H {s with heap:=h',toks:=t'}:=by
 refine I.step (g':=s.gens) (d':=s.drawn) (ch:=[]) (λ_ z=>nomatch z) (λb o hL _ _ e _=>k b o hL e) (λb o hL _ _ e _=>⟨o.slots,k b o hL e⟩) (λ_ _ _ _ n=>n) (λb o _ e=>?_) (λ_ _ e=>e) (λ_ _ _ e=>e)
  (λb ps e=>⟨#[],by rw[e];simp⟩) ns (λb u e=>?_) I.bare
 ·by_cases hb:b=X.env.locals
  ·obtain⟨m,hn,_⟩:=I.loc;obtain⟨o',_,_,ho',_⟩:=ns m hn;exact⟨o',by rw[hb];exact ho'⟩
  ·exact⟨o,k b o hb e⟩
 ·have nL:∀c w,H c=vk w->c≠X.env.locals:=λc w e z=>by rw[z,I.free]at e;cases e
  refine(I.hok b u e).stay (λc v hc q=>k c v ?_ q) (λ_ q=>q) λ_ _ q=>q
  rcases hc with z|z
  ·rw[z];exact nL b u e
  ·exact nL c _ z
end
section
variable{prog:jR}{w:xZ}{A:jM}{E:xQ->jT->Prop}{s:jT}
theorem ZKa{l:jL}{vs:List xQ}{Q:xQ->jT->Prop}(hl:s.heap.IsList l vs.toArray)(hz:vs.length<64)
  (h:∀h1,h1.get? (s.heap.objs.size+1)=vk (seqObj "list" vs.toArray 0)->(∀b o,s.heap.get? b=vk o->h1.get? b=vk o)->
   xS (xL prog w) A.in1.in1 (Builtin.«list.sort» ⟨[.ref (s.heap.objs.size+1)],[]⟩) (λfin s'=>fin=.done (.ret .none)/\Q (.ref (s.heap.objs.size+1)) s') E {s with heap:=h1}):
  xS (xL prog w) A (call (.builtin "sorted") [.ref l]) Q E s:=by
 have h64:vs.length<=sizeLine:=by rw[xN];lia
 refine Calls.call_function_entry kind_sorted plain_sorted entry_sorted (args_sorted1 _) ?_;unfold Builtin.«sorted»;refine xU (m:=checkCount "sorted" 1 1 _) (vY (xU (collect_list hl (xU (wpAny_newList ?_ h64)) h64)))
 generalize hh:(s.heap.push (seqObj "list" #[] 0)).update s.heap.objs.size (Obj.mapSeq (·++vs.toArray))=h0
 have e0:h0.objs.size=s.heap.objs.size+1:=by rw[<-hh,Heap.size_update,size_push']
 have k0:∀b o,s.heap.get? b=vk o->h0.get? b=vk o:=λb o q=>by have hlt:b<s.heap.objs.size:=zK q;rw[<-hh,Heap.get?_update_ne _ _ _ _ (z9 hlt),Heap.get?_push_ne _ _ _ (z9 hlt)];exact q
 have hD:(h0.push (seqObj "list" vs.toArray 0)).get? (s.heap.objs.size+1)=vk (seqObj "list" vs.toArray 0):=by rw[<-e0];exact zy _ rfl
 have hq:=h (h0.push (seqObj "list" vs.toArray 0)) hD λb o q=>zQ _ (k0 b o q)
 show xS _ _ _ _ _ {s with heap:=h0.push (seqObj "list" vs.toArray 0)};rw[e0];refine xU (vX (vZ slot_list_sort ⟨_,hD,rfl⟩ entry_list_sort ?_ (args_list_sort _)));refine vV hq (λfin s' hf=>?_) λ_ _ x=>x
 exact⟨_,hf.1,vY ⟨_,rfl,hf.2⟩⟩
theorem ZNq{a:jL}{vs:List xQ}{n:Nat}{P:Fin->jT->Prop}(ho:s.heap.get? a=vk (seqObj "list" vs.toArray n))(h2:vs.length<2)
  (h:∀h' c,h'.get? a=vk (seqObj "list" vs.toArray c)->(∀b o,b≠a->s.heap.get? b=vk o->h'.get? b=vk o)->P (.done (.ret .none)) {s with heap:=h'}):xS (xL prog w) A (Builtin.«list.sort» ⟨[.ref a],[]⟩) P E s:=by
 have ha:a<s.heap.objs.size:=zK ho;have s1:=qK.update s.heap a (Obj.mapSeq λ_=>(#[]:Array xQ));obtain⟨e1,ho1⟩:∃e1,(s.heap.update a (Obj.mapSeq λ_=>(#[]:Array xQ))).get? a=vk (seqObj "list" #[] e1):=⟨_,get?_update_seq ho λ_=> #[]⟩;rw[list_sort_plain];refine xU (listItems_at ho rfl (xU (listUpdate_at ho rfl ?_ (by rw[zX,xN];lia) (jv _))))
 refine xU (seqEpoch_at ho1 rfl (xU (wpAny_newTuple (xU (wpAny_newList (vX ?_) (jv _))) (by show vs.length<=_;rw[xN];lia))));dsimp only;have hn2:vs.toArray.size<2:=by rw[zX];lia
 rw[if_pos hn2,if_pos hn2];refine xU (vY (xU (wpAny_of_eq (a:=((),SortSt.mk' general' (vs.toArray.zip vs.toArray) #[] 7 v4)) rfl ?_)));dsimp only
 have hout:(arrOf (SortSt.mk' general' (vs.toArray.zip vs.toArray) #[] 7 v4)).map (·.2)=vs.toArray:=by
  show(vs.toArray.zip vs.toArray).map (·.2)=vs.toArray
  refine Array.ext (by simp) λi h1 h2=>by simp
 rw[hout];generalize hh:((s.heap.update a (Obj.mapSeq λ_=>(#[]:Array xQ))).push {cls:=.type "tuple",data:=.seq vs.toArray.toList.toArray}).push {cls:=.type "list",data:=.seq ([]:List xQ).toArray}=h3;have ho3:h3.get? a=vk (seqObj "list" #[] e1):=by rw[<-hh];exact zQ _ (zQ _ ho1)
 have k3:∀b o,b≠a->s.heap.get? b=vk o->h3.get? b=vk o:=λb o hb q=>by rw[<-hh];exact zQ _ (zQ _ (s1.extBut b o hb q))
 refine xU (seqEpoch_at (o:=seqObj "list" #[] e1) ?_ rfl ?_)
 ·exact ho3
 have s2:=qK.update h3 a (Obj.mapSeq λ_=>vs.toArray);obtain⟨c2,hc2⟩:∃c2,(h3.update a (Obj.mapSeq λ_=>vs.toArray)).get? a=vk (seqObj "list" vs.toArray c2):=⟨_,get?_update_seq ho3 λ_=>vs.toArray⟩;refine xU (listUpdate_at ho3 rfl ?_ (jv _) (by show vs.toArray.size<=_;rw[zX,xN];lia));simp only[bne_self_eq_false,jV,if_false];exact vY (h _ c2 hc2 λb o hb q=>s2.extBut b o hb (k3 b o hb q))
end
theorem ZKI:xq "sorted"=vk (.builtin "sorted"):=by decide +kernel
section
variable{X:Cx}{E:XK}{vv:List (jL×Obj)}{σ:St}{s:jT}{H:Hp}
theorem Vg(I:Inv X vv σ a.H s)(hk:a.K=X.K){u:xQ}(r:Rep a d v)(ru:RelV v u)(h:d=.tup xs):∃p o vs us n,u=.ref p/\s.heap.get? p=vk o/\o.cls=.type "tuple"/\o.data=.seq us n/\Vals vs us.toList/\Reps a xs vs:=by subst h;obtain⟨p,vs,rfl,hq,rv⟩:=r;cases ru;rw[hk]at hq;obtain⟨its,rr,⟨o,ho,hc,n,hd⟩,hz⟩:=I.tuple hq;exact⟨p,o,vs,its.toArray,n,rfl,ho,hc,hd,by simpa using rr,rv⟩
theorem ZIv(h:isIt d=v5):∃i r,d=.tup (.int i::r):=by
 unfold isIt at h;split at h
 ·exact⟨_,_,rfl⟩
 ·cases h
theorem ZNs(h:Vc d=v5):∃i r,d=.tup (.str i::r):=by
 unfold Vc at h;split at h
 ·exact⟨_,_,rfl⟩
 ·cases h
theorem ZCc(I:Inv X vv σ a.H s)(hk:a.K=X.K):∀{xs:List D}{vs:List V}{us:List xQ},Reps a xs vs->Vals vs us->xs.all isIt=v5->∃fs,PySem.W.KatTups s.heap us fs/\fs.length=us.length/\∀v∈fs,∃i t,v=.int i t
 |[],vs,us,r,v,h=>by
  cases(show vs=[]from r);cases v
  exact⟨[],.nil,rfl,λ_ hm=>nomatch hm⟩
 | d::xs,vs,us,r,v,h=>by
  rw[qy,z5]at h;obtain⟨v0,vr,rfl,e1,r1⟩:=r;cases v with
  | cons q1 v1=>
   obtain⟨i,rr,rfl⟩:=ZIv h.1;obtain⟨p,o,ws,zs,n,rfl,ho,hc,hd,hv,hr⟩:=Vg I hk e1 q1 rfl;obtain⟨w0,wr,rfl,g1,g2⟩:=hr
   cases(show w0=V.int i from g1)
   obtain⟨fs,k1,k2,k3⟩:=ZCc I hk r1 v1 h.2;have hz:∃t,zs[0]?=vk (.int i t):=by
    cases hz:zs.toList with
    |nil=>rw[hz]at hv;cases hv
    | cons z zr=>
     rw[hz]at hv;cases hv with
     |cons q _=>
      obtain⟨t,rfl⟩:=q;exact⟨t,by rw[<-qG,hz];rfl⟩
   obtain⟨t,hz⟩:=hz;refine⟨.int i t::fs,.cons ho hc hd hz k1,by simp[k2],λv hm=>?_⟩;rcases zj.mp hm with rfl|hm
   ·exact⟨i,t,rfl⟩
   ·exact k3 v hm
theorem ZE5(I:Inv X vv σ a.H s)(hk:a.K=X.K):∀{xs:List D}{vs:List V}{us:List xQ},Reps a xs vs->Vals vs us->xs.all Vc=v5->∃fs,PySem.W.KatTups s.heap us fs/\fs.length=us.length/\∀v∈fs,∃i t,v=.str i t
 |[],vs,us,r,v,h=>by
  cases(show vs=[]from r);cases v
  exact⟨[],.nil,rfl,λ_ hm=>nomatch hm⟩
 | d::xs,vs,us,r,v,h=>by
  rw[qy,z5]at h;obtain⟨v0,vr,rfl,e1,r1⟩:=r;cases v with
  | cons q1 v1=>
   obtain⟨i,rr,rfl⟩:=ZNs h.1;obtain⟨p,o,ws,zs,n,rfl,ho,hc,hd,hv,hr⟩:=Vg I hk e1 q1 rfl;obtain⟨w0,wr,rfl,g1,g2⟩:=hr
   cases(show w0=V.str i from g1)
   obtain⟨fs,k1,k2,k3⟩:=ZE5 I hk r1 v1 h.2;have hz:∃t,zs[0]?=vk (.str i t):=by
    cases hz:zs.toList with
    |nil=>rw[hz]at hv;cases hv
    | cons z zr=>
     rw[hz]at hv;cases hv with
     |cons q _=>
      obtain⟨t,rfl⟩:=q;exact⟨t,by rw[<-qG,hz];rfl⟩
   obtain⟨t,hz⟩:=hz;refine⟨.str i t::fs,.cons ho hc hd hz k1,by simp[k2],λv hm=>?_⟩;rcases zj.mp hm with rfl|hm
   ·exact⟨i,t,rfl⟩
   ·exact k3 v hm
theorem ZDD{ws:List V}{us:List xQ}{Q:VK}{h2:Heap}{c:Nat}(I:Inv X vv σ a.H s)(sm:Sim a G)(q:out E a (.ok (.ref G.length) (G++[.lst ys])) Q)(r:Reps a ys ws)(v:Vals ws us)(hz:us.length<64)
  (hD:h2.get? (s.heap.objs.size+1)=vk (seqObj "list" us.toArray c)) (k:∀b o,b≠X.env.locals->s.heap.get? b=vk o->h2.get? b=vk o) (ns:∀m,s.heap.Ns X.env.locals m->h2.Ns X.env.locals m):
  EP X vv σ Q (.ref (s.heap.objs.size+1)) {s with heap:=h2}:=by
 have hle:s.heap.objs.size<=s.heap.objs.size+1:=qR _;obtain⟨g0,g1,g2,g3,g4,g5⟩:=I.Hh (H':=a.H) hle (I.hok.fresh hle);have I2:Inv X vv σ a.H {s with heap:=h2}:=ZHT (t':=s.toks) I k ns;refine⟨.ref (s.heap.objs.size+1),_,Zt I2 g0 (z8 I.sz hle) g1 g4 g5 (o:=.lst ws) ⟨?_,us,c,v,hD⟩,rfl,Ja sm r q _ g0⟩;rw[v.length,xN];lia
end
section
variable{X:Cx}{E:XK}
theorem ZNb(h:Wm xs=v5){x y:D}(hx:x∈xs)(hy:y∈xs):∃k,ltD x y=vk k:=by unfold Wm at h;rw[z5]at h;exact qH.mp (qY.mp (qY.mp h.2 x hx) y hy)
theorem ZI5{x y:D}{k:Bool}(h:ltD x y=vk k):∃xs ys,x=.tup xs/\y=.tup ys/\ltL xs ys=vk k:=by
 unfold ltD at h;split at h
 ·exact⟨_,_,rfl,rfl,h⟩
 ·cases h
theorem ZEM(r:Reps a xs vs):∀l:List Nat,(∀i∈l,i<xs.length)->Reps a (l.map λi=>xs.getD i .non) (l.map λi=>vs.getD i .non)
 |[],_=>rfl
 |i::l,h=>by
  have hi:i<xs.length:=h i zW;obtain⟨v,ev,rv⟩:=r.get (i:=i) (d:=xs[i]) (zJ hi);refine⟨vs.getD i .non,_,rfl,?_,ZEM r l λj hj=>h j (zZ _ hj)⟩;have e1:xs.getD i .non=xs[i]:=by simp[hi]
  have e2:vs.getD i .non=v:=by rw[zE,ev];rfl
  show Rep a (xs.getD i .non) (vs.getD i .non);rw[e1,e2];exact rv
theorem ZD9{us:List xQ}(r:Vals vs us):∀l:List Nat,(∀i∈l,i<vs.length)->Vals (l.map λi=>vs.getD i .non) (l.map λi=>us.getD i .none)
 |[],_=>.nil
 |i::l,h=>by
  have hi:i<vs.length:=h i zW;obtain⟨u,eu,ru⟩:=r.get (i:=i) (x:=vs[i]) (zJ hi);rw[zk,zk];have e1:vs.getD i .non=vs[i]:=by simp[hi]
  have e2:us.getD i .none=u:=by rw[zE,eu];rfl
  rw[e1,e2];exact .cons ru (ZD9 r l λj hj=>h j (zZ _ hj))
theorem ZFJ{n:Nat}{lt:Nat->Nat->Bool}{P:Array Nat->Prop}:∀{t:PySem.W.KasT (Array Nat)},Safe n P t->P (Kv lt t)
 |.ret _,h=>h
 |.ask i j k,h=>ZFJ (t:=k (lt i j)) (h.2.2 (lt i j))
theorem ZHR{n:Nat}:∀f{p:Array Nat}k,Ents n p->Safe n (Ents n) (PySem.W.kas_bin f p k)
 |0,p,k,h=>h
 |f+1,p,k,h=>Safe.bind (P:=λ_=>True) (λa _=>ZHR f _ (h.perm (bubble_perm ..))) (ZB5 h k _ _ _)
theorem ZHX{n:Nat}(hn:0<n):Safe n (Ents n) (PySem.W.kas_sort n):=
 Safe.bind (P:=λr=>Ents n r.2) (λa ha=>by
  split
  ·exact ZHR _ _ ha
  ·exact ha) (ZOJ ⟨hn,Array.Perm.refl _⟩ _)
theorem ZJy:CallR X (.builtin "sorted") (lRn X.K E Z8):=by
 intro vv s σ H vs us Q I rs h;obtain⟨a,G,ds,hk,rfl,sm,r,q⟩:=h;unfold Z8 at q;split at q
 ·rename_i d;obtain⟨v,rfl,rv⟩:=reps1 r;split at q
  ·rename_i xs hs;split at q
   ·rename_i hc;obtain⟨p,ws,rfl,h1,r1⟩:=Rp sm rv hs;rw[hk]at h1;obtain⟨u,rfl,ru⟩:=vals1 rs;cases ru;obtain⟨its,hv,pl,hz⟩:=I.list h1;have hlx:xs.length=its.length:=r1.length.trans hv.length;refine ZKa pl.isList (by lia) λh1 hD k1=>?_
    obtain⟨m,hn,_⟩:=id I.loc;have hns1:h1.Ns X.env.locals m:=hn.keeps k1;have hDL:s.heap.objs.size+1≠X.env.locals:=qL (qA I.lt);have nsAll:∀{h2:Heap},h2.Ns X.env.locals m->∀m',s.heap.Ns X.env.locals m'->h2.Ns X.env.locals m':=λ{h2}hh m' hm'=>by have e1:=hn.eq_nsMap;have e2:=hm'.eq_nsMap;rw[e2,<-e1];exact hh
    by_cases hlen:xs.length<2
    ·refine ZNq (s:={s with heap:=h1}) hD (by lia) λh2 c hD2 k2=>⟨rfl,?_⟩
     have es:N8 xs=xs:=by unfold N8;rw[if_pos hlen]
     rw[es]at q;refine ZDD I sm q r1 hv (by lia) hD2 (λb o hb e=>k2 b o ?_ (k1 b o e)) (nsAll (hns1.at λo e=>k2 _ o (Ne.symm hDL) e));exact z9 (qA (zK e))
    ·have es:N8 xs=(Kv (ltI xs) (PySem.W.kas_sort xs.length)).toList.map λi=>xs.getD i .non:=by unfold N8;rw[if_neg hlen]
     rw[es]at q;refine PySem.W.kat_list_sort (s:={s with heap:=h1}) (Att.ZPm hns1) (news:=Att.ledger h1 X.env.locals (s.heap.objs.size+1)) ?_ hD hDL (Att.Ye _ _) (λ⟨_,_⟩ hp=>(Att.P0.mp hp).2.1) (by lia) (by lia) λe1 h2 F2 N2=>?_
     ·rintro⟨b,o⟩ hp;obtain⟨n1,n2,e⟩:=Att.P0.mp hp;exact⟨e,n1,Att.Ye _ _⟩
     have k2:∀b o,b≠X.env.locals->s.heap.get? b=vk o->h2.get? b=vk o:=λb o hb e=>
      (N2 (b,o) (zZ _ (Att.P0.mpr ⟨hb,z9 (qA (zK e)),k1 b o e⟩))).1
     have I2:Inv X vv σ a.H {s with heap:=h2}:=ZHT (t':=s.toks) I k2 (nsAll F2.ns);have hpos:0<its.length:=by lia
     have fin:(PySem.W.kas_sort its.length).kasWp (PySem.W.kas_ask X.prog X.w X.A.in1.in1 (tuples' v5) its) (λp s''=>PySem.W.KasFin (Att.W7 h1) X.env.locals m (s.heap.objs.size+1) e1 (p.toList.map λi=>its.getD i Value.none) (λs3=>PySem.Fin.done (.ret .none)=PySem.Fin.done (.ret .none)/\EP X vv σ Q (.ref (s.heap.objs.size+1)) s3) s'') {s with heap:=h2}:=by
      refine ZGj (lt:=ltI xs) (λi j hi hj C hC=>?_) (ZHX hpos) ?_
      ·have hxi:i<xs.length:=by lia
       have hxj:j<xs.length:=by lia
       obtain⟨v1,ev1,rv1⟩:=r1.get (i:=i) (d:=xs[i]) (zJ hxi);obtain⟨v2,ev2,rv2⟩:=r1.get (i:=j) (d:=xs[j]) (zJ hxj);obtain⟨u1,eu1,ru1⟩:=hv.get ev1;obtain⟨u2,eu2,ru2⟩:=hv.get ev2;obtain⟨k,hlt⟩:=ZNb hc.2 (qw hxi) (qw hxj);obtain⟨as,bs,ea,eb,hlL⟩:=ZI5 hlt;obtain⟨p1,o1,vs1,us1,n1,rfl,ho1,_,hd1,hv1,hr1⟩:=Vg I2 hk rv1 ru1 ea;obtain⟨p2,o2,vs2,us2,n2,rfl,ho2,_,hd2,hv2,hr2⟩:=Vg I2 hk rv2 ru2 eb
       have hC':C k {s with heap:=h2}:=by
        have:ltI xs i j=k:=by
         unfold ltI;have e1:xs.getD i .non=xs[i]:=by simp[hxi]
         have e2:xs.getD j .non=xs[j]:=by simp[hxj]
         rw[e1,e2,hlt];rfl
        rw[<-this];exact hC
       unfold PySem.W.kas_ask;have g1:its.getD i Value.none=.ref p1:=by rw[zE,eu1];rfl
       have g2:its.getD j Value.none=.ref p2:=by rw[zE,eu2];rfl
       rw[g1,g2];exact PySem.W.kat_lt ho1 hd1 ho2 hd2 (Xe hr1 hr2 hv1 hv2 hlL (by simp) hC')
      ·have hen:Ents its.length (Kv (ltI xs) (PySem.W.kas_sort its.length)):=ZFJ (ZHX hpos);rw[hlx]at q;refine PySem.W.KasFin.intro F2 N2 (.head λ⟨_,_⟩ hp=>(Att.P0.mp hp).2.1) λh3 c F3 N3=>⟨rfl,?_⟩
       have hin:∀i∈(Kv (ltI xs) (PySem.W.kas_sort its.length)).toList,i<its.length:=λi hi=>hen.lt (by simpa using hi)
       refine ZDD I sm q (ZEM r1 _ λi hi=>by rw[hlx];exact hin i hi) (ZD9 hv _ λi hi=>by rw[hv.length];exact hin i hi) ?_ (N3 _ zW).1 (λb o hb e=>?_) (nsAll F3.ns)
       ·rw[hlx]at es;have:=hc.1.2;rw[es]at this;simpa using this
       ·exact(N3 (b,o) (zZ _ (Att.P0.mpr ⟨hb,z9 (qA (zK e)),k1 b o e⟩))).1
     unfold Wm at hc;rw[z5,jG]at hc;rcases hc.2.1 with hall|hall
     ·obtain⟨fs,t1,t2,t3⟩:=ZCc I2 hk r1 hv hall;refine PySem.W.kat_kind (T:=.type "int") t1 (by lia) (λv hm=>?_) (by decide) ?_
      ·obtain⟨i,t,rfl⟩:=t3 v hm;exact PySem.W.Looks.now
      ·exact fin
     ·obtain⟨fs,t1,t2,t3⟩:=ZE5 I2 hk r1 hv hall;refine PySem.W.kat_kind (T:=.type "str") t1 (by lia) (λv hm=>?_) (by decide) ?_
      ·obtain⟨i,t,rfl⟩:=t3 v hm;exact PySem.W.Looks.now
      ·exact fin
   ·exact q.elim
  ·exact q.elim
 ·exact q.elim
end
section
variable{S:DSt}{G:DH}
@[simp]theorem ZRG{to ti:DE}{f:D->D->DH->R D}:O8 to ti te f S G=(to S G).toS λo G1=>(ti S G1).toS λi G2=>(ixL o i G2).toS λx G3=>(te S G3).toS λy G4=>(f x y G4).toS λz G5=>(Jl o i z G5).toS λ_ G6=>.nx S G6:=id rfl
theorem ZGn{p:Nat}{k:Int}(h:G[p]?=vk (.lst xs))(e:atI xs k=vk d):ixL (.ref p) (.int k) G=.ok d G:=by unfold ixL;simp only;rw[h];simp only;rw[e]
noncomputable def Em(xs:List D):List D:=xs.zipIdx.map λq=>.tup [.int q.2,q.1]
noncomputable def Mu(xs ys:List D):List D:=(xs.zip ys).map λq=>.tup [q.1,q.2]
theorem ZFS{f:Nat->DH->Option (Option D)}{b:DS}(h:∀j G,f j G=vk xs[j]?):∀(n j:Nat),j+n=xs.length->∀S G,Dc f g b n j S G=Cj g b (xs.drop j) S G
 |0,j,e,S,G=>by
  unfold Dc;rw[h,zB (by lia),zR (by lia)]
  rfl
 |n+1,j,e,S,G=>by
  have hj:j<xs.length:=by lia
  unfold Dc;rw[h,zJ hj,zP hj,Ip];have:Dc f g b n (j+1)=Cj g b (xs.drop (j+1)):=by funext S G;exact ZFS h n (j+1) (by lia) S G
  rw[this]
theorem Wq{f:Nat->DH->Option (Option D)}{b:DS}{n:Nat}(h:∀j G,f j G=vk xs[j]?)(hn:n=xs.length):Dc f g b n 0 S G=Cj g b xs S G:=by rw[ZFS h n 0 (by lia)];rfl
theorem ZFp(j:Nat)(G:DH):Dt 0 (.fl xs) j G=vk (Em xs)[j]? :=by
 unfold Dt Em;simp only[Bj,z0,List.getElem?_zipIdx]
 cases xs[j]?<;>simp
theorem ZOU(j:Nat)(G:DH):Dt 0 (.tup xs) j G=vk (Em xs)[j]? :=by
 unfold Dt Em;simp only[Bj,z0,List.getElem?_zipIdx]
 cases xs[j]?<;>simp
theorem Nz:(Em xs).length=xs.length:=by simp[Em]
@[simp]theorem ZRX:Gg [.fl xs] G=.ok (.fn xs.length (Dt 0 (.fl xs))) G:=by simp[Gg,Ko,Bj,lenOf]
@[simp]theorem ZRD{b:DS}:Dc (Dt 0 (.fl xs)) g b xs.length 0 S G=Cj g b (Em xs) S G:=Wq ZFp Nz.symm
@[simp]theorem ZRR{b:DS}:Dc (Dt 0 (.tup xs)) g b xs.length 0 S G=Cj g b (Em xs) S G:=Wq ZOU Nz.symm
theorem ZDX{f:Nat->DH->Option (Option D)}{c:DB}{F:D->Option D}(hf:∀j,f j G=vk xs[j]?)(h:∀x∈xs,CStep g c te S G x (F x)):
  ∀(n j:Nat),xs.length<=j+n->Cw f g c te S n j G=.ok ((xs.drop j).filterMap F) G
 |0,j,hj=>by
  unfold Cw;rw[hf,zB (by lia)];simp only;rw[zR (by lia)]
  rfl
 | n+1,j,hj=>by
  unfold Cw;rw[hf];by_cases hlt:j<xs.length
  ·have ih:=ZDX hf h n (j+1) (by lia);obtain⟨S1,h1,h2⟩:=h xs[j] (qw hlt);rw[zJ hlt];simp only[h1,R.Hl];rw[zP hlt,qJ];rcases h2 with⟨h2,h3⟩|⟨h2,d,h3,h4⟩
   ·simp[h2,h3,ih]
   ·simp[h2,h3,h4,ih]
  ·rw[zB (by lia),zR (by lia)]
   rfl
theorem ZLx{f:Nat->DH->Option (Option D)}{c:DB}{F:D->Option D}{n:Nat}(hf:∀j,f j G=vk xs[j]?)(h:∀x∈xs,CStep g c te S G x (F x))(hn:xs.length<=n):
  Cw f g c te S n 0 G=.ok (xs.filterMap F) G:=ZDX hf h n 0 (by lia)
theorem ZG6{e:D}(hd:Bj d G=vk xs)(he:Bj e G=vk ys)(j:Nat):Gz [d,e] j G=vk (Mu xs ys)[j]? :=by
 unfold Gz Mu;simp only[H9,hd,he,z0,List.getElem?_zip_eq_some]
 have ez:(xs.zip ys)[j]?=match xs[j]?,ys[j]? with
  |some x,vk y=>vk (x,y)
  |_,_=>v4:=by
  rw[List.zip,List.getElem?_zipWith]
  cases xs[j]?<;>cases ys[j]?<;>rfl
 rw[ez];cases xs[j]? with
 |none=>rfl
 |some x=>
  cases ys[j]? with
  |none=>rfl
  |some y=>rfl
theorem Xu{e:D}(hd:Bj d G=vk xs)(he:Bj e G=vk ys):G9 2 [d,e] G=.ok (.fn xs.length (Gz [d,e])) G:=by simp[G9,Ko,hd,he,lenOf]
@[simp]theorem Jz:Bj (.tup xs) G=vk xs:=id rfl
theorem ZJ8{n:Int}{ns:List Int}(h:Bj d G=vk ((n::ns).map D.int)):Ik [d] G=.ok (.int (ns.foldl min n)) G:=by simp only[Ik,h,Xc]
theorem ZOc{n:Int}{ns:List Int}(h:Bj d G=vk ((n::ns).map D.int)):Jr [d] G=.ok (.int (ns.foldl max n)) G:=by simp only[Jr,h,Xc]
theorem ZMy{p:Nat}{k:Nat}(h:G[p]?=vk (.lst [d]))(hk:k<=1000000):Jf (.ref p) (.int (k:Int)) G=.ok (.ref G.length) (G++[.lst (zw k d)]):=by
 unfold Jf;simp only;rw[h];simp only;have e:(zw k [d]).flatten=zw k d:=by
  induction k with
  |zero=>rfl
  |succ k ih=>rw[zT,q9,ih (by lia),zT];rfl
 rw[if_pos ⟨by lia,by lia,by simpa using hk⟩,Int.toNat_natCast,e]
end
def Bts(i:Int):Prop:=i.natAbs.log2<33554432
def MulB(i j:Int):Prop:=CMul i j∨(Bts i/\Bts j)
noncomputable instance (i:Int):Decidable (Bts i):=by unfold Bts;infer_instance
noncomputable instance (i j:Int):Decidable (MulB i j):=by unfold MulB;infer_instance
theorem MulB.ok{i j:Int}(h:MulB i j):IntMulOk i j:=by
 rcases h with h|⟨h1,h2⟩
 ·exact h.ok
 ·have b:∀k:Int,Bts k->Builtin.Int.intBits k<=33554432:=λk hk=>by
   unfold Builtin.Int.intBits;split
   ·exact jv _
   ·exact hk
  have c1:=b i h1;have c2:=b j h2;have h:Builtin.Int.intTooBig (Builtin.Int.intBits i+Builtin.Int.intBits j)=v6:=by unfold Builtin.Int.intTooBig bitsLine;exact decide_eq_false (by lia)
  unfold IntMulOk;rw[h];simp
section
variable{X:Cx}{E:XK}
theorem ZHo:OpR X (xY .Mult) (rI MulB λi j=>.int (i*j)):=opI λ_ _ _ _ _ _ _ hc q=>mul_int q hc.ok
end
section
variable{i j:Int}{G:DH}
end
section
variable{X:Cx}{E:XK}
end
def Ez(f:Str)(v:D):List (Str×D)->List (Str×D)
 |[]=>[(f,v)]
 |(g,x)::r=>if g=f then(g,v)::r else(g,x)::Ez f v r
theorem RepF.mono{b:Wd}(x:Ext a b){fs:List (Str×D)}(h:RepF a fs us):RepF b fs us:=⟨h.1,h.2.mono x⟩
theorem RepF.cons{g:Str}{fs:List (Str×D)}(h:Rep a d v)(r:RepF a fs us):RepF a ((g,d)::fs) ((g,v)::us):=
 ⟨by simp[r.1],v,us.map (·.2),rfl,h,r.2⟩
theorem RepF.uncons{g:Str}{fs:List (Str×D)}(h:RepF a ((g,d)::fs) us):∃v us',us=(g,v)::us'/\Rep a d v/\RepF a fs us':=by
 obtain⟨h1,h2⟩:=h;cases us with
 |nil=>simp at h1
 |cons q us=>
  obtain⟨g',y⟩:=q;simp only[zk,List.cons.injEq]at h1;obtain⟨rfl,h1⟩:=h1;obtain⟨v,r,e1,r1,r2⟩:=h2;simp only[zk,List.cons.injEq]at e1;obtain⟨rfl,rfl⟩:=e1;exact⟨y,us,rfl,r1,h1,r2⟩
theorem RepF.nil'(h:RepF a [] us):us=[]:=by
 obtain⟨h1,_⟩:=h;cases us with
 |nil=>rfl
 |cons q us=>simp at h1
theorem lkc{α:Type}{f g:Str}{x:α}{fs:List (Str×α)}:q8 f ((g,x)::fs)=if(f==g)=v5 then vk x else fs.lookup f:=by
 show(match f==g with
  |true=>vk x
  |false=>q8 f fs)=_
 cases f==g<;>rfl
theorem RepF.look{f:Str}:∀{fs:List (Str×D)}{us:List (Str×V)},RepF a fs us->fs.lookup f=vk d->∃u,us.lookup f=vk u/\Rep a d u
 |[],us,h,e=>by simp at e
 |(g,x)::fs,us,h,e=>by
  obtain⟨v,us',rfl,hv,hr⟩:=h.uncons;rw[lkc]at e⊢;by_cases q:(f==g)=v5
  ·rw[if_pos q]at e⊢;cases e;exact⟨v,rfl,hv⟩
  ·rw[if_neg q]at e⊢;exact RepF.look hr e
theorem RepF.Zb{f:Str}:∀{fs:List (Str×D)}{us:List (Str×V)},RepF a fs us->fs.lookup f=v4->us.lookup f=v4
 |[],us,h,e=>by rw[h.nil'];rfl
 |(g,x)::fs,us,h,e=>by
  obtain⟨v,us',rfl,hv,hr⟩:=h.uncons;rw[lkc]at e⊢;by_cases q:(f==g)=v5
  ·rw[if_pos q]at e;cases e
  ·rw[if_neg q]at e⊢;exact RepF.Zb hr e
theorem RepF.put{f:Str}(q:Rep a d v):∀{fs:List (Str×D)}{us:List (Str×V)},RepF a fs us->RepF a (Ez f d fs) (Ea f v us)
 |[],us,h=>by rw[h.nil'];exact RepF.cons (fs:=[]) (us:=[]) q ⟨rfl,rfl⟩
 |(g,x)::fs,us,h=>by
  obtain⟨w,us',rfl,hv,hr⟩:=h.uncons;unfold Ez Ea;by_cases e:g=f
  ·rw[if_pos e,if_pos e];exact .cons q hr
  ·rw[if_neg e,if_neg e];exact .cons hv (RepF.put q hr)
theorem RepF.len{fs:List (Str×D)}(h:RepF a fs us):us.length=fs.length:=by have:=congrArg List.length h.1;simpa using this.symm
theorem Ext.wrI{p C dx:jL}{ho:HO}(h:a.H p=vk (.ins C dx us)):Ext a (a.put p ho):=
 ⟨rfl,zY _,λ_ _=>rfl,λq xs e=>by
  show upd a.H p ho q=_;rw[Ax (λz=>by subst z;rw[h]at e;cases e)];exact e,λq o u e=>by
  show upd a.H p ho q=_;rw[Ax (λz=>by subst z;rw[h]at e;cases e)];exact e,λ_ t=>t.mono (λq ps e=>by show upd a.H p ho q=_;rw[Ax (λz=>by subst z;rw[h]at e;cases e)];exact e) (λq o u e=>by show upd a.H p ho q=_;rw[Ax (λz=>by subst z;rw[h]at e;cases e)];exact e)⟩
theorem Sim.wrI(s:Sim a G){i:Nat}(hi:i<a.n){c:Str}{C dx:jL}{us':List (Str×V)}{fs':List (Str×D)}(hn:PySem.W.nsIn a.K xI c=vk (vk (.ref C)))(h:a.H (a.m i)=vk (.ins C dx us))(r:RepF (a.put (a.m i) (.ins C dx us')) fs' us'):
  Sim (a.put (a.m i) (.ins C dx us')) (G.set i (.ins c fs')):=by
 refine⟨by rw[qT];exact s.len,s.inj,λj o e=>?_,λj hj=>?_⟩
 ·rw[qj]at e;show ORep _ o (upd a.H (a.m i) (.ins C dx us') (a.m j));by_cases hij:i=j
  ·subst hij;rw[if_pos rfl,if_pos (by rw[s.len];exact hi)]at e;cases e;rw[Dv];exact⟨C,dx,us',hn,rfl,r⟩
  ·rw[if_neg hij]at e;rw[Ax λz=>hij (s.inj _ _ (s.lt e) hi z).symm];exact(s.obj j o e).mono (Ext.wrI h)
 ·show upd a.H (a.m i) (.ins C dx us') (a.m j)≠v4;by_cases hij:a.m j=a.m i
  ·rw[hij,Dv];simp
  ·rw[Ax hij];exact s.tr j hj
def Hv(c:Str)(d:D)(G:DH):Option (List (Str×D)):=match d with
 |.ref i=>match G[i]? with
  |some (.ins c' fs)=>if c'=c then vk fs else v4
  |_=>v4
 |_=>v4
theorem Sim.ins{x:V}{c:Str}{fs:List (Str×D)}(s:Sim a G)(r:Rep a d x)(h:Hv c d G=vk fs):
  ∃i C dx us,d=.ref i/\i<a.n/\x=.ref (a.m i)/\G[i]?=vk (.ins c fs)/\PySem.W.nsIn a.K xI c=vk (vk (.ref C))/\a.H (a.m i)=vk (.ins C dx us)/\RepF a fs us:=by
 unfold Hv at h;split at h
 ·rename_i i;split at h
  ·rename_i c' fs' e;split at h
   ·rename_i hc;subst hc;cases h;obtain⟨l,ev⟩:=r;obtain⟨C,dx,us,n,e1,r1⟩:=s.obj i _ e;exact⟨i,C,dx,us,rfl,l,ev,e,n,e1,r1⟩
   ·cases h
  ·cases h
 ·cases h
def Do(c:Str)(t:DE)(f:Str):DE:=λS G=>(t S G).bind λd G1=>match Hv c d G1 with
 |some fs=>match fs.lookup f with
  |some v=>.ok v G1
  |none=>.bad
 |none=>.bad
def Et(c:Str)(to tv:DE)(f:Str):DS:=λS G=>(tv S G).toS λd G1=>(to S G1).toS λo G2=>match o with
 |.ref i=>match Hv c o G2 with
  |some fs=>if fs.length<1000 then .nx S (G2.set i (.ins c (Ez f d fs)))else .bad
  |none=>.bad
 |_=>.bad
def Gy(c:Str)(m:Str)(F:List D->DH->R D)(to:DE)(t:DA):DE:=λS G=>(to S G).bind λo G1=>match Hv c o G1 with
 |some fs=>match fs.lookup m with
  |none=>(t S G1).bind λds G2=>F (o::ds) G2
  |some _=>.bad
 |none=>.bad
def Y7(c:Str)(F:List D->DH->R D)(t:DA):DE:=λS G=>(t S G).bind λds G1=>(F (.ref G1.length::ds) (G1++[.ins c []])).bind λv G2=>match v with
 |.non=>.ok (.ref G1.length) G2
 |_=>.bad
section
variable{X:Cx}{E:XK}{c f m:Str}{C:jL}{e o:jN}{es:List jN}{t ta tv:DE}{tr:DA}{pos apos pos':Pos}
theorem Dy(hn:PySem.W.nsIn X.K xI c=vk (vk (.ref C)))(hc:Cls X.K C)(hf:NoAttr X.K C f)(ha:QE X E e t)(hb:xX e f X.env (eval e X.env)=eval e X.env:=by rfl):QE X E (.Attribute e f pos) (Do c t f):=
 (ZHs ha hb).mono λσ H Q h=>by
  obtain⟨a,S,G,hk,rfl,s,r,h⟩:=h;refine⟨a,S,G,hk,rfl,s,r,(Dr h).imp ?_⟩;rintro v _ ⟨b,d,G1,rfl,x,s1,q,-,h1⟩;split at h1
  ·rename_i fs hi;obtain⟨i,C',dx,us,rfl,_,rfl,_,n',e1,r1⟩:=s1.ins q hi;have hCC:C'=C:=by
    rw[x.k,hk,hn]at n';cases n'
    rfl
   subst hCC;split at h1
   ·rename_i d' hd;obtain⟨u,eu,ru⟩:=r1.look hd;exact⟨b.m i,C',dx,us,u,rfl,e1,hc,hf,eu,h1 b u (Ext.refl b) s1 ru⟩
   ·exact h1.elim
  ·exact h1.elim
theorem Kh(hn:PySem.W.nsIn X.K xI c=vk (vk (.ref C)))(hc:Cls X.K C)(hf:NoAttr X.K C f)(ha:QE X E o ta)(hv:QE X E e tv)(hs:swapsWith e (vk (.Attribute o f pos')) pos.line X.env=pure v6:=by rfl):
  QS X E (.Assign [.Attribute o f pos'] e pos) (Et c ta tv f):=
 (ZN4 ha hv hs).mono λW σ H h=>by
  obtain⟨a,S,G,hk,rfl,s,r,h⟩:=h;refine⟨a,S,G,hk,rfl,s,r,(Ge h).imp ?_⟩;rintro v _ ⟨b,d,G1,rfl,x,s1,q,-,h1⟩;refine⟨b,S,G1,x.k.trans hk,rfl,s1,r.mono x,(Ge h1).imp ?_⟩;rintro v2 _ ⟨b2,d2,G2,rfl,x2,s2,q2,-,h2⟩;split at h2
  ·rename_i i;split at h2
   ·rename_i fs hi;split at h2
    ·rename_i hl;obtain⟨i',C',dx,us,ei,li,rfl,eg,n',e1,r1⟩:=s2.ins q2 hi;cases ei;have hCC:C'=C:=by
      rw[x2.k,x.k,hk,hn]at n';cases n'
      rfl
     subst hCC;have x3:Ext b2 (b2.put (b2.m i) (.ins C' dx (Ea f v us))):=Ext.wrI e1;have s3:=s2.wrI (fs':=Ez f d fs) li n' e1 (RepF.put ((q.mono x2).mono x3) (r1.mono x3));exact⟨b2.m i,C',dx,us,rfl,e1,hc,hf,by rw[r1.len];exact hl,h2 _ σ x3 s3 (((r.mono x).mono x2).mono x3)⟩
    ·exact h2.elim
   ·exact h2.elim
  ·exact h2.elim
theorem ZJ6{sp:List D->DH->R D}{σ:St}{H:Hp}{Q:VK}(hn:PySem.W.nsIn X.K xI c=vk (vk (.ref C)))(h:lE X.K E0 (Gy c m F ta tr) σ H Q):ZAq C m (lF X.K F) [] E0 (lE X.K E0 ta) (lA X.K E0 tr) σ H Q:=by
 obtain⟨a,S,G,hk,rfl,s,r,h⟩:=h;refine⟨a,S,G,hk,rfl,s,r,(Dr h).imp ?_⟩;rintro v _ ⟨b,d,G1,rfl,x,s1,q,-,h1⟩;split at h1
 ·rename_i fs hi;obtain⟨i,C',dx,us,rfl,_,rfl,_,n',e1,r1⟩:=s1.ins q hi;have hCC:C'=C:=by
   rw[x.k,hk,hn]at n';cases n'
   rfl
  subst hCC;split at h1
  ·rename_i hm;refine⟨b.m i,dx,us,rfl,e1,r1.Zb hm,b,S,G1,x.k.trans hk,rfl,s1,r.mono x,(Kc h1).imp ?_⟩;rintro vs _ ⟨b2,ds,G2,rfl,x2,s2,q2,-,h2⟩;exact⟨b2,G2,.ref i::ds,(x2.k.trans x.k).trans hk,rfl,s2,⟨.ref (b.m i),vs,by rw[qB],q.mono x2,q2⟩,h2⟩
  ·exact h1.elim
 ·exact h1.elim
theorem Nb{k:Nat}{g:jL}{pl:Sem Bool}(hn:PySem.W.nsIn X.K xI c=vk (vk (.ref C)))(hc:Cls X.K C)(hm:Meth X.K C m g)(FF:FnOk X.prog X.w X.K X.mg X.base CX k g fd ps (lF X.K F))(hr:Room k X.A)(hb:Binds X.K fd ps [])
  (hx:Passes CX X E0) (ho:QE X E0 o ta) (ha:QA X E0 (e::es) tr) (he:notStar e=v5:=by rfl) (hpl:es.all notStar=v5:=by rfl)
  (ht:eval (.Call (.Attribute o m apos) (e::es) [] pos) X.env=(do
   let ov<-eval o X.env
   standAt apos.atName
   let(f,first)<-holding [ov] (getMethod ov m pl)
   callWith pos f first (xV pos (xP (e::es) X.env)) (xW pos (xG [] X.env))):=by rfl):QE X E0 (.Call (.Attribute o m apos) (e::es) [] pos) (Gy c m F ta tr):=
 (ZPN (pl:=pl) ho hc hm FF hr hb .nil hx ha (Hm e es X.env he) (Jx pos X.env es hpl) ht).mono λσ H Q h=>ZJ6 (sp:=F) hn h
theorem ZEU{k:Nat}{g:jL}{pl:Sem Bool}(hn:PySem.W.nsIn X.K xI c=vk (vk (.ref C)))(hc:Cls X.K C)(hm:Meth X.K C m g)(FF:FnOk X.prog X.w X.K X.mg X.base CX k g fd ps (lF X.K F))(hr:Room k X.A)(hb:Binds X.K fd ps [])
  (hx:Passes CX X E0) (ho:QE X E0 o ta)
  (ht:eval (.Call (.Attribute o m apos) [] [] pos) X.env=(do
   let ov<-eval o X.env
   standAt apos.atName
   let(f,first)<-holding [ov] (getMethod ov m pl)
   callWith pos f first (xV pos (xP [] X.env)) (xW pos (xG [] X.env))):=by rfl):QE X E0 (.Call (.Attribute o m apos) [] [] pos) (Gy c m F ta Ad):=
 (ZPO (pl:=pl) ho hc hm FF hr hb .nil hx ht).mono λσ H Q h=>by
  obtain⟨a,S,G,hk,rfl,s,r,h⟩:=h;refine⟨a,S,G,hk,rfl,s,r,(Dr h).imp ?_⟩;rintro v _ ⟨b,d,G1,rfl,x,s1,q,-,h1⟩;split at h1
  ·rename_i fs hi;obtain⟨i,C',dx,us,rfl,_,rfl,_,n',e1,r1⟩:=s1.ins q hi;have hCC:C'=C:=by
    rw[x.k,hk,hn]at n';cases n'
    rfl
   subst hCC;split at h1
   ·rename_i hm;exact⟨b.m i,dx,us,rfl,e1,r1.Zb hm,b,G1,[.ref i],x.k.trans hk,rfl,s1,⟨.ref (b.m i),[],rfl,q,rfl⟩,h1⟩
   ·exact h1.elim
  ·exact h1.elim
theorem ZII{ds:List D}{Q:VK}(hk:a.K=X.K)(hn:PySem.W.nsIn X.K xI c=vk (vk (.ref C)))(s:Sim a G)(q:Reps a ds vs)
  (h:out E0 a ((F (.ref G.length::ds) (G++[.ins c []])).bind λv G2=>match v with
   |.non=>.ok (.ref G.length) G2
   |_=>.bad) Q):∀x dx,a.H x=v4->a.H dx=v4->dx≠x->lF X.K F (.ref x::(vs++[])) (upd (upd a.H dx (.own x)) x (.ins C dx [])) (λv H2=>v=.non/\Q (.ref x) H2) E:=λp dx hp hdx hne=>by
 have x1:Ext a (a.put dx (.own p)):=Ext.put hdx;have s1:Sim (a.put dx (.own p)) G:=s.put hdx;have hp1:(a.put dx (.own p)).H p=v4:=by show upd a.H dx (.own p) p=v4;rw[Ax λz=>hne z.symm];exact hp
 have x2:Ext (a.put dx (.own p)) ((a.put dx (.own p)).push p (.ins C dx [])):=Ext.push hp1;have s2:Sim ((a.put dx (.own p)).push p (.ins C dx [])) (G++[.ins c []]):=s1.push hp1 ⟨C,dx,[],by show PySem.W.nsIn a.K xI c=_;rw[hk];exact hn,rfl,rfl,rfl⟩;have hgl:G.length=a.n:=s.len;have mnew:((a.put dx (.own p)).push p (.ins C dx [])).m a.n=p:=by show(if a.n=a.n then p else a.m a.n)=p;rw[if_pos rfl]
 have rp:Rep ((a.put dx (.own p)).push p (.ins C dx [])) (.ref G.length) (.ref p):=by rw[hgl];exact⟨zI _,by rw[mnew]⟩
 refine⟨(a.put dx (.own p)).push p (.ins C dx []),_,.ref G.length::ds,hk,rfl,s2,⟨.ref p,vs,by rw[qB],rp,(q.mono x1).mono x2⟩,(Dr (out.mono (x1.trans x2) h)).imp ?_⟩;rintro v _ ⟨b,d,G1,rfl,x3,s3,q3,-,h3⟩;split at h3
 ·have:v=.non:=q3;exact⟨this,h3 b _ (Ext.refl b) s3 (rp.mono x3)⟩
 ·exact h3.elim
theorem ZN6{k:Nat}{g:jL}{p:Pos}(hn:PySem.W.nsIn X.K xI c=vk (vk (.ref C)))(M:Mk X.K C g)(FF:FnOk X.prog X.w X.K X.mg X.base CX k g fd ps (lF X.K F))(hr:Room (k+1) X.A)(hg:Gl X c)(hm:X.mg c=vk (.ref C))(hb:Binds X.K fd ps [])
  (hx:Passes CX X E0) (ha:QA X E0 (e::es) tr) (hdb:(c==("__debug__":Str))=v6:=by decide) (he:notStar e=v5:=by rfl) (hpl:es.all notStar=v5:=by rfl):QE X E0 (.Call (.Name c p) (e::es) [] pos) (Y7 c F tr):=
 (ZOr M FF hr hg hm hb .nil hx ha hdb (Hm e es X.env he) (Jx pos X.env es hpl)).mono λσ H Q h=>by obtain⟨a,S,G,hk,rfl,s,r,h⟩:=h;refine⟨a,S,G,hk,rfl,s,r,(Kc h).imp ?_⟩;rintro vs _ ⟨b,ds,G1,rfl,x,s1,q,-,h1⟩;exact ZII (x.k.trans hk) hn s1 q h1
end
def Li(d:D)(ds:List D)(G:DH):R D:=match ds with
 | [.int k]=>match Gr d G with
  |some xs=>match Ew xs with
   |some ns=>if k∈ns/\ns.length<=1000000 then .ok (.int (ns.idxOf k)) G else .bad
   |none=>.bad
  |none=>.bad
 |_=>.bad
theorem ZGt:∀{ns:List Int}{vs:List V},Reps a (ns.map D.int) vs->vs=ns.map V.int
 |[],vs,h=>h
 |n::ns,vs,h=>by
  obtain⟨v,r,e,h1,h2⟩:=h
  cases(show v=V.int n from h1)
  rw[e,ZGt h2]
  rfl
theorem Pu:∀{ns:List Int}{us:List xQ},Vals (ns.map V.int) us->us.length=ns.length/\∀(j:Nat)(u:xQ),us[j]?=vk u->∃t,∃h:j<ns.length,u=.int ns[j] t
 |[],us,h=>by cases h;exact⟨rfl,λj u e=>by simp at e⟩
 | n::ns,us,h=>by
  cases h with
  | cons r rr=>
   obtain⟨h1,h2⟩:=Pu rr;obtain⟨t,rfl⟩:=r;refine⟨by simp[h1],λj u e=>?_⟩;cases j with
   |zero=>simp at e;exact⟨t,by simp,by simpa using e.symm⟩
   |succ j=>
    obtain⟨t',hj,e'⟩:=h2 j u (by simpa using e);exact⟨t',by simpa using hj,by simpa using e'⟩
section
variable{X:Cx}{E:XK}
theorem ZHL:MtM X "list.index" (lRm X.K E Li):=by
 intro vv s σ H x xs v us Q I rx rxs h;obtain⟨a,G,d,ds,hk,rfl,sm,rd,rds,q⟩:=h;unfold Li at q;split at q
 ·rename_i k;split at q
  ·rename_i ys hy;split at q
   ·rename_i ns hns;split at q
    ·rename_i hk';obtain⟨hmem,hlen⟩:=hk';obtain⟨p,vs,rfl,hq,rv⟩:=Rp sm rd hy;rw[Vp hns]at rv;rw[ZGt rv,hk]at hq;cases rx;obtain⟨v1,rfl,rv1⟩:=reps1 rds
     cases(show v1=V.int k from rv1)
     obtain⟨u,rfl,ru⟩:=rxs.one;obtain⟨t,rfl⟩:=ru;obtain⟨its,rits,⟨o,n,ho,hc,hdi,hd⟩,hz⟩:=I.list hq;obtain⟨hl1,hl2⟩:=Pu rits;have hlt:ns.idxOf k<ns.length:=List.idxOf_lt_length_of_mem hmem;have hjs:ns.idxOf k<its.toArray.size:=by simpa[hl1]using hlt
     have hob:o={cls:=.type "list",dict:=o.dict,data:=.seq its.toArray n,slots:=o.slots}:=by
      obtain⟨c1,c2,c3,c4⟩:=o;simp only at hc hd;subst hc;subst hd
      rfl
     rw[hob]at ho
     refine call_meets PySem.F.slot_list_index ⟨_,ho,rfl⟩ PySem.F.entry_list_index (PySem.F.args_list_index_2 _ _) (SeqAt.list_indexAt p its.toArray n o.dict o.slots (.int k t) (λy=>match y with | .int i _=>i==k|_=>v6) (ns.idxOf k) hjs (by lia) ?_ ?_) ⟨ho,λy hy=>?_,?_⟩
     ·have hg:its[ns.idxOf k]?=vk its.toArray[ns.idxOf k]:=by simp[zJ (by simpa[hl1]using hlt:ns.idxOf k<its.length)]
      obtain⟨t',h3,e3⟩:=hl2 _ _ hg;rw[e3];simp
     ·intro m hm hlt2;have hml:m<its.length:=by simpa using hm
      have hg:its[m]?=vk its.toArray[m]:=by simp[zJ hml]
      obtain⟨t',h3,e3⟩:=hl2 _ _ hg;rw[e3];have:=List.not_of_lt_findIdx (p:=λx=>x==k) (xs:=ns) hlt2;simpa using this
     ·have hy2:y∈its:=by simpa using hy
      obtain⟨m,hm,e⟩:=qD hy2;obtain⟨t',h3,e3⟩:=hl2 m y (by rw[zJ hm,e]);rw[e3];exact SeqAt.EqAt.int_int _ _ _ _
     ·exact⟨.int (ns.idxOf k),a.H,I.tok _,⟨_,rfl⟩,q a _ (Ext.refl a) sm rfl⟩
    ·exact q.elim
   ·exact q.elim
  ·exact q.elim
 ·exact q.elim
def tLR(ta:TA):TE:=λσ H Q=>ta σ H λvs H1=>∃j:Int,vs=[.int j]/\ -(2^62)<=j/\j<=1000000/\∀l,H1 l=v4->Q (.ref l) (upd H1 l (.lst ((zq j.toNat).map λ(i:Nat)=>V.int (i:Int))))
theorem ZQH{acc:Array xQ}{n:Nat}(h:ItemsOf (λi v=>∃t,v=.int ((0:Int)+i*1) t) acc n):Vals ((zq n).map λ(i:Nat)=>V.int (i:Int)) acc.toList:=by
 obtain⟨h1,h2⟩:=h;refine Zj (by simp[h1]) λi v u hv hu=>?_
 have hi:i<n:=by have:=(zD.mp hv).1;simpa using this
 rw[z0,zF hi]at hv;have ev:v=V.int (i:Int):=by simpa using hv.symm
 obtain⟨t,e⟩:=h2 i u (by rw[<-qG];exact hu);subst ev;refine⟨t,?_⟩;rw[e]
 congr 1
 lia
theorem ZIz{ta:TA}{p p' pos pos':Pos}(hc:X.calm=v5)(hg:Gl X "list")(hm:X.mg "list"=v4)(hg2:Gl X "range")(hm2:X.mg "range"=v4)(ha:PA X [e] ta)(hs:xP [e] X.env=[(v6,eval e X.env)]:=by rfl)
  (hs2:xP [.Call (.Name "range" p') [e] [] pos'] X.env=[(v6,eval (.Call (.Name "range" p') [e] [] pos') X.env)]:=by rfl):PE X (.Call (.Name "list" p) [.Call (.Name "range" p') [e] [] pos'] [] pos) (tLR ta):=by
 intro vv s σ H Q I h;refine Call_ (Hc I hg hm K1 (PyProof.Rows.callWith_type1 ?_ hs2 rfl));rw[hs2];refine Calls.spliced_cons (Call_ (Hc I hg2 hm2 PyProof.Rows.boot_range (PyProof.Rows.callWith_type1 (thn (ha pos' vv s σ H _ I h) λus s1 ⟨vs,H1,I1,r1,q1⟩=>?_) hs rfl)));obtain⟨j,rfl,b1,b2,q⟩:=q1;obtain⟨u,rfl,ru⟩:=r1.one;obtain⟨t,rfl⟩:=ru;refine call_range_1 (Calls.spliced_nil ?_)
 have hsz:Builtin.Range.rangeSize 0 j 1=(j.toNat:Int):=by rw[rangeSize_one];split <;> lia
 refine call_list_range (I.ok.hd hc) (IsRange.new ..) (small_one (by decide) (by decide) b1 (by lia)) hsz (by lia) λh' tk acc' c' hk hS' hacc=>?_
 have I2:=I1.kept (t':=s1.toks+1+1) (h':=s1.heap.push {cls:=.type "range",data:=.fields #[.int 0 s1.toks,.int j t,.int 1 (s1.toks+1)]}) λb o e=>zQ _ e
 refine⟨.ref _,_,I2.laid (o:=.lst ((zq j.toNat).map λ(i:Nat)=>V.int (i:Int))) (t':=tk) hk (zY _) ⟨?_,acc'.toList,c',ZQH hacc,by simpa using hS'⟩,rfl,q _ (I2.hok.fresh (zY _))⟩;rw[zM,List.length_range,xN];lia
def dLR(t:DA):DE:=λS G=>(t S G).bind λds G1=>match ds with
 |[.int j]=>if inR j/\j<=1000000 then .ok (.ref G1.length) (G1++[.lst (Dz 0 j.toNat)])else .bad
 |_=>.bad
theorem ZNl{p p' pos pos':Pos}(hc:X.calm=v5)(hg:Gl X "list")(hm:X.mg "list"=v4)(hg2:Gl X "range")(hm2:X.mg "range"=v4)(ha:QA X E [e] ta)(hs:xP [e] X.env=[(v6,eval e X.env)]:=by rfl)
  (hs2:xP [.Call (.Name "range" p') [e] [] pos'] X.env=[(v6,eval (.Call (.Name "range" p') [e] [] pos') X.env)]:=by rfl):QE X E (.Call (.Name "list" p) [.Call (.Name "range" p') [e] [] pos'] [] pos) (dLR ta):=
 (ZIz hc hg hm hg2 hm2 ha hs hs2).mono λσ H Q h=>by
  obtain⟨a,S,G,hk,rfl,s,r,h⟩:=h;refine⟨a,S,G,hk,rfl,s,r,(Kc h).imp ?_⟩;rintro vs _ ⟨b,ds,G1,rfl,x,s1,q,-,h1⟩;split at h1
  ·rename_i j;split at h1
   ·rename_i hj;obtain⟨v,rfl,rv⟩:=reps1 q
    cases(show v=V.int j from rv)
    refine⟨j,rfl,hj.1.1,hj.2,λl hl=>Ja s1 ?_ h1 l hl⟩;unfold Dz;generalize zq j.toNat=L
    induction L with
    |nil=>exact rfl
    |cons k L ih=>exact⟨_,_,rfl,(by show V.int (k:Int)=V.int (0+(k:Int));rw[Int.zero_add]),ih⟩
   ·exact h1.elim
  ·exact h1.elim
noncomputable def Itd(lo:Int)(n:Nat):It:=⟨λi _=>i<n,λi H x H'=>H'=H/\x=.int (lo-i),λi _=>n<=i⟩
theorem ZNv{P:jR}{w:xZ}{K:PySem.W.Frag}{tg:jN}(it:jL)(lo:Int)(n:Nat):Turn P w K tg (Itd lo n) [it] it (λi h=>IsRangeIter h it (lo+(i:Nat)*(-1)) ((n:Int)-(i:Nat)) (-1)) where
 mem:=by simp
 obj:=λi h st b hb=>by
  have e:b=it:=by simpa using hb
  subst e;exact⟨_,st,λv z=>by have z':Data.fields _=Data.cell v:=z;cases z'⟩
 keep:=λi h h' st k=>k it (by simp) _ st
 item:=by
  intro X hP hw hK hc i vv s σ H E I hf st hg;subst hP hw hK;obtain⟨f0,f1,f2,f3,f4,f5⟩:=hf it (by simp);have W:=Walks.range (prog:=X.prog) (w:=X.w) (I.ok.hd hc) it lo (-1) n;refine W.item i s _ _ hg st λv h' tk hv st' kk=>?_
  obtain⟨t,rfl⟩:=hv;have I1:Inv X vv σ H {s with heap:=h',toks:=tk}:=I.turned (λb o hb e=>kk b o (by simpa using hb) e) f0 f1 f3 f4 f5;refine⟨_,rfl,N6 (s:={s with heap:=h',toks:=tk}) (n:="range_iterator") st' rfl rfl (by decide) ⟨.int (lo-i),H,I1,⟨t,?_⟩,⟨rfl,rfl⟩,st',λb hb=>(hf b hb).1⟩⟩
  congr 1
  lia
 done:=by intro X hP hw hK hc i vv s σ H E I hf st hg;subst hP hw hK;obtain⟨f0,f1,f2,f3,f4,f5⟩:=hf it (by simp);exact wpAny_pyNext_range_end (I.ok.hd hc) st (by have:n<=i:=hg;lia) λh' eb=>⟨rfl,I.turned (t':=s.toks) (λb o hb e=>eb b o hb e) f0 f1 f3 f4 f5⟩
 self:=λ_ _ _ _ _ st h=>wpAny_pyIter_rangeiter st h
theorem rangeSize_down(a b:Int):Builtin.Range.rangeSize a b (-1)=if b<a then a-b else 0:=by
 unfold Builtin.Range.rangeSize;rw[if_neg (by decide)];have e:(- (-1:Int))=1:=by decide
 rw[e,Int.ediv_one]
 split <;> lia
theorem small_down{a b:Int}(ha: -(2^62)<=a)(ha':a<2^62)(hb: -(2^62)<=b)(hb':b<2^62):Builtin.Range.small a b (-1)=v5:=by
 unfold Builtin.Range.small;rw[rangeSize_down];simp only[Builtin.Range.rangeFitsLong,z5,jG,decide_eq_true_eq,beq_iff_eq,show¬((-1:Int)>0) by decide,if_false]
 split <;> lia
def iDn(ta:TA):TI:=λσ H R=>ta σ H λvs H1=>∃i j:Int,vs=[.int i,.int j,.int (-1)]/\(-(2^62)<=i/\i<2^62/\ -(2^62)<=j/\j<2^62)/\R (Itd i (i-j).toNat) H1
theorem ZMO{tg a b c:jN}{ta:TA}{p pos:Pos}(hg:Gl X "range")(hm:X.mg "range"=v4)(ha:PA X [a,b,c] ta)(hs:xP [a,b,c] X.env=(v6,eval a X.env)::xP [b,c] X.env:=by rfl)(hs2:(xV pos (xP [b,c] X.env)).any (·.1)=v6:=by rfl):
  PI X tg (.Call (.Name "range" p) [a,b,c] [] pos) (iDn ta):=by
 intro vv s σ H R I h;refine Call_ (Hc I hg hm PyProof.Rows.boot_range (PyProof.Rows.callWith_type1 (thn (ha pos vv s σ H _ I h) λus s1 ⟨vs,H1,I1,r1,q1⟩=>?_) hs hs2));obtain⟨i,j,e,⟨q1,q2,q3,q4⟩,q⟩:=q1;subst e;cases r1 with
 | cons r rr=>
  cases rr with
  | cons r' rr=>
   cases rr with
   | cons r'' rr=>
    cases rr;obtain⟨t,rfl⟩:=r;obtain⟨t',rfl⟩:=r';obtain⟨t'',rfl⟩:=r'';refine call_range_3 (by decide) ?_ (.inl (PyProof.noPylong_small (by lia)));refine wpAny_pyIter_range (IsRange.new ..) (small_down q1 q2 q3 q4) ?_;have I2:Inv X vv σ H1 {s1 with heap:=s1.heap.push {cls:=.type "range",data:=.fields #[.int i t,.int j t',.int (-1) t'']},toks:=s1.toks}:=I1.kept λb o e=>zQ _ e
    refine⟨(s1.heap.push {cls:=.type "range",data:=.fields #[.int i t,.int j t',.int (-1) t'']}).objs.size,[(s1.heap.push {cls:=.type "range",data:=.fields #[.int i t,.int j t',.int (-1) t'']}).objs.size],_,_,H1,rfl,
     I2.kept (t':=s1.toks) λb o e=>zQ _ e,ZNv _ i (i-j).toNat,?_,λb hb=>?_,q⟩
    ·have e1:i+((0:Nat):Int)*(-1)=i:=by simp
     have e2:(((i-j).toNat:Nat):Int)-((0:Nat):Int)=Builtin.Range.rangeSize i j (-1):=by rw[rangeSize_down];split <;> lia
     show IsRangeIter _ _ (i+((0:Nat):Int)*(-1)) ((((i-j).toNat:Nat):Int)-((0:Nat):Int)) (-1);rw[e1,e2];exact zy _ rfl
    ·have e:b=(s1.heap.push {cls:=.type "range",data:=.fields #[.int i t,.int j t',.int (-1) t'']}).objs.size:=by simpa using hb
     subst e;exact I2.Hh (zY _) (I2.hok.fresh (zY _))
noncomputable def Iu(lo:Int)(n:Nat):List D:=(zq n).map λ(k:Nat)=>D.int (lo-(k:Int))
def rng3(ds:List D)(G:DH):R ItD:=match ds with
 |[.int i,.int j,.int k]=>if inR i/\inR j/\k= -1 then .ok (.pure (Iu i (i-j).toNat)) G else .bad
 |_=>.bad
theorem ZLu(lo:Int)(n:Nat):RepI a (.pure (Iu lo n)) (Itd lo n):=by
 refine⟨(zq n).map λ(k:Nat)=>V.int (lo-(k:Int)),?_,λb x i=>⟨λv hv=>?_,λhl=>?_⟩⟩
 ·unfold Iu;generalize zq n=l
  induction l with
  |nil=>exact rfl
  |cons k l ih=>exact⟨_,_,rfl,rfl,ih⟩
 ·rw[z0]at hv;by_cases hi:i<n
  ·rw[zF hi]at hv;have hv':V.int (lo-(i:Int))=v:=by simpa using hv
   exact⟨hi,λw H' y=>⟨y.2.trans hv',y.1⟩⟩
  ·rw[zB (by simpa using hi)]at hv;cases hv
 ·show n<=i;simpa using hl
theorem ZNE{tg e' e'':jN}{p pos:Pos}(hg:Gl X "range")(hm:X.mg "range"=v4)(ha:QA X E [e,e',e''] ta)(hs:xP [e,e',e''] X.env=(v6,eval e X.env)::xP [e',e''] X.env:=by rfl)(hs2:(xV pos (xP [e',e''] X.env)).any (·.1)=v6:=by rfl):
  QI X E tg (.Call (.Name "range" p) [e,e',e''] [] pos) (Di rng3 ta):=
 (ZMO hg hm ha hs hs2).mono λσ H Q h=>by
  obtain⟨a,S,G,hk,rfl,s,r,h⟩:=h;refine⟨a,S,G,hk,rfl,s,r,(Pq h).imp ?_⟩;rintro vs _ ⟨b,ds,G1,rfl,x,s1,q,-,h1⟩;unfold rng3 at h1;split at h1
  ·rename_i i j k;split at h1
   ·rename_i hj;obtain⟨hi,hj,rfl⟩:=hj;obtain⟨v,r,e1,q1,v2,r2,e2,q2,v3,r3,e3,q3,q4⟩:=q
    cases(show v=V.int i from q1)
    cases(show v2=V.int j from q2)
    cases(show v3=V.int (-1)from q3)
    cases(show r3=[]from q4)
    subst e3;subst e2;exact⟨i,j,e1,⟨hi.1,hi.2,hj.1,hj.2⟩,h1 b _ (Ext.refl b) s1 (ZLu i (i-j).toNat)⟩
   ·exact h1.elim
  ·exact h1.elim
end
theorem ZNW(a b:xQ):checkTypeCall "enumerate" ⟨[a],[("start",b)]⟩=pure ():=by kernel_rfl
theorem ZJl(a b:xQ):xj "enumerate.__new__" ⟨[.type "enumerate",a],[("start",b)]⟩=pure ():=by kernel_rfl
theorem ZOs(o a b:xQ):argsOk "object.__init__" ⟨[o,a],[("start",b)]⟩:=by
 unfold argsOk;rw[signature?_of (id:="object.__init__") (n:=['_','_','t','i','n','i','_','_']) (o:=['t','c','e','j','b','o']) (by kernel_rfl) PySem.F.owner_object]
 kernel_rfl
section
variable{prog:jR}{w:xZ}{A:jM}{E:xQ->jT->Prop}{s:jT}
theorem ZHu{newId:String}{self a:xQ}{kw:List (Str×xQ)}(hl:typeLookup (.type T) "__init__"=pure (vk (.builtin "object.__init__")))(hm:Bind.madeBy (.type T)=pure (vk newId))(hne:(vk newId != vk "object.__new__")=v5):
  Meets (Builtin.«object.__init__» ⟨[self,a],kw⟩) (λ_ R s=>s.TypeIs self T/\R (.ok (.ret .none)) s):=by
 refine Meets.of_wp λprog w A R s hs=>?_
 obtain⟨hT,hq⟩:=hs
 repeat (any_goals (first|assumption|wp_step))
 exact⟨_,rfl,hq⟩
theorem ZLY{newId initId:String}{Bn Bi:Builtin}{args:List xQ}{kw:List (Str×xQ)}{S:PySem.Spec}{Q Q₁:xQ->jT->Prop}(ft:TypeCalled T newId initId)
  (hct:checkTypeCall T ⟨args,kw⟩=pure ()) (hcn:xj newId ⟨.type T::args,kw⟩=pure ())
  (entryN:entryFor table newId=vk Bn) (entryI:entryFor table initId=vk Bi) (g:Meets (Bn ⟨.type T::args,kw⟩) S) (h:S A.in1 (wants Q₁ E) s)
  (hnext:∀obj s₁,Q₁ obj s₁->s₁.TypeIs obj T/\argsOk initId ⟨obj::args,kw⟩/\∃Si,Meets (Bi ⟨obj::args,kw⟩) Si/\Si A.in1 (wants (λr s₂=>r=.none/\Q obj s₂) E) s₁):
  xS (xL prog w) A (call (.type T) args kw) Q E s:=by
 obtain⟨c,tl,hmro⟩:=ft.mro;have hmade:=ft.made;have hsub:=ft.sub;refine wpAny_call (codeAny_of_tree ?_);show xS _ _ (callAny (.type T) _) _ _ _;refine vY ⟨Code.quiet_builtin _ (by decide +kernel),codeAny_builtin PySem.F.entry_type_call ?_⟩;rw[Around.under_plain (weight_type_call_type T args kw) (units_type_call_type T args kw)];have h1:=ft.notType;have h2:=ft.canCreate
 repeat (any_goals (first|assumption|wp_step))
 refine xk (codeAny_call_builtin ft.plain entryN (wpAny_of_eq hcn (g prog w A.in1 _ s h))) λr s₁ hr=>?_
 cases r with
 |error e=>exact hr
 | ok fl=>
  cases fl with
  | ret obj=>
   obtain⟨hT,hok,Si,gi,hsi⟩:=hnext _ _ hr;have hli:=ft.init.lookup;have hbi:=ft.init.bind obj
   repeat (any_goals (first|assumption|wp_step))
   refine xk (codeAny_call_builtin ft.init.plain entryI (ft.init.check _ _ _ _ _ _ _ _ hT hok (gi prog w A.in1 _ s₁ hsi))) λr₂ s₂ hr₂=>?_
   cases r₂ with
   |error e=>exact hr₂
   | ok fl₂=>
    cases fl₂ with
    |ret r=>
     obtain⟨rfl,hq⟩:=hr₂
     repeat (any_goals (first|assumption|wp_step))
    |_=>exact hr₂.elim
  |_=>exact hr.elim
theorem ZP8{sr:Src}{xs:Array xQ}{n:Int}{t:Tok}{Q:xQ->jT->Prop}(hv:sr.val s.heap xs)
  (h:∀h' tk g,Gv n g->En h' (s.heap.objs.size+1) s.heap.objs.size .none n g .none->sr.it h' s.heap.objs.size 0->(∀b o,s.heap.get? b=vk o->h'.get? b=vk o)->Q (.ref (s.heap.objs.size+1)) {s with heap:=h',toks:=tk}):
  xS (xL prog w) A (call (.type "enumerate") [.ref sr.adr] [("start",.int n t)]) Q E s:=by
 have g:Meets (Builtin.«enumerate.__new__» ⟨[.type "enumerate",.ref sr.adr],[("start",.int n t)]⟩) (λ_ R s=>sr.val s.heap xs/\∀g tk,Gv n g->
   R (.ok (.ret (.ref (s.heap.push {cls:=.type sr.itn,data:=.fields #[.ref sr.adr,.int 0 0]}).objs.size)))
    {s with heap:=(s.heap.push {cls:=.type sr.itn,data:=.fields #[.ref sr.adr,.int 0 0]}).push {cls:=.type "enumerate",data:=.fields #[.none,.bool v6,.ref s.heap.objs.size,xM n,g,.none]},toks:=tk}):=
  .of_wp λprog w A R s h=>by
   obtain⟨hp,g,d,tk,os⟩:=s;obtain⟨hl,h⟩:=h;have hsub:=sub_enumerate;have hL:sr.val (Shared.heap ⟨hp,g,d,tk,os⟩) xs:=hl
   wp_walk
   refine wpAny_stack_any λst=>vY ?_
   cases hf:Builtin.SmallTypes.fitsIndex n
   ·split
    ·rename_i c _ _ _ _ _
     cases(c==Value.type "enumerate")<;>(wp_walk using Src.iter hL;exact⟨_,rfl,h _ _ (.inr ⟨t,rfl⟩)⟩)
    ·wp_walk using Src.iter hL
     exact⟨_,rfl,h _ _ (.inr ⟨t,rfl⟩)⟩
   ·split
    ·rename_i c _ _ _ _ _
     cases(c==Value.type "enumerate")<;>(wp_walk using Src.iter hL;exact⟨_,rfl,h _ _ (.inl rfl)⟩)
    ·wp_walk using Src.iter hL
     exact⟨_,rfl,h _ _ (.inl rfl)⟩
 refine ZLY (Q₁:=λobj s₁=>s₁.TypeIs obj "enumerate"/\Q obj s₁) PySem.F.called_enumerate (ZNW _ _) (ZJl _ _) PySem.F.entry_enumerate_new PySem.F.entry_object_init g ⟨hv,λg tk hg=>?_⟩ λobj s₁ hq=>⟨hq.1,ZOs obj _ _,_,ZHu PySem.F.called_enumerate.init.lookup PySem.F.called_enumerate.made (by decide),hq.1,rfl,hq.2⟩
 have hz:(s.heap.push {cls:=.type sr.itn,data:=.fields #[.ref sr.adr,.int 0 0]}).objs.size=s.heap.objs.size+1:=qV ..;show _/\_;rw[hz];have he:En ((s.heap.push {cls:=.type sr.itn,data:=.fields #[.ref sr.adr,.int 0 0]}).push {cls:=.type "enumerate",data:=.fields #[.none,.bool v6,.ref s.heap.objs.size,xM n,g,.none]}) (s.heap.objs.size+1) s.heap.objs.size .none n g .none:=by
  have:=zy (s.heap.push {cls:=.type sr.itn,data:=.fields #[.ref sr.adr,.int 0 0]}) (o:={cls:=.type "enumerate",data:=.fields #[.none,.bool v6,.ref s.heap.objs.size,xM n,g,.none]}) rfl;rw[hz]at this;exact this
 exact⟨⟨_,he,rfl⟩,h _ tk g hg he ⟨_,zQ _ (zy _ rfl),rfl,rfl⟩ λb o x=>zQ _ (zQ _ x)⟩
theorem ZOv{M:Model}{A:jM}{E:xQ->jT->Prop}{s:jT}{env:Env}{pos:Pos}{rest:List jN}{kws:List Keyword}{Q:xQ->jT->Prop}
  (hall:(xW pos (xG kws env)).all (·.1.isSome)=v5)
  (h:xS M A (spliced (xV pos (xP (e::rest) env))) (λvs s₁=>xS M A (evalAll ((xW pos (xG kws env)).map (·.2)))
   (λks s₂=>xS M A (call (.type T) vs (((xW pos (xG kws env)).filterMap (·.1)).zip ks)) Q E s₂) E s₁) E s)
  (hplain:(xV pos (xP (e::rest) env)).any (·.1)=v6) (hkw:(xW pos (xG kws env)).any (·.1.isNone)=v6) (he:xP (e::rest) env=(v6,eval e env)::xP rest env):
  xS M A (callWith pos (.type T) [] (xV pos (xP (e::rest) env)) (xW pos (xG kws env))) Q E s:=by
 unfold callWith;refine xU (vX (vV (PyProof.Rows.evalArgs_kw2 (Q:=λa s₁=>xS M A (call (.type T) ([]++a.pos) a.kw) Q E s₁) hall h he) (λa s₁ h₁=>xU (wpAny_standAt ?_)) λ_ _ x=>x));simp only[hplain,hkw,Bool.or_false];refine xU (vY ?_);exact xU (vV h₁ (λr s₂ hr=>xU (vX (wpAny_point (vY hr)))) λ_ _ x=>x)
end
section
variable{X:Cx}{E:XK}
def ZL6(K:PySem.W.Frag)(ta tk:TA):TI:=λσ H R=>ta σ H λvs H1=>tk σ H1 λws H2=>∃sr xs n,vs=[.ref (Src.adr sr)]/\ws=[.int n]/\sr.sq K H2 xs/\R (Ite K sr n) H2
theorem ZP6{elts:List jN}{x1}{tp:Pos}{a b:jN}{ta tk:TA}{p pos kp:Pos}(hg:Gl X "enumerate")(hm:X.mg "enumerate"=v4)(ha:PA X [a] ta)(hk:PK X [⟨vk "start",b,kp⟩] tk)(hs:xP [a] X.env=[(v6,eval a X.env)]:=by rfl):
  PI X (.Tuple elts x1 tp) (.Call (.Name "enumerate" p) [a] [⟨vk "start",b,kp⟩] pos) (ZL6 X.K ta tk):=by
 intro vv s σ H R I h;refine xT (Hc I hg hm PyProof.Rows.boot_enumerate (ZOv rfl (thn (ha pos vv s σ H _ I h) λus s1 ⟨vs,H1,I1,r1,q1⟩=>thn (hk pos vv s1 σ H1 _ I1 q1) λus2 s2 ⟨ws,H2,I2,r2,q2⟩=>?_) (by rw[hs];rfl) rfl hs));obtain⟨sr,xs,n,e,e2,hq,q⟩:=q2;subst e;subst e2;cases r1 with
 |cons r rr=>
  cases rr;cases r;obtain⟨u,rfl,ru⟩:=r2.one;obtain⟨t,rfl⟩:=ru;obtain⟨its,rv,hv,hz⟩:=Src.sq.val I2 hq;refine ZP8 hv λh' tk g hg he hi kp=>?_
  refine ZA1 he ?_;have I3:Inv X vv σ H2 {s2 with heap:=h',toks:=tk}:=I2.kept (t':=tk) kp;refine⟨s2.heap.objs.size+1,[s2.heap.objs.size+1,s2.heap.objs.size],_,_,H2,rfl,I3,ZEs sr n _ _ (Nat.succ_ne_self _),⟨g,.none,by simpa using he,by simpa using hg,hi⟩,λb hb=>?_,q⟩;have hb':b=s2.heap.objs.size+1∨b=s2.heap.objs.size:=by simpa using hb
  have hle:s2.heap.objs.size<=b:=by rcases hb' with rfl|rfl<;>lia
  exact I2.Hh hle (I2.hok.fresh hle)
theorem ZJd{sr:Src}{n0:Int}(hk:a.K=X.K)(rd:∀b:Wd,Ext a b->∀G',Sim b G'->∀ys,Bj d G'=vk ys->∃us,sr.sq b.K b.H us/\Reps b ys us)(n:Nat):RepI a (.fn n (Dt n0 d)) (Ite X.K sr n0):=by
 intro b x G' s' i;have kb:b.K=X.K:=x.k.trans hk;constructor
 ·intro e he;unfold Dt at he;split at he
  ·cases he
  ·rename_i ys hy;obtain⟨us,hq,ru⟩:=rd b x G' s' ys hy;rw[kb]at hq;cases hyi:ys[i]? with
   |none=>rw[hyi]at he;cases he
   |some y=>
    rw[hyi]at he;have he':D.tup [.int (n0+i),y]=e:=by simpa using he
    subst he';obtain⟨u,hu,rx⟩:=ru.get hyi;refine⟨⟨us,u,hq,hu⟩,?_⟩;rintro w H' ⟨p,u',rfl,hp,rfl,hu'⟩;refine⟨b.put p (.tup [.int (n0+i),u']),rfl,Ext.put hp,s'.put hp,p,_,rfl,.of Dv,?_⟩;have e1:=hu' us hq;rw[hu]at e1;cases e1;exact⟨_,_,rfl,rfl,Reps.cons (rx.mono (Ext.put hp)) rfl⟩
 ·intro he;unfold Dt at he;split at he
  ·cases he
  ·rename_i ys hy;obtain⟨us,hq,ru⟩:=rd b x G' s' ys hy;rw[kb]at hq;cases hyi:ys[i]? with
   |none=>exact⟨us,hq,by rw[<-ru.length];exact qF.mp hyi⟩
   |some y=>rw[hyi]at he;cases he
def ZBm(ta:DA)(tb:DE):DI:=λS G=>(ta S G).bind λds G1=>(tb S G1).bind λk G2=>match ds,k with
 |[d],.int n=>match Bj d G2 with
  |some xs=>.ok (.fn xs.length (Dt n d)) G2
  |none=>.bad
 |_,_=>.bad
theorem ZNf{b:jN}{nm:Option Str}{kp:Pos}{tb:DE}(hb:QE X E b tb):PK X [⟨nm,b,kp⟩] (R4 (lE X.K E tb) Ow):=ZNu hb ZL8
theorem ZLU{E:XK}{r:R D}{f:D->DH->R ItD}{Q:It->Hp->Prop}(h:outI E a (r.bind f) Q):
  out E a r (λv H=>∃(b:Wd)(d:D)(G:DH),b.H=H/\Ext a b/\Sim b G/\Rep b d v/\outI E b (f d G) Q):=by
 cases r with
 |ok d G=>exact λb v x s q=>⟨b,d,G,rfl,x,s,q,outI.mono x h⟩
 |err e G=>exact h
 |bad=>exact h
theorem ZLV{elts:List jN}{x1}{tp:Pos}{b:jN}{tb:DE}{p pos kp:Pos}(hg:Gl X "enumerate")(hm:X.mg "enumerate"=v4)(ha:QA X E [e] ta)(hb:QE X E b tb)(hs:xP [e] X.env=[(v6,eval e X.env)]:=by rfl):
  QI X E (.Tuple elts x1 tp) (.Call (.Name "enumerate" p) [e] [⟨vk "start",b,kp⟩] pos) (ZBm ta tb):=(ZP6 hg hm ha (ZNf hb) hs).mono λσ H Q h=>by
 obtain⟨a,S,G,hk,rfl,s,r,h⟩:=h;refine⟨a,S,G,hk,rfl,s,r,(Pq h).imp ?_⟩;rintro vs _ ⟨b,ds,G1,rfl,x,s1,q,-,h1⟩;refine⟨b,S,G1,x.k.trans hk,rfl,s1,r.mono x,(ZLU h1).imp ?_⟩;rintro v _ ⟨c,k,G2,rfl,y,s2,q2,h2⟩;split at h2
 ·rename_i d n;split at h2
  ·rename_i xs hx;obtain⟨w,r,e1,q1,q3⟩:=q
   cases(show r=[]from q3)
   subst e1
   cases(show v=V.int n from q2)
   obtain⟨sr,rfl,⟨us,hq⟩,rd⟩:=ZAj s2 (q1.mono y) hx;have kb:c.K=X.K:=(y.k.trans x.k).trans hk;exact⟨sr,us,n,rfl,rfl,by rw[<-kb];exact hq,h2 c _ (Ext.refl c) s2 (ZJd kb rd _)⟩
  ·exact h2.elim
 ·exact h2.elim
end
end _D
namespace _D
open PySem PySem.Spec _L
variable{d:D}
def Iw(c f:Str)(d:D)(G:DH):R D:=match Hv c d G with
 |some fs=>match fs.lookup f with
  |some v=>.ok v G
  |none=>.bad
 |none=>.bad
def Mh(c f:Str)(o d:D)(S:DSt)(G:DH):SR:=match o with
 |.ref i=>match Hv c o G with
  |some fs=>if fs.length<1000 then .nx S (G.set i (.ins c (Ez f d fs)))else .bad
  |none=>.bad
 |_=>.bad
def T4(c m:Str)(F:List D->DH->R D)(t:DA)(S:DSt)(o:D)(G:DH):R D:=match Hv c o G with
 |some fs=>match fs.lookup m with
  |none=>(t S G).bind λds G2=>F (o::ds) G2
  |some _=>.bad
 |none=>.bad
def Yg(F:List D->DH->R D)(c:Str)(ds:List D)(G1:DH):R D:=(F (.ref G1.length::ds) (G1++[.ins c []])).bind λv G2=>match v with
 |.non=>.ok (.ref G1.length) G2
 |_=>.bad
section
variable{S:DSt}{G:DH}{c f m:Str}{t to tv:DE}{ta:DA}{F:List D->DH->R D}{i:Nat}{fs:List (Str×D)}{v d:D}
@[simp]theorem ev_fld:Do c t f S G=(t S G).bind λd G1=>Iw c f d G1:=id rfl
@[simp]theorem Lq:Et c to tv f S G=(tv S G).toS λd G1=>(to S G1).toS λo G2=>Mh c f o d S G2:=id rfl
@[simp]theorem ZQl:Gy c m F to ta S G=(to S G).bind λo G1=>T4 c m F ta S o G1:=id rfl
@[simp]theorem ZQt:Y7 c F ta S G=(ta S G).bind λds G1=>Yg F c ds G1:=id rfl
theorem Yl(h:G[i]?=vk (.ins c fs)):Hv c (.ref i) G=vk fs:=by unfold Hv;simp only[h,if_true]
theorem Mi(h:G[i]?=vk (.ins c fs))(h2:fs.lookup f=vk v):Iw c f (.ref i) G=.ok v G:=by unfold Iw;rw[Yl h];simp only[h2]
theorem ZPg(h:G[i]?=vk (.ins c fs))(hl:fs.length<1000):Mh c f (.ref i) d S G=.nx S (G.set i (.ins c (Ez f d fs))):=by unfold Mh;simp only[Yl h,hl,if_true]
theorem ZMR(h:G[i]?=vk (.ins c fs))(h2:fs.lookup m=v4):T4 c m F ta S (.ref i) G=(ta S G).bind λds G2=>F (.ref i::ds) G2:=by unfold T4;rw[Yl h];simp only[h2]
@[simp]theorem ev_LR:dLR ta S G=(ta S G).bind λds G1=>match ds with
 |[.int j]=>if inR j/\j<=1000000 then .ok (.ref G1.length) (G1++[.lst (Dz 0 j.toNat)])else .bad
 |_=>.bad:=id rfl
@[simp]theorem ZIQ{i j:Int}(hi:inR i)(hj:inR j):rng3 [.int i,.int j,.int (-1)] G=.ok (.pure (Iu i (i-j).toNat)) G:=by simp[rng3,hi,hj]
theorem ZKT{lo:Int}:Iu lo 0=[]:=rfl
theorem ZP4{lo:Int}{n:Nat}:Iu lo (n+1)=.int lo::Iu (lo-1) n:=by
 unfold Iu;rw[qC,zk,jz]
 congr 1
 ·simp
 ·refine qE λk _=>?_
  simp only[Function.comp]
  congr 1
  lia
theorem ZOS{ns:List Int}{k:Int}(h:Gr d G=vk (ns.map D.int))(hm:k∈ns)(hl:ns.length<=1000000):Li d [.int k] G=.ok (.int (ns.idxOf k)) G:=by unfold Li;simp only[h,Xc,hm,hl,and_self,if_true]
theorem ZJ2{G G':DH}(hl:G'.length=G.length)(hb:bel G.length d=v5):tidy G (.ok d G')=.ok d G':=by
 unfold tidy;simp only[hb,if_true];split
 ·rename_i h;rw[List.take_of_length_le (by lia)]at h;rw[h]
 ·rfl
theorem ZOi{G G':DH}(h:G'.take G.length≠G):tidy G (.ok d G')=.ok d G':=by unfold tidy;simp only[h,if_false]
end
end _D
namespace _D
open PySem PySem.Spec _L
open PyProof.Rows hiding St
def ZBb(x:Str)(n:Int):Str:=if n<1 then Str.empty else if(n==1||x.length==0)=v5 then x else⟨(zw n.toNat x.cps).foldl (·++·) #[]⟩
theorem ZGK{a:Array Nat}:∀(n:Nat)(b:Array Nat),((zw n a).foldl (·++·) b).toList=b.toList++(zw n a.toList).flatten
 |0,b=>by simp
 |n+1,b=>by rw[zT,jY,ZGK n (b++a),zT,q9];simp
theorem ZJK{a:Array Nat}(n:Nat):((zw n a).foldl (·++·) #[]).size=n*a.size:=by rw[<-qq,ZGK];simp
def Dg:D->D->DH->R D
 |.int i,.int j,G=>if MulB i j then .ok (.int (i*j)) G else .bad
 |.str x,.int n,G=>if -1000<=n/\n<=1000/\x.length<=1000 then .ok (.str (ZBb x n)) G else .bad
 |_,_,_=>.bad
section
variable{X:Cx}{E:XK}
theorem ZIx:OpR X (xY .Mult) (λx y H Q=>∃i n,x=.str i/\y=.int n/\(-1000<=n/\n<=1000/\i.length<=1000)/\Q (.str (ZBb i n)) H):=by
 intro vv s σ H x y v u Q I rx ry h;obtain⟨i,n,rfl,rfl,⟨h1,h2,h3⟩,q⟩:=h;obtain⟨t,rfl⟩:=rx;obtain⟨t',rfl⟩:=ry;have hlen:∀m:Nat,m<=1000->i.length*m<=1000000:=λm hm=>z8 (Nat.mul_le_mul h3 hm) (by decide)
 refine P.mul_str ?_ (λhn hx=>?_) (λhn hx=>?_) ?_
 ·rw[decide_eq_false (by lia),decide_eq_false (by lia)];rfl
 ·intro hgt;have hm:0<n:=by lia
  have:(i.length:Int)*n<=2^63-1:=by have h4:(i.length:Int)*n<=1000*1000:=Int.mul_le_mul (by lia) h2 (by lia) (by lia);lia
  have h5:=(Int.le_ediv_iff_mul_le hm).mpr this;lia
 ·have:=hlen n.toNat (by lia);unfold Builtin.Str.tooLong;rw[xN];exact decide_eq_false (by lia)
 ·unfold ZBb at q;split
  ·rename_i hn;rw[if_pos hn]at q;exact⟨by decide,.str Str.empty,H,I.tok _,⟨_,rfl⟩,q⟩
  ·rename_i hn;rw[if_neg hn]at q;split
   ·rename_i hx;rw[if_pos hx]at q;exact⟨.str i,H,I,⟨t,rfl⟩,q⟩
   ·rename_i hx;rw[if_neg hx]at q;refine⟨?_,.str _,H,I.tok _,⟨_,rfl⟩,q⟩
    show((zw n.toNat i.cps).foldl (·++·) #[]).size<=sizeLine
    have h6:i.cps.size<=1000:=h3;have h7:=Nat.mul_le_mul (show n.toNat<=1000 by lia) h6;rw[ZJK,xN];lia
theorem Ha:OpR X (xY .Mult) (lR2 X.K E Dg):=Ey (ZHo.or ZIx) λa G d e x y Q hk s rd re q=>by
 cases d<;>cases e<;>first
  |exact q.elim
  | (
    rename_i i j;unfold Dg at q;dsimp only at q;split at q
    ·first
     |exact .inl ⟨_,_,rd,re,by assumption,q a _ (Ext.refl a) s rfl⟩
     |exact .inr ⟨_,_,rd,re,by assumption,q a _ (Ext.refl a) s rfl⟩
    ·exact q.elim)
end
section
variable{i j:Int}{G:DH}
theorem M6(h1: -(2^64)<i)(h2:i<2^64):Dg (.int i) (.int j) G=.ok (.int (i*j)) G:=if_pos (.inl (.inl ⟨h1,h2⟩))
theorem ZEv(h1: -(2^64)<j)(h2:j<2^64):Dg (.int i) (.int j) G=.ok (.int (i*j)) G:=if_pos (.inl (.inr ⟨h1,h2⟩))
@[simp]theorem ZQy{n:Nat}(h:n<18446744073709551616):Dg (.int (no_index (OfNat.ofNat n))) (.int j) G=.ok (.int (OfNat.ofNat n*j)) G:=
 M6 (by have:(0:Int)<=(OfNat.ofNat n:Int):=Int.natCast_nonneg n;lia) (by have:(OfNat.ofNat n:Int)<18446744073709551616:=Int.ofNat_lt.mpr h;lia)
@[simp]theorem ZQo{n:Nat}(h:n<18446744073709551616):Dg (.int i) (.int (no_index (OfNat.ofNat n))) G=.ok (.int (i*OfNat.ofNat n)) G:=
 ZEv (by have:(0:Int)<=(OfNat.ofNat n:Int):=Int.natCast_nonneg n;lia) (by have:(OfNat.ofNat n:Int)<18446744073709551616:=Int.ofNat_lt.mpr h;lia)
end
section
variable{X:Cx}{E:XK}{e st:jN}{te:TE}{ts:TO}{p2 pos:Pos}
end
section
variable{S:DSt}{G:DH}
end
section
variable{X:Cx}{E:XK}
theorem ZDo{a:Wd}:∀(l:List Str),Reps a (l.map D.str) (l.map V.str)
 |[]=>Reps.nil
 |x::l=>Reps.cons (show Rep a (.str x) (V.str x)from rfl) (ZDo l)
def TupG(K:PySem.W.Frag)(mg:Str->Option xQ)(n:Str)(ss:List Str):Prop:=∃(p:jL)(o:Obj)(its:Array xQ)(k:Nat),mg n=vk (.ref p)/\K.lookup p=vk o/\o.cls=.type "tuple"/\o.data=.seq its k/\its.size<=sizeLine/\Vals (ss.map V.str) its.toList
theorem ZJt{K:PySem.W.Frag}{h:Heap}{mg:Str->Option xQ}{n:Str}{p:jL}{od:Option jL}{sl:Array (Option xQ)}{k:Nat}{its:List xQ}{ss:List Str}(KX:K.In h)(G:h.Ns xI mg)(a:PySem.W.nsIn K xI n=vk (vk (.ref p)))
  (l:K.lookup p=vk ⟨.type "tuple",od,.seq its.toArray k,sl⟩) (hs:its.length<=1000) (v:Vals (ss.map V.str) its):TupG K mg n ss:=
 ⟨p,_,its.toArray,k,PySem.W.mg_of KX G a,l,rfl,rfl,by rw[zX];exact z8 hs (by decide),by simpa using v⟩
theorem ZPM{x:Str}{ss:List Str}{pos:Pos}(hg:Gl X x)(h:TupG X.K X.mg x ss)(hd:(x==("__debug__":Str))=v6:=by decide):QE X E (.Name x pos) (dC (.tup (ss.map D.str))):=by obtain⟨p,o,its,k,h1,h2,h3,h4,h5,h6⟩:=h;exact Bk (v:=.ref p) hg h1 rfl (λa ha=>⟨p,ss.map V.str,rfl,.inr ⟨o,its,k,by rw[ha];exact h2,h3,h4,h5,h6⟩,ZDo ss⟩) hd
end
section
variable{S:DSt}{G:DH}
end
section
variable{X:Cx}{vv:List (jL×Obj)}{σ:St}{H:Hp}{s:jT}{N:List Str}{scope:jS}{caps:List Nat}{x qual:Str}{f:jL}{cd:xQ}{A:jM}
end
section
variable{X:Cx}{vv:List (jL×Obj)}{σ:St}{s:jT}{scope:jS}{a:Wd}
end
section
variable{prog:jR}{w:xZ}{A:jM}{E:xQ->jT->Prop}{s:jT}
end
section
variable{X:Cx}{vv:List (jL×Obj)}{σ:St}{H:Hp}{s:jT}{h':Heap}{m:Str->Option xQ}
end
section
variable{X:Cx}{vv:List (jL×Obj)}{σ:St}{N:List Str}{scope:jS}{caps:List Nat}{x:Str}{f:jL}{A:jM}{a:Wd}{S:DSt}{body:jN}{te:DE}{params:Arguments}{pm ctv:xQ}{c':jL}{ob oc:Obj}{vs0:Array xQ}{t0:Tok}{E:XK}
 {Dd kS:jL} {e1:Nat} {m:Str->Option xQ} {h₀:Heap} {Q:VK}
end
end _D
namespace _D
open PySem PySem.Spec _L
open PyProof.Rows hiding St
open PySem.W (KatKeys KatFin katRev KatBack)
section
variable{prog:jR}{w:xZ}{A:jM}{E:xQ->jT->Prop}{s:jT}{h₀:Heap}{L a kS:jL}{m:Str->Option xQ}{P:PySem.Fin->jT->Prop}
end
end _D
namespace _D
open PySem PySem.Spec _L
open PyProof.Rows hiding St
section
variable{X:Cx}{vv:List (jL×Obj)}{σ:St}{N:List Str}{scope:jS}{caps:List Nat}{x:Str}{f:jL}{A:jM}{a:Wd}{S:DSt}{body:jN}{te:DE}{params:Arguments}{pm ctv:xQ}{c':jL}{ob oc:Obj}{vs0:Array xQ}{t0:Tok}
 {Dd kS:jL} {e1:Nat} {m:Str->Option xQ} {h₀:Heap} {Q:VK}
end
section
variable{X:Cx}{vv:List (jL×Obj)}{σ:St}{N:List Str}{scope:jS}{caps:List Nat}{x:Str}{f:jL}{A:jM}{a:Wd}{S:DSt}{body:jN}{te:DE}{params:Arguments}{pm ctv:xQ}{c':jL}{ob oc:Obj}{vs0:Array xQ}{t0:Tok}{Q:VK}
end
section
variable{X:Cx}{N:List Str}{scope:jS}{caps:List Nat}{x:Str}{body:jN}{te:DE}{params:Arguments}{e:jN}{tn:DA}{p p' pos pos' lp kp kp' cp:Pos}{C m:Str}{cj:Nat}
end
end _D
namespace _D
open PySem PySem.W _L
variable{h:Heap}{K:vj}{C:jL}{m x q:Str}{st:jU}{mg:Str->Option xQ}
theorem ZDu{a:jL}{o:Obj}:∀{l:List Obj}{n:Nat},(Lz l n).lookup a=vk o->n<=a/\l[a-n]?=vk o/\∀x y z,o≠⟨x,y,.freed,z⟩
 |[],n,h=>by cases h
 | p::r,n,h=>by
  have next:(Lz r (n+1)).lookup a=vk o->n<=a/\(p::r)[a-n]?=vk o/\∀x y z,o≠⟨x,y,.freed,z⟩:=λh=>by obtain⟨h1,h2,h3⟩:=ZDu h;obtain⟨k,rfl⟩:=Nat.exists_eq_add_of_le h1;rw[Nat.add_sub_cancel_left]at h2;refine⟨z8 (qR n) h1,?_,h3⟩;rw[show n+1+k-n=k+1 by rw[Nat.add_assoc,Nat.add_sub_cancel_left,Nat.add_comm],jX];exact h2
  unfold Lz at h;split at h
  ·exact next h
  ·exact next h
  ·rename_i hz hf;rw[qO]at h;split at h
   ·rename_i e;have e':a=n:=by simpa using e
    subst e';cases h;refine⟨zY _,by simp,λx y z q=>?_⟩;subst q;exact hz rfl
   ·exact next h
theorem ZLl(h:Heap):(Pa h).In h:=λa o e=>by
 obtain⟨_,h2,h3⟩:=ZDu e;have h4:h.objs[a]?=vk o:=by simpa using h2
 unfold Heap.get?;rw[h4];split
 ·rename_i q;cases q;exact absurd rfl (h3 _ _ _)
 ·rfl
noncomputable def Ie(p:jR)(N:Nat)(w:xZ):Heap:=match openEnds xR p w N with
 |some s=>s.heap
 |none=>default
def Stays(p:jR)(N:Nat)(w:xZ)(h:Heap):Prop:=∀b o,(Ie p N w).get? b=vk o->h.get? b=vk o
theorem Stays.in{p:jR}{N:Nat}{w:xZ}(x:Stays p N w h):(Pa (Ie p N w)).In h:=λa o e=>x a o (ZLl _ a o e)
def U4(p:jR)(N:Nat):Hook:=
 ⟨Heap,λs=>s.heap,Ie p N,Stays p N,λw s e b o q=>by rw[show s.heap=Ie p N w from e];exact q,λw h h' x k b o q=>k b o (x b o q)⟩
section
variable{p q:jR}{loose:List Str}{Xt:jT->Bool}{N:Nat}{β:Type}{see:Heap->β}{val:β}
theorem ZNN(E:∀w,(openEnds xR p w N).map (λs=>(openSeen q loose (x0 p.main.body) Xt v5 s,see s.heap))=vk (openGood q loose,val)):
  LeftO p q loose Xt (U4 p N).obs (U4 p N).val N:=λw=>by
 obtain⟨s,h1,h2⟩:=zA.mp (E w);show Option.map _ _=vk (openGood q loose,Ie p N w);unfold Ie;rw[h1];show vk (openSeen q loose (x0 p.main.body) Xt v5 s,s.heap)=_;rw[(Prod.mk.inj h2).1]
theorem ZPc(E:∀w,(openEnds xR p w N).map (λs=>(openSeen q loose (x0 p.main.body) Xt v5 s,see s.heap))=vk (openGood q loose,val))(w:xZ):see (Ie p N w)=val:=by obtain⟨s,h1,h2⟩:=zA.mp (E w);unfold Ie;rw[h1];exact(Prod.mk.inj h2).2
end
noncomputable def dOf(s:jU):DefRec:=match s with
 |Stmt.FunctionDef n a b _ _ _ s _ _ p=>⟨n,a,b,s,p⟩
 |_=>⟨Str.empty,⟨[],[],v4,[],[],v4,[]⟩,[],{kind:=.module,names:=[],isGenerator:=v6,isCoroutine:=v6,more:=[]},⟨0,0,0,0⟩⟩
theorem holds_top{l:OpenLaw}{q:jR}{loose:List Str}{N:Nat}{β:Type}{see:Heap->β}{val:β}{d:DefRec}(well:l.wellSaid=v5)
  (E:∀w,(openEnds xR l.prog w N).map (λs=>(openSeen q loose (x0 l.prog.main.body) (XtOf l q) v5 s,see s.heap))=vk (openGood q loose,val))
  (hdef:defOf q l.row.name=vk (d,[])) (hp:l.row.prog.theDef l.row.name=vk (d.params,d.body,d.scope)) (hk:kwWritten? d.params.kwonlyargs d.params.kw_defaults=vk []) (hwr:(!l.row.writes||l.row.records.isEmpty)=v5)
  (ok:(chainsOk q&&opensWell l.row.prog&&(frees l.row.toRowW&&l.row.within.isEmpty))=v5) (hb:l.row.prog.bare) (hw:l.row.toRowW.promised)
  (call:WalkO q loose (XL q []) (Stays l.prog N) l.row.toRowW d [] λf vs=>PySem.call f vs):l.Holds:=
 holds_law well λsaid=>holds_open (r:=l.row) (q:=q) (loose:=loose) (Xt:=XtOf l q) (XP:=XL q []) (YP:=Stays l.prog N) (N:=N) (ZNN E) (U4 l.prog N).of (U4 l.prog N).keeps
  (λs e=>xl_of s (qI.mp e).1) XL.keeps hdef hp hk (λs e=>recFacts_of (qI.mp e).2) hwr said ok hb hw call
theorem Lh{n:Str}(h:gOk K n=v5):nsIn K xI n=vk (vk (.ref (Af K n))):=by
 unfold gOk at h;unfold Af;split at h
 ·rename_i e;rw[e]
 ·cases h
theorem ZDF(h:mOk K C m=v5):findIn K (.ref C) m=vk (vk (.ref (De K C m)))/\isFn K (.ref (De K C m))=v5:=by
 unfold mOk at h;unfold De;split at h
 ·rename_i e;rw[e];exact⟨rfl,h⟩
 ·cases h
theorem ZCX(h:noF K C m=v5):findIn K (.ref C) m=vk v4:=by
 unfold noF at h;split at h
 ·assumption
 ·cases h
theorem ZIu{n:Str}(h:zOk K n=v5):nsIn K xI n=vk v4:=by
 unfold zOk at h;split at h
 ·assumption
 ·cases h
theorem ZET(h:S7 K C=v5):findIn K (.ref C) "__setattr__"=vk (vk (.builtin "object.__setattr__")):=by
 unfold S7 at h;split at h
 ·rename_i e;rw[e,beq_iff_eq.mp h]
 ·cases h
noncomputable def Ci(K:vj)(n:Str):Tok:=match nsIn K xI n with
 |some (vk (.int _ t))=>t
 |some (vk (.str _ t))=>t
 |_=>0
theorem ZJR{n:Str}{v:Int}(h:iOk K n v=v5):nsIn K xI n=vk (vk (.int v (Ci K n))):=by
 unfold iOk at h;unfold Ci;split at h
 ·rename_i e;rw[e,of_decide_eq_true h]
 ·cases h
theorem ZPl{n:Str}{v:Str}(h:sOk K n v=v5):nsIn K xI n=vk (vk (.str v (Ci K n))):=by
 unfold sOk at h;unfold Ci;split at h
 ·rename_i e;rw[e,of_decide_eq_true h]
 ·cases h
abbrev FnSaid(K:vj)(x q:Str)(st:jU)(f:jL):Prop:=
 K.lookup f=vk ⟨(Fq K f).cls,(Fq K f).dict,.func (fnOf x q (Eg st) (Cz st) (Am st) .none (An K f).kwdefaults (An K f).doc (An K f).pyModule (An K f).annotations (An K f).code (An K f).closureTuple),(Fq K f).slots⟩/\
  codeIn K (An K f).code q=v5/\keepIn K (.ref f)=v5
theorem ZDy{f:jL}(h:Vx K x q f=v5)(t:Ma K f=Ly st):FnSaid K x q st f:=by
 unfold Vx at h;split at h
 ·rename_i oc od fd sl e;have eo:Fq K f=⟨oc,od,.func fd,sl⟩:=by unfold Fq;rw[e]
  have ef:An K f=fd:=by unfold An;rw[eo]
  unfold Ma Ly at t;rw[ef]at t;obtain⟨t1,t2⟩:=Prod.mk.inj t;obtain⟨t2,t3⟩:=Prod.mk.inj t2;simp only[z5,decide_eq_true_eq,beq_iff_eq,List.isEmpty_iff]at h;obtain⟨⟨⟨h1,h2⟩,⟨⟨h3,h4⟩,h5⟩,h6⟩,h7,h8⟩:=h;unfold FnSaid;rw[ef,eo,e];refine⟨?_,h7,h8⟩;have h6':fd.defaults=.none:=by
   revert h6
   generalize fd.defaults=df;intro h6
   cases df<;>first|rfl|cases h6
  have h9:fd.body=.stmts (Cz st):=by
   revert t2
   generalize fd.body=bd;intro t2
   cases bd<;>first|(cases t2;rfl)|(cases t2)
  have ef':fd=fnOf x q (Eg st) (Cz st) (Am st) .none fd.kwdefaults fd.doc fd.pyModule fd.annotations fd.code fd.closureTuple:=by show FuncData.mk fd.name fd.qualname fd.params fd.body fd.scope fd.globals fd.closure fd.defaults fd.kwdefaults fd.doc fd.pyModule fd.annotations fd.code fd.closureTuple fd.builtins=_;rw[h1,h2,t1,h9,t3,h3,h5,h6',h4]
  exact congrArg (λz=>vk (Obj.mk oc od (.func z) sl)) ef'
 ·cases h
abbrev DfSaid(K:vj)(d:xQ)(v:Int):Prop:=∃T o t n,d=.ref T/\K.lookup T=vk o/\o.data=.seq #[.int v t] n
theorem ZJU{d:xQ}{v:Int}(h:dfl K d v=v5):DfSaid K d v:=by
 unfold dfl at h;split at h
 ·rename_i T;split at h
  ·rename_i o e;split at h
   ·rename_i a n e2;split at h
    ·rename_i i t e3;cases of_decide_eq_true h;refine⟨T,o,t,n,rfl,e,?_⟩;rw[e2]
     congr 1
     rw[<-Array.toList_inj,e3]
    ·cases h
   ·cases h
  ·cases h
 ·cases h
abbrev FnSaidD(K:vj)(x q:Str)(st:jU)(f:jL)(v:Int):Prop:=
 K.lookup f=vk ⟨(Fq K f).cls,(Fq K f).dict,.func (fnOf x q (Eg st) (Cz st) (Am st) (An K f).defaults (An K f).kwdefaults (An K f).doc (An K f).pyModule (An K f).annotations (An K f).code (An K f).closureTuple),(Fq K f).slots⟩/\
  codeIn K (An K f).code q=v5/\keepIn K (.ref f)=v5/\DfSaid K (An K f).defaults v
theorem ZPj{f:jL}{v:Int}(h:ZAQ K x q f v=v5)(t:Ma K f=Ly st):FnSaidD K x q st f v:=by
 unfold ZAQ at h;split at h
 ·rename_i oc od fd sl e;have eo:Fq K f=⟨oc,od,.func fd,sl⟩:=by unfold Fq;rw[e]
  have ef:An K f=fd:=by unfold An;rw[eo]
  unfold Ma Ly at t;rw[ef]at t;obtain⟨t1,t2⟩:=Prod.mk.inj t;obtain⟨t2,t3⟩:=Prod.mk.inj t2;simp only[z5,decide_eq_true_eq,beq_iff_eq,List.isEmpty_iff]at h;obtain⟨⟨⟨h1,h2⟩,⟨⟨h3,h4⟩,h5⟩,h6⟩,h7,h8⟩:=h;unfold FnSaidD;rw[ef,eo,e];refine⟨?_,h7,h8,ZJU h6⟩;have h9:fd.body=.stmts (Cz st):=by
   revert t2
   generalize fd.body=bd;intro t2
   cases bd<;>first|(cases t2;rfl)|(cases t2)
  have ef':fd=fnOf x q (Eg st) (Cz st) (Am st) fd.defaults fd.kwdefaults fd.doc fd.pyModule fd.annotations fd.code fd.closureTuple:=by show FuncData.mk fd.name fd.qualname fd.params fd.body fd.scope fd.globals fd.closure fd.defaults fd.kwdefaults fd.doc fd.pyModule fd.annotations fd.code fd.closureTuple fd.builtins=_;rw[h1,h2,t1,h9,t3,h3,h5,h4]
  exact congrArg (λz=>vk (Obj.mk oc od (.func z) sl)) ef'
 ·cases h
theorem T6:∀{l:List xQ}{ss:List Str},strsOf l=vk ss->Vals (ss.map V.str) l
 |[],ss,h=>by cases h;exact .nil
 |v::r,ss,h=>by
  unfold strsOf at h;split at h
  ·rename_i q;cases q
  ·rename_i s t r' q;cases q;obtain⟨ss',h1,rfl⟩:=zA.mp h;exact .cons ⟨_,rfl⟩ (T6 h1)
  ·cases h
abbrev GtSaid(K:vj)(n:Str)(vs:List Str):Prop:=∃(p:jL)(od:Option jL)(sl:Array (Option xQ))(k:Nat)(its:List xQ),nsIn K xI n=vk (vk (.ref p))/\K.lookup p=vk ⟨.type "tuple",od,.seq its.toArray k,sl⟩/\its.length<=1000/\Vals (vs.map V.str) its
theorem ZOb{n:Str}{vs:List Str}(h:ZAy K n vs=v5):GtSaid K n vs:=by
 unfold ZAy at h;split at h
 ·rename_i p e;split at h
  ·rename_i t od its k sl e2;simp only[z5,beq_iff_eq,decide_eq_true_eq]at h;obtain⟨⟨rfl,h2⟩,h3⟩:=h;exact⟨p,od,sl,k,its.toList,e,by rw[e2],qS h3,T6 h2⟩
  ·cases h
 ·cases h
theorem ZI6{n:Str}{vs:List Str}(X:K.In h)(G:h.Ns xI mg)(s:GtSaid K n vs):TupG K mg n vs:=by obtain⟨p,od,sl,k,its,h1,h2,h3,h4⟩:=s;exact ZJt X G h1 h2 h3 h4
abbrev GdSaid(K:vj)(n:Str)(kvs:List (Str×Str)):Prop:=∃(p:jL)(od:Option jL)(sl:Array (Option xQ))(k:Nat)(es:Array DictEntry),nsIn K xI n=vk (vk (.ref p))/\K.lookup p=vk ⟨.type "dict",od,.dict es k,sl⟩/\(p==sysModules)=v6/\Vals ((kvs.map (·.1)).map V.str) (es.toList.map (·.key))/\Vals ((kvs.map (·.2)).map V.str) (es.toList.map (·.val))
theorem ZMa{n:Str}{kvs:List (Str×Str)}(h:ZAk K n kvs=v5):GdSaid K n kvs:=by
 unfold ZAk at h;split at h
 ·rename_i p e;split at h
  ·rename_i t od es k sl e2;simp only[z5,beq_iff_eq,decide_eq_true_eq,Bool.not_eq_true']at h;obtain⟨⟨⟨rfl,h2⟩,h3⟩,h4⟩:=h;exact⟨p,od,sl,k,es,e,by rw[e2],h2,T6 h3,T6 h4⟩
  ·cases h
 ·cases h
def Ask.Said(K:vj):Ask->Prop
 |.fn n st=>nsIn K xI n=vk (vk (.ref (Af K n)))/\FnSaid K n n st (Af K n)
 |.mt c m q st=>findIn K (.ref (Af K c)) m=vk (vk (.ref (De K (Af K c) m)))/\isFn K (.ref (De K (Af K c) m))=v5/\FnSaid K m q st (De K (Af K c) m)
 | .cl c=>nsIn K xI c=vk (vk (.ref (Af K c)))/\plainGet K (Af K c) Str.empty=v5/\hasDictIn K (Af K c)=v5/\plainOver K (Af K c)=v5/\
   findIn K (.ref (Af K c)) "__setattr__"=vk (vk (.builtin "object.__setattr__"))/\makesIn K (Af K c)=v5/\keepIn K (.ref (Af K c))=v5
 |.no c x=>findIn K (.ref (Af K c)) x=vk v4
 |.z n=>nsIn K xI n=vk v4
 |.gi n v=>nsIn K xI n=vk (vk (.int v (Ci K n)))
 |.gs n v=>nsIn K xI n=vk (vk (.str v (Ci K n)))
 |.gt n vs=>GtSaid K n vs
 |.gd n kvs=>GdSaid K n kvs
 |.ck φ=>φ K=v5
 |.fd n st v=>nsIn K xI n=vk (vk (.ref (Af K n)))/\FnSaidD K n n st (Af K n) v
theorem Ask.said:∀{a:Ask},a.chk K=v5->a.txt K=a.want->a.Said K
 |.fn n st,h,t=>by obtain⟨h1,h2⟩:=qI.mp h;exact⟨Lh h1,ZDy h2 (Option.some.inj t)⟩
 |.mt c m q st,h,t=>by obtain⟨h1,h2⟩:=qI.mp h;exact⟨(ZDF h1).1,(ZDF h1).2,ZDy h2 (Option.some.inj t)⟩
 |.cl c,h,_=>by simp only[Ask.chk,z5]at h;obtain⟨⟨h1,⟨h2,h3⟩,h4⟩,⟨h5,h6⟩,h7⟩:=h;exact⟨Lh h1,h2,h3,h4,ZET h5,h6,h7⟩
 |.no c x,h,_=>ZCX h
 |.z n,h,_=>ZIu h
 |.gi n v,h,_=>ZJR h
 |.gs n v,h,_=>ZPl h
 |.gt n vs,h,_=>ZOb h
 |.gd n kvs,h,_=>ZMa h
 |.ck _,h,_=>h
 |.fd n st v,h,t=>by obtain⟨h1,h2⟩:=qI.mp h;exact⟨Lh h1,ZPj h2 (Option.some.inj t)⟩
def AllSaid(K:vj):List Ask->Prop
 |[]=>True
 |a::r=>a.Said K/\AllSaid K r
theorem ZFH:∀{l:List Ask},(l.all (Ask.chk K),l.map (Ask.txt K))=(v5,l.map Ask.want)->AllSaid K l
 |[],_=>trivial
 |a::r,h=>by obtain⟨h1,h2⟩:=Prod.mk.inj h;rw[qy]at h1;obtain⟨h3,h4⟩:=qI.mp h1;rw[zk,zk]at h2;obtain⟨h5,h6⟩:=List.cons.inj h2;exact⟨Ask.said h3 h5,ZFH (by rw[h4,h6])⟩
theorem ZMQ{a:Str}{f:jL}{fd:jO}{s:jT}{v:xQ}(F:Fun K x q st f fd)
  (h:∀(kV doc pm:xQ)(an:Option jL)(cdv ct:xQ)(u:xQ),bindArgs (fnOf x q (Eg st) (Cz st) (Am st) .none kV doc pm an cdv ct) ⟨[u],[]⟩=pure [(a,u)]):BindsTo s fd ⟨[v],[]⟩ [(a,v)]:=by
 obtain⟨oc,od,kV,doc,pm,an,cdv,ct,osl,rfl,lk,hcd⟩:=F.ex;exact .of_eq (h kV doc pm an cdv ct v)
theorem ZFB{p:jR}{w:xZ}{n₀:Nat}{ann:Option xQ}:∀{n:Nat}{s s':SharedT}{t:Thread},W6 p w n₀ ann n s t=vk s'->topRun xR p w n₀ ann n s.abs t=vk s'.abs
 |0,_,_,_,h=>by cases h
 | n+1,s,s',t,h=>by
  unfold W6 at h;unfold topRun;rw[<-PySem.W.Fast.te6613529449190102663,<-PySem.W.Fast.te10156331382660048174,<-PySem.W.Fast.te11892475500146522536,<-PySem.W.Fast.te14364793385576792824]at h;cases ht:through t with
  |true=>
   rw[ht]at h;cases h
   rfl
  | false=>
   rw[ht]at h;dsimp only at h⊢;cases ho:stepOk n₀ ann t with
   |false=>rw[ho]at h;cases h
   |true=>
    rw[ho]at h;dsimp only at h⊢;split at h
    ·rename_i s2 t2 e;rw[stepT_spec e];exact ZFB h
    ·cases h
theorem boot_abs:∀w os,(ZCZ w os).abs=⟨vx w.params,Array.mk [],boot_drawn,boot_toks,os⟩:=λw os=>by kernel_rfl
theorem ZOq:∀w:xZ,((vx w.params).isNs xI&&(Array.mk []:Array GenState).size==0)=v5:=λw=>by kernel_rfl
theorem ZIk{p q:jR}{loose:List Str}{Xt:jT->Bool}{β:Type}{see:Heap->β}{val:β}(e:opening p=plainProg p.main.scope.names)(f:∀s,fenceModules? p s=vk s)
  (R:∀w os,(Qj p w os).map (λs=>(Q9 p w s.abs,PySem.W.Fast.tw4187177175401517315 q loose (PySem.W.Fast.tw5923862056798008813 p.main.body) Xt v5 s.abs,see s.abs.heap))=vk (v5,openGood q loose,val)):
  ∀w,(openEnds xR p w 100000).map (λs=>(openSeen q loose (x0 p.main.body) Xt v5 s,see s.heap))=vk (openGood q loose,val):=λw=>by
 obtain⟨⟨h,gs,d,k,os⟩,h0,e0⟩:=zA.mp (boot_open (N:=100000) e rfl f w);obtain⟨rfl,rfl,rfl,rfl⟩:h=vx w.params/\gs=Array.mk []/\d=boot_drawn/\k=boot_toks:=by simpa using e0
 obtain⟨s,h1,h2⟩:=zA.mp (R w os);obtain⟨h3,h4⟩:=Prod.mk.inj h2;obtain⟨h4,h5⟩:=Prod.mk.inj h4;unfold Qj at h1;have r:=ZFB h1;rw[boot_abs,<-PySem.W.Fast.te8920871248978507458]at r;rw[<-PySem.W.Fast.te4187177175401517315,<-PySem.W.Fast.te5923862056798008813]at h4;unfold Q9 at h3;rw[<-PySem.W.Fast.te5923862056798008813]at h3;have t:topFrom xR p w 100000 ⟨vx w.params,Array.mk [],boot_drawn,boot_toks,os⟩=vk s.abs:=by
  unfold topFrom;dsimp only;rw[ZOq,r]
  show(match staticsOk (x0 p.main.body) (vx w.params) s.abs.heap&&namesBound p s.abs.heap&&gensDone s.abs&&laidKept (vx w.params) s.abs.heap with |true=>_|false=>_)=_
  rw[h3]
 unfold openEnds;rw[h0];show(topFrom xR p w 100000 _).map _=_;rw[t];exact congrArg vk (Prod.ext h4 h5)
theorem ZPD{l:OpenLaw}(h:PySem.W.Fast.tw9446332074065402090 l=v5):l.wellSaid=v5:=by rw[PySem.W.Fast.te9446332074065402090];exact h
structure FT (K:vj) (mg:Str->Option xQ) (n:Str) (st:jU) (ps:List Str):Prop where
 F:Fun K n n st (Af K n) (An K (Af K n))
 b:Binds K (An K (Af K n)) ps []
 m:mg n=vk (.ref (Af K n))
 k:keepIn K (.ref (Af K n))=v5
structure MT (K:vj) (c m q:Str) (st:jU) (ps:List Str):Prop where
 F:Fun K m q st (De K (Af K c) m) (An K (De K (Af K c) m))
 b:Binds K (An K (De K (Af K c) m)) ps []
 me:Meth K (Af K c) m (De K (Af K c) m)
structure CT (K:vj) (mg:Str->Option xQ) (c:Str):Prop where
 N:nsIn K xI c=vk (vk (.ref (Af K c)))
 cl:Cls K (Af K c)
 g:mg c=vk (.ref (Af K c))
 mK:Mk K (Af K c) (De K (Af K c) "__init__")
theorem Rq{f:jL}(s:FnSaid K x q st f):Fun K x q st f (An K f):=by
 have e:An K f=fnOf x q (Eg st) (Cz st) (Am st) .none (An K f).kwdefaults (An K f).doc (An K f).pyModule (An K f).annotations (An K f).code (An K f).closureTuple:=by
  have h:=s.1
  conv=>lhs;unfold An Fq;rw[h]
 exact⟨⟨_,_,_,_,_,_,_,_,_,e,by rw[e];exact s.1,s.2.1⟩,s.2.2⟩
theorem Ce{n:Str}{ps:List Str}(X:K.In h)(G:h.Ns xI mg)(s:Ask.Said K (.fn n st))
  (hb:∀(kV doc pm:xQ)(an:Option jL)(cdv ct:xQ)(us:List xQ),us.length=ps.length->bindArgs (fnOf n n (Eg st) (Cz st) (Am st) .none kV doc pm an cdv ct) ⟨us,[]⟩=pure (ps.zip us)):FT K mg n st ps:=
 ⟨Rq s.2,(Rq s.2).binds hb,mg_of X G s.1,s.2.2.2⟩
theorem Jp{c:Str}{ps:List Str}(s:Ask.Said K (.mt c m q st))
  (hb:∀(kV doc pm:xQ)(an:Option jL)(cdv ct:xQ)(us:List xQ),us.length=ps.length->bindArgs (fnOf m q (Eg st) (Cz st) (Am st) .none kV doc pm an cdv ct) ⟨us,[]⟩=pure (ps.zip us)):MT K c m q st ps:=
 ⟨Rq s.2.2,(Rq s.2.2).binds hb,s.1,s.2.1,s.2.2.2.2⟩
theorem ZPC{c:Str}(X:K.In h)(G:h.Ns xI mg)(s:Ask.Said K (.cl c))(i:Ask.Said K (.mt c "__init__" q st)):CT K mg c:=
 ⟨s.1,⟨s.2.1,s.2.2.1,s.2.2.2.1,s.2.2.2.2.1⟩,mg_of X G s.1,s.2.2.2.2.2.1,i.1,i.2.1,s.2.2.2.2.2.2⟩
abbrev FnO(P:jR)(w:xZ)(K:vj)(mg:Str->Option xQ)(base:Heap)(k:Nat)(n:Str)(ps:List Str)(F:List D->DH->R D):Prop:=FnOk P w K mg base CX0 k (Af K n) (An K (Af K n)) ps (lF K F)
abbrev MtO(P:jR)(w:xZ)(K:vj)(mg:Str->Option xQ)(base:Heap)(k:Nat)(c m:Str)(ps:List Str)(F:List D->DH->R D):Prop:=FnOk P w K mg base CX0 k (De K (Af K c) m) (An K (De K (Af K c) m)) ps (lF K F)
theorem ZMg{fd:jO}{s:jT}{v:xQ}{a:Str}{f:jL}(F:Fun K x q st f fd)
  (h:∀(kV doc pm:xQ)(an:Option jL)(cdv ct:xQ)(u:xQ),bindArgs (fnOf x q (Eg st) (Cz st) (Am st) .none kV doc pm an cdv ct) ⟨[u],[]⟩=pure [(a,u)]:=by intros;rfl):BindsTo s fd ⟨[v],[]⟩ [(a,v)]:=ZMQ F h
end _D
namespace _D
open PySem PySem.Spec _L
open PyProof.Rows hiding St
variable{x qual:Str}{es:Array DictEntry}{h base:Heap}{mg:Str->Option xQ}{σ:St}{H:Hp}{a:Wd}{d:D}{st:jU}{ps N:List Str}{cls:xQ}{od:Option jL}{P:jR}{w:xZ}{C:jL}{fd:jO}{s:jT}{A:jM}
section
variable{prog:jR}{w:xZ}{A:jM}{E:xQ->jT->Prop}{s:jT}
def strAt(es:Array DictEntry)(x:Str):Option xQ:=(es.findIdx? λe=>e.key.isStr x).bind λi=>es[i]?.map (·.val)
theorem ZF9{v:xQ}(h:v.isStr x=v5):∃t,v=.str x t:=by
 cases v<;>first
  |(rename_i y t;unfold Value.isStr at h;exact⟨t,by rw[of_decide_eq_true h]⟩)
  |(rename_i y t;simp[Value.isStr]at h;exact⟨t,by rw[h]⟩)
  |cases h
theorem ZDG{d:jL}{o:Obj}{ep}{t:Tok}{Q:Option xQ->jT->Prop}(ho:s.heap.get? d=vk o)(hd:o.data=.dict es ep)
  (hall:(es.all λe=>isExactStrKey e.key)=v5) (h:Q (strAt es x) {s with toks:=s.toks+1}):
  xS (xL prog w) A (dictGet d (.str x t)) Q E s:=by
 unfold strAt at h;unfold dictGet
 try with_reducible refine vX ?_
 refine xU (wpAny_pyHash_str (xU ?_));unfold dictFind
 try with_reducible refine vX ?_
 refine xU (wpAny_dictEntries (s:={s with toks:=s.toks+1}) ho hd ?_);dsimp only;rw[if_pos hall];unfold foundByValue;cases hf:es.findIdx? (λe=>e.key.isStr x)with
 |none=>rw[hf]at h;exact vY (vY h)
 |some i=>
  rw[hf]at h;obtain⟨hlt,hi,_⟩:=Array.findIdx?_eq_some_iff_getElem.mp hf;obtain⟨u,hu⟩:=ZF9 hi;simp only[Array.getElem?_eq_getElem hlt]at h⊢;rw[hu];refine xU (wpAny_dictEpoch (s:={s with toks:=s.toks+1}) ho hd (xU (wpAny_eqBool_str (xU (wpAny_dictEpoch (s:={s with toks:=s.toks+1}) ho hd ?_)))));show xS _ _ (if(ep != ep)=v5 then _ else _) _ E _;rw[if_neg (by simp),decide_eq_true rfl]
  refine xU (wpAny_rule (vY ?_));exact xU (wpAny_dictEntries (s:={s with toks:=s.toks+1}) ho hd (vY (by simpa[Array.getElem?_eq_getElem hlt]using h)))
theorem ZJj{d:jL}{o:Obj}{ep}{t:Tok}{v:xQ}{Q:xQ->jT->Prop}(ho:s.heap.get? d=vk o)(hc:o.cls=.type "dict")(hd:o.data=.dict es ep)
  (hall:(es.all λe=>isExactStrKey e.key)=v5) (hv:strAt es x=vk v) (h:Q v {s with toks:=s.toks+1}):xS (xL prog w) A (getItem (.ref d) (.str x t)) Q E s:=by
 have hT:s.TypeIs (.ref d) "dict":=⟨o,ho,hc⟩;unfold getItem
 try with_reducible refine vX ?_
 refine xU (wpAny_sequenceKey hT (by decide) ?_);refine xU (vQ (name:=Str.ofString "__getitem__") hT slot_dict_getitem
  (vZ slot_dict_getitem hT entry_dict_getitem ?_ (args_dict_getitem _ _)))
 show xS _ _ (dictGet d (.str x t) >>=_) _ _ s;refine xU (ZDG ho hd hall ?_);rw[hv];exact vY ⟨v,rfl,vY h⟩
theorem ZMY{d:jL}{o:Obj}{ep}{t:Tok}{Q:xQ->jT->Prop}(hds:(d==sysModules)=v6)(ho:s.heap.get? d=vk o)(hc:o.cls=.type "dict")(hd:o.data=.dict es ep)
  (hall:(es.all λe=>isExactStrKey e.key)=v5) (h:Q (.bool (!(strAt es x).isSome)) {s with toks:=s.toks+1}):xS (xL prog w) A (xy .NotIn (.str x t) (.ref d)) Q E s:=by
 have hT:s.TypeIs (.ref d) "dict":=⟨o,ho,hc⟩
 show xS _ _ (do return .bool (!(<-contains (.ref d) (.str x t)))) Q E s
 refine xU ?_;unfold contains
 try with_reducible refine vX ?_
 refine xU (wpAny_specialOf hT slot_dict_contains.lookup ?_);show xS _ _ (if(vk (Value.builtin "dict.__contains__")==vk Value.none)=v5 then _ else _) _ E s;rw[if_neg (by rw[beq_builtin_none];exact zx)];refine xU (wpAny_callSpecialUnlessNone?_slot (name:=Str.ofString "__contains__") hT slot_dict_contains
  (vZ slot_dict_contains hT entry_dict_contains ?_ (args_dict_contains _ _)))
 show xS _ _ (dictGet d (.str x t) >>=_) _ _ s;refine xU (ZDG ho hd hall ?_);cases hf:strAt es x with
 |some v=>
  rw[hf]at h;show xS _ _ (ret (.bool v5)) _ _ _;exact vY ⟨_,rfl,vz (vY h)⟩
 |none=>
  rw[hf]at h;show xS _ _ (Builtin.Dict.pendingKey? d (.str x t) >>=_) _ _ _;exact xU (wpAny_pendingKey_other hds (vY ⟨_,rfl,vz (vY h)⟩))
end
theorem strAt_eq:strAt es x=(es.toList.find? λe=>e.key.isStr x).map (·.val):=by
 obtain⟨l⟩:=es;have e:=findBy_of_findIdx? (λ(x:Str)(v:xQ)=>v.isStr x) ⟨l⟩ x;unfold findBy at e;rw[<-Array.find?_toList]at e;unfold strAt;rw[e]
 cases(Array.findIdx? (λe=>e.key.isStr x) ⟨l⟩)<;>rfl
def AtT(kvs:List (Str×Str))(es:Array DictEntry):Prop:=∀x,(kvs.lookup x=v4/\strAt es x=v4)∨∃v t,kvs.lookup x=vk v/\strAt es x=vk (.str v t)
theorem ZE7:∀{kvs:List (Str×Str)}{es:List DictEntry},Vals ((kvs.map (·.1)).map V.str) (es.map (·.key))->Vals ((kvs.map (·.2)).map V.str) (es.map (·.val))->(es.all λe=>isExactStrKey e.key)=v5/\
  ∀x,(kvs.lookup x=v4/\(es.find? λe=>e.key.isStr x).map (·.val)=v4)∨∃v t,kvs.lookup x=vk v/\(es.find? λe=>e.key.isStr x).map (·.val)=vk (.str v t)
 |[],[],_,_=>⟨rfl,λ_=>.inl ⟨rfl,rfl⟩⟩
 |[],e::es,h,_=>by cases h
 |(k,v)::kvs,[],h,_=>by cases h
 | (k,v)::kvs,⟨hs,ke,va⟩::es,h1,h2=>by
  cases h1 with
  | cons p1 q1=>cases h2 with
   | cons p2 q2=>
    obtain⟨t1,rfl⟩:=p1;obtain⟨t2,rfl⟩:=p2;obtain⟨ih1,ih2⟩:=ZE7 q1 q2;refine⟨by rw[qy,ih1];rfl,λx=>?_⟩;by_cases hx:x=k
    ·subst hx;exact .inr ⟨v,t2,by simp[q8],by simp[qQ,Value.isStr]⟩
    ·have hx':¬k=x:=λz=>hx z.symm
     have b1:(x==k)=v6:=by simpa using hx
     have b2:(Value.str k t1).isStr x=v6:=by
      cases h:(Value.str k t1).isStr x with
      |false=>rfl
      |true=>obtain⟨t,e⟩:=ZF9 h;cases e;exact absurd rfl hx'
     rw[q8,b1,qQ];simp only[b2];exact ih2 x
structure DctAt (K:PySem.W.Frag) (p:jL) (kvs:List (Str×Str)):Prop where
 ex:∃(o:Obj)(es:Array DictEntry)(ep:Nat),(p==sysModules)=v6/\K.lookup p=vk o/\o.cls=.type "dict"/\o.data=.dict es ep/\(es.all λe=>isExactStrKey e.key)=v5/\AtT kvs es
def DctG(K:PySem.W.Frag)(mg:Str->Option xQ)(n:Str)(kvs:List (Str×Str)):Prop:=∃p,mg n=vk (.ref p)/\DctAt K p kvs
theorem ZP0{K:PySem.W.Frag}{n:Str}{kvs:List (Str×Str)}(X:K.In h)(G:h.Ns xI mg)(s:GdSaid K n kvs):DctG K mg n kvs:=by obtain⟨p,od,sl,k,es,h1,h2,h3,h4,h5⟩:=s;obtain⟨q1,q2⟩:=ZE7 h4 h5;exact⟨p,PySem.W.mg_of X G h1,⟨_,es,k,h3,h2,rfl,rfl,by rw[<-Array.all_toList];exact q1,λx=>by rw[strAt_eq];exact q2 x⟩⟩
def Np(kvs:List (Str×Str)):D->DH->R D
 |.str x,G=>match kvs.lookup x with
  |some v=>.ok (.str v) G
  |none=>.bad
 |_,_=>.bad
def Rg(kvs:List (Str×Str)):D->DH->R D
 |.str x,G=>.ok (.bl (!(kvs.lookup x).isSome)) G
 |_,_=>.bad
section
variable{X:Cx}{E:XK}{p:jL}{kvs:List (Str×Str)}{x:Str}{a:jN}{ta:DE}{np pos:Pos}
theorem ix_g(D:DctAt X.K p kvs):IxR X (λx y H Q=>∃k v,x=.ref p/\y=.str k/\kvs.lookup k=vk v/\Q (.str v) H):=by
 intro value slice vv s σ H x y v u Q I rx ry h hs;obtain⟨k,w,rfl,rfl,hl,q⟩:=h;obtain rfl:v=Value.ref p:=rx;obtain⟨t,rfl⟩:=ry;obtain⟨o,es,ep,hds,hK,hc,hd,ha,hat⟩:=D.ex;have ho:=I.kIn _ _ hK;have hT:s.TypeIs (.ref p) "dict":=⟨o,ho,hc⟩;obtain⟨v',t',hv⟩:∃v' t',strAt es k=vk (.str v' t')/\v'=w:=by
  rcases hat k with⟨z,_⟩|⟨v',t',z,z'⟩
  ·rw[hl]at z;cases z
  ·rw[hl]at z;cases z;exact⟨_,t',z',rfl⟩
 obtain⟨hv,rfl⟩:=hv;unfold subscriptTail;refine xU ?_;rw[getitemInPython_of_ne hT.not_modules];refine xU (wpAny_specialOf hT PySem.F.slot_dict_getitem.lookup ?_);have fin:xS (xL X.prog X.w) X.A (subscripted slice v6 (.ref p) (.str k t)) (λr s₃=>xS (xL X.prog X.w) X.A (letTemporaryGo value (.ref p) r >>=λ_=>pure r) (EP X vv σ Q) X.xe s₃) X.xe s:=by rw[hs];exact wpAny_operating (ZJj ho hc hd ha hv (xU (wpAny_letTemporaryGo (vY ⟨.str v',H,I.tok _,⟨_,rfl⟩,q⟩))))
 first
  |exact vY (xU fin)
  |exact xU (vY (xU fin))
  |exact xU fin
theorem ZPs(D:DctAt X.K p kvs):OpR X (xy .NotIn) (λy x H Q=>∃k,x=.ref p/\y=.str k/\Q (.bl (!(kvs.lookup k).isSome)) H):=by
 intro vv s σ H y x v u Q I ry rx ⟨k,ex,ey,q⟩;subst ex ey;obtain rfl:u=Value.ref p:=rx;obtain⟨t,rfl⟩:=ry;obtain⟨o,es,ep,hds,hK,hc,hd,ha,hat⟩:=D.ex;refine ZMY hds (I.kIn _ _ hK) hc hd ha ⟨.bl (!(kvs.lookup k).isSome),H,I.tok _,?_,q⟩;rcases hat k with⟨z,z'⟩|⟨v',t',z,z'⟩
 ·rw[z,z'];rfl
 ·rw[z,z'];rfl
theorem ZHq(hg:Gl X x)(h:DctG X.K X.mg x kvs)(ha:QE X E a ta)(hs:PlainIx a:=by intro _ _;rfl)(hd:(x==("__debug__":Str))=v6:=by decide):QE X E (.Subscript (.Name x np) a pos) (dUn (Np kvs) ta):=by
 obtain⟨p,hm,D⟩:=h;refine(ZFQ (ix_g D) (ZBs (v:=.ref p) hg hm rfl hd) ha hs).mono λσ H Q h=>?_
 obtain⟨a,S,G,hk,rfl,s,r,h⟩:=h;refine⟨a,S,G,hk,rfl,s,r,(Dr h).imp ?_⟩;rintro v _ ⟨b,d,G1,rfl,y,s1,q1,_,h1⟩;cases d with
 |str k=>
  cases(show v=.str k from q1)
  unfold Np at h1;dsimp only at h1;split at h1
  ·rename_i w hw;exact⟨k,w,rfl,rfl,hw,h1 b _ (Ext.refl b) s1 rfl⟩
  ·exact h1.elim
 |_=>exact h1.elim
theorem ZIS{Q:VK}(h:lE X.K E (dUn (Rg kvs) ta) σ H Q):tOp (λy x H Q=>∃k,x=.ref p/\y=.str k/\Q (.bl (!(kvs.lookup k).isSome)) H) (lE X.K E ta) (tC (.ref p)) σ H Q:=by
 obtain⟨a,S,G,hk,rfl,s,r,h⟩:=h;refine⟨a,S,G,hk,rfl,s,r,(Dr h).imp ?_⟩;rintro v _ ⟨b,d,G1,rfl,y,s1,q1,_,h1⟩;cases d with
 |str k=>
  cases(show v=.str k from q1)
  exact⟨k,rfl,rfl,h1 b _ (Ext.refl b) s1 rfl⟩
 |_=>exact h1.elim
theorem ZM7(hg:Gl X x)(h:DctG X.K X.mg x kvs)(ha:QE X E a ta)(hm:xK .NotIn (.Name x np)=v6)(hd:(x==("__debug__":Str))=v6:=by decide):QT X E (.Compare a [.NotIn] [.Name x np] pos) (Ay (dUn (Rg kvs) ta)):=by obtain⟨p,hp,D⟩:=h;exact(ZHf (ZPs D) ha (ZBs (v:=.ref p) hg hp rfl hd) hm).mono λσ H Q h=>ZA8 (λ_ _ _ z=>ZIS z) σ H Q (Ve h)
end
def Gx(kvs more:List (Key×D)):List (Key×D):=more.foldl (λacc kv=>putD acc kv.1 kv.2) kvs
theorem RepKV.merge:∀{more:List (Key×D)}{ms:List (Key×V)}{kvs:List (Key×D)}{us:List (Key×V)},RepKV a more ms->RepKV a kvs us->RepKV a (Gx kvs more) (La us ms)
 |[],ms,kvs,us,h,r=>by have:ms=[]:=jZ.mp h.1.symm;subst this;exact r
 |(k,d)::more,ms,kvs,us,h,r=>by obtain⟨v,ms',rfl,h1,h2⟩:=RepKV.cons h;exact RepKV.merge (more:=more) (ms:=ms') h2 (r.put (k:=k) h1)
noncomputable def Cm:D->Option V
 |.int i=>vk (.int i)
 |.str x=>vk (.str x)
 |_=>v4
theorem ZO5{v w:V}(h:Cm d=vk w)(r:Rep a d v):v=w:=by
 cases d<;>first
  |(cases h;exact r)
  |cases h
theorem ZLO{w:V}(h:Cm d=vk w):Rep a d w:=by
 cases d<;>first
  |(cases h;rfl)
  |cases h
def Vs(kvs:List (Str×D)):DE:=λ_ G=>.ok (.ref G.length) (G++[.dct (Gx [] (kvs.map λkv=>(.inr kv.1,kv.2)))])
section
variable{X:Cx}{E:XK}{pos:Pos}
def QPs(X:Cx)(E:XK)(pos:Pos)(keys:List (Option jN))(values:List jN)(kvs:List (Str×D)):Prop:=PPs X pos keys values (kvs.map λkv=>(tC (.str kv.1),lE X.K E (dC kv.2)))
theorem ZJo:QPs X E pos [] [] []:=ZKJ
theorem Qx{j:Nat}{p:Pos}{v:jN}{ks:List (Option jN)}{vs:List jN}{kvs:List (Str×D)}(hv:QE X E v (dC d))(hr:QPs X E pos ks vs kvs):QPs X E pos (vk (.Constant (.str x) j p)::ks) (v::vs) ((x,d)::kvs):=ZO7 Rk hv hr
theorem ZCm{S:DSt}{G0:DH}{a0:Wd}:∀{kvs:List (Str×D)}{ws:List V}{b:Wd}{Q:List (V×V)->Hp->Prop},kvs.map (λkv=>Cm kv.2)=ws.map vk->b.K=X.K->Ext a0 b->Sim b G0->RepS b S σ->
  (∀c,Ext a0 c->Sim c G0->Q ((kvs.map λkv=>V.str kv.1).zip ws) c.H)->T5 (kvs.map λkv=>(tC (.str kv.1),lE X.K E (dC kv.2))) σ b.H Q
 |[],ws,b,Q,hw,hk,hx,hs,hr,h=>h b hx hs
 |(x,d)::kvs,[],b,Q,hw,hk,hx,hs,hr,h=>by cases hw
 |(x,d)::kvs,w::ws,b,Q,hw,hk,hx,hs,hr,h=>by rw[zk,zk]at hw;obtain⟨h1,h2⟩:=List.cons.inj hw;refine⟨b,S,G0,hk,rfl,hs,hr,λc v xc sc rc=>?_⟩;obtain rfl:=ZO5 h1 rc;exact ZCm h2 (xc.k.trans hk) (hx.trans xc) sc (hr.mono xc) λc' x' s'=>h c' x' s'
theorem ZCV:∀{kvs:List (Str×D)},(kvs.all λkv=>(Cm kv.2).isSome)=v5->∃ws:List V,kvs.map (λkv=>Cm kv.2)=ws.map vk
 |[],_=>⟨[],rfl⟩
 |kv::kvs,hf=>by rw[qy,z5]at hf;obtain⟨w,hw⟩:=qH.mp hf.1;obtain⟨ws,h2⟩:=ZCV hf.2;exact⟨w::ws,by rw[zk,zk,h2,hw]⟩
theorem ZCj{c:Wd}:∀{kvs:List (Str×D)}{ws:List V},kvs.map (λkv=>Cm kv.2)=ws.map vk->RepKV c (kvs.map λkv=>((.inr kv.1:Key),kv.2)) ((kvs.map λkv=>(Sum.inr kv.1:Key)).zip ws)
 |[],_,_=>RepKV.nil
 |kv::kvs,[],h=>by cases h
 |kv::kvs,w::ws,h=>by rw[zk,zk]at h;obtain⟨h1,h2⟩:=List.cons.inj h;exact RepKV.mk (ZLO h1) (ZCj h2)
theorem ZDb:∀{kvs:List (Str×D)}{ws:List V},(kvs.map λkv=>V.str kv.1).zip ws=((kvs.map λkv=>(Sum.inr kv.1:Key)).zip ws).map λkv=>(kV kv.1,kv.2)
 |[],_=>rfl
 |kv::kvs,[]=>rfl
 |kv::kvs,w::ws=>congrArg _ ZDb
theorem ZQR{keys:List (Option jN)}{values:List jN}{kvs:List (Str×D)}(h:QPs X E pos keys values kvs)(hf:(kvs.all λkv=>(Cm kv.2).isSome)=v5:=by rfl)(hn:kvs.length<=15:=by decide)(hall:keys.all (·.isSome)=v5:=by rfl)(hl:keys.length=values.length:=by rfl)(h0:keys≠[]:=by exact λz=>nomatch z)
  (h15:keys.length<=15:=by decide):QE X E (.Dict keys values pos) (Vs kvs):=by
 refine(ZJv h hall hl h0 h15).mono λσ H Q h=>?_
 obtain⟨a,S,G,hk,rfl,s,r,h⟩:=h;intro p hp;obtain⟨ws,hws⟩:=ZCV hf;have s0:Sim (a.push p (.dK [])) (G++[.dct []]):=s.push hp ⟨[],rfl,RepKV.nil⟩;refine ZCm (b:=a.push p (.dK [])) (a0:=a.push p (.dK [])) (G0:=G++[.dct []]) (S:=S) hws hk (Ext.refl _) s0 (r.mono (Ext.push hp)) λc xc sc=>?_
 have hlt:a.n<c.n:=zV (zI _) xc.n;have hm:c.m a.n=p:=by rw[xc.m a.n (zI _)];show(if a.n=a.n then p else a.m a.n)=p;rw[if_pos rfl]
 obtain⟨us,e1,e2⟩:=sc.obj a.n (.dct []) (by rw[<-s.len];simp);have:us=[]:=jZ.mp e2.1.symm;subst this;rw[hm]at e1;have hlen:ws.length=kvs.length:=by have:=congrArg List.length hws;simpa using this.symm
 refine⟨e1,(kvs.map λkv=>(Sum.inr kv.1:Key)).zip ws,ZDb,by simp;lia,?_⟩
 ·have hw:=sc.wrD (i:=a.n) hlt (us:=[]) (us':=La [] ((kvs.map λkv=>(Sum.inr kv.1:Key)).zip ws)) (kvs':=Gx [] (kvs.map λkv=>((.inr kv.1:Key),kv.2))) (by rw[hm];exact e1) (RepKV.merge (ZCj hws) RepKV.nil);rw[hm]at hw;have eG:(G++[DO.dct []]).set a.n (DO.dct (Gx [] (kvs.map λkv=>((.inr kv.1:Key),kv.2))))=G++[DO.dct (Gx [] (kvs.map λkv=>((.inr kv.1:Key),kv.2)))]:=by rw[<-s.len];simp
  rw[eG]at hw;refine h (c.put p _) (.ref p) (((Ext.push hp).trans xc).trans (Ext.wrD e1)) hw ⟨by rw[s.len];exact hlt,?_⟩;show V.ref p=V.ref (c.m G.length);rw[s.len,hm]
end
section
variable{S:DSt}{G:DH}
@[simp]theorem ZQ2{kvs:List (Str×D)}:Vs kvs S G=.ok (.ref G.length) (G++[.dct (Gx [] (kvs.map λkv=>(.inr kv.1,kv.2)))]):=id rfl
theorem ZNY{kvs:List (Str×Str)}{v:Str}(h:kvs.lookup x=vk v):Np kvs (.str x) G=.ok (.str v) G:=by
 show(match kvs.lookup x with |some v=>R.ok (D.str v) G|none=>R.bad)=_
 rw[h]
@[simp]theorem ZRP{kvs:List (Str×Str)}:Rg kvs (.str x) G=.ok (.bl (!(kvs.lookup x).isSome)) G:=id rfl
end
theorem ZLk(w:xZ):ftW w (w.params.followText "special-get-raises")=w:=by
 obtain⟨d,p⟩:=w;obtain⟨a1,a2,a3,a4,a5,f,a7,a8,a9,a10,a11,a12,a13,a14,a15,a16,a17,a18,a19,a20,a21,a22,a23,a24,a25⟩:=p
 have e:(λx:String=>match x == "special-get-raises" with |true=>f "special-get-raises"|false=>f x)=f:=by
  funext x;cases h:x == "special-get-raises" with
  |true=>rw[beq_iff_eq.mp h]
  |false=>rfl
 unfold ftW;dsimp only;rw[e]
theorem ZMP{P:xZ->Prop}(h1:∀w,P (ftW w v5))(h2:∀w,P (ftW w v6)):∀w,P w:=λw=>by
 have h:∀b,P (ftW w b):=λb=>by cases b;exact h2 w;exact h1 w
 have:=h (w.params.followText "special-get-raises");rwa[ZLk]at this
theorem Bo{X:Cx}{k j:Nat}{n:Str}{F:List D->DH->R D}{p pos:Pos}{e:jN}{es:List jN}{tr:DA}(FF:FnO X.prog X.w X.K X.mg X.base k n ps F)(T:FT X.K X.mg n st ps)(hr:Room j X.A)(ha:QA X E0 (e::es) tr)
  (hj:k<=j:=by decide) (hg:Gl X n:=by exact rfl) (hd:(n==("__debug__":Str))=v6:=by decide) (he:notStar e=v5:=by exact rfl) (hp:es.all notStar=v5:=by exact rfl):QE X E0 (.Call (.Name n p) (e::es) [] pos) (dFn F tr):=
 ZOf FF (hr.mono hj) hg T.m T.k T.b pass0 ha hd he hp
theorem ZPe{f:Array xQ->Array xQ}{o:Obj}:(Obj.mapFields f o).dict=o.dict:=by
 obtain⟨c,d,dt,sl⟩:=o;unfold Obj.mapFields
 cases dt<;>rfl
def Trc(h B:Heap)(e:jL)(cls:xQ)(od:Option jL)(fl:xQ):Prop:=
 ∃oe vs T oT ts,h.get? e=vk oe/\(oe.cls=cls/\oe.dict=od)/\oe.data=.fields vs/\vs[1]?=vk (.ref T)/\(B.get? T=v4/\T≠e)/\h.get? T=vk oT/\oT.data=.fields ts/\ts[3]?=vk fl
structure Noted (B:Heap) (l:List Env) (e:jL) (cls:xQ) (od:Option jL) (fl:xQ) (h h':Heap):Prop where
 st:B.StaysIn h'
 fr:h'.FunFrames B l
 tr:Trc h' B e cls od fl
 up:∀b o,h.get? b=vk o->(∀vs,o.data≠ .fields vs)->∃sl,h'.get? b=vk {o with slots:=sl}
 th:∀b o,h.get? b=vk o->∃o',h'.get? b=vk o'
section
variable{M:Model}{A:jM}{E:xQ->jT->Prop}{s:jT}{B:Heap}{env:Env}{outer:List Env}{L e:jL}{oe:Obj}{vs:Array xQ}{head:xQ}{hn:Bool}{Q:Unit->jT->Prop}
theorem ZGv(fr:A.frames=vk (env::outer))(hl:s.heap.FunFrames B (env::outer))(hf:env.frame=vk L)(he:s.heap.get? e=vk oe)(hk:B.StaysIn s.heap)(hb:B.get? e=v4)(hd:oe.data=.fields vs)(hz:1<vs.size)
  (q:∀h',Noted B (env::outer) e oe.cls oe.dict (xM L) s.heap h'->Q () {s with heap:=h'}):
  xS M A (do let a<-frameOf env;let pl<-entryPlaceOf L hn;let b<-EntryCells.newEntry head a .none (xM L) .none pl;setField (.ref e) 1 b) Q E s:=by
 have ne:e∉(env::outer).filterMap (·.frame):=λhm=>by obtain⟨_,o,ho,nf⟩:=hl.mem hm;rw[he]at ho;cases ho;exact nf vs hd
 refine xU (wpAny_frameOf_fun fr hl hf λh1 k1=>?_);refine xU (wpAny_entryPlaceOf λpl hp=>?_);unfold EntryCells.newEntry newFields;refine xU (vW ?_ (hp.sizeOk5 _ _ _ _ _));generalize hO:({cls:=.type "traceback",dict:=v4,data:=.fields ([head,.ref L,.none,xM L,.none]++(if pl.isEmpty then zw 6 Value.none else pl)).toArray}:Obj)=O;have hOd:O.data=.fields ([head,.ref L,.none,xM L,.none]++(if pl.isEmpty then zw 6 Value.none else pl)).toArray:=by rw[<-hO]
 have e1:h1.get? e=vk oe:=(k1.2.1 e ne).trans he;have b1:B.StaysIn h1:=λb o hbo=>(k1.2.1 b λhm=>by rw[(hl.mem hm).1]at hbo;cases hbo).trans (hk b o hbo)
 have e2:(h1.push O).get? e=vk oe:=zQ O e1;refine wpAny_setField e2 hd hz (q _ ?_);have nTe:h1.objs.size≠e:=qL (zK e1)
 have d3:=Obj.data_mapFields hd (·.setIfInBounds 1 (Value.ref h1.objs.size))
 have e3:=qX (Obj.mapFields (·.setIfInBounds 1 (Value.ref h1.objs.size))) e2 (Obj.isFreed_of_fields d3)
 have t3:=(qW (h1.push O) (Obj.mapFields (·.setIfInBounds 1 (Value.ref h1.objs.size))) (Ne.symm nTe)).trans (zy h1 (by rw[<-hO];rfl))
 have keep:∀b o,b≠e->h1.get? b=vk o->((h1.push O).update e (Obj.mapFields (·.setIfInBounds 1 (Value.ref h1.objs.size)))).get? b=vk o:=λb o n hb'=>by rw[qW _ _ (Ne.symm n)];exact zQ _ hb'
 have nf:∀b o,s.heap.get? b=vk o->(∀vs,o.data≠ .fields vs)->b≠e:=λb o hb' n z=>by rw[z,he]at hb';cases hb';exact n vs hd
 have fresh:B.get? h1.objs.size=v4:=b1.fresh;refine⟨λb o hbo=>keep b o (λz=>by rw[z,hb]at hbo;cases hbo) (b1 b o hbo),hl.of_keeps λb o hb' n=>?_,⟨_,_,h1.objs.size,_,_,e3,⟨Obj.cls_mapFields _ _,ZPe⟩,d3,by simp[hz],⟨fresh,nTe⟩,t3,hOd,by simp⟩,λb o hb' n=>?_,λb o hb'=>?_⟩
 ·obtain⟨sl,hs⟩:=k1.2.2 b o hb';exact⟨_,keep b _ (nf b o hb' n) hs,rfl⟩
 ·obtain⟨sl,hs⟩:=k1.2.2 b o hb';exact⟨sl,keep b _ (nf b o hb' n) hs⟩
 ·obtain⟨sl,hs⟩:=k1.2.2 b o hb';by_cases z:b=e
  ·subst z;exact⟨_,e3⟩
  ·exact⟨_,keep b _ z hs⟩
theorem ZLX(fr:A.frames=vk (env::outer))(hl:s.heap.FunFrames B (env::outer))(hf:env.frame=vk L)(he:s.heap.get? e=vk oe)(hk:B.StaysIn s.heap)(hb:B.get? e=v4)(hd:oe.data=.fields vs)(h1:vs[1]?=vk .none)
  (q:∀h',Noted B (env::outer) e oe.cls oe.dict (xM L) s.heap h'->Q () {s with heap:=h'}):xS M A (noteFrame (.ref e) env) Q E s:=by
 unfold noteFrame;simp only[hf];refine xU (vJ he hd h1 ?_);rw[if_neg (by decide)];exact ZGv fr hl hf he hk hb hd (zS.mp h1).1 q
theorem ZE6(fr:A.frames=vk (env::outer))(hl:s.heap.FunFrames B (env::outer))(hf:env.frame=vk L)(ht:Trc s.heap B e cls od .none)(hk:B.StaysIn s.heap)(hb:B.get? e=v4)
  (q:∀h',Noted B (env::outer) e cls od (xM L) s.heap h'->Q () {s with heap:=h'}):xS M A (noteFrame (.ref e) env) Q E s:=by
 obtain⟨oe,vs,T,oT,ts,he,⟨rfl,rfl⟩,hd,h1,⟨nT,nTe⟩,hT,dT,h3⟩:=ht;unfold noteFrame;simp only[hf];refine xU (vJ he hd h1 ?_)
 rw[if_pos (show(Value.ref T != Value.none)=v5 from by simp)]
 refine xU (vJ hT dT h3 ?_)
 rw[if_neg (show¬((Value.none==xM L)=v5)from by simp[xM])]
 refine xU (wpAny_setField hT dT (zS.mp h3).1 ?_)
 have oth:∀b,b≠T->(s.heap.update T (Obj.mapFields (·.setIfInBounds 3 Value.none))).get? b=s.heap.get? b:=λb n=>qW _ _ (Ne.symm n)
 have nf:∀b o,s.heap.get? b=vk o->(∀vs,o.data≠ .fields vs)->b≠T:=λb o hb' n z=>by rw[z,hT]at hb';cases hb';exact n ts dT
 refine ZGv fr (hl.of_keeps λb o hb' n=>⟨o,(oth b (nf b o hb' n)).trans hb',rfl⟩) hf ((oth e (Ne.symm nTe)).trans he)
  (λb o hbo=>(oth b λz=>by rw[z,nT]at hbo;cases hbo).trans (hk b o hbo)) hb hd (zS.mp h1).1
  λh' n=>q h' ⟨n.st,n.fr,n.tr,λb o hb' nn=>n.up b o ((oth b (nf b o hb' nn)).trans hb') nn,λb o hb'=>?_⟩
 by_cases z:b=T
 ·subst z;exact n.th b _ (qX _ hT (Obj.isFreed_of_fields (Obj.data_mapFields dT _)))
 ·exact n.th b o ((oth b z).trans hb')
theorem ZAN{fl:xQ}{l:List Env}(hl:s.heap.FunFrames B l)(ht:Trc s.heap B e cls od fl)(hk:B.StaysIn s.heap)
  (q:∀h',Noted B l e cls od .none s.heap h'->Q () {s with heap:=h'}):xS M A (setFlight (.ref e) v4) Q E s:=by
 obtain⟨oe,vs,T,oT,ts,he,⟨rfl,rfl⟩,hd,h1,⟨nT,nTe⟩,hT,dT,h3⟩:=ht;unfold setFlight;refine xU (vJ he hd h1 ?_)
 rw[if_pos (show(Value.ref T != Value.none)=v5 from by simp)]
 refine wpAny_setField hT dT (zS.mp h3).1 (q _ ?_)
 have oth:∀b,b≠T->(s.heap.update T (Obj.mapFields (·.setIfInBounds 3 ((v4:Option jL).elim Value.none λf=>xM f)))).get? b=s.heap.get? b:=λb n=>qW _ _ (Ne.symm n)
 have nf:∀b o,s.heap.get? b=vk o->(∀vs,o.data≠ .fields vs)->b≠T:=λb o hb' n z=>by rw[z,hT]at hb';cases hb';exact n ts dT
 have dT':=Obj.data_mapFields dT (·.setIfInBounds 3 ((v4:Option jL).elim Value.none λf=>xM f))
 have hT':=qX (Obj.mapFields (·.setIfInBounds 3 ((v4:Option jL).elim Value.none λf=>xM f))) hT (Obj.isFreed_of_fields dT')
 have z3:=(zS.mp h3).1;refine⟨λb o hbo=>(oth b λz=>by rw[z,nT]at hbo;cases hbo).trans (hk b o hbo),hl.of_keeps λb o hb' n=>⟨o,(oth b (nf b o hb' n)).trans hb',rfl⟩,
  ⟨oe,vs,T,_,_,(oth e (Ne.symm nTe)).trans he,⟨rfl,rfl⟩,hd,h1,⟨nT,nTe⟩,hT',dT',by simp[z3]⟩,λb o hb' n=>⟨o.slots,(oth b (nf b o hb' n)).trans hb'⟩,λb o hb'=>?_⟩
 by_cases z:b=T
 ·subst z;exact⟨_,hT'⟩
 ·exact⟨o,(oth b z).trans hb'⟩
theorem Noted.trans{l:List Env}{f1 f2:xQ}{h1 h2 h3:Heap}(x:Noted B l e cls od f1 h1 h2)(y:Noted B l e cls od f2 h2 h3):Noted B l e cls od f2 h1 h3:=
 ⟨y.st,y.fr,y.tr,λb o hb n=>by
  obtain⟨sl,k⟩:=x.up b o hb n;obtain⟨sl',k'⟩:=y.up b _ k n;exact⟨sl',k'⟩,λb o hb=>by
  obtain⟨o',k⟩:=x.th b o hb;exact y.th b o' k⟩
theorem ZM8(fr:A.frames=vk (env::outer))(hl:s.heap.FunFrames B (env::outer))(hf:env.frame=vk L)(he:s.heap.get? e=vk oe)(hk:B.StaysIn s.heap)(hb:B.get? e=v4)(hd:oe.data=.fields vs)(h1:vs[1]?=vk .none)
  (q:∀h',Noted B (env::outer) e oe.cls oe.dict .none s.heap h'->Q () {s with heap:=h'}):xS M A (leaving env (.ref e)) Q E s:=by
 unfold leaving;exact xU (ZLX fr hl hf he hk hb hd h1 λh' n=>ZAN n.fr n.tr n.st λh'' n'=>q h'' (n.trans n'))
theorem ZIF(fr:A.frames=vk (env::outer))(hl:s.heap.FunFrames B (env::outer))(hf:env.frame=vk L)(ht:Trc s.heap B e cls od .none)(hk:B.StaysIn s.heap)(hb:B.get? e=v4)
  (q:∀h',Noted B (env::outer) e cls od .none s.heap h'->Q () {s with heap:=h'}):xS M A (leaving env (.ref e)) Q E s:=by
 unfold leaving;exact xU (ZE6 fr hl hf ht hk hb λh' n=>ZAN n.fr n.tr n.st λh'' n'=>q h'' (n.trans n'))
end
structure Fly (B:Heap) (l:List Env) (e:jL) (cls:xQ) (od:Option jL) (H':Hp) (h:Heap):Prop where
 st:B.StaysIn h
 fr:h.FunFrames B l
 tr:Trc h B e cls od .none
 eb:B.get? e=v4
 al:∀b,H' b≠v4->∃o,B.get? b=vk o
def CXx(P:jR)(w:xZ):CXT:=λouter H s E e s'=>∃(ea:jL)(cls:xQ)(od:Option jL)(H':Hp)(B:Heap),e=.ref ea/\s'.os=s.os/\AllBare s'.gens/\Un (frs outer) [] H H' s.heap s'.heap/\HOk P w H' s'.heap/\
 Fly B outer ea cls od H' s'.heap/\(∀b o,s.heap.get? b=vk o->H b=v4->b∉frs outer->B.get? b=vk o)/\s.heap.get? ea=v4/\E cls od H'/\∃C,cls=.ref C
section
variable{X:Cx}{vv:List (jL×Obj)}{σ:St}{H H':Hp}{s s':jT}{B h'':Heap}{ea:jL}{cls:xQ}{od:Option jL}{E:XK}
theorem ZDn{h':Heap}(hok:HOk P w H' h)(al:∀b,H' b≠v4->∃o,B.get? b=vk o)(s1:B.StaysIn h)(s2:B.StaysIn h'):HOk P w H' h':=λa o e=>
 (hok a o e).stay (λb u hb q=>by
  have hn:H' b≠v4:=by
   rcases hb with rfl|hb
   ·rw[e];simp
   ·rw[hb];simp
  obtain⟨o',k⟩:=al b hn;have k1:=s1 b o' k;rw[q]at k1;cases k1;exact s2 b u k) (λ_ q=>q) λ_ _ q=>q
theorem ZB8(I:Inv X vv σ H s)(hs:X.stack=X.env::X.outer)(hex:X.ex=[])(hfr:X.env.frame=vk X.env.locals)(os:s'.os=s.os)(bare:AllBare s'.gens)(un:Un (frs X.stack) [] H H' s.heap s'.heap)(hok:HOk X.prog X.w H' s'.heap)
  (bb:∀b o,s.heap.get? b=vk o->H b=v4->b∉frs X.stack->B.get? b=vk o) (al:∀b,H' b≠v4->∃o,B.get? b=vk o) (eb:B.get? ea=v4) (st:B.StaysIn s'.heap) (new:s.heap.get? ea=v4)
  (n:Noted B X.stack ea cls od .none s'.heap h'') (hE:E cls od H') (hc:∃C,cls=.ref C):CXx X.prog X.w X.outer X.H₀ X.s₀ E (.ref ea) {s' with heap:=h''}:=by
 have base:=I.base;rw[hex]at base;have fe:frs X.stack=X.env.locals::frs X.outer:=by rw[hs];unfold frs;rw[qJ,hfr]
 have bb':∀b o,X.s₀.heap.get? b=vk o->X.H₀ b=v4->b∉frs X.outer->B.get? b=vk o:=λb o q hn hb=>by
  refine bb b o (base.keep b o q hn hb (by simp)) (base.free b o q hn (by simp)) ?_;rw[fe];intro hm;rcases zj.mp hm with z|z
  ·exact absurd (zV (zK q) I.ok.above) (by rw[z];exact zN _)
  ·exact hb z
 have frO:h''.FunFrames B X.outer:=by have:=n.fr;rw[hs]at this;exact this.2.2
 refine⟨ea,cls,od,H',B,rfl,os.trans I.os,bare,⟨λb o q hn hb _=>n.st b o (bb' b o q hn hb),λb o q hn hb _=>?_,λb o q hn hx=>?_,λb o q hx=>?_,λb xs q=>un.tups b xs (base.tups b xs q),λb o u q=>un.frzs b o u (base.frzs b o u q),λb ps q=>?_⟩,ZDn hok al st n.st,⟨n.st,frO,n.tr,eb,al⟩,bb',?_,hE,hc⟩
 ·obtain⟨sl,k⟩:=base.slot b o q hn hb (by simp);have hm:b∈frs X.stack:=by rw[fe];exact zZ _ hb
  obtain⟨sl',k'⟩:=un.slot b _ k (base.free b o q hn (by simp)) hm (by simp);obtain⟨_,o2,k2,nf⟩:=I.stack.mem hm;rw[k]at k2;cases k2;obtain⟨sl'',k3⟩:=n.up b _ k' nf;exact⟨sl'',k3⟩
 ·obtain⟨o1,k1⟩:=base.there b o q hx;exact un.free b o1 k1 (base.free b o q hn hx) hx
 ·obtain⟨o1,k1⟩:=base.there b o q hx;obtain⟨o2,k2⟩:=un.there b o1 k1 hx;exact n.th b o2 k2
 ·obtain⟨m1,k1⟩:=base.tbls b ps q;obtain⟨m2,k2⟩:=un.tbls b _ k1;exact⟨m1++m2,by rw[k2,Array.append_assoc]⟩
 ·cases q:X.s₀.heap.get? ea with
  |none=>rfl
  |some o=>
   obtain⟨o1,k1⟩:=base.there ea o q (by simp);rw[new]at k1;cases k1
def K8(X:Cx)(E:XK):xQ->jT->Prop:=λe s'=>xS (xL X.prog X.w) X.A (leaving X.env e) (λ_ s''=>CXx X.prog X.w X.outer X.H₀ X.s₀ E e s'') (λe' s''=>CXx X.prog X.w X.outer X.H₀ X.s₀ E e' s'') s'
theorem ZKG(hs:X.stack=X.env::X.outer)(hex:X.ex=[])(hfr:X.env.frame=vk X.env.locals)(I:Inv X vv σ H s){e:xQ}(h:CXx X.prog X.w X.stack H s E e s'):K8 X E e s':=by
 obtain⟨ea,cls,od,H',B,rfl,os,bare,un,hok,fly,bb,new,hE,hc⟩:=h;have fr:=I.ok.frames;have ff:=fly.fr;unfold K8;refine ZIF (B:=B) (L:=X.env.locals) (outer:=X.outer) (by rw[fr,hs]) (by rw[<-hs];exact ff) hfr fly.tr fly.st fly.eb λh'' n=>?_
 rw[<-hs]at n;exact ZB8 I hs hex hfr os bare un hok bb fly.al fly.eb fly.st new n hE hc
theorem ZJV{a:jL}{o:HO}(x:ObjOk P w H h a o):∃ob,h.get? a=vk ob:=by
 cases o with
 |lst xs=>obtain⟨_,_,_,_,e⟩:=x;exact⟨_,e⟩
 |tup xs=>obtain⟨_,_,_,_,e,_⟩:=x;exact⟨_,e⟩
 |dK kvs=>obtain⟨_,_,_,_,o,_,_,e,_⟩:=x;exact⟨_,e⟩
 |dT kvs=>obtain⟨_,_,_,_,o,_,_,e,_⟩:=x;exact⟨_,e⟩
 |set S n=>obtain⟨o,_,_,_,e,_⟩:=x;exact⟨_,e⟩
 |ins C dx fs=>obtain⟨_,_,_,e,_⟩:=x;exact⟨_,e⟩
 |own y=>exact x
 |xd fs=>obtain⟨_,⟨_,_,_,e,_⟩,_⟩:=x;exact⟨_,e⟩
 |rng lo hi=>obtain⟨_,_,_,e⟩:=x;exact⟨_,e⟩
 |frz ob u=>obtain⟨e,_⟩:=x;exact⟨_,e⟩
 |tbl ps=>exact⟨_,x⟩
 |met f y=>exact⟨_,x⟩
 |ext φ=>exact x.2.1
theorem ZC3{h':Heap}:∀{l:List Env},h.FunFrames base l->(∀b∈frs l,∀o,h.get? b=vk o->∃sl,h'.get? b=vk {o with slots:=sl})->h'.FunFrames base l
 |[],_,_=>trivial
 |env::r,⟨hk,⟨L,o,hf,hn,ho,hd⟩,hr⟩,k=>by
  have fe:frs (env::r)=L::frs r:=by unfold frs;rw[qJ,hf]
  obtain⟨sl,z⟩:=k L (by rw[fe];exact zW) o ho;exact⟨hk,⟨L,_,hf,hn,z,hd⟩,ZC3 hr λb hb o' ho'=>k b (by rw[fe];exact zZ _ hb) o' ho'⟩
structure Made (X:Cx) (H:Hp) (s:jT) (ea:jL) (cls:xQ) (od:Option jL) (s':jT) (H':Hp):Prop where
 os:s'.os=s.os
 bare:AllBare s'.gens
 un:Un (frs X.stack) [] H H' s.heap s'.heap
 hok:HOk X.prog X.w H' s'.heap
 ob:∃oe vs,s'.heap.get? ea=vk oe/\oe.cls=cls/\oe.dict=od/\oe.data=.fields vs/\vs[1]?=vk .none
 fe:H' ea=v4
 new:s.heap.get? ea=v4
theorem ZI2(hs:X.stack=X.env::X.outer)(hex:X.ex=[])(hfr:X.env.frame=vk X.env.locals)(I:Inv X vv σ H s)(m:Made X H s ea cls od s' H')(hE:E cls od H')(hc:∃C,cls=.ref C):K8 X E (.ref ea) s':=by
 obtain⟨oe,vs,he,rfl,rfl,hd,h1⟩:=m.ob;have ne:ea∉frs X.stack:=λhm=>by obtain⟨_,o,ho,_⟩:=I.stack.mem hm;rw[m.new]at ho;cases ho
 have F':s'.heap.FunFrames X.base X.stack:=ZC3 I.stack λb hb o ho=>m.un.slot b o ho (I.U9 b hb) hb (by simp)
 have FB:s'.heap.FunFrames (PySem.W.hideAll s'.heap (ea::frs X.stack)) X.stack:=PySem.W.funFrames_hide F' λenv hm a q=>zZ _ (jk.mpr ⟨env,hm,q⟩)
 have eb:(PySem.W.hideAll s'.heap (ea::frs X.stack)).get? ea=v4:=by exact PySem.W.hideAll_none _ zW
 have st:(PySem.W.hideAll s'.heap (ea::frs X.stack)).StaysIn s'.heap:=λb o q=>PySem.W.of_hideAll _ q
 have bb:∀b o,s.heap.get? b=vk o->H b=v4->b∉frs X.stack->(PySem.W.hideAll s'.heap (ea::frs X.stack)).get? b=vk o:=λb o q hn hb=>PySem.W.hideAll_get _ (m.un.keep b o q hn hb (by simp)) λhm=>by
  rcases zj.mp hm with z|z
  ·rw[z,m.new]at q;cases q
  ·exact hb z
 have al:∀b,H' b≠v4->∃o,(PySem.W.hideAll s'.heap (ea::frs X.stack)).get? b=vk o:=λb hb=>by
  cases q:H' b with
  |none=>exact absurd q hb
  |some u=>
   obtain⟨o,k⟩:=ZJV (m.hok b u q);refine⟨o,PySem.W.hideAll_get _ k λhm=>?_⟩;rcases zj.mp hm with z|z
   ·rw[z,m.fe]at q;cases q
   ·obtain⟨_,o1,k1,_⟩:=I.stack.mem z;rw[m.un.free b o1 k1 (I.U9 b z) (by simp)]at q;cases q
 unfold K8;refine ZM8 (B:=PySem.W.hideAll s'.heap (ea::frs X.stack)) (L:=X.env.locals) (outer:=X.outer) (by rw[I.ok.frames,hs]) (by rw[<-hs];exact FB) hfr he st eb hd h1 λh'' n=>?_
 rw[<-hs]at n;exact ZB8 I hs hex hfr m.os m.bare m.un m.hok bb al eb st m.new n hE hc
end
section
variable{prog:jR}{w:xZ}{A:jM}{E:xQ->jT->Prop}{h:Heap}{g:Array GenState}{d:Drawn}{t:Nat}{os:OsState}
variable{nm q:Str}{C N:jL}{bs bm bmB:List xQ}{hdct:Bool}{sn:List Str}{sub:List xQ}{ab:Bool}{col:Option Bool}{dd:Option jL}{k0 k1 k2 k3 k5:Option xQ}{B newId initId:String}
theorem ZH0(F:ExcBaseFacts B newId initId bmB)(T:OwnTail h bmB bm){mN:Str->Option xQ}{rest:List xQ}{fI:jL}{oI:Obj}{Q:Fin->jT->Prop}
  (hC:h.get? C=vk (excClassObj nm q C N bs bm hdct sn sub ab col dd k0 k1 k2 k3 k5 newId)) (hn:h.Ns N mN) (hi:mN "__init__"=vk (.ref fI)) (hfI:h.get? fI=vk oI) (hfc:oI.cls=.type "function")
  (hq:∀h' e,Heap.MadeExcOf h h' e (.ref C) rest->h.objs.size<=e->xS (xL prog w) A (call (.ref fI) (.ref e::rest)) (λr s'=>r=.none/\Q (.done (.ret (.ref e))) s') E ⟨h',g,d,t,os⟩) (hr:rest.length<=sizeLine):
  xS (xL prog w) A (Builtin.«type.__call__» ⟨.ref C::rest,[]⟩) Q E ⟨h,g,d,t,os⟩:=by
 repeat (first|with_reducible refine wpAny_loadPart_at hC ?_|with_reducible refine wpAny_madeBy_exc hC ?_|wp_step)
 refine codeAny_call_builtin_code (Code.quiet_builtin _ F.quiet) (wpAny_check_new_subT F T hC ?_);refine codeAny_exc_new_subT F T hC ?_ hr;show xS _ _ _ _ _ _;generalize hO1:({cls:=.type "tuple",data:=.seq rest.toArray}:Obj)=O1;generalize hO2:({cls:=.ref C,data:=.fields #[.ref h.objs.size,.none,.none,.none,.bool v6,.none]}:Obj)=O2;have kp:∀b o,h.get? b=vk o->((h.push O1).push O2).get? b=vk o:=λb o z=>zQ _ (zQ _ z)
 have hC1:=kp _ _ hC;have hf1:=kp _ _ hfI;have hn1:((h.push O1).push O2).Ns N mN:=hn.keeps kp;have T1:=T.keeps kp;have hg:((h.push O1).push O2).get? (h.objs.size+1)=vk O2:=Heap.get?_push_at (by simp only[qV]) (by rw[<-hO2];rfl);have hc2:O2.cls=.ref C:=by rw[<-hO2]
 have cc:(Value.ref C::bm).contains (.ref C)=v5:=by simp
 unfold isInstance
 repeat (first|(with_reducible refine wpAny_loadPart_at hg ?_;rw[hc2])|(with_reducible refine wpAny_isSubtype_exc hC1 ?_;rw[cc])|wp_step)
 show xS _ _ (typeLookup (.ref C) _) _ _ _;refine wpAny_typeLookup_tail hC1 hn1 T1 F.mroIs F.init.lookup ?_;rw[hi];refine vX (xU ?_);unfold bindSpecial;refine xU (wpAny_typeOf (T:="function") ⟨_,hf1,hfc⟩ ?_);rw[if_pos (by decide)];refine vY (xU (vV (hq _ (h.objs.size+1) ⟨kp,jA (qR _),h.objs.size,by rw[hg,<-hO2],jA (zY _),?_⟩ ?_) (λr s' z=>?_) λ_ _ x=>x))
 ·rw[<-hO1];exact zQ _ (Heap.get?_push_at rfl rfl)
 ·exact qR _
 ·obtain⟨rfl,hQ⟩:=z
  wp_walk
  exact hQ
theorem ZLd(F:ExcBaseFacts B newId initId bmB)(T:OwnTail h bmB bm){mN:Str->Option xQ}{rest:List xQ}{fI:jL}{oI:Obj}{Q:xQ->jT->Prop}
  (hC:h.get? C=vk (excClassObj nm q C N bs bm hdct sn sub ab col dd k0 k1 k2 k3 k5 newId)) (hn:h.Ns N mN) (hi:mN "__init__"=vk (.ref fI)) (hfI:h.get? fI=vk oI) (hfc:oI.cls=.type "function")
  (hq:∀h' e,Heap.MadeExcOf h h' e (.ref C) rest->h.objs.size<=e->xS (xL prog w) (A.under (.builtin "type.__call__" ⟨.ref C::rest,[]⟩)) (call (.ref fI) (.ref e::rest)) (λr s'=>r=.none/\Q (.ref e) s') E ⟨h',g,d,t,os⟩) (hr:rest.length<=sizeLine):
  xS (xL prog w) A (call (.ref C) rest) Q E ⟨h,g,d,t,os⟩:=by
 have f1:=tc_lookup;have f2:=tc_bind (.ref C);have hT:(⟨h,g,d,t,os⟩:jT).TypeIs (.ref C) "type":=⟨_,hC,rfl⟩;refine wpAny_call (codeAny_of_tree ?_);show xS _ _ (callAny (.ref C) _) _ _ _
 repeat (any_goals (first|assumption|with_reducible refine wpAny_loadPart_at hC ?_|wp_step))
 refine⟨rfl,?_⟩;refine codeAny_call_builtin_at (Code.quiet_builtin _ (by decide +kernel)) entry_typeCall (wpAny_check_type_call_sub hC (ZH0 F T hC hn hi hfI hfc (λh' e hm he=>?_) hr));exact hq h' e hm he
end
theorem ZIf{K:PySem.W.Frag}{N:jL}{m:Str->Option xQ}{n:Str}{v:xQ}(X:K.In h)(G:h.Ns N m)(e:PySem.W.nsIn K N n=vk (vk v)):m n=vk v:=by
 obtain⟨o,es,ep,ho,hd,_,hf⟩:=G;unfold PySem.W.nsIn at e;split at e
 ·rename_i c d es' n' sl q;have:=X _ _ q;rw[ho]at this;cases this;cases hd;split at e
  ·rename_i y he;rw[<-hf];unfold nsFind findBy;rw[<-Array.find?_toList,he];exact Option.some.inj e
  ·split at e<;>cases e
 ·cases e
theorem Ov{K:PySem.W.Frag}(X:K.In h)(q:Hu K C=v5):∃bm N nm qn bs sn sub ab col dd k0 k1 k2 k3 k5,h.get? C=vk (excClassObj nm qn C N bs bm v5 sn sub ab col dd k0 k1 k2 k3 k5 "ValueError.__new__")/\OwnTail h vmro bm/\
  (∃m,h.Ns N m/\∀f,Lk K C f=v5->m "__init__"=vk (.ref f)):=by
 unfold Hu at q;split at q
 ·rename_i dd cd sl ho;split at q
  ·rename_i C' bm k0 k1 k2 k3 n k5 hm hs;simp only[z5,beq_iff_eq,Bool.not_eq_true']at q;obtain⟨⟨⟨⟨⟨rfl,rfl⟩,hdel⟩,hdc⟩,ht⟩,hok⟩:=q;have hi:∀f,Lk K C' f=v5->PySem.W.nsIn K cd.ns "__init__"=vk (vk (.ref f)):=λf z=>by unfold Lk at z;rw[ho]at z;exact beq_iff_eq.mp z
   obtain⟨nm,bs,mro,ns,qn,hd,sn,sub,ab,col,del⟩:=cd;dsimp only at hm hdel hok hdc hi;subst hm hdel hdc;have hsl:sl= #[k0,k1,k2,k3,vk (.builtin "ValueError.__new__"),k5]:=by obtain⟨l⟩:=sl;simp only at hs;rw[hs]
   subst hsl;exact⟨bm,ns,nm,qn,bs,sn,sub,ab,col,dd,k0,k1,k2,k3,k5,X _ _ ho,PySem.W.tail_of_in X ht,_,.of_isNs (PySem.W.isNs_of_in X hok),λf z=>ZIf X (.of_isNs (PySem.W.isNs_of_in X hok)) (hi f z)⟩
  ·cases q
 ·cases q
noncomputable def exO(C:jL)(od:Option jL)(t:jL):Obj:={cls:=.ref C,dict:=od,data:=.fields #[.ref t,.none,.none,.none,.bool v6,.none]}
def exo(e C:jL)(od:Option jL)(h:Heap):Prop:=∃t,h.get? e=vk (exO C od t)
theorem ZAo{e:jL}(x:exo e C od h):ObjOk P w H h e (.ext (exo e C od)):=
 ⟨x,let⟨t,k⟩:=x;⟨_,k⟩,λh1 h2 ⟨t,k⟩ s=>⟨t,s _ k⟩⟩
section
variable{X:Cx}{C W:jL}{x:Str}{mc:xQ}{p apos pos:Pos}{a1 a2:jN}{t:TA}
noncomputable def tBI(C:jL)(t:TA):TE:=λσ H Q=>t σ H λvs H1=>∃e v,vs=[.ref e,v]/\H1 e=vk (.ext (exo e C v4))/\Q .non H1
theorem ZLg{a:jL}{o:HO}(h:H a=vk o):upd H a o=H:=by
 funext b;unfold upd;split
 ·rename_i z;rw[z,h]
 ·rfl
theorem ZMW{pl:Sem Bool}(hC:Hu X.K C=v5)(hg:Gl X x)(hm:X.mg x=vk (.ref W))(hs:PySem.W.specialIn X.K (.ref W) "__getattribute__"=vk (vk (.builtin "type.__getattribute__")))(hr:PySem.W.readsIn X.K W mc=v5)
  (hf:PySem.W.findCls X.K (.ref W) mc "__init__"=vk (.val (.builtin "ValueError.__init__"))) (ha:PA X [a1,a2] t) (hdb:(x==("__debug__":Str))=v6:=by decide)
  (he:xP [a1,a2] X.env=(v6,eval a1 X.env)::xP [a2] X.env:=by rfl) (hpl:(xV pos (xP [a2] X.env)).any (·.1)=v6:=by rfl)
  (ht:eval (.Call (.Attribute (.Name x p) "__init__" apos) [a1,a2] [] pos) X.env=(do
   let ov<-eval (.Name x p) X.env
   standAt apos.atName
   let(f,first)<-holding [ov] (getMethod ov "__init__" pl)
   callWith pos f first (xV pos (xP [a1,a2] X.env)) (xW pos (xG [] X.env))):=by rfl):
  PE X (.Call (.Attribute (.Name x p) "__init__" apos) [a1,a2] [] pos) (tBI C t):=by
 intro vv s σ H Q I h;refine PySem.W.methodCall_KW (pl:=pl) (Js I hg hm ?_ hdb) ht;refine PySem.W.method_cls I.kIn hs (PySem.W.cls_value I.kIn hr hf (by decide) ?_);refine PyProof.Rows.callWith_builtin1 (thn (ha pos vv _ σ H _ (I.tok _) h) λus s1 ⟨vs,H1,I1,r,e,v,ev,hx,q⟩=>?_) he hpl;subst ev;obtain⟨u,rfl⟩:∃u,us=[.ref e,u]:=by
  cases r with
  | cons r1 r2=>
   cases r2 with
   |cons r3 r4=>
    cases r4
    obtain rfl:=(show _=Value.ref e from r1)
    exact⟨_,rfl⟩
 obtain⟨⟨tp,hob⟩,_,_⟩:=I1.hok e _ hx;obtain⟨bm,N,nm,qn,bs,sn,sub,ab,col,dd,k0,k1,k2,k3,k5,hcl,T,m,hN,_⟩:=Ov I1.kIn hC;obtain⟨hp,g,d,tk,os⟩:=s1;have F:=PySem.F.excBase_ValueError;refine wpAny_call (codeAny_call_builtin F.init.plain F.initEntry (wpAny_check_init_subT F T hcl hob rfl ?_))
 wp_walk
 show EP X vv σ Q .none {heap:=(hp.push {cls:=.type "tuple",data:=.seq #[u]}).update e (Obj.mapFields (·.setIfInBounds 0 (Value.ref hp.objs.size))),gens:=g,drawn:=d,toks:=tk,os:=os}
 have he1:(hp.push {cls:=.type "tuple",data:=.seq #[u]}).get? e=vk (exO C v4 tp):=zQ _ hob
 have he2:((hp.push {cls:=.type "tuple",data:=.seq #[u]}).update e (Obj.mapFields (·.setIfInBounds 0 (Value.ref hp.objs.size)))).get? e=vk (exO C v4 hp.objs.size):=qX _ he1 rfl
 have J:=I1.write (t':=tk) (x:=e) (e:=e) (o:=.ext (exo e C v4)) (h':=(hp.push {cls:=.type "tuple",data:=.seq #[u]}).update e (Obj.mapFields (·.setIfInBounds 0 (Value.ref hp.objs.size)))) (by rw[hx];trivial) (.inl rfl)
  (λb o n k=>by rw[qW _ _ (Ne.symm n)];exact zQ _ k) ⟨_,he2⟩ (ZAo ⟨_,he2⟩)
 rw[ZLg hx]at J;exact⟨.non,H1,J,rfl,q⟩
end
theorem ZE3{a b c d:String}(e:N7 [.type a,.type b,.type c,.type d]=v5): [Value.type a,.type b,.type c,.type d]=vmro:=by
 simp only[N7,z5,beq_iff_eq]at e;obtain⟨⟨⟨rfl,rfl⟩,rfl⟩,rfl⟩:=e
 rfl
theorem ZDl(self:xQ):∀{l:List xQ},N7 l=v5->refuseLoop self "__setattr__" l=pure ()
 |[.type a,.type b,.type c,.type d],e=>by rw[ZE3 e];exact PySem.F.store_ValueError.passes self
 |.ref c::r,e=>by rw[refuseLoop_ref];exact ZDl self (l:=r) e
theorem ZDh:∀{l:List xQ},N7 l=v5->l.contains (.type "object")=v5
 |[.type a,.type b,.type c,.type d],e=>by rw[ZE3 e];simp
 |.ref c::r,e=>by rw[List.contains_cons,ZDh (l:=r) e,Bool.or_true]
section
open PySem.W
variable{prog:jR}{w:xZ}{A:jM}{s:jT}{K:vj}{x C:jL}{R:Result->jT->Prop}
theorem ZK8{ox:Obj}{od:Option Obj}{name:Str}{tk:Tok}{v:xQ}{r:Option xQ}(X:K.In s.heap)(I:InstAt s.heap x ox C od)(hp:Ut K C=v5)(ht:takerIn K C name=vk r)
  (h:∀b,xS (xL prog w) A.in1 (match r with |some a=>Builtin.ObjectAttr.setByDescriptor a (.ref x) v|none=>Builtin.ObjectAttr.storeInOwnDict (.ref x) (.ref C) (.str name tk) name v b)
   (λfin s'=>match fin with | .done f=>R (.ok f) s' | .again c'=>c'.quiet=v5/\codeAny (xL prog w) A c' R s') (λe s'=>R (.error e) s') s):
  codeAny (xL prog w) A (.call (.builtin "object.__setattr__") ⟨[.ref x,.str name tk,v],[]⟩) R s:=by
 obtain⟨cd,hcd,hve⟩:=any_some hp;obtain⟨at0,hat,htr⟩:=Option.bind_eq_some_iff.mp ht;have full:cd.mro≠[]:=λz=>by rw[z]at hve;cases hve
 have top:mroIn K C (.type "object")=vk v5:=by unfold mroIn;rw[hcd];show(if cd.mro.isEmpty=v5 then _ else _)=_;rw[if_neg (by simpa using full),ZDh hve]
 have line:Looks (xL prog w) s.heap (mroOf (.ref C)) cd.mro:=(looks_clsIn X hcd).andThen Looks.now;have obj:Looks (xL prog w) s.heap (isInstance (.ref x) (.type "object")) v5:=I.type.andThen (looks_mroIn X top);have tk3:Looks (xL prog w) s.heap (Builtin.ObjectAttr.storeTaker? at0) r:=by
  rcases at0 with _|av
  ·cases htr;exact Looks.now
  ·obtain⟨bb,h1,h2⟩:=zA.mp htr;subst h2
   exact(looks_takesIn X h1).andThen (by cases bb<;>exact Looks.now)
 refine codeAny_call_builtin F.store_object.slot.plain F.store_object.entry (@check_slot (xL prog w) _ _ _ "object.__setattr__" "object" "__setattr__" (.ref x) [.str name tk,v] [] _ F.store_object.kind F.store_object.split obj (F.store_object.args (.ref x) (.str name tk) v) ?_);rw[osa_eq,refuse_eq];apply xU;apply xU;refine I.type.here ?_;apply xU;refine line.here ?_;rw[ZDl _ hve]
 apply vY;apply xU;refine I.type.here ?_;apply xU;refine(looks_findIn X hat).here ?_;apply xU;exact tk3.here (h _)
end
section
variable{prog:jR}{w:xZ}{A:jM}{E:xQ->jT->Prop}{s:jT}{K:PySem.W.Frag}{e C t:jL}{name:Str}{v:xQ}
theorem ZJ9{Q:Unit->jT->Prop}(X:K.In s.heap)(he:s.heap.get? e=vk (exO C v4 t))
  (hs:PySem.W.findIn K (.ref C) "__setattr__"=vk (vk (.builtin "object.__setattr__"))) (hp:Ut K C=v5) (ht:PySem.W.takerIn K C name=vk v4) (hh:PySem.W.hasDictIn K C=v5)
  (h:∀h' dx tk,s.heap.objs.size<=dx->h'.get? e=vk (exO C (vk dx) t)->h'.Ns1 dx (λy=>if y=name then vk v else v4)->(∀b o,b≠e->s.heap.get? b=vk o->h'.get? b=vk o)->Q () {s with heap:=h',toks:=tk}):
  xS (xL prog w) A (setAttr (.ref e) name v) Q E s:=by
 have J:PySem.W.InstAt s.heap e (exO C v4 t) C v4:=⟨he,rfl,rfl,trivial⟩;refine PySem.W.set_plain X J hs (ZK8 (s:={s with toks:=s.toks+1}) (r:=v4) X J hp ht λb=>?_);obtain⟨cd,hc,hd'⟩:=PySem.W.any_some hh;refine xU (vY (xU (xU (wpAny_loadPart he (xU (PySem.W.Looks.here (s:={s with toks:=s.toks+1}) (PySem.W.looks_clsIn X hc) ?_))))));rw[hd'];have hx1:(s.heap.push {cls:=.type "dict",data:=.dict #[]}).get? e=vk (exO C v4 t):=zQ _ he
 have ne:e≠s.heap.objs.size:=z9 (zK he);refine xU (wpAny_alloc' ?_);refine xU (wpAny_update' hx1 ?_);unfold dictMade;refine vY ?_;have hgd:((s.heap.push {cls:=.type "dict",data:=.dict #[]}).update e λo=>{cls:=o.cls,dict:=vk s.heap.objs.size,data:=o.data,slots:=o.slots}).get? s.heap.objs.size=vk {cls:=.type "dict",data:=.dict #[]}:=
  (Heap.get?_update_ne _ _ _ _ ne.symm).trans (Heap.get?_push_at rfl rfl)
 have hnd:((s.heap.push {cls:=.type "dict",data:=.dict #[]}).update e λo=>{cls:=o.cls,dict:=vk s.heap.objs.size,data:=o.data,slots:=o.slots}).Ns s.heap.objs.size (λ_=>v4):=
  ⟨_,#[],_,hgd,rfl,λy hy=>absurd hy (by simp),λ_=>rfl⟩
 show xS _ _ (Builtin.ObjectAttr.storeInDict s.heap.objs.size _ name v) _ _ _;unfold Builtin.ObjectAttr.storeInDict Builtin.ObjectAttr.newKeyGuard;refine xU (vY (xU (wpAny_nsSet1 (Heap.Ns1.of_empty hnd) λh' hn' hs'=>?_)));obtain⟨oD,esD,epD,hoD,hdD,hcD⟩:=hn'.count (Within.cons name v Within.nil);refine xU (wpAny_lookBehind hoD (by rw[hdD];exact pastItsLine_dict (z8 hcD (by rw[zO,qU,xN];lia))) ?_)
 refine vY (h h' s.heap.objs.size _ (zY _) ?_ hn' λb o n hb=>?_)
 ·exact(hs'.2 e ne).trans (qX _ hx1 rfl)
 ·exact(hs'.2 b (z9 (zK hb))).trans ((Heap.get?_update_ne _ _ _ _ n).trans (zQ _ hb))
end
structure XSet (K:PySem.W.Frag) (C:jL) (f:Str):Prop where
 ec:Hu K C=v5
 sa:PySem.W.findIn K (.ref C) "__setattr__"=vk (vk (.builtin "object.__setattr__"))
 po:Ut K C=v5
 tk:PySem.W.takerIn K C f=vk v4
 hd:PySem.W.hasDictIn K C=v5
section
variable{X:Cx}{C:jL}{f:Str}{o value:jN}{pos pos':Pos}{ta tv:TE}
def sXf(C:jL)(f:Str)(ta tv:TE):TS:=λD σ H=>tv σ H λy H1=>ta σ H1 λx H2=>∃e,x=.ref e/\H2 e=vk (.ext (exo e C v4))/\
 ∀dx o,H2 dx=v4->dx≠e->D.nx σ (upd (upd H2 e (.ext (exo e C (vk dx)))) dx (.frz o (.xd [(f,y)])))
theorem ZPp(S:XSet X.K C f)(ha:PE X o ta)(hv:PE X value tv)(hs:swapsWith value (vk (.Attribute o f pos')) pos.line X.env=pure v6):PS X (.Assign [.Attribute o f pos'] value pos) (sXf C f ta tv):=by
 intro vv s σ H D I h;refine plainObj_wpAny_Assign_Attribute (thn (hv vv s σ H _ I h) λu s1 ⟨y,H1,I1,ry,q⟩=>thn (ha vv s1 σ H1 _ I1 q) λov s2 ⟨x,H2,I2,rx,e,ex,hx,q2⟩=>?_) hs;subst ex;obtain rfl:ov=Value.ref e:=rx;obtain⟨⟨t,hob⟩,_,_⟩:=I2.hok e _ hx;refine ZJ9 I2.kIn hob S.sa S.po S.tk S.hd λh' dx tk hz he' hn kp=>?_
 have fx:H2 dx=v4:=I2.hok.fresh hz;have ne:dx≠e:=λz=>by rw[z,hx]at fx;cases fx
 obtain⟨od,hod⟩:∃od,h'.get? dx=vk od:=by obtain⟨o,_,_,k,_⟩:=hn;exact⟨o,k⟩
 have J:=I2.write (t':=tk) (x:=e) (e:=e) (o:=.ext (exo e C (vk dx))) (h':=h') (by rw[hx];trivial) (.inl rfl) (λb o n k=>kp b o n k) ⟨_,he'⟩ (ZAo ⟨t,he'⟩);have fx':upd H2 e (.ext (exo e C (vk dx))) dx=v4:=by unfold upd;rw[if_neg ne];exact fx
 have K2:HOk X.prog X.w (upd (upd H2 e (.ext (exo e C (vk dx)))) dx (.frz od (.xd [(f,y)]))) h':=λb ob z=>by
  by_cases zb:b=dx
  ·subst zb;have zo:ob=.frz od (.xd [(f,y)]):=by
    have z':upd (upd H2 e (.ext (exo e C (vk b)))) b (.frz od (.xd [(f,y)])) b=vk (.frz od (.xd [(f,y)])):=by unfold upd;rw[if_pos rfl]
    rw[z']at z;exact(Option.some.inj z).symm
   subst zo;refine⟨hod,_,hn,λg=>?_⟩;by_cases zg:g=f
   ·subst zg;simp[q8];exact ry
   ·have:(g==f)=v6:=by simpa using zg
    simp[q8,this,zg]
    trivial
  ·have z':upd H2 e (.ext (exo e C (vk dx))) b=vk ob:=by unfold upd at z⊢;rw[if_neg zb]at z;exact z
   refine(J.hok b ob z').stay (λ_ _ _ k=>k) (λb' k=>?_) λb' xs k=>?_
   ·have:b'≠dx:=λw=>by rw[w,fx']at k;cases k
    show upd _ dx _ b'=_;unfold upd at k⊢;rw[if_neg this];exact k
   ·have:b'≠dx:=λw=>by rw[w,fx']at k;cases k
    show upd _ dx _ b'=_;unfold upd at k⊢;rw[if_neg this];exact k
 have ud:∀b,b≠e->b≠dx->upd (upd H2 e (.ext (exo e C (vk dx)))) dx (.frz od (.xd [(f,y)])) b=H2 b:=λb n1 n2=>by unfold upd;rw[if_neg n2,if_neg n1]
 have U:Un X.fs [] H2 (upd (upd H2 e (.ext (exo e C (vk dx)))) dx (.frz od (.xd [(f,y)]))) s2.heap h':=by
  have nd:∀b o,s2.heap.get? b=vk o->b≠dx:=λb o k z=>by have:=zK k;rw[z]at this;exact absurd this (Nat.not_lt.mpr hz)
  have n0:∀b,H2 b=v4->b≠e:=λb k z=>by rw[z,hx]at k;cases k
  refine⟨λb o k n _ _=>kp b o (n0 b n) k,λb o k n _ _=>⟨o.slots,kp b o (n0 b n) k⟩,λb o k n _=>by rw[ud b (n0 b n) (nd b o k)];exact n,λb o k _=>?_,λb xs k=>?_,λb o u k=>?_,λb ps k=>⟨#[],?_⟩⟩
  ·by_cases z:b=e
   ·subst z;exact⟨_,he'⟩
   ·exact⟨o,kp b o z k⟩
  ·rw[ud b (λz=>by rw[z,hx]at k;cases k) (λz=>by rw[z,fx]at k;cases k)];exact k
  ·rw[ud b (λz=>by rw[z,hx]at k;cases k) (λz=>by rw[z,fx]at k;cases k)];exact k
  ·rw[ud b (λz=>by rw[z,hx]at k;cases k) (λz=>by rw[z,fx]at k;cases k)];simpa using k
 exact⟨σ,_,I2.un (t':=tk) U K2,q2 dx od fx ne⟩
end
def intS(i:Int):Prop:=i.natAbs.log2<1920/\(Str.ofString (toString i)).length<=1000
def ZAY(w:V):Prop:=(∃i:Int,w=.int i/\intS i)∨w=.non
section
variable{X:Cx}{j:Nat}{v s1 s2:Str}{k1 k2 p1 p2 pv pf pos}
noncomputable def tFs(j:Nat):TE:=λσ H Q=>∃w:V,σ[j]?=vk (vk w)/\ZAY w/\∀x,Q (.str x) H
theorem ZNB(hN:X.N[j]?=vk v)(hv:Vis X.env.scope v)(l1:s1.length<=1000)(l2:s2.length<=1000)(hd:(v==("__debug__":Str))=v6:=by decide)(hcd:(v==("__classdict__":Str))=v6:=by decide):
  PE X (.JoinedStr [.Constant (.str s1) k1 p1,.FormattedValue (.Name v pv) (-1) v4 pf,.Constant (.str s2) k2 p2] pos) (tFs j):=by
 intro vv s σ H Q I h;obtain⟨w,hσ,hw,q⟩:=h;have la:∀a b:Str,(a++b).length=a.length+b.length:=λa b=>by show(Str.append a b).length=_;unfold Str.append Str.length;simp
 have sz:∀n,n<=1000000->n<=sizeLine:=λn h=>by rw[xN];lia
 refine JoinedStr_many (joinParts_cons (thn (Rk (X:=X) vv s σ H (λx H'=>x=.str s1/\H'=H) I ⟨rfl,rfl⟩) λu s1' h1=>?_));obtain⟨x,H1,I1,rx,rfl,rfl⟩:=h1;obtain⟨t0,rfl⟩:=rx;refine⟨sz _ (by rw[la];show 0+_<=_;lia),?_⟩;refine joinParts_cons (FormattedValue_plain (thn (Oe (pos:=pv) hN hv hd hcd vv s1' σ H1 (λx H'=>x=w/\H'=H1) I1 ?_) λu s2' h1=>?_))
 ·exact⟨w,hσ,rfl,rfl⟩
 obtain⟨x,H2,I2,rx,rfl,rfl⟩:=h1;rcases hw with⟨i,rfl,hi,ls⟩|rfl
 ·obtain⟨t1,rfl⟩:=rx;refine formatField_int_small hi ⟨sz _ (by rw[la,la];show 0+_+_<=_;lia),?_⟩;refine joinParts_consE (joinParts_cons (thn (Rk (X:=X) vv _ σ H2 (λx H'=>x=.str s2/\H'=H2) (I2.tok _) ⟨rfl,rfl⟩) λu s3' h1=>?_));obtain⟨x,H3,I3,rx,rfl,rfl⟩:=h1;obtain⟨t2,rfl⟩:=rx;refine⟨sz _ (by rw[la,la,la];show 0+_+_+_<=_;lia),?_⟩;exact joinParts_nilE (joinParts_nil ⟨.str _,H3,I3.tok _,⟨_,rfl⟩,q _⟩ (sz _ (by rw[la,la,la];show 0+_+_+_<=_;lia)))
 ·cases(show u=Value.none from rx)
  have ls:(Str.ofString "None").length<=1000:=by decide
  refine wpAny_formatField_none ⟨sz _ (by rw[la,la];show 0+_+_<=_;lia),?_⟩;refine joinParts_consE (joinParts_cons (thn (Rk (X:=X) vv _ σ H2 (λx H'=>x=.str s2/\H'=H2) (I2.tok _) ⟨rfl,rfl⟩) λu s3' h1=>?_));obtain⟨x,H3,I3,rx,rfl,rfl⟩:=h1;obtain⟨t2,rfl⟩:=rx;refine⟨sz _ (by rw[la,la,la];show 0+_+_+_<=_;lia),?_⟩;exact joinParts_nilE (joinParts_nil ⟨.str _,H3,I3.tok _,⟨_,rfl⟩,q _⟩ (sz _ (by rw[la,la,la];show 0+_+_+_<=_;lia)))
end
def spI(C:jL)(f:Str):Sp:=λvs H Q _=>∃(e:jL)(i:V),vs=[.ref e,i]/\ZAY i/\H e=vk (.ext (exo e C v4))/\∀dx o,H dx=v4->dx≠e->Q .non (upd (upd H e (.ext (exo e C (vk dx)))) dx (.frz o (.xd [(f,i)])))
structure XBase (K:PySem.W.Frag) (mg:Str->Option xQ) (x:Str) (W:jL):Prop where
 m:mg x=vk (.ref W)
 s:PySem.W.specialIn K (.ref W) "__getattribute__"=vk (vk (.builtin "type.__getattribute__"))
 r:PySem.W.readsIn K W (.type "type")=v5
 f:PySem.W.findCls K (.ref W) (.type "type") "__init__"=vk (.val (.builtin "ValueError.__init__"))
theorem ZJB{K:PySem.W.Frag}{xw v f s1 s2:Str}{fa W:jL}{k:Nat}{pw pa pc pe p1 p2 p3 p4 p5 p6 p7 p8 pv pf:Pos}{k1 k2}
  (F:Fun K x qual st fa fd) (S:FnScope ["self",v] ["self",v] (Am st)) (XS:XSet K C f) (XB:XBase K mg xw W)
  (hb:Cz st=[.Expr (.Call (.Attribute (.Name xw pw) "__init__" pa) [.Name "self" p1,.JoinedStr [.Constant (.str s1) k1 p2,.FormattedValue (.Name v pv) (-1) v4 pf,.Constant (.str s2) k2 p3] p4] [] pc) pe,.Assign [.Attribute (.Name "self" p5) f p6] (.Name v p8) p7])
  (l1:s1.length<=1000) (l2:s2.length<=1000) (hgl:(Am st).names.lookup xw=vk .globalImplicit) (hdw:(xw==("__debug__":Str))=v6) (hdv:(v==("__debug__":Str))=v6) (hcv:(v==("__classdict__":Str))=v6)
  (hvs:Vis (Am st) "self") (hvv:Vis (Am st) v)
  (hev:∀env:Env,∃pl:Sem Bool,eval (.Call (.Attribute (.Name xw pw) "__init__" pa) [.Name "self" p1,.JoinedStr [.Constant (.str s1) k1 p2,.FormattedValue (.Name v pv) (-1) v4 pf,.Constant (.str s2) k2 p3] p4] [] pc) env=(do
   let ov<-eval (.Name xw pw) env
   standAt pa.atName
   let(f,first)<-holding [ov] (getMethod ov "__init__" pl)
   callWith pc f first (xV pc (xP [.Name "self" p1,.JoinedStr [.Constant (.str s1) k1 p2,.FormattedValue (.Name v pv) (-1) v4 pf,.Constant (.str s2) k2 p3] p4] env)) (xW pc (xG [] env)))):
  FnOk P w K mg base CX0 (k+1) fa fd ["self",v] (spI C f):=by
 refine F.ok S (λvs H Q E ⟨e,i,z,_⟩=>by rw[z];rfl) (λcdv A outer s H vs Q E hr h=>?_);obtain⟨e,i,rfl,hi,hx,q⟩:=h;rw[hb];generalize hX:(Fo CX0 P w K mg base ["self",v] qual (Am st) fa cdv A outer s H E).nox=X;have hK:X.K=K:=by rw[<-hX];rfl
 have hm:X.mg=mg:=by rw[<-hX];rfl
 have hN:X.N=(["self",v]:List Str):=by rw[<-hX];rfl
 have hs:X.env.scope=Am st:=by rw[<-hX];rfl
 have pself:∀p,PE X (.Name "self" p) (Ls 0):=λp=>Oe (by rw[hN];rfl) (by rw[hs];exact hvs) (by decide) (by decide)
 have pv':∀p,PE X (.Name v p) (Ls 1):=λp=>Oe (by rw[hN];rfl) (by rw[hs];exact hvv) hdv hcv
 have hG:Gl X xw:=by unfold Gl;rw[<-hX];exact hgl
 obtain⟨pl,hpl⟩:=hev X.env;have c1:PE X (.Call (.Attribute (.Name xw pw) "__init__" pa) [.Name "self" p1,.JoinedStr [.Constant (.str s1) k1 p2,.FormattedValue (.Name v pv) (-1) v4 pf,.Constant (.str s2) k2 p3] p4] [] pc) (tBI C (R4 (Ls 0) (R4 (tFs 1) Ow))):=
  ZMW (mc:=.type "type") (W:=W) (by rw[hK];exact XS.ec) hG (by rw[hm];exact XB.m) (by rw[hK];exact XB.s) (by rw[hK];exact XB.r) (by rw[hK];exact XB.f) (Z5 (pself p1) (Z5 (ZNB (by rw[hN];rfl) (by rw[hs];exact hvv) l1 l2 hdv hcv) ZGw)) hdw rfl rfl hpl
 have c2:PS X (.Assign [.Attribute (.Name "self" p5) f p6] (.Name v p8) p7) (sXf C f (Ls 0) (Ls 1)):=ZPp (by rw[hK];exact XS) (pself p5) (pv' p8) rfl;refine⟨_,ZFw (ZFy c1 rfl) (ZEC c2),?_⟩;refine⟨.ref e,rfl,i,rfl,hi,λxx=>⟨e,_,rfl,hx,?_⟩⟩;exact⟨i,rfl,.ref e,rfl,e,rfl,hx,q⟩
section
variable{M:Model}{A:jM}{E:xQ->jT->Prop}{env:Env}
variable{nm q:Str}{C N:jL}{bs bm:List xQ}{hdct:Bool}{sn:List Str}{sub:List xQ}{ab:Bool}{col:Option Bool}{dd:Option jL}{k0 k1 k2 k3 k5:Option xQ}{newId:String}
theorem ZKr{x:Sem xQ}{Q:Flow->jT->Prop}(hh:A.handled=v4)
  (h:xS M A x (λv s₁=>∃e od t bm N nm q bs hdct sn sub ab col dd k0 k1 k2 k3 k5 newId,v=.ref e/\s₁.heap.get? C=vk (excClassObj nm q C N bs bm hdct sn sub ab col dd k0 k1 k2 k3 k5 newId)/\bm.contains (.type "BaseException")=v5/\
   s₁.heap.get? e=vk {cls:=.ref C,dict:=od,data:=.fields #[.ref t,.none,.none,.none,.bool v6,.none]}/\E (.ref e) s₁) E s):xS M A (raiseStmt env (vk x) v4) Q E s:=by
 unfold raiseStmt;refine xU (vV h (λv s₁ h₁=>?_) λ_ _ x=>x);obtain⟨e,od,t,bm,N,nm,q,bs,hdct,sn,sub,ab,col,dd,k0,k1,k2,k3,k5,newId,rfl,hC,hb,he,hE⟩:=h₁;have hcB:(Value.ref C::bm).contains (.type "BaseException")=v5:=by rw[List.contains_cons,hb,Bool.or_true]
 obtain⟨hp,g,d,tk,os⟩:=s₁
 repeat (first|with_reducible refine wpAny_loadPart_at he ?_|with_reducible refine wpAny_loadPart_at hC ?_|(with_reducible refine wpAny_isSubtype_exc hC ?_;rw[hcB])|wp_step)
 exact wpAny_raiseNew_none hh hE
theorem ZLG{x:jN}{pos:Pos}{Q:Flow->jT->Prop}(hh:A.handled=v4)
  (h:xS M A (eval x env) (λv s₁=>∃e od t bm N nm q bs hdct sn sub ab col dd k0 k1 k2 k3 k5 newId,v=.ref e/\s₁.heap.get? C=vk (excClassObj nm q C N bs bm hdct sn sub ab col dd k0 k1 k2 k3 k5 newId)/\bm.contains (.type "BaseException")=v5/\
   s₁.heap.get? e=vk {cls:=.ref C,dict:=od,data:=.fields #[.ref t,.none,.none,.none,.bool v6,.none]}/\E (.ref e) s₁) E s):xS M A (exec (.Raise (vk x) v4 pos) env) Q E s:=by
 rw[arm_exec_Raise];refine xU (wpAny_standAt (ZKr (C:=C) hh ?_));exact xU (vV h (λv s₃ h₃=>xU (wpAny_standAt (vY h₃))) λ_ _ x=>x)
end
section
variable{X:Cx}{C fI:jL}{f x:Str}{np cpos pos:Pos}{a:jN}{ta:TA}{E:XK}{k:Nat}{fd:jO}{v:Str}
def tRz(C:jL)(f:Str)(E:XK)(ta:TA):TS:=λ_ σ H=>ta σ H λvs H1=>∃i:V,vs=[i]/\ZAY i/\∀dx o,H1 dx=v4->E (.ref C) (vk dx) (upd H1 dx (.frz o (.xd [(f,i)])))
theorem ZMr(hcalm:X.calm=v5)(hs:X.stack=X.env::X.outer)(hex:X.ex=[])(hfr:X.env.frame=vk X.env.locals)(hxe:∀e s,K8 X E e s->X.xe e s)
  (XS:XSet X.K C f) (hi:Lk X.K C fI=v5) (hfn:∃o,X.K.lookup fI=vk o/\o.cls=.type "function") (F:FnOk X.prog X.w X.K X.mg X.base CX0 k fI fd ["self",v] (spI C f)) (hr:Room (k+1) X.A) (hb:Binds X.K fd ["self",v] [])
  (hg:Gl X x) (hm:X.mg x=vk (.ref C)) (hk:PySem.W.keepIn X.K (.ref C)=v5) (ha:PA X [a] ta) (hdb:(x==("__debug__":Str))=v6:=by decide)
  (he:xP [a] X.env=(v6,eval a X.env)::xP [] X.env:=by rfl) (hpl:(xV cpos (xP [] X.env)).any (·.1)=v6:=by rfl):
  PS X (.Raise (vk (.Call (.Name x np) [a] [] cpos)) v4 pos) (tRz C f E ta):=by
 intro vv s σ H D I h;refine ZLG (C:=C) (I.ok.hd hcalm) ?_;refine xT (Js I hg hm ?_ hdb);refine PySem.W.callWith_K (h₀:=X.base) I.ok.mod.kin hk (thn (ha cpos vv s σ H _ I h) λus s1 ⟨vs,H1,I1,r,i,ev,hi',q⟩=>⟨I1.kIn,?_⟩) he hpl;subst ev;obtain⟨bm,N,nm,qn,bs,sn,sub,ab,col,dd,k0,k1,k2,k3,k5,hcl,T,m,hN,hin⟩:=Ov I1.kIn XS.ec;obtain⟨oI,hfI,hfc⟩:=hfn;have hfI:=I1.kIn _ _ hfI;have hl1:us.length<=sizeLine:=by rw[<-r.length,xN];show 1<=_;decide
 obtain⟨hp,g,d,tk,os⟩:=s1;have FB:=PySem.F.excBase_ValueError;refine ZLd FB T hcl hN (hin fI hi) hfI hfc (λh' e hm' hz=>?_) hl1;obtain⟨t,ht,_,_⟩:=hm'.there;have ho:exo e C v4 h':=⟨t,ht⟩;have I2:=I1.laid (t':=tk) (a:=e) (o:=.ext (exo e C v4)) (h':=h') hm'.keeps hz (ZAo ho);have fe:H1 e=v4:=I1.hok.fresh hz;obtain⟨u,rfl⟩:∃u,us=[u]:=by
  cases r with
  |cons r1 r2=>cases r2;exact⟨_,rfl⟩
 have r2:Vals [V.ref e,i] [Value.ref e,u]:=.cons rfl r;have h2e:upd H1 e (.ext (exo e C v4)) e=vk (.ext (exo e C v4)):=by unfold upd;rw[if_pos rfl]
 have h2n:∀b,b≠e->upd H1 e (.ext (exo e C v4)) b=H1 b:=λb n=>by unfold upd;rw[if_neg n]
 refine wpAny_call (xk (F.run _ X.stack _ _ ⟨[Value.ref e,u],[]⟩ [Value.ref e,u] [V.ref e,i] (λw H3=>w=.non/\∃dx o,H1 dx=v4/\dx≠e/\H3=upd (upd (upd H1 e (.ext (exo e C v4))) e (.ext (exo e C (vk dx)))) dx (.frz o (.xd [(f,i)]))) E0 (hr.make C [u] [])
  (I2.env0.make C [u] []) (by simpa using hb _ [Value.ref e,u] I2.kIn rfl) r2 ⟨e,i,rfl,hi',h2e,λdx o n1 n2=>⟨rfl,dx,o,by rw[<-h2n dx n2];exact n1,n2,rfl⟩⟩) λr s' hq'=>?_)
 cases r with
 |error e=>exact hq'.elim
 | ok fl=>
  cases fl with
  |next=>exact False.elim hq'
  |brk=>exact False.elim hq'
  |cont=>exact False.elim hq'
  | ret w=>
   obtain⟨_,_,I3,_⟩:=I2.after hq';obtain⟨vw,H3,os',bare',un,hok,rw',rfl,dx,o,nd,ne,rfl⟩:=hq';refine⟨rw',?_⟩;have hd3:∀b,b≠e->upd (upd (upd H1 e (.ext (exo e C v4))) e (.ext (exo e C (vk dx)))) dx (.frz o (.xd [(f,i)])) b=upd H1 dx (.frz o (.xd [(f,i)])) b:=λb n=>by
    unfold upd;split
    ·rfl
    ·simp[n]
   have he3:upd (upd (upd H1 e (.ext (exo e C v4))) e (.ext (exo e C (vk dx)))) dx (.frz o (.xd [(f,i)])) e=vk (.ext (exo e C (vk dx))):=by unfold upd;rw[if_neg (Ne.symm ne),if_pos rfl]
   have feN:upd H1 dx (.frz o (.xd [(f,i)])) e=v4:=by unfold upd;rw[if_neg (Ne.symm ne)];exact fe
   obtain⟨⟨t',ht'⟩,_,_⟩:=hok e _ he3;obtain⟨bm',N',nm',qn',bs',sn',sub',ab',col',dd',l0,l1,l2,l3,l5,hcl',T',_⟩:=Ov I3.kIn XS.ec;have ne':∀b o,hp.get? b=vk o->b≠e:=λb o k z=>by rw[z,hm'.new]at k;cases k
   have mk:Made X H1 ⟨hp,g,d,tk,os⟩ e (.ref C) (vk dx) s' (upd H1 dx (.frz o (.xd [(f,i)]))):=by
    refine⟨os',bare',⟨λb o k n hb hx=>un.keep b o (hm'.keeps b o k) (by rw[h2n b (ne' b o k)];exact n) hb hx,λb o k n hb hx=>un.slot b o (hm'.keeps b o k) (by rw[h2n b (ne' b o k)];exact n) hb hx,λb o k n hx=>?_,λb o k hx=>un.there b o (hm'.keeps b o k) hx,λb xs k=>?_,λb o u k=>?_,λb ps k=>?_⟩,λb ob z=>?_,⟨_,_,ht',rfl,rfl,rfl,rfl⟩,feN,hm'.new⟩
    ·rw[<-hd3 b (ne' b o k)];exact un.free b o (hm'.keeps b o k) (by rw[h2n b (ne' b o k)];exact n) hx
    ·have nb:b≠e:=λz=>by rw[z,fe]at k;cases k
     rw[<-hd3 b nb];exact un.tups b xs (by rw[h2n b nb];exact k)
    ·have nb:b≠e:=λz=>by rw[z,fe]at k;cases k
     rw[<-hd3 b nb];exact un.frzs b o u (by rw[h2n b nb];exact k)
    ·have nb:b≠e:=λz=>by rw[z,fe]at k;cases k
     rw[<-hd3 b nb];exact un.tbls b ps (by rw[h2n b nb];exact k)
    ·have nb:b≠e:=λz'=>by rw[z',feN]at z;cases z
     rw[<-hd3 b nb]at z;refine(hok b ob z).stay (λ_ _ _ k=>k) (λb' k=>?_) λb' xs k=>?_
     ·rw[<-hd3 b' (λz'=>by rw[z',he3]at k;cases k)];exact k
     ·rw[<-hd3 b' (λz'=>by rw[z',he3]at k;cases k)];exact k
   exact⟨e,vk dx,t',bm',N',nm',qn',bs',v5,sn',sub',ab',col',dd',l0,l1,l2,l3,l5,_,rfl,hcl',T'.hasType FB.hasBase,ht',hxe _ _ (ZI2 hs hex hfr I1 mk (q dx o nd) ⟨C,rfl⟩)⟩
end
section
variable{X:Cx}{vv:List (jL×Obj)}{σ:St}{H H':Hp}{s s':jT}{B h'':Heap}{ea:jL}{cls:xQ}{od:Option jL}{E:XK}{fl:xQ}
theorem ZH8(I:Inv X vv σ H s)(os:s'.os=s.os)(bare:AllBare s'.gens)(un:Un (frs X.stack) [] H H' s.heap s'.heap)(hok:HOk X.prog X.w H' s'.heap)
  (bb:∀b o,s.heap.get? b=vk o->H b=v4->b∉frs X.stack->B.get? b=vk o) (al:∀b,H' b≠v4->∃o,B.get? b=vk o) (eb:B.get? ea=v4) (st:B.StaysIn s'.heap) (new:s.heap.get? ea=v4)
  (n:Noted B X.stack ea cls od fl s'.heap h''):∃oe vs,h''.get? ea=vk oe/\oe.cls=cls/\oe.dict=od/\oe.data=.fields vs/\H' ea=v4/\Inv X vv σ (upd H' ea (.frz oe (.own 0))) {s' with heap:=h''}:=by
 obtain⟨oe,vs,T,oT,ts,he,⟨hc,hd⟩,hda,_⟩:=n.tr;have fe:H' ea=v4:=by
  cases z:H' ea with
  |none=>rfl
  |some u=>
   obtain⟨o,k⟩:=al ea (by rw[z];simp);rw[eb]at k;cases k
 have ud:∀b,b≠ea->upd H' ea (.frz oe (.own 0)) b=H' b:=λb k=>by unfold upd;rw[if_neg k]
 have ns:∀b o,s.heap.get? b=vk o->b≠ea:=λb o k z=>by rw[z,new]at k;cases k
 have hk:=ZDn hok al st n.st;refine⟨oe,vs,he,hc,hd,hda,fe,I.call' (ch:=[]) os ⟨λb o q hn hb _=>n.st b o (bb b o q hn hb),λb o q hn hb _=>?_,λb o q hn hx=>?_,λb o q hx=>?_,λb xs q=>?_,λb o u q=>?_,λb ps q=>?_⟩ (λb ob z=>?_) bare λb z=>absurd z (by simp)⟩
 ·obtain⟨sl,k⟩:=un.slot b o q hn hb (by simp);obtain⟨_,o2,k2,nf⟩:=I.stack.mem hb;rw[q]at k2;cases k2;obtain⟨sl',k3⟩:=n.up b _ k nf;exact⟨sl',k3⟩
 ·rw[ud b (ns b o q)];exact un.free b o q hn hx
 ·obtain⟨o1,k1⟩:=un.there b o q hx;exact n.th b o1 k1
 ·have:=un.tups b xs q;rw[ud b (λz=>by rw[z,fe]at this;cases this)];exact this
 ·have:=un.frzs b o u q;rw[ud b (λz=>by rw[z,fe]at this;cases this)];exact this
 ·obtain⟨m,this⟩:=un.tbls b ps q;exact⟨m,by rw[ud b (λz=>by rw[z,fe]at this;cases this)];exact this⟩
 ·by_cases zb:b=ea
  ·subst zb;have zo:ob=.frz oe (.own 0):=by unfold upd at z;rw[if_pos rfl]at z;exact(Option.some.inj z).symm
   subst zo;exact⟨he,oe,he⟩
  ·rw[ud b zb]at z;refine(hk b ob z).stay (λ_ _ _ k=>k) (λb' k=>?_) λb' xs k=>?_
   ·rw[ud b' (λz'=>by rw[z',fe]at k;cases k)];exact k
   ·rw[ud b' (λz'=>by rw[z',fe]at k;cases k)];exact k
theorem lands(hs:X.stack=X.env::X.outer)(hfr:X.env.frame=vk X.env.locals)(I:Inv X vv σ H s){e:xQ}(h:CXx X.prog X.w X.stack H s E e s'){Q:Unit->jT->Prop}{E':xQ->jT->Prop}
  (q:∀(ea:jL)(C:xQ)(od:Option jL)(H':Hp)(oe:Obj)(vs:Array xQ)(h'':Heap),e=.ref ea->h''.get? ea=vk oe->oe.cls=C->oe.dict=od->oe.data=.fields vs->E C od H'->H' ea=v4->Inv X vv σ (upd H' ea (.frz oe (.own 0))) {s' with heap:=h''}->
   (∃B:Heap,Trc h'' B ea C od .none)->(∃C',C=.ref C')->Q () {s' with heap:=h''}):
  xS (xL X.prog X.w) X.A (noteFrame e X.env) (λ_ s2=>xS (xL X.prog X.w) X.A (setFlight e v4) Q E' s2) E' s':=by
 obtain⟨ea,cls,od,H',B,rfl,os,bare,un,hok,fly,bb,new,hE,hcC⟩:=h;have ff:=fly.fr;rw[hs]at ff;refine ZE6 (B:=B) (L:=X.env.locals) (outer:=X.outer) (by rw[I.ok.frames,hs]) ff hfr fly.tr fly.st fly.eb λh1 n1=>?_
 refine ZAN n1.fr n1.tr n1.st λh2 n2=>?_
 have n:=n1.trans n2;rw[<-hs]at n;obtain⟨oe,vs,he,hc,hd,hda,fe,J⟩:=ZH8 I os bare un hok bb fly.al fly.eb fly.st new n;exact q ea cls od H' oe vs h2 rfl he hc hd hda hE fe J ⟨B,n.tr⟩ hcC
end
section
variable{M:Model}{A:jM}{E:xQ->jT->Prop}{h:Heap}{g:Array GenState}{d:Drawn}{t:Nat}{os:OsState}
theorem ZLB{W e:jL}{oe:Obj}{b:Bool}{nm q:Str}{N:jL}{bs bm:List xQ}{hdct:Bool}{sn:List Str}{sub:List xQ}{ab:Bool}{col:Option Bool}{dd:Option jL}{k0 k1 k2 k3 k5:Option xQ}{newId:String}
  {nm' q':Str} {N':jL} {bs' bm':List xQ} {hdct':Bool} {sn':List Str} {sub':List xQ} {ab':Bool} {col':Option Bool} {dd':Option jL} {l0 l1 l2 l3 l5:Option xQ} {newId':String} {Q:Bool->jT->Prop}
  (hC:h.get? C=vk (excClassObj nm q C N bs bm hdct sn sub ab col dd k0 k1 k2 k3 k5 newId)) (hW:h.get? W=vk (excClassObj nm' q' W N' bs' bm' hdct' sn' sub' ab' col' dd' l0 l1 l2 l3 l5 newId')) (he:h.get? e=vk oe) (hc:oe.cls=.ref C)
  (hb:bm'.contains (.type "BaseException")=v5) (hin:(Value.ref C::bm).contains (.ref W)=b) (hq:Q b ⟨h,g,d,t,os⟩):xS M A (excMatches (.ref e) (.ref W)) Q E ⟨h,g,d,t,os⟩:=by
 have hcB:(Value.ref W::bm').contains (.type "BaseException")=v5:=by rw[List.contains_cons,hb,Bool.or_true]
 have f:=tc_notTuple;unfold excMatches
 repeat (first|(with_reducible refine wpAny_loadPart_at he ?_;rw[hc])|with_reducible refine wpAny_loadPart_at hW ?_|(with_reducible refine wpAny_isSubtype_exc hW ?_;rw[hcB])|(with_reducible refine wpAny_isSubtype_exc hC ?_;rw[hin])|wp_step)
 cases b<;>(wp_walk;exact hq)
theorem ZOQ{B:Heap}{e:jL}{Q:Unit->jT->Prop}(ht:Trc s.heap B e cls od .none)(q:∀h',(∀b o,s.heap.get? b=vk o->h'.get? b=vk o)->Q () {s with heap:=h'}):xS M A (setFlight (.ref e) v4) Q E s:=by
 obtain⟨oe,vs,T,oT,ts,he,_,hd,h1,⟨nT,nTe⟩,hT,dT,h3⟩:=ht;unfold setFlight;refine xU (vJ he hd h1 ?_)
 rw[if_pos (show(Value.ref T != Value.none)=v5 from by simp)]
 refine wpAny_setField hT dT (zS.mp h3).1 (q _ λb o k=>?_);by_cases z:b=T
 ·subst z;rw[hT]at k;cases k;rw[qX _ hT (Obj.isFreed_of_fields (Obj.data_mapFields dT _))];obtain⟨c,dd,dt,sl⟩:=oT;obtain rfl:dt=.fields ts:=dT;unfold Obj.mapFields;dsimp only
  congr 2
  have:ts.setIfInBounds 3 Value.none=ts:=by
   refine Array.ext_getElem? λi=>?_
   rw[Array.getElem?_setIfInBounds];split
   ·rename_i z;subst z;rw[if_pos (zS.mp h3).1,h3]
   ·rfl
  exact congrArg _ this
 ·rw[qW _ _ (Ne.symm z)];exact k
end
section
variable{X:Cx}{vv:List (jL×Obj)}{σ:St}{H:Hp}{s:jT}
theorem Uo{M:Model}{E:xQ->jT->Prop}{i:Nat}{n:Str}{pos:Pos}{Q:Unit->jT->Prop}(I:Inv X vv σ H s)(hN:X.N.Nodup)(hi:X.N[i]?=vk n)(hk:X.env.kindOf n=vk .local)
  (q:∀s',Inv X vv (σ.set i v4) H s'->Q () s'):xS M A (do bindName X.env n .none;unbindBehindTheSuite X.env n pos) Q E s:=by
 obtain⟨m,hn,hl⟩:=I.loc;have hp:(X.env.scope.kind == .class||(X.env.scope.kind == .module&&X.env.locals != X.env.globals))=v6:=by rw[I.ok.kind];rfl
 refine wpAny_nameGoes_keeps hk hn hp λh' v hn' hs=>q _ ?_
 have neL:∀b o,X.s₀.heap.get? b=vk o->b≠X.env.locals:=λb o e=>z9 (zV (zK e) I.ok.above)
 refine⟨I.ok,I.os,I.bare,⟨λb o e nn hb hx=>(hs.2 b (neL b o e)).trans (I.base.keep b o e nn hb hx),λb o e nn hb hx=>?_,I.base.free,λb o e hx=>?_,I.base.tups,I.base.frzs,I.base.tbls⟩,⟨_,hn',λj y v' e1 e2 e3=>?_⟩,λy c e=>?_,I.free,I.Fi,λp hp=>?_,?_,by rw[qT];exact I.len⟩
 ·obtain⟨sl,e1⟩:=I.base.slot b o e nn hb hx;exact⟨sl,(hs.2 b (neL b o e)).trans e1⟩
 ·obtain⟨o',e1⟩:=I.base.there b o e hx;exact⟨o',(hs.2 b (neL b o e)).trans e1⟩
 ·have hj:j≠i:=λz=>by
   subst z;rw[qj]at e2;split at e2
   ·split at e2<;>cases e2
   ·rename_i z;exact z rfl
  rw[qk (Ne.symm hj)]at e2;obtain⟨u',r',z⟩:=hl j y v' e1 e2 e3;refine⟨u',r',?_⟩;rcases z with⟨k,e⟩|⟨k,c,e,z⟩
  ·refine .inl ⟨k,?_⟩;have:y≠n:=λe=>hj (ZA3 hN e1 (e▸hi))
   simp[this,e]
  ·exact .inr ⟨k,c,e,z.sameBut hs (I.cne y c e)⟩
 ·obtain⟨w',z⟩:=I.cell y c e;exact⟨w',z.sameBut hs (I.cne y c e)⟩
 ·obtain⟨e,nn,ne,nf,d⟩:=I.pin p hp;exact⟨(hs.2 p.1 ne).trans e,nn,ne,nf,d⟩
 ·exact λa o e=>(I.hok a o e).stay (λb u hb k=>(hs.2 b (λz=>by
   rcases hb with rfl|hb
   ·rw[z,I.free]at e;cases e
   ·rw[z,I.free]at hb;cases hb)).trans k) (λ_ k=>k) λ_ _ k=>k
end
noncomputable def Ld(X:Cx)(ea:jL):Cx:={X with A:=X.A.mark (vk (.ref ea)),calm:=v6,xe:=λ_ _=>False}
section
variable{X:Cx}{vv:List (jL×Obj)}{σ:St}{H:Hp}{s:jT}{ea:jL}
theorem ZEk(I:Inv X vv σ H s):Inv (Ld X ea) vv σ H s:=
 ⟨⟨I.ok.mod,I.ok.kind,I.ok.glob,I.ok.blt,I.ok.above,I.ok.inj,I.ok.has,I.ok.cab,λz=>absurd z (by simp[Ld]),I.ok.frames,I.ok.stk,I.ok.exf,I.ok.bs,I.ok.bsz,I.ok.noex,I.ok.exfs,I.ok.funs,I.ok.frf⟩,I.os,I.bare,I.base,I.loc,I.cell,I.free,I.Fi,I.pin,I.hok,I.len⟩
theorem U6{calm:X.calm=v5}(hh:X.A.handled=v4)(I:Inv (Ld X ea) vv σ H s):Inv X vv σ H s:=
 ⟨⟨I.ok.mod,I.ok.kind,I.ok.glob,I.ok.blt,I.ok.above,I.ok.inj,I.ok.has,I.ok.cab,λ_=>hh,I.ok.frames,I.ok.stk,I.ok.exf,I.ok.bs,I.ok.bsz,I.ok.noex,I.ok.exfs,I.ok.funs,I.ok.frf⟩,I.os,I.bare,I.base,I.loc,I.cell,I.free,I.Fi,I.pin,I.hok,I.len⟩
end
section
variable{X:Cx}{f W:jL}{fn x n:Str}{fp cp ep np hp pos:Pos}{a:jN}{es:List jN}{ta:TA}{sp:Sp}{k i:Nat}{fd:jO}{ps:List Str}{b₀:jU}{suite:List jU}{th:TS}
def takes(K:PySem.W.Frag)(C W:jL):Bool:=Hu K C&&Hu K W&&match K.lookup C with
 |some ⟨_,_,.cls cd,_⟩=>cd.mro.contains (.ref W)
 |_=>v6
end
theorem ZJ4:∀n:Nat,n<1000->intS (n:Int):=by
 have h:∀n:Fin 1000,((n.1:Int).natAbs.log2<1920/\(Str.ofString (toString (n.1:Int))).length<=1000):=by decide +kernel
 exact λn hn=>h ⟨n,hn⟩
def sRz(c f:Str)(t:DA):DS:=λS G=>match t S G with
 |.ok ds G1=>(match ds with
  |[.int i]=>if 0<=i/\i<1000 then .err ⟨c,[(f,.int i)]⟩ G1 else .bad
  |[.non]=>.err ⟨c,[(f,.non)]⟩ G1
  |_=>.bad)
 |.err x G1=>.err x G1
 |.bad=>.bad
section
variable{X:Cx}{E:XK}{C fI:jL}{c f v:Str}{np cpos pos:Pos}{a:jN}{t:DA}{k:Nat}{fd:jO}
theorem ZMm(hn:PySem.W.nsIn X.K xI c=vk (vk (.ref C)))(hcalm:X.calm=v5)(hs:X.stack=X.env::X.outer)(hex:X.ex=[])(hfr:X.env.frame=vk X.env.locals)(hxe:∀e s,K8 X E e s->X.xe e s)
  (XS:XSet X.K C f) (hi:Lk X.K C fI=v5) (hfn:∃o,X.K.lookup fI=vk o/\o.cls=.type "function") (F:FnOk X.prog X.w X.K X.mg X.base CX0 k fI fd ["self",v] (spI C f)) (hr:Room (k+1) X.A) (hb:Binds X.K fd ["self",v] [])
  (hg:Gl X c) (hm:X.mg c=vk (.ref C)) (hk:PySem.W.keepIn X.K (.ref C)=v5) (ha:QA X E [a] t) (hdb:(c==("__debug__":Str))=v6:=by decide) (hst:notStar a=v5:=by rfl):
  QS X E (.Raise (vk (.Call (.Name c np) [a] [] cpos)) v4 pos) (sRz c f t):=
 (ZMr hcalm hs hex hfr hxe XS hi hfn F hr hb hg hm hk ha hdb (Hm a [] X.env hst) rfl).mono λW σ H h=>by
  obtain⟨w,S,G,hk,rfl,sm,r,h⟩:=h;refine⟨w,S,G,hk,rfl,sm,r,?_⟩;unfold sRz at h;cases ht:t S G with
  |err x G1=>rw[ht]at h;exact h
  |bad=>rw[ht]at h;exact h
  | ok ds G1=>
   rw[ht]at h;dsimp only at h;split at h
   ·rename_i i;split at h
    ·rename_i hi;intro b vs x s1 q;obtain⟨v1,r1,rfl,q1,q2⟩:=q;obtain rfl:v1=.int i:=q1;obtain rfl:r1=[]:=q2;refine⟨.int i,rfl,.inl ⟨i,rfl,?_⟩,λdx o nd=>?_⟩
     ·have:=ZJ4 i.toNat (by lia);rwa[show((i.toNat:Nat):Int)=i by lia]at this
     ·refine h.2 (b.put dx (.frz o (.xd [(f,.int i)]))) C (vk dx) (x.trans (Ext.put nd)) (s1.put nd) ?_ (.inr ⟨dx,o,[(f,.int i)],rfl,?_,rfl,?_⟩)
      ·show PySem.W.nsIn b.K _ _=_;rw[x.k,hk];exact hn
      ·show upd b.H dx _ dx=_;unfold upd;rw[if_pos rfl]
      ·exact⟨.int i,[],rfl,rfl,rfl⟩
    ·exact h.elim
   ·intro b vs x s1 q;obtain⟨v1,r1,rfl,q1,q2⟩:=q;obtain rfl:v1=.non:=q1;obtain rfl:r1=[]:=q2;refine⟨.non,rfl,.inr rfl,λdx o nd=>?_⟩;refine h.2 (b.put dx (.frz o (.xd [(f,.non)]))) C (vk dx) (x.trans (Ext.put nd)) (s1.put nd) ?_ (.inr ⟨dx,o,[(f,.non)],rfl,?_,rfl,?_⟩)
    ·show PySem.W.nsIn b.K _ _=_;rw[x.k,hk];exact hn
    ·show upd b.H dx _ dx=_;unfold upd;rw[if_pos rfl]
    ·exact⟨.non,[],rfl,rfl,rfl⟩
   ·exact h.elim
end
noncomputable def unnm(i:Nat):SR->SR
 |.nx S G=>.nx (S.set i v4) G
 |.bk S G=>.bk (S.set i v4) G
 |.ct S G=>.ct (S.set i v4) G
 |.rt d G=>.rt d G
 |_=>.bad
theorem RepS.unset{S:DSt}(r:RepS a S σ)(i:Nat):RepS a (S.set i v4) (σ.set i v4):=by
 refine⟨by simpa using r.len,λj e he=>?_⟩;rw[qj]at he⊢;by_cases hij:i=j
 ·subst hij;rw[if_pos rfl]at he
  split at he<;>cases he
 ·rw[if_neg hij]at he⊢;exact r.get j e he
section
variable{X:Cx}{E:XK}{f W:jL}{fn x n:Str}{fp cp ep np hp pos:Pos}{a:jN}{es:List jN}{t:DA}{F:List D->DH->R D}{k i:Nat}{fd:jO}{ps:List Str}{b₀:jU}{suite:List jU}{hb:DS}{ws:List Str}
end
theorem ZH7{K:PySem.W.Frag}{f:jL}{k:Nat}{b:DS}(F:Fun K x qual st f fd)(S:FnScope N ps (Am st))
  (hbody:∀(cdv:xQ)(A:jM)(outer:List Env)(s:jT)(H:Hp)(E:XK),Room k (A.deeper (envOfC qual (Am st) s.heap.objs.size f cdv))->QSs (Fo (CXx P w) P w K mg base N qual (Am st) f cdv A outer s H E) E (Cz st) b):
  FnOk P w K mg base (CXx P w) (k+1) f fd ps (lFx K (Bb ps.length (N.length-ps.length) b)):=by
 have hlen:∀vs H Q E,lFx K (Bb ps.length (N.length-ps.length) b) vs H Q E->vs.length=ps.length:=λvs H Q E h=>by
  obtain⟨a,G,ds,hk,rfl,sm,r,h⟩:=h;unfold Bb at h;split at h
  ·rename_i hl;rw[<-r.length];exact hl
  ·exact h.elim
 obtain⟨oc,od,kV,doc,pm,an,cdv,ct,osl,rfl,lk,hcd⟩:=F.ex;refine Y4 lk hcd S hlen λA outer s H vs Q E hr h=>⟨lS K E b,hbody cdv A outer s H E hr,?_⟩
 have hl:=hlen vs H Q E h;obtain⟨a,G,ds,hk,rfl,sm,r,h⟩:=h;unfold Bb at h;split at h
 ·have h2:=Th sm h;refine⟨a,ds.map vk++zw (N.length-ps.length) v4,G,hk,rfl,sm,ZBZ r _ _ (by rw[hl]),?_⟩
  revert h2
  cases b (ds.map vk++zw (N.length-ps.length) v4) G with
  |nx S1 G1=>exact λh2 c σ x s1 _=>h2 c .non x s1 rfl
  |rt d G1=>exact λh2=>h2
  |err e G1=>exact λh2=>h2
  |bk S1 G1=>exact λh2=>h2.elim
  |ct S1 G1=>exact λh2=>h2.elim
  |bad=>exact λh2=>h2
 ·exact h.elim
theorem ZCA{K:PySem.W.Frag}{scope:jS}{f:jL}{cd:xQ}{outer:List Env}{E:XK}:
  Passes (CXx P w) (Fo (CXx P w) P w K mg base N qual scope f cd A outer s H E) E:=λvv σ H1 s1 e s' I h=>ZKG rfl rfl rfl I h
theorem ownX{K:PySem.W.Frag}{scope:jS}{f:jL}{cd:xQ}{outer:List Env}{E:XK}:
  PassesOwn (xL P w) (Fo (CXx P w) P w K mg base N qual scope f cd A outer s H E).A (Fo (CXx P w) P w K mg base N qual scope f cd A outer s H E).env (Fo (CXx P w) P w K mg base N qual scope f cd A outer s H E).xe:=PassesOwn.leaving
section
variable{X:Cx}{E:XK}{x:Str}{p pos:Pos}{e:jN}{es:List jN}{tr:DA}
theorem ZEV{k:Nat}{f:jL}{F:List D->DH->R D}(FF:FnOk X.prog X.w X.K X.mg X.base (CXx X.prog X.w) k f fd ps (lFx X.K F))(hr:Room k X.A)(hg:Gl X x)(hm:X.mg x=vk (.ref f))(hk:PySem.W.keepIn X.K (.ref f)=v5)(hb:Binds X.K fd ps [])
  (hx:Passes (CXx X.prog X.w) X E) (ha:QA X E (e::es) tr) (hdb:(x==("__debug__":Str))=v6:=by decide) (he:notStar e=v5:=by rfl) (hpl:es.all notStar=v5:=by rfl):QE X E (.Call (.Name x p) (e::es) [] pos) (dFn F tr):=
 (Wx FF hr hg hm hk hb .nil hx ha hdb (Hm e es X.env he) (Jx pos X.env es hpl)).mono λσ H Q h=>by obtain⟨a,S,G,hk,rfl,s,r,h⟩:=Pk h;refine⟨a,S,G,hk,rfl,s,r,h.imp ?_⟩;rintro vs _ ⟨b,G1,ds,hk,rfl,s1,q,h1⟩;exact⟨b,G1,ds,hk,rfl,s1,by rw[qB];exact q,h1⟩
end
structure RoomH (k:Nat) (A:jM):Prop where
 dp:A.depth+3*k+5<recursionLimit
 un:A.units+16*k+200<cLine
theorem RoomH.of{k:Nat}(r:Room k A):RoomH k A:=⟨r.dp,r.un⟩
theorem RoomH.held{k:Nat}{v:Option xQ}(r:RoomH k A):RoomH k (A.mark v):=⟨r.dp,r.un⟩
section
variable{X:Cx}{E:XK}{x:Str}{p pos:Pos}{e:jN}{es:List jN}{tr:DA}
end
structure XGet (K:PySem.W.Frag) (C:jL):Prop where
 ga:PySem.W.findIn K (.ref C) "__getattribute__"=vk (vk (.builtin "BaseException.__getattribute__"))
 gn:PySem.W.findIn K (.ref C) "__getattr__"=vk v4
 sb:PySem.W.subIn K (.ref C) (.type "BaseException")=vk v5
 hd:PySem.W.hasDictIn K C=v5
 cl:PySem.W.findIn K (.ref C) "__class__"=vk (vk (.builtin "object.__class__"))
 cg:PySem.W.specialIn K (.builtin "object.__class__") "__get__"=vk (vk (.builtin "getset_descriptor.__get__"))
 ct:PySem.W.takesIn K (.builtin "object.__class__")=vk v5
 mo:PySem.W.mroIn K C (.type "object")=vk v5
 kc:PySem.W.kitCls K (.ref C) (.ref C)=vk v5
 ec:Hu K C=v5
section
variable{prog:jR}{w:xZ}{A:jM}{E:xQ->jT->Prop}{s:jT}{K:PySem.W.Frag}{x C:jL}{ox:Obj}{od:Option Obj}{name:Str}{tk:Tok}
theorem ZHw{M:Model}{nameV:xQ}{Q:Unit->jT->Prop}(X:K.In s.heap)(I:PySem.W.InstAt s.heap x ox C od)(hs:PySem.W.subIn K (.ref C) (.type "BaseException")=vk v5)(hq:Q () s):
  xS M A (xj "BaseException.__getattribute__" ⟨[.ref x,nameV],[]⟩) Q E s:=by
 have hk:builtinKind "BaseException.__getattribute__"=vk .slot:=by decide +kernel
 have hsplit:splitId "BaseException.__getattribute__"=vk ("BaseException","__getattribute__"):=by decide +kernel
 have ha:=F.args_bexc_ga (.ref x) nameV;have LI:PySem.W.Looks M s.heap (isInstance (.ref x) (.type "BaseException")) v5:=(I.type (M:=M)).andThen (PySem.W.looks_subIn X hs);obtain⟨h,g,d,t,os⟩:=s;simp only[xj,hk,hsplit];refine xU (LI.at ?_)
 repeat (first|wp_step)
 exact hq
theorem ZMe{fill expr:Bool}{Q:xQ->jT->Prop}(X:K.In s.heap)(I:PySem.W.InstAt s.heap x ox C od)(G:XGet K C)
  (h:∀A',xS (xL prog w) A' (Builtin.«object.__getattribute__» ⟨[.ref x,.str name tk],[]⟩) (λfin s'=>match fin with | .done (.ret v)=>PySem.W.handedIn v=v5/\Q v s'|_=>False) (λ_ _=>False) s):
  xS (xL prog w) A (getAttrBy (.ref x) (.str name tk) fill expr) Q E s:=by
 have L0:=I.type (M:=xL prog w);have L1:=PySem.W.looks_findIn (M:=xL prog w) X G.ga;have _L:=PySem.W.looks_findIn (M:=xL prog w) X G.gn;have f3:=F.excAttr_ValueError.ga.bind (.ref x)
 have hx0:(expr&&onTheHeap (Value.builtin "BaseException.__getattribute__"))=v6:=by cases expr<;>rfl
 obtain⟨hh,g,d,t,os⟩:=s;unfold getAttrBy;refine vX (xU (L0.at (xU (L1.at ?_))));dsimp only;rw[show(onTheHeap (Value.ref C)&&Value.builtin "BaseException.__getattribute__"==Value.builtin "object.__getattribute__")=v6 by rw[show(Value.builtin "BaseException.__getattribute__"==Value.builtin "object.__getattribute__")=v6 by decide +kernel];rfl];simp only[jV,if_false]
 unfold getAttrByItsOwn;show xS _ _ (typeLookup (.ref C) "__getattr__" >>=_) _ _ _;refine xU (_L.at ?_);refine xU (wpAny_attempt (vX ?_));unfold callGetattribute;rw[hx0];simp only[jV,if_false];unfold boundAndCalled;rw[f3];refine xU (vY ?_);refine wpAny_call (codeAny_call_builtin F.excAttr_ValueError.ga.plain F.entry_bexc_ga (ZHw X I G.sb (vV (h _) (λfin s' z=>?_) λ_ _ z=>z.elim)))
 rcases fin with(_|_|_|_)|_<;>first|exact z.elim|exact PySem.W.handed_on z.1 z.2
theorem ZOx{fill expr:Bool}{v:xQ}{Q:xQ->jT->Prop}(X:K.In s.heap)(I:PySem.W.InstAt s.heap x ox C od)(G:XGet K C)(hf:PySem.W.findObj K C od name=vk (.value v))(hv:PySem.W.handedIn v=v5)(h:Q v s):
  xS (xL prog w) A (getAttrBy (.ref x) (.str name tk) fill expr) Q E s:=by
 refine ZMe X I G λA'=>?_
 have L0:=I.type (M:=xL prog w);have L1:=PySem.W.looks_find (M:=xL prog w) X I hf;obtain⟨hh,g,d,t,os⟩:=s;refine xU (vY (xU (vY (xU (L0.at (xU (L1.at ?_)))))));exact vY ⟨hv,h⟩
end
def gtx(cs:List Str)(f:Str)(x:D)(G:DH):R D:=match x with
 | .ref i=>(match G[i]? with
  |some (.exc c (p::r))=>if c∈cs then(match(p::r).lookup f with
   |some d=>.ok d G
   |none=>.bad)else .bad
  |_=>.bad)
 |_=>.bad
def HeldAt(H:Hp)(x:V)(C:jL)(us:List (Str×V)):Prop:=∃a oe u vs dx o,x=.ref a/\H a=vk (.frz oe u)/\oe.cls=.ref C/\oe.data=.fields vs/\oe.dict=vk dx/\H dx=vk (.frz o (.xd us))
theorem Sim.exc{b:Wd}{G:DH}{i:Nat}{c:Str}{p:Str×D}{fs:List (Str×D)}{v:V}(s:Sim b G)(r:Rep b (.ref i) v)(h:G[i]?=vk (.exc c (p::fs))):∃C us,PySem.W.nsIn b.K xI c=vk (vk (.ref C))/\HeldAt b.H v C us/\RepF b (p::fs) us:=by
 obtain⟨_,ev⟩:=r;obtain⟨C,oe,u,vs,n,e,k1,k2,z⟩:=s.obj i _ h;rcases z with⟨z,_⟩|⟨dx,o,us,z1,z2,z3⟩
 ·cases z
 ·exact⟨C,us,n,⟨_,oe,u,vs,dx,o,ev,e,k1,k2,z1,z2⟩,z3⟩
section
variable{X:Cx}{E:XK}{vv:List (jL×Obj)}{σ:St}{H:Hp}{s:jT}
theorem ZLS{x:V}{us:List (Str×V)}(I:Inv X vv σ H s)(h:HeldAt H x C us):∃(a:jL)(oe od:Obj)(mA:Str->Option xQ),x=.ref a/\PySem.W.InstAt s.heap a oe C (vk od)/\(∀name,PySem.W.lookIn name od=vk (mA name))/\∀f,RelO (us.lookup f) (mA f):=by
 obtain⟨a,oe,u,vs,dx,o,rfl,ea,k1,k2,k3,ed⟩:=h
 obtain⟨ha,_⟩:=(show ObjOk X.prog X.w H s.heap a (.frz oe u)from I.hok a _ ea)
 obtain⟨hd,mA,hn,hr⟩:=(show ObjOk X.prog X.w H s.heap dx (.frz o (.xd us))from I.hok dx _ ed)
 obtain⟨od,ho,hl⟩:=ZFj hn;refine⟨a,oe,od,mA,rfl,⟨ha,k1,?_,?_⟩,hl,hr⟩
 ·unfold PySem.W.notCls;rw[k2]
 ·rw[k3];exact ho
variable{e ce:jN}{ces:List jN}{t:DE}{tb:List (Str×Bool)}{cv:V}{cu:xQ}{cvs:List V}{cus:List xQ}{p pos tp:Pos}
variable{f:Str}{cs:List Str}
noncomputable def tXf(K:PySem.W.Frag)(ta:TE)(f:Str):TE:=λσ H Q=>ta σ H λx H1=>∃C us v,HeldAt H1 x C us/\XGet K C/\NoAttr K C f/\us.lookup f=vk v/\Q v H1
theorem ZKC{ta:TE}(he:PE X e ta)(hb:xX e f X.env (eval e X.env)=eval e X.env):PE X (.Attribute e f pos) (tXf X.K ta f):=by
 intro vv s σ H Q I h;refine ZGV hb (thn (he vv s σ H _ I h) λu s1 ⟨x,H1,I1,rx,C,us,v,hx,G,n,l,q⟩=>?_);obtain⟨a,oe,od,mA,rfl,J,hl,hr⟩:=ZLS I1 hx
 cases(show u=Value.ref a from rx)
 obtain⟨u',hu,ru⟩:=RelO.some_of (v:=v) (o:=mA f) (by rw[<-l];exact hr f);obtain⟨hh,g,d,t,os⟩:=s1;unfold getAttr;refine xU (wpAny_mkText ?_);exact ZOx (s:=⟨hh,g,d,t+1,os⟩) I1.kIn J G (PySem.W.findObj_own G.hd n rfl (by rw[hl,hu])) (ZEZ ru) ⟨v,H1,I1.tok _,ru,q⟩
theorem ZM1(ha:QE X E e t)(hcs:∀c∈cs,∀C,PySem.W.nsIn X.K xI c=vk (vk (.ref C))->XGet X.K C/\NoAttr X.K C f)(hb:xX e f X.env (eval e X.env)=eval e X.env:=by rfl):
  QE X E (.Attribute e f pos) (dUn (gtx cs f) t):=
 (ZKC ha hb).mono λσ H Q h=>by
  obtain⟨a,S,G,hk,rfl,s,r,h⟩:=h;refine⟨a,S,G,hk,rfl,s,r,(Dr h).imp ?_⟩;rintro v _ ⟨b,d,G1,rfl,x,s1,q,-,h1⟩;unfold gtx at h1;split at h1
  ·rename_i i;split at h1
   ·rename_i c pf fs hi;split at h1
    ·rename_i hc;split at h1
     ·rename_i d' hd;obtain⟨C,us,n,hx,rf⟩:=s1.exc q hi;obtain⟨g1,g2⟩:=hcs c hc C (by rw[<-hk,<-x.k];exact n);obtain⟨u,eu,ru⟩:=rf.look hd;exact⟨C,us,u,hx,g1,g2,eu,h1 b u (Ext.refl b) s1 ru⟩
     ·exact h1.elim
    ·exact h1.elim
   ·exact h1.elim
  ·exact h1.elim
end
end _D
namespace _D
open PySem PySem.Spec PySem.W _L
open PyProof.Rows hiding St
variable{K:vj}{h:Heap}{mg:Str->Option xQ}{G:DH}
theorem Vz{r:Option (Option xQ)}{n:String}(h:isB r n=v5):r=vk (vk (.builtin n)):=by
 unfold isB at h;split at h
 ·rw[beq_iff_eq.mp h]
 ·cases h
theorem Uv{r:Option Bool}{b:Bool}(h:Nk r b=v5):r=vk b:=by
 unfold Nk at h;split at h
 ·rw[beq_iff_eq.mp h]
 ·cases h
theorem ZFY{α:Type}{r:Option (Option α)}(h:Tz r=v5):r=vk v4:=by
 unfold Tz at h;split at h
 ·rfl
 ·cases h
structure ET (K:vj) (mg:Str->Option xQ) (c f:Str):Prop where
 N:nsIn K xI c=vk (vk (.ref (Af K c)))
 g:mg c=vk (.ref (Af K c))
 k:keepIn K (.ref (Af K c))=v5
 X:XSet K (Af K c) f
 i:Lk K (Af K c) (De K (Af K c) "__init__")=v5
 o:∃o,K.lookup (De K (Af K c) "__init__")=vk o/\o.cls=.type "function"
 G:XGet K (Af K c)
 no:NoAttr K (Af K c) f
theorem ZNF{a:jL}(h:ZA6 K a=v5):∃o,K.lookup a=vk o/\o.cls=.type "function":=by
 unfold ZA6 at h;split at h
 ·rename_i t _ _ _ e;exact⟨_,e,by rw[beq_iff_eq.mp h]⟩
 ·cases h
theorem ZKg{c f:Str}(X:K.In h)(G:h.Ns xI mg)(s:ZAD c f K=v5):ET K mg c f:=by simp only[ZAD,z5]at s;obtain⟨⟨⟨⟨⟨⟨h1,h2⟩,⟨⟨⟨h3,h4⟩,h5⟩,h6⟩,h7⟩,h8⟩,h9⟩,⟨⟨⟨⟨⟨⟨g1,g2⟩,g3⟩,g4⟩,g5⟩,g6⟩,g7⟩,g8⟩,h10⟩:=s;exact⟨Lh h1,mg_of X G (Lh h1),h2,⟨h3,ZET h4,h5,ZFY h6,h7⟩,h8,ZNF h9,⟨Vz g1,ZFY g2,Uv g3,h7,Vz g4,Vz g5,Uv g6,Uv g7,Uv g8,h3⟩,ZCX h10⟩
theorem ZIR{r:Option CFound}{n:String}(h:ZBK r n=v5):r=vk (.val (.builtin n)):=by
 unfold ZBK at h;split at h
 ·rw[beq_iff_eq.mp h]
 ·cases h
theorem ZKD{x:Str}(X:K.In h)(G:h.Ns xI mg)(s:X7 x K=v5):XBase K mg x (Af K x):=by simp only[X7,z5]at s;obtain⟨⟨⟨h1,h2⟩,h3⟩,h4⟩:=s;exact⟨mg_of X G (Lh h1),Vz h2,h3,ZIR h4⟩
theorem ZKf{x:Str}(X:K.In h)(G:h.Ns xI mg)(s:gOk K x=v5):mg x=vk (.ref (Af K x)):=mg_of X G (Lh s)
abbrev FnX(P:jR)(w:xZ)(K:vj)(mg:Str->Option xQ)(base:Heap)(k:Nat)(n:Str)(ps:List Str)(F:List D->DH->R D):Prop:=FnOk P w K mg base (CXx P w) k (Af K n) (An K (Af K n)) ps (lFx K F)
theorem ZFq{X:Cx}:Passes (CXx X.prog X.w) X E0:=λvv σ H s e s' I h=>by obtain⟨_,_,_,_,_,_,_,_,_,_,_,_,_,z,_⟩:=h;exact z.elim
section
variable{X:Cx}{E:XK}{c x n f v:Str}{e a:jN}{es:List jN}{t:DE}{tr:DA}{p q pos cpos np:Pos}{b:Bool}{F:List D->DH->R D}{k j:Nat}{ps:List Str}{st:jU}
theorem ZJn(T:ET X.K X.mg c f)(ha:QE X E e t)(hb:xX e f X.env (eval e X.env)=eval e X.env:=by rfl):QE X E (.Attribute e f pos) (dUn (gtx [c] f) t):=
 ZM1 ha (λc' hc C hC=>by cases List.mem_singleton.mp hc;rw[T.N]at hC;cases hC;exact⟨T.G,T.no⟩) hb
theorem ZKL(T:ET X.K X.mg c f)(FI:FnOk X.prog X.w X.K X.mg X.base CX0 k (De X.K (Af X.K c) "__init__") (An X.K (De X.K (Af X.K c) "__init__")) ["self",v] (spI (Af X.K c) f))(hb:Binds X.K (An X.K (De X.K (Af X.K c) "__init__")) ["self",v] [])(hr:Room j X.A)(ha:QA X E [a] tr)
  (hxe:∀e s,K8 X E e s->X.xe e s:=by exact λ_ _ h=>h) (hj:Nat.ble (k+1) j=v5:=by rfl) (hcalm:X.calm=v5:=by rfl) (hs:X.stack=X.env::X.outer:=by rfl) (hex:X.ex=[]:=by rfl) (hfr:X.env.frame=vk X.env.locals:=by rfl) (hg:Gl X c:=by rfl) (hdb:(c==("__debug__":Str))=v6:=by decide) (hst:notStar a=v5:=by rfl):
  QS X E (.Raise (vk (.Call (.Name c np) [a] [] cpos)) v4 pos) (sRz c f tr):=
 ZMm T.N hcalm hs hex hfr hxe T.X T.i T.o FI (hr.mono (qS hj)) hb hg T.g T.k ha hdb hst
end
noncomputable def SR.nr:SR->SR
 |.err _ _=>.bad
 |r=>r
def sNr(t:DS):DS:=λS G=>(t S G).nr
@[simp]theorem ev_sNr{t:DS}{S:DSt}:sNr t S G=(t S G).nr:=id rfl
@[simp]theorem nr_nx{S:DSt}:(SR.nx S G).nr=.nx S G:=id rfl
@[simp]theorem nr_rt{d:D}:(SR.rt d G).nr=.rt d G:=id rfl
theorem ZOW{E:XK}{t:DS}{W:Ends}{σ:St}{H:Hp}(h:lS K E (sNr t) W σ H):lS K E0 t W σ H:=by
 obtain⟨a,S,G,hk,rfl,sm,r,h⟩:=h;refine⟨a,S,G,hk,rfl,sm,r,?_⟩;unfold sNr at h
 revert h
 cases t S G with
 |err x G1=>exact λh=>h.elim
 |nx S1 G1=>exact λh=>h
 |bk S1 G1=>exact λh=>h
 |ct S1 G1=>exact λh=>h
 |rt d G1=>exact λh=>h
 |bad=>exact λh=>h
theorem Gh{X:Cx}{E:XK}{s:jU}{t:DS}(h:QS X E0 s t):QS X E s (sNr t):=PS.mono h λ_ _ _ z=>ZOW z
end _D
namespace _D
open PySem PySem.Spec _L
open PyProof.Rows hiding St
def Lj(G:DH)(d:D):List D->Option (List Bool)
 |[]=>vk []
 |x::r=>match eqD 30 G x d,Lj G d r with
  |some k,vk ks=>vk (k::ks)
  |_,_=>v4
def inE(d e:D)(G:DH):Option Bool:=match Bj e G with
 |some xs=>(Lj G d xs).map λks=>ks.any id
 |none=>v4
def Ml(d e:D)(G:DH):R D:=match inE d e G with
 |some k=>.ok (.bl (!k)) G
 |none=>.bad
section
variable{X:Cx}{E:XK}{vv:List (jL×Obj)}{σ:St}{s:jT}
theorem Zz{a:Wd}{G:DH}(I:Inv X vv σ a.H s)(hk:a.K=X.K)(sm:Sim a G){A:jM}(hu:A.units+30<cLine){d:D}{x:V}{v:xQ}(rd:Rep a d x)(rx:RelV x v):
  ∀{xs:List D}{vs:List V}{its:List xQ}{ks:List Bool},Reps a xs vs->Vals vs its->Lj G d xs=vk ks->ks.length=its.length/\∀(i:Nat)(u:xQ)(k:Bool),its[i]?=vk u->ks[i]?=vk k->SeqAt.EqAt A s u v k
 |[],vs,its,ks,r,q,h=>by obtain rfl:vs=[]:=r;cases q;cases h;exact⟨rfl,λi u k h=>by simp at h⟩
 | y::ys,vs,its,ks,r,q,h=>by
  obtain⟨w,ws,rfl,r1,r2⟩:=r;cases q with
  | cons p q'=>
   unfold Lj at h;split at h
   ·rename_i k ks' h1 h2;cases h;obtain⟨e1,e2⟩:=Zz I hk sm hu rd rx r2 q' h2;refine⟨by simp[e1],λi u k' hi hk'=>?_⟩;cases i with
    |zero=>
     cases hi;cases hk';exact(Ro I hk sm 30 hu r1 rd p rx h1).1
    |succ i=>exact e2 i u k' (by simpa using hi) (by simpa using hk')
   ·cases h
open Classical in
theorem ZCK{A:jM}{v:xQ}{its:List xQ}{ks:List Bool}(h1:ks.length=its.length)(h2:∀(i:Nat)(u:xQ)(k:Bool),its[i]?=vk u->ks[i]?=vk k->SeqAt.EqAt A s u v k):
  ∃e:xQ->Bool,(∀y,y∈its.toArray->SeqAt.EqAt A s y v (e y))/\its.toArray.any e=ks.any id:=by
 refine⟨λu=>decide (∃i:Nat,its[i]?=vk u/\ks[i]?=vk v5),λy hy=>?_,?_⟩
 ·obtain⟨j,hj,e⟩:=qD (by simpa using hy:y∈its);have hj2:j<ks.length:=by lia
  have g1:its[j]?=vk y:=by rw[zJ hj,e]
  have g2:ks[j]?=vk ks[j]:=zJ hj2;show SeqAt.EqAt A s y v (decide (∃i:Nat,its[i]?=vk y/\ks[i]?=vk v5));by_cases hE:∃i:Nat,its[i]?=vk y/\ks[i]?=vk v5
  ·rw[decide_eq_true hE];obtain⟨i,a1,a2⟩:=hE;exact h2 i y v5 a1 a2
  ·rw[decide_eq_false hE];cases hk:ks[j]with
   |true=>exact absurd ⟨j,g1,by rw[g2,hk]⟩ hE
   |false=>exact h2 j y v6 g1 (by rw[g2,hk])
 ·rw[Bool.eq_iff_iff];constructor
  ·intro h;have h':its.any (λu=>decide (∃i:Nat,its[i]?=vk u/\ks[i]?=vk v5))=v5:=by simpa using h
   obtain⟨u,_,hu⟩:=j9.mp h';obtain⟨i,_,a2⟩:=of_decide_eq_true hu;exact j9.mpr ⟨v5,jC a2,rfl⟩
  ·intro h;obtain⟨k,hk,e⟩:=j9.mp h;obtain⟨j,hj,e2⟩:=qD hk;have hj2:j<its.length:=by lia
   have e3:k=v5:=e;have:its.any (λu=>decide (∃i:Nat,its[i]?=vk u/\ks[i]?=vk v5))=v5:=j9.mpr ⟨its[j],qw hj2,decide_eq_true ⟨j,zJ hj2,by rw[zJ hj,e2,e3]⟩⟩;simpa using this
theorem ZQB{a:Wd}{G:DH}{d e:D}{y:V}{k:Bool}(sm:Sim a G)(re:Rep a e y)(h:inE d e G=vk k):∃xs ks p vs,y=.ref p/\(SqL a.K a.H p vs∨SqT a.K a.H p vs)/\Reps a xs vs/\Lj G d xs=vk ks/\k=ks.any id:=by
 unfold inE at h;split at h
 ·rename_i xs h1;rw[zA]at h;obtain⟨ks,h2,h3⟩:=h;obtain⟨p,vs,e1,q,r⟩:=Io sm re h1;exact⟨xs,ks,p,vs,e1,q,r,h2,h3.symm⟩
 ·cases h
theorem ZPo(hu:X.A.units+64<cLine):OpR X (xy .NotIn) (lR2 X.K E Ml):=by
 intro vv s σ H x y v u Q I rx ry ⟨a,G,d,e,hk,hH,sm,rd,re,q⟩;subst hH;unfold Ml at q;split at q
 ·rename_i k hd;obtain⟨xs,ks,p,vs,rfl,hq,r,h2,rfl⟩:=ZQB sm re hd;cases ry;have hu1:X.A.in1.units+30<cLine:=by show X.A.units+1+30<cLine;lia
  rw[hk]at hq;have fin:EP X vv σ Q (.bool (!ks.any id)) s:=⟨.bl _,a.H,I,rfl,q a _ (Ext.refl a) sm rfl⟩;rcases hq with hq|hq
  ·obtain⟨its,rv,pl,hz⟩:=I.list hq;obtain⟨z1,z2⟩:=Zz I hk sm hu1 rd rx r rv h2;obtain⟨f,f1,f2⟩:=ZCK z1 z2;exact SeqAt.notIn_listAt f pl.isList f1 (by rw[f2];exact fin)
  ·obtain⟨its,rv,pl,hz⟩:=I.tuple hq;obtain⟨z1,z2⟩:=Zz I hk sm hu1 rd rx r rv h2;obtain⟨f,f1,f2⟩:=ZCK z1 z2;exact SeqAt.notIn_tupleAt f pl f1 (by rw[f2];exact fin)
 ·exact q.elim
def Ox(o:D)(ds:List D)(G:DH):R D:=match o,ds with
 |.ref i,[.ref j]=>match G[i]?,G[j]? with
  |some (.lst xs),vk (.lst ys)=>if xs.length+ys.length<=1000000 then .ok .non (G.set i (.lst (xs++ys)))else .bad
  |_,_=>.bad
 |_,_=>.bad
theorem ZNz:MtM X "list.extend" (lRm X.K E Ox):=ZN9.mono λx xs H Q h=>by
 obtain⟨a,G,d,ds,hk,rfl,s,rd,r,q⟩:=h;unfold Ox at q;split at q
 ·rename_i i j;obtain⟨v,rfl,rv⟩:=reps1 r;split at q
  ·rename_i ys zs hy hz;split at q
   ·rename_i hl;obtain⟨vs,e1,r1⟩:=s.lst hy;obtain⟨ws,e2,r2⟩:=s.lst hz;obtain⟨x3,s3⟩:=Rv s rd.1 e1 (r1.append r2);refine⟨a.m i,a.m j,vs,ws,rd.2,by rw[rv.2],e1,e2,by rw[<-r1.length,<-r2.length];exact z8 hl size6,?_⟩;exact q _ .non x3 s3 rfl
   ·exact q.elim
  ·exact q.elim
 ·exact q.elim
end
end _D
namespace _D
open PySem PySem.W PySem.Spec _L
open PyProof.Rows hiding St
variable{ps:List Str}
structure FunD (K:PySem.W.Frag) (x qual:Str) (st:jU) (f:jL) (fd:jO):Prop where
 ex:∃(oc:xQ)(od:Option jL)(dV kV doc pm:xQ)(an:Option jL)(cdv ct:xQ)(osl:Array (Option xQ)),
  fd=PySem.W.fnOf x qual (Eg st) (Cz st) (Am st) dV kV doc pm an cdv ct/\K.lookup f=vk ⟨oc,od,.func fd,osl⟩/\PySem.W.codeIn K cdv qual=v5
structure FTD (K:vj) (mg:Str->Option xQ) (n:Str) (st:jU) (ps:List Str) (v:Int):Prop where
 F:FunD K n n st (Af K n) (An K (Af K n))
 b:Binds K (An K (Af K n)) ps []
 d:∃t,Binds K (An K (Af K n)) ps [.int v t]
 m:mg n=vk (.ref (Af K n))
 k:keepIn K (.ref (Af K n))=v5
theorem ZDz{P:jR}{w:xZ}{K:PySem.W.Frag}{mg:Str->Option xQ}{base:Heap}{x qual:Str}{st:jU}{f:jL}{fd:jO}{N:List Str}{k:Nat}{b:DS}(F:FunD K x qual st f fd)(S:FnScope N ps (Am st))
  (hbody:∀(cdv:xQ)(A:jM)(outer:List Env)(s:jT)(H:Hp)(E:XK),Room k (A.deeper (envOfC qual (Am st) s.heap.objs.size f cdv))->QSs (Fo (CXx P w) P w K mg base N qual (Am st) f cdv A outer s H E) E (Cz st) b):
  FnOk P w K mg base (CXx P w) (k+1) f fd ps (lFx K (Bb ps.length (N.length-ps.length) b)):=by
 have hlen:∀vs H Q E,lFx K (Bb ps.length (N.length-ps.length) b) vs H Q E->vs.length=ps.length:=λvs H Q E h=>by
  obtain⟨a,G,ds,hk,rfl,sm,r,h⟩:=h;unfold Bb at h;split at h
  ·rename_i hl;rw[<-r.length];exact hl
  ·exact h.elim
 obtain⟨oc,od,dV,kV,doc,pm,an,cdv,ct,osl,rfl,lk,hcd⟩:=F.ex;refine Y4 lk hcd S hlen λA outer s H vs Q E hr h=>⟨lS K E b,hbody cdv A outer s H E hr,?_⟩
 have hl:=hlen vs H Q E h;obtain⟨a,G,ds,hk,rfl,sm,r,h⟩:=h;unfold Bb at h;split at h
 ·have h2:=Th sm h;refine⟨a,ds.map vk++zw (N.length-ps.length) v4,G,hk,rfl,sm,ZBZ r _ _ (by rw[hl]),?_⟩
  revert h2
  cases b (ds.map vk++zw (N.length-ps.length) v4) G with
  |nx S1 G1=>exact λh2 c σ x s1 _=>h2 c .non x s1 rfl
  |rt d G1=>exact λh2=>h2
  |err e G1=>exact λh2=>h2
  |bk S1 G1=>exact λh2=>h2.elim
  |ct S1 G1=>exact λh2=>h2.elim
  |bad=>exact λh2=>h2
 ·exact h.elim
noncomputable def dfx(v:Int)(F:List D->DH->R D):List D->DH->R D:=λds G=>F (ds++[.int v]) G
section
variable{X:Cx}{E:XK}{x:Str}{p pos:Pos}{e:jN}{es:List jN}{tr:DA}
theorem ZIc{k:Nat}{f:jL}{fd:jO}{F:List D->DH->R D}{v:Int}{t:Tok}(FF:FnOk X.prog X.w X.K X.mg X.base (CXx X.prog X.w) k f fd ps (lFx X.K F))(hr:Room k X.A)(hg:Gl X x)(hm:X.mg x=vk (.ref f))(hk:PySem.W.keepIn X.K (.ref f)=v5)(hb:Binds X.K fd ps [.int v t])
  (hx:Passes (CXx X.prog X.w) X E) (ha:QA X E (e::es) tr) (hdb:(x==("__debug__":Str))=v6:=by decide) (he:notStar e=v5:=by rfl) (hpl:es.all notStar=v5:=by rfl):QE X E (.Call (.Name x p) (e::es) [] pos) (dFn (dfx v F) tr):=
 (Wx FF hr hg hm hk hb (dvs:=[.int v]) (.cons ⟨t,rfl⟩ .nil) hx ha hdb (Hm e es X.env he) (Jx pos X.env es hpl)).mono λσ H Q h=>by obtain⟨a,S,G,hk,rfl,s,r,h⟩:=Pk h;refine⟨a,S,G,hk,rfl,s,r,h.imp ?_⟩;rintro vs _ ⟨b,G1,ds,hk,rfl,s1,q,h1⟩;exact⟨b,G1,ds++[D.int v],hk,rfl,s1,q.append (Reps.cons (d:=.int v) (v:=.int v) rfl Reps.nil),h1⟩
end
section
variable{X:Cx}{E:XK}{n:Str}{e:jN}{es:List jN}{tr:DA}{p pos:Pos}{F:List D->DH->R D}{k j:Nat}{ps:List Str}{st:jU}{v:Int}
theorem ZCv(FF:FnX X.prog X.w X.K X.mg X.base k n ps F)(T:FTD X.K X.mg n st ps v)(hr:Room j X.A)(ha:QA X E0 (e::es) tr)(hj:Nat.ble k j=v5:=by rfl)(hg:Gl X n:=by rfl)(hdb:(n==("__debug__":Str))=v6:=by decide)(he:notStar e=v5:=by rfl)(hpl:es.all notStar=v5:=by rfl):
  QE X E0 (.Call (.Name n p) (e::es) [] pos) (dFn (dfx v F) tr):=by
 obtain⟨t,hb⟩:=T.d;exact ZIc FF (hr.mono (qS hj)) hg T.m T.k hb ZFq ha hdb he hpl
end
section
variable{X:Cx}{E:XK}{c x n f v:Str}{e a:jN}{es:List jN}{t:DE}{tr:DA}{p q pos cpos np:Pos}{b:Bool}{F:List D->DH->R D}{k j:Nat}{ps:List Str}{st:jU}
end
theorem ZCu{K:vj}{h:Heap}{mg:Str->Option xQ}{n:Str}{st:jU}{v:Int}(X:K.In h)(G:h.Ns xI mg)(s:Ask.Said K (.fd n st v))
  (hb:∀(T:jL)(kV doc pm:xQ)(an:Option jL)(cdv ct:xQ)(us:List xQ)(t:Tok),us.length=ps.length->∃k,bindArgs (fnOf n n (Eg st) (Cz st) (Am st) (.ref T) kV doc pm an cdv ct) ⟨us,[]⟩=seqItems? (.ref T) >>=k/\k (vk #[.int v t])=pure (ps.zip us))
  (hd:∀(T:jL)(kV doc pm:xQ)(an:Option jL)(cdv ct:xQ)(us:List xQ)(t:Tok),us.length+1=ps.length->∃k,bindArgs (fnOf n n (Eg st) (Cz st) (Am st) (.ref T) kV doc pm an cdv ct) ⟨us,[]⟩=seqItems? (.ref T) >>=k/\k (vk #[.int v t])=pure (ps.zip (us++[.int v t]))):FTD K mg n st ps v:=by
 obtain⟨s1,s2,s3,s4,T,o,t,m,e1,e2,e3⟩:=s;have ef:An K (Af K n)=fnOf n n (Eg st) (Cz st) (Am st) (.ref T) (An K (Af K n)).kwdefaults (An K (Af K n)).doc (An K (Af K n)).pyModule (An K (Af K n)).annotations (An K (Af K n)).code (An K (Af K n)).closureTuple:=by
  rw[<-e1]
  conv=>lhs;unfold An Fq;rw[s2]
 refine⟨⟨_,_,_,_,_,_,_,_,_,_,by rw[e1]at s2;exact ef,by rw[e1,<-ef]at s2;exact s2,s3⟩,λs us ki hl=>?_,⟨t,λs us ki hl=>?_⟩,mg_of X G s1,s4⟩
 ·rw[qB]at hl⊢;rw[ef];obtain⟨k,k1,k2⟩:=hb T (An K (Af K n)).kwdefaults (An K (Af K n)).doc (An K (Af K n)).pyModule (An K (Af K n)).annotations (An K (Af K n)).code (An K (Af K n)).closureTuple us t hl;exact BindsTo.of_defaults rfl (ki T o e2) e3 k1 k2
 ·rw[ef];obtain⟨k,k1,k2⟩:=hd T (An K (Af K n)).kwdefaults (An K (Af K n)).doc (An K (Af K n)).pyModule (An K (Af K n)).annotations (An K (Af K n)).code (An K (Af K n)).closureTuple us t (by simpa using hl);exact BindsTo.of_defaults rfl (ki T o e2) e3 k1 k2
end _D
namespace _D
open PySem PySem.Spec _L
open PyProof.Rows hiding St
variable{X:Cx}
noncomputable def dTc(F:List D->DH->R D)(t:DA):DE:=λS G=>match t S G with
 |.ok ds G1=>F ds G1
 |_=>.bad
noncomputable def sTi(tt:DB)(t u:DS):DS:=λS G=>match tt S G with
 |.ok v5 G1=>t S G1
 |.ok v6 G1=>u S G1
 |_=>.bad
def QTe(X:Cx)(e:jN)(t:DE):Prop:=∀(vv:List (jL×Obj))(s:jT)(σ:St)(H:Hp)(Q:VK)(E:XK),Inv X vv σ H s->lE X.K E t σ H Q->
 xS (xL X.prog X.w) X.A (eval e X.env) (EP X vv σ Q) (λe s'=>∃H1 s1,Inv X vv σ H1 s1/\CXx X.prog X.w X.stack H1 s1 E e s') s
def QTr(X:Cx)(b:List jU)(t:DS):Prop:=∀(vv:List (jL×Obj))(s:jT)(σ:St)(H:Hp)(Nx:St->Hp->Prop)(E:XK),Inv X vv σ H s->lS X.K E t {nx:=Nx,rt:=λ_ _=>False} σ H->
 xS (xL X.prog X.w) X.A (execs b X.env) (λfl s'=>fl=.next/\∃σ' H',Inv X vv σ' H' s'/\Nx σ' H') (λe s'=>∃H1 s1,Inv X vv σ H1 s1/\CXx X.prog X.w X.stack H1 s1 E e s') s
section
variable{X:Cx}{f:jL}{fn:Str}{fp cp ep pos:Pos}{a e:jN}{es:List jN}{t:DA}{te:DE}{F:List D->DH->R D}{k:Nat}{fd:jO}{ps:List Str}
theorem ZPG{dvs:List V}{dus:List xQ}{spx:Sp}(FF:FnOk X.prog X.w X.K X.mg X.base (CXx X.prog X.w) k f fd ps spx)(hr:Room k X.A)(hdv:Vals dvs dus)(hbd:Binds X.K fd ps dus)(hg:Gl X fn)(hm:X.mg fn=vk (.ref f))(hk:PySem.W.keepIn X.K (.ref f)=v5)(ha:QA X.nox E0 (a::es) t)
  (hF:∀(w:Wd)(G:DH)(ds:List D)(vs:List V)(Q:VK)(E:XK),w.K=X.K->Sim w G->Reps w ds vs->out E w (F ds G) Q->spx (vs++dvs) w.H Q E)
  (hdb:(fn==("__debug__":Str))=v6) (he:xP (a::es) X.env=(v6,eval a X.env)::xP es X.env) (hpl:(xV cp (xP es X.env)).any (·.1)=v6):
  QTe X (.Call (.Name fn fp) (a::es) [] cp) (dTc F t):=by
 intro vv s σ H Nx E I h;have h':lA X.K E0 t σ H λvs H1=>spx (vs++dvs) H1 Nx E:=by
  obtain⟨w,S,G,hkw,rfl,sm,r,h⟩:=h;refine⟨w,S,G,hkw,rfl,sm,r,?_⟩;unfold dTc at h;cases ht:t S G with
  |err x G1=>rw[ht]at h;exact h.elim
  |bad=>rw[ht]at h;exact h
  |ok ds G1=>
   rw[ht]at h;exact λb vs y s1 q=>hF b G1 ds vs _ E (y.k.trans hkw) s1 q (out.mono y h)
 refine xT (Js I hg hm ?_ hdb);refine PySem.W.callWith_K (h₀:=X.base) I.ok.mod.kin hk (vV (ha cp vv s σ H _ (I.wish _) h') (λus s1 ⟨vs,H1,I1,r,q⟩=>⟨I1.kIn,?_⟩) λ_ _ z=>z.elim) he hpl;have I1':=I1.unwish;have r2:Vals (vs++dvs) (us++dus):=r.append hdv;have hlen:(us++dus).length=ps.length:=by rw[<-r2.length];exact FF.len _ _ _ _ q
 refine wpAny_call (xk (FF.run X.A X.stack s1 H1 ⟨us,[]⟩ (us++dus) (vs++dvs) _ E hr I1'.env0 (hbd s1 us I1'.kIn hlen) r2 q) λr s' hq=>?_);cases r with
 |ok fl=>
  cases fl with
  |next=>exact False.elim hq
  |brk=>exact False.elim hq
  |cont=>exact False.elim hq
  |ret u=>exact I1'.after hq
 |error e=>exact⟨H1,s1,I1',hq⟩
theorem ZDK(he:QTe X e te)(hsw:swapsWith e v4 ep.line X.env=pure v6:=by rfl):QTr X [.Expr e ep] (sEx te):=by
 intro vv s σ H Nx E I h;obtain⟨w,S,G,hkw,rfl,sm,r,h⟩:=h;have h':lE X.K E te σ w.H λ_ H'=>Nx σ H':=by
  refine⟨w,S,G,hkw,rfl,sm,r,?_⟩;unfold sEx at h;cases ht:te S G with
  |err x G1=>rw[ht]at h;exact h
  |bad=>rw[ht]at h;exact h
  |ok d G1=>rw[ht]at h;exact λb v y s1 q=>h b σ y s1 (r.mono y)
 exact wpAny_execs_cons (wpAny_Expr_any (thn (he vv s σ w.H _ E I h') λu s1 ⟨v,H1,I1,_,q⟩=>wpAny_execs_nil ⟨rfl,σ,H1,I1,q⟩) I.quiet hsw)
theorem ZNP{c:jN}{tc:DB}{b1 b2:List jU}{t u:DS}(hc:QT X.nox E0 c tc)(h1:QTr X b1 t)(h2:QTr X b2 u):QTr X [.If c b1 b2 pos] (sTi tc t u):=by
 intro vv s σ H Nx E I h;have h':lB X.K E0 tc σ H λk H1=>if k then lS X.K E t {nx:=Nx,rt:=λ_ _=>False} σ H1 else lS X.K E u {nx:=Nx,rt:=λ_ _=>False} σ H1:=by
  obtain⟨w,S,G,hkw,rfl,sm,r,h⟩:=h;refine⟨w,S,G,hkw,rfl,sm,r,?_⟩;unfold sTi at h;cases ht:tc S G with
  |err x G1=>rw[ht]at h;exact h.elim
  |bad=>rw[ht]at h;exact h
  |ok k G1=>
   rw[ht]at h;cases k with
   |true=>exact λb y s1=>⟨b,S,G1,y.k.trans hkw,rfl,s1,r.mono y,Bq.mono y h⟩
   |false=>exact λb y s1=>⟨b,S,G1,y.k.trans hkw,rfl,s1,r.mono y,Bq.mono y h⟩
 refine wpAny_execs_cons (wpAny_If (vV (hc vv s σ H _ (I.wish _) h') (λk s1 ⟨H1,I1,q⟩=>?_) λ_ _ z=>z.elim));cases k with
 |true=>
  refine vV (h1 vv s1 σ H1 Nx E I1.unwish q) (λfl s2 ⟨e,q2⟩=>?_) λ_ _ z=>z
  subst e;exact wpAny_execs_nil ⟨rfl,q2⟩
 |false=>
  refine vV (h2 vv s1 σ H1 Nx E I1.unwish q) (λfl s2 ⟨e,q2⟩=>?_) λ_ _ z=>z
  subst e;exact wpAny_execs_nil ⟨rfl,q2⟩
end
noncomputable abbrev DHn:=Xn->DSt->DH->SR
def QH(X:Cx)(hs:List ExceptHandler)(f:DHn):Prop:=∀(vv:List (jL×Obj))(s:jT)(σ:St)(H':Hp)(W:Ends)(ea C:jL)(oe:Obj)(vs:Array xQ)(x:Xn)(w:Wd)(S:DSt)(G:DH)(E:XK),
 s.heap.get? ea=vk oe->oe.cls=.ref C->oe.data=.fields vs->H' ea=v4->Inv X vv σ (upd H' ea (.frz oe (.own 0))) s->(∃B:Heap,Trc s.heap B ea (.ref C) oe.dict .none)->
 w.K=X.K->w.H=H'->Sim w G->RepS w S σ->PySem.W.nsIn w.K xI x.cls=vk (vk (.ref C))->XD w oe.dict x.fs->Bq E w (f x S G) W->
 xS (xL X.prog X.w) X.A (handleBy (.ref ea) X.env hs) (SP X vv W) X.xe s
noncomputable def ZE0:DHn:=λ_ _ _=>.bad
theorem ZLQ:QH X [] ZE0:=λvv s σ H' W ea C oe vs x w S G E _ _ _ _ _ _ _ _ _ _ _ _ h=>h.elim
def Mw(ws ns:List Str)(i:Nat)(hb:DS)(f:DHn):DHn:=λx S G=>if x.cls∈ws then unnm i (hb (S.set i (vk (.ref G.length))) (G++[.exc x.cls x.fs]))else if x.cls∈ns then f x S G else .bad
theorem ZGU{vv:List (jL×Obj)}{σ:St}{H:Hp}{s:jT}{ea C W:jL}{oe:Obj}{x:Str}{np hp:Pos}{b:Bool}{R:Result->jT->Prop}(ho:s.heap.get? ea=vk oe)(hc:oe.cls=.ref C)(J:Inv X vv σ H s)(hgx:Gl X x)(hmx:X.mg x=vk (.ref W))(hdx:(x==("__debug__":Str))=v6)
  (ht:Je X.K C W b=v5) (q:R (.ok (if b then .brk else .next)) s):codeAny (xL X.prog X.w) (X.A.mark (vk (.ref ea))) (.handlers (.ref ea) [.ExceptHandler (vk (.Name x np)) v4 [] hp] X.env) R s:=by
 unfold Je at ht;simp only[z5]at ht;obtain⟨⟨t1,t2⟩,t3⟩:=ht;obtain⟨bm,N,nm,qn,bs,sn,sub,ab,col,dd,k0,k1,k2,k3,k5,hcl,T,_⟩:=Ov J.kIn t1;obtain⟨bm',N',nm',qn',bs',sn',sub',ab',col',dd',l0,l1,l2,l3,l5,hcl',T',_⟩:=Ov J.kIn t2;have hin:(Value.ref C::bm).contains (.ref W)=b:=by
  split at t3
  ·rename_i c0 d0 cd sl0 ho';have:=J.kIn _ _ ho';rw[hcl]at this;cases this;exact eq_of_beq t3
  ·cases t3
 refine codeAny_handlers_test (Js (X:=Ld X ea) (ZEk J) hgx hmx ?_ hdx);exact ZLB hcl hcl' ho hc (T'.hasType PySem.F.excBase_ValueError.hasBase) hin q
section
variable{X:Cx}{W:jL}{x n:Str}{np hp pos:Pos}{i:Nat}{b₀:jU}{suite:List jU}{hb:DS}{ws ns:List Str}{hs:List ExceptHandler}{f:DHn}
theorem ZQQ(hcalm:X.calm=v5)(hgx:Gl X x)(hmx:X.mg x=vk (.ref W))(hN:X.N.Nodup)(hi:X.N[i]?=vk n)(hl:X.env.kindOf n=vk .local)
  (hws:∀c∈ws,∀C,PySem.W.nsIn X.K xI c=vk (vk (.ref C))->Je X.K C W v5=v5) (hns:∀c∈ns,∀C,PySem.W.nsIn X.K xI c=vk (vk (.ref C))->Je X.K C W v6=v5)
  (hh:∀ea,QSs (Ld X ea) E0 (b₀::suite) hb) (hr:QH X hs f) (hdx:(x==("__debug__":Str))=v6:=by decide):
  QH X (.ExceptHandler (vk (.Name x np)) (vk n) (b₀::suite) hp::hs) (Mw ws ns i hb f):=by
 intro vv s σ H' D ea C oe vs xn w S G E ho hc hda fe J tr hkw hH sm r hn hx h;subst hH;have hcalm':=J.ok.hd hcalm;unfold Mw at h;split at h
 ·rename_i hw;refine wpAny_handleBy_cons (ZGU ho hc J hgx hmx hdx (hws _ hw C (by rw[<-hkw];exact hn)) ?_) (by intro q;cases q);obtain⟨B,tr⟩:=tr;refine codeAny_handlers_suite_as (ZOQ tr λh3 kp=>?_);have J3:=J.kept (h':=h3) (t':=s.toks) kp;refine Vt J3 hN hi (.inl hl) (v:=.ref ea) rfl (λs4 I4=>?_) (.inr hl);have yp:=Ext.push (a:=w) (p:=ea) (ho:=.frz oe (.own 0)) fe;have run:lS X.K E0 hb {nx:=λσ2 H2=>D.nx (σ2.set i v4) H2,rt:=D.rt,bk:=λσ2 H2=>D.bk (σ2.set i v4) H2,ct:=λσ2 H2=>D.ct (σ2.set i v4) H2} (σ.set i (vk (.ref ea))) (upd w.H ea (.frz oe (.own 0))):=by
   refine⟨w.push ea (.frz oe (.own 0)),S.set i (vk (.ref G.length)),G++[.exc xn.cls xn.fs],hkw,rfl,?_,?_,?_⟩
   ·exact sm.push fe ⟨C,oe,.own 0,vs,hn,rfl,hc,hda,hx.mono yp⟩
   ·refine(r.mono yp).set i ⟨?_,?_⟩
    ·show G.length<w.n+1;rw[sm.len];exact zI _
    ·show V.ref ea=V.ref (if G.length=w.n then ea else w.m G.length);rw[if_pos sm.len]
   ·revert h
    cases hb (S.set i (vk (.ref G.length))) (G++[.exc xn.cls xn.fs])with
    |nx S3 G3=>exact λh c σ3 y3 s3 r3=>h c _ (yp.trans y3) s3 (r3.unset i)
    |bk S3 G3=>exact λh c σ3 y3 s3 r3=>h c _ (yp.trans y3) s3 (r3.unset i)
    |ct S3 G3=>exact λh c σ3 y3 s3 r3=>h c _ (yp.trans y3) s3 (r3.unset i)
    |rt d3 G3=>exact λh c v3 y3 s3 r3=>h c v3 (yp.trans y3) s3 r3
    |err x3 G3=>exact λh=>h.elim
    |bad=>exact λh=>h.elim
  refine vV (hh ea vv s4 _ _ _ (ZEk I4) run) (λfl s5 q5=>?_) λ_ _ z=>z.elim
  cases fl with
  |next=>
   obtain⟨σ2,H2,I5,q5⟩:=q5;exact Uo (U6 (calm:=hcalm) hcalm' I5) hN hi hl λs6 I6=>⟨_,H2,I6,q5⟩
  |brk=>
   obtain⟨σ2,H2,I5,q5⟩:=q5;exact Uo (U6 (calm:=hcalm) hcalm' I5) hN hi hl λs6 I6=>⟨_,H2,I6,q5⟩
  |cont=>
   obtain⟨σ2,H2,I5,q5⟩:=q5;exact Uo (U6 (calm:=hcalm) hcalm' I5) hN hi hl λs6 I6=>⟨_,H2,I6,q5⟩
  |ret u=>
   obtain⟨v,σ2,H2,I5,rv,q5⟩:=q5;exact Uo (U6 (calm:=hcalm) hcalm' I5) hN hi hl λs6 I6=>⟨v,_,H2,I6,rv,q5⟩
 ·split at h
  ·rename_i hw;refine wpAny_handleBy_cons (ZGU ho hc J hgx hmx hdx (hns _ hw C (by rw[<-hkw];exact hn)) ?_) (by intro q;cases q);exact hr vv s σ w.H D ea C oe vs xn w S G E ho hc hda fe J tr hkw rfl sm r hn hx h
  ·exact h.elim
end
section
variable{X:Cx}{W:jL}{x:Str}{np hp pos:Pos}{b₀:jU}{suite:List jU}{hb:DS}{ws ns:List Str}{hs:List ExceptHandler}{f:DHn}
end
noncomputable def My(t:DS)(f:DHn):DS:=λS G=>match t S G with
 |.nx S2 G2=>.nx S2 G2
 |.err x G2=>f x S G2
 |_=>.bad
theorem ZJw{E:XK}{b:List jU}{h0:ExceptHandler}{hs:List ExceptHandler}{t:DS}{f:DHn}{pos:Pos}(hst:X.stack=X.env::X.outer)(hfr:X.env.frame=vk X.env.locals)(hb:QTr X b t)(hh:QH X (h0::hs) f):QS X E (.Try b (h0::hs) [] [] pos) (My t f):=by
 intro vv s σ H D I h;obtain⟨w,S,G,hkw,rfl,sm,r,h⟩:=h;let E1:XK:=λcls od H'=>cls=.none∨∃C x G2 b2,cls=.ref C/\PySem.W.nsIn b2.K xI x.cls=vk (vk (.ref C))/\b2.K=X.K/\b2.H=H'/\Sim b2 G2/\RepS b2 S σ/\XD b2 od x.fs/\Bq E b2 (f x S G2) D
 have run:lS X.K E1 t {nx:=D.nx,rt:=λ_ _=>False} σ w.H:=by
  refine⟨w,S,G,hkw,rfl,sm,r,?_⟩;unfold My at h;cases ht:t S G with
  |bad=>rw[ht]at h;exact h
  |bk S2 G2=>rw[ht]at h;exact h.elim
  |ct S2 G2=>rw[ht]at h;exact h.elim
  |rt d G2=>rw[ht]at h;exact h.elim
  |nx S2 G2=>rw[ht]at h;exact h
  |err xn G2=>
   rw[ht]at h;refine⟨λz=>?_,λb2 C od y2 s2 hn hx=>.inr ⟨C,xn,G2,b2,rfl,hn,y2.k.trans hkw,rfl,s2,r.mono y2,hx,Bq.mono y2 h⟩⟩;have:=congrFun (congrFun (congrFun z Value.none) v4) w.H;exact cast this (.inl rfl)
 refine wpAny_Try_except (vV (hb vv s σ w.H _ E1 I run) (λfl s1 ⟨e,σ1,H1,I1,q⟩=>?_) λe s1 ⟨H1,s2,I1,hq⟩=>?_)
 ·subst e;exact wpAny_execs_nil ⟨σ1,H1,I1,q⟩
 ·refine lands hst hfr I1 hq λea C od H' oe vs' h'' ee ho hc hd hda hE fe J tr hcC=>?_
  subst ee;rcases hE with z|⟨C',xn,G2,b2,z,hn,hkb,hH,s2,r2,hx,h2⟩
  ·obtain⟨C2,z2⟩:=hcC;rw[z]at z2;cases z2
  ·subst z hd hH;exact hh vv _ σ b2.H D ea C' oe vs' xn b2 S G2 E ho hc hda fe J tr hkb rfl s2 r2 hn hx h2
end _D
namespace _D
open PySem PySem.Spec PySem.W _L
open PyProof.Rows hiding St
variable{K:vj}
section
variable{X:Cx}{C:jL}{x:Str}{np cpos pos:Pos}{a:jN}{ta:TA}{E:XK}
end
section
variable{X:Cx}{E:XK}{c x n f v w:Str}{e a:jN}{es:List jN}{t:DE}{tr:DA}{p q pos cpos np fp cp ep hp:Pos}{b:Bool}{F:List D->DH->R D}{k j:Nat}{ps:List Str}{st:jU}
theorem ZD6{dv:Int}(FF:FnX X.prog X.w X.K X.mg X.base k n ps F)(T:FTD X.K X.mg n st ps dv)(hr:Room j X.A)(ha:QA X.nox E0 (a::es) tr)(hj:Nat.ble k j=v5:=by rfl)(hg:Gl X n:=by rfl)
  (hdb:(n==("__debug__":Str))=v6:=by decide) (he:xP (a::es) X.env=(v6,eval a X.env)::xP es X.env:=by rfl) (hpl:(xV cp (xP es X.env)).any (·.1)=v6:=by rfl):
  QTe X (.Call (.Name n fp) (a::es) [] cp) (dTc (dfx dv F) tr):=by
 obtain⟨tt,hb⟩:=T.d;exact ZPG (dvs:=[.int dv]) (dus:=[.int dv tt]) FF (hr.mono (qS hj)) (.cons ⟨tt,rfl⟩ .nil) hb hg T.m T.k ha (λw G ds vs Q E hk s r h=>⟨w,G,ds++[D.int dv],hk,rfl,s,r.append (Reps.cons (d:=.int dv) (v:=.int dv) rfl Reps.nil),h⟩) hdb he hpl
def Tk(K:vj)(w:Str)(b:Bool)(ws:List Str):Prop:=∀c∈ws,∀C,nsIn K xI c=vk (vk (.ref C))->Je K C (Af K w) b=v5
theorem ZES:Tk K w b []:=λc h=>absurd h (by simp)
theorem ZJi{ws:List Str}(N:nsIn K xI c=vk (vk (.ref (Af K c))))(h:Je K (Af K c) (Af K w) b=v5)(r:Tk K w b ws):Tk K w b (c::ws):=λc' hc C hC=>by
 rcases zj.mp hc with z|z
 ·subst z;rw[N]at hC;cases hC;exact h
 ·exact r c' z C hC
theorem ZIg{i:Nat}{b₀:jU}{suite:List jU}{hb:DS}{ws ns:List Str}{hs:List ExceptHandler}{g:DHn}(mw:X.mg w=vk (.ref (Af X.K w)))(tw:Tk X.K w v5 ws)(tn:Tk X.K w v6 ns)(hr:Room j X.A)(hN:X.N.Nodup)(hh:∀ea,RoomH j (Ld X ea).A->QSs (Ld X ea) E0 (b₀::suite) hb)(hrest:QH X hs g)
  (hcalm:X.calm=v5:=by rfl) (hgw:Gl X w:=by rfl) (hi:X.N[i]?=vk x:=by rfl) (hl:X.env.kindOf x=vk .local:=by rfl) (hdx:(w==("__debug__":Str))=v6:=by decide):
  QH X (.ExceptHandler (vk (.Name w np)) (vk x) (b₀::suite) hp::hs) (Mw ws ns i hb g):=
 ZQQ hcalm hgw mw hN hi hl tw tn (λea=>hh ea (RoomH.held (.of hr))) hrest hdx
theorem ZOk{bd:List jU}{h0:ExceptHandler}{hs:List ExceptHandler}{ts:DS}{g:DHn}(hb:QTr X bd ts)(hh:QH X (h0::hs) g)(hst:X.stack=X.env::X.outer:=by rfl)(hfr:X.env.frame=vk X.env.locals:=by rfl):QS X E (.Try bd (h0::hs) [] [] pos) (My ts g):=
 ZJw hst hfr hb hh
end
def KB(K:vj)(n:Str)(ps:List Str)(y:Str):Prop:=∀(s:jT)(us:List xQ)(u:xQ),K.In s.heap->us.length+1=ps.length->BindsTo s (An K (Af K n)) ⟨us,[(y,u)]⟩ (ps.zip (us++[u]))
theorem ZNo{n y:Str}{st:jU}{ps:List Str}{v:Int}(s:Ask.Said K (.fd n st v))
  (hb:∀(T:jL)(kV doc pm:xQ)(an:Option jL)(cdv ct:xQ)(us:List xQ)(u:xQ)(t:Tok),us.length+1=ps.length->∃k,bindArgs (fnOf n n (Eg st) (Cz st) (Am st) (.ref T) kV doc pm an cdv ct) ⟨us,[(y,u)]⟩=seqItems? (.ref T) >>=k/\k (vk #[.int v t])=pure (ps.zip (us++[u]))):KB K n ps y:=by
 obtain⟨s1,s2,s3,s4,T,o,t,m,e1,e2,e3⟩:=s;have ef:An K (Af K n)=fnOf n n (Eg st) (Cz st) (Am st) (.ref T) (An K (Af K n)).kwdefaults (An K (Af K n)).doc (An K (Af K n)).pyModule (An K (Af K n)).annotations (An K (Af K n)).code (An K (Af K n)).closureTuple:=by
  rw[<-e1]
  conv=>lhs;unfold An Fq;rw[s2]
 intro s us u ki hl;rw[ef];obtain⟨k,k1,k2⟩:=hb T (An K (Af K n)).kwdefaults (An K (Af K n)).doc (An K (Af K n)).pyModule (An K (Af K n)).annotations (An K (Af K n)).code (An K (Af K n)).closureTuple us u t hl;exact BindsTo.of_defaults rfl (ki T o e2) e3 k1 k2
noncomputable def dKw(F:List D->DH->R D)(t:DA)(u:DE):DE:=λS G=>match t S G with
 |.ok ds G1=>(match u S G1 with
  |.ok d G2=>F (ds++[d]) G2
  |_=>.bad)
 |_=>.bad
section
variable{X:Cx}{n y:Str}{e e2:jN}{es:List jN}{tr:DA}{tu:DE}{p pos kp:Pos}{F:List D->DH->R D}{k j:Nat}{ps:List Str}{st:jU}{v:Int}
theorem ZLJ(FF:FnX X.prog X.w X.K X.mg X.base k n ps F)(T:FTD X.K X.mg n st ps v)(kb:KB X.K n ps y)(hr:Room j X.A)(ha:QA X E0 (e::es) tr)(hu:QE X E0 e2 tu)(hj:Nat.ble k j=v5:=by rfl)(hg:Gl X n:=by rfl)(hdb:(n==("__debug__":Str))=v6:=by decide)
  (hpl:((xV pos (xP (e::es) X.env)).any (·.1)||(xW pos (xG [⟨vk y,e2,kp⟩] X.env)).any (·.1.isNone))=v6:=by rfl) (he:xP (e::es) X.env=(v6,eval e X.env)::xP es X.env:=by rfl):
  QE X E0 (.Call (.Name n p) (e::es) [⟨vk y,e2,kp⟩] pos) (dKw F tr tu):=by
 intro vv s σ H Q I h;have h':lA X.K E0 tr σ H λvs H1=>lE X.K E0 tu σ H1 λv H2=>lFx X.K F (vs++[v]) H2 Q E0:=by
  obtain⟨w,S,G,hkw,rfl,sm,r,h⟩:=h;refine⟨w,S,G,hkw,rfl,sm,r,?_⟩;unfold dKw at h;cases ht:tr S G with
  |err x G1=>rw[ht]at h;exact h.elim
  |bad=>rw[ht]at h;exact h
  | ok ds G1=>
   rw[ht]at h;intro b vs y1 s1 q1;refine⟨b,S,G1,y1.k.trans hkw,rfl,s1,r.mono y1,?_⟩;dsimp only at h;cases hu':tu S G1 with
   |err x G2=>rw[hu']at h;exact h.elim
   |bad=>rw[hu']at h;exact h
   |ok d G2=>
    rw[hu']at h;exact λb2 v2 y2 s2 q2=>⟨b2,G2,ds++[d],(y1.trans y2).k.trans hkw,rfl,s2,(q1.mono y2).append (Reps.cons q2 Reps.nil),out.mono (y1.trans y2) h⟩
 refine xT (Js I hg T.m ?_ hdb);refine callWith_KW (h₀:=X.base) I.ok.mod.kin T.k rfl (thn (ha pos vv s σ H _ I h') λus s1 ⟨vs,H1,I1,r1,q1⟩=>kwAll_cons (thn (hu vv s1 σ H1 _ I1 q1) λu s2 ⟨v2,H2,I2,r2,q2⟩=>kwAll_nil ⟨I2.kIn,?_⟩)) hpl he;have rr:Vals (vs++[v2]) (us++[u]):=r1.append (.cons r2 .nil);have hl:us.length+1=ps.length:=by have:=FF.len _ _ _ _ q2;have:=r1.length;simp at*;lia
 refine wpAny_call (xk (FF.run X.A X.stack s2 H2 ⟨us,[(y,u)]⟩ (us++[u]) (vs++[v2]) Q E0 (hr.mono (qS hj)) I2.env0 (kb s2 us u I2.kIn hl) rr q2) λr s' hq=>?_);cases r with
 |error e=>exact(ZFq vv σ H2 s2 e s' I2 hq)
 |ok fl=>
  cases fl with
  |ret u=>exact I2.after hq
  |next=>exact False.elim hq
  |brk=>exact False.elim hq
  |cont=>exact False.elim hq
end
end _D
namespace _W
open PySem _L _D
noncomputable def fuel:Nat:=100000
theorem ZLm:FnScope ["self","most"] ["self","most"] (Am ZBA):=⟨rfl,rfl,rfl,by decide +kernel,rfl,by decide +kernel,by decide +kernel⟩
noncomputable abbrev ZDU:List Str:=["_law_number","_law_k","_law_digit"]
noncomputable abbrev Yd:List Str:=ZDU.take 2
theorem Rf:FnScope ZDU Yd (Am Yv):=⟨rfl,rfl,rfl,by decide +kernel,rfl,by decide +kernel,by decide +kernel⟩
noncomputable abbrev ZCb:List Str:=["_law_script"]
noncomputable abbrev ZBf:List Str:=ZCb.take 1
theorem ZH2:FnScope ZCb ZBf (Am Z6):=⟨rfl,rfl,rfl,by decide +kernel,rfl,by decide +kernel,by decide +kernel⟩
noncomputable abbrev ZGE:List Str:=["_law_script","_law_k","_law_number"]
noncomputable abbrev ZBq:List Str:=ZGE.take 2
theorem Ot:FnScope ZGE ZBq (Am ZAZ):=⟨rfl,rfl,rfl,by decide +kernel,rfl,by decide +kernel,by decide +kernel⟩
noncomputable abbrev ZEJ:List Str:=["house","floods"]
noncomputable abbrev ZBO:List Str:=ZEJ.take 2
theorem ZJA:FnScope ZEJ ZBO (Am X3):=⟨rfl,rfl,rfl,by decide +kernel,rfl,by decide +kernel,by decide +kernel⟩
noncomputable abbrev Vq:List Str:=["self","house","state","at","flood","levels","coming"]
noncomputable abbrev Xa:List Str:=Vq.take 5
theorem ZBo:FnScope Vq Xa (Am Ql):=⟨rfl,rfl,rfl,by decide +kernel,rfl,by decide +kernel,by decide +kernel⟩
noncomputable abbrev ZGx:List Str:=["self","to","delay","cubes"]
noncomputable abbrev ZBz:List Str:=ZGx.take 4
theorem ZNx:FnScope ZGx ZBz (Am Zo):=⟨rfl,rfl,rfl,by decide +kernel,rfl,by decide +kernel,by decide +kernel⟩
noncomputable abbrev ZHj:List Str:=["house","name","number","place"]
noncomputable abbrev Zh:List Str:=ZHj.take 2
theorem ZBh:FnScope ZHj Zh (Am ZBD):=⟨rfl,rfl,rfl,by decide +kernel,rfl,by decide +kernel,by decide +kernel⟩
noncomputable abbrev ZDC:List Str:=["house","place","name"]
noncomputable abbrev ZBt:List Str:=ZDC.take 2
theorem ZB7:FnScope ZDC ZBt (Am ZAg):=⟨rfl,rfl,rfl,by decide +kernel,rfl,by decide +kernel,by decide +kernel⟩
noncomputable abbrev ZEh:List Str:=["self","number","cubes","down"]
noncomputable abbrev ZBw:List Str:=ZEh.take 3
theorem ZC4:FnScope ZEh ZBw (Am ZBW):=⟨rfl,rfl,rfl,by decide +kernel,rfl,by decide +kernel,by decide +kernel⟩
noncomputable abbrev ZE8:List Str:=["stairs","water","river","pump","height","many","way","cubes"]
noncomputable abbrev ZAs:List Str:=ZE8.take 2
theorem Iz:FnScope ZE8 ZAs (Am Xf):=⟨rfl,rfl,rfl,by decide +kernel,rfl,by decide +kernel,by decide +kernel⟩
noncomputable abbrev ZHa:List Str:=["rule","turn","held","first","stairs"]
noncomputable abbrev Xx:List Str:=ZHa.take 2
theorem Oo:FnScope ZHa Xx (Am Xh):=⟨rfl,rfl,rfl,by decide +kernel,rfl,by decide +kernel,by decide +kernel⟩
noncomputable abbrev ZHi:List Str:=["self","number","place","came","let","pumped","stays","lies","spilled"]
noncomputable abbrev Z0:List Str:=ZHi.take 2
theorem Jk:FnScope ZHi Z0 (Am ZAO):=⟨rfl,rfl,rfl,by decide +kernel,rfl,by decide +kernel,by decide +kernel⟩
noncomputable abbrev Xr:List Str:=["rows","takes","passing","row","number"]
noncomputable abbrev ZBg:List Str:=Xr.take 2
theorem Tn:FnScope Xr ZBg (Am Tu):=⟨rfl,rfl,rfl,by decide +kernel,rfl,by decide +kernel,by decide +kernel⟩
noncomputable abbrev ZHc:List Str:=["house","number","places","down"]
noncomputable abbrev ZAx:List Str:=ZHc.take 2
theorem ZBk:FnScope ZHc ZAx (Am Yz):=⟨rfl,rfl,rfl,by decide +kernel,rfl,by decide +kernel,by decide +kernel⟩
noncomputable abbrev ZDw:List Str:=["house","members","came","rows","number","place","down","row_down"]
noncomputable abbrev Z2:List Str:=ZDw.take 3
theorem Ni:FnScope ZDw Z2 (Am ZBJ):=⟨rfl,rfl,rfl,by decide +kernel,rfl,by decide +kernel,by decide +kernel⟩
noncomputable abbrev Wa:List Str:=["rows","order"]
noncomputable abbrev Zr:List Str:=Wa.take 1
theorem ZF5:FnScope Wa Zr (Am Q0):=⟨rfl,rfl,rfl,by decide +kernel,rfl,by decide +kernel,by decide +kernel⟩
noncomputable abbrev ZHb:List Str:=["rows","number","way","down"]
noncomputable abbrev Xp:List Str:=ZHb.take 2
theorem Ws:FnScope ZHb Xp (Am ZBy):=⟨rfl,rfl,rfl,by decide +kernel,rfl,by decide +kernel,by decide +kernel⟩
noncomputable abbrev Yk:List Str:=["rows","takes","passing","number","way","take","below"]
noncomputable abbrev ZAF:List Str:=Yk.take 1
theorem Lx:FnScope Yk ZAF (Am Ww):=⟨rfl,rfl,rfl,by decide +kernel,rfl,by decide +kernel,by decide +kernel⟩
noncomputable abbrev ZGY:List Str:=["self","members","rows","takes","number","took","let"]
noncomputable abbrev ZB0:List Str:=ZGY.take 2
theorem Mz:FnScope ZGY ZB0 (Am ZAb):=⟨rfl,rfl,rfl,by decide +kernel,rfl,by decide +kernel,by decide +kernel⟩
noncomputable abbrev ZG5:List Str:=["house","lasts","number","down"]
noncomputable abbrev Yc:List Str:=ZG5.take 1
theorem Wl:FnScope ZG5 Yc (Am Yn):=⟨rfl,rfl,rfl,by decide +kernel,rfl,by decide +kernel,by decide +kernel⟩
noncomputable abbrev ZAr:List Str:=["self","lasts","number","last"]
noncomputable abbrev X6:List Str:=ZAr.take 1
theorem Us:FnScope ZAr X6 (Am Up):=⟨rfl,rfl,rfl,by decide +kernel,rfl,by decide +kernel,by decide +kernel⟩
noncomputable abbrev Sh:List Str:=["self"]
noncomputable abbrev ZA9:List Str:=Sh.take 1
theorem ZNK:FnScope Sh ZA9 (Am Pz):=⟨rfl,rfl,rfl,by decide +kernel,rfl,by decide +kernel,by decide +kernel⟩
noncomputable abbrev ZCg:List Str:=["house","state","at","flood","course"]
noncomputable abbrev Zi:List Str:=ZCg.take 4
theorem ZEK:FnScope ZCg Zi (Am Yi):=⟨rfl,rfl,rfl,by decide +kernel,rfl,by decide +kernel,by decide +kernel⟩
noncomputable abbrev ZC6:List Str:=["house","state","at","floods","pages","number","flood","page"]
noncomputable abbrev Zn:List Str:=ZC6.take 4
theorem Nj:FnScope ZC6 Zn (Am ZBj):=⟨rfl,rfl,rfl,by decide +kernel,rfl,by decide +kernel,by decide +kernel⟩
noncomputable abbrev ZDR:List Str:=["house","state","floods","most","states","pages","year","behind"]
noncomputable abbrev ZBT:List Str:=ZDR.take 4
theorem Pg:FnScope ZDR ZBT (Am ZA4):=⟨rfl,rfl,rfl,by decide +kernel,rfl,by decide +kernel,by decide +kernel⟩
noncomputable abbrev ZEH:List Str:=["house","state","floods","most","states","pages"]
noncomputable abbrev Ug:List Str:=ZEH.take 4
theorem Y8:FnScope ZEH Ug (Am Xj):=⟨rfl,rfl,rfl,by decide +kernel,rfl,by decide +kernel,by decide +kernel⟩
noncomputable abbrev ZCG:List Str:=["cubes","sense","number"]
noncomputable abbrev Xo:List Str:=ZCG.take 3
theorem ZKq:FnScope ZCG Xo (Am Yw):=⟨rfl,rfl,rfl,by decide +kernel,rfl,by decide +kernel,by decide +kernel⟩
noncomputable abbrev ZGH:List Str:=["what"]
noncomputable abbrev ZAn:List Str:=ZGH.take 1
theorem ZJ1:FnScope ZGH ZAn (Am ZAB):=⟨rfl,rfl,rfl,by decide +kernel,rfl,by decide +kernel,by decide +kernel⟩
noncomputable abbrev ZBu:List Str:=["pages","ask","what","place","sense","number","part","found","when","cubes","nearest"]
noncomputable abbrev ZAt:List Str:=ZBu.take 2
theorem Hq:FnScope ZBu ZAt (Am Ur):=⟨rfl,rfl,rfl,by decide +kernel,rfl,by decide +kernel,by decide +kernel⟩
noncomputable abbrev ZHH:List Str:=["house","ask","what","place","sense","number"]
noncomputable abbrev Zq:List Str:=ZHH.take 2
theorem Oh:FnScope ZHH Zq (Am ZBY):=⟨rfl,rfl,rfl,by decide +kernel,rfl,by decide +kernel,by decide +kernel⟩
noncomputable abbrev ZAh:List Str:=["numbers","others"]
noncomputable abbrev Xg:List Str:=ZAh.take 2
theorem ZJY:FnScope ZAh Xg (Am Uu):=⟨rfl,rfl,rfl,by decide +kernel,rfl,by decide +kernel,by decide +kernel⟩
noncomputable abbrev ZBH:List Str:=["floods","others"]
noncomputable abbrev ZAC:List Str:=ZBH.take 2
theorem ZJF:FnScope ZBH ZAC (Am Tt):=⟨rfl,rfl,rfl,by decide +kernel,rfl,by decide +kernel,by decide +kernel⟩
noncomputable abbrev ZEA:List Str:=["state","other","levels","coming","other_levels","other_coming"]
noncomputable abbrev ZAU:List Str:=ZEA.take 2
theorem Oi:FnScope ZEA ZAU (Am Wz):=⟨rfl,rfl,rfl,by decide +kernel,rfl,by decide +kernel,by decide +kernel⟩
noncomputable abbrev ZCO:List Str:=["low","high","lows","highs"]
noncomputable abbrev Xv:List Str:=ZCO.take 4
theorem ZQE:FnScope ZCO Xv (Am Yj):=⟨rfl,rfl,rfl,by decide +kernel,rfl,by decide +kernel,by decide +kernel⟩
noncomputable abbrev ZCf:List Str:=["low","high","lows","highs","ask","what","place","sense","number"]
noncomputable abbrev ZAu:List Str:=ZCf.take 5
theorem Oq:FnScope ZCf ZAu (Am ZB2):=⟨rfl,rfl,rfl,by decide +kernel,rfl,by decide +kernel,by decide +kernel⟩
noncomputable abbrev ZGh:List Str:=["house","low","high","lows","highs","ask","most","state","floods","states","pages"]
noncomputable abbrev ZBL:List Str:=ZGh.take 7
theorem Qt:FnScope ZGh ZBL (Am ZBl):=⟨rfl,rfl,rfl,by decide +kernel,rfl,by decide +kernel,by decide +kernel⟩
noncomputable abbrev ZHC:List Str:=["_law_house","_law_state","_law_floods","_law_ask","_law_word","_law_told","e"]
noncomputable abbrev Zy:List Str:=ZHC.take 5
theorem U5:FnScope ZHC Zy (Am Z7):=⟨rfl,rfl,rfl,by decide +kernel,rfl,by decide +kernel,by decide +kernel⟩
noncomputable abbrev ZCz:List Str:=["_law_level","_law_brim","_law_cubes","_law_states_here"]
noncomputable abbrev ZAS:List Str:=ZCz.take 3
theorem ZCP:FnScope ZCz ZAS (Am Zd):=⟨rfl,rfl,rfl,by decide +kernel,rfl,by decide +kernel,by decide +kernel⟩
noncomputable abbrev ZCa:List Str:=["_law_number"]
noncomputable abbrev Yp:List Str:=ZCa.take 1
theorem ZKU:FnScope ZCa Yp (Am ZBP):=⟨rfl,rfl,rfl,by decide +kernel,rfl,by decide +kernel,by decide +kernel⟩
noncomputable abbrev Xw:List Str:=["_law_script","_law_cell","_law_year","_law_cubes","_law_lack","_law_level","_law_when","_law_house","_law_floods","_law_states_here","_law_ask","_law_long","_law_other","_law_filled"]
noncomputable abbrev ZBI:List Str:=Xw.take 1
theorem Ek:FnScope Xw ZBI (Am Fy):=⟨rfl,rfl,rfl,by decide +kernel,rfl,by decide +kernel,by decide +kernel⟩
def Qn:DS:=(sAs (dOp Hj (dV 0) (dOp Jb (dC (.int 10)) (dC (.int 8)))) (gV 0))
def Zc:DS:=(Ag (sIf (Ay (Nv Ky Hn (dC (.int 0)) (dV 0) (dOp Jb (dC (.int 10)) (dC (.int 18))))) (Ag (sAs (dOp Df (dOp Cv (dOp Cv (dV 0) (dOp Dg (dC (.int 1009)) (dV 1))) (dC (.int 7))) (dC (.int 999999937))) (gV 0)) (Ag (sAs (dOp Df (dOp Dg (dV 0) (dV 0)) (dC (.int 999999929))) (gV 0)) (sRt (dOp Df (dOp Dg (dV 0) (dOp Cv (dV 0) (dV 1))) (dC (.int 99999989)))))) sNx) (Ag (El (Di rng1 (Ab (dV 1) Ad)) (gV 2) Qn) (sRt (dOp Df (dV 0) (dOp Jb (dC (.int 10)) (dC (.int 8)))))))
def Oc:List D->DH->R D:=Bb 2 1 Zc
def Ys:DS:=(sRt (Rb (dOp Il (dFn Bs (Ab (dV 0) Ad)) (dC (.int 0))) (ZAJ (dOp Hn (dOp Ak (dV 0) (dC (.int 0))) (dC (.int 0))) (dOp Z4 (dOp Ak (dV 0) (dC (.int 0))) (dOp Jb (dC (.int 10)) (dC (.int 18)))))))
def Mm:List D->DH->R D:=Bb 1 0 Ys
def Ng:DS:=(Ag (sIf (Ay (dFn Mm (Ab (dV 0) Ad))) (Ag (sAs (dC (.int 0)) (gV 2)) (Ag (sIf (Ay (dOp Hn (dOp Cv (dC (.int 1)) (dOp Hj (dV 1) (dC (.int 14)))) (dFn Bs (Ab (dV 0) Ad)))) (sAs (dOp Ak (dV 0) (dOp Cv (dC (.int 1)) (dOp Hj (dV 1) (dC (.int 14))))) (gV 2)) sNx) (sRt (dFn Oc (Ab (dV 2) (Ab (dOp Df (dV 1) (dC (.int 14))) Ad)))))) sNx) (Ag (sIf (Ay (dOp Hn (dV 1) (dFn Bs (Ab (dV 0) Ad)))) (sRt (dOp Ak (dV 0) (dV 1))) sNx) (Ag (sAs (dOp Df (dOp Dg (dC (.int 48271)) (dOp Cv (dOp Dg (dV 1) (dV 1)) (dOp Dg (dC (.int 7)) (dFn Bs (Ab (dV 0) Ad))))) (dC (.int 2147483647))) (gV 2)) (Ag (sIf (Ay (dOp Il (dFn Bs (Ab (dV 0) Ad)) (dC (.int 0)))) (sAs (dOp Cv (dV 2) (dOp Df (dOp Dg (dOp Ak (dV 0) (dOp Df (dV 1) (dFn Bs (Ab (dV 0) Ad)))) (dC (.int 69621))) (dC (.int 2147483629)))) (gV 2)) sNx) (sRt (dV 2))))))
def Dn:List D->DH->R D:=Bb 2 1 Ng
def ZFZ:DS:=(sIf (Ay (dOp Eb (dFn Bs (Ab (dV 1) Ad)) (dOp Ak (dV 0) (dC (.int 0))))) Hg sNx)
def Qg:List D->DH->R D:=Bb 2 0 ZFZ
def V7:DE:=(dOp Cv (dV 0) (dOp Ak (dV 1) (dC (.int 0))))
def Qc:DE:=(Ec (dOp Cv (By (dFn H8 (Ab (By (dSl (dV 0) (vk (dC (.int 1))) v4)) Ad))) (By (dFn Bg (Ab (dC (.int 0)) Ad)))))
def ZHh:DS:=(Ag (sAs (dV 2) (Bc 2 (Ai (gV 5) (Ai (gV 6) Bd)))) (Ag (Et "Course" (dV 0) (dV 1) "house") (Ag (Et "Course" (dV 0) (dV 5) "levels") (Ag (Et "Course" (dV 0) (dOp Df (dV 3) (dOp Ak (dV 1) (dC (.int 0)))) "year_turn") (Ag (Et "Course" (dV 0) (Ei (Di (G9 2) (Ab (dV 4) (Ab (dV 6) Ad))) 2 [] (Bc 2 (Ai (gV 0) (Ai (gV 1) Bd))) Ck V7) "came") (Ag (Et "Course" (dV 0) (Ei (Ff (dV 6)) 1 [] (gV 0) Ck Qc) "coming") (Ag (Et "Course" (dV 0) (Ec (dOp Jf (dFn Bg (Ab (dC .non) Ad)) (dFn Bs (Ab (dV 5) Ad)))) "page") (Et "Course" (dV 0) (Ec (dFn Bg Ad)) "reaches"))))))))
def Pn:List D->DH->R D:=Bb 5 2 ZHh
def ZCT:DS:=(sIf (Ay (dOp Bx (dV 2) (dC (.int 0)))) (O8 (Do "Course" (dV 0) "came") (dV 1) (dV 3) Jc) (O8 (dOp Ak (Do "Course" (dV 0) "coming") (dV 1)) (dOp Fl (dV 2) (dC (.int 1))) (dV 3) Jc))
def Qo:List D->DH->R D:=Bb 4 0 ZCT
def O7:DS:=(sIf (Ay (dOp Bx (dOp Ak (dV 3) (dC (.int 1))) (dV 1))) (sRt (dV 2)) sNx)
def ZCC:DS:=(Ag (El (Di Gg (Ab (dOp Ak (dV 0) (dC (.int 1))) Ad)) (Bc 2 (Ai (gV 2) (Ai (gV 3) Bd))) O7) Hg)
def Oz:List D->DH->R D:=Bb 2 2 ZCC
def ZCy:DS:=(Ag (sAs (dOp Ak (dOp Ak (dOp Ak (dV 0) (dC (.int 1))) (dV 1)) (dC (.int 2))) (gV 2)) (Ag (sIf (Ay (dOp Bx (dV 2) (dC (.str "sea")))) (sRt (dC .non)) sNx) (sRt (dFn Oz (Ab (dV 0) (Ab (dV 2) Ad))))))
def R6:List D->DH->R D:=Bb 2 1 ZCy
def ZF4:DS:=(Ag (sAs (dFn R6 (Ab (Do "Course" (dV 0) "house") (Ab (dV 1) Ad))) (gV 3)) (sIf (Ay (dOp Lb (dV 3) (dC .non))) (sEx (Gy "Course" "send" Qo (dV 0) (Ab (dV 3) (Ab (dOp Ak (dOp Ak (dOp Ak (Do "Course" (dV 0) "house") (dC (.int 1))) (dV 1)) (dC (.int 3))) (Ab (dV 2) Ad))))) sNx))
def Q7:List D->DH->R D:=Bb 3 1 ZF4
def Uc:DS:=(Ag (sAs (dFn Vr (Ab (dC (.int 0)) (Ab (dFn Kw (Ab (dV 5) (Ab (dOp Fl (dV 1) (dV 4)) Ad))) Ad))) (gV 7)) (sIf (Ay (dOp Bx (dV 6) (dC (.str "river")))) (sAu 2 (dV 7) Jc) (sAu 3 (dV 7) Jc)))
def ZEf:DS:=(Ag (sAs (dC (.int 0)) (gV 2)) (Ag (sAs (dC (.int 0)) (gV 3)) (Ag (El (Ff (dV 0)) (Bc 3 (Ai (gV 4) (Ai (gV 5) (Ai (gV 6) Bd)))) Uc) (sRt (dFn Bf (Ab (dV 2) (Ab (dV 3) (Ab (dOp Fl (dOp Fl (dV 1) (dV 2)) (dV 3)) Ad))))))))
def Vk:List D->DH->R D:=Bb 2 6 ZEf
def Uk:DS:=(sIf (Ay (dOp Ky (dV 3) (dV 1))) (sAs (dV 4) (gV 2)) sNx)
def ZCo:DS:=(Ag (sAs (dFn Bf Ad) (gV 2)) (Ag (El (Ff (dV 0)) (Bc 2 (Ai (gV 3) (Ai (gV 4) Bd))) Uk) (sRt (dV 2))))
def Tf:List D->DH->R D:=Bb 2 3 ZCo
def ZEq:DS:=(Ag (sAs (dOp Ak (dOp Ak (Do "Course" (dV 0) "house") (dC (.int 1))) (dV 1)) (gV 2)) (Ag (sAs (dOp Ak (Do "Course" (dV 0) "came") (dV 1)) (gV 3)) (Ag (sAs (dFn Vk (Ab (dFn Tf (Ab (dOp Ak (dV 2) (dC (.int 5))) (Ab (Do "Course" (dV 0) "year_turn") Ad))) (Ab (dOp Cv (dOp Ak (Do "Course" (dV 0) "levels") (dV 1)) (dV 3)) Ad))) (Bc 3 (Ai (gV 4) (Ai (gV 5) (Ai (gV 6) Bd))))) (Ag (sAs (dFn Kw (Ab (dV 6) (Ab (dOp Ak (dV 2) (dC (.int 4))) Ad))) (gV 7)) (Ag (sAs (dOp Fl (dV 6) (dV 7)) (gV 8)) (Ag (sAs (dFn Bf (Ab (dV 3) (Ab (dC (.int 0)) (Ab (dV 8) (Ab (dV 4) (Ab (dV 5) (Ab (dV 7) Ad))))))) (gIx (Do "Course" (dV 0) "page") (dV 1))) (Ag (sEx (Gy "Course" "send_down" Q7 (dV 0) (Ab (dV 1) (Ab (dOp Cv (dV 4) (dV 8)) Ad)))) (sIf (Ay (dOp Lb (dOp Ak (dV 2) (dC (.int 6))) (dC .non))) (sEx (Gy "Course" "send" Qo (dV 0) (Ab (dFn Oz (Ab (Do "Course" (dV 0) "house") (Ab (dOp Ak (dOp Ak (dV 2) (dC (.int 6))) (dC (.int 0))) Ad))) (Ab (dOp Ak (dOp Ak (dV 2) (dC (.int 6))) (dC (.int 1))) (Ab (dV 5) Ad))))) sNx))))))))
def Rz:List D->DH->R D:=Bb 2 7 ZEq
def ZIK:DE:=(dOp Fl (dOp Ak (dV 0) (dC (.int 1))) (dV 1))
def ZML:DS:=(sIf (Ay (dOp Lb (dOp Ak (dV 3) (dC (.int 0))) (dC .non))) (O8 (dV 2) (dOp Ak (dV 3) (dC (.int 0))) (dOp Ak (dV 2) (dV 4)) Jc) sNx)
def ZPA:DS:=(Ag (sAs (Ei (Di (G9 2) (Ab (dV 0) (Ab (dV 1) Ad))) 2 [] (Bc 2 (Ai (gV 0) (Ai (gV 1) Bd))) Ck ZIK) (gV 2)) (Ag (El (Di Gg (Ab (dV 0) Ad)) (Bc 2 (Ai (gV 4) (Ai (gV 3) Bd))) ZML) (sRt (dV 2))))
def Yu:List D->DH->R D:=Bb 2 3 ZPA
def ZGl:DS:=(Ag (sAs (dOp Ak (dV 0) (dC (.int 1))) (gV 2)) (Ag (sAs (dFn R6 (Ab (dV 0) (Ab (dV 1) Ad))) (gV 3)) (Ag (sIf (dOr (Ay (dOp Vv (dV 3) (dC .non))) (Ay (dOp Il (dOp Ak (dOp Ak (dV 2) (dV 1)) (dC (.int 3))) (dC (.int 0))))) (sRt (dC .non)) sNx) (Ag (sIf (dOr (Ay (dOp Bx (dOp Ak (dOp Ak (dV 2) (dV 1)) (dC (.int 0))) (dC (.str "basin")))) (Ay (dOp Bx (dOp Ak (dOp Ak (dV 2) (dV 3)) (dC (.int 0))) (dC (.str "basin"))))) (sRt (dC .non)) sNx) (sRt (dV 3))))))
def Q5:List D->DH->R D:=Bb 2 2 ZGl
def ZJI:DS:=(Ag (sAs (dOp Ak (dOp Ak (dV 0) (dC (.int 1))) (dV 4)) (gV 5)) (Ag (sAs (dFn Q5 (Ab (dV 0) (Ab (dV 4) Ad))) (gV 6)) (Ag (sAs (dIf (Ay (dOp Vv (dV 6) (dC .non))) (dC .non) (Gp Li (dV 1) (Ab (dV 6) Ad))) (gV 7)) (sIf (Ay (dOp Bx (dOp Ak (dV 5) (dC (.int 0))) (dC (.str "town")))) (sEx (Gp Hr (dV 3) (Ab (dFn Bf (Ab (dV 7) (Ab (dOp Ak (dV 2) (dV 4)) (Ab (dOp Ak (dV 5) (dC (.int 4))) (Ab (dOp Ak (dV 5) (dC (.int 5))) Ad))))) Ad))) (sEx (Gp Hr (dV 3) (Ab (dFn Bf (Ab (dV 7) (Ab (dOp Ak (dV 2) (dV 4)) (Ab (dC (.int 0)) (Ab (dC (.int 0)) Ad))))) Ad)))))))
def ZK2:DS:=(Ag (sAs (Ec (dFn Bg Ad)) (gV 3)) (Ag (El (Ff (dV 1)) (gV 4) ZJI) (sRt (dV 3))))
def ZCS:List D->DH->R D:=Bb 3 5 ZK2
def ZKx:DE:=(dFn Bf (Ab (dOp Ak (dV 1) (dC (.int 3))) (Ab (dV 0) Ad)))
def ZJM:DE:=(dV 1)
def ZJQ:DS:=(Ag (sAs (By (dFn Z8 (Ab (By (Ei (Di Gg (Ab (dV 0) Ad)) 2 [] (Bc 2 (Ai (gV 0) (Ai (gV 1) Bd))) Ck ZKx)) Ad))) (gV 1)) (sRt (Ei (Ff (dV 1)) 2 [] (Bc 2 (Ai (gV 0) (Ai (gV 1) Bd))) Ck ZJM)))
def ZGg:List D->DH->R D:=Bb 1 1 ZJQ
def ZP7:DS:=(Ag (sEx (Gp Hr (dV 2) (Ab (dV 3) Ad))) (sAs (dOp Ak (dOp Ak (dV 0) (dV 3)) (dC (.int 0))) (gV 3)))
def ZLf:DB:=(Ay (dOp Lb (dV 3) (dC .non)))
def ZQC:DS:=(Ag (sAs (Ec (dFn Bg (Ab (dV 1) Ad))) (gV 2)) (Ag (sAs (dOp Ak (dOp Ak (dV 0) (dV 1)) (dC (.int 0))) (gV 3)) (Ag (sWh ZLf ZP7 fuel) (sRt (dV 2)))))
def ZF0:List D->DH->R D:=Bb 2 2 ZQC
def ZLe:DE:=(dOp Ak (dV 1) (dV 0))
def ZPU:DS:=(O8 (dV 2) (dV 6) (dV 5) Fl)
def ZKF:DS:=(Ag (sAs (By (dFn ZF0 (Ab (dV 0) (Ab (dV 3) Ad)))) (gV 4)) (Ag (sAs (dFn Kw (Ab (dOp Ak (dOp Ak (dV 0) (dV 3)) (dC (.int 2))) (Ab (dFn Ik (Ab (By (Ei (Ff (dV 4)) 1 [2] (gV 0) Ck ZLe)) Ad)) Ad))) (gV 5)) (Ag (sAs (dV 5) (gIx (dV 1) (dV 3))) (El (Ff (dV 4)) (gV 6) ZPU))))
def ZKZ:DS:=(Ag (sAs (Ec (dOp Jf (dFn Bg (Ab (dC (.int 0)) Ad)) (dFn Bs (Ab (dV 0) Ad)))) (gV 1)) (Ag (sAs (Ec (dFn Yu (Ab (dV 0) (Ab (dV 1) Ad)))) (gV 2)) (Ag (El (Ff (By (dFn ZGg (Ab (dV 0) Ad)))) (gV 3) ZKF) (sRt (dV 1)))))
def ZFG:List D->DH->R D:=Bb 1 6 ZKZ
def ZJb:DS:=(Ag (sAs (dFn Bf (Ab (dOp Cv (dV 5) (dV 6)) (Ab (dV 5) (Ab (dC (.int 0)) (Ab (dV 6) (Ab (dC (.int 0)) (Ab (dC (.int 0)) Ad))))))) (gIx (Do "Course" (dV 0) "page") (dV 4))) (sIf (Ay (dOp Bx (dV 4) (dOp Ak (dV 1) (dUn Gu (dC (.int 1)))))) (sEx (Gy "Course" "send_down" Q7 (dV 0) (Ab (dV 4) (Ab (dV 6) Ad)))) sNx))
def ZPI:DS:=(Ag (sAs (By (dFn ZCS (Ab (Do "Course" (dV 0) "house") (Ab (dV 1) (Ab (Do "Course" (dV 0) "came") Ad))))) (gV 2)) (Ag (sAs (By (dFn ZFG (Ab (dV 2) Ad))) (gV 3)) (Ag (El (Di (G9 3) (Ab (dV 1) (Ab (dV 3) (Ab (By (dFn Yu (Ab (dV 2) (Ab (dV 3) Ad)))) Ad)))) (Bc 3 (Ai (gV 4) (Ai (gV 5) (Ai (gV 6) Bd)))) ZJb) (sEx (Gp Hr (Do "Course" (dV 0) "reaches") (Ab (Ec (dFn Bf (Ab (dV 1) (Ab (dV 2) Ad)))) Ad))))))
def ZFD:List D->DH->R D:=Bb 2 5 ZPI
def Sg:DS:=(Ag (sAs (dFn Q5 (Ab (dV 0) (Ab (dV 2) Ad))) (gV 3)) (sIf (Ay (dOp Lb (dV 3) (dC .non))) (sAs (dOp Ak (dV 1) (dV 3)) (gIx (dV 1) (dV 2))) sNx))
def ZCe:DS:=(Ag (sAs (Ec (dLR (Ab (dFn Bs (Ab (dOp Ak (dV 0) (dC (.int 1))) Ad)) Ad))) (gV 1)) (Ag (El (Di rng3 (Ab (dOp Fl (dFn Bs (Ab (dOp Ak (dV 0) (dC (.int 1))) Ad)) (dC (.int 1))) (Ab (dUn Gu (dC (.int 1))) (Ab (dUn Gu (dC (.int 1))) Ad)))) (gV 2) Sg) (sRt (dV 1))))
def Wk:List D->DH->R D:=Bb 1 3 ZCe
def ZNQ:DE:=(dV 0)
def ZNn:DB:=(Ay (dOp Bx (dV 1) (dV 2)))
def Nt:DS:=(sIf (Ay (dOp Bx (dOp Ak (dOp Ak (dOp Ak (Do "Course" (dV 0) "house") (dC (.int 1))) (dV 2)) (dC (.int 0))) (dC (.str "basin")))) (sEx (Gy "Course" "go_basin" Rz (dV 0) (Ab (dV 2) Ad))) (sIf (Ay (dOp Bx (dV 3) (dV 2))) (sEx (Gy "Course" "go_reach" ZFD (dV 0) (Ab (By (Ei (Di Gg (Ab (dV 1) Ad)) 2 [2] (Bc 2 (Ai (gV 0) (Ai (gV 1) Bd))) ZNn ZNQ)) Ad))) sNx))
def ZDV:DS:=(Ag (sAs (By (dFn Wk (Ab (Do "Course" (dV 0) "house") Ad))) (gV 1)) (El (Di Gg (Ab (dV 1) Ad)) (Bc 2 (Ai (gV 2) (Ai (gV 3) Bd))) Nt))
def Sv:List D->DH->R D:=Bb 1 3 ZDV
def Ru:DE:=(dOp Ak (dV 0) (dC (.int 5)))
def Rt:DE:=(dFn J0 (Ab (dV 0) Ad))
def ZEn:DS:=(sRt (dFn Bf (Ab (dFn J0 (Ab (By (Ei (Ff (Do "Course" (dV 0) "page")) 1 [] (gV 0) Ck Ru)) Ad)) (Ab (dFn J0 (Ab (By (Ei (Ff (Do "Course" (dV 0) "coming")) 1 [] (gV 0) Ck Rt)) Ad)) Ad))))
def W2:List D->DH->R D:=Bb 1 0 ZEn
def ZGm:DS:=(Ag (sAs (Y7 "Course" Pn (Ab (dV 0) (Ab (dV 1) (Ab (dV 2) (Ab (dV 3) Ad))))) (gV 4)) (Ag (sEx (Gy "Course" "go" Sv (dV 4) Ad)) (sRt (dFn Bf (Ab (dFn J0 (Ab (Do "Course" (dV 4) "page") Ad)) (Ab (Gy "Course" "state_behind" W2 (dV 4) Ad) Ad))))))
def Sd:List D->DH->R D:=Bb 4 1 ZGm
def R1:DS:=(Ag (sAs (dFn Sd (Ab (dV 0) (Ab (dV 1) (Ab (dV 5) (Ab (dV 6) Ad))))) (Bc 2 (Ai (gV 7) (Ai (gV 1) Bd)))) (sEx (Gp Hr (dV 4) (Ab (dV 7) Ad))))
def ZC2:DS:=(Ag (sAs (Ec (dFn Bg Ad)) (gV 4)) (Ag (El (ZBm (Ab (dV 3) Ad) (dV 2)) (Bc 2 (Ai (gV 5) (Ai (gV 6) Bd))) R1) (sRt (dFn Bf (Ab (dV 4) (Ab (dV 1) Ad))))))
def Qa:List D->DH->R D:=Bb 4 4 ZC2
def Ks:DS:=(Ag (sIf (Ay (dOp Il (dFn Bs (Ab (dV 4) Ad)) (dV 3))) (sRz "TooLong" "most" (Ab (dV 3) Ad)) sNx) (Ag (sNr (sAs (Ec (dFn Qa (Ab (dV 0) (Ab (dOp Ak (dV 4) (dUn Gu (dC (.int 1)))) (Ab (dC (.int 0)) (Ab (dV 2) Ad)))))) (Bc 2 (Ai (gV 6) (Ai (gV 7) Bd))))) (Ag (sNr (sEx (Gp Ox (dV 5) (Ab (dV 6) Ad)))) (sNr (sEx (Gp Hr (dV 4) (Ab (dV 7) Ad)))))))
def Ob:DB:=(Ay (dOp Ml (dOp Ak (dV 4) (dUn Gu (dC (.int 1)))) (By (dSl (dV 4) v4 (vk (dUn Gu (dC (.int 1))))))))
def Z3:DS:=(Ag (sNr (sAs (Ec (dFn Bg (Ab (dV 1) Ad))) (gV 4))) (Ag (sNr (sAs (Ec (dFn Bg Ad)) (gV 5))) (Ag (sWh Ob Ks fuel) (sNr (sRt (dFn Bf (Ab (dV 4) (Ab (dV 5) Ad))))))))
def Ju:List D->DH->R D:=Bb 4 4 Z3
def Yx:DS:=(Ag (sNr (sEx (dFn Qg (Ab (dV 0) (Ab (dV 2) Ad))))) (Ag (sAs (By (dFn Ju (Ab (dV 0) (Ab (dV 1) (Ab (dV 2) (Ab (dV 3) Ad)))))) (Bc 2 (Ai (gV 4) (Ai (gV 5) Bd)))) (sNr (sRt (dV 4)))))
def J6:List D->DH->R D:=Bb 4 2 Yx
def ZFa:DS:=(Ag (sIf (Ay (dOp Bx (dV 1) (dC (.str "least")))) (sRt (dOp Hn (dV 0) (dV 2))) sNx) (sRt (dOp Il (dV 0) (dV 2))))
def Vb:List D->DH->R D:=Bb 3 0 ZFa
def ZGi:DS:=(sRt (dOp M7 (Vs [("lies",(.int 5)),("spilled",(.int 2)),("let",(.int 3)),("pumped",(.int 4)),("took",(.int 1))]) (dV 0)))
def Uy:List D->DH->R D:=Bb 1 0 ZGi
def Wi:DE:=(dOp Ak (dOp Ak (dV 0) (dV 1)) (dV 2))
def Ji:DS:=(sIf (Ay (dFn Vb (Ab (dV 9) (Ab (dV 4) (Ab (dV 5) Ad))))) (sRt (dFn Bf (Ab (dC (.str "broken")) (Ab (dV 8) (Ab (dV 9) Ad))))) sNx)
def ZF6:DS:=(sRt (dFn Bf (Ab (dC (.str "kept")) (Ab (Gp Li (dV 7) (Ab (dV 10) Ad)) (Ab (dV 10) Ad)))))
def ZEl:DS:=(Ag (sAs (dIf (Ay (dOp Bx (dV 4) (dC (.str "least")))) (dFn Ik (Ab (dV 7) Ad)) (dFn Jr (Ab (dV 7) Ad))) (gV 10)) ZF6)
def U7:DS:=(Ag (sIf (Ay (dOp Bx (dFn Bs (Ab (dV 7) Ad)) (dC (.int 0)))) (sRt (dFn Bf (Ab (dC (.str "kept")) (Ab (dC .non) (Ab (dC .non) Ad))))) sNx) ZEl)
def Ri:DS:=(Ag (El (Di Gg (Ab (dV 7) Ad)) (Bc 2 (Ai (gV 8) (Ai (gV 9) Bd))) Ji) U7)
def ZCW:DS:=(Ag (sAs (By (Ei (Ff (dV 0)) 1 [3,6] (gV 0) Ck Wi)) (gV 7)) Ri)
def ZDN:DS:=(Ag (sAs (dFn Uy (Ab (dV 2) Ad)) (gV 6)) ZCW)
def Tj:DS:=(Ag (sAs (dV 1) (Bc 4 (Ai (gV 2) (Ai (gV 3) (Ai (gV 4) (Ai (gV 5) Bd)))))) ZDN)
def S8:List D->DH->R D:=Bb 2 9 Tj
def ZG7:DS:=(Ag (sAs (dV 1) (Bc 4 (Ai (gV 2) (Ai (gV 3) (Ai (gV 4) (Ai (gV 5) Bd)))))) (Ag (sIf (dOr (Ay (dOp Qm (dV 4) (dC (.tup [.str "least",.str "most"])))) (Ay (dUn (Rg [("lies","basin"),("spilled","basin"),("let","basin"),("pumped","basin"),("took","town")]) (dV 2)))) Hg sNx) (Ag (sIf (Jt (Ay (Nv Ky Hn (dC (.int 0)) (dV 3) (dFn Bs (Ab (dOp Ak (dV 0) (dC (.int 1))) Ad))))) Hg sNx) (sIf (Ay (dOp Eb (dOp Ak (dOp Ak (dOp Ak (dV 0) (dC (.int 1))) (dV 3)) (dC (.int 0))) (dUn (Np [("lies","basin"),("spilled","basin"),("let","basin"),("pumped","basin"),("took","town")]) (dV 2)))) Hg sNx))))
def Vm:List D->DH->R D:=Bb 2 4 ZG7
def ZAz:DE:=(dOp Ky (dV 0) (dV 1))
def ZEi:DS:=(Ag (sIf (Ay (dOp Eb (dFn Bs (Ab (dV 0) Ad)) (dFn Bs (Ab (dV 1) Ad)))) (sRt (dC (.bl v6))) sNx) (sRt (dFn Mj (Ab (By (Ei (Di (G9 2) (Ab (dV 0) (Ab (dV 1) Ad))) 2 [] (Bc 2 (Ai (gV 0) (Ai (gV 1) Bd))) Ck ZAz)) Ad))))
def Qq:List D->DH->R D:=Bb 2 0 ZEi
def ZBN:DE:=(dFn Qq (Ab (dV 0) (Ab (dV 1) Ad)))
def X4:DS:=(Ag (sIf (Ay (dOp Eb (dFn Bs (Ab (dV 0) Ad)) (dFn Bs (Ab (dV 1) Ad)))) (sRt (dC (.bl v6))) sNx) (sRt (dFn Mj (Ab (By (Ei (Di (G9 2) (Ab (dV 0) (Ab (dV 1) Ad))) 2 [] (Bc 2 (Ai (gV 0) (Ai (gV 1) Bd))) Ck ZBN)) Ad))))
def Kl:List D->DH->R D:=Bb 2 0 X4
def ZEc:DS:=(Ag (sAs (dV 0) (Bc 2 (Ai (gV 2) (Ai (gV 3) Bd)))) (Ag (sAs (dV 1) (Bc 2 (Ai (gV 4) (Ai (gV 5) Bd)))) (sRt (Rb (dFn Qq (Ab (dV 2) (Ab (dV 4) Ad))) (dFn Kl (Ab (dV 3) (Ab (dV 5) Ad)))))))
def Vd:List D->DH->R D:=Bb 2 4 ZEc
def ZDS:DS:=(sIf (dOr (Jt (Ay (dFn Vd (Ab (dV 0) (Ab (dV 1) Ad))))) (Jt (Ay (dFn Kl (Ab (dV 2) (Ab (dV 3) Ad)))))) Hg sNx)
def Vj:List D->DH->R D:=Bb 4 0 ZDS
def ZEt:DS:=(Ag (sAs (dV 4) (Bc 4 (Ai (gV 5) (Ai (gV 6) (Ai (gV 7) (Ai (gV 8) Bd)))))) (Ag (sIf (Ay (dOp Bx (dV 7) (dC (.str "least")))) (sRt (dFn Bf (Ab (dV 0) (Ab (dV 2) Ad)))) sNx) (sRt (dFn Bf (Ab (dV 1) (Ab (dV 3) Ad))))))
def Vf:List D->DH->R D:=Bb 5 4 ZEt
def Zv:DS:=(Ag (sNr (sEx (dFn Vm (Ab (dV 0) (Ab (dV 5) Ad))))) (Ag (sNr (sEx (dFn Qg (Ab (dV 0) (Ab (dV 3) Ad))))) (Ag (sNr (sEx (dFn Vj (Ab (dV 1) (Ab (dV 2) (Ab (dV 3) (Ab (dV 4) Ad))))))) (Ag (sNr (sAs (dFn Vf (Ab (dV 1) (Ab (dV 2) (Ab (dV 3) (Ab (dV 4) (Ab (dV 5) Ad)))))) (Bc 2 (Ai (gV 7) (Ai (gV 8) Bd))))) (Ag (sAs (By (dFn Ju (Ab (dV 0) (Ab (dV 7) (Ab (dV 8) (Ab (dV 6) Ad)))))) (Bc 2 (Ai (gV 9) (Ai (gV 10) Bd)))) (sNr (sRt (dFn S8 (Ab (dV 10) (Ab (dV 5) Ad))))))))))
def Im:List D->DH->R D:=Bb 7 4 Zv
def ZB3:DS:=(sAs (dUn (gtx ["TooLong"] "most") (dV 6)) (gV 5))
def ZAW:DS:=(Ag (sAs (dC .non) (gV 5)) (Ag (My (sTi (Ay (dOp Bx (dV 4) (dC (.str "ever")))) (sEx (dTc (dfx 100 J6) (Ab (dV 0) (Ab (dV 1) (Ab (dV 2) Ad))))) (sEx (dTc (dfx 100 Im) (Ab (dV 0) (Ab (dV 1) (Ab (dV 1) (Ab (dV 2) (Ab (dV 2) (Ab (dV 3) Ad))))))))) (Mw ["TooLong"] [] 6 ZB3 ZE0)) (sRt (dV 5))))
def Jd:List D->DH->R D:=Bb 5 2 ZAW
def Vo:DS:=(sEx (Gp Hr (dV 3) (Ab (dFn Bf (Ab (dFn Bf (Ab (dFn Kw (Ab (dV 1) (Ab (dOp Cv (dV 0) (dOp Dg (dV 2) (dFn Bs (Ab (dV 3) Ad)))) Ad))) Ad)) (Ab (dFn Bf (Ab (dFn Bf (Ab (dC (.int 0)) (Ab (dC (.int 0)) (Ab (dC (.int 0)) (Ab (dC (.int 0)) (Ab (dC (.int 0)) Ad)))))) Ad)) Ad))) Ad)))
def V9:DB:=(dOr (Ay (dOp Hn (dFn Bs (Ab (dV 3) Ad)) (dC (.int 2)))) (Ay (dOp Eb (dOp Ak (dV 3) (dUn Gu (dC (.int 1)))) (dOp Ak (dV 3) (dUn Gu (dC (.int 2)))))))
def ZFk:DS:=(Ag (sAs (Ec (dFn Bg Ad)) (gV 3)) (Ag (sWh V9 Vo fuel) (sRt (dV 3))))
def Rh:List D->DH->R D:=Bb 3 1 ZFk
def ZEQ:DS:=(sRt (Rb (dFn K4 (Ab (dV 0) (Ab (dC (.ty "int")) Ad))) (Ym (dFn K4 (Ab (dV 0) (Ab (dC (.ty "bool")) Ad))))))
def Pr:List D->DH->R D:=Bb 1 0 ZEQ
def Nr:DE:=(dFn Bf (Ab (dOp Dg (dV 1) (dFn Td (Ab (dOp Bx (dV 0) (dV 2)) Ad))) Ad))
def ZEo:DS:=(sRt (dOp Bx (dFn (dfx 100 Im) (Ab (dV 7) (Ab (dOp Ak (dV 9) (dC (.int 0))) (Ab (dOp Ak (dV 9) (dC (.int 0))) (Ab (By (dFn H8 (Ab (dV 8) Ad))) (Ab (By (dFn H8 (Ab (dV 8) Ad))) (Ab (dV 10) Ad))))))) (dFn Bf (Ab (dC (.str "kept")) (Ab (dV 13) (Ab (dOp Cv (dV 5) (dV 4)) Ad))))))
def ZE9:DS:=(Ag (sIf (Ay (dOp Il (dV 4) (dC (.int 0)))) (sAs (dOp Cv (dOp Dg (dOp Fl (dFn Bs (Ab (dV 9) Ad)) (dC (.int 3))) (dV 2)) (dV 6)) (gV 13)) sNx) ZEo)
def ZDj:DS:=(Ag (sAs (dC (.int 0)) (gV 13)) ZE9)
def ZEb:DS:=(Ag (sIf (Ay (dOp Eb (dFn (dfx 100 J6) (Ab (dV 7) (Ab (dOp Ak (dV 9) (dC (.int 0))) (Ab (By (dFn H8 (Ab (dV 8) Ad))) Ad)))) (dV 9))) (sRt (dC (.bl v6))) sNx) ZDj)
def ZBr:DS:=(Ag (sIf (Ay (dOp Il (dFn Bs (Ab (dV 9) Ad)) (dC (.int 101)))) (Ag (sAs (dFn Jd (Ab (dV 7) (Ab (dOp Ak (dV 9) (dC (.int 0))) (Ab (By (dFn H8 (Ab (dV 8) Ad))) (Ab (dV 10) (Ab (dC (.str "ever")) Ad)))))) (gV 11)) (Ag (sAs (dFn Jd (Ab (dV 7) (Ab (dOp Ak (dV 9) (dC (.int 0))) (Ab (By (dFn H8 (Ab (dV 8) Ad))) (Ab (dV 10) (Ab (dC (.str "look_ever")) Ad)))))) (gV 12)) (Ag (sIf (dOr (Jt (Ay (dFn Pr (Ab (dV 11) Ad)))) (dOr (Jt (Ay (dFn Pr (Ab (dV 12) Ad)))) (dOr (Ay (dOp Eb (dV 11) (dC (.int 100)))) (Ay (dOp Eb (dV 12) (dC (.int 100))))))) (sRt (dC (.bl v6))) sNx) (sRt (dOp Bx (dKw J6 (Ab (dV 7) (Ab (dOp Ak (dV 9) (dC (.int 0))) (Ab (By (dFn H8 (Ab (dV 8) Ad))) Ad))) (dOp Fl (dFn Bs (Ab (dV 9) Ad)) (dC (.int 1)))) (dV 9)))))) sNx) ZEb)
def ZEe:DS:=(Ag (sAs (dFn Bf (Ab (dC (.str "lies")) (Ab (dC (.int 0)) (Ab (dC (.str "most")) (Ab (dOp Cv (dOp Cv (dV 5) (dV 4)) (dOp Df (dFn Dn (Ab (dV 0) (Ab (dC (.int 5)) Ad))) (dC (.int 3)))) Ad))))) (gV 10)) ZBr)
def ZC7:DS:=(Ag (sAs (By (dFn Rh (Ab (dV 5) (Ab (dOp Cv (dV 5) (dV 4)) (Ab (dV 3) Ad))))) (gV 9)) ZEe)
def ZDA:DS:=(Ag (sAs (By (Ei (Di rng1 (Ab (dV 2) Ad)) 1 [3,6] (gV 0) Ck Nr)) (gV 8)) ZC7)
def Zw:DS:=(Ag (sAs (dFn Bf (Ab (dV 2) (Ab (dFn Bf (Ab (dFn Bf (Ab (dC (.str "basin")) (Ab (dC (.str "pond")) (Ab (dC (.str "sea")) (Ab (dOp Df (dFn Dn (Ab (dV 0) (Ab (dC (.int 4)) Ad))) (dC (.int 6))) (Ab (dOp Cv (dV 5) (dV 4)) (Ab (dFn Bf (Ab (dFn Bf (Ab (dC (.int 0)) (Ab (dFn Bf Ad) Ad))) Ad)) (Ab (dC .non) Ad)))))))) Ad)) Ad))) (gV 7)) ZDA)
def ZGq:DS:=(Ag (sAs (dOp Df (dFn Dn (Ab (dV 0) (Ab (dC (.int 3)) Ad))) (dV 2)) (gV 6)) Zw)
def ZGN:DS:=(Ag (sAs (dOp Df (dFn Dn (Ab (dV 0) (Ab (dC (.int 2)) Ad))) (dOp Jb (dC (.int 10)) (dC (.int 30)))) (gV 5)) ZGq)
def ZD2:DS:=(Ag (sIf (Ay (dOp Bx (dOp Df (dOp Hj (dV 1) (dC (.int 576))) (dC (.int 2))) (dC (.int 1)))) (sAs (dOp Df (dFn Dn (Ab (dV 0) (Ab (dC (.int 1)) Ad))) (dC (.int 151))) (gV 4)) sNx) ZGN)
def ZCM:DS:=(Ag (sAs (dOp Fl (dOp Dg (dV 3) (dOp Cv (dC (.int 98)) (dOp Df (dOp Hj (dV 1) (dC (.int 48))) (dC (.int 4))))) (dOp Df (dOp Hj (dV 1) (dC (.int 192))) (dV 3))) (gV 4)) ZD2)
def T7:DS:=(Ag (sAs (dOp Cv (dC (.int 1)) (dOp Df (dOp Hj (dV 1) (dC (.int 16))) (dC (.int 3)))) (gV 3)) ZCM)
def ZGZ:DS:=(Ag (sIf (Ay (dOp Bx (dOp Df (dV 1) (dC (.int 4))) (dC (.int 1)))) (sAs (dOp Cv (dC (.int 1)) (dOp Df (dFn Dn (Ab (dV 0) (Ab (dC (.int 6)) Ad))) (dC (.int 24)))) (gV 2)) sNx) T7)
def ZDf:DS:=(Ag (sAs (dC (.int 1)) (gV 2)) ZGZ)
def ZEF:DS:=(Ag (sAs (dFn Dn (Ab (dV 0) (Ab (dC (.int 0)) Ad))) (gV 1)) ZDf)
def M4:List D->DH->R D:=Bb 1 13 ZEF
def Holds:Prop:=∀ns:List Int,ns.length<=63->∃G,M4 [.fl (ns.map D.int)] []=.ok (.bl v5) G
end _W
namespace _W
open PySem _L _D
variable{ns l:List Int}{F fl lv lv':Nat->Int}{m i d j dl w Y M c p:Nat}{G L G':DH}{ds xs:List D}{H LV:D}{pg:Nat->List Int}{S:DSt}{a most yr brim:Int}{α:Type}{co A co':Nat->Nat->Int}{fls fls':List (Nat->Int)}{b:Bool}{s0 s1 s2 s6 s7:Option D}
theorem ZPP:∃b,∀G,Mm [.fl (ns.map D.int)] G=.ok (.bl b) G:=by
 cases ns with
 |nil=>exact⟨v6,λG=>by unfold Mm Ys;rw[Bl];simp[Bv]⟩
 |cons n r=>
  refine⟨decide (n<0)||decide (1000000000000000000<=n),λG=>?_⟩;unfold Mm Ys;rw[Bl];have a0:atI ((n::r).map D.int) 0=vk (.int n):=Ep (k:=0) rfl rfl;by_cases h:n<0
  ·simp[a0,h,Bv]
  ·simp[a0,h,Bv]
noncomputable def offV:Nat->Int->Int
 |0,v=>v
 |n+1,v=>offV n (v/100000000)
theorem ZEd{k:D}{G:DH}:∀(n:Nat)(j:Nat)(v:Int)(x:Option D),∃x',Cj (gV 2) Qn (Dz j n) [vk (.int v),vk k,x] G=.nx [vk (.int (offV n v)),vk k,x'] G
 |0,j,v,x=>⟨x,by rw[ZDZ,Kg];rfl⟩
 |n+1,j,v,x=>by
  obtain⟨x',ih⟩:=ZEd (k:=k) (G:=G) n (j+1) (v/100000000) (vk (.int j));refine⟨x',?_⟩;have hb:Qn [vk (.int v),vk k,vk (.int j)] G=.nx [vk (.int (v/100000000)),vk k,vk (.int j)] G:=by unfold Qn;simp
  rw[ZGu,Ip];simp only[Jm,R.Gb,jH,hb,Ig];have e1:((j:Int)+1)=((j+1:Nat):Int):=by lia
  rw[e1,ih]
  rfl
theorem ZCE{v:Int}{k:Nat}(hk:k<=1000):∃r:Int,(0<=r/\r<100000000)/\∀G,Oc [.int v,.int k] G=.ok (.int r) G:=by
 by_cases h:0<=v/\v<1000000000000000000
 ·let a:=(v+1009*(k:Int)+7)%999999937;let b:=a*a%999999929;refine⟨b*(b+k)%99999989,by lia,λG=>?_⟩;have ha:0<=a/\a<999999937:=by lia
  have hb:0<=b/\b<999999929:=by lia
  unfold Oc Zc;rw[Bl];have m1:Dg (.int a) (.int a)=λG=>R.ok (.int (a*a)) G:=by funext G;exact M6 (by lia) (by lia)
  have m2:Dg (.int b) (.int (b+k))=λG=>R.ok (.int (b*(b+k))) G:=by funext G;exact M6 (by lia) (by lia)
  simp[h.1,h.2]
  rw[show(v+1009*(k:Int)+7)%999999937=a from rfl,m1]
  simp
  rw[show a*a%999999929=b from rfl,m2]
  simp[Bv]
 ·refine⟨offV k v%100000000,by lia,λG=>?_⟩;obtain⟨x',hx⟩:=ZEd (k:=.int k) (G:=G) k 0 v v4;have hx':Cj (gV 2) Qn (Dz 0 k) [vk (.int v),vk (.int k),v4] G=.nx [vk (.int (offV k v)),vk (.int k),x'] G:=hx;unfold Oc Zc;rw[Bl];have hr:inR (k:Int):=Q6 (by lia) (by lia);by_cases h0:0<=v
  ·have h1:¬v<1000000000000000000:=λz=>h ⟨h0,z⟩
   simp[h0,h1,hr,hx',Bv]
  ·simp[h0,hr,hx',Bv]
theorem ZFt(hl:ns.length<=63){k:Nat}(hk:k<=1000):∃v:Int,∀G,Dn [.fl (ns.map D.int),.int k] G=.ok (.int v) G:=by
 obtain⟨b,ht⟩:=ZPP (ns:=ns);have hd:((k:Int)/14)=((k/14:Nat):Int):=by lia
 have hm:((k:Int)%14)=((k%14:Nat):Int):=by lia
 cases b with
 | true=>
  by_cases h:1+k/14<ns.length
  ·obtain⟨r,hr,ho⟩:=ZCE (v:=ns[1+k/14]) (k:=k%14) (by lia);refine⟨r,λG=>?_⟩;unfold Dn Ng;rw[Bl];have a1:atI (ns.map D.int) (1+(k:Int)/14)=vk (.int ns[1+k/14]):=Ep (k:=1+k/14) (by lia) (by rw[z0,zJ h];rfl);have hc:(1+(k:Int)/14)<ns.length:=by lia
   simp[ht,hc,a1];rw[hm,ho];simp[Bv]
  ·obtain⟨r,hr,ho⟩:=ZCE (v:=0) (k:=k%14) (by lia);refine⟨r,λG=>?_⟩;unfold Dn Ng;rw[Bl];have hc:¬(1+(k:Int)/14)<ns.length:=by lia
   simp[ht,hc];rw[hm,ho];simp[Bv]
 | false=>
  by_cases h:k<ns.length
  ·refine⟨ns[k],λG=>?_⟩;unfold Dn Ng;rw[Bl];have a1:atI (ns.map D.int) (k:Int)=vk (.int ns[k]):=Ep (k:=k) rfl (by rw[z0,zJ h];rfl);simp[ht,h,a1,Bv]
  ·have m0:∀G,Dg (.int k) (.int k) G=R.ok (.int ((k:Int)*k)) G:=λG=>M6 (by lia) (by lia)
   by_cases h0:0<ns.length
   ·have hi:k%ns.length<ns.length:=Nat.mod_lt _ h0;refine⟨48271*((k:Int)*k+7*ns.length)%2147483647+ns[k%ns.length]*69621%2147483629,λG=>?_⟩;unfold Dn Ng;rw[Bl];have a1:atI (ns.map D.int) ((k:Int)%ns.length)=vk (.int ns[k%ns.length]):=Ep (k:=k%ns.length) (by simp) (by rw[z0,zJ hi];rfl);simp[ht,h,m0,h0,a1,Bv]
   ·have e:ns=[]:=jq (by lia);subst e;refine⟨48271*((k:Int)*k+7*0)%2147483647,λG=>?_⟩;unfold Dn Ng;rw[Bl];have ht':∀G,Mm [.fl []] G=.ok (.bl v6) G:=ht;have hk0:¬(k:Int)<0:=by lia
    simp[ht',hk0,m0,Bv]
theorem cells(hl:ns.length<=63):∃f:Nat->Int,∀k:Nat,k<=1000->∀G,Dn [.fl (ns.map D.int),.int k] G=.ok (.int (f k)) G:=by refine⟨λk=>if h:k<=1000 then(ZFt hl h).choose else 0,λk hk=>?_⟩;simp only[dif_pos hk];exact(ZFt hl hk).choose_spec
structure Row where
 down:Option Nat
 water:Int
 need:Int
 rank:Int
noncomputable def dnD:Option Nat->D
 |none=>.non
 |some d=>.int d
@[simp]theorem ZCt{n:Nat}{xs:List Int}:bels n (xs.map D.int)=v5:=Gm λr _=>rfl
noncomputable def tab(n:Nat)(F:Nat->Int):List D:=(zq n).map λi=>D.int (F i)
def fset(F:Nat->Int)(d:Nat)(v:Int):Nat->Int:=λi=>if i=d then v else F i
@[simp]theorem ZL3{n:Nat}:(tab n F).length=n:=by simp[tab]
@[simp]theorem ZKM{n:Nat}:bels m (tab n F)=v5:=Gm λ_ _=>rfl
theorem Rr{n:Nat}(h:i<n):(tab n F)[i]?=vk (.int (F i)):=by unfold tab;rw[z0,zF h];rfl
theorem R9{n:Nat}(h:i<n):atI (tab n F) (i:Int)=vk (.int (F i)):=Ep rfl (Rr h)
theorem ZBF{n:Nat}{v:Int}:(tab n F).set d (.int v)=tab n (fset F d v):=by
 refine List.ext_getElem? λi=>?_
 by_cases hi:i<n
 ·by_cases e:d=i
  ·subst e;rw[qN (by simpa using hi),Rr hi];simp[fset]
  ·rw[qk e,Rr hi,Rr hi];have:i≠d:=λz=>e z.symm
   simp[fset,this]
 ·rw[zB (by simp;lia),zB (by simp;lia)]
theorem ZG0{n:Nat}{F':Nat->Int}(h:∀i,i<n->F i=F' i):tab n F=tab n F':=by
 unfold tab;refine qE λi hi=>?_
 rw[h i (qZ.mp hi)]
noncomputable def col(g:Row->Int)(rs:List Row)(i:Nat):Int:=match rs[i]? with
 |some r=>g r
 |none=>0
def dnOf(rs:List Row)(i:Nat):Option Nat:=rs[i]?.bind Row.down
theorem ZCq{A:DO}(h:bels (G.length+1) ds=v5):tidy (G++[A]) (.ok (.ref (G.length+1)) (G++A:: .lst ds::L))=.ok (.ref (G.length+1)) (G++[A,.lst ds]):=by have:=Hy (G:=G++[A]) (ds:=ds) (L:=L) (by simpa using h);simpa using this
def wayF(rs:List Row):Nat->Nat->List Nat
 |0,k=>[k]
 |m+1,k=>k::(match dnOf rs k with
  |none=>[]
  |some d=>wayF rs m d)
def way(rs:List Row)(k:Nat):List Nat:=wayF rs rs.length k
def Py(rs:List Row)(k:Nat):D:=.tup [.int (col Row.rank rs k),.int k]
noncomputable def pD(P:Nat->Int)(ws:List Nat):List D:=ws.map λi=>D.int (P i)
theorem rp:¬(("pump":Str)="river"):=by decide
structure Stp where
 h:Int
 m:Int
 r:Bool
def wy(r:Bool):Str:=if r then "river" else "pump"
def Stp.enc(s:Stp):D:=.tup [.int s.h,.int s.m,.str (wy s.r)]
@[simp]theorem ZQm{n:Nat}{st:List Stp}:bels n (st.map Stp.enc)=v5:=Gm λs _=>by simp[Stp.enc]
@[simp]theorem ZRB{r:Bool}:(wy r="river")=(r=v5):=by
 cases r
 ·exact propext ⟨λh=>absurd h rp,λh=>by cases h⟩
 ·exact propext ⟨λh=>rfl,λ_=>rfl⟩
noncomputable abbrev Ssn:=Int×List Stp
def Ny(s:Ssn):D:=.tup [.int s.1,.tup (s.2.map Stp.enc)]
def held(t:Int):List Ssn->List Stp->List Stp
 |[],h=>h
 |s::r,h=>held t r (if s.1<=t then s.2 else h)
theorem ZDg{c:D}{t:Int}{G:DH}:∀{ss:List Ssn}{h:List Stp}{a b:Option D},∃a' b',Cj (Bc 2 (Ai (gV 3) (Ai (gV 4) Bd))) Uk (ss.map Ny) [vk c,vk (.int t),vk (.tup (h.map Stp.enc)),a,b] G=
  .nx [vk c,vk (.int t),vk (.tup ((held t ss h).map Stp.enc)),a',b'] G
 |[],h,a,b=>⟨a,b,by rw[jy,Kg];rfl⟩
 | s::r,h,a,b=>by
  obtain⟨a',b',ih⟩:=ZDg (c:=c) (t:=t) (G:=G) (ss:=r) (h:=if s.1<=t then s.2 else h) (a:=vk (.int s.1)) (b:=vk (.tup (s.2.map Stp.enc)));refine⟨a',b',?_⟩;have hb:Uk [vk c,vk (.int t),vk (.tup (h.map Stp.enc)),vk (.int s.1),vk (.tup (s.2.map Stp.enc))] G=.nx [vk c,vk (.int t),vk (.tup ((if s.1<=t then s.2 else h).map Stp.enc)),vk (.int s.1),vk (.tup (s.2.map Stp.enc))] G:=by
   unfold Uk
   by_cases h1:s.1<=t<;>simp[h1]
  rw[zk,Ip];simp only[Ny,Um,Ti,Vw,Jm,R.Hl,R.Gb,jH,hb,Ig,zO,qU,Nat.reduceAdd,if_true];exact ih
theorem c_at{ss:List Ssn}{t:Int}:Tf [.tup (ss.map Ny),.int t] G=.ok (.tup ((held t ss []).map Stp.enc)) G:=by obtain⟨a,b,h⟩:=ZDg (c:=.tup (ss.map Ny)) (t:=t) (G:=G) (ss:=ss) (h:=[]) (a:=v4) (b:=v4);unfold Tf ZCo;rw[Bl];simp at h;simp[h,Bv]
noncomputable def cub(w:Int)(s:Stp):Int:=max 0 (min s.m (w-s.h))
def rv(w:Int):List Stp->Int
 |[]=>0
 |s::r=>(if s.r then cub w s else 0)+rv w r
def pm(w:Int):List Stp->Int
 |[]=>0
 |s::r=>(if s.r then 0 else cub w s)+pm w r
theorem ZFo{c:D}{w:Int}{G:DH}:∀{st:List Stp}{a b:Int}{e f g h:Option D},∃e' f' g' h',Cj (Bc 3 (Ai (gV 4) (Ai (gV 5) (Ai (gV 6) Bd)))) Uc (st.map Stp.enc) [vk c,vk (.int w),vk (.int a),vk (.int b),e,f,g,h] G=
  .nx [vk c,vk (.int w),vk (.int (a+rv w st)),vk (.int (b+pm w st)),e',f',g',h'] G
 |[],a,b,e,f,g,h=>⟨e,f,g,h,by simp[Kg,rv,pm]⟩
 | s::r,a,b,e,f,g,h=>by
  obtain⟨e',f',g',h',ih⟩:=ZFo (c:=c) (w:=w) (G:=G) (st:=r) (a:=a+(if s.r then cub w s else 0)) (b:=b+(if s.r then 0 else cub w s)) (e:=vk (.int s.h)) (f:=vk (.int s.m)) (g:=vk (.str (wy s.r))) (h:=vk (.int (cub w s)));refine⟨e',f',g',h',?_⟩;have hb:Uc [vk c,vk (.int w),vk (.int a),vk (.int b),vk (.int s.h),vk (.int s.m),vk (.str (wy s.r)),h] G=.nx [vk c,vk (.int w),vk (.int (a+(if s.r then cub w s else 0))),vk (.int (b+(if s.r then 0 else cub w s))),vk (.int s.h),vk (.int s.m),vk (.str (wy s.r)),vk (.int (cub w s))] G:=by
   unfold Uc cub
   cases s.r<;>simp
  rw[zk,Ip];simp[Stp.enc,hb];rw[ih];simp[rv,pm,Int.add_assoc]
theorem ZFi{st:List Stp}{w:Int}:Vk [.tup (st.map Stp.enc),.int w] G=.ok (.tup [.int (rv w st),.int (pm w st),.int (w-rv w st-pm w st)]) G:=by obtain⟨e,f,g,h,hl⟩:=ZFo (c:=.tup (st.map Stp.enc)) (w:=w) (G:=G) (st:=st) (a:=0) (b:=0) (e:=v4) (f:=v4) (g:=v4) (h:=v4);unfold Vk ZEf;rw[Bl];simp at hl;simp[hl,Bv]
inductive Kd where
 |basin (brim:Int) (rule:List Ssn) (pump:Option (Nat×Nat×Int))
 |town (need rank:Int)
 |mill (most:Int)
structure Pl where
 nm:Str
 dn:Option Nat
 dl:Nat
 kd:Kd
noncomputable def noPl:Pl:=⟨"",v4,0,.mill 0⟩
structure Hs where
 yr:Int
 ps:List Pl
variable{h:Hs}
noncomputable def Kd.txt:Kd->Str
 |.basin ..=>"basin"
 |.town ..=>"town"
 |.mill ..=>"mill"
noncomputable def Kd.isB:Kd->Bool
 |.basin ..=>v5
 |_=>v6
def Hs.pl(h:Hs)(k:Nat):Pl:=h.ps.getD k noPl
noncomputable def Hs.n(h:Hs):Nat:=h.ps.length
def Hs.dnT(h:Hs):Option Nat->Str
 |none=>"sea"
 |some d=>(h.pl d).nm
def Hs.Wn(h:Hs):Option (Nat×Nat×Int)->D
 |none=>.non
 |some (to,dl,m)=>.tup [.str (h.pl to).nm,.int dl,.int m]
def Hs.encP(h:Hs)(p:Pl):D:=match p.kd with
 |.basin b r q=>.tup [.str "basin",.str p.nm,.str (h.dnT p.dn),.int p.dl,.int b,.tup (r.map Ny),h.Wn q]
 |.town a b=>.tup [.str "town",.str p.nm,.str (h.dnT p.dn),.int p.dl,.int a,.int b]
 |.mill a=>.tup [.str "mill",.str p.nm,.str (h.dnT p.dn),.int p.dl,.int a]
def Hs.Ib(h:Hs):List D:=h.ps.map h.encP
def Hs.enc(h:Hs):D:=.tup [.int h.yr,.tup h.Ib]
def Good:Int->List Stp->Prop
 |_,[]=>True
 |t,s::r=>t<=s.h/\1<=s.m/\Good (s.h+s.m) r
structure GoodH (h:Hs):Prop where
 yr:0<h.yr
 len:h.n<=12
 inj:∀i j,i<h.n->j<h.n->(h.pl i).nm=(h.pl j).nm->i=j
 sea:∀i,i<h.n->(h.pl i).nm≠"sea"
 dn:∀k d,k<h.n->(h.pl k).dn=vk d->k<d/\d<h.n
 dl:∀k,k<h.n->(h.pl k).dl<=5
 pump:∀k b r to dl m,k<h.n->(h.pl k).kd=.basin b r (vk (to,dl,m))->to<h.n/\1<=dl/\dl<=5
 brim:∀k b r q,k<h.n->(h.pl k).kd=.basin b r q->0<=b/\∀s∈r,Good 0 s.2
 town:∀k a b,k<h.n->(h.pl k).kd=.town a b->0<=a/\0<=b
theorem Hs.T3:h.Ib.length=h.n:=by simp[Hs.Ib,Hs.n]
theorem Hs.ZDI{k:Nat}(hk:k<h.n):h.Ib[k]?=vk (h.encP (h.pl k)):=by unfold Hs.Ib Hs.pl;rw[z0,zJ hk];simp[zE,zJ hk]
theorem Hs.Gj{k:Nat}(hk:k<h.n):atI h.Ib (k:Int)=vk (h.encP (h.pl k)):=Ep rfl (Hs.ZDI hk)
section
variable{h:Hs}{p:Pl}{G:DH}
@[simp]theorem encP0:Ak (h.encP p) (.int 0) G=.ok (.str p.kd.txt) G:=by
 unfold Hs.encP
 cases p.kd<;>simp[Kd.txt]
@[simp]theorem encP1:Ak (h.encP p) (.int 1) G=.ok (.str p.nm) G:=by
 unfold Hs.encP
 cases p.kd<;>simp
@[simp]theorem encP2:Ak (h.encP p) (.int 2) G=.ok (.str (h.dnT p.dn)) G:=by
 unfold Hs.encP
 cases p.kd<;>simp
@[simp]theorem encP3:Ak (h.encP p) (.int 3) G=.ok (.int p.dl) G:=by
 unfold Hs.encP
 cases p.kd<;>simp
theorem Fe:Ak h.enc (.int 1) G=.ok (.tup h.Ib) G:=by unfold Hs.enc;simp
theorem Wc:Ak h.enc (.int 0) G=.ok (.int h.yr) G:=by unfold Hs.enc;simp
theorem Wu{k:Kd}:(k.txt="basin")=(k.isB=v5):=by cases k<;>simp[Kd.txt,Kd.isB]<;>decide
end
theorem ZFT(g:GoodH h)(hd:d<h.n):∀(m k:Nat)(a b:Option D),k+m=d->
  Cj (Bc 2 (Ai (gV 2) (Ai (gV 3) Bd))) O7 ((Em h.Ib).drop k) [vk h.enc,vk (.str (h.pl d).nm),a,b] G=.rt (.int d) G
 | m,k,a,b,e=>by
  have hk:k<h.n:=by lia
  have e0:(Em h.Ib).drop k=.tup [.int k,h.encP (h.pl k)]::(Em h.Ib).drop (k+1):=by rw[zP (by rw[Nz,Hs.T3];exact hk)];have:=Hs.ZDI hk;rw[zJ (by rw[Hs.T3];exact hk)]at this;have e2:=Option.some.inj this;simp[Em,e2]
  rw[e0,Ip];cases m with
  |zero=>
   have e1:k=d:=by lia
   subst e1;have hb:O7 [vk h.enc,vk (.str (h.pl k).nm),vk (.int k),vk (h.encP (h.pl k))] G=.rt (.int k) G:=by unfold O7;simp
   simp[hb]
  |succ m=>
   have hne:(h.pl k).nm≠(h.pl d).nm:=λz=>by have:=g.inj k d hk hd z;lia
   have hb:O7 [vk h.enc,vk (.str (h.pl d).nm),vk (.int k),vk (h.encP (h.pl k))] G=.nx [vk h.enc,vk (.str (h.pl d).nm),vk (.int k),vk (h.encP (h.pl k))] G:=by unfold O7;simp[hne]
   simp[hb];exact ZFT g hd m (k+1) _ _ (by lia)
theorem ZEa(g:GoodH h)(hd:d<h.n)(G:DH):Oz [h.enc,.str (h.pl d).nm] G=.ok (.int d) G:=by have hL:=ZFT g hd (G:=G) d 0 v4 v4 (by lia);rw[List.drop_zero]at hL;unfold Oz ZCC;rw[Bl];simp[Fe,Gg,Ko,lenOf,hL,Bv]
def Hs.dn(h:Hs)(k:Nat):Option Nat:=(h.pl k).dn
theorem Kr(g:GoodH h){k:Nat}(hk:k<h.n)(G:DH):R6 [h.enc,.int k] G=.ok (dnD (h.dn k)) G:=by
 unfold R6 ZCy;rw[Bl];cases hd:h.dn k with
 |none=>
  have e:(h.pl k).dn=v4:=hd;simp[Fe,Hs.Gj hk,e,Hs.dnT,dnD,Bv]
 |some d=>
  have e:(h.pl k).dn=vk d:=hd;have hl:=g.dn k d hk e;simp[Fe,Hs.Gj hk,e,Hs.dnT,g.sea d hl.2,ZEa g hl.2,dnD,Bv]
def Hs.dir(h:Hs)(k:Nat):Option Nat:=match h.dn k with
 |none=>v4
 |some d=>if 0<(h.pl k).dl∨(h.pl k).kd.isB=v5∨(h.pl d).kd.isB=v5 then v4 else vk d
theorem ZD1(g:GoodH h){k:Nat}(hk:k<h.n)(G:DH):Q5 [h.enc,.int k] G=.ok (dnD (h.dir k)) G:=by
 unfold Q5 ZGl;rw[Bl];cases hd:h.dn k with
 |none=>simp[Fe,Kr g hk,hd,Hs.dir,dnD,Bv]
 | some d=>
  have hl:=g.dn k d hk hd;by_cases h1:0<(h.pl k).dl
  ·simp[Fe,Kr g hk,hd,Hs.dir,dnD,Bv,Hs.Gj hk,h1]
  ·by_cases h2:(h.pl k).kd.isB=v5
   ·simp[Fe,Kr g hk,hd,Hs.dir,dnD,Bv,Hs.Gj hk,h1,Wu,h2]
   ·by_cases h3:(h.pl d).kd.isB=v5
    ·simp[Fe,Kr g hk,hd,Hs.dir,dnD,Bv,Hs.Gj hk,Hs.Gj hl.2,h1,Wu,h2,h3]
    ·simp[Fe,Kr g hk,hd,Hs.dir,dnD,Bv,Hs.Gj hk,Hs.Gj hl.2,h1,Wu,h2,h3]
theorem ZME(g:GoodH h){k:Nat}(hk:k<h.n)(e:h.dir k=vk d):k<d/\d<h.n:=by
 unfold Hs.dir at e;cases hd:h.dn k with
 |none=>rw[hd]at e;cases e
 |some d'=>
  rw[hd]at e;simp only at e;split at e
  ·cases e
  ·cases e;exact g.dn k d hk hd
theorem ZIt{k:Nat}(hk:¬k<h.n):h.pl k=noPl:=by
 unfold Hs.pl;rw[zE,zB (by unfold Hs.n at hk;lia)]
 rfl
theorem ZBp{k:Nat}(hk:¬k<h.n):h.dir k=v4:=by
 have e:h.dn k=v4:=by unfold Hs.dn;rw[ZIt hk];rfl
 unfold Hs.dir;rw[e]
theorem ZFg(g:GoodH h){k:Nat}(e:h.dir k=vk d):k<d/\d<h.n/\k<h.n:=by
 by_cases hk:k<h.n
 ·have:=ZME g hk e;lia
 ·rw[ZBp hk]at e;cases e
def Hs.Hx(h:Hs):Nat->Nat->Nat
 |0,k=>k
 |m+1,k=>match h.dir k with
  |none=>k
  |some d=>h.Hx m d
def Hs.last(h:Hs)(k:Nat):Nat:=h.Hx h.n k
theorem Za(g:GoodH h):∀(m m' k:Nat),h.n<=m+k->h.n<=m'+k->h.Hx m k=h.Hx m' k
 |0,m',k,e,e'=>by
  have hn:h.dir k=v4:=ZBp (by lia);cases m' with
  |zero=>rfl
  |succ m'=>simp[Hs.Hx,hn]
 |m+1,0,k,e,e'=>by have hn:h.dir k=v4:=ZBp (by lia);simp[Hs.Hx,hn]
 | m+1,m'+1,k,e,e'=>by
  cases hd:h.dir k with
  |none=>simp[Hs.Hx,hd]
  |some d=>
   have:=ZFg g hd;simp[Hs.Hx,hd,Za g m m' d (by lia) (by lia)]
theorem ZPd(g:GoodH h){k:Nat}(e:h.dir k=v4):h.last k=k:=by unfold Hs.last;rw[Za g h.n (h.n+1) k (by lia) (by lia)];simp[Hs.Hx,e]
theorem ZNc(g:GoodH h){k:Nat}(e:h.dir k=vk d):h.last k=h.last d:=by unfold Hs.last;rw[Za g h.n (h.n+1) k (by lia) (by lia)];simp[Hs.Hx,e]
def Hs.Fd(h:Hs)(j:Nat):Nat->Int:=λi=>if j<=i then h.last i else i
theorem ZGS(g:GoodH h){G:DH}:∀(j:Nat)(x y:Option D),j<=h.n->∃x' y',
  Cj (gV 2) Sg (Iu ((j:Int)-1) j) [vk h.enc,vk (.ref G.length),x,y] (G++[.lst (tab h.n (h.Fd j))])=.nx [vk h.enc,vk (.ref G.length),x',y'] (G++[.lst (tab h.n (h.Fd 0))])
 |0,x,y,e=>⟨x,y,by rw[ZKT,Kg]⟩
 | j + 1,x,y,e=>by
  have hj:j<h.n:=by lia
  obtain⟨x',y',ih⟩:=ZGS g (G:=G) j (vk (.int j)) (vk (dnD (h.dir j))) (by lia);refine⟨x',y',?_⟩;have e1:(((j+1:Nat):Int)-1)=j:=by lia
  have hb:Sg [vk h.enc,vk (.ref G.length),vk (.int j),y] (G++[.lst (tab h.n (h.Fd (j+1)))])=.nx [vk h.enc,vk (.ref G.length),vk (.int j),vk (dnD (h.dir j))] (G++[.lst (tab h.n (h.Fd j))]):=by
   unfold Sg;cases hd:h.dir j with
   | none=>
    have et:tab h.n (h.Fd (j+1))=tab h.n (h.Fd j):=ZG0 λi hi=>by
     unfold Hs.Fd;by_cases e2:i=j
     ·subst e2;rw[ZPd g hd];simp
     ·by_cases e3:j<=i
      ·rw[if_pos e3,if_pos (by lia)]
      ·rw[if_neg e3,if_neg (by lia)]
    simp[ZD1 g hj,hd,dnD,et]
   | some d=>
    have hl:=ZFg g hd;have et:tab h.n (fset (h.Fd (j+1)) j (h.Fd (j+1) d))=tab h.n (h.Fd j):=ZG0 λi hi=>by
     unfold Hs.Fd fset;by_cases e2:i=j
     ·subst e2;rw[if_pos rfl,if_pos (by lia),if_pos (by lia),ZNc g hd]
     ·rw[if_neg e2];dsimp only;by_cases e3:j<=i
      ·rw[if_pos e3,if_pos (by lia)]
      ·rw[if_neg e3,if_neg (by lia)]
    simp[ZD1 g hj,hd,dnD,Hz,R9 hl.2.1,Va,Mt,hj,ZBF,et]
  rw[e1,ZP4,Ip];simp only[Jm,R.Gb,jH,hb,Ig];exact ih
theorem ZNU(g:GoodH h)(G:DH):Wk [h.enc] G=.ok (.ref G.length) (G++[.lst (tab h.n λi=>(h.last i:Int))]):=by
 obtain⟨x',y',hL⟩:=ZGS g (G:=G) h.n v4 v4 (zY _);have e0:tab h.n (h.Fd h.n)=Dz 0 h.n:=by
  unfold tab Dz;refine qE λi hi=>?_
  have:=qZ.mp hi;unfold Hs.Fd;rw[if_neg (by lia)];simp
 have e1:h.Fd 0=λi=>(h.last i:Int):=by funext i;unfold Hs.Fd;simp
 rw[e0,e1]at hL;have hn:=g.len;have r1:inR (h.n:Int):=Q6 (by lia) (by lia);have r2:inR ((h.n:Int)-1):=Q6 (by lia) (by lia);have r3:inR (-1):=Q6 (by lia) (by lia);have e2:((h.n:Int)-1 - -1).toNat=h.n:=by lia
 have h6:(h.n:Int)<=1000000:=by lia
 have ebr:bels G.length (Dz 0 h.n)=v5:=Gm λ_ _=>rfl
 unfold Wk ZCe;rw[Bl];simp[Fe,Hs.T3,r1,h6,Hy ebr,r2,r3,ZIQ,e2,hL,Hy]
structure Cs where
 came:Nat->Int
 coming:Nat->Nat->Int
 page:Nat->List Int
 rea:List D
variable{s:Cs}
noncomputable def Ii(l:List Int):D:=match l with
 |[]=>.non
 |_=>.tup (l.map D.int)
@[simp]theorem ZNa{n:Nat}:bel n (Ii l)=v5:=by
 cases l with
 |nil=>rfl
 |cons a l=>simp only[Ii,_D.bel];exact ZCt
noncomputable def cfl(ds:List D):List (Str×D):=(["house","levels","year_turn","came","coming","page","reaches"]:List Str).zip ds
def cflds(i n:Nat)(H LV:D)(yt:Int):List (Str×D):=cfl [H,LV,.int yt,.ref (i+1),.ref (i+(2+n)),.ref (i+(3+n)),.ref (i+(4+n))]
def Cd(n:Nat)(pg:Nat->List Int):List D:=(zq n).map λk=>Ii (pg k)
def Cy(i n:Nat):List D:=(zq n).map λk=>D.ref (i+(2+k))
def csT(i n:Nat)(H LV:D)(yt:Int)(s:Cs):DH:=.ins "Course" (cflds i n H LV yt):: .lst (tab n s.came)::((zq n).map (λk=>DO.lst (tab 5 (s.coming k)))++[.lst (Cy i n),.lst (Cd n s.page),.lst s.rea])
def csH(G:DH)(n:Nat)(H LV:D)(yt:Int)(s:Cs):DH:=G++csT G.length n H LV yt s
theorem ZOm{n:Nat}{yt:Int}:(csT i n H LV yt s).length=n+5:=by simp[csT]
theorem ZFC{n:Nat}{yt:Int}:(csH G n H LV yt s).length=G.length+(n+5):=by unfold csH;rw[zH,ZOm]
section
variable{G:DH}{n:Nat}{H LV:D}{yt:Int}{s:Cs}
theorem Qf(j:Nat):(csH G n H LV yt s)[G.length+j]?=(csT G.length n H LV yt s)[j]? :=Tv _ j
theorem Jh:(csH G n H LV yt s)[G.length]?=vk (.ins "Course" (cflds G.length n H LV yt)):=Qf 0
theorem Vn:(csH G n H LV yt s)[G.length+1]?=vk (.lst (tab n s.came)):=Qf 1
theorem Y9:(csT i n H LV yt s)[2+j]?=((zq n).map (λk=>DO.lst (tab 5 (s.coming k)))++[.lst (Cy i n),.lst (Cd n s.page),.lst s.rea])[j]? :=by
 have e:2+j=j+1+1:=by lia
 rw[e]
 rfl
theorem Zu{k:Nat}(hk:k<n):(csH G n H LV yt s)[G.length+(2+k)]?=vk (.lst (tab 5 (s.coming k))):=by
 rw[Qf,Y9,zL (by simpa using hk),z0,zF hk]
 rfl
theorem Wg:(csH G n H LV yt s)[G.length+(2+n)]?=vk (.lst (Cy G.length n)):=by rw[Qf,Y9,zC (by simp)];simp
theorem Mx:(csH G n H LV yt s)[G.length+(3+n)]?=vk (.lst (Cd n s.page)):=by
 have e:3+n=2+(n+1):=by lia
 rw[e,Qf,Y9,zC (by simp)];simp
theorem ZBi(j:Nat)(o:DO):(csH G n H LV yt s).set (G.length+j) o=G++(csT G.length n H LV yt s).set j o:=ZAv _ j o
theorem csS1{ca:Nat->Int}:(csH G n H LV yt s).set (G.length+1) (.lst (tab n ca))=csH G n H LV yt {s with came:=ca}:=ZBi 1 _
def upd2(co:Nat->Nat->Int)(k:Nat)(r:Nat->Int):Nat->Nat->Int:=λi=>if i=k then r else co i
theorem ZCN{o:DO}:(csT i n H LV yt s).set (2+j) o=.ins "Course" (cflds i n H LV yt):: .lst (tab n s.came)::((zq n).map (λk=>DO.lst (tab 5 (s.coming k)))++[DO.lst (Cy i n),DO.lst (Cd n s.page),DO.lst s.rea]).set j o:=by
 have e:2+j=j+1+1:=by lia
 rw[e]
 rfl
theorem csSr{k:Nat}(hk:k<n){r:Nat->Int}:(csH G n H LV yt s).set (G.length+(2+k)) (.lst (tab 5 r))=csH G n H LV yt {s with coming:=upd2 s.coming k r}:=by
 rw[ZBi,ZCN,List.set_append_left _ _ (by simpa using hk)];unfold csH csT
 congr 3
 congr 1
 refine List.ext_getElem? λi=>?_
 by_cases hi:i<n
 ·by_cases e:k=i
  ·subst e;rw[qN (by simpa using hi),z0,zF hi];simp[upd2]
  ·rw[qk e,z0,zF hi,z0,zF hi];have:i≠k:=λz=>e z.symm
   simp[upd2,this]
 ·rw[zB (by simp;lia),zB (by simp;lia)]
theorem csSp:(csH G n H LV yt s).set (G.length+(3+n)) (.lst (Cd n pg))=csH G n H LV yt {s with page:=pg}:=by
 have e:3+n=2+(n+1):=by lia
 rw[e,ZBi,ZCN,List.set_append_right _ _ (by simp)];unfold csH csT;simp
theorem O5:Iw "Course" "house" (.ref G.length) (csH G n H LV yt s)=.ok H (csH G n H LV yt s):=Mi Jh rfl
theorem ZG9:Iw "Course" "levels" (.ref G.length) (csH G n H LV yt s)=.ok LV (csH G n H LV yt s):=Mi Jh rfl
theorem ZEr:Iw "Course" "year_turn" (.ref G.length) (csH G n H LV yt s)=.ok (.int yt) (csH G n H LV yt s):=Mi Jh rfl
theorem Yo:Iw "Course" "came" (.ref G.length) (csH G n H LV yt s)=.ok (.ref (G.length+1)) (csH G n H LV yt s):=Mi Jh rfl
theorem ZDW:Iw "Course" "coming" (.ref G.length) (csH G n H LV yt s)=.ok (.ref (G.length+(2+n))) (csH G n H LV yt s):=Mi Jh rfl
theorem Vl:Iw "Course" "page" (.ref G.length) (csH G n H LV yt s)=.ok (.ref (G.length+(3+n))) (csH G n H LV yt s):=Mi Jh rfl
theorem Kz{m:Str}{F:List D->DH->R D}{t:DA}(hm:∀i,(cflds i n H LV yt).lookup m=v4):T4 "Course" m F t S (.ref G.length) (csH G n H LV yt s)=(t S (csH G n H LV yt s)).bind λds G2=>F (.ref G.length::ds) G2:=ZMR Jh (hm _)
theorem ZC0:∀i,(cflds i n H LV yt).lookup ("send":Str)=v4:=λ_=>rfl
theorem ZD0:∀i,(cflds i n H LV yt).lookup ("send_down":Str)=v4:=λ_=>rfl
theorem ZO1:∀i,(cflds i n H LV yt).lookup ("go_basin":Str)=v4:=λ_=>rfl
theorem ZOM:∀i,(cflds i n H LV yt).lookup ("go":Str)=v4:=λ_=>rfl
theorem ZPx:∀i,(cflds i n H LV yt).lookup ("state_behind":Str)=v4:=λ_=>rfl
theorem K7{s':Cs}{d:D}(hb:∀m,bel m d=v5):tidy (csH G n H LV yt s) (.ok d (csH G n H LV yt s'))=.ok d (csH G n H LV yt s'):=ZJ2 (by rw[ZFC,ZFC]) (hb _)
theorem ZPL{k:Nat}(hk:k<n):atI (Cy i n) (k:Int)=vk (.ref (i+(2+k))):=Ep rfl (by unfold Cy;rw[z0,zF hk];rfl)
theorem ZIa{k:Nat}:(Cd n pg).set k (Ii l)=Cd n λi=>if i=k then l else pg i:=by
 unfold Cd;refine List.ext_getElem? λi=>?_
 by_cases hi:i<n
 ·by_cases e:k=i
  ·subst e;rw[qN (by simpa using hi),z0,zF hi];simp
  ·rw[qk e,z0,zF hi,z0,zF hi];have:i≠k:=λz=>e z.symm
   simp[this]
 ·rw[zB (by simp;lia),zB (by simp;lia)]
@[simp]theorem ZMi:(Cd n pg).length=n:=by simp[Cd]
def Cs.send(s:Cs)(to dl:Nat)(c:Int):Cs:=if dl=0 then{s with came:=fset s.came to (s.came to+c)}else{s with coming:=upd2 s.coming to (fset (s.coming to) (dl-1) (s.coming to (dl-1)+c))}
theorem ZGJ{to:Nat}{c:Int}(ht:to<n)(hd:dl<=5):Qo [.ref G.length,.int to,.int dl,.int c] (csH G n H LV yt s)=.ok .non (csH G n H LV yt (s.send to dl c)):=by
 unfold Qo ZCT;rw[Bl];by_cases h0:dl=0
 ·subst h0;simp[Yo,ZGn Vn (R9 ht),Vn,Mt,ht,ZBF,csS1,Cs.send,K7]
 ·have e:((dl:Int)-1)=((dl-1:Nat):Int):=by lia
  have h1:dl-1<5:=by lia
  simp[h0,ZDW,Wg,ZPL ht,e,ZGn (Zu ht) (R9 h1),Zu ht,Mt,h1,ZBF,csSr ht,Cs.send,K7]
end
def Hs.Ss(h:Hs)(s:Cs)(k:Nat)(c:Int):Cs:=match h.dn k with
 |none=>s
 |some d=>s.send d (h.pl k).dl c
section
variable{G:DH}{h:Hs}{lv:Nat->Int}{yt:Int}{s:Cs}
theorem ZGR(g:GoodH h){k:Nat}(hk:k<h.n){c:Int}:Q7 [.ref G.length,.int k,.int c] (csH G h.n h.enc LV yt s)=.ok .non (csH G h.n h.enc LV yt (h.Ss s k c)):=by
 unfold Q7 ZF4;rw[Bl];cases hd:h.dn k with
 |none=>simp[O5,Kr g hk,hd,dnD,Hs.Ss,K7]
 |some d=>
  have hl:=g.dn k d hk hd;simp[O5,Kr g hk,hd,dnD,Kz ZC0,Fe,Hs.Gj hk,ZGJ hl.2 (g.dl k hk),Hs.Ss,K7]
theorem ZEm{n:Nat}{k:Nat}{b c d e f:Int}:(Cd n pg).set k (.tup [.int a,.int b,.int c,.int d,.int e,.int f])=Cd n λi=>if i=k then[a,b,c,d,e,f]else pg i:=ZIa (l:=[a,b,c,d,e,f])
def Hs.basin(h:Hs)(yt:Int)(lv:Nat->Int)(s:Cs)(k:Nat):Cs:=match(h.pl k).kd with
 |.basin brim rule pump=>
  let w:=lv k+s.came k;let st:=held yt rule [];let stays:=w-rv w st-pm w st;let lies:=min stays brim;let s1:Cs:={s with page:=λi=>if i=k then[s.came k,0,stays-lies,rv w st,pm w st,lies]else s.page i};let s2:=h.Ss s1 k (rv w st+(stays-lies))
  match pump with
  |none=>s2
  |some (to,dl,_)=>s2.send to dl (pm w st)
 |_=>s
theorem ZOu(g:GoodH h){k:Nat}(hk:k<h.n)(hB:(h.pl k).kd.isB=v5):Rz [.ref G.length,.int k] (csH G h.n h.enc (.tup (tab h.n lv)) yt s)=.ok .non (csH G h.n h.enc (.tup (tab h.n lv)) yt (h.basin yt lv s k)):=by
 obtain⟨brim,rule,pump,ek⟩:∃a b c,(h.pl k).kd=.basin a b c:=by
  cases e:(h.pl k).kd with
  |basin a b c=>exact⟨a,b,c,rfl⟩
  |town _ _=>rw[e]at hB;cases hB
  |mill _=>rw[e]at hB;cases hB
 have e4:∀G',Ak (h.encP (h.pl k)) (.int 4) G'=.ok (.int brim) G':=λG'=>by unfold Hs.encP;rw[ek];simp
 have e5:∀G',Ak (h.encP (h.pl k)) (.int 5) G'=.ok (.tup (rule.map Ny)) G':=λG'=>by unfold Hs.encP;rw[ek];simp
 have e6:∀G',Ak (h.encP (h.pl k)) (.int 6) G'=.ok (h.Wn pump) G':=λG'=>by unfold Hs.encP;rw[ek];simp
 simp only[Hs.basin,ek];unfold Rz ZEq;rw[Bl];cases hp:pump with
 |none=>simp[O5,Fe,Hs.Gj hk,Yo,Vn,R9 hk,e5,ZEr,c_at,ZG9,ZFi,e4,Bf,Vl,Mx,Mt,hk,ZEm,csSp,Kz ZD0,ZGR g hk,e6,hp,Hs.Wn,K7]
 |some q=>
  obtain⟨to,dl,mo⟩:=q;have hl:=g.pump k brim rule to dl mo hk (by rw[ek,hp]);simp[O5,Fe,Hs.Gj hk,Yo,Vn,R9 hk,e5,ZEr,c_at,ZG9,ZFi,e4,Bf,Vl,Mx,Mt,hk,ZEm,csSp,Kz ZD0,ZGR g hk,e6,hp,Hs.Wn,Kz ZC0,ZEa g hl.1,ZGJ hl.1 hl.2.2,K7]
end
noncomputable def z3(ms:List Nat)(T L:Nat->Int):List D:=(zq ms.length).map λi=>D.tup [.int (ms.getD i 0:Nat),.int (T i),.int (L i)]
section
variable{G:DH}{h:Hs}{LV:D}{yt:Int}
theorem ZB6{n:Nat}(hb:∀m,bels m ds=v5):freeze (csH G n H LV yt s) (.ok (.ref (csH G n H LV yt s).length) (csH G n H LV yt s++[.lst ds]))=.ok (.fl ds) (csH G n H LV yt s):=Ir (hb _)
end
section
variable{h:Hs}{yt:Int}{lv:Nat->Int}{s:Cs}
end
section
variable{G:DH}{h:Hs}{yt:Int}{lv:Nat->Int}
theorem ZBe{β:Type}{f f':α->Option β}:∀{l:List α},(∀x∈l,f x=f' x)->l.filterMap f=l.filterMap f'
 |[],_=>rfl
 |x::l,hl=>by rw[qJ,qJ,hl x zW,ZBe λy hy=>hl y (zZ _ hy)]
end
def Dl(n:Nat)(co:Nat->Nat->Int):List D:=(zq n).map λk=>D.tup (tab 5 (co k))
def stD(n:Nat)(lv:Nat->Int)(co:Nat->Nat->Int):D:=.tup [.tup (tab n lv),.tup (Dl n co)]
@[simp]theorem ZQ5{n:Nat}:bels m (Dl n co)=v5:=Gm λk _=>by simp[ZKM]
@[simp]theorem ZLT{n:Nat}:bels m (Cd n pg)=v5:=Gm λk _=>ZNa
@[simp]theorem ZRC{n:Nat}:(Dl n co).length=n:=by simp[Dl]
def J1(co:Nat->Nat->Int):Nat->Nat->Int:=λk j=>if j<4 then co k (j+1)else 0
def cs0(co:Nat->Nat->Int)(fl:Nat->Int):Cs:=⟨λk=>fl k+co k 0,J1 co,λ_=>[],[]⟩
theorem tab5:tab 5 F=[.int (F 0),.int (F 1),.int (F 2),.int (F 3),.int (F 4)]:=rfl
theorem Kp{c f:Str}{fs:List (Str×D)}{d:D}(hl:fs.length<1000):Mh c f (.ref G.length) d S (G++ .ins c fs::L)=.nx S (G++ .ins c (Ez f d fs)::L):=by
 rw[ZPg (fs:=fs) (by rw[Hz];rfl) hl,Va]
 rfl
theorem ZO6{n:Nat}(G:DH):Cw (Gz [.tup (tab n fl),.tup (Dl n co)]) (Bc 2 (Ai (gV 0) (Ai (gV 1) Bd))) Ck V7 (Bp 2 [] S) n 0 G=.ok (tab n λk=>fl k+co k 0) G:=by
 have he:Mu (tab n fl) (Dl n co)=(zq n).map λ(i:Nat)=>D.tup [.int (fl i),.tup (tab 5 (co i))]:=by refine jJ (by simp[Mu]) λi h1 h2=>by simp[Mu,tab,Dl]
 rw[ZLx (F:=λd=>match d with | .tup [.int c,.tup (.int a::_)]=>vk (.int (c+a))|_=>v4) (λj=>ZG6 (Jz (xs:=tab n fl)) (Jz (xs:=Dl n co)) j) (λx hx=>?_) (by rw[he];simp)]
 ·congr 1
  rw[he,qP];show(zq n).filterMap (λi=>vk (D.int (fl i+co i 0)))=_;rw[j1]
  rfl
 ·rw[he]at hx;obtain⟨i,_,rfl⟩:=zU.mp hx;refine⟨[vk (.int (fl i)),vk (.tup (tab 5 (co i)))],by simp[Bp],.inr ⟨rfl,.int (fl i+co i 0),?_,by simp[tab5]⟩⟩;unfold V7;simp[tab5]
theorem ZLZ{k:Nat}(G:DH):Qc [vk (.tup (tab 5 (co k)))] G=.ok (.ref G.length) (G++[.lst (tab 5 (J1 co k))]):=by
 have hcut:cutD (tab 5 (co k)) (vk 1) v4=[.int (co k 1),.int (co k 2),.int (co k 3),.int (co k 4)]:=rfl;have h1:H8 [.tup [.int (co k 1),.int (co k 2),.int (co k 3),.int (co k 4)]] G=.ok (.ref G.length) (G++[.lst [.int (co k 1),.int (co k 2),.int (co k 3),.int (co k 4)]]):=rfl;have h2:Cv (.fl [.int (co k 1),.int (co k 2),.int (co k 3),.int (co k 4)]) (.fl [.int 0]) G=.ok (.ref G.length) (G++[.lst (tab 5 (J1 co k))]):=rfl
 have hf:∀ds:List D,bels G.length ds=v5->freeze G (.ok (.ref G.length) (G++[.lst ds]))=.ok (.fl ds) G:=λds hb=>Ir hb
 unfold Qc;simp[Ka,Qv,hcut,ZHn,h1,hf,Bg,h2,Hy]
theorem ZGf{n:Nat}{co:Nat->Nat->Int}:∀(m k:Nat)(G:DH),k+m=n->Ed (gV 0) Ck Qc [v4] ((Dl n co).drop k) G=.ok ((zq m).map λj=>D.ref (G.length+j)) (G++(zq m).map λj=>DO.lst (tab 5 (J1 co (k+j))))
 |0,k,G,e=>by rw[zR (by simp;lia)];simp[Ed]
 | m+1,k,G,e=>by
  have e0:(Dl n co).drop k=.tup (tab 5 (co k))::(Dl n co).drop (k+1):=by rw[zP (by simp;lia)];simp[Dl]
  have ih:=ZGf (n:=n) (co:=co) m (k+1) (G++[.lst (tab 5 (J1 co k))]) (by lia);rw[e0,ZBd];simp only[Jm,R.Hl,jH,Xi,if_true,ZLZ,ih]
  congr 1
  ·rw[qC,zk,jz]
   congr 1
   refine qE λj _=>?_
   simp only[Function.comp,zH,j4]
   congr 1
   lia
  ·rw[qC,zk,jz,qz]
   congr 1
   show _::_=_::_
   congr 1
   refine qE λj _=>?_
   simp only[Function.comp]
   congr 3
   lia
theorem ZQA(g:GoodH h){at_:Int}:
  Pn [.ref G.length,h.enc,stD h.n lv co,.int at_,.tup (tab h.n fl)] (G++[.ins "Course" []])=.ok .non (csH G h.n h.enc (.tup (tab h.n lv)) (at_%h.yr) (cs0 co fl)):=by
 have hn:=g.len;have hyr:=g.yr;have hnl:h.n<=1000000:=by lia
 have p1:∀a:D,Ez "house" a (cfl [])=cfl [a]:=λ_=>rfl
 have p2:∀a b:D,Ez "levels" b (cfl [a])=cfl [a,b]:=λ_ _=>rfl
 have p3:∀a b c:D,Ez "year_turn" c (cfl [a,b])=cfl [a,b,c]:=λ_ _ _=>rfl
 have p4:∀a b c d:D,Ez "came" d (cfl [a,b,c])=cfl [a,b,c,d]:=λ_ _ _ _=>rfl
 have p5:∀a b c d e:D,Ez "coming" e (cfl [a,b,c,d])=cfl [a,b,c,d,e]:=λ_ _ _ _ _=>rfl
 have p6:∀a b c d e f:D,Ez "page" f (cfl [a,b,c,d,e])=cfl [a,b,c,d,e,f]:=λ_ _ _ _ _ _=>rfl
 have p7:∀a b c d e f q:D,Ez "reaches" q (cfl [a,b,c,d,e,f])=cfl [a,b,c,d,e,f,q]:=λ_ _ _ _ _ _ _=>rfl
 have hl:∀ds,(cfl ds).length<1000:=λds=>by unfold cfl;rw[List.length_zip];have:(["house","levels","year_turn","came","coming","page","reaches"]:List Str).length=7:=rfl;lia
 have hz:∀G',G9 2 [.tup (tab h.n fl),.tup (Dl h.n co)] G'=.ok (.fn h.n (Gz [.tup (tab h.n fl),.tup (Dl h.n co)])) G':=λG'=>by rw[Xu Jz Jz];simp
 have hcc:=λG'=>ZGf (n:=h.n) (co:=co) h.n 0 G' (by lia)
 simp only[List.drop_zero,Nat.zero_add]at hcc;have hcs:∀S:DSt,Bp 1 [] S=[v4]:=λ_=>rfl
 have epg:zw h.n D.non=Cd h.n λ_=>[]:=by unfold Cd;refine jJ (by simp) λi h1 h2=>by simp[Ii]
 let S:DSt:=[vk (.ref G.length),vk h.enc,vk (stD h.n lv co),vk (.int at_),vk (.tup (tab h.n fl)),vk (.tup (tab h.n lv)),vk (.tup (Dl h.n co))];have hS:S=[vk (.ref G.length),vk h.enc,vk (stD h.n lv co),vk (.int at_),vk (.tup (tab h.n fl)),vk (.tup (tab h.n lv)),vk (.tup (Dl h.n co))]:=rfl;let R5:DH:=(zq h.n).map λk=>DO.lst (tab 5 (J1 co k))
 have hR5:R5.length=h.n:=by simp[R5]
 have q1:Et "Course" (dV 0) (dV 1) "house" S (G++ .ins "Course" (cfl [])::[])=.nx S (G++ .ins "Course" (cfl [h.enc])::[]):=by rw[Lq,hS];simp only[ZAM,j0,jX,R.Gb,Kp (hl _),p1]
 have q2:Et "Course" (dV 0) (dV 5) "levels" S (G++ .ins "Course" (cfl [h.enc])::[])=.nx S (G++ .ins "Course" (cfl [h.enc,.tup (tab h.n lv)])::[]):=by rw[Lq,hS];simp only[ZAM,j0,jX,R.Gb,Kp (hl _),p2]
 have q3:Et "Course" (dV 0) (dOp Df (dV 3) (dOp Ak (dV 1) (dC (.int 0)))) "year_turn" S (G++ .ins "Course" (cfl [h.enc,.tup (tab h.n lv)])::[])=.nx S (G++ .ins "Course" (cfl [h.enc,.tup (tab h.n lv),.int (at_%h.yr)])::[]):=by rw[Lq,hS];simp[Wc,hyr,Kp (hl _),p3]
 have q4:Et "Course" (dV 0) (Ei (Di (G9 2) (Ab (dV 4) (Ab (dV 6) Ad))) 2 [] (Bc 2 (Ai (gV 0) (Ai (gV 1) Bd))) Ck V7) "came" S (G++ .ins "Course" (cfl [h.enc,.tup (tab h.n lv),.int (at_%h.yr)])::[])=
   .nx S (G++ .ins "Course" (cfl [h.enc,.tup (tab h.n lv),.int (at_%h.yr),.ref (G.length+1)]):: .lst (tab h.n λk=>fl k+co k 0)::[]):=by
  rw[Lq,hS];simp[hz,ZO6,Bg,hnl,Kp (hl _),p4]
 have q5:Et "Course" (dV 0) (Ei (Ff (dV 6)) 1 [] (gV 0) Ck Qc) "coming" S (G++ .ins "Course" (cfl [h.enc,.tup (tab h.n lv),.int (at_%h.yr),.ref (G.length+1)]):: .lst (tab h.n λk=>fl k+co k 0)::[])=
   .nx S (G++ .ins "Course" (cfl [h.enc,.tup (tab h.n lv),.int (at_%h.yr),.ref (G.length+1),.ref (G.length+(2+h.n))]):: .lst (tab h.n λk=>fl k+co k 0)::(R5++[.lst (Cy G.length h.n)])):=by
  have hi:Fw (.tup (Dl h.n co)) (G++ .ins "Course" (cfl [h.enc,.tup (tab h.n lv),.int (at_%h.yr),.ref (G.length+1)]):: .lst (tab h.n λk=>fl k+co k 0)::[])=.ok (.pure (Dl h.n co)) (G++ .ins "Course" (cfl [h.enc,.tup (tab h.n lv),.int (at_%h.yr),.ref (G.length+1)]):: .lst (tab h.n λk=>fl k+co k 0)::[]):=rfl;have er:∀L:DH,L.length=2->(zq h.n).map (λj=>D.ref ((G++L).length+j))=Cy G.length h.n:=λL e=>by
   unfold Cy;refine qE λj _=>?_
   rw[zH,e,Nat.add_assoc]
  have hc2:=hcc (G++ .ins "Course" (cfl [h.enc,.tup (tab h.n lv),.int (at_%h.yr),.ref (G.length+1)]):: .lst (tab h.n λk=>fl k+co k 0)::[]);rw[er _ rfl]at hc2;have hml:∀G',Bg (Cy G.length h.n) G'=.ok (.ref G'.length) (G'++[.lst (Cy G.length h.n)]):=λG'=>by simp[Bg,Cy,hnl]
  rw[Lq,hS];simp only[ZNg,ZNk,ZAM,j0,jX,R.Hl,hi,hcs,hc2,hml,R.Gb];have e2:(G++DO.ins "Course" (cfl [h.enc,.tup (tab h.n lv),.int (at_%h.yr),.ref (G.length+1)]):: .lst (tab h.n λk=>fl k+co k 0)::[]++(zq h.n).map λj=>DO.lst (tab 5 (J1 co j))).length=G.length+(2+h.n):=by simp;lia
  rw[e2];simp only[qz,List.cons_append,jD];rw[Kp (hl _),p5]
 have q6:Et "Course" (dV 0) (Ec (dOp Jf (dFn Bg (Ab (dC .non) Ad)) (dFn Bs (Ab (dV 5) Ad)))) "page" S (G++ .ins "Course" (cfl [h.enc,.tup (tab h.n lv),.int (at_%h.yr),.ref (G.length+1),.ref (G.length+(2+h.n))]):: .lst (tab h.n λk=>fl k+co k 0)::(R5++[.lst (Cy G.length h.n)]))=
   .nx S (G++ .ins "Course" (cfl [h.enc,.tup (tab h.n lv),.int (at_%h.yr),.ref (G.length+1),.ref (G.length+(2+h.n)),.ref (G.length+(3+h.n))]):: .lst (tab h.n λk=>fl k+co k 0)::(R5++[.lst (Cy G.length h.n),.lst (Cd h.n λ_=>[])])):=by
  rw[Lq,hS];generalize hQ:G++DO.ins "Course" (cfl [h.enc,.tup (tab h.n lv),.int (at_%h.yr),.ref (G.length+1),.ref (G.length+(2+h.n))]):: .lst (tab h.n λk=>fl k+co k 0)::(R5++[.lst (Cy G.length h.n)])=Q;have eQ:Q.length=G.length+(3+h.n):=by rw[<-hQ];simp[hR5];lia
  have hrep:Jf (.ref Q.length) (.int (h.n:Int)) (Q++[.lst [.non]])=.ok (.ref (Q.length+1)) (Q++[.lst [.non],.lst (Cd h.n λ_=>[])]):=by rw[ZMy (d:=.non) (by rw[Hz];rfl) (by lia),epg];simp
  have ht:tidy Q (.ok (.ref (Q.length+1)) (Q++[.lst [.non],.lst (Cd h.n λ_=>[])]))=.ok (.ref Q.length) (Q++[.lst (Cd h.n λ_=>[])]):=ZFF _ (k:=1) rfl ZLT;have hst:Mh "Course" "page" (.ref G.length) (.ref Q.length) S (Q++[.lst (Cd h.n λ_=>[])])=.nx S (G++ .ins "Course" (cfl [h.enc,.tup (tab h.n lv),.int (at_%h.yr),.ref (G.length+1),.ref (G.length+(2+h.n)),.ref (G.length+(3+h.n))]):: .lst (tab h.n λk=>fl k+co k 0)::(R5++[.lst (Cy G.length h.n),.lst (Cd h.n λ_=>[])])):=by rw[eQ,<-hQ];simp only[qz,List.cons_append,jD];rw[Kp (hl _),p6]
  rw[hS]at hst;simp[Bg,hrep,ht,hst]
 have q7:Et "Course" (dV 0) (Ec (dFn Bg Ad)) "reaches" S (G++ .ins "Course" (cfl [h.enc,.tup (tab h.n lv),.int (at_%h.yr),.ref (G.length+1),.ref (G.length+(2+h.n)),.ref (G.length+(3+h.n))]):: .lst (tab h.n λk=>fl k+co k 0)::(R5++[.lst (Cy G.length h.n),.lst (Cd h.n λ_=>[])]))=
   .nx S (G++ .ins "Course" (cfl [h.enc,.tup (tab h.n lv),.int (at_%h.yr),.ref (G.length+1),.ref (G.length+(2+h.n)),.ref (G.length+(3+h.n)),.ref (G.length+(4+h.n))]):: .lst (tab h.n λk=>fl k+co k 0)::(R5++[.lst (Cy G.length h.n),.lst (Cd h.n λ_=>[]),.lst []])):=by
  rw[Lq,hS];generalize hQ:G++DO.ins "Course" (cfl [h.enc,.tup (tab h.n lv),.int (at_%h.yr),.ref (G.length+1),.ref (G.length+(2+h.n)),.ref (G.length+(3+h.n))]):: .lst (tab h.n λk=>fl k+co k 0)::(R5++[.lst (Cy G.length h.n),.lst (Cd h.n λ_=>[])])=Q;have eQ:Q.length=G.length+(4+h.n):=by rw[<-hQ];simp[hR5];lia
  have ht:tidy Q (.ok (.ref Q.length) (Q++[.lst []]))=.ok (.ref Q.length) (Q++[.lst []]):=Hy rfl;have hst:Mh "Course" "reaches" (.ref G.length) (.ref Q.length) S (Q++[.lst []])=.nx S (G++ .ins "Course" (cfl [h.enc,.tup (tab h.n lv),.int (at_%h.yr),.ref (G.length+1),.ref (G.length+(2+h.n)),.ref (G.length+(3+h.n)),.ref (G.length+(4+h.n))]):: .lst (tab h.n λk=>fl k+co k 0)::(R5++[.lst (Cy G.length h.n),.lst (Cd h.n λ_=>[]),.lst []])):=by rw[eQ,<-hQ];simp only[qz,List.cons_append,jD];rw[Kp (hl _),p7]
  rw[hS]at hst;simp[Bg,ht,hst]
 have htd:tidy (G++[.ins "Course" []]) (.ok .non (csH G h.n h.enc (.tup (tab h.n lv)) (at_%h.yr) (cs0 co fl)))=.ok .non (csH G h.n h.enc (.tup (tab h.n lv)) (at_%h.yr) (cs0 co fl)):=ZOi λz=>by
  have h1:=congrArg (λl:DH=>l[G.length]?) z;simp only[zH,j4]at h1;rw[jQ (by lia),Jh]at h1;have h2:(G++[DO.ins "Course" []])[G.length]?=vk (.ins "Course" []):=by rw[Hz];rfl
  rw[h2]at h1;simp[cflds,cfl]at h1
 have hfin:G++DO.ins "Course" (cfl [h.enc,.tup (tab h.n lv),.int (at_%h.yr),.ref (G.length+1),.ref (G.length+(2+h.n)),.ref (G.length+(3+h.n)),.ref (G.length+(4+h.n))]):: .lst (tab h.n λk=>fl k+co k 0)::(R5++[.lst (Cy G.length h.n),.lst (Cd h.n λ_=>[]),.lst []])=csH G h.n h.enc (.tup (tab h.n lv)) (at_%h.yr) (cs0 co fl):=rfl;have q0:sAs (dV 2) (Bc 2 (Ai (gV 5) (Ai (gV 6) Bd))) [vk (.ref G.length),vk h.enc,vk (stD h.n lv co),vk (.int at_),vk (.tup (tab h.n fl)),v4,v4] (G++[.ins "Course" []])=.nx S (G++ .ins "Course" (cfl [])::[]):=by
  simp[stD,hS]
  rfl
 unfold Pn ZHh;rw[Bl];have h5: [D.ref G.length,h.enc,stD h.n lv co,.int at_,.tup (tab h.n fl)].length=5:=rfl;rw[if_pos h5];have hd:([D.ref G.length,h.enc,stD h.n lv co,.int at_,.tup (tab h.n fl)].map vk++zw 2 v4)=[vk (.ref G.length),vk h.enc,vk (stD h.n lv co),vk (.int at_),vk (.tup (tab h.n fl)),v4,v4]:=rfl;rw[hd];simp only[ZHQ,q0,ZO9,q1,q2,q3,q4,q5,q6,q7,hfin,ZNy]
 exact htd
section
variable{h:Hs}{yt:Int}{lv:Nat->Int}
end
noncomputable def lies(pg:Nat->List Int):Nat->Int:=λk=>(pg k).getD 5 0
theorem row6(h:l.length=6):∃a b c d e f,l=[a,b,c,d,e,f]:=by
 match l,h with
 |[a,b,c,d,e,f],_=>exact⟨a,b,c,d,e,f,rfl⟩
section
variable{G:DH}{h:Hs}{LV:D}{yt:Int}{s:Cs}
theorem ZPR(hf:∀k,k<h.n->(s.page k).length=6):Ex (G.length+(3+h.n)) (gV 0) Ck Ru (Bp 1 [] S) h.n 0 (csH G h.n h.enc LV yt s)=.ok (tab h.n (lies s.page)) (csH G h.n h.enc LV yt s):=by
 have hx:=ZGe (i:=G.length+(3+h.n)) (g:=gV 0) (c:=Ck) (te:=Ru) (S:=Bp 1 [] S) (G:=csH G h.n h.enc LV yt s) (F:=λd=>match d with | .tup [_,_,_,_,_,x]=>vk x|_=>v4) Mx (λx hx=>by obtain⟨k,hk,rfl⟩:=zU.mp hx;obtain⟨a,b,c,d,e,f,el⟩:=row6 (hf k (qZ.mp hk));rw[el];refine⟨[vk (Ii [a,b,c,d,e,f])],by simp[Bp],.inr ⟨rfl,.int f,?_,rfl⟩⟩;unfold Ru;simp[Ii])
 rw[ZMi]at hx;rw[hx]
 congr 1
 unfold Cd;rw[qP];unfold tab;rw[<-j1];refine ZBe λk hk=>?_
 obtain⟨a,b,c,d,e,f,el⟩:=row6 (hf k (qZ.mp hk));simp[Function.comp,el,Ii,lies]
theorem ZP3:Ex (G.length+(2+h.n)) (gV 0) Ck Rt (Bp 1 [] S) h.n 0 (csH G h.n h.enc LV yt s)=.ok (Dl h.n s.coming) (csH G h.n h.enc LV yt s):=by
 have hlen:(Cy G.length h.n).length=h.n:=by simp[Cy]
 have hx:=ZGe (i:=G.length+(2+h.n)) (g:=gV 0) (c:=Ck) (te:=Rt) (S:=Bp 1 [] S) (G:=csH G h.n h.enc LV yt s) (F:=λd=>match d with | .ref j=>vk (.tup (tab 5 (s.coming (j-(G.length+2)))))|_=>v4) Wg (λx hx=>by
  obtain⟨k,hk,rfl⟩:=zU.mp hx;refine⟨[vk (.ref (G.length+(2+k)))],by simp[Bp],.inr ⟨rfl,.tup (tab 5 (s.coming k)),?_,?_⟩⟩
  ·unfold Rt;simp[Zu (qZ.mp hk)]
  ·have e:G.length+(2+k)-(G.length+2)=k:=by lia
   simp only[e])
 rw[hlen]at hx;rw[hx]
 congr 1
 unfold Cy;rw[qP];unfold Dl;rw[<-j1];refine ZBe λk hk=>?_
 have e:G.length+(2+k)-(G.length+2)=k:=by lia
 simp only[Function.comp,e]
theorem ZL1(g:GoodH h)(hf:∀k,k<h.n->(s.page k).length=6):W2 [.ref G.length] (csH G h.n h.enc LV yt s)=.ok (stD h.n (lies s.page) s.coming) (csH G h.n h.enc LV yt s):=by
 have hn:=g.len;have hnl:h.n<=1000000:=by lia
 have hl2:(Cy G.length h.n).length=h.n:=by simp[Cy]
 have hb:bel (csH G h.n h.enc LV yt s).length (stD h.n (lies s.page) s.coming)=v5:=by simp[stD]
 unfold W2 ZEn;rw[Bl];unfold stD at hb⊢;have i1:Fw (.ref (G.length+(3+h.n))) (csH G h.n h.enc LV yt s)=.ok (.mt (G.length+(3+h.n))) (csH G h.n h.enc LV yt s):=by simp[Fw,Mx]
 have i2:Fw (.ref (G.length+(2+h.n))) (csH G h.n h.enc LV yt s)=.ok (.mt (G.length+(2+h.n))) (csH G h.n h.enc LV yt s):=by simp[Fw,Wg]
 simp[i1,i2,Vl,Mx,ZPR hf,Bg,hnl,ZB6,Bf,ZDW,Wg,hl2,ZP3,Bv]
end
def Be(n:Nat)(fls:List (Nat->Int)):List D:=fls.map λfl=>.tup (tab n fl)
@[simp]theorem ZHJ{n:Nat}:bels m (Be n fls)=v5:=Gm λ_ _=>by simp
section
variable{G:DH}{h:Hs}{yt:Int}{lv:Nat->Int}
abbrev AllB(h:Hs):Prop:=∀k,k<h.n->(h.pl k).kd.isB=v5
def Hs.goB(h:Hs)(yt:Int)(lv:Nat->Int):Nat->Nat->Cs->Cs
 |0,_,s=>s
 |m+1,k,s=>h.goB yt lv m (k+1) (h.basin yt lv s k)
theorem ZGz(g:GoodH h)(ab:AllB h):∀(m k:Nat)(s:Cs)(x y:Option D),k+m=h.n->∃x' y',
  Cj (Bc 2 (Ai (gV 2) (Ai (gV 3) Bd))) Nt ((Em (tab h.n λi=>(h.last i:Int))).drop k) [vk (.ref G.length),vk (.fl (tab h.n λi=>(h.last i:Int))),x,y] (csH G h.n h.enc (.tup (tab h.n lv)) yt s)=
   .nx [vk (.ref G.length),vk (.fl (tab h.n λi=>(h.last i:Int))),x',y'] (csH G h.n h.enc (.tup (tab h.n lv)) yt (h.goB yt lv m k s))
 |0,k,s,x,y,e=>⟨x,y,by rw[zR (by rw[Nz];simp;lia),Kg];rfl⟩
 | m+1,k,s,x,y,e=>by
  have hk:k<h.n:=by lia
  obtain⟨x',y',ih⟩:=ZGz g ab m (k+1) (h.basin yt lv s k) (vk (.int k)) (vk (.int (h.last k:Int))) (by lia);refine⟨x',y',?_⟩;have e0:(Em (tab h.n λi=>(h.last i:Int))).drop k=.tup [.int k,.int (h.last k:Int)]::(Em (tab h.n λi=>(h.last i:Int))).drop (k+1):=by rw[zP (by rw[Nz];simpa using hk)];simp[Em,tab]
  have hb:Nt [vk (.ref G.length),vk (.fl (tab h.n λi=>(h.last i:Int))),vk (.int k),vk (.int (h.last k:Int))] (csH G h.n h.enc (.tup (tab h.n lv)) yt s)=
    .nx [vk (.ref G.length),vk (.fl (tab h.n λi=>(h.last i:Int))),vk (.int k),vk (.int (h.last k:Int))] (csH G h.n h.enc (.tup (tab h.n lv)) yt (h.basin yt lv s k)):=by
   unfold Nt;simp[O5,Fe,Hs.Gj hk,Wu,ab k hk,Kz ZO1,ZOu g hk (ab k hk)]
  rw[e0,Ip];simp only[Um,Ti,Vw,Jm,R.Hl,R.Gb,jH,hb,Ig,zO,qU,Nat.reduceAdd,if_true];exact ih
theorem ZLM(g:GoodH h)(ab:AllB h):Sv [.ref G.length] (csH G h.n h.enc (.tup (tab h.n lv)) yt s)=.ok .non (csH G h.n h.enc (.tup (tab h.n lv)) yt (h.goB yt lv h.n 0 s)):=by
 obtain⟨x',y',hL⟩:=ZGz (G:=G) (yt:=yt) (lv:=lv) g ab h.n 0 s v4 v4 (by lia);rw[List.drop_zero]at hL;unfold Sv ZDV;rw[Bl];have hz:∀S G',Dc (Dt 0 (.fl (tab h.n λi=>(h.last i:Int)))) (Bc 2 (Ai (gV 2) (Ai (gV 3) Bd))) Nt h.n 0 S G'=Cj (Bc 2 (Ai (gV 2) (Ai (gV 3) Bd))) Nt (Em (tab h.n λi=>(h.last i:Int))) S G':=λS G'=>Wq ZFp (by rw[Nz];simp)
 simp[O5,ZNU g,ZB6,Gg,Ko,lenOf,hz,hL,K7]
def Hs.csB(h:Hs)(lv:Nat->Int)(co:Nat->Nat->Int)(at_:Int)(fl:Nat->Int):Cs:=h.goB (at_%h.yr) lv h.n 0 (cs0 co fl)
theorem ZMt(g:GoodH h)(ab:AllB h){at_:Int}(full:∀k,k<h.n->((h.csB lv co at_ fl).page k).length=6)(G:DH):
  Sd [h.enc,stD h.n lv co,.int at_,.tup (tab h.n fl)] G=.ok (.tup [.tup (Cd h.n (h.csB lv co at_ fl).page),stD h.n (lies (h.csB lv co at_ fl).page) (h.csB lv co at_ fl).coming]) G:=by
 have hgo:=ZLM (G:=G) (lv:=lv) (yt:=at_%h.yr) g ab (s:=cs0 co fl);have hst:=ZL1 (G:=G) (LV:=.tup (tab h.n lv)) (yt:=at_%h.yr) g full;have hmk:Yg Pn "Course" [h.enc,stD h.n lv co,.int at_,.tup (tab h.n fl)] G=.ok (.ref G.length) (csH G h.n h.enc (.tup (tab h.n lv)) (at_%h.yr) (cs0 co fl)):=by
  unfold Yg;rw[ZQA g]
  rfl
 have egs:h.goB (at_%h.yr) lv h.n 0 (cs0 co fl)=h.csB lv co at_ fl:=rfl;rw[egs]at hgo;have hcH:∀s,csH G h.n h.enc (.tup (tab h.n lv)) (at_%h.yr) s=G++csT G.length h.n h.enc (.tup (tab h.n lv)) (at_%h.yr) s:=λ_=>rfl
 have hbl:bel G.length (.tup [.tup (Cd h.n (h.csB lv co at_ fl).page),stD h.n (lies (h.csB lv co at_ fl).page) (h.csB lv co at_ fl).coming])=v5:=by simp[stD]
 unfold Sd ZGm;rw[Bl];simp[hmk,Kz ZOM,hgo,Vl,Mx,Kz ZPx,hst,Bf];rw[hcH];exact Og hbl
end
noncomputable abbrev St2:=(Nat->Int)×(Nat->Nat->Int)
def Hs.Hb(h:Hs)(s:St2)(a:Int)(fl:Nat->Int):St2:=(lies (h.csB s.1 s.2 a fl).page,(h.csB s.1 s.2 a fl).coming)
def Hs.G8(h:Hs):List (Nat->Int)->St2->Int->St2
 |[],s,_=>s
 |fl::r,s,a=>h.G8 r (h.Hb s a fl) (a+1)
def Hs.Fj(h:Hs):List (Nat->Int)->St2->Int->List (Nat->List Int)
 |[],_,_=>[]
 |fl::r,s,a=>(h.csB s.1 s.2 a fl).page::h.Fj r (h.Hb s a fl) (a+1)
theorem ZB9:∀{fls:List (Nat->Int)}{s:St2}{a:Int},(h.Fj fls s a).length=fls.length
 |[],_,_=>rfl
 |fl::r,s,a=>by show(h.Fj r (h.Hb s a fl) (a+1)).length+1=r.length+1;rw[ZB9]
def pgD(n:Nat)(pg:Nat->List Int):D:=.tup (Cd n pg)
@[simp]theorem ZQG{n:Nat}:bel m (pgD n pg)=v5:=by simp[pgD]
@[simp]theorem ZNO{n:Nat}{pgs:List (Nat->List Int)}:bels m (pgs.map (pgD n))=v5:=Gm λ_ _=>ZQG
@[simp]theorem ZHp{n:Nat}:bel m (stD n lv co)=v5:=by simp[stD]
noncomputable def enS:Int->List D->List D
 |_,[]=>[]
 |a,x::r=>.tup [.int a,x]::enS (a+1) r
theorem ZHM:∀(xs:List D)(a:Int)(j:Nat),(enS a xs)[j]?=xs[j]?.map λx=>.tup [.int (a+j),x]
 |[],a,j=>by simp[enS]
 |x::r,a,0=>by simp[enS]
 |x::r,a,j+1=>by
  show(enS (a+1) r)[j]?=r[j]?.map _;rw[ZHM r (a+1) j];have e:a+1+(j:Int)=a+((j+1:Nat):Int):=by lia
  rw[e]
theorem ZGB:∀(xs:List D)(a:Int),(enS a xs).length=xs.length
 |[],a=>rfl
 |x::r,a=>by show(enS (a+1) r).length+1=r.length+1;rw[ZGB]
theorem ZCn{g:DG}{b:DS}:Dc (Dt a (.fl xs)) g b xs.length 0 S G=Cj g b (enS a xs) S G:=Wq (λj G=>by show vk (xs[j]?.map _)=_;rw[ZHM]) (ZGB xs a).symm
theorem ZDJ(g:GoodH h)(ab:AllB h)(full:∀lv co a fl,∀k,k<h.n->((h.csB lv co a fl).page k).length=6){s2 s3:Option D}{G:DH}:∀(fls:List (Nat->Int))(s:St2)(a:Int)(acc:List D)(x5 x6 x7:Option D),acc.length+fls.length<=1000->∃y5 y6 y7,
  Cj (Bc 2 (Ai (gV 5) (Ai (gV 6) Bd))) R1 (enS a (Be h.n fls)) [vk h.enc,vk (stD h.n s.1 s.2),s2,s3,vk (.ref G.length),x5,x6,x7] (G++[.lst acc])=
   .nx [vk h.enc,vk (stD h.n (h.G8 fls s a).1 (h.G8 fls s a).2),s2,s3,vk (.ref G.length),y5,y6,y7] (G++[.lst (acc++(h.Fj fls s a).map (pgD h.n))])
 |[],s,a,acc,x5,x6,x7,_=>⟨x5,x6,x7,by show Cj _ _ [] _ _=_;rw[Kg];simp[Hs.G8,Hs.Fj]⟩
 |fl::r,s,a,acc,x5,x6,x7,hl=>by
  simp only[zO]at hl;obtain⟨y5,y6,y7,ih⟩:=ZDJ g ab full (s2:=s2) (s3:=s3) (G:=G) r (h.Hb s a fl) (a+1) (acc++[pgD h.n (h.csB s.1 s.2 a fl).page]) (vk (.int a)) (vk (.tup (tab h.n fl))) (vk (pgD h.n (h.csB s.1 s.2 a fl).page)) (by simp;lia);refine⟨y5,y6,y7,?_⟩;have ct:=ZMt g ab (lv:=s.1) (fl:=fl) (co:=s.2) (at_:=a) (full _ _ _ _);have hal:acc.length<1000000:=by lia
  have hb:R1 [vk h.enc,vk (stD h.n s.1 s.2),s2,s3,vk (.ref G.length),vk (.int a),vk (.tup (tab h.n fl)),x7] (G++[.lst acc])=.nx [vk h.enc,vk (stD h.n (h.Hb s a fl).1 (h.Hb s a fl).2),s2,s3,vk (.ref G.length),vk (.int a),vk (.tup (tab h.n fl)),vk (pgD h.n (h.csB s.1 s.2 a fl).page)] (G++[.lst (acc++[pgD h.n (h.csB s.1 s.2 a fl).page])]):=by unfold R1;simp[ct,Hz,Va,hal,pgD,Hs.Hb]
  show Cj _ _ (.tup [.int a,.tup (tab h.n fl)]::enS (a+1) (Be h.n r)) _ _=_;rw[Ip];simp only[Um,Ti,Vw,Jm,R.Hl,R.Gb,jH,hb,Ig,zO,qU,Nat.reduceAdd,if_true];rw[ih];simp[Hs.G8,Hs.Fj]
theorem Rm{n:Nat}:(Be n fls).length=fls.length:=by simp[Be]
theorem Xm(h:bels G.length ds=v6):tidy G (.ok (.tup ds) G')=.ok (.tup ds) G':=by unfold tidy;simp[h]
theorem ZP1(g:GoodH h)(ab:AllB h)(full:∀lv co a fl,∀k,k<h.n->((h.csB lv co a fl).page k).length=6){s:St2}(hl:fls.length<=1000)(G:DH):
  Qa [h.enc,stD h.n s.1 s.2,.int a,.fl (Be h.n fls)] G=.ok (.tup [.ref G.length,stD h.n (h.G8 fls s a).1 (h.G8 fls s a).2]) (G++[.lst ((h.Fj fls s a).map (pgD h.n))]):=by
 obtain⟨y5,y6,y7,hL⟩:=ZDJ g ab full (s2:=vk (.int a)) (s3:=vk (.fl (Be h.n fls))) (G:=G) fls s a [] v4 v4 v4 (by simp;lia);have hL':Dc (Dt a (.fl (Be h.n fls))) (Bc 2 (Ai (gV 5) (Ai (gV 6) Bd))) R1 (Be h.n fls).length 0 [vk h.enc,vk (stD h.n s.1 s.2),vk (.int a),vk (.fl (Be h.n fls)),vk (.ref G.length),v4,v4,v4] (G++[.lst []])=
   .nx [vk h.enc,vk (stD h.n (h.G8 fls s a).1 (h.G8 fls s a).2),vk (.int a),vk (.fl (Be h.n fls)),vk (.ref G.length),y5,y6,y7] (G++[.lst ((h.Fj fls s a).map (pgD h.n))]):=by
  rw[ZCn];exact hL
 have tt:∀e:D,tidy G (.ok (.tup [.ref G.length,e]) (G++[.lst ((h.Fj fls s a).map (pgD h.n))]))=.ok (.tup [.ref G.length,e]) (G++[.lst ((h.Fj fls s a).map (pgD h.n))]):=λe=>Xm (by simp)
 unfold Qa ZC2;rw[Bl];simp[Bg,Hy,ZBm,hL',Bf,tt]
theorem ZDH{G:DH}{d:D}(hd:okD 30 d=v5):∀xs:List D,(∀x∈xs,okD 30 x=v5)->∃ks:List Bool,Lj G d xs=vk ks/\(ks.any id=v5↔d∈xs)
 |[],_=>⟨[],rfl,by simp⟩
 |x::xs,h=>by
  obtain⟨ks,h1,h2⟩:=ZDH (G:=G) hd xs λy hy=>h y (zZ _ hy)
  obtain⟨b,h3,h4⟩:=Sq (G:=G) 30 x d (h x (by simp)) hd;refine⟨b::ks,by unfold Lj;rw[h3,h1],?_⟩;rw[jK,jG,h2,zj];exact⟨λz=>z.elim (λz=>.inl (h4.mp z).symm) .inr,λz=>z.elim (λz=>.inl (h4.mpr z.symm)) .inr⟩
theorem ZKi{d:D}(hd:okD 30 d=v5)(h:∀x∈xs,okD 30 x=v5)(hb:d∈xs↔b=v6):Ml d (.fl xs) G=.ok (.bl b) G:=by
 obtain⟨ks,h1,h2⟩:=ZDH (G:=G) hd xs h;unfold Ml inE;have e:Bj (.fl xs) G=vk xs:=rfl;rw[e];simp only[h1,jF];cases hk:ks.any id with
 |true=>
  have:=hb.mp (h2.mp hk);subst this
  rfl
 |false=>
  cases b with
  |true=>rfl
  |false=>rw[h2.mpr (hb.mpr rfl)]at hk;cases hk
theorem ZNV{xs:List α}{x:α}:cutD (xs++[x]) v4 (vk (-1))=xs:=by
 have e:HT.sIx (xs++[x]).length (xs++[x]).length (vk (-1))=xs.length:=by
  simp[HT.sIx]
  try lia
 unfold cutD;rw[e];simp[HT.sIx]
theorem ZCU{x:D}:atI (xs++[x]) (-1)=vk x:=by
 rw[ZFL (by decide) (by simp;lia)];have e3:((-1:Int)+((xs++[x]).length:Int)).toNat=xs.length:=by simp;lia
 simp only[e3];simp
section
variable{H FL:D}{SW:Nat->D}{PG:Nat->List D}
structure Yr (H FL:D) (SW:Nat->D) (PG:Nat->List D):Prop where
 run:∀(w:Nat)(G:DH),Qa [H,SW w,.int 0,FL] G=.ok (.tup [.ref G.length,SW (w+1)]) (G++[.lst (PG w)])
 ok:∀w,okD 30 (SW w)=v5
 bel:∀w m,bel m (SW w)=v5
 pb:∀w m,bels m (PG w)=v5
 pl:∀w,(PG w).length<=24
noncomputable def pgs(PG:Nat->List D)(w:Nat):List D:=(zq w).flatMap PG
theorem ZA2:pgs PG (w+1)=pgs PG w++PG w:=by simp[pgs,jI]
theorem ZB1(h:∀w,(PG w).length<=24):∀w,(pgs PG w).length<=24*w
 |0=>zY _
 |w+1=>by have:=ZB1 h w;have:=h w;rw[ZA2,zH];lia
theorem ZHD(h:∀w m,bels m (PG w)=v5):∀w,bels m (pgs PG w)=v5
 |0=>rfl
 |w+1=>by rw[ZA2,ZID,ZHD h w,h w m];rfl
noncomputable def sts(SW:Nat->D)(w:Nat):List D:=(zq w).map SW
theorem Qu:sts SW (w+1)=sts SW w++[SW w]:=by simp[sts,jI]
theorem Mr:(sts SW w).length=w:=by simp[sts]
theorem Pb(hb:∀w m,bel m (SW w)=v5):bels m (sts SW w)=v5:=Gm λ_ _=>hb _ _
theorem ZAK(ho:∀w,okD 30 (SW w)=v5)(hb:∀w m,bel m (SW w)=v5)(h:SW w∈sts SW w↔b=v6){s3 s5:Option D}{P:List D}:
  Ob [s0,s1,s2,s3,vk (.ref G.length),s5,s6,s7] (G++ .lst (sts SW (w+1)):: .lst P::L)=.ok b (G++ .lst (sts SW (w+1)):: .lst P::L):=by
 have ha:atI (sts SW (w+1)) (-1)=vk (SW w):=by rw[Qu];exact ZCU
 have hc:cutD (sts SW (w+1)) v4 (vk (-1))=sts SW w:=by rw[Qu];exact ZNV
 have hn:∀G,Ml (SW w) (.fl (sts SW w)) G=.ok (.bl b) G:=λG=>ZKi (ho w) (λx hx=>by obtain⟨i,_,rfl⟩:=zU.mp hx;exact ho i) h
 generalize hG:G++DO.lst (sts SW (w+1)):: .lst P::L=G1;have g0:G1[G.length]?=vk (.lst (sts SW (w+1))):=by rw[<-hG,Hz];rfl
 have hs:Qv (.ref G.length) v4 (vk (-1)) G1=.ok (.ref G1.length) (G1++[.lst (sts SW w)]):=by unfold Qv;simp only[Gr,g0,hc]
 have fz:freeze G1 (.ok (.ref G1.length) (G1++[.lst (sts SW w)]))=.ok (.fl (sts SW w)) G1:=Ir (Pb hb);unfold Ob;simp[g0,ha,hs,fz,hn,Ka,Gu]
theorem ZHl(hy:Yr H FL SW PG)(hm:(w:Int)+1<=most)(hw:w<=1000):
  ∃(y6 y7:Option D),Ks [vk H,s1,vk FL,vk (.int most),vk (.ref G.length),vk (.ref (G.length+1)),s6,s7] (G++ .lst (sts SW (w+1)):: .lst (pgs PG w)::L)=
   .nx [vk H,s1,vk FL,vk (.int most),vk (.ref G.length),vk (.ref (G.length+1)),y6,y7] (G++ .lst (sts SW (w+2)):: .lst (pgs PG (w+1))::(L++[.lst (PG w)])):=by
 have ha:atI (sts SW (w+1)) (-1)=vk (SW w):=by rw[Qu];exact ZCU
 have hP:=ZB1 hy.pl w;have hQ:=hy.pl w;rw[ZA2];generalize pgs PG w=P at*;have p2:=hy.run w (G++DO.lst (sts SW (w+1)):: .lst P::L);generalize PG w=pg at*;refine⟨vk (.ref (G++DO.lst (sts SW (w+1)):: .lst P::L).length),vk (SW (w+1)),?_⟩;have g0:(G++DO.lst (sts SW (w+1)):: .lst P::L)[G.length]?=vk (.lst (sts SW (w+1))):=by rw[Hz];rfl
 have ng:¬((((sts SW (w+1)).length:Nat):Int)>most):=by rw[Mr];lia
 have td:tidy (G++DO.lst (sts SW (w+1)):: .lst P::L) (.ok (.tup [.ref (G++DO.lst (sts SW (w+1)):: .lst P::L).length,SW (w+1)]) ((G++DO.lst (sts SW (w+1)):: .lst P::L)++[DO.lst pg]))=.ok (.tup [.ref (G++DO.lst (sts SW (w+1)):: .lst P::L).length,SW (w+1)]) ((G++DO.lst (sts SW (w+1)):: .lst P::L)++[DO.lst pg]):=Xm (by simp);have k1:((G++DO.lst (sts SW (w+1)):: .lst P::L)++[DO.lst pg])[G.length+1]?=vk (.lst P):=by
  rw[qz,Tv]
  rfl
 have k2:((G++DO.lst (sts SW (w+1)):: .lst P::L)++[DO.lst pg])[(G++DO.lst (sts SW (w+1)):: .lst P::L).length]?=vk (.lst pg):=by simp
 have s1':∀o,((G++DO.lst (sts SW (w+1)):: .lst P::L)++[DO.lst pg]).set (G.length+1) o=G++ .lst (sts SW (w+1))::o::(L++[.lst pg]):=λo=>by
  rw[qz,ZAv]
  rfl
 have ex:Ox (.ref (G.length+1)) [.ref (G++DO.lst (sts SW (w+1)):: .lst P::L).length] ((G++DO.lst (sts SW (w+1)):: .lst P::L)++[DO.lst pg])=.ok .non (G++ .lst (sts SW (w+1)):: .lst (P++pg)::(L++[.lst pg])):=by unfold Ox;simp only[k1,k2];rw[if_pos (by lia),s1']
 have g3:(G++DO.lst (sts SW (w+1)):: .lst (P++pg)::(L++[DO.lst pg]))[G.length]?=vk (.lst (sts SW (w+1))):=by rw[Hz];rfl
 have s3:∀o,(G++DO.lst (sts SW (w+1)):: .lst (P++pg)::(L++[DO.lst pg])).set G.length o=G++o:: .lst (P++pg)::(L++[.lst pg]):=λo=>by rw[Va];rfl
 have ll:(sts SW (w+1)).length<1000000:=by rw[Mr];lia
 have es:sts SW (w+2)=sts SW (w+1)++[SW (w+1)]:=Qu;rw[es];generalize(G++DO.lst (sts SW (w+1)):: .lst P::L)=G1 at*;generalize G++DO.lst (sts SW (w+1)):: .lst (P++pg)::(L++[DO.lst pg])=G2 at*;generalize sts SW (w+1)=ss at*;unfold Ks;simp[g0,ng,ha,p2,td,k1,ex,g3,s3,ll,Gu]
end
section
variable{H FL:D}{SW:Nat->D}{PG:Nat->List D}
theorem ZMh(hw:w<1000){s5:Option D}{P:List D}:
  Ks [s0,s1,s2,vk (.int w),vk (.ref G.length),s5,s6,s7] (G++ .lst (sts SW (w+1)):: .lst P::L)=.err ⟨"TooLong",[("most",.int w)]⟩ (G++ .lst (sts SW (w+1)):: .lst P::L):=by
 generalize hG:G++DO.lst (sts SW (w+1)):: .lst P::L=G1;have g0:G1[G.length]?=vk (.lst (sts SW (w+1))):=by rw[<-hG,Hz];rfl
 have ng:(w:Int)<(((sts SW (w+1)).length:Nat):Int):=by rw[Mr];lia
 have hb:(0:Int)<=(w:Int)/\(w:Int)<1000:=by lia
 generalize sts SW (w+1)=ss at*;unfold Ks;simp[g0,ng,sRz,hb]
theorem ZCk(hy:Yr H FL SW PG)(hY:Y<=900)(hnew:∀w,w<Y->SW w∉sts SW w)(hag:SW Y∈sts SW Y){most:Int}(hm:(Y:Int)<=most){s1:Option D}{G:DH}:
  ∀(n w:Nat) (L:DH) (s6 s7:Option D),w<=Y->Y<w+n->∃(L':DH)(y6 y7:Option D),
   sWh Ob Ks n [vk H,s1,vk FL,vk (.int most),vk (.ref G.length),vk (.ref (G.length+1)),s6,s7] (G++ .lst (sts SW (w+1)):: .lst (pgs PG w)::L)=
    .nx [vk H,s1,vk FL,vk (.int most),vk (.ref G.length),vk (.ref (G.length+1)),y6,y7] (G++ .lst (sts SW (Y+1)):: .lst (pgs PG Y)::L')
 |0,w,L,s6,s7,h1,h2=>by lia
 |n+1,w,L,s6,s7,h1,h2=>by
  by_cases e:w=Y
  ·subst e;refine⟨L,s6,s7,?_⟩;unfold sWh;rw[ZAK hy.ok hy.bel (b:=v6) (by simp[hag])];simp
  ·obtain⟨y6,y7,hbd⟩:=ZHl hy (w:=w) (most:=most) (by lia) (by lia) (s1:=s1) (s6:=s6) (s7:=s7) (G:=G) (L:=L);obtain⟨L',z6,z7,b2⟩:=ZCk hy hY hnew hag hm (s1:=s1) (G:=G) n (w+1) (L++[.lst (PG w)]) y6 y7 (by lia) (by lia);refine⟨L',z6,z7,?_⟩;unfold sWh;rw[ZAK hy.ok hy.bel (b:=v5) (by simp[hnew w (by lia)])];simp only[R.Gb,if_true,hbd,Ig];exact b2
theorem ZDT(hy:Yr H FL SW PG)(hM:M<1000)(hnew:∀w,w<=M->SW w∉sts SW w){s1:Option D}{G:DH}:
  ∀(n w:Nat)(L:DH)(s6 s7:Option D),w<=M->M<w+n->∃G',sWh Ob Ks n [vk H,s1,vk FL,vk (.int M),vk (.ref G.length),vk (.ref (G.length+1)),s6,s7] (G++ .lst (sts SW (w+1)):: .lst (pgs PG w)::L)=.err ⟨"TooLong",[("most",.int M)]⟩ (G++G')
 |0,w,L,s6,s7,h1,h2=>by lia
 |n+1,w,L,s6,s7,h1,h2=>by
  have ht:=ZAK hy.ok hy.bel (w:=w) (b:=v5) (by simp[hnew w h1]) (s0:=vk H) (s1:=s1) (s2:=vk FL) (s3:=vk (.int M)) (s5:=vk (.ref (G.length+1))) (s6:=s6) (s7:=s7) (G:=G) (L:=L) (P:=pgs PG w);by_cases e:w=M
  ·subst e;refine⟨.lst (sts SW (w+1)):: .lst (pgs PG w)::L,?_⟩;unfold sWh;rw[ht];simp only[R.Gb,if_true];rw[ZMh hM,ZLE]
  ·obtain⟨y6,y7,hbd⟩:=ZHl hy (w:=w) (most:=(M:Int)) (by lia) (by lia) (s1:=s1) (s6:=s6) (s7:=s7) (G:=G) (L:=L);obtain⟨G',ih⟩:=ZDT hy hM hnew (s1:=s1) (G:=G) n (w+1) (L++[.lst (PG w)]) y6 y7 (by lia) (by lia);refine⟨G',?_⟩;unfold sWh;rw[ht];simp only[R.Gb,if_true,hbd,Ig];exact ih
theorem ZLK(hy:Yr H FL SW PG)(hY:Y<=900)(hnew:∀w,w<Y->SW w∉sts SW w)(hag:SW Y∈sts SW Y)(hm:(Y:Int)<=most)(G:DH):
  ∃L,Ju [H,SW 0,FL,.int most] G=.ok (.tup [.ref G.length,.ref (G.length+1)]) (G++ .lst (sts SW (Y+1)):: .lst (pgs PG Y)::L):=by
 obtain⟨L,y6,y7,b2⟩:=ZCk hy hY hnew hag hm (s1:=vk (SW 0)) (G:=G) fuel 0 [] v4 v4 (by lia) (by unfold fuel;lia);have e1:sts SW (0+1)=[SW 0]:=rfl;have e2:pgs PG 0=[]:=rfl;rw[e1,e2]at b2;have hb:=hy.bel;have tn:tidy G (.ok (.ref G.length) (G++[.lst [SW 0]]))=.ok (.ref G.length) (G++[.lst [SW 0]]):=Hy (by simp[hb]);have tn2:tidy (G++[.lst [SW 0]]) (.ok (.ref (G.length+1)) (G++[.lst [SW 0],.lst []]))=.ok (.ref (G.length+1)) (G++[.lst [SW 0],.lst []]):=ZCq rfl
 have td:tidy G (.ok (.tup [.ref G.length,.ref (G.length+1)]) (G++ .lst (sts SW (Y+1)):: .lst (pgs PG Y)::L))=.ok (.tup [.ref G.length,.ref (G.length+1)]) (G++ .lst (sts SW (Y+1)):: .lst (pgs PG Y)::L):=Xm (by simp);refine⟨L,?_⟩;generalize sts SW (Y+1)=ss at*;generalize pgs PG Y=ps at*;unfold Ju Z3;rw[Bl];simp[Bg,tn,tn2,b2,Bf,td]
theorem ZFn(hy:Yr H FL SW PG)(hM:M<1000)(hnew:∀w,w<=M->SW w∉sts SW w)(G:DH):
  ∃G',Ju [H,SW 0,FL,.int M] G=.err ⟨"TooLong",[("most",.int M)]⟩ (G++G'):=by
 obtain⟨G',b2⟩:=ZDT hy hM hnew (s1:=vk (SW 0)) (G:=G) fuel 0 [] v4 v4 (by lia) (by unfold fuel;lia);have e1:sts SW (0+1)=[SW 0]:=rfl;have e2:pgs PG 0=[]:=rfl;rw[e1,e2]at b2;have hb:=hy.bel;refine⟨G',?_⟩;have tn:tidy G (.ok (.ref G.length) (G++[.lst [SW 0]]))=.ok (.ref G.length) (G++[.lst [SW 0]]):=Hy (by simp[hb]);have tn2:tidy (G++[.lst [SW 0]]) (.ok (.ref (G.length+1)) (G++[.lst [SW 0],.lst []]))=.ok (.ref (G.length+1)) (G++[.lst [SW 0],.lst []]):=ZCq rfl
 unfold Ju Z3;rw[Bl];simp[Bg,tn,tn2,b2,tidy]
theorem Rx(h0:∀G,Ak H (.int 0) G=.ok (.int yr) G)(h1:∀G,Bs [FL] G=.ok (.int yr) G)(G:DH):Qg [H,FL] G=.ok .non G:=by unfold Qg ZFZ;rw[Bl];simp[h0,h1,Bv]
end
section
variable{H FL:D}{SW:Nat->D}{PG:Nat->List D}
theorem ZLz{ss ps:List D}(h1:bels G.length ss=v5)(h2:bels G.length ps=v5):freeze G (.ok (.tup [.ref G.length,.ref (G.length+1)]) (G++ .lst ss:: .lst ps::L))=.ok (.tup [.fl ss,.fl ps]) G:=by
 unfold freeze;have m:Ef (G++ .lst ss:: .lst ps::L) G.length 9 (.tup [.ref G.length,.ref (G.length+1)])=vk (.tup [.fl ss,.fl ps]):=by
  unfold Ef;have g0:(G++DO.lst ss:: .lst ps::L)[G.length]?=vk (.lst ss):=by rw[Hz];rfl
  have g1:(G++DO.lst ss:: .lst ps::L)[G.length+1]?=vk (.lst ps):=by rw[Tv];rfl
  have m1:Ef (G++ .lst ss:: .lst ps::L) G.length 8 (.ref G.length)=vk (.fl ss):=by unfold Ef;simp only[g0];simp[Tq h1]
  have m2:Ef (G++ .lst ss:: .lst ps::L) G.length 8 (.ref (G.length+1))=vk (.fl ps):=by unfold Ef;simp only[g1];simp[Tq h2]
  simp[J8,m1,m2]
 simp[m]
theorem ZDm(hy:Yr H FL SW PG)(hY:Y<=900)(hnew:∀w,w<Y->SW w∉sts SW w)(hag:SW Y∈sts SW Y)(hm:(Y:Int)<=most)(G:DH):
  freeze G (Ju [H,SW 0,FL,.int most] G)=.ok (.tup [.fl (sts SW (Y+1)),.fl (pgs PG Y)]) G:=by
 obtain⟨L,hc⟩:=ZLK hy hY hnew hag hm G;rw[hc,ZLz (Pb hy.bel) (ZHD hy.pb _)]
theorem ZGX(hy:Yr H FL SW PG)(h0:∀G,Ak H (.int 0) G=.ok (.int yr) G)(h1:∀G,Bs [FL] G=.ok (.int yr) G)(hY:Y<=900)(hnew:∀w,w<Y->SW w∉sts SW w)(hag:SW Y∈sts SW Y)(hm:(Y:Int)<=most)(G:DH):
  J6 [H,SW 0,FL,.int most] G=.ok (.fl (sts SW (Y+1))) G:=by
 have hP:=ZDm hy hY hnew hag hm G;have hc:=Rx h0 h1 G;have be:bels G.length (sts SW (Y+1))=v5:=Pb hy.bel;generalize sts SW (Y+1)=ss at*;unfold J6 Yx;rw[Bl];simp[hc,hP,be,Bv]
theorem ZJO(hy:Yr H FL SW PG)(h0:∀G,Ak H (.int 0) G=.ok (.int yr) G)(h1:∀G,Bs [FL] G=.ok (.int yr) G)(hM:M<1000)(hnew:∀w,w<=M->SW w∉sts SW w)(G:DH):
  ∃G',J6 [H,SW 0,FL,.int M] G=.err ⟨"TooLong",[("most",.int M)]⟩ (G++G'):=by
 obtain⟨G',hP⟩:=ZFn hy hM hnew G;have hc:=Rx h0 h1 G;refine⟨G',?_⟩;unfold J6 Yx;rw[Bl];simp[hc,hP,freeze,tidy]
end
theorem ZDv{te:DE}{S:DSt}{E:α->D}{F:α->D}{G:DH}:∀{l:List α},(∀a∈l,te (S.set 0 (vk (E a))) G=.ok (F a) G)->Ed (gV 0) Ck te S (l.map E) G=.ok (l.map F) G
 |[],_=>rfl
 |a::l,h=>by
  have h1:=h a (by simp);have ih:=ZDv (te:=te) (S:=S) (E:=E) (F:=F) (G:=G) (l:=l) λb hb=>h b (zZ _ hb)
  rw[zk,ZBd];simp[h1,ih]
theorem ZLa{n k:Nat}(hk:k<n){b c d e f:Int}(e1:pg k=[a,b,c,d,e,f]):atI (Cd n pg) (k:Int)=vk (.tup [.int a,.int b,.int c,.int d,.int e,.int f]):=Ep rfl (by unfold Cd;rw[z0,zF hk];simp[Ii,e1])
theorem ZHe{te:DE}{n:Nat}{E1 E2 F:Nat->D}{d e:D}(hd:Bj d G=vk ((zq n).map E1))(he:Bj e G=vk ((zq n).map E2))(h:∀k,k<n->te [vk (E1 k),vk (E2 k)] G=.ok (F k) G):
  Cw (Gz [d,e]) (Bc 2 (Ai (gV 0) (Ai (gV 1) Bd))) Ck te (Bp 2 [] S) n 0 G=.ok ((zq n).map F) G:=by
 have hf:∀j,Gz [d,e] j G=vk ((zq n).map λi=>D.tup [E1 i,E2 i])[j]? :=λj=>by
  rw[ZG6 hd he,Mu,List.zip_map',jz]
  rfl
 have hc:Bp 2 [] S=[v4,v4]:=rfl;rw[hc];have key:∀m j,j+m=n->Cw (Gz [d,e]) (Bc 2 (Ai (gV 0) (Ai (gV 1) Bd))) Ck te [v4,v4] m j G=.ok ((jw j m).map F) G:=by
  intro m
  induction m with
  |zero=>
   intro j hj;unfold Cw;rw[hf,zB (by simp;lia)]
   rfl
  |succ m ih=>
   intro j hj;have hlt:j<n:=by lia
   unfold Cw;rw[hf,z0,zF hlt];have hg:(Bc 2 (Ai (gV 0) (Ai (gV 1) Bd))) (.tup [E1 j,E2 j]) [v4,v4] G=.ok [vk (E1 j),vk (E2 j)] G:=by simp
   simp only[jF,hg,R.Hl,Xi,if_true,h j hlt,ih (j+1) (by lia)];rw[List.range'_succ,zk]
 have:=key n 0 (by lia);rw[this,List.range_eq_range']
def leN(n:Nat)(a b:Nat->Int):Bool:=(zq n).all λk=>decide (a k<=b k)
def Ke(w m:Nat)(A:Nat->Nat->Int):List D:=(zq m).map λi=>D.tup (tab w (A i))
@[simp]theorem ZM3:(Ke w m A).length=m:=by simp[Ke]
def leR(w m:Nat)(A B:Nat->Nat->Int):Bool:=(zq m).all λi=>leN w (A i) (B i)
theorem ZDq{n:Nat}{p:Nat->Bool}:((zq n).map λk=>D.bl (p k))=((zq n).map p).map D.bl:=by rw[jz];rfl
theorem ZGy{ks:List Bool}:bels m (ks.map D.bl)=v5:=Gm λ_ _=>rfl
theorem ZEy{n:Nat}{a b:Nat->Int}(hn:n<=1000)(G:DH):Qq [.tup (tab n a),.tup (tab n b)] G=.ok (.bl (leN n a b)) G:=by
 have hz:=Xu (G:=G) (Jz (xs:=tab n a)) (Jz (xs:=tab n b));rw[ZL3]at hz;have hc:=ZHe (te:=ZAz) (S:=[vk (.tup (tab n a)),vk (.tup (tab n b))]) (n:=n) (E1:=λi=>.int (a i)) (E2:=λi=>.int (b i)) (F:=λk=>.bl (decide (a k<=b k))) (G:=G) (Jz (xs:=tab n a)) (Jz (xs:=tab n b)) λk _=>by unfold ZAz;simp
 rw[ZDq]at hc;have ha:((zq n).map λk=>decide (a k<=b k)).all id=leN n a b:=by rw[List.all_map];rfl
 have hl:((zq n).map λk=>decide (a k<=b k)).length<=1000000:=by simp;lia
 generalize((zq n).map λk=>decide (a k<=b k))=ks at hc ha hl;have fz:freeze G (.ok (.ref G.length) (G++[.lst (ks.map D.bl)]))=.ok (.fl (ks.map D.bl)) G:=Ir ZGy;unfold Qq ZEi;rw[Bl];simp[hz,hc,hl,fz,ha,Bv]
theorem ZG1{m':Nat}{B:Nat->Nat->Int}(hw:w<=1000)(hm:m<=1000){d e:D}(hd:Bj d G=vk (Ke w m A))(he:Bj e G=vk (Ke w m' B))(ld:Bs [d] G=.ok (.int m) G)(le':Bs [e] G=.ok (.int m') G):
  Kl [d,e] G=.ok (.bl (decide (m=m')&&leR w m A B)) G:=by
 by_cases h:m=m'
 ·subst h;have hz:=Xu (G:=G) hd he;rw[ZM3]at hz;have hc:=ZHe (te:=ZBN) (S:=[vk d,vk e]) (n:=m) (E1:=λi=>.tup (tab w (A i))) (E2:=λi=>.tup (tab w (B i))) (F:=λk=>.bl (leN w (A k) (B k))) (G:=G) hd he λk _=>by unfold ZBN;simp[ZEy hw]
  rw[ZDq]at hc;have ha:((zq m).map λk=>leN w (A k) (B k)).all id=leR w m A B:=by rw[List.all_map];rfl
  have hl:((zq m).map λk=>leN w (A k) (B k)).length<=1000000:=by simp;lia
  generalize((zq m).map λk=>leN w (A k) (B k))=ks at hc ha hl;have fz:freeze G (.ok (.ref G.length) (G++[.lst (ks.map D.bl)]))=.ok (.fl (ks.map D.bl)) G:=Ir ZGy;unfold Kl X4;rw[Bl];simp[ld,le',hz,hc,hl,fz,ha,Bv]
 ·have h2:¬(m:Int)=(m':Int):=by lia
  unfold Kl X4;rw[Bl];simp[ld,le',h,h2,Bv]
theorem ZHy{n:Nat}(hn:n<=1000)(G:DH):Vd [stD n lv co,stD n lv' co'] G=.ok (.bl (leN n lv lv'&&leR 5 n co co')) G:=by
 have h1:=ZEy hn (a:=lv) (b:=lv') G;have h2:=ZG1 (w:=5) (m:=n) (m':=n) (A:=co) (B:=co') (by lia) hn (d:=.tup (Dl n co)) (e:=.tup (Dl n co')) (G:=G) rfl rfl (by simp) (by simp);simp at h2;unfold stD Vd ZEc;rw[Bl]
 cases e:leN n lv lv'<;>simp[h1,h2,e,Bv]
theorem ZGp{n:Nat}:Be n fls=Ke n fls.length λi=>fls.getD i λ_=>0:=by
 refine jJ (by simp[Be,Ke]) λi h1 h2=>?_
 have hi:i<fls.length:=by simpa[Be]using h1
 simp[Be,Ke,zE,hi]
theorem ZNS{n:Nat}(hn:n<=1000)(hl:fls.length<=1000)(G:DH):Kl [.fl (Be n fls),.fl (Be n fls')] G=.ok (.bl (decide (fls.length=fls'.length)&&leR n fls.length (λi=>fls.getD i λ_=>0) λi=>fls'.getD i λ_=>0)) G:=
 ZG1 hn hl (by rw[ZGp];rfl) (by rw[ZGp];rfl) (by simp[Be]) (by simp[Be])
noncomputable def wt:Nat->Str
 |1=>"took"
 |2=>"spilled"
 |3=>"let"
 |4=>"pumped"
 |_=>"lies"
def snT(b:Bool):Str:=if b=v5 then "least" else "most"
def byd(b:Bool)(x m:Int):Bool:=if b=v5 then decide (x<m)else decide (m<x)
theorem ZAl:(snT b="least")=(b=v5):=by cases b<;>simp[snT]<;>decide
def Cr(c p:Nat)(b:Bool)(m:Int):D:=.tup [.str (wt c),.int p,.str (snT b),.int m]
theorem ZH4{x m:Int}(G:DH):Vb [.int x,.str (snT b),.int m] G=.ok (.bl (byd b x m)) G:=by
 unfold Vb ZFa;rw[Bl]
 cases b<;>simp[ZAl,byd,Bv]
theorem five{P:Nat->Prop}(h1:1<=c)(h2:c<=5)(a:P 1)(b:P 2)(d:P 3)(e:P 4)(f:P 5):P c:=by rcases(by lia:c=1∨c=2∨c=3∨c=4∨c=5)with rfl|rfl|rfl|rfl|rfl<;>assumption
noncomputable def prt:List (Str×D):=[("lies",.int 5),("spilled",.int 2),("let",.int 3),("pumped",.int 4),("took",.int 1)]
theorem ZKN(h1:1<=c)(h2:c<=5):Gs (Gx [] (prt.map λkv=>(.inr kv.1,kv.2))) (.inr (wt c))=vk (.int c):=five (P:=λc=>Gs (Gx [] (prt.map λkv=>(.inr kv.1,kv.2))) (.inr (wt c))=vk (.int c)) h1 h2 rfl rfl rfl rfl rfl
theorem ZPq{kvs:List (Str×D)}{x:Str}{v:D}(h:Gs (Gx [] (kvs.map λkv=>(.inr kv.1,kv.2))) (.inr x)=vk v)(hb:bel G.length v=v5):tidy G ((sRt (dOp M7 (Vs kvs) (dV 0)) [vk (.str x)] G).ret)=.ok v G:=by
 have e:M7 (.ref G.length) (.str x) (G++[.dct (Gx [] (kvs.map λkv=>(.inr kv.1,kv.2)))])=.ok v (G++[.dct (Gx [] (kvs.map λkv=>(.inr kv.1,kv.2)))]):=by rw[ZJp (kvs:=Gx [] (kvs.map λkv=>(.inr kv.1,kv.2))) (by simp) rfl,h]
 simp[e,Og,hb]
theorem ZKV(h1:1<=c)(h2:c<=5)(G:DH):Uy [.str (wt c)] G=.ok (.int c) G:=by unfold Uy ZGi;rw[Bl];exact ZPq (kvs:=prt) (ZKN h1 h2) rfl
def Hw(b:Bool)(m:Int):List Int->Nat->Option (Nat×Int)
 |[],_=>v4
 |x::r,k=>if byd b x m=v5 then vk (k,x)else Hw b m r (k+1)
def Gi(b:Bool)(r:List Int)(x:Int):Int:=if b=v5 then r.foldl min x else r.foldl max x
def Gq(b:Bool)(m:Int)(xs:List Int):D:=match Hw b m xs 0 with
 |some (i,x)=>.tup [.str "broken",.int i,.int x]
 |none=>match xs with
  |[]=>.tup [.str "kept",.non,.non]
  |x::r=>.tup [.str "kept",.int ((x::r).idxOf (Gi b r x):Nat),.int (Gi b r x)]
theorem ZBn{f:Int->Int->Int}(hf:∀a b,f a b=a∨f a b=b):∀(r:List Int)(x:Int),r.foldl f x∈x::r
 |[],x=>by simp
 | y::r,x=>by
  have:=ZBn hf r (f x y);rw[jY];rcases zj.mp this with h|h
  ·rcases hf x y with e|e
   ·rw[h,e];simp
   ·rw[h,e];simp
  ·simp[h]
theorem ZFr{r:List Int}{x:Int}:Gi b r x∈x::r:=by
 unfold Gi;cases b
 ·exact ZBn (λa b=>by lia) r x
 ·exact ZBn (λa b=>by lia) r x
theorem ZCD{b:Bool}{m:Int}{s0 s1 s2 s3 s6 s7 s10:Option D}{G:DH}:∀(xs:List Int)(k:Nat)(x8 x9:Option D),∃y8 y9,
  Cj (Bc 2 (Ai (gV 8) (Ai (gV 9) Bd))) Ji (enS k (xs.map D.int)) [s0,s1,s2,s3,vk (.str (snT b)),vk (.int m),s6,s7,x8,x9,s10] G=
   match Hw b m xs k with
   |some (i,x)=>.rt (.tup [.str "broken",.int i,.int x]) G
   |none=>.nx [s0,s1,s2,s3,vk (.str (snT b)),vk (.int m),s6,s7,y8,y9,s10] G
 |[],k,x8,x9=>⟨x8,x9,by show Cj _ _ [] _ _=_;rw[Kg];rfl⟩
 | x::r,k,x8,x9=>by
  obtain⟨y8,y9,ih⟩:=ZCD (b:=b) (m:=m) (s0:=s0) (s1:=s1) (s2:=s2) (s3:=s3) (s6:=s6) (s7:=s7) (s10:=s10) (G:=G) r (k+1) (vk (.int k)) (vk (.int x));refine⟨y8,y9,?_⟩;have e1:((k:Int)+1)=((k+1:Nat):Int):=by lia
  show Cj _ _ (.tup [.int k,.int x]::enS ((k:Int)+1) (r.map D.int)) _ _=_;rw[Ip,e1];have hb:Ji [s0,s1,s2,s3,vk (.str (snT b)),vk (.int m),s6,s7,vk (.int k),vk (.int x),s10] G=if byd b x m=v5 then .rt (.tup [.str "broken",.int k,.int x]) G else .nx [s0,s1,s2,s3,vk (.str (snT b)),vk (.int m),s6,s7,vk (.int k),vk (.int x),s10] G:=by
   unfold Ji
   cases e:byd b x m<;>simp[ZH4,e,Bf]
  simp only[Um,Ti,Vw,Jm,R.Hl,R.Gb,jH,hb,zO,qU,Nat.reduceAdd,if_true];unfold Hw;cases e:byd b x m with
  |true=>simp
  |false=>simp only[jV,if_false,Ig,ih]
def Fv(pgs:List (Nat->List Int))(p c:Nat):List Int:=pgs.map λpg=>(pg p).getD c 0
abbrev Row6(h:Hs)(pg:Nat->List Int):Prop:=∀k,k<h.n->(pg k).length=6
theorem ZL0(po:Row6 h pg)(hp:p<h.n)(h1:1<=c)(h2:c<=5)(G:DH):∃t,atI (Cd h.n pg) (p:Int)=vk (.tup t)/\atI t (c:Int)=vk (.int ((pg p).getD c 0)):=by obtain⟨a,b,d,e,f,g,er⟩:=row6 (po p hp);refine⟨_,ZLa hp er,?_⟩;rw[er];exact five (P:=λc=>atI [D.int a,.int b,.int d,.int e,.int f,.int g] (c:Int)=vk (.int ([a,b,d,e,f,g].getD c 0))) h1 h2 rfl rfl rfl rfl rfl
theorem ZF2{m:Int}{xs:List Int}{k:Nat}:bel k (Gq b m xs)=v5:=by
 unfold Gq;split
 ·rfl
 ·split <;> rfl
theorem ZMH{pgs:List (Nat->List Int)}(hl:pgs.length<=100000)(po:∀pg∈pgs,Row6 h pg)(hp:p<h.n)(h1:1<=c)(h2:c<=5){m:Int}(G:DH):
  S8 [.fl (pgs.map (pgD h.n)),Cr c p b m] G=.ok (Gq b m (Fv pgs p c)) G:=by
 have cp:Ed (gV 0) Ck Wi [v4,vk (.int p),vk (.int c)] (pgs.map (pgD h.n)) G=.ok ((Fv pgs p c).map D.int) G:=by
  have:=ZDv (te:=Wi) (S:=[v4,vk (.int p),vk (.int c)]) (E:=pgD h.n) (F:=λpg=>.int ((pg p).getD c 0)) (G:=G) (l:=pgs) λpg hpg=>by obtain⟨t,e1,e2⟩:=ZL0 (po pg hpg) hp h1 h2 G;unfold Wi pgD;simp[e1,e2]
  rw[this,Fv,jz]
  rfl
 have hn:(Fv pgs p c).length=pgs.length:=by simp[Fv]
 generalize Fv pgs p c=xs at cp hn;have hx:xs.length<=1000000:=by lia
 obtain⟨y8,y9,hL⟩:=ZCD (b:=b) (m:=m) (s0:=vk (.fl (pgs.map (pgD h.n)))) (s1:=vk (Cr c p b m)) (s2:=vk (.str (wt c))) (s3:=vk (.int p)) (s6:=vk (.int c)) (s7:=vk (.fl (xs.map D.int))) (s10:=v4) (G:=G) xs 0 v4 v4
 have hL':Dc (Dt 0 (.fl (xs.map D.int))) (Bc 2 (Ai (gV 8) (Ai (gV 9) Bd))) Ji xs.length 0 [vk (.fl (pgs.map (pgD h.n))),vk (Cr c p b m),vk (.str (wt c)),vk (.int p),vk (.str (snT b)),vk (.int m),vk (.int c),vk (.fl (xs.map D.int)),v4,v4,v4] G=(match Hw b m xs 0 with
   |some (i,x)=>.rt (.tup [.str "broken",.int i,.int x]) G
   |none=>.nx [vk (.fl (pgs.map (pgD h.n))),vk (Cr c p b m),vk (.str (wt c)),vk (.int p),vk (.str (snT b)),vk (.int m),vk (.int c),vk (.fl (xs.map D.int)),y8,y9,v4] G):=by
  have:=ZCn (g:=Bc 2 (Ai (gV 8) (Ai (gV 9) Bd))) (b:=Ji) (xs:=xs.map D.int) (a:=0) (S:=[vk (.fl (pgs.map (pgD h.n))),vk (Cr c p b m),vk (.str (wt c)),vk (.int p),vk (.str (snT b)),vk (.int m),vk (.int c),vk (.fl (xs.map D.int)),v4,v4,v4]) (G:=G);rw[zM]at this;rw[this];exact hL
 have fz:freeze G (.ok (.ref G.length) (G++[.lst (xs.map D.int)]))=.ok (.fl (xs.map D.int)) G:=Ir (Gm λ_ _=>rfl);have cpt:=ZKV h1 h2;have hpl:pgs.length<=1000000:=by lia
 have ea:Cr c p b m=.tup [.str (wt c),.int p,.str (snT b),.int m]:=rfl;have hlP:(pgs.map (pgD h.n)).length<=1000000:=by simp;exact hpl
 have hlX:(xs.map D.int).length=xs.length:=by simp
 have pre:Tj [vk (.fl (pgs.map (pgD h.n))),vk (Cr c p b m),v4,v4,v4,v4,v4,v4,v4,v4,v4] G=Ri [vk (.fl (pgs.map (pgD h.n))),vk (Cr c p b m),vk (.str (wt c)),vk (.int p),vk (.str (snT b)),vk (.int m),vk (.int c),vk (.fl (xs.map D.int)),v4,v4,v4] G:=by
  generalize pgs.map (pgD h.n)=PG at cp hlP;have hX6:(xs.map D.int).length<=1000000:=by simp;lia
  generalize xs.map D.int=X at cp fz hX6;unfold Tj ZDN ZCW;simp[ea,cpt,Bp,cp,fz,hlP,hX6]
 have lp:Ri [vk (.fl (pgs.map (pgD h.n))),vk (Cr c p b m),vk (.str (wt c)),vk (.int p),vk (.str (snT b)),vk (.int m),vk (.int c),vk (.fl (xs.map D.int)),v4,v4,v4] G=(match Hw b m xs 0 with
   |some (i,x)=>.rt (.tup [.str "broken",.int i,.int x]) G
   |none=>U7 [vk (.fl (pgs.map (pgD h.n))),vk (Cr c p b m),vk (.str (wt c)),vk (.int p),vk (.str (snT b)),vk (.int m),vk (.int c),vk (.fl (xs.map D.int)),y8,y9,v4] G):=by
  unfold Ri;generalize pgs.map (pgD h.n)=PG at hL';generalize Cr c p b m=AK at hL';generalize xs.map D.int=X at hL' hlX;simp only[<-hlX]at hL';rw[ZHQ];have e:(El (Di Gg (Ab (dV 7) Ad)) (Bc 2 (Ai (gV 8) (Ai (gV 9) Bd))) Ji) [vk (.fl PG),vk AK,vk (.str (wt c)),vk (.int p),vk (.str (snT b)),vk (.int m),vk (.int c),vk (.fl X),v4,v4,v4] G=_:=(by simp:_=Dc (Dt 0 (.fl X)) (Bc 2 (Ai (gV 8) (Ai (gV 9) Bd))) Ji X.length 0 [vk (.fl PG),vk AK,vk (.str (wt c)),vk (.int p),vk (.str (snT b)),vk (.int m),vk (.int c),vk (.fl X),v4,v4,v4] G).trans hL'
  rw[e];cases Hw b m xs 0 with
  |some q=>rfl
  |none=>rfl
 have bA:bel G.length (Gq b m xs)=v5:=ZF2;have go:Ri [vk (.fl (pgs.map (pgD h.n))),vk (Cr c p b m),vk (.str (wt c)),vk (.int p),vk (.str (snT b)),vk (.int m),vk (.int c),vk (.fl (xs.map D.int)),v4,v4,v4] G=.rt (Gq b m xs) G:=by
  rw[lp];unfold Gq;cases hF:Hw b m xs 0 with
  |some q=>rfl
  | none=>
   generalize pgs.map (pgD h.n)=PG;generalize Cr c p b m=AK;cases xs with
   |nil=>
    unfold U7;simp[Bf]
   | cons x r=>
    have mm:Gi b r x∈x::r:=ZFr;have ix:∀G,Li (.fl ((x::r).map D.int)) [.int (Gi b r x)] G=.ok (.int ((x::r).idxOf (Gi b r x):Nat)) G:=λG=>ZOS rfl mm hx
    have mn:∀G,Ik [.fl ((x::r).map D.int)] G=.ok (.int (r.foldl min x)) G:=λG=>ZJ8 rfl
    have mx:∀G,Jr [.fl ((x::r).map D.int)] G=.ok (.int (r.foldl max x)) G:=λG=>ZOc rfl
    have l0:¬((x::r).map D.int)=[]:=by simp
    dsimp only;have bl:Gi b r x=if b=v5 then r.foldl min x else r.foldl max x:=rfl
    generalize(((x::r).idxOf (Gi b r x):Nat):Int)=I at ix⊢;generalize(x::r).map D.int=X at*;have t5:dIf (Ay (dOp Bx (dV 4) (dC (.str "least")))) (dFn Ik (Ab (dV 7) Ad)) (dFn Jr (Ab (dV 7) Ad)) [vk (.fl PG),vk AK,vk (.str (wt c)),vk (.int p),vk (.str (snT b)),vk (.int m),vk (.int c),vk (.fl X),y8,y9,v4] G=.ok (.int (Gi b r x)) G:=by
     rw[bl]
     cases b<;>simp[ZAl,mn,mx]
    generalize Gi b r x=B at*;unfold U7 ZEl ZF6;generalize dIf (Ay (dOp Bx (dV 4) (dC (.str "least")))) (dFn Ik (Ab (dV 7) Ad)) (dFn Jr (Ab (dV 7) Ad))=te at t5;simp[l0,t5,ix,Bf]
 unfold S8;rw[Bl];show tidy G ((Tj [vk (.fl (pgs.map (pgD h.n))),vk (Cr c p b m),v4,v4,v4,v4,v4,v4,v4,v4,v4] G).ret)=_;rw[pre,go];exact Bv bA
theorem ZPy(G:DH):Qm (.str (snT b)) (.tup [.str "least",.str "most"]) G=.ok (.bl v6) G:=by cases b<;>rfl
noncomputable def knd:List (Str×Str):=[("lies","basin"),("spilled","basin"),("let","basin"),("pumped","basin"),("took","town")]
def knT(c:Nat):Str:=if c=1 then "town" else "basin"
theorem ZId(h1:1<=c)(h2:c<=5):knd.lookup (wt c)=vk (knT c):=five (P:=λc=>knd.lookup (wt c)=vk (knT c)) h1 h2 rfl rfl rfl rfl rfl
theorem ZGd(hp:p<h.n)(h1:1<=c)(h2:c<=5)(hk:(h.pl p).kd.txt=knT c){m:Int}(G:DH):Vm [h.enc,Cr c p b m] G=.ok .non G:=by
 have e:=ZId h1 h2;have g1:Np knd (.str (wt c)) G=.ok (.str (knT c)) G:=ZNY e;have ea:Cr c p b m=.tup [.str (wt c),.int p,.str (snT b),.int m]:=rfl;have eb:ZG7=(Ag (sAs (dV 1) (Bc 4 (Ai (gV 2) (Ai (gV 3) (Ai (gV 4) (Ai (gV 5) Bd)))))) (Ag (sIf (dOr (Ay (dOp Qm (dV 4) (dC (.tup [.str "least",.str "most"])))) (Ay (dUn (Rg knd) (dV 2)))) Hg sNx) (Ag (sIf (Jt (Ay (Nv Ky Hn (dC (.int 0)) (dV 3) (dFn Bs (Ab (dOp Ak (dV 0) (dC (.int 1))) Ad))))) Hg sNx) (sIf (Ay (dOp Eb (dOp Ak (dOp Ak (dOp Ak (dV 0) (dC (.int 1))) (dV 3)) (dC (.int 0))) (dUn (Np knd) (dV 2)))) Hg sNx)))):=rfl
 unfold Vm;rw[Bl,eb];generalize knd=M at e g1;simp[ea,ZPy,e,g1,Fe,Hs.T3,hp,Hs.Gj hp,hk,Bv]
theorem ZCl{n:Nat}(hn:n<=1000)(hl:fls.length<=1000)(u1:(leN n lv lv'&&leR 5 n co co')=v5)
  (u2:(decide (fls.length=fls'.length)&&leR n fls.length (λi=>fls.getD i λ_=>0) λi=>fls'.getD i λ_=>0)=v5) (G:DH):Vj [stD n lv co,stD n lv' co',.fl (Be n fls),.fl (Be n fls')] G=.ok .non G:=by
 have h1:=ZHy hn (lv:=lv) (lv':=lv') (co:=co) (co':=co') G;have h2:=ZNS hn (fls:=fls) (fls':=fls') hl G;rw[u1]at h1;rw[u2]at h2;unfold Vj ZDS;rw[Bl];simp[h1,h2,Bv]
theorem ZHK{n:Nat}{m:Int}(G:DH):
  Vf [stD n lv co,stD n lv' co',.fl (Be n fls),.fl (Be n fls'),Cr c p b m] G=.ok (.tup [stD n (if b=v5 then lv else lv') (if b=v5 then co else co'),.fl (Be n (if b=v5 then fls else fls'))]) G:=by
 have ea:Cr c p b m=.tup [.str (wt c),.int p,.str (snT b),.int m]:=rfl;unfold Vf ZEt;rw[Bl]
 cases b<;>simp[ea,ZAl,Bf,Bv]
section
variable{h:Hs}{lv lv':Nat->Int}{co co':Nat->Nat->Int}{fls fls':List (Nat->Int)}{p c:Nat}{b:Bool}{m:Int}{SW:Nat->D}{PL:Nat->List (Nat->List Int)}
structure LE (h:Hs) (lv lv':Nat->Int) (co co':Nat->Nat->Int) (fls fls':List (Nat->Int)) (p c:Nat) (b:Bool) (SW:Nat->D) (PL:Nat->List (Nat->List Int)):Prop where
 g:GoodH h
 hl:fls.length<=1000
 yr:((fls.length:Nat):Int)=h.yr
 hp:p<h.n
 h1:1<=c
 h2:c<=5
 hk:(h.pl p).kd.txt=knT c
 u1:(leN h.n lv lv'&&leR 5 h.n co co')=v5
 u2:(decide (fls.length=fls'.length)&&leR h.n fls.length (λi=>fls.getD i λ_=>0) λi=>fls'.getD i λ_=>0)=v5
 hy:Yr h.enc (.fl (Be h.n (if b=v5 then fls else fls'))) SW λw=>(PL w).map (pgD h.n)
 h0:SW 0=stD h.n (if b=v5 then lv else lv') (if b=v5 then co else co')
 po:∀w,∀pg∈PL w,Row6 h pg
theorem ZOz(L:LE h lv lv' co co' fls fls' p c b SW PL)(hY:Y<=900)(hnew:∀w,w<Y->SW w∉sts SW w)(hag:SW Y∈sts SW Y)(hm:(Y:Int)<=most)(G:DH):
  Im [h.enc,stD h.n lv co,stD h.n lv' co',.fl (Be h.n fls),.fl (Be h.n fls'),Cr c p b m,.int most] G=.ok (Gq b m (Fv ((zq Y).flatMap PL) p c)) G:=by
 have hn:=L.g.len;have c1:=ZGd L.hp L.h1 L.h2 L.hk (b:=b) (m:=m) G;have c2:=ZCl (by lia) L.hl L.u1 L.u2 G;have c3:=ZHK (n:=h.n) (c:=c) (p:=p) (b:=b) (m:=m) (lv:=lv) (lv':=lv') (co:=co) (co':=co') (fls:=fls) (fls':=fls') G;have c4:=ZDm L.hy hY hnew hag hm G;have cy:=Rx (H:=h.enc) (FL:=.fl (Be h.n fls)) (yr:=h.yr) (λ_=>Wc) (λ_=>by simp[Rm,L.yr]) G;have ep:pgs (λw=>(PL w).map (pgD h.n)) Y=((zq Y).flatMap PL).map (pgD h.n):=by unfold pgs;rw[List.map_flatMap]
 have hlen:=ZB1 (PG:=λw=>(PL w).map (pgD h.n)) L.hy.pl Y;rw[ep]at c4 hlen;have c5:=ZMH (pgs:=(zq Y).flatMap PL) (by rw[zM]at hlen;lia) (λpg hpg=>by obtain⟨w,_,hw⟩:=List.mem_flatMap.mp hpg;exact L.po w pg hw) L.hp L.h1 L.h2 (b:=b) (m:=m) G
 have bA:∀k,bel k (Gq b m (Fv ((zq Y).flatMap PL) p c))=v5:=λk=>ZF2
 rw[<-L.h0]at c3;generalize(if b=v5 then fls else fls')=F at c3 c4;generalize Gq b m (Fv ((zq Y).flatMap PL) p c)=R at c5 bA⊢;generalize((zq Y).flatMap PL).map (pgD h.n)=PG at c4 c5;generalize sts SW (Y+1)=ss at c4;unfold Im Zv;rw[Bl];simp[c1,c2,c3,cy,c4,c5,Bv,bA]
theorem ZMD(L:LE h lv lv' co co' fls fls' p c b SW PL)(hM:M<1000)(hnew:∀w,w<=M->SW w∉sts SW w)(G:DH):
  ∃G',Im [h.enc,stD h.n lv co,stD h.n lv' co',.fl (Be h.n fls),.fl (Be h.n fls'),Cr c p b m,.int M] G=.err ⟨"TooLong",[("most",.int M)]⟩ (G++G'):=by
 have hn:=L.g.len;have c1:=ZGd L.hp L.h1 L.h2 L.hk (b:=b) (m:=m) G;have c2:=ZCl (by lia) L.hl L.u1 L.u2 G;have c3:=ZHK (n:=h.n) (c:=c) (p:=p) (b:=b) (m:=m) (lv:=lv) (lv':=lv') (co:=co) (co':=co') (fls:=fls) (fls':=fls') G;obtain⟨G',c4⟩:=ZFn L.hy hM hnew G;have cy:=Rx (H:=h.enc) (FL:=.fl (Be h.n fls)) (yr:=h.yr) (λ_=>Wc) (λ_=>by simp[Rm,L.yr]) G;rw[<-L.h0]at c3;generalize(if b=v5 then fls else fls')=F at c3 c4
 refine⟨G',?_⟩;unfold Im Zv;rw[Bl];simp[c1,c2,c3,cy,c4,freeze,tidy]
end
def pond(yr brim:Int)(dl:Nat):Hs:=⟨yr,[⟨"pond",v4,dl,.basin brim [(0,[])] v4⟩]⟩
section
variable{yr brim:Int}{dl:Nat}
theorem Ua{k:Nat}(hk:k<(pond yr brim dl).n):k=0:=by have:k<1:=hk;lia
theorem K6{k:Nat}(hk:k<(pond yr brim dl).n):(pond yr brim dl).pl k=⟨"pond",v4,dl,.basin brim [(0,[])] v4⟩:=by rw[Ua hk];rfl
theorem ZHV(hy:0<yr)(hb:0<=brim)(hd:dl<=5):GoodH (pond yr brim dl):=by
 refine⟨hy,by show 1<=12;lia,λi j h1 h2 _=>by rw[Ua h1,Ua h2],λi hi=>?_,λk d hk e=>?_,λk hk=>?_,λk b r to d m hk e=>?_,λk b r q hk e=>?_,λk a b hk e=>?_⟩
 ·rw[K6 hi];show("pond":Str)≠"sea"
  decide
 ·rw[K6 hk]at e;cases e
 ·rw[K6 hk];exact hd
 ·rw[K6 hk]at e;cases e
 ·rw[K6 hk]at e;cases e;refine⟨hb,λs hs=>?_⟩;cases List.mem_singleton.mp hs
  trivial
 ·rw[K6 hk]at e;cases e
theorem ZMN{s:St2}{L:Int}(h1:s.1 0=L)(h2:∀j,s.2 0 j=0):((pond yr brim dl).Hb s a fl).1 0=min (L+fl 0) brim/\(∀j,((pond yr brim dl).Hb s a fl).2 0 j=0):=by
 have hh:held (a%yr) [((0:Int),([]:List Stp))] []=[]:=by simp[held]
 have e:(pond yr brim dl).csB s.1 s.2 a fl=(pond yr brim dl).basin (a%yr) s.1 (cs0 s.2 fl) 0:=rfl;have e2:(pond yr brim dl).basin (a%yr) s.1 (cs0 s.2 fl) 0={cs0 s.2 fl with page:=λi=>if i=0 then[(cs0 s.2 fl).came 0,0,s.1 0+(cs0 s.2 fl).came 0-0-0-min (s.1 0+(cs0 s.2 fl).came 0-0-0) brim,0,0,min (s.1 0+(cs0 s.2 fl).came 0-0-0) brim]else(cs0 s.2 fl).page i}:=by
  show(let w:=s.1 0+(cs0 s.2 fl).came 0;let st:=held (a%yr) [((0:Int),([]:List Stp))] [];let stays:=w-rv w st-pm w st;let lies:=min stays brim;({cs0 s.2 fl with page:=λi=>if i=0 then[(cs0 s.2 fl).came 0,0,stays-lies,rv w st,pm w st,lies]else(cs0 s.2 fl).page i}:Cs))=_;simp only[hh,rv,pm]
 have ec:(cs0 s.2 fl).came 0=fl 0:=by show fl 0+s.2 0 0=fl 0;rw[h2 0];lia
 refine⟨?_,λj=>?_⟩
 ·show lies ((pond yr brim dl).csB s.1 s.2 a fl).page 0=_;rw[e,e2];show min (s.1 0+(cs0 s.2 fl).came 0-0-0) brim=_;rw[ec,h1]
  congr 1
  lia
 ·show((pond yr brim dl).csB s.1 s.2 a fl).coming 0 j=0;rw[e,e2];show J1 s.2 0 j=0;unfold J1;split
  ·exact h2 _
  ·rfl
noncomputable def lvls(b:Int):Int->List (Nat->Int)->List Int
 |_,[]=>[]
 |L,f::r=>min (L+f 0) b::lvls b (min (L+f 0) b) r
noncomputable def fill(b:Int):Int->List (Nat->Int)->Int
 |L,[]=>L
 |L,f::r=>fill b (min (L+f 0) b) r
theorem Xq:∀(fls:List (Nat->Int))(s:St2)(L a:Int),s.1 0=L->(∀j,s.2 0 j=0)->
  ((pond yr brim dl).G8 fls s a).1 0=fill brim L fls/\(∀j,((pond yr brim dl).G8 fls s a).2 0 j=0)/\Fv ((pond yr brim dl).Fj fls s a) 0 5=lvls brim L fls
 |[],s,L,a,h1,h2=>⟨h1,h2,rfl⟩
 |f::r,s,L,a,h1,h2=>by
  obtain⟨k1,k2⟩:=ZMN (yr:=yr) (brim:=brim) (dl:=dl) (a:=a) (fl:=f) h1 h2;obtain⟨i1,i2,i3⟩:=Xq r ((pond yr brim dl).Hb s a f) (min (L+f 0) brim) (a+1) k1 k2;refine⟨i1,i2,?_⟩;show(((pond yr brim dl).csB s.1 s.2 a f).page 0).getD 5 0::Fv ((pond yr brim dl).Fj r ((pond yr brim dl).Hb s a f) (a+1)) 0 5=_;rw[i3];show _=min (L+f 0) brim::lvls brim (min (L+f 0) brim) r;rw[<-k1]
  rfl
def rain(c:Int)(wh:Nat)(i m:Nat):List (Nat->Int):=(jw i m).map λk=>λ_=>if k=wh then c else 0
theorem Z1{c b L:Int}{wh:Nat}(hL:L<=b)(hc:0<=c):∀(m i:Nat)(x:Int),x=(if i<=wh then L else min (L+c) b)->
  lvls b x (rain c wh i m)=((jw i m).map λk=>if k<wh then L else min (L+c) b)/\fill b x (rain c wh i m)=if i+m<=wh then L else min (L+c) b
 |0,i,x,e=>⟨rfl,e⟩
 | m+1,i,x,e=>by
  have hx:min (x+(if i=wh then c else 0)) b=if i+1<=wh then L else min (L+c) b:=by
   rw[e]
   repeat' split
   all_goals lia
  obtain⟨i1,i2⟩:=Z1 hL hc (wh:=wh) m (i+1) _ hx;have er:rain c wh i (m+1)=(λ_=>if i=wh then c else 0)::rain c wh (i+1) m:=rfl;rw[er];refine⟨?_,?_⟩
  ·show min (x+(if i=wh then c else 0)) b::lvls b (min (x+(if i=wh then c else 0)) b) (rain c wh (i+1) m)=_;rw[i1,hx,List.range'_succ,zk]
   rfl
  ·show fill b (min (x+(if i=wh then c else 0)) b) (rain c wh (i+1) m)=_;rw[i2];have:i+1+m=i+(m+1):=by lia
   rw[this]
end
theorem ZM2:AllB (pond yr brim dl):=λk hk=>by rw[K6 hk];rfl
theorem ZCB:∀lv co a fl,∀k,k<(pond yr brim dl).n->(((pond yr brim dl).csB lv co a fl).page k).length=6:=λlv co a fl k hk=>by
 rw[Ua hk]
 rfl
theorem pond6:∀(fls:List (Nat->Int))(s:St2)(a:Int),∀pg∈(pond yr brim dl).Fj fls s a,Row6 (pond yr brim dl) pg
 |[],s,a,pg,hp=>nomatch hp
 |fl::r,s,a,pg,hp=>by
  rcases zj.mp hp with rfl|hp
  ·exact ZCB _ _ _ _
  ·exact pond6 r _ _ pg hp
section
variable{yr:Nat}{lev lack c:Int}{dl wh:Nat}
noncomputable def lv58(lev lack c:Int)(w:Nat):Int:=min (lev+lack) (lev+c*w)
def SW58(lev lack c:Int)(w:Nat):D:=stD 1 (λ_=>lv58 lev lack c w) λ_ _=>0
theorem Ms:SW58 lev lack c w=.tup [.tup [.int (lv58 lev lack c w)],.tup [.tup [.int 0,.int 0,.int 0,.int 0,.int 0]]]:=rfl
def PL58(yr:Nat)(lev lack c:Int)(dl wh:Nat)(w:Nat):List (Nat->List Int):=(pond yr (lev+lack) dl).Fj (rain c wh 0 yr) (λ_=>lv58 lev lack c w,λ_ _=>0) 0
structure Pd (yr:Nat) (lev lack c:Int) (dl wh:Nat):Prop where
 y:1<=yr/\yr<=24
 v:0<=lev
 k:0<=lack/\lack<=310
 c:1<=c/\c<=3
 d:dl<=5
 w:wh<yr
theorem Wf:lv58 lev lack c w<=lev+lack:=by unfold lv58;lia
theorem ZEp(hc:0<=c):min (lv58 lev lack c w+c) (lev+lack)=lv58 lev lack c (w+1):=by
 unfold lv58;have:c*((w+1:Nat):Int)=c*w+c:=by rw[Int.natCast_add,Int.mul_add];lia
 rw[this];lia
theorem Km:(rain c wh i m).length=m:=by simp[rain]
theorem ZJe(h1:lv 0=lv' 0)(h2:∀j,co 0 j=co' 0 j):stD 1 lv co=stD 1 lv' co':=by
 have e:∀(lv:Nat->Int)(co:Nat->Nat->Int),stD 1 lv co=.tup [.tup [.int (lv 0)],.tup [.tup [.int (co 0 0),.int (co 0 1),.int (co 0 2),.int (co 0 3),.int (co 0 4)]]]:=λ_ _=>rfl
 rw[e,e,h1,h2,h2,h2,h2,h2]
theorem yr58(P:Pd yr lev lack c dl wh):Yr (pond yr (lev+lack) dl).enc (.fl (Be 1 (rain c wh 0 yr))) (SW58 lev lack c) λw=>(PL58 yr lev lack c dl wh w).map (pgD 1):=by
 have y:=P.y;have k:=P.k;have v:=P.v;have cc:=P.c;refine⟨λw G=>?_,λw=>rfl,λw m=>ZHp,λw m=>ZNO,λw=>?_⟩
 ·have h1:=ZP1 (ZHV (yr:=yr) (brim:=lev+lack) (dl:=dl) (by lia) (by lia) P.d) ZM2 ZCB (s:=(λ_=>lv58 lev lack c w,λ_ _=>0)) (a:=0) (fls:=rain c wh 0 yr) (by rw[Km];lia) G;obtain⟨k1,k2,_⟩:=Xq (yr:=yr) (brim:=lev+lack) (dl:=dl) (rain c wh 0 yr) (λ_=>lv58 lev lack c w,λ_ _=>0) (lv58 lev lack c w) 0 rfl λ_=>rfl
  have k3:=(Z1 (wh:=wh) (Wf (lev:=lev) (lack:=lack) (c:=c) (w:=w)) (show 0<=c by lia) yr 0 (lv58 lev lack c w) (by simp)).2;rw[k3,if_neg (by have:=P.w;lia),ZEp (by lia)]at k1;have e:stD 1 ((pond yr (lev+lack) dl).G8 (rain c wh 0 yr) (λ_=>lv58 lev lack c w,λ_ _=>0) 0).1 ((pond yr (lev+lack) dl).G8 (rain c wh 0 yr) (λ_=>lv58 lev lack c w,λ_ _=>0) 0).2=SW58 lev lack c (w+1):=ZJe k1 k2;rw[<-e]
  exact h1
 ·rw[zM];unfold PL58;rw[ZB9,Km];lia
noncomputable def full(lack c:Int):Nat:=((lack+c-1)/c).toNat
theorem ZBV(hk:0<=lack)(hc:1<=c):lack<=c*(full lack c:Nat)/\c*(full lack c:Nat)<lack+c:=by
 have h1:=Int.mul_ediv_add_emod (lack+c-1) c;have h2:=Int.emod_nonneg (lack+c-1) (show c≠0 by lia);have h3:=Int.emod_lt_of_pos (lack+c-1) (show 0<c by lia);have h4:0<=(lack+c-1)/c:=Int.ediv_nonneg (by lia) (by lia);have e:((full lack c:Nat):Int)=(lack+c-1)/c:=by unfold full;lia
 rw[e];lia
theorem Gw(hk:0<=lack)(hc:1<=c):(full lack c<=w->lv58 lev lack c w=lev+lack)/\(w<full lack c->lv58 lev lack c w=lev+c*w/\lv58 lev lack c w<lev+lack):=by
 obtain⟨a,b⟩:=ZBV hk hc;unfold lv58;refine⟨λh=>?_,λh=>?_⟩
 ·have:c*(full lack c:Nat)<=c*(w:Nat):=qx (by lia) (by lia);lia
 ·have:c*((w:Int)+1)<=c*(full lack c:Nat):=qx (by lia) (by lia);rw[Int.mul_add]at this;lia
theorem ZCH(hk:0<=lack)(hc:1<=c)(hi:i<w)(hw:w<=full lack c):lv58 lev lack c i<lv58 lev lack c w:=by
 have h1:=(Gw (lev:=lev) hk hc (w:=i)).2 (by lia);by_cases e:w=full lack c
 ·have:=(Gw (lev:=lev) hk hc (w:=w)).1 (by lia);lia
 ·have h2:=(Gw (lev:=lev) hk hc (w:=w)).2 (by lia);have:c*((i:Int)+1)<=c*(w:Nat):=qx (by lia) (by lia);rw[Int.mul_add]at this;lia
theorem ZHd(h:SW58 lev lack c i=SW58 lev lack c w):lv58 lev lack c i=lv58 lev lack c w:=by rw[Ms,Ms]at h;simpa using h
theorem ZHr(hk:0<=lack)(hc:1<=c)(hw:w<=full lack c):SW58 lev lack c w∉sts (SW58 lev lack c) w:=λh=>by obtain⟨i,hi,e⟩:=zU.mp h;have:=ZCH (lev:=lev) hk hc (qZ.mp hi) hw;have:=ZHd e;lia
theorem ZIO(hk:0<=lack)(hc:1<=c):SW58 lev lack c (full lack c+1)∈sts (SW58 lev lack c) (full lack c+1):=by refine zU.mpr ⟨full lack c,qZ.mpr (by lia),?_⟩;rw[Ms,Ms,(Gw hk hc).1 (zY _),(Gw hk hc).1 (by lia)]
theorem ZBx(hk:0<=lack/\lack<=310)(hc:1<=c):full lack c<=310:=by
 obtain⟨a,b⟩:=ZBV hk.1 hc;by_cases h:full lack c<=310
 ·exact h
 ·have:c*311<=c*(full lack c:Nat):=qx (by lia) (by lia);lia
end
section
variable{yr:Nat}{lev lack c:Int}{dl wh:Nat}
theorem ZAc(SW:Nat->D){n:Nat}(hi:i<n):(sts SW n)[i]?=vk (SW i):=by
 unfold sts;rw[z0,zF hi]
 rfl
theorem ZFW{x:D}(h1:1<=j)(hj:j<=xs.length)(h:xs[xs.length-j]?=vk x):atI xs (-(j:Int))=vk x:=by
 rw[ZFL (by lia) (by lia)];have e:(-(j:Int)+(xs.length:Int)).toNat=xs.length-j:=by lia
 simp only[e];rw[zJ (by lia)]at h;exact h
theorem ZG4:okD 30 (SW58 lev lack c w)=v5:=rfl
theorem ZMT(hk:0<=lack)(hc:1<=c){n:Nat}(hn:n<=full lack c+2):
  V9 [s0,s1,s2,vk (.ref G.length)] (G++[.lst (sts (SW58 lev lack c) n)])=.ok (decide (n<full lack c+2)) (G++[.lst (sts (SW58 lev lack c) n)]):=by
 have ln:(sts (SW58 lev lack c) n).length=n:=Mr;have g0:(G++[DO.lst (sts (SW58 lev lack c) n)])[G.length]?=vk (.lst (sts (SW58 lev lack c) n)):=by simp
 unfold V9;by_cases h2:n<2
 ·have d1:decide (n<full lack c+2)=v5:=decide_eq_true (by lia);have d2:(((sts (SW58 lev lack c) n).length:Nat):Int)<2:=by rw[ln];lia
  rw[d1];generalize sts (SW58 lev lack c) n=ss at*;simp[g0,d2]
 ·have a1:atI (sts (SW58 lev lack c) n) (-1)=vk (SW58 lev lack c (n-1)):=ZFW (j:=1) (by lia) (by rw[ln];lia) (by rw[ln];exact ZAc _ (by lia));have a2:atI (sts (SW58 lev lack c) n) (-2)=vk (SW58 lev lack c (n-2)):=ZFW (j:=2) (by lia) (by rw[ln];lia) (by rw[ln];exact ZAc _ (by lia));have ne:∀G,Eb (SW58 lev lack c (n-1)) (SW58 lev lack c (n-2)) G=.ok (.bl (decide (n<full lack c+2))) G:=λG=>by
   rw[ZGD ZG4 ZG4]
   congr 2
   by_cases e:n<full lack c+2
   ·have:=ZCH (lev:=lev) hk hc (i:=n-2) (w:=n-1) (by lia) (by lia);have z:SW58 lev lack c (n-1)≠SW58 lev lack c (n-2):=λz=>by have:=ZHd z;lia
    simp[z,e]
   ·have z:SW58 lev lack c (n-1)=SW58 lev lack c (n-2):=by rw[Ms,Ms,(Gw hk hc).1 (by lia),(Gw hk hc).1 (by lia)]
    simp[z,e]
  have d2:¬(((sts (SW58 lev lack c) n).length:Nat):Int)<2:=by rw[ln];lia
  generalize sts (SW58 lev lack c) n=ss at*;generalize SW58 lev lack c (n-1)=A at*;generalize SW58 lev lack c (n-2)=B at*;simp[g0,d2,a1,a2,ne]
theorem ZJH(hc:1<=c/\c<=3){n:Nat}(hn:n<=400):
  Vo [vk (.int lev),vk (.int (lev+lack)),vk (.int c),vk (.ref G.length)] (G++[.lst (sts (SW58 lev lack c) n)])=.nx [vk (.int lev),vk (.int (lev+lack)),vk (.int c),vk (.ref G.length)] (G++[.lst (sts (SW58 lev lack c) (n+1))]):=by
 have ln:(sts (SW58 lev lack c) n).length=n:=Mr;have g0:(G++[DO.lst (sts (SW58 lev lack c) n)])[G.length]?=vk (.lst (sts (SW58 lev lack c) n)):=by simp
 have hm:∀G,Dg (.int c) (.int (n:Nat)) G=.ok (.int (c*n)) G:=λG=>M6 (by lia) (by lia)
 have sn:n<1000000:=by lia
 have sl:(sts (SW58 lev lack c) n).length<1000000:=by rw[ln];lia
 have st:(G++[DO.lst (sts (SW58 lev lack c) n)]).set G.length (.lst (sts (SW58 lev lack c) n++[SW58 lev lack c n]))=G++[.lst (sts (SW58 lev lack c) (n+1))]:=by rw[Qu];simp
 rw[<-st];have ew:SW58 lev lack c n=.tup [.tup [.int (min (lev+lack) (lev+c*n))],.tup [.tup [.int 0,.int 0,.int 0,.int 0,.int 0]]]:=rfl;rw[ew];generalize G++[DO.lst (sts (SW58 lev lack c) n)]=G1 at*;generalize sts (SW58 lev lack c) n=ss at*;unfold Vo;simp[g0,ln,hm,Bf,sl,sn]
theorem ZCs(hk:0<=lack/\lack<=310)(hc:1<=c/\c<=3):∀(m n:Nat),n<=full lack c+2->full lack c+2<n+m->
  sWh V9 Vo m [vk (.int lev),vk (.int (lev+lack)),vk (.int c),vk (.ref G.length)] (G++[.lst (sts (SW58 lev lack c) n)])=
   .nx [vk (.int lev),vk (.int (lev+lack)),vk (.int c),vk (.ref G.length)] (G++[.lst (sts (SW58 lev lack c) (full lack c+2))])
 |0,n,h1,h2=>by lia
 | m+1,n,h1,h2=>by
  have fl:=ZBx hk hc.1;unfold sWh;rw[ZMT hk.1 hc.1 h1];by_cases e:n<full lack c+2
  ·rw[decide_eq_true e];simp only[R.Gb,if_true];rw[ZJH hc (by lia)];simp only[Ig];exact ZCs hk hc m (n+1) (by lia) (by lia)
  ·have:n=full lack c+2:=by lia
   subst this;rw[decide_eq_false e];simp
theorem ZLc(hk:0<=lack/\lack<=310)(hc:1<=c/\c<=3)(G:DH):freeze G (Rh [.int lev,.int (lev+lack),.int c] G)=.ok (.fl (sts (SW58 lev lack c) (full lack c+2))) G:=by
 have fl:=ZBx hk hc.1;have hL:=ZCs (lev:=lev) hk hc (G:=G) fuel 0 (by lia) (by unfold fuel;lia);have e0:sts (SW58 lev lack c) 0=[]:=rfl;rw[e0]at hL;have hb:∀w m,bel m (SW58 lev lack c w)=v5:=λw m=>rfl
 have tn:tidy G (.ok (.ref G.length) (G++[.lst []]))=.ok (.ref G.length) (G++[.lst []]):=Hy rfl;have td:tidy G (.ok (.ref G.length) (G++[.lst (sts (SW58 lev lack c) (full lack c+2))]))=.ok (.ref G.length) (G++[.lst (sts (SW58 lev lack c) (full lack c+2))]):=Hy (Pb hb);have fz:freeze G (.ok (.ref G.length) (G++[.lst (sts (SW58 lev lack c) (full lack c+2))]))=.ok (.fl (sts (SW58 lev lack c) (full lack c+2))) G:=Ir (Pb hb)
 generalize sts (SW58 lev lack c) (full lack c+2)=ss at*;have hcs:Rh [.int lev,.int (lev+lack),.int c] G=.ok (.ref G.length) (G++[.lst ss]):=by unfold Rh ZFk;rw[Bl];simp[Bg,tn,hL,td]
 rw[hcs,fz]
theorem ZDY{M:Int}:∀(xs:List Int)(j:Nat),xs[j]?=vk M->(∀i,i<j->xs[i]? ≠vk M)->xs.idxOf M=j
 |[],j,h,_=>by cases h
 |x::r,0,h,_=>by
  have:x=M:=by simpa using h
  subst this;simp
 |x::r,j+1,h,hf=>by
  have hx:x≠M:=λz=>hf 0 (by lia) (by simp[z])
  have ih:=ZDY r j (by simpa using h) λi hi=>by simpa using hf (i+1) (by lia)
  have:(x==M)=v6:=by simpa using hx
  rw[List.idxOf_cons,this,ih]
  rfl
theorem ZD7:∀(r:List Int)(x:Int),x<=r.foldl max x/\∀y∈r,y<=r.foldl max x
 |[],x=>⟨j8 _,λy h=>by cases h⟩
 |z::r,x=>by
  obtain⟨a,b⟩:=ZD7 r (max x z);rw[jY];refine⟨by lia,λy hy=>?_⟩;rcases zj.mp hy with rfl|hy
  ·lia
  ·exact b y hy
theorem ZDB{m:Int}:∀(xs:List Int)(k:Nat),(∀x∈xs,x<=m)->Hw v6 m xs k=v4
 |[],k,_=>rfl
 |x::r,k,h=>by
  have:=h x (by simp);have e:byd v6 x m=v6:=by unfold byd;simp;exact this
  unfold Hw;rw[e];exact ZDB r (k+1) λy hy=>h y (zZ _ hy)
theorem ZIo{m M:Int}{xs:List Int}(hm:M<=m)(hM:∀x∈xs,x<=M)(hj:xs[j]?=vk M)(hf:∀i,i<j->xs[i]? ≠vk M):Gq v6 m xs=.tup [.str "kept",.int j,.int M]:=by
 unfold Gq;rw[ZDB xs 0 λx hx=>Int.le_trans (hM x hx) hm];have mem:M∈xs:=jC hj;cases xs with
 |nil=>cases mem
 | cons x r=>
  have e:Gi v6 r x=M:=by
   have h1:=hM _ (ZFr (b:=v6) (r:=r) (x:=x));obtain⟨a,b⟩:=ZD7 r x;have h2:M<=r.foldl max x:=by
    rcases zj.mp mem with rfl|hy
    ·exact a
    ·exact b M hy
   have h3:Gi v6 r x=r.foldl max x:=rfl;lia
  simp only;rw[e,ZDY _ _ hj hf]
theorem W5{g:Nat->Nat->Int}{yr:Nat}:∀(Y w k:Nat),w<Y->k<yr->((zq Y).flatMap λw=>(jw 0 yr).map (g w))[w*yr+k]?=vk (g w k)
 |0,w,k,h,_=>by lia
 | Y+1,w,k,h,hk=>by
  have len:∀n,((zq n).flatMap λw=>(jw 0 yr).map (g w)).length=n*yr:=λn=>by
   induction n with
   |zero=>simp
   |succ n ih=>rw[jI,List.flatMap_append,zH,ih,Nat.succ_mul];simp
  rw[jI,List.flatMap_append];by_cases e:w<Y
  ·have:w*yr+k<Y*yr:=by have:=Nat.mul_le_mul_right yr (show w+1<=Y by lia);rw[Nat.succ_mul]at this;lia
   rw[zL (by rw[len];exact this)];exact W5 Y w k e hk
  ·have:w=Y:=by lia
   subst this;rw[zC (by rw[len];lia),len];have:w*yr+k-w*yr=k:=by lia
   rw[this];simp[hk]
theorem nums58(P:Pd yr lev lack c dl wh):Fv ((zq Y).flatMap (PL58 yr lev lack c dl wh)) 0 5=(zq Y).flatMap λw=>(jw 0 yr).map λk=>if k<wh then lv58 lev lack c w else lv58 lev lack c (w+1):=by
 unfold Fv;rw[List.map_flatMap]
 congr 1
 funext w;have h:=(Xq (yr:=yr) (brim:=lev+lack) (dl:=dl) (rain c wh 0 yr) (λ_=>lv58 lev lack c w,λ_ _=>0) (lv58 lev lack c w) 0 rfl λ_=>rfl).2.2;have hc:=P.c;rw[(Z1 (wh:=wh) (Wf (lev:=lev) (lack:=lack) (c:=c) (w:=w)) (show 0<=c by lia) yr 0 (lv58 lev lack c w) (by simp)).1,ZEp (by lia)]at h;exact h
theorem ans58(P:Pd yr lev lack c dl wh){m:Int}(hm:lev+lack<=m):Gq v6 m (Fv ((zq (full lack c+1)).flatMap (PL58 yr lev lack c dl wh)) 0 5)=.tup [.str "kept",.int (if 0<lack then((full lack c:Nat)-1)*yr+wh else 0),.int (lev+lack)]:=by
 have hk:=P.k;have hc:=P.c;have hw:=P.w;obtain⟨a,b⟩:=ZBV hk.1 hc.1;have fz:lack=0->full lack c=0:=λz=>by
  by_cases e:full lack c=0
  ·exact e
  ·have:c*1<=c*(full lack c:Nat):=qx (by lia) (by lia);lia
 have fp:0<lack->1<=full lack c:=λz=>by
  by_cases e:1<=full lack c
  ·exact e
  ·have:full lack c=0:=by lia
   rw[this]at a;simp at a;lia
 rw[nums58 P];have ej:(if 0<lack then((full lack c:Nat)-1:Int)*yr+wh else 0)=((if 0<lack then(full lack c-1)*yr+wh else 0:Nat):Int):=by
  split
  ·rename_i z;have:=fp z;have e1:((full lack c:Nat):Int)-1=((full lack c-1:Nat):Int):=by lia
   rw[e1];lia
  ·rfl
 rw[ej];refine ZIo hm (λx hx=>?_) ?_ λi hi h=>?_
 ·obtain⟨w,_,hx⟩:=List.mem_flatMap.mp hx;obtain⟨k,_,rfl⟩:=zU.mp hx;have h1:=Wf (lev:=lev) (lack:=lack) (c:=c) (w:=w);have h2:=Wf (lev:=lev) (lack:=lack) (c:=c) (w:=w+1)
  split <;> assumption
 ·split
  ·rename_i z;have:=fp z;rw[W5 _ _ _ (by lia) hw,if_neg (by lia),(Gw hk.1 hc.1).1 (by lia)]
  ·have z:lack=0:=by lia
   have y:=P.y;have:=W5 (g:=λw k=>if k<wh then lv58 lev lack c w else lv58 lev lack c (w+1)) (yr:=yr) (full lack c+1) 0 0 (by lia) (by lia);rw[Nat.zero_mul]at this;rw[this,(Gw hk.1 hc.1).1 (by rw[fz z];lia),(Gw hk.1 hc.1).1 (by rw[fz z];lia)];simp
 ·split at hi
  ·rename_i z;have:=fp z;have y:=P.y;have e1:=Nat.div_add_mod i yr;have e2:=Nat.mod_lt i (show yr>0 by lia);have e3:i=i/yr*yr+i%yr:=by rw[Nat.mul_comm];lia
   have e4:i/yr<=full lack c-1:=by
    by_cases q:i/yr<=full lack c-1
    ·exact q
    ·have:=Nat.mul_le_mul_right yr (show full lack c-1+1<=i/yr by lia);rw[Nat.succ_mul]at this;lia
   rw[e3,W5 _ _ _ (by lia) e2]at h;have h':=Option.some.inj h;have l1:=((Gw (lev:=lev) hk.1 hc.1 (w:=i/yr)).2 (by lia)).2;split at h'
   ·lia
   ·rename_i q;have:i/yr≠full lack c-1:=λz2=>by rw[z2]at e3;lia
    have l2:=((Gw (lev:=lev) hk.1 hc.1 (w:=i/yr+1)).2 (by lia)).2;lia
  ·lia
end
section
variable{yr:Nat}{lev lack c:Int}{dl wh:Nat}
theorem ZD4{n:Nat}{a b:Nat->Int}(h:∀k,k<n->a k<=b k):leN n a b=v5:=qY.mpr λk hk=>decide_eq_true (h k (qZ.mp hk))
theorem ZGc{B:Nat->Nat->Int}(h:∀i,i<m->∀k,k<w->A i k<=B i k):leR w m A B=v5:=qY.mpr λi hi=>ZD4 (h i (qZ.mp hi))
theorem le58(P:Pd yr lev lack c dl wh):LE (pond yr (lev+lack) dl) (λ_=>lv58 lev lack c 0) (λ_=>lv58 lev lack c 0) (λ_ _=>0) (λ_ _=>0) (rain c wh 0 yr) (rain c wh 0 yr) 0 5 v6 (SW58 lev lack c) (PL58 yr lev lack c dl wh):=by
 have y:=P.y;have k:=P.k;have v:=P.v;have g:=ZHV (yr:=yr) (brim:=lev+lack) (dl:=dl) (by lia) (by lia) P.d;refine⟨g,by rw[Km];lia,by rw[Km];rfl,by show 0<1;lia,by lia,by lia,rfl,?_,?_,yr58 P,rfl,λw=>pond6 _ _ _⟩
 ·rw[ZD4 λk _=>j8 _,ZGc λi _ k _=>j8 _]
  rfl
 ·rw[ZGc λi _ k _=>j8 _];simp
theorem ZOe{S FL A:D}(h:J6 [H,S,FL,.int 100] G=.err ⟨"TooLong",[("most",.int 100)]⟩ (G++G')):Jd [H,S,FL,A,.str "ever"] G=.ok (.int 100) G:=by
 have td:∀L:DH,tidy G (.ok (.int 100) (G++L))=.ok (.int 100) G:=λL=>Og rfl
 have g0:(G++(G'++[DO.exc "TooLong" [("most",.int 100)]]))[(G++G').length]?=vk (DO.exc "TooLong" [("most",.int 100)]):=by rw[<-qz];simp
 unfold Jd ZAW ZB3;rw[Bl];simp[My,sTi,dTc,dfx,h,Mw,unnm,gtx,g0,td]
theorem ZIW{S FL A:D}(h:Im [H,S,S,FL,FL,A,.int 100] G=.err ⟨"TooLong",[("most",.int 100)]⟩ (G++G')):Jd [H,S,FL,A,.str "look_ever"] G=.ok (.int 100) G:=by
 have td:∀L:DH,tidy G (.ok (.int 100) (G++L))=.ok (.int 100) G:=λL=>Og rfl
 have g0:(G++(G'++[DO.exc "TooLong" [("most",.int 100)]]))[(G++G').length]?=vk (DO.exc "TooLong" [("most",.int 100)]):=by rw[<-qz];simp
 have hs:("look_ever":Str)≠"ever":=by decide
 unfold Jd ZAW ZB3;rw[Bl];simp[My,sTi,dTc,dfx,h,Mw,unnm,gtx,g0,td,hs]
theorem ZHg{n:Nat}:okD 30 (.fl (sts (SW58 lev lack c) n))=v5:=ZKW (n:=29) λd hd=>by
 obtain⟨w,_,rfl⟩:=zU.mp hd
 rfl
theorem tail58(P:Pd yr lev lack c dl wh){m:Int}(hm:lev+lack<=m):
  ZBr [s0,s1,vk (.int yr),vk (.int c),vk (.int lack),vk (.int lev),vk (.int wh),vk (pond yr (lev+lack) dl).enc,vk (.fl (Be 1 (rain c wh 0 yr))),vk (.fl (sts (SW58 lev lack c) (full lack c+2))),vk (Cr 5 0 v6 m),v4,v4,v4] G=.rt (.bl v5) G:=by
 have hk:=P.k;have hc:=P.c;have y:=P.y;have fl:=ZBx hk hc.1;have Y:=yr58 P;have L:=le58 P;have h0:∀G,Ak (pond yr (lev+lack) dl).enc (.int 0) G=.ok (.int yr) G:=λG=>Wc
 have h1:∀G,Bs [.fl (Be 1 (rain c wh 0 yr))] G=.ok (.int yr) G:=λG=>by simp[Rm,Km]
 have hnew:∀w,w<=full lack c->SW58 lev lack c w∉sts (SW58 lev lack c) w:=λw hw=>ZHr hk.1 hc.1 hw
 have hag:=ZIO (lev:=lev) hk.1 hc.1;obtain⟨N,hN⟩:∃N:Int,((full lack c+2:Nat):Int)=N:=⟨_,rfl⟩;have ln:(((sts (SW58 lev lack c) (full lack c+2)).length:Nat):Int)=N:=by rw[Mr];exact hN
 have a0:atI (sts (SW58 lev lack c) (full lack c+2)) 0=vk (SW58 lev lack c 0):=Ep (k:=0) rfl (ZAc _ (by lia));have fz:∀G:DH,freeze G (.ok (.ref G.length) (G++[.lst (Be 1 (rain c wh 0 yr))]))=.ok (.fl (Be 1 (rain c wh 0 yr))) G:=λG=>Ir ZHJ
 have lF:(Be 1 (rain c wh 0 yr)).length<=1000000:=by rw[Rm,Km];lia
 have eq:∀G,Bx (.fl (sts (SW58 lev lack c) (full lack c+2))) (.fl (sts (SW58 lev lack c) (full lack c+2))) G=.ok (.bl v5) G:=λG=>ZAm ZHg
 have ne:∀G,Eb (.fl (sts (SW58 lev lack c) (full lack c+2))) (.fl (sts (SW58 lev lack c) (full lack c+2))) G=.ok (.bl v6) G:=λG=>ZNC ZHg
 unfold ZBr;by_cases big:full lack c+2>101
 ·obtain⟨G1,e1⟩:=ZJO Y h0 h1 (M:=100) (by lia) (λw hw=>hnew w (by lia)) G;obtain⟨G2,e2⟩:=ZMD L (m:=m) (M:=100) (by lia) (λw hw=>hnew w (by lia)) G;have m1:=ZOe (A:=Cr 5 0 v6 m) e1;have m2:=ZIW e2;have e3:=ZGX Y h0 h1 (Y:=full lack c+1) (by lia) (λw hw=>hnew w (by lia)) hag (most:=N-1) (by lia) G;have m2':Jd [(pond yr (lev+lack) dl).enc,SW58 lev lack c 0,.fl (Be 1 (rain c wh 0 yr)),Cr 5 0 v6 m,.str "look_ever"] G=.ok (.int 100) G:=m2
  have big':(101:Int)<N:=by lia
  have wh100:Pr [.int 100] G=.ok (.bl v5) G:=by unfold Pr ZEQ;rw[Bl];simp[tyD,Bv]
  generalize sts (SW58 lev lack c) (full lack c+2)=ss at*;generalize(pond yr (lev+lack) dl).enc=H at*;generalize Be 1 (rain c wh 0 yr)=FL at*;generalize SW58 lev lack c 0=S0 at*;generalize Cr 5 0 v6 m=A at*;simp[ln,big',a0,fz,lF,m1,m2',wh100,dKw,e3,eq]
 ·have e3:=ZGX Y h0 h1 (Y:=full lack c+1) (by lia) (λw hw=>hnew w (by lia)) hag (most:=100) (by lia) G;have e4:=ZOz L (m:=m) (Y:=full lack c+1) (by lia) (λw hw=>hnew w (by lia)) hag (most:=100) (by lia) G;rw[ans58 P hm]at e4;have e4':Im [(pond yr (lev+lack) dl).enc,SW58 lev lack c 0,SW58 lev lack c 0,.fl (Be 1 (rain c wh 0 yr)),.fl (Be 1 (rain c wh 0 yr)),Cr 5 0 v6 m,.int 100] G=_:=e4
  have big':¬(101:Int)<N:=by lia
  have ml:∀G,Dg (.int (N-3)) (.int yr) G=.ok (.int ((N-3)*yr)) G:=λG=>ZEv (by lia) (by lia)
  have ex:(N-3)=((full lack c:Nat):Int)-1:=by lia
  generalize sts (SW58 lev lack c) (full lack c+2)=ss at*;generalize(pond yr (lev+lack) dl).enc=H at*;generalize Be 1 (rain c wh 0 yr)=FL at*;generalize SW58 lev lack c 0=S0 at*;generalize Cr 5 0 v6 m=A at*;unfold ZEb ZDj ZE9 ZEo;by_cases z:0<lack
  ·rw[if_pos z]at e4';have eqK:∀(i:Int)G,Bx (.tup [.str "kept",.int i,.int (lev+lack)]) (.tup [.str "kept",.int i,.int (lev+lack)]) G=.ok (.bl v5) G:=λi G=>ZAm rfl
   rw[ex]at ml;simp[ln,big',a0,fz,lF,dfx,e3,ne,e4',z,Bf,ex,ml,eqK]
  ·rw[if_neg z]at e4';have eqK:∀(i:Int)G,Bx (.tup [.str "kept",.int i,.int (lev+lack)]) (.tup [.str "kept",.int i,.int (lev+lack)]) G=.ok (.bl v5) G:=λi G=>ZAm rfl
   simp[ln,big',a0,fz,lF,dfx,e3,ne,e4',z,Bf,eqK]
end
theorem ZL7{yr wh:Nat}{c:Int}(hc:1<=c/\c<=3)(G:DH):Ed (gV 0) Ck Nr [v4,vk (.int c),vk (.int wh)] (Dz 0 yr) G=.ok (Be 1 (rain c wh 0 yr)) G:=by
 have go:∀(m i:Nat),Ed (gV 0) Ck Nr [v4,vk (.int c),vk (.int wh)] (Dz i m) G=.ok (Be 1 (rain c wh i m)) G:=λm=>by
  induction m with
  |zero=>intro i;rw[ZDZ,ZKb];rfl
  | succ m ih=>
   intro i;have e1:((i:Int)+1)=((i+1:Nat):Int):=by lia
   have he:Nr [vk (.int i),vk (.int c),vk (.int wh)] G=.ok (.tup [.int (if i=wh then c else 0)]) G:=by
    have hm:∀(x:Int)G,Dg (.int c) (.int x) G=.ok (.int (c*x)) G:=λx G=>M6 (by lia) (by lia)
    unfold Nr;by_cases e:i=wh
    ·simp[e,hm,Bf]
    ·have e':¬(i:Int)=wh:=by lia
     simp[e,e',hm,Bf]
   rw[ZGu,ZBd];simp only[Jm,R.Hl,jH,Xi,if_true,he];rw[e1,ih]
   rfl
 exact go yr 0
theorem ZOC(hl:ns.length<=63):∃G,M4 [.fl (ns.map D.int)] []=.ok (.bl v5) G:=by
 obtain⟨f,hf⟩:=cells hl;have h0:∀G,Dn [.fl (ns.map D.int),.int 0] G=.ok (.int (f 0)) G:=hf 0 (by lia);have h1:∀G,Dn [.fl (ns.map D.int),.int 1] G=.ok (.int (f 1)) G:=hf 1 (by lia);have h2:∀G,Dn [.fl (ns.map D.int),.int 2] G=.ok (.int (f 2)) G:=hf 2 (by lia);have h3:∀G,Dn [.fl (ns.map D.int),.int 3] G=.ok (.int (f 3)) G:=hf 3 (by lia);have h4:∀G,Dn [.fl (ns.map D.int),.int 4] G=.ok (.int (f 4)) G:=hf 4 (by lia)
 have h5:∀G,Dn [.fl (ns.map D.int),.int 5] G=.ok (.int (f 5)) G:=hf 5 (by lia);have h6:∀G,Dn [.fl (ns.map D.int),.int 6] G=.ok (.int (f 6)) G:=hf 6 (by lia)
 obtain⟨yr,hyr⟩:∃yr:Nat,(yr:Int)=if f 0%4=1 then 1+f 6%24 else 1:=⟨(if f 0%4=1 then 1+f 6%24 else 1).toNat,by split <;> lia⟩
 obtain⟨c,hc⟩:∃c:Int,c=1+f 0/16%3:=⟨_,rfl⟩;obtain⟨lk,hlk⟩:∃lk:Int,lk=c*(98+f 0/48%4)-f 0/192%c:=⟨_,rfl⟩;obtain⟨lack,hla⟩:∃lack:Int,lack=if f 0/576%2=1 then f 1%151 else lk:=⟨_,rfl⟩
 obtain⟨lev,hlev⟩:∃lev:Int,lev=f 2%1000000000000000000000000000000:=⟨_,rfl⟩
 obtain⟨wh,hwh⟩:∃wh:Nat,(wh:Int)=f 3%yr:=⟨(f 3%yr).toNat,by have:0<=f 3%(yr:Int):=Int.emod_nonneg _ (by split at hyr<;>lia);lia⟩
 obtain⟨dl,hdl⟩:∃dl:Nat,(dl:Int)=f 4%6:=⟨(f 4%6).toNat,by lia⟩
 have y1:1<=yr/\yr<=24:=by split at hyr<;>lia
 have c1:1<=c/\c<=3:=by lia
 have k1:0<=lack/\lack<=310:=by
  have m1:0<=f 0/192%c:=Int.emod_nonneg _ (by lia);have m2:f 0/192%c<c:=Int.emod_lt_of_pos _ (by lia);have m3:lk=c*(98+f 0/48%4)-f 0/192%c:=hlk;have m4:0<=lk/\lk<=310:=by rcases(by lia:c=1∨c=2∨c=3)with z|z|z<;>rw[z]at m1 m2 m3<;>lia
  rw[hla]
  split <;> lia
 have P:Pd yr lev lack c dl wh:=⟨y1,by lia,k1,c1,by lia,by have:f 3%(yr:Int)<yr:=Int.emod_lt_of_pos _ (by lia);lia⟩
 have tl:=λs0 s1=>tail58 P (m:=lev+lack+f 5%3) (by lia) (s0:=s0) (s1:=s1) (G:=[])
 have rc:=ZL7 (yr:=yr) (wh:=wh) c1 [];have rc':Ed (gV 0) Ck Nr [v4,vk (.int c),vk (.int wh)] (Dz 0 yr) []=.ok (Be 1 (rain c wh 0 yr)) []:=rc;have sc:=ZLc (lev:=lev) k1 c1 [];have fz:freeze ([]:DH) (.ok (.ref 0) [.lst (Be 1 (rain c wh 0 yr))])=.ok (.fl (Be 1 (rain c wh 0 yr))) []:=Ir (G:=[]) (L:=[]) ZHJ;have lF:(Be 1 (rain c wh 0 yr)).length<=1000000:=by rw[Rm,Km];lia
 have hr:inR (yr:Int):=Q6 (by lia) (by lia);have cz:0<c:=by lia
 have yz:0<yr:=by lia
 have ml:∀(x:Int)G,Dg (.int c) (.int x) G=.ok (.int (c*x)) G:=λx G=>M6 (by lia) (by lia)
 have hcs:∀a b c d e f g h i j k l m n:Option D,Bp 1 [3,6] [a,b,c,d,e,f,g,h,i,j,k,l,m,n]=[v4,d,g]:=λ_ _ _ _ _ _ _ _ _ _ _ _ _ _=>rfl
 have eH:(pond yr (lev+lack) dl).enc=.tup [.int yr,.tup [.tup [.str "basin",.str "pond",.str "sea",.int dl,.int (lev+lack),.tup [.tup [.int 0,.tup []]],.non]]]:=rfl;have eA:Cr 5 0 v6 (lev+lack+f 5%3)=.tup [.str "lies",.int 0,.str "most",.int (lev+lack+f 5%3)]:=rfl;rw[eH,eA]at tl;have td:tidy ([]:DH) (.ok (.bl v5) [])=.ok (.bl v5) []:=Og (G:=[]) (L:=[]) rfl;generalize Be 1 (rain c wh 0 yr)=FL at*
 generalize sts (SW58 lev lack c) (full lack c+2)=ss at*;have e8:Zw [vk (.fl (ns.map D.int)),vk (.int (f 0)),vk (.int yr),vk (.int c),vk (.int lack),vk (.int lev),vk (.int wh),v4,v4,v4,v4,v4,v4,v4] []=.rt (.bl v5) []:=by unfold Zw ZDA ZC7 ZEe;simp[h4,Bf,hr,hcs,rc',lF,fz,sc,h5,<-hdl,tl]
 have e3:T7 [vk (.fl (ns.map D.int)),vk (.int (f 0)),vk (.int yr),v4,v4,v4,v4,v4,v4,v4,v4,v4,v4,v4] []=.rt (.bl v5) []:=by
  unfold T7 ZCM ZD2 ZGN ZGq;by_cases z:f 0/576%2=1
  ·rw[if_pos z]at hla;simp[<-hc,ml,cz,<-hlk,z,h1,<-hla,h2,<-hlev,h3,yz,<-hwh,e8]
  ·rw[if_neg z]at hla;subst hla;simp[<-hc,ml,cz,<-hlk,z,h2,<-hlev,h3,yz,<-hwh,e8]
 refine⟨[],?_⟩;unfold M4 ZEF ZDf ZGZ;rw[Bl];by_cases z:f 0%4=1
 ·rw[if_pos z]at hyr;simp[h0,z,h6,<-hyr,e3,td]
 ·rw[if_neg z]at hyr;have e3':T7 [vk (.fl (ns.map D.int)),vk (.int (f 0)),vk (.int 1),v4,v4,v4,v4,v4,v4,v4,v4,v4,v4,v4] []=.rt (.bl v5) []:=by rw[<-hyr];exact e3
  simp[h0,z,e3',td]
theorem holds:Holds:=λns hl=>ZOC hl
end _W
namespace _W
open PySem _L _D
seal QE QT QA QS QSs QG QGs QI QTs QW QO
structure Txt (K:PySem.W.Frag) (mg:Str->Option xQ):Prop where
 S6:FT K mg "_law_off" Yv Yd
 Tr:FT K mg "_law_tape" Z6 ZBf
 Hk:FT K mg "_law_cell_at" ZAZ ZBq
 Q4:FT K mg "check_year" X3 ZBO
 Ou:MT K "Course" "__init__" "Course.__init__" Ql Xa
 Kf:MT K "Course" "send" "Course.send" Zo ZBz
 Qs:FT K mg "number_of" ZBD Zh
 Ph:FT K mg "down_of" ZAg ZBt
 K9:MT K "Course" "send_down" "Course.send_down" ZBW ZBw
 Vh:FT K mg "opened" Xf ZAs
 Ub:FT K mg "stairs_at" Xh Xx
 Od:MT K "Course" "go_basin" "Course.go_basin" ZAO Z0
 Rc:FT K mg "passed" Tu ZBg
 Ol:FT K mg "down_in_reach" Yz ZAx
 Ry:FT K mg "reach_rows" ZBJ Z2
 V4:FT K mg "served" Q0 Zr
 W4:FT K mg "way_down" ZBy Xp
 V6:FT K mg "shares" Ww ZAF
 Qy:MT K "Course" "go_reach" "Course.go_reach" ZAb ZB0
 V0:FT K mg "lasts_of_reaches" Yn Yc
 R8:MT K "Course" "go" "Course.go" Up X6
 Rn:MT K "Course" "state_behind" "Course.state_behind" Pz ZA9
 Vu:FT K mg "turn" Yi Zi
 V1:FT K mg "run" ZBj Zn
 J7:FT K mg "years_until_again" ZA4 ZBT
 Le:FTD K mg "ever" Xj Ug 100
 Ul:FT K mg "is_beyond" Yw Xo
 S9:FT K mg "part_asked" ZAB ZAn
 T8:FT K mg "answered" Ur ZAt
 Sx:FT K mg "check_ask" ZBY Zq
 Q8:FT K mg "none_above" Uu Xg
 Qp:FT K mg "rows_under" Tt ZAC
 V5:FT K mg "under" Wz ZAU
 Uj:FT K mg "check_bounds" Yj Xv
 Tg:FT K mg "looked_through" ZB2 ZAu
 Qz:FTD K mg "look_ever" ZBl ZBL 100
 R3:FT K mg "_law_most_of" Z7 Zy
 Ud:FT K mg "_law_states" Zd ZAS
 Ra:FT K mg "_law_whole" ZBP Yp
 Oj:FT K mg "law" Fy ZBI
 Aw:CT K mg "Course"
 O3:NoAttr K (Af K "Course") "came"
 Px:NoAttr K (Af K "Course") "coming"
 Ho:NoAttr K (Af K "Course") "house"
 Uz:NoAttr K (Af K "Course") "levels"
 M5:NoAttr K (Af K "Course") "page"
 Te:NoAttr K (Af K "Course") "reaches"
 Vy:NoAttr K (Af K "Course") "year_turn"
 ZEW:mg "all"=v4
 ZH9:mg "bool"=v4
 M8:mg "enumerate"=v4
 ZCr:mg "int"=v4
 ZD8:mg "isinstance"=v4
 Dk:mg "len"=v4
 Jg:mg "list"=v4
 ZCI:mg "max"=v4
 N5:mg "min"=v4
 Wv:mg "range"=v4
 ZLi:mg "sorted"=v4
 U8:mg "tuple"=v4
 Qi:mg "zip"=v4
 Xz:mg "BRIM"=vk (.int 4 (Ci K "BRIM"))
 Tw:mg "DELAY"=vk (.int 3 (Ci K "DELAY"))
 Y5:mg "DOWN"=vk (.int 2 (Ci K "DOWN"))
 Lf:mg "KIND"=vk (.int 0 (Ci K "KIND"))
 ZBE:mg "LET"=vk (.int 3 (Ci K "LET"))
 W3:mg "LIES"=vk (.int 5 (Ci K "LIES"))
 ZBU:mg "NAME"=vk (.int 1 (Ci K "NAME"))
 ZAV:mg "NEED"=vk (.int 4 (Ci K "NEED"))
 Fx:mg "PLACES"=vk (.int 1 (Ci K "PLACES"))
 Qh:mg "PUMP"=vk (.int 6 (Ci K "PUMP"))
 Zk:mg "PUMPED"=vk (.int 4 (Ci K "PUMPED"))
 ZBB:mg "PUMP_DELAY"=vk (.int 1 (Ci K "PUMP_DELAY"))
 Yb:mg "PUMP_TO"=vk (.int 0 (Ci K "PUMP_TO"))
 Ze:mg "RANK"=vk (.int 5 (Ci K "RANK"))
 Mv:mg "ROW_DOWN"=vk (.int 0 (Ci K "ROW_DOWN"))
 ZAd:mg "ROW_NEED"=vk (.int 2 (Ci K "ROW_NEED"))
 ZBv:mg "ROW_RANK"=vk (.int 3 (Ci K "ROW_RANK"))
 Xy:mg "ROW_WATER"=vk (.int 1 (Ci K "ROW_WATER"))
 Xb:mg "RULE"=vk (.int 5 (Ci K "RULE"))
 Y0:mg "SEA"=vk (.str "sea" (Ci K "SEA"))
 ZA0:mg "SPILLED"=vk (.int 2 (Ci K "SPILLED"))
 ZBR:mg "TOOK"=vk (.int 1 (Ci K "TOOK"))
 Wh:mg "YEAR"=vk (.int 0 (Ci K "YEAR"))
 ZAE:TupG K mg "SENSES" ["least","most"]
 Vi:DctG K mg "KINDS_ASKED" [("lies","basin"),("spilled","basin"),("let","basin"),("pumped","basin"),("took","town")]
 U3:MT K "TooLong" "__init__" "TooLong.__init__" ZBA ["self","most"]
 Nq:ET K mg "TooLong" "most"
 Yh:XBase K mg "WaterError" (Af K "WaterError")
 Yq:mg "TooLong"=vk (.ref (Af K "TooLong"))
 ZAR:Je K (Af K "TooLong") (Af K "TooLong") v5=v5
 ZH5:KB K "ever" Ug "most"
section
variable{P:jR}{w:xZ}{K:PySem.W.Frag}{mg:Str->Option xQ}{base:Heap}
theorem ZMw(T:Txt K mg):FnOk P w K mg base CX0 1 (De K (Af K "TooLong") "__init__") (An K (De K (Af K "TooLong") "__init__")) ["self","most"] (spI (Af K "TooLong") "most"):=
 ZJB (k:=0) T.U3.F ZLm T.Nq.X T.Yh rfl (by decide +kernel) (by decide +kernel) rfl rfl rfl rfl (.inl rfl) (.inl rfl) (λ_=>⟨_,rfl⟩)
theorem ZHt(T:Txt K mg):FnO P w K mg base 1 "_law_off" Yd Oc:=by
 refine Bt T.S6.F Rf λcdv A outer s H E hr=>?_
 exact(Ah (Br (ZF7 Uq Lp Aj (Aa 0) (Ar Q3 Aj Aj)) (Ah (Ba 0 Rf.nd (Ar Dq (Ar Dm (Ar Dm (Aa 0) (Ar Ha Aj (Aa 1))) Aj) Aj)) (Ah (Ba 0 Rf.nd (Ar Dq (Ar Ha (Aa 0) (Aa 0)) Aj)) (Al (Bh (Ar Dq (Ar Ha (Aa 0) (Ar Dm (Aa 0) (Aa 1))) Aj))))) Bw) (Ah (Gf PassesOwn.never rfl (ZEw rfl T.Wv (Ac (Aa 1) Ae)) (Av 2 Rf.nd) (Al (Ba 0 Rf.nd (Ar Ln (Aa 0) (Ar Q3 Aj Aj))))) (Al (Bh (Ar Dq (Aa 0) (Ar Q3 Aj Aj))))))
theorem ZPV(T:Txt K mg):FnO P w K mg base 1 "_law_tape" ZBf Mm:=by
 refine Bt T.Tr.F ZH2 λcdv A outer s H E hr=>?_
 exact(Al (Bh (ZBC (Ij Lr (Bu Dj rfl T.Dk Dh (Ac (Aa 0) Ae)) Aj (nomark _)) (Ue (ZMp (Ij Lp (Ao Aq (Aa 0) Aj) Aj (nomark _)) (Ue (Ij o_ge (Ao Aq (Aa 0) Aj) (Ar Q3 Aj Aj) (nomark _))))))))
theorem M3(T:Txt K mg):FnO P w K mg base 2 "_law_cell_at" ZBq Dn:=by
 refine Bt T.Hk.F Ot λcdv A outer s H E hr=>?_
 exact(Ah (Br (O4 (Bo (ZPV T) T.Tr hr (Ac (Aa 0) Ae))) (Ah (Ba 2 Ot.nd Aj) (Ah (Br (Bm Lp (Ar Dm Aj (Ar Ln (Aa 1) Aj)) (Bu Dj rfl T.Dk Dh (Ac (Aa 0) Ae)) (nomark _)) (Al (Ba 2 Ot.nd (Ao Aq (Aa 0) (Ar Dm Aj (Ar Ln (Aa 1) Aj))))) Bw) (Al (Bh (Bo (ZHt T) T.S6 hr (Ac (Aa 2) (Ac (Ar Dq (Aa 1) Aj) Ae))))))) Bw) (Ah (Br (Bm Lp (Aa 1) (Bu Dj rfl T.Dk Dh (Ac (Aa 0) Ae)) (nomark _)) (Al (Bh (Ao Aq (Aa 0) (Aa 1)))) Bw) (Ah (Ba 2 Ot.nd (Ar Dq (Ar Ha Aj (Ar Dm (Ar Ha (Aa 1) (Aa 1)) (Ar Ha Aj (Bu Dj rfl T.Dk Dh (Ac (Aa 0) Ae))))) Aj)) (Ah (Br (Bm Lr (Bu Dj rfl T.Dk Dh (Ac (Aa 0) Ae)) Aj (nomark _)) (Al (Ba 2 Ot.nd (Ar Dm (Aa 2) (Ar Dq (Ar Ha (Ao Aq (Aa 0) (Ar Dq (Aa 1) (Bu Dj rfl T.Dk Dh (Ac (Aa 0) Ae)))) Aj) Aj)))) Bw) (Al (Bh (Aa 2)))))))
theorem ZHW(T:Txt K mg):FnO P w K mg base 1 "check_year" ZBO Qg:=by
 refine Bt T.Q4.F ZJA λcdv A outer s H E hr=>?_
 exact(Al (Br (Bm (Jo hr.units) (Bu Dj rfl T.Dk Dh (Ac (Aa 1) Ae)) (Ao Aq (Aa 0) (Bk (v:=(.int 0)) rfl T.Wh ⟨_,rfl⟩ (λ_ _=>rfl))) (nomark _)) (Al Nh) Bw))
theorem ZKA(T:Txt K mg):MtO P w K mg base 1 "Course" "__init__" Xa Pn:=by
 refine Bt T.Ou.F ZBo λcdv A outer s H E hr=>?_
 exact(Ah (Er (Aa 2) (Cp rfl (Az (Av 5 ZBo.nd) (Az (Av 6 ZBo.nd) Cu)))) (Ah (Kh T.Aw.N T.Aw.cl T.Ho (Aa 0) (Aa 1)) (Ah (Kh T.Aw.N T.Aw.cl T.Uz (Aa 0) (Aa 5)) (Ah (Kh T.Aw.N T.Aw.cl T.Vy (Aa 0) (Ar Dq (Aa 3) (Ao Aq (Aa 1) (Bk (v:=(.int 0)) rfl T.Wh ⟨_,rfl⟩ (λ_ _=>rfl))))) (Ah (Kh T.Aw.N T.Aw.cl T.O3 (Aa 0) (I9 rfl (Gd (dn:=(Am Ql).names) (N0:=Vq) (N:=["cubes","ahead"]) (nt:=2) (caps:=[])) (Ui rfl T.Qi (Ac (Aa 4) (Ac (Aa 6) Ae))) (λC s₀ H₀ ex=>(Cp rfl (Az (Av 0 (show(["cubes","ahead"]:List Str).Nodup by decide +kernel)) (Az (Av 1 (show(["cubes","ahead"]:List Str).Nodup by decide +kernel)) Cu)))) (Lg (Fg (Du (by decide)) (Fg (Du (by decide)) M9))) (λC s₀ H₀ ex=>Gn) (λC s₀ H₀ ex=>(Ar Dm (Aa 0) (Ao Aq (Aa 1) Aj))))) (Ah (Kh T.Aw.N T.Aw.cl T.Px (Aa 0) (I9 rfl (Gd (dn:=(Am Ql).names) (N0:=Vq) (N:=["ahead"]) (nt:=1) (caps:=[])) (Hd (Aa 6)) (λC s₀ H₀ ex=>(Av 0 (show(["ahead"]:List Str).Nodup by decide +kernel))) (Du (by decide)) (λC s₀ H₀ ex=>Gn) (λC s₀ H₀ ex=>(Fp (Ar Dm (Cq (Gk (K5 rfl) rfl T.Jg K1 (Ac (Cq (ZDt (Aa 0) (ZHm Aj) ZDk)) Ae))) (Cq (Ht (Ac Aj Ae)))))))) (Ah (Kh T.Aw.N T.Aw.cl T.M5 (Aa 0) (Fp (Ar ZFR (Ht (Ac Es Ae)) (Bu Dj rfl T.Dk Dh (Ac (Aa 5) Ae))))) (Al (Kh T.Aw.N T.Aw.cl T.Te (Aa 0) (Fp (Ht Ae)))))))))))
theorem ZC1(T:Txt K mg):MtO P w K mg base 1 "Course" "send" ZBz Qo:=by
 refine Bt T.Kf.F ZNx λcdv A outer s H E hr=>?_
 exact(Al (Br (Bm (Dp hr.units) (Aa 2) Aj (nomark _)) (Al (Tc (Dy T.Aw.N T.Aw.cl T.O3 (Aa 0)) (Aa 1) (Aa 3) Qd)) (Al (Tc (Ao Aq (Dy T.Aw.N T.Aw.cl T.Px (Aa 0)) (Aa 1)) (Ar I8 (Aa 2) Aj) (Aa 3) Qd))))
theorem ZFA(T:Txt K mg):FnO P w K mg base 1 "number_of" Zh Oz:=by
 refine Bt T.Qs.F ZBh λcdv A outer s H E hr=>?_
 exact(Ah (Gf PassesOwn.never rfl (Mq rfl T.M8 (Ac (Ao Aq (Aa 0) (Bk (v:=(.int 1)) rfl T.Fx ⟨_,rfl⟩ (λ_ _=>rfl))) Ae)) (Cp rfl (Az (Av 2 ZBh.nd) (Az (Av 3 ZBh.nd) Cu))) (Al (Br (Bm (Dp hr.units) (Ao Aq (Aa 3) (Bk (v:=(.int 1)) rfl T.ZBU ⟨_,rfl⟩ (λ_ _=>rfl))) (Aa 1) (nomark _)) (Al (Bh (Aa 2))) Bw))) (Al Nh))
theorem ZGa(T:Txt K mg):FnO P w K mg base 2 "down_of" ZBt R6:=by
 refine Bt T.Ph.F ZB7 λcdv A outer s H E hr=>?_
 exact(Ah (Ba 2 ZB7.nd (Ao Aq (Ao Aq (Ao Aq (Aa 0) (Bk (v:=(.int 1)) rfl T.Fx ⟨_,rfl⟩ (λ_ _=>rfl))) (Aa 1)) (Bk (v:=(.int 2)) rfl T.Y5 ⟨_,rfl⟩ (λ_ _=>rfl)))) (Ah (Br (Bm (Dp hr.units) (Aa 2) (Bk (v:=(.str "sea")) rfl T.Y0 ⟨_,rfl⟩ (λ_ _=>rfl)) (nomark _)) (Al (Bh Es)) Bw) (Al (Bh (Bo (ZFA T) T.Qs hr (Ac (Aa 0) (Ac (Aa 2) Ae)))))))
theorem ZC5(T:Txt K mg):MtO P w K mg base 3 "Course" "send_down" ZBw Q7:=by
 refine Bt T.K9.F ZC4 λcdv A outer s H E hr=>?_
 exact(Ah (Ba 3 ZC4.nd (Bo (ZGa T) T.Ph hr (Ac (Dy T.Aw.N T.Aw.cl T.Ho (Aa 0)) (Ac (Aa 1) Ae)))) (Al (Br (Bm Qw (Aa 3) Es (nomark _)) (Al (Dw (Nb T.Aw.N T.Aw.cl T.Kf.me (ZC1 T) (hr.mono (by decide)) T.Kf.b pass0 (Aa 0) (Ac (Aa 3) (Ac (Ao Aq (Ao Aq (Ao Aq (Dy T.Aw.N T.Aw.cl T.Ho (Aa 0)) (Bk (v:=(.int 1)) rfl T.Fx ⟨_,rfl⟩ (λ_ _=>rfl))) (Aa 1)) (Bk (v:=(.int 3)) rfl T.Tw ⟨_,rfl⟩ (λ_ _=>rfl))) (Ac (Aa 2) Ae)))))) Bw)))
theorem ZIi(T:Txt K mg):FnO P w K mg base 1 "opened" ZAs Vk:=by
 refine Bt T.Vh.F Iz λcdv A outer s H E hr=>?_
 exact(Ah (Ba 2 Iz.nd Aj) (Ah (Ba 3 Iz.nd Aj) (Ah (Gf PassesOwn.never rfl (Hd (Aa 0)) (Cp rfl (Az (Av 4 Iz.nd) (Az (Av 5 Iz.nd) (Az (Av 6 Iz.nd) Cu)))) (Ah (Ba 7 Iz.nd (Bu (ZMZ rfl) rfl T.ZCI ZGG (Ac Aj (Ac (Bu (Wj rfl) rfl T.N5 Mp (Ac (Aa 5) (Ac (Ar I8 (Aa 1) (Aa 4)) Ae))) Ae)))) (Al (Br (Bm (Dp hr.units) (Aa 6) Ds (nomark _)) (Al (ZG2 2 Iz.nd (Aa 7) Qd)) (Al (ZG2 3 Iz.nd (Aa 7) Qd)))))) (Al (Bh (Cg (Ac (Aa 2) (Ac (Aa 3) (Ac (Ar I8 (Ar I8 (Aa 1) (Aa 2)) (Aa 3)) Ae)))))))))
theorem ZJh(T:Txt K mg):FnO P w K mg base 1 "stairs_at" Xx Tf:=by
 refine Bt T.Ub.F Oo λcdv A outer s H E hr=>?_
 exact(Ah (Ba 2 Oo.nd (Cg Ae)) (Ah (Gf PassesOwn.never rfl (Hd (Aa 0)) (Cp rfl (Az (Av 3 Oo.nd) (Az (Av 4 Oo.nd) Cu))) (Al (Br (Bm Uq (Aa 3) (Aa 1) (nomark _)) (Al (Ba 2 Oo.nd (Aa 4))) Bw))) (Al (Bh (Aa 2)))))
theorem ZOn(T:Txt K mg):MtO P w K mg base 4 "Course" "go_basin" Z0 Rz:=by
 refine Bt T.Od.F Jk λcdv A outer s H E hr=>?_
 exact(Ah (Ba 2 Jk.nd (Ao Aq (Ao Aq (Dy T.Aw.N T.Aw.cl T.Ho (Aa 0)) (Bk (v:=(.int 1)) rfl T.Fx ⟨_,rfl⟩ (λ_ _=>rfl))) (Aa 1))) (Ah (Ba 3 Jk.nd (Ao Aq (Dy T.Aw.N T.Aw.cl T.O3 (Aa 0)) (Aa 1))) (Ah (Er (Bo (ZIi T) T.Vh hr (Ac (Bo (ZJh T) T.Ub hr (Ac (Ao Aq (Aa 2) (Bk (v:=(.int 5)) rfl T.Xb ⟨_,rfl⟩ (λ_ _=>rfl))) (Ac (Dy T.Aw.N T.Aw.cl T.Vy (Aa 0)) Ae))) (Ac (Ar Dm (Ao Aq (Dy T.Aw.N T.Aw.cl T.Uz (Aa 0)) (Aa 1)) (Aa 3)) Ae))) (Cp rfl (Az (Av 4 Jk.nd) (Az (Av 5 Jk.nd) (Az (Av 6 Jk.nd) Cu))))) (Ah (Ba 7 Jk.nd (Bu (Wj rfl) rfl T.N5 Mp (Ac (Aa 6) (Ac (Ao Aq (Aa 2) (Bk (v:=(.int 4)) rfl T.Xz ⟨_,rfl⟩ (λ_ _=>rfl))) Ae)))) (Ah (Ba 8 Jk.nd (Ar I8 (Aa 6) (Aa 7))) (Ah (Er (Cg (Ac (Aa 3) (Ac Aj (Ac (Aa 8) (Ac (Aa 4) (Ac (Aa 5) (Ac (Aa 7) Ae))))))) (V3 (Dy T.Aw.N T.Aw.cl T.M5 (Aa 0)) (Aa 1))) (Ah (Dw (Nb T.Aw.N T.Aw.cl T.K9.me (ZC5 T) (hr.mono (by decide)) T.K9.b pass0 (Aa 0) (Ac (Aa 1) (Ac (Ar Dm (Aa 4) (Aa 8)) Ae)))) (Al (Br (Bm Qw (Ao Aq (Aa 2) (Bk (v:=(.int 6)) rfl T.Qh ⟨_,rfl⟩ (λ_ _=>rfl))) Es (nomark _)) (Al (Dw (Nb T.Aw.N T.Aw.cl T.Kf.me (ZC1 T) (hr.mono (by decide)) T.Kf.b pass0 (Aa 0) (Ac (Bo (ZFA T) T.Qs hr (Ac (Dy T.Aw.N T.Aw.cl T.Ho (Aa 0)) (Ac (Ao Aq (Ao Aq (Aa 2) (Bk (v:=(.int 6)) rfl T.Qh ⟨_,rfl⟩ (λ_ _=>rfl))) (Bk (v:=(.int 0)) rfl T.Yb ⟨_,rfl⟩ (λ_ _=>rfl))) Ae))) (Ac (Ao Aq (Ao Aq (Aa 2) (Bk (v:=(.int 6)) rfl T.Qh ⟨_,rfl⟩ (λ_ _=>rfl))) (Bk (v:=(.int 1)) rfl T.ZBB ⟨_,rfl⟩ (λ_ _=>rfl))) (Ac (Aa 5) Ae)))))) Bw)))))))))
theorem ZGr(T:Txt K mg):FnO P w K mg base 1 "passed" ZBg Yu:=by
 refine Bt T.Rc.F Tn λcdv A outer s H E hr=>?_
 exact(Ah (ZAe 2 rfl Tn.nd (Gd (dn:=(Am Tu).names) (N0:=Xr) (N:=["row","take"]) (nt:=2) (caps:=[])) (Ui rfl T.Qi (Ac (Aa 0) (Ac (Aa 1) Ae))) (λC s₀ H₀ ex=>(Cp rfl (Az (Av 0 (show(["row","take"]:List Str).Nodup by decide +kernel)) (Az (Av 1 (show(["row","take"]:List Str).Nodup by decide +kernel)) Cu)))) (Lg (Fg (Du (by decide)) (Fg (Du (by decide)) M9))) (λC s₀ H₀ ex=>Gn) (λC s₀ H₀ ex=>(Ar I8 (Ao Aq (Aa 0) (Bk (v:=(.int 1)) rfl T.Xy ⟨_,rfl⟩ (λ_ _=>rfl))) (Aa 1)))) (Ah (Gf PassesOwn.never rfl (Mq rfl T.M8 (Ac (Aa 0) Ae)) (Cp rfl (Az (Av 4 Tn.nd) (Az (Av 3 Tn.nd) Cu))) (Al (Br (Bm Qw (Ao Aq (Aa 3) (Bk (v:=(.int 0)) rfl T.Mv ⟨_,rfl⟩ (λ_ _=>rfl))) Es (nomark _)) (Al (Tc (Aa 2) (Ao Aq (Aa 3) (Bk (v:=(.int 0)) rfl T.Mv ⟨_,rfl⟩ (λ_ _=>rfl))) (Ao Aq (Aa 2) (Aa 4)) Qd)) Bw))) (Al (Bh (Aa 2)))))
theorem ZFd(T:Txt K mg):FnO P w K mg base 3 "down_in_reach" ZAx Q5:=by
 refine Bt T.Ol.F ZBk λcdv A outer s H E hr=>?_
 exact(Ah (Ba 2 ZBk.nd (Ao Aq (Aa 0) (Bk (v:=(.int 1)) rfl T.Fx ⟨_,rfl⟩ (λ_ _=>rfl)))) (Ah (Ba 3 ZBk.nd (Bo (ZGa T) T.Ph hr (Ac (Aa 0) (Ac (Aa 1) Ae)))) (Ah (Br (Nm (K3 (Bm o_is (Aa 3) Es (nomark _)) (Oa (Bm Lr (Ao Aq (Ao Aq (Aa 2) (Aa 1)) (Bk (v:=(.int 3)) rfl T.Tw ⟨_,rfl⟩ (λ_ _=>rfl))) Aj (nomark _))))) (Al (Bh Es)) Bw) (Ah (Br (Nm (K3 (Bm (Dp hr.units) (Ao Aq (Ao Aq (Aa 2) (Aa 1)) (Bk (v:=(.int 0)) rfl T.Lf ⟨_,rfl⟩ (λ_ _=>rfl))) Ds (nomark _)) (Oa (Bm (Dp hr.units) (Ao Aq (Ao Aq (Aa 2) (Aa 3)) (Bk (v:=(.int 0)) rfl T.Lf ⟨_,rfl⟩ (λ_ _=>rfl))) Ds (nomark _))))) (Al (Bh Es)) Bw) (Al (Bh (Aa 3)))))))
theorem ZP9(T:Txt K mg):FnO P w K mg base 4 "reach_rows" Z2 ZCS:=by
 refine Bt T.Ry.F Ni λcdv A outer s H E hr=>?_
 exact(Ah (Ba 3 Ni.nd (Fp (Ht Ae))) (Ah (Gf PassesOwn.never rfl (Hd (Aa 1)) (Av 4 Ni.nd) (Ah (Ba 5 Ni.nd (Ao Aq (Ao Aq (Aa 0) (Bk (v:=(.int 1)) rfl T.Fx ⟨_,rfl⟩ (λ_ _=>rfl))) (Aa 4))) (Ah (Ba 6 Ni.nd (Bo (ZFd T) T.Ol hr (Ac (Aa 0) (Ac (Aa 4) Ae)))) (Ah (Ba 7 Ni.nd (ZCp (Bm o_is (Aa 6) Es (nomark _)) Es (Hi PySem.F.slot_list_index PySem.F.type_list_index ZHL (Aa 1) (Ac (Aa 6) Ae)))) (Al (Br (Bm (Dp hr.units) (Ao Aq (Aa 5) (Bk (v:=(.int 0)) rfl T.Lf ⟨_,rfl⟩ (λ_ _=>rfl))) Ds (nomark _)) (Al (Dw (Hi PySem.F.slot_list_append PySem.F.type_list_append Mf (Aa 3) (Ac (Cg (Ac (Aa 7) (Ac (Ao Aq (Aa 2) (Aa 4)) (Ac (Ao Aq (Aa 5) (Bk (v:=(.int 4)) rfl T.ZAV ⟨_,rfl⟩ (λ_ _=>rfl))) (Ac (Ao Aq (Aa 5) (Bk (v:=(.int 5)) rfl T.Ze ⟨_,rfl⟩ (λ_ _=>rfl))) Ae))))) Ae)))) (Al (Dw (Hi PySem.F.slot_list_append PySem.F.type_list_append Mf (Aa 3) (Ac (Cg (Ac (Aa 7) (Ac (Ao Aq (Aa 2) (Aa 4)) (Ac Aj (Ac Aj Ae))))) Ae)))))))))) (Al (Bh (Aa 3)))))
theorem ZOI(T:Txt K mg):FnO P w K mg base 1 "served" Zr ZGg:=by
 refine Bt T.V4.F ZF5 λcdv A outer s H E hr=>?_
 exact(Ah (Ba 1 ZF5.nd (Cq (Bu ZJy rfl T.ZLi ZKI (Ac (Cq (I9 rfl (Gd (dn:=(Am Q0).names) (N0:=Wa) (N:=["number","row"]) (nt:=2) (caps:=[])) (Mq rfl T.M8 (Ac (Aa 0) Ae)) (λC s₀ H₀ ex=>(Cp rfl (Az (Av 0 (show(["number","row"]:List Str).Nodup by decide +kernel)) (Az (Av 1 (show(["number","row"]:List Str).Nodup by decide +kernel)) Cu)))) (Lg (Fg (Du (by decide)) (Fg (Du (by decide)) M9))) (λC s₀ H₀ ex=>Gn) (λC s₀ H₀ ex=>(Cg (Ac (Ao Aq (Aa 1) (Bk (v:=(.int 3)) rfl T.ZBv ⟨_,rfl⟩ (λ_ _=>rfl))) (Ac (Aa 0) Ae)))))) Ae)))) (Al (Bh (I9 rfl (Gd (dn:=(Am Q0).names) (N0:=Wa) (N:=["rank","number"]) (nt:=2) (caps:=[])) (Hd (Aa 1)) (λC s₀ H₀ ex=>(Cp rfl (Az (Av 0 (show(["rank","number"]:List Str).Nodup by decide +kernel)) (Az (Av 1 (show(["rank","number"]:List Str).Nodup by decide +kernel)) Cu)))) (Lg (Fg (Du (by decide)) (Fg (Du (by decide)) M9))) (λC s₀ H₀ ex=>Gn) (λC s₀ H₀ ex=>(Aa 1))))))
theorem ZPz(T:Txt K mg):FnO P w K mg base 1 "way_down" Xp ZF0:=by
 refine Bt T.W4.F Ws λcdv A outer s H E hr=>?_
 exact(Ah (Ba 2 Ws.nd (Fp (Ht (Ac (Aa 1) Ae)))) (Ah (Ba 3 Ws.nd (Ao Aq (Ao Aq (Aa 0) (Aa 1)) (Bk (v:=(.int 0)) rfl T.Mv ⟨_,rfl⟩ (λ_ _=>rfl)))) (Ah (ZAp fuel PassesOwn.never (Bm Qw (Aa 3) Es (nomark _)) (Ah (Dw (Hi PySem.F.slot_list_append PySem.F.type_list_append Mf (Aa 2) (Ac (Aa 3) Ae))) (Al (Ba 3 Ws.nd (Ao Aq (Ao Aq (Aa 0) (Aa 3)) (Bk (v:=(.int 0)) rfl T.Mv ⟨_,rfl⟩ (λ_ _=>rfl))))))) (Al (Bh (Aa 2))))))
theorem ZQT(T:Txt K mg):FnO P w K mg base 2 "shares" ZAF ZFG:=by
 refine Bt T.V6.F Lx λcdv A outer s H E hr=>?_
 exact(Ah (Ba 1 Lx.nd (Fp (Ar ZFR (Ht (Ac Aj Ae)) (Bu Dj rfl T.Dk Dh (Ac (Aa 0) Ae))))) (Ah (Ba 2 Lx.nd (Fp (Bo (ZGr T) T.Rc hr (Ac (Aa 0) (Ac (Aa 1) Ae))))) (Ah (Gf PassesOwn.never rfl (Hd (Cq (Bo (ZOI T) T.V4 hr (Ac (Aa 0) Ae)))) (Av 3 Lx.nd) (Ah (Ba 4 Lx.nd (Cq (Bo (ZPz T) T.W4 hr (Ac (Aa 0) (Ac (Aa 3) Ae))))) (Ah (Ba 5 Lx.nd (Bu (Wj rfl) rfl T.N5 Mp (Ac (Ao Aq (Ao Aq (Aa 0) (Aa 3)) (Bk (v:=(.int 2)) rfl T.ZAd ⟨_,rfl⟩ (λ_ _=>rfl))) (Ac (Bu (ZGQ rfl) rfl T.N5 Mp (Ac (Cq (I9 rfl (Gd (dn:=(Am Ww).names) (N0:=Yk) (N:=["below","passing"]) (nt:=1) (caps:=[2])) (Hd (Aa 4)) (λC s₀ H₀ ex=>(Av 0 (show(["below","passing"]:List Str).Nodup by decide +kernel))) (Du (by decide)) (λC s₀ H₀ ex=>Gn) (λC s₀ H₀ ex=>(Ao Aq (Aa 1) (Aa 0))))) Ae)) Ae)))) (Ah (Er (Aa 5) (V3 (Aa 1) (Aa 3))) (Al (Gf PassesOwn.never rfl (Hd (Aa 4)) (Av 6 Lx.nd) (Al (Tc (Aa 2) (Aa 6) (Aa 5) ZOj)))))))) (Al (Bh (Aa 1))))))
theorem ZOY(T:Txt K mg):MtO P w K mg base 5 "Course" "go_reach" ZB0 ZFD:=by
 refine Bt T.Qy.F Mz λcdv A outer s H E hr=>?_
 exact(Ah (Ba 2 Mz.nd (Cq (Bo (ZP9 T) T.Ry hr (Ac (Dy T.Aw.N T.Aw.cl T.Ho (Aa 0)) (Ac (Aa 1) (Ac (Dy T.Aw.N T.Aw.cl T.O3 (Aa 0)) Ae)))))) (Ah (Ba 3 Mz.nd (Cq (Bo (ZQT T) T.V6 hr (Ac (Aa 2) Ae)))) (Ah (Gf PassesOwn.never rfl (ZPb rfl T.Qi (Ac (Aa 1) (Ac (Aa 3) (Ac (Cq (Bo (ZGr T) T.Rc hr (Ac (Aa 2) (Ac (Aa 3) Ae)))) Ae)))) (Cp rfl (Az (Av 4 Mz.nd) (Az (Av 5 Mz.nd) (Az (Av 6 Mz.nd) Cu)))) (Ah (Er (Cg (Ac (Ar Dm (Aa 5) (Aa 6)) (Ac (Aa 5) (Ac Aj (Ac (Aa 6) (Ac Aj (Ac Aj Ae))))))) (V3 (Dy T.Aw.N T.Aw.cl T.M5 (Aa 0)) (Aa 4))) (Al (Br (Bm (Dp hr.units) (Aa 4) (Ao Aq (Aa 1) (Jw Jv Aj)) (nomark _)) (Al (Dw (Nb T.Aw.N T.Aw.cl T.K9.me (ZC5 T) (hr.mono (by decide)) T.K9.b pass0 (Aa 0) (Ac (Aa 4) (Ac (Aa 6) Ae))))) Bw)))) (Al (Dw (Hi PySem.F.slot_list_append PySem.F.type_list_append Mf (Dy T.Aw.N T.Aw.cl T.Te (Aa 0)) (Ac (Fp (Cg (Ac (Aa 1) (Ac (Aa 2) Ae)))) Ae)))))))
theorem ZOV(T:Txt K mg):FnO P w K mg base 4 "lasts_of_reaches" Yc Wk:=by
 refine Bt T.V0.F Wl λcdv A outer s H E hr=>?_
 exact(Ah (Ba 1 Wl.nd (Fp (ZNl rfl rfl T.Jg rfl T.Wv (Ac (Bu Dj rfl T.Dk Dh (Ac (Ao Aq (Aa 0) (Bk (v:=(.int 1)) rfl T.Fx ⟨_,rfl⟩ (λ_ _=>rfl))) Ae)) Ae)))) (Ah (Gf PassesOwn.never rfl (ZNE rfl T.Wv (Ac (Ar I8 (Bu Dj rfl T.Dk Dh (Ac (Ao Aq (Aa 0) (Bk (v:=(.int 1)) rfl T.Fx ⟨_,rfl⟩ (λ_ _=>rfl))) Ae)) Aj) (Ac (Jw Jv Aj) (Ac (Jw Jv Aj) Ae)))) (Av 2 Wl.nd) (Ah (Ba 3 Wl.nd (Bo (ZFd T) T.Ol hr (Ac (Aa 0) (Ac (Aa 2) Ae)))) (Al (Br (Bm Qw (Aa 3) Es (nomark _)) (Al (Er (Ao Aq (Aa 1) (Aa 3)) (V3 (Aa 1) (Aa 2)))) Bw)))) (Al (Bh (Aa 1)))))
theorem ZNT(T:Txt K mg):MtO P w K mg base 6 "Course" "go" X6 Sv:=by
 refine Bt T.R8.F Us λcdv A outer s H E hr=>?_
 exact(Ah (Ba 1 Us.nd (Cq (Bo (ZOV T) T.V0 hr (Ac (Dy T.Aw.N T.Aw.cl T.Ho (Aa 0)) Ae)))) (Al (Gf PassesOwn.never rfl (Mq rfl T.M8 (Ac (Aa 1) Ae)) (Cp rfl (Az (Av 2 Us.nd) (Az (Av 3 Us.nd) Cu))) (Al (Br (Bm (Dp hr.units) (Ao Aq (Ao Aq (Ao Aq (Dy T.Aw.N T.Aw.cl T.Ho (Aa 0)) (Bk (v:=(.int 1)) rfl T.Fx ⟨_,rfl⟩ (λ_ _=>rfl))) (Aa 2)) (Bk (v:=(.int 0)) rfl T.Lf ⟨_,rfl⟩ (λ_ _=>rfl))) Ds (nomark _)) (Al (Dw (Nb T.Aw.N T.Aw.cl T.Od.me (ZOn T) (hr.mono (by decide)) T.Od.b pass0 (Aa 0) (Ac (Aa 2) Ae)))) (Al (Br (Bm (Dp hr.units) (Aa 3) (Aa 2) (nomark _)) (Al (Dw (Nb T.Aw.N T.Aw.cl T.Qy.me (ZOY T) (hr.mono (by decide)) T.Qy.b pass0 (Aa 0) (Ac (Cq (I9 rfl (Gd (dn:=(Am Up).names) (N0:=ZAr) (N:=["member","end","number"]) (nt:=2) (caps:=[2])) (Mq rfl T.M8 (Ac (Aa 1) Ae)) (λC s₀ H₀ ex=>(Cp rfl (Az (Av 0 (show(["member","end","number"]:List Str).Nodup by decide +kernel)) (Az (Av 1 (show(["member","end","number"]:List Str).Nodup by decide +kernel)) Cu)))) (Lg (Fg (Du (by decide)) (Fg (Du (by decide)) M9))) (λC s₀ H₀ ex=>(ZK0 (Bm (Dp hr.units) (Aa 1) (Aa 2) (nomark _)))) (λC s₀ H₀ ex=>(Aa 0)))) Ae)))) Bw)))))))
theorem ZPH(T:Txt K mg):MtO P w K mg base 1 "Course" "state_behind" ZA9 W2:=by
 refine Bt T.Rn.F ZNK λcdv A outer s H E hr=>?_
 exact(Al (Bh (Cg (Ac (Gk W9 rfl T.U8 Rw (Ac (Cq (I9 rfl (Gd (dn:=(Am Pz).names) (N0:=Sh) (N:=["row"]) (nt:=1) (caps:=[])) (Hd (Dy T.Aw.N T.Aw.cl T.M5 (Aa 0))) (λC s₀ H₀ ex=>(Av 0 (show(["row"]:List Str).Nodup by decide +kernel))) (Du (by decide)) (λC s₀ H₀ ex=>Gn) (λC s₀ H₀ ex=>(Ao Aq (Aa 0) (Bk (v:=(.int 5)) rfl T.W3 ⟨_,rfl⟩ (λ_ _=>rfl)))))) Ae)) (Ac (Gk W9 rfl T.U8 Rw (Ac (Cq (I9 rfl (Gd (dn:=(Am Pz).names) (N0:=Sh) (N:=["ahead"]) (nt:=1) (caps:=[])) (Hd (Dy T.Aw.N T.Aw.cl T.Px (Aa 0))) (λC s₀ H₀ ex=>(Av 0 (show(["ahead"]:List Str).Nodup by decide +kernel))) (Du (by decide)) (λC s₀ H₀ ex=>Gn) (λC s₀ H₀ ex=>(Gk W9 rfl T.U8 Rw (Ac (Aa 0) Ae))))) Ae)) Ae)))))
theorem ZJk(T:Txt K mg):FnO P w K mg base 7 "turn" Zi Sd:=by
 refine Bt T.Vu.F ZEK λcdv A outer s H E hr=>?_
 exact(Ah (Ba 4 ZEK.nd (ZN6 T.Aw.N T.Aw.mK (ZKA T) (hr.mono (by decide)) rfl T.Aw.g T.Ou.b pass0 (Ac (Aa 0) (Ac (Aa 1) (Ac (Aa 2) (Ac (Aa 3) Ae)))))) (Ah (Dw (ZEU T.Aw.N T.Aw.cl T.R8.me (ZNT T) (hr.mono (by decide)) T.R8.b pass0 (Aa 4))) (Al (Bh (Cg (Ac (Gk W9 rfl T.U8 Rw (Ac (Dy T.Aw.N T.Aw.cl T.M5 (Aa 4)) Ae)) (Ac (ZEU T.Aw.N T.Aw.cl T.Rn.me (ZPH T) (hr.mono (by decide)) T.Rn.b pass0 (Aa 4)) Ae)))))))
theorem ZMk(T:Txt K mg):FnO P w K mg base 8 "run" Zn Qa:=by
 refine Bt T.V1.F Nj λcdv A outer s H E hr=>?_
 exact(Ah (Ba 4 Nj.nd (Fp (Ht Ae))) (Ah (Gf PassesOwn.never rfl (ZLV rfl T.M8 (Ac (Aa 3) Ae) (Aa 2)) (Cp rfl (Az (Av 5 Nj.nd) (Az (Av 6 Nj.nd) Cu))) (Ah (Er (Bo (ZJk T) T.Vu hr (Ac (Aa 0) (Ac (Aa 1) (Ac (Aa 5) (Ac (Aa 6) Ae))))) (Cp rfl (Az (Av 7 Nj.nd) (Az (Av 1 Nj.nd) Cu)))) (Al (Dw (Hi PySem.F.slot_list_append PySem.F.type_list_append Mf (Aa 4) (Ac (Aa 7) Ae)))))) (Al (Bh (Cg (Ac (Aa 4) (Ac (Aa 1) Ae)))))))
theorem ZDp(T:Txt K mg):FnX P w K mg base 9 "years_until_again" ZBT Ju:=by
 refine ZH7 T.J7.F Pg λcdv A outer s H E hr=>?_
 exact(Ah (Gh (Ba 4 Pg.nd (Fp (Ht (Ac (Aa 1) Ae))))) (Ah (Gh (Ba 5 Pg.nd (Fp (Ht Ae)))) (Ah (ZAp fuel ownX (Bm (ZPo hr.units) (Ao Aq (Aa 4) (Jw Jv Aj)) (Cq (ZDt (Aa 4) ZDk (ZHm (Jw Jv Aj)))) (by with_unfolding_all rfl)) (Ah (Br (Bm Lr (Bu Dj rfl T.Dk Dh (Ac (Aa 4) Ae)) (Aa 3) (nomark _)) (Al (ZKL T.Nq (ZMw T) T.U3.b hr (Ac (Aa 3) Ae))) Bw) (Ah (Gh (Er (Fp (Bo (ZMk T) T.V1 hr (Ac (Aa 0) (Ac (Ao Aq (Aa 4) (Jw Jv Aj)) (Ac Aj (Ac (Aa 2) Ae)))))) (Cp rfl (Az (Av 6 Pg.nd) (Az (Av 7 Pg.nd) Cu))))) (Ah (Gh (Dw (Hi PySem.F.slot_list_extend PySem.F.type_list_extend ZNz (Aa 5) (Ac (Aa 6) Ae)))) (Al (Gh (Dw (Hi PySem.F.slot_list_append PySem.F.type_list_append Mf (Aa 4) (Ac (Aa 7) Ae))))))))) (Al (Gh (Bh (Cg (Ac (Aa 4) (Ac (Aa 5) Ae)))))))))
theorem Yy(T:Txt K mg):FnX P w K mg base 10 "ever" Ug J6:=by
 refine ZDz T.Le.F Y8 λcdv A outer s H E hr=>?_
 exact(Ah (Gh (Dw (Bo (ZHW T) T.Q4 hr (Ac (Aa 0) (Ac (Aa 2) Ae))))) (Ah (Er (Cq (ZEV (ZDp T) (hr.mono (by decide)) rfl T.J7.m T.J7.k T.J7.b ZCA (Ac (Aa 0) (Ac (Aa 1) (Ac (Aa 2) (Ac (Aa 3) Ae)))))) (Cp rfl (Az (Av 4 Y8.nd) (Az (Av 5 Y8.nd) Cu)))) (Al (Gh (Bh (Aa 4))))))
theorem ZQV(T:Txt K mg):FnO P w K mg base 1 "is_beyond" Xo Vb:=by
 refine Bt T.Ul.F ZKq λcdv A outer s H E hr=>?_
 exact(Ah (Br (Bm (Dp hr.units) (Aa 1) Ds (nomark _)) (Al (Bh (Ij Lp (Aa 0) (Aa 2) (nomark _)))) Bw) (Al (Bh (Ij Lr (Aa 0) (Aa 2) (nomark _)))))
theorem ZOD(T:Txt K mg):FnO P w K mg base 1 "part_asked" ZAn Uy:=by
 refine Bt T.S9.F ZJ1 λcdv A outer s H E hr=>?_
 exact(Al (Bh (Ao (ZN1 hr.units) (ZQR (Qx (Bk (v:=(.int 5)) rfl T.W3 ⟨_,rfl⟩ (λ_ _=>rfl)) (Qx (Bk (v:=(.int 2)) rfl T.ZA0 ⟨_,rfl⟩ (λ_ _=>rfl)) (Qx (Bk (v:=(.int 3)) rfl T.ZBE ⟨_,rfl⟩ (λ_ _=>rfl)) (Qx (Bk (v:=(.int 4)) rfl T.Zk ⟨_,rfl⟩ (λ_ _=>rfl)) (Qx (Bk (v:=(.int 1)) rfl T.ZBR ⟨_,rfl⟩ (λ_ _=>rfl)) ZJo)))))) (Aa 0))))
theorem ZKs(T:Txt K mg):FnO P w K mg base 2 "answered" ZAt S8:=by
 refine Bt T.T8.F Hq λcdv A outer s H E hr=>?_
 exact(Ah (Er (Aa 1) (Cp rfl (Az (Av 2 Hq.nd) (Az (Av 3 Hq.nd) (Az (Av 4 Hq.nd) (Az (Av 5 Hq.nd) Cu)))))) (Ah (Ba 6 Hq.nd (Bo (ZOD T) T.S9 hr (Ac (Aa 2) Ae))) (Ah (ZFz (ZAe 7 rfl Hq.nd (Gd (dn:=(Am Ur).names) (N0:=ZBu) (N:=["page","place","part"]) (nt:=1) (caps:=[3,6])) (Hd (Aa 0)) (λC s₀ H₀ ex=>(Av 0 (show(["page","place","part"]:List Str).Nodup by decide +kernel))) (Du (by decide)) (λC s₀ H₀ ex=>Gn) (λC s₀ H₀ ex=>(Ao Aq (Ao Aq (Aa 0) (Aa 1)) (Aa 2))))) (Ah (Gf PassesOwn.never rfl (Mq rfl T.M8 (Ac (Aa 7) Ae)) (Cp rfl (Az (Av 8 Hq.nd) (Az (Av 9 Hq.nd) Cu))) (Al (Br (O4 (Bo (ZQV T) T.Ul hr (Ac (Aa 9) (Ac (Aa 4) (Ac (Aa 5) Ae))))) (Al (Bh (Cg (Ac Ds (Ac (Aa 8) (Ac (Aa 9) Ae)))))) Bw))) (Ah (Br (Bm (Dp hr.units) (Bu Dj rfl T.Dk Dh (Ac (Aa 7) Ae)) Aj (nomark _)) (Al (Bh (Cg (Ac Ds (Ac Es (Ac Es Ae)))))) Bw) (Ah (Ba 10 Hq.nd (ZCp (Bm (Dp hr.units) (Aa 4) Ds (nomark _)) (Bu (ZGQ rfl) rfl T.N5 Mp (Ac (Aa 7) Ae)) (Bu (ZH1 rfl) rfl T.ZCI ZGG (Ac (Aa 7) Ae)))) (Al (Bh (Cg (Ac Ds (Ac (Hi PySem.F.slot_list_index PySem.F.type_list_index ZHL (Aa 7) (Ac (Aa 10) Ae)) (Ac (Aa 10) Ae))))))))))))
theorem ZN3(T:Txt K mg):FnO P w K mg base 1 "check_ask" Zq Vm:=by
 refine Bt T.Sx.F Oh λcdv A outer s H E hr=>?_
 exact(Ah (Er (Aa 1) (Cp rfl (Az (Av 2 Oh.nd) (Az (Av 3 Oh.nd) (Az (Av 4 Oh.nd) (Az (Av 5 Oh.nd) Cu)))))) (Ah (Br (Nm (K3 (Bm ZND (Aa 4) (ZPM (ss:=["least","most"]) rfl T.ZAE) (by with_unfolding_all rfl)) (Oa (ZM7 rfl T.Vi (Aa 2) (by with_unfolding_all rfl))))) (Al Nh) Bw) (Ah (Br (R7 (ZF7 Uq Lp Aj (Aa 3) (Bu Dj rfl T.Dk Dh (Ac (Ao Aq (Aa 0) (Bk (v:=(.int 1)) rfl T.Fx ⟨_,rfl⟩ (λ_ _=>rfl))) Ae)))) (Al Nh) Bw) (Al (Br (Bm (Jo hr.units) (Ao Aq (Ao Aq (Ao Aq (Aa 0) (Bk (v:=(.int 1)) rfl T.Fx ⟨_,rfl⟩ (λ_ _=>rfl))) (Aa 3)) (Bk (v:=(.int 0)) rfl T.Lf ⟨_,rfl⟩ (λ_ _=>rfl))) (ZHq rfl T.Vi (Aa 2)) (nomark _)) (Al Nh) Bw)))))
theorem ZHF(T:Txt K mg):FnO P w K mg base 1 "none_above" Xg Qq:=by
 refine Bt T.Q8.F ZJY λcdv A outer s H E hr=>?_
 exact(Ah (Br (Bm (Jo hr.units) (Bu Dj rfl T.Dk Dh (Ac (Aa 0) Ae)) (Bu Dj rfl T.Dk Dh (Ac (Aa 1) Ae)) (nomark _)) (Al (Bh W0)) Bw) (Al (Bh (Bu (ZFu rfl) rfl T.ZEW ZGk (Ac (Cq (I9 rfl (Gd (dn:=(Am Uu).names) (N0:=ZAh) (N:=["number","other"]) (nt:=2) (caps:=[])) (Ui rfl T.Qi (Ac (Aa 0) (Ac (Aa 1) Ae))) (λC s₀ H₀ ex=>(Cp rfl (Az (Av 0 (show(["number","other"]:List Str).Nodup by decide +kernel)) (Az (Av 1 (show(["number","other"]:List Str).Nodup by decide +kernel)) Cu)))) (Lg (Fg (Du (by decide)) (Fg (Du (by decide)) M9))) (λC s₀ H₀ ex=>Gn) (λC s₀ H₀ ex=>(Ij Uq (Aa 0) (Aa 1) (nomark _))))) Ae)))))
theorem ZEO(T:Txt K mg):FnO P w K mg base 2 "rows_under" ZAC Kl:=by
 refine Bt T.Qp.F ZJF λcdv A outer s H E hr=>?_
 exact(Ah (Br (Bm (Jo hr.units) (Bu Dj rfl T.Dk Dh (Ac (Aa 0) Ae)) (Bu Dj rfl T.Dk Dh (Ac (Aa 1) Ae)) (nomark _)) (Al (Bh W0)) Bw) (Al (Bh (Bu (ZFu rfl) rfl T.ZEW ZGk (Ac (Cq (I9 rfl (Gd (dn:=(Am Tt).names) (N0:=ZBH) (N:=["flood","other"]) (nt:=2) (caps:=[])) (Ui rfl T.Qi (Ac (Aa 0) (Ac (Aa 1) Ae))) (λC s₀ H₀ ex=>(Cp rfl (Az (Av 0 (show(["flood","other"]:List Str).Nodup by decide +kernel)) (Az (Av 1 (show(["flood","other"]:List Str).Nodup by decide +kernel)) Cu)))) (Lg (Fg (Du (by decide)) (Fg (Du (by decide)) M9))) (λC s₀ H₀ ex=>Gn) (λC s₀ H₀ ex=>(Bo (ZHF T) T.Q8 hr (Ac (Aa 0) (Ac (Aa 1) Ae)))))) Ae)))))
theorem ZLb(T:Txt K mg):FnO P w K mg base 3 "under" ZAU Vd:=by
 refine Bt T.V5.F Oi λcdv A outer s H E hr=>?_
 exact(Ah (Er (Aa 0) (Cp rfl (Az (Av 2 Oi.nd) (Az (Av 3 Oi.nd) Cu)))) (Ah (Er (Aa 1) (Cp rfl (Az (Av 4 Oi.nd) (Az (Av 5 Oi.nd) Cu)))) (Al (Bh (ZBC (Bo (ZHF T) T.Q8 hr (Ac (Aa 2) (Ac (Aa 4) Ae))) (Ue (Bo (ZEO T) T.Qp hr (Ac (Aa 3) (Ac (Aa 5) Ae)))))))))
theorem ZJX(T:Txt K mg):FnO P w K mg base 4 "check_bounds" Xv Vj:=by
 refine Bt T.Uj.F ZQE λcdv A outer s H E hr=>?_
 exact(Al (Br (Nm (K3 (R7 (O4 (Bo (ZLb T) T.V5 hr (Ac (Aa 0) (Ac (Aa 1) Ae))))) (Oa (R7 (O4 (Bo (ZEO T) T.Qp hr (Ac (Aa 2) (Ac (Aa 3) Ae)))))))) (Al Nh) Bw))
theorem ZIU(T:Txt K mg):FnO P w K mg base 1 "looked_through" ZAu Vf:=by
 refine Bt T.Tg.F Oq λcdv A outer s H E hr=>?_
 exact(Ah (Er (Aa 4) (Cp rfl (Az (Av 5 Oq.nd) (Az (Av 6 Oq.nd) (Az (Av 7 Oq.nd) (Az (Av 8 Oq.nd) Cu)))))) (Ah (Br (Bm (Dp hr.units) (Aa 7) Ds (nomark _)) (Al (Bh (Cg (Ac (Aa 0) (Ac (Aa 2) Ae))))) Bw) (Al (Bh (Cg (Ac (Aa 1) (Ac (Aa 3) Ae)))))))
theorem ZCF(T:Txt K mg):FnX P w K mg base 10 "look_ever" ZBL Im:=by
 refine ZDz T.Qz.F Qt λcdv A outer s H E hr=>?_
 exact(Ah (Gh (Dw (Bo (ZN3 T) T.Sx hr (Ac (Aa 0) (Ac (Aa 5) Ae))))) (Ah (Gh (Dw (Bo (ZHW T) T.Q4 hr (Ac (Aa 0) (Ac (Aa 3) Ae))))) (Ah (Gh (Dw (Bo (ZJX T) T.Uj hr (Ac (Aa 1) (Ac (Aa 2) (Ac (Aa 3) (Ac (Aa 4) Ae))))))) (Ah (Gh (Er (Bo (ZIU T) T.Tg hr (Ac (Aa 1) (Ac (Aa 2) (Ac (Aa 3) (Ac (Aa 4) (Ac (Aa 5) Ae)))))) (Cp rfl (Az (Av 7 Qt.nd) (Az (Av 8 Qt.nd) Cu))))) (Ah (Er (Cq (ZEV (ZDp T) (hr.mono (by decide)) rfl T.J7.m T.J7.k T.J7.b ZCA (Ac (Aa 0) (Ac (Aa 7) (Ac (Aa 8) (Ac (Aa 6) Ae)))))) (Cp rfl (Az (Av 9 Qt.nd) (Az (Av 10 Qt.nd) Cu)))) (Al (Gh (Bh (Bo (ZKs T) T.T8 hr (Ac (Aa 10) (Ac (Aa 5) Ae)))))))))))
theorem ZFl(T:Txt K mg):FnO P w K mg base 11 "_law_most_of" Zy Jd:=by
 refine Bt T.R3.F U5 λcdv A outer s H E hr=>?_
 exact(Ah (Ba 5 U5.nd Es) (Ah (ZOk (ZNP (Bm (Dp hr.units) (Aa 4) Ds (nomark _)) (ZDK (ZD6 (Yy T) T.Le hr (Ac (Aa 0) (Ac (Aa 1) (Ac (Aa 2) Ae))))) (ZDK (ZD6 (ZCF T) T.Qz hr (Ac (Aa 0) (Ac (Aa 1) (Ac (Aa 1) (Ac (Aa 2) (Ac (Aa 2) (Ac (Aa 3) Ae))))))))) (ZIg T.Yq (ZJi T.Nq.N T.ZAR ZES) ZES hr U5.nd (λea hr=>(Al (Ba 5 U5.nd (ZJn T.Nq (Aa 6))))) ZLQ)) (Al (Bh (Aa 5)))))
theorem ZK4(T:Txt K mg):FnO P w K mg base 1 "_law_states" ZAS Rh:=by
 refine Bt T.Ud.F ZCP λcdv A outer s H E hr=>?_
 exact(Ah (Ba 3 ZCP.nd (Fp (Ht Ae))) (Ah (ZAp fuel PassesOwn.never (Nm (K3 (Bm Lp (Bu Dj rfl T.Dk Dh (Ac (Aa 3) Ae)) Aj (nomark _)) (Oa (Bm (Jo hr.units) (Ao Aq (Aa 3) (Jw Jv Aj)) (Ao Aq (Aa 3) (Jw Jv Aj)) (nomark _))))) (Al (Dw (Hi PySem.F.slot_list_append PySem.F.type_list_append Mf (Aa 3) (Ac (Cg (Ac (Cg (Ac (Bu (Wj rfl) rfl T.N5 Mp (Ac (Aa 1) (Ac (Ar Dm (Aa 0) (Ar Ha (Aa 2) (Bu Dj rfl T.Dk Dh (Ac (Aa 3) Ae)))) Ae))) Ae)) (Ac (Cg (Ac (Cg (Ac Aj (Ac Aj (Ac Aj (Ac Aj (Ac Aj Ae)))))) Ae)) Ae))) Ae))))) (Al (Bh (Aa 3)))))
theorem ZHP(T:Txt K mg):FnO P w K mg base 1 "_law_whole" Yp Pr:=by
 refine Bt T.Ra.F ZKU λcdv A outer s H E hr=>?_
 exact(Al (Bh (ZBC (Bu ZE1 rfl T.ZD8 ZEY (Ac (Aa 0) (Ac (ZEL rfl T.ZCr ZFU) Ae))) (Ue (ZQS (Bu ZE1 rfl T.ZD8 ZEY (Ac (Aa 0) (Ac (ZEL rfl T.ZH9 ZKY) Ae))))))))
theorem ZPr(T:Txt K mg):FnO P w K mg base 12 "law" ZBI M4:=by
 refine Bt T.Oj.F Ek λcdv A outer s H E hr=>?_
 exact(Ah (Ba 1 Ek.nd (Bo (M3 T) T.Hk hr (Ac (Aa 0) (Ac Aj Ae)))) (Ah (Ba 2 Ek.nd Aj) (Ah (Br (Bm (Dp hr.units) (Ar Dq (Aa 1) Aj) Aj (nomark _)) (Al (Ba 2 Ek.nd (Ar Dm Aj (Ar Dq (Bo (M3 T) T.Hk hr (Ac (Aa 0) (Ac Aj Ae))) Aj)))) Bw) (Ah (Ba 3 Ek.nd (Ar Dm Aj (Ar Dq (Ar Ln (Aa 1) Aj) Aj))) (Ah (Ba 4 Ek.nd (Ar I8 (Ar Ha (Aa 3) (Ar Dm Aj (Ar Dq (Ar Ln (Aa 1) Aj) Aj))) (Ar Dq (Ar Ln (Aa 1) Aj) (Aa 3)))) (Ah (Br (Bm (Dp hr.units) (Ar Dq (Ar Ln (Aa 1) Aj) Aj) Aj (nomark _)) (Al (Ba 4 Ek.nd (Ar Dq (Bo (M3 T) T.Hk hr (Ac (Aa 0) (Ac Aj Ae))) Aj))) Bw) (Ah (Ba 5 Ek.nd (Ar Dq (Bo (M3 T) T.Hk hr (Ac (Aa 0) (Ac Aj Ae))) (Ar Q3 Aj Aj))) (Ah (Ba 6 Ek.nd (Ar Dq (Bo (M3 T) T.Hk hr (Ac (Aa 0) (Ac Aj Ae))) (Aa 2))) (Ah (Ba 7 Ek.nd (Cg (Ac (Aa 2) (Ac (Cg (Ac (Cg (Ac Ds (Ac Ds (Ac Ds (Ac (Ar Dq (Bo (M3 T) T.Hk hr (Ac (Aa 0) (Ac Aj Ae))) Aj) (Ac (Ar Dm (Aa 5) (Aa 4)) (Ac (Cg (Ac (Cg (Ac Aj (Ac (Cg Ae) Ae))) Ae)) (Ac Es Ae)))))))) Ae)) Ae)))) (Ah (ZFz (ZAe 8 rfl Ek.nd (Gd (dn:=(Am Fy).names) (N0:=Xw) (N:=["_law_k","_law_cubes","_law_when"]) (nt:=1) (caps:=[3,6])) (ZEw rfl T.Wv (Ac (Aa 2) Ae)) (λC s₀ H₀ ex=>(Av 0 (show(["_law_k","_law_cubes","_law_when"]:List Str).Nodup by decide +kernel))) (Du (by decide)) (λC s₀ H₀ ex=>Gn) (λC s₀ H₀ ex=>(Cg (Ac (Ar Ha (Aa 1) (Gk ZMo rfl T.ZCr ZFU (Ac (Ij (Dp hr.units) (Aa 0) (Aa 2) (nomark _)) Ae))) Ae))))) (Ah (Ba 9 Ek.nd (Cq (Bo (ZK4 T) T.Ud hr (Ac (Aa 5) (Ac (Ar Dm (Aa 5) (Aa 4)) (Ac (Aa 3) Ae)))))) (Ah (Ba 10 Ek.nd (Cg (Ac Ds (Ac Aj (Ac Ds (Ac (Ar Dm (Ar Dm (Aa 5) (Aa 4)) (Ar Dq (Bo (M3 T) T.Hk hr (Ac (Aa 0) (Ac Aj Ae))) Aj)) Ae)))))) (Ah (Br (Bm Lr (Bu Dj rfl T.Dk Dh (Ac (Aa 9) Ae)) Aj (nomark _)) (Ah (Ba 11 Ek.nd (Bo (ZFl T) T.R3 hr (Ac (Aa 7) (Ac (Ao Aq (Aa 9) Aj) (Ac (Cq (Gk (K5 rfl) rfl T.Jg K1 (Ac (Aa 8) Ae))) (Ac (Aa 10) (Ac Ds Ae))))))) (Ah (Ba 12 Ek.nd (Bo (ZFl T) T.R3 hr (Ac (Aa 7) (Ac (Ao Aq (Aa 9) Aj) (Ac (Cq (Gk (K5 rfl) rfl T.Jg K1 (Ac (Aa 8) Ae))) (Ac (Aa 10) (Ac Ds Ae))))))) (Ah (Br (Nm (K3 (R7 (O4 (Bo (ZHP T) T.Ra hr (Ac (Aa 11) Ae)))) (K3 (R7 (O4 (Bo (ZHP T) T.Ra hr (Ac (Aa 12) Ae)))) (K3 (Bm (Jo hr.units) (Aa 11) Aj (nomark _)) (Oa (Bm (Jo hr.units) (Aa 12) Aj (nomark _))))))) (Al (Bh W0)) Bw) (Al (Bh (Ij (Dp hr.units) (ZLJ (Yy T) T.Le T.ZH5 hr (Ac (Aa 7) (Ac (Ao Aq (Aa 9) Aj) (Ac (Cq (Gk (K5 rfl) rfl T.Jg K1 (Ac (Aa 8) Ae))) Ae))) (Ar I8 (Bu Dj rfl T.Dk Dh (Ac (Aa 9) Ae)) Aj)) (Aa 9) (nomark _))))))) Bw) (Ah (Br (Bm (Jo hr.units) (ZCv (Yy T) T.Le hr (Ac (Aa 7) (Ac (Ao Aq (Aa 9) Aj) (Ac (Cq (Gk (K5 rfl) rfl T.Jg K1 (Ac (Aa 8) Ae))) Ae)))) (Aa 9) (nomark _)) (Al (Bh W0)) Bw) (Ah (Ba 13 Ek.nd Aj) (Ah (Br (Bm Lr (Aa 4) Aj (nomark _)) (Al (Ba 13 Ek.nd (Ar Dm (Ar Ha (Ar I8 (Bu Dj rfl T.Dk Dh (Ac (Aa 9) Ae)) Aj) (Aa 2)) (Aa 6)))) Bw) (Al (Bh (Ij (Dp hr.units) (ZCv (ZCF T) T.Qz hr (Ac (Aa 7) (Ac (Ao Aq (Aa 9) Aj) (Ac (Ao Aq (Aa 9) Aj) (Ac (Cq (Gk (K5 rfl) rfl T.Jg K1 (Ac (Aa 8) Ae))) (Ac (Cq (Gk (K5 rfl) rfl T.Jg K1 (Ac (Aa 8) Ae))) (Ac (Aa 10) Ae))))))) (Cg (Ac Ds (Ac (Aa 13) (Ac (Ar Dm (Aa 5) (Aa 4)) Ae)))) (nomark _))))))))))))))))))))
end
theorem all_mk{l:PySem.W.OpenLaw}{w:xZ}{K:PySem.W.Frag}{h:Heap}{mg:Str->Option xQ}{fa:jL}(X:K.In h)(G:h.Ns xI mg)(hfa:mg "law"=vk (.ref fa))(S:AllSaid K asks):
  ∃fd:jO,(∀(s:jT)(v:xQ),BindsTo s fd ⟨[v],[]⟩ [("_law_script",v)])/\∀base:Heap,K.In base->base.Ns xI mg->FnOk l.prog w K mg base CX0 12 fa fd ["_law_script"] (lF K M4):=by
 obtain⟨Aw,S6,Tr,Hk,Q4,Ou,Kf,Qs,Ph,K9,Vh,Ub,Od,Rc,Ol,Ry,V4,W4,V6,Qy,V0,R8,Rn,Vu,V1,J7,Le,Ul,S9,T8,Sx,Q8,Qp,V5,Uj,Tg,Qz,R3,Ud,Ra,Oj,O3,Px,Ho,Uz,M5,Te,Vy,ZQW,ZQX,ZQY,ZQZ,ZQa,ZQb,ZQc,ZQd,ZQe,ZQf,ZQg,ZQh,ZQi,Xz,Tw,Y5,Lf,ZBE,W3,ZBU,ZAV,Fx,Qh,Zk,ZBB,Yb,Ze,Mv,ZAd,ZBv,Xy,Xb,Y0,ZA0,ZBR,Wh,ZAE,Vi,U3,Nq,Yh,Yq,ZAR,_⟩:=S
 have T:Txt K mg:=⟨Ce X G S6 (λ_ _ _ _ _ _ us hl=>match us,hl with |[_,_],_=>rfl),
  Ce X G Tr (λ_ _ _ _ _ _ us hl=>match us,hl with |[_],_=>rfl),
  Ce X G Hk (λ_ _ _ _ _ _ us hl=>match us,hl with |[_,_],_=>rfl),
  Ce X G Q4 (λ_ _ _ _ _ _ us hl=>match us,hl with |[_,_],_=>rfl),
  Jp Ou (λ_ _ _ _ _ _ us hl=>match us,hl with |[_,_,_,_,_],_=>rfl),
  Jp Kf (λ_ _ _ _ _ _ us hl=>match us,hl with |[_,_,_,_],_=>rfl),
  Ce X G Qs (λ_ _ _ _ _ _ us hl=>match us,hl with |[_,_],_=>rfl),
  Ce X G Ph (λ_ _ _ _ _ _ us hl=>match us,hl with |[_,_],_=>rfl),
  Jp K9 (λ_ _ _ _ _ _ us hl=>match us,hl with |[_,_,_],_=>rfl),
  Ce X G Vh (λ_ _ _ _ _ _ us hl=>match us,hl with |[_,_],_=>rfl),
  Ce X G Ub (λ_ _ _ _ _ _ us hl=>match us,hl with |[_,_],_=>rfl),
  Jp Od (λ_ _ _ _ _ _ us hl=>match us,hl with |[_,_],_=>rfl),
  Ce X G Rc (λ_ _ _ _ _ _ us hl=>match us,hl with |[_,_],_=>rfl),
  Ce X G Ol (λ_ _ _ _ _ _ us hl=>match us,hl with |[_,_],_=>rfl),
  Ce X G Ry (λ_ _ _ _ _ _ us hl=>match us,hl with |[_,_,_],_=>rfl),
  Ce X G V4 (λ_ _ _ _ _ _ us hl=>match us,hl with |[_],_=>rfl),
  Ce X G W4 (λ_ _ _ _ _ _ us hl=>match us,hl with |[_,_],_=>rfl),
  Ce X G V6 (λ_ _ _ _ _ _ us hl=>match us,hl with |[_],_=>rfl),
  Jp Qy (λ_ _ _ _ _ _ us hl=>match us,hl with |[_,_],_=>rfl),
  Ce X G V0 (λ_ _ _ _ _ _ us hl=>match us,hl with |[_],_=>rfl),
  Jp R8 (λ_ _ _ _ _ _ us hl=>match us,hl with |[_],_=>rfl),
  Jp Rn (λ_ _ _ _ _ _ us hl=>match us,hl with |[_],_=>rfl),
  Ce X G Vu (λ_ _ _ _ _ _ us hl=>match us,hl with |[_,_,_,_],_=>rfl),
  Ce X G V1 (λ_ _ _ _ _ _ us hl=>match us,hl with |[_,_,_,_],_=>rfl),
  Ce X G J7 (λ_ _ _ _ _ _ us hl=>match us,hl with |[_,_,_,_],_=>rfl),
  ZCu X G Le (λ_ _ _ _ _ _ _ us _ hl=>match us,hl with |[_,_,_,_],_=>⟨_,rfl,rfl⟩) (λ_ _ _ _ _ _ _ us _ hl=>match us,hl with |[_,_,_],_=>⟨_,rfl,rfl⟩),
  Ce X G Ul (λ_ _ _ _ _ _ us hl=>match us,hl with |[_,_,_],_=>rfl),
  Ce X G S9 (λ_ _ _ _ _ _ us hl=>match us,hl with |[_],_=>rfl),
  Ce X G T8 (λ_ _ _ _ _ _ us hl=>match us,hl with |[_,_],_=>rfl),
  Ce X G Sx (λ_ _ _ _ _ _ us hl=>match us,hl with |[_,_],_=>rfl),
  Ce X G Q8 (λ_ _ _ _ _ _ us hl=>match us,hl with |[_,_],_=>rfl),
  Ce X G Qp (λ_ _ _ _ _ _ us hl=>match us,hl with |[_,_],_=>rfl),
  Ce X G V5 (λ_ _ _ _ _ _ us hl=>match us,hl with |[_,_],_=>rfl),
  Ce X G Uj (λ_ _ _ _ _ _ us hl=>match us,hl with |[_,_,_,_],_=>rfl),
  Ce X G Tg (λ_ _ _ _ _ _ us hl=>match us,hl with |[_,_,_,_,_],_=>rfl),
  ZCu X G Qz (λ_ _ _ _ _ _ _ us _ hl=>match us,hl with |[_,_,_,_,_,_,_],_=>⟨_,rfl,rfl⟩) (λ_ _ _ _ _ _ _ us _ hl=>match us,hl with |[_,_,_,_,_,_],_=>⟨_,rfl,rfl⟩),
  Ce X G R3 (λ_ _ _ _ _ _ us hl=>match us,hl with |[_,_,_,_,_],_=>rfl),
  Ce X G Ud (λ_ _ _ _ _ _ us hl=>match us,hl with |[_,_,_],_=>rfl),
  Ce X G Ra (λ_ _ _ _ _ _ us hl=>match us,hl with |[_],_=>rfl),
  Ce X G Oj (λ_ _ _ _ _ _ us hl=>match us,hl with |[_],_=>rfl),
  ZPC X G Aw Ou,
  O3,
  Px,
  Ho,
  Uz,
  M5,
  Te,
  Vy,
  PySem.W.mg_none_of X G ZQW,
  PySem.W.mg_none_of X G ZQX,
  PySem.W.mg_none_of X G ZQY,
  PySem.W.mg_none_of X G ZQZ,
  PySem.W.mg_none_of X G ZQa,
  PySem.W.mg_none_of X G ZQb,
  PySem.W.mg_none_of X G ZQc,
  PySem.W.mg_none_of X G ZQd,
  PySem.W.mg_none_of X G ZQe,
  PySem.W.mg_none_of X G ZQf,
  PySem.W.mg_none_of X G ZQg,
  PySem.W.mg_none_of X G ZQh,
  PySem.W.mg_none_of X G ZQi,
  PySem.W.mg_of X G Xz,
  PySem.W.mg_of X G Tw,
  PySem.W.mg_of X G Y5,
  PySem.W.mg_of X G Lf,
  PySem.W.mg_of X G ZBE,
  PySem.W.mg_of X G W3,
  PySem.W.mg_of X G ZBU,
  PySem.W.mg_of X G ZAV,
  PySem.W.mg_of X G Fx,
  PySem.W.mg_of X G Qh,
  PySem.W.mg_of X G Zk,
  PySem.W.mg_of X G ZBB,
  PySem.W.mg_of X G Yb,
  PySem.W.mg_of X G Ze,
  PySem.W.mg_of X G Mv,
  PySem.W.mg_of X G ZAd,
  PySem.W.mg_of X G ZBv,
  PySem.W.mg_of X G Xy,
  PySem.W.mg_of X G Xb,
  PySem.W.mg_of X G Y0,
  PySem.W.mg_of X G ZA0,
  PySem.W.mg_of X G ZBR,
  PySem.W.mg_of X G Wh,
  ZI6 X G ZAE,
  ZP0 X G Vi,
  Jp U3 (λ_ _ _ _ _ _ us hl=>match us,hl with |[_,_],_=>rfl),
  ZKg X G Nq,
  ZKD X G Yh,
  ZKf X G Yq,
  ZAR,
  ZNo Le (λ_ _ _ _ _ _ _ us u _ hl=>match us,hl with |[_,_,_],_=>⟨_,rfl,rfl⟩)⟩
 have eL:mg "law"=vk (.ref (Af K "law")):=PySem.W.mg_of X G Oj.1;obtain rfl:fa=Af K "law":=by rw[hfa]at eL;cases eL;rfl
 exact⟨_,λs v=>ZMg (Rq Oj.2),λbase _ _=>ZPr T⟩
theorem walk{l:PySem.W.OpenLaw}{q:jR}{loose:List Str}{XP:(Str->Option xQ)->Heap->Prop}{YP:xZ->Heap->Prop}{d:DefRec}{K:xZ->PySem.W.Frag}(hn:l.most=vk 63)(hdf:d.params.defaults=[])(HH:Holds)
  (hY:∀(w:xZ)(h:Heap),YP w h->(K w).In h)
  (F:∀(w:xZ)(mg:Str->Option xQ)(fa:jL)(h:Heap),(K w).In h->h.Ns xI mg->mg d.name=vk (.ref fa)->
   ∃fd:jO,(∀(s:jT)(u:xQ),BindsTo s fd ⟨[u],[]⟩ [("_law_script",u)])/\∀base:Heap,(K w).In base->base.Ns xI mg->FnOk l.prog w (K w) mg base CX0 12 fa fd ["_law_script"] (lF (K w) M4)):
  PySem.W.WalkO q loose XP YP l.row.toRowW d [] (λf vs=>PySem.call f vs):=
 _L.ZIs (n:=63) (k:=12) (x:="_law_script") (CX:=λ_=>CX0) (sp:=λw=>lF (K w) M4) hn (by decide) hdf ⟨rfl,by decide,by decide⟩ hY F
  (λw H a ns hl hO hS=>by
   obtain⟨G,hG⟩:=HH ns hl;refine⟨⟨K w,0,λ_=>0,H⟩,[],[.fl (ns.map D.int)],rfl,rfl,⟨rfl,λi j h=>absurd h (Nat.not_lt_zero _),λi o h=>by simp at h,λi h=>absurd h (Nat.not_lt_zero _)⟩,Reps.cons ⟨a,ns.map V.int,rfl,?_,Reps.ints ns⟩ Reps.nil,?_⟩
   ·rcases hS with(hS|hS)|hS
    ·rcases hO a with z|⟨o,xs,z⟩
     ·rw[z]at hS;cases hS
     ·rw[z]at hS;cases hS
    ·exact .inl hS
    ·exact .inr hS
   ·rw[hG];exact λb v _ _ r=>r) λ_ _ _ _ _ z=>z
end _W
set_option maxRecDepth 100000
namespace _W
open PySem PySem.W _L _D
theorem ZNw:∀w os,(Qj pw w os).map (λs=>(Q9 pw w s.abs,PySem.W.Fast.tw4187177175401517315 vw ["KINDS_ASKED"] (PySem.W.Fast.tw5923862056798008813 pw.main.body) (XtOf rw_ vw) v5 s.abs,Qk asks s.abs.heap))=vk (v5,openGood vw ["KINDS_ASKED"],Om asks):=ZMP ZOo ZNJ
theorem ZEx:∀w,(openEnds xR pw w 100000).map (λs=>(openSeen vw ["KINDS_ASKED"] (x0 pw.main.body) (XtOf rw_ vw) v5 s,Qk asks s.heap))=vk (openGood vw ["KINDS_ASKED"],Om asks):=ZIk (by kernel_rfl) (λs=>rfl) ZNw
theorem well:rw_.wellSaid=v5:=ZPD (by kernel_rfl)
theorem hdef:defOf vw rw_.row.name=vk (dOf Fy,[]):=by kernel_rfl
theorem hp:rw_.row.prog.theDef rw_.row.name=vk ((dOf Fy).params,(dOf Fy).body,(dOf Fy).scope):=by kernel_rfl
theorem hk:kwWritten? (dOf Fy).params.kwonlyargs (dOf Fy).params.kw_defaults=vk []:=by kernel_rfl
theorem hok:(chainsOk vw&&opensWell rw_.row.prog&&(frees rw_.row.toRowW&&rw_.row.within.isEmpty))=v5:=by kernel_rfl
theorem hdf:(dOf Fy).params.defaults=[]:=by kernel_rfl
theorem hbare:rw_.row.prog.bare:=⟨rfl,rfl,rfl,rfl,rfl,by decide +kernel⟩
theorem hw:rw_.row.toRowW.promised:=by w_witness2
theorem walked:WalkO vw ["KINDS_ASKED"] (XL vw []) (Stays rw_.prog 100000) rw_.row.toRowW (dOf Fy) [] λf vs=>PySem.call f vs:=
 walk (l:=rw_) (K:=λw=>Pa (Ie pw 100000 w)) rfl hdf holds (λw h Y=>Y.in) λw mg fa h KX G hmg=>all_mk KX G (show mg "law"=_ from hmg) (ZFH (ZPc ZEx w))
end _W
open PySem PySem.W PyProof.Rows _D
theorem PySem.Challenge.cw_sluiceway_k58_a_slow_basin_holds : PySem.Challenge.rw_sluiceway_k58_a_slow_basin.Holds := by
 refine holds_top (l:=_W.rw_) (q:=_W.vw) (loose:=["KINDS_ASKED"]) (N:=100000) (see:=Qk _W.asks) (val:=Om _W.asks) (d:=dOf _W.Fy) ?_ ?_ ?_ ?_ ?_ ?_ ?_ ?_ ?_ ?_
 ·exact _W.well
 ·exact _W.ZEx
 ·exact _W.hdef
 ·exact _W.hp
 ·exact _W.hk
 ·rfl
 ·exact _W.hok
 ·exact _W.hbare
 ·exact _W.hw
 ·exact _W.walked
