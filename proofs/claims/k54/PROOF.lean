import PyProof.Rows.All
import Wide.All
import OpenK.AllK
import Wide.FinOn
import Lean
import PyProof.EqAt
import PyProof.EqKinds
import PyProof.TupleCall
import PyProof.NeKinds
import PyProof.IsInstanceH
import PyProof.SumWalkG
import PyProof.ConsumeWalk
import PyProof.IsiNone
import PyProof.WalksMore
import PyProof.PlainList
import PyProof.CompFree
import KE.KIntText
import PyProof.DictTable
import PyProof.ExcInit
import PyProof.ExcClass2
import PyProof.ExcBaseAll.ValueError
import OpenK.KOwn
import PyProof.RulesAs
import PyProof.NsDelKeeps
import OpenK.KMore
import PyProof.TupleOps
import PyProof.FactsAll.tuple_2
import PyProof.Rows.SetFrom
import PyProof.Rows.SortWalk
import PySem.Challenge.RW_sluiceway_k54_whole_all_floods_between
set_option compiler.extract_closed false
set_option bootstrap.genMatcherCode false
set_option genSizeOf false
set_option Elab.async false
set_option linter.all false
set_option maxRecDepth 100000
open Option renaming some→vF,none→vG
open Bool renaming true→vH,false→vI
open List renaming range→zQ,mem_cons_of_mem→zZ,getElem?_eq_getElem→zX,replicate→zV,mem_cons_self→zW,size_toArray→zY,mem_cons→zq,getElem?_map→zx,map_cons→zk,getElem?_eq_none→z0,getD_eq_getElem?_getD→zD,getElem?_eq_some_iff→zH,getElem?_append_right→zM,mem_map→zO,getElem?_range→zU,length_cons→qQ,drop_eq_getElem_cons→qZ,mem_append_right→qJ,drop_of_length_le→qX,getElem?_append_left→qV,replicate_succ→qW,length_map→qq,mem_range→qz,length_append→qj,set→qx,filterMap_map→qw,map_congr_left→qk,find?_cons→qy,all_eq_true→q8,getElem_mem→q9,filterMap_cons→qA,filterMap_eq_map'→qB,getElem_of_mem→qE,idxOf_lt_length_of_mem→qG,mem_singleton→qH,flatten_cons→qI,nodup_cons→qL,eq_nil_of_length_eq_zero→qM,ext_getElem→qN,all_cons→qO,map_map→qP,range_succ_eq_map→qS,getElem?_eq_none_iff→qU,getElem?_set_ne→jV,length_nil→jK,getElem?_set→jY,lookup→jq,getElem?_replicate→jz,getElem?_cons_succ→jx,getElem?_set_self→jw,lookup_cons→jk,append_nil→j1,foldl_cons→j2,range_succ→j3,pairwise_iff_getElem→j5,getLast?_eq_getElem?→j6,getElem?_take_of_lt→j7,map_eq_nil_iff→j8,length_set→j9,append_assoc→jB,length_singleton→jC,ext_getElem?→jD,length_take→jF,any_cons→jG,mem_append→jH,getElem_idxOf→jM,map_nil→jN,getElem?_cons_zero→jO,length_pos_of_mem→jR,length_replicate→jS,length_drop→jT,set_append_right→xQ,take_length→xZ,zipIdx_cons→xJ,mem_append_left→xV,nil_append→xW,forIn_cons→xY,drop_zero→xq,length→xz
open Nat renaming le_refl→zK,lt_of_lt_of_le→zj,le_trans→zC,ne_of_lt→zG,lt_irrefl→qK,lt_succ_self→qY,lt_succ_of_lt→qR,ne_of_gt→jy,lt_or_ge→j0,le_succ→jA,zero_le→jI,mul_le_mul→jP,le_add_right→xX,not_lt_zero→xK
open Int renaming le_refl→zL,emod_nonneg→qT,emod_lt_of_pos→jJ,le_trans→jv,natCast_add→j4,mul_nonneg→jE
open Option renaming map_eq_some_iff→zP,isSome_iff_exists→jX
open Bool renaming false_ne_true→zy,and_eq_true→zE,false_eq_true→jZ,and_eq_true_iff→jW,or_eq_true→jL
open Array renaming length_toList→qD,getElem?_toList→jQ
open PySem.Heap renaming get?_push_of_some→zJ,lt_size→zw,get?_push_size→zA,SameBut→qC,size_push→qF,get?_update_self→jU
open PySem renaming Addr→xj,Around→xw,Expr→xk,FuncData→xy,NameKind→x0,Program→xA,Scope→xB,Shared→xC,Stmt→xD,Value→xE,World→xF,assignEach→xG,attributeBase→xH,backTo→xI,backToKw→xL,behindInMarks→xM,binaryOp→xN,bootBuiltins→xO,checkBuiltinCall→xP,codeAny_mono→xR,compareOp→xS,importedModules→xT,keywordEach→xU,letOwnedTupleGo→vQ,mainGlobals→vZ,model→vJ,rawInt→vX,sizeLine_eq→vV,sliceBounds→vW,starEach→vK,treeTable→vY,wpAny→vq,wpAny_Call_Name_kw→vz,wpAny_bind→vj,wpAny_callSpecial?_slot→vx,wpAny_call_entry→vv,wpAny_field→vk,wpAny_holding→v4,wpAny_mono→v5,wpAny_newObj_type→v6,wpAny_passesOwn→v7,wpAny_pure→v8,wpAny_setField_rec→v9,wpAny_truthy_bool→vA
open PySem.W renaming Frag→vB,boot_heap→vC,kas_rev→vD
set_option maxHeartbeats 0
noncomputable section
namespace _L
open PySem PySem.Spec PyProof.Rows
def Hd(s:xD):Arguments:=match s with
 |.FunctionDef _ a _ _ _ _ _ _ _ _=>a
 |_=>{posonlyargs:=[],args:=[],vararg:=vG,kwonlyargs:=[],kw_defaults:=[],kwarg:=vG,defaults:=[]}
def Fe(s:xD):List xD:=match s with
 |.FunctionDef _ _ b _ _ _ _ _ _ _=>b
 |_=>[]
def Ak(s:xD):xB:=match s with
 |.FunctionDef _ _ _ _ _ _ sc _ _ _=>sc
 |_=>{kind:=.function,names:=[],isGenerator:=vI,isCoroutine:=vI}
end _L
namespace _D
open PySem PySem.W _L
variable{h:Heap}{C:xj}{m x q:Str}{st:xD}{mg:Str->Option xE}
def Lb:List Obj->Nat->vB
 |[],_=>[]
 |o::r,n=>match o.cls,o.data with
  |.none,.fields _=>Lb r (n+1)
  |_,.freed=>Lb r (n+1)
  |_,_=>(n,o)::Lb r (n+1)
def Ou(h:Heap):vB:=Lb h.objs.toList 0
def dOf(s:xD):DefRec:=match s with
 |Stmt.FunctionDef n a b _ _ _ s _ _ p=>⟨n,a,b,s,p⟩
 |_=>⟨Str.empty,⟨[],[],vG,[],[],vG,[]⟩,[],{kind:=.module,names:=[],isGenerator:=vI,isCoroutine:=vI,more:=[]},⟨0,0,0,0⟩⟩
abbrev XtOf(l:OpenLaw)(q:xA)(s:xC):Bool:=xlAt q [] s&&recOk l.row.toRowW.records s
def Bb(K:vB)(n:Str):xj:=match nsIn K vZ n with
 |some (vF (.ref f))=>f
 |_=>0
def gOk(K:vB)(n:Str):Bool:=match nsIn K vZ n with
 |some (vF (.ref _))=>vH
 |_=>vI
def Fq(K:vB)(C:xj)(m:Str):xj:=match findIn K (.ref C) m with
 |some (vF (.ref f))=>f
 |_=>0
def mOk(K:vB)(C:xj)(m:Str):Bool:=match findIn K (.ref C) m with
 |some (vF (.ref f))=>isFn K (.ref f)
 |_=>vI
def noF(K:vB)(C:xj)(m:Str):Bool:=match findIn K (.ref C) m with
 |some vG=>vH
 |_=>vI
def zOk(K:vB)(n:Str):Bool:=match nsIn K vZ n with
 |some vG=>vH
 |_=>vI
def ZCR(K:vB)(C:xj):Bool:=match findIn K (.ref C) "__setattr__" with
 |some (vF (.builtin s))=>s == "object.__setattr__"
 |_=>vI
def iOk(K:vB)(n:Str)(v:Int):Bool:=match nsIn K vZ n with
 |some (vF (.int u _))=>decide (u=v)
 |_=>vI
def sOk(K:vB)(n:Str)(v:Str):Bool:=match nsIn K vZ n with
 |some (vF (.str u _))=>decide (u=v)
 |_=>vI
def Hf(K:vB)(f:xj):Obj:=match K.lookup f with
 |some o=>o
 |none=>⟨.none,vG,.plain,#[]⟩
def Bs(K:vB)(f:xj):xy:=match(Hf K f).data with
 |.func fd=>fd
 |_=>default
def ZKS:xE->Bool
 |.none=>vH
 |_=>vI
def ZRl:FuncBody->Option (List xD)
 |.stmts b=>vF b
 |_=>vG
def Qz(K:vB)(x q:Str)(f:xj):Bool:=match K.lookup f with
 |some ⟨_,_,.func fd,_⟩=>decide (fd.name=x)&&decide (fd.qualname=q)&&(fd.globals==vZ&&fd.builtins==builtinsNs&&fd.closure.isEmpty&&ZKS fd.defaults)&&(codeIn K fd.code q&&keepIn K (.ref f))
 |_=>vI
abbrev DefTxt:=Arguments×Option (List xD)×xB
def Kr(K:vB)(f:xj):DefTxt:=((Bs K f).params,ZRl (Bs K f).body,(Bs K f).scope)
def Ko(st:xD):DefTxt:=(Hd st,vF (Fe st),Ak st)
def dfl (K:vB) (d:xE) (v:Int):Bool:=match d with
 | .ref T=>match K.lookup T with
  | some o=>(match o.data with
   |.seq a _=>(match a.toList with
    |[.int i _]=>decide (i=v)
    |_=>vI)
   |_=>vI)
  |none=>vI
 |_=>vI
def Yb(K:vB)(x q:Str)(f:xj)(v:Int):Bool:=match K.lookup f with
 |some ⟨_,_,.func fd,_⟩=>decide (fd.name=x)&&decide (fd.qualname=q)&&(fd.globals==vZ&&fd.builtins==builtinsNs&&fd.closure.isEmpty&&dfl K fd.defaults v)&&(codeIn K fd.code q&&keepIn K (.ref f))
 |_=>vI
def strsOf:List xE->Option (List Str)
 |[]=>vF []
 |.str s _::r=>(strsOf r).map (s::·)
 |_::_=>vG
def ZCf(K:vB)(n:Str)(vs:List Str):Bool:=match nsIn K vZ n with
 | some (vF (.ref p))=>(match K.lookup p with
   |some ⟨.type t,_,.seq its _,_⟩=>t == "tuple"&&decide (strsOf its.toList=vF vs)&&Nat.ble its.toList.length 1000
   |_=>vI)
 |_=>vI
def ZBE(K:vB)(n:Str)(kvs:List (Str×Str)):Bool:=match nsIn K vZ n with
 | some (vF (.ref p))=>(match K.lookup p with
   |some ⟨.type t,_,.dict es _,_⟩=>t == "dict" && !(p==sysModules)&&decide (strsOf (es.toList.map (·.key))=vF (kvs.map (·.1)))&&decide (strsOf (es.toList.map (·.val))=vF (kvs.map (·.2)))
   |_=>vI)
 |_=>vI
inductive Ask where
 |fn (n:Str) (st:xD)
 |mt (c m q:Str) (st:xD)
 |cl (c:Str)
 |no (c x:Str)
 |z (n:Str)
 |gi (n:Str) (v:Int)
 |gs (n v:Str)
 |gt (n:Str) (vs:List Str)
 |gd (n:Str) (kvs:List (Str×Str))
 |ck (φ:vB->Bool)
 |fd (n:Str) (st:xD) (v:Int)
noncomputable def Ask.chk(K:vB):Ask->Bool
 |.fn n _=>gOk K n&&Qz K n n (Bb K n)
 |.mt c m q _=>mOk K (Bb K c) m&&Qz K m q (Fq K (Bb K c) m)
 |.cl c=>gOk K c&&(plainGet K (Bb K c) Str.empty&&hasDictIn K (Bb K c)&&plainOver K (Bb K c))&&(ZCR K (Bb K c)&&makesIn K (Bb K c)&&keepIn K (.ref (Bb K c)))
 |.no c x=>noF K (Bb K c) x
 |.z n=>zOk K n
 |.gi n v=>iOk K n v
 |.gs n v=>sOk K n v
 |.gt n vs=>ZCf K n vs
 |.gd n kvs=>ZBE K n kvs
 |.ck φ=>φ K
 |.fd n _ v=>gOk K n&&Yb K n n (Bb K n) v
def Ask.txt(K:vB):Ask->Option DefTxt
 |.fn n _=>vF (Kr K (Bb K n))
 |.mt c m _ _=>vF (Kr K (Fq K (Bb K c) m))
 |.fd n _ _=>vF (Kr K (Bb K n))
 |_=>vG
def Ask.want:Ask->Option DefTxt
 |.fn _ st=>vF (Ko st)
 |.mt _ _ _ st=>vF (Ko st)
 |.fd _ st _=>vF (Ko st)
 |_=>vG
def Q8(l:List Ask)(h:Heap):Bool×List (Option DefTxt):=(l.all (Ask.chk (Ou h)),l.map (Ask.txt (Ou h)))
abbrev Pz(l:List Ask):Bool×List (Option DefTxt):=(vH,l.map Ask.want)
noncomputable def Qn(p:xA)(w:xF)(n₀:Nat)(ann:Option xE):Nat->SharedT->Thread->Option SharedT
 |0,_,_=>vG
 | n+1,s,t=>match through t with
  |true=>vF s
  | false=>match PySem.W.Fast.tw6613529449190102663 n₀ ann t with
   |false=>vG
   |true=>match PySem.W.Fast.tw10156331382660048174 (PySem.W.Fast.tw11892475500146522536 PySem.W.Fast.tw14364793385576792824) p w s t with
    |some (s',t')=>Qn p w n₀ ann n s' t'
    |none=>vG
def ZEo:List Obj->Nat->BT->BT
 |[],_,t=>t
 |o::r,n,t=>ZEo r (n+1) (t.ins n o)
def ZDl(w:xF)(os:OsState):SharedT:=⟨ZEo (vC w.params).objs.toList 0 .nil,(vC w.params).objs.size,(vC w.params).life,Array.mk [],boot_drawn,boot_toks,os⟩
def Qh(p:xA)(w:xF)(os:OsState):Option SharedT:=Qn p w (vC w.params).objs.size (PySem.W.Fast.tw8920871248978507458 (vC w.params) vZ "__annotations__") 100000 (ZDl w os) (topStub p)
def Q3(p:xA)(w:xF)(s:xC):Bool:=staticsOk (PySem.W.Fast.tw5923862056798008813 p.main.body) (vC w.params) s.heap&&namesBound p s.heap&&gensDone s&&laidKept (vC w.params) s.heap
theorem ZNi(h:PySem.W.Fast.tw9446332074065402090 l=vH):l.wellSaid=vH:=by rw[PySem.W.Fast.te9446332074065402090];exact h
def ftW(w:xF)(b:Bool):xF:={w with params:={w.params with followText:=λx=>match x == "special-get-raises" with |true=>b|false=>w.params.followText x}}
theorem ZPA(w:xF):ftW w (w.params.followText "special-get-raises")=w:=by
 obtain⟨d,p⟩:=w;obtain⟨a1,a2,a3,a4,a5,f,a7,a8,a9,a10,a11,a12,a13,a14,a15,a16,a17,a18,a19,a20,a21,a22,a23,a24,a25⟩:=p
 have e:(λx:String=>match x == "special-get-raises" with |true=>f "special-get-raises"|false=>f x)=f:=by
  funext x;cases h:x == "special-get-raises" with
  |true=>rw[beq_iff_eq.mp h]
  |false=>rfl
 unfold ftW;dsimp only;rw[e]
theorem ZTU{P:xF->Prop}(h1:∀w,P (ftW w vH))(h2:∀w,P (ftW w vI)):∀w,P w:=λw=>by
 have h:∀b,P (ftW w b):=λb=>by cases b;exact h2 w;exact h1 w
 have:=h (w.params.followText "special-get-raises");rwa[ZPA]at this
end _D
namespace _W
open PySem PySem.W _L _D
def top(i:Nat):xD:=PySem.Challenge.pw_sluiceway_k54_whole_all_floods_between.main.body.getD i (.Pass ⟨0,0,0,0⟩)
def inC(s:xD)(j:Nat):xD:=match s with
 |.ClassDef _ _ _ body _ _ _ _ _ _ _=>body.getD j (.Pass ⟨0,0,0,0⟩)
 |_=>.Pass ⟨0,0,0,0⟩
abbrev ZAv:=top 65
abbrev Yl:=top 61
abbrev ZB8:=top 60
abbrev ZAp:=top 62
abbrev ZBR:=top 64
abbrev ZBm:=top 75
abbrev ZCe:=top 76
abbrev ZB7:=top 82
abbrev Xx:=top 77
abbrev W9:=top 73
abbrev ZCq:=top 78
abbrev ZBS:=top 80
abbrev W2:=top 69
abbrev ZAj:=top 67
abbrev Wi:=top 66
abbrev Yg:=top 68
abbrev ZCP:=top 70
abbrev ZBK:=top 63
abbrev Xo:=top 71
abbrev ZCW:=top 74
abbrev Wz:=top 72
abbrev ZAg:=top 79
abbrev ZBA:=top 81
abbrev Ym:=top 57
abbrev Ww:=top 58
abbrev ZAD:=top 56
abbrev ZA1:=top 53
abbrev Y5:=top 51
abbrev ZBZ:=top 50
abbrev ZCO:=top 49
abbrev Zc:=top 54
abbrev Zx:=top 55
abbrev ZBY:=inC (top 42) 0
abbrev ZBz:=inC (top 42) 5
abbrev ZCg:=top 20
abbrev ZAw:=top 21
abbrev Wk:=inC (top 42) 4
abbrev ZAy:=top 33
abbrev ZAe:=top 32
abbrev Wx:=inC (top 42) 2
abbrev Vs:=top 28
abbrev Y8:=top 44
abbrev Xh:=top 45
abbrev Yi:=top 29
abbrev ZCi:=top 30
abbrev ZCt:=top 27
abbrev ZCC:=inC (top 42) 3
abbrev W5:=top 43
abbrev ZAl:=inC (top 42) 1
abbrev ZBL:=inC (top 42) 6
abbrev Z8:=top 40
abbrev ZCy:=top 41
abbrev ZBt:=top 52
abbrev Hg:=top 83
noncomputable def asks:List Ask:=[.cl "Course",.fn "_law_amount" ZAv,.fn "_law_off" Yl,.fn "_law_tape" ZB8,.fn "_law_cell_at" ZAp,.fn "_law_unit" ZBR,.fn "_law_added" ZBm,.fn "_law_ask" ZCe,.fn "_law_beyond" ZB7,.fn "_law_column" Xx,.fn "_law_floods" W9,.fn "_law_amid" ZCq,.fn "_law_floods_amid" ZBS,.fn "_law_pumped" W2,.fn "_law_steps" ZAj,.fn "_law_year" Wi,.fn "_law_rule" Yg,.fn "_law_basin" ZCP,.fn "_law_name" ZBK,.fn "_law_house" Xo,.fn "_law_number" ZCW,.fn "_law_state" Wz,.fn "_law_state_amid" ZAg,.fn "_law_told" ZBA,.fn "is_beyond" Ym,.fn "part_asked" Ww,.fn "answered" ZAD,.fn "check_ask" ZA1,.fn "none_above" Y5,.fn "rows_under" ZBZ,.fn "under" ZCO,.fn "check_bounds" Zc,.fn "looked_through" Zx,.mt "Course" "__init__" "Course.__init__" ZBY,.mt "Course" "send" "Course.send" ZBz,.fn "number_of" ZCg,.fn "down_of" ZAw,.mt "Course" "send_down" "Course.send_down" Wk,.fn "opened" ZAy,.fn "stairs_at" ZAe,.mt "Course" "go_basin" "Course.go_basin" Wx,.fn "passed" Vs,.fn "down_in_reach" Y8,.fn "reach_rows" Xh,.fn "served" Yi,.fn "way_down" ZCi,.fn "shares" ZCt,.mt "Course" "go_reach" "Course.go_reach" ZCC,.fn "lasts_of_reaches" W5,.mt "Course" "go" "Course.go" ZAl,.mt "Course" "state_behind" "Course.state_behind" ZBL,.fn "turn" Z8,.fn "run" ZCy,.fn "look" ZBt,.fn "law" Hg,.no "Course" "came",.no "Course" "coming",.no "Course" "house",.no "Course" "levels",.no "Course" "page",.no "Course" "reaches",.no "Course" "year_turn",.z "all",.z "any",.z "bool",.z "enumerate",.z "int",.z "isinstance",.z "len",.z "list",.z "max",.z "min",.z "range",.z "sorted",.z "str",.z "tuple",.z "zip",.gi "BRIM" 4,.gi "DELAY" 3,.gi "DOWN" 2,.gi "KIND" 0,.gi "LET" 3,.gi "LIES" 5,.gi "NAME" 1,.gi "NEED" 4,.gi "PLACES" 1,.gi "PUMP" 6,.gi "PUMPED" 4,.gi "PUMP_DELAY" 1,.gi "PUMP_TO" 0,.gi "RANK" 5,.gi "ROW_DOWN" 0,.gi "ROW_NEED" 2,.gi "ROW_RANK" 3,.gi "ROW_WATER" 1,.gi "RULE" 5,.gs "SEA" "sea",.gi "SPILLED" 2,.gi "TOOK" 1,.gi "YEAR" 0,.gt "SENSES" ["least","most"],.gd "KINDS_ASKED" [("lies","basin"),("spilled","basin"),("let","basin"),("pumped","basin"),("took","town")]]
abbrev rw_:OpenLaw:=PySem.Challenge.rw_sluiceway_k54_whole_all_floods_between
abbrev pw:xA:=OpenLaw.prog PySem.Challenge.rw_sluiceway_k54_whole_all_floods_between
def vw:xA:=view pw (zQ 84)
theorem ZSjb:∀w os,(Qh pw (ftW w vH) os).map (λs=>PySem.W.Fast.tw4187177175401517315 vw ["KINDS_ASKED"] (PySem.W.Fast.tw5923862056798008813 pw.main.body) (XtOf rw_ vw) vH s.abs)=vF (openGood vw ["KINDS_ASKED"]):=λw os=>by kernel_rfl
theorem ZSja:∀w os,(Qh pw (ftW w vH) os).map (λs=>(Q3 pw (ftW w vH) s.abs,Q8 asks s.abs.heap))=vF (vH,Pz asks):=λw os=>by kernel_rfl
theorem ZSj:∀w os,(Qh pw (ftW w vH) os).map (λs=>(Q3 pw (ftW w vH) s.abs,PySem.W.Fast.tw4187177175401517315 vw ["KINDS_ASKED"] (PySem.W.Fast.tw5923862056798008813 pw.main.body) (XtOf rw_ vw) vH s.abs,Q8 asks s.abs.heap))=vF (vH,openGood vw ["KINDS_ASKED"],Pz asks):=λw os=>by
 have h1:=ZSjb w os
 have h2:=ZSja w os
 revert h1 h2
 generalize Qh pw (ftW w vH) os=o
 intro h1 h2
 cases o with
 |none=>cases h2
 |some s=>exact congrArg some (Prod.ext (Prod.mk.inj (Option.some.inj h2)).1 (Prod.ext (Option.some.inj h1) (Prod.mk.inj (Option.some.inj h2)).2))
theorem ZTBb:∀w os,(Qh pw (ftW w vI) os).map (λs=>PySem.W.Fast.tw4187177175401517315 vw ["KINDS_ASKED"] (PySem.W.Fast.tw5923862056798008813 pw.main.body) (XtOf rw_ vw) vH s.abs)=vF (openGood vw ["KINDS_ASKED"]):=λw os=>by kernel_rfl
theorem ZTBa:∀w os,(Qh pw (ftW w vI) os).map (λs=>(Q3 pw (ftW w vI) s.abs,Q8 asks s.abs.heap))=vF (vH,Pz asks):=λw os=>by kernel_rfl
theorem ZTB:∀w os,(Qh pw (ftW w vI) os).map (λs=>(Q3 pw (ftW w vI) s.abs,PySem.W.Fast.tw4187177175401517315 vw ["KINDS_ASKED"] (PySem.W.Fast.tw5923862056798008813 pw.main.body) (XtOf rw_ vw) vH s.abs,Q8 asks s.abs.heap))=vF (vH,openGood vw ["KINDS_ASKED"],Pz asks):=λw os=>by
 have h1:=ZTBb w os
 have h2:=ZTBa w os
 revert h1 h2
 generalize Qh pw (ftW w vI) os=o
 intro h1 h2
 cases o with
 |none=>cases h2
 |some s=>exact congrArg some (Prod.ext (Prod.mk.inj (Option.some.inj h2)).1 (Prod.ext (Option.some.inj h1) (Prod.mk.inj (Option.some.inj h2)).2))
theorem ZLW:∀w os,(Qh pw w os).map (λs=>(Q3 pw w s.abs,PySem.W.Fast.tw4187177175401517315 vw ["KINDS_ASKED"] (PySem.W.Fast.tw5923862056798008813 pw.main.body) (XtOf rw_ vw) vH s.abs,Q8 asks s.abs.heap))=vF (vH,openGood vw ["KINDS_ASKED"],Pz asks):=ZTU ZSj ZTB
theorem well:rw_.wellSaid=vH:=ZNi (by kernel_rfl)
theorem hdef:defOf vw rw_.row.name=vF (dOf Hg,[]):=by kernel_rfl
theorem hp:rw_.row.prog.theDef rw_.row.name=vF ((dOf Hg).params,(dOf Hg).body,(dOf Hg).scope):=by kernel_rfl
theorem hk:kwWritten? (dOf Hg).params.kwonlyargs (dOf Hg).params.kw_defaults=vF []:=by kernel_rfl
theorem hok:(chainsOk vw&&opensWell rw_.row.prog&&(frees rw_.row.toRowW&&rw_.row.within.isEmpty))=vH:=by kernel_rfl
theorem hdf:(dOf Hg).params.defaults=[]:=by kernel_rfl
theorem hbare:rw_.row.prog.bare:=⟨rfl,rfl,rfl,rfl,rfl,by decide +kernel⟩
theorem hw:rw_.row.toRowW.promised:=by w_witness2
end _W
namespace _L
open PySem PySem.Spec PyProof.Rows
variable{t':Nat}{s:xC}{vE:List (xj×Obj)}{K:PySem.W.Frag}{tg:xk}{P:xA}{mg:Str->Option xE}{base:Heap}{kindOf:Str->Option x0}
abbrev Key:=Sum Int Str
def Mz:Key->xE->Bool
 |.inl k,v=>Value.isInt k v
 |.inr x,v=>Value.isStrOf x v
def keyH(w:xF):Key->Int
 |.inl k=>hashInt k
 |.inr x=>hashStr w x
theorem Iu:∀{k:Key}{v:xE},Mz k v=vH->(∃i t,k=Sum.inl i/\v=Value.int i t)∨(∃x t,k=Sum.inr x/\v=Value.str x t)
 |.inl i,v,h=>by obtain⟨t,e⟩:=Value.isInt_shape (k:=i) (v:=v) h;exact .inl ⟨i,t,rfl,e⟩
 |.inr x,v,h=>by obtain⟨t,e⟩:=Value.isStrOf_shape (x:=x) (v:=v) h;exact .inr ⟨x,t,rfl,e⟩
theorem ZKY(i:Int)(t:Tok):Mz (.inl i) (.int i t)=vH:=by simp[Mz,Value.isInt]
theorem ZUY(x:Str)(t:Tok):Mz (.inr x) (.str x t)=vH:=by simp[Mz,Value.isStrOf]
theorem ZOs(a b:Int):decide ((Sum.inl a:Key)=Sum.inl b)=(a==b):=by
 by_cases e:a=b
 ·subst e;simp
 ·have h:¬(Sum.inl a:Key)=Sum.inl b:=λq=>e (Sum.inl.inj q)
  rw[decide_eq_false h];exact(beq_eq_false_iff_ne.mpr e).symm
theorem ZRF(a b:Str):decide ((Sum.inr a:Key)=Sum.inr b)=decide (a=b):=by
 by_cases e:a=b
 ·subst e;simp
 ·have h:¬(Sum.inr a:Key)=Sum.inr b:=λq=>e (Sum.inr.inj q)
  rw[decide_eq_false h,decide_eq_false e]
theorem ZLc(a:Int)(b:Str):decide ((Sum.inl a:Key)=Sum.inr b)=vI:=decide_eq_false (λq=>nomatch q)
theorem ZSI(a:Str)(b:Int):decide ((Sum.inr a:Key)=Sum.inl b)=vI:=decide_eq_false (λq=>nomatch q)
noncomputable def Gh(prog:xA)(w:xF):PySem.KeyKind prog w Key where
 is:=Mz
 hash:=keyH w
 inj:=λv a b ha hb=>by
  rcases Iu ha with⟨i,t,rfl,rfl⟩|⟨x,t,rfl,rfl⟩
  ·rcases Iu hb with⟨j,u,rfl,e⟩|⟨y,u,rfl,e⟩
   ·injection e with e1 _;rw[e1]
   ·exact nomatch e
  ·rcases Iu hb with⟨j,u,rfl,e⟩|⟨y,u,rfl,e⟩
   ·exact nomatch e
   ·injection e with e1 _;rw[e1]
 byValue:=λk v h=>by rcases Iu h with⟨i,t,rfl,rfl⟩|⟨x,t,rfl,rfl⟩<;>rfl
 pyHash:=λhv h=>by
  rcases Iu hv with⟨i,t,rfl,rfl⟩|⟨x,t,rfl,rfl⟩
  ·exact wpAny_pyHash_int h
  ·exact wpAny_pyHash_str h
 eqBool:=λhu hv h=>by
  rcases Iu hu with⟨i,t,rfl,rfl⟩|⟨x,t,rfl,rfl⟩
  ·rcases Iu hv with⟨j,u,rfl,rfl⟩|⟨y,u,rfl,rfl⟩
   ·rw[ZOs]at h;exact wpAny_eqBool_int h
   ·rw[ZLc]at h;exact SeqAt.EqAt.int_str i t y u _ _ _ _ h
  ·rcases Iu hv with⟨j,u,rfl,rfl⟩|⟨y,u,rfl,rfl⟩
   ·rw[ZSI]at h;exact SeqAt.EqAt.str_int x t j u _ _ _ _ h
   ·rw[ZRF]at h;exact wpAny_eqBool_str h
 «strs»:=λk x t v h=>by
  rcases Iu h with⟨i,u,rfl,e⟩|⟨y,u,rfl,e⟩
  ·exact nomatch e
  ·injection e with e1 _
   subst e1
   cases v<;>rfl
theorem ZSL(prog:xA)(w:xF)(i:Int)(t:Tok):(Gh prog w).is (.inl i) (.int i t)=vH:=ZKY i t
theorem ZT6(prog:xA)(w:xF)(x:Str)(t:Tok):(Gh prog w).is (.inr x) (.str x t)=vH:=ZUY x t
inductive V where
 |non|bl (b:Bool)|int (i:Int)|str (x:Str)|byt (b:Array UInt8)|flt (b:UInt64)|ref (a:xj)|ty (n:String)
 deriving DecidableEq
def RelV:V->xE->Prop
 |.non,u=>u=Value.none
 |.bl b,u=>u=Value.bool b
 |.int i,u=>∃t,u=Value.int i t
 |.str x,u=>∃t,u=Value.str x t
 |.byt b,u=>∃t,u=Value.bytes b t
 |.flt b,u=>∃t,u=Value.float b t
 |.ref a,u=>u=Value.ref a
 |.ty n,u=>u=Value.type n
abbrev Vals:List V->List xE->Prop:=Paired RelV
theorem Vals.length{xs:List V}{us:List xE}(r:Vals xs us):xs.length=us.length:=Paired.length r
theorem Vals.get:∀{xs:List V}{us:List xE}{i:Nat}{x:V},Vals xs us->xs[i]?=vF x->∃u,us[i]?=vF u/\RelV x u
 |_,_,_,_,.nil,e=>by simp at e
 |_,_,0,_,.cons r _,e=>by simp at e;subst e;exact⟨_,rfl,r⟩
 |_,_,i+1,x,.cons _ t,e=>by obtain⟨u,h1,h2⟩:=Vals.get (i:=i) (x:=x) t (by simpa using e);exact⟨u,by simpa using h1,h2⟩
theorem Vals.set(r:RelV x u):∀{xs:List V}{us:List xE}(i:Nat),Vals xs us->Vals (xs.set i x) (us.set i u)
 |_,_,_,.nil=>.nil
 |_,_,0,.cons _ t=>.cons r t
 |_,_,i+1,.cons q t=>.cons q (Vals.set r i t)
theorem Vals.append:∀{xs ys:List V}{us ws:List xE},Vals xs us->Vals ys ws->Vals (xs++ys) (us++ws)
 |_,_,_,_,.nil,s=>s
 |_,_,_,_,.cons r t,s=>.cons r (Vals.append t s)
theorem Vals.take:∀{xs:List V}{us:List xE}(n:Nat),Vals xs us->Vals (xs.take n) (us.take n)
 |_,_,0,_=>.nil
 |_,_,_+1,.nil=>.nil
 |_,_,n+1,.cons r t=>.cons r (Vals.take n t)
theorem Vals.drop:∀{xs:List V}{us:List xE}(n:Nat),Vals xs us->Vals (xs.drop n) (us.drop n)
 |_,_,0,r=>r
 |_,_,_+1,.nil=>.nil
 |_,_,n+1,.cons _ t=>Vals.drop n t
def RelO:Option V->Option xE->Prop
 |some v,vF u=>RelV v u
 |none,vG=>True
 |_,_=>False
def KV{κ:Type}:List (κ×V)->List (κ×xE)->Prop:=Paired λ(p:κ×V)(q:κ×xE)=>p.1=q.1/\RelV p.2 q.2
def kV:Key->V
 |.inl i=>.int i
 |.inr x=>.str x
inductive HO where
 |lst (xs:List V)
 |tup (xs:List V)
 |dK (kvs:List (Key×V))|dT (kvs:List (List Key×V))
 |set (S:Int->Bool) (n:Nat)
 |ins (C dx:xj) (fs:List (Str×V))
 |own (x:xj)
 |xd (fs:List (Str×V))
 |met (f x:xj)
 |rng (lo hi:Int)
 |frz (o:Obj) (u:HO)
 |tbl (ps:Array xE)
 |ext (φ:Heap->Prop)
abbrev Hp:=xj->Option HO
def upd(H:Hp)(a:xj)(o:HO):Hp:=λb=>if b=a then vF o else H b
theorem Ei:upd H a o a=vF o:=by unfold upd;rw[if_pos rfl]
theorem Al(h:b≠a):upd H a o b=H b:=by unfold upd;rw[if_neg h]
theorem Gj{H:Hp}{a b:xj}{o:HO}(h:H a=vF o)(h':H b=vG):a≠b:=by intro e;subst e;rw[h]at h';cases h'
section
variable(P:xA)(w:xF)
def ObjOk(H:Hp)(h:Heap)(a:xj):HO->Prop
 |.lst xs=>xs.length<=sizeLine/\∃(its:List xE)(n:Nat),Vals xs its/\h.get? a=vF {cls:=.type "list",data:=.seq its.toArray n}
 |.tup xs=>xs.length<=sizeLine/\∃its:List xE,Vals xs its/\IsTup h a its.toArray
 |.dK kvs=>kvs.length<=sizeLine/\(a==sysModules)=vI/\∃vs,KV kvs vs/\h.DictOf (Gh P w) a vs
 | .dT kvs=>kvs.length<=sizeLine/\(a==sysModules)=vI/\∃xs:List (List Key×xj×xE),
   Paired (λ(p:List Key×V)(q:List Key×xj×xE)=>p.1=q.1/\H q.2.1=vF (.tup (p.1.map kV))/\RelV p.2 q.2.2) kvs xs/\
   ∃o es ep,h.get? a=vF o/\o.ExactDict/\o.data=.dict es ep/\es.toList=xs.map (entryOfKey (tupleKind (Gh P w)))/\(xs.map (·.1)).Nodup
 |.set S n=>h.SetOf (intKind P w) a S n
 | .ins C dx fs=>H dx=vF (.own a)/\fs.length<=1000/\dx≠a/\h.get? a=vF (PySem.W.instObj C dx)/\
   ∃mA,h.Ns1 dx mA/\(∀f,RelO (fs.lookup f) (mA f))/\PySem.Within mA (fs.map (·.1))
 |.own _=>∃o,h.get? a=vF o
 |.xd fs=>∃mA,h.Ns1 a mA/\∀f,RelO (fs.lookup f) (mA f)
 |.rng lo hi=>∃t u v,h.get? a=vF {cls:=.type "range",data:=.fields #[.int lo t,.int hi u,.int 1 v]}
 |.frz o u=>h.get? a=vF o/\ObjOk H h a u
 |.tbl ps=>h.get? a=vF {cls:=.none,data:=.fields ps}
 |.met f x=>h.get? a=vF (PySem.W.methodObj (.ref f) (.ref x))
 |.ext φ=>φ h/\(∃o,h.get? a=vF o)/\∀h1 h2:Heap,φ h1->(∀o,h1.get? a=vF o->h2.get? a=vF o)->φ h2
def HOk(H:Hp)(h:Heap):Prop:=∀a o,H a=vF o->ObjOk P w H h a o
end
section
variable{P:xA}{w:xF}{H H':Hp}{h h':Heap}{a:xj}{o:HO}
theorem ObjOk.lt(x:ObjOk P w H h a o):a<h.objs.size:=by
 cases o with
 |lst xs=>obtain⟨_,_,_,_,e⟩:=x;exact zw e
 |tup xs=>obtain⟨_,_,_,p⟩:=x;exact p.lt
 |dK kvs=>obtain⟨_,_,_,_,o,_,_,e,_⟩:=x;exact zw e
 |dT kvs=>obtain⟨_,_,_,_,o,_,_,e,_⟩:=x;exact zw e
 |set S n=>obtain⟨o,_,_,_,e,_⟩:=x;exact zw e
 |ins C dx fs=>obtain⟨_,_,_,e,_⟩:=x;exact zw e
 |own y=>obtain⟨_,e⟩:=x;exact zw e
 |xd fs=>obtain⟨_,⟨_,_,_,e,_⟩,_⟩:=x;exact zw e
 |rng lo hi=>obtain⟨_,_,_,e⟩:=x;exact zw e
 |frz ob u=>obtain⟨e,_⟩:=x;exact zw e
 |tbl ps=>exact zw (show h.get? a=vF _ from x)
 |met f y=>exact zw (show h.get? a=vF _ from x)
 |ext φ=>obtain⟨_,⟨_,e⟩,_⟩:=x;exact zw e
theorem Paired.mapP{α β:Type}{F G:α->β->Prop}:∀{l₁:List α}{l₂:List β},Paired F l₁ l₂->(∀a b,F a b->G a b)->Paired G l₁ l₂
 |_,_,.nil,_=>.nil
 |_,_,.cons r t,f=>.cons (f _ _ r) (Paired.mapP t f)
theorem ObjOk.stay(x:ObjOk P w H h a o)(k:∀b u,(b=a∨H b=vF (.own a))->h.get? b=vF u->h'.get? b=vF u)
  (ho:∀b,H b=vF (.own a)->H' b=vF (.own a)) (ht:∀b xs,H b=vF (.tup xs)->H' b=vF (.tup xs)):ObjOk P w H' h' a o:=by
 induction o with
 |lst xs=>obtain⟨z,its,n,r,e⟩:=x;exact⟨z,its,n,r,k _ _ (.inl rfl) e⟩
 |tup xs=>obtain⟨z,its,r,ob,e,c⟩:=x;exact⟨z,its,r,ob,k _ _ (.inl rfl) e,c⟩
 |dK kvs=>obtain⟨z,y,vs,r,ob,es,ep,e,c⟩:=x;exact⟨z,y,vs,r,ob,es,ep,k _ _ (.inl rfl) e,c⟩
 |dT kvs=>
  obtain⟨z,y,xs,r,ob,es,ep,e,c⟩:=x;exact⟨z,y,xs,Paired.mapP r λp q z=>⟨z.1,ht _ _ z.2.1,z.2.2⟩,ob,es,ep,k _ _ (.inl rfl) e,c⟩
 |set S n=>obtain⟨ob,es,ep,t,e,c⟩:=x;exact⟨ob,es,ep,t,k _ _ (.inl rfl) e,c⟩
 |ins C dx fs=>
  obtain⟨d,z,ne,e,mA,⟨od,es,ep,e2,c⟩,r⟩:=x;exact⟨ho _ d,z,ne,k _ _ (.inl rfl) e,mA,⟨od,es,ep,k _ _ (.inr d) e2,c⟩,r⟩
 |own y=>obtain⟨ob,e⟩:=x;exact⟨ob,k _ _ (.inl rfl) e⟩
 |xd fs=>obtain⟨mA,⟨od,es,ep,e,c⟩,r⟩:=x;exact⟨mA,⟨od,es,ep,k _ _ (.inl rfl) e,c⟩,r⟩
 |rng lo hi=>obtain⟨t,u,v,e⟩:=x;exact⟨t,u,v,k _ _ (.inl rfl) e⟩
 |frz ob u ih=>obtain⟨e,q⟩:=x;exact⟨k _ _ (.inl rfl) e,ih q⟩
 |tbl ps=>
  have e:h.get? a=vF {cls:=.none,data:=.fields ps}:=x;show h'.get? a=vF {cls:=.none,data:=.fields ps};exact k a _ (.inl rfl) e
 |met f y=>
  have e:h.get? a=vF (PySem.W.methodObj (.ref f) (.ref y)):=x;show h'.get? a=vF (PySem.W.methodObj (.ref f) (.ref y));exact k a _ (.inl rfl) e
 |ext φ=>obtain⟨p,⟨o,e⟩,st⟩:=x;exact⟨st _ _ p λo q=>k _ _ (.inl rfl) q,⟨o,k _ _ (.inl rfl) e⟩,st⟩
theorem HOk.lt(x:HOk P w H h)(e:H a=vF o):a<h.objs.size:=(x a o e).lt
theorem HOk.fresh(x:HOk P w H h)(e:h.objs.size<=a):H a=vG:=by
 cases q:H a with
 |none=>rfl
 |some u=>exact absurd (zj (x.lt q) e) (qK _)
theorem HOk.kept(x:HOk P w H h)(k:∀b u,h.get? b=vF u->h'.get? b=vF u):HOk P w H h':=λa o e=>
 (x a o e).stay (λb u _ q=>k b u q) (λ_ q=>q) λ_ _ q=>q
theorem HOk.laid(x:HOk P w H h)(k:∀b u,h.get? b=vF u->h'.get? b=vF u)(hp:h.objs.size<=a)(new:ObjOk P w (upd H a o) h' a o):HOk P w (upd H a o) h':=λb u e=>by
 have hn:=x.fresh hp;by_cases hb:b=a
 ·subst hb;rw[Ei]at e;cases e;exact new
 ·rw[Al hb]at e;exact(x b u e).stay (λc v _ q=>k c v q) (λc q=>by rw[Al (Gj q hn)];exact q) λc xs q=>by rw[Al (Gj q hn)];exact q
end
def Rd(H:Hp)(a:xj)(u:HO):Prop:=H a=vF u∨∃o,H a=vF (.frz o u)
theorem Rd.ok(r:Rd H a u)(x:HOk P w H h):ObjOk P w H h a u:=by
 rcases r with r|⟨o,r⟩
 ·exact x a u r
 ·obtain⟨_,q⟩:=x a _ r;exact q
def Mut:Option HO->Prop
 |some (.lst _)=>True
 |some (.dK _)=>True
 |some (.dT _)=>True
 |some (.set _ _)=>True
 |some (.ins _ _ _)=>True
 |some (.ext _)=>True
 |_=>False
section
variable{P:xA}{w:xF}{H:Hp}{h h':Heap}{x e:xj}{o':HO}
theorem HOk.write(ok:HOk P w H h)(mu:Mut (H x))(he:e=x∨H e=vF (.own x))(k:∀b u,b≠e->h.get? b=vF u->h'.get? b=vF u)(heo:∃u,h'.get? e=vF u)
  (new:ObjOk P w (upd H x o') h' x o'):HOk P w (upd H x o') h':=λb u q=>by
 have nown:∀c y,H c=vF (.own y)->c≠x:=λc y r z=>by subst z;rw[r]at mu;exact mu
 have ntup:∀c xs,H c=vF (.tup xs)->c≠x:=λc xs r z=>by subst z;rw[r]at mu;exact mu
 by_cases hb:b=x
 ·subst hb;rw[Ei]at q;cases q;exact new
 ·rw[Al hb]at q;by_cases hbe:b=e
  ·have q':H b=vF (.own x):=by
    rcases he with z|z
    ·exact absurd (hbe.trans z) hb
    ·rw[hbe];exact z
   rw[q]at q';cases q';obtain⟨v,hv⟩:=heo;exact⟨v,by rw[hbe];exact hv⟩
  ·refine(ok b u q).stay (λc v hc r=>k c v ?_ r) (λc r=>by rw[Al (nown c b r)];exact r) λc xs r=>by rw[Al (ntup c xs r)];exact r
   rcases hc with rfl|hc
   ·exact hbe
   ·rintro rfl;rcases he with z|z
    ·exact nown c b hc z
    ·rw[hc]at z;cases z;exact hb rfl
end
structure Un (fs ex:List xj) (H H':Hp) (h h':Heap):Prop where
 keep:∀b o,h.get? b=vF o->H b=vG->b∉fs->b∉ex->h'.get? b=vF o
 slot:∀b o,h.get? b=vF o->H b=vG->b∈fs->b∉ex->∃sl,h'.get? b=vF {o with slots:=sl}
 free:∀b o,h.get? b=vF o->H b=vG->b∉ex->H' b=vG
 there:∀b o,h.get? b=vF o->b∉ex->∃o',h'.get? b=vF o'
 tups:∀b xs,H b=vF (.tup xs)->H' b=vF (.tup xs)
 frzs:∀b o u,H b=vF (.frz o u)->H' b=vF (.frz o u)
 tbls:∀b ps,H b=vF (.tbl ps)->∃more,H' b=vF (.tbl (ps++more))
section
variable{fs fs' ex ex':List xj}{H H1 H2:Hp}{h h1 h2 h':Heap}{a x e:xj}{o:HO}
theorem Un.any(u:Un fs ex H H1 h h1)(q:h.get? b=vF ob)(n:H b=vG)(hx:b∉ex):∃sl,h1.get? b=vF {ob with slots:=sl}:=by
 by_cases hb:b∈fs
 ·exact u.slot b ob q n hb hx
 ·exact⟨ob.slots,u.keep b ob q n hb hx⟩
theorem Un.kept(k:∀b u,h.get? b=vF u->h'.get? b=vF u):Un fs ex H H h h':=
 ⟨λb ob q _ _ _=>k b ob q,λb ob q _ _ _=>⟨ob.slots,k b ob q⟩,λ_ _ _ n _=>n,λb ob q _=>⟨ob,k b ob q⟩,λ_ _ q=>q,λ_ _ _ q=>q,λ_ ps q=>⟨#[],by rw[q];simp⟩⟩
theorem Un.refl:Un fs ex H H h h:=Un.kept λ_ _ q=>q
theorem Un.laid(k:∀b u,h.get? b=vF u->h'.get? b=vF u)(hp:h.objs.size<=a)(hn:H a=vG):Un fs ex H (upd H a o) h h' where
 keep:=λb u q _ _ _=>k b u q
 slot:=λb u q _ _ _=>⟨u.slots,k b u q⟩
 free:=λb u q n _=>by rw[Al (zG (zj (zw q) hp))];exact n
 there:=λb u q _=>⟨u,k b u q⟩
 tups:=λb xs q=>by rw[Al (Gj q hn)];exact q
 frzs:=λb u xs q=>by rw[Al (Gj q hn)];exact q
 tbls:=λb ps q=>⟨#[],by rw[Al (Gj q hn),q];simp⟩
theorem Un.write(mu:Mut (H x))(he:e=x∨H e=vF (.own x))(k:∀b u,b≠e->h.get? b=vF u->h'.get? b=vF u)(heo:∃u,h'.get? e=vF u):Un fs ex H (upd H x o) h h':=by
 have hx:∀b,H b=vG->b≠x:=λb n z=>by subst z;rw[n]at mu;exact mu
 have hb:∀b,H b=vG->b≠e:=λb n z=>by
  subst z;rcases he with r|r
  ·exact hx b n r
  ·rw[n]at r;cases r
 have hm:∀b u,H b=vF u->¬Mut (vF u)->b≠x:=λb u q nm z=>by subst z;rw[q]at mu;exact nm mu
 refine⟨λb u q n _ _=>k b u (hb b n) q,λb u q n _ _=>⟨u.slots,k b u (hb b n) q⟩,λb u q n _=>by rw[Al (hx b n)];exact n,λb u q _=>?_,
  λb xs q=>by rw[Al (hm b _ q λz=>z)];exact q,λb u xs q=>by rw[Al (hm b _ q λz=>z)];exact q,λb ps q=>⟨#[],by rw[Al (hm b _ q λz=>z),q];simp⟩⟩
 by_cases hbe:b=e
 ·subst hbe;exact heo
 ·exact⟨u,k b u hbe q⟩
end
def trk(h:Heap)(H:Hp):List xj:=(zQ h.objs.size).filter λa=>(H a).isSome
def Im(h:Heap)(H:Hp):Heap:=PySem.W.hideAll h (trk h H)
theorem ZPS(h:Heap)(H:Hp):(Im h H).objs.size=h.objs.size:=PySem.W.hideAll_size _ _
theorem ZMp(e:h.get? b=vF o)(n:H b=vG):(Im h H).get? b=vF o:=
 PySem.W.hideAll_get _ e λhm=>by have q:(H b).isSome=vH:=(List.mem_filter.mp hm).2;rw[n]at q;simp at q
theorem ZPx(e:(Im h H).get? b=vF o):h.get? b=vF o/\H b=vG:=by
 have e':h.get? b=vF o:=PySem.W.of_hideAll (trk h H) e;refine⟨e',?_⟩;cases q:H b with
 |none=>rfl
 |some x=>
  have hm:b∈trk h H:=List.mem_filter.mpr ⟨qz.mpr (zw e'),by simp[q]⟩;have z:(Im h H).get? b=vG:=PySem.W.hideAll_none (trk h H) hm;rw[z]at e;cases e
def ZP6(g h:Heap)(L:xj):List (xj×Obj):=(zQ h.objs.size).filterMap λa=>if a=L∨(g.get? a).isSome=vH then vG else(h.get? a).map λo=>(a,o)
def rest(g h:Heap)(L d:xj):List (xj×Obj):=(ZP6 g h L).filter λp=>decide (p.1≠d)
structure Mod (K:PySem.W.Frag) (mg:Str->Option xE) (base:Heap):Prop where
 kin:K.In base
 glob:base.Ns vZ mg
 blt:∃mb,base.Ns builtinsNs mb/\∀x:Str,x≠"__name__"->mb x=xO x
 nolimit:base.NoLimit
structure Cx where
 prog:xA
 w:xF
 K:PySem.W.Frag
 mg:Str->Option xE
 base:Heap
 A:xw
 N:List Str
 s₀:xC
 H₀:Hp
 env:Env
 outer:List Env
 stack:List Env
 ex:List xj
 fn:Str->Bool
 calm:Bool
 pn:List (xj×Obj)
 xe:xE->xC->Prop
def frs(l:List Env):List xj:=l.filterMap (·.frame)
abbrev Cx.fs(X:Cx):List xj:=frs X.outer
def Vis(sc:xB)(x:Str):Prop:=sc.names.lookup x=vF .local∨sc.names.lookup x=vF .cell∨sc.names.lookup x=vF .free
def Loc(sc:xB)(x:Str):Prop:=sc.names.lookup x=vF .local∨sc.names.lookup x=vF .cell
def Look(env:Env)(h:Heap)(m:Str->Option xE)(x:Str)(u:xE):Prop:=
 (env.kindOf x=vF .local/\m x=vF u)∨((env.kindOf x=vF .cell∨env.kindOf x=vF .free)/\∃c,env.cells.lookup x=vF c/\h.IsCell c (vF u))
structure Cx.Ok (X:Cx):Prop where
 mod:Mod X.K X.mg X.base
 kind:X.env.scope.kind=.function
 glob:X.env.globals=vZ
 blt:X.env.builtins=builtinsNs
 above:X.s₀.heap.objs.size<=X.env.locals
 inj:∀x y c,X.env.cells.lookup x=vF c->X.env.cells.lookup y=vF c->x=y
 has:∀x,(X.env.kindOf x=vF .cell∨X.env.kindOf x=vF .free)->∃c,X.env.cells.lookup x=vF c
 cab:∀x c,X.fn x=vH->X.env.cells.lookup x=vF c->X.s₀.heap.objs.size<=c
 hd:X.calm=vH->X.A.handled=vG
 frames:X.A.frames=vF X.stack
 stk:X.stack=X.outer∨(X.stack=X.env::X.outer/\X.env.frame=vF X.env.locals)
 exf:∀b∈X.ex,b≠X.env.locals/\∀x c,X.env.cells.lookup x=vF c->c≠b
 bs:∀b o,X.base.get? b=vF o->X.s₀.heap.get? b=vF o/\X.H₀ b=vG
 bsz:X.base.objs.size<=X.s₀.heap.objs.size
 noex:∀b o,X.base.get? b=vF o->b∉X.ex
 exfs:∀b∈X.ex,b∉X.fs
 funs:X.s₀.heap.FunFrames X.base X.outer
 frf:∀b∈X.fs,X.H₀ b=vG
structure Inv (X:Cx) (vE:List (xj×Obj)) (σ:List (Option V)) (H:Hp) (s:xC):Prop where
 ok:X.Ok
 os:s.os=X.s₀.os
 bare:AllBare s.gens
 base:Un X.fs X.ex X.H₀ H X.s₀.heap s.heap
 loc:∃m,s.heap.Ns X.env.locals m/\∀(i:Nat)(x:Str)(v:V),X.N[i]?=vF x->σ[i]?=vF (vF v)->Vis X.env.scope x->∃u,RelV v u/\Look X.env s.heap m x u
 cell:∀x c,X.env.cells.lookup x=vF c->∃v,s.heap.IsCell c v
 free:H X.env.locals=vG
 Hq:∀x c,X.env.cells.lookup x=vF c->H c=vG
 pin:∀p∈X.pn++vE,s.heap.get? p.1=vF p.2/\H p.1=vG/\p.1≠X.env.locals/\p.1∉X.fs/\∀v,p.2.data≠ .cell v
 hok:HOk X.prog X.w H s.heap
 len:σ.length=X.N.length
section
variable{X:Cx}{vE:List (xj×Obj)}{σ:List (Option V)}{H H':Hp}{s:xC}{h':Heap}
theorem Cx.Ok.nofr(ok:X.Ok)(e:X.base.get? b=vF o):b∉X.fs:=λhb=>by have:=(ok.funs.mem hb).1;rw[e]at this;cases this
theorem Inv.bs(I:Inv X vE σ H s):∀b o,X.base.get? b=vF o->s.heap.get? b=vF o/\H b=vG:=λb o e=>
 ⟨I.base.keep b o (I.ok.bs b o e).1 (I.ok.bs b o e).2 (I.ok.nofr e) (I.ok.noex b o e),I.base.free b o (I.ok.bs b o e).1 (I.ok.bs b o e).2 (I.ok.noex b o e)⟩
theorem Inv.bk(I:Inv X vE σ H s):∀b o,X.base.get? b=vF o->s.heap.get? b=vF o:=λb o e=>(I.bs b o e).1
theorem Inv.mod(I:Inv X vE σ H s):Mod X.K X.mg X.base:=I.ok.mod
theorem Inv.kIn(I:Inv X vE σ H s):X.K.In s.heap:=I.ok.mod.kin.keeps I.bk
theorem Inv.lt(I:Inv X vE σ H s):X.env.locals<s.heap.objs.size:=let⟨_,hn,_⟩:=I.loc;hn.lt
theorem Inv.sz(I:Inv X vE σ H s):X.s₀.heap.objs.size<=s.heap.objs.size:=zC I.ok.above (Nat.le_of_lt I.lt)
theorem Inv.nofs(I:Inv X vE σ H s){a:xj}(h:s.heap.objs.size<=a):a∉X.fs:=λhb=>by obtain⟨_,o,ho,_⟩:=I.ok.funs.mem hb;exact absurd (zj (zw ho) (zC I.sz h)) (qK _)
theorem Inv.cne(I:Inv X vE σ H s):∀x c,X.env.cells.lookup x=vF c->c≠X.env.locals:=λx c e z=>by obtain⟨v,o,ho,hd⟩:=I.cell x c e;obtain⟨m,⟨o',es,ep,ho',hd',_⟩,_⟩:=I.loc;rw[z,ho']at ho;cases ho;rw[hd']at hd;cases hd
theorem Inv.funs(I:Inv X vE σ H s):s.heap.FunFrames X.base X.outer:=by
 have all:∀(l:List Env),(∀b∈frs l,b∈X.fs)->X.s₀.heap.FunFrames X.base l->s.heap.FunFrames X.base l:=by
  intro l
  induction l with
  |nil=>intro _ _;trivial
  |cons env r ih=>
   intro hs hl;obtain⟨hk,⟨L,o,hf,hn,ho,hd⟩,hr⟩:=hl;have hL:L∈X.fs:=hs L (by unfold frs;rw[qA,hf];exact zW);obtain⟨sl,e⟩:=I.base.slot L o ho (I.ok.frf L hL) hL λz=>I.ok.exfs L z hL
   exact⟨hk,⟨L,_,hf,hn,e,hd⟩,ih (λb hb=>hs b (by unfold frs;rw[qA,hf];exact zZ _ hb)) hr⟩
 exact all X.outer (λ_ hb=>hb) I.ok.funs
theorem Inv.stack(I:Inv X vE σ H s):s.heap.FunFrames X.base X.stack:=by
 rcases I.ok.stk with e|⟨e,hf⟩
 ·rw[e];exact I.funs
 ·rw[e];obtain⟨m,hn,_⟩:=I.loc;refine .cons (by rw[I.ok.kind];decide) hf hn ?_ I.funs;exact Heap.get?_none_of_le (zC I.ok.bsz I.ok.above)
theorem Inv.Tr(I:Inv X vE σ H s):∀b∈frs X.stack,b∈X.env.locals::X.fs:=λb hb=>by
 rcases I.ok.stk with e|⟨e,hf⟩
 ·rw[e]at hb;exact zZ _ hb
 ·rw[e]at hb;unfold frs at hb;rw[qA,hf]at hb;exact hb
theorem Inv.ZIw(I:Inv X vE σ H s):∀b∈frs X.stack,H b=vG:=λb hb=>by
 rcases zq.mp (I.Tr b hb)with e|hb
 ·rw[e];exact I.free
 ·obtain⟨_,o,ho,_⟩:=I.ok.funs.mem hb;exact I.base.free b o ho (I.ok.frf b hb) λz=>I.ok.exfs b z hb
theorem Inv.step{g':Array GenState}{d':Drawn}{ch:List xj}(I:Inv X vE σ H s)
  (hch:∀b∈ch,(b∈X.ex∨X.s₀.heap.objs.size<=b)/\b≠X.env.locals/\(∀x c,X.env.cells.lookup x=vF c->c≠b)/\∀p∈X.pn++vE,p.1≠b)
  (keep:∀b o,b≠X.env.locals->b∉X.fs->b∉ch->s.heap.get? b=vF o->H b=vG->h'.get? b=vF o)
  (slot:∀b o,b≠X.env.locals->b∈X.fs->b∉ch->s.heap.get? b=vF o->H b=vG->∃sl,h'.get? b=vF {o with slots:=sl}) (free:∀b o,b∉ch->s.heap.get? b=vF o->H b=vG->H' b=vG)
  (there:∀b o,b∉ch->s.heap.get? b=vF o->∃o',h'.get? b=vF o')
  (tups:∀b xs,H b=vF (.tup xs)->H' b=vF (.tup xs)) (frzs:∀b o u,H b=vF (.frz o u)->H' b=vF (.frz o u)) (tbls:∀b ps,H b=vF (.tbl ps)->∃more,H' b=vF (.tbl (ps++more)))
  (ns:∀m,s.heap.Ns X.env.locals m->h'.Ns X.env.locals m) (hok:HOk X.prog X.w H' h') (hg:AllBare g'):
  Inv X vE σ H' {s with heap:=h',gens:=g',drawn:=d',toks:=t'}:=by
 have neL:∀b o,X.s₀.heap.get? b=vF o->b≠X.env.locals:=λb o e=>zG (zj (zw e) I.ok.above)
 have neC:∀b o,X.s₀.heap.get? b=vF o->b∉X.ex->b∉ch:=λb o e hx hb=>by
  rcases(hch b hb).1 with z|z
  ·exact hx z
  ·exact absurd (zj (zw e) z) (qK _)
 have cellK:∀x c,X.env.cells.lookup x=vF c->∀v,s.heap.IsCell c v->h'.IsCell c v:=λx c e v ⟨o,ho,hd⟩=>by
  have nch:c∉ch:=λz=>(hch c z).2.2.1 x c e rfl
  by_cases hc:c∈X.fs
  ·obtain⟨sl,q⟩:=slot c o (I.cne x c e) hc nch ho (I.Hq x c e);exact⟨_,q,hd⟩
  ·exact⟨o,keep c o (I.cne x c e) hc nch ho (I.Hq x c e),hd⟩
 refine⟨I.ok,I.os,hg,⟨λb o e n hb hx=>?_,λb o e n hb hx=>?_,λb o e n hx=>?_,λb o e hx=>?_,λb xs e=>tups b xs (I.base.tups b xs e),λb o xs e=>frzs b o xs (I.base.frzs b o xs e),λb ps e=>?_⟩,?_,λx c e=>?_,?_,λx c e=>?_,λp hp=>?_,hok,I.len⟩
 ·exact keep b o (neL b o e) hb (neC b o e hx) (I.base.keep b o e n hb hx) (I.base.free b o e n hx)
 ·obtain⟨sl,e1⟩:=I.base.slot b o e n hb hx;obtain⟨sl',e2⟩:=slot b _ (neL b o e) hb (neC b o e hx) e1 (I.base.free b o e n hx);exact⟨sl',e2⟩
 ·obtain⟨o',e1⟩:=I.base.there b o e hx;exact free b o' (neC b o e hx) e1 (I.base.free b o e n hx)
 ·obtain⟨o',e1⟩:=I.base.there b o e hx;exact there b o' (neC b o e hx) e1
 ·obtain⟨m1,e1⟩:=I.base.tbls b ps e;obtain⟨m2,e2⟩:=tbls b _ e1;exact⟨m1++m2,by rw[e2,Array.append_assoc]⟩
 ·obtain⟨m,hn,hl⟩:=I.loc;refine⟨m,ns m hn,λi x v e1 e2 e3=>?_⟩;obtain⟨u,r,l⟩:=hl i x v e1 e2 e3;refine⟨u,r,?_⟩;rcases l with l|⟨k,c,e,z⟩
  ·exact .inl l
  ·exact .inr ⟨k,c,e,cellK x c e _ z⟩
 ·obtain⟨v,z⟩:=I.cell x c e;exact⟨v,cellK x c e v z⟩
 ·obtain⟨m,⟨o,_,_,ho,_⟩,_⟩:=I.loc;exact free _ o (λz=>(hch _ z).2.1 rfl) ho I.free
 ·obtain⟨v,o,ho,hd⟩:=I.cell x c e;exact free c o (λz=>(hch c z).2.2.1 x c e rfl) ho (I.Hq x c e)
 ·obtain⟨e,n,ne,nf,d⟩:=I.pin p hp;have nch:p.1∉ch:=λz=>(hch p.1 z).2.2.2 p hp rfl
  exact⟨keep p.1 p.2 ne nf nch e n,free p.1 p.2 nch e n,ne,nf,d⟩
theorem Inv.un(I:Inv X vE σ H s)(u:Un X.fs [] H H' s.heap h')(hok:HOk X.prog X.w H' h'):Inv X vE σ H' {s with heap:=h',toks:=t'}:=by
 obtain⟨m,⟨o,es,ep,ho,r⟩,_⟩:=id I.loc;obtain⟨sl,hL⟩:=u.any ho I.free (by simp)
 exact I.step (g':=s.gens) (d':=s.drawn) (ch:=[]) (λ_ z=>nomatch z) (λb o _ hb _ e n=>u.keep b o e n hb (by simp)) (λb o _ hb _ e n=>u.slot b o e n hb (by simp)) (λb o _ e n=>u.free b o e n (by simp)) (λb o _ e=>u.there b o e (by simp)) u.tups u.frzs u.tbls (λm' hm=>by obtain⟨o',es',ep',ho',r'⟩:=hm;rw[ho]at ho';cases ho';exact⟨_,es',ep',hL,r'⟩) hok I.bare
theorem Inv.call{g':Array GenState}{d':Drawn}{ch:List xj}(I:Inv X vE σ H s)(u:Un (frs X.stack) ch H H' s.heap h')(hok:HOk X.prog X.w H' h')(hg:AllBare g')
  (hch:∀b∈ch,(b∈X.ex∨X.s₀.heap.objs.size<=b)/\b≠X.env.locals/\(∀x c,X.env.cells.lookup x=vF c->c≠b)/\∀p∈X.pn++vE,p.1≠b):
  Inv X vE σ H' {s with heap:=h',gens:=g',drawn:=d',toks:=t'}:=by
 obtain⟨m,⟨o,es,ep,ho,r⟩,_⟩:=id I.loc;obtain⟨sl,hL⟩:=u.any ho I.free λz=>(hch _ z).2.1 rfl
 exact I.step (ch:=ch) hch (λb o hL hb hc e n=>u.keep b o e n (λz=>(zq.mp (I.Tr b z)).elim hL hb) hc) (λb o _ _ hc e n=>u.any e n hc) (λb o hc e n=>u.free b o e n hc) (λb o hc e=>u.there b o e hc) u.tups u.frzs u.tbls (λm' hm=>by obtain⟨o',es',ep',ho',r'⟩:=hm;rw[ho]at ho';cases ho';exact⟨_,es',ep',hL,r'⟩) hok hg
theorem Inv.turned{it:xj}(I:Inv X vE σ H s)(k:∀b o,b≠it->s.heap.get? b=vF o->h'.get? b=vF o)(hn:H it=vG)(hL:it≠X.env.locals)
  (h1:it∈X.ex∨X.s₀.heap.objs.size<=it) (h2:∀x c,X.env.cells.lookup x=vF c->c≠it) (h3:∀p∈X.pn++vE,p.1≠it):Inv X vE σ H {s with heap:=h',toks:=t'}:=by
 have nit:∀b u,H b=vF u->b≠it:=λb u e z=>by rw[z,hn]at e;cases e
 refine I.step (g':=s.gens) (d':=s.drawn) (ch:=[it]) (λb hb=>?_) (λb o _ _ hc e _=>k b o (λz=>hc (by simp[z])) e) (λb o _ _ hc e _=>⟨o.slots,k b o (λz=>hc (by simp[z])) e⟩) (λ_ _ _ _ n=>n)
  (λb o hc e=>⟨o,k b o (λz=>hc (by simp[z])) e⟩) (λ_ _ e=>e) (λ_ _ _ e=>e) (λb ps e=>⟨#[],by rw[e];simp⟩) (λm hm=>?_) (λb u e=>?_) I.bare
 ·have e:b=it:=by simpa using hb
  subst e;exact⟨h1,hL,h2,h3⟩
 ·obtain⟨o,es,ep,ho,r⟩:=hm;exact⟨o,es,ep,k _ o (Ne.symm hL) ho,r⟩
 ·refine(I.hok b u e).stay (λc v hc q=>k c v ?_ q) (λ_ q=>q) λ_ _ q=>q
  rcases hc with z|z
  ·rw[z];exact nit b u e
  ·exact nit c _ z
theorem Inv.tok(I:Inv X vE σ H s)(t:Nat):Inv X vE σ H {s with toks:=t}:=I.un (h':=s.heap) (t':=t) Un.refl I.hok
theorem Inv.kept(I:Inv X vE σ H s)(k:∀b u,s.heap.get? b=vF u->h'.get? b=vF u):Inv X vE σ H {s with heap:=h',toks:=t'}:=I.un (Un.kept k) (I.hok.kept k)
theorem Inv.laid{a:xj}{o:HO}(I:Inv X vE σ H s)(k:∀b u,s.heap.get? b=vF u->h'.get? b=vF u)(hp:s.heap.objs.size<=a)(new:ObjOk X.prog X.w (upd H a o) h' a o):
  Inv X vE σ (upd H a o) {s with heap:=h',toks:=t'}:=I.un (Un.laid k hp (I.hok.fresh hp)) (I.hok.laid k hp new)
theorem Inv.write(I:Inv X vE σ H s)(mu:Mut (H x))(he:e=x∨H e=vF (.own x))(k:∀b u,b≠e->s.heap.get? b=vF u->h'.get? b=vF u)(heo:∃u,h'.get? e=vF u)
  (new:ObjOk X.prog X.w (upd H x o) h' x o):Inv X vE σ (upd H x o) {s with heap:=h',toks:=t'}:=I.un (Un.write mu he k heo) (I.hok.write mu he k heo new)
theorem Inv.Jl(I:Inv X vE σ H s)(h:∀p∈pins',s.heap.get? p.1=vF p.2/\H p.1=vG/\p.1≠X.env.locals/\p.1∉X.fs/\∀v,p.2.data≠ .cell v):Inv X pins' σ H s:=
 ⟨I.ok,I.os,I.bare,I.base,I.loc,I.cell,I.free,I.Hq,λp hp=>(jH.mp hp).elim (λz=>I.pin p (xV _ z)) (h p),I.hok,I.len⟩
theorem ZEW{N:List Str}(hN:N.Nodup){i j:Nat}{x:Str}(a:N[i]?=vF x)(b:N[j]?=vF x):i=j:=by obtain⟨h1,e1⟩:=zH.mp a;obtain⟨h2,e2⟩:=zH.mp b;exact(List.getElem_inj hN).mp (e1.trans e2.symm)
theorem ZEt{M:Model}{A:xw}{E:xE->xC->Prop}{i:Nat}{x:Str}{v:V}{u:xE}{Q:Unit->xC->Prop}(I:Inv X vE σ H s)(hN:X.N.Nodup)(hi:X.N[i]?=vF x)(hx:Loc X.env.scope x)(r:RelV v u)
  (h:∀s',Inv X vE (σ.set i (vF v)) H s'->(∃a,qC a s.heap s'.heap/\(a=X.env.locals∨X.env.cells.lookup x=vF a))->Q () s') (hf:X.fn x=vH∨X.env.scope.names.lookup x=vF .local:=by first|exact .inl rfl|exact .inr rfl|assumption):vq M A (storeName X.env x u) Q E s:=by
 obtain⟨m,hn,hl⟩:=id I.loc;have hcls:(X.env.scope.kind == .class||(X.env.scope.kind == .module&&X.env.locals != X.env.globals))=vI:=by rw[I.ok.kind];rfl
 have hiσ:i<σ.length:=by rw[I.len];exact(zH.mp hi).1
 have cne:=I.cne;have tracked:∀{a:xj}{h':Heap},(∃o,s.heap.get? a=vF o/\H a=vG)->qC a s.heap h'->HOk X.prog X.w H h':=λ{a h'}ha hs b ob e=>by
  obtain⟨_,_,hfree⟩:=ha;refine(I.hok b ob e).stay (λc w' hc q=>(hs.2 c ?_).trans q) (λ_ q=>q) λ_ _ q=>q
  rintro rfl;rcases hc with rfl|hc
  ·rw[hfree]at e;cases e
  ·rw[hfree]at hc;cases hc
 rcases hx with hk|hk
 ·refine wpAny_storeName_local hk hn (λh' hn' hs=>?_) hcls;obtain⟨oL,_,_,hoL,_⟩:=id hn;refine h _ ⟨I.ok,I.os,I.bare,⟨λb o e n hb hx=>?_,λb o e n hb hx=>?_,I.base.free,λb o e hx=>?_,I.base.tups,I.base.frzs,I.base.tbls⟩,⟨_,hn',λj y v' e1 e2 e3=>?_⟩,λy c e=>?_,I.free,I.Hq,λp hp=>?_,tracked ⟨oL,hoL,I.free⟩ hs,by simpa using I.len⟩ ⟨_,hs,.inl rfl⟩
  ·exact(hs.2 b (zG (zj (zw e) I.ok.above))).trans (I.base.keep b o e n hb hx)
  ·obtain⟨sl,e1⟩:=I.base.slot b o e n hb hx;exact⟨sl,(hs.2 b (zG (zj (zw e) I.ok.above))).trans e1⟩
  ·obtain⟨o',e1⟩:=I.base.there b o e hx;exact⟨o',(hs.2 b (zG (zj (zw e) I.ok.above))).trans e1⟩
  ·by_cases hj:j=i
   ·subst hj;rw[hi]at e1;cases e1;rw[jw hiσ]at e2;cases e2;exact⟨u,r,.inl ⟨hk,by simp⟩⟩
   ·rw[jV (Ne.symm hj)]at e2;obtain⟨u',r',q⟩:=hl j y v' e1 e2 e3;refine⟨u',r',?_⟩;rcases q with⟨k,e⟩|⟨k,c,e,z⟩
    ·refine .inl ⟨k,?_⟩;have:y≠x:=λe=>hj (ZEW hN e1 (e▸hi))
     simp[this,e]
    ·exact .inr ⟨k,c,e,z.sameBut hs (cne y c e)⟩
  ·obtain⟨w',z⟩:=I.cell y c e;exact⟨w',z.sameBut hs (cne y c e)⟩
  ·obtain⟨e,n,ne,nf,d⟩:=I.pin p hp;exact⟨(hs.2 p.1 ne).trans e,n,ne,nf,d⟩
 ·have hfn:X.fn x=vH:=by
   rcases hf with z|z
   ·exact z
   ·rw[z]at hk;cases hk
  obtain⟨c,hc⟩:=I.ok.has x (.inl hk);obtain⟨w',z⟩:=I.cell x c hc;refine wpAny_storeName_cell I.ok.kind hk hc z (λh' hc' hs=>?_);obtain⟨oc,hoc,hocd⟩:=id z;refine h {s with heap:=h'} ⟨I.ok,I.os,I.bare,⟨λb o e n hb hx=>?_,λb o e n hb hx=>?_,I.base.free,λb o e hx=>?_,I.base.tups,I.base.frzs,I.base.tbls⟩,⟨m,hn.sameBut hs (Ne.symm (cne x c hc)),λj y v' e1 e2 e3=>?_⟩,λy c' e=>?_,I.free,I.Hq,λp hp=>?_,tracked ⟨oc,hoc,I.Hq x c hc⟩ hs,by simpa using I.len⟩ ⟨c,hs,.inr hc⟩
  ·exact(hs.2 b (zG (zj (zw e) (I.ok.cab x c hfn hc)))).trans (I.base.keep b o e n hb hx)
  ·obtain⟨sl,e1⟩:=I.base.slot b o e n hb hx;exact⟨sl,(hs.2 b (zG (zj (zw e) (I.ok.cab x c hfn hc)))).trans e1⟩
  ·obtain⟨o',e1⟩:=I.base.there b o e hx;exact⟨o',(hs.2 b (zG (zj (zw e) (I.ok.cab x c hfn hc)))).trans e1⟩
  ·by_cases hj:j=i
   ·subst hj;rw[hi]at e1;cases e1;rw[jw hiσ]at e2;cases e2;exact⟨u,r,.inr ⟨.inl hk,c,hc,hc'⟩⟩
   ·rw[jV (Ne.symm hj)]at e2;obtain⟨u',r',q⟩:=hl j y v' e1 e2 e3;refine⟨u',r',?_⟩;rcases q with q|⟨k,c',e,z'⟩
    ·exact .inl q
    ·refine .inr ⟨k,c',e,z'.sameBut hs ?_⟩;rintro rfl;exact hj (ZEW hN e1 (I.ok.inj _ _ _ e hc▸hi))
  ·by_cases hcc:c'=c
   ·subst hcc;exact⟨_,hc'⟩
   ·obtain⟨w2,z2⟩:=I.cell y c' e;exact⟨w2,z2.sameBut hs hcc⟩
  ·obtain⟨e,n,ne,nf,d⟩:=I.pin p hp;refine⟨(hs.2 p.1 ?_).trans e,n,ne,nf,d⟩;intro q;rw[q,hoc]at e;have q':oc=p.2:=Option.some.inj e;exact d w' (by rw[<-q'];exact hocd)
theorem X4(I:Inv X vE σ H s)(hN:X.N.Nodup)(hi:X.N[i]?=vF x)(hx:Loc X.env.scope x)(r:RelV v u)
  (h:∀s',Inv X vE (σ.set i (vF v)) H s'->Q () s') (hf:X.fn x=vH∨X.env.scope.names.lookup x=vF .local:=by first|exact .inl rfl|exact .inr rfl|assumption):vq M A (storeName X.env x u) Q E s:=
 ZEt I hN hi hx r (λs' I' _=>h s' I') hf
theorem Inv.call'(I:Inv X vE σ H s)(ho:s'.os=s.os)(u:Un (frs X.stack) ch H H' s.heap s'.heap)(hok:HOk X.prog X.w H' s'.heap)(hg:AllBare s'.gens)
  (hch:∀b∈ch,(b∈X.ex∨X.s₀.heap.objs.size<=b)/\b≠X.env.locals/\(∀x c,X.env.cells.lookup x=vF c->c≠b)/\∀p∈X.pn++vE,p.1≠b):Inv X vE σ H' s':=by
 obtain⟨h',g',d',t',o'⟩:=s';have e:o'=s.os:=ho;subst e;exact I.call (g':=g') (t':=t') (d':=d') u hok hg hch
end
abbrev XK:=xE->Option xj->Hp->Prop
abbrev St:=List (Option V)
abbrev VK:=V->Hp->Prop
abbrev TE:=St->Hp->VK->Prop
variable{te:TE}
abbrev TT:=St->Hp->(Bool->Hp->Prop)->Prop
abbrev TA:=St->Hp->(List V->Hp->Prop)->Prop
structure Ends where
 nx:St->Hp->Prop
 rt:VK
 bk:St->Hp->Prop:=λ_ _=>False
 ct:St->Hp->Prop:=λ_ _=>False
abbrev TS:=Ends->St->Hp->Prop
def EP(X:Cx)(vE:List (xj×Obj))(σ:St)(Q:VK)(u:xE)(s':xC):Prop:=∃v H',Inv X vE σ H' s'/\RelV v u/\Q v H'
def TP(X:Cx)(vE:List (xj×Obj))(σ:St)(Q:Bool->Hp->Prop)(b:Bool)(s':xC):Prop:=∃H',Inv X vE σ H' s'/\Q b H'
def AP(X:Cx)(vE:List (xj×Obj))(σ:St)(Q:List V->Hp->Prop)(us:List xE)(s':xC):Prop:=∃vs H',Inv X vE σ H' s'/\Vals vs us/\Q vs H'
def SP(X:Cx)(vE:List (xj×Obj))(D:Ends)(f:Flow)(s':xC):Prop:=
 match f with
 |.next=>∃σ' H',Inv X vE σ' H' s'/\D.nx σ' H'
 |.brk=>∃σ' H',Inv X vE σ' H' s'/\D.bk σ' H'
 |.cont=>∃σ' H',Inv X vE σ' H' s'/\D.ct σ' H'
 |.ret u=>∃v σ' H',Inv X vE σ' H' s'/\RelV v u/\D.rt v H'
def PE(X:Cx)(e:xk)(t:TE):Prop:=
 ∀(vE:List (xj×Obj))(s:xC)(σ:St)(H:Hp)(Q:VK),Inv X vE σ H s->t σ H Q->vq (vJ X.prog X.w) X.A (eval e X.env) (EP X vE σ Q) X.xe s
def PT(X:Cx)(e:xk)(t:TT):Prop:=
 ∀(vE:List (xj×Obj))(s:xC)(σ:St)(H:Hp)(Q:Bool->Hp->Prop),Inv X vE σ H s->t σ H Q->vq (vJ X.prog X.w) X.A (isTrue e X.env (eval e X.env)) (TP X vE σ Q) X.xe s
def PW(X:Cx)(e:xk)(t:TT):Prop:=
 ∀(whole:Sem xE)(vE:List (xj×Obj))(s:xC)(σ:St)(H:Hp)(Q:Bool->Hp->Prop),Inv X vE σ H s->t σ H Q->vq (vJ X.prog X.w) X.A (isTrue e X.env whole) (TP X vE σ Q) X.xe s
theorem PW.pt(h:PW X e t):PT X e t:=h _
def PA(X:Cx)(es:List xk)(t:TA):Prop:=
 ∀(pos:Pos)(vE:List (xj×Obj))(s:xC)(σ:St)(H:Hp)(Q:List V->Hp->Prop),Inv X vE σ H s->t σ H Q->vq (vJ X.prog X.w) X.A (spliced (xI pos (vK es X.env))) (AP X vE σ Q) X.xe s
def PS(X:Cx)(st:xD)(t:TS):Prop:=
 ∀(vE:List (xj×Obj))(s:xC)(σ:St)(H:Hp)(D:Ends),Inv X vE σ H s->t D σ H->vq (vJ X.prog X.w) X.A (exec st X.env) (SP X vE D) X.xe s
def PSs(X:Cx)(st:List xD)(t:TS):Prop:=
 ∀(vE:List (xj×Obj))(s:xC)(σ:St)(H:Hp)(D:Ends),Inv X vE σ H s->t D σ H->vq (vJ X.prog X.w) X.A (execs st X.env) (SP X vE D) X.xe s
theorem thn{α:Type}{t:Sem α}{Q Q':α->xC->Prop}{M:Model}{A:xw}{E:xE->xC->Prop}(h:vq M A t Q E s)(hQ:∀a s,Q a s->Q' a s):vq M A t Q' E s:=v5 h hQ λ_ _ x=>x
section
variable{X:Cx}
def tVar(i:Nat):TE:=λσ H Q=>∃v,σ[i]?=vF (vF v)/\Q v H
def tC(v:V):TE:=λ_ H Q=>Q v H
theorem ZQ8{i:Nat}{x:Str}{pos:Pos}(hN:X.N[i]?=vF x)(hv:Vis X.env.scope x)(hd:(x==("__debug__":Str))=vI:=by decide)(hcd:(x==("__classdict__":Str))=vI:=by decide):PE X (.Name x pos) (tVar i):=by
 intro vE s σ H Q I h;obtain⟨v,e,h⟩:=h;obtain⟨m,hn,hl⟩:=I.loc;obtain⟨u,r,l⟩:=hl i x v hN e hv;have fin:EP X vE σ Q u s:=⟨v,H,I,r,h⟩;rcases l with⟨hk,hm⟩|⟨hk,c,hc,hcell⟩
 ·exact wpAny_Name (wpAny_loadName_local I.ok.kind hk hn hm fin) hd
 ·rcases hk with hk|hk
  ·exact wpAny_Name (wpAny_loadName_cell I.ok.kind hk hc hcell fin) hd
  ·exact wpAny_Name (wpAny_loadName_free I.ok.kind hk hc hcell fin hcd) hd
theorem ZMB{i j pos}:PE X (.Constant (.int i) j pos) (tC (.int i)):=λ_ _ _ H _ I h=>wpAny_Constant_int ⟨.int i,H,I.tok _,⟨_,rfl⟩,h⟩
theorem ZOE{b j pos}:PE X (.Constant (.bool b) j pos) (tC (.bl b)):=λ_ _ _ H _ I h=>Constant_bool ⟨.bl b,H,I,rfl,h⟩
theorem ZUo{j pos}:PE X (.Constant .none j pos) (tC .non):=λ_ _ _ H _ I h=>Constant_none ⟨.non,H,I,rfl,h⟩
theorem ZEl{x j pos}:PE X (.Constant (.str x) j pos) (tC (.str x)):=λ_ _ _ H _ I h=>Calls.Constant_str ⟨.str x,H,I.tok _,⟨_,rfl⟩,h⟩
def Gl(X:Cx)(x:Str):Prop:=X.env.kindOf x=vF .globalImplicit
theorem Vq{E:xE->xC->Prop}{σ:St}{H:Hp}{x:Str}{u:xE}{pos:Pos}{Q:xE->xC->Prop}(I:Inv X vE σ H s)(hg:Gl X x)(hm:X.mg x=vF u)(h:Q u s)
  (hd:(x==("__debug__":Str))=vI:=by decide):vq (vJ X.prog X.w) X.A (eval (.Name x pos) X.env) Q E s:=
 Calls.Name_function_global I.ok.kind hg (Calls.loadGlobal_global (by rw[I.ok.glob];exact I.mod.glob.keeps I.bk) hm h) hd
theorem Hj{E:xE->xC->Prop}{σ:St}{H:Hp}{x:Str}{u:xE}{pos:Pos}{Q:xE->xC->Prop}(I:Inv X vE σ H s)(hg:Gl X x)(hm:X.mg x=vG)(hv:xO x=vF u)(h:Q u s)
  (hn:x≠"__name__":=by decide) (hd:(x==("__debug__":Str))=vI:=by decide):vq (vJ X.prog X.w) X.A (eval (.Name x pos) X.env) Q E s:=by
 obtain⟨mb,h1,h2⟩:=I.mod.blt;exact Calls.Name_function_global I.ok.kind hg (Calls.loadGlobal_builtin (by rw[I.ok.glob];exact I.mod.glob.keeps I.bk) hm (by rw[I.ok.blt];exact h1.keeps I.bk) ((h2 x hn).trans hv) h) hd
theorem ZBj(hg:Gl X x)(hm:X.mg x=vF u)(r:RelV v u)(hd:(x==("__debug__":Str))=vI:=by decide):PE X (.Name x pos) (tC v):=
 λ_ _ _ H _ I h=>Vq I hg hm ⟨v,H,I,r,h⟩ hd
theorem ZTq{x:Str}{v:V}{u:xE}{pos:Pos}(hg:Gl X x)(hm:X.mg x=vG)(hv:xO x=vF u)(r:RelV v u)(hn:x≠"__name__":=by decide)(hd:(x==("__debug__":Str))=vI:=by decide):PE X (.Name x pos) (tC v):=
 λ_ _ _ H _ I h=>Hj I hg hm hv ⟨v,H,I,r,h⟩ hn hd
variable{a b:xk}{ta tb:TE}{pos:Pos}
def tB(t:TE):TT:=λσ H Q=>t σ H λx H1=>∃c,x=.bl c/\Q c H1
theorem ZPZ{e:xk}{t:TE}(h:PE X e t)(he:∀whole,isTrue e X.env whole=(do let v<-whole;standAt e.pos;holding [v] (truthy v)):=by intro _;rfl):PT X e (tB t):=by intro vE s σ H Q I hw;refine isTrue_plain (thn (h vE s σ H _ I hw) λv s1 ⟨x,H1,I1,r1,q1⟩=>?_) (he _);obtain⟨d,rfl,q⟩:=q1;cases r1;exact vA ⟨H1,I1,q⟩
variable{tA tB':TT}{rest:List xk}
def tAnd(t u:TT):TT:=λσ H Q=>t σ H λc H1=>if c=vH then u σ H1 Q else Q vI H1
def tOr(t u:TT):TT:=λσ H Q=>t σ H λc H1=>if c=vH then Q vH H1 else u σ H1 Q
def tNot(t:TT):TT:=λσ H Q=>t σ H λc H1=>Q (!c) H1
theorem pw_and1(ha:PT X a tA):PW X (.BoolOp .And [a] pos) tA:=by
 intro wh vE s σ H Q I h;refine isTrue_and (thn (ha vE s σ H Q I h) λc s1 e=>?_);cases c with
 |true=>exact isTrue_and_nil e
 |false=>exact e
theorem pw_or1(ha:PT X a tA):PW X (.BoolOp .Or [a] pos) tA:=by
 intro wh vE s σ H Q I h;refine isTrue_or (thn (ha vE s σ H Q I h) λc s1 e=>?_);cases c with
 |false=>exact isTrue_or_nil e
 |true=>exact e
theorem pw_and(ha:PT X a tA)(hb:PW X (.BoolOp .And (b::rest) pos) tB'):PW X (.BoolOp .And (a::b::rest) pos) (tAnd tA tB'):=by
 intro wh vE s σ H Q I h;refine isTrue_and (thn (ha vE s σ H _ I h) λc s1 ⟨H1,I1,q1⟩=>?_);cases c with
 |true=>exact hb wh vE s1 σ H1 Q I1 q1
 |false=>exact⟨H1,I1,q1⟩
theorem pw_or(ha:PT X a tA)(hb:PW X (.BoolOp .Or (b::rest) pos) tB'):PW X (.BoolOp .Or (a::b::rest) pos) (tOr tA tB'):=by
 intro wh vE s σ H Q I h;refine isTrue_or (thn (ha vE s σ H _ I h) λc s1 ⟨H1,I1,q1⟩=>?_);cases c with
 |true=>exact⟨H1,I1,q1⟩
 |false=>exact hb wh vE s1 σ H1 Q I1 q1
theorem ZQC(ha:PT X a tA):PT X (.UnaryOp .Not a pos) (tNot tA):=by intro vE s σ H Q I h;exact isTrue_not (ha vE s σ H (λc H1=>Q (!c) H1) I h)
def ZNl(ta tb:TE):TE:=λσ H Q=>ta σ H λx H1=>∃c,x=.bl c/\if c=vH then tb σ H1 Q else Q (.bl vI) H1
def tOrV(ta tb:TE):TE:=λσ H Q=>ta σ H λx H1=>∃c,x=.bl c/\if c=vH then Q (.bl vH) H1 else tb σ H1 Q
def ZLY(ta:TE):TE:=λσ H Q=>ta σ H λx H1=>∃c,x=.bl c/\Q (.bl (!c)) H1
theorem ZPd{op}(h:PE X a t):PE X (.BoolOp op [a] pos) t:=λvE s σ H Q I hw=>BoolOp_one (h vE s σ H Q I hw)
theorem ZMa(ha:PE X a ta)(hb:PE X (.BoolOp .And (b::rest) pos) tb):PE X (.BoolOp .And (a::b::rest) pos) (ZNl ta tb):=by
 intro vE s σ H Q I h;refine BoolOp_and (thn (ha vE s σ H _ I h) λv s1 ⟨x,H1,I1,r1,q1⟩=>?_);obtain⟨c,rfl,q1⟩:=q1;cases r1;refine vA ?_;cases c with
 |true=>exact hb vE s1 σ H1 Q I1 q1
 |false=>exact⟨.bl vI,H1,I1,rfl,q1⟩
theorem ZPO(ha:PE X a ta)(hb:PE X (.BoolOp .Or (b::rest) pos) tb):PE X (.BoolOp .Or (a::b::rest) pos) (tOrV ta tb):=by
 intro vE s σ H Q I h;refine BoolOp_or (thn (ha vE s σ H _ I h) λv s1 ⟨x,H1,I1,r1,q1⟩=>?_);obtain⟨c,rfl,q1⟩:=q1;cases r1;refine vA ?_;cases c with
 |false=>exact hb vE s1 σ H1 Q I1 q1
 |true=>exact⟨.bl vH,H1,I1,rfl,q1⟩
theorem ZP7(ha:PE X a ta):PE X (.UnaryOp .Not a pos) (ZLY ta):=by intro vE s σ H Q I h;refine UnaryOp_ (thn (ha vE s σ H _ I h) λv s1 ⟨x,H1,I1,r1,q1⟩=>?_);obtain⟨c,rfl,q1⟩:=q1;cases r1;exact not_of (vA ⟨.bl (!c),H1,I1,rfl,q1⟩)
def tIf(t:TT)(ta tb:TE):TE:=λσ H Q=>t σ H λc H1=>if c=vH then ta σ H1 Q else tb σ H1 Q
theorem ZLg{c:xk}(hc:PT X c tA)(ha:PE X a ta)(hb:PE X b tb):PE X (.IfExp c a b pos) (tIf tA ta tb):=by
 intro vE s σ H Q I h;refine wpAny_IfExp (thn (hc vE s σ H _ I h) λd s1 ⟨H1,I1,q1⟩=>?_);cases d with
 |true=>exact ha vE s1 σ H1 Q I1 q1
 |false=>exact hb vE s1 σ H1 Q I1 q1
end
def SqL(K:PySem.W.Frag)(H:Hp)(a:xj)(xs:List V):Prop:=
 Rd H a (.lst xs)∨
  ∃(o:Obj)(its:Array xE)(n:Nat),K.lookup a=vF o/\o.cls=.type "list"/\o.dict=vG/\o.data=.seq its n/\its.size<=sizeLine/\Vals xs its.toList
def SqT(K:PySem.W.Frag)(H:Hp)(a:xj)(xs:List V):Prop:=
 Rd H a (.tup xs)∨
  ∃(o:Obj)(its:Array xE)(n:Nat),K.lookup a=vF o/\o.cls=.type "tuple"/\o.data=.seq its n/\its.size<=sizeLine/\Vals xs its.toList
def absV:xE->Option V
 |.none=>vF .non
 |.bool b=>vF (.bl b)
 |.int i _=>vF (.int i)
 |.str x _=>vF (.str x)
 |.bytes b _=>vF (.byt b)
 |.float b _=>vF (.flt b)
 |.ref a=>vF (.ref a)
 |.type n=>vF (.ty n)
 |_=>vG
theorem RelV.abs(r:RelV x u):absV u=vF x:=by
 cases x with
 |non=>cases r;rfl
 |bl _=>cases r;rfl
 |int _=>obtain⟨t,rfl⟩:=r;rfl
 |str _=>obtain⟨t,rfl⟩:=r;rfl
 |byt _=>obtain⟨t,rfl⟩:=r;rfl
 |flt _=>obtain⟨t,rfl⟩:=r;rfl
 |ref _=>cases r;rfl
 |ty _=>cases r;rfl
theorem RelV.inj(r:RelV x u)(q:RelV y u):x=y:=Option.some.inj (r.abs.symm.trans q.abs)
theorem Vals.inj:∀{xs ys:List V}{us:List xE},Vals xs us->Vals ys us->xs=ys
 |_,_,_,.nil,.nil=>rfl
 |_,_,_,.cons r t,.cons r' t'=>by rw[r.inj r',Vals.inj t t']
section
variable{X:Cx}{vE:List (xj×Obj)}{σ:St}{H:Hp}{s:xC}{a:xj}{xs ys:List V}
theorem SqL.of(h:H a=vF (.lst xs)):SqL K H a xs:=.inl (.inl h)
theorem SqT.of(h:H a=vF (.tup xs)):SqT K H a xs:=.inl (.inl h)
theorem Inv.list(I:Inv X vE σ H s)(h:SqL X.K H a xs):∃its:List xE,Vals xs its/\PlainL s.heap a its.toArray/\xs.length<=sizeLine:=by
 rcases h with h|⟨o,its,n,hk,hc,hd,hs,hz,r⟩
 ·obtain⟨z,its,n,r,e⟩:=h.ok I.hok;exact⟨its,r,⟨_,n,e,rfl,rfl,rfl⟩,z⟩
 ·refine⟨its.toList,r,⟨o,n,I.kIn a o hk,hc,hd,by simpa using hs⟩,?_⟩;have e:=r.length;simp only[qD]at e;lia
theorem Inv.tuple(I:Inv X vE σ H s)(h:SqT X.K H a xs):∃its:List xE,Vals xs its/\IsTup s.heap a its.toArray/\xs.length<=sizeLine:=by
 rcases h with h|⟨o,its,n,hk,hc,hs,hz,r⟩
 ·obtain⟨z,its,r,p⟩:=h.ok I.hok;exact⟨its,r,p,z⟩
 ·refine⟨its.toList,r,⟨o,I.kIn a o hk,hc,n,by simpa using hs⟩,?_⟩;have e:=r.length;simp only[qD]at e;lia
theorem Inv.Xc(I:Inv X vE σ H s)(h:SqL X.K H a xs)(h':SqL X.K H a ys):xs=ys:=by
 obtain⟨its,r,⟨o,n,e,_,_,d⟩,_⟩:=I.list h;obtain⟨its',r',⟨o',n',e',_,_,d'⟩,_⟩:=I.list h';rw[e]at e';cases e';rw[d]at d';injection d' with d1 _
 have:its=its':=by simpa using congrArg Array.toList d1
 subst this;exact r.inj r'
theorem Inv.ZAR(I:Inv X vE σ H s)(h:SqT X.K H a xs)(h':SqT X.K H a ys):xs=ys:=by
 obtain⟨its,r,⟨o,e,_,n,d⟩,_⟩:=I.tuple h;obtain⟨its',r',⟨o',e',_,n',d'⟩,_⟩:=I.tuple h';rw[e]at e';cases e';rw[d]at d';injection d' with d1 _
 have:its=its':=by simpa using congrArg Array.toList d1
 subst this;exact r.inj r'
end
abbrev Cx.wish(X:Cx)(E:xE->xC->Prop):Cx:={X with xe:=E}
abbrev Cx.nox(X:Cx):Cx:=X.wish λ_ _=>False
theorem Cx.Ok.wish{X:Cx}(ok:X.Ok)(E:xE->xC->Prop):(X.wish E).Ok:=
 ⟨ok.mod,ok.kind,ok.glob,ok.blt,ok.above,ok.inj,ok.has,ok.cab,ok.hd,ok.frames,ok.stk,ok.exf,ok.bs,ok.bsz,ok.noex,ok.exfs,ok.funs,ok.frf⟩
theorem Cx.Ok.unwish{X:Cx}{E:xE->xC->Prop}(ok:(X.wish E).Ok):X.Ok:=
 ⟨ok.mod,ok.kind,ok.glob,ok.blt,ok.above,ok.inj,ok.has,ok.cab,ok.hd,ok.frames,ok.stk,ok.exf,ok.bs,ok.bsz,ok.noex,ok.exfs,ok.funs,ok.frf⟩
section
variable{X:Cx}{vE:List (xj×Obj)}{σ:St}{H:Hp}{s:xC}{E:xE->xC->Prop}
theorem Inv.wish(I:Inv X vE σ H s)(E:xE->xC->Prop):Inv (X.wish E) vE σ H s:=⟨I.ok.wish E,I.os,I.bare,I.base,I.loc,I.cell,I.free,I.Hq,I.pin,I.hok,I.len⟩
theorem Inv.unwish(I:Inv (X.wish E) vE σ H s):Inv X vE σ H s:=⟨I.ok.unwish,I.os,I.bare,I.base,I.loc,I.cell,I.free,I.Hq,I.pin,I.hok,I.len⟩
theorem SP.unwish(h:SP (X.wish E) vE D f s'):SP X vE D f s':=by
 cases f with
 |next=>obtain⟨σ',H',I,q⟩:=h;exact⟨σ',H',I.unwish,q⟩
 |brk=>obtain⟨σ',H',I,q⟩:=h;exact⟨σ',H',I.unwish,q⟩
 |cont=>obtain⟨σ',H',I,q⟩:=h;exact⟨σ',H',I.unwish,q⟩
 |ret u=>obtain⟨v,σ',H',I,r,q⟩:=h;exact⟨v,σ',H',I.unwish,r,q⟩
theorem PSs.nox{st:List xD}{t:TS}(h:PSs X.nox st t):PSs X st t:=λvE s σ H D I hw=>
 v5 (h vE s σ H D (I.wish _) hw) (λ_ _ q=>q.unwish) λ_ _ z=>False.elim z
end
section
variable{X:Cx}{st:xD}{rest:List xD}{t u:TS}{e:xk}{te:TE}{pos:Pos}
def ZML:TS:=λD σ H=>D.nx σ H
def tSeq(t u:TS):TS:=λD σ H=>t {D with nx:=u D} σ H
theorem ZNk:PSs X [] ZML:=λ_ _ σ H _ I h=>wpAny_execs_nil ⟨σ,H,I,h⟩
theorem ZPl(h1:PS X st t)(h2:PSs X rest u):PSs X (st::rest) (tSeq t u):=by
 intro vE s σ H D I h;refine wpAny_execs_cons (thn (h1 vE s σ H {D with nx:=u D} I h) λf s1 q=>?_);cases f with
 |next=>
  obtain⟨σ',H',I',q⟩:=q;exact h2 vE s1 σ' H' D I' q
 |ret v=>exact q
 |brk=>exact q
 |cont=>exact q
theorem ZLv(h1:PS X st t):PSs X [st] t:=by
 intro vE s σ H D I h;refine wpAny_execs_cons (thn (h1 vE s σ H D I h) λf s1 q=>?_);cases f with
 |next=>exact wpAny_execs_nil q
 |ret v=>exact q
 |brk=>exact q
 |cont=>exact q
theorem Inv.quiet{σ:St}{H:Hp}(I:Inv X vE σ H s):interactive X.env=vI:=by simp[interactive,I.ok.kind]
def ZRz(te:TE):TS:=λD σ H=>te σ H λ_ H1=>D.nx σ H1
theorem ZPH(he:PE X e te)(hs:swapsWith e vG pos.line X.env=pure vI:=by rfl):PS X (.Expr e pos) (ZRz te):=by intro vE s σ H D I h;exact wpAny_Expr_any (thn (he vE s σ H _ I h) λv s1 ⟨x,H1,I1,r1,q1⟩=>⟨σ,H1,I1,q1⟩) I.quiet hs
def tRet(te:TE):TS:=λD σ H=>te σ H D.rt
theorem ZKU(he:PE X e te):PS X (.Return (vF e) pos) (tRet te):=by intro vE s σ H D I h;exact wpAny_Return_some (thn (he vE s σ H _ I h) λv s1 ⟨x,H1,I1,r1,q1⟩=>⟨x,σ,H1,I1,r1,q1⟩)
def tIfS(c:TT)(t u:TS):TS:=λD σ H=>c σ H λb H1=>if b=vH then t D σ H1 else u D σ H1
theorem ZTv{c:xk}{a b:List xD}{tc:TT}(hc:PT X c tc)(ha:PSs X a t)(hb:PSs X b u):PS X (.If c a b pos) (tIfS tc t u):=by
 intro vE s σ H D I h;refine wpAny_If (thn (hc vE s σ H _ I h) λd s1 ⟨H1,I1,q1⟩=>?_);cases d with
 |true=>exact ha vE s1 σ H1 D I1 q1
 |false=>exact hb vE s1 σ H1 D I1 q1
end
abbrev TG:=V->St->Hp->(St->Hp->Prop)->Prop
abbrev TGs:=List V->St->Hp->(St->Hp->Prop)->Prop
def PG(X:Cx)(target:xk)(t:TG):Prop:=
 ∀(vE:List (xj×Obj))(s:xC)(σ:St)(H:Hp)(v:V)(u:xE)(Q:St->Hp->Prop),Inv X vE σ H s->RelV v u->t v σ H Q->
  vq (vJ X.prog X.w) X.A (assign target X.env u) (λ_ s'=>∃σ' H',Inv X vE σ' H' s'/\Q σ' H') X.xe s
def PGs(X:Cx)(ts:List xk)(t:TGs):Prop:=
 ∀(vE:List (xj×Obj))(s:xC)(σ:St)(H:Hp)(vs:List V)(us:List xE)(Q:St->Hp->Prop),Inv X vE σ H s->Vals vs us->t vs σ H Q->
  vq (vJ X.prog X.w) X.A (assignInOrder ((xG ts X.env).map (·.2)) us) (λ_ s'=>∃σ' H',Inv X vE σ' H' s'/\Q σ' H') X.xe s
abbrev TSet:=V->V->V->Hp->(Hp->Prop)->Prop
def PSet(X:Cx)(t:TSet):Prop:=
 ∀(vE:List (xj×Obj))(s:xC)(σ:St)(H:Hp)(o i v:V)(ov iv u:xE)(Q:Hp->Prop),Inv X vE σ H s->RelV o ov->RelV i iv->RelV v u->t o i v H Q->
  vq (vJ X.prog X.w) X.A (setItem ov iv u) (λ_ s'=>∃H',Inv X vE σ H' s'/\Q H') X.xe s
abbrev TIp:=V->V->Hp->VK->Prop
def PIp(X:Cx)(op:Operator)(t:TIp):Prop:=
 ∀(vE:List (xj×Obj))(s:xC)(σ:St)(H:Hp)(x y:V)(v u:xE)(Q:VK),Inv X vE σ H s->RelV x v->RelV y u->t x y H Q->
  vq (vJ X.prog X.w) X.A (inplaceOp op v u) (EP X vE σ Q) X.xe s
section
variable{X:Cx}{pos:Pos}
def ZDB(i:Nat):TG:=λv σ H Q=>Q (σ.set i (vF v)) H
theorem ZM3(hN:X.N.Nodup)(hi:X.N[i]?=vF x)(hx:Loc X.env.scope x)(hf:X.fn x=vH∨X.env.scope.names.lookup x=vF .local:=by first|exact .inl rfl|exact .inr rfl|assumption):PG X (.Name x pos) (ZDB i):=by intro vE s σ H v u Q I r h;exact wpAny_assign_Name (X4 I hN hi hx r (λs' I'=>⟨_,H,I',h⟩) hf)
def gNil:TGs:=λvs σ H Q=>vs=[]/\Q σ H
def ZOn(t:TG)(u:TGs):TGs:=λvs σ H Q=>∃v r,vs=v::r/\t v σ H λσ' H'=>u r σ' H' Q
theorem ZKZ:PGs X [] gNil:=by intro vE s σ H vs us Q I r h;obtain⟨e,h⟩:=h;subst e;cases r;exact assignInOrder_nil ⟨σ,H,I,h⟩
theorem ZNz{e:xk}{es:List xk}{t:TG}{u:TGs}(h1:PG X e t)(h2:PGs X es u)
  (hs:(xG (e::es) X.env).map (·.2)=assign e X.env::(xG es X.env).map (·.2):=by rfl):PGs X (e::es) (ZOn t u):=by
 intro vE s σ H vs us Q I r h;obtain⟨v,vr,e1,h⟩:=h;subst e1;cases r with
 |cons r rr=>
  rw[hs];refine assignInOrder_cons (thn (h1 vE s σ H _ _ _ I r h) λ_ s1 ⟨σ1,H1,I1,q1⟩=>?_);exact h2 vE s1 σ1 H1 _ _ Q I1 rr q1
def gTup(K:PySem.W.Frag)(n:Nat)(t:TGs):TG:=λv σ H Q=>∃a xs,v=.ref a/\SqT K H a xs/\xs.length=n/\t xs σ H Q
theorem ZNo{es:List xk}{k:Nat}{t:TGs}{n:Nat}(hc:X.calm=vH)(h:PGs X es t)
  (hn:(xG es X.env).length=n:=by rfl) (hst:(xG es X.env).findIdx? (·.1)=vG:=by rfl):PG X (.Tuple es k pos) (gTup X.K n t):=by
 intro vE s σ H v u Q I r hw;obtain⟨a,xs,e1,hq,hl,hw⟩:=hw;subst e1;cases r;obtain⟨its,rv,ht,hz⟩:=I.tuple hq;refine assign_Tuple_tuple (I.ok.hd hc) ht (by simp[hn,<-hl,rv.length]) hst λh' hx=>?_
 have I1:Inv X vE σ H {s with heap:=h'}:=I.kept (t':=s.toks) λb o e=>hx b o (zG (zw e)) e
 exact h vE _ σ H xs _ Q I1 (by simpa using rv) hw
def gSub(to ti:TE)(t:TSet):TG:=λv σ H Q=>to σ H λo H1=>ti σ H1 λi H2=>t o i v H2 λH3=>Q σ H3
theorem ZKB{o i:xk}{to ti:TE}{t:TSet}(ho:PE X o to)(hi:PE X i ti)(hs:PSet X t)
  (ha:∀v,assign (.Subscript o i pos) X.env v=(do
   let ov<-holding [v] (eval o X.env);let iv<-holding [v,ov] (eval i X.env)
   standAt pos
   holding [v,ov,iv] (setItem ov iv v)
   release [v,ov,iv] []):=by intro _;rfl):PG X (.Subscript o i pos) (gSub to ti t):=by
 intro vE s σ H v u Q I r h;rw[ha];refine vj (v4 (thn (ho vE s σ H _ I h) λov s1 ⟨x,H1,I1,r1,q1⟩=>?_));refine vj (v4 (thn (hi vE s1 σ H1 _ I1 q1) λiv s2 ⟨y,H2,I2,r2,q2⟩=>?_));refine vj (wpAny_standAt (vj (v4 (thn (hs vE s2 σ H2 x y v ov iv u _ I2 r1 r2 r q2) λ_ s3 ⟨H3,I3,q3⟩=>?_))));exact wpAny_release ⟨σ,H3,I3,q3⟩
def ZA3(te:TE)(g:TG):TS:=λD σ H=>te σ H λx H1=>g x σ H1 D.nx
theorem ZSD{e:xk}{g:TG}(he:PE X e te)(hg:PG X tg g)(hs:swapsWithSole [tg] e pos.line X.env=pure vI:=by rfl)(hw:swappedStores [tg] e X.env=pure vG:=by rfl)
  (h1:(xG [tg] X.env).map (·.2)=[assign tg X.env]:=by rfl):PS X (.Assign [tg] e pos) (ZA3 te g):=by
 intro vE s σ H D I h;refine wpAny_Assign_stores (thn (he vE s σ H _ I h) λv s1 ⟨x,H1,I1,r1,q1⟩=>?_) hs hw;rw[h1];exact thn (hg vE s1 σ H1 x v _ I1 r1 q1) λ_ s2 q=>q
theorem ZUa{i:Nat}{x:Str}{e:xk}{pos':Pos}(hN:X.N.Nodup)(hi:X.N[i]?=vF x)(hx:Loc X.env.scope x)(he:PE X e te)(hs:swapsWith e (vF (.Name x pos')) pos.line X.env=pure vI:=by rfl)(hf:X.fn x=vH∨X.env.scope.names.lookup x=vF .local:=by first|exact .inl rfl|exact .inr rfl|assumption):
  PS X (.Assign [.Name x pos'] e pos) (ZA3 te (ZDB i)):=by
 intro vE s σ H D I h;refine wpAny_Assign_Name (thn (he vE s σ H _ I h) λv s1 ⟨y,H1,I1,r1,q1⟩=>?_) hs;exact X4 I1 hN hi hx r1 (λs2 I2=>⟨_,H1,I2,q1⟩) hf
def tAug(i:Nat)(te:TE)(ti:TIp):TS:=λD σ H=>∃x,σ[i]?=vF (vF x)/\te σ H λy H1=>ti x y H1 λz H2=>D.nx (σ.set i (vF z)) H2
theorem ZL9{i:Nat}{x:Str}{e:xk}{op:Operator}{ti:TIp}{pos':Pos}(hN:X.N.Nodup)(hi:X.N[i]?=vF x)(hx:Loc X.env.scope x)(he:PE X e te)(ho:PIp X op ti)(hf:X.fn x=vH∨X.env.scope.names.lookup x=vF .local:=by first|exact .inl rfl|exact .inr rfl|assumption):
  PS X (.AugAssign (.Name x pos') op e pos) (tAug i te ti):=by
 intro vE s σ H D I h;obtain⟨v,e1,h⟩:=h;obtain⟨m,hn,hl⟩:=I.loc;have vis:Vis X.env.scope x:=by rcases hx with k|k;exact .inl k;exact .inr (.inl k)
 obtain⟨u,r,l⟩:=hl i x v hi e1 vis;refine wpAny_AugAssign_Name ?_
 have go:vq (vJ X.prog X.w) X.A (eval e X.env) (λw s₂=>vq (vJ X.prog X.w) X.A (inplaceOp op u w) (λr s₃=>vq (vJ X.prog X.w) X.A (storeName X.env x r) (λ_=>SP X vE D .next) X.xe s₃) X.xe s₂) X.xe s:=by
  refine thn (he vE s σ H _ I h) λw s1 ⟨y,H1,I1,r1,q1⟩=>?_
  refine thn (ho vE s1 σ H1 v y u w _ I1 r r1 q1) λz s2 ⟨zv,H2,I2,r2,q2⟩=>?_
  exact X4 I2 hN hi hx r2 (λs3 I3=>⟨_,H2,I3,q2⟩) hf
 rcases l with⟨hk,hm⟩|⟨hk,c,hc,hcell⟩
 ·exact wpAny_loadName_local I.ok.kind hk hn hm go
 ·rcases hk with hk|hk
  ·exact wpAny_loadName_cell I.ok.kind hk hc hcell go
  ·rcases hx with k|k
   ·have:X.env.scope.names.lookup x=vF .free:=hk;rw[k]at this;cases this
   ·have:X.env.scope.names.lookup x=vF .free:=hk;rw[k]at this;cases this
def ipI(f:Int->Int->Int):TIp:=λx y H Q=>∃i j,x=.int i/\y=.int j/\Q (.int (f i j)) H
theorem ZNY:PIp X .Add (ipI λi j=>i+j):=by intro vE s σ H x y v u Q I r1 r2 h;obtain⟨i,j,e1,e2,q⟩:=h;subst e1;subst e2;obtain⟨t,rfl⟩:=r1;obtain⟨t',rfl⟩:=r2;exact iadd_int ⟨.int _,H,I.tok _,⟨_,rfl⟩,q⟩
theorem ZP9:PIp X .Sub (ipI λi j=>i-j):=by intro vE s σ H x y v u Q I r1 r2 h;obtain⟨i,j,e1,e2,q⟩:=h;subst e1;subst e2;obtain⟨t,rfl⟩:=r1;obtain⟨t',rfl⟩:=r2;exact isub_int ⟨.int _,H,I.tok _,⟨_,rfl⟩,q⟩
end
section
variable{X:Cx}{pos:Pos}
def ZMb(c:TT)(tb:TS):TS:=λD σ H=>∃W:Nat->St->Hp->Prop,(∃m,W m σ H)/\∀m σ H,W m σ H->
 c σ H λb H1=>if b=vH then∃N:St->Hp->Prop,(∀σ' H',N σ' H'->∃m',m'<m/\W m' σ' H')/\tb {D with nx:=N,ct:=N,bk:=D.nx} σ H1 else D.nx σ H1
theorem ZMf{c:xk}{body:List xD}{tc:TT}{tb:TS}(hp:PassesOwn (vJ X.prog X.w) X.A X.env X.xe)(hc:PT X c tc)(hb:PSs X body tb):PS X (.While c body [] pos) (ZMb tc tb):=by
 intro vE s σ H D I h;obtain⟨W,⟨m0,w0⟩,turn⟩:=h;refine wpAny_While (codeAny_whileLoop (λn s'=>∃σ' H',Inv X vE σ' H' s'/\W n σ' H') ?_ m0 ⟨σ,H,I,w0⟩);rintro n s1 ⟨σ1,H1,I1,w1⟩;refine v7 hp (thn (hc vE s1 σ1 H1 _ I1 (turn n σ1 H1 w1)) λb s2 ⟨H2,I2,q2⟩=>?_);cases b with
 | true=>
  obtain⟨N,hN,q2⟩:=q2;rw[if_pos rfl];refine v7 hp (thn (hb vE s2 σ1 H2 _ I2 q2) λf s3 q3=>?_);cases f with
  |next=>
   obtain⟨σ3,H3,I3,n3⟩:=q3;obtain⟨m',hm,w3⟩:=hN σ3 H3 n3;exact⟨m',hm,σ3,H3,I3,w3⟩
  |cont=>
   obtain⟨σ3,H3,I3,n3⟩:=q3;obtain⟨m',hm,w3⟩:=hN σ3 H3 n3;exact⟨m',hm,σ3,H3,I3,w3⟩
  |brk=>exact q3
  |ret v=>exact q3
 |false=>
  rw[if_neg zy];exact wpAny_execs_nil ⟨σ1,H2,I2,q2⟩
end
structure It where
 go:Nat->Hp->Prop
 yld:Nat->Hp->V->Hp->Prop
 stop:Nat->Hp->Prop
def FpOk(X:Cx)(vE:List (xj×Obj))(H:Hp)(b:xj):Prop:=
 H b=vG/\b≠X.env.locals/\b∉X.fs/\(b∈X.ex∨X.s₀.heap.objs.size<=b)/\(∀x c,X.env.cells.lookup x=vF c->c≠b)/\∀p∈X.pn++vE,p.1≠b
theorem Inv.Ii{X:Cx}{σ:St}{H H':Hp}{b:xj}(I:Inv X vE σ H s)(hb:s.heap.objs.size<=b)(hn:H' b=vG):FpOk X vE H' b:=by
 refine⟨hn,jy (zj I.lt hb),I.nofs hb,.inr (zC I.sz hb),λx c e z=>?_,λp hp z=>?_⟩
 ·obtain⟨v,q⟩:=I.cell x c e;exact absurd (zj q.lt (by rw[z];exact hb)) (qK _)
 ·exact absurd (zj (zw (I.pin p hp).1) (by rw[z];exact hb)) (qK _)
structure Turn (P:xA) (w:xF) (K:PySem.W.Frag) (tg:xk) (J:It) (fp:List xj) (it:xj) (tn:Nat->Heap->Prop):Prop where
 mem:it∈fp
 obj:∀i h,tn i h->∀b∈fp,∃o,h.get? b=vF o/\∀v,o.data≠ .cell v
 keep:∀i h h',tn i h->(∀b∈fp,∀o,h.get? b=vF o->h'.get? b=vF o)->tn i h'
 item:∀(X:Cx),X.prog=P->X.w=w->X.K=K->X.calm=vH->∀(i:Nat)(vE:List (xj×Obj))(s:xC)(σ:St)(H:Hp)(E:xE->xC->Prop),Inv X vE σ H s->(∀b∈fp,FpOk X vE H b)->tn i s.heap->J.go i H->
  vq (vJ P w) X.A (pyNext (.ref it)) (λr s1=>∃u,r=vF u/\
   vq (vJ P w) X.A (vQ tg (.ref it) u) (λ_ s2=>∃x H',Inv X vE σ H' s2/\RelV x u/\J.yld i H x H'/\tn (i+1) s2.heap/\∀b∈fp,H' b=vG) E s1) E s
 done:∀(X:Cx),X.prog=P->X.w=w->X.K=K->X.calm=vH->∀(i:Nat)(vE:List (xj×Obj))(s:xC)(σ:St)(H:Hp)(E:xE->xC->Prop),Inv X vE σ H s->(∀b∈fp,FpOk X vE H b)->tn i s.heap->J.stop i H->
  vq (vJ P w) X.A (pyNext (.ref it)) (λr s1=>r=vG/\Inv X vE σ H s1) E s
 self:∀(A:xw)(i:Nat)(s:xC)(Q:xE->xC->Prop)(E:xE->xC->Prop),tn i s.heap->Q (.ref it) s->vq (vJ P w) A (pyIter (.ref it)) Q E s
abbrev TI:=St->Hp->(It->Hp->Prop)->Prop
def PIE(X:Cx)(vE:List (xj×Obj))(σ:St)(tg:xk)(R:It->Hp->Prop)(itv:xE)(s2:xC):Prop:=
 ∃(it:xj)(fp:List xj)(tn:Nat->Heap->Prop)(J:It)(H':Hp),itv=.ref it/\Inv X vE σ H' s2/\Turn X.prog X.w X.K tg J fp it tn/\tn 0 s2.heap/\(∀b∈fp,FpOk X vE H' b)/\R J H'
def PI(X:Cx)(tg iter:xk)(wi:TI):Prop:=
 ∀(vE:List (xj×Obj))(s:xC)(σ:St)(H:Hp)(R:It->Hp->Prop),Inv X vE σ H s->wi σ H R->
  vq (vJ X.prog X.w) X.A (eval iter X.env) (λv s1=>vq (vJ X.prog X.w) X.A (pyIter v) (PIE X vE σ tg R) X.xe s1) X.xe s
theorem Nk(ho:s.heap.get? it=vF o)(hc:o.cls=.type n)(hd:o.data=.fields vs)
  (hn: ["enumerate","zip","dict_itemiterator","dict_reverseitemiterator","odict_iterator","itertools.zip_longest","itertools.pairwise"].contains n=vI) (hQ:Q () s):vq M A (vQ tg (.ref it) u) Q E s:=by
 unfold vQ
 cases tg<;>first
  |exact v8 hQ
  | (cases u<;>first
    |exact v8 hQ
    | (
      refine vj (wpAny_load ho ?_);rw[hc,hd];show vq M A (if(["enumerate","zip","dict_itemiterator","dict_reverseitemiterator","odict_iterator","itertools.zip_longest","itertools.pairwise"].contains n&&vs[0]?==vF (vX _))=vH then _ else _) Q E s;rw[if_neg (by intro h;rw[hn,Bool.false_and]at h;cases h)];exact v8 hQ))
def Itl(K:PySem.W.Frag)(a:xj):It:=
 ⟨λi H=>∃xs x,SqL K H a xs/\xs[i]?=vF x,λi H x H'=>H'=H/\∀xs,SqL K H a xs->xs[i]?=vF x,λi H=>∃xs,SqL K H a xs/\xs.length<=i⟩
def Itt(K:PySem.W.Frag)(a:xj):It:=
 ⟨λi H=>∃xs x,SqT K H a xs/\xs[i]?=vF x,λi H x H'=>H'=H/\∀xs,SqT K H a xs->xs[i]?=vF x,λi H=>∃xs,SqT K H a xs/\xs.length<=i⟩
def Itr(lo:Int)(n:Nat):It:=⟨λi _=>i<n,λi H x H'=>H'=H/\x=.int (lo+i),λi _=>n<=i⟩
theorem ZOL{w:xF}(a it:xj):Turn P w K tg (Itl K a) [it] it (λi h=>h.IsListIter it a i) where
 mem:=by simp
 obj:=λi h st b hb=>by
  have e:b=it:=by simpa using hb
  subst e;obtain⟨o,e,c,d⟩:=st;exact⟨o,e,λv z=>by rw[d]at z;cases z⟩
 keep:=λi h h' st k=>st.at λo e=>k it (by simp) o e
 item:=by
  intro X hP hw hK hc i vE s σ H E I hf st hg;subst hP hw hK;obtain⟨xs,x,hq,hx⟩:=hg;obtain⟨its,rv,p,hz⟩:=I.list hq;obtain⟨u,hu,ru⟩:=rv.get hx;obtain⟨f0,f1,f2,f3,f4,f5⟩:=hf it (by simp);refine wpAny_pyNext_list_item st p.isList (x:=u) (by simpa using hu) λh' st' sb=>?_
  have I1:Inv X vE σ H {s with heap:=h'}:=I.turned (t':=s.toks) (λb o hb e=>(sb.2 b hb).trans e) f0 f1 f3 f4 f5;obtain⟨o,e,c,d⟩:=id st';exact⟨u,rfl,Nk (s:={s with heap:=h'}) e c d (by decide) ⟨x,H,I1,ru,⟨rfl,λys hy=>by rw[I.Xc hy hq];exact hx⟩,st',λb hb=>(hf b hb).1⟩⟩
 done:=by intro X hP hw hK hc i vE s σ H E I hf st hg;subst hP hw hK;obtain⟨xs,hq,hx⟩:=hg;obtain⟨its,rv,p,hz⟩:=I.list hq;obtain⟨f0,f1,f2,f3,f4,f5⟩:=hf it (by simp);have hl:=rv.length;exact wpAny_pyNext_list_end (I.ok.hd hc) st p.isList (by simp;lia) λh' eb=>⟨rfl,I.turned (t':=s.toks) (λb o hb e=>eb b o hb e) f0 f1 f3 f4 f5⟩
 self:=λ_ _ _ _ _ st h=>wpAny_pyIter_listiter st h
theorem ZOf{w:xF}(a it:xj):Turn P w K tg (Itt K a) [it] it (λi h=>h.IsTupleIter it a i) where
 mem:=by simp
 obj:=λi h st b hb=>by
  have e:b=it:=by simpa using hb
  subst e;obtain⟨o,e,c,d⟩:=st;exact⟨o,e,λv z=>by rw[d]at z;cases z⟩
 keep:=λi h h' st k=>st.at λo e=>k it (by simp) o e
 item:=by
  intro X hP hw hK hc i vE s σ H E I hf st hg;subst hP hw hK;obtain⟨xs,x,hq,hx⟩:=hg;obtain⟨its,rv,p,hz⟩:=I.tuple hq;obtain⟨u,hu,ru⟩:=rv.get hx;obtain⟨f0,f1,f2,f3,f4,f5⟩:=hf it (by simp)
  refine wpAny_pyNext_tuple_item st (show s.heap.IsTuple a its.toArray from p) (x:=u) (by simpa using hu) λh' st' sb=>?_
  have I1:Inv X vE σ H {s with heap:=h'}:=I.turned (t':=s.toks) (λb o hb e=>(sb.2 b hb).trans e) f0 f1 f3 f4 f5;obtain⟨o,e,c,d⟩:=id st';exact⟨u,rfl,Nk (s:={s with heap:=h'}) e c d (by decide) ⟨x,H,I1,ru,⟨rfl,λys hy=>by rw[I.ZAR hy hq];exact hx⟩,st',λb hb=>(hf b hb).1⟩⟩
 done:=by
  intro X hP hw hK hc i vE s σ H E I hf st hg;subst hP hw hK;obtain⟨xs,hq,hx⟩:=hg;obtain⟨its,rv,p,hz⟩:=I.tuple hq;obtain⟨f0,f1,f2,f3,f4,f5⟩:=hf it (by simp);have hl:=rv.length
  exact wpAny_pyNext_tuple_end (I.ok.hd hc) st (show s.heap.IsTuple a its.toArray from p) (by simp;lia) λh' eb=>⟨rfl,I.turned (t':=s.toks) (λb o hb e=>eb b o hb e) f0 f1 f3 f4 f5⟩
 self:=λ_ _ _ _ _ st h=>wpAny_pyIter_tupleiter st h
theorem ZPt{w:xF}(it:xj)(lo:Int)(n:Nat):Turn P w K tg (Itr lo n) [it] it (λi h=>IsRangeIter h it (lo+(i:Nat)*1) ((n:Int)-(i:Nat)) 1) where
 mem:=by simp
 obj:=λi h st b hb=>by
  have e:b=it:=by simpa using hb
  subst e;exact⟨_,st,λv z=>by have z':Data.fields _=Data.cell v:=z;cases z'⟩
 keep:=λi h h' st k=>k it (by simp) _ st
 item:=by
  intro X hP hw hK hc i vE s σ H E I hf st hg;subst hP hw hK;obtain⟨f0,f1,f2,f3,f4,f5⟩:=hf it (by simp);have W:=Walks.range (prog:=X.prog) (w:=X.w) (I.ok.hd hc) it lo 1 n;refine W.item i s _ _ hg st λv h' tk hv st' kk=>?_
  obtain⟨t,rfl⟩:=hv;have I1:Inv X vE σ H {s with heap:=h',toks:=tk}:=I.turned (λb o hb e=>kk b o (by simpa using hb) e) f0 f1 f3 f4 f5;refine⟨_,rfl,Nk (s:={s with heap:=h',toks:=tk}) (n:="range_iterator") st' rfl rfl (by decide) ⟨.int (lo+i),H,I1,⟨t,?_⟩,⟨rfl,rfl⟩,st',λb hb=>(hf b hb).1⟩⟩;rw[Int.mul_one]
 done:=by intro X hP hw hK hc i vE s σ H E I hf st hg;subst hP hw hK;obtain⟨f0,f1,f2,f3,f4,f5⟩:=hf it (by simp);exact wpAny_pyNext_range_end (I.ok.hd hc) st (by have:n<=i:=hg;lia) λh' eb=>⟨rfl,I.turned (t':=s.toks) (λb o hb e=>eb b o hb e) f0 f1 f3 f4 f5⟩
 self:=λ_ _ _ _ _ st h=>wpAny_pyIter_rangeiter st h
section
variable{X:Cx}{tg:xk}
def ZPp(K:PySem.W.Frag)(tl:TE):TI:=λσ H R=>tl σ H λx H1=>∃a,x=.ref a/\(∃xs,SqL K H1 a xs)/\R (Itl K a) H1
def iTup(K:PySem.W.Frag)(tl:TE):TI:=λσ H R=>tl σ H λx H1=>∃a,x=.ref a/\(∃xs,SqT K H1 a xs)/\R (Itt K a) H1
theorem Y7{l:xk}{tl:TE}(hl:PE X l tl):PI X tg l (ZPp X.K tl):=by
 intro vE s σ H R I h;refine thn (hl vE s σ H _ I h) λv s1 ⟨x,H1,I1,r1,q1⟩=>?_
 obtain⟨a,e,⟨xs,hq⟩,q⟩:=q1;subst e;cases r1;obtain⟨its,rv,p,hz⟩:=I1.list hq;refine wpAny_pyIter_list p.isList ?_;refine⟨s1.heap.objs.size,[s1.heap.objs.size],_,_,H1,rfl,I1.kept (t':=s1.toks) λb o e=>zJ _ e,ZOL a _,⟨_,zA _ rfl,rfl,rfl⟩,λb hb=>?_,q⟩;have e:b=s1.heap.objs.size:=by simpa using hb
 subst e;exact I1.Ii (zK _) (I1.hok.fresh (zK _))
theorem ZPD{l:xk}{tl:TE}(hl:PE X l tl):PI X tg l (iTup X.K tl):=by
 intro vE s σ H R I h;refine thn (hl vE s σ H _ I h) λv s1 ⟨x,H1,I1,r1,q1⟩=>?_
 obtain⟨a,e,⟨xs,hq⟩,q⟩:=q1;subst e;cases r1;obtain⟨its,rv,p,hz⟩:=I1.tuple hq
 refine wpAny_pyIter_tuple (show s1.heap.IsTuple a its.toArray from p) ?_
 refine⟨s1.heap.objs.size,[s1.heap.objs.size],_,_,H1,rfl,I1.kept (t':=s1.toks) λb o e=>zJ _ e,ZOf a _,⟨_,zA _ rfl,rfl,rfl⟩,λb hb=>?_,q⟩;have e:b=s1.heap.objs.size:=by simpa using hb
 subst e;exact I1.Ii (zK _) (I1.hok.fresh (zK _))
theorem ZKp{σ:St}{H:Hp}{R:It->Hp->Prop}{E:xE->xC->Prop}{lo hi:Int}{t u v:Tok}{tk:Nat}(I:Inv X vE σ H s)(h1: -(2^62)<=lo)(h2:lo<2^62)(h3: -(2^62)<=hi)(h4:hi<2^62)
  (q:R (Itr lo (hi-lo).toNat) H):vq (vJ X.prog X.w) X.A (pyIter (.ref s.heap.objs.size)) (PIE X vE σ tg R) E {s with heap:=s.heap.push {cls:=.type "range",data:=.fields #[.int lo t,.int hi u,.int 1 v]},toks:=tk}:=by
 refine wpAny_pyIter_range (IsRange.new ..) (small_one h1 h2 h3 h4) ?_;have I1:Inv X vE σ H {s with heap:=s.heap.push {cls:=.type "range",data:=.fields #[.int lo t,.int hi u,.int 1 v]},toks:=tk}:=I.kept λb o e=>zJ _ e
 refine⟨(s.heap.push {cls:=.type "range",data:=.fields #[.int lo t,.int hi u,.int 1 v]}).objs.size,[(s.heap.push {cls:=.type "range",data:=.fields #[.int lo t,.int hi u,.int 1 v]}).objs.size],_,_,H,rfl,
  I1.kept (t':=tk) λb o e=>zJ _ e,ZPt _ lo (hi-lo).toNat,?_,λb hb=>?_,q⟩
 ·have e1:lo+((0:Nat):Int)*1=lo:=by simp
  have e2:(((hi-lo).toNat:Nat):Int)-((0:Nat):Int)=Builtin.Range.rangeSize lo hi 1:=by rw[rangeSize_one];split <;> lia
  show IsRangeIter _ _ (lo+((0:Nat):Int)*1) ((((hi-lo).toNat:Nat):Int)-((0:Nat):Int)) 1;rw[e1,e2];exact zA _ rfl
 ·have e:b=(s.heap.push {cls:=.type "range",data:=.fields #[.int lo t,.int hi u,.int 1 v]}).objs.size:=by simpa using hb
  subst e;exact I1.Ii (zK _) (I1.hok.fresh (zK _))
def ZRr(ta:TA):TI:=λσ H R=>ta σ H λvs H1=>∃j:Int,vs=[.int j]/\ -(2^62)<=j/\j<2^62/\R (Itr 0 j.toNat) H1
theorem ZTn{a:xk}{ta:TA}{p pos:Pos}(hg:Gl X "range")(hm:X.mg "range"=vG)(ha:PA X [a] ta)(hs:vK [a] X.env=[(vI,eval a X.env)]:=by rfl):PI X tg (.Call (.Name "range" p) [a] [] pos) (ZRr ta):=by
 intro vE s σ H R I h;refine Call_ (Hj I hg hm boot_range (PyProof.Rows.callWith_type1 (thn (ha pos vE s σ H _ I h) λus s1 ⟨vs,H1,I1,r1,q1⟩=>?_) hs rfl));obtain⟨j,e,q1,q2,q⟩:=q1;subst e;cases r1 with
 |cons r rr=>
  cases rr;obtain⟨t,rfl⟩:=r;exact call_range_1 (ZKp I1 (by lia) (by lia) q1 q2 (by simpa using q))
def tFor(wi:TI)(g:TG)(tb:TS):TS:=λD σ H=>wi σ H λJ H1=>∃W:Nat->Nat->St->Hp->Prop,(∃m,W 0 m σ H1)/\∀i m σ H,W i m σ H->
 (J.stop i H/\D.nx σ H)∨(J.go i H/\∃N:St->Hp->Prop,(∀σ' H',N σ' H'->∃m',m'<m/\W (i+1) m' σ' H')/\∀x H',J.yld i H x H'->g x σ H' λσ2 H2=>tb {D with nx:=N,ct:=N,bk:=D.nx} σ2 H2)
def Mt(fp:List xj)(h:Heap):List (xj×Obj):=fp.filterMap λb=>(h.get? b).map λo=>(b,o)
theorem Ub(hb:b∈fp)(e:h.get? b=vF o):(b,o)∈Mt fp h:=List.mem_filterMap.mpr ⟨b,hb,by rw[e];rfl⟩
theorem ZEK(hp:p∈Mt fp h):p.1∈fp/\h.get? p.1=vF p.2:=by
 obtain⟨b,hb,e⟩:=List.mem_filterMap.mp hp;cases q:h.get? b with
 |none=>rw[q]at e;cases e
 |some o=>
  rw[q]at e;have e':(b,o)=p:=Option.some.inj e;subst e';exact⟨hb,q⟩
theorem Inv.pinned{σ:St}{H:Hp}{fp:List xj}(I:Inv X vE σ H s)(hf:∀b∈fp,FpOk X vE H b)(ho:∀b∈fp,∃o,s.heap.get? b=vF o/\∀v,o.data≠ .cell v):Inv X (vE++Mt fp s.heap) σ H s:=
 I.Jl λp hp=>(jH.mp hp).elim (λz=>I.pin p (qJ _ z)) λz=>by obtain⟨hb,e⟩:=ZEK z;obtain⟨f0,f1,f2,_⟩:=hf p.1 hb;obtain⟨o,e',d⟩:=ho p.1 hb;rw[e]at e';cases e';exact⟨e,f0,f1,f2,d⟩
theorem Inv.unpinned{pl:List (xj×Obj)}{σ:St}{H:Hp}(I:Inv X (vE++pl) σ H s):Inv X vE σ H s:=I.Jl λp hp=>I.pin p (qJ _ (xV _ hp))
theorem ZKM(hp:PassesOwn (vJ X.prog X.w) X.A X.env X.xe)(hc:X.calm=vH)(hi:PI X tg iter wi)(hg:PG X tg g)(hb:PSs X body tb)
  (hs:∀x,foldedSetIterable iter X.env x=pure x:=by intro _;rfl):PS X (.For tg iter body [] pos) (tFor wi g tb):=by
 intro vE s σ H D I h;refine wpAny_For (thn (hi vE s σ H _ I h) λv s1 h1=>thn h1 λitv s2 h2=>?_) hs;obtain⟨it,fp,tn,J,H2,e,I2,T,st2,f2,W,⟨m0,w0⟩,turn⟩:=h2;subst e;have stat:∀{H':Hp},(∀b∈fp,H' b=vG)->∀b∈fp,FpOk X vE H' b:=λhn b hb=>⟨hn b hb,(f2 b hb).2⟩
 refine codeAny_forLoop_any (λn s'=>∃i σ' H',Inv X vE σ' H' s'/\tn i s'.heap/\(∀b∈fp,H' b=vG)/\W i n σ' H') ?_ m0 ⟨0,σ,H2,I2,st2,λb hb=>(f2 b hb).1,w0⟩;rintro n s3 ⟨i,σ3,H3,I3,st3,fr3,w3⟩;rcases turn i n σ3 H3 w3 with⟨stop,qn⟩|⟨go,N,hN,step⟩
 ·refine v7 hp (thn (T.done X rfl rfl rfl hc i vE s3 σ3 H3 X.xe I3 (stat fr3) st3 stop) λr s4 ⟨hr,I4⟩=>?_);subst hr;exact wpAny_execs_nil ⟨σ3,H3,I4,qn⟩
 ·refine v7 hp (thn (T.item X rfl rfl rfl hc i vE s3 σ3 H3 X.xe I3 (stat fr3) st3 go) λr s4 ⟨u,hr,h4⟩=>?_);subst hr;refine v7 hp (thn h4 λ_ s5 ⟨x,H5,I5,r5,y5,st5,fr5⟩=>?_);have I5':=I5.pinned (stat fr5) (T.obj _ _ st5);refine v7 hp (thn (hg _ s5 σ3 H5 x u _ I5' r5 (step x H5 y5)) λ_ s6 ⟨σ6,H6,I6,q6⟩=>?_);refine v7 hp (thn (hb _ s6 σ6 H6 _ I6 q6) λf s7 q7=>?_)
  have again:∀{σ7:St}{H7:Hp},Inv X (vE++Mt fp s5.heap) σ7 H7 s7->N σ7 H7->∃m,m<n/\∃i σ' H',Inv X vE σ' H' s7/\tn i s7.heap/\(∀b∈fp,H' b=vG)/\W i m σ' H':=λ{σ7 H7}I7 n7=>by obtain⟨m',hm,w7⟩:=hN σ7 H7 n7;refine⟨m',hm,i+1,σ7,H7,I7.unpinned,T.keep _ _ _ st5 λb hb o e=>(I7.pin (b,o) (qJ _ (qJ _ (Ub hb e)))).1,λb hb=>?_,w7⟩;obtain⟨o,e,d⟩:=T.obj _ _ st5 b hb;exact(I7.pin (b,o) (qJ _ (qJ _ (Ub hb e)))).2.1
  cases f with
  |next=>obtain⟨σ7,H7,I7,n7⟩:=q7;exact again I7 n7
  |cont=>obtain⟨σ7,H7,I7,n7⟩:=q7;exact again I7 n7
  |brk=>obtain⟨σ7,H7,I7,q7⟩:=q7;exact⟨σ7,H7,I7.unpinned,q7⟩
  |ret v=>obtain⟨x7,σ7,H7,I7,r7,q7⟩:=q7;exact⟨x7,σ7,H7,I7.unpinned,r7,q7⟩
end
abbrev R2:=V->V->Hp->VK->Prop
def OpR(X:Cx)(f:xE->xE->Sem xE)(r:R2):Prop:=
 ∀(vE:List (xj×Obj))(s:xC)(σ:St)(H:Hp)(x y:V)(v u:xE)(Q:VK),Inv X vE σ H s->RelV x v->RelV y u->r x y H Q->
  vq (vJ X.prog X.w) X.A (f v u) (EP X vE σ Q) X.xe s
def UnR(X:Cx)(f:xE->Sem xE)(r:V->Hp->VK->Prop):Prop:=
 ∀(vE:List (xj×Obj))(s:xC)(σ:St)(H:Hp)(x:V)(v:xE)(Q:VK),Inv X vE σ H s->RelV x v->r x H Q->
  vq (vJ X.prog X.w) X.A (f v) (EP X vE σ Q) X.xe s
def CallR(X:Cx)(f:xE)(r:List V->Hp->VK->Prop):Prop:=
 ∀(vE:List (xj×Obj))(s:xC)(σ:St)(H:Hp)(xs:List V)(us:List xE)(Q:VK),Inv X vE σ H s->Vals xs us->r xs H Q->
  vq (vJ X.prog X.w) X.A (call f us) (EP X vE σ Q) X.xe s
def tOp(r:R2)(ta tb:TE):TE:=λσ H Q=>ta σ H λx H1=>tb σ H1 λy H2=>r x y H2 Q
def tUn(r:V->Hp->VK->Prop)(ta:TE):TE:=λσ H Q=>ta σ H λx H1=>r x H1 Q
def rI(C:Int->Int->Prop)(g:Int->Int->V):R2:=λx y H Q=>∃i j,x=.int i/\y=.int j/\C i j/\Q (g i j) H
def rI0(g:Int->Int->V):R2:=λx y H Q=>∃i j,x=.int i/\y=.int j/\Q (g i j) H
def rU(g:Int->V):V->Hp->VK->Prop:=λx H Q=>∃i,x=.int i/\Q (g i) H
section
variable{X:Cx}{a b c:xk}{ta tb tc:TE}{pos:Pos}
theorem Xl(ha:PE X a ta)(hb:PE X b tb){σ:St}{H:Hp}{R:V->V->Hp->Prop}(I:Inv X vE σ H s)
  (h:ta σ H λx H1=>tb σ H1 λy H2=>R x y H2) {Q:xE->xC->Prop} {f:xE->xE->Sem xE}
  (hf:∀v u s2 x y H2,Inv X vE σ H2 s2->RelV x v->RelV y u->R x y H2->vq (vJ X.prog X.w) X.A (f v u) Q X.xe s2):
  vq (vJ X.prog X.w) X.A (eval a X.env) (λv s₁=>vq (vJ X.prog X.w) X.A (eval b X.env) (λu s₂=>vq (vJ X.prog X.w) X.A (f v u) Q X.xe s₂) X.xe s₁) X.xe s:=by
 refine thn (ha vE s σ H _ I h) λv s1 ⟨x,H1,I1,r1,q1⟩=>?_
 refine thn (hb vE s1 σ H1 _ I1 q1) λu s2 ⟨y,H2,I2,r2,q2⟩=>?_
 exact hf v u s2 x y H2 I2 r1 r2 q2
theorem ZMV{op:Operator}{r:R2}(ho:OpR X (xN op) r)(ha:PE X a ta)(hb:PE X b tb):PE X (.BinOp a op b pos) (tOp r ta tb):=by intro vE s σ H Q I h;exact wpAny_BinOp (Xl ha hb I h λv u s2 x y H2 I2 rx ry q=>ho vE s2 σ H2 x y v u Q I2 rx ry q)
theorem ZNj(ho:UnR X (unaryOp op) r)(ha:PE X a ta):PE X (.UnaryOp op a pos) (tUn r ta):=by intro vE s σ H Q I h;exact UnaryOp_ (thn (ha vE s σ H _ I h) λv s1 ⟨x,H1,I1,r1,q1⟩=>ho vE s1 σ H1 x v Q I1 r1 q1)
theorem opI{f:xE->xE->Sem xE}{C:Int->Int->Prop}{g:Int->Int->Int}
  (rule:∀(i j:Int)(t u:Tok)(s:xC)(Q:xE->xC->Prop)(E:xE->xC->Prop),C i j->Q (.int (g i j) s.toks) {s with toks:=s.toks+1}->vq (vJ X.prog X.w) X.A (f (.int i t) (.int j u)) Q E s):
  OpR X f (rI C λi j=>.int (g i j)):=by
 intro vE s σ H x y v u Q I rx ry h;obtain⟨i,j,rfl,rfl,hc,q⟩:=h;obtain⟨t,rfl⟩:=rx;obtain⟨t',rfl⟩:=ry;exact rule i j t t' s _ _ hc ⟨.int (g i j),H,I.tok _,⟨_,rfl⟩,q⟩
theorem opI0{f:xE->xE->Sem xE}{g:Int->Int->Int}
  (rule:∀(i j:Int)(t u:Tok)(s:xC)(Q:xE->xC->Prop)(E:xE->xC->Prop),Q (.int (g i j) s.toks) {s with toks:=s.toks+1}->vq (vJ X.prog X.w) X.A (f (.int i t) (.int j u)) Q E s):
  OpR X f (rI0 λi j=>.int (g i j)):=by
 intro vE s σ H x y v u Q I rx ry h;obtain⟨i,j,rfl,rfl,q⟩:=h;obtain⟨t,rfl⟩:=rx;obtain⟨t',rfl⟩:=ry;exact rule i j t t' s _ _ ⟨.int (g i j),H,I.tok _,⟨_,rfl⟩,q⟩
theorem Vl{f:xE->xE->Sem xE}{g:Int->Int->Bool}
  (rule:∀(i j:Int)(t u:Tok)(s:xC)(Q:xE->xC->Prop)(E:xE->xC->Prop),Q (.bool (g i j)) s->vq (vJ X.prog X.w) X.A (f (.int i t) (.int j u)) Q E s):
  OpR X f (rI0 λi j=>.bl (g i j)):=by
 intro vE s σ H x y v u Q I rx ry h;obtain⟨i,j,rfl,rfl,q⟩:=h;obtain⟨t,rfl⟩:=rx;obtain⟨t',rfl⟩:=ry;exact rule i j t t' s _ _ ⟨.bl (g i j),H,I,rfl,q⟩
def CPow(i j:Int):Prop:=0<=j/\j<=1000000/\i.natAbs<2^64
def CMul(i j:Int):Prop:=(-(2^64)<i/\i<2^64)∨(-(2^64)<j/\j<2^64)
theorem CMul.ok(h:CMul i j):IntMulOk i j:=by
 rcases h with⟨h1,h2⟩|⟨h1,h2⟩
 ·exact .of_left (intBits_le_64 h1 h2)
 ·exact .of_right (intBits_le_64 h1 h2)
theorem ZR8:OpR X (xN .Add) (rI0 λi j=>.int (i+j)):=opI0 λ_ _ _ _ _ _ _ q=>add_int q
theorem ZP4:OpR X (xN .Sub) (rI0 λi j=>.int (i-j)):=opI0 λ_ _ _ _ _ _ _ q=>sub_int q
theorem ZK4:OpR X (xN .Mod) (rI (λ_ j=>0<j) λi j=>.int (i%j)):=opI λi j _ _ _ _ _ hc q=>by have h1:(0:Int)<j:=hc;exact mod_int' (by lia) (by rw[Int.fmod_eq_emod_of_nonneg i (by lia)];exact q)
theorem ZKn:OpR X (xN .Pow) (rI CPow λi j=>.int (i^j.toNat)):=opI λ_ _ _ _ _ _ _ hc q=>pow_int_small hc.1 hc.2.1 hc.2.2 q
theorem unI{f:xE->Sem xE}{g:Int->Int}
  (rule:∀(i:Int)(t:Tok)(s:xC)(Q:xE->xC->Prop)(E:xE->xC->Prop),Q (.int (g i) s.toks) {s with toks:=s.toks+1}->vq (vJ X.prog X.w) X.A (f (.int i t)) Q E s):
  UnR X f (rU λi=>.int (g i)):=by
 intro vE s σ H x v Q I rx h;obtain⟨i,rfl,q⟩:=h;obtain⟨t,rfl⟩:=rx;exact rule i t s _ _ ⟨.int (g i),H,I.tok _,⟨_,rfl⟩,q⟩
theorem ZPv:UnR X (unaryOp .USub) (rU λi=>.int (-i)):=unI λ_ _ _ _ _ q=>neg_int q
end
section
variable{X:Cx}{a b c:xk}{ta tb tc:TE}{pos:Pos}
theorem Qk{σ:St}{H:Hp}{Q:VK}{k k':Bool}(I:Inv X vE σ H s)(q:Q (.bl k) H)(e:k=k'):EP X vE σ Q (.bool k') s:=by subst e;exact⟨.bl k,H,I,rfl,q⟩
theorem ZTC:OpR X (xS .Lt) (rI0 λi j=>.bl (decide (i<j))):=Vl λ_ _ _ _ _ _ _ q=>lt_int q
theorem ZUf:OpR X (xS .LtE) (rI0 λi j=>.bl (decide (i<=j))):=Vl λ_ _ _ _ _ _ _ q=>le_int q
theorem ZSK:OpR X (xS .Gt) (rI0 λi j=>.bl (decide (j<i))):=Vl λ_ _ _ _ _ _ _ q=>gt_int q
theorem ZN8:OpR X (xS .GtE) (rI0 λi j=>.bl (decide (j<=i))):=Vl λ_ _ _ _ _ _ _ q=>ge_int q
theorem ZNm:OpR X (xS .Lt) (λx y H Q=>∃i j,x=.str i/\y=.str j/\Q (.bl (decide (i.cps.toList<j.cps.toList))) H):=by intro vE s σ H x y v u Q I rx ry h;obtain⟨i,j,rfl,rfl,q⟩:=h;obtain⟨t,rfl⟩:=rx;obtain⟨t',rfl⟩:=ry;exact lt_str (Qk I q rfl)
theorem ZK0:OpR X (xS .Is) (λx y H Q=>y=.non/\Q (.bl (decide (x=.non))) H):=by
 intro vE s σ H x y v u Q I rx ry h;obtain⟨rfl,q⟩:=h;cases ry;refine is_none_gen (Qk I q ?_)
 cases x<;>first
  |(cases rx;rfl)
  |(obtain⟨t,rfl⟩:=rx;rfl)
theorem ZM0:OpR X (xS .IsNot) (λx y H Q=>y=.non/\Q (.bl (!decide (x=.non))) H):=by
 intro vE s σ H x y v u Q I rx ry h;obtain⟨rfl,q⟩:=h;cases ry;refine isnot_none_gen (Qk I q ?_)
 cases x<;>first
  |(cases rx;rfl)
  |(obtain⟨t,rfl⟩:=rx;rfl)
theorem ZQF:OpR X (xS .NotIn) (λx y H Q=>∃i j,x=.str i/\y=.str j/\Q (.bl (!(!(Builtin.Str.occurrences j i 0 j.length 1).isEmpty))) H):=by intro vE s σ H x y v u Q I rx ry h;obtain⟨i,j,rfl,rfl,q⟩:=h;obtain⟨t,rfl⟩:=rx;obtain⟨t',rfl⟩:=ry;exact notIn_str (Qk I q rfl)
theorem OpR.or(h:OpR X f r)(h':OpR X f r'):OpR X f (λx y H Q=>r x y H Q∨r' x y H Q):=by
 intro vE s σ H x y v u Q I rx ry q;rcases q with q|q
 ·exact h vE s σ H x y v u Q I rx ry q
 ·exact h' vE s σ H x y v u Q I rx ry q
theorem nomark(b:xk)(h:op≠ .In:=by decide)(h2:op≠ .NotIn:=by decide):xM op b=vI:=by
 have e1:(op==CmpOp.In)=vI:=by cases op<;>first|rfl|exact absurd rfl h
 have e2:(op==CmpOp.NotIn)=vI:=by cases op<;>first|rfl|exact absurd rfl h2
 cases b<;>simp[xM,e1,e2]
theorem ZSv{op:CmpOp}{r:R2}(ho:OpR X (xS op) r)(ha:PE X a ta)(hb:PE X b tb)(hm:xM op b=vI):PE X (.Compare a [op] [b] pos) (tOp r ta tb):=by intro vE s σ H Q I h;exact wpAny_Compare1 (Xl ha hb I h λv u s2 x y H2 I2 rx ry q=>ho vE s2 σ H2 x y v u Q I2 rx ry q) hm
def Q0(t:TE):TT:=λσ H Q=>t σ H λx H'=>∃k,x=.bl k/\Q k H'
theorem ZGO(ho:OpR X (xS op) r)(ha:PE X a ta)(hb:PE X b tb)(hm:xM op b=vI):PT X (.Compare a [op] [b] pos) (Q0 (tOp r ta tb)):=by
 intro vE s σ H Q I h;refine wpAny_isTrue_Compare1 (thn (ha vE s σ H _ I h) λv s1 ⟨x,H1,I1,r1,q1⟩=>thn (hb vE s1 σ H1 _ I1 q1) λu s2 ⟨y,H2,I2,r2,q2⟩=>
  thn (ho vE s2 σ H2 x y v u _ I2 r1 r2 q2) λc s3 ⟨z,H3,I3,r3,k,e,q3⟩=>?_) hm
 subst e;cases r3;exact vA ⟨H3,I3,q3⟩
def ZH7(r r':R2)(ta tb tc:TE):TE:=λσ H Q=>ta σ H λx H1=>tb σ H1 λy H2=>r x y H2 λz H3=>∃k,z=.bl k/\
 (if k=vH then tc σ H3 λw' H4=>r' y w' H4 Q else Q (.bl vI) H3)
theorem ZRs(ho:OpR X (xS op) r)(ho':OpR X (xS op') r')(ha:PE X a ta)(hb:PE X b tb)(hc:PE X c tc)
  (hm:lastMarks [op,op'] [b,c]=vI:=by with_unfolding_all rfl):PT X (.Compare a [op,op'] [b,c] pos) (Q0 (ZH7 r r' ta tb tc)):=by
 intro vE s σ H Q I h;refine isTrue_chain (thn (ha vE s σ H _ I h) λv s1 ⟨x,H1,I1,r1,q1⟩=>test_link (thn (hb vE s1 σ H1 _ I1 q1) λu s2 ⟨y,H2,I2,r2,q2⟩=>
  thn (ho vE s2 σ H2 x y v u _ I2 r1 r2 q2) λd s3 ⟨z,H3,I3,r3,k,e,q3⟩=>?_)) hm
 subst e;cases r3;refine vA ?_;cases k with
 |false=>
  obtain⟨k',e',q'⟩:=q3;cases e';exact ite_ff ⟨H3,I3,q'⟩
 |true=>
  refine ite_tt (test_last (thn (hc vE s3 σ H3 _ I3 q3) λw' s4 ⟨z',H4,I4,r4,q4⟩=>thn (ho' vE s4 σ H4 y z' u w' _ I4 r2 r4 q4) λd' s5 ⟨z2,H5,I5,r5,k2,e2,q5⟩=>?_));subst e2;cases r5;exact vA ⟨H5,I5,q5⟩
theorem line63:(sizeLine:Nat)<2^63:=by rw[vV];decide
theorem ZKP:OpR X (xN .Add) (λx y H Q=>∃i j,x=.str i/\y=.str j/\i.length+j.length<=sizeLine/\Q (.str (i++j)) H):=by intro vE s σ H x y v u Q I rx ry h;obtain⟨i,j,rfl,rfl,hz,q⟩:=h;obtain⟨t,rfl⟩:=rx;obtain⟨t',rfl⟩:=ry;exact add_str (λt' tk=>⟨.str (i++j),H,I.tok _,⟨_,rfl⟩,q⟩) hz
theorem ZOb:OpR X (inplaceOp .Add) (λx y H Q=>∃i j,x=.str i/\y=.str j/\i.length+j.length<=sizeLine/\Q (.str (i++j)) H):=by intro vE s σ H x y v u Q I rx ry h;obtain⟨i,j,rfl,rfl,hz,q⟩:=h;obtain⟨t,rfl⟩:=rx;obtain⟨t',rfl⟩:=ry;exact iadd_str (λt' tk=>⟨.str (i++j),H,I.tok _,⟨_,rfl⟩,q⟩) hz
theorem vals1(r:Vals [x] us):∃u,us=[u]/\RelV x u:=by
 cases r with
 |cons r1 r2=>cases r2;exact⟨_,rfl,r1⟩
theorem vals2(r:Vals [x,y] us):∃u w',us=[u,w']/\RelV x u/\RelV y w':=by
 cases r with
 |cons r1 r2=>
  cases r2 with
  |cons r3 r4=>cases r4;exact⟨_,_,rfl,r1,r3⟩
theorem ZKK(hc:X.calm=vH):CallR X (.builtin "max") (λxs H Q=>∃i j,xs=[.int i,.int j]/\Q (.int (if j>i then j else i)) H):=by
 intro vE s σ H xs us Q I r h;obtain⟨i,j,rfl,q⟩:=h;obtain⟨u,w',rfl,⟨t,rfl⟩,⟨t',rfl⟩⟩:=vals2 r;refine max_two_ints (I.ok.hd hc) λh' tk k=>⟨_,H,I.kept k,?_,q⟩
 by_cases hj:j>i
 ·rw[if_pos hj,if_pos hj];exact⟨_,rfl⟩
 ·rw[if_neg hj,if_neg hj];exact⟨_,rfl⟩
theorem ZLr(hc:X.calm=vH):CallR X (.builtin "min") (λxs H Q=>∃i j,xs=[.int i,.int j]/\Q (.int (if j<i then j else i)) H):=by
 intro vE s σ H xs us Q I r h;obtain⟨i,j,rfl,q⟩:=h;obtain⟨u,w',rfl,⟨t,rfl⟩,⟨t',rfl⟩⟩:=vals2 r;refine min_two_ints (I.ok.hd hc) λh' tk k=>⟨_,H,I.kept k,?_,q⟩
 by_cases hj:j<i
 ·rw[if_pos hj,if_pos hj];exact⟨_,rfl⟩
 ·rw[if_neg hj,if_neg hj];exact⟨_,rfl⟩
end
structure ObjM (h:Heap) (x dx C:xj) (mA:Str->Option xE):Prop where
 obj:h.get? x=vF (PySem.W.instObj C dx)
 ns:h.Ns1 dx mA
 ne:dx≠x
theorem ZOW{h:Heap}{dx:xj}{mA:Str->Option xE}(n:h.Ns1 dx mA):∃od,h.get? dx=vF od/\∀name,PySem.W.lookIn name od=vF (mA name):=by
 obtain⟨o,es,ep,ho,hd,hk,_,hm⟩:=n;refine⟨o,ho,λname=>?_⟩;have e:=hm name;unfold nsFind findBy at e;rw[<-Array.find?_toList]at e;unfold PySem.W.lookIn;rw[hd];dsimp only;split
 ·rename_i y q;rw[q]at e;exact congrArg vF e
 ·rename_i q;rw[q]at e
  have a:es.toList.any (·.refKey)=vI:=by rw[List.any_eq_false];intro y hy;obtain⟨z,t,hkey⟩:=hk y (Array.mem_toList_iff.mp hy);simp[DictEntry.refKey,hkey]
  have a':¬es.toList.any (·.refKey)=vH:=by rw[a];exact zy
  rw[if_neg a'];exact congrArg vF e
theorem ObjM.look(I:ObjM h x dx C mA):∃od,PySem.W.InstAt h x (PySem.W.instObj C dx) C (vF od)/\∀name,PySem.W.lookIn name od=vF (mA name):=
 let⟨od,ho,hl⟩:=ZOW I.ns
 ⟨od,⟨I.obj,rfl,rfl,ho⟩,hl⟩
section
variable{prog:xA}{w:xF}{A:xw}{E:xE->xC->Prop}{s:xC}{K:PySem.W.Frag}{x dx C f:xj}{mA:Str->Option xE}{name:Str}{v:xE}
theorem ZL7(X:K.In s.heap)(I:ObjM s.heap x dx C mA)(hg:PySem.W.plainGet K C name=vH)(hh:PySem.W.hasDictIn K C=vH)
  (ha:PySem.W.findIn K (.ref C) name=vF vG) (hv:mA name=vF v) (hv':PySem.W.handedIn v=vH) (h:Q v {s with toks:=s.toks+1}):
  vq (vJ prog w) A (getAttr (.ref x) name expr) Q E s:=by
 obtain⟨od,J,hl⟩:=I.look;exact PySem.W.get_value X J (PySem.W.plainGet_of hg).1 (PySem.W.findObj_own hh ha rfl (by rw[hl,hv])) hv' h
theorem ZQw(X:K.In s.heap)(I:ObjM s.heap x dx C mA)(hg:PySem.W.plainGet K C name=vH)
  (hf:PySem.W.findIn K (.ref C) name=vF (vF (.ref f))) (ht:PySem.W.isFn K (.ref f)=vH) (hv:mA name=vG) (h:Q (.ref f,[.ref x]) s):
  vq (vJ prog w) A (getMethod (.ref x) name pl) Q E s:=by
 obtain⟨od,J,hl⟩:=I.look
 exact PySem.W.method_fn X J (PySem.W.plainGet_of hg).1 (PySem.W.plainGet_of hg).2 hf (beq_iff_eq.mp ht) (by show(PySem.W.lookIn name od).map (·.isSome)=vF vI;rw[hl,hv];rfl) h
theorem ZUZ(X:K.In s.heap)(I:ObjM s.heap x dx C mA)
  (hs:PySem.W.findIn K (.ref C) "__setattr__"=vF (vF (.builtin "object.__setattr__"))) (hp:PySem.W.plainOver K C=vH) (ht:PySem.W.takerIn K C name=vF vG) (hh:PySem.W.hasDictIn K C=vH)
  (hw:PySem.Within mA ns) (hsz:ns.length<=sizeLine)
  (h:∀h',ObjM h' x dx C (λy=>if y=name then vF v else mA y)->qC dx s.heap h'->Q () {s with heap:=h',toks:=s.toks+2}):
  vq (vJ prog w) A (setAttr (.ref x) name v) Q E s:=by
 obtain⟨od,J,hl⟩:=I.look;refine PySem.W.set_plain X J hs (PySem.W.osa_open (s:={s with toks:=s.toks+1}) (r:=vG) X J hp ht λb=>?_);obtain⟨cd,hc,hd'⟩:=PySem.W.any_some hh;have hx:s.heap.get? x=vF ⟨.ref C,vF dx,.plain,#[]⟩:=I.obj;refine vj (v8 (vj (vj (wpAny_loadPart hx (vj (PySem.W.Looks.here (s:={s with toks:=s.toks+1}) (PySem.W.looks_clsIn X hc) ?_))))))
 rw[hd'];refine v8 (a:=vF dx) (vj (v8 (vj ?_)));refine wpAny_nsSet1 (s:={s with toks:=s.toks+1}) I.ns λh' hn2 hs2=>?_
 obtain⟨oD,esD,epD,hoD,hdD,hcD⟩:=hn2.count (PySem.Within.cons name v hw);refine vj (wpAny_lookBehind hoD (by rw[hdD];exact pastItsLine_dict (zC hcD (by rw[qQ];lia))) ?_);exact v8 (h _ ⟨(hs2.2 _ (Ne.symm I.ne)).trans I.obj,hn2,I.ne⟩ hs2)
theorem ZLe(X:K.In s.heap)(hm:PySem.W.makesIn K C=vH)
  (hi:PySem.W.findIn K (.ref C) "__init__"=vF (vF (.ref f))) (hf:PySem.W.typeIn K (.ref f)=vF (.type "function"))
  (h:codeAny (vJ prog w) (A.under (.builtin "type.__call__" ⟨.ref C::vs,kw⟩)) (.call (.ref f) ⟨.ref (s.heap.objs.size+1)::vs,kw⟩) (PySem.W.InitBack (s.heap.objs.size+1) R)
   {s with heap:=(s.heap.push PySem.W.emptyDict).push (PySem.W.instObj C s.heap.objs.size)}):
  codeAny (vJ prog w) A (.call (.ref C) ⟨vs,kw⟩) R s:=by
 obtain⟨hh,g,d,t,os⟩:=s;exact PySem.W.make_core (PySem.W.makes_of X hm) (PySem.W.looks_findIn X hi) (λself=>PySem.W.bind_fn X self hf) (.inl rfl) h
end
def El(f:Str)(v:V):List (Str×V)->List (Str×V)
 |[]=>[(f,v)]
 |(g,x)::r=>if g=f then(g,v)::r else(g,x)::El f v r
theorem ZIJ(f g:Str)(v:V):∀fs:List (Str×V),(El f v fs).lookup g=if g=f then vF v else fs.lookup g
 |[]=>by
  show jq g [(f,v)]=_;by_cases h:g=f
  ·have hb:(g==f)=vH:=beq_iff_eq.mpr h;simp only[jq,hb,if_pos h]
  ·have hb:(g==f)=vI:=beq_eq_false_iff_ne.mpr h;simp only[jq,hb,if_neg h]
 | (k,x)::r=>by
  have ih:=ZIJ f g v r
  rw[show El f v ((k,x)::r)=(if k=f then(k,v)::r else(k,x)::El f v r)from rfl]
  by_cases hk:k=f
  ·rw[if_pos hk];by_cases h:g=k
   ·have hb:(g==k)=vH:=beq_iff_eq.mpr h;simp only[jq,hb,if_pos (h.trans hk)]
   ·have hb:(g==k)=vI:=beq_eq_false_iff_ne.mpr h;simp only[jq,hb,if_neg (λe:g=f=>h (e.trans hk.symm))]
  ·rw[if_neg hk];by_cases h:g=k
   ·have hb:(g==k)=vH:=beq_iff_eq.mpr h;simp only[jq,hb,if_neg (λe:g=f=>hk (h.symm.trans e))]
   ·have hb:(g==k)=vI:=beq_eq_false_iff_ne.mpr h;simp only[jq,hb];exact ih
theorem ZCN(f:Str)(v:V):∀fs:List (Str×V),f∈(El f v fs).map (·.1)/\∀g,g∈fs.map (·.1)->g∈(El f v fs).map (·.1)
 |[]=>⟨by simp[El],λg h=>by simp at h⟩
 | (k,x)::r=>by
  obtain⟨i1,i2⟩:=ZCN f v r
  rw[show El f v ((k,x)::r)=(if k=f then(k,v)::r else(k,x)::El f v r)from rfl]
  by_cases hk:k=f
  ·rw[if_pos hk];subst hk;exact⟨by simp,λg h=>by simpa using h⟩
  ·rw[if_neg hk];refine⟨?_,λg h=>?_⟩
   ·rw[zk];exact zZ _ i1
   ·rw[zk]at h⊢;rcases zq.mp h with e|e
    ·exact zq.mpr (.inl e)
    ·exact zZ _ (i2 g e)
theorem ZDF(f:Str)(v:V):∀fs:List (Str×V),(El f v fs).length<=fs.length+1
 |[]=>by simp[El]
 |(k,x)::r=>by
  have ih:=ZDF f v r
  rw[show El f v ((k,x)::r)=(if k=f then(k,v)::r else(k,x)::El f v r)from rfl]
  by_cases hk:k=f
  ·rw[if_pos hk,qQ,qQ];lia
  ·rw[if_neg hk,qQ,qQ];lia
theorem RelO.some_of(r:RelO (vF v) o):∃u,o=vF u/\RelV v u:=by
 cases o with
 |none=>exact(show False from r).elim
 |some u=>exact⟨u,rfl,r⟩
theorem RelO.none_of(r:RelO vG o):o=vG:=by
 cases o with
 |none=>rfl
 |some u=>exact(show False from r).elim
theorem ZTy(r:RelV v u):PySem.W.handedIn u=vH:=by
 cases v with
 |non=>cases(show u=Value.none from r);rfl
 |bl b=>cases(show u=Value.bool b from r);rfl
 |int i=>obtain⟨t,e⟩:=(show∃t,u=Value.int i t from r);cases e;rfl
 |str x=>obtain⟨t,e⟩:=(show∃t,u=Value.str x t from r);cases e;rfl
 |byt b=>obtain⟨t,e⟩:=(show∃t,u=Value.bytes b t from r);cases e;rfl
 |flt b=>obtain⟨t,e⟩:=(show∃t,u=Value.float b t from r);cases e;rfl
 |ref a=>cases(show u=Value.ref a from r);rfl
 |ty n=>cases(show u=Value.type n from r);rfl
section
variable{P:xA}{w:xF}{H H':Hp}{h h':Heap}{a C dx:xj}{fs fs':List (Str×V)}
theorem Yh(hok:HOk P w H h)(e:H a=vF (.ins C dx fs)):∃mA,ObjM h a dx C mA/\(∀f,RelO (fs.lookup f) (mA f))/\PySem.Within mA (fs.map (·.1))/\fs.length<=1000/\H dx=vF (.own a):=by
 obtain⟨d,z,ne,ob,mA,n,r,q⟩:=(show ObjOk P w H h a (.ins C dx fs)from hok a _ e)
 exact⟨mA,⟨ob,n,ne⟩,r,q,z,d⟩
end
structure Cls (K:PySem.W.Frag) (C:xj):Prop where
 pg:PySem.W.plainGet K C Str.empty=vH
 hd:PySem.W.hasDictIn K C=vH
 po:PySem.W.plainOver K C=vH
 sa:PySem.W.findIn K (.ref C) "__setattr__"=vF (vF (.builtin "object.__setattr__"))
theorem Cls.get{C:xj}(c:Cls K C)(f:Str):PySem.W.plainGet K C f=vH:=c.pg
def NoAttr(K:PySem.W.Frag)(C:xj)(f:Str):Prop:=PySem.W.findIn K (.ref C) f=vF vG
theorem NoAttr.taker{C:xj}{f:Str}(n:NoAttr K C f):PySem.W.takerIn K C f=vF vG:=by
 unfold PySem.W.takerIn
 rw[show PySem.W.findIn K (.ref C) f=vF vG from n]
 rfl
structure Meth (K:PySem.W.Frag) (C:xj) (m:Str) (f:xj):Prop where
 at_:PySem.W.findIn K (.ref C) m=vF (vF (.ref f))
 fn:PySem.W.isFn K (.ref f)=vH
 kp:PySem.W.keepIn K (.ref f)=vH
section
variable{X:Cx}{vE:List (xj×Obj)}{σ:St}{H:Hp}{s:xC}{a C dx:xj}{fs:List (Str×V)}{f:Str}{v:V}{A:xw}{E:xE->xC->Prop}
theorem ZM4(I:Inv X vE σ H s)(e:H a=vF (.ins C dx fs))(c:Cls X.K C)(n:NoAttr X.K C f)(l:fs.lookup f=vF v)
  (h:∀u s',Inv X vE σ H s'->RelV v u->Q u s'):vq (vJ X.prog X.w) A (getAttr (.ref a) f b) Q E s:=by
 obtain⟨mA,O,r,_,_,_⟩:=Yh I.hok e;obtain⟨u,hu,ru⟩:=RelO.some_of (v:=v) (o:=mA f) (by rw[<-l];exact r f);exact ZL7 I.kIn O (c.get f) c.hd n hu (ZTy ru) (h u _ (I.tok _) ru)
theorem ZFO(I:Inv X vE σ H s)(e:H a=vF (.ins C dx fs))(c:Cls X.K C)(k:Meth X.K C m g)(l:fs.lookup m=vG)
  (h:Q (.ref g,[.ref a]) s):vq (vJ X.prog X.w) A (getMethod (.ref a) m pl) Q E s:=by
 obtain⟨mA,O,r,_,_,_⟩:=Yh I.hok e;have hn:mA m=vG:=RelO.none_of (by rw[<-l];exact r m);exact ZQw I.kIn O (c.get m) k.at_ k.fn hn h
theorem ZLa(I:Inv X vE σ H s)(e:H a=vF (.ins C dx fs))(c:Cls X.K C)(n:NoAttr X.K C f)(hl:fs.length<1000)(ry:RelV y u)
  (h:∀s',Inv X vE σ (upd H a (.ins C dx (El f y fs))) s'->Q () s'):vq (vJ X.prog X.w) A (setAttr (.ref a) f u) Q E s:=by
 obtain⟨mA,O,r,wi,_,ho⟩:=Yh I.hok e
 have hz:(fs.map (·.1)).length<=sizeLine:=by rw[qq,vV];lia
 refine ZUZ I.kIn O c.sa c.po n.taker c.hd wi hz λh' O' sb=>h _ ?_
 have hd:∃o,h'.get? dx=vF o:=let⟨o,_,_,e',_⟩:=O'.ns;⟨o,e'⟩;refine I.write (x:=a) (e:=dx) (by rw[e];exact True.intro) (.inr ho) (λb q hb z=>(sb.2 b hb).trans z) hd ?_;refine⟨by rw[Al O.ne];exact ho,?_,O.ne,O'.obj,_,O'.ns,λg=>?_,λg hg=>?_⟩
 ·have:=ZDF f y fs;lia
 ·show RelO ((El f y fs).lookup g) (if g=f then vF u else mA g);rw[ZIJ];by_cases q:g=f
  ·rw[if_pos q,if_pos q];exact ry
  ·rw[if_neg q,if_neg q];exact r g
 ·by_cases q:g=f
  ·rw[q];exact(ZCN f y fs).1
  ·refine(ZCN f y fs).2 g (wi g λz=>hg ?_);show(if g=f then vF u else mA g)=vG;rw[if_neg q];exact z
theorem Inv.made(I:Inv X vE σ H s):Inv X vE σ (upd (upd H s.heap.objs.size (.own (s.heap.objs.size+1))) (s.heap.objs.size+1) (.ins C s.heap.objs.size []))
  {s with heap:=(s.heap.push PySem.W.emptyDict).push (PySem.W.instObj C s.heap.objs.size)}:=by
 have e1:(s.heap.push PySem.W.emptyDict).get? s.heap.objs.size=vF PySem.W.emptyDict:=zA s.heap rfl;have e2:((s.heap.push PySem.W.emptyDict).push (PySem.W.instObj C s.heap.objs.size)).get? (s.heap.objs.size+1)=vF (PySem.W.instObj C s.heap.objs.size):=by have:=zA (s.heap.push PySem.W.emptyDict) (o:=PySem.W.instObj C s.heap.objs.size) rfl;rwa[qF]at this
 have e3:(s.heap.push PySem.W.emptyDict).Ns s.heap.objs.size (λ_=>vG):=⟨PySem.W.emptyDict,#[],_,e1,rfl,(λe he=>absurd he (by simp)),λ_=>rfl⟩;have I1:=I.laid (a:=s.heap.objs.size) (o:=.own (s.heap.objs.size+1)) (h':=s.heap.push PySem.W.emptyDict) (t':=s.toks) (λb u q=>zJ _ q) (zK _) ⟨_,e1⟩;refine I1.laid (a:=s.heap.objs.size+1) (o:=.ins C s.heap.objs.size []) (t':=s.toks) (λb u q=>zJ _ q) (Nat.le_of_eq (qF _ _)) ?_
 have ne:s.heap.objs.size≠s.heap.objs.size+1:=zG (qY _);refine⟨by rw[Al ne,Ei],jI _,ne,e2,λ_=>vG,(Heap.Ns1.of_empty e3).at λo q=>zJ _ q,λ_=>True.intro,λy hy=>absurd rfl hy⟩
theorem ZKv{f:Str}(hb:xH e f env (eval e env)=eval e env)
  (h:vq (vJ prog w) A (eval e env) (λo s₁=>vq (vJ prog w) A (getAttr o f vH) Q E s₁) E s):vq (vJ prog w) A (eval (.Attribute e f pos) env) Q E s:=
 Attribute_any_ h (by rw[arm_eval_Attribute,hb])
end
def tFld(K:PySem.W.Frag)(ta:TE)(f:Str):TE:=λσ H Q=>ta σ H λx H1=>∃a C dx fs v,x=.ref a/\H1 a=vF (.ins C dx fs)/\Cls K C/\NoAttr K C f/\fs.lookup f=vF v/\Q v H1
def sFld(K:PySem.W.Frag)(ta tv:TE)(f:Str):TS:=λD σ H=>tv σ H λy H1=>ta σ H1 λx H2=>∃a C dx fs,x=.ref a/\H2 a=vF (.ins C dx fs)/\Cls K C/\NoAttr K C f/\fs.length<1000/\
 D.nx σ (upd H2 a (.ins C dx (El f y fs)))
section
variable{X:Cx}{o e value:xk}{f:Str}{pos pos' tpos:Pos}{ta tv:TE}
theorem ZNy(he:PE X e ta)(hb:xH e f X.env (eval e X.env)=eval e X.env):PE X (.Attribute e f pos) (tFld X.K ta f):=by intro vE s σ H Q I h;refine ZKv hb (thn (he vE s σ H _ I h) λu s1 ⟨x,H1,I1,rx,a,C,dx,fs,v,ex,ea,c,n,l,q⟩=>?_);subst ex;obtain rfl:u=Value.ref a:=rx;exact ZM4 I1 ea c n l λu' s2 I2 ru=>⟨v,H1,I2,ru,q⟩
theorem ZOc(ha:PE X o ta)(hv:PE X value tv)(hs:swapsWith value (vF (.Attribute o f pos')) pos.line X.env=pure vI):PS X (.Assign [.Attribute o f pos'] value pos) (sFld X.K ta tv f):=by intro vE s σ H D I h;refine plainObj_wpAny_Assign_Attribute (thn (hv vE s σ H _ I h) λu s1 ⟨y,H1,I1,ry,q⟩=>thn (ha vE s1 σ H1 _ I1 q) λov s2 ⟨x,H2,I2,rx,a,C,dx,fs,ex,ea,c,n,l,q2⟩=>?_) hs;subst ex;obtain rfl:ov=Value.ref a:=rx;exact ZLa I2 ea c n l ry λs3 I3=>⟨σ,_,I3,q2⟩
end
section
variable{X:Cx}{vE:List (xj×Obj)}{σ:St}{H:Hp}{s:xC}{A:xw}{E:xE->xC->Prop}{Q:xE->xC->Prop}{c:xE}{b:Bool}
end
structure Room (k:Nat) (A:xw):Prop where
 hd:A.handled=vG
 dp:A.depth+3*k+5<recursionLimit
 un:A.units+16*k+200<cLine
theorem Room.mono(r:Room k A)(h:j<=k):Room j A:=⟨r.hd,by have:=r.dp;lia,by have:=r.un;lia⟩
theorem Room.deeper(r:Room (k+1) A)(env:Env):Room k (A.deeper env):=
 ⟨r.hd,by have:=r.dp;show A.depth+1+3*k+5<_;lia,by have:=r.un;show A.units+3+16*k+200<_;lia⟩
theorem ZPi{A:xw}{C:xj}{us:List xE}{kw:List (Str×xE)}:(A.under (.builtin "type.__call__" ⟨.ref C::us,kw⟩)).depth=A.depth+1:=by
 first|rfl|simp[Around.under,Code.weight,Code.isCreation,Code.isGuard,Code.isCaller,Code.frames,Code.isFrame,guardIds]
theorem ZNO{A:xw}{C:xj}{us:List xE}{kw:List (Str×xE)}:(A.under (.builtin "type.__call__" ⟨.ref C::us,kw⟩)).units=A.units+1:=by
 first|rfl|simp[Around.under,Code.cUnits,Code.frames,Code.isFrame]
theorem Room.make(r:Room (k+1) A)(C:xj)(us:List xE)(kw:List (Str×xE)):Room k (A.under (.builtin "type.__call__" ⟨.ref C::us,kw⟩)):=
 ⟨r.hd,by have:=r.dp;rw[ZPi];lia,by have:=r.un;rw[ZNO];lia⟩
theorem Room.depth(r:Room k A):A.depth<recursionLimit:=by have:=r.dp;lia
theorem Room.units(r:Room k A):A.units+64<cLine:=by have:=r.un;lia
def Ri:TA:=λ_ H Q=>Q [] H
def ZBO(ta:TE)(tr:TA):TA:=λσ H Q=>ta σ H λx H1=>tr σ H1 λxs H2=>Q (x::xs) H2
section
variable{X:Cx}{e:xk}{es:List xk}{te:TE}{t:TA}{pos:Pos}
theorem ZQZ:PA X [] Ri:=λ_ _ _ _ H Q I h=>Calls.spliced_nil ⟨[],H,I,.nil,h⟩
theorem ZQs(ha:PE X e te)(hr:PA X es t)(hs:vK (e::es) X.env=(vI,eval e X.env)::vK es X.env:=by rfl):PA X (e::es) (ZBO te t):=by intro pos vE s σ H Q I h;rw[hs];show vq _ _ (spliced ((vI,eval e X.env)::xI pos (vK es X.env))) _ _ s;refine Calls.spliced_cons (thn (ha vE s σ H _ I h) λu s1 ⟨x,H1,I1,r1,q1⟩=>?_);exact thn (hr pos vE s1 σ H1 _ I1 q1) λus s2 ⟨xs,H2,I2,r2,q2⟩=>⟨x::xs,H2,I2,.cons r1 r2,q2⟩
def tTup(t:TA):TE:=λσ H Q=>t σ H λxs H1=>xs.length<=sizeLine/\∀p,H1 p=vG->Q (.ref p) (upd H1 p (.tup xs))
def tLst(t:TA):TE:=λσ H Q=>t σ H λxs H1=>xs.length<=sizeLine/\∀p,H1 p=vG->Q (.ref p) (upd H1 p (.lst xs))
theorem ZMj{x1}(h:PA X es t):PE X (.Tuple es x1 pos) (tTup t):=by intro vE s σ H Q I hq;refine wpAny_Tuple_spliced (thn (h pos vE s σ H _ I hq) λus s1 ⟨xs,H1,I1,r,z,q⟩=>⟨by rw[<-r.length];exact z,?_⟩);have hf:H1 s1.heap.objs.size=vG:=I1.hok.fresh (zK _);refine⟨.ref s1.heap.objs.size,upd H1 s1.heap.objs.size (.tup xs),I1.laid (t':=s1.toks) (λb u e=>zJ _ e) (zK _) ?_,rfl,q _ hf⟩;exact⟨z,us,r,⟨_,zA _ rfl,rfl,_,rfl⟩⟩
theorem ZLx(h:PA X es t):PE X (.List es pos) (tLst t):=by intro vE s σ H Q I hq;refine wpAny_List_spliced (thn (h pos vE s σ H _ I hq) λus s1 ⟨xs,H1,I1,r,z,q⟩=>⟨by rw[<-r.length];exact z,?_⟩);have hf:H1 s1.heap.objs.size=vG:=I1.hok.fresh (zK _);refine⟨.ref s1.heap.objs.size,upd H1 s1.heap.objs.size (.lst xs),I1.laid (t':=s1.toks) (λb u e=>zJ _ e) (zK _) ?_,rfl,q _ hf⟩;exact⟨z,us,0,r,zA _ rfl⟩
end
abbrev Sp:=List V->Hp->VK->XK->Prop
abbrev CXT:=List Env->Hp->xC->XK->xE->xC->Prop
structure Env0 (P:xA) (w:xF) (K:PySem.W.Frag) (mg:Str->Option xE) (base:Heap) (A:xw) (outer:List Env) (s:xC) (H:Hp):Prop where
 frames:A.frames=vF outer
 mod:Mod K mg base
 bs:∀b o,base.get? b=vF o->s.heap.get? b=vF o/\H b=vG
 bsz:base.objs.size<=s.heap.objs.size
 funs:s.heap.FunFrames base outer
 frf:∀b∈frs outer,H b=vG
 hok:HOk P w H s.heap
 bare:AllBare s.gens
def CE(outer:List Env)(P:xA)(w:xF)(H:Hp)(s:xC)(Q:VK)(u:xE)(s':xC):Prop:=
 ∃v H',s'.os=s.os/\AllBare s'.gens/\Un (frs outer) [] H H' s.heap s'.heap/\HOk P w H' s'.heap/\RelV v u/\Q v H'
def CR(CX:CXT)(outer:List Env)(P:xA)(w:xF)(H:Hp)(s:xC)(Q:VK)(E:XK)(r:Result)(s':xC):Prop:=
 match r with
 |.ok (.ret u)=>CE outer P w H s Q u s'
 |.ok _=>False
 |.error e=>CX outer H s E e s'
structure FnOk (P:xA) (w:xF) (K:PySem.W.Frag) (mg:Str->Option xE) (base:Heap) (CX:CXT) (k:Nat) (f:xj) (fd:xy) (ps:List Str) (sp:Sp):Prop where
 len:∀vs H Q E,sp vs H Q E->vs.length=ps.length
 run:∀(A:xw)(outer:List Env)(s:xC)(H:Hp)(args:Args)(us:List xE)(vs:List V)(Q:VK)(E:XK),Room k A->Env0 P w K mg base A outer s H->BindsTo s fd args (ps.zip us)->Vals vs us->sp vs H Q E->
  codeAny (vJ P w) A (.call (.ref f) args) (CR CX outer P w H s Q E) s
theorem Env0.make{w:xF}{A:xw}{outer:List Env}{H:Hp}(e:Env0 P w K mg base A outer s H)(C:xj)(us:List xE)(kw:List (Str×xE)):
  Env0 P w K mg base (A.under (.builtin "type.__call__" ⟨.ref C::us,kw⟩)) outer s H:=⟨by first|exact e.frames|(simpa[Around.under,Code.envs,Code.isFrame,pushEnvs]using e.frames),e.mod,e.bs,e.bsz,e.funs,e.frf,e.hok,e.bare⟩
section
variable{X:Cx}{vE:List (xj×Obj)}{σ:St}{H:Hp}{s s':xC}
theorem Inv.env0(I:Inv X vE σ H s):Env0 X.prog X.w X.K X.mg X.base X.A X.stack s H:=
 ⟨I.ok.frames,I.ok.mod,I.bs,zC I.ok.bsz I.sz,I.stack,I.ZIw,I.hok,I.bare⟩
theorem Inv.after(I:Inv X vE σ H s)(h:CE X.stack X.prog X.w H s Q u s'):EP X vE σ Q u s':=by obtain⟨v,H',os,bare,un,hok,r,q⟩:=h;obtain⟨hh,g,d,t,os'⟩:=s';obtain rfl:os'=s.os:=os;exact⟨v,H',I.call (h':=hh) (g':=g) (d':=d) (t':=t) (ch:=[]) un hok bare (λb z=>absurd z (by simp)),r,q⟩
end
def ZLw(sp:Sp)(dvs:List V)(E:XK)(t:TA):TE:=λσ H Q=>t σ H λvs H1=>sp (vs++dvs) H1 Q E
def ZBX(C:xj)(m:Str)(sp:Sp)(dvs:List V)(E:XK)(ta:TE)(t:TA):TE:=λσ H Q=>ta σ H λx H1=>∃a dx fs,x=.ref a/\H1 a=vF (.ins C dx fs)/\fs.lookup m=vG/\
 t σ H1 λvs H2=>sp (x::(vs++dvs)) H2 Q E
def ZOC(C:xj)(sp:Sp)(dvs:List V)(E:XK)(t:TA):TE:=λσ H Q=>t σ H λvs H1=>∀x dx,H1 x=vG->H1 dx=vG->dx≠x->
 sp (.ref x::(vs++dvs)) (upd (upd H1 dx (.own x)) x (.ins C dx [])) (λv H2=>v=.non/\Q (.ref x) H2) E
def Binds(K:PySem.W.Frag)(fd:xy)(ps:List Str)(ds:List xE):Prop:=
 ∀(s:xC)(us:List xE),K.In s.heap->(us++ds).length=ps.length->BindsTo s fd ⟨us,[]⟩ (ps.zip (us++ds))
theorem Binds.all{fd:xy}{ps:List Str}(h:∀us:List xE,us.length=ps.length->bindArgs fd ⟨us,[]⟩=pure (ps.zip us)):Binds K fd ps []:=λs us _ hl=>by rw[j1]at hl⊢;exact .of_eq (h us hl)
def Passes(CX:CXT)(X:Cx)(E:XK):Prop:=∀(vE:List (xj×Obj))(σ:St)(H:Hp)(s:xC)(e:xE)(s':xC),Inv X vE σ H s->CX X.stack H s E e s'->X.xe e s'
section
variable{X:Cx}{CX:CXT}{k:Nat}{f C:xj}{fd:xy}{ps:List Str}{sp:Sp}{dvs:List V}{ds:List xE}{E:XK}{x m:Str}{p pos apos:Pos}{e o:xk}{es:List xk}{ta:TE}{t:TA}
theorem ZBv{σ:St}{H:Hp}{Q:VK}{us:List xE}{vs:List V}(F:FnOk X.prog X.w X.K X.mg X.base CX k f fd ps sp)(hr:Room k X.A)(hb:Binds X.K fd ps ds)(hd:Vals dvs ds)(hx:Passes CX X E)
  (I:Inv X vE σ H s) (r:Vals vs us) (h:sp (vs++dvs) H Q E):vq (vJ X.prog X.w) X.A (call (.ref f) us) (EP X vE σ Q) X.xe s:=by
 have r2:Vals (vs++dvs) (us++ds):=r.append hd;have hl:(us++ds).length=ps.length:=by rw[<-r2.length];exact F.len _ _ _ _ h
 refine wpAny_call (xR (F.run X.A X.stack s H ⟨us,[]⟩ (us++ds) (vs++dvs) Q E hr I.env0 (hb s us I.kIn hl) r2 h) λr s' hq=>?_);cases r with
 |error e=>exact hx vE σ H s e s' I hq
 |ok fl=>
  cases fl with
  |ret u=>exact I.after hq
  |next=>exact False.elim hq
  |brk=>exact False.elim hq
  |cont=>exact False.elim hq
theorem ZTL(F:FnOk X.prog X.w X.K X.mg X.base CX k f fd ps sp)(hr:Room k X.A)(hg:Gl X x)(hm:X.mg x=vF (.ref f))(hk:PySem.W.keepIn X.K (.ref f)=vH)(hb:Binds X.K fd ps ds)(hd:Vals dvs ds)(hx:Passes CX X E)
  (ha:PA X (e::es) t) (hdb:(x==("__debug__":Str))=vI:=by decide) (he:vK (e::es) X.env=(vI,eval e X.env)::vK es X.env:=by rfl) (hpl:(xI pos (vK es X.env)).any (·.1)=vI:=by rfl):
  PE X (.Call (.Name x p) (e::es) [] pos) (ZLw sp dvs E t):=by
 intro vE s σ H Q I h;refine vz (Vq I hg hm ?_ hdb);refine PySem.W.callWith_K (h₀:=X.base) I.ok.mod.kin hk (thn (ha pos vE s σ H _ I h) λus s1 ⟨vs,H1,I1,r,q⟩=>⟨I1.kIn,?_⟩) he hpl;exact ZBv F hr hb hd hx I1 r q
theorem ZOl{pl:Sem Bool}(he:PE X o ta)(c:Cls X.K C)(hm:Meth X.K C m f)(F:FnOk X.prog X.w X.K X.mg X.base CX k f fd ps sp)(hr:Room k X.A)(hb:Binds X.K fd ps ds)(hd:Vals dvs ds)(hx:Passes CX X E)(ha:PA X (e::es) t)
  (hst:vK (e::es) X.env=(vI,eval e X.env)::vK es X.env:=by rfl) (hpl:(xI pos (vK es X.env)).any (·.1)=vI:=by rfl)
  (ht:eval (.Call (.Attribute o m apos) (e::es) [] pos) X.env=(do
   let ov<-eval o X.env
   standAt apos.atName
   let(f,first)<-holding [ov] (getMethod ov m pl)
   callWith pos f first (xI pos (vK (e::es) X.env)) (xL pos (xU [] X.env))):=by rfl):
  PE X (.Call (.Attribute o m apos) (e::es) [] pos) (ZBX C m sp dvs E ta t):=by
 intro vE s σ H Q I h;refine PySem.W.methodCall_KW (pl:=pl) (thn (he vE s σ H _ I h) λu s1 ⟨x,H1,I1,rx,a,dx,fs,ex,ea,l,q⟩=>?_) ht;subst ex;obtain rfl:u=Value.ref a:=rx;refine ZFO I1 ea c hm l ?_
 refine PySem.W.callWith_K (first:=[.ref a]) (h₀:=X.base) I.ok.mod.kin hm.kp (thn (ha pos vE s1 σ H1 _ I1 q) λus s2 ⟨vs,H2,I2,r,q2⟩=>⟨I2.kIn,?_⟩) hst hpl
 exact ZBv (us:=.ref a::us) (vs:=.ref a::vs) F hr hb hd hx I2 (.cons rfl r) q2
theorem ZKf(he:PE X o ta)(c:Cls X.K C)(hm:Meth X.K C m f)(F:FnOk X.prog X.w X.K X.mg X.base CX k f fd ps sp)(hr:Room k X.A)(hb:Binds X.K fd ps ds)(hd:Vals dvs ds)(hx:Passes CX X E)
  (ht:eval (.Call (.Attribute o m apos) [] [] pos) X.env=(do
   let ov<-eval o X.env
   standAt apos.atName
   let(f,first)<-holding [ov] (getMethod ov m pl)
   callWith pos f first (xI pos (vK [] X.env)) (xL pos (xU [] X.env))):=by rfl):
  PE X (.Call (.Attribute o m apos) [] [] pos) (ZBX C m sp dvs E ta Ri):=by
 intro vE s σ H Q I h;refine PySem.W.methodCall_KW (pl:=pl) (thn (he vE s σ H _ I h) λu s1 ⟨x,H1,I1,rx,a,dx,fs,ex,ea,l,q⟩=>?_) ht;subst ex;obtain rfl:u=Value.ref a:=rx;refine ZFO I1 ea c hm l ?_
 exact PySem.W.callWith_K0 (first:=[.ref a]) I1.kIn hm.kp (ZBv (us:=[.ref a]) (vs:=[.ref a]) F hr hb hd hx I1 (.cons rfl .nil) q)
structure Mk (K:PySem.W.Frag) (C f:xj):Prop where
 makes:PySem.W.makesIn K C=vH
 init:PySem.W.findIn K (.ref C) "__init__"=vF (vF (.ref f))
 fn:PySem.W.isFn K (.ref f)=vH
 kp:PySem.W.keepIn K (.ref C)=vH
theorem ZSY{σ:St}{H:Hp}{Q:VK}{us:List xE}{vs:List V}(M:Mk X.K C f)(F:FnOk X.prog X.w X.K X.mg X.base CX k f fd ps sp)(hr:Room (k+1) X.A)(hb:Binds X.K fd ps ds)(hd:Vals dvs ds)
  (hx:Passes CX X E) (I:Inv X vE σ H s) (r:Vals vs us)
  (h:∀x dx,H x=vG->H dx=vG->dx≠x->sp (.ref x::(vs++dvs)) (upd (upd H dx (.own x)) x (.ins C dx [])) (λv H2=>v=.non/\Q (.ref x) H2) E):
  vq (vJ X.prog X.w) X.A (call (.ref C) us) (EP X vE σ Q) X.xe s:=by
 have hq:=h (s.heap.objs.size+1) s.heap.objs.size (I.hok.fresh (jA _)) (I.hok.fresh (zK _)) (zG (qY _));have I2:=Inv.made (C:=C) I;have r2:Vals (V.ref (s.heap.objs.size+1)::(vs++dvs)) (Value.ref (s.heap.objs.size+1)::(us++ds)):=.cons rfl (r.append hd);have hl:(Value.ref (s.heap.objs.size+1)::us++ds).length=ps.length:=by have e:=r2.length;rw[F.len _ _ _ _ hq]at e;exact e.symm
 refine wpAny_call (ZLe (f:=f) I.kIn M.makes M.init (beq_iff_eq.mp M.fn) (xR (F.run _ X.stack _ _ ⟨Value.ref (s.heap.objs.size+1)::us,[]⟩ (Value.ref (s.heap.objs.size+1)::(us++ds)) _ _ E (hr.make C us [])
  (I2.env0.make C us []) (hb _ (Value.ref (s.heap.objs.size+1)::us) I2.kIn hl) r2 hq) λr s' hq'=>?_))
 cases r with
 |error e=>exact hx vE σ _ _ e s' I2 hq'
 | ok fl=>
  cases fl with
  |ret u=>
   obtain⟨v,H',I3,rv,ev,q3⟩:=I2.after hq';subst ev;exact⟨rv,⟨V.ref (s.heap.objs.size+1),H',I3,rfl,q3⟩⟩
  |next=>exact False.elim hq'
  |brk=>exact False.elim hq'
  |cont=>exact False.elim hq'
theorem ZKD(M:Mk X.K C f)(F:FnOk X.prog X.w X.K X.mg X.base CX k f fd ps sp)(hr:Room (k+1) X.A)(hg:Gl X x)(hm:X.mg x=vF (.ref C))(hb:Binds X.K fd ps ds)(hd:Vals dvs ds)(hx:Passes CX X E)
  (ha:PA X (e::es) t) (hdb:(x==("__debug__":Str))=vI:=by decide) (he:vK (e::es) X.env=(vI,eval e X.env)::vK es X.env:=by rfl) (hpl:(xI pos (vK es X.env)).any (·.1)=vI:=by rfl):
  PE X (.Call (.Name x p) (e::es) [] pos) (ZOC C sp dvs E t):=by
 intro vE s σ H Q I h;refine vz (Vq I hg hm ?_ hdb);refine PySem.W.callWith_K (h₀:=X.base) I.ok.mod.kin M.kp (thn (ha pos vE s σ H _ I h) λus s1 ⟨vs,H1,I1,r,q⟩=>⟨I1.kIn,?_⟩) he hpl;exact ZSY M F hr hb hd hx I1 r q
end
def PK(X:Cx)(kws:List Keyword)(t:TA):Prop:=
 ∀(pos:Pos)(vE:List (xj×Obj))(s:xC)(σ:St)(H:Hp)(Q:List V->Hp->Prop),Inv X vE σ H s->t σ H Q->vq (vJ X.prog X.w) X.A (evalAll ((xL pos (xU kws X.env)).map (·.2))) (AP X vE σ Q) X.xe s
section
variable{X:Cx}{CX:CXT}{k:Nat}{f C:xj}{fd:xy}{ps ks:List Str}{sp:Sp}{E:XK}{x m:Str}{p pos apos kpos:Pos}{e o:xk}{es:List xk}{kws:List Keyword}{te ta:TE}{t tk:TA}{nm:Option Str}
theorem ZRu:PK X [] Ri:=λ_ _ _ _ H Q I h=>wpAny_evalAll_nil ⟨[],H,I,.nil,h⟩
theorem ZNr(ha:PE X e te)(hr:PK X kws t):PK X (⟨nm,e,kpos⟩::kws) (ZBO te t):=by
 intro pos vE s σ H Q I h
 show vq _ _ (evalAll ((do let v<-eval e X.env;standAt pos;pure v)::(xL pos (xU kws X.env)).map (·.2))) _ _ s
 refine wpAny_evalAll_cons (vj (thn (ha vE s σ H _ I h) λu s1 ⟨x,H1,I1,r1,q1⟩=>vj (wpAny_standAt (v8 ?_))));exact thn (hr pos vE s1 σ H1 _ I1 q1) λus s2 ⟨xs,H2,I2,r2,q2⟩=>⟨x::xs,H2,I2,.cons r1 r2,q2⟩
variable{g:List xE->List xE->List xE}{gV:List V->List V->List V}
end
structure FnScope (N P:List Str) (sc:xB):Prop where
 kind:sc.kind=.function
 co:sc.isCoroutine=vI
 gen:sc.isGenerator=vI
 nd:N.Nodup
 pre:N.take P.length=P
 par:∀x∈P,sc.names.lookup x=vF .local∨sc.names.lookup x=vF .cell
 nofree:∀y∈sc.names,y.2≠ .free
theorem ZEY{x:Str}:∀{binds:List (Str×xE)}{m:Str->Option xE},(∀v,(x,v)∉binds)->bindL kindOf binds m x=m x
 |[],_,_=>rfl
 | (n,v)::r,m,h=>by
  unfold bindL;rw[ZEY λw hw=>h w (zZ _ hw)];split
  ·have:x≠n:=by rintro rfl;exact h v zW
   simp[this]
  ·rfl
theorem ZJy{x:Str}:∀{binds:List (Str×xE)}{m:Str->Option xE},(∀v,(x,v)∉binds)->bindC kindOf binds m x=m x
 |[],_,_=>rfl
 | (n,v)::r,m,h=>by
  unfold bindC;rw[ZJy λw hw=>h w (zZ _ hw)];split
  ·rfl
  ·have:x≠n:=by rintro rfl;exact h v zW
   simp[this]
theorem ZEV{x:Str}{v:xE}:∀{P:List Str}{vs:List xE}{i:Nat}{m:Str->Option xE},P.Nodup->P[i]?=vF x->vs[i]?=vF v->kindOf x=vF .local->
  bindL kindOf (P.zip vs) m x=vF v
 |[],_,_,_,_,h,_,_=>by simp at h
 |_::_,[],_,_,_,_,h,_=>by simp at h
 |p::P,w::vs,0,m,nd,h1,h2,hk=>by simp at h1 h2;subst h1;subst h2;show bindL kindOf ((p,w)::P.zip vs) m p=_;unfold bindL;rw[ZEY λv hv=>(qL.mp nd).1 (List.of_mem_zip hv).1,if_pos hk];simp
 |p::P,w::vs,i+1,m,nd,h1,h2,hk=>by show bindL kindOf ((p,w)::P.zip vs) m x=_;unfold bindL;exact ZEV (i:=i) (qL.mp nd).2 (by simpa using h1) (by simpa using h2) hk
theorem ZC2{x:Str}{v:xE}:∀{P:List Str}{vs:List xE}{i:Nat}{m:Str->Option xE},P.Nodup->P[i]?=vF x->vs[i]?=vF v->kindOf x≠vF .local->
  bindC kindOf (P.zip vs) m x=vF v
 |[],_,_,_,_,h,_,_=>by simp at h
 |_::_,[],_,_,_,_,h,_=>by simp at h
 |p::P,w::vs,0,m,nd,h1,h2,hk=>by simp at h1 h2;subst h1;subst h2;show bindC kindOf ((p,w)::P.zip vs) m p=_;unfold bindC;rw[ZJy λv hv=>(qL.mp nd).1 (List.of_mem_zip hv).1,if_neg hk];simp
 |p::P,w::vs,i+1,m,nd,h1,h2,hk=>by show bindC kindOf ((p,w)::P.zip vs) m x=_;unfold bindC;exact ZC2 (i:=i) (qL.mp nd).2 (by simpa using h1) (by simpa using h2) hk
def start(N:List Str)(vs:List V):St:=vs.map vF++zV (N.length-vs.length) vG
noncomputable def Kc(CX:CXT)(P:xA)(w:xF)(K:PySem.W.Frag)(mg:Str->Option xE)(base:Heap)(N:List Str)(qual:Str)(scope:xB)(f:xj)(cd:xE)(A:xw)(outer:List Env)(s:xC)(H:Hp)(E:XK):Cx where
 prog:=P
 w:=w
 K:=K
 mg:=mg
 base:=base
 A:=A.deeper (envOfC qual scope s.heap.objs.size f cd)
 N:=N
 s₀:=s
 H₀:=H
 env:=envOfC qual scope s.heap.objs.size f cd
 outer:=outer
 stack:=envOfC qual scope s.heap.objs.size f cd::outer
 ex:=[]
 calm:=vH
 fn:=λ_=>vH
 pn:=[]
 xe:=λe s'=>vq (vJ P w) (A.deeper (envOfC qual scope s.heap.objs.size f cd)) (leaving (envOfC qual scope s.heap.objs.size f cd) e) (λ_ s''=>CX outer H s E e s'') (λe' s''=>CX outer H s E e' s'') s'
theorem ZDj{sc:xB}{n:Nat}{x:Str}(h:sc.names.lookup x=vF .cell):∃c,(cellsFrom n sc.names []).lookup x=vF c:=by have q:=PySem.W.cellsFrom_some sc.names n [] (.inl h);exact jX.mp q
theorem ZUn{CX:CXT}{w:xF}{N ps:List Str}{qual:Str}{scope:xB}{f:xj}{cd:xE}{A:xw}{outer:List Env}{s1:xC}{H:Hp}{E:XK}{us:List xE}{vs:List V}
  (S:FnScope N ps scope) (hd:A.handled=vG) (e0:Env0 P w K mg base A outer s H) (hl:vs.length=ps.length) (r:Vals vs us)
  (x:InCallC s s.heap.objs.size (bindL (envOfC qual scope s.heap.objs.size f cd).kindOf (ps.zip us) λ_=>vG) (cellsFrom (s.heap.objs.size+1) scope.names []) (bindC (envOfC qual scope s.heap.objs.size f cd).kindOf (ps.zip us) λ_=>vG) s1):
  Inv (Kc CX P w K mg base N qual scope f cd A outer s H E) [] (start N vs) H s1:=by
 have hpl:ps.length<=N.length:=by have:=congrArg xz S.pre;rw[jF]at this;lia
 obtain⟨h1,tk,rfl,hk⟩:=x.done
 have noA:∀b:xj,b∉(Kc CX P w K mg base N qual scope f cd A outer s H E).ex:=λb z=>absurd (show b∈([]:List xj)from z) (by simp)
 refine⟨⟨e0.mod,S.kind,rfl,rfl,zK _,λy z c h1 h2=>?_,λy hy=>?_,λy c _ h=>?_,λ_=>hd,Around.frames_deeper e0.frames,.inr ⟨rfl,rfl⟩,λb z=>absurd z (noA b),e0.bs,e0.bsz,λb _ _=>noA b,λb z=>absurd z (noA b),e0.funs,e0.frf⟩,
  rfl,e0.bare,Un.kept hk,⟨_,x.toInCall.ns,λi y v h1 h2 h3=>?_⟩,λy c h=>⟨_,x.cell y c h⟩,e0.hok.fresh (zK _),λy c h=>?_,λp hp=>absurd (show p∈([]:List (xj×Obj))from hp) (by simp),e0.hok.kept hk,?_⟩
 ·exact name_of_addr x.apart (PySem.mem_of_lookup h1) (PySem.mem_of_lookup h2)
 ·have hy:scope.names.lookup y=vF .cell∨scope.names.lookup y=vF .free:=hy;rcases hy with hy|hy
  ·exact ZDj hy
  ·exact absurd rfl (S.nofree _ (PySem.mem_of_lookup hy))
 ·exact Nat.le_of_lt (x.above y c (PySem.mem_of_lookup h))
 ·have hi:i<vs.length:=by
   unfold start at h2;by_cases hi:i<vs.length
   ·exact hi
   ·rw[zM (by simpa using hi)]at h2;rw[jz]at h2
    split at h2<;>cases h2
  have ha:vs[i]?=vF v:=by
   unfold start at h2;rw[qV (by simpa using hi),zx]at h2;cases e:vs[i]? with
   |none=>rw[e]at h2;cases h2
   |some a=>rw[e]at h2;cases h2;rfl
  obtain⟨u,hu,rv⟩:=r.get ha;have hp:ps[i]?=vF y:=by rw[<-S.pre,j7 (by lia)];exact h1
  have ndP:ps.Nodup:=by rw[<-S.pre];exact S.nd.sublist (List.take_sublist _ _)
  refine⟨u,rv,?_⟩;rcases S.par y (List.mem_of_getElem? hp)with k|k
  ·exact .inl ⟨k,ZEV ndP hp hu k⟩
  ·obtain⟨c,e⟩:=ZDj (n:=s.heap.objs.size+1) k;refine .inr ⟨.inl k,c,e,?_⟩;have q:=x.cell y c e;rw[ZC2 ndP hp hu (by show scope.names.lookup y≠_;rw[k];decide)]at q;exact q
 ·exact e0.hok.fresh (Nat.le_of_lt (x.above y c (PySem.mem_of_lookup h)))
 ·unfold start;show _=N.length;rw[qj,qq,jS];lia
theorem ZUq{CX:CXT}{w:xF}{k:Nat}{f:xj}{name qual:Str}{params:Arguments}{body:List xD}{scope:xB}{dV kV doc pm cdv ct oc:xE}{an od:Option xj}
  {osl:Array (Option xE)} {N ps:List Str} {sp:Sp} (lk:K.lookup f=vF ⟨oc,od,.func (PySem.W.fnOf name qual params body scope dV kV doc pm an cdv ct),osl⟩) (hcd:PySem.W.codeIn K cdv qual=vH) (S:FnScope N ps scope)
  (len:∀vs H Q E,sp vs H Q E->vs.length=ps.length)
  (hbody:∀(A:xw)(outer:List Env)(s:xC)(H:Hp)(vs:List V)(Q:VK)(E:XK),Room k (A.deeper (envOfC qual scope s.heap.objs.size f cdv))->sp vs H Q E->
   ∃t,PSs (Kc CX P w K mg base N qual scope f cdv A outer s H E) body t/\t {nx:=λ_ H'=>Q .non H',rt:=Q} (start N vs) H):
  FnOk P w K mg base CX (k+1) f (PySem.W.fnOf name qual params body scope dV kV doc pm an cdv ct) ps sp:=by
 refine⟨len,λA outer s H args us vs Q E hr e0 hb r hsp=>?_⟩;have hl:=len _ _ _ _ hsp;have KX:K.In s.heap:=e0.mod.kin.keeps λb o e=>(e0.bs b o e).1
 have lim:s.heap.NoLimit:=e0.mod.nolimit.keeps λb o e=>(e0.bs b o e).1
 have hkind:∀y∈ps.zip us,scope.names.lookup y.1=vF .local∨(scope.names.lookup y.1=vF .cell/\((cellsFrom (s.heap.objs.size+1) scope.names []).lookup y.1).isSome=vH):=λ⟨n,v⟩ hy=>by
  rcases S.par n (List.of_mem_zip hy).1 with q|q
  ·exact .inl q
  ·exact .inr ⟨q,PySem.W.cellsFrom_some _ _ _ (.inl q)⟩
 refine codeAny_call_function hr.depth (KX _ _ lk) rfl S.co S.gen rfl (PySem.W.codeRec_of KX hcd) (hb _ _ _ _ ?_);refine wpAny_newFunctionEnv_cells S.kind hkind λenv he s1 x=>?_
 subst he;refine⟨lim.keeps x.toInCall.keep,codeAny_func ?_⟩;obtain⟨t,ht,hq⟩:=hbody A outer s H vs Q E (hr.deeper _) hsp;have I:Inv (Kc CX P w K mg base N qual scope f cdv A outer s H E) [] (start N vs) H s1:=ZUn S hr.hd e0 hl r x;refine v5 (ht [] s1 (start N vs) H _ I hq) (λfl s' hs=>?_) λe s' hs=>hs
 have fin:∀{σ':St}{H':Hp}{v:V}{u:xE},Inv (Kc CX P w K mg base N qual scope f cdv A outer s H E) [] σ' H' s'->RelV v u->Q v H'->CE outer P w H s Q u s':=
  λ{σ' H' v u}J rv q=>⟨v,H',J.os,J.bare,J.base,J.hok,rv,q⟩
 cases fl with
 |ret u=>
  obtain⟨v,σ',H',J,rv,q⟩:=hs;exact fin J rv q
 |next=>
  obtain⟨σ',H',J,q⟩:=hs;exact fin (v:=V.non) (u:=Value.none) J rfl q
 |brk=>
  obtain⟨_,_,_,q⟩:=hs;exact False.elim q
 |cont=>
  obtain⟨_,_,_,q⟩:=hs;exact False.elim q
section
variable{X:Cx}{x:Str}{p pos:Pos}{e:xk}{es:List xk}{t:TA}{id T:String}{r:List V->Hp->VK->Prop}
def tCB(r:List V->Hp->VK->Prop)(t:TA):TE:=λσ H Q=>t σ H λvs H1=>r vs H1 Q
theorem ZQr(hc:CallR X (.builtin id) r)(hg:Gl X x)(hm:X.mg x=vG)(hv:xO x=vF (.builtin id))(ha:PA X (e::es) t)(hn:x≠"__name__":=by decide)(hdb:(x==("__debug__":Str))=vI:=by decide)
  (he:vK (e::es) X.env=(vI,eval e X.env)::vK es X.env:=by rfl) (hpl:(xI pos (vK es X.env)).any (·.1)=vI:=by rfl):PE X (.Call (.Name x p) (e::es) [] pos) (tCB r t):=by
 intro vE s σ H Q I h;refine vz (Hj I hg hm hv ?_ hn hdb);exact PyProof.Rows.callWith_builtin1 (thn (ha pos vE s σ H _ I h) λus s1 ⟨vs,H1,I1,r1,q1⟩=>hc vE s1 σ H1 vs us Q I1 r1 q1) he hpl
theorem ZOH(hc:CallR X (.type T) r)(hg:Gl X x)(hm:X.mg x=vG)(hv:xO x=vF (.type T))(ha:PA X (e::es) t)(hn:x≠"__name__":=by decide)(hdb:(x==("__debug__":Str))=vI:=by decide)
  (he:vK (e::es) X.env=(vI,eval e X.env)::vK es X.env:=by rfl) (hpl:(xI pos (vK es X.env)).any (·.1)=vI:=by rfl):PE X (.Call (.Name x p) (e::es) [] pos) (tCB r t):=by
 intro vE s σ H Q I h;refine vz (Hj I hg hm hv ?_ hn hdb);exact PyProof.Rows.callWith_type1 (thn (ha pos vE s σ H _ I h) λus s1 ⟨vs,H1,I1,r1,q1⟩=>hc vE s1 σ H1 vs us Q I1 r1 q1) he hpl
end
end _L
namespace HT
open PySem PyProof.Rows
section
open PySem.SeqAt
open PySem.AutoSeq1 (wpAny_loadPart')
open PySem.MeetsSeq PySem.MeetsSeq2 PySem.MeetsSeq3
end
section
variable{prog:xA}{w:xF}{A:xw}{E:xE->xC->Prop}{s:xC}
theorem ZSi(ht:IsTup s.heap t vs.toArray)(hb:IsTup s.heap b ws.toArray)(hv:vs≠[])
  (h1:ws=[]->Q (.ref t) s) (h2:ws≠[]->Q (.ref s.heap.objs.size) {s with heap:=s.heap.push {cls:=.type "tuple",data:=.seq (vs++ws).toArray}})
  (hsz:vs.length+ws.length<=sizeLine):vq (vJ prog w) A (xN .Add (.ref t) (.ref b)) Q E s:=by
 obtain⟨⟨cls,dd,data,sl⟩,ho,hc,n,hd⟩:=id ht;obtain⟨⟨cls2,dd2,data2,sl2⟩,ho2,hc2,n2,hd2⟩:=id hb;simp only at hc hd hc2 hd2;subst hc hd hc2 hd2;have e:vs.toArray++ws.toArray=(vs++ws).toArray:=by simp
 by_cases hw:ws=[]
 ·exact concat_meets ⟨_,ho,rfl⟩ ⟨_,ho2,rfl⟩ noFill_tuple_add seq_tuple_add PySem.F.slot_tuple_add PySem.F.entry_tuple_add (PySem.F.args_tuple_add_2 _ _)
   (tuple_addW1 t b vs.toArray ws.toArray n n2 dd dd2 sl sl2 (by simpa using hv) (by simp[hw])) ⟨ho,ho2,h1 hw⟩
 ·refine concat_meets ⟨_,ho,rfl⟩ ⟨_,ho2,rfl⟩ noFill_tuple_add seq_tuple_add PySem.F.slot_tuple_add PySem.F.entry_tuple_add (PySem.F.args_tuple_add_2 _ _)
   (tuple_addW2 t b vs.toArray ws.toArray n n2 dd dd2 sl sl2 (by simpa using hv) (by simpa using hw) (by rw[zY,zY];exact hsz)) ⟨ho,ho2,?_⟩
  rw[e];exact h2 hw
def sIx(n d:Nat):Option Int->Nat
 |none=>d
 |some v=>if v<0 then(v+(n:Int)).toNat else min v.toNat n
theorem ZDJ(n d:Nat)(hd:d<=n)(o:Option Int):sIx n d o<=n:=by
 cases o with
 |none=>exact hd
 |some v=>
  show(if v<0 then(v+(n:Int)).toNat else min v.toNat n)<=n;by_cases hv:v<0
  ·rw[if_pos hv];lia
  ·rw[if_neg hv];exact Nat.min_le_right _ _
theorem ZFy(v:Int)(n d:Nat):(if v<0 then max (v+(n:Int)) 0 else min v (n:Int))=((sIx n d (vF v):Nat):Int):=by
 show(if v<0 then max (v+(n:Int)) 0 else min v (n:Int))=(((if v<0 then(v+(n:Int)).toNat else min v.toNat n):Nat):Int);by_cases hv:v<0
 ·simp only[if_pos hv];lia
 ·simp only[if_neg hv];lia
theorem ZLn(lo hi:Option Int)(n:Nat):Builtin.Slice.sliceAdjust lo hi 1 (n:Int)=(((sIx n 0 lo:Nat):Int),((sIx n n hi:Nat):Int)):=by
 have h1:¬((1:Int)<0):=by lia
 unfold Builtin.Slice.sliceAdjust;simp only[h1,if_false];refine Prod.ext ?_ ?_
 ·cases lo with
  |none=>rfl
  |some v=>exact ZFy v n 0
 ·cases hi with
  |none=>rfl
  |some v=>exact ZFy v n n
theorem ZL2(i j:Nat):Builtin.Slice.slicePlaces (i:Int) (j:Int) 1=j-i:=by
 unfold Builtin.Slice.slicePlaces;have h1:(1:Int)>0:=by lia
 simp only[h1,if_true,Int.ediv_one]
 split <;> lia
theorem ZGI(p:IsPart v o)(h:Q o s):vq (vJ prog w) A (Builtin.Slice.slicePartIndex v) Q E s:=by
 cases p with
 |none=>exact slicePart_none h
 |int i t=>exact slicePart_int h
theorem ZEh{sl:xj}{vl vu:xE}{lo hi:Option Int}{n:Nat}{Q:Int×Int×Nat->xC->Prop}(hs:s.heap.IsSliceOf sl vl vu .none)(pl:IsPart vl lo)(pu:IsPart vu hi)
  (h:Q (((sIx n 0 lo:Nat):Int),1,sIx n n hi-sIx n 0 lo) s):vq (vJ prog w) A (Builtin.Slice.sliceApplied (.ref sl) (pure (n:Int))) Q E s:=by
 obtain⟨os,hos,hcs,hds⟩:=id hs;unfold Builtin.Slice.sliceApplied Builtin.Slice.sliceFields;refine vj (vj (vk hos hds (x:=vl) rfl (vj (vk hos hds (x:=vu) rfl (vj (vk hos hds (x:=.none) rfl (v8 ?_)))))));refine vj (slicePart_none ?_);show vq _ _ (if((1:Int)==0)=vH then _ else _) _ _ s;rw[if_neg (by decide)];refine vj (ZGI pl (vj (ZGI pu (vj (v8 ?_)))))
 show vq _ _ (match Builtin.Slice.sliceAdjust lo hi 1 (n:Int)with |(lo,hi)=>pure (lo,(1:Int),Builtin.Slice.slicePlaces lo hi 1)) _ _ s
 rw[ZLn lo hi n];show vq _ _ (pure (((sIx n 0 lo:Nat):Int),(1:Int),Builtin.Slice.slicePlaces ((sIx n 0 lo:Nat):Int) ((sIx n n hi:Nat):Int) 1)) _ _ s;rw[ZL2];exact v8 h
theorem ZKX(xs:Array xE)(i k:Nat):((zQ k).filterMap λ(m:Nat)=>xs[((i:Int)+(m:Int)*1).toNat]?).toArray=((xs.toList.drop i).take k).toArray:=by
 have e:(λ(m:Nat)=>xs[((i:Int)+(m:Int)*1).toNat]?)=λm=>xs[i+m]? :=by
  funext m;have:((i:Int)+(m:Int)*1).toNat=i+m:=by lia
  rw[this]
 rw[e];have:=pick_run xs i k;rw[qw]at this;have e2:((λx=>xs[x]?) ∘ λx=>i+x)=λm=>xs[i+m]? :=rfl
 rw[e2]at this;rw[this]
theorem ZPU{t sl:xj}{items:Array xE}{vl vu:xE}{lo hi:Option Int}{Q:xE->xC->Prop}(ht:IsTup s.heap t items)(hs:s.heap.IsSliceOf sl vl vu .none)(pl:IsPart vl lo)(pu:IsPart vu hi)
  (hw:¬(sIx items.size 0 lo=0/\sIx items.size items.size hi=items.size))
  (h:Q (.ref s.heap.objs.size) {s with heap:=s.heap.push {cls:=.type "tuple",data:=.seq ((items.toList.drop (sIx items.size 0 lo)).take (sIx items.size items.size hi-sIx items.size 0 lo)).toArray}})
  (hsz:items.size<=sizeLine):vq (vJ prog w) A (getItem (.ref t) (.ref sl)) Q E s:=by
 have htake:sizeOk (.seq ((items.toList.drop (sIx items.size 0 lo)).take (sIx items.size items.size hi-sIx items.size 0 lo)).toArray):=by show((items.toList.drop (sIx items.size 0 lo)).take (sIx items.size items.size hi-sIx items.size 0 lo)).toArray.size<=sizeLine;rw[zY,jF,jT,qD];lia
 have hj:sIx items.size items.size hi<=items.size:=ZDJ _ _ (zK _) hi;obtain⟨os,hos,hcs,hds⟩:=id hs;have hTs:s.TypeIs (.ref sl) "slice":=⟨os,hos,hcs⟩;unfold getItem
 try with_reducible refine v4 ?_
 first|refine vj (v8 ?_)|skip
 refine vj (wpAny_sequenceKey ht.typeIs (by decide) ?_);refine vj (vx (name:=Str.ofString "__getitem__") ht.typeIs PyProof.Rows.slot_tuple_getitem
  (vv PyProof.Rows.slot_tuple_getitem ht.typeIs entry_tuple_getitem ?_ (args_tuple_getitem _ _)))
 show vq _ _ (Builtin.Tuple.tupleItemsOf (.ref t) >>=_) _ _ s;refine vj (tupleItemsOf_ ht ?_);refine vj (wpAny_typeOf hTs ?_);rw[if_pos (by decide)];refine vj (ZEh hs pl pu ?_);have hno:¬((((sIx items.size 0 lo:Nat):Int)==0&&(1:Int)==1&&(sIx items.size items.size hi-sIx items.size 0 lo)==items.size)=vH):=by intro q;rw[zE,zE]at q;have q1:((sIx items.size 0 lo:Nat):Int)=0:=eq_of_beq q.1.1;have q2:sIx items.size items.size hi-sIx items.size 0 lo=items.size:=eq_of_beq q.2;exact hw ⟨by lia,by lia⟩
 show vq _ _ (if(((sIx items.size 0 lo:Nat):Int)==0&&(1:Int)==1&&(sIx items.size items.size hi-sIx items.size 0 lo)==items.size)=vH then _ else _) _ _ s;rw[if_neg hno,ZKX]
 first
  |exact vj (m:=Builtin.Tuple.tupleExact _) (v6 (v8 ⟨_,rfl,v8 h⟩) htake)
  |exact vj (m:=Builtin.Tuple.tupleExact _) (v6 (vj (v8 (v8 ⟨_,rfl,v8 h⟩))) htake)
  |exact vj (vj (m:=Builtin.Tuple.tupleExact _) (v6 (v8 (v8 ⟨_,rfl,v8 h⟩)) htake))
  |exact vj (vj (m:=Builtin.Tuple.tupleExact _) (v6 (v8 ⟨_,rfl,v8 h⟩) htake))
end
end HT
namespace _L
open PySem PySem.Spec PyProof.Rows
variable{vE:List (xj×Obj)}{s:xC}
abbrev TO:=St->Hp->(Option Int->Hp->Prop)->Prop
def PO(X:Cx)(e:Option xk)(t:TO):Prop:=
 ∀(vE:List (xj×Obj))(s:xC)(σ:St)(H:Hp)(Q:Option Int->Hp->Prop),Inv X vE σ H s->t σ H Q->
  vq (vJ X.prog X.w) X.A (evalPart e X.env) (λu s'=>∃o H',Inv X vE σ H' s'/\IsPart u o/\Q o H') X.xe s
def ZSH:TO:=λ_ H Q=>Q vG H
def ZR6(t:TE):TO:=λσ H Q=>t σ H λx H1=>∃i,x=.int i/\Q (vF i) H1
section
variable{X:Cx}{e:xk}{te:TE}{lo hi:Option xk}{tl th:TO}{pos p2:Pos}
theorem ZTu:PO X vG ZSH:=by intro vE s σ H Q I h;rw[evalPart_none];exact v8 ⟨vG,H,I,.none,h⟩
theorem ZOF(h:PE X e te):PO X (vF e) (ZR6 te):=by
 intro vE s σ H Q I hw;rw[evalPart_some];refine thn (h vE s σ H _ I hw) λu s1 ⟨x,H1,I1,r1,q1⟩=>?_
 obtain⟨i,rfl,q⟩:=q1;obtain⟨t,rfl⟩:=r1;exact⟨vF i,H1,I1,.int i t,q⟩
def SlR(X:Cx)(r:V->Option Int->Option Int->Hp->VK->Prop):Prop:=
 ∀(vE:List (xj×Obj))(s:xC)(σ:St)(H:Hp)(x:V)(v vl vu:xE)(lo hi:Option Int)(sl:xj)(Q:VK),Inv X vE σ H s->RelV x v->s.heap.IsSliceOf sl vl vu .none->IsPart vl lo->IsPart vu hi->r x lo hi H Q->
  ∃T id,typeLookup (.type T) "__getitem__"=pure (vF (.builtin id))/\s.TypeIs v T/\vq (vJ X.prog X.w) X.A (getItem v (.ref sl)) (EP X vE σ Q) X.xe s
theorem SlR.or(h:SlR X r)(h':SlR X r'):SlR X (λx lo hi H Q=>r x lo hi H Q∨r' x lo hi H Q):=by
 intro vE s σ H x v vl vu lo hi sl Q I rx hs pl pu q;rcases q with q|q
 ·exact h vE s σ H x v vl vu lo hi sl Q I rx hs pl pu q
 ·exact h' vE s σ H x v vl vu lo hi sl Q I rx hs pl pu q
def tSl(r:V->Option Int->Option Int->Hp->VK->Prop)(te:TE)(tl th:TO):TE:=λσ H Q=>te σ H λx H1=>tl σ H1 λl H2=>th σ H2 λu H3=>r x l u H3 Q
theorem ZRy(hr:SlR X r)(he:PE X e te)(hl:PO X lo tl)(hu:PO X hi th):PE X (.Subscript e (.Slice lo hi vG p2) pos) (tSl r te tl th):=by
 intro vE s σ H Q I h;refine Subscript_ (thn (he vE s σ H _ I h) λv s1 ⟨x,H1,I1,r1,q1⟩=>?_);refine wpAny_Slice (thn (hl vE s1 σ H1 _ I1 q1) λvl s2 ⟨l,H2,I2,pl,q2⟩=>thn (hu vE s2 σ H2 _ I2 q2) λvu s3 ⟨u,H3,I3,pu,q3⟩=>?_);rw[evalPart_none];refine v8 ?_;have I4:Inv X vE σ H3 {s3 with heap:=s3.heap.push {cls:=.type "slice",data:=.fields #[vl,vu,.none]}}:=I3.kept (t':=s3.toks) λb ob q=>zJ _ q
 obtain⟨T,id,hT,ht,hg⟩:=hr vE {s3 with heap:=s3.heap.push {cls:=.type "slice",data:=.fields #[vl,vu,.none]}} σ H3 x v vl vu l u s3.heap.objs.size Q I4 r1 (Heap.IsSliceOf.new ..) pl pu q3;show vq (vJ X.prog X.w) X.A (subscriptTail e (.Slice lo hi vG p2) v (.ref s3.heap.objs.size)) (EP X vE σ Q) X.xe {s3 with heap:=s3.heap.push {cls:=.type "slice",data:=.fields #[vl,vu,.none]}}
 exact tail_any (ops:=[.ref s3.heap.objs.size,v]) ht hT hg (by with_unfolding_all rfl)
def Jr(xs:List V)(lo hi:Option Int):List V:=(xs.drop (HT.sIx xs.length 0 lo)).take (HT.sIx xs.length xs.length hi-HT.sIx xs.length 0 lo)
theorem ZJX(xs:List V)(lo hi:Option Int):(Jr xs lo hi).length<=xs.length:=by unfold Jr;rw[jF,jT];lia
def rSlT(K:PySem.W.Frag):V->Option Int->Option Int->Hp->VK->Prop:=λx lo hi H Q=>∃a xs,x=.ref a/\SqT K H a xs/\
 ¬(HT.sIx xs.length 0 lo=0/\HT.sIx xs.length xs.length hi=xs.length)/\∀p,H p=vG->Q (.ref p) (upd H p (.tup (Jr xs lo hi)))
theorem ZOm:SlR X (rSlT X.K):=by
 intro vE s σ H x v vl vu lo hi sl Q I rx hs pl pu h;obtain⟨a,xs,rfl,hx,hw,q⟩:=h;cases rx;obtain⟨its,r,ht,hz⟩:=I.tuple hx;have hlen:its.toArray.size=xs.length:=by rw[zY];exact r.length.symm
 refine⟨"tuple",_,PyProof.Rows.slot_tuple_getitem.lookup,ht.typeIs,?_⟩;refine HT.ZPU ht hs pl pu (by rw[hlen];exact hw) ?_ (by rw[hlen];exact hz);rw[hlen];refine⟨.ref s.heap.objs.size,_,I.laid (t':=s.toks) (o:=.tup (Jr xs lo hi)) (λb ob q=>zJ _ q) (zK _) ?_,rfl,q _ (I.hok.fresh (zK _))⟩;exact⟨zC (ZJX xs lo hi) hz,_,(r.drop (HT.sIx xs.length 0 lo)).take (HT.sIx xs.length xs.length hi-HT.sIx xs.length 0 lo),IsTup.new _ _⟩
def ZJJ(K:PySem.W.Frag):R2:=λx y H Q=>∃a b xs ys,x=.ref a/\y=.ref b/\SqT K H a xs/\SqT K H b ys/\xs≠[]/\xs.length+ys.length<=sizeLine/\
 (ys=[]->Q (.ref a) H)/\(ys≠[]->∀p,H p=vG->Q (.ref p) (upd H p (.tup (xs++ys))))
theorem Vals.ZAC(r:Vals xs us):us=[]↔xs=[]:=by
 cases r with
 |nil=>simp
 |cons _ _=>simp
theorem ZMy:OpR X (xN .Add) (ZJJ X.K):=by
 intro vE s σ H x y v u Q I rx ry h;obtain⟨a,b,xs,ys,rfl,rfl,ha,hb,hx,hz,q1,q2⟩:=h;cases rx;cases ry;obtain⟨its,r1,p1,_⟩:=I.tuple ha;obtain⟨its2,r2,p2,_⟩:=I.tuple hb;refine HT.ZSi p1 p2 (λz=>hx (r1.ZAC.mp z)) (λz=>⟨.ref a,H,I,rfl,q1 (r2.ZAC.mp z)⟩) (λz=>?_) (by rw[<-r1.length,<-r2.length];exact hz);refine⟨.ref s.heap.objs.size,_,I.laid (t':=s.toks) (o:=.tup (xs++ys)) (λb ob q=>zJ _ q) (zK _) ?_,rfl,q2 (λw=>z (r2.ZAC.mpr w)) _ (I.hok.fresh (zK _))⟩
 exact⟨by rw[qj];exact hz,_,r1.append r2,IsTup.new _ _⟩
end
def ixN(n:Nat)(i:Int):Option Nat:=if 0<=i then(if i<n then vF i.toNat else vG)else if -(n:Int)<=i then vF (i+n).toNat else vG
def atI{α:Type}(xs:List α)(i:Int):Option α:=(ixN xs.length i).bind λj=>xs[j]?
theorem ZIq(h:ixN n i=vF j):seqIndex? i n=vF j/\j<n/\ -(n:Int)<=i/\i<n:=by
 unfold ixN at h;by_cases h0:0<=i
 ·rw[if_pos h0]at h;by_cases h1:i<n
  ·rw[if_pos h1]at h;have e:i.toNat=j:=Option.some.inj h;exact⟨by rw[seqIndex_of h0 h1,e],by lia,by lia,h1⟩
  ·rw[if_neg h1]at h;cases h
 ·rw[if_neg h0]at h;by_cases h1: -(n:Int)<=i
  ·rw[if_pos h1]at h;have e:(i+n).toNat=j:=Option.some.inj h;exact⟨by rw[seqIndex_neg (by lia) h1,e],by lia,h1,by lia⟩
  ·rw[if_neg h1]at h;cases h
theorem Uw{α:Type}{xs:List α}{i:Int}{v:α}(h:atI xs i=vF v):∃j,seqIndex? i xs.length=vF j/\xs[j]?=vF v/\j<xs.length/\ -(xs.length:Int)<=i/\i<xs.length:=by
 unfold atI at h;cases e:ixN xs.length i with
 |none=>rw[e]at h;cases h
 |some j=>
  rw[e]at h;obtain⟨h1,h2,h3,h4⟩:=ZIq e;exact⟨j,h1,h,h2,h3,h4⟩
def PlainIx(b:xk):Prop:=∀o i,subscripted b vI o i=operate [o,i] (getItem o i)
def IxR(X:Cx)(r:R2):Prop:=
 ∀(value slice:xk)(vE:List (xj×Obj))(s:xC)(σ:St)(H:Hp)(x y:V)(v u:xE)(Q:VK),Inv X vE σ H s->RelV x v->RelV y u->r x y H Q->
  subscripted slice vI v u=operate [v,u] (getItem v u)->vq (vJ X.prog X.w) X.A (subscriptTail value slice v u) (EP X vE σ Q) X.xe s
def MtR(X:Cx)(id:String)(r:V->List V->Hp->VK->Prop):Prop:=
 ∀(vE:List (xj×Obj))(s:xC)(σ:St)(H:Hp)(x:V)(xs:List V)(v:xE)(us:List xE)(Q:VK),Inv X vE σ H s->RelV x v->Vals xs us->r x xs H Q->
  vq (vJ X.prog X.w) X.A (call (.builtin id) (v::us)) (EP X vE σ Q) X.xe s
section
variable{X:Cx}{a b:xk}{ta tb:TE}{pos:Pos}
theorem IxR.or(h:IxR X r)(h':IxR X r'):IxR X (λx y H Q=>r x y H Q∨r' x y H Q):=by
 intro value slice vE s σ H x y v u Q I rx ry q hs;rcases q with q|q
 ·exact h value slice vE s σ H x y v u Q I rx ry q hs
 ·exact h' value slice vE s σ H x y v u Q I rx ry q hs
theorem ZHM(hr:IxR X r)(ha:PE X a ta)(hb:PE X b tb)(hs:PlainIx b):PE X (.Subscript a b pos) (tOp r ta tb):=by intro vE s σ H Q I h;exact Subscript_ (Xl ha hb I h λv u s2 x y H2 I2 rx ry q=>hr a b vE s2 σ H2 x y v u Q I2 rx ry q (hs _ _))
def rIxL(K:PySem.W.Frag):R2:=λx y H Q=>∃p xs i v,x=.ref p/\y=.int i/\SqL K H p xs/\atI xs i=vF v/\Q v H
def rIxT(K:PySem.W.Frag):R2:=λx y H Q=>∃p xs i v,x=.ref p/\y=.int i/\SqT K H p xs/\atI xs i=vF v/\Q v H
def rIxS:R2:=λx y H Q=>∃z i c,x=.str z/\y=.int i/\z.length<=sizeLine/\atI z.cps.toList i=vF c/\Q (.str ⟨#[c]⟩) H
theorem ZSz:IxR X (rIxL X.K):=by
 intro value slice vE s σ H x y v u Q I rx ry h hs;obtain⟨p,xs,i,z,rfl,rfl,hq,he,q⟩:=h;cases rx;obtain⟨t,rfl⟩:=ry;obtain⟨its,r,pl,hz⟩:=I.list hq;obtain⟨j,h1,h2,h3,h4,h5⟩:=Uw he;obtain⟨w,ew,rw'⟩:=r.get h2;have hl:=r.length;have hn:=line63;have fin:EP X vE σ Q w s:=⟨z,H,I,rw',q⟩;by_cases h0:0<=i
 ·have hj:i.toNat=j:=by rw[seqIndex_of h0 h5]at h1;exact Option.some.inj h1
  exact item_listR pl.isList h0 (by lia) (by rw[hj];simpa using ew) fin hs
 ·have hj:(i+(its.toArray.size:Int)).toNat=j:=by rw[seqIndex_neg (by lia) h4]at h1;rw[zY,<-hl];exact Option.some.inj h1
  exact subscriptTail_builtinR (x:=w) pl.isList.typeIs slot_list_getitem.lookup
   (wpAny_getItem_list_neg (Q:=λr s'=>r=w/\EP X vE σ Q r s') pl.isList (by lia) (by rw[zY]<;>lia) (by lia) (by rw[hj];simpa using ew) ⟨rfl,fin⟩) hs
theorem ZTm:IxR X (rIxT X.K):=by
 intro value slice vE s σ H x y v u Q I rx ry h hs;obtain⟨p,xs,i,z,rfl,rfl,hq,he,q⟩:=h;cases rx;obtain⟨t,rfl⟩:=ry;obtain⟨its,r,pl,hz⟩:=I.tuple hq;obtain⟨j,h1,h2,h3,h4,h5⟩:=Uw he;obtain⟨w,ew,rw'⟩:=r.get h2;have hl:=r.length;have hn:=line63;have fin:EP X vE σ Q w s:=⟨z,H,I,rw',q⟩;exact subscriptTail_builtinR (x:=w) pl.typeIs slot_tuple_getitem.lookup
  (getItem_tuple (j:=j) (Q:=λr s'=>r=w/\EP X vE σ Q r s') pl (by lia) (by lia) (by rw[zY,<-hl];exact h1) (by simpa using ew) ⟨rfl,fin⟩) hs
theorem ZN9:IxR X rIxS:=by
 intro value slice vE s σ H x y v u Q I rx ry h hs;obtain⟨z,i,c,rfl,rfl,hz,he,q⟩:=h;obtain⟨t,rfl⟩:=rx;obtain⟨t',rfl⟩:=ry;obtain⟨j,h1,h2,h3,h4,h5⟩:=Uw he;have hl:z.cps.toList.length=z.length:=by simp[Str.length]
 rw[hl]at h1 h4 h5;have hn:=line63;exact tail_any (typeIs_str s z t) slot_str_getitem.lookup (getItem_str (c:=c) (by have e1:decide (i < -(2^63:Int))=vI:=decide_eq_false (by lia);have e2:decide (i ≥ 2^63)=vI:=decide_eq_false (by lia);rw[e1,e2,Bool.or_false]) (by rw[h1];simpa using h2) ⟨.str ⟨#[c]⟩,H,I.tok _,⟨_,rfl⟩,q⟩) hs
def rIx(K:PySem.W.Frag):R2:=λx y H Q=>rIxL K x y H Q∨rIxT K x y H Q∨rIxS x y H Q
theorem ZLS:IxR X (rIx X.K):=ZSz.or (ZTm.or ZN9)
theorem ZKh(its:List xE)(n j:Nat)(u:xE):Obj.mapSeq (·.setIfInBounds j u) {cls:=.type "list",data:=.seq its.toArray n}={cls:=.type "list",data:=.seq (its.set j u).toArray n}:=by simp[Obj.mapSeq]
theorem Inv.lst{σ:St}{H:Hp}{p:xj}{xs:List V}(I:Inv X vE σ H s)(h:H p=vF (.lst xs)):
  ∃(its:List xE)(n:Nat),Vals xs its/\s.heap.get? p=vF {cls:=.type "list",data:=.seq its.toArray n}/\xs.length<=sizeLine:=by
 obtain⟨z,its,n,r,e⟩:=I.hok p _ h;exact⟨its,n,r,e,z⟩
theorem Inv.ZTR{σ:St}{H:Hp}{p:xj}{xs ys:List V}{its its':List xE}{n n':Nat}{f:Obj->Obj}(I:Inv X vE σ H s)(h:H p=vF (.lst xs))
  (ho:s.heap.get? p=vF {cls:=.type "list",data:=.seq its.toArray n}) (hf:f {cls:=.type "list",data:=.seq its.toArray n}={cls:=.type "list",data:=.seq its'.toArray n'}) (r:Vals ys its') (hz:ys.length<=sizeLine) (t:Nat):
  Inv X vE σ (upd H p (.lst ys)) {s with heap:=s.heap.update p f,toks:=t}:=by
 have e:(s.heap.update p f).get? p=vF {cls:=.type "list",data:=.seq its'.toArray n'}:=by rw[jU f ho (by rw[hf]<;>rfl),hf]
 refine I.write (x:=p) (e:=p) (by rw[h];trivial) (.inl rfl) (λb u hb q=>(Heap.get?_update_other _ _ (Ne.symm hb)).trans q) ⟨_,e⟩ ?_;exact⟨hz,its',n',r,e⟩
def ZOk:V->V->V->Hp->(Hp->Prop)->Prop:=λo i v H Q=>∃p xs k j,o=.ref p/\i=.int k/\H p=vF (.lst xs)/\ixN xs.length k=vF j/\Q (upd H p (.lst (xs.set j v)))
theorem set_list:PSet X ZOk:=by
 intro vE s σ H o i v ov iv u Q I ro ri rv h;obtain⟨p,xs,k,j,rfl,rfl,hp,hj,q⟩:=h;cases ro;obtain⟨t,rfl⟩:=ri;obtain⟨its,n,r,ho,hz⟩:=I.lst hp;obtain⟨h1,h2,h3,h4⟩:=ZIq hj;have hl:=r.length;have hn:=line63
 have I':Inv X vE σ (upd H p (.lst (xs.set j v))) {s with heap:=s.heap.update p (Obj.mapSeq (·.setIfInBounds j u))}:=
  I.ZTR hp ho (ZKh its n j u) (r.set rv j) (by rw[j9];exact hz) s.toks
 by_cases h0:0<=k
 ·have hk:k.toNat=j:=by rw[seqIndex_of h0 h4]at h1;exact Option.some.inj h1
  exact PySem.W.ki_setAt ho h0 (by lia) (by rw[zY,<-hl];exact h4) (by rw[hk];exact⟨_,I',q⟩)
 ·have hk:(k+(its.toArray.size:Int)).toNat=j:=by rw[seqIndex_neg (by lia) h3]at h1;rw[zY,<-hl];exact Option.some.inj h1
  exact PySem.W.ki_setBack ho (by lia) (by rw[zY,<-hl];exact h3) (by lia) (by rw[hk];exact⟨_,I',q⟩)
theorem ZOv(lo hi:Option Int)(n:Nat):(vW lo hi vG n).1=((HT.sIx n 0 lo:Nat):Int)/\(vW lo hi vG n).2.1=((HT.sIx n n hi:Nat):Int)/\(vW lo hi vG n).2.2=1:=by
 refine⟨?_,?_,rfl⟩
 ·cases lo with
  |none=>simp[vW,HT.sIx]
  |some i=>
   simp only[vW,HT.sIx,Option.getD_none,show(1:Int)>0 by decide,if_true];by_cases h:i<0
   ·simp only[h,if_true]<;>lia
   ·simp only[h,if_false]<;>lia
 ·cases hi with
  |none=>simp[vW,HT.sIx]
  |some i=>
   simp only[vW,HT.sIx,Option.getD_none,show(1:Int)>0 by decide,if_true];by_cases h:i<0
   ·simp only[h,if_true]<;>lia
   ·simp only[h,if_false]<;>lia
theorem ZQa(its:List xE)(lo hi:Option Int):slicePick its.toArray lo hi vG=((its.drop (HT.sIx its.length 0 lo)).take (HT.sIx its.length its.length hi-HT.sIx its.length 0 lo)).toArray:=by
 obtain⟨h1,h2,h3⟩:=ZOv lo hi its.toArray.size;unfold slicePick;rw[h1,h2,h3]
 simp only[sliceRange_one,pick_run,zY]<;>rfl
def rSlL(K:PySem.W.Frag):V->Option Int->Option Int->Hp->VK->Prop:=λx lo hi H Q=>∃a xs,x=.ref a/\SqL K H a xs/\∀p,H p=vG->Q (.ref p) (upd H p (.lst (Jr xs lo hi)))
theorem ZRp:SlR X (rSlL X.K):=by
 intro vE s σ H x v vl vu lo hi sl Q I rx hs pl pu h;obtain⟨a,xs,rfl,hx,q⟩:=h;cases rx;obtain⟨its,r,ht,hz⟩:=I.list hx;have hlen:=r.length;refine⟨"list",_,slot_list_getitem.lookup,ht.isList.typeIs,?_⟩
 refine wpAny_getItem_list_slice ht.isList hs pl pu .none (by simp) ?_ (by rw[zY]<;>lia)
 rw[ZQa,<-hlen];refine⟨.ref s.heap.objs.size,_,I.laid (t':=s.toks) (o:=.lst (Jr xs lo hi)) (λb ob q=>zJ _ q) (zK _) ?_,rfl,q _ (I.hok.fresh (zK _))⟩;exact⟨zC (ZJX xs lo hi) hz,_,0,(r.drop (HT.sIx xs.length 0 lo)).take (HT.sIx xs.length xs.length hi-HT.sIx xs.length 0 lo),zA _ rfl⟩
def Df:V->Bool
 |.non=>vH
 |.bl _=>vH
 |.int _=>vH
 |.str _=>vH
 |_=>vI
def eqV:V->V->Bool
 |.non,.non=>vH
 |.bl a,.bl b=>a==b
 |.bl a,.int b=>(if a then 1 else 0)==b
 |.int a,.bl b=>a==(if b then 1 else 0)
 |.int a,.int b=>a==b
 |.str a,.str b=>a==b
 |_,_=>vI
theorem ZHb(ry:RelV y u)(rx:RelV x v)(fy:Df y=vH)(fx:Df x=vH):SeqAt.EqAt A s u v (eqV y x):=by
 cases y with
 |non=>
  cases ry;cases x with
  |non=>cases rx;exact SeqAt.EqAt.same _
  |bl b=>cases rx;exact SeqAt.EqAt.none_bool b
  |int b=>obtain⟨t,rfl⟩:=rx;exact SeqAt.EqAt.none_int b t
  |str b=>obtain⟨t,rfl⟩:=rx;exact SeqAt.EqAt.none_str b t
  |_=>exact absurd (show vI=vH from fx) zy
 |bl a=>
  cases ry;cases x with
  |non=>cases rx;exact SeqAt.EqAt.bool_none a
  |bl b=>cases rx;exact SeqAt.EqAt.bool_bool a b
  |int b=>obtain⟨t,rfl⟩:=rx;exact SeqAt.EqAt.bool_int a b t
  |str b=>obtain⟨t,rfl⟩:=rx;exact SeqAt.EqAt.bool_str a b t
  |_=>exact absurd (show vI=vH from fx) zy
 |int a=>
  obtain⟨t',rfl⟩:=ry;cases x with
  |non=>cases rx;exact SeqAt.EqAt.int_none a t'
  |bl b=>cases rx;exact SeqAt.EqAt.int_bool a t' b
  |int b=>obtain⟨t,rfl⟩:=rx;exact SeqAt.EqAt.int_int a t' b t
  |str b=>obtain⟨t,rfl⟩:=rx;exact SeqAt.EqAt.int_str a t' b t
  |_=>exact absurd (show vI=vH from fx) zy
 |str a=>
  obtain⟨t',rfl⟩:=ry;cases x with
  |non=>cases rx;exact SeqAt.EqAt.str_none a t'
  |bl b=>cases rx;exact SeqAt.EqAt.str_bool a t' b
  |int b=>obtain⟨t,rfl⟩:=rx;exact SeqAt.EqAt.str_int a t' b t
  |str b=>obtain⟨t,rfl⟩:=rx;exact SeqAt.EqAt.str_str a t' b t
  |_=>exact absurd (show vI=vH from fx) zy
 |_=>exact absurd (show vI=vH from fy) zy
def eqU(x:V)(u:xE):Bool:=match u with
 |.none=>eqV .non x
 |.bool b=>eqV (.bl b) x
 |.int i _=>eqV (.int i) x
 |.str z _=>eqV (.str z) x
 |_=>vI
theorem ZFC(r:RelV y u)(f:Df y=vH):eqU x u=eqV y x:=by
 cases y with
 |non=>cases r;rfl
 |bl b=>cases r;rfl
 |int i=>obtain⟨t,rfl⟩:=r;rfl
 |str z=>obtain⟨t,rfl⟩:=r;rfl
 |_=>exact absurd (show vI=vH from f) zy
theorem ZCj:∀{xs:List V}{us:List xE},Vals xs us->xs.all Df=vH->us.any (eqU x)=xs.any λy=>eqV y x
 |_,_,.nil,_=>rfl
 |y::xs,u::us,.cons r t,f=>by rw[qO,zE]at f;rw[jG,jG,ZFC r f.1,ZCj t f.2]
theorem ZCK(rx:RelV x v)(fx:Df x=vH):∀{xs:List V}{us:List xE},Vals xs us->xs.all Df=vH->∀u∈us,SeqAt.EqAt A s u v (eqU x u)
 |_,_,.nil,_=>λu hu=>by cases hu
 |y::xs,u::us,.cons r t,f=>λu' hu=>by
  rw[qO,zE]at f;rcases zq.mp hu with rfl|hu
  ·rw[ZFC r f.1];exact ZHb r rx f.1 fx
  ·exact ZCK rx fx t f.2 u' hu
def inV(x:V)(xs:List V):Bool:=xs.any λy=>eqV y x
def rIn(K:PySem.W.Frag)(neg:Bool):R2:=λx y H Q=>∃p xs,y=.ref p/\(SqL K H p xs∨SqT K H p xs)/\Df x=vH/\xs.all Df=vH/\Q (.bl (if neg then !inV x xs else inV x xs)) H
theorem ZUL:OpR X (xS .NotIn) (rIn X.K vH):=by
 intro vE s σ H x y v u Q I rx ry h;obtain⟨p,xs,rfl,hq,fx,fs,q⟩:=h;cases ry;rcases hq with hq|hq
 ·obtain⟨its,r,pl,hz⟩:=I.list hq;refine SeqAt.notIn_listAt (eqU x) pl.isList (λw hw=>ZCK rx fx r fs w (by simpa using hw)) ⟨.bl _,H,I,rfl,?_⟩;rw[show its.toArray.any (eqU x)=its.any (eqU x) by simp,ZCj r fs];exact q
 ·obtain⟨its,r,pl,hz⟩:=I.tuple hq;refine SeqAt.notIn_tupleAt (eqU x) pl (λw hw=>ZCK rx fx r fs w (by simpa using hw)) ⟨.bl _,H,I,rfl,?_⟩;rw[show its.toArray.any (eqU x)=its.any (eqU x) by simp,ZCj r fs];exact q
theorem ZMC:CallR X (.builtin "len") (λxs H Q=>∃p ys,xs=[.ref p]/\(SqL X.K H p ys∨SqT X.K H p ys)/\Q (.int ys.length) H):=by
 intro vE s σ H xs us Q I r h;obtain⟨p,ys,rfl,hq,q⟩:=h;obtain⟨u,rfl,rx⟩:=vals1 r;cases rx;have hn:=line63;rcases hq with hq|hq
 ·obtain⟨its,r',pl,hz⟩:=I.list hq;have hlen:=r'.length
  exact Calls.call_len_list pl.isList (by simp only[zY]<;>lia) ⟨.int ys.length,H,I.tok _,⟨s.toks+1,by rw[zY,hlen]⟩,q⟩
 ·obtain⟨its,r',pl,hz⟩:=I.tuple hq;have hlen:=r'.length
  exact len_tuple pl (by simp only[zY]<;>lia) ⟨.int ys.length,H,I.tok _,⟨s.toks+1,by rw[zY,hlen]⟩,q⟩
theorem ZPE:CallR X (.builtin "len") (λxs H Q=>∃z,xs=[.str z]/\z.length<=sizeLine/\Q (.int z.length) H):=by intro vE s σ H xs us Q I r h;obtain⟨z,rfl,hz,q⟩:=h;obtain⟨u,rfl,t,rfl⟩:=vals1 r;have hn:=line63;exact len_str (by lia) ⟨.int z.length,H,I.tok _,⟨_,rfl⟩,q⟩
theorem CallR.or(h:CallR X f r)(h':CallR X f r'):CallR X f (λxs H Q=>r xs H Q∨r' xs H Q):=by
 intro vE s σ H xs us Q I rs q;rcases q with q|q
 ·exact h vE s σ H xs us Q I rs q
 ·exact h' vE s σ H xs us Q I rs q
theorem ZLV:CallR X (.type "list") (λxs H Q=>∃p ys,xs=[.ref p]/\(SqL X.K H p ys∨SqT X.K H p ys)/\∀l,H l=vG->Q (.ref l) (upd H l (.lst ys))):=by
 intro vE s σ H xs us Q I r h;obtain⟨p,ys,rfl,hq,q⟩:=h;obtain⟨u,rfl,rx⟩:=vals1 r;cases rx;have fin:∀(its:List xE),Vals ys its->ys.length<=sizeLine->∀(h':Heap)(c':Nat),(∀b o',s.heap.get? b=vF o'->h'.get? b=vF o')->
   h'.get? s.heap.objs.size=vF {cls:=.type "list",dict:=vG,data:=.seq its.toArray c',slots:= #[]}->EP X vE σ Q (.ref s.heap.objs.size) {s with heap:=h'}:=λits r' hz h' c' kp e=>
  ⟨.ref s.heap.objs.size,_,I.laid (t':=s.toks) kp (zK _) (show ObjOk X.prog X.w _ h' _ (.lst ys)from⟨hz,its,c',r',e⟩),rfl,q _ (I.hok.fresh (zK _))⟩
 rcases hq with hq|hq
 ·obtain⟨its,r',pl,hz⟩:=I.list hq;have hlen:=r'.length;obtain⟨o,ho,hc,n,hd⟩:=pl.isList
  exact call_list_seq p (.inl rfl) ho hc hd (λh' c' kp e=>fin its r' hz h' c' kp e) (by simp only[zY]<;>lia)
 ·obtain⟨its,r',pl,hz⟩:=I.tuple hq;have hlen:=r'.length;obtain⟨o,ho,hc,n,hd⟩:=pl
  exact call_list_seq p (.inr rfl) ho hc hd (λh' c' kp e=>fin its r' hz h' c' kp e) (by simp only[zY]<;>lia)
theorem ZNM:CallR X (.type "tuple") (λxs H Q=>∃p ys,xs=[.ref p]/\((SqL X.K H p ys/\∀l,H l=vG->Q (.ref l) (upd H l (.tup ys)))∨(SqT X.K H p ys/\Q (.ref p) H))):=by
 intro vE s σ H xs us Q I r h;obtain⟨p,ys,rfl,h⟩:=h;obtain⟨u,rfl,rx⟩:=vals1 r;cases rx;rcases h with⟨hq,q⟩|⟨hq,q⟩
 ·obtain⟨its,r',pl,hz⟩:=I.list hq;have hlen:=r'.length
  refine call_tuple_list pl.isList (λh' kp=>?_) (by simp only[zY]<;>lia)
  have I1:Inv X vE σ H {s with heap:=h'}:=I.kept (t':=s.toks) kp;have I2:Inv X vE σ (upd H h'.objs.size (.tup ys)) {s with heap:=h'.push {cls:=.type "tuple",data:=.seq its.toArray}}:=
   I1.laid (t':=s.toks) (λb o e=>zJ _ e) (zK _) (show ObjOk X.prog X.w _ _ _ (.tup ys)from⟨hz,its,r',IsTup.new _ _⟩)
  exact⟨.ref h'.objs.size,_,I2,rfl,q _ (I1.hok.fresh (zK _))⟩
 ·obtain⟨its,r',pl,hz⟩:=I.tuple hq;exact call_tuple_same pl ⟨.ref p,H,I,rfl,q⟩
def tyV(K:PySem.W.Frag)(T:String)(x:V)(H:Hp):Prop:=match x with
 |.str _=>T="str"
 |.int _=>T="int"
 | .ref p=>(T="list"/\∃xs,SqL K H p xs)∨(T="tuple"/\∃o,K.lookup p=vF o/\o.cls=.type "tuple"/\o.dict=vG)∨
   (T="dict"/\((∃kvs,H p=vF (.dK kvs))∨∃kvs,H p=vF (.dT kvs)))∨(T="set"/\∃S n,H p=vF (.set S n))
 |_=>False
theorem ZNE{σ:St}{H:Hp}{T:String}{x:V}{v:xE}(I:Inv X vE σ H s)(r:RelV x v)(ty:tyV X.K T x H):
  s.TypeIs v T/\∀a,v=.ref a->∃ob,s.heap.get? a=vF ob/\ob.dict=vG:=by
 cases x with
 |str z=>
  obtain⟨t,rfl⟩:=r
  cases(show T="str" from ty)
  exact⟨typeIs_str s z t,λ_ e=>nomatch e⟩
 |int i=>
  obtain⟨t,rfl⟩:=r
  cases(show T="int" from ty)
  exact⟨typeIs_int s i t,λ_ e=>nomatch e⟩
 | ref p=>
  cases r;rcases ty with⟨rfl,xs,hq⟩|⟨rfl,o,hk,hc,hd⟩|⟨rfl,hk⟩|⟨rfl,S,n,hk⟩
  ·obtain⟨its,_,pl,_⟩:=I.list hq;refine⟨pl.isList.typeIs,λa e=>?_⟩;cases e;obtain⟨o,n,e,c,hd,_⟩:=pl;exact⟨o,e,hd⟩
  ·refine⟨⟨o,I.kIn p o hk,hc⟩,λa e=>?_⟩;cases e;exact⟨o,I.kIn _ o hk,hd⟩
  ·have z:∃o,s.heap.get? p=vF o/\o.ExactDict:=by
    rcases hk with⟨kvs,hk⟩|⟨kvs,hk⟩
    ·obtain⟨_,_,_,_,o,_,_,e,ex,_⟩:=I.hok p _ hk;exact⟨o,e,ex⟩
    ·obtain⟨_,_,_,_,o,_,_,e,ex,_⟩:=I.hok p _ hk;exact⟨o,e,ex⟩
   obtain⟨o,e,ex⟩:=z;refine⟨⟨o,e,ex.1⟩,λa e2=>?_⟩;cases e2;exact⟨o,e,ex.2.1⟩
  ·obtain⟨o,_,_,_,e,ex,_⟩:=I.hok p _ hk;refine⟨⟨o,e,ex.1⟩,λa e2=>?_⟩;cases e2;exact⟨o,e,ex.2.1⟩
 |_=>exact False.elim ty
def tBM(K:PySem.W.Frag)(T:String)(r:V->List V->Hp->VK->Prop)(to:TE)(t:TA):TE:=λσ H Q=>to σ H λx H1=>tyV K T x H1/\t σ H1 λxs H2=>r x xs H2 Q
variable{o e:xk}{es:List xk}{to:TE}{t:TA}{name:Str}{apos cpos:Pos}{T id:String}{r:V->List V->Hp->VK->Prop}
theorem ZL8(pa:PlainAttrs T)(slot:Slot T name id)(hty:typeOf (.builtin id)=pure (.type "method_descriptor"))(hm:MtR X id r)(ho:PE X o to)(ha:PA X (e::es) t)
  (hbase:xH o name X.env (eval o X.env)=eval o X.env:=by rfl)
  (hfew:((xI cpos (vK (e::es) X.env)).all (λx=> !x.1)&&(xL cpos (xU [] X.env)).all (λx=>x.1.isSome)
   && decide ((e::es).length+([]:List Keyword).length+(if([]:List Keyword).isEmpty then 0 else 1)<30))=vH:=by rfl)
  (hline:(apos.endLine==cpos.line)=vH:=by rfl) (hs:vK (e::es) X.env=(vI,eval e X.env)::vK es X.env:=by rfl) (hplain:(xI cpos (vK es X.env)).any (·.1)=vI:=by rfl):
  PE X (.Call (.Attribute o name apos) (e::es) [] cpos) (tBM X.K T r to t):=by
 intro vE s σ H Q I h;refine wpAny_Call_method_late hbase hfew hline rfl (thn (ho vE s σ H _ I h) λv s1 ⟨x,H1,I1,r1,ty,q1⟩=>?_);obtain⟨h1,h2⟩:=ZNE I1 r1 ty;refine⟨T,id,pa,slot,hty,h1,h2,?_⟩;have hA:=ha cpos vE s1 σ H1 _ I1 q1;rw[hs]at hA⊢
 refine Calls.callWith_builtin (by show(vI||(xI cpos (vK es X.env)).any (·.1))=vI;rw[hplain]<;>rfl) (Calls.evalArgs_plain ?_)
 exact thn hA λus s2 ⟨vs,H2,I2,r2,q2⟩=>hm vE s2 σ H2 x vs v us Q I2 r1 r2 q2
end
def MtM(X:Cx)(id:String)(r:V->List V->Hp->VK->Prop):Prop:=
 ∀(vE:List (xj×Obj))(s:xC)(σ:St)(H:Hp)(x:V)(xs:List V)(v:xE)(us:List xE)(Q:VK),Inv X vE σ H s->RelV x v->Vals xs us->r x xs H Q->
  vq (vJ X.prog X.w) X.A (call (.builtin id) (v::us)) (EP X vE σ Q) X.xe s
theorem Vals.one:∀{x:V}{us:List xE},Vals [x] us->∃u,us=[u]/\RelV x u:=by intro x us h;cases h with |cons r t=>cases t;exact⟨_,rfl,r⟩
theorem Vals.rep(h:Vals xs us):∀k:Nat,Vals (zV k xs).flatten (zV k us).flatten
 |0=>.nil
 |k+1=>by rw[qW,qW,qI,qI];exact Vals.append h (Vals.rep h k)
theorem foldl_rep(its:List xE):∀(k:Nat)(acc:List xE),
  List.foldl (λx1 x2=>x1++x2) acc.toArray (zV k its.toArray)=(acc++(zV k its).flatten).toArray
 |0,acc=>by simp
 |k+1,acc=>by
  have e:acc.toArray++its.toArray=(acc++its).toArray:=by simp
  have e2:(acc++its)++(zV k its).flatten=acc++(zV (k+1) its).flatten:=by rw[qW,qI,jB]
  rw[<-e2,<-foldl_rep its k (acc++its),<-e,qW,j2]
section
variable{X:Cx}{vE:List (xj×Obj)}{σ:St}{H:Hp}{s:xC}{l b:xj}{xs ys zs:List V}
theorem Inv.lset{its its':List xE}{n:Nat}{f:Array xE->Array xE}{t':Nat}(I:Inv X vE σ H s)(hH:H l=vF (.lst xs))
  (e:s.heap.get? l=vF {cls:=.type "list",data:=.seq its.toArray n}) (hf:f its.toArray=its'.toArray) (hv:Vals ys its') (hz:ys.length<=sizeLine):
  Inv X vE σ (upd H l (.lst ys)) {s with heap:=s.heap.update l (Obj.mapSeq f),toks:=t'}:=by
 have q:=PySem.IsL.update e f;rw[hf]at q;refine I.write (x:=l) (e:=l) (by rw[hH];exact trivial) (.inl rfl) (λb' u hb hu=>(Heap.get?_update_other s.heap (Obj.mapSeq f) (Ne.symm hb)).trans hu) ⟨_,q⟩ ?_;exact⟨hz,its',_,hv,q⟩
theorem Inv.lnew(I:Inv X vE σ H s)(hv:Vals ys its)(hz:ys.length<=sizeLine):
  Inv X vE σ (upd H s.heap.objs.size (.lst ys)) {s with heap:=s.heap.push {cls:=.type "list",data:=.seq its.toArray},toks:=t'}:=
 I.laid (λ_ _ q=>zJ _ q) (zK _) ⟨hz,its,0,hv,zA _ rfl⟩
theorem Inv.fresh(I:Inv X vE σ H s):H s.heap.objs.size=vG:=I.hok.fresh (zK _)
theorem Inv.lstM(I:Inv X vE σ H s)(hH:H l=vF (.lst xs)):xs.length<=sizeLine/\∃(its:List xE)(n:Nat),Vals xs its/\xs.length=its.length/\s.heap.get? l=vF {cls:=.type "list",data:=.seq its.toArray n}:=by obtain⟨z,its,n,r,e⟩:=I.hok l _ hH;exact⟨z,its,n,r,r.length,e⟩
theorem ZPC(h:n<=sizeLine):Builtin.List.listTooLong n=vI:=by unfold Builtin.List.listTooLong;exact decide_eq_false (by lia)
end
section
variable{X:Cx}
def ZLI:V->List V->Hp->VK->Prop:=λx vs H Q=>∃l xs y,x=.ref l/\vs=[y]/\H l=vF (.lst xs)/\xs.length<sizeLine/\Q .non (upd H l (.lst (xs++[y])))
theorem ZKC:MtM X "list.append" ZLI:=by
 intro vE s σ H x vs v us Q I rx rv h;obtain⟨l,xs,y,rfl,rfl,hH,hz,q⟩:=h;cases rx;obtain⟨u,rfl,ru⟩:=rv.one;obtain⟨z,its,n,r,hl,e⟩:=I.lstM hH;refine call_meets F.slot_list_append ⟨_,e,rfl⟩ F.entry_list_append (F.args_list_append_2 _ _) (PySem.list_append l its.toArray n u (by rw[zY];lia)) ⟨e,?_⟩;refine⟨.non,_,I.lset (its':=its++[u]) hH e (by simp) (r.append (.cons ru .nil)) ?_,rfl,q⟩
 rw[qj,jC];lia
def rRep:R2:=λx y H Q=>∃l k xs,x=.ref l/\y=.int k/\H l=vF (.lst xs)/\ -(2^63)<=k/\k<2^63/\xs.length*k.toNat<=sizeLine/\
 ∀p,H p=vG->Q (.ref p) (upd H p (.lst (zV k.toNat xs).flatten))
theorem len_rep{α:Type}(xs:List α)(k:Nat):(zV k xs).flatten.length=k*xs.length:=by
 induction k with
 |zero=>simp
 |succ k ih=>rw[qW,qI,qj,ih,Nat.succ_mul,Nat.add_comm]
theorem ZMN:OpR X (xN .Mult) rRep:=by
 intro vE s σ H x y v u Q I rx ry h;obtain⟨l,k,xs,rfl,rfl,hH,h1,h2,hz,q⟩:=h;cases rx;obtain⟨t,rfl⟩:=ry;obtain⟨z,its,n,r,hl,e⟩:=I.lstM hH;have hlen:its.toArray.size*k.toNat<=sizeLine:=by rw[zY,<-hl];exact hz
 have hcap:¬its.toArray.size*k.toNat>(2^63-1)/8:=by
  have:(sizeLine:Nat)<=(2^63-1)/8:=by decide
  lia
 have hfit:¬(!Builtin.List.listFitsIndex k)=vH:=by rw[fitsIndex_both h1 h2];exact zy
 have hlong:¬Builtin.List.listTooLong (its.toArray.size*k.toNat)=vH:=by rw[ZPC hlen];exact zy
 have hnew:List.foldl (λx1 x2=>x1++x2) #[] (zV (if its.toArray.isEmpty=vH then 0 else k.toNat) its.toArray)=(zV k.toNat its).flatten.toArray:=by
  have f0:∀m:Nat,List.foldl (λx1 x2=>x1++x2) #[] (zV m its.toArray)=(zV m its).flatten.toArray:=λm=>by have:=foldl_rep its m [];rw[xW]at this;exact this
  rw[f0];cases its with
  |nil=>simp
  |cons a r'=>rw[if_neg (by simp)]
 refine wpAny_binaryOp_repeat_ref (T:="list") (U:="int") (by decide) ⟨_,e,rfl⟩ (λs'=>typeIs_int s' k t) noFill_list_mul F.fills_int_mul F.slot_int_rmul repeat_list F.slot_int_index.lookup
  (call_meets F.slot_int_rmul (typeIs_int s k t) F.entry_int_rmul (F.args_int_rmul_2 _ _) (int___rmul___int_list k t l its.toArray n)
   ⟨e,rfl,⟨_,e,rfl⟩,call_meets F.slot_list_mul ⟨_,e,rfl⟩ F.entry_list_mul (F.args_list_mul_2 _ _) (AutoListH.list___mul___list_int_3 l its.toArray n k t hfit hcap hlong) ⟨e,?_⟩⟩)
 rw[hnew];exact⟨.ref _,_,I.lnew (t':=s.toks) (r.rep k.toNat) (by rw[len_rep,Nat.mul_comm];exact hz),rfl,q _ I.fresh⟩
end
section
variable{prog:xA}{w:xF}{A:xw}{E:xE->xC->Prop}{s:xC}
end
section
variable{X:Cx}
end
end _L
namespace Att
open PySem PySem.W PySem.Calls PyProof.Rows
theorem ZPI:∀(ns:List Int)(vs:List xE),WellAll P h vs (ns.map WData.int)->IntsAre vs ns:=by
 intro ns
 induction ns with
 |nil=>
  intro vs w;rw[jN]at w;cases w;exact .nil
 | cons n ns ih=>
  intro vs w;rw[zk]at w;cases w with
  |cons a b=>
   cases a;exact .cons _ _ (ih _ b)
theorem ZSf{l:OpenLaw}{n:Nat}(hn:l.most=vF n){P:Params}{h:Heap}{args:List WData}{vals:List xE}
  (hpre:l.row.toRowW.claim.pre args=vH) (hwl:WellAll P h vals args):
  ∃a vs ns,vals=[Value.ref a]/\args=[WData.list (ns.map WData.int)]/\h.get? a=vF {cls:=.type "list",data:=.seq vs.toArray}/\IntsAre vs ns/\ns.length<=n:=by
 have hsh:WShape.hasAll [] args [.list .int]=vH:=(pre_splitW hpre).1;have hc:l.pre.holds [] {args:=args}=vH:=(pre_splitW hpre).2;obtain⟨d,r,rfl,h1,h2⟩:=hasAllW_cons hsh;obtain rfl:=hasAllW_nil h2;obtain⟨xs,rfl,h3⟩:=hasW_list h1;obtain⟨ns,rfl⟩:=items_int h3;have hlen:ns.length<=n:=by
  unfold OpenLaw.pre at hc;have h4:(WTm.not (.lt (.lit (.int (n:Int))) (.len (.arg 0)))).holds [] {args:=[.list (ns.map .int)]}=vH:=by have h4:=(holds_andW hc).1;rw[hn]at h4;exact h4
  have h5:=condW_of h4 (w_not (w_lt w_lit (w_len_list (w_arg rfl))));rw[qq]at h5;refine Nat.le_of_not_lt λq=>?_
  have q':(n:Int)<((ns.length:Nat):Int):=by lia
  first
   |(rw[decide_eq_true q']at h5;exact absurd h5 (by decide))
   |(simp at h5;lia)
 cases hwl with
 |cons w1 w2=>
  cases w2;cases w1 with
  |list ho hall=>exact⟨_,_,ns,rfl,rfl,ho,ZPI ns _ hall,hlen⟩
theorem ZUG(l:OpenLaw)(args:List WData):l.row.toRowW.claim.post args (.bool vH) args=vH:=
 postW_of (r:=l.row.toRowW) (X:=(vH==vH))
  (show WShape.has [] (.bool vH) .bool=vH by first|rfl|decide|simp[WShape.has,WShape.arms,WShape.armsAll])
  (show(WTm.eq .res (.lit (.bool vH))).value [] {args:=args,res:=vF (.bool vH),after:=args}=vF (.bool (vH==vH))from w_eq_bool (w_res rfl) w_lit) rfl
theorem ZMm{l:OpenLaw}{n:Nat}{q:xA}{loose:List Str}{XP:(Str->Option xE)->Heap->Prop}{YP:xF->Heap->Prop}{d:DefRec}
  (hn:l.most=vF n) (hdf:d.params.defaults=[])
  (call:∀(w:xF)(s₀ s₁:xC)(mg mb:Str->Option xE)(fa:xj)(o:Obj)(pm cd doc:xE)(a:xj)(vs:List xE)(ns:List Int),
   Ground q loose [] XP w s₀ mg mb s₁.heap->YP w s₁.heap->
   s₁.heap.get? fa=vF o->o.data=.func (docDef d.name d.params d.body d.scope pm cd doc)->s₁.heap.CodeRec cd d.name->mg d.name=vF (.ref fa)->
   s₁.heap.get? a=vF {cls:=.type "list",data:=.seq vs.toArray}->IntsAre vs ns->ns.length<=n->s₁.gens= #[]->
   codeAny (vJ l.prog w) callerA (.call (.ref fa) ⟨[.ref a],[]⟩) (λr s'=>r=.ok (.ret (.bool vH))/\OldK s₁.heap s'.heap/\s'.os=s₁.os/\AllBare s'.gens) s₁):
  WalkO q loose XP YP l.row.toRowW d [] (λf vs=>PySem.call f vs):=by
 intro w s₀ s₁ mg mb G Y fa o pm cd doc dV kV ho hd hcd hD hmg hg args vals as hpre hlay hrd hwl hlo;obtain rfl:dV=.none:=Dflts.none hD hdf;obtain rfl:kV=.none:=Dflts.noKw hD;obtain⟨a,vs,ns,rfl,rfl,hobj,hints,hlen⟩:=ZSf hn hpre hwl;refine enter_call (xR (call w s₀ s₁ mg mb fa o pm cd doc a vs ns G Y ho (fd_plain hd) hcd hmg hobj hints hlen hg) λr s' hq=>?_);obtain⟨rfl,h2,h3,h4⟩:=hq
 exact⟨.inl ⟨.bool vH,.bool vH,[],rfl,λ_=>rfl,.bool vH,ZUG l _,λ_=>⟨List.Pairwise.nil,λ_ hm=>(nomatch hm)⟩⟩,h2,h3,h4⟩
section
variable{prog:xA}{w:xF}{A:xw}{E:xE->xC->Prop}{s:xC}{K:vB}
def Sd(h:Heap):Heap:={h with objs:= #[]}
theorem Yk(h:Heap)(b:xj):(Sd h).get? b=vG:=by
 cases e:(Sd h).get? b with
 |none=>rfl
 |some o=>exact absurd (zw e) (xK _)
def ledger(h:Heap)(L d:xj):List (xj×Obj):=(zQ h.objs.size).filterMap λa=>if a=L∨a=d then vG else(h.get? a).map λo=>(a,o)
theorem O1:(a,o)∈ledger h L d↔a≠L/\a≠d/\h.get? a=vF o:=by
 unfold ledger;rw[List.mem_filterMap];constructor
 ·rintro⟨b,_,e⟩;split at e
  ·cases e
  ·rename_i hb;obtain⟨o',ho,e'⟩:=zP.mp e;cases e';exact⟨λq=>hb (.inl q),λq=>hb (.inr q),ho⟩
 ·rintro⟨n1,n2,ho⟩;refine⟨a,qz.mpr (zw ho),?_⟩
  rw[if_neg (show¬(a=L∨a=d)from λq=>q.elim n1 n2),ho]<;>rfl
theorem ZTt(n:h.Ns L m):Fr (Sd h) L h m:=
 ⟨n,λb o e=>(by rw[Yk]at e;cases e),jI _⟩
end
end Att
namespace _L
open PySem PySem.Spec PyProof.Rows
variable{P:xA}{fd:xy}{kvs:List (Key×V)}{pos:Pos}
theorem Pa:∀{vs:List xE}{ns:List Int},IntsAre vs ns->Vals (ns.map V.int) vs
 |_,_,.nil=>.nil
 |_,_,.cons n t h=>.cons ⟨t,rfl⟩ (Pa h)
def Only(H:Hp):Prop:=∀b,H b=vG∨∃o xs,H b=vF (.frz o (.lst xs))
theorem ZK9{w:xF}{K:PySem.W.Frag}{mg mb:Str->Option xE}{CX:CXT}{k:Nat}{fa a:xj}{x:Str}{sp:Sp}{s₁:xC}{vs:List xE}{ns:List Int}
  (KX:K.In s₁.heap) (hns:s₁.heap.Ns vZ mg) (hb:s₁.heap.Ns builtinsNs mb) (hbb:∀x:Str,x≠"__name__"->mb x=xO x) (hlim:s₁.heap.NoLimit) (hg:s₁.gens= #[])
  (ha:s₁.heap.get? a=vF {cls:=.type "list",data:=.seq vs.toArray}) (hi:IntsAre vs ns) (hl:ns.length<=sizeLine) (hr:Room k callerA)
  (F:∀base:Heap,K.In base->base.Ns vZ mg->FnOk P w K mg base CX k fa fd [x] sp) (hbind:∀(s:xC)(u:xE),BindsTo s fd ⟨[u],[]⟩ [(x,u)])
  (hsp:∀H:Hp,Only H->SqL K H a (ns.map V.int)->sp [.ref a] H (λv _=>v=.bl vH) λ_ _ _=>False)
  (hCX:∀H e s',CX [] H s₁ (λ_ _ _=>False) e s'->False):
  codeAny (vJ P w) callerA (.call (.ref fa) ⟨[.ref a],[]⟩) (λr s'=>r=.ok (.ret (.bool vH))/\OldK s₁.heap s'.heap/\s'.os=s₁.os/\AllBare s'.gens) s₁:=by
 have rv:=Pa hi;have lenV:=hi.length;have core:∀H:Hp,Only H->SqL K H a (ns.map V.int)->HOk P w H s₁.heap->(∀b,H b≠vG->b=a)->(H a≠vG->K.lookup a=vG)->
   codeAny (vJ P w) callerA (.call (.ref fa) ⟨[.ref a],[]⟩) (λr s'=>r=.ok (.ret (.bool vH))/\OldK s₁.heap s'.heap/\s'.os=s₁.os/\AllBare s'.gens) s₁:=by
  intro H hO hS hok hA hK;have base_of:∀{b:xj}{o:Obj},s₁.heap.get? b=vF o->H b=vG->(Im s₁.heap H).get? b=vF o:=λe n=>ZMp e n
  have noA:∀{b:xj}{o:Obj}{es:Array DictEntry}{ep:Nat},s₁.heap.get? b=vF o->o.data=.dict es ep->H b=vG:=λ{b o es ep}e d=>by
   cases q:H b with
   |none=>rfl
   |some u=>
    have e':b=a:=hA b (by rw[q];simp);subst e';rw[ha]at e;cases e;have d':Data.seq vs.toArray _=Data.dict es ep:=d;cases d'
  have nsK:∀{b:xj}{m:Str->Option xE},s₁.heap.Ns b m->(Im s₁.heap H).Ns b m:=λ{b m}⟨o,es,ep,e,d,r⟩=>⟨o,es,ep,base_of e (noA e d),d,r⟩
  have hKb:K.In (Im s₁.heap H):=λb o e=>base_of (KX b o e) (by
   cases q:H b with
   |none=>rfl
   |some u=>
    have e':b=a:=hA b (by rw[q];simp);subst e';rw[hK (by rw[q];simp)]at e;cases e)
  have hM:Mod K mg (Im s₁.heap H):=⟨hKb,nsK hns,⟨mb,nsK hb,hbb⟩,let⟨mc,h1,h2⟩:=hlim;⟨mc,nsK h1,h2⟩⟩
  have e0:Env0 P w K mg (Im s₁.heap H) callerA [] s₁ H:=⟨rfl,hM,λb o e=>ZPx e,Nat.le_of_eq (ZPS _ _),trivial,λb hb=>absurd (show b∈([]:List xj)from hb) (by simp),hok,.of_eq hg⟩
  refine xR ((F _ hKb (nsK hns)).run callerA [] s₁ H ⟨[.ref a],[]⟩ [.ref a] [.ref a] _ _ hr e0 (hbind s₁ (.ref a)) (.cons rfl .nil) (hsp H hO hS)) λr s' h=>?_
  cases r with
  |error e=>exact(hCX H e s' h).elim
  | ok fl=>
   cases fl with
   |next=>exact False.elim h
   |brk=>exact False.elim h
   |cont=>exact False.elim h
   | ret u=>
    obtain⟨v,H',os,bare,un,hok',r',q⟩:=h;have q':v=.bl vH:=q;subst q';obtain rfl:u=Value.bool vH:=r';refine⟨rfl,OldK.of_keep λb o e=>?_,os,bare⟩;cases q:H b with
    |none=>exact un.keep b o e q (by intro z;exact absurd (show b∈([]:List xj)from z) (by simp)) (by simp)
    |some u=>
     rcases hO b with z|⟨ob,xs,z⟩
     ·rw[q]at z;cases z
     ·have z2:=un.frzs b ob _ z;obtain⟨e1,_⟩:=hok b _ z;obtain⟨e2,_⟩:=hok' b _ z2;rw[e]at e1;cases e1;exact e2
 cases hk:K.lookup a with
 |some o=>
  have e:=KX a o hk;rw[ha]at e;cases e;refine core (λ_=>vG) (λ_=>.inl rfl) (.inr ⟨_,vs.toArray,_,hk,rfl,rfl,rfl,by rw[zY,lenV];exact hl,by simpa using rv⟩) (λb u z=>by have z':(vG:Option HO)=vF u:=z;cases z') (λb z=>absurd rfl z) λz=>absurd rfl z
 | none=>
  refine core (λb=>if b=a then vF (.frz {cls:=.type "list",data:=.seq vs.toArray} (.lst (ns.map V.int)))else vG) (λb=>?_) (.inl (.inr ⟨{cls:=.type "list",data:=.seq vs.toArray},if_pos rfl⟩)) (λb u z=>?_) (λb z=>?_) λ_=>hk
  ·by_cases hb:b=a
   ·exact .inr ⟨_,_,if_pos hb⟩
   ·exact .inl (if_neg hb)
  ·by_cases hb:b=a
   ·have z':=(if_pos hb).symm.trans z;cases z';subst hb;exact⟨ha,by rw[qq];exact hl,vs,_,rv,ha⟩
   ·have z':=(if_neg hb).symm.trans z;cases z'
  ·by_cases hb:b=a
   ·exact hb
   ·exact absurd (if_neg hb) z
theorem ZN0{l:PySem.W.OpenLaw}{n k:Nat}{q:xA}{loose:List Str}{XP:(Str->Option xE)->Heap->Prop}{YP:xF->Heap->Prop}{d:DefRec}{K:xF->PySem.W.Frag}{CX:xF->CXT}{sp:xF->Sp}{x:Str}
  (hn:l.most=vF n) (hn2:n<=sizeLine) (hdf:d.params.defaults=[]) (hr:Room k callerA)
  (hY:∀(w:xF)(h:Heap),YP w h->(K w).In h)
  (F:∀(w:xF)(mg:Str->Option xE)(fa:xj)(h:Heap),(K w).In h->h.Ns vZ mg->mg d.name=vF (.ref fa)->
   ∃fd:xy,(∀(s:xC)(u:xE),BindsTo s fd ⟨[u],[]⟩ [(x,u)])/\
    ∀base:Heap,(K w).In base->base.Ns vZ mg->FnOk l.prog w (K w) mg base (CX w) k fa fd [x] (sp w))
  (hsp:∀(w:xF)(H:Hp)(a:xj)(ns:List Int),ns.length<=n->Only H->SqL (K w) H a (ns.map V.int)->sp w [.ref a] H (λv _=>v=.bl vH) λ_ _ _=>False)
  (hCX:∀(w:xF)(H:Hp)(s:xC)(e:xE)(s':xC),CX w [] H s (λ_ _ _=>False) e s'->False):
  PySem.W.WalkO q loose XP YP l.row.toRowW d [] (λf vs=>PySem.call f vs):=by
 refine Att.ZMm hn hdf λw s₀ s₁ mg mb fa o pm cd doc a vs ns G Y ho hd hcd hmg hobj hints hlen hg=>?_
 have KX:=hY w _ Y;obtain⟨fd,hb,hF⟩:=F w mg fa _ KX G.T.g hmg;exact ZK9 KX G.T.g G.T.b G.T.builtins G.T.nolimit hg hobj hints (zC hlen hn2) hr hF hb (λH hO hS=>hsp w H a ns hlen hO hS) λH e s'=>hCX w H s₁ e s'
abbrev CX0:CXT:=λ_ _ _ _ _ _=>False
abbrev E0:XK:=λ_ _ _=>False
theorem pass0:Passes CX0 X E0:=λ_ _ _ _ _ _ _ h=>h.elim
structure Fun (K:PySem.W.Frag) (x qual:Str) (st:xD) (f:xj) (fd:xy):Prop where
 ex:∃(oc:xE)(od:Option xj)(kV doc pm:xE)(an:Option xj)(cdv ct:xE)(osl:Array (Option xE)),
  fd=PySem.W.fnOf x qual (Hd st) (Fe st) (Ak st) .none kV doc pm an cdv ct/\K.lookup f=vF ⟨oc,od,.func fd,osl⟩/\PySem.W.codeIn K cdv qual=vH
 kp:PySem.W.keepIn K (.ref f)=vH
section
variable{P:xA}{w:xF}{K:PySem.W.Frag}{mg:Str->Option xE}{base:Heap}
theorem Fun.ok{x qual:Str}{st:xD}{f:xj}{N ps:List Str}{k:Nat}{sp:Sp}(F:Fun K x qual st f fd)(S:FnScope N ps (Ak st))(len:∀vs H Q E,sp vs H Q E->vs.length=ps.length)
  (hbody:∀(cdv:xE)(A:xw)(outer:List Env)(s:xC)(H:Hp)(vs:List V)(Q:VK)(E:XK),Room k (A.deeper (envOfC qual (Ak st) s.heap.objs.size f cdv))->sp vs H Q E->
   ∃t,PSs (Kc CX0 P w K mg base N qual (Ak st) f cdv A outer s H E).nox (Fe st) t/\t {nx:=λ_ H'=>Q .non H',rt:=Q} (start N vs) H):FnOk P w K mg base CX0 (k+1) f fd ps sp:=by
 obtain⟨oc,od,kV,doc,pm,an,cdv,ct,osl,rfl,lk,hcd⟩:=F.ex;refine ZUq lk hcd S len λA outer s H vs Q E hr hsp=>?_
 obtain⟨t,h,q⟩:=hbody cdv A outer s H vs Q E hr hsp;exact⟨t,h.nox,q⟩
theorem Fun.binds{x qual:Str}{st:xD}{f:xj}{ps:List Str}(F:Fun K x qual st f fd)
  (h:∀(kV doc pm:xE)(an:Option xj)(cdv ct:xE)(us:List xE),us.length=ps.length->bindArgs (PySem.W.fnOf x qual (Hd st) (Fe st) (Ak st) .none kV doc pm an cdv ct) ⟨us,[]⟩=pure (ps.zip us)):Binds K fd ps []:=by
 obtain⟨oc,od,kV,doc,pm,an,cdv,ct,osl,rfl,lk,hcd⟩:=F.ex;exact .all (h kV doc pm an cdv ct)
end
section
variable{X:Cx}
end
section
variable{κ:Type}[DecidableEq κ]
def Fl(kvs:List (κ×V))(k:κ):Option V:=(kvs.find? λkv=>decide (kv.1=k)).map (·.2)
def putK(kvs:List (κ×V))(k:κ)(v:V):List (κ×V):=
 if(kvs.any λkv=>decide (kv.1=k))=vH then kvs.map (λkv=>if kv.1=k then(kv.1,v)else kv)else kvs++[(k,v)]
theorem ZGX{p:κ×V}{r:List (κ×V)}{k:κ}(e:p.1=k):Fl (p::r) k=vF p.2:=by simp[Fl,qy,e]
theorem ZGZ{p:κ×V}{r:List (κ×V)}{k:κ}(e:¬p.1=k):Fl (p::r) k=Fl r k:=by simp[Fl,qy,e]
theorem ZRZ(kvs:List (κ×V))(k:κ)(v:V):(putK kvs k v).length<=kvs.length+1:=by
 unfold putK;split
 ·rw[qq];lia
 ·rw[qj,qQ,jK];lia
theorem KV.val{kvs:List (κ×V)}{vs:List (κ×xE)}(r:KV kvs vs)(k:κ):RelO (Fl kvs k) (valueAt vs k):=by
 unfold KV at r
 induction r with
 |nil=>exact True.intro
 | @cons p q ps qs h t ih=>
  obtain⟨h1,h2⟩:=h;by_cases e:p.1=k
  ·have e':q.1=k:=h1.symm.trans e;have b:valueAt (q::qs) k=vF q.2:=by simp[valueAt,qy,e']
   rw[ZGX e,b];exact h2
  ·have e':¬q.1=k:=λz=>e (h1.trans z)
   have b:valueAt (q::qs) k=valueAt qs k:=by simp[valueAt,qy,e']
   rw[ZGZ e,b];exact ih
theorem KV.any{kvs:List (κ×V)}{vs:List (κ×xE)}(r:KV kvs vs)(k:κ):(kvs.any λkv=>decide (kv.1=k))=vs.any λkv=>decide (kv.1=k):=by
 unfold KV at r
 induction r with
 |nil=>rfl
 |cons h t ih=>rw[jG,jG,ih,h.1]
theorem KV.repl{kvs:List (κ×V)}{vs:List (κ×xE)}(r:KV kvs vs)(k:κ){y:V}{u:xE}(ry:RelV y u):
  KV (kvs.map λkv=>if kv.1=k then(kv.1,y)else kv) (vs.map λkv=>if kv.1=k then(kv.1,u)else kv):=by
 unfold KV at r⊢
 induction r with
 |nil=>exact .nil
 |@cons p q ps qs h t ih=>
  rw[zk,zk];refine .cons ?_ ih;obtain⟨h1,h2⟩:=h;by_cases e:p.1=k
  ·rw[if_pos e,if_pos (h1.symm.trans e)];exact⟨h1,ry⟩
  ·rw[if_neg e,if_neg (λz=>e (h1.trans z))];exact⟨h1,h2⟩
theorem KV.put{kvs:List (κ×V)}{vs:List (κ×xE)}(r:KV kvs vs)(k:κ){y:V}{u:xE}(ry:RelV y u):KV (putK kvs k y) (stored vs k u):=by
 unfold putK stored;rw[r.any k];by_cases e:(vs.any λkv=>decide (kv.1=k))=vH
 ·rw[if_pos e,if_pos e];exact r.repl k ry
 ·rw[if_neg e,if_neg e];exact Paired.snoc r ⟨rfl,ry⟩
end
theorem ZAs{w:xF}{k:Key}{u:xE}(r:RelV (kV k) u):(Gh P w).is k u=vH:=by
 cases k with
 |inl i=>obtain⟨t,e⟩:=(show∃t,u=Value.int i t from r);subst e;exact ZSL P w i t
 |inr x=>obtain⟨t,e⟩:=(show∃t,u=Value.str x t from r);subst e;exact ZT6 P w x t
theorem ZJe{w:xF}:∀{ks:List Key}{us:List xE},Vals (ks.map kV) us->ItemsAre (Gh P w) ks us
 |[],_,r=>by rw[jN]at r;cases r;exact .nil
 |k::ks,_,r=>by
  rw[zk]at r;cases r with
  |cons h t=>exact .cons (ZAs h) (ZJe t)
abbrev KT(H:Hp):List (List Key×V)->List (List Key×xj×xE)->Prop:=Paired λp q=>p.1=q.1/\H q.2.1=vF (.tup (p.1.map kV))/\RelV p.2 q.2.2
theorem KT.val{H:Hp}{kvs:List (List Key×V)}{xs:List (List Key×xj×xE)}(r:KT H kvs xs)(k:List Key):RelO (Fl kvs k) ((atKey xs k).map (·.2)):=by
 induction r with
 |nil=>exact True.intro
 | @cons p q ps qs h t ih=>
  obtain⟨h1,_,h2⟩:=h;by_cases e:p.1=k
  ·have e':q.1=k:=h1.symm.trans e;have b:atKey (q::qs) k=vF q.2:=by simp[atKey,qy,e']
   rw[ZGX e,b];exact h2
  ·have e':¬q.1=k:=λz=>e (h1.trans z)
   have b:atKey (q::qs) k=atKey qs k:=by simp[atKey,qy,e']
   rw[ZGZ e,b];exact ih
section
variable{P:xA}{w:xF}{H:Hp}{h:Heap}{a:xj}
theorem ZHV{u:HO}(ok:HOk P w H h)(e:Rd H a u):ObjOk P w H h a u:=e.ok ok
theorem Xv(ok:HOk P w H h)(e:Rd H a (.dK kvs)):kvs.length<=sizeLine/\(a==sysModules)=vI/\∃vs,KV kvs vs/\h.DictOf (Gh P w) a vs:=
 show ObjOk P w H h a (.dK kvs)from ZHV ok e
theorem ZO6(ok:HOk P w H h)(e:H a=vF (.dK kvs)):kvs.length<=sizeLine/\(a==sysModules)=vI/\∃vs,KV kvs vs/\h.DictOf (Gh P w) a vs:=Xv ok (.inl e)
theorem ZGA{ks:List Key}(ok:HOk P w H h)(e:H a=vF (.tup (ks.map kV))):(tupleKind (Gh P w)).is h ks a:=by
 obtain⟨_,its,r,o,h1,h2,n,h3⟩:=(show ObjOk P w H h a (.tup (ks.map kV))from ok a _ e)
 exact⟨o,its.toArray,n,h1,h2,h3,by simpa using ZJe r⟩
theorem ZGi{kvs:List (List Key×V)}(ok:HOk P w H h)(e:Rd H a (.dT kvs)):kvs.length<=sizeLine/\(a==sysModules)=vI/\
  ∃xs,KT H kvs xs/\h.DictOfH (tupleKind (Gh P w)) a xs:=by
 obtain⟨z,y,xs,r,o,es,ep,h1,h2,h3,h4,h5⟩:=(show ObjOk P w H h a (.dT kvs)from ZHV ok e)
 refine⟨z,y,xs,r,o,es,ep,h1,h2,h3,h4,λx hx=>?_,h5⟩;have all:∀{l:List (List Key×V)}{m:List (List Key×xj×xE)},KT H l m->∀x∈m,(tupleKind (Gh P w)).is h x.1 x.2.1:=by
  intro l m q
  induction q with
  |nil=>intro x hx;exact nomatch hx
  |@cons p q ps qs hq t ih=>
   intro x hx;rcases zq.mp hx with e|hx
   ·subst e;exact ZGA ok (by rw[<-hq.1];exact hq.2.1)
   ·exact ih x hx
 exact all r x hx
end
def DGet(H:Hp)(a:xj)(y:V)(r:Option V):Prop:=
 (∃kvs k,Rd H a (.dK kvs)/\y=kV k/\r=Fl kvs k)∨∃kvs k b,Rd H a (.dT kvs)/\y=.ref b/\H b=vF (.tup (k.map kV))/\r=Fl kvs k
theorem DGet.k{H:Hp}{a:xj}{k:Key}(e:H a=vF (.dK kvs)):DGet H a (kV k) (Fl kvs k):=.inl ⟨kvs,k,.inl e,rfl,rfl⟩
section
variable{X:Cx}{vE:List (xj×Obj)}{σ:St}{H:Hp}{s:xC}{a:xj}{y v:V}{u r:xE}{o:Option V}{A:xw}{E:xE->xC->Prop}
theorem Inv.big(I:Inv X vE σ H s):sysModules<s.heap.objs.size:=by have h:vZ<s.heap.objs.size:=(I.mod.glob.keeps I.bk).lt;exact Nat.lt_trans (by decide) h
theorem ZQv{Q:xE->xC->Prop}(hu:A.units+1<cLine)(I:Inv X vE σ H s)(g:DGet H a y (vF v))(ry:RelV y u)(h:∀w' s',Inv X vE σ H s'->RelV v w'->Q w' s'):
  vq (vJ X.prog X.w) A (getItem (.ref a) u) Q E s:=by
 rcases g with⟨kvs,k,e,ey,l⟩|⟨kvs,k,b,e,ey,eb,l⟩
 ·subst ey;obtain⟨z,hd,vs,rel,dd⟩:=Xv I.hok e;obtain⟨w',hw,rw'⟩:=RelO.some_of (v:=v) (o:=valueAt vs k) (by rw[l];exact rel.val k);exact wpAny_getItem_of (ZAs ry) dd.mapOf hw (h w' _ (I.tok _) rw')
 ·subst ey
  cases(show u=Value.ref b from ry)
  obtain⟨z,hd,xs,rel,dd⟩:=ZGi I.hok e
  obtain⟨w',hw,rw'⟩:=RelO.some_of (v:=v) (o:=(atKey xs k).map (·.2)) (by rw[l];exact rel.val k)
  obtain⟨p,hp,hp2⟩:=zP.mp hw;refine wpAny_getItem_heap (tupleKind_room_in1 hu) (ZGA I.hok eb) dd hp ?_;rw[hp2];exact h w' _ (I.tok _) rw'
theorem ZRn{h':Heap}{t':Nat}{ob:HO}(I:Inv X vE σ H s)(mu:Mut (H a))(hs:qC a s.heap h')(he:∃q,h'.get? a=vF q)(new:ObjOk X.prog X.w (upd H a ob) h' a ob):
  Inv X vE σ (upd H a ob) {s with heap:=h',toks:=t'}:=
 I.write (x:=a) (e:=a) mu (.inl rfl) (λb q hb z=>(hs.2 b hb).trans z) he new
theorem ZKb{w:xF}{H':Hp}{h':Heap}{vs:List (Key×xE)}(z:kvs.length<=sizeLine)(hd:(a==sysModules)=vI)(rel:KV kvs vs)(dd:h'.DictOf (Gh P w) a vs):
  ObjOk P w H' h' a (.dK kvs):=⟨z,hd,vs,rel,dd⟩
end
section
variable{X:Cx}{vE:List (xj×Obj)}{σ:St}{H:Hp}{s:xC}{a:xj}{kvs:List (Key×V)}{k:Key}{u:xE}{A:xw}{E:xE->xC->Prop}
end
theorem ZKV{X:Cx}{vE:List (xj×Obj)}{σ:St}{H:Hp}{s:xC}{a:xj}{y:V}{o:Option V}(I:Inv X vE σ H s)(g:DGet H a y o):s.TypeIs (.ref a) "dict":=by
 rcases g with⟨kvs,k,e,_,_⟩|⟨kvs,k,b,e,_,_,_⟩
 ·obtain⟨_,_,vs,_,dd⟩:=Xv I.hok e;exact dd.typeIs
 ·obtain⟨_,_,xs,_,dd⟩:=ZGi I.hok e;exact dd.typeIs
section
variable{X:Cx}{o i e value:xk}{pos pos' tpos:Pos}{td ty tv:TE}
end
theorem ZPY{w:xF}{H:Hp}(h:Heap)(hb:sysModules<h.objs.size):ObjOk P w H (h.push {cls:=.type "dict",data:=.dict #[]}) h.objs.size (.dK []):=
 ⟨jI _,beq_eq_false_iff_ne.mpr (Ne.symm (zG hb)),[],.nil,Heap.DictOf.new h⟩
section
variable{X:Cx}{pos:Pos}
end
def Rc:List (TE×TE)->St->Hp->(List (V×V)->Hp->Prop)->Prop
 |[],_,H,Q=>Q [] H
 |(tk,tv)::r,σ,H,Q=>tk σ H λx H1=>tv σ H1 λy H2=>Rc r σ H2 λps H3=>Q ((x,y)::ps) H3
abbrev VV:List (V×V)->List (xE×xE)->Prop:=Paired λp q=>RelV p.1 q.1/\RelV p.2 q.2
def PPs(X:Cx)(pos:Pos)(keys:List (Option xk))(values:List xk)(trs:List (TE×TE)):Prop:=
 ∀(vE:List (xj×Obj))(s:xC)(σ:St)(H:Hp)(Q:List (V×V)->Hp->Prop),Inv X vE σ H s->Rc trs σ H Q->
  vq (vJ X.prog X.w) X.A (evalPairs (pairTrees keys values X.env pos)) (λvs s'=>∃ps H',Inv X vE σ H' s'/\VV ps vs/\Q ps H') X.xe s
theorem ZPg{X:Cx}:PPs X pos [] [] []:=λvE s σ H Q I h=>pairTrees_nil_walk ⟨[],H,I,.nil,h⟩
theorem ZT5{X:Cx}{k v:xk}{ks:List (Option xk)}{vs:List xk}{tk tv:TE}{trs:List (TE×TE)}(hk:PE X k tk)(hv:PE X v tv)(hr:PPs X pos ks vs trs):
  PPs X pos (vF k::ks) (v::vs) ((tk,tv)::trs):=λvE s σ H Q I h=>
 pairTrees_cons_walk (thn (hk vE s σ H _ I h) λu s1 ⟨x,H1,I1,rx,q1⟩=>thn (hv vE s1 σ H1 _ I1 q1) λw2 s2 ⟨y,H2,I2,ry,q2⟩=>
  thn (hr vE s2 σ H2 _ I2 q2) λws s3 ⟨ps,H3,I3,rel,q3⟩=>⟨(x,y)::ps,H3,I3,.cons ⟨rx,ry⟩ rel,q3⟩)
def Lg(kvs more:List (Key×V)):List (Key×V):=more.foldl (λacc kv=>putK acc kv.1 kv.2) kvs
theorem KV.merge:∀{more:List (Key×V)}{rs:List (Key×xE)}{kvs:List (Key×V)}{vs:List (Key×xE)},KV more rs->KV kvs vs->KV (Lg kvs more) (merged vs rs):=by
 intro more rs kvs vs r;unfold KV at r
 induction r generalizing kvs vs with
 |nil=>intro q;exact q
 |@cons p q ps qs h t ih=>
  intro r0;have e:KV (putK kvs p.1 p.2) (stored vs q.1 q.2):=by have:=r0.put p.1 h.2;rw[<-h.1];exact this
  exact ih e
theorem ZEn:∀(more kvs:List (Key×V)),(Lg kvs more).length<=kvs.length+more.length
 |[],kvs=>by show kvs.length<=kvs.length+0;lia
 |p::r,kvs=>by have h1:=ZEn r (putK kvs p.1 p.2);have h2:=ZRZ kvs p.1 p.2;show(Lg (putK kvs p.1 p.2) r).length<=_;rw[qQ];lia
theorem ZIK{P:xA}{w:xF}:∀{kvs:List (Key×V)}{ws:List (xE×xE)},VV (kvs.map λkv=>(kV kv.1,kv.2)) ws->∃rs,Carries (Gh P w) ws rs/\KV kvs rs
 |[],_,r=>by rw[jN]at r;cases r;exact⟨[],True.intro,.nil⟩
 | p::kvs,_,r=>by
  rw[zk]at r;cases r with
  |@cons a b as bs h t=>
   obtain⟨rs,c,q⟩:=ZIK (P:=P) (w:=w) t;obtain⟨b1,b2⟩:=b;exact⟨(p.1,b2)::rs,⟨ZAs h.1,rfl,c⟩,.cons ⟨rfl,h.2⟩ q⟩
def ZK1(trs:List (TE×TE)):TE:=λσ H Q=>∀p,H p=vG->Rc trs σ (upd H p (.dK [])) λps H2=>H2 p=vF (.dK [])/\∃kvs:List (Key×V),ps=kvs.map (λkv=>(kV kv.1,kv.2))/\kvs.length<=15/\Q (.ref p) (upd H2 p (.dK (Lg [] kvs)))
theorem ZTd{X:Cx}{keys:List (Option xk)}{values:List xk}{trs:List (TE×TE)}(h:PPs X pos keys values trs)(hall:keys.all (·.isSome)=vH)(hl:keys.length=values.length)(h0:keys≠[])
  (h15:keys.length<=15):PE X (.Dict keys values pos) (ZK1 trs):=by
 intro vE s σ H Q I q;have hn:=I.hok.fresh (zK s.heap.objs.size);have I1:=I.laid (a:=s.heap.objs.size) (o:=.dK []) (h':=s.heap.push {cls:=.type "dict",data:=.dict #[]}) (t':=s.toks) (λ_ _ q=>zJ _ q) (zK _) (ZPY s.heap I.big);refine wpAny_Dict_walk (knd:=Gh X.prog X.w) hall hl h0 h15 (thn (h vE _ σ _ _ I1 (q _ hn)) λws s2 ⟨ps,H2,I2,rel,e,kvs,ep,lk,q2⟩=>?_)
 subst ep;obtain⟨rs,c,rk⟩:=ZIK (P:=X.prog) (w:=X.w) rel;obtain⟨z,hd,vs0,r0,dd⟩:=ZO6 I2.hok e;cases r0;refine⟨rs,c,dd,λh' dd' hs=>⟨.ref s.heap.objs.size,_,?_,rfl,q2⟩⟩;have hz:(Lg [] kvs).length<=sizeLine:=by have h1:=ZEn kvs [];rw[jK]at h1;rw[vV];lia
 have he:∃q,h'.get? s.heap.objs.size=vF q:=let⟨q,_,_,hq,_⟩:=dd';⟨q,hq⟩;exact ZRn I2 (by rw[e];exact True.intro) hs he (ZKb hz hd (rk.merge .nil) dd')
section
variable{X:Cx}{vE:List (xj×Obj)}{σ:St}{H:Hp}{s:xC}{a:xj}{y d:V}{u r:xE}{o:Option V}{A:xw}{E:xE->xC->Prop}
end
section
variable{X:Cx}{o e f:xk}{apos cpos:Pos}{td ty tx:TE}
end
section
variable{X:Cx}{vE:List (xj×Obj)}{σ:St}{H:Hp}{s:xC}{a:xj}{kvs:List (Key×V)}{A:xw}{E:xE->xC->Prop}
end
section
variable{X:Cx}{vE:List (xj×Obj)}{σ:St}{H:Hp}{s:xC}{a:xj}{y:V}{u:xE}{A:xw}{E:xE->xC->Prop}
end
section
variable{X:Cx}
end
end _L
namespace _L
section
variable{κ:Type}[DecidableEq κ]
end
end _L
namespace _D
open PySem PySem.Spec _L
open PyProof.Rows hiding St
variable{α:Type}{hi:Option Int}
inductive D where
 |non|bl (b:Bool)|int (i:Int)|str (x:Str)|ty (n:String)
 |tup (xs:List D)
 |fl (xs:List D)
 |ref (i:Nat)
inductive DO where
 |lst (xs:List D)
 |dct (kvs:List (Key×D))
 |ins (c:Str) (fs:List (Str×D))
 |tab (c m:Str)
 |exc (c:Str) (fs:List (Str×D))
 |gone
abbrev DH:=List DO
abbrev DSt:=List (Option D)
structure Xn where
 cls:Str
 fs:List (Str×D)
inductive R (α:Type) where
 |ok (a:α) (G:DH)
 |err (x:Xn) (G:DH)
 |bad
abbrev Fx{α:Type}(_:α):Type:=Unit
def R.bind{α β:Type}(f:α->DH->R β)(_:Fx f:=())(r:R α):R β:=match r with
 |.ok a G=>f a G
 |.err x G=>.err x G
 |.bad=>.bad
@[simp]theorem R.Hk{β:Type}(a:α)(G:DH)(f:α->DH->R β):(R.ok a G).bind f=f a G:=id rfl
inductive SR where
 |nx (S:DSt) (G:DH)
 |rt (d:D) (G:DH)
 |bk (S:DSt) (G:DH)
 |ct (S:DSt) (G:DH)
 |err (x:Xn) (G:DH)
 |bad
abbrev DE:=DSt->DH->R D
abbrev DB:=DSt->DH->R Bool
abbrev DA:=DSt->DH->R (List D)
abbrev DS:=DSt->DH->SR
def FzL(K:PySem.W.Frag)(H:Hp)(a:xj)(xs:List V):Prop:=
 (∃o,H a=vF (.frz o (.lst xs)))∨
  ∃(o:Obj)(its:Array xE)(n:Nat),K.lookup a=vF o/\o.cls=.type "list"/\o.dict=vG/\o.data=.seq its n/\its.size<=sizeLine/\Vals xs its.toList
theorem FzL.sq{K:PySem.W.Frag}{H:Hp}{a:xj}{xs:List V}(h:FzL K H a xs):SqL K H a xs:=by
 rcases h with⟨o,h⟩|h
 ·exact .inl (.inr ⟨o,h⟩)
 ·exact .inr h
structure Wd where
 K:PySem.W.Frag
 n:Nat
 m:Nat->xj
 H:Hp
mutual
def Rep(a:Wd):D->V->Prop
 |.non,v=>v=.non
 |.bl b,v=>v=.bl b
 |.int i,v=>v=.int i
 |.str x,v=>v=.str x
 |.ty n,v=>v=.ty n
 |.tup ds,v=>∃p vs,v=.ref p/\SqT a.K a.H p vs/\Reps a ds vs
 |.fl ds,v=>∃p vs,v=.ref p/\FzL a.K a.H p vs/\Reps a ds vs
 |.ref i,v=>i<a.n/\v=.ref (a.m i)
def Reps(a:Wd):List D->List V->Prop
 |[],vs=>vs=[]
 |d::ds,vs=>∃v r,vs=v::r/\Rep a d v/\Reps a ds r
end
def lamQ:Str:="Sending.send_by.<locals>.<lambda>"
def TabOk(H:Hp)(P:xj):Prop:=
 ∃ps:Array xE,H P=vF (.tbl ps)/\TriplesOk ps.toList/\∀pos cv,codeAmong pos ps.toList=vF cv->∃(c:xj)(oc:Obj)(vs:Array xE)(t:Tok),cv=.ref c/\H c=vF (.frz oc (.own 0))/\oc.data=.fields vs/\vs[1]?=vF (.str lamQ t)
theorem TabOk.mono(h:TabOk H P)(ht:∀p ps,H p=vF (.tbl ps)->H' p=vF (.tbl ps))(hf:∀p o u,H p=vF (.frz o u)->H' p=vF (.frz o u)):TabOk H' P:=by obtain⟨ps,e,t,k⟩:=h;refine⟨ps,ht _ _ e,t,λpos cv hc=>?_⟩;obtain⟨c,oc,vs,tk,e1,e2,e3,e4⟩:=k pos cv hc;exact⟨c,oc,vs,tk,e1,hf _ _ _ e2,e3,e4⟩
def TabAt(K:PySem.W.Frag)(C m:Str)(c P:xj):Prop:=
 ∃(Ca f:xj)(oc:xE)(od:Option xj)(fd:xy)(sl:Array (Option xE)),PySem.W.nsIn K vZ C=vF (vF (.ref Ca))/\PySem.W.findIn K (.ref Ca) m=vF (vF (.ref f))/\K.lookup f=vF ⟨oc,od,.func fd,sl⟩/\fd.code=.ref c/\PySem.W.codeHdIn K c P=vH
structure Ext (a b:Wd):Prop where
 k:b.K=a.K
 n:a.n<=b.n
 m:∀i,i<a.n->b.m i=a.m i
 tup:∀p xs,a.H p=vF (.tup xs)->b.H p=vF (.tup xs)
 frz:∀p o u,a.H p=vF (.frz o u)->b.H p=vF (.frz o u)
 tab:∀p,TabOk a.H p->TabOk b.H p
theorem Ext.refl(a:Wd):Ext a a:=⟨rfl,zK _,λ_ _=>rfl,λ_ _ h=>h,λ_ _ _ h=>h,λ_ h=>h⟩
theorem Ext.trans(x:Ext a b)(y:Ext b c):Ext a c:=
 ⟨y.k.trans x.k,zC x.n y.n,λi h=>(y.m i (zj h x.n)).trans (x.m i h),λp xs h=>y.tup p xs (x.tup p xs h),λp o u h=>y.frz p o u (x.frz p o u h),λp h=>y.tab p (x.tab p h)⟩
theorem Ext.sqT(x:Ext a b)(h:SqT a.K a.H p xs):SqT b.K b.H p xs:=by
 rcases h with(h|⟨o,h⟩)|h
 ·exact .inl (.inl (x.tup _ _ h))
 ·exact .inl (.inr ⟨o,x.frz _ _ _ h⟩)
 ·exact .inr (by rw[x.k];exact h)
theorem Ext.fzL(x:Ext a b)(h:FzL a.K a.H p xs):FzL b.K b.H p xs:=by
 rcases h with⟨o,h⟩|h
 ·exact .inl ⟨o,x.frz _ _ _ h⟩
 ·exact .inr (by rw[x.k];exact h)
mutual
theorem Rep.mono(x:Ext a b):∀{d:D}{v:V},Rep a d v->Rep b d v
 |.non,_,h=>h
 |.bl _,_,h=>h
 |.int _,_,h=>h
 |.str _,_,h=>h
 |.ty _,_,h=>h
 |.tup ds,v,h=>by obtain⟨p,vs,e,q,r⟩:=h;exact⟨p,vs,e,x.sqT q,Reps.mono x r⟩
 |.fl ds,v,h=>by obtain⟨p,vs,e,q,r⟩:=h;exact⟨p,vs,e,x.fzL q,Reps.mono x r⟩
 |.ref i,v,h=>by obtain⟨l,e⟩:=h;exact⟨zj l x.n,by rw[x.m i l];exact e⟩
theorem Reps.mono(x:Ext a b):∀{ds:List D}{vs:List V},Reps a ds vs->Reps b ds vs
 |[],_,h=>h
 |d::ds,vs,h=>by obtain⟨v,r,e,h1,h2⟩:=h;exact⟨v,r,e,Rep.mono x h1,Reps.mono x h2⟩
end
theorem Reps.length:∀{ds:List D}{vs:List V},Reps a ds vs->ds.length=vs.length
 |[],vs,h=>by cases(show vs=[]from h);rfl
 |d::ds,vs,h=>by obtain⟨v,r,e,h1,h2⟩:=h;subst e;show ds.length+1=r.length+1;rw[Reps.length h2]
theorem Reps.get:∀{ds:List D}{vs:List V}{i:Nat}{d:D},Reps a ds vs->ds[i]?=vF d->∃v,vs[i]?=vF v/\Rep a d v
 |[],vs,_,_,h,e=>by simp at e
 |d::ds,vs,0,d',h,e=>by obtain⟨v,r,e1,h1,h2⟩:=h;subst e1;simp at e;subst e;exact⟨v,rfl,h1⟩
 |d::ds,vs,i+1,d',h,e=>by obtain⟨v,r,e1,h1,h2⟩:=h;subst e1;obtain⟨w,e2,h3⟩:=Reps.get (i:=i) (d:=d') h2 (by simpa using e);exact⟨w,by simpa using e2,h3⟩
theorem Reps.get':∀{ds:List D}{vs:List V}{i:Nat}{v:V},Reps a ds vs->vs[i]?=vF v->∃d,ds[i]?=vF d/\Rep a d v
 |[],vs,_,_,h,e=>by cases(show vs=[]from h);simp at e
 |d::ds,vs,0,v',h,e=>by obtain⟨v,r,e1,h1,h2⟩:=h;subst e1;simp at e;subst e;exact⟨d,rfl,h1⟩
 |d::ds,vs,i+1,v',h,e=>by obtain⟨v,r,e1,h1,h2⟩:=h;subst e1;obtain⟨w,e2,h3⟩:=Reps.get' (i:=i) (v:=v') h2 (by simpa using e);exact⟨w,by simpa using e2,h3⟩
theorem Reps.append:∀{ds es:List D}{vs us:List V},Reps a ds vs->Reps a es us->Reps a (ds++es) (vs++us)
 |[],_,vs,_,h,h'=>by cases(show vs=[]from h);exact h'
 |d::ds,es,vs,us,h,h'=>by obtain⟨v,r,e1,h1,h2⟩:=h;subst e1;exact⟨v,r++us,rfl,h1,Reps.append h2 h'⟩
theorem Reps.cons(h:Rep a d v)(r:Reps a ds vs):Reps a (d::ds) (v::vs):=⟨v,vs,rfl,h,r⟩
theorem Reps.nil:Reps a [] []:=rfl
theorem Reps.set(h:Rep a d v):∀{ds:List D}{vs:List V}(i:Nat),Reps a ds vs->Reps a (ds.set i d) (vs.set i v)
 |[],vs,_,r=>by cases(show vs=[]from r);exact rfl
 |d'::ds,vs,0,r=>by obtain⟨v',r',e1,h1,h2⟩:=r;subst e1;exact⟨v,r',rfl,h,h2⟩
 |d'::ds,vs,i+1,r=>by obtain⟨v',r',e1,h1,h2⟩:=r;subst e1;exact⟨v',r'.set i v,rfl,h1,Reps.set h i h2⟩
theorem Reps.take:∀{ds:List D}{vs:List V}(i:Nat),Reps a ds vs->Reps a (ds.take i) (vs.take i)
 |_,_,0,_=>rfl
 |[],vs,_+1,r=>by cases(show vs=[]from r);exact rfl
 |d'::ds,vs,i+1,r=>by obtain⟨v',r',e1,h1,h2⟩:=r;subst e1;exact⟨v',r'.take i,rfl,h1,Reps.take i h2⟩
theorem Reps.drop:∀{ds:List D}{vs:List V}(i:Nat),Reps a ds vs->Reps a (ds.drop i) (vs.drop i)
 |_,_,0,r=>r
 |[],vs,_+1,r=>by cases(show vs=[]from r);exact rfl
 |d'::ds,vs,i+1,r=>by obtain⟨v',r',e1,h1,h2⟩:=r;subst e1;exact Reps.drop i h2
theorem Reps.ints:∀(ns:List Int),Reps a (ns.map D.int) (ns.map V.int)
 |[]=>rfl
 |n::ns=>⟨.int n,ns.map V.int,rfl,rfl,Reps.ints ns⟩
def RepKV(a:Wd)(kvs:List (Key×D))(us:List (Key×V)):Prop:=kvs.map (·.1)=us.map (·.1)/\Reps a (kvs.map (·.2)) (us.map (·.2))
def RepF(a:Wd)(fs:List (Str×D))(us:List (Str×V)):Prop:=fs.map (·.1)=us.map (·.1)/\Reps a (fs.map (·.2)) (us.map (·.2))
def XD(a:Wd)(od:Option xj)(fs:List (Str×D)):Prop:=(fs=[]/\od=vG)∨∃dx o us,od=vF dx/\a.H dx=vF (.frz o (.xd us))/\RepF a fs us
def ORep(a:Wd):DO->Option HO->Prop
 |.lst ds,o=>∃vs,o=vF (.lst vs)/\Reps a ds vs
 |.dct kvs,o=>∃us,o=vF (.dK us)/\RepKV a kvs us
 |.ins c fs,o=>∃C dx us,PySem.W.nsIn a.K vZ c=vF (vF (.ref C))/\o=vF (.ins C dx us)/\RepF a fs us
 |.tab C m,_=>∃c P,TabAt a.K C m c P/\TabOk a.H P
 |.exc c fs,o=>∃C oe u vs,PySem.W.nsIn a.K vZ c=vF (vF (.ref C))/\o=vF (.frz oe u)/\oe.cls=.ref C/\oe.data=.fields vs/\XD a oe.dict fs
 |.gone,_=>True
structure Sim (a:Wd) (G:DH):Prop where
 len:G.length=a.n
 inj:∀i j,i<a.n->j<a.n->a.m i=a.m j->i=j
 obj:∀(i:Nat)(o:DO),G[i]?=vF o->ORep a o (a.H (a.m i))
 tr:∀i,i<a.n->a.H (a.m i)≠vG
structure RepS (a:Wd) (S:DSt) (σ:St):Prop where
 len:S.length=σ.length
 get:∀(i:Nat)(d:D),S[i]?=vF (vF d)->∃v,σ[i]?=vF (vF v)/\Rep a d v
theorem RepS.mono(x:Ext a b)(r:RepS a S σ):RepS b S σ:=⟨r.len,λi d h=>let⟨v,e,q⟩:=r.get i d h;⟨v,e,q.mono x⟩⟩
theorem RepS.set(r:RepS a S σ)(i:Nat)(h:Rep a d v):RepS a (S.set i (vF d)) (σ.set i (vF v)):=by
 refine⟨by simpa using r.len,λj e he=>?_⟩;rw[jY]at he⊢;by_cases hij:i=j
 ·subst hij;rw[if_pos rfl]at he⊢;by_cases hl:i<S.length
  ·rw[if_pos hl]at he;have e1:d=e:=by simpa using he
   subst e1;rw[if_pos (by rw[<-r.len];exact hl)];exact⟨v,rfl,h⟩
  ·rw[if_neg hl]at he;cases he
 ·rw[if_neg hij]at he⊢;exact r.get j e he
def XOk(E:XK)(a:Wd)(x:Xn)(G:DH):Prop:=E≠E0/\∀(b:Wd)(C:xj)(od:Option xj),Ext a b->Sim b G->PySem.W.nsIn b.K vZ x.cls=vF (vF (.ref C))->XD b od x.fs->E (.ref C) od b.H
def out(E:XK)(a:Wd)(r:R D)(Q:VK):Prop:=match r with
 |.ok d G=>∀(b:Wd)(v:V),Ext a b->Sim b G->Rep b d v->Q v b.H
 |.err x G=>XOk E a x G
 |.bad=>False
def Ez(E:XK)(a:Wd)(r:R Bool)(Q:Bool->Hp->Prop):Prop:=match r with
 |.ok k G=>∀(b:Wd),Ext a b->Sim b G->Q k b.H
 |.err x G=>XOk E a x G
 |.bad=>False
def Fd(E:XK)(a:Wd)(r:R (List D))(Q:List V->Hp->Prop):Prop:=match r with
 |.ok ds G=>∀(b:Wd)(vs:List V),Ext a b->Sim b G->Reps b ds vs->Q vs b.H
 |.err x G=>XOk E a x G
 |.bad=>False
def Bw(E:XK)(a:Wd)(r:SR)(W:Ends):Prop:=match r with
 |.nx S G=>∀(b:Wd)(σ:St),Ext a b->Sim b G->RepS b S σ->W.nx σ b.H
 |.bk S G=>∀(b:Wd)(σ:St),Ext a b->Sim b G->RepS b S σ->W.bk σ b.H
 |.ct S G=>∀(b:Wd)(σ:St),Ext a b->Sim b G->RepS b S σ->W.ct σ b.H
 |.rt d G=>∀(b:Wd)(v:V),Ext a b->Sim b G->Rep b d v->W.rt v b.H
 |.err x G=>XOk E a x G
 |.bad=>False
theorem XOk.mono(x:Ext a b)(h:XOk E a e G):XOk E b e G:=⟨h.1,λc C od y s n q=>h.2 c C od (x.trans y) s n q⟩
theorem out.mono(x:Ext a b)(h:out E a r Q):out E b r Q:=by
 cases r with
 |ok d G=>exact λc v y s q=>h c v (x.trans y) s q
 |err e G=>exact XOk.mono (E:=E) (e:=e) (G:=G) x h
 |bad=>exact h
theorem Ez.mono(x:Ext a b)(h:Ez E a r Q):Ez E b r Q:=by
 cases r with
 |ok d G=>exact λc y s=>h c (x.trans y) s
 |err e G=>exact XOk.mono (E:=E) (e:=e) (G:=G) x h
 |bad=>exact h
theorem Fd.mono(x:Ext a b)(h:Fd E a r Q):Fd E b r Q:=by
 cases r with
 |ok d G=>exact λc vs y s q=>h c vs (x.trans y) s q
 |err e G=>exact XOk.mono (E:=E) (e:=e) (G:=G) x h
 |bad=>exact h
theorem Bw.mono(x:Ext a b)(h:Bw E a r W):Bw E b r W:=by
 cases r with
 |nx d G=>exact λc vs y s q=>h c vs (x.trans y) s q
 |bk d G=>exact λc vs y s q=>h c vs (x.trans y) s q
 |ct d G=>exact λc vs y s q=>h c vs (x.trans y) s q
 |rt d G=>exact λc vs y s q=>h c vs (x.trans y) s q
 |err e G=>exact XOk.mono (E:=E) (e:=e) (G:=G) x h
 |bad=>exact h
def lE(K:PySem.W.Frag)(E:XK)(t:DE):TE:=λσ H Q=>∃(a:Wd)(S:DSt)(G:DH),a.K=K/\a.H=H/\Sim a G/\RepS a S σ/\out E a (t S G) Q
def lB(K:PySem.W.Frag)(E:XK)(t:DB):TT:=λσ H Q=>∃(a:Wd)(S:DSt)(G:DH),a.K=K/\a.H=H/\Sim a G/\RepS a S σ/\Ez E a (t S G) Q
def lA(K:PySem.W.Frag)(E:XK)(t:DA):TA:=λσ H Q=>∃(a:Wd)(S:DSt)(G:DH),a.K=K/\a.H=H/\Sim a G/\RepS a S σ/\Fd E a (t S G) Q
def lS(K:PySem.W.Frag)(E:XK)(t:DS):TS:=λW σ H=>∃(a:Wd)(S:DSt)(G:DH),a.K=K/\a.H=H/\Sim a G/\RepS a S σ/\Bw E a (t S G) W
def lR2(K:PySem.W.Frag)(E:XK)(f:D->D->DH->R D):R2:=λx y H Q=>∃(a:Wd)(G:DH)(d e:D),a.K=K/\a.H=H/\Sim a G/\Rep a d x/\Rep a e y/\out E a (f d e G) Q
def lR1(K:PySem.W.Frag)(E:XK)(f:D->DH->R D):V->Hp->VK->Prop:=λx H Q=>∃(a:Wd)(G:DH)(d:D),a.K=K/\a.H=H/\Sim a G/\Rep a d x/\out E a (f d G) Q
def lRn(K:PySem.W.Frag)(E:XK)(f:List D->DH->R D):List V->Hp->VK->Prop:=λxs H Q=>∃(a:Wd)(G:DH)(ds:List D),a.K=K/\a.H=H/\Sim a G/\Reps a ds xs/\out E a (f ds G) Q
def lF(K:PySem.W.Frag)(f:List D->DH->R D):Sp:=λxs H Q _=>∃(a:Wd)(G:DH)(ds:List D),a.K=K/\a.H=H/\Sim a G/\Reps a ds xs/\out E0 a (f ds G) Q
section
variable{X:Cx}{E:XK}
def QE(X:Cx)(E:XK)(e:xk)(t:DE):Prop:=PE X e (lE X.K E t)
def QT(X:Cx)(E:XK)(e:xk)(t:DB):Prop:=PT X e (lB X.K E t)
def QA(X:Cx)(E:XK)(es:List xk)(t:DA):Prop:=PA X es (lA X.K E t)
def QS(X:Cx)(E:XK)(st:xD)(t:DS):Prop:=PS X st (lS X.K E t)
def QSs(X:Cx)(E:XK)(st:List xD)(t:DS):Prop:=PSs X st (lS X.K E t)
theorem _root_._L.PE.mono(h:PE X e t)(w:∀σ H Q,t' σ H Q->t σ H Q):PE X e t':=λvE s σ H Q I q=>h vE s σ H Q I (w σ H Q q)
theorem _root_._L.PT.mono(h:PT X e t)(w:∀σ H Q,t' σ H Q->t σ H Q):PT X e t':=λvE s σ H Q I q=>h vE s σ H Q I (w σ H Q q)
theorem _root_._L.PA.mono(h:PA X e t)(w:∀σ H Q,t' σ H Q->t σ H Q):PA X e t':=λpos vE s σ H Q I q=>h pos vE s σ H Q I (w σ H Q q)
theorem _root_._L.PS.mono(h:PS X e t)(w:∀W σ H,t' W σ H->t W σ H):PS X e t':=λvE s σ H W I q=>h vE s σ H W I (w W σ H q)
theorem _root_._L.PSs.mono(h:PSs X e t)(w:∀W σ H,t' W σ H->t W σ H):PSs X e t':=λvE s σ H W I q=>h vE s σ H W I (w W σ H q)
theorem _root_._L.OpR.mono(h:OpR X f r)(w:∀x y H Q,r' x y H Q->r x y H Q):OpR X f r':=λvE s σ H x y v u Q I rx ry q=>h vE s σ H x y v u Q I rx ry (w _ _ _ _ q)
end
theorem Ej(h:out E a (r.bind f) Q):
  out E a r (λv H=>∃(b:Wd)(d:D)(G:DH),b.H=H/\Ext a b/\Sim b G/\Rep b d v/\r=.ok d G/\out E b (f d G) Q):=by
 cases r with
 |ok d G=>exact λb v x s q=>⟨b,d,G,rfl,x,s,q,rfl,out.mono x h⟩
 |err e G=>exact h
 |bad=>exact h
theorem M3(h:out E a (r.bind f) Q):
  Fd E a r (λvs H=>∃(b:Wd)(ds:List D)(G:DH),b.H=H/\Ext a b/\Sim b G/\Reps b ds vs/\r=.ok ds G/\out E b (f ds G) Q):=by
 cases r with
 |ok d G=>exact λb v x s q=>⟨b,d,G,rfl,x,s,q,rfl,out.mono x h⟩
 |err e G=>exact h
 |bad=>exact h
theorem ZHD(h:out E a (r.bind f) Q):
  Ez E a r (λk H=>∃(b:Wd)(G:DH),b.H=H/\Ext a b/\Sim b G/\r=.ok k G/\out E b (f k G) Q):=by
 cases r with
 |ok d G=>exact λb x s=>⟨b,G,rfl,x,s,rfl,out.mono x h⟩
 |err e G=>exact h
 |bad=>exact h
theorem ZPF(h:Ez E a (r.bind f) Q):
  out E a r (λv H=>∃(b:Wd)(d:D)(G:DH),b.H=H/\Ext a b/\Sim b G/\Rep b d v/\r=.ok d G/\Ez E b (f d G) Q):=by
 cases r with
 |ok d G=>exact λb v x s q=>⟨b,d,G,rfl,x,s,q,rfl,Ez.mono x h⟩
 |err e G=>exact h
 |bad=>exact h
theorem ZCG(h:Ez E a (r.bind f) Q):
  Ez E a r (λk H=>∃(b:Wd)(G:DH),b.H=H/\Ext a b/\Sim b G/\r=.ok k G/\Ez E b (f k G) Q):=by
 cases r with
 |ok d G=>exact λb x s=>⟨b,G,rfl,x,s,rfl,Ez.mono x h⟩
 |err e G=>exact h
 |bad=>exact h
theorem ZNS(h:Fd E a (r.bind f) Q):
  out E a r (λv H=>∃(b:Wd)(d:D)(G:DH),b.H=H/\Ext a b/\Sim b G/\Rep b d v/\r=.ok d G/\Fd E b (f d G) Q):=by
 cases r with
 |ok d G=>exact λb v x s q=>⟨b,d,G,rfl,x,s,q,rfl,Fd.mono x h⟩
 |err e G=>exact h
 |bad=>exact h
theorem ZTN(h:Fd E a (r.bind f) Q):
  Fd E a r (λvs H=>∃(b:Wd)(ds:List D)(G:DH),b.H=H/\Ext a b/\Sim b G/\Reps b ds vs/\r=.ok ds G/\Fd E b (f ds G) Q):=by
 cases r with
 |ok d G=>exact λb v x s q=>⟨b,d,G,rfl,x,s,q,rfl,Fd.mono x h⟩
 |err e G=>exact h
 |bad=>exact h
def R.toS{α:Type}(f:α->DH->SR)(_:Fx f:=())(r:R α):SR:=match r with
 |.ok a G=>f a G
 |.err x G=>.err x G
 |.bad=>.bad
@[simp]theorem R.Cd(a:α)(G:DH)(f:α->DH->SR):(R.ok a G).toS f=f a G:=id rfl
theorem Gx(h:Bw E a (r.toS f) W):
  out E a r (λv H=>∃(b:Wd)(d:D)(G:DH),b.H=H/\Ext a b/\Sim b G/\Rep b d v/\r=.ok d G/\Bw E b (f d G) W):=by
 cases r with
 |ok d G=>exact λb v x s q=>⟨b,d,G,rfl,x,s,q,rfl,Bw.mono x h⟩
 |err e G=>exact h
 |bad=>exact h
theorem ZIa(h:Bw E a (r.toS f) W):
  Ez E a r (λk H=>∃(b:Wd)(G:DH),b.H=H/\Ext a b/\Sim b G/\r=.ok k G/\Bw E b (f k G) W):=by
 cases r with
 |ok d G=>exact λb x s=>⟨b,G,rfl,x,s,rfl,Bw.mono x h⟩
 |err e G=>exact h
 |bad=>exact h
section
theorem out.imp(h:out E a r Q)(w:∀v H,Q v H->Q' v H):out E a r Q':=by
 cases r with
 |ok d G=>exact λb v x s q=>w _ _ (h b v x s q)
 |err e G=>exact h
 |bad=>exact h
theorem Fd.imp(h:Fd E a r Q)(w:∀v H,Q v H->Q' v H):Fd E a r Q':=by
 cases r with
 |ok d G=>exact λb v x s q=>w _ _ (h b v x s q)
 |err e G=>exact h
 |bad=>exact h
theorem Ez.imp(h:Ez E a r Q)(w:∀v H,Q v H->Q' v H):Ez E a r Q':=by
 cases r with
 |ok d G=>exact λb x s=>w _ _ (h b x s)
 |err e G=>exact h
 |bad=>exact h
def Wd.push(a:Wd)(p:xj)(ho:HO):Wd:=⟨a.K,a.n+1,λk=>if k=a.n then p else a.m k,upd a.H p ho⟩
def Wd.put(a:Wd)(p:xj)(ho:HO):Wd:={a with H:=upd a.H p ho}
theorem Ext.put(h:a.H p=vG):Ext a (a.put p ho):=
 ⟨rfl,zK _,λ_ _=>rfl,λq xs e=>by show upd a.H p ho q=_;rw[Al (Gj e h)];exact e,λq o u e=>by show upd a.H p ho q=_;rw[Al (Gj e h)];exact e,λ_ t=>t.mono (λq ps e=>by show upd a.H p ho q=_;rw[Al (Gj e h)];exact e) (λq o u e=>by show upd a.H p ho q=_;rw[Al (Gj e h)];exact e)⟩
theorem Ext.push(h:a.H p=vG):Ext a (a.push p ho):=
 ⟨rfl,jA _,λi hi=>by show(if i=a.n then p else a.m i)=a.m i;rw[if_neg (zG hi)],λq xs e=>by show upd a.H p ho q=_;rw[Al (Gj e h)];exact e,λq o u e=>by show upd a.H p ho q=_;rw[Al (Gj e h)];exact e,λ_ t=>t.mono (λq ps e=>by show upd a.H p ho q=_;rw[Al (Gj e h)];exact e) (λq o u e=>by show upd a.H p ho q=_;rw[Al (Gj e h)];exact e)⟩
theorem XD.mono(x:Ext a b)(h:XD a od fs):XD b od fs:=by
 rcases h with h|⟨dx,o,us,e,f,k,r⟩
 ·exact .inl h
 ·exact .inr ⟨dx,o,us,e,x.frz _ _ _ f,k,r.mono x⟩
theorem ORep.mono(x:Ext a b)(h:ORep a o q):ORep b o q:=by
 cases o with
 |lst ds=>obtain⟨vs,e,r⟩:=h;exact⟨vs,e,r.mono x⟩
 |dct kvs=>obtain⟨us,e,k,r⟩:=h;exact⟨us,e,k,r.mono x⟩
 |ins c fs=>obtain⟨C,dx,us,n,e,k,r⟩:=h;exact⟨C,dx,us,by rw[x.k];exact n,e,k,r.mono x⟩
 |tab C m=>obtain⟨c,P,e,t⟩:=h;exact⟨c,P,by rw[x.k];exact e,x.tab _ t⟩
 |exc c fs=>obtain⟨C,oe,u,vs,n,e,k1,k2,z⟩:=h;exact⟨C,oe,u,vs,by rw[x.k];exact n,e,k1,k2,z.mono x⟩
 |gone=>trivial
theorem Sim.lt(s:Sim a G)(h:G[i]?=vF o):i<a.n:=by rw[<-s.len];exact(zH.mp h).1
theorem Sim.put(s:Sim a G)(h:a.H p=vG):Sim (a.put p ho) G:=by
 refine⟨s.len,s.inj,λi o e=>?_,λi hi=>?_⟩
 ·have z:a.H (a.m i)≠vG:=s.tr i (s.lt e);have ne:a.m i≠p:=λq=>z (by rw[q];exact h)
  show ORep _ o (upd a.H p ho (a.m i));rw[Al ne];exact(s.obj i o e).mono (Ext.put h)
 ·have z:a.H (a.m i)≠vG:=s.tr i hi;have ne:a.m i≠p:=λq=>z (by rw[q];exact h)
  show upd a.H p ho (a.m i)≠vG;rw[Al ne];exact z
theorem Sim.push(s:Sim a G)(h:a.H p=vG)(r:ORep (a.push p ho) o (vF ho)):Sim (a.push p ho) (G++[o]):=by
 have nep:∀i,i<a.n->a.m i≠p:=λi hi q=>s.tr i hi (by rw[q];exact h)
 have old:∀i,i<a.n->(a.push p ho).m i=a.m i:=λi hi=>by show(if i=a.n then p else a.m i)=_;rw[if_neg (zG hi)]
 have new:(a.push p ho).m a.n=p:=by show(if a.n=a.n then p else a.m a.n)=_;rw[if_pos rfl]
 refine⟨by simp[s.len,Wd.push],λi j hi hj e=>?_,λi u e=>?_,λi hi=>?_⟩
 ·have hi':i<a.n+1:=hi;have hj':j<a.n+1:=hj;by_cases h1:i<a.n
  ·by_cases h2:j<a.n
   ·rw[old i h1,old j h2]at e;exact s.inj i j h1 h2 e
   ·have:j=a.n:=by lia
    subst this;rw[old i h1,new]at e;exact absurd e (nep i h1)
  ·have:i=a.n:=by lia
   subst this;by_cases h2:j<a.n
   ·rw[old j h2,new]at e;exact absurd e.symm (nep j h2)
   ·lia
 ·by_cases h1:i<a.n
  ·rw[qV (by rw[s.len];exact h1)]at e;rw[old i h1];show ORep _ u (upd a.H p ho (a.m i));rw[Al (nep i h1)];exact(s.obj i u e).mono (Ext.push h)
  ·have hl:i<(G++[o]).length:=(zH.mp e).1;have:i=a.n:=by rw[qj,s.len]at hl;simp at hl;lia
   subst this;rw[zM (by rw[s.len];exact zK _),s.len]at e;simp at e;subst e;rw[new];show ORep _ o (upd a.H p ho p);rw[Ei];exact r
 ·have hi':i<a.n+1:=hi;by_cases h1:i<a.n
  ·rw[old i h1];show upd a.H p ho (a.m i)≠vG;rw[Al (nep i h1)];exact s.tr i h1
  ·have:i=a.n:=by lia
   subst this;rw[new];show upd a.H p ho p≠vG;rw[Ei];simp
theorem Ext.wr(h:a.H p=vF (.lst vs)):Ext a (a.put p ho):=
 ⟨rfl,zK _,λ_ _=>rfl,λq xs e=>by
  show upd a.H p ho q=_;rw[Al (λz=>by subst z;rw[h]at e;cases e)];exact e,λq o u e=>by
  show upd a.H p ho q=_;rw[Al (λz=>by subst z;rw[h]at e;cases e)];exact e,λ_ t=>t.mono (λq ps e=>by show upd a.H p ho q=_;rw[Al (λz=>by subst z;rw[h]at e;cases e)];exact e) (λq o u e=>by show upd a.H p ho q=_;rw[Al (λz=>by subst z;rw[h]at e;cases e)];exact e)⟩
theorem Sim.wr(s:Sim a G)(hi:i<a.n)(h:a.H (a.m i)=vF (.lst vs))(r:Reps (a.put (a.m i) (.lst vs')) ds' vs'):Sim (a.put (a.m i) (.lst vs')) (G.set i (.lst ds')):=by
 refine⟨by rw[j9];exact s.len,s.inj,λj o e=>?_,λj hj=>?_⟩
 ·rw[jY]at e;show ORep _ o (upd a.H (a.m i) (.lst vs') (a.m j));by_cases hij:i=j
  ·subst hij;rw[if_pos rfl,if_pos (by rw[s.len];exact hi)]at e;cases e;rw[Ei];exact⟨vs',rfl,r⟩
  ·rw[if_neg hij]at e;rw[Al λz=>hij (s.inj _ _ (s.lt e) hi z).symm];exact(s.obj j o e).mono (Ext.wr h)
 ·show upd a.H (a.m i) (.lst vs') (a.m j)≠vG;by_cases hij:a.m j=a.m i
  ·rw[hij,Ei];simp
  ·rw[Al hij];exact s.tr j hj
mutual
noncomputable def bel(n:Nat):D->Bool
 |.ref i=>decide (i<n)
 |.tup ds=>bels n ds
 |.fl ds=>bels n ds
 |_=>vH
noncomputable def bels(n:Nat):List D->Bool
 |[]=>vH
 |d::ds=>bel n d&&bels n ds
end
def Kv(n:Nat):DO->Bool
 |.lst ds=>bels n ds
 |.dct kvs=>bels n (kvs.map (·.2))
 |.ins _ fs=>bels n (fs.map (·.2))
 |.tab _ _=>vH
 |.exc _ fs=>bels n (fs.map (·.2))
 |.gone=>vH
mutual
theorem Rep.bel:∀{d:D}{v:V},Rep a d v->bel a.n d=vH
 |.non,_,_=>by simp[_D.bel]
 |.bl _,_,_=>by simp[_D.bel]
 |.int _,_,_=>by simp[_D.bel]
 |.str _,_,_=>by simp[_D.bel]
 |.ty _,_,_=>by simp[_D.bel]
 |.tup ds,v,h=>by obtain⟨p,vs,e,q,r⟩:=h;simp only[_D.bel];exact Reps.bels r
 |.fl ds,v,h=>by obtain⟨p,vs,e,q,r⟩:=h;simp only[_D.bel];exact Reps.bels r
 |.ref i,v,h=>by obtain⟨l,e⟩:=h;simp only[_D.bel];exact decide_eq_true l
theorem Reps.bels:∀{ds:List D}{vs:List V},Reps a ds vs->bels a.n ds=vH
 |[],_,_=>by simp[_D.bels]
 |d::ds,vs,h=>by
  obtain⟨v,r,e,h1,h2⟩:=h;simp only[_D.bels];rw[Rep.bel h1,Reps.bels h2]
  rfl
end
structure Cut (b c:Wd):Prop where
 k:c.K=b.K
 h:c.H=b.H
mutual
theorem Rep.cut(x:Cut b c)(hn:n<=c.n)(hm:∀i,i<n->c.m i=b.m i):∀{d:D}{v:V},Rep b d v->bel n d=vH->Rep c d v
 |.non,_,h,_=>h
 |.bl _,_,h,_=>h
 |.int _,_,h,_=>h
 |.str _,_,h,_=>h
 |.ty _,_,h,_=>h
 |.tup ds,v,h,q=>by obtain⟨p,vs,e,t,r⟩:=h;simp only[_D.bel]at q;exact⟨p,vs,e,by rw[x.k,x.h];exact t,Reps.cut x hn hm r q⟩
 |.fl ds,v,h,q=>by obtain⟨p,vs,e,t,r⟩:=h;simp only[_D.bel]at q;exact⟨p,vs,e,by rw[x.k,x.h];exact t,Reps.cut x hn hm r q⟩
 |.ref i,v,h,q=>by obtain⟨l,e⟩:=h;simp only[_D.bel]at q;have q':=of_decide_eq_true q;exact⟨zj q' hn,by rw[hm i q'];exact e⟩
theorem Reps.cut(x:Cut b c)(hn:n<=c.n)(hm:∀i,i<n->c.m i=b.m i):∀{ds:List D}{vs:List V},Reps b ds vs->bels n ds=vH->Reps c ds vs
 |[],_,h,_=>h
 |d::ds,vs,h,q=>by obtain⟨v,r,e,h1,h2⟩:=h;simp only[_D.bels,zE]at q;exact⟨v,r,e,Rep.cut x hn hm h1 q.1,Reps.cut x hn hm h2 q.2⟩
end
theorem ORep.cut(x:Cut b c)(hn:n<=c.n)(hm:∀i,i<n->c.m i=b.m i)(h:ORep b o q)(l:Kv n o=vH):ORep c o q:=by
 cases o with
 |lst ds=>obtain⟨vs,e,r⟩:=h;exact⟨vs,e,Reps.cut x hn hm r l⟩
 |dct kvs=>obtain⟨us,e,k,r⟩:=h;exact⟨us,e,k,Reps.cut x hn hm r l⟩
 |ins c fs=>obtain⟨C,dx,us,n,e,k,r⟩:=h;exact⟨C,dx,us,by rw[x.k];exact n,e,k,Reps.cut x hn hm r l⟩
 |tab C m=>obtain⟨c,P,e,t⟩:=h;exact⟨c,P,by rw[x.k];exact e,by rw[x.h];exact t⟩
 |exc c fs=>
  obtain⟨C,oe,u,vs,n,e,k1,k2,z⟩:=h;refine⟨C,oe,u,vs,by rw[x.k];exact n,e,k1,k2,?_⟩;rcases z with z|⟨dx,o,us,e,f,k,r⟩
  ·exact .inl z
  ·exact .inr ⟨dx,o,us,e,by rw[x.h];exact f,k,Reps.cut x hn hm r l⟩
 |gone=>trivial
theorem ORep.Kv(h:ORep a o q):Kv a.n o=vH:=by
 cases o with
 |lst ds=>obtain⟨vs,e,r⟩:=h;exact r.bels
 |dct kvs=>obtain⟨us,e,k,r⟩:=h;exact r.bels
 |ins c fs=>obtain⟨C,dx,us,n,e,k,r⟩:=h;exact r.bels
 |tab C m=>rfl
 |exc c fs=>
  obtain⟨C,oe,u,vs,n,e,k1,k2,z⟩:=h;rcases z with⟨z,_⟩|⟨dx,o,us,e,f,k,r⟩
  ·rw[z];rfl
  ·exact r.bels
 |gone=>rfl
open Classical in
def tidy (G:DH) (r:R D):R D:=match r with
 | .ok d G'=>if G'.take G.length=G then
   (if bel G.length d=vH then .ok d G else match d with
    |.ref i=>match G'[i]? with
     |some o=>if Kv G.length o=vH then .ok (.ref G.length) (G++[o])else .ok d G'
     |none=>.ok d G'
    |_=>.ok d G')else .ok d G'
 |r=>r
theorem ZJG (s:Sim a G) (h:out E a (tidy G r) Q):out E a r Q:=by
 cases r with
 |err e G'=>exact h
 |bad=>exact h
 | ok d G'=>
  intro b v x sb rb;unfold tidy at h;dsimp only at h;split at h
  ·rename_i hG;have hlen:∀i o,G[i]?=vF o->G'[i]?=vF o:=λi o e=>by have hi:i<G.length:=(zH.mp e).1;rw[<-hG,j7 hi]at e;exact e
   have base:∀(c:Wd),Cut b c->a.n<=c.n->(∀i,i<a.n->c.m i=b.m i)->∀i o,G[i]?=vF o->ORep c o (c.H (c.m i)):=λc cc hn hm i o e=>by have q:=sb.obj i o (hlen i o e);rw[cc.h,hm i (s.lt e)];exact q.cut cc hn hm (s.obj i o e).Kv
   split at h
   ·rename_i hb;rw[s.len]at hb;let c:Wd:=⟨b.K,a.n,b.m,b.H⟩;have cc:Cut b c:=⟨rfl,rfl⟩;refine h c v ⟨x.k,zK _,x.m,x.tup,x.frz,x.tab⟩ ⟨s.len,λi j hi hj=>sb.inj i j (zj hi x.n) (zj hj x.n),base c cc (zK _) (λ_ _=>rfl),λi hi=>sb.tr i (zj hi x.n)⟩ ?_;exact rb.cut cc (zK _) (λ_ _=>rfl) hb
   ·rename_i hb;split at h
    ·rename_i i;obtain⟨il,iv⟩:=rb;split at h
     ·rename_i o ho;split at h
      ·rename_i hbo;rw[s.len]at hbo hb h;simp only[_D.bel,decide_eq_true_eq]at hb;let c:Wd:=⟨b.K,a.n+1,λk=>if k=a.n then b.m i else b.m k,b.H⟩;have cc:Cut b c:=⟨rfl,rfl⟩;have cm:∀j,j<a.n->c.m j=b.m j:=λj hj=>by show(if j=a.n then b.m i else b.m j)=_;rw[if_neg (zG hj)]
       have cn:c.m a.n=b.m i:=by show(if a.n=a.n then b.m i else b.m a.n)=_;rw[if_pos rfl]
       have lt':∀j,j<a.n->j<b.n:=λj hj=>zj hj x.n
       refine h c v ⟨x.k,jA _,λj hj=>(cm j hj).trans (x.m j hj),x.tup,x.frz,x.tab⟩ ⟨by simp[s.len,c],λj k hj hk e=>?_,λj u e=>?_,λj hj=>?_⟩ ⟨qY _,by rw[cn];exact iv⟩
       ·have hj':j<a.n+1:=hj;have hk':k<a.n+1:=hk;by_cases h1:j<a.n
        ·by_cases h2:k<a.n
         ·rw[cm j h1,cm k h2]at e;exact sb.inj j k (lt' j h1) (lt' k h2) e
         ·have:k=a.n:=by lia
          subst this;rw[cm j h1,cn]at e;have:=sb.inj j i (lt' j h1) il e;lia
        ·have:j=a.n:=by lia
         subst this;by_cases h2:k<a.n
         ·rw[cm k h2,cn]at e;have:=sb.inj i k il (lt' k h2) e;lia
         ·lia
       ·by_cases h1:j<a.n
        ·rw[qV (by rw[s.len];exact h1)]at e;exact base c cc (jA _) cm j u e
        ·have hl:j<(G++[o]).length:=(zH.mp e).1;have:j=a.n:=by rw[qj,s.len]at hl;simp at hl;lia
         subst this;rw[zM (by rw[s.len];exact zK _),s.len]at e;simp at e;subst e;rw[cn];exact(sb.obj i o ho).cut cc (jA _) cm hbo
       ·have hj':j<a.n+1:=hj;by_cases h1:j<a.n
        ·rw[cm j h1];exact sb.tr j (lt' j h1)
        ·have:j=a.n:=by lia
         subst this;rw[cn];exact sb.tr i il
      ·exact h b v x sb ⟨il,iv⟩
     ·exact h b v x sb ⟨il,iv⟩
    ·exact h b v x sb rb
  ·exact h b v x sb rb
end
def dV(i:Nat):DE:=λS G=>match S[i]? with
 |some (vF d)=>.ok d G
 |_=>.bad
def dC(d:D):DE:=λ_ G=>.ok d G
def dOp(f:D->D->DH->R D)(a b:DE):DE:=λS G=>(a S G).bind λx G1=>(b S G1).bind λy G2=>f x y G2
def dUn(f:D->DH->R D)(a:DE):DE:=λS G=>(a S G).bind f
def Ab:DA:=λ_ G=>.ok [] G
def Aa(a:DE)(r:DA):DA:=λS G=>(a S G).bind λx G1=>(r S G1).bind λxs G2=>.ok (x::xs) G2
def dFn(f:List D->DH->R D)(t:DA):DE:=λS G=>(t S G).bind f
def Cr(t:DE):DE:=λS G=>tidy G (t S G)
def asB:D->DH->R Bool
 |.bl k,G=>.ok k G
 |_,_=>.bad
def Ag(t:DE):DB:=λS G=>(t S G).bind asB
def J7(t u:DB):DB:=λS G=>(t S G).bind λk G1=>if k=vH then u S G1 else .ok vI G1
def dOr(t u:DB):DB:=λS G=>(t S G).bind λk G1=>if k=vH then .ok vH G1 else u S G1
def Gy(t:DB):DB:=λS G=>(t S G).bind λk G1=>.ok (!k) G1
def Je(t u:DE):DE:=λS G=>(t S G).bind λx G1=>(asB x G1).bind λk G2=>if k=vH then u S G2 else .ok (.bl vI) G2
def R0(t u:DE):DE:=λS G=>(t S G).bind λx G1=>(asB x G1).bind λk G2=>if k=vH then .ok (.bl vH) G2 else u S G2
def Qv(t:DE):DE:=λS G=>(t S G).bind λx G1=>(asB x G1).bind λk G2=>.ok (.bl (!k)) G2
def dIf(c:DB)(t u:DE):DE:=λS G=>(c S G).bind λk G1=>if k=vH then t S G1 else u S G1
def K5(f g:D->D->DH->R D)(a b c:DE):DE:=λS G=>(a S G).bind λx G1=>(b S G1).bind λy G2=>(f x y G2).bind λz G3=>(asB z G3).bind λk G4=>
 if k=vH then(c S G4).bind λw G5=>g y w G5 else .ok (.bl vI) G4
def An(ds:List D)(G:DH):R D:=if ds.length<=1000000 then .ok (.tup ds) G else .bad
def Ah(ds:List D)(G:DH):R D:=if ds.length<=1000000 then .ok (.ref G.length) (G++[.lst ds])else .bad
def Bg(d:D)(G:DH):Option (List D):=match d with
 |.tup xs=>vF xs
 |.fl xs=>vF xs
 |.ref i=>match G[i]? with
  |some (.lst xs)=>vF xs
  |_=>vG
 |_=>vG
theorem size6:(1000000:Nat)<=sizeLine:=by decide
section
variable{X:Cx}{E:XK}{a b c:xk}{ta tb tc:DE}{pos:Pos}
theorem two{K:PySem.W.Frag}{f:D->D->DH->R D}{σ:St}{H:Hp}{Q:VK}(h:lE K E (dOp f ta tb) σ H Q):tOp (lR2 K E f) (lE K E ta) (lE K E tb) σ H Q:=by obtain⟨a,S,G,hk,rfl,s,r,h⟩:=h;refine⟨a,S,G,hk,rfl,s,r,(Ej h).imp ?_⟩;rintro v _ ⟨b,d,G1,rfl,x,s1,q,_,h1⟩;refine⟨b,S,G1,x.k.trans hk,rfl,s1,r.mono x,(Ej h1).imp ?_⟩;rintro w _ ⟨c,e,G2,rfl,y,s2,q2,_,h2⟩;exact⟨c,G2,d,e,y.k.trans (x.k.trans hk),rfl,s2,q.mono y,q2,h2⟩
theorem Mm(i:Nat){pos:Pos}(hN:X.N[i]?=vF x:=by rfl)(hv:Vis X.env.scope x:=by first|exact Or.inl rfl|exact Or.inr (Or.inl rfl)|exact Or.inr (Or.inr rfl))(hd:(x==("__debug__":Str))=vI:=by decide)
  (hcd:(x==("__classdict__":Str))=vI:=by decide):QE X E (.Name x pos) (dV i):=by
 refine(ZQ8 hN hv hd hcd).mono λσ H Q h=>?_
 obtain⟨a,S,G,hk,rfl,s,r,h⟩:=h;unfold dV at h;split at h
 ·rename_i d e;obtain⟨v,e',q⟩:=r.get i d e;exact⟨v,e',h a v (Ext.refl a) s q⟩
 ·exact h.elim
theorem My{K:PySem.W.Frag}{d:D}{v:V}{σ:St}{H:Hp}{Q:VK}(h:lE K E (dC d) σ H Q)(r:∀a:Wd,a.K=K->Rep a d v):Q v H:=by obtain⟨a,S,G,hk,rfl,s,_,h⟩:=h;exact h a v (Ext.refl a) s (r a hk)
theorem Mh{i:Int}{j:Nat}:QE X E (.Constant (.int i) j pos) (dC (.int i)):=ZMB.mono λσ H Q h=>My h λ_ _=>rfl
theorem ZRe{i:Bool}{j:Nat}:QE X E (.Constant (.bool i) j pos) (dC (.bl i)):=ZOE.mono λσ H Q h=>My h λ_ _=>rfl
theorem ZKe{j:Nat}:QE X E (.Constant .none j pos) (dC .non):=ZUo.mono λσ H Q h=>My h λ_ _=>rfl
theorem ZNP{i:Str}{j:Nat}:QE X E (.Constant (.str i) j pos) (dC (.str i)):=ZEl.mono λσ H Q h=>My h λ_ _=>rfl
theorem Wy(hg:Gl X x)(hm:X.mg x=vF u)(r:RelV v u)(rd:∀a:Wd,a.K=X.K->Rep a d v)(hd:(x==("__debug__":Str))=vI:=by decide):QE X E (.Name x pos) (dC d):=
 (ZBj hg hm r hd).mono λσ H Q h=>My h rd
theorem ZLm(ho:OpR X (xN op) (lR2 X.K E f))(ha:QE X E a ta)(hb:QE X E b tb):QE X E (.BinOp a op b pos) (dOp f ta tb):=
 (ZMV ho ha hb).mono λ_ _ _ h=>two h
theorem ZUC(ho:OpR X (xS op) (lR2 X.K E f))(ha:QE X E a ta)(hb:QE X E b tb)(hm:xM op b=vI):QE X E (.Compare a [op] [b] pos) (dOp f ta tb):=
 (ZSv ho ha hb hm).mono λ_ _ _ h=>two h
theorem Rx{K:PySem.W.Frag}{t:DE}{σ:St}{H:Hp}{Q:Bool->Hp->Prop}(h:lB K E (Ag t) σ H Q):Q0 (lE K E t) σ H Q:=by
 obtain⟨a,S,G,hk,rfl,s,r,h⟩:=h;refine⟨a,S,G,hk,rfl,s,r,(ZPF h).imp ?_⟩;rintro v _ ⟨b,d,G1,rfl,x,s1,q,_,h1⟩;cases d with
 |bl k=>exact⟨k,q,h1 b (Ext.refl b) s1⟩
 |_=>exact h1.elim
theorem ZBW(w:∀σ H Q,t' σ H Q->t σ H Q)(σ:St)(H:Hp)(Q:Bool->Hp->Prop)(h:Q0 t' σ H Q):Q0 t σ H Q:=w _ _ _ h
theorem Tq(ho:OpR X (xS op) (lR2 X.K E f))(ha:QE X E a ta)(hb:QE X E b tb)(hm:xM op b=vI):QT X E (.Compare a [op] [b] pos) (Ag (dOp f ta tb)):=
 (ZGO ho ha hb hm).mono λσ H Q h=>ZBW (λ_ _ _ z=>two z) σ H Q (Rx h)
theorem chain{K:PySem.W.Frag}{f g:D->D->DH->R D}{σ:St}{H:Hp}{Q:VK}(h:lE K E (K5 f g ta tb tc) σ H Q):ZH7 (lR2 K E f) (lR2 K E g) (lE K E ta) (lE K E tb) (lE K E tc) σ H Q:=by
 obtain⟨a,S,G,hk,rfl,s,r,h⟩:=h;refine⟨a,S,G,hk,rfl,s,r,(Ej h).imp ?_⟩;rintro v _ ⟨b,d,G1,rfl,x,s1,q,_,h1⟩;refine⟨b,S,G1,x.k.trans hk,rfl,s1,r.mono x,(Ej h1).imp ?_⟩;rintro w _ ⟨c,e,G2,rfl,y,s2,q2,_,h2⟩;refine⟨c,G2,d,e,y.k.trans (x.k.trans hk),rfl,s2,q.mono y,q2,(Ej h2).imp ?_⟩;rintro z _ ⟨c3,e3,G3,rfl,y3,s3,q3,_,h3⟩;cases e3 with
 | bl k=>
  refine⟨k,q3,?_⟩;cases k with
  |false=>exact h3 c3 (.bl vI) (Ext.refl _) s3 rfl
  |true=>
   refine⟨c3,S,G3,(y3.k.trans (y.k.trans (x.k.trans hk))),rfl,s3,((r.mono x).mono y).mono y3,(Ej h3).imp ?_⟩;rintro z4 _ ⟨c4,e4,G4,rfl,y4,s4,q4,_,h4⟩;exact⟨c4,G4,e,e4,y4.k.trans (y3.k.trans (y.k.trans (x.k.trans hk))),rfl,s4,(q2.mono y3).mono y4,q4,h4⟩
 |_=>exact h3.elim
theorem ZLz(ho:OpR X (xS op) (lR2 X.K E f))(ho':OpR X (xS op') (lR2 X.K E g))(ha:QE X E a ta)(hb:QE X E b tb)(hc:QE X E c tc)
  (hm:lastMarks [op,op'] [b,c]=vI:=by with_unfolding_all rfl):QT X E (.Compare a [op,op'] [b,c] pos) (Ag (K5 f g ta tb tc)):=
 (ZRs ho ho' ha hb hc hm).mono λσ H Q h=>ZBW (λ_ _ _ z=>chain z) σ H Q (Rx h)
theorem ZJ8(ha:QE X E a ta)(he:∀whole,isTrue a X.env whole=(do let v<-whole;standAt a.pos;holding [v] (truthy v)):=by intro _;rfl):QT X E a (Ag ta):=
 (ZPZ ha he).mono λσ H Q h=>Rx h
theorem ZSl(ha:QE X E a ta):QE X E a (Cr ta):=_L.PE.mono ha λσ H Q h=>by obtain⟨w,S,G,hk,rfl,s,r,h⟩:=h;exact⟨w,S,G,hk,rfl,s,r,ZJG s h⟩
def QW(X:Cx)(E:XK)(e:xk)(t:DB):Prop:=PW X e (lB X.K E t)
theorem _root_._L.PW.mono(h:PW X e t)(w:∀σ H Q,t' σ H Q->t σ H Q):PW X e t':=λwh vE s σ H Q I q=>h wh vE s σ H Q I (w σ H Q q)
variable{u t:DB}{rest:List xk}
theorem ZNH{K:PySem.W.Frag}{σ:St}{H:Hp}{Q:Bool->Hp->Prop}(h:lB K E (J7 t u) σ H Q):tAnd (lB K E t) (lB K E u) σ H Q:=by
 obtain⟨a,S,G,hk,rfl,s,r,h⟩:=h;refine⟨a,S,G,hk,rfl,s,r,(ZCG h).imp ?_⟩;rintro k _ ⟨b,G1,rfl,x,s1,_,h1⟩;cases k with
 |true=>exact⟨b,S,G1,x.k.trans hk,rfl,s1,r.mono x,h1⟩
 |false=>exact h1 b (Ext.refl b) s1
theorem ZJ4{K:PySem.W.Frag}{σ:St}{H:Hp}{Q:Bool->Hp->Prop}(h:lB K E (dOr t u) σ H Q):tOr (lB K E t) (lB K E u) σ H Q:=by
 obtain⟨a,S,G,hk,rfl,s,r,h⟩:=h;refine⟨a,S,G,hk,rfl,s,r,(ZCG h).imp ?_⟩;rintro k _ ⟨b,G1,rfl,x,s1,_,h1⟩;cases k with
 |true=>exact h1 b (Ext.refl b) s1
 |false=>exact⟨b,S,G1,x.k.trans hk,rfl,s1,r.mono x,h1⟩
theorem ZLi(ha:QT X E a t):QW X E (.BoolOp .And [a] pos) t:=pw_and1 ha
theorem ZCk(ha:QT X E a t):QW X E (.BoolOp .Or [a] pos) t:=pw_or1 ha
theorem ZTp(ha:QT X E a t)(hb:QW X E (.BoolOp .And (b::rest) pos) u):QW X E (.BoolOp .And (a::b::rest) pos) (J7 t u):=(pw_and ha hb).mono λ_ _ _ h=>ZNH h
theorem Vr(ha:QT X E a t)(hb:QW X E (.BoolOp .Or (b::rest) pos) u):QW X E (.BoolOp .Or (a::b::rest) pos) (dOr t u):=(pw_or ha hb).mono λ_ _ _ h=>ZJ4 h
theorem Z9(h:QW X E a t):QT X E a t:=_L.PW.pt h
theorem ZLE(ha:QT X E a t):QT X E (.UnaryOp .Not a pos) (Gy t):=(ZQC ha).mono λσ H Q h=>by obtain⟨a,S,G,hk,rfl,s,r,h⟩:=h;refine⟨a,S,G,hk,rfl,s,r,(ZCG h).imp ?_⟩;rintro k _ ⟨b,G1,rfl,x,s1,_,h1⟩;exact h1 b (Ext.refl b) s1
theorem ZPq{op}(h:QE X E a ta):QE X E (.BoolOp op [a] pos) ta:=ZPd h
theorem ZTc(ha:QE X E a ta)(hb:QE X E (.BoolOp .And (b::rest) pos) tb):QE X E (.BoolOp .And (a::b::rest) pos) (Je ta tb):=(ZMa ha hb).mono λσ H Q h=>by
 obtain⟨a,S,G,hk,rfl,s,r,h⟩:=h;refine⟨a,S,G,hk,rfl,s,r,(Ej h).imp ?_⟩;rintro v _ ⟨b,d,G1,rfl,x,s1,q,_,h1⟩;cases d with
 |bl k=>
  refine⟨k,q,?_⟩;cases k with
  |true=>exact⟨b,S,G1,x.k.trans hk,rfl,s1,r.mono x,h1⟩
  |false=>exact h1 b _ (Ext.refl b) s1 rfl
 |_=>exact h1.elim
theorem ZRb(ha:QE X E a ta)(hb:QE X E (.BoolOp .Or (b::rest) pos) tb):QE X E (.BoolOp .Or (a::b::rest) pos) (R0 ta tb):=(ZPO ha hb).mono λσ H Q h=>by
 obtain⟨a,S,G,hk,rfl,s,r,h⟩:=h;refine⟨a,S,G,hk,rfl,s,r,(Ej h).imp ?_⟩;rintro v _ ⟨b,d,G1,rfl,x,s1,q,_,h1⟩;cases d with
 |bl k=>
  refine⟨k,q,?_⟩;cases k with
  |false=>exact⟨b,S,G1,x.k.trans hk,rfl,s1,r.mono x,h1⟩
  |true=>exact h1 b _ (Ext.refl b) s1 rfl
 |_=>exact h1.elim
theorem ZR4(ha:QE X E a ta):QE X E (.UnaryOp .Not a pos) (Qv ta):=(ZP7 ha).mono λσ H Q h=>by
 obtain⟨a,S,G,hk,rfl,s,r,h⟩:=h;refine⟨a,S,G,hk,rfl,s,r,(Ej h).imp ?_⟩;rintro v _ ⟨b,d,G1,rfl,x,s1,q,_,h1⟩;cases d with
 |bl k=>exact⟨k,q,h1 b _ (Ext.refl b) s1 rfl⟩
 |_=>exact h1.elim
theorem ZTi(hc:QT X E c t)(ha:QE X E a ta)(hb:QE X E b tb):QE X E (.IfExp c a b pos) (dIf t ta tb):=(ZLg hc ha hb).mono λσ H Q h=>by
 obtain⟨a,S,G,hk,rfl,s,r,h⟩:=h;refine⟨a,S,G,hk,rfl,s,r,(ZHD h).imp ?_⟩;rintro k _ ⟨b,G1,rfl,x,s1,_,h1⟩;cases k with
 |true=>exact⟨b,S,G1,x.k.trans hk,rfl,s1,r.mono x,h1⟩
 |false=>exact⟨b,S,G1,x.k.trans hk,rfl,s1,r.mono x,h1⟩
variable{es:List xk}{tr:DA}
theorem ZOq:QA X E [] Ab:=ZQZ.mono λσ H Q h=>by obtain⟨a,S,G,hk,rfl,s,r,h⟩:=h;exact h a [] (Ext.refl a) s rfl
def notStar:xk->Bool
 |.Starred _ _=>vI
 |_=>vH
theorem Le(a:xk)(es:List xk)(env:Env)(h:notStar a=vH):vK (a::es) env=(vI,eval a env)::vK es env:=by
 cases a<;>first
  |exact absurd h zy
  |rfl
theorem Nm(pos:Pos)(env:Env):∀es:List xk,es.all notStar=vH->(xI pos (vK es env)).any (·.1)=vI
 |[],_=>rfl
 |a::es,h=>by
  rw[qO,zE]at h;rw[Le a es env h.1];have ih:=Nm pos env es h.2;unfold xI at ih⊢;rw[zk,jG,ih]
  rfl
theorem ZNG(ha:QE X E a ta)(hr:QA X E es tr)(hs:notStar a=vH:=by rfl):QA X E (a::es) (Aa ta tr):=(ZQs ha hr (Le a es X.env hs)).mono λσ H Q h=>by obtain⟨a,S,G,hk,rfl,s,r,h⟩:=h;refine⟨a,S,G,hk,rfl,s,r,(ZNS h).imp ?_⟩;rintro v _ ⟨b,d,G1,rfl,x,s1,q,_,h1⟩;refine⟨b,S,G1,x.k.trans hk,rfl,s1,r.mono x,(ZTN h1).imp ?_⟩;rintro vs _ ⟨c,ds,G2,rfl,y,s2,q2,_,h2⟩;exact h2 c _ (Ext.refl c) s2 (Reps.cons (q.mono y) q2)
theorem ZUV{x1}(h:QA X E es tr):QE X E (.Tuple es x1 pos) (dFn An tr):=(ZMj h).mono λσ H Q h=>by
 obtain⟨a,S,G,hk,rfl,s,r,h⟩:=h;refine⟨a,S,G,hk,rfl,s,r,(M3 h).imp ?_⟩;rintro vs _ ⟨b,ds,G1,rfl,x,s1,q,_,h1⟩;unfold An at h1;split at h1
 ·rename_i hl;refine⟨by rw[<-q.length];exact zC hl size6,λp hp=>?_⟩;exact h1 (b.put p (.tup vs)) (.ref p) (Ext.put hp) (s1.put hp) ⟨p,vs,rfl,.of Ei,q.mono (Ext.put hp)⟩
 ·exact h1.elim
theorem ZN7(h:QA X E es tr):QE X E (.List es pos) (dFn Ah tr):=(ZLx h).mono λσ H Q h=>by
 obtain⟨a,S,G,hk,rfl,s,r,h⟩:=h;refine⟨a,S,G,hk,rfl,s,r,(M3 h).imp ?_⟩;rintro vs _ ⟨b,ds,G1,rfl,x,s1,q,_,h1⟩;unfold Ah at h1;split at h1
 ·rename_i hl;refine⟨by rw[<-q.length];exact zC hl size6,λp hp=>?_⟩;refine h1 (b.push p (.lst vs)) (.ref p) (Ext.push hp) (s1.push hp ⟨vs,rfl,q.mono (Ext.push hp)⟩) ⟨?_,?_⟩
  ·rw[s1.len];exact qY _
  ·rw[s1.len];show V.ref p=.ref (if b.n=b.n then p else b.m b.n);rw[if_pos rfl]
 ·exact h1.elim
variable{e:xk}{x:Str}{p:Pos}
theorem Yy{K:PySem.W.Frag}{f:List D->DH->R D}{σ:St}{H:Hp}{Q:VK}(h:lE K E (dFn f tr) σ H Q):lA K E tr σ H (λvs H1=>lRn K E f vs H1 Q):=by obtain⟨a,S,G,hk,rfl,s,r,h⟩:=h;refine⟨a,S,G,hk,rfl,s,r,(M3 h).imp ?_⟩;rintro vs _ ⟨b,ds,G1,rfl,x,s1,q,_,h1⟩;exact⟨b,G1,ds,x.k.trans hk,rfl,s1,q,h1⟩
theorem ZJ7{id:String}{f:List D->DH->R D}(hc:CallR X (.builtin id) (lRn X.K E f))(hg:Gl X x)(hm:X.mg x=vG)(hv:xO x=vF (.builtin id))(ha:QA X E (e::es) tr)(hn:x≠"__name__":=by decide)(hdb:(x==("__debug__":Str))=vI:=by decide)
  (he:notStar e=vH:=by rfl) (hpl:es.all notStar=vH:=by rfl):QE X E (.Call (.Name x p) (e::es) [] pos) (dFn f tr):=
 (ZQr hc hg hm hv ha hn hdb (Le e es X.env he) (Nm pos X.env es hpl)).mono λσ H Q h=>Yy h
theorem ZQk{id:String}{f:List D->DH->R D}(hc:CallR X (.type id) (lRn X.K E f))(hg:Gl X x)(hm:X.mg x=vG)(hv:xO x=vF (.type id))(ha:QA X E (e::es) tr)(hn:x≠"__name__":=by decide)(hdb:(x==("__debug__":Str))=vI:=by decide)
  (he:notStar e=vH:=by rfl) (hpl:es.all notStar=vH:=by rfl):QE X E (.Call (.Name x p) (e::es) [] pos) (dFn f tr):=
 (ZOH hc hg hm hv ha hn hdb (Le e es X.env he) (Nm pos X.env es hpl)).mono λσ H Q h=>Yy h
theorem ZTw{CX:CXT}{k:Nat}{f:xj}{fd:xy}{ps:List Str}{F:List D->DH->R D}(FF:FnOk X.prog X.w X.K X.mg X.base CX k f fd ps (lF X.K F))(hr:Room k X.A)(hg:Gl X x)(hm:X.mg x=vF (.ref f))(hk:PySem.W.keepIn X.K (.ref f)=vH)(hb:Binds X.K fd ps [])
  (hx:Passes CX X E0) (ha:QA X E0 (e::es) tr) (hdb:(x==("__debug__":Str))=vI:=by decide) (he:notStar e=vH:=by rfl) (hpl:es.all notStar=vH:=by rfl):
  QE X E0 (.Call (.Name x p) (e::es) [] pos) (dFn F tr):=
 (ZTL FF hr hg hm hk hb .nil hx ha hdb (Le e es X.env he) (Nm pos X.env es hpl)).mono λσ H Q h=>by obtain⟨a,S,G,hk,rfl,s,r,h⟩:=Yy h;refine⟨a,S,G,hk,rfl,s,r,h.imp ?_⟩;rintro vs _ ⟨b,G1,ds,hk,rfl,s1,q,h1⟩;exact⟨b,G1,ds,hk,rfl,s1,by rw[j1];exact q,h1⟩
theorem ZCI(hr:IxR X (lR2 X.K E f))(ha:QE X E a ta)(hb:QE X E b tb)(hs:PlainIx b:=by intro _ _;rfl):QE X E (.Subscript a b pos) (dOp f ta tb):=
 (ZHM hr ha hb hs).mono λ_ _ _ h=>two h
end
instance (i j:Int):Decidable (CMul i j):=by unfold CMul;infer_instance
instance (i j:Int):Decidable (CPow i j):=by unfold CPow;infer_instance
def CDivL(j:Int):Prop:=0<j/\j.natAbs.log2<9000
instance (j:Int):Decidable (CDivL j):=by unfold CDivL;infer_instance
def Dw:D->D->DH->R D
 |.int i,.int j,G=>.ok (.int (i-j)) G
 |_,_,_=>.bad
def Bv:D->D->DH->R D
 |.int i,.int j,G=>if CDivL j then .ok (.int (i/j)) G else .bad
 |_,_,_=>.bad
def Az:D->D->DH->R D
 |.int i,.int j,G=>if 0<j then .ok (.int (i%j)) G else .bad
 |_,_,_=>.bad
def Hn:D->D->DH->R D
 |.int i,.int j,G=>if CPow i j then .ok (.int (i^j.toNat)) G else .bad
 |_,_,_=>.bad
def Fb:D->D->DH->R D
 |.int i,.int j,G=>.ok (.bl (decide (i<j))) G
 |.str i,.str j,G=>.ok (.bl (decide (i.cps.toList<j.cps.toList))) G
 |_,_,_=>.bad
def J9:D->D->DH->R D
 |.int i,.int j,G=>.ok (.bl (decide (i<=j))) G
 |.str i,.str j,G=>.ok (.bl (!decide (j.cps.toList<i.cps.toList))) G
 |_,_,_=>.bad
def Gi:D->D->DH->R D
 |.int i,.int j,G=>.ok (.bl (decide (j<i))) G
 |.str i,.str j,G=>.ok (.bl (decide (j.cps.toList<i.cps.toList))) G
 |_,_,_=>.bad
def Qx:D->D->DH->R D
 |.int i,.int j,G=>.ok (.bl (decide (j<=i))) G
 |.str i,.str j,G=>.ok (.bl (!decide (i.cps.toList<j.cps.toList))) G
 |_,_,_=>.bad
def Gs(d:D)(G:DH):Option (List D):=match d with
 |.fl xs=>vF xs
 |.ref i=>match G[i]? with
  |some (.lst xs)=>vF xs
  |_=>vG
 |_=>vG
noncomputable def Ai:D->D->DH->R D
 |.int i,.int j,G=>.ok (.int (i+j)) G
 |.str i,.str j,G=>if i.length+j.length<=1000000 then .ok (.str (i++j)) G else .bad
 |.tup xs,.tup ys,G=>if xs≠[]/\xs.length+ys.length<=1000000 then .ok (.tup (xs++ys)) G else .bad
 |d,e,G=>match Gs d G,Gs e G with
  |some xs,vF ys=>if xs.length+ys.length<=1000000 then .ok (.ref G.length) (G++[.lst (xs++ys)])else .bad
  |_,_=>.bad
section
variable{X:Cx}{E:XK}
theorem Fi(ho:OpR X f r)
  (h:∀(a:Wd)(G:DH)(d e:D)(x y:V)(Q:VK),a.K=X.K->Sim a G->Rep a d x->Rep a e y->out E a (F d e G) Q->r x y a.H Q):OpR X f (lR2 X.K E F):=
 ho.mono λx y H Q ⟨a,G,d,e,hk,hH,s,rd,re,q⟩=>by subst hH;exact h a G d e x y Q hk s rd re q
theorem ZKG:OpR X (xN .Sub) (lR2 X.K E Dw):=Fi ZP4 λa G d e x y Q hk s rd re q=>by
 cases d<;>cases e<;>first
  |exact q.elim
  |exact⟨_,_,rd,re,q a _ (Ext.refl a) s rfl⟩
theorem ZMh:OpR X (xN .FloorDiv) (rI (λ_ j=>CDivL j) λi j=>.int (i/j)):=opI λi j _ _ _ _ _ hc q=>by have e:i.fdiv j=i/j:=Int.fdiv_eq_ediv_of_nonneg _ (Int.le_of_lt hc.1);refine floordiv_int (by have:=hc.1;lia) (by rw[e];exact q) (.inl (PyProof.noPylong_of_log2 hc.2))
theorem ZLH:OpR X (xN .FloorDiv) (lR2 X.K E Bv):=Fi ZMh λa G d e x y Q hk s rd re q=>by
 cases d<;>cases e<;>first
  |exact q.elim
  | (
    rename_i i j;unfold Bv at q;dsimp only at q;split at q
    ·exact⟨_,_,rd,re,by assumption,q a _ (Ext.refl a) s rfl⟩
    ·exact q.elim)
theorem ZNN:OpR X (xN .Mod) (lR2 X.K E Az):=Fi ZK4 λa G d e x y Q hk s rd re q=>by
 cases d<;>cases e<;>first
  |exact q.elim
  | (
    rename_i i j;unfold Az at q;dsimp only at q;split at q
    ·exact⟨_,_,rd,re,by assumption,q a _ (Ext.refl a) s rfl⟩
    ·exact q.elim)
theorem ZPa:OpR X (xN .Pow) (lR2 X.K E Hn):=Fi ZKn λa G d e x y Q hk s rd re q=>by
 cases d<;>cases e<;>first
  |exact q.elim
  | (
    rename_i i j;unfold Hn at q;dsimp only at q;split at q
    ·exact⟨_,_,rd,re,by assumption,q a _ (Ext.refl a) s rfl⟩
    ·exact q.elim)
theorem o_lt:OpR X (xS .Lt) (lR2 X.K E Fb):=Fi (ZTC.or ZNm) λa G d e x y Q hk s rd re q=>by
 cases d<;>cases e<;>first
  |exact q.elim
  |exact .inl ⟨_,_,rd,re,q a _ (Ext.refl a) s rfl⟩
  |exact .inr ⟨_,_,rd,re,q a _ (Ext.refl a) s rfl⟩
theorem ZMD:OpR X (xS .LtE) (λx y H Q=>∃i j,x=.str i/\y=.str j/\Q (.bl (!decide (j.cps.toList<i.cps.toList))) H):=by intro vE s σ H x y v u Q I rx ry h;obtain⟨i,j,rfl,rfl,q⟩:=h;obtain⟨t,rfl⟩:=rx;obtain⟨t',rfl⟩:=ry;exact PySem.P.le_str ⟨.bl _,H,I,rfl,q⟩
theorem ZM7:OpR X (xS .Gt) (λx y H Q=>∃i j,x=.str i/\y=.str j/\Q (.bl (decide (j.cps.toList<i.cps.toList))) H):=by intro vE s σ H x y v u Q I rx ry h;obtain⟨i,j,rfl,rfl,q⟩:=h;obtain⟨t,rfl⟩:=rx;obtain⟨t',rfl⟩:=ry;exact PySem.P.gt_str ⟨.bl _,H,I,rfl,q⟩
theorem ZNF:OpR X (xS .GtE) (λx y H Q=>∃i j,x=.str i/\y=.str j/\Q (.bl (!decide (i.cps.toList<j.cps.toList))) H):=by intro vE s σ H x y v u Q I rx ry h;obtain⟨i,j,rfl,rfl,q⟩:=h;obtain⟨t,rfl⟩:=rx;obtain⟨t',rfl⟩:=ry;exact PySem.P.ge_str ⟨.bl _,H,I,rfl,q⟩
theorem o_le:OpR X (xS .LtE) (lR2 X.K E J9):=Fi (ZUf.or ZMD) λa G d e x y Q hk s rd re q=>by
 cases d<;>cases e<;>first
  |exact q.elim
  |exact .inl ⟨_,_,rd,re,q a _ (Ext.refl a) s rfl⟩
  |exact .inr ⟨_,_,rd,re,q a _ (Ext.refl a) s rfl⟩
theorem o_gt:OpR X (xS .Gt) (lR2 X.K E Gi):=Fi (ZSK.or ZM7) λa G d e x y Q hk s rd re q=>by
 cases d<;>cases e<;>first
  |exact q.elim
  |exact .inl ⟨_,_,rd,re,q a _ (Ext.refl a) s rfl⟩
  |exact .inr ⟨_,_,rd,re,q a _ (Ext.refl a) s rfl⟩
theorem o_ge:OpR X (xS .GtE) (lR2 X.K E Qx):=Fi (ZN8.or ZNF) λa G d e x y Q hk s rd re q=>by
 cases d<;>cases e<;>first
  |exact q.elim
  |exact .inl ⟨_,_,rd,re,q a _ (Ext.refl a) s rfl⟩
  |exact .inr ⟨_,_,rd,re,q a _ (Ext.refl a) s rfl⟩
theorem Sim.lst(s:Sim a G)(h:G[i]?=vF (.lst xs)):∃vs,a.H (a.m i)=vF (.lst vs)/\Reps a xs vs:=s.obj i _ h
theorem Jq{E:XK}(s:Sim a G)(r:Reps a ds vs)(h:out E a (.ok (.ref G.length) (G++[.lst ds])) Q)(p:xj)(hp:a.H p=vG):Q (.ref p) (upd a.H p (.lst vs)):=by
 refine h (a.push p (.lst vs)) (.ref p) (Ext.push hp) (s.push hp ⟨vs,rfl,r.mono (Ext.push hp)⟩) ⟨?_,?_⟩
 ·rw[s.len];exact qY _
 ·rw[s.len];show V.ref p=.ref (if a.n=a.n then p else a.m a.n);rw[if_pos rfl]
theorem W7{E:XK}(s:Sim a G)(r:Reps a ds vs)(h:out E a (.ok (.tup ds) G) Q)(p:xj)(hp:a.H p=vG):Q (.ref p) (upd a.H p (.tup vs)):=
 h (a.put p (.tup vs)) (.ref p) (Ext.put hp) (s.put hp) ⟨p,vs,rfl,.of Ei,r.mono (Ext.put hp)⟩
theorem Ph(s:Sim a G)(r:Rep a d x)(h:Gs d G=vF xs):∃p vs,x=.ref p/\SqL a.K a.H p vs/\Reps a xs vs:=by
 cases d with
 |fl ys=>
  have e:ys=xs:=Option.some.inj h;subst e;obtain⟨p,vs,e,q,rr⟩:=r;exact⟨p,vs,e,q.sq,rr⟩
 |ref i=>
  unfold Gs at h;dsimp only at h;split at h
  ·rename_i ys hi;have e:ys=xs:=Option.some.inj h;subst e;obtain⟨vs,e1,r1⟩:=s.lst hi;exact⟨a.m i,vs,r.2,.of e1,r1⟩
  ·cases h
 |_=>cases h
def ZG2(K:PySem.W.Frag):R2:=λx y H Q=>∃l b xs zs,x=.ref l/\y=.ref b/\SqL K H l xs/\SqL K H b zs/\xs.length+zs.length<=sizeLine/\∀p,H p=vG->Q (.ref p) (upd H p (.lst (xs++zs)))
theorem ZS4:OpR X (xN .Add) (ZG2 X.K):=by
 intro vE s σ H x y v u Q I rx ry h;obtain⟨l,b,xs,zs,rfl,rfl,hH,hB,hz,q⟩:=h;cases rx;cases ry;obtain⟨its,r,p1,_⟩:=I.list hH;obtain⟨its2,r2,p2,_⟩:=I.list hB;obtain⟨⟨cls,dd,data,sl⟩,n,ho,hc,_,hd⟩:=p1;obtain⟨⟨cls2,dd2,data2,sl2⟩,n2,ho2,hc2,_,hd2⟩:=p2;cases hc;cases hd;cases hc2;cases hd2;have hl:=r.length;have hl2:=r2.length;refine concat_meets ⟨_,ho,rfl⟩ ⟨_,ho2,rfl⟩ noFill_list_add seq_list_add PySem.F.slot_list_add PySem.F.entry_list_add (PySem.F.args_list_add_2 _ _) (list_addW l b its.toArray its2.toArray n n2 dd dd2 sl sl2 (by rw[zY,zY];lia)) ⟨ho,ho2,?_⟩
 have ea:its.toArray++its2.toArray=(its++its2).toArray:=by simp
 rw[ea];exact⟨.ref _,_,I.lnew (t':=s.toks) (r.append r2) (by rw[qj];lia),rfl,q _ I.fresh⟩
theorem ZMS:OpR X (xN .Add) (lR2 X.K E Ai):=Fi (ZR8.or (ZKP.or (ZS4.or ZMy))) λa G d e x y Q hk s rd re q=>by
 have lst:out E a (match Gs d G,Gs e G with
  |some xs,vF ys=>if xs.length+ys.length<=1000000 then .ok (.ref G.length) (G++[.lst (xs++ys)])else .bad
  |_,_=>.bad) Q->ZG2 X.K x y a.H Q:=λq=>by
  split at q
  ·rename_i xs ys h1 h2;split at q
   ·rename_i hl;obtain⟨p,vs,e1,q1,r1⟩:=Ph s rd h1;obtain⟨p',vs',e2,q2,r2⟩:=Ph s re h2;rw[hk]at q1 q2;exact⟨p,p',vs,vs',e1,e2,q1,q2,by rw[<-r1.length,<-r2.length];exact zC hl size6,λp hp=>Jq s (r1.append r2) q p hp⟩
   ·exact q.elim
  ·exact q.elim
 have L:=λq=>Or.inr (a:=rI0 (λi j=>V.int (i+j)) x y a.H Q) (Or.inr (a:=∃i j,x=.str i/\y=.str j/\i.length+j.length<=sizeLine/\Q (.str (i++j)) a.H) (Or.inl (b:=ZJJ X.K x y a.H Q) (lst q)))
 cases d<;>cases e<;>first
  |exact .inl ⟨_,_,rd,re,q a _ (Ext.refl a) s rfl⟩
  |exact L q
  |skip
 ·rename_i i j;unfold Ai at q;dsimp only at q;split at q
  ·rename_i hl;exact .inr (.inl ⟨_,_,rd,re,zC hl size6,q a _ (Ext.refl a) s rfl⟩)
  ·exact q.elim
 ·rename_i xs ys;unfold Ai at q;dsimp only at q;split at q
  ·rename_i hl;obtain⟨p,vs,e1,h1,r1⟩:=rd;obtain⟨p',vs',e2,h2,r2⟩:=re;rw[hk]at h1 h2;refine .inr (.inr (.inr ⟨p,p',vs,vs',e1,e2,h1,h2,λz=>hl.1 (qM (by rw[r1.length,z];rfl)),by rw[<-r1.length,<-r2.length];exact zC hl.2 size6,λz=>?_,λ_ p0 hp=>?_⟩))
   ·refine q a (.ref p) (Ext.refl a) s ⟨p,vs,rfl,by rw[hk];exact h1,?_⟩;have e3:ys=[]:=qM (by rw[r2.length,z];rfl);rw[e3,j1];exact r1
   ·exact W7 s (r1.append r2) q p0 hp
  ·exact q.elim
inductive VD where
 |flat (v:V)
 |lst (xs:List D)
 |tup (xs:List D)
 |bad
def view(G:DH):D->VD
 |.non=>.flat .non
 |.bl b=>.flat (.bl b)
 |.int i=>.flat (.int i)
 |.str x=>.flat (.str x)
 |.ty _=>.bad
 |.tup xs=>.tup xs
 |.fl xs=>.lst xs
 |.ref i=>match G[i]? with
  |some (.lst xs)=>.lst xs
  |_=>.bad
def eqZ(f:D->D->Option Bool):List D->List D->Option Bool
 |x::xs,y::ys=>match f x y,eqZ f xs ys with
  |some a,vF b=>vF (a&&b)
  |_,_=>vG
 |_,_=>vF vH
def eqD:Nat->DH->D->D->Option Bool
 |0=>λ_ _ _=>vG
 | n+1=>λG d e=>match view G d,view G e with
  |.flat a,.flat b=>vF (eqV a b)
  |.lst xs,.lst ys=>if xs.length=ys.length then eqZ (eqD n G) xs ys else vF vI
  |.tup xs,.tup ys=>match eqZ (eqD n G) xs ys with
   |some b=>vF (b&&xs.length==ys.length)
   |none=>vG
  |.bad,_=>vG
  |_,.bad=>vG
  |_,_=>vF vI
theorem Ue:∀{xs ys:List D}{k:Bool},eqZ f xs ys=vF k->∃e:Nat->Bool,(∀(j:Nat)(x y:D),xs[j]?=vF x->ys[j]?=vF y->f x y=vF (e j))/\k=(zQ (min xs.length ys.length)).all e
 | [],ys,k,h=>⟨λ_=>vH,λj x y e1 _=>by simp at e1,by
   have h':vF vH=vF k:=by cases ys<;>exact h
   cases h';simp⟩
 |x::xs,[],k,h=>⟨λ_=>vH,λj x y _ e1=>by simp at e1,by have h':vF vH=vF k:=h;cases h';simp⟩
 | x::xs,y::ys,k,h=>by
  unfold eqZ at h;split at h
  ·rename_i a b h1 h2;obtain⟨e,he,hk⟩:=Ue h2;have h':(a&&b)=k:=Option.some.inj h
   refine⟨λj=>match j with |0=>a|j+1=>e j,λj x' y' e1 e2=>?_,?_⟩
   ·cases j with
    |zero=>simp at e1 e2;subst e1;subst e2;exact h1
    |succ j=>exact he j x' y' (by simpa using e1) (by simpa using e2)
   ·rw[<-h',hk];have:min (x::xs).length (y::ys).length=min xs.length ys.length+1:=by simp only[qQ];lia
    rw[this,qS,qO,List.all_map]
    rfl
  ·cases h
theorem Vh(s:Sim a G)(r:Rep a d x):match view G d with
  |.flat v=>x=v/\Df v=vH
  |.lst xs=>∃p vs,x=.ref p/\SqL a.K a.H p vs/\Reps a xs vs
  |.tup xs=>∃p vs,x=.ref p/\SqT a.K a.H p vs/\Reps a xs vs
  |.bad=>True:=by
 cases d with
 |non=>exact⟨r,rfl⟩
 |bl b=>exact⟨r,rfl⟩
 |int b=>exact⟨r,rfl⟩
 |str b=>exact⟨r,rfl⟩
 |ty n=>trivial
 |tup xs=>
  obtain⟨p,vs,e,h,q⟩:=r;exact⟨p,vs,e,h,q⟩
 |fl xs=>
  obtain⟨p,vs,e,h,q⟩:=r;exact⟨p,vs,e,h.sq,q⟩
 | ref i=>
  unfold view;dsimp only;split
  ·rename_i v hv
   split at hv<;>cases hv
  ·rename_i xs hv;split at hv
   ·rename_i ys hi;cases hv;obtain⟨vs,e1,r1⟩:=s.lst hi;exact⟨a.m i,vs,r.2,.of e1,r1⟩
   ·cases hv
  ·rename_i xs hv
   split at hv<;>cases hv
  ·trivial
theorem ZTA(ry:RelV y u)(rx:RelV x v)(fy:Df y=vH)(fx:Df x=vH):SeqAt.RcAt A s u v (eqV y x):=by
 cases y with
 |non=>
  cases ry;cases x with
  |non=>cases rx;exact SeqAt.RcAt.none_none
  |bl b=>cases rx;exact SeqAt.RcAt.none_bool b
  |int b=>obtain⟨t,rfl⟩:=rx;exact SeqAt.RcAt.none_int b t
  |str b=>obtain⟨t,rfl⟩:=rx;exact SeqAt.RcAt.none_str b t
  |_=>exact absurd (show vI=vH from fx) zy
 |bl a=>
  cases ry;cases x with
  |non=>cases rx;exact SeqAt.RcAt.bool_none a
  |bl b=>cases rx;exact SeqAt.RcAt.bool_bool a b
  |int b=>obtain⟨t,rfl⟩:=rx;exact SeqAt.RcAt.bool_int a b t
  |str b=>obtain⟨t,rfl⟩:=rx;exact SeqAt.RcAt.bool_str a b t
  |_=>exact absurd (show vI=vH from fx) zy
 |int a=>
  obtain⟨t',rfl⟩:=ry;cases x with
  |non=>cases rx;exact SeqAt.RcAt.int_none a t'
  |bl b=>cases rx;exact SeqAt.RcAt.int_bool a t' b
  |int b=>obtain⟨t,rfl⟩:=rx;exact SeqAt.RcAt.int_int a t' b t
  |str b=>obtain⟨t,rfl⟩:=rx;exact SeqAt.RcAt.int_str a t' b t
  |_=>exact absurd (show vI=vH from fx) zy
 |str a=>
  obtain⟨t',rfl⟩:=ry;cases x with
  |non=>cases rx;exact SeqAt.RcAt.str_none a t'
  |bl b=>cases rx;exact SeqAt.RcAt.str_bool a t' b
  |int b=>obtain⟨t,rfl⟩:=rx;exact SeqAt.RcAt.str_int a t' b t
  |str b=>obtain⟨t,rfl⟩:=rx;exact SeqAt.RcAt.str_str a t' b t
  |_=>exact absurd (show vI=vH from fx) zy
 |_=>exact absurd (show vI=vH from fy) zy
theorem ZPW(ry:RelV y u)(rx:RelV x v)(fy:Df y=vH)(fx:Df x=vH):SeqAt.RcNeAt A s u v (!eqV y x):=by
 cases y with
 |non=>
  cases ry;cases x with
  |non=>cases rx;exact SeqAt.RcNeAt.none_none
  |bl b=>cases rx;exact SeqAt.RcNeAt.none_bool b
  |int b=>obtain⟨t,rfl⟩:=rx;exact SeqAt.RcNeAt.none_int b t
  |str b=>obtain⟨t,rfl⟩:=rx;exact SeqAt.RcNeAt.none_str b t
  |_=>exact absurd (show vI=vH from fx) zy
 |bl a=>
  cases ry;cases x with
  |non=>cases rx;exact SeqAt.RcNeAt.bool_none a
  |bl b=>cases rx;exact SeqAt.RcNeAt.bool_bool a b
  |int b=>obtain⟨t,rfl⟩:=rx;exact SeqAt.RcNeAt.bool_int a b t
  |str b=>obtain⟨t,rfl⟩:=rx;exact SeqAt.RcNeAt.bool_str a b t
  |_=>exact absurd (show vI=vH from fx) zy
 |int a=>
  obtain⟨t',rfl⟩:=ry;cases x with
  |non=>cases rx;exact SeqAt.RcNeAt.int_none a t'
  |bl b=>cases rx;exact SeqAt.RcNeAt.int_bool a t' b
  |int b=>obtain⟨t,rfl⟩:=rx;exact SeqAt.RcNeAt.int_int a t' b t
  |str b=>obtain⟨t,rfl⟩:=rx;exact SeqAt.RcNeAt.int_str a t' b t
  |_=>exact absurd (show vI=vH from fx) zy
 |str a=>
  obtain⟨t',rfl⟩:=ry;cases x with
  |non=>cases rx;exact SeqAt.RcNeAt.str_none a t'
  |bl b=>cases rx;exact SeqAt.RcNeAt.str_bool a t' b
  |int b=>obtain⟨t,rfl⟩:=rx;exact SeqAt.RcNeAt.str_int a t' b t
  |str b=>obtain⟨t,rfl⟩:=rx;exact SeqAt.RcNeAt.str_str a t' b t
  |_=>exact absurd (show vI=vH from fx) zy
 |_=>exact absurd (show vI=vH from fy) zy
end
section
variable{X:Cx}{E:XK}{vE:List (xj×Obj)}{σ:St}{s:xC}
theorem ZND(v:V)(h:Df v=vH):eqV v v=vH:=by cases v<;>first|rfl|exact absurd (show vI=vH from h) zy|(simp[eqV])
theorem ZDv(I:Inv X vE σ a.H s)(hk:a.K=X.K)(sm:Sim a G):∀(n:Nat){d e:D}{x:V}{k:Bool},Rep a d x->Rep a e x->eqD n G d e=vF k->k=vH
 |0,_,_,_,_,_,_,h=>by cases h
 | n+1,d,e,x,k,rd,re,h=>by
  have vd:=Vh sm rd;have ve:=Vh sm re;have items:∀{xs ys:List D}{vs:List V}{b:Bool},Reps a xs vs->Reps a ys vs->eqZ (eqD n G) xs ys=vF b->b=vH:=λ{xs ys vs b}r1 r2 hz=>by obtain⟨f,hf,hb⟩:=Ue hz;rw[hb,q8];intro j hj;have hj':j<min xs.length ys.length:=qz.mp hj;have h1:xs[j]?=vF (xs[j]'(by lia)):=zX (by lia);have h2:ys[j]?=vF (ys[j]'(by lia)):=zX (by lia);obtain⟨v1,e1,q1⟩:=r1.get h1;obtain⟨v2,e2,q2⟩:=r2.get h2;rw[e1]at e2;cases e2;exact ZDv I hk sm n q1 q2 (hf j _ _ h1 h2)
  unfold eqD at h
  try dsimp only at h
  revert h vd ve
  cases view G d<;>cases view G e<;>intro vd ve h<;>dsimp only at h vd ve<;>first
   |cases h
   |skip
  ·
   rename_i v w;obtain⟨rfl,f1⟩:=vd;obtain⟨rfl,f2⟩:=ve;exact ZND _ f1
  ·obtain⟨rfl,f1⟩:=vd;obtain⟨p,vs,e1,_⟩:=ve;subst e1;cases f1
  ·obtain⟨rfl,f1⟩:=vd;obtain⟨p,vs,e1,_⟩:=ve;subst e1;cases f1
  ·obtain⟨rfl,f1⟩:=ve;obtain⟨p,vs,e1,_⟩:=vd;subst e1;cases f1
  ·obtain⟨p,vs,e1,h1,r1⟩:=vd;obtain⟨p',vs',e2,h2,r2⟩:=ve;rw[e1]at e2;cases e2;rw[hk]at h1 h2;cases I.Xc h1 h2;split at h
   ·exact items r1 r2 h
   ·rename_i hl;exact absurd (r1.length.trans r2.length.symm) hl
  ·obtain⟨p,vs,e1,h1,r1⟩:=vd;obtain⟨p',vs',e2,h2,r2⟩:=ve;rw[e1]at e2;cases e2;rw[hk]at h1 h2;obtain⟨_,_,pl,_⟩:=I.list h1;obtain⟨_,_,pt,_⟩:=I.tuple h2;exact absurd rfl (SeqAt.ne_of_list_tuple pl.isList pt)
  ·obtain⟨rfl,f1⟩:=ve;obtain⟨p,vs,e1,_⟩:=vd;subst e1;cases f1
  ·obtain⟨p,vs,e1,h1,r1⟩:=vd;obtain⟨p',vs',e2,h2,r2⟩:=ve;rw[e1]at e2;cases e2;rw[hk]at h1 h2;obtain⟨_,_,pl,_⟩:=I.list h2;obtain⟨_,_,pt,_⟩:=I.tuple h1;exact absurd rfl (SeqAt.ne_of_list_tuple pl.isList pt)
  ·obtain⟨p,vs,e1,h1,r1⟩:=vd;obtain⟨p',vs',e2,h2,r2⟩:=ve;rw[e1]at e2;cases e2;rw[hk]at h1 h2;cases I.ZAR h1 h2;split at h
   ·rename_i b hz;have h':(b&&_)=k:=Option.some.inj h;rw[<-h',items r1 r2 hz,r1.length,r2.length];simp
   ·cases h
theorem R6(r:Reps a xs vs)(q:Vals vs its)(h:j<its.toArray.size):∃d v,xs[j]?=vF d/\Rep a d v/\RelV v its.toArray[j]:=by
 have hl:j<its.length:=by simpa using h
 have h2:j<vs.length:=by rw[q.length];exact hl
 obtain⟨v,e1⟩:∃v,vs[j]?=vF v:=⟨vs[j],zX h2⟩;obtain⟨d,e2,rd⟩:=r.get' e1;obtain⟨u,e3,ru⟩:=q.get e1;have e4:u=its.toArray[j]:=by have:its[j]?=vF its[j]:=zX hl;rw[this]at e3;simpa using(Option.some.inj e3).symm
 exact⟨d,v,e2,rd,by rw[<-e4];exact ru⟩
theorem V3(I:Inv X vE σ a.H s)(hk:a.K=X.K)(sm:Sim a G):∀(n:Nat){A:xw}{d e:D}{x y:V}{u w:xE}{k:Bool},A.units+n<cLine->Rep a d x->Rep a e y->RelV x u->RelV y w->eqD n G d e=vF k->
  SeqAt.EqAt A s u w k/\SeqAt.RcAt A s u w k/\SeqAt.RcNeAt A s u w (!k)
 |0,_,_,_,_,_,_,_,_,_,_,_,_,_,h=>by cases h
 | n + 1,A,d,e,x,y,u,w,k,hu,rd,re,ru,rw',h=>by
  have vd:=Vh sm rd;have ve:=Vh sm re;have hu1:A.units<cLine:=by lia
  have hu2:A.in1.units+n<cLine:=by show A.units+1+n<cLine;lia
  have same:∀{z:V},Rep a d z->Rep a e z->eqD (n+1) G d e=vF k->k=vH:=λr1 r2 r3=>ZDv I hk sm (n+1) r1 r2 r3
  have h0:=h;unfold eqD at h
  try dsimp only at h
  have refs:∀{p q:xj}{k:Bool},(p=q->k=vH)->SeqAt.RcAt A s (.ref p) (.ref q) k->SeqAt.EqAt A s (.ref p) (.ref q) k:=λ{p q k}hs hr=>by
   by_cases e:p=q
   ·rw[hs e,e];exact SeqAt.EqAt.same _
   ·exact SeqAt.EqAt.of_refs e hr
  revert h vd ve
  cases hvd:view G d<;>cases hve:view G e<;>intro vd ve h<;>dsimp only at h vd ve<;>first
   |cases h
   |skip
  ·
   obtain⟨rfl,f1⟩:=vd;obtain⟨rfl,f2⟩:=ve;exact⟨ZHb ru rw' f1 f2,ZTA ru rw' f1 f2,ZPW ru rw' f1 f2⟩
  ·
   obtain⟨rfl,f1⟩:=vd;obtain⟨q,vs,rfl,h2,r2⟩:=ve;cases rw';rw[hk]at h2;obtain⟨its,qv,pl,_⟩:=I.list h2;cases x with
   |non=>cases ru;exact⟨SeqAt.EqAt.none_list pl.isList hu1,SeqAt.RcAt.none_list pl.isList hu1,SeqAt.RcNeAt.none_list pl.isList hu1⟩
   |bl b=>cases ru;exact⟨SeqAt.EqAt.bool_list b pl.isList hu1,SeqAt.RcAt.bool_list b pl.isList hu1,SeqAt.RcNeAt.bool_list b pl.isList hu1⟩
   |int b=>obtain⟨t,rfl⟩:=ru;exact⟨SeqAt.EqAt.int_list b t pl.isList hu1,SeqAt.RcAt.int_list b t pl.isList hu1,SeqAt.RcNeAt.int_list b t pl.isList hu1⟩
   |str b=>obtain⟨t,rfl⟩:=ru;exact⟨SeqAt.EqAt.str_list b t pl.isList hu1,SeqAt.RcAt.str_list b t pl.isList hu1,SeqAt.RcNeAt.str_list b t pl.isList hu1⟩
   |_=>exact absurd (show vI=vH from f1) zy
  ·
   obtain⟨rfl,f1⟩:=vd;obtain⟨q,vs,rfl,h2,r2⟩:=ve;cases rw';rw[hk]at h2;obtain⟨its,qv,pl,_⟩:=I.tuple h2;cases x with
   |non=>cases ru;exact⟨SeqAt.EqAt.none_tuple pl hu1,SeqAt.RcAt.none_tuple pl hu1,SeqAt.RcNeAt.none_tuple pl hu1⟩
   |bl b=>cases ru;exact⟨SeqAt.EqAt.bool_tuple b pl hu1,SeqAt.RcAt.bool_tuple b pl hu1,SeqAt.RcNeAt.bool_tuple b pl hu1⟩
   |int b=>obtain⟨t,rfl⟩:=ru;exact⟨SeqAt.EqAt.int_tuple b t pl hu1,SeqAt.RcAt.int_tuple b t pl hu1,SeqAt.RcNeAt.int_tuple b t pl hu1⟩
   |str b=>obtain⟨t,rfl⟩:=ru;exact⟨SeqAt.EqAt.str_tuple b t pl hu1,SeqAt.RcAt.str_tuple b t pl hu1,SeqAt.RcNeAt.str_tuple b t pl hu1⟩
   |_=>exact absurd (show vI=vH from f1) zy
  ·
   obtain⟨rfl,f1⟩:=ve;obtain⟨q,vs,rfl,h2,r2⟩:=vd;cases ru;rw[hk]at h2;obtain⟨its,qv,pl,_⟩:=I.list h2;cases y with
   |non=>cases rw';exact⟨SeqAt.EqAt.list_none pl.isList hu1,SeqAt.RcAt.list_none pl.isList hu1,SeqAt.RcNeAt.list_none pl.isList hu1⟩
   |bl b=>cases rw';exact⟨SeqAt.EqAt.list_bool b pl.isList hu1,SeqAt.RcAt.list_bool b pl.isList hu1,SeqAt.RcNeAt.list_bool b pl.isList hu1⟩
   |int b=>obtain⟨t,rfl⟩:=rw';exact⟨SeqAt.EqAt.list_int b t pl.isList hu1,SeqAt.RcAt.list_int b t pl.isList hu1,SeqAt.RcNeAt.list_int b t pl.isList hu1⟩
   |str b=>obtain⟨t,rfl⟩:=rw';exact⟨SeqAt.EqAt.list_str b t pl.isList hu1,SeqAt.RcAt.list_str b t pl.isList hu1,SeqAt.RcNeAt.list_str b t pl.isList hu1⟩
   |_=>exact absurd (show vI=vH from f1) zy
  ·
   obtain⟨p,vs,rfl,h1,r1⟩:=vd;obtain⟨q,vs',rfl,h2,r2⟩:=ve;cases ru;cases rw';rw[hk]at h1 h2;obtain⟨its,q1,p1,_⟩:=I.list h1;obtain⟨its',q2,p2,_⟩:=I.list h2;have sz1:its.toArray.size=vs.length:=by rw[zY];exact q1.length.symm
   have sz2:its'.toArray.size=vs'.length:=by rw[zY];exact q2.length.symm
   split at h
   ·rename_i hl;obtain⟨f,hf,hb⟩:=Ue h;have hsz:its.toArray.size=its'.toArray.size:=by rw[sz1,sz2,<-r1.length,<-r2.length];exact hl
    have he:∀j(g1:j<its.toArray.size)(g2:j<its'.toArray.size),SeqAt.EqAt A.in1 s its.toArray[j] its'.toArray[j] (f j):=λj g1 g2=>by obtain⟨d1,v1,e1,rd1,rv1⟩:=R6 r1 q1 g1;obtain⟨d2,v2,e2,rd2,rv2⟩:=R6 r2 q2 g2;exact(V3 I hk sm n hu2 rd1 rd2 rv1 rv2 (hf j d1 d2 e1 e2)).1
    have hk':k=(zQ its.toArray.size).all f:=by
     rw[hb]
     congr 2
     rw[sz1,<-r1.length,hl];lia
    have rc:SeqAt.RcAt A s (.ref p) (.ref q) k:=by rw[hk'];exact SeqAt.RcAt.lists p1.isList p2.isList hsz hu1 he
    refine⟨refs (λe=>?_) rc,rc,by rw[hk'];exact SeqAt.RcNeAt.lists p1.isList p2.isList hsz hu1 he⟩;subst e;exact same rd re h0
   ·rename_i hl;have h':vI=k:=Option.some.inj h;subst h';have hsz:(its.toArray.size != its'.toArray.size)=vH:=by rw[bne_iff_ne,sz1,sz2,<-r1.length,<-r2.length];exact hl
    refine⟨refs (λe=>?_) (SeqAt.RcAt.lists_lengths p1.isList p2.isList hsz hu1),SeqAt.RcAt.lists_lengths p1.isList p2.isList hsz hu1,SeqAt.RcNeAt.lists_lengths p1.isList p2.isList hsz hu1⟩;subst e;exact same rd re h0
  ·
   obtain⟨p,vs,rfl,h1,r1⟩:=vd;obtain⟨q,vs',rfl,h2,r2⟩:=ve;cases ru;cases rw';rw[hk]at h1 h2;obtain⟨its,q1,p1,_⟩:=I.list h1;obtain⟨its',q2,p2,_⟩:=I.tuple h2;exact⟨SeqAt.EqAt.list_tuple p1.isList p2 hu1,SeqAt.RcAt.list_tuple p1.isList p2 hu1,SeqAt.RcNeAt.list_tuple p1.isList p2 hu1⟩
  ·
   obtain⟨rfl,f1⟩:=ve;obtain⟨q,vs,rfl,h2,r2⟩:=vd;cases ru;rw[hk]at h2;obtain⟨its,qv,pl,_⟩:=I.tuple h2;cases y with
   |non=>cases rw';exact⟨SeqAt.EqAt.tuple_none pl hu1,SeqAt.RcAt.tuple_none pl hu1,SeqAt.RcNeAt.tuple_none pl hu1⟩
   |bl b=>cases rw';exact⟨SeqAt.EqAt.tuple_bool b pl hu1,SeqAt.RcAt.tuple_bool b pl hu1,SeqAt.RcNeAt.tuple_bool b pl hu1⟩
   |int b=>obtain⟨t,rfl⟩:=rw';exact⟨SeqAt.EqAt.tuple_int b t pl hu1,SeqAt.RcAt.tuple_int b t pl hu1,SeqAt.RcNeAt.tuple_int b t pl hu1⟩
   |str b=>obtain⟨t,rfl⟩:=rw';exact⟨SeqAt.EqAt.tuple_str b t pl hu1,SeqAt.RcAt.tuple_str b t pl hu1,SeqAt.RcNeAt.tuple_str b t pl hu1⟩
   |_=>exact absurd (show vI=vH from f1) zy
  ·
   obtain⟨p,vs,rfl,h1,r1⟩:=vd;obtain⟨q,vs',rfl,h2,r2⟩:=ve;cases ru;cases rw';rw[hk]at h1 h2;obtain⟨its,q1,p1,_⟩:=I.tuple h1;obtain⟨its',q2,p2,_⟩:=I.list h2;exact⟨SeqAt.EqAt.tuple_list p1 p2.isList hu1,SeqAt.RcAt.tuple_list p1 p2.isList hu1,SeqAt.RcNeAt.tuple_list p1 p2.isList hu1⟩
  ·
   rename_i xs ys;obtain⟨p,vs,rfl,h1,r1⟩:=vd;obtain⟨q,vs',rfl,h2,r2⟩:=ve;cases ru;cases rw';rw[hk]at h1 h2;obtain⟨its,q1,p1,_⟩:=I.tuple h1;obtain⟨its',q2,p2,_⟩:=I.tuple h2;have sz1:its.toArray.size=xs.length:=by rw[zY,r1.length];exact q1.length.symm
   have sz2:its'.toArray.size=ys.length:=by rw[zY,r2.length];exact q2.length.symm
   split at h
   ·rename_i b hz;have h':(b&&xs.length==ys.length)=k:=Option.some.inj h;obtain⟨f,hf,hb⟩:=Ue hz;have he:∀j(g1:j<its.toArray.size)(g2:j<its'.toArray.size),SeqAt.EqAt A.in1 s its.toArray[j] its'.toArray[j] (f j):=λj g1 g2=>by obtain⟨d1,v1,e1,rd1,rv1⟩:=R6 r1 q1 g1;obtain⟨d2,v2,e2,rd2,rv2⟩:=R6 r2 q2 g2;exact(V3 I hk sm n hu2 rd1 rd2 rv1 rv2 (hf j d1 d2 e1 e2)).1
    have hk':k=((zQ (min its.toArray.size its'.toArray.size)).all f&&its.toArray.size==its'.toArray.size):=by rw[<-h',hb,sz1,sz2]
    have rc:SeqAt.RcAt A s (.ref p) (.ref q) k:=by rw[hk'];exact SeqAt.RcAt.tuples p1 p2 hu1 he
    refine⟨refs (λe=>?_) rc,rc,by rw[hk'];exact SeqAt.RcNeAt.tuples p1 p2 hu1 he⟩;subst e;exact same rd re h0
   ·cases h
def Bl(d e:D)(G:DH):R D:=match eqD 30 G d e with
 |some k=>.ok (.bl k) G
 |none=>.bad
def Gw(d e:D)(G:DH):R D:=match eqD 30 G d e with
 |some k=>.ok (.bl (!k)) G
 |none=>.bad
theorem o_eq(hu:X.A.units+64<cLine):OpR X (xS .Eq) (lR2 X.K E Bl):=by
 intro vE s σ H x y v u Q I rx ry ⟨a,G,d,e,hk,hH,sm,rd,re,q⟩;subst hH;unfold Bl at q;split at q
 ·rename_i k hd;exact(V3 I hk sm 30 (by lia) rd re rx ry hd).2.1 _ _ _ _ ⟨.bl k,a.H,I,rfl,q a _ (Ext.refl a) sm rfl⟩
 ·exact q.elim
theorem o_ne(hu:X.A.units+64<cLine):OpR X (xS .NotEq) (lR2 X.K E Gw):=by
 intro vE s σ H x y v u Q I rx ry ⟨a,G,d,e,hk,hH,sm,rd,re,q⟩;subst hH;unfold Gw at q;split at q
 ·rename_i k hd;exact(V3 I hk sm 30 (by lia) rd re rx ry hd).2.2 _ _ _ _ ⟨.bl (!k),a.H,I,rfl,q a _ (Ext.refl a) sm rfl⟩
 ·exact q.elim
end
abbrev DG:=D->DSt->DH->R DSt
def Eu(E:XK)(a:Wd)(r:R DSt)(Q:St->Hp->Prop):Prop:=match r with
 |.ok S G=>∀(b:Wd)(σ:St),Ext a b->Sim b G->RepS b S σ->Q σ b.H
 |.err x G=>XOk E a x G
 |.bad=>False
def lG(K:PySem.W.Frag)(E:XK)(t:DG):TG:=λv σ H Q=>∃(a:Wd)(S:DSt)(G:DH)(d:D),a.K=K/\a.H=H/\Sim a G/\RepS a S σ/\Rep a d v/\Eu E a (t d S G) Q
def QG(X:Cx)(E:XK)(tg:xk)(t:DG):Prop:=PG X tg (lG X.K E t)
abbrev DGs:=List D->DSt->DH->R DSt
def lGs(K:PySem.W.Frag)(E:XK)(t:DGs):TGs:=λvs σ H Q=>∃(a:Wd)(S:DSt)(G:DH)(ds:List D),a.K=K/\a.H=H/\Sim a G/\RepS a S σ/\Reps a ds vs/\Eu E a (t ds S G) Q
def QGs(X:Cx)(E:XK)(tg:List xk)(t:DGs):Prop:=PGs X tg (lGs X.K E t)
def gV(i:Nat):DG:=λd S G=>.ok (S.set i (vF d)) G
def Ax:DGs:=λds S G=>match ds with
 |[]=>.ok S G
 |_=>.bad
def Ae(t:DG)(u:DGs):DGs:=λds S G=>match ds with
 |d::r=>(t d S G).bind λS1 G1=>u r S1 G1
 |[]=>.bad
def Ao(n:Nat)(t:DGs):DG:=λd S G=>match d with
 |.tup ds=>if ds.length=n then t ds S G else .bad
 |_=>.bad
theorem Eu.imp(h:Eu E a r Q)(w:∀v H,Q v H->Q' v H):Eu E a r Q':=by
 cases r with
 |ok d G=>exact λb v x s q=>w _ _ (h b v x s q)
 |err e G=>exact h
 |bad=>exact h
theorem Eu.mono(x:Ext a b)(h:Eu E a r Q):Eu E b r Q:=by
 cases r with
 |ok d G=>exact λc v y s q=>h c v (x.trans y) s q
 |err e G=>exact XOk.mono (E:=E) (e:=e) (G:=G) x h
 |bad=>exact h
theorem ZRX(h:Eu E a (r.bind f) Q):
  Eu E a r (λσ H=>∃(b:Wd)(S:DSt)(G:DH),b.H=H/\Ext a b/\Sim b G/\RepS b S σ/\r=.ok S G/\Eu E b (f S G) Q):=by
 cases r with
 |ok d G=>exact λb v x s q=>⟨b,d,G,rfl,x,s,q,rfl,Eu.mono x h⟩
 |err e G=>exact h
 |bad=>exact h
theorem ZIW(h:Eu E a (r.bind f) Q):
  out E a r (λv H=>∃(b:Wd)(d:D)(G:DH),b.H=H/\Ext a b/\Sim b G/\Rep b d v/\r=.ok d G/\Eu E b (f d G) Q):=by
 cases r with
 |ok d G=>exact λb v x s q=>⟨b,d,G,rfl,x,s,q,rfl,Eu.mono x h⟩
 |err e G=>exact h
 |bad=>exact h
theorem ZEs(h:Bw E a (r.toS f) W):
  Eu E a r (λσ H=>∃(b:Wd)(S:DSt)(G:DH),b.H=H/\Ext a b/\Sim b G/\RepS b S σ/\r=.ok S G/\Bw E b (f S G) W):=by
 cases r with
 |ok d G=>exact λb v x s q=>⟨b,d,G,rfl,x,s,q,rfl,Bw.mono x h⟩
 |err e G=>exact h
 |bad=>exact h
section
variable{X:Cx}{E:XK}
theorem _root_._L.PG.mono(h:PG X e t)(w:∀v σ H Q,t' v σ H Q->t v σ H Q):PG X e t':=λvE s σ H v u Q I r q=>h vE s σ H v u Q I r (w v σ H Q q)
theorem _root_._L.PGs.mono(h:PGs X e t)(w:∀v σ H Q,t' v σ H Q->t v σ H Q):PGs X e t':=λvE s σ H v u Q I r q=>h vE s σ H v u Q I r (w v σ H Q q)
theorem ZPV(i:Nat){x:Str}{pos:Pos}(hN:X.N.Nodup)(hi:X.N[i]?=vF x:=by rfl)(hx:Loc X.env.scope x:=by first|exact Or.inl rfl|exact Or.inr rfl)
  (hf:X.fn x=vH∨X.env.scope.names.lookup x=vF .local:=by first|exact .inl rfl|exact .inr rfl|assumption):QG X E (.Name x pos) (gV i):=
 (ZM3 hN hi hx hf).mono λv σ H Q h=>by obtain⟨a,S,G,d,hk,rfl,s,r,q,h⟩:=h;exact h a _ (Ext.refl a) s (r.set i q)
theorem ZQd:QGs X E [] Ax:=ZKZ.mono λvs σ H Q h=>by
 obtain⟨a,S,G,ds,hk,rfl,s,r,q,h⟩:=h;cases ds with
 |nil=>exact⟨q,h a σ (Ext.refl a) s r⟩
 |cons d ds=>exact h.elim
theorem ZRR(h1:QG X E e t)(h2:QGs X E es u)
  (hs:(xG (e::es) X.env).map (·.2)=assign e X.env::(xG es X.env).map (·.2):=by rfl):QGs X E (e::es) (Ae t u):=(ZNz h1 h2 hs).mono λvs σ H Q h=>by
 obtain⟨a,S,G,ds,hk,rfl,s,r,q,h⟩:=h;cases ds with
 |nil=>exact h.elim
 |cons d ds=>
  obtain⟨v,rest,e1,q1,q2⟩:=q;refine⟨v,rest,e1,a,S,G,d,hk,rfl,s,r,q1,(ZRX h).imp ?_⟩;rintro σ' _ ⟨b,S1,G1,rfl,x,s1,r1,_,h1⟩;exact⟨b,S1,G1,ds,x.k.trans hk,rfl,s1,r1,q2.mono x,h1⟩
theorem ZUe{es:List xk}{k:Nat}{t:DGs}{n:Nat}{pos:Pos}(hc:X.calm=vH)(h:QGs X E es t)
  (hn:(xG es X.env).length=n:=by rfl) (hst:(xG es X.env).findIdx? (·.1)=vG:=by rfl):QG X E (.Tuple es k pos) (Ao n t):=(ZNo hc h hn hst).mono λv σ H Q h=>by
 obtain⟨a,S,G,d,hk,rfl,s,r,q,h⟩:=h;cases d with
 |tup ds=>
  obtain⟨p,vs,e,h1,r1⟩:=q;unfold Ao at h;dsimp only at h;split at h
  ·rename_i hl;exact⟨p,vs,e,by rw[<-hk];exact h1,by rw[<-r1.length];exact hl,a,S,G,ds,hk,rfl,s,r,r1,h⟩
  ·exact h.elim
 |_=>exact h.elim
def K3(o i v:D)(G:DH):R D:=match o,i with
 | .ref p,.int k=>match G[p]? with
  |some (.lst xs)=>match ixN xs.length k with
   |some j=>.ok .non (G.set p (.lst (xs.set j v)))
   |none=>.bad
  |_=>.bad
 |_,_=>.bad
def gIx(to ti:DE):DG:=λv S G=>(to S G).bind λo G1=>(ti S G1).bind λi G2=>(K3 o i v G2).bind λ_ G3=>.ok S G3
theorem ZCJ(s:Sim a G)(hi:i<a.n)(h:a.H (a.m i)=vF (.lst vs))(r:Reps a ds' vs'):
  Ext a (a.put (a.m i) (.lst vs'))/\Sim (a.put (a.m i) (.lst vs')) (G.set i (.lst ds')):=⟨Ext.wr h,s.wr hi h (r.mono (Ext.wr h))⟩
theorem ZMX(ho:QE X E o to)(hi:QE X E i ti)
  (ha:∀v,assign (.Subscript o i pos) X.env v=(do
   let ov<-holding [v] (eval o X.env);let iv<-holding [v,ov] (eval i X.env)
   standAt pos
   holding [v,ov,iv] (setItem ov iv v)
   release [v,ov,iv] []):=by intro _;rfl):QG X E (.Subscript o i pos) (gIx to ti):=(ZKB ho hi set_list ha).mono λv σ H Q h=>by
 obtain⟨a,S,G,d,hk,rfl,s,r,q,h⟩:=h;refine⟨a,S,G,hk,rfl,s,r,(ZIW h).imp ?_⟩;rintro ov _ ⟨b,e,G1,rfl,x,s1,q1,_,h1⟩;refine⟨b,S,G1,x.k.trans hk,rfl,s1,r.mono x,(ZIW h1).imp ?_⟩;rintro iv _ ⟨c,f,G2,rfl,y,s2,q2,_,h2⟩;cases e with
 | ref p=>
  cases f with
  | int k=>
   unfold K3 at h2;dsimp only at h2;split at h2
   ·rename_i xs hx;split at h2
    ·rename_i j hj;obtain⟨vs,e1,r1⟩:=s2.lst hx;have q1':=q1.mono y;have rv:=(q.mono x).mono y;obtain⟨x3,s3⟩:=ZCJ s2 q1'.1 e1 (r1.set rv j);refine⟨c.m p,vs,k,j,q1'.2,q2,e1,by rw[<-r1.length];exact hj,?_⟩;exact h2 _ σ x3 s3 (((r.mono x).mono y).mono x3)
    ·exact h2.elim
   ·exact h2.elim
  |_=>exact h2.elim
 |_=>exact h2.elim
variable{st:xD}{rest:List xD}{t u:DS}{e:xk}{te:DE}{pos:Pos}
def sNx:DS:=λS G=>.nx S G
def Ac(t u:DS):DS:=λS G=>match t S G with
 |.nx S1 G1=>u S1 G1
 |r=>r
def sEx(te:DE):DS:=λS G=>(te S G).toS λ_ G1=>.nx S G1
def sRt(te:DE):DS:=λS G=>(te S G).toS λd G1=>.rt d G1
def sIf(c:DB)(t u:DS):DS:=λS G=>(c S G).toS λk G1=>if k=vH then t S G1 else u S G1
def sAs(te:DE)(g:DG):DS:=λS G=>(te S G).toS λd G1=>(g d S G1).toS λS2 G2=>.nx S2 G2
def sAu(i:Nat)(te:DE)(f:D->D->DH->R D):DS:=λS G=>match S[i]? with
 |some (vF x)=>(te S G).toS λy G1=>(f x y G1).toS λz G2=>.nx (S.set i (vF z)) G2
 |_=>.bad
theorem Nr:QSs X E [] sNx:=ZNk.mono λW σ H h=>by obtain⟨a,S,G,hk,rfl,s,r,h⟩:=h;exact h a σ (Ext.refl a) s r
theorem Bw.nxOf{E:XK}{a:Wd}{t u:DS}{S:DSt}{G:DH}{K:PySem.W.Frag}(hk:a.K=K){W:Ends}(h:Bw E a (Ac t u S G) W):Bw E a (t S G) {W with nx:=lS K E u W}:=by
 unfold Ac at h
 revert h
 cases t S G<;>intro h
 ·exact λb σ x s r=>⟨b,_,_,x.k.trans hk,rfl,s,r,Bw.mono x h⟩
 all_goals exact h
theorem G9(h1:QS X E st t)(h2:QSs X E rest u):QSs X E (st::rest) (Ac t u):=(ZPl h1 h2).mono λW σ H h=>by obtain⟨a,S,G,hk,rfl,s,r,h⟩:=h;exact⟨a,S,G,hk,rfl,s,r,h.nxOf hk⟩
theorem Ih(h1:QS X E st t):QSs X E [st] t:=ZLv h1
theorem ZQL(he:QE X E e te)(hs:swapsWith e vG pos.line X.env=pure vI:=by rfl):QS X E (.Expr e pos) (sEx te):=(ZPH he hs).mono λW σ H h=>by obtain⟨a,S,G,hk,rfl,s,r,h⟩:=h;refine⟨a,S,G,hk,rfl,s,r,(Gx h).imp ?_⟩;rintro v _ ⟨b,d,G1,rfl,x,s1,q,_,h1⟩;exact h1 b σ (Ext.refl b) s1 (r.mono x)
theorem ZBs(he:QE X E e te):QS X E (.Return (vF e) pos) (sRt te):=(ZKU he).mono λW σ H h=>by obtain⟨a,S,G,hk,rfl,s,r,h⟩:=h;refine⟨a,S,G,hk,rfl,s,r,(Gx h).imp ?_⟩;rintro v _ ⟨b,d,G1,rfl,x,s1,q,_,h1⟩;exact h1 b v (Ext.refl b) s1 q
theorem Mq(hc:QT X E c tc)(ha:QSs X E a t)(hb:QSs X E b u):QS X E (.If c a b pos) (sIf tc t u):=(ZTv hc ha hb).mono λW σ H h=>by
 obtain⟨a,S,G,hk,rfl,s,r,h⟩:=h;refine⟨a,S,G,hk,rfl,s,r,(ZIa h).imp ?_⟩;rintro k _ ⟨b,G1,rfl,x,s1,_,h1⟩;cases k with
 |true=>exact⟨b,S,G1,x.k.trans hk,rfl,s1,r.mono x,h1⟩
 |false=>exact⟨b,S,G1,x.k.trans hk,rfl,s1,r.mono x,h1⟩
theorem ZNu{K:PySem.W.Frag}{g:DG}{W:Ends}{σ:St}{H:Hp}(h:lS K E (sAs te g) W σ H):ZA3 (lE K E te) (lG K E g) W σ H:=by obtain⟨a,S,G,hk,rfl,s,r,h⟩:=h;refine⟨a,S,G,hk,rfl,s,r,(Gx h).imp ?_⟩;rintro v _ ⟨b,d,G1,rfl,x,s1,q,_,h1⟩;refine⟨b,S,G1,d,x.k.trans hk,rfl,s1,r.mono x,q,(ZEs h1).imp ?_⟩;rintro σ' _ ⟨c,S2,G2,rfl,y,s2,r2,_,h2⟩;exact h2 c σ' (Ext.refl c) s2 r2
theorem ZOe(he:QE X E e te)(hg:QG X E tg g)(hs:swapsWithSole [tg] e pos.line X.env=pure vI:=by rfl)(hw:swappedStores [tg] e X.env=pure vG:=by rfl)
  (h1:(xG [tg] X.env).map (·.2)=[assign tg X.env]:=by rfl):QS X E (.Assign [tg] e pos) (sAs te g):=(ZSD he hg hs hw h1).mono λ_ _ _ h=>ZNu h
theorem ZQN(i:Nat){x:Str}{pos':Pos}(hN:X.N.Nodup)(he:QE X E e te)(hi:X.N[i]?=vF x:=by rfl)(hx:Loc X.env.scope x:=by first|exact Or.inl rfl|exact Or.inr rfl)(hs:swapsWith e (vF (.Name x pos')) pos.line X.env=pure vI:=by rfl)
  (hf:X.fn x=vH∨X.env.scope.names.lookup x=vF .local:=by first|exact .inl rfl|exact .inr rfl|assumption):QS X E (.Assign [.Name x pos'] e pos) (sAs te (gV i)):=
 (ZUa hN hi hx he hs hf).mono λW σ H h=>by obtain⟨a,S,G,hk,rfl,s,r,h⟩:=h;refine⟨a,S,G,hk,rfl,s,r,(Gx h).imp ?_⟩;rintro v _ ⟨b,d,G1,rfl,x,s1,q,_,h1⟩;exact h1 b _ (Ext.refl b) s1 ((r.mono x).set i q)
theorem ZUS(i:Nat){x:Str}{op:Operator}{f:D->D->DH->R D}{pos':Pos}(hN:X.N.Nodup)(he:QE X E e te)(ho:OpR X (inplaceOp op) (lR2 X.K E f))(hi:X.N[i]?=vF x:=by rfl)(hx:Loc X.env.scope x:=by first|exact Or.inl rfl|exact Or.inr rfl)
  (hf:X.fn x=vH∨X.env.scope.names.lookup x=vF .local:=by first|exact .inl rfl|exact .inr rfl|assumption):QS X E (.AugAssign (.Name x pos') op e pos) (sAu i te f):=
 (ZL9 (ti:=lR2 X.K E f) hN hi hx he ho hf).mono λW σ H h=>by
  obtain⟨a,S,G,hk,rfl,s,r,h⟩:=h;unfold sAu at h;split at h
  ·rename_i d hd;obtain⟨v,e1,q⟩:=r.get i d hd;refine⟨v,e1,a,S,G,hk,rfl,s,r,(Gx h).imp ?_⟩;rintro w _ ⟨b,d1,G1,rfl,x,s1,q1,_,h1⟩;refine⟨b,G1,d,d1,x.k.trans hk,rfl,s1,q.mono x,q1,(Gx h1).imp ?_⟩;rintro z _ ⟨c,d2,G2,rfl,y,s2,q2,_,h2⟩;exact h2 c _ (Ext.refl c) s2 (((r.mono x).mono y).set i q2)
  ·exact h.elim
def K7:D->D->DH->R D
 |.int i,.int j,G=>.ok (.int (i+j)) G
 |.str i,.str j,G=>if i.length+j.length<=1000000 then .ok (.str (i++j)) G else .bad
 |_,_,_=>.bad
theorem ZOu:OpR X (inplaceOp .Add) (lR2 X.K E K7):=Fi (OpR.or (r:=ipI λi j=>i+j) ZNY ZOb) λa G d e x y Q hk s rd re q=>by
 cases d<;>cases e<;>first
  |exact q.elim
  |exact .inl ⟨_,_,rd,re,q a _ (Ext.refl a) s rfl⟩
  | (
    unfold K7 at q;dsimp only at q;split at q
    ·rename_i hl;exact .inr ⟨_,_,rd,re,zC hl size6,q a _ (Ext.refl a) s rfl⟩
    ·exact q.elim)
theorem ZLT:OpR X (inplaceOp .Sub) (lR2 X.K E Dw):=Fi (r:=ipI λi j=>i-j) ZP9 λa G d e x y Q hk s rd re q=>by
 cases d<;>cases e<;>first
  |exact q.elim
  |exact⟨_,_,rd,re,q a _ (Ext.refl a) s rfl⟩
end
def aft(r:SR)(k:DSt->DH->SR)(_:Fx k:=()):SR:=match r with
 |.nx S G=>k S G
 |.ct S G=>k S G
 |.bk S G=>.nx S G
 |r=>r
def Aq(g:DG)(b:DS):List D->DS
 |[],S,G=>.nx S G
 |x::xs,S,G=>(g x S G).toS λS1 G1=>aft (b S1 G1) (Aq g b xs)
def forM(i:Nat)(g:DG)(b:DS):Nat->Nat->DS
 |0,j,S,G=>match G[i]? with
  |some (.lst xs)=>if xs.length<=j then .nx S G else .bad
  |_=>.bad
 | k+1,j,S,G=>match G[i]? with
  |some (.lst xs)=>match xs[j]? with
   |some x=>(g x S G).toS λS1 G1=>aft (b S1 G1) (forM i g b k (j+1))
   |none=>.nx S G
  |_=>.bad
def Dh(f:Nat->DH->Option (Option D))(g:DG)(b:DS):Nat->Nat->DS
 |0,j,S,G=>match f j G with
  |some vG=>.nx S G
  |_=>.bad
 |k+1,j,S,G=>match f j G with
  |some (vF x)=>(g x S G).toS λS1 G1=>aft (b S1 G1) (Dh f g b k (j+1))
  |some vG=>.nx S G
  |none=>.bad
inductive ItD where
 |pure (xs:List D)
 |mt (i:Nat)
 |fn (n:Nat) (f:Nat->DH->Option (Option D))
abbrev DI:=DSt->DH->R ItD
def By(it:DI)(g:DG)(b:DS):DS:=λS G=>(it S G).toS λJ G1=>match J with
 |.pure xs=>Aq g b xs S G1
 |.mt i=>match G1[i]? with
  |some (.lst xs)=>forM i g b xs.length 0 S G1
  |_=>.bad
 |.fn n f=>Dh f g b n 0 S G1
def RepI(a:Wd):ItD->It->Prop
 |.pure xs,J=>∃vs:List V,Reps a xs vs/\∀b:Wd,Ext a b->∀i,(∀v,vs[i]?=vF v->J.go i b.H/\∀x H',J.yld i b.H x H'->x=v/\H'=b.H)/\(vs.length<=i->J.stop i b.H)
 |.mt k,J=>k<a.n/\∀b:Wd,Ext a b->∀vs,b.H (b.m k)=vF (.lst vs)->∀i,(∀v,vs[i]?=vF v->J.go i b.H/\∀x H',J.yld i b.H x H'->x=v/\H'=b.H)/\(vs.length<=i->J.stop i b.H)
 |.fn _ f,J=>∀b:Wd,Ext a b->∀G,Sim b G->∀i,(∀d,f i G=vF (vF d)->J.go i b.H/\∀x H',J.yld i b.H x H'->∃c:Wd,c.H=H'/\Ext b c/\Sim c G/\Rep c d x)/\(f i G=vF vG->J.stop i b.H)
def outI(E:XK)(a:Wd)(r:R ItD)(Q:It->Hp->Prop):Prop:=match r with
 |.ok J G=>∀(b:Wd)(JJ:It),Ext a b->Sim b G->RepI b J JJ->Q JJ b.H
 |.err x G=>XOk E a x G
 |.bad=>False
def lI(K:PySem.W.Frag)(E:XK)(t:DI):TI:=λσ H Q=>∃(a:Wd)(S:DSt)(G:DH),a.K=K/\a.H=H/\Sim a G/\RepS a S σ/\outI E a (t S G) Q
def QI(X:Cx)(E:XK)(tg iter:xk)(t:DI):Prop:=PI X tg iter (lI X.K E t)
theorem outI.imp(h:outI E a r Q)(w:∀v H,Q v H->Q' v H):outI E a r Q':=by
 cases r with
 |ok d G=>exact λb v x s q=>w _ _ (h b v x s q)
 |err e G=>exact h
 |bad=>exact h
theorem ZMg(h:Bw E a (r.toS f) W):
  outI E a r (λJ H=>∃(b:Wd)(d:ItD)(G:DH),b.H=H/\Ext a b/\Sim b G/\RepI b d J/\r=.ok d G/\Bw E b (f d G) W):=by
 cases r with
 |ok d G=>exact λb v x s q=>⟨b,d,G,rfl,x,s,q,rfl,Bw.mono x h⟩
 |err e G=>exact h
 |bad=>exact h
theorem ZG0 (h:Bw E a (aft r k) W):
  Bw E a r {W with
            nx:=λσ H=>∃(b:Wd)(S:DSt)(G:DH),b.H=H/\Ext a b/\Sim b G/\RepS b S σ/\Bw E b (k S G) W,
            ct:=λσ H=>∃(b:Wd)(S:DSt)(G:DH),b.H=H/\Ext a b/\Sim b G/\RepS b S σ/\Bw E b (k S G) W,bk:=W.nx}:=by
 cases r with
 |nx S G=>exact λb σ x s q=>⟨b,S,G,rfl,x,s,q,Bw.mono x h⟩
 |ct S G=>exact λb σ x s q=>⟨b,S,G,rfl,x,s,q,Bw.mono x h⟩
 |bk S G=>exact h
 |rt d G=>exact h
 |err x G=>exact h
 |bad=>exact h
def mtF(i j:Nat)(G:DH):Option (Option D):=match G[i]? with
 |some (.lst xs)=>vF xs[j]?
 |_=>vG
theorem ZEi(r:RepI a (.pure xs) J):RepI a (.fn n λj _=>vF xs[j]?) J:=by
 obtain⟨vs,rv,h⟩:=r;refine λb x G sm i=>⟨λd e=>?_,λe=>?_⟩
 ·obtain⟨v,ev,q⟩:=rv.get (Option.some.inj e);obtain⟨h1,h2⟩:=(h b x i).1 v ev;refine⟨h1,λy H' hy=>?_⟩;obtain⟨rfl,rfl⟩:=h2 y H' hy;exact⟨b,rfl,Ext.refl b,sm,q.mono x⟩
 ·exact(h b x i).2 (by rw[<-rv.length];exact qU.mp (Option.some.inj e))
theorem ZEw(r:RepI a (.mt k) J):RepI a (.fn n (mtF k)) J:=by
 obtain⟨hk,h⟩:=r;refine λb x G sm i=>?_
 unfold mtF;cases hG:G[k]? with
 |none=>exact⟨λd e=>(by cases e),λe=>(by cases e)⟩
 | some o=>
  cases o with
  |lst xs=>
   obtain⟨vs,e1,rv⟩:=sm.lst hG;refine⟨λd e=>?_,λe=>?_⟩
   ·obtain⟨v,ev,q⟩:=rv.get (Option.some.inj e);obtain⟨h1,h2⟩:=(h b x vs e1 i).1 v ev;refine⟨h1,λy H' hy=>?_⟩;obtain⟨rfl,rfl⟩:=h2 y H' hy;exact⟨b,rfl,Ext.refl b,sm,q⟩
   ·exact(h b x vs e1 i).2 (by rw[<-rv.length];exact qU.mp (Option.some.inj e))
  |_=>exact⟨λd e=>(by cases e),λe=>(by cases e)⟩
theorem ZG7{g:DG}{b:DS}{xs:List D}:∀(n j:Nat),j+n=xs.length->Aq g b (xs.drop j)=Dh (λj _=>vF xs[j]?) g b n j
 |0,j,h=>by
  funext S G;rw[qX (by lia)]
  show SR.nx S G=(match vF xs[j]? with |some vG=>SR.nx S G|_=>.bad)
  rw[z0 (by lia)]
 |n+1,j,h=>by
  funext S G;have hj:j<xs.length:=by lia
  rw[qZ hj]
  show(g xs[j] S G).toS (λS1 G1=>aft (b S1 G1) (Aq g b (xs.drop (j+1))))=(match vF xs[j]? with |some (vF x)=>(g x S G).toS (λS1 G1=>aft (b S1 G1) (Dh (λj _=>vF xs[j]?) g b n (j+1)))|some vG=>SR.nx S G|none=>.bad)
  rw[zX hj,ZG7 n (j+1) (by lia)]
theorem ZEa:∀(n j:Nat),forM i g b n j=Dh (mtF i) g b n j
 | 0,j=>by
  funext S G;unfold forM Dh mtF;cases G[i]? with
  |none=>rfl
  | some o=>
   cases o with
   |lst xs=>
    dsimp only;by_cases hj:j<xs.length
    ·rw[if_neg (by lia),zX hj]
    ·rw[if_pos (by lia),z0 (by lia)]
   |_=>rfl
 | n+1,j=>by
  funext S G;unfold forM Dh;rw[ZEa n (j+1)];unfold mtF;cases G[i]? with
  |none=>rfl
  | some o=>
   cases o with
   |lst xs=>
    dsimp only
    cases xs[j]?<;>rfl
   |_=>rfl
section
variable{X:Cx}{E:XK}{tg iter:xk}{pos:Pos}
theorem ZS9{K:PySem.W.Frag}{it:DI}{g:DG}{b:DS}{W:Ends}{σ:St}{H:Hp}(h:lS K E (By it g b) W σ H):tFor (lI K E it) (lG K E g) (lS K E b) W σ H:=by
 obtain⟨a,S,G,hk,rfl,s,r,h⟩:=h;refine⟨a,S,G,hk,rfl,s,r,(ZMg h).imp ?_⟩;rintro J _ ⟨a1,d,G1,rfl,x1,s1,q1,_,h1⟩;have k1:a1.K=K:=x1.k.trans hk
 suffices fnc:∃n f,RepI a1 (.fn n f) J/\Bw E a1 (Dh f g b n 0 S G1) W by
  obtain⟨n,f,q1,h1⟩:=fnc;have walk:∀b:Wd,Ext a1 b->∀G,Sim b G->∀i,(∀d,f i G=vF (vF d)->J.go i b.H/\∀x H',J.yld i b.H x H'->∃c:Wd,c.H=H'/\Ext b c/\Sim c G/\Rep c d x)/\(f i G=vF vG->J.stop i b.H):=q1;refine⟨λi m σ H=>∃(c:Wd)(S:DSt)(G:DH),c.H=H/\Ext a1 c/\Sim c G/\RepS c S σ/\Bw E c (Dh f g b m i S G) W,⟨_,a1,S,G1,rfl,Ext.refl _,s1,r.mono x1,h1⟩,?_⟩;rintro i m σ2 _ ⟨c,S2,G2,rfl,x2,s2,r2,h2⟩
  cases m with
  |zero=>
   unfold Dh at h2;split at h2
   ·rename_i hf;exact .inl ⟨(walk c x2 G2 s2 i).2 hf,h2 c σ2 (Ext.refl c) s2 r2⟩
   ·exact h2.elim
  | succ m=>
   unfold Dh at h2;split at h2
   ·rename_i d hf;obtain⟨go,yl⟩:=(walk c x2 G2 s2 i).1 d hf;refine .inr ⟨go,λσ' H'=>∃(c:Wd)(S:DSt)(G:DH),c.H=H'/\Ext a1 c/\Sim c G/\RepS c S σ'/\Bw E c (Dh f g b m (i+1) S G) W,λσ' H' z=>⟨m,qY _,z⟩,λw H' y=>?_⟩;obtain⟨cc,rfl,xx,ss,rd⟩:=yl w H' y;refine⟨cc,S2,G2,d,xx.k.trans (x2.k.trans k1),rfl,ss,r2.mono xx,rd,(ZEs (Bw.mono xx h2)).imp ?_⟩;rintro σ3 _ ⟨c3,S3,G3,rfl,x3,s3,r3,_,h3⟩
    have fin:=ZG0 h3;refine⟨c3,S3,G3,x3.k.trans (xx.k.trans (x2.k.trans k1)),rfl,s3,r3,?_⟩
    revert fin
    cases b S3 G3 with
    | nx S4 G4=>
      intro fin c4 σ4 x4 s4 q4;obtain⟨c5,S5,G5,hh,x5,s5,r5,h5⟩:=fin c4 σ4 x4 s4 q4;exact⟨c5,S5,G5,hh,x2.trans (xx.trans (x3.trans x5)),s5,r5,h5⟩
    | ct S4 G4=>
      intro fin c4 σ4 x4 s4 q4;obtain⟨c5,S5,G5,hh,x5,s5,r5,h5⟩:=fin c4 σ4 x4 s4 q4;exact⟨c5,S5,G5,hh,x2.trans (xx.trans (x3.trans x5)),s5,r5,h5⟩
    |bk S4 G4=>exact λfin=>fin
    |rt S4 G4=>exact λfin=>fin
    |err S4 G4=>exact λfin=>fin
    |bad=>exact λfin=>fin
   ·rename_i hf;exact .inl ⟨(walk c x2 G2 s2 i).2 hf,h2 c σ2 (Ext.refl c) s2 r2⟩
   ·exact h2.elim
 cases d with
 |pure xs=>
  have h1':Bw E a1 (Aq g b (xs.drop 0) S G1) W:=h1;rw[ZG7 xs.length 0 (by lia)]at h1';exact⟨_,_,ZEi q1,h1'⟩
 |mt k=>
  dsimp only at h1;split at h1
  ·rw[ZEa]at h1;exact⟨_,_,ZEw q1,h1⟩
  ·exact h1.elim
 |fn n f=>exact⟨n,f,q1,h1⟩
theorem ZUt(hp:PassesOwn (vJ X.prog X.w) X.A X.env X.xe)(hc:X.calm=vH)(hi:QI X E tg iter it)(hg:QG X E tg g)(hb:QSs X E body b)
  (hs:∀x,foldedSetIterable iter X.env x=pure x:=by intro _;rfl):QS X E (.For tg iter body [] pos) (By it g b):=(ZKM hp hc hi hg hb hs).mono λ_ _ _ h=>ZS9 h
theorem _root_._L.PI.mono(h:PI X tg iter t)(w:∀σ H Q,t' σ H Q->t σ H Q):PI X tg iter t':=λvE s σ H Q I q=>h vE s σ H Q I (w σ H Q q)
def sgn(c:Nat):D:=.str ⟨#[c]⟩
def signs(x:Str):List D:=x.cps.toList.map sgn
def Its(x:Str):It:=⟨λi _=>i<x.cps.size,λi H v H'=>H'=H/\∃c,x.cps[i]?=vF c/\v=.str ⟨#[c]⟩,λi _=>x.cps.size<=i⟩
theorem ZMq{P:xA}{w:xF}{K:PySem.W.Frag}{tg:xk}(it:xj)(x:Str)(t:Tok):Turn P w K tg (Its x) [it] it (λi h=>h.IsStrIter it "str_ascii_iterator" x t i) where
 mem:=by simp
 obj:=λi h st b hb=>by
  have e:b=it:=by simpa using hb
  subst e;obtain⟨o,e,c,d⟩:=st;exact⟨o,e,λv z=>by rw[d]at z;cases z⟩
 keep:=λi h h' st k=>let⟨o,ho,r⟩:=st;⟨o,k it (by simp) o ho,r⟩
 item:=by
  intro X hP hw hK hc i vE s σ H E I hf st hg;subst hP hw hK;obtain⟨f0,f1,f2,f3,f4,f5⟩:=hf it (by simp);have hi:i<x.cps.size:=hg;refine wpAny_pyNext_ascii_item st (c:=x.cps[i]) (by simp[hi]) λh' st' sb=>?_
  have I1:Inv X vE σ H {s with heap:=h',toks:=s.toks+1}:=I.turned (λb o hb e=>(sb.2 b hb).trans e) f0 f1 f3 f4 f5;obtain⟨o,e,c,d⟩:=id st';exact⟨_,rfl,Nk (s:={s with heap:=h',toks:=s.toks+1}) e c d (by decide) ⟨.str ⟨#[x.cps[i]]⟩,H,I1,⟨_,rfl⟩,⟨rfl,_,by simp[hi],rfl⟩,st',λb hb=>(hf b hb).1⟩⟩
 done:=by intro X hP hw hK hc i vE s σ H E I hf st hg;subst hP hw hK;obtain⟨f0,f1,f2,f3,f4,f5⟩:=hf it (by simp);have hi:x.cps.size<=i:=hg;exact wpAny_pyNext_ascii_end (I.ok.hd hc) st (by simp[hi]) λh' eb=>⟨rfl,I.turned (t':=s.toks) (λb o hb e=>eb b o hb e) f0 f1 f3 f4 f5⟩
 self:=λ_ _ _ _ _ st h=>wpAny_pyIter_striter_ascii st h
theorem ZRc{P:xA}{w:xF}{K:PySem.W.Frag}{tg:xk}(it:xj)(x:Str)(t:Tok):Turn P w K tg (Its x) [it] it (λi h=>h.IsStrIter it "str_iterator" x t i) where
 mem:=by simp
 obj:=λi h st b hb=>by
  have e:b=it:=by simpa using hb
  subst e;obtain⟨o,e,c,d⟩:=st;exact⟨o,e,λv z=>by rw[d]at z;cases z⟩
 keep:=λi h h' st k=>let⟨o,ho,r⟩:=st;⟨o,k it (by simp) o ho,r⟩
 item:=by
  intro X hP hw hK hc i vE s σ H E I hf st hg;subst hP hw hK;obtain⟨f0,f1,f2,f3,f4,f5⟩:=hf it (by simp);have hi:i<x.cps.size:=hg;refine wpAny_pyNext_wide_item st (c:=x.cps[i]) (by simp[hi]) λh' st' sb=>?_
  have I1:Inv X vE σ H {s with heap:=h',toks:=s.toks+1}:=I.turned (λb o hb e=>(sb.2 b hb).trans e) f0 f1 f3 f4 f5;obtain⟨o,e,c,d⟩:=id st';exact⟨_,rfl,Nk (s:={s with heap:=h',toks:=s.toks+1}) e c d (by decide) ⟨.str ⟨#[x.cps[i]]⟩,H,I1,⟨_,rfl⟩,⟨rfl,_,by simp[hi],rfl⟩,st',λb hb=>(hf b hb).1⟩⟩
 done:=by intro X hP hw hK hc i vE s σ H E I hf st hg;subst hP hw hK;obtain⟨f0,f1,f2,f3,f4,f5⟩:=hf it (by simp);have hi:x.cps.size<=i:=hg;exact wpAny_pyNext_wide_end (I.ok.hd hc) st (by simp[hi]) λh' eb=>⟨rfl,I.turned (t':=s.toks) (λb o hb e=>eb b o hb e) f0 f1 f3 f4 f5⟩
 self:=λ_ _ _ _ _ st h=>wpAny_pyIter_striter_wide st h
def iStr(tl:TE):TI:=λσ H R=>tl σ H λx H1=>∃z,x=.str z/\R (Its z) H1
theorem ZLO{l:xk}{tl:TE}(hl:PE X l tl):PI X tg l (iStr tl):=by
 intro vE s σ H R I h;refine thn (hl vE s σ H _ I h) λv s1 ⟨x,H1,I1,r1,q1⟩=>?_
 obtain⟨z,e,q⟩:=q1;subst e;obtain⟨t,rfl⟩:=r1;have fp:∀b∈[s1.heap.objs.size],FpOk X vE H1 b:=λb hb=>by
  have e:b=s1.heap.objs.size:=by simpa using hb
  subst e;exact I1.Ii (zK _) (I1.hok.fresh (zK _))
 cases ha:z.cps.all (· < 128)
 ·refine wpAny_pyIter_wide ha ?_;exact⟨s1.heap.objs.size,[s1.heap.objs.size],_,_,H1,rfl,I1.kept (t':=s1.toks) λb o e=>zJ _ e,ZRc _ z t,⟨_,zA _ rfl,rfl,rfl⟩,fp,q⟩
 ·refine wpAny_pyIter_ascii ha ?_;exact⟨s1.heap.objs.size,[s1.heap.objs.size],_,_,H1,rfl,I1.kept (t':=s1.toks) λb o e=>zJ _ e,ZMq _ z t,⟨_,zA _ rfl,rfl,rfl⟩,fp,q⟩
theorem Reps.signs(x:Str):Reps a (signs x) (x.cps.toList.map λc=>V.str ⟨#[c]⟩):=by
 unfold _D.signs
 induction x.cps.toList with
 |nil=>exact rfl
 |cons c r ih=>exact⟨_,_,rfl,rfl,ih⟩
def Gg:D->DH->R ItD
 |.tup xs,G=>.ok (.pure xs) G
 |.str x,G=>.ok (.pure (signs x)) G
 |.fl xs,G=>.ok (.pure xs) G
 |.ref i,G=>match G[i]? with
  |some (.lst _)=>.ok (.mt i) G
  |_=>.bad
 |_,_=>.bad
def Dt(te:DE):DI:=λS G=>(te S G).bind Gg
theorem ZTQ(he:QE X E iter te):QI X E tg iter (Dt te):=by
 intro vE s σ H R I h;obtain⟨a,S,G,hk,rfl,sm,r,h⟩:=h;cases ht:te S G with
 |bad=>
  have h':outI E a ((te S G).bind Gg) R:=h;rw[ht]at h';exact h'.elim
 |err e G1=>
  have h':outI E a ((te S G).bind Gg) R:=h;rw[ht]at h';refine Y7 (tg:=tg) he vE s σ a.H R I ⟨a,S,G,hk,rfl,sm,r,?_⟩;rw[ht];exact h'
 | ok d G1=>
  have h':outI E a ((te S G).bind Gg) R:=h;rw[ht]at h';cases d with
  |tup xs=>
   refine ZPD (tg:=tg) he vE s σ a.H R I ⟨a,S,G,hk,rfl,sm,r,?_⟩;rw[ht];rintro b v x sb ⟨p,vs,rfl,hq,rv⟩;have hq':SqT X.K b.H p vs:=by rw[<-hk,<-x.k];exact hq
   refine⟨p,rfl,⟨vs,hq'⟩,h' b _ x sb ⟨vs,rv,λc y i=>⟨λv hv=>⟨⟨vs,v,?_,hv⟩,λw H' z=>?_⟩,λhl=>⟨vs,?_,hl⟩⟩⟩⟩
   ·have:=y.sqT hq;rw[y.k,x.k,hk]at this;exact this
   ·have:=y.sqT hq;rw[y.k,x.k,hk]at this;exact⟨Option.some.inj ((z.2 vs this).symm.trans hv),z.1⟩
   ·have:=y.sqT hq;rw[y.k,x.k,hk]at this;exact this
  |fl xs=>
   refine Y7 (tg:=tg) he vE s σ a.H R I ⟨a,S,G,hk,rfl,sm,r,?_⟩;rw[ht];rintro b v x sb ⟨p,vs,rfl,hq,rv⟩;have hq':SqL X.K b.H p vs:=by rw[<-hk,<-x.k];exact hq.sq
   refine⟨p,rfl,⟨vs,hq'⟩,h' b _ x sb ⟨vs,rv,λc y i=>⟨λv hv=>⟨⟨vs,v,?_,hv⟩,λw H' z=>?_⟩,λhl=>⟨vs,?_,hl⟩⟩⟩⟩
   ·have:=(y.fzL hq).sq;rw[y.k,x.k,hk]at this;exact this
   ·have:=(y.fzL hq).sq;rw[y.k,x.k,hk]at this;exact⟨Option.some.inj ((z.2 vs this).symm.trans hv),z.1⟩
   ·have:=(y.fzL hq).sq;rw[y.k,x.k,hk]at this;exact this
  |ref k=>
   have h2:outI E a (Gg (.ref k) G1) R:=h';unfold Gg at h2;dsimp only at h2;split at h2
   ·rename_i xs hx;refine Y7 (tg:=tg) he vE s σ a.H R I ⟨a,S,G,hk,rfl,sm,r,?_⟩;rw[ht];rintro b v x sb ⟨hkn,rfl⟩;obtain⟨vs,hx,_⟩:=sb.lst hx;refine⟨b.m k,rfl,⟨vs,.of hx⟩,h2 b _ x sb ⟨hkn,λc y us hu i=>?_⟩⟩;rw[y.m k hkn]at hu;exact⟨λv hv=>⟨⟨us,v,.of hu,hv⟩,λw H' z=>⟨Option.some.inj ((z.2 us (.of hu)).symm.trans hv),z.1⟩⟩,λhl=>⟨us,.of hu,hl⟩⟩
   ·exact h2.elim
  | str z=>
   refine ZLO (tg:=tg) he vE s σ a.H R I ⟨a,S,G,hk,rfl,sm,r,?_⟩;rw[ht];intro b v x sb rv
   cases(show v=V.str z from rv)
   refine⟨z,rfl,h' b _ x sb ⟨_,Reps.signs z,λc y i=>⟨λv hv=>?_,λhl=>?_⟩⟩⟩
   ·rw[zx,zP]at hv;obtain⟨k,hk1,rfl⟩:=hv;have hk2:z.cps[i]?=vF k:=by rw[<-jQ];exact hk1
    refine⟨(Array.getElem?_eq_some_iff.mp hk2).1,λw H' q=>?_⟩;obtain⟨e1,k',e2,e3⟩:=q;rw[hk2]at e2;cases e2;exact⟨e3,e1⟩
   ·rw[qq,qD]at hl;exact hl
  |_=>exact h'.elim
end
def Bh(lo:Int)(n:Nat):List D:=(zQ n).map λ(k:Nat)=>D.int (lo+(k:Int))
def inR(j:Int):Prop:= -(2^62)<=j/\j<2^62
instance (j:Int):Decidable (inR j):=by unfold inR;infer_instance
def rng1(ds:List D)(G:DH):R ItD:=match ds with
 |[.int j]=>if inR j then .ok (.pure (Bh 0 j.toNat)) G else .bad
 |_=>.bad
def Bk(f:List D->DH->R ItD)(ta:DA):DI:=λS G=>(ta S G).bind f
def sWh(c:DB)(b:DS):Nat->DS
 |0,_,_=>.bad
 |n+1,S,G=>(c S G).toS λk G1=>if k=vH then aft (b S G1) (sWh c b n)else .nx S G1
def Ba(np nl:Nat)(b:DS):List D->DH->R D:=λds G=>if ds.length=np then tidy G (match b (ds.map vF++zV nl vG) G with
 |.nx _ G'=>.ok .non G'
 |.rt d G'=>.ok d G'
 |.err x G'=>.err x G'
 |_=>.bad)else .bad
theorem outI.mono(x:Ext a b)(h:outI E a r Q):outI E b r Q:=by
 cases r with
 |ok d G=>exact λc v y s q=>h c v (x.trans y) s q
 |err e G=>exact XOk.mono (E:=E) (e:=e) (G:=G) x h
 |bad=>exact h
theorem Py(h:outI E a (r.bind f) Q):
  Fd E a r (λvs H=>∃(b:Wd)(ds:List D)(G:DH),b.H=H/\Ext a b/\Sim b G/\Reps b ds vs/\r=.ok ds G/\outI E b (f ds G) Q):=by
 cases r with
 |ok d G=>exact λb v x s q=>⟨b,d,G,rfl,x,s,q,rfl,outI.mono x h⟩
 |err e G=>exact h
 |bad=>exact h
section
variable{X:Cx}{E:XK}{tg iter:xk}{pos:Pos}
theorem ZNB(lo:Int)(n:Nat):RepI a (.pure (Bh lo n)) (Itr lo n):=by
 refine⟨(zQ n).map λ(k:Nat)=>V.int (lo+(k:Int)),?_,λb x i=>⟨λv hv=>?_,λhl=>?_⟩⟩
 ·unfold Bh;generalize zQ n=l
  induction l with
  |nil=>exact rfl
  |cons k l ih=>exact⟨_,_,rfl,rfl,ih⟩
 ·rw[zx]at hv;by_cases hi:i<n
  ·rw[zU hi]at hv;have hv':V.int (lo+(i:Int))=v:=by simpa using hv
   exact⟨hi,λw H' y=>⟨y.2.trans hv',y.1⟩⟩
  ·rw[z0 (by simpa using hi)]at hv;cases hv
 ·show n<=i;simpa using hl
theorem ZLU{p pos:Pos}(hg:Gl X "range")(hm:X.mg "range"=vG)(ha:QA X E [e] ta)(hs:vK [e] X.env=[(vI,eval e X.env)]:=by rfl):QI X E tg (.Call (.Name "range" p) [e] [] pos) (Bk rng1 ta):=
 (ZTn hg hm ha hs).mono λσ H Q h=>by
  obtain⟨a,S,G,hk,rfl,s,r,h⟩:=h;refine⟨a,S,G,hk,rfl,s,r,(Py h).imp ?_⟩;rintro vs _ ⟨b,ds,G1,rfl,x,s1,q,-,h1⟩;unfold rng1 at h1;split at h1
  ·rename_i j;split at h1
   ·rename_i hj;obtain⟨v,r,e1,q1,q2⟩:=q
    cases(show v=V.int j from q1)
    cases(show r=[]from q2)
    exact⟨j,e1,hj.1,hj.2,h1 b _ (Ext.refl b) s1 (ZNB 0 j.toNat)⟩
   ·exact h1.elim
  ·exact h1.elim
theorem ZOJ(n:Nat)(hp:PassesOwn (vJ X.prog X.w) X.A X.env X.xe)(hc:QT X E c tc)(hb:QSs X E body tb):QS X E (.While c body [] pos) (sWh tc tb n):=(ZMf hp hc hb).mono λW σ H h=>by
 obtain⟨a,S,G,hk,rfl,s,r,h⟩:=h;refine⟨λm σ H=>∃(b:Wd)(S:DSt)(G:DH),b.H=H/\Ext a b/\Sim b G/\RepS b S σ/\Bw E b (sWh tc tb m S G) W,⟨n,a,S,G,rfl,Ext.refl a,s,r,h⟩,?_⟩;rintro m σ2 _ ⟨b,S2,G2,rfl,x2,s2,r2,h2⟩;cases m with
 |zero=>exact h2.elim
 | succ m=>
  refine⟨b,S2,G2,x2.k.trans hk,rfl,s2,r2,(ZIa h2).imp ?_⟩;rintro k _ ⟨c3,G3,rfl,x3,s3,_,h3⟩;cases k with
  |false=>exact h3 c3 σ2 (Ext.refl c3) s3 (r2.mono x3)
  | true=>
   refine⟨λσ' H'=>∃(b:Wd)(S:DSt)(G:DH),b.H=H'/\Ext a b/\Sim b G/\RepS b S σ'/\Bw E b (sWh tc tb m S G) W,λσ' H' z=>⟨m,qY _,z⟩,c3,S2,G3,x3.k.trans (x2.k.trans hk),rfl,s3,r2.mono x3,?_⟩;have fin:=ZG0 h3
   revert fin
   cases tb S2 G3 with
   |nx S4 G4=>
    intro fin c4 σ4 x4 s4 q4;obtain⟨c5,S5,G5,hh,x5,s5,r5,h5⟩:=fin c4 σ4 x4 s4 q4;exact⟨c5,S5,G5,hh,x2.trans (x3.trans x5),s5,r5,h5⟩
   |ct S4 G4=>
    intro fin c4 σ4 x4 s4 q4;obtain⟨c5,S5,G5,hh,x5,s5,r5,h5⟩:=fin c4 σ4 x4 s4 q4;exact⟨c5,S5,G5,hh,x2.trans (x3.trans x5),s5,r5,h5⟩
   |bk S4 G4=>exact λfin=>fin
   |rt S4 G4=>exact λfin=>fin
   |err S4 G4=>exact λfin=>fin
   |bad=>exact λfin=>fin
end
theorem ZSN(r:Reps a ds vs)(n m:Nat)(h:n=m):RepS a (ds.map vF++zV n vG) (vs.map vF++zV m vG):=by
 subst h;refine⟨by simp[r.length],λi d hd=>?_⟩;by_cases hi:i<ds.length
 ·rw[qV (by simpa using hi),zx]at hd;cases e:ds[i]? with
  |none=>rw[e]at hd;cases hd
  |some d'=>
   rw[e]at hd;have hd':d'=d:=by simpa using hd
   subst hd';obtain⟨v,ev,q⟩:=r.get e;exact⟨v,by rw[qV (by rw[qq,<-r.length];exact hi),zx,ev];rfl,q⟩
 ·rw[zM (by simpa using hi),jz]at hd
  split at hd<;>cases hd
theorem Lz{P:xA}{w:xF}{K:PySem.W.Frag}{mg:Str->Option xE}{base:Heap}{x qual:Str}{st:xD}{f:xj}{fd:xy}{N ps:List Str}{k:Nat}{b:DS}(F:Fun K x qual st f fd)(S:FnScope N ps (Ak st))
  (hbody:∀(cdv:xE)(A:xw)(outer:List Env)(s:xC)(H:Hp)(E:XK),Room k (A.deeper (envOfC qual (Ak st) s.heap.objs.size f cdv))->QSs (Kc CX0 P w K mg base N qual (Ak st) f cdv A outer s H E).nox E0 (Fe st) b):
  FnOk P w K mg base CX0 (k+1) f fd ps (lF K (Ba ps.length (N.length-ps.length) b)):=by
 have hlen:∀vs H Q E,lF K (Ba ps.length (N.length-ps.length) b) vs H Q E->vs.length=ps.length:=λvs H Q E h=>by
  obtain⟨a,G,ds,hk,rfl,sm,r,h⟩:=h;unfold Ba at h;split at h
  ·rename_i hl;rw[<-r.length];exact hl
  ·exact h.elim
 refine F.ok S hlen (λcdv A outer s H vs Q E hr h=>?_);refine⟨lS K E0 b,hbody cdv A outer s H E hr,?_⟩;have hl:=hlen vs H Q E h;obtain⟨a,G,ds,hk,rfl,sm,r,h⟩:=h;unfold Ba at h;split at h
 ·have h2:=ZJG sm h;refine⟨a,ds.map vF++zV (N.length-ps.length) vG,G,hk,rfl,sm,ZSN r _ _ (by rw[hl]),?_⟩
  revert h2
  cases b (ds.map vF++zV (N.length-ps.length) vG) G with
  |nx S1 G1=>exact λh2 c σ x s1 _=>h2 c .non x s1 rfl
  |rt d G1=>exact λh2=>h2
  |err e G1=>exact λh2=>h2
  |bk S1 G1=>exact λh2=>h2.elim
  |ct S1 G1=>exact λh2=>h2.elim
  |bad=>exact λh2=>h2
 ·exact h.elim
theorem Jf(s:Sim a G)(r:Rep a d x)(h:Bg d G=vF xs):∃p vs,x=.ref p/\(SqL a.K a.H p vs∨SqT a.K a.H p vs)/\Reps a xs vs:=by
 cases d with
 |tup ys=>
  have e:ys=xs:=Option.some.inj h;subst e;obtain⟨p,vs,e,q,rr⟩:=r;exact⟨p,vs,e,.inr q,rr⟩
 |fl ys=>
  have e:ys=xs:=Option.some.inj h;subst e;obtain⟨p,vs,e,q,rr⟩:=r;exact⟨p,vs,e,.inl q.sq,rr⟩
 |ref i=>
  unfold Bg at h;dsimp only at h;split at h
  ·rename_i ys hi;have e:ys=xs:=Option.some.inj h;subst e;obtain⟨vs,e1,r1⟩:=s.lst hi;exact⟨a.m i,vs,r.2,.inl (.of e1),r1⟩
  ·cases h
 |_=>cases h
def Ad (d e:D) (G:DH):R D:=match e with
 | .int i=>match d with
  | .str z=>if z.length<=1000000 then(match atI z.cps.toList i with
    |some c=>.ok (.str ⟨#[c]⟩) G
    |none=>.bad)else .bad
  | d=>match Bg d G with
   |some xs=>match atI xs i with
    |some v=>.ok v G
    |none=>.bad
   |none=>.bad
 |_=>.bad
theorem ZFR(r:Reps a xs vs)(h:atI xs i=vF d):∃v,atI vs i=vF v/\Rep a d v:=by
 unfold atI at h⊢;rw[<-r.length];cases e:ixN xs.length i with
 |none=>rw[e]at h;cases h
 |some j=>
  rw[e]at h
  obtain⟨v,ev,q⟩:=r.get (show xs[j]?=vF d from h)
  exact⟨v,ev,q⟩
section
variable{X:Cx}{E:XK}
theorem _root_._L.IxR.mono(h:IxR X r)(w:∀x y H Q,r' x y H Q->r x y H Q):IxR X r':=λvalue slice vE s σ H x y v u Q I rx ry q hs=>h value slice vE s σ H x y v u Q I rx ry (w _ _ _ _ q) hs
theorem _root_._L.CallR.mono(h:CallR X f r)(w:∀xs H Q,r' xs H Q->r xs H Q):CallR X f r':=λvE s σ H xs us Q I rs q=>h vE s σ H xs us Q I rs (w _ _ _ q)
theorem _root_._L.MtM.mono{id:String}{r r':V->List V->Hp->VK->Prop}(h:MtM X id r)(w:∀x xs H Q,r' x xs H Q->r x xs H Q):MtM X id r':=λvE s σ H x xs v us Q I rx rs q=>h vE s σ H x xs v us Q I rx rs (w _ _ _ _ q)
theorem i_ix:IxR X (lR2 X.K E Ad):=ZLS.mono λx y H Q h=>by
 obtain⟨a,G,d,e,hk,rfl,s,rd,re,q⟩:=h;cases e with
 | int i=>
  have fin:∀{xs:List D},Bg d G=vF xs->out E a (match atI xs i with |some v=>.ok v G|none=>.bad) Q->rIx X.K x y a.H Q:=λ{xs}hs q=>by
   obtain⟨p,vs,e1,h1,r1⟩:=Jf s rd hs;rw[hk]at h1;split at q
   ·rename_i v hv;obtain⟨u,hu,ru⟩:=ZFR r1 hv;have z:=q a u (Ext.refl a) s ru;rcases h1 with h1|h1
    ·exact .inl ⟨p,vs,i,u,e1,re,h1,hu,z⟩
    ·exact .inr (.inl ⟨p,vs,i,u,e1,re,h1,hu,z⟩)
   ·exact q.elim
  have fin':out E a (match Bg d G with |some xs=>(match atI xs i with |some v=>.ok v G|none=>.bad)|none=>.bad) Q->rIx X.K x y a.H Q:=λq=>by
   cases hs:Bg d G with
   |none=>rw[hs]at q;exact q.elim
   |some xs=>rw[hs]at q;exact fin hs q
  cases d with
  | str z=>
   unfold Ad at q;dsimp only at q;split at q
   ·rename_i hl;split at q
    ·rename_i c hc;exact .inr (.inr ⟨z,i,c,rd,re,zC hl size6,hc,q a _ (Ext.refl a) s rfl⟩)
    ·exact q.elim
   ·exact q.elim
  |tup ys=>exact fin' q
  |fl ys=>exact fin' q
  |ref j=>exact fin' q
  |_=>exact fin' q
 |_=>exact q.elim
def Bm(ds:List D)(G:DH):R D:=match ds with
 |[.str z]=>if z.length<=1000000 then .ok (.int z.length) G else .bad
 |[d]=>match Bg d G with
  |some xs=>.ok (.int xs.length) G
  |none=>.bad
 |_=>.bad
theorem reps1(r:Reps a [d] vs):∃v,vs=[v]/\Rep a d v:=by
 obtain⟨v,r',e,q,z⟩:=r
 cases(show r'=[]from z)
 exact⟨v,e,q⟩
theorem reps2(r:Reps a [d,d'] vs):∃v v',vs=[v,v']/\Rep a d v/\Rep a d' v':=by obtain⟨v,r',e,q,z⟩:=r;obtain⟨v',e',q'⟩:=reps1 z;subst e';exact⟨v,v',e,q,q'⟩
theorem ZUk:CallR X (.builtin "len") (lRn X.K E Bm):=(ZMC.or ZPE).mono λvs H Q h=>by
 obtain⟨a,G,ds,hk,rfl,s,r,q⟩:=h;unfold Bm at q;split at q
 ·rename_i z;split at q
  ·rename_i hl;obtain⟨v,rfl,rv⟩:=reps1 r
   cases(show v=V.str z from rv)
   exact .inr ⟨z,rfl,zC hl size6,q a _ (Ext.refl a) s rfl⟩
  ·exact q.elim
 ·rename_i d _;split at q
  ·rename_i xs hs;obtain⟨v,rfl,rv⟩:=reps1 r;obtain⟨p,us,rfl,h1,r1⟩:=Jf s rv hs;rw[hk]at h1;exact .inl ⟨p,us,rfl,h1,q a _ (Ext.refl a) s (by rw[<-r1.length];exact rfl)⟩
  ·exact q.elim
 ·exact q.elim
def Dj(ds:List D)(G:DH):R D:=match ds with
 |[d]=>match Bg d G with
  |some xs=>.ok (.tup xs) G
  |none=>.bad
 |_=>.bad
theorem ZKl:CallR X (.type "tuple") (lRn X.K E Dj):=ZNM.mono λvs H Q h=>by
 obtain⟨a,G,ds,hk,rfl,s,r,q⟩:=h;unfold Dj at q;split at q
 ·rename_i d;split at q
  ·rename_i xs hs;obtain⟨v,rfl,rv⟩:=reps1 r;obtain⟨p,us,rfl,h1,r1⟩:=Jf s rv hs;refine⟨p,us,rfl,?_⟩;rcases h1 with h1|h1
   ·exact .inl ⟨by rw[<-hk];exact h1,λl hl=>W7 s r1 q l hl⟩
   ·exact .inr ⟨by rw[<-hk];exact h1,q a _ (Ext.refl a) s ⟨p,us,rfl,h1,r1⟩⟩
  ·exact q.elim
 ·exact q.elim
def K6(ds:List D)(G:DH):R D:=match ds with
 |[.str z]=>if z.length<=1000000 then .ok (.ref G.length) (G++[.lst (signs z)])else .bad
 |[d]=>match Bg d G with
  |some xs=>.ok (.ref G.length) (G++[.lst xs])
  |none=>.bad
 |_=>.bad
theorem ZAd:∀{vs:List V}{us:List xE},vs.length=us.length->(∀(i:Nat)(v:V)(u:xE),vs[i]?=vF v->us[i]?=vF u->RelV v u)->Vals vs us
 |[],[],_,_=>.nil
 |[],_::_,h,_=>by cases h
 |_::_,[],h,_=>by cases h
 |v::vs,u::us,h,f=>.cons (f 0 v u rfl rfl) (ZAd (by simpa using h) λi v' u' h1 h2=>f (i+1) v' u' (by simpa using h1) (by simpa using h2))
theorem ZKd(hc:X.calm=vH):CallR X (.type "list") (λxs H Q=>∃z:Str,xs=[.str z]/\z.length<=sizeLine/\∀l,H l=vG->Q (.ref l) (upd H l (.lst (z.cps.toList.map λc=>V.str ⟨#[c]⟩)))):=by
 intro vE s σ H xs us Q I r h;obtain⟨z,rfl,hz,q⟩:=h;obtain⟨u,rfl,t,rfl⟩:=vals1 r;refine PySem.call_list_str (I.ok.hd hc) z t (λh' tk acc c hk hS hacc=>?_) hz;have hn:H s.heap.objs.size=vG:=I.hok.fresh (zK _);refine⟨.ref s.heap.objs.size,upd H s.heap.objs.size (.lst (z.cps.toList.map λc=>V.str ⟨#[c]⟩)),I.laid (t':=tk) (h':=h') hk (zK _) ?_,rfl,q _ hn⟩;refine⟨by rw[qq,qD];exact hz,acc.toList,c,ZAd ?_ λi v u h1 h2=>?_,by simpa using hS⟩
 ·rw[qq,qD,qD];exact hacc.1.symm
 ·rw[zx,zP]at h1;obtain⟨k,e1,rfl⟩:=h1;obtain⟨k',t',e2,rfl⟩:=hacc.2 i u (by rw[<-jQ];exact h2);rw[jQ,e2]at e1;cases e1;exact⟨t',rfl⟩
theorem ZUJ(hc:X.calm=vH):CallR X (.type "list") (lRn X.K E K6):=(ZLV.or (ZKd hc)).mono λvs H Q h=>by
 obtain⟨a,G,ds,hk,rfl,s,r,q⟩:=h;unfold K6 at q;split at q
 ·rename_i z;split at q
  ·rename_i hl;obtain⟨v,rfl,rv⟩:=reps1 r
   cases(show v=V.str z from rv)
   exact .inr ⟨z,rfl,zC hl size6,λl hl=>Jq s (Reps.signs z) q l hl⟩
  ·exact q.elim
 ·rename_i d _;split at q
  ·rename_i xs hs;obtain⟨v,rfl,rv⟩:=reps1 r;obtain⟨p,us,rfl,h1,r1⟩:=Jf s rv hs;exact .inl ⟨p,us,rfl,by rw[<-hk];exact h1,λl hl=>Jq s r1 q l hl⟩
  ·exact q.elim
 ·exact q.elim
def Px(ds:List D)(G:DH):R D:=match ds with
 |[.int i,.int j]=>.ok (.int (if j>i then j else i)) G
 |_=>.bad
def K1(ds:List D)(G:DH):R D:=match ds with
 |[.int i,.int j]=>.ok (.int (if j<i then j else i)) G
 |_=>.bad
theorem ZOV(hc:X.calm=vH):CallR X (.builtin "max") (lRn X.K E Px):=(ZKK hc).mono λvs H Q h=>by
 obtain⟨a,G,ds,hk,rfl,s,r,q⟩:=h;unfold Px at q;split at q
 ·obtain⟨v,v',rfl,h1,h2⟩:=reps2 r
  cases(show v=V.int _ from h1)
  cases(show v'=V.int _ from h2)
  exact⟨_,_,rfl,q a _ (Ext.refl a) s rfl⟩
 ·exact q.elim
theorem ZLL(hc:X.calm=vH):CallR X (.builtin "min") (lRn X.K E K1):=(ZLr hc).mono λvs H Q h=>by
 obtain⟨a,G,ds,hk,rfl,s,r,q⟩:=h;unfold K1 at q;split at q
 ·obtain⟨v,v',rfl,h1,h2⟩:=reps2 r
  cases(show v=V.int _ from h1)
  cases(show v'=V.int _ from h2)
  exact⟨_,_,rfl,q a _ (Ext.refl a) s rfl⟩
 ·exact q.elim
def Dl(o:D)(ds:List D)(G:DH):R D:=match o,ds with
 |.ref i,[d]=>match G[i]? with
  |some (.lst xs)=>if xs.length<1000000 then .ok .non (G.set i (.lst (xs++[d])))else .bad
  |_=>.bad
 |_,_=>.bad
def lRm(K:PySem.W.Frag)(E:XK)(f:D->List D->DH->R D):V->List V->Hp->VK->Prop:=λx xs H Q=>∃(a:Wd)(G:DH)(d:D)(ds:List D),a.K=K/\a.H=H/\Sim a G/\Rep a d x/\Reps a ds xs/\out E a (f d ds G) Q
theorem Sim.isList(s:Sim a G)(h:G[i]?=vF (.lst xs)):∃vs,SqL a.K a.H (a.m i) vs:=let⟨vs,e,_⟩:=s.lst h;⟨vs,.of e⟩
theorem ZS3:MtM X "list.append" (lRm X.K E Dl):=ZKC.mono λx xs H Q h=>by
 obtain⟨a,G,d,ds,hk,rfl,s,rd,r,q⟩:=h;unfold Dl at q;split at q
 ·rename_i i d;obtain⟨v,rfl,rv⟩:=reps1 r;split at q
  ·rename_i ys hy;split at q
   ·rename_i hl;obtain⟨vs,e1,r1⟩:=s.lst hy;obtain⟨x3,s3⟩:=ZCJ s rd.1 e1 (r1.append (Reps.cons rv Reps.nil));refine⟨a.m i,vs,v,rd.2,rfl,e1,by rw[<-r1.length];exact zj hl size6,?_⟩;exact q _ .non x3 s3 rfl
   ·exact q.elim
  ·exact q.elim
 ·exact q.elim
variable{o e:xk}{es:List xk}{to:DE}{t:DA}{name:Str}{apos cpos:Pos}{T id:String}{f:D->List D->DH->R D}
def isL(d:D)(G:DH):Bool:=match d with
 |.ref i=>match G[i]? with
  |some (.lst _)=>vH
  |_=>vI
 |.fl _=>vH
 |_=>vI
def De(f:D->List D->DH->R D)(o:DE)(t:DA):DE:=λS G=>(o S G).bind λx G1=>if isL x G1=vH then(t S G1).bind λxs G2=>f x xs G2 else .bad
theorem ZTW(s:Sim a G)(r:Rep a d x)(h:isL d G=vH):tyV a.K "list" x a.H:=by
 cases d with
 |ref i=>
  unfold isL at h;dsimp only at h;split at h
  ·rename_i xs hx;cases r.2;exact .inl ⟨rfl,s.isList hx⟩
  ·cases h
 |fl xs=>
  obtain⟨p,vs,rfl,q,_⟩:=r;exact .inl ⟨rfl,vs,q.sq⟩
 |_=>cases h
theorem ZSO(slot:Slot "list" name id)(hty:typeOf (.builtin id)=pure (.type "method_descriptor"))(hm:MtM X id (lRm X.K E f))(ho:QE X E o to)(ha:QA X E (e::es) t)
  (hbase:xH o name X.env (eval o X.env)=eval o X.env:=by rfl)
  (hfew:((xI cpos (vK (e::es) X.env)).all (λx=> !x.1)&&(xL cpos (xU [] X.env)).all (λx=>x.1.isSome)
   && decide ((e::es).length+([]:List Keyword).length+(if([]:List Keyword).isEmpty then 0 else 1)<30))=vH:=by rfl)
  (hline:(apos.endLine==cpos.line)=vH:=by rfl) (hs:vK (e::es) X.env=(vI,eval e X.env)::vK es X.env:=by rfl) (hplain:(xI cpos (vK es X.env)).any (·.1)=vI:=by rfl):
  QE X E (.Call (.Attribute o name apos) (e::es) [] cpos) (De f to t):=(ZL8 PySem.F.plainAttrs_list slot hty hm ho ha hbase hfew hline hs hplain).mono λσ H Q h=>by
 obtain⟨a,S,G,hk,rfl,s,r,h⟩:=h;refine⟨a,S,G,hk,rfl,s,r,(Ej h).imp ?_⟩;rintro v _ ⟨b,d,G1,rfl,x,s1,q,-,h1⟩;split at h1
 ·rename_i hl;have ty:=ZTW s1 q hl;rw[x.k,hk]at ty;refine⟨ty,b,S,G1,x.k.trans hk,rfl,s1,r.mono x,(M3 h1).imp ?_⟩;rintro vs _ ⟨c,ds,G2,rfl,y,s2,q2,-,h2⟩;exact⟨c,G2,d,ds,y.k.trans (x.k.trans hk),rfl,s2,q.mono y,q2,h2⟩
 ·exact h1.elim
end
inductive Ty where|non|bl|int|str|tup|lst
def Ty.name:Ty->String
 |.non=>"NoneType" | .bl=>"bool" | .int=>"int" | .str=>"str" | .tup=>"tuple" | .lst=>"list"
def tyD(G:DH):D->Option Ty
 |.non=>vF .non
 |.bl _=>vF .bl
 |.int _=>vF .int
 |.str _=>vF .str
 |.tup _=>vF .tup
 |.fl _=>vF .lst
 |.ref i=>match G[i]? with
  |some (.lst _)=>vF .lst
  |_=>vG
 |.ty _=>vG
def Ty.sub(t:Ty):String->Option Bool
 |"int"=>vF (match t with | .int=>vH | .bl=>vH|_=>vI)
 |"bool"=>vF (match t with | .bl=>vH|_=>vI)
 |"str"=>vF (match t with | .str=>vH|_=>vI)
 |"tuple"=>vF (match t with | .tup=>vH|_=>vI)
 |"list"=>vF (match t with | .lst=>vH|_=>vI)
 |_=>vG
def Ft(ds:List D)(G:DH):R D:=match ds with
 | [d,.ty T]=>match tyD G d with
  |some t=>match t.sub T with
   |some k=>.ok (.bl k) G
   |none=>.bad
  |none=>.bad
 |_=>.bad
theorem ZUm{K:PySem.W.Frag}{t:Ty}{T:String}{k:Bool}(h:t.sub T=vF k):PySem.W.kitOne K (.type t.name) (.type T)=vF k:=by
 unfold Ty.sub at h;split at h
 iterate 5 (cases t<;>cases h<;>rfl)
 cases h
section
variable{X:Cx}{E:XK}
theorem ZPR:CallR X (.builtin "isinstance") (lRn X.K E Ft):=by
 intro vE s σ H vs us Q I rs h;obtain⟨a,G,ds,hk,rfl,sm,r,q⟩:=h;unfold Ft at q;split at q
 ·rename_i d T;obtain⟨v,v',rfl,h1,h2⟩:=reps2 r
  cases(show v'=V.ty T from h2)
  obtain⟨u,u',rfl,ru,ru'⟩:∃u u',us=[u,u']/\RelV v u/\RelV (.ty T) u':=by
   cases rs with
   |cons p q=>cases q with
    |cons p' q'=>cases q';exact⟨_,_,rfl,p,p'⟩
  cases(show u'=Value.type T from ru')
  split at q
  ·rename_i t ht;split at q
   ·rename_i k hk';have fin:∀tk:Nat,EP X vE σ Q (.bool k) {s with toks:=tk}:=λtk=>⟨.bl k,a.H,I.tok _,rfl,q a _ (Ext.refl a) sm rfl⟩
    have e:=ZUm (K:=X.K) hk';clear q hk' r;have L:∀(p:xj)(ws:List V),SqL X.K a.H p ws->u=.ref p->t=.lst->vq (vJ X.prog X.w) X.A (call (.builtin "isinstance") [u,.type T]) (EP X vE σ Q) X.xe s:=λp ws hq eu et=>by
     subst eu et;obtain⟨its,_,pl,_⟩:=I.list hq
     exact PySem.W.kia_one PySem.W.kitx_list I.kIn (let⟨o,e,c,_⟩:=pl.isList;⟨o,e,c⟩) e (λz=>nomatch z) fin
    cases d with
    |non=>cases ht;cases(show v=_ from h1);cases ru;exact PySem.W.kia_one PySem.W.kitx_none I.kIn True.intro e (λz=>nomatch z) fin
    |bl b=>cases ht;cases(show v=_ from h1);cases ru;exact PySem.W.kia_one PySem.W.kitx_bool I.kIn True.intro e (λz=>nomatch z) fin
    |int b=>cases ht;cases(show v=_ from h1);obtain⟨tk,rfl⟩:=ru;exact PySem.W.kia_one PySem.W.kitx_int I.kIn True.intro e (λz=>nomatch z) fin
    |str b=>cases ht;cases(show v=_ from h1);obtain⟨tk,rfl⟩:=ru;exact PySem.W.kia_one PySem.W.kitx_str I.kIn True.intro e (λz=>nomatch z) fin
    |tup b=>
     cases ht;obtain⟨p,ws,rfl,hq,_⟩:=h1;cases ru;rw[hk]at hq;obtain⟨its,_,pl,_⟩:=I.tuple hq
     exact PySem.W.kia_one PySem.W.kitx_tuple I.kIn (let⟨o,e,c,_⟩:=pl;⟨o,e,c⟩) e (λz=>nomatch z) fin
    |fl b=>
     cases ht;obtain⟨p,ws,rfl,hq,_⟩:=h1;exact L p ws (hk▸hq.sq) ru rfl
    |ref b=>
     unfold tyD at ht;dsimp only at ht;split at ht
     ·rename_i xs hx;cases ht;obtain⟨ws,e1,_⟩:=sm.lst hx;cases h1.2;exact L _ ws (.of e1) ru rfl
     ·cases ht
    |ty n=>cases ht
   ·exact q.elim
  ·exact q.elim
 ·exact q.elim
end
def Fg:List D->Option (List Int)
 |[]=>vF []
 |.int i::r=>(Fg r).map (i::·)
 |_=>vG
def Gf:List D->Option (List Bool)
 |[]=>vF []
 |.bl i::r=>(Gf r).map (i::·)
 |_=>vG
@[simp]theorem ZCL(ns:List Int):Fg (ns.map D.int)=vF ns:=by
 induction ns with
 |nil=>rfl
 |cons n ns ih=>simp[Fg,ih]
@[simp]theorem ZVI(ns:List Bool):Gf (ns.map D.bl)=vF ns:=by
 induction ns with
 |nil=>rfl
 |cons n ns ih=>simp[Gf,ih]
theorem Tt:∀{xs:List D}{ns:List Int},Fg xs=vF ns->xs=ns.map D.int
 |[],ns,h=>by cases h;rfl
 |.int i::r,ns,h=>by simp only[Fg,zP]at h;obtain⟨ms,h1,rfl⟩:=h;rw[zk,Tt h1]
 |.non::r,ns,h=>by simp[Fg]at h
 |.bl _::r,ns,h=>by simp[Fg]at h
 |.str _::r,ns,h=>by simp[Fg]at h
 |.ty _::r,ns,h=>by simp[Fg]at h
 |.tup _::r,ns,h=>by simp[Fg]at h
 |.fl _::r,ns,h=>by simp[Fg]at h
 |.ref _::r,ns,h=>by simp[Fg]at h
theorem Xb:∀{xs:List D}{ns:List Bool},Gf xs=vF ns->xs=ns.map D.bl
 |[],ns,h=>by cases h;rfl
 |.bl i::r,ns,h=>by simp only[Gf,zP]at h;obtain⟨ms,h1,rfl⟩:=h;rw[zk,Xb h1]
 |.non::r,ns,h=>by simp[Gf]at h
 |.int _::r,ns,h=>by simp[Gf]at h
 |.str _::r,ns,h=>by simp[Gf]at h
 |.ty _::r,ns,h=>by simp[Gf]at h
 |.tup _::r,ns,h=>by simp[Gf]at h
 |.fl _::r,ns,h=>by simp[Gf]at h
 |.ref _::r,ns,h=>by simp[Gf]at h
def Kp(ds:List D)(G:DH):R D:=match ds with
 | [d]=>match Bg d G with
  |some xs=>match Gf xs with
   |some ns=>.ok (.bl (ns.all id)) G
   |none=>.bad
  |none=>.bad
 |_=>.bad
def Kz(ds:List D)(G:DH):R D:=match ds with
 | [d]=>match Bg d G with
  |some xs=>match Gf xs with
   |some ns=>.ok (.bl (ns.any id)) G
   |none=>.bad
  |none=>.bad
 |_=>.bad
section
variable{X:Cx}{E:XK}{vE:List (xj×Obj)}{σ:St}{s:xC}{H:Hp}
theorem T7(I:Inv X vE σ H s)(hc:X.calm=vH)(h:SqL X.K H p vs∨SqT X.K H p vs)
  (hQ:∀(it:xj)(fp wr:List xj)(its:List xE)(St:Nat->Heap->Prop)(s₂:xC),Vals vs its->Walks X.prog X.w X.A.in1 it fp wr its.toArray.size (λi v=>its.toArray[i]?=vF v) St->St 0 s₂.heap->(∀b∈fp,b<s₂.heap.objs.size)->
   (∀h' tk,(∀b o,b∉wr->s₂.heap.get? b=vF o->h'.get? b=vF o)->Inv X vE σ H {s₂ with heap:=h',toks:=tk})->Q (.ref it) s₂):
  vq (vJ X.prog X.w) X.A.in1 (pyIter (.ref p)) Q E' s:=by
 have hh:X.A.in1.handled=vG:=I.ok.hd hc;rcases h with h|h
 ·obtain⟨its,r,pl,hz⟩:=I.list h;refine wpAny_pyIter_list pl.isList ?_;have hp:p<s.heap.objs.size:=by obtain⟨o,e,_⟩:=pl.isList;exact zw e
  refine hQ _ _ _ its _ _ r (Walks.list hh _ p (zG hp) its.toArray) ⟨⟨_,zA _ rfl,rfl,rfl⟩,?_⟩ (λb hb=>?_) λh' tk kk=>?_
  ·obtain⟨o,e,c⟩:=pl.isList;exact⟨o,zJ _ e,c⟩
  ·show b<(s.heap.push _).objs.size;rw[qF];rcases zq.mp hb with rfl|hb
   ·exact qY _
   ·have e:b=p:=by simpa using hb
    subst e;exact qR hp
  ·refine I.kept λb o e=>kk b o (λhb=>?_) (zJ _ e)
   have e2:b=s.heap.objs.size:=by simpa using hb
   subst e2;exact absurd (zw e) (qK _)
 ·obtain⟨its,r,pl,hz⟩:=I.tuple h
  refine wpAny_pyIter_tuple (show s.heap.IsTuple p its.toArray from pl) ?_
  have hp:p<s.heap.objs.size:=by obtain⟨o,e,_⟩:=pl;exact zw e
  refine hQ _ _ _ its _ _ r (Walks.tuple hh _ p (zG hp) its.toArray) ⟨⟨_,zA _ rfl,rfl,rfl⟩,?_⟩ (λb hb=>?_) λh' tk kk=>?_
  ·obtain⟨o,e,c⟩:=pl;exact⟨o,zJ _ e,c⟩
  ·show b<(s.heap.push _).objs.size;rw[qF];rcases zq.mp hb with rfl|hb
   ·exact qY _
   ·have e:b=p:=by simpa using hb
    subst e;exact qR hp
  ·refine I.kept λb o e=>kk b o (λhb=>?_) (zJ _ e)
   have e2:b=s.heap.objs.size:=by simpa using hb
   subst e2;exact absurd (zw e) (qK _)
theorem Xa:∀{ns:List Int}{vs:List V},Reps a (ns.map D.int) vs->vs=ns.map V.int
 |[],vs,h=>h
 |n::ns,vs,h=>by
  obtain⟨v,r,e,h1,h2⟩:=h
  cases(show v=V.int n from h1)
  rw[e,Xa h2]
  rfl
theorem ZB5:∀{ns:List Bool}{vs:List V},Reps a (ns.map D.bl) vs->vs=ns.map V.bl
 |[],vs,h=>h
 |n::ns,vs,h=>by
  obtain⟨v,r,e,h1,h2⟩:=h
  cases(show v=V.bl n from h1)
  rw[e,ZB5 h2]
  rfl
theorem all_range(ns:List Bool):(zQ ns.length).all (λi=>ns.getD i vH)=ns.all id:=by
 rw[Bool.eq_iff_iff,q8,q8];constructor
 ·intro h b hb;obtain⟨i,hi,rfl⟩:=qE hb;simpa[hi]using h i (qz.mpr hi)
 ·intro h i hi;have hi':i<ns.length:=qz.mp hi;simpa[hi']using h ns[i] (q9 hi')
theorem any_range(ns:List Bool):(zQ ns.length).any (λi=>ns.getD i vH)=ns.any id:=by
 rw[Bool.eq_iff_iff,List.any_eq_true,List.any_eq_true];constructor
 ·rintro⟨i,hi,h⟩;have hi':i<ns.length:=qz.mp hi;exact⟨ns[i],q9 hi',by simpa[hi']using h⟩
 ·rintro⟨b,hb,h⟩;obtain⟨i,hi,rfl⟩:=qE hb;exact⟨i,qz.mpr hi,by simpa[hi]using h⟩
theorem ZN6(hc:X.calm=vH):CallR X (.builtin "all") (lRn X.K E Kp):=by
 intro vE s σ H vs us Q I rs h;obtain⟨a,G,ds,hk,rfl,sm,r,q⟩:=h;unfold Kp at q;split at q
 ·rename_i d;obtain⟨v,rfl,rv⟩:=reps1 r;split at q
  ·rename_i xs hs;split at q
   ·rename_i ns hn;cases Xb hn;obtain⟨p,ws,rfl,h1,r1⟩:=Jf sm rv hs;cases ZB5 r1;rw[hk]at h1;obtain⟨u,rfl,ru⟩:=vals1 rs;cases ru;refine call_all_walk (T7 I hc h1 λit fp wr its St s₂ hv W st hfp fin=>⟨it,fp,wr,its.toArray.size,_,St,λi=>ns.getD i vH,rfl,W,st,λi w s' Q' E' hw hQ'=>?_,λh' tk kk=>?_⟩)
    ·have hw':its[i]?=vF w:=by simpa using hw
     have hl:i<(ns.map V.bl).length:=by rw[hv.length];exact(zH.mp hw').1
     have hl':i<ns.length:=by simpa using hl
     obtain⟨u,hu,ru⟩:=hv.get (i:=i) (x:=V.bl ns[i]) (by simp[hl']);rw[hw']at hu;cases hu;cases ru;refine vA ?_;simpa[hl']using hQ'
    ·refine⟨.bl (ns.all id),a.H,fin h' tk kk,?_,q a _ (Ext.refl a) sm rfl⟩;have hl:its.toArray.size=ns.length:=by rw[zY,<-hv.length];simp
     rw[hl,all_range]
     rfl
   ·exact q.elim
  ·exact q.elim
 ·exact q.elim
theorem ZRd(hc:X.calm=vH):CallR X (.builtin "any") (lRn X.K E Kz):=by
 intro vE s σ H vs us Q I rs h;obtain⟨a,G,ds,hk,rfl,sm,r,q⟩:=h;unfold Kz at q;split at q
 ·rename_i d;obtain⟨v,rfl,rv⟩:=reps1 r;split at q
  ·rename_i xs hs;split at q
   ·rename_i ns hn;cases Xb hn;obtain⟨p,ws,rfl,h1,r1⟩:=Jf sm rv hs;cases ZB5 r1;rw[hk]at h1;obtain⟨u,rfl,ru⟩:=vals1 rs;cases ru;refine call_any_walk (T7 I hc h1 λit fp wr its St s₂ hv W st hfp fin=>⟨it,fp,wr,its.toArray.size,_,St,λi=>ns.getD i vH,rfl,W,st,λi w s' Q' E' hw hQ'=>?_,λh' tk kk=>?_⟩)
    ·have hw':its[i]?=vF w:=by simpa using hw
     have hl:i<(ns.map V.bl).length:=by rw[hv.length];exact(zH.mp hw').1
     have hl':i<ns.length:=by simpa using hl
     obtain⟨u,hu,ru⟩:=hv.get (i:=i) (x:=V.bl ns[i]) (by simp[hl']);rw[hw']at hu;cases hu;cases ru;refine vA ?_;simpa[hl']using hQ'
    ·refine⟨.bl (ns.any id),a.H,fin h' tk kk,?_,q a _ (Ext.refl a) sm rfl⟩;have hl:its.toArray.size=ns.length:=by rw[zY,<-hv.length];simp
     rw[hl,any_range]
     rfl
   ·exact q.elim
  ·exact q.elim
 ·exact q.elim
end
section
variable{X:Cx}{vE:List (xj×Obj)}{σ:St}{H:Hp}{s:xC}
theorem ZBM(I:Inv X vE σ H s)(hn:H a=vG)(hy:X.s₀.heap.objs.size<=a)(hL:a≠X.env.locals)(hc:∀x c,X.env.cells.lookup x=vF c->c≠a)(hp:∀p∈X.pn++vE,p.1≠a)
  (new:ObjOk X.prog X.w (upd H a o) s.heap a o):Inv X vE σ (upd H a o) s:=by
 have ne:∀b u,H b=vF u->b≠a:=λb u e z=>by rw[z,hn]at e;cases e
 refine⟨I.ok,I.os,I.bare,⟨I.base.keep,I.base.slot,λb ob q n hx=>?_,I.base.there,λb xs q=>?_,λb ob u q=>?_,λb ps q=>?_⟩,I.loc,I.cell,?_,λx c e=>?_,λp hp'=>?_,λb u e=>?_,I.len⟩
 ·rw[Al (zG (zj (zw q) hy))];exact I.base.free b ob q n hx
 ·have:=I.base.tups b xs q;rw[Al (ne _ _ this)];exact this
 ·have:=I.base.frzs b ob u q;rw[Al (ne _ _ this)];exact this
 ·obtain⟨more,this⟩:=I.base.tbls b ps q;exact⟨more,by rw[Al (ne _ _ this)];exact this⟩
 ·rw[Al (Ne.symm hL)];exact I.free
 ·rw[Al (hc x c e)];exact I.Hq x c e
 ·obtain⟨e1,e2,e3⟩:=I.pin p hp';exact⟨e1,by rw[Al (hp p hp')];exact e2,e3⟩
 ·by_cases hb:b=a
  ·subst hb;rw[Ei]at e;cases e;exact new
  ·rw[Al hb]at e;exact(I.hok b u e).stay (λ_ _ _ q=>q) (λc q=>by rw[Al (ne _ _ q)];exact q) λc xs q=>by rw[Al (ne _ _ q)];exact q
end
def Es(env:Env):List (Str×x0)->List (Str×xj)->List (Str×xj)
 |[],cs=>cs
 |(n,k)::r,cs=>if(k==NameKind.free)=vH then Es env r ((n,(env.cells.lookup n).getD 0)::cs)else Es env r cs
theorem ZJq(h:∀y∈scope.names,y.2=.free->∃c,env.cells.lookup y.1=vF c):closureFor scope env=pure (Es env scope.names []):=by
 unfold closureFor;obtain⟨kind,names,g1,g2⟩:=scope;have key:∀(names:List (Str×x0))(cs:List (Str×xj)),(∀y∈names,y.2=.free->∃c,env.cells.lookup y.1=vF c)->
   (forIn names cs (λx r=>match x with
    |(name,kind)=>if(kind==NameKind.free)=vH then(do let c<-cellOf env name;pure (ForInStep.yield ((name,c)::r)))else pure (ForInStep.yield r)):Sem (List (Str×xj)))=pure (Es env names cs):=by
  intro names
  induction names with
  |nil=>intro cs _;rfl
  | cons y r ih=>
   intro cs hy;obtain⟨n,k⟩:=y;rw[xY];by_cases hk:(k==NameKind.free)=vH
   ·obtain⟨c,hc⟩:=hy (n,k) zW (by simpa using hk)
    have e1:cellOf env n=pure c:=by unfold cellOf;rw[show env.cells.lookup n=vF c from hc]
    have e2:Es env ((n,k)::r) cs=Es env r ((n,c)::cs):=by rw[Es,if_pos hk,show env.cells.lookup n=vF c from hc];rfl
    rw[e2,<-ih ((n,c)::cs) λy' hy'=>hy y' (zZ _ hy')];simp only[hk,if_true,e1]
    rfl
   ·have e2:Es env ((n,k)::r) cs=Es env r cs:=by rw[Es,if_neg hk]
    rw[e2,<-ih cs λy' hy'=>hy y' (zZ _ hy')];simp only[hk]
    rfl
 have:=key names [] h;exact congrArg (λm:Sem (List (Str×xj))=>m >>=λr=>pure r) this
theorem Wj:∀{names:List (Str×x0)}{cs:List (Str×xj)},(∀y∈names,y.2=.free->∃c,env.cells.lookup y.1=vF c)->(∀p∈cs,env.cells.lookup p.1=vF p.2)->∀p∈Es env names cs,env.cells.lookup p.1=vF p.2
 |[],cs,_,hc,p,hp=>hc p hp
 | (n,k)::r,cs,hn,hc,p,hp=>by
  rw[Es]at hp;split at hp
  ·rename_i hk;obtain⟨c,e⟩:=hn (n,k) zW (by simpa using hk);refine Wj (λy hy=>hn y (zZ _ hy)) (λq hq=>?_) p hp;rcases zq.mp hq with rfl|hq
   ·rw[show env.cells.lookup n=vF c from e];rfl
   ·exact hc q hq
  ·exact Wj (λy hy=>hn y (zZ _ hy)) hc p hp
theorem Rj:∀{names:List (Str×x0)}{cs:List (Str×xj)},((x,.free)∈names∨∃c,(x,c)∈cs)->∃c,(x,c)∈Es env names cs
 |[],cs,h=>by
  rcases h with h|h
  ·cases h
  ·exact h
 | (n,k)::r,cs,h=>by
  rw[Es];split
  ·refine Rj ?_;rcases h with h|⟨c,h⟩
   ·rcases zq.mp h with e|h
    ·cases e;exact .inr ⟨_,zW⟩
    ·exact .inl h
   ·exact .inr ⟨c,zZ _ h⟩
  ·rename_i hk;refine Rj ?_;rcases h with h|h
   ·rcases zq.mp h with e|h
    ·cases e;exact absurd rfl hk
    ·exact .inl h
   ·exact .inr h
theorem ZCY:∀{l:List (Str×xj)},(x,c)∈l->∃d,l.lookup x=vF d
 |[],h=>by cases h
 | (y,d)::l,h=>by
  by_cases e:x=y
  ·subst e;exact⟨d,by simp⟩
  ·rcases zq.mp h with z|h
   ·cases z;exact absurd rfl e
   ·obtain⟨d',q⟩:=ZCY h;exact⟨d',by rw[jk,beq_eq_false_iff_ne.mpr e];exact q⟩
theorem ZC9(x:Str):(relabel scope env).names.lookup x=(scope.names.lookup x).map λk=>if(k==NameKind.free&&env.scope.kind == .function&&env.kindOf x==vF .cell)=vH then .cell else k:=by
 unfold relabel;generalize scope.names=l
 induction l with
 |nil=>rfl
 | cons y r ih=>
  obtain⟨n,k⟩:=y;by_cases e:x=n
  ·subst e;simp only[zk]
   cases hc:(k==NameKind.free&&env.scope.kind==ScopeKind.function&&env.kindOf x==vF NameKind.cell) <;>
    simp only[hc,if_true,jk,beq_self_eq_true,Option.map_some,jZ,if_false]
  ·have hb:(x==n)=vI:=beq_eq_false_iff_ne.mpr e;simp only[zk];split
   ·rw[jk,jk,hb];exact ih
   ·rw[jk,jk,hb];exact ih
def blk(X:Cx)(N:List Str)(scope:xB)(C:xj)(s₀:xC)(H₀:Hp)(ex:List xj):Cx where
 prog:=X.prog
 w:=X.w
 K:=X.K
 mg:=X.mg
 base:=X.base
 A:=X.A
 N:=N
 s₀:=s₀
 H₀:=H₀
 env:=compEnvC scope (Es X.env scope.names []) C X.env
 outer:=X.stack
 stack:=X.stack
 ex:=ex
 fn:=λ_=>vI
 calm:=X.calm
 pn:=[]
 xe:=λ_ _=>False
structure CompSc (X:Cx) (N:List Str) (scope:xB) (nt:Nat) (caps:List Nat):Prop where
 kind:scope.kind=.function
 names:∀y∈scope.names,y.2=.local->scope.names.lookup y.1=vF .local
 nocell:∀y∈scope.names,y.2≠ .cell
 free:∀y∈scope.names,y.2=.free->X.env.kindOf y.1=vF .cell∨X.env.kindOf y.1=vF .free
 nd:N.Nodup
 len:N.length=nt+caps.length
 cap:∀(k j:Nat),caps[k]?=vF j->∃x,X.N[j]?=vF x/\N[nt+k]?=vF x/\scope.names.lookup x=vF .free
section
variable{X:Cx}{vE:List (xj×Obj)}{σ:St}{H:Hp}{s:xC}{N:List Str}{scope:xB}{nt:Nat}{caps:List Nat}
theorem CompSc.cells(c:CompSc X N scope nt caps)(ok:X.Ok):∀y∈scope.names,y.2=.free->∃c,X.env.cells.lookup y.1=vF c:=λy hy hk=>ok.has y.1 (c.free y hy hk)
theorem CompSc.cl(c:CompSc X N scope nt caps)(ok:X.Ok)(h:(Es X.env scope.names []).lookup x=vF d):X.env.cells.lookup x=vF d:=
 Wj (c.cells ok) (λp hp=>by cases hp) (x,d) (PySem.mem_of_lookup h)
theorem ZSC(c:CompSc X N scope nt caps)(I:Inv X vE σ H s){fp:List xj}(hf:∀b∈fp,FpOk X vE H b){C:xj}(hC:s.heap.objs.size<=C)(hCf:C∉fp):(blk X N scope C s H fp).Ok where
 mod:=I.ok.mod
 kind:=c.kind
 glob:=I.ok.glob
 blt:=I.ok.blt
 above:=hC
 inj:=λx y d h1 h2=>I.ok.inj x y d (c.cl I.ok h1) (c.cl I.ok h2)
 has:=λx h=>by
  have h':(relabel scope X.env).names.lookup x=vF .cell∨(relabel scope X.env).names.lookup x=vF .free:=h;rw[ZC9]at h';have hfree:scope.names.lookup x=vF .free:=by
   cases e:scope.names.lookup x with
   |none=>rw[e]at h';rcases h' with h'|h'<;>cases h'
   |some k=>
    rw[e]at h';cases k with
    |free=>rfl
    |cell=>exact absurd rfl (c.nocell _ (PySem.mem_of_lookup e))
    |_=>rcases h' with h'|h'<;>(simp at h')
  obtain⟨d,hd⟩:=Rj (env:=X.env) (x:=x) (names:=scope.names) (cs:=[]) (.inl (PySem.mem_of_lookup hfree));exact ZCY hd
 cab:=λx d h=>by cases h
 hd:=I.ok.hd
 frames:=I.ok.frames
 stk:=.inl rfl
 exf:=λb hb=>⟨λz=>hCf (by rw[<-show b=C from z];exact hb),λx d h=>(hf b hb).2.2.2.2.1 x d (c.cl I.ok h)⟩
 bs:=I.bs
 bsz:=zC I.ok.bsz I.sz
 noex:=λb o e hb=>by
  rcases(hf b hb).2.2.2.1 with h|h
  ·exact I.ok.noex b o e h
  ·exact absurd (zj (zw (I.ok.bs b o e).1) h) (qK _)
 exfs:=λb hb hz=>by
  rcases zq.mp (I.Tr b hz)with z|z
  ·exact(hf b hb).2.1 z
  ·exact(hf b hb).2.2.1 z
 funs:=I.stack
 frf:=I.ZIw
end
def Ck(g:DG)(c:DB)(te:DE)(S:DSt):List D->DH->R (List D)
 |[],G=>.ok [] G
 | x::xs,G=>(g x S G).bind λS1 G1=>(c S1 G1).bind λk G2=>
   if k=vH then(te S1 G2).bind λd G3=>(Ck g c te S xs G3).bind λds G4=>.ok (d::ds) G4 else Ck g c te S xs G2
noncomputable def Fy(i:Nat)(g:DG)(c:DB)(te:DE)(S:DSt):Nat->Nat->DH->R (List D)
 |0,j,G=>match G[i]? with
  |some (.lst xs)=>if xs.length<=j then .ok [] G else .bad
  |_=>.bad
 | n + 1,j,G=>match G[i]? with
  |some (.lst xs)=>match xs[j]? with
   | some x=>(g x S G).bind λS1 G1=>(c S1 G1).bind λk G2=>
     if k=vH then(te S1 G2).bind λd G3=>(Fy i g c te S n (j+1) G3).bind λds G4=>.ok (d::ds) G4 else Fy i g c te S n (j+1) G2
   |none=>.ok [] G
  |_=>.bad
noncomputable def Dc(f:Nat->DH->Option (Option D))(g:DG)(c:DB)(te:DE)(S:DSt):Nat->Nat->DH->R (List D)
 |0,j,G=>match f j G with
  |some vG=>.ok [] G
  |_=>.bad
 | n + 1,j,G=>match f j G with
  |some (vF x)=>(g x S G).bind λS1 G1=>(c S1 G1).bind λk G2=>
     if k=vH then(te S1 G2).bind λd G3=>(Dc f g c te S n (j+1) G3).bind λds G4=>.ok (d::ds) G4 else Dc f g c te S n (j+1) G2
  |some vG=>.ok [] G
  |none=>.bad
def Ay(nt:Nat)(caps:List Nat)(S:DSt):DSt:=zV nt vG++caps.map λj=>(S[j]?).join
def Bx(it:DI)(nt:Nat)(caps:List Nat)(g:DG)(c:DB)(te:DE):DE:=λS G=>(it S G).bind λJ G1=>(match J with
 |.pure xs=>Ck g c te (Ay nt caps S) xs G1
 |.mt i=>match G1[i]? with
  |some (.lst xs)=>Fy i g c te (Ay nt caps S) xs.length 0 G1
  |_=>.bad
 |.fn n f=>Dc f g c te (Ay nt caps S) n 0 G1).bind Ah
def Bd:DB:=λ_ G=>.ok vH G
def GK(nt:Nat)(g:DG):Prop:=∀d S G S1 G1,g d S G=.ok S1 G1->∀i e,nt<=i->S[i]?=vF (vF e)->S1[i]?=vF (vF e)
def GKs(nt:Nat)(g:DGs):Prop:=∀d S G S1 G1,g d S G=.ok S1 G1->∀i e,nt<=i->S[i]?=vF (vF e)->S1[i]?=vF (vF e)
theorem ZPG(h:i<nt):GK nt (gV i):=λd S G S1 G1 e j x hj hx=>by cases e;rw[jV (by lia)];exact hx
theorem ZQU:GKs nt Ax:=λd S G S1 G1 e j x hj hx=>by
 cases d with
 |nil=>cases e;exact hx
 |cons _ _=>cases e
theorem ZSW(h1:GK nt t)(h2:GKs nt u):GKs nt (Ae t u):=λd S G S1 G1 e j x hj hx=>by
 cases d with
 |nil=>cases e
 |cons a r=>
  have e':(t a S G).bind (λS1 G1=>u r S1 G1)=.ok S1 G1:=e;cases ht:t a S G with
  |ok S2 G2=>rw[ht]at e';exact h2 _ _ _ _ _ e' j x hj (h1 _ _ _ _ _ ht j x hj hx)
  |err _ _=>rw[ht]at e';cases e'
  |bad=>rw[ht]at e';cases e'
theorem ZUE(h:GKs nt t):GK nt (Ao n t):=λd S G S1 G1 e j x hj hx=>by
 cases d with
 |tup ds=>
  unfold Ao at e;dsimp only at e;split at e
  ·exact h _ _ _ _ _ e j x hj hx
  ·cases e
 |_=>cases e
theorem ZUc(h:out E a (r.bind f) Q):
  Eu E a r (λσ H=>∃(b:Wd)(S:DSt)(G:DH),b.H=H/\Ext a b/\Sim b G/\RepS b S σ/\r=.ok S G/\out E b (f S G) Q):=by
 cases r with
 |ok d G=>exact λb v x s q=>⟨b,d,G,rfl,x,s,q,rfl,out.mono x h⟩
 |err e G=>exact h
 |bad=>exact h
theorem R.bind_assoc{β γ:Type}(r:R α)(f:α->DH->R β)(g:β->DH->R γ):(r.bind f).bind g=r.bind λa G=>(f a G).bind g:=by cases r<;>rfl
theorem ZFi(h:out E a (r.bind f) Q):
  outI E a r (λJ H=>∃(b:Wd)(d:ItD)(G:DH),b.H=H/\Ext a b/\Sim b G/\RepI b d J/\r=.ok d G/\out E b (f d G) Q):=by
 cases r with
 |ok d G=>exact λb v x s q=>⟨b,d,G,rfl,x,s,q,rfl,out.mono x h⟩
 |err e G=>exact h
 |bad=>exact h
section
variable{prog:xA}{w:xF}{A:xw}{R':Result->xC->Prop}{s:xC}
def CItem(prog:xA)(w:xF)(A:xw)(target elt:xk)(ifs:List xk)(acc:xE)(env:Env)(P:xC->Prop)(v:xE)(s:xC):Prop:=
 vq (vJ prog w) A (assign target env v) (λ_ s₂=>
  vq (vJ prog w) A (forIn ifs vH λc r=>if r=vH then do let ok<-isTrue c env (eval c env);pure (ForInStep.yield ok)else pure (ForInStep.yield r)) (λok s₃=>
   if ok=vH then vq (vJ prog w) A (eval elt env) (λx s₄=>vq (vJ prog w) A (call (.builtin "list.append") [acc,x]) (λ_ s₅=>P s₅) (λ_ _=>False) s₄) (λ_ _=>False) s₃
   else P s₃) (λ_ _=>False) s₂) (λ_ _=>False) s
def CTurn(prog:xA)(w:xF)(A:xw)(target elt:xk)(ifs:List xk)(it acc:xE)(env:Env)(R' P:xC->Prop)(s:xC):Prop:=
 vq (vJ prog w) A (pyNext it) (λr s₁=>match r with
  |none=>R' s₁
  |some v=>vq (vJ prog w) A (vQ target it v) (λ_ s₁=>CItem prog w A target elt ifs acc env P v s₁) (λ_ _=>False) s₁) (λ_ _=>False) s
theorem ZQ2(I:Nat->xC->Prop)
  (turn:∀n s,I n s->CTurn prog w A target elt ifs it acc env (R' (.ok .next)) (λs'=>∃m,m<n/\I m s') s)
  (n:Nat) (h:I n s):
  codeAny (vJ prog w) A (.compLoop (.ListComp elt [⟨target,iter,ifs,0⟩] scope pos) 0 it acc env) R' s:=by
 refine codeAny_loop rfl I (λn s hI=>?_) n h
 show vq _ A ((compTurn (.ListComp elt [⟨target,iter,ifs,0⟩] scope pos) 0 it acc env).onRaise (λx=>do noteFrame x env;theTreesLotGoes x)) _ _ s
 refine wpAny_noted ?_;rw[compTurn_list];refine v5 ?_ (λ_ _ q=>q) (λ_ _(f:False)=>f.elim);refine vj (wpAny_standAt (vj (v5 (turn n s hI) (λr s₁ h₁=>?_) λ_ _ h'=>h')));cases r with
 |none=>exact v8 h₁
 | some v=>
  refine vj (v5 h₁ (λ_ s₂' h₁=>?_) λ_ _ h'=>h');refine vj (v5 h₁ (λ_ s₂ h₂=>vj (v5 h₂ (λok s₃ h₃=>?_) λ_ _ h'=>h')) λ_ _ h'=>h');cases ok with
  |false=>exact v8 ⟨rfl,h₃⟩
  |true=>
   exact vj (vj (v5 h₃ (λx s₄ h₄=>vj (v5 h₄ (λ_ s₅ h₅=>v8 (v8 ⟨rfl,h₅⟩)) λ_ _ h'=>h')) λ_ _ h'=>h'))
end
def QTs(X:Cx)(E:XK)(ifs:List xk)(t:DB):Prop:=
 ∀(vE:List (xj×Obj))(s:xC)(σ:St)(H:Hp)(Q:Bool->Hp->Prop),Inv X vE σ H s->lB X.K E t σ H Q->
  vq (vJ X.prog X.w) X.A (forIn ifs vH λc r=>if r=vH then do let ok<-isTrue c X.env (eval c X.env);pure (ForInStep.yield ok)else pure (ForInStep.yield r)) (TP X vE σ Q) X.xe s
theorem ZUv:QTs X E [] Bd:=λvE s σ H Q I h=>by obtain⟨a,S,G,hk,rfl,sm,r,h⟩:=h;exact wpAny_tests_nil ⟨a.H,I,h a (Ext.refl a) sm⟩
theorem ZMK(hc:QT X E c t):QTs X E [c] t:=λvE s σ H Q I h=>wpAny_tests_one (hc vE s σ H Q I h)
section
variable{X:Cx}{E:XK}{N:List Str}{scope:xB}{nt:Nat}{caps:List Nat}{tg elt iter:xk}{ifs:List xk}{pos:Pos}{it:DI}{g:DG}{c:DB}{te:DE}
theorem ZQ0(r:RepS a S σ):RepS a (Ay nt caps S) (zV nt vG++caps.map λj=>(σ[j]?).join):=by
 refine⟨by simp[Ay],λi d h=>?_⟩;unfold Ay at h;by_cases hi:i<nt
 ·rw[qV (by simpa using hi),jz]at h
  split at h<;>cases h
 ·rw [zM (by simpa using hi),zx]at h;rw[zM (by simpa using hi),zx];rw[jS]at h⊢;cases e:caps[i-nt]? with
  |none=>rw[e]at h;cases h
  | some j=>
   rw[e]at h;have h1:(S[j]?).join=vF d:=by simpa using h
   have h2:S[j]?=vF (vF d):=by
    cases q:S[j]? with
    |none=>rw[q]at h1;cases h1
    |some o=>
     rw[q]at h1;have h1':o=vF d:=h1;rw[h1']
   obtain⟨v,ev,rv⟩:=r.get j d h2;exact⟨v,by simp[ev],rv⟩
theorem ZTD(h:(Ay nt caps S)[i]?=vF (vF d)):nt<=i:=by
 unfold Ay at h;by_cases hi:i<nt
 ·rw[qV (by simpa using hi),jz]at h
  split at h<;>cases h
 ·lia
theorem ZCr(hc:X.calm=vH)(cs:CompSc X N scope nt caps)
  (hg:∀C s₀ H₀ ex,QG (blk X N scope C s₀ H₀ ex) E0 tg g) (gk:GK nt g) (hts:∀C s₀ H₀ ex,QTs (blk X N scope C s₀ H₀ ex) E0 ifs c) (he:∀C s₀ H₀ ex,QE (blk X N scope C s₀ H₀ ex) E0 elt te)
  {vE:List (xj×Obj)} {σ:St} {s:xC} {a:Wd} {S:DSt} {G:DH} {J:It} {n0:Nat} {f:Nat->DH->Option (Option D)} {i0:xj} {fp:List xj} {tn:Nat->Heap->Prop} (I:Inv X vE σ a.H s) (hk:a.K=X.K) (sm:Sim a G) (rS:RepS a S σ)
  (T:Turn X.prog X.w X.K tg J fp i0 tn) (t0:tn 0 s.heap) (hf:∀b∈fp,FpOk X vE a.H b) (rJ:RepI a (.fn n0 f) J) {Q:VK}
  (h:out E0 a ((Dc f g c te (Ay nt caps S) n0 0 G).bind Ah) Q)
  {RR:xE->xj->Result->xC->Prop} {E':xE->xC->Prop}
  (hRR:∀(D C:xj)(s':xC)(b:Wd)(vs:List V),Inv X vE σ (upd b.H D (.lst vs)) s'->b.H D=vG->s.heap.objs.size<=C->D≠C->(∃m,s'.heap.Ns C m)->b.H C=vG->Q (.ref D) (upd b.H D (.lst vs))->RR (.ref D) C (.ok .next) s'):
  vq (vJ X.prog X.w) X.A (newList []) (λacc s₃=>vq (vJ X.prog X.w) X.A (newFunctionEnv scope X.env.globals (Es X.env scope.names []) [] X.env.qual vG .none (vF X.env)) (λcenv s₄=>
   codeAny (vJ X.prog X.w) X.A (.compStart (.ListComp elt [⟨tg,iter,ifs,0⟩] scope pos) 0 (.ref i0) acc {cenv with scope:=relabel scope X.env}) (RR acc cenv.locals) s₄) E' s₃) E' s:=by
 refine v6 (wpAny_newFunctionEnv cs.nocell (by intro y hy;simp at hy) (λh₁ hns₁ hsb₁=>?_) cs.kind);dsimp only at hns₁ hsb₁⊢;generalize hH2:s.heap.push {cls:=.type "list",dict:=vG,data:=.seq ([]:List xE).toArray}=H2 at hns₁ hsb₁⊢;have hC:H2.objs.size=s.heap.objs.size+1:=by rw[<-hH2,qF]
 have hDC:s.heap.objs.size≠H2.objs.size:=by rw[hC];exact zG (qY _)
 have hCle:s.heap.objs.size<=H2.objs.size:=by rw[hC];exact jA _
 have fpOld:∀b∈fp,b<s.heap.objs.size:=λb hb=>by obtain⟨o,e,_⟩:=T.obj 0 _ t0 b hb;exact zw e
 have hDf:s.heap.objs.size∉fp:=λhm=>qK _ (fpOld _ hm)
 have hCf:H2.objs.size∉fp:=λhm=>by have:=fpOld _ hm;rw[hC]at this;exact qK _ (Nat.lt_of_succ_lt this)
 have old:∀b o,s.heap.get? b=vF o->h₁.get? b=vF o:=λb o e=>
  hsb₁.extBut b o (by rw[hC];exact zG (qR (zw e))) (zJ _ (hH2▸zJ _ e))
 have hacc:h₁.PlainList s.heap.objs.size ([]:List xE).toArray:=⟨_,hsb₁.extBut _ _ hDC (zJ _ (hH2▸zA _ rfl))⟩;generalize hCe:H2.objs.size=C at*;generalize hDe:s.heap.objs.size=Dd at*;let B:=blk X N scope C s a.H fp;have okB:B.Ok:=ZSC cs I hf (by rw[hDe];exact hCle) hCf;let σ0:St:=zV nt vG++caps.map λj=>(σ[j]?).join
 have start:∀tk,Inv B [] σ0 a.H {s with heap:=h₁,toks:=tk}:=λtk=>by
  refine⟨okB,rfl,I.bare,Un.kept old,⟨_,hns₁,λi x v e1 e2 e3=>?_⟩,λx d' e=>?_,I.hok.fresh (by rw[hDe];exact hCle),λx d' e=>?_,λp hp=>?_,I.hok.kept old,?_⟩
  ·have hi:nt<=i:=by
    by_cases hi:i<nt
    ·have e2':σ0[i]?=vF (vF v):=e2;rw[qV (by simpa using hi),jz]at e2'
     split at e2'<;>cases e2'
    ·lia
   have e2':σ0[i]?=vF (vF v):=e2;rw[zM (by simpa using hi),zx,jS]at e2';cases ej:caps[i-nt]? with
   |none=>rw[ej]at e2';cases e2'
   | some j=>
    rw[ej]at e2';have h1:(σ[j]?).join=vF v:=by simpa using e2'
    have h2:σ[j]?=vF (vF v):=by
     cases q:σ[j]? with
     |none=>rw[q]at h1;cases h1
     |some o=>
      rw[q]at h1;have h1':o=vF v:=h1;rw[h1']
    obtain⟨y,ey,en,ek⟩:=cs.cap (i-nt) j ej;have exy:x=y:=by
     have:nt+(i-nt)=i:=by lia
     rw[this]at en;have e1':N[i]?=vF x:=e1;rw[e1']at en;exact Option.some.inj en
    subst exy;have kx:=cs.free (x,.free) (PySem.mem_of_lookup ek) rfl;have vis:Vis X.env.scope x:=by
     rcases kx with kx|kx
     ·exact .inr (.inl kx)
     ·exact .inr (.inr kx)
    obtain⟨m,hn,hl⟩:=I.loc;obtain⟨u,ru,lk⟩:=hl j x v ey h2 vis;refine⟨u,ru,?_⟩;rcases lk with⟨k1,_⟩|⟨k1,c1,ec,hcell⟩
    ·rcases kx with kx|kx
     ·rw[k1]at kx;cases kx
     ·rw[k1]at kx;cases kx
    ·refine .inr ⟨?_,c1,?_,?_⟩
     ·show(relabel scope X.env).names.lookup x=vF .cell∨(relabel scope X.env).names.lookup x=vF .free;rw[ZC9,ek];simp only[Option.map_some];split
      ·exact .inl rfl
      ·exact .inr rfl
     ·obtain⟨d1,hd1⟩:=Rj (env:=X.env) (x:=x) (names:=scope.names) (cs:=[]) (.inl (PySem.mem_of_lookup ek));obtain⟨d2,hd2⟩:=ZCY hd1;have:=cs.cl I.ok hd2;rw[ec]at this;cases this;exact hd2
     ·obtain⟨o,e,dd⟩:=hcell;exact⟨o,old _ _ e,dd⟩
  ·obtain⟨v,o,e',dd⟩:=I.cell x d' (cs.cl I.ok e);exact⟨v,o,old _ _ e',dd⟩
  ·exact I.Hq x d' (cs.cl I.ok e)
  ·exact absurd hp (by simp[B,blk])
  ·show σ0.length=N.length;rw[cs.len];simp[σ0]
 have rS0:RepS a (Ay nt caps S) σ0:=ZQ0 rS;have aD:a.H Dd=vG:=I.hok.fresh (by rw[hDe];exact zK _);have young:∀b∈fp,b≠C:=λb hb z=>hCf (z▸hb)
 have fpB:∀{H':Hp}{ps:List (xj×Obj)},(∀b∈fp,H' b=vG)->(∀p∈ps,p.1∉fp)->∀b∈fp,FpOk B ps H' b:=λ{H' ps}hn hps b hb=>
  ⟨hn b hb,young b hb,okB.exfs b hb,.inl hb,λx d' e=>(hf b hb).2.2.2.2.1 x d' (cs.cl I.ok e),λp hp z=>by
   have hp':p∈ps:=by simpa[B,blk]using hp
   exact hps p hp' (z▸hb)⟩
 have nstk:Dd∉frs X.stack:=λz=>by
  rcases zq.mp (I.Tr Dd z)with z|z
  ·have:=I.lt;rw[hDe,<-z]at this;exact qK _ this
  ·exact I.nofs (by rw[hDe];exact zK _) z
 have pinD:∀{σ':St}{H':Hp}{s':xC}{its:List xE}{nD:Nat},Inv B [] σ' H' s'->s'.heap.get? Dd=vF {cls:=.type "list",data:=.seq its.toArray nD}->H' Dd=vG->Inv B [(Dd,{cls:=.type "list",data:=.seq its.toArray nD})] σ' H' s':=λ{σ' H' s' its nD}J e n=>
  J.Jl λp hp=>by
   have ep:p=(Dd,{cls:=.type "list",data:=.seq its.toArray nD}):=by simpa using hp
   subst ep;exact⟨e,n,hDC,nstk,λv' z=>by cases z⟩
 have fin:∀(s':xC)(b:Wd)(σ':St)(its:List xE)(ds:List D)(G':DH),Inv B [] σ' b.H s'->Ext a b->Sim b G'->s'.heap.PlainList Dd its.toArray->b.H Dd=vG->(∃vs,Vals vs its/\Reps b ds vs)->out E0 b (Ah ds G') Q->RR (.ref Dd) C (.ok .next) s':=by
  intro s' b σ' its ds G' IB x sb pl hD ⟨vs,hv,rv⟩ hq;have hz:ds.length<=1000000:=by
   unfold Ah at hq;split at hq
   ·assumption
   ·exact hq.elim
  have Ix:Inv X vE σ b.H s':=I.call' IB.os IB.base IB.hok IB.bare λb hb=>⟨(hf b hb).2.2.2.1,(hf b hb).2.1,(hf b hb).2.2.2.2.1,(hf b hb).2.2.2.2.2⟩
  obtain⟨n,eD⟩:=pl;have ylt:∀{q:xj}{o:Obj},s.heap.get? q=vF o->q≠Dd:=λe z=>by rw[z,<-hDe]at e;exact absurd (zw e) (qK _)
  have Ia:Inv X vE σ (upd b.H Dd (.lst vs)) s':=by
   refine ZBM Ix hD (by rw[<-hDe];exact I.sz) ?_ (λy c' ec=>?_) (λp hp=>?_) ⟨?_,its,n,hv,eD⟩
   ·rw[<-hDe];exact jy I.lt
   ·obtain⟨v,o,e,_⟩:=I.cell y c' ec;exact ylt e
   ·exact ylt (I.pin p hp).1
   ·rw[<-rv.length];exact zC hz size6
  refine hRR Dd C s' b vs Ia hD hCle hDC (let⟨m,hn,_⟩:=IB.loc;⟨m,hn⟩) IB.free ?_;unfold Ah at hq;rw[if_pos hz]at hq;exact Jq sb rv hq Dd hD
 have turnX:∀(P:xC->Prop)(rest:DH->R (List D))(s1:xC)(b:Wd)(G1:DH)(σ1:St)(its:List xE)(acc:List D)(u:xE)(v:V)(x:D)(i:Nat),Inv B [] σ1 b.H s1->Ext a b->Sim b G1->RepS b (Ay nt caps S) σ1->tn i s1.heap->(∀q∈fp,b.H q=vG)->
   s1.heap.PlainList Dd its.toArray->b.H Dd=vG->(∃vs,Vals vs its/\Reps b acc vs)->RelV v u->Rep b x v->
   out E0 b (((g x (Ay nt caps S) G1).bind λS1 G1=>(c S1 G1).bind λk G2=>if k=vH then(te S1 G2).bind λd G3=>(rest G3).bind λds G4=>.ok (d::ds) G4 else rest G2).bind λds G=>Ah (acc++ds) G) Q->
   (∀(s2:xC)(b2:Wd)(G2:DH)(σ2:St)(its2:List xE)(acc2:List D),Inv B [] σ2 b2.H s2->Ext a b2->Sim b2 G2->RepS b2 (Ay nt caps S) σ2->tn i s2.heap->(∀q∈fp,b2.H q=vG)->
    s2.heap.PlainList Dd its2.toArray->b2.H Dd=vG->(∃vs,Vals vs its2/\Reps b2 acc2 vs)->out E0 b2 ((rest G2).bind λds G=>Ah (acc2++ds) G) Q->P s2)->
   CItem X.prog X.w X.A tg elt ifs (.ref Dd) B.env P u s1:=by
  intro P rest s1 b G1 σ1 its acc u v x i I1 x1 sb rSb t1 hfp pl hD hacc' ru rx hq next
  rw[R.bind_assoc]at hq;obtain⟨nD,eD⟩:=id pl;let pinD:List (xj×Obj):=[(Dd,{cls:=.type "list",data:=.seq its.toArray nD})];have pinOk:∀{σ':St}{H':Hp}{s':xC},Inv B (pinD++Mt fp s1.heap) σ' H' s'->s'.heap.PlainList Dd its.toArray/\H' Dd=vG/\tn i s'.heap/\∀q∈fp,H' q=vG:=λ{σ' H' s'}J=>by
   have p1:=J.pin (Dd,{cls:=.type "list",data:=.seq its.toArray nD}) (qJ _ (xV _ (by simp[pinD])));refine⟨⟨nD,p1.1⟩,p1.2.1,T.keep _ _ _ t1 λq hq' o e=>(J.pin (q,o) (qJ _ (qJ _ (Ub hq' e)))).1,λq hq'=>?_⟩;obtain⟨o,e,_⟩:=T.obj _ _ t1 q hq';exact(J.pin (q,o) (qJ _ (qJ _ (Ub hq' e)))).2.1
  have I2:Inv B (pinD++Mt fp s1.heap) σ1 b.H s1:=I1.Jl λp hp=>by
   rcases jH.mp hp with hp|hp
   ·have e:p=(Dd,{cls:=.type "list",data:=.seq its.toArray nD}):=by simpa[pinD]using hp
    subst e;refine⟨eD,hD,hDC,λz=>?_,λv' z=>by cases z⟩;exact nstk z
   ·obtain⟨hb,e⟩:=ZEK hp;obtain⟨f0,f1,f2,_⟩:=fpB (ps:=[]) hfp (λp hp=>by cases hp) p.1 hb;obtain⟨o,e',dd⟩:=T.obj _ _ t1 p.1 hb;rw[e]at e';cases e';exact⟨e,f0,f1,f2,dd⟩
  refine thn (hg C s a.H fp _ s1 σ1 b.H v u _ I2 ru ⟨b,Ay nt caps S,G1,x,x1.k.trans hk,rfl,sb,rSb,rx,(ZUc hq).imp λ_ _ z=>z⟩) ?_;rintro _ s2 ⟨σ2,H2',J2,b2,S2,G2,rfl,y2,sb2,rS2,eg,hq2⟩;rw[R.bind_assoc]at hq2;have rS2':RepS b2 (Ay nt caps S) σ2:=⟨by have h1:=J2.len;have h2:σ1.length=N.length:=I1.len;rw[rSb.len,h2];exact h1.symm,λj e' hj=>rS2.get j e' (gk _ _ _ _ _ eg j e' (ZTD hj) hj)⟩
  refine thn (hts C s a.H fp _ s2 σ2 b2.H _ J2 ⟨b2,S2,G2,y2.k.trans (x1.k.trans hk),rfl,sb2,rS2,(ZHD hq2).imp λ_ _ z=>z⟩) ?_;rintro k s3 ⟨H3,J3,b3,G3,rfl,y3,sb3,_,hq3⟩;cases k with
  |false=>
   obtain⟨p1,p2,p3,p4⟩:=pinOk J3;have Jn:Inv B [] σ2 b3.H s3:=J3.Jl λp hp=>by cases hp
   obtain⟨vs,hv,rv⟩:=hacc'
   exact next s3 b3 G3 σ2 its acc Jn (x1.trans (y2.trans y3)) sb3 (rS2'.mono y3) p3 p4 p1 p2 ⟨vs,hv,(rv.mono y2).mono y3⟩ hq3
  | true=>
   have hq3':out E0 b3 (((te S2 G3).bind λd G3=>(rest G3).bind λds G4=>.ok (d::ds) G4).bind λds G=>Ah (acc++ds) G) Q:=hq3;rw[R.bind_assoc]at hq3';refine thn (he C s a.H fp _ s3 σ2 b3.H _ J3 ⟨b3,S2,G3,y3.k.trans (y2.k.trans (x1.k.trans hk)),rfl,sb3,rS2.mono y3,(Ej hq3').imp λ_ _ z=>z⟩) ?_;rintro w s4 ⟨vw,H4,J4,rw',b4,d4,G4,rfl,y4,sb4,q4,_,hq4⟩;obtain⟨p1,p2,p3,p4⟩:=pinOk J4;rw[R.bind_assoc]at hq4
   have hq4':out E0 b4 ((rest G4).bind λds G=>Ah ((acc++[d4])++ds) G) Q:=by
    have e:(λ(ds:List D)(G:DH)=>(R.ok (d4::ds) G).bind λds G=>Ah (acc++ds) G)=λds G=>Ah ((acc++[d4])++ds) G:=by funext ds G;simp
    rw[<-e];exact hq4
   obtain⟨vs,hv,rv⟩:=hacc';have hsz:its.toArray.size<=sizeLine:=by
    have:acc.length<=1000000:=by
     cases hr:rest G4 with
     |ok ds G5=>
      rw[hr]at hq4';have hq5:out E0 b4 (Ah ((acc++[d4])++ds) G5) Q:=hq4';unfold Ah at hq5;split at hq5
      ·rename_i hl;simp at hl;lia
      ·exact hq5.elim
     |err e' G5=>rw[hr]at hq4';exact(hq4'.1 rfl).elim
     |bad=>rw[hr]at hq4';exact hq4'.elim
    rw[zY,<-hv.length,<-rv.length];exact zC this size6
   refine wpAny_list_append_plain p1 (λh' hpl hsb=>?_) hsz;have Jn:Inv B [] σ2 b4.H s4:=J4.Jl λp hp=>by cases hp
   have J5:Inv B [] σ2 b4.H {s4 with heap:=h'}:=by refine Jn.turned (it:=Dd) (t':=s4.toks) (λq o hq' e=>(hsb.2 q hq').trans e) p2 hDC (.inr (by show s.heap.objs.size<=Dd;rw[hDe];exact zK _)) (λy c' ec=>?_) (λp hp=>absurd hp (by simp[B,blk]));obtain⟨v',o,e,_⟩:=I.cell y c' (cs.cl I.ok ec);intro z;rw[z,<-hDe]at e;exact absurd (zw e) (qK _)
   refine next _ b4 G4 σ2 (its++[w]) (acc++[d4]) J5 (x1.trans (y2.trans (y3.trans y4))) sb4 ((rS2'.mono y3).mono y4) (T.keep _ _ _ p3 λq hq' o e=>(hsb.2 q (λz=>hDf (z▸hq'))).trans e) p4 (by simpa using hpl) p2 ⟨vs++[vw],hv.append (.cons rw' .nil),(((rv.mono y2).mono y3).mono y4).append (Reps.cons q4 Reps.nil)⟩ hq4'
 have loop:∀s₃:xC,s₃={s with heap:=h₁,toks:=s.toks+([]:List (Str×xE)).length}->
   codeAny (vJ X.prog X.w) X.A (.compLoop (.ListComp elt [⟨tg,iter,ifs,0⟩] scope pos) 0 (.ref i0) (.ref Dd) B.env) (RR (.ref Dd) C) s₃:=by
  rintro s₃ rfl;have t1:tn 0 h₁:=T.keep _ _ _ t0 λq _ o e=>old q o e
  have fp0:∀q∈fp,a.H q=vG:=λq hq=>(hf q hq).1
  have walk:∀b:Wd,Ext a b->∀G,Sim b G->∀i,(∀d,f i G=vF (vF d)->J.go i b.H/\∀x H',J.yld i b.H x H'->∃c:Wd,c.H=H'/\Ext b c/\Sim c G/\Rep c d x)/\(f i G=vF vG->J.stop i b.H):=rJ;obtain⟨Iv,hIv⟩:∃Iv:Nat->xC->Prop,∀m s',Iv m s'↔∃(i:Nat)(b:Wd)(G':DH)(σ':St)(its:List xE)(acc:List D),Inv B [] σ' b.H s'/\Ext a b/\Sim b G'/\RepS b (Ay nt caps S) σ'/\tn i s'.heap/\(∀q∈fp,b.H q=vG)/\s'.heap.PlainList Dd its.toArray/\b.H Dd=vG/\(∃vs,Vals vs its/\Reps b acc vs)/\out E0 b ((Dc f g c te (Ay nt caps S) m i G').bind λds G=>Ah (acc++ds) G) Q:=⟨_,λ_ _=>Iff.rfl⟩
  refine ZQ2 Iv (λm s' h'=>?_) n0 ((hIv _ _).2 ⟨0,a,G,σ0,[],[],start _,Ext.refl a,sm,rS0,t1,fp0,hacc,aD,⟨[],.nil,rfl⟩,by simpa using h⟩);obtain⟨i,b,G',σ',its,acc,IB,x,sb,rSb,ti,hfp,pl,hD,hac,hq⟩:=(hIv _ _).1 h';clear h';obtain⟨nD,eD⟩:=pl;have I0:=pinD IB eD hD;have f0:=fpB (ps:=[(Dd,{cls:=.type "list",data:=.seq its.toArray nD})]) hfp (λp hp=>by
   have ep:p=(Dd,{cls:=.type "list",data:=.seq its.toArray nD}):=by simpa using hp
   subst ep;exact hDf)
  have stop:J.stop i b.H->out E0 b (Ah acc G') Q->∀P,CTurn X.prog X.w X.A tg elt ifs (.ref i0) (.ref Dd) B.env (RR (.ref Dd) C (.ok .next)) P s':=by intro st hq' P;refine thn (T.done B rfl rfl rfl hc i _ s' σ' b.H _ I0 f0 ti st) ?_;rintro r s1 ⟨rfl,I2⟩;have pD:=(I2.pin (Dd,{cls:=.type "list",data:=.seq its.toArray nD}) (qJ _ (by simp))).1;exact fin s1 b σ' its acc G' (I2.Jl λp hp=>by cases hp) x sb ⟨nD,pD⟩ hD hac hq'
  cases m with
  |zero=>
   unfold Dc at hq;split at hq
   ·rename_i hf;exact stop ((walk b x G' sb i).2 hf) (by have hq':out E0 b (Ah (acc++[]) G') Q:=hq;rw[j1]at hq';exact hq') _
   ·exact hq.elim
  | succ m=>
   unfold Dc at hq;split at hq
   ·rename_i d1 hf;obtain⟨go,yl⟩:=(walk b x G' sb i).1 d1 hf;refine thn (T.item B rfl rfl rfl hc i _ s' σ' b.H _ I0 f0 ti go) ?_;rintro r s1 ⟨u,rfl,hgo⟩;refine thn hgo ?_;rintro _ s2 ⟨v,H',I2,ru,y,t2,hfp2⟩;obtain⟨cc,rfl,xx,ss,rd⟩:=yl v H' y;have pD:=I2.pin (Dd,{cls:=.type "list",data:=.seq its.toArray nD}) (qJ _ (by simp));obtain⟨vs1,hv1,rv1⟩:=hac;refine turnX _ (λG3=>Dc f g c te (Ay nt caps S) m (i+1) G3) s2 cc G' σ' its acc u _ d1 (i+1) (I2.Jl λp hp=>by cases hp) (x.trans xx) ss (rSb.mono xx) t2 hfp2 ⟨nD,pD.1⟩ pD.2.1 ⟨vs1,hv1,rv1.mono xx⟩ ru rd (out.mono xx hq) ?_
    intro s3 b3 G3 σ3 its3 acc3 a1 a2 a3 a4 a5 a6 a7 a8 a9 a10;exact⟨m,qY _,(hIv _ _).2 ⟨i+1,b3,G3,σ3,its3,acc3,a1,a2,a3,a4,a5,a6,a7,a8,a9,a10⟩⟩
   ·rename_i hf;exact stop ((walk b x G' sb i).2 hf) (by have hq':out E0 b (Ah (acc++[]) G') Q:=hq;rw[j1]at hq';exact hq') _
   ·exact hq.elim
 exact codeAny_compStart_list (loop _ rfl) (T.self _ 0 _ _ _ (T.keep _ _ _ t0 λq _ o e=>old q o e) (loop _ rfl))
theorem Xd{g:DG}{c:DB}{te:DE}{S:DSt}{xs:List D}:∀(n j:Nat)(G:DH),j+n=xs.length->Ck g c te S (xs.drop j) G=Dc (λj _=>vF xs[j]?) g c te S n j G
 |0,j,G,h=>by
  rw[qX (by lia)]
  show _=(match vF xs[j]? with |some vG=>R.ok [] G|_=>.bad)
  rw[z0 (by lia)]
  rfl
 |n+1,j,G,h=>by
  have hj:j<xs.length:=by lia
  rw[qZ hj]
  show(g xs[j] S G).bind _=(match vF xs[j]? with |some (vF x)=>_|some vG=>R.ok [] G|none=>.bad)
  rw[zX hj];dsimp only
  congr 1
  funext S1 G1
  congr 1
  funext k G2;rw[Xd n (j+1) G2 (by lia)]
  congr 1
  congr 1
  funext d G3;rw[Xd n (j+1) G3 (by lia)]
theorem ZEA{g:DG}{c:DB}{te:DE}:∀(n j:Nat)(G:DH),Fy i g c te S n j G=Dc (mtF i) g c te S n j G
 | 0,j,G=>by
  unfold Fy Dc mtF;cases G[i]? with
  |none=>rfl
  | some o=>
   cases o with
   |lst xs=>
    dsimp only;by_cases hj:j<xs.length
    ·rw[if_neg (by lia),zX hj]
    ·rw[if_pos (by lia),z0 (by lia)]
   |_=>rfl
 | n+1,j,G=>by
  have ih:(Fy i g c te S n (j+1))=Dc (mtF i) g c te S n (j+1):=funext λG=>ZEA n (j+1) G
  unfold Fy Dc;rw[ih];unfold mtF;cases G[i]? with
  |none=>rfl
  | some o=>
   cases o with
   |lst xs=>
    dsimp only
    cases xs[j]?<;>rfl
   |_=>rfl
theorem ZEB(hc:X.calm=vH)(cs:CompSc X N scope nt caps)
  (hg:∀C s₀ H₀ ex,QG (blk X N scope C s₀ H₀ ex) E0 tg g) (gk:GK nt g) (hts:∀C s₀ H₀ ex,QTs (blk X N scope C s₀ H₀ ex) E0 ifs c) (he:∀C s₀ H₀ ex,QE (blk X N scope C s₀ H₀ ex) E0 elt te)
  {vE:List (xj×Obj)} {σ:St} {s:xC} {a:Wd} {S:DSt} {G:DH} {J:It} {d:ItD} {i0:xj} {fp:List xj} {tn:Nat->Heap->Prop} (I:Inv X vE σ a.H s) (hk:a.K=X.K) (sm:Sim a G) (rS:RepS a S σ)
  (T:Turn X.prog X.w X.K tg J fp i0 tn) (t0:tn 0 s.heap) (hf:∀b∈fp,FpOk X vE a.H b) (rJ:RepI a d J) {Q:VK}
  (h:out E0 a ((match d with
   |.pure xs=>Ck g c te (Ay nt caps S) xs G
   |.mt i=>match G[i]? with
    |some (.lst xs)=>Fy i g c te (Ay nt caps S) xs.length 0 G
    |_=>.bad
   |.fn n f=>Dc f g c te (Ay nt caps S) n 0 G).bind Ah) Q)
  {RR:xE->xj->Result->xC->Prop} {E':xE->xC->Prop}
  (hRR:∀(D C:xj)(s':xC)(b:Wd)(vs:List V),Inv X vE σ (upd b.H D (.lst vs)) s'->b.H D=vG->s.heap.objs.size<=C->D≠C->(∃m,s'.heap.Ns C m)->b.H C=vG->Q (.ref D) (upd b.H D (.lst vs))->RR (.ref D) C (.ok .next) s'):
  vq (vJ X.prog X.w) X.A (newList []) (λacc s₃=>vq (vJ X.prog X.w) X.A (newFunctionEnv scope X.env.globals (Es X.env scope.names []) [] X.env.qual vG .none (vF X.env)) (λcenv s₄=>
   codeAny (vJ X.prog X.w) X.A (.compStart (.ListComp elt [⟨tg,iter,ifs,0⟩] scope pos) 0 (.ref i0) acc {cenv with scope:=relabel scope X.env}) (RR acc cenv.locals) s₄) E' s₃) E' s:=by
 cases d with
 |pure xs=>
  have h':out E0 a ((Ck g c te (Ay nt caps S) (xs.drop 0) G).bind Ah) Q:=h;rw[Xd xs.length 0 G (by lia)]at h';exact ZCr hc cs hg gk hts he I hk sm rS T t0 hf (ZEi rJ) h' hRR
 |mt k=>
  dsimp only at h;split at h
  ·rename_i xs hx;rw[ZEA]at h;exact ZCr hc cs hg gk hts he I hk sm rS T t0 hf (ZEw rJ) h hRR
  ·exact h.elim
 |fn n0 f=>exact ZCr hc cs hg gk hts he I hk sm rS T t0 hf rJ h hRR
end
section
variable{X:Cx}{N:List Str}{scope:xB}{nt:Nat}{caps:List Nat}{tg elt iter:xk}{ifs:List xk}{pos:Pos}{it:DI}{g:DG}{c:DB}{te:DE}
theorem letGo{vE:List (xj×Obj)}{σ:St}{H:Hp}{s2 s':xC}{h':Heap}{C:xj}{t':Nat}{σ2:St}{H2:Hp}(I2:Inv X vE σ2 H2 s2)(Ia:Inv X vE σ H s')(hC:s2.heap.objs.size<=C)(hn:H C=vG)(hsb:qC C s'.heap h'):Inv X vE σ H {s' with heap:=h',toks:=t'}:=by
 have young:∀{b:xj}{o:Obj},s2.heap.get? b=vF o->b≠C:=λe z=>by rw[z]at e;exact absurd (zj (zw e) hC) (qK _)
 refine Ia.turned (it:=C) (λb o hb e=>(hsb.2 b hb).trans e) hn (jy (zj I2.lt hC)) (.inr (zC I2.sz hC)) (λx c' e=>?_) λp hp=>?_
 ·obtain⟨v,o,e',_⟩:=I2.cell x c' e;exact young e'
 ·exact young (I2.pin p hp).1
theorem ZMe(hc:X.calm=vH)(cs:CompSc X N scope nt caps)(hi:QI X E0 tg iter it)
  (hg:∀C s₀ H₀ ex,QG (blk X N scope C s₀ H₀ ex) E0 tg g) (gk:GK nt g) (hts:∀C s₀ H₀ ex,QTs (blk X N scope C s₀ H₀ ex) E0 ifs c) (he:∀C s₀ H₀ ex,QE (blk X N scope C s₀ H₀ ex) E0 elt te)
  (hs:∀x,foldedSetIterable iter X.env x=pure x:=by intro _;rfl):QE X E0 (.ListComp elt [⟨tg,iter,ifs,0⟩] scope pos) (Bx it nt caps g c te):=by
 intro vE s σ H Q I h;obtain⟨a,S,G,hk,rfl,sm,r,h⟩:=h;rw[eval_ListComp];refine wpAny_comprehension_free (use:=vG) rfl hs (ZJq (cs.cells I.ok)) cs.kind cs.names (thn (hi vE s σ a.H _ I ⟨a,S,G,hk,rfl,sm,r,(ZFi h).imp λ_ _ z=>z⟩) λxv s1 h1=>thn h1 λitv s2 h2=>?_);obtain⟨i0,fp,tn,J,H2,rfl,I2,T,t0,f2,b,d,G1,rfl,x,sb,rJ,_,h1⟩:=h2;refine ZEB hc cs hg gk hts he I2 (x.k.trans hk) sb (r.mono x) T t0 f2 rJ h1 (RR:=λacc C=>compPost (vJ X.prog X.w) X.A X.xe vG (EP X vE σ Q) acc C) ?_
 intro D C s' b vs Ia hD hCle hDC ⟨m,hn⟩ hCn hq;refine⟨m,hn,λh' hsb=>⟨.ref D,_,letGo I2 Ia hCle ?_ hsb,rfl,hq⟩⟩;rw[Al (Ne.symm hDC)];exact hCn
theorem ZRo(i:Nat){y:Str}{py spos:Pos}(hc:X.calm=vH)(hN:X.N.Nodup)(cs:CompSc X N scope nt caps)(hi:QI X E0 tg iter it)
  (hg:∀C s₀ H₀ ex,QG (blk X N scope C s₀ H₀ ex) E0 tg g) (gk:GK nt g) (hts:∀C s₀ H₀ ex,QTs (blk X N scope C s₀ H₀ ex) E0 ifs c) (he:∀C s₀ H₀ ex,QE (blk X N scope C s₀ H₀ ex) E0 elt te)
  (hy:X.N[i]?=vF y:=by rfl) (hx:Loc X.env.scope y:=by first|exact Or.inl rfl|exact Or.inr rfl) (hf:X.fn y=vH∨X.env.scope.names.lookup y=vF .local:=by first|exact .inl rfl|exact .inr rfl|assumption)
  (hsw:swapsWith (.ListComp elt [⟨tg,iter,ifs,0⟩] scope pos) (vF (.Name y py)) spos.line X.env=pure vH:=by rfl)
  (hs:∀x,foldedSetIterable iter X.env x=pure x:=by intro _;rfl):QS X E0 (.Assign [.Name y py] (.ListComp elt [⟨tg,iter,ifs,0⟩] scope pos) spos) (sAs (Bx it nt caps g c te) (gV i)):=by
 intro vE s σ H W I h;obtain⟨a,S,G,hk,rfl,sm,r,h⟩:=h;have h0:=Gx h;rw[exec_Assign_Name_used _ _ _ _ hsw];refine vj (wpAny_standAt (vj ?_))
 show vq _ X.A (do let _<-comprehension (.ListComp elt [⟨tg,iter,ifs,0⟩] scope pos) scope X.env _ (newList []) vI (eval iter X.env) (vF (assign (.Name y py) X.env))) _ _ s
 refine vj (v5 (wpAny_comprehension_free (use:=vF (assign (.Name y py) X.env)) (Q:=λ_ s'=>SP X vE W .next s') rfl hs (ZJq (cs.cells I.ok)) cs.kind cs.names
  (thn (hi vE s σ a.H _ I ⟨a,S,G,hk,rfl,sm,r,(ZFi h0).imp λ_ _ z=>z⟩) λxv s1 h1=>thn h1 λitv s2 h2=>?_)) (λ_ s' hq=>v8 (v8 hq)) λ_ _ e=>e)
 obtain⟨i0,fp,tn,J,H2,rfl,I2,T,t0,f2,b,d,G1,rfl,x,sb,rJ,_,h1⟩:=h2
 refine ZEB hc cs hg gk hts he I2 (x.k.trans hk) sb (r.mono x) T t0 f2 rJ h1 (RR:=λacc C=>compPost (vJ X.prog X.w) X.A X.xe (vF (assign (.Name y py) X.env)) (λ_ s'=>SP X vE W .next s') acc C) ?_
 intro D C s' b' vs Ia hD hCle hDC ⟨m,hn⟩ hCn hq;show vq _ X.A (assign (.Name y py) X.env (.ref D)) _ _ _;refine wpAny_assign_Name (ZEt Ia hN hy hx (v:=.ref D) rfl (λs'' I'' hch=>?_) hf);obtain⟨a',hsb',ha'⟩:=hch;have hCa:C≠a':=by
  rintro rfl;rcases ha' with rfl|ha'
  ·exact absurd (zj I2.lt hCle) (qK _)
  ·obtain⟨v,o,e',_⟩:=I2.cell _ _ ha';exact absurd (zj (zw e') hCle) (qK _)
 refine⟨m,hn.sameBut hsb' hCa,λh' hsb=>⟨_,_,letGo I2 I'' hCle ?_ hsb,?_⟩⟩
 ·rw[Al (Ne.symm hDC)];exact hCn
 ·obtain⟨b3,d3,G3,e3,x3,s3,q3,_,h3⟩:=hq;rw[<-e3];exact h3 b3 _ (Ext.refl b3) s3 ((r.mono x3).set i q3)
end
def M6:D->DH->R D
 |.int i,G=>.ok (.int (-i)) G
 |_,_=>.bad
def J6:D->Bool
 |.non=>vH
 |_=>vI
def I9:D->D->DH->R D
 |d,.non,G=>.ok (.bl (J6 d)) G
 |_,_,_=>.bad
def J1:D->D->DH->R D
 |d,.non,G=>.ok (.bl (!J6 d)) G
 |_,_,_=>.bad
def Rh:D->Option V
 |.non=>vF .non
 |.bl b=>vF (.bl b)
 |.int i=>vF (.int i)
 |.str x=>vF (.str x)
 |_=>vG
def Pu:List D->Option (List V)
 |[]=>vF []
 |d::r=>match Rh d,Pu r with
  |some v,vF vs=>vF (v::vs)
  |_,_=>vG
def inD(d e:D)(G:DH):Option Bool:=match e with
 |.str j=>match d with
  |.str i=>vF (!(Builtin.Str.occurrences j i 0 j.length 1).isEmpty)
  |_=>vG
 |e=>match Bg e G,Rh d with
  |some xs,vF v=>(Pu xs).map λvs=>inV v vs
  |_,_=>vG
def Hz(d e:D)(G:DH):R D:=match inD d e G with
 |some k=>.ok (.bl (!k)) G
 |none=>.bad
section
variable{X:Cx}{E:XK}{a b:xk}{ta tb:DE}{pos:Pos}
theorem ZOz:UnR X (unaryOp .USub) (lR1 X.K E M6):=λvE s σ H x v Q I rx h=>by
 obtain⟨a,G,d,hk,rfl,sm,rd,q⟩:=h;cases d with
 |int i=>exact ZPv vE s σ a.H x v Q I rx ⟨i,rd,q a _ (Ext.refl a) sm rfl⟩
 |_=>exact q.elim
theorem ZNe(ho:UnR X (unaryOp op) (lR1 X.K E f))(ha:QE X E a ta):QE X E (.UnaryOp op a pos) (dUn f ta):=(ZNj ho ha).mono λσ H Q h=>by obtain⟨a,S,G,hk,rfl,s,r,h⟩:=h;refine⟨a,S,G,hk,rfl,s,r,(Ej h).imp ?_⟩;rintro v _ ⟨b,d,G1,rfl,x,s1,q,-,h1⟩;exact⟨b,G1,d,x.k.trans hk,rfl,s1,q,h1⟩
theorem ZMR(hg:Gl X x)(hm:X.mg x=vG)(hv:xO x=vF (.type n))(hn:x≠"__name__":=by decide)(hd:(x==("__debug__":Str))=vI:=by decide):QE X E (.Name x pos) (dC (.ty n)):=
 (ZTq (v:=.ty n) hg hm hv rfl hn hd).mono λσ H Q h=>My h λ_ _=>rfl
theorem ZF0{a:Wd}(rd:Rep a d x):decide (x=V.non)=J6 d:=by
 cases d with
 |non=>rw[show x=V.non from rd];rfl
 |bl _=>rw[show x=V.bl _ from rd];rfl
 |int _=>rw[show x=V.int _ from rd];rfl
 |str _=>rw[show x=V.str _ from rd];rfl
 |ty _=>rw[show x=V.ty _ from rd];rfl
 |tup _=>obtain⟨p,vs,rfl,_⟩:=rd;rfl
 |fl _=>obtain⟨p,vs,rfl,_⟩:=rd;rfl
 |ref _=>rw[rd.2];rfl
theorem o_is:OpR X (xS .Is) (lR2 X.K E I9):=Fi ZK0 λa G d e x y Q hk s rd re q=>by
 cases e with
 |non=>exact⟨re,by rw[ZF0 rd];cases d<;>exact q a _ (Ext.refl a) s rfl⟩
 |_=>cases d<;>exact q.elim
theorem ZLu:OpR X (xS .IsNot) (lR2 X.K E J1):=Fi ZM0 λa G d e x y Q hk s rd re q=>by
 cases e with
 |non=>exact⟨re,by rw[ZF0 rd];cases d<;>exact q a _ (Ext.refl a) s rfl⟩
 |_=>cases d<;>exact q.elim
theorem ZET{a:Wd}(r:Rep a d x)(h:Rh d=vF v):x=v/\Df v=vH:=by
 cases d<;>first
  |(cases h;exact⟨r,rfl⟩)
  |cases h
theorem ZDx{a:Wd}:∀{ds:List D}{xs vs:List V},Reps a ds xs->Pu ds=vF vs->xs=vs/\vs.all Df=vH
 |[],xs,vs,r,h=>by cases h;exact⟨r,rfl⟩
 |d::ds,xs,vs,r,h=>by
  obtain⟨x,r',rfl,r1,r2⟩:=r;unfold Pu at h;split at h
  ·rename_i v ws h1 h2;cases h;obtain⟨e1,f1⟩:=ZET r1 h1;obtain⟨e2,f2⟩:=ZDx r2 h2;subst e1;subst e2;exact⟨rfl,by rw[qO,f1,f2];rfl⟩
  ·cases h
theorem ZSB{a:Wd}(s:Sim a G)(rd:Rep a d x)(re:Rep a e y)(h:inD d e G=vF k):
  (∃i j,x=.str i/\y=.str j/\k= !(Builtin.Str.occurrences j i 0 j.length 1).isEmpty)∨(∃p xs,y=.ref p/\(SqL a.K a.H p xs∨SqT a.K a.H p xs)/\Df x=vH/\xs.all Df=vH/\k=inV x xs):=by
 have seq:(match Bg e G,Rh d with |some xs,vF v=>(Pu xs).map λvs=>inV v vs|_,_=>vG)=vF k->(∃p xs,y=.ref p/\(SqL a.K a.H p xs∨SqT a.K a.H p xs)/\Df x=vH/\xs.all Df=vH/\k=inV x xs):=λh=>by
  split at h
  ·rename_i xs v h1 h2;obtain⟨p,ws,e1,q,r1⟩:=Jf s re h1;obtain⟨e2,f2⟩:=ZET rd h2;subst e2;rw[zP]at h;obtain⟨us,h3,h4⟩:=h;obtain⟨e3,f3⟩:=ZDx r1 h3;subst e3;exact⟨p,ws,e1,q,f2,f3,h4.symm⟩
  ·cases h
 cases e with
 |str j=>
  cases d with
  |str i=>exact .inl ⟨i,j,rd,re,(Option.some.inj h).symm⟩
  |_=>cases h
 |tup xs=>exact .inr (seq h)
 |fl xs=>exact .inr (seq h)
 |ref i=>exact .inr (seq h)
 |_=>exact .inr (seq h)
theorem ZHy:OpR X (xS .NotIn) (lR2 X.K E Hz):=Fi (ZQF.or ZUL) λa G d e x y Q hk s rd re q=>by
 unfold Hz at q;split at q
 ·rename_i k h;have z:=q a _ (Ext.refl a) s rfl;rcases ZSB s rd re h with⟨i,j,e1,e2,rfl⟩|⟨p,xs,e1,hq,f1,f2,rfl⟩
  ·exact .inl ⟨i,j,e1,e2,z⟩
  ·exact .inr ⟨p,xs,e1,by rw[<-hk];exact hq,f1,f2,z⟩
 ·exact q.elim
end
theorem ZP8:xO "isinstance"=vF (.builtin "isinstance"):=by decide +kernel
theorem ZON:xO "all"=vF (.builtin "all"):=by decide +kernel
theorem ZMG:xO "any"=vF (.builtin "any"):=by decide +kernel
theorem ZPm:xO "max"=vF (.builtin "max"):=by decide +kernel
theorem ZTj:xO "min"=vF (.builtin "min"):=by decide +kernel
theorem ZM5:xO "len"=vF (.builtin "len"):=by decide +kernel
theorem ZQu:xO "int"=vF (.type "int"):=by decide +kernel
theorem ZKa:xO "bool"=vF (.type "bool"):=by decide +kernel
theorem ZTV:xO "str"=vF (.type "str"):=by decide +kernel
theorem ZJ6:xO "tuple"=vF (.type "tuple"):=by decide +kernel
theorem ZG1:xO "list"=vF (.type "list"):=by decide +kernel
def Lw:x0->Bool | .local=>vH|_=>vI
def Kf:x0->Bool | .cell=>vH|_=>vI
def Ju:x0->Bool | .free=>vH|_=>vI
def isK(p:x0->Bool):Option x0->Bool|some k=>p k|none=>vI
theorem ZPz(h:Lw k=vH):k=.local:=by cases k<;>first|rfl|cases h
theorem ZNC(h:Kf k=vH):k=.cell:=by cases k<;>first|rfl|cases h
theorem ZDy(h:Ju k=vH):k=.free:=by cases k<;>first|rfl|cases h
theorem R1(hp:∀k',p k'=vH->k'=k)(h:isK p o=vH):o=vF k:=by
 cases o with
 |none=>cases h
 |some k'=>rw[hp _ h]
noncomputable def Sx(dn:List (Str×x0))(N0 N:List Str)(names:List (Str×x0))(nt:Nat)(caps:List Nat):Bool:=
 names.all (λy=>(!Lw y.2||isK Lw (names.lookup y.1)) && !Kf y.2&&(!Ju y.2||isK Kf (dn.lookup y.1)||isK Ju (dn.lookup y.1)))&&decide N.Nodup&&decide (N.length=nt+caps.length) &&
 (zQ caps.length).all λk=>match caps[k]? with
  |some j=>match N0[j]? with
   |some x=>decide (N[nt+k]?=vF x)&&isK Ju (names.lookup x)
   |none=>vI
  |none=>vH
theorem ZD4{X:Cx}{N0 N:List Str}{scope:xB}{nt:Nat}{caps:List Nat}{dn:List (Str×x0)}(hk:scope.kind=.function:=by rfl)(hdn:∀x,X.env.kindOf x=dn.lookup x:=by intro _;rfl)(hN:X.N=N0:=by rfl)
  (h:Sx dn N0 N scope.names nt caps=vH:=by decide +kernel):CompSc X N scope nt caps:=by
 unfold Sx at h;rw[zE,zE,zE]at h;obtain⟨⟨⟨h1,h2⟩,h3⟩,h4⟩:=h;rw[q8]at h1 h4;have key:=λ(y:Str×x0)(hy:y∈scope.names)=>(by have:=h1 y hy;rw[zE,zE]at this;exact this:((!Lw y.2||isK Lw (scope.names.lookup y.1))=vH/\(!Kf y.2)=vH)/\(!Ju y.2||isK Kf (dn.lookup y.1)||isK Ju (dn.lookup y.1))=vH)
 refine⟨hk,λy hy hl=>?_,λy hy hl=>?_,λy hy hl=>?_,of_decide_eq_true h2,of_decide_eq_true h3,λk j hj=>?_⟩
 ·have:=(key y hy).1.1;rw[hl]at this;exact R1 (p:=Lw) (λ_ h=>ZPz h) (by have t:(vI||isK Lw (scope.names.lookup y.1))=vH:=this;simpa using t)
 ·have:=(key y hy).1.2;rw[hl]at this;exact absurd this (by decide)
 ·have:=(key y hy).2;rw[hl,jL]at this;rw[hdn];rcases this with h|h
  ·exact .inl (R1 (p:=Kf) (λ_ h=>ZNC h) (by have t:(vI||isK Kf (dn.lookup y.1))=vH:=h;simpa using t))
  ·exact .inr (R1 (p:=Ju) (λ_ h=>ZDy h) h)
 ·have hk':k<caps.length:=(zH.mp hj).1;have:=h4 k (qz.mpr hk');rw[hj]at this;dsimp only at this;cases e:N0[j]? with
  |none=>rw[e]at this;cases this
  |some x=>
   rw[e]at this;dsimp only at this;rw[zE]at this;exact⟨x,by rw[hN];exact e,of_decide_eq_true this.1,R1 (p:=Ju) (λ_ h=>ZDy h) this.2⟩
section
section
variable{X:Cx}{vE:List (xj×Obj)}{σ:St}{H:Hp}{s:xC}
theorem ZT8(I:Inv X vE σ H s)(h:H p=vF (.lst xs)):∃o,Inv X vE σ (upd H p (.frz o (.lst xs))) s:=by
 obtain⟨hl,its,n,r,e⟩:=I.hok p _ h;have nt:∀b(u:HO),H b=vF u->u≠ .lst xs->b≠p:=λb u q d z=>by subst z;rw[h]at q;exact d (Option.some.inj q).symm
 refine⟨_,I.un (t':=s.toks) (H':=upd H p (.frz {cls:=.type "list",data:=.seq its.toArray n} (.lst xs))) ⟨λb o q _ _ _=>q,λb o q _ _ _=>⟨o.slots,q⟩,λb o q z _=>?_,λb o q _=>⟨o,q⟩,λb ys q=>?_,λb o u q=>?_,λb ps q=>⟨#[],?_⟩⟩ ?_⟩
 ·rw[Al (λz'=>by subst z';rw[h]at z;cases z)];exact z
 ·rw[Al (nt b _ q (by intro z;cases z))];exact q
 ·rw[Al (nt b _ q (by intro z;cases z))];exact q
 ·rw[Al (nt b _ q (by intro z;cases z)),Array.append_empty];exact q
 ·intro b u q;by_cases hb:b=p
  ·subst hb;rw[Ei]at q;cases q;exact⟨e,hl,its,n,r,e⟩
  ·rw[Al hb]at q;exact(I.hok b u q).stay (λc v _ z=>z) (λc z=>by rw[Al (nt c _ z (by intro z;cases z))];exact z) λc ys z=>by rw[Al (nt c _ z (by intro z;cases z))];exact z
def Fz(P:xj->Prop)(H H':Hp):Prop:=∀p,(H' p=H p/\(∀vs,H p=vF (.lst vs)->¬P p))∨∃o vs,P p/\H p=vF (.lst vs)/\H' p=vF (.frz o (.lst vs))
theorem ZHj(I:Inv X vE σ H s)(m:Nat->xj)(n:Nat):∀k:Nat,∃H',Inv X vE σ H' s/\Fz (λp=>∃i,n<=i/\i<n+k/\p=m i) H H'
 |0=>⟨H,I,λp=>.inl ⟨rfl,λ_ _ ⟨i,h1,h2,_⟩=>by lia⟩⟩
 | k + 1=>by
  obtain⟨H',I',F⟩:=ZHj I m n k;have keep:(∀vs,H' (m (n+k))≠vF (.lst vs))->Fz (λp=>∃i,n<=i/\i<n+(k+1)/\p=m i) H H':=λno p=>by
   rcases F p with⟨e,z⟩|⟨o,vs,⟨i,h1,h2,h3⟩,e1,e2⟩
   ·refine .inl ⟨e,λvs e1 ⟨i,h1,h2,h3⟩=>?_⟩;by_cases hi:i<n+k
    ·exact z vs e1 ⟨i,h1,hi,h3⟩
    ·have:i=n+k:=by lia
     subst this;subst h3;exact no vs (e.trans e1)
   ·exact .inr ⟨o,vs,⟨i,h1,by lia,h3⟩,e1,e2⟩
  cases hH:H' (m (n+k))with
  |none=>exact⟨H',I',keep λvs z=>by rw[hH]at z;cases z⟩
  | some u=>
   cases u with
   | lst vs=>
    obtain⟨o,I2⟩:=ZT8 I' hH;refine⟨_,I2,λp=>?_⟩;by_cases hp:p=m (n+k)
    ·subst hp;rcases F (m (n+k))with⟨e,z⟩|⟨o',vs',_,e1,e2⟩
     ·exact .inr ⟨o,vs,⟨n+k,by lia,by lia,rfl⟩,e.symm.trans hH,Ei⟩
     ·rw[hH]at e2;cases e2
    ·rcases F p with⟨e,z⟩|⟨o',vs',⟨i,h1,h2,h3⟩,e1,e2⟩
     ·refine .inl ⟨by rw[Al hp];exact e,λvs' e1 ⟨i,h1,h2,h3⟩=>?_⟩;by_cases hi:i<n+k
      ·exact z vs' e1 ⟨i,h1,hi,h3⟩
      ·have:i=n+k:=by lia
       subst this;exact hp h3
     ·exact .inr ⟨o',vs',⟨i,h1,by lia,h3⟩,e1,by rw[Al hp];exact e2⟩
   |_=>exact⟨H',I',keep λvs z=>by rw[hH]at z;cases z⟩
end
def Hx(f:D->Option D):List D->Option (List D)
 |[]=>vF []
 |d::r=>match f d,Hx f r with
  |some d',vF r'=>vF (d'::r')
  |_,_=>vG
def Du(G:DH)(n:Nat):Nat->D->Option D
 |0,_=>vG
 | k+1,d=>if bel n d=vH then vF d else match d with
  |.ref i=>match G[i]? with
   |some (.lst xs)=>(Hx (Du G n k) xs).map .fl
   |_=>vG
  |.tup xs=>(Hx (Du G n k) xs).map .tup
  |.fl xs=>(Hx (Du G n k) xs).map .fl
  |_=>vG
open Classical in
def freeze(G:DH)(r:R D):R D:=match r with
 | .ok d G'=>if G'.take G.length=G then(match Du G' G.length 9 d with
   |some d'=>.ok d' G
   |none=>.ok d G')else .ok d G'
 |r=>r
def Av(t:DE):DE:=λS G=>freeze G (t S G)
structure CutF (b c:Wd) (n:Nat):Prop where
 k:c.K=b.K
 n:c.n=n
 m:c.m=b.m
 tup:∀p xs,b.H p=vF (.tup xs)->c.H p=vF (.tup xs)
 frz:∀p o u,b.H p=vF (.frz o u)->c.H p=vF (.frz o u)
theorem CutF.sqT{b c:Wd}{n:Nat}(x:CutF b c n){p:xj}{xs:List V}(h:SqT b.K b.H p xs):SqT c.K c.H p xs:=by
 rcases h with(h|⟨o,h⟩)|h
 ·exact .inl (.inl (x.tup _ _ h))
 ·exact .inl (.inr ⟨o,x.frz _ _ _ h⟩)
 ·exact .inr (by rw[x.k];exact h)
theorem CutF.fzL{b c:Wd}{n:Nat}(x:CutF b c n){p:xj}{xs:List V}(h:FzL b.K b.H p xs):FzL c.K c.H p xs:=by
 rcases h with⟨o,h⟩|h
 ·exact .inl ⟨o,x.frz _ _ _ h⟩
 ·exact .inr (by rw[x.k];exact h)
mutual
theorem Rep.Ht(x:CutF b c n):∀{d:D}{v:V},Rep b d v->bel n d=vH->Rep c d v
 |.non,_,h,_=>h
 |.bl _,_,h,_=>h
 |.int _,_,h,_=>h
 |.str _,_,h,_=>h
 |.ty _,_,h,_=>h
 |.tup ds,v,h,q=>by obtain⟨p,vs,e,t,r⟩:=h;simp only[_D.bel]at q;exact⟨p,vs,e,x.sqT t,Reps.Ht x r q⟩
 |.fl ds,v,h,q=>by obtain⟨p,vs,e,t,r⟩:=h;simp only[_D.bel]at q;exact⟨p,vs,e,x.fzL t,Reps.Ht x r q⟩
 |.ref i,v,h,q=>by obtain⟨l,e⟩:=h;simp only[_D.bel]at q;have q':=of_decide_eq_true q;exact⟨by rw[x.n];exact q',by rw[x.m];exact e⟩
theorem Reps.Ht(x:CutF b c n):∀{ds:List D}{vs:List V},Reps b ds vs->bels n ds=vH->Reps c ds vs
 |[],_,h,_=>h
 |d::ds,vs,h,q=>by obtain⟨v,r,e,h1,h2⟩:=h;simp only[_D.bels,zE]at q;exact⟨v,r,e,Rep.Ht x h1 q.1,Reps.Ht x h2 q.2⟩
end
theorem V7(hf:∀d d' v,f d=vF d'->Rep b d v->Rep c d' v):∀{ds ds':List D}{vs:List V},Hx f ds=vF ds'->Reps b ds vs->Reps c ds' vs
 |[],ds',vs,e,h=>by cases e;exact h
 |d::ds,ds',vs,e,h=>by
  obtain⟨v,r,rfl,h1,h2⟩:=h;unfold Hx at e;split at e
  ·rename_i d' r' e1 e2;cases e;exact⟨v,r,rfl,hf _ _ _ e1 h1,V7 hf e2 h2⟩
  ·cases e
theorem ZHL(s:Sim b G')(x:CutF b c n)(hz:∀i,n<=i->i<b.n->∀vs,b.H (b.m i)=vF (.lst vs)->∃o,c.H (b.m i)=vF (.frz o (.lst vs))):∀(k:Nat)(d d':D)(v:V),Du G' n k d=vF d'->Rep b d v->Rep c d' v
 |0,d,d',v,e,h=>by cases e
 | k + 1,d,d',v,e,h=>by
  have ih:=ZHL s x hz k;unfold Du at e;split at e
  ·rename_i hb;cases e;exact h.Ht x hb
  ·rename_i hb;cases d with
   | ref i=>
    dsimp only at e;split at e
    ·rename_i xs hx;rw[zP]at e;obtain⟨ys,e1,rfl⟩:=e;obtain⟨vs,e2,r2⟩:=s.obj i _ hx;obtain⟨il,rfl⟩:=h;have hi:n<=i:=by simp only[_D.bel,decide_eq_true_eq]at hb;lia
     obtain⟨o,e3⟩:=hz i hi il vs e2;exact⟨_,vs,rfl,.inl ⟨o,e3⟩,V7 ih e1 r2⟩
    ·cases e
   |tup xs=>
    dsimp only at e;rw[zP]at e;obtain⟨ys,e1,rfl⟩:=e;obtain⟨p,vs,rfl,t,r⟩:=h;exact⟨p,vs,rfl,x.sqT t,V7 ih e1 r⟩
   |fl xs=>
    dsimp only at e;rw[zP]at e;obtain⟨ys,e1,rfl⟩:=e;obtain⟨p,vs,rfl,t,r⟩:=h;exact⟨p,vs,rfl,x.fzL t,V7 ih e1 r⟩
   |_=>cases e
theorem ZER{X:Cx}{vE:List (xj×Obj)}{σ:St}{sh:xC}{a b:Wd}{G G':DH}(s:Sim a G)(hG:G'.take G.length=G)(x:Ext a b)(sb:Sim b G')(I:Inv X vE σ b.H sh):
  ∃c:Wd,Inv X vE σ c.H sh/\Ext a c/\Sim c G/\CutF b c a.n/\∀(k:Nat)(d d':D)(v:V),Du G' G.length k d=vF d'->Rep b d v->Rep c d' v:=by
 have hlen:∀i o,G[i]?=vF o->G'[i]?=vF o:=λi o e=>by have hi:i<G.length:=(zH.mp e).1;rw[<-hG,j7 hi]at e;exact e
 obtain⟨H',I',F⟩:=ZHj I b.m a.n (b.n-a.n);have hbn:a.n+(b.n-a.n)=b.n:=by have:=x.n;lia
 rw[hbn]at F;have ct:∀p(u:HO),(∀vs,u≠ .lst vs)->b.H p=vF u->H' p=vF u:=λp u nu e=>by
  rcases F p with⟨e1,_⟩|⟨o,vs,_,e1,_⟩
  ·exact e1.trans e
  ·rw[e]at e1;exact absurd (Option.some.inj e1) (nu vs)
 have tabs:∀p,TabOk b.H p->TabOk H' p:=λp t=>t.mono (λp ps e=>ct p _ (by intro _ z;cases z) e) λp o u e=>ct p _ (by intro _ z;cases z) e
 have cc:CutF b ⟨b.K,a.n,b.m,H'⟩ a.n:=⟨rfl,rfl,rfl,λp xs e=>ct p _ (by intro _ z;cases z) e,λp o u e=>ct p _ (by intro _ z;cases z) e⟩;have old:∀i,i<a.n->H' (b.m i)=b.H (b.m i):=λi hi=>by
  rcases F (b.m i)with⟨e1,_⟩|⟨o,vs,⟨j,h1,h2,h3⟩,e1,e2⟩
  ·exact e1
  ·have:=sb.inj i j (zj hi x.n) h2 h3;lia
 refine⟨⟨b.K,a.n,b.m,H'⟩,I',⟨x.k,zK _,x.m,λp xs e=>cc.tup p xs (x.tup p xs e),λp o u e=>cc.frz p o u (x.frz p o u e),λp t=>tabs p (x.tab p t)⟩,⟨s.len,λi j hi hj=>sb.inj i j (zj hi x.n) (zj hj x.n),λi o e=>?_,λi hi=>?_⟩,cc,λk d d' v hd rb=>?_⟩
 ·show ORep ⟨b.K,a.n,b.m,H'⟩ o (H' (b.m i));rw[old i (s.lt e)];have q:=sb.obj i o (hlen i o e);have lb:=(s.obj i o e).Kv;cases o with
  |lst ds=>obtain⟨vs,e1,r1⟩:=q;exact⟨vs,e1,r1.Ht cc lb⟩
  |dct kvs=>obtain⟨us,e1,k1,r1⟩:=q;exact⟨us,e1,k1,r1.Ht cc lb⟩
  |ins c fs=>obtain⟨C,dx,us,n1,e1,k1,r1⟩:=q;exact⟨C,dx,us,n1,e1,k1,r1.Ht cc lb⟩
  |tab C m=>obtain⟨c1,P1,e1,t1⟩:=q;exact⟨c1,P1,e1,tabs _ t1⟩
  |exc c fs=>
   obtain⟨C,oe,u,vs,n1,e1,k1,k2,z⟩:=q;refine⟨C,oe,u,vs,n1,e1,k1,k2,?_⟩;rcases z with z|⟨dx,o,us,e2,f2,k3,r1⟩
   ·exact .inl z
   ·exact .inr ⟨dx,o,us,e2,cc.frz _ _ _ f2,k3,r1.Ht cc lb⟩
  |gone=>trivial
 ·show H' (b.m i)≠vG;rw[old i hi];exact sb.tr i (zj hi x.n)
 ·rw[s.len]at hd;refine ZHL sb cc (λi h1 h2 vs e=>?_) k d d' v hd rb;rcases F (b.m i)with⟨e1,z⟩|⟨o,vs',_,e1,e2⟩
  ·exact absurd ⟨i,h1,h2,rfl⟩ (z vs e)
  ·rw[e]at e1;cases e1;exact⟨o,e2⟩
theorem ZQz(s:Sim a G)(h:out E a (freeze G r) Q):
  out E a r λv H=>∀(vE:List (xj×Obj))(σ:St)(sh:xC),Inv X vE σ H sh->∃H',Inv X vE σ H' sh/\Q v H':=by
 cases r with
 |err e G'=>exact h
 |bad=>exact h
 | ok d G'=>
  intro b v x sb rb vE σ sh I;unfold freeze at h;dsimp only at h;split at h
  ·rename_i hG;split at h
   ·rename_i d' hd;obtain⟨c,Ic,xc,sc,cc,hr⟩:=ZER s hG x sb I;exact⟨c.H,Ic,h c v xc sc (hr _ _ _ _ hd rb)⟩
   ·exact⟨_,I,h b v x sb rb⟩
  ·exact⟨_,I,h b v x sb rb⟩
theorem ZOM(ha:QE X E e t):QE X E e (Av t):=λvE s σ H Q I h=>by
 obtain⟨a,S,G,hk,rfl,sm,r,h⟩:=h;refine thn (ha vE s σ a.H _ I ⟨a,S,G,hk,rfl,sm,r,ZQz (X:=X) sm h⟩) λu s' ⟨v,H',I',rv,q⟩=>?_
 obtain⟨H2,I2,q2⟩:=q vE σ s' I';exact⟨v,H2,I2,rv,q2⟩
theorem ZVA {X:Cx} {E:XK} {st:xD} {t:DE} {i:Nat} (ha:QS X E st (sAs t (gV i))):QS X E st (sAs (Av t) (gV i)):=λvE s σ H W I h=>by
 obtain ⟨a,S,G,hk,rfl,sm,r,h⟩:=h;have h2:Bw E a (sAs t (gV i) S G) {W with nx:=λσ H=>∀(vE:List (xj×Obj))(sh:xC),Inv X vE σ H sh->∃H',Inv X vE σ H' sh/\W.nx σ H'}:=by
  unfold sAs Av at h;unfold sAs;cases ht:t S G with
  |err e G'=>rw[ht]at h;exact h
  |bad=>rw[ht]at h;exact h
  | ok d G'=>
   rw[ht]at h;intro b σ' x sb rb vE sh I;unfold freeze at h;dsimp only at h;split at h
   ·rename_i hG;split at h
    ·rename_i d' hd;obtain⟨c,Ic,xc,sc,cc,hr⟩:=ZER sm hG x sb I;refine⟨c.H,Ic,h c σ' xc sc ⟨?_,λj e he=>?_⟩⟩
     ·rw[j9,<-rb.len,j9]
     ·rw[jY]at he;by_cases hij:i=j
      ·subst hij;rw[if_pos rfl]at he;by_cases hl:i<S.length
       ·rw[if_pos hl]at he;have e1:d'=e:=by simpa using he
        subst e1;obtain⟨v,e2,rv⟩:=rb.get i d (by rw[jY,if_pos rfl,if_pos hl]);exact⟨v,e2,hr _ _ _ _ hd rv⟩
       ·rw[if_neg hl]at he;cases he
      ·rw[if_neg hij]at he;obtain⟨v,e2,rv⟩:=rb.get j e (by rw[jY,if_neg hij];exact he);obtain⟨v',_,rv'⟩:=r.get j e he;exact⟨v,e2,rv.Ht cc rv'.bel⟩
    ·exact⟨_,I,h b σ' x sb rb⟩
   ·exact⟨_,I,h b σ' x sb rb⟩
 refine thn (ha vE s σ a.H _ I ⟨a,S,G,hk,rfl,sm,r,h2⟩) λf s' hf=>?_
 cases f with
 |next=>
  obtain⟨σ',H',I',q⟩:=hf;obtain⟨H2,I2,q2⟩:=q vE s' I';exact⟨σ',H2,I2,q2⟩
 |brk=>exact hf
 |cont=>exact hf
 |ret u=>exact hf
end
section
variable{S:DSt}{G:DH}
@[simp]theorem ZBV:dV i S G=(match S[i]? with |some (vF d)=>.ok d G|_=>.bad):=id rfl
@[simp]theorem ev_C:dC d S G=.ok d G:=id rfl
@[simp]theorem ev_Op:dOp f a b S G=(a S G).bind λx G1=>(b S G1).bind λy G2=>f x y G2:=id rfl
@[simp]theorem ev_Un:dUn f a S G=(a S G).bind f:=id rfl
@[simp]theorem ev_Nil:Ab S G=.ok [] G:=id rfl
@[simp]theorem ZVD:Aa a r S G=(a S G).bind λx G1=>(r S G1).bind λxs G2=>.ok (x::xs) G2:=id rfl
@[simp]theorem ev_Fn:dFn f t S G=(t S G).bind f:=id rfl
@[simp]theorem ZVs:Cr t S G=tidy G (t S G):=id rfl
@[simp]theorem ev_Frz:Av t S G=freeze G (t S G):=id rfl
@[simp]theorem ev_asB:asB (.bl k) G=.ok k G:=id rfl
@[simp]theorem ev_Tst:Ag t S G=(t S G).bind asB:=id rfl
@[simp]theorem ev_And:J7 t u S G=(t S G).bind λk G1=>if k=vH then u S G1 else .ok vI G1:=id rfl
@[simp]theorem ev_Or:dOr t u S G=(t S G).bind λk G1=>if k=vH then .ok vH G1 else u S G1:=id rfl
@[simp]theorem ev_Not:Gy t S G=(t S G).bind λk G1=>.ok (!k) G1:=id rfl
@[simp]theorem ZVe:Je t u S G=(t S G).bind λx G1=>(asB x G1).bind λk G2=>if k=vH then u S G2 else .ok (.bl vI) G2:=id rfl
@[simp]theorem ev_OrV:R0 t u S G=(t S G).bind λx G1=>(asB x G1).bind λk G2=>if k=vH then .ok (.bl vH) G2 else u S G2:=id rfl
@[simp]theorem ZVw:Qv t S G=(t S G).bind λx G1=>(asB x G1).bind λk G2=>.ok (.bl (!k)) G2:=id rfl
@[simp]theorem ev_If:dIf c t u S G=(c S G).bind λk G1=>if k=vH then t S G1 else u S G1:=id rfl
@[simp]theorem ZVY:K5 f g a b c S G=(a S G).bind λx G1=>(b S G1).bind λy G2=>(f x y G2).bind λz G3=>(asB z G3).bind λk G4=>
 if k=vH then(c S G4).bind λw G5=>g y w G5 else .ok (.bl vI) G4:=id rfl
@[simp]theorem ev_sNx:sNx S G=.nx S G:=id rfl
def SR.then(u:DS)(_:Fx u:=())(r:SR):SR:=match r with
 |.nx S1 G1=>u S1 G1
 |r=>r
@[simp]theorem Oz:Ac t u S G=(t S G).then u:=id rfl
@[simp]theorem Vg:(SR.nx S G).then u=u S G:=id rfl
@[simp]theorem ZV1:(SR.rt d G).then u=.rt d G:=id rfl
@[simp]theorem ev_sEx:sEx t S G=(t S G).toS λ_ G1=>.nx S G1:=id rfl
@[simp]theorem ev_sRt:sRt t S G=(t S G).toS λd G1=>.rt d G1:=id rfl
@[simp]theorem ev_sIf:sIf c t u S G=(c S G).toS λk G1=>if k=vH then t S G1 else u S G1:=id rfl
@[simp]theorem ev_sAs:sAs t g S G=(t S G).toS λd G1=>(g d S G1).toS λS2 G2=>.nx S2 G2:=id rfl
@[simp]theorem ev_sAu:sAu i t f S G=(match S[i]? with
 |some (vF x)=>(t S G).toS λy G1=>(f x y G1).toS λz G2=>.nx (S.set i (vF z)) G2
 |_=>.bad):=id rfl
@[simp]theorem ZVf:By it g b S G=(it S G).toS λJ G1=>(match J with
 |.pure xs=>Aq g b xs S G1
 |.mt i=>match G1[i]? with
  |some (.lst xs)=>forM i g b xs.length 0 S G1
  |_=>.bad
 |.fn n f=>Dh f g b n 0 S G1):=id rfl
@[simp]theorem ZOK:Dt t S G=(t S G).bind Gg:=id rfl
@[simp]theorem ZVv:Bk f t S G=(t S G).bind f:=id rfl
@[simp]theorem Cg:gV i d S G=.ok (S.set i (vF d)) G:=id rfl
@[simp]theorem Mi:Ax [] S G=.ok S G:=id rfl
@[simp]theorem N7:Ae t u (d::r) S G=(t d S G).bind λS1 G1=>u r S1 G1:=id rfl
@[simp]theorem N8:Ao n t (.tup ds) S G=if ds.length=n then t ds S G else .bad:=id rfl
@[simp]theorem ev_gIx:gIx o i v S G=(o S G).bind λo G1=>(i S G1).bind λi G2=>(K3 o i v G2).bind λ_ G3=>.ok S G3:=id rfl
@[simp]theorem ev_MtL:De f o t S G=(o S G).bind λx G1=>if isL x G1=vH then(t S G1).bind λxs G2=>f x xs G2 else .bad:=id rfl
@[simp]theorem ZLj:Bx it nt caps g c te S G=(it S G).bind λJ G1=>(match J with
 |.pure xs=>Ck g c te (Ay nt caps S) xs G1
 |.mt i=>match G1[i]? with
  |some (.lst xs)=>Fy i g c te (Ay nt caps S) xs.length 0 G1
  |_=>.bad
 |.fn n f=>Dc f g c te (Ay nt caps S) n 0 G1).bind Ah:=id rfl
@[simp]theorem ZFX:Bd S G=.ok vH G:=id rfl
@[simp]theorem Cq:aft (.nx S G) k=k S G:=id rfl
@[simp]theorem aft_rt:aft (.rt d G) k=.rt d G:=id rfl
theorem Cm:Aq g b [] S G=.nx S G:=id rfl
theorem Bu:Aq g b (x::xs) S G=(g x S G).toS λS1 G1=>aft (b S1 G1) (Aq g b xs):=id rfl
theorem ZB1:Ck g c te S (x::xs) G=(g x S G).bind λS1 G1=>(c S1 G1).bind λk G2=>
   if k=vH then(te S1 G2).bind λd G3=>(Ck g c te S xs G3).bind λds G4=>.ok (d::ds) G4 else Ck g c te S xs G2:=id rfl
def SR.ret(r:SR):R D:=match r with
 |.nx _ G'=>.ok .non G'
 |.rt d G'=>.ok d G'
 |.err x G'=>.err x G'
 |_=>.bad
@[simp]theorem ZL0:(SR.nx S G).ret=.ok .non G:=id rfl
@[simp]theorem ret_rt:(SR.rt d G).ret=.ok d G:=id rfl
theorem Aw:Ba np nl b ds G=if ds.length=np then tidy G (b (ds.map vF++zV nl vG) G).ret else .bad:=id rfl
end
section
variable{n:Nat}{G:DH}
@[simp]theorem ZVq:bel n .non=vH:=by simp[_D.bel]
@[simp]theorem bel_bl:bel n (.bl b)=vH:=by simp[_D.bel]
@[simp]theorem ZLl:bel n (.int b)=vH:=by simp[_D.bel]
@[simp]theorem ZVu:bel n (.str b)=vH:=by simp[_D.bel]
@[simp]theorem ZVB:bel n (.tup b)=bels n b:=by simp[_D.bel]
@[simp]theorem bel_fl:bel n (.fl b)=bels n b:=by simp[_D.bel]
@[simp]theorem ZV2:bel n (.ref b)=decide (b<n):=by simp[_D.bel]
@[simp]theorem ZVS:bels n []=vH:=by simp[_D.bels]
@[simp]theorem ZQn:bels n (d::ds)=(bel n d&&bels n ds):=by simp[_D.bels]
theorem ZLC:bels n ds=vH↔∀d∈ds,bel n d=vH:=by
 induction ds with
 |nil=>simp
 |cons d ds ih=>simp[ih]
theorem Ec{f:α->D}{xs:List α}(h:∀x∈xs,bel n (f x)=vH):bels n (xs.map f)=vH:=by rw[ZLC];intro d hd;obtain⟨x,hx,rfl⟩:=zO.mp hd;exact h x hx
@[simp]theorem ZGj{xs:List Int}:bels n (xs.map D.int)=vH:=Ec λ_ _=>ZLl
theorem Be(h:bel G.length d=vH):tidy G (.ok d G)=.ok d G:=by unfold tidy;simp[h]
theorem Li(h:bel G.length d=vH):tidy G (.ok d (G++L))=.ok d G:=by unfold tidy;simp[h]
theorem ZBG(L:DH)(hk:L[k]?=vF (.lst ds))(h:bels G.length ds=vH):tidy G (.ok (.ref (G.length+k)) (G++L))=.ok (.ref G.length) (G++[.lst ds]):=by
 unfold tidy;have e:(G++L)[G.length+k]?=vF (.lst ds):=by rw[zM (by lia)];simpa using hk
 simp[e,Kv,h]
theorem Dr{ds:List D}{L:DH}(h:bels G.length ds=vH):tidy G (.ok (.ref G.length) (G++ .lst ds::L))=.ok (.ref G.length) (G++[.lst ds]):=ZBG (.lst ds::L) (k:=0) rfl h
theorem Hl(h:bel G.length d=vH):freeze G (.ok d G)=.ok d G:=by unfold freeze;simp[h,Du]
theorem Uq{n:Nat}:∀{ds:List D},bels n ds=vH->Hx (Du G' n (k+1)) ds=vF ds
 |[],_=>rfl
 |d::ds,h=>by simp only[ZQn,zE]at h;unfold Hx;rw[Uq h.2];simp[Du,h.1]
theorem ZO1(L:DH)(hk:L[k]?=vF (.lst ds))(h:bels G.length ds=vH):freeze G (.ok (.ref (G.length+k)) (G++L))=.ok (.fl ds) G:=by
 unfold freeze;have e:(G++L)[G.length+k]?=vF (.lst ds):=by rw[zM (by lia)];simpa using hk
 have m:Du (G++L) G.length 9 (.ref (G.length+k))=vF (.fl ds):=by unfold Du;simp[e,Uq h]
 simp[m]
theorem Dk{ds:List D}{L:DH}(h:bels G.length ds=vH):freeze G (.ok (.ref G.length) (G++ .lst ds::L))=.ok (.fl ds) G:=ZO1 (.lst ds::L) (k:=0) rfl h
theorem Tn(L:DH)(k:Nat):(G++L)[G.length+k]?=L[k]? :=by rw[zM (by lia)];simp
theorem Cw(L:DH):(G++L)[G.length]?=L[0]? :=Tn L 0
theorem ZCo(L:DH)(k:Nat)(o:DO):(G++L).set (G.length+k) o=G++L.set k o:=by rw[xQ _ _ (by lia)];simp
theorem Dz(L:DH)(o:DO):(G++L).set G.length o=G++L.set 0 o:=ZCo L 0 o
theorem H9{lo:Int}:Bh lo 0=[]:=id rfl
theorem Ge{lo:Int}{n:Nat}:Bh lo (n+1)=.int lo::Bh (lo+1) n:=by
 unfold Bh;rw[qS,zk,qP]
 congr 1
 ·simp
 ·apply qk;intro k _;simp only[Function.comp]
  congr 1
  lia
end
section
variable{G:DH}{i j:Int}{x y:Str}{k l:Bool}
@[simp]theorem ev_add:Ai (.int i) (.int j) G=.ok (.int (i+j)) G:=id rfl
@[simp]theorem ev_ip:K7 (.int i) (.int j) G=.ok (.int (i+j)) G:=id rfl
@[simp]theorem ev_sub:Dw (.int i) (.int j) G=.ok (.int (i-j)) G:=id rfl
theorem log2_small(h:n<10^100):n.log2<9000:=by
 by_cases hn:n=0
 ·subst hn;decide
 ·rw[Nat.log2_lt hn];exact Nat.lt_trans h (by decide)
@[simp]theorem ZV8{n:Nat}[NeZero n](h:n<10^100):Bv (.int i) (.int (no_index (OfNat.ofNat n))) G=.ok (.int (i/OfNat.ofNat n)) G:=
 if_pos ⟨Int.ofNat_lt.mpr (Nat.pos_of_ne_zero (NeZero.ne n)),log2_small h⟩
@[simp]theorem ev_mod:Az (.int i) (.int j) G=if 0<j then .ok (.int (i%j)) G else .bad:=id rfl
@[simp]theorem ev_pow:Hn (.int i) (.int j) G=if 0<=j/\j<=1000000/\i.natAbs<18446744073709551616 then .ok (.int (i^j.toNat)) G else .bad:=id rfl
@[simp]theorem ev_lt:Fb (.int i) (.int j) G=.ok (.bl (decide (i<j))) G:=id rfl
@[simp]theorem ev_le:J9 (.int i) (.int j) G=.ok (.bl (decide (i<=j))) G:=id rfl
@[simp]theorem ev_gt:Gi (.int i) (.int j) G=.ok (.bl (decide (j<i))) G:=id rfl
@[simp]theorem ev_ge:Qx (.int i) (.int j) G=.ok (.bl (decide (j<=i))) G:=id rfl
@[simp]theorem ev_eq:Bl (.int i) (.int j) G=.ok (.bl (decide (i=j))) G:=id rfl
@[simp]theorem ev_ne:Gw (.int i) (.int j) G=.ok (.bl (!decide (i=j))) G:=id rfl
@[simp]theorem ev_eqS:Bl (.str x) (.str y) G=.ok (.bl (decide (x=y))) G:=id rfl
@[simp]theorem ev_neS:Gw (.str x) (.str y) G=.ok (.bl (!decide (x=y))) G:=id rfl
@[simp]theorem ev_neg:M6 (.int i) G=.ok (.int (-i)) G:=id rfl
@[simp]theorem ev_is:I9 d .non G=.ok (.bl (J6 d)) G:=by cases d<;>exact id rfl
@[simp]theorem ZV4:J1 d .non G=.ok (.bl (!J6 d)) G:=by cases d<;>exact id rfl
@[simp]theorem ZVg:J6 .non=vH:=id rfl
@[simp]theorem ZVV:J6 (.int i)=vI:=id rfl
@[simp]theorem ZVQ:J6 (.tup ds)=vI:=id rfl
@[simp]theorem ev_max:Px [.int i,.int j] G=.ok (.int (max i j)) G:=by
 show R.ok (D.int (if j>i then j else i)) G=_
 congr 2
 split <;> lia
@[simp]theorem ev_min:K1 [.int i,.int j] G=.ok (.int (min i j)) G:=by
 show R.ok (D.int (if j<i then j else i)) G=_
 congr 2
 split <;> lia
@[simp]theorem ZVz:Bg (.tup ds) G=vF ds:=id rfl
@[simp]theorem ZVa:Bg (.fl ds) G=vF ds:=id rfl
@[simp]theorem ZEk:Bg (.ref n) G=(match G[n]? with |some (.lst xs)=>vF xs|_=>vG):=id rfl
@[simp]theorem ZVy:Bm [.tup ds] G=.ok (.int ds.length) G:=id rfl
@[simp]theorem ZVr:Bm [.fl ds] G=.ok (.int ds.length) G:=id rfl
@[simp]theorem ev_ixT:Ad (.tup ds) (.int i) G=(match atI ds i with |some v=>.ok v G|none=>.bad):=id rfl
@[simp]theorem ev_ixF:Ad (.fl ds) (.int i) G=(match atI ds i with |some v=>.ok v G|none=>.bad):=id rfl
@[simp]theorem ev_ixR:Ad (.ref n) (.int i) G=(match G[n]? with |some (.lst xs)=>(match atI xs i with |some v=>.ok v G|none=>.bad)|_=>.bad):=by
 unfold Ad;simp only[ZEk];cases G[n]? with
 |none=>rfl
 |some o=>cases o<;>rfl
theorem Hr{n k:Nat}(h:k<n):ixN n (k:Int)=vF k:=by unfold ixN;rw[if_pos (by lia),if_pos (by lia)];simp
theorem ZRY{xs:List α}{k:Nat}{d:α}(h:xs[k]?=vF d):atI xs (k:Int)=vF d:=by unfold atI;rw[Hr (zH.mp h).1];exact h
theorem Dg{xs:List α}{j:Int}{k:Nat}{d:α}(e:j=k)(h:xs[k]?=vF d):atI xs j=vF d:=by subst e;exact ZRY h
theorem ZPJ{xs:List α}{j:Int}(h0:j<0)(h: -(xs.length:Int)<=j):atI xs j=vF (xs[(j+xs.length).toNat]'(by lia)):=by unfold atI ixN;rw[if_neg (by lia),if_pos h];exact zX (by lia)
@[simp]theorem atI_0{a:α}{xs:List α}:atI (a::xs) 0=vF a:=Dg (k:=0) rfl rfl
@[simp]theorem atI_1{a b:α}{xs:List α}:atI (a::b::xs) 1=vF b:=Dg (k:=1) rfl rfl
@[simp]theorem atI_2{a b c:α}{xs:List α}:atI (a::b::c::xs) 2=vF c:=Dg (k:=2) rfl rfl
@[simp]theorem atI_3{a b c d:α}{xs:List α}:atI (a::b::c::d::xs) 3=vF d:=Dg (k:=3) rfl rfl
@[simp]theorem atI_4{a b c d e:α}{xs:List α}:atI (a::b::c::d::e::xs) 4=vF e:=Dg (k:=4) rfl rfl
@[simp]theorem atI_5{a b c d e f:α}{xs:List α}:atI (a::b::c::d::e::f::xs) 5=vF f:=Dg (k:=5) rfl rfl
@[simp]theorem atI_6{a b c d e f g:α}{xs:List α}:atI (a::b::c::d::e::f::g::xs) 6=vF g:=Dg (k:=6) rfl rfl
@[simp]theorem ZVM:An ds G=if ds.length<=1000000 then .ok (.tup ds) G else .bad:=id rfl
@[simp]theorem ZVd:Ah ds G=if ds.length<=1000000 then .ok (.ref G.length) (G++[.lst ds])else .bad:=id rfl
@[simp]theorem ZVt:Dj [.fl ds] G=.ok (.tup ds) G:=id rfl
@[simp]theorem ZVH:Dj [.ref n] G=(match G[n]? with |some (.lst xs)=>.ok (.tup xs) G|_=>.bad):=by
 unfold Dj;simp only[ZEk];cases G[n]? with
 |none=>rfl
 |some o=>cases o<;>rfl
@[simp]theorem ev_itT:Gg (.tup ds) G=.ok (.pure ds) G:=id rfl
@[simp]theorem ev_itF:Gg (.fl ds) G=.ok (.pure ds) G:=id rfl
@[simp]theorem ZVb:rng1 [.int j] G=if inR j then .ok (.pure (Bh 0 j.toNat)) G else .bad:=id rfl
theorem Ed(h0: -1000000000<=i)(h:i<=1000000000):inR i:=⟨by lia,by lia⟩
@[simp]theorem ZVW:isL (.fl ds) G=vH:=id rfl
@[simp]theorem ZVK:isL (.ref n) G=(match G[n]? with |some (.lst _)=>vH|_=>vI):=id rfl
@[simp]theorem ev_app:Dl (.ref n) [d] G=(match G[n]? with |some (.lst xs)=>if xs.length<1000000 then .ok .non (G.set n (.lst (xs++[d])))else .bad|_=>.bad):=id rfl
@[simp]theorem ZVU:K3 (.ref n) (.int i) d G=(match G[n]? with |some (.lst xs)=>(match ixN xs.length i with |some j=>.ok .non (G.set n (.lst (xs.set j d)))|none=>.bad)|_=>.bad):=id rfl
@[simp]theorem ev_all{ks:List Bool}:Kp [.fl (ks.map D.bl)] G=.ok (.bl (ks.all id)) G:=by simp[Kp]
@[simp]theorem ev_any{ks:List Bool}:Kz [.fl (ks.map D.bl)] G=.ok (.bl (ks.any id)) G:=by simp[Kz]
@[simp]theorem ZVh:Ft [d,.ty "int"] G=(match tyD G d with |some .int=>.ok (.bl vH) G|some .bl=>.ok (.bl vH) G|some _=>.ok (.bl vI) G|none=>.bad):=by
 unfold Ft;dsimp only;cases tyD G d with
 |none=>rfl
 |some t=>cases t<;>rfl
@[simp]theorem ZVE:Ft [d,.ty "bool"] G=(match tyD G d with |some .bl=>.ok (.bl vH) G|some _=>.ok (.bl vI) G|none=>.bad):=by
 unfold Ft;dsimp only;cases tyD G d with
 |none=>rfl
 |some t=>cases t<;>rfl
@[simp]theorem ZVN:Ft [d,.ty "tuple"] G=(match tyD G d with |some .tup=>.ok (.bl vH) G|some _=>.ok (.bl vI) G|none=>.bad):=by
 unfold Ft;dsimp only;cases tyD G d with
 |none=>rfl
 |some t=>cases t<;>rfl
@[simp]theorem ZVi:Ft [d,.ty "str"] G=(match tyD G d with |some .str=>.ok (.bl vH) G|some _=>.ok (.bl vI) G|none=>.bad):=by
 unfold Ft;dsimp only;cases tyD G d with
 |none=>rfl
 |some t=>cases t<;>rfl
end
section
variable{c:Prop}[Decidable c]
end
def Gb(kvs:List (Key×D))(k:Key):Option D:=(kvs.find? λkv=>decide (kv.1=k)).map (·.2)
def putD(kvs:List (Key×D))(k:Key)(v:D):List (Key×D):=
 if(kvs.any λkv=>decide (kv.1=k))=vH then kvs.map (λkv=>if kv.1=k then(kv.1,v)else kv)else kvs++[(k,v)]
def Eg:D->Option Key
 |.int i=>vF (.inl i)
 |.str x=>vF (.inr x)
 |_=>vG
def Qd(d:D)(G:DH):Option (List (Key×D)):=match d with
 |.ref i=>match G[i]? with
  |some (.dct kvs)=>vF kvs
  |_=>vG
 |_=>vG
theorem ZSd(r:Rep a d x)(h:Eg d=vF k):x=kV k:=by
 cases d<;>first
  |(cases h;exact r)
  |cases h
theorem RepKV.nil:RepKV a [] []:=⟨rfl,rfl⟩
theorem RepKV.cons(h:RepKV a ((k,d)::kvs) us):∃v r,us=(k,v)::r/\Rep a d v/\RepKV a kvs r:=by
 obtain⟨h1,v,r,h2,h3,h4⟩:=h;cases us with
 |nil=>cases h2
 |cons p us=>
  obtain⟨q,w⟩:=p;simp only[zk,List.cons.injEq]at h1 h2;obtain⟨rfl,h1⟩:=h1;obtain⟨rfl,rfl⟩:=h2;exact⟨w,us,rfl,h3,h1,h4⟩
theorem RepKV.mk(h:Rep a d v)(r:RepKV a kvs us):RepKV a ((k,d)::kvs) ((k,v)::us):=
 ⟨by simp only[zk,r.1],Reps.cons h r.2⟩
theorem RepKV.val:∀{kvs:List (Key×D)}{us:List (Key×V)},RepKV a kvs us->(Gb kvs k=vG/\Fl us k=vG)∨∃d v,Gb kvs k=vF d/\Fl us k=vF v/\Rep a d v
 |[],us,h=>by obtain⟨h1,_⟩:=h;have:us=[]:=j8.mp h1.symm;subst this;exact .inl ⟨rfl,rfl⟩
 | (q,d)::kvs,us,h=>by
  obtain⟨v,r,rfl,h1,h2⟩:=RepKV.cons h;by_cases e:q=k
  ·exact .inr ⟨d,v,by simp[Gb,qy,e],by simp[Fl,qy,e],h1⟩
  ·rcases RepKV.val (k:=k) h2 with⟨e1,e2⟩|⟨d',v',e1,e2,e3⟩
   ·exact .inl ⟨by simpa[Gb,qy,e]using e1,by simpa[Fl,qy,e]using e2⟩
   ·exact .inr ⟨d',v',by simpa[Gb,qy,e]using e1,by simpa[Fl,qy,e]using e2,e3⟩
theorem RepKV.any:∀{kvs:List (Key×D)}{us:List (Key×V)},RepKV a kvs us->(kvs.any λkv=>decide (kv.1=k))=us.any λkv=>decide (kv.1=k)
 |[],us,h=>by
  obtain⟨h1,_⟩:=h;have:us=[]:=j8.mp h1.symm;subst this
  rfl
 |(q,d)::kvs,us,h=>by obtain⟨v,r,rfl,h1,h2⟩:=RepKV.cons h;simp only[jG,RepKV.any (k:=k) h2]
theorem RepKV.repl(hv:Rep a d v):∀{kvs:List (Key×D)}{us:List (Key×V)},RepKV a kvs us->RepKV a (kvs.map λkv=>if kv.1=k then(kv.1,d)else kv) (us.map λkv=>if kv.1=k then(kv.1,v)else kv)
 |[],us,h=>by obtain⟨h1,_⟩:=h;have:us=[]:=j8.mp h1.symm;subst this;exact RepKV.nil
 |(q,e)::kvs,us,h=>by
  obtain⟨w,r,rfl,h1,h2⟩:=RepKV.cons h;simp only[zk];by_cases hq:q=k
  ·rw[if_pos hq,if_pos hq];exact RepKV.mk hv (RepKV.repl hv h2)
  ·rw[if_neg hq,if_neg hq];exact RepKV.mk h1 (RepKV.repl hv h2)
theorem RepKV.put(h:RepKV a kvs us)(hv:Rep a d v):RepKV a (putD kvs k d) (putK us k v):=by
 unfold putD putK;rw[RepKV.any (k:=k) h];split
 ·exact RepKV.repl hv h
 ·exact⟨by simp[h.1],by have:=Reps.append h.2 (Reps.cons hv (Reps.nil));simpa using this⟩
theorem Sim.dct(s:Sim a G)(r:Rep a d x)(h:Qd d G=vF kvs):∃i us,d=.ref i/\i<a.n/\x=.ref (a.m i)/\G[i]?=vF (.dct kvs)/\a.H (a.m i)=vF (.dK us)/\RepKV a kvs us:=by
 cases d with
 |ref i=>
  unfold Qd at h;dsimp only at h;split at h
  ·rename_i ks hi;cases h;obtain⟨us,e1,r1⟩:=s.obj i _ hi;exact⟨i,us,rfl,r.1,r.2,hi,e1,r1⟩
  ·cases h
 |_=>cases h
def J8(d e:D)(G:DH):R D:=match Qd d G,Eg e with
 |some kvs,vF k=>match Gb kvs k with
  |some v=>.ok v G
  |none=>.bad
 |none,_=>Ad d e G
 |_,_=>.bad
section
variable{X:Cx}{E:XK}
theorem ZNL(hu:X.A.units+64<cLine):IxR X (λx y H Q=>∃a v,x=.ref a/\DGet H a y (vF v)/\Q v H):=by
 intro value slice vE s σ H x y v u Q I rx ry h hs;obtain⟨a,w,rfl,g,q⟩:=h;obtain rfl:v=Value.ref a:=rx;have hT:=ZKV I g;unfold subscriptTail;refine vj ?_;rw[getitemInPython_of_ne hT.not_modules];refine vj (wpAny_specialOf hT PySem.F.slot_dict_getitem.lookup ?_);have fin:vq (vJ X.prog X.w) X.A (subscripted slice vI (.ref a) u) (λr s₃=>vq (vJ X.prog X.w) X.A (letTemporaryGo value (.ref a) r >>=λ_=>pure r) (EP X vE σ Q) X.xe s₃) X.xe s:=by
  rw[hs];exact wpAny_operating (ZQv (by lia) I g ry λw' s3 I3 rw'=>vj (wpAny_letTemporaryGo (v8 ⟨w,H,I3,rw',q⟩)))
 first
  |exact v8 (vj fin)
  |exact vj (v8 (vj fin))
  |exact vj fin
theorem ZR3(s:Sim a G)(rd:Rep a d x)(re:Rep a e y)(h1:Qd d G=vF kvs)(h2:Eg e=vF k):
  ∃p,x=.ref p/\((Gb kvs k=vG/\DGet a.H p y vG)∨∃v w,Gb kvs k=vF v/\Rep a v w/\DGet a.H p y (vF w)):=by
 obtain⟨i,us,rfl,il,rfl,hg,hh,r⟩:=s.dct rd h1;have ey:=ZSd re h2;subst ey;refine⟨a.m i,rfl,?_⟩;have g:=DGet.k (k:=k) hh;rcases r.val (k:=k)with⟨e1,e2⟩|⟨v,w,e1,e2,e3⟩
 ·exact .inl ⟨e1,by rw[e2]at g;exact g⟩
 ·exact .inr ⟨v,w,e1,e3,by rw[e2]at g;exact g⟩
theorem ZGW(hu:X.A.units+64<cLine):IxR X (lR2 X.K E J8):=(i_ix (E:=E).or (ZNL hu)).mono λx y H Q h=>by
 obtain⟨a,G,d,e,hk,rfl,s,rd,re,q⟩:=h;unfold J8 at q;split at q
 ·rename_i kvs k h1 h2;obtain⟨p,rfl,⟨e1,_⟩|⟨v,w,e1,rv,g⟩⟩:=ZR3 s rd re h1 h2
  ·rw[e1]at q;exact q.elim
  ·rw[e1]at q;exact .inr ⟨p,w,rfl,g,q a w (Ext.refl a) s rv⟩
 ·exact .inl ⟨a,G,d,e,hk,rfl,s,rd,re,q⟩
 ·exact q.elim
theorem Ext.wrD(h:a.H p=vF (.dK us)):Ext a (a.put p ho):=
 ⟨rfl,zK _,λ_ _=>rfl,λq xs e=>by
  show upd a.H p ho q=_;rw[Al (λz=>by subst z;rw[h]at e;cases e)];exact e,λq o u e=>by
  show upd a.H p ho q=_;rw[Al (λz=>by subst z;rw[h]at e;cases e)];exact e,λ_ t=>t.mono (λq ps e=>by show upd a.H p ho q=_;rw[Al (λz=>by subst z;rw[h]at e;cases e)];exact e) (λq o u e=>by show upd a.H p ho q=_;rw[Al (λz=>by subst z;rw[h]at e;cases e)];exact e)⟩
theorem Sim.wrD(s:Sim a G)(hi:i<a.n)(h:a.H (a.m i)=vF (.dK us))(r:RepKV (a.put (a.m i) (.dK us')) kvs' us'):Sim (a.put (a.m i) (.dK us')) (G.set i (.dct kvs')):=by
 refine⟨by rw[j9];exact s.len,s.inj,λj o e=>?_,λj hj=>?_⟩
 ·rw[jY]at e;show ORep _ o (upd a.H (a.m i) (.dK us') (a.m j));by_cases hij:i=j
  ·subst hij;rw[if_pos rfl,if_pos (by rw[s.len];exact hi)]at e;cases e;rw[Ei];exact⟨us',rfl,r⟩
  ·rw[if_neg hij]at e;rw[Al λz=>hij (s.inj _ _ (s.lt e) hi z).symm];exact(s.obj j o e).mono (Ext.wrD h)
 ·show upd a.H (a.m i) (.dK us') (a.m j)≠vG;by_cases hij:a.m j=a.m i
  ·rw[hij,Ei];simp
  ·rw[Al hij];exact s.tr j hj
end
section
variable{S:DSt}{G:DH}{n:Nat}{kvs:List (Key×D)}
@[simp]theorem ZVR:Qd (.ref n) G=(match G[n]? with |some (.dct kvs)=>vF kvs|_=>vG):=id rfl
theorem ZMc(h:G[n]?=vF (.dct kvs))(hk:Eg e=vF k):J8 (.ref n) e G=(match Gb kvs k with |some v=>.ok v G|none=>.bad):=by unfold J8;simp[h,hk]
end
section
def okD:Nat->D->Bool
 |0,_=>vI
 |_+1,.non=>vH
 |_+1,.int _=>vH
 |_+1,.str _=>vH
 |n+1,.tup ds=>ds.all (okD n)
 |n+1,.fl ds=>ds.all (okD n)
 |_+1,_=>vI
theorem ZAE{f:D->D->Option Bool}{P:D->Prop}(hf:∀x y,P x->P y->∃b,f x y=vF b/\(b=vH↔x=y)):∀{xs ys:List D},(∀x∈xs,P x)->(∀y∈ys,P y)->
  ∃b,eqZ f xs ys=vF b/\(b=vH↔xs.take ys.length=ys.take xs.length)
 |[],ys,_,_=>⟨vH,by cases ys<;>rfl,by simp⟩
 |x::xs,[],_,_=>⟨vH,rfl,by simp⟩
 |x::xs,y::ys,hx,hy=>by obtain⟨b,e1,h1⟩:=hf x y (hx x (by simp)) (hy y (by simp));obtain⟨c,e2,h2⟩:=ZAE hf (λz hz=>hx z (zZ _ hz)) (λz hz=>hy z (zZ _ hz));refine⟨b&&c,by simp[eqZ,e1,e2],?_⟩;simp[h1,h2]
theorem ZFz{G:DH}:∀(n:Nat)(d e:D),okD n d=vH->okD n e=vH->∃b,eqD n G d e=vF b/\(b=vH↔d=e)
 |0,d,e,h,_=>by cases h
 | n+1,d,e,h1,h2=>by
  have ih:=ZFz (G:=G) n;cases d with
  |bl _=>simp[okD]at h1
  |ty _=>simp[okD]at h1
  |ref _=>simp[okD]at h1
  | tup xs=>
   cases e with
   |bl _=>simp[okD]at h2
   |ty _=>simp[okD]at h2
   |ref _=>simp[okD]at h2
   |tup ys=>
    simp only[okD,q8]at h1 h2;obtain⟨b,e1,h3⟩:=ZAE ih (λx hx=>h1 x hx) (λx hx=>h2 x hx);refine⟨b&&xs.length==ys.length,by simp[eqD,view,e1],?_⟩;simp only[zE,h3,beq_iff_eq,D.tup.injEq];constructor
    ·rintro⟨e,hl⟩;rw[<-hl,xZ]at e;rw[e,hl,xZ]
    ·rintro rfl;exact⟨rfl,rfl⟩
   |_=>exact⟨vI,by simp[eqD,view],by simp⟩
  | fl xs=>
   cases e with
   |bl _=>simp[okD]at h2
   |ty _=>simp[okD]at h2
   |ref _=>simp[okD]at h2
   |fl ys=>
    simp only[okD,q8]at h1 h2;by_cases hl:xs.length=ys.length
    ·obtain⟨b,e1,h3⟩:=ZAE ih (λx hx=>h1 x hx) (λx hx=>h2 x hx);refine⟨b,by simp[eqD,view,hl,e1],?_⟩;rw[h3,<-hl,xZ,hl,xZ];simp
    ·exact⟨vI,by simp[eqD,view,hl],by simp;rintro rfl;exact hl rfl⟩
   |_=>exact⟨vI,by simp[eqD,view],by simp⟩
  |non=>cases e<;>first|(simp[okD]at h2;done)|exact⟨_,rfl,by simp[eqV]⟩
  |int i=>cases e<;>first|(simp[okD]at h2;done)|exact⟨_,rfl,by simp[eqV]⟩
  |str i=>cases e<;>first|(simp[okD]at h2;done)|exact⟨_,rfl,by simp[eqV]⟩
open Classical in
theorem ZS0(h1:okD 30 d=vH)(h2:okD 30 e=vH):Bl d e G=.ok (.bl (decide (d=e))) G:=by
 obtain⟨b,e1,h⟩:=ZFz (G:=G) 30 d e h1 h2;unfold Bl;rw[e1];cases b with
 |true=>simp[h.mp rfl]
 |false=>simp[show¬d=e from λz=>zy (h.mpr z)]
theorem ZPK(h1:okD 30 d=vH):Bl d d G=.ok (.bl vH) G:=by rw[ZS0 h1 h1];simp
end
def cutD{α:Type}(xs:List α)(lo hi:Option Int):List α:=(xs.drop (HT.sIx xs.length 0 lo)).take (HT.sIx xs.length xs.length hi-HT.sIx xs.length 0 lo)
def Qc(z:Str)(lo hi:Option Int):Str:=⟨(cutD z.cps.toList lo hi).toArray⟩
theorem ZN3(xs:List α)(lo hi:Option Int):(cutD xs lo hi).length<=xs.length:=by unfold cutD;rw[jF,jT];lia
def Jw(t:Option DE)(S:DSt)(G:DH):R (Option Int):=match t with
 |none=>.ok vG G
 |some t=>(t S G).bind λd G1=>match d with
  |.int i=>.ok (vF i) G1
  |_=>.bad
def Qg(d:D)(lo hi:Option Int)(G:DH):R D:=match d with
 |.str z=>if z.length<=1000000 then .ok (.str (Qc z lo hi)) G else .bad
 |.tup xs=>.ok (.tup (cutD xs lo hi)) G
 |d=>match Gs d G with
  |some xs=>.ok (.ref G.length) (G++[.lst (cutD xs lo hi)])
  |none=>.bad
def dSl(e:DE)(lo hi:Option DE):DE:=λS G=>(e S G).bind λd G1=>(Jw lo S G1).bind λl G2=>(Jw hi S G2).bind λh G3=>Qg d l h G3
theorem Pk(n:Nat)(v:Int):((HT.sIx n n (vF v):Nat):Int)=max 0 (min (if v<0 then v+(n:Int)else v) n)/\((HT.sIx n 0 (vF v):Nat):Int)=max 0 (min (if v<0 then v+(n:Int)else v) n):=by
 unfold HT.sIx;by_cases hv:v<0
 ·simp only[if_pos hv];lia
 ·simp only[if_neg hv];lia
theorem ZSw(xs:Array Nat)(i k:Nat):(zQ k).filterMap (λm=>xs[i+m]?)=(xs.toList.drop i).take k:=by
 induction k generalizing i with
 |zero=>simp
 | succ k ih=>
  rw[qS,qA];have e:(List.map Nat.succ (zQ k)).filterMap (λm=>xs[i+m]?)=(zQ k).filterMap (λm=>xs[i+1+m]?):=by
   rw[qw]
   congr 1
   funext m;simp only[Function.comp]
   congr 1
   lia
  rw[e,ih (i+1)];by_cases hi:i<xs.size
  ·have h1:xs[i+0]?=vF xs[i]:=by simp[hi]
   rw[h1];have h2:xs.toList.drop i=xs[i]::xs.toList.drop (i+1):=by rw[qZ (by simpa using hi)];simp
   rw[h2];simp
  ·have h1:xs[i+0]?=vG:=by simp;lia
   rw[h1];simp only;rw[qX (by simp;lia),qX (by simp;lia)];simp
theorem ZO5(x:Str)(lo hi:Option Int):Txt.slice x lo hi=Qc x lo hi:=by
 have hlen:x.length=x.cps.toList.length:=by simp[Str.length]
 have key:(Builtin.Str.strSliceIndices lo hi 1 x.length).filterMap (x.cps[·]?)=cutD x.cps.toList lo hi:=by
  have e1:∀(v:Option Int),(match v with |none=>(0:Int)|some i=>max 0 (min (if i<0 then i+(x.length:Int)else i) x.length))=((HT.sIx x.length 0 v:Nat):Int):=λv=>by
   cases v with
   |none=>rfl
   |some i=>exact(Pk x.length i).2.symm
  have e2:∀(v:Option Int),(match v with |none=>(x.length:Int)|some i=>max 0 (min (if i<0 then i+(x.length:Int)else i) x.length))=((HT.sIx x.length x.length v:Nat):Int):=λv=>by
   cases v with
   |none=>rfl
   |some i=>exact(Pk x.length i).1.symm
  have e3:Builtin.Str.strSliceIndices lo hi 1 x.length=sliceRange ((HT.sIx x.length 0 lo:Nat):Int) ((HT.sIx x.length x.length hi:Nat):Int) 1:=by
   rw[<-e1 lo,<-e2 hi];unfold Builtin.Str.strSliceIndices
   cases lo<;>cases hi<;>simp
  rw[e3];unfold sliceRange cutD;rw[qw,<-hlen];generalize HT.sIx x.length 0 lo=i;generalize HT.sIx x.length x.length hi=j;have e4:((λa=>x.cps[a]?) ∘ λ(k:Nat)=>((i:Int)+1*(k:Int)).toNat)=λk=>x.cps[i+k]? :=by
   funext k;simp only[Function.comp]
   congr 1
   lia
  have e5:(if(1:Int)>0 then if(i:Int)<(j:Int)then((j:Int)-i+1-1)/1 else 0 else if(i:Int)>(j:Int)then((i:Int)-j-1-1) / -1 else 0).toNat=j-i:=by
   rw[if_pos (by lia)];split
   ·rw[Int.ediv_one];lia
   ·lia
  rw[e4,e5];exact ZSw x.cps i (j-i)
 unfold Txt.slice Qc;split
 ·rename_i h;have h':(Builtin.Str.strSliceIndices lo hi 1 x.length).length=x.length:=by simpa using h
  have hsz:(cutD x.cps.toList lo hi).length=x.cps.toList.length∨(cutD x.cps.toList lo hi).length<x.cps.toList.length:=by have:=ZN3 x.cps.toList lo hi;lia
  have hall:(cutD x.cps.toList lo hi).length=x.cps.toList.length:=by
   have e3:(Builtin.Str.strSliceIndices lo hi 1 x.length).length=HT.sIx x.length x.length hi-HT.sIx x.length 0 lo:=by
    have e1:∀(v:Option Int),(match v with |none=>(0:Int)|some i=>max 0 (min (if i<0 then i+(x.length:Int)else i) x.length))=((HT.sIx x.length 0 v:Nat):Int):=λv=>by
     cases v with
     |none=>rfl
     |some i=>exact(Pk x.length i).2.symm
    have e2:∀(v:Option Int),(match v with |none=>(x.length:Int)|some i=>max 0 (min (if i<0 then i+(x.length:Int)else i) x.length))=((HT.sIx x.length x.length v:Nat):Int):=λv=>by
     cases v with
     |none=>rfl
     |some i=>exact(Pk x.length i).1.symm
    have e3:Builtin.Str.strSliceIndices lo hi 1 x.length=sliceRange ((HT.sIx x.length 0 lo:Nat):Int) ((HT.sIx x.length x.length hi:Nat):Int) 1:=by
     rw[<-e1 lo,<-e2 hi];unfold Builtin.Str.strSliceIndices
     cases lo<;>cases hi<;>simp
    rw[e3];unfold sliceRange;rw[qq,List.length_range];generalize HT.sIx x.length 0 lo=i;generalize HT.sIx x.length x.length hi=j;rw[if_pos (by lia)];split
    ·rw[Int.ediv_one];lia
    ·lia
   have hj:HT.sIx x.length x.length hi<=x.length:=HT.ZDJ _ _ (zK _) hi;unfold cutD;rw[jF,jT,<-hlen];lia
  have hs:(cutD x.cps.toList lo hi).Sublist x.cps.toList:=(List.take_sublist _ _).trans (List.drop_sublist _ _);rw[hs.eq_of_length hall]
 ·rw[key]
section
variable{X:Cx}{E:XK}
theorem ZU0:SlR X (λx lo hi H Q=>∃z:Str,x=.str z/\z.length<=sizeLine/\Q (.str (Qc z lo hi)) H):=by
 intro vE s σ H x v vl vu lo hi sl Q I rx hs pl pu h;obtain⟨z,rfl,hz,q⟩:=h;obtain⟨t,rfl⟩:=rx;refine⟨"str",_,PySem.F.slot_str_getitem.lookup,typeIs_str _ _ _,?_⟩
 have fin:∀(l u:Option (Int×Tok)),vl=partValue l->vu=partValue u->l.map (·.1)=lo->u.map (·.1)=hi->vq (vJ X.prog X.w) X.A (getItem (.str z t) (.ref sl)) (EP X vE σ Q) X.xe s:=by
  rintro l u rfl rfl rfl rfl
  refine wpAny_getItem_str_slice (l:=l) (u:=u) (st:=vG) (show s.heap.IsSlice sl l u vG from hs) rfl ?_
  have e:∀Q',(Txt.slice z (l.map (·.1)) (u.map (·.1))).length<=sizeLine/\(∀t' k,Q' (.str (Txt.slice z (l.map (·.1)) (u.map (·.1))) t') {s with toks:=k})->(sliceMade z t l u vG).post Q' s:=λQ' hq=>post_val_or_str hq
  refine e _ ⟨zC (Txt.slice_le z _ _) hz,λt' k=>?_⟩;rw[ZO5];exact⟨.str _,H,I.tok k,⟨t',rfl⟩,q⟩
 cases pl with
 |none=>cases pu with
  |none=>exact fin vG vG rfl rfl rfl rfl
  |int j tj=>exact fin vG (vF (j,tj)) rfl rfl rfl rfl
 |int i ti=>cases pu with
  |none=>exact fin (vF (i,ti)) vG rfl rfl rfl rfl
  |int j tj=>exact fin (vF (i,ti)) (vF (j,tj)) rfl rfl rfl rfl
theorem ZQ5{prog:xA}{w:xF}{A:xw}{E:xE->xC->Prop}{s:xC}{t sl:xj}{items:Array xE}{vl vu:xE}{lo:Option Int}{Q:xE->xC->Prop}(ht:IsTup s.heap t items)(hs:s.heap.IsSliceOf sl vl vu .none)(pl:IsPart vl lo)(pu:IsPart vu hi)
  (hw:HT.sIx items.size 0 lo=0/\HT.sIx items.size items.size hi=items.size) (h:Q (.ref t) s):vq (vJ prog w) A (getItem (.ref t) (.ref sl)) Q E s:=by
 obtain⟨os,hos,hcs,hds⟩:=id hs;have hTs:s.TypeIs (.ref sl) "slice":=⟨os,hos,hcs⟩;unfold getItem
 try with_reducible refine v4 ?_
 first|refine vj (v8 ?_)|skip
 refine vj (wpAny_sequenceKey ht.typeIs (by decide) ?_);refine vj (vx (name:=Str.ofString "__getitem__") ht.typeIs PyProof.Rows.slot_tuple_getitem
  (vv PyProof.Rows.slot_tuple_getitem ht.typeIs entry_tuple_getitem ?_ (args_tuple_getitem _ _)))
 show vq _ _ (Builtin.Tuple.tupleItemsOf (.ref t) >>=_) _ _ s;refine vj (tupleItemsOf_ ht ?_);refine vj (wpAny_typeOf hTs ?_);rw[if_pos (by decide)];refine vj (HT.ZEh hs pl pu ?_);have hyes:(((HT.sIx items.size 0 lo:Nat):Int)==0&&(1:Int)==1&&(HT.sIx items.size items.size hi-HT.sIx items.size 0 lo)==items.size)=vH:=by rw[hw.1,hw.2];simp
 show vq _ _ (if(((HT.sIx items.size 0 lo:Nat):Int)==0&&(1:Int)==1&&(HT.sIx items.size items.size hi-HT.sIx items.size 0 lo)==items.size)=vH then _ else _) _ _ s;rw[if_pos hyes];refine vj ?_;unfold Builtin.Tuple.tupleIsExact;refine vj (wpAny_typeOf ht.typeIs (v8 ?_));rw[if_pos (by decide)];exact vj (wpAny_rule (v8 ⟨_,rfl,v8 h⟩))
theorem ZQY:SlR X (λx lo hi H Q=>∃a xs,x=.ref a/\SqT X.K H a xs/\(HT.sIx xs.length 0 lo=0/\HT.sIx xs.length xs.length hi=xs.length)/\Q (.ref a) H):=by
 intro vE s σ H x v vl vu lo hi sl Q I rx hs pl pu h;obtain⟨a,xs,rfl,hx,hw,q⟩:=h;cases rx;obtain⟨its,r,ht,hz⟩:=I.tuple hx;have hlen:its.toArray.size=xs.length:=by rw[zY];exact r.length.symm
 exact⟨"tuple",_,PyProof.Rows.slot_tuple_getitem.lookup,ht.typeIs,ZQ5 ht hs pl pu (by rw[hlen];exact hw) ⟨.ref a,H,I,rfl,q⟩⟩
def Ng(E:XK)(a:Wd)(r:R (Option Int))(Q:Option Int->Hp->Prop):Prop:=match r with
 |.ok k G=>∀(b:Wd),Ext a b->Sim b G->Q k b.H
 |.err x G=>XOk E a x G
 |.bad=>False
def QO(X:Cx)(E:XK)(e:Option xk)(t:Option DE):Prop:=PO X e (λσ H Q=>∃(a:Wd)(S:DSt)(G:DH),a.K=X.K/\a.H=H/\Sim a G/\RepS a S σ/\Ng E a (Jw t S G) Q)
theorem _root_._L.PO.mono(h:PO X e t)(w:∀σ H Q,t' σ H Q->t σ H Q):PO X e t':=λvE s σ H Q I q=>h vE s σ H Q I (w σ H Q q)
theorem ZSr:QO X E vG vG:=ZTu.mono λσ H Q h=>by obtain⟨a,S,G,hk,rfl,s,r,h⟩:=h;exact h a (Ext.refl a) s
theorem ZRH(he:QE X E e t):QO X E (vF e) (vF t):=(ZOF he).mono λσ H Q h=>by
 obtain⟨a,S,G,hk,rfl,s,r,h⟩:=h;refine⟨a,S,G,hk,rfl,s,r,?_⟩
 have h':Ng E a ((t S G).bind λd G1=>match d with | .int i=>.ok (vF i) G1|_=>.bad) Q:=h
 cases ht:t S G with
 |ok d G1=>
  rw[ht]at h';intro b v x sb rv;cases d with
  |int i=>exact⟨i,rv,h' b x sb⟩
  |_=>exact h'.elim
 |err x G1=>rw[ht]at h';exact h'
 |bad=>rw[ht]at h';exact h'
theorem Reps.cutD(r:Reps a ds vs)(lo hi:Option Int):Reps a (_D.cutD ds lo hi) (Jr vs lo hi):=by unfold _D.cutD Jr;rw[r.length];exact(r.drop _).take _
theorem Ng.imp(h:Ng E a r Q)(w:∀v H,Q v H->Q' v H):Ng E a r Q':=by
 cases r with
 |ok d G=>exact λb x s=>w _ _ (h b x s)
 |err e G=>exact h
 |bad=>exact h
theorem ZJ2(h:out E a (r.bind f) Q):
  Ng E a r (λk H=>∃(b:Wd)(G:DH),b.H=H/\Ext a b/\Sim b G/\r=.ok k G/\out E b (f k G) Q):=by
 cases r with
 |ok d G=>exact λb x s=>⟨b,G,rfl,x,s,rfl,out.mono x h⟩
 |err e G=>exact h
 |bad=>exact h
theorem ZNx{e:xk}{lo hi:Option xk}{te:DE}{tl th:Option DE}{p2 pos:Pos}(he:QE X E e te)(hl:QO X E lo tl)(hu:QO X E hi th):QE X E (.Subscript e (.Slice lo hi vG p2) pos) (dSl te tl th):=
 (ZRy (ZRp.or (ZOm.or (ZQY.or ZU0))) he hl hu).mono λσ H Q h=>by
 obtain⟨a,S,G,hk,rfl,s,r,h⟩:=h;refine⟨a,S,G,hk,rfl,s,r,(Ej h).imp ?_⟩;rintro v _ ⟨b,d,G1,rfl,x,s1,q,_,h1⟩;refine⟨b,S,G1,x.k.trans hk,rfl,s1,r.mono x,(ZJ2 h1).imp ?_⟩;rintro l _ ⟨c,G2,rfl,y,s2,_,h2⟩;refine⟨c,S,G2,y.k.trans (x.k.trans hk),rfl,s2,(r.mono x).mono y,(ZJ2 h2).imp ?_⟩;rintro u _ ⟨c3,G3,rfl,y3,s3,_,h3⟩;have hk3:=y3.k.trans (y.k.trans (x.k.trans hk));have q3:=(q.mono y).mono y3
 have lst:out E c3 (match Gs d G3 with |some xs=>.ok (.ref G3.length) (G3++[.lst (cutD xs l u)])|none=>.bad) Q->rSlL X.K v l u c3.H Q:=λh3=>by
  split at h3
  ·rename_i xs hx;obtain⟨p,vs,e1,q1,r1⟩:=Ph s3 q3 hx;exact⟨p,vs,e1,by rw[<-hk3];exact q1,λp hp=>Jq s3 (Reps.cutD r1 l u) h3 p hp⟩
  ·exact h3.elim
 cases d with
 | str z=>
  have h4:out E c3 (if z.length<=1000000 then .ok (.str (Qc z l u)) G3 else .bad) Q:=h3;split at h4
  ·rename_i hl
   cases(show v=V.str z from q3)
   exact .inr (.inr (.inr ⟨z,rfl,zC hl size6,h4 c3 _ (Ext.refl _) s3 rfl⟩))
  ·exact h4.elim
 | tup xs=>
  have h4:out E c3 (.ok (.tup (cutD xs l u)) G3) Q:=h3;obtain⟨p,vs,e1,q1,r1⟩:=q3;by_cases hw:HT.sIx vs.length 0 l=0/\HT.sIx vs.length vs.length u=vs.length
  ·refine .inr (.inr (.inl ⟨p,vs,e1,by rw[<-hk3];exact q1,hw,h4 c3 _ (Ext.refl _) s3 ⟨p,vs,rfl,q1,?_⟩⟩));have:cutD xs l u=xs:=by unfold cutD;rw[r1.length,hw.1,hw.2,<-r1.length];simp
   rw[this];exact r1
  ·exact .inr (.inl ⟨p,vs,e1,by rw[<-hk3];exact q1,hw,λp hp=>W7 s3 (Reps.cutD r1 l u) h4 p hp⟩)
 |fl xs=>exact .inl (lst h3)
 |ref i=>exact .inl (lst h3)
 |non=>exact(show False from h3).elim
 |bl _=>exact(show False from h3).elim
 |int _=>exact(show False from h3).elim
 |ty _=>exact(show False from h3).elim
section
variable{name:Str}{id:String}{f:D->List D->DH->R D}{o e:xk}{es:List xk}{to:DE}{t:DA}{apos cpos:Pos}
end
end
section
variable{S:DSt}{G:DH}
@[simp]theorem ev_Sl{e:DE}{lo hi:Option DE}:dSl e lo hi S G=(e S G).bind λd G1=>(Jw lo S G1).bind λl G2=>(Jw hi S G2).bind λh G3=>Qg d l h G3:=id rfl
@[simp]theorem ZVJ:Jw vG S G=.ok vG G:=id rfl
@[simp]theorem ZV5:Jw (vF t) S G=(t S G).bind λd G1=>match d with | .int i=>.ok (vF i) G1|_=>.bad:=id rfl
@[simp]theorem ev_slT{xs:List D}{lo:Option Int}:Qg (.tup xs) lo hi G=.ok (.tup (cutD xs lo hi)) G:=id rfl
@[simp]theorem ev_slF{xs:List D}{lo:Option Int}:Qg (.fl xs) lo hi G=.ok (.ref G.length) (G++[.lst (cutD xs lo hi)]):=id rfl
@[simp]theorem ZVj:K6 [.fl xs] G=.ok (.ref G.length) (G++[.lst xs]):=id rfl
@[simp]theorem Nu:Ad (.str z) (.int i) G=if z.length<=1000000 then(match atI z.cps.toList i with |some c=>.ok (sgn c) G|none=>.bad)else .bad:=id rfl
end
end _D
namespace _D
open PySem PySem.Spec _L
open PyProof.Rows hiding St
open Builtin.Str
section
variable(p:Nat->Bool)(m:Nat)
end
def CStep(g:DG)(c:DB)(te:DE)(S:DSt)(G:DH)(x:D)(r:Option D):Prop:=
 ∃S1,g x S G=.ok S1 G/\((c S1 G=.ok vI G/\r=vG)∨(c S1 G=.ok vH G/\∃d,te S1 G=.ok d G/\r=vF d))
theorem Su:∀{xs:List D},(∀x∈xs,CStep g c te S G x (F x))->Ck g c te S xs G=.ok (xs.filterMap F) G
 |[],_=>rfl
 |x::xs,h=>by
  obtain⟨S1,h1,h2⟩:=h x (by simp);have ih:=Su (λy hy=>h y (zZ _ hy));rw[ZB1,h1];rcases h2 with⟨h2,h3⟩|⟨h2,d,h3,h4⟩
  ·simp[h2,h3,ih,qA]
  ·simp[h2,h3,h4,ih,qA]
theorem ZJQ(hG:G[i]?=vF (.lst xs))(h:∀x∈xs,CStep g c te S G x (F x)):
  ∀(n j:Nat),j+n=xs.length->Fy i g c te S n j G=.ok ((xs.drop j).filterMap F) G
 |0,j,hj=>by
  unfold Fy;rw[hG];simp only;rw[if_pos (by lia),qX (by lia)]
  rfl
 |n+1,j,hj=>by
  have hlt:j<xs.length:=by lia
  have ih:=ZJQ hG h n (j+1) (by lia);obtain⟨S1,h1,h2⟩:=h xs[j] (q9 hlt);unfold Fy;rw[hG];simp only;rw[zX hlt];simp only[h1,R.Hk];rw[qZ hlt,qA];rcases h2 with⟨h2,h3⟩|⟨h2,d,h3,h4⟩
  ·simp[h2,h3,ih]
  ·simp[h2,h3,h4,ih]
theorem ZFs(hG:G[i]?=vF (.lst xs))(h:∀x∈xs,CStep g c te S G x (F x)):
  Fy i g c te S xs.length 0 G=.ok (xs.filterMap F) G:=ZJQ hG h xs.length 0 (by lia)
theorem ZG9{x y:Str}(h:x.cps.toList=y.cps.toList):x=y:=by obtain⟨a⟩:=x;obtain⟨b⟩:=y;simp only at h;rw[Array.toList_inj.mp h]
end _D
namespace _D
open PySem PySem.Spec _L
open PyProof.Rows hiding St
variable{os:List xE}
inductive Src where
 |l (a:xj)
 |t (a:xj)
def Src.itn:Src->String
 |.l _=>"list_iterator"
 |.t _=>"tuple_iterator"
def Src.adr:Src->xj
 |.l a=>a
 |.t a=>a
def Src.it(h:Heap)(p:xj)(k:Nat)(sr:Src):Prop:=∃o,h.get? p=vF o/\o.cls=.type sr.itn/\o.data=.fields #[.ref sr.adr,.int k 0]
def Src.val(h:Heap)(xs:Array xE):Src->Prop
 |.l a=>h.IsList a xs
 |.t a=>h.IsTuple a xs
theorem Src.it.at{sr:Src}{h h':Heap}{p:xj}{k:Nat}(x:sr.it h p k)(e:∀o,h.get? p=vF o->h'.get? p=vF o):sr.it h' p k:=let⟨o,ho,r⟩:=x;⟨o,e o ho,r⟩
theorem Src.val.at{sr:Src}{h h':Heap}{xs:Array xE}(x:sr.val h xs)(e:∀o,h.get? sr.adr=vF o->h'.get? sr.adr=vF o):sr.val h' xs:=by
 cases sr with
 |l a=>obtain⟨o,ho,r⟩:=x;exact⟨o,e o ho,r⟩
 |t a=>obtain⟨o,ho,r⟩:=x;exact⟨o,e o ho,r⟩
theorem Src.it.lt{sr:Src}{h:Heap}{p:xj}{k:Nat}(x:sr.it h p k):p<h.objs.size:=let⟨_,ho,_⟩:=x;zw ho
section
variable{prog:xA}{w:xF}{A:xw}{E:xE->xC->Prop}{s:xC}
theorem Src.val.obj{sr:Src}{h:Heap}{xs:Array xE}(x:sr.val h xs):∃o n,h.get? sr.adr=vF o/\o.data=.seq xs n:=by
 cases sr with
 |l a=>obtain⟨o,ho,_,n,hd⟩:=x;exact⟨o,n,ho,hd⟩
 |t a=>obtain⟨o,ho,_,n,hd⟩:=x;exact⟨o,n,ho,hd⟩
theorem Src.next_item{sr:Src}{p:xj}{k:Nat}{xs:Array xE}{x:xE}{Q:xE->xC->Prop}(hit:sr.it s.heap p k)(hv:sr.val s.heap xs)(hx:xs[k]?=vF x)
  (hQ:∀h',sr.it h' p (k+1)->qC p s.heap h'->Q x {s with heap:=h'}):vq (vJ prog w) A (Builtin.SmallTypes.nextOf (.ref p)) Q E s:=by
 cases sr with
 |l a=>exact wpAny_nextOf_list_item (show s.heap.IsListIter p a k from hit) hv hx hQ
 |t a=>
  obtain⟨o,ho,hc,hd⟩:=id hit;obtain⟨ol,hol,_,nl,hdl⟩:=hv;have hT:s.TypeIs (.ref p) "tuple_iterator":=⟨o,ho,hc⟩;unfold Builtin.SmallTypes.nextOf;refine vj (vx (name:=Str.ofString "__next__") hT PySem.F.slot_tuple_iterator_next (vv PySem.F.slot_tuple_iterator_next hT PySem.F.entry_tuple_iterator_next ?_ (PySem.F.args_tuple_iterator_next_1 _)));refine vj (m:=field (.ref p) 0) (vk ho hd (x:=.ref a) rfl ?_)
  show vq _ _ (if(Value.ref a==Value.none)=vH then _ else(field (.ref p) 1 >>=_)) _ _ s
  rw[if_neg (show¬((Value.ref a==Value.none)=vH)from zy)]
  refine vj (m:=field (.ref p) 1) (vk ho hd (x:=.int k 0) rfl (vj (m:=seqItems? (.ref a)) (wpAny_seqItems hol hdl ?_)));simp only[Int.toNat_natCast,hx];refine vj (wpAny_setField ho hd (by simp) (v8 ⟨x,rfl,v8 (hQ _ ⟨_,jU _ ho (Obj.isFreed_of_fields (Obj.data_mapFields hd _)),(Obj.cls_mapFields ..).trans hc,?_⟩ (qC.update ..))⟩))
  rw[Obj.data_mapFields hd];simp[vX,Src.adr]
theorem Src.next_end{sr:Src}{p:xj}{k:Nat}{xs:Array xE}{Q:xE->xC->Prop}(hh:A.handled=vG)(hit:sr.it s.heap p k)(hv:sr.val s.heap xs)(hx:xs[k]?=vG)
  (hE:∀h' e,Heap.ExtBut p s.heap h'->(∃o,h'.get? e=vF o/\o.cls=.type "StopIteration")->E (.ref e) {s with heap:=h'}):vq (vJ prog w) A (Builtin.SmallTypes.nextOf (.ref p)) Q E s:=by
 cases sr with
 |l a=>exact wpAny_nextOf_list_end hh (show s.heap.IsListIter p a k from hit) hv hx hE
 |t a=>
  obtain⟨o,ho,hc,hd⟩:=id hit;obtain⟨ol,hol,_,nl,hdl⟩:=hv;have hT:s.TypeIs (.ref p) "tuple_iterator":=⟨o,ho,hc⟩;unfold Builtin.SmallTypes.nextOf;refine vj (vx (name:=Str.ofString "__next__") hT PySem.F.slot_tuple_iterator_next (vv PySem.F.slot_tuple_iterator_next hT PySem.F.entry_tuple_iterator_next ?_ (PySem.F.args_tuple_iterator_next_1 _)));refine vj (m:=field (.ref p) 0) (vk ho hd (x:=.ref a) rfl ?_)
  show vq _ _ (if(Value.ref a==Value.none)=vH then _ else(field (.ref p) 1 >>=_)) _ _ s
  rw[if_neg (show¬((Value.ref a==Value.none)=vH)from zy)]
  refine vj (m:=field (.ref p) 1) (vk ho hd (x:=.int k 0) rfl (vj (m:=seqItems? (.ref a)) (wpAny_seqItems hol hdl ?_)));simp only[Int.toNat_natCast,hx];refine vj (wpAny_rule (vj (wpAny_setField ho hd (by simp) (vj (m:=newExc (.type "StopIteration") []) ?_))));simp only[newExc,newTuple]
  refine vj (v6 (vj (m:=firstArgMember _ _) (wpAny_of_eq (a:=Value.none) (by first|rfl|(simp only[firstArgMember];rfl)) (v6 ?_ (by size_fits)))) (by size_fits))
  simp only[raiseNew];refine vj (wpAny_handled ?_)
  first|rw[show A.in1.handled=vG from hh]|rw[hh]
  exact vj (v8 (wpAny_throw (hE _ _ (((qC.update ..).extBut.push _).push _) ⟨_,zA _ rfl,rfl⟩)))
theorem Src.iter{sr:Src}{xs:Array xE}{Q:xE->xC->Prop}(hv:sr.val s.heap xs)
  (hQ:Q (.ref s.heap.objs.size) {s with heap:=s.heap.push {cls:=.type sr.itn,data:=.fields #[.ref sr.adr,.int 0 0]}}):vq (vJ prog w) A (pyIter (.ref sr.adr)) Q E s:=by
 cases sr with
 |l a=>exact wpAny_pyIter_list hv hQ
 |t a=>exact wpAny_pyIter_tuple hv hQ
end
abbrev En(h:Heap)(e it:xj)(f0:xE)(i:Int)(g old:xE):Prop:=
 h.get? e=vF {cls:=.type "enumerate",dict:=vG,data:=.fields #[f0,.bool vI,.ref it,vX i,g,old],slots:= #[]}
def Gv(i:Int)(g:xE):Prop:=g=.none∨∃t,g=.int i t
section
variable{prog:xA}{w:xF}{A:xw}{E:xE->xC->Prop}{s:xC}
theorem ZT2{sr:Src}{e it:xj}{k:Nat}{i:Int}{xs:Array xE}{x g old:xE}{Q:xE->xC->Prop}(he:En s.heap e it .none i g old)(hg:Gv i g)(hit:sr.it s.heap it k)(hv:sr.val s.heap xs)(hx:xs[k]?=vF x)(hne:e≠it)
  (hQ:∀h' t tk,En h' e it (vX s.heap.objs.size) (i+1) .none x->sr.it h' it (k+1)->h'.get? s.heap.objs.size=vF {cls:=.type "tuple",data:=.seq #[.int i t,x]}->h'.objs.size=s.heap.objs.size+1->
   (∀b o,b≠e->b≠it->s.heap.get? b=vF o->h'.get? b=vF o)->Q (.ref s.heap.objs.size) {s with heap:=h',toks:=tk}):
  vq (vJ prog w) A (Builtin.«enumerate.__next__» ⟨[.ref e],[]⟩) (λfin s'=>∃v,fin=.done (.ret v)/\Q v s') E s:=by
 obtain⟨hp,gg,d,tk,os⟩:=s;refine vj (m:=field (.ref e) 2) (vk he rfl (x:=.ref it) rfl (vj (m:=Builtin.SmallTypes.nextOf (.ref it)) (Src.next_item hit hv hx λh₁ hit₁ hs₁=>?_)));have he₁:En h₁ e it .none i g old:=(hs₁.2 e hne).trans he;have k₁:∀b o,b≠e->b≠it->hp.get? b=vF o->h₁.get? b=vF o:=λb o _ hb q=>hs₁.extBut b o hb q
 have z₁:h₁.objs.size=hp.objs.size:=hs₁.1;refine vj (m:=field (.ref e) 3) (vk he₁ rfl (x:=vX i) rfl ?_);refine vj (m:=field (.ref e) 4) (vk he₁ rfl (x:=g) rfl ?_)
 have rest:∀(t:Tok)(tk':Nat),vq (vJ prog w) A (do
   setField (.ref e) 3 (vX (i+1));setField (.ref e) 4 .none
   let result<-newTuple [.int i t,x]
   if<-Builtin.SmallTypes.ownedTupleIsFree (.ref e)then
    rule "enumerate.__next__.owned-tuple-again"
    let old<-field (.ref e) 5
    setField (.ref e) 5 x
    Builtin.SmallTypes.ownedTupleHandOut (.ref e) result
    PySem.letGo [old] [result]
   ret result) (λfin s'=>∃v,fin=.done (.ret v)/\Q v s') E ⟨h₁,gg,d,tk',os⟩:=by
  intro t tk';refine vj (v9 he₁ (by simp) λh₂ he₂ hs₂=>?_);refine vj (v9 he₂ (by simp) λh₃ he₃ hs₃=>?_)
  replace he₃:En h₃ e it .none (i+1) .none old:=he₃
  have z₃:h₃.objs.size=hp.objs.size:=by rw[hs₃.1];show h₂.objs.size=_;rw[hs₂.1];exact z₁
  have k₃:∀b o,b≠e->b≠it->hp.get? b=vF o->h₃.get? b=vF o:=λb o h1 h2 q=>hs₃.extBut b o h1 (hs₂.extBut b o h1 (k₁ b o h1 h2 q))
  have i₃:sr.it h₃ it (k+1):=(hit₁.at λo q=>hs₂.extBut it o (Ne.symm hne) q).at λo q=>hs₃.extBut it o (Ne.symm hne) q
  refine vj (wpAny_newTuple ?_);generalize hh₄:h₃.push {cls:=.type "tuple",data:=.seq [Value.int i t,x].toArray}=h₄;have he₄:En h₄ e it .none (i+1) .none old:=by rw[<-hh₄];exact zJ _ he₃
  have ht₄:h₄.get? hp.objs.size=vF {cls:=.type "tuple",data:=.seq #[.int i t,x]}:=by rw[<-hh₄,<-z₃];exact zA _ rfl
  have z₄:h₄.objs.size=hp.objs.size+1:=by rw[<-hh₄,qF,z₃]
  have k₄:∀b o,b≠e->b≠it->hp.get? b=vF o->h₄.get? b=vF o:=λb o h1 h2 q=>by rw[<-hh₄];exact zJ _ (k₃ b o h1 h2 q)
  have i₄:sr.it h₄ it (k+1):=i₃.at λo q=>by rw[<-hh₄];exact zJ _ q
  have ez:e<hp.objs.size:=zw he;refine vj (m:=Builtin.SmallTypes.ownedTupleIsFree (.ref e)) ?_;unfold Builtin.SmallTypes.ownedTupleIsFree;refine vj (vk he₄ rfl (x:=.none) rfl (v8 ?_));simp only[if_true];refine vj (wpAny_rule (vj (vk he₄ rfl (x:=old) rfl (vj (v9 he₄ (by simp) λh₅ he₅ hs₅=>?_)))))
  replace he₅:En h₅ e it .none (i+1) .none x:=he₅
  refine vj (m:=Builtin.SmallTypes.ownedTupleHandOut _ _) ?_;unfold Builtin.SmallTypes.ownedTupleHandOut;refine vj (v9 he₅ (by simp) λh₆ he₆ hs₆=>?_);refine v9 he₆ (by simp) λh₇ he₇ hs₇=>?_
  refine vj (wpAny_letGo (v8 ⟨_,rfl,?_⟩));have up:∀b o,b≠e->h₄.get? b=vF o->h₇.get? b=vF o:=λb o hb q=>hs₇.extBut b o hb (hs₆.extBut b o hb (hs₅.extBut b o hb q))
  show Q (.ref h₃.objs.size) _;rw[z₃];rw[z₃]at he₇;exact hQ h₇ t tk' he₇ (i₄.at λo q=>up it o (Ne.symm hne) q) (up _ _ (jy ez) ht₄) (by rw[hs₇.1];show h₆.objs.size=_;rw[hs₆.1];show h₅.objs.size=_;rw[hs₅.1];exact z₄) λb o h1 h2 q=>up b o h1 (k₄ b o h1 h2 q)
 rcases hg with rfl|⟨t,rfl⟩
 ·exact vj (m:=mkInt i) (wpAny_mkInt (rest tk (tk+1)))
 ·exact vj (m:=(pure (Value.int i t):Sem xE)) (v8 (rest t tk))
theorem ZOp{sr:Src}{e it:xj}{k:Nat}{i:Int}{xs:Array xE}{x g old:xE}{Q:Option xE->xC->Prop}(he:En s.heap e it .none i g old)(hg:Gv i g)(hit:sr.it s.heap it k)(hv:sr.val s.heap xs)(hx:xs[k]?=vF x)(hne:e≠it)
  (hQ:∀h' t tk,En h' e it (vX s.heap.objs.size) (i+1) .none x->sr.it h' it (k+1)->h'.get? s.heap.objs.size=vF {cls:=.type "tuple",data:=.seq #[.int i t,x]}->h'.objs.size=s.heap.objs.size+1->
   (∀b o,b≠e->b≠it->s.heap.get? b=vF o->h'.get? b=vF o)->Q (vF (.ref s.heap.objs.size)) {s with heap:=h',toks:=tk}):
  vq (vJ prog w) A (pyNext (.ref e)) Q E s:=by
 have hT:s.TypeIs (.ref e) "enumerate":=⟨_,he,rfl⟩;unfold pyNext;exact vj (wpAny_attempt (vx (name:=Str.ofString "__next__") hT PySem.F.slot_enumerate_next
  (vv PySem.F.slot_enumerate_next hT PySem.F.entry_enumerate_next (ZT2 he hg hit hv hx hne λh' t tk a1 a2 a3 a4 a5=>v8 (hQ h' t tk a1 a2 a3 a4 a5)) (PySem.F.args_enumerate_next_1 _))))
theorem ZL4{sr:Src}{e it:xj}{k:Nat}{i:Int}{xs:Array xE}{g old:xE}{Q:Option xE->xC->Prop}(hh:A.handled=vG)(he:En s.heap e it .none i g old)(hit:sr.it s.heap it k)(hv:sr.val s.heap xs)(hx:xs[k]?=vG)
  (hQ:∀h',Heap.ExtBut it s.heap h'->Q vG {s with heap:=h'}):vq (vJ prog w) A (pyNext (.ref e)) Q E s:=by
 have hT:s.TypeIs (.ref e) "enumerate":=⟨_,he,rfl⟩;unfold pyNext;refine vj (wpAny_attempt (vx (name:=Str.ofString "__next__") hT PySem.F.slot_enumerate_next
  (vv PySem.F.slot_enumerate_next hT PySem.F.entry_enumerate_next (vj (m:=field (.ref e) 2) (vk he rfl (x:=.ref it) rfl (vj (m:=Builtin.SmallTypes.nextOf (.ref it)) (Src.next_end hh hit hv hx λh' x he' hx'=>?_)))) (PySem.F.args_enumerate_next_1 _))))
 obtain⟨o,ho,hc⟩:=hx';exact vj (wpAny_isInstance (T:="StopIteration") (b:=vH) ⟨o,ho,hc⟩ isSubtype_stop (v8 (hQ _ he')))
theorem ZNb{elts:List xk}{x1}{pos:Pos}{e it a:xj}{i:Int}{g old:xE}{Q:Unit->xC->Prop}(he:En s.heap e it (vX a) i g old)
  (hQ:∀h',En h' e it .none i g old->qC e s.heap h'->Q () {s with heap:=h'}):vq (vJ prog w) A (vQ (.Tuple elts x1 pos) (.ref e) (.ref a)) Q E s:=by
 unfold vQ;refine vj (wpAny_load he ?_);dsimp only;rw[if_pos (by simp)];exact vj (wpAny_rule (v9 he (by simp) λh' he' hs'=>hQ h' he' hs'))
theorem W0(he:En s.heap e it f0 i g old)(h:Q (.ref e) s):vq (vJ prog w) A (pyIter (.ref e)) Q E s:=by have hT:s.TypeIs (.ref e) "enumerate":=⟨_,he,rfl⟩;exact wpAny_pyIter_slot hT PySem.F.slot_enumerate_iter (vv PySem.F.slot_enumerate_iter hT PySem.F.entry_enumerate_iter (v8 ⟨_,rfl,"enumerate",_,hT,PySem.F.slot_enumerate_next.lookup,h⟩) (PySem.F.args_enumerate_iter_1 _))
end
abbrev Tp(h:Heap)(T:xj)(xs:List xE):Prop:=h.get? T=vF {cls:=.type "tuple",data:=.seq xs.toArray}
inductive Drw (h:Heap) (i:Nat):List (Src×xj)->List xE->Prop where
 |nil:Drw h i [] []
 |cons {sr p r x us xs} (hit:Src.it h p i sr) (hv:sr.val h xs) (hx:xs[i]?=vF x) (t:Drw h i r us):Drw h i ((sr,p)::r) (x::us)
theorem Drw.length(d:Drw h i l us):us.length=l.length:=by
 induction d with
 |nil=>rfl
 |cons _ _ _ _ ih=>simp[ih]
section
variable{prog:xA}{w:xF}{A:xw}{E:xE->xC->Prop}{s:xC}
theorem ZUW(hT:Tp s.heap T xs)(hz:xs.length<=1000000)
  (h:∀h',Tp h' T (xs.set k x)->qC T s.heap h'->Q () {s with heap:=h'}):vq (vJ prog w) A (updateSeq T (·.setIfInBounds k x)) Q E s:=by
 have h1:xs.toArray.size<=sizeLine:=by rw[zY];exact zC hz size6
 refine wpAny_updateSeq hT rfl (h _ ?_ (qC.update ..)) h1 (by rw[Array.size_setIfInBounds];exact Nat.le_succ_of_le h1);show(s.heap.update T _).get? T=_;rw[jU _ hT rfl];simp[Obj.mapSeq]
def ZS(prog:xA)(w:xF)(A:xw)(E:xE->xC->Prop)(z TO p:xj)(k:Nat)(R:xC->Prop)(s:xC):Prop:=
 vq (vJ prog w) A (Builtin.SmallTypes.nextOf (.ref p)) (λx s1=>∃os,Tp s1.heap TO os/\os.length<=1000000/\∀h',Tp h' TO (os.set k x)->qC TO s1.heap h'->R {s1 with heap:=h'})
  (λe s'=>vq (vJ prog w) A (setField (.ref z) 0 .none) (λ_ s''=>E e s'') E s') s
theorem ZHC{z TO p:xj}{k i:Nat}{sr:Src}{xs:Array xE}{x:xE}{Q:xC->Prop}(hTO:Tp s.heap TO os)(hz:os.length<=1000000)(hit:sr.it s.heap p i)(hv:sr.val s.heap xs)(hx:xs[i]?=vF x)
  (h:∀h',Tp h' TO (os.set k x)->sr.it h' p (i+1)->(∀b o,b≠TO->b≠p->s.heap.get? b=vF o->h'.get? b=vF o)->h'.objs.size=s.heap.objs.size->Q {s with heap:=h'}):ZS prog w A E z TO p k Q s:=by
 have hne:TO≠p:=λe=>by
  obtain⟨o,ho,hc,_⟩:=hit;rw[<-e,hTO]at ho;cases ho
  cases sr<;>(simp[Src.itn]at hc)
 refine Src.next_item hit hv hx λh₁ it₁ sb₁=>⟨os,sb₁.extBut _ _ hne hTO,hz,λh₂ t₂ sb₂=>?_⟩
 exact h h₂ t₂ (it₁.at λo e=>sb₂.extBut _ _ (Ne.symm hne) e) (λb o b1 b2 e=>sb₂.extBut b o b1 (sb₁.extBut b o b2 e)) (by rw[sb₂.1];show h₁.objs.size=_;rw[sb₁.1])
theorem ZHF{z TO:xj}{i:Nat}{body:xE×Nat->Option Fin×PUnit->Sem (ForInStep (Option Fin×PUnit))}{R:Option Fin×PUnit->xC->Prop}
  (hb:∀(p:xj)(k:Nat)(s:xC)(R':ForInStep (Option Fin×PUnit)->xC->Prop),ZS prog w A E z TO p k (λs'=>R' (.yield (vG,⟨⟩)) s') s->
   vq (vJ prog w) A (body (.ref p,k) (vG,⟨⟩)) R' E s):
  ∀(l:List (Src×xj))(us pre post:List xE)(s:xC),Drw s.heap i l us->Tp s.heap TO (pre++post)->post.length=l.length->(pre++post).length<=1000000->(l.map (·.2)).Nodup->(∀q∈l,q.1.adr≠TO)->(∀q∈l,∀r∈l,q.1.adr≠r.2)->
   (∀h',Tp h' TO (pre++us)->(∀q∈l,q.1.it h' q.2 (i+1))->(∀b o,b≠TO->b∉l.map (·.2)->s.heap.get? b=vF o->h'.get? b=vF o)->h'.objs.size=s.heap.objs.size->R (vG,⟨⟩) {s with heap:=h'})->
   vq (vJ prog w) A (forIn ((l.map λq=>Value.ref q.2).zipIdx pre.length) (vG,⟨⟩) body) R E s
 | [],us,pre,post,s,d,hT,hl,hz,nd,na,np,hR=>by
  cases d;cases post with
  |cons _ _=>simp at hl
  |nil=>
   rw[jN,List.zipIdx_nil,List.forIn_nil];exact v8 (hR s.heap hT (λq hq=>by cases hq) (λb o _ _ e=>e) rfl)
 | (sr,p)::l,us,pre,post,s,d,hT,hl,hz,nd,na,np,hR=>by
  cases d with
  |@cons _ _ _ x us xs hit hv hx d=>
  cases post with
  |nil=>simp at hl
  | cons y post=>
   rw[zk,xJ,xY];refine vj (hb p pre.length s _ (ZHC hT hz hit hv hx λh' hT' it' kp sz=>?_));have e1:(pre++y::post).set pre.length x=(pre++[x])++post:=by simp
   rw[e1]at hT';have e2:pre.length+1=(pre++[x]).length:=by simp
   dsimp only;rw[e2]
   have nd':p∉l.map (·.2)/\(l.map (·.2)).Nodup:=by simpa using nd
   have hTOp:∀q∈l,q.2≠TO:=λq hq e=>by
    have:∃sr k,Src.it s.heap q.2 k sr:=by
     clear hR na np nd nd' e1 e2 hl hT' hz
     induction d with
     |nil=>cases hq
     |cons hit _ _ _ ih=>
      rcases zq.mp hq with rfl|hq
      ·exact⟨_,_,hit⟩
      ·exact ih hq
    obtain⟨sr',k,o,ho,hc,_⟩:=this;rw[e,hT]at ho;cases ho
    cases sr'<;>(simp[Src.itn]at hc)
   have d':Drw h' i l us:=by
    have na':∀q∈l,q.1.adr≠TO:=λq hq=>na q (zZ _ hq)
    have np':∀q∈l,q.1.adr≠p:=λq hq=>np q (zZ _ hq) (sr,p) zW
    have pp:∀q∈l,q.2≠p:=λq hq e=>nd'.1 (zO.mpr ⟨q,hq,e⟩)
    clear hR na np nd nd' e1 e2 hl hT' hz
    induction d with
    |nil=>exact .nil
    |@cons sr1 p1 r1 x1 us1 xs1 hit1 hv1 hx1 t1 ih=>
     refine .cons (hit1.at λo e=>kp _ o (hTOp _ zW) (pp _ zW) e) (hv1.at λo e=>kp _ o (na' _ zW) (np' _ zW) e) hx1 ?_;exact ih (λq hq=>hTOp q (zZ _ hq)) (λq hq=>na' q (zZ _ hq)) (λq hq=>np' q (zZ _ hq)) (λq hq=>pp q (zZ _ hq))
   refine ZHF hb l us (pre++[x]) post {s with heap:=h'} d' hT' (by simpa using hl) (by simpa using hz) nd'.2 (λq hq=>na q (zZ _ hq)) (λq hq r hr=>np q (zZ _ hq) r (zZ _ hr)) λh'' t'' its'' kp'' sz''=>?_
   have hpTO:p≠TO:=λe=>by
    obtain⟨o,ho,hc,_⟩:=hit;rw[e,hT]at ho;cases ho
    cases sr<;>(simp[Src.itn]at hc)
   refine hR h'' (by simpa using t'') (λq hq=>?_) (λb o b1 b2 e=>?_) (sz''.trans sz)
   ·rcases zq.mp hq with rfl|hq
    ·exact it'.at λo e=>kp'' _ o hpTO nd'.1 e
    ·exact its'' q hq
   ·simp only[zk,zq,not_or]at b2;exact kp'' b o b1 b2.2 (kp b o b1 b2.1 e)
end
inductive DrwE (h:Heap) (i:Nat):List (Src×xj)->Prop where
 |here {sr p r xs} (hit:Src.it h p i sr) (hv:sr.val h xs) (hx:xs[i]?=vG):DrwE h i ((sr,p)::r)
 |there {sr p r x xs} (hit:Src.it h p i sr) (hv:sr.val h xs) (hx:xs[i]?=vF x) (t:DrwE h i r):DrwE h i ((sr,p)::r)
structure ApZ (TO:xj) (l:List (Src×xj)):Prop where
 nd:(l.map (·.2)).Nodup
 na:∀q∈l,q.1.adr≠TO
 np:∀q∈l,∀r∈l,q.1.adr≠r.2
 to:∀q∈l,q.2≠TO
theorem ApZ.tail{TO:xj}{q:Src×xj}{l:List (Src×xj)}(a:ApZ TO (q::l)):ApZ TO l:=
 ⟨(qL.mp (by simpa using a.nd)).2,λq hq=>a.na q (zZ _ hq),λq hq r hr=>a.np q (zZ _ hq) r (zZ _ hr),λq hq=>a.to q (zZ _ hq)⟩
section
variable{prog:xA}{w:xF}{A:xw}{E:xE->xC->Prop}{s:xC}
theorem DrwE.at{TO p:xj}{sr:Src}{i:Nat}{h h':Heap}{l:List (Src×xj)}(a:ApZ TO ((sr,p)::l))(kp:∀b o,b≠TO->b≠p->h.get? b=vF o->h'.get? b=vF o)(d:DrwE h i l):DrwE h' i l:=by
 have pp:∀q∈l,q.2≠p:=λq hq e=>(qL.mp (by simpa using a.nd)).1 (zO.mpr ⟨q,hq,e⟩)
 have np:∀q∈l,q.1.adr≠p:=λq hq=>a.np q (zZ _ hq) (sr,p) zW
 have a':=a.tail;clear a
 induction d with
 |here hit hv hx=>exact .here (hit.at λo e=>kp _ o (a'.to _ zW) (pp _ zW) e) (hv.at λo e=>kp _ o (a'.na _ zW) (np _ zW) e) hx
 | there hit hv hx t ih=>
  exact .there (hit.at λo e=>kp _ o (a'.to _ zW) (pp _ zW) e) (hv.at λo e=>kp _ o (a'.na _ zW) (np _ zW) e) hx
   (ih (λq hq=>pp q (zZ _ hq)) (λq hq=>np q (zZ _ hq)) a'.tail)
theorem ZJW{z TO:xj}{i:Nat}{body:xE×Nat->Option Fin×PUnit->Sem (ForInStep (Option Fin×PUnit))}{R:Option Fin×PUnit->xC->Prop}(hh:A.handled=vG)
  (hb:∀(p:xj)(k:Nat)(s:xC)(R':ForInStep (Option Fin×PUnit)->xC->Prop),ZS prog w A E z TO p k (λs'=>R' (.yield (vG,⟨⟩)) s') s->
   vq (vJ prog w) A (body (.ref p,k) (vG,⟨⟩)) R' E s):
  ∀(l:List (Src×xj))(os:List xE)(n:Nat)(s:xC),DrwE s.heap i l->Tp s.heap TO os->os.length<=1000000->ApZ TO l->
   (∀h' e,(∀b o,b≠TO->b∉l.map (·.2)->s.heap.get? b=vF o->h'.get? b=vF o)->(∃o,h'.get? e=vF o/\o.cls=.type "StopIteration")->vq (vJ prog w) A (setField (.ref z) 0 .none) (λ_ s''=>E (.ref e) s'') E {s with heap:=h'})->
   vq (vJ prog w) A (forIn ((l.map λq=>Value.ref q.2).zipIdx n) (vG,⟨⟩) body) R E s
 |[],os,n,s,d,hT,hz,a,hE=>by cases d
 | (sr,p)::l,os,n,s,d,hT,hz,a,hE=>by
  rw[zk,xJ,xY];refine vj (hb p n s _ ?_);cases d with
  |here hit hv hx=>
   exact Src.next_end hh hit hv hx λh' e xb st=>hE h' e (λb o b1 b2 q=>xb b o (λz=>b2 (by rw[z];simp)) q) st
  |there hit hv hx t=>
   refine ZHC hT hz hit hv hx λh' hT' it' kp sz=>?_
   refine ZJW hh hb l _ (n+1) {s with heap:=h'} (t.at a kp) hT' (by simpa using hz) a.tail λh'' e kp'' st=>?_
   refine hE h'' e (λb o b1 b2 q=>?_) st;simp only[zk,zq,not_or]at b2;exact kp'' b o b1 b2.2 (kp b o b1 b2.1 q)
theorem ZHw{z TI TO:xj}{l:List (Src×xj)}{R:Fin->xC->Prop}(hz:IsZip s.heap z TI TO .none)(hTI:Tp s.heap TI (l.map λq=>Value.ref q.2))(hne:l≠[])
  (h:∀h₁,IsZip h₁ z TI TO .ellipsis->qC z s.heap h₁->∀body:xE×Nat->Option Fin×PUnit->Sem (ForInStep (Option Fin×PUnit)),
   (∀(p:xj)(k:Nat)(s:xC)(R':ForInStep (Option Fin×PUnit)->xC->Prop),ZS prog w A E z TO p k (λs'=>R' (.yield (vG,⟨⟩)) s') s->
    vq (vJ prog w) A (body (.ref p,k) (vG,⟨⟩)) R' E s)->
   vq (vJ prog w) A (forIn ((l.map λq=>Value.ref q.2).zipIdx 0) (vG,⟨⟩) body) (λr s'=>r.1=vG/\∃us,Tp s'.heap TO us/\us.length<=1000000/\IsZip s'.heap z TI TO .ellipsis/\
    ∀h',IsZip h' z TI TO (vX s'.heap.objs.size)->Tp h' s'.heap.objs.size us->h'.objs.size=s'.heap.objs.size+1->(∀b o,b≠z->s'.heap.get? b=vF o->h'.get? b=vF o)->R (.done (.ret (.ref s'.heap.objs.size))) {s' with heap:=h'}) E {s with heap:=h₁}):
  vq (vJ prog w) A (Builtin.«zip.__next__» ⟨[.ref z],[]⟩) R E s:=by
 refine vj (m:=field (.ref z) 2) (vk hz rfl (x:=.bool vI) rfl (vj (m:=field (.ref z) 3) (vk hz rfl (x:=.ref TI) rfl (vj (m:=seqItems? (.ref TI)) (wpAny_seqItems hTI rfl ?_)))));dsimp only;have hemp:(l.map λq=>Value.ref q.2).toArray.isEmpty=vI:=by cases l with
  |nil=>exact absurd rfl hne
  |cons _ _=>simp
 rw[hemp];refine vj (m:=Builtin.SmallTypes.ownedTupleIsFree (.ref z)) ?_;unfold Builtin.SmallTypes.ownedTupleIsFree;refine vj (vk hz rfl (x:=.none) rfl (v8 ?_));simp only[if_true];refine vj (wpAny_rule (vj (vk hz rfl (x:=.ref TO) rfl (vj (v9 hz (by simp) λh₁ hz₁ hs₁=>?_)))));refine vj (v5 (h h₁ hz₁ hs₁ _ λp k s R' hst=>?_) (λr s' hr=>?_) λ_ _ x=>x)
 ·refine vj (wpAny_onRaise ?_);show vq _ _ (Builtin.SmallTypes.nextOf (.ref p) >>=λv=>pure (vF v)) _ _ s;refine vj (v5 hst (λx s1 hx=>v8 ?_) λ_ _ x=>x);obtain⟨os,hT,hl,hR⟩:=hx;dsimp only;refine vj (wpAny_seqItems hT rfl ?_);dsimp only;exact vj (ZUW hT hl λh' t' sb=>vj (wpAny_letGo (v8 (hR h' t' sb))))
 ·obtain⟨hn,us,hT,hl,hzz,hR⟩:=hr;rw[hn];dsimp only;refine vj (wpAny_seqItems hT rfl ?_);dsimp only;refine vj (wpAny_newTuple ?_ (by show us.toArray.toList.length<=_;simpa using zC hl size6));have hzlt:z<s'.heap.objs.size:=zw hzz;refine vj (m:=Builtin.SmallTypes.ownedTupleHandOut _ _) ?_;unfold Builtin.SmallTypes.ownedTupleHandOut;have e1:us.toArray.toList.toArray=us.toArray:=by simp
  rw[e1];have hz2:IsZip (s'.heap.push {cls:=.type "tuple",data:=.seq us.toArray}) z TI TO .ellipsis:=zJ _ hzz;refine vj (v9 hz2 (by simp) λh₇ hz₇ hs₇=>?_);refine v9 hz₇ (by simp) λh₈ hz₈ hs₈=>?_
  refine v8 (hR h₈ hz₈ ?_ ?_ λb o hb q=>hs₈.extBut _ _ hb (hs₇.extBut _ _ hb (zJ _ q)))
  ·exact hs₈.extBut _ _ (jy hzlt) (hs₇.extBut _ _ (jy hzlt) (zA _ rfl))
  ·rw[hs₈.1];show h₇.objs.size=_;rw[hs₇.1,qF]
theorem ZSZ{z TI TO:xj}{i:Nat}{l:List (Src×xj)}{us:List xE}{Q:Option xE->xC->Prop}(hz:IsZip s.heap z TI TO .none)(hTI:Tp s.heap TI (l.map λq=>Value.ref q.2))(hTO:Tp s.heap TO os)(hlen:os.length=l.length)(hsz:l.length<=1000000)(hne:l≠[])
  (a:ApZ TO l) (zz:z≠TO/\(∀q∈l,q.2≠z/\q.1.adr≠z)) (d:Drw s.heap i l us)
  (hQ:∀h',IsZip h' z TI TO (vX s.heap.objs.size)->Tp h' TO us->(∀q∈l,q.1.it h' q.2 (i+1))->Tp h' s.heap.objs.size us->h'.objs.size=s.heap.objs.size+1->
   (∀b o,b≠z->b≠TO->b∉l.map (·.2)->s.heap.get? b=vF o->h'.get? b=vF o)->Q (vF (.ref s.heap.objs.size)) {s with heap:=h'}):vq (vJ prog w) A (pyNext (.ref z)) Q E s:=by
 have hT:s.TypeIs (.ref z) "zip":=⟨_,hz,rfl⟩;unfold pyNext;refine vj (wpAny_attempt (vx (name:=Str.ofString "__next__") hT PySem.F.slot_zip_next (vv PySem.F.slot_zip_next hT PySem.F.entry_zip_next ?_ (PySem.F.args_zip_next_1 _))));refine ZHw hz hTI hne λh₁ hz₁ hs₁ body hb=>?_
 have k₁:∀b o,b≠z->s.heap.get? b=vF o->h₁.get? b=vF o:=λb o hb q=>hs₁.extBut b o hb q
 have d₁:Drw h₁ i l us:=by
  have h1:∀q∈l,q.2≠z/\q.1.adr≠z:=zz.2;clear hTI hlen hsz hne a zz hQ
  induction d with
  |nil=>exact .nil
  |cons hit hv hx t ih=>exact .cons (hit.at λo e=>k₁ _ o (h1 _ zW).1 e) (hv.at λo e=>k₁ _ o (h1 _ zW).2 e) hx (ih λq hq=>h1 q (zZ _ hq))
 refine ZHF (z:=z) (TO:=TO) (i:=i) hb l us [] os {s with heap:=h₁} d₁ (k₁ _ _ (Ne.symm zz.1) hTO) hlen (by simpa[hlen]using hsz) a.nd a.na a.np λh₂ t₂ it₂ k₂ sz₂=>⟨rfl,us,t₂,by rw[d.length];exact hsz,?_,λh₃ z₃ p₃ s₃ k₃=>?_⟩
 ·refine k₂ _ _ zz.1 (λhm=>?_) hz₁;obtain⟨q,hq,e⟩:=zO.mp hm;exact(zz.2 q hq).1 e
 ·have e2:h₂.objs.size=s.heap.objs.size:=by rw[sz₂];exact hs₁.1
  refine⟨_,rfl,v8 ?_⟩;show Q (vF (.ref h₂.objs.size)) _;have z₃':IsZip h₃ z TI TO (vX h₂.objs.size):=z₃;have p₃':Tp h₃ h₂.objs.size us:=p₃;have s₃':h₃.objs.size=h₂.objs.size+1:=s₃;have k₃':∀b o,b≠z->h₂.get? b=vF o->h₃.get? b=vF o:=k₃;rw[e2]at z₃' p₃' s₃'⊢;exact hQ h₃ z₃' (k₃' _ _ (Ne.symm zz.1) t₂) (λq hq=>(it₂ q hq).at λo e=>k₃' _ o (zz.2 q hq).1 e) p₃' s₃' λb o b1 b2 b3 q=>k₃' b o b1 (k₂ b o b2 b3 (k₁ b o b1 q))
theorem ZNU{z TI TO:xj}{i:Nat}{l:List (Src×xj)}{Q:Option xE->xC->Prop}(hh:A.handled=vG)(hz:IsZip s.heap z TI TO .none)(hTI:Tp s.heap TI (l.map λq=>Value.ref q.2))(hTO:Tp s.heap TO os)(hlen:os.length=l.length)(hsz:l.length<=1000000)(hne:l≠[])
  (a:ApZ TO l) (zz:z≠TO/\(∀q∈l,q.2≠z/\q.1.adr≠z)) (d:DrwE s.heap i l)
  (hQ:∀h',(∀b o,b≠z->b≠TO->b∉l.map (·.2)->s.heap.get? b=vF o->h'.get? b=vF o)->Q vG {s with heap:=h'}):vq (vJ prog w) A (pyNext (.ref z)) Q E s:=by
 have hT:s.TypeIs (.ref z) "zip":=⟨_,hz,rfl⟩;unfold pyNext;refine vj (wpAny_attempt (vx (name:=Str.ofString "__next__") hT PySem.F.slot_zip_next (vv PySem.F.slot_zip_next hT PySem.F.entry_zip_next ?_ (PySem.F.args_zip_next_1 _))));refine ZHw hz hTI hne λh₁ hz₁ hs₁ body hb=>?_
 have k₁:∀b o,b≠z->s.heap.get? b=vF o->h₁.get? b=vF o:=λb o hb q=>hs₁.extBut b o hb q
 have d₁:DrwE h₁ i l:=by
  have h1:∀q∈l,q.2≠z/\q.1.adr≠z:=zz.2;clear hTI hlen hsz hne a zz hQ
  induction d with
  |here hit hv hx=>exact .here (hit.at λo e=>k₁ _ o (h1 _ zW).1 e) (hv.at λo e=>k₁ _ o (h1 _ zW).2 e) hx
  |there hit hv hx t ih=>exact .there (hit.at λo e=>k₁ _ o (h1 _ zW).1 e) (hv.at λo e=>k₁ _ o (h1 _ zW).2 e) hx (ih λq hq=>h1 q (zZ _ hq))
 refine ZJW (A:=A.in1) (z:=z) (TO:=TO) (i:=i) (show A.in1.handled=vG from hh) hb l os 0 {s with heap:=h₁} d₁ (k₁ _ _ (Ne.symm zz.1) hTO) (by rw[hlen];exact hsz) a λh₂ e k₂ st=>?_
 have hz₂:IsZip h₂ z TI TO .ellipsis:=by refine k₂ _ _ zz.1 (λhm=>?_) hz₁;obtain⟨q,hq,e⟩:=zO.mp hm;exact(zz.2 q hq).1 e
 obtain⟨o,ho,hc⟩:=st;have hez:e≠z:=λx=>by subst x;rw[hz₂]at ho;cases ho;simp at hc
 refine v9 hz₂ (by simp) λh₃ _ hs₃=>?_
 refine vj (wpAny_isInstance (T:="StopIteration") (b:=vH) ⟨o,hs₃.extBut _ _ hez ho,hc⟩ isSubtype_stop (v8 ?_));exact hQ h₃ λb o b1 b2 b3 q=>hs₃.extBut _ _ b1 (k₂ b o b2 b3 (k₁ b o b1 q))
theorem ZDN:∀(ls:List Src)(pre:Array xE)(s:xC){Q:Array xE->xC->Prop},(∀sr∈ls,∃xs,sr.val s.heap xs)->
  (∀h',(∀q∈ls.zipIdx s.heap.objs.size,q.1.it h' q.2 0)->h'.objs.size=s.heap.objs.size+ls.length->(∀b o,s.heap.get? b=vF o->h'.get? b=vF o)->Q (pre++((ls.zipIdx s.heap.objs.size).map λq=>Value.ref q.2).toArray) {s with heap:=h'})->
  vq (vJ prog w) A (forIn (ls.map λsr=>Value.ref sr.adr) pre λx r=>do let v<-holding r.toList (pyIter x);pure (ForInStep.yield (r.push v))) Q E s
 |[],pre,s,Q,hv,h=>by rw[jN,List.forIn_nil];refine v8 ?_;have:=h s.heap (λq hq=>by cases hq) rfl (λ_ _ e=>e);simpa using this
 | sr::ls,pre,s,Q,hv,h=>by
  rw[zk,xY];obtain⟨xs,hx⟩:=hv sr zW;refine vj (vj (v4 (Src.iter hx (v8 ?_))));dsimp only;have z1:(s.heap.push {cls:=.type sr.itn,data:=.fields #[.ref sr.adr,.int 0 0]}).objs.size=s.heap.objs.size+1:=qF ..;refine ZDN ls (pre.push (.ref s.heap.objs.size)) {s with heap:=s.heap.push {cls:=.type sr.itn,data:=.fields #[.ref sr.adr,.int 0 0]}} (λsr' hm=>?_) λh' hi hz kp=>?_
  ·obtain⟨ys,hy⟩:=hv sr' (zZ _ hm);exact⟨ys,hy.at λo e=>zJ _ e⟩
  ·dsimp only at hi hz kp⊢;rw[z1]at hi hz⊢;have:=h h' (λq hq=>?_) (by rw[hz,qQ];lia) (λb o e=>kp b o (zJ _ e))
   ·rw[xJ,zk]at this;simpa using this
   ·rw[xJ]at hq;rcases zq.mp hq with rfl|hq
    ·exact⟨_,kp _ _ (zA _ rfl),rfl,rfl⟩
    ·exact hi q hq
theorem ZT7{ls:List Src}{Q:xE->xC->Prop}(hv:∀sr∈ls,∃xs,sr.val s.heap xs)(hl:ls.length<=1000000)
  (hct:checkTypeCall "zip" ⟨ls.map λsr=>Value.ref sr.adr,[]⟩=pure ()) (hcn:xP "zip.__new__" ⟨.type "zip"::ls.map λsr=>Value.ref sr.adr,[]⟩=pure ()) (hok:∀obj,argsOk "object.__init__" ⟨obj::ls.map λsr=>Value.ref sr.adr,[]⟩)
  (h:∀h' n,n=s.heap.objs.size+ls.length->IsZip h' (n+2) n (n+1) .none->Tp h' n ((ls.zipIdx s.heap.objs.size).map λq=>Value.ref q.2)->Tp h' (n+1) (ls.map λ_=>Value.none)->(∀q∈ls.zipIdx s.heap.objs.size,q.1.it h' q.2 0)->
   (∀b o,s.heap.get? b=vF o->h'.get? b=vF o)->Q (.ref (n+2)) {s with heap:=h'}):
  vq (vJ prog w) A (call (.type "zip") (ls.map λsr=>Value.ref sr.adr)) Q E s:=by
 have g:Meets (Builtin.«zip.__new__» ⟨.type "zip"::ls.map λsr=>Value.ref sr.adr,[]⟩) (λ_ R s=>(∀sr∈ls,∃xs,sr.val s.heap xs)/\
   ∀h' n,n=s.heap.objs.size+ls.length->IsZip h' (n+2) n (n+1) .none->Tp h' n ((ls.zipIdx s.heap.objs.size).map λq=>Value.ref q.2)->Tp h' (n+1) (ls.map λ_=>Value.none)->(∀q∈ls.zipIdx s.heap.objs.size,q.1.it h' q.2 0)->
    (∀b o,s.heap.get? b=vF o->h'.get? b=vF o)->R (.ok (.ret (.ref (n+2)))) {s with heap:=h'}):=
  .of_wp λprog w A R s hh=>by
   obtain⟨hv,hR⟩:=hh;have hsub:=sub_zip;unfold Builtin.«zip.__new__» Builtin.SmallTypes.newClass
   wp_walk
   refine ZDN ls #[] s hv λh1 hi hz kp=>v8 ?_
   have e1:(#[]++((ls.zipIdx s.heap.objs.size).map λq=>Value.ref q.2).toArray:Array xE).toList=(ls.zipIdx s.heap.objs.size).map λq=>Value.ref q.2:=by simp
   rw[e1];have hlen:((ls.zipIdx s.heap.objs.size).map λq=>Value.ref q.2).length=ls.length:=by simp
   refine vj (wpAny_newTuple ?_ (by rw[hlen];exact zC hl size6));refine vj (wpAny_newTuple ?_ (by rw[qq,hlen];exact zC hl size6));refine vj ?_;unfold Builtin.SmallTypes.newRecord;dsimp only;refine v6 (v8 ⟨_,rfl,?_⟩) (by simp[sizeOk,Builtin.SmallTypes.ownedTupleFields,vV]);generalize e2:s.heap.objs.size+ls.length=n at*
   have e3:((ls.zipIdx s.heap.objs.size).map λq=>Value.ref q.2).map (λ_=>Value.none)=ls.map λ_=>Value.none:=by refine qN (by simp) λi h1 h2=>by simp
   dsimp only;rw[e3];generalize((ls.zipIdx s.heap.objs.size).map λq=>Value.ref q.2)=us at*;generalize(ls.map λ_=>Value.none)=ns at*;have s1:(h1.push {cls:=.type "tuple",data:=.seq us.toArray}).objs.size=n+1:=by rw[qF,hz]
   have s2:((h1.push {cls:=.type "tuple",data:=.seq us.toArray}).push {cls:=.type "tuple",data:=.seq ns.toArray}).objs.size=n+2:=by rw[qF,s1]
   show R (.ok (.ret (.ref ((h1.push {cls:=.type "tuple",data:=.seq us.toArray}).push {cls:=.type "tuple",data:=.seq ns.toArray}).objs.size))) _;rw[s2];refine hR _ n rfl ?_ (zJ _ (zJ _ (by rw[<-hz];exact zA _ rfl))) (zJ _ (by rw[<-s1];exact zA _ rfl)) (λq hq=>(hi q hq).at λo e=>zJ _ (zJ _ (zJ _ e))) λb o e=>zJ _ (zJ _ (zJ _ (kp b o e)))
   have:=zA ((h1.push {cls:=.type "tuple",data:=.seq us.toArray}).push {cls:=.type "tuple",data:=.seq ns.toArray}) (o:={cls:=.type "zip",data:=.fields #[.none,.bool vI,.bool vI,.ref h1.objs.size,.ref (h1.push {cls:=.type "tuple",data:=.seq us.toArray}).objs.size]}) rfl;rw[s2]at this;rw[hz,s1]at this;show _=_;rw[hz,s1];exact this
 refine callType_new PySem.F.called_zip (by decide) hct hcn hok PySem.F.entry_zip_new g ⟨hv,λh' n hn hz hTI hTO hi kp=>⟨⟨_,hz,rfl⟩,h h' n hn hz hTI hTO hi kp⟩⟩
end
end _D
namespace _D
open PySem PySem.W PyProof.Rows
section
def Br(lt:Nat->Nat->Bool){α:Type}:KasT α->α
 |.ret a=>a
 |.ask i j k=>Br lt (k (lt i j))
theorem Nj(lt:Nat->Nat->Bool){α β:Type}(f:α->KasT β):∀t:KasT α,Br lt (t.bind f)=Br lt (f (Br lt t))
 |.ret _=>rfl
 |.ask i j k=>Nj lt f (k (lt i j))
structure WO (lt:Nat->Nat->Bool):Prop where
 asy:∀i j,lt i j=vH->lt j i=vI
 neg:∀i j k,lt i k=vH->lt i j=vH∨lt j k=vH
variable{lt:Nat->Nat->Bool}
theorem WO.refl(o:WO lt)(i:Nat):lt i i=vI:=by
 cases h:lt i i
 ·rfl
 ·have:=o.asy i i h;rw[h]at this;exact this
theorem WO.tr(o:WO lt)(h1:lt j i=vI)(h2:lt k j=vI):lt k i=vI:=by
 cases h:lt k i
 ·rfl
 ·rcases o.neg k j i h with z|z
  ·rw[z]at h2;cases h2
  ·rw[z]at h1;cases h1
abbrev pt(p:Array Nat)(j:Nat):Nat:=p.getD j 0
theorem Mx(p:Array Nat)(j:Nat):pt p j=(p[j]?).getD 0:=by simp[pt]
def Srt(lt:Nat->Nat->Bool)(p:Array Nat)(k:Nat):Prop:=∀i j,i<=j->j<k->lt (pt p j) (pt p i)=vI
def NIn(lt:Nat->Nat->Bool)(p:Array Nat)(k:Nat):Prop:=∀i j,i<=j->j<k->lt (pt p i) (pt p j)=vI
theorem Hv(hj:j<=p.size)(k:Nat):pt (vD p i j) k=if i<=k/\k<j then pt p (i+j-1-k)else pt p k:=by
 rw[Mx,vD,getElem?_mirror_all hj]
 split <;> exact(Mx ..).symm
theorem ZOG(hs:src<p.size)(hd:d<=src)(k:Nat):pt (bubble p src d) k=if k=src-d then pt p src else if src-d<k/\k<=src then pt p (k-1)else pt p k:=by
 rw[Mx,getElem?_bubble hs d hd];by_cases h1:k=src-d
 ·rw[if_pos h1,if_pos h1];exact(Mx ..).symm
 ·rw[if_neg h1,if_neg h1];by_cases h2:src-d<k/\k<=src
  ·rw[if_pos h2,if_pos h2];exact(Mx ..).symm
  ·rw[if_neg h2,if_neg h2];exact(Mx ..).symm
theorem ZBh(o:WO lt)(p:Array Nat):∀f n,1<=n->Srt lt p n->∀m,Br lt (kas_asc p f n)=m->n<=m/\m<=n+f/\Srt lt p m/\(m<n+f->lt (pt p m) (pt p (m-1))=vH)
 |0,n,h1,h,m,e=>by have e':n=m:=e;subst e';exact⟨zK _,zK _,h,λz=>absurd z (qK _)⟩
 | f + 1,n,h1,h,m,e=>by
  unfold kas_asc at e;have e1:Br lt (if lt (pt p n) (pt p (n-1))=vH then KasT.ret n else kas_asc p f (n+1))=m:=e;cases hc:lt (pt p n) (pt p (n-1))with
  |true=>
   rw[hc,if_pos rfl]at e1;have e':n=m:=e1;subst e';exact⟨zK _,by lia,h,λ_=>hc⟩
  | false=>
   rw[hc,if_neg (by simp)]at e1;have h':Srt lt p (n+1):=λi j hij hj=>by
    by_cases e:j<n
    ·exact h i j hij e
    ·have e':j=n:=by lia
     subst e';by_cases e2:i=j
     ·rw[e2];exact o.refl _
     ·exact o.tr (h i (j-1) (by lia) (by lia)) hc
   obtain⟨a,b,c,d⟩:=ZBh o p f (n+1) (by lia) h' m e1;exact⟨by lia,by lia,c,λz=>d (by lia)⟩
structure Dn (lt:Nat->Nat->Bool) (p:Array Nat) (n q:Nat):Prop where
 ni:NIn lt p n
 al:∀i j,n-(q+1)<=i->i<n->n-(q+1)<=j->j<n->lt (pt p i) (pt p j)=vI
 qn:q+1<=n
theorem NIn.rev(d:Dn lt p n q)(hn:n<=p.size):NIn lt (vD p (n-(q+1)) n) n:=λi j hij hj=>by
 have:=d.qn;rw[Hv hn,Hv hn];by_cases h1:n-(q+1)<=i
 ·rw[if_pos ⟨h1,by lia⟩,if_pos ⟨by lia,hj⟩];exact d.al _ _ (by lia) (by lia) (by lia) (by lia)
 ·rw[if_neg (by lia)];by_cases h2:n-(q+1)<=j
  ·rw[if_pos ⟨h2,hj⟩];exact d.ni _ _ (by lia) (by lia)
  ·rw[if_neg (by lia)];exact d.ni i j hij hj
theorem Tj(o:WO lt):∀f(p:Array Nat)n q,n+f<=p.size->Dn lt p n q->∀r,Br lt (kas_desc f p n q)=r->r.1.Perm p/\r.2.1<=n+f/\n<=r.2.1/\Dn lt r.1 r.2.1 r.2.2
 |0,p,n,q,hz,d,r,e=>by have e':(p,n,q)=r:=e;subst e';exact⟨.refl _,zK _,zK _,d⟩
 | f + 1,p,n,q,hz,d,r,e=>by
  have qn:=d.qn;unfold kas_desc at e;have e1:Br lt (if lt (pt p n) (pt p (n-1))=vH then(if q>0 then kas_desc f (vD p (n-(q+1)) n) (n+1) 0 else kas_desc f p (n+1) 0)
   else .ask (p.getD (n-1) 0) (p.getD n 0) λd=>if d=vH then .ret (p,n,q)else kas_desc f p (n+1) (q+1))=r:=e
  clear e;cases hc:lt (pt p n) (pt p (n-1))with
  | true=>
   rw [hc,if_pos rfl]at e1;have ext:∀p':Array Nat,NIn lt p' n->pt p' n=pt p n->(∀k,k<n->lt (pt p n) (pt p' k)=vH∨k<n)->lt (pt p' (n-1)) (pt p' n)=vI->Dn lt p' (n+1) 0:=λp' hni _ _ hl=>by
    refine⟨λi j hij hj=>?_,λi j h1 h2 h3 h4=>?_,by lia⟩
    ·by_cases e:j<n
     ·exact hni i j hij e
     ·have e':j=n:=by lia
      subst e';by_cases e2:i=j
      ·rw[e2];exact o.refl _
      ·exact o.tr hl (hni i (j-1) (by lia) (by lia))
    ·have e1:i=n:=by lia
     have e2:j=n:=by lia
     rw[e1,e2];exact o.refl _
   by_cases hq:q>0
   ·rw[if_pos hq]at e1;have hl:lt (pt (vD p (n-(q+1)) n) (n-1)) (pt (vD p (n-(q+1)) n) n)=vI:=by
     rw[Hv (by lia),Hv (by lia),if_pos (by lia),if_neg (by lia)];cases hx:lt (pt p (n-(q+1)+n-1-(n-1))) (pt p n)
     ·rfl
     ·rcases o.neg _ (pt p (n-1)) _ hx with z|z
      ·rw[d.al _ _ (by lia) (by lia) (by lia) (by lia)]at z;cases z
      ·rw[o.asy _ _ hc]at z;cases z
    obtain⟨a,b,c,dd⟩:=Tj o f _ (n+1) 0 (by rw[vD,mirror_size];lia) (ext _ (NIn.rev d (by lia)) (by rw[Hv (by lia),if_neg (by lia)]) (λk hk=>.inr hk) hl) r e1;exact⟨a.trans (mirror_perm ..),by lia,by lia,dd⟩
   ·rw[if_neg hq]at e1;obtain⟨a,b,c,dd⟩:=Tj o f p (n+1) 0 (by lia) (ext p d.ni rfl (λk hk=>.inr hk) (o.asy _ _ hc)) r e1;exact⟨a,by lia,by lia,dd⟩
  | false=>
   rw[hc,if_neg (by simp)]at e1;have e2:Br lt (if lt (pt p (n-1)) (pt p n)=vH then .ret (p,n,q)else kas_desc f p (n+1) (q+1))=r:=e1;cases hd:lt (pt p (n-1)) (pt p n)with
   |true=>
    rw[hd,if_pos rfl]at e2;have e3:(p,n,q)=r:=e2;subst e3;exact⟨.refl _,by show n<=_;lia,zK _,d⟩
   | false=>
    rw[hd,if_neg (by simp)]at e2;have al':∀i,n-(q+1)<=i->i<n+1->lt (pt p i) (pt p n)=vI/\lt (pt p n) (pt p i)=vI:=λi h1 h2=>by
     by_cases e:i=n
     ·rw[e];exact⟨o.refl _,o.refl _⟩
     ·exact⟨o.tr hd (d.al i (n-1) h1 (by lia) (by lia) (by lia)),o.tr (d.al (n-1) i (by lia) (by lia) h1 (by lia)) hc⟩
    obtain⟨a,b,c,dd⟩:=Tj o f p (n+1) (q+1) (by lia) ⟨λi j hij hj=>by
     by_cases e:j<n
     ·exact d.ni i j hij e
     ·have e':j=n:=by lia
      subst e';by_cases e2:i=j
      ·rw[e2];exact o.refl _
      ·exact o.tr hd (d.ni i (j-1) (by lia) (by lia)),λi j h1 h2 h3 h4=>by
     by_cases ei:i=n
     ·rw[ei];exact(al' j (by lia) h4).2
     ·by_cases ej:j=n
      ·rw[ej];exact(al' i (by lia) h2).1
      ·exact d.al i j (by lia) (by lia) (by lia) (by lia),by lia⟩ r e2
    exact⟨a,by lia,by lia,dd⟩
theorem ZFt(o:WO lt)(h1:1<=n)(hn:n<=nrem)(hz:nrem<=p.size)(d:NIn lt p n):∀r,Br lt (kas_tail3 n nrem p)=r->r.2.Perm p/\r.1<=nrem/\1<=r.1/\Srt lt r.2 r.1:=by
 intro r e;unfold kas_tail3 at e;rw[Nj]at e;have s0:Srt lt (vD p 0 n) n:=λi j hij hj=>by rw[Hv (by lia),Hv (by lia),if_pos (by lia),if_pos (by lia)];exact d _ _ (by lia) (by lia)
 obtain⟨a,b,c,_⟩:=ZBh o (vD p 0 n) (nrem-n) n h1 s0 _ rfl;have e':(Br lt (kas_asc (vD p 0 n) (nrem-n) n),vD p 0 n)=r:=e;subst e';exact⟨mirror_perm ..,by show Br lt (kas_asc (vD p 0 n) (nrem-n) n)<=nrem;lia,by show 1<=Br lt (kas_asc (vD p 0 n) (nrem-n) n);lia,c⟩
theorem ZFx(o:WO lt)(h1:1<=n)(hn:n<nrem)(hz:nrem<=p.size)(al:∀i j,i<n->j<n->lt (pt p i) (pt p j)=vI)(hl:lt (pt p n) (pt p (n-1))=vH):
  ∀r,Br lt (kas_descPart n nrem p)=r->r.2.Perm p/\r.1<=nrem/\1<=r.1/\Srt lt r.2 r.1:=by
 intro r e;unfold kas_descPart at e;rw[Nj]at e;have d0:Dn lt p (n+1) 0:=⟨λi j hij hj=>by
  by_cases e:j<n
  ·exact al i j (by lia) e
  ·have e':j=n:=by lia
   subst e';by_cases e2:i=j
   ·rw[e2];exact o.refl _
   ·exact o.tr (o.asy _ _ hl) (al i (j-1) (by lia) (by lia)),λi j _ _ _ _=>by
  have e1:i=n:=by lia
  have e2:j=n:=by lia
  rw[e1,e2];exact o.refl _,by lia⟩
 obtain⟨a,b,c,dd⟩:=Tj o (nrem-(n+1)) p (n+1) 0 (by lia) d0 _ rfl
 revert a b c dd e
 generalize Br lt (kas_desc (nrem-(n+1)) p (n+1) 0)=x;intro e a b c dd;have hx:x.1.size=p.size:=a.size_eq;split at e
 ·obtain⟨a',b',c',d'⟩:=ZFt o (by lia) (by lia) (by rw[vD,mirror_size];lia) (NIn.rev dd (by lia)) r e;exact⟨(a'.trans (mirror_perm ..)).trans a,b',c',d'⟩
 ·obtain⟨a',b',c',d'⟩:=ZFt o (by lia) (by lia) (by lia) dd.ni r e;exact⟨a'.trans a,b',c',d'⟩
theorem ZQP(o:WO lt)(h1:1<=nrem)(hz:nrem<=p.size):∀r,Br lt (kas_count nrem p)=r->r.2.Perm p/\r.1<=nrem/\1<=r.1/\Srt lt r.2 r.1:=by
 intro r e;unfold kas_count at e;rw[Nj]at e;obtain⟨a,b,c,d⟩:=ZBh o p (nrem-1) 1 (zK _) (λi j hij hj=>by
  have e1:i=0:=by lia
  have e2:j=0:=by lia
  rw[e1,e2];exact o.refl _) _ rfl
 revert a b c d e
 generalize Br lt (kas_asc p (nrem-1) 1)=n;intro e a b c d;split at e
 ·have e':(n,p)=r:=e;subst e';exact⟨.refl _,by show n<=nrem;lia,a,c⟩
 ·rename_i hne;have hn:n<nrem:=by
   have:n≠nrem:=by simpa using hne
   lia
  have hl:=d (by lia);split at e
  ·rename_i hgt;have e':Br lt (if lt (pt p 0) (pt p (n-1))=vH then .ret (n,p)else kas_descPart n nrem (vD p 0 n))=r:=e;cases hc:lt (pt p 0) (pt p (n-1))with
   |true=>
    rw[hc,if_pos rfl]at e';have e2:(n,p)=r:=e';subst e2;exact⟨.refl _,by show n<=nrem;lia,a,c⟩
   | false=>
    rw[hc,if_neg (by simp)]at e';have al:∀i j,i<n->j<n->lt (pt p i) (pt p j)=vI:=λi j hi hj=>o.tr (c j (n-1) (by lia) (by lia) |> λz=>z) (o.tr hc (c 0 i (by lia) hi) |> λz=>by exact z)
    obtain⟨a',b',c',d'⟩:=ZFx o (p:=vD p 0 n) a hn (by rw[vD,mirror_size];lia) (λi j hi hj=>by
     rw[Hv (by lia),Hv (by lia),if_pos (by lia),if_pos (by lia)];exact al _ _ (by lia) (by lia)) (by
     rw[Hv (by lia),Hv (by lia),if_neg (by lia),if_pos (by lia)];rcases o.neg _ (pt p (0+n-1-(n-1))) _ hl with z|z
     ·exact z
     ·rw[al _ _ (by lia) (by lia)]at z;cases z) r e'
    exact⟨a'.trans (mirror_perm ..),b',c',d'⟩
  ·have e1:n=1:=by lia
   subst e1;exact ZFx o (zK _) hn hz (λi j hi hj=>by
    have e1:i=0:=by lia
    have e2:j=0:=by lia
    rw[e1,e2];exact o.refl _) hl r e
theorem ZCB(o:WO lt)(p:Array Nat)(k:Nat)(hs:Srt lt p k):∀f l r,r-l<=f->l<=r->r<=k->(∀i,i<l->lt (pt p k) (pt p i)=vI)->(∀i,r<=i->i<k->lt (pt p k) (pt p i)=vH)->
  ∀m,Br lt (kas_place p k f l r)=m->m<=k/\(∀i,i<m->lt (pt p k) (pt p i)=vI)/\(∀i,m<=i->i<k->lt (pt p k) (pt p i)=vH)
 |0,l,r,hf,hlr,hr,h1,h2,m,e=>by have e':l=m:=e;subst e';exact⟨by lia,h1,λi hi hk=>h2 i (by lia) hk⟩
 | f+1,l,r,hf,hlr,hr,h1,h2,m,e=>by
  unfold kas_place at e;split at e
  ·have e':l=m:=e;subst e';exact⟨by lia,h1,λi hi hk=>h2 i (by lia) hk⟩
  ·rename_i hlt;have e':Br lt (if lt (pt p k) (pt p ((l+r)/2))=vH then kas_place p k f l ((l+r)/2)else kas_place p k f ((l+r)/2+1) r)=m:=e;cases hc:lt (pt p k) (pt p ((l+r)/2))with
   |true=>
    rw[hc,if_pos rfl]at e';refine ZCB o p k hs f l ((l+r)/2) (by lia) (by lia) (by lia) h1 (λi hi hk=>?_) m e';rcases o.neg _ (pt p i) _ hc with z|z
    ·exact z
    ·rw[hs _ i hi hk]at z;cases z
   |false=>
    rw[hc,if_neg (by simp)]at e';exact ZCB o p k hs f ((l+r)/2+1) r (by lia) (by lia) hr (λi hi=>o.tr (hs i ((l+r)/2) (by lia) (by lia)) hc) h2 m e'
theorem ZHc(o:WO lt):∀f(p:Array Nat)k,k+f=p.size->Srt lt p k->(Br lt (kas_bin f p k)).Perm p/\Srt lt (Br lt (kas_bin f p k)) p.size
 |0,p,k,hz,hs=>⟨.refl _,by
  have:k=p.size:=by lia
  rw[<-this];exact hs⟩
 | f + 1,p,k,hz,hs=>by
  unfold kas_bin;rw[Nj];obtain⟨hm,h1,h2⟩:=ZCB o p k hs k 0 k (by lia) (by lia) (zK _) (λi hi=>by lia) (λi hi hk=>by lia) _ rfl
  revert hm h1 h2
  generalize Br lt (kas_place p k k 0 k)=m;intro hm h1 h2;have sz:(bubble p k (k-m)).size=p.size:=bubble_size ..;have hk:k<p.size:=by lia
  have e:∀j,pt (bubble p k (k-m)) j=if j=m then pt p k else if m<j/\j<=k then pt p (j-1)else pt p j:=λj=>by
   rw[ZOG hk (by lia)];have:k-(k-m)=m:=by lia
   rw[this]
  obtain⟨a,b⟩:=ZHc o f (bubble p k (k-m)) (k+1) (by lia) (λi j hij hj=>by
   rw[e i,e j];by_cases ji:j=m
   ·rw[if_pos ji];by_cases ii:i=m
    ·rw[if_pos ii];exact o.refl _
    ·rw[if_neg ii,if_neg (by lia)];exact h1 i (by lia)
   ·rw[if_neg ji];by_cases jm:m<j
    ·rw[if_pos ⟨jm,by lia⟩];by_cases ii:i=m
     ·rw[if_pos ii];exact o.asy _ _ (h2 _ (by lia) (by lia))
     ·rw[if_neg ii];by_cases im:m<i
      ·rw[if_pos ⟨im,by lia⟩];exact hs _ _ (by lia) (by lia)
      ·rw[if_neg (by lia)];exact hs _ _ (by lia) (by lia)
    ·rw[if_neg (by lia),if_neg (by lia),if_neg (by lia)];exact hs i j hij (by lia))
  rw[sz]at b;exact⟨a.trans (bubble_perm ..),b⟩
theorem ZGD(o:WO lt)(hn:1<=n):(Br lt (kas_sort n)).toList.Perm (zQ n)/\Srt lt (Br lt (kas_sort n)) n:=by
 unfold kas_sort;rw[Nj];obtain⟨a,b,c,d⟩:=ZQP o (p:=(zQ n).toArray) (nrem:=n) hn (by simp) _ rfl
 revert a b c d
 generalize Br lt (kas_count n (zQ n).toArray)=x;intro a b c d;have hx:x.2.size=n:=by rw[a.size_eq];simp
 split
 ·have e:max x.1 1=x.1:=by lia
  rw[e];obtain⟨a',b'⟩:=ZHc o (n-x.1) x.2 x.1 (by lia) d;rw[hx]at b';exact⟨by simpa using(a'.trans a).toList,b'⟩
 ·have e:x.1=n:=by lia
  rw[e]at d;exact⟨by simpa[Br]using a.toList,d⟩
end
end _D
namespace _D
open PySem PySem.Spec _L
open PyProof.Rows hiding St
variable{vE:List (xj×Obj)}{elts:List xk}
section
variable{X:Cx}{vE:List (xj×Obj)}{σ:St}{H:Hp}{s:xC}{h':Heap}
theorem Xi{t':Nat}{fp:List xj}(I:Inv X vE σ H s)(k:∀b o,b∉fp->s.heap.get? b=vF o->h'.get? b=vF o)(hf:∀b∈fp,FpOk X vE H b):Inv X vE σ H {s with heap:=h',toks:=t'}:=by
 have nit:∀b u,H b=vF u->b∉fp:=λb u e z=>by rw[(hf b z).1]at e;cases e
 refine I.step (g':=s.gens) (d':=s.drawn) (ch:=fp) (λb hb=>?_) (λb o _ _ hc e _=>k b o hc e) (λb o _ _ hc e _=>⟨o.slots,k b o hc e⟩) (λ_ _ _ _ n=>n)
  (λb o hc e=>⟨o,k b o hc e⟩) (λ_ _ e=>e) (λ_ _ _ e=>e) (λb ps e=>⟨#[],by rw[e];simp⟩) (λm hm=>?_) (λb u e=>?_) I.bare
 ·obtain⟨f0,f1,f2,f3,f4,f5⟩:=hf b hb;exact⟨f3,f1,f4,f5⟩
 ·obtain⟨o,es,ep,ho,r⟩:=hm;exact⟨o,es,ep,k _ o (λz=>(hf _ z).2.1 rfl) ho,r⟩
 ·refine(I.hok b u e).stay (λc v hc q=>k c v ?_ q) (λ_ q=>q) λ_ _ q=>q
  rcases hc with z|z
  ·rw[z];exact nit b u e
  ·exact nit c _ z
theorem ZG8{t':Nat}{fp:List xj}{p:xj}{xs:List V}{its:List xE}(I:Inv X vE σ H s)(k:∀b o,b∉fp->s.heap.get? b=vF o->h'.get? b=vF o)(hf:∀b∈fp,FpOk X vE H b)(hp:s.heap.objs.size<=p)
  (hz:xs.length<=sizeLine) (r:Vals xs its) (ht:Tp h' p its):Inv X vE σ (upd H p (.tup xs)) {s with heap:=h',toks:=t'}:=by
 obtain⟨g0,g1,g2,g3,g4,g5⟩:=I.Ii (H':=H) hp (I.hok.fresh hp);exact ZBM (Xi I k hf) g0 (zC I.sz hp) g1 g4 g5 ⟨hz,its,r,_,ht,rfl,_,rfl⟩
end
def Src.sq(K:PySem.W.Frag)(H:Hp)(xs:List V):Src->Prop
 |.l a=>SqL K H a xs
 |.t a=>SqT K H a xs
variable{ls:List Src}
theorem Src.sq.val{X:Cx}{σ:St}{H:Hp}{s:xC}{sr:Src}{xs:List V}(I:Inv X vE σ H s)(h:sr.sq X.K H xs):∃its:List xE,Vals xs its/\sr.val s.heap its.toArray/\xs.length<=sizeLine:=by
 cases sr with
 |l a=>obtain⟨its,r,p,hz⟩:=I.list h;exact⟨its,r,p.isList,hz⟩
 |t a=>obtain⟨its,r,p,hz⟩:=I.tuple h;exact⟨its,r,p,hz⟩
theorem Src.sq.inj{X:Cx}{σ:St}{H:Hp}{s:xC}{sr:Src}{xs ys:List V}(I:Inv X vE σ H s)(h:sr.sq X.K H xs)(h':sr.sq X.K H ys):xs=ys:=by
 cases sr with
 |l a=>exact I.Xc h h'
 |t a=>exact I.ZAR h h'
def Ite(K:PySem.W.Frag)(sr:Src)(n:Int):It:=
 ⟨λi H=>∃xs x,sr.sq K H xs/\xs[i]?=vF x,λi H v H'=>∃p x,v=.ref p/\H p=vG/\H'=upd H p (.tup [.int (n+i),x])/\∀xs,sr.sq K H xs->xs[i]?=vF x,λi H=>∃xs,sr.sq K H xs/\xs.length<=i⟩
theorem ZF2{P:xA}{w:xF}{K:PySem.W.Frag}{x1}{pos:Pos}(sr:Src)(n:Int)(e it:xj)(hne:e≠it):
  Turn P w K (.Tuple elts x1 pos) (Ite K sr n) [e,it] e (λi h=>∃g old,En h e it .none (n+i) g old/\Gv (n+i) g/\sr.it h it i) where
 mem:=by simp
 obj:=λi h st b hb=>by
  obtain⟨g,old,he,_,o,ho,_,hd⟩:=st;rcases(show b=e∨b=it by simpa using hb)with rfl|rfl
  ·exact⟨_,he,λv z=>by cases z⟩
  ·exact⟨o,ho,λv z=>by rw[hd]at z;cases z⟩
 keep:=λi h h' st k=>by obtain⟨g,old,he,hg,hi⟩:=st;exact⟨g,old,k e (by simp) _ he,hg,hi.at λo q=>k it (by simp) o q⟩
 item:=by
  intro X hP hw hK hc i vE s σ H E I hf st hg;subst hP hw hK;obtain⟨xs,x,hq,hx⟩:=hg;obtain⟨its,rv,hv,hz⟩:=Src.sq.val I hq;obtain⟨u,hu,ru⟩:=rv.get hx;obtain⟨g,old,he,hgv,hi⟩:=st;refine ZOp he hgv hi hv (x:=u) (by simpa using hu) hne λh1 t tk e1 i1 t1 z1 k1=>⟨_,rfl,?_⟩
  refine ZNb (s:={s with heap:=h1,toks:=tk}) e1 λh2 e2 sb=>?_
  have hpe:s.heap.objs.size≠e:=jy (zw he);have I2:Inv X vE σ (upd H s.heap.objs.size (.tup [.int (n+i),x])) {s with heap:=h2,toks:=tk}:=
   ZG8 (fp:=[e,it]) (its:=[.int (n+i) t,u]) I (λb o hb q=>by
    have hb':b≠e/\b≠it:=by simpa using hb
    exact sb.extBut b o hb'.1 (k1 b o hb'.1 hb'.2 q)) hf (zK _) (by show 2<=sizeLine;decide) (.cons ⟨t,rfl⟩ (.cons ru .nil)) (sb.extBut _ _ hpe t1)
  have hfr:H s.heap.objs.size=vG:=I.hok.fresh (zK _);refine⟨.ref s.heap.objs.size,_,I2,rfl,⟨_,x,rfl,hfr,rfl,λys hy=>by rw[Src.sq.inj I hy hq];exact hx⟩,⟨.none,u,?_,.inl rfl,i1.at λo q=>sb.extBut _ _ (Ne.symm hne) q⟩,λb hb=>?_⟩
  ·have ee:n+(i:Int)+1=n+((i+1:Nat):Int):=by lia
   rw[<-ee];exact e2
  ·have hb':b=e∨b=it:=by simpa using hb
   rw[Al (λz=>?_)]
   ·exact(hf b hb).1
   ·rcases hb' with rfl|rfl
    ·exact hpe z.symm
    ·have hlt:=Src.it.lt hi;rw[z]at hlt;exact qK _ hlt
 done:=by
  intro X hP hw hK hc i vE s σ H E I hf st hg;subst hP hw hK;obtain⟨xs,hq,hx⟩:=hg;obtain⟨its,rv,hv,hz⟩:=Src.sq.val I hq;obtain⟨g,old,he,hgv,hi⟩:=st;have hl:=rv.length;refine ZL4 (I.ok.hd hc) he hi hv (by simp;lia) λh1 xb=>⟨rfl,?_⟩
  exact Xi (t':=s.toks) (fp:=[e,it]) I (λb o hb q=>xb b o (λz=>hb (by simp[z])) q) hf
 self:=λ_ _ _ _ _ st h=>by obtain⟨g,old,he,_⟩:=st;exact W0 he h
section
variable{X:Cx}{E:XK}
theorem ZUi{prog:xA}{w:xF}{A:xw}{E:xE->xC->Prop}{s:xC}{sr:Src}{xs:Array xE}{Q:xE->xC->Prop}(hv:sr.val s.heap xs)
  (h:∀h',En h' (s.heap.objs.size+1) s.heap.objs.size .none 0 .none .none->sr.it h' s.heap.objs.size 0->(∀b o,s.heap.get? b=vF o->h'.get? b=vF o)->Q (.ref (s.heap.objs.size+1)) {s with heap:=h'}):
  vq (vJ prog w) A (call (.type "enumerate") [.ref sr.adr]) Q E s:=by
 have g:Meets (Builtin.«enumerate.__new__» ⟨[.type "enumerate",.ref sr.adr],[]⟩) (λ_ R s=>sr.val s.heap xs/\
   R (.ok (.ret (.ref (s.heap.push {cls:=.type sr.itn,data:=.fields #[.ref sr.adr,.int 0 0]}).objs.size)))
    {s with heap:=(s.heap.push {cls:=.type sr.itn,data:=.fields #[.ref sr.adr,.int 0 0]}).push {cls:=.type "enumerate",data:=.fields #[.none,.bool vI,.ref s.heap.objs.size,vX 0,.none,.none]}}):=
  .of_wp λprog w A R s h=>by
   obtain⟨hp,g,d,tk,os⟩:=s;obtain⟨hl,h⟩:=h;have hsub:=sub_enumerate;have hL:sr.val (Shared.heap ⟨hp,g,d,tk,os⟩) xs:=hl
   wp_walk
   refine wpAny_stack_any λst=>v8 ?_
   split
   ·rename_i c _ _ _ _ _
    cases(c==Value.type "enumerate")<;>(wp_walk using Src.iter hL;exact⟨_,rfl,h⟩)
   ·wp_walk using Src.iter hL
    exact⟨_,rfl,h⟩
 refine callType_new PySem.F.called_enumerate (by decide) (PySem.F.typeCall_enumerate_1 _) (PySem.F.newCall_enumerate_1 _) (λobj=>PySem.F.args_object_init_2 obj _) PySem.F.entry_enumerate_new g ⟨hv,?_⟩;have hz:(s.heap.push {cls:=.type sr.itn,data:=.fields #[.ref sr.adr,.int 0 0]}).objs.size=s.heap.objs.size+1:=qF ..;show _/\_;rw[hz];have he:En ((s.heap.push {cls:=.type sr.itn,data:=.fields #[.ref sr.adr,.int 0 0]}).push {cls:=.type "enumerate",data:=.fields #[.none,.bool vI,.ref s.heap.objs.size,vX 0,.none,.none]}) (s.heap.objs.size+1) s.heap.objs.size .none 0 .none .none:=by
  have:=zA (s.heap.push {cls:=.type sr.itn,data:=.fields #[.ref sr.adr,.int 0 0]}) (o:={cls:=.type "enumerate",data:=.fields #[.none,.bool vI,.ref s.heap.objs.size,vX 0,.none,.none]}) rfl;rw[hz]at this;exact this
 exact⟨⟨_,he,rfl⟩,h _ he ⟨_,zJ _ (zA _ rfl),rfl,rfl⟩ λb o x=>zJ _ (zJ _ x)⟩
def ZMk(K:PySem.W.Frag)(ta:TA):TI:=λσ H R=>ta σ H λvs H1=>∃sr xs,vs=[.ref (Src.adr sr)]/\sr.sq K H1 xs/\R (Ite K sr 0) H1
theorem ZNJ{x1}(hg:Gl X "enumerate")(hm:X.mg "enumerate"=vG)(ha:PA X [a] ta)(hs:vK [a] X.env=[(vI,eval a X.env)]:=by rfl):PI X (.Tuple elts x1 tp) (.Call (.Name "enumerate" p) [a] [] pos) (ZMk X.K ta):=by
 intro vE s σ H R I h;refine Call_ (Hj I hg hm PyProof.Rows.boot_enumerate (PyProof.Rows.callWith_type1 (thn (ha pos vE s σ H _ I h) λus s1 ⟨vs,H1,I1,r1,q1⟩=>?_) hs rfl));obtain⟨sr,xs,e,hq,q⟩:=q1;subst e;cases r1 with
 |cons r rr=>
  cases rr;cases r;obtain⟨its,rv,hv,hz⟩:=Src.sq.val I1 hq;refine ZUi hv λh' he hi kp=>?_
  refine W0 he ?_;have I2:Inv X vE σ H1 {s1 with heap:=h'}:=I1.kept (t':=s1.toks) kp;refine⟨s1.heap.objs.size+1,[s1.heap.objs.size+1,s1.heap.objs.size],_,_,H1,rfl,I2,ZF2 sr 0 _ _ (Nat.succ_ne_self _),⟨.none,.none,by simpa using he,.inl rfl,hi⟩,λb hb=>?_,q⟩;have hb':b=s1.heap.objs.size+1∨b=s1.heap.objs.size:=by simpa using hb
  have hle:s1.heap.objs.size<=b:=by rcases hb' with rfl|rfl<;>lia
  exact I1.Ii hle (I1.hok.fresh hle)
end
inductive DrV (K:PySem.W.Frag) (H:Hp) (i:Nat):List Src->List V->Prop where
 |nil:DrV K H i [] []
 |cons {sr r v us xs} (hq:Src.sq K H xs sr) (hx:xs[i]?=vF v) (t:DrV K H i r us):DrV K H i (sr::r) (v::us)
inductive StV (K:PySem.W.Frag) (H:Hp) (i:Nat):List Src->Prop where
 |here {sr r xs} (hq:Src.sq K H xs sr) (hx:xs.length<=i):StV K H i (sr::r)
 |there {sr r v xs} (hq:Src.sq K H xs sr) (hx:xs[i]?=vF v) (t:StV K H i r):StV K H i (sr::r)
def Itz(K:PySem.W.Frag)(ls:List Src):It:=
 ⟨λi H=>∃us,DrV K H i ls us,λi H v H'=>∃p us,v=.ref p/\H p=vG/\H'=upd H p (.tup us)/\∀us',DrV K H i ls us'->us'=us,λi H=>StV K H i ls⟩
theorem DrV.length{K:PySem.W.Frag}{H:Hp}{i:Nat}{us:List V}(d:DrV K H i ls us):us.length=ls.length:=by
 induction d with
 |nil=>rfl
 |cons _ _ _ ih=>simp[ih]
section
variable{X:Cx}{vE:List (xj×Obj)}{σ:St}{H:Hp}{s:xC}
theorem DrV.inj(I:Inv X vE σ H s):∀{ls:List Src}{us us':List V},DrV X.K H i ls us->DrV X.K H i ls us'->us=us'
 |[],_,_,d,d'=>by cases d;cases d';rfl
 | sr::ls,_,_,d,d'=>by
  cases d with
  | cons hq hx t=>
   cases d' with
   |cons hq' hx' t'=>
    have e:=Src.sq.inj I hq hq';subst e;rw[hx]at hx';cases hx';rw[DrV.inj I t t']
theorem DrV.drw(I:Inv X vE σ H s):∀{l:List (Src×xj)}{us:List V},DrV X.K H i (l.map (·.1)) us->(∀q∈l,q.1.it s.heap q.2 i)->∃ws,Drw s.heap i l ws/\Vals us ws
 |[],us,d,h=>by cases d;exact⟨[],.nil,.nil⟩
 | (sr,p)::l,us,d,h=>by
  cases d with
  |cons hq hx t=>
   obtain⟨its,rv,hv,hz⟩:=Src.sq.val I hq;obtain⟨u,hu,ru⟩:=rv.get hx;obtain⟨ws,d',r'⟩:=DrV.drw I t λq hq=>h q (zZ _ hq)
   exact⟨u::ws,.cons (h (sr,p) zW) hv (by simpa using hu) d',.cons ru r'⟩
theorem StV.drw(I:Inv X vE σ H s):∀{l:List (Src×xj)},StV X.K H i (l.map (·.1))->(∀q∈l,q.1.it s.heap q.2 i)->DrwE s.heap i l
 |[],d,h=>by cases d
 | (sr,p)::l,d,h=>by
  cases d with
  |here hq hx=>
   obtain⟨its,rv,hv,hz⟩:=Src.sq.val I hq;have hl:=rv.length;exact .here (h (sr,p) zW) hv (by simp;lia)
  |there hq hx t=>
   obtain⟨its,rv,hv,hz⟩:=Src.sq.val I hq;obtain⟨u,hu,ru⟩:=rv.get hx;exact .there (h (sr,p) zW) hv (by simpa using hu) (StV.drw I t λq hq=>h q (zZ _ hq))
end
theorem ZKm{P:xA}{w:xF}{K:PySem.W.Frag}{x1}{pos:Pos}(l:List (Src×xj))(z TI TO:xj)(a:ApZ TO l)(zz:z≠TO/\(∀q∈l,q.2≠z/\q.1.adr≠z))(tt:TI≠z/\TI≠TO/\∀q∈l,q.2≠TI)(hsz:l.length<=1000000)(hne:l≠[]):
  Turn P w K (.Tuple elts x1 pos) (Itz K (l.map (·.1))) (z::TI::TO::l.map (·.2)) z
   (λi h=>IsZip h z TI TO .none/\Tp h TI (l.map λq=>Value.ref q.2)/\(∃os,Tp h TO os/\os.length=l.length)/\∀q∈l,q.1.it h q.2 i) where
 mem:=by simp
 obj:=λi h st b hb=>by
  obtain⟨hz,hTI,⟨os,hTO,_⟩,hi⟩:=st;rcases zq.mp hb with rfl|hb
  ·exact⟨_,hz,λv z=>by cases z⟩
  ·rcases zq.mp hb with rfl|hb
   ·exact⟨_,hTI,λv z=>by cases z⟩
   ·rcases zq.mp hb with rfl|hb
    ·exact⟨_,hTO,λv z=>by cases z⟩
    ·obtain⟨q,hq,rfl⟩:=zO.mp hb;obtain⟨o,ho,_,hd⟩:=hi q hq;exact⟨o,ho,λv z=>by rw[hd]at z;cases z⟩
 keep:=λi h h' st k=>by obtain⟨hz,hTI,⟨os,hTO,ho⟩,hi⟩:=st;exact⟨k z (by simp) _ hz,k TI (by simp) _ hTI,⟨os,k TO (by simp) _ hTO,ho⟩,λq hq=>(hi q hq).at λo e=>k q.2 (by simp only[zq];exact .inr (.inr (.inr (zO.mpr ⟨q,hq,rfl⟩)))) o e⟩
 item:=by
  intro X hP hw hK hc i vE s σ H E I hf st hg;subst hP hw hK;obtain⟨us,dv⟩:=hg;obtain⟨hz,hTI,⟨os,hTO,ho⟩,hi⟩:=st;obtain⟨ws,dw,rv⟩:=DrV.drw I dv hi;refine ZSZ hz hTI hTO ho hsz hne a zz dw λh1 z1 t1 i1 p1 s1 k1=>⟨_,rfl,?_⟩
  refine wpAny_letOwnedTupleGo_zip (s:={s with heap:=h1}) z1 λh2 z2 sb=>?_
  have hpz:s.heap.objs.size≠z:=jy (zw hz);have hul:us.length<=sizeLine:=by rw[dv.length,qq];exact zC hsz size6
  have I2:Inv X vE σ (upd H s.heap.objs.size (.tup us)) {s with heap:=h2}:=
   ZG8 (t':=s.toks) (fp:=z::TI::TO::l.map (·.2)) (its:=ws) I (λb o hb q=>by simp only[zq,not_or]at hb;exact sb.extBut b o hb.1 (k1 b o hb.1 hb.2.2.1 hb.2.2.2 q)) hf (zK _) hul rv (sb.extBut _ _ hpz p1)
  have hfr:H s.heap.objs.size=vG:=I.hok.fresh (zK _)
  have up:∀b o,b≠z->b≠TO->b∉l.map (·.2)->s.heap.get? b=vF o->h2.get? b=vF o:=λb o b1 b2 b3 q=>sb.extBut b o b1 (k1 b o b1 b2 b3 q)
  refine⟨.ref s.heap.objs.size,_,I2,rfl,⟨_,us,rfl,hfr,rfl,λus' d'=>DrV.inj I d' dv⟩,⟨z2,up TI _ tt.1 tt.2.1 (λhm=>?_) hTI,⟨ws,sb.extBut _ _ (Ne.symm zz.1) t1,dw.length⟩,λq hq=>(i1 q hq).at λo e=>sb.extBut _ _ (zz.2 q hq).1 e⟩,λb hb=>?_⟩
  ·obtain⟨q,hq,e⟩:=zO.mp hm;exact tt.2.2 q hq e
  ·rw [Al (λe=>?_)]
   ·exact(hf b hb).1
   ·have lt:b<s.heap.objs.size:=by
     rcases zq.mp hb with rfl|hb
     ·exact zw hz
     ·rcases zq.mp hb with rfl|hb
      ·exact zw hTI
      ·rcases zq.mp hb with rfl|hb
       ·exact zw hTO
       ·obtain⟨q,hq,rfl⟩:=zO.mp hb;exact(hi q hq).lt
    rw[e]at lt;exact qK _ lt
 done:=by
  intro X hP hw hK hc i vE s σ H E I hf st hg;subst hP hw hK;obtain⟨hz,hTI,⟨os,hTO,ho⟩,hi⟩:=st;have dw:=StV.drw I hg hi;refine ZNU (I.ok.hd hc) hz hTI hTO ho hsz hne a zz dw λh1 k1=>⟨rfl,?_⟩
  exact Xi (t':=s.toks) (fp:=z::TI::TO::l.map (·.2)) I (λb o hb q=>by simp only[zq,not_or]at hb;exact k1 b o hb.1 hb.2.2.1 hb.2.2.2 q) hf
 self:=λ_ _ _ _ _ st h=>wpAny_pyIter_zip st.1 h
def Gq (G:DH) (j:Nat):List D->Option (Option (List D))
 |[]=>vF (vF [])
 | d::r=>match Bg d G with
  |none=>vG
  | some xs=>match xs[j]? with
   |none=>vF vG
   |some x=>match Gq G j r with
    |some (vF ys)=>vF (vF (x::ys))
    |o=>o
def Ew(ds:List D)(j:Nat)(G:DH):Option (Option D):=(Gq G j ds).map λo=>o.map D.tup
def lenOf(G:DH)(d:D):Nat:=match Bg d G with
 |some xs=>xs.length
 |none=>0
def Iw(G:DH)(d:D):Bool:=(Bg d G).isSome
def Dp(n:Int)(d:D)(j:Nat)(G:DH):Option (Option D):=match Bg d G with
 |none=>vG
 |some xs=>vF (xs[j]?.map λx=>.tup [.int (n+j),x])
def Ey(ds:List D)(G:DH):R ItD:=match ds with
 |[d]=>if Iw G d=vH then .ok (.fn (lenOf G d) (Dp 0 d)) G else .bad
 |_=>.bad
def Ex(n:Nat)(ds:List D)(G:DH):R ItD:=if ds.all (Iw G)=vH/\ds.length=n then .ok (.fn (lenOf G (ds.headD .non)) (Ew ds)) G else .bad
section
variable{X:Cx}{E:XK}
theorem ZCV{a:Wd}{G:DH}{d:D}{v:V}{xs:List D}(s:Sim a G)(r:Rep a d v)(h:Bg d G=vF xs):
  ∃sr:Src,v=.ref sr.adr/\(∃vs,sr.sq a.K a.H vs)/\∀b:Wd,Ext a b->∀G',Sim b G'->∀ys,Bg d G'=vF ys->∃us,sr.sq b.K b.H us/\Reps b ys us:=by
 cases d with
 |tup ds=>
  obtain⟨p,vs,rfl,hq,rv⟩:=r;refine⟨.t p,rfl,⟨vs,hq⟩,λb x G' s' ys hy=>?_⟩
  cases(show vF ds=vF ys from hy)
  exact⟨vs,x.sqT hq,rv.mono x⟩
 |fl ds=>
  obtain⟨p,vs,rfl,hq,rv⟩:=r;refine⟨.l p,rfl,⟨vs,hq.sq⟩,λb x G' s' ys hy=>?_⟩
  cases(show vF ds=vF ys from hy)
  exact⟨vs,(x.fzL hq).sq,rv.mono x⟩
 | ref i=>
  obtain⟨hi,rfl⟩:=r;have hx:∃zs,G[i]?=vF (.lst zs):=by
   unfold Bg at h;dsimp only at h;split at h
   ·rename_i zs hz;exact⟨zs,hz⟩
   ·cases h
  obtain⟨zs,hz⟩:=hx;obtain⟨vs,e1,_⟩:=s.lst hz;refine⟨.l (a.m i),rfl,⟨vs,.of e1⟩,λb x G' s' ys hy=>?_⟩;unfold Bg at hy;dsimp only at hy;split at hy
  ·rename_i zs' hz';cases hy;obtain⟨us,e2,r2⟩:=s'.lst hz';rw[x.m i hi]at e2;exact⟨us,.of e2,r2⟩
  ·cases hy
 |_=>cases h
theorem ZQJ{a:Wd}{G:DH}{d:D}{v:V}{sr:Src}(hk:a.K=X.K)(rd:∀b:Wd,Ext a b->∀G',Sim b G'->∀ys,Bg d G'=vF ys->∃us,sr.sq b.K b.H us/\Reps b ys us)(n:Nat):RepI a (.fn n (Dp 0 d)) (Ite X.K sr 0):=by
 intro b x G' s' i;have kb:b.K=X.K:=x.k.trans hk;constructor
 ·intro e he;unfold Dp at he;split at he
  ·cases he
  ·rename_i ys hy;obtain⟨us,hq,ru⟩:=rd b x G' s' ys hy;rw[kb]at hq;cases hyi:ys[i]? with
   |none=>rw[hyi]at he;cases he
   |some y=>
    rw[hyi]at he;have he':D.tup [.int (0+i),y]=e:=by simpa using he
    subst he';obtain⟨u,hu,rx⟩:=ru.get hyi;refine⟨⟨us,u,hq,hu⟩,?_⟩;rintro w H' ⟨p,u',rfl,hp,rfl,hu'⟩;refine⟨b.put p (.tup [.int (0+i),u']),rfl,Ext.put hp,s'.put hp,p,_,rfl,.of Ei,?_⟩;have e1:=hu' us hq;rw[hu]at e1;cases e1;exact⟨_,_,rfl,rfl,Reps.cons (rx.mono (Ext.put hp)) rfl⟩
 ·intro he;unfold Dp at he;split at he
  ·cases he
  ·rename_i ys hy;obtain⟨us,hq,ru⟩:=rd b x G' s' ys hy;rw[kb]at hq;cases hyi:ys[i]? with
   |none=>exact⟨us,hq,by rw[<-ru.length];exact qU.mp hyi⟩
   |some y=>rw[hyi]at he;cases he
theorem ZPw{elts:List xk}{x1}{tp:Pos}{e:xk}{ta:DA}{p pos:Pos}(hg:Gl X "enumerate")(hm:X.mg "enumerate"=vG)(ha:QA X E [e] ta)(hs:vK [e] X.env=[(vI,eval e X.env)]:=by rfl):
  QI X E (.Tuple elts x1 tp) (.Call (.Name "enumerate" p) [e] [] pos) (Bk Ey ta):=(ZNJ hg hm ha hs).mono λσ H Q h=>by
 obtain⟨a,S,G,hk,rfl,s,r,h⟩:=h;refine⟨a,S,G,hk,rfl,s,r,(Py h).imp ?_⟩;rintro vs _ ⟨b,ds,G1,rfl,x,s1,q,-,h1⟩;unfold Ey at h1;split at h1
 ·rename_i d;split at h1
  ·rename_i hok;obtain⟨v,r,e1,q1,q2⟩:=q
   cases(show r=[]from q2)
   subst e1
   obtain⟨xs,hx⟩:=jX.mp (show(Bg d G1).isSome=vH from hok)
   obtain⟨sr,rfl,⟨us,hq⟩,rd⟩:=ZCV s1 q1 hx;have kb:b.K=X.K:=x.k.trans hk;exact⟨sr,us,rfl,by rw[<-kb];exact hq,h1 b _ (Ext.refl b) s1 (ZQJ (G:=G1) (v:=.non) kb rd _)⟩
  ·exact h1.elim
 ·exact h1.elim
theorem ZFT(s:Sim a G):∀{ds:List D}{vs:List V},Reps a ds vs->ds.all (Iw G)=vH->∃ls:List Src,vs=ls.map (λsr=>V.ref sr.adr)/\(∀sr∈ls,∃us,sr.sq a.K a.H us)/\
   ∀b:Wd,Ext a b->∀G',Sim b G'->∀i,(∀ys,Gq G' i ds=vF (vF ys)->∃us,DrV b.K b.H i ls us/\Reps b ys us)/\(Gq G' i ds=vF vG->StV b.K b.H i ls)
 |[],vs,r,_=>by
  cases(show vs=[]from r)
  refine⟨[],rfl,(λ_ h=>nomatch h),λb x G' s' i=>⟨λys h=>?_,λh=>?_⟩⟩
  ·cases h;exact⟨[],.nil,rfl⟩
  ·cases h
 | d::ds,vs,r,h=>by
  rw[qO,zE]at h;obtain⟨v,vr,rfl,q1,q2⟩:=r
  obtain⟨xs,hx⟩:=jX.mp (show(Bg d G).isSome=vH from h.1)
  obtain⟨sr,rfl,hq,rd⟩:=ZCV s q1 hx;obtain⟨ls,rfl,hqs,rds⟩:=ZFT s q2 h.2;refine⟨sr::ls,rfl,λsr' hm=>?_,λb x G' s' i=>⟨λys hy=>?_,λhy=>?_⟩⟩
  ·rcases zq.mp hm with rfl|hm
   ·exact hq
   ·exact hqs sr' hm
  ·unfold Gq at hy;split at hy
   ·cases hy
   ·rename_i zs hz;obtain⟨us,hu,ru⟩:=rd b x G' s' zs hz;split at hy
    ·cases hy
    ·rename_i y hyi;obtain⟨u,hui,rx⟩:=ru.get hyi;split at hy
     ·rename_i ys' hys;cases hy;obtain⟨us',d',r'⟩:=(rds b x G' s' i).1 ys' hys;exact⟨u::us',.cons hu hui d',Reps.cons rx r'⟩
     ·rename_i hno;exact absurd hy (hno _)
  ·unfold Gq at hy;split at hy
   ·cases hy
   ·rename_i zs hz;obtain⟨us,hu,ru⟩:=rd b x G' s' zs hz;split at hy
    ·rename_i hyi;exact .here hu (by rw[<-ru.length];exact qU.mp hyi)
    ·rename_i y hyi;obtain⟨u,hui,rx⟩:=ru.get hyi;split at hy
     ·cases hy
     ·exact .there hu hui ((rds b x G' s' i).2 hy)
theorem ZNQ(hk:a.K=X.K)(rd:∀b:Wd,Ext a b->∀G',Sim b G'->∀i,(∀ys,Gq G' i ds=vF (vF ys)->∃us,DrV b.K b.H i ls us/\Reps b ys us)/\(Gq G' i ds=vF vG->StV b.K b.H i ls))(n:Nat):
  RepI a (.fn n (Ew ds)) (Itz X.K ls):=by
 intro b x G' s' i;have kb:b.K=X.K:=x.k.trans hk;constructor
 ·intro e he;unfold Ew at he;cases hz:Gq G' i ds with
  |none=>rw[hz]at he;cases he
  | some o=>
   cases o with
   |none=>rw[hz]at he;cases he
   |some ys=>
    rw[hz]at he;have he':D.tup ys=e:=by simpa using he
    subst he';obtain⟨us,d,ru⟩:=(rd b x G' s' i).1 ys hz;rw[kb]at d;refine⟨⟨us,d⟩,?_⟩;rintro w H' ⟨p,us',rfl,hp,rfl,hu'⟩;cases hu' us d;exact⟨b.put p (.tup us),rfl,Ext.put hp,s'.put hp,p,us,rfl,.of Ei,ru.mono (Ext.put hp)⟩
 ·intro he;unfold Ew at he;cases hz:Gq G' i ds with
  |none=>rw[hz]at he;cases he
  | some o=>
   cases o with
   |none=>
    have:=(rd b x G' s' i).2 hz;rw[kb]at this;exact this
   |some ys=>rw[hz]at he;cases he
def ZBU(n:Nat)(K:PySem.W.Frag)(ta:TA):TI:=λσ H R=>ta σ H λvs H1=>∃ls:List Src,vs=ls.map (λsr=>V.ref sr.adr)/\(∀sr∈ls,∃us,sr.sq K H1 us)/\ls.length=n/\R (Itz K ls) H1
theorem Zo:∀{ls:List Src}{us:List xE},Vals (ls.map λsr=>V.ref sr.adr) us->us=ls.map λsr=>Value.ref sr.adr
 |[],us,h=>by cases h;rfl
 | sr::ls,us,h=>by
  rw[zk]at h;cases h with
  |cons r rr=>
   cases r;rw[Zo rr]
   rfl
theorem Rq{n:Nat}{q:Src×Nat}(h:q∈ls.zipIdx n):q.1∈ls/\n<=q.2/\q.2<n+ls.length:=by obtain⟨i,hi,rfl⟩:=qE h;simp only[List.length_zipIdx]at hi;simp only[List.getElem_zipIdx];exact⟨q9 hi,by lia,by lia⟩
theorem ZE5{x1}{tp:Pos}{σ:St}{H:Hp}{s:xC}{R:It->Hp->Prop}(I:Inv X vE σ H s)(hq:∀sr∈ls,∃us,sr.sq X.K H us)(hne:ls≠[])(hl:ls.length<=1000000)
  (hct:checkTypeCall "zip" ⟨ls.map λsr=>Value.ref sr.adr,[]⟩=pure ()) (hcn:xP "zip.__new__" ⟨.type "zip"::ls.map λsr=>Value.ref sr.adr,[]⟩=pure ()) (hok:∀obj,argsOk "object.__init__" ⟨obj::ls.map λsr=>Value.ref sr.adr,[]⟩)
  (q:R (Itz X.K ls) H):vq (vJ X.prog X.w) X.A (call (.type "zip") (ls.map λsr=>Value.ref sr.adr)) (λv s1=>vq (vJ X.prog X.w) X.A (pyIter v) (PIE X vE σ (.Tuple elts x1 tp) R) X.xe s1) X.xe s:=by
 have hv:∀sr∈ls,∃xs,sr.val s.heap xs:=λsr hm=>by obtain⟨us,h⟩:=hq sr hm;obtain⟨its,_,h',_⟩:=Src.sq.val I h;exact⟨_,h'⟩
 have hlt:∀sr∈ls,sr.adr<s.heap.objs.size:=λsr hm=>by obtain⟨xs,h⟩:=hv sr hm;obtain⟨o,n,ho,_⟩:=h.obj;exact zw ho
 refine ZT7 hv hl hct hcn hok λh' n hn hz hTI hTO hi kp=>?_
 refine wpAny_pyIter_zip hz ?_;have I2:Inv X vE σ H {s with heap:=h'}:=I.kept (t':=s.toks) kp
 have em:(ls.zipIdx s.heap.objs.size).map (·.1)=ls:=by refine qN (by simp) λi h1 h2=>by simp
 have e2:(ls.zipIdx s.heap.objs.size).map (·.2)=List.range' s.heap.objs.size ls.length:=by refine qN (by simp) λi h1 h2=>by simp[Nat.add_comm]
 have qb:∀q∈ls.zipIdx s.heap.objs.size,q.1.adr<s.heap.objs.size/\s.heap.objs.size<=q.2/\q.2<n:=λq hm=>⟨hlt _ (Rq hm).1,(Rq hm).2.1,by rw[hn];exact(Rq hm).2.2⟩
 have hsn:s.heap.objs.size<=n:=by rw[hn];exact xX _ _
 have ap:ApZ (n+1) (ls.zipIdx s.heap.objs.size):=⟨by rw[e2];exact List.nodup_range',λq hm=>zG (zj (qb q hm).1 (Nat.le_succ_of_le hsn)),λq hm r hr=>zG (zj (qb q hm).1 (qb r hr).2.1),λq hm=>zG (qR (qb q hm).2.2)⟩;have T:=ZKm (P:=X.prog) (w:=X.w) (K:=X.K) (elts:=elts) (x1:=x1) (pos:=tp) (ls.zipIdx s.heap.objs.size) (n+2) n (n+1) ap ⟨Nat.succ_ne_self (n+1),λq hm=>⟨zG (zj (qb q hm).2.2 (xX n 2)),zG (zj (qb q hm).1 (zC hsn (xX n 2)))⟩⟩
  ⟨zG (Nat.lt_add_of_pos_right (by decide)),zG (qY n),λq hm=>zG (qb q hm).2.2⟩ (by simpa using hl) (by intro e;apply hne;rw[<-em,e];rfl)
 rw [em]at T;refine⟨n+2,_,_,_,H,rfl,I2,T,⟨hz,hTI,⟨_,hTO,by simp⟩,hi⟩,λb hb=>?_,q⟩;have hle:s.heap.objs.size<=b:=by
  rcases zq.mp hb with rfl|hb
  ·exact zC hsn (xX n 2)
  ·rcases zq.mp hb with rfl|hb
   ·exact hsn
   ·rcases zq.mp hb with rfl|hb
    ·exact Nat.le_succ_of_le hsn
    ·obtain⟨q,hq,rfl⟩:=zO.mp hb;exact(Rq hq).2.1
 exact I.Ii hle (I.hok.fresh hle)
theorem ZNA(a b c:xE):checkTypeCall "zip" ⟨[a,b,c],[]⟩=pure ():=by kernel_rfl
theorem ZRL(a b c:xE):xP "zip.__new__" ⟨[.type "zip",a,b,c],[]⟩=pure ():=by kernel_rfl
theorem ZKr(a b c d:xE):argsOk "object.__init__" ⟨[a,b,c,d],[]⟩:=by unfold argsOk;rw[signature?_of (id:="object.__init__") (n:=['_','_','t','i','n','i','_','_']) (o:=['t','c','e','j','b','o']) (by kernel_rfl) PySem.F.owner_object];kernel_rfl
theorem ZMx{elts:List xk}{x1}{tp:Pos}{a b:xk}{ta:TA}{p pos:Pos}(hg:Gl X "zip")(hm:X.mg "zip"=vG)(ha:PA X [a,b] ta)(hs:vK [a,b] X.env=[(vI,eval a X.env),(vI,eval b X.env)]:=by rfl)(hs2:vK [b] X.env=[(vI,eval b X.env)]:=by rfl):
  PI X (.Tuple elts x1 tp) (.Call (.Name "zip" p) [a,b] [] pos) (ZBU 2 X.K ta):=by
 intro vE s σ H R I h;refine Call_ (Hj I hg hm PyProof.Rows.boot_zip (PyProof.Rows.callWith_type1 (thn (ha pos vE s σ H _ I h) λus s1 ⟨vs,H1,I1,r1,q1⟩=>?_) (by rw[hs,hs2]) (by rw[hs2];rfl)));obtain⟨ls,rfl,hq,hl,q⟩:=q1;cases Zo r1
 match ls,hl with
 |[x,y],_=>exact ZE5 I1 hq (by simp) (by simp) (PySem.F.typeCall_zip_2 _ _) (PySem.F.newCall_zip_2 _ _) (λobj=>PySem.F.args_object_init_3 obj _ _) q
theorem ZKo{elts:List xk}{x1}{tp:Pos}{a b c:xk}{ta:TA}{p pos:Pos}(hg:Gl X "zip")(hm:X.mg "zip"=vG)(ha:PA X [a,b,c] ta)(hs:vK [a,b,c] X.env=[(vI,eval a X.env),(vI,eval b X.env),(vI,eval c X.env)]:=by rfl)
  (hs2:vK [b,c] X.env=[(vI,eval b X.env),(vI,eval c X.env)]:=by rfl):PI X (.Tuple elts x1 tp) (.Call (.Name "zip" p) [a,b,c] [] pos) (ZBU 3 X.K ta):=by
 intro vE s σ H R I h;refine Call_ (Hj I hg hm PyProof.Rows.boot_zip (PyProof.Rows.callWith_type1 (thn (ha pos vE s σ H _ I h) λus s1 ⟨vs,H1,I1,r1,q1⟩=>?_) (by rw[hs,hs2]) (by rw[hs2];rfl)));obtain⟨ls,rfl,hq,hl,q⟩:=q1;cases Zo r1
 match ls,hl with
 |[x,y,z],_=>exact ZE5 I1 hq (by simp) (by simp) (ZNA _ _ _) (ZRL _ _ _) (λobj=>ZKr obj _ _ _) q
theorem ZF4{K:PySem.W.Frag}{n:Nat}{ta:DA}{σ:St}{H:Hp}{Q:It->Hp->Prop}(hK:K=X.K)(h:lI K E (Bk (Ex n) ta) σ H Q):ZBU n K (lA K E ta) σ H Q:=by
 subst hK;obtain⟨a,S,G,hk,rfl,s,r,h⟩:=h;refine⟨a,S,G,hk,rfl,s,r,(Py h).imp ?_⟩;rintro vs _ ⟨b,ds,G1,rfl,x,s1,q,-,h1⟩;unfold Ex at h1;split at h1
 ·rename_i hok;obtain⟨ls,e,hq,rd⟩:=ZFT s1 q hok.1;have kb:b.K=X.K:=x.k.trans hk;have hl:ls.length=n:=by have:=q.length;rw[e,qq]at this;lia
  exact⟨ls,e,λsr hm=>by rw[<-kb];exact hq sr hm,hl,h1 b _ (Ext.refl b) s1 (ZNQ kb rd _)⟩
 ·exact h1.elim
theorem ZN1{elts:List xk}{x1}{tp:Pos}{a b:xk}{ta:DA}{p pos:Pos}(hg:Gl X "zip")(hm:X.mg "zip"=vG)(ha:QA X E [a,b] ta)(hs:vK [a,b] X.env=[(vI,eval a X.env),(vI,eval b X.env)]:=by rfl)(hs2:vK [b] X.env=[(vI,eval b X.env)]:=by rfl):
  QI X E (.Tuple elts x1 tp) (.Call (.Name "zip" p) [a,b] [] pos) (Bk (Ex 2) ta):=(ZMx hg hm ha hs hs2).mono λσ H Q h=>ZF4 rfl h
theorem ZOS{elts:List xk}{x1}{tp:Pos}{a b c:xk}{ta:DA}{p pos:Pos}(hg:Gl X "zip")(hm:X.mg "zip"=vG)(ha:QA X E [a,b,c] ta)(hs:vK [a,b,c] X.env=[(vI,eval a X.env),(vI,eval b X.env),(vI,eval c X.env)]:=by rfl)
  (hs2:vK [b,c] X.env=[(vI,eval b X.env),(vI,eval c X.env)]:=by rfl):QI X E (.Tuple elts x1 tp) (.Call (.Name "zip" p) [a,b,c] [] pos) (Bk (Ex 3) ta):=(ZKo hg hm ha hs hs2).mono λσ H Q h=>ZF4 rfl h
end
def ixL:D->D->DH->R D
 | .ref p,.int k,G=>match G[p]? with
  |some (.lst xs)=>match atI xs k with
   |some v=>.ok v G
   |none=>.bad
  |_=>.bad
 |_,_,_=>.bad
def Js(to ti te:DE)(f:D->D->DH->R D):DS:=λS G=>(to S G).toS λo G1=>(ti S G1).toS λi G2=>(ixL o i G2).toS λx G3=>(te S G3).toS λy G4=>(f x y G4).toS λz G5=>(K3 o i z G5).toS λ_ G6=>.nx S G6
def Hw:DS:=λ_ _=>.bad
section
variable{X:Cx}{E:XK}
theorem Ob{st:xD}:QS X E st Hw:=λvE s σ H W I h=>by obtain⟨a,S,G,hk,rfl,sm,r,h⟩:=h;exact h.elim
theorem ZPk(ho:QE X E o to)(hi:QE X E i ti)(he:QE X E e te)(hop:OpR X (inplaceOp op) (lR2 X.K E f))
  (ha:∀ov iv new,augStore i ov iv new=(do holding [new,ov,iv] (setItem ov iv new);release [new,ov,iv] [];pure .next):=by intros;rfl):QS X E (.AugAssign (.Subscript o i tpos) op e pos) (Js to ti te f):=by
 intro vE s σ H W I h;obtain⟨a,S,G,hk,rfl,sm,r,h⟩:=h;refine wpAny_AugAssign_SubscriptAny (thn (ho vE s σ a.H _ I ⟨a,S,G,hk,rfl,sm,r,Gx h⟩) ?_) ha;rintro ov s1 ⟨vo,H1,I1,ro,b1,o,G1,rfl,x1,m1,q1,_,h1⟩;have k1:=x1.k.trans hk;refine thn (hi vE s1 σ b1.H _ I1 ⟨b1,S,G1,k1,rfl,m1,r.mono x1,Gx h1⟩) ?_;rintro iv s2 ⟨vi,H2,I2,ri,b2,i,G2,rfl,x2,m2,q2,_,h2⟩;have k2:=x2.k.trans k1;have q1':=q1.mono x2;cases i with
 | int k=>
  cases o with
  | ref p=>
   obtain⟨hp,rfl⟩:=q1'
   cases(show vi=V.int k from q2)
   cases ro;obtain⟨t,rfl⟩:=ri;unfold ixL at h2;dsimp only at h2;split at h2
   ·rename_i xs hx';obtain⟨vs,e1,r1⟩:=m2.lst hx';split at h2
    ·rename_i d hd;obtain⟨v,ev,rd⟩:=ZFR r1 hd;have h2':Bw E b2 ((te S G2).toS λy G4=>(f d y G4).toS λz G5=>(K3 (.ref p) (.int k) z G5).toS λ_ G6=>.nx S G6) W:=h2;obtain⟨its,rv,pl,hz⟩:=I2.list (.of e1);obtain⟨j,g1,g2,g3,g4,g5⟩:=Uw ev;obtain⟨w,ew,rw'⟩:=rv.get g2;have hl:=rv.length;have hn:=line63;have fin:vq (vJ X.prog X.w) X.A (getItem (.ref (b2.m p)) (.int k t)) (λold s3=>old=w/\s3=s2) X.xe s2:=by
      by_cases h0:0<=k
      ·have hj:k.toNat=j:=by rw[seqIndex_of h0 g5]at g1;exact Option.some.inj g1
       exact wpAny_getItem_list pl.isList h0 (by lia) (by rw[hj];simpa using ew) ⟨rfl,rfl⟩
      ·have hj:(k+(its.toArray.size:Int)).toNat=j:=by rw[seqIndex_neg (by lia) g4]at g1;rw[zY,<-hl];exact Option.some.inj g1
       exact wpAny_getItem_list_neg pl.isList (by lia) (by rw[zY]<;>lia) (by lia) (by rw[hj];simpa using ew) ⟨rfl,rfl⟩
     refine thn fin ?_;rintro old s3 ⟨rfl,rfl⟩;refine thn (he vE s3 σ b2.H _ I2 ⟨b2,S,G2,k2,rfl,m2,(r.mono x1).mono x2,Gx h2'⟩) ?_;rintro yv s4 ⟨vy,H4,I4,ry,b4,y,G4,rfl,x4,m4,q4,_,h4⟩;have k4:=x4.k.trans k2;refine thn (hop vE s4 σ b4.H v vy old yv _ I4 rw' ry ⟨b4,G4,d,y,k4,rfl,m4,rd.mono x4,q4,Gx h4⟩) ?_;rintro new s5 ⟨vn,H5,I5,rn,b5,z,G5,rfl,x5,m5,q5,_,h5⟩;unfold K3 at h5;dsimp only at h5;split at h5
     ·rename_i ys hy;split at h5
      ·rename_i jj hjj;obtain⟨ws,e5,r5⟩:=m5.lst hy;have hp5:p<b5.n:=zj hp (zC x4.n x5.n);have em:b5.m p=b2.m p:=(x5.m p (zj hp x4.n)).trans (x4.m p hp);obtain⟨x6,m6⟩:=ZCJ m5 hp5 e5 (r5.set q5 jj);refine thn (set_list vE s5 σ b5.H (.ref (b2.m p)) (.int k) vn (.ref (b2.m p)) (.int k t) new (λH'=>W.nx σ H') I5 rfl ⟨t,rfl⟩ rn ⟨b5.m p,ws,k,jj,by rw[em],rfl,e5,by rw[<-r5.length];exact hjj,?_⟩) ?_
       ·exact h5 _ σ x6 m6 (((((r.mono x1).mono x2).mono x4).mono x5).mono x6)
       ·rintro _ s6 ⟨H6,I6,q6⟩;exact⟨σ,H6,I6,q6⟩
      ·exact h5.elim
     ·exact h5.elim
    ·exact h2.elim
   ·exact h2.elim
  |_=>exact(show False from h2).elim
 |_=>cases o<;>exact(show False from h2).elim
end
def Hi(ds:List D)(G:DH):R D:=match ds with
 | [d]=>match Bg d G with
  |some xs=>match Fg xs with
   |some (n::ns)=>.ok (.int (ns.foldl min n)) G
   |_=>.bad
  |none=>.bad
 |_=>.bad
def Hm(ds:List D)(G:DH):R D:=match ds with
 | [d]=>match Bg d G with
  |some xs=>match Fg xs with
   |some (n::ns)=>.ok (.int (ns.foldl max n)) G
   |_=>.bad
  |none=>.bad
 |_=>.bad
theorem Vk:∀(ns:List Int)(n:Int),ns.foldl min n<=n/\(∀x∈ns,ns.foldl min n<=x)/\(ns.foldl min n=n∨ns.foldl min n∈ns)
 |[],n=>⟨zL _,λx h=>(by cases h),.inl rfl⟩
 | m::ns,n=>by
  obtain⟨h1,h2,h3⟩:=Vk ns (min n m);rw[j2];refine⟨by lia,λx hx=>?_,?_⟩
  ·rcases zq.mp hx with rfl|hx
   ·lia
   ·exact h2 x hx
  ·rcases h3 with h|h
   ·by_cases e:n<=m
    ·exact .inl (by rw[h];lia)
    ·exact .inr (by rw[h];rw[show min n m=m by lia];exact zW)
   ·exact .inr (zZ _ h)
theorem ZC5:∀(ns:List Int)(n:Int),n<=ns.foldl max n/\(∀x∈ns,x<=ns.foldl max n)/\(ns.foldl max n=n∨ns.foldl max n∈ns)
 |[],n=>⟨zL _,λx h=>(by cases h),.inl rfl⟩
 | m::ns,n=>by
  obtain⟨h1,h2,h3⟩:=ZC5 ns (max n m);rw[j2];refine⟨by lia,λx hx=>?_,?_⟩
  ·rcases zq.mp hx with rfl|hx
   ·lia
   ·exact h2 x hx
  ·rcases h3 with h|h
   ·by_cases e:m<=n
    ·exact .inl (by rw[h];lia)
    ·exact .inr (by rw[h];rw[show max n m=m by lia];exact zW)
   ·exact .inr (zZ _ h)
section
variable{X:Cx}{E:XK}
theorem intAt{ns:List Int}{its:List xE}{i:Nat}{w:xE}(hv:Vals (ns.map V.int) its)(hw:its.toArray[i]?=vF w):i<ns.length/\∃t,w=.int (ns.getD i 0) t:=by
 have hw':its[i]?=vF w:=by simpa using hw
 have hl:i<(ns.map V.int).length:=by rw[hv.length];exact(zH.mp hw').1
 have hl':i<ns.length:=by simpa using hl
 obtain⟨u,hu,ru⟩:=hv.get (i:=i) (x:=V.int ns[i]) (by simp[hl']);rw[hw']at hu;cases hu;obtain⟨t,rfl⟩:=ru;exact⟨hl',t,by simp[hl']⟩
theorem ZNw(hc:X.calm=vH):CallR X (.builtin "min") (lRn X.K E Hi):=by
 intro vE s σ H vs us Q I rs h;obtain⟨a,G,ds,hk,rfl,sm,r,q⟩:=h;unfold Hi at q;split at q
 ·rename_i d;obtain⟨v,rfl,rv⟩:=reps1 r;split at q
  ·rename_i xs hs;split at q
   ·rename_i n ns hn;cases Tt hn;obtain⟨p,ws,rfl,h1,r1⟩:=Jf sm rv hs;cases Xa r1;rw[hk]at h1;obtain⟨u,rfl,ru⟩:=vals1 rs;cases ru;refine call_min_walk (T7 I hc h1 λit fp wr its St s₂ hv W st hfp fin=>⟨it,fp,wr,its.toArray.size,_,St,_,rfl,W,st,hfp,?_,CmpOf.ints_lt (λi=>(n::ns).getD i 0) (λi w hw=>(intAt hv hw).2),λw h' tk hw kk=>?_⟩)
    ·rw[zY,<-hv.length];simp
    ·obtain⟨hl,t,rfl⟩:=intAt hv hw;obtain⟨b1,b2⟩:=argBest_lt (λi=>(n::ns).getD i 0) (its.toArray.size-1);refine⟨.int (ns.foldl min n),a.H,fin h' tk kk,⟨t,?_⟩,q a _ (Ext.refl a) sm rfl⟩;have hsz:its.toArray.size=ns.length+1:=by rw[zY,<-hv.length];simp
     obtain⟨m1,m2,m3⟩:=Vk ns n;have hle:∀x∈n::ns,ns.foldl min n<=x:=λx hx=>by
      rcases zq.mp hx with rfl|hx
      ·exact m1
      ·exact m2 x hx
     have hin:ns.foldl min n∈n::ns:=by
      rcases m3 with h|h
      ·rw[h];exact zW
      ·exact zZ _ h
     obtain⟨j,hj,ej⟩:=qE hin;have c1:=b2 j (by simp at hj;lia);have c2:=hle _ (q9 hl);have e1:(n::ns).getD j 0=ns.foldl min n:=by rw[zD,zX hj];exact ej
     have e2:(n::ns).getD (argBest (λi j=>decide ((λi=>(n::ns).getD i 0) i<(λi=>(n::ns).getD i 0) j)) (its.toArray.size-1)) 0=(n::ns)[argBest (λi j=>decide ((λi=>(n::ns).getD i 0) i<(λi=>(n::ns).getD i 0) j)) (its.toArray.size-1)]:=by rw[zD,zX hl];rfl
     have c1':=c1;rw[e1]at c1';rw[<-e2]at c2
     congr 1
     exact Int.le_antisymm c1' c2
   ·exact q.elim
  ·exact q.elim
 ·exact q.elim
theorem ZMO(hc:X.calm=vH):CallR X (.builtin "max") (lRn X.K E Hm):=by
 intro vE s σ H vs us Q I rs h;obtain⟨a,G,ds,hk,rfl,sm,r,q⟩:=h;unfold Hm at q;split at q
 ·rename_i d;obtain⟨v,rfl,rv⟩:=reps1 r;split at q
  ·rename_i xs hs;split at q
   ·rename_i n ns hn;cases Tt hn;obtain⟨p,ws,rfl,h1,r1⟩:=Jf sm rv hs;cases Xa r1;rw[hk]at h1;obtain⟨u,rfl,ru⟩:=vals1 rs;cases ru;refine call_max_walk (T7 I hc h1 λit fp wr its St s₂ hv W st hfp fin=>⟨it,fp,wr,its.toArray.size,_,St,_,rfl,W,st,hfp,?_,CmpOf.ints_gt (λi=>(n::ns).getD i 0) (λi w hw=>(intAt hv hw).2),λw h' tk hw kk=>?_⟩)
    ·rw[zY,<-hv.length];simp
    ·obtain⟨hl,t,rfl⟩:=intAt hv hw;obtain⟨b1,b2⟩:=argBest_gt (λi=>(n::ns).getD i 0) (its.toArray.size-1);refine⟨.int (ns.foldl max n),a.H,fin h' tk kk,⟨t,?_⟩,q a _ (Ext.refl a) sm rfl⟩;have hsz:its.toArray.size=ns.length+1:=by rw[zY,<-hv.length];simp
     obtain⟨m1,m2,m3⟩:=ZC5 ns n;have hle:∀x∈n::ns,x<=ns.foldl max n:=λx hx=>by
      rcases zq.mp hx with rfl|hx
      ·exact m1
      ·exact m2 x hx
     have hin:ns.foldl max n∈n::ns:=by
      rcases m3 with h|h
      ·rw[h];exact zW
      ·exact zZ _ h
     obtain⟨j,hj,ej⟩:=qE hin;have c1:=b2 j (by simp at hj;lia);have c2:=hle _ (q9 hl);have e1:(n::ns).getD j 0=ns.foldl max n:=by rw[zD,zX hj];exact ej
     have e2:(n::ns).getD (argBest (λi j=>decide ((λi=>(n::ns).getD i 0) i>(λi=>(n::ns).getD i 0) j)) (its.toArray.size-1)) 0=(n::ns)[argBest (λi j=>decide ((λi=>(n::ns).getD i 0) i>(λi=>(n::ns).getD i 0) j)) (its.toArray.size-1)]:=by rw[zD,zX hl];rfl
     have c1':=c1;rw[e1]at c1';rw[<-e2]at c2
     congr 1
     exact Int.le_antisymm c2 c1'
   ·exact q.elim
  ·exact q.elim
 ·exact q.elim
def Ik:D->D->DH->R D
 |.ref p,.int k,G=>match G[p]? with
  |some (.lst xs)=>if -(2^63)<=k/\k<2^63/\xs.length*k.toNat<=1000000 then .ok (.ref G.length) (G++[.lst (zV k.toNat xs).flatten])else .bad
  |_=>.bad
 |_,_,_=>.bad
theorem Reps.rep(r:Reps a ds vs):∀k,Reps a (zV k ds).flatten (zV k vs).flatten
 |0=>rfl
 |k+1=>by rw[qW,qW,qI,qI];exact r.append (Reps.rep r k)
theorem ZQE:OpR X (xN .Mult) (lR2 X.K E Ik):=ZMN.mono λx y H Q h=>by
 obtain⟨a,G,d,e,hk,rfl,s,rd,re,q⟩:=h;cases d with
 | ref p=>
  cases e with
  | int k=>
   unfold Ik at q;dsimp only at q;split at q
   ·rename_i xs hx;split at q
    ·rename_i hc;obtain⟨vs,e1,r1⟩:=s.lst hx;obtain⟨hp,rfl⟩:=rd;refine⟨a.m p,k,vs,rfl,re,e1,hc.1,hc.2.1,?_,λp hp=>Jq s (Reps.rep r1 k.toNat) q p hp⟩;rw[<-r1.length];exact zC hc.2.2 size6
    ·exact q.elim
   ·exact q.elim
  |_=>exact(show False from q).elim
 |_=>exact(show False from q).elim
end
end _D
namespace _D
open PySem PySem.W PyProof.Rows
def Safe(n:Nat){α:Type}(P:α->Prop):KasT α->Prop
 |.ret a=>P a
 |.ask i j k=>i<n/\j<n/\∀b,Safe n P (k b)
theorem Safe.bind{α β:Type}{f:α->KasT β}{P:α->Prop}{Q:β->Prop}(h2:∀a,P a->Safe n Q (f a)):∀{t:KasT α},Safe n P t->Safe n Q (t.bind f)
 |.ret a,h=>h2 a h
 |.ask _ _ _,h=>⟨h.1,h.2.1,λb=>Safe.bind h2 (h.2.2 b)⟩
def Ents(n:Nat)(p:Array Nat):Prop:=0<n/\p.Perm (zQ n).toArray
theorem Ents.lt(h:Ents n p)(hx:x∈p):x<n:=by have:=h.2.mem_iff.mp hx;simpa using this
theorem Ents.pt(h:Ents n p)(k:Nat):p.getD k 0<n:=by
 by_cases hk:k<p.size
 ·have:p.getD k 0=p[k]:=by simp[Array.getD,hk]
  rw[this];exact h.lt (Array.getElem_mem hk)
 ·have:p.getD k 0=0:=by simp[Array.getD,hk]
  rw[this];exact h.1
theorem Ents.perm(h:Ents n p)(e:q.Perm p):Ents n q:=⟨h.1,e.trans h.2⟩
theorem ZCQ(h:Ents n p):∀f m,Safe n (λ_=>True) (kas_asc p f m)
 |0,m=>trivial
 | f+1,m=>⟨h.pt _,h.pt _,λb=>by
   cases b with
   |true=>exact trivial
   |false=>exact ZCQ h f (m+1)⟩
theorem Rn:∀f{p:Array Nat}m q,Ents n p->Safe n (λr=>Ents n r.1) (kas_desc f p m q)
 |0,p,m,q,h=>h
 | f+1,p,m,q,h=>⟨h.pt _,h.pt _,λb=>by
   cases b with
   |true=>
    by_cases hq:q>0
    ·simp only[if_true,if_pos hq];exact Rn f _ _ (h.perm (mirror_perm ..))
    ·simp only[if_true,if_neg hq];exact Rn f _ _ h
   |false=>
    refine⟨h.pt _,h.pt _,λd=>?_⟩;cases d with
    |true=>exact h
    |false=>exact Rn f _ _ h⟩
theorem ZJB(h:Ents n p)(m k:Nat):Safe n (λr=>Ents n r.2) (kas_tail3 m k p):=by unfold kas_tail3;refine Safe.bind (P:=λ_=>True) (λa _=>?_) (ZCQ (h.perm (mirror_perm ..)) _ _);exact h.perm (mirror_perm ..)
theorem ZH5(h:Ents n p)(m k:Nat):Safe n (λr=>Ents n r.2) (kas_descPart m k p):=
 Safe.bind (P:=λr=>Ents n r.1) (λa ha=>by
  split
  ·exact ZJB (ha.perm (mirror_perm ..)) _ _
  ·exact ZJB ha _ _) (Rn _ _ _ h)
theorem ZJv(h:Ents n p)(k:Nat):Safe n (λr=>Ents n r.2) (kas_count k p):=
 Safe.bind (P:=λ_=>True) (λa _=>by
  split
  ·exact h
  ·split
   ·refine⟨h.pt _,h.pt _,λc=>?_⟩;cases c with
    |true=>exact h
    |false=>exact ZH5 (h.perm (mirror_perm ..)) _ _
   ·exact ZH5 h _ _) (ZCQ h _ _)
theorem U9(h:Ents n p)(k:Nat):∀f l r,Safe n (λ_=>True) (kas_place p k f l r)
 |0,l,r=>trivial
 | f+1,l,r=>by
  unfold kas_place;split
  ·trivial
  ·refine⟨h.pt _,h.pt _,λc=>?_⟩;cases c with
   |true=>exact U9 h k f _ _
   |false=>exact U9 h k f _ _
theorem ZGg:∀f{p:Array Nat}k,Ents n p->Safe n (λ_=>True) (kas_bin f p k)
 |0,p,k,h=>trivial
 |f+1,p,k,h=>Safe.bind (P:=λ_=>True) (λa _=>ZGg f _ (h.perm (bubble_perm ..))) (U9 h k _ _ _)
theorem ZOt(hn:0<n):Safe n (λ_=>True) (kas_sort n):=
 Safe.bind (P:=λr=>Ents n r.2) (λa ha=>by
  split
  ·exact ZGg _ _ ha
  ·trivial) (ZJv ⟨hn,Array.Perm.refl _⟩ _)
end _D
namespace _D
open PySem PySem.Spec _L
open PyProof.Rows hiding St
def ltL:List D->List D->Option Bool
 |[],[]=>vF vI
 |[],_::_=>vF vH
 |_::_,[]=>vF vI
 |.int a::r,.int b::r'=>if a=b then ltL r r' else vF (decide (a<b))
 |.str a::r,.str b::r'=>if a=b then ltL r r' else vF (decide (a.cps.toList<b.cps.toList))
 |_::_,_::_=>vG
def ltD:D->D->Option Bool
 |.tup xs,.tup ys=>ltL xs ys
 |_,_=>vG
def ltI(xs:List D)(i j:Nat):Bool:=(ltD (xs.getD i .non) (xs.getD j .non)).getD vI
def isIt:D->Bool
 |.tup (.int _::_)=>vH
 |_=>vI
def Rt:D->Bool
 |.tup (.str _::_)=>vH
 |_=>vI
def Mg(xs:List D):Bool:=(xs.all isIt||xs.all Rt)&&xs.all λx=>xs.all λy=>(ltD x y).isSome
def Jz(xs:List D):List D:=if xs.length<2 then xs else(Br (ltI xs) (PySem.W.kas_sort xs.length)).toList.map λi=>xs.getD i .non
def Mf(ds:List D)(G:DH):R D:=match ds with
 |[d]=>match Gs d G with
  |some xs=>if(xs.length<64/\(Jz xs).length<64)/\Mg xs=vH then .ok (.ref G.length) (G++[.lst (Jz xs)])else .bad
  |none=>.bad
 |_=>.bad
theorem ZF9(h:∀i j,i<n->j<n->∀C:Bool->xC->Prop,C (lt i j) s->cmp i j C s){α:Type}{P:α->Prop}{Q:α->xC->Prop}:
  ∀{t:PySem.W.KasT α},Safe n P t->Q (Br lt t) s->t.kasWp cmp Q s
 |.ret _,_,hq=>hq
 |.ask i j k,hs,hq=>h i j hs.1 hs.2.1 _ (ZF9 h (hs.2.2 (lt i j)) hq)
section
variable{prog:xA}{w:xF}{A:xw}{s:xC}
theorem ZPX(h:Q (decide (a<b)) s):vq (vJ prog w) A (oneLt' c (.int a t) (.int b u)) Q E s:=by
 cases c with
 |true=>exact oneLt_int h
 |false=>exact PySem.W.kat_one _ _ (lt_int (Q:=PySem.W.BoolBack Q) h)
theorem ZSn(h:Q (decide (a.cps.toList<b.cps.toList)) s):vq (vJ prog w) A (oneLt' c (.str a t) (.str b u)) Q E s:=by
 cases c with
 |true=>exact oneLt_str h
 |false=>exact PySem.W.kat_one _ _ (lt_str (Q:=PySem.W.BoolBack Q) h)
theorem ZB2:∀{xs ys:List D}{vs ws:List V}{us zs:List xE}{i:Nat}{k:Bool},Reps a xs vs->Reps a ys ws->Vals vs us->Vals ws zs->ltL xs ys=vF k->fin=decide (us.length<zs.length)->Q k s->
  PySem.W.KatLex prog w A vH fin Q (us.zip zs) i s
 |[],[],vs,ws,us,zs,i,k,r1,r2,v1,v2,h,hf,hq=>by
  cases(show vs=[]from r1);cases(show ws=[]from r2);cases v1;cases v2
  cases h;subst hf;exact PySem.W.kat_nil hq
 |[],y::ys,vs,ws,us,zs,i,k,r1,r2,v1,v2,h,hf,hq=>by
  cases(show vs=[]from r1);cases v1
  obtain⟨w1,wr,rfl,_,_⟩:=r2;cases v2;cases h;subst hf;exact PySem.W.kat_nil (by simpa using hq)
 |x::xs,[],vs,ws,us,zs,i,k,r1,r2,v1,v2,h,hf,hq=>by
  cases(show ws=[]from r2);cases v2
  obtain⟨w1,wr,rfl,_,_⟩:=r1;cases v1;have hk:k=vI:=by cases x<;>(simp[ltL]at h;exact h)
  subst hk;subst hf;exact PySem.W.kat_nil (by simpa using hq)
 | x::xs,y::ys,vs,ws,us,zs,i,k,r1,r2,v1,v2,h,hf,hq=>by
  have hcase:(∃m n,x=.int m/\y=.int n)∨(∃m n,x=.str m/\y=.str n):=by
   cases x<;>cases y<;>first
    |exact .inl ⟨_,_,rfl,rfl⟩
    |exact .inr ⟨_,_,rfl,rfl⟩
    |(exfalso;simp[ltL]at h)
  obtain⟨v0,vr,rfl,e1,r1⟩:=r1;obtain⟨w0,wr,rfl,e2,r2⟩:=r2;rcases hcase with⟨m,n,rfl,rfl⟩|⟨m,n,rfl,rfl⟩
  ·cases(show v0=V.int m from e1)
   cases(show w0=V.int n from e2)
   cases v1 with
   | cons q1 v1=>
    cases v2 with
    | cons q2 v2=>
     obtain⟨t,rfl⟩:=q1;obtain⟨u,rfl⟩:=q2;rw[List.zip_cons_cons];refine PySem.W.kat_cons (wpAny_eqBool_int (PySem.W.kat_go (λhe=>?_) λhe=>?_))
     ·have e:m=n:=by simpa using he
      rw[show ltL (.int m::xs) (.int n::ys)=if m=n then ltL xs ys else vF (decide (m<n))from rfl,if_pos e]at h
      exact PySem.W.kat_yes (ZB2 r1 r2 v1 v2 h (by simpa using hf) hq)
     ·have e:m≠n:=by simpa using he
      rw[show ltL (.int m::xs) (.int n::ys)=if m=n then ltL xs ys else vF (decide (m<n))from rfl,if_neg e]at h
      cases h;exact PySem.W.kat_no (ZPX hq)
  ·cases(show v0=V.str m from e1)
   cases(show w0=V.str n from e2)
   cases v1 with
   | cons q1 v1=>
    cases v2 with
    | cons q2 v2=>
     obtain⟨t,rfl⟩:=q1;obtain⟨u,rfl⟩:=q2;rw[List.zip_cons_cons];refine PySem.W.kat_cons (wpAny_eqBool_str (PySem.W.kat_go (λhe=>?_) λhe=>?_))
     ·have e:m=n:=by simpa using he
      rw[show ltL (.str m::xs) (.str n::ys)=if m=n then ltL xs ys else vF (decide (m.cps.toList<n.cps.toList))from rfl,if_pos e]at h
      exact PySem.W.kat_yes (ZB2 r1 r2 v1 v2 h (by simpa using hf) hq)
     ·have e:m≠n:=by simpa using he
      rw[show ltL (.str m::xs) (.str n::ys)=if m=n then ltL xs ys else vF (decide (m.cps.toList<n.cps.toList))from rfl,if_neg e]at h
      cases h;exact PySem.W.kat_no (ZSn hq)
end
section
variable{X:Cx}{E:XK}{vE:List (xj×Obj)}{σ:St}{s:xC}{H:Hp}{h':Heap}
theorem ZGU(I:Inv X vE σ H s)(k:∀b o,b≠X.env.locals->s.heap.get? b=vF o->h'.get? b=vF o)(ns:∀m,s.heap.Ns X.env.locals m->h'.Ns X.env.locals m):Inv X vE σ H {s with heap:=h',toks:=t'}:=by
 refine I.step (g':=s.gens) (d':=s.drawn) (ch:=[]) (λ_ z=>nomatch z) (λb o hL _ _ e _=>k b o hL e) (λb o hL _ _ e _=>⟨o.slots,k b o hL e⟩) (λ_ _ _ _ n=>n) (λb o _ e=>?_) (λ_ _ e=>e) (λ_ _ _ e=>e)
  (λb ps e=>⟨#[],by rw[e];simp⟩) ns (λb u e=>?_) I.bare
 ·by_cases hb:b=X.env.locals
  ·obtain⟨m,hn,_⟩:=I.loc;obtain⟨o',_,_,ho',_⟩:=ns m hn;exact⟨o',by rw[hb];exact ho'⟩
  ·exact⟨o,k b o hb e⟩
 ·have nL:∀c w,H c=vF w->c≠X.env.locals:=λc w e z=>by rw[z,I.free]at e;cases e
  refine(I.hok b u e).stay (λc v hc q=>k c v ?_ q) (λ_ q=>q) λ_ _ q=>q
  rcases hc with z|z
  ·rw[z];exact nL b u e
  ·exact nL c _ z
end
section
variable{prog:xA}{w:xF}{A:xw}{E:xE->xC->Prop}{s:xC}
theorem ZL3{l:xj}{vs:List xE}{Q:xE->xC->Prop}(hl:s.heap.IsList l vs.toArray)(hz:vs.length<64)
  (h:∀h1,h1.get? (s.heap.objs.size+1)=vF (seqObj "list" vs.toArray 0)->(∀b o,s.heap.get? b=vF o->h1.get? b=vF o)->
   vq (vJ prog w) A.in1.in1 (Builtin.«list.sort» ⟨[.ref (s.heap.objs.size+1)],[]⟩) (λfin s'=>fin=.done (.ret .none)/\Q (.ref (s.heap.objs.size+1)) s') E {s with heap:=h1}):
  vq (vJ prog w) A (call (.builtin "sorted") [.ref l]) Q E s:=by
 have h64:vs.length<=sizeLine:=by rw[vV];lia
 refine Calls.call_function_entry kind_sorted plain_sorted entry_sorted (args_sorted1 _) ?_;unfold Builtin.«sorted»;refine vj (m:=checkCount "sorted" 1 1 _) (v8 (vj (collect_list hl (vj (wpAny_newList ?_ h64)) h64)))
 generalize hh:(s.heap.push (seqObj "list" #[] 0)).update s.heap.objs.size (Obj.mapSeq (·++vs.toArray))=h0
 have e0:h0.objs.size=s.heap.objs.size+1:=by rw[<-hh,Heap.size_update,size_push']
 have k0:∀b o,s.heap.get? b=vF o->h0.get? b=vF o:=λb o q=>by have hlt:b<s.heap.objs.size:=zw q;rw[<-hh,Heap.get?_update_ne _ _ _ _ (zG hlt),Heap.get?_push_ne _ _ _ (zG hlt)];exact q
 have hD:(h0.push (seqObj "list" vs.toArray 0)).get? (s.heap.objs.size+1)=vF (seqObj "list" vs.toArray 0):=by rw[<-e0];exact zA _ rfl
 have hq:=h (h0.push (seqObj "list" vs.toArray 0)) hD λb o q=>zJ _ (k0 b o q)
 show vq _ _ _ _ _ {s with heap:=h0.push (seqObj "list" vs.toArray 0)};rw[e0];refine vj (v4 (vv slot_list_sort ⟨_,hD,rfl⟩ entry_list_sort ?_ (args_list_sort _)));refine v5 hq (λfin s' hf=>?_) λ_ _ x=>x
 exact⟨_,hf.1,v8 ⟨_,rfl,hf.2⟩⟩
theorem ZTI{a:xj}{vs:List xE}{n:Nat}{P:Fin->xC->Prop}(ho:s.heap.get? a=vF (seqObj "list" vs.toArray n))(h2:vs.length<2)
  (h:∀h' c,h'.get? a=vF (seqObj "list" vs.toArray c)->(∀b o,b≠a->s.heap.get? b=vF o->h'.get? b=vF o)->P (.done (.ret .none)) {s with heap:=h'}):vq (vJ prog w) A (Builtin.«list.sort» ⟨[.ref a],[]⟩) P E s:=by
 have ha:a<s.heap.objs.size:=zw ho;have s1:=qC.update s.heap a (Obj.mapSeq λ_=>(#[]:Array xE));obtain⟨e1,ho1⟩:∃e1,(s.heap.update a (Obj.mapSeq λ_=>(#[]:Array xE))).get? a=vF (seqObj "list" #[] e1):=⟨_,get?_update_seq ho λ_=> #[]⟩;rw[list_sort_plain];refine vj (listItems_at ho rfl (vj (listUpdate_at ho rfl ?_ (by rw[zY,vV];lia) (jI _))))
 refine vj (seqEpoch_at ho1 rfl (vj (wpAny_newTuple (vj (wpAny_newList (v4 ?_) (jI _))) (by show vs.length<=_;rw[vV];lia))));dsimp only;have hn2:vs.toArray.size<2:=by rw[zY];lia
 rw[if_pos hn2,if_pos hn2];refine vj (v8 (vj (wpAny_of_eq (a:=((),SortSt.mk' general' (vs.toArray.zip vs.toArray) #[] 7 vG)) rfl ?_)));dsimp only
 have hout:(arrOf (SortSt.mk' general' (vs.toArray.zip vs.toArray) #[] 7 vG)).map (·.2)=vs.toArray:=by
  show(vs.toArray.zip vs.toArray).map (·.2)=vs.toArray
  refine Array.ext (by simp) λi h1 h2=>by simp
 rw[hout];generalize hh:((s.heap.update a (Obj.mapSeq λ_=>(#[]:Array xE))).push {cls:=.type "tuple",data:=.seq vs.toArray.toList.toArray}).push {cls:=.type "list",data:=.seq ([]:List xE).toArray}=h3;have ho3:h3.get? a=vF (seqObj "list" #[] e1):=by rw[<-hh];exact zJ _ (zJ _ ho1)
 have k3:∀b o,b≠a->s.heap.get? b=vF o->h3.get? b=vF o:=λb o hb q=>by rw[<-hh];exact zJ _ (zJ _ (s1.extBut b o hb q))
 refine vj (seqEpoch_at (o:=seqObj "list" #[] e1) ?_ rfl ?_)
 ·exact ho3
 have s2:=qC.update h3 a (Obj.mapSeq λ_=>vs.toArray);obtain⟨c2,hc2⟩:∃c2,(h3.update a (Obj.mapSeq λ_=>vs.toArray)).get? a=vF (seqObj "list" vs.toArray c2):=⟨_,get?_update_seq ho3 λ_=>vs.toArray⟩;refine vj (listUpdate_at ho3 rfl ?_ (jI _) (by show vs.toArray.size<=_;rw[zY,vV];lia));simp only[bne_self_eq_false,jZ,if_false];exact v8 (h _ c2 hc2 λb o hb q=>s2.extBut b o hb (k3 b o hb q))
end
theorem ZRi:xO "sorted"=vF (.builtin "sorted"):=by decide +kernel
section
variable{X:Cx}{E:XK}{vE:List (xj×Obj)}{σ:St}{s:xC}{H:Hp}
theorem Sv(I:Inv X vE σ a.H s)(hk:a.K=X.K)(r:Rep a d v)(ru:RelV v u)(h:d=.tup xs):∃p o vs us n,u=.ref p/\s.heap.get? p=vF o/\o.cls=.type "tuple"/\o.data=.seq us n/\Vals vs us.toList/\Reps a xs vs:=by subst h;obtain⟨p,vs,rfl,hq,rv⟩:=r;cases ru;rw[hk]at hq;obtain⟨its,rr,⟨o,ho,hc,n,hd⟩,hz⟩:=I.tuple hq;exact⟨p,o,vs,its.toArray,n,rfl,ho,hc,hd,by simpa using rr,rv⟩
theorem ZQO(h:isIt d=vH):∃i r,d=.tup (.int i::r):=by
 unfold isIt at h;split at h
 ·exact⟨_,_,rfl⟩
 ·cases h
theorem ZSy(h:Rt d=vH):∃i r,d=.tup (.str i::r):=by
 unfold Rt at h;split at h
 ·exact⟨_,_,rfl⟩
 ·cases h
theorem ZJP(I:Inv X vE σ a.H s)(hk:a.K=X.K):∀{xs:List D}{vs:List V}{us:List xE},Reps a xs vs->Vals vs us->xs.all isIt=vH->∃fs,PySem.W.KatTups s.heap us fs/\fs.length=us.length/\∀v∈fs,∃i t,v=.int i t
 |[],vs,us,r,v,h=>by
  cases(show vs=[]from r);cases v
  exact⟨[],.nil,rfl,λ_ hm=>nomatch hm⟩
 | d::xs,vs,us,r,v,h=>by
  rw[qO,zE]at h;obtain⟨v0,vr,rfl,e1,r1⟩:=r;cases v with
  | cons q1 v1=>
   obtain⟨i,rr,rfl⟩:=ZQO h.1;obtain⟨p,o,ws,zs,n,rfl,ho,hc,hd,hv,hr⟩:=Sv I hk e1 q1 rfl;obtain⟨w0,wr,rfl,g1,g2⟩:=hr
   cases(show w0=V.int i from g1)
   obtain⟨fs,k1,k2,k3⟩:=ZJP I hk r1 v1 h.2;have hz:∃t,zs[0]?=vF (.int i t):=by
    cases hz:zs.toList with
    |nil=>rw[hz]at hv;cases hv
    | cons z zr=>
     rw[hz]at hv;cases hv with
     |cons q _=>
      obtain⟨t,rfl⟩:=q;exact⟨t,by rw[<-jQ,hz];rfl⟩
   obtain⟨t,hz⟩:=hz;refine⟨.int i t::fs,.cons ho hc hd hz k1,by simp[k2],λv hm=>?_⟩;rcases zq.mp hm with rfl|hm
   ·exact⟨i,t,rfl⟩
   ·exact k3 v hm
theorem ZGS(I:Inv X vE σ a.H s)(hk:a.K=X.K):∀{xs:List D}{vs:List V}{us:List xE},Reps a xs vs->Vals vs us->xs.all Rt=vH->∃fs,PySem.W.KatTups s.heap us fs/\fs.length=us.length/\∀v∈fs,∃i t,v=.str i t
 |[],vs,us,r,v,h=>by
  cases(show vs=[]from r);cases v
  exact⟨[],.nil,rfl,λ_ hm=>nomatch hm⟩
 | d::xs,vs,us,r,v,h=>by
  rw[qO,zE]at h;obtain⟨v0,vr,rfl,e1,r1⟩:=r;cases v with
  | cons q1 v1=>
   obtain⟨i,rr,rfl⟩:=ZSy h.1;obtain⟨p,o,ws,zs,n,rfl,ho,hc,hd,hv,hr⟩:=Sv I hk e1 q1 rfl;obtain⟨w0,wr,rfl,g1,g2⟩:=hr
   cases(show w0=V.str i from g1)
   obtain⟨fs,k1,k2,k3⟩:=ZGS I hk r1 v1 h.2;have hz:∃t,zs[0]?=vF (.str i t):=by
    cases hz:zs.toList with
    |nil=>rw[hz]at hv;cases hv
    | cons z zr=>
     rw[hz]at hv;cases hv with
     |cons q _=>
      obtain⟨t,rfl⟩:=q;exact⟨t,by rw[<-jQ,hz];rfl⟩
   obtain⟨t,hz⟩:=hz;refine⟨.str i t::fs,.cons ho hc hd hz k1,by simp[k2],λv hm=>?_⟩;rcases zq.mp hm with rfl|hm
   ·exact⟨i,t,rfl⟩
   ·exact k3 v hm
theorem ZDK(I:Inv X vE σ a.H s)(sm:Sim a G)(q:out E a (.ok (.ref G.length) (G++[.lst ys])) Q)(r:Reps a ys ws)(v:Vals ws us)(hz:us.length<64)
  (hD:h2.get? (s.heap.objs.size+1)=vF (seqObj "list" us.toArray c)) (k:∀b o,b≠X.env.locals->s.heap.get? b=vF o->h2.get? b=vF o) (ns:∀m,s.heap.Ns X.env.locals m->h2.Ns X.env.locals m):
  EP X vE σ Q (.ref (s.heap.objs.size+1)) {s with heap:=h2}:=by
 have hle:s.heap.objs.size<=s.heap.objs.size+1:=jA _;obtain⟨g0,g1,g2,g3,g4,g5⟩:=I.Ii (H':=a.H) hle (I.hok.fresh hle);have I2:Inv X vE σ a.H {s with heap:=h2}:=ZGU (t':=s.toks) I k ns;refine⟨.ref (s.heap.objs.size+1),_,ZBM I2 g0 (zC I.sz hle) g1 g4 g5 (o:=.lst ws) ⟨?_,us,c,v,hD⟩,rfl,Jq sm r q _ g0⟩;rw[v.length,vV];lia
end
section
variable{X:Cx}{E:XK}
theorem ZRa(h:Mg xs=vH)(hx:x∈xs)(hy:y∈xs):∃k,ltD x y=vF k:=by unfold Mg at h;rw[zE]at h;exact jX.mp (q8.mp (q8.mp h.2 x hx) y hy)
theorem ZMl(h:ltD x y=vF k):∃xs ys,x=.tup xs/\y=.tup ys/\ltL xs ys=vF k:=by
 unfold ltD at h;split at h
 ·exact⟨_,_,rfl,rfl,h⟩
 ·cases h
theorem ZHT(r:Reps a xs vs):∀l:List Nat,(∀i∈l,i<xs.length)->Reps a (l.map λi=>xs.getD i .non) (l.map λi=>vs.getD i .non)
 |[],_=>rfl
 |i::l,h=>by
  have hi:i<xs.length:=h i zW;obtain⟨v,ev,rv⟩:=r.get (i:=i) (d:=xs[i]) (zX hi);refine⟨vs.getD i .non,_,rfl,?_,ZHT r l λj hj=>h j (zZ _ hj)⟩;have e1:xs.getD i .non=xs[i]:=by simp[hi]
  have e2:vs.getD i .non=v:=by rw[zD,ev];rfl
  show Rep a (xs.getD i .non) (vs.getD i .non);rw[e1,e2];exact rv
theorem ZFW(r:Vals vs us):∀l:List Nat,(∀i∈l,i<vs.length)->Vals (l.map λi=>vs.getD i .non) (l.map λi=>us.getD i .none)
 |[],_=>.nil
 |i::l,h=>by
  have hi:i<vs.length:=h i zW;obtain⟨u,eu,ru⟩:=r.get (i:=i) (x:=vs[i]) (zX hi);rw[zk,zk];have e1:vs.getD i .non=vs[i]:=by simp[hi]
  have e2:us.getD i .none=u:=by rw[zD,eu];rfl
  rw[e1,e2];exact .cons ru (ZFW r l λj hj=>h j (zZ _ hj))
theorem ZDX:∀{t:PySem.W.KasT (Array Nat)},Safe n P t->P (Br lt t)
 |.ret _,h=>h
 |.ask i j k,h=>ZDX (t:=k (lt i j)) (h.2.2 (lt i j))
theorem ZDz:∀f{p:Array Nat}k,Ents n p->Safe n (Ents n) (PySem.W.kas_bin f p k)
 |0,p,k,h=>h
 |f+1,p,k,h=>Safe.bind (P:=λ_=>True) (λa _=>ZDz f _ (h.perm (bubble_perm ..))) (U9 h k _ _ _)
theorem ZJD(hn:0<n):Safe n (Ents n) (PySem.W.kas_sort n):=
 Safe.bind (P:=λr=>Ents n r.2) (λa ha=>by
  split
  ·exact ZDz _ _ ha
  ·exact ha) (ZJv ⟨hn,Array.Perm.refl _⟩ _)
theorem ZTP:CallR X (.builtin "sorted") (lRn X.K E Mf):=by
 intro vE s σ H vs us Q I rs h;obtain⟨a,G,ds,hk,rfl,sm,r,q⟩:=h;unfold Mf at q;split at q
 ·rename_i d;obtain⟨v,rfl,rv⟩:=reps1 r;split at q
  ·rename_i xs hs;split at q
   ·rename_i hc;obtain⟨p,ws,rfl,h1,r1⟩:=Ph sm rv hs;rw[hk]at h1;obtain⟨u,rfl,ru⟩:=vals1 rs;cases ru;obtain⟨its,hv,pl,hz⟩:=I.list h1;have hlx:xs.length=its.length:=r1.length.trans hv.length;refine ZL3 pl.isList (by lia) λh1 hD k1=>?_
    obtain⟨m,hn,_⟩:=id I.loc;have hns1:h1.Ns X.env.locals m:=hn.keeps k1;have hDL:s.heap.objs.size+1≠X.env.locals:=jy (qR I.lt);have nsAll:∀{h2:Heap},h2.Ns X.env.locals m->∀m',s.heap.Ns X.env.locals m'->h2.Ns X.env.locals m':=λ{h2}hh m' hm'=>by have e1:=hn.eq_nsMap;have e2:=hm'.eq_nsMap;rw[e2,<-e1];exact hh
    by_cases hlen:xs.length<2
    ·refine ZTI (s:={s with heap:=h1}) hD (by lia) λh2 c hD2 k2=>⟨rfl,?_⟩
     have es:Jz xs=xs:=by unfold Jz;rw[if_pos hlen]
     rw[es]at q;refine ZDK I sm q r1 hv (by lia) hD2 (λb o hb e=>k2 b o ?_ (k1 b o e)) (nsAll (hns1.at λo e=>k2 _ o (Ne.symm hDL) e));exact zG (qR (zw e))
    ·have es:Jz xs=(Br (ltI xs) (PySem.W.kas_sort xs.length)).toList.map λi=>xs.getD i .non:=by unfold Jz;rw[if_neg hlen]
     rw[es]at q;refine PySem.W.kat_list_sort (s:={s with heap:=h1}) (Att.ZTt hns1) (news:=Att.ledger h1 X.env.locals (s.heap.objs.size+1)) ?_ hD hDL (Att.Yk _ _) (λ⟨_,_⟩ hp=>(Att.O1.mp hp).2.1) (by lia) (by lia) λe1 h2 F2 N2=>?_
     ·rintro⟨b,o⟩ hp;obtain⟨n1,n2,e⟩:=Att.O1.mp hp;exact⟨e,n1,Att.Yk _ _⟩
     have k2:∀b o,b≠X.env.locals->s.heap.get? b=vF o->h2.get? b=vF o:=λb o hb e=>
      (N2 (b,o) (zZ _ (Att.O1.mpr ⟨hb,zG (qR (zw e)),k1 b o e⟩))).1
     have I2:Inv X vE σ a.H {s with heap:=h2}:=ZGU (t':=s.toks) I k2 (nsAll F2.ns);have hpos:0<its.length:=by lia
     have fin:(PySem.W.kas_sort its.length).kasWp (PySem.W.kas_ask X.prog X.w X.A.in1.in1 (tuples' vH) its) (λp s''=>PySem.W.KasFin (Att.Sd h1) X.env.locals m (s.heap.objs.size+1) e1 (p.toList.map λi=>its.getD i Value.none) (λs3=>PySem.Fin.done (.ret .none)=PySem.Fin.done (.ret .none)/\EP X vE σ Q (.ref (s.heap.objs.size+1)) s3) s'') {s with heap:=h2}:=by
      refine ZF9 (lt:=ltI xs) (λi j hi hj C hC=>?_) (ZJD hpos) ?_
      ·have hxi:i<xs.length:=by lia
       have hxj:j<xs.length:=by lia
       obtain⟨v1,ev1,rv1⟩:=r1.get (i:=i) (d:=xs[i]) (zX hxi);obtain⟨v2,ev2,rv2⟩:=r1.get (i:=j) (d:=xs[j]) (zX hxj);obtain⟨u1,eu1,ru1⟩:=hv.get ev1;obtain⟨u2,eu2,ru2⟩:=hv.get ev2;obtain⟨k,hlt⟩:=ZRa hc.2 (q9 hxi) (q9 hxj);obtain⟨as,bs,ea,eb,hlL⟩:=ZMl hlt;obtain⟨p1,o1,vs1,us1,n1,rfl,ho1,_,hd1,hv1,hr1⟩:=Sv I2 hk rv1 ru1 ea;obtain⟨p2,o2,vs2,us2,n2,rfl,ho2,_,hd2,hv2,hr2⟩:=Sv I2 hk rv2 ru2 eb
       have hC':C k {s with heap:=h2}:=by
        have:ltI xs i j=k:=by
         unfold ltI;have e1:xs.getD i .non=xs[i]:=by simp[hxi]
         have e2:xs.getD j .non=xs[j]:=by simp[hxj]
         rw[e1,e2,hlt];rfl
        rw[<-this];exact hC
       unfold PySem.W.kas_ask;have g1:its.getD i Value.none=.ref p1:=by rw[zD,eu1];rfl
       have g2:its.getD j Value.none=.ref p2:=by rw[zD,eu2];rfl
       rw[g1,g2];exact PySem.W.kat_lt ho1 hd1 ho2 hd2 (ZB2 hr1 hr2 hv1 hv2 hlL (by simp) hC')
      ·have hen:Ents its.length (Br (ltI xs) (PySem.W.kas_sort its.length)):=ZDX (ZJD hpos);rw[hlx]at q;refine PySem.W.KasFin.intro F2 N2 (.head λ⟨_,_⟩ hp=>(Att.O1.mp hp).2.1) λh3 c F3 N3=>⟨rfl,?_⟩
       have hin:∀i∈(Br (ltI xs) (PySem.W.kas_sort its.length)).toList,i<its.length:=λi hi=>hen.lt (by simpa using hi)
       refine ZDK I sm q (ZHT r1 _ λi hi=>by rw[hlx];exact hin i hi) (ZFW hv _ λi hi=>by rw[hv.length];exact hin i hi) ?_ (N3 _ zW).1 (λb o hb e=>?_) (nsAll F3.ns)
       ·rw[hlx]at es;have:=hc.1.2;rw[es]at this;simpa using this
       ·exact(N3 (b,o) (zZ _ (Att.O1.mpr ⟨hb,zG (qR (zw e)),k1 b o e⟩))).1
     unfold Mg at hc;rw[zE,jL]at hc;rcases hc.2.1 with hall|hall
     ·obtain⟨fs,t1,t2,t3⟩:=ZJP I2 hk r1 hv hall;refine PySem.W.kat_kind (T:=.type "int") t1 (by lia) (λv hm=>?_) (by decide) ?_
      ·obtain⟨i,t,rfl⟩:=t3 v hm;exact PySem.W.Looks.now
      ·exact fin
     ·obtain⟨fs,t1,t2,t3⟩:=ZGS I2 hk r1 hv hall;refine PySem.W.kat_kind (T:=.type "str") t1 (by lia) (λv hm=>?_) (by decide) ?_
      ·obtain⟨i,t,rfl⟩:=t3 v hm;exact PySem.W.Looks.now
      ·exact fin
   ·exact q.elim
  ·exact q.elim
 ·exact q.elim
end
section
variable{S:DSt}{G:DH}
@[simp]theorem ZVc:Js to ti te f S G=(to S G).toS λo G1=>(ti S G1).toS λi G2=>(ixL o i G2).toS λx G3=>(te S G3).toS λy G4=>(f x y G4).toS λz G5=>(K3 o i z G5).toS λ_ G6=>.nx S G6:=id rfl
theorem Rg(h:G[p]?=vF (.lst xs))(e:atI xs k=vF d):ixL (.ref p) (.int k) G=.ok d G:=by unfold ixL;simp only;rw[h];simp only;rw[e]
def Dm(xs:List D):List D:=xs.zipIdx.map λq=>.tup [.int q.2,q.1]
def Ke(xs ys:List D):List D:=(xs.zip ys).map λq=>.tup [q.1,q.2]
theorem ZDh{f:Nat->DH->Option (Option D)}{g:DG}{b:DS}{xs:List D}(h:∀j G,f j G=vF xs[j]?):∀(n j:Nat),j+n=xs.length->∀S G,Dh f g b n j S G=Aq g b (xs.drop j) S G
 |0,j,e,S,G=>by
  unfold Dh;rw[h,z0 (by lia),qX (by lia)]
  rfl
 |n+1,j,e,S,G=>by
  have hj:j<xs.length:=by lia
  unfold Dh;rw[h,zX hj,qZ hj,Bu];have:Dh f g b n (j+1)=Aq g b (xs.drop (j+1)):=by funext S G;exact ZDh h n (j+1) (by lia) S G
  rw[this]
theorem O4(h:∀j G,f j G=vF xs[j]?)(hn:n=xs.length):Dh f g b n 0 S G=Aq g b xs S G:=by rw[ZDh h n 0 (by lia)];rfl
theorem Vj(j:Nat)(G:DH):Dp 0 (.fl xs) j G=vF (Dm xs)[j]? :=by
 unfold Dp Dm;simp only[Bg,zx,List.getElem?_zipIdx]
 cases xs[j]?<;>simp
theorem ZPB(j:Nat)(G:DH):Dp 0 (.tup xs) j G=vF (Dm xs)[j]? :=by
 unfold Dp Dm;simp only[Bg,zx,List.getElem?_zipIdx]
 cases xs[j]?<;>simp
theorem Ir:(Dm xs).length=xs.length:=by simp[Dm]
@[simp]theorem ZVo:Ey [.fl xs] G=.ok (.fn xs.length (Dp 0 (.fl xs))) G:=by simp[Ey,Iw,Bg,lenOf]
@[simp]theorem ZP5:Dh (Dp 0 (.fl xs)) g b xs.length 0 S G=Aq g b (Dm xs) S G:=O4 Vj Ir.symm
@[simp]theorem ZVG:Dh (Dp 0 (.tup xs)) g b xs.length 0 S G=Aq g b (Dm xs) S G:=O4 ZPB Ir.symm
theorem ZH8{f:Nat->DH->Option (Option D)}{g:DG}{c:DB}{te:DE}{F:D->Option D}{xs:List D}(hf:∀j,f j G=vF xs[j]?)(h:∀x∈xs,CStep g c te S G x (F x)):
  ∀(n j:Nat),xs.length<=j+n->Dc f g c te S n j G=.ok ((xs.drop j).filterMap F) G
 |0,j,hj=>by
  unfold Dc;rw[hf,z0 (by lia)];simp only;rw[qX (by lia)]
  rfl
 | n+1,j,hj=>by
  unfold Dc;rw[hf];by_cases hlt:j<xs.length
  ·have ih:=ZH8 hf h n (j+1) (by lia);obtain⟨S1,h1,h2⟩:=h xs[j] (q9 hlt);rw[zX hlt];simp only[h1,R.Hk];rw[qZ hlt,qA];rcases h2 with⟨h2,h3⟩|⟨h2,d,h3,h4⟩
   ·simp[h2,h3,ih]
   ·simp[h2,h3,h4,ih]
  ·rw[z0 (by lia),qX (by lia)]
   rfl
theorem V4{f:Nat->DH->Option (Option D)}{g:DG}{c:DB}{te:DE}{F:D->Option D}{xs:List D}{n:Nat}(hf:∀j,f j G=vF xs[j]?)(h:∀x∈xs,CStep g c te S G x (F x))(hn:xs.length<=n):
  Dc f g c te S n 0 G=.ok (xs.filterMap F) G:=ZH8 hf h n 0 (by lia)
theorem Xy(hd:Bg d G=vF xs)(he:Bg e G=vF ys)(j:Nat):Ew [d,e] j G=vF (Ke xs ys)[j]? :=by
 unfold Ew Ke;simp only[Gq,hd,he,zx,List.getElem?_zip_eq_some]
 have ez:(xs.zip ys)[j]?=match xs[j]?,ys[j]? with
  |some x,vF y=>vF (x,y)
  |_,_=>vG:=by
  rw[List.zip,List.getElem?_zipWith]
  cases xs[j]?<;>cases ys[j]?<;>rfl
 rw[ez];cases xs[j]? with
 |none=>rfl
 |some x=>
  cases ys[j]? with
  |none=>rfl
  |some y=>rfl
theorem Ux(hd:Bg d G=vF xs)(he:Bg e G=vF ys):Ex 2 [d,e] G=.ok (.fn xs.length (Ew [d,e])) G:=by simp[Ex,Iw,hd,he,lenOf]
@[simp]theorem ZFq:Bg (.fl xs) G=vF xs:=id rfl
@[simp]theorem Jh:Bg (.tup xs) G=vF xs:=id rfl
theorem ZTr(h:G[i]?=vF (.lst xs)):Bg (.ref i) G=vF xs:=by simp[Bg,h]
theorem ZIR(h:Bg d G=vF ((n::ns).map D.int)):Hi [d] G=.ok (.int (ns.foldl min n)) G:=by simp only[Hi,h,ZCL]
theorem ZEG(h:Bg d G=vF ((n::ns).map D.int)):Hm [d] G=.ok (.int (ns.foldl max n)) G:=by simp only[Hm,h,ZCL]
theorem ZJs{p:Nat}{k:Nat}{d:D}(h:G[p]?=vF (.lst [d]))(hk:k<=1000000):Ik (.ref p) (.int (k:Int)) G=.ok (.ref G.length) (G++[.lst (zV k d)]):=by
 unfold Ik;simp only;rw[h];simp only;have e:(zV k [d]).flatten=zV k d:=by
  induction k with
  |zero=>rfl
  |succ k ih=>rw[qW,qI,ih (by lia),qW];rfl
 rw[if_pos ⟨by lia,by lia,by simpa using hk⟩,Int.toNat_natCast,e]
end
def Bts(i:Int):Prop:=i.natAbs.log2<33554432
def MulB(i j:Int):Prop:=CMul i j∨(Bts i/\Bts j)
instance (i:Int):Decidable (Bts i):=by unfold Bts;infer_instance
instance (i j:Int):Decidable (MulB i j):=by unfold MulB;infer_instance
theorem MulB.ok(h:MulB i j):IntMulOk i j:=by
 rcases h with h|⟨h1,h2⟩
 ·exact h.ok
 ·have b:∀k:Int,Bts k->Builtin.Int.intBits k<=33554432:=λk hk=>by
   unfold Builtin.Int.intBits;split
   ·exact jI _
   ·exact hk
  have c1:=b i h1;have c2:=b j h2;have h:Builtin.Int.intTooBig (Builtin.Int.intBits i+Builtin.Int.intBits j)=vI:=by unfold Builtin.Int.intTooBig bitsLine;exact decide_eq_false (by lia)
  unfold IntMulOk;rw[h];simp
section
variable{X:Cx}{E:XK}
theorem ZOB:OpR X (xN .Mult) (rI MulB λi j=>.int (i*j)):=opI λ_ _ _ _ _ _ _ hc q=>mul_int q hc.ok
end
section
variable{i j:Int}{G:DH}
end
section
variable{X:Cx}{E:XK}
end
def Fw(f:Str)(v:D):List (Str×D)->List (Str×D)
 |[]=>[(f,v)]
 |(g,x)::r=>if g=f then(g,v)::r else(g,x)::Fw f v r
theorem RepF.mono(x:Ext a b)(h:RepF a fs us):RepF b fs us:=⟨h.1,h.2.mono x⟩
theorem RepF.cons(h:Rep a d v)(r:RepF a fs us):RepF a ((g,d)::fs) ((g,v)::us):=
 ⟨by simp[r.1],v,us.map (·.2),rfl,h,r.2⟩
theorem RepF.uncons(h:RepF a ((g,d)::fs) us):∃v us',us=(g,v)::us'/\Rep a d v/\RepF a fs us':=by
 obtain⟨h1,h2⟩:=h;cases us with
 |nil=>simp at h1
 |cons q us=>
  obtain⟨g',y⟩:=q;simp only[zk,List.cons.injEq]at h1;obtain⟨rfl,h1⟩:=h1;obtain⟨v,r,e1,r1,r2⟩:=h2;simp only[zk,List.cons.injEq]at e1;obtain⟨rfl,rfl⟩:=e1;exact⟨y,us,rfl,r1,h1,r2⟩
theorem RepF.nil'(h:RepF a [] us):us=[]:=by
 obtain⟨h1,_⟩:=h;cases us with
 |nil=>rfl
 |cons q us=>simp at h1
theorem lkc{α:Type}{f g:Str}{x:α}{fs:List (Str×α)}:jq f ((g,x)::fs)=if(f==g)=vH then vF x else fs.lookup f:=by
 show(match f==g with
  |true=>vF x
  |false=>jq f fs)=_
 cases f==g<;>rfl
theorem RepF.look{a:Wd}{f:Str}{d:D}:∀{fs:List (Str×D)}{us:List (Str×V)},RepF a fs us->fs.lookup f=vF d->∃u,us.lookup f=vF u/\Rep a d u
 |[],us,h,e=>by simp at e
 |(g,x)::fs,us,h,e=>by
  obtain⟨v,us',rfl,hv,hr⟩:=h.uncons;rw[lkc]at e⊢;by_cases q:(f==g)=vH
  ·rw[if_pos q]at e⊢;cases e;exact⟨v,rfl,hv⟩
  ·rw[if_neg q]at e⊢;exact RepF.look hr e
theorem RepF.ZA2{a:Wd}{f:Str}:∀{fs:List (Str×D)}{us:List (Str×V)},RepF a fs us->fs.lookup f=vG->us.lookup f=vG
 |[],us,h,e=>by rw[h.nil'];rfl
 |(g,x)::fs,us,h,e=>by
  obtain⟨v,us',rfl,hv,hr⟩:=h.uncons;rw[lkc]at e⊢;by_cases q:(f==g)=vH
  ·rw[if_pos q]at e;cases e
  ·rw[if_neg q]at e⊢;exact RepF.ZA2 hr e
theorem RepF.put(q:Rep a d v):∀{fs:List (Str×D)}{us:List (Str×V)},RepF a fs us->RepF a (Fw f d fs) (El f v us)
 |[],us,h=>by rw[h.nil'];exact RepF.cons (fs:=[]) (us:=[]) q ⟨rfl,rfl⟩
 |(g,x)::fs,us,h=>by
  obtain⟨w,us',rfl,hv,hr⟩:=h.uncons;unfold Fw El;by_cases e:g=f
  ·rw[if_pos e,if_pos e];exact .cons q hr
  ·rw[if_neg e,if_neg e];exact .cons hv (RepF.put q hr)
theorem RepF.len(h:RepF a fs us):us.length=fs.length:=by have:=congrArg xz h.1;simpa using this.symm
theorem Ext.wrI(h:a.H p=vF (.ins C dx us)):Ext a (a.put p ho):=
 ⟨rfl,zK _,λ_ _=>rfl,λq xs e=>by
  show upd a.H p ho q=_;rw[Al (λz=>by subst z;rw[h]at e;cases e)];exact e,λq o u e=>by
  show upd a.H p ho q=_;rw[Al (λz=>by subst z;rw[h]at e;cases e)];exact e,λ_ t=>t.mono (λq ps e=>by show upd a.H p ho q=_;rw[Al (λz=>by subst z;rw[h]at e;cases e)];exact e) (λq o u e=>by show upd a.H p ho q=_;rw[Al (λz=>by subst z;rw[h]at e;cases e)];exact e)⟩
theorem Sim.wrI(s:Sim a G)(hi:i<a.n)(hn:PySem.W.nsIn a.K vZ c=vF (vF (.ref C)))(h:a.H (a.m i)=vF (.ins C dx us))(r:RepF (a.put (a.m i) (.ins C dx us')) fs' us'):
  Sim (a.put (a.m i) (.ins C dx us')) (G.set i (.ins c fs')):=by
 refine⟨by rw[j9];exact s.len,s.inj,λj o e=>?_,λj hj=>?_⟩
 ·rw[jY]at e;show ORep _ o (upd a.H (a.m i) (.ins C dx us') (a.m j));by_cases hij:i=j
  ·subst hij;rw[if_pos rfl,if_pos (by rw[s.len];exact hi)]at e;cases e;rw[Ei];exact⟨C,dx,us',hn,rfl,r⟩
  ·rw[if_neg hij]at e;rw[Al λz=>hij (s.inj _ _ (s.lt e) hi z).symm];exact(s.obj j o e).mono (Ext.wrI h)
 ·show upd a.H (a.m i) (.ins C dx us') (a.m j)≠vG;by_cases hij:a.m j=a.m i
  ·rw[hij,Ei];simp
  ·rw[Al hij];exact s.tr j hj
def Il(c:Str)(d:D)(G:DH):Option (List (Str×D)):=match d with
 |.ref i=>match G[i]? with
  |some (.ins c' fs)=>if c'=c then vF fs else vG
  |_=>vG
 |_=>vG
theorem Sim.ins(s:Sim a G)(r:Rep a d x)(h:Il c d G=vF fs):
  ∃i C dx us,d=.ref i/\i<a.n/\x=.ref (a.m i)/\G[i]?=vF (.ins c fs)/\PySem.W.nsIn a.K vZ c=vF (vF (.ref C))/\a.H (a.m i)=vF (.ins C dx us)/\RepF a fs us:=by
 unfold Il at h;split at h
 ·rename_i i;split at h
  ·rename_i c' fs' e;split at h
   ·rename_i hc;subst hc;cases h;obtain⟨l,ev⟩:=r;obtain⟨C,dx,us,n,e1,r1⟩:=s.obj i _ e;exact⟨i,C,dx,us,rfl,l,ev,e,n,e1,r1⟩
   ·cases h
  ·cases h
 ·cases h
def Dv(c:Str)(t:DE)(f:Str):DE:=λS G=>(t S G).bind λd G1=>match Il c d G1 with
 |some fs=>match fs.lookup f with
  |some v=>.ok v G1
  |none=>.bad
 |none=>.bad
def Er(c:Str)(to tv:DE)(f:Str):DS:=λS G=>(tv S G).toS λd G1=>(to S G1).toS λo G2=>match o with
 |.ref i=>match Il c o G2 with
  |some fs=>if fs.length<1000 then .nx S (G2.set i (.ins c (Fw f d fs)))else .bad
  |none=>.bad
 |_=>.bad
def Fv(c:Str)(m:Str)(F:List D->DH->R D)(to:DE)(t:DA):DE:=λS G=>(to S G).bind λo G1=>match Il c o G1 with
 |some fs=>match fs.lookup m with
  |none=>(t S G1).bind λds G2=>F (o::ds) G2
  |some _=>.bad
 |none=>.bad
def Oq(c:Str)(F:List D->DH->R D)(t:DA):DE:=λS G=>(t S G).bind λds G1=>(F (.ref G1.length::ds) (G1++[.ins c []])).bind λv G2=>match v with
 |.non=>.ok (.ref G1.length) G2
 |_=>.bad
section
variable{X:Cx}{E:XK}{c f m:Str}{C:xj}{e o:xk}{es:List xk}{t ta tv:DE}{tr:DA}{pos apos pos':Pos}
theorem ZSg(hn:PySem.W.nsIn X.K vZ c=vF (vF (.ref C)))(hc:Cls X.K C)(hf:NoAttr X.K C f)(ha:QE X E e t)(hb:xH e f X.env (eval e X.env)=eval e X.env:=by rfl):QE X E (.Attribute e f pos) (Dv c t f):=
 (ZNy ha hb).mono λσ H Q h=>by
  obtain⟨a,S,G,hk,rfl,s,r,h⟩:=h;refine⟨a,S,G,hk,rfl,s,r,(Ej h).imp ?_⟩;rintro v _ ⟨b,d,G1,rfl,x,s1,q,-,h1⟩;split at h1
  ·rename_i fs hi;obtain⟨i,C',dx,us,rfl,_,rfl,_,n',e1,r1⟩:=s1.ins q hi;have hCC:C'=C:=by
    rw[x.k,hk,hn]at n';cases n'
    rfl
   subst hCC;split at h1
   ·rename_i d' hd;obtain⟨u,eu,ru⟩:=r1.look hd;exact⟨b.m i,C',dx,us,u,rfl,e1,hc,hf,eu,h1 b u (Ext.refl b) s1 ru⟩
   ·exact h1.elim
  ·exact h1.elim
theorem ZUU(hn:PySem.W.nsIn X.K vZ c=vF (vF (.ref C)))(hc:Cls X.K C)(hf:NoAttr X.K C f)(ha:QE X E o ta)(hv:QE X E e tv)(hs:swapsWith e (vF (.Attribute o f pos')) pos.line X.env=pure vI:=by rfl):
  QS X E (.Assign [.Attribute o f pos'] e pos) (Er c ta tv f):=
 (ZOc ha hv hs).mono λW σ H h=>by
  obtain⟨a,S,G,hk,rfl,s,r,h⟩:=h;refine⟨a,S,G,hk,rfl,s,r,(Gx h).imp ?_⟩;rintro v _ ⟨b,d,G1,rfl,x,s1,q,-,h1⟩;refine⟨b,S,G1,x.k.trans hk,rfl,s1,r.mono x,(Gx h1).imp ?_⟩;rintro v2 _ ⟨b2,d2,G2,rfl,x2,s2,q2,-,h2⟩;split at h2
  ·rename_i i;split at h2
   ·rename_i fs hi;split at h2
    ·rename_i hl;obtain⟨i',C',dx,us,ei,li,rfl,eg,n',e1,r1⟩:=s2.ins q2 hi;cases ei;have hCC:C'=C:=by
      rw[x2.k,x.k,hk,hn]at n';cases n'
      rfl
     subst hCC;have x3:Ext b2 (b2.put (b2.m i) (.ins C' dx (El f v us))):=Ext.wrI e1;have s3:=s2.wrI (fs':=Fw f d fs) li n' e1 (RepF.put ((q.mono x2).mono x3) (r1.mono x3));exact⟨b2.m i,C',dx,us,rfl,e1,hc,hf,by rw[r1.len];exact hl,h2 _ σ x3 s3 (((r.mono x).mono x2).mono x3)⟩
    ·exact h2.elim
   ·exact h2.elim
  ·exact h2.elim
theorem ZKi{sp F:List D->DH->R D}{σ:St}{H:Hp}{Q:VK}(hn:PySem.W.nsIn X.K vZ c=vF (vF (.ref C)))(h:lE X.K E0 (Fv c m F ta tr) σ H Q):ZBX C m (lF X.K F) [] E0 (lE X.K E0 ta) (lA X.K E0 tr) σ H Q:=by
 obtain⟨a,S,G,hk,rfl,s,r,h⟩:=h;refine⟨a,S,G,hk,rfl,s,r,(Ej h).imp ?_⟩;rintro v _ ⟨b,d,G1,rfl,x,s1,q,-,h1⟩;split at h1
 ·rename_i fs hi;obtain⟨i,C',dx,us,rfl,_,rfl,_,n',e1,r1⟩:=s1.ins q hi;have hCC:C'=C:=by
   rw[x.k,hk,hn]at n';cases n'
   rfl
  subst hCC;split at h1
  ·rename_i hm;refine⟨b.m i,dx,us,rfl,e1,r1.ZA2 hm,b,S,G1,x.k.trans hk,rfl,s1,r.mono x,(M3 h1).imp ?_⟩;rintro vs _ ⟨b2,ds,G2,rfl,x2,s2,q2,-,h2⟩;exact⟨b2,G2,.ref i::ds,(x2.k.trans x.k).trans hk,rfl,s2,⟨.ref (b.m i),vs,by rw[j1],q.mono x2,q2⟩,h2⟩
  ·exact h1.elim
 ·exact h1.elim
theorem Sw{CX:CXT}{k:Nat}{g:xj}{fd:xy}{ps:List Str}{F:List D->DH->R D}{pl:Sem Bool}(hn:PySem.W.nsIn X.K vZ c=vF (vF (.ref C)))(hc:Cls X.K C)(hm:Meth X.K C m g)(FF:FnOk X.prog X.w X.K X.mg X.base CX k g fd ps (lF X.K F))(hr:Room k X.A)(hb:Binds X.K fd ps [])
  (hx:Passes CX X E0) (ho:QE X E0 o ta) (ha:QA X E0 (e::es) tr) (he:notStar e=vH:=by rfl) (hpl:es.all notStar=vH:=by rfl)
  (ht:eval (.Call (.Attribute o m apos) (e::es) [] pos) X.env=(do
   let ov<-eval o X.env
   standAt apos.atName
   let(f,first)<-holding [ov] (getMethod ov m pl)
   callWith pos f first (xI pos (vK (e::es) X.env)) (xL pos (xU [] X.env))):=by rfl):QE X E0 (.Call (.Attribute o m apos) (e::es) [] pos) (Fv c m F ta tr):=
 (ZOl (pl:=pl) ho hc hm FF hr hb .nil hx ha (Le e es X.env he) (Nm pos X.env es hpl) ht).mono λσ H Q h=>ZKi (sp:=F) hn h
theorem ZFS(hn:PySem.W.nsIn X.K vZ c=vF (vF (.ref C)))(hc:Cls X.K C)(hm:Meth X.K C m g)(FF:FnOk X.prog X.w X.K X.mg X.base CX k g fd ps (lF X.K F))(hr:Room k X.A)(hb:Binds X.K fd ps [])
  (hx:Passes CX X E0) (ho:QE X E0 o ta)
  (ht:eval (.Call (.Attribute o m apos) [] [] pos) X.env=(do
   let ov<-eval o X.env
   standAt apos.atName
   let(f,first)<-holding [ov] (getMethod ov m pl)
   callWith pos f first (xI pos (vK [] X.env)) (xL pos (xU [] X.env))):=by rfl):QE X E0 (.Call (.Attribute o m apos) [] [] pos) (Fv c m F ta Ab):=
 (ZKf (pl:=pl) ho hc hm FF hr hb .nil hx ht).mono λσ H Q h=>by
  obtain⟨a,S,G,hk,rfl,s,r,h⟩:=h;refine⟨a,S,G,hk,rfl,s,r,(Ej h).imp ?_⟩;rintro v _ ⟨b,d,G1,rfl,x,s1,q,-,h1⟩;split at h1
  ·rename_i fs hi;obtain⟨i,C',dx,us,rfl,_,rfl,_,n',e1,r1⟩:=s1.ins q hi;have hCC:C'=C:=by
    rw[x.k,hk,hn]at n';cases n'
    rfl
   subst hCC;split at h1
   ·rename_i hm;exact⟨b.m i,dx,us,rfl,e1,r1.ZA2 hm,b,G1,[.ref i],x.k.trans hk,rfl,s1,⟨.ref (b.m i),[],rfl,q,rfl⟩,h1⟩
   ·exact h1.elim
  ·exact h1.elim
theorem ZMA(hk:a.K=X.K)(hn:PySem.W.nsIn X.K vZ c=vF (vF (.ref C)))(s:Sim a G)(q:Reps a ds vs)
  (h:out E0 a ((F (.ref G.length::ds) (G++[.ins c []])).bind λv G2=>match v with
   |.non=>.ok (.ref G.length) G2
   |_=>.bad) Q):∀x dx,a.H x=vG->a.H dx=vG->dx≠x->lF X.K F (.ref x::(vs++[])) (upd (upd a.H dx (.own x)) x (.ins C dx [])) (λv H2=>v=.non/\Q (.ref x) H2) E:=λp dx hp hdx hne=>by
 have x1:Ext a (a.put dx (.own p)):=Ext.put hdx;have s1:Sim (a.put dx (.own p)) G:=s.put hdx;have hp1:(a.put dx (.own p)).H p=vG:=by show upd a.H dx (.own p) p=vG;rw[Al λz=>hne z.symm];exact hp
 have x2:Ext (a.put dx (.own p)) ((a.put dx (.own p)).push p (.ins C dx [])):=Ext.push hp1;have s2:Sim ((a.put dx (.own p)).push p (.ins C dx [])) (G++[.ins c []]):=s1.push hp1 ⟨C,dx,[],by show PySem.W.nsIn a.K vZ c=_;rw[hk];exact hn,rfl,rfl,rfl⟩;have hgl:G.length=a.n:=s.len;have mnew:((a.put dx (.own p)).push p (.ins C dx [])).m a.n=p:=by show(if a.n=a.n then p else a.m a.n)=p;rw[if_pos rfl]
 have rp:Rep ((a.put dx (.own p)).push p (.ins C dx [])) (.ref G.length) (.ref p):=by rw[hgl];exact⟨qY _,by rw[mnew]⟩
 refine⟨(a.put dx (.own p)).push p (.ins C dx []),_,.ref G.length::ds,hk,rfl,s2,⟨.ref p,vs,by rw[j1],rp,(q.mono x1).mono x2⟩,(Ej (out.mono (x1.trans x2) h)).imp ?_⟩;rintro v _ ⟨b,d,G1,rfl,x3,s3,q3,-,h3⟩;split at h3
 ·have:v=.non:=q3;exact⟨this,h3 b _ (Ext.refl b) s3 (rp.mono x3)⟩
 ·exact h3.elim
theorem ZLp{CX:CXT}{k:Nat}{g:xj}{fd:xy}{ps:List Str}{F:List D->DH->R D}{p:Pos}(hn:PySem.W.nsIn X.K vZ c=vF (vF (.ref C)))(M:Mk X.K C g)(FF:FnOk X.prog X.w X.K X.mg X.base CX k g fd ps (lF X.K F))(hr:Room (k+1) X.A)(hg:Gl X c)(hm:X.mg c=vF (.ref C))(hb:Binds X.K fd ps [])
  (hx:Passes CX X E0) (ha:QA X E0 (e::es) tr) (hdb:(c==("__debug__":Str))=vI:=by decide) (he:notStar e=vH:=by rfl) (hpl:es.all notStar=vH:=by rfl):QE X E0 (.Call (.Name c p) (e::es) [] pos) (Oq c F tr):=
 (ZKD M FF hr hg hm hb .nil hx ha hdb (Le e es X.env he) (Nm pos X.env es hpl)).mono λσ H Q h=>by obtain⟨a,S,G,hk,rfl,s,r,h⟩:=h;refine⟨a,S,G,hk,rfl,s,r,(M3 h).imp ?_⟩;rintro vs _ ⟨b,ds,G1,rfl,x,s1,q,-,h1⟩;exact ZMA (x.k.trans hk) hn s1 q h1
end
def Iz(d:D)(ds:List D)(G:DH):R D:=match ds with
 | [.int k]=>match Gs d G with
  |some xs=>match Fg xs with
   |some ns=>if k∈ns/\ns.length<=1000000 then .ok (.int (ns.idxOf k)) G else .bad
   |none=>.bad
  |none=>.bad
 |_=>.bad
theorem ZDq:∀{ns:List Int}{vs:List V},Reps a (ns.map D.int) vs->vs=ns.map V.int
 |[],vs,h=>h
 |n::ns,vs,h=>by
  obtain⟨v,r,e,h1,h2⟩:=h
  cases(show v=V.int n from h1)
  rw[e,ZDq h2]
  rfl
theorem Pa:∀{ns:List Int}{us:List xE},Vals (ns.map V.int) us->us.length=ns.length/\∀(j:Nat)(u:xE),us[j]?=vF u->∃t,∃h:j<ns.length,u=.int ns[j] t
 |[],us,h=>by cases h;exact⟨rfl,λj u e=>by simp at e⟩
 | n::ns,us,h=>by
  cases h with
  | cons r rr=>
   obtain⟨h1,h2⟩:=Pa rr;obtain⟨t,rfl⟩:=r;refine⟨by simp[h1],λj u e=>?_⟩;cases j with
   |zero=>simp at e;exact⟨t,by simp,by simpa using e.symm⟩
   |succ j=>
    obtain⟨t',hj,e'⟩:=h2 j u (by simpa using e);exact⟨t',by simpa using hj,by simpa using e'⟩
section
variable{X:Cx}{E:XK}
theorem ZRT:MtM X "list.index" (lRm X.K E Iz):=by
 intro vE s σ H x xs v us Q I rx rxs h;obtain⟨a,G,d,ds,hk,rfl,sm,rd,rds,q⟩:=h;unfold Iz at q;split at q
 ·rename_i k;split at q
  ·rename_i ys hy;split at q
   ·rename_i ns hns;split at q
    ·rename_i hk';obtain⟨hmem,hlen⟩:=hk';obtain⟨p,vs,rfl,hq,rv⟩:=Ph sm rd hy;rw[Tt hns]at rv;rw[ZDq rv,hk]at hq;cases rx;obtain⟨v1,rfl,rv1⟩:=reps1 rds
     cases(show v1=V.int k from rv1)
     obtain⟨u,rfl,ru⟩:=rxs.one;obtain⟨t,rfl⟩:=ru;obtain⟨its,rits,⟨o,n,ho,hc,hdi,hd⟩,hz⟩:=I.list hq;obtain⟨hl1,hl2⟩:=Pa rits;have hlt:ns.idxOf k<ns.length:=qG hmem;have hjs:ns.idxOf k<its.toArray.size:=by simpa[hl1]using hlt
     have hob:o={cls:=.type "list",dict:=o.dict,data:=.seq its.toArray n,slots:=o.slots}:=by
      obtain⟨c1,c2,c3,c4⟩:=o;simp only at hc hd;subst hc;subst hd
      rfl
     rw[hob]at ho
     refine call_meets PySem.F.slot_list_index ⟨_,ho,rfl⟩ PySem.F.entry_list_index (PySem.F.args_list_index_2 _ _) (SeqAt.list_indexAt p its.toArray n o.dict o.slots (.int k t) (λy=>match y with | .int i _=>i==k|_=>vI) (ns.idxOf k) hjs (by lia) ?_ ?_) ⟨ho,λy hy=>?_,?_⟩
     ·have hg:its[ns.idxOf k]?=vF its.toArray[ns.idxOf k]:=by simp[zX (by simpa[hl1]using hlt:ns.idxOf k<its.length)]
      obtain⟨t',h3,e3⟩:=hl2 _ _ hg;rw[e3];simp
     ·intro m hm hlt2;have hml:m<its.length:=by simpa using hm
      have hg:its[m]?=vF its.toArray[m]:=by simp[zX hml]
      obtain⟨t',h3,e3⟩:=hl2 _ _ hg;rw[e3];have:=List.not_of_lt_findIdx (p:=λx=>x==k) (xs:=ns) hlt2;simpa using this
     ·have hy2:y∈its:=by simpa using hy
      obtain⟨m,hm,e⟩:=qE hy2;obtain⟨t',h3,e3⟩:=hl2 m y (by rw[zX hm,e]);rw[e3];exact SeqAt.EqAt.int_int _ _ _ _
     ·exact⟨.int (ns.idxOf k),a.H,I.tok _,⟨_,rfl⟩,q a _ (Ext.refl a) sm rfl⟩
    ·exact q.elim
   ·exact q.elim
  ·exact q.elim
 ·exact q.elim
def tLR(ta:TA):TE:=λσ H Q=>ta σ H λvs H1=>∃j:Int,vs=[.int j]/\ -(2^62)<=j/\j<=1000000/\∀l,H1 l=vG->Q (.ref l) (upd H1 l (.lst ((zQ j.toNat).map λ(i:Nat)=>V.int (i:Int))))
theorem ZQp(h:ItemsOf (λi v=>∃t,v=.int ((0:Int)+i*1) t) acc n):Vals ((zQ n).map λ(i:Nat)=>V.int (i:Int)) acc.toList:=by
 obtain⟨h1,h2⟩:=h;refine ZAd (by simp[h1]) λi v u hv hu=>?_
 have hi:i<n:=by have:=(zH.mp hv).1;simpa using this
 rw[zx,zU hi]at hv;have ev:v=V.int (i:Int):=by simpa using hv.symm
 obtain⟨t,e⟩:=h2 i u (by rw[<-jQ];exact hu);subst ev;refine⟨t,?_⟩;rw[e]
 congr 1
 lia
theorem ZMz{e:xk}{ta:TA}{p p' pos pos':Pos}(hc:X.calm=vH)(hg:Gl X "list")(hm:X.mg "list"=vG)(hg2:Gl X "range")(hm2:X.mg "range"=vG)(ha:PA X [e] ta)(hs:vK [e] X.env=[(vI,eval e X.env)]:=by rfl)
  (hs2:vK [.Call (.Name "range" p') [e] [] pos'] X.env=[(vI,eval (.Call (.Name "range" p') [e] [] pos') X.env)]:=by rfl):PE X (.Call (.Name "list" p) [.Call (.Name "range" p') [e] [] pos'] [] pos) (tLR ta):=by
 intro vE s σ H Q I h;refine Call_ (Hj I hg hm ZG1 (PyProof.Rows.callWith_type1 ?_ hs2 rfl));rw[hs2];refine Calls.spliced_cons (Call_ (Hj I hg2 hm2 PyProof.Rows.boot_range (PyProof.Rows.callWith_type1 (thn (ha pos' vE s σ H _ I h) λus s1 ⟨vs,H1,I1,r1,q1⟩=>?_) hs rfl)));obtain⟨j,rfl,b1,b2,q⟩:=q1;obtain⟨u,rfl,ru⟩:=r1.one;obtain⟨t,rfl⟩:=ru;refine call_range_1 (Calls.spliced_nil ?_)
 have hsz:Builtin.Range.rangeSize 0 j 1=(j.toNat:Int):=by rw[rangeSize_one];split <;> lia
 refine call_list_range (I.ok.hd hc) (IsRange.new ..) (small_one (by decide) (by decide) b1 (by lia)) hsz (by lia) λh' tk acc' c' hk hS' hacc=>?_
 have I2:=I1.kept (t':=s1.toks+1+1) (h':=s1.heap.push {cls:=.type "range",data:=.fields #[.int 0 s1.toks,.int j t,.int 1 (s1.toks+1)]}) λb o e=>zJ _ e
 refine⟨.ref _,_,I2.laid (o:=.lst ((zQ j.toNat).map λ(i:Nat)=>V.int (i:Int))) (t':=tk) hk (zK _) ⟨?_,acc'.toList,c',ZQp hacc,by simpa using hS'⟩,rfl,q _ (I2.hok.fresh (zK _))⟩;rw[qq,List.length_range,vV];lia
def dLR(t:DA):DE:=λS G=>(t S G).bind λds G1=>match ds with
 |[.int j]=>if inR j/\j<=1000000 then .ok (.ref G1.length) (G1++[.lst (Bh 0 j.toNat)])else .bad
 |_=>.bad
theorem ZSa{e:xk}{ta:DA}{p p' pos pos':Pos}(hc:X.calm=vH)(hg:Gl X "list")(hm:X.mg "list"=vG)(hg2:Gl X "range")(hm2:X.mg "range"=vG)(ha:QA X E [e] ta)(hs:vK [e] X.env=[(vI,eval e X.env)]:=by rfl)
  (hs2:vK [.Call (.Name "range" p') [e] [] pos'] X.env=[(vI,eval (.Call (.Name "range" p') [e] [] pos') X.env)]:=by rfl):QE X E (.Call (.Name "list" p) [.Call (.Name "range" p') [e] [] pos'] [] pos) (dLR ta):=
 (ZMz hc hg hm hg2 hm2 ha hs hs2).mono λσ H Q h=>by
  obtain⟨a,S,G,hk,rfl,s,r,h⟩:=h;refine⟨a,S,G,hk,rfl,s,r,(M3 h).imp ?_⟩;rintro vs _ ⟨b,ds,G1,rfl,x,s1,q,-,h1⟩;split at h1
  ·rename_i j;split at h1
   ·rename_i hj;obtain⟨v,rfl,rv⟩:=reps1 q
    cases(show v=V.int j from rv)
    refine⟨j,rfl,hj.1.1,hj.2,λl hl=>Jq s1 ?_ h1 l hl⟩;unfold Bh;generalize zQ j.toNat=L
    induction L with
    |nil=>exact rfl
    |cons k L ih=>exact⟨_,_,rfl,(by show V.int (k:Int)=V.int (0+(k:Int));rw[Int.zero_add]),ih⟩
   ·exact h1.elim
  ·exact h1.elim
def Itd(lo:Int)(n:Nat):It:=⟨λi _=>i<n,λi H x H'=>H'=H/\x=.int (lo-i),λi _=>n<=i⟩
theorem ZSU{P:xA}{w:xF}{K:PySem.W.Frag}{tg:xk}(it:xj)(lo:Int)(n:Nat):Turn P w K tg (Itd lo n) [it] it (λi h=>IsRangeIter h it (lo+(i:Nat)*(-1)) ((n:Int)-(i:Nat)) (-1)) where
 mem:=by simp
 obj:=λi h st b hb=>by
  have e:b=it:=by simpa using hb
  subst e;exact⟨_,st,λv z=>by have z':Data.fields _=Data.cell v:=z;cases z'⟩
 keep:=λi h h' st k=>k it (by simp) _ st
 item:=by
  intro X hP hw hK hc i vE s σ H E I hf st hg;subst hP hw hK;obtain⟨f0,f1,f2,f3,f4,f5⟩:=hf it (by simp);have W:=Walks.range (prog:=X.prog) (w:=X.w) (I.ok.hd hc) it lo (-1) n;refine W.item i s _ _ hg st λv h' tk hv st' kk=>?_
  obtain⟨t,rfl⟩:=hv;have I1:Inv X vE σ H {s with heap:=h',toks:=tk}:=I.turned (λb o hb e=>kk b o (by simpa using hb) e) f0 f1 f3 f4 f5;refine⟨_,rfl,Nk (s:={s with heap:=h',toks:=tk}) (n:="range_iterator") st' rfl rfl (by decide) ⟨.int (lo-i),H,I1,⟨t,?_⟩,⟨rfl,rfl⟩,st',λb hb=>(hf b hb).1⟩⟩
  congr 1
  lia
 done:=by intro X hP hw hK hc i vE s σ H E I hf st hg;subst hP hw hK;obtain⟨f0,f1,f2,f3,f4,f5⟩:=hf it (by simp);exact wpAny_pyNext_range_end (I.ok.hd hc) st (by have:n<=i:=hg;lia) λh' eb=>⟨rfl,I.turned (t':=s.toks) (λb o hb e=>eb b o hb e) f0 f1 f3 f4 f5⟩
 self:=λ_ _ _ _ _ st h=>wpAny_pyIter_rangeiter st h
theorem rangeSize_down(a b:Int):Builtin.Range.rangeSize a b (-1)=if b<a then a-b else 0:=by
 unfold Builtin.Range.rangeSize;rw[if_neg (by decide)];have e:(- (-1:Int))=1:=by decide
 rw[e,Int.ediv_one]
 split <;> lia
theorem small_down(ha: -(2^62)<=a)(ha':a<2^62)(hb: -(2^62)<=b)(hb':b<2^62):Builtin.Range.small a b (-1)=vH:=by
 unfold Builtin.Range.small;rw[rangeSize_down];simp only[Builtin.Range.rangeFitsLong,zE,jL,decide_eq_true_eq,beq_iff_eq,show¬((-1:Int)>0) by decide,if_false]
 split <;> lia
def iDn(ta:TA):TI:=λσ H R=>ta σ H λvs H1=>∃i j:Int,vs=[.int i,.int j,.int (-1)]/\(-(2^62)<=i/\i<2^62/\ -(2^62)<=j/\j<2^62)/\R (Itd i (i-j).toNat) H1
theorem ZRw{tg a b c:xk}{ta:TA}{p pos:Pos}(hg:Gl X "range")(hm:X.mg "range"=vG)(ha:PA X [a,b,c] ta)(hs:vK [a,b,c] X.env=(vI,eval a X.env)::vK [b,c] X.env:=by rfl)(hs2:(xI pos (vK [b,c] X.env)).any (·.1)=vI:=by rfl):
  PI X tg (.Call (.Name "range" p) [a,b,c] [] pos) (iDn ta):=by
 intro vE s σ H R I h;refine Call_ (Hj I hg hm PyProof.Rows.boot_range (PyProof.Rows.callWith_type1 (thn (ha pos vE s σ H _ I h) λus s1 ⟨vs,H1,I1,r1,q1⟩=>?_) hs hs2));obtain⟨i,j,e,⟨q1,q2,q3,q4⟩,q⟩:=q1;subst e;cases r1 with
 | cons r rr=>
  cases rr with
  | cons r' rr=>
   cases rr with
   | cons r'' rr=>
    cases rr;obtain⟨t,rfl⟩:=r;obtain⟨t',rfl⟩:=r';obtain⟨t'',rfl⟩:=r'';refine call_range_3 (by decide) ?_ (.inl (PyProof.noPylong_small (by lia)));refine wpAny_pyIter_range (IsRange.new ..) (small_down q1 q2 q3 q4) ?_;have I2:Inv X vE σ H1 {s1 with heap:=s1.heap.push {cls:=.type "range",data:=.fields #[.int i t,.int j t',.int (-1) t'']},toks:=s1.toks}:=I1.kept λb o e=>zJ _ e
    refine⟨(s1.heap.push {cls:=.type "range",data:=.fields #[.int i t,.int j t',.int (-1) t'']}).objs.size,[(s1.heap.push {cls:=.type "range",data:=.fields #[.int i t,.int j t',.int (-1) t'']}).objs.size],_,_,H1,rfl,
     I2.kept (t':=s1.toks) λb o e=>zJ _ e,ZSU _ i (i-j).toNat,?_,λb hb=>?_,q⟩
    ·have e1:i+((0:Nat):Int)*(-1)=i:=by simp
     have e2:(((i-j).toNat:Nat):Int)-((0:Nat):Int)=Builtin.Range.rangeSize i j (-1):=by rw[rangeSize_down];split <;> lia
     show IsRangeIter _ _ (i+((0:Nat):Int)*(-1)) ((((i-j).toNat:Nat):Int)-((0:Nat):Int)) (-1);rw[e1,e2];exact zA _ rfl
    ·have e:b=(s1.heap.push {cls:=.type "range",data:=.fields #[.int i t,.int j t',.int (-1) t'']}).objs.size:=by simpa using hb
     subst e;exact I2.Ii (zK _) (I2.hok.fresh (zK _))
def Jb(lo:Int)(n:Nat):List D:=(zQ n).map λ(k:Nat)=>D.int (lo-(k:Int))
def rng3(ds:List D)(G:DH):R ItD:=match ds with
 |[.int i,.int j,.int k]=>if inR i/\inR j/\k= -1 then .ok (.pure (Jb i (i-j).toNat)) G else .bad
 |_=>.bad
theorem ZKj(lo:Int)(n:Nat):RepI a (.pure (Jb lo n)) (Itd lo n):=by
 refine⟨(zQ n).map λ(k:Nat)=>V.int (lo-(k:Int)),?_,λb x i=>⟨λv hv=>?_,λhl=>?_⟩⟩
 ·unfold Jb;generalize zQ n=l
  induction l with
  |nil=>exact rfl
  |cons k l ih=>exact⟨_,_,rfl,rfl,ih⟩
 ·rw[zx]at hv;by_cases hi:i<n
  ·rw[zU hi]at hv;have hv':V.int (lo-(i:Int))=v:=by simpa using hv
   exact⟨hi,λw H' y=>⟨y.2.trans hv',y.1⟩⟩
  ·rw[z0 (by simpa using hi)]at hv;cases hv
 ·show n<=i;simpa using hl
theorem ZNW{tg e e' e'':xk}{ta:DA}{p pos:Pos}(hg:Gl X "range")(hm:X.mg "range"=vG)(ha:QA X E [e,e',e''] ta)(hs:vK [e,e',e''] X.env=(vI,eval e X.env)::vK [e',e''] X.env:=by rfl)(hs2:(xI pos (vK [e',e''] X.env)).any (·.1)=vI:=by rfl):
  QI X E tg (.Call (.Name "range" p) [e,e',e''] [] pos) (Bk rng3 ta):=
 (ZRw hg hm ha hs hs2).mono λσ H Q h=>by
  obtain⟨a,S,G,hk,rfl,s,r,h⟩:=h;refine⟨a,S,G,hk,rfl,s,r,(Py h).imp ?_⟩;rintro vs _ ⟨b,ds,G1,rfl,x,s1,q,-,h1⟩;unfold rng3 at h1;split at h1
  ·rename_i i j k;split at h1
   ·rename_i hj;obtain⟨hi,hj,rfl⟩:=hj;obtain⟨v,r,e1,q1,v2,r2,e2,q2,v3,r3,e3,q3,q4⟩:=q
    cases(show v=V.int i from q1)
    cases(show v2=V.int j from q2)
    cases(show v3=V.int (-1)from q3)
    cases(show r3=[]from q4)
    subst e3;subst e2;exact⟨i,j,e1,⟨hi.1,hi.2,hj.1,hj.2⟩,h1 b _ (Ext.refl b) s1 (ZKj i (i-j).toNat)⟩
   ·exact h1.elim
  ·exact h1.elim
end
theorem ZUy(a b:xE):checkTypeCall "enumerate" ⟨[a],[("start",b)]⟩=pure ():=by kernel_rfl
theorem ZOa(a b:xE):xP "enumerate.__new__" ⟨[.type "enumerate",a],[("start",b)]⟩=pure ():=by kernel_rfl
theorem ZPy(o a b:xE):argsOk "object.__init__" ⟨[o,a],[("start",b)]⟩:=by
 unfold argsOk;rw[signature?_of (id:="object.__init__") (n:=['_','_','t','i','n','i','_','_']) (o:=['t','c','e','j','b','o']) (by kernel_rfl) PySem.F.owner_object]
 kernel_rfl
section
variable{prog:xA}{w:xF}{A:xw}{E:xE->xC->Prop}{s:xC}
theorem ZR9(hl:typeLookup (.type T) "__init__"=pure (vF (.builtin "object.__init__")))(hm:Bind.madeBy (.type T)=pure (vF newId))(hne:(vF newId != vF "object.__new__")=vH):
  Meets (Builtin.«object.__init__» ⟨[self,a],kw⟩) (λ_ R s=>s.TypeIs self T/\R (.ok (.ret .none)) s):=by
 refine Meets.of_wp λprog w A R s hs=>?_
 obtain⟨hT,hq⟩:=hs
 repeat (any_goals (first|assumption|wp_step))
 exact⟨_,rfl,hq⟩
theorem ZLy(ft:TypeCalled T newId initId)
  (hct:checkTypeCall T ⟨args,kw⟩=pure ()) (hcn:xP newId ⟨.type T::args,kw⟩=pure ())
  (entryN:entryFor table newId=vF Bn) (entryI:entryFor table initId=vF Bi) (g:Meets (Bn ⟨.type T::args,kw⟩) S) (h:S A.in1 (wants Q₁ E) s)
  (hnext:∀obj s₁,Q₁ obj s₁->s₁.TypeIs obj T/\argsOk initId ⟨obj::args,kw⟩/\∃Si,Meets (Bi ⟨obj::args,kw⟩) Si/\Si A.in1 (wants (λr s₂=>r=.none/\Q obj s₂) E) s₁):
  vq (vJ prog w) A (call (.type T) args kw) Q E s:=by
 obtain⟨c,tl,hmro⟩:=ft.mro;have hmade:=ft.made;have hsub:=ft.sub;refine wpAny_call (codeAny_of_tree ?_);show vq _ _ (callAny (.type T) _) _ _ _;refine v8 ⟨Code.quiet_builtin _ (by decide +kernel),codeAny_builtin PySem.F.entry_type_call ?_⟩;rw[Around.under_plain (weight_type_call_type T args kw) (units_type_call_type T args kw)];have h1:=ft.notType;have h2:=ft.canCreate
 repeat (any_goals (first|assumption|wp_step))
 refine xR (codeAny_call_builtin ft.plain entryN (wpAny_of_eq hcn (g prog w A.in1 _ s h))) λr s₁ hr=>?_
 cases r with
 |error e=>exact hr
 | ok fl=>
  cases fl with
  | ret obj=>
   obtain⟨hT,hok,Si,gi,hsi⟩:=hnext _ _ hr;have hli:=ft.init.lookup;have hbi:=ft.init.bind obj
   repeat (any_goals (first|assumption|wp_step))
   refine xR (codeAny_call_builtin ft.init.plain entryI (ft.init.check _ _ _ _ _ _ _ _ hT hok (gi prog w A.in1 _ s₁ hsi))) λr₂ s₂ hr₂=>?_
   cases r₂ with
   |error e=>exact hr₂
   | ok fl₂=>
    cases fl₂ with
    |ret r=>
     obtain⟨rfl,hq⟩:=hr₂
     repeat (any_goals (first|assumption|wp_step))
    |_=>exact hr₂.elim
  |_=>exact hr.elim
theorem ZLM{sr:Src}{xs:Array xE}{n:Int}{t:Tok}{Q:xE->xC->Prop}(hv:sr.val s.heap xs)
  (h:∀h' tk g,Gv n g->En h' (s.heap.objs.size+1) s.heap.objs.size .none n g .none->sr.it h' s.heap.objs.size 0->(∀b o,s.heap.get? b=vF o->h'.get? b=vF o)->Q (.ref (s.heap.objs.size+1)) {s with heap:=h',toks:=tk}):
  vq (vJ prog w) A (call (.type "enumerate") [.ref sr.adr] [("start",.int n t)]) Q E s:=by
 have g:Meets (Builtin.«enumerate.__new__» ⟨[.type "enumerate",.ref sr.adr],[("start",.int n t)]⟩) (λ_ R s=>sr.val s.heap xs/\∀g tk,Gv n g->
   R (.ok (.ret (.ref (s.heap.push {cls:=.type sr.itn,data:=.fields #[.ref sr.adr,.int 0 0]}).objs.size)))
    {s with heap:=(s.heap.push {cls:=.type sr.itn,data:=.fields #[.ref sr.adr,.int 0 0]}).push {cls:=.type "enumerate",data:=.fields #[.none,.bool vI,.ref s.heap.objs.size,vX n,g,.none]},toks:=tk}):=
  .of_wp λprog w A R s h=>by
   obtain⟨hp,g,d,tk,os⟩:=s;obtain⟨hl,h⟩:=h;have hsub:=sub_enumerate;have hL:sr.val (Shared.heap ⟨hp,g,d,tk,os⟩) xs:=hl
   wp_walk
   refine wpAny_stack_any λst=>v8 ?_
   cases hf:Builtin.SmallTypes.fitsIndex n
   ·split
    ·rename_i c _ _ _ _ _
     cases(c==Value.type "enumerate")<;>(wp_walk using Src.iter hL;exact⟨_,rfl,h _ _ (.inr ⟨t,rfl⟩)⟩)
    ·wp_walk using Src.iter hL
     exact⟨_,rfl,h _ _ (.inr ⟨t,rfl⟩)⟩
   ·split
    ·rename_i c _ _ _ _ _
     cases(c==Value.type "enumerate")<;>(wp_walk using Src.iter hL;exact⟨_,rfl,h _ _ (.inl rfl)⟩)
    ·wp_walk using Src.iter hL
     exact⟨_,rfl,h _ _ (.inl rfl)⟩
 refine ZLy (Q₁:=λobj s₁=>s₁.TypeIs obj "enumerate"/\Q obj s₁) PySem.F.called_enumerate (ZUy _ _) (ZOa _ _) PySem.F.entry_enumerate_new PySem.F.entry_object_init g ⟨hv,λg tk hg=>?_⟩ λobj s₁ hq=>⟨hq.1,ZPy obj _ _,_,ZR9 PySem.F.called_enumerate.init.lookup PySem.F.called_enumerate.made (by decide),hq.1,rfl,hq.2⟩
 have hz:(s.heap.push {cls:=.type sr.itn,data:=.fields #[.ref sr.adr,.int 0 0]}).objs.size=s.heap.objs.size+1:=qF ..;show _/\_;rw[hz];have he:En ((s.heap.push {cls:=.type sr.itn,data:=.fields #[.ref sr.adr,.int 0 0]}).push {cls:=.type "enumerate",data:=.fields #[.none,.bool vI,.ref s.heap.objs.size,vX n,g,.none]}) (s.heap.objs.size+1) s.heap.objs.size .none n g .none:=by
  have:=zA (s.heap.push {cls:=.type sr.itn,data:=.fields #[.ref sr.adr,.int 0 0]}) (o:={cls:=.type "enumerate",data:=.fields #[.none,.bool vI,.ref s.heap.objs.size,vX n,g,.none]}) rfl;rw[hz]at this;exact this
 exact⟨⟨_,he,rfl⟩,h _ tk g hg he ⟨_,zJ _ (zA _ rfl),rfl,rfl⟩ λb o x=>zJ _ (zJ _ x)⟩
theorem ZR2{M:Model}{A:xw}{E:xE->xC->Prop}{s:xC}{env:Env}{pos:Pos}{T:String}{e:xk}{rest:List xk}{kws:List Keyword}{Q:xE->xC->Prop}
  (hall:(xL pos (xU kws env)).all (·.1.isSome)=vH)
  (h:vq M A (spliced (xI pos (vK (e::rest) env))) (λvs s₁=>vq M A (evalAll ((xL pos (xU kws env)).map (·.2)))
   (λks s₂=>vq M A (call (.type T) vs (((xL pos (xU kws env)).filterMap (·.1)).zip ks)) Q E s₂) E s₁) E s)
  (hplain:(xI pos (vK (e::rest) env)).any (·.1)=vI) (hkw:(xL pos (xU kws env)).any (·.1.isNone)=vI) (he:vK (e::rest) env=(vI,eval e env)::vK rest env):
  vq M A (callWith pos (.type T) [] (xI pos (vK (e::rest) env)) (xL pos (xU kws env))) Q E s:=by
 unfold callWith;refine vj (v4 (v5 (PyProof.Rows.evalArgs_kw2 (Q:=λa s₁=>vq M A (call (.type T) ([]++a.pos) a.kw) Q E s₁) hall h he) (λa s₁ h₁=>vj (wpAny_standAt ?_)) λ_ _ x=>x));simp only[hplain,hkw,Bool.or_false];refine vj (v8 ?_);exact vj (v5 h₁ (λr s₂ hr=>vj (v4 (wpAny_point (v8 hr)))) λ_ _ x=>x)
end
section
variable{X:Cx}{E:XK}
def ZSQ(K:PySem.W.Frag)(ta tk:TA):TI:=λσ H R=>ta σ H λvs H1=>tk σ H1 λws H2=>∃sr xs n,vs=[.ref (Src.adr sr)]/\ws=[.int n]/\sr.sq K H2 xs/\R (Ite K sr n) H2
theorem ZRj{elts:List xk}{x1}{tp:Pos}{a b:xk}{ta tk:TA}{p pos kp:Pos}(hg:Gl X "enumerate")(hm:X.mg "enumerate"=vG)(ha:PA X [a] ta)(hk:PK X [⟨vF "start",b,kp⟩] tk)(hs:vK [a] X.env=[(vI,eval a X.env)]:=by rfl):
  PI X (.Tuple elts x1 tp) (.Call (.Name "enumerate" p) [a] [⟨vF "start",b,kp⟩] pos) (ZSQ X.K ta tk):=by
 intro vE s σ H R I h;refine vz (Hj I hg hm PyProof.Rows.boot_enumerate (ZR2 rfl (thn (ha pos vE s σ H _ I h) λus s1 ⟨vs,H1,I1,r1,q1⟩=>thn (hk pos vE s1 σ H1 _ I1 q1) λus2 s2 ⟨ws,H2,I2,r2,q2⟩=>?_) (by rw[hs];rfl) rfl hs));obtain⟨sr,xs,n,e,e2,hq,q⟩:=q2;subst e;subst e2;cases r1 with
 |cons r rr=>
  cases rr;cases r;obtain⟨u,rfl,ru⟩:=r2.one;obtain⟨t,rfl⟩:=ru;obtain⟨its,rv,hv,hz⟩:=Src.sq.val I2 hq;refine ZLM hv λh' tk g hg he hi kp=>?_
  refine W0 he ?_;have I3:Inv X vE σ H2 {s2 with heap:=h',toks:=tk}:=I2.kept (t':=tk) kp;refine⟨s2.heap.objs.size+1,[s2.heap.objs.size+1,s2.heap.objs.size],_,_,H2,rfl,I3,ZF2 sr n _ _ (Nat.succ_ne_self _),⟨g,.none,by simpa using he,by simpa using hg,hi⟩,λb hb=>?_,q⟩;have hb':b=s2.heap.objs.size+1∨b=s2.heap.objs.size:=by simpa using hb
  have hle:s2.heap.objs.size<=b:=by rcases hb' with rfl|rfl<;>lia
  exact I2.Ii hle (I2.hok.fresh hle)
theorem ZOy(hk:a.K=X.K)(rd:∀b:Wd,Ext a b->∀G',Sim b G'->∀ys,Bg d G'=vF ys->∃us,sr.sq b.K b.H us/\Reps b ys us)(n:Nat):RepI a (.fn n (Dp n0 d)) (Ite X.K sr n0):=by
 intro b x G' s' i;have kb:b.K=X.K:=x.k.trans hk;constructor
 ·intro e he;unfold Dp at he;split at he
  ·cases he
  ·rename_i ys hy;obtain⟨us,hq,ru⟩:=rd b x G' s' ys hy;rw[kb]at hq;cases hyi:ys[i]? with
   |none=>rw[hyi]at he;cases he
   |some y=>
    rw[hyi]at he;have he':D.tup [.int (n0+i),y]=e:=by simpa using he
    subst he';obtain⟨u,hu,rx⟩:=ru.get hyi;refine⟨⟨us,u,hq,hu⟩,?_⟩;rintro w H' ⟨p,u',rfl,hp,rfl,hu'⟩;refine⟨b.put p (.tup [.int (n0+i),u']),rfl,Ext.put hp,s'.put hp,p,_,rfl,.of Ei,?_⟩;have e1:=hu' us hq;rw[hu]at e1;cases e1;exact⟨_,_,rfl,rfl,Reps.cons (rx.mono (Ext.put hp)) rfl⟩
 ·intro he;unfold Dp at he;split at he
  ·cases he
  ·rename_i ys hy;obtain⟨us,hq,ru⟩:=rd b x G' s' ys hy;rw[kb]at hq;cases hyi:ys[i]? with
   |none=>exact⟨us,hq,by rw[<-ru.length];exact qU.mp hyi⟩
   |some y=>rw[hyi]at he;cases he
def Ny(ta:DA)(tb:DE):DI:=λS G=>(ta S G).bind λds G1=>(tb S G1).bind λk G2=>match ds,k with
 |[d],.int n=>match Bg d G2 with
  |some xs=>.ok (.fn xs.length (Dp n d)) G2
  |none=>.bad
 |_,_=>.bad
theorem ZQh(hb:QE X E b tb):PK X [⟨nm,b,kp⟩] (ZBO (lE X.K E tb) Ri):=ZNr hb ZRu
theorem ZK6{E:XK}(h:outI E a (r.bind f) Q):
  out E a r (λv H=>∃(b:Wd)(d:D)(G:DH),b.H=H/\Ext a b/\Sim b G/\Rep b d v/\outI E b (f d G) Q):=by
 cases r with
 |ok d G=>exact λb v x s q=>⟨b,d,G,rfl,x,s,q,outI.mono x h⟩
 |err e G=>exact h
 |bad=>exact h
theorem ZUH{x1}(hg:Gl X "enumerate")(hm:X.mg "enumerate"=vG)(ha:QA X E [e] ta)(hb:QE X E b tb)(hs:vK [e] X.env=[(vI,eval e X.env)]:=by rfl):
  QI X E (.Tuple elts x1 tp) (.Call (.Name "enumerate" p) [e] [⟨vF "start",b,kp⟩] pos) (Ny ta tb):=(ZRj hg hm ha (ZQh hb) hs).mono λσ H Q h=>by
 obtain⟨a,S,G,hk,rfl,s,r,h⟩:=h;refine⟨a,S,G,hk,rfl,s,r,(Py h).imp ?_⟩;rintro vs _ ⟨b,ds,G1,rfl,x,s1,q,-,h1⟩;refine⟨b,S,G1,x.k.trans hk,rfl,s1,r.mono x,(ZK6 h1).imp ?_⟩;rintro v _ ⟨c,k,G2,rfl,y,s2,q2,h2⟩;split at h2
 ·rename_i d n;split at h2
  ·rename_i xs hx;obtain⟨w,r,e1,q1,q3⟩:=q
   cases(show r=[]from q3)
   subst e1
   cases(show v=V.int n from q2)
   obtain⟨sr,rfl,⟨us,hq⟩,rd⟩:=ZCV s2 (q1.mono y) hx;have kb:c.K=X.K:=(y.k.trans x.k).trans hk;exact⟨sr,us,n,rfl,rfl,by rw[<-kb];exact hq,h2 c _ (Ext.refl c) s2 (ZOy kb rd _)⟩
  ·exact h2.elim
 ·exact h2.elim
end
end _D
namespace _D
open PySem PySem.Spec _L
def Hy(c f:Str)(d:D)(G:DH):R D:=match Il c d G with
 |some fs=>match fs.lookup f with
  |some v=>.ok v G
  |none=>.bad
 |none=>.bad
def Nq(c f:Str)(o d:D)(S:DSt)(G:DH):SR:=match o with
 |.ref i=>match Il c o G with
  |some fs=>if fs.length<1000 then .nx S (G.set i (.ins c (Fw f d fs)))else .bad
  |none=>.bad
 |_=>.bad
def Rz(c m:Str)(F:List D->DH->R D)(t:DA)(S:DSt)(o:D)(G:DH):R D:=match Il c o G with
 |some fs=>match fs.lookup m with
  |none=>(t S G).bind λds G2=>F (o::ds) G2
  |some _=>.bad
 |none=>.bad
def W4(F:List D->DH->R D)(c:Str)(ds:List D)(G1:DH):R D:=(F (.ref G1.length::ds) (G1++[.ins c []])).bind λv G2=>match v with
 |.non=>.ok (.ref G1.length) G2
 |_=>.bad
section
variable{S:DSt}{G:DH}{c f m:Str}{t to tv:DE}{ta:DA}{F:List D->DH->R D}{i:Nat}{fs:List (Str×D)}{v d:D}
@[simp]theorem ev_fld:Dv c t f S G=(t S G).bind λd G1=>Hy c f d G1:=id rfl
@[simp]theorem K9:Er c to tv f S G=(tv S G).toS λd G1=>(to S G1).toS λo G2=>Nq c f o d S G2:=id rfl
@[simp]theorem ZVL:Fv c m F to ta S G=(to S G).bind λo G1=>Rz c m F ta S o G1:=id rfl
@[simp]theorem ZVC:Oq c F ta S G=(ta S G).bind λds G1=>W4 F c ds G1:=id rfl
theorem ZBk(h:G[i]?=vF (.ins c fs)):Il c (.ref i) G=vF fs:=by unfold Il;simp only[h,if_true]
theorem Ly(h:G[i]?=vF (.ins c fs))(h2:fs.lookup f=vF v):Hy c f (.ref i) G=.ok v G:=by unfold Hy;rw[ZBk h];simp only[h2]
theorem ZQt(h:G[i]?=vF (.ins c fs))(hl:fs.length<1000):Nq c f (.ref i) d S G=.nx S (G.set i (.ins c (Fw f d fs))):=by unfold Nq;simp only[ZBk h,hl,if_true]
theorem ZQS(h:G[i]?=vF (.ins c fs))(h2:fs.lookup m=vG):Rz c m F ta S (.ref i) G=(ta S G).bind λds G2=>F (.ref i::ds) G2:=by unfold Rz;rw[ZBk h];simp only[h2]
@[simp]theorem ev_LR:dLR ta S G=(ta S G).bind λds G1=>match ds with
 |[.int j]=>if inR j/\j<=1000000 then .ok (.ref G1.length) (G1++[.lst (Bh 0 j.toNat)])else .bad
 |_=>.bad:=id rfl
@[simp]theorem ZQy{i j:Int}(hi:inR i)(hj:inR j):rng3 [.int i,.int j,.int (-1)] G=.ok (.pure (Jb i (i-j).toNat)) G:=by simp[rng3,hi,hj]
theorem ZQD:Jb lo 0=[]:=rfl
theorem ZO8:Jb lo (n+1)=.int lo::Jb (lo-1) n:=by
 unfold Jb;rw[qS,zk,qP]
 congr 1
 ·simp
 ·refine qk λk _=>?_
  simp only[Function.comp]
  congr 1
  lia
theorem ZIh{d:D}{ns:List Int}{k:Int}(h:Gs d G=vF (ns.map D.int))(hm:k∈ns)(hl:ns.length<=1000000):Iz d [.int k] G=.ok (.int (ns.idxOf k)) G:=by unfold Iz;simp only[h,ZCL,hm,hl,and_self,if_true]
theorem ZQ1{d:D}{G G':DH}(hl:G'.length=G.length)(hb:bel G.length d=vH):tidy G (.ok d G')=.ok d G':=by
 unfold tidy;simp only[hb,if_true];split
 ·rename_i h;rw[List.take_of_length_le (by lia)]at h;rw[h]
 ·rfl
theorem ZNR{d:D}{G G':DH}(h:G'.take G.length≠G):tidy G (.ok d G')=.ok d G':=by unfold tidy;simp only[h,if_false]
end
end _D
namespace _D
open PySem PySem.Spec _L
open PyProof.Rows hiding St
def Lq(x:Str)(n:Int):Str:=if n<1 then Str.empty else if(n==1||x.length==0)=vH then x else⟨(zV n.toNat x.cps).foldl (·++·) #[]⟩
theorem ZCX:∀(n:Nat)(b:Array Nat),((zV n a).foldl (·++·) b).toList=b.toList++(zV n a.toList).flatten
 |0,b=>by simp
 |n+1,b=>by rw[qW,j2,ZCX n (b++a),qW,qI];simp
theorem ZSh{a:Array Nat}(n:Nat):((zV n a).foldl (·++·) #[]).size=n*a.size:=by rw[<-qD,ZCX];simp
theorem ZQ7:(Lq x n).cps.toList=(zV n.toNat x.cps.toList).flatten:=by
 unfold Lq;split
 ·rename_i h;have e:n.toNat=0:=by lia
  rw[e];rfl
 ·rename_i h;split
  ·rename_i hx;rw[jL,beq_iff_eq,beq_iff_eq]at hx;rcases hx with rfl|hx
   ·simp
   ·have e:x.cps.toList=[]:=by have:x.cps.size=0:=hx;rw[<-qD]at this;exact qM this
    rw[e];simp
  ·show((zV n.toNat x.cps).foldl (·++·) #[]).toList=_
   rw[ZCX];simp
def Aj:D->D->DH->R D
 |.int i,.int j,G=>if MulB i j then .ok (.int (i*j)) G else .bad
 |.str x,.int n,G=>if -1000<=n/\n<=1000/\x.length<=1000 then .ok (.str (Lq x n)) G else .bad
 |_,_,_=>.bad
section
variable{X:Cx}{E:XK}
theorem ZN5:OpR X (xN .Mult) (λx y H Q=>∃i n,x=.str i/\y=.int n/\(-1000<=n/\n<=1000/\i.length<=1000)/\Q (.str (Lq i n)) H):=by
 intro vE s σ H x y v u Q I rx ry h;obtain⟨i,n,rfl,rfl,⟨h1,h2,h3⟩,q⟩:=h;obtain⟨t,rfl⟩:=rx;obtain⟨t',rfl⟩:=ry;have hlen:∀m:Nat,m<=1000->i.length*m<=1000000:=λm hm=>zC (jP h3 hm) (by decide)
 refine P.mul_str ?_ (λhn hx=>?_) (λhn hx=>?_) ?_
 ·rw[decide_eq_false (by lia),decide_eq_false (by lia)];rfl
 ·intro hgt;have hm:0<n:=by lia
  have:(i.length:Int)*n<=2^63-1:=by have h4:(i.length:Int)*n<=1000*1000:=Int.mul_le_mul (by lia) h2 (by lia) (by lia);lia
  have h5:=(Int.le_ediv_iff_mul_le hm).mpr this;lia
 ·have:=hlen n.toNat (by lia);unfold Builtin.Str.tooLong;rw[vV];exact decide_eq_false (by lia)
 ·unfold Lq at q;split
  ·rename_i hn;rw[if_pos hn]at q;exact⟨by decide,.str Str.empty,H,I.tok _,⟨_,rfl⟩,q⟩
  ·rename_i hn;rw[if_neg hn]at q;split
   ·rename_i hx;rw[if_pos hx]at q;exact⟨.str i,H,I,⟨t,rfl⟩,q⟩
   ·rename_i hx;rw[if_neg hx]at q;refine⟨?_,.str _,H,I.tok _,⟨_,rfl⟩,q⟩
    show((zV n.toNat i.cps).foldl (·++·) #[]).size<=sizeLine
    have h6:i.cps.size<=1000:=h3;have h7:=jP (show n.toNat<=1000 by lia) h6;rw[ZSh,vV];lia
theorem ZSk:OpR X (xN .Mult) (lR2 X.K E Aj):=Fi (ZOB.or ZN5) λa G d e x y Q hk s rd re q=>by
 cases d<;>cases e<;>first
  |exact q.elim
  | (
    rename_i i j;unfold Aj at q;dsimp only at q;split at q
    ·first
     |exact .inl ⟨_,_,rd,re,by assumption,q a _ (Ext.refl a) s rfl⟩
     |exact .inr ⟨_,_,rd,re,by assumption,q a _ (Ext.refl a) s rfl⟩
    ·exact q.elim)
end
section
variable{i j:Int}{G:DH}
theorem Fj(h1: -(2^64)<i)(h2:i<2^64):Aj (.int i) (.int j) G=.ok (.int (i*j)) G:=if_pos (.inl (.inl ⟨h1,h2⟩))
theorem Gz(h1: -(2^64)<j)(h2:j<2^64):Aj (.int i) (.int j) G=.ok (.int (i*j)) G:=if_pos (.inl (.inr ⟨h1,h2⟩))
@[simp]theorem ZVO(h:n<18446744073709551616):Aj (.int (no_index (OfNat.ofNat n))) (.int j) G=.ok (.int (OfNat.ofNat n*j)) G:=
 Fj (by have:(0:Int)<=(OfNat.ofNat n:Int):=Int.natCast_nonneg n;lia) (by have:(OfNat.ofNat n:Int)<18446744073709551616:=Int.ofNat_lt.mpr h;lia)
@[simp]theorem ZVx(h:n<18446744073709551616):Aj (.int i) (.int (no_index (OfNat.ofNat n))) G=.ok (.int (i*OfNat.ofNat n)) G:=
 Gz (by have:(0:Int)<=(OfNat.ofNat n:Int):=Int.natCast_nonneg n;lia) (by have:(OfNat.ofNat n:Int)<18446744073709551616:=Int.ofNat_lt.mpr h;lia)
theorem ZUu(h: -1000<=n/\n<=1000/\x.length<=1000):Aj (.str x) (.int n) G=.ok (.str (Lq x n)) G:=if_pos h
end
section
variable{X:Cx}{E:XK}{e st:xk}{te:TE}{ts:TO}{p2 pos:Pos}
end
section
variable{S:DSt}{G:DH}
end
section
variable{X:Cx}{E:XK}
theorem ZGx:∀(l:List Str),Reps a (l.map D.str) (l.map V.str)
 |[]=>Reps.nil
 |x::l=>Reps.cons (show Rep a (.str x) (V.str x)from rfl) (ZGx l)
def TupG(K:PySem.W.Frag)(mg:Str->Option xE)(n:Str)(ss:List Str):Prop:=∃(p:xj)(o:Obj)(its:Array xE)(k:Nat),mg n=vF (.ref p)/\K.lookup p=vF o/\o.cls=.type "tuple"/\o.data=.seq its k/\its.size<=sizeLine/\Vals (ss.map V.str) its.toList
theorem ZSV{K:PySem.W.Frag}{h:Heap}{mg:Str->Option xE}{n:Str}{p:xj}{od:Option xj}{sl:Array (Option xE)}{k:Nat}{its:List xE}{ss:List Str}(KX:K.In h)(G:h.Ns vZ mg)(a:PySem.W.nsIn K vZ n=vF (vF (.ref p)))
  (l:K.lookup p=vF ⟨.type "tuple",od,.seq its.toArray k,sl⟩) (hs:its.length<=1000) (v:Vals (ss.map V.str) its):TupG K mg n ss:=
 ⟨p,_,its.toArray,k,PySem.W.mg_of KX G a,l,rfl,rfl,by rw[zY];exact zC hs (by decide),by simpa using v⟩
theorem ZSM(hg:Gl X x)(h:TupG X.K X.mg x ss)(hd:(x==("__debug__":Str))=vI:=by decide):QE X E (.Name x pos) (dC (.tup (ss.map D.str))):=by obtain⟨p,o,its,k,h1,h2,h3,h4,h5,h6⟩:=h;exact Wy (v:=.ref p) hg h1 rfl (λa ha=>⟨p,ss.map V.str,rfl,.inr ⟨o,its,k,by rw[ha];exact h2,h3,h4,h5,h6⟩,ZGx ss⟩) hd
end
section
variable{S:DSt}{G:DH}
end
section
variable{X:Cx}{vE:List (xj×Obj)}{σ:St}{H:Hp}{s:xC}{N:List Str}{scope:xB}{caps:List Nat}{x qual:Str}{f:xj}{cd:xE}{A:xw}
end
section
variable{X:Cx}{vE:List (xj×Obj)}{σ:St}{s:xC}{scope:xB}{a:Wd}
end
def ltK(ks:List Int)(i j:Nat):Bool:=decide (ks.getD i 0<ks.getD j 0)
section
variable{prog:xA}{w:xF}{A:xw}{E:xE->xC->Prop}{s:xC}
end
section
variable{X:Cx}{vE:List (xj×Obj)}{σ:St}{H:Hp}{s:xC}{h':Heap}{m:Str->Option xE}
end
section
variable{X:Cx}{vE:List (xj×Obj)}{σ:St}{N:List Str}{scope:xB}{caps:List Nat}{x:Str}{f:xj}{A:xw}{a:Wd}{S:DSt}{body:xk}{te:DE}{params:Arguments}{pm ctv:xE}{c':xj}{ob oc:Obj}{vs0:Array xE}{t0:Tok}{E:XK}
 {Dd kS:xj} {e1:Nat} {m:Str->Option xE} {h₀:Heap} {Q:VK}
end
end _D
namespace _D
open PySem PySem.Spec _L
open PyProof.Rows hiding St
open PySem.W (KatKeys KatFin katRev KatBack)
section
variable{prog:xA}{w:xF}{A:xw}{E:xE->xC->Prop}{s:xC}{h₀:Heap}{L a kS:xj}{m:Str->Option xE}{P:PySem.Fin->xC->Prop}
end
end _D
namespace _D
open PySem PySem.Spec _L
open PyProof.Rows hiding St
section
variable{X:Cx}{vE:List (xj×Obj)}{σ:St}{N:List Str}{scope:xB}{caps:List Nat}{x:Str}{f:xj}{A:xw}{a:Wd}{S:DSt}{body:xk}{te:DE}{params:Arguments}{pm ctv:xE}{c':xj}{ob oc:Obj}{vs0:Array xE}{t0:Tok}
 {Dd kS:xj} {e1:Nat} {m:Str->Option xE} {h₀:Heap} {Q:VK}
end
section
variable{X:Cx}{vE:List (xj×Obj)}{σ:St}{N:List Str}{scope:xB}{caps:List Nat}{x:Str}{f:xj}{A:xw}{a:Wd}{S:DSt}{body:xk}{te:DE}{params:Arguments}{pm ctv:xE}{c':xj}{ob oc:Obj}{vs0:Array xE}{t0:Tok}{Q:VK}
end
section
variable{X:Cx}{N:List Str}{scope:xB}{caps:List Nat}{x:Str}{body:xk}{te:DE}{params:Arguments}{e:xk}{tn:DA}{p p' pos pos' lp kp kp' cp:Pos}{C m:Str}{cj:Nat}
end
end _D
namespace _D
open PySem PySem.W _L
theorem ZJ3:∀{l:List Obj}{n:Nat},(Lb l n).lookup a=vF o->n<=a/\l[a-n]?=vF o/\∀x y z,o≠⟨x,y,.freed,z⟩
 |[],n,h=>by cases h
 | p::r,n,h=>by
  have next:(Lb r (n+1)).lookup a=vF o->n<=a/\(p::r)[a-n]?=vF o/\∀x y z,o≠⟨x,y,.freed,z⟩:=λh=>by obtain⟨h1,h2,h3⟩:=ZJ3 h;obtain⟨k,rfl⟩:=Nat.exists_eq_add_of_le h1;rw[Nat.add_sub_cancel_left]at h2;refine⟨zC (jA n) h1,?_,h3⟩;rw[show n+1+k-n=k+1 by rw[Nat.add_assoc,Nat.add_sub_cancel_left,Nat.add_comm],jx];exact h2
  unfold Lb at h;split at h
  ·exact next h
  ·exact next h
  ·rename_i hz hf;rw[jk]at h;split at h
   ·rename_i e;have e':a=n:=by simpa using e
    subst e';cases h;refine⟨zK _,by simp,λx y z q=>?_⟩;subst q;exact hz rfl
   ·exact next h
theorem ZS8(h:Heap):(Ou h).In h:=λa o e=>by
 obtain⟨_,h2,h3⟩:=ZJ3 e;have h4:h.objs[a]?=vF o:=by simpa using h2
 unfold Heap.get?;rw[h4];split
 ·rename_i q;cases q;exact absurd rfl (h3 _ _ _)
 ·rfl
def Jg(p:xA)(N:Nat)(w:xF):Heap:=match openEnds vY p w N with
 |some s=>s.heap
 |none=>default
def Stays(p:xA)(N:Nat)(w:xF)(h:Heap):Prop:=∀b o,(Jg p N w).get? b=vF o->h.get? b=vF o
theorem Stays.in(x:Stays p N w h):(Ou (Jg p N w)).In h:=λa o e=>x a o (ZS8 _ a o e)
def Ua(p:xA)(N:Nat):Hook:=
 ⟨Heap,λs=>s.heap,Jg p N,Stays p N,λw s e b o q=>by rw[show s.heap=Jg p N w from e];exact q,λw h h' x k b o q=>k b o (x b o q)⟩
section
variable{p q:xA}{loose:List Str}{Xt:xC->Bool}{N:Nat}{β:Type}{see:Heap->β}{val:β}
theorem ZTE(E:∀w,(openEnds vY p w N).map (λs=>(openSeen q loose (xT p.main.body) Xt vH s,see s.heap))=vF (openGood q loose,val)):
  LeftO p q loose Xt (Ua p N).obs (Ua p N).val N:=λw=>by
 obtain⟨s,h1,h2⟩:=zP.mp (E w);show Option.map _ _=vF (openGood q loose,Jg p N w);unfold Jg;rw[h1];show vF (openSeen q loose (xT p.main.body) Xt vH s,s.heap)=_;rw[(Prod.mk.inj h2).1]
theorem ZQG(E:∀w,(openEnds vY p w N).map (λs=>(openSeen q loose (xT p.main.body) Xt vH s,see s.heap))=vF (openGood q loose,val))(w:xF):see (Jg p N w)=val:=by obtain⟨s,h1,h2⟩:=zP.mp (E w);unfold Jg;rw[h1];exact(Prod.mk.inj h2).2
end
theorem holds_top{l:OpenLaw}{q:xA}{loose:List Str}{N:Nat}{β:Type}{see:Heap->β}{val:β}{d:DefRec}(well:l.wellSaid=vH)
  (E:∀w,(openEnds vY l.prog w N).map (λs=>(openSeen q loose (xT l.prog.main.body) (XtOf l q) vH s,see s.heap))=vF (openGood q loose,val))
  (hdef:defOf q l.row.name=vF (d,[])) (hp:l.row.prog.theDef l.row.name=vF (d.params,d.body,d.scope)) (hk:kwWritten? d.params.kwonlyargs d.params.kw_defaults=vF []) (hwr:(!l.row.writes||l.row.records.isEmpty)=vH)
  (ok:(chainsOk q&&opensWell l.row.prog&&(frees l.row.toRowW&&l.row.within.isEmpty))=vH) (hb:l.row.prog.bare) (hw:l.row.toRowW.promised)
  (call:WalkO q loose (XL q []) (Stays l.prog N) l.row.toRowW d [] λf vs=>PySem.call f vs):l.Holds:=
 holds_law well λsaid=>holds_open (r:=l.row) (q:=q) (loose:=loose) (Xt:=XtOf l q) (XP:=XL q []) (YP:=Stays l.prog N) (N:=N) (ZTE E) (Ua l.prog N).of (Ua l.prog N).keeps
  (λs e=>xl_of s (jW.mp e).1) XL.keeps hdef hp hk (λs e=>recFacts_of (jW.mp e).2) hwr said ok hb hw call
theorem ZCv(h:gOk K n=vH):nsIn K vZ n=vF (vF (.ref (Bb K n))):=by
 unfold gOk at h;unfold Bb;split at h
 ·rename_i e;rw[e]
 ·cases h
theorem ZDO(h:mOk K C m=vH):findIn K (.ref C) m=vF (vF (.ref (Fq K C m)))/\isFn K (.ref (Fq K C m))=vH:=by
 unfold mOk at h;unfold Fq;split at h
 ·rename_i e;rw[e];exact⟨rfl,h⟩
 ·cases h
theorem ZTg(h:noF K C m=vH):findIn K (.ref C) m=vF vG:=by
 unfold noF at h;split at h
 ·assumption
 ·cases h
theorem ZS5(h:zOk K n=vH):nsIn K vZ n=vF vG:=by
 unfold zOk at h;split at h
 ·assumption
 ·cases h
theorem ZK5(h:ZCR K C=vH):findIn K (.ref C) "__setattr__"=vF (vF (.builtin "object.__setattr__")):=by
 unfold ZCR at h;split at h
 ·rename_i e;rw[e,beq_iff_eq.mp h]
 ·cases h
def Cz(K:vB)(n:Str):Tok:=match nsIn K vZ n with
 |some (vF (.int _ t))=>t
 |some (vF (.str _ t))=>t
 |_=>0
theorem ZMv(h:iOk K n v=vH):nsIn K vZ n=vF (vF (.int v (Cz K n))):=by
 unfold iOk at h;unfold Cz;split at h
 ·rename_i e;rw[e,of_decide_eq_true h]
 ·cases h
theorem ZK2(h:sOk K n v=vH):nsIn K vZ n=vF (vF (.str v (Cz K n))):=by
 unfold sOk at h;unfold Cz;split at h
 ·rename_i e;rw[e,of_decide_eq_true h]
 ·cases h
abbrev FnSaid(K:vB)(x q:Str)(st:xD)(f:xj):Prop:=
 K.lookup f=vF ⟨(Hf K f).cls,(Hf K f).dict,.func (fnOf x q (Hd st) (Fe st) (Ak st) .none (Bs K f).kwdefaults (Bs K f).doc (Bs K f).pyModule (Bs K f).annotations (Bs K f).code (Bs K f).closureTuple),(Hf K f).slots⟩/\
  codeIn K (Bs K f).code q=vH/\keepIn K (.ref f)=vH
theorem ZEZ(h:Qz K x q f=vH)(t:Kr K f=Ko st):FnSaid K x q st f:=by
 unfold Qz at h;split at h
 ·rename_i oc od fd sl e;have eo:Hf K f=⟨oc,od,.func fd,sl⟩:=by unfold Hf;rw[e]
  have ef:Bs K f=fd:=by unfold Bs;rw[eo]
  unfold Kr Ko at t;rw[ef]at t;obtain⟨t1,t2⟩:=Prod.mk.inj t;obtain⟨t2,t3⟩:=Prod.mk.inj t2;simp only[zE,decide_eq_true_eq,beq_iff_eq,List.isEmpty_iff]at h;obtain⟨⟨⟨h1,h2⟩,⟨⟨h3,h4⟩,h5⟩,h6⟩,h7,h8⟩:=h;unfold FnSaid;rw[ef,eo,e];refine⟨?_,h7,h8⟩;have h6':fd.defaults=.none:=by
   revert h6
   generalize fd.defaults=df;intro h6
   cases df<;>first|rfl|cases h6
  have h9:fd.body=.stmts (Fe st):=by
   revert t2
   generalize fd.body=bd;intro t2
   cases bd<;>first|(cases t2;rfl)|(cases t2)
  have ef':fd=fnOf x q (Hd st) (Fe st) (Ak st) .none fd.kwdefaults fd.doc fd.pyModule fd.annotations fd.code fd.closureTuple:=by show FuncData.mk fd.name fd.qualname fd.params fd.body fd.scope fd.globals fd.closure fd.defaults fd.kwdefaults fd.doc fd.pyModule fd.annotations fd.code fd.closureTuple fd.builtins=_;rw[h1,h2,t1,h9,t3,h3,h5,h6',h4]
  exact congrArg (λz=>vF (Obj.mk oc od (.func z) sl)) ef'
 ·cases h
abbrev DfSaid(K:vB)(d:xE)(v:Int):Prop:=∃T o t n,d=.ref T/\K.lookup T=vF o/\o.data=.seq #[.int v t] n
theorem ZT3(h:dfl K d v=vH):DfSaid K d v:=by
 unfold dfl at h;split at h
 ·rename_i T;split at h
  ·rename_i o e;split at h
   ·rename_i a n e2;split at h
    ·rename_i i t e3;cases of_decide_eq_true h;refine⟨T,o,t,n,rfl,e,?_⟩;rw[e2]
     congr 1
     rw[<-Array.toList_inj,e3]
    ·cases h
   ·cases h
  ·cases h
 ·cases h
abbrev FnSaidD(K:vB)(x q:Str)(st:xD)(f:xj)(v:Int):Prop:=
 K.lookup f=vF ⟨(Hf K f).cls,(Hf K f).dict,.func (fnOf x q (Hd st) (Fe st) (Ak st) (Bs K f).defaults (Bs K f).kwdefaults (Bs K f).doc (Bs K f).pyModule (Bs K f).annotations (Bs K f).code (Bs K f).closureTuple),(Hf K f).slots⟩/\
  codeIn K (Bs K f).code q=vH/\keepIn K (.ref f)=vH/\DfSaid K (Bs K f).defaults v
theorem ZNZ(h:Yb K x q f v=vH)(t:Kr K f=Ko st):FnSaidD K x q st f v:=by
 unfold Yb at h;split at h
 ·rename_i oc od fd sl e;have eo:Hf K f=⟨oc,od,.func fd,sl⟩:=by unfold Hf;rw[e]
  have ef:Bs K f=fd:=by unfold Bs;rw[eo]
  unfold Kr Ko at t;rw[ef]at t;obtain⟨t1,t2⟩:=Prod.mk.inj t;obtain⟨t2,t3⟩:=Prod.mk.inj t2;simp only[zE,decide_eq_true_eq,beq_iff_eq,List.isEmpty_iff]at h;obtain⟨⟨⟨h1,h2⟩,⟨⟨h3,h4⟩,h5⟩,h6⟩,h7,h8⟩:=h;unfold FnSaidD;rw[ef,eo,e];refine⟨?_,h7,h8,ZT3 h6⟩;have h9:fd.body=.stmts (Fe st):=by
   revert t2
   generalize fd.body=bd;intro t2
   cases bd<;>first|(cases t2;rfl)|(cases t2)
  have ef':fd=fnOf x q (Hd st) (Fe st) (Ak st) fd.defaults fd.kwdefaults fd.doc fd.pyModule fd.annotations fd.code fd.closureTuple:=by show FuncData.mk fd.name fd.qualname fd.params fd.body fd.scope fd.globals fd.closure fd.defaults fd.kwdefaults fd.doc fd.pyModule fd.annotations fd.code fd.closureTuple fd.builtins=_;rw[h1,h2,t1,h9,t3,h3,h5,h4]
  exact congrArg (λz=>vF (Obj.mk oc od (.func z) sl)) ef'
 ·cases h
theorem Uz:∀{l:List xE}{ss:List Str},strsOf l=vF ss->Vals (ss.map V.str) l
 |[],ss,h=>by cases h;exact .nil
 |v::r,ss,h=>by
  unfold strsOf at h;split at h
  ·rename_i q;cases q
  ·rename_i s t r' q;cases q;obtain⟨ss',h1,rfl⟩:=zP.mp h;exact .cons ⟨_,rfl⟩ (Uz h1)
  ·cases h
abbrev GtSaid(K:vB)(n:Str)(vs:List Str):Prop:=∃(p:xj)(od:Option xj)(sl:Array (Option xE))(k:Nat)(its:List xE),nsIn K vZ n=vF (vF (.ref p))/\K.lookup p=vF ⟨.type "tuple",od,.seq its.toArray k,sl⟩/\its.length<=1000/\Vals (vs.map V.str) its
theorem ZO0(h:ZCf K n vs=vH):GtSaid K n vs:=by
 unfold ZCf at h;split at h
 ·rename_i p e;split at h
  ·rename_i t od its k sl e2;simp only[zE,beq_iff_eq,decide_eq_true_eq]at h;obtain⟨⟨rfl,h2⟩,h3⟩:=h;exact⟨p,od,sl,k,its.toList,e,by rw[e2],Nat.le_of_ble_eq_true h3,Uz h2⟩
  ·cases h
 ·cases h
theorem ZKA(X:K.In h)(G:h.Ns vZ mg)(s:GtSaid K n vs):TupG K mg n vs:=by obtain⟨p,od,sl,k,its,h1,h2,h3,h4⟩:=s;exact ZSV X G h1 h2 h3 h4
abbrev GdSaid(K:vB)(n:Str)(kvs:List (Str×Str)):Prop:=∃(p:xj)(od:Option xj)(sl:Array (Option xE))(k:Nat)(es:Array DictEntry),nsIn K vZ n=vF (vF (.ref p))/\K.lookup p=vF ⟨.type "dict",od,.dict es k,sl⟩/\(p==sysModules)=vI/\Vals ((kvs.map (·.1)).map V.str) (es.toList.map (·.key))/\Vals ((kvs.map (·.2)).map V.str) (es.toList.map (·.val))
theorem ZPn(h:ZBE K n kvs=vH):GdSaid K n kvs:=by
 unfold ZBE at h;split at h
 ·rename_i p e;split at h
  ·rename_i t od es k sl e2;simp only[zE,beq_iff_eq,decide_eq_true_eq,Bool.not_eq_true']at h;obtain⟨⟨⟨rfl,h2⟩,h3⟩,h4⟩:=h;exact⟨p,od,sl,k,es,e,by rw[e2],h2,Uz h3,Uz h4⟩
  ·cases h
 ·cases h
def Ask.Said(K:vB):Ask->Prop
 |.fn n st=>nsIn K vZ n=vF (vF (.ref (Bb K n)))/\FnSaid K n n st (Bb K n)
 |.mt c m q st=>findIn K (.ref (Bb K c)) m=vF (vF (.ref (Fq K (Bb K c) m)))/\isFn K (.ref (Fq K (Bb K c) m))=vH/\FnSaid K m q st (Fq K (Bb K c) m)
 | .cl c=>nsIn K vZ c=vF (vF (.ref (Bb K c)))/\plainGet K (Bb K c) Str.empty=vH/\hasDictIn K (Bb K c)=vH/\plainOver K (Bb K c)=vH/\
   findIn K (.ref (Bb K c)) "__setattr__"=vF (vF (.builtin "object.__setattr__"))/\makesIn K (Bb K c)=vH/\keepIn K (.ref (Bb K c))=vH
 |.no c x=>findIn K (.ref (Bb K c)) x=vF vG
 |.z n=>nsIn K vZ n=vF vG
 |.gi n v=>nsIn K vZ n=vF (vF (.int v (Cz K n)))
 |.gs n v=>nsIn K vZ n=vF (vF (.str v (Cz K n)))
 |.gt n vs=>GtSaid K n vs
 |.gd n kvs=>GdSaid K n kvs
 |.ck φ=>φ K=vH
 |.fd n st v=>nsIn K vZ n=vF (vF (.ref (Bb K n)))/\FnSaidD K n n st (Bb K n) v
theorem Ask.said:∀{a:Ask},a.chk K=vH->a.txt K=a.want->a.Said K
 |.fn n st,h,t=>by obtain⟨h1,h2⟩:=jW.mp h;exact⟨ZCv h1,ZEZ h2 (Option.some.inj t)⟩
 |.mt c m q st,h,t=>by obtain⟨h1,h2⟩:=jW.mp h;exact⟨(ZDO h1).1,(ZDO h1).2,ZEZ h2 (Option.some.inj t)⟩
 |.cl c,h,_=>by simp only[Ask.chk,zE]at h;obtain⟨⟨h1,⟨h2,h3⟩,h4⟩,⟨h5,h6⟩,h7⟩:=h;exact⟨ZCv h1,h2,h3,h4,ZK5 h5,h6,h7⟩
 |.no c x,h,_=>ZTg h
 |.z n,h,_=>ZS5 h
 |.gi n v,h,_=>ZMv h
 |.gs n v,h,_=>ZK2 h
 |.gt n vs,h,_=>ZO0 h
 |.gd n kvs,h,_=>ZPn h
 |.ck _,h,_=>h
 |.fd n st v,h,t=>by obtain⟨h1,h2⟩:=jW.mp h;exact⟨ZCv h1,ZNZ h2 (Option.some.inj t)⟩
def AllSaid(K:vB):List Ask->Prop
 |[]=>True
 |a::r=>a.Said K/\AllSaid K r
theorem ZFD:∀{l:List Ask},(l.all (Ask.chk K),l.map (Ask.txt K))=(vH,l.map Ask.want)->AllSaid K l
 |[],_=>trivial
 |a::r,h=>by obtain⟨h1,h2⟩:=Prod.mk.inj h;rw[qO]at h1;obtain⟨h3,h4⟩:=jW.mp h1;rw[zk,zk]at h2;obtain⟨h5,h6⟩:=List.cons.inj h2;exact⟨Ask.said h3 h5,ZFD (by rw[h4,h6])⟩
theorem ZUA(F:Fun K x q st f fd)
  (h:∀(kV doc pm:xE)(an:Option xj)(cdv ct:xE)(u:xE),bindArgs (fnOf x q (Hd st) (Fe st) (Ak st) .none kV doc pm an cdv ct) ⟨[u],[]⟩=pure [(a,u)]):BindsTo s fd ⟨[v],[]⟩ [(a,v)]:=by
 obtain⟨oc,od,kV,doc,pm,an,cdv,ct,osl,rfl,lk,hcd⟩:=F.ex;exact .of_eq (h kV doc pm an cdv ct v)
theorem ZI7:∀{n:Nat}{s s':SharedT}{t:Thread},Qn p w n₀ ann n s t=vF s'->topRun vY p w n₀ ann n s.abs t=vF s'.abs
 |0,_,_,_,h=>by cases h
 | n+1,s,s',t,h=>by
  unfold Qn at h;unfold topRun;rw[<-PySem.W.Fast.te6613529449190102663,<-PySem.W.Fast.te10156331382660048174,<-PySem.W.Fast.te11892475500146522536,<-PySem.W.Fast.te14364793385576792824]at h;cases ht:through t with
  |true=>
   rw[ht]at h;cases h
   rfl
  | false=>
   rw[ht]at h;dsimp only at h⊢;cases ho:stepOk n₀ ann t with
   |false=>rw[ho]at h;cases h
   |true=>
    rw[ho]at h;dsimp only at h⊢;split at h
    ·rename_i s2 t2 e;rw[stepT_spec e];exact ZI7 h
    ·cases h
theorem boot_abs:∀w os,(ZDl w os).abs=⟨vC w.params,Array.mk [],boot_drawn,boot_toks,os⟩:=λw os=>by kernel_rfl
theorem ZQM:∀w:xF,((vC w.params).isNs vZ&&(Array.mk []:Array GenState).size==0)=vH:=λw=>by kernel_rfl
theorem ZKW{p q:xA}{loose:List Str}{Xt:xC->Bool}{β:Type}{see:Heap->β}{val:β}(e:opening p=plainProg p.main.scope.names)(f:∀s,fenceModules? p s=vF s)
  (R:∀w os,(Qh p w os).map (λs=>(Q3 p w s.abs,PySem.W.Fast.tw4187177175401517315 q loose (PySem.W.Fast.tw5923862056798008813 p.main.body) Xt vH s.abs,see s.abs.heap))=vF (vH,openGood q loose,val)):
  ∀w,(openEnds vY p w 100000).map (λs=>(openSeen q loose (xT p.main.body) Xt vH s,see s.heap))=vF (openGood q loose,val):=λw=>by
 obtain⟨⟨h,gs,d,k,os⟩,h0,e0⟩:=zP.mp (boot_open (N:=100000) e rfl f w);obtain⟨rfl,rfl,rfl,rfl⟩:h=vC w.params/\gs=Array.mk []/\d=boot_drawn/\k=boot_toks:=by simpa using e0
 obtain⟨s,h1,h2⟩:=zP.mp (R w os);obtain⟨h3,h4⟩:=Prod.mk.inj h2;obtain⟨h4,h5⟩:=Prod.mk.inj h4;unfold Qh at h1;have r:=ZI7 h1;rw[boot_abs,<-PySem.W.Fast.te8920871248978507458]at r;rw[<-PySem.W.Fast.te4187177175401517315,<-PySem.W.Fast.te5923862056798008813]at h4;unfold Q3 at h3;rw[<-PySem.W.Fast.te5923862056798008813]at h3;have t:topFrom vY p w 100000 ⟨vC w.params,Array.mk [],boot_drawn,boot_toks,os⟩=vF s.abs:=by
  unfold topFrom;dsimp only;rw[ZQM,r]
  show(match staticsOk (xT p.main.body) (vC w.params) s.abs.heap&&namesBound p s.abs.heap&&gensDone s.abs&&laidKept (vC w.params) s.abs.heap with |true=>_|false=>_)=_
  rw[h3]
 unfold openEnds;rw[h0];show(topFrom vY p w 100000 _).map _=_;rw[t];exact congrArg vF (Prod.ext h4 h5)
structure FT (K:vB) (mg:Str->Option xE) (n:Str) (st:xD) (ps:List Str):Prop where
 F:Fun K n n st (Bb K n) (Bs K (Bb K n))
 b:Binds K (Bs K (Bb K n)) ps []
 m:mg n=vF (.ref (Bb K n))
 k:keepIn K (.ref (Bb K n))=vH
structure MT (K:vB) (c m q:Str) (st:xD) (ps:List Str):Prop where
 F:Fun K m q st (Fq K (Bb K c) m) (Bs K (Fq K (Bb K c) m))
 b:Binds K (Bs K (Fq K (Bb K c) m)) ps []
 me:Meth K (Bb K c) m (Fq K (Bb K c) m)
structure CT (K:vB) (mg:Str->Option xE) (c:Str):Prop where
 N:nsIn K vZ c=vF (vF (.ref (Bb K c)))
 cl:Cls K (Bb K c)
 g:mg c=vF (.ref (Bb K c))
 mK:Mk K (Bb K c) (Fq K (Bb K c) "__init__")
theorem T9(s:FnSaid K x q st f):Fun K x q st f (Bs K f):=by
 have e:Bs K f=fnOf x q (Hd st) (Fe st) (Ak st) .none (Bs K f).kwdefaults (Bs K f).doc (Bs K f).pyModule (Bs K f).annotations (Bs K f).code (Bs K f).closureTuple:=by
  have h:=s.1
  conv=>lhs;unfold Bs Hf;rw[h]
 exact⟨⟨_,_,_,_,_,_,_,_,_,e,by rw[e];exact s.1,s.2.1⟩,s.2.2⟩
theorem ZP2(X:K.In h)(G:h.Ns vZ mg)(s:Ask.Said K (.fn n st))
  (hb:∀(kV doc pm:xE)(an:Option xj)(cdv ct:xE)(us:List xE),us.length=ps.length->bindArgs (fnOf n n (Hd st) (Fe st) (Ak st) .none kV doc pm an cdv ct) ⟨us,[]⟩=pure (ps.zip us)):FT K mg n st ps:=
 ⟨T9 s.2,(T9 s.2).binds hb,mg_of X G s.1,s.2.2.2⟩
theorem ZQI(s:Ask.Said K (.mt c m q st))
  (hb:∀(kV doc pm:xE)(an:Option xj)(cdv ct:xE)(us:List xE),us.length=ps.length->bindArgs (fnOf m q (Hd st) (Fe st) (Ak st) .none kV doc pm an cdv ct) ⟨us,[]⟩=pure (ps.zip us)):MT K c m q st ps:=
 ⟨T9 s.2.2,(T9 s.2.2).binds hb,s.1,s.2.1,s.2.2.2.2⟩
theorem ZMi(X:K.In h)(G:h.Ns vZ mg)(s:Ask.Said K (.cl c))(i:Ask.Said K (.mt c "__init__" q st)):CT K mg c:=
 ⟨s.1,⟨s.2.1,s.2.2.1,s.2.2.2.1,s.2.2.2.2.1⟩,mg_of X G s.1,s.2.2.2.2.2.1,i.1,i.2.1,s.2.2.2.2.2.2⟩
abbrev FnO(P:xA)(w:xF)(K:vB)(mg:Str->Option xE)(base:Heap)(k:Nat)(n:Str)(ps:List Str)(F:List D->DH->R D):Prop:=FnOk P w K mg base CX0 k (Bb K n) (Bs K (Bb K n)) ps (lF K F)
abbrev MtO(P:xA)(w:xF)(K:vB)(mg:Str->Option xE)(base:Heap)(k:Nat)(c m:Str)(ps:List Str)(F:List D->DH->R D):Prop:=FnOk P w K mg base CX0 k (Fq K (Bb K c) m) (Bs K (Fq K (Bb K c) m)) ps (lF K F)
theorem ZUg(F:Fun K x q st f fd)
  (h:∀(kV doc pm:xE)(an:Option xj)(cdv ct:xE)(u:xE),bindArgs (fnOf x q (Hd st) (Fe st) (Ak st) .none kV doc pm an cdv ct) ⟨[u],[]⟩=pure [(a,u)]:=by intros;rfl):BindsTo s fd ⟨[v],[]⟩ [(a,v)]:=ZUA F h
end _D
namespace _D
open PySem PySem.Spec _L
open PyProof.Rows hiding St
section
variable{prog:xA}{w:xF}{A:xw}{E:xE->xC->Prop}{s:xC}
def strAt(es:Array DictEntry)(x:Str):Option xE:=(es.findIdx? λe=>e.key.isStr x).bind λi=>es[i]?.map (·.val)
theorem ZFH{v:xE}{x:Str}(h:v.isStr x=vH):∃t,v=.str x t:=by
 cases v<;>first
  |(rename_i y t;unfold Value.isStr at h;exact⟨t,by rw[of_decide_eq_true h]⟩)
  |(rename_i y t;simp[Value.isStr]at h;exact⟨t,by rw[h]⟩)
  |cases h
theorem ZIA{d:xj}{o:Obj}{es:Array DictEntry}{ep}{x:Str}{t:Tok}{Q:Option xE->xC->Prop}(ho:s.heap.get? d=vF o)(hd:o.data=.dict es ep)
  (hall:(es.all λe=>isExactStrKey e.key)=vH) (h:Q (strAt es x) {s with toks:=s.toks+1}):
  vq (vJ prog w) A (dictGet d (.str x t)) Q E s:=by
 unfold strAt at h;unfold dictGet
 try with_reducible refine v4 ?_
 refine vj (wpAny_pyHash_str (vj ?_));unfold dictFind
 try with_reducible refine v4 ?_
 refine vj (wpAny_dictEntries (s:={s with toks:=s.toks+1}) ho hd ?_);dsimp only;rw[if_pos hall];unfold foundByValue;cases hf:es.findIdx? (λe=>e.key.isStr x)with
 |none=>rw[hf]at h;exact v8 (v8 h)
 |some i=>
  rw[hf]at h;obtain⟨hlt,hi,_⟩:=Array.findIdx?_eq_some_iff_getElem.mp hf;obtain⟨u,hu⟩:=ZFH hi;simp only[Array.getElem?_eq_getElem hlt]at h⊢;rw[hu];refine vj (wpAny_dictEpoch (s:={s with toks:=s.toks+1}) ho hd (vj (wpAny_eqBool_str (vj (wpAny_dictEpoch (s:={s with toks:=s.toks+1}) ho hd ?_)))));show vq _ _ (if(ep != ep)=vH then _ else _) _ E _;rw[if_neg (by simp),decide_eq_true rfl]
  refine vj (wpAny_rule (v8 ?_));exact vj (wpAny_dictEntries (s:={s with toks:=s.toks+1}) ho hd (v8 (by simpa[Array.getElem?_eq_getElem hlt]using h)))
theorem ZMr{ep}(ho:s.heap.get? d=vF o)(hc:o.cls=.type "dict")(hd:o.data=.dict es ep)
  (hall:(es.all λe=>isExactStrKey e.key)=vH) (hv:strAt es x=vF v) (h:Q v {s with toks:=s.toks+1}):vq (vJ prog w) A (getItem (.ref d) (.str x t)) Q E s:=by
 have hT:s.TypeIs (.ref d) "dict":=⟨o,ho,hc⟩;unfold getItem
 try with_reducible refine v4 ?_
 refine vj (wpAny_sequenceKey hT (by decide) ?_);refine vj (vx (name:=Str.ofString "__getitem__") hT slot_dict_getitem
  (vv slot_dict_getitem hT entry_dict_getitem ?_ (args_dict_getitem _ _)))
 show vq _ _ (dictGet d (.str x t) >>=_) _ _ s;refine vj (ZIA ho hd hall ?_);rw[hv];exact v8 ⟨v,rfl,v8 h⟩
theorem ZS1{ep}(hds:(d==sysModules)=vI)(ho:s.heap.get? d=vF o)(hc:o.cls=.type "dict")(hd:o.data=.dict es ep)
  (hall:(es.all λe=>isExactStrKey e.key)=vH) (h:Q (.bool (!(strAt es x).isSome)) {s with toks:=s.toks+1}):vq (vJ prog w) A (xS .NotIn (.str x t) (.ref d)) Q E s:=by
 have hT:s.TypeIs (.ref d) "dict":=⟨o,ho,hc⟩
 show vq _ _ (do return .bool (!(<-contains (.ref d) (.str x t)))) Q E s
 refine vj ?_;unfold contains
 try with_reducible refine v4 ?_
 refine vj (wpAny_specialOf hT slot_dict_contains.lookup ?_);show vq _ _ (if(vF (Value.builtin "dict.__contains__")==vF Value.none)=vH then _ else _) _ E s;rw[if_neg (by rw[beq_builtin_none];exact zy)];refine vj (wpAny_callSpecialUnlessNone?_slot (name:=Str.ofString "__contains__") hT slot_dict_contains
  (vv slot_dict_contains hT entry_dict_contains ?_ (args_dict_contains _ _)))
 show vq _ _ (dictGet d (.str x t) >>=_) _ _ s;refine vj (ZIA ho hd hall ?_);cases hf:strAt es x with
 |some v=>
  rw[hf]at h;show vq _ _ (ret (.bool vH)) _ _ _;exact v8 ⟨_,rfl,vA (v8 h)⟩
 |none=>
  rw[hf]at h;show vq _ _ (Builtin.Dict.pendingKey? d (.str x t) >>=_) _ _ _;exact vj (wpAny_pendingKey_other hds (v8 ⟨_,rfl,vA (v8 h)⟩))
end
theorem strAt_eq:strAt es x=(es.toList.find? λe=>e.key.isStr x).map (·.val):=by
 obtain⟨l⟩:=es;have e:=findBy_of_findIdx? (λ(x:Str)(v:xE)=>v.isStr x) ⟨l⟩ x;unfold findBy at e;rw[<-Array.find?_toList]at e;unfold strAt;rw[e]
 cases(Array.findIdx? (λe=>e.key.isStr x) ⟨l⟩)<;>rfl
def AtT(kvs:List (Str×Str))(es:Array DictEntry):Prop:=∀x,(kvs.lookup x=vG/\strAt es x=vG)∨∃v t,kvs.lookup x=vF v/\strAt es x=vF (.str v t)
theorem ZDH:∀{kvs:List (Str×Str)}{es:List DictEntry},Vals ((kvs.map (·.1)).map V.str) (es.map (·.key))->Vals ((kvs.map (·.2)).map V.str) (es.map (·.val))->(es.all λe=>isExactStrKey e.key)=vH/\
  ∀x,(kvs.lookup x=vG/\(es.find? λe=>e.key.isStr x).map (·.val)=vG)∨∃v t,kvs.lookup x=vF v/\(es.find? λe=>e.key.isStr x).map (·.val)=vF (.str v t)
 |[],[],_,_=>⟨rfl,λ_=>.inl ⟨rfl,rfl⟩⟩
 |[],e::es,h,_=>by cases h
 |(k,v)::kvs,[],h,_=>by cases h
 | (k,v)::kvs,⟨hs,ke,va⟩::es,h1,h2=>by
  cases h1 with
  | cons p1 q1=>cases h2 with
   | cons p2 q2=>
    obtain⟨t1,rfl⟩:=p1;obtain⟨t2,rfl⟩:=p2;obtain⟨ih1,ih2⟩:=ZDH q1 q2;refine⟨by rw[qO,ih1];rfl,λx=>?_⟩;by_cases hx:x=k
    ·subst hx;exact .inr ⟨v,t2,by simp[jq],by simp[qy,Value.isStr]⟩
    ·have hx':¬k=x:=λz=>hx z.symm
     have b1:(x==k)=vI:=by simpa using hx
     have b2:(Value.str k t1).isStr x=vI:=by
      cases h:(Value.str k t1).isStr x with
      |false=>rfl
      |true=>obtain⟨t,e⟩:=ZFH h;cases e;exact absurd rfl hx'
     rw[jq,b1,qy];simp only[b2];exact ih2 x
structure DctAt (K:PySem.W.Frag) (p:xj) (kvs:List (Str×Str)):Prop where
 ex:∃(o:Obj)(es:Array DictEntry)(ep:Nat),(p==sysModules)=vI/\K.lookup p=vF o/\o.cls=.type "dict"/\o.data=.dict es ep/\(es.all λe=>isExactStrKey e.key)=vH/\AtT kvs es
def DctG(K:PySem.W.Frag)(mg:Str->Option xE)(n:Str)(kvs:List (Str×Str)):Prop:=∃p,mg n=vF (.ref p)/\DctAt K p kvs
theorem ZTf{K:PySem.W.Frag}{h:Heap}{mg:Str->Option xE}{n:Str}{kvs:List (Str×Str)}(X:K.In h)(G:h.Ns vZ mg)(s:GdSaid K n kvs):DctG K mg n kvs:=by obtain⟨p,od,sl,k,es,h1,h2,h3,h4,h5⟩:=s;obtain⟨q1,q2⟩:=ZDH h4 h5;exact⟨p,PySem.W.mg_of X G h1,⟨_,es,k,h3,h2,rfl,rfl,by rw[<-Array.all_toList];exact q1,λx=>by rw[strAt_eq];exact q2 x⟩⟩
def Lh(kvs:List (Str×Str)):D->DH->R D
 |.str x,G=>match kvs.lookup x with
  |some v=>.ok (.str v) G
  |none=>.bad
 |_,_=>.bad
def Nb(kvs:List (Str×Str)):D->DH->R D
 |.str x,G=>.ok (.bl (!(kvs.lookup x).isSome)) G
 |_,_=>.bad
section
variable{X:Cx}{E:XK}{p:xj}{kvs:List (Str×Str)}{x:Str}{a:xk}{ta:DE}{np pos:Pos}
theorem ix_g(D:DctAt X.K p kvs):IxR X (λx y H Q=>∃k v,x=.ref p/\y=.str k/\kvs.lookup k=vF v/\Q (.str v) H):=by
 intro value slice vE s σ H x y v u Q I rx ry h hs;obtain⟨k,w,rfl,rfl,hl,q⟩:=h;obtain rfl:v=Value.ref p:=rx;obtain⟨t,rfl⟩:=ry;obtain⟨o,es,ep,hds,hK,hc,hd,ha,hat⟩:=D.ex;have ho:=I.kIn _ _ hK;have hT:s.TypeIs (.ref p) "dict":=⟨o,ho,hc⟩;obtain⟨v',t',hv⟩:∃v' t',strAt es k=vF (.str v' t')/\v'=w:=by
  rcases hat k with⟨z,_⟩|⟨v',t',z,z'⟩
  ·rw[hl]at z;cases z
  ·rw[hl]at z;cases z;exact⟨_,t',z',rfl⟩
 obtain⟨hv,rfl⟩:=hv;unfold subscriptTail;refine vj ?_;rw[getitemInPython_of_ne hT.not_modules];refine vj (wpAny_specialOf hT PySem.F.slot_dict_getitem.lookup ?_);have fin:vq (vJ X.prog X.w) X.A (subscripted slice vI (.ref p) (.str k t)) (λr s₃=>vq (vJ X.prog X.w) X.A (letTemporaryGo value (.ref p) r >>=λ_=>pure r) (EP X vE σ Q) X.xe s₃) X.xe s:=by rw[hs];exact wpAny_operating (ZMr ho hc hd ha hv (vj (wpAny_letTemporaryGo (v8 ⟨.str v',H,I.tok _,⟨_,rfl⟩,q⟩))))
 first
  |exact v8 (vj fin)
  |exact vj (v8 (vj fin))
  |exact vj fin
theorem ZOZ(D:DctAt X.K p kvs):OpR X (xS .NotIn) (λy x H Q=>∃k,x=.ref p/\y=.str k/\Q (.bl (!(kvs.lookup k).isSome)) H):=by
 intro vE s σ H y x v u Q I ry rx ⟨k,ex,ey,q⟩;subst ex ey;obtain rfl:u=Value.ref p:=rx;obtain⟨t,rfl⟩:=ry;obtain⟨o,es,ep,hds,hK,hc,hd,ha,hat⟩:=D.ex;refine ZS1 hds (I.kIn _ _ hK) hc hd ha ⟨.bl (!(kvs.lookup k).isSome),H,I.tok _,?_,q⟩;rcases hat k with⟨z,z'⟩|⟨v',t',z,z'⟩
 ·rw[z,z'];rfl
 ·rw[z,z'];rfl
theorem ZRM(hg:Gl X x)(h:DctG X.K X.mg x kvs)(ha:QE X E a ta)(hs:PlainIx a:=by intro _ _;rfl)(hd:(x==("__debug__":Str))=vI:=by decide):QE X E (.Subscript (.Name x np) a pos) (dUn (Lh kvs) ta):=by
 obtain⟨p,hm,D⟩:=h;refine(ZHM (ix_g D) (ZBj (v:=.ref p) hg hm rfl hd) ha hs).mono λσ H Q h=>?_
 obtain⟨a,S,G,hk,rfl,s,r,h⟩:=h;refine⟨a,S,G,hk,rfl,s,r,(Ej h).imp ?_⟩;rintro v _ ⟨b,d,G1,rfl,y,s1,q1,_,h1⟩;cases d with
 |str k=>
  cases(show v=.str k from q1)
  unfold Lh at h1;dsimp only at h1;split at h1
  ·rename_i w hw;exact⟨k,w,rfl,rfl,hw,h1 b _ (Ext.refl b) s1 rfl⟩
  ·exact h1.elim
 |_=>exact h1.elim
theorem ZTb(h:lE X.K E (dUn (Nb kvs) ta) σ H Q):tOp (λy x H Q=>∃k,x=.ref p/\y=.str k/\Q (.bl (!(kvs.lookup k).isSome)) H) (lE X.K E ta) (tC (.ref p)) σ H Q:=by
 obtain⟨a,S,G,hk,rfl,s,r,h⟩:=h;refine⟨a,S,G,hk,rfl,s,r,(Ej h).imp ?_⟩;rintro v _ ⟨b,d,G1,rfl,y,s1,q1,_,h1⟩;cases d with
 |str k=>
  cases(show v=.str k from q1)
  exact⟨k,rfl,rfl,h1 b _ (Ext.refl b) s1 rfl⟩
 |_=>exact h1.elim
theorem ZPT(hg:Gl X x)(h:DctG X.K X.mg x kvs)(ha:QE X E a ta)(hm:xM .NotIn (.Name x np)=vI)(hd:(x==("__debug__":Str))=vI:=by decide):QT X E (.Compare a [.NotIn] [.Name x np] pos) (Ag (dUn (Nb kvs) ta)):=by obtain⟨p,hp,D⟩:=h;exact(ZGO (ZOZ D) ha (ZBj (v:=.ref p) hg hp rfl hd) hm).mono λσ H Q h=>ZBW (λ_ _ _ z=>ZTb z) σ H Q (Rx h)
end
def Ga(kvs more:List (Key×D)):List (Key×D):=more.foldl (λacc kv=>putD acc kv.1 kv.2) kvs
theorem RepKV.merge:∀{more:List (Key×D)}{ms:List (Key×V)}{kvs:List (Key×D)}{us:List (Key×V)},RepKV a more ms->RepKV a kvs us->RepKV a (Ga kvs more) (Lg us ms)
 |[],ms,kvs,us,h,r=>by have:ms=[]:=j8.mp h.1.symm;subst this;exact r
 |(k,d)::more,ms,kvs,us,h,r=>by obtain⟨v,ms',rfl,h1,h2⟩:=RepKV.cons h;exact RepKV.merge (more:=more) (ms:=ms') h2 (r.put (k:=k) h1)
def Df:D->Option V
 |.int i=>vF (.int i)
 |.str x=>vF (.str x)
 |_=>vG
theorem ZRt(h:Df d=vF w)(r:Rep a d v):v=w:=by
 cases d<;>first
  |(cases h;exact r)
  |cases h
theorem ZTJ(h:Df d=vF w):Rep a d w:=by
 cases d<;>first
  |(cases h;rfl)
  |cases h
def Mp(kvs:List (Str×D)):DE:=λ_ G=>.ok (.ref G.length) (G++[.dct (Ga [] (kvs.map λkv=>(.inr kv.1,kv.2)))])
section
variable{X:Cx}{E:XK}{pos:Pos}
def QPs(X:Cx)(E:XK)(pos:Pos)(keys:List (Option xk))(values:List xk)(kvs:List (Str×D)):Prop:=PPs X pos keys values (kvs.map λkv=>(tC (.str kv.1),lE X.K E (dC kv.2)))
theorem ZEb:QPs X E pos [] [] []:=ZPg
theorem Ie(hv:QE X E v (dC d))(hr:QPs X E pos ks vs kvs):QPs X E pos (vF (.Constant (.str x) j p)::ks) (v::vs) ((x,d)::kvs):=ZT5 ZEl hv hr
theorem ZJL:∀{kvs:List (Str×D)}{ws:List V}{b:Wd}{Q:List (V×V)->Hp->Prop},kvs.map (λkv=>Df kv.2)=ws.map vF->b.K=X.K->Ext a0 b->Sim b G0->RepS b S σ->
  (∀c,Ext a0 c->Sim c G0->Q ((kvs.map λkv=>V.str kv.1).zip ws) c.H)->Rc (kvs.map λkv=>(tC (.str kv.1),lE X.K E (dC kv.2))) σ b.H Q
 |[],ws,b,Q,hw,hk,hx,hs,hr,h=>h b hx hs
 |(x,d)::kvs,[],b,Q,hw,hk,hx,hs,hr,h=>by cases hw
 |(x,d)::kvs,w::ws,b,Q,hw,hk,hx,hs,hr,h=>by rw[zk,zk]at hw;obtain⟨h1,h2⟩:=List.cons.inj hw;refine⟨b,S,G0,hk,rfl,hs,hr,λc v xc sc rc=>?_⟩;obtain rfl:=ZRt h1 rc;exact ZJL h2 (xc.k.trans hk) (hx.trans xc) sc (hr.mono xc) λc' x' s'=>h c' x' s'
theorem ZFI:∀{kvs:List (Str×D)},(kvs.all λkv=>(Df kv.2).isSome)=vH->∃ws:List V,kvs.map (λkv=>Df kv.2)=ws.map vF
 |[],_=>⟨[],rfl⟩
 |kv::kvs,hf=>by rw[qO,zE]at hf;obtain⟨w,hw⟩:=jX.mp hf.1;obtain⟨ws,h2⟩:=ZFI hf.2;exact⟨w::ws,by rw[zk,zk,h2,hw]⟩
theorem ZE6:∀{kvs:List (Str×D)}{ws:List V},kvs.map (λkv=>Df kv.2)=ws.map vF->RepKV c (kvs.map λkv=>((.inr kv.1:Key),kv.2)) ((kvs.map λkv=>(Sum.inr kv.1:Key)).zip ws)
 |[],_,_=>RepKV.nil
 |kv::kvs,[],h=>by cases h
 |kv::kvs,w::ws,h=>by rw[zk,zk]at h;obtain⟨h1,h2⟩:=List.cons.inj h;exact RepKV.mk (ZTJ h1) (ZE6 h2)
theorem ZH9:∀{kvs:List (Str×D)}{ws:List V},(kvs.map λkv=>V.str kv.1).zip ws=((kvs.map λkv=>(Sum.inr kv.1:Key)).zip ws).map λkv=>(kV kv.1,kv.2)
 |[],_=>rfl
 |kv::kvs,[]=>rfl
 |kv::kvs,w::ws=>congrArg _ ZH9
theorem ZFf(h:QPs X E pos keys values kvs)(hf:(kvs.all λkv=>(Df kv.2).isSome)=vH:=by rfl)(hn:kvs.length<=15:=by decide)(hall:keys.all (·.isSome)=vH:=by rfl)(hl:keys.length=values.length:=by rfl)(h0:keys≠[]:=by exact λz=>nomatch z)
  (h15:keys.length<=15:=by decide):QE X E (.Dict keys values pos) (Mp kvs):=by
 refine(ZTd h hall hl h0 h15).mono λσ H Q h=>?_
 obtain⟨a,S,G,hk,rfl,s,r,h⟩:=h;intro p hp;obtain⟨ws,hws⟩:=ZFI hf;have s0:Sim (a.push p (.dK [])) (G++[.dct []]):=s.push hp ⟨[],rfl,RepKV.nil⟩;refine ZJL (b:=a.push p (.dK [])) (a0:=a.push p (.dK [])) (G0:=G++[.dct []]) (S:=S) hws hk (Ext.refl _) s0 (r.mono (Ext.push hp)) λc xc sc=>?_
 have hlt:a.n<c.n:=zj (qY _) xc.n;have hm:c.m a.n=p:=by rw[xc.m a.n (qY _)];show(if a.n=a.n then p else a.m a.n)=p;rw[if_pos rfl]
 obtain⟨us,e1,e2⟩:=sc.obj a.n (.dct []) (by rw[<-s.len];simp);have:us=[]:=j8.mp e2.1.symm;subst this;rw[hm]at e1;have hlen:ws.length=kvs.length:=by have:=congrArg xz hws;simpa using this.symm
 refine⟨e1,(kvs.map λkv=>(Sum.inr kv.1:Key)).zip ws,ZH9,by simp;lia,?_⟩
 ·have hw:=sc.wrD (i:=a.n) hlt (us:=[]) (us':=Lg [] ((kvs.map λkv=>(Sum.inr kv.1:Key)).zip ws)) (kvs':=Ga [] (kvs.map λkv=>((.inr kv.1:Key),kv.2))) (by rw[hm];exact e1) (RepKV.merge (ZE6 hws) RepKV.nil);rw[hm]at hw;have eG:(G++[DO.dct []]).set a.n (DO.dct (Ga [] (kvs.map λkv=>((.inr kv.1:Key),kv.2))))=G++[DO.dct (Ga [] (kvs.map λkv=>((.inr kv.1:Key),kv.2)))]:=by rw[<-s.len];simp
  rw[eG]at hw;refine h (c.put p _) (.ref p) (((Ext.push hp).trans xc).trans (Ext.wrD e1)) hw ⟨by rw[s.len];exact hlt,?_⟩;show V.ref p=V.ref (c.m G.length);rw[s.len,hm]
end
section
variable{S:DSt}{G:DH}
@[simp]theorem ZVT:Mp kvs S G=.ok (.ref G.length) (G++[.dct (Ga [] (kvs.map λkv=>(.inr kv.1,kv.2)))]):=id rfl
theorem ZM2(h:kvs.lookup x=vF v):Lh kvs (.str x) G=.ok (.str v) G:=by
 show(match kvs.lookup x with |some v=>R.ok (D.str v) G|none=>R.bad)=_
 rw[h]
@[simp]theorem ZVX:Nb kvs (.str x) G=.ok (.bl (!(kvs.lookup x).isSome)) G:=id rfl
end
theorem Bo{X:Cx}{k j:Nat}{n:Str}{st:xD}{ps:List Str}{F:List D->DH->R D}{p pos:Pos}{e:xk}{es:List xk}{tr:DA}(FF:FnO X.prog X.w X.K X.mg X.base k n ps F)(T:FT X.K X.mg n st ps)(hr:Room j X.A)(ha:QA X E0 (e::es) tr)
  (hj:k<=j:=by decide) (hg:Gl X n:=by exact rfl) (hd:(n==("__debug__":Str))=vI:=by decide) (he:notStar e=vH:=by exact rfl) (hp:es.all notStar=vH:=by exact rfl):QE X E0 (.Call (.Name n p) (e::es) [] pos) (dFn F tr):=
 ZTw FF (hr.mono hj) hg T.m T.k T.b pass0 ha hd he hp
section
variable{M:Model}{A:xw}{E:xE->xC->Prop}{s:xC}{B:Heap}{env:Env}{outer:List Env}{L e:xj}{oe:Obj}{vs:Array xE}{head:xE}{hn:Bool}{Q:Unit->xC->Prop}
end
section
variable{X:Cx}{vE:List (xj×Obj)}{σ:St}{H H':Hp}{s s':xC}{B h'':Heap}{ea:xj}{cls:xE}{od:Option xj}{E:XK}
end
section
variable{prog:xA}{w:xF}{A:xw}{E:xE->xC->Prop}{h:Heap}{g:Array GenState}{d:Drawn}{t:Nat}{os:OsState}
variable{nm q:Str}{C N:xj}{bs bm bmB:List xE}{hdct:Bool}{sn:List Str}{sub:List xE}{ab:Bool}{col:Option Bool}{dd:Option xj}{k0 k1 k2 k3 k5:Option xE}{B newId initId:String}
end
abbrev vmro:List xE:=[.type "ValueError",.type "Exception",.type "BaseException",.type "object"]
def Vp(K:PySem.W.Frag)(C:xj):Bool:=match K.lookup C with
 |some ⟨.type "type",_,.cls cd,sl⟩=>(match cd.mro,sl.toList with
  |.ref C'::bm,[_,_,_,_,vF (.builtin n),_]=>C'==C&&n == "ValueError.__new__" && !cd.hasDel&&cd.hasDict&&PySem.W.tailIn K vmro bm&&PySem.W.nsOkIn K cd.ns
  |_,_=>vI)
 |_=>vI
section
variable{X:Cx}{C W:xj}{x:Str}{mc:xE}{p apos pos:Pos}{a1 a2:xk}{t:TA}
end
section
open PySem.W
variable{prog:xA}{w:xF}{A:xw}{s:xC}{K:vB}{x C:xj}{R:Result->xC->Prop}
end
section
variable{prog:xA}{w:xF}{A:xw}{E:xE->xC->Prop}{s:xC}{K:PySem.W.Frag}{e C t:xj}{name:Str}{v:xE}
end
section
variable{X:Cx}{C:xj}{f:Str}{o value:xk}{pos pos':Pos}{ta tv:TE}
end
section
variable{X:Cx}{j:Nat}{v s1 s2:Str}{k1 k2 p1 p2 pv pf pos}
end
section
variable{M:Model}{A:xw}{E:xE->xC->Prop}{env:Env}
variable{nm q:Str}{C N:xj}{bs bm:List xE}{hdct:Bool}{sn:List Str}{sub:List xE}{ab:Bool}{col:Option Bool}{dd:Option xj}{k0 k1 k2 k3 k5:Option xE}{newId:String}
end
section
variable{X:Cx}{C fI:xj}{f x:Str}{np cpos pos:Pos}{a:xk}{ta:TA}{E:XK}{k:Nat}{fd:xy}{v:Str}
end
section
variable{X:Cx}{vE:List (xj×Obj)}{σ:St}{H H':Hp}{s s':xC}{B h'':Heap}{ea:xj}{cls:xE}{od:Option xj}{E:XK}{fl:xE}
end
section
variable{M:Model}{A:xw}{E:xE->xC->Prop}{h:Heap}{g:Array GenState}{d:Drawn}{t:Nat}{os:OsState}
end
section
variable{X:Cx}{vE:List (xj×Obj)}{σ:St}{H:Hp}{s:xC}
end
section
variable{X:Cx}{vE:List (xj×Obj)}{σ:St}{H:Hp}{s:xC}{ea:xj}
end
section
variable{X:Cx}{f W:xj}{fn x n:Str}{fp cp ep np hp pos:Pos}{a:xk}{es:List xk}{ta:TA}{sp:Sp}{k i:Nat}{fd:xy}{ps:List Str}{b₀:xD}{suite:List xD}{th:TS}
def takes(K:PySem.W.Frag)(C W:xj):Bool:=Vp K C&&Vp K W&&match K.lookup C with
 |some ⟨_,_,.cls cd,_⟩=>cd.mro.contains (.ref W)
 |_=>vI
end
section
variable{X:Cx}{E:XK}{C fI:xj}{c f v:Str}{np cpos pos:Pos}{a:xk}{t:DA}{k:Nat}{fd:xy}
end
section
variable{X:Cx}{E:XK}{f W:xj}{fn x n:Str}{fp cp ep np hp pos:Pos}{a:xk}{es:List xk}{t:DA}{F:List D->DH->R D}{k i:Nat}{fd:xy}{ps:List Str}{b₀:xD}{suite:List xD}{hb:DS}{ws:List Str}
end
section
variable{X:Cx}{E:XK}{x:Str}{p pos:Pos}{e:xk}{es:List xk}{tr:DA}
end
section
variable{X:Cx}{E:XK}{x:Str}{p pos:Pos}{e:xk}{es:List xk}{tr:DA}
end
structure XGet (K:PySem.W.Frag) (C:xj):Prop where
 ga:PySem.W.findIn K (.ref C) "__getattribute__"=vF (vF (.builtin "BaseException.__getattribute__"))
 gn:PySem.W.findIn K (.ref C) "__getattr__"=vF vG
 sb:PySem.W.subIn K (.ref C) (.type "BaseException")=vF vH
 hd:PySem.W.hasDictIn K C=vH
 cl:PySem.W.findIn K (.ref C) "__class__"=vF (vF (.builtin "object.__class__"))
 cg:PySem.W.specialIn K (.builtin "object.__class__") "__get__"=vF (vF (.builtin "getset_descriptor.__get__"))
 ct:PySem.W.takesIn K (.builtin "object.__class__")=vF vH
 mo:PySem.W.mroIn K C (.type "object")=vF vH
 kc:PySem.W.kitCls K (.ref C) (.ref C)=vF vH
 ec:Vp K C=vH
section
variable{prog:xA}{w:xF}{A:xw}{E:xE->xC->Prop}{s:xC}{K:PySem.W.Frag}{x C:xj}{ox:Obj}{od:Option Obj}{name:Str}{tk:Tok}
end
section
variable{X:Cx}{E:XK}{vE:List (xj×Obj)}{σ:St}{H:Hp}{s:xC}
variable{e ce:xk}{ces:List xk}{t:DE}{tb:List (Str×Bool)}{cv:V}{cu:xE}{cvs:List V}{cus:List xE}{p pos tp:Pos}
variable{f:Str}{cs:List Str}
end
end _D
namespace _D
open PySem PySem.Spec PySem.W _L
open PyProof.Rows hiding St
section
variable{X:Cx}{E:XK}{c x n f v:Str}{e a:xk}{es:List xk}{t:DE}{tr:DA}{p q pos cpos np:Pos}{b:Bool}{F:List D->DH->R D}{k j:Nat}{ps:List Str}{st:xD}
end
end _D
namespace _D
open PySem PySem.Spec _L
open PyProof.Rows hiding St
section
variable{X:Cx}{E:XK}{vE:List (xj×Obj)}{σ:St}{s:xC}
end
end _D
namespace _D
open PySem PySem.W PySem.Spec _L
open PyProof.Rows hiding St
section
variable{X:Cx}{E:XK}{x:Str}{p pos:Pos}{e:xk}{es:List xk}{tr:DA}
end
section
variable{X:Cx}{E:XK}{n:Str}{e:xk}{es:List xk}{tr:DA}{p pos:Pos}{F:List D->DH->R D}{k j:Nat}{ps:List Str}{st:xD}{v:Int}
end
section
variable{X:Cx}{E:XK}{c x n f v:Str}{e a:xk}{es:List xk}{t:DE}{tr:DA}{p q pos cpos np:Pos}{b:Bool}{F:List D->DH->R D}{k j:Nat}{ps:List Str}{st:xD}
end
end _D
namespace _D
open PySem PySem.Spec _L
open PyProof.Rows hiding St
section
variable{X:Cx}{f:xj}{fn:Str}{fp cp ep pos:Pos}{a e:xk}{es:List xk}{t:DA}{te:DE}{F:List D->DH->R D}{k:Nat}{fd:xy}{ps:List Str}
end
section
variable{X:Cx}{W:xj}{x n:Str}{np hp pos:Pos}{i:Nat}{b₀:xD}{suite:List xD}{hb:DS}{ws ns:List Str}{hs:List ExceptHandler}{f:DHn}
end
section
variable{X:Cx}{W:xj}{x:Str}{np hp pos:Pos}{b₀:xD}{suite:List xD}{hb:DS}{ws ns:List Str}{hs:List ExceptHandler}{f:DHn}
end
end _D
namespace _D
open PySem PySem.Spec PySem.W _L
open PyProof.Rows hiding St
section
variable{X:Cx}{C:xj}{x:Str}{np cpos pos:Pos}{a:xk}{ta:TA}{E:XK}
end
section
variable{X:Cx}{E:XK}{c x n f v w:Str}{e a:xk}{es:List xk}{t:DE}{tr:DA}{p q pos cpos np fp cp ep hp:Pos}{b:Bool}{F:List D->DH->R D}{k j:Nat}{ps:List Str}{st:xD}
def Cf(K:vB)(f:Str)(cs:List Str):Prop:=∀c∈cs,∀C,nsIn K vZ c=vF (vF (.ref C))->XGet K C/\NoAttr K C f
end
section
variable{X:Cx}{n y:Str}{e e2:xk}{es:List xk}{tr:DA}{tu:DE}{p pos kp:Pos}{F:List D->DH->R D}{k j:Nat}{ps:List Str}{st:xD}{v:Int}
end
section
variable{prog:xA}{w:xF}{A:xw}{E:xE->xC->Prop}{s:xC}
end
section
variable{X:Cx}{E:XK}
end
section
variable{X:Cx}{E:XK}
end
section
variable{X:Cx}{E:XK}
end
end _D
namespace _D
open PySem PySem.Spec _L
open PyProof.Rows hiding St
def tgN:xk->List Str
 |.Name x _=>[x]
 |.Tuple es _ _=>es.flatMap λe=>match e with
  |.Name x _=>[x]
  |_=>[]
 |_=>[]
def Ij(tg:xk)(caps:List Nat)(N:List Str):List Str:=tgN tg++caps.map λj=>N.getD j ""
section
variable{X:Cx}{scope:xB}{nt:Nat}{caps:List Nat}{tg elt iter:xk}{ifs:List xk}{pos:Pos}{it:DI}{g:DG}{c:DB}{te:DE}
theorem ZT4(hi:QI X E0 tg iter it)(hg:∀C s₀ H₀ ex,(Ij tg caps X.N).Nodup->QG (blk X (Ij tg caps X.N) scope C s₀ H₀ ex) E0 tg g)(gk:GK nt g)(hts:∀C s₀ H₀ ex,QTs (blk X (Ij tg caps X.N) scope C s₀ H₀ ex) E0 ifs c)
  (he:∀C s₀ H₀ ex,QE (blk X (Ij tg caps X.N) scope C s₀ H₀ ex) E0 elt te) (hc:X.calm=vH:=by rfl) (hk:scope.kind=.function:=by rfl) (hdn:∀x,X.env.kindOf x=X.env.scope.names.lookup x:=by intro _;rfl)
  (h:Sx X.env.scope.names X.N (Ij tg caps X.N) scope.names nt caps=vH:=by kernel_rfl) (hs:∀x,foldedSetIterable iter X.env x=pure x:=by intro _;rfl):QE X E0 (.ListComp elt [⟨tg,iter,ifs,0⟩] scope pos) (Bx it nt caps g c te):=
 have cs:=ZD4 hk hdn rfl h
 ZMe hc cs hi (λC s₀ H₀ ex=>hg C s₀ H₀ ex cs.nd) gk hts he hs
theorem ZTM(i:Nat){y:Str}{py spos:Pos}(hN:X.N.Nodup)(hi:QI X E0 tg iter it)(hg:∀C s₀ H₀ ex,(Ij tg caps X.N).Nodup->QG (blk X (Ij tg caps X.N) scope C s₀ H₀ ex) E0 tg g)(gk:GK nt g)(hts:∀C s₀ H₀ ex,QTs (blk X (Ij tg caps X.N) scope C s₀ H₀ ex) E0 ifs c)
  (he:∀C s₀ H₀ ex,QE (blk X (Ij tg caps X.N) scope C s₀ H₀ ex) E0 elt te) (hc:X.calm=vH:=by rfl) (hk:scope.kind=.function:=by rfl) (hdn:∀x,X.env.kindOf x=X.env.scope.names.lookup x:=by intro _;rfl)
  (h:Sx X.env.scope.names X.N (Ij tg caps X.N) scope.names nt caps=vH:=by kernel_rfl)
  (hy:X.N[i]?=vF y:=by rfl) (hx:Loc X.env.scope y:=by first|exact Or.inl rfl|exact Or.inr rfl) (hf:X.fn y=vH∨X.env.scope.names.lookup y=vF .local:=by first|exact .inl rfl|exact .inr rfl|assumption)
  (hsw:swapsWith (.ListComp elt [⟨tg,iter,ifs,0⟩] scope pos) (vF (.Name y py)) spos.line X.env=pure vH:=by rfl)
  (hs:∀x,foldedSetIterable iter X.env x=pure x:=by intro _;rfl):QS X E0 (.Assign [.Name y py] (.ListComp elt [⟨tg,iter,ifs,0⟩] scope pos) spos) (sAs (Bx it nt caps g c te) (gV i)):=
 have cs:=ZD4 hk hdn rfl h
 ZRo i hc hN cs hi (λC s₀ H₀ ex=>hg C s₀ H₀ ex cs.nd) gk hts he hy hx hf hsw hs
end
theorem bnd1{p:List xE->Prop}(h:∀a,p [a]):∀us:List xE,us.length=1->p us
 |[a],_=>h a
theorem bnd2{p:List xE->Prop}(h:∀a b,p [a,b]):∀us:List xE,us.length=2->p us
 |[a,b],_=>h a b
theorem bnd3{p:List xE->Prop}(h:∀a b c,p [a,b,c]):∀us:List xE,us.length=3->p us
 |[a,b,c],_=>h a b c
theorem bnd4{p:List xE->Prop}(h:∀a b c d,p [a,b,c,d]):∀us:List xE,us.length=4->p us
 |[a,b,c,d],_=>h a b c d
theorem bnd5{p:List xE->Prop}(h:∀a b c d e,p [a,b,c,d,e]):∀us:List xE,us.length=5->p us
 |[a,b,c,d,e],_=>h a b c d e
theorem bnd7{p:List xE->Prop}(h:∀a b c d e f g,p [a,b,c,d,e,f,g]):∀us:List xE,us.length=7->p us
 |[a,b,c,d,e,f,g],_=>h a b c d e f g
theorem fsc{N P:List Str}{sc:xB}(a:sc.kind=.function:=by rfl)(b:sc.isCoroutine=vI:=by rfl)(c:sc.isGenerator=vI:=by rfl)(d:N.Nodup:=by decide +kernel)(e:N.take P.length=P:=by rfl)
  (f:∀x∈P,sc.names.lookup x=vF .local∨sc.names.lookup x=vF .cell:=by decide +kernel) (g:∀y∈sc.names,y.2≠ .free:=by decide +kernel):FnScope N P sc:=⟨a,b,c,d,e,f,g⟩
end _D
namespace _D
open PySem PySem.W _L
theorem ZKT{X:Cx}{E:XK}{x:Str}{n:Int}{t:Tok}{pos:Pos}(hg:Gl X x)(hm:X.mg x=vF (.int n t))(hd:(x==("__debug__":Str))=vI:=by decide):QE X E (.Name x pos) (dC (.int n)):=
 Wy (v:=.int n) hg hm ⟨_,rfl⟩ (λ_ _=>rfl) hd
theorem ZNT{X:Cx}{E:XK}{x:Str}{n:Str}{t:Tok}{pos:Pos}(hg:Gl X x)(hm:X.mg x=vF (.str n t))(hd:(x==("__debug__":Str))=vI:=by decide):QE X E (.Name x pos) (dC (.str n)):=
 Wy (v:=.str n) hg hm ⟨_,rfl⟩ (λ_ _=>rfl) hd
section
open Lean
def wA(s:String):Syntax:=.atom .none s
def wL(l:List Syntax):Syntax:=.node .none `null l.toArray
def wN(k:String)(l:List Syntax):Syntax:=.node .none ("Lean.Parser."++k).toName l.toArray
def wX(l:List Syntax):Syntax:=wN "Tactic.tacticSeq" [wN "Tactic.tacticSeq1Indented" [wL l]]
def wP(l:List Syntax):Syntax:=wN "Tactic.paren" [wA "(",wX l,wA ")"]
def wI(s:String):Syntax:=(mkIdent s.toName).raw
def wH:Syntax:=wN "Term.syntheticHole" [wA "?",wA "_"]
def wU(l:List String):Syntax:=wN "Term.fun" [wA "fun",wN "Term.basicFun" [wL (l.map wI),wL [],wA "=>",wH]]
def wY(l:List Syntax):Syntax:=match l.reverse with
 |x::y::r=>wN "Term.app" [x,wL (y::r)]
 |[x]=>x
 |_=>.missing
def wT(s:String):Syntax:=wY ((((s.replace "(" "( ").replace ")" " )").splitOn " ").foldl (λst w=>match st with
 | a::r=>
  if w="" then st else if w="(" then[]::st else if w=")" then(match r with
   |b::q=>(wY a::b)::q
   |_=>st)
  else((if w="_" then wN "Term.hole" [wA w]else if w="?" then wH else if w="." then wN "Term.ellipsis" [wA ".."]
   else if w="L" then wU ["C","s","H","e","nd"]else if w="l" then wU ["C","s","H","e"]
   else if w="d" then wN "Term.byTactic" [wA "by",wX [wN "Tactic.decide" [wA "decide",wN "Tactic.optConfig" [wL []]]]]
   else if w.isNat then(Syntax.mkNumLit w).raw else wI w)::a)::r
 |_=>st) [[]]).head!
def wF(l:List Syntax):Syntax:=wN "Tactic.first" [wA "first",wL (l.map λx=>.node .none `group #[wA "|",wX [x]])]
def wJ(a b:Syntax):Syntax:=wN "Tactic.«tactic_<;>_»" [a,wA "<;>",b]
def wG(k:String)(t:Syntax)(r:Syntax):Syntax:=wP [wN "Tactic.guardTarget" [wA "guard_target",wN "equal" [wN k [wA "="]],t],wA ";",r]
def wV:Syntax:=wN "Tactic.tacticTrivial" [wA "trivial"]
def wB(s:String):Syntax:=
 let t:=wT (s.drop 1).toString;let f:=λk=>wN ("Tactic."++k) [wA k,t]
 let c:=s.front
 if c='@' then f "apply" else if c='!' then wN "Tactic.withReducible" [wA "with_reducible",wX [f "exact"]]
 else if c='=' then wP [wJ (f "refine") (wN "Tactic.tacticRfl" [wA "rfl"])]else if c='<' then wP [wJ (f "refine'") wV]else if c='.' then f "exact" else f "refine'"
def wC(s:String):Syntax:=wF ((s.splitOn ",").map wB)
def wR(s:String):Syntax:=wF ((s.splitOn "#").map λg=>match g.splitOn "|" with
 | h::r=>
  let b:=wF (r.map λa=>match a.splitOn ":" with
   |[a,x]=>wG "equalD" (wT (h++" "++a)) (wC x)
   |_=>wC a)
  if h.front='=' then wG "equalR" (wT (h.drop 1).toString) b else if h.front='*' then b else wG "equalD" (wT (h++" _ _")) (wJ (wP [b]) wV)
 |_=>.missing)
end
end _D
namespace _W
open PySem _L _D
def fuel:Nat:=100000
abbrev ZDW:List Str:=["_law_cell","_law_unit_here"]
abbrev Z2:=ZDW.take 2
theorem ZRI:FnScope ZDW Z2 (Ak ZAv):=fsc
abbrev ZHo:List Str:=["_law_number_here","_law_k","_law_digit"]
abbrev Yx:=ZHo.take 2
theorem ZTx:FnScope ZHo Yx (Ak Yl):=fsc
abbrev ZD0:List Str:=["_law_script"]
abbrev ZCT:=ZD0.take 1
theorem ZQm:FnScope ZD0 ZCT (Ak ZB8):=fsc
abbrev ZEg:List Str:=["_law_script","_law_k","_law_number_here"]
abbrev Vz:=ZEg.take 2
theorem ZLB:FnScope ZEg Vz (Ak ZAp):=fsc
abbrev ZG4:List Str:=["_law_script"]
abbrev Xr:=ZG4.take 1
theorem ZKR:FnScope ZG4 Xr (Ak ZBR):=fsc
abbrev ZEv:List Str:=["_law_script","_law_house_here","_law_low","_law_lows","_law_unit_here","_law_many","_law_b","_law_levels","_law_coming","_law_k","_law_cell","_law_level","_law_room","_law_highs","_law_at","_law_cells","_law_added_here"]
abbrev ZCm:=ZEv.take 4
theorem ZSm:FnScope ZEv ZCm (Ak ZBm):=fsc
abbrev ZFc:List Str:=["_law_script","_law_house_here","_law_many","_law_b","_law_k","_law_place","_law_kind","_law_what","_law_cell","_law_number_here"]
abbrev ZCE:=ZFc.take 2
theorem ZPN:FnScope ZFc ZCE (Ak ZCe):=fsc
abbrev ZJa:List Str:=["_law_ask_here","_law_number_here","_law_bound"]
abbrev ZAb:=ZJa.take 3
theorem ZSq:FnScope ZJa ZAb (Ak ZB7):=fsc
abbrev ZFv:List Str:=["_law_what"]
abbrev Z0:=ZFv.take 1
theorem ZIC:FnScope ZFv Z0 (Ak Xx):=fsc
abbrev ZJO:List Str:=["_law_script","_law_house_here","_law_turns","_law_many","_law_b","_law_floods_here","_law_at","_law_cells"]
abbrev ZAW:=ZJO.take 3
theorem ZRK:FnScope ZJO ZAW (Ak W9):=fsc
abbrev ZFl:List Str:=["_law_cell","_law_one","_law_other"]
abbrev Zg:=ZFl.take 3
theorem ZSJ:FnScope ZFl Zg (Ak ZCq):=fsc
abbrev ZGn:List Str:=["_law_script","_law_b","_law_lows","_law_highs","_law_floods_here","_law_at","_law_flood","_law_k","_law_cell"]
abbrev ZAf:=ZGn.take 4
theorem ZUK:FnScope ZGn ZAf (Ak ZBS):=fsc
abbrev ZId:List Str:=["_law_steps_here","_law_total","_law_low","_law_many","_law_way"]
abbrev Yt:=ZId.take 1
theorem ZNg:FnScope ZId Yt (Ak W2):=fsc
abbrev ZEx:List Str:=["_law_cells","_law_unit_here","_law_pumps","_law_steps_here","_law_low","_law_k","_law_many","_law_way"]
abbrev ZBT:=ZEx.take 3
theorem ZMd:FnScope ZEx ZBT (Ak ZAj):=fsc
abbrev ZFp:List Str:=["_law_script"]
abbrev Z1:=ZFp.take 1
theorem ZMH:FnScope ZFp Z1 (Ak Wi):=fsc
abbrev ZC7:List Str:=["_law_script","_law_b","_law_unit_here","_law_pumps","_law_year_here","_law_rule_here","_law_begin","_law_j","_law_later","_law_cells"]
abbrev ZAO:=ZC7.take 4
theorem ZLh:FnScope ZC7 ZAO (Ak Yg):=fsc
abbrev ZDP:List Str:=["_law_script","_law_b","_law_k","_law_names","_law_river","_law_unit_here","_law_cell","_law_pumps","_law_rule_here","_law_pump","_law_most","_law_to","_law_brim"]
abbrev Wl:=ZDP.take 5
theorem ZP0:FnScope ZDP Wl (Ak ZCP):=fsc
abbrev ZDE:List Str:=["_law_cell","_law_k","_law_many","_law_other","_law_telling"]
abbrev ZB3:=ZDE.take 3
theorem ZUj:FnScope ZDE ZB3 (Ak ZBK):=fsc
abbrev ZF5:List Str:=["_law_script","_law_first","_law_many","_law_names","_law_k","_law_places","_law_b","_law_step","_law_delay","_law_river","_law_kind","_law_amount_here","_law_rank"]
abbrev ZBN:=ZF5.take 1
theorem ZMZ:FnScope ZF5 ZBN (Ak Xo):=fsc
abbrev ZIV:List Str:=["_law_script","_law_cell"]
abbrev ZBI:=ZIV.take 1
theorem ZNv:FnScope ZIV ZBI (Ak ZCW):=fsc
abbrev ZJf:List Str:=["_law_script","_law_house_here","_law_places","_law_unit_here","_law_b","_law_levels","_law_coming","_law_k","_law_level","_law_cell","_law_row","_law_j"]
abbrev ZBy:=ZJf.take 2
theorem ZTH:FnScope ZJf ZBy (Ak Wz):=fsc
abbrev ZGc:List Str:=["_law_script","_law_b","_law_low","_law_high","_law_levels","_law_coming","_law_k","_law_cell"]
abbrev ZBu:=ZGc.take 4
theorem ZMQ:FnScope ZGc ZBu (Ak ZAg):=fsc
abbrev ZI1:List Str:=["_law_found","_law_number_here"]
abbrev Zf:=ZI1.take 1
theorem ZKJ:FnScope ZI1 Zf (Ak ZBA):=fsc
abbrev ZIO:List Str:=["cubes","sense","number"]
abbrev ZBq:=ZIO.take 3
theorem ZLR:FnScope ZIO ZBq (Ak Ym):=fsc
abbrev ZDe:List Str:=["what"]
abbrev W8:=ZDe.take 1
theorem ZFG:FnScope ZDe W8 (Ak Ww):=fsc
abbrev ZJc:List Str:=["pages","ask","what","place","sense","number","part","found","when","cubes","nearest"]
abbrev ZAZ:=ZJc.take 2
theorem ZMU:FnScope ZJc ZAZ (Ak ZAD):=fsc
abbrev ZHZ:List Str:=["house","ask","what","place","sense","number"]
abbrev Z7:=ZHZ.take 2
theorem ZG6:FnScope ZHZ Z7 (Ak ZA1):=fsc
abbrev ZIb:List Str:=["numbers","others"]
abbrev Vo:=ZIb.take 2
theorem ZQb:FnScope ZIb Vo (Ak Y5):=fsc
abbrev ZDn:List Str:=["floods","others"]
abbrev Wr:=ZDn.take 2
theorem ZS2:FnScope ZDn Wr (Ak ZBZ):=fsc
abbrev ZE8:List Str:=["state","other","levels","coming","other_levels","other_coming"]
abbrev Yu:=ZE8.take 2
theorem ZR5:FnScope ZE8 Yu (Ak ZCO):=fsc
abbrev ZE0:List Str:=["low","high","lows","highs"]
abbrev Y6:=ZE0.take 4
theorem ZEq:FnScope ZE0 Y6 (Ak Zc):=fsc
abbrev ZDr:List Str:=["low","high","lows","highs","ask","what","place","sense","number"]
abbrev ZBo:=ZDr.take 5
theorem ZLd:FnScope ZDr ZBo (Ak Zx):=fsc
abbrev ZDf:List Str:=["self","house","state","at","flood","levels","coming"]
abbrev ZCh:=ZDf.take 5
theorem ZMs:FnScope ZDf ZCh (Ak ZBY):=fsc
abbrev ZEH:List Str:=["self","to","delay","cubes"]
abbrev ZAu:=ZEH.take 4
theorem ZRh:FnScope ZEH ZAu (Ak ZBz):=fsc
abbrev ZFh:List Str:=["house","name","number","place"]
abbrev ZCM:=ZFh.take 2
theorem ZC6:FnScope ZFh ZCM (Ak ZCg):=fsc
abbrev ZDA:List Str:=["house","place","name"]
abbrev Zh:=ZDA.take 2
theorem ZNp:FnScope ZDA Zh (Ak ZAw):=fsc
abbrev ZDu:List Str:=["self","number","cubes","down"]
abbrev ZAU:=ZDu.take 3
theorem ZMM:FnScope ZDu ZAU (Ak Wk):=fsc
abbrev ZGp:List Str:=["stairs","water","river","pump","height","many","way","cubes"]
abbrev Zu:=ZGp.take 2
theorem ZSx:FnScope ZGp Zu (Ak ZAy):=fsc
abbrev ZJj:List Str:=["rule","turn","held","first","stairs"]
abbrev X8:=ZJj.take 2
theorem ZSe:FnScope ZJj X8 (Ak ZAe):=fsc
abbrev ZHv:List Str:=["self","number","place","came","let","pumped","stays","lies","spilled"]
abbrev ZCF:=ZHv.take 2
theorem ZKH:FnScope ZHv ZCF (Ak Wx):=fsc
abbrev ZEz:List Str:=["rows","takes","passing","row","number"]
abbrev Yj:=ZEz.take 2
theorem ZSs:FnScope ZEz Yj (Ak Vs):=fsc
abbrev ZHn:List Str:=["house","number","places","down"]
abbrev ZAS:=ZHn.take 2
theorem ZPr:FnScope ZHn ZAS (Ak Y8):=fsc
abbrev ZEe:List Str:=["house","members","came","rows","number","place","down","row_down"]
abbrev ZAa:=ZEe.take 3
theorem ZM6:FnScope ZEe ZAa (Ak Xh):=fsc
abbrev ZJS:List Str:=["rows","order"]
abbrev Y4:=ZJS.take 1
theorem ZN4:FnScope ZJS Y4 (Ak Yi):=fsc
abbrev ZDT:List Str:=["rows","number","way","down"]
abbrev ZA4:=ZDT.take 2
theorem ZMJ:FnScope ZDT ZA4 (Ak ZCi):=fsc
abbrev ZGN:List Str:=["rows","takes","passing","number","way","take","below"]
abbrev Ws:=ZGN.take 1
theorem ZOi:FnScope ZGN Ws (Ak ZCt):=fsc
abbrev ZDg:List Str:=["self","members","rows","takes","number","took","let"]
abbrev Wu:=ZDg.take 2
theorem ZSp:FnScope ZDg Wu (Ak ZCC):=fsc
abbrev ZFV:List Str:=["house","lasts","number","down"]
abbrev Yp:=ZFV.take 1
theorem ZQi:FnScope ZFV Yp (Ak W5):=fsc
abbrev ZEu:List Str:=["self","lasts","number","last"]
abbrev ZAn:=ZEu.take 1
theorem ZLJ:FnScope ZEu ZAn (Ak ZAl):=fsc
abbrev ZDQ:List Str:=["self"]
abbrev Vt:=ZDQ.take 1
theorem ZL1:FnScope ZDQ Vt (Ak ZBL):=fsc
abbrev ZGa:List Str:=["house","state","at","flood","course"]
abbrev Xk:=ZGa.take 4
theorem ZPu:FnScope ZGa Xk (Ak Z8):=fsc
abbrev ZIN:List Str:=["house","state","at","floods","pages","number","flood","page"]
abbrev ZCa:=ZIN.take 4
theorem ZSc:FnScope ZIN ZCa (Ak ZCy):=fsc
abbrev ZIF:List Str:=["house","low","high","at","lows","highs","ask","state","floods","pages","behind"]
abbrev Zy:=ZIF.take 7
theorem ZQX:FnScope ZIF Zy (Ak ZBt):=fsc
abbrev ZIk:List Str:=["_law_script","_law_house_here","_law_at","_law_low","_law_lows","_law_high","_law_highs","_law_ask_here","_law_found","_law_b","_law_some","_law_numbers"]
abbrev ZBF:=ZIk.take 1
theorem ZJY:FnScope ZIk ZBF (Ak Hg):=fsc
def ZEF:DS:=(sRt (dOp Ai (dOp Aj (dV 1) (dOp Az (dV 0) (dC (.int 7)))) (dOp Az (dOp Bv (dV 0) (dC (.int 7))) (dV 1))))
def Ib:List D->DH->R D:=Ba 2 0 ZEF
def Qf:DS:=(sAs (dOp Bv (dV 0) (dOp Hn (dC (.int 10)) (dC (.int 8)))) (gV 0))
def Yq:DS:=(Ac (sIf (Ag (K5 J9 Fb (dC (.int 0)) (dV 0) (dOp Hn (dC (.int 10)) (dC (.int 18))))) (Ac (sAs (dOp Az (dOp Ai (dOp Ai (dV 0) (dOp Aj (dC (.int 1009)) (dV 1))) (dC (.int 7))) (dC (.int 999999937))) (gV 0)) (Ac (sAs (dOp Az (dOp Aj (dV 0) (dV 0)) (dC (.int 999999929))) (gV 0)) (sRt (dOp Az (dOp Aj (dV 0) (dOp Ai (dV 0) (dV 1))) (dC (.int 99999989)))))) sNx) (Ac (By (Bk rng1 (Aa (dV 1) Ab)) (gV 2) Qf) (sRt (dOp Az (dV 0) (dOp Hn (dC (.int 10)) (dC (.int 8)))))))
def Pj:List D->DH->R D:=Ba 2 1 Yq
def Zn:DS:=(sRt (Je (dOp Gi (dFn Bm (Aa (dV 0) Ab)) (dC (.int 0))) (R0 (dOp Fb (dOp Ad (dV 0) (dC (.int 0))) (dC (.int 0))) (dOp Qx (dOp Ad (dV 0) (dC (.int 0))) (dOp Hn (dC (.int 10)) (dC (.int 18)))))))
def K8:List D->DH->R D:=Ba 1 0 Zn
def M5:DS:=(Ac (sIf (Ag (dFn K8 (Aa (dV 0) Ab))) (Ac (sAs (dC (.int 0)) (gV 2)) (Ac (sIf (Ag (dOp Fb (dOp Ai (dC (.int 1)) (dOp Bv (dV 1) (dC (.int 14)))) (dFn Bm (Aa (dV 0) Ab)))) (sAs (dOp Ad (dV 0) (dOp Ai (dC (.int 1)) (dOp Bv (dV 1) (dC (.int 14))))) (gV 2)) sNx) (sRt (dFn Pj (Aa (dV 2) (Aa (dOp Az (dV 1) (dC (.int 14))) Ab)))))) sNx) (Ac (sIf (Ag (dOp Fb (dV 1) (dFn Bm (Aa (dV 0) Ab)))) (sRt (dOp Ad (dV 0) (dV 1))) sNx) (Ac (sAs (dOp Az (dOp Aj (dC (.int 48271)) (dOp Ai (dOp Aj (dV 1) (dV 1)) (dOp Aj (dC (.int 7)) (dFn Bm (Aa (dV 0) Ab))))) (dC (.int 2147483647))) (gV 2)) (Ac (sIf (Ag (dOp Gi (dFn Bm (Aa (dV 0) Ab)) (dC (.int 0)))) (sAs (dOp Ai (dV 2) (dOp Az (dOp Aj (dOp Ad (dV 0) (dOp Az (dV 1) (dFn Bm (Aa (dV 0) Ab)))) (dC (.int 69621))) (dC (.int 2147483629)))) (gV 2)) sNx) (sRt (dV 2))))))
def Bc:List D->DH->R D:=Ba 2 1 M5
def T6:DS:=(sRt (dOp Ad (Av (dFn Ah (Aa (dC (.int 1)) (Aa (dC (.int 1)) (Aa (dOp Hn (dC (.int 10)) (dC (.int 30))) Ab))))) (dOp Az (dOp Bv (dFn Bc (Aa (dV 0) (Aa (dC (.int 0)) Ab))) (dC (.int 840))) (dC (.int 3)))))
def Ho:List D->DH->R D:=Ba 1 0 T6
def Zv:DE:=(dOp Ai (dV 0) (dOp Aj (dV 1) (dOp Az (dOp Bv (dV 2) (dC (.int 2))) (dC (.int 2)))))
def ZHR:DS:=(sEx (De Dl (dV 8) (Aa (dFn Dj (Aa (Av (Bx (Dt (dOp Ad (dOp Ad (dV 2) (dC (.int 1))) (dV 9))) 1 [4,10] (gV 0) Bd Zv)) Ab)) Ab)))
def Qp:DS:=(Ac (sEx (De Dl (dV 7) (Aa (dV 11) Ab))) ZHR)
def Qa:DS:=(Ac (sIf (Ag (dOp Bl (dOp Ad (dOp Ad (dOp Ad (dV 1) (dC (.int 1))) (dV 9)) (dC (.int 0))) (dC (.str "basin")))) (Ac (sAs (dOp Ai (dOp Dw (dOp Ad (dOp Ad (dOp Ad (dV 1) (dC (.int 1))) (dV 9)) (dC (.int 4))) (dV 11)) (dC (.int 1))) (gV 12)) (sAs (dOp Ai (dV 11) (dOp Aj (dOp Az (dFn Ib (Aa (dOp Bv (dV 10) (dC (.int 2))) (Aa (dV 4) Ab))) (dV 12)) (dOp Az (dV 10) (dC (.int 2))))) (gV 11))) sNx) Qp)
def ZIx:DS:=(Ac (sAs (dOp Ad (dOp Ad (dV 2) (dC (.int 0))) (dV 9)) (gV 11)) Qa)
def Ow:DS:=(Ac (sAs (dFn Bc (Aa (dV 0) (Aa (dOp Ai (dV 6) (dV 9)) Ab))) (gV 10)) ZIx)
def Xj:DE:=(dFn Bc (Aa (dV 1) (Aa (dOp Ai (dOp Ai (dOp Ai (dV 3) (dV 2)) (dOp Aj (dV 4) (dV 2))) (dV 0)) Ab)))
def Vw:DE:=(dOp Aj (dFn Ib (Aa (dOp Bv (dV 0) (dC (.int 2))) (Aa (dV 1) Ab))) (dOp Az (dV 0) (dC (.int 2))))
def Wc:DE:=(dOp Ai (dOp Ad (dOp Ad (dV 1) (dV 2)) (dV 0)) (dOp Ad (dV 3) (dV 0)))
def ZJh:DS:=(sEx (De Dl (dV 13) (Aa (dFn Dj (Aa (Av (Bx (Bk rng1 (Aa (dV 5) Ab)) 1 [3,14,16] (gV 0) Bd Wc)) Ab)) Ab)))
def ZDp:DS:=(Ac (sAs (Av (Bx (Dt (dV 15)) 1 [4] (gV 0) Bd Vw)) (gV 16)) ZJh)
def Oo:DS:=(Ac (sAs (Av (Bx (Bk rng1 (Aa (dV 5) Ab)) 1 [0,5,6,14] (gV 0) Bd Xj)) (gV 15)) ZDp)
def ZDb:DS:=(Ac (sAs (Av (dFn Ho (Aa (dV 0) Ab))) (gV 4)) (Ac (sAs (dFn Bm (Aa (dOp Ad (dV 1) (dC (.int 1))) Ab)) (gV 5)) (Ac (sAs (dOp Ai (dC (.int 6)) (dOp Aj (dC (.int 24)) (dV 5))) (gV 6)) (Ac (sAs (Cr (dFn Ah Ab)) (gV 7)) (Ac (sAs (Cr (dFn Ah Ab)) (gV 8)) (Ac (By (Bk rng1 (Aa (dV 5) Ab)) (gV 9) Ow) (Ac (sAs (Cr (dFn Ah Ab)) (gV 13)) (Ac (By (Bk rng1 (Aa (dFn Bm (Aa (dV 3) Ab)) Ab)) (gV 14) Oo) (sRt (dFn An (Aa (dFn An (Aa (dFn Dj (Aa (dV 7) Ab)) (Aa (dFn Dj (Aa (dV 8) Ab)) Ab))) (Aa (dV 13) Ab))))))))))))
def Nv:List D->DH->R D:=Ba 4 13 ZDb
def Qe:DS:=(sIf (Ag (dOp Gw (dV 6) (dC (.str "mill")))) (Ac (sAs (dFn Bc (Aa (dV 0) (Aa (dOp Ai (dV 3) (dC (.int 2))) Ab))) (gV 8)) (Ac (sAs (dOp Dw (dFn Ib (Aa (dOp Bv (dV 8) (dC (.int 4))) (Aa (Av (dFn Ho (Aa (dV 0) Ab))) Ab))) (dOp Az (dOp Bv (dV 8) (dC (.int 2))) (dC (.int 2)))) (gV 9)) (sRt (dFn An (Aa (dV 7) (Aa (dV 5) (Aa (dOp Ad (Av (dFn Ah (Aa (dC (.str "least")) (Aa (dC (.str "most")) Ab)))) (dOp Az (dV 8) (dC (.int 2)))) (Aa (dV 9) Ab)))))))) sNx)
def Np:DS:=(Ac (sIf (Ag (dOp Bl (dV 6) (dC (.str "basin")))) (sAs (dOp Ad (Av (dFn Ah (Aa (dC (.str "lies")) (Aa (dC (.str "spilled")) (Aa (dC (.str "let")) (Aa (dC (.str "pumped")) Ab)))))) (dOp Az (dFn Bc (Aa (dV 0) (Aa (dOp Ai (dV 3) (dC (.int 1))) Ab))) (dC (.int 4)))) (gV 7)) sNx) Qe)
def ZIv:DS:=(Ac (sAs (dC (.str "took")) (gV 7)) Np)
def ZFE:DS:=(Ac (sAs (dOp Ad (dOp Ad (dOp Ad (dV 1) (dC (.int 1))) (dV 5)) (dC (.int 0))) (gV 6)) ZIv)
def Ni:DS:=(Ac (sAs (dOp Az (dOp Ai (dFn Bc (Aa (dV 0) (Aa (dV 3) Ab))) (dV 4)) (dV 2)) (gV 5)) ZFE)
def ZDw:DS:=(Ac (sAs (dFn Bm (Aa (dOp Ad (dV 1) (dC (.int 1))) Ab)) (gV 2)) (Ac (sAs (dOp Ai (dC (.int 6)) (dOp Aj (dC (.int 20)) (dV 2))) (gV 3)) (Ac (By (Bk rng1 (Aa (dV 2) Ab)) (gV 4) Ni) (sRt (dC .non)))))
def V1:List D->DH->R D:=Ba 2 8 ZDw
def ZIi:DS:=(Ac (sIf (Ag (dOp Bl (dOp Ad (dV 0) (dC (.int 2))) (dC (.str "least")))) (sRt (dOp Fb (dV 1) (dV 2))) sNx) (sRt (dOp Gi (dV 1) (dV 2))))
def Lf:List D->DH->R D:=Ba 3 0 ZIi
def ZHf:DS:=(sRt (dOp J8 (Mp [("took",(.int 1)),("spilled",(.int 2)),("let",(.int 3)),("pumped",(.int 4)),("lies",(.int 5))]) (dV 0)))
def Ry:List D->DH->R D:=Ba 1 0 ZHf
def ZBr:DE:=(dFn Bc (Aa (dV 1) (Aa (dOp Ai (dOp Ai (dV 3) (dOp Aj (dV 4) (dV 2))) (dV 0)) Ab)))
def ZAc:DE:=(dFn Ib (Aa (dV 0) (Aa (Av (dFn Ho (Aa (dV 1) Ab))) Ab)))
def Nz:DS:=(Ac (sAs (Av (Bx (Bk rng1 (Aa (dV 3) Ab)) 1 [0,3,4,6] (gV 0) Bd ZBr)) (gV 7)) (sEx (De Dl (dV 5) (Aa (dFn Dj (Aa (Av (Bx (Dt (dV 7)) 1 [0] (gV 0) Bd ZAc)) Ab)) Ab))))
def ZDL:DS:=(Ac (sAs (dFn Bm (Aa (dOp Ad (dV 1) (dC (.int 1))) Ab)) (gV 3)) (Ac (sAs (dOp Ai (dC (.int 6)) (dOp Aj (dC (.int 14)) (dV 3))) (gV 4)) (Ac (sAs (Cr (dFn Ah Ab)) (gV 5)) (Ac (By (Bk rng1 (Aa (dV 2) Ab)) (gV 6) Nz) (sRt (dV 5))))))
def Ur:List D->DH->R D:=Ba 3 5 ZDL
def ZE9:DS:=(sRt (dOp Ai (dV 1) (dOp Az (dOp Az (dOp Aj (dV 0) (dC (.int 48271))) (dC (.int 2147483647))) (dOp Ai (dOp Dw (dV 2) (dV 1)) (dC (.int 1))))))
def Io:List D->DH->R D:=Ba 3 0 ZE9
def O2:DS:=(Ac (sAs (dFn Bc (Aa (dV 0) (Aa (dOp Ai (dOp Ai (dV 1) (dOp Aj (dV 5) (dFn Bm (Aa (dOp Ad (dV 2) (dV 5)) Ab)))) (dV 7)) Ab))) (gV 8)) (sEx (De Dl (dV 6) (Aa (dFn Io (Aa (dV 8) (Aa (dOp Ad (dOp Ad (dV 2) (dV 5)) (dV 7)) (Aa (dOp Ad (dOp Ad (dV 3) (dV 5)) (dV 7)) Ab)))) Ab))))
def Pg:DS:=(Ac (sAs (Cr (dFn Ah Ab)) (gV 6)) (Ac (By (Bk rng1 (Aa (dFn Bm (Aa (dOp Ad (dV 2) (dV 5)) Ab)) Ab)) (gV 7) O2) (sEx (De Dl (dV 4) (Aa (dFn Dj (Aa (dV 6) Ab)) Ab)))))
def ZEC:DS:=(Ac (sAs (Cr (dFn Ah Ab)) (gV 4)) (Ac (By (Bk rng1 (Aa (dFn Bm (Aa (dV 2) Ab)) Ab)) (gV 5) Pg) (sRt (dV 4))))
def S8:List D->DH->R D:=Ba 4 5 ZEC
def Ug:DS:=(sIf (Ag (dOp Bl (dV 4) (dC (.str "pump")))) (sAs (dOp Ai (dV 1) (dV 3)) (gV 1)) sNx)
def ZGh:DS:=(Ac (sAs (dC (.int 0)) (gV 1)) (Ac (By (Dt (dV 0)) (Ao 3 (Ae (gV 2) (Ae (gV 3) (Ae (gV 4) Ax)))) Ug) (sRt (dV 1))))
def Ra:List D->DH->R D:=Ba 1 4 ZGh
def Oe:DS:=(Ac (sAs (dOp Ai (dV 4) (dOp Aj (dV 1) (dOp Az (dOp Ad (dV 0) (dOp Ai (dC (.int 1)) (dV 5))) (dC (.int 4))))) (gV 4)) (Ac (sAs (dOp Ai (dC (.int 1)) (dOp Aj (dV 1) (dOp Az (dOp Bv (dOp Ad (dV 0) (dOp Ai (dC (.int 1)) (dV 5))) (dC (.int 4))) (dC (.int 4))))) (gV 6)) (Ac (sAs (dC (.str "river")) (gV 7)) (Ac (sIf (J7 (Ag (dV 2)) (Ag (dOp Bl (dOp Az (dOp Bv (dOp Ad (dV 0) (dOp Ai (dC (.int 1)) (dV 5))) (dC (.int 16))) (dC (.int 2))) (dC (.int 1))))) (sAs (dC (.str "pump")) (gV 7)) sNx) (Ac (sEx (De Dl (dV 3) (Aa (dFn An (Aa (dV 4) (Aa (dV 6) (Aa (dV 7) Ab)))) Ab))) (sAs (dOp Ai (dV 4) (dV 6)) (gV 4)))))))
def ZJp:DS:=(Ac (sAs (Cr (dFn Ah Ab)) (gV 3)) (Ac (sAs (dC (.int 0)) (gV 4)) (Ac (By (Bk rng1 (Aa (dOp Az (dOp Ad (dV 0) (dC (.int 0))) (dC (.int 4))) Ab)) (gV 5) Oe) (sRt (dFn Dj (Aa (dV 3) Ab))))))
def Ve:List D->DH->R D:=Ba 3 5 ZJp
def ZHz:DS:=(sRt (dOp Ai (dC (.int 1)) (dOp Az (dFn Bc (Aa (dV 0) (Aa (dC (.int 1)) Ab))) (dC (.int 4)))))
def Ml:List D->DH->R D:=Ba 1 0 ZHz
def Yv:DE:=(dOp Bv (dFn Bc (Aa (dV 1) (Aa (dOp Ai (dOp Ai (dV 2) (dC (.int 5))) (dOp Az (dOp Ai (dOp Aj (dC (.int 3)) (dV 3)) (dV 0)) (dC (.int 6)))) Ab))) (dOp Ai (dC (.int 1)) (dOp Aj (dC (.int 7)) (dOp Bv (dV 3) (dC (.int 2))))))
def Wm:DE:=(dOp Bv (dFn Bc (Aa (dV 1) (Aa (dOp Ai (dOp Ai (dV 2) (dC (.int 5))) (dV 0)) Ab))) (dOp Ad (Av (dFn Ah (Aa (dC (.int 1)) (Aa (dC (.int 64)) (Aa (dC (.int 4096)) (Aa (dC (.int 262144)) Ab)))))) (dV 3)))
def Uj:DS:=(sIf (dOr (Ag (dOp Bl (dV 7) (dC (.int 0)))) (J7 (Ag (dOp Bl (dOp Az (dV 8) (dC (.int 2))) (dC (.int 1)))) (Ag (dOp Fb (dOp Ai (dV 6) (dC (.int 1))) (dV 4))))) (Ac (sIf (Ag (dOp Gi (dV 7) (dC (.int 0)))) (sAs (dOp Ai (dOp Ai (dV 6) (dC (.int 1))) (dOp Az (dOp Bv (dV 8) (dC (.int 2))) (dOp Dw (dOp Dw (dV 4) (dV 6)) (dC (.int 1))))) (gV 6)) sNx) (sEx (De Dl (dV 5) (Aa (dFn An (Aa (dV 6) (Aa (dFn Ve (Aa (dV 9) (Aa (dV 2) (Aa (dV 3) Ab)))) Ab))) Ab)))) sNx)
def ZIm:DS:=(Ac (sIf (Ag (dFn K8 (Aa (dV 0) Ab))) (Ac (sAs (dOp Bv (dFn Bc (Aa (dV 0) (Aa (dOp Ai (dV 1) (dC (.int 4))) Ab))) (dOp Ad (Av (dFn Ah (Aa (dC (.int 1)) (Aa (dC (.int 48)) (Aa (dC (.int 2304)) (Aa (dC (.int 110592)) Ab)))))) (dV 7))) (gV 8)) (sAs (Av (Bx (Bk rng1 (Aa (dC (.int 4)) Ab)) 1 [0,1,7] (gV 0) Bd Wm)) (gV 9))) sNx) Uj)
def ZGy:DS:=(Ac (sAs (Av (Bx (Bk rng1 (Aa (dC (.int 4)) Ab)) 1 [0,1,7] (gV 0) Bd Yv)) (gV 9)) ZIm)
def Jp:DS:=(Ac (sAs (dOp Az (dOp Aj (dOp Aj (dFn Bc (Aa (dV 0) (Aa (dOp Ai (dV 1) (dC (.int 4))) Ab))) (dC (.int 48271))) (dOp Ai (dOp Aj (dV 7) (dV 7)) (dC (.int 1)))) (dC (.int 10007))) (gV 8)) ZGy)
def ZFd:DS:=(Ac (sAs (dFn Ml (Aa (dV 0) Ab)) (gV 4)) (Ac (sAs (Cr (dFn Ah Ab)) (gV 5)) (Ac (sAs (dC (.int 0)) (gV 6)) (Ac (By (Bk rng1 (Aa (dC (.int 4)) Ab)) (gV 7) Jp) (sRt (dFn Dj (Aa (dV 5) Ab)))))))
def Te:List D->DH->R D:=Ba 4 6 ZFd
def Vy:DE:=(dFn Ra (Aa (dOp Ad (dV 0) (dC (.int 1))) Ab))
def ZHe:DS:=(sRt (dFn An (Aa (dC (.str "basin")) (Aa (dOp Ad (dV 3) (dV 2)) (Aa (dOp Ad (dV 4) (dC (.int 0))) (Aa (dOp Ad (dV 4) (dC (.int 1))) (Aa (dV 12) (Aa (dV 8) (Aa (dV 9) Ab)))))))))
def Km:DS:=(Ac (sAs (dFn Ib (Aa (dFn Bc (Aa (dV 0) (Aa (dOp Ai (dV 1) (dC (.int 3))) Ab))) (Aa (dV 5) Ab))) (gV 12)) ZHe)
def Yc:DS:=(Ac (sIf (Ag (dV 7)) (Ac (sAs (dOp Ai (dFn Hm (Aa (Av (Bx (Dt (dV 8)) 1 [] (gV 0) Bd Vy)) Ab)) (dOp Aj (dV 5) (dOp Az (dOp Bv (dV 6) (dC (.int 130))) (dC (.int 2))))) (gV 10)) (Ac (sAs (dOp Ad (dV 3) (dOp Az (dOp Ai (dOp Ai (dV 2) (dC (.int 1))) (dOp Az (dOp Bv (dV 6) (dC (.int 2))) (dOp Dw (dFn Bm (Aa (dV 3) Ab)) (dC (.int 1))))) (dFn Bm (Aa (dV 3) Ab)))) (gV 11)) (sAs (dFn An (Aa (dV 11) (Aa (dOp Ai (dC (.int 1)) (dOp Az (dOp Bv (dV 6) (dC (.int 26))) (dC (.int 5)))) (Aa (dV 10) Ab)))) (gV 9)))) sNx) Km)
def ZCn:DS:=(Ac (sAs (dC .non) (gV 9)) Yc)
def Ld:DS:=(Ac (sAs (dFn Te (Aa (dV 0) (Aa (dV 1) (Aa (dV 5) (Aa (dV 7) Ab))))) (gV 8)) ZCn)
def ZGM:DS:=(Ac (sAs (Je (dOp Gi (dFn Bm (Aa (dV 3) Ab)) (dC (.int 1))) (dOp Bl (dOp Az (dV 6) (dC (.int 2))) (dC (.int 1)))) (gV 7)) Ld)
def ZGl:DS:=(Ac (sAs (dFn Bc (Aa (dV 0) (Aa (dOp Ai (dV 1) (dC (.int 11))) Ab))) (gV 6)) ZGM)
def ZAi:DS:=(Ac (sAs (Av (dFn Ho (Aa (dV 0) Ab))) (gV 5)) ZGl)
def Pn:List D->DH->R D:=Ba 5 8 ZAi
def ZEp:DS:=(Ac (sAs (dOp Ad (dC (.str "abcdefghijklmnopqrstuvwxyz")) (dOp Az (dOp Bv (dV 0) (dC (.int 21))) (dC (.int 26)))) (gV 3)) (Ac (sIf (J7 (Ag (dOp Bl (dOp Az (dV 0) (dC (.int 3))) (dC (.int 1)))) (Ag (dOp Fb (dV 2) (dC (.int 9))))) (sRt (dOp Aj (dV 3) (dOp Ai (dV 1) (dC (.int 1))))) sNx) (Ac (sAs (dOp Ad (dC (.str "abcdefghijkl")) (dOp Az (dOp Ai (dOp Aj (dC (.int 5)) (dV 1)) (dOp Bv (dV 0) (dC (.int 546)))) (dC (.int 12)))) (gV 4)) (Ac (sIf (Ag (dOp Bl (dOp Az (dV 0) (dC (.int 3))) (dC (.int 2)))) (sRt (dOp Ai (dV 4) (dOp Aj (dV 3) (dOp Az (dOp Bv (dV 0) (dC (.int 3))) (dC (.int 7)))))) sNx) (sRt (dOp Ai (dOp Ai (dOp Aj (dV 3) (dOp Az (dOp Bv (dV 0) (dC (.int 3))) (dC (.int 7)))) (dV 4)) (dOp Aj (dV 3) (dOp Dw (dC (.int 6)) (dOp Az (dOp Bv (dV 0) (dC (.int 3))) (dC (.int 7)))))))))))
def Ui:List D->DH->R D:=Ba 3 2 ZEp
def ZCd:DE:=(dFn Ui (Aa (dFn Bc (Aa (dV 1) (Aa (dC (.int 5)) Ab))) (Aa (dV 0) (Aa (dV 2) Ab))))
def N5:DS:=(sIf (Ag (dOp Fb (dV 10) (dC (.int 2)))) (sEx (De Dl (dV 5) (Aa (Av (dFn Pn (Aa (dV 0) (Aa (dV 6) (Aa (dV 4) (Aa (dV 3) (Aa (dV 9) Ab))))))) Ab))) (sIf (Ag (dOp Fb (dV 10) (dC (.int 4)))) (sEx (De Dl (dV 5) (Aa (dFn An (Aa (dC (.str "town")) (Aa (dOp Ad (dV 3) (dV 4)) (Aa (dOp Ad (dV 9) (dC (.int 0))) (Aa (dOp Ad (dV 9) (dC (.int 1))) (Aa (dV 11) (Aa (dV 12) Ab))))))) Ab))) (sEx (De Dl (dV 5) (Aa (dFn An (Aa (dC (.str "mill")) (Aa (dOp Ad (dV 3) (dV 4)) (Aa (dOp Ad (dV 9) (dC (.int 0))) (Aa (dOp Ad (dV 9) (dC (.int 1))) (Aa (dV 11) Ab)))))) Ab)))))
def Xw:DS:=(Ac (sAs (dOp Az (dFn Bc (Aa (dV 0) (Aa (dOp Ai (dV 6) (dC (.int 4))) Ab))) (dOp Ad (Av (dFn Ah (Aa (dC (.int 4)) (Aa (dOp Hn (dC (.int 10)) (dC (.int 40))) Ab)))) (dOp Az (dOp Bv (dV 1) (dC (.int 840))) (dC (.int 2))))) (gV 12)) N5)
def X6:DS:=(Ac (sAs (dFn Ib (Aa (dFn Bc (Aa (dV 0) (Aa (dOp Ai (dV 6) (dC (.int 3))) Ab))) (Aa (Av (dFn Ho (Aa (dV 0) Ab))) Ab))) (gV 11)) Xw)
def Nx:DS:=(Ac (sAs (dOp Az (dFn Bc (Aa (dV 0) (Aa (dV 6) Ab))) (dC (.int 5))) (gV 10)) X6)
def Xf:DS:=(Ac (sIf (Ag (dOp Gi (dV 7) (dC (.int 0)))) (sAs (dFn An (Aa (dOp Ad (dV 3) (dOp Ai (dV 4) (dV 7))) (Aa (dOp Ad (dV 9) (dC (.int 1))) Ab))) (gV 9)) sNx) Nx)
def ZCZ:DS:=(Ac (sAs (dFn An (Aa (dC (.str "sea")) (Aa (dOp Aj (dOp Az (dV 8) (dC (.int 2))) (dOp Az (dOp Bv (dV 8) (dC (.int 2))) (dC (.int 6)))) Ab))) (gV 9)) Xf)
def Pq:DS:=(Ac (sAs (dFn Bc (Aa (dV 0) (Aa (dOp Ai (dV 6) (dC (.int 2))) Ab))) (gV 8)) ZCZ)
def ZCp:DS:=(Ac (sIf (Ag (dOp Bl (dOp Az (dOp Bv (dV 1) (dC (.int 280))) (dC (.int 3))) (dC (.int 1)))) (sAs (dFn K1 (Aa (dC (.int 1)) (Aa (dOp Dw (dOp Dw (dV 2) (dC (.int 1))) (dV 4)) Ab))) (gV 7)) sNx) Pq)
def Uy:DS:=(Ac (sAs (dOp Az (dFn Bc (Aa (dV 0) (Aa (dOp Ai (dV 6) (dC (.int 1))) Ab))) (dOp Dw (dV 2) (dV 4))) (gV 7)) ZCp)
def Ji:DS:=(Ac (sAs (dOp Ai (dC (.int 6)) (dOp Aj (dC (.int 12)) (dV 4))) (gV 6)) Uy)
def ZD5:DS:=(Ac (sAs (dFn Bc (Aa (dV 0) (Aa (dC (.int 0)) Ab))) (gV 1)) (Ac (sAs (dOp Ai (dC (.int 1)) (dOp Az (dV 1) (dC (.int 4)))) (gV 2)) (Ac (sAs (Av (Bx (Bk rng1 (Aa (dV 2) Ab)) 1 [0,2] (gV 0) Bd ZCd)) (gV 3)) (Ac (sAs (Cr (dFn Ah Ab)) (gV 5)) (Ac (By (Bk rng1 (Aa (dV 2) Ab)) (gV 4) Ji) (sRt (dFn An (Aa (dFn Ml (Aa (dV 0) Ab)) (Aa (dFn Dj (Aa (dV 5) Ab)) Ab)))))))))
def R7:List D->DH->R D:=Ba 1 12 ZD5
def Wa:DS:=(Ac (sAs (dFn Bc (Aa (dV 0) (Aa (dC (.int 3)) Ab))) (gV 1)) (sRt (dOp Az (dOp Bv (dV 1) (dC (.int 2))) (dOp Ad (Av (dFn Ah (Aa (dC (.int 50)) (Aa (dOp Hn (dC (.int 10)) (dC (.int 39))) Ab)))) (dOp Az (dV 1) (dC (.int 2)))))))
def Od:List D->DH->R D:=Ba 1 1 Wa
def ZGs:DS:=(sAs (dOp Bv (dV 9) (dC (.int 3))) (gV 9))
def Oj:DS:=(Ac (sEx (De Dl (dV 10) (Aa (dOp Aj (dV 3) (dOp Az (dV 9) (dC (.int 3)))) Ab))) ZGs)
def ZFY:DS:=(sEx (De Dl (dV 6) (Aa (dFn Dj (Aa (dV 10) Ab)) Ab)))
def Uv:DS:=(Ac (By (Bk rng1 (Aa (dC (.int 5)) Ab)) (gV 11) Oj) ZFY)
def ZJo:DS:=(Ac (sAs (Cr (dFn Ah Ab)) (gV 10)) Uv)
def ZHQ:DS:=(Ac (sAs (dFn Bc (Aa (dV 0) (Aa (dOp Ai (dOp Ai (dV 4) (dFn Bm (Aa (dV 2) Ab))) (dV 7)) Ab))) (gV 9)) ZJo)
def Sy:DS:=(Ac (sEx (De Dl (dV 5) (Aa (dV 8) Ab))) ZHQ)
def ZFQ:DS:=(Ac (sIf (Ag (dOp Bl (dOp Ad (dOp Ad (dV 2) (dV 7)) (dC (.int 0))) (dC (.str "basin")))) (sAs (dOp Az (dFn Ib (Aa (dFn Bc (Aa (dV 0) (Aa (dOp Ai (dV 4) (dV 7)) Ab))) (Aa (dV 3) Ab))) (dOp Ai (dOp Ad (dOp Ad (dV 2) (dV 7)) (dC (.int 4))) (dC (.int 1)))) (gV 8)) sNx) Sy)
def Q6:DS:=(Ac (sAs (dC (.int 0)) (gV 8)) ZFQ)
def ZGf:DS:=(Ac (sAs (dOp Ad (dV 1) (dC (.int 1))) (gV 2)) (Ac (sAs (Av (dFn Ho (Aa (dV 0) Ab))) (gV 3)) (Ac (sAs (dOp Ai (dC (.int 6)) (dOp Aj (dC (.int 12)) (dFn Bm (Aa (dV 2) Ab)))) (gV 4)) (Ac (sAs (Cr (dFn Ah Ab)) (gV 5)) (Ac (sAs (Cr (dFn Ah Ab)) (gV 6)) (Ac (By (Bk rng1 (Aa (dFn Bm (Aa (dV 2) Ab)) Ab)) (gV 7) Q6) (sRt (dFn An (Aa (dFn Dj (Aa (dV 5) Ab)) (Aa (dFn Dj (Aa (dV 6) Ab)) Ab))))))))))
def Vf:List D->DH->R D:=Ba 2 10 ZGf
def ZBe:DE:=(dFn Io (Aa (dOp Ai (dV 4) (dOp Aj (dV 0) (dV 0))) (Aa (dOp Ad (dOp Ad (dOp Ad (dV 1) (dC (.int 1))) (dV 3)) (dV 0)) (Aa (dOp Ad (dOp Ad (dOp Ad (dV 2) (dC (.int 1))) (dV 3)) (dV 0)) Ab))))
def Om:DS:=(Ac (sAs (dFn Bc (Aa (dV 0) (Aa (dOp Ai (dV 1) (dV 6)) Ab))) (gV 7)) (Ac (sEx (De Dl (dV 4) (Aa (dFn Io (Aa (dV 7) (Aa (dOp Ad (dOp Ad (dV 2) (dC (.int 0))) (dV 6)) (Aa (dOp Ad (dOp Ad (dV 3) (dC (.int 0))) (dV 6)) Ab)))) Ab))) (sEx (De Dl (dV 5) (Aa (dFn Dj (Aa (Av (Bx (Bk rng1 (Aa (dC (.int 5)) Ab)) 1 [2,3,6,7] (gV 0) Bd ZBe)) Ab)) Ab)))))
def ZGV:DS:=(Ac (sAs (Cr (dFn Ah Ab)) (gV 4)) (Ac (sAs (Cr (dFn Ah Ab)) (gV 5)) (Ac (By (Bk rng1 (Aa (dFn Bm (Aa (dOp Ad (dV 2) (dC (.int 0))) Ab)) Ab)) (gV 6) Om) (sRt (dFn An (Aa (dFn Dj (Aa (dV 4) Ab)) (Aa (dFn Dj (Aa (dV 5) Ab)) Ab)))))))
def Uu:List D->DH->R D:=Ba 4 4 ZGV
def Oi:DS:=(sIf (J7 (Ag (dOp J1 (dV 1) (dC .non))) (dOr (Gy (Ag (dFn Ft (Aa (dV 1) (Aa (dC (.ty "int")) Ab))))) (Ag (dFn Ft (Aa (dV 1) (Aa (dC (.ty "bool")) Ab)))))) (sRt (dC (.bl vI))) sNx)
def ZDk:DS:=(Ac (sIf (dOr (Gy (Ag (dFn Ft (Aa (dV 0) (Aa (dC (.ty "tuple")) Ab))))) (dOr (Ag (dOp Gw (dFn Bm (Aa (dV 0) Ab)) (dC (.int 3)))) (Gy (Ag (dFn Ft (Aa (dOp Ad (dV 0) (dC (.int 0))) (Aa (dC (.ty "str")) Ab))))))) (sRt (dC (.bl vI))) sNx) (Ac (By (Dt (Av (dSl (dV 0) (vF (dC (.int 1))) vG))) (gV 1) Oi) (sRt (dC (.bl vH)))))
def V2:List D->DH->R D:=Ba 1 1 ZDk
def ZFM:DS:=(Ac (sIf (Ag (dOp Bl (dV 1) (dC (.str "least")))) (sRt (dOp Fb (dV 0) (dV 2))) sNx) (sRt (dOp Gi (dV 0) (dV 2))))
def Td:List D->DH->R D:=Ba 3 0 ZFM
def ZIn:DS:=(sRt (dOp J8 (Mp [("lies",(.int 5)),("spilled",(.int 2)),("let",(.int 3)),("pumped",(.int 4)),("took",(.int 1))]) (dV 0)))
def Vc:List D->DH->R D:=Ba 1 0 ZIn
def Tg:DE:=(dOp Ad (dOp Ad (dV 0) (dV 1)) (dV 2))
def Jk:DS:=(sIf (Ag (dFn Td (Aa (dV 9) (Aa (dV 4) (Aa (dV 5) Ab))))) (sRt (dFn An (Aa (dC (.str "broken")) (Aa (dV 8) (Aa (dV 9) Ab))))) sNx)
def ZI2:DS:=(sRt (dFn An (Aa (dC (.str "kept")) (Aa (De Iz (dV 7) (Aa (dV 10) Ab)) (Aa (dV 10) Ab)))))
def ZJF:DS:=(Ac (sAs (dIf (Ag (dOp Bl (dV 4) (dC (.str "least")))) (dFn Hi (Aa (dV 7) Ab)) (dFn Hm (Aa (dV 7) Ab))) (gV 10)) ZI2)
def U4:DS:=(Ac (sIf (Ag (dOp Bl (dFn Bm (Aa (dV 7) Ab)) (dC (.int 0)))) (sRt (dFn An (Aa (dC (.str "kept")) (Aa (dC .non) (Aa (dC .non) Ab))))) sNx) ZJF)
def Ox:DS:=(Ac (By (Bk Ey (Aa (dV 7) Ab)) (Ao 2 (Ae (gV 8) (Ae (gV 9) Ax))) Jk) U4)
def ZE7:DS:=(Ac (sAs (Av (Bx (Dt (dV 0)) 1 [3,6] (gV 0) Bd Tg)) (gV 7)) Ox)
def ZFm:DS:=(Ac (sAs (dFn Vc (Aa (dV 2) Ab)) (gV 6)) ZE7)
def Uk:DS:=(Ac (sAs (dV 1) (Ao 4 (Ae (gV 2) (Ae (gV 3) (Ae (gV 4) (Ae (gV 5) Ax)))))) ZFm)
def Tc:List D->DH->R D:=Ba 2 9 Uk
noncomputable def ZGH:DS:=(Ac (sAs (dV 1) (Ao 4 (Ae (gV 2) (Ae (gV 3) (Ae (gV 4) (Ae (gV 5) Ax)))))) (Ac (sIf (dOr (Ag (dOp Hz (dV 4) (dC (.tup [.str "least",.str "most"])))) (Ag (dUn (Nb [("lies","basin"),("spilled","basin"),("let","basin"),("pumped","basin"),("took","town")]) (dV 2)))) Hw sNx) (Ac (sIf (Gy (Ag (K5 J9 Fb (dC (.int 0)) (dV 3) (dFn Bm (Aa (dOp Ad (dV 0) (dC (.int 1))) Ab))))) Hw sNx) (sIf (Ag (dOp Gw (dOp Ad (dOp Ad (dOp Ad (dV 0) (dC (.int 1))) (dV 3)) (dC (.int 0))) (dUn (Lh [("lies","basin"),("spilled","basin"),("let","basin"),("pumped","basin"),("took","town")]) (dV 2)))) Hw sNx))))
def U7:List D->DH->R D:=Ba 2 4 ZGH
def ZAt:DE:=(dOp J9 (dV 0) (dV 1))
def ZDd:DS:=(Ac (sIf (Ag (dOp Gw (dFn Bm (Aa (dV 0) Ab)) (dFn Bm (Aa (dV 1) Ab)))) (sRt (dC (.bl vI))) sNx) (sRt (dFn Kp (Aa (Av (Bx (Bk (Ex 2) (Aa (dV 0) (Aa (dV 1) Ab))) 2 [] (Ao 2 (Ae (gV 0) (Ae (gV 1) Ax))) Bd ZAt)) Ab))))
def Pr:List D->DH->R D:=Ba 2 0 ZDd
def ZA9:DE:=(dFn Pr (Aa (dV 0) (Aa (dV 1) Ab)))
def Wq:DS:=(Ac (sIf (Ag (dOp Gw (dFn Bm (Aa (dV 0) Ab)) (dFn Bm (Aa (dV 1) Ab)))) (sRt (dC (.bl vI))) sNx) (sRt (dFn Kp (Aa (Av (Bx (Bk (Ex 2) (Aa (dV 0) (Aa (dV 1) Ab))) 2 [] (Ao 2 (Ae (gV 0) (Ae (gV 1) Ax))) Bd ZA9)) Ab))))
def Ln:List D->DH->R D:=Ba 2 0 Wq
def ZGJ:DS:=(Ac (sAs (dV 0) (Ao 2 (Ae (gV 2) (Ae (gV 3) Ax)))) (Ac (sAs (dV 1) (Ao 2 (Ae (gV 4) (Ae (gV 5) Ax)))) (sRt (Je (dFn Pr (Aa (dV 2) (Aa (dV 4) Ab))) (dFn Ln (Aa (dV 3) (Aa (dV 5) Ab)))))))
def Qw:List D->DH->R D:=Ba 2 4 ZGJ
def ZC8:DS:=(sIf (dOr (Gy (Ag (dFn Qw (Aa (dV 0) (Aa (dV 1) Ab))))) (Gy (Ag (dFn Ln (Aa (dV 2) (Aa (dV 3) Ab)))))) Hw sNx)
def Us:List D->DH->R D:=Ba 4 0 ZC8
def ZHa:DS:=(Ac (sAs (dV 4) (Ao 4 (Ae (gV 5) (Ae (gV 6) (Ae (gV 7) (Ae (gV 8) Ax)))))) (Ac (sIf (Ag (dOp Bl (dV 7) (dC (.str "least")))) (sRt (dFn An (Aa (dV 0) (Aa (dV 2) Ab)))) sNx) (sRt (dFn An (Aa (dV 1) (Aa (dV 3) Ab))))))
def S9:List D->DH->R D:=Ba 5 4 ZHa
def Uo:DE:=(dOp Ai (dV 0) (dOp Ad (dV 1) (dC (.int 0))))
def O8:DE:=(Cr (dOp Ai (Av (dFn K6 (Aa (Av (dSl (dV 0) (vF (dC (.int 1))) vG)) Ab))) (Av (dFn Ah (Aa (dC (.int 0)) Ab)))))
def ZHq:DS:=(Ac (sAs (dV 2) (Ao 2 (Ae (gV 5) (Ae (gV 6) Ax)))) (Ac (Er "Course" (dV 0) (dV 1) "house") (Ac (Er "Course" (dV 0) (dV 5) "levels") (Ac (Er "Course" (dV 0) (dOp Az (dV 3) (dOp Ad (dV 1) (dC (.int 0)))) "year_turn") (Ac (Er "Course" (dV 0) (Bx (Bk (Ex 2) (Aa (dV 4) (Aa (dV 6) Ab))) 2 [] (Ao 2 (Ae (gV 0) (Ae (gV 1) Ax))) Bd Uo) "came") (Ac (Er "Course" (dV 0) (Bx (Dt (dV 6)) 1 [] (gV 0) Bd O8) "coming") (Ac (Er "Course" (dV 0) (Cr (dOp Ik (dFn Ah (Aa (dC .non) Ab)) (dFn Bm (Aa (dV 5) Ab)))) "page") (Er "Course" (dV 0) (Cr (dFn Ah Ab)) "reaches"))))))))
def O7:List D->DH->R D:=Ba 5 2 ZHq
def ZGF:DS:=(sIf (Ag (dOp Bl (dV 2) (dC (.int 0)))) (Js (Dv "Course" (dV 0) "came") (dV 1) (dV 3) K7) (Js (dOp Ad (Dv "Course" (dV 0) "coming") (dV 1)) (dOp Dw (dV 2) (dC (.int 1))) (dV 3) K7))
def Q4:List D->DH->R D:=Ba 4 0 ZGF
def M7:DS:=(sIf (Ag (dOp Bl (dOp Ad (dV 3) (dC (.int 1))) (dV 1))) (sRt (dV 2)) sNx)
def ZEd:DS:=(Ac (By (Bk Ey (Aa (dOp Ad (dV 0) (dC (.int 1))) Ab)) (Ao 2 (Ae (gV 2) (Ae (gV 3) Ax))) M7) Hw)
def O9:List D->DH->R D:=Ba 2 2 ZEd
def ZGQ:DS:=(Ac (sAs (dOp Ad (dOp Ad (dOp Ad (dV 0) (dC (.int 1))) (dV 1)) (dC (.int 2))) (gV 2)) (Ac (sIf (Ag (dOp Bl (dV 2) (dC (.str "sea")))) (sRt (dC .non)) sNx) (sRt (dFn O9 (Aa (dV 0) (Aa (dV 2) Ab))))))
def Q7:List D->DH->R D:=Ba 2 1 ZGQ
def ZGv:DS:=(Ac (sAs (dFn Q7 (Aa (Dv "Course" (dV 0) "house") (Aa (dV 1) Ab))) (gV 3)) (sIf (Ag (dOp J1 (dV 3) (dC .non))) (sEx (Fv "Course" "send" Q4 (dV 0) (Aa (dV 3) (Aa (dOp Ad (dOp Ad (dOp Ad (Dv "Course" (dV 0) "house") (dC (.int 1))) (dV 1)) (dC (.int 3))) (Aa (dV 2) Ab))))) sNx))
def Og:List D->DH->R D:=Ba 3 1 ZGv
def Qm:DS:=(Ac (sAs (dFn Px (Aa (dC (.int 0)) (Aa (dFn K1 (Aa (dV 5) (Aa (dOp Dw (dV 1) (dV 4)) Ab))) Ab))) (gV 7)) (sIf (Ag (dOp Bl (dV 6) (dC (.str "river")))) (sAu 2 (dV 7) K7) (sAu 3 (dV 7) K7)))
def ZHr:DS:=(Ac (sAs (dC (.int 0)) (gV 2)) (Ac (sAs (dC (.int 0)) (gV 3)) (Ac (By (Dt (dV 0)) (Ao 3 (Ae (gV 4) (Ae (gV 5) (Ae (gV 6) Ax)))) Qm) (sRt (dFn An (Aa (dV 2) (Aa (dV 3) (Aa (dOp Dw (dOp Dw (dV 1) (dV 2)) (dV 3)) Ab))))))))
def R9:List D->DH->R D:=Ba 2 6 ZHr
def T8:DS:=(sIf (Ag (dOp J9 (dV 3) (dV 1))) (sAs (dV 4) (gV 2)) sNx)
def ZDI:DS:=(Ac (sAs (dFn An Ab) (gV 2)) (Ac (By (Dt (dV 0)) (Ao 2 (Ae (gV 3) (Ae (gV 4) Ax))) T8) (sRt (dV 2))))
def Va:List D->DH->R D:=Ba 2 3 ZDI
def ZJr:DS:=(Ac (sAs (dOp Ad (dOp Ad (Dv "Course" (dV 0) "house") (dC (.int 1))) (dV 1)) (gV 2)) (Ac (sAs (dOp Ad (Dv "Course" (dV 0) "came") (dV 1)) (gV 3)) (Ac (sAs (dFn R9 (Aa (dFn Va (Aa (dOp Ad (dV 2) (dC (.int 5))) (Aa (Dv "Course" (dV 0) "year_turn") Ab))) (Aa (dOp Ai (dOp Ad (Dv "Course" (dV 0) "levels") (dV 1)) (dV 3)) Ab))) (Ao 3 (Ae (gV 4) (Ae (gV 5) (Ae (gV 6) Ax))))) (Ac (sAs (dFn K1 (Aa (dV 6) (Aa (dOp Ad (dV 2) (dC (.int 4))) Ab))) (gV 7)) (Ac (sAs (dOp Dw (dV 6) (dV 7)) (gV 8)) (Ac (sAs (dFn An (Aa (dV 3) (Aa (dC (.int 0)) (Aa (dV 8) (Aa (dV 4) (Aa (dV 5) (Aa (dV 7) Ab))))))) (gIx (Dv "Course" (dV 0) "page") (dV 1))) (Ac (sEx (Fv "Course" "send_down" Og (dV 0) (Aa (dV 1) (Aa (dOp Ai (dV 4) (dV 8)) Ab)))) (sIf (Ag (dOp J1 (dOp Ad (dV 2) (dC (.int 6))) (dC .non))) (sEx (Fv "Course" "send" Q4 (dV 0) (Aa (dFn O9 (Aa (Dv "Course" (dV 0) "house") (Aa (dOp Ad (dOp Ad (dV 2) (dC (.int 6))) (dC (.int 0))) Ab))) (Aa (dOp Ad (dOp Ad (dV 2) (dC (.int 6))) (dC (.int 1))) (Aa (dV 5) Ab))))) sNx))))))))
def U0:List D->DH->R D:=Ba 2 7 ZJr
def Yr:DE:=(dOp Dw (dOp Ad (dV 0) (dC (.int 1))) (dV 1))
def Kq:DS:=(sIf (Ag (dOp J1 (dOp Ad (dV 3) (dC (.int 0))) (dC .non))) (Js (dV 2) (dOp Ad (dV 3) (dC (.int 0))) (dOp Ad (dV 2) (dV 4)) K7) sNx)
def ZEU:DS:=(Ac (sAs (Bx (Bk (Ex 2) (Aa (dV 0) (Aa (dV 1) Ab))) 2 [] (Ao 2 (Ae (gV 0) (Ae (gV 1) Ax))) Bd Yr) (gV 2)) (Ac (By (Bk Ey (Aa (dV 0) Ab)) (Ao 2 (Ae (gV 4) (Ae (gV 3) Ax))) Kq) (sRt (dV 2))))
def Ms:List D->DH->R D:=Ba 2 3 ZEU
def ZHG:DS:=(Ac (sAs (dOp Ad (dV 0) (dC (.int 1))) (gV 2)) (Ac (sAs (dFn Q7 (Aa (dV 0) (Aa (dV 1) Ab))) (gV 3)) (Ac (sIf (dOr (Ag (dOp I9 (dV 3) (dC .non))) (Ag (dOp Gi (dOp Ad (dOp Ad (dV 2) (dV 1)) (dC (.int 3))) (dC (.int 0))))) (sRt (dC .non)) sNx) (Ac (sIf (dOr (Ag (dOp Bl (dOp Ad (dOp Ad (dV 2) (dV 1)) (dC (.int 0))) (dC (.str "basin")))) (Ag (dOp Bl (dOp Ad (dOp Ad (dV 2) (dV 3)) (dC (.int 0))) (dC (.str "basin"))))) (sRt (dC .non)) sNx) (sRt (dV 3))))))
def O5:List D->DH->R D:=Ba 2 2 ZHG
def Oh:DS:=(Ac (sAs (dOp Ad (dOp Ad (dV 0) (dC (.int 1))) (dV 4)) (gV 5)) (Ac (sAs (dFn O5 (Aa (dV 0) (Aa (dV 4) Ab))) (gV 6)) (Ac (sAs (dIf (Ag (dOp I9 (dV 6) (dC .non))) (dC .non) (De Iz (dV 1) (Aa (dV 6) Ab))) (gV 7)) (sIf (Ag (dOp Bl (dOp Ad (dV 5) (dC (.int 0))) (dC (.str "town")))) (sEx (De Dl (dV 3) (Aa (dFn An (Aa (dV 7) (Aa (dOp Ad (dV 2) (dV 4)) (Aa (dOp Ad (dV 5) (dC (.int 4))) (Aa (dOp Ad (dV 5) (dC (.int 5))) Ab))))) Ab))) (sEx (De Dl (dV 3) (Aa (dFn An (Aa (dV 7) (Aa (dOp Ad (dV 2) (dV 4)) (Aa (dC (.int 0)) (Aa (dC (.int 0)) Ab))))) Ab)))))))
def ZJV:DS:=(Ac (sAs (Cr (dFn Ah Ab)) (gV 3)) (Ac (By (Dt (dV 1)) (gV 4) Oh) (sRt (dV 3))))
def Ss:List D->DH->R D:=Ba 3 5 ZJV
def Wt:DE:=(dFn An (Aa (dOp Ad (dV 1) (dC (.int 3))) (Aa (dV 0) Ab)))
def Z3:DE:=(dV 1)
def ZJT:DS:=(Ac (sAs (Av (dFn Mf (Aa (Av (Bx (Bk Ey (Aa (dV 0) Ab)) 2 [] (Ao 2 (Ae (gV 0) (Ae (gV 1) Ax))) Bd Wt)) Ab))) (gV 1)) (sRt (Bx (Dt (dV 1)) 2 [] (Ao 2 (Ae (gV 0) (Ae (gV 1) Ax))) Bd Z3)))
def U8:List D->DH->R D:=Ba 1 1 ZJT
def O6:DS:=(Ac (sEx (De Dl (dV 2) (Aa (dV 3) Ab))) (sAs (dOp Ad (dOp Ad (dV 0) (dV 3)) (dC (.int 0))) (gV 3)))
def Lp:DB:=(Ag (dOp J1 (dV 3) (dC .non)))
def ZHm:DS:=(Ac (sAs (Cr (dFn Ah (Aa (dV 1) Ab))) (gV 2)) (Ac (sAs (dOp Ad (dOp Ad (dV 0) (dV 1)) (dC (.int 0))) (gV 3)) (Ac (sWh Lp O6 fuel) (sRt (dV 2)))))
def Ul:List D->DH->R D:=Ba 2 2 ZHm
def ZCx:DE:=(dOp Ad (dV 1) (dV 0))
def R8:DS:=(Js (dV 2) (dV 6) (dV 5) Dw)
def Ov:DS:=(Ac (sAs (Av (dFn Ul (Aa (dV 0) (Aa (dV 3) Ab)))) (gV 4)) (Ac (sAs (dFn K1 (Aa (dOp Ad (dOp Ad (dV 0) (dV 3)) (dC (.int 2))) (Aa (dFn Hi (Aa (Av (Bx (Dt (dV 4)) 1 [2] (gV 0) Bd ZCx)) Ab)) Ab))) (gV 5)) (Ac (sAs (dV 5) (gIx (dV 1) (dV 3))) (By (Dt (dV 4)) (gV 6) R8))))
def ZFj:DS:=(Ac (sAs (Cr (dOp Ik (dFn Ah (Aa (dC (.int 0)) Ab)) (dFn Bm (Aa (dV 0) Ab)))) (gV 1)) (Ac (sAs (Cr (dFn Ms (Aa (dV 0) (Aa (dV 1) Ab)))) (gV 2)) (Ac (By (Dt (Av (dFn U8 (Aa (dV 0) Ab)))) (gV 3) Ov) (sRt (dV 1)))))
def Tw:List D->DH->R D:=Ba 1 6 ZFj
def Jj:DS:=(Ac (sAs (dFn An (Aa (dOp Ai (dV 5) (dV 6)) (Aa (dV 5) (Aa (dC (.int 0)) (Aa (dV 6) (Aa (dC (.int 0)) (Aa (dC (.int 0)) Ab))))))) (gIx (Dv "Course" (dV 0) "page") (dV 4))) (sIf (Ag (dOp Bl (dV 4) (dOp Ad (dV 1) (dUn M6 (dC (.int 1)))))) (sEx (Fv "Course" "send_down" Og (dV 0) (Aa (dV 4) (Aa (dV 6) Ab)))) sNx))
def ZI4:DS:=(Ac (sAs (Av (dFn Ss (Aa (Dv "Course" (dV 0) "house") (Aa (dV 1) (Aa (Dv "Course" (dV 0) "came") Ab))))) (gV 2)) (Ac (sAs (Av (dFn Tw (Aa (dV 2) Ab))) (gV 3)) (Ac (By (Bk (Ex 3) (Aa (dV 1) (Aa (dV 3) (Aa (Av (dFn Ms (Aa (dV 2) (Aa (dV 3) Ab)))) Ab)))) (Ao 3 (Ae (gV 4) (Ae (gV 5) (Ae (gV 6) Ax)))) Jj) (sEx (De Dl (Dv "Course" (dV 0) "reaches") (Aa (Cr (dFn An (Aa (dV 1) (Aa (dV 2) Ab)))) Ab))))))
def Sq:List D->DH->R D:=Ba 2 5 ZI4
def Qq:DS:=(Ac (sAs (dFn O5 (Aa (dV 0) (Aa (dV 2) Ab))) (gV 3)) (sIf (Ag (dOp J1 (dV 3) (dC .non))) (sAs (dOp Ad (dV 1) (dV 3)) (gIx (dV 1) (dV 2))) sNx))
def ZHx:DS:=(Ac (sAs (Cr (dLR (Aa (dFn Bm (Aa (dOp Ad (dV 0) (dC (.int 1))) Ab)) Ab))) (gV 1)) (Ac (By (Bk rng3 (Aa (dOp Dw (dFn Bm (Aa (dOp Ad (dV 0) (dC (.int 1))) Ab)) (dC (.int 1))) (Aa (dUn M6 (dC (.int 1))) (Aa (dUn M6 (dC (.int 1))) Ab)))) (gV 2) Qq) (sRt (dV 1))))
def Rr:List D->DH->R D:=Ba 1 3 ZHx
def Rv:DE:=(dV 0)
def P0:DB:=(Ag (dOp Bl (dV 1) (dV 2)))
def Mu:DS:=(sIf (Ag (dOp Bl (dOp Ad (dOp Ad (dOp Ad (Dv "Course" (dV 0) "house") (dC (.int 1))) (dV 2)) (dC (.int 0))) (dC (.str "basin")))) (sEx (Fv "Course" "go_basin" U0 (dV 0) (Aa (dV 2) Ab))) (sIf (Ag (dOp Bl (dV 3) (dV 2))) (sEx (Fv "Course" "go_reach" Sq (dV 0) (Aa (Av (Bx (Bk Ey (Aa (dV 1) Ab)) 2 [2] (Ao 2 (Ae (gV 0) (Ae (gV 1) Ax))) P0 Rv)) Ab))) sNx))
def ZI6:DS:=(Ac (sAs (Av (dFn Rr (Aa (Dv "Course" (dV 0) "house") Ab))) (gV 1)) (By (Bk Ey (Aa (dV 1) Ab)) (Ao 2 (Ae (gV 2) (Ae (gV 3) Ax))) Mu))
def Vm:List D->DH->R D:=Ba 1 3 ZI6
def Vb:DE:=(dOp Ad (dV 0) (dC (.int 5)))
def Tf:DE:=(dFn Dj (Aa (dV 0) Ab))
def ZC0:DS:=(sRt (dFn An (Aa (dFn Dj (Aa (Av (Bx (Dt (Dv "Course" (dV 0) "page")) 1 [] (gV 0) Bd Vb)) Ab)) (Aa (dFn Dj (Aa (Av (Bx (Dt (Dv "Course" (dV 0) "coming")) 1 [] (gV 0) Bd Tf)) Ab)) Ab))))
def V5:List D->DH->R D:=Ba 1 0 ZC0
def ZJz:DS:=(Ac (sAs (Oq "Course" O7 (Aa (dV 0) (Aa (dV 1) (Aa (dV 2) (Aa (dV 3) Ab))))) (gV 4)) (Ac (sEx (Fv "Course" "go" Vm (dV 4) Ab)) (sRt (dFn An (Aa (dFn Dj (Aa (Dv "Course" (dV 4) "page") Ab)) (Aa (Fv "Course" "state_behind" V5 (dV 4) Ab) Ab))))))
def Rf:List D->DH->R D:=Ba 4 1 ZJz
def Ol:DS:=(Ac (sAs (dFn Rf (Aa (dV 0) (Aa (dV 1) (Aa (dV 5) (Aa (dV 6) Ab))))) (Ao 2 (Ae (gV 7) (Ae (gV 1) Ax)))) (sEx (De Dl (dV 4) (Aa (dV 7) Ab))))
def ZFL:DS:=(Ac (sAs (Cr (dFn Ah Ab)) (gV 4)) (Ac (By (Ny (Aa (dV 3) Ab) (dV 2)) (Ao 2 (Ae (gV 5) (Ae (gV 6) Ax))) Ol) (sRt (dFn An (Aa (dV 4) (Aa (dV 1) Ab))))))
def Ky:List D->DH->R D:=Ba 4 4 ZFL
def ZFw:DS:=(Ac (sEx (dFn U7 (Aa (dV 0) (Aa (dV 6) Ab)))) (Ac (sEx (dFn Us (Aa (dV 1) (Aa (dV 2) (Aa (dV 4) (Aa (dV 5) Ab)))))) (Ac (sAs (dFn S9 (Aa (dV 1) (Aa (dV 2) (Aa (dV 4) (Aa (dV 5) (Aa (dV 6) Ab)))))) (Ao 2 (Ae (gV 7) (Ae (gV 8) Ax)))) (Ac (sAs (Av (dFn Ky (Aa (dV 0) (Aa (dV 7) (Aa (dV 3) (Aa (dV 8) Ab)))))) (Ao 2 (Ae (gV 9) (Ae (gV 10) Ax)))) (sRt (dFn Tc (Aa (dV 9) (Aa (dV 6) Ab))))))))
def M8:List D->DH->R D:=Ba 7 4 ZFw
def Um:DE:=(dOp Ad (dOp Ad (dV 0) (dOp Ad (dV 1) (dC (.int 1)))) (dFn Ry (Aa (dOp Ad (dV 1) (dC (.int 0))) Ab)))
def ZAr:DE:=(dFn Lf (Aa (dV 1) (Aa (dV 0) (Aa (dOp Ad (dV 2) (dC (.int 2))) Ab))))
def ZAK:DE:=(dFn Lf (Aa (dV 1) (Aa (dV 0) (Aa (dOp Ad (dV 1) (dC (.int 3))) Ab))))
def ZDG:DS:=(sRt (dFn Lf (Aa (dV 7) (Aa (dOp Ad (dV 8) (dC (.int 2))) (Aa (dOp Ad (dV 7) (dC (.int 3))) Ab)))))
def ZGm:DS:=(Ac (sIf (Ag (dFn Kz (Aa (Av (Bx (Dt (Av (dSl (dV 11) vG (vF (dOp Ad (dV 8) (dC (.int 1))))))) 1 [7] (gV 0) Bd ZAK)) Ab))) (sRt (dC (.bl vI))) sNx) ZDG)
def ZHh:DS:=(Ac (sIf (dOr (Gy (Ag (K5 J9 Fb (dC (.int 0)) (dOp Ad (dV 8) (dC (.int 1))) (dFn Bm (Aa (dV 11) Ab))))) (Ag (dOp Gw (dOp Ad (dV 11) (dOp Ad (dV 8) (dC (.int 1)))) (dOp Ad (dV 8) (dC (.int 2)))))) (sRt (dC (.bl vI))) sNx) ZGm)
def ZAY:DS:=(Ac (sIf (Ag (dOp Bl (dOp Ad (dV 8) (dC (.int 0))) (dC (.str "kept")))) (Ac (sIf (Ag (dFn Lf (Aa (dV 7) (Aa (dOp Ad (dV 8) (dC (.int 2))) (Aa (dOp Ad (dV 7) (dC (.int 3))) Ab))))) (sRt (dC (.bl vI))) sNx) (sRt (Qv (dFn Kz (Aa (Av (Bx (Dt (dV 11)) 1 [7,8] (gV 0) Bd ZAr)) Ab))))) sNx) ZHh)
def Xu:DS:=(Ac (sIf (dOr (Ag (dOp I9 (dOp Ad (dV 8) (dC (.int 1))) (dC .non))) (Ag (dOp I9 (dOp Ad (dV 8) (dC (.int 2))) (dC .non)))) (sRt (dC (.bl vI))) sNx) ZAY)
def Ti:DS:=(Ac (sIf (J7 (Ag (dOp Bl (dOp Ad (dV 8) (dC (.int 0))) (dC (.str "kept")))) (Ag (dOp Bl (dV 4) (Av (dFn Ah Ab))))) (sRt (Je (dOp I9 (dOp Ad (dV 8) (dC (.int 1))) (dC .non)) (dOp I9 (dOp Ad (dV 8) (dC (.int 2))) (dC .non)))) sNx) Xu)
def Ku:DS:=(Ac (sIf (Ag (dOp Gw (dFn Bm (Aa (dV 11) Ab)) (dFn Bm (Aa (dV 4) Ab)))) (sRt (dC (.bl vI))) sNx) Ti)
def Sg:DS:=(Ac (sAs (Av (Bx (Dt (dV 10)) 1 [7] (gV 0) Bd Um)) (gV 11)) Ku)
def Ot:DS:=(Ac (sIf (Ag (dOp Bl (dOp Ad (dV 8) (dC (.int 0))) (dC (.str "broken")))) (Ac (sAs (dOp Ad (Av (dFn Ky (Aa (dV 1) (Aa (dV 3) (Aa (dV 2) (Aa (dV 4) Ab)))))) (dC (.int 0))) (gV 10)) (sIf (Ag (dOp Bl (dOp Ad (dV 7) (dC (.int 2))) (dC (.str "most")))) (sAs (dOp Ad (Av (dFn Ky (Aa (dV 1) (Aa (dV 5) (Aa (dV 2) (Aa (dV 6) Ab)))))) (dC (.int 0))) (gV 10)) sNx)) sNx) Sg)
def ZDC:DS:=(Ac (sAs (dOp Ad (Av (dFn Ky (Aa (dV 1) (Aa (dFn Uu (Aa (dV 0) (Aa (dV 9) (Aa (dV 3) (Aa (dV 5) Ab))))) (Aa (dV 2) (Aa (Av (dFn S8 (Aa (dV 0) (Aa (dOp Ai (dV 9) (dC (.int 4))) (Aa (dV 4) (Aa (dV 6) Ab)))))) Ab)))))) (dC (.int 0))) (gV 10)) Ot)
def ZJK:DS:=(Ac (sAs (dOp Ai (dC (.int 6)) (dOp Aj (dC (.int 32)) (dFn Bm (Aa (dOp Ad (dV 1) (dC (.int 1))) Ab)))) (gV 9)) ZDC)
def Rk:DS:=(Ac (sIf (dOr (Gy (Ag (dFn V2 (Aa (dV 8) Ab)))) (Ag (dOp Hz (dOp Ad (dV 8) (dC (.int 0))) (dFn An (Aa (dC (.str "kept")) (Aa (dC (.str "broken")) Ab)))))) (sRt (dC (.bl vI))) sNx) ZJK)
def ZEc:DS:=(Ac (sAs (dFn M8 (Aa (dV 1) (Aa (dV 3) (Aa (dV 5) (Aa (dV 2) (Aa (Av (dFn K6 (Aa (dV 4) Ab))) (Aa (Av (dFn K6 (Aa (dV 6) Ab))) (Aa (dV 7) Ab)))))))) (gV 8)) Rk)
def ZBC:DS:=(Ac (sIf (Ag (dOp I9 (dV 7) (dC .non))) (sRt (dC (.bl vH))) sNx) ZEc)
def ZAF:DS:=(Ac (sAs (Av (dFn V1 (Aa (dV 0) (Aa (dV 1) Ab)))) (gV 7)) ZBC)
def ZCu:DS:=(Ac (sAs (Av (dFn Nv (Aa (dV 0) (Aa (dV 1) (Aa (dV 3) (Aa (dV 4) Ab)))))) (Ao 2 (Ae (gV 5) (Ae (gV 6) Ax)))) ZAF)
def Ye:DS:=(Ac (sAs (Av (dFn Ur (Aa (dV 0) (Aa (dV 1) (Aa (dOp Az (dFn Bc (Aa (dV 0) (Aa (dC (.int 2)) Ab))) (dC (.int 7))) Ab))))) (gV 4)) ZCu)
def ZA8:DS:=(Ac (sAs (dFn Vf (Aa (dV 0) (Aa (dV 1) Ab))) (gV 3)) Ye)
def ZB9:DS:=(Ac (sAs (dFn Od (Aa (dV 0) Ab)) (gV 2)) ZA8)
def M9:DS:=(Ac (sAs (dFn R7 (Aa (dV 0) Ab)) (gV 1)) ZB9)
def Ls:List D->DH->R D:=Ba 1 11 M9
def Holds:Prop:=∀ns:List Int,ns.length<=63->∃G,Ls [.fl (ns.map D.int)] []=.ok (.bl vH) G
end _W
namespace _W
open PySem _L _D
variable{ns xs l r ys:List Int}{F T P W ca lv f ca' lv':Nat->Int}{m i d j p to dl t B:Nat}{G L:DH}{A:DO}{ds:List D}{ws ms:List Nat}{α:Type}{w c a at_ u yr w' x y:Int}{q:Option (Nat×Nat×Int)}{H LV e:D}{pg:Nat->List Int}{S:DSt}{co fl co' fl':Nat->Nat->Int}{te:DE}{nm:Nat->Str}{s2:Option D}{fls fls':List (Nat->Int)}{pgs:List (Nat->List Int)}{b:Bool}
abbrev zI(i:Int):Option D:=vF (.int i)
abbrev zR(i:Nat):Option D:=vF (.ref i)
abbrev zF(xs:List D):Option D:=vF (.fl xs)
abbrev zT(xs:List D):Option D:=vF (.tup xs)
abbrev zS(x:Str):Option D:=vF (.str x)
abbrev zB(b:Bool):Option D:=vF (.bl b)
section
variable{S:DSt}{G:DH}{d:D}{a b c e f g h i j k l m n:Option D}
@[simp high]theorem rV0:dV 0 (vF d::S) G=.ok d G:=id rfl
@[simp high]theorem rV1:dV 1 (a::vF d::S) G=.ok d G:=id rfl
@[simp high]theorem rV2:dV 2 (a::b::vF d::S) G=.ok d G:=id rfl
@[simp high]theorem rV3:dV 3 (a::b::c::vF d::S) G=.ok d G:=id rfl
@[simp high]theorem rV4:dV 4 (a::b::c::e::vF d::S) G=.ok d G:=id rfl
@[simp high]theorem rV5:dV 5 (a::b::c::e::f::vF d::S) G=.ok d G:=id rfl
@[simp high]theorem rV6:dV 6 (a::b::c::e::f::g::vF d::S) G=.ok d G:=id rfl
@[simp high]theorem rV7:dV 7 (a::b::c::e::f::g::h::vF d::S) G=.ok d G:=id rfl
@[simp high]theorem rV8:dV 8 (a::b::c::e::f::g::h::i::vF d::S) G=.ok d G:=id rfl
@[simp high]theorem rV9:dV 9 (a::b::c::e::f::g::h::i::j::vF d::S) G=.ok d G:=id rfl
@[simp high]theorem rV10:dV 10 (a::b::c::e::f::g::h::i::j::k::vF d::S) G=.ok d G:=id rfl
@[simp high]theorem rV11:dV 11 (a::b::c::e::f::g::h::i::j::k::l::vF d::S) G=.ok d G:=id rfl
@[simp high]theorem rV12:dV 12 (a::b::c::e::f::g::h::i::j::k::l::m::vF d::S) G=.ok d G:=id rfl
@[simp high]theorem rV13:dV 13 (a::b::c::e::f::g::h::i::j::k::l::m::n::vF d::S) G=.ok d G:=id rfl
end
theorem ZF7:∃b,∀G,K8 [.fl (ns.map D.int)] G=.ok (.bl b) G:=by
 cases ns with
 |nil=>exact⟨vI,λG=>by unfold K8 Zn;rw[Aw];simp[Be]⟩
 |cons n r=>
  refine⟨decide (n<0)||decide (1000000000000000000<=n),λG=>?_⟩;unfold K8 Zn;rw[Aw];have a0:atI ((n::r).map D.int) 0=zI n:=Dg (k:=0) rfl rfl;by_cases h:n<0
  ·simp[a0,h,Be]
  ·simp[a0,h,Be]
def offV:Nat->Int->Int
 |0,v=>v
 |n+1,v=>offV n (v/100000000)
theorem ZJA{k:D}{G:DH}:∀(n:Nat)(j:Nat)(v:Int)(x:Option D),∃x',Aq (gV 2) Qf (Bh j n) [zI v,vF k,x] G=.nx [zI (offV n v),vF k,x'] G
 |0,j,v,x=>⟨x,by rw[H9,Cm];rfl⟩
 |n+1,j,v,x=>by
  obtain⟨x',ih⟩:=ZJA (k:=k) (G:=G) n (j+1) (v/100000000) (zI j);refine⟨x',?_⟩;have hb:Qf [zI v,vF k,zI j] G=.nx [zI (v/100000000),vF k,zI j] G:=by unfold Qf;simp
  rw[Ge,Bu];simp only[Cg,R.Cd,qx,hb,Cq];have e1:((j:Int)+1)=((j+1:Nat):Int):=by lia
  rw[e1,ih]
  rfl
theorem ZJN{v:Int}{k:Nat}(hk:k<=1000):∃r:Int,(0<=r/\r<100000000)/\∀G,Pj [.int v,.int k] G=.ok (.int r) G:=by
 by_cases h:0<=v/\v<1000000000000000000
 ·let a:=(v+1009*(k:Int)+7)%999999937;let b:=a*a%999999929;refine⟨b*(b+k)%99999989,by lia,λG=>?_⟩;have ha:0<=a/\a<999999937:=by lia
  have hb:0<=b/\b<999999929:=by lia
  unfold Pj Yq;rw[Aw];have m1:Aj (.int a) (.int a)=λG=>R.ok (.int (a*a)) G:=by funext G;exact Fj (by lia) (by lia)
  have m2:Aj (.int b) (.int (b+k))=λG=>R.ok (.int (b*(b+k))) G:=by funext G;exact Fj (by lia) (by lia)
  simp[h.1,h.2]
  rw[show(v+1009*(k:Int)+7)%999999937=a from rfl,m1]
  simp
  rw[show a*a%999999929=b from rfl,m2]
  simp[Be]
 ·refine⟨offV k v%100000000,by lia,λG=>?_⟩;obtain⟨x',hx⟩:=ZJA (k:=.int k) (G:=G) k 0 v vG;have hx':Aq (gV 2) Qf (Bh 0 k) [zI v,zI k,vG] G=.nx [zI (offV k v),zI k,x'] G:=hx;unfold Pj Yq;rw[Aw];have hr:inR (k:Int):=Ed (by lia) (by lia);by_cases h0:0<=v
  ·have h1:¬v<1000000000000000000:=λz=>h ⟨h0,z⟩
   simp[h0,h1,hr,hx',Be]
  ·simp[h0,hr,hx',Be]
theorem ZIQ(hl:ns.length<=63){k:Nat}(hk:k<=1000):∃v:Int,∀G,Bc [.fl (ns.map D.int),.int k] G=.ok (.int v) G:=by
 obtain⟨b,ht⟩:=ZF7 (ns:=ns);have hd:((k:Int)/14)=((k/14:Nat):Int):=by lia
 have hm:((k:Int)%14)=((k%14:Nat):Int):=by lia
 cases b with
 | true=>
  by_cases h:1+k/14<ns.length
  ·obtain⟨r,hr,ho⟩:=ZJN (v:=ns[1+k/14]) (k:=k%14) (by lia);refine⟨r,λG=>?_⟩;unfold Bc M5;rw[Aw];have a1:atI (ns.map D.int) (1+(k:Int)/14)=zI ns[1+k/14]:=Dg (k:=1+k/14) (by lia) (by rw[zx,zX h];rfl);have hc:(1+(k:Int)/14)<ns.length:=by lia
   simp[ht,hc,a1];rw[hm,ho];simp[Be]
  ·obtain⟨r,hr,ho⟩:=ZJN (v:=0) (k:=k%14) (by lia);refine⟨r,λG=>?_⟩;unfold Bc M5;rw[Aw];have hc:¬(1+(k:Int)/14)<ns.length:=by lia
   simp[ht,hc];rw[hm,ho];simp[Be]
 | false=>
  by_cases h:k<ns.length
  ·refine⟨ns[k],λG=>?_⟩;unfold Bc M5;rw[Aw];have a1:atI (ns.map D.int) (k:Int)=zI ns[k]:=Dg (k:=k) rfl (by rw[zx,zX h];rfl);simp[ht,h,a1,Be]
  ·have m0:∀G,Aj (.int k) (.int k) G=R.ok (.int ((k:Int)*k)) G:=λG=>Fj (by lia) (by lia)
   by_cases h0:0<ns.length
   ·have hi:k%ns.length<ns.length:=Nat.mod_lt _ h0;refine⟨48271*((k:Int)*k+7*ns.length)%2147483647+ns[k%ns.length]*69621%2147483629,λG=>?_⟩;unfold Bc M5;rw[Aw];have a1:atI (ns.map D.int) ((k:Int)%ns.length)=zI ns[k%ns.length]:=Dg (k:=k%ns.length) (by simp) (by rw[zx,zX hi];rfl);simp[ht,h,m0,h0,a1,Be]
   ·have e:ns=[]:=qM (by lia);subst e;refine⟨48271*((k:Int)*k+7*0)%2147483647,λG=>?_⟩;unfold Bc M5;rw[Aw];have ht':∀G,K8 [.fl []] G=.ok (.bl vI) G:=ht;have hk0:¬(k:Int)<0:=by lia
    simp[ht',hk0,m0,Be]
theorem cells(hl:ns.length<=63):∃f:Nat->Int,∀k:Nat,k<=1000->∀G,Bc [.fl (ns.map D.int),.int k] G=.ok (.int (f k)) G:=by refine⟨λk=>if h:k<=1000 then(ZIQ hl h).choose else 0,λk hk=>?_⟩;simp only[dif_pos hk];exact(ZIQ hl hk).choose_spec
abbrev nD(ns:List Int):D:=.fl (ns.map D.int)
abbrev zN(ns:List Int):Option D:=vF (nD ns)
abbrev Cf(ns:List Int)(f:Nat->Int):Prop:=∀k:Nat,k<=1000->∀G,Bc [nD ns,.int k] G=.ok (.int (f k)) G
abbrev Cu(ns:List Int)(u:Int):Prop:=∀G,Ho [nD ns] G=.ok (.int u) G
abbrev Cy(ns:List Int)(u:Int):Prop:=∀G,Ml [nD ns] G=.ok (.int u) G
structure Row where
 down:Option Nat
 water:Int
 need:Int
 rank:Int
variable{rs rs':List Row}
def dnD:Option Nat->D
 |none=>.non
 |some d=>.int d
def Row.enc(r:Row):D:=.tup [dnD r.down,.int r.water,.int r.need,.int r.rank]
@[simp]theorem ZVF{n:Nat}{o:Option Nat}:bel n (dnD o)=vH:=by cases o<;>rfl
@[simp]theorem ZSo{n:Nat}{r:Row}:bel n r.enc=vH:=by simp[Row.enc]
@[simp]theorem ZVn{n:Nat}:bels n (rs.map Row.enc)=vH:=Ec λr _=>ZSo
@[simp]theorem ZGj{n:Nat}:bels n (xs.map D.int)=vH:=Ec λr _=>rfl
structure Fine (k n:Nat) (r:Row):Prop where
 dn:∀d,r.down=vF d->k<d/\d<n
 w0:0<=r.water
 n0:0<=r.need
 r0:0<=r.rank
def Reach(rs:List Row):Prop:=∀k r,rs[k]?=vF r->Fine k rs.length r
def tab(n:Nat)(F:Nat->Int):List D:=(zQ n).map λi=>D.int (F i)
def fset(F:Nat->Int)(d:Nat)(v:Int):Nat->Int:=λi=>if i=d then v else F i
@[simp]theorem ZQ6{n:Nat}:(tab n F).length=n:=by simp[tab]
@[simp]theorem Hc{n:Nat}:bels m (tab n F)=vH:=Ec λ_ _=>rfl
theorem Lk{n:Nat}(h:i<n):(tab n F)[i]?=zI (F i):=by unfold tab;rw[zx,zU h];rfl
theorem Dy{n:Nat}(h:i<n):atI (tab n F) (i:Int)=zI (F i):=Dg rfl (Lk h)
theorem Nf{n:Nat}{v:Int}:(tab n F).set d (.int v)=tab n (fset F d v):=by
 refine jD λi=>?_
 by_cases hi:i<n
 ·by_cases e:d=i
  ·subst e;rw[jw (by simpa using hi),Lk hi];simp[fset]
  ·rw[jV e,Lk hi,Lk hi];have:i≠d:=λz=>e z.symm
   simp[fset,this]
 ·rw[z0 (by simp;lia),z0 (by simp;lia)]
theorem ZEr{n:Nat}{F':Nat->Int}(h:∀i,i<n->F i=F' i):tab n F=tab n F':=by
 unfold tab;refine qk λi hi=>?_
 rw[h i (qz.mp hi)]
def col(g:Row->Int)(rs:List Row)(i:Nat):Int:=match rs[i]? with
 |some r=>g r
 |none=>0
def Bj(rs:List Row)(i:Nat):Option Nat:=rs[i]?.bind Row.down
theorem Gn(h:Reach rs){k:Nat}(e:Bj rs k=vF d):k<d/\d<rs.length:=by
 unfold Bj at e;cases hr:rs[k]? with
 |none=>rw[hr]at e;cases e
 |some r=>rw[hr]at e;exact(h k r hr).dn d e
theorem Up{k:Nat}(hk:k<rs.length):Bj rs k=rs[k].down:=by unfold Bj;rw[zX hk];rfl
theorem Uc{k:Nat}(hk:¬k<rs.length):Bj rs k=vG:=by unfold Bj;rw[z0 (by lia)];rfl
def gstep(F:Nat->Int)(k:Nat)(o:Option Nat):Nat->Int:=match o with
 |none=>F
 |some d=>fset F d (F d+F k)
def gat(rs:List Row):Nat->Nat->(Nat->Int)->Nat->Int
 |0,_,F=>F
 |m+1,k,F=>gat rs m (k+1) (gstep F k (Bj rs k))
abbrev gath(rs:List Row)(F:Nat->Int):Nat->Int:=gat rs rs.length 0 F
theorem Y0{k:Nat}(hk:k<rs.length):atI (rs.map Row.enc) (k:Int)=zT [dnD (Bj rs k),.int (col Row.water rs k),.int (col Row.need rs k),.int (col Row.rank rs k)]:=
 Dg rfl (by rw[zx,Up hk];simp[col,zX hk,Row.enc])
theorem ZGe(hR:Reach rs){t:D}{G:DH}:∀(m k:Nat)(F:Nat->Int)(x y:Option D),k+m=rs.length->∃x' y',
  Aq (Ao 2 (Ae (gV 4) (Ae (gV 3) Ax))) Kq ((Dm (rs.map Row.enc)).drop k) [zF (rs.map Row.enc),vF t,zR G.length,x,y] (G++[.lst (tab rs.length F)])=
   .nx [zF (rs.map Row.enc),vF t,zR G.length,x',y'] (G++[.lst (tab rs.length (gat rs m k F))])
 |0,k,F,x,y,h=>⟨x,y,by rw[qX (by rw[Ir];simp;lia),Cm];rfl⟩
 | m+1,k,F,x,y,h=>by
  have hk:k<rs.length:=by lia
  have e0:(Dm (rs.map Row.enc)).drop k=.tup [.int k,rs[k].enc]::(Dm (rs.map Row.enc)).drop (k+1):=by rw[qZ (by rw[Ir];simpa using hk)];simp[Dm]
  obtain⟨x',y',ih⟩:=ZGe hR (t:=t) (G:=G) m (k+1) (gstep F k (Bj rs k)) (vF rs[k].enc) (zI k) (by lia);refine⟨x',y',?_⟩;have hb:Kq [zF (rs.map Row.enc),vF t,zR G.length,vF rs[k].enc,zI k] (G++[.lst (tab rs.length F)])=
    .nx [zF (rs.map Row.enc),vF t,zR G.length,vF rs[k].enc,zI k] (G++[.lst (tab rs.length (gstep F k (Bj rs k)))]):=by
   unfold Kq;cases hd:Bj rs k with
   |none=>
    have:rs[k].down=vG:=by rw[<-Up hk];exact hd
    simp[Row.enc,this,dnD,gstep]
   |some d=>
    have e:rs[k].down=vF d:=by rw[<-Up hk];exact hd
    have hdn:=Gn hR hd;have g0:(G++[DO.lst (tab rs.length F)])[G.length]?=vF (.lst (tab rs.length F)):=by simp
    simp[Row.enc,e,dnD,gstep,Rg g0 (Dy hdn.2),Cw,Dy hk,Dz,Hr,hdn.2,Nf]
  rw[e0,Bu];simp[Cg,hb];exact ih
def Jm(rs:List Row)(i:Nat):D:=.tup [dnD (Bj rs i),.int (col Row.water rs i),.int (col Row.need rs i),.int (col Row.rank rs i)]
theorem ZJk:rs.map Row.enc=(zQ rs.length).map (Jm rs):=by
 refine jD λi=>?_
 by_cases hi:i<rs.length
 ·rw[zx,zx,zU hi,zX hi];simp[Jm,Row.enc,Up hi,col,zX hi]
 ·rw[z0 (by simp;lia),z0 (by simp;lia)]
theorem ZHg(hR:Reach rs)(hl:rs.length<=40){t:D}(ht:Bg t G=vF (tab rs.length T)):Ms [.fl (rs.map Row.enc),t] G=.ok (.ref G.length) (G++[.lst (tab rs.length (gath rs λi=>col Row.water rs i-T i))]):=by
 obtain⟨x',y',hL⟩:=ZGe hR (t:=t) (G:=G) rs.length 0 (λi=>col Row.water rs i-T i) vG vG (by lia);have hz:∀j,Ew [.fl (rs.map Row.enc),t] j G=vF ((zQ rs.length).map λi=>D.tup [Jm rs i,.int (T i)])[j]? :=λj=>by
  rw[Xy ZFq ht,Ke,ZJk,tab,List.zip_map',qP]
  rfl
 let F:D->Option D:=λd=>match d with
  |.tup [.tup [_,.int w,_,_],.int v]=>zI (w-v)
  |_=>vG
 have hc:Dc (Ew [.fl (rs.map Row.enc),t]) (Ao 2 (Ae (gV 0) (Ae (gV 1) Ax))) Bd Yr (Ay 2 [] [zF (rs.map Row.enc),vF t,vG,vG,vG]) rs.length 0 G=.ok (tab rs.length λi=>col Row.water rs i-T i) G:=by
  rw[V4 (F:=F) hz (λx hx=>?_) (by simp)]
  ·congr 1
   rw[qw];show(zQ rs.length).filterMap (λi=>zI (col Row.water rs i-T i))=_;rw[qB]
   rfl
  ·obtain⟨i,_,rfl⟩:=zO.mp hx;refine⟨[vF (Jm rs i),zI (T i)],by simp[Ay],.inr ⟨rfl,.int (col Row.water rs i-T i),?_,rfl⟩⟩;unfold Yr;simp[Jm]
 have hl2:rs.length<=1000000:=by lia
 unfold Ms ZEU;rw[Aw];have hL':Aq (Ao 2 (Ae (gV 4) (Ae (gV 3) Ax))) Kq (Dm (rs.map Row.enc)) [zF (rs.map Row.enc),vF t,zR G.length,vG,vG] (G++[.lst (tab rs.length λi=>col Row.water rs i-T i)])=_:=hL;have hcf:Dh (Dp 0 (.fl (rs.map Row.enc))) (Ao 2 (Ae (gV 4) (Ae (gV 3) Ax))) Kq rs.length 0 [zF (rs.map Row.enc),vF t,zR G.length,vG,vG] (G++[.lst (tab rs.length λi=>col Row.water rs i-T i)])=.nx [zF (rs.map Row.enc),vF t,zR G.length,x',y'] (G++[.lst (tab rs.length (gath rs λi=>col Row.water rs i-T i))]):=by
  have:=ZP5 (S:=[zF (rs.map Row.enc),vF t,zR G.length,vG,vG]) (G:=G++[.lst (tab rs.length λi=>col Row.water rs i-T i)]) (g:=Ao 2 (Ae (gV 4) (Ae (gV 3) Ax))) (b:=Kq) (xs:=rs.map Row.enc);rw[qq]at this;rw[this];exact hL'
 simp[Ux (ZFq (xs:=rs.map Row.enc)) ht,hc,Ah,hl2,hcf,Dr]
theorem ZGd{g:Row->Int}(h:∀r∈rs,0<=g r)(k:Nat):0<=col g rs k:=by
 unfold col;split
 ·rename_i r hr;exact h r (List.mem_of_getElem? hr)
 ·exact zL _
theorem Reach.need(h:Reach rs)(k:Nat):0<=col Row.need rs k:=ZGd (λr hr=>by obtain⟨i,hi,rfl⟩:=qE hr;exact(h i _ (zX hi)).n0) k
theorem Reach.water(h:Reach rs)(k:Nat):0<=col Row.water rs k:=ZGd (λr hr=>by obtain⟨i,hi,rfl⟩:=qE hr;exact(h i _ (zX hi)).w0) k
theorem ZJx(h:bels (G.length+1) ds=vH):freeze (G++[A]) (.ok (.ref (G.length+1)) (G++A:: .lst ds::L))=.ok (.fl ds) (G++[A]):=by have:=Dk (G:=G++[A]) (ds:=ds) (L:=L) (by simpa using h);simpa using this
theorem ZIe(h:bels (G.length+1) ds=vH):tidy (G++[A]) (.ok (.ref (G.length+1)) (G++A:: .lst ds::L))=.ok (.ref (G.length+1)) (G++[A,.lst ds]):=by have:=Dr (G:=G++[A]) (ds:=ds) (L:=L) (by simpa using h);simpa using this
theorem ZCc{B:DO}(h:bels (G.length+2) ds=vH):freeze (G++[A,B]) (.ok (.ref (G.length+2)) (G++A::B:: .lst ds::L))=.ok (.fl ds) (G++[A,B]):=by have:=Dk (G:=G++[A,B]) (ds:=ds) (L:=L) (by simpa using h);simpa using this
def Hb(rs:List Row):Nat->Nat->List Nat
 |0,k=>[k]
 |m+1,k=>k::(match Bj rs k with
  |none=>[]
  |some d=>Hb rs m d)
def way(rs:List Row)(k:Nat):List Nat:=Hb rs rs.length k
theorem ZHH(hR:Reach rs):∀(m m' k:Nat),rs.length<=m+k+1->rs.length<=m'+k+1->Hb rs m k=Hb rs m' k
 | 0,m',k,h,h'=>by
  have hn:Bj rs k=vG:=by
   cases hd:Bj rs k with
   |none=>rfl
   |some d=>have:=Gn hR hd;lia
  cases m' with
  |zero=>rfl
  |succ m'=>simp[Hb,hn]
 | m+1,0,k,h,h'=>by
  have hn:Bj rs k=vG:=by
   cases hd:Bj rs k with
   |none=>rfl
   |some d=>have:=Gn hR hd;lia
  simp[Hb,hn]
 | m+1,m'+1,k,h,h'=>by
  cases hd:Bj rs k with
  |none=>simp[Hb,hd]
  |some d=>
   have:=Gn hR hd;simp[Hb,hd,ZHH hR m m' d (by lia) (by lia)]
def Gm(rs:List Row):Option Nat->List Nat
 |none=>[]
 |some d=>way rs d
theorem Eo(hR:Reach rs)(k:Nat):way rs k=k::Gm rs (Bj rs k):=by
 unfold way;rw[ZHH hR rs.length (rs.length+1) k (by lia) (by lia)];show k::_=_;cases hd:Bj rs k with
 |none=>rfl
 |some d=>rfl
@[simp]theorem ZVl:dnD (vF d)=.int d:=id rfl
def Ar(ws:List Nat):List D:=ws.map λ(i:Nat)=>D.int (i:Int)
@[simp]theorem ZHp:bels m (Ar ws)=vH:=Ec λ_ _=>rfl
@[simp]theorem ZV3:(Ar ws).length=ws.length:=by simp[Ar]
theorem ZI8(hR:Reach rs)(hl:rs.length<=40){x:Option D}:∀(m:Nat)(o:Option Nat)(acc:List Nat),0<m->(∀d,o=vF d->d<rs.length/\rs.length-d<m/\acc.length+(rs.length-d)<=100)->
  sWh Lp O6 m [zF (rs.map Row.enc),x,zR G.length,vF (dnD o)] (G++[.lst (Ar acc)])=.nx [zF (rs.map Row.enc),x,zR G.length,vF .non] (G++[.lst (Ar (acc++Gm rs o))])
 |0,o,acc,h0,h=>by lia
 |m+1,vG,acc,h0,h=>by
  have ht:Lp [zF (rs.map Row.enc),x,zR G.length,vF (dnD vG)] (G++[.lst (Ar acc)])=.ok vI (G++[.lst (Ar acc)]):=by unfold Lp;simp[dnD]
  unfold sWh;rw[ht];simp[Gm,dnD]
 |m+1,vF d,acc,h0,h=>by
  obtain⟨h1,h2,h3⟩:=h d rfl;have ht:Lp [zF (rs.map Row.enc),x,zR G.length,vF (dnD (vF d))] (G++[.lst (Ar acc)])=.ok vH (G++[.lst (Ar acc)]):=by unfold Lp;simp[dnD]
  have hla:acc.length<1000000:=by lia
  have hb:O6 [zF (rs.map Row.enc),x,zR G.length,vF (dnD (vF d))] (G++[.lst (Ar acc)])=.nx [zF (rs.map Row.enc),x,zR G.length,vF (dnD (Bj rs d))] (G++[.lst (Ar (acc++[d]))]):=by unfold O6;simp[Cw,Dz,hla,Y0 h1,Ar]
  unfold sWh;rw[ht];simp only[R.Cd,if_true,hb,Cq];rw[ZI8 hR hl m (Bj rs d) (acc++[d]) (by lia) (λe he=>by have:=Gn hR he;simp;lia)]
  have:Gm rs (vF d)=d::Gm rs (Bj rs d):=Eo hR d;rw[this];simp
theorem ZR7(hR:Reach rs)(hl:rs.length<=40){k:Nat}(hk:k<rs.length)(G:DH):Ul [.fl (rs.map Row.enc),.int k] G=.ok (.ref G.length) (G++[.lst (Ar (way rs k))]):=by
 have hL:=ZI8 hR hl (x:=zI k) (G:=G) fuel (Bj rs k) [k] (by unfold fuel;lia) (λd hd=>by have:=Gn hR hd;unfold fuel;simp;lia)
 have hL':sWh Lp O6 fuel [zF (rs.map Row.enc),zI k,zR G.length,vF (dnD (Bj rs k))] (G++[.lst [.int k]])=_:=hL;rw[Eo hR];unfold Ul ZHm;rw[Aw];simp[Ah,Dr,Y0 hk,hL']
def ltK(rs:List Row)(i j:Nat):Bool:=decide (col Row.rank rs i<col Row.rank rs j∨(col Row.rank rs i=col Row.rank rs j/\i<j))
theorem ZDt(rs:List Row):WO (ltK rs) where
 asy:=λi j h=>by simp only[ltK,decide_eq_true_eq,decide_eq_false_iff_not]at h⊢;lia
 neg:=λi j k h=>by simp only[ltK,decide_eq_true_eq]at h⊢;lia
def ord(rs:List Row):List Nat:=if rs.length<2 then zQ rs.length else(Br (ltK rs) (PySem.W.kas_sort rs.length)).toList
theorem ZB0(rs:List Row):(ord rs).Perm (zQ rs.length):=by
 unfold ord;split
 ·exact .refl _
 ·exact(ZGD (ZDt rs) (by lia)).1
theorem Y9{k:Nat}(h:k∈ord rs):k<rs.length:=by have:=(ZB0 rs).mem_iff.mp h;simpa using this
theorem ZD1(rs:List Row):(ord rs).length=rs.length:=by rw[(ZB0 rs).length_eq];simp
theorem ZEJ{n:Nat}{lt lt':Nat->Nat->Bool}(h:∀i j,i<n->j<n->lt i j=lt' i j){P:α->Prop}:∀{t:PySem.W.KasT α},Safe n P t->Br lt t=Br lt' t
 |.ret _,_=>rfl
 |.ask i j k,hs=>by show Br lt (k (lt i j))=Br lt' (k (lt' i j));rw[h i j hs.1 hs.2.1];exact ZEJ h (hs.2.2 _)
def Eg(rs:List Row)(k:Nat):D:=.tup [.int (col Row.rank rs k),.int k]
theorem ZH3(i j:Nat):ltD (Eg rs i) (Eg rs j)=vF (ltK rs i j):=by
 have e:ltD (Eg rs i) (Eg rs j)=if col Row.rank rs i=col Row.rank rs j then(if(i:Int)=j then vF vI else vF (decide ((i:Int)<j)))else vF (decide (col Row.rank rs i<col Row.rank rs j)):=rfl
 rw[e];by_cases h:col Row.rank rs i=col Row.rank rs j
 ·rw[if_pos h];by_cases h2:(i:Int)=j
  ·rw[if_pos h2]
   congr 1
   simp only[ltK]
   symm
   simp only[decide_eq_false_iff_not];lia
  ·rw[if_neg h2]
   congr 1
   simp only[ltK];rw[decide_eq_decide];lia
 ·rw[if_neg h]
  congr 1
  simp only[ltK];rw[decide_eq_decide];lia
def G7(rs:List Row):List D:=(zQ rs.length).map (Eg rs)
theorem ZB6(h:i<rs.length):(G7 rs).getD i .non=Eg rs i:=by unfold G7;rw[zD,zx,zU h];rfl
theorem ZEO(rs:List Row):Jz (G7 rs)=(ord rs).map (Eg rs):=by
 have hl:(G7 rs).length=rs.length:=by simp[G7]
 unfold Jz ord;rw[hl];split
 ·rfl
 ·rename_i h;have e:Br (ltI (G7 rs)) (PySem.W.kas_sort rs.length)=Br (ltK rs) (PySem.W.kas_sort rs.length):=
   ZEJ (n:=rs.length) (λi j hi hj=>by unfold ltI;rw[ZB6 hi,ZB6 hj,ZH3];rfl) (ZOt (by lia))
  rw[e];refine qk λi hi=>?_
  have hp:=(ZGD (ZDt rs) (n:=rs.length) (by lia)).1;exact ZB6 (by simpa using hp.mem_iff.mp hi)
theorem ZLZ(rs:List Row):Mg (G7 rs)=vH:=by
 unfold Mg G7;rw[zE,jL];refine⟨.inl ?_,?_⟩
 ·rw[q8];intro x hx;obtain⟨i,_,rfl⟩:=zO.mp hx
  rfl
 ·rw[q8];intro x hx;rw[q8];intro y hy;obtain⟨i,_,rfl⟩:=zO.mp hx;obtain⟨j,_,rfl⟩:=zO.mp hy;rw[ZH3];rfl
@[simp]theorem ZJ9:bels m (ws.map (Eg rs))=vH:=Ec λ_ _=>by simp[Eg]
theorem ZOY(hl:rs.length<=40)(G:DH):U8 [.fl (rs.map Row.enc)] G=.ok (.ref G.length) (G++[.lst (Ar (ord rs))]):=by
 have he:∀j,Dp 0 (.fl (rs.map Row.enc)) j G=vF ((zQ rs.length).map λ(k:Nat)=>D.tup [.int (k:Int),Jm rs k])[j]? :=λj=>by
  rw[Vj,Dm,ZJk,List.zipIdx_map,qP]
  congr 2
  refine qN (by simp) λi h1 h2=>by simp
 let F:D->Option D:=λd=>match d with
  |.tup [.int k,.tup [_,_,_,.int r]]=>zT [.int r,.int k]
  |_=>vG
 have hc:Dc (Dp 0 (.fl (rs.map Row.enc))) (Ao 2 (Ae (gV 0) (Ae (gV 1) Ax))) Bd Wt (Ay 2 [] [zF (rs.map Row.enc),vG]) rs.length 0 G=.ok (G7 rs) G:=by
  rw[V4 (F:=F) he (λx hx=>?_) (by simp)]
  ·congr 1
   rw[qw];show(zQ rs.length).filterMap (λi=>vF (Eg rs i))=_;rw[qB]
   rfl
  ·obtain⟨i,_,rfl⟩:=zO.mp hx;refine⟨[zI i,vF (Jm rs i)],by simp[Ay],.inr ⟨rfl,Eg rs i,?_,rfl⟩⟩;unfold Wt;simp[Jm,Eg,An]
 let F2:D->Option D:=λd=>match d with
  |.tup [_,k]=>vF k
  |_=>vG
 have hc2:∀S,Ck (Ao 2 (Ae (gV 0) (Ae (gV 1) Ax))) Bd Z3 (Ay 2 [] S) ((ord rs).map (Eg rs)) G=.ok (Ar (ord rs)) G:=λS=>by
  rw[Su (F:=F2) (λx hx=>?_)]
  ·congr 1
   rw[qw];show(ord rs).filterMap (λ(i:Nat)=>zI (i:Int))=_;rw[qB]
   rfl
  ·obtain⟨i,_,rfl⟩:=zO.mp hx;refine⟨[zI (col Row.rank rs i),zI i],by simp[Ay,Eg],.inr ⟨rfl,.int i,?_,rfl⟩⟩;unfold Z3;simp
 have hkl:(G7 rs).length=rs.length:=by simp[G7]
 have hl2:rs.length<=1000000:=by lia
 have hs:∀G,Mf [.fl (G7 rs)] G=.ok (.ref G.length) (G++[.lst ((ord rs).map (Eg rs))]):=λG=>by have h1:Gs (.fl (G7 rs)) G=vF (G7 rs):=rfl;simp only[Mf,h1];rw[if_pos ⟨⟨by rw[hkl];lia,by rw[ZEO];simp[ZD1];lia⟩,ZLZ rs⟩,ZEO]
 have hbk:bels G.length (G7 rs)=vH:=ZJ9;have hol:=ZD1 rs;have hl3:(ord rs).length<=1000000:=by lia
 unfold U8 ZJT;rw[Aw];simp[hc,Ah,hkl,hl2,Dk,hbk,hs,hc2,hl3,Dr]
def wmin(P:Nat->Int):List Nat->Int
 |[]=>0
 |k::r=>(r.map P).foldl min (P k)
theorem Rm{b:Nat}(h:b∈ws):wmin P ws<=P b:=by
 cases ws with
 |nil=>cases h
 |cons k r=>
  obtain⟨h1,h2,_⟩:=Vk (r.map P) (P k);rcases zq.mp h with rfl|h
  ·exact h1
  ·exact h2 _ (zO.mpr ⟨b,h,rfl⟩)
theorem Wb(h:ws≠[]):∃b∈ws,wmin P ws=P b:=by
 cases ws with
 |nil=>exact absurd rfl h
 |cons k r=>
  obtain⟨_,_,h3⟩:=Vk (r.map P) (P k);rcases h3 with h3|h3
  ·exact⟨k,zW,h3⟩
  ·obtain⟨b,hb,e⟩:=zO.mp h3;exact⟨b,zZ _ hb,e.symm⟩
theorem ZQl{Q:Nat->Int}(h:∀b∈ws,P b=Q b):wmin P ws=wmin Q ws:=by
 cases ws with
 |nil=>rfl
 |cons k r=>
  have e:r.map P=r.map Q:=qk λb hb=>h b (zZ _ hb)
  show(r.map P).foldl min (P k)=(r.map Q).foldl min (Q k);rw[e,h k zW]
def Di(P:Nat->Int)(ws:List Nat)(t:Int):Nat->Int:=λi=>if i∈ws then P i-t else P i
def Vn(P:Nat->Int)(t:Int)(ws:List Nat):Nat->Int:=ws.foldl (λP b=>fset P b (P b-t)) P
theorem ZH4{t:Int}:∀{ws:List Nat}{P:Nat->Int},ws.Nodup->Vn P t ws=Di P ws t
 |[],P,_=>by funext i;simp[Vn,Di]
 |b::ws,P,h=>by
  obtain⟨h1,h2⟩:=qL.mp h;show Vn (fset P b (P b-t)) t ws=_;rw[ZH4 h2];funext i;by_cases e:i=b
  ·subst e;simp[Di,fset,h1]
  ·simp[Di,fset,e]
theorem ZJH(hR:Reach rs):∀(m k:Nat),rs.length<=m+k->k<rs.length->∀b∈way rs k,k<=b/\b<rs.length
 |0,k,h,hk,b,hb=>by lia
 | m+1,k,h,hk,b,hb=>by
  rw[Eo hR]at hb;rcases zq.mp hb with rfl|hb
  ·lia
  ·cases hd:Bj rs k with
   |none=>rw[hd]at hb;cases hb
   |some d=>
    have:=Gn hR hd;rw[hd]at hb;have:=ZJH hR m d (by lia) (by lia) b hb;lia
theorem Mw(hR:Reach rs){k b:Nat}(hk:k<rs.length)(hb:b∈way rs k):k<=b/\b<rs.length:=ZJH hR rs.length k (by lia) hk b hb
theorem ZGw(hR:Reach rs):∀(m k:Nat),rs.length<=m+k->(way rs k).Nodup
 |0,k,h=>by rw[Eo hR,Uc (by lia)];simp[Gm]
 | m+1,k,h=>by
  rw[Eo hR];cases hd:Bj rs k with
  |none=>simp[Gm]
  |some d=>
   have hlt:=Gn hR hd;refine qL.mpr ⟨λhm=>?_,ZGw hR m d (by lia)⟩;have:=Mw hR hlt.2 hm;lia
theorem ZK7(hR:Reach rs)(k:Nat):(way rs k).Nodup:=ZGw hR rs.length k (by lia)
theorem ZD6(hR:Reach rs):∀(m k:Nat),rs.length<=m+k->(way rs k).length<=m+1
 |0,k,h=>by rw[Eo hR,Uc (by lia)];simp[Gm]
 | m+1,k,h=>by
  rw[Eo hR];cases hd:Bj rs k with
  |none=>simp[Gm]
  |some d=>
   have hlt:=Gn hR hd;have:=ZD6 hR m d (by lia);show(way rs d).length+1<=_;lia
theorem ZPs(hR:Reach rs)(k:Nat):k∈way rs k:=by rw[Eo hR];exact zW
def take1(rs:List Row)(P:Nat->Int)(k:Nat):Int:=min (col Row.need rs k) (wmin P (way rs k))
def srv(rs:List Row):List Nat->(Nat->Int)->(Nat->Int)->(Nat->Int)×(Nat->Int)
 |[],P,T=>(P,T)
 |k::ks,P,T=>srv rs ks (Di P (way rs k) (take1 rs P k)) (fset T k (take1 rs P k))
def shr(rs:List Row):Nat->Int:=(srv rs (ord rs) (gath rs (col Row.water rs)) λ_=>0).2
def pD(P:Nat->Int)(ws:List Nat):List D:=ws.map λi=>D.int (P i)
@[simp]theorem ZVk:(pD P ws).length=ws.length:=by simp[pD]
@[simp]theorem ZSS:bels m (pD P ws)=vH:=Ec λ_ _=>rfl
theorem ZII{a b c d e:Option D}{t:Int}{A:DO}{G:DH}:∀(ws:List Nat)(P:Nat->Int)(x:Option D),(∀b∈ws,b<rs.length)->∃x',
  Aq (gV 6) R8 (Ar ws) [a,b,zR (G.length+1),c,d,zI t,x] (G++[A,.lst (tab rs.length P)])=.nx [a,b,zR (G.length+1),c,d,zI t,x'] (G++[A,.lst (tab rs.length (Vn P t ws))])
 |[],P,x,h=>⟨x,rfl⟩
 |w::ws,P,x,h=>by
  obtain⟨x',ih⟩:=ZII (a:=a) (b:=b) (c:=c) (d:=d) (e:=e) (t:=t) (A:=A) (G:=G) ws (fset P w (P w-t)) (zI w) λb hb=>h b (zZ _ hb)
  refine⟨x',?_⟩;have hw:=h w zW;have g0:(G++[A,DO.lst (tab rs.length P)])[G.length+1]?=vF (.lst (tab rs.length P)):=Tn _ 1;have hse:∀(L:DH)o,(G++L).set (G.length+1) o=G++L.set 1 o:=λL o=>ZCo L 1 o
  have hb:R8 [a,b,zR (G.length+1),c,d,zI t,zI w] (G++[A,.lst (tab rs.length P)])=.nx [a,b,zR (G.length+1),c,d,zI t,zI w] (G++[A,.lst (tab rs.length (fset P w (P w-t)))]):=by unfold R8;simp[Rg g0 (Dy hw),g0,hse,Hr,hw,Nf]
  show Aq _ _ (.int w::Ar ws) _ _=_;rw[Bu];simp only[Cg,R.Cd,qx,hb,Cq];exact ih
theorem ZGY{rs:List Row}(hR:Reach rs)(hl:rs.length<=40){G:DH}:∀(ks:List Nat)(P T:Nat->Int)(x y z w:Option D),(∀k∈ks,k<rs.length)->∃x' y' z' w',
  Aq (gV 3) Ov (Ar ks) [zF (rs.map Row.enc),zR G.length,zR (G.length+1),x,y,z,w] (G++[.lst (tab rs.length T),.lst (tab rs.length P)])=
   .nx [zF (rs.map Row.enc),zR G.length,zR (G.length+1),x',y',z',w'] (G++[.lst (tab rs.length (srv rs ks P T).2),.lst (tab rs.length (srv rs ks P T).1)])
 |[],P,T,x,y,z,w,h=>⟨x,y,z,w,rfl⟩
 | k::ks,P,T,x,y,z,w,h=>by
  have hk:=h k zW;have hwl:∀b∈way rs k,b<rs.length:=λb hb=>(Mw hR hk hb).2
  obtain⟨w1,hsub⟩:=ZII (rs:=rs) (a:=zF (rs.map Row.enc)) (b:=zR G.length) (c:=zI k) (d:=zF (Ar (way rs k))) (e:=vG) (t:=take1 rs P k) (A:=.lst (tab rs.length (fset T k (take1 rs P k)))) (G:=G) (way rs k) P w hwl;rw[ZH4 (ZK7 hR k)]at hsub;obtain⟨x',y',z',w',ih⟩:=ZGY hR hl (G:=G) ks (Di P (way rs k) (take1 rs P k)) (fset T k (take1 rs P k)) (zI k) (zF (Ar (way rs k))) (zI (take1 rs P k)) w1 λj hj=>h j (zZ _ hj)
  refine⟨x',y',z',w',?_⟩;have g0:(G++[DO.lst (tab rs.length T),DO.lst (tab rs.length P)])[G.length+1]?=vF (.lst (tab rs.length P)):=Tn _ 1;have hcomp:Ck (gV 0) Bd ZCx (Ay 1 [2] [zF (rs.map Row.enc),zR G.length,zR (G.length+1),zI k,zF (Ar (way rs k)),z,w]) (Ar (way rs k)) (G++[DO.lst (tab rs.length T),DO.lst (tab rs.length P)])=.ok (pD P (way rs k)) (G++[DO.lst (tab rs.length T),DO.lst (tab rs.length P)]):=by
   rw[Su (F:=λd=>match d with | .int i=>zI (P i.toNat)|_=>vG) (λq hq=>?_)]
   ·congr 1
    unfold Ar;rw[qw];show(way rs k).filterMap (λ(i:Nat)=>zI (P ((i:Int).toNat)))=_;rw[qB];simp[pD]
   ·obtain⟨i,hi,rfl⟩:=zO.mp hq;refine⟨[zI i,zR (G.length+1)],by simp[Ay],.inr ⟨rfl,.int (P i),?_,by simp⟩⟩;unfold ZCx;simp[g0,Dy (hwl i hi)]
  have hwn:(way rs k).length<=1000000:=by have h1:=ZD6 hR rs.length k (by lia);lia
  have hmin:∀G,Hi [.fl (pD P (way rs k))] G=.ok (.int (wmin P (way rs k))) G:=λG=>by rw[Eo hR];exact ZIR (n:=P k) (ns:=(Gm rs (Bj rs k)).map P) (by simp[pD])
  have hfr:freeze (G++[DO.lst (tab rs.length T),DO.lst (tab rs.length P)]) (.ok (.ref (G.length+2)) (G++[DO.lst (tab rs.length T),DO.lst (tab rs.length P),.lst (pD P (way rs k))]))=.ok (.fl (pD P (way rs k))) (G++[DO.lst (tab rs.length T),DO.lst (tab rs.length P)]):=ZCc ZSS;have hfw:freeze (G++[DO.lst (tab rs.length T),DO.lst (tab rs.length P)]) (.ok (.ref (G.length+2)) (G++[DO.lst (tab rs.length T),DO.lst (tab rs.length P),.lst (Ar (way rs k))]))=.ok (.fl (Ar (way rs k))) (G++[DO.lst (tab rs.length T),DO.lst (tab rs.length P)]):=ZCc ZHp
  have hb:Ov [zF (rs.map Row.enc),zR G.length,zR (G.length+1),zI k,y,z,w] (G++[.lst (tab rs.length T),.lst (tab rs.length P)])=
    .nx [zF (rs.map Row.enc),zR G.length,zR (G.length+1),zI k,zF (Ar (way rs k)),zI (take1 rs P k),w1] (G++[.lst (tab rs.length (fset T k (take1 rs P k))),.lst (tab rs.length (Di P (way rs k) (take1 rs P k)))]):=by
   unfold Ov;have ht1:min (col Row.need rs k) (wmin P (way rs k))=take1 rs P k:=rfl;simp[ZR7 hR hl hk,hfw,Y0 hk,hcomp,Ah,hwn,hfr,hmin,ht1,Cw,Dz,Hr,hk,Nf,hsub]
  show Aq _ _ (.int k::Ar ks) _ _=_;rw[Bu];simp only[Cg,R.Cd,qx,hb,Cq];exact ih
theorem ZNd(hR:Reach rs)(hl:rs.length<=40)(G:DH):Tw [.fl (rs.map Row.enc)] G=.ok (.ref G.length) (G++[.lst (tab rs.length (shr rs))]):=by
 have hz:zV rs.length (D.int 0)=tab rs.length λ_=>0:=by unfold tab;refine qN (by simp) λi h1 h2=>by simp
 have hrep:Ik (.ref G.length) (.int (rs.length:Int)) (G++[.lst [.int 0]])=.ok (.ref (G.length+1)) (G++[.lst [.int 0],.lst (tab rs.length λ_=>0)]):=by rw[ZJs (d:=.int 0) (by rw[Cw];rfl) (by lia),hz];simp
 have ht1:tidy G (.ok (.ref (G.length+1)) (G++[.lst [.int 0],.lst (tab rs.length λ_=>0)]))=.ok (.ref G.length) (G++[.lst (tab rs.length λ_=>0)]):=ZBG _ (k:=1) rfl Hc;have hp:Ms [.fl (rs.map Row.enc),.ref G.length] (G++[.lst (tab rs.length λ_=>0)])=.ok (.ref (G.length+1)) (G++[.lst (tab rs.length λ_=>0),.lst (tab rs.length (gath rs (col Row.water rs)))]):=by rw[ZHg hR hl (T:=λ_=>0) (ZTr (by rw[Cw];rfl))];simp
 have ht2:tidy (G++[.lst (tab rs.length λ_=>0)]) (.ok (.ref (G.length+1)) (G++[.lst (tab rs.length λ_=>0),.lst (tab rs.length (gath rs (col Row.water rs)))]))=.ok (.ref (G.length+1)) (G++[.lst (tab rs.length λ_=>0),.lst (tab rs.length (gath rs (col Row.water rs)))]):=ZIe Hc;have hfs:freeze (G++[.lst (tab rs.length λ_=>0),.lst (tab rs.length (gath rs (col Row.water rs)))]) (.ok (.ref (G.length+2)) (G++[.lst (tab rs.length λ_=>0),.lst (tab rs.length (gath rs (col Row.water rs))),.lst (Ar (ord rs))]))=.ok (.fl (Ar (ord rs))) (G++[.lst (tab rs.length λ_=>0),.lst (tab rs.length (gath rs (col Row.water rs)))]):=ZCc ZHp
 obtain⟨x',y',z',w',hL⟩:=ZGY hR hl (G:=G) (ord rs) (gath rs (col Row.water rs)) (λ_=>0) vG vG vG vG λk hk=>Y9 hk
 have hfin:∀A,tidy G (.ok (.ref G.length) (G++[.lst (tab rs.length (shr rs)),A]))=.ok (.ref G.length) (G++[.lst (tab rs.length (shr rs))]):=λA=>Dr Hc
 have hL':Aq (gV 3) Ov (Ar (ord rs)) [zF (rs.map Row.enc),zR G.length,zR (G.length+1),vG,vG,vG,vG] (G++[.lst (tab rs.length λ_=>0),.lst (tab rs.length (gath rs (col Row.water rs)))])=
   .nx [zF (rs.map Row.enc),zR G.length,zR (G.length+1),x',y',z',w'] (G++[.lst (tab rs.length (shr rs)),.lst (tab rs.length (srv rs (ord rs) (gath rs (col Row.water rs)) λ_=>0).1)]):=hL
 unfold Tw ZFj;rw[Aw];simp[Ah,hrep,ht1,hp,ht2,ZOY hl,hfs,hL',hfin]
def ind(t:Int)(ws:List Nat):Nat->Int:=λi=>if i∈ws then t else 0
theorem Yn(hR:Reach rs){k:Nat}{t:Int}:∀(m j:Nat)(A:Nat->Int),k<j->gat rs m j (λi=>A i+ind t [k] i)=λi=>gat rs m j A i+ind t [k] i
 |0,j,A,h=>rfl
 | m+1,j,A,h=>by
  unfold gat;have e:gstep (λi=>A i+ind t [k] i) j (Bj rs j)=λi=>gstep A j (Bj rs j) i+ind t [k] i:=by
   cases hd:Bj rs j with
   |none=>rfl
   |some d=>
    have:=Gn hR hd;funext i;simp only[gstep,fset,ind,qH];have h1:j≠k:=by lia
    have h2:d≠k:=by lia
    by_cases hi:i=d
    ·subst hi;simp[h1,h2]
    ·simp[hi]
  rw[e,Yn hR m (j+1) _ (by lia)]
theorem Ru(hR:Reach rs){t:Int}:∀(m j k:Nat)(A:Nat->Int),j+m=rs.length->j<=k->k<rs.length->gat rs m j (λi=>A i+ind t [k] i)=λi=>gat rs m j A i+ind t (way rs k) i
 |0,j,k,A,h,h1,h2=>by lia
 | m + 1,j,k,A,h,h1,h2=>by
  unfold gat;by_cases hjk:j<k
  ·have e:gstep (λi=>A i+ind t [k] i) j (Bj rs j)=λi=>gstep A j (Bj rs j) i+ind t [k] i:=by
    cases hd:Bj rs j with
    |none=>rfl
    |some d=>
     funext i;simp only[gstep,fset,ind,qH];have h3:j≠k:=by lia
     by_cases hi:i=d
     ·subst hi;simp[h3];split <;> lia
     ·simp[hi]
   rw[e,Ru hR m (j+1) k _ (by lia) (by lia) h2]
  ·have ej:j=k:=by lia
   subst ej;cases hd:Bj rs j with
   |none=>
    have hw:way rs j=[j]:=by rw[Eo hR,hd];rfl
    show gat rs m (j+1) (λi=>A i+ind t [j] i)=_;rw[Yn hR m (j+1) A (by lia),hw]
    rfl
   | some d=>
    have hlt:=Gn hR hd;have hw:way rs j=j::way rs d:=by rw[Eo hR,hd];rfl
    have e:gstep (λi=>A i+ind t [j] i) j (vF d)=λi=>(gstep A j (vF d) i+ind t [d] i)+ind t [j] i:=by
     funext i;simp only[gstep,fset,ind,qH];have h3:d≠j:=by lia
     by_cases hi:i=d
     ·subst hi;simp[h3];lia
     ·simp[hi]
    rw[e,Yn hR m (j+1) _ (by lia),Ru hR m (j+1) d _ (by lia) (by lia) hlt.2];funext i;have hnj:j∉way rs d:=λhm=>by have:=Mw hR hlt.2 hm;lia
    simp only[ind,hw,zq,qH];by_cases hi:i=j
    ·subst hi;simp[hnj]
    ·simp[hi]
theorem ZPb(hR:Reach rs){k:Nat}{t:Int}(hk:k<rs.length)(h0:T k=0):gath rs (λi=>W i-fset T k t i)=Di (gath rs λi=>W i-T i) (way rs k) t:=by
 have e:(λi=>W i-fset T k t i)=λi=>(W i-T i)+ind (-t) [k] i:=by
  funext i;simp only[fset,ind,qH];by_cases hi:i=k
  ·subst hi;simp[h0];lia
  ·simp[hi]
 rw[e];show gat rs rs.length 0 _=_;rw[Ru hR rs.length 0 k _ (by lia) (by lia) hk];funext i;simp only[ind,Di,gath]
 split <;> lia
theorem We:∀(m k:Nat)(F:Nat->Int),(∀i,0<=F i)->∀i,0<=gat rs m k F i
 |0,k,F,h,i=>h i
 | m+1,k,F,h,i=>by
  refine We m (k+1) _ (λj=>?_) i;cases Bj rs k with
  |none=>exact h j
  |some d=>
   simp only[gstep,fset];have:=h d;have:=h k;have:=h j
   split <;> lia
structure SI (rs:List Row) (P T:Nat->Int):Prop where
 pg:P=gath rs λi=>col Row.water rs i-T i
 t0:∀i,0<=T i
 tn:∀i,T i<=col Row.need rs i
 p0:∀i,i<rs.length->0<=P i
theorem ZDa(h:∀b∈ws,0<=P b):0<=wmin P ws:=by
 cases ws with
 |nil=>exact zL _
 |cons k r=>
  obtain⟨b,hb,e⟩:=Wb (P:=P) (ws:=k::r) (by simp);rw[e];exact h b hb
theorem SI.take(hR:Reach rs)(s:SI rs P T){k:Nat}(hk:k<rs.length):0<=take1 rs P k/\take1 rs P k<=col Row.need rs k/\∀b∈way rs k,take1 rs P k<=P b:=by
 have h1:0<=wmin P (way rs k):=ZDa λb hb=>s.p0 b (Mw hR hk hb).2
 have h2:=hR.need k;unfold take1;refine⟨by lia,by lia,λb hb=>?_⟩;have:=Rm (P:=P) hb;lia
theorem SI.step(hR:Reach rs)(s:SI rs P T){k:Nat}(hk:k<rs.length)(h0:T k=0):SI rs (Di P (way rs k) (take1 rs P k)) (fset T k (take1 rs P k)):=by
 obtain⟨a,b,c⟩:=s.take hR hk;refine⟨?_,λi=>?_,λi=>?_,λi hi=>?_⟩
 ·rw[ZPb hR hk h0,<-s.pg]
 ·simp only[fset];split
  ·exact a
  ·exact s.t0 i
 ·simp only[fset];split
  ·rename_i e;rw[e];exact b
  ·exact s.tn i
 ·simp only[Di];split
  ·rename_i hm;have:=c i hm;lia
  ·exact s.p0 i hi
theorem SI.run(hR:Reach rs):∀(ks:List Nat)(P T:Nat->Int),SI rs P T->ks.Nodup->(∀k∈ks,k<rs.length/\T k=0)->SI rs (srv rs ks P T).1 (srv rs ks P T).2
 |[],P,T,s,_,_=>s
 |k::ks,P,T,s,nd,h=>by
  obtain⟨n1,n2⟩:=qL.mp nd;obtain⟨hk,h0⟩:=h k zW;refine SI.run hR ks _ _ (s.step hR hk h0) n2 λj hj=>?_
  obtain⟨hj1,hj2⟩:=h j (zZ _ hj);have:j≠k:=λe=>n1 (e▸hj)
  exact⟨hj1,by simp[fset,this,hj2]⟩
theorem ZIY(rs:List Row):(ord rs).Nodup:=(ZB0 rs).nodup_iff.mpr List.nodup_range
theorem SI.first(hR:Reach rs):SI rs (gath rs (col Row.water rs)) λ_=>0:=
 ⟨by simp,λ_=>zL _,hR.need,λi _=>We _ _ _ hR.water i⟩
theorem Qs(hR:Reach rs):SI rs (srv rs (ord rs) (gath rs (col Row.water rs)) λ_=>0).1 (shr rs):=
 SI.run hR (ord rs) _ _ (SI.first hR) (ZIY rs) λk hk=>⟨Y9 hk,rfl⟩
theorem rp:¬(("pump":Str)="river"):=by decide
theorem pr:¬(("river":Str)="pump"):=by decide
structure Stp where
 h:Int
 m:Int
 r:Bool
variable{st:List Stp}
def wy(r:Bool):Str:=if r then "river" else "pump"
def Stp.enc(s:Stp):D:=.tup [.int s.h,.int s.m,.str (wy s.r)]
@[simp]theorem ZVp{n:Nat}:bels n (st.map Stp.enc)=vH:=Ec λs _=>by simp[Stp.enc]
@[simp]theorem ZV9{r:Bool}:(wy r="river")=(r=vH):=by
 cases r
 ·exact propext ⟨λh=>absurd h rp,λh=>by cases h⟩
 ·exact propext ⟨λh=>rfl,λ_=>rfl⟩
@[simp]theorem ZVZ{r:Bool}:(wy r="pump")=(r=vI):=by
 cases r
 ·exact propext ⟨λh=>rfl,λ_=>rfl⟩
 ·exact propext ⟨λh=>absurd h pr,λh=>by cases h⟩
abbrev Ssn:=Int×List Stp
def Bp(s:Ssn):D:=.tup [.int s.1,.tup (s.2.map Stp.enc)]
@[simp]theorem ZV0{n:Nat}{ss:List Ssn}:bels n (ss.map Bp)=vH:=Ec λs _=>by simp[Bp]
def held(t:Int):List Ssn->List Stp->List Stp
 |[],h=>h
 |s::r,h=>held t r (if s.1<=t then s.2 else h)
theorem ZJn{c:D}{t:Int}{G:DH}:∀{ss:List Ssn}{h:List Stp}{a b:Option D},∃a' b',Aq (Ao 2 (Ae (gV 3) (Ae (gV 4) Ax))) T8 (ss.map Bp) [vF c,zI t,zT (h.map Stp.enc),a,b] G=
  .nx [vF c,zI t,zT ((held t ss h).map Stp.enc),a',b'] G
 |[],h,a,b=>⟨a,b,by rw[jN,Cm];rfl⟩
 | s::r,h,a,b=>by
  obtain⟨a',b',ih⟩:=ZJn (c:=c) (t:=t) (G:=G) (ss:=r) (h:=if s.1<=t then s.2 else h) (a:=zI s.1) (b:=zT (s.2.map Stp.enc));refine⟨a',b',?_⟩;have hb:T8 [vF c,zI t,zT (h.map Stp.enc),zI s.1,zT (s.2.map Stp.enc)] G=.nx [vF c,zI t,zT ((if s.1<=t then s.2 else h).map Stp.enc),zI s.1,zT (s.2.map Stp.enc)] G:=by
   unfold T8
   by_cases h1:s.1<=t<;>simp[h1]
  rw[zk,Bu];simp only[Bp,N8,N7,Mi,Cg,R.Hk,R.Cd,qx,hb,Cq,qQ,jK,Nat.reduceAdd,if_true];exact ih
theorem c_at{ss:List Ssn}{t:Int}:Va [.tup (ss.map Bp),.int t] G=.ok (.tup ((held t ss []).map Stp.enc)) G:=by obtain⟨a,b,h⟩:=ZJn (c:=.tup (ss.map Bp)) (t:=t) (G:=G) (ss:=ss) (h:=[]) (a:=vG) (b:=vG);unfold Va ZDI;rw[Aw];simp at h;simp[h,Be]
def cub(w:Int)(s:Stp):Int:=max 0 (min s.m (w-s.h))
def rv(w:Int):List Stp->Int
 |[]=>0
 |s::r=>(if s.r then cub w s else 0)+rv w r
def pm(w:Int):List Stp->Int
 |[]=>0
 |s::r=>(if s.r then 0 else cub w s)+pm w r
theorem ZJl{c:D}{w:Int}{G:DH}:∀{st:List Stp}{a b:Int}{e f g h:Option D},∃e' f' g' h',Aq (Ao 3 (Ae (gV 4) (Ae (gV 5) (Ae (gV 6) Ax)))) Qm (st.map Stp.enc) [vF c,zI w,zI a,zI b,e,f,g,h] G=
  .nx [vF c,zI w,zI (a+rv w st),zI (b+pm w st),e',f',g',h'] G
 |[],a,b,e,f,g,h=>⟨e,f,g,h,by simp[Cm,rv,pm]⟩
 | s::r,a,b,e,f,g,h=>by
  obtain⟨e',f',g',h',ih⟩:=ZJl (c:=c) (w:=w) (G:=G) (st:=r) (a:=a+(if s.r then cub w s else 0)) (b:=b+(if s.r then 0 else cub w s)) (e:=zI s.h) (f:=zI s.m) (g:=zS (wy s.r)) (h:=zI (cub w s));refine⟨e',f',g',h',?_⟩;have hb:Qm [vF c,zI w,zI a,zI b,zI s.h,zI s.m,zS (wy s.r),h] G=.nx [vF c,zI w,zI (a+(if s.r then cub w s else 0)),zI (b+(if s.r then 0 else cub w s)),zI s.h,zI s.m,zS (wy s.r),zI (cub w s)] G:=by
   unfold Qm cub
   cases s.r<;>simp
  rw[zk,Bu];simp[Stp.enc,hb];rw[ih];simp[rv,pm,Int.add_assoc]
theorem ZFU:R9 [.tup (st.map Stp.enc),.int w] G=.ok (.tup [.int (rv w st),.int (pm w st),.int (w-rv w st-pm w st)]) G:=by obtain⟨e,f,g,h,hl⟩:=ZJl (c:=.tup (st.map Stp.enc)) (w:=w) (G:=G) (st:=st) (a:=0) (b:=0) (e:=vG) (f:=vG) (g:=vG) (h:=vG);unfold R9 ZHr;rw[Aw];simp at hl;simp[hl,Be]
inductive Kd where
 |basin (brim:Int) (rule:List Ssn) (pump:Option (Nat×Nat×Int))
 |town (need rank:Int)
 |mill (most:Int)
structure Pl where
 nm:Str
 dn:Option Nat
 dl:Nat
 kd:Kd
def Xq:Pl:=⟨"",vG,0,.mill 0⟩
structure Hs where
 yr:Int
 ps:List Pl
variable{h:Hs}
def Kd.txt:Kd->Str
 |.basin ..=>"basin"
 |.town ..=>"town"
 |.mill ..=>"mill"
def Kd.isB:Kd->Bool
 |.basin ..=>vH
 |_=>vI
def Kd.isT:Kd->Bool
 |.town ..=>vH
 |_=>vI
def Hs.pl(h:Hs)(k:Nat):Pl:=h.ps.getD k Xq
def Hs.n(h:Hs):Nat:=h.ps.length
def Hs.dnT(h:Hs):Option Nat->Str
 |none=>"sea"
 |some d=>(h.pl d).nm
def Hs.Lr(h:Hs):Option (Nat×Nat×Int)->D
 |none=>.non
 |some (to,dl,m)=>.tup [.str (h.pl to).nm,.int dl,.int m]
def Hs.encP(h:Hs)(p:Pl):D:=match p.kd with
 |.basin b r q=>.tup [.str "basin",.str p.nm,.str (h.dnT p.dn),.int p.dl,.int b,.tup (r.map Bp),h.Lr q]
 |.town a b=>.tup [.str "town",.str p.nm,.str (h.dnT p.dn),.int p.dl,.int a,.int b]
 |.mill a=>.tup [.str "mill",.str p.nm,.str (h.dnT p.dn),.int p.dl,.int a]
def Hs.Ci(h:Hs):List D:=h.ps.map h.encP
def Hs.enc(h:Hs):D:=.tup [.int h.yr,.tup h.Ci]
def Good:Int->List Stp->Prop
 |_,[]=>True
 |t,s::r=>t<=s.h/\1<=s.m/\Good (s.h+s.m) r
structure GoodH (h:Hs):Prop where
 yr:0<h.yr
 len:h.n<=12
 inj:∀i j,i<h.n->j<h.n->(h.pl i).nm=(h.pl j).nm->i=j
 sea:∀i,i<h.n->(h.pl i).nm≠"sea"
 dn:∀k d,k<h.n->(h.pl k).dn=vF d->k<d/\d<h.n
 dl:∀k,k<h.n->(h.pl k).dl<=5
 pump:∀k b r to dl m,k<h.n->(h.pl k).kd=.basin b r (vF (to,dl,m))->to<h.n/\1<=dl/\dl<=5
 brim:∀k b r q,k<h.n->(h.pl k).kd=.basin b r q->0<=b/\∀s∈r,Good 0 s.2
 town:∀k a b,k<h.n->(h.pl k).kd=.town a b->0<=a/\0<=b
theorem Hs.Hu:h.Ci.length=h.n:=by simp[Hs.Ci,Hs.n]
theorem Hs.ZHS{k:Nat}(hk:k<h.n):h.Ci[k]?=vF (h.encP (h.pl k)):=by unfold Hs.Ci Hs.pl;rw[zx,zX hk];simp[zD,zX hk]
theorem Hs.Eb{k:Nat}(hk:k<h.n):atI h.Ci (k:Int)=vF (h.encP (h.pl k)):=Dg rfl (Hs.ZHS hk)
theorem Hs.ZKw{n:Nat}:bel n (h.Lr q)=vH:=by
 cases q with
 |none=>rfl
 |some x=>obtain⟨a,b,c⟩:=x;simp[Hs.Lr]
@[simp]theorem Hs.ZRf{n:Nat}{p:Pl}:bel n (h.encP p)=vH:=by
 unfold Hs.encP
 cases p.kd<;>simp[Hs.ZKw]
@[simp]theorem Hs.ZV6{n:Nat}:bels n h.Ci=vH:=Ec λ_ _=>Hs.ZRf
section
variable{h:Hs}{p:Pl}{G:DH}
@[simp]theorem encP0:Ad (h.encP p) (.int 0) G=.ok (.str p.kd.txt) G:=by
 unfold Hs.encP
 cases p.kd<;>simp[Kd.txt]
@[simp]theorem encP1:Ad (h.encP p) (.int 1) G=.ok (.str p.nm) G:=by
 unfold Hs.encP
 cases p.kd<;>simp
@[simp]theorem encP2:Ad (h.encP p) (.int 2) G=.ok (.str (h.dnT p.dn)) G:=by
 unfold Hs.encP
 cases p.kd<;>simp
@[simp]theorem encP3:Ad (h.encP p) (.int 3) G=.ok (.int p.dl) G:=by
 unfold Hs.encP
 cases p.kd<;>simp
theorem Cp:Ad h.enc (.int 1) G=.ok (.tup h.Ci) G:=by unfold Hs.enc;simp
theorem ZTK:Ad h.enc (.int 0) G=.ok (.int h.yr) G:=by unfold Hs.enc;simp
theorem Gu{k:Kd}:(k.txt="basin")=(k.isB=vH):=by cases k<;>simp[Kd.txt,Kd.isB]<;>decide
theorem Qu{k:Kd}:(k.txt="town")=(k.isT=vH):=by cases k<;>simp[Kd.txt,Kd.isT]<;>decide
end
theorem ZE4(g:GoodH h)(hd:d<h.n):∀(m k:Nat)(a b:Option D),k+m=d->
  Aq (Ao 2 (Ae (gV 2) (Ae (gV 3) Ax))) M7 ((Dm h.Ci).drop k) [vF h.enc,zS (h.pl d).nm,a,b] G=.rt (.int d) G
 | m,k,a,b,e=>by
  have hk:k<h.n:=by lia
  have e0:(Dm h.Ci).drop k=.tup [.int k,h.encP (h.pl k)]::(Dm h.Ci).drop (k+1):=by rw[qZ (by rw[Ir,Hs.Hu];exact hk)];have:=Hs.ZHS hk;rw[zX (by rw[Hs.Hu];exact hk)]at this;have e2:=Option.some.inj this;simp[Dm,e2]
  rw[e0,Bu];cases m with
  |zero=>
   have e1:k=d:=by lia
   subst e1;have hb:M7 [vF h.enc,zS (h.pl k).nm,zI k,vF (h.encP (h.pl k))] G=.rt (.int k) G:=by unfold M7;simp
   simp[hb]
  |succ m=>
   have hne:(h.pl k).nm≠(h.pl d).nm:=λz=>by have:=g.inj k d hk hd z;lia
   have hb:M7 [vF h.enc,zS (h.pl d).nm,zI k,vF (h.encP (h.pl k))] G=.nx [vF h.enc,zS (h.pl d).nm,zI k,vF (h.encP (h.pl k))] G:=by unfold M7;simp[hne]
   simp[hb];exact ZE4 g hd m (k+1) _ _ (by lia)
theorem ZHk(g:GoodH h)(hd:d<h.n)(G:DH):O9 [h.enc,.str (h.pl d).nm] G=.ok (.int d) G:=by have hL:=ZE4 g hd (G:=G) d 0 vG vG (by lia);rw[xq]at hL;unfold O9 ZEd;rw[Aw];simp[Cp,Ey,Iw,lenOf,hL,Be]
def Hs.dn(h:Hs)(k:Nat):Option Nat:=(h.pl k).dn
theorem Ka(g:GoodH h){k:Nat}(hk:k<h.n)(G:DH):Q7 [h.enc,.int k] G=.ok (dnD (h.dn k)) G:=by
 unfold Q7 ZGQ;rw[Aw];cases hd:h.dn k with
 |none=>
  have e:(h.pl k).dn=vG:=hd;simp[Cp,Hs.Eb hk,e,Hs.dnT,dnD,Be]
 |some d=>
  have e:(h.pl k).dn=vF d:=hd;have hl:=g.dn k d hk e;simp[Cp,Hs.Eb hk,e,Hs.dnT,g.sea d hl.2,ZHk g hl.2,dnD,Be]
def Hs.dir(h:Hs)(k:Nat):Option Nat:=match h.dn k with
 |none=>vG
 |some d=>if 0<(h.pl k).dl∨(h.pl k).kd.isB=vH∨(h.pl d).kd.isB=vH then vG else vF d
theorem Nt(g:GoodH h){k:Nat}(hk:k<h.n)(G:DH):O5 [h.enc,.int k] G=.ok (dnD (h.dir k)) G:=by
 unfold O5 ZHG;rw[Aw];cases hd:h.dn k with
 |none=>simp[Cp,Ka g hk,hd,Hs.dir,dnD,Be]
 | some d=>
  have hl:=g.dn k d hk hd;by_cases h1:0<(h.pl k).dl
  ·simp[Cp,Ka g hk,hd,Hs.dir,dnD,Be,Hs.Eb hk,h1]
  ·by_cases h2:(h.pl k).kd.isB=vH
   ·simp[Cp,Ka g hk,hd,Hs.dir,dnD,Be,Hs.Eb hk,h1,Gu,h2]
   ·by_cases h3:(h.pl d).kd.isB=vH
    ·simp[Cp,Ka g hk,hd,Hs.dir,dnD,Be,Hs.Eb hk,Hs.Eb hl.2,h1,Gu,h2,h3]
    ·simp[Cp,Ka g hk,hd,Hs.dir,dnD,Be,Hs.Eb hk,Hs.Eb hl.2,h1,Gu,h2,h3]
theorem ZQH(g:GoodH h){k:Nat}(hk:k<h.n)(e:h.dir k=vF d):k<d/\d<h.n:=by
 unfold Hs.dir at e;cases hd:h.dn k with
 |none=>rw[hd]at e;cases e
 |some d'=>
  rw[hd]at e;simp only at e;split at e
  ·cases e
  ·cases e;exact g.dn k d hk hd
theorem ZSE{k:Nat}(hk:¬k<h.n):h.pl k=Xq:=by
 unfold Hs.pl;rw[zD,z0 (by unfold Hs.n at hk;lia)]
 rfl
theorem M4{k:Nat}(hk:¬k<h.n):h.dir k=vG:=by
 have e:h.dn k=vG:=by unfold Hs.dn;rw[ZSE hk];rfl
 unfold Hs.dir;rw[e]
theorem Jv(g:GoodH h){k:Nat}(e:h.dir k=vF d):k<d/\d<h.n/\k<h.n:=by
 by_cases hk:k<h.n
 ·have:=ZQH g hk e;lia
 ·rw[M4 hk]at e;cases e
def Hs.Ig(h:Hs):Nat->Nat->Nat
 |0,k=>k
 |m+1,k=>match h.dir k with
  |none=>k
  |some d=>h.Ig m d
def Hs.last(h:Hs)(k:Nat):Nat:=h.Ig h.n k
theorem ZCD(g:GoodH h):∀(m m' k:Nat),h.n<=m+k->h.n<=m'+k->h.Ig m k=h.Ig m' k
 |0,m',k,e,e'=>by
  have hn:h.dir k=vG:=M4 (by lia);cases m' with
  |zero=>rfl
  |succ m'=>simp[Hs.Ig,hn]
 |m+1,0,k,e,e'=>by have hn:h.dir k=vG:=M4 (by lia);simp[Hs.Ig,hn]
 | m+1,m'+1,k,e,e'=>by
  cases hd:h.dir k with
  |none=>simp[Hs.Ig,hd]
  |some d=>
   have:=Jv g hd;simp[Hs.Ig,hd,ZCD g m m' d (by lia) (by lia)]
theorem Ha(g:GoodH h){k:Nat}(e:h.dir k=vG):h.last k=k:=by unfold Hs.last;rw[ZCD g h.n (h.n+1) k (by lia) (by lia)];simp[Hs.Ig,e]
theorem Lx(g:GoodH h){k:Nat}(e:h.dir k=vF d):h.last k=h.last d:=by unfold Hs.last;rw[ZCD g h.n (h.n+1) k (by lia) (by lia)];simp[Hs.Ig,e]
theorem ZDi(g:GoodH h):∀(m k:Nat),h.n<=m+k->k<=h.last k/\(k<h.n->h.last k<h.n)
 |0,k,e=>by rw[Ha g (M4 (by lia))];lia
 | m+1,k,e=>by
  cases hd:h.dir k with
  |none=>rw[Ha g hd];lia
  |some d=>
   have:=Jv g hd;rw[Lx g hd];have:=ZDi g m d (by lia);lia
theorem I8(g:GoodH h)(k:Nat):k<=h.last k/\(k<h.n->h.last k<h.n):=ZDi g h.n k (by lia)
def Hs.Ff(h:Hs)(j:Nat):Nat->Int:=λi=>if j<=i then h.last i else i
theorem ZGG(g:GoodH h){G:DH}:∀(j:Nat)(x y:Option D),j<=h.n->∃x' y',
  Aq (gV 2) Qq (Jb ((j:Int)-1) j) [vF h.enc,zR G.length,x,y] (G++[.lst (tab h.n (h.Ff j))])=.nx [vF h.enc,zR G.length,x',y'] (G++[.lst (tab h.n (h.Ff 0))])
 |0,x,y,e=>⟨x,y,by rw[ZQD,Cm]⟩
 | j + 1,x,y,e=>by
  have hj:j<h.n:=by lia
  obtain⟨x',y',ih⟩:=ZGG g (G:=G) j (zI j) (vF (dnD (h.dir j))) (by lia);refine⟨x',y',?_⟩;have e1:(((j+1:Nat):Int)-1)=j:=by lia
  have hb:Qq [vF h.enc,zR G.length,zI j,y] (G++[.lst (tab h.n (h.Ff (j+1)))])=.nx [vF h.enc,zR G.length,zI j,vF (dnD (h.dir j))] (G++[.lst (tab h.n (h.Ff j))]):=by
   unfold Qq;cases hd:h.dir j with
   | none=>
    have et:tab h.n (h.Ff (j+1))=tab h.n (h.Ff j):=ZEr λi hi=>by
     unfold Hs.Ff;by_cases e2:i=j
     ·subst e2;rw[Ha g hd];simp
     ·by_cases e3:j<=i
      ·rw[if_pos e3,if_pos (by lia)]
      ·rw[if_neg e3,if_neg (by lia)]
    simp[Nt g hj,hd,dnD,et]
   | some d=>
    have hl:=Jv g hd;have et:tab h.n (fset (h.Ff (j+1)) j (h.Ff (j+1) d))=tab h.n (h.Ff j):=ZEr λi hi=>by
     unfold Hs.Ff fset;by_cases e2:i=j
     ·subst e2;rw[if_pos rfl,if_pos (by lia),if_pos (by lia),Lx g hd]
     ·rw[if_neg e2];dsimp only;by_cases e3:j<=i
      ·rw[if_pos e3,if_pos (by lia)]
      ·rw[if_neg e3,if_neg (by lia)]
    simp[Nt g hj,hd,dnD,Cw,Dy hl.2.1,Dz,Hr,hj,Nf,et]
  rw[e1,ZO8,Bu];simp only[Cg,R.Cd,qx,hb,Cq];exact ih
theorem ZME(g:GoodH h)(G:DH):Rr [h.enc] G=.ok (.ref G.length) (G++[.lst (tab h.n λi=>(h.last i:Int))]):=by
 obtain⟨x',y',hL⟩:=ZGG g (G:=G) h.n vG vG (zK _);have e0:tab h.n (h.Ff h.n)=Bh 0 h.n:=by
  unfold tab Bh;refine qk λi hi=>?_
  have:=qz.mp hi;unfold Hs.Ff;rw[if_neg (by lia)];simp
 have e1:h.Ff 0=λi=>(h.last i:Int):=by funext i;unfold Hs.Ff;simp
 rw[e0,e1]at hL;have hn:=g.len;have r1:inR (h.n:Int):=Ed (by lia) (by lia);have r2:inR ((h.n:Int)-1):=Ed (by lia) (by lia);have r3:inR (-1):=Ed (by lia) (by lia);have e2:((h.n:Int)-1 - -1).toNat=h.n:=by lia
 have h6:(h.n:Int)<=1000000:=by lia
 have ebr:bels G.length (Bh 0 h.n)=vH:=Ec λ_ _=>rfl
 unfold Rr ZHx;rw[Aw];simp[Cp,Hs.Hu,r1,h6,Dr ebr,r2,r3,ZQy,e2,hL,Dr]
def Hs.mem(h:Hs)(m:Nat):List Nat:=(zQ h.n).filter λk=>decide (h.last k=m)
theorem mem_iff{k:Nat}:k∈h.mem m↔k<h.n/\h.last k=m:=by unfold Hs.mem;rw[List.mem_filter,qz];simp
theorem R3:(h.mem m).Pairwise (· < ·):=List.Pairwise.filter _ List.pairwise_lt_range
theorem ZF8:(h.mem m).length<=h.n:=by have:=List.length_filter_le (λk=>decide (h.last k=m)) (zQ h.n);simpa[Hs.mem]using this
theorem ZKq(hs:ms.Pairwise (· < ·))(hi:i<ms.length)(hj:j<ms.length)(h:ms[i]<ms[j]):i<j:=by
 rcases Nat.lt_trichotomy i j with z|z|z
 ·exact z
 ·subst z;lia
 ·have:=j5.mp hs j i hj hi z;lia
theorem ZDS(g:GoodH h)(hm:m<h.n)(e:h.last m=m):(h.mem m).getLast?=vF m:=by
 have hmem:m∈h.mem m:=mem_iff.mpr ⟨hm,e⟩;have hne:h.mem m≠[]:=λz=>by rw[z]at hmem;cases hmem
 rw[List.getLast?_eq_some_getLast hne]
 congr 1
 have h1:=mem_iff.mp (List.getLast_mem hne);have h2:=(I8 g ((h.mem m).getLast hne)).1;obtain⟨i,hi,ei⟩:=qE hmem;have h3:m<=(h.mem m).getLast hne:=by
  rw[List.getLast_eq_getElem];by_cases e4:i=(h.mem m).length-1
  ·subst e4;lia
  ·have:=j5.mp (R3 (h:=h) (m:=m)) i ((h.mem m).length-1) hi (by lia) (by lia);lia
 lia
def Hs.need(h:Hs)(k:Nat):Int:=match(h.pl k).kd with
 |.town a _=>a
 |_=>0
def Hs.rank(h:Hs)(k:Nat):Int:=match(h.pl k).kd with
 |.town _ b=>b
 |_=>0
def Hs.row(h:Hs)(ms:List Nat)(ca:Nat->Int)(k:Nat):Row:=⟨(h.dir k).map λd=>ms.idxOf d,ca k,h.need k,h.rank k⟩
def Hs.rows(h:Hs)(ms:List Nat)(ca:Nat->Int):List Row:=ms.map (h.row ms ca)
theorem idx_map(d:Nat):∀ms:List Nat,(ms.map λ(i:Nat)=>(i:Int)).idxOf (d:Int)=ms.idxOf d
 |[]=>rfl
 | m::ms=>by
  rw[zk,List.idxOf_cons,List.idxOf_cons,idx_map d ms];by_cases e:m=d
  ·subst e;simp
  ·have e2:¬((m:Int)=d):=by lia
   have b1:((m:Int)==(d:Int))=vI:=by simp[e2]
   have b2:(m==d)=vI:=by simp[e]
   rw[b1,b2]
theorem ZHs(g:GoodH h)(hm:∀k∈ms,k<h.n/\∀d,h.dir k=vF d->d∈ms)(hl:ms.length<=40)(hp:G[p]?=vF (.lst (tab h.n ca))):∀(ks:List Nat)(acc:List Row)(x1 x2 x3 x4:Option D),(∀k∈ks,k∈ms)->acc.length+ks.length<=40->∃y1 y2 y3 y4,
  Aq (gV 4) Oh (Ar ks) [vF h.enc,zF (Ar ms),zR p,zR G.length,x1,x2,x3,x4] (G++[.lst (acc.map Row.enc)])=
   .nx [vF h.enc,zF (Ar ms),zR p,zR G.length,y1,y2,y3,y4] (G++[.lst ((acc++ks.map (h.row ms ca)).map Row.enc)])
 |[],acc,x1,x2,x3,x4,_,_=>⟨x1,x2,x3,x4,by simp[Ar,Cm]⟩
 | k::ks,acc,x1,x2,x3,x4,hk,ha=>by
  obtain⟨hkn,hkd⟩:=hm k (hk k zW);obtain⟨y1,y2,y3,y4,ih⟩:=ZHs g hm hl hp ks (acc++[h.row ms ca k]) (zI k) (vF (h.encP (h.pl k))) (vF (dnD (h.dir k))) (vF (dnD ((h.dir k).map λd=>ms.idxOf d))) (λj hj=>hk j (zZ _ hj)) (by simp at ha⊢;lia);refine⟨y1,y2,y3,y4,?_⟩;have hpl:p<G.length:=(zH.mp hp).1;have hgp:∀L:DH,(G++L)[p]?=vF (.lst (tab h.n ca)):=λL=>by rw[qV hpl];exact hp
  have ha2:acc.length<1000000:=by simp at ha;lia
  have ht:h.row ms ca k=⟨(h.dir k).map λd=>ms.idxOf d,ca k,h.need k,h.rank k⟩:=rfl;have hb:Oh [vF h.enc,zF (Ar ms),zR p,zR G.length,zI k,x2,x3,x4] (G++[.lst (acc.map Row.enc)])=
    .nx [vF h.enc,zF (Ar ms),zR p,zR G.length,zI k,vF (h.encP (h.pl k)),vF (dnD (h.dir k)),vF (dnD ((h.dir k).map λd=>ms.idxOf d))] (G++[.lst ((acc++[h.row ms ca k]).map Row.enc)]):=by
   have hix:∀d,h.dir k=vF d->∀G',Iz (.fl (Ar ms)) [.int (d:Int)] G'=.ok (.int (ms.idxOf d:Nat)) G':=λd hd G'=>by
    have e:Ar ms=(ms.map λ(i:Nat)=>(i:Int)).map D.int:=by simp[Ar]
    rw[e,ZIh (ns:=ms.map λ(i:Nat)=>(i:Int)) (by simp[Gs]) (zO.mpr ⟨d,hkd d hd,rfl⟩) (by simp;lia),idx_map]
   unfold Oh;by_cases hT:(h.pl k).kd.isT=vH
   ·obtain⟨a,b,ek⟩:∃a b,(h.pl k).kd=.town a b:=by
     cases e:(h.pl k).kd with
     |town a b=>exact⟨a,b,rfl⟩
     |basin _ _ _=>rw[e]at hT;cases hT
     |mill _=>rw[e]at hT;cases hT
    have e4:∀G',Ad (h.encP (h.pl k)) (.int 4) G'=.ok (.int a) G':=λG'=>by unfold Hs.encP;rw[ek];simp
    have e5:∀G',Ad (h.encP (h.pl k)) (.int 5) G'=.ok (.int b) G':=λG'=>by unfold Hs.encP;rw[ek];simp
    have en:h.need k=a:=by unfold Hs.need;rw[ek]
    have er:h.rank k=b:=by unfold Hs.rank;rw[ek]
    cases hd:h.dir k with
    |none=>simp[Cp,Hs.Eb hkn,Nt g hkn,hd,dnD,Qu,hT,hgp,Dy hkn,e4,e5,An,Cw,Dz,ha2,ht,Row.enc,en,er]
    |some d=>simp[Cp,Hs.Eb hkn,Nt g hkn,hd,dnD,hix d hd,Qu,hT,hgp,Dy hkn,e4,e5,An,Cw,Dz,ha2,ht,Row.enc,en,er]
   ·have en:h.need k=0:=by
     unfold Hs.need;cases e:(h.pl k).kd with
     |town a b=>rw[e]at hT;exact absurd rfl hT
     |basin _ _ _=>rfl
     |mill _=>rfl
    have er:h.rank k=0:=by
     unfold Hs.rank;cases e:(h.pl k).kd with
     |town a b=>rw[e]at hT;exact absurd rfl hT
     |basin _ _ _=>rfl
     |mill _=>rfl
    cases hd:h.dir k with
    |none=>simp[Cp,Hs.Eb hkn,Nt g hkn,hd,dnD,Qu,hT,hgp,Dy hkn,An,Cw,Dz,ha2,ht,Row.enc,en,er]
    |some d=>simp[Cp,Hs.Eb hkn,Nt g hkn,hd,dnD,hix d hd,Qu,hT,hgp,Dy hkn,An,Cw,Dz,ha2,ht,Row.enc,en,er]
  show Aq _ _ (.int k::Ar ks) _ _=_;rw[Bu];simp only[Cg,R.Cd,qx,hb,Cq];rw[ih];simp
theorem ZLq(g:GoodH h)(hm:∀k∈ms,k<h.n/\∀d,h.dir k=vF d->d∈ms)(hl:ms.length<=40)(hp:G[p]?=vF (.lst (tab h.n ca))):
  Ss [h.enc,.fl (Ar ms),.ref p] G=.ok (.ref G.length) (G++[.lst ((h.rows ms ca).map Row.enc)]):=by
 obtain⟨y1,y2,y3,y4,hL⟩:=ZHs g hm hl hp ms [] vG vG vG vG (λk hk=>hk) (by simpa using hl);have hL':Aq (gV 4) Oh (Ar ms) [vF h.enc,zF (Ar ms),zR p,zR G.length,vG,vG,vG,vG] (G++[.lst []])=.nx [vF h.enc,zF (Ar ms),zR p,zR G.length,y1,y2,y3,y4] (G++[.lst ((h.rows ms ca).map Row.enc)]):=hL;unfold Ss ZJV;rw[Aw];simp[Ah,Dr,hL']
theorem Mv(g:GoodH h)(hc:∀k,k<h.n->0<=ca k):Reach (h.rows (h.mem m) ca):=λi r hr=>by
 have hil:i<(h.mem m).length:=by have:=(zH.mp hr).1;simpa[Hs.rows]using this
 have e:r=h.row (h.mem m) ca (h.mem m)[i]:=by unfold Hs.rows at hr;rw[zx,zX hil]at hr;simpa using hr.symm
 obtain⟨hk,hlast⟩:=mem_iff.mp (q9 hil);subst e;refine⟨λd hd=>?_,hc _ hk,?_,?_⟩
 ·have hd':(h.dir (h.mem m)[i]).map (λd=>(h.mem m).idxOf d)=vF d:=hd;cases e:h.dir (h.mem m)[i]with
  |none=>rw[e]at hd';cases hd'
  |some d0=>
   rw[e]at hd';have ed:(h.mem m).idxOf d0=d:=by simpa using hd'
   have hl:=Jv g e;have hmem:d0∈h.mem m:=mem_iff.mpr ⟨hl.2.1,by rw[<-Lx g e];exact hlast⟩;have hlt:=qG hmem;have hg:(h.mem m)[(h.mem m).idxOf d0]=d0:=jM hlt;subst ed;refine⟨ZKq R3 hil hlt (by rw[hg];exact hl.1),by simpa[Hs.rows]using hlt⟩
 ·show 0<=h.need _;unfold Hs.need;cases e:(h.pl (h.mem m)[i]).kd with
  |town a b=>exact(g.town _ a b hk e).1
  |basin _ _ _=>exact zL _
  |mill _=>exact zL _
 ·show 0<=h.rank _;unfold Hs.rank;cases e:(h.pl (h.mem m)[i]).kd with
  |town a b=>exact(g.town _ a b hk e).2
  |basin _ _ _=>exact zL _
  |mill _=>exact zL _
structure Cs where
 came:Nat->Int
 coming:Nat->Nat->Int
 page:Nat->List Int
 rea:List D
variable{s s':Cs}
def Jc(l:List Int):D:=match l with
 |[]=>.non
 |_=>.tup (l.map D.int)
@[simp]theorem ZKL{n:Nat}:bel n (Jc l)=vH:=by
 cases l with
 |nil=>rfl
 |cons a l=>simp only[Jc,_D.bel];exact ZGj
def cfl(ds:List D):List (Str×D):=(["house","levels","year_turn","came","coming","page","reaches"]:List Str).zip ds
def cflds(i n:Nat)(H LV:D)(yt:Int):List (Str×D):=cfl [H,LV,.int yt,.ref (i+1),.ref (i+(2+n)),.ref (i+(3+n)),.ref (i+(4+n))]
def Cj(n:Nat)(pg:Nat->List Int):List D:=(zQ n).map λk=>Jc (pg k)
def Ds(i n:Nat):List D:=(zQ n).map λk=>D.ref (i+(2+k))
def csT(i n:Nat)(H LV:D)(yt:Int)(s:Cs):DH:=.ins "Course" (cflds i n H LV yt):: .lst (tab n s.came)::((zQ n).map (λk=>DO.lst (tab 5 (s.coming k)))++[.lst (Ds i n),.lst (Cj n s.page),.lst s.rea])
def csH(G:DH)(n:Nat)(H LV:D)(yt:Int)(s:Cs):DH:=G++csT G.length n H LV yt s
theorem ZMI{n:Nat}{yt:Int}:(csT i n H LV yt s).length=n+5:=by simp[csT]
theorem ZJM{n:Nat}{yt:Int}:(csH G n H LV yt s).length=G.length+(n+5):=by unfold csH;rw[qj,ZMI]
section
variable{G:DH}{n:Nat}{H LV:D}{yt:Int}{s:Cs}
theorem Mj(j:Nat):(csH G n H LV yt s)[G.length+j]?=(csT G.length n H LV yt s)[j]? :=Tn _ j
theorem Ja:(csH G n H LV yt s)[G.length]?=vF (.ins "Course" (cflds G.length n H LV yt)):=Mj 0
theorem Pb:(csH G n H LV yt s)[G.length+1]?=vF (.lst (tab n s.came)):=Mj 1
theorem Qj:(csT i n H LV yt s)[2+j]?=((zQ n).map (λk=>DO.lst (tab 5 (s.coming k)))++[.lst (Ds i n),.lst (Cj n s.page),.lst s.rea])[j]? :=by
 have e:2+j=j+1+1:=by lia
 rw[e]
 rfl
theorem ZBi{k:Nat}(hk:k<n):(csH G n H LV yt s)[G.length+(2+k)]?=vF (.lst (tab 5 (s.coming k))):=by
 rw[Mj,Qj,qV (by simpa using hk),zx,zU hk]
 rfl
theorem Rb:(csH G n H LV yt s)[G.length+(2+n)]?=vF (.lst (Ds G.length n)):=by rw[Mj,Qj,zM (by simp)];simp
theorem K4:(csH G n H LV yt s)[G.length+(3+n)]?=vF (.lst (Cj n s.page)):=by
 have e:3+n=2+(n+1):=by lia
 rw[e,Mj,Qj,zM (by simp)];simp
theorem csHe:(csH G n H LV yt s)[G.length+(4+n)]?=vF (.lst s.rea):=by
 have e:4+n=2+(n+2):=by lia
 rw[e,Mj,Qj,zM (by simp)];simp
theorem V0(j:Nat)(o:DO):(csH G n H LV yt s).set (G.length+j) o=G++(csT G.length n H LV yt s).set j o:=ZCo _ j o
theorem csS1:(csH G n H LV yt s).set (G.length+1) (.lst (tab n ca))=csH G n H LV yt {s with came:=ca}:=V0 1 _
def upd2(co:Nat->Nat->Int)(k:Nat)(r:Nat->Int):Nat->Nat->Int:=λi=>if i=k then r else co i
theorem ZBc{o:DO}:(csT i n H LV yt s).set (2+j) o=.ins "Course" (cflds i n H LV yt):: .lst (tab n s.came)::((zQ n).map (λk=>DO.lst (tab 5 (s.coming k)))++[DO.lst (Ds i n),DO.lst (Cj n s.page),DO.lst s.rea]).set j o:=by
 have e:2+j=j+1+1:=by lia
 rw[e]
 rfl
theorem csSr{k:Nat}(hk:k<n){r:Nat->Int}:(csH G n H LV yt s).set (G.length+(2+k)) (.lst (tab 5 r))=csH G n H LV yt {s with coming:=upd2 s.coming k r}:=by
 rw[V0,ZBc,List.set_append_left _ _ (by simpa using hk)];unfold csH csT
 congr 3
 congr 1
 refine jD λi=>?_
 by_cases hi:i<n
 ·by_cases e:k=i
  ·subst e;rw[jw (by simpa using hi),zx,zU hi];simp[upd2]
  ·rw[jV e,zx,zU hi,zx,zU hi];have:i≠k:=λz=>e z.symm
   simp[upd2,this]
 ·rw[z0 (by simp;lia),z0 (by simp;lia)]
theorem Rw:(csH G n H LV yt s).set (G.length+(3+n)) (.lst (Cj n pg))=csH G n H LV yt {s with page:=pg}:=by
 have e:3+n=2+(n+1):=by lia
 rw[e,V0,ZBc,xQ _ _ (by simp)];unfold csH csT;simp
theorem csSe{re:List D}:(csH G n H LV yt s).set (G.length+(4+n)) (.lst re)=csH G n H LV yt {s with rea:=re}:=by
 have e:4+n=2+(n+2):=by lia
 rw[e,V0,ZBc,xQ _ _ (by simp)];unfold csH csT;simp
theorem Jd:Hy "Course" "house" (.ref G.length) (csH G n H LV yt s)=.ok H (csH G n H LV yt s):=Ly Ja rfl
theorem ZFa:Hy "Course" "levels" (.ref G.length) (csH G n H LV yt s)=.ok LV (csH G n H LV yt s):=Ly Ja rfl
theorem ZJm:Hy "Course" "year_turn" (.ref G.length) (csH G n H LV yt s)=.ok (.int yt) (csH G n H LV yt s):=Ly Ja rfl
theorem Th:Hy "Course" "came" (.ref G.length) (csH G n H LV yt s)=.ok (.ref (G.length+1)) (csH G n H LV yt s):=Ly Ja rfl
theorem ZDU:Hy "Course" "coming" (.ref G.length) (csH G n H LV yt s)=.ok (.ref (G.length+(2+n))) (csH G n H LV yt s):=Ly Ja rfl
theorem Nh:Hy "Course" "page" (.ref G.length) (csH G n H LV yt s)=.ok (.ref (G.length+(3+n))) (csH G n H LV yt s):=Ly Ja rfl
theorem ZUw:Hy "Course" "reaches" (.ref G.length) (csH G n H LV yt s)=.ok (.ref (G.length+(4+n))) (csH G n H LV yt s):=Ly Ja rfl
theorem J0{m:Str}{F:List D->DH->R D}{t:DA}(hm:∀i,(cflds i n H LV yt).lookup m=vG):Rz "Course" m F t S (.ref G.length) (csH G n H LV yt s)=(t S (csH G n H LV yt s)).bind λds G2=>F (.ref G.length::ds) G2:=ZQS Ja (hm _)
theorem ZHB:∀i,(cflds i n H LV yt).lookup ("send":Str)=vG:=λ_=>rfl
theorem ZBH:∀i,(cflds i n H LV yt).lookup ("send_down":Str)=vG:=λ_=>rfl
theorem ZQx:∀i,(cflds i n H LV yt).lookup ("go_basin":Str)=vG:=λ_=>rfl
theorem ZLP:∀i,(cflds i n H LV yt).lookup ("go_reach":Str)=vG:=λ_=>rfl
theorem ZQc:∀i,(cflds i n H LV yt).lookup ("go":Str)=vG:=λ_=>rfl
theorem ZRN:∀i,(cflds i n H LV yt).lookup ("state_behind":Str)=vG:=λ_=>rfl
theorem Jx{d:D}(hb:∀m,bel m d=vH):tidy (csH G n H LV yt s) (.ok d (csH G n H LV yt s'))=.ok d (csH G n H LV yt s'):=ZQ1 (by rw[ZJM,ZJM]) (hb _)
theorem ZQo{k:Nat}(hk:k<n):atI (Ds i n) (k:Int)=zR (i+(2+k)):=Dg rfl (by unfold Ds;rw[zx,zU hk];rfl)
theorem ZUh{k:Nat}:(Cj n pg).set k (Jc l)=Cj n λi=>if i=k then l else pg i:=by
 unfold Cj;refine jD λi=>?_
 by_cases hi:i<n
 ·by_cases e:k=i
  ·subst e;rw[jw (by simpa using hi),zx,zU hi];simp
  ·rw[jV e,zx,zU hi,zx,zU hi];have:i≠k:=λz=>e z.symm
   simp[this]
 ·rw[z0 (by simp;lia),z0 (by simp;lia)]
@[simp]theorem ZMt:(Cj n pg).length=n:=by simp[Cj]
def Cs.send(s:Cs)(to dl:Nat)(c:Int):Cs:=if dl=0 then{s with came:=fset s.came to (s.came to+c)}else{s with coming:=upd2 s.coming to (fset (s.coming to) (dl-1) (s.coming to (dl-1)+c))}
theorem ZF3(ht:to<n)(hd:dl<=5):Q4 [.ref G.length,.int to,.int dl,.int c] (csH G n H LV yt s)=.ok .non (csH G n H LV yt (s.send to dl c)):=by
 unfold Q4 ZGF;rw[Aw];by_cases h0:dl=0
 ·subst h0;simp[Th,Rg Pb (Dy ht),Pb,Hr,ht,Nf,csS1,Cs.send,Jx]
 ·have e:((dl:Int)-1)=((dl-1:Nat):Int):=by lia
  have h1:dl-1<5:=by lia
  simp[h0,ZDU,Rb,ZQo ht,e,Rg (ZBi ht) (Dy h1),ZBi ht,Hr,h1,Nf,csSr ht,Cs.send,Jx]
end
def Hs.Ek(h:Hs)(s:Cs)(k:Nat)(c:Int):Cs:=match h.dn k with
 |none=>s
 |some d=>s.send d (h.pl k).dl c
section
variable{G:DH}{h:Hs}{lv:Nat->Int}{yt:Int}{s:Cs}
theorem Wo(g:GoodH h){k:Nat}(hk:k<h.n):Og [.ref G.length,.int k,.int c] (csH G h.n h.enc LV yt s)=.ok .non (csH G h.n h.enc LV yt (h.Ek s k c)):=by
 unfold Og ZGv;rw[Aw];cases hd:h.dn k with
 |none=>simp[Jd,Ka g hk,hd,dnD,Hs.Ek,Jx]
 |some d=>
  have hl:=g.dn k d hk hd;simp[Jd,Ka g hk,hd,dnD,J0 ZHB,Cp,Hs.Eb hk,ZF3 hl.2 (g.dl k hk),Hs.Ek,Jx]
theorem Tv{n:Nat}{k:Nat}{b d e f:Int}:(Cj n pg).set k (.tup [.int a,.int b,.int c,.int d,.int e,.int f])=Cj n λi=>if i=k then[a,b,c,d,e,f]else pg i:=ZUh (l:=[a,b,c,d,e,f])
noncomputable def Hs.basin(h:Hs)(yt:Int)(lv:Nat->Int)(s:Cs)(k:Nat):Cs:=match(h.pl k).kd with
 |.basin brim rule pump=>
  let w:=lv k+s.came k;let st:=held yt rule [];let stays:=w-rv w st-pm w st;let lies:=min stays brim;let s1:Cs:={s with page:=λi=>if i=k then[s.came k,0,stays-lies,rv w st,pm w st,lies]else s.page i};let s2:=h.Ek s1 k (rv w st+(stays-lies))
  match pump with
  |none=>s2
  |some (to,dl,_)=>s2.send to dl (pm w st)
 |_=>s
theorem ZRJ(g:GoodH h){k:Nat}(hk:k<h.n)(hB:(h.pl k).kd.isB=vH):U0 [.ref G.length,.int k] (csH G h.n h.enc (.tup (tab h.n lv)) yt s)=.ok .non (csH G h.n h.enc (.tup (tab h.n lv)) yt (h.basin yt lv s k)):=by
 obtain⟨brim,rule,pump,ek⟩:∃a b c,(h.pl k).kd=.basin a b c:=by
  cases e:(h.pl k).kd with
  |basin a b c=>exact⟨a,b,c,rfl⟩
  |town _ _=>rw[e]at hB;cases hB
  |mill _=>rw[e]at hB;cases hB
 have e4:∀G',Ad (h.encP (h.pl k)) (.int 4) G'=.ok (.int brim) G':=λG'=>by unfold Hs.encP;rw[ek];simp
 have e5:∀G',Ad (h.encP (h.pl k)) (.int 5) G'=.ok (.tup (rule.map Bp)) G':=λG'=>by unfold Hs.encP;rw[ek];simp
 have e6:∀G',Ad (h.encP (h.pl k)) (.int 6) G'=.ok (h.Lr pump) G':=λG'=>by unfold Hs.encP;rw[ek];simp
 simp only[Hs.basin,ek];unfold U0 ZJr;rw[Aw];cases hp:pump with
 |none=>simp[Jd,Cp,Hs.Eb hk,Th,Pb,Dy hk,e5,ZJm,c_at,ZFa,ZFU,e4,An,Nh,K4,Hr,hk,Tv,Rw,J0 ZBH,Wo g hk,e6,hp,Hs.Lr,Jx]
 |some q=>
  obtain⟨to,dl,mo⟩:=q;have hl:=g.pump k brim rule to dl mo hk (by rw[ek,hp]);simp[Jd,Cp,Hs.Eb hk,Th,Pb,Dy hk,e5,ZJm,c_at,ZFa,ZFU,e4,An,Nh,K4,Hr,hk,Tv,Rw,J0 ZBH,Wo g hk,e6,hp,Hs.Lr,J0 ZHB,ZHk g hl.1,ZF3 hl.1 hl.2.2,Jx]
end
def z3(ms:List Nat)(T L:Nat->Int):List D:=(zQ ms.length).map λi=>D.tup [.int (ms.getD i 0:Nat),.int (T i),.int (L i)]
theorem ZLQ{L:Nat->Int}(j:Nat)(G:DH):Ew [.fl (Ar ms),.fl (tab ms.length T),.fl (tab ms.length L)] j G=vF (z3 ms T L)[j]? :=by
 unfold Ew z3;by_cases hj:j<ms.length
 ·have e1:(Ar ms)[j]?=zI (ms.getD j 0:Nat):=by unfold Ar;rw[zx,zX hj];simp[zD,zX hj]
  simp[Gq,e1,Lk hj,zU hj]
 ·have e1:(Ar ms)[j]?=vG:=z0 (by simp;lia);have e2:(zQ ms.length)[j]?=vG:=z0 (by simp;lia);simp[Gq,e1,e2]
def rrow(T L:Nat->Int)(i:Nat):List Int:=[T i+L i,T i,0,L i,0,0]
def pgM(ms:List Nat)(T L:Nat->Int)(pg:Nat->List Int)(i:Nat):Nat->List Int:=λk=>if k∈ms.take i then rrow T L (ms.idxOf k)else pg k
theorem ZKN{L:Nat->Int}:pgM ms T L pg 0=pg:=by funext k;simp[pgM]
theorem ZEL(nd:ms.Nodup)(hi:i<ms.length)(hj:j<ms.length)(e:ms[i]=ms[j]):i=j:=by
 rcases Nat.lt_trichotomy i j with z|z|z
 ·exact absurd e (j5.mp nd i j hi hj z)
 ·exact z
 ·exact absurd e.symm (j5.mp nd j i hj hi z)
theorem ZFo(nd:ms.Nodup)(hi:i<ms.length):ms.idxOf ms[i]=i:=by have hl:=qG (q9 hi);exact ZEL nd hl hi (jM hl)
theorem ZPQ(nd:ms.Nodup){L:Nat->Int}(hi:i<ms.length):pgM ms T L pg (i+1)=λk=>if k=ms.getD i 0 then rrow T L i else pgM ms T L pg i k:=by
 have eg:ms.getD i 0=ms[i]:=by simp[zD,zX hi]
 funext k;rw[eg];unfold pgM;rw[List.take_succ_eq_append_getElem hi];by_cases e:k=ms[i]
 ·subst e;rw[if_pos rfl,if_pos (jH.mpr (.inr (qH.mpr rfl))),ZFo nd hi]
 ·rw[if_neg e];have:(k∈ms.take i++[ms[i]])↔k∈ms.take i:=by rw[jH,qH];exact⟨λh=>h.elim id λz=>absurd z e,.inl⟩
  simp only[this]
section
variable{G:DH}{h:Hs}{LV:D}{yt:Int}
theorem ZGz(g:GoodH h)(hms:∀k∈ms,k<h.n)(nd:ms.Nodup)(hlast:ms.getLast?=vF m){T L:Nat->Int}{s:Cs}{r t:D}:∀(q i:Nat)(x y z:Option D),i+q=ms.length->0<q->∃x' y' z',
  Aq (Ao 3 (Ae (gV 4) (Ae (gV 5) (Ae (gV 6) Ax)))) Jj ((z3 ms T L).drop i) [zR G.length,zF (Ar ms),vF r,vF t,x,y,z] (csH G h.n h.enc LV yt {s with page:=pgM ms T L s.page i})=
   .nx [zR G.length,zF (Ar ms),vF r,vF t,x',y',z'] (csH G h.n h.enc LV yt (h.Ek {s with page:=pgM ms T L s.page ms.length} m (L (ms.length-1))))
 |0,i,x,y,z,e,h0=>by lia
 | q + 1,i,x,y,z,e,h0=>by
  have hi:i<ms.length:=by lia
  have eg:ms.getD i 0=ms[i]:=by simp[zD,zX hi]
  have hk:ms.getD i 0<h.n:=by rw[eg];exact hms _ (q9 hi)
  have hmn:m<h.n:=hms m (List.mem_of_getLast? hlast);have e0:(z3 ms T L).drop i=.tup [.int (ms.getD i 0:Nat),.int (T i),.int (L i)]::(z3 ms T L).drop (i+1):=by rw[qZ (by simp[z3];exact hi)];simp[z3]
  have hneg:atI (Ar ms) (-1)=zI (m:Nat):=by
   have hl:0<ms.length:=by lia
   rw[ZPJ (by decide) (by simp;lia)]
   congr 1
   have e3:((-1:Int)+((Ar ms).length:Int)).toNat=ms.length-1:=by simp;lia
   simp only[e3];unfold Ar;rw[List.getElem_map];have e4:ms[ms.length-1]'(by lia)=m:=by have:=j6 (l:=ms);rw[hlast,zX (by lia)]at this;exact(Option.some.inj this).symm
   rw[e4]
  have hpg:(λk=>if k=ms.getD i 0 then[T i+L i,T i,0,L i,0,0]else pgM ms T L s.page i k)=pgM ms T L s.page (i+1):=(ZPQ nd hi).symm;rw[e0,Bu];cases q with
  | zero=>
   have ei:i=ms.length-1:=by lia
   have em:ms.getD i 0=m:=by have:=j6 (l:=ms);rw[hlast,zX (by lia)]at this;rw[eg];subst ei;exact(Option.some.inj this).symm
   have hb:Jj [zR G.length,zF (Ar ms),vF r,vF t,zI (ms.getD i 0:Nat),zI (T i),zI (L i)] (csH G h.n h.enc LV yt {s with page:=pgM ms T L s.page i})=
     .nx [zR G.length,zF (Ar ms),vF r,vF t,zI (ms.getD i 0:Nat),zI (T i),zI (L i)] (csH G h.n h.enc LV yt (h.Ek {s with page:=pgM ms T L s.page ms.length} m (L (ms.length-1)))):=by
    have e5:i+1=ms.length:=by lia
    rw[e5]at hpg;unfold Jj;simp only[em]at hk hpg⊢;simp[An,Nh,K4,Hr,hk,Tv,hpg,Rw,hneg,J0 ZBH,Wo g hmn,<-ei]
   refine⟨zI (ms.getD i 0:Nat),zI (T i),zI (L i),?_⟩;rw[qX (by simp[z3];lia)];simp only[N8,N7,Mi,Cg,R.Hk,R.Cd,qx,hb,Cq,qQ,jK,Nat.reduceAdd,if_true,Cm]
  | succ q=>
   have hne:ms.getD i 0≠m:=λz=>by have h1:=j6 (l:=ms);rw[hlast,zX (by lia)]at h1;have h2:=Option.some.inj h1;rw[eg,h2]at z;have:=ZEL nd hi (by lia) z;lia
   have hne':¬((ms.getD i 0:Nat):Int)=(m:Int):=by lia
   have hb:Jj [zR G.length,zF (Ar ms),vF r,vF t,zI (ms.getD i 0:Nat),zI (T i),zI (L i)] (csH G h.n h.enc LV yt {s with page:=pgM ms T L s.page i})=
     .nx [zR G.length,zF (Ar ms),vF r,vF t,zI (ms.getD i 0:Nat),zI (T i),zI (L i)] (csH G h.n h.enc LV yt {s with page:=pgM ms T L s.page (i+1)}):=by
    unfold Jj;generalize ms.getD i 0=a at hk hpg hne';simp[An,Nh,K4,Hr,hk,Tv,hpg,Rw,hneg,hne']
   obtain⟨x',y',z',ih⟩:=ZGz g hms nd hlast (T:=T) (L:=L) (s:=s) (r:=r) (t:=t) (q+1) (i+1) (zI (ms.getD i 0:Nat)) (zI (T i)) (zI (L i)) (by lia) (by lia);refine⟨x',y',z',?_⟩;simp only[N8,N7,Mi,Cg,R.Hk,R.Cd,qx,hb,Cq,qQ,jK,Nat.reduceAdd,if_true];exact ih
def Hs.Gk(h:Hs)(s:Cs)(m:Nat):Nat->Int:=shr (h.rows (h.mem m) s.came)
def Hs.Fp(h:Hs)(s:Cs)(m:Nat):Nat->Int:=gath (h.rows (h.mem m) s.came) λi=>col Row.water (h.rows (h.mem m) s.came) i-h.Gk s m i
def Hs.reach(h:Hs)(s:Cs)(m:Nat):Cs:=
 let s1:=h.Ek {s with page:=pgM (h.mem m) (h.Gk s m) (h.Fp s m) s.page (h.mem m).length} m (h.Fp s m ((h.mem m).length-1))
 {s1 with rea:=s1.rea++[.tup [.fl (Ar (h.mem m)),.fl ((h.rows (h.mem m) s.came).map Row.enc)]]}
theorem Qt{n:Nat}(hb:∀m,bels m ds=vH):freeze (csH G n H LV yt s) (.ok (.ref (csH G n H LV yt s).length) (csH G n H LV yt s++[.lst ds]))=.ok (.fl ds) (csH G n H LV yt s):=Dk (hb _)
theorem Hh:(h.rows ms ca).length=ms.length:=by simp[Hs.rows]
theorem ZLo(g:GoodH h)(hm:m<h.n)(hl:h.last m=m)(hc:∀k,k<h.n->0<=s.came k)(hre:s.rea.length<=100):Sq [.ref G.length,.fl (Ar (h.mem m))] (csH G h.n h.enc LV yt s)=.ok .non (csH G h.n h.enc LV yt (h.reach s m)):=by
 have hR:=Mv g (m:=m) hc;have hlen:(h.rows (h.mem m) s.came).length<=40:=by have:=ZF8 (h:=h) (m:=m);have:=g.len;rw[Hh];lia
 have hmem:m∈h.mem m:=mem_iff.mpr ⟨hm,hl⟩;have hpos:0<(h.mem m).length:=jR hmem;have nd:(h.mem m).Nodup:=(R3 (h:=h) (m:=m)).imp λhab=>zG hab
 have cr:=ZLq g (ms:=h.mem m) (λk hk=>⟨(mem_iff.mp hk).1,λd hd=>by have h1:=mem_iff.mp hk;have h2:=Jv g hd;exact mem_iff.mpr ⟨h2.2.1,by rw[<-Lx g hd];exact h1.2⟩⟩) (by rw[<-Hh (h:=h) (ca:=s.came)];exact hlen) (p:=G.length+1) (ca:=s.came) (G:=csH G h.n h.enc LV yt s) Pb
 have cs:=ZNd hR hlen (csH G h.n h.enc LV yt s);have cp:=ZHg hR hlen (t:=.fl (tab (h.rows (h.mem m) s.came).length (shr (h.rows (h.mem m) s.came)))) (T:=shr (h.rows (h.mem m) s.came)) (G:=csH G h.n h.enc LV yt s) rfl;rw[Hh]at cs cp;obtain⟨x',y',z',hL⟩:=ZGz (G:=G) (LV:=LV) (yt:=yt) g (ms:=h.mem m) (λk hk=>(mem_iff.mp hk).1) nd (ZDS g hm hl) (T:=h.Gk s m) (L:=h.Fp s m) (s:=s) (r:=.fl ((h.rows (h.mem m) s.came).map Row.enc)) (t:=.fl (tab (h.mem m).length (h.Gk s m))) (h.mem m).length 0 vG vG vG (by lia) hpos
 rw[ZKN,xq]at hL;have hz:∀S G',Dh (Ew [.fl (Ar (h.mem m)),.fl (tab (h.mem m).length (h.Gk s m)),.fl (tab (h.mem m).length (h.Fp s m))]) (Ao 3 (Ae (gV 4) (Ae (gV 5) (Ae (gV 6) Ax)))) Jj (h.mem m).length 0 S G'=Aq (Ao 3 (Ae (gV 4) (Ae (gV 5) (Ae (gV 6) Ax)))) Jj (z3 (h.mem m) (h.Gk s m) (h.Fp s m)) S G':=λS G'=>O4 ZLQ (by simp[z3])
 have eT:shr (h.rows (h.mem m) s.came)=h.Gk s m:=rfl;have eL:gath (h.rows (h.mem m) s.came) (λi=>col Row.water (h.rows (h.mem m) s.came) i-h.Gk s m i)=h.Fp s m:=rfl;rw[eT]at cs cp;rw[eL]at cp;have hre2:∀s':Cs,s'.rea=s.rea->s'.rea.length<1000000:=λs' e=>by rw[e];lia
 have ers:∀s':Cs,∀k c,(h.Ek s' k c).rea=s'.rea:=λs' k c=>by
  unfold Hs.Ek;cases h.dn k with
  |none=>rfl
  |some d=>simp only[Cs.send];split <;> rfl
 have el1:=hre2 _ (ers {s with page:=pgM (h.mem m) (h.Gk s m) (h.Fp s m) s.page (h.mem m).length} m (h.Fp s m ((h.mem m).length-1)));simp only[Hs.reach];generalize h.Ek {s with page:=pgM (h.mem m) (h.Gk s m) (h.Fp s m) s.page (h.mem m).length} m (h.Fp s m ((h.mem m).length-1))=s1 at hL el1;have hS:{s with page:=s.page}=s:=rfl;have ht:∀G',tidy G' (.ok (.tup [.fl (Ar (h.mem m)),.fl ((h.rows (h.mem m) s.came).map Row.enc)]) G')=.ok (.tup [.fl (Ar (h.mem m)),.fl ((h.rows (h.mem m) s.came).map Row.enc)]) G':=λG'=>Be (by simp)
 unfold Sq ZI4;rw[Aw];simp[Jd,Th,cr,Qt,cs,cp,Ex,Iw,lenOf,hz,hL,An,ht,ZUw,csHe,el1,csSe,Jx]
end
def Cs.NN(n:Nat)(s:Cs):Prop:=(∀k,k<n->0<=s.came k)/\∀k j,k<n->j<5->0<=s.coming k j
theorem Cs.NN.send{n:Nat}(h:s.NN n)(hc:0<=c):(s.send to dl c).NN n:=by
 unfold Cs.send;split
 ·refine⟨λk hk=>?_,h.2⟩;simp only[fset];split
  ·rename_i e;subst e;have:=h.1 k hk;lia
  ·exact h.1 k hk
 ·refine⟨h.1,λk j hk hj=>?_⟩;simp only[upd2];split
  ·rename_i e;subst e;simp only[fset];split
   ·rename_i e2;subst e2;have:=h.2 k _ hk hj;lia
   ·exact h.2 k j hk hj
  ·exact h.2 k j hk hj
theorem Cs.NN.down{n:Nat}(h:s.NN n){hs:Hs}{k:Nat}(hc:0<=c):(hs.Ek s k c).NN n:=by
 unfold Hs.Ek;cases hs.dn k with
 |none=>exact h
 |some d=>exact h.send hc
theorem ZIS{s:Stp}:0<=cub w s:=by unfold cub;lia
theorem Zt{w:Int}:∀{st:List Stp},0<=rv w st
 |[]=>zL _
 |s::r=>by
  have h1:=Zt (w:=w) (st:=r);have h2:=ZIS (w:=w) (s:=s);unfold rv
  split <;> lia
theorem ZAM{w:Int}:∀{st:List Stp},0<=pm w st
 |[]=>zL _
 |s::r=>by
  have h1:=ZAM (w:=w) (st:=r);have h2:=ZIS (w:=w) (s:=s);unfold pm
  split <;> lia
theorem Cs.NN.page{n:Nat}(h:s.NN n):({s with page:=pg}:Cs).NN n:=h
theorem U3:(s.send to dl c).rea=s.rea/\(s.send to dl c).page=s.page:=by
 unfold Cs.send
 split <;> exact⟨rfl,rfl⟩
theorem Jy{k:Nat}:(h.Ek s k c).rea=s.rea/\(h.Ek s k c).page=s.page:=by
 unfold Hs.Ek;cases h.dn k with
 |none=>exact⟨rfl,rfl⟩
 |some d=>exact U3
section
variable{h:Hs}{yt:Int}{lv:Nat->Int}{s:Cs}
theorem ZLG{k:Nat}(hs:s.NN h.n):(h.basin yt lv s k).NN h.n:=by
 unfold Hs.basin;cases(h.pl k).kd with
 | basin brim rule pump=>
  simp only;have a1:=Zt (w:=lv k+s.came k) (st:=held yt rule []);have a2:=ZAM (w:=lv k+s.came k) (st:=held yt rule []);cases pump with
  |none=>exact hs.page.down (by lia)
  |some q=>
   obtain⟨to,dl,mo⟩:=q;exact Cs.NN.send (hs.page.down (by lia)) a2
 |town _ _=>exact hs
 |mill _=>exact hs
theorem ZOD{k:Nat}:(h.basin yt lv s k).rea=s.rea:=by
 unfold Hs.basin;cases(h.pl k).kd with
 |basin brim rule pump=>
  simp only;cases pump with
  |none=>rw[Jy.1]
  |some q=>obtain⟨to,dl,mo⟩:=q;simp only;rw[U3.1,Jy.1]
 |town _ _=>rfl
 |mill _=>rfl
theorem Xe{k:Nat}(hB:(h.pl k).kd.isB=vH):((h.basin yt lv s k).page k).length=6/\∀i,i≠k->(h.basin yt lv s k).page i=s.page i:=by
 unfold Hs.basin;cases e:(h.pl k).kd with
 | basin brim rule pump=>
  simp only;cases pump with
  |none=>
   simp only;rw[Jy.2];exact⟨by simp,λi hi=>by simp[hi]⟩
  |some q=>
   obtain⟨to,dl,mo⟩:=q;simp only;rw[U3.2,Jy.2];exact⟨by simp,λi hi=>by simp[hi]⟩
 |town _ _=>rw[e]at hB;cases hB
 |mill _=>rw[e]at hB;cases hB
theorem ZKc(g:GoodH h)(hs:s.NN h.n)(hi:i<(h.mem m).length):0<=h.Fp s m i:=by have hR:=Mv g (m:=m) hs.1;have hsi:=Qs hR;have:=hsi.p0 i (by rw[Hh];exact hi);rw[hsi.pg]at this;exact this
theorem ZRB(g:GoodH h)(hm:m<h.n)(hl:h.last m=m)(hs:s.NN h.n):(h.reach s m).NN h.n:=by have hpos:0<(h.mem m).length:=jR (mem_iff.mpr ⟨hm,hl⟩);unfold Hs.reach;exact Cs.NN.down (s:={s with page:=pgM (h.mem m) (h.Gk s m) (h.Fp s m) s.page (h.mem m).length}) hs.page (ZKc g hs (by lia))
theorem ZO7:(h.reach s m).rea.length=s.rea.length+1:=by unfold Hs.reach;simp only[qj,jC];rw[Jy.1]
theorem ZBw{k:Nat}:(h.reach s m).page k=if k∈h.mem m then rrow (h.Gk s m) (h.Fp s m) ((h.mem m).idxOf k)else s.page k:=by unfold Hs.reach;simp only;rw[Jy.2];unfold pgM;rw[List.take_of_length_le (zK _)]
def Hs.step(h:Hs)(yt:Int)(lv:Nat->Int)(s:Cs)(k:Nat):Cs:=if(h.pl k).kd.isB=vH then h.basin yt lv s k else if h.last k=k then h.reach s k else s
def Hs.goF(h:Hs)(yt:Int)(lv:Nat->Int):Nat->Nat->Cs->Cs
 |0,_,s=>s
 |m+1,k,s=>h.goF yt lv m (k+1) (h.step yt lv s k)
theorem ZHu(g:GoodH h){k:Nat}(hk:k<h.n)(hs:s.NN h.n):(h.step yt lv s k).NN h.n:=by
 unfold Hs.step;split
 ·exact ZLG hs
 ·split
  ·rename_i e;exact ZRB g hk e hs
  ·exact hs
theorem ZRE{k:Nat}:(h.step yt lv s k).rea.length<=s.rea.length+1:=by
 unfold Hs.step;split
 ·rw[ZOD];lia
 ·split
  ·rw[ZO7];lia
  ·lia
end
section
variable{G:DH}{h:Hs}{yt:Int}{lv:Nat->Int}
theorem V8{β:Type}{f f':α->Option β}:∀{l:List α},(∀x∈l,f x=f' x)->l.filterMap f=l.filterMap f'
 |[],_=>rfl
 |x::l,hl=>by rw[qA,qA,hl x zW,V8 λy hy=>hl y (zZ _ hy)]
theorem ZPe{k:Nat}(hS:Ay 2 [2] S=[vG,vG,zI k])(G:DH):Dc (Dp 0 (.fl (tab h.n λi=>(h.last i:Int)))) (Ao 2 (Ae (gV 0) (Ae (gV 1) Ax))) P0 Rv (Ay 2 [2] S) h.n 0 G=.ok (Ar (h.mem k)) G:=by
 have he:Dm (tab h.n λi=>(h.last i:Int))=(zQ h.n).map λ(i:Nat)=>D.tup [.int (i:Int),.int (h.last i:Int)]:=by refine qN (by simp[Dm]) λi h1 h2=>by simp[Dm,tab]
 rw[V4 (F:=λd=>match d with | .tup [.int i,.int e]=>if e=(k:Int)then zI i else vG|_=>vG) (λj=>Vj j G) (λx hx=>?_) (by rw[Ir];simp)]
 ·congr 1
  rw[he,qw];unfold Hs.mem Ar;rw[<-List.filterMap_eq_filter,List.map_filterMap];refine V8 λi _=>?_
  by_cases e:h.last i=k
  ·subst e;simp[Option.guard]
  ·have e2:¬((h.last i:Int)=(k:Int)):=by lia
   simp[Option.guard,e,e2]
 ·rw[he]at hx;obtain⟨i,_,rfl⟩:=zO.mp hx;refine⟨[zI i,zI (h.last i:Int),zI k],by rw[hS];simp,?_⟩;by_cases e:h.last i=k
  ·refine .inr ⟨by unfold P0;simp[e],.int i,by unfold Rv;simp,by simp[e]⟩
  ·have e2:¬((h.last i:Int)=(k:Int)):=by lia
   exact .inl ⟨by unfold P0;simp[e2],by simp[e2]⟩
theorem ZD9(g:GoodH h):∀(m k:Nat)(s:Cs)(x y:Option D),k+m=h.n->s.NN h.n->s.rea.length<=k->∃x' y',
  Aq (Ao 2 (Ae (gV 2) (Ae (gV 3) Ax))) Mu ((Dm (tab h.n λi=>(h.last i:Int))).drop k) [zR G.length,zF (tab h.n λi=>(h.last i:Int)),x,y] (csH G h.n h.enc (.tup (tab h.n lv)) yt s)=
   .nx [zR G.length,zF (tab h.n λi=>(h.last i:Int)),x',y'] (csH G h.n h.enc (.tup (tab h.n lv)) yt (h.goF yt lv m k s))
 |0,k,s,x,y,e,_,_=>⟨x,y,by rw[qX (by rw[Ir];simp;lia),Cm];rfl⟩
 | m + 1,k,s,x,y,e,hs,hre=>by
  have hk:k<h.n:=by lia
  have hn:=g.len;have hre2:=ZRE (h:=h) (yt:=yt) (lv:=lv) (s:=s) (k:=k);obtain⟨x',y',ih⟩:=ZD9 g m (k+1) (h.step yt lv s k) (zI k) (zI (h.last k:Int)) (by lia) (ZHu g hk hs) (by lia);refine⟨x',y',?_⟩;have e0:(Dm (tab h.n λi=>(h.last i:Int))).drop k=.tup [.int k,.int (h.last k:Int)]::(Dm (tab h.n λi=>(h.last i:Int))).drop (k+1):=by rw[qZ (by rw[Ir];simpa using hk)];simp[Dm,tab]
  have hml:(h.mem k).length<=1000000:=by have:=ZF8 (h:=h) (m:=k);lia
  have hb:Mu [zR G.length,zF (tab h.n λi=>(h.last i:Int)),zI k,zI (h.last k:Int)] (csH G h.n h.enc (.tup (tab h.n lv)) yt s)=
    .nx [zR G.length,zF (tab h.n λi=>(h.last i:Int)),zI k,zI (h.last k:Int)] (csH G h.n h.enc (.tup (tab h.n lv)) yt (h.step yt lv s k)):=by
   unfold Mu Hs.step;by_cases hB:(h.pl k).kd.isB=vH
   ·simp[Jd,Cp,Hs.Eb hk,Gu,hB,J0 ZQx,ZRJ g hk hB]
   ·by_cases hl:h.last k=k
    ·have hc:Dc (Dp 0 (.fl (tab h.n λi=>(h.last i:Int)))) (Ao 2 (Ae (gV 0) (Ae (gV 1) Ax))) P0 Rv (Ay 2 [2] [zR G.length,zF (tab h.n λi=>(h.last i:Int)),zI k,zI (k:Int)]) h.n 0 (csH G h.n h.enc (.tup (tab h.n lv)) yt s)=.ok (Ar (h.mem k)) (csH G h.n h.enc (.tup (tab h.n lv)) yt s):=ZPe rfl _;simp[Jd,Cp,Hs.Eb hk,Gu,hB,hl,J0 ZLP,Ey,Iw,lenOf,hc,Ah,hml,Qt,ZLo g hk hl hs.1 (by lia)]
    ·have hl':¬((h.last k:Int)=(k:Int)):=by lia
     simp[Jd,Cp,Hs.Eb hk,Gu,hB,hl,hl']
  rw[e0,Bu];simp only[N8,N7,Mi,Cg,R.Hk,R.Cd,qx,hb,Cq,qQ,jK,Nat.reduceAdd,if_true];exact ih
theorem ZRU(g:GoodH h)(hs:s.NN h.n)(hre:s.rea=[]):Vm [.ref G.length] (csH G h.n h.enc (.tup (tab h.n lv)) yt s)=.ok .non (csH G h.n h.enc (.tup (tab h.n lv)) yt (h.goF yt lv h.n 0 s)):=by
 obtain⟨x',y',hL⟩:=ZD9 (G:=G) (yt:=yt) (lv:=lv) g h.n 0 s vG vG (by lia) hs (by rw[hre];simp);rw[xq]at hL;unfold Vm ZI6;rw[Aw];have hz:∀S G',Dh (Dp 0 (.fl (tab h.n λi=>(h.last i:Int)))) (Ao 2 (Ae (gV 2) (Ae (gV 3) Ax))) Mu h.n 0 S G'=Aq (Ao 2 (Ae (gV 2) (Ae (gV 3) Ax))) Mu (Dm (tab h.n λi=>(h.last i:Int))) S G':=λS G'=>O4 Vj (by rw[Ir];simp)
 simp[Jd,ZME g,Qt,Ey,Iw,lenOf,hz,hL,Jx]
end
def Am(n:Nat)(co:Nat->Nat->Int):List D:=(zQ n).map λk=>D.tup (tab 5 (co k))
def stD(n:Nat)(lv:Nat->Int)(co:Nat->Nat->Int):D:=.tup [.tup (tab n lv),.tup (Am n co)]
@[simp]theorem ZVP{n:Nat}:bels m (Am n co)=vH:=Ec λk _=>by simp[Hc]
@[simp]theorem ZPc{n:Nat}:bels m (Cj n pg)=vH:=Ec λk _=>ZKL
@[simp]theorem ZV7{n:Nat}:(Am n co).length=n:=by simp[Am]
def Gr(co:Nat->Nat->Int):Nat->Nat->Int:=λk j=>if j<4 then co k (j+1)else 0
def cs0(co:Nat->Nat->Int)(fl:Nat->Int):Cs:=⟨λk=>fl k+co k 0,Gr co,λ_=>[],[]⟩
theorem tab5:tab 5 F=[.int (F 0),.int (F 1),.int (F 2),.int (F 3),.int (F 4)]:=rfl
theorem La{c f:Str}{fs:List (Str×D)}{d:D}(hl:fs.length<1000):Nq c f (.ref G.length) d S (G++ .ins c fs::L)=.nx S (G++ .ins c (Fw f d fs)::L):=by
 rw[ZQt (fs:=fs) (by rw[Cw];rfl) hl,Dz]
 rfl
theorem ZLK{n:Nat}{fl:Nat->Int}(G:DH):Dc (Ew [.tup (tab n fl),.tup (Am n co)]) (Ao 2 (Ae (gV 0) (Ae (gV 1) Ax))) Bd Uo (Ay 2 [] S) n 0 G=.ok (tab n λk=>fl k+co k 0) G:=by
 have he:Ke (tab n fl) (Am n co)=(zQ n).map λ(i:Nat)=>D.tup [.int (fl i),.tup (tab 5 (co i))]:=by refine qN (by simp[Ke]) λi h1 h2=>by simp[Ke,tab,Am]
 rw[V4 (F:=λd=>match d with | .tup [.int c,.tup (.int a::_)]=>zI (c+a)|_=>vG) (λj=>Xy (Jh (xs:=tab n fl)) (Jh (xs:=Am n co)) j) (λx hx=>?_) (by rw[he];simp)]
 ·congr 1
  rw[he,qw];show(zQ n).filterMap (λi=>zI (fl i+co i 0))=_;rw[qB]
  rfl
 ·rw[he]at hx;obtain⟨i,_,rfl⟩:=zO.mp hx;refine⟨[zI (fl i),zT (tab 5 (co i))],by simp[Ay],.inr ⟨rfl,.int (fl i+co i 0),?_,by simp[tab5]⟩⟩;unfold Uo;simp[tab5]
theorem ZUN{k:Nat}(G:DH):O8 [zT (tab 5 (co k))] G=.ok (.ref G.length) (G++[.lst (tab 5 (Gr co k))]):=by
 have hcut:cutD (tab 5 (co k)) (vF 1) vG=[.int (co k 1),.int (co k 2),.int (co k 3),.int (co k 4)]:=rfl;have h1:K6 [.tup [.int (co k 1),.int (co k 2),.int (co k 3),.int (co k 4)]] G=.ok (.ref G.length) (G++[.lst [.int (co k 1),.int (co k 2),.int (co k 3),.int (co k 4)]]):=rfl;have h2:Ai (.fl [.int (co k 1),.int (co k 2),.int (co k 3),.int (co k 4)]) (.fl [.int 0]) G=.ok (.ref G.length) (G++[.lst (tab 5 (Gr co k))]):=rfl
 have hf:∀ds:List D,bels G.length ds=vH->freeze G (.ok (.ref G.length) (G++[.lst ds]))=.ok (.fl ds) G:=λds hb=>Dk hb
 unfold O8;simp[Jw,Qg,hcut,Hl,h1,hf,Ah,h2,Dr]
theorem ZH1{n:Nat}{co:Nat->Nat->Int}:∀(m k:Nat)(G:DH),k+m=n->Ck (gV 0) Bd O8 [vG] ((Am n co).drop k) G=.ok ((zQ m).map λj=>D.ref (G.length+j)) (G++(zQ m).map λj=>DO.lst (tab 5 (Gr co (k+j))))
 |0,k,G,e=>by rw[qX (by simp;lia)];simp[Ck]
 | m+1,k,G,e=>by
  have e0:(Am n co).drop k=.tup (tab 5 (co k))::(Am n co).drop (k+1):=by rw[qZ (by simp;lia)];simp[Am]
  have ih:=ZH1 (n:=n) (co:=co) m (k+1) (G++[.lst (tab 5 (Gr co k))]) (by lia);rw[e0,ZB1];simp only[Cg,R.Hk,qx,ZFX,if_true,ZUN,ih]
  congr 1
  ·rw[qS,zk,qP]
   congr 1
   refine qk λj _=>?_
   simp only[Function.comp,qj,jC]
   congr 1
   lia
  ·rw[qS,zk,qP,jB]
   congr 1
   show _::_=_::_
   congr 1
   refine qk λj _=>?_
   simp only[Function.comp]
   congr 3
   lia
theorem ZQW(g:GoodH h){fl:Nat->Int}:
  O7 [.ref G.length,h.enc,stD h.n lv co,.int at_,.tup (tab h.n fl)] (G++[.ins "Course" []])=.ok .non (csH G h.n h.enc (.tup (tab h.n lv)) (at_%h.yr) (cs0 co fl)):=by
 have hn:=g.len;have hyr:=g.yr;have hnl:h.n<=1000000:=by lia
 have p1:∀a:D,Fw "house" a (cfl [])=cfl [a]:=λ_=>rfl
 have p2:∀a b:D,Fw "levels" b (cfl [a])=cfl [a,b]:=λ_ _=>rfl
 have p3:∀a b c:D,Fw "year_turn" c (cfl [a,b])=cfl [a,b,c]:=λ_ _ _=>rfl
 have p4:∀a b c d:D,Fw "came" d (cfl [a,b,c])=cfl [a,b,c,d]:=λ_ _ _ _=>rfl
 have p5:∀a b c d e:D,Fw "coming" e (cfl [a,b,c,d])=cfl [a,b,c,d,e]:=λ_ _ _ _ _=>rfl
 have p6:∀a b c d e f:D,Fw "page" f (cfl [a,b,c,d,e])=cfl [a,b,c,d,e,f]:=λ_ _ _ _ _ _=>rfl
 have p7:∀a b c d e f q:D,Fw "reaches" q (cfl [a,b,c,d,e,f])=cfl [a,b,c,d,e,f,q]:=λ_ _ _ _ _ _ _=>rfl
 have hl:∀ds,(cfl ds).length<1000:=λds=>by unfold cfl;rw[List.length_zip];have:(["house","levels","year_turn","came","coming","page","reaches"]:List Str).length=7:=rfl;lia
 have hz:∀G',Ex 2 [.tup (tab h.n fl),.tup (Am h.n co)] G'=.ok (.fn h.n (Ew [.tup (tab h.n fl),.tup (Am h.n co)])) G':=λG'=>by rw[Ux Jh Jh];simp
 have hcc:=λG'=>ZH1 (n:=h.n) (co:=co) h.n 0 G' (by lia)
 simp only[xq,Nat.zero_add]at hcc;have hcs:∀S:DSt,Ay 1 [] S=[vG]:=λ_=>rfl
 have epg:zV h.n D.non=Cj h.n λ_=>[]:=by unfold Cj;refine qN (by simp) λi h1 h2=>by simp[Jc]
 let S:DSt:=[zR G.length,vF h.enc,vF (stD h.n lv co),zI at_,zT (tab h.n fl),zT (tab h.n lv),zT (Am h.n co)];have hS:S=[zR G.length,vF h.enc,vF (stD h.n lv co),zI at_,zT (tab h.n fl),zT (tab h.n lv),zT (Am h.n co)]:=rfl;let R5:DH:=(zQ h.n).map λk=>DO.lst (tab 5 (Gr co k))
 have hR5:R5.length=h.n:=by simp[R5]
 let W:List D->DH->DH:=λL t=>G++ .ins "Course" (cfl L)::t
 let B:D:=.tup (tab h.n lv);let Y:D:=.int (at_%h.yr);let T1:DO:=.lst (tab h.n λk=>fl k+co k 0);have q1:Er "Course" (dV 0) (dV 1) "house" S (W [] [])=.nx S (W [h.enc] []):=by rw[K9,hS];simp only[W,B,ZBV,jO,jx,R.Cd,La (hl _),p1]
 have q2:Er "Course" (dV 0) (dV 5) "levels" S (W [h.enc] [])=.nx S (W [h.enc,B] []):=by rw[K9,hS];simp only[W,B,ZBV,jO,jx,R.Cd,La (hl _),p2]
 have q3:Er "Course" (dV 0) (dOp Az (dV 3) (dOp Ad (dV 1) (dC (.int 0)))) "year_turn" S (W [h.enc,B] [])=.nx S (W [h.enc,B,Y] []):=by rw[K9,hS];simp[W,B,Y,T1,ZTK,hyr,La (hl _),p3]
 have q4:Er "Course" (dV 0) (Bx (Bk (Ex 2) (Aa (dV 4) (Aa (dV 6) Ab))) 2 [] (Ao 2 (Ae (gV 0) (Ae (gV 1) Ax))) Bd Uo) "came" S (W [h.enc,B,Y] [])=
   .nx S (W [h.enc,B,Y,.ref (G.length+1)] (T1::[])):=by
  rw[K9,hS];simp[W,B,Y,T1,hz,ZLK,Ah,hnl,La (hl _),p4]
 have q5:Er "Course" (dV 0) (Bx (Dt (dV 6)) 1 [] (gV 0) Bd O8) "coming" S (W [h.enc,B,Y,.ref (G.length+1)] (T1::[]))=
   .nx S (W [h.enc,B,Y,.ref (G.length+1),.ref (G.length+(2+h.n))] (T1::(R5++[.lst (Ds G.length h.n)]))):=by
  have hi:Gg (.tup (Am h.n co)) (W [h.enc,B,Y,.ref (G.length+1)] (T1::[]))=.ok (.pure (Am h.n co)) (W [h.enc,B,Y,.ref (G.length+1)] (T1::[])):=rfl;have er:∀L:DH,L.length=2->(zQ h.n).map (λj=>D.ref ((G++L).length+j))=Ds G.length h.n:=λL e=>by
   unfold Ds;refine qk λj _=>?_
   rw[qj,e,Nat.add_assoc]
  have hc2:=hcc (W [h.enc,B,Y,.ref (G.length+1)] (T1::[]));rw[er _ rfl]at hc2;have hml:∀G',Ah (Ds G.length h.n) G'=.ok (.ref G'.length) (G'++[.lst (Ds G.length h.n)]):=λG'=>by simp[Ah,Ds,hnl]
  rw[K9,hS];simp only[W,B,Y,T1,ZLj,ZOK,ZBV,jO,jx,R.Hk,hi,hcs,hc2,hml,R.Cd];have e2:(G++DO.ins "Course" (cfl [h.enc,.tup (tab h.n lv),.int (at_%h.yr),.ref (G.length+1)]):: .lst (tab h.n λk=>fl k+co k 0)::[]++(zQ h.n).map λj=>DO.lst (tab 5 (Gr co j))).length=G.length+(2+h.n):=by simp;lia
  rw[e2];simp only[W,jB,List.cons_append,xW];rw[La (hl _),p5]
 have q6:Er "Course" (dV 0) (Cr (dOp Ik (dFn Ah (Aa (dC .non) Ab)) (dFn Bm (Aa (dV 5) Ab)))) "page" S (W [h.enc,B,Y,.ref (G.length+1),.ref (G.length+(2+h.n))] (T1::(R5++[.lst (Ds G.length h.n)])))=
   .nx S (W [h.enc,B,Y,.ref (G.length+1),.ref (G.length+(2+h.n)),.ref (G.length+(3+h.n))] (T1::(R5++[.lst (Ds G.length h.n),.lst (Cj h.n λ_=>[])]))):=by
  rw[K9,hS];generalize hQ:W [h.enc,B,Y,.ref (G.length+1),.ref (G.length+(2+h.n))] (T1::(R5++[.lst (Ds G.length h.n)]))=Q;have eQ:Q.length=G.length+(3+h.n):=by rw[<-hQ];simp[W,hR5];lia
  have hrep:Ik (.ref Q.length) (.int (h.n:Int)) (Q++[.lst [.non]])=.ok (.ref (Q.length+1)) (Q++[.lst [.non],.lst (Cj h.n λ_=>[])]):=by rw[ZJs (d:=.non) (by rw[Cw];rfl) (by lia),epg];simp
  have ht:tidy Q (.ok (.ref (Q.length+1)) (Q++[.lst [.non],.lst (Cj h.n λ_=>[])]))=.ok (.ref Q.length) (Q++[.lst (Cj h.n λ_=>[])]):=ZBG _ (k:=1) rfl ZPc;have hst:Nq "Course" "page" (.ref G.length) (.ref Q.length) S (Q++[.lst (Cj h.n λ_=>[])])=.nx S (W [h.enc,B,Y,.ref (G.length+1),.ref (G.length+(2+h.n)),.ref (G.length+(3+h.n))] (T1::(R5++[.lst (Ds G.length h.n),.lst (Cj h.n λ_=>[])]))):=by rw[eQ,<-hQ];simp only[W,jB,List.cons_append,xW];rw[La (hl _),p6]
  rw[hS]at hst;simp[Ah,hrep,ht,hst]
 have q7:Er "Course" (dV 0) (Cr (dFn Ah Ab)) "reaches" S (W [h.enc,B,Y,.ref (G.length+1),.ref (G.length+(2+h.n)),.ref (G.length+(3+h.n))] (T1::(R5++[.lst (Ds G.length h.n),.lst (Cj h.n λ_=>[])])))=
   .nx S (W [h.enc,B,Y,.ref (G.length+1),.ref (G.length+(2+h.n)),.ref (G.length+(3+h.n)),.ref (G.length+(4+h.n))] (T1::(R5++[.lst (Ds G.length h.n),.lst (Cj h.n λ_=>[]),.lst []]))):=by
  rw[K9,hS];generalize hQ:W [h.enc,B,Y,.ref (G.length+1),.ref (G.length+(2+h.n)),.ref (G.length+(3+h.n))] (T1::(R5++[.lst (Ds G.length h.n),.lst (Cj h.n λ_=>[])]))=Q;have eQ:Q.length=G.length+(4+h.n):=by rw[<-hQ];simp[W,hR5];lia
  have ht:tidy Q (.ok (.ref Q.length) (Q++[.lst []]))=.ok (.ref Q.length) (Q++[.lst []]):=Dr rfl;have hst:Nq "Course" "reaches" (.ref G.length) (.ref Q.length) S (Q++[.lst []])=.nx S (W [h.enc,B,Y,.ref (G.length+1),.ref (G.length+(2+h.n)),.ref (G.length+(3+h.n)),.ref (G.length+(4+h.n))] (T1::(R5++[.lst (Ds G.length h.n),.lst (Cj h.n λ_=>[]),.lst []]))):=by rw[eQ,<-hQ];simp only[W,jB,List.cons_append,xW];rw[La (hl _),p7]
  rw[hS]at hst;simp[Ah,ht,hst]
 have htd:tidy (G++[.ins "Course" []]) (.ok .non (csH G h.n h.enc (.tup (tab h.n lv)) (at_%h.yr) (cs0 co fl)))=.ok .non (csH G h.n h.enc (.tup (tab h.n lv)) (at_%h.yr) (cs0 co fl)):=ZNR λz=>by
  have h1:=congrArg (λl:DH=>l[G.length]?) z;simp only[qj,jC]at h1;rw[j7 (by lia),Ja]at h1;have h2:(G++[DO.ins "Course" []])[G.length]?=vF (.ins "Course" []):=by rw[Cw];rfl
  rw[h2]at h1;simp[cflds,cfl]at h1
 have q0:sAs (dV 2) (Ao 2 (Ae (gV 5) (Ae (gV 6) Ax))) [zR G.length,vF h.enc,vF (stD h.n lv co),zI at_,zT (tab h.n fl),vG,vG] (G++[.ins "Course" []])=.nx S (W [] []):=by
  simp[stD,hS]
  rfl
 unfold O7 ZHq;rw[Aw];have h5: [D.ref G.length,h.enc,stD h.n lv co,.int at_,.tup (tab h.n fl)].length=5:=rfl;rw[if_pos h5];have hd:([D.ref G.length,h.enc,stD h.n lv co,.int at_,.tup (tab h.n fl)].map vF++zV 2 vG)=[zR G.length,vF h.enc,vF (stD h.n lv co),zI at_,zT (tab h.n fl),vG,vG]:=rfl;rw[hd];simp only[Oz,q0,Vg,q1,q2,q3,q4,q5,q6,q7,ZL0];exact htd
section
variable{h:Hs}{yt:Int}{lv:Nat->Int}
theorem Zm(g:GoodH h):∀(m k:Nat),h.n<=m+k->h.last k=k∨(h.pl (h.last k)).kd.isB=vI
 |0,k,e=>.inl (Ha g (M4 (by lia)))
 | m + 1,k,e=>by
  cases hd:h.dir k with
  |none=>exact .inl (Ha g hd)
  | some d=>
   have hl:=Jv g hd;rw[Lx g hd];rcases Zm g m d (by lia)with z|z
   ·refine .inr ?_;rw[z];unfold Hs.dir at hd;cases h1:h.dn k with
    |none=>rw[h1]at hd;cases hd
    | some d'=>
     rw[h1]at hd;simp only at hd;split at hd
     ·cases hd
     ·rename_i hn;cases hd;cases e2:(h.pl d).kd.isB with
      |false=>rfl
      |true=>exact absurd (.inr (.inr e2)) hn
   ·exact .inr z
theorem Xz(g:GoodH h):∀(m k:Nat),h.n<=m+k->h.last (h.last k)=h.last k
 |0,k,e=>by have h1:=Ha g (h:=h) (k:=k) (M4 (by lia));rw[h1,h1]
 | m+1,k,e=>by
  cases hd:h.dir k with
  |none=>rw[Ha g hd,Ha g hd]
  |some d=>
   have hl:=Jv g hd;rw[Lx g hd];exact Xz g m d (by lia)
def Hs.done(h:Hs)(j k:Nat):Prop:=if(h.pl k).kd.isB=vH then k<j else h.last k<j
theorem ZUr(g:GoodH h){k:Nat}(hk:k<h.n)(hf:∀i,i<h.n->h.done k i->(s.page i).length=6):∀i,i<h.n->h.done (k+1) i->((h.step yt lv s k).page i).length=6:=λi hi hd=>by
 unfold Hs.step;split
 ·rename_i hB;by_cases e:i=k
  ·subst e;exact(Xe hB).1
  ·rw[(Xe hB).2 i e];refine hf i hi ?_;unfold Hs.done at hd⊢;by_cases hiB:(h.pl i).kd.isB=vH
   ·rw[if_pos hiB]at hd⊢;lia
   ·rw[if_neg hiB]at hd⊢;rcases j0 (h.last i) k with z|z
    ·exact z
    ·have e2:h.last i=k:=by lia
     rcases Zm g h.n i (by lia)with z2|z2
     ·rw[z2]at e2;exact absurd e2 e
     ·rw[e2,hB]at z2;cases z2
 ·rename_i hB;split
  ·rename_i hl;rw[ZBw];split
   ·rfl
   ·rename_i hm;refine hf i hi ?_;unfold Hs.done at hd⊢;by_cases hiB:(h.pl i).kd.isB=vH
    ·rw[if_pos hiB]at hd⊢;rcases j0 i k with z|z
     ·exact z
     ·have e2:i=k:=by lia
      rw[e2]at hiB;exact absurd hiB hB
    ·rw[if_neg hiB]at hd⊢;rcases j0 (h.last i) k with z|z
     ·exact z
     ·exact absurd (mem_iff.mpr ⟨hi,by lia⟩) hm
  ·rename_i hl;refine hf i hi ?_;unfold Hs.done at hd⊢;by_cases hiB:(h.pl i).kd.isB=vH
   ·rw[if_pos hiB]at hd⊢;rcases j0 i k with z|z
    ·exact z
    ·have e2:i=k:=by lia
     rw[e2]at hiB;exact absurd hiB hB
   ·rw[if_neg hiB]at hd⊢;rcases j0 (h.last i) k with z|z
    ·exact z
    ·have e2:h.last i=k:=by lia
     have:=Xz g h.n i (by lia);rw[e2]at this;exact absurd this hl
theorem ZB4(g:GoodH h):∀(m k:Nat)(s:Cs),k+m=h.n->(∀i,i<h.n->h.done k i->(s.page i).length=6)->∀i,i<h.n->((h.goF yt lv m k s).page i).length=6
 | 0,k,s,e,hf,i,hi=>hf i hi (by
   unfold Hs.done;split
   ·lia
   ·have:=(I8 g i).2 hi;lia)
 |m+1,k,s,e,hf,i,hi=>ZB4 g m (k+1) _ (by lia) (ZUr g (by lia) hf) i hi
theorem ZFr(g:GoodH h):∀(m k:Nat)(s:Cs),k+m=h.n->s.NN h.n->(h.goF yt lv m k s).NN h.n
 |0,k,s,e,hs=>hs
 |m+1,k,s,e,hs=>ZFr g m (k+1) _ (by lia) (ZHu g (by lia) hs)
end
def lies(pg:Nat->List Int):Nat->Int:=λk=>(pg k).getD 5 0
theorem row6(h:l.length=6):∃a b c d e f,l=[a,b,c,d,e,f]:=by
 match l,h with
 |[a,b,c,d,e,f],_=>exact⟨a,b,c,d,e,f,rfl⟩
section
variable{G:DH}{h:Hs}{LV:D}{yt:Int}{s:Cs}
theorem ZSF(hf:∀k,k<h.n->(s.page k).length=6):Fy (G.length+(3+h.n)) (gV 0) Bd Vb (Ay 1 [] S) h.n 0 (csH G h.n h.enc LV yt s)=.ok (tab h.n (lies s.page)) (csH G h.n h.enc LV yt s):=by
 have hx:=ZFs (i:=G.length+(3+h.n)) (g:=gV 0) (c:=Bd) (te:=Vb) (S:=Ay 1 [] S) (G:=csH G h.n h.enc LV yt s) (F:=λd=>match d with | .tup [_,_,_,_,_,x]=>vF x|_=>vG) K4 (λx hx=>by obtain⟨k,hk,rfl⟩:=zO.mp hx;obtain⟨a,b,c,d,e,f,el⟩:=row6 (hf k (qz.mp hk));rw[el];refine⟨[vF (Jc [a,b,c,d,e,f])],by simp[Ay],.inr ⟨rfl,.int f,?_,rfl⟩⟩;unfold Vb;simp[Jc])
 rw[ZMt]at hx;rw[hx]
 congr 1
 unfold Cj;rw[qw];unfold tab;rw[<-qB];refine V8 λk hk=>?_
 obtain⟨a,b,c,d,e,f,el⟩:=row6 (hf k (qz.mp hk));simp[Function.comp,el,Jc,lies]
theorem ZLD:Fy (G.length+(2+h.n)) (gV 0) Bd Tf (Ay 1 [] S) h.n 0 (csH G h.n h.enc LV yt s)=.ok (Am h.n s.coming) (csH G h.n h.enc LV yt s):=by
 have hlen:(Ds G.length h.n).length=h.n:=by simp[Ds]
 have hx:=ZFs (i:=G.length+(2+h.n)) (g:=gV 0) (c:=Bd) (te:=Tf) (S:=Ay 1 [] S) (G:=csH G h.n h.enc LV yt s) (F:=λd=>match d with | .ref j=>zT (tab 5 (s.coming (j-(G.length+2))))|_=>vG) Rb (λx hx=>by
  obtain⟨k,hk,rfl⟩:=zO.mp hx;refine⟨[zR (G.length+(2+k))],by simp[Ay],.inr ⟨rfl,.tup (tab 5 (s.coming k)),?_,?_⟩⟩
  ·unfold Tf;simp[ZBi (qz.mp hk)]
  ·have e:G.length+(2+k)-(G.length+2)=k:=by lia
   simp only[e])
 rw[hlen]at hx;rw[hx]
 congr 1
 unfold Ds;rw[qw];unfold Am;rw[<-qB];refine V8 λk hk=>?_
 have e:G.length+(2+k)-(G.length+2)=k:=by lia
 simp only[Function.comp,e]
theorem ZRD(g:GoodH h)(hf:∀k,k<h.n->(s.page k).length=6):V5 [.ref G.length] (csH G h.n h.enc LV yt s)=.ok (stD h.n (lies s.page) s.coming) (csH G h.n h.enc LV yt s):=by
 have hn:=g.len;have hnl:h.n<=1000000:=by lia
 have hl2:(Ds G.length h.n).length=h.n:=by simp[Ds]
 have hb:bel (csH G h.n h.enc LV yt s).length (stD h.n (lies s.page) s.coming)=vH:=by simp[stD]
 unfold V5 ZC0;rw[Aw];unfold stD at hb⊢;have i1:Gg (.ref (G.length+(3+h.n))) (csH G h.n h.enc LV yt s)=.ok (.mt (G.length+(3+h.n))) (csH G h.n h.enc LV yt s):=by simp[Gg,K4]
 have i2:Gg (.ref (G.length+(2+h.n))) (csH G h.n h.enc LV yt s)=.ok (.mt (G.length+(2+h.n))) (csH G h.n h.enc LV yt s):=by simp[Gg,Rb]
 simp[i1,i2,Nh,K4,ZSF hf,Ah,hnl,Qt,An,ZDU,Rb,hl2,ZLD,Be]
def Hs.cs(h:Hs)(lv:Nat->Int)(co:Nat->Nat->Int)(at_:Int)(fl:Nat->Int):Cs:=h.goF (at_%h.yr) lv h.n 0 (cs0 co fl)
theorem ZJC{n:Nat}{fl:Nat->Int}(hc:∀k j,k<n->j<5->0<=co k j)(hf:∀k,k<n->0<=fl k):(cs0 co fl).NN n:=by
 refine⟨λk hk=>?_,λk j hk hj=>?_⟩
 ·have:=hc k 0 hk (by lia);have:=hf k hk;show 0<=fl k+co k 0;lia
 ·show 0<=if j<4 then co k (j+1)else 0
  split
  ·exact hc k (j+1) hk (by lia)
  ·exact zL _
theorem ZKu(g:GoodH h){fl:Nat->Int}:∀k,k<h.n->((h.cs lv co at_ fl).page k).length=6:=ZB4 g h.n 0 _ (by lia) λi hi hd=>by
 unfold Hs.done at hd
 split at hd<;>lia
theorem ZLb(g:GoodH h){fl:Nat->Int}(hc:∀k j,k<h.n->j<5->0<=co k j)(hf:∀k,k<h.n->0<=fl k)(G:DH):
  Rf [h.enc,stD h.n lv co,.int at_,.tup (tab h.n fl)] G=.ok (.tup [.tup (Cj h.n (h.cs lv co at_ fl).page),stD h.n (lies (h.cs lv co at_ fl).page) (h.cs lv co at_ fl).coming]) G:=by
 have hgo:=ZRU (G:=G) (lv:=lv) (yt:=at_%h.yr) g (ZJC (fl:=fl) hc hf) rfl;have hst:=ZRD (G:=G) (LV:=.tup (tab h.n lv)) (yt:=at_%h.yr) g (ZKu g (lv:=lv) (fl:=fl) (co:=co) (at_:=at_));have hmk:W4 O7 "Course" [h.enc,stD h.n lv co,.int at_,.tup (tab h.n fl)] G=.ok (.ref G.length) (csH G h.n h.enc (.tup (tab h.n lv)) (at_%h.yr) (cs0 co fl)):=by
  unfold W4;rw[ZQW g]
  rfl
 have egs:h.goF (at_%h.yr) lv h.n 0 (cs0 co fl)=h.cs lv co at_ fl:=rfl;rw[egs]at hgo;have hcH:∀s,csH G h.n h.enc (.tup (tab h.n lv)) (at_%h.yr) s=G++csT G.length h.n h.enc (.tup (tab h.n lv)) (at_%h.yr) s:=λ_=>rfl
 have hbl:bel G.length (.tup [.tup (Cj h.n (h.cs lv co at_ fl).page),stD h.n (lies (h.cs lv co at_ fl).page) (h.cs lv co at_ fl).coming])=vH:=by simp[stD]
 unfold Rf ZJz;rw[Aw];simp[hmk,J0 ZQc,hgo,Nh,K4,J0 ZRN,hst,An];rw[hcH];exact Li hbl
end
theorem ZQB(hf:Cf ns f):∃u:Int,(u=1∨u=1000000000000000000000000000000)/\Cu ns u:=by
 have h0:∀G,Bc [nD ns,.int 0] G=.ok (.int (f 0)) G:=hf 0 (by lia);have fz:∀G:DH,freeze G (.ok (.ref G.length) (G++[.lst [.int 1,.int 1,.int 1000000000000000000000000000000]]))=.ok (.fl [.int 1,.int 1,.int 1000000000000000000000000000000]) G:=λG=>Dk rfl
 rcases(by lia:f 0/840%3=0∨f 0/840%3=1∨f 0/840%3=2)with h|h|h
 ·refine⟨1,.inl rfl,λG=>?_⟩;unfold Ho T6;rw[Aw];simp[h0,h,Ah,fz,Be]
 ·refine⟨1,.inl rfl,λG=>?_⟩;unfold Ho T6;rw[Aw];simp[h0,h,Ah,fz,Be]
 ·refine⟨1000000000000000000000000000000,.inr rfl,λG=>?_⟩;unfold Ho T6;rw[Aw];simp[h0,h,Ah,fz,Be]
def amt(c u:Int):Int:=u*(c%7)+c/7%u
theorem Q9(hu:0<u):0<=amt c u:=by unfold amt;have h1:0<=u*(c%7):=jE (by lia) (by lia);have h2:0<=c/7%u:=qT _ (by lia);lia
theorem Jt(hu:0<u)(G:DH):Ib [.int c,.int u] G=.ok (.int (amt c u)) G:=by
 have m1:∀G,Aj (.int u) (.int (c%7)) G=.ok (.int (u*(c%7))) G:=λG=>Gz (by lia) (by lia)
 unfold Ib ZEF;rw[Aw];simp[m1,hu,Be,amt]
def Ks(xs:Nat->Int)(u:Int)(p:Bool):Nat->Nat->Int->List Stp
 |0,_,_=>[]
 |n+1,j,low=>⟨low+u*(xs (1+j)%4),1+u*(xs (1+j)/4%4), !(p&&decide (xs (1+j)/16%2=1))⟩::Ks xs u p n (j+1) (low+u*(xs (1+j)%4)+(1+u*(xs (1+j)/4%4)))
theorem ZGB{xs:Nat->Int}(hu:0<u){p:Bool}:∀(n j:Nat)(low:Int),Good low (Ks xs u p n j low)
 |0,_,_=>trivial
 |n+1,j,low=>by have h1:0<=u*(xs (1+j)%4):=jE (by lia) (by lia);have h2:0<=u*(xs (1+j)/4%4):=jE (by lia) (by lia);exact⟨by show low<=low+_;lia,by show 1<=1+_;lia,ZGB hu n (j+1) _⟩
theorem ZJZ{xs:Nat->Int}:∀(n j:Nat)(low:Int),∀s∈Ks xs u vI n j low,s.r=vH
 |0,_,_,s,h=>by cases h
 |n+1,j,low,s,h=>by
  rcases zq.mp h with rfl|h
  ·simp
  ·exact ZJZ n (j+1) _ s h
theorem ZES{xs:Nat->Int}{u:Int}{p:Bool}{G:DH}:∀(n j:Nat)(low:Int)(acc:List Stp)(x y z:Option D),j+n<=3->acc.length+n<=10->∃x' y' z' l',
  Aq (gV 5) Oe (Bh j n) [zF (tab 4 xs),zI u,zB p,zR G.length,zI low,x,y,z] (G++[.lst (acc.map Stp.enc)])=
   .nx [zF (tab 4 xs),zI u,zB p,zR G.length,l',x',y',z'] (G++[.lst ((acc++Ks xs u p n j low).map Stp.enc)])
 |0,j,low,acc,x,y,z,h,ha=>⟨x,y,z,zI low,by rw[H9,Cm];simp[Ks]⟩
 | n+1,j,low,acc,x,y,z,h,ha=>by
  have hj:1+j<4:=by lia
  have a1:atI (tab 4 xs) (1+(j:Int))=zI (xs (1+j)):=Dg (k:=1+j) (by lia) (Lk hj);let s:Stp:=⟨low+u*(xs (1+j)%4),1+u*(xs (1+j)/4%4), !(p&&decide (xs (1+j)/16%2=1))⟩;obtain⟨x',y',z',l',ih⟩:=ZES (xs:=xs) (u:=u) (p:=p) (G:=G) n (j+1) (s.h+s.m) (acc++[s]) (zI j) (zI s.m) (zS (wy s.r)) (by lia) (by simp;lia);refine⟨x',y',z',l',?_⟩;have m1:∀G,Aj (.int u) (.int (xs (1+j)%4)) G=.ok (.int (u*(xs (1+j)%4))) G:=λG=>Gz (by lia) (by lia)
  have m2:∀G,Aj (.int u) (.int (xs (1+j)/4%4)) G=.ok (.int (u*(xs (1+j)/4%4))) G:=λG=>Gz (by lia) (by lia)
  have hal:acc.length<1000000:=by lia
  have hb:Oe [zF (tab 4 xs),zI u,zB p,zR G.length,zI low,zI j,y,z] (G++[.lst (acc.map Stp.enc)])=
    .nx [zF (tab 4 xs),zI u,zB p,zR G.length,zI (s.h+s.m),zI j,zI s.m,zS (wy s.r)] (G++[.lst ((acc++[s]).map Stp.enc)]):=by
   unfold Oe;cases p with
   |false=>simp[a1,m1,m2,Cw,Dz,hal,An,s,Stp.enc,wy]
   |true=>
    by_cases h16:xs (1+j)/16%2=1
    ·simp[a1,m1,m2,h16,Cw,Dz,hal,An,s,Stp.enc,wy]
    ·simp[a1,m1,m2,h16,Cw,Dz,hal,An,s,Stp.enc,wy]
  rw[Ge,Bu];simp only[Cg,R.Cd,qx,hb,Cq];have e1:((j:Int)+1)=((j+1:Nat):Int):=by lia
  rw[e1,ih];simp[Ks,s]
def stps(xs:Nat->Int)(u:Int)(p:Bool):List Stp:=Ks xs u p (xs 0%4).toNat 0 0
theorem ZJ0{xs:Nat->Int}{p:Bool}(G:DH):Ve [.fl (tab 4 xs),.int u,.bl p] G=.ok (.tup ((stps xs u p).map Stp.enc)) G:=by
 have hn:(xs 0%4).toNat<=3:=by lia
 obtain⟨x',y',z',l',hL⟩:=ZES (xs:=xs) (u:=u) (p:=p) (G:=G) (xs 0%4).toNat 0 0 [] vG vG vG (by lia) (by simp;lia);have hL':Aq (gV 5) Oe (Bh 0 (xs 0%4).toNat) [zF (tab 4 xs),zI u,zB p,zR G.length,zI 0,vG,vG,vG] (G++[.lst []])=.nx [zF (tab 4 xs),zI u,zB p,zR G.length,l',x',y',z'] (G++[.lst ((stps xs u p).map Stp.enc)]):=hL;have a0:atI (tab 4 xs) 0=zI (xs 0):=Dg (k:=0) rfl (Lk (by lia))
 have hr:inR (xs 0%4):=Ed (by lia) (by lia);unfold Ve ZJp;rw[Aw];simp[Ah,Dr,a0,hr,hL',Cw,Li]
def Do(st:List Stp):Int:=match st with
 |[]=>0
 |s::r=>(if s.r then 0 else s.m)+Do r
theorem ZDY{c:D}{G:DH}:∀(st:List Stp)(v:Int)(x y z:Option D),∃x' y' z',Aq (Ao 3 (Ae (gV 2) (Ae (gV 3) (Ae (gV 4) Ax)))) Ug (st.map Stp.enc) [vF c,zI v,x,y,z] G=.nx [vF c,zI (v+Do st),x',y',z'] G
 |[],v,x,y,z=>⟨x,y,z,by simp[Do,Cm]⟩
 | s::st,v,x,y,z=>by
  let v1:Int:=v+if s.r then 0 else s.m
  obtain⟨x',y',z',ih⟩:=ZDY (c:=c) (G:=G) st v1 (zI s.h) (zI s.m) (zS (wy s.r));refine⟨x',y',z',?_⟩;have hb:Ug [vF c,zI v,zI s.h,zI s.m,zS (wy s.r)] G=.nx [vF c,zI v1,zI s.h,zI s.m,zS (wy s.r)] G:=by
   unfold Ug
   cases e:s.r<;>simp[v1,e]
  rw[zk,Bu];simp[Stp.enc,hb];rw[ih];simp[Do,v1,Int.add_assoc]
theorem ZM9(G:DH):Ra [.tup (st.map Stp.enc)] G=.ok (.int (Do st)) G:=by obtain⟨x',y',z',hL⟩:=ZDY (c:=.tup (st.map Stp.enc)) (G:=G) st 0 vG vG vG;unfold Ra ZGh;rw[Aw];simp at hL;simp[hL,Be]
theorem ZTO(hf:Cf ns f):∃y:Int,(1<=y/\y<=24)/\∀G,Ml [nD ns] G=.ok (.int y) G:=by have h1:∀G,Bc [nD ns,.int 1] G=.ok (.int (f 1)) G:=hf 1 (by lia);refine⟨1+f 1%4,by lia,λG=>?_⟩;unfold Ml ZHz;rw[Aw];simp[h1,Be]
def Ef(lat:Nat->Int)(cel:Nat->Nat->Int)(u:Int)(p:Bool)(yr:Int):Nat->Nat->Int->List Ssn
 |0,_,_=>[]
 |m+1,j,bg=>if j=0∨(lat j%2=1/\bg+1<yr)then(if 0<j then bg+1+lat j/2%(yr-bg-1)else bg,stps (cel j) u p)::Ef lat cel u p yr m (j+1) (if 0<j then bg+1+lat j/2%(yr-bg-1)else bg)
  else Ef lat cel u p yr m (j+1) bg
theorem ZA0{lat:Nat->Int}{cel:Nat->Nat->Int}(hu:0<u){p:Bool}:∀(m j:Nat)(bg:Int),∀s∈Ef lat cel u p yr m j bg,Good 0 s.2/\(p=vI->∀t∈s.2,t.r=vH)
 |0,_,_,s,h=>by cases h
 | m+1,j,bg,s,h=>by
  unfold Ef at h;split at h
  ·rcases zq.mp h with rfl|h
   ·refine⟨ZGB hu _ _ _,λhp=>?_⟩;subst hp;exact ZJZ _ _ _
   ·exact ZA0 hu m (j+1) _ s h
  ·exact ZA0 hu m (j+1) _ s h
theorem Ud{lat:Nat->Int}{cel:Nat->Nat->Int}{u:Int}{p:Bool}{yr:Int}:∀(m j:Nat)(bg:Int),0<j->bg<yr->(∀s∈Ef lat cel u p yr m j bg,bg<s.1/\s.1<yr)/\(Ef lat cel u p yr m j bg).Pairwise (λa b:Ssn=>a.1<b.1)
 |0,_,_,_,_=>⟨λs h=>(nomatch h),List.Pairwise.nil⟩
 | m+1,j,bg,hj,hb=>by
  unfold Ef;split
  ·rename_i hc;have hc2:bg+1<yr:=by
    rcases hc with z|z
    ·lia
    ·exact z.2
   have h1:0<=lat j/2%(yr-bg-1):=qT _ (by lia);have h2:lat j/2%(yr-bg-1)<yr-bg-1:=jJ _ (by lia);obtain⟨i1,i2⟩:=Ud (lat:=lat) (cel:=cel) (u:=u) (p:=p) (yr:=yr) m (j+1) (bg+1+lat j/2%(yr-bg-1)) (by lia) (by lia);refine⟨λs hs=>?_,List.pairwise_cons.mpr ⟨λs hs=>(i1 s hs).1,i2⟩⟩;rcases zq.mp hs with rfl|hs
   ·exact⟨by show bg<bg+1+_;lia,by show bg+1+_<yr;lia⟩
   ·have:=i1 s hs;lia
  ·exact Ud m (j+1) bg (by lia) hb
theorem Kl{n:Nat}{F:Nat->D}(h:∀k:Nat,k<n->te (S.set 0 (zI k)) G=.ok (F k) G):Ck (gV 0) Bd te S (Bh 0 n) G=.ok ((zQ n).map F) G:=by
 have e:Bh 0 n=(zQ n).map λ(i:Nat)=>D.int (i:Int):=by
  refine jD λi=>?_
  simp[Bh]
 rw[Su (F:=λd=>match d with | .int i=>vF (F i.toNat)|_=>vG) (λq hq=>?_)]
 ·congr 1
  rw[e,qw];show(zQ n).filterMap (λ(i:Nat)=>vF (F ((i:Int).toNat)))=_;rw[qB];simp
 ·rw[e]at hq;obtain⟨i,hi,rfl⟩:=zO.mp hq;exact⟨S.set 0 (zI i),by simp,.inr ⟨rfl,F i,h i (qz.mp hi),by simp⟩⟩
def N6:Nat->Int
 |0=>1
 |1=>48
 |2=>2304
 |_=>110592
def Oc:Nat->Int
 |0=>1
 |1=>64
 |2=>4096
 |_=>262144
theorem ZIo(hf:Cf ns f){b:Nat}(hb:b<=900)(hj:j<4)(G:DH):
  Ck (gV 0) Bd Yv [vG,zN ns,zI b,zI j] (Bh 0 4) G=.ok (tab 4 λk=>f (b+5+(3*j+k)%6)/(1+7*((j:Int)/2))) G:=
 Kl (n:=4) (F:=λk=>.int (f (b+5+(3*j+k)%6)/(1+7*((j:Int)/2)))) λk hk=>by
  have h1:=hf (b+5+(3*j+k)%6) (by lia) G;have e1:((b+5+(3*j+k)%6:Nat):Int)=(b:Int)+5+(3*(j:Int)+k)%6:=by lia
  rw[e1]at h1;unfold Yv
  rcases(by lia:j=0∨j=1∨j=2∨j=3)with rfl|rfl|rfl|rfl<;>simp at h1⊢<;> simp[h1]
theorem ZTa(hf:Cf ns f){b:Nat}(hb:b<=900)(hj:j<4)(G:DH):
  Ck (gV 0) Bd Wm [vG,zN ns,zI b,zI j] (Bh 0 4) G=.ok (tab 4 λk=>f (b+5+k)/Oc j) G:=
 Kl (n:=4) (F:=λk=>.int (f (b+5+k)/Oc j)) λk hk=>by
  have h1:=hf (b+5+k) (by lia) G;have e1:((b+5+k:Nat):Int)=(b:Int)+5+k:=by lia
  rw[e1]at h1;have fz:freeze G (.ok (.ref G.length) (G++[.lst [.int 1,.int 64,.int 4096,.int 262144]]))=.ok (.fl [.int 1,.int 64,.int 4096,.int 262144]) G:=Dk rfl;unfold Wm
  rcases(by lia:j=0∨j=1∨j=2∨j=3)with rfl|rfl|rfl|rfl<;>simp[h1,Ah,fz,Oc]
theorem ZTh(hf:Cf ns f){b:Nat}(hb:b<=900){p:Bool}(hj:j<4):∃(lat:Int)(xs:Nat->Int),∀(G:DH)(bg:Int)(acc:List Ssn)(x y:Option D),acc.length<=10->bg<yr->∃bg' acc',
   Jp [zN ns,zI b,zI u,zB p,zI yr,zR G.length,zI bg,zI j,x,y] (G++[.lst (acc.map Bp)])=
    .nx [zN ns,zI b,zI u,zB p,zI yr,zR G.length,zI bg',zI j,zI lat,zF (tab 4 xs)] (G++[.lst (acc'.map Bp)])/\
   ((j=0∨(lat%2=1/\bg+1<yr))->bg'=(if 0<j then bg+1+lat/2%(yr-bg-1)else bg)/\acc'=acc++[(bg',stps xs u p)])/\
   (¬(j=0∨(lat%2=1/\bg+1<yr))->bg'=bg/\acc'=acc):=by
 obtain⟨tp,ht⟩:=ZF7 (ns:=ns);have h4:=hf (b+4) (by lia);have e4:((b+4:Nat):Int)=(b:Int)+4:=by lia
 rw[e4]at h4;let lat:Int:=if tp then f (b+4)/N6 j else f (b+4)*48271*((j:Int)*j+1)%10007
 let xs:Nat->Int:=if tp then λk=>f (b+5+k)/Oc j else λk=>f (b+5+(3*j+k)%6)/(1+7*((j:Int)/2))
 refine⟨lat,xs,λG bg acc x y ha hbg=>?_⟩;have hr:inR 4:=Ed (by lia) (by lia);have hal:acc.length<1000000:=by lia
 have fz:∀ds:List D,(∀m,bels m ds=vH)->freeze (G++[.lst (acc.map Bp)]) (.ok (.ref (G.length+1)) (G++[.lst (acc.map Bp),.lst ds]))=.ok (.fl ds) (G++[.lst (acc.map Bp)]):=λds h=>ZJx (h _)
 have cs1:∀a b c d e f' g h i j':Option D,Ay 1 [0,1,7] [a,b,c,d,e,f',g,h,i,j']=[vG,a,b,h]:=λ_ _ _ _ _ _ _ _ _ _=>rfl
 have mj:∀G,Aj (.int (j:Int)) (.int (j:Int)) G=.ok (.int ((j:Int)*j)) G:=λG=>Fj (by lia) (by lia)
 have mj2:∀G,Aj (.int (f (b+4)*48271)) (.int ((j:Int)*j+1)) G=.ok (.int (f (b+4)*48271*((j:Int)*j+1))) G:=λG=>Gz (by
   have:=jE (show(0:Int)<=j by lia) (show(0:Int)<=j by lia);lia) (by
   rcases(by lia:j=0∨j=1∨j=2∨j=3)with rfl|rfl|rfl|rfl<;>decide)
 have head:Jp [zN ns,zI b,zI u,zB p,zI yr,zR G.length,zI bg,zI j,x,y] (G++[.lst (acc.map Bp)])=
   Uj [zN ns,zI b,zI u,zB p,zI yr,zR G.length,zI bg,zI j,zI lat,zF (tab 4 xs)] (G++[.lst (acc.map Bp)]):=by
  unfold Jp ZGy ZIm;cases htp:tp with
  |false=>
   have e1:lat=f (b+4)*48271*((j:Int)*j+1)%10007:=by simp[lat,htp]
   have e2:xs=λk=>f (b+5+(3*j+k)%6)/(1+7*((j:Int)/2)):=by simp[xs,htp]
   rw[e1,e2];rw[htp]at ht;simp[h4,mj,mj2,hr,cs1,ZIo hf hb hj,Ah,fz,ht]
  |true=>
   have e1:lat=f (b+4)/N6 j:=by simp[lat,htp]
   have e2:xs=λk=>f (b+5+k)/Oc j:=by simp[xs,htp]
   rw[e1,e2];rw[htp]at ht;have dv:atI [D.int 1,D.int 48,D.int 2304,D.int 110592] (j:Int)=zI (N6 j):=by rcases(by lia:j=0∨j=1∨j=2∨j=3)with rfl|rfl|rfl|rfl<;>rfl
   have dd:∀G',Bv (.int (f (b+4))) (.int (N6 j)) G'=.ok (.int (f (b+4)/N6 j)) G':=λG'=>by rcases(by lia:j=0∨j=1∨j=2∨j=3)with rfl|rfl|rfl|rfl<;>simp[N6]
   have fz4:freeze (G++[.lst (acc.map Bp)]) (.ok (.ref (G.length+1)) (G++[.lst (acc.map Bp),.lst [D.int 1,D.int 48,D.int 2304,D.int 110592]]))=.ok (.fl [D.int 1,D.int 48,D.int 2304,D.int 110592]) (G++[.lst (acc.map Bp)]):=ZJx rfl;simp[h4,mj,mj2,hr,cs1,ZIo hf hb hj,Ah,fz,ht,fz4,dv,dd,ZTa hf hb hj]
 rw[head]
 clear_value lat xs
 by_cases hc:j=0∨(lat%2=1/\bg+1<yr)
 ·refine⟨_,_,?_,λ_=>⟨rfl,rfl⟩,λz=>absurd hc z⟩;unfold Uj;by_cases h0:j=0
  ·subst h0;simp[ZJ0,An,Cw,Dz,hal,Bp]
  ·have hc2:lat%2=1/\bg+1<yr:=by
    rcases hc with z|z
    ·exact absurd z h0
    ·exact z
   have hj0:0<j:=by lia
   have hp:0<yr-bg-1:=by lia
   have hp3:1<yr-bg:=by lia
   simp[h0,hc2.1,hc2.2,hj0,hp3,ZJ0,An,Cw,Dz,hal,Bp]
 ·refine⟨bg,acc,?_,λz=>absurd z hc,λ_=>⟨rfl,rfl⟩⟩;have h0:¬j=0:=λz=>hc (.inl z)
  unfold Uj;by_cases h1:lat%2=1
  ·have h2:¬bg+1<yr:=λz=>hc (.inr ⟨h1,z⟩)
   simp[h0,h1,h2]
  ·simp[h0,h1]
theorem Wh{b:Nat}{p:Bool}{lat:Nat->Int}{cel:Nat->Nat->Int}
  (hd:∀j:Nat,j<4->∀(G:DH)(bg:Int)(acc:List Ssn)(x y:Option D),acc.length<=10->bg<yr->∃bg' acc',
   Jp [zN ns,zI b,zI u,zB p,zI yr,zR G.length,zI bg,zI j,x,y] (G++[.lst (acc.map Bp)])=
    .nx [zN ns,zI b,zI u,zB p,zI yr,zR G.length,zI bg',zI j,zI (lat j),zF (tab 4 (cel j))] (G++[.lst (acc'.map Bp)])/\
   ((j=0∨(lat j%2=1/\bg+1<yr))->bg'=(if 0<j then bg+1+lat j/2%(yr-bg-1)else bg)/\acc'=acc++[(bg',stps (cel j) u p)])/\
   (¬(j=0∨(lat j%2=1/\bg+1<yr))->bg'=bg/\acc'=acc)) {G:DH}:∀(m j:Nat)(bg:Int)(acc:List Ssn)(x y z:Option D),j+m=4->acc.length<=j->bg<yr->∃x' y' z' w',
   Aq (gV 7) Jp (Bh j m) [zN ns,zI b,zI u,zB p,zI yr,zR G.length,zI bg,x,y,z] (G++[.lst (acc.map Bp)])=
    .nx [zN ns,zI b,zI u,zB p,zI yr,zR G.length,x',y',z',w'] (G++[.lst ((acc++Ef lat cel u p yr m j bg).map Bp)])
 |0,j,bg,acc,x,y,z,e,ha,hb=>⟨zI bg,x,y,z,by rw[H9,Cm];simp[Ef]⟩
 | m + 1,j,bg,acc,x,y,z,e,ha,hb=>by
  obtain⟨bg',acc',h1,h2,h3⟩:=hd j (by lia) G bg acc y z (by lia) hb;have e1:((j:Int)+1)=((j+1:Nat):Int):=by lia
  by_cases hc:j=0∨(lat j%2=1/\bg+1<yr)
  ·obtain⟨r1,r2⟩:=h2 hc;have hbg:bg'<yr:=by
    rw[r1];split
    ·have h4:bg+1<yr:=by
      rcases hc with z|z
      ·lia
      ·exact z.2
     have h5:lat j/2%(yr-bg-1)<yr-bg-1:=jJ _ (by lia);lia
    ·exact hb
   obtain⟨x',y',z',w',ih⟩:=Wh hd (G:=G) m (j+1) bg' acc' (zI j) (zI (lat j)) (zF (tab 4 (cel j))) (by lia) (by rw[r2];simp;lia) hbg;refine⟨x',y',z',w',?_⟩;rw[Ge,Bu];simp only[Cg,R.Cd,qx,h1,Cq];have er:Ef lat cel u p yr (m+1) j bg=(bg',stps (cel j) u p)::Ef lat cel u p yr m (j+1) bg':=by rw[r1];exact if_pos hc
   rw[e1,ih,r2,er];simp
  ·obtain⟨r1,r2⟩:=h3 hc;obtain⟨x',y',z',w',ih⟩:=Wh hd (G:=G) m (j+1) bg' acc' (zI j) (zI (lat j)) (zF (tab 4 (cel j))) (by lia) (by rw[r2];lia) (by rw[r1];exact hb);refine⟨x',y',z',w',?_⟩;rw[Ge,Bu];simp only[Cg,R.Cd,qx,h1,Cq];rw[e1,ih,r2,r1]
   conv=>rhs;unfold Ef
   rw[if_neg hc]
structure RuleOk (yr:Int) (p:Bool) (r:List Ssn):Prop where
 good:∀s∈r,Good 0 s.2/\(p=vI->∀t∈s.2,t.r=vH)
 cons:∃st rest,r=(0,st)::rest
 asc:r.Pairwise (λa b:Ssn=>a.1<b.1)
 yr:∀s∈r,0<=s.1/\s.1<yr
 len:r.length<=4
theorem ZCw{lat:Nat->Int}{cel:Nat->Nat->Int}{u:Int}{p:Bool}{yr:Int}:∀(m j:Nat)(bg:Int),(Ef lat cel u p yr m j bg).length<=m
 |0,_,_=>zK _
 |m+1,j,bg=>by
  unfold Ef;split
  ·have:=ZCw (lat:=lat) (cel:=cel) (u:=u) (p:=p) (yr:=yr) m (j+1) (if 0<j then bg+1+lat j/2%(yr-bg-1)else bg);simp only[qQ];lia
  ·have:=ZCw (lat:=lat) (cel:=cel) (u:=u) (p:=p) (yr:=yr) m (j+1) bg;lia
theorem ZGE(hf:Cf ns f)(hyr:1<=yr/\yr<=24)(cy:Cy ns yr){b:Nat}(hb:b<=900)(hu:0<u){p:Bool}:
  ∃r:List Ssn,RuleOk yr p r/\∀G,Te [nD ns,.int b,.int u,.bl p] G=.ok (.tup (r.map Bp)) G:=by
 have ex:∀j:Nat,∃q:Int×(Nat->Int),j<4->∀(G:DH)(bg:Int)(acc:List Ssn)(x y:Option D),acc.length<=10->bg<yr->∃bg' acc',
   Jp [zN ns,zI b,zI u,zB p,zI yr,zR G.length,zI bg,zI j,x,y] (G++[.lst (acc.map Bp)])=
    .nx [zN ns,zI b,zI u,zB p,zI yr,zR G.length,zI bg',zI j,zI q.1,zF (tab 4 q.2)] (G++[.lst (acc'.map Bp)])/\
   ((j=0∨(q.1%2=1/\bg+1<yr))->bg'=(if 0<j then bg+1+q.1/2%(yr-bg-1)else bg)/\acc'=acc++[(bg',stps q.2 u p)])/\
   (¬(j=0∨(q.1%2=1/\bg+1<yr))->bg'=bg/\acc'=acc):=λj=>by
  by_cases hj:j<4
  ·obtain⟨lat,xs,h⟩:=ZTh (u:=u) (yr:=yr) (p:=p) hf hb hj;exact⟨(lat,xs),λ_=>h⟩
  ·exact⟨(0,λ_=>0),λz=>absurd z hj⟩
 let lat:Nat->Int:=λj=>(ex j).choose.1
 let cel:Nat->Nat->Int:=λj=>(ex j).choose.2
 have hd:=λ(j:Nat)(hj:j<4)=>(ex j).choose_spec hj
 refine⟨Ef lat cel u p yr 4 0 0,⟨ZA0 hu 4 0 0,?_,?_,?_,ZCw 4 0 0⟩,λG=>?_⟩
 ·unfold Ef;rw[if_pos (.inl rfl)];exact⟨_,_,rfl⟩
 ·unfold Ef;rw[if_pos (.inl rfl)];obtain⟨i1,i2⟩:=Ud (lat:=lat) (cel:=cel) (u:=u) (p:=p) (yr:=yr) 3 1 0 (by lia) (by lia);exact List.pairwise_cons.mpr ⟨λs hs=>(i1 s hs).1,i2⟩
 ·unfold Ef;rw[if_pos (.inl rfl)];obtain⟨i1,i2⟩:=Ud (lat:=lat) (cel:=cel) (u:=u) (p:=p) (yr:=yr) 3 1 0 (by lia) (by lia);intro s hs;rcases zq.mp hs with rfl|hs
  ·exact⟨zL _,by show(0:Int)<yr;lia⟩
  ·have:=i1 s hs;lia
 ·obtain⟨x',y',z',w',hL⟩:=Wh (lat:=lat) (cel:=cel) hd (G:=G) 4 0 0 [] vG vG vG (by lia) (by simp) (by lia);have hL':Aq (gV 7) Jp (Bh 0 4) [zN ns,zI b,zI u,zB p,zI yr,zR G.length,zI 0,vG,vG,vG] (G++[.lst []])=.nx [zN ns,zI b,zI u,zB p,zI yr,zR G.length,x',y',z',w'] (G++[.lst ((Ef lat cel u p yr 4 0 0).map Bp)]):=hL;have hr:inR 4:=Ed (by lia) (by lia);generalize Ef lat cel u p yr 4 0 0=rl at hL'
  unfold Te ZFd;rw[Aw];simp[cy,Ah,Dr,hr,hL',Cw,Li]
def Wv:List Nat:=("abcdefghijklmnopqrstuvwxyz":Str).cps.toList
def ZCz:List Nat:=("abcdefghijkl":Str).cps.toList
theorem ZTT:∀i,i<26->Wv[i]?=vF (97+i):=by decide +kernel
theorem ZO9:∀i,i<12->ZCz[i]?=vF (97+i):=by decide +kernel
def Dq(l:List Nat):Str:=⟨l.toArray⟩
theorem ZIt{l l':List Nat}(h:Dq l=Dq l'):l=l':=by have h1:=congrArg (λs:Str=>s.cps.toList) h;simpa[Dq]using h1
theorem ZNh{l l':List Nat}:Dq l++Dq l'=Dq (l++l'):=by show Str.append _ _=_;unfold Str.append Dq;simp
theorem ZG9{s:Str}{l:List Nat}(h:s.cps.toList=l):s=Dq l:=by obtain⟨a⟩:=s;unfold Dq;simp only at h;rw[<-h]
theorem ZNt{o:Nat}{n:Int}:Lq ⟨#[o]⟩ n=Dq (zV n.toNat o):=by
 refine ZG9 ?_;rw[ZQ7];show(zV n.toNat [o]).flatten=_;generalize n.toNat=m
 induction m with
 |zero=>rfl
 |succ m ih=>rw[qW,qI,ih,qW];rfl
def ocF(c:Int):Nat:=97+(c/21%26).toNat
def tcF(c:Int)(k:Nat):Nat:=97+((5*(k:Int)+c/546)%12).toNat
def Et(c:Int)(n k:Nat):List Nat:=if c%3=1/\n<9 then zV (k+1) (ocF c)else if c%3=2 then tcF c k::zV (c/3%7).toNat (ocF c)else zV (c/3%7).toNat (ocF c)++tcF c k::zV (6-(c/3%7)).toNat (ocF c)
theorem ZR0{n k:Nat}(hn:n<=12)(hk:k<n)(G:DH):Ui [.int c,.int k,.int n] G=.ok (.str (Dq (Et c n k))) G:=by
 have a1:atI Wv (c/21%26)=vF (ocF c):=Dg (k:=(c/21%26).toNat) (by lia) (ZTT _ (by lia));have a2:atI ZCz ((5*(k:Int)+c/546)%12)=vF (tcF c k):=Dg (k:=((5*(k:Int)+c/546)%12).toNat) (by lia) (ZO9 _ (by lia));have l1:("abcdefghijklmnopqrstuvwxyz":Str).length<=1000000:=by decide +kernel
 have l2:("abcdefghijkl":Str).length<=1000000:=by decide +kernel
 have ho:∀m:Int,-1000<=m->m<=1000->∀G,Aj (.str ⟨#[ocF c]⟩) (.int m) G=.ok (.str (Dq (zV m.toNat (ocF c)))) G:=λm h1 h2 G=>by rw[ZUu ⟨h1,h2,by show(#[ocF c]).size<=1000;simp⟩,ZNt]
 have e1:∀G,Ad (.str ("abcdefghijklmnopqrstuvwxyz":Str)) (.int (c/21%26)) G=R.ok (.str ⟨#[ocF c]⟩) G:=λG=>by
  rw[Nu,if_pos l1]
  show(match atI Wv (c/21%26)with |some c=>R.ok (sgn c) G|none=>.bad)=_
  rw[a1]
  rfl
 have e2:∀G,Ad (.str ("abcdefghijkl":Str)) (.int ((5*(k:Int)+c/546)%12)) G=R.ok (.str (Dq [tcF c k])) G:=λG=>by
  rw[Nu,if_pos l2]
  show(match atI ZCz ((5*(k:Int)+c/546)%12)with |some c=>R.ok (sgn c) G|none=>.bad)=_
  rw[a2]
  rfl
 have hadd:∀(l l':List Nat)(G:DH),l.length+l'.length<=1000000->Ai (.str (Dq l)) (.str (Dq l')) G=.ok (.str (Dq (l++l'))) G:=λl l' G h=>by
  have e:Ai (.str (Dq l)) (.str (Dq l')) G=if(Dq l).length+(Dq l').length<=1000000 then .ok (.str (Dq l++Dq l')) G else .bad:=rfl
  rw[e,if_pos (by show l.toArray.size+l'.toArray.size<=1000000;simpa using h),ZNh]
 unfold Ui ZEp;rw[Aw];by_cases h1:c%3=1
 ·by_cases h9:n<9
  ·have en:Et c n k=zV (k+1) (ocF c):=if_pos ⟨h1,h9⟩;have hk2:=ho ((k:Int)+1) (by lia) (by lia);have ek:((k:Int)+1).toNat=k+1:=by lia
   rw[ek]at hk2;rw[en];have h9':(n:Int)<9:=by lia
   simp[-Nu,e1,h1,h9',hk2,Be]
  ·have en:Et c n k=zV (c/3%7).toNat (ocF c)++tcF c k::zV (6-(c/3%7)).toNat (ocF c):=by unfold Et;rw[if_neg (λz=>h9 z.2),if_neg (by lia)]
   have r1:=ho (c/3%7) (by lia) (by lia);have r2:=ho (6-(c/3%7)) (by lia) (by lia);have d1:=λG=>hadd (zV (c/3%7).toNat (ocF c)) [tcF c k] G (by simp;lia)
   have d2:=λG=>hadd (zV (c/3%7).toNat (ocF c)++[tcF c k]) (zV (6-(c/3%7)).toNat (ocF c)) G (by simp;lia)
   have ea:zV (c/3%7).toNat (ocF c)++[tcF c k]++zV (6-(c/3%7)).toNat (ocF c)=Et c n k:=by rw[en];simp
   rw[ea]at d2;have h9':¬(n:Int)<9:=by lia
   simp[-Nu,e1,e2,h1,h9',r1,r2,d1,d2,Be]
 ·by_cases h2:c%3=2
  ·have en:Et c n k=tcF c k::zV (c/3%7).toNat (ocF c):=by unfold Et;rw[if_neg (λz=>h1 z.1),if_pos h2]
   have r1:=ho (c/3%7) (by lia) (by lia);have d1:=λG=>hadd [tcF c k] (zV (c/3%7).toNat (ocF c)) G (by simp;lia)
   have ea: [tcF c k]++zV (c/3%7).toNat (ocF c)=Et c n k:=by rw[en];rfl
   rw[ea]at d1;simp[-Nu,e1,e2,h2,r1,d1,Be]
  ·have en:Et c n k=zV (c/3%7).toNat (ocF c)++tcF c k::zV (6-(c/3%7)).toNat (ocF c):=by unfold Et;rw[if_neg (λz=>h1 z.1),if_neg h2]
   have r1:=ho (c/3%7) (by lia) (by lia);have r2:=ho (6-(c/3%7)) (by lia) (by lia);have d1:=λG=>hadd (zV (c/3%7).toNat (ocF c)) [tcF c k] G (by simp;lia)
   have d2:=λG=>hadd (zV (c/3%7).toNat (ocF c)++[tcF c k]) (zV (6-(c/3%7)).toNat (ocF c)) G (by simp;lia)
   have ea:zV (c/3%7).toNat (ocF c)++[tcF c k]++zV (6-(c/3%7)).toNat (ocF c)=Et c n k:=by rw[en];simp
   rw[ea]at d2;simp[-Nu,e1,e2,h1,h2,r1,r2,d1,d2,Be]
theorem ZHK{k k':Nat}(hk:k<12)(hk':k'<12)(h:tcF c k=tcF c k'):k=k':=by unfold tcF at h;omega +splitNatSub
theorem ZQj{n k k':Nat}(hn:n<=12)(hk:k<n)(hk':k'<n)(h:Et c n k=Et c n k'):k=k':=by
 unfold Et at h;split at h
 ·have:=congrArg xz h;simp at this;exact this
 ·split at h
  ·exact ZHK (by lia) (by lia) (List.cons.inj h).1
  ·have:=List.append_cancel_left h;exact ZHK (by lia) (by lia) (List.cons.inj this).1
theorem ZQ9:("sea":Str)=Dq [115,101,97]:=by decide +kernel
theorem ZLN{n k:Nat}:Dq (Et c n k)≠"sea":=λh=>by
 rw[ZQ9]at h;have h:=ZIt h;unfold Et at h;split at h
 ·have h1:∀x∈[115,101,97],x=ocF c:=λx hx=>by rw[<-h]at hx;exact List.eq_of_mem_replicate hx
  have a:=h1 115 (by simp);have b:=h1 101 (by simp);lia
 ·split at h
  ·have:=(List.cons.inj h).1;unfold tcF at this;lia
  ·have:=congrArg xz h;simp at this;lia
theorem Jo{te:DE}{S:DSt}{E:α->D}{F:α->D}{G:DH}:∀{l:List α},(∀a∈l,te (S.set 0 (vF (E a))) G=.ok (F a) G)->Ck (gV 0) Bd te S (l.map E) G=.ok (l.map F) G
 |[],_=>rfl
 |a::l,h=>by
  have h1:=h a (by simp);have ih:=Jo (te:=te) (S:=S) (E:=E) (F:=F) (G:=G) (l:=l) λb hb=>h b (zZ _ hb)
  rw[zk,ZB1];simp[h1,ih]
def Bf(nm:Nat->Str)(n:Nat):List D:=(zQ n).map λk=>.str (nm k)
theorem Qy{n k:Nat}(h:k<n):atI (Bf nm n) (k:Int)=zS (nm k):=Dg rfl (by simp[Bf,h])
theorem U6{n:Nat}:(Bf nm n).length=n:=by simp[Bf]
@[simp]theorem ZL5{n:Nat}:bels m (Bf nm n)=vH:=Ec λ_ _=>rfl
def Gd(nm:Nat->Str):Option (Nat×Nat×Int)->D
 |none=>.non
 |some (to,dl,m)=>.tup [.str (nm to),.int dl,.int m]
@[simp]theorem ZVm:bel m (Gd nm q)=vH:=by
 cases q with
 |none=>rfl
 |some q=>obtain⟨a,b,c⟩:=q;simp[Gd]
theorem ZTe(hf:Cf ns f)(hyr:1<=yr/\yr<=24)(cy:Cy ns yr)(hu:0<u)(cu:Cu ns u){b k n:Nat}(hb:b<=900)(hk:k<n)(hn:n<=12){d:Str}{dl:Int}:
  ∃(r:List Ssn)(q:Option (Nat×Nat×Int)),RuleOk yr q.isSome r/\(∀to dl m,q=vF (to,dl,m)->to<n/\1<=dl/\dl<=5)/\
   ∀G,Pn [nD ns,.int b,.int k,.fl (Bf nm n),.tup [.str d,.int dl]] G=.ok (.tup [.str "basin",.str (nm k),.str d,.int dl,.int (amt (f (b+3)) u),.tup (r.map Bp),Gd nm q]) G:=by
 have h11:∀G,Bc [nD ns,.int ((b:Int)+11)] G=.ok (.int (f (b+11))) G:=λG=>by have:=hf (b+11) (by lia) G;rwa[show((b+11:Nat):Int)=(b:Int)+11 by lia]at this
 have h3:∀G,Bc [nD ns,.int ((b:Int)+3)] G=.ok (.int (f (b+3))) G:=λG=>by have:=hf (b+3) (by lia) G;rwa[show((b+3:Nat):Int)=(b:Int)+3 by lia]at this
 have ak:atI (Bf nm n) (k:Int)=zS (nm k):=Qy hk;have fu:∀G,freeze G (.ok (.int u) G)=.ok (.int u) G:=λG=>Hl rfl
 generalize f (b+11)=c at h11;have pre:∀G,ZAi [zN ns,zI b,zI k,zF (Bf nm n),zT [.str d,.int dl],vG,vG,vG,vG,vG,vG,vG,vG] G=
   Ld [zN ns,zI b,zI k,zF (Bf nm n),zT [.str d,.int dl],zI u,zI c,zB (decide (1<n/\c%2=1)),vG,vG,vG,vG,vG] G:=λG=>by
  have t:∀S:DSt,S[3]?=vF (zF (Bf nm n))->S[6]?=vF (zI c)->Je (dOp Gi (dFn Bm (Aa (dV 3) Ab)) (dC (.int 1))) (dOp Bl (dOp Az (dV 6) (dC (.int 2))) (dC (.int 1))) S G=.ok (.bl (decide (1<n/\c%2=1))) G:=λS h1 h2=>by
   by_cases hn1:1<n
   ·have hn1':(1:Int)<n:=by lia
    simp[dV,h1,h2,U6,hn1,hn1']
   ·have hn1':¬(1:Int)<n:=by lia
    simp[dV,h1,h2,U6,hn1,hn1']
  unfold ZAi ZGl ZGM;generalize Je (dOp Gi (dFn Bm (Aa (dV 3) Ab)) (dC (.int 1))) (dOp Bl (dOp Az (dV 6) (dC (.int 2))) (dC (.int 1)))=te at t;generalize Bf nm n=NM at t;simp[cu,fu,h11,t]
 have fin:∀(r:List Ssn)(q:Option (Nat×Nat×Int))(s6 s7 x10 x11:Option D)(G:DH),Km [zN ns,zI b,zI k,zF (Bf nm n),zT [.str d,.int dl],zI u,s6,s7,zT (r.map Bp),vF (Gd nm q),x10,x11,vG] G=.rt (.tup [.str "basin",.str (nm k),.str d,.int dl,.int (amt (f (b+3)) u),.tup (r.map Bp),Gd nm q]) G:=λr q s6 s7 x10 x11 G=>by generalize r.map Bp=RR;generalize Gd nm q=PQ;generalize Bf nm n=NM at ak;unfold Km ZHe;simp[h3,Jt hu,ak,An]
 have cl:∀G,Pn [nD ns,.int b,.int k,.fl (Bf nm n),.tup [.str d,.int dl]] G=tidy G ((Ld [zN ns,zI b,zI k,zF (Bf nm n),zT [.str d,.int dl],zI u,zI c,zB (decide (1<n/\c%2=1)),vG,vG,vG,vG,vG] G).ret):=λG=>by
  rw[<-pre];unfold Pn;rw[Aw]
  rfl
 have td:∀(r:List Ssn)(q:Option (Nat×Nat×Int))(G:DH),tidy G ((SR.rt (.tup [.str "basin",.str (nm k),.str d,.int dl,.int (amt (f (b+3)) u),.tup (r.map Bp),Gd nm q]) G).ret)=.ok (.tup [.str "basin",.str (nm k),.str d,.int dl,.int (amt (f (b+3)) u),.tup (r.map Bp),Gd nm q]) G:=λr q G=>by simp[Be]
 by_cases hp:1<n/\c%2=1
 ·obtain⟨r,hr,cr⟩:=ZGE (ns:=ns) (f:=f) hf hyr cy hb hu (p:=vH);obtain⟨st,rest,er⟩:=hr.cons;have hx0:0<=c/2%((n:Int)-1):=qT _ (by lia);have ht0:0<=((k:Int)+1+c/2%((n:Int)-1))%n:=qT _ (by lia);have ht1:((k:Int)+1+c/2%((n:Int)-1))%n<n:=jJ _ (by lia);generalize ht:((k:Int)+1+c/2%((n:Int)-1))%n=t at ht0 ht1;have at_:atI (Bf nm n) t=zS (nm t.toNat):=by have:=Qy (nm:=nm) (n:=n) (k:=t.toNat) (by lia);rwa[show((t.toNat:Nat):Int)=t by lia]at this
  have mx:∀G,Hm [.fl (r.map λs=>.int (Do s.2))] G=.ok (.int ((rest.map λs=>Do s.2).foldl max (Do st))) G:=λG=>ZEG (by rw[er];simp[Bg])
  have m2:∀G,Aj (.int u) (.int (c/130%2)) G=.ok (.int (u*(c/130%2))) G:=λG=>Gz (by lia) (by lia)
  have cp:∀(G:DH),Ck (gV 0) Bd Vy [vG] (r.map Bp) G=.ok (r.map λs=>.int (Do s.2)) G:=λG=>Jo λs _=>by unfold Vy;simp[Bp,ZM9]
  have fz:∀G:DH,freeze G (.ok (.ref G.length) (G++[.lst (r.map λs=>.int (Do s.2))]))=.ok (.fl (r.map λs=>.int (Do s.2))) G:=λG=>Dk (Ec λ_ _=>rfl)
  have hd:((1+c/26%5).toNat:Int)=1+c/26%5:=by lia
  refine⟨r,vF (t.toNat,(1+c/26%5).toNat,(rest.map λs=>Do s.2).foldl max (Do st)+u*(c/130%2)),hr,?_,λG=>?_⟩
  ·intro to dl m e;cases e;lia
  ·have h1':0<(n:Int)-1:=by lia
   have h1:(1:Int)<n:=by lia
   have hn0:0<(n:Int):=by lia
   have hn0':0<n:=by lia
   have hrl:(r.map Bp).length<=1000000:=by have:=hr.len;simp;lia
   have lr:(r.map λs=>D.int (Do s.2)).length<=1000000:=by have:=hr.len;simp;lia
   have mid:Ld [zN ns,zI b,zI k,zF (Bf nm n),zT [.str d,.int dl],zI u,zI c,zB vH,vG,vG,vG,vG,vG] G=
     Km [zN ns,zI b,zI k,zF (Bf nm n),zT [.str d,.int dl],zI u,zI c,zB vH,zT (r.map Bp),vF (Gd nm (vF (t.toNat,(1+c/26%5).toNat,(rest.map λs=>Do s.2).foldl max (Do st)+u*(c/130%2)))),zI ((rest.map λs=>Do s.2).foldl max (Do st)+u*(c/130%2)),zS (nm t.toNat),vG] G:=by
    have ln:(Bf nm n).length=n:=U6;show _=Km [zN ns,zI b,zI k,zF (Bf nm n),zT [.str d,.int dl],zI u,zI c,zB vH,zT (r.map Bp),zT [.str (nm t.toNat),.int ((1+c/26%5).toNat:Nat),.int ((rest.map λs=>Do s.2).foldl max (Do st)+u*(c/130%2))],zI ((rest.map λs=>Do s.2).foldl max (Do st)+u*(c/130%2)),zS (nm t.toNat),vG] G;rw[hd];generalize(rest.map λs=>Do s.2).foldl max (Do st)=MX at mx
    generalize Bf nm n=NM at at_ ln;generalize r.map Bp=RR at cr cp hrl;generalize(r.map λs=>D.int (Do s.2))=RP at mx cp fz lr;unfold Ld ZCn Yc;simp[hrl,cr,cp,Ay,fz,lr,mx,m2,ln,h1,h1',hn0,hn0',ht,at_,An]
   rw[cl,decide_eq_true hp,mid,fin,td]
 ·obtain⟨r,hr,cr⟩:=ZGE (ns:=ns) (f:=f) hf hyr cy hb hu (p:=vI)
  refine⟨r,vG,hr,(λto dl m e=>nomatch e),λG=>?_⟩
  have mid:Ld [zN ns,zI b,zI k,zF (Bf nm n),zT [.str d,.int dl],zI u,zI c,zB vI,vG,vG,vG,vG,vG] G=
    Km [zN ns,zI b,zI k,zF (Bf nm n),zT [.str d,.int dl],zI u,zI c,zB vI,zT (r.map Bp),vF (Gd nm vG),vG,vG,vG] G:=by
   show _=Km [zN ns,zI b,zI k,zF (Bf nm n),zT [.str d,.int dl],zI u,zI c,zB vI,zT (r.map Bp),vF .non,vG,vG,vG] G;generalize Bf nm n=NM;unfold Ld ZCn Yc;simp[cr]
  rw[cl,decide_eq_false hp,mid,fin,td]
def dnS(nm:Nat->Str):Option Nat->Str
 |none=>"sea"
 |some d=>nm d
def Gp(nm:Nat->Str)(p:Pl):D:=match p.kd with
 |.basin b r q=>.tup [.str "basin",.str p.nm,.str (dnS nm p.dn),.int p.dl,.int b,.tup (r.map Bp),Gd nm q]
 |.town a b=>.tup [.str "town",.str p.nm,.str (dnS nm p.dn),.int p.dl,.int a,.int b]
 |.mill a=>.tup [.str "mill",.str p.nm,.str (dnS nm p.dn),.int p.dl,.int a]
structure PlOk (yr:Int) (nm:Nat->Str) (n k:Nat) (p:Pl):Prop where
 nm:p.nm=nm k
 dn:∀d,p.dn=vF d->k<d/\d<n
 dl:p.dl<=5
 basin:∀b r q,p.kd=.basin b r q->0<=b/\RuleOk yr q.isSome r/\∀to dl m,q=vF (to,dl,m)->to<n/\1<=dl/\dl<=5
 town:∀a b,p.kd=.town a b->0<=a/\0<=b
 mill:∀a,p.kd=.mill a->0<=a
theorem ZNa(hf:Cf ns f)(hyr:1<=yr/\yr<=24)(cy:Cy ns yr)(hu:0<u)(cu:Cu ns u){k n:Nat}(hk:k<n)(hn:n<=12):
  ∃p:Pl,PlOk yr nm n k p/\∀(G:DH)(acc:List D)(x6 x7 x8 x9 x10 x11 x12:Option D),acc.length<=20->∃y6 y7 y8 y9 y10 y11 y12,
   Ji [zN ns,zI c,zI n,zF (Bf nm n),zI k,zR G.length,x6,x7,x8,x9,x10,x11,x12] (G++[.lst acc])=
    .nx [zN ns,zI c,zI n,zF (Bf nm n),zI k,zR G.length,y6,y7,y8,y9,y10,y11,y12] (G++[.lst (acc++[Gp nm p])]):=by
 have hc:∀j:Nat,j<=11->∀G,Bc [nD ns,.int (((6+12*k:Nat):Int)+j)] G=.ok (.int (f (6+12*k+j))) G:=λj hj G=>by have:=hf (6+12*k+j) (by lia) G;rwa[show((6+12*k+j:Nat):Int)=((6+12*k:Nat):Int)+j by lia]at this
 have hb:6+12*k<=900:=by lia
 have e6:(6+12*(k:Int))=((6+12*k:Nat):Int):=by lia
 have m12:∀G,Aj (.int 12) (.int (k:Int)) G=.ok (.int (12*(k:Int))) G:=λG=>Fj (by lia) (by lia)
 have h0:∀G,Bc [nD ns,.int ((6+12*k:Nat):Int)] G=.ok (.int (f (6+12*k))) G:=hf _ (by lia);have h1:∀G,Bc [nD ns,.int (((6+12*k:Nat):Int)+1)] G=.ok (.int (f (6+12*k+1))) G:=hc 1 (by lia);have h2:∀G,Bc [nD ns,.int (((6+12*k:Nat):Int)+2)] G=.ok (.int (f (6+12*k+2))) G:=hc 2 (by lia);have h3:∀G,Bc [nD ns,.int (((6+12*k:Nat):Int)+3)] G=.ok (.int (f (6+12*k+3))) G:=hc 3 (by lia)
 have h4:∀G,Bc [nD ns,.int (((6+12*k:Nat):Int)+4)] G=.ok (.int (f (6+12*k+4))) G:=hc 4 (by lia);have ak:atI (Bf nm n) (k:Int)=zS (nm k):=Qy hk;have fu:∀G,freeze G (.ok (.int u) G)=.ok (.int u) G:=λG=>Hl rfl
 have cb:=λd dl=>ZTe (nm:=nm) (d:=d) (dl:=dl) hf hyr cy hu cu hb hk hn
 generalize 6+12*k=b at hc hb e6 h0 h1 h2 h3 h4 cb;obtain⟨s,hs0,hs1,hs⟩:∃s:Int,0<=s/\s<(n:Int)-k/\∀(H:DH)(x5 x7 x8 x9 x10 x11 x12:Option D),Uy [zN ns,zI c,zI n,zF (Bf nm n),zI k,x5,zI b,x7,x8,x9,x10,x11,x12] H=
   Pq [zN ns,zI c,zI n,zF (Bf nm n),zI k,x5,zI b,zI s,x8,x9,x10,x11,x12] H:=by
  have hm:0<(n:Int)-k:=by lia
  have hm':(k:Int)<n:=by lia
  by_cases hw:c/280%3=1
  ·refine⟨min 1 ((n:Int)-1-k),by lia,by lia,λH x5 x7 x8 x9 x10 x11 x12=>?_⟩;unfold Uy ZCp;simp[h1,hm,hm',hk,hw]
  ·refine⟨f (b+1)%((n:Int)-k),qT _ (by lia),jJ _ hm,λH x5 x7 x8 x9 x10 x11 x12=>?_⟩;unfold Uy ZCp;simp[h1,hm,hm',hk,hw]
 obtain⟨dn,dl,hdn,hdl,hr⟩:∃(dn:Option Nat)(dl:Nat),(∀d,dn=vF d->k<d/\d<n)/\dl<=5/\∀(H:DH)(x5 x8 x9 x10 x11 x12:Option D),Pq [zN ns,zI c,zI n,zF (Bf nm n),zI k,x5,zI b,zI s,x8,x9,x10,x11,x12] H=
   Nx [zN ns,zI c,zI n,zF (Bf nm n),zI k,x5,zI b,zI s,zI (f (b+2)),zT [.str (dnS nm dn),.int dl],x10,x11,x12] H:=by
  have hd:((f (b+2)%2*(f (b+2)/2%6)).toNat:Int)=f (b+2)%2*(f (b+2)/2%6)/\(f (b+2)%2*(f (b+2)/2%6)).toNat<=5:=by rcases(by lia:f (b+2)%2=0∨f (b+2)%2=1)with z|z<;>rw[z]<;>lia
  have md:∀G,Aj (.int (f (b+2)%2)) (.int (f (b+2)/2%6)) G=.ok (.int (f (b+2)%2*(f (b+2)/2%6))) G:=λG=>Gz (by lia) (by lia)
  generalize f (b+2)%2*(f (b+2)/2%6)=w at hd md;by_cases hp:0<s
  ·have a2:atI (Bf nm n) ((k:Int)+s)=zS (nm (k+s.toNat)):=by have:=Qy (nm:=nm) (n:=n) (k:=k+s.toNat) (by lia);rwa[show((k+s.toNat:Nat):Int)=(k:Int)+s by lia]at this
   refine⟨vF (k+s.toNat),w.toNat,λd e=>by cases e;lia,hd.2,λH x5 x8 x9 x10 x11 x12=>?_⟩;unfold Pq ZCZ Xf;simp[h2,md,hp,a2,An,dnS,hd.1]
  ·refine⟨vG,w.toNat,(λd e=>nomatch e),hd.2,λH x5 x8 x9 x10 x11 x12=>?_⟩
   unfold Pq ZCZ Xf;simp[h2,md,hp,An,dnS,hd.1]
 obtain⟨rk,hrk,hk2⟩:∃rk:Int,0<=rk/\∀(H:DH)(x5 x7 x8 x9 x10 x11 x12:Option D),Nx [zN ns,zI c,zI n,zF (Bf nm n),zI k,x5,zI b,x7,x8,x9,x10,x11,x12] H=
   N5 [zN ns,zI c,zI n,zF (Bf nm n),zI k,x5,zI b,x7,x8,x9,zI (f b%5),zI (amt (f (b+3)) u),zI rk] H:=by
  have fz:∀G:DH,freeze G (.ok (.ref G.length) (G++[.lst [.int 4,.int 10000000000000000000000000000000000000000]]))=.ok (.fl [.int 4,.int 10000000000000000000000000000000000000000]) G:=λG=>Dk rfl
  rcases(by lia:c/840%2=0∨c/840%2=1)with z|z
  ·refine⟨f (b+4)%4,by lia,λH x5 x7 x8 x9 x10 x11 x12=>?_⟩;unfold Nx X6 Xw;simp[h0,h3,h4,cu,fu,Jt hu,z,Ah,fz]
  ·refine⟨f (b+4)%10000000000000000000000000000000000000000,by lia,λH x5 x7 x8 x9 x10 x11 x12=>?_⟩;unfold Nx X6 Xw;simp[h0,h3,h4,cu,fu,Jt hu,z,Ah,fz]
 have hal:∀acc:List D,acc.length<=20->acc.length<1000000:=λacc h=>by lia
 have go:∀p:Pl,(∀(G:DH)(acc:List D),acc.length<=20->
   N5 [zN ns,zI c,zI n,zF (Bf nm n),zI k,zR G.length,zI b,zI s,zI (f (b+2)),zT [.str (dnS nm dn),.int dl],zI (f b%5),zI (amt (f (b+3)) u),zI rk] (G++[.lst acc])=
    .nx [zN ns,zI c,zI n,zF (Bf nm n),zI k,zR G.length,zI b,zI s,zI (f (b+2)),zT [.str (dnS nm dn),.int dl],zI (f b%5),zI (amt (f (b+3)) u),zI rk] (G++[.lst (acc++[Gp nm p])]))->
   ∀(G:DH)(acc:List D)(x6 x7 x8 x9 x10 x11 x12:Option D),acc.length<=20->∃y6 y7 y8 y9 y10 y11 y12,
   Ji [zN ns,zI c,zI n,zF (Bf nm n),zI k,zR G.length,x6,x7,x8,x9,x10,x11,x12] (G++[.lst acc])=
    .nx [zN ns,zI c,zI n,zF (Bf nm n),zI k,zR G.length,y6,y7,y8,y9,y10,y11,y12] (G++[.lst (acc++[Gp nm p])]):=λp h9 G acc x6 x7 x8 x9 x10 x11 x12 ha=>by
  refine⟨zI b,zI s,zI (f (b+2)),zT [.str (dnS nm dn),.int dl],zI (f b%5),zI (amt (f (b+3)) u),zI rk,?_⟩
  ·unfold Ji;have e:(sAs (dOp Ai (dC (.int 6)) (dOp Aj (dC (.int 12)) (dV 4))) (gV 6)) [zN ns,zI c,zI n,zF (Bf nm n),zI k,zR G.length,x6,x7,x8,x9,x10,x11,x12] (G++[.lst acc])=.nx [zN ns,zI c,zI n,zF (Bf nm n),zI k,zR G.length,zI b,x7,x8,x9,x10,x11,x12] (G++[.lst acc]):=by simp[m12,e6]
   rw[Oz,e,Vg,hs,hr,hk2];exact h9 G acc ha
 by_cases hk1:f b%5<2
 ·obtain⟨r,q,hr1,hq,cr⟩:=cb (dnS nm dn) dl
  refine⟨⟨nm k,dn,dl,.basin (amt (f (b+3)) u) r q⟩,⟨rfl,hdn,hdl,λb' r' q' e=>?_,(λ_ _ e=>nomatch e),(λ_ e=>nomatch e)⟩,go _ λG acc ha=>?_⟩
  ·cases e;exact⟨Q9 hu,hr1,hq⟩
  ·have fr:∀G:DH,freeze G (.ok (.tup [.str "basin",.str (nm k),.str (dnS nm dn),.int dl,.int (amt (f (b+3)) u),.tup (r.map Bp),Gd nm q]) G)=.ok (.tup [.str "basin",.str (nm k),.str (dnS nm dn),.int dl,.int (amt (f (b+3)) u),.tup (r.map Bp),Gd nm q]) G:=λG=>Hl (by simp)
   unfold N5;simp[hk1,cr,fr,Cw,Dz,hal acc ha,Gp]
 ·by_cases hk3:f b%5<4
  ·refine⟨⟨nm k,dn,dl,.town (amt (f (b+3)) u) rk⟩,⟨rfl,hdn,hdl,(λ_ _ _ e=>nomatch e),λa b' e=>?_,(λ_ e=>nomatch e)⟩,go _ λG acc ha=>?_⟩
   ·cases e;exact⟨Q9 hu,hrk⟩
   ·unfold N5;simp[hk1,hk3,ak,An,Cw,Dz,hal acc ha,Gp]
  ·refine⟨⟨nm k,dn,dl,.mill (amt (f (b+3)) u)⟩,⟨rfl,hdn,hdl,(λ_ _ _ e=>nomatch e),(λ_ _ e=>nomatch e),λa e=>?_⟩,go _ λG acc ha=>?_⟩
   ·cases e;exact Q9 hu
   ·unfold N5;simp[hk1,hk3,ak,An,Cw,Dz,hal acc ha,Gp]
theorem ZIy{n:Nat}{P:Nat->Pl} 
  (hd:∀k,k<n->∀(acc:List D)(x6 x7 x8 x9 x10 x11 x12:Option D),acc.length<=20->∃y6 y7 y8 y9 y10 y11 y12,
   Ji [zN ns,zI c,zI n,zF (Bf nm n),zI k,zR G.length,x6,x7,x8,x9,x10,x11,x12] (G++[.lst acc])=
    .nx [zN ns,zI c,zI n,zF (Bf nm n),zI k,zR G.length,y6,y7,y8,y9,y10,y11,y12] (G++[.lst (acc++[Gp nm (P k)])])):
  ∀(m k:Nat) (acc:List D) (x4 x6 x7 x8 x9 x10 x11 x12:Option D),k+m=n->acc.length+m<=20->∃y4 y6 y7 y8 y9 y10 y11 y12,
   Aq (gV 4) Ji (Bh k m) [zN ns,zI c,zI n,zF (Bf nm n),x4,zR G.length,x6,x7,x8,x9,x10,x11,x12] (G++[.lst acc])=
    .nx [zN ns,zI c,zI n,zF (Bf nm n),y4,zR G.length,y6,y7,y8,y9,y10,y11,y12] (G++[.lst (acc++(List.range' k m).map λi=>Gp nm (P i))])
 |0,k,acc,x4,x6,x7,x8,x9,x10,x11,x12,e,ha=>⟨x4,x6,x7,x8,x9,x10,x11,x12,by rw[H9,Cm];simp⟩
 |m+1,k,acc,x4,x6,x7,x8,x9,x10,x11,x12,e,ha=>by
  obtain⟨y6,y7,y8,y9,y10,y11,y12,hb⟩:=hd k (by lia) acc x6 x7 x8 x9 x10 x11 x12 (by lia);obtain⟨z4,z6,z7,z8,z9,z10,z11,z12,ih⟩:=ZIy hd m (k+1) (acc++[Gp nm (P k)]) (zI k) y6 y7 y8 y9 y10 y11 y12 (by lia) (by simp;lia);refine⟨z4,z6,z7,z8,z9,z10,z11,z12,?_⟩;rw[Ge,Bu];simp only[Cg,R.Cd,qx,hb,Cq];have e1:((k:Int)+1)=((k+1:Nat):Int):=by lia
  rw[e1,ih];simp[List.range'_succ]
structure Told (h:Hs) (yr:Int):Prop where
 good:GoodH h
 one:1<=h.n
 ey:h.yr=yr
 ok:∃nm:Nat->Str,∀k,k<h.n->PlOk yr nm h.n k (h.pl k)
theorem ZUx:∃n:Nat,1<=n/\n<=12/\(n:Int)=1+c%4:=⟨(1+c%4).toNat,by lia,by lia,by lia⟩
theorem ZSt(hf:Cf ns f)(hyr:1<=yr/\yr<=24)(cy:Cy ns yr)(hu:0<u)(cu:Cu ns u):
  ∃h:Hs,Told h yr/\∀G,R7 [nD ns] G=.ok h.enc G:=by
 obtain⟨n,hn1,hn,en⟩:=ZUx (c:=f 0);let nm:Nat->Str:=λk=>Dq (Et (f 5) n k)
 have ex:∀k:Nat,∃p:Pl,k<n->(PlOk yr nm n k p/\∀(G:DH)(acc:List D)(x6 x7 x8 x9 x10 x11 x12:Option D),acc.length<=20->∃y6 y7 y8 y9 y10 y11 y12,
   Ji [zN ns,zI (f 0),zI n,zF (Bf nm n),zI k,zR G.length,x6,x7,x8,x9,x10,x11,x12] (G++[.lst acc])=
    .nx [zN ns,zI (f 0),zI n,zF (Bf nm n),zI k,zR G.length,y6,y7,y8,y9,y10,y11,y12] (G++[.lst (acc++[Gp nm p])])):=λk=>by
  by_cases hk:k<n
  ·obtain⟨p,hp⟩:=ZNa (nm:=nm) (c:=f 0) hf hyr cy hu cu hk hn;exact⟨p,λ_=>hp⟩
  ·exact⟨Xq,λz=>absurd z hk⟩
 let P:Nat->Pl:=λk=>(ex k).choose
 have hP:=λ(k:Nat)(hk:k<n)=>((ex k).choose_spec hk).1
 have hB:=λ(k:Nat)(hk:k<n)=>((ex k).choose_spec hk).2
 let h:Hs:=⟨yr,(zQ n).map P⟩;have hnn:h.n=n:=by simp[h,Hs.n]
 have hpl:∀k,k<n->h.pl k=P k:=λk hk=>by simp[h,Hs.pl,hk]
 have hg:GoodH h:=by
  refine⟨?_,by lia,?_,?_,?_,?_,?_,?_,?_⟩
  ·show 0<yr;lia
  ·intro i j hi hj e;rw[hnn]at hi hj;rw[hpl i hi,hpl j hj,(hP i hi).nm,(hP j hj).nm]at e;exact ZQj hn hi hj (ZIt e)
  ·intro i hi;rw[hnn]at hi;rw[hpl i hi,(hP i hi).nm];exact ZLN
  ·intro k d hk e;rw[hnn]at hk⊢;rw[hpl k hk]at e;exact(hP k hk).dn d e
  ·intro k hk;rw[hnn]at hk;rw[hpl k hk];exact(hP k hk).dl
  ·intro k b r to dl m hk e;rw[hnn]at hk⊢;rw[hpl k hk]at e;exact((hP k hk).basin _ _ _ e).2.2 to dl m rfl
  ·intro k b r q hk e;rw[hnn]at hk;rw[hpl k hk]at e;have:=(hP k hk).basin _ _ _ e;exact⟨this.1,λs hs=>(this.2.1.good s hs).1⟩
  ·intro k a b hk e;rw[hnn]at hk;rw[hpl k hk]at e;exact(hP k hk).town _ _ e
 refine⟨h,⟨hg,by lia,rfl,nm,λk hk=>by rw[hnn]at hk⊢;rw[hpl k hk];exact hP k hk⟩,λG=>?_⟩;have hdT:∀o:Option Nat,(∀d,o=vF d->d<n)->h.dnT o=dnS nm o:=λo ho=>by
  cases o with
  |none=>rfl
  |some d=>
   show(h.pl d).nm=nm d;rw[hpl d (ho d rfl),(hP d (ho d rfl)).nm]
 have henc:h.Ci=(List.range' 0 n).map λi=>Gp nm (P i):=by
  show((zQ n).map P).map h.encP=_;rw[qP,List.range_eq_range'];refine qk λk hk=>?_
  have hk':k<n:=by have:=List.mem_range'_1.mp hk;lia
  have ok:=hP k hk';show h.encP (P k)=Gp nm (P k);have ed:=hdT (P k).dn λd e=>(ok.dn d e).2
  unfold Hs.encP Gp;rw[ed];cases e:(P k).kd with
  | basin b r q=>
   have hq:=(ok.basin b r q e).2.2;cases q with
   |none=>rfl
   |some q=>
    obtain⟨to,dl,m⟩:=q;have ht:=(hq to dl m rfl).1;have e2:(h.pl to).nm=nm to:=by rw[hpl to ht,(hP to ht).nm]
    simp[Hs.Lr,Gd,e2]
  |town a b=>rfl
  |mill a=>rfl
 obtain⟨y4,y6,y7,y8,y9,y10,y11,y12,hL⟩:=ZIy (G:=G) (P:=P) (nm:=nm) (c:=f 0) (n:=n) (ns:=ns) (λk hk=>hB k hk G) n 0 [] vG vG vG vG vG vG vG vG (by lia) (by simp;lia);rw[<-henc]at hL;have hL':Aq (gV 4) Ji (Bh 0 n) [zN ns,zI (f 0),zI n,zF (Bf nm n),vG,zR G.length,vG,vG,vG,vG,vG,vG,vG] (G++[.lst []])=
    .nx [zN ns,zI (f 0),zI n,zF (Bf nm n),y4,zR G.length,y6,y7,y8,y9,y10,y11,y12] (G++[.lst h.Ci]):=hL
 have f0:∀G,Bc [nD ns,.int 0] G=.ok (.int (f 0)) G:=hf 0 (by lia);have f5:∀G,Bc [nD ns,.int 5] G=.ok (.int (f 5)) G:=hf 5 (by lia);have cp:∀G:DH,Ck (gV 0) Bd ZCd [vG,zN ns,zI n] (Bh 0 n) G=.ok (Bf nm n) G:=λG=>Kl λk hk=>by unfold ZCd;simp[f5,ZR0 hn hk,nm]
 have fz:freeze G (.ok (.ref G.length) (G++[.lst (Bf nm n)]))=.ok (.fl (Bf nm n)) G:=Dk ZL5;have hr:inR (n:Int):=Ed (by lia) (by lia);have hnl:n<=1000000:=by lia
 have eh:h.enc=.tup [.int yr,.tup h.Ci]:=rfl;unfold R7 ZD5;rw[Aw];simp[U6,hnl,f0,<-en,hr,Ay,cp,fz,Ah,Dr,hL',cy,Cw,An,Li,eh]
def thr(c:Int):Nat->Int
 |0=>c
 |j+1=>thr (c/3) j
theorem ZUd{s0 s1 s4 s5 s6 s7 s8 x:Option D}(G:DH):
  ∃y,Aq (gV 11) Oj (Bh 0 5) [s0,s1,s2,zI u,s4,s5,s6,s7,s8,zI c,zR G.length,x] (G++[.lst []])=.nx [s0,s1,s2,zI u,s4,s5,s6,s7,s8,y,zR G.length,zI 4] (G++[.lst (tab 5 λj=>u*(thr c j%3))]):=by
 have hb:∀(c:Int)(acc:List D)(x:Option D),acc.length<=10->Oj [s0,s1,s2,zI u,s4,s5,s6,s7,s8,zI c,zR G.length,x] (G++[.lst acc])=.nx [s0,s1,s2,zI u,s4,s5,s6,s7,s8,zI (c/3),zR G.length,x] (G++[.lst (acc++[.int (u*(c%3))])]):=λc acc x ha=>by
  have m:∀G,Aj (.int u) (.int (c%3)) G=.ok (.int (u*(c%3))) G:=λG=>Gz (by lia) (by lia)
  have hal:acc.length<1000000:=by lia
  unfold Oj ZGs;simp[m,Cw,Dz,hal]
 have e:Bh 0 5=[.int 0,.int 1,.int 2,.int 3,.int 4]:=rfl;refine⟨zI (c/3/3/3/3/3),?_⟩;rw[e];simp only[Bu,Cm,Cg,R.Cd,qx,Cq];rw[hb _ _ _ (by simp)];simp only[Cq,Bu,Cm,Cg,R.Cd,qx];rw[hb _ _ _ (by simp)];simp only[Cq,Bu,Cm,Cg,R.Cd,qx];rw[hb _ _ _ (by simp)];simp only[Cq,Bu,Cm,Cg,R.Cd,qx];rw[hb _ _ _ (by simp)];simp only[Cq,Bu,Cm,Cg,R.Cd,qx];rw[hb _ _ _ (by simp)]
 simp only[Cq,Bu,Cm,Cg,R.Cd,qx];simp[tab5,thr]
def lvS(h:Hs)(f:Nat->Int)(u:Int)(k:Nat):Int:=match(h.pl k).kd with
 |.basin b _ _=>amt (f (6+12*h.n+k)) u%(b+1)
 |_=>0
def coS(h:Hs)(f:Nat->Int)(u:Int)(k j:Nat):Int:=u*(thr (f (6+12*h.n+h.n+k)) j%3)
theorem ZRq(hu:0<u)(k j:Nat):0<=coS h f u k j:=jE (by lia) (by lia)
theorem ZBf(g:GoodH h){k:Nat}(hk:k<h.n):0<=lvS h f u k/\(∀b r q,(h.pl k).kd=.basin b r q->lvS h f u k<=b)/\((h.pl k).kd.isB=vI->lvS h f u k=0):=by
 unfold lvS;cases e:(h.pl k).kd with
 |basin b r q=>
  have:=(g.brim k b r q hk e).1
  refine⟨qT _ (by lia),λb' r' q' e'=>?_,λz=>nomatch z⟩
  cases e';show amt (f (6+12*h.n+k)) u%(b+1)<=b;have:=jJ (amt (f (6+12*h.n+k)) u) (show 0<b+1 by lia);lia
 |town a b=>exact⟨zL _,(λ_ _ _ z=>nomatch z),λ_=>rfl⟩
 |mill a=>exact⟨zL _,(λ_ _ _ z=>nomatch z),λ_=>rfl⟩
theorem ZIl(hf:Cf ns f){u:Int}(hu:0<u)(g:GoodH h){s1:Option D}{G:DH}:∀(m k:Nat)(L:DH)(x7 x8 x9 x10 x11:Option D),k+m=h.n->∃L' y7 y8 y9 y10 y11,
  Aq (gV 7) Q6 (Bh k m) [zN ns,s1,zT h.Ci,zI u,zI ((6+12*h.n:Nat):Int),zR G.length,zR (G.length+1),x7,x8,x9,x10,x11] (G++ .lst (tab k (lvS h f u)):: .lst (Am k (coS h f u))::L)=
   .nx [zN ns,s1,zT h.Ci,zI u,zI ((6+12*h.n:Nat):Int),zR G.length,zR (G.length+1),y7,y8,y9,y10,y11] (G++ .lst (tab h.n (lvS h f u)):: .lst (Am h.n (coS h f u))::L')
 |0,k,L,x7,x8,x9,x10,x11,e=>by
  have e1:k=h.n:=by lia
  subst e1;exact⟨L,x7,x8,x9,x10,x11,by rw[H9,Cm]⟩
 | m+1,k,L,x7,x8,x9,x10,x11,e=>by
  have hk:k<h.n:=by lia
  have hn:=g.len;let c:Int:=f (6+12*h.n+h.n+k);let G1:DH:=G++ .lst (tab (k+1) (lvS h f u)):: .lst (Am k (coS h f u))::L;obtain⟨y,hR⟩:=ZUd (u:=u) (c:=c) (s0:=zN ns) (s1:=s1) (s2:=zT h.Ci) (s4:=zI ((6+12*h.n:Nat):Int)) (s5:=zR G.length) (s6:=zR (G.length+1)) (s7:=zI k) (s8:=zI (lvS h f u k)) (x:=x11) G1;obtain⟨L',y7,y8,y9,y10,y11,ih⟩:=ZIl hf hu g m (k+1) (L++[.lst (tab 5 (coS h f u k))]) (s1:=s1) (G:=G) (zI k) (zI (lvS h f u k)) y (zR G1.length) (zI 4) (by lia)
  refine⟨L',y7,y8,y9,y10,y11,?_⟩;have ap:atI h.Ci (k:Int)=vF (h.encP (h.pl k)):=Hs.Eb hk;have c1:∀G,Bc [nD ns,.int (((6+12*h.n:Nat):Int)+(k:Int))] G=.ok (.int (f (6+12*h.n+k))) G:=λG=>by have:=hf (6+12*h.n+k) (by lia) G;rwa[show((6+12*h.n+k:Nat):Int)=((6+12*h.n:Nat):Int)+k by lia]at this
  have c2:∀G,Bc [nD ns,.int (((6+12*h.n:Nat):Int)+(h.n:Int)+(k:Int))] G=.ok (.int c) G:=λG=>by have:=hf (6+12*h.n+h.n+k) (by lia) G;rwa[show((6+12*h.n+h.n+k:Nat):Int)=((6+12*h.n:Nat):Int)+h.n+k by lia]at this
  have hbb:(6+12*h.n:Nat)=(6+12*h.n):=rfl;generalize hB:((6+12*h.n:Nat):Int)=B at c1 c2 hR ih⊢;have t1:∀(H:DH)(x9 x10 x11:Option D),Q6 [zN ns,s1,zT h.Ci,zI u,zI B,zR G.length,zR (G.length+1),zI k,x8,x9,x10,x11] H=Sy [zN ns,s1,zT h.Ci,zI u,zI B,zR G.length,zR (G.length+1),zI k,zI (lvS h f u k),x9,x10,x11] H:=λH x9 x10 x11=>by
   unfold Q6 ZFQ lvS;cases e:(h.pl k).kd with
   |basin b r q=>
    have hb0:=(g.brim k b r q hk e).1;have e4:∀G,Ad (h.encP (h.pl k)) (.int 4) G=.ok (.int b) G:=λG=>by unfold Hs.encP;rw[e];simp
    have hb1:0<b+1:=by lia
    have hb2:¬b+1=0:=by lia
    simp[ap,Gu,e,Kd.isB,c1,Jt hu,e4,hb1,hb2]
   |town a b=>simp[ap,Gu,e,Kd.isB]
   |mill a=>simp[ap,Gu,e,Kd.isB]
  have hl1:k<1000000:=by lia
  have et:tab k (lvS h f u)++[.int (lvS h f u k)]=tab (k+1) (lvS h f u):=by simp[tab,j3]
  have er:Am k (coS h f u)++[.tup (tab 5 (coS h f u k))]=Am (k+1) (coS h f u):=by simp[Am,j3]
  have t2:Sy [zN ns,s1,zT h.Ci,zI u,zI B,zR G.length,zR (G.length+1),zI k,zI (lvS h f u k),x9,x10,x11] (G++ .lst (tab k (lvS h f u)):: .lst (Am k (coS h f u))::L)=Uv [zN ns,s1,zT h.Ci,zI u,zI B,zR G.length,zR (G.length+1),zI k,zI (lvS h f u k),zI c,zR G1.length,x11] (G1++[.lst []]):=by
   have tn:tidy G1 (.ok (.ref G1.length) (G1++[.lst []]))=.ok (.ref G1.length) (G1++[.lst []]):=Dr rfl;unfold Sy ZHQ ZJo;have a1:(sEx (De Dl (dV 5) (Aa (dV 8) Ab))) [zN ns,s1,zT h.Ci,zI u,zI B,zR G.length,zR (G.length+1),zI k,zI (lvS h f u k),x9,x10,x11] (G++ .lst (tab k (lvS h f u)):: .lst (Am k (coS h f u))::L)=.nx [zN ns,s1,zT h.Ci,zI u,zI B,zR G.length,zR (G.length+1),zI k,zI (lvS h f u k),x9,x10,x11] G1:=by simp[Cw,Dz,hl1,et,G1]
   rw[Oz,a1,Vg]
   clear_value G1
   simp[Hs.Hu,c2,Ah,tn]
  have t5:Uv [zN ns,s1,zT h.Ci,zI u,zI B,zR G.length,zR (G.length+1),zI k,zI (lvS h f u k),zI c,zR G1.length,x11] (G1++[.lst []])=.nx [zN ns,s1,zT h.Ci,zI u,zI B,zR G.length,zR (G.length+1),zI k,zI (lvS h f u k),y,zR G1.length,zI 4] (G++ .lst (tab (k+1) (lvS h f u)):: .lst (Am (k+1) (coS h f u))::(L++[.lst (tab 5 (coS h f u k))])):=by
   have hr:inR 5:=Ed (by lia) (by lia);have eC:(tab 5 λj=>u*(thr c j%3))=tab 5 (coS h f u k):=rfl;rw[eC]at hR;unfold Uv;have a1:(By (Bk rng1 (Aa (dC (.int 5)) Ab)) (gV 11) Oj) [zN ns,s1,zT h.Ci,zI u,zI B,zR G.length,zR (G.length+1),zI k,zI (lvS h f u k),zI c,zR G1.length,x11] (G1++[.lst []])=.nx [zN ns,s1,zT h.Ci,zI u,zI B,zR G.length,zR (G.length+1),zI k,zI (lvS h f u k),y,zR G1.length,zI 4] (G1++[.lst (tab 5 (coS h f u k))]):=by simp[hr,hR]
   rw[Oz,a1,Vg];have gl:(G1++[DO.lst (tab 5 (coS h f u k))])[G1.length]?=vF (.lst (tab 5 (coS h f u k))):=by simp
   have gc:(G1++[DO.lst (tab 5 (coS h f u k))])[G.length+1]?=vF (.lst (Am k (coS h f u))):=by simp[G1]
   have gs:(G1++[DO.lst (tab 5 (coS h f u k))]).set (G.length+1) (.lst (Am (k+1) (coS h f u)))=(G++ .lst (tab (k+1) (lvS h f u)):: .lst (Am (k+1) (coS h f u))::(L++[.lst (tab 5 (coS h f u k))])):=by simp[G1]
   generalize G1++[DO.lst (tab 5 (coS h f u k))]=G2 at gl gc gs;unfold ZFY;simp[gl,gc,hl1,er,gs]
  rw[Ge,Bu];simp only[Cg,R.Cd,qx,t1,t2,t5,Cq];have e1:((k:Int)+1)=((k+1:Nat):Int):=by lia
  rw[e1,ih]
theorem ZOx(hf:Cf ns f)(hu:0<u)(cu:Cu ns u)(g:GoodH h)(G:DH):
  Vf [nD ns,h.enc] G=.ok (stD h.n (lvS h f u) (coS h f u)) G:=by
 obtain⟨L',y7,y8,y9,y10,y11,hL⟩:=ZIl hf hu g (s1:=vF h.enc) (G:=G) h.n 0 [] vG vG vG vG vG (by lia);have hL':Aq (gV 7) Q6 (Bh 0 h.n) [zN ns,vF h.enc,zT h.Ci,zI u,zI ((6+12*h.n:Nat):Int),zR G.length,zR (G.length+1),vG,vG,vG,vG,vG] (G++[.lst [],.lst []])=
   .nx [zN ns,vF h.enc,zT h.Ci,zI u,zI ((6+12*h.n:Nat):Int),zR G.length,zR (G.length+1),y7,y8,y9,y10,y11] (G++ .lst (tab h.n (lvS h f u)):: .lst (Am h.n (coS h f u))::L'):=hL
 have hn:=g.len;have m12:∀G,Aj (.int 12) (.int (h.n:Int)) G=.ok (.int (12*(h.n:Int))) G:=λG=>Fj (by lia) (by lia)
 have e6:(6+12*(h.n:Int))=((6+12*h.n:Nat):Int):=by lia
 generalize hB:((6+12*h.n:Nat):Int)=B at hL' e6;have fu:freeze G (.ok (.int u) G)=.ok (.int u) G:=Hl rfl;have hr:inR (h.n:Int):=Ed (by lia) (by lia);have t1:tidy (G++[.lst []]) (.ok (.ref (G.length+1)) (G++[.lst [],.lst []]))=.ok (.ref (G.length+1)) (G++[.lst [],.lst []]):=by have:=Dr (G:=G++[.lst []]) (ds:=[]) (L:=[]) rfl;simpa using this
 have g0:(G++ .lst (tab h.n (lvS h f u)):: .lst (Am h.n (coS h f u))::L')[G.length]?=vF (.lst (tab h.n (lvS h f u))):=by simp
 have g1:(G++ .lst (tab h.n (lvS h f u)):: .lst (Am h.n (coS h f u))::L')[G.length+1]?=vF (.lst (Am h.n (coS h f u))):=by simp
 have tp:tidy G (.ok (stD h.n (lvS h f u) (coS h f u)) (G++ .lst (tab h.n (lvS h f u)):: .lst (Am h.n (coS h f u))::L'))=.ok (stD h.n (lvS h f u) (coS h f u)) G:=Li (by simp[stD,Hc]);generalize G++DO.lst (tab h.n (lvS h f u))::DO.lst (Am h.n (coS h f u))::L'=G2 at hL' g0 g1 tp;unfold stD at tp⊢;unfold Vf ZGf;rw[Aw];simp[Cp,cu,fu,Hs.Hu,m12,e6,Ah,Dr,t1,hr,hL',g0,g1,An,tp]
def flS(n:Nat)(f:Nat->Int)(u:Int)(i k:Nat):Int:=amt (f (6+14*n+i*n+k)) u
theorem ZPj{n:Nat}(hu:0<u)(i k:Nat):0<=flS n f u i k:=Q9 hu
def Af(n:Nat)(fls:List (Nat->Int)):List D:=fls.map λfl=>.tup (tab n fl)
@[simp]theorem Ut{n:Nat}:bels m (Af n fls)=vH:=Ec λ_ _=>by simp
theorem ZGq{o:DO}(h:∀m,bels m ds=vH):freeze (G++[o]) (.ok (.ref (G.length+1)) (G++[o,.lst ds]))=.ok (.fl ds) (G++[o]):=by have:=Dk (G:=G++[o]) (ds:=ds) (L:=[]) (h _);simpa using this
theorem ZNV(hf:Cf ns f)(hu:0<u)(cu:Cu ns u){n:Nat}(hi:6+14*n+i*n+n<=1000)(hi2:i<=1000)(hn2:n<=1000){s1 x:Option D}{acc:List D}(ha:acc.length<=1000)(G:DH):
  Nz [zN ns,s1,s2,zI n,zI ((6+14*n:Nat):Int),zR G.length,zI i,x] (G++[.lst acc])=
   .nx [zN ns,s1,s2,zI n,zI ((6+14*n:Nat):Int),zR G.length,zI i,zF (tab n λk=>f (6+14*n+i*n+k))] (G++[.lst (acc++[.tup (tab n (flS n f u i))])]):=by
 have hal:acc.length<1000000:=by lia
 have mi:∀G,Aj (.int (i:Int)) (.int (n:Int)) G=.ok (.int ((i:Int)*n)) G:=λG=>Fj (by lia) (by lia)
 have fu:∀G,freeze G (.ok (.int u) G)=.ok (.int u) G:=λG=>Hl rfl
 have c1:∀G,Ck (gV 0) Bd ZBr [vG,zN ns,zI n,zI ((6+14*n:Nat):Int),zI i] (Bh 0 n) G=.ok (tab n λk=>f (6+14*n+i*n+k)) G:=λG=>
  Kl (F:=λk=>.int (f (6+14*n+i*n+k))) λk hk=>by
   have h1:=hf (6+14*n+i*n+k) (by lia) G;have e1:((6+14*n+i*n+k:Nat):Int)=((6+14*n:Nat):Int)+(i:Int)*n+k:=by rw[j4,j4,Int.natCast_mul]
   rw[e1]at h1;generalize((6+14*n:Nat):Int)=B at h1;unfold ZBr;simp[mi,h1]
 have c2:∀G,Ck (gV 0) Bd ZAc [vG,zN ns] (tab n λk=>f (6+14*n+i*n+k)) G=.ok (tab n (flS n f u i)) G:=λG=>
  Jo (E:=λk=>.int (f (6+14*n+i*n+k))) (F:=λk=>.int (flS n f u i k)) λk hk=>by unfold ZAc;simp[cu,fu,Jt hu,flS]
 have hr:inR (n:Int):=Ed (by lia) (by lia);have cs1:∀a b c d e f' g h:Option D,Ay 1 [0,3,4,6] [a,b,c,d,e,f',g,h]=[vG,a,d,e,g]:=λ_ _ _ _ _ _ _ _=>rfl
 have cs2:∀a b c d e f' g h:Option D,Ay 1 [0] [a,b,c,d,e,f',g,h]=[vG,a]:=λ_ _ _ _ _ _ _ _=>rfl
 have fz1:=ZGq (G:=G) (o:=.lst acc) (ds:=tab n λk=>f (6+14*n+i*n+k)) λ_=>Hc
 have fz2:=ZGq (G:=G) (o:=.lst acc) (ds:=tab n (flS n f u i)) λ_=>Hc
 generalize((6+14*n:Nat):Int)=B at c1;have hnl:n<=1000000:=by lia
 unfold Nz;simp[hnl,hr,cs1,cs2,c1,c2,fz1,fz2,Cw,Dz,hal]
theorem ZEQ(hf:Cf ns f)(hu:0<u)(cu:Cu ns u){n:Nat}(ht:6+14*n+t*n<=1000)(ht2:t<=100)(hn2:n<=1000){s1 s2:Option D}(G:DH):∀(m i:Nat)(x6 x7:Option D),i+m=t->∃y6 y7,
  Aq (gV 6) Nz (Bh i m) [zN ns,s1,s2,zI n,zI ((6+14*n:Nat):Int),zR G.length,x6,x7] (G++[.lst (Af n ((zQ i).map (flS n f u)))])=
   .nx [zN ns,s1,s2,zI n,zI ((6+14*n:Nat):Int),zR G.length,y6,y7] (G++[.lst (Af n ((zQ t).map (flS n f u)))])
 |0,i,x6,x7,e=>by
  have e1:i=t:=by lia
  subst e1;exact⟨x6,x7,by rw[H9,Cm]⟩
 |m+1,i,x6,x7,e=>by
  obtain⟨y6,y7,ih⟩:=ZEQ hf hu cu ht ht2 hn2 (s1:=s1) (s2:=s2) G m (i+1) (zI i) (zF (tab n λk=>f (6+14*n+i*n+k))) (by lia);refine⟨y6,y7,?_⟩;have hm:(i+1)*n<=t*n:=Nat.mul_le_mul_right n (by lia);have hm2:(i+1)*n=i*n+n:=Nat.succ_mul i n;have hb:=ZNV hf hu cu (n:=n) (i:=i) (by lia) (by lia) hn2 (s1:=s1) (s2:=s2) (x:=x7) (acc:=Af n ((zQ i).map (flS n f u))) (by simp[Af];lia) G
  have ea:Af n ((zQ i).map (flS n f u))++[.tup (tab n (flS n f u i))]=Af n ((zQ (i+1)).map (flS n f u)):=by simp[Af,j3]
  rw[ea]at hb;rw[Ge,Bu];simp only[Cg,R.Cd,qx,hb,Cq];have e1:((i:Int)+1)=((i+1:Nat):Int):=by lia
  rw[e1,ih]
theorem ZMP(hf:Cf ns f)(hu:0<u)(cu:Cu ns u)(g:GoodH h)(ht:6+14*h.n+t*h.n<=1000)(ht2:t<=100)(G:DH):
  Ur [nD ns,h.enc,.int t] G=.ok (.ref G.length) (G++[.lst (Af h.n ((zQ t).map (flS h.n f u)))]):=by
 have hn:=g.len;obtain⟨y6,y7,hL⟩:=ZEQ hf hu cu ht ht2 (by lia) (s1:=vF h.enc) (s2:=zI t) G t 0 vG vG (by lia);have hL':Aq (gV 6) Nz (Bh 0 t) [zN ns,vF h.enc,zI t,zI h.n,zI ((6+14*h.n:Nat):Int),zR G.length,vG,vG] (G++[.lst []])=
   .nx [zN ns,vF h.enc,zI t,zI h.n,zI ((6+14*h.n:Nat):Int),zR G.length,y6,y7] (G++[.lst (Af h.n ((zQ t).map (flS h.n f u)))]):=hL
 have m14:∀G,Aj (.int 14) (.int (h.n:Int)) G=.ok (.int (14*(h.n:Int))) G:=λG=>Fj (by lia) (by lia)
 have e6:(6+14*(h.n:Int))=((6+14*h.n:Nat):Int):=by lia
 generalize hB:((6+14*h.n:Nat):Int)=B at hL' e6;have hr:inR (t:Int):=Ed (by lia) (by lia);unfold Ur ZDL;rw[Aw];simp[Cp,Hs.Hu,m14,e6,Ah,Dr,hr,hL']
theorem ZUF(hf:Cf ns f):∃a:Int,0<=a/\∀G,Od [nD ns] G=.ok (.int a) G:=by
 have h3:∀G,Bc [nD ns,.int 3] G=.ok (.int (f 3)) G:=hf 3 (by lia);have fz:∀G:DH,freeze G (.ok (.ref G.length) (G++[.lst [.int 50,.int 1000000000000000000000000000000000000000]]))=.ok (.fl [.int 50,.int 1000000000000000000000000000000000000000]) G:=λG=>Dk rfl
 rcases(by lia:f 3%2=0∨f 3%2=1)with z|z
 ·refine⟨f 3/2%50,by lia,λG=>?_⟩;unfold Od Wa;rw[Aw];simp[h3,z,Ah,fz,Be]
 ·refine⟨f 3/2%1000000000000000000000000000000000000000,by lia,λG=>?_⟩;unfold Od Wa;rw[Aw];simp[h3,z,Ah,fz,Be]
abbrev St2:=(Nat->Int)×(Nat->Nat->Int)
def Hs.nxt(h:Hs)(s:St2)(a:Int)(fl:Nat->Int):St2:=(lies (h.cs s.1 s.2 a fl).page,(h.cs s.1 s.2 a fl).coming)
def Hs.Em(h:Hs):List (Nat->Int)->St2->Int->St2
 |[],s,_=>s
 |fl::r,s,a=>h.Em r (h.nxt s a fl) (a+1)
def Hs.Bt(h:Hs):List (Nat->Int)->St2->Int->List (Nat->List Int)
 |[],_,_=>[]
 |fl::r,s,a=>(h.cs s.1 s.2 a fl).page::h.Bt r (h.nxt s a fl) (a+1)
theorem O3:∀{fls:List (Nat->Int)}{s:St2}{a:Int},(h.Bt fls s a).length=fls.length
 |[],_,_=>rfl
 |fl::r,s,a=>by show(h.Bt r (h.nxt s a fl) (a+1)).length+1=r.length+1;rw[O3]
def pgD(n:Nat)(pg:Nat->List Int):D:=.tup (Cj n pg)
@[simp]theorem ZL6{n:Nat}:bel m (pgD n pg)=vH:=by simp[pgD]
@[simp]theorem Tu{n:Nat}:bels m (pgs.map (pgD n))=vH:=Ec λ_ _=>ZL6
@[simp]theorem Ma{n:Nat}:bel m (stD n lv co)=vH:=by simp[stD]
theorem Xm(g:GoodH h){fl:Nat->Int}(hc:∀k j,k<h.n->j<5->0<=co k j)(hf:∀k,k<h.n->0<=fl k):(h.cs lv co a fl).NN h.n:=ZFr g h.n 0 _ (by lia) (ZJC hc hf)
def enS:Int->List D->List D
 |_,[]=>[]
 |a,x::r=>.tup [.int a,x]::enS (a+1) r
theorem ZDo:∀(xs:List D)(a:Int)(j:Nat),(enS a xs)[j]?=xs[j]?.map λx=>.tup [.int (a+j),x]
 |[],a,j=>by simp[enS]
 |x::r,a,0=>by simp[enS]
 |x::r,a,j+1=>by
  show(enS (a+1) r)[j]?=r[j]?.map _;rw[ZDo r (a+1) j];have e:a+1+(j:Int)=a+((j+1:Nat):Int):=by lia
  rw[e]
theorem ZIu:∀(xs:List D)(a:Int),(enS a xs).length=xs.length
 |[],a=>rfl
 |x::r,a=>by show(enS (a+1) r).length+1=r.length+1;rw[ZIu]
theorem ZD7{g:DG}{b:DS}{xs:List D}:Dh (Dp a (.fl xs)) g b xs.length 0 S G=Aq g b (enS a xs) S G:=O4 (λj G=>by show vF (xs[j]?.map _)=_;rw[ZDo]) (ZIu xs a).symm
theorem ZHd(g:GoodH h){s2 s3:Option D}{G:DH}:∀(fls:List (Nat->Int))(s:St2)(a:Int)(acc:List D)(x5 x6 x7:Option D),acc.length+fls.length<=1000->(∀k j,k<h.n->j<5->0<=s.2 k j)->(∀fl∈fls,∀k,k<h.n->0<=fl k)->∃y5 y6 y7,
  Aq (Ao 2 (Ae (gV 5) (Ae (gV 6) Ax))) Ol (enS a (Af h.n fls)) [vF h.enc,vF (stD h.n s.1 s.2),s2,s3,zR G.length,x5,x6,x7] (G++[.lst acc])=
   .nx [vF h.enc,vF (stD h.n (h.Em fls s a).1 (h.Em fls s a).2),s2,s3,zR G.length,y5,y6,y7] (G++[.lst (acc++(h.Bt fls s a).map (pgD h.n))])
 |[],s,a,acc,x5,x6,x7,_,_,_=>⟨x5,x6,x7,by show Aq _ _ [] _ _=_;rw[Cm];simp[Hs.Em,Hs.Bt]⟩
 |fl::r,s,a,acc,x5,x6,x7,hl,hc,hf=>by
  have hf1:=hf fl (by simp);have nn:=Xm g (lv:=s.1) (fl:=fl) (co:=s.2) (a:=a) hc hf1;simp only[qQ]at hl;obtain⟨y5,y6,y7,ih⟩:=ZHd g (s2:=s2) (s3:=s3) (G:=G) r (h.nxt s a fl) (a+1) (acc++[pgD h.n (h.cs s.1 s.2 a fl).page]) (zI a) (zT (tab h.n fl)) (vF (pgD h.n (h.cs s.1 s.2 a fl).page)) (by simp;lia) nn.2 (λf' hf'=>hf f' (zZ _ hf'));refine⟨y5,y6,y7,?_⟩;have ct:=ZLb g (lv:=s.1) (fl:=fl) (co:=s.2) (at_:=a) hc hf1
  have hal:acc.length<1000000:=by lia
  have hb:Ol [vF h.enc,vF (stD h.n s.1 s.2),s2,s3,zR G.length,zI a,zT (tab h.n fl),x7] (G++[.lst acc])=.nx [vF h.enc,vF (stD h.n (h.nxt s a fl).1 (h.nxt s a fl).2),s2,s3,zR G.length,zI a,zT (tab h.n fl),vF (pgD h.n (h.cs s.1 s.2 a fl).page)] (G++[.lst (acc++[pgD h.n (h.cs s.1 s.2 a fl).page])]):=by unfold Ol;simp[ct,Cw,Dz,hal,pgD,Hs.nxt]
  show Aq _ _ (.tup [.int a,.tup (tab h.n fl)]::enS (a+1) (Af h.n r)) _ _=_;rw[Bu];simp only[N8,N7,Mi,Cg,R.Hk,R.Cd,qx,hb,Cq,qQ,jK,Nat.reduceAdd,if_true];rw[ih];simp[Hs.Em,Hs.Bt]
theorem ZOR{n:Nat}:(Af n fls).length=fls.length:=by simp[Af]
theorem ZGL{G':DH}(h:bels G.length ds=vI):tidy G (.ok (.tup ds) G')=.ok (.tup ds) G':=by unfold tidy;simp[h]
theorem Ql(h1:bels G.length ds=vH)(h2:bel G.length e=vH):freeze G (.ok (.tup [.ref G.length,e]) (G++[.lst ds]))=.ok (.tup [.fl ds,e]) G:=by
 unfold freeze;have m:Du (G++[.lst ds]) G.length 9 (.tup [.ref G.length,e])=zT [.fl ds,e]:=by
  unfold Du;have m1:Du (G++[.lst ds]) G.length 8 (.ref G.length)=zF ds:=by unfold Du;simp[Uq h1]
  have m2:Du (G++[.lst ds]) G.length 8 e=vF e:=by unfold Du;simp[h2]
  simp[Hx,m1,m2]
 simp[m]
theorem Tz(g:GoodH h){s:St2}(hl:fls.length<=1000)(hc:∀k j,k<h.n->j<5->0<=s.2 k j)(hf:∀fl∈fls,∀k,k<h.n->0<=fl k)(G:DH):
  Ky [h.enc,stD h.n s.1 s.2,.int a,.fl (Af h.n fls)] G=.ok (.tup [.ref G.length,stD h.n (h.Em fls s a).1 (h.Em fls s a).2]) (G++[.lst ((h.Bt fls s a).map (pgD h.n))]):=by
 obtain⟨y5,y6,y7,hL⟩:=ZHd g (s2:=zI a) (s3:=zF (Af h.n fls)) (G:=G) fls s a [] vG vG vG (by simp;lia) hc hf;have hL':Dh (Dp a (.fl (Af h.n fls))) (Ao 2 (Ae (gV 5) (Ae (gV 6) Ax))) Ol (Af h.n fls).length 0 [vF h.enc,vF (stD h.n s.1 s.2),zI a,zF (Af h.n fls),zR G.length,vG,vG,vG] (G++[.lst []])=
   .nx [vF h.enc,vF (stD h.n (h.Em fls s a).1 (h.Em fls s a).2),zI a,zF (Af h.n fls),zR G.length,y5,y6,y7] (G++[.lst ((h.Bt fls s a).map (pgD h.n))]):=by
  rw[ZD7];exact hL
 have tt:∀e:D,tidy G (.ok (.tup [.ref G.length,e]) (G++[.lst ((h.Bt fls s a).map (pgD h.n))]))=.ok (.tup [.ref G.length,e]) (G++[.lst ((h.Bt fls s a).map (pgD h.n))]):=λe=>ZGL (by simp)
 unfold Ky ZFL;rw[Aw];simp[Ah,Dr,Ny,hL',An,tt]
structure SameR (rs rs':List Row):Prop where
 len:rs'.length=rs.length
 dn:∀k,Bj rs' k=Bj rs k
 rk:∀k,col Row.rank rs' k=col Row.rank rs k
theorem ZG5(h:SameR rs rs'):∀(m k:Nat),Hb rs' m k=Hb rs m k
 |0,k=>rfl
 |m+1,k=>by
  show k::_=k::_;rw[h.dn k];cases Bj rs k with
  |none=>rfl
  |some d=>show k::Hb rs' m d=k::Hb rs m d;rw[ZG5 h m d]
theorem SameR.way(h:SameR rs rs')(k:Nat):way rs' k=way rs k:=by unfold _W.way;rw[h.len,ZG5 h]
theorem SameR.ltK(h:SameR rs rs'):ltK rs'=ltK rs:=by funext i j;unfold _W.ltK;rw[h.rk,h.rk]
theorem SameR.ord(h:SameR rs rs'):ord rs'=ord rs:=by unfold _W.ord;rw[h.len,h.ltK]
theorem SameR.gat(h:SameR rs rs'):∀(m k:Nat)(F:Nat->Int),gat rs' m k F=gat rs m k F
 |0,k,F=>rfl
 |m+1,k,F=>by show _W.gat rs' m (k+1) (gstep F k (Bj rs' k))=_W.gat rs m (k+1) (gstep F k (Bj rs k));rw[h.dn k,SameR.gat h]
theorem SameR.gath(h:SameR rs rs')(F:Nat->Int):gath rs' F=gath rs F:=by show _W.gat rs' rs'.length 0 F=_;rw[h.len,h.gat]
theorem ZJ1(h:SameR rs rs'):∀(ks:List Nat)(P T:Nat->Int),(∀k∈ks,col Row.need rs' k=col Row.need rs k)->srv rs' ks P T=srv rs ks P T
 |[],P,T,_=>rfl
 |k::ks,P,T,hn=>by
  have e:take1 rs' P k=take1 rs P k:=by unfold take1;rw[hn k zW,h.way]
  show srv rs' ks (Di P (way rs' k) (take1 rs' P k)) (fset T k (take1 rs' P k))=_;rw[e,h.way,ZJ1 h ks _ _ λj hj=>hn j (zZ _ hj)]
  rfl
theorem ZFb(hR:Reach rs):∀(m k:Nat),rs.length<=m+k->∀b∈way rs k,∀c∈way rs b,c∈way rs k
 |0,k,h,b,hb,c,hc=>by
  rw[Eo hR,Uc (by lia)]at hb;have e:b=k:=by simpa[Gm]using hb
  rw[e]at hc;exact hc
 | m+1,k,h,b,hb,c,hc=>by
  rw[Eo hR]at hb⊢;rcases zq.mp hb with rfl|hb
  ·rw[Eo hR]at hc;exact hc
  ·cases hd:Bj rs k with
   |none=>rw[hd]at hb;cases hb
   |some d=>
    rw[hd]at hb;have:=Gn hR hd;exact zZ _ (ZFb hR m d (by lia) b hb c hc)
theorem Q5(hR:Reach rs){k b c:Nat}(hb:b∈way rs k)(hc:c∈way rs b):c∈way rs k:=ZFb hR rs.length k (by lia) b hb c hc
theorem ZHi(hR:Reach rs):∀(m k:Nat),rs.length<=m+k->∀b∈way rs k,∀c∈way rs k,c∈way rs b∨b∈way rs c
 |0,k,h,b,hb,c,hc=>by
  rw[Eo hR,Uc (by lia)]at hb hc;have e:b=k:=by simpa[Gm]using hb
  have e2:c=k:=by simpa[Gm]using hc
  subst e;subst e2;exact .inl (ZPs hR _)
 | m + 1,k,h,b,hb,c,hc=>by
  have hb0:=hb;have hc0:=hc;rw[Eo hR]at hb hc;rcases zq.mp hb with rfl|hb
  ·exact .inl hc0
  ·rcases zq.mp hc with rfl|hc
   ·exact .inr hb0
   ·cases hd:Bj rs k with
    |none=>rw[hd]at hb;cases hb
    |some d=>
     rw[hd]at hb hc;have:=Gn hR hd;exact ZHi hR m d (by lia) b hb c hc
theorem Z5(hR:Reach rs){k b c:Nat}(hb:b∈way rs k)(hc:c∈way rs k):c∈way rs b∨b∈way rs c:=ZHi hR rs.length k (by lia) b hb c hc
theorem ZMu(hR:Reach rs){k:Nat}(h:Bj rs k=vG):way rs k=[k]:=by rw[Eo hR,h];rfl
def MW(rs:List Row)(one:Nat)(ks:List Nat)(A B:(Nat->Int)×(Nat->Int)):Prop:=
 ((∀i,B.1 i=A.1 i+ind 1 (way rs one) i)/\∀i,B.2 i=A.2 i)∨
 ∃k c,k∉ks/\(∀i,B.1 i=A.1 i+ind 1 (way rs one) i-ind 1 (way rs k) i)/\(∀i,B.2 i=A.2 i+ind 1 [k] i)/\c∈way rs one/\c∈way rs k/\c<rs.length/\A.1 c=0
theorem ZCb(hR:Reach rs)(p0:∀i,i<rs.length->0<=P i){k:Nat}(hk:k<rs.length):0<=take1 rs P k/\∀b∈way rs k,take1 rs P k<=P b:=by
 have h1:0<=wmin P (way rs k):=ZDa λb hb=>p0 b (Mw hR hk hb).2
 have h2:=hR.need k;unfold take1;refine⟨by lia,λb hb=>?_⟩;have:=Rm (P:=P) hb;lia
theorem ZFe(hR:Reach rs)(p0:∀i,i<rs.length->0<=P i){k:Nat}(hk:k<rs.length):∀i,i<rs.length->0<=Di P (way rs k) (take1 rs P k) i:=λi hi=>by
 obtain⟨_,h⟩:=ZCb hR p0 hk;simp only[Di];split
 ·rename_i hm;have:=h i hm;lia
 ·exact p0 i hi
theorem Kw{t:Int}(ht:0<=t):0<=ind t ws i/\ind t ws i<=t:=by
 unfold ind
 split <;> lia
theorem ZC1 (hR:Reach rs) {one:Nat}:∀(ks:List Nat)(P T P' T':Nat->Int),ks.Nodup->(∀k∈ks,k<rs.length)->(∀i,i<rs.length->0<=P i)->(∀i,i<rs.length->0<=P' i)->MW rs one ks (P,T) (P',T')->MW rs one [] (srv rs ks P T) (srv rs ks P' T')
 |[],P,T,P',T',_,_,_,_,h=>h
 | k::ks,P,T,P',T',nd,hks,p0,p0',h=>by
  obtain⟨n1,n2⟩:=qL.mp nd;have hk:=hks k zW;refine ZC1 hR ks _ _ _ _ n2 (λj hj=>hks j (zZ _ hj)) (ZFe hR p0 hk) (ZFe hR p0' hk) ?_;have wne:way rs k≠[]:=by rw[Eo hR];simp
  rcases h with⟨hP,hT⟩|⟨q,c,hq,hP,hT,c1,c2,cn,c0⟩
  ·simp only at hP hT;obtain⟨b,hb,eb⟩:=Wb (P:=P) wne;obtain⟨b',hb',eb'⟩:=Wb (P:=P') wne;have h1:=Rm (P:=P') hb;have h2:=Rm (P:=P) hb';rw[hP]at h1 eb';have i1:=Kw (t:=1) (ws:=way rs one) (i:=b) (by decide);have i2:=Kw (t:=1) (ws:=way rs one) (i:=b') (by decide);by_cases ht:take1 rs P' k=take1 rs P k
   ·refine .inl ⟨λi=>?_,λi=>?_⟩
    ·show Di P' (way rs k) (take1 rs P' k) i=Di P (way rs k) (take1 rs P k) i+_;rw[ht];simp only[Di,hP]
     split <;> lia
    ·show fset T' k (take1 rs P' k) i=fset T k (take1 rs P k) i;rw[ht];simp only[fset,hT]
   ·have e1:take1 rs P' k=take1 rs P k+1:=by unfold take1 at ht⊢;lia
    have e2:take1 rs P k=P b:=by unfold take1 at e1⊢;lia
    have hbR:b∈way rs one:=by apply Classical.byContradiction;intro hn;have:ind 1 (way rs one) b=0:=if_neg hn;unfold take1 at e1;lia
    refine .inr ⟨k,b,n1,λi=>?_,λi=>?_,hbR,hb,(Mw hR hk hb).2,?_⟩
    ·show Di P' (way rs k) (take1 rs P' k) i=Di P (way rs k) (take1 rs P k) i+ind 1 (way rs one) i-ind 1 (way rs k) i;rw[e1];simp only[Di,hP];by_cases hi:i∈way rs k
     ·have:ind 1 (way rs k) i=1:=if_pos hi;rw[if_pos hi,if_pos hi];lia
     ·have:ind 1 (way rs k) i=0:=if_neg hi;rw[if_neg hi,if_neg hi];lia
    ·show fset T' k (take1 rs P' k) i=fset T k (take1 rs P k) i+ind 1 [k] i;rw[e1];simp only[fset,hT,ind,qH]
     split <;> lia
    ·show Di P (way rs k) (take1 rs P k) b=0;simp only[Di,hb,if_true];lia
  ·simp only at hP hT c0;simp only[zq,not_or]at hq;have hne:k≠q:=λe=>hq.1 e.symm
   have c0':P' c=0:=by rw[hP];have e1:ind 1 (way rs one) c=1:=if_pos c1;have e2:ind 1 (way rs q) c=1:=if_pos c2;lia
   have ht:take1 rs P' k=take1 rs P k/\(c∈way rs k->take1 rs P k=0):=by
    by_cases hc:c∈way rs k
    ·obtain⟨a1,a2⟩:=ZCb hR p0 hk;obtain⟨a3,a4⟩:=ZCb hR p0' hk;have:=a2 c hc;have:=a4 c hc;exact⟨by lia,λ_=>by lia⟩
    ·refine⟨?_,λh=>absurd h hc⟩;unfold take1;rw[ZQl (P:=P') (Q:=P) λb hb=>?_];rw[hP];have:ind 1 (way rs one) b=ind 1 (way rs q) b:=by
      unfold ind;by_cases b1:b∈way rs one
      ·by_cases b2:b∈way rs q
       ·rw[if_pos b1,if_pos b2]
       ·exfalso
        rcases Z5 hR b1 c1 with z|z
        ·exact hc (Q5 hR hb z)
        ·exact b2 (Q5 hR c2 z)
      ·by_cases b2:b∈way rs q
       ·exfalso
        rcases Z5 hR b2 c2 with z|z
        ·exact hc (Q5 hR hb z)
        ·exact b1 (Q5 hR c1 z)
       ·rw[if_neg b1,if_neg b2]
     lia
   obtain⟨ht,h0⟩:=ht;refine .inr ⟨q,c,hq.2,λi=>?_,λi=>?_,c1,c2,cn,?_⟩
   ·show Di P' (way rs k) (take1 rs P' k) i=Di P (way rs k) (take1 rs P k) i+ind 1 (way rs one) i-ind 1 (way rs q) i;rw[ht];simp only[Di,hP]
    split <;> lia
   ·show fset T' k (take1 rs P' k) i=fset T k (take1 rs P k) i+ind 1 [q] i;rw[ht];simp only[fset,hT];split
    ·rename_i e;have:ind 1 [q] i=0:=if_neg (by rw[e];simpa using hne);lia
    ·rfl
   ·show Di P (way rs k) (take1 rs P k) c=0;simp only[Di];split
    ·rename_i hm;rw[h0 hm];lia
    ·exact c0
def Sh(rs:List Row)(W:Nat->Int):(Nat->Int)×(Nat->Int):=srv rs (ord rs) (gath rs W) λ_=>0
def LeS(rs:List Row)(A B:(Nat->Int)×(Nat->Int)):Prop:=(∀i,A.2 i<=B.2 i)/\∀i,Bj rs i=vG->A.1 i<=B.1 i
theorem ZS7(hR:Reach rs)(hW:∀i,0<=W i){k:Nat}(hk:k<rs.length):MW rs k [] (Sh rs W) (Sh rs λi=>W i+ind 1 [k] i):=by
 have e:gath rs (λi=>W i+ind 1 [k] i)=λi=>gath rs W i+ind 1 (way rs k) i:=Ru hR rs.length 0 k W (by lia) (by lia) hk
 unfold Sh;rw[e];have h0:=λi=>We (rs:=rs) rs.length 0 W hW i
 exact ZC1 hR (ord rs) _ _ _ _ (ZIY rs) (λj hj=>Y9 hj) (λi _=>h0 i) (λi _=>by have:=Kw (t:=1) (ws:=way rs k) (i:=i) (by decide);have:=h0 i;show 0<=gat rs rs.length 0 W i+ind 1 (way rs k) i;lia) (.inl ⟨λi=>rfl,λi=>rfl⟩)
theorem MW.le(hR:Reach rs){one:Nat}{A B:(Nat->Int)×(Nat->Int)}(h:MW rs one [] A B):LeS rs A B:=by
 rcases h with⟨hP,hT⟩|⟨q,c,_,hP,hT,c1,c2,cn,c0⟩
 ·refine⟨λi=>by rw[hT];exact zL _,λi _=>?_⟩;have:=Kw (t:=1) (ws:=way rs one) (i:=i) (by decide);rw[hP];lia
 ·refine⟨λi=>?_,λi hi=>?_⟩
  ·have:=Kw (t:=1) (ws:=[q]) (i:=i) (by decide);rw[hT];lia
  ·rw [hP];by_cases hm:i∈way rs q
   ·have hm2:i∈way rs one:=by
     rcases Z5 hR hm c2 with z|z
     ·rw[ZMu hR hi]at z;have e:c=i:=by simpa using z
      rw[<-e];exact c1
     ·exact Q5 hR c1 z
    have e1:ind 1 (way rs one) i=1:=if_pos hm2;have e2:ind 1 (way rs q) i=1:=if_pos hm;lia
   ·have e2:ind 1 (way rs q) i=0:=if_neg hm;have:=Kw (t:=1) (ws:=way rs one) (i:=i) (by decide);lia
theorem LeS.trans{A B C:(Nat->Int)×(Nat->Int)}(h1:LeS rs A B)(h2:LeS rs B C):LeS rs A C:=⟨λi=>jv (h1.1 i) (h2.1 i),λi hi=>jv (h1.2 i hi) (h2.2 i hi)⟩
theorem LeS.refl{A:(Nat->Int)×(Nat->Int)}:LeS rs A A:=⟨λ_=>zL _,λ_ _=>zL _⟩
theorem ZIp(hR:Reach rs){k:Nat}(hk:k<rs.length):∀(m:Nat)(W:Nat->Int),(∀i,0<=W i)->LeS rs (Sh rs W) (Sh rs λi=>W i+ind (m:Int) [k] i)
 | 0,W,hW=>by
  have e:(λi=>W i+ind ((0:Nat):Int) [k] i)=W:=by
   funext i;unfold ind
   split <;> simp
  rw[e];exact .refl
 | m+1,W,hW=>by
  have h1:=ZIp hR hk m W hW;have h2:=(ZS7 hR (W:=λi=>W i+ind (m:Int) [k] i) (λi=>by have:=Kw (t:=(m:Int)) (ws:=[k]) (i:=i) (by lia);have:=hW i;show 0<=W i+ind (m:Int) [k] i;lia) hk).le hR
  have e:(λi=>(W i+ind (m:Int) [k] i)+ind 1 [k] i)=λi=>W i+ind ((m+1:Nat):Int) [k] i:=by
   funext i;unfold ind
   split <;> lia
  rw[e]at h2;exact h1.trans h2
theorem ZDR(hR:Reach rs){W':Nat->Int}(hW:∀i,0<=W i)(hle:∀i,W i<=W' i):∀j,j<=rs.length->LeS rs (Sh rs W) (Sh rs λi=>if i<j then W' i else W i)
 |0,_=>by simp only[xK,if_false];exact .refl
 | j + 1,h=>by
  have h1:=ZDR hR hW hle j (by lia);have h2:=ZIp hR (k:=j) (by lia) (W' j-W j).toNat (λi=>if i<j then W' i else W i) λi=>by
   have:=hW i;have:=hle i;show 0<=if i<j then W' i else W i
   split <;> lia
  have e:(λi=>(if i<j then W' i else W i)+ind ((W' j-W j).toNat:Int) [j] i)=λi=>if i<j+1 then W' i else W i:=by
   funext i;simp only[ind,qH];by_cases e1:i=j
   ·subst e1;have:=hle i;simp;lia
   ·by_cases e2:i<j
    ·have e3:i<j+1:=by lia
     simp[e1,e2,e3]
    ·have e3:¬i<j+1:=by lia
     simp[e1,e2,e3]
  rw[e]at h2;exact h1.trans h2
theorem ZUs(hR:Reach rs){W':Nat->Int}(hW:∀i,0<=W i)(hle:∀i,W i<=W' i)(ho:∀i,¬i<rs.length->W' i=W i):LeS rs (Sh rs W) (Sh rs W'):=by
 have h:=ZDR hR hW hle rs.length (zK _);have e:(λi=>if i<rs.length then W' i else W i)=W':=by
  funext i;split
  ·rfl
  ·rename_i hi;exact(ho i hi).symm
 rw[e]at h;exact h
theorem ZJd(hS:SameR rs rs')(hn:∀k,col Row.need rs' k=col Row.need rs k):srv rs' (ord rs') (gath rs' (col Row.water rs')) (λ_=>0)=Sh rs (col Row.water rs'):=by unfold Sh;rw[hS.ord,hS.gath,ZJ1 hS _ _ _ λk _=>hn k]
theorem ZIf(hS:SameR rs rs')(hn:∀k,col Row.need rs' k=col Row.need rs k):shr rs'=(Sh rs (col Row.water rs')).2:=by unfold shr;rw[ZJd hS hn]
theorem ZDs(hR:Reach rs')(hS:SameR rs rs')(hn:∀k,col Row.need rs' k=col Row.need rs k):gath rs' (λi=>col Row.water rs' i-shr rs' i)=(Sh rs (col Row.water rs')).1:=by rw[<-(Qs hR).pg,ZJd hS hn]
def Cv:Nat->(Nat->Int)->Int
 |0,_=>0
 |n+1,F=>Cv n F+F n
theorem Oa:∀{n:Nat}{F F':Nat->Int},(∀i,i<n->F i=F' i)->Cv n F=Cv n F'
 |0,_,_,_=>rfl
 |n+1,F,F',h=>by show Cv n F+F n=Cv n F'+F' n;rw[Oa λi hi=>h i (by lia),h n (by lia)]
def Eh(pg:Nat->List Int)(j:Nat):Int:=(pg j).getD 2 0+(pg j).getD 3 0
def Kh(pg:Nat->List Int)(j:Nat):Int:=(pg j).getD 4 0
def Hs.pmp(h:Hs)(k:Nat):Option (Nat×Nat):=match(h.pl k).kd with
 |.basin _ _ (vF (to,dl,_))=>vF (to,dl)
 |_=>vG
def Hs.c1(h:Hs)(pg:Nat->List Int)(i j:Nat):Int:=if h.dir j=vG/\h.dn j=vF i/\(h.pl j).dl=0 then Eh pg j else 0
def Hs.o1(h:Hs)(pg:Nat->List Int)(i a j:Nat):Int:=(if h.dn j=vF i/\(h.pl j).dl=a+1 then Eh pg j else 0)+(if h.pmp j=vF (i,a+1)then Kh pg j else 0)
def Hs.brow(h:Hs)(yt:Int)(lv:Nat->Int)(k:Nat)(c:Int):List Int:=match(h.pl k).kd with
 |.basin brim rule _=>
  let w:=lv k+c;let st:=held yt rule [];let stays:=w-rv w st-pm w st
  [c,0,stays-min stays brim,rv w st,pm w st,min stays brim]
 |_=>[]
def Hs.H8(h:Hs)(ca:Nat->Int)(m:Nat):Nat->Int:=shr (h.rows (h.mem m) ca)
def Hs.Ip(h:Hs)(ca:Nat->Int)(m:Nat):Nat->Int:=gath (h.rows (h.mem m) ca) λi=>col Row.water (h.rows (h.mem m) ca) i-h.H8 ca m i
theorem ZMF(e:∀k∈ms,ca k=ca' k):h.rows ms ca=h.rows ms ca':=by
 unfold Hs.rows;refine qk λk hk=>?_
 unfold Hs.row;rw[e k hk]
theorem ZDD:(s.send to dl c).came i=s.came i+(if to=i/\dl=0 then c else 0):=by
 unfold Cs.send;by_cases h0:dl=0
 ·simp only[h0,if_true,and_true,fset];by_cases e:i=to
  ·subst e;simp
  ·rw[if_neg e,if_neg (λz=>e z.symm)];lia
 ·simp[h0]
theorem ZEj{a:Nat}:(s.send to dl c).coming i a=s.coming i a+(if to=i/\dl=a+1 then c else 0):=by
 unfold Cs.send;by_cases h0:dl=0
 ·simp[h0]
 ·simp only[h0,if_false,upd2];by_cases e:i=to
  ·subst e;simp only[if_true,fset,true_and];by_cases ea:a=dl-1
   ·have e2:dl=a+1:=by lia
    rw[if_pos ea,if_pos e2,ea]
   ·have e2:¬dl=a+1:=by lia
    rw[if_neg ea,if_neg e2];lia
  ·rw[if_neg e,if_neg (λz=>e z.1.symm)];lia
theorem ZAB{k:Nat}:(h.Ek s k c).came i=s.came i+(if h.dn k=vF i/\(h.pl k).dl=0 then c else 0):=by
 unfold Hs.Ek;cases e:h.dn k with
 |none=>simp
 |some d=>simp only[ZDD,Option.some.injEq]
theorem Za{k:Nat}{a:Nat}:(h.Ek s k c).coming i a=s.coming i a+(if h.dn k=vF i/\(h.pl k).dl=a+1 then c else 0):=by
 unfold Hs.Ek;cases e:h.dn k with
 |none=>simp
 |some d=>simp only[ZEj,Option.some.injEq]
theorem ZGt{k:Nat}(hB:(h.pl k).kd.isB=vH):h.dir k=vG:=by
 unfold Hs.dir;cases h.dn k with
 |none=>rfl
 |some d=>simp[hB]
theorem ZBP{k:Nat}(e:h.dir k=vF d):h.dn k=vF d/\(h.pl k).dl=0/\(h.pl k).kd.isB=vI/\(h.pl d).kd.isB=vI:=by
 unfold Hs.dir at e;cases hd:h.dn k with
 |none=>rw[hd]at e;cases e
 | some d'=>
  rw[hd]at e;simp only at e;split at e
  ·cases e
  ·rename_i hc;cases e;refine⟨rfl,by lia,?_,?_⟩
   ·cases z:(h.pl k).kd.isB with
    |false=>rfl
    |true=>exact absurd (.inr (.inl z)) hc
   ·cases z:(h.pl d).kd.isB with
    |false=>rfl
    |true=>exact absurd (.inr (.inr z)) hc
theorem Rp{k:Nat}(hB:(h.pl k).kd.isB=vI):h.pmp k=vG:=by
 unfold Hs.pmp;cases e:(h.pl k).kd with
 |basin a b c=>rw[e]at hB;cases hB
 |town _ _=>rfl
 |mill _=>rfl
theorem ZI9(g:GoodH h){k:Nat}(e:h.last k=k):h.dir k=vG:=by
 cases hd:h.dir k with
 |none=>rfl
 |some d=>
  have h1:=Jv g hd;have h2:=Lx g hd;have h3:=(I8 g d).1;lia
theorem ZRP(g:GoodH h)(hm:m<h.n)(e:h.last m=m):(h.mem m).idxOf m=(h.mem m).length-1:=by
 have hl:=ZDS g hm e;have hpos:0<(h.mem m).length:=jR (mem_iff.mpr ⟨hm,e⟩);have nd:(h.mem m).Nodup:=(R3 (h:=h) (m:=m)).imp λhab=>zG hab
 rw[j6,zX (by lia)]at hl;have h2:=ZFo nd (i:=(h.mem m).length-1) (by lia);rw[Option.some.inj hl]at h2;exact h2
structure TI (h:Hs) (yt:Int) (lv:Nat->Int) (co:Nat->Nat->Int) (fl:Nat->Int) (k:Nat) (s:Cs):Prop where
 came:∀i,i<h.n->s.came i=fl i+co i 0+Cv k (h.c1 s.page i)
 coming:∀i a,i<h.n->a<5->s.coming i a=Gr co i a+Cv k (h.o1 s.page i a)
 basin:∀i,i<k->i<h.n->(h.pl i).kd.isB=vH->s.page i=h.brow yt lv i (s.came i)
 reach:∀i,i<h.n->(h.pl i).kd.isB=vI->h.last i<k->s.page i=rrow (h.H8 s.came (h.last i)) (h.Ip s.came (h.last i)) ((h.mem (h.last i)).idxOf i)
section
variable{h:Hs}{yt:Int}{lv:Nat->Int}{co:Nat->Nat->Int}{fl:Nat->Int}
theorem ZBJ(e:∀k∈h.mem m,ca k=ca' k):h.H8 ca m=h.H8 ca' m/\h.Ip ca m=h.Ip ca' m:=by
 have e1:=ZMF (h:=h) e;have e2:h.H8 ca m=h.H8 ca' m:=by unfold Hs.H8;rw[e1]
 refine⟨e2,?_⟩;unfold Hs.Ip;rw[e1,e2]
theorem Ro(g:GoodH h){k:Nat}(hk:k∈h.mem m):k<=m:=by have h1:=mem_iff.mp hk;have h2:=(I8 g k).1;lia
theorem ZOg(g:GoodH h){k:Nat}(hk:k<h.n)(t:TI h yt lv co fl k s):TI h yt lv co fl (k+1) (h.step yt lv s k):=by
 by_cases hB:(h.pl k).kd.isB=vH
 ·
  have e:h.step yt lv s k=h.basin yt lv s k:=by unfold Hs.step;rw[if_pos hB]
  rw[e];have hdir:=ZGt hB;have hpg:=(Xe (yt:=yt) (lv:=lv) (s:=s) hB).2;obtain⟨brim,rule,pump,ek⟩:∃a b c,(h.pl k).kd=.basin a b c:=by
   cases e:(h.pl k).kd with
   |basin a b c=>exact⟨a,b,c,rfl⟩
   |town _ _=>rw[e]at hB;cases hB
   |mill _=>rw[e]at hB;cases hB
  have hpk:(h.basin yt lv s k).page k=h.brow yt lv k (s.came k):=by
   unfold Hs.basin Hs.brow;rw[ek];simp only;cases pump with
   |none=>simp only;rw[Jy.2];simp
   |some q=>obtain⟨to,dl,m⟩:=q;simp only;rw[U3.2,Jy.2];simp
  have hout:Eh (h.basin yt lv s k).page k=rv (lv k+s.came k) (held yt rule [])+(lv k+s.came k-rv (lv k+s.came k) (held yt rule [])-pm (lv k+s.came k) (held yt rule [])-min (lv k+s.came k-rv (lv k+s.came k) (held yt rule [])-pm (lv k+s.came k) (held yt rule [])) brim):=by unfold Eh;rw[hpk];unfold Hs.brow;rw[ek];simp[List.getD];lia
  have hpmp:Kh (h.basin yt lv s k).page k=pm (lv k+s.came k) (held yt rule []):=by
   unfold Kh;rw[hpk];unfold Hs.brow;rw[ek]
   rfl
  have hcame:∀i,(h.basin yt lv s k).came i=s.came i+(if h.dn k=vF i/\(h.pl k).dl=0 then Eh (h.basin yt lv s k).page k else 0):=λi=>by
   rw[hout];unfold Hs.basin;rw[ek];simp only;cases hp:pump with
   |none=>simp only[ZAB]
   |some q=>
    obtain⟨to,dl,m⟩:=q;have hd:=g.pump k brim rule to dl m hk (by rw[ek,hp]);simp only[ZDD,ZAB];rw[if_neg (show¬(to=i/\dl=0) by lia)];lia
  have hcom:∀i a,(h.basin yt lv s k).coming i a=s.coming i a+h.o1 (h.basin yt lv s k).page i a k:=λi a=>by
   unfold Hs.o1;rw[hout,hpmp];unfold Hs.basin Hs.pmp;rw[ek];simp only;cases hp:pump with
   |none=>simp[Za]
   |some q=>
    obtain⟨to,dl,m⟩:=q;simp only[ZEj,Za,Option.some.injEq,Prod.mk.injEq];lia
  have hlow:∀i,i<=k->(h.basin yt lv s k).came i=s.came i:=λi hi=>by
   rw[hcame,if_neg]
   ·lia
   ·intro z;have:=g.dn k i hk z.1;lia
  refine⟨λi hi=>?_,λi a hi ha=>?_,λi hik hi hBi=>?_,λi hi hBi hl=>?_⟩
  ·show _=_+(Cv k (h.c1 (h.basin yt lv s k).page i)+h.c1 (h.basin yt lv s k).page i k);rw[hcame,t.came i hi];have e1:Cv k (h.c1 (h.basin yt lv s k).page i)=Cv k (h.c1 s.page i):=Oa λj hj=>by unfold Hs.c1 Eh;rw[hpg j (by lia)]
   rw[e1];unfold Hs.c1;simp only[hdir,true_and];lia
  ·show _=_+(Cv k (h.o1 (h.basin yt lv s k).page i a)+h.o1 (h.basin yt lv s k).page i a k);rw[hcom,t.coming i a hi ha];have e1:Cv k (h.o1 (h.basin yt lv s k).page i a)=Cv k (h.o1 s.page i a):=Oa λj hj=>by unfold Hs.o1 Eh Kh;rw[hpg j (by lia)]
   rw[e1];lia
  ·by_cases e2:i=k
   ·subst e2;rw[hpk,hlow i (zK _)]
   ·rw[hpg i e2,hlow i (by lia)];exact t.basin i (by lia) hi hBi
  ·have hl2:h.last i<k:=by
    rcases j0 (h.last i) k with z|z
    ·exact z
    ·have e2:h.last i=k:=by lia
     rcases Zm g h.n i (by lia)with z2|z2
     ·rw[<-e2,z2,hBi]at hB;cases hB
     ·rw[e2,hB]at z2;cases z2
   have hle:=(I8 g i).1;rw[hpg i (by lia),t.reach i hi hBi hl2];have:=ZBJ (h:=h) (m:=h.last i) (ca:=s.came) (ca':=(h.basin yt lv s k).came) λj hj=>(hlow j (by have:=Ro g hj;lia)).symm
   rw[this.1,this.2]
 ·have hB':(h.pl k).kd.isB=vI:=by
   cases z:(h.pl k).kd.isB with
   |false=>rfl
   |true=>exact absurd z hB
  by_cases hl:h.last k=k
  ·
   have e:h.step yt lv s k=h.reach s k:=by unfold Hs.step;rw[if_neg hB,if_pos hl]
   rw[e];have hdir:=ZI9 g hl;have hmem:k∈h.mem k:=mem_iff.mpr ⟨hk,hl⟩;have hpg:∀j,j∉h.mem k->(h.reach s k).page j=s.page j:=λj hj=>by rw[ZBw,if_neg hj]
   have hpm:∀j,j∈h.mem k->(h.reach s k).page j=rrow (h.Gk s k) (h.Fp s k) ((h.mem k).idxOf j):=λj hj=>by rw[ZBw,if_pos hj]
   have hout:Eh (h.reach s k).page k=h.Fp s k ((h.mem k).length-1):=by unfold Eh;rw[hpm k hmem,ZRP g hk hl];show(0:Int)+_=_;simp[rrow]
   have hcame:∀i,(h.reach s k).came i=s.came i+(if h.dn k=vF i/\(h.pl k).dl=0 then Eh (h.reach s k).page k else 0):=λi=>by rw[hout];unfold Hs.reach;simp only[ZAB]
   have hcom:∀i a,(h.reach s k).coming i a=s.coming i a+(if h.dn k=vF i/\(h.pl k).dl=a+1 then Eh (h.reach s k).page k else 0):=λi a=>by rw[hout];unfold Hs.reach;simp only[Za]
   have hlow:∀i,i<=k->(h.reach s k).came i=s.came i:=λi hi=>by
    rw[hcame,if_neg]
    ·lia
    ·intro z;have:=g.dn k i hk z.1;lia
   have hin:∀j,j∈h.mem k->j<k->∃d,h.dir j=vF d:=λj hj hjk=>by
    cases hd:h.dir j with
    |some d=>exact⟨d,rfl⟩
    |none=>
     have h1:=Ha g hd;have h2:=(mem_iff.mp hj).2;lia
   refine⟨λi hi=>?_,λi a hi ha=>?_,λi hik hi hBi=>?_,λi hi hBi hli=>?_⟩
   ·show _=_+(Cv k (h.c1 (h.reach s k).page i)+h.c1 (h.reach s k).page i k);rw[hcame,t.came i hi];have e1:Cv k (h.c1 (h.reach s k).page i)=Cv k (h.c1 s.page i):=Oa λj hj=>by
     by_cases hm:j∈h.mem k
     ·obtain⟨d,hd⟩:=hin j hm hj;unfold Hs.c1;simp[hd]
     ·unfold Hs.c1 Eh;rw[hpg j hm]
    rw[e1];unfold Hs.c1;simp only[hdir,true_and];lia
   ·show _=_+(Cv k (h.o1 (h.reach s k).page i a)+h.o1 (h.reach s k).page i a k);rw[hcom,t.coming i a hi ha];have e1:Cv k (h.o1 (h.reach s k).page i a)=Cv k (h.o1 s.page i a):=Oa λj hj=>by
     by_cases hm:j∈h.mem k
     ·obtain⟨d,hd⟩:=hin j hm hj;have hs:=ZBP hd;unfold Hs.o1;simp[hs.2.1,Rp hs.2.2.1]
     ·unfold Hs.o1 Eh Kh;rw[hpg j hm]
    rw[e1];unfold Hs.o1;rw[Rp hB'];simp;lia
   ·have hik2:i<k:=by
     rcases j0 i k with z|z
     ·exact z
     ·have e2:i=k:=by lia
      rw[e2,hB']at hBi;cases hBi
    have hm:i∉h.mem k:=λz=>by have h1:=(mem_iff.mp z).2;have h2:=Ha g (ZGt hBi);lia
    rw[hpg i hm,hlow i (by lia)];exact t.basin i hik2 hi hBi
   ·by_cases e2:h.last i=k
    ·have hm:i∈h.mem k:=mem_iff.mpr ⟨hi,e2⟩;rw[hpm i hm,e2];have:=ZBJ (h:=h) (m:=k) (ca:=s.came) (ca':=(h.reach s k).came) λj hj=>(hlow j (Ro g hj)).symm
     rw[<-this.1,<-this.2]
     rfl
    ·have hm:i∉h.mem k:=λz=>e2 (mem_iff.mp z).2
     rw[hpg i hm,t.reach i hi hBi (by lia)];have:=ZBJ (h:=h) (m:=h.last i) (ca:=s.came) (ca':=(h.reach s k).came) λj hj=>(hlow j (by have:=Ro g hj;lia)).symm
     rw[this.1,this.2]
  ·
   have e:h.step yt lv s k=s:=by unfold Hs.step;rw[if_neg hB,if_neg hl]
   rw[e];obtain⟨d,hd⟩:∃d,h.dir k=vF d:=by
    cases hd:h.dir k with
    |some d=>exact⟨d,rfl⟩
    |none=>exact absurd (Ha g hd) hl
   have hs:=ZBP hd;refine⟨λi hi=>?_,λi a hi ha=>?_,λi hik hi hBi=>?_,λi hi hBi hli=>?_⟩
   ·show _=_+(Cv k (h.c1 s.page i)+h.c1 s.page i k);rw[t.came i hi];unfold Hs.c1;simp[hd]
   ·show _=_+(Cv k (h.o1 s.page i a)+h.o1 s.page i a k);rw[t.coming i a hi ha];unfold Hs.o1;simp[hs.2.1,Rp hs.2.2.1]
   ·refine t.basin i ?_ hi hBi;rcases j0 i k with z|z
    ·exact z
    ·have e2:i=k:=by lia
     rw[e2,hB']at hBi;cases hBi
   ·refine t.reach i hi hBi ?_;rcases j0 (h.last i) k with z|z
    ·exact z
    ·have e2:h.last i=k:=by lia
     have:=Xz g h.n i (by lia);rw[e2]at this;exact absurd this hl
theorem ZI5(g:GoodH h):∀(m k:Nat)(s:Cs),k+m=h.n->TI h yt lv co fl k s->TI h yt lv co fl h.n (h.goF yt lv m k s)
 |0,k,s,e,t=>by
  have e1:k=h.n:=by lia
  rw[e1]at t;exact t
 |m+1,k,s,e,t=>ZI5 g m (k+1) _ (by lia) (ZOg g (by lia) t)
theorem ZIj(g:GoodH h):TI h (at_%h.yr) lv co fl h.n (h.cs lv co at_ fl):=by
 refine ZI5 g h.n 0 _ (by lia) ⟨λi hi=>?_,λi a hi ha=>?_,(λi hi=>absurd hi (by lia)),(λi _ _ hi=>absurd hi (by lia))⟩
 ·show fl i+co i 0=fl i+co i 0+0;lia
 ·show Gr co i a=Gr co i a+0;lia
end
section
variable{h:Hs}{yt:Int}{lv:Nat->Int}{co:Nat->Nat->Int}{fl:Nat->Int}
theorem Mr(hi:i<ms.length):(h.rows ms ca)[i]?=vF (h.row ms ca ms[i]):=by
 unfold Hs.rows;rw[zx,zX hi]
 rfl
theorem ZLk{q:Row->Int}{k:Nat}(hk:k∈ms):col q (h.rows ms ca) (ms.idxOf k)=q (h.row ms ca k):=by have hl:=qG hk;unfold col;rw[Mr hl,jM hl]
end
theorem ZJu{t:Int}:∀{r:List Ssn}{x:List Stp},held t r x=x∨∃s∈r,held t r x=s.2
 |[],x=>.inl rfl
 | s::r,x=>by
  show held t r (if s.1<=t then s.2 else x)=x∨_;rcases ZJu (t:=t) (r:=r) (x:=if s.1<=t then s.2 else x)with z|⟨s',hs,z⟩
  ·by_cases hc:s.1<=t
   ·rw[if_pos hc]at z;exact .inr ⟨s,by simp,by show held t r (if s.1<=t then s.2 else x)=_;rw[if_pos hc];exact z⟩
   ·rw[if_neg hc]at z;exact .inl (by rw[if_neg hc];exact z)
  ·exact .inr ⟨s',zZ _ hs,z⟩
section
variable{h:Hs}{yt:Int}{lv:Nat->Int}{co:Nat->Nat->Int}{fl:Nat->Int}
end
theorem ZBQ:∀{n:Nat}{F F':Nat->Int},(∀i,i<n->F i<=F' i)->Cv n F<=Cv n F'
 |0,_,_,_=>zL _
 |n+1,F,F',h=>by
  have h1:=ZBQ (n:=n) (F:=F) (F':=F') λi hi=>h i (by lia)
  have h2:=h n (by lia);show Cv n F+F n<=Cv n F'+F' n;lia
theorem ZIc(h:w<=w'){s:Stp}:cub w s<=cub w' s:=by unfold cub;lia
theorem ZIM(h:w<=w'):∀{st:List Stp},rv w st<=rv w' st
 |[]=>zL _
 |s::st=>by
  have h1:=ZIM h (st:=st);have h2:=ZIc h (s:=s);show(if s.r then cub w s else 0)+rv w st<=(if s.r then cub w' s else 0)+rv w' st
  split <;> lia
theorem ZHP(h:w<=w'):∀{st:List Stp},pm w st<=pm w' st
 |[]=>zL _
 |s::st=>by
  have h1:=ZHP h (st:=st);have h2:=ZIc h (s:=s);show(if s.r then 0 else cub w s)+pm w st<=(if s.r then 0 else cub w' s)+pm w' st
  split <;> lia
theorem ZG3(h:w<=w'):∀{st:List Stp}{t:Int},Good t st->rv w' st+pm w' st-(rv w st+pm w st)<=max w' t-max w t
 |[],t,_=>by show(0:Int)+0-(0+0)<=_;lia
 | s::st,t,hg=>by
  obtain⟨h1,h2,h3⟩:=hg;have ih:=ZG3 h h3;have e:∀w,rv w (s::st)+pm w (s::st)=cub w s+(rv w st+pm w st):=λw=>by
   show(if s.r then cub w s else 0)+rv w st+((if s.r then 0 else cub w s)+pm w st)=_
   split <;> lia
  rw[e,e];unfold cub;lia
theorem ZGb{w:Int}:∀{st:List Stp}{t:Int},Good t st->rv w st+pm w st<=max 0 (w-t)
 |[],t,_=>by show(0:Int)+0<=_;lia
 | s::st,t,hg=>by
  obtain⟨h1,h2,h3⟩:=hg;have ih:=ZGb (w:=w) h3;have e:rv w (s::st)+pm w (s::st)=cub w s+(rv w st+pm w st):=by
   show(if s.r then cub w s else 0)+rv w st+((if s.r then 0 else cub w s)+pm w st)=_
   split <;> lia
  rw[e];unfold cub;lia
section
variable{h:Hs}{yt:Int}{lv lv':Nat->Int}{co co':Nat->Nat->Int}{fl fl':Nat->Int}
theorem ZFF(g:GoodH h){k:Nat}(hk:k<h.n){b:Int}{r:List Ssn}(e:(h.pl k).kd=.basin b r q):Good 0 (held yt r []):=by
 rcases ZJu (t:=yt) (r:=r) (x:=[])with z|⟨s,hs,z⟩
 ·rw[z];trivial
 ·rw[z];exact(g.brim k b r q hk e).2 s hs
end
structure PageOk (h:Hs) (pg:Nat->List Int):Prop where
 row:∀k,k<h.n->∃a b c d e f,pg k=[a,b,c,d,e,f]/\0<=a/\0<=b/\0<=c/\0<=d/\0<=e/\0<=f
 brim:∀k b r q,k<h.n->(h.pl k).kd=.basin b r q->(pg k).getD 5 0<=b/\(0<(pg k).getD 2 0->(pg k).getD 5 0=b)
 town:∀k a b,k<h.n->(h.pl k).kd=.town a b->(pg k).getD 1 0<=a
 idleB:∀k,k<h.n->(h.pl k).kd.isB=vH->(pg k).getD 1 0=0
 ZMn:∀k,k<h.n->(h.pl k).kd.isB=vI->(pg k).getD 2 0=0/\(pg k).getD 4 0=0/\(pg k).getD 5 0=0
structure StOk (h:Hs) (lv:Nat->Int) (co:Nat->Nat->Int):Prop where
 lv0:∀k,k<h.n->0<=lv k
 lvR:∀k,k<h.n->(h.pl k).kd.isB=vI->lv k=0
 co0:∀k a,k<h.n->a<5->0<=co k a
section
variable{h:Hs}{yt:Int}{lv:Nat->Int}{co:Nat->Nat->Int}{fl:Nat->Int}
theorem ZLX(g:GoodH h)(t:TI h yt lv co fl h.n s)(nn:s.NN h.n)(h0:∀k,k<h.n->0<=lv k):PageOk h s.page:=by
 refine⟨λk hk=>?_,λk b r q hk e=>?_,λk a b hk e=>?_,λk hk hB=>?_,λk hk hB=>?_⟩
 ·cases hB:(h.pl k).kd.isB with
  | true=>
   rw[t.basin k hk hk hB];unfold Hs.brow;cases e:(h.pl k).kd with
   |basin b r q=>
    have a0:=h0 k hk;have a1:=nn.1 k hk;have a2:=Zt (w:=lv k+s.came k) (st:=held yt r []);have a3:=ZAM (w:=lv k+s.came k) (st:=held yt r []);have a4:=ZGb (w:=lv k+s.came k) (ZFF (yt:=yt) g hk e);have a5:=(g.brim k b r q hk e).1;exact⟨_,_,_,_,_,_,rfl,a1,zL _,by lia,a2,a3,by lia⟩
   |town _ _=>rw[e]at hB;cases hB
   |mill _=>rw[e]at hB;cases hB
  |false=>
   have hl:=(I8 g k).2 hk;rw[t.reach k hk hB hl];have hR:=Mv g (m:=h.last k) nn.1;have hm:k∈h.mem (h.last k):=mem_iff.mpr ⟨hk,rfl⟩;have hsi:=Qs hR;have t0:0<=h.H8 s.came (h.last k) ((h.mem (h.last k)).idxOf k):=hsi.t0 _;have l0:0<=h.Ip s.came (h.last k) ((h.mem (h.last k)).idxOf k):=by have:=hsi.p0 ((h.mem (h.last k)).idxOf k) (by rw[Hh];exact qG hm);rw[hsi.pg]at this;exact this
   exact⟨_,_,_,_,_,_,rfl,by lia,t0,zL _,l0,zL _,zL _⟩
 ·have hB:(h.pl k).kd.isB=vH:=by rw[e];rfl
  rw[t.basin k hk hk hB];unfold Hs.brow;rw[e];simp only[List.getD_cons_succ,List.getD_cons_zero];lia
 ·have hB:(h.pl k).kd.isB=vI:=by rw[e];rfl
  have hl:=(I8 g k).2 hk;rw[t.reach k hk hB hl];have hR:=Mv g (m:=h.last k) nn.1;have hm:k∈h.mem (h.last k):=mem_iff.mpr ⟨hk,rfl⟩;have hn:=(Qs hR).tn ((h.mem (h.last k)).idxOf k);rw[ZLk hm]at hn;have e2:(h.row (h.mem (h.last k)) s.came k).need=a:=by show h.need k=a;unfold Hs.need;rw[e]
  rw[e2]at hn;exact hn
 ·rw[t.basin k hk hk hB];unfold Hs.brow
  cases e:(h.pl k).kd<;>rfl
 ·have hl:=(I8 g k).2 hk;rw[t.reach k hk hB hl];exact⟨rfl,rfl,rfl⟩
theorem ZD2(g:GoodH h)(t:TI h yt lv co fl h.n s)(nn:s.NN h.n)(h0:∀k,k<h.n->0<=lv k):StOk h (lies s.page) s.coming:=by have po:=ZLX g t nn h0;refine⟨λk hk=>?_,λk hk hB=>(po.ZMn k hk hB).2.2,nn.2⟩;obtain⟨a,b,c,d,e,f,e1,h1⟩:=po.row k hk;unfold lies;rw[e1];exact h1.2.2.2.2.2
end
section
variable{h:Hs}{yt:Int}{lv lv':Nat->Int}{co co':Nat->Nat->Int}{fl fl':Nat->Int}
theorem ZEI(g:GoodH h){k:Nat}(hk:k<h.n)(hB:(h.pl k).kd.isB=vH){c':Int}(h0:0<=lv k+c)(hl:lv k+c<=lv' k+c'):
  (h.brow yt lv k c).getD 2 0<=(h.brow yt lv' k c').getD 2 0/\(h.brow yt lv k c).getD 3 0<=(h.brow yt lv' k c').getD 3 0/\(h.brow yt lv k c).getD 4 0<=(h.brow yt lv' k c').getD 4 0/\(h.brow yt lv k c).getD 5 0<=(h.brow yt lv' k c').getD 5 0:=by
 unfold Hs.brow;cases e:(h.pl k).kd with
 |basin b r q=>
  have h1:=ZIM hl (st:=held yt r []);have h2:=ZHP hl (st:=held yt r []);have h3:=ZG3 hl (ZFF (yt:=yt) g hk e);simp only[List.getD_cons_succ,List.getD_cons_zero];lia
 |town _ _=>rw[e]at hB;cases hB
 |mill _=>rw[e]at hB;cases hB
theorem ZFu:SameR (h.rows ms ca) (h.rows ms ca')/\∀k,col Row.need (h.rows ms ca') k=col Row.need (h.rows ms ca) k:=by
 have e:∀i,(h.rows ms ca')[i]?=(h.rows ms ca)[i]?.map λ(r:Row)=>{r with water:=ca' (ms.getD i 0)}:=λi=>by
  by_cases hi:i<ms.length
  ·have e4:ms.getD i 0=ms[i]:=by simp[zD,zX hi]
   rw[Mr hi,Mr hi,e4]
   rfl
  ·rw[z0 (by rw[Hh];lia),z0 (by rw[Hh];lia)]
   rfl
 refine⟨⟨by rw[Hh,Hh],λk=>?_,λk=>?_⟩,λk=>?_⟩
 ·unfold Bj;rw[e]
  cases(h.rows ms ca)[k]?<;>rfl
 ·unfold col;rw[e]
  cases(h.rows ms ca)[k]?<;>rfl
 ·unfold col;rw[e]
  cases(h.rows ms ca)[k]?<;>rfl
theorem ZFn(g:GoodH h)(hc:∀k,k<h.n->0<=ca k)(hc':∀k,k<h.n->0<=ca' k)(hle:∀k∈h.mem m,ca k<=ca' k):
  (∀i,h.H8 ca m i<=h.H8 ca' m i)/\(m<h.n->h.last m=m->h.Ip ca m ((h.mem m).idxOf m)<=h.Ip ca' m ((h.mem m).idxOf m)):=by
 have hR:=Mv g (m:=m) hc;have hR':=Mv g (m:=m) hc';have hS:=ZFu (h:=h) (ms:=h.mem m) (ca:=ca) (ca':=ca');have hS0:=ZFu (h:=h) (ms:=h.mem m) (ca:=ca) (ca':=ca);have hout:∀(ca:Nat->Int)i,¬i<(h.mem m).length->col Row.water (h.rows (h.mem m) ca) i=0:=λca i hi=>by unfold col;rw[z0 (by rw[Hh];lia)]
 have hw:=ZUs hR (W:=col Row.water (h.rows (h.mem m) ca)) (W':=col Row.water (h.rows (h.mem m) ca')) hR.water (λi=>by
  by_cases hi:i<(h.mem m).length
  ·unfold col;rw[Mr hi,Mr hi];exact hle _ (q9 hi)
  ·rw[hout ca i hi,hout ca' i hi];exact zL _) (λi hi=>by
  rw[Hh]at hi;rw[hout ca i hi,hout ca' i hi])
 have t1:h.H8 ca m=_:=ZIf hS0.1 hS0.2;have t2:h.H8 ca' m=_:=ZIf hS.1 hS.2;have l1:h.Ip ca m=_:=ZDs hR hS0.1 hS0.2;have l2:h.Ip ca' m=_:=ZDs hR' hS.1 hS.2;refine⟨λi=>?_,λhm hl=>?_⟩
 ·rw[t1,t2];exact hw.1 i
 ·rw[l1,l2];refine hw.2 _ ?_;have hmm:m∈h.mem m:=mem_iff.mpr ⟨hm,hl⟩;have hi:=qG hmm;unfold Bj;rw[Mr hi,jM hi];show(h.dir m).map _=vG;rw[ZI9 g hl]
  rfl
theorem ZJw(g:GoodH h)(t:TI h yt lv co fl h.n s)(t':TI h yt lv' co' fl' h.n s')(nn:s.NN h.n)(nn':s'.NN h.n)(h0:∀k,k<h.n->0<=lv k)(hlv:∀k,k<h.n->lv k<=lv' k)(hco:∀k,k<h.n->co k 0<=co' k 0)(hfl:∀k,k<h.n->fl k<=fl' k):
  ∀(m k:Nat),k<m->k<h.n->s.came k<=s'.came k/\(h.dir k=vG->Eh s.page k<=Eh s'.page k)
 |0,k,hm,_=>absurd hm (by lia)
 | m+1,k,hm,hk=>by
  have ih:=ZJw g t t' nn nn' h0 hlv hco hfl m;have hc:s.came k<=s'.came k:=by
   rw[t.came k hk,t'.came k hk];have h1:=hco k hk;have h2:=hfl k hk;have h3:Cv h.n (h.c1 s.page k)<=Cv h.n (h.c1 s'.page k):=ZBQ λj hj=>by
    unfold Hs.c1;by_cases hcd:h.dir j=vG/\h.dn j=vF k/\(h.pl j).dl=0
    ·have hlt:=g.dn j k hj hcd.2.1;rw[if_pos hcd,if_pos hcd];exact(ih j (by lia) hj).2 hcd.1
    ·rw[if_neg hcd,if_neg hcd];exact zL _
   lia
  refine⟨hc,λhd=>?_⟩;unfold Eh;cases hB:(h.pl k).kd.isB with
  |true=>
   rw[t.basin k hk hk hB,t'.basin k hk hk hB];have:=hlv k hk;have:=h0 k hk;have:=nn.1 k hk;have:=ZEI (yt:=yt) (lv:=lv) (lv':=lv') g hk hB (c:=s.came k) (c':=s'.came k) (by lia) (by lia);lia
  | false=>
   have hl:=Ha g hd;rw[t.reach k hk hB (by lia),t'.reach k hk hB (by lia),hl];have hm2:=(ZFn g (m:=k) nn.1 nn'.1 λj hj=>by
    have h1:=Ro g hj;by_cases e:j=k
    ·subst e;exact hc
    ·exact(ih j (by lia) (mem_iff.mp hj).1).1).2 hk hl
   show(0:Int)+_<=0+_;simp only[rrow,List.getD_cons_succ,List.getD_cons_zero];lia
structure MoreP (h:Hs) (pg pg':Nat->List Int):Prop where
 took:∀k,k<h.n->(pg k).getD 1 0<=(pg' k).getD 1 0
 basin:∀k,k<h.n->(h.pl k).kd.isB=vH->(pg k).getD 2 0<=(pg' k).getD 2 0/\(pg k).getD 3 0<=(pg' k).getD 3 0/\(pg k).getD 4 0<=(pg' k).getD 4 0
 lies:∀k,k<h.n->lies pg k<=lies pg' k
 out:∀k,k<h.n->h.dir k=vG->Eh pg k<=Eh pg' k
theorem ZTl(g:GoodH h)(t:TI h yt lv co fl h.n s)(t':TI h yt lv' co' fl' h.n s')(nn:s.NN h.n)(nn':s'.NN h.n)(h0:∀k,k<h.n->0<=lv k)(hlv:∀k,k<h.n->lv k<=lv' k)(hco:∀k a,k<h.n->a<5->co k a<=co' k a)(hfl:∀k,k<h.n->fl k<=fl' k):
  MoreP h s.page s'.page/\∀k a,k<h.n->a<5->s.coming k a<=s'.coming k a:=by
 have cm:=λk hk=>ZJw g t t' nn nn' h0 hlv (λk hk=>hco k 0 hk (by lia)) hfl h.n k hk hk
 have hbm:∀k,k<h.n->(h.pl k).kd.isB=vH->_:=λk hk hB=>by have h1:=hlv k hk;have h2:=h0 k hk;have h3:=nn.1 k hk;have h4:=(cm k hk).1;exact ZEI (yt:=yt) (lv:=lv) (lv':=lv') g hk hB (c:=s.came k) (c':=s'.came k) (by lia) (by lia)
 have mp:MoreP h s.page s'.page:=by
  refine⟨λk hk=>?_,λk hk hB=>?_,λk hk=>?_,λk hk hd=>(cm k hk).2 hd⟩
  ·cases hB:(h.pl k).kd.isB with
   |true=>
    rw[t.basin k hk hk hB,t'.basin k hk hk hB];unfold Hs.brow
    cases e:(h.pl k).kd<;>exact zL _
   |false=>
    have hl:=(I8 g k).2 hk;rw[t.reach k hk hB hl,t'.reach k hk hB hl];exact(ZFn g (m:=h.last k) nn.1 nn'.1 λj hj=>(cm j (mem_iff.mp hj).1).1).1 _
  ·rw[t.basin k hk hk hB,t'.basin k hk hk hB];have:=hbm k hk hB;exact⟨this.1,this.2.1,this.2.2.1⟩
  ·unfold _W.lies;cases hB:(h.pl k).kd.isB with
   |true=>
    rw[t.basin k hk hk hB,t'.basin k hk hk hB];exact(hbm k hk hB).2.2.2
   |false=>
    have hl:=(I8 g k).2 hk;rw[t.reach k hk hB hl,t'.reach k hk hB hl];exact zL _
 refine⟨mp,λk a hk ha=>?_⟩;rw[t.coming k a hk ha,t'.coming k a hk ha];have h1:Gr co k a<=Gr co' k a:=by
  unfold Gr;split
  ·exact hco k (a+1) hk (by lia)
  ·exact zL _
 have h2:Cv h.n (h.o1 s.page k a)<=Cv h.n (h.o1 s'.page k a):=ZBQ λj hj=>by
  unfold Hs.o1;have a1:(if h.dn j=vF k/\(h.pl j).dl=a+1 then Eh s.page j else 0)<=(if h.dn j=vF k/\(h.pl j).dl=a+1 then Eh s'.page j else 0):=by
   by_cases hc:h.dn j=vF k/\(h.pl j).dl=a+1
   ·rw[if_pos hc,if_pos hc];refine mp.out j hj ?_;cases hd:h.dir j with
    |none=>rfl
    |some d=>have:=(ZBP hd).2.1;lia
   ·rw[if_neg hc,if_neg hc];exact zL _
  have a2:(if h.pmp j=vF (k,a+1)then Kh s.page j else 0)<=(if h.pmp j=vF (k,a+1)then Kh s'.page j else 0):=by
   by_cases hc:h.pmp j=vF (k,a+1)
   ·rw[if_pos hc,if_pos hc];have hB:(h.pl j).kd.isB=vH:=by
     cases z:(h.pl j).kd.isB with
     |true=>rfl
     |false=>rw[Rp z]at hc;cases hc
    exact(mp.basin j hj hB).2.2
   ·rw[if_neg hc,if_neg hc];exact zL _
  lia
 lia
end
section
variable{h:Hs}
end
section
variable{h:Hs}
def MoreL(h:Hs):List (Nat->List Int)->List (Nat->List Int)->Prop
 |[],[]=>True
 |p::r,p'::r'=>MoreP h p p'/\MoreL h r r'
 |_,_=>False
def LeF(n:Nat):List (Nat->Int)->List (Nat->Int)->Prop
 |[],[]=>True
 |p::r,p'::r'=>(∀k,k<n->p k<=p' k)/\LeF n r r'
 |_,_=>False
theorem ZCs(g:GoodH h):∀(fls fls':List (Nat->Int))(s s':St2)(a:Int),StOk h s.1 s.2->StOk h s'.1 s'.2->(∀fl∈fls,∀k,k<h.n->0<=fl k)->(∀fl∈fls',∀k,k<h.n->0<=fl k)->(∀k,k<h.n->s.1 k<=s'.1 k)->(∀k a,k<h.n->a<5->s.2 k a<=s'.2 k a)->LeF h.n fls fls'->
  MoreL h (h.Bt fls s a) (h.Bt fls' s' a)/\∀k j,k<h.n->j<5->(h.Em fls s a).2 k j<=(h.Em fls' s' a).2 k j
 |[],[],s,s',a,_,_,_,_,_,hco,_=>⟨trivial,hco⟩
 |fl::r,fl'::r',s,s',a,hs,hs',hf,hf',hlv,hco,hl=>by
  have t:=ZIj (lv:=s.1) (co:=s.2) (fl:=fl) g (at_:=a);have nn:=Xm g (lv:=s.1) (fl:=fl) (co:=s.2) (a:=a) hs.co0 (hf fl (by simp));have t':=ZIj (lv:=s'.1) (co:=s'.2) (fl:=fl') g (at_:=a);have nn':=Xm g (lv:=s'.1) (fl:=fl') (co:=s'.2) (a:=a) hs'.co0 (hf' fl' (by simp));have m:=ZTl g t t' nn nn' hs.lv0 hlv hco hl.1;have ih:=ZCs g r r' (h.nxt s a fl) (h.nxt s' a fl') (a+1) (ZD2 g t nn hs.lv0) (ZD2 g t' nn' hs'.lv0) (λf' hf'=>hf f' (zZ _ hf')) (λf' hf''=>hf' f' (zZ _ hf'')) m.1.lies m.2 hl.2
  exact⟨⟨m.1,ih.1⟩,ih.2⟩
 |[],_::_,_,_,_,_,_,_,_,_,_,hl=>absurd hl (by intro z;exact z)
 |_::_,[],_,_,_,_,_,_,_,_,_,hl=>absurd hl (by intro z;exact z)
end
theorem ZTX{n k:Nat}(hk:k<n){b d e f:Int}(e1:pg k=[a,b,c,d,e,f]):atI (Cj n pg) (k:Int)=zT [.int a,.int b,.int c,.int d,.int e,.int f]:=Dg rfl (by unfold Cj;rw[zx,zU hk];simp[Jc,e1])
def mcell(h:Hs)(f:Nat->Int)(k:Nat):Int:=f (6+24*h.n+k)
def lvM(h:Hs)(f:Nat->Int)(u:Int)(lv:Nat->Int)(k:Nat):Int:=match(h.pl k).kd with
 |.basin b _ _=>lv k+amt (mcell h f k/2) u%(b-lv k+1)*(mcell h f k%2)
 |_=>lv k
def coM(h:Hs)(f:Nat->Int)(u:Int)(co:Nat->Nat->Int)(k j:Nat):Int:=co k j+u*(mcell h f k/2%2)
def flM(h:Hs)(f:Nat->Int)(u:Int)(fl:Nat->Nat->Int)(i k:Nat):Int:=fl i k+amt (f (6+24*h.n+h.n+i*h.n+k)/2) u*(f (6+24*h.n+h.n+i*h.n+k)%2)
theorem Zr(hx:0<=x):0<=x*(c%2):=jE hx (by lia)
theorem Z6{k:Nat}:tab k F++[.int (F k)]=tab (k+1) F:=by simp[tab,j3]
theorem ZDM{k:Nat}:Am k co++[.tup (tab 5 (co k))]=Am (k+1) co:=by simp[Am,j3]
theorem Zj{n k:Nat}(hk:k<n):atI (Am n co) (k:Int)=zT (tab 5 (co k)):=Dg rfl (by simp[Am,hk])
theorem ZEm{B:DO}(h:∀m,bels m ds=vH):freeze (G++[A,B]) (.ok (.ref (G.length+2)) (G++[A,B,.lst ds]))=.ok (.fl ds) (G++[A,B]):=by have:=Dk (G:=G++[A,B]) (ds:=ds) (L:=[]) (h _);simpa using this
theorem ZAm{B C:DO}(h:∀m,bels m ds=vH):freeze (G++[A,B,C]) (.ok (.ref (G.length+3)) (G++[A,B,C,.lst ds]))=.ok (.fl ds) (G++[A,B,C]):=by have:=Dk (G:=G++[A,B,C]) (ds:=ds) (L:=[]) (h _);simpa using this
section
variable{ns:List Int}{f:Nat->Int}{u:Int}{h:Hs}
theorem ZLs(hf:Cf ns f)(hu:0<u)(g:GoodH h)(hb:∀k b r q,k<h.n->(h.pl k).kd=.basin b r q->lv k<=b){k:Nat}(hk:k<h.n){s3 x10 x11 x12 s14 s15 s16 s17:Option D}(G:DH):∃y12,
  Ow [zN ns,vF h.enc,vF (stD h.n lv co),s3,zI u,zI h.n,zI ((6+24*h.n:Nat):Int),zR G.length,zR (G.length+1),zI k,x10,x11,x12,s14,s15,s16,s17] (G++[.lst (tab k (lvM h f u lv)),.lst (Am k (coM h f u co))])=
   .nx [zN ns,vF h.enc,vF (stD h.n lv co),s3,zI u,zI h.n,zI ((6+24*h.n:Nat):Int),zR G.length,zR (G.length+1),zI k,zI (mcell h f k),zI (lvM h f u lv k),y12,s14,s15,s16,s17] (G++[.lst (tab (k+1) (lvM h f u lv)),.lst (Am (k+1) (coM h f u co))]):=by
 have hn:=g.len;have hc:∀G,Bc [nD ns,.int (((6+24*h.n:Nat):Int)+(k:Int))] G=.ok (.int (mcell h f k)) G:=λG=>by have:=hf (6+24*h.n+k) (by lia) G;rwa[show((6+24*h.n+k:Nat):Int)=((6+24*h.n:Nat):Int)+k by lia]at this
 generalize((6+24*h.n:Nat):Int)=B at hc;have ap:atI h.Ci (k:Int)=vF (h.encP (h.pl k)):=Hs.Eb hk;have al:atI (tab h.n lv) (k:Int)=zI (lv k):=Dy hk;have ar:atI (Am h.n co) (k:Int)=zT (tab 5 (co k)):=Zj hk;have mu:∀G,Aj (.int u) (.int (mcell h f k/2%2)) G=.ok (.int (u*(mcell h f k/2%2))) G:=λG=>Gz (by lia) (by lia)
 have cp:∀G,Ck (gV 0) Bd Zv [vG,zI u,zI (mcell h f k)] (tab 5 (co k)) G=.ok (tab 5 (coM h f u co k)) G:=λG=>Jo (E:=λj=>D.int (co k j)) (F:=λj=>.int (coM h f u co k j)) λj _=>by unfold Zv;simp[mu,coM]
 have fz:∀ds ds':List D,freeze (G++[.lst ds,.lst ds']) (.ok (.ref (G.length+2)) (G++[.lst ds,.lst ds',.lst (tab 5 (coM h f u co k))]))=.ok (.fl (tab 5 (coM h f u co k))) (G++[.lst ds,.lst ds']):=λds ds'=>ZEm λ_=>Hc
 have hl1:k<1000000:=by lia
 have cs:∀a b c d e f' g h i j k' l m n o p q:Option D,Ay 1 [4,10] [a,b,c,d,e,f',g,h,i,j,k',l,m,n,o,p,q]=[vG,e,k']:=λ_ _ _ _ _ _ _ _ _ _ _ _ _ _ _ _ _=>rfl
 have g0:∀a b:DO,(G++[a,b])[G.length]?=vF a:=λa b=>by simp
 have g1:∀a b:DO,(G++[a,b])[G.length+1]?=vF b:=λa b=>by simp
 have s0:∀a b c:DO,(G++[a,b]).set G.length c=G++[c,b]:=λa b c=>by simp
 have s1:∀a b c:DO,(G++[a,b]).set (G.length+1) c=G++[a,c]:=λa b c=>by simp
 have t1:=Z6 (k:=k) (F:=lvM h f u lv);have t2:=ZDM (k:=k) (co:=coM h f u co);have et:∀ds:List D,Dj [.fl ds]=λG=>.ok (.tup ds) G:=λds=>rfl
 have hT5:(tab 5 (coM h f u co k)).length<=1000000:=by simp
 generalize tab 5 (coM h f u co k)=T5 at cp fz t2 hT5;generalize tab (k+1) (lvM h f u lv)=TL at t1;generalize Am (k+1) (coM h f u co)=RL at t2;have fin:∀y12:Option D,Qp [zN ns,vF h.enc,vF (stD h.n lv co),s3,zI u,zI h.n,zI B,zR G.length,zR (G.length+1),zI k,zI (mcell h f k),zI (lvM h f u lv k),y12,s14,s15,s16,s17] (G++[.lst (tab k (lvM h f u lv)),.lst (Am k (coM h f u co))])=.nx [zN ns,vF h.enc,vF (stD h.n lv co),s3,zI u,zI h.n,zI B,zR G.length,zR (G.length+1),zI k,zI (mcell h f k),zI (lvM h f u lv k),y12,s14,s15,s16,s17] (G++[.lst TL,.lst RL]):=λy12=>by
  unfold Qp ZHR stD;simp[hT5,g0,g1,s0,s1,hl1,t1,ar,cs,cp,fz,et,t2]
 have mid:∃y12:Option D,∀Γ,Qa [zN ns,vF h.enc,vF (stD h.n lv co),s3,zI u,zI h.n,zI B,zR G.length,zR (G.length+1),zI k,zI (mcell h f k),zI (lv k),x12,s14,s15,s16,s17] Γ=Qp [zN ns,vF h.enc,vF (stD h.n lv co),s3,zI u,zI h.n,zI B,zR G.length,zR (G.length+1),zI k,zI (mcell h f k),zI (lvM h f u lv k),y12,s14,s15,s16,s17] Γ:=by
  clear fin fz g0 g1 s0 s1 t1 t2 cp;generalize vF (stD h.n lv co)=S2;cases ek:(h.pl k).kd with
  |basin b r q=>
   have hbl:=hb k b r q hk ek;have hv:lvM h f u lv k=lv k+amt (mcell h f k/2) u%(b-lv k+1)*(mcell h f k%2):=by unfold lvM;rw[ek]
   have e4:∀G,Ad (h.encP (h.pl k)) (.int 4) G=.ok (.int b) G:=λG=>by unfold Hs.encP;rw[ek];simp
   have r0:0<b-lv k+1:=by lia
   have m2:∀x G,Aj (.int x) (.int (mcell h f k%2)) G=.ok (.int (x*(mcell h f k%2))) G:=λx G=>Gz (by lia) (by lia)
   have om:∀x G,Az (.int x) (.int (b-lv k+1)) G=.ok (.int (x%(b-lv k+1))) G:=λx G=>by simp[r0]
   refine⟨zI (b-lv k+1),λΓ=>?_⟩;rw[hv];unfold Qa;simp[Cp,ap,Gu,ek,Kd.isB,e4,Jt hu,om,m2]
  |town a b=>
   have hv:lvM h f u lv k=lv k:=by unfold lvM;rw[ek]
   refine⟨x12,λΓ=>?_⟩;rw[hv];unfold Qa;simp[Cp,ap,Gu,ek,Kd.isB]
  |mill a=>
   have hv:lvM h f u lv k=lv k:=by unfold lvM;rw[ek]
   refine⟨x12,λΓ=>?_⟩;rw[hv];unfold Qa;simp[Cp,ap,Gu,ek,Kd.isB]
 obtain⟨y12,hm⟩:=mid;refine⟨y12,?_⟩;have fm:=(hm _).trans (fin y12);clear fin hm;have st:stD h.n lv co=.tup [.tup (tab h.n lv),.tup (Am h.n co)]:=rfl;rw[st]at fm⊢;generalize(G++[.lst (tab k (lvM h f u lv)),.lst (Am k (coM h f u co))])=Γ at fm⊢;unfold Ow ZIx;simp[hc,al,fm]
theorem ZHX(hf:Cf ns f)(hu:0<u)(g:GoodH h){co:Nat->Nat->Int}(hb:∀k b r q,k<h.n->(h.pl k).kd=.basin b r q->lv k<=b){s3 s14 s15 s16 s17:Option D}(G:DH):∀(m k:Nat)(x9 x10 x11 x12:Option D),k+m=h.n->∃y9 y10 y11 y12,
  Aq (gV 9) Ow (Bh k m) [zN ns,vF h.enc,vF (stD h.n lv co),s3,zI u,zI h.n,zI ((6+24*h.n:Nat):Int),zR G.length,zR (G.length+1),x9,x10,x11,x12,s14,s15,s16,s17] (G++[.lst (tab k (lvM h f u lv)),.lst (Am k (coM h f u co))])=
   .nx [zN ns,vF h.enc,vF (stD h.n lv co),s3,zI u,zI h.n,zI ((6+24*h.n:Nat):Int),zR G.length,zR (G.length+1),y9,y10,y11,y12,s14,s15,s16,s17] (G++[.lst (tab h.n (lvM h f u lv)),.lst (Am h.n (coM h f u co))])
 |0,k,x9,x10,x11,x12,e=>by
  have e1:k=h.n:=by lia
  subst e1;exact⟨x9,x10,x11,x12,by rw[H9,Cm]⟩
 |m+1,k,x9,x10,x11,x12,e=>by
  obtain⟨z12,hb1⟩:=ZLs hf hu g hb (k:=k) (by lia) (s3:=s3) (x10:=x10) (x11:=x11) (x12:=x12) (s14:=s14) (s15:=s15) (s16:=s16) (s17:=s17) (co:=co) G;obtain⟨y9,y10,y11,y12,ih⟩:=ZHX hf hu g hb (s3:=s3) (s14:=s14) (s15:=s15) (s16:=s16) (s17:=s17) (co:=co) G m (k+1) (zI k) (zI (mcell h f k)) (zI (lvM h f u lv k)) z12 (by lia);refine⟨y9,y10,y11,y12,?_⟩;rw[Ge,Bu];simp only[Cg,R.Cd,qx,hb1,Cq]
  have e1:((k:Int)+1)=((k+1:Nat):Int):=by lia
  rw[e1,ih]
theorem ZQ3(hf:Cf ns f)(hu:0<u)(g:GoodH h)(hi:i<t)(ht:t<=6){s7 s8 s9 s10 s11 s12 s14 x16 x17:Option D}{B:DO}{acc:List D}(ha:acc.length<=100)(G:DH):∃y16 y17,
  Oo [zN ns,vF h.enc,s2,zF (Af h.n ((zQ t).map fl)),zI u,zI h.n,zI ((6+24*h.n:Nat):Int),s7,s8,s9,s10,s11,s12,zR (G.length+2),zI i,x16,x17] (G++[A,B,.lst acc])=
   .nx [zN ns,vF h.enc,s2,zF (Af h.n ((zQ t).map fl)),zI u,zI h.n,zI ((6+24*h.n:Nat):Int),s7,s8,s9,s10,s11,s12,zR (G.length+2),zI i,y16,y17] (G++[A,B,.lst (acc++[.tup (tab h.n (flM h f u fl i))])]):=by
 have hn:=g.len;have hin:i*h.n<=6*12:=jP (by lia) hn;have mi:∀G,Aj (.int (i:Int)) (.int (h.n:Int)) G=.ok (.int ((i:Int)*h.n)) G:=λG=>Fj (by lia) (by lia)
 have c3:∀G,Ck (gV 0) Bd Xj [vG,zN ns,zI h.n,zI ((6+24*h.n:Nat):Int),zI i] (Bh 0 h.n) G=.ok (tab h.n λk=>f (6+24*h.n+h.n+i*h.n+k)) G:=λG=>
  Kl (F:=λk=>.int (f (6+24*h.n+h.n+i*h.n+k))) λk hk=>by
   have h1:=hf (6+24*h.n+h.n+i*h.n+k) (by lia) G;have e1:((6+24*h.n+h.n+i*h.n+k:Nat):Int)=((6+24*h.n:Nat):Int)+(h.n:Int)+(i:Int)*h.n+k:=by rw[j4,j4,j4,Int.natCast_mul]
   rw[e1]at h1;generalize((6+24*h.n:Nat):Int)=B at h1;unfold Xj;simp[mi,h1]
 have c4:∀G,Ck (gV 0) Bd Vw [vG,zI u] (tab h.n λk=>f (6+24*h.n+h.n+i*h.n+k)) G=.ok (tab h.n λk=>amt (f (6+24*h.n+h.n+i*h.n+k)/2) u*(f (6+24*h.n+h.n+i*h.n+k)%2)) G:=λG=>
  Jo (E:=λk=>.int (f (6+24*h.n+h.n+i*h.n+k))) (F:=λk=>.int (amt (f (6+24*h.n+h.n+i*h.n+k)/2) u*(f (6+24*h.n+h.n+i*h.n+k)%2))) λk _=>by
   generalize f (6+24*h.n+h.n+i*h.n+k)=c;have m2:∀x G,Aj (.int x) (.int (c%2)) G=.ok (.int (x*(c%2))) G:=λx G=>Gz (by lia) (by lia)
   unfold Vw;simp[Jt hu,m2]
 have af:atI (Af h.n ((zQ t).map fl)) (i:Int)=zT (tab h.n (fl i)):=Dg rfl (by simp[Af,hi]);have c5:∀G,Ck (gV 0) Bd Wc [vG,zF (Af h.n ((zQ t).map fl)),zI i,zF (tab h.n λk=>amt (f (6+24*h.n+h.n+i*h.n+k)/2) u*(f (6+24*h.n+h.n+i*h.n+k)%2))] (Bh 0 h.n) G=.ok (tab h.n (flM h f u fl i)) G:=λG=>
  Kl (F:=λk=>.int (flM h f u fl i k)) λk hk=>by have a1:atI (tab h.n (fl i)) (k:Int)=zI (fl i k):=Dy hk;have a2:atI (tab h.n λk=>amt (f (6+24*h.n+h.n+i*h.n+k)/2) u*(f (6+24*h.n+h.n+i*h.n+k)%2)) (k:Int)=zI (amt (f (6+24*h.n+h.n+i*h.n+k)/2) u*(f (6+24*h.n+h.n+i*h.n+k)%2)):=Dy hk;unfold Wc;simp[af,a1,a2,flM]
 have hr:inR (h.n:Int):=Ed (by lia) (by lia);have cs3:∀a b c d e f' g h i j k' l m n o p q:Option D,Ay 1 [0,5,6,14] [a,b,c,d,e,f',g,h,i,j,k',l,m,n,o,p,q]=[vG,a,f',g,o]:=λ_ _ _ _ _ _ _ _ _ _ _ _ _ _ _ _ _=>rfl
 have cs4:∀a b c d e f' g h i j k' l m n o p q:Option D,Ay 1 [4] [a,b,c,d,e,f',g,h,i,j,k',l,m,n,o,p,q]=[vG,e]:=λ_ _ _ _ _ _ _ _ _ _ _ _ _ _ _ _ _=>rfl
 have cs5:∀a b c d e f' g h i j k' l m n o p q:Option D,Ay 1 [3,14,16] [a,b,c,d,e,f',g,h,i,j,k',l,m,n,o,p,q]=[vG,d,o,q]:=λ_ _ _ _ _ _ _ _ _ _ _ _ _ _ _ _ _=>rfl
 have fz3:=ZAm (G:=G) (A:=A) (B:=B) (C:=.lst acc) (ds:=tab h.n λk=>f (6+24*h.n+h.n+i*h.n+k)) λ_=>Hc
 have fz4:=ZAm (G:=G) (A:=A) (B:=B) (C:=.lst acc) (ds:=tab h.n λk=>amt (f (6+24*h.n+h.n+i*h.n+k)/2) u*(f (6+24*h.n+h.n+i*h.n+k)%2)) λ_=>Hc
 have fz5:=ZAm (G:=G) (A:=A) (B:=B) (C:=.lst acc) (ds:=tab h.n (flM h f u fl i)) λ_=>Hc
 have g2:(G++[A,B,.lst acc])[G.length+2]?=vF (.lst acc):=by simp
 have s2:∀c:DO,(G++[A,B,.lst acc]).set (G.length+2) c=G++[A,B,c]:=λc=>by simp
 have hal:acc.length<1000000:=by lia
 refine⟨zF (tab h.n λk=>f (6+24*h.n+h.n+i*h.n+k)),zF (tab h.n λk=>amt (f (6+24*h.n+h.n+i*h.n+k)/2) u*(f (6+24*h.n+h.n+i*h.n+k)%2)),?_⟩;generalize((6+24*h.n:Nat):Int)=BB at c3;have l4:(tab h.n λk=>amt (f (6+24*h.n+h.n+i*h.n+k)/2) u*(f (6+24*h.n+h.n+i*h.n+k)%2)).length<=1000000:=by simp;lia
 have l3:(tab h.n λk=>f (6+24*h.n+h.n+i*h.n+k)).length<=1000000:=by simp;lia
 have l5:(tab h.n (flM h f u fl i)).length<=1000000:=by simp;lia
 generalize(tab h.n λk=>amt (f (6+24*h.n+h.n+i*h.n+k)/2) u*(f (6+24*h.n+h.n+i*h.n+k)%2))=T4 at c4 c5 fz4 l4;generalize(tab h.n λk=>f (6+24*h.n+h.n+i*h.n+k))=T3 at c3 c4 fz3 l3;generalize tab h.n (flM h f u fl i)=T5 at c5 fz5 l5;unfold Oo ZDp ZJh;simp[l3,l4,l5,hr,cs3,cs4,cs5,c3,c4,c5,fz3,fz4,fz5,g2,s2,hal]
theorem ZHl(hf:Cf ns f)(hu:0<u)(g:GoodH h){fl:Nat->Nat->Int}{t:Nat}(ht:t<=6){s2 s7 s8 s9 s10 s11 s12:Option D}{A B:DO}(G:DH):∀(m i:Nat)(x15 x16 x17:Option D),i+m=t->∃y15 y16 y17,
  Aq (gV 14) Oo (Bh i m) [zN ns,vF h.enc,s2,zF (Af h.n ((zQ t).map fl)),zI u,zI h.n,zI ((6+24*h.n:Nat):Int),s7,s8,s9,s10,s11,s12,zR (G.length+2),x15,x16,x17] (G++[A,B,.lst (Af h.n ((zQ i).map (flM h f u fl)))])=
   .nx [zN ns,vF h.enc,s2,zF (Af h.n ((zQ t).map fl)),zI u,zI h.n,zI ((6+24*h.n:Nat):Int),s7,s8,s9,s10,s11,s12,zR (G.length+2),y15,y16,y17] (G++[A,B,.lst (Af h.n ((zQ t).map (flM h f u fl)))])
 |0,i,x15,x16,x17,e=>by
  have e1:i=t:=by lia
  subst e1;exact⟨x15,x16,x17,by rw[H9,Cm]⟩
 |m+1,i,x15,x16,x17,e=>by
  obtain⟨z16,z17,hb⟩:=ZQ3 hf hu g (fl:=fl) (t:=t) (i:=i) (by lia) ht (s2:=s2) (s7:=s7) (s8:=s8) (s9:=s9) (s10:=s10) (s11:=s11) (s12:=s12) (s14:=vG) (x16:=x16) (x17:=x17) (A:=A) (B:=B) (acc:=Af h.n ((zQ i).map (flM h f u fl))) (by simp[Af];lia) G;obtain⟨y15,y16,y17,ih⟩:=ZHl hf hu g (fl:=fl) ht (s2:=s2) (s7:=s7) (s8:=s8) (s9:=s9) (s10:=s10) (s11:=s11) (s12:=s12) (A:=A) (B:=B) G m (i+1) (zI i) z16 z17 (by lia)
  refine⟨y15,y16,y17,?_⟩;have ea:Af h.n ((zQ i).map (flM h f u fl))++[.tup (tab h.n (flM h f u fl i))]=Af h.n ((zQ (i+1)).map (flM h f u fl)):=by simp[Af,j3]
  rw[ea]at hb;rw[Ge,Bu];simp only[Cg,R.Cd,qx,hb,Cq];have e1:((i:Int)+1)=((i+1:Nat):Int):=by lia
  rw[e1,ih]
theorem ZM8{B:DO}(h1:bels G.length ds=vH)(h2:bel G.length e=vH):freeze G (.ok (.tup [e,.ref (G.length+2)]) (G++[A,B,.lst ds]))=.ok (.tup [e,.fl ds]) G:=by
 unfold freeze;have m:Du (G++[A,B,.lst ds]) G.length 9 (.tup [e,.ref (G.length+2)])=zT [e,.fl ds]:=by
  unfold Du;have m1:Du (G++[A,B,.lst ds]) G.length 8 (.ref (G.length+2))=zF ds:=by unfold Du;simp[Uq h1]
  have m2:Du (G++[A,B,.lst ds]) G.length 8 e=vF e:=by unfold Du;simp[h2]
  simp[Hx,m1,m2]
 simp[m]
theorem ZTY(hf:Cf ns f)(hu:0<u)(cu:Cu ns u)(g:GoodH h)(hb:∀k b r q,k<h.n->(h.pl k).kd=.basin b r q->lv k<=b)(ht:t<=6)(G:DH):
  freeze G (Nv [nD ns,h.enc,stD h.n lv co,.fl (Af h.n ((zQ t).map fl))] G)=.ok (.tup [stD h.n (lvM h f u lv) (coM h f u co),.fl (Af h.n ((zQ t).map (flM h f u fl)))]) G:=by
 have hn:=g.len;obtain⟨y9,y10,y11,y12,h1⟩:=ZHX hf hu g hb (co:=co) (s3:=zF (Af h.n ((zQ t).map fl))) (s14:=vG) (s15:=vG) (s16:=vG) (s17:=vG) G h.n 0 vG vG vG vG (by lia);obtain⟨y15,y16,y17,h2⟩:=ZHl hf hu g (fl:=fl) ht (s2:=vF (stD h.n lv co)) (s7:=zR G.length) (s8:=zR (G.length+1)) (s9:=y9) (s10:=y10) (s11:=y11) (s12:=y12) (A:=.lst (tab h.n (lvM h f u lv))) (B:=.lst (Am h.n (coM h f u co))) G t 0 vG vG vG (by lia)
 have h1':Aq (gV 9) Ow (Bh 0 h.n) [zN ns,vF h.enc,vF (stD h.n lv co),zF (Af h.n ((zQ t).map fl)),zI u,zI h.n,zI ((6+24*h.n:Nat):Int),zR G.length,zR (G.length+1),vG,vG,vG,vG,vG,vG,vG,vG] (G++[.lst [],.lst []])=_:=h1;have h2':Aq (gV 14) Oo (Bh 0 t) [zN ns,vF h.enc,vF (stD h.n lv co),zF (Af h.n ((zQ t).map fl)),zI u,zI h.n,zI ((6+24*h.n:Nat):Int),zR G.length,zR (G.length+1),y9,y10,y11,y12,zR (G.length+2),vG,vG,vG] (G++[.lst (tab h.n (lvM h f u lv)),.lst (Am h.n (coM h f u co)),.lst []])=_:=h2
 have m24:∀G,Aj (.int 24) (.int (h.n:Int)) G=.ok (.int (24*(h.n:Int))) G:=λG=>Fj (by lia) (by lia)
 have e6:(6+24*(h.n:Int))=((6+24*h.n:Nat):Int):=by lia
 have fu:freeze G (.ok (.int u) G)=.ok (.int u) G:=Hl rfl;have hr:inR (h.n:Int):=Ed (by lia) (by lia);have hrt:inR (t:Int):=Ed (by lia) (by lia);have t1:tidy (G++[.lst []]) (.ok (.ref (G.length+1)) (G++[.lst [],.lst []]))=.ok (.ref (G.length+1)) (G++[.lst [],.lst []]):=ZIe rfl;have t2:∀A B:DO,tidy (G++[A,B]) (.ok (.ref (G.length+2)) (G++[A,B,.lst []]))=.ok (.ref (G.length+2)) (G++[A,B,.lst []]):=λA B=>by have:=Dr (G:=G++[A,B]) (ds:=[]) (L:=[]) rfl;simpa using this
 have lfl:(Af h.n ((zQ t).map fl)).length=t:=by simp[Af]
 have fm:=ZM8 (G:=G) (A:=.lst (tab h.n (lvM h f u lv))) (B:=.lst (Am h.n (coM h f u co))) (ds:=Af h.n ((zQ t).map (flM h f u fl))) (e:=stD h.n (lvM h f u lv) (coM h f u co)) Ut Ma;have g0:∀b c:DO,(G++[.lst (tab h.n (lvM h f u lv)),b,c])[G.length]?=vF (.lst (tab h.n (lvM h f u lv))):=λb c=>by simp
 have g1:∀a c:DO,(G++[a,.lst (Am h.n (coM h f u co)),c])[G.length+1]?=vF (.lst (Am h.n (coM h f u co))):=λa c=>by simp
 have tt:∀(e:D)(G':DH),tidy G (.ok (.tup [e,.ref (G.length+2)]) G')=.ok (.tup [e,.ref (G.length+2)]) G':=λe G'=>ZGL (by simp)
 have cm:Nv [nD ns,h.enc,stD h.n lv co,.fl (Af h.n ((zQ t).map fl))] G=.ok (.tup [stD h.n (lvM h f u lv) (coM h f u co),.ref (G.length+2)]) (G++[.lst (tab h.n (lvM h f u lv)),.lst (Am h.n (coM h f u co)),.lst (Af h.n ((zQ t).map (flM h f u fl)))]):=by
  generalize((6+24*h.n:Nat):Int)=BB at h1' h2' e6;generalize Af h.n ((zQ t).map (flM h f u fl))=F2 at h2';generalize Af h.n ((zQ t).map fl)=F1 at h1' h2' lfl;generalize stD h.n lv co=E0 at h1' h2';unfold stD;generalize tab h.n (lvM h f u lv)=TL at h1' h2' g0;generalize Am h.n (coM h f u co)=RL at h1' h2' g1;unfold Nv ZDb;rw[Aw];simp[cu,fu,Cp,Hs.Hu,m24,e6,Ah,Dr,t1,hr,h1',t2,lfl,hrt,h2',g0,g1,An,tt]
 rw[cm,fm]
end
theorem ZH2{n:Nat}{E1 E2 F:Nat->D}{d:D}(hd:Bg d G=vF ((zQ n).map E1))(he:Bg e G=vF ((zQ n).map E2))(h:∀k,k<n->te [vF (E1 k),vF (E2 k)] G=.ok (F k) G):
  Dc (Ew [d,e]) (Ao 2 (Ae (gV 0) (Ae (gV 1) Ax))) Bd te (Ay 2 [] S) n 0 G=.ok ((zQ n).map F) G:=by
 have hf:∀j,Ew [d,e] j G=vF ((zQ n).map λi=>D.tup [E1 i,E2 i])[j]? :=λj=>by
  rw[Xy hd he,Ke,List.zip_map',qP]
  rfl
 have hc:Ay 2 [] S=[vG,vG]:=rfl;rw[hc];have key:∀m j,j+m=n->Dc (Ew [d,e]) (Ao 2 (Ae (gV 0) (Ae (gV 1) Ax))) Bd te [vG,vG] m j G=.ok ((List.range' j m).map F) G:=by
  intro m
  induction m with
  |zero=>
   intro j hj;unfold Dc;rw[hf,z0 (by simp;lia)]
   rfl
  |succ m ih=>
   intro j hj;have hlt:j<n:=by lia
   unfold Dc;rw[hf,zx,zU hlt];have hg:(Ao 2 (Ae (gV 0) (Ae (gV 1) Ax))) (.tup [E1 j,E2 j]) [vG,vG] G=.ok [vF (E1 j),vF (E2 j)] G:=by simp
   simp only[Option.map_some,hg,R.Hk,ZFX,if_true,h j hlt,ih (j+1) (by lia)];rw[List.range'_succ,zk]
 have:=key n 0 (by lia);rw[this,List.range_eq_range']
def leN(n:Nat)(a b:Nat->Int):Bool:=(zQ n).all λk=>decide (a k<=b k)
def Kg(w m:Nat)(A:Nat->Nat->Int):List D:=(zQ m).map λi=>D.tup (tab w (A i))
@[simp]theorem ZKO{w:Nat}{A:Nat->Nat->Int}:(Kg w m A).length=m:=by simp[Kg]
def leR(w m:Nat)(A B:Nat->Nat->Int):Bool:=(zQ m).all λi=>leN w (A i) (B i)
theorem ZEM{n:Nat}{p:Nat->Bool}:((zQ n).map λk=>D.bl (p k))=((zQ n).map p).map D.bl:=by rw[qP];rfl
theorem R4{ks:List Bool}:bels m (ks.map D.bl)=vH:=Ec λ_ _=>rfl
theorem ZIZ{n:Nat}{a b:Nat->Int}(hn:n<=1000)(G:DH):Pr [.tup (tab n a),.tup (tab n b)] G=.ok (.bl (leN n a b)) G:=by
 have hz:=Ux (G:=G) (Jh (xs:=tab n a)) (Jh (xs:=tab n b));rw[ZQ6]at hz;have hc:=ZH2 (te:=ZAt) (S:=[zT (tab n a),zT (tab n b)]) (n:=n) (E1:=λi=>.int (a i)) (E2:=λi=>.int (b i)) (F:=λk=>.bl (decide (a k<=b k))) (G:=G) (Jh (xs:=tab n a)) (Jh (xs:=tab n b)) λk _=>by unfold ZAt;simp
 rw[ZEM]at hc;have ha:((zQ n).map λk=>decide (a k<=b k)).all id=leN n a b:=by rw[List.all_map];rfl
 have hl:((zQ n).map λk=>decide (a k<=b k)).length<=1000000:=by simp;lia
 generalize((zQ n).map λk=>decide (a k<=b k))=ks at hc ha hl;have fz:freeze G (.ok (.ref G.length) (G++[.lst (ks.map D.bl)]))=.ok (.fl (ks.map D.bl)) G:=Dk R4;unfold Pr ZDd;rw[Aw];simp[hz,hc,hl,fz,ha,Be]
theorem ZGk{w m':Nat}{A B:Nat->Nat->Int}(hw:w<=1000)(hm:m<=1000){d:D}(hd:Bg d G=vF (Kg w m A))(he:Bg e G=vF (Kg w m' B))(ld:Bm [d] G=.ok (.int m) G)(le':Bm [e] G=.ok (.int m') G):
  Ln [d,e] G=.ok (.bl (decide (m=m')&&leR w m A B)) G:=by
 by_cases h:m=m'
 ·subst h;have hz:=Ux (G:=G) hd he;rw[ZKO]at hz;have hc:=ZH2 (te:=ZA9) (S:=[vF d,vF e]) (n:=m) (E1:=λi=>.tup (tab w (A i))) (E2:=λi=>.tup (tab w (B i))) (F:=λk=>.bl (leN w (A k) (B k))) (G:=G) hd he λk _=>by unfold ZA9;simp[ZIZ hw]
  rw[ZEM]at hc;have ha:((zQ m).map λk=>leN w (A k) (B k)).all id=leR w m A B:=by rw[List.all_map];rfl
  have hl:((zQ m).map λk=>leN w (A k) (B k)).length<=1000000:=by simp;lia
  generalize((zQ m).map λk=>leN w (A k) (B k))=ks at hc ha hl;have fz:freeze G (.ok (.ref G.length) (G++[.lst (ks.map D.bl)]))=.ok (.fl (ks.map D.bl)) G:=Dk R4;unfold Ln Wq;rw[Aw];simp[ld,le',hz,hc,hl,fz,ha,Be]
 ·have h2:¬(m:Int)=(m':Int):=by lia
  unfold Ln Wq;rw[Aw];simp[ld,le',h,h2,Be]
theorem ZKQ{n:Nat}(hn:n<=1000)(G:DH):Qw [stD n lv co,stD n lv' co'] G=.ok (.bl (leN n lv lv'&&leR 5 n co co')) G:=by
 have h1:=ZIZ hn (a:=lv) (b:=lv') G;have h2:=ZGk (w:=5) (m:=n) (m':=n) (A:=co) (B:=co') (by lia) hn (d:=.tup (Am n co)) (e:=.tup (Am n co')) (G:=G) rfl rfl (by simp) (by simp);simp at h2;unfold stD Qw ZGJ;rw[Aw]
 cases e:leN n lv lv'<;>simp[h1,h2,e,Be]
theorem ZFZ{n:Nat}:Af n fls=Kg n fls.length λi=>fls.getD i λ_=>0:=by
 refine qN (by simp[Af,Kg]) λi h1 h2=>?_
 have hi:i<fls.length:=by simpa[Af]using h1
 simp[Af,Kg,zD,hi]
theorem ZTF{n:Nat}(hn:n<=1000)(hl:fls.length<=1000)(G:DH):Ln [.fl (Af n fls),.fl (Af n fls')] G=.ok (.bl (decide (fls.length=fls'.length)&&leR n fls.length (λi=>fls.getD i λ_=>0) λi=>fls'.getD i λ_=>0)) G:=
 ZGk hn hl (by rw[ZFZ];rfl) (by rw[ZFZ];rfl) (by simp[Af]) (by simp[Af])
def wt:Nat->Str
 |1=>"took"
 |2=>"spilled"
 |3=>"let"
 |4=>"pumped"
 |_=>"lies"
def snT(b:Bool):Str:=if b=vH then "least" else "most"
def byd(b:Bool)(x m:Int):Bool:=if b=vH then decide (x<m)else decide (m<x)
theorem V6:(snT b="least")=(b=vH):=by cases b<;>simp[snT]<;>decide
theorem ZF1:(snT b="most")=(b=vI):=by cases b<;>simp[snT]<;>decide
def Bq(c p:Nat)(b:Bool)(m:Int):D:=.tup [.str (wt c),.int p,.str (snT b),.int m]
@[simp]theorem ZF6{c:Nat}{m:Int}{k:Nat}:bel k (Bq c p b m)=vH:=rfl
theorem ZRG{m:Int}(G:DH):Td [.int x,.str (snT b),.int m] G=.ok (.bl (byd b x m)) G:=by
 unfold Td ZFM;rw[Aw]
 cases b<;>simp[V6,byd,Be]
theorem five{P:Nat->Prop}{c:Nat}(h1:1<=c)(h2:c<=5)(a:P 1)(b:P 2)(d:P 3)(e:P 4)(f:P 5):P c:=by rcases(by lia:c=1∨c=2∨c=3∨c=4∨c=5)with rfl|rfl|rfl|rfl|rfl<;>assumption
def prt:List (Str×D):=[("lies",.int 5),("spilled",.int 2),("let",.int 3),("pumped",.int 4),("took",.int 1)]
theorem ZNX{c:Nat}(h1:1<=c)(h2:c<=5):Gb (Ga [] (prt.map λkv=>(.inr kv.1,kv.2))) (.inr (wt c))=zI c:=five (P:=λc=>Gb (Ga [] (prt.map λkv=>(.inr kv.1,kv.2))) (.inr (wt c))=zI c) h1 h2 rfl rfl rfl rfl rfl
theorem ZHJ{kvs:List (Str×D)}{x:Str}{v:D}(h:Gb (Ga [] (kvs.map λkv=>(.inr kv.1,kv.2))) (.inr x)=vF v)(hb:bel G.length v=vH):tidy G ((sRt (dOp J8 (Mp kvs) (dV 0)) [zS x] G).ret)=.ok v G:=by
 have e:J8 (.ref G.length) (.str x) (G++[.dct (Ga [] (kvs.map λkv=>(.inr kv.1,kv.2)))])=.ok v (G++[.dct (Ga [] (kvs.map λkv=>(.inr kv.1,kv.2)))]):=by rw[ZMc (kvs:=Ga [] (kvs.map λkv=>(.inr kv.1,kv.2))) (by simp) rfl,h]
 simp[e,Li,hb]
theorem ZP1{c:Nat}(h1:1<=c)(h2:c<=5)(G:DH):Vc [.str (wt c)] G=.ok (.int c) G:=by unfold Vc ZIn;rw[Aw];exact ZHJ (kvs:=prt) (ZNX h1 h2) rfl
def Fo(b:Bool)(m:Int):List Int->Nat->Option (Nat×Int)
 |[],_=>vG
 |x::r,k=>if byd b x m=vH then vF (k,x)else Fo b m r (k+1)
def Ce(b:Bool)(r:List Int)(x:Int):Int:=if b=vH then r.foldl min x else r.foldl max x
def G8(b:Bool)(m:Int)(xs:List Int):D:=match Fo b m xs 0 with
 |some (i,x)=>.tup [.str "broken",.int i,.int x]
 |none=>match xs with
  |[]=>.tup [.str "kept",.non,.non]
  |x::r=>.tup [.str "kept",.int ((x::r).idxOf (Ce b r x):Nat),.int (Ce b r x)]
theorem X3{f:Int->Int->Int}(hf:∀a b,f a b=a∨f a b=b):∀(r:List Int)(x:Int),r.foldl f x∈x::r
 |[],x=>by simp
 | y::r,x=>by
  have:=X3 hf r (f x y);rw[j2];rcases zq.mp this with h|h
  ·rcases hf x y with e|e
   ·rw[h,e];simp
   ·rw[h,e];simp
  ·simp[h]
theorem ZIU:Ce b r x∈x::r:=by
 unfold Ce;cases b
 ·exact X3 (λa b=>by lia) r x
 ·exact X3 (λa b=>by lia) r x
theorem ZIs{b:Bool}{m:Int}{s0 s1 s2 s3 s6 s7 s10:Option D}{G:DH}:∀(xs:List Int)(k:Nat)(x8 x9:Option D),∃y8 y9,
  Aq (Ao 2 (Ae (gV 8) (Ae (gV 9) Ax))) Jk (enS k (xs.map D.int)) [s0,s1,s2,s3,zS (snT b),zI m,s6,s7,x8,x9,s10] G=
   match Fo b m xs k with
   |some (i,x)=>.rt (.tup [.str "broken",.int i,.int x]) G
   |none=>.nx [s0,s1,s2,s3,zS (snT b),zI m,s6,s7,y8,y9,s10] G
 |[],k,x8,x9=>⟨x8,x9,by show Aq _ _ [] _ _=_;rw[Cm];rfl⟩
 | x::r,k,x8,x9=>by
  obtain⟨y8,y9,ih⟩:=ZIs (b:=b) (m:=m) (s0:=s0) (s1:=s1) (s2:=s2) (s3:=s3) (s6:=s6) (s7:=s7) (s10:=s10) (G:=G) r (k+1) (zI k) (zI x);refine⟨y8,y9,?_⟩;have e1:((k:Int)+1)=((k+1:Nat):Int):=by lia
  show Aq _ _ (.tup [.int k,.int x]::enS ((k:Int)+1) (r.map D.int)) _ _=_;rw[Bu,e1];have hb:Jk [s0,s1,s2,s3,zS (snT b),zI m,s6,s7,zI k,zI x,s10] G=if byd b x m=vH then .rt (.tup [.str "broken",.int k,.int x]) G else .nx [s0,s1,s2,s3,zS (snT b),zI m,s6,s7,zI k,zI x,s10] G:=by
   unfold Jk
   cases e:byd b x m<;>simp[ZRG,e,An]
  simp only[N8,N7,Mi,Cg,R.Hk,R.Cd,qx,hb,qQ,jK,Nat.reduceAdd,if_true];unfold Fo;cases e:byd b x m with
  |true=>simp
  |false=>simp only[jZ,if_false,Cq,ih]
def Ea(pgs:List (Nat->List Int))(p c:Nat):List Int:=pgs.map λpg=>(pg p).getD c 0
abbrev Row6(h:Hs)(pg:Nat->List Int):Prop:=∀k,k<h.n->(pg k).length=6
theorem run6(g:GoodH h):∀(fls:List (Nat->Int))(s:St2)(a:Int),∀pg∈h.Bt fls s a,Row6 h pg
 |[],s,a,pg,hp=>nomatch hp
 |fl::r,s,a,pg,hp=>by
  rcases zq.mp hp with rfl|hp
  ·exact ZB4 g h.n 0 _ (by lia) λi hi hd=>by
    unfold Hs.done at hd
    split at hd<;>lia
  ·exact run6 g r _ _ pg hp
theorem ZC3(po:Row6 h pg){c:Nat}(hp:p<h.n)(h1:1<=c)(h2:c<=5)(G:DH):∃t,atI (Cj h.n pg) (p:Int)=zT t/\atI t (c:Int)=zI ((pg p).getD c 0):=by obtain⟨a,b,d,e,f,g,er⟩:=row6 (po p hp);refine⟨_,ZTX hp er,?_⟩;rw[er];exact five (P:=λc=>atI [D.int a,.int b,.int d,.int e,.int f,.int g] (c:Int)=zI ([a,b,d,e,f,g].getD c 0)) h1 h2 rfl rfl rfl rfl rfl
theorem ZIr{m:Int}{k:Nat}:bel k (G8 b m xs)=vH:=by
 unfold G8;split
 ·rfl
 ·split <;> rfl
theorem ZS6(hl:pgs.length<=100000)(po:∀pg∈pgs,Row6 h pg){c:Nat}(hp:p<h.n)(h1:1<=c)(h2:c<=5){m:Int}(G:DH):
  Tc [.fl (pgs.map (pgD h.n)),Bq c p b m] G=.ok (G8 b m (Ea pgs p c)) G:=by
 have cp:Ck (gV 0) Bd Tg [vG,zI p,zI c] (pgs.map (pgD h.n)) G=.ok ((Ea pgs p c).map D.int) G:=by
  have:=Jo (te:=Tg) (S:=[vG,zI p,zI c]) (E:=pgD h.n) (F:=λpg=>.int ((pg p).getD c 0)) (G:=G) (l:=pgs) λpg hpg=>by obtain⟨t,e1,e2⟩:=ZC3 (po pg hpg) hp h1 h2 G;unfold Tg pgD;simp[e1,e2]
  rw[this,Ea,qP]
  rfl
 have hn:(Ea pgs p c).length=pgs.length:=by simp[Ea]
 generalize Ea pgs p c=xs at cp hn;have hx:xs.length<=1000000:=by lia
 obtain⟨y8,y9,hL⟩:=ZIs (b:=b) (m:=m) (s0:=zF (pgs.map (pgD h.n))) (s1:=vF (Bq c p b m)) (s2:=zS (wt c)) (s3:=zI p) (s6:=zI c) (s7:=zF (xs.map D.int)) (s10:=vG) (G:=G) xs 0 vG vG
 have hL':Dh (Dp 0 (.fl (xs.map D.int))) (Ao 2 (Ae (gV 8) (Ae (gV 9) Ax))) Jk xs.length 0 [zF (pgs.map (pgD h.n)),vF (Bq c p b m),zS (wt c),zI p,zS (snT b),zI m,zI c,zF (xs.map D.int),vG,vG,vG] G=(match Fo b m xs 0 with
   |some (i,x)=>.rt (.tup [.str "broken",.int i,.int x]) G
   |none=>.nx [zF (pgs.map (pgD h.n)),vF (Bq c p b m),zS (wt c),zI p,zS (snT b),zI m,zI c,zF (xs.map D.int),y8,y9,vG] G):=by
  have:=ZD7 (g:=Ao 2 (Ae (gV 8) (Ae (gV 9) Ax))) (b:=Jk) (xs:=xs.map D.int) (a:=0) (S:=[zF (pgs.map (pgD h.n)),vF (Bq c p b m),zS (wt c),zI p,zS (snT b),zI m,zI c,zF (xs.map D.int),vG,vG,vG]) (G:=G);rw[qq]at this;rw[this];exact hL
 have fz:freeze G (.ok (.ref G.length) (G++[.lst (xs.map D.int)]))=.ok (.fl (xs.map D.int)) G:=Dk (Ec λ_ _=>rfl);have cpt:=ZP1 h1 h2;have hpl:pgs.length<=1000000:=by lia
 have ea:Bq c p b m=.tup [.str (wt c),.int p,.str (snT b),.int m]:=rfl;have hlP:(pgs.map (pgD h.n)).length<=1000000:=by simp;exact hpl
 have hlX:(xs.map D.int).length=xs.length:=by simp
 have pre:Uk [zF (pgs.map (pgD h.n)),vF (Bq c p b m),vG,vG,vG,vG,vG,vG,vG,vG,vG] G=Ox [zF (pgs.map (pgD h.n)),vF (Bq c p b m),zS (wt c),zI p,zS (snT b),zI m,zI c,zF (xs.map D.int),vG,vG,vG] G:=by
  generalize pgs.map (pgD h.n)=PG at cp hlP;have hX6:(xs.map D.int).length<=1000000:=by simp;lia
  generalize xs.map D.int=X at cp fz hX6;unfold Uk ZFm ZE7;simp[ea,cpt,Ay,cp,fz,hlP,hX6]
 have lp:Ox [zF (pgs.map (pgD h.n)),vF (Bq c p b m),zS (wt c),zI p,zS (snT b),zI m,zI c,zF (xs.map D.int),vG,vG,vG] G=(match Fo b m xs 0 with
   |some (i,x)=>.rt (.tup [.str "broken",.int i,.int x]) G
   |none=>U4 [zF (pgs.map (pgD h.n)),vF (Bq c p b m),zS (wt c),zI p,zS (snT b),zI m,zI c,zF (xs.map D.int),y8,y9,vG] G):=by
  unfold Ox;generalize pgs.map (pgD h.n)=PG at hL';generalize Bq c p b m=AK at hL';generalize xs.map D.int=X at hL' hlX;simp only[<-hlX]at hL';rw[Oz];have e:(By (Bk Ey (Aa (dV 7) Ab)) (Ao 2 (Ae (gV 8) (Ae (gV 9) Ax))) Jk) [zF PG,vF AK,zS (wt c),zI p,zS (snT b),zI m,zI c,zF X,vG,vG,vG] G=_:=(by simp:_=Dh (Dp 0 (.fl X)) (Ao 2 (Ae (gV 8) (Ae (gV 9) Ax))) Jk X.length 0 [zF PG,vF AK,zS (wt c),zI p,zS (snT b),zI m,zI c,zF X,vG,vG,vG] G).trans hL'
  rw[e];cases Fo b m xs 0 with
  |some q=>rfl
  |none=>rfl
 have bA:bel G.length (G8 b m xs)=vH:=ZIr;have go:Ox [zF (pgs.map (pgD h.n)),vF (Bq c p b m),zS (wt c),zI p,zS (snT b),zI m,zI c,zF (xs.map D.int),vG,vG,vG] G=.rt (G8 b m xs) G:=by
  rw[lp];unfold G8;cases hF:Fo b m xs 0 with
  |some q=>rfl
  | none=>
   generalize pgs.map (pgD h.n)=PG;generalize Bq c p b m=AK;cases xs with
   |nil=>
    unfold U4;simp[An]
   | cons x r=>
    have mm:Ce b r x∈x::r:=ZIU;have ix:∀G,Iz (.fl ((x::r).map D.int)) [.int (Ce b r x)] G=.ok (.int ((x::r).idxOf (Ce b r x):Nat)) G:=λG=>ZIh rfl mm hx
    have mn:∀G,Hi [.fl ((x::r).map D.int)] G=.ok (.int (r.foldl min x)) G:=λG=>ZIR rfl
    have mx:∀G,Hm [.fl ((x::r).map D.int)] G=.ok (.int (r.foldl max x)) G:=λG=>ZEG rfl
    have l0:¬((x::r).map D.int)=[]:=by simp
    dsimp only;have bl:Ce b r x=if b=vH then r.foldl min x else r.foldl max x:=rfl
    generalize(((x::r).idxOf (Ce b r x):Nat):Int)=I at ix⊢;generalize(x::r).map D.int=X at*;have t5:dIf (Ag (dOp Bl (dV 4) (dC (.str "least")))) (dFn Hi (Aa (dV 7) Ab)) (dFn Hm (Aa (dV 7) Ab)) [zF PG,vF AK,zS (wt c),zI p,zS (snT b),zI m,zI c,zF X,y8,y9,vG] G=.ok (.int (Ce b r x)) G:=by
     rw[bl]
     cases b<;>simp[V6,mn,mx]
    generalize Ce b r x=B at*;unfold U4 ZJF ZI2;generalize dIf (Ag (dOp Bl (dV 4) (dC (.str "least")))) (dFn Hi (Aa (dV 7) Ab)) (dFn Hm (Aa (dV 7) Ab))=te at t5;simp[l0,t5,ix,An]
 unfold Tc;rw[Aw];show tidy G ((Uk [zF (pgs.map (pgD h.n)),vF (Bq c p b m),vG,vG,vG,vG,vG,vG,vG,vG,vG] G).ret)=_;rw[pre,go];exact Be bA
theorem ZOQ(G:DH):Hz (.str (snT b)) (.tup [.str "least",.str "most"]) G=.ok (.bl vI) G:=by cases b<;>rfl
def knd:List (Str×Str):=[("lies","basin"),("spilled","basin"),("let","basin"),("pumped","basin"),("took","town")]
def knT(c:Nat):Str:=if c=1 then "town" else "basin"
theorem ZRk{c:Nat}(h1:1<=c)(h2:c<=5):knd.lookup (wt c)=vF (knT c):=five (P:=λc=>knd.lookup (wt c)=vF (knT c)) h1 h2 rfl rfl rfl rfl rfl
theorem ZKk{c:Nat}(hp:p<h.n)(h1:1<=c)(h2:c<=5)(hk:(h.pl p).kd.txt=knT c){m:Int}(G:DH):U7 [h.enc,Bq c p b m] G=.ok .non G:=by
 have e:=ZRk h1 h2;have g1:Lh knd (.str (wt c)) G=.ok (.str (knT c)) G:=ZM2 e;have ea:Bq c p b m=.tup [.str (wt c),.int p,.str (snT b),.int m]:=rfl;have eb:ZGH=(Ac (sAs (dV 1) (Ao 4 (Ae (gV 2) (Ae (gV 3) (Ae (gV 4) (Ae (gV 5) Ax)))))) (Ac (sIf (dOr (Ag (dOp Hz (dV 4) (dC (.tup [.str "least",.str "most"])))) (Ag (dUn (Nb knd) (dV 2)))) Hw sNx) (Ac (sIf (Gy (Ag (K5 J9 Fb (dC (.int 0)) (dV 3) (dFn Bm (Aa (dOp Ad (dV 0) (dC (.int 1))) Ab))))) Hw sNx) (sIf (Ag (dOp Gw (dOp Ad (dOp Ad (dOp Ad (dV 0) (dC (.int 1))) (dV 3)) (dC (.int 0))) (dUn (Lh knd) (dV 2)))) Hw sNx)))):=rfl
 unfold U7;rw[Aw,eb];generalize knd=M at e g1;simp[ea,ZOQ,e,g1,Cp,Hs.Hu,hp,Hs.Eb hp,hk,Be]
theorem ZNf{n:Nat}(hn:n<=1000)(hl:fls.length<=1000)(u1:(leN n lv lv'&&leR 5 n co co')=vH)
  (u2:(decide (fls.length=fls'.length)&&leR n fls.length (λi=>fls.getD i λ_=>0) λi=>fls'.getD i λ_=>0)=vH) (G:DH):Us [stD n lv co,stD n lv' co',.fl (Af n fls),.fl (Af n fls')] G=.ok .non G:=by
 have h1:=ZKQ hn (lv:=lv) (lv':=lv') (co:=co) (co':=co') G;have h2:=ZTF hn (fls:=fls) (fls':=fls') hl G;rw[u1]at h1;rw[u2]at h2;unfold Us ZC8;rw[Aw];simp[h1,h2,Be]
theorem ZNn{n c:Nat}{m:Int}(G:DH):
  S9 [stD n lv co,stD n lv' co',.fl (Af n fls),.fl (Af n fls'),Bq c p b m] G=.ok (.tup [stD n (if b=vH then lv else lv') (if b=vH then co else co'),.fl (Af n (if b=vH then fls else fls'))]) G:=by
 have ea:Bq c p b m=.tup [.str (wt c),.int p,.str (snT b),.int m]:=rfl;unfold S9 ZHa;rw[Aw]
 cases b<;>simp[ea,V6,An,Be]
theorem ZSR(g:GoodH h)(hl:fls.length<=1000)(hll:fls'.length<=1000){c:Nat}(hp:p<h.n)(h1:1<=c)(h2:c<=5)(hk:(h.pl p).kd.txt=knT c){m:Int}
  (u1:(leN h.n lv lv'&&leR 5 h.n co co')=vH) (u2:(decide (fls.length=fls'.length)&&leR h.n fls.length (λi=>fls.getD i λ_=>0) λi=>fls'.getD i λ_=>0)=vH)
  (s1:∀k j,k<h.n->j<5->0<=co k j) (s2:∀k j,k<h.n->j<5->0<=co' k j) (f1:∀fl∈fls,∀k,k<h.n->0<=fl k) (f2:∀fl∈fls',∀k,k<h.n->0<=fl k) (G:DH):
  M8 [h.enc,stD h.n lv co,stD h.n lv' co',.int a,.fl (Af h.n fls),.fl (Af h.n fls'),Bq c p b m] G=
   .ok (G8 b m (Ea (h.Bt (if b=vH then fls else fls') (if b=vH then lv else lv',if b=vH then co else co') a) p c)) G:=by
 have hn:=g.len
 have st:∀k j,k<h.n->j<5->0<=(if b=vH then co else co') k j:=by cases b<;>assumption
 have ff:∀fl∈(if b=vH then fls else fls'),∀k,k<h.n->0<=fl k:=by cases b<;>assumption
 have lf:(if b=vH then fls else fls').length<=1000:=by cases b<;>assumption
 have c1:=ZKk hp h1 h2 hk (b:=b) (m:=m) G;have c2:=ZNf (by lia) hl u1 u2 G;have c3:=ZNn (n:=h.n) (c:=c) (p:=p) (b:=b) (m:=m) (lv:=lv) (lv':=lv') (co:=co) (co':=co') (fls:=fls) (fls':=fls') G;generalize(if b=vH then lv else lv')=L at c3⊢;generalize(if b=vH then co else co')=C at st c3⊢;generalize(if b=vH then fls else fls')=F at ff lf c3⊢;have c4:=Tz g (s:=(L,C)) (a:=a) lf st ff G;have po:=run6 g F (L,C) a
 have c5:=ZS6 (pgs:=h.Bt F (L,C) a) (by rw[O3];lia) po hp h1 h2 (b:=b) (m:=m) G;have fr:=Ql (G:=G) (ds:=(h.Bt F (L,C) a).map (pgD h.n)) (e:=stD h.n (h.Em F (L,C) a).1 (h.Em F (L,C) a).2) Tu Ma;have bA:∀k,bel k (G8 b m (Ea (h.Bt F (L,C) a) p c))=vH:=λk=>ZIr
 generalize G8 b m (Ea (h.Bt F (L,C) a) p c)=R at c5 bA⊢;generalize(h.Bt F (L,C) a).map (pgD h.n)=PG at c4 c5 fr;unfold M8 ZFw;rw[Aw];simp[c1,c2,c3,c4,fr,c5,Be,bA]
def Lj:Option (Nat×Nat×Bool×Int)->D
 |none=>.non
 |some (c,p,b,m)=>Bq c p b m
theorem ZNI(hf:Cf ns f)(hu:0<u)(cu:Cu ns u)(g:GoodH h)(h1:1<=h.n)(k:Nat):
  ∃o:Option (Nat×Nat×Bool×Int),(∀c p b m,o=vF (c,p,b,m)->1<=c/\c<=5/\p<h.n/\(h.pl p).kd.txt=knT c)/\
   ∀(x5 x6 x7 x8 x9:Option D)(G:DH),∃y5 y6 y7 y8 y9,Ni [zN ns,vF h.enc,zI h.n,zI ((6+20*h.n:Nat):Int),zI k,x5,x6,x7,x8,x9] G=
    match o with
    |some _=>.rt (Lj o) G
    |none=>.nx [zN ns,vF h.enc,zI h.n,zI ((6+20*h.n:Nat):Int),zI k,y5,y6,y7,y8,y9] G:=by
 have hn:=g.len;have q0:∀G,Bc [nD ns,.int ((6+20*h.n:Nat):Int)] G=.ok (.int (f (6+20*h.n))) G:=hf _ (by lia);have q1:∀G,Bc [nD ns,.int (((6+20*h.n:Nat):Int)+1)] G=.ok (.int (f (6+20*h.n+1))) G:=λG=>by have:=hf (6+20*h.n+1) (by lia) G;rwa[show((6+20*h.n+1:Nat):Int)=((6+20*h.n:Nat):Int)+1 by lia]at this
 have q2:∀G,Bc [nD ns,.int (((6+20*h.n:Nat):Int)+2)] G=.ok (.int (f (6+20*h.n+2))) G:=λG=>by have:=hf (6+20*h.n+2) (by lia) G;rwa[show((6+20*h.n+2:Nat):Int)=((6+20*h.n:Nat):Int)+2 by lia]at this
 generalize((6+20*h.n:Nat):Int)=B at q0 q1 q2;generalize f (6+20*h.n)=v0 at q0;generalize f (6+20*h.n+1)=v1 at q1;generalize f (6+20*h.n+2)=v2 at q2;have hn0:0<(h.n:Int):=by lia
 have hn0':0<h.n:=by lia
 have e0:=qT (v0+k) (show(h.n:Int)≠0 by lia);have e1:=jJ (v0+k) hn0;obtain⟨p,hp⟩:∃p:Nat,(v0+k)%(h.n:Int)=p:=⟨((v0+k)%(h.n:Int)).toNat,by lia⟩;have hpl:p<h.n:=by lia
 have ap:=Hs.Eb hpl;have eH:∀G,Ad h.enc (.int 1) G=.ok (.tup h.Ci) G:=λG=>Cp
 have fu:∀G,freeze G (.ok (.int u) G)=.ok (.int u) G:=λG=>Hl rfl
 have fz4:∀G:DH,freeze G (.ok (.ref G.length) (G++[.lst [.str "lies",.str "spilled",.str "let",.str "pumped"]]))=.ok (.fl [.str "lies",.str "spilled",.str "let",.str "pumped"]) G:=λG=>Dk rfl
 have fz2:∀G:DH,freeze G (.ok (.ref G.length) (G++[.lst [.str "least",.str "most"]]))=.ok (.fl [.str "least",.str "most"]) G:=λG=>Dk rfl
 obtain⟨c,hc1,hc2,a4⟩:∃c:Nat,2<=c/\c<=5/\atI [D.str "lies",.str "spilled",.str "let",.str "pumped"] (v1%4)=zS (wt c):=by
  rcases(by lia:v1%4=0∨v1%4=1∨v1%4=2∨v1%4=3)with z|z|z|z<;>rw[z]
  ·exact⟨5,by lia,by lia,rfl⟩
  ·exact⟨2,by lia,by lia,rfl⟩
  ·exact⟨3,by lia,by lia,rfl⟩
  ·exact⟨4,by lia,by lia,rfl⟩
 obtain⟨b,a2⟩:∃b:Bool,atI [D.str "least",.str "most"] (v2%2)=zS (snT b):=by
  rcases(by lia:v2%2=0∨v2%2=1)with z|z<;>rw[z]
  ·exact⟨vH,rfl⟩
  ·exact⟨vI,rfl⟩
 have pre:∀(x5 x6 x7 x8 x9:Option D)(G:DH),Ni [zN ns,vF h.enc,zI h.n,zI B,zI k,x5,x6,x7,x8,x9] G=Np [zN ns,vF h.enc,zI h.n,zI B,zI k,zI p,zS (h.pl p).kd.txt,zS "took",x8,x9] G:=λx5 x6 x7 x8 x9 G=>by generalize h.enc=HE at*;unfold Ni ZFE ZIv;simp[q0,hn0,hn0',hp,eH,ap]
 have fin:∀(w s:Str)(x8 x9:Option D)(G:DH),¬s="mill"->Qe [zN ns,vF h.enc,zI h.n,zI B,zI k,zI p,zS s,zS w,x8,x9] G=.rt (.tup [.str w,.int p,.str (snT b),.int (amt (v2/4) u-v2/2%2)]) G:=λw s x8 x9 G hs=>by generalize h.enc=HE at*;unfold Qe;simp[hs,q2,Ah,fz2,a2,cu,fu,Jt hu,An]
 cases ek:(h.pl p).kd with
 | basin b' r q=>
  have et:(h.pl p).kd.txt="basin":=by rw[ek];rfl
  refine⟨vF (c,p,b,amt (v2/4) u-v2/2%2),?_,λx5 x6 x7 x8 x9 G=>⟨x5,x6,x7,x8,x9,?_⟩⟩
  ·intro c' p' b' m' e;cases e;exact⟨by lia,by lia,hpl,by rw[et];unfold knT;rw[if_neg (by lia)]⟩
  ·rw[pre,et];have m3:Np [zN ns,vF h.enc,zI h.n,zI B,zI k,zI p,zS "basin",zS "took",x8,x9] G=Qe [zN ns,vF h.enc,zI h.n,zI B,zI k,zI p,zS "basin",zS (wt c),x8,x9] G:=by generalize h.enc=HE at*;unfold Np;simp[q1,Ah,fz4,a4]
   rw[m3,fin _ _ _ _ _ (by decide)]
   rfl
 | town a' b'=>
  have et:(h.pl p).kd.txt="town":=by rw[ek];rfl
  have n2:¬("town":Str)="basin":=by decide
  refine⟨vF (1,p,b,amt (v2/4) u-v2/2%2),?_,λx5 x6 x7 x8 x9 G=>⟨x5,x6,x7,x8,x9,?_⟩⟩
  ·intro c' p' b' m' e;cases e;exact⟨by lia,by lia,hpl,by rw[et];rfl⟩
  ·rw[pre,et];unfold Np;generalize h.enc=HE at*;simp[n2,fin _ "town" _ _ _ (by decide)]
   rfl
 |mill a'=>
  have et:(h.pl p).kd.txt="mill":=by rw[ek];rfl
  have n2:¬("mill":Str)="basin":=by decide
  refine⟨vG,(λc' p' b' m' e=>nomatch e),λx5 x6 x7 x8 x9 G=>⟨zI p,zS "mill",zS "took",x8,x9,?_⟩⟩
  rw[pre,et];unfold Np Qe;simp[n2]
theorem ZJt(hf:Cf ns f)(hu:0<u)(cu:Cu ns u)(g:GoodH h)(h1:1<=h.n):∀(m k:Nat),
  ∃o:Option (Nat×Nat×Bool×Int),(∀c p b m,o=vF (c,p,b,m)->1<=c/\c<=5/\p<h.n/\(h.pl p).kd.txt=knT c)/\
   ∀(x4 x5 x6 x7 x8 x9:Option D)(G:DH),∃y4 y5 y6 y7 y8 y9,Aq (gV 4) Ni (Bh k m) [zN ns,vF h.enc,zI h.n,zI ((6+20*h.n:Nat):Int),x4,x5,x6,x7,x8,x9] G=
    match o with
    |some _=>.rt (Lj o) G
    |none=>.nx [zN ns,vF h.enc,zI h.n,zI ((6+20*h.n:Nat):Int),y4,y5,y6,y7,y8,y9] G
 |0,k=>⟨vG,(λ_ _ _ _ e=>nomatch e),λx4 x5 x6 x7 x8 x9 G=>⟨x4,x5,x6,x7,x8,x9,by rw[H9,Cm]⟩⟩
 | m+1,k=>by
  obtain⟨o,ho,hb⟩:=ZNI hf hu cu g h1 k;cases o with
  |some q=>
   refine⟨vF q,ho,λx4 x5 x6 x7 x8 x9 G=>?_⟩;obtain⟨y5,y6,y7,y8,y9,e⟩:=hb x5 x6 x7 x8 x9 G;refine⟨x4,x5,x6,x7,x8,x9,?_⟩;rw[Ge,Bu];simp only[Cg,R.Cd,qx,e]
   rfl
  |none=>
   obtain⟨o,ho,hi⟩:=ZJt hf hu cu g h1 m (k+1);refine⟨o,ho,λx4 x5 x6 x7 x8 x9 G=>?_⟩;obtain⟨y5,y6,y7,y8,y9,e⟩:=hb x5 x6 x7 x8 x9 G;obtain⟨z4,z5,z6,z7,z8,z9,e2⟩:=hi (zI k) y5 y6 y7 y8 y9 G;refine⟨z4,z5,z6,z7,z8,z9,?_⟩;have e1:((k:Int)+1)=((k+1:Nat):Int):=by lia
   rw[Ge,Bu];simp only[Cg,R.Cd,qx,e,Cq,e1,e2]
theorem ZTs(hf:Cf ns f)(hu:0<u)(cu:Cu ns u)(g:GoodH h)(h1:1<=h.n):
  ∃o:Option (Nat×Nat×Bool×Int),(∀c p b m,o=vF (c,p,b,m)->1<=c/\c<=5/\p<h.n/\(h.pl p).kd.txt=knT c)/\∀G,V1 [nD ns,h.enc] G=.ok (Lj o) G:=by
 obtain⟨o,ho,hL⟩:=ZJt hf hu cu g h1 h.n 0;refine⟨o,ho,λG=>?_⟩;have hn:=g.len;have hr:inR (h.n:Int):=Ed (by lia) (by lia);obtain⟨y4,y5,y6,y7,y8,y9,e⟩:=hL vG vG vG vG vG vG G;have m20:∀G,Aj (.int 20) (.int (h.n:Int)) G=.ok (.int (20*(h.n:Int))) G:=λG=>Fj (by lia) (by lia)
 have e6:(6+20*(h.n:Int))=((6+20*h.n:Nat):Int):=by lia
 have e':Aq (gV 4) Ni (Bh 0 h.n) _ G=_:=e;generalize((6+20*h.n:Nat):Int)=B at e' e6;unfold V1 ZDw;rw[Aw];cases o with
 |some q=>
  obtain⟨c,p,b,m⟩:=q;have tq:tidy G (.ok (Bq c p b m) G)=.ok (Bq c p b m) G:=Be ZF6;simp[Cp,Hs.Hu,m20,e6,hr,e',tq,Lj]
 |none=>simp[Cp,Hs.Hu,m20,e6,hr,e',Be,Lj]
theorem ZTz:Ce b (y::r) x=Ce b r (if byd b y x=vH then y else x):=by
 unfold Ce byd;cases b
 ·simp only[jZ,if_false,j2]
  congr 1
  by_cases h:x<y
  ·rw[if_pos (decide_eq_true h)];lia
  ·rw[if_neg (by simpa using h)];lia
 ·simp only[if_true,j2]
  congr 1
  by_cases h:y<x
  ·rw[if_pos (decide_eq_true h)];lia
  ·rw[if_neg (by simpa using h)];lia
theorem ZQQ{s:Str}{x y:D}(h:x=.non/\y=.non∨∃i j,x=.int i/\y=.int j)(G:DH):V2 [.tup [.str s,x,y]] G=.ok (.bl vH) G:=by
 have fz:∀x y:D,bel G.length x=vH->bel G.length y=vH->freeze G (.ok (.tup [x,y]) G)=.ok (.tup [x,y]) G:=λx y h1 h2=>Hl (by simp[h1,h2])
 have b1:∀(s1:Option D)(i:Int),Oi [s1,zI i] G=.nx [s1,zI i] G:=λs1 i=>by unfold Oi;simp[tyD]
 have b2:∀(s1:Option D),Oi [s1,vF .non] G=.nx [s1,vF .non] G:=λs1=>by unfold Oi;simp[tyD]
 have ct:∀x y:D,cutD [D.str s,x,y] (vF 1) vG=[x,y]:=λx y=>rfl
 unfold V2 ZDk;rw[Aw];rcases h with⟨rfl,rfl⟩|⟨i,j,rfl,rfl⟩
 ·simp[tyD,ct,fz,Bu,Cm,b2,Be]
 ·simp[tyD,ct,fz,Bu,Cm,b1,Be]
theorem ZGC(hb:∀k b r q,k<h.n->(h.pl k).kd=.basin b r q->lv k<=b){k:Nat}(hk:k<h.n):lv k<=lvM h f u lv k:=by
 unfold lvM;cases e:(h.pl k).kd with
 |basin b r q=>
  have h1:=hb k b r q hk e;have h2:0<=amt (mcell h f k/2) u%(b-lv k+1):=qT _ (by lia);have h3:=Zr (c:=mcell h f k) h2;show lv k<=lv k+_;lia
 |town _ _=>exact zL _
 |mill _=>exact zL _
theorem ZJU(hu:0<u)(k j:Nat):co k j<=coM h f u co k j:=by unfold coM;have h3:=Zr (x:=u) (c:=mcell h f k/2) (by lia);lia
theorem ZQe(hu:0<u)(i k:Nat):fl i k<=flM h f u fl i k:=by unfold flM;have h3:=Zr (x:=amt (f (6+24*h.n+h.n+i*h.n+k)/2) u) (c:=f (6+24*h.n+h.n+i*h.n+k)) (Q9 hu);lia
theorem ZH6{n:Nat}{a b:Nat->Int}(h:∀k,k<n->a k<=b k):leN n a b=vH:=q8.mpr λk hk=>decide_eq_true (h k (qz.mp hk))
theorem ZD3{w:Nat}{A B:Nat->Nat->Int}(h:∀i,i<m->∀k,k<w->A i k<=B i k):leR w m A B=vH:=q8.mpr λi hi=>ZH6 (h i (qz.mp hi))
theorem ZE1{F:Nat->Nat->Int}(hi:i<t):((zQ t).map F).getD i (λ_=>0)=F i:=by simp[zD,hi]
theorem ZRv(hu:0<u)(so:StOk h lv co)(hb:∀k b r q,k<h.n->(h.pl k).kd=.basin b r q->lv k<=b):StOk h (lvM h f u lv) (coM h f u co):=
 ⟨λk hk=>jv (so.lv0 k hk) (ZGC hb hk),λk hk hB=>by
  unfold lvM;cases e:(h.pl k).kd with
  |basin b r q=>rw[e]at hB;cases hB
  |town _ _=>exact so.lvR k hk hB
  |mill _=>exact so.lvR k hk hB,λk j hk hj=>jv (so.co0 k j hk hj) (ZJU hu k j)⟩
theorem ZMT{xs:List α}{a:Nat}(h:a<=xs.length):cutD xs vG (vF (a:Int))=xs.take a:=by
 have:=(Pk xs.length (a:Int)).1;have e:HT.sIx xs.length xs.length (vF (a:Int))=a:=by lia
 unfold cutD;rw[e];simp[HT.sIx]
def amd(c x y:Int):Int:=x+c*48271%2147483647%(y-x+1)
theorem Zi(h:x<=y):x<=amd c x y/\amd c x y<=y:=by unfold amd;have h1:=qT (c*48271%2147483647) (show y-x+1≠0 by lia);have h2:=jJ (c*48271%2147483647) (show 0<y-x+1 by lia);lia
theorem ZAN(h:x<=y)(G:DH):Io [.int c,.int x,.int y] G=.ok (.int (amd c x y)) G:=by
 have m:∀G,Aj (.int c) (.int 48271) G=.ok (.int (c*48271)) G:=λG=>Gz (by lia) (by lia)
 have hp:0<y-x+1:=by lia
 unfold Io ZE9;rw[Aw];simp[m,hp,amd,Be]
def lvA(f:Nat->Int)(B:Nat)(lv lv':Nat->Int)(k:Nat):Int:=amd (f (B+k)) (lv k) (lv' k)
def coA(f:Nat->Int)(B:Nat)(co co':Nat->Nat->Int)(k j:Nat):Int:=amd (f (B+k)+(j:Int)*j) (co k j) (co' k j)
def flA(f:Nat->Int)(B n:Nat)(fl fl':Nat->Nat->Int)(i k:Nat):Int:=amd (f (B+i*n+k)) (fl i k) (fl' i k)
section
variable{ns:List Int}{f:Nat->Int}{h:Hs}
theorem ZPf(hf:Cf ns f){n:Nat}(hn:n<=12)(hB:B<=500)(h1:∀k,k<n->lv k<=lv' k)(h2:∀k j,k<n->j<5->co k j<=co' k j){k:Nat}(hk:k<n){x7:Option D}(G:DH):
  Om [zN ns,zI B,vF (stD n lv co),vF (stD n lv' co'),zR G.length,zR (G.length+1),zI k,x7] (G++[.lst (tab k (lvA f B lv lv')),.lst (Am k (coA f B co co'))])=
   .nx [zN ns,zI B,vF (stD n lv co),vF (stD n lv' co'),zR G.length,zR (G.length+1),zI k,zI (f (B+k))] (G++[.lst (tab (k+1) (lvA f B lv lv')),.lst (Am (k+1) (coA f B co co'))]):=by
 have hc:∀G,Bc [nD ns,.int ((B:Int)+(k:Int))] G=.ok (.int (f (B+k))) G:=λG=>by have:=hf (B+k) (by lia) G;rwa[show((B+k:Nat):Int)=(B:Int)+k by lia]at this
 have al:atI (tab n lv) (k:Int)=zI (lv k):=Dy hk;have al':atI (tab n lv') (k:Int)=zI (lv' k):=Dy hk;have ar:atI (Am n co) (k:Int)=zT (tab 5 (co k)):=Zj hk;have ar':atI (Am n co') (k:Int)=zT (tab 5 (co' k)):=Zj hk;have a1:∀G,Io [.int (f (B+k)),.int (lv k),.int (lv' k)] G=.ok (.int (lvA f B lv lv' k)) G:=λG=>ZAN (h1 k hk) G
 have cp:∀G,Ck (gV 0) Bd ZBe [vG,vF (stD n lv co),vF (stD n lv' co'),zI k,zI (f (B+k))] (Bh 0 5) G=.ok (tab 5 (coA f B co co' k)) G:=λG=>Kl (F:=λj=>.int (coA f B co co' k j)) λj hj=>by
  have b1:atI (tab 5 (co k)) (j:Int)=zI (co k j):=Dy hj;have b2:atI (tab 5 (co' k)) (j:Int)=zI (co' k j):=Dy hj;have mj:∀G,Aj (.int (j:Int)) (.int (j:Int)) G=.ok (.int ((j:Int)*j)) G:=λG=>Fj (by lia) (by lia)
  have a2:∀G,Io [.int (f (B+k)+(j:Int)*j),.int (co k j),.int (co' k j)] G=.ok (.int (coA f B co co' k j)) G:=λG=>ZAN (h2 k j hk hj) G
  unfold ZBe stD;simp[mj,ar,ar',b1,b2,a2]
 have fz:∀ds ds':List D,freeze (G++[.lst ds,.lst ds']) (.ok (.ref (G.length+2)) (G++[.lst ds,.lst ds',.lst (tab 5 (coA f B co co' k))]))=.ok (.fl (tab 5 (coA f B co co' k))) (G++[.lst ds,.lst ds']):=λds ds'=>ZEm λ_=>Hc
 have hl1:k<1000000:=by lia
 have cs:∀a b c d e f' g h:Option D,Ay 1 [2,3,6,7] [a,b,c,d,e,f',g,h]=[vG,c,d,g,h]:=λ_ _ _ _ _ _ _ _=>rfl
 have g0:∀a b:DO,(G++[a,b])[G.length]?=vF a:=λa b=>by simp
 have g1:∀a b:DO,(G++[a,b])[G.length+1]?=vF b:=λa b=>by simp
 have s0:∀a b c:DO,(G++[a,b]).set G.length c=G++[c,b]:=λa b c=>by simp
 have s1:∀a b c:DO,(G++[a,b]).set (G.length+1) c=G++[a,c]:=λa b c=>by simp
 have t1:=Z6 (k:=k) (F:=lvA f B lv lv');have t2:=ZDM (k:=k) (co:=coA f B co co');have et:∀ds:List D,Dj [.fl ds]=λG=>.ok (.tup ds) G:=λds=>rfl
 have hT5:(tab 5 (coA f B co co' k)).length<=1000000:=by simp
 generalize tab 5 (coA f B co co' k)=T5 at cp fz t2 hT5;generalize tab (k+1) (lvA f B lv lv')=TL at t1;generalize Am (k+1) (coA f B co co')=RL at t2;have e0:∀G,Ad (stD n lv co) (.int 0) G=.ok (.tup (tab n lv)) G:=λG=>by unfold stD;simp
 have e0':∀G,Ad (stD n lv' co') (.int 0) G=.ok (.tup (tab n lv')) G:=λG=>by unfold stD;simp
 have hr5:inR 5:=Ed (by lia) (by lia);unfold Om;simp[hT5,hc,e0,e0',al,al',a1,g0,g1,s0,s1,hl1,t1,cs,cp,fz,et,t2,hr5]
theorem ZFJ(hf:Cf ns f){n:Nat}(hn:n<=12)(hB:B<=500)(h1:∀k,k<n->lv k<=lv' k)(h2:∀k j,k<n->j<5->co k j<=co' k j)(G:DH):∀(m k:Nat)(x6 x7:Option D),k+m=n->∃y6 y7,
  Aq (gV 6) Om (Bh k m) [zN ns,zI B,vF (stD n lv co),vF (stD n lv' co'),zR G.length,zR (G.length+1),x6,x7] (G++[.lst (tab k (lvA f B lv lv')),.lst (Am k (coA f B co co'))])=
   .nx [zN ns,zI B,vF (stD n lv co),vF (stD n lv' co'),zR G.length,zR (G.length+1),y6,y7] (G++[.lst (tab n (lvA f B lv lv')),.lst (Am n (coA f B co co'))])
 |0,k,x6,x7,e=>by
  have e1:k=n:=by lia
  subst e1;exact⟨x6,x7,by rw[H9,Cm]⟩
 |m+1,k,x6,x7,e=>by
  have hb:=ZPf hf hn hB h1 h2 (k:=k) (by lia) (x7:=x7) G;obtain⟨y6,y7,ih⟩:=ZFJ hf hn hB h1 h2 G m (k+1) (zI k) (zI (f (B+k))) (by lia);refine⟨y6,y7,?_⟩;rw[Ge,Bu];simp only[Cg,R.Cd,qx,hb,Cq];have e1:((k:Int)+1)=((k+1:Nat):Int):=by lia
  rw[e1,ih]
theorem ZPP(hf:Cf ns f){n:Nat}(hn:n<=12)(hB:B<=500)(h1:∀k,k<n->lv k<=lv' k)(h2:∀k j,k<n->j<5->co k j<=co' k j)(G:DH):
  Uu [nD ns,.int B,stD n lv co,stD n lv' co'] G=.ok (stD n (lvA f B lv lv') (coA f B co co')) G:=by
 obtain⟨y6,y7,hL⟩:=ZFJ hf hn hB h1 h2 G n 0 vG vG (by lia);have hL':Aq (gV 6) Om (Bh 0 n) [zN ns,zI B,vF (stD n lv co),vF (stD n lv' co'),zR G.length,zR (G.length+1),vG,vG] (G++[.lst [],.lst []])=_:=hL;have hr:inR (n:Int):=Ed (by lia) (by lia);have e0:∀G,Ad (stD n lv co) (.int 0) G=.ok (.tup (tab n lv)) G:=λG=>by unfold stD;simp
 have g0:∀a b:DO,(G++[a,b])[G.length]?=vF a:=λa b=>by simp
 have g1:∀a b:DO,(G++[a,b])[G.length+1]?=vF b:=λa b=>by simp
 have td:∀x:List D,tidy (G++[DO.lst x]) (.ok (.ref (G.length+1)) (G++[DO.lst x,DO.lst []]))=.ok (.ref (G.length+1)) (G++[DO.lst x,DO.lst []]):=λx=>by have:=Dr (G:=G++[DO.lst x]) (ds:=[]) (L:=[]);simpa using this
 have es:stD n (lvA f B lv lv') (coA f B co co')=.tup [.tup (tab n (lvA f B lv lv')),.tup (Am n (coA f B co co'))]:=rfl;have bs:bel G.length (stD n (lvA f B lv lv') (coA f B co co'))=vH:=Ma;rw[es]at bs⊢;unfold Uu ZGV;rw[Aw];simp[Ah,Dr,td,e0,hr,hL',g0,g1,An,Li,bs]
theorem ZLt(hf:Cf ns f){n:Nat}(hn:n<=12)(hB:B<=500)(ht:t<=6)(hi:i<t)(h1:∀i k,k<n->fl i k<=fl' i k){k:Nat}(hk:k<n){s4 x8:Option D}(G:DH):
  O2 [zN ns,zI B,zF (Af n ((zQ t).map fl)),zF (Af n ((zQ t).map fl')),s4,zI i,zR G.length,zI k,x8] (G++[.lst (tab k (flA f B n fl fl' i))])=
   .nx [zN ns,zI B,zF (Af n ((zQ t).map fl)),zF (Af n ((zQ t).map fl')),s4,zI i,zR G.length,zI k,zI (f (B+i*n+k))] (G++[.lst (tab (k+1) (flA f B n fl fl' i))]):=by
 have hin:i*n<=6*12:=jP (by lia) hn;have hc:∀G,Bc [nD ns,.int ((B:Int)+(i:Int)*n+(k:Int))] G=.ok (.int (f (B+i*n+k))) G:=λG=>by have:=hf (B+i*n+k) (by lia) G;rwa[show((B+i*n+k:Nat):Int)=(B:Int)+(i:Int)*n+k by rw[j4,j4,Int.natCast_mul]]at this
 have mi:∀G,Aj (.int (i:Int)) (.int (n:Int)) G=.ok (.int ((i:Int)*n)) G:=λG=>Fj (by lia) (by lia)
 have af:atI (Af n ((zQ t).map fl)) (i:Int)=zT (tab n (fl i)):=Dg rfl (by simp[Af,hi]);have af':atI (Af n ((zQ t).map fl')) (i:Int)=zT (tab n (fl' i)):=Dg rfl (by simp[Af,hi]);have al:atI (tab n (fl i)) (k:Int)=zI (fl i k):=Dy hk;have al':atI (tab n (fl' i)) (k:Int)=zI (fl' i k):=Dy hk;have a1:∀G,Io [.int (f (B+i*n+k)),.int (fl i k),.int (fl' i k)] G=.ok (.int (flA f B n fl fl' i k)) G:=λG=>ZAN (h1 i k hk) G
 have hl1:k<1000000:=by lia
 have t1:=Z6 (k:=k) (F:=flA f B n fl fl' i);generalize tab (k+1) (flA f B n fl fl' i)=TL at t1;generalize Af n ((zQ t).map fl)=X at af;generalize Af n ((zQ t).map fl')=X' at af';unfold O2;simp[af,af',mi,hc,al,al',a1,Cw,Dz,hl1,t1]
theorem ZEf(hf:Cf ns f){n:Nat}(hn:n<=12)(hB:B<=500)(ht:t<=6)(hi:i<t)(h1:∀i k,k<n->fl i k<=fl' i k){s4:Option D}(G:DH):∀(m k:Nat)(x7 x8:Option D),k+m=n->∃y7 y8,
  Aq (gV 7) O2 (Bh k m) [zN ns,zI B,zF (Af n ((zQ t).map fl)),zF (Af n ((zQ t).map fl')),s4,zI i,zR G.length,x7,x8] (G++[.lst (tab k (flA f B n fl fl' i))])=
   .nx [zN ns,zI B,zF (Af n ((zQ t).map fl)),zF (Af n ((zQ t).map fl')),s4,zI i,zR G.length,y7,y8] (G++[.lst (tab n (flA f B n fl fl' i))])
 |0,k,x7,x8,e=>by
  have e1:k=n:=by lia
  subst e1;exact⟨x7,x8,by rw[H9,Cm]⟩
 |m+1,k,x7,x8,e=>by
  have hb:=ZLt hf hn hB ht hi h1 (k:=k) (by lia) (s4:=s4) (x8:=x8) G;obtain⟨y7,y8,ih⟩:=ZEf hf hn hB ht hi h1 (s4:=s4) G m (k+1) (zI k) (zI (f (B+i*n+k))) (by lia);refine⟨y7,y8,?_⟩;rw[Ge,Bu];simp only[Cg,R.Cd,qx,hb,Cq];have e1:((k:Int)+1)=((k+1:Nat):Int):=by lia
  rw[e1,ih]
theorem ZHW(hf:Cf ns f){n:Nat}(hn:n<=12)(hB:B<=500)(ht:t<=6)(h1:∀i k,k<n->fl i k<=fl' i k)(G:DH):∀(m i:Nat)(L:DH)(x5 x6 x7 x8:Option D),i+m=t->∃L' y5 y6 y7 y8,
  Aq (gV 5) Pg (Bh i m) [zN ns,zI B,zF (Af n ((zQ t).map fl)),zF (Af n ((zQ t).map fl')),zR G.length,x5,x6,x7,x8] (G++ .lst (Af n ((zQ i).map (flA f B n fl fl')))::L)=
   .nx [zN ns,zI B,zF (Af n ((zQ t).map fl)),zF (Af n ((zQ t).map fl')),zR G.length,y5,y6,y7,y8] (G++ .lst (Af n ((zQ t).map (flA f B n fl fl')))::L')
 |0,i,L,x5,x6,x7,x8,e=>by
  have e1:i=t:=by lia
  subst e1;exact⟨L,x5,x6,x7,x8,by rw[H9,Cm]⟩
 | m+1,i,L,x5,x6,x7,x8,e=>by
  have hi:i<t:=by lia
  obtain⟨z7,z8,hb⟩:=ZEf hf hn hB ht hi h1 (s4:=zR G.length) (G++ .lst (Af n ((zQ i).map (flA f B n fl fl')))::L) n 0 x7 x8 (by lia);obtain⟨L',y5,y6,y7,y8,ih⟩:=ZHW hf hn hB ht h1 G m (i+1) (L++[.lst (tab n (flA f B n fl fl' i))]) (zI i) (zR (G++ .lst (Af n ((zQ i).map (flA f B n fl fl')))::L).length) z7 z8 (by lia);refine⟨L',y5,y6,y7,y8,?_⟩;have ea:Af n ((zQ i).map (flA f B n fl fl'))++[.tup (tab n (flA f B n fl fl' i))]=Af n ((zQ (i+1)).map (flA f B n fl fl')):=by simp[Af,j3]
  have la:(Af n ((zQ i).map (flA f B n fl fl'))).length<1000000:=by simp[Af];lia
  have af:atI (Af n ((zQ t).map fl)) (i:Int)=zT (tab n (fl i)):=Dg rfl (by simp[Af,hi]);have hr:inR (n:Int):=Ed (by lia) (by lia);have hb':Aq (gV 7) O2 (Bh 0 n) _ ((G++ .lst (Af n ((zQ i).map (flA f B n fl fl')))::L)++[.lst []])=_:=hb;have bd:Pg [zN ns,zI B,zF (Af n ((zQ t).map fl)),zF (Af n ((zQ t).map fl')),zR G.length,zI i,x6,x7,x8] (G++ .lst (Af n ((zQ i).map (flA f B n fl fl')))::L)=
    .nx [zN ns,zI B,zF (Af n ((zQ t).map fl)),zF (Af n ((zQ t).map fl')),zR G.length,zI i,zR (G++ .lst (Af n ((zQ i).map (flA f B n fl fl')))::L).length,z7,z8] (G++ .lst (Af n ((zQ (i+1)).map (flA f B n fl fl')))::(L++[.lst (tab n (flA f B n fl fl' i))])):=by
   have gc:((G++ .lst (Af n ((zQ i).map (flA f B n fl fl')))::L)++[DO.lst (tab n (flA f B n fl fl' i))])[G.length]?=vF (.lst (Af n ((zQ i).map (flA f B n fl fl')))):=by simp
   have gs:((G++ .lst (Af n ((zQ i).map (flA f B n fl fl')))::L)++[DO.lst (tab n (flA f B n fl fl' i))]).set G.length (.lst (Af n ((zQ (i+1)).map (flA f B n fl fl'))))=G++ .lst (Af n ((zQ (i+1)).map (flA f B n fl fl')))::(L++[.lst (tab n (flA f B n fl fl' i))]):=by simp
   rw[<-gs];generalize Af n ((zQ i).map (flA f B n fl fl'))=AC at*;generalize Af n ((zQ (i+1)).map (flA f B n fl fl'))=AD at*;generalize hG1:G++DO.lst AC::L=G1 at*;have tn:tidy G1 (.ok (.ref G1.length) (G1++[.lst []]))=.ok (.ref G1.length) (G1++[.lst []]):=Dr rfl;have gl:(G1++[DO.lst (tab n (flA f B n fl fl' i))])[G1.length]?=vF (.lst (tab n (flA f B n fl fl' i))):=by simp
   have lt:(tab n (flA f B n fl fl' i)).length<=1000000:=by simp;lia
   generalize tab n (flA f B n fl fl' i)=TB at*;generalize Af n ((zQ t).map fl)=X at*;generalize Af n ((zQ t).map fl')=X' at*;unfold Pg;simp[Ah,tn,af,hr,hb',gl,gc,la,ea,lt]
  rw[Ge,Bu];simp only[Cg,R.Cd,qx,bd,Cq];have e1:((i:Int)+1)=((i+1:Nat):Int):=by lia
  rw[e1,ih]
theorem ZT0(hf:Cf ns f){n:Nat}(hn:n<=12)(hB:B<=500)(ht:t<=6)(h1:∀i k,k<n->fl i k<=fl' i k)(G:DH):
  freeze G (S8 [nD ns,.int B,.fl (Af n ((zQ t).map fl)),.fl (Af n ((zQ t).map fl'))] G)=.ok (.fl (Af n ((zQ t).map (flA f B n fl fl')))) G:=by
 obtain⟨L',y5,y6,y7,y8,hL⟩:=ZHW hf hn hB ht h1 G t 0 [] vG vG vG vG (by lia);have hL':Aq (gV 5) Pg (Bh 0 t) [zN ns,zI B,zF (Af n ((zQ t).map fl)),zF (Af n ((zQ t).map fl')),zR G.length,vG,vG,vG,vG] (G++[.lst []])=_:=hL;have hr:inR (t:Int):=Ed (by lia) (by lia);have lf:(Af n ((zQ t).map fl)).length=t:=by simp[Af]
 have td:=Dr (G:=G) (ds:=Af n ((zQ t).map (flA f B n fl fl'))) (L:=L') Ut;have fz:=Dk (G:=G) (ds:=Af n ((zQ t).map (flA f B n fl fl'))) (L:=[]) Ut;generalize Af n ((zQ t).map (flA f B n fl fl'))=FA at*;generalize Af n ((zQ t).map fl)=X at*;generalize Af n ((zQ t).map fl')=X' at*;unfold S8 ZEC;rw[Aw];simp[Ah,Dr,lf,hr,hL',td,fz]
end
theorem ZD8{b:Bool}:∀(r:List Int)(y x:Int),x∈y::r->byd b x (Ce b r y)=vI
 |[],y,x,h=>by
  have:x=y:=by simpa using h
  subst this;unfold Ce byd
  cases b<;>simp
 | z::r,y,x,h=>by
  rw[ZTz];have tr:∀u v w:Int,byd b u v=vI->byd b v w=vI->byd b u w=vI:=λu v w h1 h2=>by
   unfold byd at h1 h2⊢
   cases b<;>simp at h1 h2⊢<;> lia
  have sel:=λx hx=>ZD8 (b:=b) r (if byd b z y=vH then z else y) x hx
  have s0:=sel _ (zW);rcases zq.mp h with rfl|h
  ·cases e:byd b z x with
   |true=>
    rw[e]at s0;simp only[if_true]at s0⊢;refine tr x z _ ?_ s0;unfold byd at e⊢
    cases b<;>simp at e⊢<;> lia
   |false=>
    rw[e]at s0;simpa using s0
  ·rcases zq.mp h with rfl|h
   ·cases e:byd b x y with
    |true=>
     rw[e]at s0;simpa using s0
    |false=>
     rw[e]at s0;simp only[jZ,if_false]at s0⊢;exact tr x y _ e s0
   ·exact sel x (zZ _ h)
theorem ZFA{m:Int}:∀{xs:List Int}{k:Nat},Fo b m xs k=vG->∀x∈xs,byd b x m=vI
 |[],k,_,x,h=>by cases h
 | y::r,k,e,x,h=>by
  unfold Fo at e;cases eb:byd b y m with
  |true=>rw[eb,if_pos rfl]at e;cases e
  |false=>
   rw[eb,if_neg (by simp)]at e;rcases zq.mp h with rfl|h
   ·exact eb
   ·exact ZFA e x h
theorem ZDZ{m:Int}:∀{xs:List Int}{k i:Nat}{x:Int},Fo b m xs k=vF (i,x)->k<=i/\i<k+xs.length/\xs[i-k]?=vF x/\byd b x m=vH/\∀y∈xs.take (i-k),byd b y m=vI
 |[],k,i,x,h=>by cases h
 | y::r,k,i,x,h=>by
  unfold Fo at h;cases eb:byd b y m with
  |true=>
   rw[eb,if_pos rfl]at h;cases h;exact⟨zK _,by rw[qQ];lia,by simp,eb,by simp⟩
  |false=>
   rw[eb,if_neg (by simp)]at h;obtain⟨h1,h2,h3,h4,h5⟩:=ZDZ h;have e:i-k=(i-(k+1))+1:=by lia
   refine⟨by lia,by rw[qQ];lia,by rw[e,jx];exact h3,h4,λz hz=>?_⟩;rw[e,List.take_succ_cons]at hz;rcases zq.mp hz with rfl|hz
   ·exact eb
   ·exact h5 z hz
def LeL:List Int->List Int->Prop
 |[],[]=>True
 |x::r,y::s=>x<=y/\LeL r s
 |_,_=>False
theorem LeL.up:∀{xs ys:List Int}{m:Int},LeL xs ys->(∀x∈xs,m<=x)->∀y∈ys,m<=y
 |[],[],_,_,_,y,h=>by cases h
 |x::r,z::s,m,h,hx,y,hy=>by
  rcases zq.mp hy with rfl|hy
  ·exact jv (hx x (by simp)) h.1
  ·exact LeL.up h.2 (λx hx'=>hx x (zZ _ hx')) y hy
 |[],_::_,_,h,_,_,_=>h.elim
 |_::_,[],_,h,_,_,_=>h.elim
theorem LeL.down:∀{xs ys:List Int}{m:Int},LeL xs ys->(∀y∈ys,y<=m)->∀x∈xs,x<=m
 |[],[],_,_,_,y,h=>by cases h
 |x::r,z::s,m,h,hx,y,hy=>by
  rcases zq.mp hy with rfl|hy
  ·exact jv h.1 (hx z (by simp))
  ·exact LeL.down h.2 (λx hx'=>hx x (zZ _ hx')) y hy
 |[],_::_,_,h,_,_,_=>h.elim
 |_::_,[],_,h,_,_,_=>h.elim
theorem Vv{c:Nat}(hp:p<h.n)(h1:1<=c)(h2:c<=5)(hk:c≠1->(h.pl p).kd.isB=vH):∀{P P':List (Nat->List Int)},MoreL h P P'->LeL (Ea P p c) (Ea P' p c)
 |[],[],_=>trivial
 |q::P,q'::P',m=>by
  refine⟨?_,Vv hp h1 h2 hk m.2⟩;rcases(by lia:c=1∨c=2∨c=3∨c=4∨c=5)with rfl|rfl|rfl|rfl|rfl
  ·exact m.1.took p hp
  ·exact(m.1.basin p hp (hk (by lia))).1
  ·exact(m.1.basin p hp (hk (by lia))).2.1
  ·exact(m.1.basin p hp (hk (by lia))).2.2
  ·exact m.1.lies p hp
 |[],_::_,m=>m.elim
 |_::_,[],m=>m.elim
theorem ZTG(h:if b=vH then LeL (x::r) ys else LeL ys (x::r)):∀y∈ys,byd b y (Ce b r x)=vI:=by
 have ba:=ZD8 (b:=b) r x;intro y hy;cases b with
 |true=>
  have:=LeL.up (m:=Ce vH r x) (by simpa using h) (λz hz=>by have:=ba z hz;unfold byd at this;simpa using this) y hy
  unfold byd;simp;lia
 |false=>
  have:=LeL.down (m:=Ce vI r x) (by simpa using h) (λz hz=>by have:=ba z hz;unfold byd at this;simpa using this) y hy
  unfold byd;simp;lia
def clm:List (Str×D):=[("took",.int 1),("spilled",.int 2),("let",.int 3),("pumped",.int 4),("lies",.int 5)]
theorem ZUQ{c:Nat}(h1:1<=c)(h2:c<=5):Gb (Ga [] (clm.map λkv=>(.inr kv.1,kv.2))) (.inr (wt c))=zI c:=five (P:=λc=>Gb (Ga [] (clm.map λkv=>(.inr kv.1,kv.2))) (.inr (wt c))=zI c) h1 h2 rfl rfl rfl rfl rfl
theorem ZMw{c:Nat}(h1:1<=c)(h2:c<=5)(G:DH):Ry [.str (wt c)] G=.ok (.int c) G:=by unfold Ry ZHf;rw[Aw];exact ZHJ (kvs:=clm) (ZUQ h1 h2) rfl
theorem ZCS(po:∀pg∈pgs,Row6 h pg){c:Nat}(hp:p<h.n)(h1:1<=c)(h2:c<=5){m:Int}(G:DH):
  Ck (gV 0) Bd Um [vG,vF (Bq c p b m)] (pgs.map (pgD h.n)) G=.ok ((Ea pgs p c).map D.int) G:=by
 have:=Jo (te:=Um) (S:=[vG,vF (Bq c p b m)]) (E:=pgD h.n) (F:=λpg=>.int ((pg p).getD c 0)) (G:=G) (l:=pgs) λpg hpg=>by obtain⟨t,e1,e2⟩:=ZC3 (po pg hpg) hp h1 h2 G;unfold Um pgD Bq;simp[e1,e2,ZMw h1 h2]
 rw[this,Ea,qP]
 rfl
theorem U5{c:Nat}{m:Int}(G:DH):Lf [Bq c p b m,.int x,.int y] G=.ok (.bl (byd b x y)) G:=by
 have ea:Bq c p b m=.tup [.str (wt c),.int p,.str (snT b),.int m]:=rfl;unfold Lf ZIi;rw[Aw]
 cases b<;>simp[ea,V6,byd,Be]
theorem ZI0{q:Int->Bool}(h:∀y∈ys,te (S.set 0 (zI y)) G=.ok (.bl (q y)) G):Ck (gV 0) Bd te S (ys.map D.int) G=.ok ((ys.map q).map D.bl) G:=by
 rw[Jo (E:=D.int) (F:=λy=>.bl (q y)) (l:=ys) h,qP]
 rfl
theorem ZID{q:Int->Bool}(h:∀y∈ys,q y=vI):(ys.map q).any id=vI:=by rw[List.any_eq_false];intro z hz;obtain⟨y,hy,rfl⟩:=zO.mp hz;simp[h y hy]
section
variable{c p:Nat}{b:Bool}{m:Int}{s0 s1 s2 s3 s5 s6 s9 s10:Option D}{G:DH}{fl:List D}
theorem ZKt(hF:Fo b m xs 0=vF (i,x))(hl:xs.length=fl.length)(hx:xs.length<=1000):
  Ku [s0,s1,s2,s3,zF fl,s5,s6,vF (Bq c p b m),zT [.str "broken",.int i,.int x],s9,s10,zF (xs.map D.int)] G=.rt (.bl vH) G:=by
 obtain⟨_,h2,h3,h4,h5⟩:=ZDZ hF;rw[Nat.sub_zero]at h3 h5;have hi:i<xs.length:=by lia
 have ax:atI (xs.map D.int) (i:Int)=zI x:=Dg rfl (by rw[zx,h3];rfl);have a3:∀G,Ad (Bq c p b m) (.int 3) G=.ok (.int m) G:=λG=>rfl
 have cut:cutD (xs.map D.int) vG (vF (i:Int))=(xs.take i).map D.int:=by rw[List.map_take];exact ZMT (by simp;lia)
 have cp:=ZI0 (te:=ZAK) (S:=[vG,vF (Bq c p b m)]) (ys:=xs.take i) (q:=λy=>byd b y m) (G:=G) λy _=>by unfold ZAK;simp[a3,U5]
 have ny:=ZID (ys:=xs.take i) (q:=λy=>byd b y m) h5;have fz:freeze G (.ok (.ref G.length) (G++[.lst ((xs.take i).map D.int)]))=.ok (.fl ((xs.take i).map D.int)) G:=Dk (Ec λ_ _=>rfl);have fz2:freeze G (.ok (.ref G.length) (G++[.lst (((xs.take i).map λy=>byd b y m).map D.bl)]))=.ok (.fl (((xs.take i).map λy=>byd b y m).map D.bl)) G:=Dk R4;have l3:((xs.take i).map λy=>byd b y m).length<=1000000:=by simp;lia
 have l4:((xs.take i).map D.int).length<=1000000:=by simp;lia
 have n1:¬("broken":Str)="kept":=by decide
 have hl':(xs.length:Int)=(fl.length:Int):=by lia
 have hi':(i:Int)<(fl.length:Int):=by lia
 have hib:i<fl.length:=by lia
 generalize(xs.take i).map (λy=>byd b y m)=ks at*;generalize(xs.take i).map D.int=TK at*;unfold Ku Ti Xu ZAY ZHh ZGm ZDG;simp[hl,hl',n1,ax,hi,hi',hib,cut,fz,Ay,cp,fz2,ny,a3,U5,h4,l3,l4]
theorem ZUb(hl:xs.length=0):Ku [s0,s1,s2,s3,zF [],s5,s6,vF (Bq c p b m),zT [.str "kept",.non,.non],s9,s10,zF (xs.map D.int)] G=.rt (.bl vH) G:=by have fz:freeze G (.ok (.ref G.length) (G++[.lst []]))=.ok (.fl []) G:=Dk rfl;have e:Bl (.fl []) (.fl []) G=.ok (.bl vH) G:=ZPK rfl;unfold Ku Ti;simp[hl,Ah,fz,e]
theorem ZOo{i:Int}(hF:Fo b m (x::r) 0=vG)(hl:ys.length=fl.length)(h0:fl≠[])(hx:ys.length<=1000)(far:∀y∈ys,byd b y (Ce b r x)=vI)(ne:∀G,Bl (.fl fl) (.fl []) G=.ok (.bl vI) G):
  Ku [s0,s1,s2,s3,zF fl,s5,s6,vF (Bq c p b m),zT [.str "kept",.int i,.int (Ce b r x)],s9,s10,zF (ys.map D.int)] G=.rt (.bl vH) G:=by
 have a3:∀G,Ad (Bq c p b m) (.int 3) G=.ok (.int m) G:=λG=>rfl
 have nb:=ZFA hF _ (ZIU (b:=b) (r:=r) (x:=x));have cp:=ZI0 (te:=ZAr) (S:=[vG,vF (Bq c p b m),zT [.str "kept",.int i,.int (Ce b r x)]]) (ys:=ys) (q:=λy=>byd b y (Ce b r x)) (G:=G) λy _=>by unfold ZAr;simp[U5]
 have ny:=ZID (ys:=ys) (q:=λy=>byd b y (Ce b r x)) far;have fz:freeze G (.ok (.ref G.length) (G++[.lst []]))=.ok (.fl []) G:=Dk rfl;have fz2:freeze G (.ok (.ref G.length) (G++[.lst ((ys.map λy=>byd b y (Ce b r x)).map D.bl)]))=.ok (.fl ((ys.map λy=>byd b y (Ce b r x)).map D.bl)) G:=Dk R4;have l3:(ys.map λy=>byd b y (Ce b r x)).length<=1000000:=by simp;lia
 have hl':(ys.length:Int)=(fl.length:Int):=by lia
 have hyl:ys.length<=1000000:=by lia
 have hfl:fl.length<=1000000:=by lia
 generalize ys.map (λy=>byd b y (Ce b r x))=ks at*;unfold Ku Ti Xu ZAY;simp[hl,hl',Ah,fz,ne,a3,U5,nb,Ay,cp,fz2,ny,l3,hyl,hfl]
end
theorem ZBg{n:Nat}{F F':Nat->Nat->Int}(h:∀i k,k<n->F i k<=F' i k):∀l:List Nat,LeF n (l.map F) (l.map F')
 |[]=>trivial
 |i::l=>⟨λk hk=>h i k hk,ZBg h l⟩
theorem ZRO(hl:ns.length<=63)(G:DH):Ls [nD ns] G=.ok (.bl vH) G:=by
 obtain⟨f,hf⟩:=cells hl;obtain⟨u,hu1,cu⟩:=ZQB hf;have hu:0<u:=by lia
 obtain⟨yr,hyr,cy⟩:=ZTO hf;obtain⟨h,hT,ch⟩:=ZSt hf hyr cy hu cu;have g:=hT.good;have hn:=g.len;obtain⟨a,ha,ca⟩:=ZUF hf;obtain⟨t,ht1,ht2,et⟩:∃t:Nat,6+14*h.n+t*h.n<=1000/\t<=6/\(t:Int)=f 2%7:=by
  have h6:(f 2%7).toNat<=6:=by lia
  have hm:=jP h6 hn;exact⟨(f 2%7).toNat,by lia,by lia,by lia⟩
 have cs:=ZOx hf hu cu g;have cf:=ZMP hf hu cu g ht1 (by lia);have f2:∀G,Bc [nD ns,.int 2] G=.ok (.int (f 2)) G:=hf 2 (by lia);have hbr:∀k b r q,k<h.n->(h.pl k).kd=.basin b r q->lvS h f u k<=b:=λk b r q hk e=>(ZBf g hk).2.1 b r q e
 have cm:=ZTY hf hu cu g (lv:=lvS h f u) (co:=coS h f u) hbr (fl:=flS h.n f u) ht2;have so:StOk h (lvS h f u) (coS h f u):=⟨λk hk=>(ZBf g hk).1,λk hk=>(ZBf g hk).2.2,λk j _ _=>ZRq hu k j⟩;have so':=ZRv (f:=f) hu so hbr;have hlv:∀k,k<h.n->lvS h f u k<=lvM h f u (lvS h f u) k:=λk hk=>ZGC hbr hk
 have hco:∀k j,k<h.n->j<5->coS h f u k j<=coM h f u (coS h f u) k j:=λk j _ _=>ZJU hu k j
 have hfl:∀i k,k<h.n->flS h.n f u i k<=flM h f u (flS h.n f u) i k:=λi k _=>ZQe hu i k
 have fn0:∀i k,0<=flS h.n f u i k:=λi k=>ZPj hu i k
 generalize lvM h f u (lvS h f u)=lv' at*;generalize coM h f u (coS h f u)=co' at*;generalize flM h f u (flS h.n f u)=fl' at*;generalize lvS h f u=lv at*;generalize coS h f u=co at*;generalize flS h.n f u=fl at*;have u1:(leN h.n lv lv'&&leR 5 h.n co co')=vH:=by
  rw[ZH6 hlv,ZD3 λi hi k hk=>hco i k hi hk]
  rfl
 have u2:(decide (((zQ t).map fl).length=((zQ t).map fl').length)&&leR h.n ((zQ t).map fl).length (λi=>((zQ t).map fl).getD i λ_=>0) λi=>((zQ t).map fl').getD i λ_=>0)=vH:=by
  rw[ZD3 λi hi k hk=>?_]
  ·simp
  ·have hi:i<t:=by simpa using hi
   rw[ZE1 hi,ZE1 hi];exact hfl i k hk
 have hfn:∀x∈(zQ t).map fl,∀k,k<h.n->0<=x k:=λx hm k _=>by obtain⟨i,_,rfl⟩:=zO.mp hm;exact fn0 i k
 have hfn':∀x∈(zQ t).map fl',∀k,k<h.n->0<=x k:=λx hm k hk=>by obtain⟨i,_,rfl⟩:=zO.mp hm;exact jv (fn0 i k) (hfl i k hk)
 have l1:((zQ t).map fl).length=t:=by simp
 have l2:((zQ t).map fl').length=t:=by simp
 have cA:=ZPP hf hn (B:=6+32*h.n) (by lia) hlv hco;have cF:=ZT0 hf hn (B:=6+32*h.n+4) (by lia) ht2 hfl;have iA:∀k,k<h.n->lv k<=lvA f (6+32*h.n) lv lv' k/\lvA f (6+32*h.n) lv lv' k<=lv' k:=λk hk=>Zi (hlv k hk)
 have iC:∀k j,k<h.n->j<5->co k j<=coA f (6+32*h.n) co co' k j/\coA f (6+32*h.n) co co' k j<=co' k j:=λk j hk hj=>Zi (hco k j hk hj)
 have iF:∀i k,k<h.n->fl i k<=flA f (6+32*h.n+4) h.n fl fl' i k/\flA f (6+32*h.n+4) h.n fl fl' i k<=fl' i k:=λi k hk=>Zi (hfl i k hk)
 have soA:StOk h (lvA f (6+32*h.n) lv lv') (coA f (6+32*h.n) co co'):=⟨λk hk=>jv (so.lv0 k hk) (iA k hk).1,λk hk hB=>by have h1:=so.lvR k hk hB;have h2:=so'.lvR k hk hB;have h3:=iA k hk;lia,λk j hk hj=>jv (so.co0 k j hk hj) (iC k j hk hj).1⟩
 have hfA:∀x∈(zQ t).map (flA f (6+32*h.n+4) h.n fl fl'),∀k,k<h.n->0<=x k:=λx hm k hk=>by obtain⟨i,_,rfl⟩:=zO.mp hm;exact jv (fn0 i k) (iF i k hk).1
 have lA:((zQ t).map (flA f (6+32*h.n+4) h.n fl fl')).length=t:=by simp
 have fA:=ZBg (λi k hk=>(iF i k hk).1) (zQ t);have fB:=ZBg (λi k hk=>(iF i k hk).2) (zQ t);obtain⟨o,ho,cq⟩:=ZTs hf hu cu g hT.one;have e4:((6+32*h.n+4:Nat):Int)=((6+32*h.n:Nat):Int)+4:=by lia
 rw[e4]at cF;have m32:∀G,Aj (.int 32) (.int (h.n:Int)) G=.ok (.int (32*(h.n:Int))) G:=λG=>Fj (by lia) (by lia)
 have e6:(6+32*(h.n:Int))=((6+32*h.n:Nat):Int):=by lia
 generalize((6+32*h.n:Nat):Int)=BI at cA cF e6;generalize(zQ t).map (flA f (6+32*h.n+4) h.n fl fl')=flsA at*;generalize lvA f (6+32*h.n) lv lv'=lvA' at*;generalize coA f (6+32*h.n) co co'=coA' at*;generalize(zQ t).map fl'=fls' at*;generalize(zQ t).map fl=fls at*;have fz0:∀l:List (Nat->Int),freeze G (.ok (.ref G.length) (G++[.lst (Af h.n l)]))=.ok (.fl (Af h.n l)) G:=λl=>Dk Ut
 unfold Ls;rw[Aw];cases o with
 |none=>
  have fq:freeze G (.ok .non G)=.ok .non G:=Hl rfl;unfold M9 ZB9 ZA8 Ye ZCu ZAF ZBC;simp[ch,ca,cs,f2,<-et,cf,fz0,cm,cq,fq,Lj,Be]
 | some q=>
  obtain⟨c,p,b,m⟩:=q;obtain⟨h1,h2,hp,hk⟩:=ho c p b m rfl;have hkB:c≠1->(h.pl p).kd.isB=vH:=λz=>by unfold knT at hk;rw[if_neg z,Gu]at hk;exact hk
  have lk:=ZSR g (a:=a) (by lia) (by lia) hp h1 h2 hk (b:=b) (m:=m) u1 u2 so.co0 so'.co0 hfn hfn' G;have cr:=Tz g (s:=(lv,co)) (a:=a) (fls:=fls) (by lia) so.co0 hfn G;have cr':=Tz g (s:=(lv',co')) (a:=a) (fls:=fls') (by lia) so'.co0 hfn' G;have crA:=Tz g (s:=(lvA',coA')) (a:=a) (fls:=flsA) (by lia) soA.co0 hfA G;have ro:=run6 g fls (lv,co) a;have ro':=run6 g fls' (lv',co') a;have roA:=run6 g flsA (lvA',coA') a
  have m1:=Vv hp h1 h2 hkB (ZCs g fls flsA (lv,co) (lvA',coA') a so soA hfn hfA (λk hk=>(iA k hk).1) (λk j hk hj=>(iC k j hk hj).1) fA).1;have m2:=Vv hp h1 h2 hkB (ZCs g flsA fls' (lvA',coA') (lv',co') a soA so' hfA hfn' (λk hk=>(iA k hk).2) (λk j hk hj=>(iC k j hk hj).2) fB).1;have fr:=Ql (G:=G) (ds:=(h.Bt fls (lv,co) a).map (pgD h.n)) (e:=stD h.n (h.Em fls (lv,co) a).1 (h.Em fls (lv,co) a).2) Tu Ma
  have fr':=Ql (G:=G) (ds:=(h.Bt fls' (lv',co') a).map (pgD h.n)) (e:=stD h.n (h.Em fls' (lv',co') a).1 (h.Em fls' (lv',co') a).2) Tu Ma;have frA:=Ql (G:=G) (ds:=(h.Bt flsA (lvA',coA') a).map (pgD h.n)) (e:=stD h.n (h.Em flsA (lvA',coA') a).1 (h.Em flsA (lvA',coA') a).2) Tu Ma;have nc:=ZCS ro hp h1 h2 (b:=b) (m:=m) G;have nc':=ZCS ro' hp h1 h2 (b:=b) (m:=m) G;have ncA:=ZCS roA hp h1 h2 (b:=b) (m:=m) G
  have n1:(h.Bt fls (lv,co) a).length=t:=by rw[O3,l1]
  have n2:(h.Bt fls' (lv',co') a).length=t:=by rw[O3,l2]
  have nA:(h.Bt flsA (lvA',coA') a).length=t:=by rw[O3,lA]
  have fq:freeze G (.ok (Bq c p b m) G)=.ok (Bq c p b m) G:=Hl ZF6;have lfl:(Af h.n fls).length=t:=by rw[ZOR,l1]
  have qi:J6 (Bq c p b m)=vI:=rfl;have q2:∀G,Ad (Bq c p b m) (.int 2) G=.ok (.str (snT b)) G:=λG=>rfl
  have nk:∀G,Hz (.str "kept") (.tup [.str "kept",.str "broken"]) G=.ok (.bl vI) G:=λG=>rfl
  have nb:∀G,Hz (.str "broken") (.tup [.str "kept",.str "broken"]) G=.ok (.bl vI) G:=λG=>rfl
  have kb:¬("kept":Str)="broken":=by decide
  have len1:(Ea (h.Bt fls (lv,co) a) p c).length=t:=by simp[Ea,n1]
  have len2:(Ea (h.Bt fls' (lv',co') a) p c).length=t:=by simp[Ea,n2]
  have lenA:(Ea (h.Bt flsA (lvA',coA') a) p c).length=t:=by simp[Ea,nA]
  have b1:(h.Bt fls (lv,co) a).length<=1000000:=by lia
  have b2:(h.Bt fls' (lv',co') a).length<=1000000:=by lia
  have bA:(h.Bt flsA (lvA',coA') a).length<=1000000:=by lia
  have fzx:∀xs:List Int,freeze G (.ok (.ref G.length) (G++[.lst (xs.map D.int)]))=.ok (.fl (xs.map D.int)) G:=λxs=>Dk (Ec λ_ _=>rfl)
  have ht0:t=0->Af h.n fls=[]:=λz=>qM (by rw[lfl,z])
  have hfn0:t≠0->Af h.n fls≠[]:=λz w=>z (by rw[<-lfl,w];rfl)
  have hne:t≠0->∀G,Bl (.fl (Af h.n fls)) (.fl []) G=.ok (.bl vI) G:=λz G=>by
   have w:=hfn0 z;cases e:Af h.n fls with
   |nil=>exact absurd e w
   |cons d ds=>rfl
  generalize hA:Ea (h.Bt fls (lv,co) a) p c=X1 at*;generalize hB:Ea (h.Bt fls' (lv',co') a) p c=X2 at*;generalize hC:Ea (h.Bt flsA (lvA',coA') a) p c=XA at*;generalize hPA:(h.Bt flsA (lvA',coA') a).map (pgD h.n)=PA at*;generalize hP1:(h.Bt fls (lv,co) a).map (pgD h.n)=P1 at*;generalize hP2:(h.Bt fls' (lv',co') a).map (pgD h.n)=P2 at*;have lpA:PA.length<=1000000:=by rw[<-hPA];simpa using bA
  have lp1:P1.length<=1000000:=by rw[<-hP1];simpa using b1
  have lp2:P2.length<=1000000:=by rw[<-hP2];simpa using b2
  have pre:∀A:D,M8 [h.enc,stD h.n lv co,stD h.n lv' co',.int a,.fl (Af h.n fls),.fl (Af h.n fls'),Bq c p b m] G=.ok A G->M9 [zN ns,vG,vG,vG,vG,vG,vG,vG,vG,vG,vG,vG] G=
    Rk [zN ns,vF h.enc,zI a,vF (stD h.n lv co),zF (Af h.n fls),vF (stD h.n lv' co'),zF (Af h.n fls'),vF (Bq c p b m),vF A,vG,vG,vG] G:=λA lkA=>by
   unfold M9 ZB9 ZA8 Ye ZCu ZAF ZBC ZEc;simp[ch,ca,cs,f2,<-et,cf,fz0,cm,cq,fq,Lj,qi,lkA]
  have mid:∀(s:Str)(x y:D),(x=.non/\y=.non∨∃i j,x=.int i/\y=.int j)->Hz (.str s) (.tup [.str "kept",.str "broken"]) G=.ok (.bl vI) G->
    Rk [zN ns,vF h.enc,zI a,vF (stD h.n lv co),zF (Af h.n fls),vF (stD h.n lv' co'),zF (Af h.n fls'),vF (Bq c p b m),zT [.str s,x,y],vG,vG,vG] G=
    Ot [zN ns,vF h.enc,zI a,vF (stD h.n lv co),zF (Af h.n fls),vF (stD h.n lv' co'),zF (Af h.n fls'),vF (Bq c p b m),zT [.str s,x,y],zI BI,zF PA,vG] G:=λs x y hxy hni=>by
   have told:=ZQQ hxy (s:=s) G;unfold Rk ZJK ZDC;simp[told,hni,An,Cp,Hs.Hu,m32,e6,cA,cF,crA,frA]
  have fin:M9 [zN ns,vG,vG,vG,vG,vG,vG,vG,vG,vG,vG,vG] G=.rt (.bl vH) G:=by
   have far:∀(x:Int)(r:List Int),(if b=vH then X1 else X2)=x::r->∀y∈XA,byd b y (Ce b r x)=vI:=λx r e=>ZTG (by
    cases b with
    |true=>
     simp only[if_true]at e⊢;rw[<-e];exact m1
    |false=>
     simp only[jZ,if_false]at e⊢;rw[<-e];exact m2)
   have lk':M8 [h.enc,stD h.n lv co,stD h.n lv' co',.int a,.fl (Af h.n fls),.fl (Af h.n fls'),Bq c p b m] G=.ok (G8 b m (if b=vH then X1 else X2)) G:=by
    rw[lk];cases b with
    |true=>rw[<-hA];rfl
    |false=>rw[<-hB];rfl
   rw[pre _ lk']
   have lenX:(if b=vH then X1 else X2).length=t:=by cases b<;>assumption
   cases hF:Fo b m (if b=vH then X1 else X2) 0 with
   | some q=>
    obtain⟨i,x⟩:=q;have eA:G8 b m (if b=vH then X1 else X2)=.tup [.str "broken",.int i,.int x]:=by unfold G8;rw[hF]
    rw[eA,mid "broken" (.int i) (.int x) (.inr ⟨_,_,rfl,rfl⟩) (nb G)];have eb:=λ(P:D)=>ZKt (c:=c) (p:=p) (s0:=zN ns) (s1:=vF h.enc) (s2:=zI a) (s3:=vF (stD h.n lv co)) (s5:=vF (stD h.n lv' co')) (s6:=zF (Af h.n fls')) (s9:=zI BI) (s10:=vF P) (G:=G) (fl:=Af h.n fls) hF (by rw[lenX,lfl]) (by lia)
    unfold Ot Sg;cases b with
    |true=>
     simp only[if_true]at eb lenX;have lx:X1.length<=1000000:=by lia
     simp[cr,fr,q2,ZF1,lp1,Ay,nc,fzx,lx,eb]
    |false=>
     simp only[jZ,if_false]at eb lenX;have lx:X2.length<=1000000:=by lia
     simp[cr,fr,cr',fr',q2,ZF1,lp2,Ay,nc',fzx,lx,eb]
   | none=>
    have lxA:XA.length<=1000000:=by lia
    cases hX:(if b=vH then X1 else X2)with
    |nil=>
     have t0:t=0:=by rw[hX]at lenX;exact lenX.symm
     have eA:G8 b m []=.tup [.str "kept",.non,.non]:=rfl;have en:=ZUb (c:=c) (p:=p) (b:=b) (m:=m) (s0:=zN ns) (s1:=vF h.enc) (s2:=zI a) (s3:=vF (stD h.n lv co)) (s5:=vF (stD h.n lv' co')) (s6:=zF (Af h.n fls')) (s9:=zI BI) (s10:=zF PA) (G:=G) (xs:=XA) (by lia);rw[eA,mid "kept" .non .non (.inl ⟨rfl,rfl⟩) (nk G)];rw[ht0 t0];unfold Ot Sg;simp[kb,lpA,Ay,ncA,fzx,lxA,en]
    |cons x r=>
     have t0:t≠0:=by rw[hX]at lenX;simp at lenX;lia
     rw[hX]at hF;have eA:G8 b m (x::r)=.tup [.str "kept",.int ((x::r).idxOf (Ce b r x):Nat),.int (Ce b r x)]:=by unfold G8;rw[hF]
     have ek:=ZOo (c:=c) (p:=p) (s0:=zN ns) (s1:=vF h.enc) (s2:=zI a) (s3:=vF (stD h.n lv co)) (s5:=vF (stD h.n lv' co')) (s6:=zF (Af h.n fls')) (s9:=zI BI) (s10:=zF PA) (G:=G) (fl:=Af h.n fls) (i:=((x::r).idxOf (Ce b r x):Nat)) hF (by rw[lenA,lfl]) (hfn0 t0) (by lia) (far x r hX) (hne t0);rw[eA,mid "kept" (.int _) (.int _) (.inr ⟨_,_,rfl,rfl⟩) (nk G)];generalize Ce b r x=be at*;generalize(((x::r).idxOf be:Nat):Int)=ix at*
     unfold Ot Sg;simp[kb,lpA,Ay,ncA,fzx,lxA,ek]
  show tidy G ((M9 [zN ns,vG,vG,vG,vG,vG,vG,vG,vG,vG,vG,vG] G).ret)=_;rw[fin];simp[Be]
theorem holds:Holds:=λns hl=>⟨[],ZRO hl []⟩
end _W
namespace _W
open PySem _L _D
seal QE QT QA QS QSs QG QGs QI QTs QW QO
structure Txt (K:PySem.W.Frag) (mg:Str->Option xE):Prop where
 Xg:FT K mg "_law_amount" ZAv Z2
 X7:FT K mg "_law_off" Yl Yx
 ZAx:FT K mg "_law_tape" ZB8 ZCT
 ZAJ:FT K mg "_law_cell_at" ZAp Vz
 ZA5:FT K mg "_law_unit" ZBR Xr
 ZAo:FT K mg "_law_added" ZBm ZCm
 ZBp:FT K mg "_law_ask" ZCe ZCE
 ZA6:FT K mg "_law_beyond" ZB7 ZAb
 ZBD:FT K mg "_law_column" Xx Z0
 ZBl:FT K mg "_law_floods" W9 ZAW
 Wn:FT K mg "_law_amid" ZCq Zg
 Wf:FT K mg "_law_floods_amid" ZBS ZAf
 ZAq:FT K mg "_law_pumped" W2 Yt
 ZAh:FT K mg "_law_steps" ZAj ZBT
 Yd:FT K mg "_law_year" Wi Z1
 Vu:FT K mg "_law_rule" Yg ZAO
 Zd:FT K mg "_law_basin" ZCP Wl
 ZBx:FT K mg "_law_name" ZBK ZB3
 ZCH:FT K mg "_law_house" Xo ZBN
 Zk:FT K mg "_law_number" ZCW ZBI
 ZBB:FT K mg "_law_state" Wz ZBy
 W6:FT K mg "_law_state_amid" ZAg ZBu
 ZCA:FT K mg "_law_told" ZBA Zf
 ZBd:FT K mg "is_beyond" Ym ZBq
 X5:FT K mg "part_asked" Ww W8
 Wg:FT K mg "answered" ZAD ZAZ
 Zb:FT K mg "check_ask" ZA1 Z7
 Yo:FT K mg "none_above" Y5 Vo
 Yz:FT K mg "rows_under" ZBZ Wr
 Z4:FT K mg "under" ZCO Yu
 Zw:FT K mg "check_bounds" Zc Y6
 ZAz:FT K mg "looked_through" Zx ZBo
 Yw:MT K "Course" "__init__" "Course.__init__" ZBY ZCh
 Qi:MT K "Course" "send" "Course.send" ZBz ZAu
 ZBa:FT K mg "number_of" ZCg ZCM
 ZCl:FT K mg "down_of" ZAw Zh
 Qo:MT K "Course" "send_down" "Course.send_down" Wk ZAU
 ZAV:FT K mg "opened" ZAy Zu
 Ys:FT K mg "stairs_at" ZAe X8
 Uh:MT K "Course" "go_basin" "Course.go_basin" Wx ZCF
 Zq:FT K mg "passed" Vs Yj
 Ze:FT K mg "down_in_reach" Y8 ZAS
 ZBb:FT K mg "reach_rows" Xh ZAa
 Zz:FT K mg "served" Yi Y4
 Vx:FT K mg "way_down" ZCi ZA4
 W3:FT K mg "shares" ZCt Ws
 V9:MT K "Course" "go_reach" "Course.go_reach" ZCC Wu
 Xp:FT K mg "lasts_of_reaches" W5 Yp
 S6:MT K "Course" "go" "Course.go" ZAl ZAn
 Vi:MT K "Course" "state_behind" "Course.state_behind" ZBL Vt
 ZBn:FT K mg "turn" Z8 Xk
 ZAk:FT K mg "run" ZCy ZCa
 ZAQ:FT K mg "look" ZBt Zy
 S7:FT K mg "law" Hg ZBF
 Ep:CT K mg "Course"
 ZFB:NoAttr K (Bb K "Course") "came"
 ZJb:NoAttr K (Bb K "Course") "coming"
 ZDm:NoAttr K (Bb K "Course") "house"
 ZE3:NoAttr K (Bb K "Course") "levels"
 ZJi:NoAttr K (Bb K "Course") "page"
 ZEy:NoAttr K (Bb K "Course") "reaches"
 ZC4:NoAttr K (Bb K "Course") "year_turn"
 ZRx:mg "all"=vG
 ZPL:mg "any"=vG
 ZNq:mg "bool"=vG
 ZK3:mg "enumerate"=vG
 ZUD:mg "int"=vG
 ZNc:mg "isinstance"=vG
 ZUl:mg "len"=vG
 ZRW:mg "list"=vG
 ZJ5:mg "max"=vG
 ZKI:mg "min"=vG
 ZRQ:mg "range"=vG
 ZRS:mg "sorted"=vG
 ZNK:mg "str"=vG
 ZP3:mg "tuple"=vG
 ZO2:mg "zip"=vG
 ZGP:mg "BRIM"=vF (.int 4 (Cz K "BRIM"))
 ZGu:mg "DELAY"=vF (.int 3 (Cz K "DELAY"))
 ZH0:mg "DOWN"=vF (.int 2 (Cz K "DOWN"))
 ZED:mg "KIND"=vF (.int 0 (Cz K "KIND"))
 ZJR:mg "LET"=vF (.int 3 (Cz K "LET"))
 ZJI:mg "LIES"=vF (.int 5 (Cz K "LIES"))
 ZGr:mg "NAME"=vF (.int 1 (Cz K "NAME"))
 ZIH:mg "NEED"=vF (.int 4 (Cz K "NEED"))
 ZHN:mg "PLACES"=vF (.int 1 (Cz K "PLACES"))
 ZIz:mg "PUMP"=vF (.int 6 (Cz K "PUMP"))
 ZDV:mg "PUMPED"=vF (.int 4 (Cz K "PUMPED"))
 ZDc:mg "PUMP_DELAY"=vF (.int 1 (Cz K "PUMP_DELAY"))
 ZGK:mg "PUMP_TO"=vF (.int 0 (Cz K "PUMP_TO"))
 ZFg:mg "RANK"=vF (.int 5 (Cz K "RANK"))
 ZGT:mg "ROW_DOWN"=vF (.int 0 (Cz K "ROW_DOWN"))
 ZIg:mg "ROW_NEED"=vF (.int 2 (Cz K "ROW_NEED"))
 ZJg:mg "ROW_RANK"=vF (.int 3 (Cz K "ROW_RANK"))
 ZFP:mg "ROW_WATER"=vF (.int 1 (Cz K "ROW_WATER"))
 ZFk:mg "RULE"=vF (.int 5 (Cz K "RULE"))
 ZFK:mg "SEA"=vF (.str "sea" (Cz K "SEA"))
 ZIL:mg "SPILLED"=vF (.int 2 (Cz K "SPILLED"))
 ZHt:mg "TOOK"=vF (.int 1 (Cz K "TOOK"))
 ZFN:mg "YEAR"=vF (.int 0 (Cz K "YEAR"))
 ZCU:TupG K mg "SENSES" ["least","most"]
 Vd:DctG K mg "KINDS_ASKED" [("lies","basin"),("spilled","basin"),("let","basin"),("pumped","basin"),("took","town")]
section
seal J7 Je dC K5 Bx Aa Mp Dv dFn Av dIf dLR Oq Fv De Ab Gy Qv dOp dOr R0 dSl Cr Ag dUn dV Kp Kz Ft Bm K6 Px Hm K1 Hi Mf Dj Ae gIx Ax Ao gV Ny Ey Bk Dt Ex Dl Iz Ai Bv Bl Qx Lh Nb Gi I9 J1 Ad J8 J9 Fb Az Aj Gw M6 Hz Hn Ik Dw rng1 rng3 sAs sAu Js Hw sEx Er By sIf sNx sRt Ac sWh
local macro_rules | `(tactic|trivial)=> `(tactic|first|refine' (_:String)|refine' (_:Str)|refine' (_:xj))
local macro_rules | `(tactic|trivial)=>pure (wR "QS _ _|_ (sAs (Av _) _):-ZVA ?|(Stmt.Assign (List.cons (Expr.Name .) List.nil) (Expr.ListComp .) .) _:-ZTM _ nd ? L ? l l|(Stmt.Assign (List.cons (Expr.Name .) List.nil) .) (sAs _ (gV _)):-ZQN _ nd ?|_ (sEx _):-ZQL ?|_ (sAs _ _):-ZOe ? ?|_ (Er _ _ _ _):-ZUU ? ? ? ? ?|_ (By _ _ _):-ZUt PassesOwn.never rfl ? ? ?|_ (Js _ _ _ _):-ZPk ? ? ? ?|_ (sAu _ _ _):-ZUS _ nd ? ?|_ (sWh _ _ _):-ZOJ fuel PassesOwn.never ? ?|@ZBs,@Mq#QE _ _|_ (dV _):.Mm _|(Expr.Subscript .) (dOp _ _ _):-ZCI ? ? ?|(Expr.Compare .) _:-ZUC ? ? ? (nomark _)|(Expr.Call (Expr.Name .) .) (dFn _ _):<ZJ7 ? rfl ? ? ?,<ZQk ? rfl ? ? ?,-Bo (ZSb T) T.ZAJ hr ?,-Bo (ZLf T) T.Xg hr ?,-Bo (ZQq T) T.ZA5 hr ?,-Bo (ZSP T) T.ZAk hr ?,-Bo (ZK8 T) T.ZA6 hr ?,-Bo (ZQA T) T.Wn hr ?,-Bo (ZKy T) T.ZAx hr ?,-Bo (ZOj T) T.Yd hr ?,-Bo (ZUz T) T.Yo hr ?,-Bo (ZTS T) T.Yz hr ?,-Bo (ZOr T) T.ZBa hr ?,-Bo (ZMo T) T.ZCl hr ?,-Bo (ZRV T) T.Ze hr ?,-Bo (ZR1 T) T.Zq hr ?,-Bo (ZTo T) T.X7 hr ?,-Bo (ZNs T) T.ZAh hr ?,-Bo (ZPh T) T.Vu hr ?,-Bo (ZOd T) T.ZAq hr ?,-Bo (ZUp T) T.ZBx hr ?,-Bo (ZOU T) T.Zd hr ?,-Bo (ZRC T) T.X5 hr ?,-Bo (ZMW T) T.ZBd hr ?,-Bo (ZMY T) T.Z4 hr ?,-Bo (ZQ4 T) T.Ys hr ?,-Bo (ZQf T) T.ZAV hr ?,-Bo (ZUI T) T.Zz hr ?,-Bo (ZN2 T) T.Vx hr ?,-Bo (ZKg T) T.ZBb hr ?,-Bo (ZKz T) T.W3 hr ?,-Bo (ZQT T) T.Xp hr ?,-Bo (ZTZ T) T.ZBn hr ?,-Bo (ZSu T) T.Zb hr ?,-Bo (ZOh T) T.Zw hr ?,-Bo (ZLF T) T.ZAz hr ?,-Bo (ZSG T) T.Wg hr ?,-Bo (ZKF T) T.ZCH hr ?,-Bo (ZUB T) T.Zk hr ?,-Bo (ZRm T) T.ZBB hr ?,-Bo (ZRg T) T.ZBl hr ?,-Bo (ZSX T) T.ZAo hr ?,-Bo (ZPM T) T.ZBp hr ?,-Bo (ZKs T) T.ZAQ hr ?,-Bo (ZKE T) T.ZCA hr ?,-Bo (ZPo T) T.W6 hr ?,-Bo (ZM1 T) T.Wf hr ?,-Bo (ZO4 T) T.ZBD hr ?|_ (De _ _ _):-ZSO ? ? ? ? ?|_ (Dv _ _ _):-ZSg ? ? ? ?|(Expr.Name .) (dC (D.ty .)):-ZMR rfl ? ?|_ (dSl _ _ _):-ZNx ? ? ?|_ (dLR _):-ZSa rfl rfl ? rfl ? ?|_ (Bx _ _ _ _ _ _):-ZT4 ? L ? l l|(Expr.Name .) (dC _):<ZKT rfl ?,<ZNT rfl ?|(Expr.Call _ (List.cons .) .) (Fv _ _ _ _ _):-Sw T.Ep.N T.Ep.cl T.Qi.me (ZO3 T) (hr.mono d) T.Qi.b pass0 ? ?,-Sw T.Ep.N T.Ep.cl T.Qo.me (ZOI T) (hr.mono d) T.Qo.b pass0 ? ?,-Sw T.Ep.N T.Ep.cl T.Uh.me (ZQR T) (hr.mono d) T.Uh.b pass0 ? ?,-Sw T.Ep.N T.Ep.cl T.V9.me (ZOw T) (hr.mono d) T.V9.b pass0 ? ?|_ (Oq _ _ _):-ZLp T.Ep.N T.Ep.mK (ZQg T) (hr.mono d) rfl T.Ep.g T.Yw.b pass0 ?|_ (Fv _ _ _ _ _):-ZFS T.Ep.N T.Ep.cl T.S6.me (ZQV T) (hr.mono d) T.S6.b pass0 ?,-ZFS T.Ep.N T.Ep.cl T.Vi.me (ZQK T) (hr.mono d) T.Vi.b pass0 ?|.Mh,.ZNP,.ZKe,.ZRe,@ZLm,@ZOM,@ZSl,@ZUV,@ZN7,@ZR4,@ZPq,@ZTc,@ZRb,@ZNe,@ZTi#QA _ _|.ZOq,-ZNG ? ?#QSs _ _|@G9,.Nr,@Ih#QG _ _|_ (gV _):.ZPV _ nd|_ (Ao _ _):-ZUe rfl ?|_ (gIx _ _):-ZMX ? ?#QGs _ _|.ZQd,-ZRR ? ?#QTs _ _|.ZUv,-ZMK ?#QT _ _|(Expr.Compare _ (List.cons _ List.nil) .) (Ag _):-Tq ? ? ? (nomark _)|_ (Ag _):-ZJ8 ?|(Expr.BoolOp .) _:-Z9 ?|(Expr.Compare _ (List.cons _ (List.cons _ List.nil)) .) _:-ZLz ? ? ? ? ?|@ZLE#QI _ _ _|(Expr.Call _ (List.cons _ List.nil) .) (Bk rng1 _):-ZLU rfl ? ?|_ (Bk rng3 _):-ZNW rfl ? ?|_ (Bk Ey _):-ZPw rfl ? ?|_ (Ny _ _):-ZUH rfl ? ? ?|_ (Bk (Ex 2) _):-ZN1 rfl ? ?|_ (Bk (Ex 3) _):-ZOS rfl ? ?|@ZTQ#QW _ _|@Vr,@ZCk,@ZTp,@ZLi#QO _ _|.ZSr,@ZRH#GK|_ (gV _):.ZPG d|@ZUE#GKs|.ZQU,@ZSW#=IxR _ _|!i_ix#=OpR _ _ _|!ZMS,!ZNN,!ZSk,!ZLH,!ZKG,!o_lt,!o_gt,!ZPa,!o_is,!ZLu,!o_le,!ZOu,!ZQE,!o_ge,!ZLT,.o_eq hr.units,.o_ne hr.units#=CallR _ _ _|.ZUk,.ZKl,=ZLL ?,.ZPR,=ZUJ ?,=ZMO ?,=ZNw ?,=ZN6 ?,=ZRd ?,=ZOV ?,.ZTP#=Eq _ none|.T.ZUl,.T.ZRQ,.T.ZP3,.T.ZK3,.T.ZKI,.T.ZO2,.T.ZNc,.T.ZRW,.T.ZJ5,.T.ZRx,.T.ZPL,.T.ZNK,.T.ZUD,.T.ZNq,.T.ZRS#=Eq (bootBuiltins _) _|!ZM5,!ZJ6,!ZTj,!ZP8,!ZPm,!ZG1,!ZON,!ZMG,!ZTV,!ZQu,!ZKa,!ZRi#=Slot _ _ _|!PySem.F.slot_list_append,!PySem.F.slot_list_index#=Eq (typeOf _) _|!PySem.F.type_list_append,!PySem.F.type_list_index#=MtM _ _ _|!ZS3,!ZRT#=Eq _ (some _)|.T.ZHN,.T.ZED,.T.ZGT,.T.ZIz,.T.ZJI,.T.ZGu,.T.ZIL,.T.ZJR,.T.ZDV,.T.ZHt,.T.ZFN,.T.ZGr,.T.ZH0,.T.ZFK,.T.ZFk,.T.ZGP,.T.ZGK,.T.ZDc,.T.ZFP,.T.ZIH,.T.ZFg,.T.ZJg,.T.ZIg#=NoAttr _ _ _|.T.ZDm,.T.ZJi,.T.ZFB,.T.ZJb,.T.ZE3,.T.ZC4,.T.ZEy#=UnR _ _ _|!ZOz#*|.T.Ep.N,.T.Ep.cl,.hr.mono d")
set_option hygiene false in
local macro_rules | `(tactic|exists $a,$b)=> `(tactic|(refine Lz $a $b λcdv A outer s H E hr=>?_;have nd:=($b).nd;trivial))
variable{P:xA}{w:xF}{K:PySem.W.Frag}{mg:Str->Option xE}{base:Heap}(T:Txt K mg)
include T
theorem ZLf:FnO P w K mg base 1 "_law_amount" Z2 Ib:=by exists T.Xg.F,ZRI
theorem ZTo:FnO P w K mg base 1 "_law_off" Yx Pj:=by exists T.X7.F,ZTx
theorem ZKy:FnO P w K mg base 1 "_law_tape" ZCT K8:=by exists T.ZAx.F,ZQm
theorem ZSb:FnO P w K mg base 2 "_law_cell_at" Vz Bc:=by exists T.ZAJ.F,ZLB
theorem ZQq:FnO P w K mg base 3 "_law_unit" Xr Ho:=by exists T.ZA5.F,ZKR
theorem ZSX:FnO P w K mg base 4 "_law_added" ZCm Nv:=by exists T.ZAo.F,ZSm
theorem ZPM:FnO P w K mg base 4 "_law_ask" ZCE V1:=by exists T.ZBp.F,ZPN
theorem ZK8:FnO P w K mg base 1 "_law_beyond" ZAb Lf:=by exists T.ZA6.F,ZSq
theorem ZO4:FnO P w K mg base 1 "_law_column" Z0 Ry:=by
 refine Lz T.ZBD.F ZIC λcdv A outer s H E hr=>?_
 have nd:=ZIC.nd;exact(Ih (ZBs (ZCI (ZGW hr.units) (ZFf (Ie Mh (Ie Mh (Ie Mh (Ie Mh (Ie Mh ZEb)))))) (Mm 0))))
theorem ZRg:FnO P w K mg base 4 "_law_floods" ZAW Ur:=by exists T.ZBl.F,ZRK
theorem ZQA:FnO P w K mg base 1 "_law_amid" Zg Io:=by exists T.Wn.F,ZSJ
theorem ZM1:FnO P w K mg base 3 "_law_floods_amid" ZAf S8:=by exists T.Wf.F,ZUK
theorem ZOd:FnO P w K mg base 1 "_law_pumped" Yt Ra:=by exists T.ZAq.F,ZNg
theorem ZNs:FnO P w K mg base 1 "_law_steps" ZBT Ve:=by exists T.ZAh.F,ZMd
theorem ZOj:FnO P w K mg base 3 "_law_year" Z1 Ml:=by exists T.Yd.F,ZMH
theorem ZPh:FnO P w K mg base 4 "_law_rule" ZAO Te:=by exists T.Vu.F,ZLh
theorem ZOU:FnO P w K mg base 5 "_law_basin" Wl Pn:=by exists T.Zd.F,ZP0
theorem ZUp:FnO P w K mg base 1 "_law_name" ZB3 Ui:=by exists T.ZBx.F,ZUj
theorem ZKF:FnO P w K mg base 6 "_law_house" ZBN R7:=by exists T.ZCH.F,ZMZ
theorem ZUB:FnO P w K mg base 3 "_law_number" ZBI Od:=by exists T.Zk.F,ZNv
theorem ZRm:FnO P w K mg base 4 "_law_state" ZBy Vf:=by exists T.ZBB.F,ZTH
theorem ZPo:FnO P w K mg base 3 "_law_state_amid" ZBu Uu:=by exists T.W6.F,ZMQ
theorem ZKE:FnO P w K mg base 1 "_law_told" Zf V2:=by exists T.ZCA.F,ZKJ
theorem ZMW:FnO P w K mg base 1 "is_beyond" ZBq Td:=by exists T.ZBd.F,ZLR
theorem ZRC:FnO P w K mg base 1 "part_asked" W8 Vc:=by
 refine Lz T.X5.F ZFG λcdv A outer s H E hr=>?_
 have nd:=ZFG.nd;exact(Ih (ZBs (ZCI (ZGW hr.units) (ZFf (Ie (by trivial) (Ie (by trivial) (Ie (by trivial) (Ie (by trivial) (Ie (by trivial) ZEb)))))) (Mm 0))))
theorem ZSG:FnO P w K mg base 2 "answered" ZAZ Tc:=by exists T.Wg.F,ZMU
theorem ZSu:FnO P w K mg base 1 "check_ask" Z7 U7:=by
 refine Lz T.Zb.F ZG6 λcdv A outer s H E hr=>?_
 have nd:=ZG6.nd
 exact(G9 (by trivial) (G9 (Mq (Z9 (Vr (Tq ZHy (Mm 4) (ZSM (ss:=["least","most"]) rfl T.ZCU) (by with_unfolding_all rfl)) (ZCk (ZPT rfl T.Vd (Mm 2) (by with_unfolding_all rfl))))) (Ih Ob) Nr) (G9 (Mq (by trivial) (Ih Ob) Nr) (Ih (Mq (Tq (o_ne hr.units) (by trivial) (ZRM rfl T.Vd (Mm 2)) (nomark _)) (Ih Ob) Nr)))))
theorem ZUz:FnO P w K mg base 1 "none_above" Vo Pr:=by exists T.Yo.F,ZQb
theorem ZTS:FnO P w K mg base 2 "rows_under" Wr Ln:=by exists T.Yz.F,ZS2
theorem ZMY:FnO P w K mg base 3 "under" Yu Qw:=by exists T.Z4.F,ZR5
theorem ZOh:FnO P w K mg base 4 "check_bounds" Y6 Us:=by
 refine Lz T.Zw.F ZEq λcdv A outer s H E hr=>?_
 have nd:=ZEq.nd;exact(Ih (Mq (by trivial) (Ih Ob) Nr))
theorem ZLF:FnO P w K mg base 1 "looked_through" ZBo S9:=by exists T.ZAz.F,ZLd
theorem ZQg:MtO P w K mg base 1 "Course" "__init__" ZCh O7:=by exists T.Yw.F,ZMs
theorem ZO3:MtO P w K mg base 1 "Course" "send" ZAu Q4:=by exists T.Qi.F,ZRh
theorem ZOr:FnO P w K mg base 1 "number_of" ZCM O9:=by
 refine Lz T.ZBa.F ZC6 λcdv A outer s H E hr=>?_
 have nd:=ZC6.nd;exact(G9 (by trivial) (Ih Ob))
theorem ZMo:FnO P w K mg base 2 "down_of" Zh Q7:=by exists T.ZCl.F,ZNp
theorem ZOI:MtO P w K mg base 3 "Course" "send_down" ZAU Og:=by exists T.Qo.F,ZMM
theorem ZQf:FnO P w K mg base 1 "opened" Zu R9:=by exists T.ZAV.F,ZSx
theorem ZQ4:FnO P w K mg base 1 "stairs_at" X8 Va:=by exists T.Ys.F,ZSe
theorem ZQR:MtO P w K mg base 4 "Course" "go_basin" ZCF U0:=by exists T.Uh.F,ZKH
theorem ZR1:FnO P w K mg base 1 "passed" Yj Ms:=by exists T.Zq.F,ZSs
theorem ZRV:FnO P w K mg base 3 "down_in_reach" ZAS O5:=by exists T.Ze.F,ZPr
theorem ZKg:FnO P w K mg base 4 "reach_rows" ZAa Ss:=by exists T.ZBb.F,ZM6
theorem ZUI:FnO P w K mg base 1 "served" Y4 U8:=by exists T.Zz.F,ZN4
theorem ZN2:FnO P w K mg base 1 "way_down" ZA4 Ul:=by exists T.Vx.F,ZMJ
theorem ZKz:FnO P w K mg base 2 "shares" Ws Tw:=by exists T.W3.F,ZOi
theorem ZOw:MtO P w K mg base 5 "Course" "go_reach" Wu Sq:=by exists T.V9.F,ZSp
theorem ZQT:FnO P w K mg base 4 "lasts_of_reaches" Yp Rr:=by exists T.Xp.F,ZQi
theorem ZQV:MtO P w K mg base 6 "Course" "go" ZAn Vm:=by exists T.S6.F,ZLJ
theorem ZQK:MtO P w K mg base 1 "Course" "state_behind" Vt V5:=by exists T.Vi.F,ZL1
theorem ZTZ:FnO P w K mg base 7 "turn" Xk Rf:=by exists T.ZBn.F,ZPu
theorem ZSP:FnO P w K mg base 8 "run" ZCa Ky:=by exists T.ZAk.F,ZSc
theorem ZKs:FnO P w K mg base 9 "look" Zy M8:=by exists T.ZAQ.F,ZQX
theorem ZKx:FnO P w K mg base 10 "law" ZBF Ls:=by
 refine Lz T.S7.F ZJY λcdv A outer s H E hr=>?_
 have nd:=ZJY.nd
 exact(G9 (by trivial) (G9 (by trivial) (G9 (by trivial) (G9 (by trivial) (G9 (by trivial) (G9 (by trivial) (G9 (by trivial) (G9 (by trivial) (G9 (Mq (Z9 (Vr (by trivial) (ZCk (Tq ZHy (by trivial) (by trivial) (by with_unfolding_all rfl))))) (by trivial) Nr) (by trivial))))))))))
end
theorem ZST{K:PySem.W.Frag}{h:Heap}{mg:Str->Option xE}(X:K.In h)(G:h.Ns vZ mg)(S:AllSaid K asks):Txt K mg:=by
 obtain⟨Ep,Xg,X7,ZAx,ZAJ,ZA5,ZAo,ZBp,ZA6,ZBD,ZBl,Wn,Wf,ZAq,ZAh,Yd,Vu,Zd,ZBx,ZCH,Zk,ZBB,W6,ZCA,ZBd,X5,Wg,Zb,Yo,Yz,Z4,Zw,ZAz,Yw,Qi,ZBa,ZCl,Qo,ZAV,Ys,Uh,Zq,Ze,ZBb,Zz,Vx,W3,V9,Xp,S6,Vi,ZBn,ZAk,ZAQ,S7,ZFB,ZJb,ZDm,ZE3,ZJi,ZEy,ZC4,z_all,z_any,z_bool,z_enumerate,z_int,z_isinstance,z_len,z_list,z_max,z_min,z_range,ZWB,z_str,ZWC,z_zip,ZGP,ZGu,ZH0,ZED,ZJR,ZJI,ZGr,ZIH,ZHN,ZIz,ZDV,ZDc,ZGK,ZFg,ZGT,ZIg,ZJg,ZFP,ZFk,ZFK,ZIL,ZHt,ZFN,ZCU,Vd,_⟩:=S
 constructor <;> first|assumption|exact PySem.W.mg_none_of X G (by assumption)|exact PySem.W.mg_of X G (by assumption)|exact ZMi X G (by assumption) (by assumption)|((first|refine ZP2 X G (by assumption) ?_|refine ZQI (by assumption) ?_);(first|exact λ_ _ _ _ _ _=>bnd1 λ_=>rfl|exact λ_ _ _ _ _ _=>bnd2 λ_ _=>rfl|exact λ_ _ _ _ _ _=>bnd3 λ_ _ _=>rfl|exact λ_ _ _ _ _ _=>bnd4 λ_ _ _ _=>rfl|exact λ_ _ _ _ _ _=>bnd5 λ_ _ _ _ _=>rfl|exact λ_ _ _ _ _ _=>bnd7 λ_ _ _ _ _ _ _=>rfl))|exact ZKA X G ZCU|exact ZTf X G Vd
theorem all_mk{l:PySem.W.OpenLaw}{w:xF}{K:PySem.W.Frag}{h:Heap}{mg:Str->Option xE}{fa:xj}(X:K.In h)(G:h.Ns vZ mg)(hfa:mg "law"=vF (.ref fa))(S:AllSaid K asks):
  ∃fd:xy,(∀(s:xC)(v:xE),BindsTo s fd ⟨[v],[]⟩ [("_law_script",v)])/\∀base:Heap,K.In base->base.Ns vZ mg->FnOk l.prog w K mg base CX0 10 fa fd ["_law_script"] (lF K Ls):=by
 have T:=ZST X G S;have eL:=T.S7.m;obtain rfl:fa=Bb K "law":=by rw[hfa]at eL;cases eL;rfl
 exact⟨_,λs v=>ZUg (T.S7.F),λbase _ _=>ZKx T⟩
theorem walk{l:PySem.W.OpenLaw}{q:xA}{loose:List Str}{XP:(Str->Option xE)->Heap->Prop}{YP:xF->Heap->Prop}{d:DefRec}{K:xF->PySem.W.Frag}(hn:l.most=vF 63)(hdf:d.params.defaults=[])(HH:Holds)
  (hY:∀(w:xF)(h:Heap),YP w h->(K w).In h)
  (F:∀(w:xF)(mg:Str->Option xE)(fa:xj)(h:Heap),(K w).In h->h.Ns vZ mg->mg d.name=vF (.ref fa)->
   ∃fd:xy,(∀(s:xC)(u:xE),BindsTo s fd ⟨[u],[]⟩ [("_law_script",u)])/\∀base:Heap,(K w).In base->base.Ns vZ mg->FnOk l.prog w (K w) mg base CX0 10 fa fd ["_law_script"] (lF (K w) Ls)):
  PySem.W.WalkO q loose XP YP l.row.toRowW d [] (λf vs=>PySem.call f vs):=
 _L.ZN0 (n:=63) (k:=10) (x:="_law_script") (CX:=λ_=>CX0) (sp:=λw=>lF (K w) Ls) hn (by decide) hdf ⟨rfl,by decide,by decide⟩ hY F
  (λw H a ns hl hO hS=>by
   obtain⟨G,hG⟩:=HH ns hl;refine⟨⟨K w,0,λ_=>0,H⟩,[],[.fl (ns.map D.int)],rfl,rfl,⟨rfl,λi j h=>absurd h (xK _),λi o h=>by simp at h,λi h=>absurd h (xK _)⟩,Reps.cons ⟨a,ns.map V.int,rfl,?_,Reps.ints ns⟩ Reps.nil,?_⟩
   ·rcases hS with(hS|hS)|hS
    ·rcases hO a with z|⟨o,xs,z⟩
     ·rw[z]at hS;cases hS
     ·rw[z]at hS;cases hS
    ·exact .inl hS
    ·exact .inr hS
   ·rw[hG];exact λb v _ _ r=>r) λ_ _ _ _ _ z=>z
end _W
set_option maxRecDepth 100000
namespace _W
open PySem PySem.W _L _D
theorem ZGR:∀w,(openEnds vY pw w 100000).map (λs=>(openSeen vw ["KINDS_ASKED"] (xT pw.main.body) (XtOf rw_ vw) vH s,Q8 asks s.heap))=vF (openGood vw ["KINDS_ASKED"],Pz asks):=ZKW (by kernel_rfl) (λs=>rfl) ZLW
theorem walked:WalkO vw ["KINDS_ASKED"] (XL vw []) (Stays rw_.prog 100000) rw_.row.toRowW (dOf Hg) [] λf vs=>PySem.call f vs:=
 walk (l:=rw_) (K:=λw=>Ou (Jg pw 100000 w)) rfl hdf holds (λw h Y=>Y.in) λw mg fa h KX G hmg=>all_mk KX G (show mg "law"=_ from hmg) (ZFD (ZQG ZGR w))
end _W
open PySem PySem.W PyProof.Rows _D
theorem PySem.Challenge.cw_sluiceway_k54_whole_all_floods_between_holds : PySem.Challenge.rw_sluiceway_k54_whole_all_floods_between.Holds := by
 refine holds_top (l:=_W.rw_) (q:=_W.vw) (loose:=["KINDS_ASKED"]) (N:=100000) (see:=Q8 _W.asks) (val:=Pz _W.asks) (d:=dOf _W.Hg) ?_ ?_ ?_ ?_ ?_ ?_ ?_ ?_ ?_ ?_
 ·exact _W.well
 ·exact _W.ZGR
 ·exact _W.hdef
 ·exact _W.hp
 ·exact _W.hk
 ·rfl
 ·exact _W.hok
 ·exact _W.hbare
 ·exact _W.hw
 ·exact _W.walked
