import PyProof.Rows.All
import PySem.Challenge.RW_sluiceway_k54_whole_all_floods_between
import KE.KNestM
import KE.KIsAll
import KE.KSortTup
import Wide.FinOn
import Lean
set_option compiler.extract_closed false
set_option bootstrap.genMatcherCode false
set_option genSizeOf false
set_option Elab.async false
set_option linter.all false
set_option maxRecDepth 100000
open Option renaming some→vD,none→vE
open Bool renaming true→vF,false→vG
open List renaming range→zQ,mem_cons_of_mem→zZ,getElem?_eq_getElem→zX,replicate→zV,mem_cons_self→zW,size_toArray→zY,mem_cons→zq,getElem?_map→zj,map_cons→zw,getElem?_eq_none→zy,getD_eq_getElem?_getD→zC,getElem?_eq_some_iff→zG,getElem?_append_right→zL,mem_map→zM,getElem?_range→zP,length_cons→zU,drop_eq_getElem_cons→qQ,mem_append_right→qZ,drop_of_length_le→qJ,getElem?_append_left→qX,replicate_succ→qV,length_map→qY,mem_range→qq,length_append→qz,set→qj,filterMap_map→qx,map_congr_left→qw,find?_cons→qk,all_eq_true→qy,getElem_mem→q8,filterMap_cons→q9,filterMap_eq_map'→qA,getElem_of_mem→qD,idxOf_lt_length_of_mem→qF,mem_singleton→qG,flatten_cons→qH,nodup_cons→qI,eq_nil_of_length_eq_zero→qL,ext_getElem→qM,all_cons→qN,map_map→qO,range_succ_eq_map→qR,getElem?_eq_none_iff→qT,getElem?_set_ne→jX,length_nil→jW,getElem?_set→jK,lookup→jY,getElem?_replicate→jq,getElem?_cons_succ→jz,getElem?_set_self→jv,lookup_cons→jw,append_nil→j0,foldl_cons→j1,range_succ→j2,pairwise_iff_getElem→j4,getLast?_eq_getElem?→j5,getElem?_take_of_lt→j6,map_eq_nil_iff→j7,length_set→j8,append_assoc→jA,length_singleton→jB,ext_getElem?→jC,length_take→jE,any_cons→jF,mem_append→jG,getElem_idxOf→jL,map_nil→jM,getElem?_cons_zero→jN,length_pos_of_mem→jP,length_replicate→jR,length_drop→jS,set_append_right→jU,take_length→xQ,zipIdx_cons→xZ,mem_append_left→xX,nil_append→xV,forIn_cons→xK,drop_zero→xY,length→xq
open Nat renaming le_refl→zK,lt_of_lt_of_le→zz,le_trans→zA,ne_of_lt→zE,lt_irrefl→qW,lt_succ_self→qK,lt_succ_of_lt→qP,ne_of_gt→jk,lt_or_ge→jy,le_succ→j9,zero_le→jH,mul_le_mul→jO,le_add_right→xJ,not_lt_zero→xW
open Int renaming le_refl→zH,emod_nonneg→qS,emod_lt_of_pos→jZ,le_trans→jx,natCast_add→j3,mul_nonneg→jD
open Option renaming map_eq_some_iff→zO,isSome_iff_exists→jJ
open Bool renaming false_ne_true→zk,and_eq_true→zD,false_eq_true→jQ,and_eq_true_iff→jV,or_eq_true→jI
open Array renaming length_toList→qC,getElem?_toList→qU
open PySem.Heap renaming get?_push_of_some→zJ,lt_size→zx,get?_push_size→z0,SameBut→qB,size_push→qE,get?_update_self→jT
open PySem renaming Addr→xz,Around→xj,Expr→xw,FuncData→xk,NameKind→xy,Program→x0,Scope→xA,Shared→xB,Stmt→xC,Value→xD,World→xE,assignEach→xF,attributeBase→xG,backTo→xH,backToKw→xI,behindInMarks→xL,binaryOp→xM,bootBuiltins→xN,checkBuiltinCall→xO,codeAny_mono→xP,compareOp→xR,importedModules→xS,keywordEach→xT,letOwnedTupleGo→xU,mainGlobals→vQ,model→vZ,rawInt→vJ,sizeLine_eq→vX,sliceBounds→vV,starEach→vW,treeTable→vK,wpAny→vY,wpAny_Call_Name_kw→vq,wpAny_bind→vz,wpAny_callSpecial?_slot→vj,wpAny_call_entry→vx,wpAny_field→vv,wpAny_holding→vk,wpAny_mono→v3,wpAny_newObj_type→v4,wpAny_passesOwn→v5,wpAny_pure→v6,wpAny_setField_rec→v7,wpAny_truthy_bool→v8
open PySem.W renaming Frag→v9,boot_heap→vA,kas_rev→vB
set_option maxHeartbeats 0
noncomputable section
namespace _L
open PySem PySem.Spec PyProof.Rows
noncomputable def Hf(s:xC):Arguments:=match s with
 |.FunctionDef _ a _ _ _ _ _ _ _ _=>a
 |_=>{posonlyargs:=[],args:=[],vararg:=vE,kwonlyargs:=[],kw_defaults:=[],kwarg:=vE,defaults:=[]}
noncomputable def Fb(s:xC):List xC:=match s with
 |.FunctionDef _ _ b _ _ _ _ _ _ _=>b
 |_=>[]
noncomputable def Aj(s:xC):xA:=match s with
 |.FunctionDef _ _ _ _ _ _ sc _ _ _=>sc
 |_=>{kind:=.function,names:=[],isGenerator:=vG,isCoroutine:=vG}
end _L
namespace _D
open PySem PySem.W _L
variable{h:Heap}{C:xz}{m x q:Str}{st:xC}{mg:Str->Option xD}
noncomputable def Lx:List Obj->Nat->v9
 |[],_=>[]
 |o::r,n=>match o.cls,o.data with
  |.none,.fields _=>Lx r (n+1)
  |_,.freed=>Lx r (n+1)
  |_,_=>(n,o)::Lx r (n+1)
def Oq(h:Heap):v9:=Lx h.objs.toList 0
noncomputable def dOf(s:xC):DefRec:=match s with
 |Stmt.FunctionDef n a b _ _ _ s _ _ p=>⟨n,a,b,s,p⟩
 |_=>⟨Str.empty,⟨[],[],vE,[],[],vE,[]⟩,[],{kind:=.module,names:=[],isGenerator:=vG,isCoroutine:=vG,more:=[]},⟨0,0,0,0⟩⟩
noncomputable abbrev XtOf(l:OpenLaw)(q:x0)(s:xB):Bool:=xlAt q [] s&&recOk l.row.toRowW.records s
noncomputable def Ba(K:v9)(n:Str):xz:=match nsIn K vQ n with
 |some (vD (.ref f))=>f
 |_=>0
noncomputable def gOk(K:v9)(n:Str):Bool:=match nsIn K vQ n with
 |some (vD (.ref _))=>vF
 |_=>vG
noncomputable def G7(K:v9)(C:xz)(m:Str):xz:=match findIn K (.ref C) m with
 |some (vD (.ref f))=>f
 |_=>0
noncomputable def mOk(K:v9)(C:xz)(m:Str):Bool:=match findIn K (.ref C) m with
 |some (vD (.ref f))=>isFn K (.ref f)
 |_=>vG
noncomputable def noF(K:v9)(C:xz)(m:Str):Bool:=match findIn K (.ref C) m with
 |some vE=>vF
 |_=>vG
noncomputable def zOk(K:v9)(n:Str):Bool:=match nsIn K vQ n with
 |some vE=>vF
 |_=>vG
noncomputable def Zb(K:v9)(C:xz):Bool:=match findIn K (.ref C) "__setattr__" with
 |some (vD (.builtin s))=>s == "object.__setattr__"
 |_=>vG
noncomputable def iOk(K:v9)(n:Str)(v:Int):Bool:=match nsIn K vQ n with
 |some (vD (.int u _))=>decide (u=v)
 |_=>vG
noncomputable def sOk(K:v9)(n:Str)(v:Str):Bool:=match nsIn K vQ n with
 |some (vD (.str u _))=>decide (u=v)
 |_=>vG
noncomputable def Gz(K:v9)(f:xz):Obj:=match K.lookup f with
 |some o=>o
 |none=>⟨.none,vE,.plain,#[]⟩
def Bs(K:v9)(f:xz):xk:=match(Gz K f).data with
 |.func fd=>fd
 |_=>default
noncomputable def ZPn:xD->Bool
 |.none=>vF
 |_=>vG
noncomputable def ZRl:FuncBody->Option (List xC)
 |.stmts b=>vD b
 |_=>vE
def U4(K:v9)(x q:Str)(f:xz):Bool:=match K.lookup f with
 |some ⟨_,_,.func fd,_⟩=>decide (fd.name=x)&&decide (fd.qualname=q)&&(fd.globals==vQ&&fd.builtins==builtinsNs&&fd.closure.isEmpty&&ZPn fd.defaults)&&(codeIn K fd.code q&&keepIn K (.ref f))
 |_=>vG
noncomputable abbrev DefTxt:=Arguments×Option (List xC)×xA
def Ld(K:v9)(f:xz):DefTxt:=((Bs K f).params,ZRl (Bs K f).body,(Bs K f).scope)
def Kh(st:xC):DefTxt:=(Hf st,vD (Fb st),Aj st)
noncomputable def dfl(K:v9)(d:xD)(v:Int):Bool:=match d with
 | .ref T=>match K.lookup T with
  | some o=>(match o.data with
   |.seq a _=>(match a.toList with
    |[.int i _]=>decide (i=v)
    |_=>vG)
   |_=>vG)
  |none=>vG
 |_=>vG
def Z5(K:v9)(x q:Str)(f:xz)(v:Int):Bool:=match K.lookup f with
 |some ⟨_,_,.func fd,_⟩=>decide (fd.name=x)&&decide (fd.qualname=q)&&(fd.globals==vQ&&fd.builtins==builtinsNs&&fd.closure.isEmpty&&dfl K fd.defaults v)&&(codeIn K fd.code q&&keepIn K (.ref f))
 |_=>vG
noncomputable def strsOf:List xD->Option (List Str)
 |[]=>vD []
 |.str s _::r=>(strsOf r).map (s::·)
 |_::_=>vE
def ZBz(K:v9)(n:Str)(vs:List Str):Bool:=match nsIn K vQ n with
 | some (vD (.ref p))=>(match K.lookup p with
   |some ⟨.type t,_,.seq its _,_⟩=>t == "tuple"&&decide (strsOf its.toList=vD vs)&&Nat.ble its.toList.length 1000
   |_=>vG)
 |_=>vG
def ZBI(K:v9)(n:Str)(kvs:List (Str×Str)):Bool:=match nsIn K vQ n with
 | some (vD (.ref p))=>(match K.lookup p with
   |some ⟨.type t,_,.dict es _,_⟩=>t == "dict" && !(p==sysModules)&&decide (strsOf (es.toList.map (·.key))=vD (kvs.map (·.1)))&&decide (strsOf (es.toList.map (·.val))=vD (kvs.map (·.2)))
   |_=>vG)
 |_=>vG
inductive Ask where
 |fn (n:Str) (st:xC)
 |mt (c m q:Str) (st:xC)
 |cl (c:Str)
 |no (c x:Str)
 |z (n:Str)
 |gi (n:Str) (v:Int)
 |gs (n v:Str)
 |gt (n:Str) (vs:List Str)
 |gd (n:Str) (kvs:List (Str×Str))
 |ck (φ:v9->Bool)
 |fd (n:Str) (st:xC) (v:Int)
def Ask.chk(K:v9):Ask->Bool
 |.fn n _=>gOk K n&&U4 K n n (Ba K n)
 |.mt c m q _=>mOk K (Ba K c) m&&U4 K m q (G7 K (Ba K c) m)
 |.cl c=>gOk K c&&(plainGet K (Ba K c) Str.empty&&hasDictIn K (Ba K c)&&plainOver K (Ba K c))&&(Zb K (Ba K c)&&makesIn K (Ba K c)&&keepIn K (.ref (Ba K c)))
 |.no c x=>noF K (Ba K c) x
 |.z n=>zOk K n
 |.gi n v=>iOk K n v
 |.gs n v=>sOk K n v
 |.gt n vs=>ZBz K n vs
 |.gd n kvs=>ZBI K n kvs
 |.ck φ=>φ K
 |.fd n _ v=>gOk K n&&Z5 K n n (Ba K n) v
def Ask.txt(K:v9):Ask->Option DefTxt
 |.fn n _=>vD (Ld K (Ba K n))
 |.mt c m _ _=>vD (Ld K (G7 K (Ba K c) m))
 |.fd n _ _=>vD (Ld K (Ba K n))
 |_=>vE
def Ask.want:Ask->Option DefTxt
 |.fn _ st=>vD (Kh st)
 |.mt _ _ _ st=>vD (Kh st)
 |.fd _ st _=>vD (Kh st)
 |_=>vE
def Pz(l:List Ask)(h:Heap):Bool×List (Option DefTxt):=(l.all (Ask.chk (Oq h)),l.map (Ask.txt (Oq h)))
noncomputable abbrev Ov(l:List Ask):Bool×List (Option DefTxt):=(vF,l.map Ask.want)
noncomputable def R8(p:x0)(w:xE)(n₀:Nat)(ann:Option xD):Nat->SharedT->Thread->Option SharedT
 |0,_,_=>vE
 | n+1,s,t=>match through t with
  |true=>vD s
  | false=>match PySem.W.Fast.tw6613529449190102663 n₀ ann t with
   |false=>vE
   |true=>match PySem.W.Fast.tw10156331382660048174 (PySem.W.Fast.tw11892475500146522536 PySem.W.Fast.tw14364793385576792824) p w s t with
    |some (s',t')=>R8 p w n₀ ann n s' t'
    |none=>vE
noncomputable def ZDH:List Obj->Nat->BT->BT
 |[],_,t=>t
 |o::r,n,t=>ZDH r (n+1) (t.ins n o)
def ZIC(w:xE)(os:OsState):SharedT:=⟨ZDH (vA w.params).objs.toList 0 .nil,(vA w.params).objs.size,(vA w.params).life,Array.mk [],boot_drawn,boot_toks,os⟩
def Pn(p:x0)(w:xE)(os:OsState):Option SharedT:=R8 p w (vA w.params).objs.size (PySem.W.Fast.tw8920871248978507458 (vA w.params) vQ "__annotations__") 100000 (ZIC w os) (topStub p)
noncomputable def Oc(p:x0)(w:xE)(s:xB):Bool:=staticsOk (PySem.W.Fast.tw5923862056798008813 p.main.body) (vA w.params) s.heap&&namesBound p s.heap&&gensDone s&&laidKept (vA w.params) s.heap
theorem ZKX(h:PySem.W.Fast.tw9446332074065402090 l=vF):l.wellSaid=vF:=by rw[PySem.W.Fast.te9446332074065402090];exact h
noncomputable def ftW(w:xE)(b:Bool):xE:={w with params:={w.params with followText:=λx=>match x == "special-get-raises" with |true=>b|false=>w.params.followText x}}
theorem ZKm(w:xE):ftW w (w.params.followText "special-get-raises")=w:=by
 obtain⟨d,p⟩:=w;obtain⟨J,H,z,K,B,f,C,F,I,l,g,v,m,y,q,k,t,o,i,j,c,b,n,u,r⟩:=p
 have e:(λx:String=>match x == "special-get-raises" with |true=>f "special-get-raises"|false=>f x)=f:=by
  funext x;cases h:x == "special-get-raises" with
  |true=>rw[beq_iff_eq.mp h]
  |false=>rfl
 unfold ftW;dsimp only;rw[e]
theorem ZUk{P:xE->Prop}(c:∀w,P (ftW w vF))(d:∀w,P (ftW w vG)):∀w,P w:=λw=>by
 have h:∀b,P (ftW w b):=λb=>by cases b;exact d w;exact c w
 have:=h (w.params.followText "special-get-raises");rwa[ZKm]at this
end _D
namespace _W
open PySem PySem.W _L _D
noncomputable def top(i:Nat):xC:=PySem.Challenge.pw_sluiceway_k54_whole_all_floods_between.main.body.getD i (.Pass ⟨0,0,0,0⟩)
noncomputable def inC(s:xC)(j:Nat):xC:=match s with
 |.ClassDef _ _ _ body _ _ _ _ _ _ _=>body.getD j (.Pass ⟨0,0,0,0⟩)
 |_=>.Pass ⟨0,0,0,0⟩
noncomputable abbrev ZBV:=top 65
noncomputable abbrev ZBE:=top 61
noncomputable abbrev ZAe:=top 60
noncomputable abbrev Ze:=top 62
noncomputable abbrev Yt:=top 64
noncomputable abbrev ZAW:=top 75
noncomputable abbrev ZBe:=top 76
noncomputable abbrev Wj:=top 82
noncomputable abbrev ZBt:=top 77
noncomputable abbrev ZBQ:=top 73
noncomputable abbrev Zr:=top 78
noncomputable abbrev Y4:=top 80
noncomputable abbrev ZBH:=top 69
noncomputable abbrev ZAj:=top 67
noncomputable abbrev ZAv:=top 66
noncomputable abbrev Zz:=top 68
noncomputable abbrev ZCA:=top 70
noncomputable abbrev Vu:=top 63
noncomputable abbrev Xj:=top 71
noncomputable abbrev W3:=top 74
noncomputable abbrev ZAZ:=top 72
noncomputable abbrev ZCu:=top 79
noncomputable abbrev Ym:=top 81
noncomputable abbrev Yi:=top 57
noncomputable abbrev ZB1:=top 58
noncomputable abbrev Yq:=top 56
noncomputable abbrev ZBp:=top 53
noncomputable abbrev ZBf:=top 51
noncomputable abbrev ZA2:=top 50
noncomputable abbrev ZCo:=top 49
noncomputable abbrev Xq:=top 54
noncomputable abbrev ZBM:=top 55
noncomputable abbrev ZCR:=inC (top 42) 0
noncomputable abbrev ZCq:=inC (top 42) 5
noncomputable abbrev ZAk:=top 20
noncomputable abbrev W4:=top 21
noncomputable abbrev ZBx:=inC (top 42) 4
noncomputable abbrev Wc:=top 33
noncomputable abbrev Wy:=top 32
noncomputable abbrev Z0:=inC (top 42) 2
noncomputable abbrev Yx:=top 28
noncomputable abbrev Xd:=top 44
noncomputable abbrev Yw:=top 45
noncomputable abbrev ZBJ:=top 29
noncomputable abbrev ZB7:=top 30
noncomputable abbrev ZBZ:=top 27
noncomputable abbrev Zu:=inC (top 42) 3
noncomputable abbrev ZBu:=top 43
noncomputable abbrev Zg:=inC (top 42) 1
noncomputable abbrev ZAn:=inC (top 42) 6
noncomputable abbrev Yo:=top 40
noncomputable abbrev Yl:=top 41
noncomputable abbrev ZCf:=top 52
noncomputable abbrev Hb:=top 83
def asks:List Ask:=[.cl "Course",.fn "_law_amount" ZBV,.fn "_law_off" ZBE,.fn "_law_tape" ZAe,.fn "_law_cell_at" Ze,.fn "_law_unit" Yt,.fn "_law_added" ZAW,.fn "_law_ask" ZBe,.fn "_law_beyond" Wj,.fn "_law_column" ZBt,.fn "_law_floods" ZBQ,.fn "_law_amid" Zr,.fn "_law_floods_amid" Y4,.fn "_law_pumped" ZBH,.fn "_law_steps" ZAj,.fn "_law_year" ZAv,.fn "_law_rule" Zz,.fn "_law_basin" ZCA,.fn "_law_name" Vu,.fn "_law_house" Xj,.fn "_law_number" W3,.fn "_law_state" ZAZ,.fn "_law_state_amid" ZCu,.fn "_law_told" Ym,.fn "is_beyond" Yi,.fn "part_asked" ZB1,.fn "answered" Yq,.fn "check_ask" ZBp,.fn "none_above" ZBf,.fn "rows_under" ZA2,.fn "under" ZCo,.fn "check_bounds" Xq,.fn "looked_through" ZBM,.mt "Course" "__init__" "Course.__init__" ZCR,.mt "Course" "send" "Course.send" ZCq,.fn "number_of" ZAk,.fn "down_of" W4,.mt "Course" "send_down" "Course.send_down" ZBx,.fn "opened" Wc,.fn "stairs_at" Wy,.mt "Course" "go_basin" "Course.go_basin" Z0,.fn "passed" Yx,.fn "down_in_reach" Xd,.fn "reach_rows" Yw,.fn "served" ZBJ,.fn "way_down" ZB7,.fn "shares" ZBZ,.mt "Course" "go_reach" "Course.go_reach" Zu,.fn "lasts_of_reaches" ZBu,.mt "Course" "go" "Course.go" Zg,.mt "Course" "state_behind" "Course.state_behind" ZAn,.fn "turn" Yo,.fn "run" Yl,.fn "look" ZCf,.fn "law" Hb,.no "Course" "came",.no "Course" "coming",.no "Course" "house",.no "Course" "levels",.no "Course" "page",.no "Course" "reaches",.no "Course" "year_turn",.z "all",.z "any",.z "bool",.z "enumerate",.z "int",.z "isinstance",.z "len",.z "list",.z "max",.z "min",.z "range",.z "sorted",.z "str",.z "tuple",.z "zip",.gi "BRIM" 4,.gi "DELAY" 3,.gi "DOWN" 2,.gi "KIND" 0,.gi "LET" 3,.gi "LIES" 5,.gi "NAME" 1,.gi "NEED" 4,.gi "PLACES" 1,.gi "PUMP" 6,.gi "PUMPED" 4,.gi "PUMP_DELAY" 1,.gi "PUMP_TO" 0,.gi "RANK" 5,.gi "ROW_DOWN" 0,.gi "ROW_NEED" 2,.gi "ROW_RANK" 3,.gi "ROW_WATER" 1,.gi "RULE" 5,.gs "SEA" "sea",.gi "SPILLED" 2,.gi "TOOK" 1,.gi "YEAR" 0,.gt "SENSES" ["least","most"],.gd "KINDS_ASKED" [("lies","basin"),("spilled","basin"),("let","basin"),("pumped","basin"),("took","town")]]
abbrev rw_:OpenLaw:=PySem.Challenge.rw_sluiceway_k54_whole_all_floods_between
abbrev pw:x0:=OpenLaw.prog PySem.Challenge.rw_sluiceway_k54_whole_all_floods_between
def vw:x0:=view pw (zQ 84)
theorem ZSHb:∀w os,(Pn pw (ftW w vF) os).map (λs=>PySem.W.Fast.tw4187177175401517315 vw ["KINDS_ASKED"] (PySem.W.Fast.tw5923862056798008813 pw.main.body) (XtOf rw_ vw) vF s.abs)=vD (openGood vw ["KINDS_ASKED"]):=λw os=>by kernel_rfl
theorem ZSHa:∀w os,(Pn pw (ftW w vF) os).map (λs=>(Oc pw (ftW w vF) s.abs,Pz asks s.abs.heap))=vD (vF,Ov asks):=λw os=>by kernel_rfl
theorem ZSH:∀w os,(Pn pw (ftW w vF) os).map (λs=>(Oc pw (ftW w vF) s.abs,PySem.W.Fast.tw4187177175401517315 vw ["KINDS_ASKED"] (PySem.W.Fast.tw5923862056798008813 pw.main.body) (XtOf rw_ vw) vF s.abs,Pz asks s.abs.heap))=vD (vF,openGood vw ["KINDS_ASKED"],Ov asks):=λw os=>by
 have h1:=ZSHb w os
 have h2:=ZSHa w os
 revert h1 h2
 generalize Pn pw (ftW w vF) os=o
 intro h1 h2
 cases o with
 |none=>cases h2
 |some s=>exact congrArg some (Prod.ext (Prod.mk.inj (Option.some.inj h2)).1 (Prod.ext (Option.some.inj h1) (Prod.mk.inj (Option.some.inj h2)).2))
theorem ZUwb:∀w os,(Pn pw (ftW w vG) os).map (λs=>PySem.W.Fast.tw4187177175401517315 vw ["KINDS_ASKED"] (PySem.W.Fast.tw5923862056798008813 pw.main.body) (XtOf rw_ vw) vF s.abs)=vD (openGood vw ["KINDS_ASKED"]):=λw os=>by kernel_rfl
theorem ZUwa:∀w os,(Pn pw (ftW w vG) os).map (λs=>(Oc pw (ftW w vG) s.abs,Pz asks s.abs.heap))=vD (vF,Ov asks):=λw os=>by kernel_rfl
theorem ZUw:∀w os,(Pn pw (ftW w vG) os).map (λs=>(Oc pw (ftW w vG) s.abs,PySem.W.Fast.tw4187177175401517315 vw ["KINDS_ASKED"] (PySem.W.Fast.tw5923862056798008813 pw.main.body) (XtOf rw_ vw) vF s.abs,Pz asks s.abs.heap))=vD (vF,openGood vw ["KINDS_ASKED"],Ov asks):=λw os=>by
 have h1:=ZUwb w os
 have h2:=ZUwa w os
 revert h1 h2
 generalize Pn pw (ftW w vG) os=o
 intro h1 h2
 cases o with
 |none=>cases h2
 |some s=>exact congrArg some (Prod.ext (Prod.mk.inj (Option.some.inj h2)).1 (Prod.ext (Option.some.inj h1) (Prod.mk.inj (Option.some.inj h2)).2))
theorem ZUB:∀w os,(Pn pw w os).map (λs=>(Oc pw w s.abs,PySem.W.Fast.tw4187177175401517315 vw ["KINDS_ASKED"] (PySem.W.Fast.tw5923862056798008813 pw.main.body) (XtOf rw_ vw) vF s.abs,Pz asks s.abs.heap))=vD (vF,openGood vw ["KINDS_ASKED"],Ov asks):=ZUk ZSH ZUw
theorem well:rw_.wellSaid=vF:=ZKX (by kernel_rfl)
theorem hdef:defOf vw rw_.row.name=vD (dOf Hb,[]):=by kernel_rfl
theorem hp:rw_.row.prog.theDef rw_.row.name=vD ((dOf Hb).params,(dOf Hb).body,(dOf Hb).scope):=by kernel_rfl
theorem hk:kwWritten? (dOf Hb).params.kwonlyargs (dOf Hb).params.kw_defaults=vD []:=by kernel_rfl
theorem hok:(chainsOk vw&&opensWell rw_.row.prog&&(frees rw_.row.toRowW&&rw_.row.within.isEmpty))=vF:=by kernel_rfl
theorem hdf:(dOf Hb).params.defaults=[]:=by kernel_rfl
theorem hbare:rw_.row.prog.bare:=⟨rfl,rfl,rfl,rfl,rfl,by decide +kernel⟩
theorem hw:rw_.row.toRowW.promised:=by w_witness2
end _W
namespace _L
open PySem PySem.Spec PyProof.Rows
variable{t':Nat}{s:xB}{vC:List (xz×Obj)}{K:PySem.W.Frag}{tg:xw}{P:x0}
noncomputable abbrev Key:=Sum Int Str
def Nr:Key->xD->Bool
 |.inl k,v=>Value.isInt k v
 |.inr x,v=>Value.isStrOf x v
def keyH(w:xE):Key->Int
 |.inl k=>hashInt k
 |.inr x=>hashStr w x
theorem J9:∀{k:Key}{v:xD},Nr k v=vF->(∃i t,k=Sum.inl i/\v=Value.int i t)∨(∃x t,k=Sum.inr x/\v=Value.str x t)
 |.inl i,v,h=>by obtain⟨t,e⟩:=Value.isInt_shape (k:=i) (v:=v) h;exact .inl ⟨i,t,rfl,e⟩
 |.inr x,v,h=>by obtain⟨t,e⟩:=Value.isStrOf_shape (x:=x) (v:=v) h;exact .inr ⟨x,t,rfl,e⟩
theorem ZLD(i:Int)(t:Tok):Nr (.inl i) (.int i t)=vF:=by simp[Nr,Value.isInt]
theorem ZSD(x:Str)(t:Tok):Nr (.inr x) (.str x t)=vF:=by simp[Nr,Value.isStrOf]
theorem ZO6(a b:Int):decide ((Sum.inl a:Key)=Sum.inl b)=(a==b):=by
 by_cases e:a=b
 ·subst e;simp
 ·have h:¬(Sum.inl a:Key)=Sum.inl b:=λq=>e (Sum.inl.inj q)
  rw[decide_eq_false h];exact(beq_eq_false_iff_ne.mpr e).symm
theorem ZUi(a b:Str):decide ((Sum.inr a:Key)=Sum.inr b)=decide (a=b):=by
 by_cases e:a=b
 ·subst e;simp
 ·have h:¬(Sum.inr a:Key)=Sum.inr b:=λq=>e (Sum.inr.inj q)
  rw[decide_eq_false h,decide_eq_false e]
theorem ZMz(a:Int)(b:Str):decide ((Sum.inl a:Key)=Sum.inr b)=vG:=decide_eq_false (λq=>nomatch q)
theorem ZLi(a:Str)(b:Int):decide ((Sum.inr a:Key)=Sum.inl b)=vG:=decide_eq_false (λq=>nomatch q)
def Gg(prog:x0)(w:xE):PySem.KeyKind prog w Key where
 is:=Nr
 hash:=keyH w
 inj:=λv a b ha hb=>by
  rcases J9 ha with⟨i,t,rfl,rfl⟩|⟨x,t,rfl,rfl⟩
  ·rcases J9 hb with⟨j,u,rfl,e⟩|⟨y,u,rfl,e⟩
   ·injection e with e1 _;rw[e1]
   ·exact nomatch e
  ·rcases J9 hb with⟨j,u,rfl,e⟩|⟨y,u,rfl,e⟩
   ·exact nomatch e
   ·injection e with e1 _;rw[e1]
 byValue:=λk v h=>by rcases J9 h with⟨i,t,rfl,rfl⟩|⟨x,t,rfl,rfl⟩<;>rfl
 pyHash:=λhv h=>by
  rcases J9 hv with⟨i,t,rfl,rfl⟩|⟨x,t,rfl,rfl⟩
  ·exact wpAny_pyHash_int h
  ·exact wpAny_pyHash_str h
 eqBool:=λhu hv h=>by
  rcases J9 hu with⟨i,t,rfl,rfl⟩|⟨x,t,rfl,rfl⟩
  ·rcases J9 hv with⟨j,u,rfl,rfl⟩|⟨y,u,rfl,rfl⟩
   ·rw[ZO6]at h;exact wpAny_eqBool_int h
   ·rw[ZMz]at h;exact SeqAt.EqAt.int_str i t y u _ _ _ _ h
  ·rcases J9 hv with⟨j,u,rfl,rfl⟩|⟨y,u,rfl,rfl⟩
   ·rw[ZLi]at h;exact SeqAt.EqAt.str_int x t j u _ _ _ _ h
   ·rw[ZUi]at h;exact wpAny_eqBool_str h
 «strs»:=λk x t v h=>by
  rcases J9 h with⟨i,u,rfl,e⟩|⟨y,u,rfl,e⟩
  ·exact nomatch e
  ·injection e with e1 _
   subst e1
   cases v<;>rfl
theorem ZSf(prog:x0)(w:xE)(i:Int)(t:Tok):(Gg prog w).is (.inl i) (.int i t)=vF:=ZLD i t
theorem ZQ2(prog:x0)(w:xE)(x:Str)(t:Tok):(Gg prog w).is (.inr x) (.str x t)=vF:=ZSD x t
inductive V where
 |non|bl (b:Bool)|int (i:Int)|str (x:Str)|byt (b:Array UInt8)|flt (b:UInt64)|ref (a:xz)|ty (n:String)
 deriving DecidableEq
def RelV:V->xD->Prop
 |.non,u=>u=Value.none
 |.bl b,u=>u=Value.bool b
 |.int i,u=>∃t,u=Value.int i t
 |.str x,u=>∃t,u=Value.str x t
 |.byt b,u=>∃t,u=Value.bytes b t
 |.flt b,u=>∃t,u=Value.float b t
 |.ref a,u=>u=Value.ref a
 |.ty n,u=>u=Value.type n
abbrev Vals:List V->List xD->Prop:=Paired RelV
theorem Vals.length{xs:List V}{us:List xD}(r:Vals xs us):xs.length=us.length:=Paired.length r
theorem Vals.get:∀{xs:List V}{us:List xD}{i:Nat}{x:V},Vals xs us->xs[i]?=vD x->∃u,us[i]?=vD u/\RelV x u
 |_,_,_,_,.nil,e=>by simp at e
 |_,_,0,_,.cons r _,e=>by simp at e;subst e;exact⟨_,rfl,r⟩
 |_,_,i+1,x,.cons _ t,e=>by obtain⟨u,d,j⟩:=Vals.get (i:=i) (x:=x) t (by simpa using e);exact⟨u,by simpa using d,j⟩
theorem Vals.set(r:RelV x u):∀{xs:List V}{us:List xD}(i:Nat),Vals xs us->Vals (xs.set i x) (us.set i u)
 |_,_,_,.nil=>.nil
 |_,_,0,.cons _ t=>.cons r t
 |_,_,i+1,.cons q t=>.cons q (Vals.set r i t)
theorem Vals.append:∀{xs ys:List V}{us ws:List xD},Vals xs us->Vals ys ws->Vals (xs++ys) (us++ws)
 |_,_,_,_,.nil,s=>s
 |_,_,_,_,.cons r t,s=>.cons r (Vals.append t s)
theorem Vals.take:∀{xs:List V}{us:List xD}(n:Nat),Vals xs us->Vals (xs.take n) (us.take n)
 |_,_,0,_=>.nil
 |_,_,_+1,.nil=>.nil
 |_,_,n+1,.cons r t=>.cons r (Vals.take n t)
theorem Vals.drop:∀{xs:List V}{us:List xD}(n:Nat),Vals xs us->Vals (xs.drop n) (us.drop n)
 |_,_,0,r=>r
 |_,_,_+1,.nil=>.nil
 |_,_,n+1,.cons _ t=>Vals.drop n t
def RelO:Option V->Option xD->Prop
 |some v,vD u=>RelV v u
 |none,vE=>True
 |_,_=>False
def KV{κ:Type}:List (κ×V)->List (κ×xD)->Prop:=Paired λ(p:κ×V)(q:κ×xD)=>p.1=q.1/\RelV p.2 q.2
def kV:Key->V
 |.inl i=>.int i
 |.inr x=>.str x
inductive HO where
 |lst (xs:List V)
 |tup (xs:List V)
 |dK (kvs:List (Key×V))|dT (kvs:List (List Key×V))
 |set (S:Int->Bool) (n:Nat)
 |ins (C dx:xz) (fs:List (Str×V))
 |own (x:xz)
 |xd (fs:List (Str×V))
 |met (f x:xz)
 |rng (lo hi:Int)
 |frz (o:Obj) (u:HO)
 |tbl (ps:Array xD)
 |ext (φ:Heap->Prop)
noncomputable abbrev Hp:=xz->Option HO
noncomputable def upd(H:Hp)(a:xz)(o:HO):Hp:=λb=>if b=a then vD o else H b
theorem Ej:upd H a o a=vD o:=by unfold upd;rw[if_pos rfl]
theorem Al(h:b≠a):upd H a o b=H b:=by unfold upd;rw[if_neg h]
theorem Gr{H:Hp}{a b:xz}{o:HO}(h:H a=vD o)(h':H b=vE):a≠b:=by intro e;subst e;rw[h]at h';cases h'
section
variable(P:x0)(w:xE)
def ObjOk(H:Hp)(h:Heap)(a:xz):HO->Prop
 |.lst xs=>xs.length<=sizeLine/\∃(its:List xD)(n:Nat),Vals xs its/\h.get? a=vD {cls:=.type "list",data:=.seq its.toArray n}
 |.tup xs=>xs.length<=sizeLine/\∃its:List xD,Vals xs its/\IsTup h a its.toArray
 |.dK kvs=>kvs.length<=sizeLine/\(a==sysModules)=vG/\∃vs,KV kvs vs/\h.DictOf (Gg P w) a vs
 | .dT kvs=>kvs.length<=sizeLine/\(a==sysModules)=vG/\∃xs:List (List Key×xz×xD),
   Paired (λ(p:List Key×V)(q:List Key×xz×xD)=>p.1=q.1/\H q.2.1=vD (.tup (p.1.map kV))/\RelV p.2 q.2.2) kvs xs/\
   ∃o es ep,h.get? a=vD o/\o.ExactDict/\o.data=.dict es ep/\es.toList=xs.map (entryOfKey (tupleKind (Gg P w)))/\(xs.map (·.1)).Nodup
 |.set S n=>h.SetOf (intKind P w) a S n
 | .ins C dx fs=>H dx=vD (.own a)/\fs.length<=1000/\dx≠a/\h.get? a=vD (PySem.W.instObj C dx)/\
   ∃mA,h.Ns1 dx mA/\(∀f,RelO (fs.lookup f) (mA f))/\PySem.Within mA (fs.map (·.1))
 |.own _=>∃o,h.get? a=vD o
 |.xd fs=>∃mA,h.Ns1 a mA/\∀f,RelO (fs.lookup f) (mA f)
 |.rng lo hi=>∃t u v,h.get? a=vD {cls:=.type "range",data:=.fields #[.int lo t,.int hi u,.int 1 v]}
 |.frz o u=>h.get? a=vD o/\ObjOk H h a u
 |.tbl ps=>h.get? a=vD {cls:=.none,data:=.fields ps}
 |.met f x=>h.get? a=vD (PySem.W.methodObj (.ref f) (.ref x))
 |.ext φ=>φ h/\(∃o,h.get? a=vD o)/\∀h1 h2:Heap,φ h1->(∀o,h1.get? a=vD o->h2.get? a=vD o)->φ h2
def HOk(H:Hp)(h:Heap):Prop:=∀a o,H a=vD o->ObjOk P w H h a o
end
section
variable{P:x0}{w:xE}{H H':Hp}{h h':Heap}{a:xz}{o:HO}
theorem ObjOk.lt(x:ObjOk P w H h a o):a<h.objs.size:=by
 cases o with
 |lst i=>obtain⟨_,_,_,_,e⟩:=x;exact zx e
 |tup i=>obtain⟨_,_,_,p⟩:=x;exact p.lt
 |dK d=>obtain⟨_,_,_,_,o,_,_,e,_⟩:=x;exact zx e
 |dT d=>obtain⟨_,_,_,_,o,_,_,e,_⟩:=x;exact zx e
 |set S n=>obtain⟨o,_,_,_,e,_⟩:=x;exact zx e
 |ins C F fs=>obtain⟨_,_,_,e,_⟩:=x;exact zx e
 |own y=>obtain⟨_,e⟩:=x;exact zx e
 |xd fs=>obtain⟨_,⟨_,_,_,e,_⟩,_⟩:=x;exact zx e
 |rng B z=>obtain⟨_,_,_,e⟩:=x;exact zx e
 |frz j u=>obtain⟨e,_⟩:=x;exact zx e
 |tbl q=>exact zx (show h.get? a=vD _ from x)
 |met f y=>exact zx (show h.get? a=vD _ from x)
 |ext I=>obtain⟨_,⟨_,e⟩,_⟩:=x;exact zx e
theorem Paired.mapP{i d:Type}{F G:i->d->Prop}:∀{l₁:List i}{l₂:List d},Paired F l₁ l₂->(∀a b,F a b->G a b)->Paired G l₁ l₂
 |_,_,.nil,_=>.nil
 |_,_,.cons r t,f=>.cons (f _ _ r) (Paired.mapP t f)
theorem ObjOk.stay(x:ObjOk P w H h a o)(k:∀b u,(b=a∨H b=vD (.own a))->h.get? b=vD u->h'.get? b=vD u)
  (ho:∀b,H b=vD (.own a)->H' b=vD (.own a)) (U:∀b xs,H b=vD (.tup xs)->H' b=vD (.tup xs)):ObjOk P w H' h' a o:=by
 induction o with
 |lst xs=>obtain⟨z,F,n,r,e⟩:=x;exact⟨z,F,n,r,k _ _ (.inl rfl) e⟩
 |tup xs=>obtain⟨z,F,r,i,e,c⟩:=x;exact⟨z,F,r,i,k _ _ (.inl rfl) e,c⟩
 |dK L=>obtain⟨z,y,vs,r,i,B,j,e,c⟩:=x;exact⟨z,y,vs,r,i,B,j,k _ _ (.inl rfl) e,c⟩
 |dT L=>
  obtain⟨z,y,xs,r,i,B,j,e,c⟩:=x;exact⟨z,y,xs,Paired.mapP r λp q z=>⟨z.1,U _ _ z.2.1,z.2.2⟩,i,B,j,k _ _ (.inl rfl) e,c⟩
 |set S n=>obtain⟨i,B,j,t,e,c⟩:=x;exact⟨i,B,j,t,k _ _ (.inl rfl) e,c⟩
 |ins C dx fs=>
  obtain⟨d,z,O,e,J,⟨I,B,j,Y,c⟩,r⟩:=x;exact⟨ho _ d,z,O,k _ _ (.inl rfl) e,J,⟨I,B,j,k _ _ (.inr d) Y,c⟩,r⟩
 |own y=>obtain⟨i,e⟩:=x;exact⟨i,k _ _ (.inl rfl) e⟩
 |xd fs=>obtain⟨J,⟨I,B,j,e,c⟩,r⟩:=x;exact⟨J,⟨I,B,j,k _ _ (.inl rfl) e,c⟩,r⟩
 |rng lo hi=>obtain⟨t,u,v,e⟩:=x;exact⟨t,u,v,k _ _ (.inl rfl) e⟩
 |frz i u Z=>obtain⟨e,q⟩:=x;exact⟨k _ _ (.inl rfl) e,Z q⟩
 |tbl M=>
  have e:h.get? a=vD {cls:=.none,data:=.fields M}:=x;show h'.get? a=vD {cls:=.none,data:=.fields M};exact k a _ (.inl rfl) e
 |met f y=>
  have e:h.get? a=vD (PySem.W.methodObj (.ref f) (.ref y)):=x;show h'.get? a=vD (PySem.W.methodObj (.ref f) (.ref y));exact k a _ (.inl rfl) e
 |ext φ=>obtain⟨p,⟨o,e⟩,N⟩:=x;exact⟨N _ _ p λo q=>k _ _ (.inl rfl) q,⟨o,k _ _ (.inl rfl) e⟩,N⟩
theorem HOk.lt(x:HOk P w H h)(e:H a=vD o):a<h.objs.size:=(x a o e).lt
theorem HOk.fresh(x:HOk P w H h)(e:h.objs.size<=a):H a=vE:=by
 cases q:H a with
 |none=>rfl
 |some u=>exact absurd (zz (x.lt q) e) (qW _)
theorem HOk.kept(x:HOk P w H h)(k:∀b u,h.get? b=vD u->h'.get? b=vD u):HOk P w H h':=λa o e=>
 (x a o e).stay (λb u _ q=>k b u q) (λ_ q=>q) λ_ _ q=>q
theorem HOk.laid(x:HOk P w H h)(k:∀b u,h.get? b=vD u->h'.get? b=vD u)(hp:h.objs.size<=a)(new:ObjOk P w (upd H a o) h' a o):HOk P w (upd H a o) h':=λb u e=>by
 have d:=x.fresh hp;by_cases i:b=a
 ·subst i;rw[Ej]at e;cases e;exact new
 ·rw[Al i]at e;exact(x b u e).stay (λc v _ q=>k c v q) (λc q=>by rw[Al (Gr q d)];exact q) λc j q=>by rw[Al (Gr q d)];exact q
end
def Rd(H:Hp)(a:xz)(u:HO):Prop:=H a=vD u∨∃o,H a=vD (.frz o u)
theorem Rd.ok(r:Rd H a u)(x:HOk P w H h):ObjOk P w H h a u:=by
 rcases r with r|⟨o,r⟩
 ·exact x a u r
 ·obtain⟨_,q⟩:=x a _ r;exact q
def Mut:Option HO->Prop
 |some (.lst _)=>True
 |some (.dK _)=>True
 |some (.dT _)=>True
 |some (.set _ _)=>True
 |some (.ins _ _ _)=>True
 |some (.ext _)=>True
 |_=>False
section
variable{P:x0}{w:xE}{H:Hp}{h h':Heap}{x e:xz}{o':HO}
theorem HOk.write(ok:HOk P w H h)(F:Mut (H x))(L:e=x∨H e=vD (.own x))(k:∀b u,b≠e->h.get? b=vD u->h'.get? b=vD u)(J:∃u,h'.get? e=vD u)
  (new:ObjOk P w (upd H x o') h' x o'):HOk P w (upd H x o') h':=λb u q=>by
 have i:∀c y,H c=vD (.own y)->c≠x:=λc y r z=>by subst z;rw[r]at F;exact F
 have j:∀c n,H c=vD (.tup n)->c≠x:=λc n r z=>by subst z;rw[r]at F;exact F
 by_cases I:b=x
 ·subst I;rw[Ej]at q;cases q;exact new
 ·rw[Al I]at q;by_cases d:b=e
  ·have M:H b=vD (.own x):=by
    rcases L with z|z
    ·exact absurd (d.trans z) I
    ·rw[d];exact z
   rw[q]at M;cases M;obtain⟨v,N⟩:=J;exact⟨v,by rw[d];exact N⟩
  ·refine(ok b u q).stay (λc v B r=>k c v ?_ r) (λc r=>by rw[Al (i c b r)];exact r) λc n r=>by rw[Al (j c n r)];exact r
   rcases B with rfl|B
   ·exact d
   ·rintro rfl;rcases L with z|z
    ·exact i c b B z
    ·rw[B]at z;cases z;exact I rfl
end
structure Un (fs ex:List xz) (H H':Hp) (h h':Heap):Prop where
 keep:∀b o,h.get? b=vD o->H b=vE->b∉fs->b∉ex->h'.get? b=vD o
 slot:∀b o,h.get? b=vD o->H b=vE->b∈fs->b∉ex->∃sl,h'.get? b=vD {o with slots:=sl}
 free:∀b o,h.get? b=vD o->H b=vE->b∉ex->H' b=vE
 there:∀b o,h.get? b=vD o->b∉ex->∃o',h'.get? b=vD o'
 tups:∀b xs,H b=vD (.tup xs)->H' b=vD (.tup xs)
 frzs:∀b o u,H b=vD (.frz o u)->H' b=vD (.frz o u)
 tbls:∀b ps,H b=vD (.tbl ps)->∃more,H' b=vD (.tbl (ps++more))
section
variable{fs fs' ex ex':List xz}{H H1 H2:Hp}{h h1 h2 h':Heap}{a x e:xz}{o:HO}
theorem Un.any(u:Un fs ex H H1 h h1)(q:h.get? b=vD ob)(n:H b=vE)(i:b∉ex):∃y,h1.get? b=vD {ob with slots:=y}:=by
 by_cases j:b∈fs
 ·exact u.slot b ob q n j i
 ·exact⟨ob.slots,u.keep b ob q n j i⟩
theorem Un.kept(k:∀b u,h.get? b=vD u->h'.get? b=vD u):Un fs ex H H h h':=
 ⟨λb d q _ _ _=>k b d q,λb d q _ _ _=>⟨d.slots,k b d q⟩,λ_ _ _ n _=>n,λb d q _=>⟨d,k b d q⟩,λ_ _ q=>q,λ_ _ _ q=>q,λ_ i q=>⟨#[],by rw[q];simp⟩⟩
theorem Un.refl:Un fs ex H H h h:=Un.kept λ_ _ q=>q
theorem Un.laid(k:∀b u,h.get? b=vD u->h'.get? b=vD u)(hp:h.objs.size<=a)(d:H a=vE):Un fs ex H (upd H a o) h h' where
 keep:=λb u q _ _ _=>k b u q
 slot:=λb u q _ _ _=>⟨u.slots,k b u q⟩
 free:=λb u q n _=>by rw[Al (zE (zz (zx q) hp))];exact n
 there:=λb u q _=>⟨u,k b u q⟩
 tups:=λb i q=>by rw[Al (Gr q d)];exact q
 frzs:=λb u i q=>by rw[Al (Gr q d)];exact q
 tbls:=λb j q=>⟨#[],by rw[Al (Gr q d),q];simp⟩
theorem Un.write(i:Mut (H x))(L:e=x∨H e=vD (.own x))(k:∀b u,b≠e->h.get? b=vD u->h'.get? b=vD u)(y:∃u,h'.get? e=vD u):Un fs ex H (upd H x o) h h':=by
 have F:∀b,H b=vE->b≠x:=λb n z=>by subst z;rw[n]at i;exact i
 have B:∀b,H b=vE->b≠e:=λb n z=>by
  subst z;rcases L with r|r
  ·exact F b n r
  ·rw[n]at r;cases r
 have j:∀b u,H b=vD u->¬Mut (vD u)->b≠x:=λb u q J z=>by subst z;rw[q]at i;exact J i
 refine⟨λb u q n _ _=>k b u (B b n) q,λb u q n _ _=>⟨u.slots,k b u (B b n) q⟩,λb u q n _=>by rw[Al (F b n)];exact n,λb u q _=>?_,
  λb I q=>by rw[Al (j b _ q λz=>z)];exact q,λb u I q=>by rw[Al (j b _ q λz=>z)];exact q,λb M q=>⟨#[],by rw[Al (j b _ q λz=>z),q];simp⟩⟩
 by_cases d:b=e
 ·subst d;exact y
 ·exact⟨u,k b u d q⟩
end
noncomputable def trk(h:Heap)(H:Hp):List xz:=(zQ h.objs.size).filter λa=>(H a).isSome
def Iw(h:Heap)(H:Hp):Heap:=PySem.W.hideAll h (trk h H)
theorem ZSz(h:Heap)(H:Hp):(Iw h H).objs.size=h.objs.size:=PySem.W.hideAll_size _ _
theorem ZKb(e:h.get? b=vD o)(n:H b=vE):(Iw h H).get? b=vD o:=
 PySem.W.hideAll_get _ e λd=>by have q:(H b).isSome=vF:=(List.mem_filter.mp d).2;rw[n]at q;simp at q
theorem ZTb(e:(Iw h H).get? b=vD o):h.get? b=vD o/\H b=vE:=by
 have d:h.get? b=vD o:=PySem.W.of_hideAll (trk h H) e;refine⟨d,?_⟩;cases q:H b with
 |none=>rfl
 |some x=>
  have i:b∈trk h H:=List.mem_filter.mpr ⟨qq.mpr (zx d),by simp[q]⟩;have z:(Iw h H).get? b=vE:=PySem.W.hideAll_none (trk h H) i;rw[z]at e;cases e
noncomputable def ZT2(g h:Heap)(L:xz):List (xz×Obj):=(zQ h.objs.size).filterMap λa=>if a=L∨(g.get? a).isSome=vF then vE else(h.get? a).map λo=>(a,o)
def rest(g h:Heap)(L d:xz):List (xz×Obj):=(ZT2 g h L).filter λp=>decide (p.1≠d)
structure Mod (K:PySem.W.Frag) (mg:Str->Option xD) (base:Heap):Prop where
 kin:K.In base
 glob:base.Ns vQ mg
 blt:∃mb,base.Ns builtinsNs mb/\∀x:Str,x≠"__name__"->mb x=xN x
 nolimit:base.NoLimit
structure Cx where
 prog:x0
 w:xE
 K:PySem.W.Frag
 mg:Str->Option xD
 base:Heap
 A:xj
 N:List Str
 s₀:xB
 H₀:Hp
 env:Env
 outer:List Env
 stack:List Env
 ex:List xz
 fn:Str->Bool
 calm:Bool
 pn:List (xz×Obj)
 xe:xD->xB->Prop
noncomputable def frs(l:List Env):List xz:=l.filterMap (·.frame)
noncomputable abbrev Cx.fs(X:Cx):List xz:=frs X.outer
def Vis(sc:xA)(x:Str):Prop:=sc.names.lookup x=vD .local∨sc.names.lookup x=vD .cell∨sc.names.lookup x=vD .free
def Loc(sc:xA)(x:Str):Prop:=sc.names.lookup x=vD .local∨sc.names.lookup x=vD .cell
def Look(env:Env)(h:Heap)(m:Str->Option xD)(x:Str)(u:xD):Prop:=
 (env.kindOf x=vD .local/\m x=vD u)∨((env.kindOf x=vD .cell∨env.kindOf x=vD .free)/\∃c,env.cells.lookup x=vD c/\h.IsCell c (vD u))
structure Cx.Ok (X:Cx):Prop where
 mod:Mod X.K X.mg X.base
 kind:X.env.scope.kind=.function
 glob:X.env.globals=vQ
 blt:X.env.builtins=builtinsNs
 above:X.s₀.heap.objs.size<=X.env.locals
 inj:∀x y c,X.env.cells.lookup x=vD c->X.env.cells.lookup y=vD c->x=y
 has:∀x,(X.env.kindOf x=vD .cell∨X.env.kindOf x=vD .free)->∃c,X.env.cells.lookup x=vD c
 cab:∀x c,X.fn x=vF->X.env.cells.lookup x=vD c->X.s₀.heap.objs.size<=c
 hd:X.calm=vF->X.A.handled=vE
 frames:X.A.frames=vD X.stack
 stk:X.stack=X.outer∨(X.stack=X.env::X.outer/\X.env.frame=vD X.env.locals)
 exf:∀b∈X.ex,b≠X.env.locals/\∀x c,X.env.cells.lookup x=vD c->c≠b
 bs:∀b o,X.base.get? b=vD o->X.s₀.heap.get? b=vD o/\X.H₀ b=vE
 bsz:X.base.objs.size<=X.s₀.heap.objs.size
 noex:∀b o,X.base.get? b=vD o->b∉X.ex
 exfs:∀b∈X.ex,b∉X.fs
 funs:X.s₀.heap.FunFrames X.base X.outer
 frf:∀b∈X.fs,X.H₀ b=vE
structure Inv (X:Cx) (vC:List (xz×Obj)) (σ:List (Option V)) (H:Hp) (s:xB):Prop where
 ok:X.Ok
 os:s.os=X.s₀.os
 bare:AllBare s.gens
 base:Un X.fs X.ex X.H₀ H X.s₀.heap s.heap
 loc:∃m,s.heap.Ns X.env.locals m/\∀(i:Nat)(x:Str)(v:V),X.N[i]?=vD x->σ[i]?=vD (vD v)->Vis X.env.scope x->∃u,RelV v u/\Look X.env s.heap m x u
 cell:∀x c,X.env.cells.lookup x=vD c->∃v,s.heap.IsCell c v
 free:H X.env.locals=vE
 Hm:∀x c,X.env.cells.lookup x=vD c->H c=vE
 pin:∀p∈X.pn++vC,s.heap.get? p.1=vD p.2/\H p.1=vE/\p.1≠X.env.locals/\p.1∉X.fs/\∀v,p.2.data≠ .cell v
 hok:HOk X.prog X.w H s.heap
 len:σ.length=X.N.length
section
variable{X:Cx}{vC:List (xz×Obj)}{σ:List (Option V)}{H H':Hp}{s:xB}{h':Heap}
theorem Cx.Ok.nofr(ok:X.Ok)(e:X.base.get? b=vD o):b∉X.fs:=λd=>by have:=(ok.funs.mem d).1;rw[e]at this;cases this
theorem Inv.bs(I:Inv X vC σ H s):∀b o,X.base.get? b=vD o->s.heap.get? b=vD o/\H b=vE:=λb o e=>
 ⟨I.base.keep b o (I.ok.bs b o e).1 (I.ok.bs b o e).2 (I.ok.nofr e) (I.ok.noex b o e),I.base.free b o (I.ok.bs b o e).1 (I.ok.bs b o e).2 (I.ok.noex b o e)⟩
theorem Inv.bk(I:Inv X vC σ H s):∀b o,X.base.get? b=vD o->s.heap.get? b=vD o:=λb o e=>(I.bs b o e).1
theorem Inv.mod(I:Inv X vC σ H s):Mod X.K X.mg X.base:=I.ok.mod
theorem Inv.kIn(I:Inv X vC σ H s):X.K.In s.heap:=I.ok.mod.kin.keeps I.bk
theorem Inv.lt(I:Inv X vC σ H s):X.env.locals<s.heap.objs.size:=let⟨_,d,_⟩:=I.loc;d.lt
theorem Inv.sz(I:Inv X vC σ H s):X.s₀.heap.objs.size<=s.heap.objs.size:=zA I.ok.above (Nat.le_of_lt I.lt)
theorem Inv.nofs(I:Inv X vC σ H s){a:xz}(h:s.heap.objs.size<=a):a∉X.fs:=λi=>by obtain⟨_,o,d,_⟩:=I.ok.funs.mem i;exact absurd (zz (zx d) (zA I.sz h)) (qW _)
theorem Inv.cne(I:Inv X vC σ H s):∀x c,X.env.cells.lookup x=vD c->c≠X.env.locals:=λx c e z=>by obtain⟨v,o,n,j⟩:=I.cell x c e;obtain⟨m,⟨q,B,y,i,d,_⟩,_⟩:=I.loc;rw[z,i]at n;cases n;rw[d]at j;cases j
theorem Inv.funs(I:Inv X vC σ H s):s.heap.FunFrames X.base X.outer:=by
 have all:∀(l:List Env),(∀b∈frs l,b∈X.fs)->X.s₀.heap.FunFrames X.base l->s.heap.FunFrames X.base l:=by
  intro l
  induction l with
  |nil=>intro _ _;trivial
  |cons M r J=>
   intro n q;obtain⟨hk,⟨L,o,i,y,N,B⟩,F⟩:=q;have d:L∈X.fs:=n L (by unfold frs;rw[q9,i];exact zW);obtain⟨O,e⟩:=I.base.slot L o N (I.ok.frf L d) d λz=>I.ok.exfs L z d
   exact⟨hk,⟨L,_,i,y,e,B⟩,J (λb j=>n b (by unfold frs;rw[q9,i];exact zZ _ j)) F⟩
 exact all X.outer (λ_ j=>j) I.ok.funs
theorem Inv.stack(I:Inv X vC σ H s):s.heap.FunFrames X.base X.stack:=by
 rcases I.ok.stk with e|⟨e,i⟩
 ·rw[e];exact I.funs
 ·rw[e];obtain⟨m,d,_⟩:=I.loc;refine .cons (by rw[I.ok.kind];decide) i d ?_ I.funs;exact Heap.get?_none_of_le (zA I.ok.bsz I.ok.above)
theorem Inv.Vf(I:Inv X vC σ H s):∀b∈frs X.stack,b∈X.env.locals::X.fs:=λb d=>by
 rcases I.ok.stk with e|⟨e,i⟩
 ·rw[e]at d;exact zZ _ d
 ·rw[e]at d;unfold frs at d;rw[q9,i]at d;exact d
theorem Inv.ZGG(I:Inv X vC σ H s):∀b∈frs X.stack,H b=vE:=λb d=>by
 rcases zq.mp (I.Vf b d)with e|d
 ·rw[e];exact I.free
 ·obtain⟨_,o,i,_⟩:=I.ok.funs.mem d;exact I.base.free b o i (I.ok.frf b d) λz=>I.ok.exfs b z d
theorem Inv.step{g':Array GenState}{d':Drawn}{ch:List xz}(I:Inv X vC σ H s)
  (J:∀b∈ch,(b∈X.ex∨X.s₀.heap.objs.size<=b)/\b≠X.env.locals/\(∀x c,X.env.cells.lookup x=vD c->c≠b)/\∀p∈X.pn++vC,p.1≠b)
  (F:∀b o,b≠X.env.locals->b∉X.fs->b∉ch->s.heap.get? b=vD o->H b=vE->h'.get? b=vD o)
  (L:∀b o,b≠X.env.locals->b∈X.fs->b∉ch->s.heap.get? b=vD o->H b=vE->∃sl,h'.get? b=vD {o with slots:=sl}) (free:∀b o,b∉ch->s.heap.get? b=vD o->H b=vE->H' b=vE)
  (B:∀b o,b∉ch->s.heap.get? b=vD o->∃o',h'.get? b=vD o')
  (U:∀b xs,H b=vD (.tup xs)->H' b=vD (.tup xs)) (W:∀b o u,H b=vD (.frz o u)->H' b=vD (.frz o u)) (Y:∀b ps,H b=vD (.tbl ps)->∃more,H' b=vD (.tbl (ps++more)))
  (ns:∀m,s.heap.Ns X.env.locals m->h'.Ns X.env.locals m) (hok:HOk X.prog X.w H' h') (hg:AllBare g'):
  Inv X vC σ H' {s with heap:=h',gens:=g',drawn:=d',toks:=t'}:=by
 have neL:∀b o,X.s₀.heap.get? b=vD o->b≠X.env.locals:=λb o e=>zE (zz (zx e) I.ok.above)
 have S:∀b o,X.s₀.heap.get? b=vD o->b∉X.ex->b∉ch:=λb o e y Z=>by
  rcases(J b Z).1 with z|z
  ·exact y z
  ·exact absurd (zz (zx e) z) (qW _)
 have N:∀x c,X.env.cells.lookup x=vD c->∀v,s.heap.IsCell c v->h'.IsCell c v:=λx c e v ⟨o,ho,hd⟩=>by
  have M:c∉ch:=λz=>(J c z).2.2.1 x c e rfl
  by_cases hc:c∈X.fs
  ·obtain⟨sl,q⟩:=L c o (I.cne x c e) hc M ho (I.Hm x c e);exact⟨_,q,hd⟩
  ·exact⟨o,F c o (I.cne x c e) hc M ho (I.Hm x c e),hd⟩
 refine⟨I.ok,I.os,hg,⟨λb o e n Z y=>?_,λb o e n Z y=>?_,λb o e n y=>?_,λb o e y=>?_,λb xs e=>U b xs (I.base.tups b xs e),λb o xs e=>W b o xs (I.base.frzs b o xs e),λb ps e=>?_⟩,?_,λx c e=>?_,?_,λx c e=>?_,λp hp=>?_,hok,I.len⟩
 ·exact F b o (neL b o e) Z (S b o e y) (I.base.keep b o e n Z y) (I.base.free b o e n y)
 ·obtain⟨sl,O⟩:=I.base.slot b o e n Z y;obtain⟨sl',e2⟩:=L b _ (neL b o e) Z (S b o e y) O (I.base.free b o e n y);exact⟨sl',e2⟩
 ·obtain⟨o',O⟩:=I.base.there b o e y;exact free b o' (S b o e y) O (I.base.free b o e n y)
 ·obtain⟨o',O⟩:=I.base.there b o e y;exact B b o' (S b o e y) O
 ·obtain⟨m1,O⟩:=I.base.tbls b ps e;obtain⟨m2,e2⟩:=Y b _ O;exact⟨m1++m2,by rw[e2,Array.append_assoc]⟩
 ·obtain⟨m,hn,hl⟩:=I.loc;refine⟨m,ns m hn,λi x v O e2 e3=>?_⟩;obtain⟨u,r,l⟩:=hl i x v O e2 e3;refine⟨u,r,?_⟩;rcases l with l|⟨k,c,e,z⟩
  ·exact .inl l
  ·exact .inr ⟨k,c,e,N x c e _ z⟩
 ·obtain⟨v,z⟩:=I.cell x c e;exact⟨v,N x c e v z⟩
 ·obtain⟨m,⟨o,_,_,ho,_⟩,_⟩:=I.loc;exact free _ o (λz=>(J _ z).2.1 rfl) ho I.free
 ·obtain⟨v,o,ho,hd⟩:=I.cell x c e;exact free c o (λz=>(J c z).2.2.1 x c e rfl) ho (I.Hm x c e)
 ·obtain⟨e,n,ne,nf,d⟩:=I.pin p hp;have M:p.1∉ch:=λz=>(J p.1 z).2.2.2 p hp rfl
  exact⟨F p.1 p.2 ne nf M e n,free p.1 p.2 M e n,ne,nf,d⟩
theorem Inv.un(I:Inv X vC σ H s)(u:Un X.fs [] H H' s.heap h')(hok:HOk X.prog X.w H' h'):Inv X vC σ H' {s with heap:=h',toks:=t'}:=by
 obtain⟨m,⟨o,W,S,F,r⟩,_⟩:=id I.loc;obtain⟨U,J⟩:=u.any F I.free (by simp)
 exact I.step (g':=s.gens) (d':=s.drawn) (ch:=[]) (λ_ z=>nomatch z) (λb o _ q _ e n=>u.keep b o e n q (by simp)) (λb o _ q _ e n=>u.slot b o e n q (by simp)) (λb o _ e n=>u.free b o e n (by simp)) (λb o _ e=>u.there b o e (by simp)) u.tups u.frzs u.tbls (λN L=>by obtain⟨O,j,y,d,M⟩:=L;rw[F]at d;cases d;exact⟨_,j,y,J,M⟩) hok I.bare
theorem Inv.call{g':Array GenState}{d':Drawn}{ch:List xz}(I:Inv X vC σ H s)(u:Un (frs X.stack) ch H H' s.heap h')(hok:HOk X.prog X.w H' h')(S:AllBare g')
  (j:∀b∈ch,(b∈X.ex∨X.s₀.heap.objs.size<=b)/\b≠X.env.locals/\(∀x c,X.env.cells.lookup x=vD c->c≠b)/\∀p∈X.pn++vC,p.1≠b):
  Inv X vC σ H' {s with heap:=h',gens:=g',drawn:=d',toks:=t'}:=by
 obtain⟨m,⟨o,Z,ep,L,r⟩,_⟩:=id I.loc;obtain⟨Y,B⟩:=u.any L I.free λz=>(j _ z).2.1 rfl
 exact I.step (ch:=ch) j (λb o B U i e n=>u.keep b o e n (λz=>(zq.mp (I.Vf b z)).elim B U) i) (λb o _ _ i e n=>u.any e n i) (λb o i e n=>u.free b o e n i) (λb o i e=>u.there b o e i) u.tups u.frzs u.tbls (λm' O=>by obtain⟨o',y,F,q,W⟩:=O;rw[L]at q;cases q;exact⟨_,y,F,B,W⟩) hok S
theorem Inv.turned{it:xz}(I:Inv X vC σ H s)(k:∀b o,b≠it->s.heap.get? b=vD o->h'.get? b=vD o)(L:H it=vE)(y:it≠X.env.locals)
  (S:it∈X.ex∨X.s₀.heap.objs.size<=it) (M:∀x c,X.env.cells.lookup x=vD c->c≠it) (F:∀p∈X.pn++vC,p.1≠it):Inv X vC σ H {s with heap:=h',toks:=t'}:=by
 have j:∀b u,H b=vD u->b≠it:=λb u e z=>by rw[z,L]at e;cases e
 refine I.step (g':=s.gens) (d':=s.drawn) (ch:=[it]) (λb O=>?_) (λb o _ _ i e _=>k b o (λz=>i (by simp[z])) e) (λb o _ _ i e _=>⟨o.slots,k b o (λz=>i (by simp[z])) e⟩) (λ_ _ _ _ n=>n)
  (λb o i e=>⟨o,k b o (λz=>i (by simp[z])) e⟩) (λ_ _ e=>e) (λ_ _ _ e=>e) (λb Y e=>⟨#[],by rw[e];simp⟩) (λm J=>?_) (λb u e=>?_) I.bare
 ·have e:b=it:=by simpa using O
  subst e;exact⟨S,y,M,F⟩
 ·obtain⟨o,W,N,U,r⟩:=J;exact⟨o,W,N,k _ o (Ne.symm y) U,r⟩
 ·refine(I.hok b u e).stay (λc v i q=>k c v ?_ q) (λ_ q=>q) λ_ _ q=>q
  rcases i with z|z
  ·rw[z];exact j b u e
  ·exact j c _ z
theorem Inv.tok(I:Inv X vC σ H s)(t:Nat):Inv X vC σ H {s with toks:=t}:=I.un (h':=s.heap) (t':=t) Un.refl I.hok
theorem Inv.kept(I:Inv X vC σ H s)(k:∀b u,s.heap.get? b=vD u->h'.get? b=vD u):Inv X vC σ H {s with heap:=h',toks:=t'}:=I.un (Un.kept k) (I.hok.kept k)
theorem Inv.laid{a:xz}{o:HO}(I:Inv X vC σ H s)(k:∀b u,s.heap.get? b=vD u->h'.get? b=vD u)(hp:s.heap.objs.size<=a)(new:ObjOk X.prog X.w (upd H a o) h' a o):
  Inv X vC σ (upd H a o) {s with heap:=h',toks:=t'}:=I.un (Un.laid k hp (I.hok.fresh hp)) (I.hok.laid k hp new)
theorem Inv.write(I:Inv X vC σ H s)(n:Mut (H x))(j:e=x∨H e=vD (.own x))(k:∀b u,b≠e->s.heap.get? b=vD u->h'.get? b=vD u)(d:∃u,h'.get? e=vD u)
  (new:ObjOk X.prog X.w (upd H x o) h' x o):Inv X vC σ (upd H x o) {s with heap:=h',toks:=t'}:=I.un (Un.write n j k d) (I.hok.write n j k d new)
theorem Inv.K5(I:Inv X vC σ H s)(h:∀p∈pins',s.heap.get? p.1=vD p.2/\H p.1=vE/\p.1≠X.env.locals/\p.1∉X.fs/\∀v,p.2.data≠ .cell v):Inv X pins' σ H s:=
 ⟨I.ok,I.os,I.bare,I.base,I.loc,I.cell,I.free,I.Hm,λp hp=>(jG.mp hp).elim (λz=>I.pin p (xX _ z)) (h p),I.hok,I.len⟩
theorem ZFl{N:List Str}(n:N.Nodup){i j:Nat}{x:Str}(a:N[i]?=vD x)(b:N[j]?=vD x):i=j:=by obtain⟨z,q⟩:=zG.mp a;obtain⟨y,d⟩:=zG.mp b;exact(List.getElem_inj n).mp (q.trans d.symm)
theorem ZHn{M:Model}{A:xj}{E:xD->xB->Prop}{i:Nat}{x:Str}{v:V}{u:xD}{Q:Unit->xB->Prop}(I:Inv X vC σ H s)(hN:X.N.Nodup)(hi:X.N[i]?=vD x)(O:Loc X.env.scope x)(r:RelV v u)
  (h:∀s',Inv X vC (σ.set i (vD v)) H s'->(∃a,qB a s.heap s'.heap/\(a=X.env.locals∨X.env.cells.lookup x=vD a))->Q () s') (hf:X.fn x=vF∨X.env.scope.names.lookup x=vD .local:=by first|exact .inl rfl|exact .inr rfl|assumption):vY M A (storeName X.env x u) Q E s:=by
 obtain⟨m,hn,hl⟩:=id I.loc;have hcls:(X.env.scope.kind == .class||(X.env.scope.kind == .module&&X.env.locals != X.env.globals))=vG:=by rw[I.ok.kind];rfl
 have W:i<σ.length:=by rw[I.len];exact(zG.mp hi).1
 have cne:=I.cne;have J:∀{a:xz}{h':Heap},(∃o,s.heap.get? a=vD o/\H a=vE)->qB a s.heap h'->HOk X.prog X.w H h':=λ{a h'}ha B b ob e=>by
  obtain⟨_,_,S⟩:=ha;refine(I.hok b ob e).stay (λc w' L q=>(B.2 c ?_).trans q) (λ_ q=>q) λ_ _ q=>q
  rintro rfl;rcases L with rfl|L
  ·rw[S]at e;cases e
  ·rw[S]at L;cases L
 rcases O with hk|hk
 ·refine wpAny_storeName_local hk hn (λh' hn' B=>?_) hcls;obtain⟨oL,_,_,hoL,_⟩:=id hn;refine h _ ⟨I.ok,I.os,I.bare,⟨λb o e n Z O=>?_,λb o e n Z O=>?_,I.base.free,λb o e O=>?_,I.base.tups,I.base.frzs,I.base.tbls⟩,⟨_,hn',λj y v' F U e3=>?_⟩,λy c e=>?_,I.free,I.Hm,λp hp=>?_,J ⟨oL,hoL,I.free⟩ B,by simpa using I.len⟩ ⟨_,B,.inl rfl⟩
  ·exact(B.2 b (zE (zz (zx e) I.ok.above))).trans (I.base.keep b o e n Z O)
  ·obtain⟨sl,F⟩:=I.base.slot b o e n Z O;exact⟨sl,(B.2 b (zE (zz (zx e) I.ok.above))).trans F⟩
  ·obtain⟨o',F⟩:=I.base.there b o e O;exact⟨o',(B.2 b (zE (zz (zx e) I.ok.above))).trans F⟩
  ·by_cases hj:j=i
   ·subst hj;rw[hi]at F;cases F;rw[jv W]at U;cases U;exact⟨u,r,.inl ⟨hk,by simp⟩⟩
   ·rw[jX (Ne.symm hj)]at U;obtain⟨u',r',q⟩:=hl j y v' F U e3;refine⟨u',r',?_⟩;rcases q with⟨k,e⟩|⟨k,c,e,z⟩
    ·refine .inl ⟨k,?_⟩;have:y≠x:=λe=>hj (ZFl hN F (e▸hi))
     simp[this,e]
    ·exact .inr ⟨k,c,e,z.sameBut B (cne y c e)⟩
  ·obtain⟨w',z⟩:=I.cell y c e;exact⟨w',z.sameBut B (cne y c e)⟩
  ·obtain⟨e,n,ne,nf,d⟩:=I.pin p hp;exact⟨(B.2 p.1 ne).trans e,n,ne,nf,d⟩
 ·have Y:X.fn x=vF:=by
   rcases hf with z|z
   ·exact z
   ·rw[z]at hk;cases hk
  obtain⟨c,L⟩:=I.ok.has x (.inl hk);obtain⟨w',z⟩:=I.cell x c L;refine wpAny_storeName_cell I.ok.kind hk L z (λh' hc' B=>?_);obtain⟨oc,hoc,hocd⟩:=id z;refine h {s with heap:=h'} ⟨I.ok,I.os,I.bare,⟨λb o e n Z O=>?_,λb o e n Z O=>?_,I.base.free,λb o e O=>?_,I.base.tups,I.base.frzs,I.base.tbls⟩,⟨m,hn.sameBut B (Ne.symm (cne x c L)),λj y v' F U e3=>?_⟩,λy c' e=>?_,I.free,I.Hm,λp hp=>?_,J ⟨oc,hoc,I.Hm x c L⟩ B,by simpa using I.len⟩ ⟨c,B,.inr L⟩
  ·exact(B.2 b (zE (zz (zx e) (I.ok.cab x c Y L)))).trans (I.base.keep b o e n Z O)
  ·obtain⟨sl,F⟩:=I.base.slot b o e n Z O;exact⟨sl,(B.2 b (zE (zz (zx e) (I.ok.cab x c Y L)))).trans F⟩
  ·obtain⟨o',F⟩:=I.base.there b o e O;exact⟨o',(B.2 b (zE (zz (zx e) (I.ok.cab x c Y L)))).trans F⟩
  ·by_cases hj:j=i
   ·subst hj;rw[hi]at F;cases F;rw[jv W]at U;cases U;exact⟨u,r,.inr ⟨.inl hk,c,L,hc'⟩⟩
   ·rw[jX (Ne.symm hj)]at U;obtain⟨u',r',q⟩:=hl j y v' F U e3;refine⟨u',r',?_⟩;rcases q with q|⟨k,c',e,z'⟩
    ·exact .inl q
    ·refine .inr ⟨k,c',e,z'.sameBut B ?_⟩;rintro rfl;exact hj (ZFl hN F (I.ok.inj _ _ _ e L▸hi))
  ·by_cases hcc:c'=c
   ·subst hcc;exact⟨_,hc'⟩
   ·obtain⟨w2,z2⟩:=I.cell y c' e;exact⟨w2,z2.sameBut B hcc⟩
  ·obtain⟨e,n,ne,nf,d⟩:=I.pin p hp;refine⟨(B.2 p.1 ?_).trans e,n,ne,nf,d⟩;intro q;rw[q,hoc]at e;have q':oc=p.2:=Option.some.inj e;exact d w' (by rw[<-q'];exact hocd)
theorem ZAJ(I:Inv X vC σ H s)(d:X.N.Nodup)(hi:X.N[i]?=vD x)(n:Loc X.env.scope x)(r:RelV v u)
  (h:∀s',Inv X vC (σ.set i (vD v)) H s'->Q () s') (q:X.fn x=vF∨X.env.scope.names.lookup x=vD .local:=by first|exact .inl rfl|exact .inr rfl|assumption):vY M A (storeName X.env x u) Q E s:=
 ZHn I d hi n r (λs' j _=>h s' j) q
theorem Inv.call'(I:Inv X vC σ H s)(ho:s'.os=s.os)(u:Un (frs X.stack) ch H H' s.heap s'.heap)(hok:HOk X.prog X.w H' s'.heap)(y:AllBare s'.gens)
  (d:∀b∈ch,(b∈X.ex∨X.s₀.heap.objs.size<=b)/\b≠X.env.locals/\(∀x c,X.env.cells.lookup x=vD c->c≠b)/\∀p∈X.pn++vC,p.1≠b):Inv X vC σ H' s':=by
 obtain⟨z,n,i,j,q⟩:=s';have e:q=s.os:=ho;subst e;exact I.call (g':=n) (t':=j) (d':=i) u hok y d
end
noncomputable abbrev XK:=xD->Option xz->Hp->Prop
noncomputable abbrev St:=List (Option V)
noncomputable abbrev VK:=V->Hp->Prop
noncomputable abbrev TE:=St->Hp->VK->Prop
variable{te:TE}
noncomputable abbrev TT:=St->Hp->(Bool->Hp->Prop)->Prop
noncomputable abbrev TA:=St->Hp->(List V->Hp->Prop)->Prop
structure Ends where
 nx:St->Hp->Prop
 rt:VK
 bk:St->Hp->Prop:=λ_ _=>False
 ct:St->Hp->Prop:=λ_ _=>False
noncomputable abbrev TS:=Ends->St->Hp->Prop
def EP(X:Cx)(vC:List (xz×Obj))(σ:St)(Q:VK)(u:xD)(s':xB):Prop:=∃v H',Inv X vC σ H' s'/\RelV v u/\Q v H'
def TP(X:Cx)(vC:List (xz×Obj))(σ:St)(Q:Bool->Hp->Prop)(b:Bool)(s':xB):Prop:=∃H',Inv X vC σ H' s'/\Q b H'
def AP(X:Cx)(vC:List (xz×Obj))(σ:St)(Q:List V->Hp->Prop)(us:List xD)(s':xB):Prop:=∃vs H',Inv X vC σ H' s'/\Vals vs us/\Q vs H'
def SP(X:Cx)(vC:List (xz×Obj))(D:Ends)(f:Flow)(s':xB):Prop:=
 match f with
 |.next=>∃σ' H',Inv X vC σ' H' s'/\D.nx σ' H'
 |.brk=>∃σ' H',Inv X vC σ' H' s'/\D.bk σ' H'
 |.cont=>∃σ' H',Inv X vC σ' H' s'/\D.ct σ' H'
 |.ret u=>∃v σ' H',Inv X vC σ' H' s'/\RelV v u/\D.rt v H'
def PE(X:Cx)(e:xw)(t:TE):Prop:=
 ∀(vC:List (xz×Obj))(s:xB)(σ:St)(H:Hp)(Q:VK),Inv X vC σ H s->t σ H Q->vY (vZ X.prog X.w) X.A (eval e X.env) (EP X vC σ Q) X.xe s
def PT(X:Cx)(e:xw)(t:TT):Prop:=
 ∀(vC:List (xz×Obj))(s:xB)(σ:St)(H:Hp)(Q:Bool->Hp->Prop),Inv X vC σ H s->t σ H Q->vY (vZ X.prog X.w) X.A (isTrue e X.env (eval e X.env)) (TP X vC σ Q) X.xe s
def PW(X:Cx)(e:xw)(t:TT):Prop:=
 ∀(whole:Sem xD)(vC:List (xz×Obj))(s:xB)(σ:St)(H:Hp)(Q:Bool->Hp->Prop),Inv X vC σ H s->t σ H Q->vY (vZ X.prog X.w) X.A (isTrue e X.env whole) (TP X vC σ Q) X.xe s
theorem PW.pt(h:PW X e t):PT X e t:=h _
def PA(X:Cx)(es:List xw)(t:TA):Prop:=
 ∀(pos:Pos)(vC:List (xz×Obj))(s:xB)(σ:St)(H:Hp)(Q:List V->Hp->Prop),Inv X vC σ H s->t σ H Q->vY (vZ X.prog X.w) X.A (spliced (xH pos (vW es X.env))) (AP X vC σ Q) X.xe s
def PS(X:Cx)(st:xC)(t:TS):Prop:=
 ∀(vC:List (xz×Obj))(s:xB)(σ:St)(H:Hp)(D:Ends),Inv X vC σ H s->t D σ H->vY (vZ X.prog X.w) X.A (exec st X.env) (SP X vC D) X.xe s
def PSs(X:Cx)(st:List xC)(t:TS):Prop:=
 ∀(vC:List (xz×Obj))(s:xB)(σ:St)(H:Hp)(D:Ends),Inv X vC σ H s->t D σ H->vY (vZ X.prog X.w) X.A (execs st X.env) (SP X vC D) X.xe s
theorem thn{i:Type}{t:Sem i}{Q d:i->xB->Prop}{M:Model}{A:xj}{E:xD->xB->Prop}(h:vY M A t Q E s)(j:∀a s,Q a s->d a s):vY M A t d E s:=v3 h j λ_ _ x=>x
section
variable{X:Cx}
noncomputable def tVar(i:Nat):TE:=λσ H Q=>∃v,σ[i]?=vD (vD v)/\Q v H
noncomputable def tC(v:V):TE:=λ_ H Q=>Q v H
theorem ZQ5{i:Nat}{x:Str}{pos:Pos}(L:X.N[i]?=vD x)(O:Vis X.env.scope x)(q:(x==("__debug__":Str))=vG:=by decide)(y:(x==("__classdict__":Str))=vG:=by decide):PE X (.Name x pos) (tVar i):=by
 intro n s M H Q I h;obtain⟨v,e,h⟩:=h;obtain⟨m,J,B⟩:=I.loc;obtain⟨u,r,l⟩:=B i x v L e O;have j:EP X n M Q u s:=⟨v,H,I,r,h⟩;rcases l with⟨hk,F⟩|⟨hk,c,z,d⟩
 ·exact wpAny_Name (wpAny_loadName_local I.ok.kind hk J F j) q
 ·rcases hk with hk|hk
  ·exact wpAny_Name (wpAny_loadName_cell I.ok.kind hk z d j) q
  ·exact wpAny_Name (wpAny_loadName_free I.ok.kind hk z d j y) q
theorem ZNt{i j pos}:PE X (.Constant (.int i) j pos) (tC (.int i)):=λ_ _ _ H _ I h=>wpAny_Constant_int ⟨.int i,H,I.tok _,⟨_,rfl⟩,h⟩
theorem ZMt{b j pos}:PE X (.Constant (.bool b) j pos) (tC (.bl b)):=λ_ _ _ H _ I h=>Constant_bool ⟨.bl b,H,I,rfl,h⟩
theorem ZR9{j pos}:PE X (.Constant .none j pos) (tC .non):=λ_ _ _ H _ I h=>Constant_none ⟨.non,H,I,rfl,h⟩
theorem ZIS{x j pos}:PE X (.Constant (.str x) j pos) (tC (.str x)):=λ_ _ _ H _ I h=>Calls.Constant_str ⟨.str x,H,I.tok _,⟨_,rfl⟩,h⟩
def Gl(X:Cx)(x:Str):Prop:=X.env.kindOf x=vD .globalImplicit
theorem ZB6{E:xD->xB->Prop}{d:St}{H:Hp}{x:Str}{u:xD}{pos:Pos}{Q:xD->xB->Prop}(I:Inv X vC d H s)(j:Gl X x)(i:X.mg x=vD u)(h:Q u s)
  (n:(x==("__debug__":Str))=vG:=by decide):vY (vZ X.prog X.w) X.A (eval (.Name x pos) X.env) Q E s:=
 Calls.Name_function_global I.ok.kind j (Calls.loadGlobal_global (by rw[I.ok.glob];exact I.mod.glob.keeps I.bk) i h) n
theorem Hh{E:xD->xB->Prop}{z:St}{H:Hp}{x:Str}{u:xD}{pos:Pos}{Q:xD->xB->Prop}(I:Inv X vC z H s)(q:Gl X x)(d:X.mg x=vE)(B:xN x=vD u)(h:Q u s)
  (i:x≠"__name__":=by decide) (n:(x==("__debug__":Str))=vG:=by decide):vY (vZ X.prog X.w) X.A (eval (.Name x pos) X.env) Q E s:=by
 obtain⟨F,y,j⟩:=I.mod.blt;exact Calls.Name_function_global I.ok.kind q (Calls.loadGlobal_builtin (by rw[I.ok.glob];exact I.mod.glob.keeps I.bk) d (by rw[I.ok.blt];exact y.keeps I.bk) ((j x i).trans B) h) n
theorem ZBs(i:Gl X x)(d:X.mg x=vD u)(r:RelV v u)(j:(x==("__debug__":Str))=vG:=by decide):PE X (.Name x pos) (tC v):=
 λ_ _ _ H _ I h=>ZB6 I i d ⟨v,H,I,r,h⟩ j
theorem ZQO{x:Str}{v:V}{u:xD}{pos:Pos}(n:Gl X x)(d:X.mg x=vE)(q:xN x=vD u)(r:RelV v u)(i:x≠"__name__":=by decide)(j:(x==("__debug__":Str))=vG:=by decide):PE X (.Name x pos) (tC v):=
 λ_ _ _ H _ I h=>Hh I n d q ⟨v,H,I,r,h⟩ i j
variable{a b:xw}{ta tb:TE}{pos:Pos}
noncomputable def tB(t:TE):TT:=λσ H Q=>t σ H λx H1=>∃c,x=.bl c/\Q c H1
theorem ZS7{e:xw}{t:TE}(h:PE X e t)(n:∀i,isTrue e X.env i=(do let v<-i;standAt e.pos;holding [v] (truthy v)):=by intro _;rfl):PT X e (tB t):=by intro j s F H Q I hw;refine isTrue_plain (thn (h j s F H _ I hw) λv L ⟨x,B,z,J,y⟩=>?_) (n _);obtain⟨d,rfl,q⟩:=y;cases J;exact v8 ⟨B,z,q⟩
variable{tA tB':TT}{rest:List xw}
noncomputable def tAnd(t u:TT):TT:=λσ H Q=>t σ H λc H1=>if c=vF then u σ H1 Q else Q vG H1
noncomputable def tOr(t u:TT):TT:=λσ H Q=>t σ H λc H1=>if c=vF then Q vF H1 else u σ H1 Q
noncomputable def tNot(t:TT):TT:=λσ H Q=>t σ H λc H1=>Q (!c) H1
theorem pw_and1(i:PT X a tA):PW X (.BoolOp .And [a] pos) tA:=by
 intro n d s j H Q I h;refine isTrue_and (thn (i d s j H Q I h) λc q e=>?_);cases c with
 |true=>exact isTrue_and_nil e
 |false=>exact e
theorem pw_or1(i:PT X a tA):PW X (.BoolOp .Or [a] pos) tA:=by
 intro n d s j H Q I h;refine isTrue_or (thn (i d s j H Q I h) λc q e=>?_);cases c with
 |false=>exact isTrue_or_nil e
 |true=>exact e
theorem pw_and(z:PT X a tA)(B:PW X (.BoolOp .And (b::rest) pos) tB'):PW X (.BoolOp .And (a::b::rest) pos) (tAnd tA tB'):=by
 intro y d s q H Q I h;refine isTrue_and (thn (z d s q H _ I h) λc F ⟨n,j,i⟩=>?_);cases c with
 |true=>exact B y d F q n Q j i
 |false=>exact⟨n,j,i⟩
theorem pw_or(z:PT X a tA)(B:PW X (.BoolOp .Or (b::rest) pos) tB'):PW X (.BoolOp .Or (a::b::rest) pos) (tOr tA tB'):=by
 intro y d s q H Q I h;refine isTrue_or (thn (z d s q H _ I h) λc F ⟨n,j,i⟩=>?_);cases c with
 |true=>exact⟨n,j,i⟩
 |false=>exact B y d F q n Q j i
theorem ZPO(j:PT X a tA):PT X (.UnaryOp .Not a pos) (tNot tA):=by intro d s i H Q I h;exact isTrue_not (j d s i H (λc n=>Q (!c) n) I h)
noncomputable def ZPi(ta tb:TE):TE:=λσ H Q=>ta σ H λx H1=>∃c,x=.bl c/\if c=vF then tb σ H1 Q else Q (.bl vG) H1
noncomputable def tOrV(ta tb:TE):TE:=λσ H Q=>ta σ H λx H1=>∃c,x=.bl c/\if c=vF then Q (.bl vF) H1 else tb σ H1 Q
noncomputable def ZOY(ta:TE):TE:=λσ H Q=>ta σ H λx H1=>∃c,x=.bl c/\Q (.bl (!c)) H1
theorem ZRk{op}(h:PE X a t):PE X (.BoolOp op [a] pos) t:=λd s i H Q I hw=>BoolOp_one (h d s i H Q I hw)
theorem ZPl(y:PE X a ta)(z:PE X (.BoolOp .And (b::rest) pos) tb):PE X (.BoolOp .And (a::b::rest) pos) (ZPi ta tb):=by
 intro d s q H Q I h;refine BoolOp_and (thn (y d s q H _ I h) λv B ⟨x,n,j,F,i⟩=>?_);obtain⟨c,rfl,i⟩:=i;cases F;refine v8 ?_;cases c with
 |true=>exact z d B q n Q j i
 |false=>exact⟨.bl vG,n,j,rfl,i⟩
theorem ZSM(y:PE X a ta)(z:PE X (.BoolOp .Or (b::rest) pos) tb):PE X (.BoolOp .Or (a::b::rest) pos) (tOrV ta tb):=by
 intro d s q H Q I h;refine BoolOp_or (thn (y d s q H _ I h) λv B ⟨x,n,j,F,i⟩=>?_);obtain⟨c,rfl,i⟩:=i;cases F;refine v8 ?_;cases c with
 |false=>exact z d B q n Q j i
 |true=>exact⟨.bl vF,n,j,rfl,i⟩
theorem ZQl(j:PE X a ta):PE X (.UnaryOp .Not a pos) (ZOY ta):=by intro d s y H Q I h;refine UnaryOp_ (thn (j d s y H _ I h) λv B ⟨x,q,n,z,i⟩=>?_);obtain⟨c,rfl,i⟩:=i;cases z;exact not_of (v8 ⟨.bl (!c),q,n,rfl,i⟩)
noncomputable def tIf(t:TT)(ta tb:TE):TE:=λσ H Q=>t σ H λc H1=>if c=vF then ta σ H1 Q else tb σ H1 Q
theorem ZN6{c:xw}(B:PT X c tA)(F:PE X a ta)(J:PE X b tb):PE X (.IfExp c a b pos) (tIf tA ta tb):=by
 intro i s j H Q I h;refine wpAny_IfExp (thn (B i s j H _ I h) λd z ⟨y,q,n⟩=>?_);cases d with
 |true=>exact F i z j y Q q n
 |false=>exact J i z j y Q q n
end
def SqL(K:PySem.W.Frag)(H:Hp)(a:xz)(xs:List V):Prop:=
 Rd H a (.lst xs)∨
  ∃(o:Obj)(its:Array xD)(n:Nat),K.lookup a=vD o/\o.cls=.type "list"/\o.dict=vE/\o.data=.seq its n/\its.size<=sizeLine/\Vals xs its.toList
def SqT(K:PySem.W.Frag)(H:Hp)(a:xz)(xs:List V):Prop:=
 Rd H a (.tup xs)∨
  ∃(o:Obj)(its:Array xD)(n:Nat),K.lookup a=vD o/\o.cls=.type "tuple"/\o.data=.seq its n/\its.size<=sizeLine/\Vals xs its.toList
noncomputable def absV:xD->Option V
 |.none=>vD .non
 |.bool b=>vD (.bl b)
 |.int i _=>vD (.int i)
 |.str x _=>vD (.str x)
 |.bytes b _=>vD (.byt b)
 |.float b _=>vD (.flt b)
 |.ref a=>vD (.ref a)
 |.type n=>vD (.ty n)
 |_=>vE
theorem RelV.abs(r:RelV x u):absV u=vD x:=by
 cases x with
 |non=>cases r;rfl
 |bl _=>cases r;rfl
 |int _=>obtain⟨t,rfl⟩:=r;rfl
 |str _=>obtain⟨t,rfl⟩:=r;rfl
 |byt _=>obtain⟨t,rfl⟩:=r;rfl
 |flt _=>obtain⟨t,rfl⟩:=r;rfl
 |ref _=>cases r;rfl
 |ty _=>cases r;rfl
theorem RelV.inj(r:RelV x u)(q:RelV y u):x=y:=Option.some.inj (r.abs.symm.trans q.abs)
theorem Vals.inj:∀{xs ys:List V}{us:List xD},Vals xs us->Vals ys us->xs=ys
 |_,_,_,.nil,.nil=>rfl
 |_,_,_,.cons r t,.cons d i=>by rw[r.inj d,Vals.inj t i]
section
variable{X:Cx}{vC:List (xz×Obj)}{σ:St}{H:Hp}{s:xB}{a:xz}{xs ys:List V}
theorem SqL.of(h:H a=vD (.lst xs)):SqL K H a xs:=.inl (.inl h)
theorem SqT.of(h:H a=vD (.tup xs)):SqT K H a xs:=.inl (.inl h)
theorem Inv.list(I:Inv X vC σ H s)(h:SqL X.K H a xs):∃its:List xD,Vals xs its/\PlainL s.heap a its.toArray/\xs.length<=sizeLine:=by
 rcases h with h|⟨o,its,n,hk,d,j,i,q,r⟩
 ·obtain⟨z,its,n,r,e⟩:=h.ok I.hok;exact⟨its,r,⟨_,n,e,rfl,rfl,rfl⟩,z⟩
 ·refine⟨its.toList,r,⟨o,n,I.kIn a o hk,d,j,by simpa using i⟩,?_⟩;have e:=r.length;simp only[qC]at e;lia
theorem Inv.tuple(I:Inv X vC σ H s)(h:SqT X.K H a xs):∃its:List xD,Vals xs its/\IsTup s.heap a its.toArray/\xs.length<=sizeLine:=by
 rcases h with h|⟨o,its,n,hk,d,i,j,r⟩
 ·obtain⟨z,its,r,p⟩:=h.ok I.hok;exact⟨its,r,p,z⟩
 ·refine⟨its.toList,r,⟨o,I.kIn a o hk,d,n,by simpa using i⟩,?_⟩;have e:=r.length;simp only[qC]at e;lia
theorem Inv.Vm(I:Inv X vC σ H s)(h:SqL X.K H a xs)(h':SqL X.K H a ys):xs=ys:=by
 obtain⟨j,r,⟨o,n,e,_,_,d⟩,_⟩:=I.list h;obtain⟨i,B,⟨F,J,y,_,_,q⟩,_⟩:=I.list h';rw[e]at y;cases y;rw[d]at q;injection q with z _
 have:j=i:=by simpa using congrArg Array.toList z
 subst this;exact r.inj B
theorem Inv.Yz(I:Inv X vC σ H s)(h:SqT X.K H a xs)(h':SqT X.K H a ys):xs=ys:=by
 obtain⟨j,r,⟨o,e,_,n,d⟩,_⟩:=I.tuple h;obtain⟨i,B,⟨F,y,_,J,q⟩,_⟩:=I.tuple h';rw[e]at y;cases y;rw[d]at q;injection q with z _
 have:j=i:=by simpa using congrArg Array.toList z
 subst this;exact r.inj B
end
noncomputable abbrev Cx.wish(X:Cx)(E:xD->xB->Prop):Cx:={X with xe:=E}
noncomputable abbrev Cx.nox(X:Cx):Cx:=X.wish λ_ _=>False
theorem Cx.Ok.wish{X:Cx}(ok:X.Ok)(E:xD->xB->Prop):(X.wish E).Ok:=
 ⟨ok.mod,ok.kind,ok.glob,ok.blt,ok.above,ok.inj,ok.has,ok.cab,ok.hd,ok.frames,ok.stk,ok.exf,ok.bs,ok.bsz,ok.noex,ok.exfs,ok.funs,ok.frf⟩
theorem Cx.Ok.unwish{X:Cx}{E:xD->xB->Prop}(ok:(X.wish E).Ok):X.Ok:=
 ⟨ok.mod,ok.kind,ok.glob,ok.blt,ok.above,ok.inj,ok.has,ok.cab,ok.hd,ok.frames,ok.stk,ok.exf,ok.bs,ok.bsz,ok.noex,ok.exfs,ok.funs,ok.frf⟩
section
variable{X:Cx}{vC:List (xz×Obj)}{σ:St}{H:Hp}{s:xB}{E:xD->xB->Prop}
theorem Inv.wish(I:Inv X vC σ H s)(E:xD->xB->Prop):Inv (X.wish E) vC σ H s:=⟨I.ok.wish E,I.os,I.bare,I.base,I.loc,I.cell,I.free,I.Hm,I.pin,I.hok,I.len⟩
theorem Inv.unwish(I:Inv (X.wish E) vC σ H s):Inv X vC σ H s:=⟨I.ok.unwish,I.os,I.bare,I.base,I.loc,I.cell,I.free,I.Hm,I.pin,I.hok,I.len⟩
theorem SP.unwish(h:SP (X.wish E) vC D f s'):SP X vC D f s':=by
 cases f with
 |next=>obtain⟨d,i,I,q⟩:=h;exact⟨d,i,I.unwish,q⟩
 |brk=>obtain⟨d,i,I,q⟩:=h;exact⟨d,i,I.unwish,q⟩
 |cont=>obtain⟨d,i,I,q⟩:=h;exact⟨d,i,I.unwish,q⟩
 |ret u=>obtain⟨v,d,i,I,r,q⟩:=h;exact⟨v,d,i,I.unwish,r,q⟩
theorem PSs.nox{st:List xC}{t:TS}(h:PSs X.nox st t):PSs X st t:=λd s i H D I hw=>
 v3 (h d s i H D (I.wish _) hw) (λ_ _ q=>q.unwish) λ_ _ z=>False.elim z
end
section
variable{X:Cx}{st:xC}{rest:List xC}{t u:TS}{e:xw}{te:TE}{pos:Pos}
noncomputable def ZR8:TS:=λD σ H=>D.nx σ H
noncomputable def tSeq(t u:TS):TS:=λD σ H=>t {D with nx:=u D} σ H
theorem ZKk:PSs X [] ZR8:=λ_ _ d H _ I h=>wpAny_execs_nil ⟨d,H,I,h⟩
theorem ZOZ(B:PS X st t)(n:PSs X rest u):PSs X (st::rest) (tSeq t u):=by
 intro d s y H D I h;refine wpAny_execs_cons (thn (B d s y H {D with nx:=u D} I h) λf F q=>?_);cases f with
 |next=>
  obtain⟨i,z,j,q⟩:=q;exact n d F i z D j q
 |ret v=>exact q
 |brk=>exact q
 |cont=>exact q
theorem ZRa(j:PS X st t):PSs X [st] t:=by
 intro d s i H D I h;refine wpAny_execs_cons (thn (j d s i H D I h) λf n q=>?_);cases f with
 |next=>exact wpAny_execs_nil q
 |ret v=>exact q
 |brk=>exact q
 |cont=>exact q
theorem Inv.quiet{d:St}{H:Hp}(I:Inv X vC d H s):interactive X.env=vG:=by simp[interactive,I.ok.kind]
noncomputable def ZK9(te:TE):TS:=λD σ H=>te σ H λ_ H1=>D.nx σ H1
theorem ZTi(n:PE X e te)(j:swapsWith e vE pos.line X.env=pure vG:=by rfl):PS X (.Expr e pos) (ZK9 te):=by intro d s i H D I h;exact wpAny_Expr_any (thn (n d s i H _ I h) λv B ⟨x,z,y,F,q⟩=>⟨i,z,y,q⟩) I.quiet j
noncomputable def tRet(te:TE):TS:=λD σ H=>te σ H D.rt
theorem ZQU(j:PE X e te):PS X (.Return (vD e) pos) (tRet te):=by intro d s i H D I h;exact wpAny_Return_some (thn (j d s i H _ I h) λv B ⟨x,y,q,z,n⟩=>⟨x,i,y,q,z,n⟩)
noncomputable def tIfS(c:TT)(t u:TS):TS:=λD σ H=>c σ H λb H1=>if b=vF then t D σ H1 else u D σ H1
theorem ZSV{c:xw}{a b:List xC}{n:TT}(F:PT X c n)(J:PSs X a t)(L:PSs X b u):PS X (.If c a b pos) (tIfS n t u):=by
 intro i s j H D I h;refine wpAny_If (thn (F i s j H _ I h) λd B ⟨z,y,q⟩=>?_);cases d with
 |true=>exact J i B j z D y q
 |false=>exact L i B j z D y q
end
noncomputable abbrev TG:=V->St->Hp->(St->Hp->Prop)->Prop
noncomputable abbrev TGs:=List V->St->Hp->(St->Hp->Prop)->Prop
def PG(X:Cx)(target:xw)(t:TG):Prop:=
 ∀(vC:List (xz×Obj))(s:xB)(σ:St)(H:Hp)(v:V)(u:xD)(Q:St->Hp->Prop),Inv X vC σ H s->RelV v u->t v σ H Q->
  vY (vZ X.prog X.w) X.A (assign target X.env u) (λ_ s'=>∃σ' H',Inv X vC σ' H' s'/\Q σ' H') X.xe s
def PGs(X:Cx)(ts:List xw)(t:TGs):Prop:=
 ∀(vC:List (xz×Obj))(s:xB)(σ:St)(H:Hp)(vs:List V)(us:List xD)(Q:St->Hp->Prop),Inv X vC σ H s->Vals vs us->t vs σ H Q->
  vY (vZ X.prog X.w) X.A (assignInOrder ((xF ts X.env).map (·.2)) us) (λ_ s'=>∃σ' H',Inv X vC σ' H' s'/\Q σ' H') X.xe s
noncomputable abbrev TSet:=V->V->V->Hp->(Hp->Prop)->Prop
def PSet(X:Cx)(t:TSet):Prop:=
 ∀(vC:List (xz×Obj))(s:xB)(σ:St)(H:Hp)(o i v:V)(ov iv u:xD)(Q:Hp->Prop),Inv X vC σ H s->RelV o ov->RelV i iv->RelV v u->t o i v H Q->
  vY (vZ X.prog X.w) X.A (setItem ov iv u) (λ_ s'=>∃H',Inv X vC σ H' s'/\Q H') X.xe s
noncomputable abbrev TIp:=V->V->Hp->VK->Prop
def PIp(X:Cx)(op:Operator)(t:TIp):Prop:=
 ∀(vC:List (xz×Obj))(s:xB)(σ:St)(H:Hp)(x y:V)(v u:xD)(Q:VK),Inv X vC σ H s->RelV x v->RelV y u->t x y H Q->
  vY (vZ X.prog X.w) X.A (inplaceOp op v u) (EP X vC σ Q) X.xe s
section
variable{X:Cx}{pos:Pos}
noncomputable def ZGz(i:Nat):TG:=λv σ H Q=>Q (σ.set i (vD v)) H
theorem ZJ7(q:X.N.Nodup)(hi:X.N[i]?=vD x)(y:Loc X.env.scope x)(n:X.fn x=vF∨X.env.scope.names.lookup x=vD .local:=by first|exact .inl rfl|exact .inr rfl|assumption):PG X (.Name x pos) (ZGz i):=by intro d s z H v u Q I r h;exact wpAny_assign_Name (ZAJ I q hi y r (λB j=>⟨_,H,j,h⟩) n)
noncomputable def gNil:TGs:=λvs σ H Q=>vs=[]/\Q σ H
noncomputable def ZLX(t:TG)(u:TGs):TGs:=λvs σ H Q=>∃v r,vs=v::r/\t v σ H λσ' H'=>u r σ' H' Q
theorem ZKK:PGs X [] gNil:=by intro d s i H n j Q I r h;obtain⟨e,h⟩:=h;subst e;cases r;exact assignInOrder_nil ⟨i,H,I,h⟩
theorem ZKY{e:xw}{es:List xw}{t:TG}{u:TGs}(B:PG X e t)(y:PGs X es u)
  (n:(xF (e::es) X.env).map (·.2)=assign e X.env::(xF es X.env).map (·.2):=by rfl):PGs X (e::es) (ZLX t u):=by
 intro d s L H O N Q I r h;obtain⟨v,S,M,h⟩:=h;subst M;cases r with
 |cons r j=>
  rw[n];refine assignInOrder_cons (thn (B d s L H _ _ _ I r h) λ_ J ⟨i,F,z,q⟩=>?_);exact y d J i F _ _ Q z j q
noncomputable def gTup(K:PySem.W.Frag)(n:Nat)(t:TGs):TG:=λv σ H Q=>∃a xs,v=.ref a/\SqT K H a xs/\xs.length=n/\t xs σ H Q
theorem ZRW{es:List xw}{k:Nat}{t:TGs}{n:Nat}(B:X.calm=vF)(h:PGs X es t)
  (L:(xF es X.env).length=n:=by rfl) (i:(xF es X.env).findIdx? (·.1)=vE:=by rfl):PG X (.Tuple es k pos) (gTup X.K n t):=by
 intro d s j H v u Q I r hw;obtain⟨a,z,U,F,y,hw⟩:=hw;subst U;cases r;obtain⟨J,rv,M,W⟩:=I.tuple F;refine assign_Tuple_tuple (I.ok.hd B) M (by simp[L,<-y,rv.length]) i λS O=>?_
 have N:Inv X d j H {s with heap:=S}:=I.kept (t':=s.toks) λb o e=>O b o (zE (zx e)) e
 exact h d _ j H z _ Q N (by simpa using rv) hw
noncomputable def gSub(to ti:TE)(t:TSet):TG:=λv σ H Q=>to σ H λo H1=>ti σ H1 λi H2=>t o i v H2 λH3=>Q σ H3
theorem ZKF{o i:xw}{n ti:TE}{t:TSet}(ho:PE X o n)(hi:PE X i ti)(O:PSet X t)
  (J:∀v,assign (.Subscript o i pos) X.env v=(do
   let ov<-holding [v] (eval o X.env);let iv<-holding [v,ov] (eval i X.env)
   standAt pos
   holding [v,ov,iv] (setItem ov iv v)
   release [v,ov,iv] []):=by intro _;rfl):PG X (.Subscript o i pos) (gSub n ti t):=by
 intro d s j H v u Q I r h;rw[J];refine vz (vk (thn (ho d s j H _ I h) λov N ⟨x,M,Y,F,W⟩=>?_));refine vz (vk (thn (hi d N j M _ Y W) λiv q ⟨y,U,Z,B,q2⟩=>?_));refine vz (wpAny_standAt (vz (vk (thn (O d q j U x y v ov iv u _ Z F B r q2) λ_ s3 ⟨z,S,L⟩=>?_))));exact wpAny_release ⟨j,z,S,L⟩
noncomputable def Xr(te:TE)(g:TG):TS:=λD σ H=>te σ H λx H1=>g x σ H1 D.nx
theorem ZNU{e:xw}{g:TG}(n:PE X e te)(B:PG X tg g)(j:swapsWithSole [tg] e pos.line X.env=pure vG:=by rfl)(hw:swappedStores [tg] e X.env=pure vE:=by rfl)
  (F:(xF [tg] X.env).map (·.2)=[assign tg X.env]:=by rfl):PS X (.Assign [tg] e pos) (Xr te g):=by
 intro d s i H D I h;refine wpAny_Assign_stores (thn (n d s i H _ I h) λv L ⟨x,J,z,M,y⟩=>?_) j hw;rw[F];exact thn (B d L i J x v _ z M y) λ_ N q=>q
theorem ZJ6{i:Nat}{x:Str}{e:xw}{d:Pos}(L:X.N.Nodup)(hi:X.N[i]?=vD x)(M:Loc X.env.scope x)(q:PE X e te)(n:swapsWith e (vD (.Name x d)) pos.line X.env=pure vG:=by rfl)(z:X.fn x=vF∨X.env.scope.names.lookup x=vD .local:=by first|exact .inl rfl|exact .inr rfl|assumption):
  PS X (.Assign [.Name x d] e pos) (Xr te (ZGz i)):=by
 intro j s S H D I h;refine wpAny_Assign_Name (thn (q j s S H _ I h) λv Y ⟨y,O,F,U,B⟩=>?_) n;exact ZAJ F L hi M U (λW J=>⟨_,O,J,B⟩) z
noncomputable def tAug(i:Nat)(te:TE)(ti:TIp):TS:=λD σ H=>∃x,σ[i]?=vD (vD x)/\te σ H λy H1=>ti x y H1 λz H2=>D.nx (σ.set i (vD z)) H2
theorem ZMc{i:Nat}{x:Str}{e:xw}{op:Operator}{ti:TIp}{B:Pos}(hN:X.N.Nodup)(hi:X.N[i]?=vD x)(F:Loc X.env.scope x)(he:PE X e te)(ho:PIp X op ti)(hf:X.fn x=vF∨X.env.scope.names.lookup x=vD .local:=by first|exact .inl rfl|exact .inr rfl|assumption):
  PS X (.AugAssign (.Name x B) op e pos) (tAug i te ti):=by
 intro d s M H D I h;obtain⟨v,U,h⟩:=h;obtain⟨m,hn,O⟩:=I.loc;have J:Vis X.env.scope x:=by rcases F with k|k;exact .inl k;exact .inr (.inl k)
 obtain⟨u,r,l⟩:=O i x v hi U J;refine wpAny_AugAssign_Name ?_
 have L:vY (vZ X.prog X.w) X.A (eval e X.env) (λw n=>vY (vZ X.prog X.w) X.A (inplaceOp op u w) (λr q=>vY (vZ X.prog X.w) X.A (storeName X.env x r) (λ_=>SP X d D .next) X.xe q) X.xe n) X.xe s:=by
  refine thn (he d s M H _ I h) λw s1 ⟨y,H1,I1,Y,q1⟩=>?_
  refine thn (ho d s1 M H1 v y u w _ I1 r Y q1) λz s2 ⟨zv,H2,I2,W,q2⟩=>?_
  exact ZAJ I2 hN hi F W (λs3 I3=>⟨_,H2,I3,q2⟩) hf
 rcases l with⟨hk,S⟩|⟨hk,c,Z,j⟩
 ·exact wpAny_loadName_local I.ok.kind hk hn S L
 ·rcases hk with hk|hk
  ·exact wpAny_loadName_cell I.ok.kind hk Z j L
  ·rcases F with k|k
   ·have:X.env.scope.names.lookup x=vD .free:=hk;rw[k]at this;cases this
   ·have:X.env.scope.names.lookup x=vD .free:=hk;rw[k]at this;cases this
noncomputable def ipI(f:Int->Int->Int):TIp:=λx y H Q=>∃i j,x=.int i/\y=.int j/\Q (.int (f i j)) H
theorem ZS0:PIp X .Add (ipI λi j=>i+j):=by intro d s L H x y v u Q I F B h;obtain⟨i,j,z,n,q⟩:=h;subst z;subst n;obtain⟨t,rfl⟩:=F;obtain⟨J,rfl⟩:=B;exact iadd_int ⟨.int _,H,I.tok _,⟨_,rfl⟩,q⟩
theorem ZKQ:PIp X .Sub (ipI λi j=>i-j):=by intro d s L H x y v u Q I F B h;obtain⟨i,j,z,n,q⟩:=h;subst z;subst n;obtain⟨t,rfl⟩:=F;obtain⟨J,rfl⟩:=B;exact isub_int ⟨.int _,H,I.tok _,⟨_,rfl⟩,q⟩
end
section
variable{X:Cx}{pos:Pos}
def ZOQ(c:TT)(tb:TS):TS:=λD σ H=>∃W:Nat->St->Hp->Prop,(∃m,W m σ H)/\∀m σ H,W m σ H->
 c σ H λb H1=>if b=vF then∃N:St->Hp->Prop,(∀σ' H',N σ' H'->∃m',m'<m/\W m' σ' H')/\tb {D with nx:=N,ct:=N,bk:=D.nx} σ H1 else D.nx σ H1
theorem ZLr{c:xw}{q:List xC}{Z:TT}{tb:TS}(hp:PassesOwn (vZ X.prog X.w) X.A X.env X.xe)(hc:PT X c Z)(hb:PSs X q tb):PS X (.While c q [] pos) (ZOQ Z tb):=by
 intro i s σ H D I h;obtain⟨W,⟨m0,w0⟩,B⟩:=h;refine wpAny_While (codeAny_whileLoop (λn s'=>∃z Y,Inv X i z Y s'/\W n z Y) ?_ m0 ⟨σ,H,I,w0⟩);rintro n s1 ⟨j,H1,I1,w1⟩;refine v5 hp (thn (hc i s1 j H1 _ I1 (B n j H1 w1)) λb s2 ⟨H2,I2,J⟩=>?_);cases b with
 | true=>
  obtain⟨N,hN,J⟩:=J;rw[if_pos rfl];refine v5 hp (thn (hb i s2 j H2 _ I2 J) λf s3 F=>?_);cases f with
  |next=>
   obtain⟨d,y,O,M⟩:=F;obtain⟨U,L,S⟩:=hN d y M;exact⟨U,L,d,y,O,S⟩
  |cont=>
   obtain⟨d,y,O,M⟩:=F;obtain⟨U,L,S⟩:=hN d y M;exact⟨U,L,d,y,O,S⟩
  |brk=>exact F
  |ret v=>exact F
 |false=>
  rw[if_neg zk];exact wpAny_execs_nil ⟨j,H2,I2,J⟩
end
structure It where
 go:Nat->Hp->Prop
 yld:Nat->Hp->V->Hp->Prop
 stop:Nat->Hp->Prop
def FpOk(X:Cx)(vC:List (xz×Obj))(H:Hp)(b:xz):Prop:=
 H b=vE/\b≠X.env.locals/\b∉X.fs/\(b∈X.ex∨X.s₀.heap.objs.size<=b)/\(∀x c,X.env.cells.lookup x=vD c->c≠b)/\∀p∈X.pn++vC,p.1≠b
theorem Inv.Hx{X:Cx}{i:St}{H H':Hp}{b:xz}(I:Inv X vC i H s)(d:s.heap.objs.size<=b)(j:H' b=vE):FpOk X vC H' b:=by
 refine⟨j,jk (zz I.lt d),I.nofs d,.inr (zA I.sz d),λx c e z=>?_,λp hp z=>?_⟩
 ·obtain⟨v,q⟩:=I.cell x c e;exact absurd (zz q.lt (by rw[z];exact d)) (qW _)
 ·exact absurd (zz (zx (I.pin p hp).1) (by rw[z];exact d)) (qW _)
structure Turn (P:x0) (w:xE) (K:PySem.W.Frag) (tg:xw) (J:It) (fp:List xz) (it:xz) (tn:Nat->Heap->Prop):Prop where
 mem:it∈fp
 obj:∀i h,tn i h->∀b∈fp,∃o,h.get? b=vD o/\∀v,o.data≠ .cell v
 keep:∀i h h',tn i h->(∀b∈fp,∀o,h.get? b=vD o->h'.get? b=vD o)->tn i h'
 item:∀(X:Cx),X.prog=P->X.w=w->X.K=K->X.calm=vF->∀(i:Nat)(vC:List (xz×Obj))(s:xB)(σ:St)(H:Hp)(E:xD->xB->Prop),Inv X vC σ H s->(∀b∈fp,FpOk X vC H b)->tn i s.heap->J.go i H->
  vY (vZ P w) X.A (pyNext (.ref it)) (λr s1=>∃u,r=vD u/\
   vY (vZ P w) X.A (xU tg (.ref it) u) (λ_ s2=>∃x H',Inv X vC σ H' s2/\RelV x u/\J.yld i H x H'/\tn (i+1) s2.heap/\∀b∈fp,H' b=vE) E s1) E s
 done:∀(X:Cx),X.prog=P->X.w=w->X.K=K->X.calm=vF->∀(i:Nat)(vC:List (xz×Obj))(s:xB)(σ:St)(H:Hp)(E:xD->xB->Prop),Inv X vC σ H s->(∀b∈fp,FpOk X vC H b)->tn i s.heap->J.stop i H->
  vY (vZ P w) X.A (pyNext (.ref it)) (λr s1=>r=vE/\Inv X vC σ H s1) E s
 self:∀(A:xj)(i:Nat)(s:xB)(Q:xD->xB->Prop)(E:xD->xB->Prop),tn i s.heap->Q (.ref it) s->vY (vZ P w) A (pyIter (.ref it)) Q E s
noncomputable abbrev TI:=St->Hp->(It->Hp->Prop)->Prop
def PIE(X:Cx)(vC:List (xz×Obj))(σ:St)(tg:xw)(R:It->Hp->Prop)(itv:xD)(s2:xB):Prop:=
 ∃(it:xz)(fp:List xz)(tn:Nat->Heap->Prop)(J:It)(H':Hp),itv=.ref it/\Inv X vC σ H' s2/\Turn X.prog X.w X.K tg J fp it tn/\tn 0 s2.heap/\(∀b∈fp,FpOk X vC H' b)/\R J H'
def PI(X:Cx)(tg iter:xw)(wi:TI):Prop:=
 ∀(vC:List (xz×Obj))(s:xB)(σ:St)(H:Hp)(R:It->Hp->Prop),Inv X vC σ H s->wi σ H R->
  vY (vZ X.prog X.w) X.A (eval iter X.env) (λv s1=>vY (vZ X.prog X.w) X.A (pyIter v) (PIE X vC σ tg R) X.xe s1) X.xe s
theorem Np(ho:s.heap.get? it=vD o)(hc:o.cls=.type n)(hd:o.data=.fields vs)
  (hn: ["enumerate","zip","dict_itemiterator","dict_reverseitemiterator","odict_iterator","itertools.zip_longest","itertools.pairwise"].contains n=vG) (hQ:Q () s):vY M A (xU tg (.ref it) u) Q E s:=by
 unfold xU
 cases tg<;>first
  |exact v6 hQ
  | (cases u<;>first
    |exact v6 hQ
    | (
      refine vz (wpAny_load ho ?_);rw[hc,hd];show vY M A (if(["enumerate","zip","dict_itemiterator","dict_reverseitemiterator","odict_iterator","itertools.zip_longest","itertools.pairwise"].contains n&&vs[0]?==vD (vJ _))=vF then _ else _) Q E s;rw[if_neg (by intro h;rw[hn,Bool.false_and]at h;cases h)];exact v6 hQ))
noncomputable def Itl(K:PySem.W.Frag)(a:xz):It:=
 ⟨λi H=>∃xs x,SqL K H a xs/\xs[i]?=vD x,λi H x H'=>H'=H/\∀xs,SqL K H a xs->xs[i]?=vD x,λi H=>∃xs,SqL K H a xs/\xs.length<=i⟩
noncomputable def Itt(K:PySem.W.Frag)(a:xz):It:=
 ⟨λi H=>∃xs x,SqT K H a xs/\xs[i]?=vD x,λi H x H'=>H'=H/\∀xs,SqT K H a xs->xs[i]?=vD x,λi H=>∃xs,SqT K H a xs/\xs.length<=i⟩
noncomputable def Itr(lo:Int)(n:Nat):It:=⟨λi _=>i<n,λi H x H'=>H'=H/\x=.int (lo+i),λi _=>n<=i⟩
theorem ZS9{w:xE}(a it:xz):Turn P w K tg (Itl K a) [it] it (λi h=>h.IsListIter it a i) where
 mem:=by simp
 obj:=λi h j b q=>by
  have e:b=it:=by simpa using q
  subst e;obtain⟨o,e,c,d⟩:=j;exact⟨o,e,λv z=>by rw[d]at z;cases z⟩
 keep:=λi h L j k=>j.at λo e=>k it (by simp) o e
 item:=by
  intro X Z hw O hc i n s σ H E I J j N;subst Z hw O;obtain⟨xs,x,F,U⟩:=N;obtain⟨S,rv,p,hz⟩:=I.list F;obtain⟨u,hu,ru⟩:=rv.get U;obtain⟨f0,M,f2,f3,f4,Y⟩:=J it (by simp);refine wpAny_pyNext_list_item j p.isList (x:=u) (by simpa using hu) λL B sb=>?_
  have I1:Inv X n σ H {s with heap:=L}:=I.turned (t':=s.toks) (λb o q e=>(sb.2 b q).trans e) f0 M f3 f4 Y;obtain⟨o,e,c,d⟩:=id B;exact⟨u,rfl,Np (s:={s with heap:=L}) e c d (by decide) ⟨x,H,I1,ru,⟨rfl,λys hy=>by rw[I.Vm hy F];exact U⟩,B,λb q=>(J b q).1⟩⟩
 done:=by intro X Z hw O hc i n s σ H E I J j N;subst Z hw O;obtain⟨xs,F,U⟩:=N;obtain⟨S,rv,p,hz⟩:=I.list F;obtain⟨f0,M,f2,f3,f4,Y⟩:=J it (by simp);have hl:=rv.length;exact wpAny_pyNext_list_end (I.ok.hd hc) j p.isList (by simp;lia) λL eb=>⟨rfl,I.turned (t':=s.toks) (λb o q e=>eb b o q e) f0 M f3 f4 Y⟩
 self:=λ_ _ _ _ _ j h=>wpAny_pyIter_listiter j h
theorem ZLR{w:xE}(a it:xz):Turn P w K tg (Itt K a) [it] it (λi h=>h.IsTupleIter it a i) where
 mem:=by simp
 obj:=λi h n b B=>by
  have e:b=it:=by simpa using B
  subst e;obtain⟨o,e,c,d⟩:=n;exact⟨o,e,λv z=>by rw[d]at z;cases z⟩
 keep:=λi h M n k=>n.at λo e=>k it (by simp) o e
 item:=by
  intro X Z hw S hc i q s σ H E I L n O;subst Z hw S;obtain⟨xs,x,J,U⟩:=O;obtain⟨y,rv,p,hz⟩:=I.tuple J;obtain⟨u,hu,ru⟩:=rv.get U;obtain⟨f0,N,f2,f3,f4,Y⟩:=L it (by simp)
  refine wpAny_pyNext_tuple_item n (show s.heap.IsTuple a y.toArray from p) (x:=u) (by simpa using hu) λM F sb=>?_
  have I1:Inv X q σ H {s with heap:=M}:=I.turned (t':=s.toks) (λb o B e=>(sb.2 b B).trans e) f0 N f3 f4 Y;obtain⟨o,e,c,d⟩:=id F;exact⟨u,rfl,Np (s:={s with heap:=M}) e c d (by decide) ⟨x,H,I1,ru,⟨rfl,λys hy=>by rw[I.Yz hy J];exact U⟩,F,λb B=>(L b B).1⟩⟩
 done:=by
  intro X Z hw S hc i q s σ H E I L n O;subst Z hw S;obtain⟨xs,J,U⟩:=O;obtain⟨y,rv,p,hz⟩:=I.tuple J;obtain⟨f0,N,f2,f3,f4,Y⟩:=L it (by simp);have hl:=rv.length
  exact wpAny_pyNext_tuple_end (I.ok.hd hc) n (show s.heap.IsTuple a y.toArray from p) (by simp;lia) λM eb=>⟨rfl,I.turned (t':=s.toks) (λb o B e=>eb b o B e) f0 N f3 f4 Y⟩
 self:=λ_ _ _ _ _ n h=>wpAny_pyIter_tupleiter n h
theorem ZUu{w:xE}(it:xz)(lo:Int)(n:Nat):Turn P w K tg (Itr lo n) [it] it (λi h=>IsRangeIter h it (lo+(i:Nat)*1) ((n:Int)-(i:Nat)) 1) where
 mem:=by simp
 obj:=λi h d b y=>by
  have e:b=it:=by simpa using y
  subst e;exact⟨_,d,λv z=>by have z':Data.fields _=Data.cell v:=z;cases z'⟩
 keep:=λi h L d k=>k it (by simp) _ d
 item:=by
  intro X Y hw S O i j s σ H E I J d N;subst Y hw S;obtain⟨f0,M,f2,f3,Z,U⟩:=J it (by simp);have W:=Walks.range (prog:=X.prog) (w:=X.w) (I.ok.hd O) it lo 1 n;refine W.item i s _ _ N d λv L tk hv F kk=>?_
  obtain⟨t,rfl⟩:=hv;have I1:Inv X j σ H {s with heap:=L,toks:=tk}:=I.turned (λb o y e=>kk b o (by simpa using y) e) f0 M f3 Z U;refine⟨_,rfl,Np (s:={s with heap:=L,toks:=tk}) (n:="range_iterator") F rfl rfl (by decide) ⟨.int (lo+i),H,I1,⟨t,?_⟩,⟨rfl,rfl⟩,F,λb y=>(J b y).1⟩⟩;rw[Int.mul_one]
 done:=by intro X Y hw S O i j s σ H E I J d N;subst Y hw S;obtain⟨f0,M,f2,f3,Z,U⟩:=J it (by simp);exact wpAny_pyNext_range_end (I.ok.hd O) d (by have:n<=i:=N;lia) λL eb=>⟨rfl,I.turned (t':=s.toks) (λb o y e=>eb b o y e) f0 M f3 Z U⟩
 self:=λ_ _ _ _ _ d h=>wpAny_pyIter_rangeiter d h
section
variable{X:Cx}{tg:xw}
def ZMb(K:PySem.W.Frag)(tl:TE):TI:=λσ H R=>tl σ H λx H1=>∃a,x=.ref a/\(∃xs,SqL K H1 a xs)/\R (Itl K a) H1
def iTup(K:PySem.W.Frag)(tl:TE):TI:=λσ H R=>tl σ H λx H1=>∃a,x=.ref a/\(∃xs,SqT K H1 a xs)/\R (Itt K a) H1
theorem ZCY{l:xw}{n:TE}(y:PE X l n):PI X tg l (ZMb X.K n):=by
 intro d s M H R I h;refine thn (y d s M H _ I h) λv j ⟨x,L,i,N,F⟩=>?_
 obtain⟨a,e,⟨O,z⟩,q⟩:=F;subst e;cases N;obtain⟨B,rv,p,S⟩:=i.list z;refine wpAny_pyIter_list p.isList ?_;refine⟨j.heap.objs.size,[j.heap.objs.size],_,_,L,rfl,i.kept (t':=j.toks) λb o e=>zJ _ e,ZS9 a _,⟨_,z0 _ rfl,rfl,rfl⟩,λb J=>?_,q⟩;have e:b=j.heap.objs.size:=by simpa using J
 subst e;exact i.Hx (zK _) (i.hok.fresh (zK _))
theorem ZLO{l:xw}{y:TE}(z:PE X l y):PI X tg l (iTup X.K y):=by
 intro i s M H R I h;refine thn (z i s M H _ I h) λv d ⟨x,L,j,N,F⟩=>?_
 obtain⟨a,e,⟨O,B⟩,q⟩:=F;subst e;cases N;obtain⟨n,rv,p,S⟩:=j.tuple B
 refine wpAny_pyIter_tuple (show d.heap.IsTuple a n.toArray from p) ?_
 refine⟨d.heap.objs.size,[d.heap.objs.size],_,_,L,rfl,j.kept (t':=d.toks) λb o e=>zJ _ e,ZLR a _,⟨_,z0 _ rfl,rfl,rfl⟩,λb J=>?_,q⟩;have e:b=d.heap.objs.size:=by simpa using J
 subst e;exact j.Hx (zK _) (j.hok.fresh (zK _))
theorem ZUx{z:St}{H:Hp}{R:It->Hp->Prop}{E:xD->xB->Prop}{lo hi:Int}{t u v:Tok}{tk:Nat}(I:Inv X vC z H s)(M: -(2^62)<=lo)(F:lo<2^62)(B: -(2^62)<=hi)(O:hi<2^62)
  (q:R (Itr lo (hi-lo).toNat) H):vY (vZ X.prog X.w) X.A (pyIter (.ref s.heap.objs.size)) (PIE X vC z tg R) E {s with heap:=s.heap.push {cls:=.type "range",data:=.fields #[.int lo t,.int hi u,.int 1 v]},toks:=tk}:=by
 refine wpAny_pyIter_range (IsRange.new ..) (small_one M F B O) ?_;have y:Inv X vC z H {s with heap:=s.heap.push {cls:=.type "range",data:=.fields #[.int lo t,.int hi u,.int 1 v]},toks:=tk}:=I.kept λb o e=>zJ _ e
 refine⟨(s.heap.push {cls:=.type "range",data:=.fields #[.int lo t,.int hi u,.int 1 v]}).objs.size,[(s.heap.push {cls:=.type "range",data:=.fields #[.int lo t,.int hi u,.int 1 v]}).objs.size],_,_,H,rfl,
  y.kept (t':=tk) λb o e=>zJ _ e,ZUu _ lo (hi-lo).toNat,?_,λb J=>?_,q⟩
 ·have N:lo+((0:Nat):Int)*1=lo:=by simp
  have L:(((hi-lo).toNat:Nat):Int)-((0:Nat):Int)=Builtin.Range.rangeSize lo hi 1:=by rw[rangeSize_one];split <;> lia
  show IsRangeIter _ _ (lo+((0:Nat):Int)*1) ((((hi-lo).toNat:Nat):Int)-((0:Nat):Int)) 1;rw[N,L];exact z0 _ rfl
 ·have e:b=(s.heap.push {cls:=.type "range",data:=.fields #[.int lo t,.int hi u,.int 1 v]}).objs.size:=by simpa using J
  subst e;exact y.Hx (zK _) (y.hok.fresh (zK _))
def ZLz(ta:TA):TI:=λσ H R=>ta σ H λvs H1=>∃j:Int,vs=[.int j]/\ -(2^62)<=j/\j<2^62/\R (Itr 0 j.toNat) H1
theorem ZUA{a:xw}{ta:TA}{p pos:Pos}(J:Gl X "range")(B:X.mg "range"=vE)(y:PA X [a] ta)(z:vW [a] X.env=[(vG,eval a X.env)]:=by rfl):PI X tg (.Call (.Name "range" p) [a] [] pos) (ZLz ta):=by
 intro d s L H R I h;refine Call_ (Hh I J B boot_range (PyProof.Rows.callWith_type1 (thn (y pos d s L H _ I h) λU S ⟨W,O,F,N,i⟩=>?_) z rfl));obtain⟨j,e,i,M,q⟩:=i;subst e;cases N with
 |cons r n=>
  cases n;obtain⟨t,rfl⟩:=r;exact call_range_1 (ZUx F (by lia) (by lia) i M (by simpa using q))
def tFor(wi:TI)(g:TG)(tb:TS):TS:=λD σ H=>wi σ H λJ H1=>∃W:Nat->Nat->St->Hp->Prop,(∃m,W 0 m σ H1)/\∀i m σ H,W i m σ H->
 (J.stop i H/\D.nx σ H)∨(J.go i H/\∃N:St->Hp->Prop,(∀σ' H',N σ' H'->∃m',m'<m/\W (i+1) m' σ' H')/\∀x H',J.yld i H x H'->g x σ H' λσ2 H2=>tb {D with nx:=N,ct:=N,bk:=D.nx} σ2 H2)
noncomputable def Mz(fp:List xz)(h:Heap):List (xz×Obj):=fp.filterMap λb=>(h.get? b).map λo=>(b,o)
theorem Tq(d:b∈fp)(e:h.get? b=vD o):(b,o)∈Mz fp h:=List.mem_filterMap.mpr ⟨b,d,by rw[e];rfl⟩
theorem ZFi(hp:p∈Mz fp h):p.1∈fp/\h.get? p.1=vD p.2:=by
 obtain⟨b,i,e⟩:=List.mem_filterMap.mp hp;cases q:h.get? b with
 |none=>rw[q]at e;cases e
 |some o=>
  rw[q]at e;have d:(b,o)=p:=Option.some.inj e;subst d;exact⟨i,q⟩
theorem Inv.pinned{n:St}{H:Hp}{fp:List xz}(I:Inv X vC n H s)(q:∀b∈fp,FpOk X vC H b)(ho:∀b∈fp,∃o,s.heap.get? b=vD o/\∀v,o.data≠ .cell v):Inv X (vC++Mz fp s.heap) n H s:=
 I.K5 λp hp=>(jG.mp hp).elim (λz=>I.pin p (qZ _ z)) λz=>by obtain⟨i,e⟩:=ZFi z;obtain⟨y,B,F,_⟩:=q p.1 i;obtain⟨o,j,d⟩:=ho p.1 i;rw[e]at j;cases j;exact⟨e,y,B,F,d⟩
theorem Inv.unpinned{pl:List (xz×Obj)}{d:St}{H:Hp}(I:Inv X (vC++pl) d H s):Inv X vC d H s:=I.K5 λp hp=>I.pin p (qZ _ (xX _ hp))
theorem ZKn(hp:PassesOwn (vZ X.prog X.w) X.A X.env X.xe)(hc:X.calm=vF)(hi:PI X tg iter wi)(hg:PG X tg g)(M:PSs X body tb)
  (hs:∀x,foldedSetIterable iter X.env x=pure x:=by intro _;rfl):PS X (.For tg iter body [] pos) (tFor wi g tb):=by
 intro j s σ H D I h;refine wpAny_For (thn (hi j s σ H _ I h) λv s1 h1=>thn h1 λitv s2 h2=>?_) hs;obtain⟨it,fp,tn,J,H2,e,I2,T,st2,f2,W,⟨m0,w0⟩,turn⟩:=h2;subst e;have B:∀{S:Hp},(∀b∈fp,S b=vE)->∀b∈fp,FpOk X j S b:=λhn b M=>⟨hn b M,(f2 b M).2⟩
 refine codeAny_forLoop_any (λn s'=>∃i F S,Inv X j F S s'/\tn i s'.heap/\(∀b∈fp,S b=vE)/\W i n F S) ?_ m0 ⟨0,σ,H2,I2,st2,λb M=>(f2 b M).1,w0⟩;rintro n s3 ⟨i,y,H3,I3,st3,fr3,w3⟩;rcases turn i n y H3 w3 with⟨stop,qn⟩|⟨go,N,hN,step⟩
 ·refine v5 hp (thn (T.done X rfl rfl rfl hc i j s3 y H3 X.xe I3 (B fr3) st3 stop) λr s4 ⟨hr,I4⟩=>?_);subst hr;exact wpAny_execs_nil ⟨y,H3,I4,qn⟩
 ·refine v5 hp (thn (T.item X rfl rfl rfl hc i j s3 y H3 X.xe I3 (B fr3) st3 go) λr s4 ⟨u,hr,h4⟩=>?_);subst hr;refine v5 hp (thn h4 λ_ s5 ⟨x,H5,I5,r5,y5,Y,fr5⟩=>?_);have I5':=I5.pinned (B fr5) (T.obj _ _ Y);refine v5 hp (thn (hg _ s5 y H5 x u _ I5' r5 (step x H5 y5)) λ_ s6 ⟨σ6,H6,I6,q6⟩=>?_);refine v5 hp (thn (M _ s6 σ6 H6 _ I6 q6) λf s7 U=>?_)
  have L:∀{q:St}{O:Hp},Inv X (j++Mz fp s5.heap) q O s7->N q O->∃m,m<n/\∃i F S,Inv X j F S s7/\tn i s7.heap/\(∀b∈fp,S b=vE)/\W i m F S:=λ{q O}z Z=>by obtain⟨m',hm,w7⟩:=hN q O Z;refine⟨m',hm,i+1,q,O,z.unpinned,T.keep _ _ _ Y λb M o e=>(z.pin (b,o) (qZ _ (qZ _ (Tq M e)))).1,λb M=>?_,w7⟩;obtain⟨o,e,d⟩:=T.obj _ _ Y b M;exact(z.pin (b,o) (qZ _ (qZ _ (Tq M e)))).2.1
  cases f with
  |next=>obtain⟨q,O,z,Z⟩:=U;exact L z Z
  |cont=>obtain⟨q,O,z,Z⟩:=U;exact L z Z
  |brk=>obtain⟨q,O,z,U⟩:=U;exact⟨q,O,z.unpinned,U⟩
  |ret v=>obtain⟨x7,q,O,z,r7,U⟩:=U;exact⟨x7,q,O,z.unpinned,r7,U⟩
end
noncomputable abbrev R2:=V->V->Hp->VK->Prop
def OpR(X:Cx)(f:xD->xD->Sem xD)(r:R2):Prop:=
 ∀(vC:List (xz×Obj))(s:xB)(σ:St)(H:Hp)(x y:V)(v u:xD)(Q:VK),Inv X vC σ H s->RelV x v->RelV y u->r x y H Q->
  vY (vZ X.prog X.w) X.A (f v u) (EP X vC σ Q) X.xe s
def UnR(X:Cx)(f:xD->Sem xD)(r:V->Hp->VK->Prop):Prop:=
 ∀(vC:List (xz×Obj))(s:xB)(σ:St)(H:Hp)(x:V)(v:xD)(Q:VK),Inv X vC σ H s->RelV x v->r x H Q->
  vY (vZ X.prog X.w) X.A (f v) (EP X vC σ Q) X.xe s
def CallR(X:Cx)(f:xD)(r:List V->Hp->VK->Prop):Prop:=
 ∀(vC:List (xz×Obj))(s:xB)(σ:St)(H:Hp)(xs:List V)(us:List xD)(Q:VK),Inv X vC σ H s->Vals xs us->r xs H Q->
  vY (vZ X.prog X.w) X.A (call f us) (EP X vC σ Q) X.xe s
noncomputable def tOp(r:R2)(ta tb:TE):TE:=λσ H Q=>ta σ H λx H1=>tb σ H1 λy H2=>r x y H2 Q
noncomputable def tUn(r:V->Hp->VK->Prop)(ta:TE):TE:=λσ H Q=>ta σ H λx H1=>r x H1 Q
noncomputable def rI(C:Int->Int->Prop)(g:Int->Int->V):R2:=λx y H Q=>∃i j,x=.int i/\y=.int j/\C i j/\Q (g i j) H
noncomputable def rI0(g:Int->Int->V):R2:=λx y H Q=>∃i j,x=.int i/\y=.int j/\Q (g i j) H
def rU(g:Int->V):V->Hp->VK->Prop:=λx H Q=>∃i,x=.int i/\Q (g i) H
section
variable{X:Cx}{a b c:xw}{ta tb tc:TE}{pos:Pos}
theorem ZCF(z:PE X a ta)(M:PE X b tb){i:St}{H:Hp}{R:V->V->Hp->Prop}(I:Inv X vC i H s)
  (h:ta i H λx q=>tb i q λy d=>R x y d) {Q:xD->xB->Prop} {f:xD->xD->Sem xD}
  (B:∀v u s2 x y d,Inv X vC i d s2->RelV x v->RelV y u->R x y d->vY (vZ X.prog X.w) X.A (f v u) Q X.xe s2):
  vY (vZ X.prog X.w) X.A (eval a X.env) (λv n=>vY (vZ X.prog X.w) X.A (eval b X.env) (λu j=>vY (vZ X.prog X.w) X.A (f v u) Q X.xe j) X.xe n) X.xe s:=by
 refine thn (z vC s i H _ I h) λv O ⟨x,q,L,U,J⟩=>?_
 refine thn (M vC O i q _ L J) λu s2 ⟨y,d,N,S,F⟩=>?_
 exact B v u s2 x y d N U S F
theorem ZRd{op:Operator}{r:R2}(ho:OpR X (xM op) r)(j:PE X a ta)(F:PE X b tb):PE X (.BinOp a op b pos) (tOp r ta tb):=by intro d s L H Q I h;exact wpAny_BinOp (ZCF j F I h λv u i x y n B z J q=>ho d i L n x y v u Q B z J q)
theorem ZTY(ho:UnR X (unaryOp op) r)(j:PE X a ta):PE X (.UnaryOp op a pos) (tUn r ta):=by intro d s i H Q I h;exact UnaryOp_ (thn (j d s i H _ I h) λv z ⟨x,y,q,B,n⟩=>ho d z i y x v Q q B n)
theorem opI{f:xD->xD->Sem xD}{C:Int->Int->Prop}{g:Int->Int->Int}
  (n:∀(i j:Int)(t u:Tok)(s:xB)(Q:xD->xB->Prop)(E:xD->xB->Prop),C i j->Q (.int (g i j) s.toks) {s with toks:=s.toks+1}->vY (vZ X.prog X.w) X.A (f (.int i t) (.int j u)) Q E s):
  OpR X f (rI C λi j=>.int (g i j)):=by
 intro z s M H x y v u Q I J L h;obtain⟨i,j,rfl,rfl,B,q⟩:=h;obtain⟨t,rfl⟩:=J;obtain⟨F,rfl⟩:=L;exact n i j t F s _ _ B ⟨.int (g i j),H,I.tok _,⟨_,rfl⟩,q⟩
theorem opI0{f:xD->xD->Sem xD}{g:Int->Int->Int}
  (n:∀(i j:Int)(t u:Tok)(s:xB)(Q:xD->xB->Prop)(E:xD->xB->Prop),Q (.int (g i j) s.toks) {s with toks:=s.toks+1}->vY (vZ X.prog X.w) X.A (f (.int i t) (.int j u)) Q E s):
  OpR X f (rI0 λi j=>.int (g i j)):=by
 intro z s L H x y v u Q I F J h;obtain⟨i,j,rfl,rfl,q⟩:=h;obtain⟨t,rfl⟩:=F;obtain⟨B,rfl⟩:=J;exact n i j t B s _ _ ⟨.int (g i j),H,I.tok _,⟨_,rfl⟩,q⟩
theorem Qt{f:xD->xD->Sem xD}{g:Int->Int->Bool}
  (d:∀(i j:Int)(t u:Tok)(s:xB)(Q:xD->xB->Prop)(E:xD->xB->Prop),Q (.bool (g i j)) s->vY (vZ X.prog X.w) X.A (f (.int i t) (.int j u)) Q E s):
  OpR X f (rI0 λi j=>.bl (g i j)):=by
 intro n s J H x y v u Q I B F h;obtain⟨i,j,rfl,rfl,q⟩:=h;obtain⟨t,rfl⟩:=B;obtain⟨z,rfl⟩:=F;exact d i j t z s _ _ ⟨.bl (g i j),H,I,rfl,q⟩
def CPow(i j:Int):Prop:=0<=j/\j<=1000000/\i.natAbs<2^64
def CMul(i j:Int):Prop:=(-(2^64)<i/\i<2^64)∨(-(2^64)<j/\j<2^64)
theorem CMul.ok(h:CMul i j):IntMulOk i j:=by
 rcases h with⟨d,n⟩|⟨d,n⟩
 ·exact .of_left (intBits_le_64 d n)
 ·exact .of_right (intBits_le_64 d n)
theorem ZK3:OpR X (xM .Add) (rI0 λi j=>.int (i+j)):=opI0 λ_ _ _ _ _ _ _ q=>add_int q
theorem ZP5:OpR X (xM .Sub) (rI0 λi j=>.int (i-j)):=opI0 λ_ _ _ _ _ _ _ q=>sub_int q
theorem ZUa:OpR X (xM .Mod) (rI (λ_ j=>0<j) λi j=>.int (i%j)):=opI λi j _ _ _ _ _ d q=>by have n:(0:Int)<j:=d;exact mod_int' (by lia) (by rw[Int.fmod_eq_emod_of_nonneg i (by lia)];exact q)
theorem ZQN:OpR X (xM .Pow) (rI CPow λi j=>.int (i^j.toNat)):=opI λ_ _ _ _ _ _ _ d q=>pow_int_small d.1 d.2.1 d.2.2 q
theorem unI{f:xD->Sem xD}{g:Int->Int}
  (j:∀(i:Int)(t:Tok)(s:xB)(Q:xD->xB->Prop)(E:xD->xB->Prop),Q (.int (g i) s.toks) {s with toks:=s.toks+1}->vY (vZ X.prog X.w) X.A (f (.int i t)) Q E s):
  UnR X f (rU λi=>.int (g i)):=by
 intro n s z H x v Q I y h;obtain⟨i,rfl,q⟩:=h;obtain⟨t,rfl⟩:=y;exact j i t s _ _ ⟨.int (g i),H,I.tok _,⟨_,rfl⟩,q⟩
theorem ZPG:UnR X (unaryOp .USub) (rU λi=>.int (-i)):=unI λ_ _ _ _ _ q=>neg_int q
end
section
variable{X:Cx}{a b c:xw}{ta tb tc:TE}{pos:Pos}
theorem Sv{d:St}{H:Hp}{Q:VK}{k i:Bool}(I:Inv X vC d H s)(q:Q (.bl k) H)(e:k=i):EP X vC d Q (.bool i) s:=by subst e;exact⟨.bl k,H,I,rfl,q⟩
theorem ZSj:OpR X (xR .Lt) (rI0 λi j=>.bl (decide (i<j))):=Qt λ_ _ _ _ _ _ _ q=>lt_int q
theorem ZNm:OpR X (xR .LtE) (rI0 λi j=>.bl (decide (i<=j))):=Qt λ_ _ _ _ _ _ _ q=>le_int q
theorem ZR1:OpR X (xR .Gt) (rI0 λi j=>.bl (decide (j<i))):=Qt λ_ _ _ _ _ _ _ q=>gt_int q
theorem ZMu:OpR X (xR .GtE) (rI0 λi j=>.bl (decide (j<=i))):=Qt λ_ _ _ _ _ _ _ q=>ge_int q
theorem ZOM:OpR X (xR .Lt) (λx y H Q=>∃i j,x=.str i/\y=.str j/\Q (.bl (decide (i.cps.toList<j.cps.toList))) H):=by intro d s F H x y v u Q I n z h;obtain⟨i,j,rfl,rfl,q⟩:=h;obtain⟨t,rfl⟩:=n;obtain⟨B,rfl⟩:=z;exact lt_str (Sv I q rfl)
theorem ZM5:OpR X (xR .Is) (λx y H Q=>y=.non/\Q (.bl (decide (x=.non))) H):=by
 intro i s n H x y v u Q I d j h;obtain⟨rfl,q⟩:=h;cases j;refine is_none_gen (Sv I q ?_)
 cases x<;>first
  |(cases d;rfl)
  |(obtain⟨t,rfl⟩:=d;rfl)
theorem ZPh:OpR X (xR .IsNot) (λx y H Q=>y=.non/\Q (.bl (!decide (x=.non))) H):=by
 intro i s n H x y v u Q I d j h;obtain⟨rfl,q⟩:=h;cases j;refine isnot_none_gen (Sv I q ?_)
 cases x<;>first
  |(cases d;rfl)
  |(obtain⟨t,rfl⟩:=d;rfl)
theorem ZTT:OpR X (xR .NotIn) (λx y H Q=>∃i j,x=.str i/\y=.str j/\Q (.bl (!(!(Builtin.Str.occurrences j i 0 j.length 1).isEmpty))) H):=by intro d s F H x y v u Q I n z h;obtain⟨i,j,rfl,rfl,q⟩:=h;obtain⟨t,rfl⟩:=n;obtain⟨B,rfl⟩:=z;exact notIn_str (Sv I q rfl)
theorem OpR.or(h:OpR X f r)(h':OpR X f r'):OpR X f (λx y H Q=>r x y H Q∨r' x y H Q):=by
 intro d s i H x y v u Q I n j q;rcases q with q|q
 ·exact h d s i H x y v u Q I n j q
 ·exact h' d s i H x y v u Q I n j q
theorem nomark(b:xw)(h:op≠ .In:=by decide)(j:op≠ .NotIn:=by decide):xL op b=vG:=by
 have i:(op==CmpOp.In)=vG:=by cases op<;>first|rfl|exact absurd rfl h
 have d:(op==CmpOp.NotIn)=vG:=by cases op<;>first|rfl|exact absurd rfl j
 cases b<;>simp[xL,i,d]
theorem ZP3{op:CmpOp}{r:R2}(ho:OpR X (xR op) r)(j:PE X a ta)(J:PE X b tb)(z:xL op b=vG):PE X (.Compare a [op] [b] pos) (tOp r ta tb):=by intro d s M H Q I h;exact wpAny_Compare1 (ZCF j J I h λv u i x y n F B L q=>ho d i M n x y v u Q F B L q) z
noncomputable def Od(t:TE):TT:=λσ H Q=>t σ H λx H'=>∃k,x=.bl k/\Q k H'
theorem ZFK(ho:OpR X (xR op) r)(J:PE X a ta)(M:PE X b tb)(q:xL op b=vG):PT X (.Compare a [op] [b] pos) (Od (tOp r ta tb)):=by
 intro d s i H Q I h;refine wpAny_isTrue_Compare1 (thn (J d s i H _ I h) λv O ⟨x,N,Z,F,Y⟩=>thn (M d O i N _ Z Y) λu j ⟨y,W,I2,B,q2⟩=>
  thn (ho d j i W x y v u _ I2 F B q2) λc s3 ⟨z,n,S,U,k,e,L⟩=>?_) q
 subst e;cases U;exact v8 ⟨n,S,L⟩
noncomputable def ZHW(r r':R2)(ta tb tc:TE):TE:=λσ H Q=>ta σ H λx H1=>tb σ H1 λy H2=>r x y H2 λz H3=>∃k,z=.bl k/\
 (if k=vF then tc σ H3 λw' H4=>r' y w' H4 Q else Q (.bl vG) H3)
theorem ZUs(ho:OpR X (xR op) r)(n:OpR X (xR op') r')(Y:PE X a ta)(hb:PE X b tb)(W:PE X c tc)
  (S:lastMarks [op,op'] [b,c]=vG:=by with_unfolding_all rfl):PT X (.Compare a [op,op'] [b,c] pos) (Od (ZHW r r' ta tb tc)):=by
 intro i s j H Q I h;refine isTrue_chain (thn (Y i s j H _ I h) λv s1 ⟨x,H1,I1,U,q1⟩=>test_link (thn (hb i s1 j H1 _ I1 q1) λu L ⟨y,H2,I2,B,q2⟩=>
  thn (ho i L j H2 x y v u _ I2 U B q2) λd O ⟨z,q,J,r3,k,e,F⟩=>?_)) S
 subst e;cases r3;refine v8 ?_;cases k with
 |false=>
  obtain⟨k',e',q'⟩:=F;cases e';exact ite_ff ⟨q,J,q'⟩
 |true=>
  refine ite_tt (test_last (thn (W i O j q _ J F) λw' s4 ⟨M,H4,I4,Z,q4⟩=>thn (n i s4 j H4 y M u w' _ I4 B Z q4) λd' s5 ⟨z2,H5,N,r5,k2,e2,q5⟩=>?_));subst e2;cases r5;exact v8 ⟨H5,N,q5⟩
theorem line63:(sizeLine:Nat)<2^63:=by rw[vX];decide
theorem ZQW:OpR X (xM .Add) (λx y H Q=>∃i j,x=.str i/\y=.str j/\i.length+j.length<=sizeLine/\Q (.str (i++j)) H):=by intro d s L H x y v u Q I z B h;obtain⟨i,j,rfl,rfl,F,q⟩:=h;obtain⟨t,rfl⟩:=z;obtain⟨n,rfl⟩:=B;exact add_str (λn J=>⟨.str (i++j),H,I.tok _,⟨_,rfl⟩,q⟩) F
theorem ZLd:OpR X (inplaceOp .Add) (λx y H Q=>∃i j,x=.str i/\y=.str j/\i.length+j.length<=sizeLine/\Q (.str (i++j)) H):=by intro d s L H x y v u Q I z B h;obtain⟨i,j,rfl,rfl,F,q⟩:=h;obtain⟨t,rfl⟩:=z;obtain⟨n,rfl⟩:=B;exact iadd_str (λn J=>⟨.str (i++j),H,I.tok _,⟨_,rfl⟩,q⟩) F
theorem vals1(r:Vals [x] us):∃u,us=[u]/\RelV x u:=by
 cases r with
 |cons i d=>cases d;exact⟨_,rfl,i⟩
theorem vals2(r:Vals [x,y] us):∃u d,us=[u,d]/\RelV x u/\RelV y d:=by
 cases r with
 |cons n j=>
  cases j with
  |cons q i=>cases i;exact⟨_,_,rfl,n,q⟩
theorem ZS5(y:X.calm=vF):CallR X (.builtin "max") (λxs H Q=>∃i j,xs=[.int i,.int j]/\Q (.int (if j>i then j else i)) H):=by
 intro n s M H xs J Q I r h;obtain⟨i,j,rfl,q⟩:=h;obtain⟨u,B,rfl,⟨t,rfl⟩,⟨z,rfl⟩⟩:=vals2 r;refine max_two_ints (I.ok.hd y) λF L k=>⟨_,H,I.kept k,?_,q⟩
 by_cases d:j>i
 ·rw[if_pos d,if_pos d];exact⟨_,rfl⟩
 ·rw[if_neg d,if_neg d];exact⟨_,rfl⟩
theorem ZOW(y:X.calm=vF):CallR X (.builtin "min") (λxs H Q=>∃i j,xs=[.int i,.int j]/\Q (.int (if j<i then j else i)) H):=by
 intro n s M H xs J Q I r h;obtain⟨i,j,rfl,q⟩:=h;obtain⟨u,B,rfl,⟨t,rfl⟩,⟨z,rfl⟩⟩:=vals2 r;refine min_two_ints (I.ok.hd y) λF L k=>⟨_,H,I.kept k,?_,q⟩
 by_cases d:j<i
 ·rw[if_pos d,if_pos d];exact⟨_,rfl⟩
 ·rw[if_neg d,if_neg d];exact⟨_,rfl⟩
end
structure ObjM (h:Heap) (x dx C:xz) (mA:Str->Option xD):Prop where
 obj:h.get? x=vD (PySem.W.instObj C dx)
 ns:h.Ns1 dx mA
 ne:dx≠x
theorem ZUo{h:Heap}{j:xz}{i:Str->Option xD}(n:h.Ns1 j i):∃od,h.get? j=vD od/\∀name,PySem.W.lookIn name od=vD (i name):=by
 obtain⟨o,B,N,M,J,hk,_,F⟩:=n;refine⟨o,M,λname=>?_⟩;have e:=F name;unfold nsFind findBy at e;rw[<-Array.find?_toList]at e;unfold PySem.W.lookIn;rw[J];dsimp only;split
 ·rename_i y q;rw[q]at e;exact congrArg vD e
 ·rename_i q;rw[q]at e
  have a:B.toList.any (·.refKey)=vG:=by rw[List.any_eq_false];intro y I;obtain⟨z,t,d⟩:=hk y (Array.mem_toList_iff.mp I);simp[DictEntry.refKey,d]
  have L:¬B.toList.any (·.refKey)=vF:=by rw[a];exact zk
  rw[if_neg L];exact congrArg vD e
theorem ObjM.look(I:ObjM h x dx C mA):∃od,PySem.W.InstAt h x (PySem.W.instObj C dx) C (vD od)/\∀name,PySem.W.lookIn name od=vD (mA name):=
 let⟨od,i,d⟩:=ZUo I.ns
 ⟨od,⟨I.obj,rfl,rfl,i⟩,d⟩
section
variable{prog:x0}{w:xE}{A:xj}{E:xD->xB->Prop}{s:xB}{K:PySem.W.Frag}{x dx C f:xz}{mA:Str->Option xD}{name:Str}{v:xD}
theorem ZST(X:K.In s.heap)(I:ObjM s.heap x dx C mA)(q:PySem.W.plainGet K C name=vF)(y:PySem.W.hasDictIn K C=vF)
  (n:PySem.W.findIn K (.ref C) name=vD vE) (z:mA name=vD v) (i:PySem.W.handedIn v=vF) (h:Q v {s with toks:=s.toks+1}):
  vY (vZ prog w) A (getAttr (.ref x) name expr) Q E s:=by
 obtain⟨B,J,j⟩:=I.look;exact PySem.W.get_value X J (PySem.W.plainGet_of q).1 (PySem.W.findObj_own y n rfl (by rw[j,z])) i h
theorem ZNk(X:K.In s.heap)(I:ObjM s.heap x dx C mA)(d:PySem.W.plainGet K C name=vF)
  (n:PySem.W.findIn K (.ref C) name=vD (vD (.ref f))) (q:PySem.W.isFn K (.ref f)=vF) (y:mA name=vE) (h:Q (.ref f,[.ref x]) s):
  vY (vZ prog w) A (getMethod (.ref x) name pl) Q E s:=by
 obtain⟨j,J,i⟩:=I.look
 exact PySem.W.method_fn X J (PySem.W.plainGet_of d).1 (PySem.W.plainGet_of d).2 n (beq_iff_eq.mp q) (by show(PySem.W.lookIn name j).map (·.isSome)=vD vG;rw[i,y];rfl) h
theorem ZKU(X:K.In s.heap)(I:ObjM s.heap x dx C mA)
  (S:PySem.W.findIn K (.ref C) "__setattr__"=vD (vD (.builtin "object.__setattr__"))) (hp:PySem.W.plainOver K C=vF) (M:PySem.W.takerIn K C name=vD vE) (Y:PySem.W.hasDictIn K C=vF)
  (hw:PySem.Within mA ns) (hsz:ns.length<=sizeLine)
  (h:∀h',ObjM h' x dx C (λy=>if y=name then vD v else mA y)->qB dx s.heap h'->Q () {s with heap:=h',toks:=s.toks+2}):
  vY (vZ prog w) A (setAttr (.ref x) name v) Q E s:=by
 obtain⟨od,J,Z⟩:=I.look;refine PySem.W.set_plain X J S (PySem.W.osa_open (s:={s with toks:=s.toks+1}) (r:=vE) X J hp M λb=>?_);obtain⟨cd,L,B⟩:=PySem.W.any_some Y;have N:s.heap.get? x=vD ⟨.ref C,vD dx,.plain,#[]⟩:=I.obj;refine vz (v6 (vz (vz (wpAny_loadPart N (vz (PySem.W.Looks.here (s:={s with toks:=s.toks+1}) (PySem.W.looks_clsIn X L) ?_))))));rw[B]
 refine v6 (a:=vD dx) (vz (v6 (vz ?_)));refine wpAny_nsSet1 (s:={s with toks:=s.toks+1}) I.ns λh' j n=>?_
 obtain⟨oD,U,O,q,F,z⟩:=j.count (PySem.Within.cons name v hw);refine vz (wpAny_lookBehind q (by rw[F];exact pastItsLine_dict (zA z (by rw[zU];lia))) ?_);exact v6 (h _ ⟨(n.2 _ (Ne.symm I.ne)).trans I.obj,j,I.ne⟩ n)
theorem ZRD(X:K.In s.heap)(hm:PySem.W.makesIn K C=vF)
  (hi:PySem.W.findIn K (.ref C) "__init__"=vD (vD (.ref f))) (hf:PySem.W.typeIn K (.ref f)=vD (.type "function"))
  (h:codeAny (vZ prog w) (A.under (.builtin "type.__call__" ⟨.ref C::vs,kw⟩)) (.call (.ref f) ⟨.ref (s.heap.objs.size+1)::vs,kw⟩) (PySem.W.InitBack (s.heap.objs.size+1) R)
   {s with heap:=(s.heap.push PySem.W.emptyDict).push (PySem.W.instObj C s.heap.objs.size)}):
  codeAny (vZ prog w) A (.call (.ref C) ⟨vs,kw⟩) R s:=by
 obtain⟨hh,g,d,t,os⟩:=s;exact PySem.W.make_core (PySem.W.makes_of X hm) (PySem.W.looks_findIn X hi) (λself=>PySem.W.bind_fn X self hf) (.inl rfl) h
end
noncomputable def El(f:Str)(v:V):List (Str×V)->List (Str×V)
 |[]=>[(f,v)]
 |(g,x)::r=>if g=f then(g,v)::r else(g,x)::El f v r
theorem ZEw(f g:Str)(v:V):∀fs:List (Str×V),(El f v fs).lookup g=if g=f then vD v else fs.lookup g
 |[]=>by
  show jY g [(f,v)]=_;by_cases h:g=f
  ·have d:(g==f)=vF:=beq_iff_eq.mpr h;simp only[jY,d,if_pos h]
  ·have d:(g==f)=vG:=beq_eq_false_iff_ne.mpr h;simp only[jY,d,if_neg h]
 | (k,x)::r=>by
  have i:=ZEw f g v r
  rw[show El f v ((k,x)::r)=(if k=f then(k,v)::r else(k,x)::El f v r)from rfl]
  by_cases hk:k=f
  ·rw[if_pos hk];by_cases h:g=k
   ·have d:(g==k)=vF:=beq_iff_eq.mpr h;simp only[jY,d,if_pos (h.trans hk)]
   ·have d:(g==k)=vG:=beq_eq_false_iff_ne.mpr h;simp only[jY,d,if_neg (λe:g=f=>h (e.trans hk.symm))]
  ·rw[if_neg hk];by_cases h:g=k
   ·have d:(g==k)=vF:=beq_iff_eq.mpr h;simp only[jY,d,if_neg (λe:g=f=>hk (h.symm.trans e))]
   ·have d:(g==k)=vG:=beq_eq_false_iff_ne.mpr h;simp only[jY,d];exact i
theorem Yn(f:Str)(v:V):∀fs:List (Str×V),f∈(El f v fs).map (·.1)/\∀g,g∈fs.map (·.1)->g∈(El f v fs).map (·.1)
 |[]=>⟨by simp[El],λg h=>by simp at h⟩
 | (k,x)::r=>by
  obtain⟨d,i⟩:=Yn f v r
  rw[show El f v ((k,x)::r)=(if k=f then(k,v)::r else(k,x)::El f v r)from rfl]
  by_cases hk:k=f
  ·rw[if_pos hk];subst hk;exact⟨by simp,λg h=>by simpa using h⟩
  ·rw[if_neg hk];refine⟨?_,λg h=>?_⟩
   ·rw[zw];exact zZ _ d
   ·rw[zw]at h⊢;rcases zq.mp h with e|e
    ·exact zq.mpr (.inl e)
    ·exact zZ _ (i g e)
theorem ZG2(f:Str)(v:V):∀fs:List (Str×V),(El f v fs).length<=fs.length+1
 |[]=>by simp[El]
 |(k,x)::r=>by
  have d:=ZG2 f v r
  rw[show El f v ((k,x)::r)=(if k=f then(k,v)::r else(k,x)::El f v r)from rfl]
  by_cases hk:k=f
  ·rw[if_pos hk,zU,zU];lia
  ·rw[if_neg hk,zU,zU];lia
theorem RelO.some_of(r:RelO (vD v) o):∃u,o=vD u/\RelV v u:=by
 cases o with
 |none=>exact(show False from r).elim
 |some u=>exact⟨u,rfl,r⟩
theorem RelO.none_of(r:RelO vE o):o=vE:=by
 cases o with
 |none=>rfl
 |some u=>exact(show False from r).elim
theorem ZQY(r:RelV v u):PySem.W.handedIn u=vF:=by
 cases v with
 |non=>cases(show u=Value.none from r);rfl
 |bl b=>cases(show u=Value.bool b from r);rfl
 |int i=>obtain⟨t,e⟩:=(show∃t,u=Value.int i t from r);cases e;rfl
 |str x=>obtain⟨t,e⟩:=(show∃t,u=Value.str x t from r);cases e;rfl
 |byt b=>obtain⟨t,e⟩:=(show∃t,u=Value.bytes b t from r);cases e;rfl
 |flt b=>obtain⟨t,e⟩:=(show∃t,u=Value.float b t from r);cases e;rfl
 |ref a=>cases(show u=Value.ref a from r);rfl
 |ty n=>cases(show u=Value.type n from r);rfl
section
variable{P:x0}{w:xE}{H H':Hp}{h h':Heap}{a C dx:xz}{fs fs':List (Str×V)}
theorem Zv(hok:HOk P w H h)(e:H a=vD (.ins C dx fs)):∃i,ObjM h a dx C i/\(∀f,RelO (fs.lookup f) (i f))/\PySem.Within i (fs.map (·.1))/\fs.length<=1000/\H dx=vD (.own a):=by
 obtain⟨d,z,y,j,i,n,r,q⟩:=(show ObjOk P w H h a (.ins C dx fs)from hok a _ e)
 exact⟨i,⟨j,n,y⟩,r,q,z,d⟩
end
structure Cls (K:PySem.W.Frag) (C:xz):Prop where
 pg:PySem.W.plainGet K C Str.empty=vF
 hd:PySem.W.hasDictIn K C=vF
 po:PySem.W.plainOver K C=vF
 sa:PySem.W.findIn K (.ref C) "__setattr__"=vD (vD (.builtin "object.__setattr__"))
theorem Cls.get{C:xz}(c:Cls K C)(f:Str):PySem.W.plainGet K C f=vF:=c.pg
def NoAttr(K:PySem.W.Frag)(C:xz)(f:Str):Prop:=PySem.W.findIn K (.ref C) f=vD vE
theorem NoAttr.taker{C:xz}{f:Str}(n:NoAttr K C f):PySem.W.takerIn K C f=vD vE:=by
 unfold PySem.W.takerIn
 rw[show PySem.W.findIn K (.ref C) f=vD vE from n]
 rfl
structure Meth (K:PySem.W.Frag) (C:xz) (m:Str) (f:xz):Prop where
 at_:PySem.W.findIn K (.ref C) m=vD (vD (.ref f))
 fn:PySem.W.isFn K (.ref f)=vF
 kp:PySem.W.keepIn K (.ref f)=vF
section
variable{X:Cx}{vC:List (xz×Obj)}{σ:St}{H:Hp}{s:xB}{a C dx:xz}{fs:List (Str×V)}{f:Str}{v:V}{A:xj}{E:xD->xB->Prop}
theorem ZKB(I:Inv X vC σ H s)(e:H a=vD (.ins C dx fs))(c:Cls X.K C)(n:NoAttr X.K C f)(l:fs.lookup f=vD v)
  (h:∀u s',Inv X vC σ H s'->RelV v u->Q u s'):vY (vZ X.prog X.w) A (getAttr (.ref a) f b) Q E s:=by
 obtain⟨j,O,r,_,_,_⟩:=Zv I.hok e;obtain⟨u,i,d⟩:=RelO.some_of (v:=v) (o:=j f) (by rw[<-l];exact r f);exact ZST I.kIn O (c.get f) c.hd n i (ZQY d) (h u _ (I.tok _) d)
theorem ZH8(I:Inv X vC σ H s)(e:H a=vD (.ins C dx fs))(c:Cls X.K C)(k:Meth X.K C m g)(l:fs.lookup m=vE)
  (h:Q (.ref g,[.ref a]) s):vY (vZ X.prog X.w) A (getMethod (.ref a) m pl) Q E s:=by
 obtain⟨d,O,r,_,_,_⟩:=Zv I.hok e;have i:d m=vE:=RelO.none_of (by rw[<-l];exact r m);exact ZNk I.kIn O (c.get m) k.at_ k.fn i h
theorem ZSF(I:Inv X vC σ H s)(e:H a=vD (.ins C dx fs))(c:Cls X.K C)(n:NoAttr X.K C f)(Y:fs.length<1000)(M:RelV y u)
  (h:∀s',Inv X vC σ (upd H a (.ins C dx (El f y fs))) s'->Q () s'):vY (vZ X.prog X.w) A (setAttr (.ref a) f u) Q E s:=by
 obtain⟨B,O,r,i,_,F⟩:=Zv I.hok e
 have W:(fs.map (·.1)).length<=sizeLine:=by rw[qY,vX];lia
 refine ZKU I.kIn O c.sa c.po n.taker c.hd i W λU d J=>h _ ?_
 have j:∃o,U.get? dx=vD o:=let⟨o,_,_,S,_⟩:=d.ns;⟨o,S⟩;refine I.write (x:=a) (e:=dx) (by rw[e];exact True.intro) (.inr F) (λb q L z=>(J.2 b L).trans z) j ?_;refine⟨by rw[Al O.ne];exact F,?_,O.ne,d.obj,_,d.ns,λg=>?_,λg N=>?_⟩
 ·have:=ZG2 f y fs;lia
 ·show RelO ((El f y fs).lookup g) (if g=f then vD u else B g);rw[ZEw];by_cases q:g=f
  ·rw[if_pos q,if_pos q];exact M
  ·rw[if_neg q,if_neg q];exact r g
 ·by_cases q:g=f
  ·rw[q];exact(Yn f y fs).1
  ·refine(Yn f y fs).2 g (i g λz=>N ?_);show(if g=f then vD u else B g)=vE;rw[if_neg q];exact z
theorem Inv.made(I:Inv X vC σ H s):Inv X vC σ (upd (upd H s.heap.objs.size (.own (s.heap.objs.size+1))) (s.heap.objs.size+1) (.ins C s.heap.objs.size []))
  {s with heap:=(s.heap.push PySem.W.emptyDict).push (PySem.W.instObj C s.heap.objs.size)}:=by
 have e1:(s.heap.push PySem.W.emptyDict).get? s.heap.objs.size=vD PySem.W.emptyDict:=z0 s.heap rfl;have e2:((s.heap.push PySem.W.emptyDict).push (PySem.W.instObj C s.heap.objs.size)).get? (s.heap.objs.size+1)=vD (PySem.W.instObj C s.heap.objs.size):=by have:=z0 (s.heap.push PySem.W.emptyDict) (o:=PySem.W.instObj C s.heap.objs.size) rfl;rwa[qE]at this
 have e3:(s.heap.push PySem.W.emptyDict).Ns s.heap.objs.size (λ_=>vE):=⟨PySem.W.emptyDict,#[],_,e1,rfl,(λe he=>absurd he (by simp)),λ_=>rfl⟩;have I1:=I.laid (a:=s.heap.objs.size) (o:=.own (s.heap.objs.size+1)) (h':=s.heap.push PySem.W.emptyDict) (t':=s.toks) (λb u q=>zJ _ q) (zK _) ⟨_,e1⟩;refine I1.laid (a:=s.heap.objs.size+1) (o:=.ins C s.heap.objs.size []) (t':=s.toks) (λb u q=>zJ _ q) (Nat.le_of_eq (qE _ _)) ?_
 have ne:s.heap.objs.size≠s.heap.objs.size+1:=zE (qK _);refine⟨by rw[Al ne,Ej],jH _,ne,e2,λ_=>vE,(Heap.Ns1.of_empty e3).at λo q=>zJ _ q,λ_=>True.intro,λy hy=>absurd rfl hy⟩
theorem ZPP{f:Str}(i:xG e f env (eval e env)=eval e env)
  (h:vY (vZ prog w) A (eval e env) (λo d=>vY (vZ prog w) A (getAttr o f vF) Q E d) E s):vY (vZ prog w) A (eval (.Attribute e f pos) env) Q E s:=
 Attribute_any_ h (by rw[arm_eval_Attribute,i])
end
def tFld(K:PySem.W.Frag)(ta:TE)(f:Str):TE:=λσ H Q=>ta σ H λx H1=>∃a C dx fs v,x=.ref a/\H1 a=vD (.ins C dx fs)/\Cls K C/\NoAttr K C f/\fs.lookup f=vD v/\Q v H1
def sFld(K:PySem.W.Frag)(ta tv:TE)(f:Str):TS:=λD σ H=>tv σ H λy H1=>ta σ H1 λx H2=>∃a C dx fs,x=.ref a/\H2 a=vD (.ins C dx fs)/\Cls K C/\NoAttr K C f/\fs.length<1000/\
 D.nx σ (upd H2 a (.ins C dx (El f y fs)))
section
variable{X:Cx}{o e value:xw}{f:Str}{pos pos' tpos:Pos}{ta tv:TE}
theorem ZKN(y:PE X e ta)(J:xG e f X.env (eval e X.env)=eval e X.env):PE X (.Attribute e f pos) (tFld X.K ta f):=by intro d s N H Q I h;refine ZPP J (thn (y d s N H _ I h) λu W ⟨x,L,B,z,a,C,U,fs,v,i,M,c,n,l,q⟩=>?_);subst i;obtain rfl:u=Value.ref a:=z;exact ZKB B M c n l λS O F j=>⟨v,L,F,j,q⟩
theorem ZRx(F:PE X o ta)(B:PE X value tv)(M:swapsWith value (vD (.Attribute o f pos')) pos.line X.env=pure vG):PS X (.Assign [.Attribute o f pos'] value pos) (sFld X.K ta tv f):=by intro d s i H D I h;refine plainObj_wpAny_Assign_Attribute (thn (B d s i H _ I h) λu L ⟨y,J,U,z,q⟩=>thn (F d L i J _ U q) λO s2 ⟨x,H2,W,N,a,C,dx,fs,j,Y,c,n,l,Z⟩=>?_) M;subst j;obtain rfl:O=Value.ref a:=N;exact ZSF W Y c n l z λs3 S=>⟨i,_,S,Z⟩
end
section
variable{X:Cx}{vC:List (xz×Obj)}{σ:St}{H:Hp}{s:xB}{A:xj}{E:xD->xB->Prop}{Q:xD->xB->Prop}{c:xD}{b:Bool}
end
structure Room (k:Nat) (A:xj):Prop where
 hd:A.handled=vE
 dp:A.depth+3*k+5<recursionLimit
 un:A.units+16*k+200<cLine
theorem Room.mono(r:Room k A)(h:j<=k):Room j A:=⟨r.hd,by have:=r.dp;lia,by have:=r.un;lia⟩
theorem Room.deeper(r:Room (k+1) A)(env:Env):Room k (A.deeper env):=
 ⟨r.hd,by have:=r.dp;show A.depth+1+3*k+5<_;lia,by have:=r.un;show A.units+3+16*k+200<_;lia⟩
theorem ZLY{A:xj}{C:xz}{us:List xD}{d:List (Str×xD)}:(A.under (.builtin "type.__call__" ⟨.ref C::us,d⟩)).depth=A.depth+1:=by
 first|rfl|simp[Around.under,Code.weight,Code.isCreation,Code.isGuard,Code.isCaller,Code.frames,Code.isFrame,guardIds]
theorem ZTt{A:xj}{C:xz}{us:List xD}{d:List (Str×xD)}:(A.under (.builtin "type.__call__" ⟨.ref C::us,d⟩)).units=A.units+1:=by
 first|rfl|simp[Around.under,Code.cUnits,Code.frames,Code.isFrame]
theorem Room.make(r:Room (k+1) A)(C:xz)(us:List xD)(d:List (Str×xD)):Room k (A.under (.builtin "type.__call__" ⟨.ref C::us,d⟩)):=
 ⟨r.hd,by have:=r.dp;rw[ZLY];lia,by have:=r.un;rw[ZTt];lia⟩
theorem Room.depth(r:Room k A):A.depth<recursionLimit:=by have:=r.dp;lia
theorem Room.units(r:Room k A):A.units+64<cLine:=by have:=r.un;lia
noncomputable def Vi:TA:=λ_ H Q=>Q [] H
noncomputable def ZCv(ta:TE)(tr:TA):TA:=λσ H Q=>ta σ H λx H1=>tr σ H1 λxs H2=>Q (x::xs) H2
section
variable{X:Cx}{e:xw}{es:List xw}{te:TE}{t:TA}{pos:Pos}
theorem ZPu:PA X [] Vi:=λ_ _ _ _ H Q I h=>Calls.spliced_nil ⟨[],H,I,.nil,h⟩
theorem ZKT(q:PE X e te)(M:PA X es t)(y:vW (e::es) X.env=(vG,eval e X.env)::vW es X.env:=by rfl):PA X (e::es) (ZCv te t):=by intro i d s j H Q I h;rw[y];show vY _ _ (spliced ((vG,eval e X.env)::xH i (vW es X.env))) _ _ s;refine Calls.spliced_cons (thn (q d s j H _ I h) λu O ⟨x,N,J,U,F⟩=>?_);exact thn (M i d O j N _ J F) λY W ⟨n,z,L,S,B⟩=>⟨x::n,z,L,.cons U S,B⟩
def tTup(t:TA):TE:=λσ H Q=>t σ H λxs H1=>xs.length<=sizeLine/\∀p,H1 p=vE->Q (.ref p) (upd H1 p (.tup xs))
def tLst(t:TA):TE:=λσ H Q=>t σ H λxs H1=>xs.length<=sizeLine/\∀p,H1 p=vE->Q (.ref p) (upd H1 p (.lst xs))
theorem ZQF{x1}(h:PA X es t):PE X (.Tuple es x1 pos) (tTup t):=by intro d s L H Q I F;refine wpAny_Tuple_spliced (thn (h pos d s L H _ I F) λJ i ⟨y,n,j,r,z,q⟩=>⟨by rw[<-r.length];exact z,?_⟩);have B:n i.heap.objs.size=vE:=j.hok.fresh (zK _);refine⟨.ref i.heap.objs.size,upd n i.heap.objs.size (.tup y),j.laid (t':=i.toks) (λb u e=>zJ _ e) (zK _) ?_,rfl,q _ B⟩;exact⟨z,J,r,⟨_,z0 _ rfl,rfl,_,rfl⟩⟩
theorem ZSL(h:PA X es t):PE X (.List es pos) (tLst t):=by intro d s L H Q I F;refine wpAny_List_spliced (thn (h pos d s L H _ I F) λJ i ⟨y,n,j,r,z,q⟩=>⟨by rw[<-r.length];exact z,?_⟩);have B:n i.heap.objs.size=vE:=j.hok.fresh (zK _);refine⟨.ref i.heap.objs.size,upd n i.heap.objs.size (.lst y),j.laid (t':=i.toks) (λb u e=>zJ _ e) (zK _) ?_,rfl,q _ B⟩;exact⟨z,J,0,r,z0 _ rfl⟩
end
noncomputable abbrev Sp:=List V->Hp->VK->XK->Prop
noncomputable abbrev CXT:=List Env->Hp->xB->XK->xD->xB->Prop
structure Env0 (P:x0) (w:xE) (K:PySem.W.Frag) (mg:Str->Option xD) (base:Heap) (A:xj) (outer:List Env) (s:xB) (H:Hp):Prop where
 frames:A.frames=vD outer
 mod:Mod K mg base
 bs:∀b o,base.get? b=vD o->s.heap.get? b=vD o/\H b=vE
 bsz:base.objs.size<=s.heap.objs.size
 funs:s.heap.FunFrames base outer
 frf:∀b∈frs outer,H b=vE
 hok:HOk P w H s.heap
 bare:AllBare s.gens
def CE(outer:List Env)(P:x0)(w:xE)(H:Hp)(s:xB)(Q:VK)(u:xD)(s':xB):Prop:=
 ∃v H',s'.os=s.os/\AllBare s'.gens/\Un (frs outer) [] H H' s.heap s'.heap/\HOk P w H' s'.heap/\RelV v u/\Q v H'
def CR(CX:CXT)(outer:List Env)(P:x0)(w:xE)(H:Hp)(s:xB)(Q:VK)(E:XK)(r:Result)(s':xB):Prop:=
 match r with
 |.ok (.ret u)=>CE outer P w H s Q u s'
 |.ok _=>False
 |.error e=>CX outer H s E e s'
structure FnOk (P:x0) (w:xE) (K:PySem.W.Frag) (mg:Str->Option xD) (base:Heap) (CX:CXT) (k:Nat) (f:xz) (fd:xk) (ps:List Str) (sp:Sp):Prop where
 len:∀vs H Q E,sp vs H Q E->vs.length=ps.length
 run:∀(A:xj)(outer:List Env)(s:xB)(H:Hp)(args:Args)(us:List xD)(vs:List V)(Q:VK)(E:XK),Room k A->Env0 P w K mg base A outer s H->BindsTo s fd args (ps.zip us)->Vals vs us->sp vs H Q E->
  codeAny (vZ P w) A (.call (.ref f) args) (CR CX outer P w H s Q E) s
theorem Env0.make{w:xE}{i:Str->Option xD}{d:Heap}{A:xj}{outer:List Env}{H:Hp}(e:Env0 P w K i d A outer s H)(C:xz)(us:List xD)(j:List (Str×xD)):
  Env0 P w K i d (A.under (.builtin "type.__call__" ⟨.ref C::us,j⟩)) outer s H:=⟨by first|exact e.frames|(simpa[Around.under,Code.envs,Code.isFrame,pushEnvs]using e.frames),e.mod,e.bs,e.bsz,e.funs,e.frf,e.hok,e.bare⟩
section
variable{X:Cx}{vC:List (xz×Obj)}{σ:St}{H:Hp}{s s':xB}
theorem Inv.env0(I:Inv X vC σ H s):Env0 X.prog X.w X.K X.mg X.base X.A X.stack s H:=
 ⟨I.ok.frames,I.ok.mod,I.bs,zA I.ok.bsz I.sz,I.stack,I.ZGG,I.hok,I.bare⟩
theorem Inv.after(I:Inv X vC σ H s)(h:CE X.stack X.prog X.w H s Q u s'):EP X vC σ Q u s':=by obtain⟨v,y,n,i,un,hok,r,q⟩:=h;obtain⟨B,g,d,t,j⟩:=s';obtain rfl:j=s.os:=n;exact⟨v,y,I.call (h':=B) (g':=g) (d':=d) (t':=t) (ch:=[]) un hok i (λb z=>absurd z (by simp)),r,q⟩
end
noncomputable def ZSo(sp:Sp)(dvs:List V)(E:XK)(t:TA):TE:=λσ H Q=>t σ H λvs H1=>sp (vs++dvs) H1 Q E
def Vw(C:xz)(m:Str)(sp:Sp)(dvs:List V)(E:XK)(ta:TE)(t:TA):TE:=λσ H Q=>ta σ H λx H1=>∃a dx fs,x=.ref a/\H1 a=vD (.ins C dx fs)/\fs.lookup m=vE/\
 t σ H1 λvs H2=>sp (x::(vs++dvs)) H2 Q E
def ZLZ(C:xz)(sp:Sp)(dvs:List V)(E:XK)(t:TA):TE:=λσ H Q=>t σ H λvs H1=>∀x dx,H1 x=vE->H1 dx=vE->dx≠x->
 sp (.ref x::(vs++dvs)) (upd (upd H1 dx (.own x)) x (.ins C dx [])) (λv H2=>v=.non/\Q (.ref x) H2) E
def Binds(K:PySem.W.Frag)(fd:xk)(ps:List Str)(ds:List xD):Prop:=
 ∀(s:xB)(us:List xD),K.In s.heap->(us++ds).length=ps.length->BindsTo s fd ⟨us,[]⟩ (ps.zip (us++ds))
theorem Binds.all{i:xk}{ps:List Str}(h:∀us:List xD,us.length=ps.length->bindArgs i ⟨us,[]⟩=pure (ps.zip us)):Binds K i ps []:=λs us _ d=>by rw[j0]at d⊢;exact .of_eq (h us d)
def Passes(CX:CXT)(X:Cx)(E:XK):Prop:=∀(vC:List (xz×Obj))(σ:St)(H:Hp)(s:xB)(e:xD)(s':xB),Inv X vC σ H s->CX X.stack H s E e s'->X.xe e s'
section
variable{X:Cx}{CX:CXT}{k:Nat}{f C:xz}{fd:xk}{ps:List Str}{sp:Sp}{dvs:List V}{ds:List xD}{E:XK}{x m:Str}{p pos apos:Pos}{e o:xw}{es:List xw}{ta:TE}{t:TA}
theorem ZBS{i:St}{H:Hp}{Q:VK}{us:List xD}{vs:List V}(F:FnOk X.prog X.w X.K X.mg X.base CX k f fd ps sp)(z:Room k X.A)(y:Binds X.K fd ps ds)(q:Vals dvs ds)(B:Passes CX X E)
  (I:Inv X vC i H s) (r:Vals vs us) (h:sp (vs++dvs) H Q E):vY (vZ X.prog X.w) X.A (call (.ref f) us) (EP X vC i Q) X.xe s:=by
 have j:Vals (vs++dvs) (us++ds):=r.append q;have n:(us++ds).length=ps.length:=by rw[<-j.length];exact F.len _ _ _ _ h
 refine wpAny_call (xP (F.run X.A X.stack s H ⟨us,[]⟩ (us++ds) (vs++dvs) Q E z I.env0 (y s us I.kIn n) j h) λr J d=>?_);cases r with
 |error e=>exact B vC i H s e J I d
 |ok fl=>
  cases fl with
  |ret u=>exact I.after d
  |next=>exact False.elim d
  |brk=>exact False.elim d
  |cont=>exact False.elim d
theorem ZNQ(F:FnOk X.prog X.w X.K X.mg X.base CX k f fd ps sp)(M:Room k X.A)(N:Gl X x)(B:X.mg x=vD (.ref f))(hk:PySem.W.keepIn X.K (.ref f)=vF)(L:Binds X.K fd ps ds)(J:Vals dvs ds)(O:Passes CX X E)
  (y:PA X (e::es) t) (i:(x==("__debug__":Str))=vG:=by decide) (z:vW (e::es) X.env=(vG,eval e X.env)::vW es X.env:=by rfl) (j:(xH pos (vW es X.env)).any (·.1)=vG:=by rfl):
  PE X (.Call (.Name x p) (e::es) [] pos) (ZSo sp dvs E t):=by
 intro d s S H Q I h;refine vq (ZB6 I N B ?_ i);refine PySem.W.callWith_K (h₀:=X.base) I.ok.mod.kin hk (thn (y pos d s S H _ I h) λZ Y ⟨vs,U,n,r,q⟩=>⟨n.kIn,?_⟩) z j;exact ZBS F M L J O n r q
theorem ZNy{pl:Sem Bool}(he:PE X o ta)(c:Cls X.K C)(n:Meth X.K C m f)(F:FnOk X.prog X.w X.K X.mg X.base CX k f fd ps sp)(hr:Room k X.A)(U:Binds X.K fd ps ds)(S:Vals dvs ds)(Y:Passes CX X E)(N:PA X (e::es) t)
  (i:vW (e::es) X.env=(vG,eval e X.env)::vW es X.env:=by rfl) (j:(xH pos (vW es X.env)).any (·.1)=vG:=by rfl)
  (O:eval (.Call (.Attribute o m apos) (e::es) [] pos) X.env=(do
   let ov<-eval o X.env
   standAt apos.atName
   let(f,first)<-holding [ov] (getMethod ov m pl)
   callWith pos f first (xH pos (vW (e::es) X.env)) (xI pos (xT [] X.env))):=by rfl):
  PE X (.Call (.Attribute o m apos) (e::es) [] pos) (Vw C m sp dvs E ta t):=by
 intro d s B H Q I h;refine PySem.W.methodCall_KW (pl:=pl) (thn (he d s B H _ I h) λu s1 ⟨x,Z,J,rx,a,dx,fs,M,ea,l,q⟩=>?_) O;subst M;obtain rfl:u=Value.ref a:=rx;refine ZH8 J ea c n l ?_
 refine PySem.W.callWith_K (first:=[.ref a]) (h₀:=X.base) I.ok.mod.kin n.kp (thn (N pos d s1 B Z _ J q) λy s2 ⟨z,H2,L,r,q2⟩=>⟨L.kIn,?_⟩) i j
 exact ZBS (us:=.ref a::y) (vs:=.ref a::z) F hr U S Y L (.cons rfl r) q2
theorem ZT4(y:PE X o ta)(c:Cls X.K C)(j:Meth X.K C m f)(F:FnOk X.prog X.w X.K X.mg X.base CX k f fd ps sp)(M:Room k X.A)(L:Binds X.K fd ps ds)(J:Vals dvs ds)(N:Passes CX X E)
  (B:eval (.Call (.Attribute o m apos) [] [] pos) X.env=(do
   let ov<-eval o X.env
   standAt apos.atName
   let(f,first)<-holding [ov] (getMethod ov m pl)
   callWith pos f first (xH pos (vW [] X.env)) (xI pos (xT [] X.env))):=by rfl):
  PE X (.Call (.Attribute o m apos) [] [] pos) (Vw C m sp dvs E ta Vi):=by
 intro d s S H Q I h;refine PySem.W.methodCall_KW (pl:=pl) (thn (y d s S H _ I h) λu Z ⟨x,U,i,z,a,Y,fs,n,O,l,q⟩=>?_) B;subst n;obtain rfl:u=Value.ref a:=z;refine ZH8 i O c j l ?_
 exact PySem.W.callWith_K0 (first:=[.ref a]) i.kIn j.kp (ZBS (us:=[.ref a]) (vs:=[.ref a]) F M L J N i (.cons rfl .nil) q)
structure Mk (K:PySem.W.Frag) (C f:xz):Prop where
 makes:PySem.W.makesIn K C=vF
 init:PySem.W.findIn K (.ref C) "__init__"=vD (vD (.ref f))
 fn:PySem.W.isFn K (.ref f)=vF
 kp:PySem.W.keepIn K (.ref C)=vF
theorem ZUe{σ:St}{H:Hp}{Q:VK}{us:List xD}{vs:List V}(M:Mk X.K C f)(F:FnOk X.prog X.w X.K X.mg X.base CX k f fd ps sp)(hr:Room (k+1) X.A)(hb:Binds X.K fd ps ds)(hd:Vals dvs ds)
  (hx:Passes CX X E) (I:Inv X vC σ H s) (r:Vals vs us)
  (h:∀x dx,H x=vE->H dx=vE->dx≠x->sp (.ref x::(vs++dvs)) (upd (upd H dx (.own x)) x (.ins C dx [])) (λv H2=>v=.non/\Q (.ref x) H2) E):
  vY (vZ X.prog X.w) X.A (call (.ref C) us) (EP X vC σ Q) X.xe s:=by
 have hq:=h (s.heap.objs.size+1) s.heap.objs.size (I.hok.fresh (j9 _)) (I.hok.fresh (zK _)) (zE (qK _));have I2:=Inv.made (C:=C) I;have r2:Vals (V.ref (s.heap.objs.size+1)::(vs++dvs)) (Value.ref (s.heap.objs.size+1)::(us++ds)):=.cons rfl (r.append hd);have hl:(Value.ref (s.heap.objs.size+1)::us++ds).length=ps.length:=by have e:=r2.length;rw[F.len _ _ _ _ hq]at e;exact e.symm
 refine wpAny_call (ZRD (f:=f) I.kIn M.makes M.init (beq_iff_eq.mp M.fn) (xP (F.run _ X.stack _ _ ⟨Value.ref (s.heap.objs.size+1)::us,[]⟩ (Value.ref (s.heap.objs.size+1)::(us++ds)) _ _ E (hr.make C us [])
  (I2.env0.make C us []) (hb _ (Value.ref (s.heap.objs.size+1)::us) I2.kIn hl) r2 hq) λr s' hq'=>?_))
 cases r with
 |error e=>exact hx vC σ _ _ e s' I2 hq'
 | ok fl=>
  cases fl with
  |ret u=>
   obtain⟨v,H',I3,rv,ev,q3⟩:=I2.after hq';subst ev;exact⟨rv,⟨V.ref (s.heap.objs.size+1),H',I3,rfl,q3⟩⟩
  |next=>exact False.elim hq'
  |brk=>exact False.elim hq'
  |cont=>exact False.elim hq'
theorem ZMT(M:Mk X.K C f)(F:FnOk X.prog X.w X.K X.mg X.base CX k f fd ps sp)(N:Room (k+1) X.A)(O:Gl X x)(B:X.mg x=vD (.ref C))(L:Binds X.K fd ps ds)(J:Vals dvs ds)(S:Passes CX X E)
  (y:PA X (e::es) t) (i:(x==("__debug__":Str))=vG:=by decide) (z:vW (e::es) X.env=(vG,eval e X.env)::vW es X.env:=by rfl) (j:(xH pos (vW es X.env)).any (·.1)=vG:=by rfl):
  PE X (.Call (.Name x p) (e::es) [] pos) (ZLZ C sp dvs E t):=by
 intro d s U H Q I h;refine vq (ZB6 I O B ?_ i);refine PySem.W.callWith_K (h₀:=X.base) I.ok.mod.kin M.kp (thn (y pos d s U H _ I h) λus Z ⟨vs,Y,n,r,q⟩=>⟨n.kIn,?_⟩) z j;exact ZUe M F N L J S n r q
end
def PK(X:Cx)(kws:List Keyword)(t:TA):Prop:=
 ∀(pos:Pos)(vC:List (xz×Obj))(s:xB)(σ:St)(H:Hp)(Q:List V->Hp->Prop),Inv X vC σ H s->t σ H Q->vY (vZ X.prog X.w) X.A (evalAll ((xI pos (xT kws X.env)).map (·.2))) (AP X vC σ Q) X.xe s
section
variable{X:Cx}{CX:CXT}{k:Nat}{f C:xz}{fd:xk}{ps ks:List Str}{sp:Sp}{E:XK}{x m:Str}{p pos apos kpos:Pos}{e o:xw}{es:List xw}{kws:List Keyword}{te ta:TE}{t tk:TA}{nm:Option Str}
theorem ZSi:PK X [] Vi:=λ_ _ _ _ H Q I h=>wpAny_evalAll_nil ⟨[],H,I,.nil,h⟩
theorem ZTw(q:PE X e te)(L:PK X kws t):PK X (⟨nm,e,kpos⟩::kws) (ZCv te t):=by
 intro i d s j H Q I h
 show vY _ _ (evalAll ((do let v<-eval e X.env;standAt i;pure v)::(xI i (xT kws X.env)).map (·.2))) _ _ s
 refine wpAny_evalAll_cons (vz (thn (q d s j H _ I h) λu N ⟨x,M,F,S,B⟩=>vz (wpAny_standAt (v6 ?_))));exact thn (L i d N j M _ F B) λW U ⟨n,y,J,O,z⟩=>⟨x::n,y,J,.cons S O,z⟩
variable{g:List xD->List xD->List xD}{gV:List V->List V->List V}
end
structure FnScope (N P:List Str) (sc:xA):Prop where
 kind:sc.kind=.function
 co:sc.isCoroutine=vG
 gen:sc.isGenerator=vG
 nd:N.Nodup
 pre:N.take P.length=P
 par:∀x∈P,sc.names.lookup x=vD .local∨sc.names.lookup x=vD .cell
 nofree:∀y∈sc.names,y.2≠ .free
theorem ZDA{d:Str->Option xy}{x:Str}:∀{binds:List (Str×xD)}{m:Str->Option xD},(∀v,(x,v)∉binds)->bindL d binds m x=m x
 |[],_,_=>rfl
 | (n,v)::r,m,h=>by
  unfold bindL;rw[ZDA λw hw=>h w (zZ _ hw)];split
  ·have:x≠n:=by rintro rfl;exact h v zW
   simp[this]
  ·rfl
theorem ZDi{d:Str->Option xy}{x:Str}:∀{binds:List (Str×xD)}{m:Str->Option xD},(∀v,(x,v)∉binds)->bindC d binds m x=m x
 |[],_,_=>rfl
 | (n,v)::r,m,h=>by
  unfold bindC;rw[ZDi λw hw=>h w (zZ _ hw)];split
  ·rfl
  ·have:x≠n:=by rintro rfl;exact h v zW
   simp[this]
theorem ZGh{d:Str->Option xy}{x:Str}{v:xD}:∀{P:List Str}{vs:List xD}{i:Nat}{m:Str->Option xD},P.Nodup->P[i]?=vD x->vs[i]?=vD v->d x=vD .local->
  bindL d (P.zip vs) m x=vD v
 |[],_,_,_,_,h,_,_=>by simp at h
 |_::_,[],_,_,_,_,h,_=>by simp at h
 |p::P,w::vs,0,m,q,n,j,hk=>by simp at n j;subst n;subst j;show bindL d ((p,w)::P.zip vs) m p=_;unfold bindL;rw[ZDA λv y=>(qI.mp q).1 (List.of_mem_zip y).1,if_pos hk];simp
 |p::P,w::vs,i+1,m,q,n,j,hk=>by show bindL d ((p,w)::P.zip vs) m x=_;unfold bindL;exact ZGh (i:=i) (qI.mp q).2 (by simpa using n) (by simpa using j) hk
theorem ZID{d:Str->Option xy}{x:Str}{v:xD}:∀{P:List Str}{vs:List xD}{i:Nat}{m:Str->Option xD},P.Nodup->P[i]?=vD x->vs[i]?=vD v->d x≠vD .local->
  bindC d (P.zip vs) m x=vD v
 |[],_,_,_,_,h,_,_=>by simp at h
 |_::_,[],_,_,_,_,h,_=>by simp at h
 |p::P,w::vs,0,m,q,n,j,hk=>by simp at n j;subst n;subst j;show bindC d ((p,w)::P.zip vs) m p=_;unfold bindC;rw[ZDi λv y=>(qI.mp q).1 (List.of_mem_zip y).1,if_neg hk];simp
 |p::P,w::vs,i+1,m,q,n,j,hk=>by show bindC d ((p,w)::P.zip vs) m x=_;unfold bindC;exact ZID (i:=i) (qI.mp q).2 (by simpa using n) (by simpa using j) hk
noncomputable def start(N:List Str)(vs:List V):St:=vs.map vD++zV (N.length-vs.length) vE
noncomputable def Lr(CX:CXT)(P:x0)(w:xE)(K:PySem.W.Frag)(mg:Str->Option xD)(base:Heap)(N:List Str)(qual:Str)(scope:xA)(f:xz)(cd:xD)(A:xj)(outer:List Env)(s:xB)(H:Hp)(E:XK):Cx where
 prog:=P
 w:=w
 K:=K
 mg:=mg
 base:=base
 A:=A.deeper (envOfC qual scope s.heap.objs.size f cd)
 N:=N
 s₀:=s
 H₀:=H
 env:=envOfC qual scope s.heap.objs.size f cd
 outer:=outer
 stack:=envOfC qual scope s.heap.objs.size f cd::outer
 ex:=[]
 calm:=vF
 fn:=λ_=>vF
 pn:=[]
 xe:=λe s'=>vY (vZ P w) (A.deeper (envOfC qual scope s.heap.objs.size f cd)) (leaving (envOfC qual scope s.heap.objs.size f cd) e) (λ_ s''=>CX outer H s E e s'') (λe' s''=>CX outer H s E e' s'') s'
theorem ZJj{d:xA}{n:Nat}{x:Str}(h:d.names.lookup x=vD .cell):∃c,(cellsFrom n d.names []).lookup x=vD c:=by have q:=PySem.W.cellsFrom_some d.names n [] (.inl h);exact jJ.mp q
theorem ZSs{CX:CXT}{w:xE}{U:Str->Option xD}{B:Heap}{N ps:List Str}{qual:Str}{d:xA}{f:xz}{cd:xD}{A:xj}{outer:List Env}{s1:xB}{H:Hp}{E:XK}{us:List xD}{vs:List V}
  (S:FnScope N ps d) (hd:A.handled=vE) (F:Env0 P w K U B A outer s H) (hl:vs.length=ps.length) (r:Vals vs us)
  (x:InCallC s s.heap.objs.size (bindL (envOfC qual d s.heap.objs.size f cd).kindOf (ps.zip us) λ_=>vE) (cellsFrom (s.heap.objs.size+1) d.names []) (bindC (envOfC qual d s.heap.objs.size f cd).kindOf (ps.zip us) λ_=>vE) s1):
  Inv (Lr CX P w K U B N qual d f cd A outer s H E) [] (start N vs) H s1:=by
 have hpl:ps.length<=N.length:=by have:=congrArg xq S.pre;rw[jE]at this;lia
 obtain⟨O,tk,rfl,hk⟩:=x.done
 have I:∀b:xz,b∉(Lr CX P w K U B N qual d f cd A outer s H E).ex:=λb z=>absurd (show b∈([]:List xz)from z) (by simp)
 refine⟨⟨F.mod,S.kind,rfl,rfl,zK _,λy z c O j=>?_,λy J=>?_,λy c _ h=>?_,λ_=>hd,Around.frames_deeper F.frames,.inr ⟨rfl,rfl⟩,λb z=>absurd z (I b),F.bs,F.bsz,λb _ _=>I b,λb z=>absurd z (I b),F.funs,F.frf⟩,
  rfl,F.bare,Un.kept hk,⟨_,x.toInCall.ns,λi y v O j h3=>?_⟩,λy c h=>⟨_,x.cell y c h⟩,F.hok.fresh (zK _),λy c h=>?_,λp hp=>absurd (show p∈([]:List (xz×Obj))from hp) (by simp),F.hok.kept hk,?_⟩
 ·exact name_of_addr x.apart (PySem.mem_of_lookup O) (PySem.mem_of_lookup j)
 ·have J:d.names.lookup y=vD .cell∨d.names.lookup y=vD .free:=J;rcases J with J|J
  ·exact ZJj J
  ·exact absurd rfl (S.nofree _ (PySem.mem_of_lookup J))
 ·exact Nat.le_of_lt (x.above y c (PySem.mem_of_lookup h))
 ·have M:i<vs.length:=by
   unfold start at j;by_cases M:i<vs.length
   ·exact M
   ·rw[zL (by simpa using M)]at j;rw[jq]at j
    split at j<;>cases j
  have Z:vs[i]?=vD v:=by
   unfold start at j;rw[qX (by simpa using M),zj]at j;cases e:vs[i]? with
   |none=>rw[e]at j;cases j
   |some a=>rw[e]at j;cases j;rfl
  obtain⟨u,Y,rv⟩:=r.get Z;have hp:ps[i]?=vD y:=by rw[<-S.pre,j6 (by lia)];exact O
  have L:ps.Nodup:=by rw[<-S.pre];exact S.nd.sublist (List.take_sublist _ _)
  refine⟨u,rv,?_⟩;rcases S.par y (List.mem_of_getElem? hp)with k|k
  ·exact .inl ⟨k,ZGh L hp Y k⟩
  ·obtain⟨c,e⟩:=ZJj (n:=s.heap.objs.size+1) k;refine .inr ⟨.inl k,c,e,?_⟩;have q:=x.cell y c e;rw[ZID L hp Y (by show d.names.lookup y≠_;rw[k];decide)]at q;exact q
 ·exact F.hok.fresh (Nat.le_of_lt (x.above y c (PySem.mem_of_lookup h)))
 ·unfold start;show _=N.length;rw[qz,qY,jR];lia
theorem ZQM{CX:CXT}{w:xE}{mg:Str->Option xD}{i:Heap}{k:Nat}{f:xz}{name qual:Str}{z:Arguments}{B:List xC}{d:xA}{dV kV Z pm j ct oc:xD}{an od:Option xz}
  {osl:Array (Option xD)} {N ps:List Str} {sp:Sp} (lk:K.lookup f=vD ⟨oc,od,.func (PySem.W.fnOf name qual z B d dV kV Z pm an j ct),osl⟩) (hcd:PySem.W.codeIn K j qual=vF) (S:FnScope N ps d)
  (len:∀vs H Q E,sp vs H Q E->vs.length=ps.length)
  (M:∀(A:xj)(outer:List Env)(s:xB)(H:Hp)(vs:List V)(Q:VK)(E:XK),Room k (A.deeper (envOfC qual d s.heap.objs.size f j))->sp vs H Q E->
   ∃t,PSs (Lr CX P w K mg i N qual d f j A outer s H E) B t/\t {nx:=λ_ H'=>Q .non H',rt:=Q} (start N vs) H):
  FnOk P w K mg i CX (k+1) f (PySem.W.fnOf name qual z B d dV kV Z pm an j ct) ps sp:=by
 refine⟨len,λA outer s H args us vs Q E hr U hb r hsp=>?_⟩;have hl:=len _ _ _ _ hsp;have KX:K.In s.heap:=U.mod.kin.keeps λb o e=>(U.bs b o e).1
 have lim:s.heap.NoLimit:=U.mod.nolimit.keeps λb o e=>(U.bs b o e).1
 have L:∀y∈ps.zip us,d.names.lookup y.1=vD .local∨(d.names.lookup y.1=vD .cell/\((cellsFrom (s.heap.objs.size+1) d.names []).lookup y.1).isSome=vF):=λ⟨n,v⟩ hy=>by
  rcases S.par n (List.of_mem_zip hy).1 with q|q
  ·exact .inl q
  ·exact .inr ⟨q,PySem.W.cellsFrom_some _ _ _ (.inl q)⟩
 refine codeAny_call_function hr.depth (KX _ _ lk) rfl S.co S.gen rfl (PySem.W.codeRec_of KX hcd) (hb _ _ _ _ ?_);refine wpAny_newFunctionEnv_cells S.kind L λenv he s1 x=>?_
 subst he;refine⟨lim.keeps x.toInCall.keep,codeAny_func ?_⟩;obtain⟨t,ht,hq⟩:=M A outer s H vs Q E (hr.deeper _) hsp;have I:Inv (Lr CX P w K mg i N qual d f j A outer s H E) [] (start N vs) H s1:=ZSs S hr.hd U hl r x;refine v3 (ht [] s1 (start N vs) H _ I hq) (λfl s' O=>?_) λe s' O=>O
 have Y:∀{F:St}{H':Hp}{v:V}{u:xD},Inv (Lr CX P w K mg i N qual d f j A outer s H E) [] F H' s'->RelV v u->Q v H'->CE outer P w H s Q u s':=
  λ{F H' v u}J rv q=>⟨v,H',J.os,J.bare,J.base,J.hok,rv,q⟩
 cases fl with
 |ret u=>
  obtain⟨v,F,H',J,rv,q⟩:=O;exact Y J rv q
 |next=>
  obtain⟨F,H',J,q⟩:=O;exact Y (v:=V.non) (u:=Value.none) J rfl q
 |brk=>
  obtain⟨_,_,_,q⟩:=O;exact False.elim q
 |cont=>
  obtain⟨_,_,_,q⟩:=O;exact False.elim q
section
variable{X:Cx}{x:Str}{p pos:Pos}{e:xw}{es:List xw}{t:TA}{id T:String}{r:List V->Hp->VK->Prop}
noncomputable def tCB(r:List V->Hp->VK->Prop)(t:TA):TE:=λσ H Q=>t σ H λvs H1=>r vs H1 Q
theorem ZOi(q:CallR X (.builtin id) r)(M:Gl X x)(B:X.mg x=vE)(W:xN x=vD (.builtin id))(y:PA X (e::es) t)(F:x≠"__name__":=by decide)(j:(x==("__debug__":Str))=vG:=by decide)
  (z:vW (e::es) X.env=(vG,eval e X.env)::vW es X.env:=by rfl) (i:(xH pos (vW es X.env)).any (·.1)=vG:=by rfl):PE X (.Call (.Name x p) (e::es) [] pos) (tCB r t):=by
 intro d s n H Q I h;refine vq (Hh I M B W ?_ F j);exact PyProof.Rows.callWith_builtin1 (thn (y pos d s n H _ I h) λS O ⟨U,N,L,Y,J⟩=>q d O n N U S Q L Y J) z i
theorem ZMX(q:CallR X (.type T) r)(M:Gl X x)(B:X.mg x=vE)(W:xN x=vD (.type T))(y:PA X (e::es) t)(F:x≠"__name__":=by decide)(j:(x==("__debug__":Str))=vG:=by decide)
  (z:vW (e::es) X.env=(vG,eval e X.env)::vW es X.env:=by rfl) (i:(xH pos (vW es X.env)).any (·.1)=vG:=by rfl):PE X (.Call (.Name x p) (e::es) [] pos) (tCB r t):=by
 intro d s n H Q I h;refine vq (Hh I M B W ?_ F j);exact PyProof.Rows.callWith_type1 (thn (y pos d s n H _ I h) λS O ⟨U,N,L,Y,J⟩=>q d O n N U S Q L Y J) z i
end
end _L
namespace HT
open PySem PyProof.Rows
section
open PySem.SeqAt
open PySem.AutoSeq1 (wpAny_loadPart')
open PySem.MeetsSeq PySem.MeetsSeq2 PySem.MeetsSeq3
end
section
variable{prog:x0}{w:xE}{A:xj}{E:xD->xB->Prop}{s:xB}
theorem ZOI(Z:IsTup s.heap t vs.toArray)(hb:IsTup s.heap b ws.toArray)(L:vs≠[])
  (h1:ws=[]->Q (.ref t) s) (Y:ws≠[]->Q (.ref s.heap.objs.size) {s with heap:=s.heap.push {cls:=.type "tuple",data:=.seq (vs++ws).toArray}})
  (hsz:vs.length+ws.length<=sizeLine):vY (vZ prog w) A (xM .Add (.ref t) (.ref b)) Q E s:=by
 obtain⟨⟨J,W,q,M⟩,B,N,n,O⟩:=id Z;obtain⟨⟨U,y,I,j⟩,i,hc2,S,z⟩:=id hb;simp only at N O hc2 z;subst N O hc2 z;have e:vs.toArray++ws.toArray=(vs++ws).toArray:=by simp
 by_cases hw:ws=[]
 ·exact concat_meets ⟨_,B,rfl⟩ ⟨_,i,rfl⟩ noFill_tuple_add seq_tuple_add PySem.F.slot_tuple_add PySem.F.entry_tuple_add (PySem.F.args_tuple_add_2 _ _)
   (tuple_addW1 t b vs.toArray ws.toArray n S W y M j (by simpa using L) (by simp[hw])) ⟨B,i,h1 hw⟩
 ·refine concat_meets ⟨_,B,rfl⟩ ⟨_,i,rfl⟩ noFill_tuple_add seq_tuple_add PySem.F.slot_tuple_add PySem.F.entry_tuple_add (PySem.F.args_tuple_add_2 _ _)
   (tuple_addW2 t b vs.toArray ws.toArray n S W y M j (by simpa using L) (by simpa using hw) (by rw[zY,zY];exact hsz)) ⟨B,i,?_⟩
  rw[e];exact Y hw
noncomputable def sIx(n d:Nat):Option Int->Nat
 |none=>d
 |some v=>if v<0 then(v+(n:Int)).toNat else min v.toNat n
theorem ZEl(n d:Nat)(j:d<=n)(o:Option Int):sIx n d o<=n:=by
 cases o with
 |none=>exact j
 |some v=>
  show(if v<0 then(v+(n:Int)).toNat else min v.toNat n)<=n;by_cases i:v<0
  ·rw[if_pos i];lia
  ·rw[if_neg i];exact Nat.min_le_right _ _
theorem ZDP(v:Int)(n d:Nat):(if v<0 then max (v+(n:Int)) 0 else min v (n:Int))=((sIx n d (vD v):Nat):Int):=by
 show(if v<0 then max (v+(n:Int)) 0 else min v (n:Int))=(((if v<0 then(v+(n:Int)).toNat else min v.toNat n):Nat):Int);by_cases i:v<0
 ·simp only[if_pos i];lia
 ·simp only[if_neg i];lia
theorem ZLo(lo hi:Option Int)(n:Nat):Builtin.Slice.sliceAdjust lo hi 1 (n:Int)=(((sIx n 0 lo:Nat):Int),((sIx n n hi:Nat):Int)):=by
 have d:¬((1:Int)<0):=by lia
 unfold Builtin.Slice.sliceAdjust;simp only[d,if_false];refine Prod.ext ?_ ?_
 ·cases lo with
  |none=>rfl
  |some v=>exact ZDP v n 0
 ·cases hi with
  |none=>rfl
  |some v=>exact ZDP v n n
theorem ZP7(i j:Nat):Builtin.Slice.slicePlaces (i:Int) (j:Int) 1=j-i:=by
 unfold Builtin.Slice.slicePlaces;have d:(1:Int)>0:=by lia
 simp only[d,if_true,Int.ediv_one]
 split <;> lia
theorem ZIy(p:IsPart v o)(h:Q o s):vY (vZ prog w) A (Builtin.Slice.slicePartIndex v) Q E s:=by
 cases p with
 |none=>exact slicePart_none h
 |int i t=>exact slicePart_int h
theorem ZDW{y:xz}{q j:xD}{lo hi:Option Int}{n:Nat}{Q:Int×Int×Nat->xB->Prop}(z:s.heap.IsSliceOf y q j .none)(pl:IsPart q lo)(B:IsPart j hi)
  (h:Q (((sIx n 0 lo:Nat):Int),1,sIx n n hi-sIx n 0 lo) s):vY (vZ prog w) A (Builtin.Slice.sliceApplied (.ref y) (pure (n:Int))) Q E s:=by
 obtain⟨F,d,hcs,i⟩:=id z;unfold Builtin.Slice.sliceApplied Builtin.Slice.sliceFields;refine vz (vz (vv d i (x:=q) rfl (vz (vv d i (x:=j) rfl (vz (vv d i (x:=.none) rfl (v6 ?_)))))));refine vz (slicePart_none ?_);show vY _ _ (if((1:Int)==0)=vF then _ else _) _ _ s;rw[if_neg (by decide)];refine vz (ZIy pl (vz (ZIy B (vz (v6 ?_)))))
 show vY _ _ (match Builtin.Slice.sliceAdjust lo hi 1 (n:Int)with |(lo,hi)=>pure (lo,(1:Int),Builtin.Slice.slicePlaces lo hi 1)) _ _ s
 rw[ZLo lo hi n];show vY _ _ (pure (((sIx n 0 lo:Nat):Int),(1:Int),Builtin.Slice.slicePlaces ((sIx n 0 lo:Nat):Int) ((sIx n n hi:Nat):Int) 1)) _ _ s;rw[ZP7];exact v6 h
theorem ZOR(xs:Array xD)(i k:Nat):((zQ k).filterMap λ(m:Nat)=>xs[((i:Int)+(m:Int)*1).toNat]?).toArray=((xs.toList.drop i).take k).toArray:=by
 have e:(λ(m:Nat)=>xs[((i:Int)+(m:Int)*1).toNat]?)=λm=>xs[i+m]? :=by
  funext m;have:((i:Int)+(m:Int)*1).toNat=i+m:=by lia
  rw[this]
 rw[e];have:=pick_run xs i k;rw[qx]at this;have d:((λx=>xs[x]?) ∘ λx=>i+x)=λm=>xs[i+m]? :=rfl
 rw[d]at this;rw[this]
theorem ZNe{t sl:xz}{items:Array xD}{vl vu:xD}{lo hi:Option Int}{Q:xD->xB->Prop}(ht:IsTup s.heap t items)(hs:s.heap.IsSliceOf sl vl vu .none)(pl:IsPart vl lo)(pu:IsPart vu hi)
  (hw:¬(sIx items.size 0 lo=0/\sIx items.size items.size hi=items.size))
  (h:Q (.ref s.heap.objs.size) {s with heap:=s.heap.push {cls:=.type "tuple",data:=.seq ((items.toList.drop (sIx items.size 0 lo)).take (sIx items.size items.size hi-sIx items.size 0 lo)).toArray}})
  (hsz:items.size<=sizeLine):vY (vZ prog w) A (getItem (.ref t) (.ref sl)) Q E s:=by
 have htake:sizeOk (.seq ((items.toList.drop (sIx items.size 0 lo)).take (sIx items.size items.size hi-sIx items.size 0 lo)).toArray):=by show((items.toList.drop (sIx items.size 0 lo)).take (sIx items.size items.size hi-sIx items.size 0 lo)).toArray.size<=sizeLine;rw[zY,jE,jS,qC];lia
 have hj:sIx items.size items.size hi<=items.size:=ZEl _ _ (zK _) hi;obtain⟨os,hos,hcs,hds⟩:=id hs;have hTs:s.TypeIs (.ref sl) "slice":=⟨os,hos,hcs⟩;unfold getItem
 try with_reducible refine vk ?_
 first|refine vz (v6 ?_)|skip
 refine vz (wpAny_sequenceKey ht.typeIs (by decide) ?_);refine vz (vj (name:=Str.ofString "__getitem__") ht.typeIs PyProof.Rows.slot_tuple_getitem
  (vx PyProof.Rows.slot_tuple_getitem ht.typeIs entry_tuple_getitem ?_ (args_tuple_getitem _ _)))
 show vY _ _ (Builtin.Tuple.tupleItemsOf (.ref t) >>=_) _ _ s;refine vz (tupleItemsOf_ ht ?_);refine vz (wpAny_typeOf hTs ?_);rw[if_pos (by decide)];refine vz (ZDW hs pl pu ?_);have hno:¬((((sIx items.size 0 lo:Nat):Int)==0&&(1:Int)==1&&(sIx items.size items.size hi-sIx items.size 0 lo)==items.size)=vF):=by intro q;rw[zD,zD]at q;have q1:((sIx items.size 0 lo:Nat):Int)=0:=eq_of_beq q.1.1;have q2:sIx items.size items.size hi-sIx items.size 0 lo=items.size:=eq_of_beq q.2;exact hw ⟨by lia,by lia⟩
 show vY _ _ (if(((sIx items.size 0 lo:Nat):Int)==0&&(1:Int)==1&&(sIx items.size items.size hi-sIx items.size 0 lo)==items.size)=vF then _ else _) _ _ s;rw[if_neg hno,ZOR]
 first
  |exact vz (m:=Builtin.Tuple.tupleExact _) (v4 (v6 ⟨_,rfl,v6 h⟩) htake)
  |exact vz (m:=Builtin.Tuple.tupleExact _) (v4 (vz (v6 (v6 ⟨_,rfl,v6 h⟩))) htake)
  |exact vz (vz (m:=Builtin.Tuple.tupleExact _) (v4 (v6 (v6 ⟨_,rfl,v6 h⟩)) htake))
  |exact vz (vz (m:=Builtin.Tuple.tupleExact _) (v4 (v6 ⟨_,rfl,v6 h⟩) htake))
end
end HT
namespace _L
open PySem PySem.Spec PyProof.Rows
variable{vC:List (xz×Obj)}{s:xB}
noncomputable abbrev TO:=St->Hp->(Option Int->Hp->Prop)->Prop
def PO(X:Cx)(e:Option xw)(t:TO):Prop:=
 ∀(vC:List (xz×Obj))(s:xB)(σ:St)(H:Hp)(Q:Option Int->Hp->Prop),Inv X vC σ H s->t σ H Q->
  vY (vZ X.prog X.w) X.A (evalPart e X.env) (λu s'=>∃o H',Inv X vC σ H' s'/\IsPart u o/\Q o H') X.xe s
noncomputable def ZQQ:TO:=λ_ H Q=>Q vE H
noncomputable def ZNn(t:TE):TO:=λσ H Q=>t σ H λx H1=>∃i,x=.int i/\Q (vD i) H1
section
variable{X:Cx}{e:xw}{te:TE}{lo hi:Option xw}{tl th:TO}{pos p2:Pos}
theorem ZKV:PO X vE ZQQ:=by intro d s i H Q I h;rw[evalPart_none];exact v6 ⟨vE,H,I,.none,h⟩
theorem ZKt(h:PE X e te):PO X (vD e) (ZNn te):=by
 intro d s z H Q I hw;rw[evalPart_some];refine thn (h d s z H _ I hw) λu F ⟨x,y,n,B,j⟩=>?_
 obtain⟨i,rfl,q⟩:=j;obtain⟨t,rfl⟩:=B;exact⟨vD i,y,n,.int i t,q⟩
def SlR(X:Cx)(r:V->Option Int->Option Int->Hp->VK->Prop):Prop:=
 ∀(vC:List (xz×Obj))(s:xB)(σ:St)(H:Hp)(x:V)(v vl vu:xD)(lo hi:Option Int)(sl:xz)(Q:VK),Inv X vC σ H s->RelV x v->s.heap.IsSliceOf sl vl vu .none->IsPart vl lo->IsPart vu hi->r x lo hi H Q->
  ∃T id,typeLookup (.type T) "__getitem__"=pure (vD (.builtin id))/\s.TypeIs v T/\vY (vZ X.prog X.w) X.A (getItem v (.ref sl)) (EP X vC σ Q) X.xe s
theorem SlR.or(h:SlR X r)(h':SlR X r'):SlR X (λx lo hi H Q=>r x lo hi H Q∨r' x lo hi H Q):=by
 intro d s z H x v y n lo hi B Q I j i pl F q;rcases q with q|q
 ·exact h d s z H x v y n lo hi B Q I j i pl F q
 ·exact h' d s z H x v y n lo hi B Q I j i pl F q
noncomputable def tSl(r:V->Option Int->Option Int->Hp->VK->Prop)(te:TE)(tl th:TO):TE:=λσ H Q=>te σ H λx H1=>tl σ H1 λl H2=>th σ H2 λu H3=>r x l u H3 Q
theorem ZPr(hr:SlR X r)(he:PE X e te)(M:PO X lo tl)(hu:PO X hi th):PE X (.Subscript e (.Slice lo hi vE p2) pos) (tSl r te tl th):=by
 intro i s y H Q I h;refine Subscript_ (thn (he i s y H _ I h) λv Y ⟨x,W,I1,O,q1⟩=>?_);refine wpAny_Slice (thn (M i Y y W _ I1 q1) λF L ⟨l,H2,I2,pl,q2⟩=>thn (hu i L y H2 _ I2 q2) λB j ⟨u,J,Z,pu,S⟩=>?_);rw[evalPart_none];refine v6 ?_;have I4:Inv X i y J {j with heap:=j.heap.push {cls:=.type "slice",data:=.fields #[F,B,.none]}}:=Z.kept (t':=j.toks) λb ob q=>zJ _ q
 obtain⟨T,id,hT,U,N⟩:=hr i {j with heap:=j.heap.push {cls:=.type "slice",data:=.fields #[F,B,.none]}} y J x v F B l u j.heap.objs.size Q I4 O (Heap.IsSliceOf.new ..) pl pu S;show vY (vZ X.prog X.w) X.A (subscriptTail e (.Slice lo hi vE p2) v (.ref j.heap.objs.size)) (EP X i y Q) X.xe {j with heap:=j.heap.push {cls:=.type "slice",data:=.fields #[F,B,.none]}}
 exact tail_any (ops:=[.ref j.heap.objs.size,v]) U hT N (by with_unfolding_all rfl)
def Jt(xs:List V)(lo hi:Option Int):List V:=(xs.drop (HT.sIx xs.length 0 lo)).take (HT.sIx xs.length xs.length hi-HT.sIx xs.length 0 lo)
theorem ZF8(xs:List V)(lo hi:Option Int):(Jt xs lo hi).length<=xs.length:=by unfold Jt;rw[jE,jS];lia
def rSlT(K:PySem.W.Frag):V->Option Int->Option Int->Hp->VK->Prop:=λx lo hi H Q=>∃a xs,x=.ref a/\SqT K H a xs/\
 ¬(HT.sIx xs.length 0 lo=0/\HT.sIx xs.length xs.length hi=xs.length)/\∀p,H p=vE->Q (.ref p) (upd H p (.tup (Jt xs lo hi)))
theorem ZLf:SlR X (rSlT X.K):=by
 intro F s W H x v U S j n Y Q I L J pl N h;obtain⟨a,i,rfl,M,hw,q⟩:=h;cases L;obtain⟨y,r,z,B⟩:=I.tuple M;have d:y.toArray.size=i.length:=by rw[zY];exact r.length.symm
 refine⟨"tuple",_,PyProof.Rows.slot_tuple_getitem.lookup,z.typeIs,?_⟩;refine HT.ZNe z J pl N (by rw[d];exact hw) ?_ (by rw[d];exact B);rw[d];refine⟨.ref s.heap.objs.size,_,I.laid (t':=s.toks) (o:=.tup (Jt i j n)) (λb O q=>zJ _ q) (zK _) ?_,rfl,q _ (I.hok.fresh (zK _))⟩;exact⟨zA (ZF8 i j n) B,_,(r.drop (HT.sIx i.length 0 j)).take (HT.sIx i.length i.length n-HT.sIx i.length 0 j),IsTup.new _ _⟩
def ZIn(K:PySem.W.Frag):R2:=λx y H Q=>∃a b xs ys,x=.ref a/\y=.ref b/\SqT K H a xs/\SqT K H b ys/\xs≠[]/\xs.length+ys.length<=sizeLine/\
 (ys=[]->Q (.ref a) H)/\(ys≠[]->∀p,H p=vE->Q (.ref p) (upd H p (.tup (xs++ys))))
theorem Vals.ZCG(r:Vals xs us):us=[]↔xs=[]:=by
 cases r with
 |nil=>simp
 |cons _ _=>simp
theorem ZLq:OpR X (xM .Add) (ZIn X.K):=by
 intro n s σ H x y v u Q I U F h;obtain⟨a,b,J,M,rfl,rfl,L,O,S,j,Z,q2⟩:=h;cases U;cases F;obtain⟨N,i,W,_⟩:=I.tuple L;obtain⟨B,d,Y,_⟩:=I.tuple O;refine HT.ZOI W Y (λz=>S (i.ZCG.mp z)) (λz=>⟨.ref a,H,I,rfl,Z (d.ZCG.mp z)⟩) (λz=>?_) (by rw[<-i.length,<-d.length];exact j);refine⟨.ref s.heap.objs.size,_,I.laid (t':=s.toks) (o:=.tup (J++M)) (λb ob q=>zJ _ q) (zK _) ?_,rfl,q2 (λw=>z (d.ZCG.mpr w)) _ (I.hok.fresh (zK _))⟩
 exact⟨by rw[qz];exact j,_,i.append d,IsTup.new _ _⟩
end
noncomputable def ixN(n:Nat)(i:Int):Option Nat:=if 0<=i then(if i<n then vD i.toNat else vE)else if -(n:Int)<=i then vD (i+n).toNat else vE
def atI{α:Type}(xs:List α)(i:Int):Option α:=(ixN xs.length i).bind λj=>xs[j]?
theorem ZHq(h:ixN n i=vD j):seqIndex? i n=vD j/\j<n/\ -(n:Int)<=i/\i<n:=by
 unfold ixN at h;by_cases q:0<=i
 ·rw[if_pos q]at h;by_cases d:i<n
  ·rw[if_pos d]at h;have e:i.toNat=j:=Option.some.inj h;exact⟨by rw[seqIndex_of q d,e],by lia,by lia,d⟩
  ·rw[if_neg d]at h;cases h
 ·rw[if_neg q]at h;by_cases d: -(n:Int)<=i
  ·rw[if_pos d]at h;have e:(i+n).toNat=j:=Option.some.inj h;exact⟨by rw[seqIndex_neg (by lia) d,e],by lia,d,by lia⟩
  ·rw[if_neg d]at h;cases h
theorem Sd{d:Type}{xs:List d}{i:Int}{v:d}(h:atI xs i=vD v):∃j,seqIndex? i xs.length=vD j/\xs[j]?=vD v/\j<xs.length/\ -(xs.length:Int)<=i/\i<xs.length:=by
 unfold atI at h;cases e:ixN xs.length i with
 |none=>rw[e]at h;cases h
 |some j=>
  rw[e]at h;obtain⟨y,q,n,z⟩:=ZHq e;exact⟨j,y,h,q,n,z⟩
def PlainIx(b:xw):Prop:=∀o i,subscripted b vG o i=operate [o,i] (getItem o i)
def IxR(X:Cx)(r:R2):Prop:=
 ∀(value slice:xw)(vC:List (xz×Obj))(s:xB)(σ:St)(H:Hp)(x y:V)(v u:xD)(Q:VK),Inv X vC σ H s->RelV x v->RelV y u->r x y H Q->
  subscripted slice vG v u=operate [v,u] (getItem v u)->vY (vZ X.prog X.w) X.A (subscriptTail value slice v u) (EP X vC σ Q) X.xe s
def MtR(X:Cx)(id:String)(r:V->List V->Hp->VK->Prop):Prop:=
 ∀(vC:List (xz×Obj))(s:xB)(σ:St)(H:Hp)(x:V)(xs:List V)(v:xD)(us:List xD)(Q:VK),Inv X vC σ H s->RelV x v->Vals xs us->r x xs H Q->
  vY (vZ X.prog X.w) X.A (call (.builtin id) (v::us)) (EP X vC σ Q) X.xe s
section
variable{X:Cx}{a b:xw}{ta tb:TE}{pos:Pos}
theorem IxR.or(h:IxR X r)(h':IxR X r'):IxR X (λx y H Q=>r x y H Q∨r' x y H Q):=by
 intro d i j s F H x y v u Q I z B q n;rcases q with q|q
 ·exact h d i j s F H x y v u Q I z B q n
 ·exact h' d i j s F H x y v u Q I z B q n
theorem ZF9(L:IxR X r)(j:PE X a ta)(J:PE X b tb)(n:PlainIx b):PE X (.Subscript a b pos) (tOp r ta tb):=by intro d s N H Q I h;exact Subscript_ (ZCF j J I h λv u i x y z F B M q=>L a b d i N z x y v u Q F B M q (n _ _))
def rIxL(K:PySem.W.Frag):R2:=λx y H Q=>∃p xs i v,x=.ref p/\y=.int i/\SqL K H p xs/\atI xs i=vD v/\Q v H
def rIxT(K:PySem.W.Frag):R2:=λx y H Q=>∃p xs i v,x=.ref p/\y=.int i/\SqT K H p xs/\atI xs i=vD v/\Q v H
def rIxS:R2:=λx y H Q=>∃z i c,x=.str z/\y=.int i/\z.length<=sizeLine/\atI z.cps.toList i=vD c/\Q (.str ⟨#[c]⟩) H
theorem ZMj:IxR X (rIxL X.K):=by
 intro value slice vC s σ H x y v u Q I rx ry h hs;obtain⟨p,xs,i,z,rfl,rfl,hq,he,q⟩:=h;cases rx;obtain⟨t,rfl⟩:=ry;obtain⟨its,r,pl,hz⟩:=I.list hq;obtain⟨j,h1,h2,h3,h4,h5⟩:=Sd he;obtain⟨w,ew,rw'⟩:=r.get h2;have hl:=r.length;have hn:=line63;have fin:EP X vC σ Q w s:=⟨z,H,I,rw',q⟩;by_cases h0:0<=i
 ·have hj:i.toNat=j:=by rw[seqIndex_of h0 h5]at h1;exact Option.some.inj h1
  exact item_listR pl.isList h0 (by lia) (by rw[hj];simpa using ew) fin hs
 ·have hj:(i+(its.toArray.size:Int)).toNat=j:=by rw[seqIndex_neg (by lia) h4]at h1;rw[zY,<-hl];exact Option.some.inj h1
  exact subscriptTail_builtinR (x:=w) pl.isList.typeIs slot_list_getitem.lookup
   (wpAny_getItem_list_neg (Q:=λr s'=>r=w/\EP X vC σ Q r s') pl.isList (by lia) (by rw[zY]<;>lia) (by lia) (by rw[hj];simpa using ew) ⟨rfl,fin⟩) hs
theorem ZTR:IxR X (rIxT X.K):=by
 intro value slice vC s σ H x y v u Q I rx ry h hs;obtain⟨p,xs,i,z,rfl,rfl,hq,he,q⟩:=h;cases rx;obtain⟨t,rfl⟩:=ry;obtain⟨its,r,pl,hz⟩:=I.tuple hq;obtain⟨j,h1,h2,h3,h4,h5⟩:=Sd he;obtain⟨w,ew,rw'⟩:=r.get h2;have hl:=r.length;have hn:=line63;have fin:EP X vC σ Q w s:=⟨z,H,I,rw',q⟩;exact subscriptTail_builtinR (x:=w) pl.typeIs slot_tuple_getitem.lookup
  (getItem_tuple (j:=j) (Q:=λr s'=>r=w/\EP X vC σ Q r s') pl (by lia) (by lia) (by rw[zY,<-hl];exact h1) (by simpa using ew) ⟨rfl,fin⟩) hs
theorem ZTd:IxR X rIxS:=by
 intro value slice vC s σ H x y v u Q I rx ry h hs;obtain⟨z,i,c,rfl,rfl,hz,he,q⟩:=h;obtain⟨t,rfl⟩:=rx;obtain⟨t',rfl⟩:=ry;obtain⟨j,h1,h2,h3,h4,h5⟩:=Sd he;have hl:z.cps.toList.length=z.length:=by simp[Str.length]
 rw[hl]at h1 h4 h5;have hn:=line63;exact tail_any (typeIs_str s z t) slot_str_getitem.lookup (getItem_str (c:=c) (by have e1:decide (i < -(2^63:Int))=vG:=decide_eq_false (by lia);have e2:decide (i ≥ 2^63)=vG:=decide_eq_false (by lia);rw[e1,e2,Bool.or_false]) (by rw[h1];simpa using h2) ⟨.str ⟨#[c]⟩,H,I.tok _,⟨_,rfl⟩,q⟩) hs
def rIx(K:PySem.W.Frag):R2:=λx y H Q=>rIxL K x y H Q∨rIxT K x y H Q∨rIxS x y H Q
theorem ZRQ:IxR X (rIx X.K):=ZMj.or (ZTR.or ZTd)
theorem ZRg(its:List xD)(n j:Nat)(u:xD):Obj.mapSeq (·.setIfInBounds j u) {cls:=.type "list",data:=.seq its.toArray n}={cls:=.type "list",data:=.seq (its.set j u).toArray n}:=by simp[Obj.mapSeq]
theorem Inv.lst{d:St}{H:Hp}{p:xz}{xs:List V}(I:Inv X vC d H s)(h:H p=vD (.lst xs)):
  ∃(its:List xD)(n:Nat),Vals xs its/\s.heap.get? p=vD {cls:=.type "list",data:=.seq its.toArray n}/\xs.length<=sizeLine:=by
 obtain⟨z,its,n,r,e⟩:=I.hok p _ h;exact⟨its,n,r,e,z⟩
theorem Inv.ZOo{z:St}{H:Hp}{p:xz}{xs ys:List V}{its its':List xD}{n i:Nat}{f:Obj->Obj}(I:Inv X vC z H s)(h:H p=vD (.lst xs))
  (ho:s.heap.get? p=vD {cls:=.type "list",data:=.seq its.toArray n}) (j:f {cls:=.type "list",data:=.seq its.toArray n}={cls:=.type "list",data:=.seq its'.toArray i}) (r:Vals ys its') (hz:ys.length<=sizeLine) (t:Nat):
  Inv X vC z (upd H p (.lst ys)) {s with heap:=s.heap.update p f,toks:=t}:=by
 have e:(s.heap.update p f).get? p=vD {cls:=.type "list",data:=.seq its'.toArray i}:=by rw[jT f ho (by rw[j]<;>rfl),j]
 refine I.write (x:=p) (e:=p) (by rw[h];trivial) (.inl rfl) (λb u B q=>(Heap.get?_update_other _ _ (Ne.symm B)).trans q) ⟨_,e⟩ ?_;exact⟨hz,its',i,r,e⟩
def ZQq:V->V->V->Hp->(Hp->Prop)->Prop:=λo i v H Q=>∃p xs k j,o=.ref p/\i=.int k/\H p=vD (.lst xs)/\ixN xs.length k=vD j/\Q (upd H p (.lst (xs.set j v)))
theorem set_list:PSet X ZQq:=by
 intro vC s σ H o i v ov iv u Q I ro ri rv h;obtain⟨p,xs,k,j,rfl,rfl,hp,hj,q⟩:=h;cases ro;obtain⟨t,rfl⟩:=ri;obtain⟨its,n,r,ho,hz⟩:=I.lst hp;obtain⟨h1,h2,h3,h4⟩:=ZHq hj;have hl:=r.length;have hn:=line63
 have I':Inv X vC σ (upd H p (.lst (xs.set j v))) {s with heap:=s.heap.update p (Obj.mapSeq (·.setIfInBounds j u))}:=
  I.ZOo hp ho (ZRg its n j u) (r.set rv j) (by rw[j8];exact hz) s.toks
 by_cases h0:0<=k
 ·have hk:k.toNat=j:=by rw[seqIndex_of h0 h4]at h1;exact Option.some.inj h1
  exact PySem.W.ki_setAt ho h0 (by lia) (by rw[zY,<-hl];exact h4) (by rw[hk];exact⟨_,I',q⟩)
 ·have hk:(k+(its.toArray.size:Int)).toNat=j:=by rw[seqIndex_neg (by lia) h3]at h1;rw[zY,<-hl];exact Option.some.inj h1
  exact PySem.W.ki_setBack ho (by lia) (by rw[zY,<-hl];exact h3) (by lia) (by rw[hk];exact⟨_,I',q⟩)
theorem ZN2(lo hi:Option Int)(n:Nat):(vV lo hi vE n).1=((HT.sIx n 0 lo:Nat):Int)/\(vV lo hi vE n).2.1=((HT.sIx n n hi:Nat):Int)/\(vV lo hi vE n).2.2=1:=by
 refine⟨?_,?_,rfl⟩
 ·cases lo with
  |none=>simp[vV,HT.sIx]
  |some i=>
   simp only[vV,HT.sIx,Option.getD_none,show(1:Int)>0 by decide,if_true];by_cases h:i<0
   ·simp only[h,if_true]<;>lia
   ·simp only[h,if_false]<;>lia
 ·cases hi with
  |none=>simp[vV,HT.sIx]
  |some i=>
   simp only[vV,HT.sIx,Option.getD_none,show(1:Int)>0 by decide,if_true];by_cases h:i<0
   ·simp only[h,if_true]<;>lia
   ·simp only[h,if_false]<;>lia
theorem ZN1(its:List xD)(lo hi:Option Int):slicePick its.toArray lo hi vE=((its.drop (HT.sIx its.length 0 lo)).take (HT.sIx its.length its.length hi-HT.sIx its.length 0 lo)).toArray:=by
 obtain⟨d,i,j⟩:=ZN2 lo hi its.toArray.size;unfold slicePick;rw[d,i,j]
 simp only[sliceRange_one,pick_run,zY]<;>rfl
def rSlL(K:PySem.W.Frag):V->Option Int->Option Int->Hp->VK->Prop:=λx lo hi H Q=>∃a xs,x=.ref a/\SqL K H a xs/\∀p,H p=vE->Q (.ref p) (upd H p (.lst (Jt xs lo hi)))
theorem ZO3:SlR X (rSlL X.K):=by
 intro z s W H x v U S j n Y Q I J B pl N h;obtain⟨a,d,rfl,L,q⟩:=h;cases J;obtain⟨F,r,y,M⟩:=I.list L;have i:=r.length;refine⟨"list",_,slot_list_getitem.lookup,y.isList.typeIs,?_⟩
 refine wpAny_getItem_list_slice y.isList B pl N .none (by simp) ?_ (by rw[zY]<;>lia)
 rw[ZN1,<-i];refine⟨.ref s.heap.objs.size,_,I.laid (t':=s.toks) (o:=.lst (Jt d j n)) (λb O q=>zJ _ q) (zK _) ?_,rfl,q _ (I.hok.fresh (zK _))⟩;exact⟨zA (ZF8 d j n) M,_,0,(r.drop (HT.sIx d.length 0 j)).take (HT.sIx d.length d.length n-HT.sIx d.length 0 j),z0 _ rfl⟩
noncomputable def Dc:V->Bool
 |.non=>vF
 |.bl _=>vF
 |.int _=>vF
 |.str _=>vF
 |_=>vG
noncomputable def eqV:V->V->Bool
 |.non,.non=>vF
 |.bl a,.bl b=>a==b
 |.bl a,.int b=>(if a then 1 else 0)==b
 |.int a,.bl b=>a==(if b then 1 else 0)
 |.int a,.int b=>a==b
 |.str a,.str b=>a==b
 |_,_=>vG
theorem ZF6(j:RelV y u)(d:RelV x v)(q:Dc y=vF)(n:Dc x=vF):SeqAt.EqAt A s u v (eqV y x):=by
 cases y with
 |non=>
  cases j;cases x with
  |non=>cases d;exact SeqAt.EqAt.same _
  |bl b=>cases d;exact SeqAt.EqAt.none_bool b
  |int b=>obtain⟨t,rfl⟩:=d;exact SeqAt.EqAt.none_int b t
  |str b=>obtain⟨t,rfl⟩:=d;exact SeqAt.EqAt.none_str b t
  |_=>exact absurd (show vG=vF from n) zk
 |bl a=>
  cases j;cases x with
  |non=>cases d;exact SeqAt.EqAt.bool_none a
  |bl b=>cases d;exact SeqAt.EqAt.bool_bool a b
  |int b=>obtain⟨t,rfl⟩:=d;exact SeqAt.EqAt.bool_int a b t
  |str b=>obtain⟨t,rfl⟩:=d;exact SeqAt.EqAt.bool_str a b t
  |_=>exact absurd (show vG=vF from n) zk
 |int a=>
  obtain⟨i,rfl⟩:=j;cases x with
  |non=>cases d;exact SeqAt.EqAt.int_none a i
  |bl b=>cases d;exact SeqAt.EqAt.int_bool a i b
  |int b=>obtain⟨t,rfl⟩:=d;exact SeqAt.EqAt.int_int a i b t
  |str b=>obtain⟨t,rfl⟩:=d;exact SeqAt.EqAt.int_str a i b t
  |_=>exact absurd (show vG=vF from n) zk
 |str a=>
  obtain⟨i,rfl⟩:=j;cases x with
  |non=>cases d;exact SeqAt.EqAt.str_none a i
  |bl b=>cases d;exact SeqAt.EqAt.str_bool a i b
  |int b=>obtain⟨t,rfl⟩:=d;exact SeqAt.EqAt.str_int a i b t
  |str b=>obtain⟨t,rfl⟩:=d;exact SeqAt.EqAt.str_str a i b t
  |_=>exact absurd (show vG=vF from n) zk
 |_=>exact absurd (show vG=vF from q) zk
def eqU(x:V)(u:xD):Bool:=match u with
 |.none=>eqV .non x
 |.bool b=>eqV (.bl b) x
 |.int i _=>eqV (.int i) x
 |.str z _=>eqV (.str z) x
 |_=>vG
theorem ZGs(r:RelV y u)(f:Dc y=vF):eqU x u=eqV y x:=by
 cases y with
 |non=>cases r;rfl
 |bl b=>cases r;rfl
 |int i=>obtain⟨t,rfl⟩:=r;rfl
 |str z=>obtain⟨t,rfl⟩:=r;rfl
 |_=>exact absurd (show vG=vF from f) zk
theorem ZCn:∀{xs:List V}{us:List xD},Vals xs us->xs.all Dc=vF->us.any (eqU x)=xs.any λy=>eqV y x
 |_,_,.nil,_=>rfl
 |y::xs,u::us,.cons r t,f=>by rw[qN,zD]at f;rw[jF,jF,ZGs r f.1,ZCn t f.2]
theorem Y0(i:RelV x v)(j:Dc x=vF):∀{xs:List V}{us:List xD},Vals xs us->xs.all Dc=vF->∀u∈us,SeqAt.EqAt A s u v (eqU x u)
 |_,_,.nil,_=>λu d=>by cases d
 |y::xs,u::us,.cons r t,f=>λn d=>by
  rw[qN,zD]at f;rcases zq.mp d with rfl|d
  ·rw[ZGs r f.1];exact ZF6 r i f.1 j
  ·exact Y0 i j t f.2 n d
def inV(x:V)(xs:List V):Bool:=xs.any λy=>eqV y x
def rIn(K:PySem.W.Frag)(neg:Bool):R2:=λx y H Q=>∃p xs,y=.ref p/\(SqL K H p xs∨SqT K H p xs)/\Dc x=vF/\xs.all Dc=vF/\Q (.bl (if neg then !inV x xs else inV x xs)) H
theorem ZLa:OpR X (xR .NotIn) (rIn X.K vF):=by
 intro n s L H x y v u Q I j B h;obtain⟨p,J,rfl,i,z,fs,q⟩:=h;cases B;rcases i with i|i
 ·obtain⟨d,r,pl,F⟩:=I.list i;refine SeqAt.notIn_listAt (eqU x) pl.isList (λw hw=>Y0 j z r fs w (by simpa using hw)) ⟨.bl _,H,I,rfl,?_⟩;rw[show d.toArray.any (eqU x)=d.any (eqU x) by simp,ZCn r fs];exact q
 ·obtain⟨d,r,pl,F⟩:=I.tuple i;refine SeqAt.notIn_tupleAt (eqU x) pl (λw hw=>Y0 j z r fs w (by simpa using hw)) ⟨.bl _,H,I,rfl,?_⟩;rw[show d.toArray.any (eqU x)=d.any (eqU x) by simp,ZCn r fs];exact q
theorem ZOc:CallR X (.builtin "len") (λxs H Q=>∃p ys,xs=[.ref p]/\(SqL X.K H p ys∨SqT X.K H p ys)/\Q (.int ys.length) H):=by
 intro vC s σ H xs us Q I r h;obtain⟨p,ys,rfl,hq,q⟩:=h;obtain⟨u,rfl,rx⟩:=vals1 r;cases rx;have hn:=line63;rcases hq with hq|hq
 ·obtain⟨its,r',pl,hz⟩:=I.list hq;have hlen:=r'.length
  exact Calls.call_len_list pl.isList (by simp only[zY]<;>lia) ⟨.int ys.length,H,I.tok _,⟨s.toks+1,by rw[zY,hlen]⟩,q⟩
 ·obtain⟨its,r',pl,hz⟩:=I.tuple hq;have hlen:=r'.length
  exact len_tuple pl (by simp only[zY]<;>lia) ⟨.int ys.length,H,I.tok _,⟨s.toks+1,by rw[zY,hlen]⟩,q⟩
theorem ZSn:CallR X (.builtin "len") (λxs H Q=>∃z,xs=[.str z]/\z.length<=sizeLine/\Q (.int z.length) H):=by intro vC s σ H xs us Q I r h;obtain⟨z,rfl,hz,q⟩:=h;obtain⟨u,rfl,t,rfl⟩:=vals1 r;have hn:=line63;exact len_str (by lia) ⟨.int z.length,H,I.tok _,⟨_,rfl⟩,q⟩
theorem CallR.or(h:CallR X f r)(h':CallR X f r'):CallR X f (λxs H Q=>r xs H Q∨r' xs H Q):=by
 intro d s i H xs n Q I j q;rcases q with q|q
 ·exact h d s i H xs n Q I j q
 ·exact h' d s i H xs n Q I j q
theorem ZTs:CallR X (.type "list") (λxs H Q=>∃p ys,xs=[.ref p]/\(SqL X.K H p ys∨SqT X.K H p ys)/\∀l,H l=vE->Q (.ref l) (upd H l (.lst ys))):=by
 intro M s Z H xs us Q I r h;obtain⟨p,ys,rfl,B,q⟩:=h;obtain⟨u,rfl,Y⟩:=vals1 r;cases Y;have F:∀(d:List xD),Vals ys d->ys.length<=sizeLine->∀(j:Heap)(y:Nat),(∀b W,s.heap.get? b=vD W->j.get? b=vD W)->
   j.get? s.heap.objs.size=vD {cls:=.type "list",dict:=vE,data:=.seq d.toArray y,slots:= #[]}->EP X M Z Q (.ref s.heap.objs.size) {s with heap:=j}:=λd z L j y J e=>
  ⟨.ref s.heap.objs.size,_,I.laid (t':=s.toks) J (zK _) (show ObjOk X.prog X.w _ j _ (.lst ys)from⟨L,d,y,z,e⟩),rfl,q _ (I.hok.fresh (zK _))⟩
 rcases B with B|B
 ·obtain⟨d,z,pl,L⟩:=I.list B;have N:=z.length;obtain⟨o,U,O,n,S⟩:=pl.isList
  exact call_list_seq p (.inl rfl) U O S (λj y J e=>F d z L j y J e) (by simp only[zY]<;>lia)
 ·obtain⟨d,z,pl,L⟩:=I.tuple B;have N:=z.length;obtain⟨o,U,O,n,S⟩:=pl
  exact call_list_seq p (.inr rfl) U O S (λj y J e=>F d z L j y J e) (by simp only[zY]<;>lia)
theorem ZSk:CallR X (.type "tuple") (λxs H Q=>∃p ys,xs=[.ref p]/\((SqL X.K H p ys/\∀l,H l=vE->Q (.ref l) (upd H l (.tup ys)))∨(SqT X.K H p ys/\Q (.ref p) H))):=by
 intro d s L H xs W Q I r h;obtain⟨p,ys,rfl,h⟩:=h;obtain⟨u,rfl,N⟩:=vals1 r;cases N;rcases h with⟨y,q⟩|⟨y,q⟩
 ·obtain⟨i,z,pl,F⟩:=I.list y;have M:=z.length
  refine call_tuple_list pl.isList (λn S=>?_) (by simp only[zY]<;>lia)
  have B:Inv X d L H {s with heap:=n}:=I.kept (t':=s.toks) S;have O:Inv X d L (upd H n.objs.size (.tup ys)) {s with heap:=n.push {cls:=.type "tuple",data:=.seq i.toArray}}:=
   B.laid (t':=s.toks) (λb o e=>zJ _ e) (zK _) (show ObjOk X.prog X.w _ _ _ (.tup ys)from⟨F,i,z,IsTup.new _ _⟩)
  exact⟨.ref n.objs.size,_,O,rfl,q _ (B.hok.fresh (zK _))⟩
 ·obtain⟨i,z,pl,F⟩:=I.tuple y;exact call_tuple_same pl ⟨.ref p,H,I,rfl,q⟩
def tyV(K:PySem.W.Frag)(T:String)(x:V)(H:Hp):Prop:=match x with
 |.str _=>T="str"
 |.int _=>T="int"
 | .ref p=>(T="list"/\∃xs,SqL K H p xs)∨(T="tuple"/\∃o,K.lookup p=vD o/\o.cls=.type "tuple"/\o.dict=vE)∨
   (T="dict"/\((∃kvs,H p=vD (.dK kvs))∨∃kvs,H p=vD (.dT kvs)))∨(T="set"/\∃S n,H p=vD (.set S n))
 |_=>False
theorem ZSx{M:St}{H:Hp}{T:String}{x:V}{v:xD}(I:Inv X vC M H s)(r:RelV x v)(ty:tyV X.K T x H):
  s.TypeIs v T/\∀a,v=.ref a->∃B,s.heap.get? a=vD B/\B.dict=vE:=by
 cases x with
 |str z=>
  obtain⟨t,rfl⟩:=r
  cases(show T="str" from ty)
  exact⟨typeIs_str s z t,λ_ e=>nomatch e⟩
 |int i=>
  obtain⟨t,rfl⟩:=r
  cases(show T="int" from ty)
  exact⟨typeIs_int s i t,λ_ e=>nomatch e⟩
 | ref p=>
  cases r;rcases ty with⟨rfl,N,J⟩|⟨rfl,o,hk,F,j⟩|⟨rfl,hk⟩|⟨rfl,S,n,hk⟩
  ·obtain⟨L,_,pl,_⟩:=I.list J;refine⟨pl.isList.typeIs,λa e=>?_⟩;cases e;obtain⟨o,n,e,c,j,_⟩:=pl;exact⟨o,e,j⟩
  ·refine⟨⟨o,I.kIn p o hk,F⟩,λa e=>?_⟩;cases e;exact⟨o,I.kIn _ o hk,j⟩
  ·have z:∃o,s.heap.get? p=vD o/\o.ExactDict:=by
    rcases hk with⟨y,hk⟩|⟨y,hk⟩
    ·obtain⟨_,_,_,_,o,_,_,e,d,_⟩:=I.hok p _ hk;exact⟨o,e,d⟩
    ·obtain⟨_,_,_,_,o,_,_,e,d,_⟩:=I.hok p _ hk;exact⟨o,e,d⟩
   obtain⟨o,e,d⟩:=z;refine⟨⟨o,e,d.1⟩,λa q=>?_⟩;cases q;exact⟨o,e,d.2.1⟩
  ·obtain⟨o,_,_,_,e,d,_⟩:=I.hok p _ hk;refine⟨⟨o,e,d.1⟩,λa q=>?_⟩;cases q;exact⟨o,e,d.2.1⟩
 |_=>exact False.elim ty
noncomputable def tBM(K:PySem.W.Frag)(T:String)(r:V->List V->Hp->VK->Prop)(to:TE)(t:TA):TE:=λσ H Q=>to σ H λx H1=>tyV K T x H1/\t σ H1 λxs H2=>r x xs H2 Q
variable{o e:xw}{es:List xw}{to:TE}{t:TA}{name:Str}{apos cpos:Pos}{T id:String}{r:V->List V->Hp->VK->Prop}
theorem ZSQ(Y:PlainAttrs T)(q:Slot T name id)(z:typeOf (.builtin id)=pure (.type "method_descriptor"))(N:MtR X id r)(ho:PE X o to)(U:PA X (e::es) t)
  (j:xG o name X.env (eval o X.env)=eval o X.env:=by rfl)
  (y:((xH cpos (vW (e::es) X.env)).all (λx=> !x.1)&&(xI cpos (xT [] X.env)).all (λx=>x.1.isSome)
   && decide ((e::es).length+([]:List Keyword).length+(if([]:List Keyword).isEmpty then 0 else 1)<30))=vF:=by rfl)
  (n:(apos.endLine==cpos.line)=vF:=by rfl) (hs:vW (e::es) X.env=(vG,eval e X.env)::vW es X.env:=by rfl) (i:(xH cpos (vW es X.env)).any (·.1)=vG:=by rfl):
  PE X (.Call (.Attribute o name apos) (e::es) [] cpos) (tBM X.K T r to t):=by
 intro d s B H Q I h;refine wpAny_Call_method_late j y n rfl (thn (ho d s B H _ I h) λv s1 ⟨x,Z,L,F,ty,q1⟩=>?_);obtain⟨h1,W⟩:=ZSx L F ty;refine⟨T,id,Y,q,z,h1,W,?_⟩;have J:=U cpos d s1 B Z _ L q1;rw[hs]at J⊢
 refine Calls.callWith_builtin (by show(vG||(xH cpos (vW es X.env)).any (·.1))=vG;rw[i]<;>rfl) (Calls.evalArgs_plain ?_)
 exact thn J λO M ⟨vs,H2,I2,S,q2⟩=>N d M B H2 x vs v O Q I2 F S q2
end
def MtM(X:Cx)(id:String)(r:V->List V->Hp->VK->Prop):Prop:=
 ∀(vC:List (xz×Obj))(s:xB)(σ:St)(H:Hp)(x:V)(xs:List V)(v:xD)(us:List xD)(Q:VK),Inv X vC σ H s->RelV x v->Vals xs us->r x xs H Q->
  vY (vZ X.prog X.w) X.A (call (.builtin id) (v::us)) (EP X vC σ Q) X.xe s
theorem Vals.one:∀{x:V}{us:List xD},Vals [x] us->∃u,us=[u]/\RelV x u:=by intro x us h;cases h with |cons r t=>cases t;exact⟨_,rfl,r⟩
theorem Vals.rep(h:Vals xs us):∀k:Nat,Vals (zV k xs).flatten (zV k us).flatten
 |0=>.nil
 |k+1=>by rw[qV,qV,qH,qH];exact Vals.append h (Vals.rep h k)
theorem foldl_rep(its:List xD):∀(k:Nat)(acc:List xD),
  List.foldl (λx1 d=>x1++d) acc.toArray (zV k its.toArray)=(acc++(zV k its).flatten).toArray
 |0,acc=>by simp
 |k+1,acc=>by
  have e:acc.toArray++its.toArray=(acc++its).toArray:=by simp
  have i:(acc++its)++(zV k its).flatten=acc++(zV (k+1) its).flatten:=by rw[qV,qH,jA]
  rw[<-i,<-foldl_rep its k (acc++its),<-e,qV,j1]
section
variable{X:Cx}{vC:List (xz×Obj)}{σ:St}{H:Hp}{s:xB}{l b:xz}{xs ys zs:List V}
theorem Inv.lset{its its':List xD}{n:Nat}{f:Array xD->Array xD}{t':Nat}(I:Inv X vC σ H s)(hH:H l=vD (.lst xs))
  (e:s.heap.get? l=vD {cls:=.type "list",data:=.seq its.toArray n}) (hf:f its.toArray=its'.toArray) (hv:Vals ys its') (hz:ys.length<=sizeLine):
  Inv X vC σ (upd H l (.lst ys)) {s with heap:=s.heap.update l (Obj.mapSeq f),toks:=t'}:=by
 have q:=PySem.IsL.update e f;rw[hf]at q;refine I.write (x:=l) (e:=l) (by rw[hH];exact trivial) (.inl rfl) (λb' u hb hu=>(Heap.get?_update_other s.heap (Obj.mapSeq f) (Ne.symm hb)).trans hu) ⟨_,q⟩ ?_;exact⟨hz,its',_,hv,q⟩
theorem Inv.lnew(I:Inv X vC σ H s)(n:Vals ys its)(hz:ys.length<=sizeLine):
  Inv X vC σ (upd H s.heap.objs.size (.lst ys)) {s with heap:=s.heap.push {cls:=.type "list",data:=.seq its.toArray},toks:=t'}:=
 I.laid (λ_ _ q=>zJ _ q) (zK _) ⟨hz,its,0,n,z0 _ rfl⟩
theorem Inv.fresh(I:Inv X vC σ H s):H s.heap.objs.size=vE:=I.hok.fresh (zK _)
theorem Inv.lstM(I:Inv X vC σ H s)(d:H l=vD (.lst xs)):xs.length<=sizeLine/\∃(its:List xD)(n:Nat),Vals xs its/\xs.length=its.length/\s.heap.get? l=vD {cls:=.type "list",data:=.seq its.toArray n}:=by obtain⟨z,its,n,r,e⟩:=I.hok l _ d;exact⟨z,its,n,r,r.length,e⟩
theorem ZRy(h:n<=sizeLine):Builtin.List.listTooLong n=vG:=by unfold Builtin.List.listTooLong;exact decide_eq_false (by lia)
end
section
variable{X:Cx}
def ZQ8:V->List V->Hp->VK->Prop:=λx vs H Q=>∃l xs y,x=.ref l/\vs=[y]/\H l=vD (.lst xs)/\xs.length<sizeLine/\Q .non (upd H l (.lst (xs++[y])))
theorem ZT8:MtM X "list.append" ZQ8:=by
 intro vC s σ H x vs v us Q I rx rv h;obtain⟨l,xs,y,rfl,rfl,hH,hz,q⟩:=h;cases rx;obtain⟨u,rfl,ru⟩:=rv.one;obtain⟨z,its,n,r,hl,e⟩:=I.lstM hH;refine call_meets F.slot_list_append ⟨_,e,rfl⟩ F.entry_list_append (F.args_list_append_2 _ _) (PySem.list_append l its.toArray n u (by rw[zY];lia)) ⟨e,?_⟩;refine⟨.non,_,I.lset (its':=its++[u]) hH e (by simp) (r.append (.cons ru .nil)) ?_,rfl,q⟩
 rw[qz,jB];lia
def rRep:R2:=λx y H Q=>∃l k xs,x=.ref l/\y=.int k/\H l=vD (.lst xs)/\ -(2^63)<=k/\k<2^63/\xs.length*k.toNat<=sizeLine/\
 ∀p,H p=vE->Q (.ref p) (upd H p (.lst (zV k.toNat xs).flatten))
theorem len_rep{i:Type}(xs:List i)(k:Nat):(zV k xs).flatten.length=k*xs.length:=by
 induction k with
 |zero=>simp
 |succ k d=>rw[qV,qH,qz,d,Nat.succ_mul,Nat.add_comm]
theorem ZMo:OpR X (xM .Mult) rRep:=by
 intro vC s σ H x y v u Q I rx ry h;obtain⟨l,k,xs,rfl,rfl,hH,h1,h2,hz,q⟩:=h;cases rx;obtain⟨t,rfl⟩:=ry;obtain⟨z,its,n,r,hl,e⟩:=I.lstM hH;have hlen:its.toArray.size*k.toNat<=sizeLine:=by rw[zY,<-hl];exact hz
 have hcap:¬its.toArray.size*k.toNat>(2^63-1)/8:=by
  have:(sizeLine:Nat)<=(2^63-1)/8:=by decide
  lia
 have hfit:¬(!Builtin.List.listFitsIndex k)=vF:=by rw[fitsIndex_both h1 h2];exact zk
 have hlong:¬Builtin.List.listTooLong (its.toArray.size*k.toNat)=vF:=by rw[ZRy hlen];exact zk
 have hnew:List.foldl (λx1 x2=>x1++x2) #[] (zV (if its.toArray.isEmpty=vF then 0 else k.toNat) its.toArray)=(zV k.toNat its).flatten.toArray:=by
  have f0:∀m:Nat,List.foldl (λx1 x2=>x1++x2) #[] (zV m its.toArray)=(zV m its).flatten.toArray:=λm=>by have:=foldl_rep its m [];rw[xV]at this;exact this
  rw[f0];cases its with
  |nil=>simp
  |cons a r'=>rw[if_neg (by simp)]
 refine wpAny_binaryOp_repeat_ref (T:="list") (U:="int") (by decide) ⟨_,e,rfl⟩ (λs'=>typeIs_int s' k t) noFill_list_mul F.fills_int_mul F.slot_int_rmul repeat_list F.slot_int_index.lookup
  (call_meets F.slot_int_rmul (typeIs_int s k t) F.entry_int_rmul (F.args_int_rmul_2 _ _) (int___rmul___int_list k t l its.toArray n)
   ⟨e,rfl,⟨_,e,rfl⟩,call_meets F.slot_list_mul ⟨_,e,rfl⟩ F.entry_list_mul (F.args_list_mul_2 _ _) (AutoListH.list___mul___list_int_3 l its.toArray n k t hfit hcap hlong) ⟨e,?_⟩⟩)
 rw[hnew];exact⟨.ref _,_,I.lnew (t':=s.toks) (r.rep k.toNat) (by rw[len_rep,Nat.mul_comm];exact hz),rfl,q _ I.fresh⟩
end
section
variable{prog:x0}{w:xE}{A:xj}{E:xD->xB->Prop}{s:xB}
end
section
variable{X:Cx}
end
end _L
namespace Att
open PySem PySem.W PySem.Calls PyProof.Rows
theorem ZNw:∀(ns:List Int)(vs:List xD),WellAll P h vs (ns.map WData.int)->IntsAre vs ns:=by
 intro ns
 induction ns with
 |nil=>
  intro vs w;rw[jM]at w;cases w;exact .nil
 | cons n ns d=>
  intro vs w;rw[zw]at w;cases w with
  |cons a b=>
   cases a;exact .cons _ _ (d _ b)
theorem ZKq{l:OpenLaw}{n:Nat}(U:l.most=vD n){P:Params}{h:Heap}{i:List WData}{y:List xD}
  (z:l.row.toRowW.claim.pre i=vF) (L:WellAll P h y i):
  ∃a vs ns,y=[Value.ref a]/\i=[WData.list (ns.map WData.int)]/\h.get? a=vD {cls:=.type "list",data:=.seq vs.toArray}/\IntsAre vs ns/\ns.length<=n:=by
 have M:WShape.hasAll [] i [.list .int]=vF:=(pre_splitW z).1;have N:l.pre.holds [] {args:=i}=vF:=(pre_splitW z).2;obtain⟨d,r,rfl,h1,S⟩:=hasAllW_cons M;obtain rfl:=hasAllW_nil S;obtain⟨xs,rfl,Z⟩:=hasW_list h1;obtain⟨ns,rfl⟩:=items_int Z;have F:ns.length<=n:=by
  unfold OpenLaw.pre at N;have I:(WTm.not (.lt (.lit (.int (n:Int))) (.len (.arg 0)))).holds [] {args:=[.list (ns.map .int)]}=vF:=by have I:=(holds_andW N).1;rw[U]at I;exact I
  have J:=condW_of I (w_not (w_lt w_lit (w_len_list (w_arg rfl))));rw[qY]at J;refine Nat.le_of_not_lt λq=>?_
  have q':(n:Int)<((ns.length:Nat):Int):=by lia
  first
   |(rw[j q']at J;exact absurd J (by decide))
   |(simp at J;lia)
 cases L with
 |cons W Y=>
  cases Y;cases W with
  |list O B=>exact⟨_,_,ns,rfl,rfl,O,ZNw ns _ B,F⟩
theorem ZL7(l:OpenLaw)(d:List WData):l.row.toRowW.claim.post d (.bool vF) d=vF:=
 postW_of (r:=l.row.toRowW) (X:=(vF==vF))
  (show WShape.has [] (.bool vF) .bool=vF by first|rfl|decide|simp[WShape.has,WShape.arms,WShape.armsAll])
  (show(WTm.eq .res (.lit (.bool vF))).value [] {args:=d,res:=vD (.bool vF),after:=d}=vD (.bool (vF==vF))from w_eq_bool (w_res rfl) w_lit) rfl
theorem ZRP{l:OpenLaw}{n:Nat}{q:x0}{loose:List Str}{XP:(Str->Option xD)->Heap->Prop}{YP:xE->Heap->Prop}{d:DefRec}
  (hn:l.most=vD n) (hdf:d.params.defaults=[])
  (call:∀(w:xE)(j i:xB)(L M:Str->Option xD)(J:xz)(o:Obj)(pm cd y:xD)(a:xz)(vs:List xD)(ns:List Int),
   Ground q loose [] XP w j L M i.heap->YP w i.heap->
   i.heap.get? J=vD o->o.data=.func (docDef d.name d.params d.body d.scope pm cd y)->i.heap.CodeRec cd d.name->L d.name=vD (.ref J)->
   i.heap.get? a=vD {cls:=.type "list",data:=.seq vs.toArray}->IntsAre vs ns->ns.length<=n->i.gens= #[]->
   codeAny (vZ l.prog w) callerA (.call (.ref J) ⟨[.ref a],[]⟩) (λr s'=>r=.ok (.ret (.bool vF))/\OldK i.heap s'.heap/\s'.os=i.os/\AllBare s'.gens) i):
  WalkO q loose XP YP l.row.toRowW d [] (λf vs=>PySem.call f vs):=by
 intro w j i L M G Y J o pm cd y dV kV ho hd O U S hg W Z as I hlay hrd N hlo;obtain rfl:dV=.none:=Dflts.none U hdf;obtain rfl:kV=.none:=Dflts.noKw U;obtain⟨a,vs,ns,rfl,rfl,B,z,F⟩:=ZKq hn I N;refine enter_call (xP (call w j i L M J o pm cd y a vs ns G Y ho (fd_plain hd) O S B z F hg) λr s' hq=>?_);obtain⟨rfl,h2,h3,h4⟩:=hq
 exact⟨.inl ⟨.bool vF,.bool vF,[],rfl,λ_=>rfl,.bool vF,ZL7 l _,λ_=>⟨List.Pairwise.nil,λ_ hm=>(nomatch hm)⟩⟩,h2,h3,h4⟩
section
variable{prog:x0}{w:xE}{A:xj}{E:xD->xB->Prop}{s:xB}{K:v9}
noncomputable def Rz(h:Heap):Heap:={h with objs:= #[]}
theorem Vt(h:Heap)(b:xz):(Rz h).get? b=vE:=by
 cases e:(Rz h).get? b with
 |none=>rfl
 |some o=>exact absurd (zx e) (xW _)
noncomputable def ledger(h:Heap)(L d:xz):List (xz×Obj):=(zQ h.objs.size).filterMap λa=>if a=L∨a=d then vE else(h.get? a).map λo=>(a,o)
theorem O2:(a,o)∈ledger h L d↔a≠L/\a≠d/\h.get? a=vD o:=by
 unfold ledger;rw[List.mem_filterMap];constructor
 ·rintro⟨b,_,e⟩;split at e
  ·cases e
  ·rename_i j;obtain⟨B,i,y⟩:=zO.mp e;cases y;exact⟨λq=>j (.inl q),λq=>j (.inr q),i⟩
 ·rintro⟨z,n,i⟩;refine⟨a,qq.mpr (zx i),?_⟩
  rw[if_neg (show¬(a=L∨a=d)from λq=>q.elim z n),i]<;>rfl
theorem ZLL(n:h.Ns L m):Fr (Rz h) L h m:=
 ⟨n,λb o e=>(by rw[Vt]at e;cases e),jH _⟩
end
end Att
namespace _L
open PySem PySem.Spec PyProof.Rows
variable{P:x0}{kvs:List (Key×V)}{pos:Pos}
theorem Q8:∀{vs:List xD}{ns:List Int},IntsAre vs ns->Vals (ns.map V.int) vs
 |_,_,.nil=>.nil
 |_,_,.cons n t h=>.cons ⟨t,rfl⟩ (Q8 h)
def Only(H:Hp):Prop:=∀b,H b=vE∨∃o xs,H b=vD (.frz o (.lst xs))
theorem ZLI{w:xE}{K:PySem.W.Frag}{Y mb:Str->Option xD}{CX:CXT}{k:Nat}{fa a:xz}{fd:xk}{x:Str}{sp:Sp}{i:xB}{vs:List xD}{ns:List Int}
  (KX:K.In i.heap) (O:i.heap.Ns vQ Y) (y:i.heap.Ns builtinsNs mb) (hbb:∀x:Str,x≠"__name__"->mb x=xN x) (hlim:i.heap.NoLimit) (hg:i.gens= #[])
  (ha:i.heap.get? a=vD {cls:=.type "list",data:=.seq vs.toArray}) (hi:IntsAre vs ns) (hl:ns.length<=sizeLine) (hr:Room k callerA)
  (F:∀B:Heap,K.In B->B.Ns vQ Y->FnOk P w K Y B CX k fa fd [x] sp) (L:∀(s:xB)(u:xD),BindsTo s fd ⟨[u],[]⟩ [(x,u)])
  (hsp:∀H:Hp,Only H->SqL K H a (ns.map V.int)->sp [.ref a] H (λv _=>v=.bl vF) λ_ _ _=>False)
  (hCX:∀H e s',CX [] H i (λ_ _ _=>False) e s'->False):
  codeAny (vZ P w) callerA (.call (.ref fa) ⟨[.ref a],[]⟩) (λr s'=>r=.ok (.ret (.bool vF))/\OldK i.heap s'.heap/\s'.os=i.os/\AllBare s'.gens) i:=by
 have rv:=Q8 hi;have M:=hi.length;have J:∀H:Hp,Only H->SqL K H a (ns.map V.int)->HOk P w H i.heap->(∀b,H b≠vE->b=a)->(H a≠vE->K.lookup a=vE)->
   codeAny (vZ P w) callerA (.call (.ref fa) ⟨[.ref a],[]⟩) (λr s'=>r=.ok (.ret (.bool vF))/\OldK i.heap s'.heap/\s'.os=i.os/\AllBare s'.gens) i:=by
  intro H hO hS hok hA hK;have j:∀{b:xz}{o:Obj},i.heap.get? b=vD o->H b=vE->(Iw i.heap H).get? b=vD o:=λe n=>ZKb e n
  have noA:∀{b:xz}{o:Obj}{S:Array DictEntry}{ep:Nat},i.heap.get? b=vD o->o.data=.dict S ep->H b=vE:=λ{b o S ep}e d=>by
   cases q:H b with
   |none=>rfl
   |some u=>
    have e':b=a:=hA b (by rw[q];simp);subst e';rw[ha]at e;cases e;have d':Data.seq vs.toArray _=Data.dict S ep:=d;cases d'
  have I:∀{b:xz}{m:Str->Option xD},i.heap.Ns b m->(Iw i.heap H).Ns b m:=λ{b m}⟨o,S,ep,e,d,r⟩=>⟨o,S,ep,j e (noA e d),d,r⟩
  have U:K.In (Iw i.heap H):=λb o e=>j (KX b o e) (by
   cases q:H b with
   |none=>rfl
   |some u=>
    have e':b=a:=hA b (by rw[q];simp);subst e';rw[hK (by rw[q];simp)]at e;cases e)
  have hM:Mod K Y (Iw i.heap H):=⟨U,I O,⟨mb,I y,hbb⟩,let⟨mc,h1,h2⟩:=hlim;⟨mc,I h1,h2⟩⟩
  have e0:Env0 P w K Y (Iw i.heap H) callerA [] i H:=⟨rfl,hM,λb o e=>ZTb e,Nat.le_of_eq (ZSz _ _),trivial,λb y=>absurd (show b∈([]:List xz)from y) (by simp),hok,.of_eq hg⟩
  refine xP ((F _ U (I O)).run callerA [] i H ⟨[.ref a],[]⟩ [.ref a] [.ref a] _ _ hr e0 (L i (.ref a)) (.cons rfl .nil) (hsp H hO hS)) λr s' h=>?_
  cases r with
  |error e=>exact(hCX H e s' h).elim
  | ok fl=>
   cases fl with
   |next=>exact False.elim h
   |brk=>exact False.elim h
   |cont=>exact False.elim h
   | ret u=>
    obtain⟨v,H',os,bare,un,Z,r',q⟩:=h;have q':v=.bl vF:=q;subst q';obtain rfl:u=Value.bool vF:=r';refine⟨rfl,OldK.of_keep λb o e=>?_,os,bare⟩;cases q:H b with
    |none=>exact un.keep b o e q (by intro z;exact absurd (show b∈([]:List xz)from z) (by simp)) (by simp)
    |some u=>
     rcases hO b with z|⟨ob,xs,z⟩
     ·rw[q]at z;cases z
     ·have z2:=un.frzs b ob _ z;obtain⟨e1,_⟩:=hok b _ z;obtain⟨e2,_⟩:=Z b _ z2;rw[e]at e1;cases e1;exact e2
 cases hk:K.lookup a with
 |some o=>
  have e:=KX a o hk;rw[ha]at e;cases e;refine J (λ_=>vE) (λ_=>.inl rfl) (.inr ⟨_,vs.toArray,_,hk,rfl,rfl,rfl,by rw[zY,M];exact hl,by simpa using rv⟩) (λb u z=>by have N:(vE:Option HO)=vD u:=z;cases N) (λb z=>absurd rfl z) λz=>absurd rfl z
 | none=>
  refine J (λb=>if b=a then vD (.frz {cls:=.type "list",data:=.seq vs.toArray} (.lst (ns.map V.int)))else vE) (λb=>?_) (.inl (.inr ⟨{cls:=.type "list",data:=.seq vs.toArray},if_pos rfl⟩)) (λb u z=>?_) (λb z=>?_) λ_=>hk
  ·by_cases y:b=a
   ·exact .inr ⟨_,_,if_pos y⟩
   ·exact .inl (if_neg y)
  ·by_cases y:b=a
   ·have N:=(if_pos y).symm.trans z;cases N;subst y;exact⟨ha,by rw[qY];exact hl,vs,_,rv,ha⟩
   ·have N:=(if_neg y).symm.trans z;cases N
  ·by_cases y:b=a
   ·exact y
   ·exact absurd (if_neg y) z
theorem ZT6{l:PySem.W.OpenLaw}{n k:Nat}{q:x0}{loose:List Str}{XP:(Str->Option xD)->Heap->Prop}{YP:xE->Heap->Prop}{d:DefRec}{K:xE->PySem.W.Frag}{CX:xE->CXT}{sp:xE->Sp}{x:Str}
  (hn:l.most=vD n) (N:n<=sizeLine) (hdf:d.params.defaults=[]) (hr:Room k callerA)
  (hY:∀(w:xE)(h:Heap),YP w h->(K w).In h)
  (F:∀(w:xE)(z:Str->Option xD)(J:xz)(h:Heap),(K w).In h->h.Ns vQ z->z d.name=vD (.ref J)->
   ∃L:xk,(∀(s:xB)(u:xD),BindsTo s L ⟨[u],[]⟩ [(x,u)])/\
    ∀i:Heap,(K w).In i->i.Ns vQ z->FnOk l.prog w (K w) z i (CX w) k J L [x] (sp w))
  (S:∀(w:xE)(H:Hp)(a:xz)(ns:List Int),ns.length<=n->Only H->SqL (K w) H a (ns.map V.int)->sp w [.ref a] H (λv _=>v=.bl vF) λ_ _ _=>False)
  (M:∀(w:xE)(H:Hp)(s:xB)(e:xD)(s':xB),CX w [] H s (λ_ _ _=>False) e s'->False):
  PySem.W.WalkO q loose XP YP l.row.toRowW d [] (λf vs=>PySem.call f vs):=by
 refine Att.ZRP hn hdf λw U I z mb J o pm cd doc a vs ns G Y ho hd hcd O B y j hg=>?_
 have Z:=hY w _ Y;obtain⟨L,hb,hF⟩:=F w z J _ Z G.T.g O;exact ZLI Z G.T.g G.T.b G.T.builtins G.T.nolimit hg B y (zA j N) hr hF hb (λH hO hS=>S w H a ns j hO hS) λH e s'=>M w H I e s'
noncomputable abbrev CX0:CXT:=λ_ _ _ _ _ _=>False
noncomputable abbrev E0:XK:=λ_ _ _=>False
theorem pass0:Passes CX0 X E0:=λ_ _ _ _ _ _ _ h=>h.elim
structure Fun (K:PySem.W.Frag) (x qual:Str) (st:xC) (f:xz) (fd:xk):Prop where
 ex:∃(oc:xD)(od:Option xz)(kV doc pm:xD)(an:Option xz)(cdv ct:xD)(osl:Array (Option xD)),
  fd=PySem.W.fnOf x qual (Hf st) (Fb st) (Aj st) .none kV doc pm an cdv ct/\K.lookup f=vD ⟨oc,od,.func fd,osl⟩/\PySem.W.codeIn K cdv qual=vF
 kp:PySem.W.keepIn K (.ref f)=vF
section
variable{P:x0}{w:xE}{K:PySem.W.Frag}{mg:Str->Option xD}{base:Heap}
theorem Fun.ok{x qual:Str}{st:xC}{f:xz}{y:xk}{N ps:List Str}{k:Nat}{sp:Sp}(F:Fun K x qual st f y)(S:FnScope N ps (Aj st))(len:∀vs H Q E,sp vs H Q E->vs.length=ps.length)
  (i:∀(d:xD)(A:xj)(outer:List Env)(s:xB)(H:Hp)(vs:List V)(Q:VK)(E:XK),Room k (A.deeper (envOfC qual (Aj st) s.heap.objs.size f d))->sp vs H Q E->
   ∃t,PSs (Lr CX0 P w K mg base N qual (Aj st) f d A outer s H E).nox (Fb st) t/\t {nx:=λ_ H'=>Q .non H',rt:=Q} (start N vs) H):FnOk P w K mg base CX0 (k+1) f y ps sp:=by
 obtain⟨M,L,kV,J,pm,O,d,U,z,rfl,B,n⟩:=F.ex;refine ZQM B n S len λA outer s H vs Q E I j=>?_
 obtain⟨t,h,q⟩:=i d A outer s H vs Q E I j;exact⟨t,h.nox,q⟩
theorem Fun.binds{x qual:Str}{st:xC}{f:xz}{q:xk}{ps:List Str}(F:Fun K x qual st f q)
  (h:∀(kV i pm:xD)(j:Option xz)(d n:xD)(us:List xD),us.length=ps.length->bindArgs (PySem.W.fnOf x qual (Hf st) (Fb st) (Aj st) .none kV i pm j d n) ⟨us,[]⟩=pure (ps.zip us)):Binds K q ps []:=by
 obtain⟨I,B,kV,i,pm,j,d,n,y,rfl,J,z⟩:=F.ex;exact .all (h kV i pm j d n)
end
section
variable{X:Cx}
end
section
variable{κ:Type}[DecidableEq κ]
noncomputable def Fg(kvs:List (κ×V))(k:κ):Option V:=(kvs.find? λkv=>decide (kv.1=k)).map (·.2)
noncomputable def putK(kvs:List (κ×V))(k:κ)(v:V):List (κ×V):=
 if(kvs.any λkv=>decide (kv.1=k))=vF then kvs.map (λkv=>if kv.1=k then(kv.1,v)else kv)else kvs++[(k,v)]
theorem ZDF{p:κ×V}{r:List (κ×V)}{k:κ}(e:p.1=k):Fg (p::r) k=vD p.2:=by simp[Fg,qk,e]
theorem ZGC{p:κ×V}{r:List (κ×V)}{k:κ}(e:¬p.1=k):Fg (p::r) k=Fg r k:=by simp[Fg,qk,e]
theorem ZQt(kvs:List (κ×V))(k:κ)(v:V):(putK kvs k v).length<=kvs.length+1:=by
 unfold putK;split
 ·rw[qY];lia
 ·rw[qz,zU,jW];lia
theorem KV.val{kvs:List (κ×V)}{vs:List (κ×xD)}(r:KV kvs vs)(k:κ):RelO (Fg kvs k) (valueAt vs k):=by
 unfold KV at r
 induction r with
 |nil=>exact True.intro
 | @cons p q ps qs h t ih=>
  obtain⟨h1,h2⟩:=h;by_cases e:p.1=k
  ·have e':q.1=k:=h1.symm.trans e;have b:valueAt (q::qs) k=vD q.2:=by simp[valueAt,qk,e']
   rw[ZDF e,b];exact h2
  ·have e':¬q.1=k:=λz=>e (h1.trans z)
   have b:valueAt (q::qs) k=valueAt qs k:=by simp[valueAt,qk,e']
   rw[ZGC e,b];exact ih
theorem KV.any{kvs:List (κ×V)}{vs:List (κ×xD)}(r:KV kvs vs)(k:κ):(kvs.any λkv=>decide (kv.1=k))=vs.any λkv=>decide (kv.1=k):=by
 unfold KV at r
 induction r with
 |nil=>rfl
 |cons h t ih=>rw[jF,jF,ih,h.1]
theorem KV.repl{kvs:List (κ×V)}{vs:List (κ×xD)}(r:KV kvs vs)(k:κ){y:V}{u:xD}(ry:RelV y u):
  KV (kvs.map λkv=>if kv.1=k then(kv.1,y)else kv) (vs.map λkv=>if kv.1=k then(kv.1,u)else kv):=by
 unfold KV at r⊢
 induction r with
 |nil=>exact .nil
 |@cons p q ps qs h t ih=>
  rw[zw,zw];refine .cons ?_ ih;obtain⟨h1,h2⟩:=h;by_cases e:p.1=k
  ·rw[if_pos e,if_pos (h1.symm.trans e)];exact⟨h1,ry⟩
  ·rw[if_neg e,if_neg (λz=>e (h1.trans z))];exact⟨h1,h2⟩
theorem KV.put{kvs:List (κ×V)}{vs:List (κ×xD)}(r:KV kvs vs)(k:κ){y:V}{u:xD}(ry:RelV y u):KV (putK kvs k y) (stored vs k u):=by
 unfold putK stored;rw[r.any k];by_cases e:(vs.any λkv=>decide (kv.1=k))=vF
 ·rw[if_pos e,if_pos e];exact r.repl k ry
 ·rw[if_neg e,if_neg e];exact Paired.snoc r ⟨rfl,ry⟩
end
theorem ZAd{w:xE}{k:Key}{u:xD}(r:RelV (kV k) u):(Gg P w).is k u=vF:=by
 cases k with
 |inl i=>obtain⟨t,e⟩:=(show∃t,u=Value.int i t from r);subst e;exact ZSf P w i t
 |inr x=>obtain⟨t,e⟩:=(show∃t,u=Value.str x t from r);subst e;exact ZQ2 P w x t
theorem ZCz{w:xE}:∀{ks:List Key}{us:List xD},Vals (ks.map kV) us->ItemsAre (Gg P w) ks us
 |[],_,r=>by rw[jM]at r;cases r;exact .nil
 |k::ks,_,r=>by
  rw[zw]at r;cases r with
  |cons h t=>exact .cons (ZAd h) (ZCz t)
abbrev KT(H:Hp):List (List Key×V)->List (List Key×xz×xD)->Prop:=Paired λp q=>p.1=q.1/\H q.2.1=vD (.tup (p.1.map kV))/\RelV p.2 q.2.2
theorem KT.val{H:Hp}{kvs:List (List Key×V)}{xs:List (List Key×xz×xD)}(r:KT H kvs xs)(k:List Key):RelO (Fg kvs k) ((atKey xs k).map (·.2)):=by
 induction r with
 |nil=>exact True.intro
 | @cons p q ps qs h t ih=>
  obtain⟨h1,_,h2⟩:=h;by_cases e:p.1=k
  ·have e':q.1=k:=h1.symm.trans e;have b:atKey (q::qs) k=vD q.2:=by simp[atKey,qk,e']
   rw[ZDF e,b];exact h2
  ·have e':¬q.1=k:=λz=>e (h1.trans z)
   have b:atKey (q::qs) k=atKey qs k:=by simp[atKey,qk,e']
   rw[ZGC e,b];exact ih
section
variable{P:x0}{w:xE}{H:Hp}{h:Heap}{a:xz}
theorem ZGP{u:HO}(ok:HOk P w H h)(e:Rd H a u):ObjOk P w H h a u:=e.ok ok
theorem ZCN(ok:HOk P w H h)(e:Rd H a (.dK kvs)):kvs.length<=sizeLine/\(a==sysModules)=vG/\∃vs,KV kvs vs/\h.DictOf (Gg P w) a vs:=
 show ObjOk P w H h a (.dK kvs)from ZGP ok e
theorem ZTS(ok:HOk P w H h)(e:H a=vD (.dK kvs)):kvs.length<=sizeLine/\(a==sysModules)=vG/\∃vs,KV kvs vs/\h.DictOf (Gg P w) a vs:=ZCN ok (.inl e)
theorem ZE7{ks:List Key}(ok:HOk P w H h)(e:H a=vD (.tup (ks.map kV))):(tupleKind (Gg P w)).is h ks a:=by
 obtain⟨_,its,r,o,h1,h2,n,h3⟩:=(show ObjOk P w H h a (.tup (ks.map kV))from ok a _ e)
 exact⟨o,its.toArray,n,h1,h2,h3,by simpa using ZCz r⟩
theorem ZIa{kvs:List (List Key×V)}(ok:HOk P w H h)(e:Rd H a (.dT kvs)):kvs.length<=sizeLine/\(a==sysModules)=vG/\
  ∃xs,KT H kvs xs/\h.DictOfH (tupleKind (Gg P w)) a xs:=by
 obtain⟨z,y,xs,r,o,es,ep,h1,h2,h3,h4,h5⟩:=(show ObjOk P w H h a (.dT kvs)from ZGP ok e)
 refine⟨z,y,xs,r,o,es,ep,h1,h2,h3,h4,λx hx=>?_,h5⟩;have all:∀{l:List (List Key×V)}{m:List (List Key×xz×xD)},KT H l m->∀x∈m,(tupleKind (Gg P w)).is h x.1 x.2.1:=by
  intro l m q
  induction q with
  |nil=>intro x hx;exact nomatch hx
  |@cons p q ps qs hq t ih=>
   intro x hx;rcases zq.mp hx with e|hx
   ·subst e;exact ZE7 ok (by rw[<-hq.1];exact hq.2.1)
   ·exact ih x hx
 exact all r x hx
end
def DGet(H:Hp)(a:xz)(y:V)(r:Option V):Prop:=
 (∃kvs k,Rd H a (.dK kvs)/\y=kV k/\r=Fg kvs k)∨∃kvs k b,Rd H a (.dT kvs)/\y=.ref b/\H b=vD (.tup (k.map kV))/\r=Fg kvs k
theorem DGet.k{H:Hp}{a:xz}{k:Key}(e:H a=vD (.dK kvs)):DGet H a (kV k) (Fg kvs k):=.inl ⟨kvs,k,.inl e,rfl,rfl⟩
section
variable{X:Cx}{vC:List (xz×Obj)}{σ:St}{H:Hp}{s:xB}{a:xz}{y v:V}{u r:xD}{o:Option V}{A:xj}{E:xD->xB->Prop}
theorem Inv.big(I:Inv X vC σ H s):sysModules<s.heap.objs.size:=by have h:vQ<s.heap.objs.size:=(I.mod.glob.keeps I.bk).lt;exact Nat.lt_trans (by decide) h
theorem ZOj{Q:xD->xB->Prop}(hu:A.units+1<cLine)(I:Inv X vC σ H s)(g:DGet H a y (vD v))(ry:RelV y u)(h:∀w' s',Inv X vC σ H s'->RelV v w'->Q w' s'):
  vY (vZ X.prog X.w) A (getItem (.ref a) u) Q E s:=by
 rcases g with⟨kvs,k,e,ey,l⟩|⟨kvs,k,b,e,ey,eb,l⟩
 ·subst ey;obtain⟨z,hd,vs,rel,dd⟩:=ZCN I.hok e;obtain⟨w',hw,rw'⟩:=RelO.some_of (v:=v) (o:=valueAt vs k) (by rw[l];exact rel.val k);exact wpAny_getItem_of (ZAd ry) dd.mapOf hw (h w' _ (I.tok _) rw')
 ·subst ey
  cases(show u=Value.ref b from ry)
  obtain⟨z,hd,xs,rel,dd⟩:=ZIa I.hok e
  obtain⟨w',hw,rw'⟩:=RelO.some_of (v:=v) (o:=(atKey xs k).map (·.2)) (by rw[l];exact rel.val k)
  obtain⟨p,hp,hp2⟩:=zO.mp hw;refine wpAny_getItem_heap (tupleKind_room_in1 hu) (ZE7 I.hok eb) dd hp ?_;rw[hp2];exact h w' _ (I.tok _) rw'
theorem ZKv{h':Heap}{t':Nat}{ob:HO}(I:Inv X vC σ H s)(mu:Mut (H a))(hs:qB a s.heap h')(he:∃q,h'.get? a=vD q)(new:ObjOk X.prog X.w (upd H a ob) h' a ob):
  Inv X vC σ (upd H a ob) {s with heap:=h',toks:=t'}:=
 I.write (x:=a) (e:=a) mu (.inl rfl) (λb q hb z=>(hs.2 b hb).trans z) he new
theorem ZTf{w:xE}{H':Hp}{h':Heap}{vs:List (Key×xD)}(z:kvs.length<=sizeLine)(hd:(a==sysModules)=vG)(rel:KV kvs vs)(dd:h'.DictOf (Gg P w) a vs):
  ObjOk P w H' h' a (.dK kvs):=⟨z,hd,vs,rel,dd⟩
end
section
variable{X:Cx}{vC:List (xz×Obj)}{σ:St}{H:Hp}{s:xB}{a:xz}{kvs:List (Key×V)}{k:Key}{u:xD}{A:xj}{E:xD->xB->Prop}
end
theorem ZMC{X:Cx}{vC:List (xz×Obj)}{σ:St}{H:Hp}{s:xB}{a:xz}{y:V}{o:Option V}(I:Inv X vC σ H s)(g:DGet H a y o):s.TypeIs (.ref a) "dict":=by
 rcases g with⟨kvs,k,e,_,_⟩|⟨kvs,k,b,e,_,_,_⟩
 ·obtain⟨_,_,vs,_,dd⟩:=ZCN I.hok e;exact dd.typeIs
 ·obtain⟨_,_,xs,_,dd⟩:=ZIa I.hok e;exact dd.typeIs
section
variable{X:Cx}{o i e value:xw}{pos pos' tpos:Pos}{td ty tv:TE}
end
theorem ZNb{w:xE}{H:Hp}(h:Heap)(hb:sysModules<h.objs.size):ObjOk P w H (h.push {cls:=.type "dict",data:=.dict #[]}) h.objs.size (.dK []):=
 ⟨jH _,beq_eq_false_iff_ne.mpr (Ne.symm (zE hb)),[],.nil,Heap.DictOf.new h⟩
section
variable{X:Cx}{pos:Pos}
end
def Uk:List (TE×TE)->St->Hp->(List (V×V)->Hp->Prop)->Prop
 |[],_,H,Q=>Q [] H
 |(tk,tv)::r,σ,H,Q=>tk σ H λx H1=>tv σ H1 λy H2=>Uk r σ H2 λps H3=>Q ((x,y)::ps) H3
abbrev VV:List (V×V)->List (xD×xD)->Prop:=Paired λp q=>RelV p.1 q.1/\RelV p.2 q.2
def PPs(X:Cx)(pos:Pos)(keys:List (Option xw))(values:List xw)(trs:List (TE×TE)):Prop:=
 ∀(vC:List (xz×Obj))(s:xB)(σ:St)(H:Hp)(Q:List (V×V)->Hp->Prop),Inv X vC σ H s->Uk trs σ H Q->
  vY (vZ X.prog X.w) X.A (evalPairs (pairTrees keys values X.env pos)) (λvs s'=>∃ps H',Inv X vC σ H' s'/\VV ps vs/\Q ps H') X.xe s
theorem ZTo{X:Cx}:PPs X pos [] [] []:=λvC s σ H Q I h=>pairTrees_nil_walk ⟨[],H,I,.nil,h⟩
theorem ZSy{X:Cx}{k v:xw}{ks:List (Option xw)}{vs:List xw}{tk tv:TE}{trs:List (TE×TE)}(hk:PE X k tk)(hv:PE X v tv)(hr:PPs X pos ks vs trs):
  PPs X pos (vD k::ks) (v::vs) ((tk,tv)::trs):=λvC s σ H Q I h=>
 pairTrees_cons_walk (thn (hk vC s σ H _ I h) λu s1 ⟨x,H1,I1,rx,q1⟩=>thn (hv vC s1 σ H1 _ I1 q1) λw2 s2 ⟨y,H2,I2,ry,q2⟩=>
  thn (hr vC s2 σ H2 _ I2 q2) λws s3 ⟨ps,H3,I3,rel,q3⟩=>⟨(x,y)::ps,H3,I3,.cons ⟨rx,ry⟩ rel,q3⟩)
def Kq(kvs more:List (Key×V)):List (Key×V):=more.foldl (λacc kv=>putK acc kv.1 kv.2) kvs
theorem KV.merge:∀{more:List (Key×V)}{rs:List (Key×xD)}{kvs:List (Key×V)}{vs:List (Key×xD)},KV more rs->KV kvs vs->KV (Kq kvs more) (merged vs rs):=by
 intro more rs kvs vs r;unfold KV at r
 induction r generalizing kvs vs with
 |nil=>intro q;exact q
 |@cons p q ps qs h t ih=>
  intro r0;have e:KV (putK kvs p.1 p.2) (stored vs q.1 q.2):=by have:=r0.put p.1 h.2;rw[<-h.1];exact this
  exact ih e
theorem ZFf:∀(more kvs:List (Key×V)),(Kq kvs more).length<=kvs.length+more.length
 |[],kvs=>by show kvs.length<=kvs.length+0;lia
 |p::r,kvs=>by have h1:=ZFf r (putK kvs p.1 p.2);have h2:=ZQt kvs p.1 p.2;show(Kq (putK kvs p.1 p.2) r).length<=_;rw[zU];lia
theorem ZC9{P:x0}{w:xE}:∀{kvs:List (Key×V)}{ws:List (xD×xD)},VV (kvs.map λkv=>(kV kv.1,kv.2)) ws->∃rs,Carries (Gg P w) ws rs/\KV kvs rs
 |[],_,r=>by rw[jM]at r;cases r;exact⟨[],True.intro,.nil⟩
 | p::kvs,_,r=>by
  rw[zw]at r;cases r with
  |@cons a b as bs h t=>
   obtain⟨rs,c,q⟩:=ZC9 (P:=P) (w:=w) t;obtain⟨b1,b2⟩:=b;exact⟨(p.1,b2)::rs,⟨ZAd h.1,rfl,c⟩,.cons ⟨rfl,h.2⟩ q⟩
def ZRc(trs:List (TE×TE)):TE:=λσ H Q=>∀p,H p=vE->Uk trs σ (upd H p (.dK [])) λps H2=>H2 p=vD (.dK [])/\∃kvs:List (Key×V),ps=kvs.map (λkv=>(kV kv.1,kv.2))/\kvs.length<=15/\Q (.ref p) (upd H2 p (.dK (Kq [] kvs)))
theorem ZQJ{X:Cx}{keys:List (Option xw)}{values:List xw}{trs:List (TE×TE)}(h:PPs X pos keys values trs)(hall:keys.all (·.isSome)=vF)(hl:keys.length=values.length)(h0:keys≠[])
  (h15:keys.length<=15):PE X (.Dict keys values pos) (ZRc trs):=by
 intro vC s σ H Q I q;have hn:=I.hok.fresh (zK s.heap.objs.size);have I1:=I.laid (a:=s.heap.objs.size) (o:=.dK []) (h':=s.heap.push {cls:=.type "dict",data:=.dict #[]}) (t':=s.toks) (λ_ _ q=>zJ _ q) (zK _) (ZNb s.heap I.big);refine wpAny_Dict_walk (knd:=Gg X.prog X.w) hall hl h0 h15 (thn (h vC _ σ _ _ I1 (q _ hn)) λws s2 ⟨ps,H2,I2,rel,e,kvs,ep,lk,q2⟩=>?_)
 subst ep;obtain⟨rs,c,rk⟩:=ZC9 (P:=X.prog) (w:=X.w) rel;obtain⟨z,hd,vs0,r0,dd⟩:=ZTS I2.hok e;cases r0;refine⟨rs,c,dd,λh' dd' hs=>⟨.ref s.heap.objs.size,_,?_,rfl,q2⟩⟩;have hz:(Kq [] kvs).length<=sizeLine:=by have h1:=ZFf kvs [];rw[jW]at h1;rw[vX];lia
 have he:∃q,h'.get? s.heap.objs.size=vD q:=let⟨q,_,_,hq,_⟩:=dd';⟨q,hq⟩;exact ZKv I2 (by rw[e];exact True.intro) hs he (ZTf hz hd (rk.merge .nil) dd')
section
variable{X:Cx}{vC:List (xz×Obj)}{σ:St}{H:Hp}{s:xB}{a:xz}{y d:V}{u r:xD}{o:Option V}{A:xj}{E:xD->xB->Prop}
end
section
variable{X:Cx}{o e f:xw}{apos cpos:Pos}{td ty tx:TE}
end
section
variable{X:Cx}{vC:List (xz×Obj)}{σ:St}{H:Hp}{s:xB}{a:xz}{kvs:List (Key×V)}{A:xj}{E:xD->xB->Prop}
end
section
variable{X:Cx}{vC:List (xz×Obj)}{σ:St}{H:Hp}{s:xB}{a:xz}{y:V}{u:xD}{A:xj}{E:xD->xB->Prop}
end
section
variable{X:Cx}
end
end _L
namespace _L
section
variable{κ:Type}[DecidableEq κ]
end
end _L
namespace _D
open PySem PySem.Spec _L
open PyProof.Rows hiding St
variable{hi:Option Int}
inductive D where
 |non|bl (b:Bool)|int (i:Int)|str (x:Str)|ty (n:String)
 |tup (xs:List D)
 |fl (xs:List D)
 |ref (i:Nat)
inductive DO where
 |lst (xs:List D)
 |dct (kvs:List (Key×D))
 |ins (c:Str) (fs:List (Str×D))
 |tab (c m:Str)
 |exc (c:Str) (fs:List (Str×D))
 |gone
noncomputable abbrev DH:=List DO
noncomputable abbrev DSt:=List (Option D)
structure Xn where
 cls:Str
 fs:List (Str×D)
inductive R (α:Type) where
 |ok (a:α) (G:DH)
 |err (x:Xn) (G:DH)
 |bad
abbrev Fx{α:Type}(_:α):Type:=Unit
noncomputable def R.bind{α β:Type}(f:α->DH->R β)(_:Fx f:=())(r:R α):R β:=match r with
 |.ok a G=>f a G
 |.err x G=>.err x G
 |.bad=>.bad
@[simp]theorem R.Hu{b c:Type}(a:b)(G:DH)(f:b->DH->R c):(R.ok a G).bind f=f a G:=id rfl
inductive SR where
 |nx (S:DSt) (G:DH)
 |rt (d:D) (G:DH)
 |bk (S:DSt) (G:DH)
 |ct (S:DSt) (G:DH)
 |err (x:Xn) (G:DH)
 |bad
noncomputable abbrev DE:=DSt->DH->R D
noncomputable abbrev DB:=DSt->DH->R Bool
noncomputable abbrev DA:=DSt->DH->R (List D)
noncomputable abbrev DS:=DSt->DH->SR
def FzL(K:PySem.W.Frag)(H:Hp)(a:xz)(xs:List V):Prop:=
 (∃o,H a=vD (.frz o (.lst xs)))∨
  ∃(o:Obj)(its:Array xD)(n:Nat),K.lookup a=vD o/\o.cls=.type "list"/\o.dict=vE/\o.data=.seq its n/\its.size<=sizeLine/\Vals xs its.toList
theorem FzL.sq{K:PySem.W.Frag}{H:Hp}{a:xz}{xs:List V}(h:FzL K H a xs):SqL K H a xs:=by
 rcases h with⟨o,h⟩|h
 ·exact .inl (.inr ⟨o,h⟩)
 ·exact .inr h
structure Wd where
 K:PySem.W.Frag
 n:Nat
 m:Nat->xz
 H:Hp
mutual
def Rep(a:Wd):D->V->Prop
 |.non,v=>v=.non
 |.bl b,v=>v=.bl b
 |.int i,v=>v=.int i
 |.str x,v=>v=.str x
 |.ty n,v=>v=.ty n
 |.tup ds,v=>∃p vs,v=.ref p/\SqT a.K a.H p vs/\Reps a ds vs
 |.fl ds,v=>∃p vs,v=.ref p/\FzL a.K a.H p vs/\Reps a ds vs
 |.ref i,v=>i<a.n/\v=.ref (a.m i)
def Reps(a:Wd):List D->List V->Prop
 |[],vs=>vs=[]
 |d::ds,vs=>∃v r,vs=v::r/\Rep a d v/\Reps a ds r
end
noncomputable def lamQ:Str:="Sending.send_by.<locals>.<lambda>"
def TabOk(H:Hp)(P:xz):Prop:=
 ∃ps:Array xD,H P=vD (.tbl ps)/\TriplesOk ps.toList/\∀pos cv,codeAmong pos ps.toList=vD cv->∃(c:xz)(oc:Obj)(vs:Array xD)(t:Tok),cv=.ref c/\H c=vD (.frz oc (.own 0))/\oc.data=.fields vs/\vs[1]?=vD (.str lamQ t)
theorem TabOk.mono(h:TabOk H P)(i:∀p ps,H p=vD (.tbl ps)->H' p=vD (.tbl ps))(d:∀p o u,H p=vD (.frz o u)->H' p=vD (.frz o u)):TabOk H' P:=by obtain⟨ps,e,t,k⟩:=h;refine⟨ps,i _ _ e,t,λa g b=>?_⟩;obtain⟨c,f,m,n,r,l,q,j⟩:=k a g b;exact⟨c,f,m,n,r,d _ _ _ l,q,j⟩
def TabAt(K:PySem.W.Frag)(C m:Str)(c P:xz):Prop:=
 ∃(Ca f:xz)(oc:xD)(od:Option xz)(fd:xk)(sl:Array (Option xD)),PySem.W.nsIn K vQ C=vD (vD (.ref Ca))/\PySem.W.findIn K (.ref Ca) m=vD (vD (.ref f))/\K.lookup f=vD ⟨oc,od,.func fd,sl⟩/\fd.code=.ref c/\PySem.W.codeHdIn K c P=vF
structure Ext (a b:Wd):Prop where
 k:b.K=a.K
 n:a.n<=b.n
 m:∀i,i<a.n->b.m i=a.m i
 tup:∀p xs,a.H p=vD (.tup xs)->b.H p=vD (.tup xs)
 frz:∀p o u,a.H p=vD (.frz o u)->b.H p=vD (.frz o u)
 tab:∀p,TabOk a.H p->TabOk b.H p
theorem Ext.refl(a:Wd):Ext a a:=⟨rfl,zK _,λ_ _=>rfl,λ_ _ h=>h,λ_ _ _ h=>h,λ_ h=>h⟩
theorem Ext.trans(x:Ext a b)(y:Ext b c):Ext a c:=
 ⟨y.k.trans x.k,zA x.n y.n,λi h=>(y.m i (zz h x.n)).trans (x.m i h),λp d h=>y.tup p d (x.tup p d h),λp o u h=>y.frz p o u (x.frz p o u h),λp h=>y.tab p (x.tab p h)⟩
theorem Ext.sqT(x:Ext a b)(h:SqT a.K a.H p xs):SqT b.K b.H p xs:=by
 rcases h with(h|⟨o,h⟩)|h
 ·exact .inl (.inl (x.tup _ _ h))
 ·exact .inl (.inr ⟨o,x.frz _ _ _ h⟩)
 ·exact .inr (by rw[x.k];exact h)
theorem Ext.fzL(x:Ext a b)(h:FzL a.K a.H p xs):FzL b.K b.H p xs:=by
 rcases h with⟨o,h⟩|h
 ·exact .inl ⟨o,x.frz _ _ _ h⟩
 ·exact .inr (by rw[x.k];exact h)
mutual
theorem Rep.mono(x:Ext a b):∀{d:D}{v:V},Rep a d v->Rep b d v
 |.non,_,h=>h
 |.bl _,_,h=>h
 |.int _,_,h=>h
 |.str _,_,h=>h
 |.ty _,_,h=>h
 |.tup f,v,h=>by obtain⟨p,c,e,q,r⟩:=h;exact⟨p,c,e,x.sqT q,Reps.mono x r⟩
 |.fl f,v,h=>by obtain⟨p,c,e,q,r⟩:=h;exact⟨p,c,e,x.fzL q,Reps.mono x r⟩
 |.ref i,v,h=>by obtain⟨l,e⟩:=h;exact⟨zz l x.n,by rw[x.m i l];exact e⟩
theorem Reps.mono(x:Ext a b):∀{ds:List D}{vs:List V},Reps a ds vs->Reps b ds vs
 |[],_,h=>h
 |d::ds,vs,h=>by obtain⟨v,r,e,c,f⟩:=h;exact⟨v,r,e,Rep.mono x c,Reps.mono x f⟩
end
theorem Reps.length:∀{ds:List D}{vs:List V},Reps a ds vs->ds.length=vs.length
 |[],vs,h=>by cases(show vs=[]from h);rfl
 |d::ds,vs,h=>by obtain⟨v,r,e,c,b⟩:=h;subst e;show ds.length+1=r.length+1;rw[Reps.length b]
theorem Reps.get:∀{ds:List D}{vs:List V}{i:Nat}{d:D},Reps a ds vs->ds[i]?=vD d->∃v,vs[i]?=vD v/\Rep a d v
 |[],vs,_,_,h,e=>by simp at e
 |d::ds,vs,0,c,h,e=>by obtain⟨v,r,b,g,f⟩:=h;subst b;simp at e;subst e;exact⟨v,rfl,g⟩
 |d::ds,vs,i+1,c,h,e=>by obtain⟨v,r,b,g,f⟩:=h;subst b;obtain⟨w,k,j⟩:=Reps.get (i:=i) (d:=c) f (by simpa using e);exact⟨w,by simpa using k,j⟩
theorem Reps.get':∀{ds:List D}{vs:List V}{i:Nat}{v:V},Reps a ds vs->vs[i]?=vD v->∃d,ds[i]?=vD d/\Rep a d v
 |[],vs,_,_,h,e=>by cases(show vs=[]from h);simp at e
 |d::ds,vs,0,c,h,e=>by obtain⟨v,r,b,g,f⟩:=h;subst b;simp at e;subst e;exact⟨d,rfl,g⟩
 |d::ds,vs,i+1,c,h,e=>by obtain⟨v,r,b,g,f⟩:=h;subst b;obtain⟨w,k,j⟩:=Reps.get' (i:=i) (v:=c) f (by simpa using e);exact⟨w,by simpa using k,j⟩
theorem Reps.append:∀{ds es:List D}{vs us:List V},Reps a ds vs->Reps a es us->Reps a (ds++es) (vs++us)
 |[],_,vs,_,h,b=>by cases(show vs=[]from h);exact b
 |d::ds,es,vs,us,h,b=>by obtain⟨v,r,c,e,f⟩:=h;subst c;exact⟨v,r++us,rfl,e,Reps.append f b⟩
theorem Reps.cons(h:Rep a d v)(r:Reps a ds vs):Reps a (d::ds) (v::vs):=⟨v,vs,rfl,h,r⟩
theorem Reps.nil:Reps a [] []:=rfl
theorem Reps.set(h:Rep a d v):∀{ds:List D}{vs:List V}(i:Nat),Reps a ds vs->Reps a (ds.set i d) (vs.set i v)
 |[],vs,_,r=>by cases(show vs=[]from r);exact rfl
 |j::ds,vs,0,r=>by obtain⟨f,c,e,g,b⟩:=r;subst e;exact⟨v,c,rfl,h,b⟩
 |j::ds,vs,i+1,r=>by obtain⟨f,c,e,g,b⟩:=r;subst e;exact⟨f,c.set i v,rfl,g,Reps.set h i b⟩
theorem Reps.take:∀{ds:List D}{vs:List V}(i:Nat),Reps a ds vs->Reps a (ds.take i) (vs.take i)
 |_,_,0,_=>rfl
 |[],vs,_+1,r=>by cases(show vs=[]from r);exact rfl
 |g::ds,vs,i+1,r=>by obtain⟨b,d,f,e,c⟩:=r;subst f;exact⟨b,d.take i,rfl,e,Reps.take i c⟩
theorem Reps.drop:∀{ds:List D}{vs:List V}(i:Nat),Reps a ds vs->Reps a (ds.drop i) (vs.drop i)
 |_,_,0,r=>r
 |[],vs,_+1,r=>by cases(show vs=[]from r);exact rfl
 |d::ds,vs,i+1,r=>by obtain⟨e,f,c,g,b⟩:=r;subst c;exact Reps.drop i b
theorem Reps.ints:∀(ns:List Int),Reps a (ns.map D.int) (ns.map V.int)
 |[]=>rfl
 |n::ns=>⟨.int n,ns.map V.int,rfl,rfl,Reps.ints ns⟩
def RepKV(a:Wd)(kvs:List (Key×D))(us:List (Key×V)):Prop:=kvs.map (·.1)=us.map (·.1)/\Reps a (kvs.map (·.2)) (us.map (·.2))
def RepF(a:Wd)(fs:List (Str×D))(us:List (Str×V)):Prop:=fs.map (·.1)=us.map (·.1)/\Reps a (fs.map (·.2)) (us.map (·.2))
def XD(a:Wd)(od:Option xz)(fs:List (Str×D)):Prop:=(fs=[]/\od=vE)∨∃dx o us,od=vD dx/\a.H dx=vD (.frz o (.xd us))/\RepF a fs us
def ORep(a:Wd):DO->Option HO->Prop
 |.lst ds,o=>∃vs,o=vD (.lst vs)/\Reps a ds vs
 |.dct kvs,o=>∃us,o=vD (.dK us)/\RepKV a kvs us
 |.ins c fs,o=>∃C dx us,PySem.W.nsIn a.K vQ c=vD (vD (.ref C))/\o=vD (.ins C dx us)/\RepF a fs us
 |.tab C m,_=>∃c P,TabAt a.K C m c P/\TabOk a.H P
 |.exc c fs,o=>∃C oe u vs,PySem.W.nsIn a.K vQ c=vD (vD (.ref C))/\o=vD (.frz oe u)/\oe.cls=.ref C/\oe.data=.fields vs/\XD a oe.dict fs
 |.gone,_=>True
structure Sim (a:Wd) (G:DH):Prop where
 len:G.length=a.n
 inj:∀i j,i<a.n->j<a.n->a.m i=a.m j->i=j
 obj:∀(i:Nat)(o:DO),G[i]?=vD o->ORep a o (a.H (a.m i))
 tr:∀i,i<a.n->a.H (a.m i)≠vE
structure RepS (a:Wd) (S:DSt) (σ:St):Prop where
 len:S.length=σ.length
 get:∀(i:Nat)(d:D),S[i]?=vD (vD d)->∃v,σ[i]?=vD (vD v)/\Rep a d v
theorem RepS.mono(x:Ext a b)(r:RepS a S σ):RepS b S σ:=⟨r.len,λi d h=>let⟨v,e,q⟩:=r.get i d h;⟨v,e,q.mono x⟩⟩
theorem RepS.set(r:RepS a S σ)(i:Nat)(h:Rep a d v):RepS a (S.set i (vD d)) (σ.set i (vD v)):=by
 refine⟨by simpa using r.len,λj e b=>?_⟩;rw[jK]at b⊢;by_cases c:i=j
 ·subst c;rw[if_pos rfl]at b⊢;by_cases f:i<S.length
  ·rw[if_pos f]at b;have g:d=e:=by simpa using b
   subst g;rw[if_pos (by rw[<-r.len];exact f)];exact⟨v,rfl,h⟩
  ·rw[if_neg f]at b;cases b
 ·rw[if_neg c]at b⊢;exact r.get j e b
def XOk(E:XK)(a:Wd)(x:Xn)(G:DH):Prop:=E≠E0/\∀(b:Wd)(C:xz)(od:Option xz),Ext a b->Sim b G->PySem.W.nsIn b.K vQ x.cls=vD (vD (.ref C))->XD b od x.fs->E (.ref C) od b.H
def out(E:XK)(a:Wd)(r:R D)(Q:VK):Prop:=match r with
 |.ok d G=>∀(b:Wd)(v:V),Ext a b->Sim b G->Rep b d v->Q v b.H
 |.err x G=>XOk E a x G
 |.bad=>False
def Fd(E:XK)(a:Wd)(r:R Bool)(Q:Bool->Hp->Prop):Prop:=match r with
 |.ok k G=>∀(b:Wd),Ext a b->Sim b G->Q k b.H
 |.err x G=>XOk E a x G
 |.bad=>False
def Ey(E:XK)(a:Wd)(r:R (List D))(Q:List V->Hp->Prop):Prop:=match r with
 |.ok ds G=>∀(b:Wd)(vs:List V),Ext a b->Sim b G->Reps b ds vs->Q vs b.H
 |.err x G=>XOk E a x G
 |.bad=>False
def Bv(E:XK)(a:Wd)(r:SR)(W:Ends):Prop:=match r with
 |.nx S G=>∀(b:Wd)(σ:St),Ext a b->Sim b G->RepS b S σ->W.nx σ b.H
 |.bk S G=>∀(b:Wd)(σ:St),Ext a b->Sim b G->RepS b S σ->W.bk σ b.H
 |.ct S G=>∀(b:Wd)(σ:St),Ext a b->Sim b G->RepS b S σ->W.ct σ b.H
 |.rt d G=>∀(b:Wd)(v:V),Ext a b->Sim b G->Rep b d v->W.rt v b.H
 |.err x G=>XOk E a x G
 |.bad=>False
theorem XOk.mono(x:Ext a b)(h:XOk E a e G):XOk E b e G:=⟨h.1,λc C d y s n q=>h.2 c C d (x.trans y) s n q⟩
theorem out.mono(x:Ext a b)(h:out E a r Q):out E b r Q:=by
 cases r with
 |ok d G=>exact λc v y s q=>h c v (x.trans y) s q
 |err e G=>exact XOk.mono (E:=E) (e:=e) (G:=G) x h
 |bad=>exact h
theorem Fd.mono(x:Ext a b)(h:Fd E a r Q):Fd E b r Q:=by
 cases r with
 |ok d G=>exact λc y s=>h c (x.trans y) s
 |err e G=>exact XOk.mono (E:=E) (e:=e) (G:=G) x h
 |bad=>exact h
theorem Ey.mono(x:Ext a b)(h:Ey E a r Q):Ey E b r Q:=by
 cases r with
 |ok d G=>exact λc f y s q=>h c f (x.trans y) s q
 |err e G=>exact XOk.mono (E:=E) (e:=e) (G:=G) x h
 |bad=>exact h
theorem Bv.mono(x:Ext a b)(h:Bv E a r W):Bv E b r W:=by
 cases r with
 |nx d G=>exact λc f y s q=>h c f (x.trans y) s q
 |bk d G=>exact λc f y s q=>h c f (x.trans y) s q
 |ct d G=>exact λc f y s q=>h c f (x.trans y) s q
 |rt d G=>exact λc f y s q=>h c f (x.trans y) s q
 |err e G=>exact XOk.mono (E:=E) (e:=e) (G:=G) x h
 |bad=>exact h
def lE(K:PySem.W.Frag)(E:XK)(t:DE):TE:=λσ H Q=>∃(a:Wd)(S:DSt)(G:DH),a.K=K/\a.H=H/\Sim a G/\RepS a S σ/\out E a (t S G) Q
def lB(K:PySem.W.Frag)(E:XK)(t:DB):TT:=λσ H Q=>∃(a:Wd)(S:DSt)(G:DH),a.K=K/\a.H=H/\Sim a G/\RepS a S σ/\Fd E a (t S G) Q
def lA(K:PySem.W.Frag)(E:XK)(t:DA):TA:=λσ H Q=>∃(a:Wd)(S:DSt)(G:DH),a.K=K/\a.H=H/\Sim a G/\RepS a S σ/\Ey E a (t S G) Q
def lS(K:PySem.W.Frag)(E:XK)(t:DS):TS:=λW σ H=>∃(a:Wd)(S:DSt)(G:DH),a.K=K/\a.H=H/\Sim a G/\RepS a S σ/\Bv E a (t S G) W
def lR2(K:PySem.W.Frag)(E:XK)(f:D->D->DH->R D):R2:=λx y H Q=>∃(a:Wd)(G:DH)(d e:D),a.K=K/\a.H=H/\Sim a G/\Rep a d x/\Rep a e y/\out E a (f d e G) Q
def lR1(K:PySem.W.Frag)(E:XK)(f:D->DH->R D):V->Hp->VK->Prop:=λx H Q=>∃(a:Wd)(G:DH)(d:D),a.K=K/\a.H=H/\Sim a G/\Rep a d x/\out E a (f d G) Q
def lRn(K:PySem.W.Frag)(E:XK)(f:List D->DH->R D):List V->Hp->VK->Prop:=λxs H Q=>∃(a:Wd)(G:DH)(ds:List D),a.K=K/\a.H=H/\Sim a G/\Reps a ds xs/\out E a (f ds G) Q
def lF(K:PySem.W.Frag)(f:List D->DH->R D):Sp:=λxs H Q _=>∃(a:Wd)(G:DH)(ds:List D),a.K=K/\a.H=H/\Sim a G/\Reps a ds xs/\out E0 a (f ds G) Q
section
variable{X:Cx}{E:XK}
def QE(X:Cx)(E:XK)(e:xw)(t:DE):Prop:=PE X e (lE X.K E t)
def QT(X:Cx)(E:XK)(e:xw)(t:DB):Prop:=PT X e (lB X.K E t)
def QA(X:Cx)(E:XK)(es:List xw)(t:DA):Prop:=PA X es (lA X.K E t)
def QS(X:Cx)(E:XK)(st:xC)(t:DS):Prop:=PS X st (lS X.K E t)
def QSs(X:Cx)(E:XK)(st:List xC)(t:DS):Prop:=PSs X st (lS X.K E t)
theorem _root_._L.PE.mono(h:PE X e t)(w:∀a H Q,t' a H Q->t a H Q):PE X e t':=λb s a H Q I q=>h b s a H Q I (w a H Q q)
theorem _root_._L.PT.mono(h:PT X e t)(w:∀a H Q,t' a H Q->t a H Q):PT X e t':=λb s a H Q I q=>h b s a H Q I (w a H Q q)
theorem _root_._L.PA.mono(h:PA X e t)(w:∀a H Q,t' a H Q->t a H Q):PA X e t':=λc b s a H Q I q=>h c b s a H Q I (w a H Q q)
theorem _root_._L.PS.mono(h:PS X e t)(w:∀W a H,t' W a H->t W a H):PS X e t':=λb s a H W I q=>h b s a H W I (w W a H q)
theorem _root_._L.PSs.mono(h:PSs X e t)(w:∀W a H,t' W a H->t W a H):PSs X e t':=λb s a H W I q=>h b s a H W I (w W a H q)
theorem _root_._L.OpR.mono(h:OpR X f r)(w:∀x y H Q,r' x y H Q->r x y H Q):OpR X f r':=λa s b H x y v u Q I d c q=>h a s b H x y v u Q I d c (w _ _ _ _ q)
end
theorem Em(h:out E a (r.bind f) Q):
  out E a r (λv H=>∃(b:Wd)(d:D)(G:DH),b.H=H/\Ext a b/\Sim b G/\Rep b d v/\r=.ok d G/\out E b (f d G) Q):=by
 cases r with
 |ok d G=>exact λb v x s q=>⟨b,d,G,rfl,x,s,q,rfl,out.mono x h⟩
 |err e G=>exact h
 |bad=>exact h
theorem Ky(h:out E a (r.bind f) Q):
  Ey E a r (λvs H=>∃(b:Wd)(ds:List D)(G:DH),b.H=H/\Ext a b/\Sim b G/\Reps b ds vs/\r=.ok ds G/\out E b (f ds G) Q):=by
 cases r with
 |ok d G=>exact λb v x s q=>⟨b,d,G,rfl,x,s,q,rfl,out.mono x h⟩
 |err e G=>exact h
 |bad=>exact h
theorem ZHG(h:out E a (r.bind f) Q):
  Fd E a r (λk H=>∃(b:Wd)(G:DH),b.H=H/\Ext a b/\Sim b G/\r=.ok k G/\out E b (f k G) Q):=by
 cases r with
 |ok d G=>exact λb x s=>⟨b,G,rfl,x,s,rfl,out.mono x h⟩
 |err e G=>exact h
 |bad=>exact h
theorem ZSt(h:Fd E a (r.bind f) Q):
  out E a r (λv H=>∃(b:Wd)(d:D)(G:DH),b.H=H/\Ext a b/\Sim b G/\Rep b d v/\r=.ok d G/\Fd E b (f d G) Q):=by
 cases r with
 |ok d G=>exact λb v x s q=>⟨b,d,G,rfl,x,s,q,rfl,Fd.mono x h⟩
 |err e G=>exact h
 |bad=>exact h
theorem Z8(h:Fd E a (r.bind f) Q):
  Fd E a r (λk H=>∃(b:Wd)(G:DH),b.H=H/\Ext a b/\Sim b G/\r=.ok k G/\Fd E b (f k G) Q):=by
 cases r with
 |ok d G=>exact λb x s=>⟨b,G,rfl,x,s,rfl,Fd.mono x h⟩
 |err e G=>exact h
 |bad=>exact h
theorem ZMr(h:Ey E a (r.bind f) Q):
  out E a r (λv H=>∃(b:Wd)(d:D)(G:DH),b.H=H/\Ext a b/\Sim b G/\Rep b d v/\r=.ok d G/\Ey E b (f d G) Q):=by
 cases r with
 |ok d G=>exact λb v x s q=>⟨b,d,G,rfl,x,s,q,rfl,Ey.mono x h⟩
 |err e G=>exact h
 |bad=>exact h
theorem ZLu(h:Ey E a (r.bind f) Q):
  Ey E a r (λvs H=>∃(b:Wd)(ds:List D)(G:DH),b.H=H/\Ext a b/\Sim b G/\Reps b ds vs/\r=.ok ds G/\Ey E b (f ds G) Q):=by
 cases r with
 |ok d G=>exact λb v x s q=>⟨b,d,G,rfl,x,s,q,rfl,Ey.mono x h⟩
 |err e G=>exact h
 |bad=>exact h
noncomputable def R.toS{α:Type}(f:α->DH->SR)(_:Fx f:=())(r:R α):SR:=match r with
 |.ok a G=>f a G
 |.err x G=>.err x G
 |.bad=>.bad
@[simp]theorem R.By{b:Type}(a:b)(G:DH)(f:b->DH->SR):(R.ok a G).toS f=f a G:=id rfl
theorem Gw(h:Bv E a (r.toS f) W):
  out E a r (λv H=>∃(b:Wd)(d:D)(G:DH),b.H=H/\Ext a b/\Sim b G/\Rep b d v/\r=.ok d G/\Bv E b (f d G) W):=by
 cases r with
 |ok d G=>exact λb v x s q=>⟨b,d,G,rfl,x,s,q,rfl,Bv.mono x h⟩
 |err e G=>exact h
 |bad=>exact h
theorem ZFQ(h:Bv E a (r.toS f) W):
  Fd E a r (λk H=>∃(b:Wd)(G:DH),b.H=H/\Ext a b/\Sim b G/\r=.ok k G/\Bv E b (f k G) W):=by
 cases r with
 |ok d G=>exact λb x s=>⟨b,G,rfl,x,s,rfl,Bv.mono x h⟩
 |err e G=>exact h
 |bad=>exact h
section
theorem out.imp(h:out E a r Q)(w:∀v H,Q v H->Q' v H):out E a r Q':=by
 cases r with
 |ok d G=>exact λb v x s q=>w _ _ (h b v x s q)
 |err e G=>exact h
 |bad=>exact h
theorem Ey.imp(h:Ey E a r Q)(w:∀v H,Q v H->Q' v H):Ey E a r Q':=by
 cases r with
 |ok d G=>exact λb v x s q=>w _ _ (h b v x s q)
 |err e G=>exact h
 |bad=>exact h
theorem Fd.imp(h:Fd E a r Q)(w:∀v H,Q v H->Q' v H):Fd E a r Q':=by
 cases r with
 |ok d G=>exact λb x s=>w _ _ (h b x s)
 |err e G=>exact h
 |bad=>exact h
def Wd.push(a:Wd)(p:xz)(ho:HO):Wd:=⟨a.K,a.n+1,λk=>if k=a.n then p else a.m k,upd a.H p ho⟩
def Wd.put(a:Wd)(p:xz)(ho:HO):Wd:={a with H:=upd a.H p ho}
theorem Ext.put(h:a.H p=vE):Ext a (a.put p ho):=
 ⟨rfl,zK _,λ_ _=>rfl,λq b e=>by show upd a.H p ho q=_;rw[Al (Gr e h)];exact e,λq o u e=>by show upd a.H p ho q=_;rw[Al (Gr e h)];exact e,λ_ t=>t.mono (λq c e=>by show upd a.H p ho q=_;rw[Al (Gr e h)];exact e) (λq o u e=>by show upd a.H p ho q=_;rw[Al (Gr e h)];exact e)⟩
theorem Ext.push(h:a.H p=vE):Ext a (a.push p ho):=
 ⟨rfl,j9 _,λi b=>by show(if i=a.n then p else a.m i)=a.m i;rw[if_neg (zE b)],λq c e=>by show upd a.H p ho q=_;rw[Al (Gr e h)];exact e,λq o u e=>by show upd a.H p ho q=_;rw[Al (Gr e h)];exact e,λ_ t=>t.mono (λq d e=>by show upd a.H p ho q=_;rw[Al (Gr e h)];exact e) (λq o u e=>by show upd a.H p ho q=_;rw[Al (Gr e h)];exact e)⟩
theorem XD.mono(x:Ext a b)(h:XD a od fs):XD b od fs:=by
 rcases h with h|⟨c,o,d,e,f,k,r⟩
 ·exact .inl h
 ·exact .inr ⟨c,o,d,e,x.frz _ _ _ f,k,r.mono x⟩
theorem ORep.mono(x:Ext a b)(h:ORep a o q):ORep b o q:=by
 cases o with
 |lst s=>obtain⟨f,e,r⟩:=h;exact⟨f,e,r.mono x⟩
 |dct p=>obtain⟨d,e,k,r⟩:=h;exact⟨d,e,k,r.mono x⟩
 |ins c fs=>obtain⟨C,l,d,n,e,k,r⟩:=h;exact⟨C,l,d,by rw[x.k];exact n,e,k,r.mono x⟩
 |tab C m=>obtain⟨c,P,e,t⟩:=h;exact⟨c,P,by rw[x.k];exact e,x.tab _ t⟩
 |exc c fs=>obtain⟨C,j,u,f,n,e,i,g,z⟩:=h;exact⟨C,j,u,f,by rw[x.k];exact n,e,i,g,z.mono x⟩
 |gone=>trivial
theorem Sim.lt(s:Sim a G)(h:G[i]?=vD o):i<a.n:=by rw[<-s.len];exact(zG.mp h).1
theorem Sim.put(s:Sim a G)(h:a.H p=vE):Sim (a.put p ho) G:=by
 refine⟨s.len,s.inj,λi o e=>?_,λi c=>?_⟩
 ·have z:a.H (a.m i)≠vE:=s.tr i (s.lt e);have b:a.m i≠p:=λq=>z (by rw[q];exact h)
  show ORep _ o (upd a.H p ho (a.m i));rw[Al b];exact(s.obj i o e).mono (Ext.put h)
 ·have z:a.H (a.m i)≠vE:=s.tr i c;have b:a.m i≠p:=λq=>z (by rw[q];exact h)
  show upd a.H p ho (a.m i)≠vE;rw[Al b];exact z
theorem Sim.push(s:Sim a G)(h:a.H p=vE)(r:ORep (a.push p ho) o (vD ho)):Sim (a.push p ho) (G++[o]):=by
 have d:∀i,i<a.n->a.m i≠p:=λi f q=>s.tr i f (by rw[q];exact h)
 have b:∀i,i<a.n->(a.push p ho).m i=a.m i:=λi f=>by show(if i=a.n then p else a.m i)=_;rw[if_neg (zE f)]
 have new:(a.push p ho).m a.n=p:=by show(if a.n=a.n then p else a.m a.n)=_;rw[if_pos rfl]
 refine⟨by simp[s.len,Wd.push],λi j f v e=>?_,λi u e=>?_,λi f=>?_⟩
 ·have k:i<a.n+1:=f;have t:j<a.n+1:=v;by_cases c:i<a.n
  ·by_cases g:j<a.n
   ·rw[b i c,b j g]at e;exact s.inj i j c g e
   ·have:j=a.n:=by lia
    subst this;rw[b i c,new]at e;exact absurd e (d i c)
  ·have:i=a.n:=by lia
   subst this;by_cases g:j<a.n
   ·rw[b j g,new]at e;exact absurd e.symm (d j g)
   ·lia
 ·by_cases c:i<a.n
  ·rw[qX (by rw[s.len];exact c)]at e;rw[b i c];show ORep _ u (upd a.H p ho (a.m i));rw[Al (d i c)];exact(s.obj i u e).mono (Ext.push h)
  ·have l:i<(G++[o]).length:=(zG.mp e).1;have:i=a.n:=by rw[qz,s.len]at l;simp at l;lia
   subst this;rw[zL (by rw[s.len];exact zK _),s.len]at e;simp at e;subst e;rw[new];show ORep _ o (upd a.H p ho p);rw[Ej];exact r
 ·have k:i<a.n+1:=f;by_cases c:i<a.n
  ·rw[b i c];show upd a.H p ho (a.m i)≠vE;rw[Al (d i c)];exact s.tr i c
  ·have:i=a.n:=by lia
   subst this;rw[new];show upd a.H p ho p≠vE;rw[Ej];simp
theorem Ext.wr(h:a.H p=vD (.lst vs)):Ext a (a.put p ho):=
 ⟨rfl,zK _,λ_ _=>rfl,λq b e=>by
  show upd a.H p ho q=_;rw[Al (λz=>by subst z;rw[h]at e;cases e)];exact e,λq o u e=>by
  show upd a.H p ho q=_;rw[Al (λz=>by subst z;rw[h]at e;cases e)];exact e,λ_ t=>t.mono (λq c e=>by show upd a.H p ho q=_;rw[Al (λz=>by subst z;rw[h]at e;cases e)];exact e) (λq o u e=>by show upd a.H p ho q=_;rw[Al (λz=>by subst z;rw[h]at e;cases e)];exact e)⟩
theorem Sim.wr(s:Sim a G)(hi:i<a.n)(h:a.H (a.m i)=vD (.lst vs))(r:Reps (a.put (a.m i) (.lst vs')) ds' vs'):Sim (a.put (a.m i) (.lst vs')) (G.set i (.lst ds')):=by
 refine⟨by rw[j8];exact s.len,s.inj,λj o e=>?_,λj c=>?_⟩
 ·rw[jK]at e;show ORep _ o (upd a.H (a.m i) (.lst vs') (a.m j));by_cases b:i=j
  ·subst b;rw[if_pos rfl,if_pos (by rw[s.len];exact hi)]at e;cases e;rw[Ej];exact⟨vs',rfl,r⟩
  ·rw[if_neg b]at e;rw[Al λz=>b (s.inj _ _ (s.lt e) hi z).symm];exact(s.obj j o e).mono (Ext.wr h)
 ·show upd a.H (a.m i) (.lst vs') (a.m j)≠vE;by_cases b:a.m j=a.m i
  ·rw[b,Ej];simp
  ·rw[Al b];exact s.tr j c
mutual
noncomputable def bel(n:Nat):D->Bool
 |.ref i=>decide (i<n)
 |.tup ds=>bels n ds
 |.fl ds=>bels n ds
 |_=>vF
noncomputable def bels(n:Nat):List D->Bool
 |[]=>vF
 |d::ds=>bel n d&&bels n ds
end
def Le(n:Nat):DO->Bool
 |.lst ds=>bels n ds
 |.dct kvs=>bels n (kvs.map (·.2))
 |.ins _ fs=>bels n (fs.map (·.2))
 |.tab _ _=>vF
 |.exc _ fs=>bels n (fs.map (·.2))
 |.gone=>vF
mutual
theorem Rep.bel:∀{d:D}{v:V},Rep a d v->bel a.n d=vF
 |.non,_,_=>by simp[_D.bel]
 |.bl _,_,_=>by simp[_D.bel]
 |.int _,_,_=>by simp[_D.bel]
 |.str _,_,_=>by simp[_D.bel]
 |.ty _,_,_=>by simp[_D.bel]
 |.tup c,v,h=>by obtain⟨p,b,e,q,r⟩:=h;simp only[_D.bel];exact Reps.bels r
 |.fl c,v,h=>by obtain⟨p,b,e,q,r⟩:=h;simp only[_D.bel];exact Reps.bels r
 |.ref i,v,h=>by obtain⟨l,e⟩:=h;simp only[_D.bel];exact decide_eq_true l
theorem Reps.bels:∀{ds:List D}{vs:List V},Reps a ds vs->bels a.n ds=vF
 |[],_,_=>by simp[_D.bels]
 |d::ds,vs,h=>by
  obtain⟨v,r,e,b,c⟩:=h;simp only[_D.bels];rw[Rep.bel b,Reps.bels c]
  rfl
end
structure Cut (b c:Wd):Prop where
 k:c.K=b.K
 h:c.H=b.H
mutual
theorem Rep.cut(x:Cut b c)(f:n<=c.n)(a:∀i,i<n->c.m i=b.m i):∀{d:D}{v:V},Rep b d v->bel n d=vF->Rep c d v
 |.non,_,h,_=>h
 |.bl _,_,h,_=>h
 |.int _,_,h,_=>h
 |.str _,_,h,_=>h
 |.ty _,_,h,_=>h
 |.tup o,v,h,q=>by obtain⟨p,g,e,t,r⟩:=h;simp only[_D.bel]at q;exact⟨p,g,e,by rw[x.k,x.h];exact t,Reps.cut x f a r q⟩
 |.fl o,v,h,q=>by obtain⟨p,g,e,t,r⟩:=h;simp only[_D.bel]at q;exact⟨p,g,e,by rw[x.k,x.h];exact t,Reps.cut x f a r q⟩
 |.ref i,v,h,q=>by obtain⟨l,e⟩:=h;simp only[_D.bel]at q;have j:=of_decide_eq_true q;exact⟨zz j f,by rw[a i j];exact e⟩
theorem Reps.cut(x:Cut b c)(f:n<=c.n)(a:∀i,i<n->c.m i=b.m i):∀{ds:List D}{vs:List V},Reps b ds vs->bels n ds=vF->Reps c ds vs
 |[],_,h,_=>h
 |d::ds,vs,h,q=>by obtain⟨v,r,e,j,g⟩:=h;simp only[_D.bels,zD]at q;exact⟨v,r,e,Rep.cut x f a j q.1,Reps.cut x f a g q.2⟩
end
theorem ORep.cut(x:Cut b c)(g:n<=c.n)(d:∀i,i<n->c.m i=b.m i)(h:ORep b o q)(l:Le n o=vF):ORep c o q:=by
 cases o with
 |lst A=>obtain⟨j,e,r⟩:=h;exact⟨j,e,Reps.cut x g d r l⟩
 |dct y=>obtain⟨a,e,k,r⟩:=h;exact⟨a,e,k,Reps.cut x g d r l⟩
 |ins c fs=>obtain⟨C,p,a,n,e,k,r⟩:=h;exact⟨C,p,a,by rw[x.k];exact n,e,k,Reps.cut x g d r l⟩
 |tab C m=>obtain⟨c,P,e,t⟩:=h;exact⟨c,P,by rw[x.k];exact e,by rw[x.h];exact t⟩
 |exc c fs=>
  obtain⟨C,w,u,j,n,e,v,s,z⟩:=h;refine⟨C,w,u,j,by rw[x.k];exact n,e,v,s,?_⟩;rcases z with z|⟨p,o,a,e,f,k,r⟩
  ·exact .inl z
  ·exact .inr ⟨p,o,a,e,by rw[x.h];exact f,k,Reps.cut x g d r l⟩
 |gone=>trivial
theorem ORep.Le(h:ORep a o q):Le a.n o=vF:=by
 cases o with
 |lst j=>obtain⟨d,e,r⟩:=h;exact r.bels
 |dct i=>obtain⟨b,e,k,r⟩:=h;exact r.bels
 |ins c fs=>obtain⟨C,g,b,n,e,k,r⟩:=h;exact r.bels
 |tab C m=>rfl
 |exc c fs=>
  obtain⟨C,s,u,d,n,e,p,l,z⟩:=h;rcases z with⟨z,_⟩|⟨g,o,b,e,f,k,r⟩
  ·rw[z];rfl
  ·exact r.bels
 |gone=>rfl
open Classical in
def tidy (G:DH) (r:R D):R D:=match r with
 | .ok d G'=>if G'.take G.length=G then
   (if bel G.length d=vF then .ok d G else match d with
    |.ref i=>match G'[i]? with
     |some o=>if Le G.length o=vF then .ok (.ref G.length) (G++[o])else .ok d G'
     |none=>.ok d G'
    |_=>.ok d G')else .ok d G'
 |r=>r
theorem ZFm (s:Sim a G) (h:out E a (tidy G r) Q):out E a r Q:=by
 cases r with
 |err e P=>exact h
 |bad=>exact h
 | ok d P=>
  intro b v x f J;unfold tidy at h;dsimp only at h;split at h
  ·rename_i S;have C:∀i o,G[i]?=vD o->P[i]?=vD o:=λi o e=>by have F:i<G.length:=(zG.mp e).1;rw[<-S,j6 F]at e;exact e
   have w:∀(c:Wd),Cut b c->a.n<=c.n->(∀i,i<a.n->c.m i=b.m i)->∀i o,G[i]?=vD o->ORep c o (c.H (c.m i)):=λc t W O i o e=>by have q:=f.obj i o (C i o e);rw[t.h,O i (s.lt e)];exact q.cut t W O (s.obj i o e).Le
   split at h
   ·rename_i B;rw[s.len]at B;let c:Wd:=⟨b.K,a.n,b.m,b.H⟩;have t:Cut b c:=⟨rfl,rfl⟩;refine h c v ⟨x.k,zK _,x.m,x.tup,x.frz,x.tab⟩ ⟨s.len,λi j F g=>f.inj i j (zz F x.n) (zz g x.n),w c t (zK _) (λ_ _=>rfl),λi F=>f.tr i (zz F x.n)⟩ ?_;exact J.cut t (zK _) (λ_ _=>rfl) B
   ·rename_i B;split at h
    ·rename_i i;obtain⟨I,M⟩:=J;split at h
     ·rename_i o T;split at h
      ·rename_i z;rw[s.len]at z B h;simp only[_D.bel,decide_eq_true_eq]at B;let c:Wd:=⟨b.K,a.n+1,λk=>if k=a.n then b.m i else b.m k,b.H⟩;have t:Cut b c:=⟨rfl,rfl⟩;have y:∀j,j<a.n->c.m j=b.m j:=λj g=>by show(if j=a.n then b.m i else b.m j)=_;rw[if_neg (zE g)]
       have cn:c.m a.n=b.m i:=by show(if a.n=a.n then b.m i else b.m a.n)=_;rw[if_pos rfl]
       have l:∀j,j<a.n->j<b.n:=λj g=>zz g x.n
       refine h c v ⟨x.k,j9 _,λj g=>(y j g).trans (x.m j g),x.tup,x.frz,x.tab⟩ ⟨by simp[s.len,c],λj k g hk e=>?_,λj u e=>?_,λj g=>?_⟩ ⟨qK _,by rw[cn];exact M⟩
       ·have L:j<a.n+1:=g;have U:k<a.n+1:=hk;by_cases p:j<a.n
        ·by_cases A:k<a.n
         ·rw[y j p,y k A]at e;exact f.inj j k (l j p) (l k A) e
         ·have:k=a.n:=by lia
          subst this;rw[y j p,cn]at e;have:=f.inj j i (l j p) I e;lia
        ·have:j=a.n:=by lia
         subst this;by_cases A:k<a.n
         ·rw[y k A,cn]at e;have:=f.inj i k I (l k A) e;lia
         ·lia
       ·by_cases p:j<a.n
        ·rw[qX (by rw[s.len];exact p)]at e;exact w c t (j9 _) y j u e
        ·have N:j<(G++[o]).length:=(zG.mp e).1;have:j=a.n:=by rw[qz,s.len]at N;simp at N;lia
         subst this;rw[zL (by rw[s.len];exact zK _),s.len]at e;simp at e;subst e;rw[cn];exact(f.obj i o T).cut t (j9 _) y z
       ·have L:j<a.n+1:=g;by_cases p:j<a.n
        ·rw[y j p];exact f.tr j (l j p)
        ·have:j=a.n:=by lia
         subst this;rw[cn];exact f.tr i I
      ·exact h b v x f ⟨I,M⟩
     ·exact h b v x f ⟨I,M⟩
    ·exact h b v x f J
  ·exact h b v x f J
end
noncomputable def dV(i:Nat):DE:=λS G=>match S[i]? with
 |some (vD d)=>.ok d G
 |_=>.bad
noncomputable def dC(d:D):DE:=λ_ G=>.ok d G
def dOp(f:D->D->DH->R D)(a b:DE):DE:=λS G=>(a S G).bind λx G1=>(b S G1).bind λy G2=>f x y G2
def dUn(f:D->DH->R D)(a:DE):DE:=λS G=>(a S G).bind f
noncomputable def Ab:DA:=λ_ G=>.ok [] G
def Aa(a:DE)(r:DA):DA:=λS G=>(a S G).bind λx G1=>(r S G1).bind λxs G2=>.ok (x::xs) G2
def dFn(f:List D->DH->R D)(t:DA):DE:=λS G=>(t S G).bind f
def Cz(t:DE):DE:=λS G=>tidy G (t S G)
def asB:D->DH->R Bool
 |.bl k,G=>.ok k G
 |_,_=>.bad
def Ag(t:DE):DB:=λS G=>(t S G).bind asB
def Io(t u:DB):DB:=λS G=>(t S G).bind λk G1=>if k=vF then u S G1 else .ok vG G1
def dOr(t u:DB):DB:=λS G=>(t S G).bind λk G1=>if k=vF then .ok vF G1 else u S G1
def H9(t:DB):DB:=λS G=>(t S G).bind λk G1=>.ok (!k) G1
def Jd(t u:DE):DE:=λS G=>(t S G).bind λx G1=>(asB x G1).bind λk G2=>if k=vF then u S G2 else .ok (.bl vG) G2
def Vd(t u:DE):DE:=λS G=>(t S G).bind λx G1=>(asB x G1).bind λk G2=>if k=vF then .ok (.bl vF) G2 else u S G2
def Sy(t:DE):DE:=λS G=>(t S G).bind λx G1=>(asB x G1).bind λk G2=>.ok (.bl (!k)) G2
def dIf(c:DB)(t u:DE):DE:=λS G=>(c S G).bind λk G1=>if k=vF then t S G1 else u S G1
def Jx(f g:D->D->DH->R D)(a b c:DE):DE:=λS G=>(a S G).bind λx G1=>(b S G1).bind λy G2=>(f x y G2).bind λz G3=>(asB z G3).bind λk G4=>
 if k=vF then(c S G4).bind λw G5=>g y w G5 else .ok (.bl vG) G4
noncomputable def An(ds:List D)(G:DH):R D:=if ds.length<=1000000 then .ok (.tup ds) G else .bad
noncomputable def Ah(ds:List D)(G:DH):R D:=if ds.length<=1000000 then .ok (.ref G.length) (G++[.lst ds])else .bad
noncomputable def Bh(d:D)(G:DH):Option (List D):=match d with
 |.tup xs=>vD xs
 |.fl xs=>vD xs
 |.ref i=>match G[i]? with
  |some (.lst xs)=>vD xs
  |_=>vE
 |_=>vE
theorem size6:(1000000:Nat)<=sizeLine:=by decide
section
variable{X:Cx}{E:XK}{a b c:xw}{ta tb tc:DE}{pos:Pos}
theorem two{K:PySem.W.Frag}{f:D->D->DH->R D}{g:St}{H:Hp}{Q:VK}(h:lE K E (dOp f ta tb) g H Q):tOp (lR2 K E f) (lE K E ta) (lE K E tb) g H Q:=by obtain⟨a,S,G,hk,rfl,s,r,h⟩:=h;refine⟨a,S,G,hk,rfl,s,r,(Em h).imp ?_⟩;rintro v _ ⟨b,d,l,rfl,x,n,q,_,m⟩;refine⟨b,S,l,x.k.trans hk,rfl,n,r.mono x,(Em m).imp ?_⟩;rintro w _ ⟨c,e,o,rfl,y,i,z,_,j⟩;exact⟨c,o,d,e,y.k.trans (x.k.trans hk),rfl,i,q.mono y,z,j⟩
theorem M4(i:Nat){pos:Pos}(j:X.N[i]?=vD x:=by rfl)(l:Vis X.env.scope x:=by first|exact Or.inl rfl|exact Or.inr (Or.inl rfl)|exact Or.inr (Or.inr rfl))(g:(x==("__debug__":Str))=vG:=by decide)
  (f:(x==("__classdict__":Str))=vG:=by decide):QE X E (.Name x pos) (dV i):=by
 refine(ZQ5 j l g f).mono λm H Q h=>?_
 obtain⟨a,S,G,hk,rfl,s,r,h⟩:=h;unfold dV at h;split at h
 ·rename_i d e;obtain⟨v,k,q⟩:=r.get i d e;exact⟨v,k,h a v (Ext.refl a) s q⟩
 ·exact h.elim
theorem Mm{K:PySem.W.Frag}{d:D}{v:V}{f:St}{H:Hp}{Q:VK}(h:lE K E (dC d) f H Q)(r:∀a:Wd,a.K=K->Rep a d v):Q v H:=by obtain⟨a,S,G,hk,rfl,s,_,h⟩:=h;exact h a v (Ext.refl a) s (r a hk)
theorem Nq{i:Int}{j:Nat}:QE X E (.Constant (.int i) j pos) (dC (.int i)):=ZNt.mono λd H Q h=>Mm h λ_ _=>rfl
theorem ZQn{i:Bool}{j:Nat}:QE X E (.Constant (.bool i) j pos) (dC (.bl i)):=ZMt.mono λd H Q h=>Mm h λ_ _=>rfl
theorem ZK5{j:Nat}:QE X E (.Constant .none j pos) (dC .non):=ZR9.mono λd H Q h=>Mm h λ_ _=>rfl
theorem ZME{i:Str}{j:Nat}:QE X E (.Constant (.str i) j pos) (dC (.str i)):=ZIS.mono λd H Q h=>Mm h λ_ _=>rfl
theorem Xb(i:Gl X x)(f:X.mg x=vD u)(r:RelV v u)(j:∀a:Wd,a.K=X.K->Rep a d v)(g:(x==("__debug__":Str))=vG:=by decide):QE X E (.Name x pos) (dC d):=
 (ZBs i f r g).mono λk H Q h=>Mm h j
theorem ZOJ(ho:OpR X (xM op) (lR2 X.K E f))(d:QE X E a ta)(g:QE X E b tb):QE X E (.BinOp a op b pos) (dOp f ta tb):=
 (ZRd ho d g).mono λ_ _ _ h=>two h
theorem ZLT(ho:OpR X (xR op) (lR2 X.K E f))(g:QE X E a ta)(i:QE X E b tb)(d:xL op b=vG):QE X E (.Compare a [op] [b] pos) (dOp f ta tb):=
 (ZP3 ho g i d).mono λ_ _ _ h=>two h
theorem Rj{K:PySem.W.Frag}{t:DE}{f:St}{H:Hp}{Q:Bool->Hp->Prop}(h:lB K E (Ag t) f H Q):Od (lE K E t) f H Q:=by
 obtain⟨a,S,G,hk,rfl,s,r,h⟩:=h;refine⟨a,S,G,hk,rfl,s,r,(ZSt h).imp ?_⟩;rintro v _ ⟨b,d,j,rfl,x,i,q,_,g⟩;cases d with
 |bl k=>exact⟨k,q,g b (Ext.refl b) i⟩
 |_=>exact g.elim
theorem Xl(w:∀d H Q,t' d H Q->t d H Q)(d:St)(H:Hp)(Q:Bool->Hp->Prop)(h:Od t' d H Q):Od t d H Q:=w _ _ _ h
theorem Te(ho:OpR X (xR op) (lR2 X.K E f))(i:QE X E a ta)(j:QE X E b tb)(g:xL op b=vG):QT X E (.Compare a [op] [b] pos) (Ag (dOp f ta tb)):=
 (ZFK ho i j g).mono λd H Q h=>Xl (λ_ _ _ z=>two z) d H Q (Rj h)
theorem chain{K:PySem.W.Frag}{f g:D->D->DH->R D}{o:St}{H:Hp}{Q:VK}(h:lE K E (Jx f g ta tb tc) o H Q):ZHW (lR2 K E f) (lR2 K E g) (lE K E ta) (lE K E tb) (lE K E tc) o H Q:=by
 obtain⟨a,S,G,hk,rfl,s,r,h⟩:=h;refine⟨a,S,G,hk,rfl,s,r,(Em h).imp ?_⟩;rintro v _ ⟨b,d,U,rfl,x,O,q,_,C⟩;refine⟨b,S,U,x.k.trans hk,rfl,O,r.mono x,(Em C).imp ?_⟩;rintro w _ ⟨c,e,F,rfl,y,B,A,_,J⟩;refine⟨c,F,d,e,y.k.trans (x.k.trans hk),rfl,B,q.mono y,A,(Em J).imp ?_⟩;rintro z _ ⟨n,Y,M,rfl,i,l,L,_,j⟩;cases Y with
 | bl k=>
  refine⟨k,L,?_⟩;cases k with
  |false=>exact j n (.bl vG) (Ext.refl _) l rfl
  |true=>
   refine⟨n,S,M,(i.k.trans (y.k.trans (x.k.trans hk))),rfl,l,((r.mono x).mono y).mono i,(Em j).imp ?_⟩;rintro z4 _ ⟨N,e4,T,rfl,m,P,I,_,Z⟩;exact⟨N,T,e,e4,m.k.trans (i.k.trans (y.k.trans (x.k.trans hk))),rfl,P,(A.mono i).mono m,I,Z⟩
 |_=>exact j.elim
theorem ZQG(ho:OpR X (xR op) (lR2 X.K E f))(d:OpR X (xR op') (lR2 X.K E g))(j:QE X E a ta)(l:QE X E b tb)(i:QE X E c tc)
  (k:lastMarks [op,op'] [b,c]=vG:=by with_unfolding_all rfl):QT X E (.Compare a [op,op'] [b,c] pos) (Ag (Jx f g ta tb tc)):=
 (ZUs ho d j l i k).mono λm H Q h=>Xl (λ_ _ _ z=>chain z) m H Q (Rj h)
theorem ZNY(f:QE X E a ta)(g:∀d,isTrue a X.env d=(do let v<-d;standAt a.pos;holding [v] (truthy v)):=by intro _;rfl):QT X E a (Ag ta):=
 (ZS7 f g).mono λi H Q h=>Rj h
theorem ZPR(d:QE X E a ta):QE X E a (Cz ta):=_L.PE.mono d λf H Q h=>by obtain⟨w,S,G,hk,rfl,s,r,h⟩:=h;exact⟨w,S,G,hk,rfl,s,r,ZFm s h⟩
def QW(X:Cx)(E:XK)(e:xw)(t:DB):Prop:=PW X e (lB X.K E t)
theorem _root_._L.PW.mono(h:PW X e t)(w:∀d H Q,t' d H Q->t d H Q):PW X e t':=λg f s d H Q I q=>h g f s d H Q I (w d H Q q)
variable{u t:DB}{rest:List xw}
theorem ZTW{K:PySem.W.Frag}{d:St}{H:Hp}{Q:Bool->Hp->Prop}(h:lB K E (Io t u) d H Q):tAnd (lB K E t) (lB K E u) d H Q:=by
 obtain⟨a,S,G,hk,rfl,s,r,h⟩:=h;refine⟨a,S,G,hk,rfl,s,r,(Z8 h).imp ?_⟩;rintro k _ ⟨b,i,rfl,x,f,_,g⟩;cases k with
 |true=>exact⟨b,S,i,x.k.trans hk,rfl,f,r.mono x,g⟩
 |false=>exact g b (Ext.refl b) f
theorem ZKd{K:PySem.W.Frag}{d:St}{H:Hp}{Q:Bool->Hp->Prop}(h:lB K E (dOr t u) d H Q):tOr (lB K E t) (lB K E u) d H Q:=by
 obtain⟨a,S,G,hk,rfl,s,r,h⟩:=h;refine⟨a,S,G,hk,rfl,s,r,(Z8 h).imp ?_⟩;rintro k _ ⟨b,i,rfl,x,f,_,g⟩;cases k with
 |true=>exact g b (Ext.refl b) f
 |false=>exact⟨b,S,i,x.k.trans hk,rfl,f,r.mono x,g⟩
theorem ZR2(d:QT X E a t):QW X E (.BoolOp .And [a] pos) t:=pw_and1 d
theorem Wv(d:QT X E a t):QW X E (.BoolOp .Or [a] pos) t:=pw_or1 d
theorem ZPX(d:QT X E a t)(f:QW X E (.BoolOp .And (b::rest) pos) u):QW X E (.BoolOp .And (a::b::rest) pos) (Io t u):=(pw_and d f).mono λ_ _ _ h=>ZTW h
theorem ZCs(d:QT X E a t)(f:QW X E (.BoolOp .Or (b::rest) pos) u):QW X E (.BoolOp .Or (a::b::rest) pos) (dOr t u):=(pw_or d f).mono λ_ _ _ h=>ZKd h
theorem ZCB(h:QW X E a t):QT X E a t:=_L.PW.pt h
theorem ZRE(d:QT X E a t):QT X E (.UnaryOp .Not a pos) (H9 t):=(ZPO d).mono λj H Q h=>by obtain⟨a,S,G,hk,rfl,s,r,h⟩:=h;refine⟨a,S,G,hk,rfl,s,r,(Z8 h).imp ?_⟩;rintro k _ ⟨b,i,rfl,x,g,_,f⟩;exact f b (Ext.refl b) g
theorem ZTh{op}(h:QE X E a ta):QE X E (.BoolOp op [a] pos) ta:=ZRk h
theorem ZPz(i:QE X E a ta)(l:QE X E (.BoolOp .And (b::rest) pos) tb):QE X E (.BoolOp .And (a::b::rest) pos) (Jd ta tb):=(ZPl i l).mono λm H Q h=>by
 obtain⟨a,S,G,hk,rfl,s,r,h⟩:=h;refine⟨a,S,G,hk,rfl,s,r,(Em h).imp ?_⟩;rintro v _ ⟨b,d,j,rfl,x,g,q,_,f⟩;cases d with
 |bl k=>
  refine⟨k,q,?_⟩;cases k with
  |true=>exact⟨b,S,j,x.k.trans hk,rfl,g,r.mono x,f⟩
  |false=>exact f b _ (Ext.refl b) g rfl
 |_=>exact f.elim
theorem ZOf(i:QE X E a ta)(l:QE X E (.BoolOp .Or (b::rest) pos) tb):QE X E (.BoolOp .Or (a::b::rest) pos) (Vd ta tb):=(ZSM i l).mono λm H Q h=>by
 obtain⟨a,S,G,hk,rfl,s,r,h⟩:=h;refine⟨a,S,G,hk,rfl,s,r,(Em h).imp ?_⟩;rintro v _ ⟨b,d,j,rfl,x,g,q,_,f⟩;cases d with
 |bl k=>
  refine⟨k,q,?_⟩;cases k with
  |false=>exact⟨b,S,j,x.k.trans hk,rfl,g,r.mono x,f⟩
  |true=>exact f b _ (Ext.refl b) g rfl
 |_=>exact f.elim
theorem ZLb(g:QE X E a ta):QE X E (.UnaryOp .Not a pos) (Sy ta):=(ZQl g).mono λl H Q h=>by
 obtain⟨a,S,G,hk,rfl,s,r,h⟩:=h;refine⟨a,S,G,hk,rfl,s,r,(Em h).imp ?_⟩;rintro v _ ⟨b,d,j,rfl,x,i,q,_,f⟩;cases d with
 |bl k=>exact⟨k,q,f b _ (Ext.refl b) i rfl⟩
 |_=>exact f.elim
theorem ZRZ(i:QT X E c t)(j:QE X E a ta)(l:QE X E b tb):QE X E (.IfExp c a b pos) (dIf t ta tb):=(ZN6 i j l).mono λm H Q h=>by
 obtain⟨a,S,G,hk,rfl,s,r,h⟩:=h;refine⟨a,S,G,hk,rfl,s,r,(ZHG h).imp ?_⟩;rintro k _ ⟨b,d,rfl,x,g,_,f⟩;cases k with
 |true=>exact⟨b,S,d,x.k.trans hk,rfl,g,r.mono x,f⟩
 |false=>exact⟨b,S,d,x.k.trans hk,rfl,g,r.mono x,f⟩
variable{es:List xw}{tr:DA}
theorem ZOr:QA X E [] Ab:=ZPu.mono λd H Q h=>by obtain⟨a,S,G,hk,rfl,s,r,h⟩:=h;exact h a [] (Ext.refl a) s rfl
noncomputable def notStar:xw->Bool
 |.Starred _ _=>vG
 |_=>vF
theorem Ks(a:xw)(es:List xw)(env:Env)(h:notStar a=vF):vW (a::es) env=(vG,eval a env)::vW es env:=by
 cases a<;>first
  |exact absurd h zk
  |rfl
theorem M7(pos:Pos)(env:Env):∀es:List xw,es.all notStar=vF->(xH pos (vW es env)).any (·.1)=vG
 |[],_=>rfl
 |a::es,h=>by
  rw[qN,zD]at h;rw[Ks a es env h.1];have d:=M7 pos env es h.2;unfold xH at d⊢;rw[zw,jF,d]
  rfl
theorem ZNc(g:QE X E a ta)(m:QA X E es tr)(i:notStar a=vF:=by rfl):QA X E (a::es) (Aa ta tr):=(ZKT g m (Ks a es X.env i)).mono λB H Q h=>by obtain⟨a,S,G,hk,rfl,s,r,h⟩:=h;refine⟨a,S,G,hk,rfl,s,r,(ZMr h).imp ?_⟩;rintro v _ ⟨b,d,l,rfl,x,o,q,_,n⟩;refine⟨b,S,l,x.k.trans hk,rfl,o,r.mono x,(ZLu n).imp ?_⟩;rintro A _ ⟨c,z,C,rfl,y,f,w,_,j⟩;exact j c _ (Ext.refl c) f (Reps.cons (q.mono y) w)
theorem ZRu{x1}(h:QA X E es tr):QE X E (.Tuple es x1 pos) (dFn An tr):=(ZQF h).mono λl H Q h=>by
 obtain⟨a,S,G,hk,rfl,s,r,h⟩:=h;refine⟨a,S,G,hk,rfl,s,r,(Ky h).imp ?_⟩;rintro f _ ⟨b,j,k,rfl,x,i,q,_,d⟩;unfold An at d;split at d
 ·rename_i g;refine⟨by rw[<-q.length];exact zA g size6,λp hp=>?_⟩;exact d (b.put p (.tup f)) (.ref p) (Ext.put hp) (i.put hp) ⟨p,f,rfl,.of Ej,q.mono (Ext.put hp)⟩
 ·exact d.elim
theorem ZMW(h:QA X E es tr):QE X E (.List es pos) (dFn Ah tr):=(ZSL h).mono λl H Q h=>by
 obtain⟨a,S,G,hk,rfl,s,r,h⟩:=h;refine⟨a,S,G,hk,rfl,s,r,(Ky h).imp ?_⟩;rintro g _ ⟨b,j,k,rfl,x,f,q,_,d⟩;unfold Ah at d;split at d
 ·rename_i i;refine⟨by rw[<-q.length];exact zA i size6,λp hp=>?_⟩;refine d (b.push p (.lst g)) (.ref p) (Ext.push hp) (f.push hp ⟨g,rfl,q.mono (Ext.push hp)⟩) ⟨?_,?_⟩
  ·rw[f.len];exact qK _
  ·rw[f.len];show V.ref p=.ref (if b.n=b.n then p else b.m b.n);rw[if_pos rfl]
 ·exact d.elim
variable{e:xw}{x:Str}{p:Pos}
theorem Wo{K:PySem.W.Frag}{f:List D->DH->R D}{d:St}{H:Hp}{Q:VK}(h:lE K E (dFn f tr) d H Q):lA K E tr d H (λvs l=>lRn K E f vs l Q):=by obtain⟨a,S,G,hk,rfl,s,r,h⟩:=h;refine⟨a,S,G,hk,rfl,s,r,(Ky h).imp ?_⟩;rintro vs _ ⟨b,g,i,rfl,x,m,q,_,j⟩;exact⟨b,i,g,x.k.trans hk,rfl,m,q,j⟩
theorem ZTu{id:String}{f:List D->DH->R D}(i:CallR X (.builtin id) (lRn X.K E f))(n:Gl X x)(l:X.mg x=vE)(o:xN x=vD (.builtin id))(j:QA X E (e::es) tr)(m:x≠"__name__":=by decide)(d:(x==("__debug__":Str))=vG:=by decide)
  (k:notStar e=vF:=by rfl) (g:es.all notStar=vF:=by rfl):QE X E (.Call (.Name x p) (e::es) [] pos) (dFn f tr):=
 (ZOi i n l o j m d (Ks e es X.env k) (M7 pos X.env es g)).mono λq H Q h=>Wo h
theorem ZNa{id:String}{f:List D->DH->R D}(i:CallR X (.type id) (lRn X.K E f))(n:Gl X x)(l:X.mg x=vE)(o:xN x=vD (.type id))(j:QA X E (e::es) tr)(m:x≠"__name__":=by decide)(d:(x==("__debug__":Str))=vG:=by decide)
  (k:notStar e=vF:=by rfl) (g:es.all notStar=vF:=by rfl):QE X E (.Call (.Name x p) (e::es) [] pos) (dFn f tr):=
 (ZMX i n l o j m d (Ks e es X.env k) (M7 pos X.env es g)).mono λq H Q h=>Wo h
theorem ZRX{CX:CXT}{k:Nat}{f:xz}{i:xk}{ps:List Str}{F:List D->DH->R D}(J:FnOk X.prog X.w X.K X.mg X.base CX k f i ps (lF X.K F))(y:Room k X.A)(z:Gl X x)(n:X.mg x=vD (.ref f))(hk:PySem.W.keepIn X.K (.ref f)=vF)(v:Binds X.K i ps [])
  (B:Passes CX X E0) (j:QA X E0 (e::es) tr) (d:(x==("__debug__":Str))=vG:=by decide) (l:notStar e=vF:=by rfl) (g:es.all notStar=vF:=by rfl):
  QE X E0 (.Call (.Name x p) (e::es) [] pos) (dFn F tr):=
 (ZNQ J y z n hk v .nil B j d (Ks e es X.env l) (M7 pos X.env es g)).mono λM H Q h=>by obtain⟨a,S,G,hk,rfl,s,r,h⟩:=Wo h;refine⟨a,S,G,hk,rfl,s,r,h.imp ?_⟩;rintro L _ ⟨b,o,m,hk,rfl,I,q,C⟩;exact⟨b,o,m,hk,rfl,I,by rw[j0];exact q,C⟩
theorem ZBn(d:IxR X (lR2 X.K E f))(g:QE X E a ta)(j:QE X E b tb)(i:PlainIx b:=by intro _ _;rfl):QE X E (.Subscript a b pos) (dOp f ta tb):=
 (ZF9 d g j i).mono λ_ _ _ h=>two h
end
noncomputable instance (i j:Int):Decidable (CMul i j):=by unfold CMul;infer_instance
noncomputable instance (i j:Int):Decidable (CPow i j):=by unfold CPow;infer_instance
def CDivL(j:Int):Prop:=0<j/\j.natAbs.log2<9000
noncomputable instance (j:Int):Decidable (CDivL j):=by unfold CDivL;infer_instance
def Eb:D->D->DH->R D
 |.int i,.int j,G=>.ok (.int (i-j)) G
 |_,_,_=>.bad
def Bx:D->D->DH->R D
 |.int i,.int j,G=>if CDivL j then .ok (.int (i/j)) G else .bad
 |_,_,_=>.bad
def Az:D->D->DH->R D
 |.int i,.int j,G=>if 0<j then .ok (.int (i%j)) G else .bad
 |_,_,_=>.bad
def Ht:D->D->DH->R D
 |.int i,.int j,G=>if CPow i j then .ok (.int (i^j.toNat)) G else .bad
 |_,_,_=>.bad
def Fe:D->D->DH->R D
 |.int i,.int j,G=>.ok (.bl (decide (i<j))) G
 |.str i,.str j,G=>.ok (.bl (decide (i.cps.toList<j.cps.toList))) G
 |_,_,_=>.bad
def Im:D->D->DH->R D
 |.int i,.int j,G=>.ok (.bl (decide (i<=j))) G
 |.str i,.str j,G=>.ok (.bl (!decide (j.cps.toList<i.cps.toList))) G
 |_,_,_=>.bad
def Gp:D->D->DH->R D
 |.int i,.int j,G=>.ok (.bl (decide (j<i))) G
 |.str i,.str j,G=>.ok (.bl (decide (j.cps.toList<i.cps.toList))) G
 |_,_,_=>.bad
def Vk:D->D->DH->R D
 |.int i,.int j,G=>.ok (.bl (decide (j<=i))) G
 |.str i,.str j,G=>.ok (.bl (!decide (i.cps.toList<j.cps.toList))) G
 |_,_,_=>.bad
noncomputable def Gj(d:D)(G:DH):Option (List D):=match d with
 |.fl xs=>vD xs
 |.ref i=>match G[i]? with
  |some (.lst xs)=>vD xs
  |_=>vE
 |_=>vE
def Ai:D->D->DH->R D
 |.int i,.int j,G=>.ok (.int (i+j)) G
 |.str i,.str j,G=>if i.length+j.length<=1000000 then .ok (.str (i++j)) G else .bad
 |.tup xs,.tup ys,G=>if xs≠[]/\xs.length+ys.length<=1000000 then .ok (.tup (xs++ys)) G else .bad
 |d,e,G=>match Gj d G,Gj e G with
  |some xs,vD ys=>if xs.length+ys.length<=1000000 then .ok (.ref G.length) (G++[.lst (xs++ys)])else .bad
  |_,_=>.bad
section
variable{X:Cx}{E:XK}
theorem Fp(ho:OpR X f r)
  (h:∀(a:Wd)(G:DH)(d e:D)(x y:V)(Q:VK),a.K=X.K->Sim a G->Rep a d x->Rep a e y->out E a (F d e G) Q->r x y a.H Q):OpR X f (lR2 X.K E F):=
 ho.mono λx y H Q ⟨a,G,d,e,hk,g,s,c,b,q⟩=>by subst g;exact h a G d e x y Q hk s c b q
theorem ZUj:OpR X (xM .Sub) (lR2 X.K E Eb):=Fp ZP5 λa G d e x y Q hk s c b q=>by
 cases d<;>cases e<;>first
  |exact q.elim
  |exact⟨_,_,c,b,q a _ (Ext.refl a) s rfl⟩
theorem ZOp:OpR X (xM .FloorDiv) (rI (λ_ j=>CDivL j) λi j=>.int (i/j)):=opI λi j _ _ _ _ _ a q=>by have e:i.fdiv j=i/j:=Int.fdiv_eq_ediv_of_nonneg _ (Int.le_of_lt a.1);refine floordiv_int (by have:=a.1;lia) (by rw[e];exact q) (.inl (PyProof.noPylong_of_log2 a.2))
theorem ZTG:OpR X (xM .FloorDiv) (lR2 X.K E Bx):=Fp ZOp λa G d e x y Q hk s rd re q=>by
 cases d<;>cases e<;>first
  |exact q.elim
  | (
    rename_i i j;unfold Bx at q;dsimp only at q;split at q
    ·exact⟨_,_,rd,re,by assumption,q a _ (Ext.refl a) s rfl⟩
    ·exact q.elim)
theorem ZTz:OpR X (xM .Mod) (lR2 X.K E Az):=Fp ZUa λa G d e x y Q hk s rd re q=>by
 cases d<;>cases e<;>first
  |exact q.elim
  | (
    rename_i i j;unfold Az at q;dsimp only at q;split at q
    ·exact⟨_,_,rd,re,by assumption,q a _ (Ext.refl a) s rfl⟩
    ·exact q.elim)
theorem ZRT:OpR X (xM .Pow) (lR2 X.K E Ht):=Fp ZQN λa G d e x y Q hk s rd re q=>by
 cases d<;>cases e<;>first
  |exact q.elim
  | (
    rename_i i j;unfold Ht at q;dsimp only at q;split at q
    ·exact⟨_,_,rd,re,by assumption,q a _ (Ext.refl a) s rfl⟩
    ·exact q.elim)
theorem o_lt:OpR X (xR .Lt) (lR2 X.K E Fe):=Fp (ZSj.or ZOM) λa G d e x y Q hk s c b q=>by
 cases d<;>cases e<;>first
  |exact q.elim
  |exact .inl ⟨_,_,c,b,q a _ (Ext.refl a) s rfl⟩
  |exact .inr ⟨_,_,c,b,q a _ (Ext.refl a) s rfl⟩
theorem ZMS:OpR X (xR .LtE) (λx y H Q=>∃i j,x=.str i/\y=.str j/\Q (.bl (!decide (j.cps.toList<i.cps.toList))) H):=by intro a s e H x y v u Q I b c h;obtain⟨i,j,rfl,rfl,q⟩:=h;obtain⟨t,rfl⟩:=b;obtain⟨d,rfl⟩:=c;exact PySem.P.le_str ⟨.bl _,H,I,rfl,q⟩
theorem ZLN:OpR X (xR .Gt) (λx y H Q=>∃i j,x=.str i/\y=.str j/\Q (.bl (decide (j.cps.toList<i.cps.toList))) H):=by intro a s e H x y v u Q I b c h;obtain⟨i,j,rfl,rfl,q⟩:=h;obtain⟨t,rfl⟩:=b;obtain⟨d,rfl⟩:=c;exact PySem.P.gt_str ⟨.bl _,H,I,rfl,q⟩
theorem ZOE:OpR X (xR .GtE) (λx y H Q=>∃i j,x=.str i/\y=.str j/\Q (.bl (!decide (i.cps.toList<j.cps.toList))) H):=by intro a s e H x y v u Q I b c h;obtain⟨i,j,rfl,rfl,q⟩:=h;obtain⟨t,rfl⟩:=b;obtain⟨d,rfl⟩:=c;exact PySem.P.ge_str ⟨.bl _,H,I,rfl,q⟩
theorem o_le:OpR X (xR .LtE) (lR2 X.K E Im):=Fp (ZNm.or ZMS) λa G d e x y Q hk s c b q=>by
 cases d<;>cases e<;>first
  |exact q.elim
  |exact .inl ⟨_,_,c,b,q a _ (Ext.refl a) s rfl⟩
  |exact .inr ⟨_,_,c,b,q a _ (Ext.refl a) s rfl⟩
theorem o_gt:OpR X (xR .Gt) (lR2 X.K E Gp):=Fp (ZR1.or ZLN) λa G d e x y Q hk s c b q=>by
 cases d<;>cases e<;>first
  |exact q.elim
  |exact .inl ⟨_,_,c,b,q a _ (Ext.refl a) s rfl⟩
  |exact .inr ⟨_,_,c,b,q a _ (Ext.refl a) s rfl⟩
theorem o_ge:OpR X (xR .GtE) (lR2 X.K E Vk):=Fp (ZMu.or ZOE) λa G d e x y Q hk s c b q=>by
 cases d<;>cases e<;>first
  |exact q.elim
  |exact .inl ⟨_,_,c,b,q a _ (Ext.refl a) s rfl⟩
  |exact .inr ⟨_,_,c,b,q a _ (Ext.refl a) s rfl⟩
theorem Sim.lst(s:Sim a G)(h:G[i]?=vD (.lst xs)):∃vs,a.H (a.m i)=vD (.lst vs)/\Reps a xs vs:=s.obj i _ h
theorem Jj{E:XK}(s:Sim a G)(r:Reps a ds vs)(h:out E a (.ok (.ref G.length) (G++[.lst ds])) Q)(p:xz)(hp:a.H p=vE):Q (.ref p) (upd a.H p (.lst vs)):=by
 refine h (a.push p (.lst vs)) (.ref p) (Ext.push hp) (s.push hp ⟨vs,rfl,r.mono (Ext.push hp)⟩) ⟨?_,?_⟩
 ·rw[s.len];exact qK _
 ·rw[s.len];show V.ref p=.ref (if a.n=a.n then p else a.m a.n);rw[if_pos rfl]
theorem ZA1{E:XK}(s:Sim a G)(r:Reps a ds vs)(h:out E a (.ok (.tup ds) G) Q)(p:xz)(hp:a.H p=vE):Q (.ref p) (upd a.H p (.tup vs)):=
 h (a.put p (.tup vs)) (.ref p) (Ext.put hp) (s.put hp) ⟨p,vs,rfl,.of Ej,r.mono (Ext.put hp)⟩
theorem Oi(s:Sim a G)(r:Rep a d x)(h:Gj d G=vD xs):∃p vs,x=.ref p/\SqL a.K a.H p vs/\Reps a xs vs:=by
 cases d with
 |fl b=>
  have e:b=xs:=Option.some.inj h;subst e;obtain⟨p,vs,e,q,c⟩:=r;exact⟨p,vs,e,q.sq,c⟩
 |ref i=>
  unfold Gj at h;dsimp only at h;split at h
  ·rename_i b f;have e:b=xs:=Option.some.inj h;subst e;obtain⟨vs,g,j⟩:=s.lst f;exact⟨a.m i,vs,r.2,.of g,j⟩
  ·cases h
 |_=>cases h
def ZFg(K:PySem.W.Frag):R2:=λx y H Q=>∃l b xs zs,x=.ref l/\y=.ref b/\SqL K H l xs/\SqL K H b zs/\xs.length+zs.length<=sizeLine/\∀p,H p=vE->Q (.ref p) (upd H p (.lst (xs++zs)))
theorem ZMi:OpR X (xM .Add) (ZFg X.K):=by
 intro k s Z H x y v u Q I J t h;obtain⟨l,b,Y,zs,rfl,rfl,S,z,W,q⟩:=h;cases J;cases t;obtain⟨c,r,L,_⟩:=I.list S;obtain⟨a,m,M,_⟩:=I.list z;obtain⟨⟨T,O,o,w⟩,n,j,A,_,B⟩:=L;obtain⟨⟨p,f,i,e⟩,N,d,hc2,_,g⟩:=M;cases A;cases B;cases hc2;cases g;have U:=r.length;have C:=m.length;refine concat_meets ⟨_,j,rfl⟩ ⟨_,d,rfl⟩ noFill_list_add seq_list_add PySem.F.slot_list_add PySem.F.entry_list_add (PySem.F.args_list_add_2 _ _) (list_addW l b c.toArray a.toArray n N O f w e (by rw[zY,zY];lia)) ⟨j,d,?_⟩
 have P:c.toArray++a.toArray=(c++a).toArray:=by simp
 rw[P];exact⟨.ref _,_,I.lnew (t':=s.toks) (r.append m) (by rw[qz];lia),rfl,q _ I.fresh⟩
theorem ZMx:OpR X (xM .Add) (lR2 X.K E Ai):=Fp (ZK3.or (ZQW.or (ZMi.or ZLq))) λa G d e x y Q hk s r n q=>by
 have lst:out E a (match Gj d G,Gj e G with
  |some m,vD k=>if m.length+k.length<=1000000 then .ok (.ref G.length) (G++[.lst (m++k)])else .bad
  |_,_=>.bad) Q->ZFg X.K x y a.H Q:=λq=>by
  split at q
  ·rename_i m k l o;split at q
   ·rename_i g;obtain⟨p,t,w,B,f⟩:=Oi s r l;obtain⟨v,c,u,A,h⟩:=Oi s n o;rw[hk]at B A;exact⟨p,v,t,c,w,u,B,A,by rw[<-f.length,<-h.length];exact zA g size6,λp hp=>Jj s (f.append h) q p hp⟩
   ·exact q.elim
  ·exact q.elim
 have L:=λq=>Or.inr (a:=rI0 (λi j=>V.int (i+j)) x y a.H Q) (Or.inr (a:=∃i j,x=.str i/\y=.str j/\i.length+j.length<=sizeLine/\Q (.str (i++j)) a.H) (Or.inl (b:=ZIn X.K x y a.H Q) (lst q)))
 cases d<;>cases e<;>first
  |exact .inl ⟨_,_,r,n,q a _ (Ext.refl a) s rfl⟩
  |exact L q
  |skip
 ·rename_i i j;unfold Ai at q;dsimp only at q;split at q
  ·rename_i g;exact .inr (.inl ⟨_,_,r,n,zA g size6,q a _ (Ext.refl a) s rfl⟩)
  ·exact q.elim
 ·rename_i m k;unfold Ai at q;dsimp only at q;split at q
  ·rename_i g;obtain⟨p,t,w,l,f⟩:=r;obtain⟨v,c,u,o,h⟩:=n;rw[hk]at l o;refine .inr (.inr (.inr ⟨p,v,t,c,w,u,l,o,λz=>g.1 (qL (by rw[f.length,z];rfl)),by rw[<-f.length,<-h.length];exact zA g.2 size6,λz=>?_,λ_ C hp=>?_⟩))
   ·refine q a (.ref p) (Ext.refl a) s ⟨p,t,rfl,by rw[hk];exact l,?_⟩;have F:k=[]:=qL (by rw[h.length,z];rfl);rw[F,j0];exact f
   ·exact ZA1 s (f.append h) q C hp
  ·exact q.elim
inductive VD where
 |flat (v:V)
 |lst (xs:List D)
 |tup (xs:List D)
 |bad
def view(G:DH):D->VD
 |.non=>.flat .non
 |.bl b=>.flat (.bl b)
 |.int i=>.flat (.int i)
 |.str x=>.flat (.str x)
 |.ty _=>.bad
 |.tup xs=>.tup xs
 |.fl xs=>.lst xs
 |.ref i=>match G[i]? with
  |some (.lst xs)=>.lst xs
  |_=>.bad
noncomputable def eqZ(f:D->D->Option Bool):List D->List D->Option Bool
 |x::xs,y::ys=>match f x y,eqZ f xs ys with
  |some a,vD b=>vD (a&&b)
  |_,_=>vE
 |_,_=>vD vF
def eqD:Nat->DH->D->D->Option Bool
 |0=>λ_ _ _=>vE
 | n+1=>λG d e=>match view G d,view G e with
  |.flat a,.flat b=>vD (eqV a b)
  |.lst xs,.lst ys=>if xs.length=ys.length then eqZ (eqD n G) xs ys else vD vG
  |.tup xs,.tup ys=>match eqZ (eqD n G) xs ys with
   |some b=>vD (b&&xs.length==ys.length)
   |none=>vE
  |.bad,_=>vE
  |_,.bad=>vE
  |_,_=>vD vG
theorem Uy:∀{xs ys:List D}{k:Bool},eqZ f xs ys=vD k->∃e:Nat->Bool,(∀(j:Nat)(x y:D),xs[j]?=vD x->ys[j]?=vD y->f x y=vD (e j))/\k=(zQ (min xs.length ys.length)).all e
 | [],ys,k,h=>⟨λ_=>vF,λj x y c _=>by simp at c,by
   have d:vD vF=vD k:=by cases ys<;>exact h
   cases d;simp⟩
 |x::xs,[],k,h=>⟨λ_=>vF,λj x y _ c=>by simp at c,by have d:vD vF=vD k:=h;cases d;simp⟩
 | x::xs,y::ys,k,h=>by
  unfold eqZ at h;split at h
  ·rename_i a b o m;obtain⟨e,l,hk⟩:=Uy m;have d:(a&&b)=k:=Option.some.inj h
   refine⟨λj=>match j with |0=>a|j+1=>e j,λj n i c g=>?_,?_⟩
   ·cases j with
    |zero=>simp at c g;subst c;subst g;exact o
    |succ j=>exact l j n i (by simpa using c) (by simpa using g)
   ·rw[<-d,hk];have:min (x::xs).length (y::ys).length=min xs.length ys.length+1:=by simp only[zU];lia
    rw[this,qR,qN,List.all_map]
    rfl
  ·cases h
theorem Rr(s:Sim a G)(r:Rep a d x):match view G d with
  |.flat v=>x=v/\Dc v=vF
  |.lst g=>∃p c,x=.ref p/\SqL a.K a.H p c/\Reps a g c
  |.tup g=>∃p c,x=.ref p/\SqT a.K a.H p c/\Reps a g c
  |.bad=>True:=by
 cases d with
 |non=>exact⟨r,rfl⟩
 |bl b=>exact⟨r,rfl⟩
 |int b=>exact⟨r,rfl⟩
 |str b=>exact⟨r,rfl⟩
 |ty n=>trivial
 |tup g=>
  obtain⟨p,c,e,h,q⟩:=r;exact⟨p,c,e,h,q⟩
 |fl g=>
  obtain⟨p,c,e,h,q⟩:=r;exact⟨p,c,e,h.sq,q⟩
 | ref i=>
  unfold view;dsimp only;split
  ·rename_i v f
   split at f<;>cases f
  ·rename_i g f;split at f
   ·rename_i o j;cases f;obtain⟨c,k,l⟩:=s.lst j;exact⟨a.m i,c,r.2,.of k,l⟩
   ·cases f
  ·rename_i g f
   split at f<;>cases f
  ·trivial
theorem ZOy(e:RelV y u)(c:RelV x v)(g:Dc y=vF)(f:Dc x=vF):SeqAt.RcAt A s u v (eqV y x):=by
 cases y with
 |non=>
  cases e;cases x with
  |non=>cases c;exact SeqAt.RcAt.none_none
  |bl b=>cases c;exact SeqAt.RcAt.none_bool b
  |int b=>obtain⟨t,rfl⟩:=c;exact SeqAt.RcAt.none_int b t
  |str b=>obtain⟨t,rfl⟩:=c;exact SeqAt.RcAt.none_str b t
  |_=>exact absurd (show vG=vF from f) zk
 |bl a=>
  cases e;cases x with
  |non=>cases c;exact SeqAt.RcAt.bool_none a
  |bl b=>cases c;exact SeqAt.RcAt.bool_bool a b
  |int b=>obtain⟨t,rfl⟩:=c;exact SeqAt.RcAt.bool_int a b t
  |str b=>obtain⟨t,rfl⟩:=c;exact SeqAt.RcAt.bool_str a b t
  |_=>exact absurd (show vG=vF from f) zk
 |int a=>
  obtain⟨d,rfl⟩:=e;cases x with
  |non=>cases c;exact SeqAt.RcAt.int_none a d
  |bl b=>cases c;exact SeqAt.RcAt.int_bool a d b
  |int b=>obtain⟨t,rfl⟩:=c;exact SeqAt.RcAt.int_int a d b t
  |str b=>obtain⟨t,rfl⟩:=c;exact SeqAt.RcAt.int_str a d b t
  |_=>exact absurd (show vG=vF from f) zk
 |str a=>
  obtain⟨d,rfl⟩:=e;cases x with
  |non=>cases c;exact SeqAt.RcAt.str_none a d
  |bl b=>cases c;exact SeqAt.RcAt.str_bool a d b
  |int b=>obtain⟨t,rfl⟩:=c;exact SeqAt.RcAt.str_int a d b t
  |str b=>obtain⟨t,rfl⟩:=c;exact SeqAt.RcAt.str_str a d b t
  |_=>exact absurd (show vG=vF from f) zk
 |_=>exact absurd (show vG=vF from g) zk
theorem ZRw(e:RelV y u)(c:RelV x v)(g:Dc y=vF)(f:Dc x=vF):SeqAt.RcNeAt A s u v (!eqV y x):=by
 cases y with
 |non=>
  cases e;cases x with
  |non=>cases c;exact SeqAt.RcNeAt.none_none
  |bl b=>cases c;exact SeqAt.RcNeAt.none_bool b
  |int b=>obtain⟨t,rfl⟩:=c;exact SeqAt.RcNeAt.none_int b t
  |str b=>obtain⟨t,rfl⟩:=c;exact SeqAt.RcNeAt.none_str b t
  |_=>exact absurd (show vG=vF from f) zk
 |bl a=>
  cases e;cases x with
  |non=>cases c;exact SeqAt.RcNeAt.bool_none a
  |bl b=>cases c;exact SeqAt.RcNeAt.bool_bool a b
  |int b=>obtain⟨t,rfl⟩:=c;exact SeqAt.RcNeAt.bool_int a b t
  |str b=>obtain⟨t,rfl⟩:=c;exact SeqAt.RcNeAt.bool_str a b t
  |_=>exact absurd (show vG=vF from f) zk
 |int a=>
  obtain⟨d,rfl⟩:=e;cases x with
  |non=>cases c;exact SeqAt.RcNeAt.int_none a d
  |bl b=>cases c;exact SeqAt.RcNeAt.int_bool a d b
  |int b=>obtain⟨t,rfl⟩:=c;exact SeqAt.RcNeAt.int_int a d b t
  |str b=>obtain⟨t,rfl⟩:=c;exact SeqAt.RcNeAt.int_str a d b t
  |_=>exact absurd (show vG=vF from f) zk
 |str a=>
  obtain⟨d,rfl⟩:=e;cases x with
  |non=>cases c;exact SeqAt.RcNeAt.str_none a d
  |bl b=>cases c;exact SeqAt.RcNeAt.str_bool a d b
  |int b=>obtain⟨t,rfl⟩:=c;exact SeqAt.RcNeAt.str_int a d b t
  |str b=>obtain⟨t,rfl⟩:=c;exact SeqAt.RcNeAt.str_str a d b t
  |_=>exact absurd (show vG=vF from f) zk
 |_=>exact absurd (show vG=vF from g) zk
end
section
variable{X:Cx}{E:XK}{vC:List (xz×Obj)}{σ:St}{s:xB}
theorem ZLl(v:V)(h:Dc v=vF):eqV v v=vF:=by cases v<;>first|rfl|exact absurd (show vG=vF from h) zk|(simp[eqV])
theorem ZER(I:Inv X vC σ a.H s)(hk:a.K=X.K)(F:Sim a G):∀(n:Nat){d e:D}{x:V}{k:Bool},Rep a d x->Rep a e x->eqD n G d e=vD k->k=vF
 |0,_,_,_,_,_,_,h=>by cases h
 | n+1,d,e,x,k,S,M,h=>by
  have o:=Rr F S;have m:=Rr F M;have r:∀{A B:List D}{q:List V}{b:Bool},Reps a A q->Reps a B q->eqZ (eqD n G) A B=vD b->b=vF:=λ{A B q b}y u C=>by obtain⟨f,Q,O⟩:=Uy C;rw[O,qy];intro j P;have N:j<min A.length B.length:=qq.mp P;have l:A[j]?=vD (A[j]'(by lia)):=zX (by lia);have g:B[j]?=vD (B[j]'(by lia)):=zX (by lia);obtain⟨Z,c,T⟩:=y.get l;obtain⟨v2,i,W⟩:=u.get g;rw[c]at i;cases i;exact ZER I hk F n T W (Q j _ _ l g)
  unfold eqD at h
  try dsimp only at h
  revert h o m
  cases view G d<;>cases view G e<;>intro o m h<;>dsimp only at h o m<;>first
   |cases h
   |skip
  ·
   rename_i v w;obtain⟨rfl,t⟩:=o;obtain⟨rfl,Y⟩:=m;exact ZLl _ t
  ·obtain⟨rfl,t⟩:=o;obtain⟨p,q,c,_⟩:=m;subst c;cases t
  ·obtain⟨rfl,t⟩:=o;obtain⟨p,q,c,_⟩:=m;subst c;cases t
  ·obtain⟨rfl,t⟩:=m;obtain⟨p,q,c,_⟩:=o;subst c;cases t
  ·obtain⟨p,q,c,l,y⟩:=o;obtain⟨J,z,i,g,u⟩:=m;rw[c]at i;cases i;rw[hk]at l g;cases I.Vm l g;split at h
   ·exact r y u h
   ·rename_i L;exact absurd (y.length.trans u.length.symm) L
  ·obtain⟨p,q,c,l,y⟩:=o;obtain⟨J,z,i,g,u⟩:=m;rw[c]at i;cases i;rw[hk]at l g;obtain⟨_,_,pl,_⟩:=I.list l;obtain⟨_,_,pt,_⟩:=I.tuple g;exact absurd rfl (SeqAt.ne_of_list_tuple pl.isList pt)
  ·obtain⟨rfl,t⟩:=m;obtain⟨p,q,c,_⟩:=o;subst c;cases t
  ·obtain⟨p,q,c,l,y⟩:=o;obtain⟨J,z,i,g,u⟩:=m;rw[c]at i;cases i;rw[hk]at l g;obtain⟨_,_,pl,_⟩:=I.list g;obtain⟨_,_,pt,_⟩:=I.tuple l;exact absurd rfl (SeqAt.ne_of_list_tuple pl.isList pt)
  ·obtain⟨p,q,c,l,y⟩:=o;obtain⟨J,z,i,g,u⟩:=m;rw[c]at i;cases i;rw[hk]at l g;cases I.Yz l g;split at h
   ·rename_i b C;have U:(b&&_)=k:=Option.some.inj h;rw[<-U,r y u C,y.length,u.length];simp
   ·cases h
theorem Sw(r:Reps a xs vs)(q:Vals vs its)(h:j<its.toArray.size):∃d v,xs[j]?=vD d/\Rep a d v/\RelV v its.toArray[j]:=by
 have b:j<its.length:=by simpa using h
 have g:j<vs.length:=by rw[q.length];exact b
 obtain⟨v,e⟩:∃v,vs[j]?=vD v:=⟨vs[j],zX g⟩;obtain⟨d,i,k⟩:=r.get' e;obtain⟨u,c,f⟩:=q.get e;have l:u=its.toArray[j]:=by have:its[j]?=vD its[j]:=zX b;rw[this]at c;simpa using(Option.some.inj c).symm
 exact⟨d,v,i,k,by rw[<-l];exact f⟩
theorem R6(I:Inv X vC σ a.H s)(hk:a.K=X.K)(sm:Sim a G):∀(n:Nat){A:xj}{d e:D}{x y:V}{u w:xD}{k:Bool},A.units+n<cLine->Rep a d x->Rep a e y->RelV x u->RelV y w->eqD n G d e=vD k->
  SeqAt.EqAt A s u w k/\SeqAt.RcAt A s u w k/\SeqAt.RcNeAt A s u w (!k)
 |0,_,_,_,_,_,_,_,_,_,_,_,_,_,h=>by cases h
 | n + 1,A,d,e,x,y,u,w,k,hu,rd,re,o,l,h=>by
  have L:=Rr sm rd;have J:=Rr sm re;have c:A.units<cLine:=by lia
  have hu2:A.in1.units+n<cLine:=by show A.units+1+n<cLine;lia
  have C:∀{z:V},Rep a d z->Rep a e z->eqD (n+1) G d e=vD k->k=vF:=λO B r3=>ZER I hk sm (n+1) O B r3
  have h0:=h;unfold eqD at h
  try dsimp only at h
  have M:∀{p q:xz}{k:Bool},(p=q->k=vF)->SeqAt.RcAt A s (.ref p) (.ref q) k->SeqAt.EqAt A s (.ref p) (.ref q) k:=λ{p q k}hs hr=>by
   by_cases e:p=q
   ·rw[hs e,e];exact SeqAt.EqAt.same _
   ·exact SeqAt.EqAt.of_refs e hr
  revert h L J
  cases hvd:view G d<;>cases hve:view G e<;>intro L J h<;>dsimp only at h L J<;>first
   |cases h
   |skip
  ·
   obtain⟨rfl,N⟩:=L;obtain⟨rfl,f2⟩:=J;exact⟨ZF6 o l N f2,ZOy o l N f2,ZRw o l N f2⟩
  ·
   obtain⟨rfl,N⟩:=L;obtain⟨q,W,rfl,m,B⟩:=J;cases l;rw[hk]at m;obtain⟨i,qv,pl,_⟩:=I.list m;cases x with
   |non=>cases o;exact⟨SeqAt.EqAt.none_list pl.isList c,SeqAt.RcAt.none_list pl.isList c,SeqAt.RcNeAt.none_list pl.isList c⟩
   |bl b=>cases o;exact⟨SeqAt.EqAt.bool_list b pl.isList c,SeqAt.RcAt.bool_list b pl.isList c,SeqAt.RcNeAt.bool_list b pl.isList c⟩
   |int b=>obtain⟨t,rfl⟩:=o;exact⟨SeqAt.EqAt.int_list b t pl.isList c,SeqAt.RcAt.int_list b t pl.isList c,SeqAt.RcNeAt.int_list b t pl.isList c⟩
   |str b=>obtain⟨t,rfl⟩:=o;exact⟨SeqAt.EqAt.str_list b t pl.isList c,SeqAt.RcAt.str_list b t pl.isList c,SeqAt.RcNeAt.str_list b t pl.isList c⟩
   |_=>exact absurd (show vG=vF from N) zk
  ·
   obtain⟨rfl,N⟩:=L;obtain⟨q,W,rfl,m,B⟩:=J;cases l;rw[hk]at m;obtain⟨i,qv,pl,_⟩:=I.tuple m;cases x with
   |non=>cases o;exact⟨SeqAt.EqAt.none_tuple pl c,SeqAt.RcAt.none_tuple pl c,SeqAt.RcNeAt.none_tuple pl c⟩
   |bl b=>cases o;exact⟨SeqAt.EqAt.bool_tuple b pl c,SeqAt.RcAt.bool_tuple b pl c,SeqAt.RcNeAt.bool_tuple b pl c⟩
   |int b=>obtain⟨t,rfl⟩:=o;exact⟨SeqAt.EqAt.int_tuple b t pl c,SeqAt.RcAt.int_tuple b t pl c,SeqAt.RcNeAt.int_tuple b t pl c⟩
   |str b=>obtain⟨t,rfl⟩:=o;exact⟨SeqAt.EqAt.str_tuple b t pl c,SeqAt.RcAt.str_tuple b t pl c,SeqAt.RcNeAt.str_tuple b t pl c⟩
   |_=>exact absurd (show vG=vF from N) zk
  ·
   obtain⟨rfl,N⟩:=J;obtain⟨q,W,rfl,m,B⟩:=L;cases o;rw[hk]at m;obtain⟨i,qv,pl,_⟩:=I.list m;cases y with
   |non=>cases l;exact⟨SeqAt.EqAt.list_none pl.isList c,SeqAt.RcAt.list_none pl.isList c,SeqAt.RcNeAt.list_none pl.isList c⟩
   |bl b=>cases l;exact⟨SeqAt.EqAt.list_bool b pl.isList c,SeqAt.RcAt.list_bool b pl.isList c,SeqAt.RcNeAt.list_bool b pl.isList c⟩
   |int b=>obtain⟨t,rfl⟩:=l;exact⟨SeqAt.EqAt.list_int b t pl.isList c,SeqAt.RcAt.list_int b t pl.isList c,SeqAt.RcNeAt.list_int b t pl.isList c⟩
   |str b=>obtain⟨t,rfl⟩:=l;exact⟨SeqAt.EqAt.list_str b t pl.isList c,SeqAt.RcAt.list_str b t pl.isList c,SeqAt.RcNeAt.list_str b t pl.isList c⟩
   |_=>exact absurd (show vG=vF from N) zk
  ·
   obtain⟨p,W,rfl,S,O⟩:=L;obtain⟨q,T,rfl,m,B⟩:=J;cases o;cases l;rw[hk]at S m;obtain⟨i,q1,v,_⟩:=I.list S;obtain⟨g,q2,r,_⟩:=I.list m;have Q:i.toArray.size=W.length:=by rw[zY];exact q1.length.symm
   have U:g.toArray.size=T.length:=by rw[zY];exact q2.length.symm
   split at h
   ·rename_i hl;obtain⟨f,hf,hb⟩:=Uy h;have F:i.toArray.size=g.toArray.size:=by rw[Q,U,<-O.length,<-B.length];exact hl
    have he:∀j(g1:j<i.toArray.size)(g2:j<g.toArray.size),SeqAt.EqAt A.in1 s i.toArray[j] g.toArray[j] (f j):=λj g1 g2=>by obtain⟨d1,v1,e1,Z,Y⟩:=Sw O q1 g1;obtain⟨d2,v2,e2,rd2,rv2⟩:=Sw B q2 g2;exact(R6 I hk sm n hu2 Z rd2 Y rv2 (hf j d1 d2 e1 e2)).1
    have P:k=(zQ i.toArray.size).all f:=by
     rw[hb]
     congr 2
     rw[Q,<-O.length,hl];lia
    have rc:SeqAt.RcAt A s (.ref p) (.ref q) k:=by rw[P];exact SeqAt.RcAt.lists v.isList r.isList F c he
    refine⟨M (λe=>?_) rc,rc,by rw[P];exact SeqAt.RcNeAt.lists v.isList r.isList F c he⟩;subst e;exact C rd re h0
   ·rename_i hl;have h':vG=k:=Option.some.inj h;subst h';have F:(i.toArray.size != g.toArray.size)=vF:=by rw[bne_iff_ne,Q,U,<-O.length,<-B.length];exact hl
    refine⟨M (λe=>?_) (SeqAt.RcAt.lists_lengths v.isList r.isList F c),SeqAt.RcAt.lists_lengths v.isList r.isList F c,SeqAt.RcNeAt.lists_lengths v.isList r.isList F c⟩;subst e;exact C rd re h0
  ·
   obtain⟨p,W,rfl,S,O⟩:=L;obtain⟨q,T,rfl,m,B⟩:=J;cases o;cases l;rw[hk]at S m;obtain⟨i,q1,v,_⟩:=I.list S;obtain⟨g,q2,r,_⟩:=I.tuple m;exact⟨SeqAt.EqAt.list_tuple v.isList r c,SeqAt.RcAt.list_tuple v.isList r c,SeqAt.RcNeAt.list_tuple v.isList r c⟩
  ·
   obtain⟨rfl,N⟩:=J;obtain⟨q,W,rfl,m,B⟩:=L;cases o;rw[hk]at m;obtain⟨i,qv,pl,_⟩:=I.tuple m;cases y with
   |non=>cases l;exact⟨SeqAt.EqAt.tuple_none pl c,SeqAt.RcAt.tuple_none pl c,SeqAt.RcNeAt.tuple_none pl c⟩
   |bl b=>cases l;exact⟨SeqAt.EqAt.tuple_bool b pl c,SeqAt.RcAt.tuple_bool b pl c,SeqAt.RcNeAt.tuple_bool b pl c⟩
   |int b=>obtain⟨t,rfl⟩:=l;exact⟨SeqAt.EqAt.tuple_int b t pl c,SeqAt.RcAt.tuple_int b t pl c,SeqAt.RcNeAt.tuple_int b t pl c⟩
   |str b=>obtain⟨t,rfl⟩:=l;exact⟨SeqAt.EqAt.tuple_str b t pl c,SeqAt.RcAt.tuple_str b t pl c,SeqAt.RcNeAt.tuple_str b t pl c⟩
   |_=>exact absurd (show vG=vF from N) zk
  ·
   obtain⟨p,W,rfl,S,O⟩:=L;obtain⟨q,T,rfl,m,B⟩:=J;cases o;cases l;rw[hk]at S m;obtain⟨i,q1,v,_⟩:=I.tuple S;obtain⟨g,q2,r,_⟩:=I.list m;exact⟨SeqAt.EqAt.tuple_list v r.isList c,SeqAt.RcAt.tuple_list v r.isList c,SeqAt.RcNeAt.tuple_list v r.isList c⟩
  ·
   rename_i xs ys;obtain⟨p,W,rfl,S,O⟩:=L;obtain⟨q,T,rfl,m,B⟩:=J;cases o;cases l;rw[hk]at S m;obtain⟨i,q1,v,_⟩:=I.tuple S;obtain⟨g,q2,r,_⟩:=I.tuple m;have Q:i.toArray.size=xs.length:=by rw[zY,O.length];exact q1.length.symm
   have U:g.toArray.size=ys.length:=by rw[zY,B.length];exact q2.length.symm
   split at h
   ·rename_i b hz;have h':(b&&xs.length==ys.length)=k:=Option.some.inj h;obtain⟨f,hf,hb⟩:=Uy hz;have he:∀j(g1:j<i.toArray.size)(g2:j<g.toArray.size),SeqAt.EqAt A.in1 s i.toArray[j] g.toArray[j] (f j):=λj g1 g2=>by obtain⟨d1,v1,e1,Z,Y⟩:=Sw O q1 g1;obtain⟨d2,v2,e2,rd2,rv2⟩:=Sw B q2 g2;exact(R6 I hk sm n hu2 Z rd2 Y rv2 (hf j d1 d2 e1 e2)).1
    have P:k=((zQ (min i.toArray.size g.toArray.size)).all f&&i.toArray.size==g.toArray.size):=by rw[<-h',hb,Q,U]
    have rc:SeqAt.RcAt A s (.ref p) (.ref q) k:=by rw[P];exact SeqAt.RcAt.tuples v r c he
    refine⟨M (λe=>?_) rc,rc,by rw[P];exact SeqAt.RcNeAt.tuples v r c he⟩;subst e;exact C rd re h0
   ·cases h
def Bl(d e:D)(G:DH):R D:=match eqD 30 G d e with
 |some k=>.ok (.bl k) G
 |none=>.bad
def Gx(d e:D)(G:DH):R D:=match eqD 30 G d e with
 |some k=>.ok (.bl (!k)) G
 |none=>.bad
theorem o_eq(m:X.A.units+64<cLine):OpR X (xR .Eq) (lR2 X.K E Bl):=by
 intro c s n H x y v u Q I g i ⟨a,G,d,e,hk,l,b,j,f,q⟩;subst l;unfold Bl at q;split at q
 ·rename_i k h;exact(R6 I hk b 30 (by lia) j f g i h).2.1 _ _ _ _ ⟨.bl k,a.H,I,rfl,q a _ (Ext.refl a) b rfl⟩
 ·exact q.elim
theorem o_ne(m:X.A.units+64<cLine):OpR X (xR .NotEq) (lR2 X.K E Gx):=by
 intro c s n H x y v u Q I g i ⟨a,G,d,e,hk,l,b,j,f,q⟩;subst l;unfold Gx at q;split at q
 ·rename_i k h;exact(R6 I hk b 30 (by lia) j f g i h).2.2 _ _ _ _ ⟨.bl (!k),a.H,I,rfl,q a _ (Ext.refl a) b rfl⟩
 ·exact q.elim
end
noncomputable abbrev DG:=D->DSt->DH->R DSt
def Eu(E:XK)(a:Wd)(r:R DSt)(Q:St->Hp->Prop):Prop:=match r with
 |.ok S G=>∀(b:Wd)(σ:St),Ext a b->Sim b G->RepS b S σ->Q σ b.H
 |.err x G=>XOk E a x G
 |.bad=>False
def lG(K:PySem.W.Frag)(E:XK)(t:DG):TG:=λv σ H Q=>∃(a:Wd)(S:DSt)(G:DH)(d:D),a.K=K/\a.H=H/\Sim a G/\RepS a S σ/\Rep a d v/\Eu E a (t d S G) Q
def QG(X:Cx)(E:XK)(tg:xw)(t:DG):Prop:=PG X tg (lG X.K E t)
noncomputable abbrev DGs:=List D->DSt->DH->R DSt
def lGs(K:PySem.W.Frag)(E:XK)(t:DGs):TGs:=λvs σ H Q=>∃(a:Wd)(S:DSt)(G:DH)(ds:List D),a.K=K/\a.H=H/\Sim a G/\RepS a S σ/\Reps a ds vs/\Eu E a (t ds S G) Q
def QGs(X:Cx)(E:XK)(tg:List xw)(t:DGs):Prop:=PGs X tg (lGs X.K E t)
noncomputable def gV(i:Nat):DG:=λd S G=>.ok (S.set i (vD d)) G
noncomputable def Aw:DGs:=λds S G=>match ds with
 |[]=>.ok S G
 |_=>.bad
def Ae(t:DG)(u:DGs):DGs:=λds S G=>match ds with
 |d::r=>(t d S G).bind λS1 G1=>u r S1 G1
 |[]=>.bad
noncomputable def Ao(n:Nat)(t:DGs):DG:=λd S G=>match d with
 |.tup ds=>if ds.length=n then t ds S G else .bad
 |_=>.bad
theorem Eu.imp(h:Eu E a r Q)(w:∀v H,Q v H->Q' v H):Eu E a r Q':=by
 cases r with
 |ok d G=>exact λb v x s q=>w _ _ (h b v x s q)
 |err e G=>exact h
 |bad=>exact h
theorem Eu.mono(x:Ext a b)(h:Eu E a r Q):Eu E b r Q:=by
 cases r with
 |ok d G=>exact λc v y s q=>h c v (x.trans y) s q
 |err e G=>exact XOk.mono (E:=E) (e:=e) (G:=G) x h
 |bad=>exact h
theorem ZPg(h:Eu E a (r.bind f) Q):
  Eu E a r (λc H=>∃(b:Wd)(S:DSt)(G:DH),b.H=H/\Ext a b/\Sim b G/\RepS b S c/\r=.ok S G/\Eu E b (f S G) Q):=by
 cases r with
 |ok d G=>exact λb v x s q=>⟨b,d,G,rfl,x,s,q,rfl,Eu.mono x h⟩
 |err e G=>exact h
 |bad=>exact h
theorem ZDR(h:Eu E a (r.bind f) Q):
  out E a r (λv H=>∃(b:Wd)(d:D)(G:DH),b.H=H/\Ext a b/\Sim b G/\Rep b d v/\r=.ok d G/\Eu E b (f d G) Q):=by
 cases r with
 |ok d G=>exact λb v x s q=>⟨b,d,G,rfl,x,s,q,rfl,Eu.mono x h⟩
 |err e G=>exact h
 |bad=>exact h
theorem ZHH(h:Bv E a (r.toS f) W):
  Eu E a r (λc H=>∃(b:Wd)(S:DSt)(G:DH),b.H=H/\Ext a b/\Sim b G/\RepS b S c/\r=.ok S G/\Bv E b (f S G) W):=by
 cases r with
 |ok d G=>exact λb v x s q=>⟨b,d,G,rfl,x,s,q,rfl,Bv.mono x h⟩
 |err e G=>exact h
 |bad=>exact h
section
variable{X:Cx}{E:XK}
theorem _root_._L.PG.mono(h:PG X e t)(w:∀v a H Q,t' v a H Q->t v a H Q):PG X e t':=λb s a H v u Q I r q=>h b s a H v u Q I r (w v a H Q q)
theorem _root_._L.PGs.mono(h:PGs X e t)(w:∀v a H Q,t' v a H Q->t v a H Q):PGs X e t':=λb s a H v u Q I r q=>h b s a H v u Q I r (w v a H Q q)
theorem ZTe(i:Nat){x:Str}{pos:Pos}(b:X.N.Nodup)(hi:X.N[i]?=vD x:=by rfl)(c:Loc X.env.scope x:=by first|exact Or.inl rfl|exact Or.inr rfl)
  (f:X.fn x=vF∨X.env.scope.names.lookup x=vD .local:=by first|exact .inl rfl|exact .inr rfl|assumption):QG X E (.Name x pos) (gV i):=
 (ZJ7 b hi c f).mono λv g H Q h=>by obtain⟨a,S,G,d,hk,rfl,s,r,q,h⟩:=h;exact h a _ (Ext.refl a) s (r.set i q)
theorem ZTa:QGs X E [] Aw:=ZKK.mono λf c H Q h=>by
 obtain⟨a,S,G,b,hk,rfl,s,r,q,h⟩:=h;cases b with
 |nil=>exact⟨q,h a c (Ext.refl a) s r⟩
 |cons d b=>exact h.elim
theorem ZSu(f:QG X E e t)(m:QGs X E es u)
  (g:(xF (e::es) X.env).map (·.2)=assign e X.env::(xF es X.env).map (·.2):=by rfl):QGs X E (e::es) (Ae t u):=(ZKY f m g).mono λz A H Q h=>by
 obtain⟨a,S,G,c,hk,rfl,s,r,q,h⟩:=h;cases c with
 |nil=>exact h.elim
 |cons d c=>
  obtain⟨v,rest,p,j,w⟩:=q;refine⟨v,rest,p,a,S,G,d,hk,rfl,s,r,j,(ZPg h).imp ?_⟩;rintro i _ ⟨b,n,l,rfl,x,o,y,_,f⟩;exact⟨b,n,l,c,x.k.trans hk,rfl,o,y,w.mono x,f⟩
theorem ZSp{es:List xw}{k:Nat}{t:DGs}{n:Nat}{pos:Pos}(g:X.calm=vF)(h:QGs X E es t)
  (j:(xF es X.env).length=n:=by rfl) (b:(xF es X.env).findIdx? (·.1)=vE:=by rfl):QG X E (.Tuple es k pos) (Ao n t):=(ZRW g h j b).mono λv o H Q h=>by
 obtain⟨a,S,G,d,hk,rfl,s,r,q,h⟩:=h;cases d with
 |tup i=>
  obtain⟨p,m,e,l,c⟩:=q;unfold Ao at h;dsimp only at h;split at h
  ·rename_i f;exact⟨p,m,e,by rw[<-hk];exact l,by rw[<-c.length];exact f,a,S,G,i,hk,rfl,s,r,c,h⟩
  ·exact h.elim
 |_=>exact h.elim
def Jw(o i v:D)(G:DH):R D:=match o,i with
 | .ref p,.int k=>match G[p]? with
  |some (.lst xs)=>match ixN xs.length k with
   |some j=>.ok .non (G.set p (.lst (xs.set j v)))
   |none=>.bad
  |_=>.bad
 |_,_=>.bad
def gIx(to ti:DE):DG:=λv S G=>(to S G).bind λo G1=>(ti S G1).bind λi G2=>(Jw o i v G2).bind λ_ G3=>.ok S G3
theorem Xf(s:Sim a G)(hi:i<a.n)(h:a.H (a.m i)=vD (.lst vs))(r:Reps a ds' vs'):
  Ext a (a.put (a.m i) (.lst vs'))/\Sim (a.put (a.m i) (.lst vs')) (G.set i (.lst ds')):=⟨Ext.wr h,s.wr hi h (r.mono (Ext.wr h))⟩
theorem ZRb(ho:QE X E o to)(hi:QE X E i ti)
  (C:∀v,assign (.Subscript o i pos) X.env v=(do
   let ov<-holding [v] (eval o X.env);let iv<-holding [v,ov] (eval i X.env)
   standAt pos
   holding [v,ov,iv] (setItem ov iv v)
   release [v,ov,iv] []):=by intro _;rfl):QG X E (.Subscript o i pos) (gIx to ti):=(ZKF ho hi set_list C).mono λv M H Q h=>by
 obtain⟨a,S,G,d,hk,rfl,s,r,q,h⟩:=h;refine⟨a,S,G,hk,rfl,s,r,(ZDR h).imp ?_⟩;rintro ov _ ⟨b,e,L,rfl,x,J,N,_,O⟩;refine⟨b,S,L,x.k.trans hk,rfl,J,r.mono x,(ZDR O).imp ?_⟩;rintro iv _ ⟨c,f,T,rfl,y,n,P,_,g⟩;cases e with
 | ref p=>
  cases f with
  | int k=>
   unfold Jw at g;dsimp only at g;split at g
   ·rename_i U F;split at g
    ·rename_i j K;obtain⟨I,w,z⟩:=n.lst F;have l:=N.mono y;have rv:=(q.mono x).mono y;obtain⟨A,B⟩:=Xf n l.1 w (z.set rv j);refine⟨c.m p,I,k,j,l.2,P,w,by rw[<-z.length];exact K,?_⟩;exact g _ M A B (((r.mono x).mono y).mono A)
    ·exact g.elim
   ·exact g.elim
  |_=>exact g.elim
 |_=>exact g.elim
variable{st:xC}{rest:List xC}{t u:DS}{e:xw}{te:DE}{pos:Pos}
noncomputable def sNx:DS:=λS G=>.nx S G
noncomputable def Ac(t u:DS):DS:=λS G=>match t S G with
 |.nx S1 G1=>u S1 G1
 |r=>r
def sEx(te:DE):DS:=λS G=>(te S G).toS λ_ G1=>.nx S G1
def sRt(te:DE):DS:=λS G=>(te S G).toS λd G1=>.rt d G1
def sIf(c:DB)(t u:DS):DS:=λS G=>(c S G).toS λk G1=>if k=vF then t S G1 else u S G1
def sAs(te:DE)(g:DG):DS:=λS G=>(te S G).toS λd G1=>(g d S G1).toS λS2 G2=>.nx S2 G2
def sAu(i:Nat)(te:DE)(f:D->D->DH->R D):DS:=λS G=>match S[i]? with
 |some (vD x)=>(te S G).toS λy G1=>(f x y G1).toS λz G2=>.nx (S.set i (vD z)) G2
 |_=>.bad
theorem Lz:QSs X E [] sNx:=ZKk.mono λW b H h=>by obtain⟨a,S,G,hk,rfl,s,r,h⟩:=h;exact h a b (Ext.refl a) s r
theorem Bv.nxOf{E:XK}{a:Wd}{t u:DS}{S:DSt}{G:DH}{K:PySem.W.Frag}(hk:a.K=K){W:Ends}(h:Bv E a (Ac t u S G) W):Bv E a (t S G) {W with nx:=lS K E u W}:=by
 unfold Ac at h
 revert h
 cases t S G<;>intro h
 ·exact λb c x s r=>⟨b,_,_,x.k.trans hk,rfl,s,r,Bv.mono x h⟩
 all_goals exact h
theorem Ga(b:QS X E st t)(c:QSs X E rest u):QSs X E (st::rest) (Ac t u):=(ZOZ b c).mono λW d H h=>by obtain⟨a,S,G,hk,rfl,s,r,h⟩:=h;exact⟨a,S,G,hk,rfl,s,r,h.nxOf hk⟩
theorem Hv(a:QS X E st t):QSs X E [st] t:=ZRa a
theorem ZLs(f:QE X E e te)(c:swapsWith e vE pos.line X.env=pure vG:=by rfl):QS X E (.Expr e pos) (sEx te):=(ZTi f c).mono λW i H h=>by obtain⟨a,S,G,hk,rfl,s,r,h⟩:=h;refine⟨a,S,G,hk,rfl,s,r,(Gw h).imp ?_⟩;rintro v _ ⟨b,d,k,rfl,x,j,q,_,g⟩;exact g b i (Ext.refl b) j (r.mono x)
theorem Y8(c:QE X E e te):QS X E (.Return (vD e) pos) (sRt te):=(ZQU c).mono λW j H h=>by obtain⟨a,S,G,hk,rfl,s,r,h⟩:=h;refine⟨a,S,G,hk,rfl,s,r,(Gw h).imp ?_⟩;rintro v _ ⟨b,d,i,rfl,x,g,q,_,f⟩;exact f b v (Ext.refl b) g q
theorem Mj(i:QT X E c tc)(j:QSs X E a t)(l:QSs X E b u):QS X E (.If c a b pos) (sIf tc t u):=(ZSV i j l).mono λW m H h=>by
 obtain⟨a,S,G,hk,rfl,s,r,h⟩:=h;refine⟨a,S,G,hk,rfl,s,r,(ZFQ h).imp ?_⟩;rintro k _ ⟨b,d,rfl,x,g,_,f⟩;cases k with
 |true=>exact⟨b,S,d,x.k.trans hk,rfl,g,r.mono x,f⟩
 |false=>exact⟨b,S,d,x.k.trans hk,rfl,g,r.mono x,f⟩
theorem ZP0{K:PySem.W.Frag}{g:DG}{W:Ends}{i:St}{H:Hp}(h:lS K E (sAs te g) W i H):Xr (lE K E te) (lG K E g) W i H:=by obtain⟨a,S,G,hk,rfl,s,r,h⟩:=h;refine⟨a,S,G,hk,rfl,s,r,(Gw h).imp ?_⟩;rintro v _ ⟨b,d,m,rfl,x,o,q,_,n⟩;refine⟨b,S,m,d,x.k.trans hk,rfl,o,r.mono x,q,(ZHH n).imp ?_⟩;rintro f _ ⟨c,w,z,rfl,y,j,p,_,l⟩;exact l c f (Ext.refl c) j p
theorem ZT3(d:QE X E e te)(b:QG X E tg g)(c:swapsWithSole [tg] e pos.line X.env=pure vG:=by rfl)(hw:swappedStores [tg] e X.env=pure vE:=by rfl)
  (a:(xF [tg] X.env).map (·.2)=[assign tg X.env]:=by rfl):QS X E (.Assign [tg] e pos) (sAs te g):=(ZNU d b c hw a).mono λ_ _ _ h=>ZP0 h
theorem ZSE(i:Nat){x:Str}{c:Pos}(k:X.N.Nodup)(g:QE X E e te)(hi:X.N[i]?=vD x:=by rfl)(l:Loc X.env.scope x:=by first|exact Or.inl rfl|exact Or.inr rfl)(f:swapsWith e (vD (.Name x c)) pos.line X.env=pure vG:=by rfl)
  (j:X.fn x=vF∨X.env.scope.names.lookup x=vD .local:=by first|exact .inl rfl|exact .inr rfl|assumption):QS X E (.Assign [.Name x c] e pos) (sAs te (gV i)):=
 (ZJ6 k hi l g f j).mono λW p H h=>by obtain⟨a,S,G,hk,rfl,s,r,h⟩:=h;refine⟨a,S,G,hk,rfl,s,r,(Gw h).imp ?_⟩;rintro v _ ⟨b,d,o,rfl,x,n,q,_,m⟩;exact m b _ (Ext.refl b) n ((r.mono x).set i q)
theorem ZMU(i:Nat){x:Str}{op:Operator}{f:D->D->DH->R D}{g:Pos}(C:X.N.Nodup)(l:QE X E e te)(ho:OpR X (inplaceOp op) (lR2 X.K E f))(hi:X.N[i]?=vD x:=by rfl)(F:Loc X.env.scope x:=by first|exact Or.inl rfl|exact Or.inr rfl)
  (m:X.fn x=vF∨X.env.scope.names.lookup x=vD .local:=by first|exact .inl rfl|exact .inr rfl|assumption):QS X E (.AugAssign (.Name x g) op e pos) (sAu i te f):=
 (ZMc (ti:=lR2 X.K E f) C hi F l ho m).mono λW P H h=>by
  obtain⟨a,S,G,hk,rfl,s,r,h⟩:=h;unfold sAu at h;split at h
  ·rename_i d A;obtain⟨v,L,q⟩:=r.get i d A;refine⟨v,L,a,S,G,hk,rfl,s,r,(Gw h).imp ?_⟩;rintro w _ ⟨b,n,p,rfl,x,J,B,_,I⟩;refine⟨b,p,d,n,x.k.trans hk,rfl,J,q.mono x,B,(Gw I).imp ?_⟩;rintro z _ ⟨c,Q,O,rfl,y,j,M,_,o⟩;exact o c _ (Ext.refl c) j (((r.mono x).mono y).set i M)
  ·exact h.elim
def Jk:D->D->DH->R D
 |.int i,.int j,G=>.ok (.int (i+j)) G
 |.str i,.str j,G=>if i.length+j.length<=1000000 then .ok (.str (i++j)) G else .bad
 |_,_,_=>.bad
theorem ZPW:OpR X (inplaceOp .Add) (lR2 X.K E Jk):=Fp (OpR.or (r:=ipI λi j=>i+j) ZS0 ZLd) λa G d e x y Q hk s rd re q=>by
 cases d<;>cases e<;>first
  |exact q.elim
  |exact .inl ⟨_,_,rd,re,q a _ (Ext.refl a) s rfl⟩
  | (
    unfold Jk at q;dsimp only at q;split at q
    ·rename_i hl;exact .inr ⟨_,_,rd,re,zA hl size6,q a _ (Ext.refl a) s rfl⟩
    ·exact q.elim)
theorem ZNX:OpR X (inplaceOp .Sub) (lR2 X.K E Eb):=Fp (r:=ipI λi j=>i-j) ZKQ λa G d e x y Q hk s c b q=>by
 cases d<;>cases e<;>first
  |exact q.elim
  |exact⟨_,_,c,b,q a _ (Ext.refl a) s rfl⟩
end
noncomputable def aft(r:SR)(k:DSt->DH->SR)(_:Fx k:=()):SR:=match r with
 |.nx S G=>k S G
 |.ct S G=>k S G
 |.bk S G=>.nx S G
 |r=>r
def Aq(g:DG)(b:DS):List D->DS
 |[],S,G=>.nx S G
 |x::xs,S,G=>(g x S G).toS λS1 G1=>aft (b S1 G1) (Aq g b xs)
def forM(i:Nat)(g:DG)(b:DS):Nat->Nat->DS
 |0,j,S,G=>match G[i]? with
  |some (.lst xs)=>if xs.length<=j then .nx S G else .bad
  |_=>.bad
 | k+1,j,S,G=>match G[i]? with
  |some (.lst xs)=>match xs[j]? with
   |some x=>(g x S G).toS λS1 G1=>aft (b S1 G1) (forM i g b k (j+1))
   |none=>.nx S G
  |_=>.bad
def Dh(f:Nat->DH->Option (Option D))(g:DG)(b:DS):Nat->Nat->DS
 |0,j,S,G=>match f j G with
  |some vE=>.nx S G
  |_=>.bad
 |k+1,j,S,G=>match f j G with
  |some (vD x)=>(g x S G).toS λS1 G1=>aft (b S1 G1) (Dh f g b k (j+1))
  |some vE=>.nx S G
  |none=>.bad
inductive ItD where
 |pure (xs:List D)
 |mt (i:Nat)
 |fn (n:Nat) (f:Nat->DH->Option (Option D))
noncomputable abbrev DI:=DSt->DH->R ItD
def Cd(it:DI)(g:DG)(b:DS):DS:=λS G=>(it S G).toS λJ G1=>match J with
 |.pure xs=>Aq g b xs S G1
 |.mt i=>match G1[i]? with
  |some (.lst xs)=>forM i g b xs.length 0 S G1
  |_=>.bad
 |.fn n f=>Dh f g b n 0 S G1
def RepI(a:Wd):ItD->It->Prop
 |.pure xs,J=>∃vs:List V,Reps a xs vs/\∀b:Wd,Ext a b->∀i,(∀v,vs[i]?=vD v->J.go i b.H/\∀x H',J.yld i b.H x H'->x=v/\H'=b.H)/\(vs.length<=i->J.stop i b.H)
 |.mt k,J=>k<a.n/\∀b:Wd,Ext a b->∀vs,b.H (b.m k)=vD (.lst vs)->∀i,(∀v,vs[i]?=vD v->J.go i b.H/\∀x H',J.yld i b.H x H'->x=v/\H'=b.H)/\(vs.length<=i->J.stop i b.H)
 |.fn _ f,J=>∀b:Wd,Ext a b->∀G,Sim b G->∀i,(∀d,f i G=vD (vD d)->J.go i b.H/\∀x H',J.yld i b.H x H'->∃c:Wd,c.H=H'/\Ext b c/\Sim c G/\Rep c d x)/\(f i G=vD vE->J.stop i b.H)
def outI(E:XK)(a:Wd)(r:R ItD)(Q:It->Hp->Prop):Prop:=match r with
 |.ok J G=>∀(b:Wd)(JJ:It),Ext a b->Sim b G->RepI b J JJ->Q JJ b.H
 |.err x G=>XOk E a x G
 |.bad=>False
def lI(K:PySem.W.Frag)(E:XK)(t:DI):TI:=λσ H Q=>∃(a:Wd)(S:DSt)(G:DH),a.K=K/\a.H=H/\Sim a G/\RepS a S σ/\outI E a (t S G) Q
def QI(X:Cx)(E:XK)(tg iter:xw)(t:DI):Prop:=PI X tg iter (lI X.K E t)
theorem outI.imp(h:outI E a r Q)(w:∀v H,Q v H->Q' v H):outI E a r Q':=by
 cases r with
 |ok d G=>exact λb v x s q=>w _ _ (h b v x s q)
 |err e G=>exact h
 |bad=>exact h
theorem ZQr(h:Bv E a (r.toS f) W):
  outI E a r (λJ H=>∃(b:Wd)(d:ItD)(G:DH),b.H=H/\Ext a b/\Sim b G/\RepI b d J/\r=.ok d G/\Bv E b (f d G) W):=by
 cases r with
 |ok d G=>exact λb v x s q=>⟨b,d,G,rfl,x,s,q,rfl,Bv.mono x h⟩
 |err e G=>exact h
 |bad=>exact h
theorem ZHB (h:Bv E a (aft r k) W):
  Bv E a r {W with
            nx:=λc H=>∃(b:Wd)(S:DSt)(G:DH),b.H=H/\Ext a b/\Sim b G/\RepS b S c/\Bv E b (k S G) W,
            ct:=λc H=>∃(b:Wd)(S:DSt)(G:DH),b.H=H/\Ext a b/\Sim b G/\RepS b S c/\Bv E b (k S G) W,bk:=W.nx}:=by
 cases r with
 |nx S G=>exact λb c x s q=>⟨b,S,G,rfl,x,s,q,Bv.mono x h⟩
 |ct S G=>exact λb c x s q=>⟨b,S,G,rfl,x,s,q,Bv.mono x h⟩
 |bk S G=>exact h
 |rt d G=>exact h
 |err x G=>exact h
 |bad=>exact h
noncomputable def mtF(i j:Nat)(G:DH):Option (Option D):=match G[i]? with
 |some (.lst xs)=>vD xs[j]?
 |_=>vE
theorem ZGp(r:RepI a (.pure xs) J):RepI a (.fn n λj _=>vD xs[j]?) J:=by
 obtain⟨o,rv,h⟩:=r;refine λb x G f i=>⟨λd e=>?_,λe=>?_⟩
 ·obtain⟨v,l,q⟩:=rv.get (Option.some.inj e);obtain⟨k,c⟩:=(h b x i).1 v l;refine⟨k,λy g m=>?_⟩;obtain⟨rfl,rfl⟩:=c y g m;exact⟨b,rfl,Ext.refl b,f,q.mono x⟩
 ·exact(h b x i).2 (by rw[<-rv.length];exact qT.mp (Option.some.inj e))
theorem ZEk(r:RepI a (.mt k) J):RepI a (.fn n (mtF k)) J:=by
 obtain⟨hk,h⟩:=r;refine λb x G c i=>?_
 unfold mtF;cases j:G[k]? with
 |none=>exact⟨λd e=>(by cases e),λe=>(by cases e)⟩
 | some o=>
  cases o with
  |lst u=>
   obtain⟨f,g,rv⟩:=c.lst j;refine⟨λd e=>?_,λe=>?_⟩
   ·obtain⟨v,s,q⟩:=rv.get (Option.some.inj e);obtain⟨p,l⟩:=(h b x f g i).1 v s;refine⟨p,λy m t=>?_⟩;obtain⟨rfl,rfl⟩:=l y m t;exact⟨b,rfl,Ext.refl b,c,q⟩
   ·exact(h b x f g i).2 (by rw[<-rv.length];exact qT.mp (Option.some.inj e))
  |_=>exact⟨λd e=>(by cases e),λe=>(by cases e)⟩
theorem ZFP{g:DG}{b:DS}{xs:List D}:∀(n j:Nat),j+n=xs.length->Aq g b (xs.drop j)=Dh (λj _=>vD xs[j]?) g b n j
 |0,j,h=>by
  funext S G;rw[qJ (by lia)]
  show SR.nx S G=(match vD xs[j]? with |some vE=>SR.nx S G|_=>.bad)
  rw[zy (by lia)]
 |n+1,j,h=>by
  funext S G;have d:j<xs.length:=by lia
  rw[qQ d]
  show(g xs[j] S G).toS (λc a=>aft (b c a) (Aq g b (xs.drop (j+1))))=(match vD xs[j]? with |some (vD x)=>(g x S G).toS (λc a=>aft (b c a) (Dh (λj _=>vD xs[j]?) g b n (j+1)))|some vE=>SR.nx S G|none=>.bad)
  rw[zX d,ZFP n (j+1) (by lia)]
theorem ZF3:∀(n j:Nat),forM i g b n j=Dh (mtF i) g b n j
 | 0,j=>by
  funext S G;unfold forM Dh mtF;cases G[i]? with
  |none=>rfl
  | some o=>
   cases o with
   |lst a=>
    dsimp only;by_cases c:j<a.length
    ·rw[if_neg (by lia),zX c]
    ·rw[if_pos (by lia),zy (by lia)]
   |_=>rfl
 | n+1,j=>by
  funext S G;unfold forM Dh;rw[ZF3 n (j+1)];unfold mtF;cases G[i]? with
  |none=>rfl
  | some o=>
   cases o with
   |lst a=>
    dsimp only
    cases a[j]?<;>rfl
   |_=>rfl
section
variable{X:Cx}{E:XK}{tg iter:xw}{pos:Pos}
theorem ZL3{K:PySem.W.Frag}{it:DI}{g:DG}{b:DS}{W:Ends}{N:St}{H:Hp}(h:lS K E (Cd it g b) W N H):tFor (lI K E it) (lG K E g) (lS K E b) W N H:=by
 obtain⟨a,S,G,hk,rfl,s,r,h⟩:=h;refine⟨a,S,G,hk,rfl,s,r,(ZQr h).imp ?_⟩;rintro J _ ⟨o,d,G1,rfl,x1,s1,F,_,l⟩;have k1:o.K=K:=x1.k.trans hk
 suffices fnc:∃n f,RepI o (.fn n f) J/\Bv E o (Dh f g b n 0 S G1) W by
  obtain⟨n,f,F,l⟩:=fnc;have walk:∀b:Wd,Ext o b->∀G,Sim b G->∀i,(∀d,f i G=vD (vD d)->J.go i b.H/\∀x p,J.yld i b.H x p->∃c:Wd,c.H=p/\Ext b c/\Sim c G/\Rep c d x)/\(f i G=vD vE->J.stop i b.H):=F;refine⟨λi m N H=>∃(c:Wd)(S:DSt)(G:DH),c.H=H/\Ext o c/\Sim c G/\RepS c S N/\Bv E c (Dh f g b m i S G) W,⟨_,o,S,G1,rfl,Ext.refl _,s1,r.mono x1,l⟩,?_⟩;rintro i m C _ ⟨c,S2,L,rfl,q,v,Q,j⟩;cases m with
  |zero=>
   unfold Dh at j;split at j
   ·rename_i B;exact .inl ⟨(walk c q L v i).2 B,j c C (Ext.refl c) v Q⟩
   ·exact j.elim
  | succ m=>
   unfold Dh at j;split at j
   ·rename_i d B;obtain⟨go,yl⟩:=(walk c q L v i).1 d B;refine .inr ⟨go,λA p=>∃(c:Wd)(S:DSt)(G:DH),c.H=p/\Ext o c/\Sim c G/\RepS c S A/\Bv E c (Dh f g b m (i+1) S G) W,λA p z=>⟨m,qK _,z⟩,λw p y=>?_⟩;obtain⟨cc,rfl,u,ss,rd⟩:=yl w p y;refine⟨cc,S2,L,d,u.k.trans (q.k.trans k1),rfl,ss,Q.mono u,rd,(ZHH (Bv.mono u j)).imp ?_⟩;rintro σ3 _ ⟨c3,S3,G3,rfl,x3,s3,r3,_,h3⟩;have e:=ZHB h3;refine⟨c3,S3,G3,x3.k.trans (u.k.trans (q.k.trans k1)),rfl,s3,r3,?_⟩
    revert e
    cases b S3 G3 with
    | nx O M=>
      intro e Y t U s4 T;obtain⟨c5,P,G5,hh,Z,s5,r5,h5⟩:=e Y t U s4 T;exact⟨c5,P,G5,hh,q.trans (u.trans (x3.trans Z)),s5,r5,h5⟩
    | ct O M=>
      intro e Y t U s4 T;obtain⟨c5,P,G5,hh,Z,s5,r5,h5⟩:=e Y t U s4 T;exact⟨c5,P,G5,hh,q.trans (u.trans (x3.trans Z)),s5,r5,h5⟩
    |bk O M=>exact λe=>e
    |rt O M=>exact λe=>e
    |err O M=>exact λe=>e
    |bad=>exact λe=>e
   ·rename_i B;exact .inl ⟨(walk c q L v i).2 B,j c C (Ext.refl c) v Q⟩
   ·exact j.elim
 cases d with
 |pure xs=>
  have I:Bv E o (Aq g b (xs.drop 0) S G1) W:=l;rw[ZFP xs.length 0 (by lia)]at I;exact⟨_,_,ZGp F,I⟩
 |mt k=>
  dsimp only at l;split at l
  ·rw[ZF3]at l;exact⟨_,_,ZEk F,l⟩
  ·exact l.elim
 |fn n f=>exact⟨n,f,F,l⟩
theorem ZNB(hp:PassesOwn (vZ X.prog X.w) X.A X.env X.xe)(a:X.calm=vF)(hi:QI X E tg iter it)(c:QG X E tg g)(e:QSs X E body b)
  (d:∀x,foldedSetIterable iter X.env x=pure x:=by intro _;rfl):QS X E (.For tg iter body [] pos) (Cd it g b):=(ZKn hp a hi c e d).mono λ_ _ _ h=>ZL3 h
theorem _root_._L.PI.mono(h:PI X tg iter t)(w:∀a H Q,t' a H Q->t a H Q):PI X tg iter t':=λb s a H Q I q=>h b s a H Q I (w a H Q q)
noncomputable def sgn(c:Nat):D:=.str ⟨#[c]⟩
def signs(x:Str):List D:=x.cps.toList.map sgn
noncomputable def Its(x:Str):It:=⟨λi _=>i<x.cps.size,λi H v H'=>H'=H/\∃c,x.cps[i]?=vD c/\v=.str ⟨#[c]⟩,λi _=>x.cps.size<=i⟩
theorem ZML{P:x0}{w:xE}{K:PySem.W.Frag}{tg:xw}(it:xz)(x:Str)(t:Tok):Turn P w K tg (Its x) [it] it (λi h=>h.IsStrIter it "str_ascii_iterator" x t i) where
 mem:=by simp
 obj:=λi h f b j=>by
  have e:b=it:=by simpa using j
  subst e;obtain⟨o,e,c,d⟩:=f;exact⟨o,e,λv z=>by rw[d]at z;cases z⟩
 keep:=λi h q f k=>let⟨o,S,r⟩:=f;⟨o,k it (by simp) o S,r⟩
 item:=by
  intro X C hw A M i g s N H E I n f y;subst C hw A;obtain⟨J,u,Q,L,F,B⟩:=n it (by simp);have p:i<x.cps.size:=y;refine wpAny_pyNext_ascii_item f (c:=x.cps[i]) (by simp[p]) λq m O=>?_
  have U:Inv X g N H {s with heap:=q,toks:=s.toks+1}:=I.turned (λb o j e=>(O.2 b j).trans e) J u L F B;obtain⟨o,e,c,d⟩:=id m;exact⟨_,rfl,Np (s:={s with heap:=q,toks:=s.toks+1}) e c d (by decide) ⟨.str ⟨#[x.cps[i]]⟩,H,U,⟨_,rfl⟩,⟨rfl,_,by simp[p],rfl⟩,m,λb j=>(n b j).1⟩⟩
 done:=by intro X C hw A M i g s N H E I n f y;subst C hw A;obtain⟨J,u,Q,L,F,B⟩:=n it (by simp);have p:x.cps.size<=i:=y;exact wpAny_pyNext_ascii_end (I.ok.hd M) f (by simp[p]) λq T=>⟨rfl,I.turned (t':=s.toks) (λb o j e=>T b o j e) J u L F B⟩
 self:=λ_ _ _ _ _ f h=>wpAny_pyIter_striter_ascii f h
theorem ZN8{P:x0}{w:xE}{K:PySem.W.Frag}{tg:xw}(it:xz)(x:Str)(t:Tok):Turn P w K tg (Its x) [it] it (λi h=>h.IsStrIter it "str_iterator" x t i) where
 mem:=by simp
 obj:=λi h f b j=>by
  have e:b=it:=by simpa using j
  subst e;obtain⟨o,e,c,d⟩:=f;exact⟨o,e,λv z=>by rw[d]at z;cases z⟩
 keep:=λi h q f k=>let⟨o,S,r⟩:=f;⟨o,k it (by simp) o S,r⟩
 item:=by
  intro X C hw A M i g s N H E I n f y;subst C hw A;obtain⟨J,u,Q,L,F,B⟩:=n it (by simp);have p:i<x.cps.size:=y;refine wpAny_pyNext_wide_item f (c:=x.cps[i]) (by simp[p]) λq m O=>?_
  have U:Inv X g N H {s with heap:=q,toks:=s.toks+1}:=I.turned (λb o j e=>(O.2 b j).trans e) J u L F B;obtain⟨o,e,c,d⟩:=id m;exact⟨_,rfl,Np (s:={s with heap:=q,toks:=s.toks+1}) e c d (by decide) ⟨.str ⟨#[x.cps[i]]⟩,H,U,⟨_,rfl⟩,⟨rfl,_,by simp[p],rfl⟩,m,λb j=>(n b j).1⟩⟩
 done:=by intro X C hw A M i g s N H E I n f y;subst C hw A;obtain⟨J,u,Q,L,F,B⟩:=n it (by simp);have p:x.cps.size<=i:=y;exact wpAny_pyNext_wide_end (I.ok.hd M) f (by simp[p]) λq T=>⟨rfl,I.turned (t':=s.toks) (λb o j e=>T b o j e) J u L F B⟩
 self:=λ_ _ _ _ _ f h=>wpAny_pyIter_striter_wide f h
def iStr(tl:TE):TI:=λσ H R=>tl σ H λx H1=>∃z,x=.str z/\R (Its z) H1
theorem ZQ6{l:xw}{i:TE}(k:PE X l i):PI X tg l (iStr i):=by
 intro c s p H R I h;refine thn (k c s p H _ I h) λv a ⟨x,f,d,r,m⟩=>?_
 obtain⟨z,e,q⟩:=m;subst e;obtain⟨t,rfl⟩:=r;have j:∀b∈[a.heap.objs.size],FpOk X c f b:=λb n=>by
  have e:b=a.heap.objs.size:=by simpa using n
  subst e;exact d.Hx (zK _) (d.hok.fresh (zK _))
 cases g:z.cps.all (· < 128)
 ·refine wpAny_pyIter_wide g ?_;exact⟨a.heap.objs.size,[a.heap.objs.size],_,_,f,rfl,d.kept (t':=a.toks) λb o e=>zJ _ e,ZN8 _ z t,⟨_,z0 _ rfl,rfl,rfl⟩,j,q⟩
 ·refine wpAny_pyIter_ascii g ?_;exact⟨a.heap.objs.size,[a.heap.objs.size],_,_,f,rfl,d.kept (t':=a.toks) λb o e=>zJ _ e,ZML _ z t,⟨_,z0 _ rfl,rfl,rfl⟩,j,q⟩
theorem Reps.signs(x:Str):Reps a (signs x) (x.cps.toList.map λc=>V.str ⟨#[c]⟩):=by
 unfold _D.signs
 induction x.cps.toList with
 |nil=>exact rfl
 |cons c r b=>exact⟨_,_,rfl,rfl,b⟩
def Gb:D->DH->R ItD
 |.tup xs,G=>.ok (.pure xs) G
 |.str x,G=>.ok (.pure (signs x)) G
 |.fl xs,G=>.ok (.pure xs) G
 |.ref i,G=>match G[i]? with
  |some (.lst _)=>.ok (.mt i) G
  |_=>.bad
 |_,_=>.bad
def Du(te:DE):DI:=λS G=>(te S G).bind Gb
theorem ZTF(M:QE X E iter te):QI X E tg iter (Du te):=by
 intro f s L H R I h;obtain⟨a,S,G,hk,rfl,F,r,h⟩:=h;cases u:te S G with
 |bad=>
  have j:outI E a ((te S G).bind Gb) R:=h;rw[u]at j;exact j.elim
 |err e W=>
  have j:outI E a ((te S G).bind Gb) R:=h;rw[u]at j;refine ZCY (tg:=tg) M f s L a.H R I ⟨a,S,G,hk,rfl,F,r,?_⟩;rw[u];exact j
 | ok d W=>
  have j:outI E a ((te S G).bind Gb) R:=h;rw[u]at j;cases d with
  |tup U=>
   refine ZLO (tg:=tg) M f s L a.H R I ⟨a,S,G,hk,rfl,F,r,?_⟩;rw[u];rintro b v x t ⟨p,g,rfl,n,rv⟩;have A:SqT X.K b.H p g:=by rw[<-hk,<-x.k];exact n
   refine⟨p,rfl,⟨g,A⟩,j b _ x t ⟨g,rv,λc y i=>⟨λv l=>⟨⟨g,v,?_,l⟩,λw P z=>?_⟩,λo=>⟨g,?_,o⟩⟩⟩⟩
   ·have:=y.sqT n;rw[y.k,x.k,hk]at this;exact this
   ·have:=y.sqT n;rw[y.k,x.k,hk]at this;exact⟨Option.some.inj ((z.2 g this).symm.trans l),z.1⟩
   ·have:=y.sqT n;rw[y.k,x.k,hk]at this;exact this
  |fl U=>
   refine ZCY (tg:=tg) M f s L a.H R I ⟨a,S,G,hk,rfl,F,r,?_⟩;rw[u];rintro b v x t ⟨p,g,rfl,n,rv⟩;have A:SqL X.K b.H p g:=by rw[<-hk,<-x.k];exact n.sq
   refine⟨p,rfl,⟨g,A⟩,j b _ x t ⟨g,rv,λc y i=>⟨λv l=>⟨⟨g,v,?_,l⟩,λw P z=>?_⟩,λo=>⟨g,?_,o⟩⟩⟩⟩
   ·have:=(y.fzL n).sq;rw[y.k,x.k,hk]at this;exact this
   ·have:=(y.fzL n).sq;rw[y.k,x.k,hk]at this;exact⟨Option.some.inj ((z.2 g this).symm.trans l),z.1⟩
   ·have:=(y.fzL n).sq;rw[y.k,x.k,hk]at this;exact this
  |ref k=>
   have C:outI E a (Gb (.ref k) W) R:=j;unfold Gb at C;dsimp only at C;split at C
   ·rename_i U T;refine ZCY (tg:=tg) M f s L a.H R I ⟨a,S,G,hk,rfl,F,r,?_⟩;rw[u];rintro b v x t ⟨B,rfl⟩;obtain⟨g,T,_⟩:=t.lst T;refine⟨b.m k,rfl,⟨g,.of T⟩,C b _ x t ⟨B,λc y Q N i=>?_⟩⟩;rw[y.m k B]at N;exact⟨λv l=>⟨⟨Q,v,.of N,l⟩,λw P z=>⟨Option.some.inj ((z.2 Q (.of N)).symm.trans l),z.1⟩⟩,λo=>⟨Q,.of N,o⟩⟩
   ·exact C.elim
  | str z=>
   refine ZQ6 (tg:=tg) M f s L a.H R I ⟨a,S,G,hk,rfl,F,r,?_⟩;rw[u];intro b v x t rv
   cases(show v=V.str z from rv)
   refine⟨z,rfl,j b _ x t ⟨_,Reps.signs z,λc y i=>⟨λv l=>?_,λo=>?_⟩⟩⟩
   ·rw[zj,zO]at l;obtain⟨k,O,rfl⟩:=l;have J:z.cps[i]?=vD k:=by rw[<-qU];exact O
    refine⟨(Array.getElem?_eq_some_iff.mp J).1,λw P q=>?_⟩;obtain⟨Z,k',Y,e3⟩:=q;rw[J]at Y;cases Y;exact⟨e3,Z⟩
   ·rw[qY,qC]at o;exact o
  |_=>exact j.elim
end
noncomputable def Bg(lo:Int)(n:Nat):List D:=(zQ n).map λ(k:Nat)=>D.int (lo+(k:Int))
def inR(j:Int):Prop:= -(2^62)<=j/\j<2^62
noncomputable instance (j:Int):Decidable (inR j):=by unfold inR;infer_instance
def rng1(ds:List D)(G:DH):R ItD:=match ds with
 |[.int j]=>if inR j then .ok (.pure (Bg 0 j.toNat)) G else .bad
 |_=>.bad
def Bk(f:List D->DH->R ItD)(ta:DA):DI:=λS G=>(ta S G).bind f
def sWh(c:DB)(b:DS):Nat->DS
 |0,_,_=>.bad
 |n+1,S,G=>(c S G).toS λk G1=>if k=vF then aft (b S G1) (sWh c b n)else .nx S G1
def Bb(np nl:Nat)(b:DS):List D->DH->R D:=λds G=>if ds.length=np then tidy G (match b (ds.map vD++zV nl vE) G with
 |.nx _ G'=>.ok .non G'
 |.rt d G'=>.ok d G'
 |.err x G'=>.err x G'
 |_=>.bad)else .bad
theorem outI.mono(x:Ext a b)(h:outI E a r Q):outI E b r Q:=by
 cases r with
 |ok d G=>exact λc v y s q=>h c v (x.trans y) s q
 |err e G=>exact XOk.mono (E:=E) (e:=e) (G:=G) x h
 |bad=>exact h
theorem Ow(h:outI E a (r.bind f) Q):
  Ey E a r (λvs H=>∃(b:Wd)(ds:List D)(G:DH),b.H=H/\Ext a b/\Sim b G/\Reps b ds vs/\r=.ok ds G/\outI E b (f ds G) Q):=by
 cases r with
 |ok d G=>exact λb v x s q=>⟨b,d,G,rfl,x,s,q,rfl,outI.mono x h⟩
 |err e G=>exact h
 |bad=>exact h
section
variable{X:Cx}{E:XK}{tg iter:xw}{pos:Pos}
theorem ZKG(lo:Int)(n:Nat):RepI a (.pure (Bg lo n)) (Itr lo n):=by
 refine⟨(zQ n).map λ(k:Nat)=>V.int (lo+(k:Int)),?_,λb x i=>⟨λv c=>?_,λf=>?_⟩⟩
 ·unfold Bg;generalize zQ n=l
  induction l with
  |nil=>exact rfl
  |cons k l g=>exact⟨_,_,rfl,rfl,g⟩
 ·rw[zj]at c;by_cases e:i<n
  ·rw[zP e]at c;have d:V.int (lo+(i:Int))=v:=by simpa using c
   exact⟨e,λw h y=>⟨y.2.trans d,y.1⟩⟩
  ·rw[zy (by simpa using e)]at c;cases c
 ·show n<=i;simpa using f
theorem ZQC{p pos:Pos}(l:Gl X "range")(i:X.mg "range"=vE)(f:QA X E [e] ta)(g:vW [e] X.env=[(vG,eval e X.env)]:=by rfl):QI X E tg (.Call (.Name "range" p) [e] [] pos) (Bk rng1 ta):=
 (ZUA l i f g).mono λy H Q h=>by
  obtain⟨a,S,G,hk,rfl,s,r,h⟩:=h;refine⟨a,S,G,hk,rfl,s,r,(Ow h).imp ?_⟩;rintro w _ ⟨b,t,u,rfl,x,m,q,-,c⟩;unfold rng1 at c;split at c
  ·rename_i j;split at c
   ·rename_i d;obtain⟨v,r,n,k,o⟩:=q
    cases(show v=V.int j from k)
    cases(show r=[]from o)
    exact⟨j,n,d.1,d.2,c b _ (Ext.refl b) m (ZKG 0 j.toNat)⟩
   ·exact c.elim
  ·exact c.elim
theorem ZO7(n:Nat)(hp:PassesOwn (vZ X.prog X.w) X.A X.env X.xe)(hc:QT X E c tc)(hb:QSs X E body tb):QS X E (.While c body [] pos) (sWh tc tb n):=(ZLr hp hc hb).mono λW T H h=>by
 obtain⟨a,S,G,hk,rfl,s,r,h⟩:=h;refine⟨λm T H=>∃(b:Wd)(S:DSt)(G:DH),b.H=H/\Ext a b/\Sim b G/\RepS b S T/\Bv E b (sWh tc tb m S G) W,⟨n,a,S,G,rfl,Ext.refl a,s,r,h⟩,?_⟩;rintro m F _ ⟨b,u,Z,rfl,i,Y,p,P⟩;cases m with
 |zero=>exact P.elim
 | succ m=>
  refine⟨b,u,Z,i.k.trans hk,rfl,Y,p,(ZFQ P).imp ?_⟩;rintro k _ ⟨C,Q,rfl,g,N,_,U⟩;cases k with
  |false=>exact U C F (Ext.refl C) N (p.mono g)
  | true=>
   refine⟨λf O=>∃(b:Wd)(S:DSt)(G:DH),b.H=O/\Ext a b/\Sim b G/\RepS b S f/\Bv E b (sWh tc tb m S G) W,λf O z=>⟨m,qK _,z⟩,C,u,Q,g.k.trans (i.k.trans hk),rfl,N,p.mono g,?_⟩;have d:=ZHB U
   revert d
   cases tb u Q with
   |nx l j=>
    intro d v e t B q;obtain⟨K,o,I,M,x,y,J,L⟩:=d v e t B q;exact⟨K,o,I,M,i.trans (g.trans x),y,J,L⟩
   |ct l j=>
    intro d v e t B q;obtain⟨K,o,I,M,x,y,J,L⟩:=d v e t B q;exact⟨K,o,I,M,i.trans (g.trans x),y,J,L⟩
   |bk l j=>exact λd=>d
   |rt l j=>exact λd=>d
   |err l j=>exact λd=>d
   |bad=>exact λd=>d
end
theorem ZL9(r:Reps a ds vs)(n m:Nat)(h:n=m):RepS a (ds.map vD++zV n vE) (vs.map vD++zV m vE):=by
 subst h;refine⟨by simp[r.length],λi d b=>?_⟩;by_cases f:i<ds.length
 ·rw[qX (by simpa using f),zj]at b;cases e:ds[i]? with
  |none=>rw[e]at b;cases b
  |some g=>
   rw[e]at b;have c:g=d:=by simpa using b
   subst c;obtain⟨v,j,q⟩:=r.get e;exact⟨v,by rw[qX (by rw[qY,<-r.length];exact f),zj,j];rfl,q⟩
 ·rw[zL (by simpa using f),jq]at b
  split at b<;>cases b
theorem Kw{P:x0}{w:xE}{K:PySem.W.Frag}{u:Str->Option xD}{j:Heap}{x qual:Str}{st:xC}{f:xz}{v:xk}{N ps:List Str}{k:Nat}{b:DS}(F:Fun K x qual st f v)(S:FnScope N ps (Aj st))
  (m:∀(i:xD)(A:xj)(outer:List Env)(s:xB)(H:Hp)(E:XK),Room k (A.deeper (envOfC qual (Aj st) s.heap.objs.size f i))->QSs (Lr CX0 P w K u j N qual (Aj st) f i A outer s H E).nox E0 (Fb st) b):
  FnOk P w K u j CX0 (k+1) f v ps (lF K (Bb ps.length (N.length-ps.length) b)):=by
 have l:∀n H Q E,lF K (Bb ps.length (N.length-ps.length) b) n H Q E->n.length=ps.length:=λn H Q E h=>by
  obtain⟨a,G,q,hk,rfl,t,r,h⟩:=h;unfold Bb at h;split at h
  ·rename_i p;rw[<-r.length];exact p
  ·exact h.elim
 refine F.ok S l (λi A outer s H n Q E z h=>?_);refine⟨lS K E0 b,m i A outer s H E z,?_⟩;have p:=l n H Q E h;obtain⟨a,G,q,hk,rfl,t,r,h⟩:=h;unfold Bb at h;split at h
 ·have g:=ZFm t h;refine⟨a,q.map vD++zV (N.length-ps.length) vE,G,hk,rfl,t,ZL9 r _ _ (by rw[p]),?_⟩
  revert g
  cases b (q.map vD++zV (N.length-ps.length) vE) G with
  |nx y o=>exact λg c C x B _=>g c .non x B rfl
  |rt d o=>exact λg=>g
  |err e o=>exact λg=>g
  |bk y o=>exact λg=>g.elim
  |ct y o=>exact λg=>g.elim
  |bad=>exact λg=>g
 ·exact h.elim
theorem J1(s:Sim a G)(r:Rep a d x)(h:Bh d G=vD xs):∃p vs,x=.ref p/\(SqL a.K a.H p vs∨SqT a.K a.H p vs)/\Reps a xs vs:=by
 cases d with
 |tup b=>
  have e:b=xs:=Option.some.inj h;subst e;obtain⟨p,vs,e,q,c⟩:=r;exact⟨p,vs,e,.inr q,c⟩
 |fl b=>
  have e:b=xs:=Option.some.inj h;subst e;obtain⟨p,vs,e,q,c⟩:=r;exact⟨p,vs,e,.inl q.sq,c⟩
 |ref i=>
  unfold Bh at h;dsimp only at h;split at h
  ·rename_i b g;have e:b=xs:=Option.some.inj h;subst e;obtain⟨vs,j,k⟩:=s.lst g;exact⟨a.m i,vs,r.2,.inl (.of j),k⟩
  ·cases h
 |_=>cases h
def Ad (d e:D) (G:DH):R D:=match e with
 | .int i=>match d with
  | .str z=>if z.length<=1000000 then(match atI z.cps.toList i with
    |some c=>.ok (.str ⟨#[c]⟩) G
    |none=>.bad)else .bad
  | d=>match Bh d G with
   |some xs=>match atI xs i with
    |some v=>.ok v G
    |none=>.bad
   |none=>.bad
 |_=>.bad
theorem ZFB(r:Reps a xs vs)(h:atI xs i=vD d):∃v,atI vs i=vD v/\Rep a d v:=by
 unfold atI at h⊢;rw[<-r.length];cases e:ixN xs.length i with
 |none=>rw[e]at h;cases h
 |some j=>
  rw[e]at h
  obtain⟨v,b,q⟩:=r.get (show xs[j]?=vD d from h)
  exact⟨v,b,q⟩
section
variable{X:Cx}{E:XK}
theorem _root_._L.IxR.mono(h:IxR X r)(w:∀x y H Q,r' x y H Q->r x y H Q):IxR X r':=λa b c s j H x y v u Q I g i q d=>h a b c s j H x y v u Q I g i (w _ _ _ _ q) d
theorem _root_._L.CallR.mono(h:CallR X f r)(w:∀xs H Q,r' xs H Q->r xs H Q):CallR X f r':=λa s b H xs d Q I c q=>h a s b H xs d Q I c (w _ _ _ q)
theorem _root_._L.MtM.mono{id:String}{r b:V->List V->Hp->VK->Prop}(h:MtM X id r)(w:∀x xs H Q,b x xs H Q->r x xs H Q):MtM X id b:=λa s i H x xs v g Q I d c q=>h a s i H x xs v g Q I d c (w _ _ _ _ q)
theorem i_ix:IxR X (lR2 X.K E Ad):=ZRQ.mono λx y H Q h=>by
 obtain⟨a,G,d,e,hk,rfl,s,w,m,q⟩:=h;cases e with
 | int i=>
  have n:∀{g:List D},Bh d G=vD g->out E a (match atI g i with |some v=>.ok v G|none=>.bad) Q->rIx X.K x y a.H Q:=λ{g}l q=>by
   obtain⟨p,A,B,k,M⟩:=J1 s w l;rw[hk]at k;split at q
   ·rename_i v L;obtain⟨u,r,I⟩:=ZFB M L;have z:=q a u (Ext.refl a) s I;rcases k with k|k
    ·exact .inl ⟨p,A,i,u,B,m,k,r,z⟩
    ·exact .inr (.inl ⟨p,A,i,u,B,m,k,r,z⟩)
   ·exact q.elim
  have b:out E a (match Bh d G with |some g=>(match atI g i with |some v=>.ok v G|none=>.bad)|none=>.bad) Q->rIx X.K x y a.H Q:=λq=>by
   cases l:Bh d G with
   |none=>rw[l]at q;exact q.elim
   |some g=>rw[l]at q;exact n l q
  cases d with
  | str z=>
   unfold Ad at q;dsimp only at q;split at q
   ·rename_i C;split at q
    ·rename_i c F;exact .inr (.inr ⟨z,i,c,w,m,zA C size6,F,q a _ (Ext.refl a) s rfl⟩)
    ·exact q.elim
   ·exact q.elim
  |tup J=>exact b q
  |fl J=>exact b q
  |ref j=>exact b q
  |_=>exact b q
 |_=>exact q.elim
def Bo(ds:List D)(G:DH):R D:=match ds with
 |[.str z]=>if z.length<=1000000 then .ok (.int z.length) G else .bad
 |[d]=>match Bh d G with
  |some xs=>.ok (.int xs.length) G
  |none=>.bad
 |_=>.bad
theorem reps1(r:Reps a [d] vs):∃v,vs=[v]/\Rep a d v:=by
 obtain⟨v,b,e,q,z⟩:=r
 cases(show b=[]from z)
 exact⟨v,e,q⟩
theorem reps2(r:Reps a [d,d'] vs):∃v b,vs=[v,b]/\Rep a d v/\Rep a d' b:=by obtain⟨v,h,e,q,z⟩:=r;obtain⟨b,g,c⟩:=reps1 z;subst g;exact⟨v,b,e,q,c⟩
theorem ZMf:CallR X (.builtin "len") (lRn X.K E Bo):=(ZOc.or ZSn).mono λm H Q h=>by
 obtain⟨a,G,l,hk,rfl,s,r,q⟩:=h;unfold Bo at q;split at q
 ·rename_i z;split at q
  ·rename_i c;obtain⟨v,rfl,rv⟩:=reps1 r
   cases(show v=V.str z from rv)
   exact .inr ⟨z,rfl,zA c size6,q a _ (Ext.refl a) s rfl⟩
  ·exact q.elim
 ·rename_i d _;split at q
  ·rename_i k g;obtain⟨v,rfl,rv⟩:=reps1 r;obtain⟨p,i,rfl,b,j⟩:=J1 s rv g;rw[hk]at b;exact .inl ⟨p,i,rfl,b,q a _ (Ext.refl a) s (by rw[<-j.length];exact rfl)⟩
  ·exact q.elim
 ·exact q.elim
def Di(ds:List D)(G:DH):R D:=match ds with
 |[d]=>match Bh d G with
  |some xs=>.ok (.tup xs) G
  |none=>.bad
 |_=>.bad
theorem ZTp:CallR X (.type "tuple") (lRn X.K E Di):=ZSk.mono λn H Q h=>by
 obtain⟨a,G,m,hk,rfl,s,r,q⟩:=h;unfold Di at q;split at q
 ·rename_i d;split at q
  ·rename_i k j;obtain⟨v,rfl,rv⟩:=reps1 r;obtain⟨p,c,rfl,b,g⟩:=J1 s rv j;refine⟨p,c,rfl,?_⟩;rcases b with b|b
   ·exact .inl ⟨by rw[<-hk];exact b,λl i=>ZA1 s g q l i⟩
   ·exact .inr ⟨by rw[<-hk];exact b,q a _ (Ext.refl a) s ⟨p,c,rfl,b,g⟩⟩
  ·exact q.elim
 ·exact q.elim
def Ju(ds:List D)(G:DH):R D:=match ds with
 |[.str z]=>if z.length<=1000000 then .ok (.ref G.length) (G++[.lst (signs z)])else .bad
 |[d]=>match Bh d G with
  |some xs=>.ok (.ref G.length) (G++[.lst xs])
  |none=>.bad
 |_=>.bad
theorem ZAo:∀{vs:List V}{us:List xD},vs.length=us.length->(∀(i:Nat)(v:V)(u:xD),vs[i]?=vD v->us[i]?=vD u->RelV v u)->Vals vs us
 |[],[],_,_=>.nil
 |[],_::_,h,_=>by cases h
 |_::_,[],h,_=>by cases h
 |v::vs,u::us,h,f=>.cons (f 0 v u rfl rfl) (ZAo (by simpa using h) λi c d a b=>f (i+1) c d (by simpa using a) (by simpa using b))
theorem ZSU(w:X.calm=vF):CallR X (.type "list") (λxs H Q=>∃z:Str,xs=[.str z]/\z.length<=sizeLine/\∀l,H l=vE->Q (.ref l) (upd H l (.lst (z.cps.toList.map λc=>V.str ⟨#[c]⟩)))):=by
 intro n s K H xs J Q I r h;obtain⟨z,rfl,m,q⟩:=h;obtain⟨u,rfl,t,rfl⟩:=vals1 r;refine PySem.call_list_str (I.ok.hd w) z t (λg B b c hk C a=>?_) m;have x:H s.heap.objs.size=vE:=I.hok.fresh (zK _);refine⟨.ref s.heap.objs.size,upd H s.heap.objs.size (.lst (z.cps.toList.map λc=>V.str ⟨#[c]⟩)),I.laid (t':=B) (h':=g) hk (zK _) ?_,rfl,q _ x⟩;refine⟨by rw[qY,qC];exact m,b.toList,c,ZAo ?_ λi v u j y=>?_,by simpa using C⟩
 ·rw[qY,qC,qC];exact a.1.symm
 ·rw[zj,zO]at j;obtain⟨k,p,rfl⟩:=j;obtain⟨F,d,A,rfl⟩:=a.2 i u (by rw[<-qU];exact y);rw[qU,A]at p;cases p;exact⟨d,rfl⟩
theorem ZMK(g:X.calm=vF):CallR X (.type "list") (lRn X.K E Ju):=(ZTs.or (ZSU g)).mono λu H Q h=>by
 obtain⟨a,G,n,hk,rfl,s,r,q⟩:=h;unfold Ju at q;split at q
 ·rename_i z;split at q
  ·rename_i b;obtain⟨v,rfl,rv⟩:=reps1 r
   cases(show v=V.str z from rv)
   exact .inr ⟨z,rfl,zA b size6,λl b=>Jj s (Reps.signs z) q l b⟩
  ·exact q.elim
 ·rename_i d _;split at q
  ·rename_i m c;obtain⟨v,rfl,rv⟩:=reps1 r;obtain⟨p,i,rfl,j,k⟩:=J1 s rv c;exact .inl ⟨p,i,rfl,by rw[<-hk];exact j,λl b=>Jj s k q l b⟩
  ·exact q.elim
 ·exact q.elim
noncomputable def Pj(ds:List D)(G:DH):R D:=match ds with
 |[.int i,.int j]=>.ok (.int (if j>i then j else i)) G
 |_=>.bad
noncomputable def K3(ds:List D)(G:DH):R D:=match ds with
 |[.int i,.int j]=>.ok (.int (if j<i then j else i)) G
 |_=>.bad
theorem ZLv(b:X.calm=vF):CallR X (.builtin "max") (lRn X.K E Pj):=(ZS5 b).mono λj H Q h=>by
 obtain⟨a,G,i,hk,rfl,s,r,q⟩:=h;unfold Pj at q;split at q
 ·obtain⟨v,c,rfl,g,d⟩:=reps2 r
  cases(show v=V.int _ from g)
  cases(show c=V.int _ from d)
  exact⟨_,_,rfl,q a _ (Ext.refl a) s rfl⟩
 ·exact q.elim
theorem ZPv(b:X.calm=vF):CallR X (.builtin "min") (lRn X.K E K3):=(ZOW b).mono λj H Q h=>by
 obtain⟨a,G,i,hk,rfl,s,r,q⟩:=h;unfold K3 at q;split at q
 ·obtain⟨v,c,rfl,g,d⟩:=reps2 r
  cases(show v=V.int _ from g)
  cases(show c=V.int _ from d)
  exact⟨_,_,rfl,q a _ (Ext.refl a) s rfl⟩
 ·exact q.elim
noncomputable def Dm(o:D)(ds:List D)(G:DH):R D:=match o,ds with
 |.ref i,[d]=>match G[i]? with
  |some (.lst xs)=>if xs.length<1000000 then .ok .non (G.set i (.lst (xs++[d])))else .bad
  |_=>.bad
 |_,_=>.bad
def lRm(K:PySem.W.Frag)(E:XK)(f:D->List D->DH->R D):V->List V->Hp->VK->Prop:=λx xs H Q=>∃(a:Wd)(G:DH)(d:D)(ds:List D),a.K=K/\a.H=H/\Sim a G/\Rep a d x/\Reps a ds xs/\out E a (f d ds G) Q
theorem Sim.isList(s:Sim a G)(h:G[i]?=vD (.lst xs)):∃vs,SqL a.K a.H (a.m i) vs:=let⟨vs,e,_⟩:=s.lst h;⟨vs,.of e⟩
theorem ZMm:MtM X "list.append" (lRm X.K E Dm):=ZT8.mono λx u H Q h=>by
 obtain⟨a,G,d,w,hk,rfl,s,b,r,q⟩:=h;unfold Dm at q;split at q
 ·rename_i i d;obtain⟨v,rfl,rv⟩:=reps1 r;split at q
  ·rename_i y p;split at q
   ·rename_i j;obtain⟨n,c,g⟩:=s.lst p;obtain⟨l,k⟩:=Xf s b.1 c (g.append (Reps.cons rv Reps.nil));refine⟨a.m i,n,v,b.2,rfl,c,by rw[<-g.length];exact zz j size6,?_⟩;exact q _ .non l k rfl
   ·exact q.elim
  ·exact q.elim
 ·exact q.elim
variable{o e:xw}{es:List xw}{to:DE}{t:DA}{name:Str}{apos cpos:Pos}{T id:String}{f:D->List D->DH->R D}
noncomputable def isL(d:D)(G:DH):Bool:=match d with
 |.ref i=>match G[i]? with
  |some (.lst _)=>vF
  |_=>vG
 |.fl _=>vF
 |_=>vG
def Df(f:D->List D->DH->R D)(o:DE)(t:DA):DE:=λS G=>(o S G).bind λx G1=>if isL x G1=vF then(t S G1).bind λxs G2=>f x xs G2 else .bad
theorem ZRR(s:Sim a G)(r:Rep a d x)(h:isL d G=vF):tyV a.K "list" x a.H:=by
 cases d with
 |ref i=>
  unfold isL at h;dsimp only at h;split at h
  ·rename_i b c;cases r.2;exact .inl ⟨rfl,s.isList c⟩
  ·cases h
 |fl b=>
  obtain⟨p,g,rfl,q,_⟩:=r;exact .inl ⟨rfl,g,q.sq⟩
 |_=>cases h
theorem ZPf(l:Slot "list" name id)(n:typeOf (.builtin id)=pure (.type "method_descriptor"))(A:MtM X id (lRm X.K E f))(ho:QE X E o to)(C:QA X E (e::es) t)
  (i:xG o name X.env (eval o X.env)=eval o X.env:=by rfl)
  (m:((xH cpos (vW (e::es) X.env)).all (λx=> !x.1)&&(xI cpos (xT [] X.env)).all (λx=>x.1.isSome)
   && decide ((e::es).length+([]:List Keyword).length+(if([]:List Keyword).isEmpty then 0 else 1)<30))=vF:=by rfl)
  (j:(apos.endLine==cpos.line)=vF:=by rfl) (J:vW (e::es) X.env=(vG,eval e X.env)::vW es X.env:=by rfl) (g:(xH cpos (vW es X.env)).any (·.1)=vG:=by rfl):
  QE X E (.Call (.Attribute o name apos) (e::es) [] cpos) (Df f to t):=(ZSQ PySem.F.plainAttrs_list l n A ho C i m j J g).mono λP H Q h=>by
 obtain⟨a,S,G,hk,rfl,s,r,h⟩:=h;refine⟨a,S,G,hk,rfl,s,r,(Em h).imp ?_⟩;rintro v _ ⟨b,d,L,rfl,x,u,q,-,p⟩;split at p
 ·rename_i z;have ty:=ZRR u q z;rw[x.k,hk]at ty;refine⟨ty,b,S,L,x.k.trans hk,rfl,u,r.mono x,(Ky p).imp ?_⟩;rintro O _ ⟨c,M,B,rfl,y,w,N,-,I⟩;exact⟨c,B,d,M,y.k.trans (x.k.trans hk),rfl,w,q.mono y,N,I⟩
 ·exact p.elim
end
inductive Ty where|non|bl|int|str|tup|lst
noncomputable def Ty.name:Ty->String
 |.non=>"NoneType" | .bl=>"bool" | .int=>"int" | .str=>"str" | .tup=>"tuple" | .lst=>"list"
def tyD(G:DH):D->Option Ty
 |.non=>vD .non
 |.bl _=>vD .bl
 |.int _=>vD .int
 |.str _=>vD .str
 |.tup _=>vD .tup
 |.fl _=>vD .lst
 |.ref i=>match G[i]? with
  |some (.lst _)=>vD .lst
  |_=>vE
 |.ty _=>vE
noncomputable def Ty.sub(t:Ty):String->Option Bool
 |"int"=>vD (match t with | .int=>vF | .bl=>vF|_=>vG)
 |"bool"=>vD (match t with | .bl=>vF|_=>vG)
 |"str"=>vD (match t with | .str=>vF|_=>vG)
 |"tuple"=>vD (match t with | .tup=>vF|_=>vG)
 |"list"=>vD (match t with | .lst=>vF|_=>vG)
 |_=>vE
def Fj(ds:List D)(G:DH):R D:=match ds with
 | [d,.ty T]=>match tyD G d with
  |some t=>match t.sub T with
   |some k=>.ok (.bl k) G
   |none=>.bad
  |none=>.bad
 |_=>.bad
theorem ZPL{K:PySem.W.Frag}{t:Ty}{T:String}{k:Bool}(h:t.sub T=vD k):PySem.W.kitOne K (.type t.name) (.type T)=vD k:=by
 unfold Ty.sub at h;split at h
 iterate 5 (cases t<;>cases h<;>rfl)
 cases h
section
variable{X:Cx}{E:XK}
theorem ZN0:CallR X (.builtin "isinstance") (lRn X.K E Fj):=by
 intro i s O H vs S Q I rs h;obtain⟨a,G,ds,hk,rfl,M,r,q⟩:=h;unfold Fj at q;split at q
 ·rename_i d T;obtain⟨v,v',rfl,m,Y⟩:=reps2 r
  cases(show v'=V.ty T from Y)
  obtain⟨u,C,rfl,j,J⟩:∃u C,S=[u,C]/\RelV v u/\RelV (.ty T) C:=by
   cases rs with
   |cons p q=>cases q with
    |cons p' q'=>cases q';exact⟨_,_,rfl,p,p'⟩
  cases(show C=Value.type T from J)
  split at q
  ·rename_i t g;split at q
   ·rename_i k y;have f:∀B:Nat,EP X i O Q (.bool k) {s with toks:=B}:=λB=>⟨.bl k,a.H,I.tok _,rfl,q a _ (Ext.refl a) M rfl⟩
    have e:=ZPL (K:=X.K) y;clear q y r;have L:∀(p:xz)(l:List V),SqL X.K a.H p l->u=.ref p->t=.lst->vY (vZ X.prog X.w) X.A (call (.builtin "isinstance") [u,.type T]) (EP X i O Q) X.xe s:=λp l x eu P=>by
     subst eu P;obtain⟨F,_,pl,_⟩:=I.list x
     exact PySem.W.kia_one PySem.W.kitx_list I.kIn (let⟨o,e,c,_⟩:=pl.isList;⟨o,e,c⟩) e (λz=>nomatch z) f
    cases d with
    |non=>cases g;cases(show v=_ from m);cases j;exact PySem.W.kia_one PySem.W.kitx_none I.kIn True.intro e (λz=>nomatch z) f
    |bl b=>cases g;cases(show v=_ from m);cases j;exact PySem.W.kia_one PySem.W.kitx_bool I.kIn True.intro e (λz=>nomatch z) f
    |int b=>cases g;cases(show v=_ from m);obtain⟨B,rfl⟩:=j;exact PySem.W.kia_one PySem.W.kitx_int I.kIn True.intro e (λz=>nomatch z) f
    |str b=>cases g;cases(show v=_ from m);obtain⟨B,rfl⟩:=j;exact PySem.W.kia_one PySem.W.kitx_str I.kIn True.intro e (λz=>nomatch z) f
    |tup b=>
     cases g;obtain⟨p,l,rfl,x,_⟩:=m;cases j;rw[hk]at x;obtain⟨F,_,pl,_⟩:=I.tuple x
     exact PySem.W.kia_one PySem.W.kitx_tuple I.kIn (let⟨o,e,c,_⟩:=pl;⟨o,e,c⟩) e (λz=>nomatch z) f
    |fl b=>
     cases g;obtain⟨p,l,rfl,x,_⟩:=m;exact L p l (hk▸x.sq) j rfl
    |ref b=>
     unfold tyD at g;dsimp only at g;split at g
     ·rename_i xs Z;cases g;obtain⟨l,U,_⟩:=M.lst Z;cases m.2;exact L _ l (.of U) j rfl
     ·cases g
    |ty n=>cases g
   ·exact q.elim
  ·exact q.elim
 ·exact q.elim
end
noncomputable def Fy:List D->Option (List Int)
 |[]=>vD []
 |.int i::r=>(Fy r).map (i::·)
 |_=>vE
noncomputable def Ge:List D->Option (List Bool)
 |[]=>vD []
 |.bl i::r=>(Ge r).map (i::·)
 |_=>vE
@[simp]theorem Xm(ns:List Int):Fy (ns.map D.int)=vD ns:=by
 induction ns with
 |nil=>rfl
 |cons n ns a=>simp[Fy,a]
@[simp]theorem ZV4(ns:List Bool):Ge (ns.map D.bl)=vD ns:=by
 induction ns with
 |nil=>rfl
 |cons n ns a=>simp[Ge,a]
theorem S6:∀{xs:List D}{ns:List Int},Fy xs=vD ns->xs=ns.map D.int
 |[],ns,h=>by cases h;rfl
 |.int i::r,ns,h=>by simp only[Fy,zO]at h;obtain⟨b,a,rfl⟩:=h;rw[zw,S6 a]
 |.non::r,ns,h=>by simp[Fy]at h
 |.bl _::r,ns,h=>by simp[Fy]at h
 |.str _::r,ns,h=>by simp[Fy]at h
 |.ty _::r,ns,h=>by simp[Fy]at h
 |.tup _::r,ns,h=>by simp[Fy]at h
 |.fl _::r,ns,h=>by simp[Fy]at h
 |.ref _::r,ns,h=>by simp[Fy]at h
theorem ZAy:∀{xs:List D}{ns:List Bool},Ge xs=vD ns->xs=ns.map D.bl
 |[],ns,h=>by cases h;rfl
 |.bl i::r,ns,h=>by simp only[Ge,zO]at h;obtain⟨b,a,rfl⟩:=h;rw[zw,ZAy a]
 |.non::r,ns,h=>by simp[Ge]at h
 |.int _::r,ns,h=>by simp[Ge]at h
 |.str _::r,ns,h=>by simp[Ge]at h
 |.ty _::r,ns,h=>by simp[Ge]at h
 |.tup _::r,ns,h=>by simp[Ge]at h
 |.fl _::r,ns,h=>by simp[Ge]at h
 |.ref _::r,ns,h=>by simp[Ge]at h
def Kl(ds:List D)(G:DH):R D:=match ds with
 | [d]=>match Bh d G with
  |some xs=>match Ge xs with
   |some ns=>.ok (.bl (ns.all id)) G
   |none=>.bad
  |none=>.bad
 |_=>.bad
def Li(ds:List D)(G:DH):R D:=match ds with
 | [d]=>match Bh d G with
  |some xs=>match Ge xs with
   |some ns=>.ok (.bl (ns.any id)) G
   |none=>.bad
  |none=>.bad
 |_=>.bad
section
variable{X:Cx}{E:XK}{vC:List (xz×Obj)}{σ:St}{s:xB}{H:Hp}
theorem U7(I:Inv X vC σ H s)(n:X.calm=vF)(h:SqL X.K H p vs∨SqT X.K H p vs)
  (l:∀(it:xz)(fp wr:List xz)(its:List xD)(St:Nat->Heap->Prop)(d:xB),Vals vs its->Walks X.prog X.w X.A.in1 it fp wr its.toArray.size (λi v=>its.toArray[i]?=vD v) St->St 0 d.heap->(∀b∈fp,b<d.heap.objs.size)->
   (∀h' tk,(∀b o,b∉wr->d.heap.get? b=vD o->h'.get? b=vD o)->Inv X vC σ H {d with heap:=h',toks:=tk})->Q (.ref it) d):
  vY (vZ X.prog X.w) X.A.in1 (pyIter (.ref p)) Q E' s:=by
 have m:X.A.in1.handled=vE:=I.ok.hd n;rcases h with h|h
 ·obtain⟨its,r,pl,q⟩:=I.list h;refine wpAny_pyIter_list pl.isList ?_;have hp:p<s.heap.objs.size:=by obtain⟨o,e,_⟩:=pl.isList;exact zx e
  refine l _ _ _ its _ _ r (Walks.list m _ p (zE hp) its.toArray) ⟨⟨_,z0 _ rfl,rfl,rfl⟩,?_⟩ (λb f=>?_) λh' tk g=>?_
  ·obtain⟨o,e,c⟩:=pl.isList;exact⟨o,zJ _ e,c⟩
  ·show b<(s.heap.push _).objs.size;rw[qE];rcases zq.mp f with rfl|f
   ·exact qK _
   ·have e:b=p:=by simpa using f
    subst e;exact qP hp
  ·refine I.kept λb o e=>g b o (λf=>?_) (zJ _ e)
   have j:b=s.heap.objs.size:=by simpa using f
   subst j;exact absurd (zx e) (qW _)
 ·obtain⟨its,r,pl,q⟩:=I.tuple h
  refine wpAny_pyIter_tuple (show s.heap.IsTuple p its.toArray from pl) ?_
  have hp:p<s.heap.objs.size:=by obtain⟨o,e,_⟩:=pl;exact zx e
  refine l _ _ _ its _ _ r (Walks.tuple m _ p (zE hp) its.toArray) ⟨⟨_,z0 _ rfl,rfl,rfl⟩,?_⟩ (λb f=>?_) λh' tk g=>?_
  ·obtain⟨o,e,c⟩:=pl;exact⟨o,zJ _ e,c⟩
  ·show b<(s.heap.push _).objs.size;rw[qE];rcases zq.mp f with rfl|f
   ·exact qK _
   ·have e:b=p:=by simpa using f
    subst e;exact qP hp
  ·refine I.kept λb o e=>g b o (λf=>?_) (zJ _ e)
   have j:b=s.heap.objs.size:=by simpa using f
   subst j;exact absurd (zx e) (qW _)
theorem ZCP:∀{ns:List Int}{vs:List V},Reps a (ns.map D.int) vs->vs=ns.map V.int
 |[],vs,h=>h
 |n::ns,vs,h=>by
  obtain⟨v,r,e,b,c⟩:=h
  cases(show v=V.int n from b)
  rw[e,ZCP c]
  rfl
theorem ZCc:∀{ns:List Bool}{vs:List V},Reps a (ns.map D.bl) vs->vs=ns.map V.bl
 |[],vs,h=>h
 |n::ns,vs,h=>by
  obtain⟨v,r,e,b,c⟩:=h
  cases(show v=V.bl n from b)
  rw[e,ZCc c]
  rfl
theorem all_range(ns:List Bool):(zQ ns.length).all (λi=>ns.getD i vF)=ns.all id:=by
 rw[Bool.eq_iff_iff,qy,qy];constructor
 ·intro h b d;obtain⟨i,c,rfl⟩:=qD d;simpa[c]using h i (qq.mpr c)
 ·intro h i c;have a:i<ns.length:=qq.mp c;simpa[a]using h ns[i] (q8 a)
theorem any_range(ns:List Bool):(zQ ns.length).any (λi=>ns.getD i vF)=ns.any id:=by
 rw[Bool.eq_iff_iff,List.any_eq_true,List.any_eq_true];constructor
 ·rintro⟨i,c,h⟩;have a:i<ns.length:=qq.mp c;exact⟨ns[i],q8 a,by simpa[a]using h⟩
 ·rintro⟨b,d,h⟩;obtain⟨i,c,rfl⟩:=qD d;exact⟨i,qq.mpr c,by simpa[c]using h⟩
theorem ZKz(t:X.calm=vF):CallR X (.builtin "all") (lRn X.K E Kl):=by
 intro k s S H O J Q I B h;obtain⟨a,G,U,hk,rfl,l,r,q⟩:=h;unfold Kl at q;split at q
 ·rename_i d;obtain⟨v,rfl,rv⟩:=reps1 r;split at q
  ·rename_i M y;split at q
   ·rename_i b z;cases ZAy z;obtain⟨p,T,rfl,n,o⟩:=J1 l rv y;cases ZCc o;rw[hk]at n;obtain⟨u,rfl,g⟩:=vals1 B;cases g;refine call_all_walk (U7 I t n λit fp wr its St s₂ hv W st hfp fin=>⟨it,fp,wr,its.toArray.size,_,St,λi=>b.getD i vF,rfl,W,st,λi w L P N hw j=>?_,λC A F=>?_⟩)
    ·have c:its[i]?=vD w:=by simpa using hw
     have f:i<(b.map V.bl).length:=by rw[hv.length];exact(zG.mp c).1
     have e:i<b.length:=by simpa using f
     obtain⟨u,m,g⟩:=hv.get (i:=i) (x:=V.bl b[i]) (by simp[e]);rw[c]at m;cases m;cases g;refine v8 ?_;simpa[e]using j
    ·refine⟨.bl (b.all id),a.H,fin C A F,?_,q a _ (Ext.refl a) l rfl⟩;have f:its.toArray.size=b.length:=by rw[zY,<-hv.length];simp
     rw[f,all_range]
     rfl
   ·exact q.elim
  ·exact q.elim
 ·exact q.elim
theorem ZKe(t:X.calm=vF):CallR X (.builtin "any") (lRn X.K E Li):=by
 intro k s S H O J Q I B h;obtain⟨a,G,U,hk,rfl,l,r,q⟩:=h;unfold Li at q;split at q
 ·rename_i d;obtain⟨v,rfl,rv⟩:=reps1 r;split at q
  ·rename_i M y;split at q
   ·rename_i b z;cases ZAy z;obtain⟨p,T,rfl,n,o⟩:=J1 l rv y;cases ZCc o;rw[hk]at n;obtain⟨u,rfl,g⟩:=vals1 B;cases g;refine call_any_walk (U7 I t n λit fp wr its St s₂ hv W st hfp fin=>⟨it,fp,wr,its.toArray.size,_,St,λi=>b.getD i vF,rfl,W,st,λi w L P N hw j=>?_,λC A F=>?_⟩)
    ·have c:its[i]?=vD w:=by simpa using hw
     have f:i<(b.map V.bl).length:=by rw[hv.length];exact(zG.mp c).1
     have e:i<b.length:=by simpa using f
     obtain⟨u,m,g⟩:=hv.get (i:=i) (x:=V.bl b[i]) (by simp[e]);rw[c]at m;cases m;cases g;refine v8 ?_;simpa[e]using j
    ·refine⟨.bl (b.any id),a.H,fin C A F,?_,q a _ (Ext.refl a) l rfl⟩;have f:its.toArray.size=b.length:=by rw[zY,<-hv.length];simp
     rw[f,any_range]
     rfl
   ·exact q.elim
  ·exact q.elim
 ·exact q.elim
end
section
variable{X:Cx}{vC:List (xz×Obj)}{σ:St}{H:Hp}{s:xB}
theorem ZAm(I:Inv X vC σ H s)(m:H a=vE)(A:X.s₀.heap.objs.size<=a)(l:a≠X.env.locals)(k:∀x c,X.env.cells.lookup x=vD c->c≠a)(hp:∀p∈X.pn++vC,p.1≠a)
  (new:ObjOk X.prog X.w (upd H a o) s.heap a o):Inv X vC σ (upd H a o) s:=by
 have d:∀b u,H b=vD u->b≠a:=λb u e z=>by rw[z,m]at e;cases e
 refine⟨I.ok,I.os,I.bare,⟨I.base.keep,I.base.slot,λb g q n t=>?_,I.base.there,λb h q=>?_,λb g u q=>?_,λb j q=>?_⟩,I.loc,I.cell,?_,λx c e=>?_,λp f=>?_,λb u e=>?_,I.len⟩
 ·rw[Al (zE (zz (zx q) A))];exact I.base.free b g q n t
 ·have:=I.base.tups b h q;rw[Al (d _ _ this)];exact this
 ·have:=I.base.frzs b g u q;rw[Al (d _ _ this)];exact this
 ·obtain⟨more,this⟩:=I.base.tbls b j q;exact⟨more,by rw[Al (d _ _ this)];exact this⟩
 ·rw[Al (Ne.symm l)];exact I.free
 ·rw[Al (k x c e)];exact I.Hm x c e
 ·obtain⟨y,r,v⟩:=I.pin p f;exact⟨y,by rw[Al (hp p f)];exact r,v⟩
 ·by_cases i:b=a
  ·subst i;rw[Ej]at e;cases e;exact new
  ·rw[Al i]at e;exact(I.hok b u e).stay (λ_ _ _ q=>q) (λc q=>by rw[Al (d _ _ q)];exact q) λc h q=>by rw[Al (d _ _ q)];exact q
end
noncomputable def Es(env:Env):List (Str×xy)->List (Str×xz)->List (Str×xz)
 |[],cs=>cs
 |(n,k)::r,cs=>if(k==NameKind.free)=vF then Es env r ((n,(env.cells.lookup n).getD 0)::cs)else Es env r cs
theorem ZIZ(h:∀y∈scope.names,y.2=.free->∃c,env.cells.lookup y.1=vD c):closureFor scope env=pure (Es env scope.names []):=by
 unfold closureFor;obtain⟨a,names,p,o⟩:=scope;have d:∀(names:List (Str×xy))(cs:List (Str×xz)),(∀y∈names,y.2=.free->∃c,env.cells.lookup y.1=vD c)->
   (forIn names cs (λx r=>match x with
    |(name,a)=>if(a==NameKind.free)=vF then(do let c<-cellOf env name;pure (ForInStep.yield ((name,c)::r)))else pure (ForInStep.yield r)):Sem (List (Str×xz)))=pure (Es env names cs):=by
  intro names
  induction names with
  |nil=>intro cs _;rfl
  | cons y r j=>
   intro cs g;obtain⟨n,k⟩:=y;rw[xK];by_cases hk:(k==NameKind.free)=vF
   ·obtain⟨c,i⟩:=g (n,k) zW (by simpa using hk)
    have l:cellOf env n=pure c:=by unfold cellOf;rw[show env.cells.lookup n=vD c from i]
    have f:Es env ((n,k)::r) cs=Es env r ((n,c)::cs):=by rw[Es,if_pos hk,show env.cells.lookup n=vD c from i];rfl
    rw[f,<-j ((n,c)::cs) λe b=>g e (zZ _ b)];simp only[hk,if_true,l]
    rfl
   ·have f:Es env ((n,k)::r) cs=Es env r cs:=by rw[Es,if_neg hk]
    rw[f,<-j cs λe b=>g e (zZ _ b)];simp only[hk]
    rfl
 have:=d names [] h;exact congrArg (λm:Sem (List (Str×xz))=>m >>=λr=>pure r) this
theorem ZAc:∀{names:List (Str×xy)}{cs:List (Str×xz)},(∀y∈names,y.2=.free->∃c,env.cells.lookup y.1=vD c)->(∀p∈cs,env.cells.lookup p.1=vD p.2)->∀p∈Es env names cs,env.cells.lookup p.1=vD p.2
 |[],cs,_,a,p,hp=>a p hp
 | (n,k)::r,cs,d,a,p,hp=>by
  rw[Es]at hp;split at hp
  ·rename_i hk;obtain⟨c,e⟩:=d (n,k) zW (by simpa using hk);refine ZAc (λy f=>d y (zZ _ f)) (λq b=>?_) p hp;rcases zq.mp b with rfl|b
   ·rw[show env.cells.lookup n=vD c from e];rfl
   ·exact a q b
  ·exact ZAc (λy f=>d y (zZ _ f)) a p hp
theorem Vg:∀{names:List (Str×xy)}{cs:List (Str×xz)},((x,.free)∈names∨∃c,(x,c)∈cs)->∃c,(x,c)∈Es env names cs
 |[],cs,h=>by
  rcases h with h|h
  ·cases h
  ·exact h
 | (n,k)::r,cs,h=>by
  rw[Es];split
  ·refine Vg ?_;rcases h with h|⟨c,h⟩
   ·rcases zq.mp h with e|h
    ·cases e;exact .inr ⟨_,zW⟩
    ·exact .inl h
   ·exact .inr ⟨c,zZ _ h⟩
  ·rename_i hk;refine Vg ?_;rcases h with h|h
   ·rcases zq.mp h with e|h
    ·cases e;exact absurd rfl hk
    ·exact .inl h
   ·exact .inr h
theorem ZBA:∀{l:List (Str×xz)},(x,c)∈l->∃d,l.lookup x=vD d
 |[],h=>by cases h
 | (y,d)::l,h=>by
  by_cases e:x=y
  ·subst e;exact⟨d,by simp⟩
  ·rcases zq.mp h with z|h
   ·cases z;exact absurd rfl e
   ·obtain⟨a,q⟩:=ZBA h;exact⟨a,by rw[jw,beq_eq_false_iff_ne.mpr e];exact q⟩
theorem ZF5(x:Str):(relabel scope env).names.lookup x=(scope.names.lookup x).map λk=>if(k==NameKind.free&&env.scope.kind == .function&&env.kindOf x==vD .cell)=vF then .cell else k:=by
 unfold relabel;generalize scope.names=l
 induction l with
 |nil=>rfl
 | cons y r a=>
  obtain⟨n,k⟩:=y;by_cases e:x=n
  ·subst e;simp only[zw]
   cases c:(k==NameKind.free&&env.scope.kind==ScopeKind.function&&env.kindOf x==vD NameKind.cell) <;>
    simp only[c,if_true,jw,beq_self_eq_true,Option.map_some,jQ,if_false]
  ·have b:(x==n)=vG:=beq_eq_false_iff_ne.mpr e;simp only[zw];split
   ·rw[jw,jw,b];exact a
   ·rw[jw,jw,b];exact a
def blk(X:Cx)(N:List Str)(scope:xA)(C:xz)(s₀:xB)(H₀:Hp)(ex:List xz):Cx where
 prog:=X.prog
 w:=X.w
 K:=X.K
 mg:=X.mg
 base:=X.base
 A:=X.A
 N:=N
 s₀:=s₀
 H₀:=H₀
 env:=compEnvC scope (Es X.env scope.names []) C X.env
 outer:=X.stack
 stack:=X.stack
 ex:=ex
 fn:=λ_=>vG
 calm:=X.calm
 pn:=[]
 xe:=λ_ _=>False
structure CompSc (X:Cx) (N:List Str) (scope:xA) (nt:Nat) (caps:List Nat):Prop where
 kind:scope.kind=.function
 names:∀y∈scope.names,y.2=.local->scope.names.lookup y.1=vD .local
 nocell:∀y∈scope.names,y.2≠ .cell
 free:∀y∈scope.names,y.2=.free->X.env.kindOf y.1=vD .cell∨X.env.kindOf y.1=vD .free
 nd:N.Nodup
 len:N.length=nt+caps.length
 cap:∀(k j:Nat),caps[k]?=vD j->∃x,X.N[j]?=vD x/\N[nt+k]?=vD x/\scope.names.lookup x=vD .free
section
variable{X:Cx}{vC:List (xz×Obj)}{σ:St}{H:Hp}{s:xB}{N:List Str}{scope:xA}{nt:Nat}{caps:List Nat}
theorem CompSc.cells(c:CompSc X N scope nt caps)(ok:X.Ok):∀y∈scope.names,y.2=.free->∃c,X.env.cells.lookup y.1=vD c:=λy a hk=>ok.has y.1 (c.free y a hk)
theorem CompSc.cl(c:CompSc X N scope nt caps)(ok:X.Ok)(h:(Es X.env scope.names []).lookup x=vD d):X.env.cells.lookup x=vD d:=
 ZAc (c.cells ok) (λp hp=>by cases hp) (x,d) (PySem.mem_of_lookup h)
theorem ZNr(c:CompSc X N scope nt caps)(I:Inv X vC σ H s){fp:List xz}(hf:∀b∈fp,FpOk X vC H b){C:xz}(hC:s.heap.objs.size<=C)(hCf:C∉fp):(blk X N scope C s H fp).Ok where
 mod:=I.ok.mod
 kind:=c.kind
 glob:=I.ok.glob
 blt:=I.ok.blt
 above:=hC
 inj:=λx y d h1 h2=>I.ok.inj x y d (c.cl I.ok h1) (c.cl I.ok h2)
 has:=λx h=>by
  have h':(relabel scope X.env).names.lookup x=vD .cell∨(relabel scope X.env).names.lookup x=vD .free:=h;rw[ZF5]at h';have hfree:scope.names.lookup x=vD .free:=by
   cases e:scope.names.lookup x with
   |none=>rw[e]at h';rcases h' with h'|h'<;>cases h'
   |some k=>
    rw[e]at h';cases k with
    |free=>rfl
    |cell=>exact absurd rfl (c.nocell _ (PySem.mem_of_lookup e))
    |_=>rcases h' with h'|h'<;>(simp at h')
  obtain⟨d,hd⟩:=Vg (env:=X.env) (x:=x) (names:=scope.names) (cs:=[]) (.inl (PySem.mem_of_lookup hfree));exact ZBA hd
 cab:=λx d h=>by cases h
 hd:=I.ok.hd
 frames:=I.ok.frames
 stk:=.inl rfl
 exf:=λb hb=>⟨λz=>hCf (by rw[<-show b=C from z];exact hb),λx d h=>(hf b hb).2.2.2.2.1 x d (c.cl I.ok h)⟩
 bs:=I.bs
 bsz:=zA I.ok.bsz I.sz
 noex:=λb o e hb=>by
  rcases(hf b hb).2.2.2.1 with h|h
  ·exact I.ok.noex b o e h
  ·exact absurd (zz (zx (I.ok.bs b o e).1) h) (qW _)
 exfs:=λb hb hz=>by
  rcases zq.mp (I.Vf b hz)with z|z
  ·exact(hf b hb).2.1 z
  ·exact(hf b hb).2.2.1 z
 funs:=I.stack
 frf:=I.ZGG
end
def Ck(g:DG)(c:DB)(te:DE)(S:DSt):List D->DH->R (List D)
 |[],G=>.ok [] G
 | x::xs,G=>(g x S G).bind λS1 G1=>(c S1 G1).bind λk G2=>
   if k=vF then(te S1 G2).bind λd G3=>(Ck g c te S xs G3).bind λds G4=>.ok (d::ds) G4 else Ck g c te S xs G2
def Fw(i:Nat)(g:DG)(c:DB)(te:DE)(S:DSt):Nat->Nat->DH->R (List D)
 |0,j,G=>match G[i]? with
  |some (.lst xs)=>if xs.length<=j then .ok [] G else .bad
  |_=>.bad
 | n + 1,j,G=>match G[i]? with
  |some (.lst xs)=>match xs[j]? with
   | some x=>(g x S G).bind λS1 G1=>(c S1 G1).bind λk G2=>
     if k=vF then(te S1 G2).bind λd G3=>(Fw i g c te S n (j+1) G3).bind λds G4=>.ok (d::ds) G4 else Fw i g c te S n (j+1) G2
   |none=>.ok [] G
  |_=>.bad
def De(f:Nat->DH->Option (Option D))(g:DG)(c:DB)(te:DE)(S:DSt):Nat->Nat->DH->R (List D)
 |0,j,G=>match f j G with
  |some vE=>.ok [] G
  |_=>.bad
 | n + 1,j,G=>match f j G with
  |some (vD x)=>(g x S G).bind λS1 G1=>(c S1 G1).bind λk G2=>
     if k=vF then(te S1 G2).bind λd G3=>(De f g c te S n (j+1) G3).bind λds G4=>.ok (d::ds) G4 else De f g c te S n (j+1) G2
  |some vE=>.ok [] G
  |none=>.bad
noncomputable def Ax(nt:Nat)(caps:List Nat)(S:DSt):DSt:=zV nt vE++caps.map λj=>(S[j]?).join
def Bw(it:DI)(nt:Nat)(caps:List Nat)(g:DG)(c:DB)(te:DE):DE:=λS G=>(it S G).bind λJ G1=>(match J with
 |.pure xs=>Ck g c te (Ax nt caps S) xs G1
 |.mt i=>match G1[i]? with
  |some (.lst xs)=>Fw i g c te (Ax nt caps S) xs.length 0 G1
  |_=>.bad
 |.fn n f=>De f g c te (Ax nt caps S) n 0 G1).bind Ah
noncomputable def Bd:DB:=λ_ G=>.ok vF G
def GK(nt:Nat)(g:DG):Prop:=∀d S G S1 G1,g d S G=.ok S1 G1->∀i e,nt<=i->S[i]?=vD (vD e)->S1[i]?=vD (vD e)
def GKs(nt:Nat)(g:DGs):Prop:=∀d S G S1 G1,g d S G=.ok S1 G1->∀i e,nt<=i->S[i]?=vD (vD e)->S1[i]?=vD (vD e)
theorem ZTH(h:i<nt):GK nt (gV i):=λd S G k f e j x b a=>by cases e;rw[jX (by lia)];exact a
theorem ZKZ:GKs nt Aw:=λd S G h f e j x b a=>by
 cases d with
 |nil=>cases e;exact a
 |cons _ _=>cases e
theorem ZOB(n:GK nt t)(l:GKs nt u):GKs nt (Ae t u):=λd S G i h e j x k m=>by
 cases d with
 |nil=>cases e
 |cons a r=>
  have b:(t a S G).bind (λi h=>u r i h)=.ok i h:=e;cases f:t a S G with
  |ok o p=>rw[f]at b;exact l _ _ _ _ _ b j x k (n _ _ _ _ _ f j x k m)
  |err _ _=>rw[f]at b;cases b
  |bad=>rw[f]at b;cases b
theorem ZMI(h:GKs nt t):GK nt (Ao n t):=λd S G k i e j x b a=>by
 cases d with
 |tup f=>
  unfold Ao at e;dsimp only at e;split at e
  ·exact h _ _ _ _ _ e j x b a
  ·cases e
 |_=>cases e
theorem ZKO(h:out E a (r.bind f) Q):
  Eu E a r (λi H=>∃(b:Wd)(S:DSt)(G:DH),b.H=H/\Ext a b/\Sim b G/\RepS b S i/\r=.ok S G/\out E b (f S G) Q):=by
 cases r with
 |ok d G=>exact λb v x s q=>⟨b,d,G,rfl,x,s,q,rfl,out.mono x h⟩
 |err e G=>exact h
 |bad=>exact h
theorem R.bind_assoc{d b e:Type}(r:R d)(f:d->DH->R b)(g:b->DH->R e):(r.bind f).bind g=r.bind λa G=>(f a G).bind g:=by cases r<;>rfl
theorem ZFS(h:out E a (r.bind f) Q):
  outI E a r (λJ H=>∃(b:Wd)(d:ItD)(G:DH),b.H=H/\Ext a b/\Sim b G/\RepI b d J/\r=.ok d G/\out E b (f d G) Q):=by
 cases r with
 |ok d G=>exact λb v x s q=>⟨b,d,G,rfl,x,s,q,rfl,out.mono x h⟩
 |err e G=>exact h
 |bad=>exact h
section
variable{prog:x0}{w:xE}{A:xj}{R':Result->xB->Prop}{s:xB}
def CItem(prog:x0)(w:xE)(A:xj)(target elt:xw)(ifs:List xw)(acc:xD)(env:Env)(P:xB->Prop)(v:xD)(s:xB):Prop:=
 vY (vZ prog w) A (assign target env v) (λ_ s₂=>
  vY (vZ prog w) A (forIn ifs vF λc r=>if r=vF then do let ok<-isTrue c env (eval c env);pure (ForInStep.yield ok)else pure (ForInStep.yield r)) (λok s₃=>
   if ok=vF then vY (vZ prog w) A (eval elt env) (λx s₄=>vY (vZ prog w) A (call (.builtin "list.append") [acc,x]) (λ_ s₅=>P s₅) (λ_ _=>False) s₄) (λ_ _=>False) s₃
   else P s₃) (λ_ _=>False) s₂) (λ_ _=>False) s
def CTurn(prog:x0)(w:xE)(A:xj)(target elt:xw)(ifs:List xw)(it acc:xD)(env:Env)(R' P:xB->Prop)(s:xB):Prop:=
 vY (vZ prog w) A (pyNext it) (λr s₁=>match r with
  |none=>R' s₁
  |some v=>vY (vZ prog w) A (xU target it v) (λ_ s₁=>CItem prog w A target elt ifs acc env P v s₁) (λ_ _=>False) s₁) (λ_ _=>False) s
theorem ZP6(I:Nat->xB->Prop)
  (e:∀n s,I n s->CTurn prog w A target elt ifs it acc env (R' (.ok .next)) (λs'=>∃m,m<n/\I m s') s)
  (n:Nat) (h:I n s):
  codeAny (vZ prog w) A (.compLoop (.ListComp elt [⟨target,iter,ifs,0⟩] scope pos) 0 it acc env) R' s:=by
 refine codeAny_loop rfl I (λn s u=>?_) n h
 show vY _ A ((compTurn (.ListComp elt [⟨target,iter,ifs,0⟩] scope pos) 0 it acc env).onRaise (λx=>do noteFrame x env;theTreesLotGoes x)) _ _ s
 refine wpAny_noted ?_;rw[compTurn_list];refine v3 ?_ (λ_ _ q=>q) (λ_ _(f:False)=>f.elim);refine vz (wpAny_standAt (vz (v3 (e n s u) (λr t a=>?_) λ_ _ b=>b)));cases r with
 |none=>exact v6 a
 | some v=>
  refine vz (v3 a (λ_ k a=>?_) λ_ _ b=>b);refine vz (v3 a (λ_ p d=>vz (v3 d (λok s₃ h₃=>?_) λ_ _ b=>b)) λ_ _ b=>b);cases ok with
  |false=>exact v6 ⟨rfl,h₃⟩
  |true=>
   exact vz (vz (v3 h₃ (λx o j=>vz (v3 j (λ_ l i=>v6 (v6 ⟨rfl,i⟩)) λ_ _ b=>b)) λ_ _ b=>b))
end
def QTs(X:Cx)(E:XK)(ifs:List xw)(t:DB):Prop:=
 ∀(vC:List (xz×Obj))(s:xB)(σ:St)(H:Hp)(Q:Bool->Hp->Prop),Inv X vC σ H s->lB X.K E t σ H Q->
  vY (vZ X.prog X.w) X.A (forIn ifs vF λc r=>if r=vF then do let ok<-isTrue c X.env (eval c X.env);pure (ForInStep.yield ok)else pure (ForInStep.yield r)) (TP X vC σ Q) X.xe s
theorem ZLP:QTs X E [] Bd:=λb s e H Q I h=>by obtain⟨a,S,G,hk,rfl,d,r,h⟩:=h;exact wpAny_tests_nil ⟨a.H,I,h a (Ext.refl a) d⟩
theorem ZQI(d:QT X E c t):QTs X E [c] t:=λa s b H Q I h=>wpAny_tests_one (d a s b H Q I h)
section
variable{X:Cx}{E:XK}{N:List Str}{scope:xA}{nt:Nat}{caps:List Nat}{tg elt iter:xw}{ifs:List xw}{pos:Pos}{it:DI}{g:DG}{c:DB}{te:DE}
theorem ZJ3(r:RepS a S σ):RepS a (Ax nt caps S) (zV nt vE++caps.map λj=>(σ[j]?).join):=by
 refine⟨by simp[Ax],λi d h=>?_⟩;unfold Ax at h;by_cases f:i<nt
 ·rw[qX (by simpa using f),jq]at h
  split at h<;>cases h
 ·rw [zL (by simpa using f),zj]at h;rw[zL (by simpa using f),zj];rw[jR]at h⊢;cases e:caps[i-nt]? with
  |none=>rw[e]at h;cases h
  | some j=>
   rw[e]at h;have b:(S[j]?).join=vD d:=by simpa using h
   have l:S[j]?=vD (vD d):=by
    cases q:S[j]? with
    |none=>rw[q]at b;cases b
    |some o=>
     rw[q]at b;have k:o=vD d:=b;rw[k]
   obtain⟨v,m,rv⟩:=r.get j d l;exact⟨v,by simp[m],rv⟩
theorem ZOx(h:(Ax nt caps S)[i]?=vD (vD d)):nt<=i:=by
 unfold Ax at h;by_cases a:i<nt
 ·rw[qX (by simpa using a),jq]at h
  split at h<;>cases h
 ·lia
theorem ZAg(hc:X.calm=vF)(cs:CompSc X N t nt caps)
  (hg:∀C s₀ H₀ ex,QG (blk X N t C s₀ H₀ ex) E0 tg g) (gk:GK nt g) (hts:∀C s₀ H₀ ex,QTs (blk X N t C s₀ H₀ ex) E0 ifs c) (he:∀C s₀ H₀ ex,QE (blk X N t C s₀ H₀ ex) E0 elt te)
  {vC:List (xz×Obj)} {σ:St} {s:xB} {a:Wd} {S:DSt} {G:DH} {J:It} {n0:Nat} {f:Nat->DH->Option (Option D)} {i0:xz} {fp:List xz} {tn:Nat->Heap->Prop} (I:Inv X vC σ a.H s) (hk:a.K=X.K) (sm:Sim a G) (rS:RepS a S σ)
  (T:Turn X.prog X.w X.K tg J fp i0 tn) (t0:tn 0 s.heap) (hf:∀b∈fp,FpOk X vC a.H b) (rJ:RepI a (.fn n0 f) J) {Q:VK}
  (h:out E0 a ((De f g c te (Ax nt caps S) n0 0 G).bind Ah) Q)
  {RR:xD->xz->Result->xB->Prop} {E':xD->xB->Prop}
  (hRR:∀(D C:xz)(s':xB)(b:Wd)(vs:List V),Inv X vC σ (upd b.H D (.lst vs)) s'->b.H D=vE->s.heap.objs.size<=C->D≠C->(∃m,s'.heap.Ns C m)->b.H C=vE->Q (.ref D) (upd b.H D (.lst vs))->RR (.ref D) C (.ok .next) s'):
  vY (vZ X.prog X.w) X.A (newList []) (λacc s₃=>vY (vZ X.prog X.w) X.A (newFunctionEnv t X.env.globals (Es X.env t.names []) [] X.env.qual vE .none (vD X.env)) (λcenv s₄=>
   codeAny (vZ X.prog X.w) X.A (.compStart (.ListComp elt [⟨tg,iter,ifs,0⟩] t pos) 0 (.ref i0) acc {cenv with scope:=relabel t X.env}) (RR acc cenv.locals) s₄) E' s₃) E' s:=by
 refine v4 (wpAny_newFunctionEnv cs.nocell (by intro y hy;simp at hy) (λh₁ hns₁ U=>?_) cs.kind);dsimp only at hns₁ U⊢;generalize hH2:s.heap.push {cls:=.type "list",dict:=vE,data:=.seq ([]:List xD).toArray}=H2 at hns₁ U⊢;have hC:H2.objs.size=s.heap.objs.size+1:=by rw[<-hH2,qE]
 have hDC:s.heap.objs.size≠H2.objs.size:=by rw[hC];exact zE (qK _)
 have hCle:s.heap.objs.size<=H2.objs.size:=by rw[hC];exact j9 _
 have fpOld:∀b∈fp,b<s.heap.objs.size:=λb hb=>by obtain⟨o,e,_⟩:=T.obj 0 _ t0 b hb;exact zx e
 have hDf:s.heap.objs.size∉fp:=λhm=>qW _ (fpOld _ hm)
 have hCf:H2.objs.size∉fp:=λhm=>by have:=fpOld _ hm;rw[hC]at this;exact qW _ (Nat.lt_of_succ_lt this)
 have old:∀b o,s.heap.get? b=vD o->h₁.get? b=vD o:=λb o e=>
  U.extBut b o (by rw[hC];exact zE (qP (zx e))) (zJ _ (hH2▸zJ _ e))
 have hacc:h₁.PlainList s.heap.objs.size ([]:List xD).toArray:=⟨_,U.extBut _ _ hDC (zJ _ (hH2▸z0 _ rfl))⟩;generalize hCe:H2.objs.size=C at*;generalize Z:s.heap.objs.size=F at*;let B:=blk X N t C s a.H fp;have okB:B.Ok:=ZNr cs I hf (by rw[Z];exact hCle) hCf;let σ0:St:=zV nt vE++caps.map λj=>(σ[j]?).join
 have start:∀tk,Inv B [] σ0 a.H {s with heap:=h₁,toks:=tk}:=λtk=>by
  refine⟨okB,rfl,I.bare,Un.kept old,⟨_,hns₁,λi x v e1 e2 e3=>?_⟩,λx d' e=>?_,I.hok.fresh (by rw[Z];exact hCle),λx d' e=>?_,λp hp=>?_,I.hok.kept old,?_⟩
  ·have hi:nt<=i:=by
    by_cases hi:i<nt
    ·have e2':σ0[i]?=vD (vD v):=e2;rw[qX (by simpa using hi),jq]at e2'
     split at e2'<;>cases e2'
    ·lia
   have e2':σ0[i]?=vD (vD v):=e2;rw[zL (by simpa using hi),zj,jR]at e2';cases ej:caps[i-nt]? with
   |none=>rw[ej]at e2';cases e2'
   | some j=>
    rw[ej]at e2';have h1:(σ[j]?).join=vD v:=by simpa using e2'
    have h2:σ[j]?=vD (vD v):=by
     cases q:σ[j]? with
     |none=>rw[q]at h1;cases h1
     |some o=>
      rw[q]at h1;have h1':o=vD v:=h1;rw[h1']
    obtain⟨y,ey,en,ek⟩:=cs.cap (i-nt) j ej;have exy:x=y:=by
     have:nt+(i-nt)=i:=by lia
     rw[this]at en;have e1':N[i]?=vD x:=e1;rw[e1']at en;exact Option.some.inj en
    subst exy;have kx:=cs.free (x,.free) (PySem.mem_of_lookup ek) rfl;have vis:Vis X.env.scope x:=by
     rcases kx with kx|kx
     ·exact .inr (.inl kx)
     ·exact .inr (.inr kx)
    obtain⟨m,hn,hl⟩:=I.loc;obtain⟨u,ru,lk⟩:=hl j x v ey h2 vis;refine⟨u,ru,?_⟩;rcases lk with⟨k1,_⟩|⟨k1,c1,ec,hcell⟩
    ·rcases kx with kx|kx
     ·rw[k1]at kx;cases kx
     ·rw[k1]at kx;cases kx
    ·refine .inr ⟨?_,c1,?_,?_⟩
     ·show(relabel t X.env).names.lookup x=vD .cell∨(relabel t X.env).names.lookup x=vD .free;rw[ZF5,ek];simp only[Option.map_some];split
      ·exact .inl rfl
      ·exact .inr rfl
     ·obtain⟨d1,hd1⟩:=Vg (env:=X.env) (x:=x) (names:=t.names) (cs:=[]) (.inl (PySem.mem_of_lookup ek));obtain⟨d2,hd2⟩:=ZBA hd1;have:=cs.cl I.ok hd2;rw[ec]at this;cases this;exact hd2
     ·obtain⟨o,e,dd⟩:=hcell;exact⟨o,old _ _ e,dd⟩
  ·obtain⟨v,o,e',dd⟩:=I.cell x d' (cs.cl I.ok e);exact⟨v,o,old _ _ e',dd⟩
  ·exact I.Hm x d' (cs.cl I.ok e)
  ·exact absurd hp (by simp[B,blk])
  ·show σ0.length=N.length;rw[cs.len];simp[σ0]
 have rS0:RepS a (Ax nt caps S) σ0:=ZJ3 rS;have aD:a.H F=vE:=I.hok.fresh (by rw[Z];exact zK _);have young:∀b∈fp,b≠C:=λb hb z=>hCf (z▸hb)
 have fpB:∀{H':Hp}{ps:List (xz×Obj)},(∀b∈fp,H' b=vE)->(∀p∈ps,p.1∉fp)->∀b∈fp,FpOk B ps H' b:=λ{H' ps}hn hps b hb=>
  ⟨hn b hb,young b hb,okB.exfs b hb,.inl hb,λx d' e=>(hf b hb).2.2.2.2.1 x d' (cs.cl I.ok e),λp hp z=>by
   have hp':p∈ps:=by simpa[B,blk]using hp
   exact hps p hp' (z▸hb)⟩
 have nstk:F∉frs X.stack:=λz=>by
  rcases zq.mp (I.Vf F z)with z|z
  ·have:=I.lt;rw[Z,<-z]at this;exact qW _ this
  ·exact I.nofs (by rw[Z];exact zK _) z
 have pinD:∀{L:St}{H':Hp}{s':xB}{l:List xD}{nD:Nat},Inv B [] L H' s'->s'.heap.get? F=vD {cls:=.type "list",data:=.seq l.toArray nD}->H' F=vE->Inv B [(F,{cls:=.type "list",data:=.seq l.toArray nD})] L H' s':=λ{L H' s' l nD}J e n=>
  J.K5 λp hp=>by
   have ep:p=(F,{cls:=.type "list",data:=.seq l.toArray nD}):=by simpa using hp
   subst ep;exact⟨e,n,hDC,nstk,λv' z=>by cases z⟩
 have fin:∀(s':xB)(b:Wd)(L:St)(l:List xD)(O:List D)(G':DH),Inv B [] L b.H s'->Ext a b->Sim b G'->s'.heap.PlainList F l.toArray->b.H F=vE->(∃vs,Vals vs l/\Reps b O vs)->out E0 b (Ah O G') Q->RR (.ref F) C (.ok .next) s':=by
  intro s' b L l O G' IB x sb pl hD ⟨vs,hv,rv⟩ hq;have hz:O.length<=1000000:=by
   unfold Ah at hq;split at hq
   ·assumption
   ·exact hq.elim
  have Ix:Inv X vC σ b.H s':=I.call' IB.os IB.base IB.hok IB.bare λb hb=>⟨(hf b hb).2.2.2.1,(hf b hb).2.1,(hf b hb).2.2.2.2.1,(hf b hb).2.2.2.2.2⟩
  obtain⟨n,eD⟩:=pl;have ylt:∀{q:xz}{o:Obj},s.heap.get? q=vD o->q≠F:=λe z=>by rw[z,<-Z]at e;exact absurd (zx e) (qW _)
  have Ia:Inv X vC σ (upd b.H F (.lst vs)) s':=by
   refine ZAm Ix hD (by rw[<-Z];exact I.sz) ?_ (λy c' ec=>?_) (λp hp=>?_) ⟨?_,l,n,hv,eD⟩
   ·rw[<-Z];exact jk I.lt
   ·obtain⟨v,o,e,_⟩:=I.cell y c' ec;exact ylt e
   ·exact ylt (I.pin p hp).1
   ·rw[<-rv.length];exact zA hz size6
  refine hRR F C s' b vs Ia hD hCle hDC (let⟨m,hn,_⟩:=IB.loc;⟨m,hn⟩) IB.free ?_;unfold Ah at hq;rw[if_pos hz]at hq;exact Jj sb rv hq F hD
 have turnX:∀(P:xB->Prop)(rest:DH->R (List D))(s1:xB)(b:Wd)(G1:DH)(σ1:St)(l:List xD)(acc:List D)(u:xD)(v:V)(x:D)(i:Nat),Inv B [] σ1 b.H s1->Ext a b->Sim b G1->RepS b (Ax nt caps S) σ1->tn i s1.heap->(∀q∈fp,b.H q=vE)->
   s1.heap.PlainList F l.toArray->b.H F=vE->(∃vs,Vals vs l/\Reps b acc vs)->RelV v u->Rep b x v->
   out E0 b (((g x (Ax nt caps S) G1).bind λS1 G1=>(c S1 G1).bind λk G2=>if k=vF then(te S1 G2).bind λd G3=>(rest G3).bind λO G4=>.ok (d::O) G4 else rest G2).bind λO G=>Ah (acc++O) G) Q->
   (∀(s2:xB)(b2:Wd)(G2:DH)(Y:St)(its2:List xD)(acc2:List D),Inv B [] Y b2.H s2->Ext a b2->Sim b2 G2->RepS b2 (Ax nt caps S) Y->tn i s2.heap->(∀q∈fp,b2.H q=vE)->
    s2.heap.PlainList F its2.toArray->b2.H F=vE->(∃vs,Vals vs its2/\Reps b2 acc2 vs)->out E0 b2 ((rest G2).bind λO G=>Ah (acc2++O) G) Q->P s2)->
   CItem X.prog X.w X.A tg elt ifs (.ref F) B.env P u s1:=by
  intro P rest s1 b G1 σ1 l acc u v x i I1 x1 sb rSb t1 hfp pl hD hacc' ru rx hq next
  rw[R.bind_assoc]at hq;obtain⟨nD,eD⟩:=id pl;let pinD:List (xz×Obj):=[(F,{cls:=.type "list",data:=.seq l.toArray nD})];have pinOk:∀{L:St}{H':Hp}{s':xB},Inv B (pinD++Mz fp s1.heap) L H' s'->s'.heap.PlainList F l.toArray/\H' F=vE/\tn i s'.heap/\∀q∈fp,H' q=vE:=λ{L H' s'}J=>by
   have p1:=J.pin (F,{cls:=.type "list",data:=.seq l.toArray nD}) (qZ _ (xX _ (by simp[pinD])));refine⟨⟨nD,p1.1⟩,p1.2.1,T.keep _ _ _ t1 λq M o e=>(J.pin (q,o) (qZ _ (qZ _ (Tq M e)))).1,λq M=>?_⟩;obtain⟨o,e,_⟩:=T.obj _ _ t1 q M;exact(J.pin (q,o) (qZ _ (qZ _ (Tq M e)))).2.1
  have I2:Inv B (pinD++Mz fp s1.heap) σ1 b.H s1:=I1.K5 λp hp=>by
   rcases jG.mp hp with hp|hp
   ·have e:p=(F,{cls:=.type "list",data:=.seq l.toArray nD}):=by simpa[pinD]using hp
    subst e;refine⟨eD,hD,hDC,λz=>?_,λv' z=>by cases z⟩;exact nstk z
   ·obtain⟨hb,e⟩:=ZFi hp;obtain⟨f0,f1,f2,_⟩:=fpB (ps:=[]) hfp (λp hp=>by cases hp) p.1 hb;obtain⟨o,e',dd⟩:=T.obj _ _ t1 p.1 hb;rw[e]at e';cases e';exact⟨e,f0,f1,f2,dd⟩
  refine thn (hg C s a.H fp _ s1 σ1 b.H v u _ I2 ru ⟨b,Ax nt caps S,G1,x,x1.k.trans hk,rfl,sb,rSb,rx,(ZKO hq).imp λ_ _ z=>z⟩) ?_;rintro _ s2 ⟨Y,H2',J2,b2,S2,G2,rfl,y2,sb2,rS2,eg,hq2⟩;rw[R.bind_assoc]at hq2;have rS2':RepS b2 (Ax nt caps S) Y:=⟨by have h1:=J2.len;have h2:σ1.length=N.length:=I1.len;rw[rSb.len,h2];exact h1.symm,λj e' hj=>rS2.get j e' (gk _ _ _ _ _ eg j e' (ZOx hj) hj)⟩
  refine thn (hts C s a.H fp _ s2 Y b2.H _ J2 ⟨b2,S2,G2,y2.k.trans (x1.k.trans hk),rfl,sb2,rS2,(ZHG hq2).imp λ_ _ z=>z⟩) ?_;rintro k s3 ⟨H3,J3,b3,G3,rfl,y3,sb3,_,hq3⟩;cases k with
  |false=>
   obtain⟨p1,p2,p3,p4⟩:=pinOk J3;have Jn:Inv B [] Y b3.H s3:=J3.K5 λp hp=>by cases hp
   obtain⟨vs,hv,rv⟩:=hacc'
   exact next s3 b3 G3 Y l acc Jn (x1.trans (y2.trans y3)) sb3 (rS2'.mono y3) p3 p4 p1 p2 ⟨vs,hv,(rv.mono y2).mono y3⟩ hq3
  | true=>
   have hq3':out E0 b3 (((te S2 G3).bind λd G3=>(rest G3).bind λO G4=>.ok (d::O) G4).bind λO G=>Ah (acc++O) G) Q:=hq3;rw[R.bind_assoc]at hq3';refine thn (he C s a.H fp _ s3 Y b3.H _ J3 ⟨b3,S2,G3,y3.k.trans (y2.k.trans (x1.k.trans hk)),rfl,sb3,rS2.mono y3,(Em hq3').imp λ_ _ z=>z⟩) ?_;rintro w s4 ⟨vw,H4,J4,rw',b4,d4,G4,rfl,y4,sb4,q4,_,hq4⟩;obtain⟨p1,p2,p3,p4⟩:=pinOk J4;rw[R.bind_assoc]at hq4;have W:out E0 b4 ((rest G4).bind λO G=>Ah ((acc++[d4])++O) G) Q:=by
    have e:(λ(O:List D)(G:DH)=>(R.ok (d4::O) G).bind λO G=>Ah (acc++O) G)=λO G=>Ah ((acc++[d4])++O) G:=by funext O G;simp
    rw[<-e];exact hq4
   obtain⟨vs,hv,rv⟩:=hacc';have hsz:l.toArray.size<=sizeLine:=by
    have:acc.length<=1000000:=by
     cases hr:rest G4 with
     |ok O G5=>
      rw[hr]at W;have hq5:out E0 b4 (Ah ((acc++[d4])++O) G5) Q:=W;unfold Ah at hq5;split at hq5
      ·rename_i hl;simp at hl;lia
      ·exact hq5.elim
     |err e' G5=>rw[hr]at W;exact(W.1 rfl).elim
     |bad=>rw[hr]at W;exact W.elim
    rw[zY,<-hv.length,<-rv.length];exact zA this size6
   refine wpAny_list_append_plain p1 (λh' hpl hsb=>?_) hsz;have Jn:Inv B [] Y b4.H s4:=J4.K5 λp hp=>by cases hp
   have J5:Inv B [] Y b4.H {s4 with heap:=h'}:=by refine Jn.turned (it:=F) (t':=s4.toks) (λq o M e=>(hsb.2 q M).trans e) p2 hDC (.inr (by show s.heap.objs.size<=F;rw[Z];exact zK _)) (λy c' ec=>?_) (λp hp=>absurd hp (by simp[B,blk]));obtain⟨v',o,e,_⟩:=I.cell y c' (cs.cl I.ok ec);intro z;rw[z,<-Z]at e;exact absurd (zx e) (qW _)
   refine next _ b4 G4 Y (l++[w]) (acc++[d4]) J5 (x1.trans (y2.trans (y3.trans y4))) sb4 ((rS2'.mono y3).mono y4) (T.keep _ _ _ p3 λq M o e=>(hsb.2 q (λz=>hDf (z▸M))).trans e) p4 (by simpa using hpl) p2 ⟨vs++[vw],hv.append (.cons rw' .nil),(((rv.mono y2).mono y3).mono y4).append (Reps.cons q4 Reps.nil)⟩ W
 have loop:∀s₃:xB,s₃={s with heap:=h₁,toks:=s.toks+([]:List (Str×xD)).length}->
   codeAny (vZ X.prog X.w) X.A (.compLoop (.ListComp elt [⟨tg,iter,ifs,0⟩] t pos) 0 (.ref i0) (.ref F) B.env) (RR (.ref F) C) s₃:=by
  rintro s₃ rfl;have t1:tn 0 h₁:=T.keep _ _ _ t0 λq _ o e=>old q o e
  have fp0:∀q∈fp,a.H q=vE:=λq hq=>(hf q hq).1
  have walk:∀b:Wd,Ext a b->∀G,Sim b G->∀i,(∀d,f i G=vD (vD d)->J.go i b.H/\∀x H',J.yld i b.H x H'->∃c:Wd,c.H=H'/\Ext b c/\Sim c G/\Rep c d x)/\(f i G=vD vE->J.stop i b.H):=rJ;obtain⟨Iv,hIv⟩:∃Iv:Nat->xB->Prop,∀m s',Iv m s'↔∃(i:Nat)(b:Wd)(G':DH)(L:St)(l:List xD)(acc:List D),Inv B [] L b.H s'/\Ext a b/\Sim b G'/\RepS b (Ax nt caps S) L/\tn i s'.heap/\(∀q∈fp,b.H q=vE)/\s'.heap.PlainList F l.toArray/\b.H F=vE/\(∃vs,Vals vs l/\Reps b acc vs)/\out E0 b ((De f g c te (Ax nt caps S) m i G').bind λO G=>Ah (acc++O) G) Q:=⟨_,λ_ _=>Iff.rfl⟩
  refine ZP6 Iv (λm s' h'=>?_) n0 ((hIv _ _).2 ⟨0,a,G,σ0,[],[],start _,Ext.refl a,sm,rS0,t1,fp0,hacc,aD,⟨[],.nil,rfl⟩,by simpa using h⟩);obtain⟨i,b,G',L,l,acc,IB,x,sb,rSb,ti,hfp,pl,hD,hac,hq⟩:=(hIv _ _).1 h';clear h';obtain⟨nD,eD⟩:=pl;have I0:=pinD IB eD hD;have f0:=fpB (ps:=[(F,{cls:=.type "list",data:=.seq l.toArray nD})]) hfp (λp hp=>by
   have ep:p=(F,{cls:=.type "list",data:=.seq l.toArray nD}):=by simpa using hp
   subst ep;exact hDf)
  have stop:J.stop i b.H->out E0 b (Ah acc G') Q->∀P,CTurn X.prog X.w X.A tg elt ifs (.ref i0) (.ref F) B.env (RR (.ref F) C (.ok .next)) P s':=by intro st M P;refine thn (T.done B rfl rfl rfl hc i _ s' L b.H _ I0 f0 ti st) ?_;rintro r s1 ⟨rfl,I2⟩;have pD:=(I2.pin (F,{cls:=.type "list",data:=.seq l.toArray nD}) (qZ _ (by simp))).1;exact fin s1 b L l acc G' (I2.K5 λp hp=>by cases hp) x sb ⟨nD,pD⟩ hD hac M
  cases m with
  |zero=>
   unfold De at hq;split at hq
   ·rename_i hf;exact stop ((walk b x G' sb i).2 hf) (by have M:out E0 b (Ah (acc++[]) G') Q:=hq;rw[j0]at M;exact M) _
   ·exact hq.elim
  | succ m=>
   unfold De at hq;split at hq
   ·rename_i d1 hf;obtain⟨go,yl⟩:=(walk b x G' sb i).1 d1 hf;refine thn (T.item B rfl rfl rfl hc i _ s' L b.H _ I0 f0 ti go) ?_;rintro r s1 ⟨u,rfl,hgo⟩;refine thn hgo ?_;rintro _ s2 ⟨v,H',I2,ru,y,t2,hfp2⟩;obtain⟨cc,rfl,xx,ss,rd⟩:=yl v H' y;have pD:=I2.pin (F,{cls:=.type "list",data:=.seq l.toArray nD}) (qZ _ (by simp));obtain⟨vs1,hv1,rv1⟩:=hac;refine turnX _ (λG3=>De f g c te (Ax nt caps S) m (i+1) G3) s2 cc G' L l acc u _ d1 (i+1) (I2.K5 λp hp=>by cases hp) (x.trans xx) ss (rSb.mono xx) t2 hfp2 ⟨nD,pD.1⟩ pD.2.1 ⟨vs1,hv1,rv1.mono xx⟩ ru rd (out.mono xx hq) ?_
    intro s3 b3 G3 σ3 its3 acc3 a1 a2 a3 a4 a5 a6 a7 a8 a9 a10;exact⟨m,qK _,(hIv _ _).2 ⟨i+1,b3,G3,σ3,its3,acc3,a1,a2,a3,a4,a5,a6,a7,a8,a9,a10⟩⟩
   ·rename_i hf;exact stop ((walk b x G' sb i).2 hf) (by have M:out E0 b (Ah (acc++[]) G') Q:=hq;rw[j0]at M;exact M) _
   ·exact hq.elim
 exact codeAny_compStart_list (loop _ rfl) (T.self _ 0 _ _ _ (T.keep _ _ _ t0 λq _ o e=>old q o e) (loop _ rfl))
theorem ZCa{g:DG}{c:DB}{te:DE}{S:DSt}{xs:List D}:∀(n j:Nat)(G:DH),j+n=xs.length->Ck g c te S (xs.drop j) G=De (λj _=>vD xs[j]?) g c te S n j G
 |0,j,G,h=>by
  rw[qJ (by lia)]
  show _=(match vD xs[j]? with |some vE=>R.ok [] G|_=>.bad)
  rw[zy (by lia)]
  rfl
 |n+1,j,G,h=>by
  have a:j<xs.length:=by lia
  rw[qQ a]
  show(g xs[j] S G).bind _=(match vD xs[j]? with |some (vD x)=>_|some vE=>R.ok [] G|none=>.bad)
  rw[zX a];dsimp only
  congr 1
  funext i f
  congr 1
  funext k e;rw[ZCa n (j+1) e (by lia)]
  congr 1
  congr 1
  funext d b;rw[ZCa n (j+1) b (by lia)]
theorem ZE8{g:DG}{c:DB}{te:DE}:∀(n j:Nat)(G:DH),Fw i g c te S n j G=De (mtF i) g c te S n j G
 | 0,j,G=>by
  unfold Fw De mtF;cases G[i]? with
  |none=>rfl
  | some o=>
   cases o with
   |lst a=>
    dsimp only;by_cases b:j<a.length
    ·rw[if_neg (by lia),zX b]
    ·rw[if_pos (by lia),zy (by lia)]
   |_=>rfl
 | n+1,j,G=>by
  have d:(Fw i g c te S n (j+1))=De (mtF i) g c te S n (j+1):=funext λG=>ZE8 n (j+1) G
  unfold Fw De;rw[d];unfold mtF;cases G[i]? with
  |none=>rfl
  | some o=>
   cases o with
   |lst a=>
    dsimp only
    cases a[j]?<;>rfl
   |_=>rfl
theorem ZJf(hc:X.calm=vF)(cs:CompSc X N scope nt caps)
  (hg:∀C s₀ H₀ ex,QG (blk X N scope C s₀ H₀ ex) E0 tg g) (gk:GK nt g) (hts:∀C s₀ H₀ ex,QTs (blk X N scope C s₀ H₀ ex) E0 ifs c) (he:∀C s₀ H₀ ex,QE (blk X N scope C s₀ H₀ ex) E0 elt te)
  {vC:List (xz×Obj)} {σ:St} {s:xB} {a:Wd} {S:DSt} {G:DH} {J:It} {d:ItD} {i0:xz} {fp:List xz} {tn:Nat->Heap->Prop} (I:Inv X vC σ a.H s) (hk:a.K=X.K) (sm:Sim a G) (rS:RepS a S σ)
  (T:Turn X.prog X.w X.K tg J fp i0 tn) (t0:tn 0 s.heap) (hf:∀b∈fp,FpOk X vC a.H b) (rJ:RepI a d J) {Q:VK}
  (h:out E0 a ((match d with
   |.pure xs=>Ck g c te (Ax nt caps S) xs G
   |.mt i=>match G[i]? with
    |some (.lst xs)=>Fw i g c te (Ax nt caps S) xs.length 0 G
    |_=>.bad
   |.fn n f=>De f g c te (Ax nt caps S) n 0 G).bind Ah) Q)
  {RR:xD->xz->Result->xB->Prop} {E':xD->xB->Prop}
  (hRR:∀(D C:xz)(s':xB)(b:Wd)(vs:List V),Inv X vC σ (upd b.H D (.lst vs)) s'->b.H D=vE->s.heap.objs.size<=C->D≠C->(∃m,s'.heap.Ns C m)->b.H C=vE->Q (.ref D) (upd b.H D (.lst vs))->RR (.ref D) C (.ok .next) s'):
  vY (vZ X.prog X.w) X.A (newList []) (λacc s₃=>vY (vZ X.prog X.w) X.A (newFunctionEnv scope X.env.globals (Es X.env scope.names []) [] X.env.qual vE .none (vD X.env)) (λcenv s₄=>
   codeAny (vZ X.prog X.w) X.A (.compStart (.ListComp elt [⟨tg,iter,ifs,0⟩] scope pos) 0 (.ref i0) acc {cenv with scope:=relabel scope X.env}) (RR acc cenv.locals) s₄) E' s₃) E' s:=by
 cases d with
 |pure xs=>
  have h':out E0 a ((Ck g c te (Ax nt caps S) (xs.drop 0) G).bind Ah) Q:=h;rw[ZCa xs.length 0 G (by lia)]at h';exact ZAg hc cs hg gk hts he I hk sm rS T t0 hf (ZGp rJ) h' hRR
 |mt k=>
  dsimp only at h;split at h
  ·rename_i xs hx;rw[ZE8]at h;exact ZAg hc cs hg gk hts he I hk sm rS T t0 hf (ZEk rJ) h hRR
  ·exact h.elim
 |fn n0 f=>exact ZAg hc cs hg gk hts he I hk sm rS T t0 hf rJ h hRR
end
section
variable{X:Cx}{N:List Str}{scope:xA}{nt:Nat}{caps:List Nat}{tg elt iter:xw}{ifs:List xw}{pos:Pos}{it:DI}{g:DG}{c:DB}{te:DE}
theorem letGo{vC:List (xz×Obj)}{l:St}{H:Hp}{s2 s':xB}{h':Heap}{C:xz}{t':Nat}{i:St}{m:Hp}(f:Inv X vC i m s2)(t:Inv X vC l H s')(h:s2.heap.objs.size<=C)(q:H C=vE)(j:qB C s'.heap h'):Inv X vC l H {s' with heap:=h',toks:=t'}:=by
 have a:∀{b:xz}{o:Obj},s2.heap.get? b=vD o->b≠C:=λe z=>by rw[z]at e;exact absurd (zz (zx e) h) (qW _)
 refine t.turned (it:=C) (λb o r e=>(j.2 b r).trans e) q (jk (zz f.lt h)) (.inr (zA f.sz h)) (λx n e=>?_) λp hp=>?_
 ·obtain⟨v,o,s,_⟩:=f.cell x n e;exact a s
 ·exact a (f.pin p hp).1
theorem ZRY(M:X.calm=vF)(cs:CompSc X N scope nt caps)(hi:QI X E0 tg iter it)
  (K:∀C e f j,QG (blk X N scope C e f j) E0 tg g) (gk:GK nt g) (n:∀C e f j,QTs (blk X N scope C e f j) E0 ifs c) (he:∀C e f j,QE (blk X N scope C e f j) E0 elt te)
  (Y:∀x,foldedSetIterable iter X.env x=pure x:=by intro _;rfl):QE X E0 (.ListComp elt [⟨tg,iter,ifs,0⟩] scope pos) (Bw it nt caps g c te):=by
 intro i s v H Q I h;obtain⟨a,S,G,hk,rfl,sm,r,h⟩:=h;rw[eval_ListComp];refine wpAny_comprehension_free (use:=vE) rfl Y (ZIZ (cs.cells I.ok)) cs.kind cs.names (thn (hi i s v a.H _ I ⟨a,S,G,hk,rfl,sm,r,(ZFS h).imp λ_ _ z=>z⟩) λxv s1 q=>thn q λO s2 P=>?_);obtain⟨i0,fp,tn,J,H2,rfl,y,T,W,F,b,d,G1,rfl,x,E,U,_,q⟩:=P;refine ZJf M cs K gk n he y (x.k.trans hk) E (r.mono x) T W F U q (RR:=λo C=>compPost (vZ X.prog X.w) X.A X.xe vE (EP X i v Q) o C) ?_
 intro D C s' b vs L hD l p ⟨m,Z⟩ t B;refine⟨m,Z,λh' u=>⟨.ref D,_,letGo y L l ?_ u,rfl,B⟩⟩;rw[Al (Ne.symm p)];exact t
theorem ZMO(i:Nat){y:Str}{t p:Pos}(hc:X.calm=vF)(hN:X.N.Nodup)(cs:CompSc X N scope nt caps)(hi:QI X E0 tg iter it)
  (hg:∀C f j u,QG (blk X N scope C f j u) E0 tg g) (gk:GK nt g) (U:∀C f j u,QTs (blk X N scope C f j u) E0 ifs c) (he:∀C f j u,QE (blk X N scope C f j u) E0 elt te)
  (hy:X.N[i]?=vD y:=by rfl) (hx:Loc X.env.scope y:=by first|exact Or.inl rfl|exact Or.inr rfl) (hf:X.fn y=vF∨X.env.scope.names.lookup y=vD .local:=by first|exact .inl rfl|exact .inr rfl|assumption)
  (O:swapsWith (.ListComp elt [⟨tg,iter,ifs,0⟩] scope pos) (vD (.Name y t)) p.line X.env=pure vF:=by rfl)
  (hs:∀x,foldedSetIterable iter X.env x=pure x:=by intro _;rfl):QS X E0 (.Assign [.Name y t] (.ListComp elt [⟨tg,iter,ifs,0⟩] scope pos) p) (sAs (Bw it nt caps g c te) (gV i)):=by
 intro l s σ H W I h;obtain⟨a,S,G,hk,rfl,sm,r,h⟩:=h;have h0:=Gw h;rw[exec_Assign_Name_used _ _ _ _ O];refine vz (wpAny_standAt (vz ?_))
 show vY _ X.A (do let _<-comprehension (.ListComp elt [⟨tg,iter,ifs,0⟩] scope pos) scope X.env _ (newList []) vG (eval iter X.env) (vD (assign (.Name y t) X.env))) _ _ s
 refine vz (v3 (wpAny_comprehension_free (use:=vD (assign (.Name y t) X.env)) (Q:=λ_ B=>SP X l W .next B) rfl hs (ZIZ (cs.cells I.ok)) cs.kind cs.names
  (thn (hi l s σ a.H _ I ⟨a,S,G,hk,rfl,sm,r,(ZFS h0).imp λ_ _ z=>z⟩) λxv s1 h1=>thn h1 λitv s2 h2=>?_)) (λ_ B K=>v6 (v6 K)) λ_ _ e=>e)
 obtain⟨i0,fp,tn,J,H2,rfl,F,T,t0,f2,b,d,G1,rfl,x,sb,rJ,_,h1⟩:=h2
 refine ZJf hc cs hg gk U he F (x.k.trans hk) sb (r.mono x) T t0 f2 rJ h1 (RR:=λY C=>compPost (vZ X.prog X.w) X.A X.xe (vD (assign (.Name y t) X.env)) (λ_ B=>SP X l W .next B) Y C) ?_
 intro D C B b' vs Ia hD n Z ⟨m,hn⟩ hCn K;show vY _ X.A (assign (.Name y t) X.env (.ref D)) _ _ _;refine wpAny_assign_Name (ZHn Ia hN hy hx (v:=.ref D) rfl (λs'' L M=>?_) hf);obtain⟨a',E,q⟩:=M;have hCa:C≠a':=by
  rintro rfl;rcases q with rfl|q
  ·exact absurd (zz F.lt n) (qW _)
  ·obtain⟨v,o,e',_⟩:=F.cell _ _ q;exact absurd (zz (zx e') n) (qW _)
 refine⟨m,hn.sameBut E hCa,λh' P=>⟨_,_,letGo F L n ?_ P,?_⟩⟩
 ·rw[Al (Ne.symm Z)];exact hCn
 ·obtain⟨b3,d3,G3,e3,x3,s3,q3,_,h3⟩:=K;rw[<-e3];exact h3 b3 _ (Ext.refl b3) s3 ((r.mono x3).set i q3)
end
def Nk:D->DH->R D
 |.int i,G=>.ok (.int (-i)) G
 |_,_=>.bad
noncomputable def J8:D->Bool
 |.non=>vF
 |_=>vG
def Ig:D->D->DH->R D
 |d,.non,G=>.ok (.bl (J8 d)) G
 |_,_,_=>.bad
def Je:D->D->DH->R D
 |d,.non,G=>.ok (.bl (!J8 d)) G
 |_,_,_=>.bad
noncomputable def Tn:D->Option V
 |.non=>vD .non
 |.bl b=>vD (.bl b)
 |.int i=>vD (.int i)
 |.str x=>vD (.str x)
 |_=>vE
def Ob:List D->Option (List V)
 |[]=>vD []
 |d::r=>match Tn d,Ob r with
  |some v,vD vs=>vD (v::vs)
  |_,_=>vE
def inD(d e:D)(G:DH):Option Bool:=match e with
 |.str j=>match d with
  |.str i=>vD (!(Builtin.Str.occurrences j i 0 j.length 1).isEmpty)
  |_=>vE
 |e=>match Bh e G,Tn d with
  |some xs,vD v=>(Ob xs).map λvs=>inV v vs
  |_,_=>vE
def Ii(d e:D)(G:DH):R D:=match inD d e G with
 |some k=>.ok (.bl (!k)) G
 |none=>.bad
section
variable{X:Cx}{E:XK}{a b:xw}{ta tb:DE}{pos:Pos}
theorem ZKR:UnR X (unaryOp .USub) (lR1 X.K E Nk):=λc s j H x v Q I e h=>by
 obtain⟨a,G,d,hk,rfl,f,g,q⟩:=h;cases d with
 |int i=>exact ZPG c s j a.H x v Q I e ⟨i,g,q a _ (Ext.refl a) f rfl⟩
 |_=>exact q.elim
theorem ZLc(ho:UnR X (unaryOp op) (lR1 X.K E f))(c:QE X E a ta):QE X E (.UnaryOp op a pos) (dUn f ta):=(ZTY ho c).mono λj H Q h=>by obtain⟨a,S,G,hk,rfl,s,r,h⟩:=h;refine⟨a,S,G,hk,rfl,s,r,(Em h).imp ?_⟩;rintro v _ ⟨b,d,e,rfl,x,i,q,-,g⟩;exact⟨b,e,d,x.k.trans hk,rfl,i,q,g⟩
theorem ZQd(f:Gl X x)(c:X.mg x=vE)(g:xN x=vD (.type n))(d:x≠"__name__":=by decide)(e:(x==("__debug__":Str))=vG:=by decide):QE X E (.Name x pos) (dC (.ty n)):=
 (ZQO (v:=.ty n) f c g rfl d e).mono λi H Q h=>Mm h λ_ _=>rfl
theorem ZIk{a:Wd}(c:Rep a d x):decide (x=V.non)=J8 d:=by
 cases d with
 |non=>rw[show x=V.non from c];rfl
 |bl _=>rw[show x=V.bl _ from c];rfl
 |int _=>rw[show x=V.int _ from c];rfl
 |str _=>rw[show x=V.str _ from c];rfl
 |ty _=>rw[show x=V.ty _ from c];rfl
 |tup _=>obtain⟨p,e,rfl,_⟩:=c;rfl
 |fl _=>obtain⟨p,e,rfl,_⟩:=c;rfl
 |ref _=>rw[c.2];rfl
theorem o_is:OpR X (xR .Is) (lR2 X.K E Ig):=Fp ZM5 λa G d e x y Q hk s f c q=>by
 cases e with
 |non=>exact⟨c,by rw[ZIk f];cases d<;>exact q a _ (Ext.refl a) s rfl⟩
 |_=>cases d<;>exact q.elim
theorem ZQB:OpR X (xR .IsNot) (lR2 X.K E Je):=Fp ZPh λa G d e x y Q hk s f c q=>by
 cases e with
 |non=>exact⟨c,by rw[ZIk f];cases d<;>exact q a _ (Ext.refl a) s rfl⟩
 |_=>cases d<;>exact q.elim
theorem ZC5{a:Wd}(r:Rep a d x)(h:Tn d=vD v):x=v/\Dc v=vF:=by
 cases d<;>first
  |(cases h;exact⟨r,rfl⟩)
  |cases h
theorem ZGZ{a:Wd}:∀{ds:List D}{xs vs:List V},Reps a ds xs->Ob ds=vD vs->xs=vs/\vs.all Dc=vF
 |[],xs,vs,r,h=>by cases h;exact⟨r,rfl⟩
 |d::ds,xs,vs,r,h=>by
  obtain⟨x,n,rfl,l,k⟩:=r;unfold Ob at h;split at h
  ·rename_i v m i f;cases h;obtain⟨j,c⟩:=ZC5 l i;obtain⟨g,e⟩:=ZGZ k f;subst j;subst g;exact⟨rfl,by rw[qN,c,e];rfl⟩
  ·cases h
theorem ZNi{a:Wd}(s:Sim a G)(f:Rep a d x)(c:Rep a e y)(h:inD d e G=vD k):
  (∃i j,x=.str i/\y=.str j/\k= !(Builtin.Str.occurrences j i 0 j.length 1).isEmpty)∨(∃p xs,y=.ref p/\(SqL a.K a.H p xs∨SqT a.K a.H p xs)/\Dc x=vF/\xs.all Dc=vF/\k=inV x xs):=by
 have seq:(match Bh e G,Tn d with |some xs,vD v=>(Ob xs).map λt=>inV v t|_,_=>vE)=vD k->(∃p xs,y=.ref p/\(SqL a.K a.H p xs∨SqT a.K a.H p xs)/\Dc x=vF/\xs.all Dc=vF/\k=inV x xs):=λh=>by
  split at h
  ·rename_i xs v r m;obtain⟨p,g,w,q,B⟩:=J1 s c r;obtain⟨o,n⟩:=ZC5 f m;subst o;rw[zO]at h;obtain⟨C,l,A⟩:=h;obtain⟨u,z⟩:=ZGZ B l;subst u;exact⟨p,g,w,q,n,z,A.symm⟩
  ·cases h
 cases e with
 |str j=>
  cases d with
  |str i=>exact .inl ⟨i,j,f,c,(Option.some.inj h).symm⟩
  |_=>cases h
 |tup xs=>exact .inr (seq h)
 |fl xs=>exact .inr (seq h)
 |ref i=>exact .inr (seq h)
 |_=>exact .inr (seq h)
theorem ZHP:OpR X (xR .NotIn) (lR2 X.K E Ii):=Fp (ZTT.or ZLa) λa G d e x y Q hk s r g q=>by
 unfold Ii at q;split at q
 ·rename_i k h;have z:=q a _ (Ext.refl a) s rfl;rcases ZNi s r g h with⟨i,j,c,o,rfl⟩|⟨p,f,c,l,m,n,rfl⟩
  ·exact .inl ⟨i,j,c,o,z⟩
  ·exact .inr ⟨p,f,c,by rw[<-hk];exact l,m,n,z⟩
 ·exact q.elim
end
theorem ZTP:xN "isinstance"=vD (.builtin "isinstance"):=by decide +kernel
theorem ZKP:xN "all"=vD (.builtin "all"):=by decide +kernel
theorem ZJ5:xN "any"=vD (.builtin "any"):=by decide +kernel
theorem ZQL:xN "max"=vD (.builtin "max"):=by decide +kernel
theorem ZRe:xN "min"=vD (.builtin "min"):=by decide +kernel
theorem ZRq:xN "len"=vD (.builtin "len"):=by decide +kernel
theorem ZLg:xN "int"=vD (.type "int"):=by decide +kernel
theorem ZSO:xN "bool"=vD (.type "bool"):=by decide +kernel
theorem ZKM:xN "str"=vD (.type "str"):=by decide +kernel
theorem ZKl:xN "tuple"=vD (.type "tuple"):=by decide +kernel
theorem ZDo:xN "list"=vD (.type "list"):=by decide +kernel
noncomputable def Km:xy->Bool | .local=>vF|_=>vG
noncomputable def K9:xy->Bool | .cell=>vF|_=>vG
noncomputable def Jo:xy->Bool | .free=>vF|_=>vG
noncomputable def isK(p:xy->Bool):Option xy->Bool|some k=>p k|none=>vG
theorem ZP1(h:Km k=vF):k=.local:=by cases k<;>first|rfl|cases h
theorem ZMe(h:K9 k=vF):k=.cell:=by cases k<;>first|rfl|cases h
theorem ZHw(h:Jo k=vF):k=.free:=by cases k<;>first|rfl|cases h
theorem Qx(hp:∀a,p a=vF->a=k)(h:isK p o=vF):o=vD k:=by
 cases o with
 |none=>cases h
 |some a=>rw[hp _ h]
def Rc(dn:List (Str×xy))(N0 N:List Str)(names:List (Str×xy))(nt:Nat)(caps:List Nat):Bool:=
 names.all (λy=>(!Km y.2||isK Km (names.lookup y.1)) && !K9 y.2&&(!Jo y.2||isK K9 (dn.lookup y.1)||isK Jo (dn.lookup y.1)))&&decide N.Nodup&&decide (N.length=nt+caps.length) &&
 (zQ caps.length).all λk=>match caps[k]? with
  |some j=>match N0[j]? with
   |some x=>decide (N[nt+k]?=vD x)&&isK Jo (names.lookup x)
   |none=>vG
  |none=>vF
theorem ZGg{X:Cx}{N0 N:List Str}{a:xA}{nt:Nat}{caps:List Nat}{dn:List (Str×xy)}(hk:a.kind=.function:=by rfl)(f:∀x,X.env.kindOf x=dn.lookup x:=by intro _;rfl)(q:X.N=N0:=by rfl)
  (h:Rc dn N0 N a.names nt caps=vF:=by decide +kernel):CompSc X N a nt caps:=by
 unfold Rc at h;rw[zD,zD,zD]at h;obtain⟨⟨⟨i,o⟩,n⟩,m⟩:=h;rw[qy]at i m;have b:=λ(y:Str×xy)(c:y∈a.names)=>(by have:=i y c;rw[zD,zD]at this;exact this:((!Km y.2||isK Km (a.names.lookup y.1))=vF/\(!K9 y.2)=vF)/\(!Jo y.2||isK K9 (dn.lookup y.1)||isK Jo (dn.lookup y.1))=vF)
 refine⟨hk,λy c d=>?_,λy c d=>?_,λy c d=>?_,of_decide_eq_true o,of_decide_eq_true n,λk j l=>?_⟩
 ·have:=(b y c).1.1;rw[d]at this;exact Qx (p:=Km) (λ_ h=>ZP1 h) (by have t:(vG||isK Km (a.names.lookup y.1))=vF:=this;simpa using t)
 ·have:=(b y c).1.2;rw[d]at this;exact absurd this (by decide)
 ·have:=(b y c).2;rw[d,jI]at this;rw[f];rcases this with h|h
  ·exact .inl (Qx (p:=K9) (λ_ h=>ZMe h) (by have t:(vG||isK K9 (dn.lookup y.1))=vF:=h;simpa using t))
  ·exact .inr (Qx (p:=Jo) (λ_ h=>ZHw h) h)
 ·have g:k<caps.length:=(zG.mp l).1;have:=m k (qq.mpr g);rw[l]at this;dsimp only at this;cases e:N0[j]? with
  |none=>rw[e]at this;cases this
  |some x=>
   rw[e]at this;dsimp only at this;rw[zD]at this;exact⟨x,by rw[q];exact e,of_decide_eq_true this.1,Qx (p:=Jo) (λ_ h=>ZHw h) this.2⟩
section
section
variable{X:Cx}{vC:List (xz×Obj)}{σ:St}{H:Hp}{s:xB}
theorem ZSq(I:Inv X vC σ H s)(h:H p=vD (.lst xs)):∃o,Inv X vC σ (upd H p (.frz o (.lst xs))) s:=by
 obtain⟨i,a,n,r,e⟩:=I.hok p _ h;have f:∀b(u:HO),H b=vD u->u≠ .lst xs->b≠p:=λb u q d z=>by subst z;rw[h]at q;exact d (Option.some.inj q).symm
 refine⟨_,I.un (t':=s.toks) (H':=upd H p (.frz {cls:=.type "list",data:=.seq a.toArray n} (.lst xs))) ⟨λb o q _ _ _=>q,λb o q _ _ _=>⟨o.slots,q⟩,λb o q z _=>?_,λb o q _=>⟨o,q⟩,λb k q=>?_,λb o u q=>?_,λb l q=>⟨#[],?_⟩⟩ ?_⟩
 ·rw[Al (λj=>by subst j;rw[h]at z;cases z)];exact z
 ·rw[Al (f b _ q (by intro z;cases z))];exact q
 ·rw[Al (f b _ q (by intro z;cases z))];exact q
 ·rw[Al (f b _ q (by intro z;cases z)),Array.append_empty];exact q
 ·intro b u q;by_cases g:b=p
  ·subst g;rw[Ej]at q;cases q;exact⟨e,i,a,n,r,e⟩
  ·rw[Al g]at q;exact(I.hok b u q).stay (λc v _ z=>z) (λc z=>by rw[Al (f c _ z (by intro z;cases z))];exact z) λc k z=>by rw[Al (f c _ z (by intro z;cases z))];exact z
def Fz(P:xz->Prop)(H H':Hp):Prop:=∀p,(H' p=H p/\(∀vs,H p=vD (.lst vs)->¬P p))∨∃o vs,P p/\H p=vD (.lst vs)/\H' p=vD (.frz o (.lst vs))
theorem ZGa(I:Inv X vC σ H s)(m:Nat->xz)(n:Nat):∀k:Nat,∃H',Inv X vC σ H' s/\Fz (λp=>∃i,n<=i/\i<n+k/\p=m i) H H'
 |0=>⟨H,I,λp=>.inl ⟨rfl,λ_ _ ⟨i,g,l,_⟩=>by lia⟩⟩
 | k + 1=>by
  obtain⟨H',q,F⟩:=ZGa I m n k;have f:(∀a,H' (m (n+k))≠vD (.lst a))->Fz (λp=>∃i,n<=i/\i<n+(k+1)/\p=m i) H H':=λno p=>by
   rcases F p with⟨e,z⟩|⟨o,a,⟨i,g,l,b⟩,d,h⟩
   ·refine .inl ⟨e,λa d ⟨i,g,l,b⟩=>?_⟩;by_cases r:i<n+k
    ·exact z a d ⟨i,g,r,b⟩
    ·have:i=n+k:=by lia
     subst this;subst b;exact no a (e.trans d)
   ·exact .inr ⟨o,a,⟨i,g,by lia,b⟩,d,h⟩
  cases j:H' (m (n+k))with
  |none=>exact⟨H',q,f λa z=>by rw[j]at z;cases z⟩
  | some u=>
   cases u with
   | lst a=>
    obtain⟨o,v⟩:=ZSq q j;refine⟨_,v,λp=>?_⟩;by_cases hp:p=m (n+k)
    ·subst hp;rcases F (m (n+k))with⟨e,z⟩|⟨t,c,_,d,h⟩
     ·exact .inr ⟨o,a,⟨n+k,by lia,by lia,rfl⟩,e.symm.trans j,Ej⟩
     ·rw[j]at h;cases h
    ·rcases F p with⟨e,z⟩|⟨t,c,⟨i,g,l,b⟩,d,h⟩
     ·refine .inl ⟨by rw[Al hp];exact e,λc d ⟨i,g,l,b⟩=>?_⟩;by_cases r:i<n+k
      ·exact z c d ⟨i,g,r,b⟩
      ·have:i=n+k:=by lia
       subst this;exact hp b
     ·exact .inr ⟨t,c,⟨i,g,by lia,b⟩,d,by rw[Al hp];exact h⟩
   |_=>exact⟨H',q,f λa z=>by rw[j]at z;cases z⟩
end
noncomputable def Hz(f:D->Option D):List D->Option (List D)
 |[]=>vD []
 |d::r=>match f d,Hz f r with
  |some d',vD r'=>vD (d'::r')
  |_,_=>vE
def Dt(G:DH)(n:Nat):Nat->D->Option D
 |0,_=>vE
 | k+1,d=>if bel n d=vF then vD d else match d with
  |.ref i=>match G[i]? with
   |some (.lst xs)=>(Hz (Dt G n k) xs).map .fl
   |_=>vE
  |.tup xs=>(Hz (Dt G n k) xs).map .tup
  |.fl xs=>(Hz (Dt G n k) xs).map .fl
  |_=>vE
open Classical in
def freeze(G:DH)(r:R D):R D:=match r with
 | .ok d G'=>if G'.take G.length=G then(match Dt G' G.length 9 d with
   |some d'=>.ok d' G
   |none=>.ok d G')else .ok d G'
 |r=>r
def Av(t:DE):DE:=λS G=>freeze G (t S G)
structure CutF (b c:Wd) (n:Nat):Prop where
 k:c.K=b.K
 n:c.n=n
 m:c.m=b.m
 tup:∀p xs,b.H p=vD (.tup xs)->c.H p=vD (.tup xs)
 frz:∀p o u,b.H p=vD (.frz o u)->c.H p=vD (.frz o u)
theorem CutF.sqT{b c:Wd}{n:Nat}(x:CutF b c n){p:xz}{xs:List V}(h:SqT b.K b.H p xs):SqT c.K c.H p xs:=by
 rcases h with(h|⟨o,h⟩)|h
 ·exact .inl (.inl (x.tup _ _ h))
 ·exact .inl (.inr ⟨o,x.frz _ _ _ h⟩)
 ·exact .inr (by rw[x.k];exact h)
theorem CutF.fzL{b c:Wd}{n:Nat}(x:CutF b c n){p:xz}{xs:List V}(h:FzL b.K b.H p xs):FzL c.K c.H p xs:=by
 rcases h with⟨o,h⟩|h
 ·exact .inl ⟨o,x.frz _ _ _ h⟩
 ·exact .inr (by rw[x.k];exact h)
mutual
theorem Rep.Hn(x:CutF b c n):∀{d:D}{v:V},Rep b d v->bel n d=vF->Rep c d v
 |.non,_,h,_=>h
 |.bl _,_,h,_=>h
 |.int _,_,h,_=>h
 |.str _,_,h,_=>h
 |.ty _,_,h,_=>h
 |.tup g,v,h,q=>by obtain⟨p,a,e,t,r⟩:=h;simp only[_D.bel]at q;exact⟨p,a,e,x.sqT t,Reps.Hn x r q⟩
 |.fl g,v,h,q=>by obtain⟨p,a,e,t,r⟩:=h;simp only[_D.bel]at q;exact⟨p,a,e,x.fzL t,Reps.Hn x r q⟩
 |.ref i,v,h,q=>by obtain⟨l,e⟩:=h;simp only[_D.bel]at q;have f:=of_decide_eq_true q;exact⟨by rw[x.n];exact f,by rw[x.m];exact e⟩
theorem Reps.Hn(x:CutF b c n):∀{ds:List D}{vs:List V},Reps b ds vs->bels n ds=vF->Reps c ds vs
 |[],_,h,_=>h
 |d::ds,vs,h,q=>by obtain⟨v,r,e,a,f⟩:=h;simp only[_D.bels,zD]at q;exact⟨v,r,e,Rep.Hn x a q.1,Reps.Hn x f q.2⟩
end
theorem T6(g:∀d d' v,f d=vD d'->Rep b d v->Rep c d' v):∀{ds a:List D}{vs:List V},Hz f ds=vD a->Reps b ds vs->Reps c a vs
 |[],a,vs,e,h=>by cases e;exact h
 |d::ds,a,vs,e,h=>by
  obtain⟨v,r,rfl,k,i⟩:=h;unfold Hz at e;split at e
  ·rename_i d' m l j;cases e;exact⟨v,r,rfl,g _ _ _ l k,T6 g j i⟩
  ·cases e
theorem ZFc(s:Sim b G')(x:CutF b c n)(hz:∀i,n<=i->i<b.n->∀vs,b.H (b.m i)=vD (.lst vs)->∃o,c.H (b.m i)=vD (.frz o (.lst vs))):∀(k:Nat)(d d':D)(v:V),Dt G' n k d=vD d'->Rep b d v->Rep c d' v
 |0,d,d',v,e,h=>by cases e
 | k + 1,d,d',v,e,h=>by
  have g:=ZFc s x hz k;unfold Dt at e;split at e
  ·rename_i f;cases e;exact h.Hn x f
  ·rename_i f;cases d with
   | ref i=>
    dsimp only at e;split at e
    ·rename_i j y;rw[zO]at e;obtain⟨l,a,rfl⟩:=e;obtain⟨vs,w,A⟩:=s.obj i _ y;obtain⟨u,rfl⟩:=h;have q:n<=i:=by simp only[_D.bel,decide_eq_true_eq]at f;lia
     obtain⟨o,z⟩:=hz i q u vs w;exact⟨_,vs,rfl,.inl ⟨o,z⟩,T6 g a A⟩
    ·cases e
   |tup j=>
    dsimp only at e;rw[zO]at e;obtain⟨l,a,rfl⟩:=e;obtain⟨p,vs,rfl,t,r⟩:=h;exact⟨p,vs,rfl,x.sqT t,T6 g a r⟩
   |fl j=>
    dsimp only at e;rw[zO]at e;obtain⟨l,a,rfl⟩:=e;obtain⟨p,vs,rfl,t,r⟩:=h;exact⟨p,vs,rfl,x.fzL t,T6 g a r⟩
   |_=>cases e
theorem ZFa{X:Cx}{vC:List (xz×Obj)}{Z:St}{sh:xB}{a b:Wd}{G M:DH}(s:Sim a G)(hG:M.take G.length=G)(x:Ext a b)(A:Sim b M)(I:Inv X vC Z b.H sh):
  ∃c:Wd,Inv X vC Z c.H sh/\Ext a c/\Sim c G/\CutF b c a.n/\∀(k:Nat)(d d':D)(v:V),Dt M G.length k d=vD d'->Rep b d v->Rep c d' v:=by
 have E:∀i o,G[i]?=vD o->M[i]?=vD o:=λi o e=>by have r:i<G.length:=(zG.mp e).1;rw[<-hG,j6 r]at e;exact e
 obtain⟨l,I',F⟩:=ZGa I b.m a.n (b.n-a.n);have T:a.n+(b.n-a.n)=b.n:=by have:=x.n;lia
 rw[T]at F;have O:∀p(u:HO),(∀g,u≠ .lst g)->b.H p=vD u->l p=vD u:=λp u nu e=>by
  rcases F p with⟨f,_⟩|⟨o,g,_,f,_⟩
  ·exact f.trans e
  ·rw[e]at f;exact absurd (Option.some.inj f) (nu g)
 have w:∀p,TabOk b.H p->TabOk l p:=λp t=>t.mono (λp ps e=>O p _ (by intro _ z;cases z) e) λp o u e=>O p _ (by intro _ z;cases z) e
 have h:CutF b ⟨b.K,a.n,b.m,l⟩ a.n:=⟨rfl,rfl,rfl,λp Q e=>O p _ (by intro _ z;cases z) e,λp o u e=>O p _ (by intro _ z;cases z) e⟩;have J:∀i,i<a.n->l (b.m i)=b.H (b.m i):=λi r=>by
  rcases F (b.m i)with⟨f,_⟩|⟨o,g,⟨j,h1,S,h3⟩,f,P⟩
  ·exact f
  ·have:=A.inj i j (zz r x.n) S h3;lia
 refine⟨⟨b.K,a.n,b.m,l⟩,I',⟨x.k,zK _,x.m,λp Q e=>h.tup p Q (x.tup p Q e),λp o u e=>h.frz p o u (x.frz p o u e),λp t=>w p (x.tab p t)⟩,⟨s.len,λi j r hj=>A.inj i j (zz r x.n) (zz hj x.n),λi o e=>?_,λi r=>?_⟩,h,λk d d' v Y rb=>?_⟩
 ·show ORep ⟨b.K,a.n,b.m,l⟩ o (l (b.m i));rw[J i (s.lt e)];have q:=A.obj i o (E i o e);have N:=(s.obj i o e).Le;cases o with
  |lst ds=>obtain⟨g,f,y⟩:=q;exact⟨g,f,y.Hn h N⟩
  |dct kvs=>obtain⟨B,f,L,y⟩:=q;exact⟨B,f,L,y.Hn h N⟩
  |ins c fs=>obtain⟨C,W,B,U,f,L,y⟩:=q;exact⟨C,W,B,U,f,L,y.Hn h N⟩
  |tab C m=>obtain⟨c1,P1,f,t1⟩:=q;exact⟨c1,P1,f,w _ t1⟩
  |exc c fs=>
   obtain⟨C,oe,u,g,U,f,L,k2,z⟩:=q;refine⟨C,oe,u,g,U,f,L,k2,?_⟩;rcases z with z|⟨W,o,B,P,f2,k3,y⟩
   ·exact .inl z
   ·exact .inr ⟨W,o,B,P,h.frz _ _ _ f2,k3,y.Hn h N⟩
  |gone=>trivial
 ·show l (b.m i)≠vE;rw[J i r];exact A.tr i (zz r x.n)
 ·rw[s.len]at Y;refine ZFc A h (λi h1 S g e=>?_) k d d' v Y rb;rcases F (b.m i)with⟨f,z⟩|⟨o,vs',_,f,P⟩
  ·exact absurd ⟨i,h1,S,rfl⟩ (z g e)
  ·rw[e]at f;cases f;exact⟨o,P⟩
theorem ZOC(s:Sim a G)(h:out E a (freeze G r) Q):
  out E a r λv H=>∀(vC:List (xz×Obj))(g:St)(sh:xB),Inv X vC g H sh->∃H',Inv X vC g H' sh/\Q v H':=by
 cases r with
 |err e o=>exact h
 |bad=>exact h
 | ok d o=>
  intro b v x f i vC g sh I;unfold freeze at h;dsimp only at h;split at h
  ·rename_i j;split at h
   ·rename_i q m;obtain⟨c,l,k,p,t,n⟩:=ZFa s j x f I;exact⟨c.H,l,h c v k p (n _ _ _ _ m i)⟩
   ·exact⟨_,I,h b v x f i⟩
  ·exact⟨_,I,h b v x f i⟩
theorem ZLx(g:QE X E e t):QE X E e (Av t):=λb s d H Q I h=>by
 obtain⟨a,S,G,hk,rfl,c,r,h⟩:=h;refine thn (g b s d a.H _ I ⟨a,S,G,hk,rfl,c,r,ZOC (X:=X) c h⟩) λu l ⟨v,m,f,rv,q⟩=>?_
 obtain⟨i,j,k⟩:=q b d l f;exact⟨v,i,j,rv,k⟩
theorem ZUE {X:Cx} {E:XK} {st:xC} {t:DE} {i:Nat} (T:QS X E st (sAs t (gV i))):QS X E st (sAs (Av t) (gV i)):=λg s n H W I h=>by
 obtain ⟨a,S,G,hk,rfl,F,r,h⟩:=h;have Y:Bv E a (sAs t (gV i) S G) {W with nx:=λn H=>∀(g:List (xz×Obj))(sh:xB),Inv X g n H sh->∃z,Inv X g n z sh/\W.nx n z}:=by
  unfold sAs Av at h;unfold sAs;cases A:t S G with
  |err e N=>rw[A]at h;exact h
  |bad=>rw[A]at h;exact h
  | ok d N=>
   rw[A]at h;intro b k x y o g sh I;unfold freeze at h;dsimp only at h;split at h
   ·rename_i K;split at h
    ·rename_i U Z;obtain⟨c,Ic,L,Q,M,hr⟩:=ZFa F K x y I;refine⟨c.H,Ic,h c k L Q ⟨?_,λj e l=>?_⟩⟩
     ·rw[j8,<-o.len,j8]
     ·rw[jK]at l;by_cases m:i=j
      ·subst m;rw[if_pos rfl]at l;by_cases w:i<S.length
       ·rw[if_pos w]at l;have O:U=e:=by simpa using l
        subst O;obtain⟨v,B,rv⟩:=o.get i d (by rw[jK,if_pos rfl,if_pos w]);exact⟨v,B,hr _ _ _ _ Z rv⟩
       ·rw[if_neg w]at l;cases l
      ·rw[if_neg m]at l;obtain⟨v,B,rv⟩:=o.get j e (by rw[jK,if_neg m];exact l);obtain⟨v',_,C⟩:=r.get j e l;exact⟨v,B,rv.Hn M C.bel⟩
    ·exact⟨_,I,h b k x y o⟩
   ·exact⟨_,I,h b k x y o⟩
 refine thn (T g s n a.H _ I ⟨a,S,G,hk,rfl,F,r,Y⟩) λf P p=>?_
 cases f with
 |next=>
  obtain⟨k,z,J,q⟩:=p;obtain⟨H2,I2,q2⟩:=q g P J;exact⟨k,H2,I2,q2⟩
 |brk=>exact p
 |cont=>exact p
 |ret u=>exact p
end
section
variable{S:DSt}{G:DH}
@[simp]theorem ZAh:dV i S G=(match S[i]? with |some (vD d)=>.ok d G|_=>.bad):=id rfl
@[simp]theorem ev_C:dC d S G=.ok d G:=id rfl
@[simp]theorem ev_Op:dOp f a b S G=(a S G).bind λx e=>(b S e).bind λy d=>f x y d:=id rfl
@[simp]theorem ev_Un:dUn f a S G=(a S G).bind f:=id rfl
@[simp]theorem ev_Nil:Ab S G=.ok [] G:=id rfl
@[simp]theorem ZVI:Aa a r S G=(a S G).bind λx d=>(r S d).bind λxs b=>.ok (x::xs) b:=id rfl
@[simp]theorem ev_Fn:dFn f t S G=(t S G).bind f:=id rfl
@[simp]theorem ZVf:Cz t S G=tidy G (t S G):=id rfl
@[simp]theorem ev_Frz:Av t S G=freeze G (t S G):=id rfl
@[simp]theorem ev_asB:asB (.bl k) G=.ok k G:=id rfl
@[simp]theorem ev_Tst:Ag t S G=(t S G).bind asB:=id rfl
@[simp]theorem ev_And:Io t u S G=(t S G).bind λk a=>if k=vF then u S a else .ok vG a:=id rfl
@[simp]theorem ev_Or:dOr t u S G=(t S G).bind λk a=>if k=vF then .ok vF a else u S a:=id rfl
@[simp]theorem ev_Not:H9 t S G=(t S G).bind λk a=>.ok (!k) a:=id rfl
@[simp]theorem ZVi:Jd t u S G=(t S G).bind λx b=>(asB x b).bind λk a=>if k=vF then u S a else .ok (.bl vG) a:=id rfl
@[simp]theorem ev_OrV:Vd t u S G=(t S G).bind λx b=>(asB x b).bind λk a=>if k=vF then .ok (.bl vF) a else u S a:=id rfl
@[simp]theorem ZVr:Sy t S G=(t S G).bind λx b=>(asB x b).bind λk a=>.ok (.bl (!k)) a:=id rfl
@[simp]theorem ev_If:dIf c t u S G=(c S G).bind λk a=>if k=vF then t S a else u S a:=id rfl
@[simp]theorem ZVa:Jx f g a b c S G=(a S G).bind λx h=>(b S h).bind λy m=>(f x y m).bind λz e=>(asB z e).bind λk d=>
 if k=vF then(c S d).bind λw o=>g y w o else .ok (.bl vG) d:=id rfl
@[simp]theorem ev_sNx:sNx S G=.nx S G:=id rfl
noncomputable def SR.then(u:DS)(_:Fx u:=())(r:SR):SR:=match r with
 |.nx S1 G1=>u S1 G1
 |r=>r
@[simp]theorem Oz:Ac t u S G=(t S G).then u:=id rfl
@[simp]theorem Rx:(SR.nx S G).then u=u S G:=id rfl
@[simp]theorem ZVK:(SR.rt d G).then u=.rt d G:=id rfl
@[simp]theorem ev_sEx:sEx t S G=(t S G).toS λ_ a=>.nx S a:=id rfl
@[simp]theorem ev_sRt:sRt t S G=(t S G).toS λd a=>.rt d a:=id rfl
@[simp]theorem ev_sIf:sIf c t u S G=(c S G).toS λk a=>if k=vF then t S a else u S a:=id rfl
@[simp]theorem ev_sAs:sAs t g S G=(t S G).toS λd e=>(g d S e).toS λa b=>.nx a b:=id rfl
@[simp]theorem ev_sAu:sAu i t f S G=(match S[i]? with
 |some (vD x)=>(t S G).toS λy b=>(f x y b).toS λz a=>.nx (S.set i (vD z)) a
 |_=>.bad):=id rfl
@[simp]theorem ZVP:Cd it g b S G=(it S G).toS λJ a=>(match J with
 |.pure xs=>Aq g b xs S a
 |.mt i=>match a[i]? with
  |some (.lst xs)=>forM i g b xs.length 0 S a
  |_=>.bad
 |.fn n f=>Dh f g b n 0 S a):=id rfl
@[simp]theorem ZSS:Du t S G=(t S G).bind Gb:=id rfl
@[simp]theorem ZVJ:Bk f t S G=(t S G).bind f:=id rfl
@[simp]theorem Cg:gV i d S G=.ok (S.set i (vD d)) G:=id rfl
@[simp]theorem N6:Aw [] S G=.ok S G:=id rfl
@[simp]theorem M9:Ae t u (d::r) S G=(t d S G).bind λb a=>u r b a:=id rfl
@[simp]theorem Mg:Ao n t (.tup ds) S G=if ds.length=n then t ds S G else .bad:=id rfl
@[simp]theorem ev_gIx:gIx o i v S G=(o S G).bind λo d=>(i S d).bind λi a=>(Jw o i v a).bind λ_ b=>.ok S b:=id rfl
@[simp]theorem ev_MtL:Df f o t S G=(o S G).bind λx a=>if isL x a=vF then(t S a).bind λxs b=>f x xs b else .bad:=id rfl
@[simp]theorem ZM2:Bw it nt caps g c te S G=(it S G).bind λJ a=>(match J with
 |.pure xs=>Ck g c te (Ax nt caps S) xs a
 |.mt i=>match a[i]? with
  |some (.lst xs)=>Fw i g c te (Ax nt caps S) xs.length 0 a
  |_=>.bad
 |.fn n f=>De f g c te (Ax nt caps S) n 0 a).bind Ah:=id rfl
@[simp]theorem ZH7:Bd S G=.ok vF G:=id rfl
@[simp]theorem Cm:aft (.nx S G) k=k S G:=id rfl
@[simp]theorem aft_rt:aft (.rt d G) k=.rt d G:=id rfl
theorem Cp:Aq g b [] S G=.nx S G:=id rfl
theorem Bu:Aq g b (x::xs) S G=(g x S G).toS λd a=>aft (b d a) (Aq g b xs):=id rfl
theorem ZCC:Ck g c te S (x::xs) G=(g x S G).bind λa h=>(c a h).bind λk b=>
   if k=vF then(te a b).bind λd f=>(Ck g c te S xs f).bind λds e=>.ok (d::ds) e else Ck g c te S xs b:=id rfl
noncomputable def SR.ret(r:SR):R D:=match r with
 |.nx _ G'=>.ok .non G'
 |.rt d G'=>.ok d G'
 |.err x G'=>.err x G'
 |_=>.bad
@[simp]theorem ZSm:(SR.nx S G).ret=.ok .non G:=id rfl
@[simp]theorem ret_rt:(SR.rt d G).ret=.ok d G:=id rfl
theorem Ay:Bb np nl b ds G=if ds.length=np then tidy G (b (ds.map vD++zV nl vE) G).ret else .bad:=id rfl
end
section
variable{n:Nat}{G:DH}
@[simp]theorem ZVn:bel n .non=vF:=by simp[_D.bel]
@[simp]theorem bel_bl:bel n (.bl b)=vF:=by simp[_D.bel]
@[simp]theorem ZTx:bel n (.int b)=vF:=by simp[_D.bel]
@[simp]theorem ZVS:bel n (.str b)=vF:=by simp[_D.bel]
@[simp]theorem ZVc:bel n (.tup b)=bels n b:=by simp[_D.bel]
@[simp]theorem bel_fl:bel n (.fl b)=bels n b:=by simp[_D.bel]
@[simp]theorem ZVD:bel n (.ref b)=decide (b<n):=by simp[_D.bel]
@[simp]theorem ZVb:bels n []=vF:=by simp[_D.bels]
@[simp]theorem ZNK:bels n (d::ds)=(bel n d&&bels n ds):=by simp[_D.bels]
theorem ZK1:bels n ds=vF↔∀d∈ds,bel n d=vF:=by
 induction ds with
 |nil=>simp
 |cons d ds a=>simp[a]
theorem Ec{a:Type}{f:a->D}{xs:List a}(h:∀x∈xs,bel n (f x)=vF):bels n (xs.map f)=vF:=by rw[ZK1];intro d e;obtain⟨x,b,rfl⟩:=zM.mp e;exact h x b
@[simp]theorem ZFN{xs:List Int}:bels n (xs.map D.int)=vF:=Ec λ_ _=>ZTx
theorem Be(h:bel G.length d=vF):tidy G (.ok d G)=.ok d G:=by unfold tidy;simp[h]
theorem Lq(h:bel G.length d=vF):tidy G (.ok d (G++L))=.ok d G:=by unfold tidy;simp[h]
theorem Yv(L:DH)(hk:L[k]?=vD (.lst ds))(h:bels G.length ds=vF):tidy G (.ok (.ref (G.length+k)) (G++L))=.ok (.ref G.length) (G++[.lst ds]):=by
 unfold tidy;have e:(G++L)[G.length+k]?=vD (.lst ds):=by rw[zL (by lia)];simpa using hk
 simp[e,Le,h]
theorem Ds{ds:List D}{L:DH}(h:bels G.length ds=vF):tidy G (.ok (.ref G.length) (G++ .lst ds::L))=.ok (.ref G.length) (G++[.lst ds]):=Yv (.lst ds::L) (k:=0) rfl h
theorem Ho(h:bel G.length d=vF):freeze G (.ok d G)=.ok d G:=by unfold freeze;simp[h,Dt]
theorem Ug{n:Nat}:∀{ds:List D},bels n ds=vF->Hz (Dt G' n (k+1)) ds=vD ds
 |[],_=>rfl
 |d::ds,h=>by simp only[ZNK,zD]at h;unfold Hz;rw[Ug h.2];simp[Dt,h.1]
theorem ZJ8(L:DH)(hk:L[k]?=vD (.lst ds))(h:bels G.length ds=vF):freeze G (.ok (.ref (G.length+k)) (G++L))=.ok (.fl ds) G:=by
 unfold freeze;have e:(G++L)[G.length+k]?=vD (.lst ds):=by rw[zL (by lia)];simpa using hk
 have m:Dt (G++L) G.length 9 (.ref (G.length+k))=vD (.fl ds):=by unfold Dt;simp[e,Ug h]
 simp[m]
theorem Dg{ds:List D}{L:DH}(h:bels G.length ds=vF):freeze G (.ok (.ref G.length) (G++ .lst ds::L))=.ok (.fl ds) G:=ZJ8 (.lst ds::L) (k:=0) rfl h
theorem S7(L:DH)(k:Nat):(G++L)[G.length+k]?=L[k]? :=by rw[zL (by lia)];simp
theorem Cv(L:DH):(G++L)[G.length]?=L[0]? :=S7 L 0
theorem Zf(L:DH)(k:Nat)(o:DO):(G++L).set (G.length+k) o=G++L.set k o:=by rw[jU _ _ (by lia)];simp
theorem Ea(L:DH)(o:DO):(G++L).set G.length o=G++L.set 0 o:=Zf L 0 o
theorem H7{lo:Int}:Bg lo 0=[]:=id rfl
theorem G9{lo:Int}{n:Nat}:Bg lo (n+1)=.int lo::Bg (lo+1) n:=by
 unfold Bg;rw[qR,zw,qO]
 congr 1
 ·simp
 ·apply qw;intro k _;simp only[Function.comp]
  congr 1
  lia
end
section
variable{G:DH}{i j:Int}{x y:Str}{k l:Bool}
@[simp]theorem ev_add:Ai (.int i) (.int j) G=.ok (.int (i+j)) G:=id rfl
@[simp]theorem ev_ip:Jk (.int i) (.int j) G=.ok (.int (i+j)) G:=id rfl
@[simp]theorem ev_sub:Eb (.int i) (.int j) G=.ok (.int (i-j)) G:=id rfl
theorem log2_small(h:n<10^100):n.log2<9000:=by
 by_cases a:n=0
 ·subst a;decide
 ·rw[Nat.log2_lt a];exact Nat.lt_trans h (by decide)
@[simp]theorem ZVC{n:Nat}[NeZero n](h:n<10^100):Bx (.int i) (.int (no_index (OfNat.ofNat n))) G=.ok (.int (i/OfNat.ofNat n)) G:=
 if_pos ⟨Int.ofNat_lt.mpr (Nat.pos_of_ne_zero (NeZero.ne n)),log2_small h⟩
@[simp]theorem ev_mod:Az (.int i) (.int j) G=if 0<j then .ok (.int (i%j)) G else .bad:=id rfl
@[simp]theorem ev_pow:Ht (.int i) (.int j) G=if 0<=j/\j<=1000000/\i.natAbs<18446744073709551616 then .ok (.int (i^j.toNat)) G else .bad:=id rfl
@[simp]theorem ev_lt:Fe (.int i) (.int j) G=.ok (.bl (decide (i<j))) G:=id rfl
@[simp]theorem ev_le:Im (.int i) (.int j) G=.ok (.bl (decide (i<=j))) G:=id rfl
@[simp]theorem ev_gt:Gp (.int i) (.int j) G=.ok (.bl (decide (j<i))) G:=id rfl
@[simp]theorem ev_ge:Vk (.int i) (.int j) G=.ok (.bl (decide (j<=i))) G:=id rfl
@[simp]theorem ev_eq:Bl (.int i) (.int j) G=.ok (.bl (decide (i=j))) G:=id rfl
@[simp]theorem ev_ne:Gx (.int i) (.int j) G=.ok (.bl (!decide (i=j))) G:=id rfl
@[simp]theorem ev_eqS:Bl (.str x) (.str y) G=.ok (.bl (decide (x=y))) G:=id rfl
@[simp]theorem ev_neS:Gx (.str x) (.str y) G=.ok (.bl (!decide (x=y))) G:=id rfl
@[simp]theorem ev_neg:Nk (.int i) G=.ok (.int (-i)) G:=id rfl
@[simp]theorem ev_is:Ig d .non G=.ok (.bl (J8 d)) G:=by cases d<;>exact id rfl
@[simp]theorem ZVF:Je d .non G=.ok (.bl (!J8 d)) G:=by cases d<;>exact id rfl
@[simp]theorem ZV3:J8 .non=vF:=id rfl
@[simp]theorem ZVm:J8 (.int i)=vG:=id rfl
@[simp]theorem ZVZ:J8 (.tup ds)=vG:=id rfl
@[simp]theorem ev_max:Pj [.int i,.int j] G=.ok (.int (max i j)) G:=by
 show R.ok (D.int (if j>i then j else i)) G=_
 congr 2
 split <;> lia
@[simp]theorem ev_min:K3 [.int i,.int j] G=.ok (.int (min i j)) G:=by
 show R.ok (D.int (if j<i then j else i)) G=_
 congr 2
 split <;> lia
@[simp]theorem ZVz:Bh (.tup ds) G=vD ds:=id rfl
@[simp]theorem ZVd:Bh (.fl ds) G=vD ds:=id rfl
@[simp]theorem ZJI:Bh (.ref n) G=(match G[n]? with |some (.lst xs)=>vD xs|_=>vE):=id rfl
@[simp]theorem ZVp:Bo [.tup ds] G=.ok (.int ds.length) G:=id rfl
@[simp]theorem ZVk:Bo [.fl ds] G=.ok (.int ds.length) G:=id rfl
@[simp]theorem ev_ixT:Ad (.tup ds) (.int i) G=(match atI ds i with |some v=>.ok v G|none=>.bad):=id rfl
@[simp]theorem ev_ixF:Ad (.fl ds) (.int i) G=(match atI ds i with |some v=>.ok v G|none=>.bad):=id rfl
@[simp]theorem ev_ixR:Ad (.ref n) (.int i) G=(match G[n]? with |some (.lst xs)=>(match atI xs i with |some v=>.ok v G|none=>.bad)|_=>.bad):=by
 unfold Ad;simp only[ZJI];cases G[n]? with
 |none=>rfl
 |some o=>cases o<;>rfl
theorem Hg{n k:Nat}(h:k<n):ixN n (k:Int)=vD k:=by unfold ixN;rw[if_pos (by lia),if_pos (by lia)];simp
theorem ZNW{a:Type}{xs:List a}{k:Nat}{d:a}(h:xs[k]?=vD d):atI xs (k:Int)=vD d:=by unfold atI;rw[Hg (zG.mp h).1];exact h
theorem Dk{a:Type}{xs:List a}{j:Int}{k:Nat}{d:a}(e:j=k)(h:xs[k]?=vD d):atI xs j=vD d:=by subst e;exact ZNW h
theorem ZK2{a:Type}{xs:List a}{j:Int}(b:j<0)(h: -(xs.length:Int)<=j):atI xs j=vD (xs[(j+xs.length).toNat]'(by lia)):=by unfold atI ixN;rw[if_neg (by lia),if_pos h];exact zX (by lia)
@[simp]theorem atI_0{b:Type}{a:b}{xs:List b}:atI (a::xs) 0=vD a:=Dk (k:=0) rfl rfl
@[simp]theorem atI_1{d:Type}{a b:d}{xs:List d}:atI (a::b::xs) 1=vD b:=Dk (k:=1) rfl rfl
@[simp]theorem atI_2{d:Type}{a b c:d}{xs:List d}:atI (a::b::c::xs) 2=vD c:=Dk (k:=2) rfl rfl
@[simp]theorem atI_3{e:Type}{a b c d:e}{xs:List e}:atI (a::b::c::d::xs) 3=vD d:=Dk (k:=3) rfl rfl
@[simp]theorem atI_4{f:Type}{a b c d e:f}{xs:List f}:atI (a::b::c::d::e::xs) 4=vD e:=Dk (k:=4) rfl rfl
@[simp]theorem atI_5{g:Type}{a b c d e f:g}{xs:List g}:atI (a::b::c::d::e::f::xs) 5=vD f:=Dk (k:=5) rfl rfl
@[simp]theorem atI_6{h:Type}{a b c d e f g:h}{xs:List h}:atI (a::b::c::d::e::f::g::xs) 6=vD g:=Dk (k:=6) rfl rfl
@[simp]theorem ZVy:An ds G=if ds.length<=1000000 then .ok (.tup ds) G else .bad:=id rfl
@[simp]theorem ZVV:Ah ds G=if ds.length<=1000000 then .ok (.ref G.length) (G++[.lst ds])else .bad:=id rfl
@[simp]theorem ZVT:Di [.fl ds] G=.ok (.tup ds) G:=id rfl
@[simp]theorem ZVX:Di [.ref n] G=(match G[n]? with |some (.lst xs)=>.ok (.tup xs) G|_=>.bad):=by
 unfold Di;simp only[ZJI];cases G[n]? with
 |none=>rfl
 |some o=>cases o<;>rfl
@[simp]theorem ev_itT:Gb (.tup ds) G=.ok (.pure ds) G:=id rfl
@[simp]theorem ev_itF:Gb (.fl ds) G=.ok (.pure ds) G:=id rfl
@[simp]theorem ZVY:rng1 [.int j] G=if inR j then .ok (.pure (Bg 0 j.toNat)) G else .bad:=id rfl
theorem Ef(a: -1000000000<=i)(h:i<=1000000000):inR i:=⟨by lia,by lia⟩
@[simp]theorem ZVE:isL (.fl ds) G=vF:=id rfl
@[simp]theorem ZVg:isL (.ref n) G=(match G[n]? with |some (.lst _)=>vF|_=>vG):=id rfl
@[simp]theorem ev_app:Dm (.ref n) [d] G=(match G[n]? with |some (.lst xs)=>if xs.length<1000000 then .ok .non (G.set n (.lst (xs++[d])))else .bad|_=>.bad):=id rfl
@[simp]theorem ZV5:Jw (.ref n) (.int i) d G=(match G[n]? with |some (.lst xs)=>(match ixN xs.length i with |some j=>.ok .non (G.set n (.lst (xs.set j d)))|none=>.bad)|_=>.bad):=id rfl
@[simp]theorem ev_all{ks:List Bool}:Kl [.fl (ks.map D.bl)] G=.ok (.bl (ks.all id)) G:=by simp[Kl]
@[simp]theorem ev_any{ks:List Bool}:Li [.fl (ks.map D.bl)] G=.ok (.bl (ks.any id)) G:=by simp[Li]
@[simp]theorem ZVe:Fj [d,.ty "int"] G=(match tyD G d with |some .int=>.ok (.bl vF) G|some .bl=>.ok (.bl vF) G|some _=>.ok (.bl vG) G|none=>.bad):=by
 unfold Fj;dsimp only;cases tyD G d with
 |none=>rfl
 |some t=>cases t<;>rfl
@[simp]theorem ZVO:Fj [d,.ty "bool"] G=(match tyD G d with |some .bl=>.ok (.bl vF) G|some _=>.ok (.bl vG) G|none=>.bad):=by
 unfold Fj;dsimp only;cases tyD G d with
 |none=>rfl
 |some t=>cases t<;>rfl
@[simp]theorem ZVo:Fj [d,.ty "tuple"] G=(match tyD G d with |some .tup=>.ok (.bl vF) G|some _=>.ok (.bl vG) G|none=>.bad):=by
 unfold Fj;dsimp only;cases tyD G d with
 |none=>rfl
 |some t=>cases t<;>rfl
@[simp]theorem ZUz:Fj [d,.ty "str"] G=(match tyD G d with |some .str=>.ok (.bl vF) G|some _=>.ok (.bl vG) G|none=>.bad):=by
 unfold Fj;dsimp only;cases tyD G d with
 |none=>rfl
 |some t=>cases t<;>rfl
end
section
variable{c:Prop}[Decidable c]
end
noncomputable def Gh(kvs:List (Key×D))(k:Key):Option D:=(kvs.find? λkv=>decide (kv.1=k)).map (·.2)
def putD(kvs:List (Key×D))(k:Key)(v:D):List (Key×D):=
 if(kvs.any λkv=>decide (kv.1=k))=vF then kvs.map (λkv=>if kv.1=k then(kv.1,v)else kv)else kvs++[(k,v)]
def Eh:D->Option Key
 |.int i=>vD (.inl i)
 |.str x=>vD (.inr x)
 |_=>vE
noncomputable def Q4(d:D)(G:DH):Option (List (Key×D)):=match d with
 |.ref i=>match G[i]? with
  |some (.dct kvs)=>vD kvs
  |_=>vE
 |_=>vE
theorem ZNl(r:Rep a d x)(h:Eh d=vD k):x=kV k:=by
 cases d<;>first
  |(cases h;exact r)
  |cases h
theorem RepKV.nil:RepKV a [] []:=⟨rfl,rfl⟩
theorem RepKV.cons(h:RepKV a ((k,d)::kvs) us):∃v r,us=(k,v)::r/\Rep a d v/\RepKV a kvs r:=by
 obtain⟨b,v,r,c,e,f⟩:=h;cases us with
 |nil=>cases c
 |cons p us=>
  obtain⟨q,w⟩:=p;simp only[zw,List.cons.injEq]at b c;obtain⟨rfl,b⟩:=b;obtain⟨rfl,rfl⟩:=c;exact⟨w,us,rfl,e,b,f⟩
theorem RepKV.mk(h:Rep a d v)(r:RepKV a kvs us):RepKV a ((k,d)::kvs) ((k,v)::us):=
 ⟨by simp only[zw,r.1],Reps.cons h r.2⟩
theorem RepKV.val:∀{kvs:List (Key×D)}{us:List (Key×V)},RepKV a kvs us->(Gh kvs k=vE/\Fg us k=vE)∨∃d v,Gh kvs k=vD d/\Fg us k=vD v/\Rep a d v
 |[],us,h=>by obtain⟨c,_⟩:=h;have:us=[]:=j7.mp c.symm;subst this;exact .inl ⟨rfl,rfl⟩
 | (q,d)::kvs,us,h=>by
  obtain⟨v,r,rfl,c,j⟩:=RepKV.cons h;by_cases e:q=k
  ·exact .inr ⟨d,v,by simp[Gh,qk,e],by simp[Fg,qk,e],c⟩
  ·rcases RepKV.val (k:=k) j with⟨f,b⟩|⟨g,i,f,b,l⟩
   ·exact .inl ⟨by simpa[Gh,qk,e]using f,by simpa[Fg,qk,e]using b⟩
   ·exact .inr ⟨g,i,by simpa[Gh,qk,e]using f,by simpa[Fg,qk,e]using b,l⟩
theorem RepKV.any:∀{kvs:List (Key×D)}{us:List (Key×V)},RepKV a kvs us->(kvs.any λb=>decide (b.1=k))=us.any λb=>decide (b.1=k)
 |[],us,h=>by
  obtain⟨c,_⟩:=h;have:us=[]:=j7.mp c.symm;subst this
  rfl
 |(q,d)::kvs,us,h=>by obtain⟨v,r,rfl,c,e⟩:=RepKV.cons h;simp only[jF,RepKV.any (k:=k) e]
theorem RepKV.repl(g:Rep a d v):∀{kvs:List (Key×D)}{us:List (Key×V)},RepKV a kvs us->RepKV a (kvs.map λb=>if b.1=k then(b.1,d)else b) (us.map λb=>if b.1=k then(b.1,v)else b)
 |[],us,h=>by obtain⟨f,_⟩:=h;have:us=[]:=j7.mp f.symm;subst this;exact RepKV.nil
 |(q,e)::kvs,us,h=>by
  obtain⟨w,r,rfl,f,i⟩:=RepKV.cons h;simp only[zw];by_cases c:q=k
  ·rw[if_pos c,if_pos c];exact RepKV.mk g (RepKV.repl g i)
  ·rw[if_neg c,if_neg c];exact RepKV.mk f (RepKV.repl g i)
theorem RepKV.put(h:RepKV a kvs us)(b:Rep a d v):RepKV a (putD kvs k d) (putK us k v):=by
 unfold putD putK;rw[RepKV.any (k:=k) h];split
 ·exact RepKV.repl b h
 ·exact⟨by simp[h.1],by have:=Reps.append h.2 (Reps.cons b (Reps.nil));simpa using this⟩
theorem Sim.dct(s:Sim a G)(r:Rep a d x)(h:Q4 d G=vD kvs):∃i us,d=.ref i/\i<a.n/\x=.ref (a.m i)/\G[i]?=vD (.dct kvs)/\a.H (a.m i)=vD (.dK us)/\RepKV a kvs us:=by
 cases d with
 |ref i=>
  unfold Q4 at h;dsimp only at h;split at h
  ·rename_i f b;cases h;obtain⟨us,c,e⟩:=s.obj i _ b;exact⟨i,us,rfl,r.1,r.2,b,c,e⟩
  ·cases h
 |_=>cases h
def Ip(d e:D)(G:DH):R D:=match Q4 d G,Eh e with
 |some kvs,vD k=>match Gh kvs k with
  |some v=>.ok v G
  |none=>.bad
 |none,_=>Ad d e G
 |_,_=>.bad
section
variable{X:Cx}{E:XK}
theorem ZOh(hu:X.A.units+64<cLine):IxR X (λx y H Q=>∃a v,x=.ref a/\DGet H a y (vD v)/\Q v H):=by
 intro value slice vC s σ H x y v u Q I rx ry h hs;obtain⟨a,w,rfl,g,q⟩:=h;obtain rfl:v=Value.ref a:=rx;have hT:=ZMC I g;unfold subscriptTail;refine vz ?_;rw[getitemInPython_of_ne hT.not_modules];refine vz (wpAny_specialOf hT PySem.F.slot_dict_getitem.lookup ?_);have fin:vY (vZ X.prog X.w) X.A (subscripted slice vG (.ref a) u) (λr s₃=>vY (vZ X.prog X.w) X.A (letTemporaryGo value (.ref a) r >>=λ_=>pure r) (EP X vC σ Q) X.xe s₃) X.xe s:=by
  rw[hs];exact wpAny_operating (ZOj (by lia) I g ry λw' s3 I3 rw'=>vz (wpAny_letTemporaryGo (v6 ⟨w,H,I3,rw',q⟩)))
 first
  |exact v6 (vz fin)
  |exact vz (v6 (vz fin))
  |exact vz fin
theorem ZMp(s:Sim a G)(j:Rep a d x)(f:Rep a e y)(l:Q4 d G=vD kvs)(h:Eh e=vD k):
  ∃p,x=.ref p/\((Gh kvs k=vE/\DGet a.H p y vE)∨∃v w,Gh kvs k=vD v/\Rep a v w/\DGet a.H p y (vD w)):=by
 obtain⟨i,z,rfl,A,rfl,u,t,r⟩:=s.dct j l;have o:=ZNl f h;subst o;refine⟨a.m i,rfl,?_⟩;have g:=DGet.k (k:=k) t;rcases r.val (k:=k)with⟨c,b⟩|⟨v,w,c,b,q⟩
 ·exact .inl ⟨c,by rw[b]at g;exact g⟩
 ·exact .inr ⟨v,w,c,q,by rw[b]at g;exact g⟩
theorem ZEs(i:X.A.units+64<cLine):IxR X (lR2 X.K E Ip):=(i_ix (E:=E).or (ZOh i)).mono λx y H Q h=>by
 obtain⟨a,G,d,e,hk,rfl,s,f,c,q⟩:=h;unfold Ip at q;split at q
 ·rename_i m k l j;obtain⟨p,rfl,⟨b,_⟩|⟨v,w,b,rv,g⟩⟩:=ZMp s f c l j
  ·rw[b]at q;exact q.elim
  ·rw[b]at q;exact .inr ⟨p,w,rfl,g,q a w (Ext.refl a) s rv⟩
 ·exact .inl ⟨a,G,d,e,hk,rfl,s,f,c,q⟩
 ·exact q.elim
theorem Ext.wrD(h:a.H p=vD (.dK us)):Ext a (a.put p ho):=
 ⟨rfl,zK _,λ_ _=>rfl,λq b e=>by
  show upd a.H p ho q=_;rw[Al (λz=>by subst z;rw[h]at e;cases e)];exact e,λq o u e=>by
  show upd a.H p ho q=_;rw[Al (λz=>by subst z;rw[h]at e;cases e)];exact e,λ_ t=>t.mono (λq c e=>by show upd a.H p ho q=_;rw[Al (λz=>by subst z;rw[h]at e;cases e)];exact e) (λq o u e=>by show upd a.H p ho q=_;rw[Al (λz=>by subst z;rw[h]at e;cases e)];exact e)⟩
theorem Sim.wrD(s:Sim a G)(hi:i<a.n)(h:a.H (a.m i)=vD (.dK us))(r:RepKV (a.put (a.m i) (.dK us')) kvs' us'):Sim (a.put (a.m i) (.dK us')) (G.set i (.dct kvs')):=by
 refine⟨by rw[j8];exact s.len,s.inj,λj o e=>?_,λj c=>?_⟩
 ·rw[jK]at e;show ORep _ o (upd a.H (a.m i) (.dK us') (a.m j));by_cases b:i=j
  ·subst b;rw[if_pos rfl,if_pos (by rw[s.len];exact hi)]at e;cases e;rw[Ej];exact⟨us',rfl,r⟩
  ·rw[if_neg b]at e;rw[Al λz=>b (s.inj _ _ (s.lt e) hi z).symm];exact(s.obj j o e).mono (Ext.wrD h)
 ·show upd a.H (a.m i) (.dK us') (a.m j)≠vE;by_cases b:a.m j=a.m i
  ·rw[b,Ej];simp
  ·rw[Al b];exact s.tr j c
end
section
variable{S:DSt}{G:DH}{n:Nat}{kvs:List (Key×D)}
@[simp]theorem ZVs:Q4 (.ref n) G=(match G[n]? with |some (.dct kvs)=>vD kvs|_=>vE):=id rfl
theorem ZLk(h:G[n]?=vD (.dct kvs))(hk:Eh e=vD k):Ip (.ref n) e G=(match Gh kvs k with |some v=>.ok v G|none=>.bad):=by unfold Ip;simp[h,hk]
end
section
noncomputable def okD:Nat->D->Bool
 |0,_=>vG
 |_+1,.non=>vF
 |_+1,.int _=>vF
 |_+1,.str _=>vF
 |n+1,.tup ds=>ds.all (okD n)
 |n+1,.fl ds=>ds.all (okD n)
 |_+1,_=>vG
theorem Yj{f:D->D->Option Bool}{P:D->Prop}(d:∀x y,P x->P y->∃b,f x y=vD b/\(b=vF↔x=y)):∀{xs ys:List D},(∀x∈xs,P x)->(∀y∈ys,P y)->
  ∃b,eqZ f xs ys=vD b/\(b=vF↔xs.take ys.length=ys.take xs.length)
 |[],ys,_,_=>⟨vF,by cases ys<;>rfl,by simp⟩
 |x::xs,[],_,_=>⟨vF,rfl,by simp⟩
 |x::xs,y::ys,e,g=>by obtain⟨b,k,j⟩:=d x y (e x (by simp)) (g y (by simp));obtain⟨c,i,h⟩:=Yj d (λz a=>e z (zZ _ a)) (λz a=>g z (zZ _ a));refine⟨b&&c,by simp[eqZ,k,i],?_⟩;simp[j,h]
theorem ZJx{G:DH}:∀(n:Nat)(d e:D),okD n d=vF->okD n e=vF->∃b,eqD n G d e=vD b/\(b=vF↔d=e)
 |0,d,e,h,_=>by cases h
 | n+1,d,e,g,a=>by
  have o:=ZJx (G:=G) n;cases d with
  |bl _=>simp[okD]at g
  |ty _=>simp[okD]at g
  |ref _=>simp[okD]at g
  | tup j=>
   cases e with
   |bl _=>simp[okD]at a
   |ty _=>simp[okD]at a
   |ref _=>simp[okD]at a
   |tup l=>
    simp only[okD,qy]at g a;obtain⟨b,m,k⟩:=Yj o (λx f=>g x f) (λx f=>a x f);refine⟨b&&j.length==l.length,by simp[eqD,view,m],?_⟩;simp only[zD,k,beq_iff_eq,D.tup.injEq];constructor
    ·rintro⟨e,c⟩;rw[<-c,xQ]at e;rw[e,c,xQ]
    ·rintro rfl;exact⟨rfl,rfl⟩
   |_=>exact⟨vG,by simp[eqD,view],by simp⟩
  | fl j=>
   cases e with
   |bl _=>simp[okD]at a
   |ty _=>simp[okD]at a
   |ref _=>simp[okD]at a
   |fl l=>
    simp only[okD,qy]at g a;by_cases c:j.length=l.length
    ·obtain⟨b,m,k⟩:=Yj o (λx f=>g x f) (λx f=>a x f);refine⟨b,by simp[eqD,view,c,m],?_⟩;rw[k,<-c,xQ,c,xQ];simp
    ·exact⟨vG,by simp[eqD,view,c],by simp;rintro rfl;exact c rfl⟩
   |_=>exact⟨vG,by simp[eqD,view],by simp⟩
  |non=>cases e<;>first|(simp[okD]at a;done)|exact⟨_,rfl,by simp[eqV]⟩
  |int i=>cases e<;>first|(simp[okD]at a;done)|exact⟨_,rfl,by simp[eqV]⟩
  |str i=>cases e<;>first|(simp[okD]at a;done)|exact⟨_,rfl,by simp[eqV]⟩
open Classical in
theorem ZTA(a:okD 30 d=vF)(f:okD 30 e=vF):Bl d e G=.ok (.bl (decide (d=e))) G:=by
 obtain⟨b,c,h⟩:=ZJx (G:=G) 30 d e a f;unfold Bl;rw[c];cases b with
 |true=>simp[h.mp rfl]
 |false=>simp[show¬d=e from λz=>zk (h.mpr z)]
theorem ZPS(a:okD 30 d=vF):Bl d d G=.ok (.bl vF) G:=by rw[ZTA a a];simp
end
def cutD{α:Type}(xs:List α)(lo hi:Option Int):List α:=(xs.drop (HT.sIx xs.length 0 lo)).take (HT.sIx xs.length xs.length hi-HT.sIx xs.length 0 lo)
def Qc(z:Str)(lo hi:Option Int):Str:=⟨(cutD z.cps.toList lo hi).toArray⟩
theorem ZUm{a:Type}(xs:List a)(lo hi:Option Int):(cutD xs lo hi).length<=xs.length:=by unfold cutD;rw[jE,jS];lia
def Jp(t:Option DE)(S:DSt)(G:DH):R (Option Int):=match t with
 |none=>.ok vE G
 |some t=>(t S G).bind λd G1=>match d with
  |.int i=>.ok (vD i) G1
  |_=>.bad
def O3(d:D)(lo hi:Option Int)(G:DH):R D:=match d with
 |.str z=>if z.length<=1000000 then .ok (.str (Qc z lo hi)) G else .bad
 |.tup xs=>.ok (.tup (cutD xs lo hi)) G
 |d=>match Gj d G with
  |some xs=>.ok (.ref G.length) (G++[.lst (cutD xs lo hi)])
  |none=>.bad
def dSl(e:DE)(lo hi:Option DE):DE:=λS G=>(e S G).bind λd G1=>(Jp lo S G1).bind λl G2=>(Jp hi S G2).bind λh G3=>O3 d l h G3
theorem Ny(n:Nat)(v:Int):((HT.sIx n n (vD v):Nat):Int)=max 0 (min (if v<0 then v+(n:Int)else v) n)/\((HT.sIx n 0 (vD v):Nat):Int)=max 0 (min (if v<0 then v+(n:Int)else v) n):=by
 unfold HT.sIx;by_cases a:v<0
 ·simp only[if_pos a];lia
 ·simp only[if_neg a];lia
theorem ZQH(xs:Array Nat)(i k:Nat):(zQ k).filterMap (λm=>xs[i+m]?)=(xs.toList.drop i).take k:=by
 induction k generalizing i with
 |zero=>simp
 | succ k d=>
  rw[qR,q9];have e:(List.map Nat.succ (zQ k)).filterMap (λm=>xs[i+m]?)=(zQ k).filterMap (λm=>xs[i+1+m]?):=by
   rw[qx]
   congr 1
   funext m;simp only[Function.comp]
   congr 1
   lia
  rw[e,d (i+1)];by_cases b:i<xs.size
  ·have a:xs[i+0]?=vD xs[i]:=by simp[b]
   rw[a];have c:xs.toList.drop i=xs[i]::xs.toList.drop (i+1):=by rw[qQ (by simpa using b)];simp
   rw[c];simp
  ·have a:xs[i+0]?=vE:=by simp;lia
   rw[a];simp only;rw[qJ (by simp;lia),qJ (by simp;lia)];simp
theorem ZNA(x:Str)(lo hi:Option Int):Txt.slice x lo hi=Qc x lo hi:=by
 have b:x.length=x.cps.toList.length:=by simp[Str.length]
 have g:(Builtin.Str.strSliceIndices lo hi 1 x.length).filterMap (x.cps[·]?)=cutD x.cps.toList lo hi:=by
  have m:∀(v:Option Int),(match v with |none=>(0:Int)|some i=>max 0 (min (if i<0 then i+(x.length:Int)else i) x.length))=((HT.sIx x.length 0 v:Nat):Int):=λv=>by
   cases v with
   |none=>rfl
   |some i=>exact(Ny x.length i).2.symm
  have l:∀(v:Option Int),(match v with |none=>(x.length:Int)|some i=>max 0 (min (if i<0 then i+(x.length:Int)else i) x.length))=((HT.sIx x.length x.length v:Nat):Int):=λv=>by
   cases v with
   |none=>rfl
   |some i=>exact(Ny x.length i).1.symm
  have d:Builtin.Str.strSliceIndices lo hi 1 x.length=sliceRange ((HT.sIx x.length 0 lo:Nat):Int) ((HT.sIx x.length x.length hi:Nat):Int) 1:=by
   rw[<-m lo,<-l hi];unfold Builtin.Str.strSliceIndices
   cases lo<;>cases hi<;>simp
  rw[d];unfold sliceRange cutD;rw[qx,<-b];generalize HT.sIx x.length 0 lo=i;generalize HT.sIx x.length x.length hi=j;have q:((λa=>x.cps[a]?) ∘ λ(k:Nat)=>((i:Int)+1*(k:Int)).toNat)=λk=>x.cps[i+k]? :=by
   funext k;simp only[Function.comp]
   congr 1
   lia
  have r:(if(1:Int)>0 then if(i:Int)<(j:Int)then((j:Int)-i+1-1)/1 else 0 else if(i:Int)>(j:Int)then((i:Int)-j-1-1) / -1 else 0).toNat=j-i:=by
   rw[if_pos (by lia)];split
   ·rw[Int.ediv_one];lia
   ·lia
  rw[q,r];exact ZQH x.cps i (j-i)
 unfold Txt.slice Qc;split
 ·rename_i h;have s:(Builtin.Str.strSliceIndices lo hi 1 x.length).length=x.length:=by simpa using h
  have p:(cutD x.cps.toList lo hi).length=x.cps.toList.length∨(cutD x.cps.toList lo hi).length<x.cps.toList.length:=by have:=ZUm x.cps.toList lo hi;lia
  have c:(cutD x.cps.toList lo hi).length=x.cps.toList.length:=by
   have d:(Builtin.Str.strSliceIndices lo hi 1 x.length).length=HT.sIx x.length x.length hi-HT.sIx x.length 0 lo:=by
    have m:∀(v:Option Int),(match v with |none=>(0:Int)|some i=>max 0 (min (if i<0 then i+(x.length:Int)else i) x.length))=((HT.sIx x.length 0 v:Nat):Int):=λv=>by
     cases v with
     |none=>rfl
     |some i=>exact(Ny x.length i).2.symm
    have l:∀(v:Option Int),(match v with |none=>(x.length:Int)|some i=>max 0 (min (if i<0 then i+(x.length:Int)else i) x.length))=((HT.sIx x.length x.length v:Nat):Int):=λv=>by
     cases v with
     |none=>rfl
     |some i=>exact(Ny x.length i).1.symm
    have d:Builtin.Str.strSliceIndices lo hi 1 x.length=sliceRange ((HT.sIx x.length 0 lo:Nat):Int) ((HT.sIx x.length x.length hi:Nat):Int) 1:=by
     rw[<-m lo,<-l hi];unfold Builtin.Str.strSliceIndices
     cases lo<;>cases hi<;>simp
    rw[d];unfold sliceRange;rw[qY,List.length_range];generalize HT.sIx x.length 0 lo=i;generalize HT.sIx x.length x.length hi=j;rw[if_pos (by lia)];split
    ·rw[Int.ediv_one];lia
    ·lia
   have u:HT.sIx x.length x.length hi<=x.length:=HT.ZEl _ _ (zK _) hi;unfold cutD;rw[jE,jS,<-b];lia
  have n:(cutD x.cps.toList lo hi).Sublist x.cps.toList:=(List.take_sublist _ _).trans (List.drop_sublist _ _);rw[n.eq_of_length c]
 ·rw[g]
section
variable{X:Cx}{E:XK}
theorem ZSN:SlR X (λx lo hi H Q=>∃z:Str,x=.str z/\z.length<=sizeLine/\Q (.str (Qc z lo hi)) H):=by
 intro b s J H x v L K lo hi p Q I C y pl r h;obtain⟨z,rfl,M,q⟩:=h;obtain⟨t,rfl⟩:=C;refine⟨"str",_,PySem.F.slot_str_getitem.lookup,typeIs_str _ _ _,?_⟩
 have a:∀(l u:Option (Int×Tok)),L=partValue l->K=partValue u->l.map (·.1)=lo->u.map (·.1)=hi->vY (vZ X.prog X.w) X.A (getItem (.str z t) (.ref p)) (EP X b J Q) X.xe s:=by
  rintro l u rfl rfl rfl rfl
  refine wpAny_getItem_str_slice (l:=l) (u:=u) (st:=vE) (show s.heap.IsSlice p l u vE from y) rfl ?_
  have e:∀d,(Txt.slice z (l.map (·.1)) (u.map (·.1))).length<=sizeLine/\(∀c k,d (.str (Txt.slice z (l.map (·.1)) (u.map (·.1))) c) {s with toks:=k})->(sliceMade z t l u vE).post d s:=λd B=>post_val_or_str B
  refine e _ ⟨zA (Txt.slice_le z _ _) M,λc k=>?_⟩;rw[ZNA];exact⟨.str _,H,I.tok k,⟨c,rfl⟩,q⟩
 cases pl with
 |none=>cases r with
  |none=>exact a vE vE rfl rfl rfl rfl
  |int j g=>exact a vE (vD (j,g)) rfl rfl rfl rfl
 |int i n=>cases r with
  |none=>exact a (vD (i,n)) vE rfl rfl rfl rfl
  |int j g=>exact a (vD (i,n)) (vD (j,g)) rfl rfl rfl rfl
theorem ZUJ{prog:x0}{w:xE}{A:xj}{E:xD->xB->Prop}{s:xB}{t g:xz}{items:Array xD}{k j:xD}{lo:Option Int}{Q:xD->xB->Prop}(b:IsTup s.heap t items)(i:s.heap.IsSliceOf g k j .none)(pl:IsPart k lo)(n:IsPart j hi)
  (hw:HT.sIx items.size 0 lo=0/\HT.sIx items.size items.size hi=items.size) (h:Q (.ref t) s):vY (vZ prog w) A (getItem (.ref t) (.ref g)) Q E s:=by
 obtain⟨l,c,hcs,m⟩:=id i;have d:s.TypeIs (.ref g) "slice":=⟨l,c,hcs⟩;unfold getItem
 try with_reducible refine vk ?_
 first|refine vz (v6 ?_)|skip
 refine vz (wpAny_sequenceKey b.typeIs (by decide) ?_);refine vz (vj (name:=Str.ofString "__getitem__") b.typeIs PyProof.Rows.slot_tuple_getitem
  (vx PyProof.Rows.slot_tuple_getitem b.typeIs entry_tuple_getitem ?_ (args_tuple_getitem _ _)))
 show vY _ _ (Builtin.Tuple.tupleItemsOf (.ref t) >>=_) _ _ s;refine vz (tupleItemsOf_ b ?_);refine vz (wpAny_typeOf d ?_);rw[if_pos (by decide)];refine vz (HT.ZDW i pl n ?_);have a:(((HT.sIx items.size 0 lo:Nat):Int)==0&&(1:Int)==1&&(HT.sIx items.size items.size hi-HT.sIx items.size 0 lo)==items.size)=vF:=by rw[hw.1,hw.2];simp
 show vY _ _ (if(((HT.sIx items.size 0 lo:Nat):Int)==0&&(1:Int)==1&&(HT.sIx items.size items.size hi-HT.sIx items.size 0 lo)==items.size)=vF then _ else _) _ _ s;rw[if_pos a];refine vz ?_;unfold Builtin.Tuple.tupleIsExact;refine vz (wpAny_typeOf b.typeIs (v6 ?_));rw[if_pos (by decide)];exact vz (wpAny_rule (v6 ⟨_,rfl,v6 h⟩))
theorem ZKf:SlR X (λx lo hi H Q=>∃a xs,x=.ref a/\SqT X.K H a xs/\(HT.sIx xs.length 0 lo=0/\HT.sIx xs.length xs.length hi=xs.length)/\Q (.ref a) H):=by
 intro g s u H x v n m lo hi w Q I j i pl l h;obtain⟨a,xs,rfl,k,hw,q⟩:=h;cases j;obtain⟨c,r,d,p⟩:=I.tuple k;have b:c.toArray.size=xs.length:=by rw[zY];exact r.length.symm
 exact⟨"tuple",_,PyProof.Rows.slot_tuple_getitem.lookup,d.typeIs,ZUJ d i pl l (by rw[b];exact hw) ⟨.ref a,H,I,rfl,q⟩⟩
def N5(E:XK)(a:Wd)(r:R (Option Int))(Q:Option Int->Hp->Prop):Prop:=match r with
 |.ok k G=>∀(b:Wd),Ext a b->Sim b G->Q k b.H
 |.err x G=>XOk E a x G
 |.bad=>False
def QO(X:Cx)(E:XK)(e:Option xw)(t:Option DE):Prop:=PO X e (λσ H Q=>∃(a:Wd)(S:DSt)(G:DH),a.K=X.K/\a.H=H/\Sim a G/\RepS a S σ/\N5 E a (Jp t S G) Q)
theorem _root_._L.PO.mono(h:PO X e t)(w:∀a H Q,t' a H Q->t a H Q):PO X e t':=λb s a H Q I q=>h b s a H Q I (w a H Q q)
theorem ZMV:QO X E vE vE:=ZKV.mono λb H Q h=>by obtain⟨a,S,G,hk,rfl,s,r,h⟩:=h;exact h a (Ext.refl a) s
theorem ZQp(k:QE X E e t):QO X E (vD e) (vD t):=(ZKt k).mono λm H Q h=>by
 obtain⟨a,S,G,hk,rfl,s,r,h⟩:=h;refine⟨a,S,G,hk,rfl,s,r,?_⟩
 have c:N5 E a ((t S G).bind λd g=>match d with | .int i=>.ok (vD i) g|_=>.bad) Q:=h
 cases j:t S G with
 |ok d g=>
  rw[j]at c;intro b v x l rv;cases d with
  |int i=>exact⟨i,rv,c b x l⟩
  |_=>exact c.elim
 |err x g=>rw[j]at c;exact c
 |bad=>rw[j]at c;exact c
theorem Reps.cutD(r:Reps a ds vs)(lo hi:Option Int):Reps a (_D.cutD ds lo hi) (Jt vs lo hi):=by unfold _D.cutD Jt;rw[r.length];exact(r.drop _).take _
theorem N5.imp(h:N5 E a r Q)(w:∀v H,Q v H->Q' v H):N5 E a r Q':=by
 cases r with
 |ok d G=>exact λb x s=>w _ _ (h b x s)
 |err e G=>exact h
 |bad=>exact h
theorem ZG3(h:out E a (r.bind f) Q):
  N5 E a r (λk H=>∃(b:Wd)(G:DH),b.H=H/\Ext a b/\Sim b G/\r=.ok k G/\out E b (f k G) Q):=by
 cases r with
 |ok d G=>exact λb x s=>⟨b,G,rfl,x,s,rfl,out.mono x h⟩
 |err e G=>exact h
 |bad=>exact h
theorem ZUy{e:xw}{lo hi:Option xw}{te:DE}{N th:Option DE}{p2 pos:Pos}(he:QE X E e te)(L:QO X E lo N)(hu:QO X E hi th):QE X E (.Subscript e (.Slice lo hi vE p2) pos) (dSl te N th):=
 (ZPr (ZO3.or (ZLf.or (ZKf.or ZSN))) he L hu).mono λσ H Q h=>by
 obtain⟨a,S,G,hk,rfl,s,r,h⟩:=h;refine⟨a,S,G,hk,rfl,s,r,(Em h).imp ?_⟩;rintro v _ ⟨b,d,Z,rfl,x,Y,q,_,h1⟩;refine⟨b,S,Z,x.k.trans hk,rfl,Y,r.mono x,(ZG3 h1).imp ?_⟩;rintro l _ ⟨c,T,rfl,y,P,_,U⟩;refine⟨c,S,T,y.k.trans (x.k.trans hk),rfl,P,(r.mono x).mono y,(ZG3 U).imp ?_⟩;rintro u _ ⟨A,F,rfl,O,C,_,g⟩;have n:=O.k.trans (y.k.trans (x.k.trans hk));have M:=(q.mono y).mono O
 have lst:out E A (match Gj d F with |some m=>.ok (.ref F.length) (F++[.lst (cutD m l u)])|none=>.bad) Q->rSlL X.K v l u A.H Q:=λg=>by
  split at g
  ·rename_i m W;obtain⟨p,j,J,I,w⟩:=Oi C M W;exact⟨p,j,J,by rw[<-n];exact I,λp hp=>Jj C (Reps.cutD w l u) g p hp⟩
  ·exact g.elim
 cases d with
 | str z=>
  have B:out E A (if z.length<=1000000 then .ok (.str (Qc z l u)) F else .bad) Q:=g;split at B
  ·rename_i L
   cases(show v=V.str z from M)
   exact .inr (.inr (.inr ⟨z,rfl,zA L size6,B A _ (Ext.refl _) C rfl⟩))
  ·exact B.elim
 | tup m=>
  have B:out E A (.ok (.tup (cutD m l u)) F) Q:=g;obtain⟨p,j,J,I,w⟩:=M;by_cases hw:HT.sIx j.length 0 l=0/\HT.sIx j.length j.length u=j.length
  ·refine .inr (.inr (.inl ⟨p,j,J,by rw[<-n];exact I,hw,B A _ (Ext.refl _) C ⟨p,j,rfl,I,?_⟩⟩));have:cutD m l u=m:=by unfold cutD;rw[w.length,hw.1,hw.2,<-w.length];simp
   rw[this];exact w
  ·exact .inr (.inl ⟨p,j,J,by rw[<-n];exact I,hw,λp hp=>ZA1 C (Reps.cutD w l u) B p hp⟩)
 |fl m=>exact .inl (lst g)
 |ref i=>exact .inl (lst g)
 |non=>exact(show False from g).elim
 |bl _=>exact(show False from g).elim
 |int _=>exact(show False from g).elim
 |ty _=>exact(show False from g).elim
section
variable{name:Str}{id:String}{f:D->List D->DH->R D}{o e:xw}{es:List xw}{to:DE}{t:DA}{apos cpos:Pos}
end
end
section
variable{S:DSt}{G:DH}
@[simp]theorem ev_Sl{e:DE}{lo hi:Option DE}:dSl e lo hi S G=(e S G).bind λd c=>(Jp lo S c).bind λl b=>(Jp hi S b).bind λh a=>O3 d l h a:=id rfl
@[simp]theorem ZVM:Jp vE S G=.ok vE G:=id rfl
@[simp]theorem ZVL:Jp (vD t) S G=(t S G).bind λd a=>match d with | .int i=>.ok (vD i) a|_=>.bad:=id rfl
@[simp]theorem ev_slT{xs:List D}{lo:Option Int}:O3 (.tup xs) lo hi G=.ok (.tup (cutD xs lo hi)) G:=id rfl
@[simp]theorem ev_slF{xs:List D}{lo:Option Int}:O3 (.fl xs) lo hi G=.ok (.ref G.length) (G++[.lst (cutD xs lo hi)]):=id rfl
@[simp]theorem ZVl:Ju [.fl xs] G=.ok (.ref G.length) (G++[.lst xs]):=id rfl
@[simp]theorem Ni:Ad (.str z) (.int i) G=if z.length<=1000000 then(match atI z.cps.toList i with |some c=>.ok (sgn c) G|none=>.bad)else .bad:=id rfl
end
end _D
namespace _D
open PySem PySem.Spec _L
open PyProof.Rows hiding St
open Builtin.Str
section
variable(p:Nat->Bool)(m:Nat)
end
def CStep(g:DG)(c:DB)(te:DE)(S:DSt)(G:DH)(x:D)(r:Option D):Prop:=
 ∃S1,g x S G=.ok S1 G/\((c S1 G=.ok vG G/\r=vE)∨(c S1 G=.ok vF G/\∃d,te S1 G=.ok d G/\r=vD d))
theorem Qm:∀{xs:List D},(∀x∈xs,CStep g c te S G x (F x))->Ck g c te S xs G=.ok (xs.filterMap F) G
 |[],_=>rfl
 |x::xs,h=>by
  obtain⟨k,f,a⟩:=h x (by simp);have e:=Qm (λy j=>h y (zZ _ j));rw[ZCC,f];rcases a with⟨a,b⟩|⟨a,d,b,i⟩
  ·simp[a,b,e,q9]
  ·simp[a,b,i,e,q9]
theorem ZC0(e:G[i]?=vD (.lst xs))(h:∀x∈xs,CStep g c te S G x (F x)):
  ∀(n j:Nat),j+n=xs.length->Fw i g c te S n j G=.ok ((xs.drop j).filterMap F) G
 |0,j,o=>by
  unfold Fw;rw[e];simp only;rw[if_pos (by lia),qJ (by lia)]
  rfl
 |n+1,j,o=>by
  have a:j<xs.length:=by lia
  have k:=ZC0 e h n (j+1) (by lia);obtain⟨r,l,b⟩:=h xs[j] (q8 a);unfold Fw;rw[e];simp only;rw[zX a];simp only[l,R.Hu];rw[qQ a,q9];rcases b with⟨b,f⟩|⟨b,d,f,q⟩
  ·simp[b,f,k]
  ·simp[b,f,q,k]
theorem ZEZ(a:G[i]?=vD (.lst xs))(h:∀x∈xs,CStep g c te S G x (F x)):
  Fw i g c te S xs.length 0 G=.ok (xs.filterMap F) G:=ZC0 a h xs.length 0 (by lia)
theorem ZFq{x y:Str}(h:x.cps.toList=y.cps.toList):x=y:=by obtain⟨a⟩:=x;obtain⟨b⟩:=y;simp only at h;rw[Array.toList_inj.mp h]
end _D
namespace _D
open PySem PySem.Spec _L
open PyProof.Rows hiding St
inductive Src where
 |l (a:xz)
 |t (a:xz)
noncomputable def Src.itn:Src->String
 |.l _=>"list_iterator"
 |.t _=>"tuple_iterator"
noncomputable def Src.adr:Src->xz
 |.l a=>a
 |.t a=>a
def Src.it(h:Heap)(p:xz)(k:Nat)(sr:Src):Prop:=∃o,h.get? p=vD o/\o.cls=.type sr.itn/\o.data=.fields #[.ref sr.adr,.int k 0]
def Src.val(h:Heap)(xs:Array xD):Src->Prop
 |.l a=>h.IsList a xs
 |.t a=>h.IsTuple a xs
theorem Src.it.at{a:Src}{h h':Heap}{p:xz}{k:Nat}(x:a.it h p k)(e:∀o,h.get? p=vD o->h'.get? p=vD o):a.it h' p k:=let⟨o,b,r⟩:=x;⟨o,e o b,r⟩
theorem Src.val.at{b:Src}{h h':Heap}{xs:Array xD}(x:b.val h xs)(e:∀o,h.get? b.adr=vD o->h'.get? b.adr=vD o):b.val h' xs:=by
 cases b with
 |l a=>obtain⟨o,c,r⟩:=x;exact⟨o,e o c,r⟩
 |t a=>obtain⟨o,c,r⟩:=x;exact⟨o,e o c,r⟩
theorem Src.it.lt{b:Src}{h:Heap}{p:xz}{k:Nat}(x:b.it h p k):p<h.objs.size:=let⟨_,a,_⟩:=x;zx a
section
variable{prog:x0}{w:xE}{A:xj}{E:xD->xB->Prop}{s:xB}
theorem Src.val.obj{d:Src}{h:Heap}{xs:Array xD}(x:d.val h xs):∃o n,h.get? d.adr=vD o/\o.data=.seq xs n:=by
 cases d with
 |l a=>obtain⟨o,b,_,n,c⟩:=x;exact⟨o,n,b,c⟩
 |t a=>obtain⟨o,b,_,n,c⟩:=x;exact⟨o,n,b,c⟩
theorem Src.next_item{f:Src}{p:xz}{k:Nat}{xs:Array xD}{x:xD}{Q:xD->xB->Prop}(c:f.it s.heap p k)(r:f.val s.heap xs)(j:xs[k]?=vD x)
  (n:∀h',f.it h' p (k+1)->qB p s.heap h'->Q x {s with heap:=h'}):vY (vZ prog w) A (Builtin.SmallTypes.nextOf (.ref p)) Q E s:=by
 cases f with
 |l a=>exact wpAny_nextOf_list_item (show s.heap.IsListIter p a k from c) r j n
 |t a=>
  obtain⟨o,e,i,d⟩:=id c;obtain⟨v,h,_,u,g⟩:=r;have q:s.TypeIs (.ref p) "tuple_iterator":=⟨o,e,i⟩;unfold Builtin.SmallTypes.nextOf;refine vz (vj (name:=Str.ofString "__next__") q PySem.F.slot_tuple_iterator_next (vx PySem.F.slot_tuple_iterator_next q PySem.F.entry_tuple_iterator_next ?_ (PySem.F.args_tuple_iterator_next_1 _)));refine vz (m:=field (.ref p) 0) (vv e d (x:=.ref a) rfl ?_)
  show vY _ _ (if(Value.ref a==Value.none)=vF then _ else(field (.ref p) 1 >>=_)) _ _ s
  rw[if_neg (show¬((Value.ref a==Value.none)=vF)from zk)]
  refine vz (m:=field (.ref p) 1) (vv e d (x:=.int k 0) rfl (vz (m:=seqItems? (.ref a)) (wpAny_seqItems h g ?_)));simp only[Int.toNat_natCast,j];refine vz (wpAny_setField e d (by simp) (v6 ⟨x,rfl,v6 (n _ ⟨_,jT _ e (Obj.isFreed_of_fields (Obj.data_mapFields d _)),(Obj.cls_mapFields ..).trans i,?_⟩ (qB.update ..))⟩));rw[Obj.data_mapFields d];simp[vJ,Src.adr]
theorem Src.next_end{i:Src}{p:xz}{k:Nat}{xs:Array xD}{Q:xD->xB->Prop}(j:A.handled=vE)(c:i.it s.heap p k)(u:i.val s.heap xs)(q:xs[k]?=vE)
  (n:∀h' e,Heap.ExtBut p s.heap h'->(∃o,h'.get? e=vD o/\o.cls=.type "StopIteration")->E (.ref e) {s with heap:=h'}):vY (vZ prog w) A (Builtin.SmallTypes.nextOf (.ref p)) Q E s:=by
 cases i with
 |l a=>exact wpAny_nextOf_list_end j (show s.heap.IsListIter p a k from c) u q n
 |t a=>
  obtain⟨o,d,v,h⟩:=id c;obtain⟨z,g,_,y,f⟩:=u;have r:s.TypeIs (.ref p) "tuple_iterator":=⟨o,d,v⟩;unfold Builtin.SmallTypes.nextOf;refine vz (vj (name:=Str.ofString "__next__") r PySem.F.slot_tuple_iterator_next (vx PySem.F.slot_tuple_iterator_next r PySem.F.entry_tuple_iterator_next ?_ (PySem.F.args_tuple_iterator_next_1 _)));refine vz (m:=field (.ref p) 0) (vv d h (x:=.ref a) rfl ?_)
  show vY _ _ (if(Value.ref a==Value.none)=vF then _ else(field (.ref p) 1 >>=_)) _ _ s
  rw[if_neg (show¬((Value.ref a==Value.none)=vF)from zk)]
  refine vz (m:=field (.ref p) 1) (vv d h (x:=.int k 0) rfl (vz (m:=seqItems? (.ref a)) (wpAny_seqItems g f ?_)));simp only[Int.toNat_natCast,q];refine vz (wpAny_rule (vz (wpAny_setField d h (by simp) (vz (m:=newExc (.type "StopIteration") []) ?_))));simp only[newExc,newTuple]
  refine vz (v4 (vz (m:=firstArgMember _ _) (wpAny_of_eq (a:=Value.none) (by first|rfl|(simp only[firstArgMember];rfl)) (v4 ?_ (by size_fits)))) (by size_fits))
  simp only[raiseNew];refine vz (wpAny_handled ?_)
  first|rw[show A.in1.handled=vE from j]|rw[j]
  exact vz (v6 (wpAny_throw (n _ _ (((qB.update ..).extBut.push _).push _) ⟨_,z0 _ rfl,rfl⟩)))
theorem Src.iter{c:Src}{xs:Array xD}{Q:xD->xB->Prop}(f:c.val s.heap xs)
  (e:Q (.ref s.heap.objs.size) {s with heap:=s.heap.push {cls:=.type c.itn,data:=.fields #[.ref c.adr,.int 0 0]}}):vY (vZ prog w) A (pyIter (.ref c.adr)) Q E s:=by
 cases c with
 |l a=>exact wpAny_pyIter_list f e
 |t a=>exact wpAny_pyIter_tuple f e
end
abbrev En(h:Heap)(e it:xz)(f0:xD)(i:Int)(g old:xD):Prop:=
 h.get? e=vD {cls:=.type "enumerate",dict:=vE,data:=.fields #[f0,.bool vG,.ref it,vJ i,g,old],slots:= #[]}
def Gv(i:Int)(g:xD):Prop:=g=.none∨∃t,g=.int i t
section
variable{prog:x0}{w:xE}{A:xj}{E:xD->xB->Prop}{s:xB}
theorem ZPt{sr:Src}{e it:xz}{k:Nat}{i:Int}{xs:Array xD}{x g old:xD}{Q:xD->xB->Prop}(he:En s.heap e it .none i g old)(hg:Gv i g)(hit:sr.it s.heap it k)(hv:sr.val s.heap xs)(hx:xs[k]?=vD x)(K:e≠it)
  (hQ:∀h' t tk,En h' e it (vJ s.heap.objs.size) (i+1) .none x->sr.it h' it (k+1)->h'.get? s.heap.objs.size=vD {cls:=.type "tuple",data:=.seq #[.int i t,x]}->h'.objs.size=s.heap.objs.size+1->
   (∀b o,b≠e->b≠it->s.heap.get? b=vD o->h'.get? b=vD o)->Q (.ref s.heap.objs.size) {s with heap:=h',toks:=tk}):
  vY (vZ prog w) A (Builtin.«enumerate.__next__» ⟨[.ref e],[]⟩) (λO s'=>∃v,O=.done (.ret v)/\Q v s') E s:=by
 obtain⟨hp,gg,d,tk,os⟩:=s;refine vz (m:=field (.ref e) 2) (vv he rfl (x:=.ref it) rfl (vz (m:=Builtin.SmallTypes.nextOf (.ref it)) (Src.next_item hit hv hx λB J p=>?_)));have y:En B e it .none i g old:=(p.2 e K).trans he;have k₁:∀b o,b≠e->b≠it->hp.get? b=vD o->B.get? b=vD o:=λb o _ hb q=>p.extBut b o hb q
 have Z:B.objs.size=hp.objs.size:=p.1;refine vz (m:=field (.ref e) 3) (vv y rfl (x:=vJ i) rfl ?_);refine vz (m:=field (.ref e) 4) (vv y rfl (x:=g) rfl ?_)
 have rest:∀(t:Tok)(S:Nat),vY (vZ prog w) A (do
   setField (.ref e) 3 (vJ (i+1));setField (.ref e) 4 .none
   let result<-newTuple [.int i t,x]
   if<-Builtin.SmallTypes.ownedTupleIsFree (.ref e)then
    rule "enumerate.__next__.owned-tuple-again"
    let old<-field (.ref e) 5
    setField (.ref e) 5 x
    Builtin.SmallTypes.ownedTupleHandOut (.ref e) result
    PySem.letGo [old] [result]
   ret result) (λO s'=>∃v,O=.done (.ret v)/\Q v s') E ⟨B,gg,d,S,os⟩:=by
  intro t S;refine vz (v7 y (by simp) λX T r=>?_);refine vz (v7 T (by simp) λh l j=>?_)
  replace l:En h e it .none (i+1) .none old:=l
  have z:h.objs.size=hp.objs.size:=by rw[j.1];show X.objs.size=_;rw[r.1];exact Z
  have k₃:∀b o,b≠e->b≠it->hp.get? b=vD o->h.get? b=vD o:=λb o N h2 q=>j.extBut b o N (r.extBut b o N (k₁ b o N h2 q))
  have i₃:sr.it h it (k+1):=(J.at λo q=>r.extBut it o (Ne.symm K) q).at λo q=>j.extBut it o (Ne.symm K) q
  refine vz (wpAny_newTuple ?_);generalize c:h.push {cls:=.type "tuple",data:=.seq [Value.int i t,x].toArray}=f;have n:En f e it .none (i+1) .none old:=by rw[<-c];exact zJ _ l
  have P:f.get? hp.objs.size=vD {cls:=.type "tuple",data:=.seq #[.int i t,x]}:=by rw[<-c,<-z];exact z0 _ rfl
  have W:f.objs.size=hp.objs.size+1:=by rw[<-c,qE,z]
  have Y:∀b o,b≠e->b≠it->hp.get? b=vD o->f.get? b=vD o:=λb o N h2 q=>by rw[<-c];exact zJ _ (k₃ b o N h2 q)
  have i₄:sr.it f it (k+1):=i₃.at λo q=>by rw[<-c];exact zJ _ q
  have ez:e<hp.objs.size:=zx he;refine vz (m:=Builtin.SmallTypes.ownedTupleIsFree (.ref e)) ?_;unfold Builtin.SmallTypes.ownedTupleIsFree;refine vz (vv n rfl (x:=.none) rfl (v6 ?_));simp only[if_true];refine vz (wpAny_rule (vz (vv n rfl (x:=old) rfl (vz (v7 n (by simp) λM u F=>?_)))))
  replace u:En M e it .none (i+1) .none x:=u
  refine vz (m:=Builtin.SmallTypes.ownedTupleHandOut _ _) ?_;unfold Builtin.SmallTypes.ownedTupleHandOut;refine vz (v7 u (by simp) λh₆ U I=>?_);refine v7 U (by simp) λL C H=>?_
  refine vz (wpAny_letGo (v6 ⟨_,rfl,?_⟩));have up:∀b o,b≠e->f.get? b=vD o->L.get? b=vD o:=λb o hb q=>H.extBut b o hb (I.extBut b o hb (F.extBut b o hb q))
  show Q (.ref h.objs.size) _;rw[z];rw[z]at C;exact hQ L t S C (i₄.at λo q=>up it o (Ne.symm K) q) (up _ _ (jk ez) P) (by rw[H.1];show h₆.objs.size=_;rw[I.1];show M.objs.size=_;rw[F.1];exact W) λb o N h2 q=>up b o N (Y b o N h2 q)
 rcases hg with rfl|⟨t,rfl⟩
 ·exact vz (m:=mkInt i) (wpAny_mkInt (rest tk (tk+1)))
 ·exact vz (m:=(pure (Value.int i t):Sem xD)) (v6 (rest t tk))
theorem ZPV{f:Src}{e it:xz}{k:Nat}{i:Int}{xs:Array xD}{x g old:xD}{Q:Option xD->xB->Prop}(j:En s.heap e it .none i g old)(q:Gv i g)(c:f.it s.heap it k)(z:f.val s.heap xs)(r:xs[k]?=vD x)(d:e≠it)
  (v:∀h' t tk,En h' e it (vJ s.heap.objs.size) (i+1) .none x->f.it h' it (k+1)->h'.get? s.heap.objs.size=vD {cls:=.type "tuple",data:=.seq #[.int i t,x]}->h'.objs.size=s.heap.objs.size+1->
   (∀b o,b≠e->b≠it->s.heap.get? b=vD o->h'.get? b=vD o)->Q (vD (.ref s.heap.objs.size)) {s with heap:=h',toks:=tk}):
  vY (vZ prog w) A (pyNext (.ref e)) Q E s:=by
 have l:s.TypeIs (.ref e) "enumerate":=⟨_,j,rfl⟩;unfold pyNext;exact vz (wpAny_attempt (vj (name:=Str.ofString "__next__") l PySem.F.slot_enumerate_next
  (vx PySem.F.slot_enumerate_next l PySem.F.entry_enumerate_next (ZPt j q c z r d λh' t tk u p m y n=>v6 (v h' t tk u p m y n)) (PySem.F.args_enumerate_next_1 _))))
theorem ZLj{j:Src}{e it:xz}{k:Nat}{i:Int}{xs:Array xD}{g old:xD}{Q:Option xD->xB->Prop}(t:A.handled=vE)(h:En s.heap e it .none i g old)(c:j.it s.heap it k)(u:j.val s.heap xs)(p:xs[k]?=vE)
  (q:∀h',Heap.ExtBut it s.heap h'->Q vE {s with heap:=h'}):vY (vZ prog w) A (pyNext (.ref e)) Q E s:=by
 have l:s.TypeIs (.ref e) "enumerate":=⟨_,h,rfl⟩;unfold pyNext;refine vz (wpAny_attempt (vj (name:=Str.ofString "__next__") l PySem.F.slot_enumerate_next
  (vx PySem.F.slot_enumerate_next l PySem.F.entry_enumerate_next (vz (m:=field (.ref e) 2) (vv h rfl (x:=.ref it) rfl (vz (m:=Builtin.SmallTypes.nextOf (.ref it)) (Src.next_end t c u p λh' x d f=>?_)))) (PySem.F.args_enumerate_next_1 _))))
 obtain⟨o,r,n⟩:=f;exact vz (wpAny_isInstance (T:="StopIteration") (b:=vF) ⟨o,r,n⟩ isSubtype_stop (v6 (q _ d)))
theorem ZRN{elts:List xw}{x1}{pos:Pos}{e it a:xz}{i:Int}{g old:xD}{Q:Unit->xB->Prop}(f:En s.heap e it (vJ a) i g old)
  (h:∀h',En h' e it .none i g old->qB e s.heap h'->Q () {s with heap:=h'}):vY (vZ prog w) A (xU (.Tuple elts x1 pos) (.ref e) (.ref a)) Q E s:=by
 unfold xU;refine vz (wpAny_load f ?_);dsimp only;rw[if_pos (by simp)];exact vz (wpAny_rule (v7 f (by simp) λh' c d=>h h' c d))
theorem ZAq(b:En s.heap e it f0 i g old)(h:Q (.ref e) s):vY (vZ prog w) A (pyIter (.ref e)) Q E s:=by have a:s.TypeIs (.ref e) "enumerate":=⟨_,b,rfl⟩;exact wpAny_pyIter_slot a PySem.F.slot_enumerate_iter (vx PySem.F.slot_enumerate_iter a PySem.F.entry_enumerate_iter (v6 ⟨_,rfl,"enumerate",_,a,PySem.F.slot_enumerate_next.lookup,h⟩) (PySem.F.args_enumerate_iter_1 _))
end
abbrev Tp(h:Heap)(T:xz)(xs:List xD):Prop:=h.get? T=vD {cls:=.type "tuple",data:=.seq xs.toArray}
inductive Drw (h:Heap) (i:Nat):List (Src×xz)->List xD->Prop where
 |nil:Drw h i [] []
 |cons {sr p r x us xs} (hit:Src.it h p i sr) (hv:sr.val h xs) (hx:xs[i]?=vD x) (t:Drw h i r us):Drw h i ((sr,p)::r) (x::us)
theorem Drw.length(d:Drw h i l us):us.length=l.length:=by
 induction d with
 |nil=>rfl
 |cons _ _ _ _ a=>simp[a]
section
variable{prog:x0}{w:xE}{A:xj}{E:xD->xB->Prop}{s:xB}
theorem ZN5(c:Tp s.heap T xs)(hz:xs.length<=1000000)
  (h:∀h',Tp h' T (xs.set k x)->qB T s.heap h'->Q () {s with heap:=h'}):vY (vZ prog w) A (updateSeq T (·.setIfInBounds k x)) Q E s:=by
 have b:xs.toArray.size<=sizeLine:=by rw[zY];exact zA hz size6
 refine wpAny_updateSeq c rfl (h _ ?_ (qB.update ..)) b (by rw[Array.size_setIfInBounds];exact Nat.le_succ_of_le b);show(s.heap.update T _).get? T=_;rw[jT _ c rfl];simp[Obj.mapSeq]
def ZS(prog:x0)(w:xE)(A:xj)(E:xD->xB->Prop)(z TO p:xz)(k:Nat)(R:xB->Prop)(s:xB):Prop:=
 vY (vZ prog w) A (Builtin.SmallTypes.nextOf (.ref p)) (λx s1=>∃os,Tp s1.heap TO os/\os.length<=1000000/\∀h',Tp h' TO (os.set k x)->qB TO s1.heap h'->R {s1 with heap:=h'})
  (λe s'=>vY (vZ prog w) A (setField (.ref z) 0 .none) (λ_ s''=>E e s'') E s') s
theorem ZEb{z TO p:xz}{k i:Nat}{t:Src}{xs:Array xD}{x:xD}{r:List xD}{Q:xB->Prop}(m:Tp s.heap TO r)(hz:r.length<=1000000)(g:t.it s.heap p i)(F:t.val s.heap xs)(B:xs[i]?=vD x)
  (h:∀h',Tp h' TO (r.set k x)->t.it h' p (i+1)->(∀b o,b≠TO->b≠p->s.heap.get? b=vD o->h'.get? b=vD o)->h'.objs.size=s.heap.objs.size->Q {s with heap:=h'}):ZS prog w A E z TO p k Q s:=by
 have j:TO≠p:=λe=>by
  obtain⟨o,u,v,_⟩:=g;rw[<-e,m]at u;cases u
  cases t<;>(simp[Src.itn]at v)
 refine Src.next_item g F B λn f c=>⟨r,c.extBut _ _ j m,hz,λl q d=>?_⟩
 exact h l q (f.at λo e=>d.extBut _ _ (Ne.symm j) e) (λb o y C e=>d.extBut b o y (c.extBut b o C e)) (by rw[d.1];show n.objs.size=_;rw[c.1])
theorem ZDv{z TO:xz}{i:Nat}{n:xD×Nat->Option Fin×PUnit->Sem (ForInStep (Option Fin×PUnit))}{R:Option Fin×PUnit->xB->Prop}
  (hb:∀(p:xz)(k:Nat)(s:xB)(R':ForInStep (Option Fin×PUnit)->xB->Prop),ZS prog w A E z TO p k (λs'=>R' (.yield (vE,⟨⟩)) s') s->
   vY (vZ prog w) A (n (.ref p,k) (vE,⟨⟩)) R' E s):
  ∀(l:List (Src×xz))(us pre post:List xD)(s:xB),Drw s.heap i l us->Tp s.heap TO (pre++post)->post.length=l.length->(pre++post).length<=1000000->(l.map (·.2)).Nodup->(∀q∈l,q.1.adr≠TO)->(∀q∈l,∀r∈l,q.1.adr≠r.2)->
   (∀h',Tp h' TO (pre++us)->(∀q∈l,q.1.it h' q.2 (i+1))->(∀b o,b≠TO->b∉l.map (·.2)->s.heap.get? b=vD o->h'.get? b=vD o)->h'.objs.size=s.heap.objs.size->R (vE,⟨⟩) {s with heap:=h'})->
   vY (vZ prog w) A (forIn ((l.map λq=>Value.ref q.2).zipIdx pre.length) (vE,⟨⟩) n) R E s
 | [],us,pre,post,s,d,N,u,v,O,M,H,C=>by
  cases d;cases post with
  |cons _ _=>simp at u
  |nil=>
   rw[jM,List.zipIdx_nil,List.forIn_nil];exact v6 (C s.heap N (λq a=>by cases a) (λb o _ _ e=>e) rfl)
 | (P,p)::l,us,pre,post,s,d,N,u,v,O,M,H,C=>by
  cases d with
  |@cons _ _ _ x us xs g hv hx d=>
  cases post with
  |nil=>simp at u
  | cons y post=>
   rw[zw,xZ,xK];refine vz (hb p pre.length s _ (ZEb N v g hv hx λh' h Z Q sz=>?_));have S:(pre++y::post).set pre.length x=(pre++[x])++post:=by simp
   rw[S]at h;have e2:pre.length+1=(pre++[x]).length:=by simp
   dsimp only;rw[e2]
   have f:p∉l.map (·.2)/\(l.map (·.2)).Nodup:=by simpa using O
   have m:∀q∈l,q.2≠TO:=λq a e=>by
    have:∃P k,Src.it s.heap q.2 k P:=by
     clear C M H O f S e2 u h v
     induction d with
     |nil=>cases a
     |cons g _ _ _ W=>
      rcases zq.mp a with rfl|a
      ·exact⟨_,_,g⟩
      ·exact W a
    obtain⟨T,k,o,B,U,_⟩:=this;rw[e,N]at B;cases B
    cases T<;>(simp[Src.itn]at U)
   have d':Drw h' i l us:=by
    have L:∀q∈l,q.1.adr≠TO:=λq a=>M q (zZ _ a)
    have I:∀q∈l,q.1.adr≠p:=λq a=>H q (zZ _ a) (P,p) zW
    have pp:∀q∈l,q.2≠p:=λq a e=>f.1 (zM.mpr ⟨q,a,e⟩)
    clear C M H O f S e2 u h v
    induction d with
    |nil=>exact .nil
    |@cons sr1 p1 r1 x1 us1 xs1 F hv1 hx1 t1 W=>
     refine .cons (F.at λo e=>Q _ o (m _ zW) (pp _ zW) e) (hv1.at λo e=>Q _ o (L _ zW) (I _ zW) e) hx1 ?_;exact W (λq a=>m q (zZ _ a)) (λq a=>L q (zZ _ a)) (λq a=>I q (zZ _ a)) (λq a=>pp q (zZ _ a))
   refine ZDv hb l us (pre++[x]) post {s with heap:=h'} d' h (by simpa using u) (by simpa using v) f.2 (λq a=>M q (zZ _ a)) (λq a r hr=>H q (zZ _ a) r (zZ _ hr)) λh'' X t j J=>?_
   have K:p≠TO:=λe=>by
    obtain⟨o,B,U,_⟩:=g;rw[e,N]at B;cases B
    cases P<;>(simp[Src.itn]at U)
   refine C h'' (by simpa using X) (λq a=>?_) (λb o b1 Y e=>?_) (J.trans sz)
   ·rcases zq.mp a with rfl|a
    ·exact Z.at λo e=>j _ o K f.1 e
    ·exact t q a
   ·simp only[zw,zq,not_or]at Y;exact j b o b1 Y.2 (Q b o b1 Y.1 e)
end
inductive DrwE (h:Heap) (i:Nat):List (Src×xz)->Prop where
 |here {sr p r xs} (hit:Src.it h p i sr) (hv:sr.val h xs) (hx:xs[i]?=vE):DrwE h i ((sr,p)::r)
 |there {sr p r x xs} (hit:Src.it h p i sr) (hv:sr.val h xs) (hx:xs[i]?=vD x) (t:DrwE h i r):DrwE h i ((sr,p)::r)
structure ApZ (TO:xz) (l:List (Src×xz)):Prop where
 nd:(l.map (·.2)).Nodup
 na:∀q∈l,q.1.adr≠TO
 np:∀q∈l,∀r∈l,q.1.adr≠r.2
 to:∀q∈l,q.2≠TO
theorem ApZ.tail{TO:xz}{q:Src×xz}{l:List (Src×xz)}(a:ApZ TO (q::l)):ApZ TO l:=
 ⟨(qI.mp (by simpa using a.nd)).2,λq b=>a.na q (zZ _ b),λq b r c=>a.np q (zZ _ b) r (zZ _ c),λq b=>a.to q (zZ _ b)⟩
section
variable{prog:x0}{w:xE}{A:xj}{E:xD->xB->Prop}{s:xB}
theorem DrwE.at{TO p:xz}{u:Src}{i:Nat}{h h':Heap}{l:List (Src×xz)}(a:ApZ TO ((u,p)::l))(j:∀b o,b≠TO->b≠p->h.get? b=vD o->h'.get? b=vD o)(d:DrwE h i l):DrwE h' i l:=by
 have n:∀q∈l,q.2≠p:=λq f e=>(qI.mp (by simpa using a.nd)).1 (zM.mpr ⟨q,f,e⟩)
 have k:∀q∈l,q.1.adr≠p:=λq f=>a.np q (zZ _ f) (u,p) zW
 have g:=a.tail;clear a
 induction d with
 |here c r m=>exact .here (c.at λo e=>j _ o (g.to _ zW) (n _ zW) e) (r.at λo e=>j _ o (g.na _ zW) (k _ zW) e) m
 | there c r m t v=>
  exact .there (c.at λo e=>j _ o (g.to _ zW) (n _ zW) e) (r.at λo e=>j _ o (g.na _ zW) (k _ zW) e) m
   (v (λq f=>n q (zZ _ f)) (λq f=>k q (zZ _ f)) g.tail)
theorem ZJL{z TO:xz}{i:Nat}{f:xD×Nat->Option Fin×PUnit->Sem (ForInStep (Option Fin×PUnit))}{R:Option Fin×PUnit->xB->Prop}(M:A.handled=vE)
  (K:∀(p:xz)(k:Nat)(s:xB)(J:ForInStep (Option Fin×PUnit)->xB->Prop),ZS prog w A E z TO p k (λs'=>J (.yield (vE,⟨⟩)) s') s->
   vY (vZ prog w) A (f (.ref p,k) (vE,⟨⟩)) J E s):
  ∀(l:List (Src×xz))(m:List xD)(n:Nat)(s:xB),DrwE s.heap i l->Tp s.heap TO m->m.length<=1000000->ApZ TO l->
   (∀h' e,(∀b o,b≠TO->b∉l.map (·.2)->s.heap.get? b=vD o->h'.get? b=vD o)->(∃o,h'.get? e=vD o/\o.cls=.type "StopIteration")->vY (vZ prog w) A (setField (.ref z) 0 .none) (λ_ F=>E (.ref e) F) E {s with heap:=h'})->
   vY (vZ prog w) A (forIn ((l.map λq=>Value.ref q.2).zipIdx n) (vE,⟨⟩) f) R E s
 |[],m,n,s,d,L,v,a,r=>by cases d
 | (P,p)::l,m,n,s,d,L,v,a,r=>by
  rw[zw,xZ,xK];refine vz (K p n s _ ?_);cases d with
  |here g x y=>
   exact Src.next_end M g x y λh' e N u=>r h' e (λb o B j q=>N b o (λz=>j (by rw[z];simp)) q) u
  |there g x y t=>
   refine ZEb L v g x y λh' C O I sz=>?_
   refine ZJL M K l _ (n+1) {s with heap:=h'} (t.at a I) C (by simpa using v) a.tail λH e h u=>?_
   refine r H e (λb o B j q=>?_) u;simp only[zw,zq,not_or]at j;exact h b o B j.2 (I b o B j.1 q)
theorem ZGw{z TI TO:xz}{l:List (Src×xz)}{R:Fin->xB->Prop}(hz:IsZip s.heap z TI TO .none)(M:Tp s.heap TI (l.map λq=>Value.ref q.2))(N:l≠[])
  (h:∀c,IsZip c z TI TO .ellipsis->qB z s.heap c->∀g:xD×Nat->Option Fin×PUnit->Sem (ForInStep (Option Fin×PUnit)),
   (∀(p:xz)(k:Nat)(s:xB)(I:ForInStep (Option Fin×PUnit)->xB->Prop),ZS prog w A E z TO p k (λs'=>I (.yield (vE,⟨⟩)) s') s->
    vY (vZ prog w) A (g (.ref p,k) (vE,⟨⟩)) I E s)->
   vY (vZ prog w) A (forIn ((l.map λq=>Value.ref q.2).zipIdx 0) (vE,⟨⟩) g) (λr s'=>r.1=vE/\∃us,Tp s'.heap TO us/\us.length<=1000000/\IsZip s'.heap z TI TO .ellipsis/\
    ∀h',IsZip h' z TI TO (vJ s'.heap.objs.size)->Tp h' s'.heap.objs.size us->h'.objs.size=s'.heap.objs.size+1->(∀b o,b≠z->s'.heap.get? b=vD o->h'.get? b=vD o)->R (.done (.ret (.ref s'.heap.objs.size))) {s' with heap:=h'}) E {s with heap:=c}):
  vY (vZ prog w) A (Builtin.«zip.__next__» ⟨[.ref z],[]⟩) R E s:=by
 refine vz (m:=field (.ref z) 2) (vv hz rfl (x:=.bool vG) rfl (vz (m:=field (.ref z) 3) (vv hz rfl (x:=.ref TI) rfl (vz (m:=seqItems? (.ref TI)) (wpAny_seqItems M rfl ?_)))));dsimp only;have C:(l.map λq=>Value.ref q.2).toArray.isEmpty=vG:=by cases l with
  |nil=>exact absurd rfl N
  |cons _ _=>simp
 rw[C];refine vz (m:=Builtin.SmallTypes.ownedTupleIsFree (.ref z)) ?_;unfold Builtin.SmallTypes.ownedTupleIsFree;refine vz (vv hz rfl (x:=.none) rfl (v6 ?_));simp only[if_true];refine vz (wpAny_rule (vz (vv hz rfl (x:=.ref TO) rfl (vz (v7 hz (by simp) λc t j=>?_)))));refine vz (v3 (h c t j _ λp k s I K=>?_) (λr s' W=>?_) λ_ _ x=>x)
 ·refine vz (wpAny_onRaise ?_);show vY _ _ (Builtin.SmallTypes.nextOf (.ref p) >>=λv=>pure (vD v)) _ _ s;refine vz (v3 K (λx X T=>v6 ?_) λ_ _ x=>x);obtain⟨Y,F,H,L⟩:=T;dsimp only;refine vz (wpAny_seqItems F rfl ?_);dsimp only;exact vz (ZN5 F H λh' S P=>vz (wpAny_letGo (v6 (L h' S P))))
 ·obtain⟨U,us,F,H,y,L⟩:=W;rw[U];dsimp only;refine vz (wpAny_seqItems F rfl ?_);dsimp only;refine vz (wpAny_newTuple ?_ (by show us.toArray.toList.length<=_;simpa using zA H size6));have f:z<s'.heap.objs.size:=zx y;refine vz (m:=Builtin.SmallTypes.ownedTupleHandOut _ _) ?_;unfold Builtin.SmallTypes.ownedTupleHandOut;have Q:us.toArray.toList.toArray=us.toArray:=by simp
  rw[Q];have J:IsZip (s'.heap.push {cls:=.type "tuple",data:=.seq us.toArray}) z TI TO .ellipsis:=zJ _ y;refine vz (v7 J (by simp) λu i d=>?_);refine v7 i (by simp) λB n e=>?_
  refine v6 (L B n ?_ ?_ λb o O q=>e.extBut _ _ O (d.extBut _ _ O (zJ _ q)))
  ·exact e.extBut _ _ (jk f) (d.extBut _ _ (jk f) (z0 _ rfl))
  ·rw[e.1];show u.objs.size=_;rw[d.1,qE]
theorem ZPp{z TI TO:xz}{i:Nat}{l:List (Src×xz)}{us W:List xD}{Q:Option xD->xB->Prop}(hz:IsZip s.heap z TI TO .none)(N:Tp s.heap TI (l.map λq=>Value.ref q.2))(T:Tp s.heap TO W)(n:W.length=l.length)(hsz:l.length<=1000000)(O:l≠[])
  (a:ApZ TO l) (C:z≠TO/\(∀q∈l,q.2≠z/\q.1.adr≠z)) (d:Drw s.heap i l us)
  (Y:∀h',IsZip h' z TI TO (vJ s.heap.objs.size)->Tp h' TO us->(∀q∈l,q.1.it h' q.2 (i+1))->Tp h' s.heap.objs.size us->h'.objs.size=s.heap.objs.size+1->
   (∀b o,b≠z->b≠TO->b∉l.map (·.2)->s.heap.get? b=vD o->h'.get? b=vD o)->Q (vD (.ref s.heap.objs.size)) {s with heap:=h'}):vY (vZ prog w) A (pyNext (.ref z)) Q E s:=by
 have Z:s.TypeIs (.ref z) "zip":=⟨_,hz,rfl⟩;unfold pyNext;refine vz (wpAny_attempt (vj (name:=Str.ofString "__next__") Z PySem.F.slot_zip_next (vx PySem.F.slot_zip_next Z PySem.F.entry_zip_next ?_ (PySem.F.args_zip_next_1 _))));refine ZGw hz N O λm B p body S=>?_
 have j:∀b o,b≠z->s.heap.get? b=vD o->m.get? b=vD o:=λb o S q=>p.extBut b o S q
 have L:Drw m i l us:=by
  have X:∀q∈l,q.2≠z/\q.1.adr≠z:=C.2;clear N n hsz O a C Y
  induction d with
  |nil=>exact .nil
  |cons U hv hx t ih=>exact .cons (U.at λo e=>j _ o (X _ zW).1 e) (hv.at λo e=>j _ o (X _ zW).2 e) hx (ih λq I=>X q (zZ _ I))
 refine ZDv (z:=z) (TO:=TO) (i:=i) S l us [] W {s with heap:=m} L (j _ _ (Ne.symm C.1) T) n (by simpa[n]using hsz) a.nd a.na a.np λf v H x y=>⟨rfl,us,v,by rw[d.length];exact hsz,?_,λg J P K M=>?_⟩
 ·refine x _ _ C.1 (λhm=>?_) B;obtain⟨q,I,e⟩:=zM.mp hm;exact(C.2 q I).1 e
 ·have e2:f.objs.size=s.heap.objs.size:=by rw[y];exact p.1
  refine⟨_,rfl,v6 ?_⟩;show Q (vD (.ref f.objs.size)) _;have r:IsZip g z TI TO (vJ f.objs.size):=J;have k:Tp g f.objs.size us:=P;have u:g.objs.size=f.objs.size+1:=K;have h:∀b o,b≠z->f.get? b=vD o->g.get? b=vD o:=M;rw[e2]at r k u⊢;exact Y g r (h _ _ (Ne.symm C.1) v) (λq I=>(H q I).at λo e=>h _ o (C.2 q I).1 e) k u λb o b1 b2 b3 q=>h b o b1 (x b o b2 b3 (j b o b1 q))
theorem ZLy{z TI TO:xz}{i:Nat}{l:List (Src×xz)}{S:List xD}{Q:Option xD->xB->Prop}(hh:A.handled=vE)(hz:IsZip s.heap z TI TO .none)(B:Tp s.heap TI (l.map λq=>Value.ref q.2))(O:Tp s.heap TO S)(k:S.length=l.length)(hsz:l.length<=1000000)(C:l≠[])
  (a:ApZ TO l) (H:z≠TO/\(∀q∈l,q.2≠z/\q.1.adr≠z)) (d:DrwE s.heap i l)
  (U:∀h',(∀b o,b≠z->b≠TO->b∉l.map (·.2)->s.heap.get? b=vD o->h'.get? b=vD o)->Q vE {s with heap:=h'}):vY (vZ prog w) A (pyNext (.ref z)) Q E s:=by
 have X:s.TypeIs (.ref z) "zip":=⟨_,hz,rfl⟩;unfold pyNext;refine vz (wpAny_attempt (vj (name:=Str.ofString "__next__") X PySem.F.slot_zip_next (vx PySem.F.slot_zip_next X PySem.F.entry_zip_next ?_ (PySem.F.args_zip_next_1 _))));refine ZGw hz B C λh r n Z N=>?_
 have f:∀b o,b≠z->s.heap.get? b=vD o->h.get? b=vD o:=λb o N q=>n.extBut b o N q
 have v:DrwE h i l:=by
  have I:∀q∈l,q.2≠z/\q.1.adr≠z:=H.2;clear B k hsz C a H U
  induction d with
  |here p L P=>exact .here (p.at λo e=>f _ o (I _ zW).1 e) (L.at λo e=>f _ o (I _ zW).2 e) P
  |there p L P t ih=>exact .there (p.at λo e=>f _ o (I _ zW).1 e) (L.at λo e=>f _ o (I _ zW).2 e) P (ih λq J=>I q (zZ _ J))
 refine ZJL (A:=A.in1) (z:=z) (TO:=TO) (i:=i) (show A.in1.handled=vE from hh) N l S 0 {s with heap:=h} v (f _ _ (Ne.symm H.1) O) (by rw[k];exact hsz) a λu e m st=>?_
 have j:IsZip u z TI TO .ellipsis:=by refine m _ _ H.1 (λhm=>?_) r;obtain⟨q,J,e⟩:=zM.mp hm;exact(H.2 q J).1 e
 obtain⟨o,K,W⟩:=st;have M:e≠z:=λx=>by subst x;rw[j]at K;cases K;simp at W
 refine v7 j (by simp) λy _ g=>?_
 refine vz (wpAny_isInstance (T:="StopIteration") (b:=vF) ⟨o,g.extBut _ _ M K,W⟩ isSubtype_stop (v6 ?_));exact U y λb o Y b2 b3 q=>g.extBut _ _ Y (m b o b2 b3 (f b o Y q))
theorem ZDD:∀(ls:List Src)(pre:Array xD)(s:xB){Q:Array xD->xB->Prop},(∀c∈ls,∃xs,c.val s.heap xs)->
  (∀h',(∀q∈ls.zipIdx s.heap.objs.size,q.1.it h' q.2 0)->h'.objs.size=s.heap.objs.size+ls.length->(∀b o,s.heap.get? b=vD o->h'.get? b=vD o)->Q (pre++((ls.zipIdx s.heap.objs.size).map λq=>Value.ref q.2).toArray) {s with heap:=h'})->
  vY (vZ prog w) A (forIn (ls.map λc=>Value.ref c.adr) pre λx r=>do let v<-holding r.toList (pyIter x);pure (ForInStep.yield (r.push v))) Q E s
 |[],pre,s,Q,l,h=>by rw[jM,List.forIn_nil];refine v6 ?_;have:=h s.heap (λq d=>by cases d) rfl (λ_ _ e=>e);simpa using this
 | c::ls,pre,s,Q,l,h=>by
  rw[zw,xK];obtain⟨xs,y⟩:=l c zW;refine vz (vz (vk (Src.iter y (v6 ?_))));dsimp only;have u:(s.heap.push {cls:=.type c.itn,data:=.fields #[.ref c.adr,.int 0 0]}).objs.size=s.heap.objs.size+1:=qE ..;refine ZDD ls (pre.push (.ref s.heap.objs.size)) {s with heap:=s.heap.push {cls:=.type c.itn,data:=.fields #[.ref c.adr,.int 0 0]}} (λm p=>?_) λh' g k j=>?_
  ·obtain⟨n,t⟩:=l m (zZ _ p);exact⟨n,t.at λo e=>zJ _ e⟩
  ·dsimp only at g k j⊢;rw[u]at g k⊢;have:=h h' (λq d=>?_) (by rw[k,zU];lia) (λb o e=>j b o (zJ _ e))
   ·rw[xZ,zw]at this;simpa using this
   ·rw[xZ]at d;rcases zq.mp d with rfl|d
    ·exact⟨_,j _ _ (z0 _ rfl),rfl,rfl⟩
    ·exact g q d
theorem ZLS{ls:List Src}{Q:xD->xB->Prop}(r:∀c∈ls,∃xs,c.val s.heap xs)(B:ls.length<=1000000)
  (u:checkTypeCall "zip" ⟨ls.map λc=>Value.ref c.adr,[]⟩=pure ()) (y:xO "zip.__new__" ⟨.type "zip"::ls.map λc=>Value.ref c.adr,[]⟩=pure ()) (hok:∀obj,argsOk "object.__init__" ⟨obj::ls.map λc=>Value.ref c.adr,[]⟩)
  (h:∀h' n,n=s.heap.objs.size+ls.length->IsZip h' (n+2) n (n+1) .none->Tp h' n ((ls.zipIdx s.heap.objs.size).map λq=>Value.ref q.2)->Tp h' (n+1) (ls.map λ_=>Value.none)->(∀q∈ls.zipIdx s.heap.objs.size,q.1.it h' q.2 0)->
   (∀b o,s.heap.get? b=vD o->h'.get? b=vD o)->Q (.ref (n+2)) {s with heap:=h'}):
  vY (vZ prog w) A (call (.type "zip") (ls.map λc=>Value.ref c.adr)) Q E s:=by
 have g:Meets (Builtin.«zip.__new__» ⟨.type "zip"::ls.map λc=>Value.ref c.adr,[]⟩) (λ_ R s=>(∀c∈ls,∃xs,c.val s.heap xs)/\
   ∀h' n,n=s.heap.objs.size+ls.length->IsZip h' (n+2) n (n+1) .none->Tp h' n ((ls.zipIdx s.heap.objs.size).map λq=>Value.ref q.2)->Tp h' (n+1) (ls.map λ_=>Value.none)->(∀q∈ls.zipIdx s.heap.objs.size,q.1.it h' q.2 0)->
    (∀b o,s.heap.get? b=vD o->h'.get? b=vD o)->R (.ok (.ret (.ref (n+2)))) {s with heap:=h'}):=
  .of_wp λprog w A R s L=>by
   obtain⟨r,J⟩:=L;have C:=sub_zip;unfold Builtin.«zip.__new__» Builtin.SmallTypes.newClass
   wp_walk
   refine ZDD ls #[] s r λj x f p=>v6 ?_
   have I:(#[]++((ls.zipIdx s.heap.objs.size).map λq=>Value.ref q.2).toArray:Array xD).toList=(ls.zipIdx s.heap.objs.size).map λq=>Value.ref q.2:=by simp
   rw[I];have d:((ls.zipIdx s.heap.objs.size).map λq=>Value.ref q.2).length=ls.length:=by simp
   refine vz (wpAny_newTuple ?_ (by rw[d];exact zA B size6));refine vz (wpAny_newTuple ?_ (by rw[qY,d];exact zA B size6));refine vz ?_;unfold Builtin.SmallTypes.newRecord;dsimp only;refine v4 (v6 ⟨_,rfl,?_⟩) (by simp[sizeOk,Builtin.SmallTypes.ownedTupleFields,vX]);generalize O:s.heap.objs.size+ls.length=n at*
   have M:((ls.zipIdx s.heap.objs.size).map λq=>Value.ref q.2).map (λ_=>Value.none)=ls.map λ_=>Value.none:=by refine qM (by simp) λi j N=>by simp
   dsimp only;rw[M];generalize((ls.zipIdx s.heap.objs.size).map λq=>Value.ref q.2)=k at*;generalize(ls.map λ_=>Value.none)=m at*;have l:(j.push {cls:=.type "tuple",data:=.seq k.toArray}).objs.size=n+1:=by rw[qE,f]
   have z:((j.push {cls:=.type "tuple",data:=.seq k.toArray}).push {cls:=.type "tuple",data:=.seq m.toArray}).objs.size=n+2:=by rw[qE,l]
   show R (.ok (.ret (.ref ((j.push {cls:=.type "tuple",data:=.seq k.toArray}).push {cls:=.type "tuple",data:=.seq m.toArray}).objs.size))) _;rw[z];refine J _ n rfl ?_ (zJ _ (zJ _ (by rw[<-f];exact z0 _ rfl))) (zJ _ (by rw[<-l];exact z0 _ rfl)) (λq H=>(x q H).at λo e=>zJ _ (zJ _ (zJ _ e))) λb o e=>zJ _ (zJ _ (zJ _ (p b o e)))
   have:=z0 ((j.push {cls:=.type "tuple",data:=.seq k.toArray}).push {cls:=.type "tuple",data:=.seq m.toArray}) (o:={cls:=.type "zip",data:=.fields #[.none,.bool vG,.bool vG,.ref j.objs.size,.ref (j.push {cls:=.type "tuple",data:=.seq k.toArray}).objs.size]}) rfl;rw[z]at this;rw[f,l]at this;show _=_;rw[f,l];exact this
 refine callType_new PySem.F.called_zip (by decide) u y hok PySem.F.entry_zip_new g ⟨r,λh' n K f v t x p=>⟨⟨_,f,rfl⟩,h h' n K f v t x p⟩⟩
end
end _D
namespace _D
open PySem PySem.W PyProof.Rows
section
def Br(lt:Nat->Nat->Bool){α:Type}:KasT α->α
 |.ret a=>a
 |.ask i j k=>Br lt (k (lt i j))
theorem Ma(lt:Nat->Nat->Bool){a b:Type}(f:a->KasT b):∀t:KasT a,Br lt (t.bind f)=Br lt (f (Br lt t))
 |.ret _=>rfl
 |.ask i j k=>Ma lt f (k (lt i j))
structure WO (lt:Nat->Nat->Bool):Prop where
 asy:∀i j,lt i j=vF->lt j i=vG
 neg:∀i j k,lt i k=vF->lt i j=vF∨lt j k=vF
variable{lt:Nat->Nat->Bool}
theorem WO.refl(o:WO lt)(i:Nat):lt i i=vG:=by
 cases h:lt i i
 ·rfl
 ·have:=o.asy i i h;rw[h]at this;exact this
theorem WO.tr(o:WO lt)(a:lt j i=vG)(b:lt k j=vG):lt k i=vG:=by
 cases h:lt k i
 ·rfl
 ·rcases o.neg k j i h with z|z
  ·rw[z]at b;cases b
  ·rw[z]at a;cases a
noncomputable abbrev pt(p:Array Nat)(j:Nat):Nat:=p.getD j 0
theorem Mq(p:Array Nat)(j:Nat):pt p j=(p[j]?).getD 0:=by simp[pt]
def Srt(lt:Nat->Nat->Bool)(p:Array Nat)(k:Nat):Prop:=∀i j,i<=j->j<k->lt (pt p j) (pt p i)=vG
def NIn(lt:Nat->Nat->Bool)(p:Array Nat)(k:Nat):Prop:=∀i j,i<=j->j<k->lt (pt p i) (pt p j)=vG
theorem Hi(a:j<=p.size)(k:Nat):pt (vB p i j) k=if i<=k/\k<j then pt p (i+j-1-k)else pt p k:=by
 rw[Mq,vB,getElem?_mirror_all a]
 split <;> exact(Mq ..).symm
theorem ZO4(c:src<p.size)(e:d<=src)(k:Nat):pt (bubble p src d) k=if k=src-d then pt p src else if src-d<k/\k<=src then pt p (k-1)else pt p k:=by
 rw[Mq,getElem?_bubble c d e];by_cases a:k=src-d
 ·rw[if_pos a,if_pos a];exact(Mq ..).symm
 ·rw[if_neg a,if_neg a];by_cases b:src-d<k/\k<=src
  ·rw[if_pos b,if_pos b];exact(Mq ..).symm
  ·rw[if_neg b,if_neg b];exact(Mq ..).symm
theorem ZAp(o:WO lt)(p:Array Nat):∀f n,1<=n->Srt lt p n->∀m,Br lt (kas_asc p f n)=m->n<=m/\m<=n+f/\Srt lt p m/\(m<n+f->lt (pt p m) (pt p (m-1))=vF)
 |0,n,t,h,m,e=>by have g:n=m:=e;subst g;exact⟨zK _,zK _,h,λz=>absurd z (qW _)⟩
 | f + 1,n,t,h,m,e=>by
  unfold kas_asc at e;have l:Br lt (if lt (pt p n) (pt p (n-1))=vF then KasT.ret n else kas_asc p f (n+1))=m:=e;cases k:lt (pt p n) (pt p (n-1))with
  |true=>
   rw[k,if_pos rfl]at l;have g:n=m:=l;subst g;exact⟨zK _,by lia,h,λ_=>k⟩
  | false=>
   rw[k,if_neg (by simp)]at l;have s:Srt lt p (n+1):=λi j q u=>by
    by_cases e:j<n
    ·exact h i j q e
    ·have g:j=n:=by lia
     subst g;by_cases r:i=j
     ·rw[r];exact o.refl _
     ·exact o.tr (h i (j-1) (by lia) (by lia)) k
   obtain⟨a,b,c,d⟩:=ZAp o p f (n+1) (by lia) s m l;exact⟨by lia,by lia,c,λz=>d (by lia)⟩
structure Dn (lt:Nat->Nat->Bool) (p:Array Nat) (n q:Nat):Prop where
 ni:NIn lt p n
 al:∀i j,n-(q+1)<=i->i<n->n-(q+1)<=j->j<n->lt (pt p i) (pt p j)=vG
 qn:q+1<=n
theorem NIn.rev(d:Dn lt p n q)(c:n<=p.size):NIn lt (vB p (n-(q+1)) n) n:=λi j a b=>by
 have:=d.qn;rw[Hi c,Hi c];by_cases f:n-(q+1)<=i
 ·rw[if_pos ⟨f,by lia⟩,if_pos ⟨by lia,b⟩];exact d.al _ _ (by lia) (by lia) (by lia) (by lia)
 ·rw[if_neg (by lia)];by_cases e:n-(q+1)<=j
  ·rw[if_pos ⟨e,b⟩];exact d.ni _ _ (by lia) (by lia)
  ·rw[if_neg (by lia)];exact d.ni i j a b
theorem Rk(o:WO lt):∀f(p:Array Nat)n q,n+f<=p.size->Dn lt p n q->∀r,Br lt (kas_desc f p n q)=r->r.1.Perm p/\r.2.1<=n+f/\n<=r.2.1/\Dn lt r.1 r.2.1 r.2.2
 |0,p,n,q,hz,d,r,e=>by have e':(p,n,q)=r:=e;subst e';exact⟨.refl _,zK _,zK _,d⟩
 | f + 1,p,n,q,hz,d,r,e=>by
  have qn:=d.qn;unfold kas_desc at e;have e1:Br lt (if lt (pt p n) (pt p (n-1))=vF then(if q>0 then kas_desc f (vB p (n-(q+1)) n) (n+1) 0 else kas_desc f p (n+1) 0)
   else .ask (p.getD (n-1) 0) (p.getD n 0) λd=>if d=vF then .ret (p,n,q)else kas_desc f p (n+1) (q+1))=r:=e
  clear e;cases hc:lt (pt p n) (pt p (n-1))with
  | true=>
   rw [hc,if_pos rfl]at e1;have ext:∀p':Array Nat,NIn lt p' n->pt p' n=pt p n->(∀k,k<n->lt (pt p n) (pt p' k)=vF∨k<n)->lt (pt p' (n-1)) (pt p' n)=vG->Dn lt p' (n+1) 0:=λp' hni _ _ hl=>by
    refine⟨λi j hij hj=>?_,λi j h1 h2 h3 h4=>?_,by lia⟩
    ·by_cases e:j<n
     ·exact hni i j hij e
     ·have e':j=n:=by lia
      subst e';by_cases e2:i=j
      ·rw[e2];exact o.refl _
      ·exact o.tr hl (hni i (j-1) (by lia) (by lia))
    ·have e1:i=n:=by lia
     have e2:j=n:=by lia
     rw[e1,e2];exact o.refl _
   by_cases hq:q>0
   ·rw[if_pos hq]at e1;have hl:lt (pt (vB p (n-(q+1)) n) (n-1)) (pt (vB p (n-(q+1)) n) n)=vG:=by
     rw[Hi (by lia),Hi (by lia),if_pos (by lia),if_neg (by lia)];cases hx:lt (pt p (n-(q+1)+n-1-(n-1))) (pt p n)
     ·rfl
     ·rcases o.neg _ (pt p (n-1)) _ hx with z|z
      ·rw[d.al _ _ (by lia) (by lia) (by lia) (by lia)]at z;cases z
      ·rw[o.asy _ _ hc]at z;cases z
    obtain⟨a,b,c,dd⟩:=Rk o f _ (n+1) 0 (by rw[vB,mirror_size];lia) (ext _ (NIn.rev d (by lia)) (by rw[Hi (by lia),if_neg (by lia)]) (λk hk=>.inr hk) hl) r e1;exact⟨a.trans (mirror_perm ..),by lia,by lia,dd⟩
   ·rw[if_neg hq]at e1;obtain⟨a,b,c,dd⟩:=Rk o f p (n+1) 0 (by lia) (ext p d.ni rfl (λk hk=>.inr hk) (o.asy _ _ hc)) r e1;exact⟨a,by lia,by lia,dd⟩
  | false=>
   rw[hc,if_neg (by simp)]at e1;have e2:Br lt (if lt (pt p (n-1)) (pt p n)=vF then .ret (p,n,q)else kas_desc f p (n+1) (q+1))=r:=e1;cases hd:lt (pt p (n-1)) (pt p n)with
   |true=>
    rw[hd,if_pos rfl]at e2;have e3:(p,n,q)=r:=e2;subst e3;exact⟨.refl _,by show n<=_;lia,zK _,d⟩
   | false=>
    rw[hd,if_neg (by simp)]at e2;have al':∀i,n-(q+1)<=i->i<n+1->lt (pt p i) (pt p n)=vG/\lt (pt p n) (pt p i)=vG:=λi h1 h2=>by
     by_cases e:i=n
     ·rw[e];exact⟨o.refl _,o.refl _⟩
     ·exact⟨o.tr hd (d.al i (n-1) h1 (by lia) (by lia) (by lia)),o.tr (d.al (n-1) i (by lia) (by lia) h1 (by lia)) hc⟩
    obtain⟨a,b,c,dd⟩:=Rk o f p (n+1) (q+1) (by lia) ⟨λi j hij hj=>by
     by_cases e:j<n
     ·exact d.ni i j hij e
     ·have e':j=n:=by lia
      subst e';by_cases e2:i=j
      ·rw[e2];exact o.refl _
      ·exact o.tr hd (d.ni i (j-1) (by lia) (by lia)),λi j h1 h2 h3 h4=>by
     by_cases ei:i=n
     ·rw[ei];exact(al' j (by lia) h4).2
     ·by_cases ej:j=n
      ·rw[ej];exact(al' i (by lia) h2).1
      ·exact d.al i j (by lia) (by lia) (by lia) (by lia),by lia⟩ r e2
    exact⟨a,by lia,by lia,dd⟩
theorem ZGe(o:WO lt)(k:1<=n)(l:n<=nrem)(hz:nrem<=p.size)(d:NIn lt p n):∀r,Br lt (kas_tail3 n nrem p)=r->r.2.Perm p/\r.1<=nrem/\1<=r.1/\Srt lt r.2 r.1:=by
 intro r e;unfold kas_tail3 at e;rw[Ma]at e;have f:Srt lt (vB p 0 n) n:=λi j h m=>by rw[Hi (by lia),Hi (by lia),if_pos (by lia),if_pos (by lia)];exact d _ _ (by lia) (by lia)
 obtain⟨a,b,c,_⟩:=ZAp o (vB p 0 n) (nrem-n) n k f _ rfl;have g:(Br lt (kas_asc (vB p 0 n) (nrem-n) n),vB p 0 n)=r:=e;subst g;exact⟨mirror_perm ..,by show Br lt (kas_asc (vB p 0 n) (nrem-n) n)<=nrem;lia,by show 1<=Br lt (kas_asc (vB p 0 n) (nrem-n) n);lia,c⟩
theorem ZId(o:WO lt)(z:1<=n)(w:n<nrem)(hz:nrem<=p.size)(m:∀i j,i<n->j<n->lt (pt p i) (pt p j)=vG)(q:lt (pt p n) (pt p (n-1))=vF):
  ∀r,Br lt (kas_descPart n nrem p)=r->r.2.Perm p/\r.1<=nrem/\1<=r.1/\Srt lt r.2 r.1:=by
 intro r e;unfold kas_descPart at e;rw[Ma]at e;have v:Dn lt p (n+1) 0:=⟨λi j t A=>by
  by_cases e:j<n
  ·exact m i j (by lia) e
  ·have s:j=n:=by lia
   subst s;by_cases h:i=j
   ·rw[h];exact o.refl _
   ·exact o.tr (o.asy _ _ q) (m i (j-1) (by lia) (by lia)),λi j _ _ _ _=>by
  have u:i=n:=by lia
  have h:j=n:=by lia
  rw[u,h];exact o.refl _,by lia⟩
 obtain⟨a,b,c,d⟩:=Rk o (nrem-(n+1)) p (n+1) 0 (by lia) v _ rfl
 revert a b c d e
 generalize Br lt (kas_desc (nrem-(n+1)) p (n+1) 0)=x;intro e a b c d;have y:x.1.size=p.size:=a.size_eq;split at e
 ·obtain⟨k,l,g,f⟩:=ZGe o (by lia) (by lia) (by rw[vB,mirror_size];lia) (NIn.rev d (by lia)) r e;exact⟨(k.trans (mirror_perm ..)).trans a,l,g,f⟩
 ·obtain⟨k,l,g,f⟩:=ZGe o (by lia) (by lia) (by lia) d.ni r e;exact⟨k.trans a,l,g,f⟩
theorem ZPJ(o:WO lt)(C:1<=nrem)(hz:nrem<=p.size):∀r,Br lt (kas_count nrem p)=r->r.2.Perm p/\r.1<=nrem/\1<=r.1/\Srt lt r.2 r.1:=by
 intro r e;unfold kas_count at e;rw[Ma]at e;obtain⟨a,b,c,d⟩:=ZAp o p (nrem-1) 1 (zK _) (λi j y q=>by
  have h:i=0:=by lia
  have g:j=0:=by lia
  rw[h,g];exact o.refl _) _ rfl
 revert a b c d e
 generalize Br lt (kas_asc p (nrem-1) 1)=n;intro e a b c d;split at e
 ·have f:(n,p)=r:=e;subst f;exact⟨.refl _,by show n<=nrem;lia,a,c⟩
 ·rename_i l;have t:n<nrem:=by
   have:n≠nrem:=by simpa using l
   lia
  have s:=d (by lia);split at e
  ·rename_i A;have f:Br lt (if lt (pt p 0) (pt p (n-1))=vF then .ret (n,p)else kas_descPart n nrem (vB p 0 n))=r:=e;cases k:lt (pt p 0) (pt p (n-1))with
   |true=>
    rw[k,if_pos rfl]at f;have g:(n,p)=r:=f;subst g;exact⟨.refl _,by show n<=nrem;lia,a,c⟩
   | false=>
    rw[k,if_neg (by simp)]at f;have u:∀i j,i<n->j<n->lt (pt p i) (pt p j)=vG:=λi j m q=>o.tr (c j (n-1) (by lia) (by lia) |> λz=>z) (o.tr k (c 0 i (by lia) m) |> λz=>by exact z)
    obtain⟨x,B,w,v⟩:=ZId o (p:=vB p 0 n) a t (by rw[vB,mirror_size];lia) (λi j m q=>by
     rw[Hi (by lia),Hi (by lia),if_pos (by lia),if_pos (by lia)];exact u _ _ (by lia) (by lia)) (by
     rw[Hi (by lia),Hi (by lia),if_neg (by lia),if_pos (by lia)];rcases o.neg _ (pt p (0+n-1-(n-1))) _ s with z|z
     ·exact z
     ·rw[u _ _ (by lia) (by lia)]at z;cases z) r f
    exact⟨x.trans (mirror_perm ..),B,w,v⟩
  ·have h:n=1:=by lia
   subst h;exact ZId o (zK _) t hz (λi j m q=>by
    have h:i=0:=by lia
    have g:j=0:=by lia
    rw[h,g];exact o.refl _) s r e
theorem Xc(o:WO lt)(p:Array Nat)(k:Nat)(c:Srt lt p k):∀f l r,r-l<=f->l<=r->r<=k->(∀i,i<l->lt (pt p k) (pt p i)=vG)->(∀i,r<=i->i<k->lt (pt p k) (pt p i)=vF)->
  ∀m,Br lt (kas_place p k f l r)=m->m<=k/\(∀i,i<m->lt (pt p k) (pt p i)=vG)/\(∀i,m<=i->i<k->lt (pt p k) (pt p i)=vF)
 |0,l,r,s,j,n,h,g,m,e=>by have a:l=m:=e;subst a;exact⟨by lia,h,λi d hk=>g i (by lia) hk⟩
 | f+1,l,r,s,j,n,h,g,m,e=>by
  unfold kas_place at e;split at e
  ·have a:l=m:=e;subst a;exact⟨by lia,h,λi d hk=>g i (by lia) hk⟩
  ·rename_i q;have a:Br lt (if lt (pt p k) (pt p ((l+r)/2))=vF then kas_place p k f l ((l+r)/2)else kas_place p k f ((l+r)/2+1) r)=m:=e;cases b:lt (pt p k) (pt p ((l+r)/2))with
   |true=>
    rw[b,if_pos rfl]at a;refine Xc o p k c f l ((l+r)/2) (by lia) (by lia) (by lia) h (λi d hk=>?_) m a;rcases o.neg _ (pt p i) _ b with z|z
    ·exact z
    ·rw[c _ i d hk]at z;cases z
   |false=>
    rw[b,if_neg (by simp)]at a;exact Xc o p k c f ((l+r)/2+1) r (by lia) (by lia) n (λi d=>o.tr (c i ((l+r)/2) (by lia) (by lia)) b) g m a
theorem ZIx(o:WO lt):∀f(p:Array Nat)k,k+f=p.size->Srt lt p k->(Br lt (kas_bin f p k)).Perm p/\Srt lt (Br lt (kas_bin f p k)) p.size
 |0,p,k,u,c=>⟨.refl _,by
  have:k=p.size:=by lia
  rw[<-this];exact c⟩
 | f + 1,p,k,u,c=>by
  unfold kas_bin;rw[Ma];obtain⟨n,l,g⟩:=Xc o p k c k 0 k (by lia) (by lia) (zK _) (λi r=>by lia) (λi r hk=>by lia) _ rfl
  revert n l g
  generalize Br lt (kas_place p k k 0 k)=m;intro n l g;have sz:(bubble p k (k-m)).size=p.size:=bubble_size ..;have hk:k<p.size:=by lia
  have e:∀j,pt (bubble p k (k-m)) j=if j=m then pt p k else if m<j/\j<=k then pt p (j-1)else pt p j:=λj=>by
   rw[ZO4 hk (by lia)];have:k-(k-m)=m:=by lia
   rw[this]
  obtain⟨a,b⟩:=ZIx o f (bubble p k (k-m)) (k+1) (by lia) (λi j h v=>by
   rw[e i,e j];by_cases q:j=m
   ·rw[if_pos q];by_cases d:i=m
    ·rw[if_pos d];exact o.refl _
    ·rw[if_neg d,if_neg (by lia)];exact l i (by lia)
   ·rw[if_neg q];by_cases t:m<j
    ·rw[if_pos ⟨t,by lia⟩];by_cases d:i=m
     ·rw[if_pos d];exact o.asy _ _ (g _ (by lia) (by lia))
     ·rw[if_neg d];by_cases s:m<i
      ·rw[if_pos ⟨s,by lia⟩];exact c _ _ (by lia) (by lia)
      ·rw[if_neg (by lia)];exact c _ _ (by lia) (by lia)
    ·rw[if_neg (by lia),if_neg (by lia),if_neg (by lia)];exact c i j h (by lia))
  rw[sz]at b;exact⟨a.trans (bubble_perm ..),b⟩
theorem ZEh(o:WO lt)(h:1<=n):(Br lt (kas_sort n)).toList.Perm (zQ n)/\Srt lt (Br lt (kas_sort n)) n:=by
 unfold kas_sort;rw[Ma];obtain⟨a,b,c,d⟩:=ZPJ o (p:=(zQ n).toArray) (nrem:=n) h (by simp) _ rfl
 revert a b c d
 generalize Br lt (kas_count n (zQ n).toArray)=x;intro a b c d;have i:x.2.size=n:=by rw[a.size_eq];simp
 split
 ·have e:max x.1 1=x.1:=by lia
  rw[e];obtain⟨g,f⟩:=ZIx o (n-x.1) x.2 x.1 (by lia) d;rw[i]at f;exact⟨by simpa using(g.trans a).toList,f⟩
 ·have e:x.1=n:=by lia
  rw[e]at d;exact⟨by simpa[Br]using a.toList,d⟩
end
end _D
namespace _D
open PySem PySem.Spec _L
open PyProof.Rows hiding St
variable{vC:List (xz×Obj)}{elts:List xw}
section
variable{X:Cx}{vC:List (xz×Obj)}{σ:St}{H:Hp}{s:xB}{h':Heap}
theorem Yb{t':Nat}{fp:List xz}(I:Inv X vC σ H s)(k:∀b o,b∉fp->s.heap.get? b=vD o->h'.get? b=vD o)(g:∀b∈fp,FpOk X vC H b):Inv X vC σ H {s with heap:=h',toks:=t'}:=by
 have f:∀b u,H b=vD u->b∉fp:=λb u e z=>by rw[(g b z).1]at e;cases e
 refine I.step (g':=s.gens) (d':=s.drawn) (ch:=fp) (λb t=>?_) (λb o _ _ a e _=>k b o a e) (λb o _ _ a e _=>⟨o.slots,k b o a e⟩) (λ_ _ _ _ n=>n)
  (λb o a e=>⟨o,k b o a e⟩) (λ_ _ e=>e) (λ_ _ _ e=>e) (λb B e=>⟨#[],by rw[e];simp⟩) (λm j=>?_) (λb u e=>?_) I.bare
 ·obtain⟨C,l,F,y,i,w⟩:=g b t;exact⟨y,l,i,w⟩
 ·obtain⟨o,A,p,x,r⟩:=j;exact⟨o,A,p,k _ o (λz=>(g _ z).2.1 rfl) x,r⟩
 ·refine(I.hok b u e).stay (λc v a q=>k c v ?_ q) (λ_ q=>q) λ_ _ q=>q
  rcases a with z|z
  ·rw[z];exact f b u e
  ·exact f c _ z
theorem ZDz{t':Nat}{fp:List xz}{p:xz}{xs:List V}{its:List xD}(I:Inv X vC σ H s)(k:∀b o,b∉fp->s.heap.get? b=vD o->h'.get? b=vD o)(d:∀b∈fp,FpOk X vC H b)(hp:s.heap.objs.size<=p)
  (hz:xs.length<=sizeLine) (r:Vals xs its) (f:Tp h' p its):Inv X vC σ (upd H p (.tup xs)) {s with heap:=h',toks:=t'}:=by
 obtain⟨g,h,j,l,i,e⟩:=I.Hx (H':=H) hp (I.hok.fresh hp);exact ZAm (Yb I k d) g (zA I.sz hp) h i e ⟨hz,its,r,_,f,rfl,_,rfl⟩
end
def Src.sq(K:PySem.W.Frag)(H:Hp)(xs:List V):Src->Prop
 |.l a=>SqL K H a xs
 |.t a=>SqT K H a xs
variable{ls:List Src}
theorem Src.sq.val{X:Cx}{d:St}{H:Hp}{s:xB}{c:Src}{xs:List V}(I:Inv X vC d H s)(h:c.sq X.K H xs):∃its:List xD,Vals xs its/\c.val s.heap its.toArray/\xs.length<=sizeLine:=by
 cases c with
 |l a=>obtain⟨its,r,p,b⟩:=I.list h;exact⟨its,r,p.isList,b⟩
 |t a=>obtain⟨its,r,p,b⟩:=I.tuple h;exact⟨its,r,p,b⟩
theorem Src.sq.inj{X:Cx}{c:St}{H:Hp}{s:xB}{b:Src}{xs ys:List V}(I:Inv X vC c H s)(h:b.sq X.K H xs)(h':b.sq X.K H ys):xs=ys:=by
 cases b with
 |l a=>exact I.Vm h h'
 |t a=>exact I.Yz h h'
def Ite(K:PySem.W.Frag)(sr:Src)(n:Int):It:=
 ⟨λi H=>∃xs x,sr.sq K H xs/\xs[i]?=vD x,λi H v H'=>∃p x,v=.ref p/\H p=vE/\H'=upd H p (.tup [.int (n+i),x])/\∀xs,sr.sq K H xs->xs[i]?=vD x,λi H=>∃xs,sr.sq K H xs/\xs.length<=i⟩
theorem ZGH{P:x0}{w:xE}{K:PySem.W.Frag}{x1}{pos:Pos}(Z:Src)(n:Int)(e it:xz)(F:e≠it):
  Turn P w K (.Tuple elts x1 pos) (Ite K Z n) [e,it] e (λi h=>∃g old,En h e it .none (n+i) g old/\Gv (n+i) g/\Z.it h it i) where
 mem:=by simp
 obj:=λi h f b l=>by
  obtain⟨g,old,d,_,o,ho,_,Y⟩:=f;rcases(show b=e∨b=it by simpa using l)with rfl|rfl
  ·exact⟨_,d,λv z=>by cases z⟩
  ·exact⟨o,ho,λv z=>by rw[Y]at z;cases z⟩
 keep:=λi h h' f k=>by obtain⟨g,old,d,A,p⟩:=f;exact⟨g,old,k e (by simp) _ d,A,p.at λo q=>k it (by simp) o q⟩
 item:=by
  intro X S hw O U i j s σ H E I L f A;subst S hw O;obtain⟨xs,x,J,Q⟩:=A;obtain⟨B,rv,N,hz⟩:=Src.sq.val I J;obtain⟨u,hu,ru⟩:=rv.get Q;obtain⟨g,old,d,y,p⟩:=f;refine ZPV d y p N (x:=u) (by simpa using hu) F λh1 t tk e1 i1 t1 z1 k1=>⟨_,rfl,?_⟩
  refine ZRN (s:={s with heap:=h1,toks:=tk}) e1 λh2 e2 M=>?_
  have C:s.heap.objs.size≠e:=jk (zx d);have I2:Inv X j σ (upd H s.heap.objs.size (.tup [.int (n+i),x])) {s with heap:=h2,toks:=tk}:=
   ZDz (fp:=[e,it]) (its:=[.int (n+i) t,u]) I (λb o l q=>by
    have c:b≠e/\b≠it:=by simpa using l
    exact M.extBut b o c.1 (k1 b o c.1 c.2 q)) L (zK _) (by show 2<=sizeLine;decide) (.cons ⟨t,rfl⟩ (.cons ru .nil)) (M.extBut _ _ C t1)
  have T:H s.heap.objs.size=vE:=I.hok.fresh (zK _);refine⟨.ref s.heap.objs.size,_,I2,rfl,⟨_,x,rfl,T,rfl,λys hy=>by rw[Src.sq.inj I hy J];exact Q⟩,⟨.none,u,?_,.inl rfl,i1.at λo q=>M.extBut _ _ (Ne.symm F) q⟩,λb l=>?_⟩
  ·have ee:n+(i:Int)+1=n+((i+1:Nat):Int):=by lia
   rw[<-ee];exact e2
  ·have c:b=e∨b=it:=by simpa using l
   rw[Al (λz=>?_)]
   ·exact(L b l).1
   ·rcases c with rfl|rfl
    ·exact C z.symm
    ·have r:=Src.it.lt p;rw[z]at r;exact qW _ r
 done:=by
  intro X S hw O U i j s σ H E I L f A;subst S hw O;obtain⟨xs,J,Q⟩:=A;obtain⟨B,rv,N,hz⟩:=Src.sq.val I J;obtain⟨g,old,d,y,p⟩:=f;have hl:=rv.length;refine ZLj (I.ok.hd U) d p N (by simp;lia) λh1 xb=>⟨rfl,?_⟩
  exact Yb (t':=s.toks) (fp:=[e,it]) I (λb o l q=>xb b o (λz=>l (by simp[z])) q) L
 self:=λ_ _ _ _ _ f h=>by obtain⟨g,old,d,_⟩:=f;exact ZAq d h
section
variable{X:Cx}{E:XK}
theorem ZUl{prog:x0}{w:xE}{A:xj}{E:xD->xB->Prop}{s:xB}{sr:Src}{xs:Array xD}{Q:xD->xB->Prop}(hv:sr.val s.heap xs)
  (h:∀h',En h' (s.heap.objs.size+1) s.heap.objs.size .none 0 .none .none->sr.it h' s.heap.objs.size 0->(∀b o,s.heap.get? b=vD o->h'.get? b=vD o)->Q (.ref (s.heap.objs.size+1)) {s with heap:=h'}):
  vY (vZ prog w) A (call (.type "enumerate") [.ref sr.adr]) Q E s:=by
 have g:Meets (Builtin.«enumerate.__new__» ⟨[.type "enumerate",.ref sr.adr],[]⟩) (λ_ R s=>sr.val s.heap xs/\
   R (.ok (.ret (.ref (s.heap.push {cls:=.type sr.itn,data:=.fields #[.ref sr.adr,.int 0 0]}).objs.size)))
    {s with heap:=(s.heap.push {cls:=.type sr.itn,data:=.fields #[.ref sr.adr,.int 0 0]}).push {cls:=.type "enumerate",data:=.fields #[.none,.bool vG,.ref s.heap.objs.size,vJ 0,.none,.none]}}):=
  .of_wp λprog w A R s h=>by
   obtain⟨hp,g,d,tk,os⟩:=s;obtain⟨hl,h⟩:=h;have hsub:=sub_enumerate;have hL:sr.val (Shared.heap ⟨hp,g,d,tk,os⟩) xs:=hl
   wp_walk
   refine wpAny_stack_any λst=>v6 ?_
   split
   ·rename_i c _ _ _ _ _
    cases(c==Value.type "enumerate")<;>(wp_walk using Src.iter hL;exact⟨_,rfl,h⟩)
   ·wp_walk using Src.iter hL
    exact⟨_,rfl,h⟩
 refine callType_new PySem.F.called_enumerate (by decide) (PySem.F.typeCall_enumerate_1 _) (PySem.F.newCall_enumerate_1 _) (λobj=>PySem.F.args_object_init_2 obj _) PySem.F.entry_enumerate_new g ⟨hv,?_⟩;have hz:(s.heap.push {cls:=.type sr.itn,data:=.fields #[.ref sr.adr,.int 0 0]}).objs.size=s.heap.objs.size+1:=qE ..;show _/\_;rw[hz];have he:En ((s.heap.push {cls:=.type sr.itn,data:=.fields #[.ref sr.adr,.int 0 0]}).push {cls:=.type "enumerate",data:=.fields #[.none,.bool vG,.ref s.heap.objs.size,vJ 0,.none,.none]}) (s.heap.objs.size+1) s.heap.objs.size .none 0 .none .none:=by
  have:=z0 (s.heap.push {cls:=.type sr.itn,data:=.fields #[.ref sr.adr,.int 0 0]}) (o:={cls:=.type "enumerate",data:=.fields #[.none,.bool vG,.ref s.heap.objs.size,vJ 0,.none,.none]}) rfl;rw[hz]at this;exact this
 exact⟨⟨_,he,rfl⟩,h _ he ⟨_,zJ _ (z0 _ rfl),rfl,rfl⟩ λb o x=>zJ _ (zJ _ x)⟩
def ZLV(K:PySem.W.Frag)(ta:TA):TI:=λσ H R=>ta σ H λvs H1=>∃sr xs,vs=[.ref (Src.adr sr)]/\sr.sq K H1 xs/\R (Ite K sr 0) H1
theorem ZPk{x1}(t:Gl X "enumerate")(o:X.mg "enumerate"=vE)(x:PA X [a] ta)(A:vW [a] X.env=[(vG,eval a X.env)]:=by rfl):PI X (.Tuple elts x1 tp) (.Call (.Name "enumerate" p) [a] [] pos) (ZLV X.K ta):=by
 intro d s l H R I h;refine Call_ (Hh I t o PyProof.Rows.boot_enumerate (PyProof.Rows.callWith_type1 (thn (x pos d s l H _ I h) λN f ⟨Q,k,i,w,J⟩=>?_) A rfl));obtain⟨B,P,e,n,q⟩:=J;subst e;cases w with
 |cons r C=>
  cases C;cases r;obtain⟨y,rv,v,O⟩:=Src.sq.val i n;refine ZUl v λM m F u=>?_
  refine ZAq m ?_;have L:Inv X d l k {f with heap:=M}:=i.kept (t':=f.toks) u;refine⟨f.heap.objs.size+1,[f.heap.objs.size+1,f.heap.objs.size],_,_,k,rfl,L,ZGH B 0 _ _ (Nat.succ_ne_self _),⟨.none,.none,by simpa using m,.inl rfl,F⟩,λb z=>?_,q⟩;have j:b=f.heap.objs.size+1∨b=f.heap.objs.size:=by simpa using z
  have g:f.heap.objs.size<=b:=by rcases j with rfl|rfl<;>lia
  exact i.Hx g (i.hok.fresh g)
end
inductive DrV (K:PySem.W.Frag) (H:Hp) (i:Nat):List Src->List V->Prop where
 |nil:DrV K H i [] []
 |cons {sr r v us xs} (hq:Src.sq K H xs sr) (hx:xs[i]?=vD v) (t:DrV K H i r us):DrV K H i (sr::r) (v::us)
inductive StV (K:PySem.W.Frag) (H:Hp) (i:Nat):List Src->Prop where
 |here {sr r xs} (hq:Src.sq K H xs sr) (hx:xs.length<=i):StV K H i (sr::r)
 |there {sr r v xs} (hq:Src.sq K H xs sr) (hx:xs[i]?=vD v) (t:StV K H i r):StV K H i (sr::r)
def Itz(K:PySem.W.Frag)(ls:List Src):It:=
 ⟨λi H=>∃us,DrV K H i ls us,λi H v H'=>∃p us,v=.ref p/\H p=vE/\H'=upd H p (.tup us)/\∀us',DrV K H i ls us'->us'=us,λi H=>StV K H i ls⟩
theorem DrV.length{K:PySem.W.Frag}{H:Hp}{i:Nat}{us:List V}(d:DrV K H i ls us):us.length=ls.length:=by
 induction d with
 |nil=>rfl
 |cons _ _ _ a=>simp[a]
section
variable{X:Cx}{vC:List (xz×Obj)}{σ:St}{H:Hp}{s:xB}
theorem DrV.inj(I:Inv X vC σ H s):∀{ls:List Src}{us us':List V},DrV X.K H i ls us->DrV X.K H i ls us'->us=us'
 |[],_,_,d,b=>by cases d;cases b;rfl
 | j::ls,_,_,d,b=>by
  cases d with
  | cons g h t=>
   cases b with
   |cons c a f=>
    have e:=Src.sq.inj I g c;subst e;rw[h]at a;cases a;rw[DrV.inj I t f]
theorem DrV.drw(I:Inv X vC σ H s):∀{l:List (Src×xz)}{us:List V},DrV X.K H i (l.map (·.1)) us->(∀q∈l,q.1.it s.heap q.2 i)->∃ws,Drw s.heap i l ws/\Vals us ws
 |[],us,d,h=>by cases d;exact⟨[],.nil,.nil⟩
 | (k,p)::l,us,d,h=>by
  cases d with
  |cons a g t=>
   obtain⟨f,rv,m,n⟩:=Src.sq.val I a;obtain⟨u,b,c⟩:=rv.get g;obtain⟨ws,e,j⟩:=DrV.drw I t λq a=>h q (zZ _ a)
   exact⟨u::ws,.cons (h (k,p) zW) m (by simpa using b) e,.cons c j⟩
theorem StV.drw(I:Inv X vC σ H s):∀{l:List (Src×xz)},StV X.K H i (l.map (·.1))->(∀q∈l,q.1.it s.heap q.2 i)->DrwE s.heap i l
 |[],d,h=>by cases d
 | (f,p)::l,d,h=>by
  cases d with
  |here a e=>
   obtain⟨b,rv,c,j⟩:=Src.sq.val I a;have k:=rv.length;exact .here (h (f,p) zW) c (by simp;lia)
  |there a e t=>
   obtain⟨b,rv,c,j⟩:=Src.sq.val I a;obtain⟨u,g,m⟩:=rv.get e;exact .there (h (f,p) zW) c (by simpa using g) (StV.drw I t λq a=>h q (zZ _ a))
end
theorem ZUC{P:x0}{w:xE}{K:PySem.W.Frag}{x1}{pos:Pos}(l:List (Src×xz))(z TI TO:xz)(a:ApZ TO l)(C:z≠TO/\(∀q∈l,q.2≠z/\q.1.adr≠z))(Q:TI≠z/\TI≠TO/\∀q∈l,q.2≠TI)(hsz:l.length<=1000000)(y:l≠[]):
  Turn P w K (.Tuple elts x1 pos) (Itz K (l.map (·.1))) (z::TI::TO::l.map (·.2)) z
   (λi h=>IsZip h z TI TO .none/\Tp h TI (l.map λq=>Value.ref q.2)/\(∃u,Tp h TO u/\u.length=l.length)/\∀q∈l,q.1.it h q.2 i) where
 mem:=by simp
 obj:=λi h m b c=>by
  obtain⟨n,f,⟨u,g,_⟩,r⟩:=m;rcases zq.mp c with rfl|c
  ·exact⟨_,n,λv z=>by cases z⟩
  ·rcases zq.mp c with rfl|c
   ·exact⟨_,f,λv z=>by cases z⟩
   ·rcases zq.mp c with rfl|c
    ·exact⟨_,g,λv z=>by cases z⟩
    ·obtain⟨q,j,rfl⟩:=zM.mp c;obtain⟨o,t,_,hd⟩:=r q j;exact⟨o,t,λv z=>by rw[hd]at z;cases z⟩
 keep:=λi h h' m k=>by obtain⟨n,f,⟨u,g,t⟩,r⟩:=m;exact⟨k z (by simp) _ n,k TI (by simp) _ f,⟨u,k TO (by simp) _ g,t⟩,λq j=>(r q j).at λo e=>k q.2 (by simp only[zq];exact .inr (.inr (.inr (zM.mpr ⟨q,j,rfl⟩)))) o e⟩
 item:=by
  intro X T hw N Y i p s σ H E I A m L;subst T hw N;obtain⟨M,S⟩:=L;obtain⟨n,f,⟨u,g,t⟩,r⟩:=m;obtain⟨ws,B,rv⟩:=DrV.drw I S r;refine ZPp n f g t hsz y a C B λh1 z1 t1 i1 p1 s1 F=>⟨_,rfl,?_⟩
  refine wpAny_letOwnedTupleGo_zip (s:={s with heap:=h1}) z1 λZ z2 x=>?_
  have O:s.heap.objs.size≠z:=jk (zx n);have J:M.length<=sizeLine:=by rw[S.length,qY];exact zA hsz size6
  have I2:Inv X p σ (upd H s.heap.objs.size (.tup M)) {s with heap:=Z}:=
   ZDz (t':=s.toks) (fp:=z::TI::TO::l.map (·.2)) (its:=ws) I (λb o c q=>by simp only[zq,not_or]at c;exact x.extBut b o c.1 (F b o c.1 c.2.2.1 c.2.2.2 q)) A (zK _) J rv (x.extBut _ _ O p1)
  have U:H s.heap.objs.size=vE:=I.hok.fresh (zK _)
  have up:∀b o,b≠z->b≠TO->b∉l.map (·.2)->s.heap.get? b=vD o->Z.get? b=vD o:=λb o b1 b2 b3 q=>x.extBut b o b1 (F b o b1 b2 b3 q)
  refine⟨.ref s.heap.objs.size,_,I2,rfl,⟨_,M,rfl,U,rfl,λus' d'=>DrV.inj I d' S⟩,⟨z2,up TI _ Q.1 Q.2.1 (λhm=>?_) f,⟨ws,x.extBut _ _ (Ne.symm C.1) t1,B.length⟩,λq j=>(i1 q j).at λo e=>x.extBut _ _ (C.2 q j).1 e⟩,λb c=>?_⟩
  ·obtain⟨q,j,e⟩:=zM.mp hm;exact Q.2.2 q j e
  ·rw [Al (λe=>?_)]
   ·exact(A b c).1
   ·have lt:b<s.heap.objs.size:=by
     rcases zq.mp c with rfl|c
     ·exact zx n
     ·rcases zq.mp c with rfl|c
      ·exact zx f
      ·rcases zq.mp c with rfl|c
       ·exact zx g
       ·obtain⟨q,j,rfl⟩:=zM.mp c;exact(r q j).lt
    rw[e]at lt;exact qW _ lt
 done:=by
  intro X T hw N Y i p s σ H E I A m L;subst T hw N;obtain⟨n,f,⟨u,g,t⟩,r⟩:=m;have B:=StV.drw I L r;refine ZLy (I.ok.hd Y) n f g t hsz y a C B λh1 F=>⟨rfl,?_⟩
  exact Yb (t':=s.toks) (fp:=z::TI::TO::l.map (·.2)) I (λb o c q=>by simp only[zq,not_or]at c;exact F b o c.1 c.2.2.1 c.2.2.2 q) A
 self:=λ_ _ _ _ _ m h=>wpAny_pyIter_zip m.1 h
def Gq (G:DH) (j:Nat):List D->Option (Option (List D))
 |[]=>vD (vD [])
 | d::r=>match Bh d G with
  |none=>vE
  | some xs=>match xs[j]? with
   |none=>vD vE
   |some x=>match Gq G j r with
    |some (vD ys)=>vD (vD (x::ys))
    |o=>o
def Ew(ds:List D)(j:Nat)(G:DH):Option (Option D):=(Gq G j ds).map λo=>o.map D.tup
def lenOf(G:DH)(d:D):Nat:=match Bh d G with
 |some xs=>xs.length
 |none=>0
def Ir(G:DH)(d:D):Bool:=(Bh d G).isSome
def Do(n:Int)(d:D)(j:Nat)(G:DH):Option (Option D):=match Bh d G with
 |none=>vE
 |some xs=>vD (xs[j]?.map λx=>.tup [.int (n+j),x])
def Ez(ds:List D)(G:DH):R ItD:=match ds with
 |[d]=>if Ir G d=vF then .ok (.fn (lenOf G d) (Do 0 d)) G else .bad
 |_=>.bad
def Et(n:Nat)(ds:List D)(G:DH):R ItD:=if ds.all (Ir G)=vF/\ds.length=n then .ok (.fn (lenOf G (ds.headD .non)) (Ew ds)) G else .bad
section
variable{X:Cx}{E:XK}
theorem ZCm{a:Wd}{G:DH}{d:D}{v:V}{xs:List D}(s:Sim a G)(r:Rep a d v)(h:Bh d G=vD xs):
  ∃o:Src,v=.ref o.adr/\(∃vs,o.sq a.K a.H vs)/\∀b:Wd,Ext a b->∀f,Sim b f->∀ys,Bh d f=vD ys->∃us,o.sq b.K b.H us/\Reps b ys us:=by
 cases d with
 |tup j=>
  obtain⟨p,vs,rfl,e,rv⟩:=r;refine⟨.t p,rfl,⟨vs,e⟩,λb x f q ys c=>?_⟩
  cases(show vD j=vD ys from c)
  exact⟨vs,x.sqT e,rv.mono x⟩
 |fl j=>
  obtain⟨p,vs,rfl,e,rv⟩:=r;refine⟨.l p,rfl,⟨vs,e.sq⟩,λb x f q ys c=>?_⟩
  cases(show vD j=vD ys from c)
  exact⟨vs,(x.fzL e).sq,rv.mono x⟩
 | ref i=>
  obtain⟨w,rfl⟩:=r;have z:∃g,G[i]?=vD (.lst g):=by
   unfold Bh at h;dsimp only at h;split at h
   ·rename_i g n;exact⟨g,n⟩
   ·cases h
  obtain⟨g,n⟩:=z;obtain⟨vs,A,_⟩:=s.lst n;refine⟨.l (a.m i),rfl,⟨vs,.of A⟩,λb x f q ys c=>?_⟩;unfold Bh at c;dsimp only at c;split at c
  ·rename_i y k;cases c;obtain⟨us,u,B⟩:=q.lst k;rw[x.m i w]at u;exact⟨us,.of u,B⟩
  ·cases c
 |_=>cases h
theorem ZKA{a:Wd}{G:DH}{d:D}{v:V}{z:Src}(hk:a.K=X.K)(t:∀b:Wd,Ext a b->∀h,Sim b h->∀ys,Bh d h=vD ys->∃us,z.sq b.K b.H us/\Reps b ys us)(n:Nat):RepI a (.fn n (Do 0 d)) (Ite X.K z 0):=by
 intro b x h o i;have s:b.K=X.K:=x.k.trans hk;constructor
 ·intro e c;unfold Do at c;split at c
  ·cases c
  ·rename_i ys q;obtain⟨us,g,j⟩:=t b x h o ys q;rw[s]at g;cases f:ys[i]? with
   |none=>rw[f]at c;cases c
   |some y=>
    rw[f]at c;have m:D.tup [.int (0+i),y]=e:=by simpa using c
    subst m;obtain⟨u,r,B⟩:=j.get f;refine⟨⟨us,u,g,r⟩,?_⟩;rintro w F ⟨p,C,rfl,hp,rfl,l⟩;refine⟨b.put p (.tup [.int (0+i),C]),rfl,Ext.put hp,o.put hp,p,_,rfl,.of Ej,?_⟩;have A:=l us g;rw[r]at A;cases A;exact⟨_,_,rfl,rfl,Reps.cons (B.mono (Ext.put hp)) rfl⟩
 ·intro c;unfold Do at c;split at c
  ·cases c
  ·rename_i ys q;obtain⟨us,g,j⟩:=t b x h o ys q;rw[s]at g;cases f:ys[i]? with
   |none=>exact⟨us,g,by rw[<-j.length];exact qT.mp f⟩
   |some y=>rw[f]at c;cases c
theorem ZNH{elts:List xw}{x1}{tp:Pos}{e:xw}{ta:DA}{p pos:Pos}(m:Gl X "enumerate")(l:X.mg "enumerate"=vE)(t:QA X E [e] ta)(w:vW [e] X.env=[(vG,eval e X.env)]:=by rfl):
  QI X E (.Tuple elts x1 tp) (.Call (.Name "enumerate" p) [e] [] pos) (Bk Ez ta):=(ZPk m l t w).mono λI H Q h=>by
 obtain⟨a,S,G,hk,rfl,s,r,h⟩:=h;refine⟨a,S,G,hk,rfl,s,r,(Ow h).imp ?_⟩;rintro F _ ⟨b,J,i,rfl,x,g,q,-,c⟩;unfold Ez at c;split at c
 ·rename_i d;split at c
  ·rename_i hok;obtain⟨v,r,o,A,B⟩:=q
   cases(show r=[]from B)
   subst o
   obtain⟨C,u⟩:=jJ.mp (show(Bh d i).isSome=vF from hok)
   obtain⟨z,rfl,⟨n,j⟩,y⟩:=ZCm g A u;have f:b.K=X.K:=x.k.trans hk;exact⟨z,n,rfl,by rw[<-f];exact j,c b _ (Ext.refl b) g (ZKA (G:=i) (v:=.non) f y _)⟩
  ·exact c.elim
 ·exact c.elim
theorem ZC1(s:Sim a G):∀{ds:List D}{vs:List V},Reps a ds vs->ds.all (Ir G)=vF->∃ls:List Src,vs=ls.map (λl=>V.ref l.adr)/\(∀l∈ls,∃us,l.sq a.K a.H us)/\
   ∀b:Wd,Ext a b->∀f,Sim b f->∀i,(∀ys,Gq f i ds=vD (vD ys)->∃us,DrV b.K b.H i ls us/\Reps b ys us)/\(Gq f i ds=vD vE->StV b.K b.H i ls)
 |[],vs,r,_=>by
  cases(show vs=[]from r)
  refine⟨[],rfl,(λ_ h=>nomatch h),λb x f j i=>⟨λys h=>?_,λh=>?_⟩⟩
  ·cases h;exact⟨[],.nil,rfl⟩
  ·cases h
 | d::ds,vs,r,h=>by
  rw[qN,zD]at h;obtain⟨v,S,rfl,O,P⟩:=r
  obtain⟨Q,M⟩:=jJ.mp (show(Bh d G).isSome=vF from h.1)
  obtain⟨l,rfl,J,I⟩:=ZCm s O M;obtain⟨ls,rfl,q,k⟩:=ZC1 s P h.2;refine⟨l::ls,rfl,λw o=>?_,λb x f j i=>⟨λys c=>?_,λc=>?_⟩⟩
  ·rcases zq.mp o with rfl|o
   ·exact J
   ·exact q w o
  ·unfold Gq at c;split at c
   ·cases c
   ·rename_i C p;obtain⟨us,n,m⟩:=I b x f j C p;split at c
    ·cases c
    ·rename_i y e;obtain⟨u,g,F⟩:=m.get e;split at c
     ·rename_i B A;cases c;obtain⟨z,L,N⟩:=(k b x f j i).1 B A;exact⟨u::z,.cons n g L,Reps.cons F N⟩
     ·rename_i t;exact absurd c (t _)
  ·unfold Gq at c;split at c
   ·cases c
   ·rename_i C p;obtain⟨us,n,m⟩:=I b x f j C p;split at c
    ·rename_i e;exact .here n (by rw[<-m.length];exact qT.mp e)
    ·rename_i y e;obtain⟨u,g,F⟩:=m.get e;split at c
     ·cases c
     ·exact .there n g ((k b x f j i).2 c)
theorem ZO2(hk:a.K=X.K)(q:∀b:Wd,Ext a b->∀f,Sim b f->∀i,(∀ys,Gq f i ds=vD (vD ys)->∃us,DrV b.K b.H i ls us/\Reps b ys us)/\(Gq f i ds=vD vE->StV b.K b.H i ls))(n:Nat):
  RepI a (.fn n (Ew ds)) (Itz X.K ls):=by
 intro b x f l i;have m:b.K=X.K:=x.k.trans hk;constructor
 ·intro e c;unfold Ew at c;cases g:Gq f i ds with
  |none=>rw[g]at c;cases c
  | some o=>
   cases o with
   |none=>rw[g]at c;cases c
   |some ys=>
    rw[g]at c;have j:D.tup ys=e:=by simpa using c
    subst j;obtain⟨us,d,r⟩:=(q b x f l i).1 ys g;rw[m]at d;refine⟨⟨us,d⟩,?_⟩;rintro w t ⟨p,s,rfl,hp,rfl,h⟩;cases h us d;exact⟨b.put p (.tup us),rfl,Ext.put hp,l.put hp,p,us,rfl,.of Ej,r.mono (Ext.put hp)⟩
 ·intro c;unfold Ew at c;cases g:Gq f i ds with
  |none=>rw[g]at c;cases c
  | some o=>
   cases o with
   |none=>
    have:=(q b x f l i).2 g;rw[m]at this;exact this
   |some ys=>rw[g]at c;cases c
def Xg(n:Nat)(K:PySem.W.Frag)(ta:TA):TI:=λσ H R=>ta σ H λvs H1=>∃ls:List Src,vs=ls.map (λsr=>V.ref sr.adr)/\(∀sr∈ls,∃us,sr.sq K H1 us)/\ls.length=n/\R (Itz K ls) H1
theorem ZCw:∀{ls:List Src}{us:List xD},Vals (ls.map λa=>V.ref a.adr) us->us=ls.map λa=>Value.ref a.adr
 |[],us,h=>by cases h;rfl
 | a::ls,us,h=>by
  rw[zw]at h;cases h with
  |cons r b=>
   cases r;rw[ZCw b]
   rfl
theorem Qj{n:Nat}{q:Src×Nat}(h:q∈ls.zipIdx n):q.1∈ls/\n<=q.2/\q.2<n+ls.length:=by obtain⟨i,a,rfl⟩:=qD h;simp only[List.length_zipIdx]at a;simp only[List.getElem_zipIdx];exact⟨q8 a,by lia,by lia⟩
theorem ZFR{x1}{tp:Pos}{u:St}{H:Hp}{s:xB}{R:It->Hp->Prop}(I:Inv X vC u H s)(m:∀d∈ls,∃us,d.sq X.K H us)(y:ls≠[])(C:ls.length<=1000000)
  (t:checkTypeCall "zip" ⟨ls.map λd=>Value.ref d.adr,[]⟩=pure ()) (B:xO "zip.__new__" ⟨.type "zip"::ls.map λd=>Value.ref d.adr,[]⟩=pure ()) (hok:∀obj,argsOk "object.__init__" ⟨obj::ls.map λd=>Value.ref d.adr,[]⟩)
  (q:R (Itz X.K ls) H):vY (vZ X.prog X.w) X.A (call (.type "zip") (ls.map λd=>Value.ref d.adr)) (λv s1=>vY (vZ X.prog X.w) X.A (pyIter v) (PIE X vC u (.Tuple elts x1 tp) R) X.xe s1) X.xe s:=by
 have L:∀d∈ls,∃M,d.val s.heap M:=λd c=>by obtain⟨us,h⟩:=m d c;obtain⟨S,_,z,_⟩:=Src.sq.val I h;exact⟨_,z⟩
 have l:∀d∈ls,d.adr<s.heap.objs.size:=λd c=>by obtain⟨M,h⟩:=L d c;obtain⟨o,n,Q,_⟩:=h.obj;exact zx Q
 refine ZLS L C t B hok λz n N J x p Z O=>?_
 refine wpAny_pyIter_zip J ?_;have I2:Inv X vC u H {s with heap:=z}:=I.kept (t':=s.toks) O
 have F:(ls.zipIdx s.heap.objs.size).map (·.1)=ls:=by refine qM (by simp) λi h1 U=>by simp
 have e2:(ls.zipIdx s.heap.objs.size).map (·.2)=List.range' s.heap.objs.size ls.length:=by refine qM (by simp) λi h1 U=>by simp[Nat.add_comm]
 have j:∀q∈ls.zipIdx s.heap.objs.size,q.1.adr<s.heap.objs.size/\s.heap.objs.size<=q.2/\q.2<n:=λq c=>⟨l _ (Qj c).1,(Qj c).2.1,by rw[N];exact(Qj c).2.2⟩
 have f:s.heap.objs.size<=n:=by rw[N];exact xJ _ _
 have W:ApZ (n+1) (ls.zipIdx s.heap.objs.size):=⟨by rw[e2];exact List.nodup_range',λq c=>zE (zz (j q c).1 (Nat.le_succ_of_le f)),λq c r Y=>zE (zz (j q c).1 (j r Y).2.1),λq c=>zE (qP (j q c).2.2)⟩;have T:=ZUC (P:=X.prog) (w:=X.w) (K:=X.K) (elts:=elts) (x1:=x1) (pos:=tp) (ls.zipIdx s.heap.objs.size) (n+2) n (n+1) W ⟨Nat.succ_ne_self (n+1),λq c=>⟨zE (zz (j q c).2.2 (xJ n 2)),zE (zz (j q c).1 (zA f (xJ n 2)))⟩⟩
  ⟨zE (Nat.lt_add_of_pos_right (by decide)),zE (qK n),λq c=>zE (j q c).2.2⟩ (by simpa using C) (by intro e;apply y;rw[<-F,e];rfl)
 rw [F]at T;refine⟨n+2,_,_,_,H,rfl,I2,T,⟨J,x,⟨_,p,by simp⟩,Z⟩,λb g=>?_,q⟩;have k:s.heap.objs.size<=b:=by
  rcases zq.mp g with rfl|g
  ·exact zA f (xJ n 2)
  ·rcases zq.mp g with rfl|g
   ·exact f
   ·rcases zq.mp g with rfl|g
    ·exact Nat.le_succ_of_le f
    ·obtain⟨q,m,rfl⟩:=zM.mp g;exact(Qj m).2.1
 exact I.Hx k (I.hok.fresh k)
theorem ZLC(a b c:xD):checkTypeCall "zip" ⟨[a,b,c],[]⟩=pure ():=by kernel_rfl
theorem ZPA(a b c:xD):xO "zip.__new__" ⟨[.type "zip",a,b,c],[]⟩=pure ():=by kernel_rfl
theorem ZQs(a b c d:xD):argsOk "object.__init__" ⟨[a,b,c,d],[]⟩:=by unfold argsOk;rw[signature?_of (id:="object.__init__") (n:=['_','_','t','i','n','i','_','_']) (o:=['t','c','e','j','b','o']) (by kernel_rfl) PySem.F.owner_object];kernel_rfl
theorem ZLw{elts:List xw}{x1}{tp:Pos}{a b:xw}{ta:TA}{p pos:Pos}(m:Gl X "zip")(j:X.mg "zip"=vE)(f:PA X [a,b] ta)(g:vW [a,b] X.env=[(vG,eval a X.env),(vG,eval b X.env)]:=by rfl)(c:vW [b] X.env=[(vG,eval b X.env)]:=by rfl):
  PI X (.Tuple elts x1 tp) (.Call (.Name "zip" p) [a,b] [] pos) (Xg 2 X.K ta):=by
 intro d s o H R I h;refine Call_ (Hh I m j PyProof.Rows.boot_zip (PyProof.Rows.callWith_type1 (thn (f pos d s o H _ I h) λu w ⟨v,t,l,r,k⟩=>?_) (by rw[g,c]) (by rw[c];rfl)));obtain⟨n,rfl,i,e,q⟩:=k;cases ZCw r
 match n,e with
 |[x,y],_=>exact ZFR l i (by simp) (by simp) (PySem.F.typeCall_zip_2 _ _) (PySem.F.newCall_zip_2 _ _) (λobj=>PySem.F.args_object_init_3 obj _ _) q
theorem ZUY{elts:List xw}{x1}{tp:Pos}{a b c:xw}{ta:TA}{p pos:Pos}(n:Gl X "zip")(k:X.mg "zip"=vE)(g:PA X [a,b,c] ta)(i:vW [a,b,c] X.env=[(vG,eval a X.env),(vG,eval b X.env),(vG,eval c X.env)]:=by rfl)
  (d:vW [b,c] X.env=[(vG,eval b X.env),(vG,eval c X.env)]:=by rfl):PI X (.Tuple elts x1 tp) (.Call (.Name "zip" p) [a,b,c] [] pos) (Xg 3 X.K ta):=by
 intro e s r H R I h;refine Call_ (Hh I n k PyProof.Rows.boot_zip (PyProof.Rows.callWith_type1 (thn (g pos e s r H _ I h) λv A ⟨w,u,m,t,l⟩=>?_) (by rw[i,d]) (by rw[d];rfl)));obtain⟨o,rfl,j,f,q⟩:=l;cases ZCw t
 match o,f with
 |[x,y,z],_=>exact ZFR m j (by simp) (by simp) (ZLC _ _ _) (ZPA _ _ _) (λobj=>ZQs obj _ _ _) q
theorem ZH2{K:PySem.W.Frag}{n:Nat}{ta:DA}{g:St}{H:Hp}{Q:It->Hp->Prop}(l:K=X.K)(h:lI K E (Bk (Et n) ta) g H Q):Xg n K (lA K E ta) g H Q:=by
 subst l;obtain⟨a,S,G,hk,rfl,s,r,h⟩:=h;refine⟨a,S,G,hk,rfl,s,r,(Ow h).imp ?_⟩;rintro w _ ⟨b,u,v,rfl,x,i,q,-,c⟩;unfold Et at c;split at c
 ·rename_i hok;obtain⟨f,e,m,p⟩:=ZC1 i q hok.1;have d:b.K=X.K:=x.k.trans hk;have j:f.length=n:=by have:=q.length;rw[e,qY]at this;lia
  exact⟨f,e,λt o=>by rw[<-d];exact m t o,j,c b _ (Ext.refl b) i (ZO2 d p _)⟩
 ·exact c.elim
theorem ZL4{elts:List xw}{x1}{tp:Pos}{a b:xw}{ta:DA}{p pos:Pos}(g:Gl X "zip")(f:X.mg "zip"=vE)(d:QA X E [a,b] ta)(e:vW [a,b] X.env=[(vG,eval a X.env),(vG,eval b X.env)]:=by rfl)(c:vW [b] X.env=[(vG,eval b X.env)]:=by rfl):
  QI X E (.Tuple elts x1 tp) (.Call (.Name "zip" p) [a,b] [] pos) (Bk (Et 2) ta):=(ZLw g f d e c).mono λi H Q h=>ZH2 rfl h
theorem ZKy{elts:List xw}{x1}{tp:Pos}{a b c:xw}{ta:DA}{p pos:Pos}(i:Gl X "zip")(g:X.mg "zip"=vE)(e:QA X E [a,b,c] ta)(f:vW [a,b,c] X.env=[(vG,eval a X.env),(vG,eval b X.env),(vG,eval c X.env)]:=by rfl)
  (d:vW [b,c] X.env=[(vG,eval b X.env),(vG,eval c X.env)]:=by rfl):QI X E (.Tuple elts x1 tp) (.Call (.Name "zip" p) [a,b,c] [] pos) (Bk (Et 3) ta):=(ZUY i g e f d).mono λj H Q h=>ZH2 rfl h
end
def ixL:D->D->DH->R D
 | .ref p,.int k,G=>match G[p]? with
  |some (.lst xs)=>match atI xs k with
   |some v=>.ok v G
   |none=>.bad
  |_=>.bad
 |_,_,_=>.bad
def Jr(to ti te:DE)(f:D->D->DH->R D):DS:=λS G=>(to S G).toS λo G1=>(ti S G1).toS λi G2=>(ixL o i G2).toS λx G3=>(te S G3).toS λy G4=>(f x y G4).toS λz G5=>(Jw o i z G5).toS λ_ G6=>.nx S G6
noncomputable def Hw:DS:=λ_ _=>.bad
section
variable{X:Cx}{E:XK}
theorem Nv{st:xC}:QS X E st Hw:=λb s c H W I h=>by obtain⟨a,S,G,hk,rfl,d,r,h⟩:=h;exact h.elim
theorem ZUI(ho:QE X E o to)(hi:QE X E i ti)(he:QE X E e te)(hop:OpR X (inplaceOp op) (lR2 X.K E f))
  (ha:∀C B new,augStore i C B new=(do holding [new,C,B] (setItem C B new);release [new,C,B] [];pure .next):=by intros;rfl):QS X E (.AugAssign (.Subscript o i tpos) op e pos) (Jr to ti te f):=by
 intro b s g H W I h;obtain⟨a,S,G,hk,rfl,sm,r,h⟩:=h;refine wpAny_AugAssign_SubscriptAny (thn (ho b s g a.H _ I ⟨a,S,G,hk,rfl,sm,r,Gw h⟩) ?_) ha;rintro C s1 ⟨vo,H1,I1,ro,b1,o,G1,rfl,L,m1,q1,_,h1⟩;have k1:=L.k.trans hk;refine thn (hi b s1 g b1.H _ I1 ⟨b1,S,G1,k1,rfl,m1,r.mono L,Gw h1⟩) ?_;rintro B s2 ⟨vi,H2,I2,ri,q,i,G2,rfl,M,m2,q2,_,c⟩;have k2:=M.k.trans k1;have P:=q1.mono M;cases i with
 | int k=>
  cases o with
  | ref p=>
   obtain⟨hp,rfl⟩:=P
   cases(show vi=V.int k from q2)
   cases ro;obtain⟨t,rfl⟩:=ri;unfold ixL at c;dsimp only at c;split at c
   ·rename_i xs hx';obtain⟨vs,e1,r1⟩:=m2.lst hx';split at c
    ·rename_i d hd;obtain⟨v,ev,rd⟩:=ZFB r1 hd;have Z:Bv E q ((te S G2).toS λy Y=>(f d y Y).toS λz G5=>(Jw (.ref p) (.int k) z G5).toS λ_ G6=>.nx S G6) W:=c;obtain⟨O,rv,pl,hz⟩:=I2.list (.of e1);obtain⟨j,J,g2,g3,g4,g5⟩:=Sd ev;obtain⟨w,ew,U⟩:=rv.get g2;have hl:=rv.length;have hn:=line63;have fin:vY (vZ X.prog X.w) X.A (getItem (.ref (q.m p)) (.int k t)) (λl s3=>l=w/\s3=s2) X.xe s2:=by
      by_cases h0:0<=k
      ·have Q:k.toNat=j:=by rw[seqIndex_of h0 g5]at J;exact Option.some.inj J
       exact wpAny_getItem_list pl.isList h0 (by lia) (by rw[Q];simpa using ew) ⟨rfl,rfl⟩
      ·have Q:(k+(O.toArray.size:Int)).toNat=j:=by rw[seqIndex_neg (by lia) g4]at J;rw[zY,<-hl];exact Option.some.inj J
       exact wpAny_getItem_list_neg pl.isList (by lia) (by rw[zY]<;>lia) (by lia) (by rw[Q];simpa using ew) ⟨rfl,rfl⟩
     refine thn fin ?_;rintro l s3 ⟨rfl,rfl⟩;refine thn (he b s3 g q.H _ I2 ⟨q,S,G2,k2,rfl,m2,(r.mono L).mono M,Gw Z⟩) ?_;rintro yv s4 ⟨vy,H4,I4,ry,b4,y,Y,rfl,x,m4,q4,_,h4⟩;have k4:=x.k.trans k2;refine thn (hop b s4 g b4.H v vy l yv _ I4 U ry ⟨b4,Y,d,y,k4,rfl,m4,rd.mono x,q4,Gw h4⟩) ?_;rintro new s5 ⟨vn,H5,I5,rn,F,z,G5,rfl,x5,m5,q5,_,u⟩;unfold Jw at u;dsimp only at u;split at u
     ·rename_i ys hy;split at u
      ·rename_i jj N;obtain⟨ws,e5,r5⟩:=m5.lst hy;have T:p<F.n:=zz hp (zA x.n x5.n);have em:F.m p=q.m p:=(x5.m p (zz hp x.n)).trans (x.m p hp);obtain⟨x6,m6⟩:=Xf m5 T e5 (r5.set q5 jj);refine thn (set_list b s5 g F.H (.ref (q.m p)) (.int k) vn (.ref (q.m p)) (.int k t) new (λH'=>W.nx g H') I5 rfl ⟨t,rfl⟩ rn ⟨F.m p,ws,k,jj,by rw[em],rfl,e5,by rw[<-r5.length];exact N,?_⟩) ?_
       ·exact u _ g x6 m6 (((((r.mono L).mono M).mono x).mono x5).mono x6)
       ·rintro _ s6 ⟨H6,I6,q6⟩;exact⟨g,H6,I6,q6⟩
      ·exact u.elim
     ·exact u.elim
    ·exact c.elim
   ·exact c.elim
  |_=>exact(show False from c).elim
 |_=>cases o<;>exact(show False from c).elim
end
def Hk(ds:List D)(G:DH):R D:=match ds with
 | [d]=>match Bh d G with
  |some xs=>match Fy xs with
   |some (n::ns)=>.ok (.int (ns.foldl min n)) G
   |_=>.bad
  |none=>.bad
 |_=>.bad
def Hq(ds:List D)(G:DH):R D:=match ds with
 | [d]=>match Bh d G with
  |some xs=>match Fy xs with
   |some (n::ns)=>.ok (.int (ns.foldl max n)) G
   |_=>.bad
  |none=>.bad
 |_=>.bad
theorem Tu:∀(ns:List Int)(n:Int),ns.foldl min n<=n/\(∀x∈ns,ns.foldl min n<=x)/\(ns.foldl min n=n∨ns.foldl min n∈ns)
 |[],n=>⟨zH _,λx h=>(by cases h),.inl rfl⟩
 | m::ns,n=>by
  obtain⟨d,b,c⟩:=Tu ns (min n m);rw[j1];refine⟨by lia,λx a=>?_,?_⟩
  ·rcases zq.mp a with rfl|a
   ·lia
   ·exact b x a
  ·rcases c with h|h
   ·by_cases e:n<=m
    ·exact .inl (by rw[h];lia)
    ·exact .inr (by rw[h];rw[show min n m=m by lia];exact zW)
   ·exact .inr (zZ _ h)
theorem ZHk:∀(ns:List Int)(n:Int),n<=ns.foldl max n/\(∀x∈ns,x<=ns.foldl max n)/\(ns.foldl max n=n∨ns.foldl max n∈ns)
 |[],n=>⟨zH _,λx h=>(by cases h),.inl rfl⟩
 | m::ns,n=>by
  obtain⟨d,b,c⟩:=ZHk ns (max n m);rw[j1];refine⟨by lia,λx a=>?_,?_⟩
  ·rcases zq.mp a with rfl|a
   ·lia
   ·exact b x a
  ·rcases c with h|h
   ·by_cases e:m<=n
    ·exact .inl (by rw[h];lia)
    ·exact .inr (by rw[h];rw[show max n m=m by lia];exact zW)
   ·exact .inr (zZ _ h)
section
variable{X:Cx}{E:XK}
theorem intAt{ns:List Int}{its:List xD}{i:Nat}{w:xD}(d:Vals (ns.map V.int) its)(hw:its.toArray[i]?=vD w):i<ns.length/\∃t,w=.int (ns.getD i 0) t:=by
 have b:its[i]?=vD w:=by simpa using hw
 have e:i<(ns.map V.int).length:=by rw[d.length];exact(zG.mp b).1
 have a:i<ns.length:=by simpa using e
 obtain⟨u,c,f⟩:=d.get (i:=i) (x:=V.int ns[i]) (by simp[a]);rw[b]at c;cases c;obtain⟨t,rfl⟩:=f;exact⟨a,t,by simp[a]⟩
theorem ZUn(F:X.calm=vF):CallR X (.builtin "min") (lRn X.K E Hk):=by
 intro l s σ H vs us Q I U h;obtain⟨a,G,ds,hk,rfl,o,r,q⟩:=h;unfold Hk at q;split at q
 ·rename_i d;obtain⟨v,rfl,rv⟩:=reps1 r;split at q
  ·rename_i xs M;split at q
   ·rename_i n b O;cases S6 O;obtain⟨p,ws,rfl,z,C⟩:=J1 o rv M;cases ZCP C;rw[hk]at z;obtain⟨u,rfl,N⟩:=vals1 U;cases N;refine call_min_walk (U7 I F z λit fp wr its St s₂ hv W st hfp fin=>⟨it,fp,wr,its.toArray.size,_,St,_,rfl,W,st,hfp,?_,CmpOf.ints_lt (λi=>(n::b).getD i 0) (λi w hw=>(intAt hv hw).2),λw h' S hw kk=>?_⟩)
    ·rw[zY,<-hv.length];simp
    ·obtain⟨k,t,rfl⟩:=intAt hv hw;obtain⟨b1,P⟩:=argBest_lt (λi=>(n::b).getD i 0) (its.toArray.size-1);refine⟨.int (b.foldl min n),a.H,fin h' S kk,⟨t,?_⟩,q a _ (Ext.refl a) o rfl⟩;have L:its.toArray.size=b.length+1:=by rw[zY,<-hv.length];simp
     obtain⟨J,Y,A⟩:=Tu b n;have e:∀x∈n::b,b.foldl min n<=x:=λx f=>by
      rcases zq.mp f with rfl|f
      ·exact J
      ·exact Y x f
     have g:b.foldl min n∈n::b:=by
      rcases A with h|h
      ·rw[h];exact zW
      ·exact zZ _ h
     obtain⟨j,m,T⟩:=qD g;have c1:=P j (by simp at m;lia);have y:=e _ (q8 k);have B:(n::b).getD j 0=b.foldl min n:=by rw[zC,zX m];exact T
     have Z:(n::b).getD (argBest (λi j=>decide ((λi=>(n::b).getD i 0) i<(λi=>(n::b).getD i 0) j)) (its.toArray.size-1)) 0=(n::b)[argBest (λi j=>decide ((λi=>(n::b).getD i 0) i<(λi=>(n::b).getD i 0) j)) (its.toArray.size-1)]:=by rw[zC,zX k];rfl
     have c:=c1;rw[B]at c;rw[<-Z]at y
     congr 1
     exact Int.le_antisymm c y
   ·exact q.elim
  ·exact q.elim
 ·exact q.elim
theorem ZPD(F:X.calm=vF):CallR X (.builtin "max") (lRn X.K E Hq):=by
 intro l s σ H vs us Q I U h;obtain⟨a,G,ds,hk,rfl,o,r,q⟩:=h;unfold Hq at q;split at q
 ·rename_i d;obtain⟨v,rfl,rv⟩:=reps1 r;split at q
  ·rename_i xs M;split at q
   ·rename_i n b O;cases S6 O;obtain⟨p,ws,rfl,z,C⟩:=J1 o rv M;cases ZCP C;rw[hk]at z;obtain⟨u,rfl,N⟩:=vals1 U;cases N;refine call_max_walk (U7 I F z λit fp wr its St s₂ hv W st hfp fin=>⟨it,fp,wr,its.toArray.size,_,St,_,rfl,W,st,hfp,?_,CmpOf.ints_gt (λi=>(n::b).getD i 0) (λi w hw=>(intAt hv hw).2),λw h' S hw kk=>?_⟩)
    ·rw[zY,<-hv.length];simp
    ·obtain⟨k,t,rfl⟩:=intAt hv hw;obtain⟨b1,P⟩:=argBest_gt (λi=>(n::b).getD i 0) (its.toArray.size-1);refine⟨.int (b.foldl max n),a.H,fin h' S kk,⟨t,?_⟩,q a _ (Ext.refl a) o rfl⟩;have L:its.toArray.size=b.length+1:=by rw[zY,<-hv.length];simp
     obtain⟨J,Y,A⟩:=ZHk b n;have e:∀x∈n::b,x<=b.foldl max n:=λx f=>by
      rcases zq.mp f with rfl|f
      ·exact J
      ·exact Y x f
     have g:b.foldl max n∈n::b:=by
      rcases A with h|h
      ·rw[h];exact zW
      ·exact zZ _ h
     obtain⟨j,m,T⟩:=qD g;have c1:=P j (by simp at m;lia);have y:=e _ (q8 k);have B:(n::b).getD j 0=b.foldl max n:=by rw[zC,zX m];exact T
     have Z:(n::b).getD (argBest (λi j=>decide ((λi=>(n::b).getD i 0) i>(λi=>(n::b).getD i 0) j)) (its.toArray.size-1)) 0=(n::b)[argBest (λi j=>decide ((λi=>(n::b).getD i 0) i>(λi=>(n::b).getD i 0) j)) (its.toArray.size-1)]:=by rw[zC,zX k];rfl
     have c:=c1;rw[B]at c;rw[<-Z]at y
     congr 1
     exact Int.le_antisymm y c
   ·exact q.elim
  ·exact q.elim
 ·exact q.elim
def Ib:D->D->DH->R D
 |.ref p,.int k,G=>match G[p]? with
  |some (.lst xs)=>if -(2^63)<=k/\k<2^63/\xs.length*k.toNat<=1000000 then .ok (.ref G.length) (G++[.lst (zV k.toNat xs).flatten])else .bad
  |_=>.bad
 |_,_,_=>.bad
theorem Reps.rep(r:Reps a ds vs):∀k,Reps a (zV k ds).flatten (zV k vs).flatten
 |0=>rfl
 |k+1=>by rw[qV,qV,qH,qH];exact r.append (Reps.rep r k)
theorem ZPo:OpR X (xM .Mult) (lR2 X.K E Ib):=ZMo.mono λx y H Q h=>by
 obtain⟨a,G,d,e,hk,rfl,s,g,f,q⟩:=h;cases d with
 | ref p=>
  cases e with
  | int k=>
   unfold Ib at q;dsimp only at q;split at q
   ·rename_i n i;split at q
    ·rename_i b;obtain⟨j,l,c⟩:=s.lst i;obtain⟨hp,rfl⟩:=g;refine⟨a.m p,k,j,rfl,f,l,b.1,b.2.1,?_,λp hp=>Jj s (Reps.rep c k.toNat) q p hp⟩;rw[<-c.length];exact zA b.2.2 size6
    ·exact q.elim
   ·exact q.elim
  |_=>exact(show False from q).elim
 |_=>exact(show False from q).elim
end
end _D
namespace _D
open PySem PySem.W PyProof.Rows
def Safe(n:Nat){α:Type}(P:α->Prop):KasT α->Prop
 |.ret a=>P a
 |.ask i j k=>i<n/\j<n/\∀b,Safe n P (k b)
theorem Safe.bind{c e:Type}{f:c->KasT e}{P:c->Prop}{Q:e->Prop}(d:∀a,P a->Safe n Q (f a)):∀{t:KasT c},Safe n P t->Safe n Q (t.bind f)
 |.ret a,h=>d a h
 |.ask _ _ _,h=>⟨h.1,h.2.1,λb=>Safe.bind d (h.2.2 b)⟩
def Ents(n:Nat)(p:Array Nat):Prop:=0<n/\p.Perm (zQ n).toArray
theorem Ents.lt(h:Ents n p)(a:x∈p):x<n:=by have:=h.2.mem_iff.mp a;simpa using this
theorem Ents.pt(h:Ents n p)(k:Nat):p.getD k 0<n:=by
 by_cases hk:k<p.size
 ·have:p.getD k 0=p[k]:=by simp[Array.getD,hk]
  rw[this];exact h.lt (Array.getElem_mem hk)
 ·have:p.getD k 0=0:=by simp[Array.getD,hk]
  rw[this];exact h.1
theorem Ents.perm(h:Ents n p)(e:q.Perm p):Ents n q:=⟨h.1,e.trans h.2⟩
theorem ZCW(h:Ents n p):∀f m,Safe n (λ_=>True) (kas_asc p f m)
 |0,m=>trivial
 | f+1,m=>⟨h.pt _,h.pt _,λb=>by
   cases b with
   |true=>exact trivial
   |false=>exact ZCW h f (m+1)⟩
theorem Ry:∀f{p:Array Nat}m q,Ents n p->Safe n (λr=>Ents n r.1) (kas_desc f p m q)
 |0,p,m,q,h=>h
 | f+1,p,m,q,h=>⟨h.pt _,h.pt _,λb=>by
   cases b with
   |true=>
    by_cases a:q>0
    ·simp only[if_true,if_pos a];exact Ry f _ _ (h.perm (mirror_perm ..))
    ·simp only[if_true,if_neg a];exact Ry f _ _ h
   |false=>
    refine⟨h.pt _,h.pt _,λd=>?_⟩;cases d with
    |true=>exact h
    |false=>exact Ry f _ _ h⟩
theorem ZFJ(h:Ents n p)(m k:Nat):Safe n (λr=>Ents n r.2) (kas_tail3 m k p):=by unfold kas_tail3;refine Safe.bind (P:=λ_=>True) (λa _=>?_) (ZCW (h.perm (mirror_perm ..)) _ _);exact h.perm (mirror_perm ..)
theorem ZDC(h:Ents n p)(m k:Nat):Safe n (λr=>Ents n r.2) (kas_descPart m k p):=
 Safe.bind (P:=λr=>Ents n r.1) (λa b=>by
  split
  ·exact ZFJ (b.perm (mirror_perm ..)) _ _
  ·exact ZFJ b _ _) (Ry _ _ _ h)
theorem ZHm(h:Ents n p)(k:Nat):Safe n (λr=>Ents n r.2) (kas_count k p):=
 Safe.bind (P:=λ_=>True) (λa _=>by
  split
  ·exact h
  ·split
   ·refine⟨h.pt _,h.pt _,λc=>?_⟩;cases c with
    |true=>exact h
    |false=>exact ZDC (h.perm (mirror_perm ..)) _ _
   ·exact ZDC h _ _) (ZCW h _ _)
theorem Qo(h:Ents n p)(k:Nat):∀f l r,Safe n (λ_=>True) (kas_place p k f l r)
 |0,l,r=>trivial
 | f+1,l,r=>by
  unfold kas_place;split
  ·trivial
  ·refine⟨h.pt _,h.pt _,λc=>?_⟩;cases c with
   |true=>exact Qo h k f _ _
   |false=>exact Qo h k f _ _
theorem ZIp:∀f{p:Array Nat}k,Ents n p->Safe n (λ_=>True) (kas_bin f p k)
 |0,p,k,h=>trivial
 |f+1,p,k,h=>Safe.bind (P:=λ_=>True) (λa _=>ZIp f _ (h.perm (bubble_perm ..))) (Qo h k _ _ _)
theorem ZT0(b:0<n):Safe n (λ_=>True) (kas_sort n):=
 Safe.bind (P:=λr=>Ents n r.2) (λa c=>by
  split
  ·exact ZIp _ _ c
  ·trivial) (ZHm ⟨b,Array.Perm.refl _⟩ _)
end _D
namespace _D
open PySem PySem.Spec _L
open PyProof.Rows hiding St
def ltL:List D->List D->Option Bool
 |[],[]=>vD vG
 |[],_::_=>vD vF
 |_::_,[]=>vD vG
 |.int a::r,.int b::r'=>if a=b then ltL r r' else vD (decide (a<b))
 |.str a::r,.str b::r'=>if a=b then ltL r r' else vD (decide (a.cps.toList<b.cps.toList))
 |_::_,_::_=>vE
def ltD:D->D->Option Bool
 |.tup xs,.tup ys=>ltL xs ys
 |_,_=>vE
def ltI(xs:List D)(i j:Nat):Bool:=(ltD (xs.getD i .non) (xs.getD j .non)).getD vG
noncomputable def isIt:D->Bool
 |.tup (.int _::_)=>vF
 |_=>vG
noncomputable def Rq:D->Bool
 |.tup (.str _::_)=>vF
 |_=>vG
def Nf(xs:List D):Bool:=(xs.all isIt||xs.all Rq)&&xs.all λx=>xs.all λy=>(ltD x y).isSome
def Js(xs:List D):List D:=if xs.length<2 then xs else(Br (ltI xs) (PySem.W.kas_sort xs.length)).toList.map λi=>xs.getD i .non
def M8(ds:List D)(G:DH):R D:=match ds with
 |[d]=>match Gj d G with
  |some xs=>if(xs.length<64/\(Js xs).length<64)/\Nf xs=vF then .ok (.ref G.length) (G++[.lst (Js xs)])else .bad
  |none=>.bad
 |_=>.bad
theorem ZFn(h:∀i j,i<n->j<n->∀C:Bool->xB->Prop,C (lt i j) s->cmp i j C s){c:Type}{P:c->Prop}{Q:c->xB->Prop}:
  ∀{t:PySem.W.KasT c},Safe n P t->Q (Br lt t) s->t.kasWp cmp Q s
 |.ret _,_,a=>a
 |.ask i j k,b,a=>h i j b.1 b.2.1 _ (ZFn h (b.2.2 (lt i j)) a)
section
variable{prog:x0}{w:xE}{A:xj}{s:xB}
theorem ZRU(h:Q (decide (a<b)) s):vY (vZ prog w) A (oneLt' c (.int a t) (.int b u)) Q E s:=by
 cases c with
 |true=>exact oneLt_int h
 |false=>exact PySem.W.kat_one _ _ (lt_int (Q:=PySem.W.BoolBack Q) h)
theorem ZOS(h:Q (decide (a.cps.toList<b.cps.toList)) s):vY (vZ prog w) A (oneLt' c (.str a t) (.str b u)) Q E s:=by
 cases c with
 |true=>exact oneLt_str h
 |false=>exact PySem.W.kat_one _ _ (lt_str (Q:=PySem.W.BoolBack Q) h)
theorem Wf:∀{xs ys:List D}{vs ws:List V}{us o:List xD}{i:Nat}{k:Bool},Reps a xs vs->Reps a ys ws->Vals vs us->Vals ws o->ltL xs ys=vD k->fin=decide (us.length<o.length)->Q k s->
  PySem.W.KatLex prog w A vF fin Q (us.zip o) i s
 |[],[],vs,ws,us,o,i,k,g,f,b,c,h,j,d=>by
  cases(show vs=[]from g);cases(show ws=[]from f);cases b;cases c
  cases h;subst j;exact PySem.W.kat_nil d
 |[],y::ys,vs,ws,us,o,i,k,g,f,b,c,h,j,d=>by
  cases(show vs=[]from g);cases b
  obtain⟨E,wr,rfl,_,_⟩:=f;cases c;cases h;subst j;exact PySem.W.kat_nil (by simpa using d)
 |x::xs,[],vs,ws,us,o,i,k,g,f,b,c,h,j,d=>by
  cases(show ws=[]from f);cases c
  obtain⟨E,wr,rfl,_,_⟩:=g;cases b;have hk:k=vG:=by cases x<;>(simp[ltL]at h;exact h)
  subst hk;subst j;exact PySem.W.kat_nil (by simpa using d)
 | x::xs,y::ys,vs,ws,us,o,i,k,g,f,b,c,h,j,d=>by
  have p:(∃m n,x=.int m/\y=.int n)∨(∃m n,x=.str m/\y=.str n):=by
   cases x<;>cases y<;>first
    |exact .inl ⟨_,_,rfl,rfl⟩
    |exact .inr ⟨_,_,rfl,rfl⟩
    |(exfalso;simp[ltL]at h)
  obtain⟨B,F,rfl,C,g⟩:=g;obtain⟨v,wr,rfl,z,f⟩:=f;rcases p with⟨m,n,rfl,rfl⟩|⟨m,n,rfl,rfl⟩
  ·cases(show B=V.int m from C)
   cases(show v=V.int n from z)
   cases b with
   | cons r b=>
    cases c with
    | cons q c=>
     obtain⟨t,rfl⟩:=r;obtain⟨u,rfl⟩:=q;rw[List.zip_cons_cons];refine PySem.W.kat_cons (wpAny_eqBool_int (PySem.W.kat_go (λl=>?_) λl=>?_))
     ·have e:m=n:=by simpa using l
      rw[show ltL (.int m::xs) (.int n::ys)=if m=n then ltL xs ys else vD (decide (m<n))from rfl,if_pos e]at h
      exact PySem.W.kat_yes (Wf g f b c h (by simpa using j) d)
     ·have e:m≠n:=by simpa using l
      rw[show ltL (.int m::xs) (.int n::ys)=if m=n then ltL xs ys else vD (decide (m<n))from rfl,if_neg e]at h
      cases h;exact PySem.W.kat_no (ZRU d)
  ·cases(show B=V.str m from C)
   cases(show v=V.str n from z)
   cases b with
   | cons r b=>
    cases c with
    | cons q c=>
     obtain⟨t,rfl⟩:=r;obtain⟨u,rfl⟩:=q;rw[List.zip_cons_cons];refine PySem.W.kat_cons (wpAny_eqBool_str (PySem.W.kat_go (λl=>?_) λl=>?_))
     ·have e:m=n:=by simpa using l
      rw[show ltL (.str m::xs) (.str n::ys)=if m=n then ltL xs ys else vD (decide (m.cps.toList<n.cps.toList))from rfl,if_pos e]at h
      exact PySem.W.kat_yes (Wf g f b c h (by simpa using j) d)
     ·have e:m≠n:=by simpa using l
      rw[show ltL (.str m::xs) (.str n::ys)=if m=n then ltL xs ys else vD (decide (m.cps.toList<n.cps.toList))from rfl,if_neg e]at h
      cases h;exact PySem.W.kat_no (ZOS d)
end
section
variable{X:Cx}{E:XK}{vC:List (xz×Obj)}{σ:St}{s:xB}{H:Hp}{h':Heap}
theorem ZGA(I:Inv X vC σ H s)(k:∀b o,b≠X.env.locals->s.heap.get? b=vD o->h'.get? b=vD o)(ns:∀m,s.heap.Ns X.env.locals m->h'.Ns X.env.locals m):Inv X vC σ H {s with heap:=h',toks:=t'}:=by
 refine I.step (g':=s.gens) (d':=s.drawn) (ch:=[]) (λ_ z=>nomatch z) (λb o d _ _ e _=>k b o d e) (λb o d _ _ e _=>⟨o.slots,k b o d e⟩) (λ_ _ _ _ n=>n) (λb o _ e=>?_) (λ_ _ e=>e) (λ_ _ _ e=>e)
  (λb r e=>⟨#[],by rw[e];simp⟩) ns (λb u e=>?_) I.bare
 ·by_cases h:b=X.env.locals
  ·obtain⟨m,l,_⟩:=I.loc;obtain⟨p,_,_,f,_⟩:=ns m l;exact⟨p,by rw[h];exact f⟩
  ·exact⟨o,k b o h e⟩
 ·have g:∀c w,H c=vD w->c≠X.env.locals:=λc w e z=>by rw[z,I.free]at e;cases e
  refine(I.hok b u e).stay (λc v j q=>k c v ?_ q) (λ_ q=>q) λ_ _ q=>q
  rcases j with z|z
  ·rw[z];exact g b u e
  ·exact g c _ z
end
section
variable{prog:x0}{w:xE}{A:xj}{E:xD->xB->Prop}{s:xB}
theorem ZTE{l:xz}{vs:List xD}{Q:xD->xB->Prop}(p:s.heap.IsList l vs.toArray)(hz:vs.length<64)
  (h:∀g,g.get? (s.heap.objs.size+1)=vD (seqObj "list" vs.toArray 0)->(∀b o,s.heap.get? b=vD o->g.get? b=vD o)->
   vY (vZ prog w) A.in1.in1 (Builtin.«list.sort» ⟨[.ref (s.heap.objs.size+1)],[]⟩) (λe s'=>e=.done (.ret .none)/\Q (.ref (s.heap.objs.size+1)) s') E {s with heap:=g}):
  vY (vZ prog w) A (call (.builtin "sorted") [.ref l]) Q E s:=by
 have d:vs.length<=sizeLine:=by rw[vX];lia
 refine Calls.call_function_entry kind_sorted plain_sorted entry_sorted (args_sorted1 _) ?_;unfold Builtin.«sorted»;refine vz (m:=checkCount "sorted" 1 1 _) (v6 (vz (collect_list p (vz (wpAny_newList ?_ d)) d)))
 generalize n:(s.heap.push (seqObj "list" #[] 0)).update s.heap.objs.size (Obj.mapSeq (·++vs.toArray))=f
 have i:f.objs.size=s.heap.objs.size+1:=by rw[<-n,Heap.size_update,size_push']
 have r:∀b o,s.heap.get? b=vD o->f.get? b=vD o:=λb o q=>by have c:b<s.heap.objs.size:=zx q;rw[<-n,Heap.get?_update_ne _ _ _ _ (zE c),Heap.get?_push_ne _ _ _ (zE c)];exact q
 have k:(f.push (seqObj "list" vs.toArray 0)).get? (s.heap.objs.size+1)=vD (seqObj "list" vs.toArray 0):=by rw[<-i];exact z0 _ rfl
 have t:=h (f.push (seqObj "list" vs.toArray 0)) k λb o q=>zJ _ (r b o q)
 show vY _ _ _ _ _ {s with heap:=f.push (seqObj "list" vs.toArray 0)};rw[i];refine vz (vk (vx slot_list_sort ⟨_,k,rfl⟩ entry_list_sort ?_ (args_list_sort _)));refine v3 t (λe s' j=>?_) λ_ _ x=>x
 exact⟨_,j.1,v6 ⟨_,rfl,j.2⟩⟩
theorem ZM6{a:xz}{vs:List xD}{n:Nat}{P:Fin->xB->Prop}(ho:s.heap.get? a=vD (seqObj "list" vs.toArray n))(u:vs.length<2)
  (h:∀h' c,h'.get? a=vD (seqObj "list" vs.toArray c)->(∀b o,b≠a->s.heap.get? b=vD o->h'.get? b=vD o)->P (.done (.ret .none)) {s with heap:=h'}):vY (vZ prog w) A (Builtin.«list.sort» ⟨[.ref a],[]⟩) P E s:=by
 have y:a<s.heap.objs.size:=zx ho;have x:=qB.update s.heap a (Obj.mapSeq λ_=>(#[]:Array xD));obtain⟨m,j⟩:∃m,(s.heap.update a (Obj.mapSeq λ_=>(#[]:Array xD))).get? a=vD (seqObj "list" #[] m):=⟨_,get?_update_seq ho λ_=> #[]⟩;rw[list_sort_plain];refine vz (listItems_at ho rfl (vz (listUpdate_at ho rfl ?_ (by rw[zY,vX];lia) (jH _))))
 refine vz (seqEpoch_at j rfl (vz (wpAny_newTuple (vz (wpAny_newList (vk ?_) (jH _))) (by show vs.length<=_;rw[vX];lia))));dsimp only;have g:vs.toArray.size<2:=by rw[zY];lia
 rw[if_pos g,if_pos g];refine vz (v6 (vz (wpAny_of_eq (a:=((),SortSt.mk' general' (vs.toArray.zip vs.toArray) #[] 7 vE)) rfl ?_)));dsimp only
 have f:(arrOf (SortSt.mk' general' (vs.toArray.zip vs.toArray) #[] 7 vE)).map (·.2)=vs.toArray:=by
  show(vs.toArray.zip vs.toArray).map (·.2)=vs.toArray
  refine Array.ext (by simp) λi z u=>by simp
 rw[f];generalize r:((s.heap.update a (Obj.mapSeq λ_=>(#[]:Array xD))).push {cls:=.type "tuple",data:=.seq vs.toArray.toList.toArray}).push {cls:=.type "list",data:=.seq ([]:List xD).toArray}=k;have e:k.get? a=vD (seqObj "list" #[] m):=by rw[<-r];exact zJ _ (zJ _ j)
 have v:∀b o,b≠a->s.heap.get? b=vD o->k.get? b=vD o:=λb o l q=>by rw[<-r];exact zJ _ (zJ _ (x.extBut b o l q))
 refine vz (seqEpoch_at (o:=seqObj "list" #[] m) ?_ rfl ?_)
 ·exact e
 have t:=qB.update k a (Obj.mapSeq λ_=>vs.toArray);obtain⟨p,hc2⟩:∃p,(k.update a (Obj.mapSeq λ_=>vs.toArray)).get? a=vD (seqObj "list" vs.toArray p):=⟨_,get?_update_seq e λ_=>vs.toArray⟩;refine vz (listUpdate_at e rfl ?_ (jH _) (by show vs.toArray.size<=_;rw[zY,vX];lia));simp only[bne_self_eq_false,jQ,if_false];exact v6 (h _ p hc2 λb o l q=>t.extBut b o l (v b o l q))
end
theorem ZNL:xN "sorted"=vD (.builtin "sorted"):=by decide +kernel
section
variable{X:Cx}{E:XK}{vC:List (xz×Obj)}{σ:St}{s:xB}{H:Hp}
theorem Rv(I:Inv X vC σ a.H s)(hk:a.K=X.K)(r:Rep a d v)(g:RelV v u)(h:d=.tup xs):∃p o vs us n,u=.ref p/\s.heap.get? p=vD o/\o.cls=.type "tuple"/\o.data=.seq us n/\Vals vs us.toList/\Reps a xs vs:=by subst h;obtain⟨p,vs,rfl,c,rv⟩:=r;cases g;rw[hk]at c;obtain⟨b,e,⟨o,j,f,n,i⟩,k⟩:=I.tuple c;exact⟨p,o,vs,b.toArray,n,rfl,j,f,i,by simpa using e,rv⟩
theorem ZOg(h:isIt d=vF):∃i r,d=.tup (.int i::r):=by
 unfold isIt at h;split at h
 ·exact⟨_,_,rfl⟩
 ·cases h
theorem ZQ1(h:Rq d=vF):∃i r,d=.tup (.str i::r):=by
 unfold Rq at h;split at h
 ·exact⟨_,_,rfl⟩
 ·cases h
theorem ZJw(I:Inv X vC σ a.H s)(hk:a.K=X.K):∀{xs:List D}{vs:List V}{us:List xD},Reps a xs vs->Vals vs us->xs.all isIt=vF->∃fs,PySem.W.KatTups s.heap us fs/\fs.length=us.length/\∀v∈fs,∃i t,v=.int i t
 |[],vs,us,r,v,h=>by
  cases(show vs=[]from r);cases v
  exact⟨[],.nil,rfl,λ_ c=>nomatch c⟩
 | d::xs,vs,us,r,v,h=>by
  rw[qN,zD]at h;obtain⟨L,P,rfl,j,k⟩:=r;cases v with
  | cons C x=>
   obtain⟨i,M,rfl⟩:=ZOg h.1;obtain⟨p,o,N,f,n,rfl,g,l,u,e,y⟩:=Rv I hk j C rfl;obtain⟨m,wr,rfl,F,J⟩:=y
   cases(show m=V.int i from F)
   obtain⟨fs,B,A,w⟩:=ZJw I hk k x h.2;have b:∃t,f[0]?=vD (.int i t):=by
    cases b:f.toList with
    |nil=>rw[b]at e;cases e
    | cons z O=>
     rw[b]at e;cases e with
     |cons q _=>
      obtain⟨t,rfl⟩:=q;exact⟨t,by rw[<-qU,b];rfl⟩
   obtain⟨t,b⟩:=b;refine⟨.int i t::fs,.cons g l u b B,by simp[A],λv c=>?_⟩;rcases zq.mp c with rfl|c
   ·exact⟨i,t,rfl⟩
   ·exact w v c
theorem ZFj(I:Inv X vC σ a.H s)(hk:a.K=X.K):∀{xs:List D}{vs:List V}{us:List xD},Reps a xs vs->Vals vs us->xs.all Rq=vF->∃fs,PySem.W.KatTups s.heap us fs/\fs.length=us.length/\∀v∈fs,∃i t,v=.str i t
 |[],vs,us,r,v,h=>by
  cases(show vs=[]from r);cases v
  exact⟨[],.nil,rfl,λ_ c=>nomatch c⟩
 | d::xs,vs,us,r,v,h=>by
  rw[qN,zD]at h;obtain⟨L,P,rfl,j,k⟩:=r;cases v with
  | cons C x=>
   obtain⟨i,M,rfl⟩:=ZQ1 h.1;obtain⟨p,o,N,f,n,rfl,g,l,u,e,y⟩:=Rv I hk j C rfl;obtain⟨m,wr,rfl,F,J⟩:=y
   cases(show m=V.str i from F)
   obtain⟨fs,B,A,w⟩:=ZFj I hk k x h.2;have b:∃t,f[0]?=vD (.str i t):=by
    cases b:f.toList with
    |nil=>rw[b]at e;cases e
    | cons z O=>
     rw[b]at e;cases e with
     |cons q _=>
      obtain⟨t,rfl⟩:=q;exact⟨t,by rw[<-qU,b];rfl⟩
   obtain⟨t,b⟩:=b;refine⟨.str i t::fs,.cons g l u b B,by simp[A],λv c=>?_⟩;rcases zq.mp c with rfl|c
   ·exact⟨i,t,rfl⟩
   ·exact w v c
theorem ZEp(I:Inv X vC σ a.H s)(l:Sim a G)(q:out E a (.ok (.ref G.length) (G++[.lst ys])) Q)(r:Reps a ys ws)(v:Vals ws us)(hz:us.length<64)
  (p:f.get? (s.heap.objs.size+1)=vD (seqObj "list" us.toArray c)) (k:∀b o,b≠X.env.locals->s.heap.get? b=vD o->f.get? b=vD o) (ns:∀m,s.heap.Ns X.env.locals m->f.Ns X.env.locals m):
  EP X vC σ Q (.ref (s.heap.objs.size+1)) {s with heap:=f}:=by
 have e:s.heap.objs.size<=s.heap.objs.size+1:=j9 _;obtain⟨g,j,t,u,n,h⟩:=I.Hx (H':=a.H) e (I.hok.fresh e);have i:Inv X vC σ a.H {s with heap:=f}:=ZGA (t':=s.toks) I k ns;refine⟨.ref (s.heap.objs.size+1),_,ZAm i g (zA I.sz e) j n h (o:=.lst ws) ⟨?_,us,c,v,p⟩,rfl,Jj l r q _ g⟩;rw[v.length,vX];lia
end
section
variable{X:Cx}{E:XK}
theorem ZUS(h:Nf xs=vF)(a:x∈xs)(b:y∈xs):∃k,ltD x y=vD k:=by unfold Nf at h;rw[zD]at h;exact jJ.mp (qy.mp (qy.mp h.2 x a) y b)
theorem ZNg(h:ltD x y=vD k):∃xs ys,x=.tup xs/\y=.tup ys/\ltL xs ys=vD k:=by
 unfold ltD at h;split at h
 ·exact⟨_,_,rfl,rfl,h⟩
 ·cases h
theorem ZE9(r:Reps a xs vs):∀l:List Nat,(∀i∈l,i<xs.length)->Reps a (l.map λi=>xs.getD i .non) (l.map λi=>vs.getD i .non)
 |[],_=>rfl
 |i::l,h=>by
  have b:i<xs.length:=h i zW;obtain⟨v,g,rv⟩:=r.get (i:=i) (d:=xs[i]) (zX b);refine⟨vs.getD i .non,_,rfl,?_,ZE9 r l λj e=>h j (zZ _ e)⟩;have f:xs.getD i .non=xs[i]:=by simp[b]
  have c:vs.getD i .non=v:=by rw[zC,g];rfl
  show Rep a (xs.getD i .non) (vs.getD i .non);rw[f,c];exact rv
theorem ZGS(r:Vals vs us):∀l:List Nat,(∀i∈l,i<vs.length)->Vals (l.map λi=>vs.getD i .non) (l.map λi=>us.getD i .none)
 |[],_=>.nil
 |i::l,h=>by
  have a:i<vs.length:=h i zW;obtain⟨u,f,b⟩:=r.get (i:=i) (x:=vs[i]) (zX a);rw[zw,zw];have e:vs.getD i .non=vs[i]:=by simp[a]
  have c:us.getD i .none=u:=by rw[zC,f];rfl
  rw[e,c];exact .cons b (ZGS r l λj d=>h j (zZ _ d))
theorem ZI4:∀{t:PySem.W.KasT (Array Nat)},Safe n P t->P (Br lt t)
 |.ret _,h=>h
 |.ask i j k,h=>ZI4 (t:=k (lt i j)) (h.2.2 (lt i j))
theorem ZHJ:∀f{p:Array Nat}k,Ents n p->Safe n (Ents n) (PySem.W.kas_bin f p k)
 |0,p,k,h=>h
 |f+1,p,k,h=>Safe.bind (P:=λ_=>True) (λa _=>ZHJ f _ (h.perm (bubble_perm ..))) (Qo h k _ _ _)
theorem ZH0(c:0<n):Safe n (Ents n) (PySem.W.kas_sort n):=
 Safe.bind (P:=λr=>Ents n r.2) (λa b=>by
  split
  ·exact ZHJ _ _ b
  ·exact b) (ZHm ⟨c,Array.Perm.refl _⟩ _)
theorem ZPc:CallR X (.builtin "sorted") (lRn X.K E M8):=by
 intro vC s σ H vs us Q I rs h;obtain⟨a,G,ds,hk,rfl,sm,r,q⟩:=h;unfold M8 at q;split at q
 ·rename_i d;obtain⟨v,rfl,rv⟩:=reps1 r;split at q
  ·rename_i xs hs;split at q
   ·rename_i hc;obtain⟨p,ws,rfl,h1,r1⟩:=Oi sm rv hs;rw[hk]at h1;obtain⟨u,rfl,ru⟩:=vals1 rs;cases ru;obtain⟨its,hv,pl,hz⟩:=I.list h1;have hlx:xs.length=its.length:=r1.length.trans hv.length;refine ZTE pl.isList (by lia) λh1 hD k1=>?_
    obtain⟨m,hn,_⟩:=id I.loc;have hns1:h1.Ns X.env.locals m:=hn.keeps k1;have hDL:s.heap.objs.size+1≠X.env.locals:=jk (qP I.lt);have nsAll:∀{h2:Heap},h2.Ns X.env.locals m->∀m',s.heap.Ns X.env.locals m'->h2.Ns X.env.locals m':=λ{h2}hh m' hm'=>by have e1:=hn.eq_nsMap;have e2:=hm'.eq_nsMap;rw[e2,<-e1];exact hh
    by_cases hlen:xs.length<2
    ·refine ZM6 (s:={s with heap:=h1}) hD (by lia) λh2 c hD2 k2=>⟨rfl,?_⟩
     have es:Js xs=xs:=by unfold Js;rw[if_pos hlen]
     rw[es]at q;refine ZEp I sm q r1 hv (by lia) hD2 (λb o hb e=>k2 b o ?_ (k1 b o e)) (nsAll (hns1.at λo e=>k2 _ o (Ne.symm hDL) e));exact zE (qP (zx e))
    ·have es:Js xs=(Br (ltI xs) (PySem.W.kas_sort xs.length)).toList.map λi=>xs.getD i .non:=by unfold Js;rw[if_neg hlen]
     rw[es]at q;refine PySem.W.kat_list_sort (s:={s with heap:=h1}) (Att.ZLL hns1) (news:=Att.ledger h1 X.env.locals (s.heap.objs.size+1)) ?_ hD hDL (Att.Vt _ _) (λ⟨_,_⟩ hp=>(Att.O2.mp hp).2.1) (by lia) (by lia) λe1 h2 F2 N2=>?_
     ·rintro⟨b,o⟩ hp;obtain⟨n1,n2,e⟩:=Att.O2.mp hp;exact⟨e,n1,Att.Vt _ _⟩
     have k2:∀b o,b≠X.env.locals->s.heap.get? b=vD o->h2.get? b=vD o:=λb o hb e=>
      (N2 (b,o) (zZ _ (Att.O2.mpr ⟨hb,zE (qP (zx e)),k1 b o e⟩))).1
     have I2:Inv X vC σ a.H {s with heap:=h2}:=ZGA (t':=s.toks) I k2 (nsAll F2.ns);have hpos:0<its.length:=by lia
     have fin:(PySem.W.kas_sort its.length).kasWp (PySem.W.kas_ask X.prog X.w X.A.in1.in1 (tuples' vF) its) (λp s''=>PySem.W.KasFin (Att.Rz h1) X.env.locals m (s.heap.objs.size+1) e1 (p.toList.map λi=>its.getD i Value.none) (λs3=>PySem.Fin.done (.ret .none)=PySem.Fin.done (.ret .none)/\EP X vC σ Q (.ref (s.heap.objs.size+1)) s3) s'') {s with heap:=h2}:=by
      refine ZFn (lt:=ltI xs) (λi j hi hj C hC=>?_) (ZH0 hpos) ?_
      ·have hxi:i<xs.length:=by lia
       have hxj:j<xs.length:=by lia
       obtain⟨v1,ev1,rv1⟩:=r1.get (i:=i) (d:=xs[i]) (zX hxi);obtain⟨v2,ev2,rv2⟩:=r1.get (i:=j) (d:=xs[j]) (zX hxj);obtain⟨u1,eu1,ru1⟩:=hv.get ev1;obtain⟨u2,eu2,ru2⟩:=hv.get ev2;obtain⟨k,hlt⟩:=ZUS hc.2 (q8 hxi) (q8 hxj);obtain⟨as,bs,ea,eb,hlL⟩:=ZNg hlt;obtain⟨p1,o1,vs1,us1,n1,rfl,ho1,_,hd1,hv1,hr1⟩:=Rv I2 hk rv1 ru1 ea;obtain⟨p2,o2,vs2,us2,n2,rfl,ho2,_,hd2,hv2,hr2⟩:=Rv I2 hk rv2 ru2 eb
       have hC':C k {s with heap:=h2}:=by
        have:ltI xs i j=k:=by
         unfold ltI;have e1:xs.getD i .non=xs[i]:=by simp[hxi]
         have e2:xs.getD j .non=xs[j]:=by simp[hxj]
         rw[e1,e2,hlt];rfl
        rw[<-this];exact hC
       unfold PySem.W.kas_ask;have g1:its.getD i Value.none=.ref p1:=by rw[zC,eu1];rfl
       have g2:its.getD j Value.none=.ref p2:=by rw[zC,eu2];rfl
       rw[g1,g2];exact PySem.W.kat_lt ho1 hd1 ho2 hd2 (Wf hr1 hr2 hv1 hv2 hlL (by simp) hC')
      ·have hen:Ents its.length (Br (ltI xs) (PySem.W.kas_sort its.length)):=ZI4 (ZH0 hpos);rw[hlx]at q;refine PySem.W.KasFin.intro F2 N2 (.head λ⟨_,_⟩ hp=>(Att.O2.mp hp).2.1) λh3 c F3 N3=>⟨rfl,?_⟩
       have hin:∀i∈(Br (ltI xs) (PySem.W.kas_sort its.length)).toList,i<its.length:=λi hi=>hen.lt (by simpa using hi)
       refine ZEp I sm q (ZE9 r1 _ λi hi=>by rw[hlx];exact hin i hi) (ZGS hv _ λi hi=>by rw[hv.length];exact hin i hi) ?_ (N3 _ zW).1 (λb o hb e=>?_) (nsAll F3.ns)
       ·rw[hlx]at es;have:=hc.1.2;rw[es]at this;simpa using this
       ·exact(N3 (b,o) (zZ _ (Att.O2.mpr ⟨hb,zE (qP (zx e)),k1 b o e⟩))).1
     unfold Nf at hc;rw[zD,jI]at hc;rcases hc.2.1 with hall|hall
     ·obtain⟨fs,t1,t2,t3⟩:=ZJw I2 hk r1 hv hall;refine PySem.W.kat_kind (T:=.type "int") t1 (by lia) (λv hm=>?_) (by decide) ?_
      ·obtain⟨i,t,rfl⟩:=t3 v hm;exact PySem.W.Looks.now
      ·exact fin
     ·obtain⟨fs,t1,t2,t3⟩:=ZFj I2 hk r1 hv hall;refine PySem.W.kat_kind (T:=.type "str") t1 (by lia) (λv hm=>?_) (by decide) ?_
      ·obtain⟨i,t,rfl⟩:=t3 v hm;exact PySem.W.Looks.now
      ·exact fin
   ·exact q.elim
  ·exact q.elim
 ·exact q.elim
end
section
variable{S:DSt}{G:DH}
@[simp]theorem ZVt:Jr to ti te f S G=(to S G).toS λo c=>(ti S c).toS λi e=>(ixL o i e).toS λx b=>(te S b).toS λy a=>(f x y a).toS λz g=>(Jw o i z g).toS λ_ d=>.nx S d:=id rfl
theorem Vc(h:G[p]?=vD (.lst xs))(e:atI xs k=vD d):ixL (.ref p) (.int k) G=.ok d G:=by unfold ixL;simp only;rw[h];simp only;rw[e]
noncomputable def Dl(xs:List D):List D:=xs.zipIdx.map λq=>.tup [.int q.2,q.1]
noncomputable def Ly(xs ys:List D):List D:=(xs.zip ys).map λq=>.tup [q.1,q.2]
theorem ZG6{f:Nat->DH->Option (Option D)}{g:DG}{b:DS}{xs:List D}(h:∀j G,f j G=vD xs[j]?):∀(n j:Nat),j+n=xs.length->∀S G,Dh f g b n j S G=Aq g b (xs.drop j) S G
 |0,j,e,S,G=>by
  unfold Dh;rw[h,zy (by lia),qJ (by lia)]
  rfl
 |n+1,j,e,S,G=>by
  have a:j<xs.length:=by lia
  unfold Dh;rw[h,zX a,qQ a,Bu];have:Dh f g b n (j+1)=Aq g b (xs.drop (j+1)):=by funext S G;exact ZG6 h n (j+1) (by lia) S G
  rw[this]
theorem Pb(h:∀j G,f j G=vD xs[j]?)(a:n=xs.length):Dh f g b n 0 S G=Aq g b xs S G:=by rw[ZG6 h n 0 (by lia)];rfl
theorem Ru(j:Nat)(G:DH):Do 0 (.fl xs) j G=vD (Dl xs)[j]? :=by
 unfold Do Dl;simp only[Bh,zj,List.getElem?_zipIdx]
 cases xs[j]?<;>simp
theorem ZR6(j:Nat)(G:DH):Do 0 (.tup xs) j G=vD (Dl xs)[j]? :=by
 unfold Do Dl;simp only[Bh,zj,List.getElem?_zipIdx]
 cases xs[j]?<;>simp
theorem Ik:(Dl xs).length=xs.length:=by simp[Dl]
@[simp]theorem ZVQ:Ez [.fl xs] G=.ok (.fn xs.length (Do 0 (.fl xs))) G:=by simp[Ez,Ir,Bh,lenOf]
@[simp]theorem ZNh:Dh (Do 0 (.fl xs)) g b xs.length 0 S G=Aq g b (Dl xs) S G:=Pb Ru Ik.symm
@[simp]theorem ZVR:Dh (Do 0 (.tup xs)) g b xs.length 0 S G=Aq g b (Dl xs) S G:=Pb ZR6 Ik.symm
theorem ZJU{f:Nat->DH->Option (Option D)}{g:DG}{c:DB}{te:DE}{F:D->Option D}{xs:List D}(i:∀j,f j G=vD xs[j]?)(h:∀x∈xs,CStep g c te S G x (F x)):
  ∀(n j:Nat),xs.length<=j+n->De f g c te S n j G=.ok ((xs.drop j).filterMap F) G
 |0,j,m=>by
  unfold De;rw[i,zy (by lia)];simp only;rw[qJ (by lia)]
  rfl
 | n+1,j,m=>by
  unfold De;rw[i];by_cases a:j<xs.length
  ·have k:=ZJU i h n (j+1) (by lia);obtain⟨p,l,b⟩:=h xs[j] (q8 a);rw[zX a];simp only[l,R.Hu];rw[qQ a,q9];rcases b with⟨b,e⟩|⟨b,d,e,o⟩
   ·simp[b,e,k]
   ·simp[b,e,o,k]
  ·rw[zy (by lia),qJ (by lia)]
   rfl
theorem Ur{f:Nat->DH->Option (Option D)}{g:DG}{c:DB}{te:DE}{F:D->Option D}{xs:List D}{n:Nat}(a:∀j,f j G=vD xs[j]?)(h:∀x∈xs,CStep g c te S G x (F x))(b:xs.length<=n):
  De f g c te S n 0 G=.ok (xs.filterMap F) G:=ZJU a h n 0 (by lia)
theorem Xa(c:Bh d G=vD xs)(b:Bh e G=vD ys)(j:Nat):Ew [d,e] j G=vD (Ly xs ys)[j]? :=by
 unfold Ew Ly;simp only[Gq,c,b,zj,List.getElem?_zip_eq_some]
 have a:(xs.zip ys)[j]?=match xs[j]?,ys[j]? with
  |some x,vD y=>vD (x,y)
  |_,_=>vE:=by
  rw[List.zip,List.getElem?_zipWith]
  cases xs[j]?<;>cases ys[j]?<;>rfl
 rw[a];cases xs[j]? with
 |none=>rfl
 |some x=>
  cases ys[j]? with
  |none=>rfl
  |some y=>rfl
theorem Tv(b:Bh d G=vD xs)(a:Bh e G=vD ys):Et 2 [d,e] G=.ok (.fn xs.length (Ew [d,e])) G:=by simp[Et,Ir,b,a,lenOf]
@[simp]theorem ZGc:Bh (.fl xs) G=vD xs:=id rfl
@[simp]theorem Ji:Bh (.tup xs) G=vD xs:=id rfl
theorem ZLU(h:G[i]?=vD (.lst xs)):Bh (.ref i) G=vD xs:=by simp[Bh,h]
theorem ZEo(h:Bh d G=vD ((n::ns).map D.int)):Hk [d] G=.ok (.int (ns.foldl min n)) G:=by simp only[Hk,h,Xm]
theorem ZHz(h:Bh d G=vD ((n::ns).map D.int)):Hq [d] G=.ok (.int (ns.foldl max n)) G:=by simp only[Hq,h,Xm]
theorem ZEy{p:Nat}{k:Nat}{d:D}(h:G[p]?=vD (.lst [d]))(hk:k<=1000000):Ib (.ref p) (.int (k:Int)) G=.ok (.ref G.length) (G++[.lst (zV k d)]):=by
 unfold Ib;simp only;rw[h];simp only;have e:(zV k [d]).flatten=zV k d:=by
  induction k with
  |zero=>rfl
  |succ k a=>rw[qV,qH,a (by lia),qV];rfl
 rw[if_pos ⟨by lia,by lia,by simpa using hk⟩,Int.toNat_natCast,e]
end
def Bts(i:Int):Prop:=i.natAbs.log2<33554432
def MulB(i j:Int):Prop:=CMul i j∨(Bts i/\Bts j)
noncomputable instance (i:Int):Decidable (Bts i):=by unfold Bts;infer_instance
noncomputable instance (i j:Int):Decidable (MulB i j):=by unfold MulB;infer_instance
theorem MulB.ok(h:MulB i j):IntMulOk i j:=by
 rcases h with h|⟨a,c⟩
 ·exact h.ok
 ·have b:∀k:Int,Bts k->Builtin.Int.intBits k<=33554432:=λk hk=>by
   unfold Builtin.Int.intBits;split
   ·exact jH _
   ·exact hk
  have c1:=b i a;have d:=b j c;have h:Builtin.Int.intTooBig (Builtin.Int.intBits i+Builtin.Int.intBits j)=vG:=by unfold Builtin.Int.intTooBig bitsLine;exact decide_eq_false (by lia)
  unfold IntMulOk;rw[h];simp
section
variable{X:Cx}{E:XK}
theorem ZOw:OpR X (xM .Mult) (rI MulB λi j=>.int (i*j)):=opI λ_ _ _ _ _ _ _ a q=>mul_int q a.ok
end
section
variable{i j:Int}{G:DH}
end
section
variable{X:Cx}{E:XK}
end
def Fq(f:Str)(v:D):List (Str×D)->List (Str×D)
 |[]=>[(f,v)]
 |(g,x)::r=>if g=f then(g,v)::r else(g,x)::Fq f v r
theorem RepF.mono(x:Ext a b)(h:RepF a fs us):RepF b fs us:=⟨h.1,h.2.mono x⟩
theorem RepF.cons(h:Rep a d v)(r:RepF a fs us):RepF a ((g,d)::fs) ((g,v)::us):=
 ⟨by simp[r.1],v,us.map (·.2),rfl,h,r.2⟩
theorem RepF.uncons(h:RepF a ((g,d)::fs) us):∃v us',us=(g,v)::us'/\Rep a d v/\RepF a fs us':=by
 obtain⟨b,j⟩:=h;cases us with
 |nil=>simp at b
 |cons q us=>
  obtain⟨n,y⟩:=q;simp only[zw,List.cons.injEq]at b;obtain⟨rfl,b⟩:=b;obtain⟨v,r,i,l,k⟩:=j;simp only[zw,List.cons.injEq]at i;obtain⟨rfl,rfl⟩:=i;exact⟨y,us,rfl,l,b,k⟩
theorem RepF.nil'(h:RepF a [] us):us=[]:=by
 obtain⟨b,_⟩:=h;cases us with
 |nil=>rfl
 |cons q us=>simp at b
theorem lkc{a:Type}{f g:Str}{x:a}{fs:List (Str×a)}:jY f ((g,x)::fs)=if(f==g)=vF then vD x else fs.lookup f:=by
 show(match f==g with
  |true=>vD x
  |false=>jY f fs)=_
 cases f==g<;>rfl
theorem RepF.look{a:Wd}{f:Str}{d:D}:∀{fs:List (Str×D)}{us:List (Str×V)},RepF a fs us->fs.lookup f=vD d->∃u,us.lookup f=vD u/\Rep a d u
 |[],us,h,e=>by simp at e
 |(g,x)::fs,us,h,e=>by
  obtain⟨v,i,rfl,j,b⟩:=h.uncons;rw[lkc]at e⊢;by_cases q:(f==g)=vF
  ·rw[if_pos q]at e⊢;cases e;exact⟨v,rfl,j⟩
  ·rw[if_neg q]at e⊢;exact RepF.look b e
theorem RepF.Zt{a:Wd}{f:Str}:∀{fs:List (Str×D)}{us:List (Str×V)},RepF a fs us->fs.lookup f=vE->us.lookup f=vE
 |[],us,h,e=>by rw[h.nil'];rfl
 |(g,x)::fs,us,h,e=>by
  obtain⟨v,d,rfl,i,b⟩:=h.uncons;rw[lkc]at e⊢;by_cases q:(f==g)=vF
  ·rw[if_pos q]at e;cases e
  ·rw[if_neg q]at e⊢;exact RepF.Zt b e
theorem RepF.put(q:Rep a d v):∀{fs:List (Str×D)}{us:List (Str×V)},RepF a fs us->RepF a (Fq f d fs) (El f v us)
 |[],us,h=>by rw[h.nil'];exact RepF.cons (fs:=[]) (us:=[]) q ⟨rfl,rfl⟩
 |(g,x)::fs,us,h=>by
  obtain⟨w,i,rfl,j,b⟩:=h.uncons;unfold Fq El;by_cases e:g=f
  ·rw[if_pos e,if_pos e];exact .cons q b
  ·rw[if_neg e,if_neg e];exact .cons j (RepF.put q b)
theorem RepF.len(h:RepF a fs us):us.length=fs.length:=by have:=congrArg xq h.1;simpa using this.symm
theorem Ext.wrI(h:a.H p=vD (.ins C dx us)):Ext a (a.put p ho):=
 ⟨rfl,zK _,λ_ _=>rfl,λq b e=>by
  show upd a.H p ho q=_;rw[Al (λz=>by subst z;rw[h]at e;cases e)];exact e,λq o u e=>by
  show upd a.H p ho q=_;rw[Al (λz=>by subst z;rw[h]at e;cases e)];exact e,λ_ t=>t.mono (λq d e=>by show upd a.H p ho q=_;rw[Al (λz=>by subst z;rw[h]at e;cases e)];exact e) (λq o u e=>by show upd a.H p ho q=_;rw[Al (λz=>by subst z;rw[h]at e;cases e)];exact e)⟩
theorem Sim.wrI(s:Sim a G)(hi:i<a.n)(d:PySem.W.nsIn a.K vQ c=vD (vD (.ref C)))(h:a.H (a.m i)=vD (.ins C dx us))(r:RepF (a.put (a.m i) (.ins C dx us')) fs' us'):
  Sim (a.put (a.m i) (.ins C dx us')) (G.set i (.ins c fs')):=by
 refine⟨by rw[j8];exact s.len,s.inj,λj o e=>?_,λj g=>?_⟩
 ·rw[jK]at e;show ORep _ o (upd a.H (a.m i) (.ins C dx us') (a.m j));by_cases b:i=j
  ·subst b;rw[if_pos rfl,if_pos (by rw[s.len];exact hi)]at e;cases e;rw[Ej];exact⟨C,dx,us',d,rfl,r⟩
  ·rw[if_neg b]at e;rw[Al λz=>b (s.inj _ _ (s.lt e) hi z).symm];exact(s.obj j o e).mono (Ext.wrI h)
 ·show upd a.H (a.m i) (.ins C dx us') (a.m j)≠vE;by_cases b:a.m j=a.m i
  ·rw[b,Ej];simp
  ·rw[Al b];exact s.tr j g
def I7(c:Str)(d:D)(G:DH):Option (List (Str×D)):=match d with
 |.ref i=>match G[i]? with
  |some (.ins c' fs)=>if c'=c then vD fs else vE
  |_=>vE
 |_=>vE
theorem Sim.ins(s:Sim a G)(r:Rep a d x)(h:I7 c d G=vD fs):
  ∃i C b us,d=.ref i/\i<a.n/\x=.ref (a.m i)/\G[i]?=vD (.ins c fs)/\PySem.W.nsIn a.K vQ c=vD (vD (.ref C))/\a.H (a.m i)=vD (.ins C b us)/\RepF a fs us:=by
 unfold I7 at h;split at h
 ·rename_i i;split at h
  ·rename_i u j e;split at h
   ·rename_i g;subst g;cases h;obtain⟨l,p⟩:=r;obtain⟨C,b,us,n,k,q⟩:=s.obj i _ e;exact⟨i,C,b,us,rfl,l,p,e,n,k,q⟩
   ·cases h
  ·cases h
 ·cases h
def Dv(c:Str)(t:DE)(f:Str):DE:=λS G=>(t S G).bind λd G1=>match I7 c d G1 with
 |some fs=>match fs.lookup f with
  |some v=>.ok v G1
  |none=>.bad
 |none=>.bad
def Er(c:Str)(to tv:DE)(f:Str):DS:=λS G=>(tv S G).toS λd G1=>(to S G1).toS λo G2=>match o with
 |.ref i=>match I7 c o G2 with
  |some fs=>if fs.length<1000 then .nx S (G2.set i (.ins c (Fq f d fs)))else .bad
  |none=>.bad
 |_=>.bad
def Fi(c:Str)(m:Str)(F:List D->DH->R D)(to:DE)(t:DA):DE:=λS G=>(to S G).bind λo G1=>match I7 c o G1 with
 |some fs=>match fs.lookup m with
  |none=>(t S G1).bind λds G2=>F (o::ds) G2
  |some _=>.bad
 |none=>.bad
def O7(c:Str)(F:List D->DH->R D)(t:DA):DE:=λS G=>(t S G).bind λds G1=>(F (.ref G1.length::ds) (G1++[.ins c []])).bind λv G2=>match v with
 |.non=>.ok (.ref G1.length) G2
 |_=>.bad
section
variable{X:Cx}{E:XK}{c f m:Str}{C:xz}{e o:xw}{es:List xw}{t ta tv:DE}{tr:DA}{pos apos pos':Pos}
theorem ZRo(M:PySem.W.nsIn X.K vQ c=vD (vD (.ref C)))(A:Cls X.K C)(L:NoAttr X.K C f)(B:QE X E e t)(I:xG e f X.env (eval e X.env)=eval e X.env:=by rfl):QE X E (.Attribute e f pos) (Dv c t f):=
 (ZKN B I).mono λY H Q h=>by
  obtain⟨a,S,G,hk,rfl,s,r,h⟩:=h;refine⟨a,S,G,hk,rfl,s,r,(Em h).imp ?_⟩;rintro v _ ⟨b,d,U,rfl,x,n,q,-,g⟩;split at g
  ·rename_i fs O;obtain⟨i,l,P,w,rfl,_,rfl,_,p,y,z⟩:=n.ins q O;have j:l=C:=by
    rw[x.k,hk,M]at p;cases p
    rfl
   subst j;split at g
   ·rename_i T F;obtain⟨u,N,J⟩:=z.look F;exact⟨b.m i,l,P,w,u,rfl,y,A,L,N,g b u (Ext.refl b) n J⟩
   ·exact g.elim
  ·exact g.elim
theorem ZQo(Y:PySem.W.nsIn X.K vQ c=vD (vD (.ref C)))(N:Cls X.K C)(U:NoAttr X.K C f)(O:QE X E o ta)(M:QE X E e tv)(T:swapsWith e (vD (.Attribute o f pos')) pos.line X.env=pure vG:=by rfl):
  QS X E (.Assign [.Attribute o f pos'] e pos) (Er c ta tv f):=
 (ZRx O M T).mono λW σ H h=>by
  obtain⟨a,S,G,hk,rfl,s,r,h⟩:=h;refine⟨a,S,G,hk,rfl,s,r,(Gw h).imp ?_⟩;rintro v _ ⟨b,d,Z,rfl,x,Q,q,-,h1⟩;refine⟨b,S,Z,x.k.trans hk,rfl,Q,r.mono x,(Gw h1).imp ?_⟩;rintro v2 _ ⟨l,d2,G2,rfl,w,z,q2,-,g⟩;split at g
  ·rename_i i;split at g
   ·rename_i fs hi;split at g
    ·rename_i I;obtain⟨i',n,F,A,P,J,rfl,eg,y,u,B⟩:=z.ins q2 hi;cases P;have p:n=C:=by
      rw[w.k,x.k,hk,Y]at y;cases y
      rfl
     subst p;have j:Ext l (l.put (l.m i) (.ins n F (El f v A))):=Ext.wrI u;have L:=z.wrI (fs':=Fq f d fs) J y u (RepF.put ((q.mono w).mono j) (B.mono j));exact⟨l.m i,n,F,A,rfl,u,N,U,by rw[B.len];exact I,g _ σ j L (((r.mono x).mono w).mono j)⟩
    ·exact g.elim
   ·exact g.elim
  ·exact g.elim
theorem ZRM{sp F:List D->DH->R D}{p:St}{H:Hp}{Q:VK}(N:PySem.W.nsIn X.K vQ c=vD (vD (.ref C)))(h:lE X.K E0 (Fi c m F ta tr) p H Q):Vw C m (lF X.K F) [] E0 (lE X.K E0 ta) (lA X.K E0 tr) p H Q:=by
 obtain⟨a,S,G,hk,rfl,s,r,h⟩:=h;refine⟨a,S,G,hk,rfl,s,r,(Em h).imp ?_⟩;rintro v _ ⟨b,d,O,rfl,x,n,q,-,g⟩;split at g
 ·rename_i fs T;obtain⟨i,z,Y,A,rfl,_,rfl,_,u,I,J⟩:=n.ins q T;have j:z=C:=by
   rw[x.k,hk,N]at u;cases u
   rfl
  subst j;split at g
  ·rename_i y;refine⟨b.m i,Y,A,rfl,I,J.Zt y,b,S,O,x.k.trans hk,rfl,n,r.mono x,(Ky g).imp ?_⟩;rintro M _ ⟨P,U,B,rfl,l,w,Z,-,L⟩;exact⟨P,B,.ref i::U,(l.k.trans x.k).trans hk,rfl,w,⟨.ref (b.m i),M,by rw[j0],q.mono l,Z⟩,L⟩
  ·exact g.elim
 ·exact g.elim
theorem U9{CX:CXT}{k:Nat}{g:xz}{b:xk}{ps:List Str}{F:List D->DH->R D}{pl:Sem Bool}(n:PySem.W.nsIn X.K vQ c=vD (vD (.ref C)))(d:Cls X.K C)(l:Meth X.K C m g)(u:FnOk X.prog X.w X.K X.mg X.base CX k g b ps (lF X.K F))(r:Room k X.A)(q:Binds X.K b ps [])
  (s:Passes CX X E0) (ho:QE X E0 o ta) (i:QA X E0 (e::es) tr) (j:notStar e=vF:=by rfl) (a:es.all notStar=vF:=by rfl)
  (p:eval (.Call (.Attribute o m apos) (e::es) [] pos) X.env=(do
   let ov<-eval o X.env
   standAt apos.atName
   let(f,first)<-holding [ov] (getMethod ov m pl)
   callWith pos f first (xH pos (vW (e::es) X.env)) (xI pos (xT [] X.env))):=by rfl):QE X E0 (.Call (.Attribute o m apos) (e::es) [] pos) (Fi c m F ta tr):=
 (ZNy (pl:=pl) ho d l u r q .nil s i (Ks e es X.env j) (M7 pos X.env es a) p).mono λv H Q h=>ZRM (sp:=F) n h
theorem ZDE(P:PySem.W.nsIn X.K vQ c=vD (vD (.ref C)))(L:Cls X.K C)(l:Meth X.K C m g)(I:FnOk X.prog X.w X.K X.mg X.base CX k g fd ps (lF X.K F))(U:Room k X.A)(N:Binds X.K fd ps [])
  (O:Passes CX X E0) (ho:QE X E0 o ta)
  (M:eval (.Call (.Attribute o m apos) [] [] pos) X.env=(do
   let ov<-eval o X.env
   standAt apos.atName
   let(f,first)<-holding [ov] (getMethod ov m pl)
   callWith pos f first (xH pos (vW [] X.env)) (xI pos (xT [] X.env))):=by rfl):QE X E0 (.Call (.Attribute o m apos) [] [] pos) (Fi c m F ta Ab):=
 (ZT4 (pl:=pl) ho L l I U N .nil O M).mono λσ H Q h=>by
  obtain⟨a,S,G,hk,rfl,s,r,h⟩:=h;refine⟨a,S,G,hk,rfl,s,r,(Em h).imp ?_⟩;rintro v _ ⟨b,d,T,rfl,x,p,q,-,j⟩;split at j
  ·rename_i fs Y;obtain⟨i,y,Z,z,rfl,_,rfl,_,u,B,J⟩:=p.ins q Y;have n:y=C:=by
    rw[x.k,hk,P]at u;cases u
    rfl
   subst n;split at j
   ·rename_i l;exact⟨b.m i,Z,z,rfl,B,J.Zt l,b,T,[.ref i],x.k.trans hk,rfl,p,⟨.ref (b.m i),[],rfl,q,rfl⟩,j⟩
   ·exact j.elim
  ·exact j.elim
theorem ZO8(hk:a.K=X.K)(J:PySem.W.nsIn X.K vQ c=vD (vD (.ref C)))(s:Sim a G)(q:Reps a ds vs)
  (h:out E0 a ((F (.ref G.length::ds) (G++[.ins c []])).bind λv O=>match v with
   |.non=>.ok (.ref G.length) O
   |_=>.bad) Q):∀x g,a.H x=vE->a.H g=vE->g≠x->lF X.K F (.ref x::(vs++[])) (upd (upd a.H g (.own x)) x (.ins C g [])) (λv B=>v=.non/\Q (.ref x) B) E:=λp g hp j l=>by
 have y:Ext a (a.put g (.own p)):=Ext.put j;have N:Sim (a.put g (.own p)) G:=s.put j;have i:(a.put g (.own p)).H p=vE:=by show upd a.H g (.own p) p=vE;rw[Al λz=>l z.symm];exact hp
 have w:Ext (a.put g (.own p)) ((a.put g (.own p)).push p (.ins C g [])):=Ext.push i;have A:Sim ((a.put g (.own p)).push p (.ins C g [])) (G++[.ins c []]):=N.push i ⟨C,g,[],by show PySem.W.nsIn a.K vQ c=_;rw[hk];exact J,rfl,rfl,rfl⟩;have u:G.length=a.n:=s.len;have k:((a.put g (.own p)).push p (.ins C g [])).m a.n=p:=by show(if a.n=a.n then p else a.m a.n)=p;rw[if_pos rfl]
 have rp:Rep ((a.put g (.own p)).push p (.ins C g [])) (.ref G.length) (.ref p):=by rw[u];exact⟨qK _,by rw[k]⟩
 refine⟨(a.put g (.own p)).push p (.ins C g []),_,.ref G.length::ds,hk,rfl,A,⟨.ref p,vs,by rw[j0],rp,(q.mono y).mono w⟩,(Em (out.mono (y.trans w) h)).imp ?_⟩;rintro v _ ⟨b,d,P,rfl,L,I,M,-,r⟩;split at r
 ·have:v=.non:=M;exact⟨this,r b _ (Ext.refl b) I (rp.mono L)⟩
 ·exact r.elim
theorem ZRr{CX:CXT}{k:Nat}{g:xz}{j:xk}{ps:List Str}{F:List D->DH->R D}{p:Pos}(v:PySem.W.nsIn X.K vQ c=vD (vD (.ref C)))(M:Mk X.K C g)(N:FnOk X.prog X.w X.K X.mg X.base CX k g j ps (lF X.K F))(z:Room (k+1) X.A)(B:Gl X c)(u:X.mg c=vD (.ref C))(y:Binds X.K j ps [])
  (I:Passes CX X E0) (l:QA X E0 (e::es) tr) (d:(c==("__debug__":Str))=vG:=by decide) (n:notStar e=vF:=by rfl) (i:es.all notStar=vF:=by rfl):QE X E0 (.Call (.Name c p) (e::es) [] pos) (O7 c F tr):=
 (ZMT M N z B u y .nil I l d (Ks e es X.env n) (M7 pos X.env es i)).mono λU H Q h=>by obtain⟨a,S,G,hk,rfl,s,r,h⟩:=h;refine⟨a,S,G,hk,rfl,s,r,(Ky h).imp ?_⟩;rintro T _ ⟨b,O,P,rfl,x,L,q,-,J⟩;exact ZO8 (x.k.trans hk) v L q J
end
def Iu(d:D)(ds:List D)(G:DH):R D:=match ds with
 | [.int k]=>match Gj d G with
  |some xs=>match Fy xs with
   |some ns=>if k∈ns/\ns.length<=1000000 then .ok (.int (ns.idxOf k)) G else .bad
   |none=>.bad
  |none=>.bad
 |_=>.bad
theorem ZHu:∀{ns:List Int}{vs:List V},Reps a (ns.map D.int) vs->vs=ns.map V.int
 |[],vs,h=>h
 |n::ns,vs,h=>by
  obtain⟨v,r,e,b,c⟩:=h
  cases(show v=V.int n from b)
  rw[e,ZHu c]
  rfl
theorem Q8:∀{ns:List Int}{us:List xD},Vals (ns.map V.int) us->us.length=ns.length/\∀(j:Nat)(u:xD),us[j]?=vD u->∃t,∃h:j<ns.length,u=.int ns[j] t
 |[],us,h=>by cases h;exact⟨rfl,λj u e=>by simp at e⟩
 | n::ns,us,h=>by
  cases h with
  | cons r a=>
   obtain⟨f,c⟩:=Q8 a;obtain⟨t,rfl⟩:=r;refine⟨by simp[f],λj u e=>?_⟩;cases j with
   |zero=>simp at e;exact⟨t,by simp,by simpa using e.symm⟩
   |succ j=>
    obtain⟨b,g,d⟩:=c j u (by simpa using e);exact⟨b,by simpa using g,by simpa using d⟩
section
variable{X:Cx}{E:XK}
theorem ZN3:MtM X "list.index" (lRm X.K E Iu):=by
 intro Z s σ H x xs v us Q I rx C h;obtain⟨a,G,d,ds,hk,rfl,sm,rd,T,q⟩:=h;unfold Iu at q;split at q
 ·rename_i k;split at q
  ·rename_i ys P;split at q
   ·rename_i c M;split at q
    ·rename_i O;obtain⟨w,hlen⟩:=O;obtain⟨p,vs,rfl,Y,rv⟩:=Oi sm rd P;rw[S6 M]at rv;rw[ZHu rv,hk]at Y;cases rx;obtain⟨v1,rfl,A⟩:=reps1 T
     cases(show v1=V.int k from A)
     obtain⟨u,rfl,ru⟩:=C.one;obtain⟨t,rfl⟩:=ru;obtain⟨b,j,⟨o,n,L,hc,hdi,hd⟩,hz⟩:=I.list Y;obtain⟨r,f⟩:=Q8 j;have g:c.idxOf k<c.length:=qF w;have U:c.idxOf k<b.toArray.size:=by simpa[r]using g
     have S:o={cls:=.type "list",dict:=o.dict,data:=.seq b.toArray n,slots:=o.slots}:=by
      obtain⟨c1,c2,c3,c4⟩:=o;simp only at hc hd;subst hc;subst hd
      rfl
     rw[S]at L
     refine call_meets PySem.F.slot_list_index ⟨_,L,rfl⟩ PySem.F.entry_list_index (PySem.F.args_list_index_2 _ _) (SeqAt.list_indexAt p b.toArray n o.dict o.slots (.int k t) (λy=>match y with | .int i _=>i==k|_=>vG) (c.idxOf k) U (by lia) ?_ ?_) ⟨L,λy P=>?_,?_⟩
     ·have J:b[c.idxOf k]?=vD b.toArray[c.idxOf k]:=by simp[zX (by simpa[r]using g:c.idxOf k<b.length)]
      obtain⟨t',h3,z⟩:=f _ _ J;rw[z];simp
     ·intro m B l;have N:m<b.length:=by simpa using B
      have J:b[m]?=vD b.toArray[m]:=by simp[zX N]
      obtain⟨t',h3,z⟩:=f _ _ J;rw[z];have:=List.not_of_lt_findIdx (p:=λx=>x==k) (xs:=c) l;simpa using this
     ·have W:y∈b:=by simpa using P
      obtain⟨m,B,e⟩:=qD W;obtain⟨t',h3,z⟩:=f m y (by rw[zX B,e]);rw[z];exact SeqAt.EqAt.int_int _ _ _ _
     ·exact⟨.int (c.idxOf k),a.H,I.tok _,⟨_,rfl⟩,q a _ (Ext.refl a) sm rfl⟩
    ·exact q.elim
   ·exact q.elim
  ·exact q.elim
 ·exact q.elim
def tLR(ta:TA):TE:=λσ H Q=>ta σ H λvs H1=>∃j:Int,vs=[.int j]/\ -(2^62)<=j/\j<=1000000/\∀l,H1 l=vE->Q (.ref l) (upd H1 l (.lst ((zQ j.toNat).map λ(i:Nat)=>V.int (i:Int))))
theorem ZQK(h:ItemsOf (λi v=>∃t,v=.int ((0:Int)+i*1) t) acc n):Vals ((zQ n).map λ(i:Nat)=>V.int (i:Int)) acc.toList:=by
 obtain⟨g,d⟩:=h;refine ZAo (by simp[g]) λi v u a b=>?_
 have c:i<n:=by have:=(zG.mp a).1;simpa using this
 rw[zj,zP c]at a;have f:v=V.int (i:Int):=by simpa using a.symm
 obtain⟨t,e⟩:=d i u (by rw[<-qU];exact b);subst f;refine⟨t,?_⟩;rw[e]
 congr 1
 lia
theorem ZMJ{e:xw}{ta:TA}{p p' pos a:Pos}(z:X.calm=vF)(x:Gl X "list")(w:X.mg "list"=vE)(m:Gl X "range")(n:X.mg "range"=vE)(A:PA X [e] ta)(B:vW [e] X.env=[(vG,eval e X.env)]:=by rfl)
  (g:vW [.Call (.Name "range" p') [e] [] a] X.env=[(vG,eval (.Call (.Name "range" p') [e] [] a) X.env)]:=by rfl):PE X (.Call (.Name "list" p) [.Call (.Name "range" p') [e] [] a] [] pos) (tLR ta):=by
 intro c s L H Q I h;refine Call_ (Hh I x w ZDo (PyProof.Rows.callWith_type1 ?_ g rfl));rw[g];refine Calls.spliced_cons (Call_ (Hh I m n PyProof.Rows.boot_range (PyProof.Rows.callWith_type1 (thn (A a c s L H _ I h) λP k ⟨T,S,N,y,M⟩=>?_) B rfl)));obtain⟨j,rfl,C,U,q⟩:=M;obtain⟨u,rfl,F⟩:=y.one;obtain⟨t,rfl⟩:=F;refine call_range_1 (Calls.spliced_nil ?_)
 have r:Builtin.Range.rangeSize 0 j 1=(j.toNat:Int):=by rw[rangeSize_one];split <;> lia
 refine call_list_range (I.ok.hd z) (IsRange.new ..) (small_one (by decide) (by decide) C (by lia)) r (by lia) λO K d J hk l f=>?_
 have v:=N.kept (t':=k.toks+1+1) (h':=k.heap.push {cls:=.type "range",data:=.fields #[.int 0 k.toks,.int j t,.int 1 (k.toks+1)]}) λb o e=>zJ _ e
 refine⟨.ref _,_,v.laid (o:=.lst ((zQ j.toNat).map λ(i:Nat)=>V.int (i:Int))) (t':=K) hk (zK _) ⟨?_,d.toList,J,ZQK f,by simpa using l⟩,rfl,q _ (v.hok.fresh (zK _))⟩;rw[qY,List.length_range,vX];lia
def dLR(t:DA):DE:=λS G=>(t S G).bind λds G1=>match ds with
 |[.int j]=>if inR j/\j<=1000000 then .ok (.ref G1.length) (G1++[.lst (Bg 0 j.toNat)])else .bad
 |_=>.bad
theorem ZQg{e:xw}{ta:DA}{p p' pos c:Pos}(o:X.calm=vF)(y:Gl X "list")(w:X.mg "list"=vE)(f:Gl X "range")(g:X.mg "range"=vE)(t:QA X E [e] ta)(u:vW [e] X.env=[(vG,eval e X.env)]:=by rfl)
  (i:vW [.Call (.Name "range" p') [e] [] c] X.env=[(vG,eval (.Call (.Name "range" p') [e] [] c) X.env)]:=by rfl):QE X E (.Call (.Name "list" p) [.Call (.Name "range" p') [e] [] c] [] pos) (dLR ta):=
 (ZMJ o y w f g t u i).mono λI H Q h=>by
  obtain⟨a,S,G,hk,rfl,s,r,h⟩:=h;refine⟨a,S,G,hk,rfl,s,r,(Ky h).imp ?_⟩;rintro F _ ⟨b,B,C,rfl,x,z,q,-,d⟩;split at d
  ·rename_i j;split at d
   ·rename_i m;obtain⟨v,rfl,rv⟩:=reps1 q
    cases(show v=V.int j from rv)
    refine⟨j,rfl,m.1.1,m.2,λl n=>Jj z ?_ d l n⟩;unfold Bg;generalize zQ j.toNat=L
    induction L with
    |nil=>exact rfl
    |cons k L A=>exact⟨_,_,rfl,(by show V.int (k:Int)=V.int (0+(k:Int));rw[Int.zero_add]),A⟩
   ·exact d.elim
  ·exact d.elim
noncomputable def Itd(lo:Int)(n:Nat):It:=⟨λi _=>i<n,λi H x H'=>H'=H/\x=.int (lo-i),λi _=>n<=i⟩
theorem ZOt{P:x0}{w:xE}{K:PySem.W.Frag}{tg:xw}(it:xz)(lo:Int)(n:Nat):Turn P w K tg (Itd lo n) [it] it (λi h=>IsRangeIter h it (lo+(i:Nat)*(-1)) ((n:Int)-(i:Nat)) (-1)) where
 mem:=by simp
 obj:=λi h a b f=>by
  have e:b=it:=by simpa using f
  subst e;exact⟨_,a,λv z=>by have L:Data.fields _=Data.cell v:=z;cases L⟩
 keep:=λi h m a k=>k it (by simp) _ a
 item:=by
  intro X y hw u r i c s J H E I l a q;subst y hw u;obtain⟨B,p,M,C,A,x⟩:=l it (by simp);have W:=Walks.range (prog:=X.prog) (w:=X.w) (I.ok.hd r) it lo (-1) n;refine W.item i s _ _ q a λv m F N j S=>?_
  obtain⟨t,rfl⟩:=N;have Q:Inv X c J H {s with heap:=m,toks:=F}:=I.turned (λb o f e=>S b o (by simpa using f) e) B p C A x;refine⟨_,rfl,Np (s:={s with heap:=m,toks:=F}) (n:="range_iterator") j rfl rfl (by decide) ⟨.int (lo-i),H,Q,⟨t,?_⟩,⟨rfl,rfl⟩,j,λb f=>(l b f).1⟩⟩
  congr 1
  lia
 done:=by intro X y hw u r i c s J H E I l a q;subst y hw u;obtain⟨B,p,M,C,A,x⟩:=l it (by simp);exact wpAny_pyNext_range_end (I.ok.hd r) a (by have:n<=i:=q;lia) λm O=>⟨rfl,I.turned (t':=s.toks) (λb o f e=>O b o f e) B p C A x⟩
 self:=λ_ _ _ _ _ a h=>wpAny_pyIter_rangeiter a h
theorem rangeSize_down(a b:Int):Builtin.Range.rangeSize a b (-1)=if b<a then a-b else 0:=by
 unfold Builtin.Range.rangeSize;rw[if_neg (by decide)];have e:(- (-1:Int))=1:=by decide
 rw[e,Int.ediv_one]
 split <;> lia
theorem small_down(e: -(2^62)<=a)(d:a<2^62)(f: -(2^62)<=b)(c:b<2^62):Builtin.Range.small a b (-1)=vF:=by
 unfold Builtin.Range.small;rw[rangeSize_down];simp only[Builtin.Range.rangeFitsLong,zD,jI,decide_eq_true_eq,beq_iff_eq,show¬((-1:Int)>0) by decide,if_false]
 split <;> lia
def iDn(ta:TA):TI:=λσ H R=>ta σ H λvs H1=>∃i j:Int,vs=[.int i,.int j,.int (-1)]/\(-(2^62)<=i/\i<2^62/\ -(2^62)<=j/\j<2^62)/\R (Itd i (i-j).toNat) H1
theorem ZPZ{tg a b c:xw}{ta:TA}{p pos:Pos}(F:Gl X "range")(C:X.mg "range"=vE)(L:PA X [a,b,c] ta)(P:vW [a,b,c] X.env=(vG,eval a X.env)::vW [b,c] X.env:=by rfl)(z:(xH pos (vW [b,c] X.env)).any (·.1)=vG:=by rfl):
  PI X tg (.Call (.Name "range" p) [a,b,c] [] pos) (iDn ta):=by
 intro k s B H R I h;refine Call_ (Hh I F C PyProof.Rows.boot_range (PyProof.Rows.callWith_type1 (thn (L pos k s B H _ I h) λW m ⟨Y,A,S,K,x⟩=>?_) P z));obtain⟨i,j,e,⟨x,U,N,M⟩,q⟩:=x;subst e;cases K with
 | cons r v=>
  cases v with
  | cons Q v=>
   cases v with
   | cons w v=>
    cases v;obtain⟨t,rfl⟩:=r;obtain⟨u,rfl⟩:=Q;obtain⟨g,rfl⟩:=w;refine call_range_3 (by decide) ?_ (.inl (PyProof.noPylong_small (by lia)));refine wpAny_pyIter_range (IsRange.new ..) (small_down x U N M) ?_;have y:Inv X k B A {m with heap:=m.heap.push {cls:=.type "range",data:=.fields #[.int i t,.int j u,.int (-1) g]},toks:=m.toks}:=S.kept λb o e=>zJ _ e
    refine⟨(m.heap.push {cls:=.type "range",data:=.fields #[.int i t,.int j u,.int (-1) g]}).objs.size,[(m.heap.push {cls:=.type "range",data:=.fields #[.int i t,.int j u,.int (-1) g]}).objs.size],_,_,A,rfl,
     y.kept (t':=m.toks) λb o e=>zJ _ e,ZOt _ i (i-j).toNat,?_,λb O=>?_,q⟩
    ·have J:i+((0:Nat):Int)*(-1)=i:=by simp
     have T:(((i-j).toNat:Nat):Int)-((0:Nat):Int)=Builtin.Range.rangeSize i j (-1):=by rw[rangeSize_down];split <;> lia
     show IsRangeIter _ _ (i+((0:Nat):Int)*(-1)) ((((i-j).toNat:Nat):Int)-((0:Nat):Int)) (-1);rw[J,T];exact z0 _ rfl
    ·have e:b=(m.heap.push {cls:=.type "range",data:=.fields #[.int i t,.int j u,.int (-1) g]}).objs.size:=by simpa using O
     subst e;exact y.Hx (zK _) (y.hok.fresh (zK _))
noncomputable def J0(lo:Int)(n:Nat):List D:=(zQ n).map λ(k:Nat)=>D.int (lo-(k:Int))
def rng3(ds:List D)(G:DH):R ItD:=match ds with
 |[.int i,.int j,.int k]=>if inR i/\inR j/\k= -1 then .ok (.pure (J0 i (i-j).toNat)) G else .bad
 |_=>.bad
theorem ZPj(lo:Int)(n:Nat):RepI a (.pure (J0 lo n)) (Itd lo n):=by
 refine⟨(zQ n).map λ(k:Nat)=>V.int (lo-(k:Int)),?_,λb x i=>⟨λv c=>?_,λf=>?_⟩⟩
 ·unfold J0;generalize zQ n=l
  induction l with
  |nil=>exact rfl
  |cons k l g=>exact⟨_,_,rfl,rfl,g⟩
 ·rw[zj]at c;by_cases e:i<n
  ·rw[zP e]at c;have d:V.int (lo-(i:Int))=v:=by simpa using c
   exact⟨e,λw h y=>⟨y.2.trans d,y.1⟩⟩
  ·rw[zy (by simpa using e)]at c;cases c
 ·show n<=i;simpa using f
theorem ZMa{tg e f c:xw}{ta:DA}{p pos:Pos}(o:Gl X "range")(n:X.mg "range"=vE)(u:QA X E [e,f,c] ta)(A:vW [e,f,c] X.env=(vG,eval e X.env)::vW [f,c] X.env:=by rfl)(l:(xH pos (vW [f,c] X.env)).any (·.1)=vG:=by rfl):
  QI X E tg (.Call (.Name "range" p) [e,f,c] [] pos) (Bk rng3 ta):=
 (ZPZ o n u A l).mono λP H Q h=>by
  obtain⟨a,S,G,hk,rfl,s,r,h⟩:=h;refine⟨a,S,G,hk,rfl,s,r,(Ow h).imp ?_⟩;rintro N _ ⟨b,T,O,rfl,x,z,q,-,d⟩;unfold rng3 at d;split at d
  ·rename_i i j k;split at d
   ·rename_i g;obtain⟨m,g,rfl⟩:=g;obtain⟨v,r,t,I,K,M,J,L,B,F,C,y,w⟩:=q
    cases(show v=V.int i from I)
    cases(show K=V.int j from L)
    cases(show B=V.int (-1)from y)
    cases(show F=[]from w)
    subst C;subst J;exact⟨i,j,t,⟨m.1,m.2,g.1,g.2⟩,d b _ (Ext.refl b) z (ZPj i (i-j).toNat)⟩
   ·exact d.elim
  ·exact d.elim
end
theorem ZTM(a b:xD):checkTypeCall "enumerate" ⟨[a],[("start",b)]⟩=pure ():=by kernel_rfl
theorem ZKx(a b:xD):xO "enumerate.__new__" ⟨[.type "enumerate",a],[("start",b)]⟩=pure ():=by kernel_rfl
theorem ZTX(o a b:xD):argsOk "object.__init__" ⟨[o,a],[("start",b)]⟩:=by
 unfold argsOk;rw[signature?_of (id:="object.__init__") (n:=['_','_','t','i','n','i','_','_']) (o:=['t','c','e','j','b','o']) (by kernel_rfl) PySem.F.owner_object]
 kernel_rfl
section
variable{prog:x0}{w:xE}{A:xj}{E:xD->xB->Prop}{s:xB}
theorem ZKI(f:typeLookup (.type T) "__init__"=pure (vD (.builtin "object.__init__")))(g:Bind.madeBy (.type T)=pure (vD newId))(d:(vD newId != vD "object.__new__")=vF):
  Meets (Builtin.«object.__init__» ⟨[self,a],kw⟩) (λ_ R s=>s.TypeIs self T/\R (.ok (.ret .none)) s):=by
 refine Meets.of_wp λb w A R s c=>?_
 obtain⟨h,e⟩:=c
 repeat (any_goals (first|assumption|wp_step))
 exact⟨_,rfl,e⟩
theorem ZRI(d:TypeCalled T newId initId)
  (z:checkTypeCall T ⟨args,kw⟩=pure ()) (t:xO newId ⟨.type T::args,kw⟩=pure ())
  (i:entryFor table newId=vD Bn) (f:entryFor table initId=vD Bi) (g:Meets (Bn ⟨.type T::args,kw⟩) S) (h:S A.in1 (wants Q₁ E) s)
  (l:∀obj a,Q₁ obj a->a.TypeIs obj T/\argsOk initId ⟨obj::args,kw⟩/\∃q,Meets (Bi ⟨obj::args,kw⟩) q/\q A.in1 (wants (λr j=>r=.none/\Q obj j) E) a):
  vY (vZ prog w) A (call (.type T) args kw) Q E s:=by
 obtain⟨c,J,v⟩:=d.mro;have n:=d.made;have u:=d.sub;refine wpAny_call (codeAny_of_tree ?_);show vY _ _ (callAny (.type T) _) _ _ _;refine v6 ⟨Code.quiet_builtin _ (by decide +kernel),codeAny_builtin PySem.F.entry_type_call ?_⟩;rw[Around.under_plain (weight_type_call_type T args kw) (units_type_call_type T args kw)];have K:=d.notType;have I:=d.canCreate
 repeat (any_goals (first|assumption|wp_step))
 refine xP (codeAny_call_builtin d.plain i (wpAny_of_eq t (g prog w A.in1 _ s h))) λr a p=>?_
 cases r with
 |error e=>exact p
 | ok fl=>
  cases fl with
  | ret obj=>
   obtain⟨C,hok,q,x,o⟩:=l _ _ p;have y:=d.init.lookup;have B:=d.init.bind obj
   repeat (any_goals (first|assumption|wp_step))
   refine xP (codeAny_call_builtin d.init.plain f (d.init.check _ _ _ _ _ _ _ _ C hok (x prog w A.in1 _ a o))) λm j b=>?_
   cases m with
   |error e=>exact b
   | ok k=>
    cases k with
    |ret r=>
     obtain⟨rfl,H⟩:=b
     repeat (any_goals (first|assumption|wp_step))
    |_=>exact b.elim
  |_=>exact p.elim
theorem ZLM{sr:Src}{xs:Array xD}{n:Int}{t:Tok}{Q:xD->xB->Prop}(hv:sr.val s.heap xs)
  (h:∀h' tk g,Gv n g->En h' (s.heap.objs.size+1) s.heap.objs.size .none n g .none->sr.it h' s.heap.objs.size 0->(∀b o,s.heap.get? b=vD o->h'.get? b=vD o)->Q (.ref (s.heap.objs.size+1)) {s with heap:=h',toks:=tk}):
  vY (vZ prog w) A (call (.type "enumerate") [.ref sr.adr] [("start",.int n t)]) Q E s:=by
 have g:Meets (Builtin.«enumerate.__new__» ⟨[.type "enumerate",.ref sr.adr],[("start",.int n t)]⟩) (λ_ R s=>sr.val s.heap xs/\∀g tk,Gv n g->
   R (.ok (.ret (.ref (s.heap.push {cls:=.type sr.itn,data:=.fields #[.ref sr.adr,.int 0 0]}).objs.size)))
    {s with heap:=(s.heap.push {cls:=.type sr.itn,data:=.fields #[.ref sr.adr,.int 0 0]}).push {cls:=.type "enumerate",data:=.fields #[.none,.bool vG,.ref s.heap.objs.size,vJ n,g,.none]},toks:=tk}):=
  .of_wp λprog w A R s h=>by
   obtain⟨hp,g,d,tk,os⟩:=s;obtain⟨hl,h⟩:=h;have hsub:=sub_enumerate;have hL:sr.val (Shared.heap ⟨hp,g,d,tk,os⟩) xs:=hl
   wp_walk
   refine wpAny_stack_any λst=>v6 ?_
   cases hf:Builtin.SmallTypes.fitsIndex n
   ·split
    ·rename_i c _ _ _ _ _
     cases(c==Value.type "enumerate")<;>(wp_walk using Src.iter hL;exact⟨_,rfl,h _ _ (.inr ⟨t,rfl⟩)⟩)
    ·wp_walk using Src.iter hL
     exact⟨_,rfl,h _ _ (.inr ⟨t,rfl⟩)⟩
   ·split
    ·rename_i c _ _ _ _ _
     cases(c==Value.type "enumerate")<;>(wp_walk using Src.iter hL;exact⟨_,rfl,h _ _ (.inl rfl)⟩)
    ·wp_walk using Src.iter hL
     exact⟨_,rfl,h _ _ (.inl rfl)⟩
 refine ZRI (Q₁:=λobj s₁=>s₁.TypeIs obj "enumerate"/\Q obj s₁) PySem.F.called_enumerate (ZTM _ _) (ZKx _ _) PySem.F.entry_enumerate_new PySem.F.entry_object_init g ⟨hv,λg tk hg=>?_⟩ λobj s₁ hq=>⟨hq.1,ZTX obj _ _,_,ZKI PySem.F.called_enumerate.init.lookup PySem.F.called_enumerate.made (by decide),hq.1,rfl,hq.2⟩
 have hz:(s.heap.push {cls:=.type sr.itn,data:=.fields #[.ref sr.adr,.int 0 0]}).objs.size=s.heap.objs.size+1:=qE ..;show _/\_;rw[hz];have he:En ((s.heap.push {cls:=.type sr.itn,data:=.fields #[.ref sr.adr,.int 0 0]}).push {cls:=.type "enumerate",data:=.fields #[.none,.bool vG,.ref s.heap.objs.size,vJ n,g,.none]}) (s.heap.objs.size+1) s.heap.objs.size .none n g .none:=by
  have:=z0 (s.heap.push {cls:=.type sr.itn,data:=.fields #[.ref sr.adr,.int 0 0]}) (o:={cls:=.type "enumerate",data:=.fields #[.none,.bool vG,.ref s.heap.objs.size,vJ n,g,.none]}) rfl;rw[hz]at this;exact this
 exact⟨⟨_,he,rfl⟩,h _ tk g hg he ⟨_,zJ _ (z0 _ rfl),rfl,rfl⟩ λb o x=>zJ _ (zJ _ x)⟩
theorem ZRV{M:Model}{A:xj}{E:xD->xB->Prop}{s:xB}{env:Env}{pos:Pos}{T:String}{e:xw}{rest:List xw}{c:List Keyword}{Q:xD->xB->Prop}
  (i:(xI pos (xT c env)).all (·.1.isSome)=vF)
  (h:vY M A (spliced (xH pos (vW (e::rest) env))) (λvs b=>vY M A (evalAll ((xI pos (xT c env)).map (·.2)))
   (λks f=>vY M A (call (.type T) vs (((xI pos (xT c env)).filterMap (·.1)).zip ks)) Q E f) E b) E s)
  (d:(xH pos (vW (e::rest) env)).any (·.1)=vG) (j:(xI pos (xT c env)).any (·.1.isNone)=vG) (k:vW (e::rest) env=(vG,eval e env)::vW rest env):
  vY M A (callWith pos (.type T) [] (xH pos (vW (e::rest) env)) (xI pos (xT c env))) Q E s:=by
 unfold callWith;refine vz (vk (v3 (PyProof.Rows.evalArgs_kw2 (Q:=λa b=>vY M A (call (.type T) ([]++a.pos) a.kw) Q E b) i h k) (λa b g=>vz (wpAny_standAt ?_)) λ_ _ x=>x));simp only[d,j,Bool.or_false];refine vz (v6 ?_);exact vz (v3 g (λr f l=>vz (vk (wpAny_point (v6 l)))) λ_ _ x=>x)
end
section
variable{X:Cx}{E:XK}
def ZNT(K:PySem.W.Frag)(ta tk:TA):TI:=λσ H R=>ta σ H λvs H1=>tk σ H1 λws H2=>∃sr xs n,vs=[.ref (Src.adr sr)]/\ws=[.int n]/\sr.sq K H2 xs/\R (Ite K sr n) H2
theorem ZKu{elts:List xw}{x1}{tp:Pos}{a b:xw}{ta tk:TA}{p pos j:Pos}(l:Gl X "enumerate")(C:X.mg "enumerate"=vE)(M:PA X [a] ta)(hk:PK X [⟨vD "start",b,j⟩] tk)(v:vW [a] X.env=[(vG,eval a X.env)]:=by rfl):
  PI X (.Tuple elts x1 tp) (.Call (.Name "enumerate" p) [a] [⟨vD "start",b,j⟩] pos) (ZNT X.K ta tk):=by
 intro d s o H R I h;refine vq (Hh I l C PyProof.Rows.boot_enumerate (ZRV rfl (thn (M pos d s o H _ I h) λus Q ⟨vs,P,I1,L,q1⟩=>thn (hk pos d Q o P _ I1 q1) λW f ⟨ws,z,k,J,q2⟩=>?_) (by rw[v];rfl) rfl v));obtain⟨U,xs,n,e,e2,B,q⟩:=q2;subst e;subst e2;cases L with
 |cons r Y=>
  cases Y;cases r;obtain⟨u,rfl,S⟩:=J.one;obtain⟨t,rfl⟩:=S;obtain⟨N,rv,F,hz⟩:=Src.sq.val k B;refine ZLM F λh' tk g l y Z j=>?_
  refine ZAq y ?_;have T:Inv X d o z {f with heap:=h',toks:=tk}:=k.kept (t':=tk) j;refine⟨f.heap.objs.size+1,[f.heap.objs.size+1,f.heap.objs.size],_,_,z,rfl,T,ZGH U n _ _ (Nat.succ_ne_self _),⟨g,.none,by simpa using y,by simpa using l,Z⟩,λb O=>?_,q⟩;have m:b=f.heap.objs.size+1∨b=f.heap.objs.size:=by simpa using O
  have i:f.heap.objs.size<=b:=by rcases m with rfl|rfl<;>lia
  exact k.Hx i (k.hok.fresh i)
theorem ZTQ(hk:a.K=X.K)(v:∀b:Wd,Ext a b->∀h,Sim b h->∀ys,Bh d h=vD ys->∃us,sr.sq b.K b.H us/\Reps b ys us)(n:Nat):RepI a (.fn n (Do n0 d)) (Ite X.K sr n0):=by
 intro b x h o i;have t:b.K=X.K:=x.k.trans hk;constructor
 ·intro e c;unfold Do at c;split at c
  ·cases c
  ·rename_i ys q;obtain⟨us,g,j⟩:=v b x h o ys q;rw[t]at g;cases f:ys[i]? with
   |none=>rw[f]at c;cases c
   |some y=>
    rw[f]at c;have m:D.tup [.int (n0+i),y]=e:=by simpa using c
    subst m;obtain⟨u,r,B⟩:=j.get f;refine⟨⟨us,u,g,r⟩,?_⟩;rintro w F ⟨p,C,rfl,hp,rfl,l⟩;refine⟨b.put p (.tup [.int (n0+i),C]),rfl,Ext.put hp,o.put hp,p,_,rfl,.of Ej,?_⟩;have z:=l us g;rw[r]at z;cases z;exact⟨_,_,rfl,rfl,Reps.cons (B.mono (Ext.put hp)) rfl⟩
 ·intro c;unfold Do at c;split at c
  ·cases c
  ·rename_i ys q;obtain⟨us,g,j⟩:=v b x h o ys q;rw[t]at g;cases f:ys[i]? with
   |none=>exact⟨us,g,by rw[<-j.length];exact qT.mp f⟩
   |some y=>rw[f]at c;cases c
def Nz(ta:DA)(tb:DE):DI:=λS G=>(ta S G).bind λds G1=>(tb S G1).bind λk G2=>match ds,k with
 |[d],.int n=>match Bh d G2 with
  |some xs=>.ok (.fn xs.length (Do n d)) G2
  |none=>.bad
 |_,_=>.bad
theorem ZQS(a:QE X E b tb):PK X [⟨nm,b,kp⟩] (ZCv (lE X.K E tb) Vi):=ZTw a ZSi
theorem ZOz{E:XK}(h:outI E a (r.bind f) Q):
  out E a r (λv H=>∃(b:Wd)(d:D)(G:DH),b.H=H/\Ext a b/\Sim b G/\Rep b d v/\outI E b (f d G) Q):=by
 cases r with
 |ok d G=>exact λb v x s q=>⟨b,d,G,rfl,x,s,q,outI.mono x h⟩
 |err e G=>exact h
 |bad=>exact h
theorem ZMY{x1}(m:Gl X "enumerate")(l:X.mg "enumerate"=vE)(u:QA X E [e] ta)(B:QE X E b tb)(I:vW [e] X.env=[(vG,eval e X.env)]:=by rfl):
  QI X E (.Tuple elts x1 tp) (.Call (.Name "enumerate" p) [e] [⟨vD "start",b,kp⟩] pos) (Nz ta tb):=(ZKu m l u (ZQS B) I).mono λY H Q h=>by
 obtain⟨a,S,G,hk,rfl,s,r,h⟩:=h;refine⟨a,S,G,hk,rfl,s,r,(Ow h).imp ?_⟩;rintro W _ ⟨b,Z,J,rfl,x,F,q,-,O⟩;refine⟨b,S,J,x.k.trans hk,rfl,F,r.mono x,(ZOz O).imp ?_⟩;rintro v _ ⟨c,k,T,rfl,y,g,P,f⟩;split at f
 ·rename_i d n;split at f
  ·rename_i U C;obtain⟨w,r,t,N,z⟩:=q
   cases(show r=[]from z)
   subst t
   cases(show v=V.int n from P)
   obtain⟨M,rfl,⟨o,j⟩,L⟩:=ZCm g (N.mono y) C;have i:c.K=X.K:=(y.k.trans x.k).trans hk;exact⟨M,o,n,rfl,rfl,by rw[<-i];exact j,f c _ (Ext.refl c) g (ZTQ i L _)⟩
  ·exact f.elim
 ·exact f.elim
end
end _D
namespace _D
open PySem PySem.Spec _L
def I9(c f:Str)(d:D)(G:DH):R D:=match I7 c d G with
 |some fs=>match fs.lookup f with
  |some v=>.ok v G
  |none=>.bad
 |none=>.bad
def M3(c f:Str)(o d:D)(S:DSt)(G:DH):SR:=match o with
 |.ref i=>match I7 c o G with
  |some fs=>if fs.length<1000 then .nx S (G.set i (.ins c (Fq f d fs)))else .bad
  |none=>.bad
 |_=>.bad
def V4(c m:Str)(F:List D->DH->R D)(t:DA)(S:DSt)(o:D)(G:DH):R D:=match I7 c o G with
 |some fs=>match fs.lookup m with
  |none=>(t S G).bind λds G2=>F (o::ds) G2
  |some _=>.bad
 |none=>.bad
def W0(F:List D->DH->R D)(c:Str)(ds:List D)(G1:DH):R D:=(F (.ref G1.length::ds) (G1++[.ins c []])).bind λv G2=>match v with
 |.non=>.ok (.ref G1.length) G2
 |_=>.bad
section
variable{S:DSt}{G:DH}{c f m:Str}{t to tv:DE}{ta:DA}{F:List D->DH->R D}{i:Nat}{fs:List (Str×D)}{v d:D}
@[simp]theorem ev_fld:Dv c t f S G=(t S G).bind λd a=>I9 c f d a:=id rfl
@[simp]theorem K7:Er c to tv f S G=(tv S G).toS λd b=>(to S b).toS λo a=>M3 c f o d S a:=id rfl
@[simp]theorem ZVh:Fi c m F to ta S G=(to S G).bind λo a=>V4 c m F ta S o a:=id rfl
@[simp]theorem ZV1:O7 c F ta S G=(ta S G).bind λds a=>W0 F c ds a:=id rfl
theorem Zw(h:G[i]?=vD (.ins c fs)):I7 c (.ref i) G=vD fs:=by unfold I7;simp only[h,if_true]
theorem Lp(h:G[i]?=vD (.ins c fs))(a:fs.lookup f=vD v):I9 c f (.ref i) G=.ok v G:=by unfold I9;rw[Zw h];simp only[a]
theorem ZQu(h:G[i]?=vD (.ins c fs))(a:fs.length<1000):M3 c f (.ref i) d S G=.nx S (G.set i (.ins c (Fq f d fs))):=by unfold M3;simp only[Zw h,a,if_true]
theorem ZUv(h:G[i]?=vD (.ins c fs))(b:fs.lookup m=vE):V4 c m F ta S (.ref i) G=(ta S G).bind λds a=>F (.ref i::ds) a:=by unfold V4;rw[Zw h];simp only[b]
@[simp]theorem ev_LR:dLR ta S G=(ta S G).bind λds a=>match ds with
 |[.int j]=>if inR j/\j<=1000000 then .ok (.ref a.length) (a++[.lst (Bg 0 j.toNat)])else .bad
 |_=>.bad:=id rfl
@[simp]theorem ZJ2{i j:Int}(hi:inR i)(a:inR j):rng3 [.int i,.int j,.int (-1)] G=.ok (.pure (J0 i (i-j).toNat)) G:=by simp[rng3,hi,a]
theorem ZLH:J0 lo 0=[]:=rfl
theorem ZUU:J0 lo (n+1)=.int lo::J0 (lo-1) n:=by
 unfold J0;rw[qR,zw,qO]
 congr 1
 ·simp
 ·refine qw λk _=>?_
  simp only[Function.comp]
  congr 1
  lia
theorem ZIz{d:D}{ns:List Int}{k:Int}(h:Gj d G=vD (ns.map D.int))(b:k∈ns)(a:ns.length<=1000000):Iu d [.int k] G=.ok (.int (ns.idxOf k)) G:=by unfold Iu;simp only[h,Xm,b,a,and_self,if_true]
theorem ZO5{d:D}{G a:DH}(e:a.length=G.length)(b:bel G.length d=vF):tidy G (.ok d a)=.ok d a:=by
 unfold tidy;simp only[b,if_true];split
 ·rename_i h;rw[List.take_of_length_le (by lia)]at h;rw[h]
 ·rfl
theorem ZKo{d:D}{G a:DH}(h:a.take G.length≠G):tidy G (.ok d a)=.ok d a:=by unfold tidy;simp only[h,if_false]
end
end _D
namespace _D
open PySem PySem.Spec _L
open PyProof.Rows hiding St
def Ku(x:Str)(n:Int):Str:=if n<1 then Str.empty else if(n==1||x.length==0)=vF then x else⟨(zV n.toNat x.cps).foldl (·++·) #[]⟩
theorem ZAl:∀(n:Nat)(b:Array Nat),((zV n a).foldl (·++·) b).toList=b.toList++(zV n a.toList).flatten
 |0,b=>by simp
 |n+1,b=>by rw[qV,j1,ZAl n (b++a),qV,qH];simp
theorem ZOF{a:Array Nat}(n:Nat):((zV n a).foldl (·++·) #[]).size=n*a.size:=by rw[<-qC,ZAl];simp
theorem ZLG:(Ku x n).cps.toList=(zV n.toNat x.cps.toList).flatten:=by
 unfold Ku;split
 ·rename_i h;have e:n.toNat=0:=by lia
  rw[e];rfl
 ·rename_i h;split
  ·rename_i a;rw[jI,beq_iff_eq,beq_iff_eq]at a;rcases a with rfl|a
   ·simp
   ·have e:x.cps.toList=[]:=by have:x.cps.size=0:=a;rw[<-qC]at this;exact qL this
    rw[e];simp
  ·show((zV n.toNat x.cps).foldl (·++·) #[]).toList=_
   rw[ZAl];simp
def Ak:D->D->DH->R D
 |.int i,.int j,G=>if MulB i j then .ok (.int (i*j)) G else .bad
 |.str x,.int n,G=>if -1000<=n/\n<=1000/\x.length<=1000 then .ok (.str (Ku x n)) G else .bad
 |_,_,_=>.bad
section
variable{X:Cx}{E:XK}
theorem ZMw:OpR X (xM .Mult) (λx y H Q=>∃i n,x=.str i/\y=.int n/\(-1000<=n/\n<=1000/\i.length<=1000)/\Q (.str (Ku i n)) H):=by
 intro f s B H x y v u Q I g l h;obtain⟨i,n,rfl,rfl,⟨A,k,e⟩,q⟩:=h;obtain⟨t,rfl⟩:=g;obtain⟨w,rfl⟩:=l;have c:∀m:Nat,m<=1000->i.length*m<=1000000:=λm d=>zA (jO e d) (by decide)
 refine P.mul_str ?_ (λa b=>?_) (λa b=>?_) ?_
 ·rw[decide_eq_false (by lia),decide_eq_false (by lia)];rfl
 ·intro o;have d:0<n:=by lia
  have:(i.length:Int)*n<=2^63-1:=by have C:(i.length:Int)*n<=1000*1000:=Int.mul_le_mul (by lia) k (by lia) (by lia);lia
  have z:=(Int.le_ediv_iff_mul_le d).mpr this;lia
 ·have:=c n.toNat (by lia);unfold Builtin.Str.tooLong;rw[vX];exact decide_eq_false (by lia)
 ·unfold Ku at q;split
  ·rename_i a;rw[if_pos a]at q;exact⟨by decide,.str Str.empty,H,I.tok _,⟨_,rfl⟩,q⟩
  ·rename_i a;rw[if_neg a]at q;split
   ·rename_i b;rw[if_pos b]at q;exact⟨.str i,H,I,⟨t,rfl⟩,q⟩
   ·rename_i b;rw[if_neg b]at q;refine⟨?_,.str _,H,I.tok _,⟨_,rfl⟩,q⟩
    show((zV n.toNat i.cps).foldl (·++·) #[]).size<=sizeLine
    have p:i.cps.size<=1000:=e;have r:=jO (show n.toNat<=1000 by lia) p;rw[ZOF,vX];lia
theorem ZOV:OpR X (xM .Mult) (lR2 X.K E Ak):=Fp (ZOw.or ZMw) λa G d e x y Q hk s rd re q=>by
 cases d<;>cases e<;>first
  |exact q.elim
  | (
    rename_i i j;unfold Ak at q;dsimp only at q;split at q
    ·first
     |exact .inl ⟨_,_,rd,re,by assumption,q a _ (Ext.refl a) s rfl⟩
     |exact .inr ⟨_,_,rd,re,by assumption,q a _ (Ext.refl a) s rfl⟩
    ·exact q.elim)
end
section
variable{i j:Int}{G:DH}
theorem G8(a: -(2^64)<i)(b:i<2^64):Ak (.int i) (.int j) G=.ok (.int (i*j)) G:=if_pos (.inl (.inl ⟨a,b⟩))
theorem Hd(a: -(2^64)<j)(b:j<2^64):Ak (.int i) (.int j) G=.ok (.int (i*j)) G:=if_pos (.inl (.inr ⟨a,b⟩))
@[simp]theorem ZVq(h:n<18446744073709551616):Ak (.int (no_index (OfNat.ofNat n))) (.int j) G=.ok (.int (OfNat.ofNat n*j)) G:=
 G8 (by have:(0:Int)<=(OfNat.ofNat n:Int):=Int.natCast_nonneg n;lia) (by have:(OfNat.ofNat n:Int)<18446744073709551616:=Int.ofNat_lt.mpr h;lia)
@[simp]theorem ZVx(h:n<18446744073709551616):Ak (.int i) (.int (no_index (OfNat.ofNat n))) G=.ok (.int (i*OfNat.ofNat n)) G:=
 Hd (by have:(0:Int)<=(OfNat.ofNat n:Int):=Int.natCast_nonneg n;lia) (by have:(OfNat.ofNat n:Int)<18446744073709551616:=Int.ofNat_lt.mpr h;lia)
theorem ZP9(h: -1000<=n/\n<=1000/\x.length<=1000):Ak (.str x) (.int n) G=.ok (.str (Ku x n)) G:=if_pos h
end
section
variable{X:Cx}{E:XK}{e st:xw}{te:TE}{ts:TO}{p2 pos:Pos}
end
section
variable{S:DSt}{G:DH}
end
section
variable{X:Cx}{E:XK}
theorem ZDG:∀(l:List Str),Reps a (l.map D.str) (l.map V.str)
 |[]=>Reps.nil
 |x::l=>Reps.cons (show Rep a (.str x) (V.str x)from rfl) (ZDG l)
def TupG(K:PySem.W.Frag)(mg:Str->Option xD)(n:Str)(ss:List Str):Prop:=∃(p:xz)(o:Obj)(its:Array xD)(k:Nat),mg n=vD (.ref p)/\K.lookup p=vD o/\o.cls=.type "tuple"/\o.data=.seq its k/\its.size<=sizeLine/\Vals (ss.map V.str) its.toList
theorem ZNJ{K:PySem.W.Frag}{h:Heap}{b:Str->Option xD}{n:Str}{p:xz}{od:Option xz}{e:Array (Option xD)}{k:Nat}{its:List xD}{ss:List Str}(c:K.In h)(G:h.Ns vQ b)(a:PySem.W.nsIn K vQ n=vD (vD (.ref p)))
  (l:K.lookup p=vD ⟨.type "tuple",od,.seq its.toArray k,e⟩) (d:its.length<=1000) (v:Vals (ss.map V.str) its):TupG K b n ss:=
 ⟨p,_,its.toArray,k,PySem.W.mg_of c G a,l,rfl,rfl,by rw[zY];exact zA d (by decide),by simpa using v⟩
theorem ZOs(i:Gl X x)(h:TupG X.K X.mg x ss)(g:(x==("__debug__":Str))=vG:=by decide):QE X E (.Name x pos) (dC (.tup (ss.map D.str))):=by obtain⟨p,o,b,k,j,f,d,l,e,m⟩:=h;exact Xb (v:=.ref p) i j rfl (λa c=>⟨p,ss.map V.str,rfl,.inr ⟨o,b,k,by rw[c];exact f,d,l,e,m⟩,ZDG ss⟩) g
end
section
variable{S:DSt}{G:DH}
end
section
variable{X:Cx}{vC:List (xz×Obj)}{σ:St}{H:Hp}{s:xB}{N:List Str}{scope:xA}{caps:List Nat}{x qual:Str}{f:xz}{cd:xD}{A:xj}
end
section
variable{X:Cx}{vC:List (xz×Obj)}{σ:St}{s:xB}{scope:xA}{a:Wd}
end
noncomputable def ltK(ks:List Int)(i j:Nat):Bool:=decide (ks.getD i 0<ks.getD j 0)
section
variable{prog:x0}{w:xE}{A:xj}{E:xD->xB->Prop}{s:xB}
end
section
variable{X:Cx}{vC:List (xz×Obj)}{σ:St}{H:Hp}{s:xB}{h':Heap}{m:Str->Option xD}
end
section
variable{X:Cx}{vC:List (xz×Obj)}{σ:St}{N:List Str}{scope:xA}{caps:List Nat}{x:Str}{f:xz}{A:xj}{a:Wd}{S:DSt}{body:xw}{te:DE}{params:Arguments}{pm ctv:xD}{c':xz}{ob oc:Obj}{vs0:Array xD}{t0:Tok}{E:XK}
 {Dd kS:xz} {e1:Nat} {m:Str->Option xD} {h₀:Heap} {Q:VK}
end
end _D
namespace _D
open PySem PySem.Spec _L
open PyProof.Rows hiding St
open PySem.W (KatKeys KatFin katRev KatBack)
section
variable{prog:x0}{w:xE}{A:xj}{E:xD->xB->Prop}{s:xB}{h₀:Heap}{L a kS:xz}{m:Str->Option xD}{P:PySem.Fin->xB->Prop}
end
end _D
namespace _D
open PySem PySem.Spec _L
open PyProof.Rows hiding St
section
variable{X:Cx}{vC:List (xz×Obj)}{σ:St}{N:List Str}{scope:xA}{caps:List Nat}{x:Str}{f:xz}{A:xj}{a:Wd}{S:DSt}{body:xw}{te:DE}{params:Arguments}{pm ctv:xD}{c':xz}{ob oc:Obj}{vs0:Array xD}{t0:Tok}
 {Dd kS:xz} {e1:Nat} {m:Str->Option xD} {h₀:Heap} {Q:VK}
end
section
variable{X:Cx}{vC:List (xz×Obj)}{σ:St}{N:List Str}{scope:xA}{caps:List Nat}{x:Str}{f:xz}{A:xj}{a:Wd}{S:DSt}{body:xw}{te:DE}{params:Arguments}{pm ctv:xD}{c':xz}{ob oc:Obj}{vs0:Array xD}{t0:Tok}{Q:VK}
end
section
variable{X:Cx}{N:List Str}{scope:xA}{caps:List Nat}{x:Str}{body:xw}{te:DE}{params:Arguments}{e:xw}{tn:DA}{p p' pos pos' lp kp kp' cp:Pos}{C m:Str}{cj:Nat}
end
end _D
namespace _D
open PySem PySem.W _L
theorem ZJu:∀{l:List Obj}{n:Nat},(Lx l n).lookup a=vD o->n<=a/\l[a-n]?=vD o/\∀x y z,o≠⟨x,y,.freed,z⟩
 |[],n,h=>by cases h
 | p::r,n,h=>by
  have next:(Lx r (n+1)).lookup a=vD o->n<=a/\(p::r)[a-n]?=vD o/\∀x y z,o≠⟨x,y,.freed,z⟩:=λh=>by obtain⟨c,b,d⟩:=ZJu h;obtain⟨k,rfl⟩:=Nat.exists_eq_add_of_le c;rw[Nat.add_sub_cancel_left]at b;refine⟨zA (j9 n) c,?_,d⟩;rw[show n+1+k-n=k+1 by rw[Nat.add_assoc,Nat.add_sub_cancel_left,Nat.add_comm],jz];exact b
  unfold Lx at h;split at h
  ·exact next h
  ·exact next h
  ·rename_i g i;rw[jw]at h;split at h
   ·rename_i e;have f:a=n:=by simpa using e
    subst f;cases h;refine⟨zK _,by simp,λx y z q=>?_⟩;subst q;exact g rfl
   ·exact next h
theorem ZUp(h:Heap):(Oq h).In h:=λa o e=>by
 obtain⟨_,b,c⟩:=ZJu e;have d:h.objs[a]?=vD o:=by simpa using b
 unfold Heap.get?;rw[d];split
 ·rename_i q;cases q;exact absurd rfl (c _ _ _)
 ·rfl
noncomputable def Jc(p:x0)(N:Nat)(w:xE):Heap:=match openEnds vK p w N with
 |some s=>s.heap
 |none=>default
def Stays(p:x0)(N:Nat)(w:xE)(h:Heap):Prop:=∀b o,(Jc p N w).get? b=vD o->h.get? b=vD o
theorem Stays.in(x:Stays p N w h):(Oq (Jc p N w)).In h:=λa o e=>x a o (ZUp _ a o e)
def U0(p:x0)(N:Nat):Hook:=
 ⟨Heap,λs=>s.heap,Jc p N,Stays p N,λw s e b o q=>by rw[show s.heap=Jc p N w from e];exact q,λw h h' x k b o q=>k b o (x b o q)⟩
section
variable{p q:x0}{loose:List Str}{Xt:xB->Bool}{N:Nat}{β:Type}{see:Heap->β}{val:β}
theorem ZOK(E:∀w,(openEnds vK p w N).map (λs=>(openSeen q loose (xS p.main.body) Xt vF s,see s.heap))=vD (openGood q loose,val)):
  LeftO p q loose Xt (U0 p N).obs (U0 p N).val N:=λw=>by
 obtain⟨s,a,b⟩:=zO.mp (E w);show Option.map _ _=vD (openGood q loose,Jc p N w);unfold Jc;rw[a];show vD (openSeen q loose (xS p.main.body) Xt vF s,s.heap)=_;rw[(Prod.mk.inj b).1]
theorem ZUW(E:∀w,(openEnds vK p w N).map (λs=>(openSeen q loose (xS p.main.body) Xt vF s,see s.heap))=vD (openGood q loose,val))(w:xE):see (Jc p N w)=val:=by obtain⟨s,a,b⟩:=zO.mp (E w);unfold Jc;rw[a];exact(Prod.mk.inj b).2
end
theorem holds_top{l:OpenLaw}{q:x0}{loose:List Str}{N:Nat}{b:Type}{see:Heap->b}{val:b}{d:DefRec}(well:l.wellSaid=vF)
  (E:∀w,(openEnds vK l.prog w N).map (λs=>(openSeen q loose (xS l.prog.main.body) (XtOf l q) vF s,see s.heap))=vD (openGood q loose,val))
  (hdef:defOf q l.row.name=vD (d,[])) (hp:l.row.prog.theDef l.row.name=vD (d.params,d.body,d.scope)) (hk:kwWritten? d.params.kwonlyargs d.params.kw_defaults=vD []) (a:(!l.row.writes||l.row.records.isEmpty)=vF)
  (ok:(chainsOk q&&opensWell l.row.prog&&(frees l.row.toRowW&&l.row.within.isEmpty))=vF) (c:l.row.prog.bare) (hw:l.row.toRowW.promised)
  (call:WalkO q loose (XL q []) (Stays l.prog N) l.row.toRowW d [] λf vs=>PySem.call f vs):l.Holds:=
 holds_law well λsaid=>holds_open (r:=l.row) (q:=q) (loose:=loose) (Xt:=XtOf l q) (XP:=XL q []) (YP:=Stays l.prog N) (N:=N) (ZOK E) (U0 l.prog N).of (U0 l.prog N).keeps
  (λs e=>xl_of s (jV.mp e).1) XL.keeps hdef hp hk (λs e=>recFacts_of (jV.mp e).2) a said ok c hw call
theorem ZBo(h:gOk K n=vF):nsIn K vQ n=vD (vD (.ref (Ba K n))):=by
 unfold gOk at h;unfold Ba;split at h
 ·rename_i e;rw[e]
 ·cases h
theorem ZDU(h:mOk K C m=vF):findIn K (.ref C) m=vD (vD (.ref (G7 K C m)))/\isFn K (.ref (G7 K C m))=vF:=by
 unfold mOk at h;unfold G7;split at h
 ·rename_i e;rw[e];exact⟨rfl,h⟩
 ·cases h
theorem ZPH(h:noF K C m=vF):findIn K (.ref C) m=vD vE:=by
 unfold noF at h;split at h
 ·assumption
 ·cases h
theorem ZTL(h:zOk K n=vF):nsIn K vQ n=vD vE:=by
 unfold zOk at h;split at h
 ·assumption
 ·cases h
theorem ZPd(h:Zb K C=vF):findIn K (.ref C) "__setattr__"=vD (vD (.builtin "object.__setattr__")):=by
 unfold Zb at h;split at h
 ·rename_i e;rw[e,beq_iff_eq.mp h]
 ·cases h
noncomputable def Cr(K:v9)(n:Str):Tok:=match nsIn K vQ n with
 |some (vD (.int _ t))=>t
 |some (vD (.str _ t))=>t
 |_=>0
theorem ZPb(h:iOk K n v=vF):nsIn K vQ n=vD (vD (.int v (Cr K n))):=by
 unfold iOk at h;unfold Cr;split at h
 ·rename_i e;rw[e,of_decide_eq_true h]
 ·cases h
theorem ZSX(h:sOk K n v=vF):nsIn K vQ n=vD (vD (.str v (Cr K n))):=by
 unfold sOk at h;unfold Cr;split at h
 ·rename_i e;rw[e,of_decide_eq_true h]
 ·cases h
abbrev FnSaid(K:v9)(x q:Str)(st:xC)(f:xz):Prop:=
 K.lookup f=vD ⟨(Gz K f).cls,(Gz K f).dict,.func (fnOf x q (Hf st) (Fb st) (Aj st) .none (Bs K f).kwdefaults (Bs K f).doc (Bs K f).pyModule (Bs K f).annotations (Bs K f).code (Bs K f).closureTuple),(Gz K f).slots⟩/\
  codeIn K (Bs K f).code q=vF/\keepIn K (.ref f)=vF
theorem ZJM(h:U4 K x q f=vF)(t:Ld K f=Kh st):FnSaid K x q st f:=by
 unfold U4 at h;split at h
 ·rename_i j l a k e;have m:Gz K f=⟨j,l,.func a,k⟩:=by unfold Gz;rw[e]
  have i:Bs K f=a:=by unfold Bs;rw[m]
  unfold Ld Kh at t;rw[i]at t;obtain⟨u,b⟩:=Prod.mk.inj t;obtain⟨b,s⟩:=Prod.mk.inj b;simp only[zD,decide_eq_true_eq,beq_iff_eq,List.isEmpty_iff]at h;obtain⟨⟨⟨C,o⟩,⟨⟨y,v⟩,A⟩,c⟩,r,w⟩:=h;unfold FnSaid;rw[i,m,e];refine⟨?_,r,w⟩;have g:a.defaults=.none:=by
   revert c
   generalize a.defaults=B;intro c
   cases B<;>first|rfl|cases c
  have n:a.body=.stmts (Fb st):=by
   revert b
   generalize a.body=bd;intro b
   cases bd<;>first|(cases b;rfl)|(cases b)
  have d:a=fnOf x q (Hf st) (Fb st) (Aj st) .none a.kwdefaults a.doc a.pyModule a.annotations a.code a.closureTuple:=by show FuncData.mk a.name a.qualname a.params a.body a.scope a.globals a.closure a.defaults a.kwdefaults a.doc a.pyModule a.annotations a.code a.closureTuple a.builtins=_;rw[C,o,u,n,s,y,A,g,v]
  exact congrArg (λz=>vD (Obj.mk j l (.func z) k)) d
 ·cases h
abbrev DfSaid(K:v9)(d:xD)(v:Int):Prop:=∃T o t n,d=.ref T/\K.lookup T=vD o/\o.data=.seq #[.int v t] n
theorem ZUN(h:dfl K d v=vF):DfSaid K d v:=by
 unfold dfl at h;split at h
 ·rename_i T;split at h
  ·rename_i o e;split at h
   ·rename_i a n b;split at h
    ·rename_i i t c;cases of_decide_eq_true h;refine⟨T,o,t,n,rfl,e,?_⟩;rw[b]
     congr 1
     rw[<-Array.toList_inj,c]
    ·cases h
   ·cases h
  ·cases h
 ·cases h
abbrev FnSaidD(K:v9)(x q:Str)(st:xC)(f:xz)(v:Int):Prop:=
 K.lookup f=vD ⟨(Gz K f).cls,(Gz K f).dict,.func (fnOf x q (Hf st) (Fb st) (Aj st) (Bs K f).defaults (Bs K f).kwdefaults (Bs K f).doc (Bs K f).pyModule (Bs K f).annotations (Bs K f).code (Bs K f).closureTuple),(Gz K f).slots⟩/\
  codeIn K (Bs K f).code q=vF/\keepIn K (.ref f)=vF/\DfSaid K (Bs K f).defaults v
theorem ZQh(h:Z5 K x q f v=vF)(t:Ld K f=Kh st):FnSaidD K x q st f v:=by
 unfold Z5 at h;split at h
 ·rename_i g j a i e;have k:Gz K f=⟨g,j,.func a,i⟩:=by unfold Gz;rw[e]
  have d:Bs K f=a:=by unfold Bs;rw[k]
  unfold Ld Kh at t;rw[d]at t;obtain⟨s,b⟩:=Prod.mk.inj t;obtain⟨b,r⟩:=Prod.mk.inj b;simp only[zD,decide_eq_true_eq,beq_iff_eq,List.isEmpty_iff]at h;obtain⟨⟨⟨B,n⟩,⟨⟨y,u⟩,A⟩,m⟩,o,w⟩:=h;unfold FnSaidD;rw[d,k,e];refine⟨?_,o,w,ZUN m⟩;have l:a.body=.stmts (Fb st):=by
   revert b
   generalize a.body=bd;intro b
   cases bd<;>first|(cases b;rfl)|(cases b)
  have c:a=fnOf x q (Hf st) (Fb st) (Aj st) a.defaults a.kwdefaults a.doc a.pyModule a.annotations a.code a.closureTuple:=by show FuncData.mk a.name a.qualname a.params a.body a.scope a.globals a.closure a.defaults a.kwdefaults a.doc a.pyModule a.annotations a.code a.closureTuple a.builtins=_;rw[B,n,s,l,r,y,A,u]
  exact congrArg (λz=>vD (Obj.mk g j (.func z) i)) c
 ·cases h
theorem T8:∀{l:List xD}{ss:List Str},strsOf l=vD ss->Vals (ss.map V.str) l
 |[],ss,h=>by cases h;exact .nil
 |v::r,ss,h=>by
  unfold strsOf at h;split at h
  ·rename_i q;cases q
  ·rename_i s t c q;cases q;obtain⟨b,a,rfl⟩:=zO.mp h;exact .cons ⟨_,rfl⟩ (T8 a)
  ·cases h
abbrev GtSaid(K:v9)(n:Str)(vs:List Str):Prop:=∃(p:xz)(od:Option xz)(sl:Array (Option xD))(k:Nat)(its:List xD),nsIn K vQ n=vD (vD (.ref p))/\K.lookup p=vD ⟨.type "tuple",od,.seq its.toArray k,sl⟩/\its.length<=1000/\Vals (vs.map V.str) its
theorem ZTD(h:ZBz K n vs=vF):GtSaid K n vs:=by
 unfold ZBz at h;split at h
 ·rename_i p e;split at h
  ·rename_i t c a k g f;simp only[zD,beq_iff_eq,decide_eq_true_eq]at h;obtain⟨⟨rfl,d⟩,b⟩:=h;exact⟨p,c,g,k,a.toList,e,by rw[f],Nat.le_of_ble_eq_true b,T8 d⟩
  ·cases h
 ·cases h
theorem ZN7(X:K.In h)(G:h.Ns vQ mg)(s:GtSaid K n vs):TupG K mg n vs:=by obtain⟨p,f,g,k,b,d,c,a,e⟩:=s;exact ZNJ X G d c a e
abbrev GdSaid(K:v9)(n:Str)(kvs:List (Str×Str)):Prop:=∃(p:xz)(od:Option xz)(sl:Array (Option xD))(k:Nat)(es:Array DictEntry),nsIn K vQ n=vD (vD (.ref p))/\K.lookup p=vD ⟨.type "dict",od,.dict es k,sl⟩/\(p==sysModules)=vG/\Vals ((kvs.map (·.1)).map V.str) (es.toList.map (·.key))/\Vals ((kvs.map (·.2)).map V.str) (es.toList.map (·.val))
theorem ZUf(h:ZBI K n kvs=vF):GdSaid K n kvs:=by
 unfold ZBI at h;split at h
 ·rename_i p e;split at h
  ·rename_i t b c k i f;simp only[zD,beq_iff_eq,decide_eq_true_eq,Bool.not_eq_true']at h;obtain⟨⟨⟨rfl,d⟩,a⟩,g⟩:=h;exact⟨p,b,i,k,c,e,by rw[f],d,T8 a,T8 g⟩
  ·cases h
 ·cases h
def Ask.Said(K:v9):Ask->Prop
 |.fn n st=>nsIn K vQ n=vD (vD (.ref (Ba K n)))/\FnSaid K n n st (Ba K n)
 |.mt c m q st=>findIn K (.ref (Ba K c)) m=vD (vD (.ref (G7 K (Ba K c) m)))/\isFn K (.ref (G7 K (Ba K c) m))=vF/\FnSaid K m q st (G7 K (Ba K c) m)
 | .cl c=>nsIn K vQ c=vD (vD (.ref (Ba K c)))/\plainGet K (Ba K c) Str.empty=vF/\hasDictIn K (Ba K c)=vF/\plainOver K (Ba K c)=vF/\
   findIn K (.ref (Ba K c)) "__setattr__"=vD (vD (.builtin "object.__setattr__"))/\makesIn K (Ba K c)=vF/\keepIn K (.ref (Ba K c))=vF
 |.no c x=>findIn K (.ref (Ba K c)) x=vD vE
 |.z n=>nsIn K vQ n=vD vE
 |.gi n v=>nsIn K vQ n=vD (vD (.int v (Cr K n)))
 |.gs n v=>nsIn K vQ n=vD (vD (.str v (Cr K n)))
 |.gt n vs=>GtSaid K n vs
 |.gd n kvs=>GdSaid K n kvs
 |.ck φ=>φ K=vF
 |.fd n st v=>nsIn K vQ n=vD (vD (.ref (Ba K n)))/\FnSaidD K n n st (Ba K n) v
theorem Ask.said:∀{a:Ask},a.chk K=vF->a.txt K=a.want->a.Said K
 |.fn n e,h,t=>by obtain⟨b,d⟩:=jV.mp h;exact⟨ZBo b,ZJM d (Option.some.inj t)⟩
 |.mt c m q e,h,t=>by obtain⟨b,d⟩:=jV.mp h;exact⟨(ZDU b).1,(ZDU b).2,ZJM d (Option.some.inj t)⟩
 |.cl c,h,_=>by simp only[Ask.chk,zD]at h;obtain⟨⟨b,⟨d,g⟩,j⟩,⟨i,k⟩,f⟩:=h;exact⟨ZBo b,d,g,j,ZPd i,k,f⟩
 |.no c x,h,_=>ZPH h
 |.z n,h,_=>ZTL h
 |.gi n v,h,_=>ZPb h
 |.gs n v,h,_=>ZSX h
 |.gt n o,h,_=>ZTD h
 |.gd n l,h,_=>ZUf h
 |.ck _,h,_=>h
 |.fd n e v,h,t=>by obtain⟨b,d⟩:=jV.mp h;exact⟨ZBo b,ZQh d (Option.some.inj t)⟩
def AllSaid(K:v9):List Ask->Prop
 |[]=>True
 |a::r=>a.Said K/\AllSaid K r
theorem ZEG:∀{l:List Ask},(l.all (Ask.chk K),l.map (Ask.txt K))=(vF,l.map Ask.want)->AllSaid K l
 |[],_=>trivial
 |a::r,h=>by obtain⟨c,b⟩:=Prod.mk.inj h;rw[qN]at c;obtain⟨d,f⟩:=jV.mp c;rw[zw,zw]at b;obtain⟨e,g⟩:=List.cons.inj b;exact⟨Ask.said d e,ZEG (by rw[f,g])⟩
theorem ZUg(F:Fun K x q st f fd)
  (h:∀(kV c pm:xD)(d:Option xz)(b e:xD)(u:xD),bindArgs (fnOf x q (Hf st) (Fb st) (Aj st) .none kV c pm d b e) ⟨[u],[]⟩=pure [(a,u)]):BindsTo s fd ⟨[v],[]⟩ [(a,v)]:=by
 obtain⟨k,j,kV,c,pm,d,b,e,g,rfl,l,i⟩:=F.ex;exact .of_eq (h kV c pm d b e v)
theorem ZJg:∀{n:Nat}{s s':SharedT}{t:Thread},R8 p w n₀ ann n s t=vD s'->topRun vK p w n₀ ann n s.abs t=vD s'.abs
 |0,_,_,_,h=>by cases h
 | n+1,s,s',t,h=>by
  unfold R8 at h;unfold topRun;rw[<-PySem.W.Fast.te6613529449190102663,<-PySem.W.Fast.te10156331382660048174,<-PySem.W.Fast.te11892475500146522536,<-PySem.W.Fast.te14364793385576792824]at h;cases b:through t with
  |true=>
   rw[b]at h;cases h
   rfl
  | false=>
   rw[b]at h;dsimp only at h⊢;cases a:stepOk n₀ ann t with
   |false=>rw[a]at h;cases h
   |true=>
    rw[a]at h;dsimp only at h⊢;split at h
    ·rename_i c d e;rw[stepT_spec e];exact ZJg h
    ·cases h
theorem boot_abs:∀w a,(ZIC w a).abs=⟨vA w.params,Array.mk [],boot_drawn,boot_toks,a⟩:=λw a=>by kernel_rfl
theorem ZNG:∀w:xE,((vA w.params).isNs vQ&&(Array.mk []:Array GenState).size==0)=vF:=λw=>by kernel_rfl
theorem ZL0{p q:x0}{loose:List Str}{Xt:xB->Bool}{g:Type}{see:Heap->g}{val:g}(e:opening p=plainProg p.main.scope.names)(f:∀s,fenceModules? p s=vD s)
  (R:∀w a,(Pn p w a).map (λs=>(Oc p w s.abs,PySem.W.Fast.tw4187177175401517315 q loose (PySem.W.Fast.tw5923862056798008813 p.main.body) Xt vF s.abs,see s.abs.heap))=vD (vF,openGood q loose,val)):
  ∀w,(openEnds vK p w 100000).map (λs=>(openSeen q loose (xS p.main.body) Xt vF s,see s.heap))=vD (openGood q loose,val):=λw=>by
 obtain⟨⟨h,l,d,k,a⟩,o,j⟩:=zO.mp (boot_open (N:=100000) e rfl f w);obtain⟨rfl,rfl,rfl,rfl⟩:h=vA w.params/\l=Array.mk []/\d=boot_drawn/\k=boot_toks:=by simpa using j
 obtain⟨s,i,n⟩:=zO.mp (R w a);obtain⟨c,b⟩:=Prod.mk.inj n;obtain⟨b,m⟩:=Prod.mk.inj b;unfold Pn at i;have r:=ZJg i;rw[boot_abs,<-PySem.W.Fast.te8920871248978507458]at r;rw[<-PySem.W.Fast.te4187177175401517315,<-PySem.W.Fast.te5923862056798008813]at b;unfold Oc at c;rw[<-PySem.W.Fast.te5923862056798008813]at c;have t:topFrom vK p w 100000 ⟨vA w.params,Array.mk [],boot_drawn,boot_toks,a⟩=vD s.abs:=by
  unfold topFrom;dsimp only;rw[ZNG,r]
  show(match staticsOk (xS p.main.body) (vA w.params) s.abs.heap&&namesBound p s.abs.heap&&gensDone s.abs&&laidKept (vA w.params) s.abs.heap with |true=>_|false=>_)=_
  rw[c]
 unfold openEnds;rw[o];show(topFrom vK p w 100000 _).map _=_;rw[t];exact congrArg vD (Prod.ext b m)
structure FT (K:v9) (mg:Str->Option xD) (n:Str) (st:xC) (ps:List Str):Prop where
 F:Fun K n n st (Ba K n) (Bs K (Ba K n))
 b:Binds K (Bs K (Ba K n)) ps []
 m:mg n=vD (.ref (Ba K n))
 k:keepIn K (.ref (Ba K n))=vF
structure MT (K:v9) (c m q:Str) (st:xC) (ps:List Str):Prop where
 F:Fun K m q st (G7 K (Ba K c) m) (Bs K (G7 K (Ba K c) m))
 b:Binds K (Bs K (G7 K (Ba K c) m)) ps []
 me:Meth K (Ba K c) m (G7 K (Ba K c) m)
structure CT (K:v9) (mg:Str->Option xD) (c:Str):Prop where
 N:nsIn K vQ c=vD (vD (.ref (Ba K c)))
 cl:Cls K (Ba K c)
 g:mg c=vD (.ref (Ba K c))
 mK:Mk K (Ba K c) (G7 K (Ba K c) "__init__")
theorem Rb(s:FnSaid K x q st f):Fun K x q st f (Bs K f):=by
 have e:Bs K f=fnOf x q (Hf st) (Fb st) (Aj st) .none (Bs K f).kwdefaults (Bs K f).doc (Bs K f).pyModule (Bs K f).annotations (Bs K f).code (Bs K f).closureTuple:=by
  have h:=s.1
  conv=>lhs;unfold Bs Gz;rw[h]
 exact⟨⟨_,_,_,_,_,_,_,_,_,e,by rw[e];exact s.1,s.2.1⟩,s.2.2⟩
theorem ZOu(X:K.In h)(G:h.Ns vQ mg)(s:Ask.Said K (.fn n st))
  (c:∀(kV a pm:xD)(d:Option xz)(b e:xD)(us:List xD),us.length=ps.length->bindArgs (fnOf n n (Hf st) (Fb st) (Aj st) .none kV a pm d b e) ⟨us,[]⟩=pure (ps.zip us)):FT K mg n st ps:=
 ⟨Rb s.2,(Rb s.2).binds c,mg_of X G s.1,s.2.2.2⟩
theorem ZQj(s:Ask.Said K (.mt c m q st))
  (e:∀(kV a pm:xD)(d:Option xz)(b f:xD)(us:List xD),us.length=ps.length->bindArgs (fnOf m q (Hf st) (Fb st) (Aj st) .none kV a pm d b f) ⟨us,[]⟩=pure (ps.zip us)):MT K c m q st ps:=
 ⟨Rb s.2.2,(Rb s.2.2).binds e,s.1,s.2.1,s.2.2.2.2⟩
theorem ZUh(X:K.In h)(G:h.Ns vQ mg)(s:Ask.Said K (.cl c))(i:Ask.Said K (.mt c "__init__" q st)):CT K mg c:=
 ⟨s.1,⟨s.2.1,s.2.2.1,s.2.2.2.1,s.2.2.2.2.1⟩,mg_of X G s.1,s.2.2.2.2.2.1,i.1,i.2.1,s.2.2.2.2.2.2⟩
abbrev FnO(P:x0)(w:xE)(K:v9)(mg:Str->Option xD)(base:Heap)(k:Nat)(n:Str)(ps:List Str)(F:List D->DH->R D):Prop:=FnOk P w K mg base CX0 k (Ba K n) (Bs K (Ba K n)) ps (lF K F)
abbrev MtO(P:x0)(w:xE)(K:v9)(mg:Str->Option xD)(base:Heap)(k:Nat)(c m:Str)(ps:List Str)(F:List D->DH->R D):Prop:=FnOk P w K mg base CX0 k (G7 K (Ba K c) m) (Bs K (G7 K (Ba K c) m)) ps (lF K F)
theorem ZQw(F:Fun K x q st f fd)
  (h:∀(kV c pm:xD)(d:Option xz)(b e:xD)(u:xD),bindArgs (fnOf x q (Hf st) (Fb st) (Aj st) .none kV c pm d b e) ⟨[u],[]⟩=pure [(a,u)]:=by intros;rfl):BindsTo s fd ⟨[v],[]⟩ [(a,v)]:=ZUg F h
end _D
namespace _D
open PySem PySem.Spec _L
open PyProof.Rows hiding St
section
variable{prog:x0}{w:xE}{A:xj}{E:xD->xB->Prop}{s:xB}
def strAt(es:Array DictEntry)(x:Str):Option xD:=(es.findIdx? λe=>e.key.isStr x).bind λi=>es[i]?.map (·.val)
theorem ZHb{v:xD}{x:Str}(h:v.isStr x=vF):∃t,v=.str x t:=by
 cases v<;>first
  |(rename_i y t;unfold Value.isStr at h;exact⟨t,by rw[b h]⟩)
  |(rename_i y t;simp[Value.isStr]at h;exact⟨t,by rw[h]⟩)
  |cases h
theorem ZIO{d:xz}{o:Obj}{es:Array DictEntry}{ep}{x:Str}{t:Tok}{Q:Option xD->xB->Prop}(ho:s.heap.get? d=vD o)(g:o.data=.dict es ep)
  (f:(es.all λe=>isExactStrKey e.key)=vF) (h:Q (strAt es x) {s with toks:=s.toks+1}):
  vY (vZ prog w) A (dictGet d (.str x t)) Q E s:=by
 unfold strAt at h;unfold dictGet
 try with_reducible refine vk ?_
 refine vz (wpAny_pyHash_str (vz ?_));unfold dictFind
 try with_reducible refine vk ?_
 refine vz (wpAny_dictEntries (s:={s with toks:=s.toks+1}) ho g ?_);dsimp only;rw[if_pos f];unfold foundByValue;cases j:es.findIdx? (λe=>e.key.isStr x)with
 |none=>rw[j]at h;exact v6 (v6 h)
 |some i=>
  rw[j]at h;obtain⟨c,l,_⟩:=Array.findIdx?_eq_some_iff_getElem.mp j;obtain⟨u,k⟩:=ZHb l;simp only[Array.getElem?_eq_getElem c]at h⊢;rw[k];refine vz (wpAny_dictEpoch (s:={s with toks:=s.toks+1}) ho g (vz (wpAny_eqBool_str (vz (wpAny_dictEpoch (s:={s with toks:=s.toks+1}) ho g ?_)))));show vY _ _ (if(ep != ep)=vF then _ else _) _ E _;rw[if_neg (by simp),decide_eq_true rfl]
  refine vz (wpAny_rule (v6 ?_));exact vz (wpAny_dictEntries (s:={s with toks:=s.toks+1}) ho g (v6 (by simpa[Array.getElem?_eq_getElem c]using h)))
theorem ZJ9{ep}(ho:s.heap.get? d=vD o)(g:o.cls=.type "dict")(i:o.data=.dict es ep)
  (b:(es.all λe=>isExactStrKey e.key)=vF) (j:strAt es x=vD v) (h:Q v {s with toks:=s.toks+1}):vY (vZ prog w) A (getItem (.ref d) (.str x t)) Q E s:=by
 have f:s.TypeIs (.ref d) "dict":=⟨o,ho,g⟩;unfold getItem
 try with_reducible refine vk ?_
 refine vz (wpAny_sequenceKey f (by decide) ?_);refine vz (vj (name:=Str.ofString "__getitem__") f slot_dict_getitem
  (vx slot_dict_getitem f entry_dict_getitem ?_ (args_dict_getitem _ _)))
 show vY _ _ (dictGet d (.str x t) >>=_) _ _ s;refine vz (ZIO ho i b ?_);rw[j];exact v6 ⟨v,rfl,v6 h⟩
theorem ZKc{ep}(g:(d==sysModules)=vG)(ho:s.heap.get? d=vD o)(j:o.cls=.type "dict")(k:o.data=.dict es ep)
  (b:(es.all λe=>isExactStrKey e.key)=vF) (h:Q (.bool (!(strAt es x).isSome)) {s with toks:=s.toks+1}):vY (vZ prog w) A (xR .NotIn (.str x t) (.ref d)) Q E s:=by
 have f:s.TypeIs (.ref d) "dict":=⟨o,ho,j⟩
 show vY _ _ (do return .bool (!(<-contains (.ref d) (.str x t)))) Q E s
 refine vz ?_;unfold contains
 try with_reducible refine vk ?_
 refine vz (wpAny_specialOf f slot_dict_contains.lookup ?_);show vY _ _ (if(vD (Value.builtin "dict.__contains__")==vD Value.none)=vF then _ else _) _ E s;rw[if_neg (by rw[beq_builtin_none];exact zk)];refine vz (wpAny_callSpecialUnlessNone?_slot (name:=Str.ofString "__contains__") f slot_dict_contains
  (vx slot_dict_contains f entry_dict_contains ?_ (args_dict_contains _ _)))
 show vY _ _ (dictGet d (.str x t) >>=_) _ _ s;refine vz (ZIO ho k b ?_);cases i:strAt es x with
 |some v=>
  rw[i]at h;show vY _ _ (ret (.bool vF)) _ _ _;exact v6 ⟨_,rfl,v8 (v6 h)⟩
 |none=>
  rw[i]at h;show vY _ _ (Builtin.Dict.pendingKey? d (.str x t) >>=_) _ _ _;exact vz (wpAny_pendingKey_other g (v6 ⟨_,rfl,v8 (v6 h)⟩))
end
theorem strAt_eq:strAt es x=(es.toList.find? λe=>e.key.isStr x).map (·.val):=by
 obtain⟨l⟩:=es;have e:=findBy_of_findIdx? (λ(x:Str)(v:xD)=>v.isStr x) ⟨l⟩ x;unfold findBy at e;rw[<-Array.find?_toList]at e;unfold strAt;rw[e]
 cases(Array.findIdx? (λe=>e.key.isStr x) ⟨l⟩)<;>rfl
def AtT(kvs:List (Str×Str))(es:Array DictEntry):Prop:=∀x,(kvs.lookup x=vE/\strAt es x=vE)∨∃v t,kvs.lookup x=vD v/\strAt es x=vD (.str v t)
theorem ZEQ:∀{kvs:List (Str×Str)}{es:List DictEntry},Vals ((kvs.map (·.1)).map V.str) (es.map (·.key))->Vals ((kvs.map (·.2)).map V.str) (es.map (·.val))->(es.all λe=>isExactStrKey e.key)=vF/\
  ∀x,(kvs.lookup x=vE/\(es.find? λe=>e.key.isStr x).map (·.val)=vE)∨∃v t,kvs.lookup x=vD v/\(es.find? λe=>e.key.isStr x).map (·.val)=vD (.str v t)
 |[],[],_,_=>⟨rfl,λ_=>.inl ⟨rfl,rfl⟩⟩
 |[],e::es,h,_=>by cases h
 |(k,v)::kvs,[],h,_=>by cases h
 | (k,v)::kvs,⟨y,C,B⟩::es,r,n=>by
  cases r with
  | cons l o=>cases n with
   | cons m u=>
    obtain⟨g,rfl⟩:=l;obtain⟨i,rfl⟩:=m;obtain⟨d,b⟩:=ZEQ o u;refine⟨by rw[qN,d];rfl,λx=>?_⟩;by_cases c:x=k
    ·subst c;exact .inr ⟨v,i,by simp[jY],by simp[qk,Value.isStr]⟩
    ·have f:¬k=x:=λz=>c z.symm
     have j:(x==k)=vG:=by simpa using c
     have q:(Value.str k g).isStr x=vG:=by
      cases h:(Value.str k g).isStr x with
      |false=>rfl
      |true=>obtain⟨t,e⟩:=ZHb h;cases e;exact absurd rfl f
     rw[jY,j,qk];simp only[q];exact b x
structure DctAt (K:PySem.W.Frag) (p:xz) (kvs:List (Str×Str)):Prop where
 ex:∃(o:Obj)(es:Array DictEntry)(ep:Nat),(p==sysModules)=vG/\K.lookup p=vD o/\o.cls=.type "dict"/\o.data=.dict es ep/\(es.all λe=>isExactStrKey e.key)=vF/\AtT kvs es
def DctG(K:PySem.W.Frag)(mg:Str->Option xD)(n:Str)(kvs:List (Str×Str)):Prop:=∃p,mg n=vD (.ref p)/\DctAt K p kvs
theorem ZMA{K:PySem.W.Frag}{h:Heap}{b:Str->Option xD}{n:Str}{kvs:List (Str×Str)}(X:K.In h)(G:h.Ns vQ b)(s:GdSaid K n kvs):DctG K b n kvs:=by obtain⟨p,m,o,k,d,j,g,c,l,e⟩:=s;obtain⟨i,f⟩:=ZEQ l e;exact⟨p,PySem.W.mg_of X G j,⟨_,d,k,c,g,rfl,rfl,by rw[<-Array.all_toList];exact i,λx=>by rw[strAt_eq];exact f x⟩⟩
def Lw(kvs:List (Str×Str)):D->DH->R D
 |.str x,G=>match kvs.lookup x with
  |some v=>.ok (.str v) G
  |none=>.bad
 |_,_=>.bad
def Nm(kvs:List (Str×Str)):D->DH->R D
 |.str x,G=>.ok (.bl (!(kvs.lookup x).isSome)) G
 |_,_=>.bad
section
variable{X:Cx}{E:XK}{p:xz}{kvs:List (Str×Str)}{x:Str}{a:xw}{ta:DE}{np pos:Pos}
theorem ix_g(D:DctAt X.K p kvs):IxR X (λx y H Q=>∃k v,x=.ref p/\y=.str k/\kvs.lookup k=vD v/\Q (.str v) H):=by
 intro value slice vC s σ H x y v u Q I rx ry h hs;obtain⟨k,w,rfl,rfl,hl,q⟩:=h;obtain rfl:v=Value.ref p:=rx;obtain⟨t,rfl⟩:=ry;obtain⟨o,es,ep,hds,hK,hc,hd,ha,hat⟩:=D.ex;have ho:=I.kIn _ _ hK;have hT:s.TypeIs (.ref p) "dict":=⟨o,ho,hc⟩;obtain⟨v',t',hv⟩:∃v' t',strAt es k=vD (.str v' t')/\v'=w:=by
  rcases hat k with⟨z,_⟩|⟨v',t',z,z'⟩
  ·rw[hl]at z;cases z
  ·rw[hl]at z;cases z;exact⟨_,t',z',rfl⟩
 obtain⟨hv,rfl⟩:=hv;unfold subscriptTail;refine vz ?_;rw[getitemInPython_of_ne hT.not_modules];refine vz (wpAny_specialOf hT PySem.F.slot_dict_getitem.lookup ?_);have fin:vY (vZ X.prog X.w) X.A (subscripted slice vG (.ref p) (.str k t)) (λr s₃=>vY (vZ X.prog X.w) X.A (letTemporaryGo value (.ref p) r >>=λ_=>pure r) (EP X vC σ Q) X.xe s₃) X.xe s:=by rw[hs];exact wpAny_operating (ZJ9 ho hc hd ha hv (vz (wpAny_letTemporaryGo (v6 ⟨.str v',H,I.tok _,⟨_,rfl⟩,q⟩))))
 first
  |exact v6 (vz fin)
  |exact vz (v6 (vz fin))
  |exact vz fin
theorem ZS2(D:DctAt X.K p kvs):OpR X (xR .NotIn) (λy x H Q=>∃k,x=.ref p/\y=.str k/\Q (.bl (!(kvs.lookup k).isSome)) H):=by
 intro f s F H y x v u Q I m j ⟨k,e,n,q⟩;subst e n;obtain rfl:u=Value.ref p:=j;obtain⟨t,rfl⟩:=m;obtain⟨o,J,C,d,i,g,l,h,b⟩:=D.ex;refine ZKc d (I.kIn _ _ i) g l h ⟨.bl (!(kvs.lookup k).isSome),H,I.tok _,?_,q⟩;rcases b k with⟨z,c⟩|⟨r,B,z,c⟩
 ·rw[z,c];rfl
 ·rw[z,c];rfl
theorem ZM1(l:Gl X x)(h:DctG X.K X.mg x kvs)(e:QE X E a ta)(f:PlainIx a:=by intro _ _;rfl)(j:(x==("__debug__":Str))=vG:=by decide):QE X E (.Subscript (.Name x np) a pos) (dUn (Lw kvs) ta):=by
 obtain⟨p,g,D⟩:=h;refine(ZF9 (ix_g D) (ZBs (v:=.ref p) l g rfl j) e f).mono λo H Q h=>?_
 obtain⟨a,S,G,hk,rfl,s,r,h⟩:=h;refine⟨a,S,G,hk,rfl,s,r,(Em h).imp ?_⟩;rintro v _ ⟨b,d,n,rfl,y,m,i,_,c⟩;cases d with
 |str k=>
  cases(show v=.str k from i)
  unfold Lw at c;dsimp only at c;split at c
  ·rename_i w hw;exact⟨k,w,rfl,rfl,hw,c b _ (Ext.refl b) m rfl⟩
  ·exact c.elim
 |_=>exact c.elim
theorem ZS8(h:lE X.K E (dUn (Nm kvs) ta) σ H Q):tOp (λy x H Q=>∃k,x=.ref p/\y=.str k/\Q (.bl (!(kvs.lookup k).isSome)) H) (lE X.K E ta) (tC (.ref p)) σ H Q:=by
 obtain⟨a,S,G,hk,rfl,s,r,h⟩:=h;refine⟨a,S,G,hk,rfl,s,r,(Em h).imp ?_⟩;rintro v _ ⟨b,d,g,rfl,y,e,f,_,c⟩;cases d with
 |str k=>
  cases(show v=.str k from f)
  exact⟨k,rfl,rfl,c b _ (Ext.refl b) e rfl⟩
 |_=>exact c.elim
theorem ZSa(e:Gl X x)(h:DctG X.K X.mg x kvs)(b:QE X E a ta)(c:xL .NotIn (.Name x np)=vG)(d:(x==("__debug__":Str))=vG:=by decide):QT X E (.Compare a [.NotIn] [.Name x np] pos) (Ag (dUn (Nm kvs) ta)):=by obtain⟨p,hp,D⟩:=h;exact(ZFK (ZS2 D) b (ZBs (v:=.ref p) e hp rfl d) c).mono λf H Q h=>Xl (λ_ _ _ z=>ZS8 z) f H Q (Rj h)
end
def Gd(kvs more:List (Key×D)):List (Key×D):=more.foldl (λacc kv=>putD acc kv.1 kv.2) kvs
theorem RepKV.merge:∀{more:List (Key×D)}{ms:List (Key×V)}{kvs:List (Key×D)}{us:List (Key×V)},RepKV a more ms->RepKV a kvs us->RepKV a (Gd kvs more) (Kq us ms)
 |[],ms,kvs,us,h,r=>by have:ms=[]:=j7.mp h.1.symm;subst this;exact r
 |(k,d)::more,ms,kvs,us,h,r=>by obtain⟨v,b,rfl,c,e⟩:=RepKV.cons h;exact RepKV.merge (more:=more) (ms:=b) e (r.put (k:=k) c)
noncomputable def Dc:D->Option V
 |.int i=>vD (.int i)
 |.str x=>vD (.str x)
 |_=>vE
theorem ZPB(h:Dc d=vD w)(r:Rep a d v):v=w:=by
 cases d<;>first
  |(cases h;exact r)
  |cases h
theorem ZOa(h:Dc d=vD w):Rep a d w:=by
 cases d<;>first
  |(cases h;rfl)
  |cases h
def Mv(kvs:List (Str×D)):DE:=λ_ G=>.ok (.ref G.length) (G++[.dct (Gd [] (kvs.map λkv=>(.inr kv.1,kv.2)))])
section
variable{X:Cx}{E:XK}{pos:Pos}
def QPs(X:Cx)(E:XK)(pos:Pos)(keys:List (Option xw))(values:List xw)(kvs:List (Str×D)):Prop:=PPs X pos keys values (kvs.map λkv=>(tC (.str kv.1),lE X.K E (dC kv.2)))
theorem ZH9:QPs X E pos [] [] []:=ZTo
theorem I8(c:QE X E v (dC d))(b:QPs X E pos ks vs kvs):QPs X E pos (vD (.Constant (.str x) j p)::ks) (v::vs) ((x,d)::kvs):=ZSy ZIS c b
theorem ZF0:∀{kvs:List (Str×D)}{ws:List V}{b:Wd}{Q:List (V×V)->Hp->Prop},kvs.map (λe=>Dc e.2)=ws.map vD->b.K=X.K->Ext a0 b->Sim b G0->RepS b S σ->
  (∀c,Ext a0 c->Sim c G0->Q ((kvs.map λe=>V.str e.1).zip ws) c.H)->Uk (kvs.map λe=>(tC (.str e.1),lE X.K E (dC e.2))) σ b.H Q
 |[],ws,b,Q,hw,hk,g,f,i,h=>h b g f
 |(x,d)::kvs,[],b,Q,hw,hk,g,f,i,h=>by cases hw
 |(x,d)::kvs,w::ws,b,Q,hw,hk,g,f,i,h=>by rw[zw,zw]at hw;obtain⟨q,n⟩:=List.cons.inj hw;refine⟨b,S,G0,hk,rfl,f,i,λc v j t m=>?_⟩;obtain rfl:=ZPB q m;exact ZF0 n (j.k.trans hk) (g.trans j) t (i.mono j) λl o r=>h l o r
theorem ZIQ:∀{kvs:List (Str×D)},(kvs.all λb=>(Dc b.2).isSome)=vF->∃ws:List V,kvs.map (λb=>Dc b.2)=ws.map vD
 |[],_=>⟨[],rfl⟩
 |b::kvs,c=>by rw[qN,zD]at c;obtain⟨w,hw⟩:=jJ.mp c.1;obtain⟨ws,d⟩:=ZIQ c.2;exact⟨w::ws,by rw[zw,zw,d,hw]⟩
theorem ZJA:∀{kvs:List (Str×D)}{ws:List V},kvs.map (λb=>Dc b.2)=ws.map vD->RepKV c (kvs.map λb=>((.inr b.1:Key),b.2)) ((kvs.map λb=>(Sum.inr b.1:Key)).zip ws)
 |[],_,_=>RepKV.nil
 |b::kvs,[],h=>by cases h
 |b::kvs,w::ws,h=>by rw[zw,zw]at h;obtain⟨d,e⟩:=List.cons.inj h;exact RepKV.mk (ZOa d) (ZJA e)
theorem ZGb:∀{kvs:List (Str×D)}{ws:List V},(kvs.map λb=>V.str b.1).zip ws=((kvs.map λb=>(Sum.inr b.1:Key)).zip ws).map λb=>(kV b.1,b.2)
 |[],_=>rfl
 |b::kvs,[]=>rfl
 |b::kvs,w::ws=>congrArg _ ZGb
theorem ZCy(h:QPs X E pos keys values kvs)(F:(kvs.all λd=>(Dc d.2).isSome)=vF:=by rfl)(K:kvs.length<=15:=by decide)(g:keys.all (·.isSome)=vF:=by rfl)(y:keys.length=values.length:=by rfl)(J:keys≠[]:=by exact λz=>nomatch z)
  (q:keys.length<=15:=by decide):QE X E (.Dict keys values pos) (Mv kvs):=by
 refine(ZQJ h g y J q).mono λL H Q h=>?_
 obtain⟨a,S,G,hk,rfl,s,r,h⟩:=h;intro p hp;obtain⟨o,e⟩:=ZIQ F;have C:Sim (a.push p (.dK [])) (G++[.dct []]):=s.push hp ⟨[],rfl,RepKV.nil⟩;refine ZF0 (b:=a.push p (.dK [])) (a0:=a.push p (.dK [])) (G0:=G++[.dct []]) (S:=S) e hk (Ext.refl _) C (r.mono (Ext.push hp)) λc l u=>?_
 have f:a.n<c.n:=zz (qK _) l.n;have j:c.m a.n=p:=by rw[l.m a.n (qK _)];show(if a.n=a.n then p else a.m a.n)=p;rw[if_pos rfl]
 obtain⟨t,k,I⟩:=u.obj a.n (.dct []) (by rw[<-s.len];simp);have:t=[]:=j7.mp I.1.symm;subst this;rw[j]at k;have v:o.length=kvs.length:=by have:=congrArg xq e;simpa using this.symm
 refine⟨k,(kvs.map λd=>(Sum.inr d.1:Key)).zip o,ZGb,by simp;lia,?_⟩
 ·have hw:=u.wrD (i:=a.n) f (us:=[]) (us':=Kq [] ((kvs.map λd=>(Sum.inr d.1:Key)).zip o)) (kvs':=Gd [] (kvs.map λd=>((.inr d.1:Key),d.2))) (by rw[j];exact k) (RepKV.merge (ZJA e) RepKV.nil);rw[j]at hw;have B:(G++[DO.dct []]).set a.n (DO.dct (Gd [] (kvs.map λd=>((.inr d.1:Key),d.2))))=G++[DO.dct (Gd [] (kvs.map λd=>((.inr d.1:Key),d.2)))]:=by rw[<-s.len];simp
  rw[B]at hw;refine h (c.put p _) (.ref p) (((Ext.push hp).trans l).trans (Ext.wrD k)) hw ⟨by rw[s.len];exact f,?_⟩;show V.ref p=V.ref (c.m G.length);rw[s.len,j]
end
section
variable{S:DSt}{G:DH}
@[simp]theorem ZVv:Mv kvs S G=.ok (.ref G.length) (G++[.dct (Gd [] (kvs.map λb=>(.inr b.1,b.2)))]):=id rfl
theorem ZOq(h:kvs.lookup x=vD v):Lw kvs (.str x) G=.ok (.str v) G:=by
 show(match kvs.lookup x with |some v=>R.ok (D.str v) G|none=>R.bad)=_
 rw[h]
@[simp]theorem ZV2:Nm kvs (.str x) G=.ok (.bl (!(kvs.lookup x).isSome)) G:=id rfl
end
theorem Bm{X:Cx}{k j:Nat}{n:Str}{st:xC}{ps:List Str}{F:List D->DH->R D}{p pos:Pos}{e:xw}{es:List xw}{tr:DA}(l:FnO X.prog X.w X.K X.mg X.base k n ps F)(T:FT X.K X.mg n st ps)(h:Room j X.A)(c:QA X E0 (e::es) tr)
  (i:k<=j:=by decide) (g:Gl X n:=by exact rfl) (f:(n==("__debug__":Str))=vG:=by decide) (d:notStar e=vF:=by exact rfl) (hp:es.all notStar=vF:=by exact rfl):QE X E0 (.Call (.Name n p) (e::es) [] pos) (dFn F tr):=
 ZRX l (h.mono i) g T.m T.k T.b pass0 c f d hp
section
variable{M:Model}{A:xj}{E:xD->xB->Prop}{s:xB}{B:Heap}{env:Env}{outer:List Env}{L e:xz}{oe:Obj}{vs:Array xD}{head:xD}{hn:Bool}{Q:Unit->xB->Prop}
end
section
variable{X:Cx}{vC:List (xz×Obj)}{σ:St}{H H':Hp}{s s':xB}{B h'':Heap}{ea:xz}{cls:xD}{od:Option xz}{E:XK}
end
section
variable{prog:x0}{w:xE}{A:xj}{E:xD->xB->Prop}{h:Heap}{g:Array GenState}{d:Drawn}{t:Nat}{os:OsState}
variable{nm q:Str}{C N:xz}{bs bm bmB:List xD}{hdct:Bool}{sn:List Str}{sub:List xD}{ab:Bool}{col:Option Bool}{dd:Option xz}{k0 k1 k2 k3 k5:Option xD}{B newId initId:String}
end
noncomputable abbrev vmro:List xD:=[.type "ValueError",.type "Exception",.type "BaseException",.type "object"]
def Ye(K:PySem.W.Frag)(C:xz):Bool:=match K.lookup C with
 |some ⟨.type "type",_,.cls cd,sl⟩=>(match cd.mro,sl.toList with
  |.ref C'::bm,[_,_,_,_,vD (.builtin n),_]=>C'==C&&n == "ValueError.__new__" && !cd.hasDel&&cd.hasDict&&PySem.W.tailIn K vmro bm&&PySem.W.nsOkIn K cd.ns
  |_,_=>vG)
 |_=>vG
section
variable{X:Cx}{C W:xz}{x:Str}{mc:xD}{p apos pos:Pos}{a1 a2:xw}{t:TA}
end
section
open PySem.W
variable{prog:x0}{w:xE}{A:xj}{s:xB}{K:v9}{x C:xz}{R:Result->xB->Prop}
end
section
variable{prog:x0}{w:xE}{A:xj}{E:xD->xB->Prop}{s:xB}{K:PySem.W.Frag}{e C t:xz}{name:Str}{v:xD}
end
section
variable{X:Cx}{C:xz}{f:Str}{o value:xw}{pos pos':Pos}{ta tv:TE}
end
section
variable{X:Cx}{j:Nat}{v s1 s2:Str}{k1 k2 p1 p2 pv pf pos}
end
section
variable{M:Model}{A:xj}{E:xD->xB->Prop}{env:Env}
variable{nm q:Str}{C N:xz}{bs bm:List xD}{hdct:Bool}{sn:List Str}{sub:List xD}{ab:Bool}{col:Option Bool}{dd:Option xz}{k0 k1 k2 k3 k5:Option xD}{newId:String}
end
section
variable{X:Cx}{C fI:xz}{f x:Str}{np cpos pos:Pos}{a:xw}{ta:TA}{E:XK}{k:Nat}{fd:xk}{v:Str}
end
section
variable{X:Cx}{vC:List (xz×Obj)}{σ:St}{H H':Hp}{s s':xB}{B h'':Heap}{ea:xz}{cls:xD}{od:Option xz}{E:XK}{fl:xD}
end
section
variable{M:Model}{A:xj}{E:xD->xB->Prop}{h:Heap}{g:Array GenState}{d:Drawn}{t:Nat}{os:OsState}
end
section
variable{X:Cx}{vC:List (xz×Obj)}{σ:St}{H:Hp}{s:xB}
end
section
variable{X:Cx}{vC:List (xz×Obj)}{σ:St}{H:Hp}{s:xB}{ea:xz}
end
section
variable{X:Cx}{f W:xz}{fn x n:Str}{fp cp ep np hp pos:Pos}{a:xw}{es:List xw}{ta:TA}{sp:Sp}{k i:Nat}{fd:xk}{ps:List Str}{b₀:xC}{suite:List xC}{th:TS}
def takes(K:PySem.W.Frag)(C W:xz):Bool:=Ye K C&&Ye K W&&match K.lookup C with
 |some ⟨_,_,.cls cd,_⟩=>cd.mro.contains (.ref W)
 |_=>vG
end
section
variable{X:Cx}{E:XK}{C fI:xz}{c f v:Str}{np cpos pos:Pos}{a:xw}{t:DA}{k:Nat}{fd:xk}
end
section
variable{X:Cx}{E:XK}{f W:xz}{fn x n:Str}{fp cp ep np hp pos:Pos}{a:xw}{es:List xw}{t:DA}{F:List D->DH->R D}{k i:Nat}{fd:xk}{ps:List Str}{b₀:xC}{suite:List xC}{hb:DS}{ws:List Str}
end
section
variable{X:Cx}{E:XK}{x:Str}{p pos:Pos}{e:xw}{es:List xw}{tr:DA}
end
section
variable{X:Cx}{E:XK}{x:Str}{p pos:Pos}{e:xw}{es:List xw}{tr:DA}
end
structure XGet (K:PySem.W.Frag) (C:xz):Prop where
 ga:PySem.W.findIn K (.ref C) "__getattribute__"=vD (vD (.builtin "BaseException.__getattribute__"))
 gn:PySem.W.findIn K (.ref C) "__getattr__"=vD vE
 sb:PySem.W.subIn K (.ref C) (.type "BaseException")=vD vF
 hd:PySem.W.hasDictIn K C=vF
 cl:PySem.W.findIn K (.ref C) "__class__"=vD (vD (.builtin "object.__class__"))
 cg:PySem.W.specialIn K (.builtin "object.__class__") "__get__"=vD (vD (.builtin "getset_descriptor.__get__"))
 ct:PySem.W.takesIn K (.builtin "object.__class__")=vD vF
 mo:PySem.W.mroIn K C (.type "object")=vD vF
 kc:PySem.W.kitCls K (.ref C) (.ref C)=vD vF
 ec:Ye K C=vF
section
variable{prog:x0}{w:xE}{A:xj}{E:xD->xB->Prop}{s:xB}{K:PySem.W.Frag}{x C:xz}{ox:Obj}{od:Option Obj}{name:Str}{tk:Tok}
end
section
variable{X:Cx}{E:XK}{vC:List (xz×Obj)}{σ:St}{H:Hp}{s:xB}
variable{e ce:xw}{ces:List xw}{t:DE}{tb:List (Str×Bool)}{cv:V}{cu:xD}{cvs:List V}{cus:List xD}{p pos tp:Pos}
variable{f:Str}{cs:List Str}
end
end _D
namespace _D
open PySem PySem.Spec PySem.W _L
open PyProof.Rows hiding St
section
variable{X:Cx}{E:XK}{c x n f v:Str}{e a:xw}{es:List xw}{t:DE}{tr:DA}{p q pos cpos np:Pos}{b:Bool}{F:List D->DH->R D}{k j:Nat}{ps:List Str}{st:xC}
end
end _D
namespace _D
open PySem PySem.Spec _L
open PyProof.Rows hiding St
section
variable{X:Cx}{E:XK}{vC:List (xz×Obj)}{σ:St}{s:xB}
end
end _D
namespace _D
open PySem PySem.W PySem.Spec _L
open PyProof.Rows hiding St
section
variable{X:Cx}{E:XK}{x:Str}{p pos:Pos}{e:xw}{es:List xw}{tr:DA}
end
section
variable{X:Cx}{E:XK}{n:Str}{e:xw}{es:List xw}{tr:DA}{p pos:Pos}{F:List D->DH->R D}{k j:Nat}{ps:List Str}{st:xC}{v:Int}
end
section
variable{X:Cx}{E:XK}{c x n f v:Str}{e a:xw}{es:List xw}{t:DE}{tr:DA}{p q pos cpos np:Pos}{b:Bool}{F:List D->DH->R D}{k j:Nat}{ps:List Str}{st:xC}
end
end _D
namespace _D
open PySem PySem.Spec _L
open PyProof.Rows hiding St
section
variable{X:Cx}{f:xz}{fn:Str}{fp cp ep pos:Pos}{a e:xw}{es:List xw}{t:DA}{te:DE}{F:List D->DH->R D}{k:Nat}{fd:xk}{ps:List Str}
end
section
variable{X:Cx}{W:xz}{x n:Str}{np hp pos:Pos}{i:Nat}{b₀:xC}{suite:List xC}{hb:DS}{ws ns:List Str}{hs:List ExceptHandler}{f:DHn}
end
section
variable{X:Cx}{W:xz}{x:Str}{np hp pos:Pos}{b₀:xC}{suite:List xC}{hb:DS}{ws ns:List Str}{hs:List ExceptHandler}{f:DHn}
end
end _D
namespace _D
open PySem PySem.Spec PySem.W _L
open PyProof.Rows hiding St
section
variable{X:Cx}{C:xz}{x:Str}{np cpos pos:Pos}{a:xw}{ta:TA}{E:XK}
end
section
variable{X:Cx}{E:XK}{c x n f v w:Str}{e a:xw}{es:List xw}{t:DE}{tr:DA}{p q pos cpos np fp cp ep hp:Pos}{b:Bool}{F:List D->DH->R D}{k j:Nat}{ps:List Str}{st:xC}
def Cf(K:v9)(f:Str)(cs:List Str):Prop:=∀c∈cs,∀C,nsIn K vQ c=vD (vD (.ref C))->XGet K C/\NoAttr K C f
end
section
variable{X:Cx}{n y:Str}{e e2:xw}{es:List xw}{tr:DA}{tu:DE}{p pos kp:Pos}{F:List D->DH->R D}{k j:Nat}{ps:List Str}{st:xC}{v:Int}
end
section
variable{prog:x0}{w:xE}{A:xj}{E:xD->xB->Prop}{s:xB}
end
section
variable{X:Cx}{E:XK}
end
section
variable{X:Cx}{E:XK}
end
section
variable{X:Cx}{E:XK}
end
end _D
namespace _D
open PySem PySem.Spec _L
open PyProof.Rows hiding St
noncomputable def tgN:xw->List Str
 |.Name x _=>[x]
 |.Tuple es _ _=>es.flatMap λe=>match e with
  |.Name x _=>[x]
  |_=>[]
 |_=>[]
def Ih(tg:xw)(caps:List Nat)(N:List Str):List Str:=tgN tg++caps.map λj=>N.getD j ""
section
variable{X:Cx}{scope:xA}{nt:Nat}{caps:List Nat}{tg elt iter:xw}{ifs:List xw}{pos:Pos}{it:DI}{g:DG}{c:DB}{te:DE}
theorem ZNN(hi:QI X E0 tg iter it)(m:∀C b a d,(Ih tg caps X.N).Nodup->QG (blk X (Ih tg caps X.N) scope C b a d) E0 tg g)(l:GK nt g)(f:∀C b a d,QTs (blk X (Ih tg caps X.N) scope C b a d) E0 ifs c)
  (k:∀C b a d,QE (blk X (Ih tg caps X.N) scope C b a d) E0 elt te) (i:X.calm=vF:=by rfl) (hk:scope.kind=.function:=by rfl) (e:∀x,X.env.kindOf x=X.env.scope.names.lookup x:=by intro _;rfl)
  (h:Rc X.env.scope.names X.N (Ih tg caps X.N) scope.names nt caps=vF:=by kernel_rfl) (j:∀x,foldedSetIterable iter X.env x=pure x:=by intro _;rfl):QE X E0 (.ListComp elt [⟨tg,iter,ifs,0⟩] scope pos) (Bw it nt caps g c te):=
 have cs:=ZGg hk e rfl h
 ZRY i cs hi (λC b a d=>m C b a d cs.nd) l f k j
theorem ZLF(i:Nat){y:Str}{l d:Pos}(r:X.N.Nodup)(hi:QI X E0 tg iter it)(s:∀C b a e,(Ih tg caps X.N).Nodup->QG (blk X (Ih tg caps X.N) scope C b a e) E0 tg g)(q:GK nt g)(k:∀C b a e,QTs (blk X (Ih tg caps X.N) scope C b a e) E0 ifs c)
  (o:∀C b a e,QE (blk X (Ih tg caps X.N) scope C b a e) E0 elt te) (m:X.calm=vF:=by rfl) (hk:scope.kind=.function:=by rfl) (f:∀x,X.env.kindOf x=X.env.scope.names.lookup x:=by intro _;rfl)
  (h:Rc X.env.scope.names X.N (Ih tg caps X.N) scope.names nt caps=vF:=by kernel_rfl)
  (u:X.N[i]?=vD y:=by rfl) (t:Loc X.env.scope y:=by first|exact Or.inl rfl|exact Or.inr rfl) (p:X.fn y=vF∨X.env.scope.names.lookup y=vD .local:=by first|exact .inl rfl|exact .inr rfl|assumption)
  (j:swapsWith (.ListComp elt [⟨tg,iter,ifs,0⟩] scope pos) (vD (.Name y l)) d.line X.env=pure vF:=by rfl)
  (n:∀x,foldedSetIterable iter X.env x=pure x:=by intro _;rfl):QS X E0 (.Assign [.Name y l] (.ListComp elt [⟨tg,iter,ifs,0⟩] scope pos) d) (sAs (Bw it nt caps g c te) (gV i)):=
 have cs:=ZGg hk f rfl h
 ZMO i m r cs hi (λC b a e=>s C b a e cs.nd) q k o u t p j n
end
theorem bnd1{p:List xD->Prop}(h:∀a,p [a]):∀us:List xD,us.length=1->p us
 |[a],_=>h a
theorem bnd2{p:List xD->Prop}(h:∀a b,p [a,b]):∀us:List xD,us.length=2->p us
 |[a,b],_=>h a b
theorem bnd3{p:List xD->Prop}(h:∀a b c,p [a,b,c]):∀us:List xD,us.length=3->p us
 |[a,b,c],_=>h a b c
theorem bnd4{p:List xD->Prop}(h:∀a b c d,p [a,b,c,d]):∀us:List xD,us.length=4->p us
 |[a,b,c,d],_=>h a b c d
theorem bnd5{p:List xD->Prop}(h:∀a b c d e,p [a,b,c,d,e]):∀us:List xD,us.length=5->p us
 |[a,b,c,d,e],_=>h a b c d e
theorem bnd7{p:List xD->Prop}(h:∀a b c d e f g,p [a,b,c,d,e,f,g]):∀us:List xD,us.length=7->p us
 |[a,b,c,d,e,f,g],_=>h a b c d e f g
theorem fsc{N P:List Str}{h:xA}(a:h.kind=.function:=by rfl)(b:h.isCoroutine=vG:=by rfl)(c:h.isGenerator=vG:=by rfl)(d:N.Nodup:=by decide +kernel)(e:N.take P.length=P:=by rfl)
  (f:∀x∈P,h.names.lookup x=vD .local∨h.names.lookup x=vD .cell:=by decide +kernel) (g:∀y∈h.names,y.2≠ .free:=by decide +kernel):FnScope N P h:=⟨a,b,c,d,e,f,g⟩
end _D
namespace _D
open PySem PySem.W _L
theorem ZQv{X:Cx}{E:XK}{x:Str}{n:Int}{t:Tok}{pos:Pos}(b:Gl X x)(a:X.mg x=vD (.int n t))(c:(x==("__debug__":Str))=vG:=by decide):QE X E (.Name x pos) (dC (.int n)):=
 Xb (v:=.int n) b a ⟨_,rfl⟩ (λ_ _=>rfl) c
theorem ZN4{X:Cx}{E:XK}{x:Str}{n:Str}{t:Tok}{pos:Pos}(b:Gl X x)(a:X.mg x=vD (.str n t))(c:(x==("__debug__":Str))=vG:=by decide):QE X E (.Name x pos) (dC (.str n)):=
 Xb (v:=.str n) b a ⟨_,rfl⟩ (λ_ _=>rfl) c
section
open Lean
def wA(s:String):Syntax:=.atom .none s
def wL(l:List Syntax):Syntax:=.node .none `null l.toArray
def wN(k:String)(l:List Syntax):Syntax:=.node .none ("Lean.Parser."++k).toName l.toArray
def wX(l:List Syntax):Syntax:=wN "Tactic.tacticSeq" [wN "Tactic.tacticSeq1Indented" [wL l]]
def wP(l:List Syntax):Syntax:=wN "Tactic.paren" [wA "(",wX l,wA ")"]
def wI(s:String):Syntax:=(mkIdent s.toName).raw
def wH:Syntax:=wN "Term.syntheticHole" [wA "?",wA "_"]
def wU(l:List String):Syntax:=wN "Term.fun" [wA "fun",wN "Term.basicFun" [wL (l.map wI),wL [],wA "=>",wH]]
def wY(l:List Syntax):Syntax:=match l.reverse with
 |x::y::r=>wN "Term.app" [x,wL (y::r)]
 |[x]=>x
 |_=>.missing
def wT(s:String):Syntax:=wY ((((s.replace "(" "( ").replace ")" " )").splitOn " ").foldl (λst w=>match st with
 | a::r=>
  if w="" then st else if w="(" then[]::st else if w=")" then(match r with
   |b::q=>(wY a::b)::q
   |_=>st)
  else((if w="_" then wN "Term.hole" [wA w]else if w="?" then wH else if w="." then wN "Term.ellipsis" [wA ".."]
   else if w="L" then wU ["C","s","H","e","nd"]else if w="l" then wU ["C","s","H","e"]
   else if w="d" then wN "Term.byTactic" [wA "by",wX [wN "Tactic.decide" [wA "decide",wN "Tactic.optConfig" [wL []]]]]
   else if w.isNat then(Syntax.mkNumLit w).raw else wI w)::a)::r
 |_=>st) [[]]).head!
def wF(l:List Syntax):Syntax:=wN "Tactic.first" [wA "first",wL (l.map λx=>.node .none `group #[wA "|",wX [x]])]
def wJ(a b:Syntax):Syntax:=wN "Tactic.«tactic_<;>_»" [a,wA "<;>",b]
def wG(k:String)(t:Syntax)(r:Syntax):Syntax:=wP [wN "Tactic.guardTarget" [wA "guard_target",wN "equal" [wN k [wA "="]],t],wA ";",r]
def wV:Syntax:=wN "Tactic.tacticTrivial" [wA "trivial"]
def wB(s:String):Syntax:=
 let t:=wT (s.drop 1).toString;let f:=λk=>wN ("Tactic."++k) [wA k,t]
 let c:=s.front
 if c='@' then f "apply" else if c='!' then wN "Tactic.withReducible" [wA "with_reducible",wX [f "exact"]]
 else if c='=' then wP [wJ (f "refine") (wN "Tactic.tacticRfl" [wA "rfl"])]else if c='<' then wP [wJ (f "refine'") wV]else if c='.' then f "exact" else f "refine'"
def wC(s:String):Syntax:=wF ((s.splitOn ",").map wB)
def wR(s:String):Syntax:=wF ((s.splitOn "#").map λg=>match g.splitOn "|" with
 | h::r=>
  let b:=wF (r.map λa=>match a.splitOn ":" with
   |[a,x]=>wG "equalD" (wT (h++" "++a)) (wC x)
   |_=>wC a)
  if h.front='=' then wG "equalR" (wT (h.drop 1).toString) b else if h.front='*' then b else wG "equalD" (wT (h++" _ _")) (wJ (wP [b]) wV)
 |_=>.missing)
end
end _D
namespace _W
open PySem _L _D
noncomputable def fuel:Nat:=100000
noncomputable abbrev ZDt:List Str:=["_law_cell","_law_unit_here"]
noncomputable abbrev ZAF:=ZDt.take 2
theorem ZO1:FnScope ZDt ZAF (Aj ZBV):=fsc
noncomputable abbrev ZDg:List Str:=["_law_number_here","_law_k","_law_digit"]
noncomputable abbrev ZCO:=ZDg.take 2
theorem ZT7:FnScope ZDg ZCO (Aj ZBE):=fsc
noncomputable abbrev ZC7:List Str:=["_law_script"]
noncomputable abbrev Wq:=ZC7.take 1
theorem ZLK:FnScope ZC7 Wq (Aj ZAe):=fsc
noncomputable abbrev ZFU:List Str:=["_law_script","_law_k","_law_number_here"]
noncomputable abbrev Xp:=ZFU.take 2
theorem ZNI:FnScope ZFU Xp (Aj Ze):=fsc
noncomputable abbrev ZC3:List Str:=["_law_script"]
noncomputable abbrev ZAw:=ZC3.take 1
theorem ZQc:FnScope ZC3 ZAw (Aj Yt):=fsc
noncomputable abbrev ZH3:List Str:=["_law_script","_law_house_here","_law_low","_law_lows","_law_unit_here","_law_many","_law_b","_law_levels","_law_coming","_law_k","_law_cell","_law_level","_law_room","_law_highs","_law_at","_law_cells","_law_added_here"]
noncomputable abbrev Zn:=ZH3.take 4
theorem ZPM:FnScope ZH3 Zn (Aj ZAW):=fsc
noncomputable abbrev ZJP:List Str:=["_law_script","_law_house_here","_law_many","_law_b","_law_k","_law_place","_law_kind","_law_what","_law_cell","_law_number_here"]
noncomputable abbrev ZAf:=ZJP.take 2
theorem ZRB:FnScope ZJP ZAf (Aj ZBe):=fsc
noncomputable abbrev ZD3:List Str:=["_law_ask_here","_law_number_here","_law_bound"]
noncomputable abbrev ZB9:=ZD3.take 3
theorem ZRs:FnScope ZD3 ZB9 (Aj Wj):=fsc
noncomputable abbrev ZJe:List Str:=["_law_what"]
noncomputable abbrev Z1:=ZJe.take 1
theorem ZJq:FnScope ZJe Z1 (Aj ZBt):=fsc
noncomputable abbrev ZHX:List Str:=["_law_script","_law_house_here","_law_turns","_law_many","_law_b","_law_floods_here","_law_at","_law_cells"]
noncomputable abbrev ZB4:=ZHX.take 3
theorem ZJ1:FnScope ZHX ZB4 (Aj ZBQ):=fsc
noncomputable abbrev ZFO:List Str:=["_law_cell","_law_one","_law_other"]
noncomputable abbrev We:=ZFO.take 3
theorem ZNq:FnScope ZFO We (Aj Zr):=fsc
noncomputable abbrev ZGK:List Str:=["_law_script","_law_b","_law_lows","_law_highs","_law_floods_here","_law_at","_law_flood","_law_k","_law_cell"]
noncomputable abbrev ZCL:=ZGK.take 4
theorem ZQ9:FnScope ZGK ZCL (Aj Y4):=fsc
noncomputable abbrev ZDw:List Str:=["_law_steps_here","_law_total","_law_low","_law_many","_law_way"]
noncomputable abbrev ZA6:=ZDw.take 1
theorem ZNF:FnScope ZDw ZA6 (Aj ZBH):=fsc
noncomputable abbrev ZEF:List Str:=["_law_cells","_law_unit_here","_law_pumps","_law_steps_here","_law_low","_law_k","_law_many","_law_way"]
noncomputable abbrev Y9:=ZEF.take 3
theorem ZRC:FnScope ZEF Y9 (Aj ZAj):=fsc
noncomputable abbrev ZDs:List Str:=["_law_script"]
noncomputable abbrev ZB5:=ZDs.take 1
theorem ZNO:FnScope ZDs ZB5 (Aj ZAv):=fsc
noncomputable abbrev ZEx:List Str:=["_law_script","_law_b","_law_unit_here","_law_pumps","_law_year_here","_law_rule_here","_law_begin","_law_j","_law_later","_law_cells"]
noncomputable abbrev Zq:=ZEx.take 4
theorem ZTC:FnScope ZEx Zq (Aj Zz):=fsc
noncomputable abbrev ZGj:List Str:=["_law_script","_law_b","_law_k","_law_names","_law_river","_law_unit_here","_law_cell","_law_pumps","_law_rule_here","_law_pump","_law_most","_law_to","_law_brim"]
noncomputable abbrev Y5:=ZGj.take 5
theorem ZR7:FnScope ZGj Y5 (Aj ZCA):=fsc
noncomputable abbrev ZIq:List Str:=["_law_cell","_law_k","_law_many","_law_other","_law_telling"]
noncomputable abbrev ZCI:=ZIq.take 3
theorem ZL1:FnScope ZIq ZCI (Aj Vu):=fsc
noncomputable abbrev ZJt:List Str:=["_law_script","_law_first","_law_many","_law_names","_law_k","_law_places","_law_b","_law_step","_law_delay","_law_river","_law_kind","_law_amount_here","_law_rank"]
noncomputable abbrev Wh:=ZJt.take 1
theorem ZJ4:FnScope ZJt Wh (Aj Xj):=fsc
noncomputable abbrev ZEi:List Str:=["_law_script","_law_cell"]
noncomputable abbrev X7:=ZEi.take 1
theorem ZNR:FnScope ZEi X7 (Aj W3):=fsc
noncomputable abbrev ZD0:List Str:=["_law_script","_law_house_here","_law_places","_law_unit_here","_law_b","_law_levels","_law_coming","_law_k","_law_level","_law_cell","_law_row","_law_j"]
noncomputable abbrev Zh:=ZD0.take 2
theorem ZPE:FnScope ZD0 Zh (Aj ZAZ):=fsc
noncomputable abbrev ZG7:List Str:=["_law_script","_law_b","_law_low","_law_high","_law_levels","_law_coming","_law_k","_law_cell"]
noncomputable abbrev ZBr:=ZG7.take 4
theorem ZMs:FnScope ZG7 ZBr (Aj ZCu):=fsc
noncomputable abbrev ZC6:List Str:=["_law_found","_law_number_here"]
noncomputable abbrev ZCT:=ZC6.take 1
theorem ZP8:FnScope ZC6 ZCT (Aj Ym):=fsc
noncomputable abbrev ZHM:List Str:=["cubes","sense","number"]
noncomputable abbrev ZBb:=ZHM.take 3
theorem ZSJ:FnScope ZHM ZBb (Aj Yi):=fsc
noncomputable abbrev ZEA:List Str:=["what"]
noncomputable abbrev Y6:=ZEA.take 1
theorem ZFy:FnScope ZEA Y6 (Aj ZB1):=fsc
noncomputable abbrev ZIL:List Str:=["pages","ask","what","place","sense","number","part","found","when","cubes","nearest"]
noncomputable abbrev Xx:=ZIL.take 2
theorem ZR0:FnScope ZIL Xx (Aj Yq):=fsc
noncomputable abbrev ZIN:List Str:=["house","ask","what","place","sense","number"]
noncomputable abbrev ZCh:=ZIN.take 2
theorem ZJn:FnScope ZIN ZCh (Aj ZBp):=fsc
noncomputable abbrev ZE6:List Str:=["numbers","others"]
noncomputable abbrev Xy:=ZE6.take 2
theorem ZM7:FnScope ZE6 Xy (Aj ZBf):=fsc
noncomputable abbrev ZEV:List Str:=["floods","others"]
noncomputable abbrev ZBm:=ZEV.take 2
theorem ZUG:FnScope ZEV ZBm (Aj ZA2):=fsc
noncomputable abbrev ZDb:List Str:=["state","other","levels","coming","other_levels","other_coming"]
noncomputable abbrev ZCD:=ZDb.take 2
theorem ZRh:FnScope ZDb ZCD (Aj ZCo):=fsc
noncomputable abbrev ZI7:List Str:=["low","high","lows","highs"]
noncomputable abbrev Xw:=ZI7.take 4
theorem ZHV:FnScope ZI7 Xw (Aj Xq):=fsc
noncomputable abbrev ZHy:List Str:=["low","high","lows","highs","ask","what","place","sense","number"]
noncomputable abbrev ZBy:=ZHy.take 5
theorem ZRO:FnScope ZHy ZBy (Aj ZBM):=fsc
noncomputable abbrev ZGd:List Str:=["self","house","state","at","flood","levels","coming"]
noncomputable abbrev ZCp:=ZGd.take 5
theorem ZUb:FnScope ZGd ZCp (Aj ZCR):=fsc
noncomputable abbrev ZHi:List Str:=["self","to","delay","cubes"]
noncomputable abbrev ZCi:=ZHi.take 4
theorem ZTJ:FnScope ZHi ZCi (Aj ZCq):=fsc
noncomputable abbrev ZEm:List Str:=["house","name","number","place"]
noncomputable abbrev Vz:=ZEm.take 2
theorem ZHl:FnScope ZEm Vz (Aj ZAk):=fsc
noncomputable abbrev ZGV:List Str:=["house","place","name"]
noncomputable abbrev ZBa:=ZGV.take 2
theorem ZOl:FnScope ZGV ZBa (Aj W4):=fsc
noncomputable abbrev ZGD:List Str:=["self","number","cubes","down"]
noncomputable abbrev ZBk:=ZGD.take 3
theorem ZLh:FnScope ZGD ZBk (Aj ZBx):=fsc
noncomputable abbrev ZH5:List Str:=["stairs","water","river","pump","height","many","way","cubes"]
noncomputable abbrev ZAt:=ZH5.take 2
theorem ZMy:FnScope ZH5 ZAt (Aj Wc):=fsc
noncomputable abbrev ZHT:List Str:=["rule","turn","held","first","stairs"]
noncomputable abbrev Xv:=ZHT.take 2
theorem ZPF:FnScope ZHT Xv (Aj Wy):=fsc
noncomputable abbrev ZDa:List Str:=["self","number","place","came","let","pumped","stays","lies","spilled"]
noncomputable abbrev W8:=ZDa.take 2
theorem ZOd:FnScope ZDa W8 (Aj Z0):=fsc
noncomputable abbrev ZGl:List Str:=["rows","takes","passing","row","number"]
noncomputable abbrev ZBc:=ZGl.take 2
theorem ZRn:FnScope ZGl ZBc (Aj Yx):=fsc
noncomputable abbrev ZI0:List Str:=["house","number","places","down"]
noncomputable abbrev ZA5:=ZI0.take 2
theorem ZTq:FnScope ZI0 ZA5 (Aj Xd):=fsc
noncomputable abbrev ZHj:List Str:=["house","members","came","rows","number","place","down","row_down"]
noncomputable abbrev Wm:=ZHj.take 3
theorem ZPa:FnScope ZHj Wm (Aj Yw):=fsc
noncomputable abbrev ZIj:List Str:=["rows","order"]
noncomputable abbrev Wt:=ZIj.take 1
theorem ZP2:FnScope ZIj Wt (Aj ZBJ):=fsc
noncomputable abbrev ZIM:List Str:=["rows","number","way","down"]
noncomputable abbrev Vx:=ZIM.take 2
theorem ZRJ:FnScope ZIM Vx (Aj ZB7):=fsc
noncomputable abbrev ZIe:List Str:=["rows","takes","passing","number","way","take","below"]
noncomputable abbrev ZCV:=ZIe.take 1
theorem ZPQ:FnScope ZIe ZCV (Aj ZBZ):=fsc
noncomputable abbrev ZEY:List Str:=["self","members","rows","takes","number","took","let"]
noncomputable abbrev Yc:=ZEY.take 2
theorem ZPw:FnScope ZEY Yc (Aj Zu):=fsc
noncomputable abbrev ZI1:List Str:=["house","lasts","number","down"]
noncomputable abbrev W6:=ZI1.take 1
theorem ZKh:FnScope ZI1 W6 (Aj ZBu):=fsc
noncomputable abbrev ZJJ:List Str:=["self","lasts","number","last"]
noncomputable abbrev Vl:=ZJJ.take 1
theorem ZMh:FnScope ZJJ Vl (Aj Zg):=fsc
noncomputable abbrev ZHh:List Str:=["self"]
noncomputable abbrev ZBY:=ZHh.take 1
theorem ZQ0:FnScope ZHh ZBY (Aj ZAn):=fsc
noncomputable abbrev ZE0:List Str:=["house","state","at","flood","course"]
noncomputable abbrev Wa:=ZE0.take 4
theorem ZM3:FnScope ZE0 Wa (Aj Yo):=fsc
noncomputable abbrev ZFu:List Str:=["house","state","at","floods","pages","number","flood","page"]
noncomputable abbrev ZCH:=ZFu.take 4
theorem ZPK:FnScope ZFu ZCH (Aj Yl):=fsc
noncomputable abbrev ZHv:List Str:=["house","low","high","at","lows","highs","ask","state","floods","pages","behind"]
noncomputable abbrev Yr:=ZHv.take 7
theorem ZOv:FnScope ZHv Yr (Aj ZCf):=fsc
noncomputable abbrev ZDn:List Str:=["_law_script","_law_house_here","_law_at","_law_low","_law_lows","_law_high","_law_highs","_law_ask_here","_law_found","_law_b","_law_some","_law_numbers"]
noncomputable abbrev ZAC:=ZDn.take 1
theorem ZJV:FnScope ZDn ZAC (Aj Hb):=fsc
def ZFX:DS:=(sRt (dOp Ai (dOp Ak (dV 1) (dOp Az (dV 0) (dC (.int 7)))) (dOp Az (dOp Bx (dV 0) (dC (.int 7))) (dV 1))))
def Ij:List D->DH->R D:=Bb 2 0 ZFX
def Qa:DS:=(sAs (dOp Bx (dV 0) (dOp Ht (dC (.int 10)) (dC (.int 8)))) (gV 0))
def ZBD:DS:=(Ac (sIf (Ag (Jx Im Fe (dC (.int 0)) (dV 0) (dOp Ht (dC (.int 10)) (dC (.int 18))))) (Ac (sAs (dOp Az (dOp Ai (dOp Ai (dV 0) (dOp Ak (dC (.int 1009)) (dV 1))) (dC (.int 7))) (dC (.int 999999937))) (gV 0)) (Ac (sAs (dOp Az (dOp Ak (dV 0) (dV 0)) (dC (.int 999999929))) (gV 0)) (sRt (dOp Az (dOp Ak (dV 0) (dOp Ai (dV 0) (dV 1))) (dC (.int 99999989)))))) sNx) (Ac (Cd (Bk rng1 (Aa (dV 1) Ab)) (gV 2) Qa) (sRt (dOp Az (dV 0) (dOp Ht (dC (.int 10)) (dC (.int 8)))))))
def Oo:List D->DH->R D:=Bb 2 1 ZBD
def Z7:DS:=(sRt (Jd (dOp Gp (dFn Bo (Aa (dV 0) Ab)) (dC (.int 0))) (Vd (dOp Fe (dOp Ad (dV 0) (dC (.int 0))) (dC (.int 0))) (dOp Vk (dOp Ad (dV 0) (dC (.int 0))) (dOp Ht (dC (.int 10)) (dC (.int 18)))))))
def Lj:List D->DH->R D:=Bb 1 0 Z7
def N8:DS:=(Ac (sIf (Ag (dFn Lj (Aa (dV 0) Ab))) (Ac (sAs (dC (.int 0)) (gV 2)) (Ac (sIf (Ag (dOp Fe (dOp Ai (dC (.int 1)) (dOp Bx (dV 1) (dC (.int 14)))) (dFn Bo (Aa (dV 0) Ab)))) (sAs (dOp Ad (dV 0) (dOp Ai (dC (.int 1)) (dOp Bx (dV 1) (dC (.int 14))))) (gV 2)) sNx) (sRt (dFn Oo (Aa (dV 2) (Aa (dOp Az (dV 1) (dC (.int 14))) Ab)))))) sNx) (Ac (sIf (Ag (dOp Fe (dV 1) (dFn Bo (Aa (dV 0) Ab)))) (sRt (dOp Ad (dV 0) (dV 1))) sNx) (Ac (sAs (dOp Az (dOp Ak (dC (.int 48271)) (dOp Ai (dOp Ak (dV 1) (dV 1)) (dOp Ak (dC (.int 7)) (dFn Bo (Aa (dV 0) Ab))))) (dC (.int 2147483647))) (gV 2)) (Ac (sIf (Ag (dOp Gp (dFn Bo (Aa (dV 0) Ab)) (dC (.int 0)))) (sAs (dOp Ai (dV 2) (dOp Az (dOp Ak (dOp Ad (dV 0) (dOp Az (dV 1) (dFn Bo (Aa (dV 0) Ab)))) (dC (.int 69621))) (dC (.int 2147483629)))) (gV 2)) sNx) (sRt (dV 2))))))
def Bc:List D->DH->R D:=Bb 2 1 N8
def Ri:DS:=(sRt (dOp Ad (Av (dFn Ah (Aa (dC (.int 1)) (Aa (dC (.int 1)) (Aa (dOp Ht (dC (.int 10)) (dC (.int 30))) Ab))))) (dOp Az (dOp Bx (dFn Bc (Aa (dV 0) (Aa (dC (.int 0)) Ab))) (dC (.int 840))) (dC (.int 3)))))
def Hj:List D->DH->R D:=Bb 1 0 Ri
def ZAK:DE:=(dOp Ai (dV 0) (dOp Ak (dV 1) (dOp Az (dOp Bx (dV 2) (dC (.int 2))) (dC (.int 2)))))
def ZE1:DS:=(sEx (Df Dm (dV 8) (Aa (dFn Di (Aa (Av (Bw (Du (dOp Ad (dOp Ad (dV 2) (dC (.int 1))) (dV 9))) 1 [4,10] (gV 0) Bd ZAK)) Ab)) Ab)))
def U3:DS:=(Ac (sEx (Df Dm (dV 7) (Aa (dV 11) Ab))) ZE1)
def Pg:DS:=(Ac (sIf (Ag (dOp Bl (dOp Ad (dOp Ad (dOp Ad (dV 1) (dC (.int 1))) (dV 9)) (dC (.int 0))) (dC (.str "basin")))) (Ac (sAs (dOp Ai (dOp Eb (dOp Ad (dOp Ad (dOp Ad (dV 1) (dC (.int 1))) (dV 9)) (dC (.int 4))) (dV 11)) (dC (.int 1))) (gV 12)) (sAs (dOp Ai (dV 11) (dOp Ak (dOp Az (dFn Ij (Aa (dOp Bx (dV 10) (dC (.int 2))) (Aa (dV 4) Ab))) (dV 12)) (dOp Az (dV 10) (dC (.int 2))))) (gV 11))) sNx) U3)
def ZEH:DS:=(Ac (sAs (dOp Ad (dOp Ad (dV 2) (dC (.int 0))) (dV 9)) (gV 11)) Pg)
def Ol:DS:=(Ac (sAs (dFn Bc (Aa (dV 0) (Aa (dOp Ai (dV 6) (dV 9)) Ab))) (gV 10)) ZEH)
def Vv:DE:=(dFn Bc (Aa (dV 1) (Aa (dOp Ai (dOp Ai (dOp Ai (dV 3) (dV 2)) (dOp Ak (dV 4) (dV 2))) (dV 0)) Ab)))
def Vy:DE:=(dOp Ak (dFn Ij (Aa (dOp Bx (dV 0) (dC (.int 2))) (Aa (dV 1) Ab))) (dOp Az (dV 0) (dC (.int 2))))
def ZCd:DE:=(dOp Ai (dOp Ad (dOp Ad (dV 1) (dV 2)) (dV 0)) (dOp Ad (dV 3) (dV 0)))
def ZIt:DS:=(sEx (Df Dm (dV 13) (Aa (dFn Di (Aa (Av (Bw (Bk rng1 (Aa (dV 5) Ab)) 1 [3,14,16] (gV 0) Bd ZCd)) Ab)) Ab)))
def ZF1:DS:=(Ac (sAs (Av (Bw (Du (dV 15)) 1 [4] (gV 0) Bd Vy)) (gV 16)) ZIt)
def Q9:DS:=(Ac (sAs (Av (Bw (Bk rng1 (Aa (dV 5) Ab)) 1 [0,5,6,14] (gV 0) Bd Vv)) (gV 15)) ZF1)
def ZES:DS:=(Ac (sAs (Av (dFn Hj (Aa (dV 0) Ab))) (gV 4)) (Ac (sAs (dFn Bo (Aa (dOp Ad (dV 1) (dC (.int 1))) Ab)) (gV 5)) (Ac (sAs (dOp Ai (dC (.int 6)) (dOp Ak (dC (.int 24)) (dV 5))) (gV 6)) (Ac (sAs (Cz (dFn Ah Ab)) (gV 7)) (Ac (sAs (Cz (dFn Ah Ab)) (gV 8)) (Ac (Cd (Bk rng1 (Aa (dV 5) Ab)) (gV 9) Ol) (Ac (sAs (Cz (dFn Ah Ab)) (gV 13)) (Ac (Cd (Bk rng1 (Aa (dFn Bo (Aa (dV 3) Ab)) Ab)) (gV 14) Q9) (sRt (dFn An (Aa (dFn An (Aa (dFn Di (Aa (dV 7) Ab)) (Aa (dFn Di (Aa (dV 8) Ab)) Ab))) (Aa (dV 13) Ab))))))))))))
def O9:List D->DH->R D:=Bb 4 13 ZES
def O5:DS:=(sIf (Ag (dOp Gx (dV 6) (dC (.str "mill")))) (Ac (sAs (dFn Bc (Aa (dV 0) (Aa (dOp Ai (dV 3) (dC (.int 2))) Ab))) (gV 8)) (Ac (sAs (dOp Eb (dFn Ij (Aa (dOp Bx (dV 8) (dC (.int 4))) (Aa (Av (dFn Hj (Aa (dV 0) Ab))) Ab))) (dOp Az (dOp Bx (dV 8) (dC (.int 2))) (dC (.int 2)))) (gV 9)) (sRt (dFn An (Aa (dV 7) (Aa (dV 5) (Aa (dOp Ad (Av (dFn Ah (Aa (dC (.str "least")) (Aa (dC (.str "most")) Ab)))) (dOp Az (dV 8) (dC (.int 2)))) (Aa (dV 9) Ab)))))))) sNx)
def Mf:DS:=(Ac (sIf (Ag (dOp Bl (dV 6) (dC (.str "basin")))) (sAs (dOp Ad (Av (dFn Ah (Aa (dC (.str "lies")) (Aa (dC (.str "spilled")) (Aa (dC (.str "let")) (Aa (dC (.str "pumped")) Ab)))))) (dOp Az (dFn Bc (Aa (dV 0) (Aa (dOp Ai (dV 3) (dC (.int 1))) Ab))) (dC (.int 4)))) (gV 7)) sNx) O5)
def ZJH:DS:=(Ac (sAs (dC (.str "took")) (gV 7)) Mf)
def ZFp:DS:=(Ac (sAs (dOp Ad (dOp Ad (dOp Ad (dV 1) (dC (.int 1))) (dV 5)) (dC (.int 0))) (gV 6)) ZJH)
def Mi:DS:=(Ac (sAs (dOp Az (dOp Ai (dFn Bc (Aa (dV 0) (Aa (dV 3) Ab))) (dV 4)) (dV 2)) (gV 5)) ZFp)
def ZGy:DS:=(Ac (sAs (dFn Bo (Aa (dOp Ad (dV 1) (dC (.int 1))) Ab)) (gV 2)) (Ac (sAs (dOp Ai (dC (.int 6)) (dOp Ak (dC (.int 20)) (dV 2))) (gV 3)) (Ac (Cd (Bk rng1 (Aa (dV 2) Ab)) (gV 4) Mi) (sRt (dC .non)))))
def Vj:List D->DH->R D:=Bb 2 8 ZGy
def ZHN:DS:=(Ac (sIf (Ag (dOp Bl (dOp Ad (dV 0) (dC (.int 2))) (dC (.str "least")))) (sRt (dOp Fe (dV 1) (dV 2))) sNx) (sRt (dOp Gp (dV 1) (dV 2))))
def Kg:List D->DH->R D:=Bb 3 0 ZHN
def ZDl:DS:=(sRt (dOp Ip (Mv [("took",(.int 1)),("spilled",(.int 2)),("let",(.int 3)),("pumped",(.int 4)),("lies",(.int 5))]) (dV 0)))
def Td:List D->DH->R D:=Bb 1 0 ZDl
def ZA4:DE:=(dFn Bc (Aa (dV 1) (Aa (dOp Ai (dOp Ai (dV 3) (dOp Ak (dV 4) (dV 2))) (dV 0)) Ab)))
def ZCK:DE:=(dFn Ij (Aa (dV 0) (Aa (Av (dFn Hj (Aa (dV 1) Ab))) Ab)))
def O6:DS:=(Ac (sAs (Av (Bw (Bk rng1 (Aa (dV 3) Ab)) 1 [0,3,4,6] (gV 0) Bd ZA4)) (gV 7)) (sEx (Df Dm (dV 5) (Aa (dFn Di (Aa (Av (Bw (Du (dV 7)) 1 [0] (gV 0) Bd ZCK)) Ab)) Ab))))
def ZJz:DS:=(Ac (sAs (dFn Bo (Aa (dOp Ad (dV 1) (dC (.int 1))) Ab)) (gV 3)) (Ac (sAs (dOp Ai (dC (.int 6)) (dOp Ak (dC (.int 14)) (dV 3))) (gV 4)) (Ac (sAs (Cz (dFn Ah Ab)) (gV 5)) (Ac (Cd (Bk rng1 (Aa (dV 2) Ab)) (gV 6) O6) (sRt (dV 5))))))
def Sg:List D->DH->R D:=Bb 3 5 ZJz
def ZFA:DS:=(sRt (dOp Ai (dV 1) (dOp Az (dOp Az (dOp Ak (dV 0) (dC (.int 48271))) (dC (.int 2147483647))) (dOp Ai (dOp Eb (dV 2) (dV 1)) (dC (.int 1))))))
def Ja:List D->DH->R D:=Bb 3 0 ZFA
def O8:DS:=(Ac (sAs (dFn Bc (Aa (dV 0) (Aa (dOp Ai (dOp Ai (dV 1) (dOp Ak (dV 5) (dFn Bo (Aa (dOp Ad (dV 2) (dV 5)) Ab)))) (dV 7)) Ab))) (gV 8)) (sEx (Df Dm (dV 6) (Aa (dFn Ja (Aa (dV 8) (Aa (dOp Ad (dOp Ad (dV 2) (dV 5)) (dV 7)) (Aa (dOp Ad (dOp Ad (dV 3) (dV 5)) (dV 7)) Ab)))) Ab))))
def Px:DS:=(Ac (sAs (Cz (dFn Ah Ab)) (gV 6)) (Ac (Cd (Bk rng1 (Aa (dFn Bo (Aa (dOp Ad (dV 2) (dV 5)) Ab)) Ab)) (gV 7) O8) (sEx (Df Dm (dV 4) (Aa (dFn Di (Aa (dV 6) Ab)) Ab)))))
def ZGm:DS:=(Ac (sAs (Cz (dFn Ah Ab)) (gV 4)) (Ac (Cd (Bk rng1 (Aa (dFn Bo (Aa (dV 2) Ab)) Ab)) (gV 5) Px) (sRt (dV 4))))
def Ve:List D->DH->R D:=Bb 4 5 ZGm
def Rt:DS:=(sIf (Ag (dOp Bl (dV 4) (dC (.str "pump")))) (sAs (dOp Ai (dV 1) (dV 3)) (gV 1)) sNx)
def ZDB:DS:=(Ac (sAs (dC (.int 0)) (gV 1)) (Ac (Cd (Du (dV 0)) (Ao 3 (Ae (gV 2) (Ae (gV 3) (Ae (gV 4) Aw)))) Rt) (sRt (dV 1))))
def R3:List D->DH->R D:=Bb 1 4 ZDB
def Ph:DS:=(Ac (sAs (dOp Ai (dV 4) (dOp Ak (dV 1) (dOp Az (dOp Ad (dV 0) (dOp Ai (dC (.int 1)) (dV 5))) (dC (.int 4))))) (gV 4)) (Ac (sAs (dOp Ai (dC (.int 1)) (dOp Ak (dV 1) (dOp Az (dOp Bx (dOp Ad (dV 0) (dOp Ai (dC (.int 1)) (dV 5))) (dC (.int 4))) (dC (.int 4))))) (gV 6)) (Ac (sAs (dC (.str "river")) (gV 7)) (Ac (sIf (Io (Ag (dV 2)) (Ag (dOp Bl (dOp Az (dOp Bx (dOp Ad (dV 0) (dOp Ai (dC (.int 1)) (dV 5))) (dC (.int 16))) (dC (.int 2))) (dC (.int 1))))) (sAs (dC (.str "pump")) (gV 7)) sNx) (Ac (sEx (Df Dm (dV 3) (Aa (dFn An (Aa (dV 4) (Aa (dV 6) (Aa (dV 7) Ab)))) Ab))) (sAs (dOp Ai (dV 4) (dV 6)) (gV 4)))))))
def ZDT:DS:=(Ac (sAs (Cz (dFn Ah Ab)) (gV 3)) (Ac (sAs (dC (.int 0)) (gV 4)) (Ac (Cd (Bk rng1 (Aa (dOp Az (dOp Ad (dV 0) (dC (.int 0))) (dC (.int 4))) Ab)) (gV 5) Ph) (sRt (dFn Di (Aa (dV 3) Ab))))))
def V8:List D->DH->R D:=Bb 3 5 ZDT
def ZFZ:DS:=(sRt (dOp Ai (dC (.int 1)) (dOp Az (dFn Bc (Aa (dV 0) (Aa (dC (.int 1)) Ab))) (dC (.int 4)))))
def Mx:List D->DH->R D:=Bb 1 0 ZFZ
def ZCe:DE:=(dOp Bx (dFn Bc (Aa (dV 1) (Aa (dOp Ai (dOp Ai (dV 2) (dC (.int 5))) (dOp Az (dOp Ai (dOp Ak (dC (.int 3)) (dV 3)) (dV 0)) (dC (.int 6)))) Ab))) (dOp Ai (dC (.int 1)) (dOp Ak (dC (.int 7)) (dOp Bx (dV 3) (dC (.int 2))))))
def Xz:DE:=(dOp Bx (dFn Bc (Aa (dV 1) (Aa (dOp Ai (dOp Ai (dV 2) (dC (.int 5))) (dV 0)) Ab))) (dOp Ad (Av (dFn Ah (Aa (dC (.int 1)) (Aa (dC (.int 64)) (Aa (dC (.int 4096)) (Aa (dC (.int 262144)) Ab)))))) (dV 3)))
def Ui:DS:=(sIf (dOr (Ag (dOp Bl (dV 7) (dC (.int 0)))) (Io (Ag (dOp Bl (dOp Az (dV 8) (dC (.int 2))) (dC (.int 1)))) (Ag (dOp Fe (dOp Ai (dV 6) (dC (.int 1))) (dV 4))))) (Ac (sIf (Ag (dOp Gp (dV 7) (dC (.int 0)))) (sAs (dOp Ai (dOp Ai (dV 6) (dC (.int 1))) (dOp Az (dOp Bx (dV 8) (dC (.int 2))) (dOp Eb (dOp Eb (dV 4) (dV 6)) (dC (.int 1))))) (gV 6)) sNx) (sEx (Df Dm (dV 5) (Aa (dFn An (Aa (dV 6) (Aa (dFn V8 (Aa (dV 9) (Aa (dV 2) (Aa (dV 3) Ab)))) Ab))) Ab)))) sNx)
def ZIr:DS:=(Ac (sIf (Ag (dFn Lj (Aa (dV 0) Ab))) (Ac (sAs (dOp Bx (dFn Bc (Aa (dV 0) (Aa (dOp Ai (dV 1) (dC (.int 4))) Ab))) (dOp Ad (Av (dFn Ah (Aa (dC (.int 1)) (Aa (dC (.int 48)) (Aa (dC (.int 2304)) (Aa (dC (.int 110592)) Ab)))))) (dV 7))) (gV 8)) (sAs (Av (Bw (Bk rng1 (Aa (dC (.int 4)) Ab)) 1 [0,1,7] (gV 0) Bd Xz)) (gV 9))) sNx) Ui)
def ZEv:DS:=(Ac (sAs (Av (Bw (Bk rng1 (Aa (dC (.int 4)) Ab)) 1 [0,1,7] (gV 0) Bd ZCe)) (gV 9)) ZIr)
def Jl:DS:=(Ac (sAs (dOp Az (dOp Ak (dOp Ak (dFn Bc (Aa (dV 0) (Aa (dOp Ai (dV 1) (dC (.int 4))) Ab))) (dC (.int 48271))) (dOp Ai (dOp Ak (dV 7) (dV 7)) (dC (.int 1)))) (dC (.int 10007))) (gV 8)) ZEv)
def ZIF:DS:=(Ac (sAs (dFn Mx (Aa (dV 0) Ab)) (gV 4)) (Ac (sAs (Cz (dFn Ah Ab)) (gV 5)) (Ac (sAs (dC (.int 0)) (gV 6)) (Ac (Cd (Bk rng1 (Aa (dC (.int 4)) Ab)) (gV 7) Jl) (sRt (dFn Di (Aa (dV 5) Ab)))))))
def Qw:List D->DH->R D:=Bb 4 6 ZIF
def Vo:DE:=(dFn R3 (Aa (dOp Ad (dV 0) (dC (.int 1))) Ab))
def ZJG:DS:=(sRt (dFn An (Aa (dC (.str "basin")) (Aa (dOp Ad (dV 3) (dV 2)) (Aa (dOp Ad (dV 4) (dC (.int 0))) (Aa (dOp Ad (dV 4) (dC (.int 1))) (Aa (dV 12) (Aa (dV 8) (Aa (dV 9) Ab)))))))))
def K8:DS:=(Ac (sAs (dFn Ij (Aa (dFn Bc (Aa (dV 0) (Aa (dOp Ai (dV 1) (dC (.int 3))) Ab))) (Aa (dV 5) Ab))) (gV 12)) ZJG)
def ZAN:DS:=(Ac (sIf (Ag (dV 7)) (Ac (sAs (dOp Ai (dFn Hq (Aa (Av (Bw (Du (dV 8)) 1 [] (gV 0) Bd Vo)) Ab)) (dOp Ak (dV 5) (dOp Az (dOp Bx (dV 6) (dC (.int 130))) (dC (.int 2))))) (gV 10)) (Ac (sAs (dOp Ad (dV 3) (dOp Az (dOp Ai (dOp Ai (dV 2) (dC (.int 1))) (dOp Az (dOp Bx (dV 6) (dC (.int 2))) (dOp Eb (dFn Bo (Aa (dV 3) Ab)) (dC (.int 1))))) (dFn Bo (Aa (dV 3) Ab)))) (gV 11)) (sAs (dFn An (Aa (dV 11) (Aa (dOp Ai (dC (.int 1)) (dOp Az (dOp Bx (dV 6) (dC (.int 26))) (dC (.int 5)))) (Aa (dV 10) Ab)))) (gV 9)))) sNx) K8)
def X3:DS:=(Ac (sAs (dC .non) (gV 9)) ZAN)
def Kf:DS:=(Ac (sAs (dFn Qw (Aa (dV 0) (Aa (dV 1) (Aa (dV 5) (Aa (dV 7) Ab))))) (gV 8)) X3)
def ZJp:DS:=(Ac (sAs (Jd (dOp Gp (dFn Bo (Aa (dV 3) Ab)) (dC (.int 1))) (dOp Bl (dOp Az (dV 6) (dC (.int 2))) (dC (.int 1)))) (gV 7)) Kf)
def ZIg:DS:=(Ac (sAs (dFn Bc (Aa (dV 0) (Aa (dOp Ai (dV 1) (dC (.int 11))) Ab))) (gV 6)) ZJp)
def ZCt:DS:=(Ac (sAs (Av (dFn Hj (Aa (dV 0) Ab))) (gV 5)) ZIg)
def O1:List D->DH->R D:=Bb 5 8 ZCt
def ZHR:DS:=(Ac (sAs (dOp Ad (dC (.str "abcdefghijklmnopqrstuvwxyz")) (dOp Az (dOp Bx (dV 0) (dC (.int 21))) (dC (.int 26)))) (gV 3)) (Ac (sIf (Io (Ag (dOp Bl (dOp Az (dV 0) (dC (.int 3))) (dC (.int 1)))) (Ag (dOp Fe (dV 2) (dC (.int 9))))) (sRt (dOp Ak (dV 3) (dOp Ai (dV 1) (dC (.int 1))))) sNx) (Ac (sAs (dOp Ad (dC (.str "abcdefghijkl")) (dOp Az (dOp Ai (dOp Ak (dC (.int 5)) (dV 1)) (dOp Bx (dV 0) (dC (.int 546)))) (dC (.int 12)))) (gV 4)) (Ac (sIf (Ag (dOp Bl (dOp Az (dV 0) (dC (.int 3))) (dC (.int 2)))) (sRt (dOp Ai (dV 4) (dOp Ak (dV 3) (dOp Az (dOp Bx (dV 0) (dC (.int 3))) (dC (.int 7)))))) sNx) (sRt (dOp Ai (dOp Ai (dOp Ak (dV 3) (dOp Az (dOp Bx (dV 0) (dC (.int 3))) (dC (.int 7)))) (dV 4)) (dOp Ak (dV 3) (dOp Eb (dC (.int 6)) (dOp Az (dOp Bx (dV 0) (dC (.int 3))) (dC (.int 7)))))))))))
def Rm:List D->DH->R D:=Bb 3 2 ZHR
def W2:DE:=(dFn Rm (Aa (dFn Bc (Aa (dV 1) (Aa (dC (.int 5)) Ab))) (Aa (dV 0) (Aa (dV 2) Ab))))
def Nj:DS:=(sIf (Ag (dOp Fe (dV 10) (dC (.int 2)))) (sEx (Df Dm (dV 5) (Aa (Av (dFn O1 (Aa (dV 0) (Aa (dV 6) (Aa (dV 4) (Aa (dV 3) (Aa (dV 9) Ab))))))) Ab))) (sIf (Ag (dOp Fe (dV 10) (dC (.int 4)))) (sEx (Df Dm (dV 5) (Aa (dFn An (Aa (dC (.str "town")) (Aa (dOp Ad (dV 3) (dV 4)) (Aa (dOp Ad (dV 9) (dC (.int 0))) (Aa (dOp Ad (dV 9) (dC (.int 1))) (Aa (dV 11) (Aa (dV 12) Ab))))))) Ab))) (sEx (Df Dm (dV 5) (Aa (dFn An (Aa (dC (.str "mill")) (Aa (dOp Ad (dV 3) (dV 4)) (Aa (dOp Ad (dV 9) (dC (.int 0))) (Aa (dOp Ad (dV 9) (dC (.int 1))) (Aa (dV 11) Ab)))))) Ab)))))
def ZBT:DS:=(Ac (sAs (dOp Az (dFn Bc (Aa (dV 0) (Aa (dOp Ai (dV 6) (dC (.int 4))) Ab))) (dOp Ad (Av (dFn Ah (Aa (dC (.int 4)) (Aa (dOp Ht (dC (.int 10)) (dC (.int 40))) Ab)))) (dOp Az (dOp Bx (dV 1) (dC (.int 840))) (dC (.int 2))))) (gV 12)) Nj)
def Zm:DS:=(Ac (sAs (dFn Ij (Aa (dFn Bc (Aa (dV 0) (Aa (dOp Ai (dV 6) (dC (.int 3))) Ab))) (Aa (Av (dFn Hj (Aa (dV 0) Ab))) Ab))) (gV 11)) ZBT)
def Ot:DS:=(Ac (sAs (dOp Az (dFn Bc (Aa (dV 0) (Aa (dV 6) Ab))) (dC (.int 5))) (gV 10)) Zm)
def ZCb:DS:=(Ac (sIf (Ag (dOp Gp (dV 7) (dC (.int 0)))) (sAs (dFn An (Aa (dOp Ad (dV 3) (dOp Ai (dV 4) (dV 7))) (Aa (dOp Ad (dV 9) (dC (.int 1))) Ab))) (gV 9)) sNx) Ot)
def Z9:DS:=(Ac (sAs (dFn An (Aa (dC (.str "sea")) (Aa (dOp Ak (dOp Az (dV 8) (dC (.int 2))) (dOp Az (dOp Bx (dV 8) (dC (.int 2))) (dC (.int 6)))) Ab))) (gV 9)) ZCb)
def Q6:DS:=(Ac (sAs (dFn Bc (Aa (dV 0) (Aa (dOp Ai (dV 6) (dC (.int 2))) Ab))) (gV 8)) Z9)
def Zi:DS:=(Ac (sIf (Ag (dOp Bl (dOp Az (dOp Bx (dV 1) (dC (.int 280))) (dC (.int 3))) (dC (.int 1)))) (sAs (dFn K3 (Aa (dC (.int 1)) (Aa (dOp Eb (dOp Eb (dV 2) (dC (.int 1))) (dV 4)) Ab))) (gV 7)) sNx) Q6)
def V2:DS:=(Ac (sAs (dOp Az (dFn Bc (Aa (dV 0) (Aa (dOp Ai (dV 6) (dC (.int 1))) Ab))) (dOp Eb (dV 2) (dV 4))) (gV 7)) Zi)
def Jg:DS:=(Ac (sAs (dOp Ai (dC (.int 6)) (dOp Ak (dC (.int 12)) (dV 4))) (gV 6)) V2)
def ZJm:DS:=(Ac (sAs (dFn Bc (Aa (dV 0) (Aa (dC (.int 0)) Ab))) (gV 1)) (Ac (sAs (dOp Ai (dC (.int 1)) (dOp Az (dV 1) (dC (.int 4)))) (gV 2)) (Ac (sAs (Av (Bw (Bk rng1 (Aa (dV 2) Ab)) 1 [0,2] (gV 0) Bd W2)) (gV 3)) (Ac (sAs (Cz (dFn Ah Ab)) (gV 5)) (Ac (Cd (Bk rng1 (Aa (dV 2) Ab)) (gV 4) Jg) (sRt (dFn An (Aa (dFn Mx (Aa (dV 0) Ab)) (Aa (dFn Di (Aa (dV 5) Ab)) Ab)))))))))
def Up:List D->DH->R D:=Bb 1 12 ZJm
def Wi:DS:=(Ac (sAs (dFn Bc (Aa (dV 0) (Aa (dC (.int 3)) Ab))) (gV 1)) (sRt (dOp Az (dOp Bx (dV 1) (dC (.int 2))) (dOp Ad (Av (dFn Ah (Aa (dC (.int 50)) (Aa (dOp Ht (dC (.int 10)) (dC (.int 39))) Ab)))) (dOp Az (dV 1) (dC (.int 2)))))))
def Pk:List D->DH->R D:=Bb 1 1 Wi
def ZIw:DS:=(sAs (dOp Bx (dV 9) (dC (.int 3))) (gV 9))
def Oa:DS:=(Ac (sEx (Df Dm (dV 10) (Aa (dOp Ak (dV 3) (dOp Az (dV 9) (dC (.int 3)))) Ab))) ZIw)
def ZJZ:DS:=(sEx (Df Dm (dV 6) (Aa (dFn Di (Aa (dV 10) Ab)) Ab)))
def Va:DS:=(Ac (Cd (Bk rng1 (Aa (dC (.int 5)) Ab)) (gV 11) Oa) ZJZ)
def ZJC:DS:=(Ac (sAs (Cz (dFn Ah Ab)) (gV 10)) Va)
def ZGI:DS:=(Ac (sAs (dFn Bc (Aa (dV 0) (Aa (dOp Ai (dOp Ai (dV 4) (dFn Bo (Aa (dV 2) Ab))) (dV 7)) Ab))) (gV 9)) ZJC)
def Qu:DS:=(Ac (sEx (Df Dm (dV 5) (Aa (dV 8) Ab))) ZGI)
def ZFw:DS:=(Ac (sIf (Ag (dOp Bl (dOp Ad (dOp Ad (dV 2) (dV 7)) (dC (.int 0))) (dC (.str "basin")))) (sAs (dOp Az (dFn Ij (Aa (dFn Bc (Aa (dV 0) (Aa (dOp Ai (dV 4) (dV 7)) Ab))) (Aa (dV 3) Ab))) (dOp Ai (dOp Ad (dOp Ad (dV 2) (dV 7)) (dC (.int 4))) (dC (.int 1)))) (gV 8)) sNx) Qu)
def Ox:DS:=(Ac (sAs (dC (.int 0)) (gV 8)) ZFw)
def ZFd:DS:=(Ac (sAs (dOp Ad (dV 1) (dC (.int 1))) (gV 2)) (Ac (sAs (Av (dFn Hj (Aa (dV 0) Ab))) (gV 3)) (Ac (sAs (dOp Ai (dC (.int 6)) (dOp Ak (dC (.int 12)) (dFn Bo (Aa (dV 2) Ab)))) (gV 4)) (Ac (sAs (Cz (dFn Ah Ab)) (gV 5)) (Ac (sAs (Cz (dFn Ah Ab)) (gV 6)) (Ac (Cd (Bk rng1 (Aa (dFn Bo (Aa (dV 2) Ab)) Ab)) (gV 7) Ox) (sRt (dFn An (Aa (dFn Di (Aa (dV 5) Ab)) (Aa (dFn Di (Aa (dV 6) Ab)) Ab))))))))))
def Uw:List D->DH->R D:=Bb 2 10 ZFd
def Vq:DE:=(dFn Ja (Aa (dOp Ai (dV 4) (dOp Ak (dV 0) (dV 0))) (Aa (dOp Ad (dOp Ad (dOp Ad (dV 1) (dC (.int 1))) (dV 3)) (dV 0)) (Aa (dOp Ad (dOp Ad (dOp Ad (dV 2) (dC (.int 1))) (dV 3)) (dV 0)) Ab))))
def Qe:DS:=(Ac (sAs (dFn Bc (Aa (dV 0) (Aa (dOp Ai (dV 1) (dV 6)) Ab))) (gV 7)) (Ac (sEx (Df Dm (dV 4) (Aa (dFn Ja (Aa (dV 7) (Aa (dOp Ad (dOp Ad (dV 2) (dC (.int 0))) (dV 6)) (Aa (dOp Ad (dOp Ad (dV 3) (dC (.int 0))) (dV 6)) Ab)))) Ab))) (sEx (Df Dm (dV 5) (Aa (dFn Di (Aa (Av (Bw (Bk rng1 (Aa (dC (.int 5)) Ab)) 1 [2,3,6,7] (gV 0) Bd Vq)) Ab)) Ab)))))
def ZHC:DS:=(Ac (sAs (Cz (dFn Ah Ab)) (gV 4)) (Ac (sAs (Cz (dFn Ah Ab)) (gV 5)) (Ac (Cd (Bk rng1 (Aa (dFn Bo (Aa (dOp Ad (dV 2) (dC (.int 0))) Ab)) Ab)) (gV 6) Qe) (sRt (dFn An (Aa (dFn Di (Aa (dV 4) Ab)) (Aa (dFn Di (Aa (dV 5) Ab)) Ab)))))))
def Uu:List D->DH->R D:=Bb 4 4 ZHC
def Oj:DS:=(sIf (Io (Ag (dOp Je (dV 1) (dC .non))) (dOr (H9 (Ag (dFn Fj (Aa (dV 1) (Aa (dC (.ty "int")) Ab))))) (Ag (dFn Fj (Aa (dV 1) (Aa (dC (.ty "bool")) Ab)))))) (sRt (dC (.bl vG))) sNx)
def ZDK:DS:=(Ac (sIf (dOr (H9 (Ag (dFn Fj (Aa (dV 0) (Aa (dC (.ty "tuple")) Ab))))) (dOr (Ag (dOp Gx (dFn Bo (Aa (dV 0) Ab)) (dC (.int 3)))) (H9 (Ag (dFn Fj (Aa (dOp Ad (dV 0) (dC (.int 0))) (Aa (dC (.ty "str")) Ab))))))) (sRt (dC (.bl vG))) sNx) (Ac (Cd (Du (Av (dSl (dV 0) (vD (dC (.int 1))) vE))) (gV 1) Oj) (sRt (dC (.bl vF)))))
def Uq:List D->DH->R D:=Bb 1 1 ZDK
def ZFI:DS:=(Ac (sIf (Ag (dOp Bl (dV 1) (dC (.str "least")))) (sRt (dOp Fe (dV 0) (dV 2))) sNx) (sRt (dOp Gp (dV 0) (dV 2))))
def R1:List D->DH->R D:=Bb 3 0 ZFI
def ZFY:DS:=(sRt (dOp Ip (Mv [("lies",(.int 5)),("spilled",(.int 2)),("let",(.int 3)),("pumped",(.int 4)),("took",(.int 1))]) (dV 0)))
def Rh:List D->DH->R D:=Bb 1 0 ZFY
def Th:DE:=(dOp Ad (dOp Ad (dV 0) (dV 1)) (dV 2))
def Jy:DS:=(sIf (Ag (dFn R1 (Aa (dV 9) (Aa (dV 4) (Aa (dV 5) Ab))))) (sRt (dFn An (Aa (dC (.str "broken")) (Aa (dV 8) (Aa (dV 9) Ab))))) sNx)
def ZEK:DS:=(sRt (dFn An (Aa (dC (.str "kept")) (Aa (Df Iu (dV 7) (Aa (dV 10) Ab)) (Aa (dV 10) Ab)))))
def ZD6:DS:=(Ac (sAs (dIf (Ag (dOp Bl (dV 4) (dC (.str "least")))) (dFn Hk (Aa (dV 7) Ab)) (dFn Hq (Aa (dV 7) Ab))) (gV 10)) ZEK)
def Qq:DS:=(Ac (sIf (Ag (dOp Bl (dFn Bo (Aa (dV 7) Ab)) (dC (.int 0)))) (sRt (dFn An (Aa (dC (.str "kept")) (Aa (dC .non) (Aa (dC .non) Ab))))) sNx) ZD6)
def Pr:DS:=(Ac (Cd (Bk Ez (Aa (dV 7) Ab)) (Ao 2 (Ae (gV 8) (Ae (gV 9) Aw))) Jy) Qq)
def ZDh:DS:=(Ac (sAs (Av (Bw (Du (dV 0)) 1 [3,6] (gV 0) Bd Th)) (gV 7)) Pr)
def ZFF:DS:=(Ac (sAs (dFn Rh (Aa (dV 2) Ab)) (gV 6)) ZDh)
def V7:DS:=(Ac (sAs (dV 1) (Ao 4 (Ae (gV 2) (Ae (gV 3) (Ae (gV 4) (Ae (gV 5) Aw)))))) ZFF)
def Sx:List D->DH->R D:=Bb 2 9 V7
def ZDM:DS:=(Ac (sAs (dV 1) (Ao 4 (Ae (gV 2) (Ae (gV 3) (Ae (gV 4) (Ae (gV 5) Aw)))))) (Ac (sIf (dOr (Ag (dOp Ii (dV 4) (dC (.tup [.str "least",.str "most"])))) (Ag (dUn (Nm [("lies","basin"),("spilled","basin"),("let","basin"),("pumped","basin"),("took","town")]) (dV 2)))) Hw sNx) (Ac (sIf (H9 (Ag (Jx Im Fe (dC (.int 0)) (dV 3) (dFn Bo (Aa (dOp Ad (dV 0) (dC (.int 1))) Ab))))) Hw sNx) (sIf (Ag (dOp Gx (dOp Ad (dOp Ad (dOp Ad (dV 0) (dC (.int 1))) (dV 3)) (dC (.int 0))) (dUn (Lw [("lies","basin"),("spilled","basin"),("let","basin"),("pumped","basin"),("took","town")]) (dV 2)))) Hw sNx))))
def R9:List D->DH->R D:=Bb 2 4 ZDM
def ZBh:DE:=(dOp Im (dV 0) (dV 1))
def ZJo:DS:=(Ac (sIf (Ag (dOp Gx (dFn Bo (Aa (dV 0) Ab)) (dFn Bo (Aa (dV 1) Ab)))) (sRt (dC (.bl vG))) sNx) (sRt (dFn Kl (Aa (Av (Bw (Bk (Et 2) (Aa (dV 0) (Aa (dV 1) Ab))) 2 [] (Ao 2 (Ae (gV 0) (Ae (gV 1) Aw))) Bd ZBh)) Ab))))
def Q0:List D->DH->R D:=Bb 2 0 ZJo
def X5:DE:=(dFn Q0 (Aa (dV 0) (Aa (dV 1) Ab)))
def Zk:DS:=(Ac (sIf (Ag (dOp Gx (dFn Bo (Aa (dV 0) Ab)) (dFn Bo (Aa (dV 1) Ab)))) (sRt (dC (.bl vG))) sNx) (sRt (dFn Kl (Aa (Av (Bw (Bk (Et 2) (Aa (dV 0) (Aa (dV 1) Ab))) 2 [] (Ao 2 (Ae (gV 0) (Ae (gV 1) Aw))) Bd X5)) Ab))))
def K6:List D->DH->R D:=Bb 2 0 Zk
def ZGT:DS:=(Ac (sAs (dV 0) (Ao 2 (Ae (gV 2) (Ae (gV 3) Aw)))) (Ac (sAs (dV 1) (Ao 2 (Ae (gV 4) (Ae (gV 5) Aw)))) (sRt (Jd (dFn Q0 (Aa (dV 2) (Aa (dV 4) Ab))) (dFn K6 (Aa (dV 3) (Aa (dV 5) Ab)))))))
def Ua:List D->DH->R D:=Bb 2 4 ZGT
def ZIs:DS:=(sIf (dOr (H9 (Ag (dFn Ua (Aa (dV 0) (Aa (dV 1) Ab))))) (H9 (Ag (dFn K6 (Aa (dV 2) (Aa (dV 3) Ab)))))) Hw sNx)
def Uv:List D->DH->R D:=Bb 4 0 ZIs
def ZC8:DS:=(Ac (sAs (dV 4) (Ao 4 (Ae (gV 5) (Ae (gV 6) (Ae (gV 7) (Ae (gV 8) Aw)))))) (Ac (sIf (Ag (dOp Bl (dV 7) (dC (.str "least")))) (sRt (dFn An (Aa (dV 0) (Aa (dV 2) Ab)))) sNx) (sRt (dFn An (Aa (dV 1) (Aa (dV 3) Ab))))))
def Ue:List D->DH->R D:=Bb 5 4 ZC8
def Um:DE:=(dOp Ai (dV 0) (dOp Ad (dV 1) (dC (.int 0))))
def Pu:DE:=(Cz (dOp Ai (Av (dFn Ju (Aa (Av (dSl (dV 0) (vD (dC (.int 1))) vE)) Ab))) (Av (dFn Ah (Aa (dC (.int 0)) Ab)))))
def ZIu:DS:=(Ac (sAs (dV 2) (Ao 2 (Ae (gV 5) (Ae (gV 6) Aw)))) (Ac (Er "Course" (dV 0) (dV 1) "house") (Ac (Er "Course" (dV 0) (dV 5) "levels") (Ac (Er "Course" (dV 0) (dOp Az (dV 3) (dOp Ad (dV 1) (dC (.int 0)))) "year_turn") (Ac (Er "Course" (dV 0) (Bw (Bk (Et 2) (Aa (dV 4) (Aa (dV 6) Ab))) 2 [] (Ao 2 (Ae (gV 0) (Ae (gV 1) Aw))) Bd Um) "came") (Ac (Er "Course" (dV 0) (Bw (Du (dV 6)) 1 [] (gV 0) Bd Pu) "coming") (Ac (Er "Course" (dV 0) (Cz (dOp Ib (dFn Ah (Aa (dC .non) Ab)) (dFn Bo (Aa (dV 5) Ab)))) "page") (Er "Course" (dV 0) (Cz (dFn Ah Ab)) "reaches"))))))))
def Py:List D->DH->R D:=Bb 5 2 ZIu
def ZFb:DS:=(sIf (Ag (dOp Bl (dV 2) (dC (.int 0)))) (Jr (Dv "Course" (dV 0) "came") (dV 1) (dV 3) Jk) (Jr (dOp Ad (Dv "Course" (dV 0) "coming") (dV 1)) (dOp Eb (dV 2) (dC (.int 1))) (dV 3) Jk))
def O4:List D->DH->R D:=Bb 4 0 ZFb
def My:DS:=(sIf (Ag (dOp Bl (dOp Ad (dV 3) (dC (.int 1))) (dV 1))) (sRt (dV 2)) sNx)
def ZJK:DS:=(Ac (Cd (Bk Ez (Aa (dOp Ad (dV 0) (dC (.int 1))) Ab)) (Ao 2 (Ae (gV 2) (Ae (gV 3) Aw))) My) Hw)
def Nu:List D->DH->R D:=Bb 2 2 ZJK
def ZJs:DS:=(Ac (sAs (dOp Ad (dOp Ad (dOp Ad (dV 0) (dC (.int 1))) (dV 1)) (dC (.int 2))) (gV 2)) (Ac (sIf (Ag (dOp Bl (dV 2) (dC (.str "sea")))) (sRt (dC .non)) sNx) (sRt (dFn Nu (Aa (dV 0) (Aa (dV 2) Ab))))))
def Q5:List D->DH->R D:=Bb 2 1 ZJs
def ZGt:DS:=(Ac (sAs (dFn Q5 (Aa (Dv "Course" (dV 0) "house") (Aa (dV 1) Ab))) (gV 3)) (sIf (Ag (dOp Je (dV 3) (dC .non))) (sEx (Fi "Course" "send" O4 (dV 0) (Aa (dV 3) (Aa (dOp Ad (dOp Ad (dOp Ad (Dv "Course" (dV 0) "house") (dC (.int 1))) (dV 1)) (dC (.int 3))) (Aa (dV 2) Ab))))) sNx))
def Oh:List D->DH->R D:=Bb 3 1 ZGt
def V1:DS:=(Ac (sAs (dFn Pj (Aa (dC (.int 0)) (Aa (dFn K3 (Aa (dV 5) (Aa (dOp Eb (dV 1) (dV 4)) Ab))) Ab))) (gV 7)) (sIf (Ag (dOp Bl (dV 6) (dC (.str "river")))) (sAu 2 (dV 7) Jk) (sAu 3 (dV 7) Jk)))
def ZEz:DS:=(Ac (sAs (dC (.int 0)) (gV 2)) (Ac (sAs (dC (.int 0)) (gV 3)) (Ac (Cd (Du (dV 0)) (Ao 3 (Ae (gV 4) (Ae (gV 5) (Ae (gV 6) Aw)))) V1) (sRt (dFn An (Aa (dV 2) (Aa (dV 3) (Aa (dOp Eb (dOp Eb (dV 1) (dV 2)) (dV 3)) Ab))))))))
def S9:List D->DH->R D:=Bb 2 6 ZEz
def Rn:DS:=(sIf (Ag (dOp Im (dV 3) (dV 1))) (sAs (dV 4) (gV 2)) sNx)
def ZGu:DS:=(Ac (sAs (dFn An Ab) (gV 2)) (Ac (Cd (Du (dV 0)) (Ao 2 (Ae (gV 3) (Ae (gV 4) Aw))) Rn) (sRt (dV 2))))
def Rw:List D->DH->R D:=Bb 2 3 ZGu
def ZHL:DS:=(Ac (sAs (dOp Ad (dOp Ad (Dv "Course" (dV 0) "house") (dC (.int 1))) (dV 1)) (gV 2)) (Ac (sAs (dOp Ad (Dv "Course" (dV 0) "came") (dV 1)) (gV 3)) (Ac (sAs (dFn S9 (Aa (dFn Rw (Aa (dOp Ad (dV 2) (dC (.int 5))) (Aa (Dv "Course" (dV 0) "year_turn") Ab))) (Aa (dOp Ai (dOp Ad (Dv "Course" (dV 0) "levels") (dV 1)) (dV 3)) Ab))) (Ao 3 (Ae (gV 4) (Ae (gV 5) (Ae (gV 6) Aw))))) (Ac (sAs (dFn K3 (Aa (dV 6) (Aa (dOp Ad (dV 2) (dC (.int 4))) Ab))) (gV 7)) (Ac (sAs (dOp Eb (dV 6) (dV 7)) (gV 8)) (Ac (sAs (dFn An (Aa (dV 3) (Aa (dC (.int 0)) (Aa (dV 8) (Aa (dV 4) (Aa (dV 5) (Aa (dV 7) Ab))))))) (gIx (Dv "Course" (dV 0) "page") (dV 1))) (Ac (sEx (Fi "Course" "send_down" Oh (dV 0) (Aa (dV 1) (Aa (dOp Ai (dV 4) (dV 8)) Ab)))) (sIf (Ag (dOp Je (dOp Ad (dV 2) (dC (.int 6))) (dC .non))) (sEx (Fi "Course" "send" O4 (dV 0) (Aa (dFn Nu (Aa (Dv "Course" (dV 0) "house") (Aa (dOp Ad (dOp Ad (dV 2) (dC (.int 6))) (dC (.int 0))) Ab))) (Aa (dOp Ad (dOp Ad (dV 2) (dC (.int 6))) (dC (.int 1))) (Aa (dV 5) Ab))))) sNx))))))))
def Ss:List D->DH->R D:=Bb 2 7 ZHL
def Zy:DE:=(dOp Eb (dOp Ad (dV 0) (dC (.int 1))) (dV 1))
def Ln:DS:=(sIf (Ag (dOp Je (dOp Ad (dV 3) (dC (.int 0))) (dC .non))) (Jr (dV 2) (dOp Ad (dV 3) (dC (.int 0))) (dOp Ad (dV 2) (dV 4)) Jk) sNx)
def ZHo:DS:=(Ac (sAs (Bw (Bk (Et 2) (Aa (dV 0) (Aa (dV 1) Ab))) 2 [] (Ao 2 (Ae (gV 0) (Ae (gV 1) Aw))) Bd Zy) (gV 2)) (Ac (Cd (Bk Ez (Aa (dV 0) Ab)) (Ao 2 (Ae (gV 4) (Ae (gV 3) Aw))) Ln) (sRt (dV 2))))
def Ng:List D->DH->R D:=Bb 2 3 ZHo
def ZJX:DS:=(Ac (sAs (dOp Ad (dV 0) (dC (.int 1))) (gV 2)) (Ac (sAs (dFn Q5 (Aa (dV 0) (Aa (dV 1) Ab))) (gV 3)) (Ac (sIf (dOr (Ag (dOp Ig (dV 3) (dC .non))) (Ag (dOp Gp (dOp Ad (dOp Ad (dV 2) (dV 1)) (dC (.int 3))) (dC (.int 0))))) (sRt (dC .non)) sNx) (Ac (sIf (dOr (Ag (dOp Bl (dOp Ad (dOp Ad (dV 2) (dV 1)) (dC (.int 0))) (dC (.str "basin")))) (Ag (dOp Bl (dOp Ad (dOp Ad (dV 2) (dV 3)) (dC (.int 0))) (dC (.str "basin"))))) (sRt (dC .non)) sNx) (sRt (dV 3))))))
def Om:List D->DH->R D:=Bb 2 2 ZJX
def P0:DS:=(Ac (sAs (dOp Ad (dOp Ad (dV 0) (dC (.int 1))) (dV 4)) (gV 5)) (Ac (sAs (dFn Om (Aa (dV 0) (Aa (dV 4) Ab))) (gV 6)) (Ac (sAs (dIf (Ag (dOp Ig (dV 6) (dC .non))) (dC .non) (Df Iu (dV 1) (Aa (dV 6) Ab))) (gV 7)) (sIf (Ag (dOp Bl (dOp Ad (dV 5) (dC (.int 0))) (dC (.str "town")))) (sEx (Df Dm (dV 3) (Aa (dFn An (Aa (dV 7) (Aa (dOp Ad (dV 2) (dV 4)) (Aa (dOp Ad (dV 5) (dC (.int 4))) (Aa (dOp Ad (dV 5) (dC (.int 5))) Ab))))) Ab))) (sEx (Df Dm (dV 3) (Aa (dFn An (Aa (dV 7) (Aa (dOp Ad (dV 2) (dV 4)) (Aa (dC (.int 0)) (Aa (dC (.int 0)) Ab))))) Ab)))))))
def ZGi:DS:=(Ac (sAs (Cz (dFn Ah Ab)) (gV 3)) (Ac (Cd (Du (dV 1)) (gV 4) P0) (sRt (dV 3))))
def Qn:List D->DH->R D:=Bb 3 5 ZGi
def X6:DE:=(dFn An (Aa (dOp Ad (dV 1) (dC (.int 3))) (Aa (dV 0) Ab)))
def Yy:DE:=(dV 1)
def ZEg:DS:=(Ac (sAs (Av (dFn M8 (Aa (Av (Bw (Bk Ez (Aa (dV 0) Ab)) 2 [] (Ao 2 (Ae (gV 0) (Ae (gV 1) Aw))) Bd X6)) Ab))) (gV 1)) (sRt (Bw (Du (dV 1)) 2 [] (Ao 2 (Ae (gV 0) (Ae (gV 1) Aw))) Bd Yy)))
def Sq:List D->DH->R D:=Bb 1 1 ZEg
def Q7:DS:=(Ac (sEx (Df Dm (dV 2) (Aa (dV 3) Ab))) (sAs (dOp Ad (dOp Ad (dV 0) (dV 3)) (dC (.int 0))) (gV 3)))
def Kp:DB:=(Ag (dOp Je (dV 3) (dC .non)))
def ZI8:DS:=(Ac (sAs (Cz (dFn Ah (Aa (dV 1) Ab))) (gV 2)) (Ac (sAs (dOp Ad (dOp Ad (dV 0) (dV 1)) (dC (.int 0))) (gV 3)) (Ac (sWh Kp Q7 fuel) (sRt (dV 2)))))
def V3:List D->DH->R D:=Bb 2 2 ZI8
def ZBF:DE:=(dOp Ad (dV 1) (dV 0))
def R7:DS:=(Jr (dV 2) (dV 6) (dV 5) Eb)
def Pq:DS:=(Ac (sAs (Av (dFn V3 (Aa (dV 0) (Aa (dV 3) Ab)))) (gV 4)) (Ac (sAs (dFn K3 (Aa (dOp Ad (dOp Ad (dV 0) (dV 3)) (dC (.int 2))) (Aa (dFn Hk (Aa (Av (Bw (Du (dV 4)) 1 [2] (gV 0) Bd ZBF)) Ab)) Ab))) (gV 5)) (Ac (sAs (dV 5) (gIx (dV 1) (dV 3))) (Cd (Du (dV 4)) (gV 6) R7))))
def ZJD:DS:=(Ac (sAs (Cz (dOp Ib (dFn Ah (Aa (dC (.int 0)) Ab)) (dFn Bo (Aa (dV 0) Ab)))) (gV 1)) (Ac (sAs (Cz (dFn Ng (Aa (dV 0) (Aa (dV 1) Ab)))) (gV 2)) (Ac (Cd (Du (Av (dFn Sq (Aa (dV 0) Ab)))) (gV 3) Pq) (sRt (dV 1)))))
def Vh:List D->DH->R D:=Bb 1 6 ZJD
def Jv:DS:=(Ac (sAs (dFn An (Aa (dOp Ai (dV 5) (dV 6)) (Aa (dV 5) (Aa (dC (.int 0)) (Aa (dV 6) (Aa (dC (.int 0)) (Aa (dC (.int 0)) Ab))))))) (gIx (Dv "Course" (dV 0) "page") (dV 4))) (sIf (Ag (dOp Bl (dV 4) (dOp Ad (dV 1) (dUn Nk (dC (.int 1)))))) (sEx (Fi "Course" "send_down" Oh (dV 0) (Aa (dV 4) (Aa (dV 6) Ab)))) sNx))
def ZC2:DS:=(Ac (sAs (Av (dFn Qn (Aa (Dv "Course" (dV 0) "house") (Aa (dV 1) (Aa (Dv "Course" (dV 0) "came") Ab))))) (gV 2)) (Ac (sAs (Av (dFn Vh (Aa (dV 2) Ab))) (gV 3)) (Ac (Cd (Bk (Et 3) (Aa (dV 1) (Aa (dV 3) (Aa (Av (dFn Ng (Aa (dV 2) (Aa (dV 3) Ab)))) Ab)))) (Ao 3 (Ae (gV 4) (Ae (gV 5) (Ae (gV 6) Aw)))) Jv) (sEx (Df Dm (Dv "Course" (dV 0) "reaches") (Aa (Cz (dFn An (Aa (dV 1) (Aa (dV 2) Ab)))) Ab))))))
def Qz:List D->DH->R D:=Bb 2 5 ZC2
def Rp:DS:=(Ac (sAs (dFn Om (Aa (dV 0) (Aa (dV 2) Ab))) (gV 3)) (sIf (Ag (dOp Je (dV 3) (dC .non))) (sAs (dOp Ad (dV 1) (dV 3)) (gIx (dV 1) (dV 2))) sNx))
def ZD8:DS:=(Ac (sAs (Cz (dLR (Aa (dFn Bo (Aa (dOp Ad (dV 0) (dC (.int 1))) Ab)) Ab))) (gV 1)) (Ac (Cd (Bk rng3 (Aa (dOp Eb (dFn Bo (Aa (dOp Ad (dV 0) (dC (.int 1))) Ab)) (dC (.int 1))) (Aa (dUn Nk (dC (.int 1))) (Aa (dUn Nk (dC (.int 1))) Ab)))) (gV 2) Rp) (sRt (dV 1))))
def V9:List D->DH->R D:=Bb 1 3 ZD8
def Ro:DE:=(dV 0)
def Q3:DB:=(Ag (dOp Bl (dV 1) (dV 2)))
def Nb:DS:=(sIf (Ag (dOp Bl (dOp Ad (dOp Ad (dOp Ad (Dv "Course" (dV 0) "house") (dC (.int 1))) (dV 2)) (dC (.int 0))) (dC (.str "basin")))) (sEx (Fi "Course" "go_basin" Ss (dV 0) (Aa (dV 2) Ab))) (sIf (Ag (dOp Bl (dV 3) (dV 2))) (sEx (Fi "Course" "go_reach" Qz (dV 0) (Aa (Av (Bw (Bk Ez (Aa (dV 1) Ab)) 2 [2] (Ao 2 (Ae (gV 0) (Ae (gV 1) Aw))) Q3 Ro)) Ab))) sNx))
def ZD7:DS:=(Ac (sAs (Av (dFn V9 (Aa (Dv "Course" (dV 0) "house") Ab))) (gV 1)) (Cd (Bk Ez (Aa (dV 1) Ab)) (Ao 2 (Ae (gV 2) (Ae (gV 3) Aw))) Nb))
def T7:List D->DH->R D:=Bb 1 3 ZD7
def Ub:DE:=(dOp Ad (dV 0) (dC (.int 5)))
def Uj:DE:=(dFn Di (Aa (dV 0) Ab))
def ZDe:DS:=(sRt (dFn An (Aa (dFn Di (Aa (Av (Bw (Du (Dv "Course" (dV 0) "page")) 1 [] (gV 0) Bd Ub)) Ab)) (Aa (dFn Di (Aa (Av (Bw (Du (Dv "Course" (dV 0) "coming")) 1 [] (gV 0) Bd Uj)) Ab)) Ab))))
def Tf:List D->DH->R D:=Bb 1 0 ZDe
def ZGW:DS:=(Ac (sAs (O7 "Course" Py (Aa (dV 0) (Aa (dV 1) (Aa (dV 2) (Aa (dV 3) Ab))))) (gV 4)) (Ac (sEx (Fi "Course" "go" T7 (dV 4) Ab)) (sRt (dFn An (Aa (dFn Di (Aa (Dv "Course" (dV 4) "page") Ab)) (Aa (Fi "Course" "state_behind" Tf (dV 4) Ab) Ab))))))
def R0:List D->DH->R D:=Bb 4 1 ZGW
def Oe:DS:=(Ac (sAs (dFn R0 (Aa (dV 0) (Aa (dV 1) (Aa (dV 5) (Aa (dV 6) Ab))))) (Ao 2 (Ae (gV 7) (Ae (gV 1) Aw)))) (sEx (Df Dm (dV 4) (Aa (dV 7) Ab))))
def ZEc:DS:=(Ac (sAs (Cz (dFn Ah Ab)) (gV 4)) (Ac (Cd (Nz (Aa (dV 3) Ab) (dV 2)) (Ao 2 (Ae (gV 5) (Ae (gV 6) Aw))) Oe) (sRt (dFn An (Aa (dV 4) (Aa (dV 1) Ab))))))
def Ls:List D->DH->R D:=Bb 4 4 ZEc
def ZIK:DS:=(Ac (sEx (dFn R9 (Aa (dV 0) (Aa (dV 6) Ab)))) (Ac (sEx (dFn Uv (Aa (dV 1) (Aa (dV 2) (Aa (dV 4) (Aa (dV 5) Ab)))))) (Ac (sAs (dFn Ue (Aa (dV 1) (Aa (dV 2) (Aa (dV 4) (Aa (dV 5) (Aa (dV 6) Ab)))))) (Ao 2 (Ae (gV 7) (Ae (gV 8) Aw)))) (Ac (sAs (Av (dFn Ls (Aa (dV 0) (Aa (dV 7) (Aa (dV 3) (Aa (dV 8) Ab)))))) (Ao 2 (Ae (gV 9) (Ae (gV 10) Aw)))) (sRt (dFn Sx (Aa (dV 9) (Aa (dV 6) Ab))))))))
def Mw:List D->DH->R D:=Bb 7 4 ZIK
def Ut:DE:=(dOp Ad (dOp Ad (dV 0) (dOp Ad (dV 1) (dC (.int 1)))) (dFn Td (Aa (dOp Ad (dV 1) (dC (.int 0))) Ab)))
def ZAb:DE:=(dFn Kg (Aa (dV 1) (Aa (dV 0) (Aa (dOp Ad (dV 2) (dC (.int 2))) Ab))))
def ZB0:DE:=(dFn Kg (Aa (dV 1) (Aa (dV 0) (Aa (dOp Ad (dV 1) (dC (.int 3))) Ab))))
def ZGR:DS:=(sRt (dFn Kg (Aa (dV 7) (Aa (dOp Ad (dV 8) (dC (.int 2))) (Aa (dOp Ad (dV 7) (dC (.int 3))) Ab)))))
def ZJT:DS:=(Ac (sIf (Ag (dFn Li (Aa (Av (Bw (Du (Av (dSl (dV 11) vE (vD (dOp Ad (dV 8) (dC (.int 1))))))) 1 [7] (gV 0) Bd ZB0)) Ab))) (sRt (dC (.bl vG))) sNx) ZGR)
def ZEB:DS:=(Ac (sIf (dOr (H9 (Ag (Jx Im Fe (dC (.int 0)) (dOp Ad (dV 8) (dC (.int 1))) (dFn Bo (Aa (dV 11) Ab))))) (Ag (dOp Gx (dOp Ad (dV 11) (dOp Ad (dV 8) (dC (.int 1)))) (dOp Ad (dV 8) (dC (.int 2)))))) (sRt (dC (.bl vG))) sNx) ZJT)
def Vs:DS:=(Ac (sIf (Ag (dOp Bl (dOp Ad (dV 8) (dC (.int 0))) (dC (.str "kept")))) (Ac (sIf (Ag (dFn Kg (Aa (dV 7) (Aa (dOp Ad (dV 8) (dC (.int 2))) (Aa (dOp Ad (dV 7) (dC (.int 3))) Ab))))) (sRt (dC (.bl vG))) sNx) (sRt (Sy (dFn Li (Aa (Av (Bw (Du (dV 11)) 1 [7,8] (gV 0) Bd ZAb)) Ab))))) sNx) ZEB)
def X4:DS:=(Ac (sIf (dOr (Ag (dOp Ig (dOp Ad (dV 8) (dC (.int 1))) (dC .non))) (Ag (dOp Ig (dOp Ad (dV 8) (dC (.int 2))) (dC .non)))) (sRt (dC (.bl vG))) sNx) Vs)
def Ud:DS:=(Ac (sIf (Io (Ag (dOp Bl (dOp Ad (dV 8) (dC (.int 0))) (dC (.str "kept")))) (Ag (dOp Bl (dV 4) (Av (dFn Ah Ab))))) (sRt (Jd (dOp Ig (dOp Ad (dV 8) (dC (.int 1))) (dC .non)) (dOp Ig (dOp Ad (dV 8) (dC (.int 2))) (dC .non)))) sNx) X4)
def Ko:DS:=(Ac (sIf (Ag (dOp Gx (dFn Bo (Aa (dV 11) Ab)) (dFn Bo (Aa (dV 4) Ab)))) (sRt (dC (.bl vG))) sNx) Ud)
def Su:DS:=(Ac (sAs (Av (Bw (Du (dV 10)) 1 [7] (gV 0) Bd Ut)) (gV 11)) Ko)
def Qd:DS:=(Ac (sIf (Ag (dOp Bl (dOp Ad (dV 8) (dC (.int 0))) (dC (.str "broken")))) (Ac (sAs (dOp Ad (Av (dFn Ls (Aa (dV 1) (Aa (dV 3) (Aa (dV 2) (Aa (dV 4) Ab)))))) (dC (.int 0))) (gV 10)) (sIf (Ag (dOp Bl (dOp Ad (dV 7) (dC (.int 2))) (dC (.str "most")))) (sAs (dOp Ad (Av (dFn Ls (Aa (dV 1) (Aa (dV 5) (Aa (dV 2) (Aa (dV 6) Ab)))))) (dC (.int 0))) (gV 10)) sNx)) sNx) Su)
def ZDQ:DS:=(Ac (sAs (dOp Ad (Av (dFn Ls (Aa (dV 1) (Aa (dFn Uu (Aa (dV 0) (Aa (dV 9) (Aa (dV 3) (Aa (dV 5) Ab))))) (Aa (dV 2) (Aa (Av (dFn Ve (Aa (dV 0) (Aa (dOp Ai (dV 9) (dC (.int 4))) (Aa (dV 4) (Aa (dV 6) Ab)))))) Ab)))))) (dC (.int 0))) (gV 10)) Qd)
def ZJF:DS:=(Ac (sAs (dOp Ai (dC (.int 6)) (dOp Ak (dC (.int 32)) (dFn Bo (Aa (dOp Ad (dV 1) (dC (.int 1))) Ab)))) (gV 9)) ZDQ)
def Tt:DS:=(Ac (sIf (dOr (H9 (Ag (dFn Uq (Aa (dV 8) Ab)))) (Ag (dOp Ii (dOp Ad (dV 8) (dC (.int 0))) (dFn An (Aa (dC (.str "kept")) (Aa (dC (.str "broken")) Ab)))))) (sRt (dC (.bl vG))) sNx) ZJF)
def ZIU:DS:=(Ac (sAs (dFn Mw (Aa (dV 1) (Aa (dV 3) (Aa (dV 5) (Aa (dV 2) (Aa (Av (dFn Ju (Aa (dV 4) Ab))) (Aa (Av (dFn Ju (Aa (dV 6) Ab))) (Aa (dV 7) Ab)))))))) (gV 8)) Tt)
def ZAR:DS:=(Ac (sIf (Ag (dOp Ig (dV 7) (dC .non))) (sRt (dC (.bl vF))) sNx) ZIU)
def Zj:DS:=(Ac (sAs (Av (dFn Vj (Aa (dV 0) (Aa (dV 1) Ab)))) (gV 7)) ZAR)
def Yg:DS:=(Ac (sAs (Av (dFn O9 (Aa (dV 0) (Aa (dV 1) (Aa (dV 3) (Aa (dV 4) Ab)))))) (Ao 2 (Ae (gV 5) (Ae (gV 6) Aw)))) Zj)
def ZBP:DS:=(Ac (sAs (Av (dFn Sg (Aa (dV 0) (Aa (dV 1) (Aa (dOp Az (dFn Bc (Aa (dV 0) (Aa (dC (.int 2)) Ab))) (dC (.int 7))) Ab))))) (gV 4)) Yg)
def ZA0:DS:=(Ac (sAs (dFn Uw (Aa (dV 0) (Aa (dV 1) Ab))) (gV 3)) ZBP)
def Y7:DS:=(Ac (sAs (dFn Pk (Aa (dV 0) Ab)) (gV 2)) ZA0)
def Mh:DS:=(Ac (sAs (dFn Up (Aa (dV 0) Ab)) (gV 1)) Y7)
def Ke:List D->DH->R D:=Bb 1 11 Mh
def Holds:Prop:=∀ns:List Int,ns.length<=63->∃G,Ke [.fl (ns.map D.int)] []=.ok (.bl vF) G
end _W
namespace _W
open PySem _L _D
seal QE QT QA QS QSs QG QGs QI QTs QW QO
structure Txt (K:PySem.W.Frag) (mg:Str->Option xD):Prop where
 ZAE:FT K mg "_law_amount" ZBV ZAF
 Ws:FT K mg "_law_off" ZBE ZCO
 ZCl:FT K mg "_law_tape" ZAe Wq
 Yk:FT K mg "_law_cell_at" Ze Xp
 ZBO:FT K mg "_law_unit" Yt ZAw
 Zo:FT K mg "_law_added" ZAW Zn
 ZCM:FT K mg "_law_ask" ZBe ZAf
 ZAi:FT K mg "_law_beyond" Wj ZB9
 Wk:FT K mg "_law_column" ZBt Z1
 ZBl:FT K mg "_law_floods" ZBQ ZB4
 Z3:FT K mg "_law_amid" Zr We
 ZAV:FT K mg "_law_floods_amid" Y4 ZCL
 ZAs:FT K mg "_law_pumped" ZBH ZA6
 ZBC:FT K mg "_law_steps" ZAj Y9
 ZBg:FT K mg "_law_year" ZAv ZB5
 ZAU:FT K mg "_law_rule" Zz Zq
 ZAr:FT K mg "_law_basin" ZCA Y5
 ZCE:FT K mg "_law_name" Vu ZCI
 Xk:FT K mg "_law_house" Xj Wh
 ZBd:FT K mg "_law_number" W3 X7
 Z6:FT K mg "_law_state" ZAZ Zh
 Xh:FT K mg "_law_state_amid" ZCu ZBr
 ZCJ:FT K mg "_law_told" Ym ZCT
 Wu:FT K mg "is_beyond" Yi ZBb
 ZBv:FT K mg "part_asked" ZB1 Y6
 Vp:FT K mg "answered" Yq Xx
 Zx:FT K mg "check_ask" ZBp ZCh
 Wg:FT K mg "none_above" ZBf Xy
 Ys:FT K mg "rows_under" ZA2 ZBm
 ZCZ:FT K mg "under" ZCo ZCD
 ZCg:FT K mg "check_bounds" Xq Xw
 ZAQ:FT K mg "looked_through" ZBM ZBy
 Zd:MT K "Course" "__init__" "Course.__init__" ZCR ZCp
 Qh:MT K "Course" "send" "Course.send" ZCq ZCi
 W7:FT K mg "number_of" ZAk Vz
 ZCk:FT K mg "down_of" W4 ZBa
 T9:MT K "Course" "send_down" "Course.send_down" ZBx ZBk
 ZBK:FT K mg "opened" Wc ZAt
 Wb:FT K mg "stairs_at" Wy Xv
 Uo:MT K "Course" "go_basin" "Course.go_basin" Z0 W8
 ZAB:FT K mg "passed" Yx ZBc
 Vn:FT K mg "down_in_reach" Xd ZA5
 Za:FT K mg "reach_rows" Yw Wm
 ZA9:FT K mg "served" ZBJ Wt
 ZBL:FT K mg "way_down" ZB7 Vx
 ZBR:FT K mg "shares" ZBZ ZCV
 V0:MT K "Course" "go_reach" "Course.go_reach" Zu Yc
 Wl:FT K mg "lasts_of_reaches" ZBu W6
 Tg:MT K "Course" "go" "Course.go" Zg Vl
 Qs:MT K "Course" "state_behind" "Course.state_behind" ZAn ZBY
 ZA8:FT K mg "turn" Yo Wa
 ZA3:FT K mg "run" Yl ZCH
 ZAY:FT K mg "look" ZCf Yr
 Qg:FT K mg "law" Hb ZAC
 Ep:CT K mg "Course"
 ZHe:NoAttr K (Ba K "Course") "came"
 ZDd:NoAttr K (Ba K "Course") "coming"
 ZJc:NoAttr K (Ba K "Course") "house"
 ZEq:NoAttr K (Ba K "Course") "levels"
 ZIA:NoAttr K (Ba K "Course") "page"
 ZIH:NoAttr K (Ba K "Course") "reaches"
 ZHr:NoAttr K (Ba K "Course") "year_turn"
 ZSb:mg "all"=vE
 ZMk:mg "any"=vE
 ZNS:mg "bool"=vE
 ZS3:mg "enumerate"=vE
 ZTy:mg "int"=vE
 ZSc:mg "isinstance"=vE
 ZQm:mg "len"=vE
 ZTZ:mg "list"=vE
 ZM8:mg "max"=vE
 ZUL:mg "min"=vE
 ZUZ:mg "range"=vE
 ZKs:mg "sorted"=vE
 ZUF:mg "str"=vE
 ZNv:mg "tuple"=vE
 ZTI:mg "zip"=vE
 ZFE:mg "BRIM"=vD (.int 4 (Cr K "BRIM"))
 ZIm:mg "DELAY"=vD (.int 3 (Cr K "DELAY"))
 ZHt:mg "DOWN"=vD (.int 2 (Cr K "DOWN"))
 ZH4:mg "KIND"=vD (.int 0 (Cr K "KIND"))
 ZFM:mg "LET"=vD (.int 3 (Cr K "LET"))
 ZJb:mg "LIES"=vD (.int 5 (Cr K "LIES"))
 ZJd:mg "NAME"=vD (.int 1 (Cr K "NAME"))
 ZDq:mg "NEED"=vD (.int 4 (Cr K "NEED"))
 ZFT:mg "PLACES"=vD (.int 1 (Cr K "PLACES"))
 ZFH:mg "PUMP"=vD (.int 6 (Cr K "PUMP"))
 ZDj:mg "PUMPED"=vD (.int 4 (Cr K "PUMPED"))
 ZGM:mg "PUMP_DELAY"=vD (.int 1 (Cr K "PUMP_DELAY"))
 ZI2:mg "PUMP_TO"=vD (.int 0 (Cr K "PUMP_TO"))
 ZG9:mg "RANK"=vD (.int 5 (Cr K "RANK"))
 ZJh:mg "ROW_DOWN"=vD (.int 0 (Cr K "ROW_DOWN"))
 ZJS:mg "ROW_NEED"=vD (.int 2 (Cr K "ROW_NEED"))
 ZDS:mg "ROW_RANK"=vD (.int 3 (Cr K "ROW_RANK"))
 ZFx:mg "ROW_WATER"=vD (.int 1 (Cr K "ROW_WATER"))
 ZDO:mg "RULE"=vD (.int 5 (Cr K "RULE"))
 ZJa:mg "SEA"=vD (.str "sea" (Cr K "SEA"))
 ZF4:mg "SPILLED"=vD (.int 2 (Cr K "SPILLED"))
 ZHx:mg "TOOK"=vD (.int 1 (Cr K "TOOK"))
 ZFt:mg "YEAR"=vD (.int 0 (Cr K "YEAR"))
 ZB8:TupG K mg "SENSES" ["least","most"]
 Qi:DctG K mg "KINDS_ASKED" [("lies","basin"),("spilled","basin"),("let","basin"),("pumped","basin"),("took","town")]
section
seal Io Jd dC Jx Bw Aa Mv Dv dFn Av dIf dLR O7 Fi Df Ab H9 Sy dOp dOr Vd dSl Cz Ag dUn dV Kl Li Fj Bo Ju Pj Hq K3 Hk M8 Di Ae gIx Aw Ao gV Nz Ez Bk Du Et Dm Iu Ai Bx Bl Vk Lw Nm Gp Ig Je Ad Ip Im Fe Az Ak Gx Nk Ii Ht Ib Eb rng1 rng3 sAs sAu Jr Hw sEx Er Cd sIf sNx sRt Ac sWh
local macro_rules | `(tactic|trivial)=> `(tactic|first|refine' (_:String)|refine' (_:Str)|refine' (_:xz))
local macro_rules | `(tactic|trivial)=>pure (wR "QS _ _|_ (sAs (Av _) _):-ZUE ?|(Stmt.Assign (List.cons (Expr.Name .) List.nil) (Expr.ListComp .) .) _:-ZLF _ nd ? L ? l l|(Stmt.Assign (List.cons (Expr.Name .) List.nil) .) (sAs _ (gV _)):-ZSE _ nd ?|_ (sEx _):-ZLs ?|_ (sAs _ _):-ZT3 ? ?|_ (Er _ _ _ _):-ZQo ? ? ? ? ?|_ (Cd _ _ _):-ZNB PassesOwn.never rfl ? ? ?|_ (Jr _ _ _ _):-ZUI ? ? ? ?|_ (sAu _ _ _):-ZMU _ nd ? ?|_ (sWh _ _ _):-ZO7 fuel PassesOwn.never ? ?|@Y8,@Mj#QE _ _|_ (dV _):.M4 _|(Expr.Subscript .) (dOp _ _ _):-ZBn ? ? ?|(Expr.Compare .) _:-ZLT ? ? ? (nomark _)|(Expr.Call (Expr.Name .) .) (dFn _ _):<ZTu ? rfl ? ? ?,<ZNa ? rfl ? ? ?,-Bm (ZQy T) T.Yk hr ?,-Bm (ZOH T) T.ZAE hr ?,-Bm (ZOm T) T.ZBO hr ?,-Bm (ZL5 T) T.ZA3 hr ?,-Bm (ZUQ T) T.ZAi hr ?,-Bm (ZPy T) T.Z3 hr ?,-Bm (ZQX T) T.ZCl hr ?,-Bm (ZUH T) T.ZBg hr ?,-Bm (ZT5 T) T.Wg hr ?,-Bm (ZSl T) T.Ys hr ?,-Bm (ZSG T) T.W7 hr ?,-Bm (ZPI T) T.ZCk hr ?,-Bm (ZUt T) T.Vn hr ?,-Bm (ZL2 T) T.ZAB hr ?,-Bm (ZRF T) T.Ws hr ?,-Bm (ZUD T) T.ZBC hr ?,-Bm (ZK4 T) T.ZAU hr ?,-Bm (ZKj T) T.ZAs hr ?,-Bm (ZTB T) T.ZCE hr ?,-Bm (ZKi T) T.ZAr hr ?,-Bm (ZL6 T) T.ZBv hr ?,-Bm (ZM4 T) T.Wu hr ?,-Bm (ZLm T) T.ZCZ hr ?,-Bm (ZKJ T) T.Wb hr ?,-Bm (ZNd T) T.ZBK hr ?,-Bm (ZSh T) T.ZA9 hr ?,-Bm (ZK7 T) T.ZBL hr ?,-Bm (ZQe T) T.Za hr ?,-Bm (ZUr T) T.ZBR hr ?,-Bm (ZQk T) T.Wl hr ?,-Bm (ZLB T) T.ZA8 hr ?,-Bm (ZLJ T) T.Zx hr ?,-Bm (ZRt T) T.ZCg hr ?,-Bm (ZRS T) T.ZAQ hr ?,-Bm (ZKg T) T.Vp hr ?,-Bm (ZTN T) T.Xk hr ?,-Bm (ZMD T) T.ZBd hr ?,-Bm (ZQD T) T.Z6 hr ?,-Bm (ZK0 T) T.ZBl hr ?,-Bm (ZTn T) T.Zo hr ?,-Bm (ZSK T) T.ZCM hr ?,-Bm (ZTK T) T.ZAY hr ?,-Bm (ZTj T) T.ZCJ hr ?,-Bm (ZUV T) T.Xh hr ?,-Bm (ZQx T) T.ZAV hr ?,-Bm (ZTg T) T.Wk hr ?|_ (Df _ _ _):-ZPf ? ? ? ? ?|_ (Dv _ _ _):-ZRo ? ? ? ?|(Expr.Name .) (dC (D.ty .)):-ZQd rfl ? ?|_ (dSl _ _ _):-ZUy ? ? ?|_ (dLR _):-ZQg rfl rfl ? rfl ? ?|_ (Bw _ _ _ _ _ _):-ZNN ? L ? l l|(Expr.Name .) (dC _):<ZQv rfl ?,<ZN4 rfl ?|(Expr.Call _ (List.cons .) .) (Fi _ _ _ _ _):-U9 T.Ep.N T.Ep.cl T.Qh.me (ZKL T) (hr.mono d) T.Qh.b pass0 ? ?,-U9 T.Ep.N T.Ep.cl T.T9.me (ZS1 T) (hr.mono d) T.T9.b pass0 ? ?,-U9 T.Ep.N T.Ep.cl T.Uo.me (ZMv T) (hr.mono d) T.Uo.b pass0 ? ?,-U9 T.Ep.N T.Ep.cl T.V0.me (ZNp T) (hr.mono d) T.V0.b pass0 ? ?|_ (O7 _ _ _):-ZRr T.Ep.N T.Ep.mK (ZLt T) (hr.mono d) rfl T.Ep.g T.Zd.b pass0 ?|_ (Fi _ _ _ _ _):-ZDE T.Ep.N T.Ep.cl T.Tg.me (ZR4 T) (hr.mono d) T.Tg.b pass0 ?,-ZDE T.Ep.N T.Ep.cl T.Qs.me (ZKr T) (hr.mono d) T.Qs.b pass0 ?|.Nq,.ZME,.ZK5,.ZQn,@ZOJ,@ZLx,@ZPR,@ZRu,@ZMW,@ZLb,@ZTh,@ZPz,@ZOf,@ZLc,@ZRZ#QA _ _|.ZOr,-ZNc ? ?#QSs _ _|@Ga,.Lz,@Hv#QG _ _|_ (gV _):.ZTe _ nd|_ (Ao _ _):-ZSp rfl ?|_ (gIx _ _):-ZRb ? ?#QGs _ _|.ZTa,-ZSu ? ?#QTs _ _|.ZLP,-ZQI ?#QT _ _|(Expr.Compare _ (List.cons _ List.nil) .) (Ag _):-Te ? ? ? (nomark _)|_ (Ag _):-ZNY ?|(Expr.BoolOp .) _:-ZCB ?|(Expr.Compare _ (List.cons _ (List.cons _ List.nil)) .) _:-ZQG ? ? ? ? ?|@ZRE#QI _ _ _|(Expr.Call _ (List.cons _ List.nil) .) (Bk rng1 _):-ZQC rfl ? ?|_ (Bk rng3 _):-ZMa rfl ? ?|_ (Bk Ez _):-ZNH rfl ? ?|_ (Nz _ _):-ZMY rfl ? ? ?|_ (Bk (Et 2) _):-ZL4 rfl ? ?|_ (Bk (Et 3) _):-ZKy rfl ? ?|@ZTF#QW _ _|@ZCs,@Wv,@ZPX,@ZR2#QO _ _|.ZMV,@ZQp#GK|_ (gV _):.ZTH d|@ZMI#GKs|.ZKZ,@ZOB#=IxR _ _|!i_ix#=OpR _ _ _|!ZMx,!ZTz,!ZOV,!ZTG,!ZUj,!o_lt,!o_gt,!ZRT,!o_is,!ZQB,!o_le,!ZPW,!ZPo,!o_ge,!ZNX,.o_eq hr.units,.o_ne hr.units#=CallR _ _ _|.ZMf,.ZTp,=ZPv ?,.ZN0,=ZMK ?,=ZPD ?,=ZUn ?,=ZKz ?,=ZKe ?,=ZLv ?,.ZPc#=Eq _ none|.T.ZQm,.T.ZUZ,.T.ZNv,.T.ZS3,.T.ZUL,.T.ZTI,.T.ZSc,.T.ZTZ,.T.ZM8,.T.ZSb,.T.ZMk,.T.ZUF,.T.ZTy,.T.ZNS,.T.ZKs#=Eq (bootBuiltins _) _|!ZRq,!ZKl,!ZRe,!ZTP,!ZQL,!ZDo,!ZKP,!ZJ5,!ZKM,!ZLg,!ZSO,!ZNL#=Slot _ _ _|!PySem.F.slot_list_append,!PySem.F.slot_list_index#=Eq (typeOf _) _|!PySem.F.type_list_append,!PySem.F.type_list_index#=MtM _ _ _|!ZMm,!ZN3#=Eq _ (some _)|.T.ZFT,.T.ZH4,.T.ZJh,.T.ZFH,.T.ZJb,.T.ZIm,.T.ZF4,.T.ZFM,.T.ZDj,.T.ZHx,.T.ZFt,.T.ZJd,.T.ZHt,.T.ZJa,.T.ZDO,.T.ZFE,.T.ZI2,.T.ZGM,.T.ZFx,.T.ZDq,.T.ZG9,.T.ZDS,.T.ZJS#=NoAttr _ _ _|.T.ZJc,.T.ZIA,.T.ZHe,.T.ZDd,.T.ZEq,.T.ZHr,.T.ZIH#=UnR _ _ _|!ZKR#*|.T.Ep.N,.T.Ep.cl,.hr.mono d")
set_option hygiene false in
local macro_rules | `(tactic|exists $a,$b)=> `(tactic|(refine Kw $a $b λcdv A outer s H E hr=>?_;have nd:=($b).nd;trivial))
variable{P:x0}{w:xE}{K:PySem.W.Frag}{mg:Str->Option xD}{base:Heap}(T:Txt K mg)
include T
theorem ZOH:FnO P w K mg base 1 "_law_amount" ZAF Ij:=by exists T.ZAE.F,ZO1
theorem ZRF:FnO P w K mg base 1 "_law_off" ZCO Oo:=by exists T.Ws.F,ZT7
theorem ZQX:FnO P w K mg base 1 "_law_tape" Wq Lj:=by exists T.ZCl.F,ZLK
theorem ZQy:FnO P w K mg base 2 "_law_cell_at" Xp Bc:=by exists T.Yk.F,ZNI
theorem ZOm:FnO P w K mg base 3 "_law_unit" ZAw Hj:=by exists T.ZBO.F,ZQc
theorem ZTn:FnO P w K mg base 4 "_law_added" Zn O9:=by exists T.Zo.F,ZPM
theorem ZSK:FnO P w K mg base 4 "_law_ask" ZAf Vj:=by exists T.ZCM.F,ZRB
theorem ZUQ:FnO P w K mg base 1 "_law_beyond" ZB9 Kg:=by exists T.ZAi.F,ZRs
theorem ZTg:FnO P w K mg base 1 "_law_column" Z1 Td:=by
 refine Kw T.Wk.F ZJq λcdv A outer s H E hr=>?_
 have nd:=ZJq.nd;exact(Hv (Y8 (ZBn (ZEs hr.units) (ZCy (I8 Nq (I8 Nq (I8 Nq (I8 Nq (I8 Nq ZH9)))))) (M4 0))))
theorem ZK0:FnO P w K mg base 4 "_law_floods" ZB4 Sg:=by exists T.ZBl.F,ZJ1
theorem ZPy:FnO P w K mg base 1 "_law_amid" We Ja:=by exists T.Z3.F,ZNq
theorem ZQx:FnO P w K mg base 3 "_law_floods_amid" ZCL Ve:=by exists T.ZAV.F,ZQ9
theorem ZKj:FnO P w K mg base 1 "_law_pumped" ZA6 R3:=by exists T.ZAs.F,ZNF
theorem ZUD:FnO P w K mg base 1 "_law_steps" Y9 V8:=by exists T.ZBC.F,ZRC
theorem ZUH:FnO P w K mg base 3 "_law_year" ZB5 Mx:=by exists T.ZBg.F,ZNO
theorem ZK4:FnO P w K mg base 4 "_law_rule" Zq Qw:=by exists T.ZAU.F,ZTC
theorem ZKi:FnO P w K mg base 5 "_law_basin" Y5 O1:=by exists T.ZAr.F,ZR7
theorem ZTB:FnO P w K mg base 1 "_law_name" ZCI Rm:=by exists T.ZCE.F,ZL1
theorem ZTN:FnO P w K mg base 6 "_law_house" Wh Up:=by exists T.Xk.F,ZJ4
theorem ZMD:FnO P w K mg base 3 "_law_number" X7 Pk:=by exists T.ZBd.F,ZNR
theorem ZQD:FnO P w K mg base 4 "_law_state" Zh Uw:=by exists T.Z6.F,ZPE
theorem ZUV:FnO P w K mg base 3 "_law_state_amid" ZBr Uu:=by exists T.Xh.F,ZMs
theorem ZTj:FnO P w K mg base 1 "_law_told" ZCT Uq:=by exists T.ZCJ.F,ZP8
theorem ZM4:FnO P w K mg base 1 "is_beyond" ZBb R1:=by exists T.Wu.F,ZSJ
theorem ZL6:FnO P w K mg base 1 "part_asked" Y6 Rh:=by
 refine Kw T.ZBv.F ZFy λcdv A outer s H E hr=>?_
 have nd:=ZFy.nd;exact(Hv (Y8 (ZBn (ZEs hr.units) (ZCy (I8 (by trivial) (I8 (by trivial) (I8 (by trivial) (I8 (by trivial) (I8 (by trivial) ZH9)))))) (M4 0))))
theorem ZKg:FnO P w K mg base 2 "answered" Xx Sx:=by exists T.Vp.F,ZR0
theorem ZLJ:FnO P w K mg base 1 "check_ask" ZCh R9:=by
 refine Kw T.Zx.F ZJn λcdv A outer s H E hr=>?_
 have nd:=ZJn.nd
 exact(Ga (by trivial) (Ga (Mj (ZCB (ZCs (Te ZHP (M4 4) (ZOs (ss:=["least","most"]) rfl T.ZB8) (by with_unfolding_all rfl)) (Wv (ZSa rfl T.Qi (M4 2) (by with_unfolding_all rfl))))) (Hv Nv) Lz) (Ga (Mj (by trivial) (Hv Nv) Lz) (Hv (Mj (Te (o_ne hr.units) (by trivial) (ZM1 rfl T.Qi (M4 2)) (nomark _)) (Hv Nv) Lz)))))
theorem ZT5:FnO P w K mg base 1 "none_above" Xy Q0:=by exists T.Wg.F,ZM7
theorem ZSl:FnO P w K mg base 2 "rows_under" ZBm K6:=by exists T.Ys.F,ZUG
theorem ZLm:FnO P w K mg base 3 "under" ZCD Ua:=by exists T.ZCZ.F,ZRh
theorem ZRt:FnO P w K mg base 4 "check_bounds" Xw Uv:=by
 refine Kw T.ZCg.F ZHV λcdv A outer s H E hr=>?_
 have nd:=ZHV.nd;exact(Hv (Mj (by trivial) (Hv Nv) Lz))
theorem ZRS:FnO P w K mg base 1 "looked_through" ZBy Ue:=by exists T.ZAQ.F,ZRO
theorem ZLt:MtO P w K mg base 1 "Course" "__init__" ZCp Py:=by exists T.Zd.F,ZUb
theorem ZKL:MtO P w K mg base 1 "Course" "send" ZCi O4:=by exists T.Qh.F,ZTJ
theorem ZSG:FnO P w K mg base 1 "number_of" Vz Nu:=by
 refine Kw T.W7.F ZHl λcdv A outer s H E hr=>?_
 have nd:=ZHl.nd;exact(Ga (by trivial) (Hv Nv))
theorem ZPI:FnO P w K mg base 2 "down_of" ZBa Q5:=by exists T.ZCk.F,ZOl
theorem ZS1:MtO P w K mg base 3 "Course" "send_down" ZBk Oh:=by exists T.T9.F,ZLh
theorem ZNd:FnO P w K mg base 1 "opened" ZAt S9:=by exists T.ZBK.F,ZMy
theorem ZKJ:FnO P w K mg base 1 "stairs_at" Xv Rw:=by exists T.Wb.F,ZPF
theorem ZMv:MtO P w K mg base 4 "Course" "go_basin" W8 Ss:=by exists T.Uo.F,ZOd
theorem ZL2:FnO P w K mg base 1 "passed" ZBc Ng:=by exists T.ZAB.F,ZRn
theorem ZUt:FnO P w K mg base 3 "down_in_reach" ZA5 Om:=by exists T.Vn.F,ZTq
theorem ZQe:FnO P w K mg base 4 "reach_rows" Wm Qn:=by exists T.Za.F,ZPa
theorem ZSh:FnO P w K mg base 1 "served" Wt Sq:=by exists T.ZA9.F,ZP2
theorem ZK7:FnO P w K mg base 1 "way_down" Vx V3:=by exists T.ZBL.F,ZRJ
theorem ZUr:FnO P w K mg base 2 "shares" ZCV Vh:=by exists T.ZBR.F,ZPQ
theorem ZNp:MtO P w K mg base 5 "Course" "go_reach" Yc Qz:=by exists T.V0.F,ZPw
theorem ZQk:FnO P w K mg base 4 "lasts_of_reaches" W6 V9:=by exists T.Wl.F,ZKh
theorem ZR4:MtO P w K mg base 6 "Course" "go" Vl T7:=by exists T.Tg.F,ZMh
theorem ZKr:MtO P w K mg base 1 "Course" "state_behind" ZBY Tf:=by exists T.Qs.F,ZQ0
theorem ZLB:FnO P w K mg base 7 "turn" Wa R0:=by exists T.ZA8.F,ZM3
theorem ZL5:FnO P w K mg base 8 "run" ZCH Ls:=by exists T.ZA3.F,ZPK
theorem ZTK:FnO P w K mg base 9 "look" Yr Mw:=by exists T.ZAY.F,ZOv
theorem ZK6:FnO P w K mg base 10 "law" ZAC Ke:=by
 refine Kw T.Qg.F ZJV λcdv A outer s H E hr=>?_
 have nd:=ZJV.nd
 exact(Ga (by trivial) (Ga (by trivial) (Ga (by trivial) (Ga (by trivial) (Ga (by trivial) (Ga (by trivial) (Ga (by trivial) (Ga (by trivial) (Ga (Mj (ZCB (ZCs (by trivial) (Wv (Te ZHP (by trivial) (by trivial) (by with_unfolding_all rfl))))) (by trivial) Lz) (by trivial))))))))))
end
theorem ZUq{K:PySem.W.Frag}{h:Heap}{mg:Str->Option xD}(X:K.In h)(G:h.Ns vQ mg)(S:AllSaid K asks):Txt K mg:=by
 obtain⟨Ep,ZAE,Ws,ZCl,Yk,ZBO,Zo,ZCM,ZAi,Wk,ZBl,Z3,ZAV,ZAs,ZBC,ZBg,ZAU,ZAr,ZCE,Xk,ZBd,Z6,Xh,ZCJ,Wu,ZBv,Vp,Zx,Wg,Ys,ZCZ,ZCg,ZAQ,Zd,Qh,W7,ZCk,T9,ZBK,Wb,Uo,ZAB,Vn,Za,ZA9,ZBL,ZBR,V0,Wl,Tg,Qs,ZA8,ZA3,ZAY,Qg,ZHe,ZDd,ZJc,ZEq,ZIA,ZIH,ZHr,z_all,z_any,z_bool,z_enumerate,z_int,z_isinstance,z_len,z_list,z_max,z_min,z_range,ZV7,z_str,ZV8,z_zip,ZFE,ZIm,ZHt,ZH4,ZFM,ZJb,ZJd,ZDq,ZFT,ZFH,ZDj,ZGM,ZI2,ZG9,ZJh,ZJS,ZDS,ZFx,ZDO,ZJa,ZF4,ZHx,ZFt,ZB8,Qi,_⟩:=S
 constructor <;> first|assumption|exact PySem.W.mg_none_of X G (by assumption)|exact PySem.W.mg_of X G (by assumption)|exact ZUh X G (by assumption) (by assumption)|((first|refine ZOu X G (by assumption) ?_|refine ZQj (by assumption) ?_);(first|exact λ_ _ _ _ _ _=>bnd1 λ_=>rfl|exact λ_ _ _ _ _ _=>bnd2 λ_ _=>rfl|exact λ_ _ _ _ _ _=>bnd3 λ_ _ _=>rfl|exact λ_ _ _ _ _ _=>bnd4 λ_ _ _ _=>rfl|exact λ_ _ _ _ _ _=>bnd5 λ_ _ _ _ _=>rfl|exact λ_ _ _ _ _ _=>bnd7 λ_ _ _ _ _ _ _=>rfl))|exact ZN7 X G ZB8|exact ZMA X G Qi
theorem all_mk{l:PySem.W.OpenLaw}{w:xE}{K:PySem.W.Frag}{h:Heap}{mg:Str->Option xD}{fa:xz}(X:K.In h)(G:h.Ns vQ mg)(hfa:mg "law"=vD (.ref fa))(S:AllSaid K asks):
  ∃fd:xk,(∀(s:xB)(v:xD),BindsTo s fd ⟨[v],[]⟩ [("_law_script",v)])/\∀base:Heap,K.In base->base.Ns vQ mg->FnOk l.prog w K mg base CX0 10 fa fd ["_law_script"] (lF K Ke):=by
 have T:=ZUq X G S;have eL:=T.Qg.m;obtain rfl:fa=Ba K "law":=by rw[hfa]at eL;cases eL;rfl
 exact⟨_,λs v=>ZQw (T.Qg.F),λbase _ _=>ZK6 T⟩
theorem walk{l:PySem.W.OpenLaw}{q:x0}{loose:List Str}{XP:(Str->Option xD)->Heap->Prop}{YP:xE->Heap->Prop}{d:DefRec}{K:xE->PySem.W.Frag}(hn:l.most=vD 63)(hdf:d.params.defaults=[])(HH:Holds)
  (hY:∀(w:xE)(h:Heap),YP w h->(K w).In h)
  (F:∀(w:xE)(mg:Str->Option xD)(fa:xz)(h:Heap),(K w).In h->h.Ns vQ mg->mg d.name=vD (.ref fa)->
   ∃fd:xk,(∀(s:xB)(u:xD),BindsTo s fd ⟨[u],[]⟩ [("_law_script",u)])/\∀base:Heap,(K w).In base->base.Ns vQ mg->FnOk l.prog w (K w) mg base CX0 10 fa fd ["_law_script"] (lF (K w) Ke)):
  PySem.W.WalkO q loose XP YP l.row.toRowW d [] (λf vs=>PySem.call f vs):=
 _L.ZT6 (n:=63) (k:=10) (x:="_law_script") (CX:=λ_=>CX0) (sp:=λw=>lF (K w) Ke) hn (by decide) hdf ⟨rfl,by decide,by decide⟩ hY F
  (λw H a ns hl hO hS=>by
   obtain⟨G,hG⟩:=HH ns hl;refine⟨⟨K w,0,λ_=>0,H⟩,[],[.fl (ns.map D.int)],rfl,rfl,⟨rfl,λi j h=>absurd h (xW _),λi o h=>by simp at h,λi h=>absurd h (xW _)⟩,Reps.cons ⟨a,ns.map V.int,rfl,?_,Reps.ints ns⟩ Reps.nil,?_⟩
   ·rcases hS with(hS|hS)|hS
    ·rcases hO a with z|⟨o,xs,z⟩
     ·rw[z]at hS;cases hS
     ·rw[z]at hS;cases hS
    ·exact .inl hS
    ·exact .inr hS
   ·rw[hG];exact λb v _ _ r=>r) λ_ _ _ _ _ z=>z
end _W
namespace _W
open PySem _L _D
variable{ns xs l r ys:List Int}{F T P W ca lv f ca' lv':Nat->Int}{m i d j p to dl t B:Nat}{G L:DH}{A:DO}{ds:List D}{ws ms:List Nat}{α:Type}{w c a at_ u yr w' x y:Int}{q:Option (Nat×Nat×Int)}{H LV e:D}{pg:Nat->List Int}{S:DSt}{co fl co' fl':Nat->Nat->Int}{te:DE}{nm:Nat->Str}{s2:Option D}{fls fls':List (Nat->Int)}{pgs:List (Nat->List Int)}{b:Bool}
noncomputable abbrev zI(i:Int):Option D:=vD (.int i)
noncomputable abbrev zR(i:Nat):Option D:=vD (.ref i)
noncomputable abbrev zF(xs:List D):Option D:=vD (.fl xs)
noncomputable abbrev zT(xs:List D):Option D:=vD (.tup xs)
noncomputable abbrev zS(x:Str):Option D:=vD (.str x)
noncomputable abbrev zB(b:Bool):Option D:=vD (.bl b)
section
variable{S:DSt}{G:DH}{d:D}{a b c e f g h i j k l m n:Option D}
@[simp high]theorem rV0:dV 0 (vD d::S) G=.ok d G:=id rfl
@[simp high]theorem rV1:dV 1 (a::vD d::S) G=.ok d G:=id rfl
@[simp high]theorem rV2:dV 2 (a::b::vD d::S) G=.ok d G:=id rfl
@[simp high]theorem rV3:dV 3 (a::b::c::vD d::S) G=.ok d G:=id rfl
@[simp high]theorem rV4:dV 4 (a::b::c::e::vD d::S) G=.ok d G:=id rfl
@[simp high]theorem rV5:dV 5 (a::b::c::e::f::vD d::S) G=.ok d G:=id rfl
@[simp high]theorem rV6:dV 6 (a::b::c::e::f::g::vD d::S) G=.ok d G:=id rfl
@[simp high]theorem rV7:dV 7 (a::b::c::e::f::g::h::vD d::S) G=.ok d G:=id rfl
@[simp high]theorem rV8:dV 8 (a::b::c::e::f::g::h::i::vD d::S) G=.ok d G:=id rfl
@[simp high]theorem rV9:dV 9 (a::b::c::e::f::g::h::i::j::vD d::S) G=.ok d G:=id rfl
@[simp high]theorem rV10:dV 10 (a::b::c::e::f::g::h::i::j::k::vD d::S) G=.ok d G:=id rfl
@[simp high]theorem rV11:dV 11 (a::b::c::e::f::g::h::i::j::k::l::vD d::S) G=.ok d G:=id rfl
@[simp high]theorem rV12:dV 12 (a::b::c::e::f::g::h::i::j::k::l::m::vD d::S) G=.ok d G:=id rfl
@[simp high]theorem rV13:dV 13 (a::b::c::e::f::g::h::i::j::k::l::m::n::vD d::S) G=.ok d G:=id rfl
end
theorem ZEr:∃b,∀G,Lj [.fl (ns.map D.int)] G=.ok (.bl b) G:=by
 cases ns with
 |nil=>exact⟨vG,λG=>by unfold Lj Z7;rw[Ay];simp[Be]⟩
 |cons n r=>
  refine⟨decide (n<0)||decide (1000000000000000000<=n),λG=>?_⟩;unfold Lj Z7;rw[Ay];have a0:atI ((n::r).map D.int) 0=zI n:=Dk (k:=0) rfl rfl;by_cases h:n<0
  ·simp[a0,h,Be]
  ·simp[a0,h,Be]
noncomputable def offV:Nat->Int->Int
 |0,v=>v
 |n+1,v=>offV n (v/100000000)
theorem ZDr{k:D}{G:DH}:∀(n:Nat)(j:Nat)(v:Int)(x:Option D),∃x',Aq (gV 2) Qa (Bg j n) [zI v,vD k,x] G=.nx [zI (offV n v),vD k,x'] G
 |0,j,v,x=>⟨x,by rw[H7,Cp];rfl⟩
 |n+1,j,v,x=>by
  obtain⟨x',ih⟩:=ZDr (k:=k) (G:=G) n (j+1) (v/100000000) (zI j);refine⟨x',?_⟩;have hb:Qa [zI v,vD k,zI j] G=.nx [zI (v/100000000),vD k,zI j] G:=by unfold Qa;simp
  rw[G9,Bu];simp only[Cg,R.By,qj,hb,Cm];have e1:((j:Int)+1)=((j+1:Nat):Int):=by lia
  rw[e1,ih]
  rfl
theorem ZC4{v:Int}{k:Nat}(hk:k<=1000):∃r:Int,(0<=r/\r<100000000)/\∀G,Oo [.int v,.int k] G=.ok (.int r) G:=by
 by_cases h:0<=v/\v<1000000000000000000
 ·let a:=(v+1009*(k:Int)+7)%999999937;let b:=a*a%999999929;refine⟨b*(b+k)%99999989,by lia,λG=>?_⟩;have ha:0<=a/\a<999999937:=by lia
  have hb:0<=b/\b<999999929:=by lia
  unfold Oo ZBD;rw[Ay];have m1:Ak (.int a) (.int a)=λG=>R.ok (.int (a*a)) G:=by funext G;exact G8 (by lia) (by lia)
  have m2:Ak (.int b) (.int (b+k))=λG=>R.ok (.int (b*(b+k))) G:=by funext G;exact G8 (by lia) (by lia)
  simp[h.1,h.2]
  rw[show(v+1009*(k:Int)+7)%999999937=a from rfl,m1]
  simp
  rw[show a*a%999999929=b from rfl,m2]
  simp[Be]
 ·refine⟨offV k v%100000000,by lia,λG=>?_⟩;obtain⟨x',hx⟩:=ZDr (k:=.int k) (G:=G) k 0 v vE;have hx':Aq (gV 2) Qa (Bg 0 k) [zI v,zI k,vE] G=.nx [zI (offV k v),zI k,x'] G:=hx;unfold Oo ZBD;rw[Ay];have hr:inR (k:Int):=Ef (by lia) (by lia);by_cases h0:0<=v
  ·have h1:¬v<1000000000000000000:=λz=>h ⟨h0,z⟩
   simp[h0,h1,hr,hx',Be]
  ·simp[h0,hr,hx',Be]
theorem ZGE(hl:ns.length<=63){k:Nat}(hk:k<=1000):∃v:Int,∀G,Bc [.fl (ns.map D.int),.int k] G=.ok (.int v) G:=by
 obtain⟨b,ht⟩:=ZEr (ns:=ns);have hd:((k:Int)/14)=((k/14:Nat):Int):=by lia
 have hm:((k:Int)%14)=((k%14:Nat):Int):=by lia
 cases b with
 | true=>
  by_cases h:1+k/14<ns.length
  ·obtain⟨r,hr,ho⟩:=ZC4 (v:=ns[1+k/14]) (k:=k%14) (by lia);refine⟨r,λG=>?_⟩;unfold Bc N8;rw[Ay];have a1:atI (ns.map D.int) (1+(k:Int)/14)=zI ns[1+k/14]:=Dk (k:=1+k/14) (by lia) (by rw[zj,zX h];rfl);have hc:(1+(k:Int)/14)<ns.length:=by lia
   simp[ht,hc,a1];rw[hm,ho];simp[Be]
  ·obtain⟨r,hr,ho⟩:=ZC4 (v:=0) (k:=k%14) (by lia);refine⟨r,λG=>?_⟩;unfold Bc N8;rw[Ay];have hc:¬(1+(k:Int)/14)<ns.length:=by lia
   simp[ht,hc];rw[hm,ho];simp[Be]
 | false=>
  by_cases h:k<ns.length
  ·refine⟨ns[k],λG=>?_⟩;unfold Bc N8;rw[Ay];have a1:atI (ns.map D.int) (k:Int)=zI ns[k]:=Dk (k:=k) rfl (by rw[zj,zX h];rfl);simp[ht,h,a1,Be]
  ·have m0:∀G,Ak (.int k) (.int k) G=R.ok (.int ((k:Int)*k)) G:=λG=>G8 (by lia) (by lia)
   by_cases h0:0<ns.length
   ·have hi:k%ns.length<ns.length:=Nat.mod_lt _ h0;refine⟨48271*((k:Int)*k+7*ns.length)%2147483647+ns[k%ns.length]*69621%2147483629,λG=>?_⟩;unfold Bc N8;rw[Ay];have a1:atI (ns.map D.int) ((k:Int)%ns.length)=zI ns[k%ns.length]:=Dk (k:=k%ns.length) (by simp) (by rw[zj,zX hi];rfl);simp[ht,h,m0,h0,a1,Be]
   ·have e:ns=[]:=qL (by lia);subst e;refine⟨48271*((k:Int)*k+7*0)%2147483647,λG=>?_⟩;unfold Bc N8;rw[Ay];have ht':∀G,Lj [.fl []] G=.ok (.bl vG) G:=ht;have hk0:¬(k:Int)<0:=by lia
    simp[ht',hk0,m0,Be]
theorem cells(hl:ns.length<=63):∃f:Nat->Int,∀k:Nat,k<=1000->∀G,Bc [.fl (ns.map D.int),.int k] G=.ok (.int (f k)) G:=by refine⟨λk=>if h:k<=1000 then(ZGE hl h).choose else 0,λk hk=>?_⟩;simp only[dif_pos hk];exact(ZGE hl hk).choose_spec
noncomputable abbrev nD(ns:List Int):D:=.fl (ns.map D.int)
noncomputable abbrev zN(ns:List Int):Option D:=vD (nD ns)
abbrev Cf(ns:List Int)(f:Nat->Int):Prop:=∀k:Nat,k<=1000->∀G,Bc [nD ns,.int k] G=.ok (.int (f k)) G
abbrev Cu(ns:List Int)(u:Int):Prop:=∀G,Hj [nD ns] G=.ok (.int u) G
abbrev Cy(ns:List Int)(u:Int):Prop:=∀G,Mx [nD ns] G=.ok (.int u) G
structure Row where
 down:Option Nat
 water:Int
 need:Int
 rank:Int
variable{rs rs':List Row}
noncomputable def dnD:Option Nat->D
 |none=>.non
 |some d=>.int d
def Row.enc(r:Row):D:=.tup [dnD r.down,.int r.water,.int r.need,.int r.rank]
@[simp]theorem ZVB{n:Nat}{o:Option Nat}:bel n (dnD o)=vF:=by cases o<;>rfl
@[simp]theorem ZMM{n:Nat}{r:Row}:bel n r.enc=vF:=by simp[Row.enc]
@[simp]theorem ZVu{n:Nat}:bels n (rs.map Row.enc)=vF:=Ec λr _=>ZMM
@[simp]theorem ZFN{n:Nat}:bels n (xs.map D.int)=vF:=Ec λr _=>rfl
structure Fine (k n:Nat) (r:Row):Prop where
 dn:∀d,r.down=vD d->k<d/\d<n
 w0:0<=r.water
 n0:0<=r.need
 r0:0<=r.rank
def Reach(rs:List Row):Prop:=∀k r,rs[k]?=vD r->Fine k rs.length r
noncomputable def tab(n:Nat)(F:Nat->Int):List D:=(zQ n).map λi=>D.int (F i)
def fset(F:Nat->Int)(d:Nat)(v:Int):Nat->Int:=λi=>if i=d then v else F i
@[simp]theorem ZKW{n:Nat}:(tab n F).length=n:=by simp[tab]
@[simp]theorem Hc{n:Nat}:bels m (tab n F)=vF:=Ec λ_ _=>rfl
theorem Kc{n:Nat}(h:i<n):(tab n F)[i]?=zI (F i):=by unfold tab;rw[zj,zP h];rfl
theorem Dy{n:Nat}(h:i<n):atI (tab n F) (i:Int)=zI (F i):=Dk rfl (Kc h)
theorem Nh{n:Nat}{v:Int}:(tab n F).set d (.int v)=tab n (fset F d v):=by
 refine jC λi=>?_
 by_cases hi:i<n
 ·by_cases e:d=i
  ·subst e;rw[jv (by simpa using hi),Kc hi];simp[fset]
  ·rw[jX e,Kc hi,Kc hi];have:i≠d:=λz=>e z.symm
   simp[fset,this]
 ·rw[zy (by simp;lia),zy (by simp;lia)]
theorem ZGU{n:Nat}{F':Nat->Int}(h:∀i,i<n->F i=F' i):tab n F=tab n F':=by
 unfold tab;refine qw λi hi=>?_
 rw[h i (qq.mp hi)]
noncomputable def col(g:Row->Int)(rs:List Row)(i:Nat):Int:=match rs[i]? with
 |some r=>g r
 |none=>0
def Bj(rs:List Row)(i:Nat):Option Nat:=rs[i]?.bind Row.down
theorem Gs(h:Reach rs){k:Nat}(e:Bj rs k=vD d):k<d/\d<rs.length:=by
 unfold Bj at e;cases hr:rs[k]? with
 |none=>rw[hr]at e;cases e
 |some r=>rw[hr]at e;exact(h k r hr).dn d e
theorem Tz{k:Nat}(hk:k<rs.length):Bj rs k=rs[k].down:=by unfold Bj;rw[zX hk];rfl
theorem U5{k:Nat}(hk:¬k<rs.length):Bj rs k=vE:=by unfold Bj;rw[zy (by lia)];rfl
def gstep(F:Nat->Int)(k:Nat)(o:Option Nat):Nat->Int:=match o with
 |none=>F
 |some d=>fset F d (F d+F k)
def gat(rs:List Row):Nat->Nat->(Nat->Int)->Nat->Int
 |0,_,F=>F
 |m+1,k,F=>gat rs m (k+1) (gstep F k (Bj rs k))
noncomputable abbrev gath(rs:List Row)(F:Nat->Int):Nat->Int:=gat rs rs.length 0 F
theorem ZCr{k:Nat}(hk:k<rs.length):atI (rs.map Row.enc) (k:Int)=zT [dnD (Bj rs k),.int (col Row.water rs k),.int (col Row.need rs k),.int (col Row.rank rs k)]:=
 Dk rfl (by rw[zj,Tz hk];simp[col,zX hk,Row.enc])
theorem ZGf(hR:Reach rs){t:D}{G:DH}:∀(m k:Nat)(F:Nat->Int)(x y:Option D),k+m=rs.length->∃x' y',
  Aq (Ao 2 (Ae (gV 4) (Ae (gV 3) Aw))) Ln ((Dl (rs.map Row.enc)).drop k) [zF (rs.map Row.enc),vD t,zR G.length,x,y] (G++[.lst (tab rs.length F)])=
   .nx [zF (rs.map Row.enc),vD t,zR G.length,x',y'] (G++[.lst (tab rs.length (gat rs m k F))])
 |0,k,F,x,y,h=>⟨x,y,by rw[qJ (by rw[Ik];simp;lia),Cp];rfl⟩
 | m+1,k,F,x,y,h=>by
  have hk:k<rs.length:=by lia
  have e0:(Dl (rs.map Row.enc)).drop k=.tup [.int k,rs[k].enc]::(Dl (rs.map Row.enc)).drop (k+1):=by rw[qQ (by rw[Ik];simpa using hk)];simp[Dl]
  obtain⟨x',y',ih⟩:=ZGf hR (t:=t) (G:=G) m (k+1) (gstep F k (Bj rs k)) (vD rs[k].enc) (zI k) (by lia);refine⟨x',y',?_⟩;have hb:Ln [zF (rs.map Row.enc),vD t,zR G.length,vD rs[k].enc,zI k] (G++[.lst (tab rs.length F)])=
    .nx [zF (rs.map Row.enc),vD t,zR G.length,vD rs[k].enc,zI k] (G++[.lst (tab rs.length (gstep F k (Bj rs k)))]):=by
   unfold Ln;cases hd:Bj rs k with
   |none=>
    have:rs[k].down=vE:=by rw[<-Tz hk];exact hd
    simp[Row.enc,this,dnD,gstep]
   |some d=>
    have e:rs[k].down=vD d:=by rw[<-Tz hk];exact hd
    have hdn:=Gs hR hd;have g0:(G++[DO.lst (tab rs.length F)])[G.length]?=vD (.lst (tab rs.length F)):=by simp
    simp[Row.enc,e,dnD,gstep,Vc g0 (Dy hdn.2),Cv,Dy hk,Ea,Hg,hdn.2,Nh]
  rw[e0,Bu];simp[Cg,hb];exact ih
def Jm(rs:List Row)(i:Nat):D:=.tup [dnD (Bj rs i),.int (col Row.water rs i),.int (col Row.need rs i),.int (col Row.rank rs i)]
theorem ZDL:rs.map Row.enc=(zQ rs.length).map (Jm rs):=by
 refine jC λi=>?_
 by_cases hi:i<rs.length
 ·rw[zj,zj,zP hi,zX hi];simp[Jm,Row.enc,Tz hi,col,zX hi]
 ·rw[zy (by simp;lia),zy (by simp;lia)]
theorem ZGF(hR:Reach rs)(hl:rs.length<=40){t:D}(ht:Bh t G=vD (tab rs.length T)):Ng [.fl (rs.map Row.enc),t] G=.ok (.ref G.length) (G++[.lst (tab rs.length (gath rs λi=>col Row.water rs i-T i))]):=by
 obtain⟨x',y',hL⟩:=ZGf hR (t:=t) (G:=G) rs.length 0 (λi=>col Row.water rs i-T i) vE vE (by lia);have hz:∀j,Ew [.fl (rs.map Row.enc),t] j G=vD ((zQ rs.length).map λi=>D.tup [Jm rs i,.int (T i)])[j]? :=λj=>by
  rw[Xa ZGc ht,Ly,ZDL,tab,List.zip_map',qO]
  rfl
 let F:D->Option D:=λd=>match d with
  |.tup [.tup [_,.int w,_,_],.int v]=>zI (w-v)
  |_=>vE
 have hc:De (Ew [.fl (rs.map Row.enc),t]) (Ao 2 (Ae (gV 0) (Ae (gV 1) Aw))) Bd Zy (Ax 2 [] [zF (rs.map Row.enc),vD t,vE,vE,vE]) rs.length 0 G=.ok (tab rs.length λi=>col Row.water rs i-T i) G:=by
  rw[Ur (F:=F) hz (λx hx=>?_) (by simp)]
  ·congr 1
   rw[qx];show(zQ rs.length).filterMap (λi=>zI (col Row.water rs i-T i))=_;rw[qA]
   rfl
  ·obtain⟨i,_,rfl⟩:=zM.mp hx;refine⟨[vD (Jm rs i),zI (T i)],by simp[Ax],.inr ⟨rfl,.int (col Row.water rs i-T i),?_,rfl⟩⟩;unfold Zy;simp[Jm]
 have hl2:rs.length<=1000000:=by lia
 unfold Ng ZHo;rw[Ay];have hL':Aq (Ao 2 (Ae (gV 4) (Ae (gV 3) Aw))) Ln (Dl (rs.map Row.enc)) [zF (rs.map Row.enc),vD t,zR G.length,vE,vE] (G++[.lst (tab rs.length λi=>col Row.water rs i-T i)])=_:=hL;have hcf:Dh (Do 0 (.fl (rs.map Row.enc))) (Ao 2 (Ae (gV 4) (Ae (gV 3) Aw))) Ln rs.length 0 [zF (rs.map Row.enc),vD t,zR G.length,vE,vE] (G++[.lst (tab rs.length λi=>col Row.water rs i-T i)])=.nx [zF (rs.map Row.enc),vD t,zR G.length,x',y'] (G++[.lst (tab rs.length (gath rs λi=>col Row.water rs i-T i))]):=by
  have:=ZNh (S:=[zF (rs.map Row.enc),vD t,zR G.length,vE,vE]) (G:=G++[.lst (tab rs.length λi=>col Row.water rs i-T i)]) (g:=Ao 2 (Ae (gV 4) (Ae (gV 3) Aw))) (b:=Ln) (xs:=rs.map Row.enc);rw[qY]at this;rw[this];exact hL'
 simp[Tv (ZGc (xs:=rs.map Row.enc)) ht,hc,Ah,hl2,hcf,Ds]
theorem ZDy{g:Row->Int}(h:∀r∈rs,0<=g r)(k:Nat):0<=col g rs k:=by
 unfold col;split
 ·rename_i r hr;exact h r (List.mem_of_getElem? hr)
 ·exact zH _
theorem Reach.need(h:Reach rs)(k:Nat):0<=col Row.need rs k:=ZDy (λr hr=>by obtain⟨i,hi,rfl⟩:=qD hr;exact(h i _ (zX hi)).n0) k
theorem Reach.water(h:Reach rs)(k:Nat):0<=col Row.water rs k:=ZDy (λr hr=>by obtain⟨i,hi,rfl⟩:=qD hr;exact(h i _ (zX hi)).w0) k
theorem ZE3(h:bels (G.length+1) ds=vF):freeze (G++[A]) (.ok (.ref (G.length+1)) (G++A:: .lst ds::L))=.ok (.fl ds) (G++[A]):=by have:=Dg (G:=G++[A]) (ds:=ds) (L:=L) (by simpa using h);simpa using this
theorem ZEC(h:bels (G.length+1) ds=vF):tidy (G++[A]) (.ok (.ref (G.length+1)) (G++A:: .lst ds::L))=.ok (.ref (G.length+1)) (G++[A,.lst ds]):=by have:=Ds (G:=G++[A]) (ds:=ds) (L:=L) (by simpa using h);simpa using this
theorem Z2{B:DO}(h:bels (G.length+2) ds=vF):freeze (G++[A,B]) (.ok (.ref (G.length+2)) (G++A::B:: .lst ds::L))=.ok (.fl ds) (G++[A,B]):=by have:=Dg (G:=G++[A,B]) (ds:=ds) (L:=L) (by simpa using h);simpa using this
def Ha(rs:List Row):Nat->Nat->List Nat
 |0,k=>[k]
 |m+1,k=>k::(match Bj rs k with
  |none=>[]
  |some d=>Ha rs m d)
def way(rs:List Row)(k:Nat):List Nat:=Ha rs rs.length k
theorem ZJY(hR:Reach rs):∀(m m' k:Nat),rs.length<=m+k+1->rs.length<=m'+k+1->Ha rs m k=Ha rs m' k
 | 0,m',k,h,h'=>by
  have hn:Bj rs k=vE:=by
   cases hd:Bj rs k with
   |none=>rfl
   |some d=>have:=Gs hR hd;lia
  cases m' with
  |zero=>rfl
  |succ m'=>simp[Ha,hn]
 | m+1,0,k,h,h'=>by
  have hn:Bj rs k=vE:=by
   cases hd:Bj rs k with
   |none=>rfl
   |some d=>have:=Gs hR hd;lia
  simp[Ha,hn]
 | m+1,m'+1,k,h,h'=>by
  cases hd:Bj rs k with
  |none=>simp[Ha,hd]
  |some d=>
   have:=Gs hR hd;simp[Ha,hd,ZJY hR m m' d (by lia) (by lia)]
def Gi(rs:List Row):Option Nat->List Nat
 |none=>[]
 |some d=>way rs d
theorem Eo(hR:Reach rs)(k:Nat):way rs k=k::Gi rs (Bj rs k):=by
 unfold way;rw[ZJY hR rs.length (rs.length+1) k (by lia) (by lia)];show k::_=_;cases hd:Bj rs k with
 |none=>rfl
 |some d=>rfl
@[simp]theorem ZVH:dnD (vD d)=.int d:=id rfl
noncomputable def Ar(ws:List Nat):List D:=ws.map λ(i:Nat)=>D.int (i:Int)
@[simp]theorem ZF7:bels m (Ar ws)=vF:=Ec λ_ _=>rfl
@[simp]theorem ZU0:(Ar ws).length=ws.length:=by simp[Ar]
theorem ZEe(hR:Reach rs)(hl:rs.length<=40){x:Option D}:∀(m:Nat)(o:Option Nat)(acc:List Nat),0<m->(∀d,o=vD d->d<rs.length/\rs.length-d<m/\acc.length+(rs.length-d)<=100)->
  sWh Kp Q7 m [zF (rs.map Row.enc),x,zR G.length,vD (dnD o)] (G++[.lst (Ar acc)])=.nx [zF (rs.map Row.enc),x,zR G.length,vD .non] (G++[.lst (Ar (acc++Gi rs o))])
 |0,o,acc,h0,h=>by lia
 |m+1,vE,acc,h0,h=>by
  have ht:Kp [zF (rs.map Row.enc),x,zR G.length,vD (dnD vE)] (G++[.lst (Ar acc)])=.ok vG (G++[.lst (Ar acc)]):=by unfold Kp;simp[dnD]
  unfold sWh;rw[ht];simp[Gi,dnD]
 |m+1,vD d,acc,h0,h=>by
  obtain⟨h1,h2,h3⟩:=h d rfl;have ht:Kp [zF (rs.map Row.enc),x,zR G.length,vD (dnD (vD d))] (G++[.lst (Ar acc)])=.ok vF (G++[.lst (Ar acc)]):=by unfold Kp;simp[dnD]
  have hla:acc.length<1000000:=by lia
  have hb:Q7 [zF (rs.map Row.enc),x,zR G.length,vD (dnD (vD d))] (G++[.lst (Ar acc)])=.nx [zF (rs.map Row.enc),x,zR G.length,vD (dnD (Bj rs d))] (G++[.lst (Ar (acc++[d]))]):=by unfold Q7;simp[Cv,Ea,hla,ZCr h1,Ar]
  unfold sWh;rw[ht];simp only[R.By,if_true,hb,Cm];rw[ZEe hR hl m (Bj rs d) (acc++[d]) (by lia) (λe he=>by have:=Gs hR he;simp;lia)]
  have:Gi rs (vD d)=d::Gi rs (Bj rs d):=Eo hR d;rw[this];simp
theorem ZRi(hR:Reach rs)(hl:rs.length<=40){k:Nat}(hk:k<rs.length)(G:DH):V3 [.fl (rs.map Row.enc),.int k] G=.ok (.ref G.length) (G++[.lst (Ar (way rs k))]):=by
 have hL:=ZEe hR hl (x:=zI k) (G:=G) fuel (Bj rs k) [k] (by unfold fuel;lia) (λd hd=>by have:=Gs hR hd;unfold fuel;simp;lia)
 have hL':sWh Kp Q7 fuel [zF (rs.map Row.enc),zI k,zR G.length,vD (dnD (Bj rs k))] (G++[.lst [.int k]])=_:=hL;rw[Eo hR];unfold V3 ZI8;rw[Ay];simp[Ah,Ds,ZCr hk,hL']
def ltK(rs:List Row)(i j:Nat):Bool:=decide (col Row.rank rs i<col Row.rank rs j∨(col Row.rank rs i=col Row.rank rs j/\i<j))
theorem ZHg(rs:List Row):WO (ltK rs) where
 asy:=λi j h=>by simp only[ltK,decide_eq_true_eq,decide_eq_false_iff_not]at h⊢;lia
 neg:=λi j k h=>by simp only[ltK,decide_eq_true_eq]at h⊢;lia
def ord(rs:List Row):List Nat:=if rs.length<2 then zQ rs.length else(Br (ltK rs) (PySem.W.kas_sort rs.length)).toList
theorem Wn(rs:List Row):(ord rs).Perm (zQ rs.length):=by
 unfold ord;split
 ·exact .refl _
 ·exact(ZEh (ZHg rs) (by lia)).1
theorem ZAM{k:Nat}(h:k∈ord rs):k<rs.length:=by have:=(Wn rs).mem_iff.mp h;simpa using this
theorem ZFV(rs:List Row):(ord rs).length=rs.length:=by rw[(Wn rs).length_eq];simp
theorem ZFv{n:Nat}{lt lt':Nat->Nat->Bool}(h:∀i j,i<n->j<n->lt i j=lt' i j){P:α->Prop}:∀{t:PySem.W.KasT α},Safe n P t->Br lt t=Br lt' t
 |.ret _,_=>rfl
 |.ask i j k,hs=>by show Br lt (k (lt i j))=Br lt' (k (lt' i j));rw[h i j hs.1 hs.2.1];exact ZFv h (hs.2.2 _)
def Eh(rs:List Row)(k:Nat):D:=.tup [.int (col Row.rank rs k),.int k]
theorem ZH6(i j:Nat):ltD (Eh rs i) (Eh rs j)=vD (ltK rs i j):=by
 have e:ltD (Eh rs i) (Eh rs j)=if col Row.rank rs i=col Row.rank rs j then(if(i:Int)=j then vD vG else vD (decide ((i:Int)<j)))else vD (decide (col Row.rank rs i<col Row.rank rs j)):=rfl
 rw[e];by_cases h:col Row.rank rs i=col Row.rank rs j
 ·rw[if_pos h];by_cases h2:(i:Int)=j
  ·rw[if_pos h2]
   congr 1
   simp only[ltK]
   symm
   simp only[decide_eq_false_iff_not];lia
  ·rw[if_neg h2]
   congr 1
   simp only[ltK];rw[decide_eq_decide];lia
 ·rw[if_neg h]
  congr 1
  simp only[ltK];rw[decide_eq_decide];lia
def Fo(rs:List Row):List D:=(zQ rs.length).map (Eh rs)
theorem ZBW(h:i<rs.length):(Fo rs).getD i .non=Eh rs i:=by unfold Fo;rw[zC,zj,zP h];rfl
theorem ZGx(rs:List Row):Js (Fo rs)=(ord rs).map (Eh rs):=by
 have hl:(Fo rs).length=rs.length:=by simp[Fo]
 unfold Js ord;rw[hl];split
 ·rfl
 ·rename_i h;have e:Br (ltI (Fo rs)) (PySem.W.kas_sort rs.length)=Br (ltK rs) (PySem.W.kas_sort rs.length):=
   ZFv (n:=rs.length) (λi j hi hj=>by unfold ltI;rw[ZBW hi,ZBW hj,ZH6];rfl) (ZT0 (by lia))
  rw[e];refine qw λi hi=>?_
  have hp:=(ZEh (ZHg rs) (n:=rs.length) (by lia)).1;exact ZBW (by simpa using hp.mem_iff.mp hi)
theorem ZTl(rs:List Row):Nf (Fo rs)=vF:=by
 unfold Nf Fo;rw[zD,jI];refine⟨.inl ?_,?_⟩
 ·rw[qy];intro x hx;obtain⟨i,_,rfl⟩:=zM.mp hx
  rfl
 ·rw[qy];intro x hx;rw[qy];intro y hy;obtain⟨i,_,rfl⟩:=zM.mp hx;obtain⟨j,_,rfl⟩:=zM.mp hy;rw[ZH6];rfl
@[simp]theorem ZQa:bels m (ws.map (Eh rs))=vF:=Ec λ_ _=>by simp[Eh]
theorem ZOe(hl:rs.length<=40)(G:DH):Sq [.fl (rs.map Row.enc)] G=.ok (.ref G.length) (G++[.lst (Ar (ord rs))]):=by
 have he:∀j,Do 0 (.fl (rs.map Row.enc)) j G=vD ((zQ rs.length).map λ(k:Nat)=>D.tup [.int (k:Int),Jm rs k])[j]? :=λj=>by
  rw[Ru,Dl,ZDL,List.zipIdx_map,qO]
  congr 2
  refine qM (by simp) λi h1 h2=>by simp
 let F:D->Option D:=λd=>match d with
  |.tup [.int k,.tup [_,_,_,.int r]]=>zT [.int r,.int k]
  |_=>vE
 have hc:De (Do 0 (.fl (rs.map Row.enc))) (Ao 2 (Ae (gV 0) (Ae (gV 1) Aw))) Bd X6 (Ax 2 [] [zF (rs.map Row.enc),vE]) rs.length 0 G=.ok (Fo rs) G:=by
  rw[Ur (F:=F) he (λx hx=>?_) (by simp)]
  ·congr 1
   rw[qx];show(zQ rs.length).filterMap (λi=>vD (Eh rs i))=_;rw[qA]
   rfl
  ·obtain⟨i,_,rfl⟩:=zM.mp hx;refine⟨[zI i,vD (Jm rs i)],by simp[Ax],.inr ⟨rfl,Eh rs i,?_,rfl⟩⟩;unfold X6;simp[Jm,Eh,An]
 let F2:D->Option D:=λd=>match d with
  |.tup [_,k]=>vD k
  |_=>vE
 have hc2:∀S,Ck (Ao 2 (Ae (gV 0) (Ae (gV 1) Aw))) Bd Yy (Ax 2 [] S) ((ord rs).map (Eh rs)) G=.ok (Ar (ord rs)) G:=λS=>by
  rw[Qm (F:=F2) (λx hx=>?_)]
  ·congr 1
   rw[qx];show(ord rs).filterMap (λ(i:Nat)=>zI (i:Int))=_;rw[qA]
   rfl
  ·obtain⟨i,_,rfl⟩:=zM.mp hx;refine⟨[zI (col Row.rank rs i),zI i],by simp[Ax,Eh],.inr ⟨rfl,.int i,?_,rfl⟩⟩;unfold Yy;simp
 have hkl:(Fo rs).length=rs.length:=by simp[Fo]
 have hl2:rs.length<=1000000:=by lia
 have hs:∀G,M8 [.fl (Fo rs)] G=.ok (.ref G.length) (G++[.lst ((ord rs).map (Eh rs))]):=λG=>by have h1:Gj (.fl (Fo rs)) G=vD (Fo rs):=rfl;simp only[M8,h1];rw[if_pos ⟨⟨by rw[hkl];lia,by rw[ZGx];simp[ZFV];lia⟩,ZTl rs⟩,ZGx]
 have hbk:bels G.length (Fo rs)=vF:=ZQa;have hol:=ZFV rs;have hl3:(ord rs).length<=1000000:=by lia
 unfold Sq ZEg;rw[Ay];simp[hc,Ah,hkl,hl2,Dg,hbk,hs,hc2,hl3,Ds]
noncomputable def wmin(P:Nat->Int):List Nat->Int
 |[]=>0
 |k::r=>(r.map P).foldl min (P k)
theorem S5{b:Nat}(h:b∈ws):wmin P ws<=P b:=by
 cases ws with
 |nil=>cases h
 |cons k r=>
  obtain⟨h1,h2,_⟩:=Tu (r.map P) (P k);rcases zq.mp h with rfl|h
  ·exact h1
  ·exact h2 _ (zM.mpr ⟨b,h,rfl⟩)
theorem Wz(h:ws≠[]):∃b∈ws,wmin P ws=P b:=by
 cases ws with
 |nil=>exact absurd rfl h
 |cons k r=>
  obtain⟨_,_,h3⟩:=Tu (r.map P) (P k);rcases h3 with h3|h3
  ·exact⟨k,zW,h3⟩
  ·obtain⟨b,hb,e⟩:=zM.mp h3;exact⟨b,zZ _ hb,e.symm⟩
theorem ZQ7{Q:Nat->Int}(h:∀b∈ws,P b=Q b):wmin P ws=wmin Q ws:=by
 cases ws with
 |nil=>rfl
 |cons k r=>
  have e:r.map P=r.map Q:=qw λb hb=>h b (zZ _ hb)
  show(r.map P).foldl min (P k)=(r.map Q).foldl min (Q k);rw[e,h k zW]
def Dj(P:Nat->Int)(ws:List Nat)(t:Int):Nat->Int:=λi=>if i∈ws then P i-t else P i
def Tw(P:Nat->Int)(t:Int)(ws:List Nat):Nat->Int:=ws.foldl (λP b=>fset P b (P b-t)) P
theorem ZE5{t:Int}:∀{ws:List Nat}{P:Nat->Int},ws.Nodup->Tw P t ws=Dj P ws t
 |[],P,_=>by funext i;simp[Tw,Dj]
 |b::ws,P,h=>by
  obtain⟨h1,h2⟩:=qI.mp h;show Tw (fset P b (P b-t)) t ws=_;rw[ZE5 h2];funext i;by_cases e:i=b
  ·subst e;simp[Dj,fset,h1]
  ·simp[Dj,fset,e]
theorem ZGq(hR:Reach rs):∀(m k:Nat),rs.length<=m+k->k<rs.length->∀b∈way rs k,k<=b/\b<rs.length
 |0,k,h,hk,b,hb=>by lia
 | m+1,k,h,hk,b,hb=>by
  rw[Eo hR]at hb;rcases zq.mp hb with rfl|hb
  ·lia
  ·cases hd:Bj rs k with
   |none=>rw[hd]at hb;cases hb
   |some d=>
    have:=Gs hR hd;rw[hd]at hb;have:=ZGq hR m d (by lia) (by lia) b hb;lia
theorem Mu(hR:Reach rs){k b:Nat}(hk:k<rs.length)(hb:b∈way rs k):k<=b/\b<rs.length:=ZGq hR rs.length k (by lia) hk b hb
theorem ZHK(hR:Reach rs):∀(m k:Nat),rs.length<=m+k->(way rs k).Nodup
 |0,k,h=>by rw[Eo hR,U5 (by lia)];simp[Gi]
 | m+1,k,h=>by
  rw[Eo hR];cases hd:Bj rs k with
  |none=>simp[Gi]
  |some d=>
   have hlt:=Gs hR hd;refine qI.mpr ⟨λhm=>?_,ZHK hR m d (by lia)⟩;have:=Mu hR hlt.2 hm;lia
theorem ZP4(hR:Reach rs)(k:Nat):(way rs k).Nodup:=ZHK hR rs.length k (by lia)
theorem ZGO(hR:Reach rs):∀(m k:Nat),rs.length<=m+k->(way rs k).length<=m+1
 |0,k,h=>by rw[Eo hR,U5 (by lia)];simp[Gi]
 | m+1,k,h=>by
  rw[Eo hR];cases hd:Bj rs k with
  |none=>simp[Gi]
  |some d=>
   have hlt:=Gs hR hd;have:=ZGO hR m d (by lia);show(way rs d).length+1<=_;lia
theorem ZRj(hR:Reach rs)(k:Nat):k∈way rs k:=by rw[Eo hR];exact zW
def take1(rs:List Row)(P:Nat->Int)(k:Nat):Int:=min (col Row.need rs k) (wmin P (way rs k))
def srv(rs:List Row):List Nat->(Nat->Int)->(Nat->Int)->(Nat->Int)×(Nat->Int)
 |[],P,T=>(P,T)
 |k::ks,P,T=>srv rs ks (Dj P (way rs k) (take1 rs P k)) (fset T k (take1 rs P k))
def shr(rs:List Row):Nat->Int:=(srv rs (ord rs) (gath rs (col Row.water rs)) λ_=>0).2
noncomputable def pD(P:Nat->Int)(ws:List Nat):List D:=ws.map λi=>D.int (P i)
@[simp]theorem ZV0:(pD P ws).length=ws.length:=by simp[pD]
@[simp]theorem ZTU:bels m (pD P ws)=vF:=Ec λ_ _=>rfl
theorem ZEI{a b c d e:Option D}{t:Int}{A:DO}{G:DH}:∀(ws:List Nat)(P:Nat->Int)(x:Option D),(∀b∈ws,b<rs.length)->∃x',
  Aq (gV 6) R7 (Ar ws) [a,b,zR (G.length+1),c,d,zI t,x] (G++[A,.lst (tab rs.length P)])=.nx [a,b,zR (G.length+1),c,d,zI t,x'] (G++[A,.lst (tab rs.length (Tw P t ws))])
 |[],P,x,h=>⟨x,rfl⟩
 |w::ws,P,x,h=>by
  obtain⟨x',ih⟩:=ZEI (a:=a) (b:=b) (c:=c) (d:=d) (e:=e) (t:=t) (A:=A) (G:=G) ws (fset P w (P w-t)) (zI w) λb hb=>h b (zZ _ hb)
  refine⟨x',?_⟩;have hw:=h w zW;have g0:(G++[A,DO.lst (tab rs.length P)])[G.length+1]?=vD (.lst (tab rs.length P)):=S7 _ 1;have hse:∀(L:DH)o,(G++L).set (G.length+1) o=G++L.set 1 o:=λL o=>Zf L 1 o
  have hb:R7 [a,b,zR (G.length+1),c,d,zI t,zI w] (G++[A,.lst (tab rs.length P)])=.nx [a,b,zR (G.length+1),c,d,zI t,zI w] (G++[A,.lst (tab rs.length (fset P w (P w-t)))]):=by unfold R7;simp[Vc g0 (Dy hw),g0,hse,Hg,hw,Nh]
  show Aq _ _ (.int w::Ar ws) _ _=_;rw[Bu];simp only[Cg,R.By,qj,hb,Cm];exact ih
theorem ZEU{rs:List Row}(hR:Reach rs)(hl:rs.length<=40){G:DH}:∀(ks:List Nat)(P T:Nat->Int)(x y z w:Option D),(∀k∈ks,k<rs.length)->∃x' y' z' w',
  Aq (gV 3) Pq (Ar ks) [zF (rs.map Row.enc),zR G.length,zR (G.length+1),x,y,z,w] (G++[.lst (tab rs.length T),.lst (tab rs.length P)])=
   .nx [zF (rs.map Row.enc),zR G.length,zR (G.length+1),x',y',z',w'] (G++[.lst (tab rs.length (srv rs ks P T).2),.lst (tab rs.length (srv rs ks P T).1)])
 |[],P,T,x,y,z,w,h=>⟨x,y,z,w,rfl⟩
 | k::ks,P,T,x,y,z,w,h=>by
  have hk:=h k zW;have hwl:∀b∈way rs k,b<rs.length:=λb hb=>(Mu hR hk hb).2
  obtain⟨w1,hsub⟩:=ZEI (rs:=rs) (a:=zF (rs.map Row.enc)) (b:=zR G.length) (c:=zI k) (d:=zF (Ar (way rs k))) (e:=vE) (t:=take1 rs P k) (A:=.lst (tab rs.length (fset T k (take1 rs P k)))) (G:=G) (way rs k) P w hwl;rw[ZE5 (ZP4 hR k)]at hsub;obtain⟨x',y',z',w',ih⟩:=ZEU hR hl (G:=G) ks (Dj P (way rs k) (take1 rs P k)) (fset T k (take1 rs P k)) (zI k) (zF (Ar (way rs k))) (zI (take1 rs P k)) w1 λj hj=>h j (zZ _ hj)
  refine⟨x',y',z',w',?_⟩;have g0:(G++[DO.lst (tab rs.length T),DO.lst (tab rs.length P)])[G.length+1]?=vD (.lst (tab rs.length P)):=S7 _ 1;have hcomp:Ck (gV 0) Bd ZBF (Ax 1 [2] [zF (rs.map Row.enc),zR G.length,zR (G.length+1),zI k,zF (Ar (way rs k)),z,w]) (Ar (way rs k)) (G++[DO.lst (tab rs.length T),DO.lst (tab rs.length P)])=.ok (pD P (way rs k)) (G++[DO.lst (tab rs.length T),DO.lst (tab rs.length P)]):=by
   rw[Qm (F:=λd=>match d with | .int i=>zI (P i.toNat)|_=>vE) (λq hq=>?_)]
   ·congr 1
    unfold Ar;rw[qx];show(way rs k).filterMap (λ(i:Nat)=>zI (P ((i:Int).toNat)))=_;rw[qA];simp[pD]
   ·obtain⟨i,hi,rfl⟩:=zM.mp hq;refine⟨[zI i,zR (G.length+1)],by simp[Ax],.inr ⟨rfl,.int (P i),?_,by simp⟩⟩;unfold ZBF;simp[g0,Dy (hwl i hi)]
  have hwn:(way rs k).length<=1000000:=by have h1:=ZGO hR rs.length k (by lia);lia
  have hmin:∀G,Hk [.fl (pD P (way rs k))] G=.ok (.int (wmin P (way rs k))) G:=λG=>by rw[Eo hR];exact ZEo (n:=P k) (ns:=(Gi rs (Bj rs k)).map P) (by simp[pD])
  have hfr:freeze (G++[DO.lst (tab rs.length T),DO.lst (tab rs.length P)]) (.ok (.ref (G.length+2)) (G++[DO.lst (tab rs.length T),DO.lst (tab rs.length P),.lst (pD P (way rs k))]))=.ok (.fl (pD P (way rs k))) (G++[DO.lst (tab rs.length T),DO.lst (tab rs.length P)]):=Z2 ZTU;have hfw:freeze (G++[DO.lst (tab rs.length T),DO.lst (tab rs.length P)]) (.ok (.ref (G.length+2)) (G++[DO.lst (tab rs.length T),DO.lst (tab rs.length P),.lst (Ar (way rs k))]))=.ok (.fl (Ar (way rs k))) (G++[DO.lst (tab rs.length T),DO.lst (tab rs.length P)]):=Z2 ZF7
  have hb:Pq [zF (rs.map Row.enc),zR G.length,zR (G.length+1),zI k,y,z,w] (G++[.lst (tab rs.length T),.lst (tab rs.length P)])=
    .nx [zF (rs.map Row.enc),zR G.length,zR (G.length+1),zI k,zF (Ar (way rs k)),zI (take1 rs P k),w1] (G++[.lst (tab rs.length (fset T k (take1 rs P k))),.lst (tab rs.length (Dj P (way rs k) (take1 rs P k)))]):=by
   unfold Pq;have ht1:min (col Row.need rs k) (wmin P (way rs k))=take1 rs P k:=rfl;simp[ZRi hR hl hk,hfw,ZCr hk,hcomp,Ah,hwn,hfr,hmin,ht1,Cv,Ea,Hg,hk,Nh,hsub]
  show Aq _ _ (.int k::Ar ks) _ _=_;rw[Bu];simp only[Cg,R.By,qj,hb,Cm];exact ih
theorem ZPY(hR:Reach rs)(hl:rs.length<=40)(G:DH):Vh [.fl (rs.map Row.enc)] G=.ok (.ref G.length) (G++[.lst (tab rs.length (shr rs))]):=by
 have hz:zV rs.length (D.int 0)=tab rs.length λ_=>0:=by unfold tab;refine qM (by simp) λi h1 h2=>by simp
 have hrep:Ib (.ref G.length) (.int (rs.length:Int)) (G++[.lst [.int 0]])=.ok (.ref (G.length+1)) (G++[.lst [.int 0],.lst (tab rs.length λ_=>0)]):=by rw[ZEy (d:=.int 0) (by rw[Cv];rfl) (by lia),hz];simp
 have ht1:tidy G (.ok (.ref (G.length+1)) (G++[.lst [.int 0],.lst (tab rs.length λ_=>0)]))=.ok (.ref G.length) (G++[.lst (tab rs.length λ_=>0)]):=Yv _ (k:=1) rfl Hc;have hp:Ng [.fl (rs.map Row.enc),.ref G.length] (G++[.lst (tab rs.length λ_=>0)])=.ok (.ref (G.length+1)) (G++[.lst (tab rs.length λ_=>0),.lst (tab rs.length (gath rs (col Row.water rs)))]):=by rw[ZGF hR hl (T:=λ_=>0) (ZLU (by rw[Cv];rfl))];simp
 have ht2:tidy (G++[.lst (tab rs.length λ_=>0)]) (.ok (.ref (G.length+1)) (G++[.lst (tab rs.length λ_=>0),.lst (tab rs.length (gath rs (col Row.water rs)))]))=.ok (.ref (G.length+1)) (G++[.lst (tab rs.length λ_=>0),.lst (tab rs.length (gath rs (col Row.water rs)))]):=ZEC Hc;have hfs:freeze (G++[.lst (tab rs.length λ_=>0),.lst (tab rs.length (gath rs (col Row.water rs)))]) (.ok (.ref (G.length+2)) (G++[.lst (tab rs.length λ_=>0),.lst (tab rs.length (gath rs (col Row.water rs))),.lst (Ar (ord rs))]))=.ok (.fl (Ar (ord rs))) (G++[.lst (tab rs.length λ_=>0),.lst (tab rs.length (gath rs (col Row.water rs)))]):=Z2 ZF7
 obtain⟨x',y',z',w',hL⟩:=ZEU hR hl (G:=G) (ord rs) (gath rs (col Row.water rs)) (λ_=>0) vE vE vE vE λk hk=>ZAM hk
 have hfin:∀A,tidy G (.ok (.ref G.length) (G++[.lst (tab rs.length (shr rs)),A]))=.ok (.ref G.length) (G++[.lst (tab rs.length (shr rs))]):=λA=>Ds Hc
 have hL':Aq (gV 3) Pq (Ar (ord rs)) [zF (rs.map Row.enc),zR G.length,zR (G.length+1),vE,vE,vE,vE] (G++[.lst (tab rs.length λ_=>0),.lst (tab rs.length (gath rs (col Row.water rs)))])=
   .nx [zF (rs.map Row.enc),zR G.length,zR (G.length+1),x',y',z',w'] (G++[.lst (tab rs.length (shr rs)),.lst (tab rs.length (srv rs (ord rs) (gath rs (col Row.water rs)) λ_=>0).1)]):=hL
 unfold Vh ZJD;rw[Ay];simp[Ah,hrep,ht1,hp,ht2,ZOe hl,hfs,hL',hfin]
def ind(t:Int)(ws:List Nat):Nat->Int:=λi=>if i∈ws then t else 0
theorem ZAx(hR:Reach rs){k:Nat}{t:Int}:∀(m j:Nat)(A:Nat->Int),k<j->gat rs m j (λi=>A i+ind t [k] i)=λi=>gat rs m j A i+ind t [k] i
 |0,j,A,h=>rfl
 | m+1,j,A,h=>by
  unfold gat;have e:gstep (λi=>A i+ind t [k] i) j (Bj rs j)=λi=>gstep A j (Bj rs j) i+ind t [k] i:=by
   cases hd:Bj rs j with
   |none=>rfl
   |some d=>
    have:=Gs hR hd;funext i;simp only[gstep,fset,ind,qG];have h1:j≠k:=by lia
    have h2:d≠k:=by lia
    by_cases hi:i=d
    ·subst hi;simp[h1,h2]
    ·simp[hi]
  rw[e,ZAx hR m (j+1) _ (by lia)]
theorem Ux(hR:Reach rs){t:Int}:∀(m j k:Nat)(A:Nat->Int),j+m=rs.length->j<=k->k<rs.length->gat rs m j (λi=>A i+ind t [k] i)=λi=>gat rs m j A i+ind t (way rs k) i
 |0,j,k,A,h,h1,h2=>by lia
 | m + 1,j,k,A,h,h1,h2=>by
  unfold gat;by_cases hjk:j<k
  ·have e:gstep (λi=>A i+ind t [k] i) j (Bj rs j)=λi=>gstep A j (Bj rs j) i+ind t [k] i:=by
    cases hd:Bj rs j with
    |none=>rfl
    |some d=>
     funext i;simp only[gstep,fset,ind,qG];have h3:j≠k:=by lia
     by_cases hi:i=d
     ·subst hi;simp[h3];split <;> lia
     ·simp[hi]
   rw[e,Ux hR m (j+1) k _ (by lia) (by lia) h2]
  ·have ej:j=k:=by lia
   subst ej;cases hd:Bj rs j with
   |none=>
    have hw:way rs j=[j]:=by rw[Eo hR,hd];rfl
    show gat rs m (j+1) (λi=>A i+ind t [j] i)=_;rw[ZAx hR m (j+1) A (by lia),hw]
    rfl
   | some d=>
    have hlt:=Gs hR hd;have hw:way rs j=j::way rs d:=by rw[Eo hR,hd];rfl
    have e:gstep (λi=>A i+ind t [j] i) j (vD d)=λi=>(gstep A j (vD d) i+ind t [d] i)+ind t [j] i:=by
     funext i;simp only[gstep,fset,ind,qG];have h3:d≠j:=by lia
     by_cases hi:i=d
     ·subst hi;simp[h3];lia
     ·simp[hi]
    rw[e,ZAx hR m (j+1) _ (by lia),Ux hR m (j+1) d _ (by lia) (by lia) hlt.2];funext i;have hnj:j∉way rs d:=λhm=>by have:=Mu hR hlt.2 hm;lia
    simp only[ind,hw,zq,qG];by_cases hi:i=j
    ·subst hi;simp[hnj]
    ·simp[hi]
theorem ZMl(hR:Reach rs){k:Nat}{t:Int}(hk:k<rs.length)(h0:T k=0):gath rs (λi=>W i-fset T k t i)=Dj (gath rs λi=>W i-T i) (way rs k) t:=by
 have e:(λi=>W i-fset T k t i)=λi=>(W i-T i)+ind (-t) [k] i:=by
  funext i;simp only[fset,ind,qG];by_cases hi:i=k
  ·subst hi;simp[h0];lia
  ·simp[hi]
 rw[e];show gat rs rs.length 0 _=_;rw[Ux hR rs.length 0 k _ (by lia) (by lia) hk];funext i;simp only[ind,Dj,gath]
 split <;> lia
theorem ZBG:∀(m k:Nat)(F:Nat->Int),(∀i,0<=F i)->∀i,0<=gat rs m k F i
 |0,k,F,h,i=>h i
 | m+1,k,F,h,i=>by
  refine ZBG m (k+1) _ (λj=>?_) i;cases Bj rs k with
  |none=>exact h j
  |some d=>
   simp only[gstep,fset];have:=h d;have:=h k;have:=h j
   split <;> lia
structure SI (rs:List Row) (P T:Nat->Int):Prop where
 pg:P=gath rs λi=>col Row.water rs i-T i
 t0:∀i,0<=T i
 tn:∀i,T i<=col Row.need rs i
 p0:∀i,i<rs.length->0<=P i
theorem ZHs(h:∀b∈ws,0<=P b):0<=wmin P ws:=by
 cases ws with
 |nil=>exact zH _
 |cons k r=>
  obtain⟨b,hb,e⟩:=Wz (P:=P) (ws:=k::r) (by simp);rw[e];exact h b hb
theorem SI.take(hR:Reach rs)(s:SI rs P T){k:Nat}(hk:k<rs.length):0<=take1 rs P k/\take1 rs P k<=col Row.need rs k/\∀b∈way rs k,take1 rs P k<=P b:=by
 have h1:0<=wmin P (way rs k):=ZHs λb hb=>s.p0 b (Mu hR hk hb).2
 have h2:=hR.need k;unfold take1;refine⟨by lia,by lia,λb hb=>?_⟩;have:=S5 (P:=P) hb;lia
theorem SI.step(hR:Reach rs)(s:SI rs P T){k:Nat}(hk:k<rs.length)(h0:T k=0):SI rs (Dj P (way rs k) (take1 rs P k)) (fset T k (take1 rs P k)):=by
 obtain⟨a,b,c⟩:=s.take hR hk;refine⟨?_,λi=>?_,λi=>?_,λi hi=>?_⟩
 ·rw[ZMl hR hk h0,<-s.pg]
 ·simp only[fset];split
  ·exact a
  ·exact s.t0 i
 ·simp only[fset];split
  ·rename_i e;rw[e];exact b
  ·exact s.tn i
 ·simp only[Dj];split
  ·rename_i hm;have:=c i hm;lia
  ·exact s.p0 i hi
theorem SI.run(hR:Reach rs):∀(ks:List Nat)(P T:Nat->Int),SI rs P T->ks.Nodup->(∀k∈ks,k<rs.length/\T k=0)->SI rs (srv rs ks P T).1 (srv rs ks P T).2
 |[],P,T,s,_,_=>s
 |k::ks,P,T,s,nd,h=>by
  obtain⟨n1,n2⟩:=qI.mp nd;obtain⟨hk,h0⟩:=h k zW;refine SI.run hR ks _ _ (s.step hR hk h0) n2 λj hj=>?_
  obtain⟨hj1,hj2⟩:=h j (zZ _ hj);have:j≠k:=λe=>n1 (e▸hj)
  exact⟨hj1,by simp[fset,this,hj2]⟩
theorem ZG4(rs:List Row):(ord rs).Nodup:=(Wn rs).nodup_iff.mpr List.nodup_range
theorem SI.first(hR:Reach rs):SI rs (gath rs (col Row.water rs)) λ_=>0:=
 ⟨by simp,λ_=>zH _,hR.need,λi _=>ZBG _ _ _ hR.water i⟩
theorem Uz(hR:Reach rs):SI rs (srv rs (ord rs) (gath rs (col Row.water rs)) λ_=>0).1 (shr rs):=
 SI.run hR (ord rs) _ _ (SI.first hR) (ZG4 rs) λk hk=>⟨ZAM hk,rfl⟩
theorem rp:¬(("pump":Str)="river"):=by decide
theorem pr:¬(("river":Str)="pump"):=by decide
structure Stp where
 h:Int
 m:Int
 r:Bool
variable{st:List Stp}
def wy(r:Bool):Str:=if r then "river" else "pump"
def Stp.enc(s:Stp):D:=.tup [.int s.h,.int s.m,.str (wy s.r)]
@[simp]theorem ZVN{n:Nat}:bels n (st.map Stp.enc)=vF:=Ec λs _=>by simp[Stp.enc]
@[simp]theorem ZVU{r:Bool}:(wy r="river")=(r=vF):=by
 cases r
 ·exact propext ⟨λh=>absurd h rp,λh=>by cases h⟩
 ·exact propext ⟨λh=>rfl,λ_=>rfl⟩
@[simp]theorem ZVj{r:Bool}:(wy r="pump")=(r=vG):=by
 cases r
 ·exact propext ⟨λh=>rfl,λ_=>rfl⟩
 ·exact propext ⟨λh=>absurd h pr,λh=>by cases h⟩
noncomputable abbrev Ssn:=Int×List Stp
def Bp(s:Ssn):D:=.tup [.int s.1,.tup (s.2.map Stp.enc)]
@[simp]theorem ZVw{n:Nat}{ss:List Ssn}:bels n (ss.map Bp)=vF:=Ec λs _=>by simp[Bp]
def held(t:Int):List Ssn->List Stp->List Stp
 |[],h=>h
 |s::r,h=>held t r (if s.1<=t then s.2 else h)
theorem ZFG{c:D}{t:Int}{G:DH}:∀{ss:List Ssn}{h:List Stp}{a b:Option D},∃a' b',Aq (Ao 2 (Ae (gV 3) (Ae (gV 4) Aw))) Rn (ss.map Bp) [vD c,zI t,zT (h.map Stp.enc),a,b] G=
  .nx [vD c,zI t,zT ((held t ss h).map Stp.enc),a',b'] G
 |[],h,a,b=>⟨a,b,by rw[jM,Cp];rfl⟩
 | s::r,h,a,b=>by
  obtain⟨a',b',ih⟩:=ZFG (c:=c) (t:=t) (G:=G) (ss:=r) (h:=if s.1<=t then s.2 else h) (a:=zI s.1) (b:=zT (s.2.map Stp.enc));refine⟨a',b',?_⟩;have hb:Rn [vD c,zI t,zT (h.map Stp.enc),zI s.1,zT (s.2.map Stp.enc)] G=.nx [vD c,zI t,zT ((if s.1<=t then s.2 else h).map Stp.enc),zI s.1,zT (s.2.map Stp.enc)] G:=by
   unfold Rn
   by_cases h1:s.1<=t<;>simp[h1]
  rw[zw,Bu];simp only[Bp,Mg,M9,N6,Cg,R.Hu,R.By,qj,hb,Cm,zU,jW,Nat.reduceAdd,if_true];exact ih
theorem c_at{ss:List Ssn}{t:Int}:Rw [.tup (ss.map Bp),.int t] G=.ok (.tup ((held t ss []).map Stp.enc)) G:=by obtain⟨a,b,h⟩:=ZFG (c:=.tup (ss.map Bp)) (t:=t) (G:=G) (ss:=ss) (h:=[]) (a:=vE) (b:=vE);unfold Rw ZGu;rw[Ay];simp at h;simp[h,Be]
noncomputable def cub(w:Int)(s:Stp):Int:=max 0 (min s.m (w-s.h))
def rv(w:Int):List Stp->Int
 |[]=>0
 |s::r=>(if s.r then cub w s else 0)+rv w r
def pm(w:Int):List Stp->Int
 |[]=>0
 |s::r=>(if s.r then 0 else cub w s)+pm w r
theorem ZHD{c:D}{w:Int}{G:DH}:∀{st:List Stp}{a b:Int}{e f g h:Option D},∃e' f' g' h',Aq (Ao 3 (Ae (gV 4) (Ae (gV 5) (Ae (gV 6) Aw)))) V1 (st.map Stp.enc) [vD c,zI w,zI a,zI b,e,f,g,h] G=
  .nx [vD c,zI w,zI (a+rv w st),zI (b+pm w st),e',f',g',h'] G
 |[],a,b,e,f,g,h=>⟨e,f,g,h,by simp[Cp,rv,pm]⟩
 | s::r,a,b,e,f,g,h=>by
  obtain⟨e',f',g',h',ih⟩:=ZHD (c:=c) (w:=w) (G:=G) (st:=r) (a:=a+(if s.r then cub w s else 0)) (b:=b+(if s.r then 0 else cub w s)) (e:=zI s.h) (f:=zI s.m) (g:=zS (wy s.r)) (h:=zI (cub w s));refine⟨e',f',g',h',?_⟩;have hb:V1 [vD c,zI w,zI a,zI b,zI s.h,zI s.m,zS (wy s.r),h] G=.nx [vD c,zI w,zI (a+(if s.r then cub w s else 0)),zI (b+(if s.r then 0 else cub w s)),zI s.h,zI s.m,zS (wy s.r),zI (cub w s)] G:=by
   unfold V1 cub
   cases s.r<;>simp
  rw[zw,Bu];simp[Stp.enc,hb];rw[ih];simp[rv,pm,Int.add_assoc]
theorem ZDI:S9 [.tup (st.map Stp.enc),.int w] G=.ok (.tup [.int (rv w st),.int (pm w st),.int (w-rv w st-pm w st)]) G:=by obtain⟨e,f,g,h,hl⟩:=ZHD (c:=.tup (st.map Stp.enc)) (w:=w) (G:=G) (st:=st) (a:=0) (b:=0) (e:=vE) (f:=vE) (g:=vE) (h:=vE);unfold S9 ZEz;rw[Ay];simp at hl;simp[hl,Be]
inductive Kd where
 |basin (brim:Int) (rule:List Ssn) (pump:Option (Nat×Nat×Int))
 |town (need rank:Int)
 |mill (most:Int)
structure Pl where
 nm:Str
 dn:Option Nat
 dl:Nat
 kd:Kd
noncomputable def ZAD:Pl:=⟨"",vE,0,.mill 0⟩
structure Hs where
 yr:Int
 ps:List Pl
variable{h:Hs}
noncomputable def Kd.txt:Kd->Str
 |.basin ..=>"basin"
 |.town ..=>"town"
 |.mill ..=>"mill"
noncomputable def Kd.isB:Kd->Bool
 |.basin ..=>vF
 |_=>vG
noncomputable def Kd.isT:Kd->Bool
 |.town ..=>vF
 |_=>vG
def Hs.pl(h:Hs)(k:Nat):Pl:=h.ps.getD k ZAD
noncomputable def Hs.n(h:Hs):Nat:=h.ps.length
def Hs.dnT(h:Hs):Option Nat->Str
 |none=>"sea"
 |some d=>(h.pl d).nm
def Hs.Ka(h:Hs):Option (Nat×Nat×Int)->D
 |none=>.non
 |some (to,dl,m)=>.tup [.str (h.pl to).nm,.int dl,.int m]
def Hs.encP(h:Hs)(p:Pl):D:=match p.kd with
 |.basin b r q=>.tup [.str "basin",.str p.nm,.str (h.dnT p.dn),.int p.dl,.int b,.tup (r.map Bp),h.Ka q]
 |.town a b=>.tup [.str "town",.str p.nm,.str (h.dnT p.dn),.int p.dl,.int a,.int b]
 |.mill a=>.tup [.str "mill",.str p.nm,.str (h.dnT p.dn),.int p.dl,.int a]
def Hs.Cj(h:Hs):List D:=h.ps.map h.encP
def Hs.enc(h:Hs):D:=.tup [.int h.yr,.tup h.Cj]
def Good:Int->List Stp->Prop
 |_,[]=>True
 |t,s::r=>t<=s.h/\1<=s.m/\Good (s.h+s.m) r
structure GoodH (h:Hs):Prop where
 yr:0<h.yr
 len:h.n<=12
 inj:∀i j,i<h.n->j<h.n->(h.pl i).nm=(h.pl j).nm->i=j
 sea:∀i,i<h.n->(h.pl i).nm≠"sea"
 dn:∀k d,k<h.n->(h.pl k).dn=vD d->k<d/\d<h.n
 dl:∀k,k<h.n->(h.pl k).dl<=5
 pump:∀k b r to dl m,k<h.n->(h.pl k).kd=.basin b r (vD (to,dl,m))->to<h.n/\1<=dl/\dl<=5
 brim:∀k b r q,k<h.n->(h.pl k).kd=.basin b r q->0<=b/\∀s∈r,Good 0 s.2
 town:∀k a b,k<h.n->(h.pl k).kd=.town a b->0<=a/\0<=b
theorem Hs.Hl:h.Cj.length=h.n:=by simp[Hs.Cj,Hs.n]
theorem Hs.ZIh{k:Nat}(hk:k<h.n):h.Cj[k]?=vD (h.encP (h.pl k)):=by unfold Hs.Cj Hs.pl;rw[zj,zX hk];simp[zC,zX hk]
theorem Hs.Dz{k:Nat}(hk:k<h.n):atI h.Cj (k:Int)=vD (h.encP (h.pl k)):=Dk rfl (Hs.ZIh hk)
theorem Hs.ZOG{n:Nat}:bel n (h.Ka q)=vF:=by
 cases q with
 |none=>rfl
 |some x=>obtain⟨a,b,c⟩:=x;simp[Hs.Ka]
@[simp]theorem Hs.ZRL{n:Nat}{p:Pl}:bel n (h.encP p)=vF:=by
 unfold Hs.encP
 cases p.kd<;>simp[Hs.ZOG]
@[simp]theorem Hs.ZV6{n:Nat}:bels n h.Cj=vF:=Ec λ_ _=>Hs.ZRL
section
variable{h:Hs}{p:Pl}{G:DH}
@[simp]theorem encP0:Ad (h.encP p) (.int 0) G=.ok (.str p.kd.txt) G:=by
 unfold Hs.encP
 cases p.kd<;>simp[Kd.txt]
@[simp]theorem encP1:Ad (h.encP p) (.int 1) G=.ok (.str p.nm) G:=by
 unfold Hs.encP
 cases p.kd<;>simp
@[simp]theorem encP2:Ad (h.encP p) (.int 2) G=.ok (.str (h.dnT p.dn)) G:=by
 unfold Hs.encP
 cases p.kd<;>simp
@[simp]theorem encP3:Ad (h.encP p) (.int 3) G=.ok (.int p.dl) G:=by
 unfold Hs.encP
 cases p.kd<;>simp
theorem Cq:Ad h.enc (.int 1) G=.ok (.tup h.Cj) G:=by unfold Hs.enc;simp
theorem ZRf:Ad h.enc (.int 0) G=.ok (.int h.yr) G:=by unfold Hs.enc;simp
theorem Gn{k:Kd}:(k.txt="basin")=(k.isB=vF):=by cases k<;>simp[Kd.txt,Kd.isB]<;>decide
theorem Qk{k:Kd}:(k.txt="town")=(k.isT=vF):=by cases k<;>simp[Kd.txt,Kd.isT]<;>decide
end
theorem ZDN(g:GoodH h)(hd:d<h.n):∀(m k:Nat)(a b:Option D),k+m=d->
  Aq (Ao 2 (Ae (gV 2) (Ae (gV 3) Aw))) My ((Dl h.Cj).drop k) [vD h.enc,zS (h.pl d).nm,a,b] G=.rt (.int d) G
 | m,k,a,b,e=>by
  have hk:k<h.n:=by lia
  have e0:(Dl h.Cj).drop k=.tup [.int k,h.encP (h.pl k)]::(Dl h.Cj).drop (k+1):=by rw[qQ (by rw[Ik,Hs.Hl];exact hk)];have:=Hs.ZIh hk;rw[zX (by rw[Hs.Hl];exact hk)]at this;have e2:=Option.some.inj this;simp[Dl,e2]
  rw[e0,Bu];cases m with
  |zero=>
   have e1:k=d:=by lia
   subst e1;have hb:My [vD h.enc,zS (h.pl k).nm,zI k,vD (h.encP (h.pl k))] G=.rt (.int k) G:=by unfold My;simp
   simp[hb]
  |succ m=>
   have hne:(h.pl k).nm≠(h.pl d).nm:=λz=>by have:=g.inj k d hk hd z;lia
   have hb:My [vD h.enc,zS (h.pl d).nm,zI k,vD (h.encP (h.pl k))] G=.nx [vD h.enc,zS (h.pl d).nm,zI k,vD (h.encP (h.pl k))] G:=by unfold My;simp[hne]
   simp[hb];exact ZDN g hd m (k+1) _ _ (by lia)
theorem ZFe(g:GoodH h)(hd:d<h.n)(G:DH):Nu [h.enc,.str (h.pl d).nm] G=.ok (.int d) G:=by have hL:=ZDN g hd (G:=G) d 0 vE vE (by lia);rw[xY]at hL;unfold Nu ZJK;rw[Ay];simp[Cq,Ez,Ir,lenOf,hL,Be]
def Hs.dn(h:Hs)(k:Nat):Option Nat:=(h.pl k).dn
theorem Kr(g:GoodH h){k:Nat}(hk:k<h.n)(G:DH):Q5 [h.enc,.int k] G=.ok (dnD (h.dn k)) G:=by
 unfold Q5 ZJs;rw[Ay];cases hd:h.dn k with
 |none=>
  have e:(h.pl k).dn=vE:=hd;simp[Cq,Hs.Dz hk,e,Hs.dnT,dnD,Be]
 |some d=>
  have e:(h.pl k).dn=vD d:=hd;have hl:=g.dn k d hk e;simp[Cq,Hs.Dz hk,e,Hs.dnT,g.sea d hl.2,ZFe g hl.2,dnD,Be]
def Hs.dir(h:Hs)(k:Nat):Option Nat:=match h.dn k with
 |none=>vE
 |some d=>if 0<(h.pl k).dl∨(h.pl k).kd.isB=vF∨(h.pl d).kd.isB=vF then vE else vD d
theorem Ms(g:GoodH h){k:Nat}(hk:k<h.n)(G:DH):Om [h.enc,.int k] G=.ok (dnD (h.dir k)) G:=by
 unfold Om ZJX;rw[Ay];cases hd:h.dn k with
 |none=>simp[Cq,Kr g hk,hd,Hs.dir,dnD,Be]
 | some d=>
  have hl:=g.dn k d hk hd;by_cases h1:0<(h.pl k).dl
  ·simp[Cq,Kr g hk,hd,Hs.dir,dnD,Be,Hs.Dz hk,h1]
  ·by_cases h2:(h.pl k).kd.isB=vF
   ·simp[Cq,Kr g hk,hd,Hs.dir,dnD,Be,Hs.Dz hk,h1,Gn,h2]
   ·by_cases h3:(h.pl d).kd.isB=vF
    ·simp[Cq,Kr g hk,hd,Hs.dir,dnD,Be,Hs.Dz hk,Hs.Dz hl.2,h1,Gn,h2,h3]
    ·simp[Cq,Kr g hk,hd,Hs.dir,dnD,Be,Hs.Dz hk,Hs.Dz hl.2,h1,Gn,h2,h3]
theorem ZNC(g:GoodH h){k:Nat}(hk:k<h.n)(e:h.dir k=vD d):k<d/\d<h.n:=by
 unfold Hs.dir at e;cases hd:h.dn k with
 |none=>rw[hd]at e;cases e
 |some d'=>
  rw[hd]at e;simp only at e;split at e
  ·cases e
  ·cases e;exact g.dn k d hk hd
theorem ZQ3{k:Nat}(hk:¬k<h.n):h.pl k=ZAD:=by
 unfold Hs.pl;rw[zC,zy (by unfold Hs.n at hk;lia)]
 rfl
theorem Ml{k:Nat}(hk:¬k<h.n):h.dir k=vE:=by
 have e:h.dn k=vE:=by unfold Hs.dn;rw[ZQ3 hk];rfl
 unfold Hs.dir;rw[e]
theorem Jq(g:GoodH h){k:Nat}(e:h.dir k=vD d):k<d/\d<h.n/\k<h.n:=by
 by_cases hk:k<h.n
 ·have:=ZNC g hk e;lia
 ·rw[Ml hk]at e;cases e
def Hs.Ie(h:Hs):Nat->Nat->Nat
 |0,k=>k
 |m+1,k=>match h.dir k with
  |none=>k
  |some d=>h.Ie m d
def Hs.last(h:Hs)(k:Nat):Nat:=h.Ie h.n k
theorem ZAz(g:GoodH h):∀(m m' k:Nat),h.n<=m+k->h.n<=m'+k->h.Ie m k=h.Ie m' k
 |0,m',k,e,e'=>by
  have hn:h.dir k=vE:=Ml (by lia);cases m' with
  |zero=>rfl
  |succ m'=>simp[Hs.Ie,hn]
 |m+1,0,k,e,e'=>by have hn:h.dir k=vE:=Ml (by lia);simp[Hs.Ie,hn]
 | m+1,m'+1,k,e,e'=>by
  cases hd:h.dir k with
  |none=>simp[Hs.Ie,hd]
  |some d=>
   have:=Jq g hd;simp[Hs.Ie,hd,ZAz g m m' d (by lia) (by lia)]
theorem H8(g:GoodH h){k:Nat}(e:h.dir k=vE):h.last k=k:=by unfold Hs.last;rw[ZAz g h.n (h.n+1) k (by lia) (by lia)];simp[Hs.Ie,e]
theorem Lg(g:GoodH h){k:Nat}(e:h.dir k=vD d):h.last k=h.last d:=by unfold Hs.last;rw[ZAz g h.n (h.n+1) k (by lia) (by lia)];simp[Hs.Ie,e]
theorem ZDJ(g:GoodH h):∀(m k:Nat),h.n<=m+k->k<=h.last k/\(k<h.n->h.last k<h.n)
 |0,k,e=>by rw[H8 g (Ml (by lia))];lia
 | m+1,k,e=>by
  cases hd:h.dir k with
  |none=>rw[H8 g hd];lia
  |some d=>
   have:=Jq g hd;rw[Lg g hd];have:=ZDJ g m d (by lia);lia
theorem Hy(g:GoodH h)(k:Nat):k<=h.last k/\(k<h.n->h.last k<h.n):=ZDJ g h.n k (by lia)
def Hs.Fv(h:Hs)(j:Nat):Nat->Int:=λi=>if j<=i then h.last i else i
theorem ZGB(g:GoodH h){G:DH}:∀(j:Nat)(x y:Option D),j<=h.n->∃x' y',
  Aq (gV 2) Rp (J0 ((j:Int)-1) j) [vD h.enc,zR G.length,x,y] (G++[.lst (tab h.n (h.Fv j))])=.nx [vD h.enc,zR G.length,x',y'] (G++[.lst (tab h.n (h.Fv 0))])
 |0,x,y,e=>⟨x,y,by rw[ZLH,Cp]⟩
 | j + 1,x,y,e=>by
  have hj:j<h.n:=by lia
  obtain⟨x',y',ih⟩:=ZGB g (G:=G) j (zI j) (vD (dnD (h.dir j))) (by lia);refine⟨x',y',?_⟩;have e1:(((j+1:Nat):Int)-1)=j:=by lia
  have hb:Rp [vD h.enc,zR G.length,zI j,y] (G++[.lst (tab h.n (h.Fv (j+1)))])=.nx [vD h.enc,zR G.length,zI j,vD (dnD (h.dir j))] (G++[.lst (tab h.n (h.Fv j))]):=by
   unfold Rp;cases hd:h.dir j with
   | none=>
    have et:tab h.n (h.Fv (j+1))=tab h.n (h.Fv j):=ZGU λi hi=>by
     unfold Hs.Fv;by_cases e2:i=j
     ·subst e2;rw[H8 g hd];simp
     ·by_cases e3:j<=i
      ·rw[if_pos e3,if_pos (by lia)]
      ·rw[if_neg e3,if_neg (by lia)]
    simp[Ms g hj,hd,dnD,et]
   | some d=>
    have hl:=Jq g hd;have et:tab h.n (fset (h.Fv (j+1)) j (h.Fv (j+1) d))=tab h.n (h.Fv j):=ZGU λi hi=>by
     unfold Hs.Fv fset;by_cases e2:i=j
     ·subst e2;rw[if_pos rfl,if_pos (by lia),if_pos (by lia),Lg g hd]
     ·rw[if_neg e2];dsimp only;by_cases e3:j<=i
      ·rw[if_pos e3,if_pos (by lia)]
      ·rw[if_neg e3,if_neg (by lia)]
    simp[Ms g hj,hd,dnD,Cv,Dy hl.2.1,Ea,Hg,hj,Nh,et]
  rw[e1,ZUU,Bu];simp only[Cg,R.By,qj,hb,Cm];exact ih
theorem ZTr(g:GoodH h)(G:DH):V9 [h.enc] G=.ok (.ref G.length) (G++[.lst (tab h.n λi=>(h.last i:Int))]):=by
 obtain⟨x',y',hL⟩:=ZGB g (G:=G) h.n vE vE (zK _);have e0:tab h.n (h.Fv h.n)=Bg 0 h.n:=by
  unfold tab Bg;refine qw λi hi=>?_
  have:=qq.mp hi;unfold Hs.Fv;rw[if_neg (by lia)];simp
 have e1:h.Fv 0=λi=>(h.last i:Int):=by funext i;unfold Hs.Fv;simp
 rw[e0,e1]at hL;have hn:=g.len;have r1:inR (h.n:Int):=Ef (by lia) (by lia);have r2:inR ((h.n:Int)-1):=Ef (by lia) (by lia);have r3:inR (-1):=Ef (by lia) (by lia);have e2:((h.n:Int)-1 - -1).toNat=h.n:=by lia
 have h6:(h.n:Int)<=1000000:=by lia
 have ebr:bels G.length (Bg 0 h.n)=vF:=Ec λ_ _=>rfl
 unfold V9 ZD8;rw[Ay];simp[Cq,Hs.Hl,r1,h6,Ds ebr,r2,r3,ZJ2,e2,hL,Ds]
def Hs.mem(h:Hs)(m:Nat):List Nat:=(zQ h.n).filter λk=>decide (h.last k=m)
theorem mem_iff{k:Nat}:k∈h.mem m↔k<h.n/\h.last k=m:=by unfold Hs.mem;rw[List.mem_filter,qq];simp
theorem Qp:(h.mem m).Pairwise (· < ·):=List.Pairwise.filter _ List.pairwise_lt_range
theorem ZEd:(h.mem m).length<=h.n:=by have:=List.length_filter_le (λk=>decide (h.last k=m)) (zQ h.n);simpa[Hs.mem]using this
theorem ZTc(hs:ms.Pairwise (· < ·))(hi:i<ms.length)(hj:j<ms.length)(h:ms[i]<ms[j]):i<j:=by
 rcases Nat.lt_trichotomy i j with z|z|z
 ·exact z
 ·subst z;lia
 ·have:=j4.mp hs j i hj hi z;lia
theorem ZFh(g:GoodH h)(hm:m<h.n)(e:h.last m=m):(h.mem m).getLast?=vD m:=by
 have hmem:m∈h.mem m:=mem_iff.mpr ⟨hm,e⟩;have hne:h.mem m≠[]:=λz=>by rw[z]at hmem;cases hmem
 rw[List.getLast?_eq_some_getLast hne]
 congr 1
 have h1:=mem_iff.mp (List.getLast_mem hne);have h2:=(Hy g ((h.mem m).getLast hne)).1;obtain⟨i,hi,ei⟩:=qD hmem;have h3:m<=(h.mem m).getLast hne:=by
  rw[List.getLast_eq_getElem];by_cases e4:i=(h.mem m).length-1
  ·subst e4;lia
  ·have:=j4.mp (Qp (h:=h) (m:=m)) i ((h.mem m).length-1) hi (by lia) (by lia);lia
 lia
def Hs.need(h:Hs)(k:Nat):Int:=match(h.pl k).kd with
 |.town a _=>a
 |_=>0
def Hs.rank(h:Hs)(k:Nat):Int:=match(h.pl k).kd with
 |.town _ b=>b
 |_=>0
def Hs.row(h:Hs)(ms:List Nat)(ca:Nat->Int)(k:Nat):Row:=⟨(h.dir k).map λd=>ms.idxOf d,ca k,h.need k,h.rank k⟩
def Hs.rows(h:Hs)(ms:List Nat)(ca:Nat->Int):List Row:=ms.map (h.row ms ca)
theorem idx_map(d:Nat):∀ms:List Nat,(ms.map λ(i:Nat)=>(i:Int)).idxOf (d:Int)=ms.idxOf d
 |[]=>rfl
 | m::ms=>by
  rw[zw,List.idxOf_cons,List.idxOf_cons,idx_map d ms];by_cases e:m=d
  ·subst e;simp
  ·have e2:¬((m:Int)=d):=by lia
   have b1:((m:Int)==(d:Int))=vG:=by simp[e2]
   have b2:(m==d)=vG:=by simp[e]
   rw[b1,b2]
theorem ZEu(g:GoodH h)(hm:∀k∈ms,k<h.n/\∀d,h.dir k=vD d->d∈ms)(hl:ms.length<=40)(hp:G[p]?=vD (.lst (tab h.n ca))):∀(ks:List Nat)(acc:List Row)(x1 x2 x3 x4:Option D),(∀k∈ks,k∈ms)->acc.length+ks.length<=40->∃y1 y2 y3 y4,
  Aq (gV 4) P0 (Ar ks) [vD h.enc,zF (Ar ms),zR p,zR G.length,x1,x2,x3,x4] (G++[.lst (acc.map Row.enc)])=
   .nx [vD h.enc,zF (Ar ms),zR p,zR G.length,y1,y2,y3,y4] (G++[.lst ((acc++ks.map (h.row ms ca)).map Row.enc)])
 |[],acc,x1,x2,x3,x4,_,_=>⟨x1,x2,x3,x4,by simp[Ar,Cp]⟩
 | k::ks,acc,x1,x2,x3,x4,hk,ha=>by
  obtain⟨hkn,hkd⟩:=hm k (hk k zW);obtain⟨y1,y2,y3,y4,ih⟩:=ZEu g hm hl hp ks (acc++[h.row ms ca k]) (zI k) (vD (h.encP (h.pl k))) (vD (dnD (h.dir k))) (vD (dnD ((h.dir k).map λd=>ms.idxOf d))) (λj hj=>hk j (zZ _ hj)) (by simp at ha⊢;lia);refine⟨y1,y2,y3,y4,?_⟩;have hpl:p<G.length:=(zG.mp hp).1;have hgp:∀L:DH,(G++L)[p]?=vD (.lst (tab h.n ca)):=λL=>by rw[qX hpl];exact hp
  have ha2:acc.length<1000000:=by simp at ha;lia
  have ht:h.row ms ca k=⟨(h.dir k).map λd=>ms.idxOf d,ca k,h.need k,h.rank k⟩:=rfl;have hb:P0 [vD h.enc,zF (Ar ms),zR p,zR G.length,zI k,x2,x3,x4] (G++[.lst (acc.map Row.enc)])=
    .nx [vD h.enc,zF (Ar ms),zR p,zR G.length,zI k,vD (h.encP (h.pl k)),vD (dnD (h.dir k)),vD (dnD ((h.dir k).map λd=>ms.idxOf d))] (G++[.lst ((acc++[h.row ms ca k]).map Row.enc)]):=by
   have hix:∀d,h.dir k=vD d->∀G',Iu (.fl (Ar ms)) [.int (d:Int)] G'=.ok (.int (ms.idxOf d:Nat)) G':=λd hd G'=>by
    have e:Ar ms=(ms.map λ(i:Nat)=>(i:Int)).map D.int:=by simp[Ar]
    rw[e,ZIz (ns:=ms.map λ(i:Nat)=>(i:Int)) (by simp[Gj]) (zM.mpr ⟨d,hkd d hd,rfl⟩) (by simp;lia),idx_map]
   unfold P0;by_cases hT:(h.pl k).kd.isT=vF
   ·obtain⟨a,b,ek⟩:∃a b,(h.pl k).kd=.town a b:=by
     cases e:(h.pl k).kd with
     |town a b=>exact⟨a,b,rfl⟩
     |basin _ _ _=>rw[e]at hT;cases hT
     |mill _=>rw[e]at hT;cases hT
    have e4:∀G',Ad (h.encP (h.pl k)) (.int 4) G'=.ok (.int a) G':=λG'=>by unfold Hs.encP;rw[ek];simp
    have e5:∀G',Ad (h.encP (h.pl k)) (.int 5) G'=.ok (.int b) G':=λG'=>by unfold Hs.encP;rw[ek];simp
    have en:h.need k=a:=by unfold Hs.need;rw[ek]
    have er:h.rank k=b:=by unfold Hs.rank;rw[ek]
    cases hd:h.dir k with
    |none=>simp[Cq,Hs.Dz hkn,Ms g hkn,hd,dnD,Qk,hT,hgp,Dy hkn,e4,e5,An,Cv,Ea,ha2,ht,Row.enc,en,er]
    |some d=>simp[Cq,Hs.Dz hkn,Ms g hkn,hd,dnD,hix d hd,Qk,hT,hgp,Dy hkn,e4,e5,An,Cv,Ea,ha2,ht,Row.enc,en,er]
   ·have en:h.need k=0:=by
     unfold Hs.need;cases e:(h.pl k).kd with
     |town a b=>rw[e]at hT;exact absurd rfl hT
     |basin _ _ _=>rfl
     |mill _=>rfl
    have er:h.rank k=0:=by
     unfold Hs.rank;cases e:(h.pl k).kd with
     |town a b=>rw[e]at hT;exact absurd rfl hT
     |basin _ _ _=>rfl
     |mill _=>rfl
    cases hd:h.dir k with
    |none=>simp[Cq,Hs.Dz hkn,Ms g hkn,hd,dnD,Qk,hT,hgp,Dy hkn,An,Cv,Ea,ha2,ht,Row.enc,en,er]
    |some d=>simp[Cq,Hs.Dz hkn,Ms g hkn,hd,dnD,hix d hd,Qk,hT,hgp,Dy hkn,An,Cv,Ea,ha2,ht,Row.enc,en,er]
  show Aq _ _ (.int k::Ar ks) _ _=_;rw[Bu];simp only[Cg,R.By,qj,hb,Cm];rw[ih];simp
theorem ZLW(g:GoodH h)(hm:∀k∈ms,k<h.n/\∀d,h.dir k=vD d->d∈ms)(hl:ms.length<=40)(hp:G[p]?=vD (.lst (tab h.n ca))):
  Qn [h.enc,.fl (Ar ms),.ref p] G=.ok (.ref G.length) (G++[.lst ((h.rows ms ca).map Row.enc)]):=by
 obtain⟨y1,y2,y3,y4,hL⟩:=ZEu g hm hl hp ms [] vE vE vE vE (λk hk=>hk) (by simpa using hl);have hL':Aq (gV 4) P0 (Ar ms) [vD h.enc,zF (Ar ms),zR p,zR G.length,vE,vE,vE,vE] (G++[.lst []])=.nx [vD h.enc,zF (Ar ms),zR p,zR G.length,y1,y2,y3,y4] (G++[.lst ((h.rows ms ca).map Row.enc)]):=hL;unfold Qn ZGi;rw[Ay];simp[Ah,Ds,hL']
theorem Mt(g:GoodH h)(hc:∀k,k<h.n->0<=ca k):Reach (h.rows (h.mem m) ca):=λi r hr=>by
 have hil:i<(h.mem m).length:=by have:=(zG.mp hr).1;simpa[Hs.rows]using this
 have e:r=h.row (h.mem m) ca (h.mem m)[i]:=by unfold Hs.rows at hr;rw[zj,zX hil]at hr;simpa using hr.symm
 obtain⟨hk,hlast⟩:=mem_iff.mp (q8 hil);subst e;refine⟨λd hd=>?_,hc _ hk,?_,?_⟩
 ·have hd':(h.dir (h.mem m)[i]).map (λd=>(h.mem m).idxOf d)=vD d:=hd;cases e:h.dir (h.mem m)[i]with
  |none=>rw[e]at hd';cases hd'
  |some d0=>
   rw[e]at hd';have ed:(h.mem m).idxOf d0=d:=by simpa using hd'
   have hl:=Jq g e;have hmem:d0∈h.mem m:=mem_iff.mpr ⟨hl.2.1,by rw[<-Lg g e];exact hlast⟩;have hlt:=qF hmem;have hg:(h.mem m)[(h.mem m).idxOf d0]=d0:=jL hlt;subst ed;refine⟨ZTc Qp hil hlt (by rw[hg];exact hl.1),by simpa[Hs.rows]using hlt⟩
 ·show 0<=h.need _;unfold Hs.need;cases e:(h.pl (h.mem m)[i]).kd with
  |town a b=>exact(g.town _ a b hk e).1
  |basin _ _ _=>exact zH _
  |mill _=>exact zH _
 ·show 0<=h.rank _;unfold Hs.rank;cases e:(h.pl (h.mem m)[i]).kd with
  |town a b=>exact(g.town _ a b hk e).2
  |basin _ _ _=>exact zH _
  |mill _=>exact zH _
structure Cs where
 came:Nat->Int
 coming:Nat->Nat->Int
 page:Nat->List Int
 rea:List D
variable{s s':Cs}
noncomputable def Il(l:List Int):D:=match l with
 |[]=>.non
 |_=>.tup (l.map D.int)
@[simp]theorem ZO9{n:Nat}:bel n (Il l)=vF:=by
 cases l with
 |nil=>rfl
 |cons a l=>simp only[Il,_D.bel];exact ZFN
noncomputable def cfl(ds:List D):List (Str×D):=(["house","levels","year_turn","came","coming","page","reaches"]:List Str).zip ds
def cflds(i n:Nat)(H LV:D)(yt:Int):List (Str×D):=cfl [H,LV,.int yt,.ref (i+1),.ref (i+(2+n)),.ref (i+(3+n)),.ref (i+(4+n))]
def Ci(n:Nat)(pg:Nat->List Int):List D:=(zQ n).map λk=>Il (pg k)
def Dq(i n:Nat):List D:=(zQ n).map λk=>D.ref (i+(2+k))
def csT(i n:Nat)(H LV:D)(yt:Int)(s:Cs):DH:=.ins "Course" (cflds i n H LV yt):: .lst (tab n s.came)::((zQ n).map (λk=>DO.lst (tab 5 (s.coming k)))++[.lst (Dq i n),.lst (Ci n s.page),.lst s.rea])
def csH(G:DH)(n:Nat)(H LV:D)(yt:Int)(s:Cs):DH:=G++csT G.length n H LV yt s
theorem ZRG{n:Nat}{yt:Int}:(csT i n H LV yt s).length=n+5:=by simp[csT]
theorem ZEJ{n:Nat}{yt:Int}:(csH G n H LV yt s).length=G.length+(n+5):=by unfold csH;rw[qz,ZRG]
section
variable{G:DH}{n:Nat}{H LV:D}{yt:Int}{s:Cs}
theorem M5(j:Nat):(csH G n H LV yt s)[G.length+j]?=(csT G.length n H LV yt s)[j]? :=S7 _ j
theorem J6:(csH G n H LV yt s)[G.length]?=vD (.ins "Course" (cflds G.length n H LV yt)):=M5 0
theorem Nx:(csH G n H LV yt s)[G.length+1]?=vD (.lst (tab n s.came)):=M5 1
theorem Tc:(csT i n H LV yt s)[2+j]?=((zQ n).map (λk=>DO.lst (tab 5 (s.coming k)))++[.lst (Dq i n),.lst (Ci n s.page),.lst s.rea])[j]? :=by
 have e:2+j=j+1+1:=by lia
 rw[e]
 rfl
theorem Z4{k:Nat}(hk:k<n):(csH G n H LV yt s)[G.length+(2+k)]?=vD (.lst (tab 5 (s.coming k))):=by
 rw[M5,Tc,qX (by simpa using hk),zj,zP hk]
 rfl
theorem Ti:(csH G n H LV yt s)[G.length+(2+n)]?=vD (.lst (Dq G.length n)):=by rw[M5,Tc,zL (by simp)];simp
theorem K1:(csH G n H LV yt s)[G.length+(3+n)]?=vD (.lst (Ci n s.page)):=by
 have e:3+n=2+(n+1):=by lia
 rw[e,M5,Tc,zL (by simp)];simp
theorem csHe:(csH G n H LV yt s)[G.length+(4+n)]?=vD (.lst s.rea):=by
 have e:4+n=2+(n+2):=by lia
 rw[e,M5,Tc,zL (by simp)];simp
theorem Vb(j:Nat)(o:DO):(csH G n H LV yt s).set (G.length+j) o=G++(csT G.length n H LV yt s).set j o:=Zf _ j o
theorem csS1:(csH G n H LV yt s).set (G.length+1) (.lst (tab n ca))=csH G n H LV yt {s with came:=ca}:=Vb 1 _
def upd2(co:Nat->Nat->Int)(k:Nat)(r:Nat->Int):Nat->Nat->Int:=λi=>if i=k then r else co i
theorem ZAO{o:DO}:(csT i n H LV yt s).set (2+j) o=.ins "Course" (cflds i n H LV yt):: .lst (tab n s.came)::((zQ n).map (λk=>DO.lst (tab 5 (s.coming k)))++[DO.lst (Dq i n),DO.lst (Ci n s.page),DO.lst s.rea]).set j o:=by
 have e:2+j=j+1+1:=by lia
 rw[e]
 rfl
theorem csSr{k:Nat}(hk:k<n){r:Nat->Int}:(csH G n H LV yt s).set (G.length+(2+k)) (.lst (tab 5 r))=csH G n H LV yt {s with coming:=upd2 s.coming k r}:=by
 rw[Vb,ZAO,List.set_append_left _ _ (by simpa using hk)];unfold csH csT
 congr 3
 congr 1
 refine jC λi=>?_
 by_cases hi:i<n
 ·by_cases e:k=i
  ·subst e;rw[jv (by simpa using hi),zj,zP hi];simp[upd2]
  ·rw[jX e,zj,zP hi,zj,zP hi];have:i≠k:=λz=>e z.symm
   simp[upd2,this]
 ·rw[zy (by simp;lia),zy (by simp;lia)]
theorem U8:(csH G n H LV yt s).set (G.length+(3+n)) (.lst (Ci n pg))=csH G n H LV yt {s with page:=pg}:=by
 have e:3+n=2+(n+1):=by lia
 rw[e,Vb,ZAO,jU _ _ (by simp)];unfold csH csT;simp
theorem csSe{re:List D}:(csH G n H LV yt s).set (G.length+(4+n)) (.lst re)=csH G n H LV yt {s with rea:=re}:=by
 have e:4+n=2+(n+2):=by lia
 rw[e,Vb,ZAO,jU _ _ (by simp)];unfold csH csT;simp
theorem Jb:I9 "Course" "house" (.ref G.length) (csH G n H LV yt s)=.ok H (csH G n H LV yt s):=Lp J6 rfl
theorem ZIJ:I9 "Course" "levels" (.ref G.length) (csH G n H LV yt s)=.ok LV (csH G n H LV yt s):=Lp J6 rfl
theorem ZET:I9 "Course" "year_turn" (.ref G.length) (csH G n H LV yt s)=.ok (.int yt) (csH G n H LV yt s):=Lp J6 rfl
theorem S8:I9 "Course" "came" (.ref G.length) (csH G n H LV yt s)=.ok (.ref (G.length+1)) (csH G n H LV yt s):=Lp J6 rfl
theorem ZHa:I9 "Course" "coming" (.ref G.length) (csH G n H LV yt s)=.ok (.ref (G.length+(2+n))) (csH G n H LV yt s):=Lp J6 rfl
theorem M6:I9 "Course" "page" (.ref G.length) (csH G n H LV yt s)=.ok (.ref (G.length+(3+n))) (csH G n H LV yt s):=Lp J6 rfl
theorem ZMF:I9 "Course" "reaches" (.ref G.length) (csH G n H LV yt s)=.ok (.ref (G.length+(4+n))) (csH G n H LV yt s):=Lp J6 rfl
theorem J7{m:Str}{F:List D->DH->R D}{t:DA}(hm:∀i,(cflds i n H LV yt).lookup m=vE):V4 "Course" m F t S (.ref G.length) (csH G n H LV yt s)=(t S (csH G n H LV yt s)).bind λds G2=>F (.ref G.length::ds) G2:=ZUv J6 (hm _)
theorem ZJQ:∀i,(cflds i n H LV yt).lookup ("send":Str)=vE:=λ_=>rfl
theorem ZAu:∀i,(cflds i n H LV yt).lookup ("send_down":Str)=vE:=λ_=>rfl
theorem ZOU:∀i,(cflds i n H LV yt).lookup ("go_basin":Str)=vE:=λ_=>rfl
theorem ZLe:∀i,(cflds i n H LV yt).lookup ("go_reach":Str)=vE:=λ_=>rfl
theorem ZND:∀i,(cflds i n H LV yt).lookup ("go":Str)=vE:=λ_=>rfl
theorem ZQT:∀i,(cflds i n H LV yt).lookup ("state_behind":Str)=vE:=λ_=>rfl
theorem Jz{d:D}(hb:∀m,bel m d=vF):tidy (csH G n H LV yt s) (.ok d (csH G n H LV yt s'))=.ok d (csH G n H LV yt s'):=ZO5 (by rw[ZEJ,ZEJ]) (hb _)
theorem ZSW{k:Nat}(hk:k<n):atI (Dq i n) (k:Int)=zR (i+(2+k)):=Dk rfl (by unfold Dq;rw[zj,zP hk];rfl)
theorem ZNx{k:Nat}:(Ci n pg).set k (Il l)=Ci n λi=>if i=k then l else pg i:=by
 unfold Ci;refine jC λi=>?_
 by_cases hi:i<n
 ·by_cases e:k=i
  ·subst e;rw[jv (by simpa using hi),zj,zP hi];simp
  ·rw[jX e,zj,zP hi,zj,zP hi];have:i≠k:=λz=>e z.symm
   simp[this]
 ·rw[zy (by simp;lia),zy (by simp;lia)]
@[simp]theorem ZPq:(Ci n pg).length=n:=by simp[Ci]
def Cs.send(s:Cs)(to dl:Nat)(c:Int):Cs:=if dl=0 then{s with came:=fset s.came to (s.came to+c)}else{s with coming:=upd2 s.coming to (fset (s.coming to) (dl-1) (s.coming to (dl-1)+c))}
theorem ZIR(ht:to<n)(hd:dl<=5):O4 [.ref G.length,.int to,.int dl,.int c] (csH G n H LV yt s)=.ok .non (csH G n H LV yt (s.send to dl c)):=by
 unfold O4 ZFb;rw[Ay];by_cases h0:dl=0
 ·subst h0;simp[S8,Vc Nx (Dy ht),Nx,Hg,ht,Nh,csS1,Cs.send,Jz]
 ·have e:((dl:Int)-1)=((dl-1:Nat):Int):=by lia
  have h1:dl-1<5:=by lia
  simp[h0,ZHa,Ti,ZSW ht,e,Vc (Z4 ht) (Dy h1),Z4 ht,Hg,h1,Nh,csSr ht,Cs.send,Jz]
end
def Hs.Ek(h:Hs)(s:Cs)(k:Nat)(c:Int):Cs:=match h.dn k with
 |none=>s
 |some d=>s.send d (h.pl k).dl c
section
variable{G:DH}{h:Hs}{lv:Nat->Int}{yt:Int}{s:Cs}
theorem Xe(g:GoodH h){k:Nat}(hk:k<h.n):Oh [.ref G.length,.int k,.int c] (csH G h.n h.enc LV yt s)=.ok .non (csH G h.n h.enc LV yt (h.Ek s k c)):=by
 unfold Oh ZGt;rw[Ay];cases hd:h.dn k with
 |none=>simp[Jb,Kr g hk,hd,dnD,Hs.Ek,Jz]
 |some d=>
  have hl:=g.dn k d hk hd;simp[Jb,Kr g hk,hd,dnD,J7 ZJQ,Cq,Hs.Dz hk,ZIR hl.2 (g.dl k hk),Hs.Ek,Jz]
theorem Ul{n:Nat}{k:Nat}{b d e f:Int}:(Ci n pg).set k (.tup [.int a,.int b,.int c,.int d,.int e,.int f])=Ci n λi=>if i=k then[a,b,c,d,e,f]else pg i:=ZNx (l:=[a,b,c,d,e,f])
def Hs.basin(h:Hs)(yt:Int)(lv:Nat->Int)(s:Cs)(k:Nat):Cs:=match(h.pl k).kd with
 |.basin brim rule pump=>
  let w:=lv k+s.came k;let st:=held yt rule [];let stays:=w-rv w st-pm w st;let lies:=min stays brim;let s1:Cs:={s with page:=λi=>if i=k then[s.came k,0,stays-lies,rv w st,pm w st,lies]else s.page i};let s2:=h.Ek s1 k (rv w st+(stays-lies))
  match pump with
  |none=>s2
  |some (to,dl,_)=>s2.send to dl (pm w st)
 |_=>s
theorem ZPe(g:GoodH h){k:Nat}(hk:k<h.n)(hB:(h.pl k).kd.isB=vF):Ss [.ref G.length,.int k] (csH G h.n h.enc (.tup (tab h.n lv)) yt s)=.ok .non (csH G h.n h.enc (.tup (tab h.n lv)) yt (h.basin yt lv s k)):=by
 obtain⟨brim,rule,pump,ek⟩:∃a b c,(h.pl k).kd=.basin a b c:=by
  cases e:(h.pl k).kd with
  |basin a b c=>exact⟨a,b,c,rfl⟩
  |town _ _=>rw[e]at hB;cases hB
  |mill _=>rw[e]at hB;cases hB
 have e4:∀G',Ad (h.encP (h.pl k)) (.int 4) G'=.ok (.int brim) G':=λG'=>by unfold Hs.encP;rw[ek];simp
 have e5:∀G',Ad (h.encP (h.pl k)) (.int 5) G'=.ok (.tup (rule.map Bp)) G':=λG'=>by unfold Hs.encP;rw[ek];simp
 have e6:∀G',Ad (h.encP (h.pl k)) (.int 6) G'=.ok (h.Ka pump) G':=λG'=>by unfold Hs.encP;rw[ek];simp
 simp only[Hs.basin,ek];unfold Ss ZHL;rw[Ay];cases hp:pump with
 |none=>simp[Jb,Cq,Hs.Dz hk,S8,Nx,Dy hk,e5,ZET,c_at,ZIJ,ZDI,e4,An,M6,K1,Hg,hk,Ul,U8,J7 ZAu,Xe g hk,e6,hp,Hs.Ka,Jz]
 |some q=>
  obtain⟨to,dl,mo⟩:=q;have hl:=g.pump k brim rule to dl mo hk (by rw[ek,hp]);simp[Jb,Cq,Hs.Dz hk,S8,Nx,Dy hk,e5,ZET,c_at,ZIJ,ZDI,e4,An,M6,K1,Hg,hk,Ul,U8,J7 ZAu,Xe g hk,e6,hp,Hs.Ka,J7 ZJQ,ZFe g hl.1,ZIR hl.1 hl.2.2,Jz]
end
noncomputable def z3(ms:List Nat)(T L:Nat->Int):List D:=(zQ ms.length).map λi=>D.tup [.int (ms.getD i 0:Nat),.int (T i),.int (L i)]
theorem ZPT{L:Nat->Int}(j:Nat)(G:DH):Ew [.fl (Ar ms),.fl (tab ms.length T),.fl (tab ms.length L)] j G=vD (z3 ms T L)[j]? :=by
 unfold Ew z3;by_cases hj:j<ms.length
 ·have e1:(Ar ms)[j]?=zI (ms.getD j 0:Nat):=by unfold Ar;rw[zj,zX hj];simp[zC,zX hj]
  simp[Gq,e1,Kc hj,zP hj]
 ·have e1:(Ar ms)[j]?=vE:=zy (by simp;lia);have e2:(zQ ms.length)[j]?=vE:=zy (by simp;lia);simp[Gq,e1,e2]
noncomputable def rrow(T L:Nat->Int)(i:Nat):List Int:=[T i+L i,T i,0,L i,0,0]
def pgM(ms:List Nat)(T L:Nat->Int)(pg:Nat->List Int)(i:Nat):Nat->List Int:=λk=>if k∈ms.take i then rrow T L (ms.idxOf k)else pg k
theorem ZOn{L:Nat->Int}:pgM ms T L pg 0=pg:=by funext k;simp[pgM]
theorem ZIY(nd:ms.Nodup)(hi:i<ms.length)(hj:j<ms.length)(e:ms[i]=ms[j]):i=j:=by
 rcases Nat.lt_trichotomy i j with z|z|z
 ·exact absurd e (j4.mp nd i j hi hj z)
 ·exact z
 ·exact absurd e.symm (j4.mp nd j i hj hi z)
theorem ZHZ(nd:ms.Nodup)(hi:i<ms.length):ms.idxOf ms[i]=i:=by have hl:=qF (q8 hi);exact ZIY nd hl hi (jL hl)
theorem ZRm(nd:ms.Nodup){L:Nat->Int}(hi:i<ms.length):pgM ms T L pg (i+1)=λk=>if k=ms.getD i 0 then rrow T L i else pgM ms T L pg i k:=by
 have eg:ms.getD i 0=ms[i]:=by simp[zC,zX hi]
 funext k;rw[eg];unfold pgM;rw[List.take_succ_eq_append_getElem hi];by_cases e:k=ms[i]
 ·subst e;rw[if_pos rfl,if_pos (jG.mpr (.inr (qG.mpr rfl))),ZHZ nd hi]
 ·rw[if_neg e];have:(k∈ms.take i++[ms[i]])↔k∈ms.take i:=by rw[jG,qG];exact⟨λh=>h.elim id λz=>absurd z e,.inl⟩
  simp only[this]
section
variable{G:DH}{h:Hs}{LV:D}{yt:Int}
theorem ZG0(g:GoodH h)(hms:∀k∈ms,k<h.n)(nd:ms.Nodup)(hlast:ms.getLast?=vD m){T L:Nat->Int}{s:Cs}{r t:D}:∀(q i:Nat)(x y z:Option D),i+q=ms.length->0<q->∃x' y' z',
  Aq (Ao 3 (Ae (gV 4) (Ae (gV 5) (Ae (gV 6) Aw)))) Jv ((z3 ms T L).drop i) [zR G.length,zF (Ar ms),vD r,vD t,x,y,z] (csH G h.n h.enc LV yt {s with page:=pgM ms T L s.page i})=
   .nx [zR G.length,zF (Ar ms),vD r,vD t,x',y',z'] (csH G h.n h.enc LV yt (h.Ek {s with page:=pgM ms T L s.page ms.length} m (L (ms.length-1))))
 |0,i,x,y,z,e,h0=>by lia
 | q + 1,i,x,y,z,e,h0=>by
  have hi:i<ms.length:=by lia
  have eg:ms.getD i 0=ms[i]:=by simp[zC,zX hi]
  have hk:ms.getD i 0<h.n:=by rw[eg];exact hms _ (q8 hi)
  have hmn:m<h.n:=hms m (List.mem_of_getLast? hlast);have e0:(z3 ms T L).drop i=.tup [.int (ms.getD i 0:Nat),.int (T i),.int (L i)]::(z3 ms T L).drop (i+1):=by rw[qQ (by simp[z3];exact hi)];simp[z3]
  have hneg:atI (Ar ms) (-1)=zI (m:Nat):=by
   have hl:0<ms.length:=by lia
   rw[ZK2 (by decide) (by simp;lia)]
   congr 1
   have e3:((-1:Int)+((Ar ms).length:Int)).toNat=ms.length-1:=by simp;lia
   simp only[e3];unfold Ar;rw[List.getElem_map];have e4:ms[ms.length-1]'(by lia)=m:=by have:=j5 (l:=ms);rw[hlast,zX (by lia)]at this;exact(Option.some.inj this).symm
   rw[e4]
  have hpg:(λk=>if k=ms.getD i 0 then[T i+L i,T i,0,L i,0,0]else pgM ms T L s.page i k)=pgM ms T L s.page (i+1):=(ZRm nd hi).symm;rw[e0,Bu];cases q with
  | zero=>
   have ei:i=ms.length-1:=by lia
   have em:ms.getD i 0=m:=by have:=j5 (l:=ms);rw[hlast,zX (by lia)]at this;rw[eg];subst ei;exact(Option.some.inj this).symm
   have hb:Jv [zR G.length,zF (Ar ms),vD r,vD t,zI (ms.getD i 0:Nat),zI (T i),zI (L i)] (csH G h.n h.enc LV yt {s with page:=pgM ms T L s.page i})=
     .nx [zR G.length,zF (Ar ms),vD r,vD t,zI (ms.getD i 0:Nat),zI (T i),zI (L i)] (csH G h.n h.enc LV yt (h.Ek {s with page:=pgM ms T L s.page ms.length} m (L (ms.length-1)))):=by
    have e5:i+1=ms.length:=by lia
    rw[e5]at hpg;unfold Jv;simp only[em]at hk hpg⊢;simp[An,M6,K1,Hg,hk,Ul,hpg,U8,hneg,J7 ZAu,Xe g hmn,<-ei]
   refine⟨zI (ms.getD i 0:Nat),zI (T i),zI (L i),?_⟩;rw[qJ (by simp[z3];lia)];simp only[Mg,M9,N6,Cg,R.Hu,R.By,qj,hb,Cm,zU,jW,Nat.reduceAdd,if_true,Cp]
  | succ q=>
   have hne:ms.getD i 0≠m:=λz=>by have h1:=j5 (l:=ms);rw[hlast,zX (by lia)]at h1;have h2:=Option.some.inj h1;rw[eg,h2]at z;have:=ZIY nd hi (by lia) z;lia
   have hne':¬((ms.getD i 0:Nat):Int)=(m:Int):=by lia
   have hb:Jv [zR G.length,zF (Ar ms),vD r,vD t,zI (ms.getD i 0:Nat),zI (T i),zI (L i)] (csH G h.n h.enc LV yt {s with page:=pgM ms T L s.page i})=
     .nx [zR G.length,zF (Ar ms),vD r,vD t,zI (ms.getD i 0:Nat),zI (T i),zI (L i)] (csH G h.n h.enc LV yt {s with page:=pgM ms T L s.page (i+1)}):=by
    unfold Jv;generalize ms.getD i 0=a at hk hpg hne';simp[An,M6,K1,Hg,hk,Ul,hpg,U8,hneg,hne']
   obtain⟨x',y',z',ih⟩:=ZG0 g hms nd hlast (T:=T) (L:=L) (s:=s) (r:=r) (t:=t) (q+1) (i+1) (zI (ms.getD i 0:Nat)) (zI (T i)) (zI (L i)) (by lia) (by lia);refine⟨x',y',z',?_⟩;simp only[Mg,M9,N6,Cg,R.Hu,R.By,qj,hb,Cm,zU,jW,Nat.reduceAdd,if_true];exact ih
def Hs.Gm(h:Hs)(s:Cs)(m:Nat):Nat->Int:=shr (h.rows (h.mem m) s.came)
def Hs.Ft(h:Hs)(s:Cs)(m:Nat):Nat->Int:=gath (h.rows (h.mem m) s.came) λi=>col Row.water (h.rows (h.mem m) s.came) i-h.Gm s m i
def Hs.reach(h:Hs)(s:Cs)(m:Nat):Cs:=
 let s1:=h.Ek {s with page:=pgM (h.mem m) (h.Gm s m) (h.Ft s m) s.page (h.mem m).length} m (h.Ft s m ((h.mem m).length-1))
 {s1 with rea:=s1.rea++[.tup [.fl (Ar (h.mem m)),.fl ((h.rows (h.mem m) s.came).map Row.enc)]]}
theorem Rf{n:Nat}(hb:∀m,bels m ds=vF):freeze (csH G n H LV yt s) (.ok (.ref (csH G n H LV yt s).length) (csH G n H LV yt s++[.lst ds]))=.ok (.fl ds) (csH G n H LV yt s):=Dg (hb _)
theorem Hr:(h.rows ms ca).length=ms.length:=by simp[Hs.rows]
theorem ZPU(g:GoodH h)(hm:m<h.n)(hl:h.last m=m)(hc:∀k,k<h.n->0<=s.came k)(hre:s.rea.length<=100):Qz [.ref G.length,.fl (Ar (h.mem m))] (csH G h.n h.enc LV yt s)=.ok .non (csH G h.n h.enc LV yt (h.reach s m)):=by
 have hR:=Mt g (m:=m) hc;have hlen:(h.rows (h.mem m) s.came).length<=40:=by have:=ZEd (h:=h) (m:=m);have:=g.len;rw[Hr];lia
 have hmem:m∈h.mem m:=mem_iff.mpr ⟨hm,hl⟩;have hpos:0<(h.mem m).length:=jP hmem;have nd:(h.mem m).Nodup:=(Qp (h:=h) (m:=m)).imp λhab=>zE hab
 have cr:=ZLW g (ms:=h.mem m) (λk hk=>⟨(mem_iff.mp hk).1,λd hd=>by have h1:=mem_iff.mp hk;have h2:=Jq g hd;exact mem_iff.mpr ⟨h2.2.1,by rw[<-Lg g hd];exact h1.2⟩⟩) (by rw[<-Hr (h:=h) (ca:=s.came)];exact hlen) (p:=G.length+1) (ca:=s.came) (G:=csH G h.n h.enc LV yt s) Nx
 have cs:=ZPY hR hlen (csH G h.n h.enc LV yt s);have cp:=ZGF hR hlen (t:=.fl (tab (h.rows (h.mem m) s.came).length (shr (h.rows (h.mem m) s.came)))) (T:=shr (h.rows (h.mem m) s.came)) (G:=csH G h.n h.enc LV yt s) rfl;rw[Hr]at cs cp;obtain⟨x',y',z',hL⟩:=ZG0 (G:=G) (LV:=LV) (yt:=yt) g (ms:=h.mem m) (λk hk=>(mem_iff.mp hk).1) nd (ZFh g hm hl) (T:=h.Gm s m) (L:=h.Ft s m) (s:=s) (r:=.fl ((h.rows (h.mem m) s.came).map Row.enc)) (t:=.fl (tab (h.mem m).length (h.Gm s m))) (h.mem m).length 0 vE vE vE (by lia) hpos
 rw[ZOn,xY]at hL;have hz:∀S G',Dh (Ew [.fl (Ar (h.mem m)),.fl (tab (h.mem m).length (h.Gm s m)),.fl (tab (h.mem m).length (h.Ft s m))]) (Ao 3 (Ae (gV 4) (Ae (gV 5) (Ae (gV 6) Aw)))) Jv (h.mem m).length 0 S G'=Aq (Ao 3 (Ae (gV 4) (Ae (gV 5) (Ae (gV 6) Aw)))) Jv (z3 (h.mem m) (h.Gm s m) (h.Ft s m)) S G':=λS G'=>Pb ZPT (by simp[z3])
 have eT:shr (h.rows (h.mem m) s.came)=h.Gm s m:=rfl;have eL:gath (h.rows (h.mem m) s.came) (λi=>col Row.water (h.rows (h.mem m) s.came) i-h.Gm s m i)=h.Ft s m:=rfl;rw[eT]at cs cp;rw[eL]at cp;have hre2:∀s':Cs,s'.rea=s.rea->s'.rea.length<1000000:=λs' e=>by rw[e];lia
 have ers:∀s':Cs,∀k c,(h.Ek s' k c).rea=s'.rea:=λs' k c=>by
  unfold Hs.Ek;cases h.dn k with
  |none=>rfl
  |some d=>simp only[Cs.send];split <;> rfl
 have el1:=hre2 _ (ers {s with page:=pgM (h.mem m) (h.Gm s m) (h.Ft s m) s.page (h.mem m).length} m (h.Ft s m ((h.mem m).length-1)));simp only[Hs.reach];generalize h.Ek {s with page:=pgM (h.mem m) (h.Gm s m) (h.Ft s m) s.page (h.mem m).length} m (h.Ft s m ((h.mem m).length-1))=s1 at hL el1;have hS:{s with page:=s.page}=s:=rfl;have ht:∀G',tidy G' (.ok (.tup [.fl (Ar (h.mem m)),.fl ((h.rows (h.mem m) s.came).map Row.enc)]) G')=.ok (.tup [.fl (Ar (h.mem m)),.fl ((h.rows (h.mem m) s.came).map Row.enc)]) G':=λG'=>Be (by simp)
 unfold Qz ZC2;rw[Ay];simp[Jb,S8,cr,Rf,cs,cp,Et,Ir,lenOf,hz,hL,An,ht,ZMF,csHe,el1,csSe,Jz]
end
def Cs.NN(n:Nat)(s:Cs):Prop:=(∀k,k<n->0<=s.came k)/\∀k j,k<n->j<5->0<=s.coming k j
theorem Cs.NN.send{n:Nat}(h:s.NN n)(hc:0<=c):(s.send to dl c).NN n:=by
 unfold Cs.send;split
 ·refine⟨λk hk=>?_,h.2⟩;simp only[fset];split
  ·rename_i e;subst e;have:=h.1 k hk;lia
  ·exact h.1 k hk
 ·refine⟨h.1,λk j hk hj=>?_⟩;simp only[upd2];split
  ·rename_i e;subst e;simp only[fset];split
   ·rename_i e2;subst e2;have:=h.2 k _ hk hj;lia
   ·exact h.2 k j hk hj
  ·exact h.2 k j hk hj
theorem Cs.NN.down{n:Nat}(h:s.NN n){hs:Hs}{k:Nat}(hc:0<=c):(hs.Ek s k c).NN n:=by
 unfold Hs.Ek;cases hs.dn k with
 |none=>exact h
 |some d=>exact h.send hc
theorem ZGX{s:Stp}:0<=cub w s:=by unfold cub;lia
theorem ZBB{w:Int}:∀{st:List Stp},0<=rv w st
 |[]=>zH _
 |s::r=>by
  have h1:=ZBB (w:=w) (st:=r);have h2:=ZGX (w:=w) (s:=s);unfold rv
  split <;> lia
theorem ZAa{w:Int}:∀{st:List Stp},0<=pm w st
 |[]=>zH _
 |s::r=>by
  have h1:=ZAa (w:=w) (st:=r);have h2:=ZGX (w:=w) (s:=s);unfold pm
  split <;> lia
theorem Cs.NN.page{n:Nat}(h:s.NN n):({s with page:=pg}:Cs).NN n:=h
theorem Uc:(s.send to dl c).rea=s.rea/\(s.send to dl c).page=s.page:=by
 unfold Cs.send
 split <;> exact⟨rfl,rfl⟩
theorem Jf{k:Nat}:(h.Ek s k c).rea=s.rea/\(h.Ek s k c).page=s.page:=by
 unfold Hs.Ek;cases h.dn k with
 |none=>exact⟨rfl,rfl⟩
 |some d=>exact Uc
section
variable{h:Hs}{yt:Int}{lv:Nat->Int}{s:Cs}
theorem ZLQ{k:Nat}(hs:s.NN h.n):(h.basin yt lv s k).NN h.n:=by
 unfold Hs.basin;cases(h.pl k).kd with
 | basin brim rule pump=>
  simp only;have a1:=ZBB (w:=lv k+s.came k) (st:=held yt rule []);have a2:=ZAa (w:=lv k+s.came k) (st:=held yt rule []);cases pump with
  |none=>exact hs.page.down (by lia)
  |some q=>
   obtain⟨to,dl,mo⟩:=q;exact Cs.NN.send (hs.page.down (by lia)) a2
 |town _ _=>exact hs
 |mill _=>exact hs
theorem ZSv{k:Nat}:(h.basin yt lv s k).rea=s.rea:=by
 unfold Hs.basin;cases(h.pl k).kd with
 |basin brim rule pump=>
  simp only;cases pump with
  |none=>rw[Jf.1]
  |some q=>obtain⟨to,dl,mo⟩:=q;simp only;rw[Uc.1,Jf.1]
 |town _ _=>rfl
 |mill _=>rfl
theorem ZCQ{k:Nat}(hB:(h.pl k).kd.isB=vF):((h.basin yt lv s k).page k).length=6/\∀i,i≠k->(h.basin yt lv s k).page i=s.page i:=by
 unfold Hs.basin;cases e:(h.pl k).kd with
 | basin brim rule pump=>
  simp only;cases pump with
  |none=>
   simp only;rw[Jf.2];exact⟨by simp,λi hi=>by simp[hi]⟩
  |some q=>
   obtain⟨to,dl,mo⟩:=q;simp only;rw[Uc.2,Jf.2];exact⟨by simp,λi hi=>by simp[hi]⟩
 |town _ _=>rw[e]at hB;cases hB
 |mill _=>rw[e]at hB;cases hB
theorem ZKw(g:GoodH h)(hs:s.NN h.n)(hi:i<(h.mem m).length):0<=h.Ft s m i:=by have hR:=Mt g (m:=m) hs.1;have hsi:=Uz hR;have:=hsi.p0 i (by rw[Hr];exact hi);rw[hsi.pg]at this;exact this
theorem ZLp(g:GoodH h)(hm:m<h.n)(hl:h.last m=m)(hs:s.NN h.n):(h.reach s m).NN h.n:=by have hpos:0<(h.mem m).length:=jP (mem_iff.mpr ⟨hm,hl⟩);unfold Hs.reach;exact Cs.NN.down (s:={s with page:=pgM (h.mem m) (h.Gm s m) (h.Ft s m) s.page (h.mem m).length}) hs.page (ZKw g hs (by lia))
theorem ZMZ:(h.reach s m).rea.length=s.rea.length+1:=by unfold Hs.reach;simp only[qz,jB];rw[Jf.1]
theorem Wr{k:Nat}:(h.reach s m).page k=if k∈h.mem m then rrow (h.Gm s m) (h.Ft s m) ((h.mem m).idxOf k)else s.page k:=by unfold Hs.reach;simp only;rw[Jf.2];unfold pgM;rw[List.take_of_length_le (zK _)]
def Hs.step(h:Hs)(yt:Int)(lv:Nat->Int)(s:Cs)(k:Nat):Cs:=if(h.pl k).kd.isB=vF then h.basin yt lv s k else if h.last k=k then h.reach s k else s
def Hs.goF(h:Hs)(yt:Int)(lv:Nat->Int):Nat->Nat->Cs->Cs
 |0,_,s=>s
 |m+1,k,s=>h.goF yt lv m (k+1) (h.step yt lv s k)
theorem ZH1(g:GoodH h){k:Nat}(hk:k<h.n)(hs:s.NN h.n):(h.step yt lv s k).NN h.n:=by
 unfold Hs.step;split
 ·exact ZLQ hs
 ·split
  ·rename_i e;exact ZLp g hk e hs
  ·exact hs
theorem ZSe{k:Nat}:(h.step yt lv s k).rea.length<=s.rea.length+1:=by
 unfold Hs.step;split
 ·rw[ZSv];lia
 ·split
  ·rw[ZMZ];lia
  ·lia
end
section
variable{G:DH}{h:Hs}{yt:Int}{lv:Nat->Int}
theorem Tr{β:Type}{f f':α->Option β}:∀{l:List α},(∀x∈l,f x=f' x)->l.filterMap f=l.filterMap f'
 |[],_=>rfl
 |x::l,hl=>by rw[q9,q9,hl x zW,Tr λy hy=>hl y (zZ _ hy)]
theorem ZNs{k:Nat}(hS:Ax 2 [2] S=[vE,vE,zI k])(G:DH):De (Do 0 (.fl (tab h.n λi=>(h.last i:Int)))) (Ao 2 (Ae (gV 0) (Ae (gV 1) Aw))) Q3 Ro (Ax 2 [2] S) h.n 0 G=.ok (Ar (h.mem k)) G:=by
 have he:Dl (tab h.n λi=>(h.last i:Int))=(zQ h.n).map λ(i:Nat)=>D.tup [.int (i:Int),.int (h.last i:Int)]:=by refine qM (by simp[Dl]) λi h1 h2=>by simp[Dl,tab]
 rw[Ur (F:=λd=>match d with | .tup [.int i,.int e]=>if e=(k:Int)then zI i else vE|_=>vE) (λj=>Ru j G) (λx hx=>?_) (by rw[Ik];simp)]
 ·congr 1
  rw[he,qx];unfold Hs.mem Ar;rw[<-List.filterMap_eq_filter,List.map_filterMap];refine Tr λi _=>?_
  by_cases e:h.last i=k
  ·subst e;simp[Option.guard]
  ·have e2:¬((h.last i:Int)=(k:Int)):=by lia
   simp[Option.guard,e,e2]
 ·rw[he]at hx;obtain⟨i,_,rfl⟩:=zM.mp hx;refine⟨[zI i,zI (h.last i:Int),zI k],by rw[hS];simp,?_⟩;by_cases e:h.last i=k
  ·refine .inr ⟨by unfold Q3;simp[e],.int i,by unfold Ro;simp,by simp[e]⟩
  ·have e2:¬((h.last i:Int)=(k:Int)):=by lia
   exact .inl ⟨by unfold Q3;simp[e2],by simp[e2]⟩
theorem ZGv(g:GoodH h):∀(m k:Nat)(s:Cs)(x y:Option D),k+m=h.n->s.NN h.n->s.rea.length<=k->∃x' y',
  Aq (Ao 2 (Ae (gV 2) (Ae (gV 3) Aw))) Nb ((Dl (tab h.n λi=>(h.last i:Int))).drop k) [zR G.length,zF (tab h.n λi=>(h.last i:Int)),x,y] (csH G h.n h.enc (.tup (tab h.n lv)) yt s)=
   .nx [zR G.length,zF (tab h.n λi=>(h.last i:Int)),x',y'] (csH G h.n h.enc (.tup (tab h.n lv)) yt (h.goF yt lv m k s))
 |0,k,s,x,y,e,_,_=>⟨x,y,by rw[qJ (by rw[Ik];simp;lia),Cp];rfl⟩
 | m + 1,k,s,x,y,e,hs,hre=>by
  have hk:k<h.n:=by lia
  have hn:=g.len;have hre2:=ZSe (h:=h) (yt:=yt) (lv:=lv) (s:=s) (k:=k);obtain⟨x',y',ih⟩:=ZGv g m (k+1) (h.step yt lv s k) (zI k) (zI (h.last k:Int)) (by lia) (ZH1 g hk hs) (by lia);refine⟨x',y',?_⟩;have e0:(Dl (tab h.n λi=>(h.last i:Int))).drop k=.tup [.int k,.int (h.last k:Int)]::(Dl (tab h.n λi=>(h.last i:Int))).drop (k+1):=by rw[qQ (by rw[Ik];simpa using hk)];simp[Dl,tab]
  have hml:(h.mem k).length<=1000000:=by have:=ZEd (h:=h) (m:=k);lia
  have hb:Nb [zR G.length,zF (tab h.n λi=>(h.last i:Int)),zI k,zI (h.last k:Int)] (csH G h.n h.enc (.tup (tab h.n lv)) yt s)=
    .nx [zR G.length,zF (tab h.n λi=>(h.last i:Int)),zI k,zI (h.last k:Int)] (csH G h.n h.enc (.tup (tab h.n lv)) yt (h.step yt lv s k)):=by
   unfold Nb Hs.step;by_cases hB:(h.pl k).kd.isB=vF
   ·simp[Jb,Cq,Hs.Dz hk,Gn,hB,J7 ZOU,ZPe g hk hB]
   ·by_cases hl:h.last k=k
    ·have hc:De (Do 0 (.fl (tab h.n λi=>(h.last i:Int)))) (Ao 2 (Ae (gV 0) (Ae (gV 1) Aw))) Q3 Ro (Ax 2 [2] [zR G.length,zF (tab h.n λi=>(h.last i:Int)),zI k,zI (k:Int)]) h.n 0 (csH G h.n h.enc (.tup (tab h.n lv)) yt s)=.ok (Ar (h.mem k)) (csH G h.n h.enc (.tup (tab h.n lv)) yt s):=ZNs rfl _;simp[Jb,Cq,Hs.Dz hk,Gn,hB,hl,J7 ZLe,Ez,Ir,lenOf,hc,Ah,hml,Rf,ZPU g hk hl hs.1 (by lia)]
    ·have hl':¬((h.last k:Int)=(k:Int)):=by lia
     simp[Jb,Cq,Hs.Dz hk,Gn,hB,hl,hl']
  rw[e0,Bu];simp only[Mg,M9,N6,Cg,R.Hu,R.By,qj,hb,Cm,zU,jW,Nat.reduceAdd,if_true];exact ih
theorem ZPx(g:GoodH h)(hs:s.NN h.n)(hre:s.rea=[]):T7 [.ref G.length] (csH G h.n h.enc (.tup (tab h.n lv)) yt s)=.ok .non (csH G h.n h.enc (.tup (tab h.n lv)) yt (h.goF yt lv h.n 0 s)):=by
 obtain⟨x',y',hL⟩:=ZGv (G:=G) (yt:=yt) (lv:=lv) g h.n 0 s vE vE (by lia) hs (by rw[hre];simp);rw[xY]at hL;unfold T7 ZD7;rw[Ay];have hz:∀S G',Dh (Do 0 (.fl (tab h.n λi=>(h.last i:Int)))) (Ao 2 (Ae (gV 2) (Ae (gV 3) Aw))) Nb h.n 0 S G'=Aq (Ao 2 (Ae (gV 2) (Ae (gV 3) Aw))) Nb (Dl (tab h.n λi=>(h.last i:Int))) S G':=λS G'=>Pb Ru (by rw[Ik];simp)
 simp[Jb,ZTr g,Rf,Ez,Ir,lenOf,hz,hL,Jz]
end
def Am(n:Nat)(co:Nat->Nat->Int):List D:=(zQ n).map λk=>D.tup (tab 5 (co k))
def stD(n:Nat)(lv:Nat->Int)(co:Nat->Nat->Int):D:=.tup [.tup (tab n lv),.tup (Am n co)]
@[simp]theorem ZVG{n:Nat}:bels m (Am n co)=vF:=Ec λk _=>by simp[Hc]
@[simp]theorem ZNo{n:Nat}:bels m (Ci n pg)=vF:=Ec λk _=>ZO9
@[simp]theorem ZVA{n:Nat}:(Am n co).length=n:=by simp[Am]
def Gu(co:Nat->Nat->Int):Nat->Nat->Int:=λk j=>if j<4 then co k (j+1)else 0
def cs0(co:Nat->Nat->Int)(fl:Nat->Int):Cs:=⟨λk=>fl k+co k 0,Gu co,λ_=>[],[]⟩
theorem tab5:tab 5 F=[.int (F 0),.int (F 1),.int (F 2),.int (F 3),.int (F 4)]:=rfl
theorem La{c f:Str}{fs:List (Str×D)}{d:D}(hl:fs.length<1000):M3 c f (.ref G.length) d S (G++ .ins c fs::L)=.nx S (G++ .ins c (Fq f d fs)::L):=by
 rw[ZQu (fs:=fs) (by rw[Cv];rfl) hl,Ea]
 rfl
theorem ZMn{n:Nat}{fl:Nat->Int}(G:DH):De (Ew [.tup (tab n fl),.tup (Am n co)]) (Ao 2 (Ae (gV 0) (Ae (gV 1) Aw))) Bd Um (Ax 2 [] S) n 0 G=.ok (tab n λk=>fl k+co k 0) G:=by
 have he:Ly (tab n fl) (Am n co)=(zQ n).map λ(i:Nat)=>D.tup [.int (fl i),.tup (tab 5 (co i))]:=by refine qM (by simp[Ly]) λi h1 h2=>by simp[Ly,tab,Am]
 rw[Ur (F:=λd=>match d with | .tup [.int c,.tup (.int a::_)]=>zI (c+a)|_=>vE) (λj=>Xa (Ji (xs:=tab n fl)) (Ji (xs:=Am n co)) j) (λx hx=>?_) (by rw[he];simp)]
 ·congr 1
  rw[he,qx];show(zQ n).filterMap (λi=>zI (fl i+co i 0))=_;rw[qA]
  rfl
 ·rw[he]at hx;obtain⟨i,_,rfl⟩:=zM.mp hx;refine⟨[zI (fl i),zT (tab 5 (co i))],by simp[Ax],.inr ⟨rfl,.int (fl i+co i 0),?_,by simp[tab5]⟩⟩;unfold Um;simp[tab5]
theorem ZMR{k:Nat}(G:DH):Pu [zT (tab 5 (co k))] G=.ok (.ref G.length) (G++[.lst (tab 5 (Gu co k))]):=by
 have hcut:cutD (tab 5 (co k)) (vD 1) vE=[.int (co k 1),.int (co k 2),.int (co k 3),.int (co k 4)]:=rfl;have h1:Ju [.tup [.int (co k 1),.int (co k 2),.int (co k 3),.int (co k 4)]] G=.ok (.ref G.length) (G++[.lst [.int (co k 1),.int (co k 2),.int (co k 3),.int (co k 4)]]):=rfl;have h2:Ai (.fl [.int (co k 1),.int (co k 2),.int (co k 3),.int (co k 4)]) (.fl [.int 0]) G=.ok (.ref G.length) (G++[.lst (tab 5 (Gu co k))]):=rfl
 have hf:∀ds:List D,bels G.length ds=vF->freeze G (.ok (.ref G.length) (G++[.lst ds]))=.ok (.fl ds) G:=λds hb=>Dg hb
 unfold Pu;simp[Jp,O3,hcut,Ho,h1,hf,Ah,h2,Ds]
theorem ZDk{n:Nat}{co:Nat->Nat->Int}:∀(m k:Nat)(G:DH),k+m=n->Ck (gV 0) Bd Pu [vE] ((Am n co).drop k) G=.ok ((zQ m).map λj=>D.ref (G.length+j)) (G++(zQ m).map λj=>DO.lst (tab 5 (Gu co (k+j))))
 |0,k,G,e=>by rw[qJ (by simp;lia)];simp[Ck]
 | m+1,k,G,e=>by
  have e0:(Am n co).drop k=.tup (tab 5 (co k))::(Am n co).drop (k+1):=by rw[qQ (by simp;lia)];simp[Am]
  have ih:=ZDk (n:=n) (co:=co) m (k+1) (G++[.lst (tab 5 (Gu co k))]) (by lia);rw[e0,ZCC];simp only[Cg,R.Hu,qj,ZH7,if_true,ZMR,ih]
  congr 1
  ·rw[qR,zw,qO]
   congr 1
   refine qw λj _=>?_
   simp only[Function.comp,qz,jB]
   congr 1
   lia
  ·rw[qR,zw,qO,jA]
   congr 1
   show _::_=_::_
   congr 1
   refine qw λj _=>?_
   simp only[Function.comp]
   congr 3
   lia
theorem ZNP(g:GoodH h){fl:Nat->Int}:
  Py [.ref G.length,h.enc,stD h.n lv co,.int at_,.tup (tab h.n fl)] (G++[.ins "Course" []])=.ok .non (csH G h.n h.enc (.tup (tab h.n lv)) (at_%h.yr) (cs0 co fl)):=by
 have hn:=g.len;have hyr:=g.yr;have hnl:h.n<=1000000:=by lia
 have p1:∀a:D,Fq "house" a (cfl [])=cfl [a]:=λ_=>rfl
 have p2:∀a b:D,Fq "levels" b (cfl [a])=cfl [a,b]:=λ_ _=>rfl
 have p3:∀a b c:D,Fq "year_turn" c (cfl [a,b])=cfl [a,b,c]:=λ_ _ _=>rfl
 have p4:∀a b c d:D,Fq "came" d (cfl [a,b,c])=cfl [a,b,c,d]:=λ_ _ _ _=>rfl
 have p5:∀a b c d e:D,Fq "coming" e (cfl [a,b,c,d])=cfl [a,b,c,d,e]:=λ_ _ _ _ _=>rfl
 have p6:∀a b c d e f:D,Fq "page" f (cfl [a,b,c,d,e])=cfl [a,b,c,d,e,f]:=λ_ _ _ _ _ _=>rfl
 have p7:∀a b c d e f q:D,Fq "reaches" q (cfl [a,b,c,d,e,f])=cfl [a,b,c,d,e,f,q]:=λ_ _ _ _ _ _ _=>rfl
 have hl:∀ds,(cfl ds).length<1000:=λds=>by unfold cfl;rw[List.length_zip];have:(["house","levels","year_turn","came","coming","page","reaches"]:List Str).length=7:=rfl;lia
 have hz:∀G',Et 2 [.tup (tab h.n fl),.tup (Am h.n co)] G'=.ok (.fn h.n (Ew [.tup (tab h.n fl),.tup (Am h.n co)])) G':=λG'=>by rw[Tv Ji Ji];simp
 have hcc:=λG'=>ZDk (n:=h.n) (co:=co) h.n 0 G' (by lia)
 simp only[xY,Nat.zero_add]at hcc;have hcs:∀S:DSt,Ax 1 [] S=[vE]:=λ_=>rfl
 have epg:zV h.n D.non=Ci h.n λ_=>[]:=by unfold Ci;refine qM (by simp) λi h1 h2=>by simp[Il]
 let S:DSt:=[zR G.length,vD h.enc,vD (stD h.n lv co),zI at_,zT (tab h.n fl),zT (tab h.n lv),zT (Am h.n co)];have hS:S=[zR G.length,vD h.enc,vD (stD h.n lv co),zI at_,zT (tab h.n fl),zT (tab h.n lv),zT (Am h.n co)]:=rfl;let R5:DH:=(zQ h.n).map λk=>DO.lst (tab 5 (Gu co k))
 have hR5:R5.length=h.n:=by simp[R5]
 let W:List D->DH->DH:=λL t=>G++ .ins "Course" (cfl L)::t
 let B:D:=.tup (tab h.n lv);let Y:D:=.int (at_%h.yr);let T1:DO:=.lst (tab h.n λk=>fl k+co k 0);have q1:Er "Course" (dV 0) (dV 1) "house" S (W [] [])=.nx S (W [h.enc] []):=by rw[K7,hS];simp only[W,B,ZAh,jN,jz,R.By,La (hl _),p1]
 have q2:Er "Course" (dV 0) (dV 5) "levels" S (W [h.enc] [])=.nx S (W [h.enc,B] []):=by rw[K7,hS];simp only[W,B,ZAh,jN,jz,R.By,La (hl _),p2]
 have q3:Er "Course" (dV 0) (dOp Az (dV 3) (dOp Ad (dV 1) (dC (.int 0)))) "year_turn" S (W [h.enc,B] [])=.nx S (W [h.enc,B,Y] []):=by rw[K7,hS];simp[W,B,Y,T1,ZRf,hyr,La (hl _),p3]
 have q4:Er "Course" (dV 0) (Bw (Bk (Et 2) (Aa (dV 4) (Aa (dV 6) Ab))) 2 [] (Ao 2 (Ae (gV 0) (Ae (gV 1) Aw))) Bd Um) "came" S (W [h.enc,B,Y] [])=
   .nx S (W [h.enc,B,Y,.ref (G.length+1)] (T1::[])):=by
  rw[K7,hS];simp[W,B,Y,T1,hz,ZMn,Ah,hnl,La (hl _),p4]
 have q5:Er "Course" (dV 0) (Bw (Du (dV 6)) 1 [] (gV 0) Bd Pu) "coming" S (W [h.enc,B,Y,.ref (G.length+1)] (T1::[]))=
   .nx S (W [h.enc,B,Y,.ref (G.length+1),.ref (G.length+(2+h.n))] (T1::(R5++[.lst (Dq G.length h.n)]))):=by
  have hi:Gb (.tup (Am h.n co)) (W [h.enc,B,Y,.ref (G.length+1)] (T1::[]))=.ok (.pure (Am h.n co)) (W [h.enc,B,Y,.ref (G.length+1)] (T1::[])):=rfl;have er:∀L:DH,L.length=2->(zQ h.n).map (λj=>D.ref ((G++L).length+j))=Dq G.length h.n:=λL e=>by
   unfold Dq;refine qw λj _=>?_
   rw[qz,e,Nat.add_assoc]
  have hc2:=hcc (W [h.enc,B,Y,.ref (G.length+1)] (T1::[]));rw[er _ rfl]at hc2;have hml:∀G',Ah (Dq G.length h.n) G'=.ok (.ref G'.length) (G'++[.lst (Dq G.length h.n)]):=λG'=>by simp[Ah,Dq,hnl]
  rw[K7,hS];simp only[W,B,Y,T1,ZM2,ZSS,ZAh,jN,jz,R.Hu,hi,hcs,hc2,hml,R.By];have e2:(G++DO.ins "Course" (cfl [h.enc,.tup (tab h.n lv),.int (at_%h.yr),.ref (G.length+1)]):: .lst (tab h.n λk=>fl k+co k 0)::[]++(zQ h.n).map λj=>DO.lst (tab 5 (Gu co j))).length=G.length+(2+h.n):=by simp;lia
  rw[e2];simp only[W,jA,List.cons_append,xV];rw[La (hl _),p5]
 have q6:Er "Course" (dV 0) (Cz (dOp Ib (dFn Ah (Aa (dC .non) Ab)) (dFn Bo (Aa (dV 5) Ab)))) "page" S (W [h.enc,B,Y,.ref (G.length+1),.ref (G.length+(2+h.n))] (T1::(R5++[.lst (Dq G.length h.n)])))=
   .nx S (W [h.enc,B,Y,.ref (G.length+1),.ref (G.length+(2+h.n)),.ref (G.length+(3+h.n))] (T1::(R5++[.lst (Dq G.length h.n),.lst (Ci h.n λ_=>[])]))):=by
  rw[K7,hS];generalize hQ:W [h.enc,B,Y,.ref (G.length+1),.ref (G.length+(2+h.n))] (T1::(R5++[.lst (Dq G.length h.n)]))=Q;have eQ:Q.length=G.length+(3+h.n):=by rw[<-hQ];simp[W,hR5];lia
  have hrep:Ib (.ref Q.length) (.int (h.n:Int)) (Q++[.lst [.non]])=.ok (.ref (Q.length+1)) (Q++[.lst [.non],.lst (Ci h.n λ_=>[])]):=by rw[ZEy (d:=.non) (by rw[Cv];rfl) (by lia),epg];simp
  have ht:tidy Q (.ok (.ref (Q.length+1)) (Q++[.lst [.non],.lst (Ci h.n λ_=>[])]))=.ok (.ref Q.length) (Q++[.lst (Ci h.n λ_=>[])]):=Yv _ (k:=1) rfl ZNo;have hst:M3 "Course" "page" (.ref G.length) (.ref Q.length) S (Q++[.lst (Ci h.n λ_=>[])])=.nx S (W [h.enc,B,Y,.ref (G.length+1),.ref (G.length+(2+h.n)),.ref (G.length+(3+h.n))] (T1::(R5++[.lst (Dq G.length h.n),.lst (Ci h.n λ_=>[])]))):=by rw[eQ,<-hQ];simp only[W,jA,List.cons_append,xV];rw[La (hl _),p6]
  rw[hS]at hst;simp[Ah,hrep,ht,hst]
 have q7:Er "Course" (dV 0) (Cz (dFn Ah Ab)) "reaches" S (W [h.enc,B,Y,.ref (G.length+1),.ref (G.length+(2+h.n)),.ref (G.length+(3+h.n))] (T1::(R5++[.lst (Dq G.length h.n),.lst (Ci h.n λ_=>[])])))=
   .nx S (W [h.enc,B,Y,.ref (G.length+1),.ref (G.length+(2+h.n)),.ref (G.length+(3+h.n)),.ref (G.length+(4+h.n))] (T1::(R5++[.lst (Dq G.length h.n),.lst (Ci h.n λ_=>[]),.lst []]))):=by
  rw[K7,hS];generalize hQ:W [h.enc,B,Y,.ref (G.length+1),.ref (G.length+(2+h.n)),.ref (G.length+(3+h.n))] (T1::(R5++[.lst (Dq G.length h.n),.lst (Ci h.n λ_=>[])]))=Q;have eQ:Q.length=G.length+(4+h.n):=by rw[<-hQ];simp[W,hR5];lia
  have ht:tidy Q (.ok (.ref Q.length) (Q++[.lst []]))=.ok (.ref Q.length) (Q++[.lst []]):=Ds rfl;have hst:M3 "Course" "reaches" (.ref G.length) (.ref Q.length) S (Q++[.lst []])=.nx S (W [h.enc,B,Y,.ref (G.length+1),.ref (G.length+(2+h.n)),.ref (G.length+(3+h.n)),.ref (G.length+(4+h.n))] (T1::(R5++[.lst (Dq G.length h.n),.lst (Ci h.n λ_=>[]),.lst []]))):=by rw[eQ,<-hQ];simp only[W,jA,List.cons_append,xV];rw[La (hl _),p7]
  rw[hS]at hst;simp[Ah,ht,hst]
 have htd:tidy (G++[.ins "Course" []]) (.ok .non (csH G h.n h.enc (.tup (tab h.n lv)) (at_%h.yr) (cs0 co fl)))=.ok .non (csH G h.n h.enc (.tup (tab h.n lv)) (at_%h.yr) (cs0 co fl)):=ZKo λz=>by
  have h1:=congrArg (λl:DH=>l[G.length]?) z;simp only[qz,jB]at h1;rw[j6 (by lia),J6]at h1;have h2:(G++[DO.ins "Course" []])[G.length]?=vD (.ins "Course" []):=by rw[Cv];rfl
  rw[h2]at h1;simp[cflds,cfl]at h1
 have q0:sAs (dV 2) (Ao 2 (Ae (gV 5) (Ae (gV 6) Aw))) [zR G.length,vD h.enc,vD (stD h.n lv co),zI at_,zT (tab h.n fl),vE,vE] (G++[.ins "Course" []])=.nx S (W [] []):=by
  simp[stD,hS]
  rfl
 unfold Py ZIu;rw[Ay];have h5: [D.ref G.length,h.enc,stD h.n lv co,.int at_,.tup (tab h.n fl)].length=5:=rfl;rw[if_pos h5];have hd:([D.ref G.length,h.enc,stD h.n lv co,.int at_,.tup (tab h.n fl)].map vD++zV 2 vE)=[zR G.length,vD h.enc,vD (stD h.n lv co),zI at_,zT (tab h.n fl),vE,vE]:=rfl;rw[hd];simp only[Oz,q0,Rx,q1,q2,q3,q4,q5,q6,q7,ZSm];exact htd
section
variable{h:Hs}{yt:Int}{lv:Nat->Int}
theorem ZBi(g:GoodH h):∀(m k:Nat),h.n<=m+k->h.last k=k∨(h.pl (h.last k)).kd.isB=vG
 |0,k,e=>.inl (H8 g (Ml (by lia)))
 | m + 1,k,e=>by
  cases hd:h.dir k with
  |none=>exact .inl (H8 g hd)
  | some d=>
   have hl:=Jq g hd;rw[Lg g hd];rcases ZBi g m d (by lia)with z|z
   ·refine .inr ?_;rw[z];unfold Hs.dir at hd;cases h1:h.dn k with
    |none=>rw[h1]at hd;cases hd
    | some d'=>
     rw[h1]at hd;simp only at hd;split at hd
     ·cases hd
     ·rename_i hn;cases hd;cases e2:(h.pl d).kd.isB with
      |false=>rfl
      |true=>exact absurd (.inr (.inr e2)) hn
   ·exact .inr z
theorem ZCj(g:GoodH h):∀(m k:Nat),h.n<=m+k->h.last (h.last k)=h.last k
 |0,k,e=>by have h1:=H8 g (h:=h) (k:=k) (Ml (by lia));rw[h1,h1]
 | m+1,k,e=>by
  cases hd:h.dir k with
  |none=>rw[H8 g hd,H8 g hd]
  |some d=>
   have hl:=Jq g hd;rw[Lg g hd];exact ZCj g m d (by lia)
def Hs.done(h:Hs)(j k:Nat):Prop:=if(h.pl k).kd.isB=vF then k<j else h.last k<j
theorem ZS6(g:GoodH h){k:Nat}(hk:k<h.n)(hf:∀i,i<h.n->h.done k i->(s.page i).length=6):∀i,i<h.n->h.done (k+1) i->((h.step yt lv s k).page i).length=6:=λi hi hd=>by
 unfold Hs.step;split
 ·rename_i hB;by_cases e:i=k
  ·subst e;exact(ZCQ hB).1
  ·rw[(ZCQ hB).2 i e];refine hf i hi ?_;unfold Hs.done at hd⊢;by_cases hiB:(h.pl i).kd.isB=vF
   ·rw[if_pos hiB]at hd⊢;lia
   ·rw[if_neg hiB]at hd⊢;rcases jy (h.last i) k with z|z
    ·exact z
    ·have e2:h.last i=k:=by lia
     rcases ZBi g h.n i (by lia)with z2|z2
     ·rw[z2]at e2;exact absurd e2 e
     ·rw[e2,hB]at z2;cases z2
 ·rename_i hB;split
  ·rename_i hl;rw[Wr];split
   ·rfl
   ·rename_i hm;refine hf i hi ?_;unfold Hs.done at hd⊢;by_cases hiB:(h.pl i).kd.isB=vF
    ·rw[if_pos hiB]at hd⊢;rcases jy i k with z|z
     ·exact z
     ·have e2:i=k:=by lia
      rw[e2]at hiB;exact absurd hiB hB
    ·rw[if_neg hiB]at hd⊢;rcases jy (h.last i) k with z|z
     ·exact z
     ·exact absurd (mem_iff.mpr ⟨hi,by lia⟩) hm
  ·rename_i hl;refine hf i hi ?_;unfold Hs.done at hd⊢;by_cases hiB:(h.pl i).kd.isB=vF
   ·rw[if_pos hiB]at hd⊢;rcases jy i k with z|z
    ·exact z
    ·have e2:i=k:=by lia
     rw[e2]at hiB;exact absurd hiB hB
   ·rw[if_neg hiB]at hd⊢;rcases jy (h.last i) k with z|z
    ·exact z
    ·have e2:h.last i=k:=by lia
     have:=ZCj g h.n i (by lia);rw[e2]at this;exact absurd this hl
theorem ZBN(g:GoodH h):∀(m k:Nat)(s:Cs),k+m=h.n->(∀i,i<h.n->h.done k i->(s.page i).length=6)->∀i,i<h.n->((h.goF yt lv m k s).page i).length=6
 | 0,k,s,e,hf,i,hi=>hf i hi (by
   unfold Hs.done;split
   ·lia
   ·have:=(Hy g i).2 hi;lia)
 |m+1,k,s,e,hf,i,hi=>ZBN g m (k+1) _ (by lia) (ZS6 g (by lia) hf) i hi
theorem ZIo(g:GoodH h):∀(m k:Nat)(s:Cs),k+m=h.n->s.NN h.n->(h.goF yt lv m k s).NN h.n
 |0,k,s,e,hs=>hs
 |m+1,k,s,e,hs=>ZIo g m (k+1) _ (by lia) (ZH1 g (by lia) hs)
end
noncomputable def lies(pg:Nat->List Int):Nat->Int:=λk=>(pg k).getD 5 0
theorem row6(h:l.length=6):∃a b c d e f,l=[a,b,c,d,e,f]:=by
 match l,h with
 |[a,b,c,d,e,f],_=>exact⟨a,b,c,d,e,f,rfl⟩
section
variable{G:DH}{h:Hs}{LV:D}{yt:Int}{s:Cs}
theorem ZMN(hf:∀k,k<h.n->(s.page k).length=6):Fw (G.length+(3+h.n)) (gV 0) Bd Ub (Ax 1 [] S) h.n 0 (csH G h.n h.enc LV yt s)=.ok (tab h.n (lies s.page)) (csH G h.n h.enc LV yt s):=by
 have hx:=ZEZ (i:=G.length+(3+h.n)) (g:=gV 0) (c:=Bd) (te:=Ub) (S:=Ax 1 [] S) (G:=csH G h.n h.enc LV yt s) (F:=λd=>match d with | .tup [_,_,_,_,_,x]=>vD x|_=>vE) K1 (λx hx=>by obtain⟨k,hk,rfl⟩:=zM.mp hx;obtain⟨a,b,c,d,e,f,el⟩:=row6 (hf k (qq.mp hk));rw[el];refine⟨[vD (Il [a,b,c,d,e,f])],by simp[Ax],.inr ⟨rfl,.int f,?_,rfl⟩⟩;unfold Ub;simp[Il])
 rw[ZPq]at hx;rw[hx]
 congr 1
 unfold Ci;rw[qx];unfold tab;rw[<-qA];refine Tr λk hk=>?_
 obtain⟨a,b,c,d,e,f,el⟩:=row6 (hf k (qq.mp hk));simp[Function.comp,el,Il,lies]
theorem ZON:Fw (G.length+(2+h.n)) (gV 0) Bd Uj (Ax 1 [] S) h.n 0 (csH G h.n h.enc LV yt s)=.ok (Am h.n s.coming) (csH G h.n h.enc LV yt s):=by
 have hlen:(Dq G.length h.n).length=h.n:=by simp[Dq]
 have hx:=ZEZ (i:=G.length+(2+h.n)) (g:=gV 0) (c:=Bd) (te:=Uj) (S:=Ax 1 [] S) (G:=csH G h.n h.enc LV yt s) (F:=λd=>match d with | .ref j=>zT (tab 5 (s.coming (j-(G.length+2))))|_=>vE) Ti (λx hx=>by
  obtain⟨k,hk,rfl⟩:=zM.mp hx;refine⟨[zR (G.length+(2+k))],by simp[Ax],.inr ⟨rfl,.tup (tab 5 (s.coming k)),?_,?_⟩⟩
  ·unfold Uj;simp[Z4 (qq.mp hk)]
  ·have e:G.length+(2+k)-(G.length+2)=k:=by lia
   simp only[e])
 rw[hlen]at hx;rw[hx]
 congr 1
 unfold Dq;rw[qx];unfold Am;rw[<-qA];refine Tr λk hk=>?_
 have e:G.length+(2+k)-(G.length+2)=k:=by lia
 simp only[Function.comp,e]
theorem ZKp(g:GoodH h)(hf:∀k,k<h.n->(s.page k).length=6):Tf [.ref G.length] (csH G h.n h.enc LV yt s)=.ok (stD h.n (lies s.page) s.coming) (csH G h.n h.enc LV yt s):=by
 have hn:=g.len;have hnl:h.n<=1000000:=by lia
 have hl2:(Dq G.length h.n).length=h.n:=by simp[Dq]
 have hb:bel (csH G h.n h.enc LV yt s).length (stD h.n (lies s.page) s.coming)=vF:=by simp[stD]
 unfold Tf ZDe;rw[Ay];unfold stD at hb⊢;have i1:Gb (.ref (G.length+(3+h.n))) (csH G h.n h.enc LV yt s)=.ok (.mt (G.length+(3+h.n))) (csH G h.n h.enc LV yt s):=by simp[Gb,K1]
 have i2:Gb (.ref (G.length+(2+h.n))) (csH G h.n h.enc LV yt s)=.ok (.mt (G.length+(2+h.n))) (csH G h.n h.enc LV yt s):=by simp[Gb,Ti]
 simp[i1,i2,M6,K1,ZMN hf,Ah,hnl,Rf,An,ZHa,Ti,hl2,ZON,Be]
def Hs.cs(h:Hs)(lv:Nat->Int)(co:Nat->Nat->Int)(at_:Int)(fl:Nat->Int):Cs:=h.goF (at_%h.yr) lv h.n 0 (cs0 co fl)
theorem ZJR{n:Nat}{fl:Nat->Int}(hc:∀k j,k<n->j<5->0<=co k j)(hf:∀k,k<n->0<=fl k):(cs0 co fl).NN n:=by
 refine⟨λk hk=>?_,λk j hk hj=>?_⟩
 ·have:=hc k 0 hk (by lia);have:=hf k hk;show 0<=fl k+co k 0;lia
 ·show 0<=if j<4 then co k (j+1)else 0
  split
  ·exact hc k (j+1) hk (by lia)
  ·exact zH _
theorem ZNE(g:GoodH h){fl:Nat->Int}:∀k,k<h.n->((h.cs lv co at_ fl).page k).length=6:=ZBN g h.n 0 _ (by lia) λi hi hd=>by
 unfold Hs.done at hd
 split at hd<;>lia
theorem ZMg(g:GoodH h){fl:Nat->Int}(hc:∀k j,k<h.n->j<5->0<=co k j)(hf:∀k,k<h.n->0<=fl k)(G:DH):
  R0 [h.enc,stD h.n lv co,.int at_,.tup (tab h.n fl)] G=.ok (.tup [.tup (Ci h.n (h.cs lv co at_ fl).page),stD h.n (lies (h.cs lv co at_ fl).page) (h.cs lv co at_ fl).coming]) G:=by
 have hgo:=ZPx (G:=G) (lv:=lv) (yt:=at_%h.yr) g (ZJR (fl:=fl) hc hf) rfl;have hst:=ZKp (G:=G) (LV:=.tup (tab h.n lv)) (yt:=at_%h.yr) g (ZNE g (lv:=lv) (fl:=fl) (co:=co) (at_:=at_));have hmk:W0 Py "Course" [h.enc,stD h.n lv co,.int at_,.tup (tab h.n fl)] G=.ok (.ref G.length) (csH G h.n h.enc (.tup (tab h.n lv)) (at_%h.yr) (cs0 co fl)):=by
  unfold W0;rw[ZNP g]
  rfl
 have egs:h.goF (at_%h.yr) lv h.n 0 (cs0 co fl)=h.cs lv co at_ fl:=rfl;rw[egs]at hgo;have hcH:∀s,csH G h.n h.enc (.tup (tab h.n lv)) (at_%h.yr) s=G++csT G.length h.n h.enc (.tup (tab h.n lv)) (at_%h.yr) s:=λ_=>rfl
 have hbl:bel G.length (.tup [.tup (Ci h.n (h.cs lv co at_ fl).page),stD h.n (lies (h.cs lv co at_ fl).page) (h.cs lv co at_ fl).coming])=vF:=by simp[stD]
 unfold R0 ZGW;rw[Ay];simp[hmk,J7 ZND,hgo,M6,K1,J7 ZQT,hst,An];rw[hcH];exact Lq hbl
end
theorem ZM9(hf:Cf ns f):∃u:Int,(u=1∨u=1000000000000000000000000000000)/\Cu ns u:=by
 have h0:∀G,Bc [nD ns,.int 0] G=.ok (.int (f 0)) G:=hf 0 (by lia);have fz:∀G:DH,freeze G (.ok (.ref G.length) (G++[.lst [.int 1,.int 1,.int 1000000000000000000000000000000]]))=.ok (.fl [.int 1,.int 1,.int 1000000000000000000000000000000]) G:=λG=>Dg rfl
 rcases(by lia:f 0/840%3=0∨f 0/840%3=1∨f 0/840%3=2)with h|h|h
 ·refine⟨1,.inl rfl,λG=>?_⟩;unfold Hj Ri;rw[Ay];simp[h0,h,Ah,fz,Be]
 ·refine⟨1,.inl rfl,λG=>?_⟩;unfold Hj Ri;rw[Ay];simp[h0,h,Ah,fz,Be]
 ·refine⟨1000000000000000000000000000000,.inr rfl,λG=>?_⟩;unfold Hj Ri;rw[Ay];simp[h0,h,Ah,fz,Be]
noncomputable def amt(c u:Int):Int:=u*(c%7)+c/7%u
theorem Ou(hu:0<u):0<=amt c u:=by unfold amt;have h1:0<=u*(c%7):=jD (by lia) (by lia);have h2:0<=c/7%u:=qS _ (by lia);lia
theorem Jh(hu:0<u)(G:DH):Ij [.int c,.int u] G=.ok (.int (amt c u)) G:=by
 have m1:∀G,Ak (.int u) (.int (c%7)) G=.ok (.int (u*(c%7))) G:=λG=>Hd (by lia) (by lia)
 unfold Ij ZFX;rw[Ay];simp[m1,hu,Be,amt]
def Kz(xs:Nat->Int)(u:Int)(p:Bool):Nat->Nat->Int->List Stp
 |0,_,_=>[]
 |n+1,j,low=>⟨low+u*(xs (1+j)%4),1+u*(xs (1+j)/4%4), !(p&&decide (xs (1+j)/16%2=1))⟩::Kz xs u p n (j+1) (low+u*(xs (1+j)%4)+(1+u*(xs (1+j)/4%4)))
theorem ZG5{xs:Nat->Int}(hu:0<u){p:Bool}:∀(n j:Nat)(low:Int),Good low (Kz xs u p n j low)
 |0,_,_=>trivial
 |n+1,j,low=>by have h1:0<=u*(xs (1+j)%4):=jD (by lia) (by lia);have h2:0<=u*(xs (1+j)/4%4):=jD (by lia) (by lia);exact⟨by show low<=low+_;lia,by show 1<=1+_;lia,ZG5 hu n (j+1) _⟩
theorem ZG8{xs:Nat->Int}:∀(n j:Nat)(low:Int),∀s∈Kz xs u vG n j low,s.r=vF
 |0,_,_,s,h=>by cases h
 |n+1,j,low,s,h=>by
  rcases zq.mp h with rfl|h
  ·simp
  ·exact ZG8 n (j+1) _ s h
theorem ZJv{xs:Nat->Int}{u:Int}{p:Bool}{G:DH}:∀(n j:Nat)(low:Int)(acc:List Stp)(x y z:Option D),j+n<=3->acc.length+n<=10->∃x' y' z' l',
  Aq (gV 5) Ph (Bg j n) [zF (tab 4 xs),zI u,zB p,zR G.length,zI low,x,y,z] (G++[.lst (acc.map Stp.enc)])=
   .nx [zF (tab 4 xs),zI u,zB p,zR G.length,l',x',y',z'] (G++[.lst ((acc++Kz xs u p n j low).map Stp.enc)])
 |0,j,low,acc,x,y,z,h,ha=>⟨x,y,z,zI low,by rw[H7,Cp];simp[Kz]⟩
 | n+1,j,low,acc,x,y,z,h,ha=>by
  have hj:1+j<4:=by lia
  have a1:atI (tab 4 xs) (1+(j:Int))=zI (xs (1+j)):=Dk (k:=1+j) (by lia) (Kc hj);let s:Stp:=⟨low+u*(xs (1+j)%4),1+u*(xs (1+j)/4%4), !(p&&decide (xs (1+j)/16%2=1))⟩;obtain⟨x',y',z',l',ih⟩:=ZJv (xs:=xs) (u:=u) (p:=p) (G:=G) n (j+1) (s.h+s.m) (acc++[s]) (zI j) (zI s.m) (zS (wy s.r)) (by lia) (by simp;lia);refine⟨x',y',z',l',?_⟩;have m1:∀G,Ak (.int u) (.int (xs (1+j)%4)) G=.ok (.int (u*(xs (1+j)%4))) G:=λG=>Hd (by lia) (by lia)
  have m2:∀G,Ak (.int u) (.int (xs (1+j)/4%4)) G=.ok (.int (u*(xs (1+j)/4%4))) G:=λG=>Hd (by lia) (by lia)
  have hal:acc.length<1000000:=by lia
  have hb:Ph [zF (tab 4 xs),zI u,zB p,zR G.length,zI low,zI j,y,z] (G++[.lst (acc.map Stp.enc)])=
    .nx [zF (tab 4 xs),zI u,zB p,zR G.length,zI (s.h+s.m),zI j,zI s.m,zS (wy s.r)] (G++[.lst ((acc++[s]).map Stp.enc)]):=by
   unfold Ph;cases p with
   |false=>simp[a1,m1,m2,Cv,Ea,hal,An,s,Stp.enc,wy]
   |true=>
    by_cases h16:xs (1+j)/16%2=1
    ·simp[a1,m1,m2,h16,Cv,Ea,hal,An,s,Stp.enc,wy]
    ·simp[a1,m1,m2,h16,Cv,Ea,hal,An,s,Stp.enc,wy]
  rw[G9,Bu];simp only[Cg,R.By,qj,hb,Cm];have e1:((j:Int)+1)=((j+1:Nat):Int):=by lia
  rw[e1,ih];simp[Kz,s]
def stps(xs:Nat->Int)(u:Int)(p:Bool):List Stp:=Kz xs u p (xs 0%4).toNat 0 0
theorem ZD2{xs:Nat->Int}{p:Bool}(G:DH):V8 [.fl (tab 4 xs),.int u,.bl p] G=.ok (.tup ((stps xs u p).map Stp.enc)) G:=by
 have hn:(xs 0%4).toNat<=3:=by lia
 obtain⟨x',y',z',l',hL⟩:=ZJv (xs:=xs) (u:=u) (p:=p) (G:=G) (xs 0%4).toNat 0 0 [] vE vE vE (by lia) (by simp;lia);have hL':Aq (gV 5) Ph (Bg 0 (xs 0%4).toNat) [zF (tab 4 xs),zI u,zB p,zR G.length,zI 0,vE,vE,vE] (G++[.lst []])=.nx [zF (tab 4 xs),zI u,zB p,zR G.length,l',x',y',z'] (G++[.lst ((stps xs u p).map Stp.enc)]):=hL;have a0:atI (tab 4 xs) 0=zI (xs 0):=Dk (k:=0) rfl (Kc (by lia))
 have hr:inR (xs 0%4):=Ef (by lia) (by lia);unfold V8 ZDT;rw[Ay];simp[Ah,Ds,a0,hr,hL',Cv,Lq]
def Dp(st:List Stp):Int:=match st with
 |[]=>0
 |s::r=>(if s.r then 0 else s.m)+Dp r
theorem ZJi{c:D}{G:DH}:∀(st:List Stp)(v:Int)(x y z:Option D),∃x' y' z',Aq (Ao 3 (Ae (gV 2) (Ae (gV 3) (Ae (gV 4) Aw)))) Rt (st.map Stp.enc) [vD c,zI v,x,y,z] G=.nx [vD c,zI (v+Dp st),x',y',z'] G
 |[],v,x,y,z=>⟨x,y,z,by simp[Dp,Cp]⟩
 | s::st,v,x,y,z=>by
  let v1:Int:=v+if s.r then 0 else s.m
  obtain⟨x',y',z',ih⟩:=ZJi (c:=c) (G:=G) st v1 (zI s.h) (zI s.m) (zS (wy s.r));refine⟨x',y',z',?_⟩;have hb:Rt [vD c,zI v,zI s.h,zI s.m,zS (wy s.r)] G=.nx [vD c,zI v1,zI s.h,zI s.m,zS (wy s.r)] G:=by
   unfold Rt
   cases e:s.r<;>simp[v1,e]
  rw[zw,Bu];simp[Stp.enc,hb];rw[ih];simp[Dp,v1,Int.add_assoc]
theorem ZQP(G:DH):R3 [.tup (st.map Stp.enc)] G=.ok (.int (Dp st)) G:=by obtain⟨x',y',z',hL⟩:=ZJi (c:=.tup (st.map Stp.enc)) (G:=G) st 0 vE vE vE;unfold R3 ZDB;rw[Ay];simp at hL;simp[hL,Be]
theorem ZSR(hf:Cf ns f):∃y:Int,(1<=y/\y<=24)/\∀G,Mx [nD ns] G=.ok (.int y) G:=by have h1:∀G,Bc [nD ns,.int 1] G=.ok (.int (f 1)) G:=hf 1 (by lia);refine⟨1+f 1%4,by lia,λG=>?_⟩;unfold Mx ZFZ;rw[Ay];simp[h1,Be]
def Ed(lat:Nat->Int)(cel:Nat->Nat->Int)(u:Int)(p:Bool)(yr:Int):Nat->Nat->Int->List Ssn
 |0,_,_=>[]
 |m+1,j,bg=>if j=0∨(lat j%2=1/\bg+1<yr)then(if 0<j then bg+1+lat j/2%(yr-bg-1)else bg,stps (cel j) u p)::Ed lat cel u p yr m (j+1) (if 0<j then bg+1+lat j/2%(yr-bg-1)else bg)
  else Ed lat cel u p yr m (j+1) bg
theorem ZCS{lat:Nat->Int}{cel:Nat->Nat->Int}(hu:0<u){p:Bool}:∀(m j:Nat)(bg:Int),∀s∈Ed lat cel u p yr m j bg,Good 0 s.2/\(p=vG->∀t∈s.2,t.r=vF)
 |0,_,_,s,h=>by cases h
 | m+1,j,bg,s,h=>by
  unfold Ed at h;split at h
  ·rcases zq.mp h with rfl|h
   ·refine⟨ZG5 hu _ _ _,λhp=>?_⟩;subst hp;exact ZG8 _ _ _
   ·exact ZCS hu m (j+1) _ s h
  ·exact ZCS hu m (j+1) _ s h
theorem Tj{lat:Nat->Int}{cel:Nat->Nat->Int}{u:Int}{p:Bool}{yr:Int}:∀(m j:Nat)(bg:Int),0<j->bg<yr->(∀s∈Ed lat cel u p yr m j bg,bg<s.1/\s.1<yr)/\(Ed lat cel u p yr m j bg).Pairwise (λa b:Ssn=>a.1<b.1)
 |0,_,_,_,_=>⟨λs h=>(nomatch h),List.Pairwise.nil⟩
 | m+1,j,bg,hj,hb=>by
  unfold Ed;split
  ·rename_i hc;have hc2:bg+1<yr:=by
    rcases hc with z|z
    ·lia
    ·exact z.2
   have h1:0<=lat j/2%(yr-bg-1):=qS _ (by lia);have h2:lat j/2%(yr-bg-1)<yr-bg-1:=jZ _ (by lia);obtain⟨i1,i2⟩:=Tj (lat:=lat) (cel:=cel) (u:=u) (p:=p) (yr:=yr) m (j+1) (bg+1+lat j/2%(yr-bg-1)) (by lia) (by lia);refine⟨λs hs=>?_,List.pairwise_cons.mpr ⟨λs hs=>(i1 s hs).1,i2⟩⟩;rcases zq.mp hs with rfl|hs
   ·exact⟨by show bg<bg+1+_;lia,by show bg+1+_<yr;lia⟩
   ·have:=i1 s hs;lia
  ·exact Tj m (j+1) bg (by lia) hb
theorem Kv{n:Nat}{F:Nat->D}(h:∀k:Nat,k<n->te (S.set 0 (zI k)) G=.ok (F k) G):Ck (gV 0) Bd te S (Bg 0 n) G=.ok ((zQ n).map F) G:=by
 have e:Bg 0 n=(zQ n).map λ(i:Nat)=>D.int (i:Int):=by
  refine jC λi=>?_
  simp[Bg]
 rw[Qm (F:=λd=>match d with | .int i=>vD (F i.toNat)|_=>vE) (λq hq=>?_)]
 ·congr 1
  rw[e,qx];show(zQ n).filterMap (λ(i:Nat)=>vD (F ((i:Int).toNat)))=_;rw[qA];simp
 ·rw[e]at hq;obtain⟨i,hi,rfl⟩:=zM.mp hq;exact⟨S.set 0 (zI i),by simp,.inr ⟨rfl,F i,h i (qq.mp hi),by simp⟩⟩
noncomputable def N7:Nat->Int
 |0=>1
 |1=>48
 |2=>2304
 |_=>110592
noncomputable def Pa:Nat->Int
 |0=>1
 |1=>64
 |2=>4096
 |_=>262144
theorem ZGQ(hf:Cf ns f){b:Nat}(hb:b<=900)(hj:j<4)(G:DH):
  Ck (gV 0) Bd ZCe [vE,zN ns,zI b,zI j] (Bg 0 4) G=.ok (tab 4 λk=>f (b+5+(3*j+k)%6)/(1+7*((j:Int)/2))) G:=
 Kv (n:=4) (F:=λk=>.int (f (b+5+(3*j+k)%6)/(1+7*((j:Int)/2)))) λk hk=>by
  have h1:=hf (b+5+(3*j+k)%6) (by lia) G;have e1:((b+5+(3*j+k)%6:Nat):Int)=(b:Int)+5+(3*(j:Int)+k)%6:=by lia
  rw[e1]at h1;unfold ZCe
  rcases(by lia:j=0∨j=1∨j=2∨j=3)with rfl|rfl|rfl|rfl<;>simp at h1⊢<;> simp[h1]
theorem ZM0(hf:Cf ns f){b:Nat}(hb:b<=900)(hj:j<4)(G:DH):
  Ck (gV 0) Bd Xz [vE,zN ns,zI b,zI j] (Bg 0 4) G=.ok (tab 4 λk=>f (b+5+k)/Pa j) G:=
 Kv (n:=4) (F:=λk=>.int (f (b+5+k)/Pa j)) λk hk=>by
  have h1:=hf (b+5+k) (by lia) G;have e1:((b+5+k:Nat):Int)=(b:Int)+5+k:=by lia
  rw[e1]at h1;have fz:freeze G (.ok (.ref G.length) (G++[.lst [.int 1,.int 64,.int 4096,.int 262144]]))=.ok (.fl [.int 1,.int 64,.int 4096,.int 262144]) G:=Dg rfl;unfold Xz
  rcases(by lia:j=0∨j=1∨j=2∨j=3)with rfl|rfl|rfl|rfl<;>simp[h1,Ah,fz,Pa]
theorem ZS4(hf:Cf ns f){b:Nat}(hb:b<=900){p:Bool}(hj:j<4):∃(lat:Int)(xs:Nat->Int),∀(G:DH)(bg:Int)(acc:List Ssn)(x y:Option D),acc.length<=10->bg<yr->∃bg' acc',
   Jl [zN ns,zI b,zI u,zB p,zI yr,zR G.length,zI bg,zI j,x,y] (G++[.lst (acc.map Bp)])=
    .nx [zN ns,zI b,zI u,zB p,zI yr,zR G.length,zI bg',zI j,zI lat,zF (tab 4 xs)] (G++[.lst (acc'.map Bp)])/\
   ((j=0∨(lat%2=1/\bg+1<yr))->bg'=(if 0<j then bg+1+lat/2%(yr-bg-1)else bg)/\acc'=acc++[(bg',stps xs u p)])/\
   (¬(j=0∨(lat%2=1/\bg+1<yr))->bg'=bg/\acc'=acc):=by
 obtain⟨tp,ht⟩:=ZEr (ns:=ns);have h4:=hf (b+4) (by lia);have e4:((b+4:Nat):Int)=(b:Int)+4:=by lia
 rw[e4]at h4;let lat:Int:=if tp then f (b+4)/N7 j else f (b+4)*48271*((j:Int)*j+1)%10007
 let xs:Nat->Int:=if tp then λk=>f (b+5+k)/Pa j else λk=>f (b+5+(3*j+k)%6)/(1+7*((j:Int)/2))
 refine⟨lat,xs,λG bg acc x y ha hbg=>?_⟩;have hr:inR 4:=Ef (by lia) (by lia);have hal:acc.length<1000000:=by lia
 have fz:∀ds:List D,(∀m,bels m ds=vF)->freeze (G++[.lst (acc.map Bp)]) (.ok (.ref (G.length+1)) (G++[.lst (acc.map Bp),.lst ds]))=.ok (.fl ds) (G++[.lst (acc.map Bp)]):=λds h=>ZE3 (h _)
 have cs1:∀a b c d e f' g h i j':Option D,Ax 1 [0,1,7] [a,b,c,d,e,f',g,h,i,j']=[vE,a,b,h]:=λ_ _ _ _ _ _ _ _ _ _=>rfl
 have mj:∀G,Ak (.int (j:Int)) (.int (j:Int)) G=.ok (.int ((j:Int)*j)) G:=λG=>G8 (by lia) (by lia)
 have mj2:∀G,Ak (.int (f (b+4)*48271)) (.int ((j:Int)*j+1)) G=.ok (.int (f (b+4)*48271*((j:Int)*j+1))) G:=λG=>Hd (by
   have:=jD (show(0:Int)<=j by lia) (show(0:Int)<=j by lia);lia) (by
   rcases(by lia:j=0∨j=1∨j=2∨j=3)with rfl|rfl|rfl|rfl<;>decide)
 have head:Jl [zN ns,zI b,zI u,zB p,zI yr,zR G.length,zI bg,zI j,x,y] (G++[.lst (acc.map Bp)])=
   Ui [zN ns,zI b,zI u,zB p,zI yr,zR G.length,zI bg,zI j,zI lat,zF (tab 4 xs)] (G++[.lst (acc.map Bp)]):=by
  unfold Jl ZEv ZIr;cases htp:tp with
  |false=>
   have e1:lat=f (b+4)*48271*((j:Int)*j+1)%10007:=by simp[lat,htp]
   have e2:xs=λk=>f (b+5+(3*j+k)%6)/(1+7*((j:Int)/2)):=by simp[xs,htp]
   rw[e1,e2];rw[htp]at ht;simp[h4,mj,mj2,hr,cs1,ZGQ hf hb hj,Ah,fz,ht]
  |true=>
   have e1:lat=f (b+4)/N7 j:=by simp[lat,htp]
   have e2:xs=λk=>f (b+5+k)/Pa j:=by simp[xs,htp]
   rw[e1,e2];rw[htp]at ht;have dv:atI [D.int 1,D.int 48,D.int 2304,D.int 110592] (j:Int)=zI (N7 j):=by rcases(by lia:j=0∨j=1∨j=2∨j=3)with rfl|rfl|rfl|rfl<;>rfl
   have dd:∀G',Bx (.int (f (b+4))) (.int (N7 j)) G'=.ok (.int (f (b+4)/N7 j)) G':=λG'=>by rcases(by lia:j=0∨j=1∨j=2∨j=3)with rfl|rfl|rfl|rfl<;>simp[N7]
   have fz4:freeze (G++[.lst (acc.map Bp)]) (.ok (.ref (G.length+1)) (G++[.lst (acc.map Bp),.lst [D.int 1,D.int 48,D.int 2304,D.int 110592]]))=.ok (.fl [D.int 1,D.int 48,D.int 2304,D.int 110592]) (G++[.lst (acc.map Bp)]):=ZE3 rfl;simp[h4,mj,mj2,hr,cs1,ZGQ hf hb hj,Ah,fz,ht,fz4,dv,dd,ZM0 hf hb hj]
 rw[head]
 clear_value lat xs
 by_cases hc:j=0∨(lat%2=1/\bg+1<yr)
 ·refine⟨_,_,?_,λ_=>⟨rfl,rfl⟩,λz=>absurd hc z⟩;unfold Ui;by_cases h0:j=0
  ·subst h0;simp[ZD2,An,Cv,Ea,hal,Bp]
  ·have hc2:lat%2=1/\bg+1<yr:=by
    rcases hc with z|z
    ·exact absurd z h0
    ·exact z
   have hj0:0<j:=by lia
   have hp:0<yr-bg-1:=by lia
   have hp3:1<yr-bg:=by lia
   simp[h0,hc2.1,hc2.2,hj0,hp3,ZD2,An,Cv,Ea,hal,Bp]
 ·refine⟨bg,acc,?_,λz=>absurd z hc,λ_=>⟨rfl,rfl⟩⟩;have h0:¬j=0:=λz=>hc (.inl z)
  unfold Ui;by_cases h1:lat%2=1
  ·have h2:¬bg+1<yr:=λz=>hc (.inr ⟨h1,z⟩)
   simp[h0,h1,h2]
  ·simp[h0,h1]
theorem Zc{b:Nat}{p:Bool}{lat:Nat->Int}{cel:Nat->Nat->Int}
  (hd:∀j:Nat,j<4->∀(G:DH)(bg:Int)(acc:List Ssn)(x y:Option D),acc.length<=10->bg<yr->∃bg' acc',
   Jl [zN ns,zI b,zI u,zB p,zI yr,zR G.length,zI bg,zI j,x,y] (G++[.lst (acc.map Bp)])=
    .nx [zN ns,zI b,zI u,zB p,zI yr,zR G.length,zI bg',zI j,zI (lat j),zF (tab 4 (cel j))] (G++[.lst (acc'.map Bp)])/\
   ((j=0∨(lat j%2=1/\bg+1<yr))->bg'=(if 0<j then bg+1+lat j/2%(yr-bg-1)else bg)/\acc'=acc++[(bg',stps (cel j) u p)])/\
   (¬(j=0∨(lat j%2=1/\bg+1<yr))->bg'=bg/\acc'=acc)) {G:DH}:∀(m j:Nat)(bg:Int)(acc:List Ssn)(x y z:Option D),j+m=4->acc.length<=j->bg<yr->∃x' y' z' w',
   Aq (gV 7) Jl (Bg j m) [zN ns,zI b,zI u,zB p,zI yr,zR G.length,zI bg,x,y,z] (G++[.lst (acc.map Bp)])=
    .nx [zN ns,zI b,zI u,zB p,zI yr,zR G.length,x',y',z',w'] (G++[.lst ((acc++Ed lat cel u p yr m j bg).map Bp)])
 |0,j,bg,acc,x,y,z,e,ha,hb=>⟨zI bg,x,y,z,by rw[H7,Cp];simp[Ed]⟩
 | m + 1,j,bg,acc,x,y,z,e,ha,hb=>by
  obtain⟨bg',acc',h1,h2,h3⟩:=hd j (by lia) G bg acc y z (by lia) hb;have e1:((j:Int)+1)=((j+1:Nat):Int):=by lia
  by_cases hc:j=0∨(lat j%2=1/\bg+1<yr)
  ·obtain⟨r1,r2⟩:=h2 hc;have hbg:bg'<yr:=by
    rw[r1];split
    ·have h4:bg+1<yr:=by
      rcases hc with z|z
      ·lia
      ·exact z.2
     have h5:lat j/2%(yr-bg-1)<yr-bg-1:=jZ _ (by lia);lia
    ·exact hb
   obtain⟨x',y',z',w',ih⟩:=Zc hd (G:=G) m (j+1) bg' acc' (zI j) (zI (lat j)) (zF (tab 4 (cel j))) (by lia) (by rw[r2];simp;lia) hbg;refine⟨x',y',z',w',?_⟩;rw[G9,Bu];simp only[Cg,R.By,qj,h1,Cm];have er:Ed lat cel u p yr (m+1) j bg=(bg',stps (cel j) u p)::Ed lat cel u p yr m (j+1) bg':=by rw[r1];exact if_pos hc
   rw[e1,ih,r2,er];simp
  ·obtain⟨r1,r2⟩:=h3 hc;obtain⟨x',y',z',w',ih⟩:=Zc hd (G:=G) m (j+1) bg' acc' (zI j) (zI (lat j)) (zF (tab 4 (cel j))) (by lia) (by rw[r2];lia) (by rw[r1];exact hb);refine⟨x',y',z',w',?_⟩;rw[G9,Bu];simp only[Cg,R.By,qj,h1,Cm];rw[e1,ih,r2,r1]
   conv=>rhs;unfold Ed
   rw[if_neg hc]
structure RuleOk (yr:Int) (p:Bool) (r:List Ssn):Prop where
 good:∀s∈r,Good 0 s.2/\(p=vG->∀t∈s.2,t.r=vF)
 cons:∃st rest,r=(0,st)::rest
 asc:r.Pairwise (λa b:Ssn=>a.1<b.1)
 yr:∀s∈r,0<=s.1/\s.1<yr
 len:r.length<=4
theorem ZBj{lat:Nat->Int}{cel:Nat->Nat->Int}{u:Int}{p:Bool}{yr:Int}:∀(m j:Nat)(bg:Int),(Ed lat cel u p yr m j bg).length<=m
 |0,_,_=>zK _
 |m+1,j,bg=>by
  unfold Ed;split
  ·have:=ZBj (lat:=lat) (cel:=cel) (u:=u) (p:=p) (yr:=yr) m (j+1) (if 0<j then bg+1+lat j/2%(yr-bg-1)else bg);simp only[zU];lia
  ·have:=ZBj (lat:=lat) (cel:=cel) (u:=u) (p:=p) (yr:=yr) m (j+1) bg;lia
theorem ZGJ(hf:Cf ns f)(hyr:1<=yr/\yr<=24)(cy:Cy ns yr){b:Nat}(hb:b<=900)(hu:0<u){p:Bool}:
  ∃r:List Ssn,RuleOk yr p r/\∀G,Qw [nD ns,.int b,.int u,.bl p] G=.ok (.tup (r.map Bp)) G:=by
 have ex:∀j:Nat,∃q:Int×(Nat->Int),j<4->∀(G:DH)(bg:Int)(acc:List Ssn)(x y:Option D),acc.length<=10->bg<yr->∃bg' acc',
   Jl [zN ns,zI b,zI u,zB p,zI yr,zR G.length,zI bg,zI j,x,y] (G++[.lst (acc.map Bp)])=
    .nx [zN ns,zI b,zI u,zB p,zI yr,zR G.length,zI bg',zI j,zI q.1,zF (tab 4 q.2)] (G++[.lst (acc'.map Bp)])/\
   ((j=0∨(q.1%2=1/\bg+1<yr))->bg'=(if 0<j then bg+1+q.1/2%(yr-bg-1)else bg)/\acc'=acc++[(bg',stps q.2 u p)])/\
   (¬(j=0∨(q.1%2=1/\bg+1<yr))->bg'=bg/\acc'=acc):=λj=>by
  by_cases hj:j<4
  ·obtain⟨lat,xs,h⟩:=ZS4 (u:=u) (yr:=yr) (p:=p) hf hb hj;exact⟨(lat,xs),λ_=>h⟩
  ·exact⟨(0,λ_=>0),λz=>absurd z hj⟩
 let lat:Nat->Int:=λj=>(ex j).choose.1
 let cel:Nat->Nat->Int:=λj=>(ex j).choose.2
 have hd:=λ(j:Nat)(hj:j<4)=>(ex j).choose_spec hj
 refine⟨Ed lat cel u p yr 4 0 0,⟨ZCS hu 4 0 0,?_,?_,?_,ZBj 4 0 0⟩,λG=>?_⟩
 ·unfold Ed;rw[if_pos (.inl rfl)];exact⟨_,_,rfl⟩
 ·unfold Ed;rw[if_pos (.inl rfl)];obtain⟨i1,i2⟩:=Tj (lat:=lat) (cel:=cel) (u:=u) (p:=p) (yr:=yr) 3 1 0 (by lia) (by lia);exact List.pairwise_cons.mpr ⟨λs hs=>(i1 s hs).1,i2⟩
 ·unfold Ed;rw[if_pos (.inl rfl)];obtain⟨i1,i2⟩:=Tj (lat:=lat) (cel:=cel) (u:=u) (p:=p) (yr:=yr) 3 1 0 (by lia) (by lia);intro s hs;rcases zq.mp hs with rfl|hs
  ·exact⟨zH _,by show(0:Int)<yr;lia⟩
  ·have:=i1 s hs;lia
 ·obtain⟨x',y',z',w',hL⟩:=Zc (lat:=lat) (cel:=cel) hd (G:=G) 4 0 0 [] vE vE vE (by lia) (by simp) (by lia);have hL':Aq (gV 7) Jl (Bg 0 4) [zN ns,zI b,zI u,zB p,zI yr,zR G.length,zI 0,vE,vE,vE] (G++[.lst []])=.nx [zN ns,zI b,zI u,zB p,zI yr,zR G.length,x',y',z',w'] (G++[.lst ((Ed lat cel u p yr 4 0 0).map Bp)]):=hL;have hr:inR 4:=Ef (by lia) (by lia);generalize Ed lat cel u p yr 4 0 0=rl at hL'
  unfold Qw ZIF;rw[Ay];simp[cy,Ah,Ds,hr,hL',Cv,Lq]
noncomputable def Xu:List Nat:=("abcdefghijklmnopqrstuvwxyz":Str).cps.toList
noncomputable def Vr:List Nat:=("abcdefghijkl":Str).cps.toList
theorem ZNz:∀i,i<26->Xu[i]?=vD (97+i):=by decide +kernel
theorem ZSI:∀i,i<12->Vr[i]?=vD (97+i):=by decide +kernel
noncomputable def Dr(l:List Nat):Str:=⟨l.toArray⟩
theorem ZJW{l l':List Nat}(h:Dr l=Dr l'):l=l':=by have h1:=congrArg (λs:Str=>s.cps.toList) h;simpa[Dr]using h1
theorem ZNj{l l':List Nat}:Dr l++Dr l'=Dr (l++l'):=by show Str.append _ _=_;unfold Str.append Dr;simp
theorem ZFq{s:Str}{l:List Nat}(h:s.cps.toList=l):s=Dr l:=by obtain⟨a⟩:=s;unfold Dr;simp only at h;rw[<-h]
theorem ZMd{o:Nat}{n:Int}:Ku ⟨#[o]⟩ n=Dr (zV n.toNat o):=by
 refine ZFq ?_;rw[ZLG];show(zV n.toNat [o]).flatten=_;generalize n.toNat=m
 induction m with
 |zero=>rfl
 |succ m ih=>rw[qV,qH,ih,qV];rfl
noncomputable def ocF(c:Int):Nat:=97+(c/21%26).toNat
noncomputable def tcF(c:Int)(k:Nat):Nat:=97+((5*(k:Int)+c/546)%12).toNat
def Ex(c:Int)(n k:Nat):List Nat:=if c%3=1/\n<9 then zV (k+1) (ocF c)else if c%3=2 then tcF c k::zV (c/3%7).toNat (ocF c)else zV (c/3%7).toNat (ocF c)++tcF c k::zV (6-(c/3%7)).toNat (ocF c)
theorem ZPm{n k:Nat}(hn:n<=12)(hk:k<n)(G:DH):Rm [.int c,.int k,.int n] G=.ok (.str (Dr (Ex c n k))) G:=by
 have a1:atI Xu (c/21%26)=vD (ocF c):=Dk (k:=(c/21%26).toNat) (by lia) (ZNz _ (by lia));have a2:atI Vr ((5*(k:Int)+c/546)%12)=vD (tcF c k):=Dk (k:=((5*(k:Int)+c/546)%12).toNat) (by lia) (ZSI _ (by lia));have l1:("abcdefghijklmnopqrstuvwxyz":Str).length<=1000000:=by decide +kernel
 have l2:("abcdefghijkl":Str).length<=1000000:=by decide +kernel
 have ho:∀m:Int,-1000<=m->m<=1000->∀G,Ak (.str ⟨#[ocF c]⟩) (.int m) G=.ok (.str (Dr (zV m.toNat (ocF c)))) G:=λm h1 h2 G=>by rw[ZP9 ⟨h1,h2,by show(#[ocF c]).size<=1000;simp⟩,ZMd]
 have e1:∀G,Ad (.str ("abcdefghijklmnopqrstuvwxyz":Str)) (.int (c/21%26)) G=R.ok (.str ⟨#[ocF c]⟩) G:=λG=>by
  rw[Ni,if_pos l1]
  show(match atI Xu (c/21%26)with |some c=>R.ok (sgn c) G|none=>.bad)=_
  rw[a1]
  rfl
 have e2:∀G,Ad (.str ("abcdefghijkl":Str)) (.int ((5*(k:Int)+c/546)%12)) G=R.ok (.str (Dr [tcF c k])) G:=λG=>by
  rw[Ni,if_pos l2]
  show(match atI Vr ((5*(k:Int)+c/546)%12)with |some c=>R.ok (sgn c) G|none=>.bad)=_
  rw[a2]
  rfl
 have hadd:∀(l l':List Nat)(G:DH),l.length+l'.length<=1000000->Ai (.str (Dr l)) (.str (Dr l')) G=.ok (.str (Dr (l++l'))) G:=λl l' G h=>by
  have e:Ai (.str (Dr l)) (.str (Dr l')) G=if(Dr l).length+(Dr l').length<=1000000 then .ok (.str (Dr l++Dr l')) G else .bad:=rfl
  rw[e,if_pos (by show l.toArray.size+l'.toArray.size<=1000000;simpa using h),ZNj]
 unfold Rm ZHR;rw[Ay];by_cases h1:c%3=1
 ·by_cases h9:n<9
  ·have en:Ex c n k=zV (k+1) (ocF c):=if_pos ⟨h1,h9⟩;have hk2:=ho ((k:Int)+1) (by lia) (by lia);have ek:((k:Int)+1).toNat=k+1:=by lia
   rw[ek]at hk2;rw[en];have h9':(n:Int)<9:=by lia
   simp[-Ni,e1,h1,h9',hk2,Be]
  ·have en:Ex c n k=zV (c/3%7).toNat (ocF c)++tcF c k::zV (6-(c/3%7)).toNat (ocF c):=by unfold Ex;rw[if_neg (λz=>h9 z.2),if_neg (by lia)]
   have r1:=ho (c/3%7) (by lia) (by lia);have r2:=ho (6-(c/3%7)) (by lia) (by lia);have d1:=λG=>hadd (zV (c/3%7).toNat (ocF c)) [tcF c k] G (by simp;lia)
   have d2:=λG=>hadd (zV (c/3%7).toNat (ocF c)++[tcF c k]) (zV (6-(c/3%7)).toNat (ocF c)) G (by simp;lia)
   have ea:zV (c/3%7).toNat (ocF c)++[tcF c k]++zV (6-(c/3%7)).toNat (ocF c)=Ex c n k:=by rw[en];simp
   rw[ea]at d2;have h9':¬(n:Int)<9:=by lia
   simp[-Ni,e1,e2,h1,h9',r1,r2,d1,d2,Be]
 ·by_cases h2:c%3=2
  ·have en:Ex c n k=tcF c k::zV (c/3%7).toNat (ocF c):=by unfold Ex;rw[if_neg (λz=>h1 z.1),if_pos h2]
   have r1:=ho (c/3%7) (by lia) (by lia);have d1:=λG=>hadd [tcF c k] (zV (c/3%7).toNat (ocF c)) G (by simp;lia)
   have ea: [tcF c k]++zV (c/3%7).toNat (ocF c)=Ex c n k:=by rw[en];rfl
   rw[ea]at d1;simp[-Ni,e1,e2,h2,r1,d1,Be]
  ·have en:Ex c n k=zV (c/3%7).toNat (ocF c)++tcF c k::zV (6-(c/3%7)).toNat (ocF c):=by unfold Ex;rw[if_neg (λz=>h1 z.1),if_neg h2]
   have r1:=ho (c/3%7) (by lia) (by lia);have r2:=ho (6-(c/3%7)) (by lia) (by lia);have d1:=λG=>hadd (zV (c/3%7).toNat (ocF c)) [tcF c k] G (by simp;lia)
   have d2:=λG=>hadd (zV (c/3%7).toNat (ocF c)++[tcF c k]) (zV (6-(c/3%7)).toNat (ocF c)) G (by simp;lia)
   have ea:zV (c/3%7).toNat (ocF c)++[tcF c k]++zV (6-(c/3%7)).toNat (ocF c)=Ex c n k:=by rw[en];simp
   rw[ea]at d2;simp[-Ni,e1,e2,h1,h2,r1,r2,d1,d2,Be]
theorem ZHf{k k':Nat}(hk:k<12)(hk':k'<12)(h:tcF c k=tcF c k'):k=k':=by unfold tcF at h;omega +splitNatSub
theorem ZSd{n k k':Nat}(hn:n<=12)(hk:k<n)(hk':k'<n)(h:Ex c n k=Ex c n k'):k=k':=by
 unfold Ex at h;split at h
 ·have:=congrArg xq h;simp at this;exact this
 ·split at h
  ·exact ZHf (by lia) (by lia) (List.cons.inj h).1
  ·have:=List.append_cancel_left h;exact ZHf (by lia) (by lia) (List.cons.inj this).1
theorem ZOD:("sea":Str)=Dr [115,101,97]:=by decide +kernel
theorem ZQR{n k:Nat}:Dr (Ex c n k)≠"sea":=λh=>by
 rw[ZOD]at h;have h:=ZJW h;unfold Ex at h;split at h
 ·have h1:∀x∈[115,101,97],x=ocF c:=λx hx=>by rw[<-h]at hx;exact List.eq_of_mem_replicate hx
  have a:=h1 115 (by simp);have b:=h1 101 (by simp);lia
 ·split at h
  ·have:=(List.cons.inj h).1;unfold tcF at this;lia
  ·have:=congrArg xq h;simp at this;lia
theorem K4{te:DE}{S:DSt}{E:α->D}{F:α->D}{G:DH}:∀{l:List α},(∀a∈l,te (S.set 0 (vD (E a))) G=.ok (F a) G)->Ck (gV 0) Bd te S (l.map E) G=.ok (l.map F) G
 |[],_=>rfl
 |a::l,h=>by
  have h1:=h a (by simp);have ih:=K4 (te:=te) (S:=S) (E:=E) (F:=F) (G:=G) (l:=l) λb hb=>h b (zZ _ hb)
  rw[zw,ZCC];simp[h1,ih]
def Bf(nm:Nat->Str)(n:Nat):List D:=(zQ n).map λk=>.str (nm k)
theorem Qv{n k:Nat}(h:k<n):atI (Bf nm n) (k:Int)=zS (nm k):=Dk rfl (by simp[Bf,h])
theorem U6{n:Nat}:(Bf nm n).length=n:=by simp[Bf]
@[simp]theorem ZQi{n:Nat}:bels m (Bf nm n)=vF:=Ec λ_ _=>rfl
noncomputable def Gf(nm:Nat->Str):Option (Nat×Nat×Int)->D
 |none=>.non
 |some (to,dl,m)=>.tup [.str (nm to),.int dl,.int m]
@[simp]theorem ZVW:bel m (Gf nm q)=vF:=by
 cases q with
 |none=>rfl
 |some q=>obtain⟨a,b,c⟩:=q;simp[Gf]
theorem ZSY(hf:Cf ns f)(hyr:1<=yr/\yr<=24)(cy:Cy ns yr)(hu:0<u)(cu:Cu ns u){b k n:Nat}(hb:b<=900)(hk:k<n)(hn:n<=12){d:Str}{dl:Int}:
  ∃(r:List Ssn)(q:Option (Nat×Nat×Int)),RuleOk yr q.isSome r/\(∀to dl m,q=vD (to,dl,m)->to<n/\1<=dl/\dl<=5)/\
   ∀G,O1 [nD ns,.int b,.int k,.fl (Bf nm n),.tup [.str d,.int dl]] G=.ok (.tup [.str "basin",.str (nm k),.str d,.int dl,.int (amt (f (b+3)) u),.tup (r.map Bp),Gf nm q]) G:=by
 have h11:∀G,Bc [nD ns,.int ((b:Int)+11)] G=.ok (.int (f (b+11))) G:=λG=>by have:=hf (b+11) (by lia) G;rwa[show((b+11:Nat):Int)=(b:Int)+11 by lia]at this
 have h3:∀G,Bc [nD ns,.int ((b:Int)+3)] G=.ok (.int (f (b+3))) G:=λG=>by have:=hf (b+3) (by lia) G;rwa[show((b+3:Nat):Int)=(b:Int)+3 by lia]at this
 have ak:atI (Bf nm n) (k:Int)=zS (nm k):=Qv hk;have fu:∀G,freeze G (.ok (.int u) G)=.ok (.int u) G:=λG=>Ho rfl
 generalize f (b+11)=c at h11;have pre:∀G,ZCt [zN ns,zI b,zI k,zF (Bf nm n),zT [.str d,.int dl],vE,vE,vE,vE,vE,vE,vE,vE] G=
   Kf [zN ns,zI b,zI k,zF (Bf nm n),zT [.str d,.int dl],zI u,zI c,zB (decide (1<n/\c%2=1)),vE,vE,vE,vE,vE] G:=λG=>by
  have t:∀S:DSt,S[3]?=vD (zF (Bf nm n))->S[6]?=vD (zI c)->Jd (dOp Gp (dFn Bo (Aa (dV 3) Ab)) (dC (.int 1))) (dOp Bl (dOp Az (dV 6) (dC (.int 2))) (dC (.int 1))) S G=.ok (.bl (decide (1<n/\c%2=1))) G:=λS h1 h2=>by
   by_cases hn1:1<n
   ·have hn1':(1:Int)<n:=by lia
    simp[dV,h1,h2,U6,hn1,hn1']
   ·have hn1':¬(1:Int)<n:=by lia
    simp[dV,h1,h2,U6,hn1,hn1']
  unfold ZCt ZIg ZJp;generalize Jd (dOp Gp (dFn Bo (Aa (dV 3) Ab)) (dC (.int 1))) (dOp Bl (dOp Az (dV 6) (dC (.int 2))) (dC (.int 1)))=te at t;generalize Bf nm n=NM at t;simp[cu,fu,h11,t]
 have fin:∀(r:List Ssn)(q:Option (Nat×Nat×Int))(s6 s7 x10 x11:Option D)(G:DH),K8 [zN ns,zI b,zI k,zF (Bf nm n),zT [.str d,.int dl],zI u,s6,s7,zT (r.map Bp),vD (Gf nm q),x10,x11,vE] G=.rt (.tup [.str "basin",.str (nm k),.str d,.int dl,.int (amt (f (b+3)) u),.tup (r.map Bp),Gf nm q]) G:=λr q s6 s7 x10 x11 G=>by generalize r.map Bp=RR;generalize Gf nm q=PQ;generalize Bf nm n=NM at ak;unfold K8 ZJG;simp[h3,Jh hu,ak,An]
 have cl:∀G,O1 [nD ns,.int b,.int k,.fl (Bf nm n),.tup [.str d,.int dl]] G=tidy G ((Kf [zN ns,zI b,zI k,zF (Bf nm n),zT [.str d,.int dl],zI u,zI c,zB (decide (1<n/\c%2=1)),vE,vE,vE,vE,vE] G).ret):=λG=>by
  rw[<-pre];unfold O1;rw[Ay]
  rfl
 have td:∀(r:List Ssn)(q:Option (Nat×Nat×Int))(G:DH),tidy G ((SR.rt (.tup [.str "basin",.str (nm k),.str d,.int dl,.int (amt (f (b+3)) u),.tup (r.map Bp),Gf nm q]) G).ret)=.ok (.tup [.str "basin",.str (nm k),.str d,.int dl,.int (amt (f (b+3)) u),.tup (r.map Bp),Gf nm q]) G:=λr q G=>by simp[Be]
 by_cases hp:1<n/\c%2=1
 ·obtain⟨r,hr,cr⟩:=ZGJ (ns:=ns) (f:=f) hf hyr cy hb hu (p:=vF);obtain⟨st,rest,er⟩:=hr.cons;have hx0:0<=c/2%((n:Int)-1):=qS _ (by lia);have ht0:0<=((k:Int)+1+c/2%((n:Int)-1))%n:=qS _ (by lia);have ht1:((k:Int)+1+c/2%((n:Int)-1))%n<n:=jZ _ (by lia);generalize ht:((k:Int)+1+c/2%((n:Int)-1))%n=t at ht0 ht1;have at_:atI (Bf nm n) t=zS (nm t.toNat):=by have:=Qv (nm:=nm) (n:=n) (k:=t.toNat) (by lia);rwa[show((t.toNat:Nat):Int)=t by lia]at this
  have mx:∀G,Hq [.fl (r.map λs=>.int (Dp s.2))] G=.ok (.int ((rest.map λs=>Dp s.2).foldl max (Dp st))) G:=λG=>ZHz (by rw[er];simp[Bh])
  have m2:∀G,Ak (.int u) (.int (c/130%2)) G=.ok (.int (u*(c/130%2))) G:=λG=>Hd (by lia) (by lia)
  have cp:∀(G:DH),Ck (gV 0) Bd Vo [vE] (r.map Bp) G=.ok (r.map λs=>.int (Dp s.2)) G:=λG=>K4 λs _=>by unfold Vo;simp[Bp,ZQP]
  have fz:∀G:DH,freeze G (.ok (.ref G.length) (G++[.lst (r.map λs=>.int (Dp s.2))]))=.ok (.fl (r.map λs=>.int (Dp s.2))) G:=λG=>Dg (Ec λ_ _=>rfl)
  have hd:((1+c/26%5).toNat:Int)=1+c/26%5:=by lia
  refine⟨r,vD (t.toNat,(1+c/26%5).toNat,(rest.map λs=>Dp s.2).foldl max (Dp st)+u*(c/130%2)),hr,?_,λG=>?_⟩
  ·intro to dl m e;cases e;lia
  ·have h1':0<(n:Int)-1:=by lia
   have h1:(1:Int)<n:=by lia
   have hn0:0<(n:Int):=by lia
   have hn0':0<n:=by lia
   have hrl:(r.map Bp).length<=1000000:=by have:=hr.len;simp;lia
   have lr:(r.map λs=>D.int (Dp s.2)).length<=1000000:=by have:=hr.len;simp;lia
   have mid:Kf [zN ns,zI b,zI k,zF (Bf nm n),zT [.str d,.int dl],zI u,zI c,zB vF,vE,vE,vE,vE,vE] G=
     K8 [zN ns,zI b,zI k,zF (Bf nm n),zT [.str d,.int dl],zI u,zI c,zB vF,zT (r.map Bp),vD (Gf nm (vD (t.toNat,(1+c/26%5).toNat,(rest.map λs=>Dp s.2).foldl max (Dp st)+u*(c/130%2)))),zI ((rest.map λs=>Dp s.2).foldl max (Dp st)+u*(c/130%2)),zS (nm t.toNat),vE] G:=by
    have ln:(Bf nm n).length=n:=U6;show _=K8 [zN ns,zI b,zI k,zF (Bf nm n),zT [.str d,.int dl],zI u,zI c,zB vF,zT (r.map Bp),zT [.str (nm t.toNat),.int ((1+c/26%5).toNat:Nat),.int ((rest.map λs=>Dp s.2).foldl max (Dp st)+u*(c/130%2))],zI ((rest.map λs=>Dp s.2).foldl max (Dp st)+u*(c/130%2)),zS (nm t.toNat),vE] G;rw[hd];generalize(rest.map λs=>Dp s.2).foldl max (Dp st)=MX at mx
    generalize Bf nm n=NM at at_ ln;generalize r.map Bp=RR at cr cp hrl;generalize(r.map λs=>D.int (Dp s.2))=RP at mx cp fz lr;unfold Kf X3 ZAN;simp[hrl,cr,cp,Ax,fz,lr,mx,m2,ln,h1,h1',hn0,hn0',ht,at_,An]
   rw[cl,decide_eq_true hp,mid,fin,td]
 ·obtain⟨r,hr,cr⟩:=ZGJ (ns:=ns) (f:=f) hf hyr cy hb hu (p:=vG)
  refine⟨r,vE,hr,(λto dl m e=>nomatch e),λG=>?_⟩
  have mid:Kf [zN ns,zI b,zI k,zF (Bf nm n),zT [.str d,.int dl],zI u,zI c,zB vG,vE,vE,vE,vE,vE] G=
    K8 [zN ns,zI b,zI k,zF (Bf nm n),zT [.str d,.int dl],zI u,zI c,zB vG,zT (r.map Bp),vD (Gf nm vE),vE,vE,vE] G:=by
   show _=K8 [zN ns,zI b,zI k,zF (Bf nm n),zT [.str d,.int dl],zI u,zI c,zB vG,zT (r.map Bp),vD .non,vE,vE,vE] G;generalize Bf nm n=NM;unfold Kf X3 ZAN;simp[cr]
  rw[cl,decide_eq_false hp,mid,fin,td]
noncomputable def dnS(nm:Nat->Str):Option Nat->Str
 |none=>"sea"
 |some d=>nm d
def Gk(nm:Nat->Str)(p:Pl):D:=match p.kd with
 |.basin b r q=>.tup [.str "basin",.str p.nm,.str (dnS nm p.dn),.int p.dl,.int b,.tup (r.map Bp),Gf nm q]
 |.town a b=>.tup [.str "town",.str p.nm,.str (dnS nm p.dn),.int p.dl,.int a,.int b]
 |.mill a=>.tup [.str "mill",.str p.nm,.str (dnS nm p.dn),.int p.dl,.int a]
structure PlOk (yr:Int) (nm:Nat->Str) (n k:Nat) (p:Pl):Prop where
 nm:p.nm=nm k
 dn:∀d,p.dn=vD d->k<d/\d<n
 dl:p.dl<=5
 basin:∀b r q,p.kd=.basin b r q->0<=b/\RuleOk yr q.isSome r/\∀to dl m,q=vD (to,dl,m)->to<n/\1<=dl/\dl<=5
 town:∀a b,p.kd=.town a b->0<=a/\0<=b
 mill:∀a,p.kd=.mill a->0<=a
theorem ZMH(hf:Cf ns f)(hyr:1<=yr/\yr<=24)(cy:Cy ns yr)(hu:0<u)(cu:Cu ns u){k n:Nat}(hk:k<n)(hn:n<=12):
  ∃p:Pl,PlOk yr nm n k p/\∀(G:DH)(acc:List D)(x6 x7 x8 x9 x10 x11 x12:Option D),acc.length<=20->∃y6 y7 y8 y9 y10 y11 y12,
   Jg [zN ns,zI c,zI n,zF (Bf nm n),zI k,zR G.length,x6,x7,x8,x9,x10,x11,x12] (G++[.lst acc])=
    .nx [zN ns,zI c,zI n,zF (Bf nm n),zI k,zR G.length,y6,y7,y8,y9,y10,y11,y12] (G++[.lst (acc++[Gk nm p])]):=by
 have hc:∀j:Nat,j<=11->∀G,Bc [nD ns,.int (((6+12*k:Nat):Int)+j)] G=.ok (.int (f (6+12*k+j))) G:=λj hj G=>by have:=hf (6+12*k+j) (by lia) G;rwa[show((6+12*k+j:Nat):Int)=((6+12*k:Nat):Int)+j by lia]at this
 have hb:6+12*k<=900:=by lia
 have e6:(6+12*(k:Int))=((6+12*k:Nat):Int):=by lia
 have m12:∀G,Ak (.int 12) (.int (k:Int)) G=.ok (.int (12*(k:Int))) G:=λG=>G8 (by lia) (by lia)
 have h0:∀G,Bc [nD ns,.int ((6+12*k:Nat):Int)] G=.ok (.int (f (6+12*k))) G:=hf _ (by lia);have h1:∀G,Bc [nD ns,.int (((6+12*k:Nat):Int)+1)] G=.ok (.int (f (6+12*k+1))) G:=hc 1 (by lia);have h2:∀G,Bc [nD ns,.int (((6+12*k:Nat):Int)+2)] G=.ok (.int (f (6+12*k+2))) G:=hc 2 (by lia);have h3:∀G,Bc [nD ns,.int (((6+12*k:Nat):Int)+3)] G=.ok (.int (f (6+12*k+3))) G:=hc 3 (by lia)
 have h4:∀G,Bc [nD ns,.int (((6+12*k:Nat):Int)+4)] G=.ok (.int (f (6+12*k+4))) G:=hc 4 (by lia);have ak:atI (Bf nm n) (k:Int)=zS (nm k):=Qv hk;have fu:∀G,freeze G (.ok (.int u) G)=.ok (.int u) G:=λG=>Ho rfl
 have cb:=λd dl=>ZSY (nm:=nm) (d:=d) (dl:=dl) hf hyr cy hu cu hb hk hn
 generalize 6+12*k=b at hc hb e6 h0 h1 h2 h3 h4 cb;obtain⟨s,hs0,hs1,hs⟩:∃s:Int,0<=s/\s<(n:Int)-k/\∀(H:DH)(x5 x7 x8 x9 x10 x11 x12:Option D),V2 [zN ns,zI c,zI n,zF (Bf nm n),zI k,x5,zI b,x7,x8,x9,x10,x11,x12] H=
   Q6 [zN ns,zI c,zI n,zF (Bf nm n),zI k,x5,zI b,zI s,x8,x9,x10,x11,x12] H:=by
  have hm:0<(n:Int)-k:=by lia
  have hm':(k:Int)<n:=by lia
  by_cases hw:c/280%3=1
  ·refine⟨min 1 ((n:Int)-1-k),by lia,by lia,λH x5 x7 x8 x9 x10 x11 x12=>?_⟩;unfold V2 Zi;simp[h1,hm,hm',hk,hw]
  ·refine⟨f (b+1)%((n:Int)-k),qS _ (by lia),jZ _ hm,λH x5 x7 x8 x9 x10 x11 x12=>?_⟩;unfold V2 Zi;simp[h1,hm,hm',hk,hw]
 obtain⟨dn,dl,hdn,hdl,hr⟩:∃(dn:Option Nat)(dl:Nat),(∀d,dn=vD d->k<d/\d<n)/\dl<=5/\∀(H:DH)(x5 x8 x9 x10 x11 x12:Option D),Q6 [zN ns,zI c,zI n,zF (Bf nm n),zI k,x5,zI b,zI s,x8,x9,x10,x11,x12] H=
   Ot [zN ns,zI c,zI n,zF (Bf nm n),zI k,x5,zI b,zI s,zI (f (b+2)),zT [.str (dnS nm dn),.int dl],x10,x11,x12] H:=by
  have hd:((f (b+2)%2*(f (b+2)/2%6)).toNat:Int)=f (b+2)%2*(f (b+2)/2%6)/\(f (b+2)%2*(f (b+2)/2%6)).toNat<=5:=by rcases(by lia:f (b+2)%2=0∨f (b+2)%2=1)with z|z<;>rw[z]<;>lia
  have md:∀G,Ak (.int (f (b+2)%2)) (.int (f (b+2)/2%6)) G=.ok (.int (f (b+2)%2*(f (b+2)/2%6))) G:=λG=>Hd (by lia) (by lia)
  generalize f (b+2)%2*(f (b+2)/2%6)=w at hd md;by_cases hp:0<s
  ·have a2:atI (Bf nm n) ((k:Int)+s)=zS (nm (k+s.toNat)):=by have:=Qv (nm:=nm) (n:=n) (k:=k+s.toNat) (by lia);rwa[show((k+s.toNat:Nat):Int)=(k:Int)+s by lia]at this
   refine⟨vD (k+s.toNat),w.toNat,λd e=>by cases e;lia,hd.2,λH x5 x8 x9 x10 x11 x12=>?_⟩;unfold Q6 Z9 ZCb;simp[h2,md,hp,a2,An,dnS,hd.1]
  ·refine⟨vE,w.toNat,(λd e=>nomatch e),hd.2,λH x5 x8 x9 x10 x11 x12=>?_⟩
   unfold Q6 Z9 ZCb;simp[h2,md,hp,An,dnS,hd.1]
 obtain⟨rk,hrk,hk2⟩:∃rk:Int,0<=rk/\∀(H:DH)(x5 x7 x8 x9 x10 x11 x12:Option D),Ot [zN ns,zI c,zI n,zF (Bf nm n),zI k,x5,zI b,x7,x8,x9,x10,x11,x12] H=
   Nj [zN ns,zI c,zI n,zF (Bf nm n),zI k,x5,zI b,x7,x8,x9,zI (f b%5),zI (amt (f (b+3)) u),zI rk] H:=by
  have fz:∀G:DH,freeze G (.ok (.ref G.length) (G++[.lst [.int 4,.int 10000000000000000000000000000000000000000]]))=.ok (.fl [.int 4,.int 10000000000000000000000000000000000000000]) G:=λG=>Dg rfl
  rcases(by lia:c/840%2=0∨c/840%2=1)with z|z
  ·refine⟨f (b+4)%4,by lia,λH x5 x7 x8 x9 x10 x11 x12=>?_⟩;unfold Ot Zm ZBT;simp[h0,h3,h4,cu,fu,Jh hu,z,Ah,fz]
  ·refine⟨f (b+4)%10000000000000000000000000000000000000000,by lia,λH x5 x7 x8 x9 x10 x11 x12=>?_⟩;unfold Ot Zm ZBT;simp[h0,h3,h4,cu,fu,Jh hu,z,Ah,fz]
 have hal:∀acc:List D,acc.length<=20->acc.length<1000000:=λacc h=>by lia
 have go:∀p:Pl,(∀(G:DH)(acc:List D),acc.length<=20->
   Nj [zN ns,zI c,zI n,zF (Bf nm n),zI k,zR G.length,zI b,zI s,zI (f (b+2)),zT [.str (dnS nm dn),.int dl],zI (f b%5),zI (amt (f (b+3)) u),zI rk] (G++[.lst acc])=
    .nx [zN ns,zI c,zI n,zF (Bf nm n),zI k,zR G.length,zI b,zI s,zI (f (b+2)),zT [.str (dnS nm dn),.int dl],zI (f b%5),zI (amt (f (b+3)) u),zI rk] (G++[.lst (acc++[Gk nm p])]))->
   ∀(G:DH)(acc:List D)(x6 x7 x8 x9 x10 x11 x12:Option D),acc.length<=20->∃y6 y7 y8 y9 y10 y11 y12,
   Jg [zN ns,zI c,zI n,zF (Bf nm n),zI k,zR G.length,x6,x7,x8,x9,x10,x11,x12] (G++[.lst acc])=
    .nx [zN ns,zI c,zI n,zF (Bf nm n),zI k,zR G.length,y6,y7,y8,y9,y10,y11,y12] (G++[.lst (acc++[Gk nm p])]):=λp h9 G acc x6 x7 x8 x9 x10 x11 x12 ha=>by
  refine⟨zI b,zI s,zI (f (b+2)),zT [.str (dnS nm dn),.int dl],zI (f b%5),zI (amt (f (b+3)) u),zI rk,?_⟩
  ·unfold Jg;have e:(sAs (dOp Ai (dC (.int 6)) (dOp Ak (dC (.int 12)) (dV 4))) (gV 6)) [zN ns,zI c,zI n,zF (Bf nm n),zI k,zR G.length,x6,x7,x8,x9,x10,x11,x12] (G++[.lst acc])=.nx [zN ns,zI c,zI n,zF (Bf nm n),zI k,zR G.length,zI b,x7,x8,x9,x10,x11,x12] (G++[.lst acc]):=by simp[m12,e6]
   rw[Oz,e,Rx,hs,hr,hk2];exact h9 G acc ha
 by_cases hk1:f b%5<2
 ·obtain⟨r,q,hr1,hq,cr⟩:=cb (dnS nm dn) dl
  refine⟨⟨nm k,dn,dl,.basin (amt (f (b+3)) u) r q⟩,⟨rfl,hdn,hdl,λb' r' q' e=>?_,(λ_ _ e=>nomatch e),(λ_ e=>nomatch e)⟩,go _ λG acc ha=>?_⟩
  ·cases e;exact⟨Ou hu,hr1,hq⟩
  ·have fr:∀G:DH,freeze G (.ok (.tup [.str "basin",.str (nm k),.str (dnS nm dn),.int dl,.int (amt (f (b+3)) u),.tup (r.map Bp),Gf nm q]) G)=.ok (.tup [.str "basin",.str (nm k),.str (dnS nm dn),.int dl,.int (amt (f (b+3)) u),.tup (r.map Bp),Gf nm q]) G:=λG=>Ho (by simp)
   unfold Nj;simp[hk1,cr,fr,Cv,Ea,hal acc ha,Gk]
 ·by_cases hk3:f b%5<4
  ·refine⟨⟨nm k,dn,dl,.town (amt (f (b+3)) u) rk⟩,⟨rfl,hdn,hdl,(λ_ _ _ e=>nomatch e),λa b' e=>?_,(λ_ e=>nomatch e)⟩,go _ λG acc ha=>?_⟩
   ·cases e;exact⟨Ou hu,hrk⟩
   ·unfold Nj;simp[hk1,hk3,ak,An,Cv,Ea,hal acc ha,Gk]
  ·refine⟨⟨nm k,dn,dl,.mill (amt (f (b+3)) u)⟩,⟨rfl,hdn,hdl,(λ_ _ _ e=>nomatch e),(λ_ _ e=>nomatch e),λa e=>?_⟩,go _ λG acc ha=>?_⟩
   ·cases e;exact Ou hu
   ·unfold Nj;simp[hk1,hk3,ak,An,Cv,Ea,hal acc ha,Gk]
theorem ZCx{n:Nat}{P:Nat->Pl} 
  (hd:∀k,k<n->∀(acc:List D)(x6 x7 x8 x9 x10 x11 x12:Option D),acc.length<=20->∃y6 y7 y8 y9 y10 y11 y12,
   Jg [zN ns,zI c,zI n,zF (Bf nm n),zI k,zR G.length,x6,x7,x8,x9,x10,x11,x12] (G++[.lst acc])=
    .nx [zN ns,zI c,zI n,zF (Bf nm n),zI k,zR G.length,y6,y7,y8,y9,y10,y11,y12] (G++[.lst (acc++[Gk nm (P k)])])):
  ∀(m k:Nat) (acc:List D) (x4 x6 x7 x8 x9 x10 x11 x12:Option D),k+m=n->acc.length+m<=20->∃y4 y6 y7 y8 y9 y10 y11 y12,
   Aq (gV 4) Jg (Bg k m) [zN ns,zI c,zI n,zF (Bf nm n),x4,zR G.length,x6,x7,x8,x9,x10,x11,x12] (G++[.lst acc])=
    .nx [zN ns,zI c,zI n,zF (Bf nm n),y4,zR G.length,y6,y7,y8,y9,y10,y11,y12] (G++[.lst (acc++(List.range' k m).map λi=>Gk nm (P i))])
 |0,k,acc,x4,x6,x7,x8,x9,x10,x11,x12,e,ha=>⟨x4,x6,x7,x8,x9,x10,x11,x12,by rw[H7,Cp];simp⟩
 |m+1,k,acc,x4,x6,x7,x8,x9,x10,x11,x12,e,ha=>by
  obtain⟨y6,y7,y8,y9,y10,y11,y12,hb⟩:=hd k (by lia) acc x6 x7 x8 x9 x10 x11 x12 (by lia);obtain⟨z4,z6,z7,z8,z9,z10,z11,z12,ih⟩:=ZCx hd m (k+1) (acc++[Gk nm (P k)]) (zI k) y6 y7 y8 y9 y10 y11 y12 (by lia) (by simp;lia);refine⟨z4,z6,z7,z8,z9,z10,z11,z12,?_⟩;rw[G9,Bu];simp only[Cg,R.By,qj,hb,Cm];have e1:((k:Int)+1)=((k+1:Nat):Int):=by lia
  rw[e1,ih];simp[List.range'_succ]
structure Told (h:Hs) (yr:Int):Prop where
 good:GoodH h
 one:1<=h.n
 ey:h.yr=yr
 ok:∃nm:Nat->Str,∀k,k<h.n->PlOk yr nm h.n k (h.pl k)
theorem ZRp:∃n:Nat,1<=n/\n<=12/\(n:Int)=1+c%4:=⟨(1+c%4).toNat,by lia,by lia,by lia⟩
theorem ZSg(hf:Cf ns f)(hyr:1<=yr/\yr<=24)(cy:Cy ns yr)(hu:0<u)(cu:Cu ns u):
  ∃h:Hs,Told h yr/\∀G,Up [nD ns] G=.ok h.enc G:=by
 obtain⟨n,hn1,hn,en⟩:=ZRp (c:=f 0);let nm:Nat->Str:=λk=>Dr (Ex (f 5) n k)
 have ex:∀k:Nat,∃p:Pl,k<n->(PlOk yr nm n k p/\∀(G:DH)(acc:List D)(x6 x7 x8 x9 x10 x11 x12:Option D),acc.length<=20->∃y6 y7 y8 y9 y10 y11 y12,
   Jg [zN ns,zI (f 0),zI n,zF (Bf nm n),zI k,zR G.length,x6,x7,x8,x9,x10,x11,x12] (G++[.lst acc])=
    .nx [zN ns,zI (f 0),zI n,zF (Bf nm n),zI k,zR G.length,y6,y7,y8,y9,y10,y11,y12] (G++[.lst (acc++[Gk nm p])])):=λk=>by
  by_cases hk:k<n
  ·obtain⟨p,hp⟩:=ZMH (nm:=nm) (c:=f 0) hf hyr cy hu cu hk hn;exact⟨p,λ_=>hp⟩
  ·exact⟨ZAD,λz=>absurd z hk⟩
 let P:Nat->Pl:=λk=>(ex k).choose
 have hP:=λ(k:Nat)(hk:k<n)=>((ex k).choose_spec hk).1
 have hB:=λ(k:Nat)(hk:k<n)=>((ex k).choose_spec hk).2
 let h:Hs:=⟨yr,(zQ n).map P⟩;have hnn:h.n=n:=by simp[h,Hs.n]
 have hpl:∀k,k<n->h.pl k=P k:=λk hk=>by simp[h,Hs.pl,hk]
 have hg:GoodH h:=by
  refine⟨?_,by lia,?_,?_,?_,?_,?_,?_,?_⟩
  ·show 0<yr;lia
  ·intro i j hi hj e;rw[hnn]at hi hj;rw[hpl i hi,hpl j hj,(hP i hi).nm,(hP j hj).nm]at e;exact ZSd hn hi hj (ZJW e)
  ·intro i hi;rw[hnn]at hi;rw[hpl i hi,(hP i hi).nm];exact ZQR
  ·intro k d hk e;rw[hnn]at hk⊢;rw[hpl k hk]at e;exact(hP k hk).dn d e
  ·intro k hk;rw[hnn]at hk;rw[hpl k hk];exact(hP k hk).dl
  ·intro k b r to dl m hk e;rw[hnn]at hk⊢;rw[hpl k hk]at e;exact((hP k hk).basin _ _ _ e).2.2 to dl m rfl
  ·intro k b r q hk e;rw[hnn]at hk;rw[hpl k hk]at e;have:=(hP k hk).basin _ _ _ e;exact⟨this.1,λs hs=>(this.2.1.good s hs).1⟩
  ·intro k a b hk e;rw[hnn]at hk;rw[hpl k hk]at e;exact(hP k hk).town _ _ e
 refine⟨h,⟨hg,by lia,rfl,nm,λk hk=>by rw[hnn]at hk⊢;rw[hpl k hk];exact hP k hk⟩,λG=>?_⟩;have hdT:∀o:Option Nat,(∀d,o=vD d->d<n)->h.dnT o=dnS nm o:=λo ho=>by
  cases o with
  |none=>rfl
  |some d=>
   show(h.pl d).nm=nm d;rw[hpl d (ho d rfl),(hP d (ho d rfl)).nm]
 have henc:h.Cj=(List.range' 0 n).map λi=>Gk nm (P i):=by
  show((zQ n).map P).map h.encP=_;rw[qO,List.range_eq_range'];refine qw λk hk=>?_
  have hk':k<n:=by have:=List.mem_range'_1.mp hk;lia
  have ok:=hP k hk';show h.encP (P k)=Gk nm (P k);have ed:=hdT (P k).dn λd e=>(ok.dn d e).2
  unfold Hs.encP Gk;rw[ed];cases e:(P k).kd with
  | basin b r q=>
   have hq:=(ok.basin b r q e).2.2;cases q with
   |none=>rfl
   |some q=>
    obtain⟨to,dl,m⟩:=q;have ht:=(hq to dl m rfl).1;have e2:(h.pl to).nm=nm to:=by rw[hpl to ht,(hP to ht).nm]
    simp[Hs.Ka,Gf,e2]
  |town a b=>rfl
  |mill a=>rfl
 obtain⟨y4,y6,y7,y8,y9,y10,y11,y12,hL⟩:=ZCx (G:=G) (P:=P) (nm:=nm) (c:=f 0) (n:=n) (ns:=ns) (λk hk=>hB k hk G) n 0 [] vE vE vE vE vE vE vE vE (by lia) (by simp;lia);rw[<-henc]at hL;have hL':Aq (gV 4) Jg (Bg 0 n) [zN ns,zI (f 0),zI n,zF (Bf nm n),vE,zR G.length,vE,vE,vE,vE,vE,vE,vE] (G++[.lst []])=
    .nx [zN ns,zI (f 0),zI n,zF (Bf nm n),y4,zR G.length,y6,y7,y8,y9,y10,y11,y12] (G++[.lst h.Cj]):=hL
 have f0:∀G,Bc [nD ns,.int 0] G=.ok (.int (f 0)) G:=hf 0 (by lia);have f5:∀G,Bc [nD ns,.int 5] G=.ok (.int (f 5)) G:=hf 5 (by lia);have cp:∀G:DH,Ck (gV 0) Bd W2 [vE,zN ns,zI n] (Bg 0 n) G=.ok (Bf nm n) G:=λG=>Kv λk hk=>by unfold W2;simp[f5,ZPm hn hk,nm]
 have fz:freeze G (.ok (.ref G.length) (G++[.lst (Bf nm n)]))=.ok (.fl (Bf nm n)) G:=Dg ZQi;have hr:inR (n:Int):=Ef (by lia) (by lia);have hnl:n<=1000000:=by lia
 have eh:h.enc=.tup [.int yr,.tup h.Cj]:=rfl;unfold Up ZJm;rw[Ay];simp[U6,hnl,f0,<-en,hr,Ax,cp,fz,Ah,Ds,hL',cy,Cv,An,Lq,eh]
noncomputable def thr(c:Int):Nat->Int
 |0=>c
 |j+1=>thr (c/3) j
theorem ZN9{s0 s1 s4 s5 s6 s7 s8 x:Option D}(G:DH):
  ∃y,Aq (gV 11) Oa (Bg 0 5) [s0,s1,s2,zI u,s4,s5,s6,s7,s8,zI c,zR G.length,x] (G++[.lst []])=.nx [s0,s1,s2,zI u,s4,s5,s6,s7,s8,y,zR G.length,zI 4] (G++[.lst (tab 5 λj=>u*(thr c j%3))]):=by
 have hb:∀(c:Int)(acc:List D)(x:Option D),acc.length<=10->Oa [s0,s1,s2,zI u,s4,s5,s6,s7,s8,zI c,zR G.length,x] (G++[.lst acc])=.nx [s0,s1,s2,zI u,s4,s5,s6,s7,s8,zI (c/3),zR G.length,x] (G++[.lst (acc++[.int (u*(c%3))])]):=λc acc x ha=>by
  have m:∀G,Ak (.int u) (.int (c%3)) G=.ok (.int (u*(c%3))) G:=λG=>Hd (by lia) (by lia)
  have hal:acc.length<1000000:=by lia
  unfold Oa ZIw;simp[m,Cv,Ea,hal]
 have e:Bg 0 5=[.int 0,.int 1,.int 2,.int 3,.int 4]:=rfl;refine⟨zI (c/3/3/3/3/3),?_⟩;rw[e];simp only[Bu,Cp,Cg,R.By,qj,Cm];rw[hb _ _ _ (by simp)];simp only[Cm,Bu,Cp,Cg,R.By,qj];rw[hb _ _ _ (by simp)];simp only[Cm,Bu,Cp,Cg,R.By,qj];rw[hb _ _ _ (by simp)];simp only[Cm,Bu,Cp,Cg,R.By,qj];rw[hb _ _ _ (by simp)];simp only[Cm,Bu,Cp,Cg,R.By,qj];rw[hb _ _ _ (by simp)]
 simp only[Cm,Bu,Cp,Cg,R.By,qj];simp[tab5,thr]
def lvS(h:Hs)(f:Nat->Int)(u:Int)(k:Nat):Int:=match(h.pl k).kd with
 |.basin b _ _=>amt (f (6+12*h.n+k)) u%(b+1)
 |_=>0
def coS(h:Hs)(f:Nat->Int)(u:Int)(k j:Nat):Int:=u*(thr (f (6+12*h.n+h.n+k)) j%3)
theorem ZL8(hu:0<u)(k j:Nat):0<=coS h f u k j:=jD (by lia) (by lia)
theorem ZBU(g:GoodH h){k:Nat}(hk:k<h.n):0<=lvS h f u k/\(∀b r q,(h.pl k).kd=.basin b r q->lvS h f u k<=b)/\((h.pl k).kd.isB=vG->lvS h f u k=0):=by
 unfold lvS;cases e:(h.pl k).kd with
 |basin b r q=>
  have:=(g.brim k b r q hk e).1
  refine⟨qS _ (by lia),λb' r' q' e'=>?_,λz=>nomatch z⟩
  cases e';show amt (f (6+12*h.n+k)) u%(b+1)<=b;have:=jZ (amt (f (6+12*h.n+k)) u) (show 0<b+1 by lia);lia
 |town a b=>exact⟨zH _,(λ_ _ _ z=>nomatch z),λ_=>rfl⟩
 |mill a=>exact⟨zH _,(λ_ _ _ z=>nomatch z),λ_=>rfl⟩
theorem ZJy(hf:Cf ns f){u:Int}(hu:0<u)(g:GoodH h){s1:Option D}{G:DH}:∀(m k:Nat)(L:DH)(x7 x8 x9 x10 x11:Option D),k+m=h.n->∃L' y7 y8 y9 y10 y11,
  Aq (gV 7) Ox (Bg k m) [zN ns,s1,zT h.Cj,zI u,zI ((6+12*h.n:Nat):Int),zR G.length,zR (G.length+1),x7,x8,x9,x10,x11] (G++ .lst (tab k (lvS h f u)):: .lst (Am k (coS h f u))::L)=
   .nx [zN ns,s1,zT h.Cj,zI u,zI ((6+12*h.n:Nat):Int),zR G.length,zR (G.length+1),y7,y8,y9,y10,y11] (G++ .lst (tab h.n (lvS h f u)):: .lst (Am h.n (coS h f u))::L')
 |0,k,L,x7,x8,x9,x10,x11,e=>by
  have e1:k=h.n:=by lia
  subst e1;exact⟨L,x7,x8,x9,x10,x11,by rw[H7,Cp]⟩
 | m+1,k,L,x7,x8,x9,x10,x11,e=>by
  have hk:k<h.n:=by lia
  have hn:=g.len;let c:Int:=f (6+12*h.n+h.n+k);let G1:DH:=G++ .lst (tab (k+1) (lvS h f u)):: .lst (Am k (coS h f u))::L;obtain⟨y,hR⟩:=ZN9 (u:=u) (c:=c) (s0:=zN ns) (s1:=s1) (s2:=zT h.Cj) (s4:=zI ((6+12*h.n:Nat):Int)) (s5:=zR G.length) (s6:=zR (G.length+1)) (s7:=zI k) (s8:=zI (lvS h f u k)) (x:=x11) G1;obtain⟨L',y7,y8,y9,y10,y11,ih⟩:=ZJy hf hu g m (k+1) (L++[.lst (tab 5 (coS h f u k))]) (s1:=s1) (G:=G) (zI k) (zI (lvS h f u k)) y (zR G1.length) (zI 4) (by lia)
  refine⟨L',y7,y8,y9,y10,y11,?_⟩;have ap:atI h.Cj (k:Int)=vD (h.encP (h.pl k)):=Hs.Dz hk;have c1:∀G,Bc [nD ns,.int (((6+12*h.n:Nat):Int)+(k:Int))] G=.ok (.int (f (6+12*h.n+k))) G:=λG=>by have:=hf (6+12*h.n+k) (by lia) G;rwa[show((6+12*h.n+k:Nat):Int)=((6+12*h.n:Nat):Int)+k by lia]at this
  have c2:∀G,Bc [nD ns,.int (((6+12*h.n:Nat):Int)+(h.n:Int)+(k:Int))] G=.ok (.int c) G:=λG=>by have:=hf (6+12*h.n+h.n+k) (by lia) G;rwa[show((6+12*h.n+h.n+k:Nat):Int)=((6+12*h.n:Nat):Int)+h.n+k by lia]at this
  have hbb:(6+12*h.n:Nat)=(6+12*h.n):=rfl;generalize hB:((6+12*h.n:Nat):Int)=B at c1 c2 hR ih⊢;have t1:∀(H:DH)(x9 x10 x11:Option D),Ox [zN ns,s1,zT h.Cj,zI u,zI B,zR G.length,zR (G.length+1),zI k,x8,x9,x10,x11] H=Qu [zN ns,s1,zT h.Cj,zI u,zI B,zR G.length,zR (G.length+1),zI k,zI (lvS h f u k),x9,x10,x11] H:=λH x9 x10 x11=>by
   unfold Ox ZFw lvS;cases e:(h.pl k).kd with
   |basin b r q=>
    have hb0:=(g.brim k b r q hk e).1;have e4:∀G,Ad (h.encP (h.pl k)) (.int 4) G=.ok (.int b) G:=λG=>by unfold Hs.encP;rw[e];simp
    have hb1:0<b+1:=by lia
    have hb2:¬b+1=0:=by lia
    simp[ap,Gn,e,Kd.isB,c1,Jh hu,e4,hb1,hb2]
   |town a b=>simp[ap,Gn,e,Kd.isB]
   |mill a=>simp[ap,Gn,e,Kd.isB]
  have hl1:k<1000000:=by lia
  have et:tab k (lvS h f u)++[.int (lvS h f u k)]=tab (k+1) (lvS h f u):=by simp[tab,j2]
  have er:Am k (coS h f u)++[.tup (tab 5 (coS h f u k))]=Am (k+1) (coS h f u):=by simp[Am,j2]
  have t2:Qu [zN ns,s1,zT h.Cj,zI u,zI B,zR G.length,zR (G.length+1),zI k,zI (lvS h f u k),x9,x10,x11] (G++ .lst (tab k (lvS h f u)):: .lst (Am k (coS h f u))::L)=Va [zN ns,s1,zT h.Cj,zI u,zI B,zR G.length,zR (G.length+1),zI k,zI (lvS h f u k),zI c,zR G1.length,x11] (G1++[.lst []]):=by
   have tn:tidy G1 (.ok (.ref G1.length) (G1++[.lst []]))=.ok (.ref G1.length) (G1++[.lst []]):=Ds rfl;unfold Qu ZGI ZJC;have a1:(sEx (Df Dm (dV 5) (Aa (dV 8) Ab))) [zN ns,s1,zT h.Cj,zI u,zI B,zR G.length,zR (G.length+1),zI k,zI (lvS h f u k),x9,x10,x11] (G++ .lst (tab k (lvS h f u)):: .lst (Am k (coS h f u))::L)=.nx [zN ns,s1,zT h.Cj,zI u,zI B,zR G.length,zR (G.length+1),zI k,zI (lvS h f u k),x9,x10,x11] G1:=by simp[Cv,Ea,hl1,et,G1]
   rw[Oz,a1,Rx]
   clear_value G1
   simp[Hs.Hl,c2,Ah,tn]
  have t5:Va [zN ns,s1,zT h.Cj,zI u,zI B,zR G.length,zR (G.length+1),zI k,zI (lvS h f u k),zI c,zR G1.length,x11] (G1++[.lst []])=.nx [zN ns,s1,zT h.Cj,zI u,zI B,zR G.length,zR (G.length+1),zI k,zI (lvS h f u k),y,zR G1.length,zI 4] (G++ .lst (tab (k+1) (lvS h f u)):: .lst (Am (k+1) (coS h f u))::(L++[.lst (tab 5 (coS h f u k))])):=by
   have hr:inR 5:=Ef (by lia) (by lia);have eC:(tab 5 λj=>u*(thr c j%3))=tab 5 (coS h f u k):=rfl;rw[eC]at hR;unfold Va;have a1:(Cd (Bk rng1 (Aa (dC (.int 5)) Ab)) (gV 11) Oa) [zN ns,s1,zT h.Cj,zI u,zI B,zR G.length,zR (G.length+1),zI k,zI (lvS h f u k),zI c,zR G1.length,x11] (G1++[.lst []])=.nx [zN ns,s1,zT h.Cj,zI u,zI B,zR G.length,zR (G.length+1),zI k,zI (lvS h f u k),y,zR G1.length,zI 4] (G1++[.lst (tab 5 (coS h f u k))]):=by simp[hr,hR]
   rw[Oz,a1,Rx];have gl:(G1++[DO.lst (tab 5 (coS h f u k))])[G1.length]?=vD (.lst (tab 5 (coS h f u k))):=by simp
   have gc:(G1++[DO.lst (tab 5 (coS h f u k))])[G.length+1]?=vD (.lst (Am k (coS h f u))):=by simp[G1]
   have gs:(G1++[DO.lst (tab 5 (coS h f u k))]).set (G.length+1) (.lst (Am (k+1) (coS h f u)))=(G++ .lst (tab (k+1) (lvS h f u)):: .lst (Am (k+1) (coS h f u))::(L++[.lst (tab 5 (coS h f u k))])):=by simp[G1]
   generalize G1++[DO.lst (tab 5 (coS h f u k))]=G2 at gl gc gs;unfold ZJZ;simp[gl,gc,hl1,er,gs]
  rw[G9,Bu];simp only[Cg,R.By,qj,t1,t2,t5,Cm];have e1:((k:Int)+1)=((k+1:Nat):Int):=by lia
  rw[e1,ih]
theorem ZQZ(hf:Cf ns f)(hu:0<u)(cu:Cu ns u)(g:GoodH h)(G:DH):
  Uw [nD ns,h.enc] G=.ok (stD h.n (lvS h f u) (coS h f u)) G:=by
 obtain⟨L',y7,y8,y9,y10,y11,hL⟩:=ZJy hf hu g (s1:=vD h.enc) (G:=G) h.n 0 [] vE vE vE vE vE (by lia);have hL':Aq (gV 7) Ox (Bg 0 h.n) [zN ns,vD h.enc,zT h.Cj,zI u,zI ((6+12*h.n:Nat):Int),zR G.length,zR (G.length+1),vE,vE,vE,vE,vE] (G++[.lst [],.lst []])=
   .nx [zN ns,vD h.enc,zT h.Cj,zI u,zI ((6+12*h.n:Nat):Int),zR G.length,zR (G.length+1),y7,y8,y9,y10,y11] (G++ .lst (tab h.n (lvS h f u)):: .lst (Am h.n (coS h f u))::L'):=hL
 have hn:=g.len;have m12:∀G,Ak (.int 12) (.int (h.n:Int)) G=.ok (.int (12*(h.n:Int))) G:=λG=>G8 (by lia) (by lia)
 have e6:(6+12*(h.n:Int))=((6+12*h.n:Nat):Int):=by lia
 generalize hB:((6+12*h.n:Nat):Int)=B at hL' e6;have fu:freeze G (.ok (.int u) G)=.ok (.int u) G:=Ho rfl;have hr:inR (h.n:Int):=Ef (by lia) (by lia);have t1:tidy (G++[.lst []]) (.ok (.ref (G.length+1)) (G++[.lst [],.lst []]))=.ok (.ref (G.length+1)) (G++[.lst [],.lst []]):=by have:=Ds (G:=G++[.lst []]) (ds:=[]) (L:=[]) rfl;simpa using this
 have g0:(G++ .lst (tab h.n (lvS h f u)):: .lst (Am h.n (coS h f u))::L')[G.length]?=vD (.lst (tab h.n (lvS h f u))):=by simp
 have g1:(G++ .lst (tab h.n (lvS h f u)):: .lst (Am h.n (coS h f u))::L')[G.length+1]?=vD (.lst (Am h.n (coS h f u))):=by simp
 have tp:tidy G (.ok (stD h.n (lvS h f u) (coS h f u)) (G++ .lst (tab h.n (lvS h f u)):: .lst (Am h.n (coS h f u))::L'))=.ok (stD h.n (lvS h f u) (coS h f u)) G:=Lq (by simp[stD,Hc]);generalize G++DO.lst (tab h.n (lvS h f u))::DO.lst (Am h.n (coS h f u))::L'=G2 at hL' g0 g1 tp;unfold stD at tp⊢;unfold Uw ZFd;rw[Ay];simp[Cq,cu,fu,Hs.Hl,m12,e6,Ah,Ds,t1,hr,hL',g0,g1,An,tp]
def flS(n:Nat)(f:Nat->Int)(u:Int)(i k:Nat):Int:=amt (f (6+14*n+i*n+k)) u
theorem ZNV{n:Nat}(hu:0<u)(i k:Nat):0<=flS n f u i k:=Ou hu
def Af(n:Nat)(fls:List (Nat->Int)):List D:=fls.map λfl=>.tup (tab n fl)
@[simp]theorem Ra{n:Nat}:bels m (Af n fls)=vF:=Ec λ_ _=>by simp
theorem ZDY{o:DO}(h:∀m,bels m ds=vF):freeze (G++[o]) (.ok (.ref (G.length+1)) (G++[o,.lst ds]))=.ok (.fl ds) (G++[o]):=by have:=Dg (G:=G++[o]) (ds:=ds) (L:=[]) (h _);simpa using this
theorem ZSB(hf:Cf ns f)(hu:0<u)(cu:Cu ns u){n:Nat}(hi:6+14*n+i*n+n<=1000)(hi2:i<=1000)(hn2:n<=1000){s1 x:Option D}{acc:List D}(ha:acc.length<=1000)(G:DH):
  O6 [zN ns,s1,s2,zI n,zI ((6+14*n:Nat):Int),zR G.length,zI i,x] (G++[.lst acc])=
   .nx [zN ns,s1,s2,zI n,zI ((6+14*n:Nat):Int),zR G.length,zI i,zF (tab n λk=>f (6+14*n+i*n+k))] (G++[.lst (acc++[.tup (tab n (flS n f u i))])]):=by
 have hal:acc.length<1000000:=by lia
 have mi:∀G,Ak (.int (i:Int)) (.int (n:Int)) G=.ok (.int ((i:Int)*n)) G:=λG=>G8 (by lia) (by lia)
 have fu:∀G,freeze G (.ok (.int u) G)=.ok (.int u) G:=λG=>Ho rfl
 have c1:∀G,Ck (gV 0) Bd ZA4 [vE,zN ns,zI n,zI ((6+14*n:Nat):Int),zI i] (Bg 0 n) G=.ok (tab n λk=>f (6+14*n+i*n+k)) G:=λG=>
  Kv (F:=λk=>.int (f (6+14*n+i*n+k))) λk hk=>by
   have h1:=hf (6+14*n+i*n+k) (by lia) G;have e1:((6+14*n+i*n+k:Nat):Int)=((6+14*n:Nat):Int)+(i:Int)*n+k:=by rw[j3,j3,Int.natCast_mul]
   rw[e1]at h1;generalize((6+14*n:Nat):Int)=B at h1;unfold ZA4;simp[mi,h1]
 have c2:∀G,Ck (gV 0) Bd ZCK [vE,zN ns] (tab n λk=>f (6+14*n+i*n+k)) G=.ok (tab n (flS n f u i)) G:=λG=>
  K4 (E:=λk=>.int (f (6+14*n+i*n+k))) (F:=λk=>.int (flS n f u i k)) λk hk=>by unfold ZCK;simp[cu,fu,Jh hu,flS]
 have hr:inR (n:Int):=Ef (by lia) (by lia);have cs1:∀a b c d e f' g h:Option D,Ax 1 [0,3,4,6] [a,b,c,d,e,f',g,h]=[vE,a,d,e,g]:=λ_ _ _ _ _ _ _ _=>rfl
 have cs2:∀a b c d e f' g h:Option D,Ax 1 [0] [a,b,c,d,e,f',g,h]=[vE,a]:=λ_ _ _ _ _ _ _ _=>rfl
 have fz1:=ZDY (G:=G) (o:=.lst acc) (ds:=tab n λk=>f (6+14*n+i*n+k)) λ_=>Hc
 have fz2:=ZDY (G:=G) (o:=.lst acc) (ds:=tab n (flS n f u i)) λ_=>Hc
 generalize((6+14*n:Nat):Int)=B at c1;have hnl:n<=1000000:=by lia
 unfold O6;simp[hnl,hr,cs1,cs2,c1,c2,fz1,fz2,Cv,Ea,hal]
theorem ZEt(hf:Cf ns f)(hu:0<u)(cu:Cu ns u){n:Nat}(ht:6+14*n+t*n<=1000)(ht2:t<=100)(hn2:n<=1000){s1 s2:Option D}(G:DH):∀(m i:Nat)(x6 x7:Option D),i+m=t->∃y6 y7,
  Aq (gV 6) O6 (Bg i m) [zN ns,s1,s2,zI n,zI ((6+14*n:Nat):Int),zR G.length,x6,x7] (G++[.lst (Af n ((zQ i).map (flS n f u)))])=
   .nx [zN ns,s1,s2,zI n,zI ((6+14*n:Nat):Int),zR G.length,y6,y7] (G++[.lst (Af n ((zQ t).map (flS n f u)))])
 |0,i,x6,x7,e=>by
  have e1:i=t:=by lia
  subst e1;exact⟨x6,x7,by rw[H7,Cp]⟩
 |m+1,i,x6,x7,e=>by
  obtain⟨y6,y7,ih⟩:=ZEt hf hu cu ht ht2 hn2 (s1:=s1) (s2:=s2) G m (i+1) (zI i) (zF (tab n λk=>f (6+14*n+i*n+k))) (by lia);refine⟨y6,y7,?_⟩;have hm:(i+1)*n<=t*n:=Nat.mul_le_mul_right n (by lia);have hm2:(i+1)*n=i*n+n:=Nat.succ_mul i n;have hb:=ZSB hf hu cu (n:=n) (i:=i) (by lia) (by lia) hn2 (s1:=s1) (s2:=s2) (x:=x7) (acc:=Af n ((zQ i).map (flS n f u))) (by simp[Af];lia) G
  have ea:Af n ((zQ i).map (flS n f u))++[.tup (tab n (flS n f u i))]=Af n ((zQ (i+1)).map (flS n f u)):=by simp[Af,j2]
  rw[ea]at hb;rw[G9,Bu];simp only[Cg,R.By,qj,hb,Cm];have e1:((i:Int)+1)=((i+1:Nat):Int):=by lia
  rw[e1,ih]
theorem ZR3(hf:Cf ns f)(hu:0<u)(cu:Cu ns u)(g:GoodH h)(ht:6+14*h.n+t*h.n<=1000)(ht2:t<=100)(G:DH):
  Sg [nD ns,h.enc,.int t] G=.ok (.ref G.length) (G++[.lst (Af h.n ((zQ t).map (flS h.n f u)))]):=by
 have hn:=g.len;obtain⟨y6,y7,hL⟩:=ZEt hf hu cu ht ht2 (by lia) (s1:=vD h.enc) (s2:=zI t) G t 0 vE vE (by lia);have hL':Aq (gV 6) O6 (Bg 0 t) [zN ns,vD h.enc,zI t,zI h.n,zI ((6+14*h.n:Nat):Int),zR G.length,vE,vE] (G++[.lst []])=
   .nx [zN ns,vD h.enc,zI t,zI h.n,zI ((6+14*h.n:Nat):Int),zR G.length,y6,y7] (G++[.lst (Af h.n ((zQ t).map (flS h.n f u)))]):=hL
 have m14:∀G,Ak (.int 14) (.int (h.n:Int)) G=.ok (.int (14*(h.n:Int))) G:=λG=>G8 (by lia) (by lia)
 have e6:(6+14*(h.n:Int))=((6+14*h.n:Nat):Int):=by lia
 generalize hB:((6+14*h.n:Nat):Int)=B at hL' e6;have hr:inR (t:Int):=Ef (by lia) (by lia);unfold Sg ZJz;rw[Ay];simp[Cq,Hs.Hl,m14,e6,Ah,Ds,hr,hL']
theorem ZLn(hf:Cf ns f):∃a:Int,0<=a/\∀G,Pk [nD ns] G=.ok (.int a) G:=by
 have h3:∀G,Bc [nD ns,.int 3] G=.ok (.int (f 3)) G:=hf 3 (by lia);have fz:∀G:DH,freeze G (.ok (.ref G.length) (G++[.lst [.int 50,.int 1000000000000000000000000000000000000000]]))=.ok (.fl [.int 50,.int 1000000000000000000000000000000000000000]) G:=λG=>Dg rfl
 rcases(by lia:f 3%2=0∨f 3%2=1)with z|z
 ·refine⟨f 3/2%50,by lia,λG=>?_⟩;unfold Pk Wi;rw[Ay];simp[h3,z,Ah,fz,Be]
 ·refine⟨f 3/2%1000000000000000000000000000000000000000,by lia,λG=>?_⟩;unfold Pk Wi;rw[Ay];simp[h3,z,Ah,fz,Be]
noncomputable abbrev St2:=(Nat->Int)×(Nat->Nat->Int)
def Hs.nxt(h:Hs)(s:St2)(a:Int)(fl:Nat->Int):St2:=(lies (h.cs s.1 s.2 a fl).page,(h.cs s.1 s.2 a fl).coming)
def Hs.Ei(h:Hs):List (Nat->Int)->St2->Int->St2
 |[],s,_=>s
 |fl::r,s,a=>h.Ei r (h.nxt s a fl) (a+1)
def Hs.Bt(h:Hs):List (Nat->Int)->St2->Int->List (Nat->List Int)
 |[],_,_=>[]
 |fl::r,s,a=>(h.cs s.1 s.2 a fl).page::h.Bt r (h.nxt s a fl) (a+1)
theorem Nt:∀{fls:List (Nat->Int)}{s:St2}{a:Int},(h.Bt fls s a).length=fls.length
 |[],_,_=>rfl
 |fl::r,s,a=>by show(h.Bt r (h.nxt s a fl) (a+1)).length+1=r.length+1;rw[Nt]
def pgD(n:Nat)(pg:Nat->List Int):D:=.tup (Ci n pg)
@[simp]theorem ZMP{n:Nat}:bel m (pgD n pg)=vF:=by simp[pgD]
@[simp]theorem V6{n:Nat}:bels m (pgs.map (pgD n))=vF:=Ec λ_ _=>ZMP
@[simp]theorem Mr{n:Nat}:bel m (stD n lv co)=vF:=by simp[stD]
theorem Yd(g:GoodH h){fl:Nat->Int}(hc:∀k j,k<h.n->j<5->0<=co k j)(hf:∀k,k<h.n->0<=fl k):(h.cs lv co a fl).NN h.n:=ZIo g h.n 0 _ (by lia) (ZJR hc hf)
noncomputable def enS:Int->List D->List D
 |_,[]=>[]
 |a,x::r=>.tup [.int a,x]::enS (a+1) r
theorem ZEj:∀(xs:List D)(a:Int)(j:Nat),(enS a xs)[j]?=xs[j]?.map λx=>.tup [.int (a+j),x]
 |[],a,j=>by simp[enS]
 |x::r,a,0=>by simp[enS]
 |x::r,a,j+1=>by
  show(enS (a+1) r)[j]?=r[j]?.map _;rw[ZEj r (a+1) j];have e:a+1+(j:Int)=a+((j+1:Nat):Int):=by lia
  rw[e]
theorem ZFW:∀(xs:List D)(a:Int),(enS a xs).length=xs.length
 |[],a=>rfl
 |x::r,a=>by show(enS (a+1) r).length+1=r.length+1;rw[ZFW]
theorem ZIc{g:DG}{b:DS}{xs:List D}:Dh (Do a (.fl xs)) g b xs.length 0 S G=Aq g b (enS a xs) S G:=Pb (λj G=>by show vD (xs[j]?.map _)=_;rw[ZEj]) (ZFW xs a).symm
theorem ZED(g:GoodH h){s2 s3:Option D}{G:DH}:∀(fls:List (Nat->Int))(s:St2)(a:Int)(acc:List D)(x5 x6 x7:Option D),acc.length+fls.length<=1000->(∀k j,k<h.n->j<5->0<=s.2 k j)->(∀fl∈fls,∀k,k<h.n->0<=fl k)->∃y5 y6 y7,
  Aq (Ao 2 (Ae (gV 5) (Ae (gV 6) Aw))) Oe (enS a (Af h.n fls)) [vD h.enc,vD (stD h.n s.1 s.2),s2,s3,zR G.length,x5,x6,x7] (G++[.lst acc])=
   .nx [vD h.enc,vD (stD h.n (h.Ei fls s a).1 (h.Ei fls s a).2),s2,s3,zR G.length,y5,y6,y7] (G++[.lst (acc++(h.Bt fls s a).map (pgD h.n))])
 |[],s,a,acc,x5,x6,x7,_,_,_=>⟨x5,x6,x7,by show Aq _ _ [] _ _=_;rw[Cp];simp[Hs.Ei,Hs.Bt]⟩
 |fl::r,s,a,acc,x5,x6,x7,hl,hc,hf=>by
  have hf1:=hf fl (by simp);have nn:=Yd g (lv:=s.1) (fl:=fl) (co:=s.2) (a:=a) hc hf1;simp only[zU]at hl;obtain⟨y5,y6,y7,ih⟩:=ZED g (s2:=s2) (s3:=s3) (G:=G) r (h.nxt s a fl) (a+1) (acc++[pgD h.n (h.cs s.1 s.2 a fl).page]) (zI a) (zT (tab h.n fl)) (vD (pgD h.n (h.cs s.1 s.2 a fl).page)) (by simp;lia) nn.2 (λf' hf'=>hf f' (zZ _ hf'));refine⟨y5,y6,y7,?_⟩;have ct:=ZMg g (lv:=s.1) (fl:=fl) (co:=s.2) (at_:=a) hc hf1
  have hal:acc.length<1000000:=by lia
  have hb:Oe [vD h.enc,vD (stD h.n s.1 s.2),s2,s3,zR G.length,zI a,zT (tab h.n fl),x7] (G++[.lst acc])=.nx [vD h.enc,vD (stD h.n (h.nxt s a fl).1 (h.nxt s a fl).2),s2,s3,zR G.length,zI a,zT (tab h.n fl),vD (pgD h.n (h.cs s.1 s.2 a fl).page)] (G++[.lst (acc++[pgD h.n (h.cs s.1 s.2 a fl).page])]):=by unfold Oe;simp[ct,Cv,Ea,hal,pgD,Hs.nxt]
  show Aq _ _ (.tup [.int a,.tup (tab h.n fl)]::enS (a+1) (Af h.n r)) _ _=_;rw[Bu];simp only[Mg,M9,N6,Cg,R.Hu,R.By,qj,hb,Cm,zU,jW,Nat.reduceAdd,if_true];rw[ih];simp[Hs.Ei,Hs.Bt]
theorem ZOL{n:Nat}:(Af n fls).length=fls.length:=by simp[Af]
theorem ZIf{G':DH}(h:bels G.length ds=vG):tidy G (.ok (.tup ds) G')=.ok (.tup ds) G':=by unfold tidy;simp[h]
theorem Rg(h1:bels G.length ds=vF)(h2:bel G.length e=vF):freeze G (.ok (.tup [.ref G.length,e]) (G++[.lst ds]))=.ok (.tup [.fl ds,e]) G:=by
 unfold freeze;have m:Dt (G++[.lst ds]) G.length 9 (.tup [.ref G.length,e])=zT [.fl ds,e]:=by
  unfold Dt;have m1:Dt (G++[.lst ds]) G.length 8 (.ref G.length)=zF ds:=by unfold Dt;simp[Ug h1]
  have m2:Dt (G++[.lst ds]) G.length 8 e=vD e:=by unfold Dt;simp[h2]
  simp[Hz,m1,m2]
 simp[m]
theorem Us(g:GoodH h){s:St2}(hl:fls.length<=1000)(hc:∀k j,k<h.n->j<5->0<=s.2 k j)(hf:∀fl∈fls,∀k,k<h.n->0<=fl k)(G:DH):
  Ls [h.enc,stD h.n s.1 s.2,.int a,.fl (Af h.n fls)] G=.ok (.tup [.ref G.length,stD h.n (h.Ei fls s a).1 (h.Ei fls s a).2]) (G++[.lst ((h.Bt fls s a).map (pgD h.n))]):=by
 obtain⟨y5,y6,y7,hL⟩:=ZED g (s2:=zI a) (s3:=zF (Af h.n fls)) (G:=G) fls s a [] vE vE vE (by simp;lia) hc hf;have hL':Dh (Do a (.fl (Af h.n fls))) (Ao 2 (Ae (gV 5) (Ae (gV 6) Aw))) Oe (Af h.n fls).length 0 [vD h.enc,vD (stD h.n s.1 s.2),zI a,zF (Af h.n fls),zR G.length,vE,vE,vE] (G++[.lst []])=
   .nx [vD h.enc,vD (stD h.n (h.Ei fls s a).1 (h.Ei fls s a).2),zI a,zF (Af h.n fls),zR G.length,y5,y6,y7] (G++[.lst ((h.Bt fls s a).map (pgD h.n))]):=by
  rw[ZIc];exact hL
 have tt:∀e:D,tidy G (.ok (.tup [.ref G.length,e]) (G++[.lst ((h.Bt fls s a).map (pgD h.n))]))=.ok (.tup [.ref G.length,e]) (G++[.lst ((h.Bt fls s a).map (pgD h.n))]):=λe=>ZIf (by simp)
 unfold Ls ZEc;rw[Ay];simp[Ah,Ds,Nz,hL',An,tt]
structure SameR (rs rs':List Row):Prop where
 len:rs'.length=rs.length
 dn:∀k,Bj rs' k=Bj rs k
 rk:∀k,col Row.rank rs' k=col Row.rank rs k
theorem ZJr(h:SameR rs rs'):∀(m k:Nat),Ha rs' m k=Ha rs m k
 |0,k=>rfl
 |m+1,k=>by
  show k::_=k::_;rw[h.dn k];cases Bj rs k with
  |none=>rfl
  |some d=>show k::Ha rs' m d=k::Ha rs m d;rw[ZJr h m d]
theorem SameR.way(h:SameR rs rs')(k:Nat):way rs' k=way rs k:=by unfold _W.way;rw[h.len,ZJr h]
theorem SameR.ltK(h:SameR rs rs'):ltK rs'=ltK rs:=by funext i j;unfold _W.ltK;rw[h.rk,h.rk]
theorem SameR.ord(h:SameR rs rs'):ord rs'=ord rs:=by unfold _W.ord;rw[h.len,h.ltK]
theorem SameR.gat(h:SameR rs rs'):∀(m k:Nat)(F:Nat->Int),gat rs' m k F=gat rs m k F
 |0,k,F=>rfl
 |m+1,k,F=>by show _W.gat rs' m (k+1) (gstep F k (Bj rs' k))=_W.gat rs m (k+1) (gstep F k (Bj rs k));rw[h.dn k,SameR.gat h]
theorem SameR.gath(h:SameR rs rs')(F:Nat->Int):gath rs' F=gath rs F:=by show _W.gat rs' rs'.length 0 F=_;rw[h.len,h.gat]
theorem ZJN(h:SameR rs rs'):∀(ks:List Nat)(P T:Nat->Int),(∀k∈ks,col Row.need rs' k=col Row.need rs k)->srv rs' ks P T=srv rs ks P T
 |[],P,T,_=>rfl
 |k::ks,P,T,hn=>by
  have e:take1 rs' P k=take1 rs P k:=by unfold take1;rw[hn k zW,h.way]
  show srv rs' ks (Dj P (way rs' k) (take1 rs' P k)) (fset T k (take1 rs' P k))=_;rw[e,h.way,ZJN h ks _ _ λj hj=>hn j (zZ _ hj)]
  rfl
theorem ZDu(hR:Reach rs):∀(m k:Nat),rs.length<=m+k->∀b∈way rs k,∀c∈way rs b,c∈way rs k
 |0,k,h,b,hb,c,hc=>by
  rw[Eo hR,U5 (by lia)]at hb;have e:b=k:=by simpa[Gi]using hb
  rw[e]at hc;exact hc
 | m+1,k,h,b,hb,c,hc=>by
  rw[Eo hR]at hb⊢;rcases zq.mp hb with rfl|hb
  ·rw[Eo hR]at hc;exact hc
  ·cases hd:Bj rs k with
   |none=>rw[hd]at hb;cases hb
   |some d=>
    rw[hd]at hb;have:=Gs hR hd;exact zZ _ (ZDu hR m d (by lia) b hb c hc)
theorem Qf(hR:Reach rs){k b c:Nat}(hb:b∈way rs k)(hc:c∈way rs b):c∈way rs k:=ZDu hR rs.length k (by lia) b hb c hc
theorem ZD4(hR:Reach rs):∀(m k:Nat),rs.length<=m+k->∀b∈way rs k,∀c∈way rs k,c∈way rs b∨b∈way rs c
 |0,k,h,b,hb,c,hc=>by
  rw[Eo hR,U5 (by lia)]at hb hc;have e:b=k:=by simpa[Gi]using hb
  have e2:c=k:=by simpa[Gi]using hc
  subst e;subst e2;exact .inl (ZRj hR _)
 | m + 1,k,h,b,hb,c,hc=>by
  have hb0:=hb;have hc0:=hc;rw[Eo hR]at hb hc;rcases zq.mp hb with rfl|hb
  ·exact .inl hc0
  ·rcases zq.mp hc with rfl|hc
   ·exact .inr hb0
   ·cases hd:Bj rs k with
    |none=>rw[hd]at hb;cases hb
    |some d=>
     rw[hd]at hb hc;have:=Gs hR hd;exact ZD4 hR m d (by lia) b hb c hc
theorem ZBq(hR:Reach rs){k b c:Nat}(hb:b∈way rs k)(hc:c∈way rs k):c∈way rs b∨b∈way rs c:=ZD4 hR rs.length k (by lia) b hb c hc
theorem ZLE(hR:Reach rs){k:Nat}(h:Bj rs k=vE):way rs k=[k]:=by rw[Eo hR,h];rfl
def MW(rs:List Row)(one:Nat)(ks:List Nat)(A B:(Nat->Int)×(Nat->Int)):Prop:=
 ((∀i,B.1 i=A.1 i+ind 1 (way rs one) i)/\∀i,B.2 i=A.2 i)∨
 ∃k c,k∉ks/\(∀i,B.1 i=A.1 i+ind 1 (way rs one) i-ind 1 (way rs k) i)/\(∀i,B.2 i=A.2 i+ind 1 [k] i)/\c∈way rs one/\c∈way rs k/\c<rs.length/\A.1 c=0
theorem ZCX(hR:Reach rs)(p0:∀i,i<rs.length->0<=P i){k:Nat}(hk:k<rs.length):0<=take1 rs P k/\∀b∈way rs k,take1 rs P k<=P b:=by
 have h1:0<=wmin P (way rs k):=ZHs λb hb=>p0 b (Mu hR hk hb).2
 have h2:=hR.need k;unfold take1;refine⟨by lia,λb hb=>?_⟩;have:=S5 (P:=P) hb;lia
theorem ZHS(hR:Reach rs)(p0:∀i,i<rs.length->0<=P i){k:Nat}(hk:k<rs.length):∀i,i<rs.length->0<=Dj P (way rs k) (take1 rs P k) i:=λi hi=>by
 obtain⟨_,h⟩:=ZCX hR p0 hk;simp only[Dj];split
 ·rename_i hm;have:=h i hm;lia
 ·exact p0 i hi
theorem Lk{t:Int}(ht:0<=t):0<=ind t ws i/\ind t ws i<=t:=by
 unfold ind
 split <;> lia
theorem ZD1 (hR:Reach rs) {one:Nat}:∀(ks:List Nat)(P T P' T':Nat->Int),ks.Nodup->(∀k∈ks,k<rs.length)->(∀i,i<rs.length->0<=P i)->(∀i,i<rs.length->0<=P' i)->MW rs one ks (P,T) (P',T')->MW rs one [] (srv rs ks P T) (srv rs ks P' T')
 |[],P,T,P',T',_,_,_,_,h=>h
 | k::ks,P,T,P',T',nd,hks,p0,p0',h=>by
  obtain⟨n1,n2⟩:=qI.mp nd;have hk:=hks k zW;refine ZD1 hR ks _ _ _ _ n2 (λj hj=>hks j (zZ _ hj)) (ZHS hR p0 hk) (ZHS hR p0' hk) ?_;have wne:way rs k≠[]:=by rw[Eo hR];simp
  rcases h with⟨hP,hT⟩|⟨q,c,hq,hP,hT,c1,c2,cn,c0⟩
  ·simp only at hP hT;obtain⟨b,hb,eb⟩:=Wz (P:=P) wne;obtain⟨b',hb',eb'⟩:=Wz (P:=P') wne;have h1:=S5 (P:=P') hb;have h2:=S5 (P:=P) hb';rw[hP]at h1 eb';have i1:=Lk (t:=1) (ws:=way rs one) (i:=b) (by decide);have i2:=Lk (t:=1) (ws:=way rs one) (i:=b') (by decide);by_cases ht:take1 rs P' k=take1 rs P k
   ·refine .inl ⟨λi=>?_,λi=>?_⟩
    ·show Dj P' (way rs k) (take1 rs P' k) i=Dj P (way rs k) (take1 rs P k) i+_;rw[ht];simp only[Dj,hP]
     split <;> lia
    ·show fset T' k (take1 rs P' k) i=fset T k (take1 rs P k) i;rw[ht];simp only[fset,hT]
   ·have e1:take1 rs P' k=take1 rs P k+1:=by unfold take1 at ht⊢;lia
    have e2:take1 rs P k=P b:=by unfold take1 at e1⊢;lia
    have hbR:b∈way rs one:=by apply Classical.byContradiction;intro hn;have:ind 1 (way rs one) b=0:=if_neg hn;unfold take1 at e1;lia
    refine .inr ⟨k,b,n1,λi=>?_,λi=>?_,hbR,hb,(Mu hR hk hb).2,?_⟩
    ·show Dj P' (way rs k) (take1 rs P' k) i=Dj P (way rs k) (take1 rs P k) i+ind 1 (way rs one) i-ind 1 (way rs k) i;rw[e1];simp only[Dj,hP];by_cases hi:i∈way rs k
     ·have:ind 1 (way rs k) i=1:=if_pos hi;rw[if_pos hi,if_pos hi];lia
     ·have:ind 1 (way rs k) i=0:=if_neg hi;rw[if_neg hi,if_neg hi];lia
    ·show fset T' k (take1 rs P' k) i=fset T k (take1 rs P k) i+ind 1 [k] i;rw[e1];simp only[fset,hT,ind,qG]
     split <;> lia
    ·show Dj P (way rs k) (take1 rs P k) b=0;simp only[Dj,hb,if_true];lia
  ·simp only at hP hT c0;simp only[zq,not_or]at hq;have hne:k≠q:=λe=>hq.1 e.symm
   have c0':P' c=0:=by rw[hP];have e1:ind 1 (way rs one) c=1:=if_pos c1;have e2:ind 1 (way rs q) c=1:=if_pos c2;lia
   have ht:take1 rs P' k=take1 rs P k/\(c∈way rs k->take1 rs P k=0):=by
    by_cases hc:c∈way rs k
    ·obtain⟨a1,a2⟩:=ZCX hR p0 hk;obtain⟨a3,a4⟩:=ZCX hR p0' hk;have:=a2 c hc;have:=a4 c hc;exact⟨by lia,λ_=>by lia⟩
    ·refine⟨?_,λh=>absurd h hc⟩;unfold take1;rw[ZQ7 (P:=P') (Q:=P) λb hb=>?_];rw[hP];have:ind 1 (way rs one) b=ind 1 (way rs q) b:=by
      unfold ind;by_cases b1:b∈way rs one
      ·by_cases b2:b∈way rs q
       ·rw[if_pos b1,if_pos b2]
       ·exfalso
        rcases ZBq hR b1 c1 with z|z
        ·exact hc (Qf hR hb z)
        ·exact b2 (Qf hR c2 z)
      ·by_cases b2:b∈way rs q
       ·exfalso
        rcases ZBq hR b2 c2 with z|z
        ·exact hc (Qf hR hb z)
        ·exact b1 (Qf hR c1 z)
       ·rw[if_neg b1,if_neg b2]
     lia
   obtain⟨ht,h0⟩:=ht;refine .inr ⟨q,c,hq.2,λi=>?_,λi=>?_,c1,c2,cn,?_⟩
   ·show Dj P' (way rs k) (take1 rs P' k) i=Dj P (way rs k) (take1 rs P k) i+ind 1 (way rs one) i-ind 1 (way rs q) i;rw[ht];simp only[Dj,hP]
    split <;> lia
   ·show fset T' k (take1 rs P' k) i=fset T k (take1 rs P k) i+ind 1 [q] i;rw[ht];simp only[fset,hT];split
    ·rename_i e;have:ind 1 [q] i=0:=if_neg (by rw[e];simpa using hne);lia
    ·rfl
   ·show Dj P (way rs k) (take1 rs P k) c=0;simp only[Dj];split
    ·rename_i hm;rw[h0 hm];lia
    ·exact c0
def Sh(rs:List Row)(W:Nat->Int):(Nat->Int)×(Nat->Int):=srv rs (ord rs) (gath rs W) λ_=>0
def LeS(rs:List Row)(A B:(Nat->Int)×(Nat->Int)):Prop:=(∀i,A.2 i<=B.2 i)/\∀i,Bj rs i=vE->A.1 i<=B.1 i
theorem ZKS(hR:Reach rs)(hW:∀i,0<=W i){k:Nat}(hk:k<rs.length):MW rs k [] (Sh rs W) (Sh rs λi=>W i+ind 1 [k] i):=by
 have e:gath rs (λi=>W i+ind 1 [k] i)=λi=>gath rs W i+ind 1 (way rs k) i:=Ux hR rs.length 0 k W (by lia) (by lia) hk
 unfold Sh;rw[e];have h0:=λi=>ZBG (rs:=rs) rs.length 0 W hW i
 exact ZD1 hR (ord rs) _ _ _ _ (ZG4 rs) (λj hj=>ZAM hj) (λi _=>h0 i) (λi _=>by have:=Lk (t:=1) (ws:=way rs k) (i:=i) (by decide);have:=h0 i;show 0<=gat rs rs.length 0 W i+ind 1 (way rs k) i;lia) (.inl ⟨λi=>rfl,λi=>rfl⟩)
theorem MW.le(hR:Reach rs){one:Nat}{A B:(Nat->Int)×(Nat->Int)}(h:MW rs one [] A B):LeS rs A B:=by
 rcases h with⟨hP,hT⟩|⟨q,c,_,hP,hT,c1,c2,cn,c0⟩
 ·refine⟨λi=>by rw[hT];exact zH _,λi _=>?_⟩;have:=Lk (t:=1) (ws:=way rs one) (i:=i) (by decide);rw[hP];lia
 ·refine⟨λi=>?_,λi hi=>?_⟩
  ·have:=Lk (t:=1) (ws:=[q]) (i:=i) (by decide);rw[hT];lia
  ·rw [hP];by_cases hm:i∈way rs q
   ·have hm2:i∈way rs one:=by
     rcases ZBq hR hm c2 with z|z
     ·rw[ZLE hR hi]at z;have e:c=i:=by simpa using z
      rw[<-e];exact c1
     ·exact Qf hR c1 z
    have e1:ind 1 (way rs one) i=1:=if_pos hm2;have e2:ind 1 (way rs q) i=1:=if_pos hm;lia
   ·have e2:ind 1 (way rs q) i=0:=if_neg hm;have:=Lk (t:=1) (ws:=way rs one) (i:=i) (by decide);lia
theorem LeS.trans{A B C:(Nat->Int)×(Nat->Int)}(h1:LeS rs A B)(h2:LeS rs B C):LeS rs A C:=⟨λi=>jx (h1.1 i) (h2.1 i),λi hi=>jx (h1.2 i hi) (h2.2 i hi)⟩
theorem LeS.refl{A:(Nat->Int)×(Nat->Int)}:LeS rs A A:=⟨λ_=>zH _,λ_ _=>zH _⟩
theorem ZEO(hR:Reach rs){k:Nat}(hk:k<rs.length):∀(m:Nat)(W:Nat->Int),(∀i,0<=W i)->LeS rs (Sh rs W) (Sh rs λi=>W i+ind (m:Int) [k] i)
 | 0,W,hW=>by
  have e:(λi=>W i+ind ((0:Nat):Int) [k] i)=W:=by
   funext i;unfold ind
   split <;> simp
  rw[e];exact .refl
 | m+1,W,hW=>by
  have h1:=ZEO hR hk m W hW;have h2:=(ZKS hR (W:=λi=>W i+ind (m:Int) [k] i) (λi=>by have:=Lk (t:=(m:Int)) (ws:=[k]) (i:=i) (by lia);have:=hW i;show 0<=W i+ind (m:Int) [k] i;lia) hk).le hR
  have e:(λi=>(W i+ind (m:Int) [k] i)+ind 1 [k] i)=λi=>W i+ind ((m+1:Nat):Int) [k] i:=by
   funext i;unfold ind
   split <;> lia
  rw[e]at h2;exact h1.trans h2
theorem ZHF(hR:Reach rs){W':Nat->Int}(hW:∀i,0<=W i)(hle:∀i,W i<=W' i):∀j,j<=rs.length->LeS rs (Sh rs W) (Sh rs λi=>if i<j then W' i else W i)
 |0,_=>by simp only[xW,if_false];exact .refl
 | j + 1,h=>by
  have h1:=ZHF hR hW hle j (by lia);have h2:=ZEO hR (k:=j) (by lia) (W' j-W j).toNat (λi=>if i<j then W' i else W i) λi=>by
   have:=hW i;have:=hle i;show 0<=if i<j then W' i else W i
   split <;> lia
  have e:(λi=>(if i<j then W' i else W i)+ind ((W' j-W j).toNat:Int) [j] i)=λi=>if i<j+1 then W' i else W i:=by
   funext i;simp only[ind,qG];by_cases e1:i=j
   ·subst e1;have:=hle i;simp;lia
   ·by_cases e2:i<j
    ·have e3:i<j+1:=by lia
     simp[e1,e2,e3]
    ·have e3:¬i<j+1:=by lia
     simp[e1,e2,e3]
  rw[e]at h2;exact h1.trans h2
theorem ZSC(hR:Reach rs){W':Nat->Int}(hW:∀i,0<=W i)(hle:∀i,W i<=W' i)(ho:∀i,¬i<rs.length->W' i=W i):LeS rs (Sh rs W) (Sh rs W'):=by
 have h:=ZHF hR hW hle rs.length (zK _);have e:(λi=>if i<rs.length then W' i else W i)=W':=by
  funext i;split
  ·rfl
  ·rename_i hi;exact(ho i hi).symm
 rw[e]at h;exact h
theorem ZG1(hS:SameR rs rs')(hn:∀k,col Row.need rs' k=col Row.need rs k):srv rs' (ord rs') (gath rs' (col Row.water rs')) (λ_=>0)=Sh rs (col Row.water rs'):=by unfold Sh;rw[hS.ord,hS.gath,ZJN hS _ _ _ λk _=>hn k]
theorem ZE4(hS:SameR rs rs')(hn:∀k,col Row.need rs' k=col Row.need rs k):shr rs'=(Sh rs (col Row.water rs')).2:=by unfold shr;rw[ZG1 hS hn]
theorem ZJO(hR:Reach rs')(hS:SameR rs rs')(hn:∀k,col Row.need rs' k=col Row.need rs k):gath rs' (λi=>col Row.water rs' i-shr rs' i)=(Sh rs (col Row.water rs')).1:=by rw[<-(Uz hR).pg,ZG1 hS hn]
def Cw:Nat->(Nat->Int)->Int
 |0,_=>0
 |n+1,F=>Cw n F+F n
theorem Og:∀{n:Nat}{F F':Nat->Int},(∀i,i<n->F i=F' i)->Cw n F=Cw n F'
 |0,_,_,_=>rfl
 |n+1,F,F',h=>by show Cw n F+F n=Cw n F'+F' n;rw[Og λi hi=>h i (by lia),h n (by lia)]
noncomputable def Eg(pg:Nat->List Int)(j:Nat):Int:=(pg j).getD 2 0+(pg j).getD 3 0
noncomputable def Lh(pg:Nat->List Int)(j:Nat):Int:=(pg j).getD 4 0
def Hs.pmp(h:Hs)(k:Nat):Option (Nat×Nat):=match(h.pl k).kd with
 |.basin _ _ (vD (to,dl,_))=>vD (to,dl)
 |_=>vE
def Hs.c1(h:Hs)(pg:Nat->List Int)(i j:Nat):Int:=if h.dir j=vE/\h.dn j=vD i/\(h.pl j).dl=0 then Eg pg j else 0
def Hs.o1(h:Hs)(pg:Nat->List Int)(i a j:Nat):Int:=(if h.dn j=vD i/\(h.pl j).dl=a+1 then Eg pg j else 0)+(if h.pmp j=vD (i,a+1)then Lh pg j else 0)
def Hs.brow(h:Hs)(yt:Int)(lv:Nat->Int)(k:Nat)(c:Int):List Int:=match(h.pl k).kd with
 |.basin brim rule _=>
  let w:=lv k+c;let st:=held yt rule [];let stays:=w-rv w st-pm w st
  [c,0,stays-min stays brim,rv w st,pm w st,min stays brim]
 |_=>[]
def Hs.Gy(h:Hs)(ca:Nat->Int)(m:Nat):Nat->Int:=shr (h.rows (h.mem m) ca)
def Hs.Iz(h:Hs)(ca:Nat->Int)(m:Nat):Nat->Int:=gath (h.rows (h.mem m) ca) λi=>col Row.water (h.rows (h.mem m) ca) i-h.Gy ca m i
theorem ZNf(e:∀k∈ms,ca k=ca' k):h.rows ms ca=h.rows ms ca':=by
 unfold Hs.rows;refine qw λk hk=>?_
 unfold Hs.row;rw[e k hk]
theorem ZHp:(s.send to dl c).came i=s.came i+(if to=i/\dl=0 then c else 0):=by
 unfold Cs.send;by_cases h0:dl=0
 ·simp only[h0,if_true,and_true,fset];by_cases e:i=to
  ·subst e;simp
  ·rw[if_neg e,if_neg (λz=>e z.symm)];lia
 ·simp[h0]
theorem ZGk{a:Nat}:(s.send to dl c).coming i a=s.coming i a+(if to=i/\dl=a+1 then c else 0):=by
 unfold Cs.send;by_cases h0:dl=0
 ·simp[h0]
 ·simp only[h0,if_false,upd2];by_cases e:i=to
  ·subst e;simp only[if_true,fset,true_and];by_cases ea:a=dl-1
   ·have e2:dl=a+1:=by lia
    rw[if_pos ea,if_pos e2,ea]
   ·have e2:¬dl=a+1:=by lia
    rw[if_neg ea,if_neg e2];lia
  ·rw[if_neg e,if_neg (λz=>e z.1.symm)];lia
theorem ZB3{k:Nat}:(h.Ek s k c).came i=s.came i+(if h.dn k=vD i/\(h.pl k).dl=0 then c else 0):=by
 unfold Hs.Ek;cases e:h.dn k with
 |none=>simp
 |some d=>simp only[ZHp,Option.some.injEq]
theorem ZB2{k:Nat}{a:Nat}:(h.Ek s k c).coming i a=s.coming i a+(if h.dn k=vD i/\(h.pl k).dl=a+1 then c else 0):=by
 unfold Hs.Ek;cases e:h.dn k with
 |none=>simp
 |some d=>simp only[ZGk,Option.some.injEq]
theorem ZEM{k:Nat}(hB:(h.pl k).kd.isB=vF):h.dir k=vE:=by
 unfold Hs.dir;cases h.dn k with
 |none=>rfl
 |some d=>simp[hB]
theorem W9{k:Nat}(e:h.dir k=vD d):h.dn k=vD d/\(h.pl k).dl=0/\(h.pl k).kd.isB=vG/\(h.pl d).kd.isB=vG:=by
 unfold Hs.dir at e;cases hd:h.dn k with
 |none=>rw[hd]at e;cases e
 | some d'=>
  rw[hd]at e;simp only at e;split at e
  ·cases e
  ·rename_i hc;cases e;refine⟨rfl,by lia,?_,?_⟩
   ·cases z:(h.pl k).kd.isB with
    |false=>rfl
    |true=>exact absurd (.inr (.inl z)) hc
   ·cases z:(h.pl d).kd.isB with
    |false=>rfl
    |true=>exact absurd (.inr (.inr z)) hc
theorem Ql{k:Nat}(hB:(h.pl k).kd.isB=vG):h.pmp k=vE:=by
 unfold Hs.pmp;cases e:(h.pl k).kd with
 |basin a b c=>rw[e]at hB;cases hB
 |town _ _=>rfl
 |mill _=>rfl
theorem ZDx(g:GoodH h){k:Nat}(e:h.last k=k):h.dir k=vE:=by
 cases hd:h.dir k with
 |none=>rfl
 |some d=>
  have h1:=Jq g hd;have h2:=Lg g hd;have h3:=(Hy g d).1;lia
theorem ZTO(g:GoodH h)(hm:m<h.n)(e:h.last m=m):(h.mem m).idxOf m=(h.mem m).length-1:=by
 have hl:=ZFh g hm e;have hpos:0<(h.mem m).length:=jP (mem_iff.mpr ⟨hm,e⟩);have nd:(h.mem m).Nodup:=(Qp (h:=h) (m:=m)).imp λhab=>zE hab
 rw[j5,zX (by lia)]at hl;have h2:=ZHZ nd (i:=(h.mem m).length-1) (by lia);rw[Option.some.inj hl]at h2;exact h2
structure TI (h:Hs) (yt:Int) (lv:Nat->Int) (co:Nat->Nat->Int) (fl:Nat->Int) (k:Nat) (s:Cs):Prop where
 came:∀i,i<h.n->s.came i=fl i+co i 0+Cw k (h.c1 s.page i)
 coming:∀i a,i<h.n->a<5->s.coming i a=Gu co i a+Cw k (h.o1 s.page i a)
 basin:∀i,i<k->i<h.n->(h.pl i).kd.isB=vF->s.page i=h.brow yt lv i (s.came i)
 reach:∀i,i<h.n->(h.pl i).kd.isB=vG->h.last i<k->s.page i=rrow (h.Gy s.came (h.last i)) (h.Iz s.came (h.last i)) ((h.mem (h.last i)).idxOf i)
section
variable{h:Hs}{yt:Int}{lv:Nat->Int}{co:Nat->Nat->Int}{fl:Nat->Int}
theorem Yu(e:∀k∈h.mem m,ca k=ca' k):h.Gy ca m=h.Gy ca' m/\h.Iz ca m=h.Iz ca' m:=by
 have e1:=ZNf (h:=h) e;have e2:h.Gy ca m=h.Gy ca' m:=by unfold Hs.Gy;rw[e1]
 refine⟨e2,?_⟩;unfold Hs.Iz;rw[e1,e2]
theorem V5(g:GoodH h){k:Nat}(hk:k∈h.mem m):k<=m:=by have h1:=mem_iff.mp hk;have h2:=(Hy g k).1;lia
theorem ZMQ(g:GoodH h){k:Nat}(hk:k<h.n)(t:TI h yt lv co fl k s):TI h yt lv co fl (k+1) (h.step yt lv s k):=by
 by_cases hB:(h.pl k).kd.isB=vF
 ·
  have e:h.step yt lv s k=h.basin yt lv s k:=by unfold Hs.step;rw[if_pos hB]
  rw[e];have hdir:=ZEM hB;have hpg:=(ZCQ (yt:=yt) (lv:=lv) (s:=s) hB).2;obtain⟨brim,rule,pump,ek⟩:∃a b c,(h.pl k).kd=.basin a b c:=by
   cases e:(h.pl k).kd with
   |basin a b c=>exact⟨a,b,c,rfl⟩
   |town _ _=>rw[e]at hB;cases hB
   |mill _=>rw[e]at hB;cases hB
  have hpk:(h.basin yt lv s k).page k=h.brow yt lv k (s.came k):=by
   unfold Hs.basin Hs.brow;rw[ek];simp only;cases pump with
   |none=>simp only;rw[Jf.2];simp
   |some q=>obtain⟨to,dl,m⟩:=q;simp only;rw[Uc.2,Jf.2];simp
  have hout:Eg (h.basin yt lv s k).page k=rv (lv k+s.came k) (held yt rule [])+(lv k+s.came k-rv (lv k+s.came k) (held yt rule [])-pm (lv k+s.came k) (held yt rule [])-min (lv k+s.came k-rv (lv k+s.came k) (held yt rule [])-pm (lv k+s.came k) (held yt rule [])) brim):=by unfold Eg;rw[hpk];unfold Hs.brow;rw[ek];simp[List.getD];lia
  have hpmp:Lh (h.basin yt lv s k).page k=pm (lv k+s.came k) (held yt rule []):=by
   unfold Lh;rw[hpk];unfold Hs.brow;rw[ek]
   rfl
  have hcame:∀i,(h.basin yt lv s k).came i=s.came i+(if h.dn k=vD i/\(h.pl k).dl=0 then Eg (h.basin yt lv s k).page k else 0):=λi=>by
   rw[hout];unfold Hs.basin;rw[ek];simp only;cases hp:pump with
   |none=>simp only[ZB3]
   |some q=>
    obtain⟨to,dl,m⟩:=q;have hd:=g.pump k brim rule to dl m hk (by rw[ek,hp]);simp only[ZHp,ZB3];rw[if_neg (show¬(to=i/\dl=0) by lia)];lia
  have hcom:∀i a,(h.basin yt lv s k).coming i a=s.coming i a+h.o1 (h.basin yt lv s k).page i a k:=λi a=>by
   unfold Hs.o1;rw[hout,hpmp];unfold Hs.basin Hs.pmp;rw[ek];simp only;cases hp:pump with
   |none=>simp[ZB2]
   |some q=>
    obtain⟨to,dl,m⟩:=q;simp only[ZGk,ZB2,Option.some.injEq,Prod.mk.injEq];lia
  have hlow:∀i,i<=k->(h.basin yt lv s k).came i=s.came i:=λi hi=>by
   rw[hcame,if_neg]
   ·lia
   ·intro z;have:=g.dn k i hk z.1;lia
  refine⟨λi hi=>?_,λi a hi ha=>?_,λi hik hi hBi=>?_,λi hi hBi hl=>?_⟩
  ·show _=_+(Cw k (h.c1 (h.basin yt lv s k).page i)+h.c1 (h.basin yt lv s k).page i k);rw[hcame,t.came i hi];have e1:Cw k (h.c1 (h.basin yt lv s k).page i)=Cw k (h.c1 s.page i):=Og λj hj=>by unfold Hs.c1 Eg;rw[hpg j (by lia)]
   rw[e1];unfold Hs.c1;simp only[hdir,true_and];lia
  ·show _=_+(Cw k (h.o1 (h.basin yt lv s k).page i a)+h.o1 (h.basin yt lv s k).page i a k);rw[hcom,t.coming i a hi ha];have e1:Cw k (h.o1 (h.basin yt lv s k).page i a)=Cw k (h.o1 s.page i a):=Og λj hj=>by unfold Hs.o1 Eg Lh;rw[hpg j (by lia)]
   rw[e1];lia
  ·by_cases e2:i=k
   ·subst e2;rw[hpk,hlow i (zK _)]
   ·rw[hpg i e2,hlow i (by lia)];exact t.basin i (by lia) hi hBi
  ·have hl2:h.last i<k:=by
    rcases jy (h.last i) k with z|z
    ·exact z
    ·have e2:h.last i=k:=by lia
     rcases ZBi g h.n i (by lia)with z2|z2
     ·rw[<-e2,z2,hBi]at hB;cases hB
     ·rw[e2,hB]at z2;cases z2
   have hle:=(Hy g i).1;rw[hpg i (by lia),t.reach i hi hBi hl2];have:=Yu (h:=h) (m:=h.last i) (ca:=s.came) (ca':=(h.basin yt lv s k).came) λj hj=>(hlow j (by have:=V5 g hj;lia)).symm
   rw[this.1,this.2]
 ·have hB':(h.pl k).kd.isB=vG:=by
   cases z:(h.pl k).kd.isB with
   |false=>rfl
   |true=>exact absurd z hB
  by_cases hl:h.last k=k
  ·
   have e:h.step yt lv s k=h.reach s k:=by unfold Hs.step;rw[if_neg hB,if_pos hl]
   rw[e];have hdir:=ZDx g hl;have hmem:k∈h.mem k:=mem_iff.mpr ⟨hk,hl⟩;have hpg:∀j,j∉h.mem k->(h.reach s k).page j=s.page j:=λj hj=>by rw[Wr,if_neg hj]
   have hpm:∀j,j∈h.mem k->(h.reach s k).page j=rrow (h.Gm s k) (h.Ft s k) ((h.mem k).idxOf j):=λj hj=>by rw[Wr,if_pos hj]
   have hout:Eg (h.reach s k).page k=h.Ft s k ((h.mem k).length-1):=by unfold Eg;rw[hpm k hmem,ZTO g hk hl];show(0:Int)+_=_;simp[rrow]
   have hcame:∀i,(h.reach s k).came i=s.came i+(if h.dn k=vD i/\(h.pl k).dl=0 then Eg (h.reach s k).page k else 0):=λi=>by rw[hout];unfold Hs.reach;simp only[ZB3]
   have hcom:∀i a,(h.reach s k).coming i a=s.coming i a+(if h.dn k=vD i/\(h.pl k).dl=a+1 then Eg (h.reach s k).page k else 0):=λi a=>by rw[hout];unfold Hs.reach;simp only[ZB2]
   have hlow:∀i,i<=k->(h.reach s k).came i=s.came i:=λi hi=>by
    rw[hcame,if_neg]
    ·lia
    ·intro z;have:=g.dn k i hk z.1;lia
   have hin:∀j,j∈h.mem k->j<k->∃d,h.dir j=vD d:=λj hj hjk=>by
    cases hd:h.dir j with
    |some d=>exact⟨d,rfl⟩
    |none=>
     have h1:=H8 g hd;have h2:=(mem_iff.mp hj).2;lia
   refine⟨λi hi=>?_,λi a hi ha=>?_,λi hik hi hBi=>?_,λi hi hBi hli=>?_⟩
   ·show _=_+(Cw k (h.c1 (h.reach s k).page i)+h.c1 (h.reach s k).page i k);rw[hcame,t.came i hi];have e1:Cw k (h.c1 (h.reach s k).page i)=Cw k (h.c1 s.page i):=Og λj hj=>by
     by_cases hm:j∈h.mem k
     ·obtain⟨d,hd⟩:=hin j hm hj;unfold Hs.c1;simp[hd]
     ·unfold Hs.c1 Eg;rw[hpg j hm]
    rw[e1];unfold Hs.c1;simp only[hdir,true_and];lia
   ·show _=_+(Cw k (h.o1 (h.reach s k).page i a)+h.o1 (h.reach s k).page i a k);rw[hcom,t.coming i a hi ha];have e1:Cw k (h.o1 (h.reach s k).page i a)=Cw k (h.o1 s.page i a):=Og λj hj=>by
     by_cases hm:j∈h.mem k
     ·obtain⟨d,hd⟩:=hin j hm hj;have hs:=W9 hd;unfold Hs.o1;simp[hs.2.1,Ql hs.2.2.1]
     ·unfold Hs.o1 Eg Lh;rw[hpg j hm]
    rw[e1];unfold Hs.o1;rw[Ql hB'];simp;lia
   ·have hik2:i<k:=by
     rcases jy i k with z|z
     ·exact z
     ·have e2:i=k:=by lia
      rw[e2,hB']at hBi;cases hBi
    have hm:i∉h.mem k:=λz=>by have h1:=(mem_iff.mp z).2;have h2:=H8 g (ZEM hBi);lia
    rw[hpg i hm,hlow i (by lia)];exact t.basin i hik2 hi hBi
   ·by_cases e2:h.last i=k
    ·have hm:i∈h.mem k:=mem_iff.mpr ⟨hi,e2⟩;rw[hpm i hm,e2];have:=Yu (h:=h) (m:=k) (ca:=s.came) (ca':=(h.reach s k).came) λj hj=>(hlow j (V5 g hj)).symm
     rw[<-this.1,<-this.2]
     rfl
    ·have hm:i∉h.mem k:=λz=>e2 (mem_iff.mp z).2
     rw[hpg i hm,t.reach i hi hBi (by lia)];have:=Yu (h:=h) (m:=h.last i) (ca:=s.came) (ca':=(h.reach s k).came) λj hj=>(hlow j (by have:=V5 g hj;lia)).symm
     rw[this.1,this.2]
  ·
   have e:h.step yt lv s k=s:=by unfold Hs.step;rw[if_neg hB,if_neg hl]
   rw[e];obtain⟨d,hd⟩:∃d,h.dir k=vD d:=by
    cases hd:h.dir k with
    |some d=>exact⟨d,rfl⟩
    |none=>exact absurd (H8 g hd) hl
   have hs:=W9 hd;refine⟨λi hi=>?_,λi a hi ha=>?_,λi hik hi hBi=>?_,λi hi hBi hli=>?_⟩
   ·show _=_+(Cw k (h.c1 s.page i)+h.c1 s.page i k);rw[t.came i hi];unfold Hs.c1;simp[hd]
   ·show _=_+(Cw k (h.o1 s.page i a)+h.o1 s.page i a k);rw[t.coming i a hi ha];unfold Hs.o1;simp[hs.2.1,Ql hs.2.2.1]
   ·refine t.basin i ?_ hi hBi;rcases jy i k with z|z
    ·exact z
    ·have e2:i=k:=by lia
     rw[e2,hB']at hBi;cases hBi
   ·refine t.reach i hi hBi ?_;rcases jy (h.last i) k with z|z
    ·exact z
    ·have e2:h.last i=k:=by lia
     have:=ZCj g h.n i (by lia);rw[e2]at this;exact absurd this hl
theorem ZFs(g:GoodH h):∀(m k:Nat)(s:Cs),k+m=h.n->TI h yt lv co fl k s->TI h yt lv co fl h.n (h.goF yt lv m k s)
 |0,k,s,e,t=>by
  have e1:k=h.n:=by lia
  rw[e1]at t;exact t
 |m+1,k,s,e,t=>ZFs g m (k+1) _ (by lia) (ZMQ g (by lia) t)
theorem ZDc(g:GoodH h):TI h (at_%h.yr) lv co fl h.n (h.cs lv co at_ fl):=by
 refine ZFs g h.n 0 _ (by lia) ⟨λi hi=>?_,λi a hi ha=>?_,(λi hi=>absurd hi (by lia)),(λi _ _ hi=>absurd hi (by lia))⟩
 ·show fl i+co i 0=fl i+co i 0+0;lia
 ·show Gu co i a=Gu co i a+0;lia
end
section
variable{h:Hs}{yt:Int}{lv:Nat->Int}{co:Nat->Nat->Int}{fl:Nat->Int}
theorem Mp(hi:i<ms.length):(h.rows ms ca)[i]?=vD (h.row ms ca ms[i]):=by
 unfold Hs.rows;rw[zj,zX hi]
 rfl
theorem ZMB{q:Row->Int}{k:Nat}(hk:k∈ms):col q (h.rows ms ca) (ms.idxOf k)=q (h.row ms ca k):=by have hl:=qF hk;unfold col;rw[Mp hl,jL hl]
end
theorem ZGr{t:Int}:∀{r:List Ssn}{x:List Stp},held t r x=x∨∃s∈r,held t r x=s.2
 |[],x=>.inl rfl
 | s::r,x=>by
  show held t r (if s.1<=t then s.2 else x)=x∨_;rcases ZGr (t:=t) (r:=r) (x:=if s.1<=t then s.2 else x)with z|⟨s',hs,z⟩
  ·by_cases hc:s.1<=t
   ·rw[if_pos hc]at z;exact .inr ⟨s,by simp,by show held t r (if s.1<=t then s.2 else x)=_;rw[if_pos hc];exact z⟩
   ·rw[if_neg hc]at z;exact .inl (by rw[if_neg hc];exact z)
  ·exact .inr ⟨s',zZ _ hs,z⟩
section
variable{h:Hs}{yt:Int}{lv:Nat->Int}{co:Nat->Nat->Int}{fl:Nat->Int}
end
theorem ZBw:∀{n:Nat}{F F':Nat->Int},(∀i,i<n->F i<=F' i)->Cw n F<=Cw n F'
 |0,_,_,_=>zH _
 |n+1,F,F',h=>by
  have h1:=ZBw (n:=n) (F:=F) (F':=F') λi hi=>h i (by lia)
  have h2:=h n (by lia);show Cw n F+F n<=Cw n F'+F' n;lia
theorem ZII(h:w<=w'){s:Stp}:cub w s<=cub w' s:=by unfold cub;lia
theorem ZEn(h:w<=w'):∀{st:List Stp},rv w st<=rv w' st
 |[]=>zH _
 |s::st=>by
  have h1:=ZEn h (st:=st);have h2:=ZII h (s:=s);show(if s.r then cub w s else 0)+rv w st<=(if s.r then cub w' s else 0)+rv w' st
  split <;> lia
theorem ZI9(h:w<=w'):∀{st:List Stp},pm w st<=pm w' st
 |[]=>zH _
 |s::st=>by
  have h1:=ZI9 h (st:=st);have h2:=ZII h (s:=s);show(if s.r then 0 else cub w s)+pm w st<=(if s.r then 0 else cub w' s)+pm w' st
  split <;> lia
theorem ZJk(h:w<=w'):∀{st:List Stp}{t:Int},Good t st->rv w' st+pm w' st-(rv w st+pm w st)<=max w' t-max w t
 |[],t,_=>by show(0:Int)+0-(0+0)<=_;lia
 | s::st,t,hg=>by
  obtain⟨h1,h2,h3⟩:=hg;have ih:=ZJk h h3;have e:∀w,rv w (s::st)+pm w (s::st)=cub w s+(rv w st+pm w st):=λw=>by
   show(if s.r then cub w s else 0)+rv w st+((if s.r then 0 else cub w s)+pm w st)=_
   split <;> lia
  rw[e,e];unfold cub;lia
theorem ZGn{w:Int}:∀{st:List Stp}{t:Int},Good t st->rv w st+pm w st<=max 0 (w-t)
 |[],t,_=>by show(0:Int)+0<=_;lia
 | s::st,t,hg=>by
  obtain⟨h1,h2,h3⟩:=hg;have ih:=ZGn (w:=w) h3;have e:rv w (s::st)+pm w (s::st)=cub w s+(rv w st+pm w st):=by
   show(if s.r then cub w s else 0)+rv w st+((if s.r then 0 else cub w s)+pm w st)=_
   split <;> lia
  rw[e];unfold cub;lia
section
variable{h:Hs}{yt:Int}{lv lv':Nat->Int}{co co':Nat->Nat->Int}{fl fl':Nat->Int}
theorem ZDp(g:GoodH h){k:Nat}(hk:k<h.n){b:Int}{r:List Ssn}(e:(h.pl k).kd=.basin b r q):Good 0 (held yt r []):=by
 rcases ZGr (t:=yt) (r:=r) (x:=[])with z|⟨s,hs,z⟩
 ·rw[z];trivial
 ·rw[z];exact(g.brim k b r q hk e).2 s hs
end
structure PageOk (h:Hs) (pg:Nat->List Int):Prop where
 row:∀k,k<h.n->∃a b c d e f,pg k=[a,b,c,d,e,f]/\0<=a/\0<=b/\0<=c/\0<=d/\0<=e/\0<=f
 brim:∀k b r q,k<h.n->(h.pl k).kd=.basin b r q->(pg k).getD 5 0<=b/\(0<(pg k).getD 2 0->(pg k).getD 5 0=b)
 town:∀k a b,k<h.n->(h.pl k).kd=.town a b->(pg k).getD 1 0<=a
 idleB:∀k,k<h.n->(h.pl k).kd.isB=vF->(pg k).getD 1 0=0
 ZTm:∀k,k<h.n->(h.pl k).kd.isB=vG->(pg k).getD 2 0=0/\(pg k).getD 4 0=0/\(pg k).getD 5 0=0
structure StOk (h:Hs) (lv:Nat->Int) (co:Nat->Nat->Int):Prop where
 lv0:∀k,k<h.n->0<=lv k
 lvR:∀k,k<h.n->(h.pl k).kd.isB=vG->lv k=0
 co0:∀k a,k<h.n->a<5->0<=co k a
section
variable{h:Hs}{yt:Int}{lv:Nat->Int}{co:Nat->Nat->Int}{fl:Nat->Int}
theorem ZPC(g:GoodH h)(t:TI h yt lv co fl h.n s)(nn:s.NN h.n)(h0:∀k,k<h.n->0<=lv k):PageOk h s.page:=by
 refine⟨λk hk=>?_,λk b r q hk e=>?_,λk a b hk e=>?_,λk hk hB=>?_,λk hk hB=>?_⟩
 ·cases hB:(h.pl k).kd.isB with
  | true=>
   rw[t.basin k hk hk hB];unfold Hs.brow;cases e:(h.pl k).kd with
   |basin b r q=>
    have a0:=h0 k hk;have a1:=nn.1 k hk;have a2:=ZBB (w:=lv k+s.came k) (st:=held yt r []);have a3:=ZAa (w:=lv k+s.came k) (st:=held yt r []);have a4:=ZGn (w:=lv k+s.came k) (ZDp (yt:=yt) g hk e);have a5:=(g.brim k b r q hk e).1;exact⟨_,_,_,_,_,_,rfl,a1,zH _,by lia,a2,a3,by lia⟩
   |town _ _=>rw[e]at hB;cases hB
   |mill _=>rw[e]at hB;cases hB
  |false=>
   have hl:=(Hy g k).2 hk;rw[t.reach k hk hB hl];have hR:=Mt g (m:=h.last k) nn.1;have hm:k∈h.mem (h.last k):=mem_iff.mpr ⟨hk,rfl⟩;have hsi:=Uz hR;have t0:0<=h.Gy s.came (h.last k) ((h.mem (h.last k)).idxOf k):=hsi.t0 _;have l0:0<=h.Iz s.came (h.last k) ((h.mem (h.last k)).idxOf k):=by have:=hsi.p0 ((h.mem (h.last k)).idxOf k) (by rw[Hr];exact qF hm);rw[hsi.pg]at this;exact this
   exact⟨_,_,_,_,_,_,rfl,by lia,t0,zH _,l0,zH _,zH _⟩
 ·have hB:(h.pl k).kd.isB=vF:=by rw[e];rfl
  rw[t.basin k hk hk hB];unfold Hs.brow;rw[e];simp only[List.getD_cons_succ,List.getD_cons_zero];lia
 ·have hB:(h.pl k).kd.isB=vG:=by rw[e];rfl
  have hl:=(Hy g k).2 hk;rw[t.reach k hk hB hl];have hR:=Mt g (m:=h.last k) nn.1;have hm:k∈h.mem (h.last k):=mem_iff.mpr ⟨hk,rfl⟩;have hn:=(Uz hR).tn ((h.mem (h.last k)).idxOf k);rw[ZMB hm]at hn;have e2:(h.row (h.mem (h.last k)) s.came k).need=a:=by show h.need k=a;unfold Hs.need;rw[e]
  rw[e2]at hn;exact hn
 ·rw[t.basin k hk hk hB];unfold Hs.brow
  cases e:(h.pl k).kd<;>rfl
 ·have hl:=(Hy g k).2 hk;rw[t.reach k hk hB hl];exact⟨rfl,rfl,rfl⟩
theorem ZFC(g:GoodH h)(t:TI h yt lv co fl h.n s)(nn:s.NN h.n)(h0:∀k,k<h.n->0<=lv k):StOk h (lies s.page) s.coming:=by have po:=ZPC g t nn h0;refine⟨λk hk=>?_,λk hk hB=>(po.ZTm k hk hB).2.2,nn.2⟩;obtain⟨a,b,c,d,e,f,e1,h1⟩:=po.row k hk;unfold lies;rw[e1];exact h1.2.2.2.2.2
end
section
variable{h:Hs}{yt:Int}{lv lv':Nat->Int}{co co':Nat->Nat->Int}{fl fl':Nat->Int}
theorem ZIb(g:GoodH h){k:Nat}(hk:k<h.n)(hB:(h.pl k).kd.isB=vF){c':Int}(h0:0<=lv k+c)(hl:lv k+c<=lv' k+c'):
  (h.brow yt lv k c).getD 2 0<=(h.brow yt lv' k c').getD 2 0/\(h.brow yt lv k c).getD 3 0<=(h.brow yt lv' k c').getD 3 0/\(h.brow yt lv k c).getD 4 0<=(h.brow yt lv' k c').getD 4 0/\(h.brow yt lv k c).getD 5 0<=(h.brow yt lv' k c').getD 5 0:=by
 unfold Hs.brow;cases e:(h.pl k).kd with
 |basin b r q=>
  have h1:=ZEn hl (st:=held yt r []);have h2:=ZI9 hl (st:=held yt r []);have h3:=ZJk hl (ZDp (yt:=yt) g hk e);simp only[List.getD_cons_succ,List.getD_cons_zero];lia
 |town _ _=>rw[e]at hB;cases hB
 |mill _=>rw[e]at hB;cases hB
theorem ZIi:SameR (h.rows ms ca) (h.rows ms ca')/\∀k,col Row.need (h.rows ms ca') k=col Row.need (h.rows ms ca) k:=by
 have e:∀i,(h.rows ms ca')[i]?=(h.rows ms ca)[i]?.map λ(r:Row)=>{r with water:=ca' (ms.getD i 0)}:=λi=>by
  by_cases hi:i<ms.length
  ·have e4:ms.getD i 0=ms[i]:=by simp[zC,zX hi]
   rw[Mp hi,Mp hi,e4]
   rfl
  ·rw[zy (by rw[Hr];lia),zy (by rw[Hr];lia)]
   rfl
 refine⟨⟨by rw[Hr,Hr],λk=>?_,λk=>?_⟩,λk=>?_⟩
 ·unfold Bj;rw[e]
  cases(h.rows ms ca)[k]?<;>rfl
 ·unfold col;rw[e]
  cases(h.rows ms ca)[k]?<;>rfl
 ·unfold col;rw[e]
  cases(h.rows ms ca)[k]?<;>rfl
theorem ZJl(g:GoodH h)(hc:∀k,k<h.n->0<=ca k)(hc':∀k,k<h.n->0<=ca' k)(hle:∀k∈h.mem m,ca k<=ca' k):
  (∀i,h.Gy ca m i<=h.Gy ca' m i)/\(m<h.n->h.last m=m->h.Iz ca m ((h.mem m).idxOf m)<=h.Iz ca' m ((h.mem m).idxOf m)):=by
 have hR:=Mt g (m:=m) hc;have hR':=Mt g (m:=m) hc';have hS:=ZIi (h:=h) (ms:=h.mem m) (ca:=ca) (ca':=ca');have hS0:=ZIi (h:=h) (ms:=h.mem m) (ca:=ca) (ca':=ca);have hout:∀(ca:Nat->Int)i,¬i<(h.mem m).length->col Row.water (h.rows (h.mem m) ca) i=0:=λca i hi=>by unfold col;rw[zy (by rw[Hr];lia)]
 have hw:=ZSC hR (W:=col Row.water (h.rows (h.mem m) ca)) (W':=col Row.water (h.rows (h.mem m) ca')) hR.water (λi=>by
  by_cases hi:i<(h.mem m).length
  ·unfold col;rw[Mp hi,Mp hi];exact hle _ (q8 hi)
  ·rw[hout ca i hi,hout ca' i hi];exact zH _) (λi hi=>by
  rw[Hr]at hi;rw[hout ca i hi,hout ca' i hi])
 have t1:h.Gy ca m=_:=ZE4 hS0.1 hS0.2;have t2:h.Gy ca' m=_:=ZE4 hS.1 hS.2;have l1:h.Iz ca m=_:=ZJO hR hS0.1 hS0.2;have l2:h.Iz ca' m=_:=ZJO hR' hS.1 hS.2;refine⟨λi=>?_,λhm hl=>?_⟩
 ·rw[t1,t2];exact hw.1 i
 ·rw[l1,l2];refine hw.2 _ ?_;have hmm:m∈h.mem m:=mem_iff.mpr ⟨hm,hl⟩;have hi:=qF hmm;unfold Bj;rw[Mp hi,jL hi];show(h.dir m).map _=vE;rw[ZDx g hl]
  rfl
theorem ZD5(g:GoodH h)(t:TI h yt lv co fl h.n s)(t':TI h yt lv' co' fl' h.n s')(nn:s.NN h.n)(nn':s'.NN h.n)(h0:∀k,k<h.n->0<=lv k)(hlv:∀k,k<h.n->lv k<=lv' k)(hco:∀k,k<h.n->co k 0<=co' k 0)(hfl:∀k,k<h.n->fl k<=fl' k):
  ∀(m k:Nat),k<m->k<h.n->s.came k<=s'.came k/\(h.dir k=vE->Eg s.page k<=Eg s'.page k)
 |0,k,hm,_=>absurd hm (by lia)
 | m+1,k,hm,hk=>by
  have ih:=ZD5 g t t' nn nn' h0 hlv hco hfl m;have hc:s.came k<=s'.came k:=by
   rw[t.came k hk,t'.came k hk];have h1:=hco k hk;have h2:=hfl k hk;have h3:Cw h.n (h.c1 s.page k)<=Cw h.n (h.c1 s'.page k):=ZBw λj hj=>by
    unfold Hs.c1;by_cases hcd:h.dir j=vE/\h.dn j=vD k/\(h.pl j).dl=0
    ·have hlt:=g.dn j k hj hcd.2.1;rw[if_pos hcd,if_pos hcd];exact(ih j (by lia) hj).2 hcd.1
    ·rw[if_neg hcd,if_neg hcd];exact zH _
   lia
  refine⟨hc,λhd=>?_⟩;unfold Eg;cases hB:(h.pl k).kd.isB with
  |true=>
   rw[t.basin k hk hk hB,t'.basin k hk hk hB];have:=hlv k hk;have:=h0 k hk;have:=nn.1 k hk;have:=ZIb (yt:=yt) (lv:=lv) (lv':=lv') g hk hB (c:=s.came k) (c':=s'.came k) (by lia) (by lia);lia
  | false=>
   have hl:=H8 g hd;rw[t.reach k hk hB (by lia),t'.reach k hk hB (by lia),hl];have hm2:=(ZJl g (m:=k) nn.1 nn'.1 λj hj=>by
    have h1:=V5 g hj;by_cases e:j=k
    ·subst e;exact hc
    ·exact(ih j (by lia) (mem_iff.mp hj).1).1).2 hk hl
   show(0:Int)+_<=0+_;simp only[rrow,List.getD_cons_succ,List.getD_cons_zero];lia
structure MoreP (h:Hs) (pg pg':Nat->List Int):Prop where
 took:∀k,k<h.n->(pg k).getD 1 0<=(pg' k).getD 1 0
 basin:∀k,k<h.n->(h.pl k).kd.isB=vF->(pg k).getD 2 0<=(pg' k).getD 2 0/\(pg k).getD 3 0<=(pg' k).getD 3 0/\(pg k).getD 4 0<=(pg' k).getD 4 0
 lies:∀k,k<h.n->lies pg k<=lies pg' k
 out:∀k,k<h.n->h.dir k=vE->Eg pg k<=Eg pg' k
theorem ZRH(g:GoodH h)(t:TI h yt lv co fl h.n s)(t':TI h yt lv' co' fl' h.n s')(nn:s.NN h.n)(nn':s'.NN h.n)(h0:∀k,k<h.n->0<=lv k)(hlv:∀k,k<h.n->lv k<=lv' k)(hco:∀k a,k<h.n->a<5->co k a<=co' k a)(hfl:∀k,k<h.n->fl k<=fl' k):
  MoreP h s.page s'.page/\∀k a,k<h.n->a<5->s.coming k a<=s'.coming k a:=by
 have cm:=λk hk=>ZD5 g t t' nn nn' h0 hlv (λk hk=>hco k 0 hk (by lia)) hfl h.n k hk hk
 have hbm:∀k,k<h.n->(h.pl k).kd.isB=vF->_:=λk hk hB=>by have h1:=hlv k hk;have h2:=h0 k hk;have h3:=nn.1 k hk;have h4:=(cm k hk).1;exact ZIb (yt:=yt) (lv:=lv) (lv':=lv') g hk hB (c:=s.came k) (c':=s'.came k) (by lia) (by lia)
 have mp:MoreP h s.page s'.page:=by
  refine⟨λk hk=>?_,λk hk hB=>?_,λk hk=>?_,λk hk hd=>(cm k hk).2 hd⟩
  ·cases hB:(h.pl k).kd.isB with
   |true=>
    rw[t.basin k hk hk hB,t'.basin k hk hk hB];unfold Hs.brow
    cases e:(h.pl k).kd<;>exact zH _
   |false=>
    have hl:=(Hy g k).2 hk;rw[t.reach k hk hB hl,t'.reach k hk hB hl];exact(ZJl g (m:=h.last k) nn.1 nn'.1 λj hj=>(cm j (mem_iff.mp hj).1).1).1 _
  ·rw[t.basin k hk hk hB,t'.basin k hk hk hB];have:=hbm k hk hB;exact⟨this.1,this.2.1,this.2.2.1⟩
  ·unfold _W.lies;cases hB:(h.pl k).kd.isB with
   |true=>
    rw[t.basin k hk hk hB,t'.basin k hk hk hB];exact(hbm k hk hB).2.2.2
   |false=>
    have hl:=(Hy g k).2 hk;rw[t.reach k hk hB hl,t'.reach k hk hB hl];exact zH _
 refine⟨mp,λk a hk ha=>?_⟩;rw[t.coming k a hk ha,t'.coming k a hk ha];have h1:Gu co k a<=Gu co' k a:=by
  unfold Gu;split
  ·exact hco k (a+1) hk (by lia)
  ·exact zH _
 have h2:Cw h.n (h.o1 s.page k a)<=Cw h.n (h.o1 s'.page k a):=ZBw λj hj=>by
  unfold Hs.o1;have a1:(if h.dn j=vD k/\(h.pl j).dl=a+1 then Eg s.page j else 0)<=(if h.dn j=vD k/\(h.pl j).dl=a+1 then Eg s'.page j else 0):=by
   by_cases hc:h.dn j=vD k/\(h.pl j).dl=a+1
   ·rw[if_pos hc,if_pos hc];refine mp.out j hj ?_;cases hd:h.dir j with
    |none=>rfl
    |some d=>have:=(W9 hd).2.1;lia
   ·rw[if_neg hc,if_neg hc];exact zH _
  have a2:(if h.pmp j=vD (k,a+1)then Lh s.page j else 0)<=(if h.pmp j=vD (k,a+1)then Lh s'.page j else 0):=by
   by_cases hc:h.pmp j=vD (k,a+1)
   ·rw[if_pos hc,if_pos hc];have hB:(h.pl j).kd.isB=vF:=by
     cases z:(h.pl j).kd.isB with
     |true=>rfl
     |false=>rw[Ql z]at hc;cases hc
    exact(mp.basin j hj hB).2.2
   ·rw[if_neg hc,if_neg hc];exact zH _
  lia
 lia
end
section
variable{h:Hs}
end
section
variable{h:Hs}
def MoreL(h:Hs):List (Nat->List Int)->List (Nat->List Int)->Prop
 |[],[]=>True
 |p::r,p'::r'=>MoreP h p p'/\MoreL h r r'
 |_,_=>False
def LeF(n:Nat):List (Nat->Int)->List (Nat->Int)->Prop
 |[],[]=>True
 |p::r,p'::r'=>(∀k,k<n->p k<=p' k)/\LeF n r r'
 |_,_=>False
theorem Ww(g:GoodH h):∀(fls fls':List (Nat->Int))(s s':St2)(a:Int),StOk h s.1 s.2->StOk h s'.1 s'.2->(∀fl∈fls,∀k,k<h.n->0<=fl k)->(∀fl∈fls',∀k,k<h.n->0<=fl k)->(∀k,k<h.n->s.1 k<=s'.1 k)->(∀k a,k<h.n->a<5->s.2 k a<=s'.2 k a)->LeF h.n fls fls'->
  MoreL h (h.Bt fls s a) (h.Bt fls' s' a)/\∀k j,k<h.n->j<5->(h.Ei fls s a).2 k j<=(h.Ei fls' s' a).2 k j
 |[],[],s,s',a,_,_,_,_,_,hco,_=>⟨trivial,hco⟩
 |fl::r,fl'::r',s,s',a,hs,hs',hf,hf',hlv,hco,hl=>by
  have t:=ZDc (lv:=s.1) (co:=s.2) (fl:=fl) g (at_:=a);have nn:=Yd g (lv:=s.1) (fl:=fl) (co:=s.2) (a:=a) hs.co0 (hf fl (by simp));have t':=ZDc (lv:=s'.1) (co:=s'.2) (fl:=fl') g (at_:=a);have nn':=Yd g (lv:=s'.1) (fl:=fl') (co:=s'.2) (a:=a) hs'.co0 (hf' fl' (by simp));have m:=ZRH g t t' nn nn' hs.lv0 hlv hco hl.1;have ih:=Ww g r r' (h.nxt s a fl) (h.nxt s' a fl') (a+1) (ZFC g t nn hs.lv0) (ZFC g t' nn' hs'.lv0) (λf' hf'=>hf f' (zZ _ hf')) (λf' hf''=>hf' f' (zZ _ hf'')) m.1.lies m.2 hl.2
  exact⟨⟨m.1,ih.1⟩,ih.2⟩
 |[],_::_,_,_,_,_,_,_,_,_,_,hl=>absurd hl (by intro z;exact z)
 |_::_,[],_,_,_,_,_,_,_,_,_,hl=>absurd hl (by intro z;exact z)
end
theorem ZQV{n k:Nat}(hk:k<n){b d e f:Int}(e1:pg k=[a,b,c,d,e,f]):atI (Ci n pg) (k:Int)=zT [.int a,.int b,.int c,.int d,.int e,.int f]:=Dk rfl (by unfold Ci;rw[zj,zP hk];simp[Il,e1])
def mcell(h:Hs)(f:Nat->Int)(k:Nat):Int:=f (6+24*h.n+k)
def lvM(h:Hs)(f:Nat->Int)(u:Int)(lv:Nat->Int)(k:Nat):Int:=match(h.pl k).kd with
 |.basin b _ _=>lv k+amt (mcell h f k/2) u%(b-lv k+1)*(mcell h f k%2)
 |_=>lv k
def coM(h:Hs)(f:Nat->Int)(u:Int)(co:Nat->Nat->Int)(k j:Nat):Int:=co k j+u*(mcell h f k/2%2)
def flM(h:Hs)(f:Nat->Int)(u:Int)(fl:Nat->Nat->Int)(i k:Nat):Int:=fl i k+amt (f (6+24*h.n+h.n+i*h.n+k)/2) u*(f (6+24*h.n+h.n+i*h.n+k)%2)
theorem Wx(hx:0<=x):0<=x*(c%2):=jD hx (by lia)
theorem ZCU{k:Nat}:tab k F++[.int (F k)]=tab (k+1) F:=by simp[tab,j2]
theorem ZIv{k:Nat}:Am k co++[.tup (tab 5 (co k))]=Am (k+1) co:=by simp[Am,j2]
theorem W5{n k:Nat}(hk:k<n):atI (Am n co) (k:Int)=zT (tab 5 (co k)):=Dk rfl (by simp[Am,hk])
theorem ZGN{B:DO}(h:∀m,bels m ds=vF):freeze (G++[A,B]) (.ok (.ref (G.length+2)) (G++[A,B,.lst ds]))=.ok (.fl ds) (G++[A,B]):=by have:=Dg (G:=G++[A,B]) (ds:=ds) (L:=[]) (h _);simpa using this
theorem Yh{B C:DO}(h:∀m,bels m ds=vF):freeze (G++[A,B,C]) (.ok (.ref (G.length+3)) (G++[A,B,C,.lst ds]))=.ok (.fl ds) (G++[A,B,C]):=by have:=Dg (G:=G++[A,B,C]) (ds:=ds) (L:=[]) (h _);simpa using this
section
variable{ns:List Int}{f:Nat->Int}{u:Int}{h:Hs}
theorem ZK8(hf:Cf ns f)(hu:0<u)(g:GoodH h)(hb:∀k b r q,k<h.n->(h.pl k).kd=.basin b r q->lv k<=b){k:Nat}(hk:k<h.n){s3 x10 x11 x12 s14 s15 s16 s17:Option D}(G:DH):∃y12,
  Ol [zN ns,vD h.enc,vD (stD h.n lv co),s3,zI u,zI h.n,zI ((6+24*h.n:Nat):Int),zR G.length,zR (G.length+1),zI k,x10,x11,x12,s14,s15,s16,s17] (G++[.lst (tab k (lvM h f u lv)),.lst (Am k (coM h f u co))])=
   .nx [zN ns,vD h.enc,vD (stD h.n lv co),s3,zI u,zI h.n,zI ((6+24*h.n:Nat):Int),zR G.length,zR (G.length+1),zI k,zI (mcell h f k),zI (lvM h f u lv k),y12,s14,s15,s16,s17] (G++[.lst (tab (k+1) (lvM h f u lv)),.lst (Am (k+1) (coM h f u co))]):=by
 have hn:=g.len;have hc:∀G,Bc [nD ns,.int (((6+24*h.n:Nat):Int)+(k:Int))] G=.ok (.int (mcell h f k)) G:=λG=>by have:=hf (6+24*h.n+k) (by lia) G;rwa[show((6+24*h.n+k:Nat):Int)=((6+24*h.n:Nat):Int)+k by lia]at this
 generalize((6+24*h.n:Nat):Int)=B at hc;have ap:atI h.Cj (k:Int)=vD (h.encP (h.pl k)):=Hs.Dz hk;have al:atI (tab h.n lv) (k:Int)=zI (lv k):=Dy hk;have ar:atI (Am h.n co) (k:Int)=zT (tab 5 (co k)):=W5 hk;have mu:∀G,Ak (.int u) (.int (mcell h f k/2%2)) G=.ok (.int (u*(mcell h f k/2%2))) G:=λG=>Hd (by lia) (by lia)
 have cp:∀G,Ck (gV 0) Bd ZAK [vE,zI u,zI (mcell h f k)] (tab 5 (co k)) G=.ok (tab 5 (coM h f u co k)) G:=λG=>K4 (E:=λj=>D.int (co k j)) (F:=λj=>.int (coM h f u co k j)) λj _=>by unfold ZAK;simp[mu,coM]
 have fz:∀ds ds':List D,freeze (G++[.lst ds,.lst ds']) (.ok (.ref (G.length+2)) (G++[.lst ds,.lst ds',.lst (tab 5 (coM h f u co k))]))=.ok (.fl (tab 5 (coM h f u co k))) (G++[.lst ds,.lst ds']):=λds ds'=>ZGN λ_=>Hc
 have hl1:k<1000000:=by lia
 have cs:∀a b c d e f' g h i j k' l m n o p q:Option D,Ax 1 [4,10] [a,b,c,d,e,f',g,h,i,j,k',l,m,n,o,p,q]=[vE,e,k']:=λ_ _ _ _ _ _ _ _ _ _ _ _ _ _ _ _ _=>rfl
 have g0:∀a b:DO,(G++[a,b])[G.length]?=vD a:=λa b=>by simp
 have g1:∀a b:DO,(G++[a,b])[G.length+1]?=vD b:=λa b=>by simp
 have s0:∀a b c:DO,(G++[a,b]).set G.length c=G++[c,b]:=λa b c=>by simp
 have s1:∀a b c:DO,(G++[a,b]).set (G.length+1) c=G++[a,c]:=λa b c=>by simp
 have t1:=ZCU (k:=k) (F:=lvM h f u lv);have t2:=ZIv (k:=k) (co:=coM h f u co);have et:∀ds:List D,Di [.fl ds]=λG=>.ok (.tup ds) G:=λds=>rfl
 have hT5:(tab 5 (coM h f u co k)).length<=1000000:=by simp
 generalize tab 5 (coM h f u co k)=T5 at cp fz t2 hT5;generalize tab (k+1) (lvM h f u lv)=TL at t1;generalize Am (k+1) (coM h f u co)=RL at t2;have fin:∀y12:Option D,U3 [zN ns,vD h.enc,vD (stD h.n lv co),s3,zI u,zI h.n,zI B,zR G.length,zR (G.length+1),zI k,zI (mcell h f k),zI (lvM h f u lv k),y12,s14,s15,s16,s17] (G++[.lst (tab k (lvM h f u lv)),.lst (Am k (coM h f u co))])=.nx [zN ns,vD h.enc,vD (stD h.n lv co),s3,zI u,zI h.n,zI B,zR G.length,zR (G.length+1),zI k,zI (mcell h f k),zI (lvM h f u lv k),y12,s14,s15,s16,s17] (G++[.lst TL,.lst RL]):=λy12=>by
  unfold U3 ZE1 stD;simp[hT5,g0,g1,s0,s1,hl1,t1,ar,cs,cp,fz,et,t2]
 have mid:∃y12:Option D,∀Γ,Pg [zN ns,vD h.enc,vD (stD h.n lv co),s3,zI u,zI h.n,zI B,zR G.length,zR (G.length+1),zI k,zI (mcell h f k),zI (lv k),x12,s14,s15,s16,s17] Γ=U3 [zN ns,vD h.enc,vD (stD h.n lv co),s3,zI u,zI h.n,zI B,zR G.length,zR (G.length+1),zI k,zI (mcell h f k),zI (lvM h f u lv k),y12,s14,s15,s16,s17] Γ:=by
  clear fin fz g0 g1 s0 s1 t1 t2 cp;generalize vD (stD h.n lv co)=S2;cases ek:(h.pl k).kd with
  |basin b r q=>
   have hbl:=hb k b r q hk ek;have hv:lvM h f u lv k=lv k+amt (mcell h f k/2) u%(b-lv k+1)*(mcell h f k%2):=by unfold lvM;rw[ek]
   have e4:∀G,Ad (h.encP (h.pl k)) (.int 4) G=.ok (.int b) G:=λG=>by unfold Hs.encP;rw[ek];simp
   have r0:0<b-lv k+1:=by lia
   have m2:∀x G,Ak (.int x) (.int (mcell h f k%2)) G=.ok (.int (x*(mcell h f k%2))) G:=λx G=>Hd (by lia) (by lia)
   have om:∀x G,Az (.int x) (.int (b-lv k+1)) G=.ok (.int (x%(b-lv k+1))) G:=λx G=>by simp[r0]
   refine⟨zI (b-lv k+1),λΓ=>?_⟩;rw[hv];unfold Pg;simp[Cq,ap,Gn,ek,Kd.isB,e4,Jh hu,om,m2]
  |town a b=>
   have hv:lvM h f u lv k=lv k:=by unfold lvM;rw[ek]
   refine⟨x12,λΓ=>?_⟩;rw[hv];unfold Pg;simp[Cq,ap,Gn,ek,Kd.isB]
  |mill a=>
   have hv:lvM h f u lv k=lv k:=by unfold lvM;rw[ek]
   refine⟨x12,λΓ=>?_⟩;rw[hv];unfold Pg;simp[Cq,ap,Gn,ek,Kd.isB]
 obtain⟨y12,hm⟩:=mid;refine⟨y12,?_⟩;have fm:=(hm _).trans (fin y12);clear fin hm;have st:stD h.n lv co=.tup [.tup (tab h.n lv),.tup (Am h.n co)]:=rfl;rw[st]at fm⊢;generalize(G++[.lst (tab k (lvM h f u lv)),.lst (Am k (coM h f u co))])=Γ at fm⊢;unfold Ol ZEH;simp[hc,al,fm]
theorem ZFL(hf:Cf ns f)(hu:0<u)(g:GoodH h){co:Nat->Nat->Int}(hb:∀k b r q,k<h.n->(h.pl k).kd=.basin b r q->lv k<=b){s3 s14 s15 s16 s17:Option D}(G:DH):∀(m k:Nat)(x9 x10 x11 x12:Option D),k+m=h.n->∃y9 y10 y11 y12,
  Aq (gV 9) Ol (Bg k m) [zN ns,vD h.enc,vD (stD h.n lv co),s3,zI u,zI h.n,zI ((6+24*h.n:Nat):Int),zR G.length,zR (G.length+1),x9,x10,x11,x12,s14,s15,s16,s17] (G++[.lst (tab k (lvM h f u lv)),.lst (Am k (coM h f u co))])=
   .nx [zN ns,vD h.enc,vD (stD h.n lv co),s3,zI u,zI h.n,zI ((6+24*h.n:Nat):Int),zR G.length,zR (G.length+1),y9,y10,y11,y12,s14,s15,s16,s17] (G++[.lst (tab h.n (lvM h f u lv)),.lst (Am h.n (coM h f u co))])
 |0,k,x9,x10,x11,x12,e=>by
  have e1:k=h.n:=by lia
  subst e1;exact⟨x9,x10,x11,x12,by rw[H7,Cp]⟩
 |m+1,k,x9,x10,x11,x12,e=>by
  obtain⟨z12,hb1⟩:=ZK8 hf hu g hb (k:=k) (by lia) (s3:=s3) (x10:=x10) (x11:=x11) (x12:=x12) (s14:=s14) (s15:=s15) (s16:=s16) (s17:=s17) (co:=co) G;obtain⟨y9,y10,y11,y12,ih⟩:=ZFL hf hu g hb (s3:=s3) (s14:=s14) (s15:=s15) (s16:=s16) (s17:=s17) (co:=co) G m (k+1) (zI k) (zI (mcell h f k)) (zI (lvM h f u lv k)) z12 (by lia);refine⟨y9,y10,y11,y12,?_⟩;rw[G9,Bu];simp only[Cg,R.By,qj,hb1,Cm]
  have e1:((k:Int)+1)=((k+1:Nat):Int):=by lia
  rw[e1,ih]
theorem ZMq(hf:Cf ns f)(hu:0<u)(g:GoodH h)(hi:i<t)(ht:t<=6){s7 s8 s9 s10 s11 s12 s14 x16 x17:Option D}{B:DO}{acc:List D}(ha:acc.length<=100)(G:DH):∃y16 y17,
  Q9 [zN ns,vD h.enc,s2,zF (Af h.n ((zQ t).map fl)),zI u,zI h.n,zI ((6+24*h.n:Nat):Int),s7,s8,s9,s10,s11,s12,zR (G.length+2),zI i,x16,x17] (G++[A,B,.lst acc])=
   .nx [zN ns,vD h.enc,s2,zF (Af h.n ((zQ t).map fl)),zI u,zI h.n,zI ((6+24*h.n:Nat):Int),s7,s8,s9,s10,s11,s12,zR (G.length+2),zI i,y16,y17] (G++[A,B,.lst (acc++[.tup (tab h.n (flM h f u fl i))])]):=by
 have hn:=g.len;have hin:i*h.n<=6*12:=jO (by lia) hn;have mi:∀G,Ak (.int (i:Int)) (.int (h.n:Int)) G=.ok (.int ((i:Int)*h.n)) G:=λG=>G8 (by lia) (by lia)
 have c3:∀G,Ck (gV 0) Bd Vv [vE,zN ns,zI h.n,zI ((6+24*h.n:Nat):Int),zI i] (Bg 0 h.n) G=.ok (tab h.n λk=>f (6+24*h.n+h.n+i*h.n+k)) G:=λG=>
  Kv (F:=λk=>.int (f (6+24*h.n+h.n+i*h.n+k))) λk hk=>by
   have h1:=hf (6+24*h.n+h.n+i*h.n+k) (by lia) G;have e1:((6+24*h.n+h.n+i*h.n+k:Nat):Int)=((6+24*h.n:Nat):Int)+(h.n:Int)+(i:Int)*h.n+k:=by rw[j3,j3,j3,Int.natCast_mul]
   rw[e1]at h1;generalize((6+24*h.n:Nat):Int)=B at h1;unfold Vv;simp[mi,h1]
 have c4:∀G,Ck (gV 0) Bd Vy [vE,zI u] (tab h.n λk=>f (6+24*h.n+h.n+i*h.n+k)) G=.ok (tab h.n λk=>amt (f (6+24*h.n+h.n+i*h.n+k)/2) u*(f (6+24*h.n+h.n+i*h.n+k)%2)) G:=λG=>
  K4 (E:=λk=>.int (f (6+24*h.n+h.n+i*h.n+k))) (F:=λk=>.int (amt (f (6+24*h.n+h.n+i*h.n+k)/2) u*(f (6+24*h.n+h.n+i*h.n+k)%2))) λk _=>by
   generalize f (6+24*h.n+h.n+i*h.n+k)=c;have m2:∀x G,Ak (.int x) (.int (c%2)) G=.ok (.int (x*(c%2))) G:=λx G=>Hd (by lia) (by lia)
   unfold Vy;simp[Jh hu,m2]
 have af:atI (Af h.n ((zQ t).map fl)) (i:Int)=zT (tab h.n (fl i)):=Dk rfl (by simp[Af,hi]);have c5:∀G,Ck (gV 0) Bd ZCd [vE,zF (Af h.n ((zQ t).map fl)),zI i,zF (tab h.n λk=>amt (f (6+24*h.n+h.n+i*h.n+k)/2) u*(f (6+24*h.n+h.n+i*h.n+k)%2))] (Bg 0 h.n) G=.ok (tab h.n (flM h f u fl i)) G:=λG=>
  Kv (F:=λk=>.int (flM h f u fl i k)) λk hk=>by have a1:atI (tab h.n (fl i)) (k:Int)=zI (fl i k):=Dy hk;have a2:atI (tab h.n λk=>amt (f (6+24*h.n+h.n+i*h.n+k)/2) u*(f (6+24*h.n+h.n+i*h.n+k)%2)) (k:Int)=zI (amt (f (6+24*h.n+h.n+i*h.n+k)/2) u*(f (6+24*h.n+h.n+i*h.n+k)%2)):=Dy hk;unfold ZCd;simp[af,a1,a2,flM]
 have hr:inR (h.n:Int):=Ef (by lia) (by lia);have cs3:∀a b c d e f' g h i j k' l m n o p q:Option D,Ax 1 [0,5,6,14] [a,b,c,d,e,f',g,h,i,j,k',l,m,n,o,p,q]=[vE,a,f',g,o]:=λ_ _ _ _ _ _ _ _ _ _ _ _ _ _ _ _ _=>rfl
 have cs4:∀a b c d e f' g h i j k' l m n o p q:Option D,Ax 1 [4] [a,b,c,d,e,f',g,h,i,j,k',l,m,n,o,p,q]=[vE,e]:=λ_ _ _ _ _ _ _ _ _ _ _ _ _ _ _ _ _=>rfl
 have cs5:∀a b c d e f' g h i j k' l m n o p q:Option D,Ax 1 [3,14,16] [a,b,c,d,e,f',g,h,i,j,k',l,m,n,o,p,q]=[vE,d,o,q]:=λ_ _ _ _ _ _ _ _ _ _ _ _ _ _ _ _ _=>rfl
 have fz3:=Yh (G:=G) (A:=A) (B:=B) (C:=.lst acc) (ds:=tab h.n λk=>f (6+24*h.n+h.n+i*h.n+k)) λ_=>Hc
 have fz4:=Yh (G:=G) (A:=A) (B:=B) (C:=.lst acc) (ds:=tab h.n λk=>amt (f (6+24*h.n+h.n+i*h.n+k)/2) u*(f (6+24*h.n+h.n+i*h.n+k)%2)) λ_=>Hc
 have fz5:=Yh (G:=G) (A:=A) (B:=B) (C:=.lst acc) (ds:=tab h.n (flM h f u fl i)) λ_=>Hc
 have g2:(G++[A,B,.lst acc])[G.length+2]?=vD (.lst acc):=by simp
 have s2:∀c:DO,(G++[A,B,.lst acc]).set (G.length+2) c=G++[A,B,c]:=λc=>by simp
 have hal:acc.length<1000000:=by lia
 refine⟨zF (tab h.n λk=>f (6+24*h.n+h.n+i*h.n+k)),zF (tab h.n λk=>amt (f (6+24*h.n+h.n+i*h.n+k)/2) u*(f (6+24*h.n+h.n+i*h.n+k)%2)),?_⟩;generalize((6+24*h.n:Nat):Int)=BB at c3;have l4:(tab h.n λk=>amt (f (6+24*h.n+h.n+i*h.n+k)/2) u*(f (6+24*h.n+h.n+i*h.n+k)%2)).length<=1000000:=by simp;lia
 have l3:(tab h.n λk=>f (6+24*h.n+h.n+i*h.n+k)).length<=1000000:=by simp;lia
 have l5:(tab h.n (flM h f u fl i)).length<=1000000:=by simp;lia
 generalize(tab h.n λk=>amt (f (6+24*h.n+h.n+i*h.n+k)/2) u*(f (6+24*h.n+h.n+i*h.n+k)%2))=T4 at c4 c5 fz4 l4;generalize(tab h.n λk=>f (6+24*h.n+h.n+i*h.n+k))=T3 at c3 c4 fz3 l3;generalize tab h.n (flM h f u fl i)=T5 at c5 fz5 l5;unfold Q9 ZF1 ZIt;simp[l3,l4,l5,hr,cs3,cs4,cs5,c3,c4,c5,fz3,fz4,fz5,g2,s2,hal]
theorem ZEL(hf:Cf ns f)(hu:0<u)(g:GoodH h){fl:Nat->Nat->Int}{t:Nat}(ht:t<=6){s2 s7 s8 s9 s10 s11 s12:Option D}{A B:DO}(G:DH):∀(m i:Nat)(x15 x16 x17:Option D),i+m=t->∃y15 y16 y17,
  Aq (gV 14) Q9 (Bg i m) [zN ns,vD h.enc,s2,zF (Af h.n ((zQ t).map fl)),zI u,zI h.n,zI ((6+24*h.n:Nat):Int),s7,s8,s9,s10,s11,s12,zR (G.length+2),x15,x16,x17] (G++[A,B,.lst (Af h.n ((zQ i).map (flM h f u fl)))])=
   .nx [zN ns,vD h.enc,s2,zF (Af h.n ((zQ t).map fl)),zI u,zI h.n,zI ((6+24*h.n:Nat):Int),s7,s8,s9,s10,s11,s12,zR (G.length+2),y15,y16,y17] (G++[A,B,.lst (Af h.n ((zQ t).map (flM h f u fl)))])
 |0,i,x15,x16,x17,e=>by
  have e1:i=t:=by lia
  subst e1;exact⟨x15,x16,x17,by rw[H7,Cp]⟩
 |m+1,i,x15,x16,x17,e=>by
  obtain⟨z16,z17,hb⟩:=ZMq hf hu g (fl:=fl) (t:=t) (i:=i) (by lia) ht (s2:=s2) (s7:=s7) (s8:=s8) (s9:=s9) (s10:=s10) (s11:=s11) (s12:=s12) (s14:=vE) (x16:=x16) (x17:=x17) (A:=A) (B:=B) (acc:=Af h.n ((zQ i).map (flM h f u fl))) (by simp[Af];lia) G;obtain⟨y15,y16,y17,ih⟩:=ZEL hf hu g (fl:=fl) ht (s2:=s2) (s7:=s7) (s8:=s8) (s9:=s9) (s10:=s10) (s11:=s11) (s12:=s12) (A:=A) (B:=B) G m (i+1) (zI i) z16 z17 (by lia)
  refine⟨y15,y16,y17,?_⟩;have ea:Af h.n ((zQ i).map (flM h f u fl))++[.tup (tab h.n (flM h f u fl i))]=Af h.n ((zQ (i+1)).map (flM h f u fl)):=by simp[Af,j2]
  rw[ea]at hb;rw[G9,Bu];simp only[Cg,R.By,qj,hb,Cm];have e1:((i:Int)+1)=((i+1:Nat):Int):=by lia
  rw[e1,ih]
theorem ZNZ{B:DO}(h1:bels G.length ds=vF)(h2:bel G.length e=vF):freeze G (.ok (.tup [e,.ref (G.length+2)]) (G++[A,B,.lst ds]))=.ok (.tup [e,.fl ds]) G:=by
 unfold freeze;have m:Dt (G++[A,B,.lst ds]) G.length 9 (.tup [e,.ref (G.length+2)])=zT [e,.fl ds]:=by
  unfold Dt;have m1:Dt (G++[A,B,.lst ds]) G.length 8 (.ref (G.length+2))=zF ds:=by unfold Dt;simp[Ug h1]
  have m2:Dt (G++[A,B,.lst ds]) G.length 8 e=vD e:=by unfold Dt;simp[h2]
  simp[Hz,m1,m2]
 simp[m]
theorem ZQz(hf:Cf ns f)(hu:0<u)(cu:Cu ns u)(g:GoodH h)(hb:∀k b r q,k<h.n->(h.pl k).kd=.basin b r q->lv k<=b)(ht:t<=6)(G:DH):
  freeze G (O9 [nD ns,h.enc,stD h.n lv co,.fl (Af h.n ((zQ t).map fl))] G)=.ok (.tup [stD h.n (lvM h f u lv) (coM h f u co),.fl (Af h.n ((zQ t).map (flM h f u fl)))]) G:=by
 have hn:=g.len;obtain⟨y9,y10,y11,y12,h1⟩:=ZFL hf hu g hb (co:=co) (s3:=zF (Af h.n ((zQ t).map fl))) (s14:=vE) (s15:=vE) (s16:=vE) (s17:=vE) G h.n 0 vE vE vE vE (by lia);obtain⟨y15,y16,y17,h2⟩:=ZEL hf hu g (fl:=fl) ht (s2:=vD (stD h.n lv co)) (s7:=zR G.length) (s8:=zR (G.length+1)) (s9:=y9) (s10:=y10) (s11:=y11) (s12:=y12) (A:=.lst (tab h.n (lvM h f u lv))) (B:=.lst (Am h.n (coM h f u co))) G t 0 vE vE vE (by lia)
 have h1':Aq (gV 9) Ol (Bg 0 h.n) [zN ns,vD h.enc,vD (stD h.n lv co),zF (Af h.n ((zQ t).map fl)),zI u,zI h.n,zI ((6+24*h.n:Nat):Int),zR G.length,zR (G.length+1),vE,vE,vE,vE,vE,vE,vE,vE] (G++[.lst [],.lst []])=_:=h1;have h2':Aq (gV 14) Q9 (Bg 0 t) [zN ns,vD h.enc,vD (stD h.n lv co),zF (Af h.n ((zQ t).map fl)),zI u,zI h.n,zI ((6+24*h.n:Nat):Int),zR G.length,zR (G.length+1),y9,y10,y11,y12,zR (G.length+2),vE,vE,vE] (G++[.lst (tab h.n (lvM h f u lv)),.lst (Am h.n (coM h f u co)),.lst []])=_:=h2
 have m24:∀G,Ak (.int 24) (.int (h.n:Int)) G=.ok (.int (24*(h.n:Int))) G:=λG=>G8 (by lia) (by lia)
 have e6:(6+24*(h.n:Int))=((6+24*h.n:Nat):Int):=by lia
 have fu:freeze G (.ok (.int u) G)=.ok (.int u) G:=Ho rfl;have hr:inR (h.n:Int):=Ef (by lia) (by lia);have hrt:inR (t:Int):=Ef (by lia) (by lia);have t1:tidy (G++[.lst []]) (.ok (.ref (G.length+1)) (G++[.lst [],.lst []]))=.ok (.ref (G.length+1)) (G++[.lst [],.lst []]):=ZEC rfl;have t2:∀A B:DO,tidy (G++[A,B]) (.ok (.ref (G.length+2)) (G++[A,B,.lst []]))=.ok (.ref (G.length+2)) (G++[A,B,.lst []]):=λA B=>by have:=Ds (G:=G++[A,B]) (ds:=[]) (L:=[]) rfl;simpa using this
 have lfl:(Af h.n ((zQ t).map fl)).length=t:=by simp[Af]
 have fm:=ZNZ (G:=G) (A:=.lst (tab h.n (lvM h f u lv))) (B:=.lst (Am h.n (coM h f u co))) (ds:=Af h.n ((zQ t).map (flM h f u fl))) (e:=stD h.n (lvM h f u lv) (coM h f u co)) Ra Mr;have g0:∀b c:DO,(G++[.lst (tab h.n (lvM h f u lv)),b,c])[G.length]?=vD (.lst (tab h.n (lvM h f u lv))):=λb c=>by simp
 have g1:∀a c:DO,(G++[a,.lst (Am h.n (coM h f u co)),c])[G.length+1]?=vD (.lst (Am h.n (coM h f u co))):=λa c=>by simp
 have tt:∀(e:D)(G':DH),tidy G (.ok (.tup [e,.ref (G.length+2)]) G')=.ok (.tup [e,.ref (G.length+2)]) G':=λe G'=>ZIf (by simp)
 have cm:O9 [nD ns,h.enc,stD h.n lv co,.fl (Af h.n ((zQ t).map fl))] G=.ok (.tup [stD h.n (lvM h f u lv) (coM h f u co),.ref (G.length+2)]) (G++[.lst (tab h.n (lvM h f u lv)),.lst (Am h.n (coM h f u co)),.lst (Af h.n ((zQ t).map (flM h f u fl)))]):=by
  generalize((6+24*h.n:Nat):Int)=BB at h1' h2' e6;generalize Af h.n ((zQ t).map (flM h f u fl))=F2 at h2';generalize Af h.n ((zQ t).map fl)=F1 at h1' h2' lfl;generalize stD h.n lv co=E0 at h1' h2';unfold stD;generalize tab h.n (lvM h f u lv)=TL at h1' h2' g0;generalize Am h.n (coM h f u co)=RL at h1' h2' g1;unfold O9 ZES;rw[Ay];simp[cu,fu,Cq,Hs.Hl,m24,e6,Ah,Ds,t1,hr,h1',t2,lfl,hrt,h2',g0,g1,An,tt]
 rw[cm,fm]
end
theorem ZI5{n:Nat}{E1 E2 F:Nat->D}{d:D}(hd:Bh d G=vD ((zQ n).map E1))(he:Bh e G=vD ((zQ n).map E2))(h:∀k,k<n->te [vD (E1 k),vD (E2 k)] G=.ok (F k) G):
  De (Ew [d,e]) (Ao 2 (Ae (gV 0) (Ae (gV 1) Aw))) Bd te (Ax 2 [] S) n 0 G=.ok ((zQ n).map F) G:=by
 have hf:∀j,Ew [d,e] j G=vD ((zQ n).map λi=>D.tup [E1 i,E2 i])[j]? :=λj=>by
  rw[Xa hd he,Ly,List.zip_map',qO]
  rfl
 have hc:Ax 2 [] S=[vE,vE]:=rfl;rw[hc];have key:∀m j,j+m=n->De (Ew [d,e]) (Ao 2 (Ae (gV 0) (Ae (gV 1) Aw))) Bd te [vE,vE] m j G=.ok ((List.range' j m).map F) G:=by
  intro m
  induction m with
  |zero=>
   intro j hj;unfold De;rw[hf,zy (by simp;lia)]
   rfl
  |succ m ih=>
   intro j hj;have hlt:j<n:=by lia
   unfold De;rw[hf,zj,zP hlt];have hg:(Ao 2 (Ae (gV 0) (Ae (gV 1) Aw))) (.tup [E1 j,E2 j]) [vE,vE] G=.ok [vD (E1 j),vD (E2 j)] G:=by simp
   simp only[Option.map_some,hg,R.Hu,ZH7,if_true,h j hlt,ih (j+1) (by lia)];rw[List.range'_succ,zw]
 have:=key n 0 (by lia);rw[this,List.range_eq_range']
def leN(n:Nat)(a b:Nat->Int):Bool:=(zQ n).all λk=>decide (a k<=b k)
def Lf(w m:Nat)(A:Nat->Nat->Int):List D:=(zQ m).map λi=>D.tup (tab w (A i))
@[simp]theorem ZTV{w:Nat}{A:Nat->Nat->Int}:(Lf w m A).length=m:=by simp[Lf]
def leR(w m:Nat)(A B:Nat->Nat->Int):Bool:=(zQ m).all λi=>leN w (A i) (B i)
theorem ZI6{n:Nat}{p:Nat->Bool}:((zQ n).map λk=>D.bl (p k))=((zQ n).map p).map D.bl:=by rw[qO];rfl
theorem R4{ks:List Bool}:bels m (ks.map D.bl)=vF:=Ec λ_ _=>rfl
theorem ZHc{n:Nat}{a b:Nat->Int}(hn:n<=1000)(G:DH):Q0 [.tup (tab n a),.tup (tab n b)] G=.ok (.bl (leN n a b)) G:=by
 have hz:=Tv (G:=G) (Ji (xs:=tab n a)) (Ji (xs:=tab n b));rw[ZKW]at hz;have hc:=ZI5 (te:=ZBh) (S:=[zT (tab n a),zT (tab n b)]) (n:=n) (E1:=λi=>.int (a i)) (E2:=λi=>.int (b i)) (F:=λk=>.bl (decide (a k<=b k))) (G:=G) (Ji (xs:=tab n a)) (Ji (xs:=tab n b)) λk _=>by unfold ZBh;simp
 rw[ZI6]at hc;have ha:((zQ n).map λk=>decide (a k<=b k)).all id=leN n a b:=by rw[List.all_map];rfl
 have hl:((zQ n).map λk=>decide (a k<=b k)).length<=1000000:=by simp;lia
 generalize((zQ n).map λk=>decide (a k<=b k))=ks at hc ha hl;have fz:freeze G (.ok (.ref G.length) (G++[.lst (ks.map D.bl)]))=.ok (.fl (ks.map D.bl)) G:=Dg R4;unfold Q0 ZJo;rw[Ay];simp[hz,hc,hl,fz,ha,Be]
theorem ZFk{w m':Nat}{A B:Nat->Nat->Int}(hw:w<=1000)(hm:m<=1000){d:D}(hd:Bh d G=vD (Lf w m A))(he:Bh e G=vD (Lf w m' B))(ld:Bo [d] G=.ok (.int m) G)(le':Bo [e] G=.ok (.int m') G):
  K6 [d,e] G=.ok (.bl (decide (m=m')&&leR w m A B)) G:=by
 by_cases h:m=m'
 ·subst h;have hz:=Tv (G:=G) hd he;rw[ZTV]at hz;have hc:=ZI5 (te:=X5) (S:=[vD d,vD e]) (n:=m) (E1:=λi=>.tup (tab w (A i))) (E2:=λi=>.tup (tab w (B i))) (F:=λk=>.bl (leN w (A k) (B k))) (G:=G) hd he λk _=>by unfold X5;simp[ZHc hw]
  rw[ZI6]at hc;have ha:((zQ m).map λk=>leN w (A k) (B k)).all id=leR w m A B:=by rw[List.all_map];rfl
  have hl:((zQ m).map λk=>leN w (A k) (B k)).length<=1000000:=by simp;lia
  generalize((zQ m).map λk=>leN w (A k) (B k))=ks at hc ha hl;have fz:freeze G (.ok (.ref G.length) (G++[.lst (ks.map D.bl)]))=.ok (.fl (ks.map D.bl)) G:=Dg R4;unfold K6 Zk;rw[Ay];simp[ld,le',hz,hc,hl,fz,ha,Be]
 ·have h2:¬(m:Int)=(m':Int):=by lia
  unfold K6 Zk;rw[Ay];simp[ld,le',h,h2,Be]
theorem ZUd{n:Nat}(hn:n<=1000)(G:DH):Ua [stD n lv co,stD n lv' co'] G=.ok (.bl (leN n lv lv'&&leR 5 n co co')) G:=by
 have h1:=ZHc hn (a:=lv) (b:=lv') G;have h2:=ZFk (w:=5) (m:=n) (m':=n) (A:=co) (B:=co') (by lia) hn (d:=.tup (Am n co)) (e:=.tup (Am n co')) (G:=G) rfl rfl (by simp) (by simp);simp at h2;unfold stD Ua ZGT;rw[Ay]
 cases e:leN n lv lv'<;>simp[h1,h2,e,Be]
theorem ZFz{n:Nat}:Af n fls=Lf n fls.length λi=>fls.getD i λ_=>0:=by
 refine qM (by simp[Af,Lf]) λi h1 h2=>?_
 have hi:i<fls.length:=by simpa[Af]using h1
 simp[Af,Lf,zC,hi]
theorem ZKD{n:Nat}(hn:n<=1000)(hl:fls.length<=1000)(G:DH):K6 [.fl (Af n fls),.fl (Af n fls')] G=.ok (.bl (decide (fls.length=fls'.length)&&leR n fls.length (λi=>fls.getD i λ_=>0) λi=>fls'.getD i λ_=>0)) G:=
 ZFk hn hl (by rw[ZFz];rfl) (by rw[ZFz];rfl) (by simp[Af]) (by simp[Af])
noncomputable def wt:Nat->Str
 |1=>"took"
 |2=>"spilled"
 |3=>"let"
 |4=>"pumped"
 |_=>"lies"
def snT(b:Bool):Str:=if b=vF then "least" else "most"
def byd(b:Bool)(x m:Int):Bool:=if b=vF then decide (x<m)else decide (m<x)
theorem Uh:(snT b="least")=(b=vF):=by cases b<;>simp[snT]<;>decide
theorem ZHQ:(snT b="most")=(b=vG):=by cases b<;>simp[snT]<;>decide
def Bq(c p:Nat)(b:Bool)(m:Int):D:=.tup [.str (wt c),.int p,.str (snT b),.int m]
@[simp]theorem ZIV{c:Nat}{m:Int}{k:Nat}:bel k (Bq c p b m)=vF:=rfl
theorem ZOk{m:Int}(G:DH):R1 [.int x,.str (snT b),.int m] G=.ok (.bl (byd b x m)) G:=by
 unfold R1 ZFI;rw[Ay]
 cases b<;>simp[Uh,byd,Be]
theorem five{P:Nat->Prop}{c:Nat}(h1:1<=c)(h2:c<=5)(a:P 1)(b:P 2)(d:P 3)(e:P 4)(f:P 5):P c:=by rcases(by lia:c=1∨c=2∨c=3∨c=4∨c=5)with rfl|rfl|rfl|rfl|rfl<;>assumption
noncomputable def prt:List (Str×D):=[("lies",.int 5),("spilled",.int 2),("let",.int 3),("pumped",.int 4),("took",.int 1)]
theorem ZQE{c:Nat}(h1:1<=c)(h2:c<=5):Gh (Gd [] (prt.map λkv=>(.inr kv.1,kv.2))) (.inr (wt c))=zI c:=five (P:=λc=>Gh (Gd [] (prt.map λkv=>(.inr kv.1,kv.2))) (.inr (wt c))=zI c) h1 h2 rfl rfl rfl rfl rfl
theorem ZHd{kvs:List (Str×D)}{x:Str}{v:D}(h:Gh (Gd [] (kvs.map λkv=>(.inr kv.1,kv.2))) (.inr x)=vD v)(hb:bel G.length v=vF):tidy G ((sRt (dOp Ip (Mv kvs) (dV 0)) [zS x] G).ret)=.ok v G:=by
 have e:Ip (.ref G.length) (.str x) (G++[.dct (Gd [] (kvs.map λkv=>(.inr kv.1,kv.2)))])=.ok v (G++[.dct (Gd [] (kvs.map λkv=>(.inr kv.1,kv.2)))]):=by rw[ZLk (kvs:=Gd [] (kvs.map λkv=>(.inr kv.1,kv.2))) (by simp) rfl,h]
 simp[e,Lq,hb]
theorem ZKE{c:Nat}(h1:1<=c)(h2:c<=5)(G:DH):Rh [.str (wt c)] G=.ok (.int c) G:=by unfold Rh ZFY;rw[Ay];exact ZHd (kvs:=prt) (ZQE h1 h2) rfl
def Fl(b:Bool)(m:Int):List Int->Nat->Option (Nat×Int)
 |[],_=>vE
 |x::r,k=>if byd b x m=vF then vD (k,x)else Fl b m r (k+1)
def Ce(b:Bool)(r:List Int)(x:Int):Int:=if b=vF then r.foldl min x else r.foldl max x
def Ff(b:Bool)(m:Int)(xs:List Int):D:=match Fl b m xs 0 with
 |some (i,x)=>.tup [.str "broken",.int i,.int x]
 |none=>match xs with
  |[]=>.tup [.str "kept",.non,.non]
  |x::r=>.tup [.str "kept",.int ((x::r).idxOf (Ce b r x):Nat),.int (Ce b r x)]
theorem ZAS{f:Int->Int->Int}(hf:∀a b,f a b=a∨f a b=b):∀(r:List Int)(x:Int),r.foldl f x∈x::r
 |[],x=>by simp
 | y::r,x=>by
  have:=ZAS hf r (f x y);rw[j1];rcases zq.mp this with h|h
  ·rcases hf x y with e|e
   ·rw[h,e];simp
   ·rw[h,e];simp
  ·simp[h]
theorem ZD9:Ce b r x∈x::r:=by
 unfold Ce;cases b
 ·exact ZAS (λa b=>by lia) r x
 ·exact ZAS (λa b=>by lia) r x
theorem ZDX{b:Bool}{m:Int}{s0 s1 s2 s3 s6 s7 s10:Option D}{G:DH}:∀(xs:List Int)(k:Nat)(x8 x9:Option D),∃y8 y9,
  Aq (Ao 2 (Ae (gV 8) (Ae (gV 9) Aw))) Jy (enS k (xs.map D.int)) [s0,s1,s2,s3,zS (snT b),zI m,s6,s7,x8,x9,s10] G=
   match Fl b m xs k with
   |some (i,x)=>.rt (.tup [.str "broken",.int i,.int x]) G
   |none=>.nx [s0,s1,s2,s3,zS (snT b),zI m,s6,s7,y8,y9,s10] G
 |[],k,x8,x9=>⟨x8,x9,by show Aq _ _ [] _ _=_;rw[Cp];rfl⟩
 | x::r,k,x8,x9=>by
  obtain⟨y8,y9,ih⟩:=ZDX (b:=b) (m:=m) (s0:=s0) (s1:=s1) (s2:=s2) (s3:=s3) (s6:=s6) (s7:=s7) (s10:=s10) (G:=G) r (k+1) (zI k) (zI x);refine⟨y8,y9,?_⟩;have e1:((k:Int)+1)=((k+1:Nat):Int):=by lia
  show Aq _ _ (.tup [.int k,.int x]::enS ((k:Int)+1) (r.map D.int)) _ _=_;rw[Bu,e1];have hb:Jy [s0,s1,s2,s3,zS (snT b),zI m,s6,s7,zI k,zI x,s10] G=if byd b x m=vF then .rt (.tup [.str "broken",.int k,.int x]) G else .nx [s0,s1,s2,s3,zS (snT b),zI m,s6,s7,zI k,zI x,s10] G:=by
   unfold Jy
   cases e:byd b x m<;>simp[ZOk,e,An]
  simp only[Mg,M9,N6,Cg,R.Hu,R.By,qj,hb,zU,jW,Nat.reduceAdd,if_true];unfold Fl;cases e:byd b x m with
  |true=>simp
  |false=>simp only[jQ,if_false,Cm,ih]
noncomputable def Dw(pgs:List (Nat->List Int))(p c:Nat):List Int:=pgs.map λpg=>(pg p).getD c 0
abbrev Row6(h:Hs)(pg:Nat->List Int):Prop:=∀k,k<h.n->(pg k).length=6
theorem run6(g:GoodH h):∀(fls:List (Nat->Int))(s:St2)(a:Int),∀pg∈h.Bt fls s a,Row6 h pg
 |[],s,a,pg,hp=>nomatch hp
 |fl::r,s,a,pg,hp=>by
  rcases zq.mp hp with rfl|hp
  ·exact ZBN g h.n 0 _ (by lia) λi hi hd=>by
    unfold Hs.done at hd
    split at hd<;>lia
  ·exact run6 g r _ _ pg hp
theorem ZJB(po:Row6 h pg){c:Nat}(hp:p<h.n)(h1:1<=c)(h2:c<=5)(G:DH):∃t,atI (Ci h.n pg) (p:Int)=zT t/\atI t (c:Int)=zI ((pg p).getD c 0):=by obtain⟨a,b,d,e,f,g,er⟩:=row6 (po p hp);refine⟨_,ZQV hp er,?_⟩;rw[er];exact five (P:=λc=>atI [D.int a,.int b,.int d,.int e,.int f,.int g] (c:Int)=zI ([a,b,d,e,f,g].getD c 0)) h1 h2 rfl rfl rfl rfl rfl
theorem ZEa{m:Int}{k:Nat}:bel k (Ff b m xs)=vF:=by
 unfold Ff;split
 ·rfl
 ·split <;> rfl
theorem ZRz(hl:pgs.length<=100000)(po:∀pg∈pgs,Row6 h pg){c:Nat}(hp:p<h.n)(h1:1<=c)(h2:c<=5){m:Int}(G:DH):
  Sx [.fl (pgs.map (pgD h.n)),Bq c p b m] G=.ok (Ff b m (Dw pgs p c)) G:=by
 have cp:Ck (gV 0) Bd Th [vE,zI p,zI c] (pgs.map (pgD h.n)) G=.ok ((Dw pgs p c).map D.int) G:=by
  have:=K4 (te:=Th) (S:=[vE,zI p,zI c]) (E:=pgD h.n) (F:=λpg=>.int ((pg p).getD c 0)) (G:=G) (l:=pgs) λpg hpg=>by obtain⟨t,e1,e2⟩:=ZJB (po pg hpg) hp h1 h2 G;unfold Th pgD;simp[e1,e2]
  rw[this,Dw,qO]
  rfl
 have hn:(Dw pgs p c).length=pgs.length:=by simp[Dw]
 generalize Dw pgs p c=xs at cp hn;have hx:xs.length<=1000000:=by lia
 obtain⟨y8,y9,hL⟩:=ZDX (b:=b) (m:=m) (s0:=zF (pgs.map (pgD h.n))) (s1:=vD (Bq c p b m)) (s2:=zS (wt c)) (s3:=zI p) (s6:=zI c) (s7:=zF (xs.map D.int)) (s10:=vE) (G:=G) xs 0 vE vE
 have hL':Dh (Do 0 (.fl (xs.map D.int))) (Ao 2 (Ae (gV 8) (Ae (gV 9) Aw))) Jy xs.length 0 [zF (pgs.map (pgD h.n)),vD (Bq c p b m),zS (wt c),zI p,zS (snT b),zI m,zI c,zF (xs.map D.int),vE,vE,vE] G=(match Fl b m xs 0 with
   |some (i,x)=>.rt (.tup [.str "broken",.int i,.int x]) G
   |none=>.nx [zF (pgs.map (pgD h.n)),vD (Bq c p b m),zS (wt c),zI p,zS (snT b),zI m,zI c,zF (xs.map D.int),y8,y9,vE] G):=by
  have:=ZIc (g:=Ao 2 (Ae (gV 8) (Ae (gV 9) Aw))) (b:=Jy) (xs:=xs.map D.int) (a:=0) (S:=[zF (pgs.map (pgD h.n)),vD (Bq c p b m),zS (wt c),zI p,zS (snT b),zI m,zI c,zF (xs.map D.int),vE,vE,vE]) (G:=G);rw[qY]at this;rw[this];exact hL
 have fz:freeze G (.ok (.ref G.length) (G++[.lst (xs.map D.int)]))=.ok (.fl (xs.map D.int)) G:=Dg (Ec λ_ _=>rfl);have cpt:=ZKE h1 h2;have hpl:pgs.length<=1000000:=by lia
 have ea:Bq c p b m=.tup [.str (wt c),.int p,.str (snT b),.int m]:=rfl;have hlP:(pgs.map (pgD h.n)).length<=1000000:=by simp;exact hpl
 have hlX:(xs.map D.int).length=xs.length:=by simp
 have pre:V7 [zF (pgs.map (pgD h.n)),vD (Bq c p b m),vE,vE,vE,vE,vE,vE,vE,vE,vE] G=Pr [zF (pgs.map (pgD h.n)),vD (Bq c p b m),zS (wt c),zI p,zS (snT b),zI m,zI c,zF (xs.map D.int),vE,vE,vE] G:=by
  generalize pgs.map (pgD h.n)=PG at cp hlP;have hX6:(xs.map D.int).length<=1000000:=by simp;lia
  generalize xs.map D.int=X at cp fz hX6;unfold V7 ZFF ZDh;simp[ea,cpt,Ax,cp,fz,hlP,hX6]
 have lp:Pr [zF (pgs.map (pgD h.n)),vD (Bq c p b m),zS (wt c),zI p,zS (snT b),zI m,zI c,zF (xs.map D.int),vE,vE,vE] G=(match Fl b m xs 0 with
   |some (i,x)=>.rt (.tup [.str "broken",.int i,.int x]) G
   |none=>Qq [zF (pgs.map (pgD h.n)),vD (Bq c p b m),zS (wt c),zI p,zS (snT b),zI m,zI c,zF (xs.map D.int),y8,y9,vE] G):=by
  unfold Pr;generalize pgs.map (pgD h.n)=PG at hL';generalize Bq c p b m=AK at hL';generalize xs.map D.int=X at hL' hlX;simp only[<-hlX]at hL';rw[Oz];have e:(Cd (Bk Ez (Aa (dV 7) Ab)) (Ao 2 (Ae (gV 8) (Ae (gV 9) Aw))) Jy) [zF PG,vD AK,zS (wt c),zI p,zS (snT b),zI m,zI c,zF X,vE,vE,vE] G=_:=(by simp:_=Dh (Do 0 (.fl X)) (Ao 2 (Ae (gV 8) (Ae (gV 9) Aw))) Jy X.length 0 [zF PG,vD AK,zS (wt c),zI p,zS (snT b),zI m,zI c,zF X,vE,vE,vE] G).trans hL'
  rw[e];cases Fl b m xs 0 with
  |some q=>rfl
  |none=>rfl
 have bA:bel G.length (Ff b m xs)=vF:=ZEa;have go:Pr [zF (pgs.map (pgD h.n)),vD (Bq c p b m),zS (wt c),zI p,zS (snT b),zI m,zI c,zF (xs.map D.int),vE,vE,vE] G=.rt (Ff b m xs) G:=by
  rw[lp];unfold Ff;cases hF:Fl b m xs 0 with
  |some q=>rfl
  | none=>
   generalize pgs.map (pgD h.n)=PG;generalize Bq c p b m=AK;cases xs with
   |nil=>
    unfold Qq;simp[An]
   | cons x r=>
    have mm:Ce b r x∈x::r:=ZD9;have ix:∀G,Iu (.fl ((x::r).map D.int)) [.int (Ce b r x)] G=.ok (.int ((x::r).idxOf (Ce b r x):Nat)) G:=λG=>ZIz rfl mm hx
    have mn:∀G,Hk [.fl ((x::r).map D.int)] G=.ok (.int (r.foldl min x)) G:=λG=>ZEo rfl
    have mx:∀G,Hq [.fl ((x::r).map D.int)] G=.ok (.int (r.foldl max x)) G:=λG=>ZHz rfl
    have l0:¬((x::r).map D.int)=[]:=by simp
    dsimp only;have bl:Ce b r x=if b=vF then r.foldl min x else r.foldl max x:=rfl
    generalize(((x::r).idxOf (Ce b r x):Nat):Int)=I at ix⊢;generalize(x::r).map D.int=X at*;have t5:dIf (Ag (dOp Bl (dV 4) (dC (.str "least")))) (dFn Hk (Aa (dV 7) Ab)) (dFn Hq (Aa (dV 7) Ab)) [zF PG,vD AK,zS (wt c),zI p,zS (snT b),zI m,zI c,zF X,y8,y9,vE] G=.ok (.int (Ce b r x)) G:=by
     rw[bl]
     cases b<;>simp[Uh,mn,mx]
    generalize Ce b r x=B at*;unfold Qq ZD6 ZEK;generalize dIf (Ag (dOp Bl (dV 4) (dC (.str "least")))) (dFn Hk (Aa (dV 7) Ab)) (dFn Hq (Aa (dV 7) Ab))=te at t5;simp[l0,t5,ix,An]
 unfold Sx;rw[Ay];show tidy G ((V7 [zF (pgs.map (pgD h.n)),vD (Bq c p b m),vE,vE,vE,vE,vE,vE,vE,vE,vE] G).ret)=_;rw[pre,go];exact Be bA
theorem ZKH(G:DH):Ii (.str (snT b)) (.tup [.str "least",.str "most"]) G=.ok (.bl vG) G:=by cases b<;>rfl
noncomputable def knd:List (Str×Str):=[("lies","basin"),("spilled","basin"),("let","basin"),("pumped","basin"),("took","town")]
def knT(c:Nat):Str:=if c=1 then "town" else "basin"
theorem ZSw{c:Nat}(h1:1<=c)(h2:c<=5):knd.lookup (wt c)=vD (knT c):=five (P:=λc=>knd.lookup (wt c)=vD (knT c)) h1 h2 rfl rfl rfl rfl rfl
theorem ZNu{c:Nat}(hp:p<h.n)(h1:1<=c)(h2:c<=5)(hk:(h.pl p).kd.txt=knT c){m:Int}(G:DH):R9 [h.enc,Bq c p b m] G=.ok .non G:=by
 have e:=ZSw h1 h2;have g1:Lw knd (.str (wt c)) G=.ok (.str (knT c)) G:=ZOq e;have ea:Bq c p b m=.tup [.str (wt c),.int p,.str (snT b),.int m]:=rfl;have eb:ZDM=(Ac (sAs (dV 1) (Ao 4 (Ae (gV 2) (Ae (gV 3) (Ae (gV 4) (Ae (gV 5) Aw)))))) (Ac (sIf (dOr (Ag (dOp Ii (dV 4) (dC (.tup [.str "least",.str "most"])))) (Ag (dUn (Nm knd) (dV 2)))) Hw sNx) (Ac (sIf (H9 (Ag (Jx Im Fe (dC (.int 0)) (dV 3) (dFn Bo (Aa (dOp Ad (dV 0) (dC (.int 1))) Ab))))) Hw sNx) (sIf (Ag (dOp Gx (dOp Ad (dOp Ad (dOp Ad (dV 0) (dC (.int 1))) (dV 3)) (dC (.int 0))) (dUn (Lw knd) (dV 2)))) Hw sNx)))):=rfl
 unfold R9;rw[Ay,eb];generalize knd=M at e g1;simp[ea,ZKH,e,g1,Cq,Hs.Hl,hp,Hs.Dz hp,hk,Be]
theorem ZMG{n:Nat}(hn:n<=1000)(hl:fls.length<=1000)(u1:(leN n lv lv'&&leR 5 n co co')=vF)
  (u2:(decide (fls.length=fls'.length)&&leR n fls.length (λi=>fls.getD i λ_=>0) λi=>fls'.getD i λ_=>0)=vF) (G:DH):Uv [stD n lv co,stD n lv' co',.fl (Af n fls),.fl (Af n fls')] G=.ok .non G:=by
 have h1:=ZUd hn (lv:=lv) (lv':=lv') (co:=co) (co':=co') G;have h2:=ZKD hn (fls:=fls) (fls':=fls') hl G;rw[u1]at h1;rw[u2]at h2;unfold Uv ZIs;rw[Ay];simp[h1,h2,Be]
theorem ZUc{n c:Nat}{m:Int}(G:DH):
  Ue [stD n lv co,stD n lv' co',.fl (Af n fls),.fl (Af n fls'),Bq c p b m] G=.ok (.tup [stD n (if b=vF then lv else lv') (if b=vF then co else co'),.fl (Af n (if b=vF then fls else fls'))]) G:=by
 have ea:Bq c p b m=.tup [.str (wt c),.int p,.str (snT b),.int m]:=rfl;unfold Ue ZC8;rw[Ay]
 cases b<;>simp[ea,Uh,An,Be]
theorem ZKC(g:GoodH h)(hl:fls.length<=1000)(hll:fls'.length<=1000){c:Nat}(hp:p<h.n)(h1:1<=c)(h2:c<=5)(hk:(h.pl p).kd.txt=knT c){m:Int}
  (u1:(leN h.n lv lv'&&leR 5 h.n co co')=vF) (u2:(decide (fls.length=fls'.length)&&leR h.n fls.length (λi=>fls.getD i λ_=>0) λi=>fls'.getD i λ_=>0)=vF)
  (s1:∀k j,k<h.n->j<5->0<=co k j) (s2:∀k j,k<h.n->j<5->0<=co' k j) (f1:∀fl∈fls,∀k,k<h.n->0<=fl k) (f2:∀fl∈fls',∀k,k<h.n->0<=fl k) (G:DH):
  Mw [h.enc,stD h.n lv co,stD h.n lv' co',.int a,.fl (Af h.n fls),.fl (Af h.n fls'),Bq c p b m] G=
   .ok (Ff b m (Dw (h.Bt (if b=vF then fls else fls') (if b=vF then lv else lv',if b=vF then co else co') a) p c)) G:=by
 have hn:=g.len
 have st:∀k j,k<h.n->j<5->0<=(if b=vF then co else co') k j:=by cases b<;>assumption
 have ff:∀fl∈(if b=vF then fls else fls'),∀k,k<h.n->0<=fl k:=by cases b<;>assumption
 have lf:(if b=vF then fls else fls').length<=1000:=by cases b<;>assumption
 have c1:=ZNu hp h1 h2 hk (b:=b) (m:=m) G;have c2:=ZMG (by lia) hl u1 u2 G;have c3:=ZUc (n:=h.n) (c:=c) (p:=p) (b:=b) (m:=m) (lv:=lv) (lv':=lv') (co:=co) (co':=co') (fls:=fls) (fls':=fls') G;generalize(if b=vF then lv else lv')=L at c3⊢;generalize(if b=vF then co else co')=C at st c3⊢;generalize(if b=vF then fls else fls')=F at ff lf c3⊢;have c4:=Us g (s:=(L,C)) (a:=a) lf st ff G;have po:=run6 g F (L,C) a
 have c5:=ZRz (pgs:=h.Bt F (L,C) a) (by rw[Nt];lia) po hp h1 h2 (b:=b) (m:=m) G;have fr:=Rg (G:=G) (ds:=(h.Bt F (L,C) a).map (pgD h.n)) (e:=stD h.n (h.Ei F (L,C) a).1 (h.Ei F (L,C) a).2) V6 Mr;have bA:∀k,bel k (Ff b m (Dw (h.Bt F (L,C) a) p c))=vF:=λk=>ZEa
 generalize Ff b m (Dw (h.Bt F (L,C) a) p c)=R at c5 bA⊢;generalize(h.Bt F (L,C) a).map (pgD h.n)=PG at c4 c5 fr;unfold Mw ZIK;rw[Ay];simp[c1,c2,c3,c4,fr,c5,Be,bA]
def Lb:Option (Nat×Nat×Bool×Int)->D
 |none=>.non
 |some (c,p,b,m)=>Bq c p b m
theorem ZSZ(hf:Cf ns f)(hu:0<u)(cu:Cu ns u)(g:GoodH h)(h1:1<=h.n)(k:Nat):
  ∃o:Option (Nat×Nat×Bool×Int),(∀c p b m,o=vD (c,p,b,m)->1<=c/\c<=5/\p<h.n/\(h.pl p).kd.txt=knT c)/\
   ∀(x5 x6 x7 x8 x9:Option D)(G:DH),∃y5 y6 y7 y8 y9,Mi [zN ns,vD h.enc,zI h.n,zI ((6+20*h.n:Nat):Int),zI k,x5,x6,x7,x8,x9] G=
    match o with
    |some _=>.rt (Lb o) G
    |none=>.nx [zN ns,vD h.enc,zI h.n,zI ((6+20*h.n:Nat):Int),zI k,y5,y6,y7,y8,y9] G:=by
 have hn:=g.len;have q0:∀G,Bc [nD ns,.int ((6+20*h.n:Nat):Int)] G=.ok (.int (f (6+20*h.n))) G:=hf _ (by lia);have q1:∀G,Bc [nD ns,.int (((6+20*h.n:Nat):Int)+1)] G=.ok (.int (f (6+20*h.n+1))) G:=λG=>by have:=hf (6+20*h.n+1) (by lia) G;rwa[show((6+20*h.n+1:Nat):Int)=((6+20*h.n:Nat):Int)+1 by lia]at this
 have q2:∀G,Bc [nD ns,.int (((6+20*h.n:Nat):Int)+2)] G=.ok (.int (f (6+20*h.n+2))) G:=λG=>by have:=hf (6+20*h.n+2) (by lia) G;rwa[show((6+20*h.n+2:Nat):Int)=((6+20*h.n:Nat):Int)+2 by lia]at this
 generalize((6+20*h.n:Nat):Int)=B at q0 q1 q2;generalize f (6+20*h.n)=v0 at q0;generalize f (6+20*h.n+1)=v1 at q1;generalize f (6+20*h.n+2)=v2 at q2;have hn0:0<(h.n:Int):=by lia
 have hn0':0<h.n:=by lia
 have e0:=qS (v0+k) (show(h.n:Int)≠0 by lia);have e1:=jZ (v0+k) hn0;obtain⟨p,hp⟩:∃p:Nat,(v0+k)%(h.n:Int)=p:=⟨((v0+k)%(h.n:Int)).toNat,by lia⟩;have hpl:p<h.n:=by lia
 have ap:=Hs.Dz hpl;have eH:∀G,Ad h.enc (.int 1) G=.ok (.tup h.Cj) G:=λG=>Cq
 have fu:∀G,freeze G (.ok (.int u) G)=.ok (.int u) G:=λG=>Ho rfl
 have fz4:∀G:DH,freeze G (.ok (.ref G.length) (G++[.lst [.str "lies",.str "spilled",.str "let",.str "pumped"]]))=.ok (.fl [.str "lies",.str "spilled",.str "let",.str "pumped"]) G:=λG=>Dg rfl
 have fz2:∀G:DH,freeze G (.ok (.ref G.length) (G++[.lst [.str "least",.str "most"]]))=.ok (.fl [.str "least",.str "most"]) G:=λG=>Dg rfl
 obtain⟨c,hc1,hc2,a4⟩:∃c:Nat,2<=c/\c<=5/\atI [D.str "lies",.str "spilled",.str "let",.str "pumped"] (v1%4)=zS (wt c):=by
  rcases(by lia:v1%4=0∨v1%4=1∨v1%4=2∨v1%4=3)with z|z|z|z<;>rw[z]
  ·exact⟨5,by lia,by lia,rfl⟩
  ·exact⟨2,by lia,by lia,rfl⟩
  ·exact⟨3,by lia,by lia,rfl⟩
  ·exact⟨4,by lia,by lia,rfl⟩
 obtain⟨b,a2⟩:∃b:Bool,atI [D.str "least",.str "most"] (v2%2)=zS (snT b):=by
  rcases(by lia:v2%2=0∨v2%2=1)with z|z<;>rw[z]
  ·exact⟨vF,rfl⟩
  ·exact⟨vG,rfl⟩
 have pre:∀(x5 x6 x7 x8 x9:Option D)(G:DH),Mi [zN ns,vD h.enc,zI h.n,zI B,zI k,x5,x6,x7,x8,x9] G=Mf [zN ns,vD h.enc,zI h.n,zI B,zI k,zI p,zS (h.pl p).kd.txt,zS "took",x8,x9] G:=λx5 x6 x7 x8 x9 G=>by generalize h.enc=HE at*;unfold Mi ZFp ZJH;simp[q0,hn0,hn0',hp,eH,ap]
 have fin:∀(w s:Str)(x8 x9:Option D)(G:DH),¬s="mill"->O5 [zN ns,vD h.enc,zI h.n,zI B,zI k,zI p,zS s,zS w,x8,x9] G=.rt (.tup [.str w,.int p,.str (snT b),.int (amt (v2/4) u-v2/2%2)]) G:=λw s x8 x9 G hs=>by generalize h.enc=HE at*;unfold O5;simp[hs,q2,Ah,fz2,a2,cu,fu,Jh hu,An]
 cases ek:(h.pl p).kd with
 | basin b' r q=>
  have et:(h.pl p).kd.txt="basin":=by rw[ek];rfl
  refine⟨vD (c,p,b,amt (v2/4) u-v2/2%2),?_,λx5 x6 x7 x8 x9 G=>⟨x5,x6,x7,x8,x9,?_⟩⟩
  ·intro c' p' b' m' e;cases e;exact⟨by lia,by lia,hpl,by rw[et];unfold knT;rw[if_neg (by lia)]⟩
  ·rw[pre,et];have m3:Mf [zN ns,vD h.enc,zI h.n,zI B,zI k,zI p,zS "basin",zS "took",x8,x9] G=O5 [zN ns,vD h.enc,zI h.n,zI B,zI k,zI p,zS "basin",zS (wt c),x8,x9] G:=by generalize h.enc=HE at*;unfold Mf;simp[q1,Ah,fz4,a4]
   rw[m3,fin _ _ _ _ _ (by decide)]
   rfl
 | town a' b'=>
  have et:(h.pl p).kd.txt="town":=by rw[ek];rfl
  have n2:¬("town":Str)="basin":=by decide
  refine⟨vD (1,p,b,amt (v2/4) u-v2/2%2),?_,λx5 x6 x7 x8 x9 G=>⟨x5,x6,x7,x8,x9,?_⟩⟩
  ·intro c' p' b' m' e;cases e;exact⟨by lia,by lia,hpl,by rw[et];rfl⟩
  ·rw[pre,et];unfold Mf;generalize h.enc=HE at*;simp[n2,fin _ "town" _ _ _ (by decide)]
   rfl
 |mill a'=>
  have et:(h.pl p).kd.txt="mill":=by rw[ek];rfl
  have n2:¬("mill":Str)="basin":=by decide
  refine⟨vE,(λc' p' b' m' e=>nomatch e),λx5 x6 x7 x8 x9 G=>⟨zI p,zS "mill",zS "took",x8,x9,?_⟩⟩
  rw[pre,et];unfold Mf O5;simp[n2]
theorem ZDV(hf:Cf ns f)(hu:0<u)(cu:Cu ns u)(g:GoodH h)(h1:1<=h.n):∀(m k:Nat),
  ∃o:Option (Nat×Nat×Bool×Int),(∀c p b m,o=vD (c,p,b,m)->1<=c/\c<=5/\p<h.n/\(h.pl p).kd.txt=knT c)/\
   ∀(x4 x5 x6 x7 x8 x9:Option D)(G:DH),∃y4 y5 y6 y7 y8 y9,Aq (gV 4) Mi (Bg k m) [zN ns,vD h.enc,zI h.n,zI ((6+20*h.n:Nat):Int),x4,x5,x6,x7,x8,x9] G=
    match o with
    |some _=>.rt (Lb o) G
    |none=>.nx [zN ns,vD h.enc,zI h.n,zI ((6+20*h.n:Nat):Int),y4,y5,y6,y7,y8,y9] G
 |0,k=>⟨vE,(λ_ _ _ _ e=>nomatch e),λx4 x5 x6 x7 x8 x9 G=>⟨x4,x5,x6,x7,x8,x9,by rw[H7,Cp]⟩⟩
 | m+1,k=>by
  obtain⟨o,ho,hb⟩:=ZSZ hf hu cu g h1 k;cases o with
  |some q=>
   refine⟨vD q,ho,λx4 x5 x6 x7 x8 x9 G=>?_⟩;obtain⟨y5,y6,y7,y8,y9,e⟩:=hb x5 x6 x7 x8 x9 G;refine⟨x4,x5,x6,x7,x8,x9,?_⟩;rw[G9,Bu];simp only[Cg,R.By,qj,e]
   rfl
  |none=>
   obtain⟨o,ho,hi⟩:=ZDV hf hu cu g h1 m (k+1);refine⟨o,ho,λx4 x5 x6 x7 x8 x9 G=>?_⟩;obtain⟨y5,y6,y7,y8,y9,e⟩:=hb x5 x6 x7 x8 x9 G;obtain⟨z4,z5,z6,z7,z8,z9,e2⟩:=hi (zI k) y5 y6 y7 y8 y9 G;refine⟨z4,z5,z6,z7,z8,z9,?_⟩;have e1:((k:Int)+1)=((k+1:Nat):Int):=by lia
   rw[G9,Bu];simp only[Cg,R.By,qj,e,Cm,e1,e2]
theorem ZOb(hf:Cf ns f)(hu:0<u)(cu:Cu ns u)(g:GoodH h)(h1:1<=h.n):
  ∃o:Option (Nat×Nat×Bool×Int),(∀c p b m,o=vD (c,p,b,m)->1<=c/\c<=5/\p<h.n/\(h.pl p).kd.txt=knT c)/\∀G,Vj [nD ns,h.enc] G=.ok (Lb o) G:=by
 obtain⟨o,ho,hL⟩:=ZDV hf hu cu g h1 h.n 0;refine⟨o,ho,λG=>?_⟩;have hn:=g.len;have hr:inR (h.n:Int):=Ef (by lia) (by lia);obtain⟨y4,y5,y6,y7,y8,y9,e⟩:=hL vE vE vE vE vE vE G;have m20:∀G,Ak (.int 20) (.int (h.n:Int)) G=.ok (.int (20*(h.n:Int))) G:=λG=>G8 (by lia) (by lia)
 have e6:(6+20*(h.n:Int))=((6+20*h.n:Nat):Int):=by lia
 have e':Aq (gV 4) Mi (Bg 0 h.n) _ G=_:=e;generalize((6+20*h.n:Nat):Int)=B at e' e6;unfold Vj ZGy;rw[Ay];cases o with
 |some q=>
  obtain⟨c,p,b,m⟩:=q;have tq:tidy G (.ok (Bq c p b m) G)=.ok (Bq c p b m) G:=Be ZIV;simp[Cq,Hs.Hl,m20,e6,hr,e',tq,Lb]
 |none=>simp[Cq,Hs.Hl,m20,e6,hr,e',Be,Lb]
theorem ZUK:Ce b (y::r) x=Ce b r (if byd b y x=vF then y else x):=by
 unfold Ce byd;cases b
 ·simp only[jQ,if_false,j1]
  congr 1
  by_cases h:x<y
  ·rw[if_pos (decide_eq_true h)];lia
  ·rw[if_neg (by simpa using h)];lia
 ·simp only[if_true,j1]
  congr 1
  by_cases h:y<x
  ·rw[if_pos (decide_eq_true h)];lia
  ·rw[if_neg (by simpa using h)];lia
theorem ZQf{s:Str}{x y:D}(h:x=.non/\y=.non∨∃i j,x=.int i/\y=.int j)(G:DH):Uq [.tup [.str s,x,y]] G=.ok (.bl vF) G:=by
 have fz:∀x y:D,bel G.length x=vF->bel G.length y=vF->freeze G (.ok (.tup [x,y]) G)=.ok (.tup [x,y]) G:=λx y h1 h2=>Ho (by simp[h1,h2])
 have b1:∀(s1:Option D)(i:Int),Oj [s1,zI i] G=.nx [s1,zI i] G:=λs1 i=>by unfold Oj;simp[tyD]
 have b2:∀(s1:Option D),Oj [s1,vD .non] G=.nx [s1,vD .non] G:=λs1=>by unfold Oj;simp[tyD]
 have ct:∀x y:D,cutD [D.str s,x,y] (vD 1) vE=[x,y]:=λx y=>rfl
 unfold Uq ZDK;rw[Ay];rcases h with⟨rfl,rfl⟩|⟨i,j,rfl,rfl⟩
 ·simp[tyD,ct,fz,Bu,Cp,b2,Be]
 ·simp[tyD,ct,fz,Bu,Cp,b1,Be]
theorem ZIl(hb:∀k b r q,k<h.n->(h.pl k).kd=.basin b r q->lv k<=b){k:Nat}(hk:k<h.n):lv k<=lvM h f u lv k:=by
 unfold lvM;cases e:(h.pl k).kd with
 |basin b r q=>
  have h1:=hb k b r q hk e;have h2:0<=amt (mcell h f k/2) u%(b-lv k+1):=qS _ (by lia);have h3:=Wx (c:=mcell h f k) h2;show lv k<=lv k+_;lia
 |town _ _=>exact zH _
 |mill _=>exact zH _
theorem ZGY(hu:0<u)(k j:Nat):co k j<=coM h f u co k j:=by unfold coM;have h3:=Wx (x:=u) (c:=mcell h f k/2) (by lia);lia
theorem ZKa(hu:0<u)(i k:Nat):fl i k<=flM h f u fl i k:=by unfold flM;have h3:=Wx (x:=amt (f (6+24*h.n+h.n+i*h.n+k)/2) u) (c:=f (6+24*h.n+h.n+i*h.n+k)) (Ou hu);lia
theorem ZFr{n:Nat}{a b:Nat->Int}(h:∀k,k<n->a k<=b k):leN n a b=vF:=qy.mpr λk hk=>decide_eq_true (h k (qq.mp hk))
theorem ZEf{w:Nat}{A B:Nat->Nat->Int}(h:∀i,i<m->∀k,k<w->A i k<=B i k):leR w m A B=vF:=qy.mpr λi hi=>ZFr (h i (qq.mp hi))
theorem ZDm{F:Nat->Nat->Int}(hi:i<t):((zQ t).map F).getD i (λ_=>0)=F i:=by simp[zC,hi]
theorem ZRv(hu:0<u)(so:StOk h lv co)(hb:∀k b r q,k<h.n->(h.pl k).kd=.basin b r q->lv k<=b):StOk h (lvM h f u lv) (coM h f u co):=
 ⟨λk hk=>jx (so.lv0 k hk) (ZIl hb hk),λk hk hB=>by
  unfold lvM;cases e:(h.pl k).kd with
  |basin b r q=>rw[e]at hB;cases hB
  |town _ _=>exact so.lvR k hk hB
  |mill _=>exact so.lvR k hk hB,λk j hk hj=>jx (so.co0 k j hk hj) (ZGY hu k j)⟩
theorem ZNM{xs:List α}{a:Nat}(h:a<=xs.length):cutD xs vE (vD (a:Int))=xs.take a:=by
 have:=(Ny xs.length (a:Int)).1;have e:HT.sIx xs.length xs.length (vD (a:Int))=a:=by lia
 unfold cutD;rw[e];simp[HT.sIx]
noncomputable def amd(c x y:Int):Int:=x+c*48271%2147483647%(y-x+1)
theorem Xi(h:x<=y):x<=amd c x y/\amd c x y<=y:=by unfold amd;have h1:=qS (c*48271%2147483647) (show y-x+1≠0 by lia);have h2:=jZ (c*48271%2147483647) (show 0<y-x+1 by lia);lia
theorem Yp(h:x<=y)(G:DH):Ja [.int c,.int x,.int y] G=.ok (.int (amd c x y)) G:=by
 have m:∀G,Ak (.int c) (.int 48271) G=.ok (.int (c*48271)) G:=λG=>Hd (by lia) (by lia)
 have hp:0<y-x+1:=by lia
 unfold Ja ZFA;rw[Ay];simp[m,hp,amd,Be]
def lvA(f:Nat->Int)(B:Nat)(lv lv':Nat->Int)(k:Nat):Int:=amd (f (B+k)) (lv k) (lv' k)
def coA(f:Nat->Int)(B:Nat)(co co':Nat->Nat->Int)(k j:Nat):Int:=amd (f (B+k)+(j:Int)*j) (co k j) (co' k j)
def flA(f:Nat->Int)(B n:Nat)(fl fl':Nat->Nat->Int)(i k:Nat):Int:=amd (f (B+i*n+k)) (fl i k) (fl' i k)
section
variable{ns:List Int}{f:Nat->Int}{h:Hs}
theorem ZQb(hf:Cf ns f){n:Nat}(hn:n<=12)(hB:B<=500)(h1:∀k,k<n->lv k<=lv' k)(h2:∀k j,k<n->j<5->co k j<=co' k j){k:Nat}(hk:k<n){x7:Option D}(G:DH):
  Qe [zN ns,zI B,vD (stD n lv co),vD (stD n lv' co'),zR G.length,zR (G.length+1),zI k,x7] (G++[.lst (tab k (lvA f B lv lv')),.lst (Am k (coA f B co co'))])=
   .nx [zN ns,zI B,vD (stD n lv co),vD (stD n lv' co'),zR G.length,zR (G.length+1),zI k,zI (f (B+k))] (G++[.lst (tab (k+1) (lvA f B lv lv')),.lst (Am (k+1) (coA f B co co'))]):=by
 have hc:∀G,Bc [nD ns,.int ((B:Int)+(k:Int))] G=.ok (.int (f (B+k))) G:=λG=>by have:=hf (B+k) (by lia) G;rwa[show((B+k:Nat):Int)=(B:Int)+k by lia]at this
 have al:atI (tab n lv) (k:Int)=zI (lv k):=Dy hk;have al':atI (tab n lv') (k:Int)=zI (lv' k):=Dy hk;have ar:atI (Am n co) (k:Int)=zT (tab 5 (co k)):=W5 hk;have ar':atI (Am n co') (k:Int)=zT (tab 5 (co' k)):=W5 hk;have a1:∀G,Ja [.int (f (B+k)),.int (lv k),.int (lv' k)] G=.ok (.int (lvA f B lv lv' k)) G:=λG=>Yp (h1 k hk) G
 have cp:∀G,Ck (gV 0) Bd Vq [vE,vD (stD n lv co),vD (stD n lv' co'),zI k,zI (f (B+k))] (Bg 0 5) G=.ok (tab 5 (coA f B co co' k)) G:=λG=>Kv (F:=λj=>.int (coA f B co co' k j)) λj hj=>by
  have b1:atI (tab 5 (co k)) (j:Int)=zI (co k j):=Dy hj;have b2:atI (tab 5 (co' k)) (j:Int)=zI (co' k j):=Dy hj;have mj:∀G,Ak (.int (j:Int)) (.int (j:Int)) G=.ok (.int ((j:Int)*j)) G:=λG=>G8 (by lia) (by lia)
  have a2:∀G,Ja [.int (f (B+k)+(j:Int)*j),.int (co k j),.int (co' k j)] G=.ok (.int (coA f B co co' k j)) G:=λG=>Yp (h2 k j hk hj) G
  unfold Vq stD;simp[mj,ar,ar',b1,b2,a2]
 have fz:∀ds ds':List D,freeze (G++[.lst ds,.lst ds']) (.ok (.ref (G.length+2)) (G++[.lst ds,.lst ds',.lst (tab 5 (coA f B co co' k))]))=.ok (.fl (tab 5 (coA f B co co' k))) (G++[.lst ds,.lst ds']):=λds ds'=>ZGN λ_=>Hc
 have hl1:k<1000000:=by lia
 have cs:∀a b c d e f' g h:Option D,Ax 1 [2,3,6,7] [a,b,c,d,e,f',g,h]=[vE,c,d,g,h]:=λ_ _ _ _ _ _ _ _=>rfl
 have g0:∀a b:DO,(G++[a,b])[G.length]?=vD a:=λa b=>by simp
 have g1:∀a b:DO,(G++[a,b])[G.length+1]?=vD b:=λa b=>by simp
 have s0:∀a b c:DO,(G++[a,b]).set G.length c=G++[c,b]:=λa b c=>by simp
 have s1:∀a b c:DO,(G++[a,b]).set (G.length+1) c=G++[a,c]:=λa b c=>by simp
 have t1:=ZCU (k:=k) (F:=lvA f B lv lv');have t2:=ZIv (k:=k) (co:=coA f B co co');have et:∀ds:List D,Di [.fl ds]=λG=>.ok (.tup ds) G:=λds=>rfl
 have hT5:(tab 5 (coA f B co co' k)).length<=1000000:=by simp
 generalize tab 5 (coA f B co co' k)=T5 at cp fz t2 hT5;generalize tab (k+1) (lvA f B lv lv')=TL at t1;generalize Am (k+1) (coA f B co co')=RL at t2;have e0:∀G,Ad (stD n lv co) (.int 0) G=.ok (.tup (tab n lv)) G:=λG=>by unfold stD;simp
 have e0':∀G,Ad (stD n lv' co') (.int 0) G=.ok (.tup (tab n lv')) G:=λG=>by unfold stD;simp
 have hr5:inR 5:=Ef (by lia) (by lia);unfold Qe;simp[hT5,hc,e0,e0',al,al',a1,g0,g1,s0,s1,hl1,t1,cs,cp,fz,et,t2,hr5]
theorem ZF2(hf:Cf ns f){n:Nat}(hn:n<=12)(hB:B<=500)(h1:∀k,k<n->lv k<=lv' k)(h2:∀k j,k<n->j<5->co k j<=co' k j)(G:DH):∀(m k:Nat)(x6 x7:Option D),k+m=n->∃y6 y7,
  Aq (gV 6) Qe (Bg k m) [zN ns,zI B,vD (stD n lv co),vD (stD n lv' co'),zR G.length,zR (G.length+1),x6,x7] (G++[.lst (tab k (lvA f B lv lv')),.lst (Am k (coA f B co co'))])=
   .nx [zN ns,zI B,vD (stD n lv co),vD (stD n lv' co'),zR G.length,zR (G.length+1),y6,y7] (G++[.lst (tab n (lvA f B lv lv')),.lst (Am n (coA f B co co'))])
 |0,k,x6,x7,e=>by
  have e1:k=n:=by lia
  subst e1;exact⟨x6,x7,by rw[H7,Cp]⟩
 |m+1,k,x6,x7,e=>by
  have hb:=ZQb hf hn hB h1 h2 (k:=k) (by lia) (x7:=x7) G;obtain⟨y6,y7,ih⟩:=ZF2 hf hn hB h1 h2 G m (k+1) (zI k) (zI (f (B+k))) (by lia);refine⟨y6,y7,?_⟩;rw[G9,Bu];simp only[Cg,R.By,qj,hb,Cm];have e1:((k:Int)+1)=((k+1:Nat):Int):=by lia
  rw[e1,ih]
theorem ZPN(hf:Cf ns f){n:Nat}(hn:n<=12)(hB:B<=500)(h1:∀k,k<n->lv k<=lv' k)(h2:∀k j,k<n->j<5->co k j<=co' k j)(G:DH):
  Uu [nD ns,.int B,stD n lv co,stD n lv' co'] G=.ok (stD n (lvA f B lv lv') (coA f B co co')) G:=by
 obtain⟨y6,y7,hL⟩:=ZF2 hf hn hB h1 h2 G n 0 vE vE (by lia);have hL':Aq (gV 6) Qe (Bg 0 n) [zN ns,zI B,vD (stD n lv co),vD (stD n lv' co'),zR G.length,zR (G.length+1),vE,vE] (G++[.lst [],.lst []])=_:=hL;have hr:inR (n:Int):=Ef (by lia) (by lia);have e0:∀G,Ad (stD n lv co) (.int 0) G=.ok (.tup (tab n lv)) G:=λG=>by unfold stD;simp
 have g0:∀a b:DO,(G++[a,b])[G.length]?=vD a:=λa b=>by simp
 have g1:∀a b:DO,(G++[a,b])[G.length+1]?=vD b:=λa b=>by simp
 have td:∀x:List D,tidy (G++[DO.lst x]) (.ok (.ref (G.length+1)) (G++[DO.lst x,DO.lst []]))=.ok (.ref (G.length+1)) (G++[DO.lst x,DO.lst []]):=λx=>by have:=Ds (G:=G++[DO.lst x]) (ds:=[]) (L:=[]);simpa using this
 have es:stD n (lvA f B lv lv') (coA f B co co')=.tup [.tup (tab n (lvA f B lv lv')),.tup (Am n (coA f B co co'))]:=rfl;have bs:bel G.length (stD n (lvA f B lv lv') (coA f B co co'))=vF:=Mr;rw[es]at bs⊢;unfold Uu ZHC;rw[Ay];simp[Ah,Ds,td,e0,hr,hL',g0,g1,An,Lq,bs]
theorem ZR5(hf:Cf ns f){n:Nat}(hn:n<=12)(hB:B<=500)(ht:t<=6)(hi:i<t)(h1:∀i k,k<n->fl i k<=fl' i k){k:Nat}(hk:k<n){s4 x8:Option D}(G:DH):
  O8 [zN ns,zI B,zF (Af n ((zQ t).map fl)),zF (Af n ((zQ t).map fl')),s4,zI i,zR G.length,zI k,x8] (G++[.lst (tab k (flA f B n fl fl' i))])=
   .nx [zN ns,zI B,zF (Af n ((zQ t).map fl)),zF (Af n ((zQ t).map fl')),s4,zI i,zR G.length,zI k,zI (f (B+i*n+k))] (G++[.lst (tab (k+1) (flA f B n fl fl' i))]):=by
 have hin:i*n<=6*12:=jO (by lia) hn;have hc:∀G,Bc [nD ns,.int ((B:Int)+(i:Int)*n+(k:Int))] G=.ok (.int (f (B+i*n+k))) G:=λG=>by have:=hf (B+i*n+k) (by lia) G;rwa[show((B+i*n+k:Nat):Int)=(B:Int)+(i:Int)*n+k by rw[j3,j3,Int.natCast_mul]]at this
 have mi:∀G,Ak (.int (i:Int)) (.int (n:Int)) G=.ok (.int ((i:Int)*n)) G:=λG=>G8 (by lia) (by lia)
 have af:atI (Af n ((zQ t).map fl)) (i:Int)=zT (tab n (fl i)):=Dk rfl (by simp[Af,hi]);have af':atI (Af n ((zQ t).map fl')) (i:Int)=zT (tab n (fl' i)):=Dk rfl (by simp[Af,hi]);have al:atI (tab n (fl i)) (k:Int)=zI (fl i k):=Dy hk;have al':atI (tab n (fl' i)) (k:Int)=zI (fl' i k):=Dy hk;have a1:∀G,Ja [.int (f (B+i*n+k)),.int (fl i k),.int (fl' i k)] G=.ok (.int (flA f B n fl fl' i k)) G:=λG=>Yp (h1 i k hk) G
 have hl1:k<1000000:=by lia
 have t1:=ZCU (k:=k) (F:=flA f B n fl fl' i);generalize tab (k+1) (flA f B n fl fl' i)=TL at t1;generalize Af n ((zQ t).map fl)=X at af;generalize Af n ((zQ t).map fl')=X' at af';unfold O8;simp[af,af',mi,hc,al,al',a1,Cv,Ea,hl1,t1]
theorem ZDf(hf:Cf ns f){n:Nat}(hn:n<=12)(hB:B<=500)(ht:t<=6)(hi:i<t)(h1:∀i k,k<n->fl i k<=fl' i k){s4:Option D}(G:DH):∀(m k:Nat)(x7 x8:Option D),k+m=n->∃y7 y8,
  Aq (gV 7) O8 (Bg k m) [zN ns,zI B,zF (Af n ((zQ t).map fl)),zF (Af n ((zQ t).map fl')),s4,zI i,zR G.length,x7,x8] (G++[.lst (tab k (flA f B n fl fl' i))])=
   .nx [zN ns,zI B,zF (Af n ((zQ t).map fl)),zF (Af n ((zQ t).map fl')),s4,zI i,zR G.length,y7,y8] (G++[.lst (tab n (flA f B n fl fl' i))])
 |0,k,x7,x8,e=>by
  have e1:k=n:=by lia
  subst e1;exact⟨x7,x8,by rw[H7,Cp]⟩
 |m+1,k,x7,x8,e=>by
  have hb:=ZR5 hf hn hB ht hi h1 (k:=k) (by lia) (s4:=s4) (x8:=x8) G;obtain⟨y7,y8,ih⟩:=ZDf hf hn hB ht hi h1 (s4:=s4) G m (k+1) (zI k) (zI (f (B+i*n+k))) (by lia);refine⟨y7,y8,?_⟩;rw[G9,Bu];simp only[Cg,R.By,qj,hb,Cm];have e1:((k:Int)+1)=((k+1:Nat):Int):=by lia
  rw[e1,ih]
theorem ZGL(hf:Cf ns f){n:Nat}(hn:n<=12)(hB:B<=500)(ht:t<=6)(h1:∀i k,k<n->fl i k<=fl' i k)(G:DH):∀(m i:Nat)(L:DH)(x5 x6 x7 x8:Option D),i+m=t->∃L' y5 y6 y7 y8,
  Aq (gV 5) Px (Bg i m) [zN ns,zI B,zF (Af n ((zQ t).map fl)),zF (Af n ((zQ t).map fl')),zR G.length,x5,x6,x7,x8] (G++ .lst (Af n ((zQ i).map (flA f B n fl fl')))::L)=
   .nx [zN ns,zI B,zF (Af n ((zQ t).map fl)),zF (Af n ((zQ t).map fl')),zR G.length,y5,y6,y7,y8] (G++ .lst (Af n ((zQ t).map (flA f B n fl fl')))::L')
 |0,i,L,x5,x6,x7,x8,e=>by
  have e1:i=t:=by lia
  subst e1;exact⟨L,x5,x6,x7,x8,by rw[H7,Cp]⟩
 | m+1,i,L,x5,x6,x7,x8,e=>by
  have hi:i<t:=by lia
  obtain⟨z7,z8,hb⟩:=ZDf hf hn hB ht hi h1 (s4:=zR G.length) (G++ .lst (Af n ((zQ i).map (flA f B n fl fl')))::L) n 0 x7 x8 (by lia);obtain⟨L',y5,y6,y7,y8,ih⟩:=ZGL hf hn hB ht h1 G m (i+1) (L++[.lst (tab n (flA f B n fl fl' i))]) (zI i) (zR (G++ .lst (Af n ((zQ i).map (flA f B n fl fl')))::L).length) z7 z8 (by lia);refine⟨L',y5,y6,y7,y8,?_⟩;have ea:Af n ((zQ i).map (flA f B n fl fl'))++[.tup (tab n (flA f B n fl fl' i))]=Af n ((zQ (i+1)).map (flA f B n fl fl')):=by simp[Af,j2]
  have la:(Af n ((zQ i).map (flA f B n fl fl'))).length<1000000:=by simp[Af];lia
  have af:atI (Af n ((zQ t).map fl)) (i:Int)=zT (tab n (fl i)):=Dk rfl (by simp[Af,hi]);have hr:inR (n:Int):=Ef (by lia) (by lia);have hb':Aq (gV 7) O8 (Bg 0 n) _ ((G++ .lst (Af n ((zQ i).map (flA f B n fl fl')))::L)++[.lst []])=_:=hb;have bd:Px [zN ns,zI B,zF (Af n ((zQ t).map fl)),zF (Af n ((zQ t).map fl')),zR G.length,zI i,x6,x7,x8] (G++ .lst (Af n ((zQ i).map (flA f B n fl fl')))::L)=
    .nx [zN ns,zI B,zF (Af n ((zQ t).map fl)),zF (Af n ((zQ t).map fl')),zR G.length,zI i,zR (G++ .lst (Af n ((zQ i).map (flA f B n fl fl')))::L).length,z7,z8] (G++ .lst (Af n ((zQ (i+1)).map (flA f B n fl fl')))::(L++[.lst (tab n (flA f B n fl fl' i))])):=by
   have gc:((G++ .lst (Af n ((zQ i).map (flA f B n fl fl')))::L)++[DO.lst (tab n (flA f B n fl fl' i))])[G.length]?=vD (.lst (Af n ((zQ i).map (flA f B n fl fl')))):=by simp
   have gs:((G++ .lst (Af n ((zQ i).map (flA f B n fl fl')))::L)++[DO.lst (tab n (flA f B n fl fl' i))]).set G.length (.lst (Af n ((zQ (i+1)).map (flA f B n fl fl'))))=G++ .lst (Af n ((zQ (i+1)).map (flA f B n fl fl')))::(L++[.lst (tab n (flA f B n fl fl' i))]):=by simp
   rw[<-gs];generalize Af n ((zQ i).map (flA f B n fl fl'))=AC at*;generalize Af n ((zQ (i+1)).map (flA f B n fl fl'))=AD at*;generalize hG1:G++DO.lst AC::L=G1 at*;have tn:tidy G1 (.ok (.ref G1.length) (G1++[.lst []]))=.ok (.ref G1.length) (G1++[.lst []]):=Ds rfl;have gl:(G1++[DO.lst (tab n (flA f B n fl fl' i))])[G1.length]?=vD (.lst (tab n (flA f B n fl fl' i))):=by simp
   have lt:(tab n (flA f B n fl fl' i)).length<=1000000:=by simp;lia
   generalize tab n (flA f B n fl fl' i)=TB at*;generalize Af n ((zQ t).map fl)=X at*;generalize Af n ((zQ t).map fl')=X' at*;unfold Px;simp[Ah,tn,af,hr,hb',gl,gc,la,ea,lt]
  rw[G9,Bu];simp only[Cg,R.By,qj,bd,Cm];have e1:((i:Int)+1)=((i+1:Nat):Int):=by lia
  rw[e1,ih]
theorem ZSr(hf:Cf ns f){n:Nat}(hn:n<=12)(hB:B<=500)(ht:t<=6)(h1:∀i k,k<n->fl i k<=fl' i k)(G:DH):
  freeze G (Ve [nD ns,.int B,.fl (Af n ((zQ t).map fl)),.fl (Af n ((zQ t).map fl'))] G)=.ok (.fl (Af n ((zQ t).map (flA f B n fl fl')))) G:=by
 obtain⟨L',y5,y6,y7,y8,hL⟩:=ZGL hf hn hB ht h1 G t 0 [] vE vE vE vE (by lia);have hL':Aq (gV 5) Px (Bg 0 t) [zN ns,zI B,zF (Af n ((zQ t).map fl)),zF (Af n ((zQ t).map fl')),zR G.length,vE,vE,vE,vE] (G++[.lst []])=_:=hL;have hr:inR (t:Int):=Ef (by lia) (by lia);have lf:(Af n ((zQ t).map fl)).length=t:=by simp[Af]
 have td:=Ds (G:=G) (ds:=Af n ((zQ t).map (flA f B n fl fl'))) (L:=L') Ra;have fz:=Dg (G:=G) (ds:=Af n ((zQ t).map (flA f B n fl fl'))) (L:=[]) Ra;generalize Af n ((zQ t).map (flA f B n fl fl'))=FA at*;generalize Af n ((zQ t).map fl)=X at*;generalize Af n ((zQ t).map fl')=X' at*;unfold Ve ZGm;rw[Ay];simp[Ah,Ds,lf,hr,hL',td,fz]
end
theorem ZDZ{b:Bool}:∀(r:List Int)(y x:Int),x∈y::r->byd b x (Ce b r y)=vG
 |[],y,x,h=>by
  have:x=y:=by simpa using h
  subst this;unfold Ce byd
  cases b<;>simp
 | z::r,y,x,h=>by
  rw[ZUK];have tr:∀u v w:Int,byd b u v=vG->byd b v w=vG->byd b u w=vG:=λu v w h1 h2=>by
   unfold byd at h1 h2⊢
   cases b<;>simp at h1 h2⊢<;> lia
  have sel:=λx hx=>ZDZ (b:=b) r (if byd b z y=vF then z else y) x hx
  have s0:=sel _ (zW);rcases zq.mp h with rfl|h
  ·cases e:byd b z x with
   |true=>
    rw[e]at s0;simp only[if_true]at s0⊢;refine tr x z _ ?_ s0;unfold byd at e⊢
    cases b<;>simp at e⊢<;> lia
   |false=>
    rw[e]at s0;simpa using s0
  ·rcases zq.mp h with rfl|h
   ·cases e:byd b x y with
    |true=>
     rw[e]at s0;simpa using s0
    |false=>
     rw[e]at s0;simp only[jQ,if_false]at s0⊢;exact tr x y _ e s0
   ·exact sel x (zZ _ h)
theorem ZFD{m:Int}:∀{xs:List Int}{k:Nat},Fl b m xs k=vE->∀x∈xs,byd b x m=vG
 |[],k,_,x,h=>by cases h
 | y::r,k,e,x,h=>by
  unfold Fl at e;cases eb:byd b y m with
  |true=>rw[eb,if_pos rfl]at e;cases e
  |false=>
   rw[eb,if_neg (by simp)]at e;rcases zq.mp h with rfl|h
   ·exact eb
   ·exact ZFD e x h
theorem ZEW{m:Int}:∀{xs:List Int}{k i:Nat}{x:Int},Fl b m xs k=vD (i,x)->k<=i/\i<k+xs.length/\xs[i-k]?=vD x/\byd b x m=vF/\∀y∈xs.take (i-k),byd b y m=vG
 |[],k,i,x,h=>by cases h
 | y::r,k,i,x,h=>by
  unfold Fl at h;cases eb:byd b y m with
  |true=>
   rw[eb,if_pos rfl]at h;cases h;exact⟨zK _,by rw[zU];lia,by simp,eb,by simp⟩
  |false=>
   rw[eb,if_neg (by simp)]at h;obtain⟨h1,h2,h3,h4,h5⟩:=ZEW h;have e:i-k=(i-(k+1))+1:=by lia
   refine⟨by lia,by rw[zU];lia,by rw[e,jz];exact h3,h4,λz hz=>?_⟩;rw[e,List.take_succ_cons]at hz;rcases zq.mp hz with rfl|hz
   ·exact eb
   ·exact h5 z hz
def LeL:List Int->List Int->Prop
 |[],[]=>True
 |x::r,y::s=>x<=y/\LeL r s
 |_,_=>False
theorem LeL.up:∀{xs ys:List Int}{m:Int},LeL xs ys->(∀x∈xs,m<=x)->∀y∈ys,m<=y
 |[],[],_,_,_,y,h=>by cases h
 |x::r,z::s,m,h,hx,y,hy=>by
  rcases zq.mp hy with rfl|hy
  ·exact jx (hx x (by simp)) h.1
  ·exact LeL.up h.2 (λx hx'=>hx x (zZ _ hx')) y hy
 |[],_::_,_,h,_,_,_=>h.elim
 |_::_,[],_,h,_,_,_=>h.elim
theorem LeL.down:∀{xs ys:List Int}{m:Int},LeL xs ys->(∀y∈ys,y<=m)->∀x∈xs,x<=m
 |[],[],_,_,_,y,h=>by cases h
 |x::r,z::s,m,h,hx,y,hy=>by
  rcases zq.mp hy with rfl|hy
  ·exact jx h.1 (hx z (by simp))
  ·exact LeL.down h.2 (λx hx'=>hx x (zZ _ hx')) y hy
 |[],_::_,_,h,_,_,_=>h.elim
 |_::_,[],_,h,_,_,_=>h.elim
theorem Xo{c:Nat}(hp:p<h.n)(h1:1<=c)(h2:c<=5)(hk:c≠1->(h.pl p).kd.isB=vF):∀{P P':List (Nat->List Int)},MoreL h P P'->LeL (Dw P p c) (Dw P' p c)
 |[],[],_=>trivial
 |q::P,q'::P',m=>by
  refine⟨?_,Xo hp h1 h2 hk m.2⟩;rcases(by lia:c=1∨c=2∨c=3∨c=4∨c=5)with rfl|rfl|rfl|rfl|rfl
  ·exact m.1.took p hp
  ·exact(m.1.basin p hp (hk (by lia))).1
  ·exact(m.1.basin p hp (hk (by lia))).2.1
  ·exact(m.1.basin p hp (hk (by lia))).2.2
  ·exact m.1.lies p hp
 |[],_::_,m=>m.elim
 |_::_,[],m=>m.elim
theorem ZQ4(h:if b=vF then LeL (x::r) ys else LeL ys (x::r)):∀y∈ys,byd b y (Ce b r x)=vG:=by
 have ba:=ZDZ (b:=b) r x;intro y hy;cases b with
 |true=>
  have:=LeL.up (m:=Ce vF r x) (by simpa using h) (λz hz=>by have:=ba z hz;unfold byd at this;simpa using this) y hy
  unfold byd;simp;lia
 |false=>
  have:=LeL.down (m:=Ce vG r x) (by simpa using h) (λz hz=>by have:=ba z hz;unfold byd at this;simpa using this) y hy
  unfold byd;simp;lia
noncomputable def clm:List (Str×D):=[("took",.int 1),("spilled",.int 2),("let",.int 3),("pumped",.int 4),("lies",.int 5)]
theorem ZTv{c:Nat}(h1:1<=c)(h2:c<=5):Gh (Gd [] (clm.map λkv=>(.inr kv.1,kv.2))) (.inr (wt c))=zI c:=five (P:=λc=>Gh (Gd [] (clm.map λkv=>(.inr kv.1,kv.2))) (.inr (wt c))=zI c) h1 h2 rfl rfl rfl rfl rfl
theorem ZRK{c:Nat}(h1:1<=c)(h2:c<=5)(G:DH):Td [.str (wt c)] G=.ok (.int c) G:=by unfold Td ZDl;rw[Ay];exact ZHd (kvs:=clm) (ZTv h1 h2) rfl
theorem X8(po:∀pg∈pgs,Row6 h pg){c:Nat}(hp:p<h.n)(h1:1<=c)(h2:c<=5){m:Int}(G:DH):
  Ck (gV 0) Bd Ut [vE,vD (Bq c p b m)] (pgs.map (pgD h.n)) G=.ok ((Dw pgs p c).map D.int) G:=by
 have:=K4 (te:=Ut) (S:=[vE,vD (Bq c p b m)]) (E:=pgD h.n) (F:=λpg=>.int ((pg p).getD c 0)) (G:=G) (l:=pgs) λpg hpg=>by obtain⟨t,e1,e2⟩:=ZJB (po pg hpg) hp h1 h2 G;unfold Ut pgD Bq;simp[e1,e2,ZRK h1 h2]
 rw[this,Dw,qO]
 rfl
theorem Qy{c:Nat}{m:Int}(G:DH):Kg [Bq c p b m,.int x,.int y] G=.ok (.bl (byd b x y)) G:=by
 have ea:Bq c p b m=.tup [.str (wt c),.int p,.str (snT b),.int m]:=rfl;unfold Kg ZHN;rw[Ay]
 cases b<;>simp[ea,Uh,byd,Be]
theorem ZIW{q:Int->Bool}(h:∀y∈ys,te (S.set 0 (zI y)) G=.ok (.bl (q y)) G):Ck (gV 0) Bd te S (ys.map D.int) G=.ok ((ys.map q).map D.bl) G:=by
 rw[K4 (E:=D.int) (F:=λy=>.bl (q y)) (l:=ys) h,qO]
 rfl
theorem ZJ0{q:Int->Bool}(h:∀y∈ys,q y=vG):(ys.map q).any id=vG:=by rw[List.any_eq_false];intro z hz;obtain⟨y,hy,rfl⟩:=zM.mp hz;simp[h y hy]
section
variable{c p:Nat}{b:Bool}{m:Int}{s0 s1 s2 s3 s5 s6 s9 s10:Option D}{G:DH}{fl:List D}
theorem ZPs(hF:Fl b m xs 0=vD (i,x))(hl:xs.length=fl.length)(hx:xs.length<=1000):
  Ko [s0,s1,s2,s3,zF fl,s5,s6,vD (Bq c p b m),zT [.str "broken",.int i,.int x],s9,s10,zF (xs.map D.int)] G=.rt (.bl vF) G:=by
 obtain⟨_,h2,h3,h4,h5⟩:=ZEW hF;rw[Nat.sub_zero]at h3 h5;have hi:i<xs.length:=by lia
 have ax:atI (xs.map D.int) (i:Int)=zI x:=Dk rfl (by rw[zj,h3];rfl);have a3:∀G,Ad (Bq c p b m) (.int 3) G=.ok (.int m) G:=λG=>rfl
 have cut:cutD (xs.map D.int) vE (vD (i:Int))=(xs.take i).map D.int:=by rw[List.map_take];exact ZNM (by simp;lia)
 have cp:=ZIW (te:=ZB0) (S:=[vE,vD (Bq c p b m)]) (ys:=xs.take i) (q:=λy=>byd b y m) (G:=G) λy _=>by unfold ZB0;simp[a3,Qy]
 have ny:=ZJ0 (ys:=xs.take i) (q:=λy=>byd b y m) h5;have fz:freeze G (.ok (.ref G.length) (G++[.lst ((xs.take i).map D.int)]))=.ok (.fl ((xs.take i).map D.int)) G:=Dg (Ec λ_ _=>rfl);have fz2:freeze G (.ok (.ref G.length) (G++[.lst (((xs.take i).map λy=>byd b y m).map D.bl)]))=.ok (.fl (((xs.take i).map λy=>byd b y m).map D.bl)) G:=Dg R4;have l3:((xs.take i).map λy=>byd b y m).length<=1000000:=by simp;lia
 have l4:((xs.take i).map D.int).length<=1000000:=by simp;lia
 have n1:¬("broken":Str)="kept":=by decide
 have hl':(xs.length:Int)=(fl.length:Int):=by lia
 have hi':(i:Int)<(fl.length:Int):=by lia
 have hib:i<fl.length:=by lia
 generalize(xs.take i).map (λy=>byd b y m)=ks at*;generalize(xs.take i).map D.int=TK at*;unfold Ko Ud X4 Vs ZEB ZJT ZGR;simp[hl,hl',n1,ax,hi,hi',hib,cut,fz,Ax,cp,fz2,ny,a3,Qy,h4,l3,l4]
theorem ZSP(hl:xs.length=0):Ko [s0,s1,s2,s3,zF [],s5,s6,vD (Bq c p b m),zT [.str "kept",.non,.non],s9,s10,zF (xs.map D.int)] G=.rt (.bl vF) G:=by have fz:freeze G (.ok (.ref G.length) (G++[.lst []]))=.ok (.fl []) G:=Dg rfl;have e:Bl (.fl []) (.fl []) G=.ok (.bl vF) G:=ZPS rfl;unfold Ko Ud;simp[hl,Ah,fz,e]
theorem ZO0{i:Int}(hF:Fl b m (x::r) 0=vE)(hl:ys.length=fl.length)(h0:fl≠[])(hx:ys.length<=1000)(far:∀y∈ys,byd b y (Ce b r x)=vG)(ne:∀G,Bl (.fl fl) (.fl []) G=.ok (.bl vG) G):
  Ko [s0,s1,s2,s3,zF fl,s5,s6,vD (Bq c p b m),zT [.str "kept",.int i,.int (Ce b r x)],s9,s10,zF (ys.map D.int)] G=.rt (.bl vF) G:=by
 have a3:∀G,Ad (Bq c p b m) (.int 3) G=.ok (.int m) G:=λG=>rfl
 have nb:=ZFD hF _ (ZD9 (b:=b) (r:=r) (x:=x));have cp:=ZIW (te:=ZAb) (S:=[vE,vD (Bq c p b m),zT [.str "kept",.int i,.int (Ce b r x)]]) (ys:=ys) (q:=λy=>byd b y (Ce b r x)) (G:=G) λy _=>by unfold ZAb;simp[Qy]
 have ny:=ZJ0 (ys:=ys) (q:=λy=>byd b y (Ce b r x)) far;have fz:freeze G (.ok (.ref G.length) (G++[.lst []]))=.ok (.fl []) G:=Dg rfl;have fz2:freeze G (.ok (.ref G.length) (G++[.lst ((ys.map λy=>byd b y (Ce b r x)).map D.bl)]))=.ok (.fl ((ys.map λy=>byd b y (Ce b r x)).map D.bl)) G:=Dg R4;have l3:(ys.map λy=>byd b y (Ce b r x)).length<=1000000:=by simp;lia
 have hl':(ys.length:Int)=(fl.length:Int):=by lia
 have hyl:ys.length<=1000000:=by lia
 have hfl:fl.length<=1000000:=by lia
 generalize ys.map (λy=>byd b y (Ce b r x))=ks at*;unfold Ko Ud X4 Vs;simp[hl,hl',Ah,fz,ne,a3,Qy,nb,Ax,cp,fz2,ny,l3,hyl,hfl]
end
theorem ZBX{n:Nat}{F F':Nat->Nat->Int}(h:∀i k,k<n->F i k<=F' i k):∀l:List Nat,LeF n (l.map F) (l.map F')
 |[]=>trivial
 |i::l=>⟨λk hk=>h i k hk,ZBX h l⟩
theorem ZQA(hl:ns.length<=63)(G:DH):Ke [nD ns] G=.ok (.bl vF) G:=by
 obtain⟨f,hf⟩:=cells hl;obtain⟨u,hu1,cu⟩:=ZM9 hf;have hu:0<u:=by lia
 obtain⟨yr,hyr,cy⟩:=ZSR hf;obtain⟨h,hT,ch⟩:=ZSg hf hyr cy hu cu;have g:=hT.good;have hn:=g.len;obtain⟨a,ha,ca⟩:=ZLn hf;obtain⟨t,ht1,ht2,et⟩:∃t:Nat,6+14*h.n+t*h.n<=1000/\t<=6/\(t:Int)=f 2%7:=by
  have h6:(f 2%7).toNat<=6:=by lia
  have hm:=jO h6 hn;exact⟨(f 2%7).toNat,by lia,by lia,by lia⟩
 have cs:=ZQZ hf hu cu g;have cf:=ZR3 hf hu cu g ht1 (by lia);have f2:∀G,Bc [nD ns,.int 2] G=.ok (.int (f 2)) G:=hf 2 (by lia);have hbr:∀k b r q,k<h.n->(h.pl k).kd=.basin b r q->lvS h f u k<=b:=λk b r q hk e=>(ZBU g hk).2.1 b r q e
 have cm:=ZQz hf hu cu g (lv:=lvS h f u) (co:=coS h f u) hbr (fl:=flS h.n f u) ht2;have so:StOk h (lvS h f u) (coS h f u):=⟨λk hk=>(ZBU g hk).1,λk hk=>(ZBU g hk).2.2,λk j _ _=>ZL8 hu k j⟩;have so':=ZRv (f:=f) hu so hbr;have hlv:∀k,k<h.n->lvS h f u k<=lvM h f u (lvS h f u) k:=λk hk=>ZIl hbr hk
 have hco:∀k j,k<h.n->j<5->coS h f u k j<=coM h f u (coS h f u) k j:=λk j _ _=>ZGY hu k j
 have hfl:∀i k,k<h.n->flS h.n f u i k<=flM h f u (flS h.n f u) i k:=λi k _=>ZKa hu i k
 have fn0:∀i k,0<=flS h.n f u i k:=λi k=>ZNV hu i k
 generalize lvM h f u (lvS h f u)=lv' at*;generalize coM h f u (coS h f u)=co' at*;generalize flM h f u (flS h.n f u)=fl' at*;generalize lvS h f u=lv at*;generalize coS h f u=co at*;generalize flS h.n f u=fl at*;have u1:(leN h.n lv lv'&&leR 5 h.n co co')=vF:=by
  rw[ZFr hlv,ZEf λi hi k hk=>hco i k hi hk]
  rfl
 have u2:(decide (((zQ t).map fl).length=((zQ t).map fl').length)&&leR h.n ((zQ t).map fl).length (λi=>((zQ t).map fl).getD i λ_=>0) λi=>((zQ t).map fl').getD i λ_=>0)=vF:=by
  rw[ZEf λi hi k hk=>?_]
  ·simp
  ·have hi:i<t:=by simpa using hi
   rw[ZDm hi,ZDm hi];exact hfl i k hk
 have hfn:∀x∈(zQ t).map fl,∀k,k<h.n->0<=x k:=λx hm k _=>by obtain⟨i,_,rfl⟩:=zM.mp hm;exact fn0 i k
 have hfn':∀x∈(zQ t).map fl',∀k,k<h.n->0<=x k:=λx hm k hk=>by obtain⟨i,_,rfl⟩:=zM.mp hm;exact jx (fn0 i k) (hfl i k hk)
 have l1:((zQ t).map fl).length=t:=by simp
 have l2:((zQ t).map fl').length=t:=by simp
 have cA:=ZPN hf hn (B:=6+32*h.n) (by lia) hlv hco;have cF:=ZSr hf hn (B:=6+32*h.n+4) (by lia) ht2 hfl;have iA:∀k,k<h.n->lv k<=lvA f (6+32*h.n) lv lv' k/\lvA f (6+32*h.n) lv lv' k<=lv' k:=λk hk=>Xi (hlv k hk)
 have iC:∀k j,k<h.n->j<5->co k j<=coA f (6+32*h.n) co co' k j/\coA f (6+32*h.n) co co' k j<=co' k j:=λk j hk hj=>Xi (hco k j hk hj)
 have iF:∀i k,k<h.n->fl i k<=flA f (6+32*h.n+4) h.n fl fl' i k/\flA f (6+32*h.n+4) h.n fl fl' i k<=fl' i k:=λi k hk=>Xi (hfl i k hk)
 have soA:StOk h (lvA f (6+32*h.n) lv lv') (coA f (6+32*h.n) co co'):=⟨λk hk=>jx (so.lv0 k hk) (iA k hk).1,λk hk hB=>by have h1:=so.lvR k hk hB;have h2:=so'.lvR k hk hB;have h3:=iA k hk;lia,λk j hk hj=>jx (so.co0 k j hk hj) (iC k j hk hj).1⟩
 have hfA:∀x∈(zQ t).map (flA f (6+32*h.n+4) h.n fl fl'),∀k,k<h.n->0<=x k:=λx hm k hk=>by obtain⟨i,_,rfl⟩:=zM.mp hm;exact jx (fn0 i k) (iF i k hk).1
 have lA:((zQ t).map (flA f (6+32*h.n+4) h.n fl fl')).length=t:=by simp
 have fA:=ZBX (λi k hk=>(iF i k hk).1) (zQ t);have fB:=ZBX (λi k hk=>(iF i k hk).2) (zQ t);obtain⟨o,ho,cq⟩:=ZOb hf hu cu g hT.one;have e4:((6+32*h.n+4:Nat):Int)=((6+32*h.n:Nat):Int)+4:=by lia
 rw[e4]at cF;have m32:∀G,Ak (.int 32) (.int (h.n:Int)) G=.ok (.int (32*(h.n:Int))) G:=λG=>G8 (by lia) (by lia)
 have e6:(6+32*(h.n:Int))=((6+32*h.n:Nat):Int):=by lia
 generalize((6+32*h.n:Nat):Int)=BI at cA cF e6;generalize(zQ t).map (flA f (6+32*h.n+4) h.n fl fl')=flsA at*;generalize lvA f (6+32*h.n) lv lv'=lvA' at*;generalize coA f (6+32*h.n) co co'=coA' at*;generalize(zQ t).map fl'=fls' at*;generalize(zQ t).map fl=fls at*;have fz0:∀l:List (Nat->Int),freeze G (.ok (.ref G.length) (G++[.lst (Af h.n l)]))=.ok (.fl (Af h.n l)) G:=λl=>Dg Ra
 unfold Ke;rw[Ay];cases o with
 |none=>
  have fq:freeze G (.ok .non G)=.ok .non G:=Ho rfl;unfold Mh Y7 ZA0 ZBP Yg Zj ZAR;simp[ch,ca,cs,f2,<-et,cf,fz0,cm,cq,fq,Lb,Be]
 | some q=>
  obtain⟨c,p,b,m⟩:=q;obtain⟨h1,h2,hp,hk⟩:=ho c p b m rfl;have hkB:c≠1->(h.pl p).kd.isB=vF:=λz=>by unfold knT at hk;rw[if_neg z,Gn]at hk;exact hk
  have lk:=ZKC g (a:=a) (by lia) (by lia) hp h1 h2 hk (b:=b) (m:=m) u1 u2 so.co0 so'.co0 hfn hfn' G;have cr:=Us g (s:=(lv,co)) (a:=a) (fls:=fls) (by lia) so.co0 hfn G;have cr':=Us g (s:=(lv',co')) (a:=a) (fls:=fls') (by lia) so'.co0 hfn' G;have crA:=Us g (s:=(lvA',coA')) (a:=a) (fls:=flsA) (by lia) soA.co0 hfA G;have ro:=run6 g fls (lv,co) a;have ro':=run6 g fls' (lv',co') a;have roA:=run6 g flsA (lvA',coA') a
  have m1:=Xo hp h1 h2 hkB (Ww g fls flsA (lv,co) (lvA',coA') a so soA hfn hfA (λk hk=>(iA k hk).1) (λk j hk hj=>(iC k j hk hj).1) fA).1;have m2:=Xo hp h1 h2 hkB (Ww g flsA fls' (lvA',coA') (lv',co') a soA so' hfA hfn' (λk hk=>(iA k hk).2) (λk j hk hj=>(iC k j hk hj).2) fB).1;have fr:=Rg (G:=G) (ds:=(h.Bt fls (lv,co) a).map (pgD h.n)) (e:=stD h.n (h.Ei fls (lv,co) a).1 (h.Ei fls (lv,co) a).2) V6 Mr
  have fr':=Rg (G:=G) (ds:=(h.Bt fls' (lv',co') a).map (pgD h.n)) (e:=stD h.n (h.Ei fls' (lv',co') a).1 (h.Ei fls' (lv',co') a).2) V6 Mr;have frA:=Rg (G:=G) (ds:=(h.Bt flsA (lvA',coA') a).map (pgD h.n)) (e:=stD h.n (h.Ei flsA (lvA',coA') a).1 (h.Ei flsA (lvA',coA') a).2) V6 Mr;have nc:=X8 ro hp h1 h2 (b:=b) (m:=m) G;have nc':=X8 ro' hp h1 h2 (b:=b) (m:=m) G;have ncA:=X8 roA hp h1 h2 (b:=b) (m:=m) G
  have n1:(h.Bt fls (lv,co) a).length=t:=by rw[Nt,l1]
  have n2:(h.Bt fls' (lv',co') a).length=t:=by rw[Nt,l2]
  have nA:(h.Bt flsA (lvA',coA') a).length=t:=by rw[Nt,lA]
  have fq:freeze G (.ok (Bq c p b m) G)=.ok (Bq c p b m) G:=Ho ZIV;have lfl:(Af h.n fls).length=t:=by rw[ZOL,l1]
  have qi:J8 (Bq c p b m)=vG:=rfl;have q2:∀G,Ad (Bq c p b m) (.int 2) G=.ok (.str (snT b)) G:=λG=>rfl
  have nk:∀G,Ii (.str "kept") (.tup [.str "kept",.str "broken"]) G=.ok (.bl vG) G:=λG=>rfl
  have nb:∀G,Ii (.str "broken") (.tup [.str "kept",.str "broken"]) G=.ok (.bl vG) G:=λG=>rfl
  have kb:¬("kept":Str)="broken":=by decide
  have len1:(Dw (h.Bt fls (lv,co) a) p c).length=t:=by simp[Dw,n1]
  have len2:(Dw (h.Bt fls' (lv',co') a) p c).length=t:=by simp[Dw,n2]
  have lenA:(Dw (h.Bt flsA (lvA',coA') a) p c).length=t:=by simp[Dw,nA]
  have b1:(h.Bt fls (lv,co) a).length<=1000000:=by lia
  have b2:(h.Bt fls' (lv',co') a).length<=1000000:=by lia
  have bA:(h.Bt flsA (lvA',coA') a).length<=1000000:=by lia
  have fzx:∀xs:List Int,freeze G (.ok (.ref G.length) (G++[.lst (xs.map D.int)]))=.ok (.fl (xs.map D.int)) G:=λxs=>Dg (Ec λ_ _=>rfl)
  have ht0:t=0->Af h.n fls=[]:=λz=>qL (by rw[lfl,z])
  have hfn0:t≠0->Af h.n fls≠[]:=λz w=>z (by rw[<-lfl,w];rfl)
  have hne:t≠0->∀G,Bl (.fl (Af h.n fls)) (.fl []) G=.ok (.bl vG) G:=λz G=>by
   have w:=hfn0 z;cases e:Af h.n fls with
   |nil=>exact absurd e w
   |cons d ds=>rfl
  generalize hA:Dw (h.Bt fls (lv,co) a) p c=X1 at*;generalize hB:Dw (h.Bt fls' (lv',co') a) p c=X2 at*;generalize hC:Dw (h.Bt flsA (lvA',coA') a) p c=XA at*;generalize hPA:(h.Bt flsA (lvA',coA') a).map (pgD h.n)=PA at*;generalize hP1:(h.Bt fls (lv,co) a).map (pgD h.n)=P1 at*;generalize hP2:(h.Bt fls' (lv',co') a).map (pgD h.n)=P2 at*;have lpA:PA.length<=1000000:=by rw[<-hPA];simpa using bA
  have lp1:P1.length<=1000000:=by rw[<-hP1];simpa using b1
  have lp2:P2.length<=1000000:=by rw[<-hP2];simpa using b2
  have pre:∀A:D,Mw [h.enc,stD h.n lv co,stD h.n lv' co',.int a,.fl (Af h.n fls),.fl (Af h.n fls'),Bq c p b m] G=.ok A G->Mh [zN ns,vE,vE,vE,vE,vE,vE,vE,vE,vE,vE,vE] G=
    Tt [zN ns,vD h.enc,zI a,vD (stD h.n lv co),zF (Af h.n fls),vD (stD h.n lv' co'),zF (Af h.n fls'),vD (Bq c p b m),vD A,vE,vE,vE] G:=λA lkA=>by
   unfold Mh Y7 ZA0 ZBP Yg Zj ZAR ZIU;simp[ch,ca,cs,f2,<-et,cf,fz0,cm,cq,fq,Lb,qi,lkA]
  have mid:∀(s:Str)(x y:D),(x=.non/\y=.non∨∃i j,x=.int i/\y=.int j)->Ii (.str s) (.tup [.str "kept",.str "broken"]) G=.ok (.bl vG) G->
    Tt [zN ns,vD h.enc,zI a,vD (stD h.n lv co),zF (Af h.n fls),vD (stD h.n lv' co'),zF (Af h.n fls'),vD (Bq c p b m),zT [.str s,x,y],vE,vE,vE] G=
    Qd [zN ns,vD h.enc,zI a,vD (stD h.n lv co),zF (Af h.n fls),vD (stD h.n lv' co'),zF (Af h.n fls'),vD (Bq c p b m),zT [.str s,x,y],zI BI,zF PA,vE] G:=λs x y hxy hni=>by
   have told:=ZQf hxy (s:=s) G;unfold Tt ZJF ZDQ;simp[told,hni,An,Cq,Hs.Hl,m32,e6,cA,cF,crA,frA]
  have fin:Mh [zN ns,vE,vE,vE,vE,vE,vE,vE,vE,vE,vE,vE] G=.rt (.bl vF) G:=by
   have far:∀(x:Int)(r:List Int),(if b=vF then X1 else X2)=x::r->∀y∈XA,byd b y (Ce b r x)=vG:=λx r e=>ZQ4 (by
    cases b with
    |true=>
     simp only[if_true]at e⊢;rw[<-e];exact m1
    |false=>
     simp only[jQ,if_false]at e⊢;rw[<-e];exact m2)
   have lk':Mw [h.enc,stD h.n lv co,stD h.n lv' co',.int a,.fl (Af h.n fls),.fl (Af h.n fls'),Bq c p b m] G=.ok (Ff b m (if b=vF then X1 else X2)) G:=by
    rw[lk];cases b with
    |true=>rw[<-hA];rfl
    |false=>rw[<-hB];rfl
   rw[pre _ lk']
   have lenX:(if b=vF then X1 else X2).length=t:=by cases b<;>assumption
   cases hF:Fl b m (if b=vF then X1 else X2) 0 with
   | some q=>
    obtain⟨i,x⟩:=q;have eA:Ff b m (if b=vF then X1 else X2)=.tup [.str "broken",.int i,.int x]:=by unfold Ff;rw[hF]
    rw[eA,mid "broken" (.int i) (.int x) (.inr ⟨_,_,rfl,rfl⟩) (nb G)];have eb:=λ(P:D)=>ZPs (c:=c) (p:=p) (s0:=zN ns) (s1:=vD h.enc) (s2:=zI a) (s3:=vD (stD h.n lv co)) (s5:=vD (stD h.n lv' co')) (s6:=zF (Af h.n fls')) (s9:=zI BI) (s10:=vD P) (G:=G) (fl:=Af h.n fls) hF (by rw[lenX,lfl]) (by lia)
    unfold Qd Su;cases b with
    |true=>
     simp only[if_true]at eb lenX;have lx:X1.length<=1000000:=by lia
     simp[cr,fr,q2,ZHQ,lp1,Ax,nc,fzx,lx,eb]
    |false=>
     simp only[jQ,if_false]at eb lenX;have lx:X2.length<=1000000:=by lia
     simp[cr,fr,cr',fr',q2,ZHQ,lp2,Ax,nc',fzx,lx,eb]
   | none=>
    have lxA:XA.length<=1000000:=by lia
    cases hX:(if b=vF then X1 else X2)with
    |nil=>
     have t0:t=0:=by rw[hX]at lenX;exact lenX.symm
     have eA:Ff b m []=.tup [.str "kept",.non,.non]:=rfl;have en:=ZSP (c:=c) (p:=p) (b:=b) (m:=m) (s0:=zN ns) (s1:=vD h.enc) (s2:=zI a) (s3:=vD (stD h.n lv co)) (s5:=vD (stD h.n lv' co')) (s6:=zF (Af h.n fls')) (s9:=zI BI) (s10:=zF PA) (G:=G) (xs:=XA) (by lia);rw[eA,mid "kept" .non .non (.inl ⟨rfl,rfl⟩) (nk G)];rw[ht0 t0];unfold Qd Su;simp[kb,lpA,Ax,ncA,fzx,lxA,en]
    |cons x r=>
     have t0:t≠0:=by rw[hX]at lenX;simp at lenX;lia
     rw[hX]at hF;have eA:Ff b m (x::r)=.tup [.str "kept",.int ((x::r).idxOf (Ce b r x):Nat),.int (Ce b r x)]:=by unfold Ff;rw[hF]
     have ek:=ZO0 (c:=c) (p:=p) (s0:=zN ns) (s1:=vD h.enc) (s2:=zI a) (s3:=vD (stD h.n lv co)) (s5:=vD (stD h.n lv' co')) (s6:=zF (Af h.n fls')) (s9:=zI BI) (s10:=zF PA) (G:=G) (fl:=Af h.n fls) (i:=((x::r).idxOf (Ce b r x):Nat)) hF (by rw[lenA,lfl]) (hfn0 t0) (by lia) (far x r hX) (hne t0);rw[eA,mid "kept" (.int _) (.int _) (.inr ⟨_,_,rfl,rfl⟩) (nk G)];generalize Ce b r x=be at*;generalize(((x::r).idxOf be:Nat):Int)=ix at*
     unfold Qd Su;simp[kb,lpA,Ax,ncA,fzx,lxA,ek]
  show tidy G ((Mh [zN ns,vE,vE,vE,vE,vE,vE,vE,vE,vE,vE,vE] G).ret)=_;rw[fin];simp[Be]
theorem holds:Holds:=λns hl=>⟨[],ZQA hl []⟩
end _W
set_option maxRecDepth 100000
namespace _W
open PySem PySem.W _L _D
theorem ZFo:∀w,(openEnds vK pw w 100000).map (λs=>(openSeen vw ["KINDS_ASKED"] (xS pw.main.body) (XtOf rw_ vw) vF s,Pz asks s.heap))=vD (openGood vw ["KINDS_ASKED"],Ov asks):=ZL0 (by kernel_rfl) (λs=>rfl) ZUB
theorem walked:WalkO vw ["KINDS_ASKED"] (XL vw []) (Stays rw_.prog 100000) rw_.row.toRowW (dOf Hb) [] λf vs=>PySem.call f vs:=
 walk (l:=rw_) (K:=λw=>Oq (Jc pw 100000 w)) rfl hdf holds (λw h Y=>Y.in) λw mg fa h KX G hmg=>all_mk KX G (show mg "law"=_ from hmg) (ZEG (ZUW ZFo w))
end _W
open PySem PySem.W PyProof.Rows _D
theorem PySem.Challenge.cw_sluiceway_k54_whole_all_floods_between_holds : PySem.Challenge.rw_sluiceway_k54_whole_all_floods_between.Holds := by
 refine holds_top (l:=_W.rw_) (q:=_W.vw) (loose:=["KINDS_ASKED"]) (N:=100000) (see:=Pz _W.asks) (val:=Ov _W.asks) (d:=dOf _W.Hb) ?_ ?_ ?_ ?_ ?_ ?_ ?_ ?_ ?_ ?_
 ·exact _W.well
 ·exact _W.ZFo
 ·exact _W.hdef
 ·exact _W.hp
 ·exact _W.hk
 ·rfl
 ·exact _W.hok
 ·exact _W.hbare
 ·exact _W.hw
 ·exact _W.walked
