import PyProof.Rows.All
import PySem.Challenge.RW_sluiceway_k91_whole_more_water
import KE.KNestM
import KE.KIsAll
import KE.KSortTup
import KE.KIntText
import Wide.FinOn
import Lean
set_option compiler.extract_closed false
set_option bootstrap.genMatcherCode false
set_option genSizeOf false
set_option Elab.async false
set_option linter.all false
set_option maxRecDepth 100000
open PySem.W.Fast renaming tw5923862056798008813->xv,tw4187177175401517315->cu
open Option.some renaming inj->w4
open Option renaming some->u7,none->u8
open Bool renaming true->u9,false->uA
open PySem.W renaming Frag->za,nsIn->zb,findIn->zh,instObj->zi,emptyDict->qb,kas_sort->qc,kia_one->qg,keepIn->qh,lookIn->ja,plainGet->jb,fnOf->jc,hasDictIn->xh,plainGet_of->xi,isFn->vU,takerIn->vb,callWith_K->vc,OpenLaw->vh,KasT->wZ,kat_nil->wW,handedIn->wv,plainOver->ww,makesIn->wk,methodCall_KW->w5,callWith_K0->w6,cellsFrom_some->w8,codeIn->w9,WalkO->wD,kat_one->uZ,kat_cons->uJ,kat_go->uX,kat_yes->uV,kat_no->uW,KatTups->uK,kas_ask->uY,kat_kind->uq,mg_of->ux
open PySem.F renaming slot_str_split->zd,type_str_split->ze,slot_str_join->qe,type_str_join->qf,slot_tuple_iterator_next->je,slot_enumerate_next->jg,slot_zip_next->jh,slot_str_partition->xa,type_str_partition->xf,slot_tuple_add->vd,entry_tuple_add->ve,args_tuple_add_2->vf,slot_str_startswith->wK,type_str_startswith->wq,entry_tuple_iterator_next->wM,args_tuple_iterator_next_1->wO,entry_enumerate_next->wS,args_enumerate_next_1->wa,slot_enumerate_iter->wb,entry_zip_next->wc,args_zip_next_1->we,called_enumerate->wf,entry_enumerate_new->wg
open PySem renaming mem_of_lookup->zf,call->qi,Within->xg,intText?->uj,seqSlot_of->uv
open PyProof.Rows renaming callWith_type1->qa,slot_tuple_getitem->jd,boot_enumerate->wh,boot_zip->uQ,boot_range->uz
open PySem.SeqAt.EqAt renaming int_str->wj,str_int->wx
open PySem.SeqAt renaming ne_of_list_tuple->wE
open PySem.Builtin.SmallTypes renaming nextOf->wQ,ownedTupleIsFree->uw,ownedTupleHandOut->uk,newRecord->uy,ownedTupleFields->u0,fitsIndex->u6
open PySem.Builtin.List renaming listTooLong->vg
open PySem.Builtin.Str renaming occurrences->zc,strKind->zg,strSliceIndices->qd,partsBetween->ji,strSub->wz
open List renaming mem_cons_of_mem->zZ,getElem?_eq_getElem->zJ,range->zV,mem_cons_self->zW,replicate->zK,length_map->zq,mem_cons->zj,mem_map->zw,map_cons->zk,getElem?_eq_none->zy,size_toArray->z0,getElem?_eq_some_iff->z9,getElem?_append_left->zE,getElem?_map->zG,drop_eq_getElem_cons->zH,getElem?_append_right->zM,getElem?_set_ne->zP,mem_append_right->qZ,map_map->qJ,getElem_mem->qX,length_set->qV,mem_append->qW,drop_of_length_le->qY,getElem?_range->qq,replicate_succ->qz,mem_range->qx,length_append->qw,map_congr_left->qk,idxOf_lt_length_of_mem->qy,getElem?_set_self->q0,getD_eq_getElem?_getD->q8,length_cons->q9,ext_getElem->qB,filterMap_map->qC,filterMap_cons->qD,all_eq_true->qE,range'->qF,length->qG,append_nil->qH,map_nil->qL,take_of_length_le->qM,getElem_of_mem->qO,pairwise_iff_getElem->qP,nodup_cons->qS,mem_singleton->qU,mem_range'_1->jZ,range_succ_eq_map->jJ,filterMap_eq_map'->jX,length_replicate->jV,getElem_idxOf->jW,getElem?_take_of_lt->jK,mem_of_getElem?->jY,eq_nil_of_length_eq_zero->jz,length_nil->jx,map_append->jv,getElem?_replicate->jw,all_cons->jy,length_take->j0,lookup_cons->j1,lookup->j2,forIn_cons->j5,flatten_cons->j6,append_assoc->j7,getElem?_set->j8,getElem?_eq_none_iff->j9,ext_getElem?->jA,getLast?_eq_getElem?->jC,mem_append_left->jD,mem_of_mem_eraseIdx->jF,set->jI,drop_append_of_le_length->jL,length_drop->jO,range'_succ->jP,getElem_append_left->jT,drop_zero->xJ,length_pos_of_mem->xX,length_singleton->xK,set_append_right->xY,length_filter_le->xz,getElem_map->xj,range_succ->xk
open Nat renaming le_refl->zX,lt_of_lt_of_le->zY,le_trans->zx,ne_of_lt->qQ,lt_irrefl->q7,lt_succ_self->qA,lt_succ_of_lt->qN,mul_le_mul_right->jQ,ne_of_gt->j3,toDigits->j4,lt_trichotomy->jB,le_succ->jG,le_of_ble_eq_true->jN,toDigits_of_lt_base->xZ,zero_le->xV,le_add_right->xq,lt_or_ge->xy
open Int renaming le_refl->zU,mul_le_mul_of_nonneg_right->qj,emod_lt_of_pos->jH,mul_le_mul_of_nonneg_left->jM,emod_nonneg->jS,le_trans->jU,eq_ofNat_of_zero_le->xQ,mul_nonneg->xA
open Option renaming map_eq_some_iff->qK,isSome_iff_exists->jE,map_some->jR
open Bool renaming and_eq_true->zN,false_ne_true->zO,and_eq_true_iff->jq,or_eq_true->xw
open Array renaming getElem?_toList->qT,length_toList->jk
open PySem.Heap renaming get?_push_of_some->zQ,lt_size->zA,get?_push_size->zD,size_push->qI,SameBut->qR,get?_update_self->xW
open PySem renaming Addr->xB,Around->xC,Expr->xD,FuncData->xE,NameKind->xF,Program->xG,Scope->xH,Shared->xI,Stmt->xL,Value->xM,World->xN,assignEach->xO,attributeBase->xP,backTo->xR,backToKw->xS,behindInMarks->xT,binaryOp->xU,bootBuiltins->vQ,checkBuiltinCall->vZ,codeAny_mono->vJ,compareOp->vX,importedModules->vV,keywordEach->vW,letOwnedTupleGo->vK,mainGlobals->vY,model->vq,rawInt->vz,sizeLine_eq->vj,sliceBounds->vx,starEach->vv,treeTable->vk,wpAny->vA,wpAny_Call_Name_kw->vB,wpAny_bind->vC,wpAny_callSpecial?_slot->vD,wpAny_call_entry->vE,wpAny_field->vF,wpAny_holding->vG,wpAny_mono->vH,wpAny_newObj_type->vI,wpAny_passesOwn->vL,wpAny_pure->vM,wpAny_setField_rec->vN,wpAny_truthy_bool->vO
open PySem.W renaming Frag->vP,boot_heap->vR,kas_rev->vS
set_option maxHeartbeats 0
open List renaming length -> lN
noncomputable section
local macro_rules|`(tactic|rfl')=>`(tactic|first|exact .inl rfl|exact .inr rfl|assumption|intro _;rfl|decide +kernel)
local macro_rules|`(.a)=>`(by lia)|`(.b)=>`(by trivial)|`(.c)=>`(by decide)|`(.d)=>`(by simp)|`(.e)=>`(by simp;lia)|`(.f)=>`(by decide +kernel)
namespace _D
section
open Lean
def wA(s:String):Syntax:=.atom .none s
def wL(l:List Syntax):Syntax:=.node .none `null l.toArray
def wN(k:String)(l:List Syntax):Syntax:=.node .none ("Lean.Parser."++k).toName l.toArray
def wX(l:List Syntax):Syntax:=wN "Tactic.tacticSeq" [wN "Tactic.tacticSeq1Indented" [wL l]]
def wP(l:List Syntax):Syntax:=wN "Tactic.paren" [wA "(",wX l,wA ")"]
def wO1(l:List String):Syntax:=(mkIdent (".".intercalate l).toName).raw
def wI(s:String):Syntax:=match s.splitOn "." with
 |"" ::r=>wN "Term.dotIdent" [wA ".",wO1 r]
 |l=>(l.dropWhile (!·.isNat)).foldl (λe p=>wN "Term.proj" [e,wA ".",if p.isNat then .node .none `fieldIdx #[wA p] else wO1 [p]]) (wO1 (l.takeWhile (!·.isNat)))
def wH:Syntax:=wN "Term.syntheticHole" [wA "?",wA "_"]
def wU(l:List String):Syntax:=wN "Term.fun" [wA "fun",wN "Term.basicFun" [wL (l.map wI),wL [],wA "=>",wH]]
def wY(l:List Syntax):Syntax:=match l.reverse with
 |x::y::r=>wN "Term.app" [x,wL (y::r)]
 |[x]=>x
 |_=>.missing
def wT(s:String):Syntax:=wY ((((s.replace "(" "( ").replace ")" " )").splitOn " ").foldl (λst w=>match st with
 | a::r=>
  if w="" then st else if w="(" then[]::st else if w=")" then(match r with
   |b::q=>(wY a::b)::q
   |_=>st)
  else((if w="_" then wN "Term.hole" [wA w]else if w="?" then wH else if w="." then wN "Term.ellipsis" [wA ".."]
   else if w="L" then wU ["C","s","H","e","nd"]else if w="l" then wU ["C","s","H","e"]
   else if w="d" then wN "Term.byTactic" [wA "by",wX [wN "Tactic.decide" [wA "decide",wN "Tactic.optConfig" [wL []]]]]
   else if w.isNat then(Syntax.mkNumLit w).raw else wI w)::a)::r
 |_=>st) [[]]).head!
def wF(l:List Syntax):Syntax:=wN "Tactic.attemptAll" [wA "attempt_all",wL (l.map λx=>.node .none `group #[wA "|",if x.isAtom then x else wX [x]])]
def wJ(a b:Syntax):Syntax:=wN "Tactic.«tactic_<;>_»" [a,wA "<;>",b]
def wG(k:String)(t:Syntax)(r:Syntax):Syntax:=wP [wN "Tactic.guardTarget" [wA "guard_target",wN "equal" [wN k [wA "="]],t],wA ";",r]
def wV:Syntax:=wN "Tactic.tacticTrivial" [wA "trivial"]
def wB(s:String):Syntax:=
 let t:=wT (s.drop 1).toString;let f:=λk=>wN ("Tactic."++k) [wA k,t]
 let c:=s.front
 if c='@' then f "apply" else if c='!' then wN "Tactic.withReducible" [wA "with_reducible",wX [f "exact"]]
 else if c='=' then wP [wJ (f "refine") (wN "Tactic.tacticRfl" [wA "rfl"])]else if c='<' then wP [wJ (f "refine'") wV]else if c='.' then f "exact" else f "refine'"
def wC(s:String):Syntax:=wF ((s.splitOn ",").flatMap λb=>match b.splitOn "^" with
 |[_,t,n]=>(n.splitOn " ").map λx=>wA ("-"++t.replace "$" x)
 |_=>[wA b])
def wR(s:String):Syntax:=wF ((s.splitOn "#").map λg=>wA ("#"++g))
def wKa(k:String):=wN ("Tactic."++k) [wA k]
def wQa(s:String):=wN "Tactic.apply" [wA "apply",wI s]
def wSa:=wF ([wKa "assumption",wN "Tactic.decide" [wA "decide",wN "Tactic.optConfig" [wL []]]]++("And.left And.right Nat.le_of_lt Int.le_of_lt Nat.le_of_not_lt Nat.lt_of_not_le Nat.lt_succ_of_lt Nat.le_of_lt_succ Nat.min_le_right Nat.sub_le Nat.le_add_left Nat.le_add_right Nat.qA Nat.qB".splitOn " ").map λs=>wA ("~"++s))
def wZa:=wF (wSa::("le_trans add_nonneg lt_of_lt_of_le add_le_add le_of_not_lt le_of_add_right_le sub_one_lt_of_lt lt_of_le_of_lt lt_of_succ_le le_add_of_nonneg_right le_of_lt_succ lt_trans succ_le_of_lt sub_le_sub_left le_add_right le_sub_one_of_lt sub_sub_self eq_of_lt_succ_of_not_lt add_sub_of_le succ_add_eq_add_succ not_lt_of_ge neg_ofNat_le_natCast succ_le_succ sub_le_sub_right add_sub_self_left add_assoc le_max_left ne_of_lt add_zero sub_le le_of_lt le_add_left_of_le sub_add_cancel zero_le add_pos_of_pos_of_nonneg sub_pos_of_lt lt_succ_of_lt zero_add min_le_left add_comm toNat_of_nonneg sub_nonneg_of_le min_le_right add_lt_add_left not_le_of_lt le_of_eq succ_lt_succ lt_of_add_right_lt ne_of_gt zero_lt_of_lt eq_of_le_of_lt_succ max_eq_left min_eq_left le_antisymm lt_of_lt_of_eq one_le_of_lt natCast_nonneg lt_of_le_of_ne".splitOn " ").flatMap λs=>[wA ("&Nat."++s),wA ("&Int."++s)])
def wD(s:String):Syntax:=
 let t:=(s.drop 1).toString
 match s.front with
 |'#'=>match t.splitOn "|" with
  |h::r=>
   let b:=wF (r.map λa=>wA ("|"++h++"|"++a))
   if h.front='=' then wG "equalR" (wT (h.drop 1).toString) b else if h.front='*' then b else wG "equalD" (wT (h++" _ _")) (wJ (wP [b]) wV)
  |_=>.missing
 |'|'=>match t.splitOn "|" with
  |[h,a]=>match a.splitOn ":" with
   |[a,x]=>wG "equalD" (wT (h++" "++a)) (wC x)
   |_=>wC a
  |_=>.missing
 |'~'=>wJ (wQa t) (wKa "assumption")
 |'&'=>wJ (wQa t) (wP [wSa])
 |_=>wB s
def wM1(s:Syntax):MacroM Syntax:=
 let m:=s[0].getArgs
 if s[1][1][0].getPos?.isNone then Macro.throwUnsupported else pure ((if s[1].isOfKind ``Parser.Command.theorem||m.any (!·.isNone) then s else s.setArg 0 (s[0].setArg 4 (wL [wN "Command.noncomputable" [wA "noncomputable"]]))).rewriteBottomUp (·.setInfo .none))
def wY1(s:Syntax):Syntax:=wN "Tactic.rcasesPatMed" [wL [s.rewriteBottomUp λt=>if t.isIdent then wN "Tactic.rcasesPat.one" [t] else if t.isOfKind ``Parser.Term.hole then wN "Tactic.rcasesPat.ignore" [wA "_"] else if t.getKind=`«term#[_,]» then wN "Tactic.rcasesPat.tuple" [wA "⟨",wL (t[1].getArgs.toList.map λx=>if x.isAtom then x else wN "Tactic.rcasesPatLo" [wN "Tactic.rcasesPatMed" [wL [x]],wL []]),wA "⟩"] else t]]
def wT1:List (String×String):=("AAlN G|ABvq X.prog X.w|ACvq prog w|ADrs.map Row.enc|AElN rs|AFh.mem m|AG.refl a|AH.ref G.length|AI.lst xs|AJsc.map D.int|AKzX _|AL.ref p|AM.int i|ANns.map D.str|AOdC .WB|APnum n|AQgV 0|AR.ref C|ASs.2.map VC.enc|ATst.map VC.enc|AU.ref s.heap.objs.size|AVAy K c|AWh.last i|AYAl nt caps S|AZway rs k|AaZE G n H LV yt s|Ab.bl u9|Ach.pl k|AdXY hs st at_ sb sa fl pg|Ae.ref f|Af.str x|AgoI v0 c1|AhZG h.n d.st.1 d.st.2|AiZG h.n d.sb.1 d.sb.2|Aj.tup xs|AkZE G h.n h.enc LV yt s|Ala.map VC.enc|Amh.last k|AnBh Dc|Aol.map D.str|Ap.bl uA|Aq.ref a|Ar.ref i|As.Name x pos|Aud1 v0|Avr.map D.int|Awtab h.n lv|Axtab h.n fl|Aya.m i|Az.Tuple elts x1 tp|A0l.map D.int|A1.Attribute o m apos|A2ns.map D.int|A3x.k.trans hk|A4take1 rs P k|A5.lst vs|A6d1 v1|A7.ref b|A8d.turn h fl|A9h.YR p.dn|BAXA Aq Bp|BBoI v0 c0|BCgV 3|BDZU scale c fl|BEAy K n|BG.refl b|BHvv es X.env|BIr.bind f|BJEo b i j|BL.ref e|BMBs h p|BNBc st|BO.builtin id|BQr.map Bb|BRKa tg caps X.N|BTtypeIs_str _ _ _|BVd1 v2|BWAv rs k|BXks.map D.str|BYD' h sc scale lv|BZZU scale cell fl|BaenvOfC qual scope s.heap.objs.size f cd|BbzA e|BcCp 0|BdgV 4|Be.int 0|BfAd h.n|Bg.int d.at_|BhAx ms|BiDj qe qf Oj Lk .b|Bj.ins C dx fs|Bkns.map V.int|Bl.int j|BmzZ _ a|Bn.int n|BoList Nat|Bpss.map Bb|BqStrLaws.occBody s sub c a|BrB' h lv|BsFj st|Btcol Row.YC rs|BuXQ h sc scale|Bvms.getD i 0|Bwtab n fl|Bx.YN o u|By.tup ds|BzXQ h sc c|B0eval o X.env|B1xs.map D.str|B2Bl v0|B3cs.map D.int|B4XO X.K E f|B5pt p i|B6.int k|B7ne_true_of_eq_false h1|B8Y' b i|B9dC v|CAYY h|CBXW h|CCd1 v3|CD.type T|CEOption D|CFd2 v0 v1|CGoI v0 c2|CHqx.mp hk|CIWD d.st.1 k v|CJflF scale cs n i|CKYQ h pg|CLps.zip us|CM.Name x p|CN.fl ds|COord rs|CPwy s.r|CQh.ZB p|CRxv pw.main.body|CSq7 _|CU.UnaryOp .Not a pos|CVHd st|CWgV 1|CXgV 2|CYBo 32|CaZG h.n zL zC|CbYQ h VO|CcList Int|Ce.Subscript o i pos|Cf.ref q|Cga.names.lookup y.1|Chpt p n|CivV p.main.body|CjAb g1 An|CkoI v1 c0|ClAb g4 An|Cm.str r|CnF.args_str_split_3 _ _ _|Coupd H a o|Cqg i j|Csx.trans y|CtzK h.n Z5|CugetMethod ov m pl|CvWX X N scope C s₀ H₀ ex|Cwdn.lookup y.1|Cyvq P w|Cz.ref it|C0.Attribute o name apos|C1.own p|C2F.args_str_split_2 _ _|C3gV 5|C4co k|C5way rs one|C6Aa s|C7S' h.n|C8eval e X.env|C9xU .Mult|DAAb g3 An|DBoI v1 c1|DCd2 v0 c3|DDh.K9 s m|DEb.map VC.enc|DFI.base.free b o e n y|DGzi C s.heap.objs.size|DH.Tuple es k pos|DIOption xM|DJWX X N scope C e f i|DKWX X N scope C f j t|DLzI k|DMgV 6|DNl.map num|DOvR w.params|DPl.map V.str|DQA.map D.str|DRB.map D.str|DS.ref t|DTList D|DUIk e h|DVzZ _ b|DW.int 1|DXBq 0 n|DYacc.map VC.enc|DZh.ps.map RP.nm|DaxU .Add|DbWX X N t C s₀ H₀ ex|Dcvz s.heap.objs.size|DdclM b i|DeG8 rs|Dfasks.take 230|Dgasks.drop 230|Dh.Attribute e f pos|DiYE items.size 0 lo|Dj.lst vs'|DklF X.K F|Dl.Tuple elts x1 pos|Dm.ret .none|DnoI v0 c6|Dod2 v0 c4|DpBq 0 h.n|Dqh.J0 s m|DrBs h|Ds.int scale|DtNat.not_lt_zero _|Ducol Row.need rs k|Dv.ref x|Dw.bl b|DxvX op|Dyt S G|DzBq 0 j.toNat|D0.fl xs|D1sgn c|D2.ref z|D3lt i j|D4ss.map V.str|D5s.YB k|D6h.rows ms ca|D7Ft h p|D8mo h k|EA.ok .next|EB.ins c fs|EC.tup h.Cd|EDu7 v|EE.refl c|EF.put hp|EGdV 3|EHtab n F|EIh.step yt lv s k|EJFq n co|EKH9 co k|ELGh h.yr|EMI.base.keep b o e n hb O|ENh b v x s q|EOVL hs st at_ sb sa fl pg|EPHr h.n d.WT|EQFg scale cs n i|ER.bool u9|ESvW c env|ET.str x t|EUoI v3 c0|EVAb g6 An|EWoI v2 v1|EXoI v0 c4|EYoA v1 c1|EZd2 v0 c2|EaT i|EbHs.M5 hk|Ecb.m i|EdXC v2|EelN xs|Ef.own x|Egu7 e|Ehstart N vs|Ejargs_tuple_getitem _ _|Ek.ref M|Em.ref n|Enxs.filterMap F|Eopt p k|Ep.ref G1.length|Erne_true_of_eq_false hf|EsF.args_tuple_mul_2 _ _|EtdV 2|Eud4 c2 c3 c4 c5|EvAx acc|Ex.Constant .none j pos|EyF.args_int_rmul_2 _ _|Ez.tbl ps|E0OfNat.ofNat n|E1kas_bin f p k|E2XI s.WA|E3ps.map RP.enc|E4O b o e y|E5vX .NotIn|E6HT.YE xs.length 0 lo|E7xs.drop j|E8Bk it nt caps g c te|E9qlM b i j|FAdUn Ob c1|FBDt n s.WA|FCcs0 co fl|FEBu h.n d.sb.1 d.sb.2|FFBu h.n d.st.1 d.st.2|FGDq h.n pg|FHstoreName X.env x u|FIu7 x|FJ.Attribute o f pos'|FK.Attribute o f tpos|FL.ins C dx us|FMinplaceOp op|FNcs.cl I.ok e|FOdV 0|FPd1 v4|FQpg k|FRlN ms|FScol Row.YC a|FTJa h|FUHq h|FVc.map VC.enc|FWu7 19|FXu7 63|FYNat.div_le_self _ _|FZ.int v|Fa.lst _|Fb.int i t|FcHT.YE i.length 0 j|Fd.Subscript a b pos|Fef ds G|Ffs.lt e|Fg.push hp|FhzQ _ e|FiTxt.startswith x y|FjzZ _ c|Fkpt p j|FlvS p 0 n|FmNat.succ_ne_self _|FnAb g2 An|Fod2 v0 v2|Fq.int h.n|Frway rs q|FsBq k m|FtBq j m|Fufs.lookup f|Fvw _ _ _ _ q|Fwu7 p.length|FxcellAt sc 3|Fy.BinOp a op b pos|Fz.UnaryOp op a pos|F0ForInStep.yield r|F1numbered s.toks _|F2eU Tg Tg Oc .b Oc|F3col Row.rank rs k|F4col Row.rank rs i|F5h.goF yt lv m k s|F6I.Jj x c e|F7.IfExp c a b pos|F8.Tuple es x1 pos|F9.lst ys|GA.tup ys|GBtypeIs_int s k t|GCns.map WData.int|GD.ref fa|GEr.toS f|GFXO X.K E g|GGhf j d1 d2 e1 e2|GHgV i|GIf _ _ this|GJ.ref i0|GKnames.lookup y.1|GLFy 2|GMtop 116|GNtop 114|GOtop 106|GPtop 104|GQtop 121|GRtop 120|GStop 168|GTtop 169|GUCp 1|GVAv rs j|GWzI j|GXtab h.n ca|GYDt n pg|GZh.mem k|Gau7 1|GbSh rs W|Gcl.map h.ZB|Gds.2.map WN|Ge.bl k|GfUU st|GgXC v3|GhwyL r|GisetItem ov iv v|GjHl f g ta tb tc|GkNq e es X.env o|GlTxt.join sep ys|Gmacc.map Row.enc|Gnh.ps.map RP.enc|GoFg scale cs n m|Gpupd H x o|GqI.ok.hd F|Grw b H Q q|GszY hi x.n|Gu.symm y.1|GvAf sep ls|Gxss.map YU|Gyxv p.main.body|Gz.own a|G0vX op'|G1inplaceOp .Add|G2.str z|G3wE C.isList pt|G4ZZ tc tb m S G|G5.int xs.length|G6.ref D|G7.int b|G8.str y|G9.int ds.length|HAns.foldl min n|HB.rep c k.toNat|HCM6 K n|HDtop 76|HEtop 65|HFtop 32|HGIu i n|HH.int 4|HIqF b m|HJx.cps.getD 0 0|HK.tup v|HLtab h.n d.st.1|HMList Str|HNOption V|HOw4 e|HP.If c a b pos|HQ.int j u|HRunaryOp .USub|HS.int z.length|HT.cons ru .nil|HUr.mono x|HV.pure xs|HWx1.k.trans hk|HXcs.cells I.ok|HYGp G n k|HZcutD xs lo hi|Ha.int k t|Hbxs.getD i .WB|HcoI v3 c1|HdoI v2 c6|HeoI v2 v4|HfoI v1 v3|HgdV 1|Hhd2 v4 v1|HioI v0 c5|HjoI v2 c1|Hkd2 v6 v1|HloA v0 v5|Hmh.rows ms ca'|Hnacc.map D.int|HoFg c cs h.n m|Hpeval i X.env|Hq.List es pos|HrvW kws X.env|HsObj.mapSeq f|Htf k G|Hva.m j|HxxU .FloorDiv|Hyr1.append r2|Hzp.k.trans k1|H0xs.map D.int|H1ks.map D.int|H2ys.map D.str|H3bF h k _ _ _|H4qc xs.length|H5ss.map V.int|H6limitOf x' k|H8Bl v3|H9Bl v1|IAu7 c1|IBd1 v5|ICd1 v8|IDd3 v0 v10 v3|IEGb rs|IFh.map VC.enc|IGg.map VC.enc|IHAz pg|IIZG h.n l' zC|IJzi C dx|IKtrk h H|ILvX .LtE|IM.refl _|INeqD n G|IOb S1 G1|IPsigns x|IQsigns z|IR.symm K|ISBx lt t|ITT.has e|IUGb rs i|IVh.dir k|IWl.map E|IXsmall c|IYI.cne x c e|IZfrs X.stack|Ia.Expr e pos|IbPr xs lo hi|Icx.tup _ _ h|Ida.push p ho|Iew v a H Q q|IhlRm X.K E f|Iins.map D.bl|Ij.int ks.sum|IkcutD xs a b|Ilv.map D.str|Imd3 v4 v6 v7|Iod3 v0 v1 v2|Iph.row ms ca|Iqtake1 a P k|Irh.c1 s.WA k|ItcellAt sc 1|IucellAt sc 4|Ivd.obj h a b|IwaH P w|Ix.inl h|IyX.f' E|IzvX .Lt|I0vX .Gt|I1vX .In|I2zZ _ i|I3vf _ _|I4zZ _ f|I5xq n 2|I6ltI xs|I7lF K F|I8top 50|I9top 49|JAh.El q|JBAa sep|JCzI s.1|JDGs h q|JE.tup Z|JFG9 A.o|JG.ref .AA|JHCm .b .An Cr|JIDj zd ze m_split .Bc .b|JJAa .AP|JKh.ZB .Ac|JLh.rows .AF ca|JMI.VF.fresh .AK|JNh.rows .AF s.WC|JOGz K .AV m|JPXA Be .BV|JQYF F k .BW|JRAb .CW An|JS.tup .Aw|JTu7 .AR|JUCq .BA|JVAb .BC An|JWXC .AO|JXdC .Ap|JYEa G h i a b .A8|JZAb g0 .Cj|JaAb g3 .Cl|Jctab .AE P|Je.ref .AV|JflN .AF|JgWI rs .Bt|JhzY .Bb I.ok.above|JiWX X .BR scope C a b e|JkAb g2 .DA|JlXA Be .Au|JmBr XM .A6|JnAb .Bd An|Jou7 .Ae|Jpa.put .Ay .Dj|Jqupd b.H D .A5|JrDj xa xf Z8 .Bc .b|Jsd'.turn h .BD|JtD' h sc c .Bz|JuZG h.n .CI d.st.2|Jvu7 .AL|JwEz P .AZ .A4|Jxd.XN.map .C7|JzAb g5 .EV|J1XA Be .A6|J2XA Dh .DC|J3tab .AE T|J4tab 5 .D5|J5VL x0 x1 x2 x3 x4 .Aq .A7|J6.ref .BE|J7Ax .AZ|J8WD T k .A4|J9y.k.trans .A3|KAsetField .D2 0 .none|KBAb g1 .Fn|KCXA Be .CC|KDoI .Ag v3|KEXA Dh .Do|KFXA Dh .EZ|KGtab .AE F|KHAb .DM An|KI.Constant .AM j pos|KJBv K .BE|KKd1 .Ag|KLdC .Ab|KMGf .Bi|KNDj wK wq ax .Bc .b|KOAa .FU|KPupd a.H p ho .Ay|KQrs.map .CY|KR.Return .Eg pos|KS.int .Cq s.toks|KTxU .Add .DS .A7|KUZG h.n .E2 s.YB|KVf .Fb .HQ|KW.YN o .AI|KXXA Dg .CC|KYtab 5 .C4|KZtab 5 .EK|Katab n .CJ|Kbtab k .BZ|Kceval .As X.env|Kdi.VF.fresh .AK|Kej.VF.fresh .AK|Kf.call .Ae args|KgqN .Bb|KhAa .Gh|KiAa .BM|Kj.ret .ER|Kl.tup .AT|KoZY v0 .IA u8|KpZC Kr v3 .AO|KqZC Fl v3 .AO|KrZC Fl v6 .AO|KsZY v1 .IA u8|Ku.fl .AD|Kv.fl .A0|KwvK tg .Cz u|Kxtab h.n .Bu|Kytab h.n .BY|KzwQ .AL|K0UU .BJ|K2d1 .EX|K5Ax .CO|K6WR .IV|K7Ax .AF|K8zT .AS|LAEu .FG|LBAb .AQ .JR|LCZE G h.n h.enc .JS yt s|LDXC .JX|LEAb .CX .JV|LFAm 2 .JZ|LGAk .JH .b|LHEg .JI|LIAb .BC .Jn|LJAm 2 .Jk|LKAm 2 .Ja|LLAb .C3 .KH|LMoE .KF c1|LNXC .KL|LO.str .JJ|LP.str .Kh|LQAb .Bd .JV|LRAb g4 .Jz|LSXA Be .KK|LTAb g2 .Ja|LUoI .KD c0|LVBh .JH|LWi.k.trans .J9|LXBv K .JO|LYtab .AE .J8|LZtab .AE .Jg|Latab .Jf .DD|LbqQ .Jh|Lcd1 .J1|LdAm 2 .LB|LeAm 2 .LE|LfAm 2 .LI|LgAb .Bd .LL|LiBr XM .Lc|LjAj .LM|LlO6 .LH|LmAm 3 .LR|LnAm 3 .LT|LoJf 1 nd .LH|LpAm 3 .Lg".splitOn "|").map λs=>((s.take 2).toString,(s.drop 2).toString)
end
end _D
local macro_rules|`(tactic|attempt_all $[|$a]*)=>let n:=a.size;if n<2 then Lean.Macro.throwUnsupported else`(tactic|attempt_all $[|$(a.drop (n/2))]*)
local macro_rules|`(tactic|attempt_all $[|$a]*)=>let n:=a.size;if n<2 then let x:=a[0]!.raw;`(tactic|first|$(⟨if x.isAtom then _D.wD x.getAtomVal else x⟩)|fail)else`(tactic|attempt_all $[|$(a.take (n/2))]*)
local macro_rules|`(tactic|lia)=>`(tactic|first|with_reducible(and_intros<;>$(⟨_D.wZa⟩))|lia (splits:=9))
local macro_rules
|`($m:declModifiers def $i:declId $s:optDeclSig $v:declVal)=>do _D.wM1 (←`($m:declModifiers def $i:declId $s:optDeclSig $v:declVal))
|`($m:declModifiers theorem $i:declId $s:declSig $v:declVal)=>do _D.wM1 (←`($m:declModifiers theorem $i:declId $s:declSig $v:declVal))
local macro_rules|`(#[$a,*])=>`(⟨$a,*⟩)
local macro_rules|`(tactic|let $p:term:=$e)=>`(tactic|obtain $(⟨_D.wY1 p⟩):rcasesPatMed:=$e)
local macro_rules|`(.$x:ident)=>match _D.wT1.lookup x.getId.toString with
 |some s=>pure (_D.wT s)
 |_=>Lean.Macro.throwUnsupported
namespace _L
open PySem PySem.Spec PyProof.Rows
def Hd(s:xL):Arguments:=match s with
 |.FunctionDef _ a _ _ _ _ _ _ _ _=>a
 |_=>{posonlyargs:=[],args:=[],vararg:=u8,kwonlyargs:=[],kw_defaults:=[],kwarg:=u8,defaults:=[]}
def Fj(s:xL):List xL:=match s with
 |.FunctionDef _ _ b _ _ _ _ _ _ _=>b
 |_=>[]
def Bc(s:xL):xH:=match s with
 |.FunctionDef _ _ _ _ _ _ sc _ _ _=>sc
 |_=>{kind:=.function,names:=[],isGenerator:=uA,isCoroutine:=uA}
end _L
namespace _D
open PySem PySem.W _L
variable{h:Heap}{C:xB}{m x q:Str}{st:xL}{mg:Str->Option xM}
def Mu:List Obj->Nat->vP
 |[],_=>[]
 |o::r,n=>match o.cls,o.data with
  |.none,.fields _=>Mu r (n+1)
  |_,.freed=>Mu r (n+1)
  |_,_=>(n,o)::Mu r (n+1)
def Rp(h:Heap):vP:=Mu h.objs.toList 0
def dOf(s:xL):DefRec:=match s with
 |Stmt.FunctionDef n a b _ _ _ s _ _ p=>#[n,a,b,s,p]
 |_=>#[Str.empty,#[[],[],u8,[],[],u8,[]],[],{kind:=.module,names:=[],isGenerator:=uA,isCoroutine:=uA,more:=[]},#[0,0,0,0]]
noncomputable abbrev v?(l:OpenLaw)(q:xG)(s:xI):Bool:=xlAt q [] s&&recOk l.row.toRowW.records s
def Ay(K:vP)(n:Str):xB:=match nsIn K vY n with
 |some .Jo=>f
 |_=>0
def gOk(K:vP)(n:Str):Bool:=match nsIn K vY n with
 |some (u7 (.ref _))=>u9
 |_=>uA
def Gz(K:vP)(C:xB)(m:Str):xB:=match findIn K .AR m with
 |some .Jo=>f
 |_=>0
def mOk(K:vP)(C:xB)(m:Str):Bool:=match findIn K .AR m with
 |some .Jo=>isFn K .Ae
 |_=>uA
def noF(K:vP)(C:xB)(m:Str):Bool:=match findIn K .AR m with
 |some u8=>u9
 |_=>uA
def zOk(K:vP)(n:Str):Bool:=match nsIn K vY n with
 |some u8=>u9
 |_=>uA
def aA(K:vP)(C:xB):Bool:=match findIn K .AR "__setattr__" with
 |some (u7 (.builtin s))=>s == "object.__setattr__"
 |_=>uA
def iOk(K:vP)(n:Str)(v:Int):Bool:=match nsIn K vY n with
 |some (u7 (.int u _))=>decide (u=v)
 |_=>uA
def sOk(K:vP)(n:Str)(v:Str):Bool:=match nsIn K vY n with
 |some (u7 (.str u _))=>decide (u=v)
 |_=>uA
def Iw(K:vP)(f:xB):Obj:=match K.lookup f with
 |some o=>o
 |none=>#[.none,u8,.plain,[].toArray]
def Bv(K:vP)(f:xB):xE:=match(Iw K f).data with
 |.func fd=>fd
 |_=>default
def rl:xM->Bool
 |.none=>u9
 |_=>uA
def rm:FuncBody->Option (List xL)
 |.stmts b=>u7 b
 |_=>u8
def Xq(K:vP)(x q:Str)(f:xB):Bool:=match K.lookup f with
 |some #[_,_,.func fd,_]=>decide (fd.name=x)&&decide (fd.qualname=q)&&(fd.globals==vY&&fd.builtins==builtinsNs&&fd.closure.isEmpty&&rl fd.defaults)&&(codeIn K fd.code q&&keepIn K .Ae)
 |_=>uA
noncomputable abbrev XT:=Arguments×Option (List xL)×xH
def Ny(K:vP)(f:xB):XT:=((Bv K f).params,rm (Bv K f).body,(Bv K f).scope)
def Nj(st:xL):XT:=(Hd st,u7 .Bs,Bc st)
def X'(K:vP)(d:xM)(v:Int):Bool:=match d with
 | .ref T=>match K.lookup T with
  | some o=>(match o.data with
   |.seq a _=>(match a.toList with
    |[.int i _]=>decide (i=v)
    |_=>uA)
   |_=>uA)
  |none=>uA
 |_=>uA
def aB(K:vP)(x q:Str)(f:xB)(v:Int):Bool:=match K.lookup f with
 |some #[_,_,.func fd,_]=>decide (fd.name=x)&&decide (fd.qualname=q)&&(fd.globals==vY&&fd.builtins==builtinsNs&&fd.closure.isEmpty&&X' K fd.defaults v)&&(codeIn K fd.code q&&keepIn K .Ae)
 |_=>uA
def strsOf:List xM->Option .HM
 |[]=>u7 []
 |.str s _::r=>(strsOf r).map (s::·)
 |_::_=>u8
def aC(K:vP)(n:Str)(vs:List Str):Bool:=match nsIn K vY n with
 | some .Jv=>(match K.lookup p with
   |some #[.type t,_,.seq VB _,_]=>t == "tuple"&&decide (strsOf VB.toList=u7 vs)&&Nat.ble VB.toList.length 1000
   |_=>uA)
 |_=>uA
def aD(K:vP)(n:Str)(WE:List (Str×Str)):Bool:=match nsIn K vY n with
 | some .Jv=>(match K.lookup p with
   |some #[.type t,_,.dict es _,_]=>t == "dict" && !(p==sysModules)&&decide (strsOf (es.toList.map (·.key))=u7 (WE.map (·.1)))&&decide (strsOf (es.toList.map (·.val))=u7 (WE.map (·.2)))
   |_=>uA)
 |_=>uA
inductive Ask where
 |fn (n:Str) (st:xL)
 |mt (c m q:Str) (st:xL)
 |cl (c:Str)
 |no (c x:Str)
 |z (n:Str)
 |gi (n:Str) (v:Int)
 |gs (n v:Str)
 |gt (n:Str) (vs:List Str)
 |gd (n:Str) (WE:List (Str×Str))
 |ck (φ:vP->Bool)
 |fd (n:Str) (st:xL) (v:Int)
def Ask.chk(K:vP):Ask->Bool
 |.fn n _=>gOk K n&&Xq K n n .BE
 |.mt c m q _=>mOk K .AV m&&Xq K m q .JO
 |.cl c=>gOk K c&&(plainGet K .AV Str.empty&&hasDictIn K .AV&&plainOver K .AV)&&(aA K .AV&&makesIn K .AV&&keepIn K .Je)
 |.no c x=>noF K .AV x
 |.z n=>zOk K n
 |.gi n v=>iOk K n v
 |.gs n v=>sOk K n v
 |.gt n vs=>aC K n vs
 |.gd n WE=>aD K n WE
 |.ck φ=>φ K
 |.fd n _ v=>gOk K n&&aB K n n .BE v
def Ask.VV(K:vP):Ask->Option XT
 |.fn n _=>u7 (Ny K .BE)
 |.mt c m _ _=>u7 (Ny K .JO)
 |.fd n _ _=>u7 (Ny K .BE)
 |_=>u8
def Ask.want:Ask->Option XT
 |.fn _ st=>u7 (Nj st)
 |.mt _ _ _ st=>u7 (Nj st)
 |.fd _ st _=>u7 (Nj st)
 |_=>u8
def Ib(l:List Ask)(h:Heap):Bool×List (Option XT):=(l.all (Ask.chk (Rp h)),l.map (Ask.VV (Rp h)))
noncomputable abbrev I7(l:List Ask):Bool×List (Option XT):=(u9,l.map Ask.want)
def W9(p:xG)(w:xN)(n₀:Nat)(ann:Option xM):Nat->SharedT->Thread->Option SharedT
 |0,_,_=>u8
 | n+1,s,t=>match through t with
  |true=>u7 s
  | false=>match PySem.W.Fast.tw6613529449190102663 n₀ ann t with
   |false=>u8
   |true=>match PySem.W.Fast.tw10156331382660048174 (PySem.W.Fast.tw11892475500146522536 PySem.W.Fast.tw14364793385576792824) p w s t with
    |some (s',t')=>W9 p w n₀ ann n s' t'
    |none=>u8
def de:List Obj->Nat->BT->BT
 |[],_,t=>t
 |o::r,n,t=>de r (n+1) (t.ins n o)
def df(w:xN)(os:OsState):SharedT:=#[de (vR w.params).objs.toList 0 .nil,(vR w.params).objs.size,(vR w.params).life,Array.mk [],boot_drawn,boot_toks,os]
def Kh(p:xG)(w:xN)(os:OsState):Option SharedT:=W9 p w (vR w.params).objs.size (PySem.W.Fast.tw8920871248978507458 .DO vY "__annotations__") 100000 (df w os) (topStub p)
def O4(p:xG)(w:xN)(s:xI):Bool:=staticsOk .Gy .DO s.heap&&namesBound p s.heap&&gensDone s&&laidKept .DO s.heap
def rq(h:PySem.W.Fast.tw9446332074065402090 l=u9):l.wellSaid=u9:=by rw[PySem.W.Fast.te9446332074065402090];exact h
def b?(w:xN)(b:Bool):xN:={w with params:={w.params with followText:=λx=>match x == "special-get-raises" with |true=>b|false=>w.params.followText x}}
def rr(w):b? w (w.params.followText "special-get-raises")=w:=by
 let#[d,p]:=w;let#[K,H,F,J,B,f,I,C,z,c,m,n,y,j,k,i,o,v,t,q,r,b,l,u,g]:=p
 have e:(λx=>match x == "special-get-raises" with |true=>f "special-get-raises"|false=>f x)=f:=by
  funext x;cases h:x == "special-get-raises" with
  |true=>rw[beq_iff_eq.mp h]
  |false=>rfl
 unfold b?;rw[e]
def sA{P:xN->Prop}(d:∀w,P (b? w u9))(c:∀w,P (b? w uA)):∀w,P w:=λw=>by
 have h:∀b,P (b? w b):=λb=>by cases b;exact c w;exact d w
 have:=h (w.params.followText "special-get-raises");rwa[rr]at this
def intsOf:List xM->Option .Cc
 |[]=>u7 []
 |.int s _::r=>(intsOf r).map (s::·)
 |_::_=>u8
def aE(n:Str)(vs:List Int)(K:vP):Bool:=match nsIn K vY n with
 | some .Jv=>(match K.lookup p with
   |some #[.type t,_,.seq VB _,_]=>t == "tuple"&&decide (intsOf VB.toList=u7 vs)&&Nat.ble VB.toList.length 1000
   |_=>uA)
 |_=>uA
def pss:xL:=.Pass #[0,0,0,0]
def clN:xL->Str×List xL
 |.ClassDef n [] _ b _ _ _ _ _ _ _=>(n,b)
 |_=>(Str.empty,[])
def mtA(n:Str)(s:xL):Ask:=match s with
 |.FunctionDef m _ _ _ _ _ _ _ _ _=>.mt n m (n++"."++m) s
 |_=>.ck λ_=>u9
def noA(n:Str):xL->Ask
 |.Assign [.Attribute _ x _] _ _=>.no n x
 |_=>.ck λ_=>u9
def askC(s:xL):List Ask:=(clN s).2.map (mtA (clN s).1)++(clN s).2.flatMap λf=>(Fj f).map (noA (clN s).1)
def Xi(s:xL):Ask:=match s with
 |.FunctionDef n a _ _ _ _ _ _ _ _=>(match a.defaults with
  |[]=>.fn n s
  |[.Constant .FZ _ _]=>.fd n s v
  |_=>.ck λ_=>u9)
 |.ClassDef n [] _ _ _ _ _ _ _ _ _=>.cl n
 |.Assign [.Name x _] (.Constant c _ _) _=>(match c with
  |.int v=>.gi x v
  |.str v=>if x == "__name__" then .ck λ_=>u9 else .gs x v
  |_=>.ck λ_=>u9)
 |_=>.ck λ_=>u9
def zAs:List Ask:=(["all","any","bool","enumerate","int","isinstance","len","list","max","min","range","set","sorted","str","sum","tuple","zip","ValueError"]:List Str).map .z
def aF(b:List xL)(ex:List Ask):List Ask:=ex++(zAs++(b.flatMap askC++b.map Xi))
noncomputable abbrev Y'(b:List xL)(i:Nat):xL:=b.getD i pss
def Rt(K:za):List xM->List .HM->Bool
 |[],[]=>u9
 | .ref q::r,ss::r'=>(match K.lookup q with
   |some #[.type t,_,.seq VB _,_]=>t == "tuple"&&decide (strsOf VB.toList=u7 ss)&&Nat.ble VB.toList.length 1000
   |_=>uA)&&Rt K r r'
 |_,_=>uA
def aG(n:Str)(WE:List (Str×List Str))(K:za):Bool:=match zb K vY n with
 | some .Jv=>(match K.lookup p with
   |some #[.type t,_,.dict es _,_]=>t == "dict" && !(p==sysModules)&&decide (strsOf (es.toList.map (·.key))=u7 (WE.map (·.1)))&&Rt K (es.toList.map (·.val)) (WE.map (·.2))
   |_=>uA)
 |_=>uA
end _D
namespace _W
open PySem PySem.W _L _D
noncomputable abbrev body:List xL:=PySem.Challenge.pw_sluiceway_k91_whole_more_water.main.body
noncomputable abbrev top(i:Nat):xL:=Y' body i
noncomputable abbrev Km:=top 173
def exs:List Ask:=[.gt "WAYS" ["river","pump"],.ck (aG "FORMS" [("show",[]),("fill",["word","number"]),("turn",["cubes"]),("books",[]),("rights",[]),("look",["word","word","word","number","floods","floods"]),("plan",["floods","floods","cubes"])]),.ck (aE "NOTHING_ON_ITS_WAY" [0,0,0,0,0])]
def asks:List Ask:=aF body exs
abbrev J':OpenLaw:=PySem.Challenge.rw_sluiceway_k91_whole_more_water
abbrev pw:xG:=OpenLaw.prog PySem.Challenge.rw_sluiceway_k91_whole_more_water
def nmS:xL->Str
 |.FunctionDef n ..=>n
 |.ClassDef n ..=>n
 |.Assign [.Name n ..] ..=>n
 |_=>""
def lo:List Str:=(pw.main.body.dropLast.map nmS).filter λn=>n≠""&&n≠"__name__"
def vw:xG:=view pw [173]
theorem map3{S α β:Type}{o:Option S}{f:S->α}{g:S->β}{F:S->Heap}{a:α}{b:β}{l:List Ask}(h:o.map (λs=>(f s,g s))=u7 (a,b))(k:o.map (λs=>Ib (l.take 230) (F s))=u7 (I7 (l.take 230)))(k':o.map (λs=>Ib (l.drop 230) (F s))=u7 (I7 (l.drop 230))):o.map (λs=>(f s,g s,Ib l (F s)))=u7 (a,b,I7 l):=by
 cases o with
 |none=>cases h
 |some s=>
  rw[jR]at*;have h:=w4 h;have k:=w4 k;have k':=w4 k';unfold Ib I7 at*;rw[Prod.mk.injEq]at h k k';rw[h.1,h.2,<-List.take_append_drop 230 l,List.all_append,jv,jv,k.1,k.2,k'.1,k'.2]
  rfl
def sD:∀w os,(Kh pw (b? w u9) os).map (λs=>(O4 pw (b? w u9) s.abs,cu vw _W.lo .CR (v? J' vw) u9 s.abs))=u7 (u9,openGood vw _W.lo):=λw os=>by kernel_rfl
def sE:∀w os,(Kh pw (b? w u9) os).map (λs=>Ib .Df s.abs.heap)=u7 (I7 .Df):=λw os=>by kernel_rfl
def sF:∀w os,(Kh pw (b? w u9) os).map (λs=>Ib .Dg s.abs.heap)=u7 (I7 .Dg):=λw os=>by kernel_rfl
def sG:∀w os,(Kh pw (b? w u9) os).map (λs=>(O4 pw (b? w u9) s.abs,cu vw _W.lo .CR (v? J' vw) u9 s.abs,Ib asks s.abs.heap))=u7 (u9,openGood vw _W.lo,I7 asks):=λw os=>by have h:=sD w os;have k:=sE w os;have j:=sF w os;generalize asks=l at*;exact map3 h k j
def sH:∀w os,(Kh pw (b? w uA) os).map (λs=>(O4 pw (b? w uA) s.abs,cu vw _W.lo .CR (v? J' vw) u9 s.abs))=u7 (u9,openGood vw _W.lo):=λw os=>by kernel_rfl
def sI:∀w os,(Kh pw (b? w uA) os).map (λs=>Ib .Df s.abs.heap)=u7 (I7 .Df):=λw os=>by kernel_rfl
def sJ:∀w os,(Kh pw (b? w uA) os).map (λs=>Ib .Dg s.abs.heap)=u7 (I7 .Dg):=λw os=>by kernel_rfl
def sM:∀w os,(Kh pw (b? w uA) os).map (λs=>(O4 pw (b? w uA) s.abs,cu vw _W.lo .CR (v? J' vw) u9 s.abs,Ib asks s.abs.heap))=u7 (u9,openGood vw _W.lo,I7 asks):=λw os=>by have h:=sH w os;have k:=sI w os;have j:=sJ w os;generalize asks=l at*;exact map3 h k j
def sO:∀w os,(Kh pw w os).map (λs=>(O4 pw w s.abs,cu vw _W.lo .CR (v? J' vw) u9 s.abs,Ib asks s.abs.heap))=u7 (u9,openGood vw _W.lo,I7 asks):=sA sG sM
def well:J'.wellSaid=u9:=rq (by unfold PySem.W.Fast.tw9446332074065402090;simp only[Bool.and_eq_true];and_intros<;>as_aux_lemma=>kernel_rfl)
def hdef:defOf vw J'.row.name=u7 (dOf Km,[]):=by kernel_rfl
def hp:J'.row.prog.theDef J'.row.name=u7 ((dOf Km).params,(dOf Km).body,(dOf Km).scope):=by kernel_rfl
def hk:kwWritten? (dOf Km).params.kwonlyargs (dOf Km).params.kw_defaults=u7 []:=by kernel_rfl
def VF:(chainsOk vw&&opensWell J'.row.prog&&(frees J'.row.toRowW&&J'.row.within.isEmpty))=u9:=by kernel_rfl
def hdf:(dOf Km).params.defaults=[]:=by kernel_rfl
def hbare:J'.row.prog.bare:=#[rfl,rfl,rfl,rfl,rfl,.f]
def hw:J'.row.toRowW.promised:=by w_witness2
end _W
local macro_rules|`($m:declModifiers abbrev $i:declId $s:optDeclSig $v:declVal)=>do _D.wM1 (←`($m:declModifiers abbrev $i:declId $s:optDeclSig $v:declVal))
namespace _L
open PySem PySem.Spec PyProof.Rows
variable{t':Nat}{s:xI}{vT:List (xB×Obj)}{tg:xD}{P:xG}
abbrev Key:=Sum Int Str
def dg:Key->xM->Bool
 |.inl k,v=>Value.isInt k v
 |.inr x,v=>Value.isStrOf x v
def keyH(w:xN):Key->Int
 |.inl k=>hashInt k
 |.inr x=>hashStr w x
theorem Kw:∀{k:Key}{v:xM},dg k v=u9->(∃i t,k=Sum.inl i/\v=Value.int i t)\/(∃x t,k=Sum.inr x/\v=Value.str x t)
 |.inl i,v,h=>by let#[t,e]:=Value.isInt_shape h;exact .inl #[i,t,rfl,e]
 |.inr x,v,h=>by let#[t,e]:=Value.isStrOf_shape h;exact .inr #[x,t,rfl,e]
def sP(a b):decide ((Sum.inl a:Key)=Sum.inl b)=(a==b):=by
 by_cases e:a=b
 .subst e;simp
 rw[decide_eq_false (λq=>e (Sum.inl.inj q))];exact(beq_eq_false_iff_ne.mpr e).symm
def sQ(a b):decide ((Sum.inr a:Key)=Sum.inr b)=decide (a=b):=by
 by_cases e:a=b
 .subst e;simp
 rw[decide_eq_false (λq=>e (Sum.inr.inj q)),decide_eq_false e]
def sR(a)(b):decide ((Sum.inl a:Key)=Sum.inr b)=uA:=decide_eq_false (nofun)
def sS(a)(b):decide ((Sum.inr a:Key)=Sum.inl b)=uA:=decide_eq_false (nofun)
def aH(prog:xG)(w:xN):PySem.KeyKind prog w Key where
 is:=dg
 hash:=keyH w
 inj:=λv a b ha hb=>by
  rcases Kw ha with⟨i,t,rfl,rfl⟩|⟨x,t,rfl,rfl⟩
  .rcases Kw hb with⟨j,u,rfl,e⟩|⟨y,u,rfl,e⟩
   .injection e with e1 _;rw[e1]
   .exact nomatch e
  .rcases Kw hb with⟨j,u,rfl,e⟩|⟨y,u,rfl,e⟩
   .exact nomatch e
   .injection e with e1 _;rw[e1]
 byValue:=λk v h=>by rcases Kw h with⟨i,t,rfl,rfl⟩|⟨x,t,rfl,rfl⟩<;>rfl
 pyHash:=λhv h=>by
  rcases Kw hv with⟨i,t,rfl,rfl⟩|⟨x,t,rfl,rfl⟩
  .exact wpAny_pyHash_int h
  .exact wpAny_pyHash_str h
 eqBool:=λhu hv h=>by
  rcases Kw hu with⟨i,t,rfl,rfl⟩|⟨x,t,rfl,rfl⟩
  .rcases Kw hv with⟨j,u,rfl,rfl⟩|⟨y,u,rfl,rfl⟩
   .rw[sP]at h;exact wpAny_eqBool_int h
   .rw[sR]at h;exact wj i t y u _ _ _ _ h
  .rcases Kw hv with⟨j,u,rfl,rfl⟩|⟨y,u,rfl,rfl⟩
   .rw[sS]at h;exact wx x t j u _ _ _ _ h
   .rw[sQ]at h;exact wpAny_eqBool_str h
 «strs»:=λk x t v h=>by
  rcases Kw h with⟨i,u,rfl,e⟩|⟨y,u,rfl,e⟩
  .exact nomatch e
  .injection e with e1 _
   subst e1
   cases v<;>rfl
inductive V where
 |WB|bl (b:Bool)|int (i:Int)|str (x:Str)|byt (b:Array UInt8)|flt (b:UInt64)|ref (a:xB)|ty (n:String)
 deriving DecidableEq
def RelV:V->xM->Prop
 |.WB,u=>u=Value.none
 |.bl b,u=>u=Value.bool b
 |.int i,u=>∃t,u=Value.int i t
 |.str x,u=>∃t,u=Value.str x t
 |.byt b,u=>∃t,u=Value.bytes b t
 |.flt b,u=>∃t,u=Value.float b t
 |.ref a,u=>u=Value.ref a
 |.ty n,u=>u=Value.type n
abbrev Vals:List V->List xM->Prop:=Paired RelV
def Vals.length{xs:List V}{us:List xM}(r:Vals xs us):xs.length=us.length:=Paired.length r
theorem Vals.get:∀{xs:List V}{us:List xM}{i:Nat}{x:V},Vals xs us->xs[i]?=u7 x->∃u,us[i]?=u7 u/\RelV x u
 |_,_,_,_,.nil,e=>by simp at e
 |_,_,0,_,.cons r _,e=>by simp at e;subst e;exact#[_,rfl,r]
 |_,_,i+1,x,.cons _ t,e=>by let#[u,j,d]:=Vals.get t (by simpa using e);exact#[u,by simpa using j,d]
theorem Vals.set(r:RelV x u):∀{xs:List V}{us:List xM}i,Vals xs us->Vals (xs.set i x) (us.set i u)
 |_,_,_,.nil=>.nil
 |_,_,0,.cons _ t=>.cons r t
 |_,_,i+1,.cons q t=>.cons q (Vals.set r i t)
theorem Vals.append:∀{xs ys:List V}{us d:List xM},Vals xs us->Vals ys d->Vals (xs++ys) (us++d)
 |_,_,_,_,.nil,s=>s
 |_,_,_,_,.cons r t,s=>.cons r (Vals.append t s)
theorem Vals.take:∀{xs:List V}{us:List xM}n,Vals xs us->Vals (xs.take n) (us.take n)
 |_,_,0,_|_,_,_+1,.nil=>.nil
 |_,_,n+1,.cons r t=>.cons r (Vals.take n t)
theorem Vals.drop:∀{xs:List V}{us:List xM}n,Vals xs us->Vals (xs.drop n) (us.drop n)
 |_,_,0,r=>r
 |_,_,_+1,.nil=>.nil
 |_,_,n+1,.cons _ t=>Vals.drop n t
def K':Option V->Option xM->Prop
 |some v,u7 u=>RelV v u
 |none,u8=>True
 |_,_=>False
def KV{κ:Type}:List (κ×V)->List (κ×xM)->Prop:=Paired λ(p:κ×V)(q:κ×xM)=>p.1=q.1/\RelV p.2 q.2
def kV:Key->V
 |.inl i=>.int i
 |.inr x=>.str x
inductive HO where
 |lst (xs:List V)
 |tup (xs:List V)
 |dK (WE:List (Key×V))|dT (WE:List (List Key×V))
 |set (S:Int->Bool) (n:Nat)
 |ins (C dx:xB) (fs:List (Str×V))
 |own (x:xB)
 |xd (fs:List (Str×V))
 |met (f x:xB)
 |rng (lo hi:Int)
 |YN (o:Obj) (u:HO)
 |tbl (ps:Array xM)
 |ext (φ:Heap->Prop)
abbrev Hp:=xB->Option HO
def upd(H:Hp)(a:xB)(o:HO):Hp:=λb=>if b=a then u7 o else H b
def Gg:upd H a o a=u7 o:=by unfold upd;rw[if_pos rfl]
def Aw(h:b≠a):upd H a o b=H b:=by unfold upd;rw[if_neg h]
def Ik{H:Hp}{a b:xB}{o:HO}(h:H a=u7 o)(h':H b=u8):a≠b:=by intro e;subst e;rw[h]at h';cases h'
section
variable(P:xG)(w:xN)
def YJ(H:Hp)(h:Heap)(a:xB):HO->Prop
 |.lst xs=>xs.length<=sizeLine/\∃(VB:List xM)(n:Nat),Vals xs VB/\h.get? a=u7 {cls:=.type "list",data:=.seq VB.toArray n}
 |.tup xs=>xs.length<=sizeLine/\∃VB:List xM,Vals xs VB/\IsTup h a VB.toArray
 |.dK WE=>WE.length<=sizeLine/\(a==sysModules)=uA/\∃vs,KV WE vs/\h.DictOf .Iw a vs
 | .dT WE=>WE.length<=sizeLine/\(a==sysModules)=uA/\∃xs:List (List Key×xB×xM),
   Paired (λ(p:List Key×V)(q:List Key×xB×xM)=>p.1=q.1/\H q.2.1=u7 (.tup (p.1.map kV))/\RelV p.2 q.2.2) WE xs/\
   ∃o es ep,h.get? a=u7 o/\o.ExactDict/\o.data=.dict es ep/\es.toList=xs.map (entryOfKey (tupleKind .Iw))/\(xs.map (·.1)).Nodup
 |.set S n=>h.SetOf (intKind P w) a S n
 | .ins C dx fs=>H dx=u7 .Gz/\fs.length<=1000/\dx≠a/\h.get? a=u7 .IJ/\
   ∃mA,h.Ns1 dx mA/\(∀f,K' .Fu (mA f))/\xg mA (fs.map (·.1))
 |.own _=>∃o,h.get? a=u7 o
 |.xd fs=>∃mA,h.Ns1 a mA/\∀f,K' .Fu (mA f)
 |.rng lo hi=>∃t u v,h.get? a=u7 {cls:=.type "range",data:=.fields [.int lo t,.int hi u,.int 1 v].toArray}
 |.YN o u=>h.get? a=u7 o/\YJ H h a u
 |.tbl ps=>h.get? a=u7 {cls:=.none,data:=.fields ps}
 |.met f x=>h.get? a=u7 (PySem.W.methodObj .Ae .Dv)
 |.ext φ=>φ h/\(∃o,h.get? a=u7 o)/\∀h1 h2:Heap,φ h1->(∀o,h1.get? a=u7 o->h2.get? a=u7 o)->φ h2
def ZV(H:Hp)(h:Heap):Prop:=∀a o,H a=u7 o->YJ P w H h a o
end
section
variable{P:xG}{w:xN}{H H':Hp}{h h':Heap}{a:xB}{o:HO}
theorem YJ.lt(x:YJ P w H h a o):a<h.objs.size:=by
 cases o with
 |lst xs=>let#[_,_,_,_,e]:=x;exact zA e
 |tup xs=>let#[_,_,_,p]:=x;exact p.lt
 |set S n=>let#[o,_,_,_,e,_]:=x;exact zA e
 |ins C dx fs=>let#[_,_,_,e,_]:=x;exact zA e
 |own y=>let#[_,e]:=x;exact zA e
 |xd fs=>let#[_,#[_,_,_,e,_],_]:=x;exact zA e
 |rng lo hi=>let#[_,_,_,e]:=x;exact zA e
 |YN ob u=>let#[e,_]:=x;exact zA e
 |tbl ps|met f y=>exact zA (x)
 |ext φ=>let#[_,#[_,e],_]:=x;exact zA e
 |_=>let#[_,_,_,_,o,_,_,e,_]:=x;exact zA e
theorem Paired.mapP{j n:Type}{F G:j->n->Prop}:∀{d:List j}{i:List n},Paired F d i->(∀a b,F a b->G a b)->Paired G d i
 |_,_,.nil,_=>.nil
 |_,_,.cons r t,f=>.cons (f _ _ r) (Paired.mapP t f)
theorem YJ.L'(x:YJ P w H h a o)(k:∀b u,(b=a\/H b=u7 .Gz)->h.get? b=u7 u->h'.get? b=u7 u)
  (ho:∀b,H b=u7 .Gz->H' b=u7 .Gz) (ht:∀b xs,H b=u7 .Aj->H' b=u7 .Aj):YJ P w H' h' a o:=by
 induction o with
 |lst xs=>let#[z,VB,n,r,e]:=x;exact#[z,VB,n,r,k _ _ (.inl rfl) e]
 |tup xs=>let#[z,VB,r,ob,e,c]:=x;exact#[z,VB,r,ob,k _ _ (.inl rfl) e,c]
 |dK WE=>let#[z,y,vs,r,ob,es,ep,e,c]:=x;exact#[z,y,vs,r,ob,es,ep,k _ _ (.inl rfl) e,c]
 |dT WE=>
  let#[z,y,xs,r,ob,es,ep,e,c]:=x;exact#[z,y,xs,Paired.mapP r λp q z=>#[z.1,ht _ _ z.2.1,z.2.2],ob,es,ep,k _ _ (.inl rfl) e,c]
 |set S n=>let#[ob,es,ep,t,e,c]:=x;exact#[ob,es,ep,t,k _ _ (.inl rfl) e,c]
 |ins C dx fs=>
  let#[d,z,ne,e,mA,#[od,es,ep,e2,c],r]:=x;exact#[ho _ d,z,ne,k _ _ (.inl rfl) e,mA,#[od,es,ep,k _ _ (.inr d) e2,c],r]
 |own y=>let#[ob,e]:=x;exact#[ob,k _ _ (.inl rfl) e]
 |xd fs=>let#[mA,#[od,es,ep,e,c],r]:=x;exact#[mA,#[od,es,ep,k _ _ (.inl rfl) e,c],r]
 |rng lo hi=>let#[t,u,v,e]:=x;exact#[t,u,v,k _ _ (.inl rfl) e]
 |YN ob u ih=>let#[e,q]:=x;exact#[k _ _ (.inl rfl) e,ih q]
 |tbl ps|met f y=>
  have e:=x;exact k a _ (.inl rfl) e
 |ext φ=>let#[p,#[o,e],st]:=x;exact#[st _ _ p λo q=>k _ _ (.inl rfl) q,#[o,k _ _ (.inl rfl) e],st]
def ZV.lt(x:ZV P w H h)(e:H a=u7 o):a<h.objs.size:=(x a o e).lt
def ZV.fresh(x:ZV P w H h)(e:h.objs.size<=a):H a=u8:=by
 rcases q:H a with _|u
 .rfl
 exact absurd (zY (x.lt q) e) .CS
def ZV.kept(x:ZV P w H h)(k:∀b u,h.get? b=u7 u->h'.get? b=u7 u):ZV P w H h':=λa o e=>
 (x a o e).L' (λb u _ q=>k b u q) (λ_ q=>q) λ_ _ q=>q
def ZV.laid(x:ZV P w H h)(k:∀b u,h.get? b=u7 u->h'.get? b=u7 u)(n:h.objs.size<=a)(d:YJ P w .Co h' a o):ZV P w .Co h':=λb u e=>by
 have j:=x.fresh n;by_cases i:b=a
 .subst i;rw[Gg]at e;cases e;exact d
 rw[Aw i]at e;exact(x b u e).L' (λc v _ q=>k c v q) (λc q=>by rw[Aw (Ik q j)];exact q) λc y q=>by rw[Aw (Ik q j)];exact q
end
def Rd(H:Hp)(a:xB)(u:HO):Prop:=H a=u7 u\/∃o,H a=u7 .Bx
def Rd.ok(r:Rd H a u)(x:ZV P w H h):YJ P w H h a u:=by
 rcases r with r|⟨o,r⟩
 .exact x a u r
 let#[_,q]:=x a _ r;exact q
def Mut:Option HO->Prop
 |some .Fa=>True
 |some (.dK _)=>True
 |some (.dT _)=>True
 |some (.set _ _)=>True
 |some (.ins _ _ _)=>True
 |some (.ext _)=>True
 |_=>False
section
variable{P:xG}{w:xN}{H:Hp}{h h':Heap}{x e:xB}{o':HO}
def ZV.write(ok:ZV P w H h)(B:Mut (H x))(N:e=x\/H e=u7 .Ef)(k:∀b u,b≠e->h.get? b=u7 u->h'.get? b=u7 u)(L:∃u,h'.get? e=u7 u)
  (J:YJ P w (upd H x o') h' x o'):ZV P w (upd H x o') h':=λb u q=>by
 have i:∀c y,H c=u7 (.own y)->c≠x:=λc y r z=>by subst z;rw[r]at B;exact B
 have j:∀c I,H c=u7 (.tup I)->c≠x:=λc I r z=>by subst z;rw[r]at B;exact B
 by_cases F:b=x
 .subst F;rw[Gg]at q;cases q;exact J
 rw[Aw F]at q;by_cases d:b=e
 .have M:H b=u7 (.own x):=by
   rcases N with z|z
   .exact absurd (d.trans z) F
   rw[d];exact z
  rw[q]at M;cases M;let#[v,O]:=L;exact#[v,d▸O]
 .refine(ok b u q).L' (λc v n r=>k c v ?_ r) (λc r=>by rw[Aw (i c b r)];exact r) λc I r=>by rw[Aw (j c I r)];exact r
  rcases n with rfl|n
  .exact d
  .rintro rfl;rcases N with z|z
   .exact i c b n z
   rw[n]at z;cases z;exact F rfl
end
structure Un (fs ex:List xB) (H H':Hp) (h h':Heap):Prop where
 keep:∀b o,h.get? b=u7 o->H b=u8->b∉fs->b∉ex->h'.get? b=u7 o
 slot:∀b o,h.get? b=u7 o->H b=u8->b∈fs->b∉ex->∃sl,h'.get? b=u7 {o with slots:=sl}
 free:∀b o,h.get? b=u7 o->H b=u8->b∉ex->H' b=u8
 there:∀b o,h.get? b=u7 o->b∉ex->∃o',h'.get? b=u7 o'
 w?:∀b xs,H b=u7 .Aj->H' b=u7 .Aj
 d?:∀b o u,H b=u7 .Bx->H' b=u7 .Bx
 x?:∀b ps,H b=u7 .Ez->∃more,H' b=u7 (.tbl (ps++more))
section
variable{fs fs' ex ex':List xB}{H H1 H2:Hp}{h h1 h2 h':Heap}{a x e:xB}{o:HO}
def Un.any(u:Un fs ex H H1 h h1)(q:h.get? b=u7 ob)(n:H b=u8)(j:b∉ex):∃y,h1.get? b=u7 {ob with slots:=y}:=by
 by_cases i:b∈fs
 .exact u.slot b ob q n i j
 exact#[ob.slots,u.keep b ob q n i j]
def Un.kept(k:∀b u,h.get? b=u7 u->h'.get? b=u7 u):Un fs ex H H h h':=
 #[λb d q _ _ _=>k b d q,λb d q _ _ _=>#[d.slots,k b d q],λ_ _ _ n _=>n,λb d q _=>#[d,k b d q],λ_ _ q=>q,λ_ _ _ q=>q,λ_ i q=>#[[].toArray,by rw[q];simp]]
def Un.refl:Un fs ex H H h h:=Un.kept λ_ _ q=>q
def Un.laid(k:∀b u,h.get? b=u7 u->h'.get? b=u7 u)(j:h.objs.size<=a)(d:H a=u8):Un fs ex H .Co h h' where
 keep:=λb u q _ _ _=>k b u q
 slot:=λb u q _ _ _=>#[u.slots,k b u q]
 free:=λb u q n _=>by rw[Aw (qQ (zY (zA q) j))];exact n
 there:=λb u q _=>#[u,k b u q]
 w?:=λb i q=>by rw[Aw (Ik q d)];exact q
 d?:=λb u i q=>by rw[Aw (Ik q d)];exact q
 x?:=λb y q=>#[[].toArray,by rw[Aw (Ik q d),q];simp]
def Un.write(i:Mut (H x))(I:e=x\/H e=u7 .Ef)(k:∀b u,b≠e->h.get? b=u7 u->h'.get? b=u7 u)(y:∃u,h'.get? e=u7 u):Un fs ex H .Gp h h':=by
 have B:∀b,H b=u8->b≠x:=λb n z=>by subst z;rw[n]at i;exact i
 have F:∀b,H b=u8->b≠e:=λb n z=>by
  subst z;rcases I with r|r
  .exact B b n r
  rw[n]at r;cases r
 have j:∀b u,H b=u7 u->¬Mut (u7 u)->b≠x:=λb u q nm z=>by subst z;rw[q]at i;exact nm i
 refine#[λb u q n _ _=>k b u (F b n) q,λb u q n _ _=>#[u.slots,k b u (F b n) q],λb u q n _=>by rw[Aw (B b n)];exact n,λb u q _=>?_,
  λb J q=>by rw[Aw (j b _ q λz=>z)];exact q,λb u J q=>by rw[Aw (j b _ q λz=>z)];exact q,λb L q=>#[[].toArray,by rw[Aw (j b _ q λz=>z),q];simp]]
 by_cases d:b=e
 .subst d;exact y
 exact#[u,k b u d q]
end
def trk(h:Heap)(H:Hp):List xB:=(zV h.objs.size).filter λa=>(H a).isSome
def M4(h:Heap)(H:Hp):Heap:=PySem.W.hideAll h .IK
def sT(h)(H):(M4 h H).objs.size=h.objs.size:=PySem.W.hideAll_size _ _
def sU(e:h.get? b=u7 o)(n:H b=u8):(M4 h H).get? b=u7 o:=
 PySem.W.hideAll_get _ e λd=>by have q:=(List.mem_filter.mp d).2;rw[n]at q;simp at q
def sV(e:(M4 h H).get? b=u7 o):h.get? b=u7 o/\H b=u8:=by
 have d:=PySem.W.of_hideAll .IK e;refine#[d,?_];rcases q:H b with _|x
 .rfl
 have z:(M4 h H).get? b=u8:=PySem.W.hideAll_none .IK (List.mem_filter.mpr #[qx.mpr (zA d),by simp[q]]);rw[z]at e;cases e
def sW(g h:Heap)(L:xB):List (xB×Obj):=(zV h.objs.size).filterMap λa=>if a=L\/(g.get? a).isSome=u9 then u8 else(h.get? a).map λo=>(a,o)
def rest(g h:Heap)(L d:xB):List (xB×Obj):=(sW g h L).filter λp=>decide (p.1≠d)
structure Mod (K:za) (mg:Str->Option xM) (base:Heap):Prop where
 kin:K.In base
 glob:base.Ns vY mg
 blt:∃mb,base.Ns builtinsNs mb/\∀x:Str,x≠"__name__"->mb x=vQ x
 nolimit:base.NoLimit
structure Cx where
 prog:xG
 w:xN
 K:za
 mg:Str->Option xM
 base:Heap
 A:xC
 N:List Str
 s₀:xI
 H₀:Hp
 env:Env
 outer:List Env
 stack:List Env
 ex:List xB
 fn:Str->Bool
 calm:Bool
 pn:List (xB×Obj)
 xe:xM->xI->Prop
def frs(l:List Env):List xB:=l.filterMap (·.frame)
abbrev Cx.fs(X:Cx):List xB:=frs X.outer
def Vis(sc:xH)(x:Str):Prop:=sc.names.lookup x=u7 .local\/sc.names.lookup x=u7 .cell\/sc.names.lookup x=u7 .free
def Loc(sc:xH)(x:Str):Prop:=sc.names.lookup x=u7 .local\/sc.names.lookup x=u7 .cell
def Look(env:Env)(h:Heap)(m:Str->Option xM)(x:Str)(u:xM):Prop:=
 (env.kindOf x=u7 .local/\m x=u7 u)\/((env.kindOf x=u7 .cell\/env.kindOf x=u7 .free)/\∃c,env.cells.lookup x=u7 c/\h.IsCell c (u7 u))
structure Cx.Ok (X:Cx):Prop where
 mod:Mod X.K X.mg X.base
 kind:X.env.scope.kind=.function
 glob:X.env.globals=vY
 blt:X.env.builtins=builtinsNs
 above:X.s₀.heap.objs.size<=X.env.locals
 inj:∀x y c,X.env.cells.lookup x=u7 c->X.env.cells.lookup y=u7 c->x=y
 has:∀x,(X.env.kindOf x=u7 .cell\/X.env.kindOf x=u7 .free)->∃c,X.env.cells.lookup x=u7 c
 cab:∀x c,X.fn x=u9->X.env.cells.lookup x=u7 c->X.s₀.heap.objs.size<=c
 hd:X.calm=u9->X.A.handled=u8
 frames:X.A.frames=u7 X.stack
 stk:X.stack=X.outer\/(X.stack=X.env::X.outer/\X.env.frame=u7 X.env.locals)
 exf:∀b∈X.ex,b≠X.env.locals/\∀x c,X.env.cells.lookup x=u7 c->c≠b
 bs:∀b o,X.base.get? b=u7 o->X.s₀.heap.get? b=u7 o/\X.H₀ b=u8
 bsz:X.base.objs.size<=X.s₀.heap.objs.size
 X?:∀b o,X.base.get? b=u7 o->b∉X.ex
 Y?:∀b∈X.ex,b∉X.fs
 YT:X.s₀.heap.FunFrames X.base X.outer
 frf:∀b∈X.fs,X.H₀ b=u8
structure Inv (X:Cx) (vT:List (xB×Obj)) (σ:List .HN) (H:Hp) (s:xI):Prop where
 ok:X.Ok
 os:s.os=X.s₀.os
 bare:AllBare s.gens
 base:Un X.fs X.ex X.H₀ H X.s₀.heap s.heap
 loc:∃m,s.heap.Ns X.env.locals m/\∀(i:Nat)(x:Str)(v:V),X.N[i]?=u7 x->σ[i]?=u7 .ED->Vis X.env.scope x->∃u,RelV v u/\Look X.env s.heap m x u
 cell:∀x c,X.env.cells.lookup x=u7 c->∃v,s.heap.IsCell c v
 free:H X.env.locals=u8
 Jj:∀x c,X.env.cells.lookup x=u7 c->H c=u8
 pin:∀p∈X.pn++vT,s.heap.get? p.1=u7 p.2/\H p.1=u8/\p.1≠X.env.locals/\p.1∉X.fs/\∀v,p.2.data≠ .cell v
 VF:ZV X.prog X.w H s.heap
 len:σ.length=X.N.length
section
variable{X:Cx}{vT:List (xB×Obj)}{σ:List .HN}{H H':Hp}{s:xI}{h':Heap}
def Cx.Ok.nofr(ok:X.Ok)(e:X.base.get? b=u7 o):b∉X.fs:=λd=>by have:=(ok.YT.mem d).1;rw[e]at this;cases this
def Inv.bs(I:Inv X vT σ H s):∀b o,X.base.get? b=u7 o->s.heap.get? b=u7 o/\H b=u8:=λb o e=>
 #[I.base.keep b o (I.ok.bs b o e).1 (I.ok.bs b o e).2 (I.ok.nofr e) (I.ok.X? b o e),I.base.free b o (I.ok.bs b o e).1 (I.ok.bs b o e).2 (I.ok.X? b o e)]
def Inv.bk(I:Inv X vT σ H s):∀b o,X.base.get? b=u7 o->s.heap.get? b=u7 o:=λb o e=>(I.bs b o e).1
def Inv.mod(I:Inv X vT σ H s):Mod X.K X.mg X.base:=I.ok.mod
def Inv.YW(I:Inv X vT σ H s):X.K.In s.heap:=I.ok.mod.kin.keeps I.bk
def Inv.lt(I:Inv X vT σ H s):X.env.locals<s.heap.objs.size:=let#[_,d,_]:=I.loc;d.lt
def Inv.sz(I:Inv X vT σ H s):X.s₀.heap.objs.size<=s.heap.objs.size:=zx I.ok.above (Nat.le_of_lt I.lt)
def Inv.nofs(I:Inv X vT σ H s){a:xB}(h:s.heap.objs.size<=a):a∉X.fs:=λd=>by let#[_,o,i,_]:=I.ok.YT.mem d;exact absurd (zY (zA i) (zx I.sz h)) .CS
def Inv.cne(I:Inv X vT σ H s):∀x c,X.env.cells.lookup x=u7 c->c≠X.env.locals:=λx c e z=>by let#[v,o,j,n]:=I.cell x c e;let#[m,#[B,q,y,d,i,_],_]:=I.loc;rw[z,d]at j;cases j;rw[i]at n;cases n
def Inv.YT(I:Inv X vT σ H s):s.heap.FunFrames X.base X.outer:=by
 have all:∀l,(∀b∈frs l,b∈X.fs)->X.s₀.heap.FunFrames X.base l->s.heap.FunFrames X.base l:=by
  intro l
  induction l with
  |nil=>intro _ _;trivial
  |cons y r q=>
   intro n B;let#[O,#[L,o,d,M,F,N],J]:=B;have i:=n L (by unfold frs;rw[qD,d];exact zW);let#[S,e]:=I.base.slot L o F (I.ok.frf L i) i λz=>I.ok.Y? L z i
   exact#[O,#[L,_,d,M,e,N],q (λb j=>n b (by unfold frs;rw[qD,d];exact zZ _ j)) J]
 exact all X.outer (λ_ j=>j) I.ok.YT
def Inv.stack(I:Inv X vT σ H s):s.heap.FunFrames X.base X.stack:=by
 rcases I.ok.stk with e|⟨e,d⟩
 .rw[e];exact I.YT
 .rw[e];let#[m,i,_]:=I.loc;exact .cons (by rw[I.ok.kind];decide) d i (Heap.get?_none_of_le (zx I.ok.bsz I.ok.above)) I.YT
def Inv.Xe(I:Inv X vT σ H s):∀b∈frs X.stack,b∈X.env.locals::X.fs:=λb d=>by
 rcases I.ok.stk with e|⟨e,i⟩
 .rw[e]at d;exact zZ _ d
 rw[e]at d;unfold frs at d;rw[qD,i]at d;exact d
def Inv.dh(I:Inv X vT σ H s):∀b∈frs X.stack,H b=u8:=λb d=>by
 rcases zj.mp (I.Xe b d)with e|d
 .rw[e];exact I.free
 let#[_,o,i,_]:=I.ok.YT.mem d;exact I.base.free b o i (I.ok.frf b d) λz=>I.ok.Y? b z d
def Inv.step{g':Array GenState}{d':Drawn}{ch:List xB}(I:Inv X vT σ H s)
  (J:∀b∈ch,(b∈X.ex\/X.s₀.heap.objs.size<=b)/\b≠X.env.locals/\(∀x c,X.env.cells.lookup x=u7 c->c≠b)/\∀p∈X.pn++vT,p.1≠b)
  (F:∀b o,b≠X.env.locals->b∉X.fs->b∉ch->s.heap.get? b=u7 o->H b=u8->h'.get? b=u7 o)
  (M:∀b o,b≠X.env.locals->b∈X.fs->b∉ch->s.heap.get? b=u7 o->H b=u8->∃sl,h'.get? b=u7 {o with slots:=sl}) (free:∀b o,b∉ch->s.heap.get? b=u7 o->H b=u8->H' b=u8)
  (B:∀b o,b∉ch->s.heap.get? b=u7 o->∃o',h'.get? b=u7 o')
  (U:∀b xs,H b=u7 .Aj->H' b=u7 .Aj) (Y:∀b o u,H b=u7 .Bx->H' b=u7 .Bx) (W:∀b ps,H b=u7 .Ez->∃more,H' b=u7 (.tbl (ps++more)))
  (ns:∀m,s.heap.Ns X.env.locals m->h'.Ns X.env.locals m) (VF:ZV X.prog X.w H' h') (hg:AllBare g'):
  Inv X vT σ H' {s with heap:=h',gens:=g',drawn:=d',toks:=t'}:=by
 have neL:∀b o,X.s₀.heap.get? b=u7 o->b≠X.env.locals:=λb o e=>qQ .Jh
 have O:∀b o,X.s₀.heap.get? b=u7 o->b∉X.ex->b∉ch:=λb o e y Z=>by
  rcases(J b Z).1 with z|z
  .exact y z
  exact absurd (zY .Bb z) .CS
 have L:∀x c,X.env.cells.lookup x=u7 c->∀v,s.heap.IsCell c v->h'.IsCell c v:=λx c e v #[o,ho,hd]=>by
  have N:c∉ch:=λz=>(J c z).2.2.1 x c e rfl
  by_cases hc:c∈X.fs
  .let#[sl,q]:=M c o .IY hc N ho .F6;exact#[_,q,hd]
  exact#[o,F c o .IY hc N ho .F6,hd]
 refine#[I.ok,I.os,hg,#[λb o e n Z y=>(F b o (neL b o e) Z .E4 (I.base.keep b o e n Z y) .DF),λb o e n Z y=>?_,λb o e n y=>?_,λb o e y=>?_,λb xs e=>U b xs (I.base.w? b xs e),λb o xs e=>Y b o xs (I.base.d? b o xs e),λb ps e=>?_],?_,λx c e=>?_,?_,λx c e=>?_,λp hp=>?_,VF,I.len]
 .let#[sl,S]:=I.base.slot b o e n Z y;let#[sl',e2]:=M b _ (neL b o e) Z .E4 S .DF;exact#[sl',e2]
 .let#[o',S]:=I.base.there b o e y;exact free b o' .E4 S .DF
 .let#[o',S]:=I.base.there b o e y;exact B b o' .E4 S
 .let#[m1,S]:=I.base.x? b ps e;let#[m2,e2]:=W b _ S;exact#[m1++m2,by rw[e2,Array.append_assoc]]
 .let#[m,hn,hl]:=I.loc;refine#[m,ns m hn,λi x v S e2 e3=>?_];let#[u,r,l]:=hl i x v S e2 e3;refine#[u,r,?_];rcases l with l|⟨k,c,e,z⟩
  .exact .inl l
  exact .inr #[k,c,e,L x c e _ z]
 .let#[v,z]:=I.cell x c e;exact#[v,L x c e v z]
 .let#[m,#[o,_,_,ho,_],_]:=I.loc;exact free _ o (λz=>(J _ z).2.1 rfl) ho I.free
 .let#[v,o,ho,hd]:=I.cell x c e;exact free c o (λz=>(J c z).2.2.1 x c e rfl) ho .F6
 let#[e,n,ne,nf,d]:=I.pin p hp;have N:p.1∉ch:=λz=>(J p.1 z).2.2.2 p hp rfl
 exact#[F p.1 p.2 ne nf N e n,free p.1 p.2 N e n,ne,nf,d]
def Inv.un(I:Inv X vT σ H s)(u:Un X.fs [] H H' s.heap h')(y:ZV X.prog X.w H' h'):Inv X vT σ H' {s with heap:=h',toks:=t'}:=by
 let#[m,#[o,N,S,F,r],_]:=id I.loc;let#[W,M]:=u.any F I.free .d;exact I.step (ch:=[]) (nofun) (λb o _ q _ e n=>u.keep b o e n q .d) (λb o _ q _ e n=>u.slot b o e n q .d) (λb o _ e n=>u.free b o e n .d) (λb o _ e=>u.there b o e .d) u.w? u.d? u.x? (λO L=>by let#[U,j,z,d,J]:=L;rw[F]at d;cases d;exact#[_,j,z,M,J]) y I.bare
def Inv.call{g':Array GenState}{d':Drawn}{ch:List xB}(I:Inv X vT σ H s)(u:Un .IZ ch H H' s.heap h')(J:ZV X.prog X.w H' h')(W:AllBare g')
  (q:∀b∈ch,(b∈X.ex\/X.s₀.heap.objs.size<=b)/\b≠X.env.locals/\(∀x c,X.env.cells.lookup x=u7 c->c≠b)/\∀p∈X.pn++vT,p.1≠b):
  Inv X vT σ H' {s with heap:=h',gens:=g',drawn:=d',toks:=t'}:=by
 let#[m,#[o,es,ep,M,r],_]:=id I.loc;let#[sl,B]:=u.any M I.free λz=>(q _ z).2.1 rfl
 exact I.step q (λb o B Y i e n=>u.keep b o e n (λz=>(zj.mp (I.Xe b z)).elim B Y) i) (λb o _ _ i e n=>u.any e n i) (λb o i e n=>u.free b o e n i) (λb o i e=>u.there b o e i) u.w? u.d? u.x? (λm' U=>by let#[Z,F,y,j,S]:=U;rw[M]at j;cases j;exact#[_,F,y,B,S]) J W
def Inv.turned{it:xB}(I:Inv X vT σ H s)(k:∀b o,b≠it->s.heap.get? b=u7 o->h'.get? b=u7 o)(W:H it=u8)(B:it≠X.env.locals)
  (L:it∈X.ex\/X.s₀.heap.objs.size<=it) (O:∀x c,X.env.cells.lookup x=u7 c->c≠it) (J:∀p∈X.pn++vT,p.1≠it):Inv X vT σ H {s with heap:=h',toks:=t'}:=by
 have j:∀b u,H b=u7 u->b≠it:=λb u e z=>by rw[z,W]at e;cases e
 refine I.step (ch:=[it]) (λb S=>?_) (λb o _ _ i e _=>k b o (λz=>i (by simp[z])) e) (λb o _ _ i e _=>#[o.slots,k b o (λz=>i (by simp[z])) e]) (λ_ _ _ _ n=>n)
  (λb o i e=>#[o,k b o (λz=>i (by simp[z])) e]) (λ_ _ e=>e) (λ_ _ _ e=>e) (λb Y e=>#[[].toArray,by rw[e];simp]) (λm M=>?_) (λb u e=>?_) I.bare
 .have e:b=it:=by simpa using S
  subst e;exact#[L,B,O,J]
 .let#[o,F,N,U,r]:=M;exact#[o,F,N,k _ o (Ne.symm B) U,r]
 refine(I.VF b u e).L' (λc v i q=>k c v ?_ q) (λ_ q=>q) λ_ _ q=>q
 rcases i with z|z
 .rw[z];exact j b u e
 exact j c _ z
def Inv.tok(I:Inv X vT σ H s)(t):Inv X vT σ H {s with toks:=t}:=I.un Un.refl I.VF
def Inv.kept(I:Inv X vT σ H s)(k:∀b u,s.heap.get? b=u7 u->h'.get? b=u7 u):Inv X vT σ H {s with heap:=h',toks:=t'}:=I.un (Un.kept k) (I.VF.kept k)
def Inv.laid{a:xB}{o:HO}(I:Inv X vT σ H s)(k:∀b u,s.heap.get? b=u7 u->h'.get? b=u7 u)(j:s.heap.objs.size<=a)(i:YJ X.prog X.w .Co h' a o):
  Inv X vT σ .Co {s with heap:=h',toks:=t'}:=I.un (Un.laid k j (I.VF.fresh j)) (I.VF.laid k j i)
def Inv.write(I:Inv X vT σ H s)(y:Mut (H x))(q:e=x\/H e=u7 .Ef)(k:∀b u,b≠e->s.heap.get? b=u7 u->h'.get? b=u7 u)(i:∃u,h'.get? e=u7 u)
  (j:YJ X.prog X.w .Gp h' x o):Inv X vT σ .Gp {s with heap:=h',toks:=t'}:=I.un (Un.write y q k i) (I.VF.write y q k i j)
def Inv.Lr(I:Inv X vT σ H s)(h:∀p∈pins',s.heap.get? p.1=u7 p.2/\H p.1=u8/\p.1≠X.env.locals/\p.1∉X.fs/\∀v,p.2.data≠ .cell v):Inv X pins' σ H s:=
 #[I.ok,I.os,I.bare,I.base,I.loc,I.cell,I.free,I.Jj,λp d=>(qW.mp d).elim (λz=>I.pin p (jD _ z)) (h p),I.VF,I.len]
def di{N:List Str}(d:N.Nodup){i j:Nat}{x:Str}(a:N[i]?=u7 x)(b:N[j]?=u7 x):i=j:=by let#[y,n]:=z9.mp a;let#[z,q]:=z9.mp b;exact(List.getElem_inj d).mp (n.trans q.symm)
def dj{M:Model}{A:xC}{E:xM->xI->Prop}{i:Nat}{x:Str}{v:V}{u:xM}{Q:Unit->xI->Prop}(I:Inv X vT σ H s)(hN:X.N.Nodup)(hi:X.N[i]?=u7 x)(O:Loc X.env.scope x)(r:RelV v u)
  (h:∀s',Inv X vT (σ.set i .ED) H s'->(∃a,qR a s.heap s'.heap/\(a=X.env.locals\/X.env.cells.lookup x=u7 a))->Q () s') (hf:X.fn x=u9\/X.env.scope.names.lookup x=u7 .local:=by rfl'):vA M A .FH Q E s:=by
 let#[m,hn,hl]:=id I.loc;have hcls:(X.env.scope.kind == .class||(X.env.scope.kind == .module&&X.env.locals != X.env.globals))=uA:=by rw[I.ok.kind];rfl
 have W:i<σ.length:=by rw[I.len];exact(z9.mp hi).1
 have cne:=I.cne;have F:∀{a:xB}{h':Heap},(∃o,s.heap.get? a=u7 o/\H a=u8)->qR a s.heap h'->ZV X.prog X.w H h':=λ{a h'}ha B b ob e=>by
  let#[_,_,S]:=ha;refine(I.VF b ob e).L' (λc w' L q=>(B.2 c ?_).trans q) (λ_ q=>q) λ_ _ q=>q
  rintro rfl;rcases L with rfl|L
  .rw[S]at e;cases e
  rw[S]at L;cases L
 rcases O with Y|Y
 .refine wpAny_storeName_local Y hn (λh' hn' B=>?_) hcls;let#[oL,_,_,hoL,_]:=id hn;refine h _ #[I.ok,I.os,I.bare,#[λb o e n hb O=>?_,λb o e n hb O=>?_,I.base.free,λb o e O=>?_,I.base.w?,I.base.d?,I.base.x?],#[_,hn',λj y v' J U e3=>?_],λy c e=>?_,I.free,I.Jj,λp hp=>?_,F #[oL,hoL,I.free] B,by simpa using I.len] #[_,B,.inl rfl]
  .exact(B.2 b .Lb).trans .EM
  .let#[sl,J]:=I.base.slot b o e n hb O;exact#[sl,(B.2 b .Lb).trans J]
  .let#[o',J]:=I.base.there b o e O;exact#[o',(B.2 b .Lb).trans J]
  .by_cases Z:j=i
   .subst Z;rw[hi]at J;cases J;rw[q0 W]at U;cases U;exact#[u,r,.inl #[Y,.d]]
   rw[zP (Ne.symm Z)]at U;let#[u',r',q]:=hl j y v' J U e3;refine#[u',r',?_];rcases q with⟨k,e⟩|⟨k,c,e,z⟩
   .refine .inl #[k,?_];have:y≠x:=λe=>Z (di hN J (e▸hi))
    simp[this,e]
   exact .inr #[k,c,e,z.sameBut B (cne y c e)]
  .let#[w',z]:=I.cell y c e;exact#[w',z.sameBut B (cne y c e)]
  let#[e,n,ne,nf,d]:=I.pin p hp;exact#[(B.2 p.1 ne).trans e,n,ne,nf,d]
 have hfn:X.fn x=u9:=by
  rcases hf with z|z
  .exact z
  rw[z]at Y;cases Y
 let#[c,L]:=I.ok.has x (.inl Y);let#[w',z]:=I.cell x c L;refine wpAny_storeName_cell I.ok.kind Y L z (λh' hc' B=>?_);let#[oc,hoc,hocd]:=id z;refine h {s with heap:=h'} #[I.ok,I.os,I.bare,#[λb o e n hb O=>?_,λb o e n hb O=>?_,I.base.free,λb o e O=>?_,I.base.w?,I.base.d?,I.base.x?],#[m,hn.sameBut B (Ne.symm (cne x c L)),λj y v' J U e3=>?_],λy c' e=>?_,I.free,I.Jj,λp hp=>?_,F #[oc,hoc,I.Jj x c L] B,by simpa using I.len] #[c,B,.inr L]
 .exact(B.2 b (qQ (zY .Bb (I.ok.cab x c hfn L)))).trans .EM
 .let#[sl,J]:=I.base.slot b o e n hb O;exact#[sl,(B.2 b (qQ (zY .Bb (I.ok.cab x c hfn L)))).trans J]
 .let#[o',J]:=I.base.there b o e O;exact#[o',(B.2 b (qQ (zY .Bb (I.ok.cab x c hfn L)))).trans J]
 .by_cases Z:j=i
  .subst Z;rw[hi]at J;cases J;rw[q0 W]at U;cases U;exact#[u,r,.inr #[.inl Y,c,L,hc']]
  .rw[zP (Ne.symm Z)]at U;let#[u',r',q]:=hl j y v' J U e3;refine#[u',r',?_];rcases q with q|⟨k,c',e,z'⟩
   .exact .inl q
   .refine .inr #[k,c',e,z'.sameBut B ?_];rintro rfl;exact Z (di hN J (I.ok.inj _ _ _ e L▸hi))
 .by_cases hcc:c'=c
  .subst hcc;exact#[_,hc']
  .let#[w2,z2]:=I.cell y c' e;exact#[w2,z2.sameBut B hcc]
 .let#[e,n,ne,nf,d]:=I.pin p hp;refine#[(B.2 p.1 ?_).trans e,n,ne,nf,d];intro q;rw[q,hoc]at e;exact d w' (by rw[<-.HO];exact hocd)
def aI(I:Inv X vT σ H s)(n:X.N.Nodup)(j:X.N[i]?=u7 x)(d:Loc X.env.scope x)(r:RelV v u)
  (h:∀s',Inv X vT (σ.set i .ED) H s'->Q () s') (q:X.fn x=u9\/X.env.scope.names.lookup x=u7 .local:=by rfl'):vA M A .FH Q E s:=
 dj I n j d r (λs' y _=>h s' y) q
def Inv.call'(I:Inv X vT σ H s)(ho:s'.os=s.os)(u:Un .IZ ch H H' s.heap s'.heap)(i:ZV X.prog X.w H' s'.heap)(j:AllBare s'.gens)
  (d:∀b∈ch,(b∈X.ex\/X.s₀.heap.objs.size<=b)/\b≠X.env.locals/\(∀x c,X.env.cells.lookup x=u7 c->c≠b)/\∀p∈X.pn++vT,p.1≠b):Inv X vT σ H' s':=by
 let#[z,B,q,y,n]:=s';have e:=ho;subst e;exact I.call u i j d
end
abbrev XK:=xM->Option xB->Hp->Prop
abbrev St:=List .HN
abbrev VK:=V->Hp->Prop
abbrev TE:=St->Hp->VK->Prop
abbrev TT:=St->Hp->(Bool->Hp->Prop)->Prop
abbrev TA:=St->Hp->(List V->Hp->Prop)->Prop
structure Ends where
 nx:St->Hp->Prop
 rt:VK
 bk:St->Hp->Prop:=λ_ _=>False
 ct:St->Hp->Prop:=λ_ _=>False
abbrev TS:=Ends->St->Hp->Prop
inductive EP (X:Cx) (vT:List (xB×Obj)) (σ:St) (Q:VK) (u:xM) (s':xI):Prop|mk (v:V) (H':Hp) (I:Inv X vT σ H' s') (r:RelV v u) (q:Q v H'):EP X vT σ Q u s'
inductive TP (X:Cx) (vT:List (xB×Obj)) (σ:St) (Q:Bool->Hp->Prop) (b:Bool) (s':xI):Prop|mk (H':Hp) (I:Inv X vT σ H' s') (q:Q b H'):TP X vT σ Q b s'
inductive AP (X:Cx) (vT:List (xB×Obj)) (σ:St) (Q:List V->Hp->Prop) (us:List xM) (s':xI):Prop|mk (vs:List V) (H':Hp) (I:Inv X vT σ H' s') (r:Vals vs us) (q:Q vs H'):AP X vT σ Q us s' inductive NP (X:Cx) (vT:List (xB×Obj)) (Q:St->Hp->Prop) (s':xI):Prop|mk (σ':St) (H':Hp) (I:Inv X vT σ' H' s') (q:Q σ' H'):NP X vT Q s' inductive RP (X:Cx) (vT:List (xB×Obj)) (Q:VK) (u:xM) (s':xI):Prop|mk (v:V) (σ':St) (H':Hp) (I:Inv X vT σ' H' s') (r:RelV v u) (q:Q v H'):RP X vT Q u s'
def SP(X:Cx)(vT:List (xB×Obj))(D:Ends)(f:Flow)(s':xI):Prop:=
 match f with
 |.next=>NP X vT D.nx s'
 |.brk=>NP X vT D.bk s'
 |.cont=>NP X vT D.ct s'
 |.ret u=>RP X vT D.rt u s'
def PE(X:Cx)(e:xD)(t:TE):Prop:=
 ∀(vT:List (xB×Obj))(s:xI)(σ:St)(H:Hp)(Q:VK),Inv X vT σ H s->t σ H Q->vA .AB X.A .C8 (EP X vT σ Q) X.xe s
def PT(X:Cx)(e:xD)(t:TT):Prop:=
 ∀(vT:List (xB×Obj))(s:xI)(σ:St)(H:Hp)(Q:Bool->Hp->Prop),Inv X vT σ H s->t σ H Q->vA .AB X.A (isTrue e X.env .C8) (TP X vT σ Q) X.xe s
def PW(X:Cx)(e:xD)(t:TT):Prop:=
 ∀(whole:Sem xM)(vT:List (xB×Obj))(s:xI)(σ:St)(H:Hp)(Q:Bool->Hp->Prop),Inv X vT σ H s->t σ H Q->vA .AB X.A (isTrue e X.env whole) (TP X vT σ Q) X.xe s
def PW.pt(h:PW X e t):PT X e t:=h _
def PA(X:Cx)(es:List xD)(t:TA):Prop:=
 ∀(pos:Pos)(vT:List (xB×Obj))(s:xI)(σ:St)(H:Hp)(Q:List V->Hp->Prop),Inv X vT σ H s->t σ H Q->vA .AB X.A (spliced (xR pos .BH)) (AP X vT σ Q) X.xe s
def PS(X:Cx)(st:xL)(t:TS):Prop:=
 ∀(vT:List (xB×Obj))(s:xI)(σ:St)(H:Hp)(D:Ends),Inv X vT σ H s->t D σ H->vA .AB X.A (exec st X.env) (SP X vT D) X.xe s
def e?(X:Cx)(st:List xL)(t:TS):Prop:=
 ∀(vT:List (xB×Obj))(s:xI)(σ:St)(H:Hp)(D:Ends),Inv X vT σ H s->t D σ H->vA .AB X.A (execs st X.env) (SP X vT D) X.xe s
def ZD{d:Type}{t:Sem d}{Q i:d->xI->Prop}{M:Model}{A:xC}{E:xM->xI->Prop}(h:vA M A t Q E s)(j:∀a s,Q a s->i a s):vA M A t i E s:=vH h j λ_ _ x=>x
section
variable{X:Cx}
def tVar(i:Nat):TE:=λσ H Q=>∃v,σ[i]?=u7 .ED/\Q v H
def tC(v:V):TE:=λ_ H Q=>Q v H
def sX{i:Nat}{x:Str}{pos:Pos}(L:X.N[i]?=u7 x)(O:Vis X.env.scope x)(z:(x==("__debug__":Str))=uA:=by decide)(y:(x==("__classdict__":Str))=uA:=by decide):PE X .As (tVar i):=by
 intro q s F H Q I h;let#[v,e,h]:=h;let#[m,S,M]:=I.loc;let#[u,r,l]:=M i x v L e O;have j:EP X q F Q u s:=#[v,H,I,r,h];rcases l with⟨n,J⟩|⟨n,c,B,d⟩
 .exact wpAny_Name (wpAny_loadName_local I.ok.kind n S J j) z
 rcases n with n|n
 .exact wpAny_Name (wpAny_loadName_cell I.ok.kind n B d j) z
 exact wpAny_Name (wpAny_loadName_free I.ok.kind n B d j y) z
def sY{i j pos}:PE X .KI (tC .AM):=λ_ _ _ H _ I h=>wpAny_Constant_int #[.int i,H,I.tok _,#[_,rfl],h]
def sZ{b j pos}:PE X (.Constant (.bool b) j pos) (tC .Dw):=λ_ _ _ H _ I h=>Constant_bool #[.bl b,H,I,rfl,h]
def s8{j pos}:PE X .Ex (tC .WB):=λ_ _ _ H _ I h=>Constant_none #[.WB,H,I,rfl,h]
def s9{x j pos}:PE X (.Constant .Af j pos) (tC .Af):=λ_ _ _ H _ I h=>Calls.Constant_str #[.str x,H,I.tok _,#[_,rfl],h]
def Gl(X:Cx)(x:Str):Prop:=X.env.kindOf x=u7 .globalImplicit
def Wi{E:xM->xI->Prop}{i:St}{H:Hp}{x:Str}{u:xM}{pos:Pos}{Q:xM->xI->Prop}(I:Inv X vT i H s)(d:Gl X x)(n:X.mg x=u7 u)(h:Q u s)
  (j:(x==("__debug__":Str))=uA:=by decide):vA .AB X.A .Kc Q E s:=
 Calls.Name_function_global I.ok.kind d (Calls.loadGlobal_global (I.ok.glob▸I.mod.glob.keeps I.bk) n h) j
def Jm{E:xM->xI->Prop}{i:St}{H:Hp}{x:Str}{u:xM}{pos:Pos}{Q:xM->xI->Prop}(I:Inv X vT i H s)(n:Gl X x)(j:X.mg x=u8)(q:vQ x=u7 u)(h:Q u s)
  (z:x≠"__name__":=by decide) (B:(x==("__debug__":Str))=uA:=by decide):vA .AB X.A .Kc Q E s:=by
 let#[F,d,y]:=I.mod.blt;exact Calls.Name_function_global I.ok.kind n (Calls.loadGlobal_builtin (I.ok.glob▸I.mod.glob.keeps I.bk) j (I.ok.blt▸d.keeps I.bk) ((y x z).trans q) h) B
def aJ(d:Gl X x)(j:X.mg x=u7 u)(r:RelV v u)(i:(x==("__debug__":Str))=uA:=by decide):PE X .As (tC v):=
 λ_ _ _ H _ I h=>Wi I d j #[v,H,I,r,h] i
def sd{x:Str}{v:V}{u:xM}{pos:Pos}(i:Gl X x)(d:X.mg x=u8)(j:vQ x=u7 u)(r:RelV v u)(n:x≠"__name__":=by decide)(q:(x==("__debug__":Str))=uA:=by decide):PE X .As (tC v):=
 λ_ _ _ H _ I h=>Jm I i d j #[v,H,I,r,h] n q
variable{a b:xD}{ta tb:TE}{pos:Pos}
def tB(t:TE):TT:=λσ H Q=>t σ H λx H1=>∃c,x=.bl c/\Q c H1
def se{e:xD}{t:TE}(h:PE X e t)(y:∀i,isTrue e X.env i=(do let v<-i;standAt e.pos;holding [v] (truthy v)):=by rfl'):PT X e (tB t):=by intro j s n H Q I F;refine isTrue_plain (ZD (h j s n H _ I F) λv M #[x,B,L,z,J]=>?_) (y _);let#[d,rfl,q]:=J;cases z;exact vO #[B,L,q]
variable{tA tB':TT}{rest:List xD}
def tAnd(t u:TT):TT:=λσ H Q=>t σ H λc H1=>if c=u9 then u σ H1 Q else Q uA H1
def tOr(t u:TT):TT:=λσ H Q=>t σ H λc H1=>if c=u9 then Q u9 H1 else u σ H1 Q
def tNot(t:TT):TT:=λσ H Q=>t σ H λc H1=>Q (!c) H1
theorem pw_and1(j:PT X a tA):PW X (.BoolOp .And [a] pos) tA:=by
 intro n d s i H Q I h;refine isTrue_and (ZD (j d s i H Q I h) λc q e=>?_);cases c with
 |true=>exact isTrue_and_nil e
 |false=>exact e
def pw_or1(j:PT X a tA):PW X (.BoolOp .Or [a] pos) tA:=by
 intro n d s i H Q I h;refine isTrue_or (ZD (j d s i H Q I h) λc q e=>?_);rcases c with _|_
 .exact isTrue_or_nil e
 exact e
theorem pw_and(F:PT X a tA)(B:PW X (.BoolOp .And (b::rest) pos) tB'):PW X (.BoolOp .And (a::b::rest) pos) (tAnd tA tB'):=by
 intro y d s i H Q I h;refine isTrue_and (ZD (F d s i H _ I h) λc z #[j,q,n]=>?_);cases c with
 |true=>exact B y d z i j Q q n
 |false=>exact#[j,q,n]
theorem pw_or(F:PT X a tA)(B:PW X (.BoolOp .Or (b::rest) pos) tB'):PW X (.BoolOp .Or (a::b::rest) pos) (tOr tA tB'):=by
 intro y d s i H Q I h;refine isTrue_or (ZD (F d s i H _ I h) λc z #[j,q,n]=>?_);cases c with
 |true=>exact#[j,q,n]
 |false=>exact B y d z i j Q q n
def sf(i:PT X a tA):PT X .CU (tNot tA):=by intro d s j H Q I h;exact isTrue_not (ZD (i d s j H (λc n=>Q (!c) n) I h) λ_ _ #[a,b,c]=>#[a,b,c])
def si(ta tb:TE):TE:=λσ H Q=>ta σ H λx H1=>∃c,x=.bl c/\if c=u9 then tb σ H1 Q else Q .Ap H1
def tOrV(ta tb:TE):TE:=λσ H Q=>ta σ H λx H1=>∃c,x=.bl c/\if c=u9 then Q .Ab H1 else tb σ H1 Q
def sj(ta:TE):TE:=λσ H Q=>ta σ H λx H1=>∃c,x=.bl c/\Q (.bl (!c)) H1
def sk{op}(h:PE X a t):PE X (.BoolOp op [a] pos) t:=λd s j H Q I i=>BoolOp_one (h d s j H Q I i)
theorem so(J:PE X a ta)(F:PE X (.BoolOp .And (b::rest) pos) tb):PE X (.BoolOp .And (a::b::rest) pos) (si ta tb):=by
 intro d s j H Q I h;refine BoolOp_and (ZD (J d s j H _ I h) λv z y=>?_);let#[x,n,q,B,i]:=y;let#[c,rfl,i]:=i;cases B;refine vO ?_;cases c with
 |true=>exact F d z j n Q q i
 |false=>exact#[.bl uA,n,q,rfl,i]
def su(J:PE X a ta)(F:PE X (.BoolOp .Or (b::rest) pos) tb):PE X (.BoolOp .Or (a::b::rest) pos) (tOrV ta tb):=by
 intro d s j H Q I h;refine BoolOp_or (ZD (J d s j H _ I h) λv z y=>?_);let#[x,n,q,B,i]:=y;let#[c,rfl,i]:=i;cases B;refine vO ?_;rcases c with _|_
 .exact F d z j n Q q i
 exact#[.bl u9,n,q,rfl,i]
def sv(z:PE X a ta):PE X .CU (sj ta):=by intro d s n H Q I h;refine UnaryOp_ (ZD (z d s n H _ I h) λv F j=>?_);let#[x,y,B,q,i]:=j;let#[c,rfl,i]:=i;cases q;exact not_of (vO #[.bl (!c),y,B,rfl,i])
def tIf(t:TT)(ta tb:TE):TE:=λσ H Q=>t σ H λc H1=>if c=u9 then ta σ H1 Q else tb σ H1 Q
theorem sx{c:xD}(F:PT X c tA)(L:PE X a ta)(J:PE X b tb):PE X .F7 (tIf tA ta tb):=by
 intro i s j H Q I h;refine wpAny_IfExp (ZD (F i s j H _ I h) λd n B=>?_);let#[q,z,y]:=B;cases d with
 |true=>exact L i n j q Q z y
 |false=>exact J i n j q Q z y
end
def WQ(K:za)(H:Hp)(a:xB)(xs:List V):Prop:=
 Rd H a .AI\/
  ∃(o:Obj)(VB:Array xM)(n:Nat),K.lookup a=u7 o/\o.cls=.type "list"/\o.dict=u8/\o.data=.seq VB n/\VB.size<=sizeLine/\Vals xs VB.toList
def YO(K:za)(H:Hp)(a:xB)(xs:List V):Prop:=
 Rd H a .Aj\/
  ∃(o:Obj)(VB:Array xM)(n:Nat),K.lookup a=u7 o/\o.cls=.type "tuple"/\o.data=.seq VB n/\VB.size<=sizeLine/\Vals xs VB.toList
def absV:xM->Option V
 |.none=>u7 .WB
 |.bool b=>u7 .Dw
 |.int i _=>u7 .AM
 |.str x _=>u7 .Af
 |.bytes b _=>u7 (.byt b)
 |.float b _=>u7 (.flt b)
 |.ref a=>u7 .Aq
 |.type n=>u7 (.ty n)
 |_=>u8
theorem RelV.abs(r:RelV x u):absV u=u7 x:=by
 cases x with
 |WB|bl _=>cases r;rfl
 |ref _|ty _=>cases r;rfl
 |_=>let#[t,rfl]:=r;rfl
def RelV.inj(r:RelV x u)(q:RelV y u):x=y:=w4 (r.abs.symm.trans q.abs)
theorem Vals.inj:∀{xs ys:List V}{us:List xM},Vals xs us->Vals ys us->xs=ys
 |_,_,_,.nil,.nil=>rfl
 |_,_,_,.cons r t,.cons d i=>by rw[r.inj d,Vals.inj t i]
section
variable{X:Cx}{vT:List (xB×Obj)}{σ:St}{H:Hp}{s:xI}{a:xB}{xs ys:List V}
def WQ.of{K:za}(h:H a=u7 .AI):WQ K H a xs:=.inl .Ix
def YO.of{K:za}(h:H a=u7 .Aj):YO K H a xs:=.inl .Ix
def Inv.list(I:Inv X vT σ H s)(h:WQ X.K H a xs):∃VB,Vals xs VB/\PlainL s.heap a VB.toArray/\xs.length<=sizeLine:=by
 rcases h with h|⟨o,VB,n,q,i,j,d,y,r⟩
 .let#[z,VB,n,r,e]:=h.ok I.VF;exact#[VB,r,#[_,n,e,rfl,rfl,rfl],z]
 refine#[VB.toList,r,#[o,n,I.YW a o q,i,j,by simpa using d],?_];have e:=r.length;simp at e;lia
def Inv.tuple(I:Inv X vT σ H s)(h:YO X.K H a xs):∃VB,Vals xs VB/\IsTup s.heap a VB.toArray/\xs.length<=sizeLine:=by
 rcases h with h|⟨o,VB,n,j,i,d,q,r⟩
 .let#[z,VB,r,p]:=h.ok I.VF;exact#[VB,r,p,z]
 refine#[VB.toList,r,#[o,I.YW a o j,i,n,by simpa using d],?_];have e:=r.length;simp at e;lia
def Inv.Zw(I:Inv X vT σ H s)(h:WQ X.K H a xs)(h':WQ X.K H a ys):xs=ys:=by
 let#[j,r,#[o,n,e,_,_,d],_]:=I.list h;let#[i,z,#[J,F,y,_,_,q],_]:=I.list h';rw[e]at y;cases y;rw[d]at q;injection q with B _
 have:j=i:=by simpa using congrArg Array.toList B
 subst this;exact r.inj z
def Inv.Zg(I:Inv X vT σ H s)(h:YO X.K H a xs)(h':YO X.K H a ys):xs=ys:=by
 let#[j,r,#[o,e,_,n,d],_]:=I.tuple h;let#[i,z,#[J,y,_,F,q],_]:=I.tuple h';rw[e]at y;cases y;rw[d]at q;injection q with B _
 have:j=i:=by simpa using congrArg Array.toList B
 subst this;exact r.inj z
end
abbrev Cx.f'(X:Cx)(E:xM->xI->Prop):Cx:={X with xe:=E}
abbrev Cx.nox(X:Cx):Cx:=X.f' λ_ _=>False
def Cx.Ok.f'{X:Cx}(ok:X.Ok)(E):(X.f' E).Ok:=
 #[ok.mod,ok.kind,ok.glob,ok.blt,ok.above,ok.inj,ok.has,ok.cab,ok.hd,ok.frames,ok.stk,ok.exf,ok.bs,ok.bsz,ok.X?,ok.Y?,ok.YT,ok.frf]
def Cx.Ok.ZT{X:Cx}{E:xM->xI->Prop}(ok:(X.f' E).Ok):X.Ok:=
 #[ok.mod,ok.kind,ok.glob,ok.blt,ok.above,ok.inj,ok.has,ok.cab,ok.hd,ok.frames,ok.stk,ok.exf,ok.bs,ok.bsz,ok.X?,ok.Y?,ok.YT,ok.frf]
section
variable{X:Cx}{vT:List (xB×Obj)}{σ:St}{H:Hp}{s:xI}{E:xM->xI->Prop}
def Inv.f'(I:Inv X vT σ H s)(E):Inv .Iy vT σ H s:=#[I.ok.f' E,I.os,I.bare,I.base,I.loc,I.cell,I.free,I.Jj,I.pin,I.VF,I.len]
def Inv.ZT(I:Inv .Iy vT σ H s):Inv X vT σ H s:=#[I.ok.ZT,I.os,I.bare,I.base,I.loc,I.cell,I.free,I.Jj,I.pin,I.VF,I.len]
theorem SP.ZT(h:SP .Iy vT D f s'):SP X vT D f s':=by
 cases f with
 |ret u=>let#[v,d,i,I,r,q]:=h;exact#[v,d,i,I.ZT,r,q]
 |_=>let#[d,i,I,q]:=h;exact#[d,i,I.ZT,q]
def e?.nox{st:List xL}{t:TS}(h:e? X.nox st t):e? X st t:=λd s j H D I i=>
 vH (h d s j H D (I.f' _) i) (λ_ _ q=>q.ZT) λ_ _ z=>False.elim z
end
section
variable{X:Cx}{st:xL}{rest:List xL}{t u:TS}{e:xD}{te:TE}{pos:Pos}
def sy:TS:=λD σ H=>D.nx σ H
def tSeq(t u:TS):TS:=λD σ H=>t {D with nx:=u D} σ H
def tD:e? X [] sy:=λ_ _ d H _ I h=>wpAny_execs_nil #[d,H,I,h]
theorem tE(j:PS X st t)(B:e? X rest u):e? X (st::rest) (tSeq t u):=by
 intro d s n H D I h;refine wpAny_execs_cons (ZD (j d s n H {D with nx:=u D} I h) λf z q=>?_);cases f with
 |next=>
  let#[i,y,F,q]:=q;exact B d z i y D F q
 |_=>exact q
theorem tF(i:PS X st t):e? X [st] t:=by
 intro d s j H D I h;refine wpAny_execs_cons (ZD (i d s j H D I h) λf n q=>?_);cases f with
 |next=>exact wpAny_execs_nil q
 |_=>exact q
def Inv.quiet{d:St}{H:Hp}(I:Inv X vT d H s):interactive X.env=uA:=by simp[interactive,I.ok.kind]
def tG(te:TE):TS:=λD σ H=>te σ H λ_ H1=>D.nx σ H1
def tH(q:PE X e te)(j:swapsWith e u8 pos.line X.env=pure uA:=by rfl):PS X .Ia (tG te):=by intro d s i H D I h;exact wpAny_Expr_any (ZD (q d s i H _ I h) λv B #[x,n,z,F,y]=>#[i,n,z,y]) I.quiet j
def tRet(te:TE):TS:=λD σ H=>te σ H D.rt
def tI(q:PE X e te):PS X .KR (tRet te):=by intro d s i H D I h;exact wpAny_Return_some (ZD (q d s i H _ I h) λv B #[x,j,z,n,y]=>#[x,i,j,z,n,y])
def tIfS(c:TT)(t u:TS):TS:=λD σ H=>c σ H λb H1=>if b=u9 then t D σ H1 else u D σ H1
theorem tJ{c:xD}{a b:List xL}{n:TT}(J:PT X c n)(M:e? X a t)(L:e? X b u):PS X .HP (tIfS n t u):=by
 intro i s j H D I h;refine wpAny_If (ZD (J i s j H _ I h) λd q F=>?_);let#[y,B,z]:=F;cases d with
 |true=>exact M i q j y D B z
 |false=>exact L i q j y D B z
end
abbrev TG:=V->St->Hp->(St->Hp->Prop)->Prop
abbrev TGs:=List V->St->Hp->(St->Hp->Prop)->Prop
def PG(X:Cx)(target:xD)(t:TG):Prop:=
 ∀(vT:List (xB×Obj))(s:xI)(σ:St)(H:Hp)(v:V)(u:xM)(Q:St->Hp->Prop),Inv X vT σ H s->RelV v u->t v σ H Q->
  vA .AB X.A (assign target X.env u) (λ_=>NP X vT Q) X.xe s
def PGs(X:Cx)(ts:List xD)(t:TGs):Prop:=
 ∀(vT:List (xB×Obj))(s:xI)(σ:St)(H:Hp)(vs:List V)(us:List xM)(Q:St->Hp->Prop),Inv X vT σ H s->Vals vs us->t vs σ H Q->
  vA .AB X.A (assignInOrder ((xO ts X.env).map (·.2)) us) (λ_=>NP X vT Q) X.xe s
abbrev TSet:=V->V->V->Hp->(Hp->Prop)->Prop
def PSet(X:Cx)(t:TSet):Prop:=
 ∀(vT:List (xB×Obj))(s:xI)(σ:St)(H:Hp)(o i v:V)(ov iv u:xM)(Q:Hp->Prop),Inv X vT σ H s->RelV o ov->RelV i iv->RelV v u->t o i v H Q->
  vA .AB X.A (setItem ov iv u) (λ_ s'=>∃H',Inv X vT σ H' s'/\Q H') X.xe s
abbrev TIp:=V->V->Hp->VK->Prop
def PIp(X:Cx)(op:Operator)(t:TIp):Prop:=
 ∀(vT:List (xB×Obj))(s:xI)(σ:St)(H:Hp)(x y:V)(v u:xM)(Q:VK),Inv X vT σ H s->RelV x v->RelV y u->t x y H Q->
  vA .AB X.A (inplaceOp op v u) (EP X vT σ Q) X.xe s
section
variable{X:Cx}{pos:Pos}
def dk(i:Nat):TG:=λv σ H Q=>Q (σ.set i .ED) H
def tK(n:X.N.Nodup)(q:X.N[i]?=u7 x)(j:Loc X.env.scope x)(y:X.fn x=u9\/X.env.scope.names.lookup x=u7 .local:=by rfl'):PG X .As (dk i):=by intro d s B H v u Q I r h;exact wpAny_assign_Name (aI I n q j r (λF z=>#[_,H,z,h]) y)
def gNil:TGs:=λvs σ H Q=>vs=[]/\Q σ H
def tL(t:TG)(u:TGs):TGs:=λvs σ H Q=>∃v r,vs=v::r/\t v σ H λσ' H'=>u r σ' H' Q
def tM:PGs X [] gNil:=by intro d s i H n j Q I r h;let#[e,h]:=h;subst e;cases r;exact assignInOrder_nil #[i,H,I,h]
theorem tN{e:xD}{es:List xD}{t:TG}{u:TGs}(j:PG X e t)(F:PGs X es u)
  (y:(xO (e::es) X.env).map (·.2)=assign e X.env::(xO es X.env).map (·.2):=by rfl):PGs X (e::es) (tL t u):=by
 intro d s n H S N Q I r h;let#[v,O,J,h]:=h;subst J;cases r with
 |cons r q=>
  rw[y];exact assignInOrder_cons (ZD (j d s n H _ _ _ I r h) λ_ z #[i,B,M,L]=>(F d z i B _ _ Q M q L))
def gTup(K:za)(n:Nat)(t:TGs):TG:=λv σ H Q=>∃a xs,v=.ref a/\YO K H a xs/\xs.length=n/\t xs σ H Q
def tO{es:List xD}{k:Nat}{t:TGs}{n:Nat}(F:X.calm=u9)(h:PGs X es t)
  (N:(xO es X.env).length=n:=by rfl) (i:(xO es X.env).findIdx? (·.1)=u8:=by rfl):PG X .DH (gTup X.K n t):=by
 intro d s y H v u Q I r j;let#[a,L,M,z,B,j]:=j;subst M;cases r;let#[O,rv,J,S]:=I.tuple z;exact assign_Tuple_tuple .Gq J (by simp[N,<-B,rv.length]) i λU q=>(h d _ y H L _ Q (I.kept (t':=s.toks) λb o e=>q b o (qQ .Bb) e) (by simpa using rv) j)
def gSub(to ti:TE)(t:TSet):TG:=λv σ H Q=>to σ H λo H1=>ti σ H1 λi H2=>t o i v H2 λH3=>Q σ H3
def tP{o i:xD}{q ti:TE}{t:TSet}(ho:PE X o q)(N:PE X i ti)(hs:PSet X t)
  (J:∀v,assign .Ce X.env v=(do
   let ov<-holding [v] .B0;let iv<-holding [v,ov] .Hp
   standAt pos
   holding [v,ov,iv] .Gi
   release [v,ov,iv] []):=by rfl'):PG X .Ce (gSub q ti t):=by
 intro d s j H v u Q I r h;rw[J];refine vC (vG (ZD (ho d s j H _ I h) λov O n=>?_));let#[x,S,M,Y,q1]:=n;refine vC (vG (ZD (N d O j S _ M q1) λiv F n=>?_));let#[y,Z,I2,U,z]:=n;exact vC (wpAny_standAt (vC (vG (ZD (hs d F j Z x y v ov iv u _ I2 Y U r z) λ_ s3 #[W,B,L]=>(wpAny_release #[j,W,B,L])))))
def aK(te:TE)(g:TG):TS:=λD σ H=>te σ H λx H1=>g x σ H1 D.nx
def tQ{e:xD}{j:TE}{g:TG}(F:PE X e j)(B:PG X tg g)(z:swapsWithSole [tg] e pos.line X.env=pure uA:=by rfl)(O:swappedStores [tg] e X.env=pure u8:=by rfl)
  (y:(xO [tg] X.env).map (·.2)=[assign tg X.env]:=by rfl):PS X (.Assign [tg] e pos) (aK j g):=by
 intro d s i H D I h;refine wpAny_Assign_stores (ZD (F d s i H _ I h) λv L n=>?_) z O;let#[x,M,S,J,N]:=n;rw[y];exact ZD (B d L i M x v _ S J N) λ_ U q=>q
def tR{i:Nat}{x:Str}{e:xD}{n:TE}{d:Pos}(J:X.N.Nodup)(F:X.N[i]?=u7 x)(q:Loc X.env.scope x)(O:PE X e n)(M:swapsWith e (u7 (.Name x d)) pos.line X.env=pure uA:=by rfl)(L:X.fn x=u9\/X.env.scope.names.lookup x=u7 .local:=by rfl'):
  PS X (.Assign [.Name x d] e pos) (aK n (dk i)):=by
 intro j s B H D I h;exact wpAny_Assign_Name (ZD (O j s B H _ I h) λv Z #[y,U,Y,S,W]=>(aI Y J F q S (λs2 z=>#[_,U,z,W]) L)) M
def tAug(i:Nat)(te:TE)(ti:TIp):TS:=λD σ H=>∃x,σ[i]?=u7 .FI/\te σ H λy H1=>ti x y H1 λz H2=>D.nx (σ.set i (u7 z)) H2
def tS{i:Nat}{x:Str}{e:xD}{M:TE}{op:Operator}{ti:TIp}{q:Pos}(hN:X.N.Nodup)(O:X.N[i]?=u7 x)(J:Loc X.env.scope x)(he:PE X e M)(ho:PIp X op ti)(hf:X.fn x=u9\/X.env.scope.names.lookup x=u7 .local:=by rfl'):
  PS X (.AugAssign (.Name x q) op e pos) (tAug i M ti):=by
 intro d s S H D I h;let#[v,e1,h]:=h;let#[m,hn,hl]:=I.loc;have L:Vis X.env.scope x:=by rcases J with k|k;exact .inl k;exact .inr (.inl k)
 let#[u,r,l]:=hl i x v O e1 L;refine wpAny_AugAssign_Name ?_
 have U:vA .AB X.A .C8 (λw F=>vA .AB X.A (inplaceOp op u w) (λr B=>vA .AB X.A (storeName X.env x r) (λ_=>SP X d D .next) X.xe B) X.xe F) X.xe s:=by
  refine ZD (he d s S H _ I h) λw s1 W=>?_
  let#[y,H1,I1,r1,q1]:=W;exact ZD (ho d s1 S H1 v y u w _ I1 r r1 q1) λz s2 #[zv,H2,I2,r2,Y]=>(aI I2 hN O J r2 (λs3 Z=>#[_,H2,Z,Y]) hf)
 rcases l with⟨j,hm⟩|⟨j,c,hc,n⟩
 .exact wpAny_loadName_local I.ok.kind j hn hm U
 rcases j with j|j
 .exact wpAny_loadName_cell I.ok.kind j hc n U
 .rcases J with k|k
  .have:X.env.scope.names.lookup x=u7 .free:=j;rw[k]at this;cases this
  .have:X.env.scope.names.lookup x=u7 .free:=j;rw[k]at this;cases this
def ipI(f:Int->Int->Int):TIp:=λx y H Q=>∃i j,x=.int i/\y=.int j/\Q (.int (f i j)) H
def tT:PIp X .Add (ipI λi j=>i+j):=by intro d s J H x y v u Q I z n h;let#[i,j,B,F,q]:=h;subst B;subst F;let#[t,rfl]:=z;let#[L,rfl]:=n;exact iadd_int #[.int _,H,I.tok _,#[_,rfl],q]
def tU:PIp X .Sub (ipI λi j=>i-j):=by intro d s J H x y v u Q I z n h;let#[i,j,B,F,q]:=h;subst B;subst F;let#[t,rfl]:=z;let#[L,rfl]:=n;exact isub_int #[.int _,H,I.tok _,#[_,rfl],q]
def tV(c:TT)(tb:TS):TS:=λD σ H=>∃W:Nat->St->Hp->Prop,(∃m,W m σ H)/\∀m σ H,W m σ H->
 c σ H λb H1=>if b=u9 then∃N:St->Hp->Prop,(∀σ' H',N σ' H'->∃m',m'<m/\W m' σ' H')/\tb {D with nx:=N,ct:=N,bk:=D.nx} σ H1 else D.nx σ H1
theorem tW{c:xD}{body:List xL}{tc:TT}{tb:TS}(hp:PassesOwn .AB X.A X.env X.xe)(hc:PT X c tc)(hb:e? X body tb):PS X (.While c body [] pos) (tV tc tb):=by
 intro vT s σ H D I h;let#[W,#[m0,w0],turn]:=h;refine wpAny_While (codeAny_whileLoop (λn s'=>∃σ' H',Inv X vT σ' H' s'/\W n σ' H') ?_ m0 #[σ,H,I,w0]);rintro n s1 ⟨σ1,H1,I1,w1⟩;refine vL hp (ZD (hc vT s1 σ1 H1 _ I1 (turn n σ1 H1 w1)) λb s2 zz=>?_);let#[H2,I2,q2]:=zz;cases b with
 | true=>
  let#[N,hN,q2]:=q2;rw[if_pos rfl];refine vL hp (ZD (hb vT s2 σ1 H2 _ I2 q2) λf s3 q3=>?_);cases f with
  |next|cont=>
   let#[σ3,H3,I3,n3]:=q3;let#[m',hm,w3]:=hN σ3 H3 n3;exact#[m',hm,σ3,H3,I3,w3]
  |_=>exact q3
 |false=>
  rw[if_neg zO];exact wpAny_execs_nil #[σ1,H2,I2,q2]
end
structure It where
 go:Nat->Hp->Prop
 yld:Nat->Hp->V->Hp->Prop
 stop:Nat->Hp->Prop
def ZQ(X:Cx)(vT:List (xB×Obj))(H:Hp)(b:xB):Prop:=
 H b=u8/\b≠X.env.locals/\b∉X.fs/\(b∈X.ex\/X.s₀.heap.objs.size<=b)/\(∀x c,X.env.cells.lookup x=u7 c->c≠b)/\∀p∈X.pn++vT,p.1≠b
def Inv.K3{X:Cx}{i:St}{H H':Hp}{b:xB}(I:Inv X vT i H s)(d:s.heap.objs.size<=b)(n:H' b=u8):ZQ X vT H' b:=by
 refine#[n,j3 (zY I.lt d),I.nofs d,.inr (zx I.sz d),λx c e z=>?_,λp j z=>(absurd (zY (zA (I.pin p j).1) (by rw[z];exact d)) .CS)]
 .let#[v,q]:=I.cell x c e;exact absurd (zY q.lt (z▸d)) .CS
structure Turn (P:xG) (w:xN) (K:za) (tg:xD) (J:It) (fp:List xB) (it:xB) (tn:Nat->Heap->Prop):Prop where
 mem:it∈fp
 obj:∀i h,tn i h->∀b∈fp,∃o,h.get? b=u7 o/\∀v,o.data≠ .cell v
 keep:∀i h h',tn i h->(∀b∈fp,∀o,h.get? b=u7 o->h'.get? b=u7 o)->tn i h'
 item:∀(X:Cx),X.prog=P->X.w=w->X.K=K->X.calm=u9->∀(i:Nat)(vT:List (xB×Obj))(s:xI)(σ:St)(H:Hp)(E:xM->xI->Prop),Inv X vT σ H s->(∀b∈fp,ZQ X vT H b)->tn i s.heap->J.go i H->
  vA .Cy X.A (pyNext .Cz) (λr s1=>∃u,r=u7 u/\
   vA .Cy X.A .Kw (λ_ s2=>∃x H',Inv X vT σ H' s2/\RelV x u/\J.yld i H x H'/\tn (i+1) s2.heap/\∀b∈fp,H' b=u8) E s1) E s
 done:∀(X:Cx),X.prog=P->X.w=w->X.K=K->X.calm=u9->∀(i:Nat)(vT:List (xB×Obj))(s:xI)(σ:St)(H:Hp)(E:xM->xI->Prop),Inv X vT σ H s->(∀b∈fp,ZQ X vT H b)->tn i s.heap->J.stop i H->
  vA .Cy X.A (pyNext .Cz) (λr s1=>r=u8/\Inv X vT σ H s1) E s
 self:∀(A:xC)(i:Nat)(s:xI)(Q:xM->xI->Prop)(E:xM->xI->Prop),tn i s.heap->Q .Cz s->vA .Cy A (pyIter .Cz) Q E s
abbrev TI:=St->Hp->(It->Hp->Prop)->Prop
def PIE(X:Cx)(vT:List (xB×Obj))(σ:St)(tg:xD)(R:It->Hp->Prop)(itv:xM)(s2:xI):Prop:=
 ∃(it:xB)(fp:List xB)(tn:Nat->Heap->Prop)(J:It)(H':Hp),itv=.ref it/\Inv X vT σ H' s2/\Turn X.prog X.w X.K tg J fp it tn/\tn 0 s2.heap/\(∀b∈fp,ZQ X vT H' b)/\R J H'
def PI(X:Cx)(tg iter:xD)(wi:TI):Prop:=
 ∀(vT:List (xB×Obj))(s:xI)(σ:St)(H:Hp)(R:It->Hp->Prop),Inv X vT σ H s->wi σ H R->
  vA .AB X.A (eval iter X.env) (λv s1=>vA .AB X.A (pyIter v) (PIE X vT σ tg R) X.xe s1) X.xe s
def Qm(ho:s.heap.get? it=u7 o)(hc:o.cls=.type n)(hd:o.data=.fields vs)
  (hn: ["enumerate","zip","dict_itemiterator","dict_reverseitemiterator","odict_iterator","itertools.zip_longest","itertools.pairwise"].contains n=uA) (hQ:Q () s):vA M A .Kw Q E s:=by
 unfold vK
 cases tg<;>first
  |exact vM hQ
  | (cases u<;>first
    |exact vM hQ
    | (
      refine vC (wpAny_load ho ?_);rw[hc,hd];show vA M A (if(["enumerate","zip","dict_itemiterator","dict_reverseitemiterator","odict_iterator","itertools.zip_longest","itertools.pairwise"].contains n&&vs[0]?==u7 (vz _))=u9 then _ else _) Q E s;rw[if_neg (by intro h;rw[hn,Bool.false_and]at h;cases h)];exact vM hQ))
def Itl(K:za)(a:xB):It:=
 #[λi H=>∃xs x,WQ K H a xs/\xs[i]?=u7 x,λi H x H'=>H'=H/\∀xs,WQ K H a xs->xs[i]?=u7 x,λi H=>∃xs,WQ K H a xs/\xs.length<=i]
def Itt(K:za)(a:xB):It:=
 #[λi H=>∃xs x,YO K H a xs/\xs[i]?=u7 x,λi H x H'=>H'=H/\∀xs,YO K H a xs->xs[i]?=u7 x,λi H=>∃xs,YO K H a xs/\xs.length<=i]
def Itr(lo:Int)(n:Nat):It:=#[λi _=>i<n,λi H x H'=>H'=H/\x=.int (lo+i),λi _=>n<=i]
def tX{w:xN}{K:za}(a it):Turn P w K tg (Itl K a) [it] it (λi h=>h.IsListIter it a i) where
 mem:=.d
 obj:=λi h j b n=>by
  have e:b=it:=by simpa using n
  subst e;let#[o,e,c,d]:=j;exact#[o,e,λv z=>by rw[d]at z;cases z]
 keep:=λi h h' j k=>j.at λo e=>k it .d o e
 item:=by
  intro X Z O hK hc i y s σ H E I B j N;subst Z O hK;let#[xs,x,F,M]:=N;let#[VB,rv,p,hz]:=I.list F;let#[u,hu,ru]:=rv.get M;let#[J,S,f2,Y,U,L]:=B it .d;refine wpAny_pyNext_list_item j p.isList (by simpa using hu) λh' q sb=>?_
  let#[o,e,c,d]:=id q;exact#[u,rfl,Qm e c d .c #[x,H,I.turned (t':=s.toks) (λb o n e=>(sb.2 b n).trans e) J S Y U L,ru,#[rfl,λys hy=>(I.Zw hy F)▸M],q,λb n=>(B b n).1]]
 done:=by intro X Z O hK hc i y s σ H E I B j N;subst Z O hK;let#[xs,F,M]:=N;let#[VB,rv,p,hz]:=I.list F;let#[J,S,f2,Y,U,L]:=B it .d;have hl:=rv.length;exact wpAny_pyNext_list_end (I.ok.hd hc) j p.isList .e λh' eb=>#[rfl,I.turned (λb o n e=>eb b o n e) J S Y U L]
 self:=λ_ _ _ _ _ j h=>wpAny_pyIter_listiter j h
def tY{w:xN}{K:za}(a it):Turn P w K tg (Itt K a) [it] it (λi h=>h.IsTupleIter it a i) where
 mem:=.d
 obj:=λi h j b n=>by
  have e:b=it:=by simpa using n
  subst e;let#[o,e,c,d]:=j;exact#[o,e,λv z=>by rw[d]at z;cases z]
 keep:=λi h h' j k=>j.at λo e=>k it .d o e
 item:=by
  intro X Z O hK hc i y s σ H E I B j N;subst Z O hK;let#[xs,x,F,M]:=N;let#[VB,rv,p,hz]:=I.tuple F;let#[u,hu,ru]:=rv.get M;let#[J,S,f2,Y,U,L]:=B it .d;refine wpAny_pyNext_tuple_item j (p) (by simpa using hu) λh' q sb=>?_
  let#[o,e,c,d]:=id q;exact#[u,rfl,Qm e c d .c #[x,H,I.turned (t':=s.toks) (λb o n e=>(sb.2 b n).trans e) J S Y U L,ru,#[rfl,λys hy=>(I.Zg hy F)▸M],q,λb n=>(B b n).1]]
 done:=by intro X Z O hK hc i y s σ H E I B j N;subst Z O hK;let#[xs,F,M]:=N;let#[VB,rv,p,hz]:=I.tuple F;let#[J,S,f2,Y,U,L]:=B it .d;have hl:=rv.length;exact wpAny_pyNext_tuple_end (I.ok.hd hc) j (p) .e λh' eb=>#[rfl,I.turned (λb o n e=>eb b o n e) J S Y U L]
 self:=λ_ _ _ _ _ j h=>wpAny_pyIter_tupleiter j h
def tZ{w:xN}{K:za}(it)(F)(n):Turn P w K tg (Itr F n) [it] it (λi h=>IsRangeIter h it (F+(i:Nat)*1) ((n:Int)-(i:Nat)) 1) where
 mem:=.d
 obj:=λi h d b j=>by
  have e:b=it:=by simpa using j
  subst e;exact#[_,d,λv z=>by have z':=z;cases z']
 keep:=λi h h' d k=>k it .d _ d
 item:=by
  intro X Y N hK Z i y s σ H E I B d M;subst Y N hK;let#[J,O,f2,U,S,L]:=B it .d;refine(Walks.range (prog:=X.prog) (w:=X.w) (I.ok.hd Z) it F 1 n).item i s _ _ M d λv h' tk hv q kk=>?_
  let#[t,rfl]:=hv;refine#[_,rfl,Qm q rfl rfl .c #[.int (F+i),H,I.turned (λb o j e=>kk b o (by simpa using j) e) J O U S L,#[t,?_],#[rfl,rfl],q,λb j=>(B b j).1]];rw[Int.mul_one]
 done:=by intro X Y N hK Z i y s σ H E I B d M;subst Y N hK;let#[J,O,f2,U,S,L]:=B it .d;exact wpAny_pyNext_range_end (I.ok.hd Z) d (by have:n<=i:=M;lia) λh' eb=>#[rfl,I.turned (λb o j e=>eb b o j e) J O U S L]
 self:=λ_ _ _ _ _ d h=>wpAny_pyIter_rangeiter d h
section
variable{X:Cx}{tg:xD}
def tf(K:za)(tl:TE):TI:=λσ H R=>tl σ H λx H1=>∃a,x=.ref a/\(∃xs,WQ K H1 a xs)/\R (Itl K a) H1
def iTup(K:za)(tl:TE):TI:=λσ H R=>tl σ H λx H1=>∃a,x=.ref a/\(∃xs,YO K H1 a xs)/\R (Itt K a) H1
def aL{l:xD}{n:TE}(F:PE X l n):PI X tg l (tf X.K n):=by
 intro d s z H R I h;refine ZD (F d s z H _ I h) λv j y=>?_
 let#[x,L,i,J,N]:=y;let#[a,e,#[U,B],q]:=N;subst e;cases J;let#[O,rv,p,S]:=i.list B;refine wpAny_pyIter_list p.isList ?_;refine#[j.heap.objs.size,[j.heap.objs.size],_,_,L,rfl,i.kept λb o e=>zQ _ e,tX a _,#[_,zD _ rfl,rfl,rfl],λb M=>?_,q];have e:b=j.heap.objs.size:=by simpa using M
 subst e;exact i.K3 .AK .Kd
def tj{l:xD}{n:TE}(F:PE X l n):PI X tg l (iTup X.K n):=by
 intro d s z H R I h;refine ZD (F d s z H _ I h) λv j y=>?_
 let#[x,L,i,J,N]:=y;let#[a,e,#[U,B],q]:=N;subst e;cases J;let#[O,rv,p,S]:=i.tuple B;refine wpAny_pyIter_tuple (p) ?_;refine#[j.heap.objs.size,[j.heap.objs.size],_,_,L,rfl,i.kept λb o e=>zQ _ e,tY a _,#[_,zD _ rfl,rfl,rfl],λb M=>?_,q];have e:b=j.heap.objs.size:=by simpa using M
 subst e;exact i.K3 .AK .Kd
def tm{B:St}{H:Hp}{R:It->Hp->Prop}{E:xM->xI->Prop}{i n:Int}{t u v:Tok}{tk:Nat}(I:Inv X vT B H s)(M: -(2^62)<=i)(N:i<2^62)(L: -(2^62)<=n)(J:n<2^62)
  (q:R (Itr i (n-i).toNat) H):vA .AB X.A (pyIter .AU) (PIE X vT B tg R) E {s with heap:=s.heap.push {cls:=.type "range",data:=.fields [.int i t,.int n u,.int 1 v].toArray},toks:=tk}:=by
 refine wpAny_pyIter_range (IsRange.new ..) (small_one M N L J) ?_;have F:Inv X vT B H {s with heap:=s.heap.push {cls:=.type "range",data:=.fields [.int i t,.int n u,.int 1 v].toArray},toks:=tk}:=I.kept λb o e=>zQ _ e
 refine#[(s.heap.push {cls:=.type "range",data:=.fields [.int i t,.int n u,.int 1 v].toArray}).objs.size,[(s.heap.push {cls:=.type "range",data:=.fields [.int i t,.int n u,.int 1 v].toArray}).objs.size],_,_,H,rfl,
  F.kept λb o e=>zQ _ e,tZ _ i (n-i).toNat,?_,λb O=>?_,q]
 .have S:i+((0:Nat):Int)*1=i:=.d
  have U:(((n-i).toNat:Nat):Int)-((0:Nat):Int)=Builtin.Range.rangeSize i n 1:=by rw[rangeSize_one];split<;>lia
  rw[S,U];exact zD _ rfl
 have e:b=(s.heap.push {cls:=.type "range",data:=.fields [.int i t,.int n u,.int 1 v].toArray}).objs.size:=by simpa using O
 subst e;exact F.K3 .AK (F.VF.fresh .AK)
def tq(ta:TA):TI:=λσ H R=>ta σ H λvs H1=>∃j:Int,vs=[.int j]/\ -(2^62)<=j/\j<2^62/\R (Itr 0 j.toNat) H1
theorem tw{a:xD}{ta:TA}{p pos:Pos}(L:Gl X "range")(F:X.mg "range"=u8)(N:PA X [a] ta)(J:vv [a] X.env=[(uA,eval a X.env)]:=by rfl):PI X tg (.Call (.Name "range" p) [a] [] pos) (tq ta):=by
 intro d s z H R I h;refine Call_ (Jm I L F boot_range (qa (ZD (N pos d s z H _ I h) λS U n=>?_) J rfl));let#[Y,W,O,M,i]:=n;let#[j,e,i,y,q]:=i;subst e;cases M with
 |cons r B=>
  cases B;let#[t,rfl]:=r;exact call_range_1 (tm O .a .a i y (by simpa using q))
def tFor(wi:TI)(g:TG)(tb:TS):TS:=λD σ H=>wi σ H λJ H1=>∃W:Nat->Nat->St->Hp->Prop,(∃m,W 0 m σ H1)/\∀i m σ H,W i m σ H->
 (J.stop i H/\D.nx σ H)\/(J.go i H/\∃N:St->Hp->Prop,(∀σ' H',N σ' H'->∃m',m'<m/\W (i+1) m' σ' H')/\∀x H',J.yld i H x H'->g x σ H' λσ2 H2=>tb {D with nx:=N,ct:=N,bk:=D.nx} σ2 H2)
def Qc(fp:List xB)(h:Heap):List (xB×Obj):=fp.filterMap λb=>(h.get? b).map λo=>(b,o)
def Vu(d:b∈fp)(e:h.get? b=u7 o):(b,o)∈Qc fp h:=List.mem_filterMap.mpr #[b,d,by rw[e];rfl]
def dm(i:p∈Qc fp h):p.1∈fp/\h.get? p.1=u7 p.2:=by
 let#[b,d,e]:=List.mem_filterMap.mp i;rcases q:h.get? b with _|o
 .rw[q]at e;cases e
 rw[q]at e;have j:=w4 e;subst j;exact#[d,q]
def Inv.pinned{i:St}{H:Hp}{fp:List xB}(I:Inv X vT i H s)(y:∀b∈fp,ZQ X vT H b)(ho:∀b∈fp,∃o,s.heap.get? b=u7 o/\∀v,o.data≠ .cell v):Inv X (vT++Qc fp s.heap) i H s:=
 I.Lr λp q=>(qW.mp q).elim (λz=>I.pin p (qZ _ z)) λz=>by let#[n,e]:=dm z;let#[F,J,B,_]:=y p.1 n;let#[o,j,d]:=ho p.1 n;rw[e]at j;cases j;exact#[e,F,J,B,d]
def Inv.ZW{pl:List (xB×Obj)}{d:St}{H:Hp}(I:Inv X (vT++pl) d H s):Inv X vT d H s:=I.Lr λp i=>I.pin p (qZ _ (jD _ i))
theorem uB(hp:PassesOwn .AB X.A X.env X.xe)(hc:X.calm=u9)(hi:PI X tg iter wi)(hg:PG X tg g)(F:e? X body tb)
  (hs:∀x,foldedSetIterable iter X.env x=pure x:=by rfl'):PS X (.For tg iter body [] pos) (tFor wi g tb):=by
 intro j s σ H D I h;refine wpAny_For (ZD (hi j s σ H _ I h) λv s1 h1=>ZD h1 λitv s2 h2=>?_) hs;let#[it,fp,tn,J,H2,e,I2,T,st2,f2,W,#[m0,w0],Z]:=h2;subst e;have y:∀{M:Hp},(∀b∈fp,M b=u8)->∀b∈fp,ZQ X j M b:=λhn b F=>#[hn b F,(f2 b F).2]
 refine codeAny_forLoop_any (λn s'=>∃i B M,Inv X j B M s'/\tn i s'.heap/\(∀b∈fp,M b=u8)/\W i n B M) ?_ m0 #[0,σ,H2,I2,st2,λb F=>(f2 b F).1,w0];rintro n s3 ⟨i,z,H3,I3,st3,fr3,w3⟩;rcases Z i n z H3 w3 with⟨stop,qn⟩|⟨go,N,hN,step⟩
 .refine vL hp (ZD (T.done X rfl rfl rfl hc i j s3 z H3 X.xe I3 (y fr3) st3 stop) λr s4 #[hr,I4]=>?_);subst hr;exact wpAny_execs_nil #[z,H3,I4,qn]
 refine vL hp (ZD (T.item X rfl rfl rfl hc i j s3 z H3 X.xe I3 (y fr3) st3 go) λr s4 zz=>?_);let#[u,hr,h4]:=zz;subst hr;refine vL hp (ZD h4 λ_ s5 zz=>?_);let#[x,H5,I5,r5,y5,S,fr5]:=zz;refine vL hp (ZD (hg _ s5 z H5 x u _ (I5.pinned (y fr5) (T.obj _ _ S)) r5 (step x H5 y5)) λ_ s6 #[σ6,H6,I6,q6]=>?_);refine vL hp (ZD (F _ s6 σ6 H6 _ I6 q6) λf s7 U=>?_)
 have Y:∀{q:St}{L:Hp},Inv X (j++Qc fp s5.heap) q L s7->N q L->∃m,m<n/\∃i B M,Inv X j B M s7/\tn i s7.heap/\(∀b∈fp,M b=u8)/\W i m B M:=λ{q L}O n7=>by let#[m',hm,w7]:=hN q L n7;refine#[m',hm,i+1,q,L,O.ZW,T.keep _ _ _ S λb F o e=>(O.pin (b,o) (qZ _ (qZ _ (Vu F e)))).1,λb F=>?_,w7];let#[o,e,d]:=T.obj _ _ S b F;exact(O.pin (b,o) (qZ _ (qZ _ (Vu F e)))).2.1
 cases f with
 |brk=>let#[q,L,O,U]:=U;exact#[q,L,O.ZW,U]
 |ret v=>let#[x7,q,L,O,r7,U]:=U;exact#[x7,q,L,O.ZW,r7,U]
 |_=>let#[q,L,O,n7]:=U;exact Y O n7
end
abbrev R2:=V->V->Hp->VK->Prop
def ZF(X:Cx)(f:xM->xM->Sem xM)(r:R2):Prop:=
 ∀(vT:List (xB×Obj))(s:xI)(σ:St)(H:Hp)(x y:V)(v u:xM)(Q:VK),Inv X vT σ H s->RelV x v->RelV y u->r x y H Q->
  vA .AB X.A (f v u) (EP X vT σ Q) X.xe s
def Y2(X:Cx)(f:xM->Sem xM)(r:V->Hp->VK->Prop):Prop:=
 ∀(vT:List (xB×Obj))(s:xI)(σ:St)(H:Hp)(x:V)(v:xM)(Q:VK),Inv X vT σ H s->RelV x v->r x H Q->
  vA .AB X.A (f v) (EP X vT σ Q) X.xe s
def VE(X:Cx)(f:xM)(r:List V->Hp->VK->Prop):Prop:=
 ∀(vT:List (xB×Obj))(s:xI)(σ:St)(H:Hp)(xs:List V)(us:List xM)(Q:VK),Inv X vT σ H s->Vals xs us->r xs H Q->
  vA .AB X.A (call f us) (EP X vT σ Q) X.xe s
def tOp(r:R2)(ta tb:TE):TE:=λσ H Q=>ta σ H λx H1=>tb σ H1 λy H2=>r x y H2 Q
def tUn(r:V->Hp->VK->Prop)(ta:TE):TE:=λσ H Q=>ta σ H λx H1=>r x H1 Q
def rI(C:Int->Int->Prop)(g:Int->Int->V):R2:=λx y H Q=>∃i j,x=.int i/\y=.int j/\C i j/\Q .Cq H
def rI0(g:Int->Int->V):R2:=λx y H Q=>∃i j,x=.int i/\y=.int j/\Q .Cq H
def rU(g:Int->V):V->Hp->VK->Prop:=λx H Q=>∃i,x=.int i/\Q (g i) H
section
variable{X:Cx}{a b c:xD}{ta tb tc:TE}{pos:Pos}
def aM(S:PE X a ta)(O:PE X b tb){i:St}{H:Hp}{R:V->V->Hp->Prop}(I:Inv X vT i H s)
  (h:ta i H λx z=>tb i z λy d=>R x y d) {Q:xM->xI->Prop} {f:xM->xM->Sem xM}
  (J:∀v u q x y d,Inv X vT i d q->RelV x v->RelV y u->R x y d->vA .AB X.A (f v u) Q X.xe q):
  vA .AB X.A (eval a X.env) (λv j=>vA .AB X.A (eval b X.env) (λu n=>vA .AB X.A (f v u) Q X.xe n) X.xe j) X.xe s:=by
 refine ZD (S vT s i H _ I h) λv M #[x,z,W,N,U]=>?_
 exact ZD (O vT M i z _ W U) λu q #[y,d,F,L,B]=>(J v u q x y d F N L B)
def uC{op:Operator}{r:R2}(ho:ZF X (xU op) r)(J:PE X a ta)(F:PE X b tb):PE X .Fy (tOp r ta tb):=by intro d s n H Q I h;exact wpAny_BinOp (aM J F I h λv u B x y i j z L q=>ho d B n i x y v u Q j z L q)
def uD(ho:Y2 X (unaryOp op) r)(y:PE X a ta):PE X .Fz (tUn r ta):=by intro d s i H Q I h;exact UnaryOp_ (ZD (y d s i H _ I h) λv n #[x,j,B,q,z]=>ho d n i j x v Q B q z)
def opI{f:xM->xM->Sem xM}{C:Int->Int->Prop}{g:Int->Int->Int}
  (n:∀i j t u s Q E,C i j->Q .KS {s with toks:=s.toks+1}->vA .AB X.A .KV Q E s):
  ZF X f (rI C λi j=>.int .Cq):=by
 intro z s M H x y v u Q I B L h;let#[i,j,rfl,rfl,J,q]:=h;let#[t,rfl]:=B;let#[F,rfl]:=L;exact n i j t F s _ _ J #[.int .Cq,H,I.tok _,#[_,rfl],q]
def opI0{f:xM->xM->Sem xM}{g:Int->Int->Int}
  (n:∀i j t u s Q E,Q .KS {s with toks:=s.toks+1}->vA .AB X.A .KV Q E s):
  ZF X f (rI0 λi j=>.int .Cq):=by
 intro z s L H x y v u Q I B J h;let#[i,j,rfl,rfl,q]:=h;let#[t,rfl]:=B;let#[F,rfl]:=J;exact n i j t F s _ _ #[.int .Cq,H,I.tok _,#[_,rfl],q]
def aN{f:xM->xM->Sem xM}{g:Int->Int->Bool}
  (d:∀i j t u s Q E,Q (.bool .Cq) s->vA .AB X.A .KV Q E s):
  ZF X f (rI0 λi j=>.bl .Cq):=by
 intro n s J H x y v u Q I z F h;let#[i,j,rfl,rfl,q]:=h;let#[t,rfl]:=z;let#[B,rfl]:=F;exact d i j t B s _ _ #[.bl .Cq,H,I,rfl,q]
def CPow(i j:Int):Prop:=0<=j/\j<=1000000/\i.natAbs<2^64
def CMul(i j:Int):Prop:=(-(2^64)<i/\i<2^64)\/(-(2^64)<j/\j<2^64)
def CMul.ok(h:CMul i j):IntMulOk i j:=by
 rcases h with⟨n,d⟩|⟨n,d⟩
 .exact .of_left (intBits_le_64 n d)
 exact .of_right (intBits_le_64 n d)
def uE:ZF X .Da (rI0 λi j=>.int (i+j)):=opI0 λ_ _ _ _ _ _ _ q=>add_int q
def uF:ZF X (xU .Sub) (rI0 λi j=>.int (i-j)):=opI0 λ_ _ _ _ _ _ _ q=>sub_int q
def uG:ZF X (xU .Mod) (rI (λ_ j=>0<j) λi j=>.int (i%j)):=opI λi j _ _ _ _ _ d q=>by exact mod_int' .a (by rw[Int.fmod_eq_emod_of_nonneg i .a];exact q)
def uH:ZF X (xU .Pow) (rI CPow λi j=>.int (i^j.toNat)):=opI λ_ _ _ _ _ _ _ d q=>pow_int_small d.1 d.2.1 d.2.2 q
def unI{f:xM->Sem xM}{g:Int->Int}
  (j:∀i t s Q E,Q (.int (g i) s.toks) {s with toks:=s.toks+1}->vA .AB X.A (f .Fb) Q E s):
  Y2 X f (rU λi=>.int (g i)):=by
 intro n s z H x v Q I y h;let#[i,rfl,q]:=h;let#[t,rfl]:=y;exact j i t s _ _ #[.int (g i),H,I.tok _,#[_,rfl],q]
def uI:Y2 X .HR (rU λi=>.int (-i)):=unI λ_ _ _ _ _ q=>neg_int q
def Rc{i:St}{H:Hp}{Q:VK}{k d:Bool}(I:Inv X vT i H s)(q:Q .Ge H)(e:k=d):EP X vT i Q (.bool d) s:=by subst e;exact#[.bl k,H,I,rfl,q]
def uL:ZF X .Iz (rI0 λi j=>.bl (decide (i<j))):=aN λ_ _ _ _ _ _ _ q=>lt_int q
def uM:ZF X .IL (rI0 λi j=>.bl (decide (i<=j))):=aN λ_ _ _ _ _ _ _ q=>le_int q
def uN:ZF X .I0 (rI0 λi j=>.bl (decide (j<i))):=aN λ_ _ _ _ _ _ _ q=>gt_int q
def uO:ZF X .Iz (λx y H Q=>∃i j,x=.str i/\y=.str j/\Q (.bl (decide (i.cps.toList<j.cps.toList))) H):=by intro d s B H x y v u Q I n z h;let#[i,j,rfl,rfl,q]:=h;let#[t,rfl]:=n;let#[F,rfl]:=z;exact lt_str (Rc I q rfl)
def uP:ZF X .I1 (λx y H Q=>∃i j,x=.str i/\y=.str j/\Q (.bl (!(zc j i 0 j.length 1).isEmpty)) H):=by intro d s B H x y v u Q I n z h;let#[i,j,rfl,rfl,q]:=h;let#[t,rfl]:=n;let#[F,rfl]:=z;exact in_str (Rc I q rfl)
def uR:ZF X (vX .Is) (λx y H Q=>y=.WB/\Q (.bl (decide (x=.WB))) H):=by
 intro d s n H x y v u Q I i j h;let#[rfl,q]:=h;cases j;refine is_none_gen (Rc I q ?_)
 cases x<;>first
  |(cases i;rfl)
  |(let#[t,rfl]:=i;rfl)
def uS:ZF X (vX .IsNot) (λx y H Q=>y=.WB/\Q (.bl (!decide (x=.WB))) H):=by
 intro d s n H x y v u Q I i j h;let#[rfl,q]:=h;cases j;refine isnot_none_gen (Rc I q ?_)
 cases x<;>first
  |(cases i;rfl)
  |(let#[t,rfl]:=i;rfl)
def uT:ZF X .E5 (λx y H Q=>∃i j,x=.str i/\y=.str j/\Q (.bl (!(!(zc j i 0 j.length 1).isEmpty))) H):=by intro d s B H x y v u Q I n z h;let#[i,j,rfl,rfl,q]:=h;let#[t,rfl]:=n;let#[F,rfl]:=z;exact notIn_str (Rc I q rfl)
def ZF.or(h:ZF X f r)(h':ZF X f r'):ZF X f (λx y H Q=>r x y H Q\/r' x y H Q):=by
 intro d s j H x y v u Q I i n q;rcases q with q|q
 .exact h d s j H x y v u Q I i n q
 exact h' d s j H x y v u Q I i n q
def XZ(b)(h:op≠ .In:=by decide)(d:op≠ .NotIn:=by decide):xT op b=uA:=by
 have i:(op==CmpOp.In)=uA:=by cases op<;>first|rfl|exact absurd rfl h
 have j:(op==CmpOp.NotIn)=uA:=by cases op<;>first|rfl|exact absurd rfl d
 cases b<;>simp[xT,i,j]
def uU{op:CmpOp}{r:R2}(ho:ZF X .Dx r)(L:PE X a ta)(J:PE X b tb)(z:xT op b=uA):PE X (.Compare a [op] [b] pos) (tOp r ta tb):=by intro d s n H Q I h;exact wpAny_Compare1 (aM L J I h λv u F x y i j B M q=>ho d F n i x y v u Q j B M q) z
def Sv(t:TE):TT:=λσ H Q=>t σ H λx H'=>∃k,x=.bl k/\Q k H'
def dq(ho:ZF X .Dx r)(F:PE X a ta)(hb:PE X b tb)(M:xT op b=uA):PT X (.Compare a [op] [b] pos) (Sv (tOp r ta tb)):=by
 intro d s i H Q I h;refine wpAny_isTrue_Compare1 (ZD (F d s i H _ I h) λv N #[x,O,L,W,q1]=>ZD (hb d N i O _ L q1) λu B #[y,Z,I2,S,j]=>
  ZD (ho d B i Z x y v u _ I2 W S j) λc s3 n=>?_) M
 let#[z,U,q,Y,k,e,J]:=n;subst e;cases Y;exact vO #[U,q,J]
def aO(r r':R2)(ta tb tc:TE):TE:=λσ H Q=>ta σ H λx H1=>tb σ H1 λy H2=>r x y H2 λz H3=>∃k,z=.bl k/\
 (if k=u9 then tc σ H3 λw' H4=>r' y w' H4 Q else Q .Ap H3)
def ua(ho:ZF X .Dx r)(n:ZF X .G0 r')(S:PE X a ta)(hb:PE X b tb)(hc:PE X c tc)
  (Y:lastMarks [op,op'] [b,c]=uA:=by with_unfolding_all rfl):PE X (.Compare a [op,op'] [b,c] pos) (aO r r' ta tb tc):=by
 intro i s j H Q I h;refine Compare_chain (ZD (S i s j H _ I h) λv s1 #[x,H1,U,r1,q1]=>chain_link (ZD (hb i s1 j H1 _ U q1) λu O #[y,H2,I2,F,L]=>
  ZD (ho i O j H2 x y v u _ I2 r1 F L) λd N M=>?_)) Y
 let#[z,J,q,r3,k,e,B]:=M;subst e;cases r3;refine vO ?_;rcases k with _|_
 .exact ite_ff #[.bl uA,J,q,rfl,B]
 exact ite_tt (chain_last (ZD (hc i N j J _ q B) λw' W #[z',H4,Z,r4,q4]=>n i W j H4 y z' u w' Q Z F r4 q4))
def uc(ho:ZF X .Dx r)(n:ZF X .G0 r')(U:PE X a ta)(hb:PE X b tb)(hc:PE X c tc)
  (Z:lastMarks [op,op'] [b,c]=uA:=by with_unfolding_all rfl):PT X (.Compare a [op,op'] [b,c] pos) (Sv (aO r r' ta tb tc)):=by
 intro i s j H Q I h;refine isTrue_chain (ZD (U i s j H _ I h) λv s1 #[x,H1,W,r1,q1]=>test_link (ZD (hb i s1 j H1 _ W q1) λu S #[y,H2,I2,F,M]=>
  ZD (ho i S j H2 x y v u _ I2 r1 F M) λd O N=>?_)) Z
 let#[z,J,q,r3,k,e,B]:=N;subst e;cases r3;refine vO ?_;rcases k with _|_
 .let#[k',e',q']:=B;cases e';exact ite_ff #[J,q,q']
 refine ite_tt (test_last (ZD (hc i O j J _ q B) λw' Y #[z',H4,I4,r4,q4]=>ZD (n i Y j H4 y z' u w' _ I4 F r4 q4) λd' s5 #[z2,H5,I5,r5,k2,e2,L]=>?_));subst e2;cases r5;exact vO #[H5,I5,L]
def VR:(sizeLine:Nat)<2^63:=by rw[vj];decide
def ud:ZF X .Da (λx y H Q=>∃i j,x=.str i/\y=.str j/\i.length+j.length<=sizeLine/\Q (.str (i++j)) H):=by intro d s J H x y v u Q I n F h;let#[i,j,rfl,rfl,B,q]:=h;let#[t,rfl]:=n;let#[z,rfl]:=F;exact add_str (λz tk=>#[.str (i++j),H,I.tok _,#[_,rfl],q]) B
def ue:ZF X .G1 (λx y H Q=>∃i j,x=.str i/\y=.str j/\i.length+j.length<=sizeLine/\Q (.str (i++j)) H):=by intro d s J H x y v u Q I n F h;let#[i,j,rfl,rfl,B,q]:=h;let#[t,rfl]:=n;let#[z,rfl]:=F;exact iadd_str (λz tk=>#[.str (i++j),H,I.tok _,#[_,rfl],q]) B
theorem vals1(r:Vals [x] us):∃u,us=[u]/\RelV x u:=by
 cases r with
 |cons i d=>cases d;exact#[_,rfl,i]
theorem vals2(r:Vals [x,y] us):∃u d,us=[u,d]/\RelV x u/\RelV y d:=by
 cases r with
 |cons j i=>
  cases i with
  |cons q n=>cases n;exact#[_,_,rfl,j,q]
def uf(y:X.calm=u9):VE X (.builtin "max") (λxs H Q=>∃i j,xs=[.int i,.int j]/\Q (.int (if j>i then j else i)) H):=by
 intro n s z H xs B Q I r h;let#[i,j,rfl,q]:=h;let#[u,L,rfl,#[t,rfl],#[F,rfl]]:=vals2 r;refine max_two_ints (I.ok.hd y) λJ tk k=>#[_,H,I.kept k,?_,q]
 by_cases d:j>i
 .rw[if_pos d,if_pos d];exact#[_,rfl]
 rw[if_neg d,if_neg d];exact#[_,rfl]
def ug(y:X.calm=u9):VE X (.builtin "min") (λxs H Q=>∃i j,xs=[.int i,.int j]/\Q (.int (if j<i then j else i)) H):=by
 intro n s z H xs B Q I r h;let#[i,j,rfl,q]:=h;let#[u,L,rfl,#[t,rfl],#[F,rfl]]:=vals2 r;refine min_two_ints (I.ok.hd y) λJ tk k=>#[_,H,I.kept k,?_,q]
 by_cases d:j<i
 .rw[if_pos d,if_pos d];exact#[_,rfl]
 rw[if_neg d,if_neg d];exact#[_,rfl]
def uh:VE X (.type "str") (λxs H Q=>∃i,xs=[.int i]/\i.natAbs.log2<1920/\Q (.str (toString i)) H):=by intro d s y H xs n Q I r h;let#[i,rfl,j,q]:=h;let#[u,rfl,t,rfl]:=vals1 r;exact PySem.P.str_of_int j #[.str _,H,I.tok _,#[_,rfl],q]
end
structure y? (h:Heap) (x dx C:xB) (mA:Str->Option xM):Prop where
 obj:h.get? x=u7 .IJ
 ns:h.Ns1 dx mA
 ne:dx≠x
def ui{h:Heap}{j:xB}{B:Str->Option xM}(n:h.Ns1 j B):∃od,h.get? j=u7 od/\∀name,ja name od=u7 (B name):=by
 let#[o,i,O,J,M,N,_,I]:=n;refine#[o,J,λname=>?_];have e:=I name;unfold nsFind findBy at e;rw[<-Array.find?_toList]at e;unfold ja;rw[M];dsimp only;split
 .rename_i y q;rw[q]at e;exact congrArg u7 e
 rename_i q;rw[q]at e
 have a:i.toList.any (·.refKey)=uA:=by rw[List.any_eq_false];intro y F;let#[z,t,d]:=N y (Array.mem_toList_iff.mp F);simp[DictEntry.refKey,d]
 have L:¬i.toList.any (·.refKey)=u9:=a▸zO
 rw[if_neg L];exact congrArg u7 e
def y?.look(I:y? h x dx C mA):∃od,PySem.W.InstAt h x .IJ C (u7 od)/\∀name,ja name od=u7 (mA name):=
 let#[od,i,d]:=ui I.ns
 #[od,#[I.obj,rfl,rfl,i],d]
section
variable{prog:xG}{w:xN}{A:xC}{E:xM->xI->Prop}{s:xI}{K:za}{x dx C f:xB}{mA:Str->Option xM}{name:Str}{v:xM}
def ul(X:K.In s.heap)(I:y? s.heap x dx C mA)(j:jb K C name=u9)(z:xh K C=u9)
  (y:zh K .AR name=u7 u8) (q:mA name=u7 v) (i:wv v=u9) (h:Q v {s with toks:=s.toks+1}):
  vA .AC A (getAttr .Dv name expr) Q E s:=by
 let#[B,J,n]:=I.look;exact PySem.W.get_value X J (xi j).1 (PySem.W.findObj_own z y rfl (by rw[n,q])) i h
def um(X:K.In s.heap)(I:y? s.heap x dx C mA)(d:jb K C name=u9)
  (j:zh K .AR name=u7 .Jo) (q:vU K .Ae=u9) (n:mA name=u8) (h:Q (.ref f,[.ref x]) s):
  vA .AC A (getMethod .Dv name pl) Q E s:=by
 let#[y,J,i]:=I.look
 exact PySem.W.method_fn X J (xi d).1 (xi d).2 j (beq_iff_eq.mp q) (by show(ja name y).map (·.isSome)=u7 uA;rw[i,n];rfl) h
def uo(X:K.In s.heap)(I:y? s.heap x dx C mA)
  (U:zh K .AR "__setattr__"=u7 (u7 (.builtin "object.__setattr__"))) (N:ww K C=u9) (O:vb K C name=u7 u8) (Z:xh K C=u9)
  (M:xg mA ns) (UX:ns.length<=sizeLine)
  (h:∀h',y? h' x dx C (λy=>if y=name then u7 v else mA y)->qR dx s.heap h'->Q () {s with heap:=h',toks:=s.toks+2}):
  vA .AC A (setAttr .Dv name v) Q E s:=by
 let#[od,J,hl]:=I.look;refine PySem.W.set_plain X J U (PySem.W.osa_open X J N O λb=>?_);let#[cd,Y,q]:=PySem.W.any_some Z;refine vC (vM (vC (vC (wpAny_loadPart I.obj (vC (PySem.W.Looks.here (PySem.W.looks_clsIn X Y) ?_))))));rw[q];refine vM (vC (vM (vC ?_)));refine wpAny_nsSet1 I.ns λh' n i=>?_
 let#[oD,S,L,B,z,F]:=n.count (PySem.Within.cons name v M);exact vC (wpAny_lookBehind B (by rw[z];exact pastItsLine_dict (zx F (by rw[q9];lia))) (vM (h _ #[(i.2 _ (Ne.symm I.ne)).trans I.obj,n,I.ne] i)))
def ur(X:K.In s.heap)(hm:wk K C=u9)
  (hi:zh K .AR "__init__"=u7 .Jo) (hf:PySem.W.typeIn K .Ae=u7 (.type "function"))
  (h:codeAny .AC (A.under (.builtin "type.__call__" #[.ref C::vs,kw])) (.call .Ae #[.ref (s.heap.objs.size+1)::vs,kw]) (PySem.W.InitBack (s.heap.objs.size+1) R)
   {s with heap:=(s.heap.push qb).push .DG}):
  codeAny .AC A (.call .AR #[vs,kw]) R s:=by
 let#[hh,g,d,t,os]:=s;exact PySem.W.make_core (PySem.W.makes_of X hm) (PySem.W.looks_findIn X hi) (λself=>PySem.W.bind_fn X self hf) (.inl rfl) h
end
def Ep(f:Str)(v:V):List (Str×V)->List (Str×V)
 |[]=>[(f,v)]
 |(g,x)::r=>if g=f then(g,v)::r else(g,x)::Ep f v r
theorem dr(f g)(v):∀fs,(Ep f v fs).lookup g=if g=f then u7 v else fs.lookup g
 |[]=>by
  show j2 g [(f,v)]=_;by_cases h:g=f
  .have d:=beq_iff_eq.mpr h;simp[j2,d,if_pos h]
  have d:=beq_eq_false_iff_ne.mpr h;simp[j2,d,if_neg h]
 | (k,x)::r=>by
  rw[show Ep f v ((k,x)::r)=(if k=f then(k,v)::r else(k,x)::Ep f v r)from rfl]
  by_cases i:k=f
  .rw[if_pos i];by_cases h:g=k
   .have d:=beq_iff_eq.mpr h;simp[j2,d,if_pos (h.trans i)]
   have d:=beq_eq_false_iff_ne.mpr h;simp[j2,d,if_neg (λe:g=f=>h (e.trans i.symm))]
  rw[if_neg i];by_cases h:g=k
  .have d:=beq_iff_eq.mpr h;simp[j2,d,if_neg (λe=>i (h.symm.trans e))]
  .have d:=beq_eq_false_iff_ne.mpr h;simp[j2,d];exact dr f g v r
theorem Zn(f)(v):∀fs,f∈(Ep f v fs).map (·.1)/\∀g,g∈fs.map (·.1)->g∈(Ep f v fs).map (·.1)
 |[]=>#[by simp[Ep],λg h=>by simp at h]
 | (k,x)::r=>by
  let#[i,j]:=Zn f v r
  rw[show Ep f v ((k,x)::r)=(if k=f then(k,v)::r else(k,x)::Ep f v r)from rfl]
  by_cases d:k=f
  .rw[if_pos d];subst d;exact#[.d,λg h=>by simpa using h]
  rw[if_neg d];refine#[?_,λg h=>?_]
  .rw[zk];exact zZ _ i
  .rw[zk]at h⊢;rcases zj.mp h with e|e
   .exact zj.mpr (.inl e)
   exact zZ _ (j g e)
theorem dt(f)(v):∀fs,(Ep f v fs).length<=fs.length+1
 |[]=>by simp[Ep]
 |(k,x)::r=>by
  have i:=dt f v r
  rw[show Ep f v ((k,x)::r)=(if k=f then(k,v)::r else(k,x)::Ep f v r)from rfl]
  by_cases d:k=f
  .rw[if_pos d,q9,q9];lia
  rw[if_neg d,q9,q9];lia
def K'.some_of(r:K' .ED o):∃u,o=u7 u/\RelV v u:=by
 rcases o with _|u
 .exact(r).elim
 exact#[u,rfl,r]
def K'.none_of(r:K' u8 o):o=u8:=by
 rcases o with _|u
 .rfl
 exact(r).elim
theorem ut(r:RelV v u):wv u=u9:=by
 cases v with
 |WB|bl b=>cases(r);rfl
 |ref a|ty n=>cases(r);rfl
 |_=>let#[t,e]:=(r);cases e;rfl
section
variable{P:xG}{w:xN}{H H':Hp}{h h':Heap}{a C dx:xB}{fs fs':List (Str×V)}
def aP(j:ZV P w H h)(e:H a=u7 .Bj):∃i,y? h a dx C i/\(∀f,K' .Fu (i f))/\xg i (fs.map (·.1))/\fs.length<=1000/\H dx=u7 (.own a):=by let#[d,z,y,B,i,n,r,q]:=(j a _ e);exact#[i,#[B,n,y],r,q,z,d]
end
structure q? (K:za) (C:xB):Prop where
 pg:jb K C Str.empty=u9
 hd:xh K C=u9
 po:ww K C=u9
 sa:zh K .AR "__setattr__"=u7 (u7 (.builtin "object.__setattr__"))
def q?.get{K:za}{C:xB}(c:q? K C)(f):jb K C f=u9:=c.pg
def XJ(K:za)(C:xB)(f:Str):Prop:=zh K .AR f=u7 u8
def XJ.taker{K:za}{C:xB}{f:Str}(n:XJ K C f):vb K C f=u7 u8:=by
 unfold vb;rw[n]
 rfl
structure Z? (K:za) (C:xB) (m:Str) (f:xB):Prop where
 at_:zh K .AR m=u7 .Jo
 fn:vU K .Ae=u9
 kp:qh K .Ae=u9
section
variable{X:Cx}{vT:List (xB×Obj)}{σ:St}{H:Hp}{s:xI}{a C dx:xB}{fs:List (Str×V)}{f:Str}{v:V}{A:xC}{E:xM->xI->Prop}
def du(I:Inv X vT σ H s)(e:H a=u7 .Bj)(c:q? X.K C)(n:XJ X.K C f)(l:fs.lookup f=u7 v)
  (h:∀u s',Inv X vT σ H s'->RelV v u->Q u s'):vA .AB A (getAttr .Aq f b) Q E s:=by
 let#[j,O,r,_,_,_]:=aP I.VF e;let#[u,i,d]:=K'.some_of (by rw[<-l];exact r f);exact ul I.YW O (c.get f) c.hd n i (ut d) (h u _ (I.tok _) d)
def dv(I:Inv X vT σ H s)(e:H a=u7 .Bj)(c:q? X.K C)(k:Z? X.K C m g)(l:fs.lookup m=u8)
  (h:Q (.ref g,[.ref a]) s):vA .AB A (getMethod .Aq m pl) Q E s:=by
 let#[d,O,r,_,_,_]:=aP I.VF e;exact um I.YW O (c.get m) k.at_ k.fn (K'.none_of (by rw[<-l];exact r m)) h
def dw(I:Inv X vT σ H s)(e:H a=u7 .Bj)(c:q? X.K C)(n:XJ X.K C f)(Y:fs.length<1000)(U:RelV y u)
  (h:∀s',Inv X vT σ (upd H a (.ins C dx (Ep f y fs))) s'->Q () s'):vA .AB A (setAttr .Aq f u) Q E s:=by
 let#[W,O,r,i,_,B]:=aP I.VF e
 have J:(fs.map (·.1)).length<=sizeLine:=by rw[zq,vj];lia
 refine uo I.YW O c.sa c.po n.taker c.hd i J λL d N=>h _ ?_
 have j:∃o,L.get? dx=u7 o:=let#[o,_,_,M,_]:=d.ns;#[o,M];refine I.write (e▸True.intro) (.inr B) (λb q S z=>(N.2 b S).trans z) j ?_;refine#[(Aw O.ne)▸B,?_,O.ne,d.obj,_,d.ns,λg=>?_,λg F=>?_]
 .have:=dt f y fs;lia
 .rw[dr];by_cases q:g=f
  .rw[if_pos q,if_pos q];exact U
  rw[if_neg q,if_neg q];exact r g
 by_cases q:g=f
 .rw[q];exact(Zn f y fs).1
 .refine(Zn f y fs).2 g (i g λz=>F ?_);show(if g=f then u7 u else W g)=u8;rw[if_neg q];exact z
def Inv.made(I:Inv X vT σ H s):Inv X vT σ (upd (upd H s.heap.objs.size (.own (s.heap.objs.size+1))) (s.heap.objs.size+1) (.ins C s.heap.objs.size []))
  {s with heap:=(s.heap.push qb).push .DG}:=by
 have e1:(s.heap.push qb).get? s.heap.objs.size=u7 qb:=zD s.heap rfl;have e2:((s.heap.push qb).push .DG).get? (s.heap.objs.size+1)=u7 (zi C s.heap.objs.size):=by have:=zD (s.heap.push qb) (o:=zi C s.heap.objs.size) rfl;rwa[qI]at this
 refine(I.laid (a:=s.heap.objs.size) (o:=.own (s.heap.objs.size+1)) (h':=s.heap.push qb) (t':=s.toks) (λb u q=>zQ _ q) .AK #[_,e1]).laid (λb u q=>zQ _ q) (Nat.le_of_eq (qI _ _)) ?_;have ne:s.heap.objs.size≠s.heap.objs.size+1:=qQ (qA _);refine#[by rw[Aw ne,Gg],xV _,ne,e2,λ_=>u8,(Heap.Ns1.of_empty #[qb,[].toArray,_,e1,rfl,(λe he=>absurd he .d),λ_=>rfl]).at λo q=>zQ _ q,λ_=>True.intro,λy hy=>absurd rfl hy]
def uu{f:Str}(i:xP e f env (eval e env)=eval e env)
  (h:vA .AC A (eval e env) (λo d=>vA .AC A (getAttr o f u9) Q E d) E s):vA .AC A (eval .Dh env) Q E s:=
 Attribute_any_ h (by rw[arm_eval_Attribute,i])
end
def tFld(K:za)(ta:TE)(f:Str):TE:=λσ H Q=>ta σ H λx H1=>∃a C dx fs v,x=.ref a/\H1 a=u7 .Bj/\q? K C/\XJ K C f/\fs.lookup f=u7 v/\Q v H1
def sFld(K:za)(ta tv:TE)(f:Str):TS:=λD σ H=>tv σ H λy H1=>ta σ H1 λx H2=>∃a C dx fs,x=.ref a/\H2 a=u7 .Bj/\q? K C/\XJ K C f/\fs.length<1000/\
 D.nx σ (upd H2 a (.ins C dx (Ep f y fs)))
def InOp(X:Cx)(op:Operator)(rd:V->V->Hp->VK->Prop):Prop:=
 ∀(vT:List (xB×Obj))(s:xI)(σ:St)(H:Hp)(x y:V)(u v:xM)(Q:VK),Inv X vT σ H s->RelV x u->RelV y v->rd x y H Q->vA .AB X.A (inplaceOp op u v) (EP X vT σ Q) X.xe s
def vm(K:za)(ta tv:TE)(rd:V->V->Hp->VK->Prop)(f:Str):TS:=λD σ H=>ta σ H λx H1=>∃a C dx fs v,x=.ref a/\H1 a=u7 .Bj/\q? K C/\XJ K C f/\fs.lookup f=u7 v/\
 tv σ H1 λy H2=>rd v y H2 λz H3=>∃dx' fs',H3 a=u7 (.ins C dx' fs')/\fs'.length<1000/\D.nx σ (upd H3 a (.ins C dx' (Ep f z fs')))
section
variable{X:Cx}{o e value:xD}{f:Str}{pos pos' tpos:Pos}{ta tv:TE}
def vp(F:PE X e ta)(N:xP e f X.env .C8=eval e X.env):PE X .Dh (tFld X.K ta f):=by intro d s y H Q I h;refine uu N (ZD (F d s y H _ I h) λu S i=>?_);let#[x,J,O,B,a,C,W,fs,v,M,z,c,n,l,q]:=i;subst M;obtain rfl:u=Value.ref a:=B;exact du O z c n l λY U j L=>#[v,J,j,L,q]
def vr(F:PE X o ta)(U:PE X value tv)(hs:swapsWith value (u7 .FJ) pos.line X.env=pure uA):PS X (.Assign [.Attribute o f pos'] value pos) (sFld X.K ta tv f):=by intro d s i H D I h;refine plainObj_wpAny_Assign_Attribute (ZD (U d s i H _ I h) λu M #[y,N,L,O,q]=>ZD (F d M i N _ L q) λW s2 j=>?_) hs;let#[x,H2,Y,S,a,C,dx,fs,J,Z,c,n,l,z]:=j;subst J;obtain rfl:W=Value.ref a:=S;exact dw Y Z c n l O λs3 B=>#[i,_,B,z]
def vt(N:PE X o ta)(hv:PE X value tv)(B:InOp X op rd):PS X (.AugAssign .FK op value pos) (vm X.K ta tv rd f):=by intro d s i H D I h;refine wpAny_AugAssign_AttributeAny (ZD (N d s i H _ I h) λov s1 F=>?_);let#[x,Y,U,rx,a,C,dx,fs,v,S,ea,c,n,l,q]:=F;subst S;obtain rfl:ov=Value.ref a:=rx;exact du U ea c n l λu M I2 ru=>ZD (hv d M i Y _ I2 q) λw3 L #[y,H2,J,ry,O]=>ZD (B d L i H2 v y u w3 _ J ru ry O) λw4 s4 #[z,H3,W,rz,dx',fs',j,Z,q4]=>(dw W j c n Z rz λs5 I5=>#[i,_,I5,q4])
end
structure VH (k:Nat) (A:xC):Prop where
 hd:A.handled=u8
 dp:A.depth+3*k+5<recursionLimit
 un:A.units+16*k+200<cLine
def VH.mono(r:VH k A)(h:j<=k):VH j A:=#[r.hd,by have:=r.dp;lia,by have:=r.un;lia]
def VH.deeper(r:VH (k+1) A)(env):VH k (A.deeper env):=
 #[r.hd,by have:=r.dp;show A.depth+1+3*k+5<_;lia,by have:=r.un;show A.units+3+16*k+200<_;lia]
def wm{A:xC}{C:xB}{us:List xM}{d:List (Str×xM)}:(A.under (.builtin "type.__call__" #[.ref C::us,d])).depth=A.depth+1:=by
 first|rfl|simp
def wn{A:xC}{C:xB}{us:List xM}{d:List (Str×xM)}:(A.under (.builtin "type.__call__" #[.ref C::us,d])).units=A.units+1:=by
 first|rfl|simp
def VH.make(r:VH (k+1) A)(C)(us)(d):VH k (A.under (.builtin "type.__call__" #[.ref C::us,d])):=
 #[r.hd,by have:=r.dp;rw[wm];lia,by have:=r.un;rw[wn];lia]
def VH.depth(r:VH k A):A.depth<recursionLimit:=by have:=r.dp;lia
def VH.units(r:VH k A):A.units+64<cLine:=by have:=r.un;lia
def Sg:TA:=λ_ H Q=>Q [] H
def aQ(ta:TE)(tr:TA):TA:=λσ H Q=>ta σ H λx H1=>tr σ H1 λxs H2=>Q (x::xs) H2
section
variable{X:Cx}{e:xD}{es:List xD}{te:TE}{t:TA}{pos:Pos}
def wo:PA X [] Sg:=λ_ _ _ _ H Q I h=>Calls.spliced_nil #[[],H,I,.nil,h]
def wt(M:PE X e te)(S:PA X es t)(z:vv (e::es) X.env=(uA,eval e X.env)::vv es X.env:=by rfl):PA X (e::es) (aQ te t):=by intro i d s j H Q I h;rw[z];show vA _ _ (spliced ((uA,eval e X.env)::xR i .BH)) _ _ s;exact Calls.spliced_cons (ZD (M d s j H _ I h) λu F #[x,L,U,J,O]=>(ZD (S i d F j L _ U O) λW Y #[N,q,y,B,n]=>#[x::N,q,y,.cons J B,n]))
def tTup(t:TA):TE:=λσ H Q=>t σ H λxs H1=>xs.length<=sizeLine/\∀p,H1 p=u8->Q .AL (upd H1 p .Aj)
def tLst(t:TA):TE:=λσ H Q=>t σ H λxs H1=>xs.length<=sizeLine/\∀p,H1 p=u8->Q .AL (upd H1 p .AI)
def wu{x1}(h:PA X es t):PE X .F8 (tTup t):=by intro d s n H Q I y;refine wpAny_Tuple_spliced (ZD (h pos d s n H _ I y) λB i #[J,F,j,r,z,q]=>#[by rw[<-r.length];exact z,?_]);exact#[.ref i.heap.objs.size,upd F i.heap.objs.size (.tup J),j.laid (λb u e=>zQ _ e) .AK (#[z,B,r,#[_,zD _ rfl,rfl,_,rfl]]),rfl,q _ .Ke]
def xl(h:PA X es t):PE X .Hq (tLst t):=by intro d s n H Q I y;refine wpAny_List_spliced (ZD (h pos d s n H _ I y) λB i #[J,F,j,r,z,q]=>#[by rw[<-r.length];exact z,?_]);exact#[.ref i.heap.objs.size,upd F i.heap.objs.size (.lst J),j.laid (λb u e=>zQ _ e) .AK #[z,B,0,r,zD _ rfl],rfl,q _ .Ke]
end
abbrev Sp:=List V->Hp->VK->XK->Prop
abbrev z?:=List Env->Hp->xI->XK->xM->xI->Prop
structure A? (P:xG) (w:xN) (K:za) (mg:Str->Option xM) (base:Heap) (A:xC) (outer:List Env) (s:xI) (H:Hp):Prop where
 frames:A.frames=u7 outer
 mod:Mod K mg base
 bs:∀b o,base.get? b=u7 o->s.heap.get? b=u7 o/\H b=u8
 bsz:base.objs.size<=s.heap.objs.size
 YT:s.heap.FunFrames base outer
 frf:∀b∈frs outer,H b=u8
 VF:ZV P w H s.heap
 bare:AllBare s.gens
def CE(outer:List Env)(P:xG)(w:xN)(H:Hp)(s:xI)(Q:VK)(u:xM)(s':xI):Prop:=
 ∃v H',s'.os=s.os/\AllBare s'.gens/\Un (frs outer) [] H H' s.heap s'.heap/\ZV P w H' s'.heap/\RelV v u/\Q v H'
def CR(CX:z?)(outer:List Env)(P:xG)(w:xN)(H:Hp)(s:xI)(Q:VK)(E:XK)(r:Result)(s':xI):Prop:=
 match r with
 |.ok (.ret u)=>CE outer P w H s Q u s'
 |.ok _=>False
 |.error e=>CX outer H s E e s'
structure WM (P:xG) (w:xN) (K:za) (mg:Str->Option xM) (base:Heap) (CX:z?) (k:Nat) (f:xB) (fd:xE) (ps:List Str) (sp:Sp):Prop where
 len:∀vs H Q E,sp vs H Q E->vs.length=ps.length
 run:∀(A:xC)(outer:List Env)(s:xI)(H:Hp)(args:Args)(us:List xM)(vs:List V)(Q:VK)(E:XK),VH k A->A? P w K mg base A outer s H->BindsTo s fd args .CL->Vals vs us->sp vs H Q E->
  codeAny .Cy A .Kf (CR CX outer P w H s Q E) s
def A?.make{w:xN}{K:za}{i:Str->Option xM}{d:Heap}{A:xC}{outer:List Env}{H:Hp}(e:A? P w K i d A outer s H)(C)(us)(j):
  A? P w K i d (A.under (.builtin "type.__call__" #[.ref C::us,j])) outer s H:=#[by first|exact e.frames|(simpa using e.frames),e.mod,e.bs,e.bsz,e.YT,e.frf,e.VF,e.bare]
section
variable{X:Cx}{vT:List (xB×Obj)}{σ:St}{H:Hp}{s s':xI}
def Inv.env0(I:Inv X vT σ H s):A? X.prog X.w X.K X.mg X.base X.A X.stack s H:=
 #[I.ok.frames,I.ok.mod,I.bs,zx I.ok.bsz I.sz,I.stack,I.dh,I.VF,I.bare]
def Inv.after(I:Inv X vT σ H s)(h:CE X.stack X.prog X.w H s Q u s'):EP X vT σ Q u s':=by let#[v,B,y,i,un,n,r,q]:=h;let#[F,g,d,t,j]:=s';obtain rfl:j=s.os:=y;exact#[v,B,I.call un n i (λb z=>absurd z .d),r,q]
end
def xm(sp:Sp)(WY:List V)(E:XK)(t:TA):TE:=λσ H Q=>t σ H λvs H1=>sp (vs++WY) H1 Q E
def aR(C:xB)(m:Str)(sp:Sp)(WY:List V)(E:XK)(ta:TE)(t:TA):TE:=λσ H Q=>ta σ H λx H1=>∃a dx fs,x=.ref a/\H1 a=u7 .Bj/\fs.lookup m=u8/\
 t σ H1 λvs H2=>sp (x::(vs++WY)) H2 Q E
def dy(C:xB)(sp:Sp)(WY:List V)(E:XK)(t:TA):TE:=λσ H Q=>t σ H λvs H1=>∀x dx,H1 x=u8->H1 dx=u8->dx≠x->
 sp (.ref x::(vs++WY)) (upd (upd H1 dx .Ef) x (.ins C dx [])) (λv H2=>v=.WB/\Q .Dv H2) E
def Binds(K:za)(fd:xE)(ps:List Str)(ds:List xM):Prop:=
 ∀(s:xI)(us:List xM),K.In s.heap->(us++ds).length=ps.length->BindsTo s fd #[us,[]] (ps.zip (us++ds))
def Binds.all{K:za}{i:xE}{ps:List Str}(h:∀us,us.length=ps.length->bindArgs i #[us,[]]=pure .CL):Binds K i ps []:=λs us _ d=>by rw[qH]at d⊢;exact .of_eq (h us d)
def Passes(CX:z?)(X:Cx)(E:XK):Prop:=∀(vT:List (xB×Obj))(σ:St)(H:Hp)(s:xI)(e:xM)(s':xI),Inv X vT σ H s->CX X.stack H s E e s'->X.xe e s'
section
variable{X:Cx}{CX:z?}{k:Nat}{f C:xB}{fd:xE}{ps:List Str}{sp:Sp}{WY:List V}{ds:List xM}{E:XK}{x m:Str}{p pos apos:Pos}{e o:xD}{es:List xD}{ta:TE}{t:TA}
theorem aS{d:St}{H:Hp}{Q:VK}{us:List xM}{vs:List V}(F:WM X.prog X.w X.K X.mg X.base CX k f fd ps sp)(B:VH k X.A)(z:Binds X.K fd ps ds)(J:Vals WY ds)(n:Passes CX X E)
  (I:Inv X vT d H s) (r:Vals vs us) (h:sp (vs++WY) H Q E):vA .AB X.A (call .Ae us) (EP X vT d Q) X.xe s:=by
 have j:=r.append J;have q:(us++ds).length=ps.length:=by rw[<-j.length];exact F.len _ _ _ _ h
 refine wpAny_call (vJ (F.run X.A X.stack s H #[us,[]] (us++ds) (vs++WY) Q E B I.env0 (z s us I.YW q) j h) λr y i=>?_);rcases r with e|fl
 .exact n vT d H s e y I i
 cases fl with
 |ret u=>exact I.after i
 |_=>exact False.elim i
def xn(F:WM X.prog X.w X.K X.mg X.base CX k f fd ps sp)(O:VH k X.A)(J:Gl X x)(B:X.mg x=u7 .Ae)(U:qh X.K .Ae=u9)(M:Binds X.K fd ps ds)(S:Vals WY ds)(y:Passes CX X E)
  (N:PA X (e::es) t) (i:(x==("__debug__":Str))=uA:=by decide) (L:vv (e::es) X.env=(uA,eval e X.env)::vv es X.env:=by rfl) (j:(xR pos .BH).any (·.1)=uA:=by rfl):
  PE X (.Call .CM (e::es) [] pos) (xm sp WY E t):=by
 intro d s z H Q I h;refine vB (Wi I J B ?_ i);exact vc I.ok.mod.kin U (ZD (N pos d s z H _ I h) λY Z #[vs,H1,n,r,q]=>#[n.YW,aS F O M S y n r q]) L j
def xo{pl:Sem Bool}(N:PE X o ta)(c:q? X.K C)(y:Z? X.K C m f)(F:WM X.prog X.w X.K X.mg X.base CX k f fd ps sp)(hr:VH k X.A)(hb:Binds X.K fd ps ds)(hd:Vals WY ds)(U:Passes CX X E)(O:PA X (e::es) t)
  (i:vv (e::es) X.env=(uA,eval e X.env)::vv es X.env:=by rfl) (j:(xR pos .BH).any (·.1)=uA:=by rfl)
  (ht:eval (.Call .A1 (e::es) [] pos) X.env=(do
   let ov<-eval o X.env
   standAt apos.atName
   let(f,first)<-holding [ov] .Cu
   callWith pos f first (xR pos (vv (e::es) X.env)) (xS pos (vW [] X.env))):=by rfl):
  PE X (.Call .A1 (e::es) [] pos) (aR C m sp WY E ta t):=by
 intro d s B H Q I h;refine w5 (ZD (N d s B H _ I h) λu Y L=>?_) ht;let#[x,Z,n,rx,a,dx,fs,S,ea,l,q]:=L;subst S;obtain rfl:u=Value.ref a:=rx;refine dv n ea c y l ?_;exact vc I.ok.mod.kin y.kp (ZD (O pos d Y B Z _ n q) λus s2 #[z,H2,J,r,M]=>#[J.YW,aS (vs:=.ref a::z) F hr hb hd U J (.cons rfl r) M]) i j
def xp(L:PE X o ta)(c:q? X.K C)(j:Z? X.K C m f)(F:WM X.prog X.w X.K X.mg X.base CX k f fd ps sp)(S:VH k X.A)(N:Binds X.K fd ps ds)(U:Vals WY ds)(n:Passes CX X E)
  (M:eval (.Call .A1 [] [] pos) X.env=(do
   let ov<-eval o X.env
   standAt apos.atName
   let(f,first)<-holding [ov] .Cu
   callWith pos f first (xR pos (vv [] X.env)) (xS pos (vW [] X.env))):=by rfl):
  PE X (.Call .A1 [] [] pos) (aR C m sp WY E ta Sg):=by
 intro d s z H Q I h;refine w5 (ZD (L d s z H _ I h) λu Y y=>?_) M;let#[x,Z,i,J,a,dx,fs,O,B,l,q]:=y;subst O;obtain rfl:u=Value.ref a:=J;exact dv i B c j l (w6 i.YW j.kp (aS (vs:=[.ref a]) F S N U n i (.cons rfl .nil) q))
structure Mk (K:za) (C f:xB):Prop where
 makes:wk K C=u9
 init:zh K .AR "__init__"=u7 .Jo
 fn:vU K .Ae=u9
 kp:qh K .AR=u9
theorem dz{σ:St}{H:Hp}{Q:VK}{us:List xM}{vs:List V}(M:Mk X.K C f)(F:WM X.prog X.w X.K X.mg X.base CX k f fd ps sp)(hr:VH (k+1) X.A)(hb:Binds X.K fd ps ds)(hd:Vals WY ds)
  (hx:Passes CX X E) (I:Inv X vT σ H s) (r:Vals vs us)
  (h:∀x dx,H x=u8->H dx=u8->dx≠x->sp (.ref x::(vs++WY)) (upd (upd H dx .Ef) x (.ins C dx [])) (λv H2=>v=.WB/\Q .Dv H2) E):
  vA .AB X.A (call .AR us) (EP X vT σ Q) X.xe s:=by
 have hq:=h (s.heap.objs.size+1) s.heap.objs.size (I.VF.fresh (jG _)) .JM (qQ (qA _));have I2:=Inv.made (C:=C) I;have r2:Vals (V.ref (s.heap.objs.size+1)::(vs++WY)) (Value.ref (s.heap.objs.size+1)::(us++ds)):=.cons rfl (r.append hd);have hl:(Value.ref (s.heap.objs.size+1)::us++ds).length=ps.length:=by have e:=r2.length;rw[F.len _ _ _ _ hq]at e;exact e.symm
 refine wpAny_call (ur I.YW M.makes M.init (beq_iff_eq.mp M.fn) (vJ (F.run _ X.stack _ _ #[Value.ref (s.heap.objs.size+1)::us,[]] (Value.ref (s.heap.objs.size+1)::(us++ds)) _ _ E (hr.make C us [])
  (I2.env0.make C us []) (hb _ (Value.ref (s.heap.objs.size+1)::us) I2.YW hl) r2 hq) λr s' hq'=>?_))
 rcases r with e|fl
 .exact hx vT σ _ _ e s' I2 hq'
 cases fl with
 |ret u=>
  let#[v,H',I3,rv,ev,q3]:=I2.after hq';subst ev;exact#[rv,#[V.ref (s.heap.objs.size+1),H',I3,rfl,q3]]
 |_=>exact False.elim hq'
def xr(M:Mk X.K C f)(F:WM X.prog X.w X.K X.mg X.base CX k f fd ps sp)(S:VH (k+1) X.A)(J:Gl X x)(B:X.mg x=u7 .AR)(N:Binds X.K fd ps ds)(U:Vals WY ds)(y:Passes CX X E)
  (O:PA X (e::es) t) (i:(x==("__debug__":Str))=uA:=by decide) (L:vv (e::es) X.env=(uA,eval e X.env)::vv es X.env:=by rfl) (j:(xR pos .BH).any (·.1)=uA:=by rfl):
  PE X (.Call .CM (e::es) [] pos) (dy C sp WY E t):=by
 intro d s z H Q I h;refine vB (Wi I J B ?_ i);exact vc I.ok.mod.kin M.kp (ZD (O pos d s z H _ I h) λY Z #[vs,H1,n,r,q]=>#[n.YW,dz M F S N U y n r q]) L j
def xt(M:Mk X.K C f)(F:WM X.prog X.w X.K X.mg X.base CX k f fd ps sp)(z:VH (k+1) X.A)(q:Gl X x)(n:X.mg x=u7 .AR)(y:Binds X.K fd ps ds)(B:Vals WY ds)(j:Passes CX X E)
  (d:(x==("__debug__":Str))=uA:=by decide):PE X (.Call .CM [] [] pos) (dy C sp WY E Sg):=by
 intro i s J H Q I h;exact vB (Wi I q n (w6 I.YW M.kp (dz M F z y B j I .nil h)) d)
end
def PK(X:Cx)(kws:List Keyword)(t:TA):Prop:=
 ∀(pos:Pos)(vT:List (xB×Obj))(s:xI)(σ:St)(H:Hp)(Q:List V->Hp->Prop),Inv X vT σ H s->t σ H Q->vA .AB X.A (evalAll ((xS pos .Hr).map (·.2))) (AP X vT σ Q) X.xe s
section
variable{X:Cx}{CX:z?}{k:Nat}{f C:xB}{fd:xE}{ps ks:List Str}{sp:Sp}{E:XK}{x m:Str}{p pos apos kpos:Pos}{e o:xD}{es:List xD}{kws:List Keyword}{te ta:TE}{t tk:TA}{nm:Option Str}
def xu:PK X [] Sg:=λ_ _ _ _ H Q I h=>wpAny_evalAll_nil #[[],H,I,.nil,h]
def yA(L:PE X e te)(O:PK X kws t):PK X (#[nm,e,kpos]::kws) (aQ te t):=by
 intro i d s j H Q I h
 show vA _ _ (evalAll ((do let v<-eval e X.env;standAt i;pure v)::(xS i .Hr).map (·.2))) _ _ s
 exact wpAny_evalAll_cons (vC (ZD (L d s j H _ I h) λu B #[x,J,S,F,N]=>vC (wpAny_standAt (vM (ZD (O i d B j J _ S N) λU W #[M,q,y,z,n]=>#[x::M,q,y,.cons F z,n])))))
variable{g:List xM->List xM->List xM}{gV:List V->List V->List V}
end
structure YD (N P:List Str) (sc:xH):Prop where
 kind:sc.kind=.function
 co:sc.isCoroutine=uA
 gen:sc.isGenerator=uA
 nd:N.Nodup
 pre:N.take P.length=P
 par:∀x∈P,sc.names.lookup x=u7 .local\/sc.names.lookup x=u7 .cell
 nofree:∀y∈sc.names,y.2≠ .free
theorem eA{d:Str->Option xF}{x:Str}:∀{binds:List (Str×xM)}{m:Str->Option xM},(∀v,(x,v)∉binds)->bindL d binds m x=m x
 |[],_,_=>rfl
 | (n,v)::r,m,h=>by
  unfold bindL;rw[eA λw i=>h w .I2];split
  .have:x≠n:=by rintro rfl;exact h v zW
   simp[this]
  rfl
theorem eB{d:Str->Option xF}{x:Str}:∀{binds:List (Str×xM)}{m:Str->Option xM},(∀v,(x,v)∉binds)->bindC d binds m x=m x
 |[],_,_=>rfl
 |(n,v)::r,m,h=>by
  unfold bindC;rw[eB λw i=>h w .I2];split
  .rfl
  have:x≠n:=by rintro rfl;exact h v zW
  simp[this]
theorem eC{d:Str->Option xF}{x:Str}{v:xM}:∀{P:List Str}{vs:List xM}{i:Nat}{m:Str->Option xM},P.Nodup->P[i]?=u7 x->vs[i]?=u7 v->d x=u7 .local->
  bindL d (P.zip vs) m x=u7 v
 |[],_,_,_,_,h,_,_|_::_,[],_,_,_,_,h,_=>by simp at h
 |p::P,w::vs,0,m,q,j,n,y=>by simp at j n;subst j;subst n;show bindL d ((p,w)::P.zip vs) m p=_;unfold bindL;simp[eA λv z=>(qS.mp q).1 (List.of_mem_zip z).1,if_pos y]
 |p::P,w::vs,i+1,m,q,j,n,y=>by unfold bindL;exact eC (qS.mp q).2 (by simpa using j) (by simpa using n) y
theorem eE{d:Str->Option xF}{x:Str}{v:xM}:∀{P:List Str}{vs:List xM}{i:Nat}{m:Str->Option xM},P.Nodup->P[i]?=u7 x->vs[i]?=u7 v->d x≠u7 .local->
  bindC d (P.zip vs) m x=u7 v
 |[],_,_,_,_,h,_,_|_::_,[],_,_,_,_,h,_=>by simp at h
 |p::P,w::vs,0,m,q,j,n,y=>by simp at j n;subst j;subst n;show bindC d ((p,w)::P.zip vs) m p=_;unfold bindC;simp[eB λv z=>(qS.mp q).1 (List.of_mem_zip z).1,if_neg y]
 |p::P,w::vs,i+1,m,q,j,n,y=>by unfold bindC;exact eE (qS.mp q).2 (by simpa using j) (by simpa using n) y
def start(N:List Str)(vs:List V):St:=vs.map u7++zK (N.length-vs.length) u8
def Qx(CX:z?)(P:xG)(w:xN)(K:za)(mg:Str->Option xM)(base:Heap)(N:List Str)(qual:Str)(scope:xH)(f:xB)(cd:xM)(A:xC)(outer:List Env)(s:xI)(H:Hp)(E:XK):Cx where
 prog:=P
 w:=w
 K:=K
 mg:=mg
 base:=base
 A:=A.deeper .Ba
 N:=N
 s₀:=s
 H₀:=H
 env:=envOfC qual scope s.heap.objs.size f cd
 outer:=outer
 stack:=envOfC qual scope s.heap.objs.size f cd::outer
 ex:=[]
 calm:=u9
 fn:=λ_=>u9
 pn:=[]
 xe:=λe s'=>vA .Cy (A.deeper .Ba) (leaving .Ba e) (λ_ s''=>CX outer H s E e s'') (λe' s''=>CX outer H s E e' s'') s'
def eF{d:xH}{n:Nat}{x:Str}(h:d.names.lookup x=u7 .cell):∃c,(cellsFrom n d.names []).lookup x=u7 c:=by exact jE.mp (w8 d.names n [] .Ix)
def yB{CX:z?}{w:xN}{K:za}{O:Str->Option xM}{n:Heap}{N ps:List Str}{qual:Str}{d:xH}{f:xB}{cd:xM}{A:xC}{outer:List Env}{U:xI}{H:Hp}{E:XK}{us:List xM}{vs:List V}
  (S:YD N ps d) (hd:A.handled=u8) (B:A? P w K O n A outer s H) (hl:vs.length=ps.length) (r:Vals vs us)
  (x:InCallC s s.heap.objs.size (bindL (envOfC qual d s.heap.objs.size f cd).kindOf .CL λ_=>u8) (cellsFrom (s.heap.objs.size+1) d.names []) (bindC (envOfC qual d s.heap.objs.size f cd).kindOf .CL λ_=>u8) U):
  Inv (Qx CX P w K O n N qual d f cd A outer s H E) [] .Eh H U:=by
 have hpl:ps.length<=N.length:=by have:=congrArg qG S.pre;rw[j0]at this;lia
 let#[L,tk,rfl,Z]:=x.done
 have noA:∀b,b∉(Qx CX P w K O n N qual d f cd A outer s H E).ex:=λb z=>absurd (show b∈([]:List xB)from z) .d
 refine#[#[B.mod,S.kind,rfl,rfl,zX _,λy z c L j=>?_,λy F=>?_,λy c _ h=>?_,λ_=>hd,Around.frames_deeper B.frames,.inr #[rfl,rfl],λb z=>absurd z (noA b),B.bs,B.bsz,λb _ _=>noA b,λb z=>absurd z (noA b),B.YT,B.frf],
  rfl,B.bare,Un.kept Z,#[_,x.toInCall.ns,λi y v L j h3=>?_],λy c h=>#[_,x.cell y c h],B.VF.fresh .AK,λy c h=>?_,λp I=>absurd (show p∈([]:List (xB×Obj))from I) .d,B.VF.kept Z,?_]
 .exact name_of_addr x.apart (zf L) (zf j)
 .have F:=F;rcases F with F|F
  .exact eF F
  exact absurd rfl (S.nofree _ (zf F))
 .exact Nat.le_of_lt (x.above y c (zf h))
 .have M:i<vs.length:=by
   unfold start at j;by_cases M:i<vs.length
   .exact M
   rw[zM (by simpa using M)]at j;rw[jw]at j
   split at j<;>cases j
  have ha:vs[i]?=u7 v:=by
   unfold start at j;rw[zE (by simpa using M),zG]at j;rcases e:vs[i]? with _|a
   .rw[e]at j;cases j
   rw[e]at j;cases j;rfl
  let#[u,Y,rv]:=r.get ha;have I:ps[i]?=u7 y:=by rw[<-S.pre,jK .a];exact L
  have J:ps.Nodup:=by rw[<-S.pre];exact S.nd.sublist (List.take_sublist _ _)
  refine#[u,rv,?_];rcases S.par y (jY I)with k|k
  .exact .inl #[k,eC J I Y k]
  let#[c,e]:=eF k;refine .inr #[.inl k,c,e,?_];have q:=x.cell y c e;rw[eE J I Y (by show d.names.lookup y≠_;rw[k];decide)]at q;exact q
 .exact B.VF.fresh (Nat.le_of_lt (x.above y c (zf h)))
 unfold start;show _=N.length;rw[qw,zq,jV];lia
theorem yC{CX:z?}{w:xN}{K:za}{mg:Str->Option xM}{j:Heap}{k:Nat}{f:xB}{name qual:Str}{i:Arguments}{B:List xL}{d:xH}{dV kV U pm z ct oc:xM}{an od:Option xB}
  {osl:Array .DI} {N ps:List Str} {sp:Sp} (lk:K.lookup f=u7 #[oc,od,.func (jc name qual i B d dV kV U pm an z ct),osl]) (hcd:w9 K z qual=u9) (S:YD N ps d)
  (len:∀vs H Q E,sp vs H Q E->vs.length=ps.length)
  (L:∀A outer s H vs Q E,VH k (A.deeper (envOfC qual d s.heap.objs.size f z))->sp vs H Q E->
   ∃t,e? (Qx CX P w K mg j N qual d f z A outer s H E) B t/\t {nx:=λ_ H'=>Q .WB H',rt:=Q} .Eh H):
  WM P w K mg j CX (k+1) f (jc name qual i B d dV kV U pm an z ct) ps sp:=by
 refine#[len,λA outer s H args us vs Q E hr O hb r M=>?_];have hl:=len _ _ _ _ M;have KX:=O.mod.kin.keeps λb o e=>(O.bs b o e).1
 have I:∀y∈ps.zip us,d.names.lookup y.1=u7 .local\/(d.names.lookup y.1=u7 .cell/\((cellsFrom (s.heap.objs.size+1) d.names []).lookup y.1).isSome=u9):=λ#[n,v] hy=>by
  rcases S.par n (List.of_mem_zip hy).1 with q|q
  .exact .inl q
  exact .inr #[q,w8 _ _ _ (.inl q)]
 refine codeAny_call_function hr.depth (KX _ _ lk) rfl S.co S.gen rfl (PySem.W.codeRec_of KX hcd) (hb _ _ _ _ ?_);refine wpAny_newFunctionEnv_cells S.kind I λenv he s1 x=>?_
 subst he;refine#[(O.mod.nolimit.keeps λb o e=>(O.bs b o e).1).keeps x.toInCall.keep,codeAny_func ?_];let#[t,ht,hq]:=L A outer s H vs Q E (hr.deeper _) M;refine vH (ht [] s1 .Eh H _ (yB S hr.hd O hl r x) hq) (λfl s' Y=>?_) λe s' Y=>Y
 have Z:∀{F:St}{H':Hp}{v:V}{u:xM},Inv (Qx CX P w K mg j N qual d f z A outer s H E) [] F H' s'->RelV v u->Q v H'->CE outer P w H s Q u s':=
  λ{F H' v u}J rv q=>#[v,H',J.os,J.bare,J.base,J.VF,rv,q]
 cases fl with
 |ret u=>
  let#[v,F,H',J,rv,q]:=Y;exact Z J rv q
 |next=>
  let#[F,H',J,q]:=Y;exact Z (v:=V.WB) J rfl q
 |_=>
  let#[_,_,_,q]:=Y;exact False.elim q
section
variable{X:Cx}{x:Str}{p pos:Pos}{e:xD}{es:List xD}{t:TA}{id T:String}{r:List V->Hp->VK->Prop}
def tCB(r:List V->Hp->VK->Prop)(t:TA):TE:=λσ H Q=>t σ H λvs H1=>r vs H1 Q
def yD(B:VE X .BO r)(y:Gl X x)(q:X.mg x=u8)(M:vQ x=u7 .BO)(N:PA X (e::es) t)(W:x≠"__name__":=by decide)(i:(x==("__debug__":Str))=uA:=by decide)
  (F:vv (e::es) X.env=(uA,eval e X.env)::vv es X.env:=by rfl) (j:(xR pos .BH).any (·.1)=uA:=by rfl):PE X (.Call .CM (e::es) [] pos) (tCB r t):=by
 intro d s n H Q I h;exact vB (Jm I y q M (PyProof.Rows.callWith_builtin1 (ZD (N pos d s n H _ I h) λz L #[U,O,Y,J,S]=>B d L n O U z Q Y J S) F j) W i)
def yE(B:VE X .CD r)(y:Gl X x)(q:X.mg x=u8)(M:vQ x=u7 .CD)(N:PA X (e::es) t)(W:x≠"__name__":=by decide)(i:(x==("__debug__":Str))=uA:=by decide)
  (F:vv (e::es) X.env=(uA,eval e X.env)::vv es X.env:=by rfl) (j:(xR pos .BH).any (·.1)=uA:=by rfl):PE X (.Call .CM (e::es) [] pos) (tCB r t):=by
 intro d s n H Q I h;exact vB (Jm I y q M (qa (ZD (N pos d s n H _ I h) λz L #[U,O,Y,J,S]=>B d L n O U z Q Y J S) F j) W i)
end
end _L
namespace HT
open PySem PyProof.Rows
section
variable{prog:xG}{w:xN}{A:xC}{E:xM->xI->Prop}{s:xI}
def yF(ht:IsTup s.heap t vs.toArray)(hb:IsTup s.heap b j.toArray)(U:vs≠[])
  (h1:j=[]->Q .DS s) (h2:j≠[]->Q .AU {s with heap:=s.heap.push {cls:=.type "tuple",data:=.seq (vs++j).toArray}})
  (UX:vs.length+j.length<=sizeLine):vA .AC A .KT Q E s:=by
 let#[#[N,O,z,Z],J,Y,n,S]:=id ht;let#[#[W,q,M,B],i,y,n2,I]:=id hb;simp only at Y S y I;subst Y S y I;have e:vs.toArray++j.toArray=(vs++j).toArray:=.d
 by_cases L:j=[]
 .exact concat_meets #[_,J,rfl] #[_,i,rfl] noFill_tuple_add seq_tuple_add vd ve .I3
   (tuple_addW1 t b vs.toArray j.toArray n n2 O q Z B (by simpa using U) (by simp[L])) #[J,i,h1 L]
 refine concat_meets #[_,J,rfl] #[_,i,rfl] noFill_tuple_add seq_tuple_add vd ve .I3
  (tuple_addW2 t b vs.toArray j.toArray n n2 O q Z B (by simpa using U) (by simpa using L) (by rw[z0,z0];exact UX)) #[J,i,?_]
 rw[e];exact h2 L
def YE(n d:Nat):Option Int->Nat
 |none=>d
 |some v=>if v<0 then(v+(n:Int)).toNat else min v.toNat n
def yG(n d)(j:d<=n)(o):YE n d o<=n:=by
 rcases o with _|v
 .exact j
 show(if v<0 then(v+(n:Int)).toNat else min v.toNat n)<=n;by_cases i:v<0
 .rw[if_pos i];lia
 rw[if_neg i];exact Nat.min_le_right _ _
def eG(v)(n d:Nat):(if v<0 then max (v+(n:Int)) 0 else min v (n:Int))=((YE n d (u7 v):Nat):Int):=by
 show(if v<0 then max (v+(n:Int)) 0 else min v (n:Int))=(((if v<0 then(v+(n:Int)).toNat else min v.toNat n):Nat):Int);by_cases i:v<0
 .simp only[if_pos i];lia
 simp[if_neg i];lia
def yH(i d)(n:Nat):Builtin.Slice.sliceAdjust i d 1 (n:Int)=(((YE n 0 i:Nat):Int),((YE n n d:Nat):Int)):=by
 have j:¬((1:Int)<0):=.a
 unfold Builtin.Slice.sliceAdjust;simp only[j];refine Prod.ext ?_ ?_
 .rcases i with _|v
  .rfl
  exact eG v n 0
 rcases d with _|v
 .rfl
 exact eG v n n
def yI(i j:Nat):Builtin.Slice.slicePlaces (i:Int) (j:Int) 1=j-i:=by
 unfold Builtin.Slice.slicePlaces;have d:(1:Int)>0:=.a
 simp
 split<;>lia
def eH(p:IsPart v o)(h:Q o s):vA .AC A (Builtin.Slice.slicePartIndex v) Q E s:=by
 rcases p with _|⟨i,t⟩
 .exact slicePart_none h
 exact slicePart_int h
def eI{B:xB}{z y:xM}{d i:Option Int}{n:Nat}{Q:Int×Int×Nat->xI->Prop}(I:s.heap.IsSliceOf B z y .none)(pl:IsPart z d)(F:IsPart y i)
  (h:Q (((YE n 0 d:Nat):Int),1,YE n n i-YE n 0 d) s):vA .AC A (Builtin.Slice.sliceApplied (.ref B) (pure (n:Int))) Q E s:=by
 let#[L,q,J,j]:=id I;unfold Builtin.Slice.sliceApplied Builtin.Slice.sliceFields;refine vC (vC (vF q j (x:=z) rfl (vC (vF q j (x:=y) rfl (vC (vF q j rfl (vM ?_)))))));refine vC (slicePart_none ?_);rw[if_neg .c];refine vC (eH pl (vC (eH F (vC (vM ?_)))))
 show vA _ _ (match Builtin.Slice.sliceAdjust d i 1 (n:Int)with |(d,i)=>pure (d,(1:Int),Builtin.Slice.slicePlaces d i 1)) _ _ s
 rw[yH d i n];show vA _ _ (pure (((YE n 0 d:Nat):Int),(1:Int),Builtin.Slice.slicePlaces ((YE n 0 d:Nat):Int) ((YE n n i:Nat):Int) 1)) _ _ s;rw[yI];exact vM h
def yJ(xs:Array xM)(i k:Nat):((zV k).filterMap λ(m:Nat)=>xs[((i:Int)+(m:Int)*1).toNat]?).toArray=((xs.toList.drop i).take k).toArray:=by
 have e:(λ(m:Nat)=>xs[((i:Int)+(m:Int)*1).toNat]?)=λm=>xs[i+m]? :=by
  funext m;have:((i:Int)+(m:Int)*1).toNat=i+m:=.a
  rw[this]
 rw[e];have:=pick_run xs i k;rw[qC]at this;have d:((λx=>xs[x]?) ∘ λx=>i+x)=λm=>xs[i+m]? :=rfl
 rw[d]at this;rw[this]
def yK{t sl:xB}{items:Array xM}{vl vu:xM}{lo hi:Option Int}{Q:xM->xI->Prop}(ht:IsTup s.heap t items)(hs:s.heap.IsSliceOf sl vl vu .none)(pl:IsPart vl lo)(pu:IsPart vu hi)
  (hw:¬(YE items.size 0 lo=0/\YE items.size items.size hi=items.size))
  (h:Q .AU {s with heap:=s.heap.push {cls:=.type "tuple",data:=.seq ((items.toList.drop .Di).take (YE items.size items.size hi-YE items.size 0 lo)).toArray}})
  (UX:items.size<=sizeLine):vA .AC A (getItem .DS (.ref sl)) Q E s:=by
 have R?:sizeOk (.seq ((items.toList.drop .Di).take (YE items.size items.size hi-YE items.size 0 lo)).toArray):=by show((items.toList.drop .Di).take (YE items.size items.size hi-YE items.size 0 lo)).toArray.size<=sizeLine;rw[z0,j0,jO,jk];exact zx (Nat.min_le_right ..) (zx (Nat.sub_le ..) UX)
 let#[os,hos,hcs,hds]:=id hs;unfold getItem
 try with_reducible refine vG ?_
 first|refine vC (vM ?_)|skip
 refine vC (wpAny_sequenceKey ht.typeIs .c ?_);refine vC (vD ht.typeIs jd
  (vE jd ht.typeIs entry_tuple_getitem ?_ .Ej))
 show vA _ _ (Builtin.Tuple.tupleItemsOf .DS >>=_) _ _ s;refine vC (tupleItemsOf_ ht ?_);refine vC (wpAny_typeOf #[os,hos,hcs] ?_);rw[if_pos .c];refine vC (eI hs pl pu ?_);have hno:¬((((YE items.size 0 lo:Nat):Int)==0&&(1:Int)==1&&(YE items.size items.size hi-YE items.size 0 lo)==items.size)=u9):=by intro q;rw[zN,zN]at q;have q1:=eq_of_beq q.1.1;have q2:=eq_of_beq q.2;exact hw #[.a,.a]
 show vA _ _ (if(((YE items.size 0 lo:Nat):Int)==0&&(1:Int)==1&&(YE items.size items.size hi-YE items.size 0 lo)==items.size)=u9 then _ else _) _ _ s;rw[if_neg hno,yJ]
 first
  |exact vC (vI (vM #[_,rfl,vM h]) R?)
  |exact vC (vI (vC (vM (vM #[_,rfl,vM h]))) R?)
  |exact vC (vC (vI (vM (vM #[_,rfl,vM h])) R?))
  |exact vC (vC (vI (vM #[_,rfl,vM h]) R?))
end
end HT
namespace _L
open PySem PySem.Spec PyProof.Rows
variable{vT:List (xB×Obj)}{s:xI}
abbrev TO:=St->Hp->(Option Int->Hp->Prop)->Prop
def PO(X:Cx)(e:Option xD)(t:TO):Prop:=
 ∀(vT:List (xB×Obj))(s:xI)(σ:St)(H:Hp)(Q:Option Int->Hp->Prop),Inv X vT σ H s->t σ H Q->
  vA .AB X.A (evalPart e X.env) (λu s'=>∃o H',Inv X vT σ H' s'/\IsPart u o/\Q o H') X.xe s
def yL:TO:=λ_ H Q=>Q u8 H
def yM(t:TE):TO:=λσ H Q=>t σ H λx H1=>∃i,x=.int i/\Q (u7 i) H1
section
variable{X:Cx}{e:xD}{te:TE}{lo hi:Option xD}{tl th:TO}{pos p2:Pos}
def yN:PO X u8 yL:=by intro d s i H Q I h;rw[evalPart_none];exact vM #[u8,H,I,.none,h]
def yO(h:PE X e te):PO X .Eg (yM te):=by
 intro d s n H Q I B;rw[evalPart_some];refine ZD (h d s n H _ I B) λu L j=>?_
 let#[x,z,J,y,F]:=j;let#[i,rfl,q]:=F;let#[t,rfl]:=y;exact#[u7 i,z,J,.int i t,q]
def SlR(X:Cx)(r:V->Option Int->Option Int->Hp->VK->Prop):Prop:=
 ∀(vT:List (xB×Obj))(s:xI)(σ:St)(H:Hp)(x:V)(v vl vu:xM)(lo hi:Option Int)(sl:xB)(Q:VK),Inv X vT σ H s->RelV x v->s.heap.IsSliceOf sl vl vu .none->IsPart vl lo->IsPart vu hi->r x lo hi H Q->
  ∃T id,typeLookup .CD "__getitem__"=pure (u7 .BO)/\s.TypeIs v T/\vA .AB X.A (getItem v (.ref sl)) (EP X vT σ Q) X.xe s
def SlR.or(h:SlR X r)(h':SlR X r'):SlR X (λx j i H Q=>r x j i H Q\/r' x j i H Q):=by
 intro d s y H x v L z j i J Q I F B M n q;rcases q with q|q
 .exact h d s y H x v L z j i J Q I F B M n q
 exact h' d s y H x v L z j i J Q I F B M n q
def tSl(r:V->Option Int->Option Int->Hp->VK->Prop)(te:TE)(tl th:TO):TE:=λσ H Q=>te σ H λx H1=>tl σ H1 λl H2=>th σ H2 λu H3=>r x l u H3 Q
def yP(hr:SlR X r)(N:PE X e te)(hl:PO X lo tl)(U:PO X hi th):PE X (.Subscript e (.Slice lo hi u8 p2) pos) (tSl r te tl th):=by
 intro d s n H Q I h;refine Subscript_ (ZD (N d s n H _ I h) λv Z y=>?_);let#[x,H1,W,r1,q1]:=y;refine wpAny_Slice (ZD (hl d Z n H1 _ W q1) λF O #[l,H2,I2,pl,J]=>ZD (U d O n H2 _ I2 J) λB j y=>?_);let#[u,H3,L,pu,S]:=y;rw[evalPart_none];refine vM ?_;let#[T,id,M,ht,Y]:=hr d {j with heap:=j.heap.push {cls:=.type "slice",data:=.fields [F,B,.none].toArray}} n H3 x v F B l u j.heap.objs.size Q (L.kept (t':=j.toks) λb ob q=>zQ _ q) r1 (Heap.IsSliceOf.new ..) pl pu S
 exact tail_any ht M Y (by with_unfolding_all rfl)
def Pr(xs:List V)(lo hi:Option Int):List V:=(xs.drop .E6).take (HT.YE xs.length xs.length hi-HT.YE xs.length 0 lo)
def eJ(xs)(i d):(Pr xs i d).length<=xs.length:=by unfold Pr;rw[j0,jO];lia
def rSlT(K:za):V->Option Int->Option Int->Hp->VK->Prop:=λx lo hi H Q=>∃a xs,x=.ref a/\YO K H a xs/\
 ¬(HT.YE xs.length 0 lo=0/\HT.YE xs.length xs.length hi=xs.length)/\∀p,H p=u8->Q .AL (upd H p (.tup .Ib))
def yQ:SlR X (rSlT X.K):=by
 intro F s W H x v vl Y j y Z Q I N S M O h;let#[a,i,rfl,J,L,q]:=h;cases N;let#[n,r,B,z]:=I.tuple J;have d:n.toArray.size=i.length:=z0▸r.length.symm;refine#["tuple",_,PyProof.Rows.slot_tuple_getitem.lookup,B.typeIs,?_];refine HT.yK B S M O (d▸L) ?_ (d▸z);rw[d];refine#[.ref s.heap.objs.size,_,I.laid (λb U q=>zQ _ q) .AK ?_,rfl,q _ .JM]
 exact#[zx (eJ i j y) z,_,(r.drop .Fc).take (HT.YE i.length i.length y-HT.YE i.length 0 j),IsTup.new _ _]
def yR(K:za):R2:=λx y H Q=>∃a b xs ys,x=.ref a/\y=.ref b/\YO K H a xs/\YO K H b ys/\xs≠[]/\xs.length+ys.length<=sizeLine/\
 (ys=[]->Q .Aq H)/\(ys≠[]->∀p,H p=u8->Q .AL (upd H p (.tup (xs++ys))))
theorem Vals.aT(r:Vals xs us):us=[]↔xs=[]:=by
 cases r with
 |_=>simp
def yS:ZF X .Da (yR X.K):=by
 intro n s σ H x y v u Q I O N h;let#[a,b,xs,Z,rfl,rfl,J,U,L,j,W,F]:=h;cases O;cases N;let#[Y,i,M,_]:=I.tuple J;let#[B,d,S,_]:=I.tuple U;refine HT.yF M S (λz=>L (i.aT.mp z)) (λz=>#[.ref a,H,I,rfl,W (d.aT.mp z)]) (λz=>?_) (by rw[<-i.length,<-d.length];exact j);refine#[.ref s.heap.objs.size,_,I.laid (λb ob q=>zQ _ q) .AK ?_,rfl,F (λw=>z (d.aT.mpr w)) _ .JM]
 exact#[qw▸j,_,i.append d,IsTup.new _ _]
end
def ixN(n:Nat)(i:Int):Option Nat:=if 0<=i then(if i<n then u7 i.toNat else u8)else if -(n:Int)<=i then u7 (i+n).toNat else u8
def ZJ{α:Type}(xs:List α)(i:Int):Option α:=(ixN xs.length i).bind λj=>xs[j]?
def eK(h:ixN n i=u7 j):seqIndex? i n=u7 j/\j<n/\ -(n:Int)<=i/\i<n:=by
 unfold ixN at h;by_cases q:0<=i
 .rw[if_pos q]at h;by_cases d:i<n
  .rw[if_pos d]at h;have e:=w4 h;exact#[by rw[seqIndex_of q d,e],.a,.a,d]
  rw[if_neg d]at h;cases h
 rw[if_neg q]at h;by_cases d: -(n:Int)<=i
 .rw[if_pos d]at h;have e:=w4 h;exact#[by rw[seqIndex_neg .a d,e],.a,d,.a]
 rw[if_neg d]at h;cases h
def V8{d:Type}{xs:List d}{i:Int}{v:d}(h:ZJ xs i=u7 v):∃j,seqIndex? i xs.length=u7 j/\xs[j]?=u7 v/\j<xs.length/\ -(xs.length:Int)<=i/\i<xs.length:=by
 unfold ZJ at h;rcases e:ixN xs.length i with _|j
 .rw[e]at h;cases h
 rw[e]at h;let#[y,z,q,n]:=eK e;exact#[j,y,h,z,q,n]
def M'(b:xD):Prop:=∀o i,subscripted b uA o i=operate [o,i] (getItem o i)
def UZ(X:Cx)(r:R2):Prop:=
 ∀(value slice:xD)(vT:List (xB×Obj))(s:xI)(σ:St)(H:Hp)(x y:V)(v u:xM)(Q:VK),Inv X vT σ H s->RelV x v->RelV y u->r x y H Q->
  subscripted slice uA v u=operate [v,u] (getItem v u)->vA .AB X.A (subscriptTail value slice v u) (EP X vT σ Q) X.xe s
def MtR(X:Cx)(id:String)(r:V->List V->Hp->VK->Prop):Prop:=
 ∀(vT:List (xB×Obj))(s:xI)(σ:St)(H:Hp)(x:V)(xs:List V)(v:xM)(us:List xM)(Q:VK),Inv X vT σ H s->RelV x v->Vals xs us->r x xs H Q->
  vA .AB X.A (call .BO (v::us)) (EP X vT σ Q) X.xe s
section
variable{X:Cx}{a b:xD}{ta tb:TE}{pos:Pos}
def UZ.or(h:UZ X r)(h':UZ X r'):UZ X (λx y H Q=>r x y H Q\/r' x y H Q):=by
 intro d i j s n H x y v u Q I B F q z;rcases q with q|q
 .exact h d i j s n H x y v u Q I B F q z
 exact h' d i j s n H x y v u Q I B F q z
def eM(M:UZ X r)(L:PE X a ta)(J:PE X b tb)(z:M' b):PE X .Fd (tOp r ta tb):=by intro d s n H Q I h;exact Subscript_ (aM L J I h λv u F x y i j B N q=>M a b d F n i x y v u Q j B N q (z _ _))
def rIxL(K:za):R2:=λx y H Q=>∃p xs i v,x=.ref p/\y=.int i/\WQ K H p xs/\ZJ xs i=u7 v/\Q v H
def rIxT(K:za):R2:=λx y H Q=>∃p xs i v,x=.ref p/\y=.int i/\YO K H p xs/\ZJ xs i=u7 v/\Q v H
def rIxS:R2:=λx y H Q=>∃z i c,x=.str z/\y=.int i/\z.length<=sizeLine/\ZJ z.cps.toList i=u7 c/\Q (.str #[[c].toArray]) H
def yT:UZ X (rIxL X.K):=by
 intro value slice vT s σ H x y v u Q I rx ry h hs;let#[p,xs,i,z,rfl,rfl,hq,he,q]:=h;cases rx;let#[t,rfl]:=ry;let#[VB,r,pl,hz]:=I.list hq;let#[j,h1,h2,h3,h4,h5]:=V8 he;let#[w,ew,rw']:=r.get h2;have hl:=r.length;have hn:=VR;have fin:EP X vT σ Q w s:=#[z,H,I,rw',q];by_cases h0:0<=i
 .have hj:i.toNat=j:=by rw[seqIndex_of h0 h5]at h1;exact w4 h1
  exact item_listR pl.isList h0 .a (by rw[hj];simpa using ew) fin hs
 have hj:(i+(VB.toArray.size:Int)).toNat=j:=by rw[seqIndex_neg .a h4]at h1;rw[z0,<-hl];exact w4 h1
 exact subscriptTail_builtinR pl.isList.typeIs slot_list_getitem.lookup
  (wpAny_getItem_list_neg pl.isList .a (by rw[z0]<;>lia) .a (by rw[hj];simpa using ew) #[rfl,fin]) hs
def yU:UZ X (rIxT X.K):=by
 intro value slice vT s σ H x y v u Q I rx ry h hs;let#[p,xs,i,z,rfl,rfl,hq,he,q]:=h;cases rx;let#[t,rfl]:=ry;let#[VB,r,pl,hz]:=I.tuple hq;let#[j,h1,h2,h3,h4,h5]:=V8 he;let#[w,ew,rw']:=r.get h2;have hn:=VR;exact subscriptTail_builtinR pl.typeIs slot_tuple_getitem.lookup
  (getItem_tuple pl .a .a (by rw[z0,<-r.length];exact h1) (by simpa using ew) #[rfl,#[z,H,I,rw',q]]) hs
def yV:UZ X rIxS:=by
 intro value slice vT s σ H x y v u Q I rx ry h hs;let#[z,i,c,rfl,rfl,hz,he,q]:=h;let#[t,rfl]:=rx;let#[t',rfl]:=ry;let#[j,h1,h2,h3,h4,h5]:=V8 he;have hl:z.cps.toList.length=z.length:=by simp[Str.length]
 rw[hl]at h1 h4 h5;have hn:=VR;exact tail_any (typeIs_str s z t) slot_str_getitem.lookup (getItem_str (by rw[decide_eq_false .a,decide_eq_false .a,Bool.or_false]) (by rw[h1];simpa using h2) #[.str #[[c].toArray],H,I.tok _,#[_,rfl],q]) hs
def rIx(K:za):R2:=λx y H Q=>rIxL K x y H Q\/rIxT K x y H Q\/rIxS x y H Q
def yW:UZ X (rIx X.K):=yT.or (yU.or yV)
def yX(VB:List xM)(n j)(u):Obj.mapSeq (·.setIfInBounds j u) {cls:=.type "list",data:=.seq VB.toArray n}={cls:=.type "list",data:=.seq (VB.set j u).toArray n}:=by simp[Obj.mapSeq]
def Inv.lst{d:St}{H:Hp}{p:xB}{xs:List V}(I:Inv X vT d H s)(h:H p=u7 .AI):
  ∃VB n,Vals xs VB/\s.heap.get? p=u7 {cls:=.type "list",data:=.seq VB.toArray n}/\xs.length<=sizeLine:=by
 let#[z,VB,n,r,e]:=I.VF p _ h;exact#[VB,n,r,e,z]
def Inv.yY{y:St}{H:Hp}{p:xB}{xs ys:List V}{VB f?:List xM}{n i:Nat}{f:Obj->Obj}(I:Inv X vT y H s)(h:H p=u7 .AI)
  (ho:s.heap.get? p=u7 {cls:=.type "list",data:=.seq VB.toArray n}) (z:f {cls:=.type "list",data:=.seq VB.toArray n}={cls:=.type "list",data:=.seq f?.toArray i}) (r:Vals ys f?) (hz:ys.length<=sizeLine) (t):
  Inv X vT y (upd H p .F9) {s with heap:=s.heap.update p f,toks:=t}:=by
 have e:(s.heap.update p f).get? p=u7 {cls:=.type "list",data:=.seq f?.toArray i}:=by rw[xW f ho (by rw[z]<;>rfl),z]
 exact I.write (by rw[h];trivial) (.inl rfl) (λb u B q=>(Heap.get?_update_other _ _ (Ne.symm B)).trans q) #[_,e] #[hz,f?,i,r,e]
def yZ:V->V->V->Hp->(Hp->Prop)->Prop:=λo i v H Q=>∃p xs k j,o=.ref p/\i=.int k/\H p=u7 .AI/\ixN xs.length k=u7 j/\Q (upd H p (.lst (xs.set j v)))
def set_list:PSet X yZ:=by
 intro vT s σ H o i v ov iv u Q I ro ri rv h;let#[p,xs,k,j,rfl,rfl,hp,hj,q]:=h;cases ro;let#[t,rfl]:=ri;let#[VB,n,r,ho,hz]:=I.lst hp;let#[h1,h2,h3,h4]:=eK hj;have hl:=r.length;have hn:=VR;have I':=
  I.yY hp ho (yX VB n j u) (r.set rv j) (by rw[qV];exact hz) s.toks
 by_cases h0:0<=k
 .have hk:k.toNat=j:=by rw[seqIndex_of h0 h4]at h1;exact w4 h1
  exact PySem.W.ki_setAt ho h0 .a (by rw[z0,<-hl];exact h4) (by rw[hk];exact#[_,I',q])
 have hk:(k+(VB.toArray.size:Int)).toNat=j:=by rw[seqIndex_neg .a h3]at h1;rw[z0,<-hl];exact w4 h1
 exact PySem.W.ki_setBack ho .a (by rw[z0,<-hl];exact h3) .a (by rw[hk];exact#[_,I',q])
def sxb(i:Int)(n:Nat)(_:¬i<0):max 0 (min i n)=((min i.toNat n:Nat):Int):=.a
def y1(j d)(n):(vx j d u8 n).1=((HT.YE n 0 j:Nat):Int)/\(vx j d u8 n).2.1=((HT.YE n n d:Nat):Int)/\(vx j d u8 n).2.2=1:=by
 refine#[?_,?_,rfl]
 .rcases j with _|i
  .simp[vx,HT.YE]
  simp[vx,HT.YE,if_true];by_cases h:i<0
  .simp only[h,if_true]<;>lia
  simp[h]<;>exact sxb _ _ h
 rcases d with _|i
 .simp[vx,HT.YE]
 simp[vx,HT.YE,if_true];by_cases h:i<0
 .simp only[h,if_true]<;>lia
 simp[h]<;>exact sxb _ _ h
def ya(VB:List xM)(d i):slicePick VB.toArray d i u8=((VB.drop (HT.YE VB.length 0 d)).take (HT.YE VB.length VB.length i-HT.YE VB.length 0 d)).toArray:=by
 let#[n,q,j]:=y1 d i VB.toArray.size;unfold slicePick;rw[n,q,j]
 simp only[sliceRange_one,pick_run]<;>rfl
def rSlL(K:za):V->Option Int->Option Int->Hp->VK->Prop:=λx lo hi H Q=>∃a xs,x=.ref a/\WQ K H a xs/\∀p,H p=u8->Q .AL (upd H p (.lst .Ib))
def yb:SlR X (rSlL X.K):=by
 intro z s S H x v Y U j n W Q I L J O F h;let#[a,i,rfl,B,q]:=h;cases L;let#[N,r,y,M]:=I.list B;have d:=r.length;refine#["list",_,slot_list_getitem.lookup,y.isList.typeIs,?_]
 refine wpAny_getItem_list_slice y.isList J O F .none .d ?_ (by rw[z0]<;>lia)
 rw[ya,<-d];refine#[.ref s.heap.objs.size,_,I.laid (λb Z q=>zQ _ q) .AK ?_,rfl,q _ .JM];exact#[zx (eJ i j n) M,_,0,(r.drop .Fc).take (HT.YE i.length i.length n-HT.YE i.length 0 j),zD _ rfl]
def Ej:V->Bool
 |.WB=>u9
 |.bl _=>u9
 |.int _=>u9
 |.str _=>u9
 |_=>uA
def r?:V->V->Bool
 |.WB,.WB=>u9
 |.bl a,.bl b=>a==b
 |.bl a,.int b=>(if a then 1 else 0)==b
 |.int a,.bl b=>a==(if b then 1 else 0)
 |.int a,.int b=>a==b
 |.str a,.str b=>a==b
 |_,_=>uA
theorem eN(j:RelV y u)(d:RelV x v)(q:Ej y=u9)(n:Ej x=u9):SeqAt.EqAt A s u v (r? y x):=by
 cases y with
 |WB=>
  cases j;cases x with
  |WB=>cases d;exact SeqAt.EqAt.same _
  |bl b=>cases d;exact SeqAt.EqAt.none_bool b
  |int b=>let#[t,rfl]:=d;exact SeqAt.EqAt.none_int b t
  |str b=>let#[t,rfl]:=d;exact SeqAt.EqAt.none_str b t
  |_=>exact absurd (n) zO
 |bl a=>
  cases j;cases x with
  |WB=>cases d;exact SeqAt.EqAt.bool_none a
  |bl b=>cases d;exact SeqAt.EqAt.bool_bool a b
  |int b=>let#[t,rfl]:=d;exact SeqAt.EqAt.bool_int a b t
  |str b=>let#[t,rfl]:=d;exact SeqAt.EqAt.bool_str a b t
  |_=>exact absurd (n) zO
 |int a=>
  let#[i,rfl]:=j;cases x with
  |WB=>cases d;exact SeqAt.EqAt.int_none a i
  |bl b=>cases d;exact SeqAt.EqAt.int_bool a i b
  |int b=>let#[t,rfl]:=d;exact SeqAt.EqAt.int_int a i b t
  |str b=>let#[t,rfl]:=d;exact wj a i b t
  |_=>exact absurd (n) zO
 |str a=>
  let#[i,rfl]:=j;cases x with
  |WB=>cases d;exact SeqAt.EqAt.str_none a i
  |bl b=>cases d;exact SeqAt.EqAt.str_bool a i b
  |int b=>let#[t,rfl]:=d;exact wx a i b t
  |str b=>let#[t,rfl]:=d;exact SeqAt.EqAt.str_str a i b t
  |_=>exact absurd (n) zO
 |_=>exact absurd (q) zO
def B?(x:V)(u:xM):Bool:=match u with
 |.none=>r? .WB x
 |.bool b=>r? .Dw x
 |.int i _=>r? .AM x
 |.str z _=>r? .G2 x
 |_=>uA
theorem eO(r:RelV y u)(f:Ej y=u9):B? x u=r? y x:=by
 cases y with
 |WB|bl b=>cases r;rfl
 |int i|str z=>let#[t,rfl]:=r;rfl
 |_=>exact absurd (f) zO
theorem Tc:∀{xs:List V}{us:List xM},Vals xs us->xs.all Ej=u9->us.any (B? x)=xs.any λy=>r? y x
 |_,_,.nil,_=>rfl
 |y::xs,u::us,.cons r t,f=>by rw[jy,zN]at f;rw[List.any_cons,List.any_cons,eO r f.1,Tc t f.2]
theorem S7(i:RelV x v)(j:Ej x=u9):∀{xs:List V}{us:List xM},Vals xs us->xs.all Ej=u9->∀u∈us,SeqAt.EqAt A s u v (B? x u)
 |_,_,.nil,_=>λu d=>by cases d
 |y::xs,u::us,.cons r t,f=>λn d=>by
  rw[jy,zN]at f;rcases zj.mp d with rfl|d
  .rw[eO r f.1];exact eN r i f.1 j
  exact S7 i j t f.2 n d
def inV(x:V)(xs:List V):Bool:=xs.any λy=>r? y x
def rIn(K:za)(neg:Bool):R2:=λx y H Q=>∃p xs,y=.ref p/\(WQ K H p xs\/YO K H p xs)/\Ej x=u9/\xs.all Ej=u9/\Q (.bl (if neg then !inV x xs else inV x xs)) H
def yc:ZF X .I1 (rIn X.K uA):=by
 intro F s M H x y v u Q I z L h;let#[p,N,rfl,i,B,fs,q]:=h;cases L;rcases i with i|i
 .let#[d,r,n,J]:=I.list i;refine SeqAt.in_listAt (B? x) n.isList (λw j=>S7 z B r fs w (by simpa using j)) #[.bl _,H,I,rfl,?_];rw[show d.toArray.any (B? x)=d.any (B? x) by simp,Tc r fs];exact q
 let#[d,r,n,J]:=I.tuple i;refine SeqAt.in_tupleAt (B? x) n (λw j=>S7 z B r fs w (by simpa using j)) #[.bl _,H,I,rfl,?_];rw[show d.toArray.any (B? x)=d.any (B? x) by simp,Tc r fs];exact q
def yd:ZF X .E5 (rIn X.K u9):=by
 intro F s M H x y v u Q I z L h;let#[p,N,rfl,i,B,fs,q]:=h;cases L;rcases i with i|i
 .let#[d,r,n,J]:=I.list i;refine SeqAt.notIn_listAt (B? x) n.isList (λw j=>S7 z B r fs w (by simpa using j)) #[.bl _,H,I,rfl,?_];rw[show d.toArray.any (B? x)=d.any (B? x) by simp,Tc r fs];exact q
 let#[d,r,n,J]:=I.tuple i;refine SeqAt.notIn_tupleAt (B? x) n (λw j=>S7 z B r fs w (by simpa using j)) #[.bl _,H,I,rfl,?_];rw[show d.toArray.any (B? x)=d.any (B? x) by simp,Tc r fs];exact q
def ye:VE X (.builtin "len") (λxs H Q=>∃p ys,xs=[.ref p]/\(WQ X.K H p ys\/YO X.K H p ys)/\Q (.int ys.length) H):=by
 intro vT s σ H xs us Q I r h;let#[p,ys,rfl,hq,q]:=h;let#[u,rfl,rx]:=vals1 r;cases rx;have hn:=VR;rcases hq with hq|hq
 .let#[VB,r',pl,hz]:=I.list hq;have hlen:=r'.length
  exact Calls.call_len_list pl.isList (by simp only[z0]<;>lia) #[.int ys.length,H,I.tok _,#[s.toks+1,by rw[z0,hlen]],q]
 let#[VB,r',pl,hz]:=I.tuple hq;have hlen:=r'.length
 exact len_tuple pl (by simp only[z0]<;>lia) #[.int ys.length,H,I.tok _,#[s.toks+1,by rw[z0,hlen]],q]
def yf:VE X (.builtin "len") (λxs H Q=>∃z,xs=[.str z]/\z.length<=sizeLine/\Q .HS H):=by intro vT s σ H xs us Q I r h;let#[z,rfl,hz,q]:=h;let#[u,rfl,t,rfl]:=vals1 r;have hn:=VR;exact len_str .a #[.int z.length,H,I.tok _,#[_,rfl],q]
def VE.or(h:VE X f r)(h':VE X f r'):VE X f (λxs H Q=>r xs H Q\/r' xs H Q):=by
 intro d s j H xs i Q I n q;rcases q with q|q
 .exact h d s j H xs i Q I n q
 exact h' d s j H xs i Q I n q
def yg:VE X (.type "list") (λxs H Q=>∃p ys,xs=[.ref p]/\(WQ X.K H p ys\/YO X.K H p ys)/\∀l,H l=u8->Q (.ref l) (upd H l .F9)):=by
 intro M s Z H xs us Q I r h;let#[p,ys,rfl,F,q]:=h;let#[u,rfl,rx]:=vals1 r;cases rx;have N:∀d,Vals ys d->ys.length<=sizeLine->∀j z,(∀b Y,s.heap.get? b=u7 Y->j.get? b=u7 Y)->
   j.get? s.heap.objs.size=u7 {cls:=.type "list",dict:=u8,data:=.seq d.toArray z,slots:= [].toArray}->EP X M Z Q .AU {s with heap:=j}:=λd y J j z B e=>
  #[.ref s.heap.objs.size,_,I.laid B .AK (show YJ X.prog X.w _ j _ (.lst ys)from#[J,d,z,y,e]),rfl,q _ .JM]
 rcases F with F|F
 .let#[d,y,S,J]:=I.list F;have L:=y.length;let#[o,O,W,n,U]:=S.isList
  exact call_list_seq p (.inl rfl) O W U (λj z B e=>N d y J j z B e) (by simp<;>lia)
 let#[d,y,S,J]:=I.tuple F;have L:=y.length;let#[o,O,W,n,U]:=S
 exact call_list_seq p (.inr rfl) O W U (λj z B e=>N d y J j z B e) (by simp<;>lia)
def yh:VE X (.type "tuple") (λxs H Q=>∃p ys,xs=[.ref p]/\((WQ X.K H p ys/\∀l,H l=u8->Q (.ref l) (upd H l .GA))\/(YO X.K H p ys/\Q .AL H))):=by
 intro F s N H xs O Q I r h;let#[p,ys,rfl,h]:=h;let#[u,rfl,J]:=vals1 r;cases J;rcases h with⟨j,q⟩|⟨j,q⟩
 .let#[d,i,n,z]:=I.list j;have y:=i.length
  refine call_tuple_list n.isList (λL M=>?_) (by simp<;>lia)
  have B:=I.kept (t':=s.toks) M
  exact#[.ref L.objs.size,_,B.laid (t':=s.toks) (λb o e=>zQ _ e) .AK (show YJ X.prog X.w _ _ _ (.tup ys)from#[z,d,i,IsTup.new _ _]),rfl,q _ (B.VF.fresh .AK)]
 let#[d,i,n,z]:=I.tuple j;exact call_tuple_same n #[.ref p,H,I,rfl,q]
def tyV(K:za)(T:String)(x:V)(H:Hp):Prop:=match x with
 |.str _=>T="str"
 |.int _=>T="int"
 | .ref p=>(T="list"/\∃xs,WQ K H p xs)\/(T="tuple"/\∃o,K.lookup p=u7 o/\o.cls=.type "tuple"/\o.dict=u8)\/
   (T="dict"/\((∃WE,H p=u7 (.dK WE))\/∃WE,H p=u7 (.dT WE)))\/(T="set"/\∃S n,H p=u7 (.set S n))
 |_=>False
theorem yi{L:St}{H:Hp}{T:String}{x:V}{v:xM}(I:Inv X vT L H s)(r:RelV x v)(ty:tyV X.K T x H):
  s.TypeIs v T/\∀a,v=.ref a->∃F,s.heap.get? a=u7 F/\F.dict=u8:=by
 cases x with
 |str z=>
  let#[t,rfl]:=r;cases(ty);exact#[typeIs_str s z t,nofun]
 |int i=>
  let#[t,rfl]:=r;cases(ty);exact#[typeIs_int s i t,nofun]
 | ref p=>
  cases r;rcases ty with⟨rfl,U,M⟩|⟨rfl,o,d,N,B⟩|⟨rfl,d⟩|⟨rfl,S,n,d⟩
  .let#[O,_,J,_]:=I.list M;refine#[J.isList.typeIs,λa e=>?_];cases e;let#[o,n,e,c,B,_]:=J;exact#[o,e,B]
  .refine#[#[o,I.YW p o d,N],λa e=>?_];cases e;exact#[o,I.YW _ o d,B]
  .have z:∃o,s.heap.get? p=u7 o/\o.ExactDict:=by
    rcases d with⟨y,d⟩|⟨y,d⟩
    .let#[_,_,_,_,o,_,_,e,j,_]:=I.VF p _ d;exact#[o,e,j]
    let#[_,_,_,_,o,_,_,e,j,_]:=I.VF p _ d;exact#[o,e,j]
   let#[o,e,j]:=z;refine#[#[o,e,j.1],λa q=>?_];cases q;exact#[o,e,j.2.1]
  let#[o,_,_,_,e,j,_]:=I.VF p _ d;refine#[#[o,e,j.1],λa q=>?_];cases q;exact#[o,e,j.2.1]
 |_=>exact False.elim ty
def tBM(K:za)(T:String)(r:V->List V->Hp->VK->Prop)(to:TE)(t:TA):TE:=λσ H Q=>to σ H λx H1=>tyV K T x H1/\t σ H1 λxs H2=>r x xs H2 Q
variable{o e:xD}{es:List xD}{to:TE}{t:TA}{name:Str}{apos WG:Pos}{T id:String}{r:V->List V->Hp->VK->Prop}
def eP(pa:PlainAttrs T)(q:Slot T name id)(B:typeOf .BO=pure (.type "method_descriptor"))(Y:MtR X id r)(ho:PE X o to)(W:PA X (e::es) t)
  (j:xP o name X.env .B0=eval o X.env:=by rfl)
  (y:((xR WG (vv (e::es) X.env)).all (λx=> !x.1)&&(xS WG (vW [] X.env)).all (λx=>x.1.isSome)
   && decide ((e::es).length+([]:List Keyword).length+(if([]:List Keyword).isEmpty then 0 else 1)<30))=u9:=by rfl)
  (n:(apos.endLine==WG.line)=u9:=by rfl) (hs:vv (e::es) X.env=(uA,eval e X.env)::vv es X.env:=by rfl) (i:(xR WG .BH).any (·.1)=uA:=by rfl):
  PE X (.Call .C0 (e::es) [] WG) (tBM X.K T r to t):=by
 intro d s z H Q I h;refine wpAny_Call_method_late j y n rfl (ZD (ho d s z H _ I h) λv Z M=>?_);let#[x,H1,F,J,ty,q1]:=M;let#[N,U]:=yi F J ty;refine#[T,id,pa,q,B,N,U,?_];have L:=W WG d Z z H1 _ F q1;rw[hs]at L⊢
 exact Calls.callWith_builtin (by show(uA||(xR WG .BH).any (·.1))=uA;rw[i]<;>rfl) (Calls.evalArgs_plain (ZD L λus S #[vs,H2,I2,r2,O]=>Y d S z H2 x vs v us Q I2 J r2 O))
end
def VZ(X:Cx)(id:String)(r:V->List V->Hp->VK->Prop):Prop:=
 ∀(vT:List (xB×Obj))(s:xI)(σ:St)(H:Hp)(x:V)(xs:List V)(v:xM)(us:List xM)(Q:VK),Inv X vT σ H s->RelV x v->Vals xs us->r x xs H Q->
  vA .AB X.A (call .BO (v::us)) (EP X vT σ Q) X.xe s
def Vals.one:∀{x:V}{us:List xM},Vals [x] us->∃u,us=[u]/\RelV x u:=by intro x us h;cases h with |cons r t=>cases t;exact#[_,rfl,r]
theorem Vals.eraseIdx:∀{xs:List V}{us:List xM}i,Vals xs us->Vals (xs.eraseIdx i) (us.eraseIdx i)
 |_,_,_,.nil=>.nil
 |_,_,0,.cons _ t=>t
 |_,_,i+1,.cons r t=>.cons r (Vals.eraseIdx i t)
theorem Vals.rep(h:Vals xs us):∀k,Vals (zK k xs).flatten (zK k us).flatten
 |0=>.nil
 |k+1=>by rw[qz,qz,j6,j6];exact Vals.append h (Vals.rep h k)
theorem eQ{d:Type}:∀(l:List d)i,(l.eraseIdx i).length<=l.length
 |[],_=>zX _
 |_::_,0=>jG _
 |_::r,i+1=>Nat.succ_le_succ (eQ r i)
theorem foldl_rep(VB:List xM):∀k acc,
  List.foldl (λx1 i=>x1++i) acc.toArray (zK k VB.toArray)=(acc++(zK k VB).flatten).toArray
 |0,acc=>by simp
 |k+1,acc=>by
  have e:acc.toArray++VB.toArray=(acc++VB).toArray:=.d
  have d:(acc++VB)++(zK k VB).flatten=acc++(zK (k+1) VB).flatten:=by rw[qz,j6,j7]
  rw[<-d,<-foldl_rep VB k (acc++VB),<-e,qz,List.foldl_cons]
section
variable{X:Cx}{vT:List (xB×Obj)}{σ:St}{H:Hp}{s:xI}{l b:xB}{xs ys zs:List V}
def Inv.lset{VB f?:List xM}{n:Nat}{f:Array xM->Array xM}{t':Nat}(I:Inv X vT σ H s)(hH:H l=u7 .AI)
  (e:s.heap.get? l=u7 {cls:=.type "list",data:=.seq VB.toArray n}) (hf:f VB.toArray=f?.toArray) (hv:Vals ys f?) (hz:ys.length<=sizeLine):
  Inv X vT σ (upd H l .F9) {s with heap:=s.heap.update l .Hs,toks:=t'}:=by
 have q:=PySem.IsL.update e f;rw[hf]at q;exact I.write (hH▸trivial) (.inl rfl) (λb' u hb hu=>(Heap.get?_update_other s.heap .Hs (Ne.symm hb)).trans hu) #[_,q] #[hz,f?,_,hv,q]
def Inv.lnew(I:Inv X vT σ H s)(n:Vals ys VB)(hz:ys.length<=sizeLine):
  Inv X vT σ (upd H s.heap.objs.size .F9) {s with heap:=s.heap.push {cls:=.type "list",data:=.seq VB.toArray},toks:=t'}:=
 I.laid (λ_ _ q=>zQ _ q) .AK #[hz,VB,0,n,zD _ rfl]
def Inv.fresh(I:Inv X vT σ H s):H s.heap.objs.size=u8:=I.VF.fresh .AK
def Inv.lstM(I:Inv X vT σ H s)(d:H l=u7 .AI):xs.length<=sizeLine/\∃VB n,Vals xs VB/\xs.length=VB.length/\s.heap.get? l=u7 {cls:=.type "list",data:=.seq VB.toArray n}:=by let#[z,VB,n,r,e]:=I.VF l _ d;exact#[z,VB,n,r,r.length,e]
def yj(h:n<=sizeLine):vg n=uA:=by unfold vg;exact decide_eq_false .a
end
section
variable{X:Cx}
def yk:V->List V->Hp->VK->Prop:=λx vs H Q=>∃l xs y,x=.ref l/\vs=[y]/\H l=u7 .AI/\xs.length<sizeLine/\Q .WB (upd H l (.lst (xs++[y])))
def ym:VZ X "list.append" yk:=by
 intro vT s σ H x vs v us Q I rx rv h;let#[l,xs,y,rfl,rfl,hH,hz,q]:=h;cases rx;let#[u,rfl,ru]:=rv.one;let#[z,VB,n,r,hl,e]:=I.lstM hH;refine call_meets F.slot_list_append #[_,e,rfl] F.entry_list_append (F.args_list_append_2 _ _) (PySem.list_append l VB.toArray n u (by rw[z0];lia)) #[e,?_];refine#[.WB,_,I.lset hH e .d (r.append .HT) ?_,rfl,q];rw[qw,xK]
 lia
def yn:V->List V->Hp->VK->Prop:=λx vs H Q=>∃l xs i k y,x=.ref l/\vs=[.int i]/\H l=u7 .AI/\ -(2^63)<=i/\i<2^63/\seqIndex? i xs.length=u7 k/\xs[k]?=u7 y/\Q y (upd H l (.lst (xs.eraseIdx k)))
def yo:VZ X "list.pop" yn:=by
 intro J s σ H x vs v us Q I O rv h;let#[l,Y,i,k,y,rfl,rfl,B,L,U,Z,M,q]:=h;cases O;let#[u,rfl,S]:=rv.one;let#[t,rfl]:=S;let#[z,j,n,r,N,e]:=I.lstM B;let#[w,W,d]:=r.get M;refine call_meets F.slot_list_pop #[_,e,rfl] F.entry_list_pop (F.args_list_pop_2 _ _)
  (MeetsSeq.list_pop_at l j.toArray n i t k w (fitsIndex_both L U) (by rw[z0,<-N];exact Z) (by rw[<-qT];exact W) (by rw[z0];lia)) #[e,?_]
 refine#[y,_,I.lset B e ?_ (r.eraseIdx k) ?_,d,q]
 .rw[List.eraseIdxIfInBounds_toArray]
 have:=eQ Y k;lia
def rRep:R2:=λx y H Q=>∃l k xs,x=.ref l/\y=.int k/\Rd H l .AI/\ -(2^63)<=k/\k<2^63/\xs.length*k.toNat<=sizeLine/\
 ∀p,H p=u8->Q .AL (upd H p (.lst (zK k.toNat xs).flatten))
theorem len_rep{i:Type}(xs:List i)(k):(zK k xs).flatten.length=k*xs.length:=by
 induction k with
 |zero=>simp
 |succ k d=>rw[qz,j6,qw,d,Nat.succ_mul,Nat.add_comm]
def yp:ZF X .C9 rRep:=by
 intro vT s σ H x y v u Q I rx ry h;let#[l,k,xs,rfl,rfl,hH,h1,h2,hz,q]:=h;cases rx;let#[t,rfl]:=ry;let#[z,VB,n,r,e]:=hH.ok I.VF;have hl:=r.length;have hlen:VB.toArray.size*k.toNat<=sizeLine:=by rw[z0,<-hl];exact hz
 have hcap:¬VB.toArray.size*k.toNat>(2^63-1)/8:=by
  have:(sizeLine:Nat)<=(2^63-1)/8:=.c
  lia
 have hfit:¬(!Builtin.List.listFitsIndex k)=u9:=by rw[fitsIndex_both h1 h2];exact zO
 have hlong:¬vg (VB.toArray.size*k.toNat)=u9:=by rw[yj hlen];exact zO
 have hnew:List.foldl (λx1 x2=>x1++x2) [].toArray (zK (if VB.toArray.isEmpty=u9 then 0 else k.toNat) VB.toArray)=(zK k.toNat VB).flatten.toArray:=by
  have f0:∀m,List.foldl (λx1 x2=>x1++x2) [].toArray (zK m VB.toArray)=(zK m VB).flatten.toArray:=λm=>by have:=foldl_rep VB m [];rw[List.nil_append]at this;exact this
  rw[f0];rcases VB with _|⟨a,r'⟩
  .simp
  rw[if_neg .d]
 refine wpAny_binaryOp_repeat_ref .c #[_,e,rfl] (λs'=>typeIs_int s' k t) noFill_list_mul F.fills_int_mul F.slot_int_rmul repeat_list F.slot_int_index.lookup
  (call_meets F.slot_int_rmul .GB F.entry_int_rmul .Ey (int___rmul___int_list k t l VB.toArray n)
   #[e,rfl,#[_,e,rfl],call_meets F.slot_list_mul #[_,e,rfl] F.entry_list_mul (F.args_list_mul_2 _ _) (AutoListH.list___mul___list_int_3 l VB.toArray n k t hfit hcap hlong) #[e,?_]])
 rw[hnew];exact#[.ref _,_,I.lnew (r.rep k.toNat) (by rw[len_rep,Nat.mul_comm];exact hz),rfl,q _ I.fresh]
end
end _L
namespace Att
open PySem PySem.W PySem.Calls PyProof.Rows
theorem yq:∀ns vs,WellAll P h vs .GC->IntsAre vs ns:=by
 intro ns
 induction ns with
 |nil=>
  intro vs w;rw[qL]at w;cases w;exact .nil
 | cons n ns d=>
  intro vs w;rw[zk]at w;cases w with
  |cons a b=>
   cases a;exact .cons _ _ (d _ b)
theorem yu{l:OpenLaw}{n:Nat}(Y:l.most=u7 n){P:Params}{h:Heap}{i:List WData}{z:List xM}
  (y:l.row.toRowW.claim.pre i=u9) (L:WellAll P h z i):
  ∃a vs ns,z=[Value.ref a]/\i=[WData.list .GC]/\h.get? a=u7 {cls:=.type "list",data:=.seq vs.toArray}/\IntsAre vs ns/\ns.length<=n:=by
 have M:l.pre.holds [] {args:=i}=u9:=(pre_splitW y).2;let#[d,r,rfl,O,U]:=hasAllW_cons ((pre_splitW y).1);obtain rfl:=hasAllW_nil U;let#[xs,rfl,N]:=hasW_list O;let#[ns,rfl]:=items_int N;have F:ns.length<=n:=by
  unfold OpenLaw.pre at M;have I:(WTm.not (.lt (.lit (.int (n:Int))) (.len (.arg 0)))).holds [] {args:=[.list (ns.map .int)]}=u9:=by have I:=(holds_andW M).1;rw[Y]at I;exact I
  have J:=condW_of I (w_not (w_lt w_lit (w_len_list (w_arg rfl))));rw[zq]at J;refine Nat.le_of_not_lt λq=>?_
  first
   |(rw[j .a]at J;exact absurd J .c)
   |(simp at J;lia)
 cases L with
 |cons S Z=>
  cases Z;cases S with
  |list W B=>exact#[_,_,ns,rfl,rfl,W,yq ns _ B,F]
def yw(l:OpenLaw)(d):l.row.toRowW.claim.post d .ER d=u9:=
 postW_of
  (show WShape.has [] .ER .bool=u9 by first|rfl|decide|simp)
  (w_eq_bool (w_res rfl) w_lit) rfl
def yx{l:OpenLaw}{n:Nat}{q:xG}{loose:List Str}{XP:(Str->Option xM)->Heap->Prop}{YP:xN->Heap->Prop}{d:DefRec}
  (hn:l.most=u7 n) (O:d.params.defaults=[])
  (call:∀w j i L M F o pm cd y a vs ns,
   Ground q loose [] XP w j L M i.heap->YP w i.heap->
   i.heap.get? F=u7 o->o.data=.func (docDef d.name d.params d.body d.scope pm cd y)->i.heap.CodeRec cd d.name->L d.name=u7 (.ref F)->
   i.heap.get? a=u7 {cls:=.type "list",data:=.seq vs.toArray}->IntsAre vs ns->ns.length<=n->i.gens= [].toArray->
   codeAny (vq l.prog w) callerA (.call (.ref F) #[[.ref a],[]]) (λr s'=>r=.ok .Kj/\OldK i.heap s'.heap/\s'.os=i.os/\AllBare s'.gens) i):
  WalkO q loose XP YP l.row.toRowW d [] (λf vs=>qi f vs):=by
 intro w j i L M G Y F o pm cd y dV kV ho hd U hD N hg W Z as B hlay hrd S hlo;obtain rfl:dV=.none:=Dflts.none hD O;obtain rfl:kV=.none:=Dflts.noKw hD;let#[a,vs,ns,rfl,rfl,I,z,J]:=yu hn B S;refine enter_call (vJ (call w j i L M F o pm cd y a vs ns G Y ho (fd_plain hd) U N I z J hg) λr s' hq=>?_);let#[rfl,h2,h3,h4]:=hq
 exact#[.inl #[.bool u9,.bool u9,[],rfl,λ_=>rfl,.bool u9,yw l _,λ_=>#[List.Pairwise.nil,λ_ hm=>(nomatch hm)]],h2,h3,h4]
section
variable{prog:xG}{w:xN}{A:xC}{E:xM->xI->Prop}{s:xI}{K:vP}
def Ye(h:Heap):Heap:={h with objs:= [].toArray}
def aU(h)(b):(Ye h).get? b=u8:=by
 rcases e:(Ye h).get? b with _|o
 .rfl
 exact absurd .Bb .Dt
def ledger(h:Heap)(L d:xB):List (xB×Obj):=(zV h.objs.size).filterMap λa=>if a=L\/a=d then u8 else(h.get? a).map λo=>(a,o)
def Ug:(a,o)∈ledger h L d↔a≠L/\a≠d/\h.get? a=u7 o:=by
 unfold ledger;rw[List.mem_filterMap];constructor
 .rintro⟨b,_,e⟩;split at e
  .cases e
  rename_i j;let#[B,i,n]:=qK.mp e;cases n;exact#[λq=>j (.inl q),λq=>j (.inr q),i]
 rintro⟨y,z,i⟩;refine#[a,qx.mpr (zA i),?_]
 rw[if_neg (λq=>q.elim y z),i]<;>rfl
def yy(n:h.Ns L m):Fr (Ye h) L h m:=
 #[n,λb o e=>(by rw[aU]at e;cases e),xV _]
end
end Att
namespace _L
open PySem PySem.Spec PyProof.Rows
theorem Rh:∀{vs:List xM}{ns:List Int},IntsAre vs ns->Vals .Bk vs
 |_,_,.nil=>.nil
 |_,_,.cons n t h=>.cons #[t,rfl] (Rh h)
def Only(H:Hp):Prop:=∀b,H b=u8\/∃o xs,H b=u7 .KW
theorem yz{P:xG}{w:xN}{K:za}{mg mb:Str->Option xM}{CX:z?}{k:Nat}{fa a:xB}{fd:xE}{x:Str}{sp:Sp}{i:xI}{vs:List xM}{ns:List Int}
  (KX:K.In i.heap) (N:i.heap.Ns vY mg) (y:i.heap.Ns builtinsNs mb) (hbb:∀x:Str,x≠"__name__"->mb x=vQ x) (U:i.heap.NoLimit) (hg:i.gens= [].toArray)
  (ha:i.heap.get? a=u7 {cls:=.type "list",data:=.seq vs.toArray}) (hi:IntsAre vs ns) (hl:ns.length<=sizeLine) (hr:VH k callerA)
  (F:∀B,K.In B->B.Ns vY mg->WM P w K mg B CX k fa fd [x] sp) (L:∀s u,BindsTo s fd #[[u],[]] [(x,u)])
  (hsp:∀H,Only H->WQ K H a .Bk->sp [.ref a] H (λv _=>v=.bl u9) λ_ _ _=>False)
  (hCX:∀H e s',CX [] H i (λ_ _ _=>False) e s'->False):
  codeAny .Cy callerA (.call .GD #[[.ref a],[]]) (λr s'=>r=.ok .Kj/\OldK i.heap s'.heap/\s'.os=i.os/\AllBare s'.gens) i:=by
 have rv:=Rh hi;have O:=hi.length;have J:∀H,Only H->WQ K H a .Bk->ZV P w H i.heap->(∀b,H b≠u8->b=a)->(H a≠u8->K.lookup a=u8)->
   codeAny .Cy callerA (.call .GD #[[.ref a],[]]) (λr s'=>r=.ok .Kj/\OldK i.heap s'.heap/\s'.os=i.os/\AllBare s'.gens) i:=by
  intro H hO hS VF hA hK;have j:∀{b:xB}{o:Obj},i.heap.get? b=u7 o->H b=u8->(M4 i.heap H).get? b=u7 o:=λe n=>sU e n
  have noA:∀{b:xB}{o:Obj}{es:Array DictEntry}{ep:Nat},i.heap.get? b=u7 o->o.data=.dict es ep->H b=u8:=λ{b o es ep}e d=>by
   rcases q:H b with _|u
   .rfl
   have e':=hA b (by simp[q]);subst e';rw[ha]at e;cases e;have d':=d;cases d'
  have I:∀{b:xB}{m:Str->Option xM},i.heap.Ns b m->(M4 i.heap H).Ns b m:=λ{b m}#[o,es,ep,e,d,r]=>#[o,es,ep,j e (noA e d),d,r]
  have Y:K.In (M4 i.heap H):=λb o e=>j (KX b o e) (by
   rcases q:H b with _|u
   .rfl
   have e':=hA b (by simp[q]);subst e';rw[hK (by rw[q];simp)]at e;cases e)
  have hM:Mod K mg (M4 i.heap H):=#[Y,I N,#[mb,I y,hbb],let#[mc,h1,h2]:=U;#[mc,I h1,h2]]
  refine vJ ((F _ Y (I N)).run callerA [] i H #[[.ref a],[]] [.ref a] [.ref a] _ _ hr #[rfl,hM,λb o e=>sV e,Nat.le_of_eq (sT _ _),trivial,λb y=>absurd (show b∈([]:List xB)from y) .d,VF,.of_eq hg] (L i .Aq) (.cons rfl .nil) (hsp H hO hS)) λr s' h=>?_
  rcases r with e|fl
  .exact(hCX H e s' h).elim
  cases fl with
  | ret u=>
   let#[v,H',os,S,un,M,r',q]:=h;have q':=q;subst q';obtain rfl:u=Value.bool u9:=r';refine#[rfl,OldK.of_keep λb o e=>?_,os,S];cases q:H b with
   |none=>exact un.keep b o e q (by intro z;exact absurd (show b∈([]:List xB)from z) .d) .d
   |some u=>
    rcases hO b with z|⟨ob,xs,z⟩
    .rw[q]at z;cases z
    let#[e1,_]:=VF b _ z;let#[e2,_]:=M b _ (un.d? b ob _ z);rw[e]at e1;cases e1;exact e2
  |_=>exact False.elim h
 cases hk:K.lookup a with
 |some o=>
  have e:=KX a o hk;rw[ha]at e;cases e;refine J (λ_=>u8) (λ_=>.inl rfl) (.inr #[_,vs.toArray,_,hk,rfl,rfl,rfl,by rw[z0,O];exact hl,by simpa using rv]) (λb u z=>by have Z:=z;cases Z) (λb z=>absurd rfl z) λz=>absurd rfl z
 | none=>
  refine J (λb=>if b=a then u7 (.YN {cls:=.type "list",data:=.seq vs.toArray} (.lst .Bk))else u8) (λb=>?_) (.inl (.inr #[{cls:=.type "list",data:=.seq vs.toArray},if_pos rfl])) (λb u z=>?_) (λb z=>?_) λ_=>hk
  .by_cases y:b=a
   .exact .inr #[_,_,if_pos y]
   exact .inl (if_neg y)
  .by_cases y:b=a
   .have Z:=(if_pos y).symm.trans z;cases Z;subst y;exact#[ha,by rw[zq];exact hl,vs,_,rv,ha]
   have Z:=(if_neg y).symm.trans z;cases Z
  by_cases y:b=a
  .exact y
  exact absurd (if_neg y) z
def zl{l:vh}{n k:Nat}{q:xG}{loose:List Str}{XP:(Str->Option xM)->Heap->Prop}{YP:xN->Heap->Prop}{d:DefRec}{K:xN->za}{CX:xN->z?}{sp:xN->Sp}{x:Str}
  (hn:l.most=u7 n) (U:n<=sizeLine) (O:d.params.defaults=[]) (hr:VH k callerA)
  (hY:∀w h,YP w h->(K w).In h)
  (F:∀w z J h,(K w).In h->h.Ns vY z->z d.name=u7 (.ref J)->
   ∃S,(∀s u,BindsTo s S #[[u],[]] [(x,u)])/\
    ∀i,(K w).In i->i.Ns vY z->WM l.prog w (K w) z i (CX w) k J S [x] (sp w))
  (M:∀w H a(ns:List Int),ns.length<=n->Only H->WQ (K w) H a .Bk->sp w [.ref a] H (λv _=>v=.bl u9) λ_ _ _=>False)
  (L:∀w H s e s',CX w [] H s (λ_ _ _=>False) e s'->False):
  wD q loose XP YP l.row.toRowW d [] (λf vs=>qi f vs):=by
 refine Att.yx hn O λw Z I z mb J o pm cd doc a vs ns G Y ho hd hcd N B y j hg=>?_
 have KX:=hY w _ Y;let#[S,hb,hF]:=F w z J _ KX G.T.g N;exact yz KX G.T.g G.T.b G.T.builtins G.T.nolimit hg B y (zx j U) hr hF hb (λH hO hS=>M w H a ns j hO hS) λH e s'=>L w H I e s'
abbrev CX0:z?:=λ_ _ _ _ _ _=>False
abbrev E0:XK:=λ_ _ _=>False
def VX:Passes CX0 X E0:=λ_ _ _ _ _ _ _ h=>h.elim
structure Fun (K:za) (x qual:Str) (st:xL) (f:xB) (fd:xE):Prop where
 ex:∃(oc:xM)(od:Option xB)(kV doc pm:xM)(an:Option xB)(YK ct:xM)(osl:Array .DI),
  fd=jc x qual .CV .Bs .BN .none kV doc pm an YK ct/\K.lookup f=u7 #[oc,od,.func fd,osl]/\w9 K YK qual=u9
 kp:qh K .Ae=u9
section
variable{P:xG}{w:xN}{K:za}{mg:Str->Option xM}{base:Heap}
def Fun.ok{x qual:Str}{st:xL}{f:xB}{y:xE}{N ps:List Str}{k:Nat}{sp:Sp}(F:Fun K x qual st f y)(S:YD N ps .BN)(len:∀vs H Q E,sp vs H Q E->vs.length=ps.length)
  (i:∀d A outer s H vs Q E,VH k (A.deeper (envOfC qual .BN s.heap.objs.size f d))->sp vs H Q E->
   ∃t,e? (Qx CX0 P w K mg base N qual .BN f d A outer s H E).nox .Bs t/\t {nx:=λ_ H'=>Q .WB H',rt:=Q} .Eh H):WM P w K mg base CX0 (k+1) f y ps sp:=by
 let#[O,L,kV,z,pm,M,d,ct,I,rfl,B,j]:=F.ex;refine yC B j S len λA outer s H vs Q E J n=>?_
 let#[t,h,q]:=i d A outer s H vs Q E J n;exact#[t,h.nox,q]
def Fun.binds{x qual:Str}{st:xL}{f:xB}{n:xE}{ps:List Str}(F:Fun K x qual st f n)
  (h:∀kV d pm j i ct us,us.length=ps.length->bindArgs (jc x qual .CV .Bs .BN .none kV d pm j i ct) #[us,[]]=pure .CL):Binds K n ps []:=by
 let#[I,B,kV,d,pm,j,i,ct,y,rfl,z,q]:=F.ex;exact .all (h kV d pm j i ct)
end
section
variable{X:Cx}{vT:List (xB×Obj)}{σ:St}{H:Hp}{s:xI}{a:xB}{y v:V}{u r:xM}{o:Option V}{A:xC}{E:xM->xI->Prop}
def aV{P:xG}{w:xN}{H':Hp}{h':Heap}{WE:List (Key×V)}{vs:List (Key×xM)}(z:WE.length<=sizeLine)(hd:(a==sysModules)=uA)(rel:KV WE vs)(dd:h'.DictOf .Iw a vs):
  YJ P w H' h' a (.dK WE):=#[z,hd,vs,rel,dd]
end
structure M1 (X:Cx) (o:xD) (m:Str) (apos:Pos) (e:xD) (WG:Pos):Prop where
 base:xP o m X.env .B0=eval o X.env
 few:((xR WG (vv [e] X.env)).all (λx=> !x.1)&&(xS WG (vW [] X.env)).all (λx=>x.1.isSome)
  && decide (([e]:List xD).length+([]:List Keyword).length+(if([]:List Keyword).isEmpty then 0 else 1)<30))=u9
 line:(apos.endLine==WG.line)=u9
 trees:xR WG (vv [e] X.env)=[(uA,eval e X.env)]
structure M2 (X:Cx) (o:xD) (m:Str) (apos:Pos) (e f:xD) (WG:Pos):Prop where
 base:xP o m X.env .B0=eval o X.env
 few:((xR WG (vv [e,f] X.env)).all (λx=> !x.1)&&(xS WG (vW [] X.env)).all (λx=>x.1.isSome)
  && decide (([e,f]:List xD).length+([]:List Keyword).length+(if([]:List Keyword).isEmpty then 0 else 1)<30))=u9
 line:(apos.endLine==WG.line)=u9
 trees:xR WG (vv [e,f] X.env)=[(uA,eval e X.env),(uA,eval f X.env)]
end _L
namespace _D
open PySem PySem.Spec _L
open PyProof.Rows hiding St
inductive D where
 |WB|bl (b:Bool)|int (i:Int)|str (x:Str)|ty (n:String)
 |tup (xs:List D)
 |fl (xs:List D)
 |ref (i:Nat)
inductive DO where
 |lst (xs:List D)
 |dct (WE:List (Key×D))
 |dcT (WE:List (List Key×D))
 |ins (c:Str) (fs:List (Str×D))
 |tab (c m:Str)
 |exc (c:Str) (fs:List (Str×D))
 |gone
abbrev DH:=List DO
abbrev ZK:=List .CE
structure Xn where
 cls:Str
 fs:List (Str×D)
inductive R (α:Type) where
 |ok (a:α) (G:DH)
 |err (x:Xn) (G:DH)
 |bad
abbrev Fx{α:Type}(_:α):Type:=Unit
def R.bind{α β:Type}(f:α->DH->R β)(_:Fx f:=())(r:R α):R β:=match r with
 |.ok a G=>f a G
 |.err x G=>.err x G
 |.bad=>.bad
@[simp]theorem R.Jy{b c:Type}(a)(G)(f:b->DH->R c):(R.ok a G).bind f=f a G:=id rfl
inductive SR where
 |nx (S:ZK) (G:DH)
 |rt (d:D) (G:DH)
 |bk (S:ZK) (G:DH)
 |ct (S:ZK) (G:DH)
 |err (x:Xn) (G:DH)
 |bad
abbrev DE:=ZK->DH->R D
abbrev DB:=ZK->DH->R Bool
abbrev DA:=ZK->DH->R .DT
abbrev DS:=ZK->DH->SR
def FzL(K:za)(H:Hp)(a:xB)(xs:List V):Prop:=
 (∃o,H a=u7 .KW)\/
  (∃ns:List Int,xs=ns.map V.int)/\∃(o:Obj)(VB:Array xM)(n:Nat),K.lookup a=u7 o/\o.cls=.type "list"/\o.dict=u8/\o.data=.seq VB n/\VB.size<=sizeLine/\Vals xs VB.toList
def FzL.sq{K:za}{H:Hp}{a:xB}{xs:List V}(h:FzL K H a xs):WQ K H a xs:=by
 rcases h with⟨o,h⟩|⟨_,h⟩
 .exact .inl (.inr #[o,h])
 exact .inr h
structure Wd where
 K:za
 n:Nat
 m:Nat->xB
 H:Hp
mutual
def VG(a:Wd):D->V->Prop
 |.WB,v=>v=.WB
 |.bl b,v=>v=.bl b
 |.int i,v=>v=.int i
 |.str x,v=>v=.str x
 |.ty n,v=>v=.ty n
 |.tup ds,v=>∃p vs,v=.ref p/\YO a.K a.H p vs/\YA a ds vs
 |.fl ds,v=>∃p vs,v=.ref p/\FzL a.K a.H p vs/\YA a ds vs
 |.ref i,v=>i<a.n/\v=.ref .Ay
def YA(a:Wd):List D->List V->Prop
 |[],vs=>vs=[]
 |d::ds,vs=>∃v r,vs=v::r/\VG a d v/\YA a ds r
end
def lamQ:Str:="Sending.send_by.<locals>.<lambda>"
def XU(H:Hp)(P:xB):Prop:=
 ∃ps:Array xM,H P=u7 .Ez/\TriplesOk ps.toList/\∀pos cv,codeAmong pos ps.toList=u7 cv->∃(c:xB)(oc:Obj)(vs:Array xM)(t:Tok),cv=.ref c/\H c=u7 (.YN oc (.own 0))/\oc.data=.fields vs/\vs[1]?=u7 (.str lamQ t)
def XU.mono(h:XU H P)(j:∀p ps,H p=u7 .Ez->H' p=u7 .Ez)(b:∀p o u,H p=u7 .Bx->H' p=u7 .Bx):XU H' P:=by let#[ps,e,t,k]:=h;refine#[ps,j _ _ e,t,λa r f=>?_];let#[c,l,n,g,d,i,m,q]:=k a r f;exact#[c,l,n,g,d,b _ _ _ i,m,q]
def TabAt(K:za)(C m:Str)(c P:xB):Prop:=
 ∃(Ca f:xB)(oc:xM)(od:Option xB)(fd:xE)(sl:Array .DI),zb K vY C=u7 (u7 (.ref Ca))/\zh K (.ref Ca) m=u7 .Jo/\K.lookup f=u7 #[oc,od,.func fd,sl]/\fd.code=.ref c/\PySem.W.codeHdIn K c P=u9
structure Ext (a b:Wd):Prop where
 k:b.K=a.K
 n:a.n<=b.n
 m:∀i,i<a.n->b.m i=a.m i
 tup:∀p xs,a.H p=u7 .Aj->b.H p=u7 .Aj
 YN:∀p o u,a.H p=u7 .Bx->b.H p=u7 .Bx
 tab:∀p,XU a.H p->XU b.H p
def Ext.refl(a):Ext a a:=#[rfl,zX _,λ_ _=>rfl,λ_ _ h=>h,λ_ _ _ h=>h,λ_ h=>h]
def Ext.trans(x:Ext a b)(y:Ext b c):Ext a c:=
 #[y.k.trans x.k,zx x.n y.n,λi h=>(y.m i (zY h x.n)).trans (x.m i h),λp d h=>y.tup p d (x.tup p d h),λp o u h=>y.YN p o u (x.YN p o u h),λp h=>y.tab p (x.tab p h)]
def Ext.sqT(x:Ext a b)(h:YO a.K a.H p xs):YO b.K b.H p xs:=by
 rcases h with(h|⟨o,h⟩)|h
 .exact .inl (.inl .Ic)
 .exact .inl (.inr #[o,x.YN _ _ _ h])
 exact .inr (x.k▸h)
def Ext.fzL(x:Ext a b)(h:FzL a.K a.H p xs):FzL b.K b.H p xs:=by
 rcases h with⟨o,h⟩|⟨e,h⟩
 .exact .inl #[o,x.YN _ _ _ h]
 exact .inr #[e,x.k▸h]
mutual
theorem VG.mono(x:Ext a b):∀{d:D}{v:V},VG a d v->VG b d v
 |.WB,_,h=>h
 |.bl _,_,h=>h
 |.int _,_,h=>h
 |.str _,_,h=>h
 |.ty _,_,h=>h
 |.tup f,v,h=>by let#[p,c,e,q,r]:=h;exact#[p,c,e,x.sqT q,YA.mono x r]
 |.fl f,v,h=>by let#[p,c,e,q,r]:=h;exact#[p,c,e,x.fzL q,YA.mono x r]
 |.ref i,v,h=>by let#[l,e]:=h;exact#[zY l x.n,by rw[x.m i l];exact e]
theorem YA.mono(x:Ext a b):∀{ds:List D}{vs:List V},YA a ds vs->YA b ds vs
 |[],_,h=>h
 |d::ds,vs,h=>by let#[v,r,e,f,c]:=h;exact#[v,r,e,VG.mono x f,YA.mono x c]
end
theorem YA.length:∀{ds:List D}{vs:List V},YA a ds vs->ds.length=vs.length
 |[],vs,h=>by cases(h);rfl
 |d::ds,vs,h=>by let#[v,r,e,c,b]:=h;subst e;show ds.length+1=r.length+1;rw[YA.length b]
theorem YA.get:∀{ds:List D}{vs:List V}{i:Nat}{d:D},YA a ds vs->ds[i]?=u7 d->∃v,vs[i]?=u7 v/\VG a d v
 |[],vs,_,_,h,e=>by simp at e
 |d::ds,vs,0,j,h,e=>by let#[v,r,b,f,c]:=h;subst b;simp at e;subst e;exact#[v,rfl,f]
 |d::ds,vs,i+1,j,h,e=>by let#[v,r,b,f,c]:=h;subst b;let#[w,g,k]:=YA.get c (by simpa using e);exact#[w,by simpa using g,k]
theorem YA.get':∀{ds:List D}{vs:List V}{i:Nat}{v:V},YA a ds vs->vs[i]?=u7 v->∃d,ds[i]?=u7 d/\VG a d v
 |[],vs,_,_,h,e=>by cases(h);simp at e
 |d::ds,vs,0,j,h,e=>by let#[v,r,b,f,c]:=h;subst b;simp at e;subst e;exact#[d,rfl,f]
 |d::ds,vs,i+1,j,h,e=>by let#[v,r,b,f,c]:=h;subst b;let#[w,g,k]:=YA.get' c (by simpa using e);exact#[w,by simpa using g,k]
theorem YA.append:∀{ds es:List D}{vs us:List V},YA a ds vs->YA a es us->YA a (ds++es) (vs++us)
 |[],_,vs,_,h,b=>by cases(h);exact b
 |d::ds,es,vs,us,h,b=>by let#[v,r,f,c,e]:=h;subst f;exact#[v,r++us,rfl,c,.append e b]
def YA.cons(h:VG a d v)(r:YA a ds vs):YA a (d::ds) (v::vs):=#[v,vs,rfl,h,r]
theorem YA.nil:YA a [] []:=rfl
theorem YA.set(h:VG a d v):∀{ds:List D}{vs:List V}i,YA a ds vs->YA a (ds.set i d) (vs.set i v)
 |[],vs,_,r=>by cases(r);exact rfl
 |j::ds,vs,0,r=>by let#[f,e,b,g,c]:=r;subst b;exact#[v,e,rfl,h,c]
 |j::ds,vs,i+1,r=>by let#[f,e,b,g,c]:=r;subst b;exact#[f,e.set i v,rfl,g,.set h i c]
theorem YA.take:∀{ds:List D}{vs:List V}i,YA a ds vs->YA a (ds.take i) (vs.take i)
 |_,_,0,_=>rfl
 |[],vs,_+1,r=>by cases(r);exact rfl
 |g::ds,vs,i+1,r=>by let#[d,f,b,e,c]:=r;subst b;exact#[d,f.take i,rfl,e,.take i c]
theorem YA.drop:∀{ds:List D}{vs:List V}i,YA a ds vs->YA a (ds.drop i) (vs.drop i)
 |_,_,0,r=>r
 |[],vs,_+1,r=>by cases(r);exact rfl
 |e::ds,vs,i+1,r=>by let#[d,g,b,f,c]:=r;subst b;exact .drop i c
theorem YA.ints:∀(ns:List Int),YA a .A2 .Bk
 |[]=>rfl
 |n::ns=>#[.int n,ns.map V.int,rfl,rfl,.ints ns]
def RepKV{κ:Type}(a:Wd)(WE:List (κ×D))(us:List (κ×V)):Prop:=WE.map (·.1)=us.map (·.1)/\YA a (WE.map (·.2)) (us.map (·.2))
def ZI(a:Wd)(fs:List (Str×D))(us:List (Str×V)):Prop:=fs.map (·.1)=us.map (·.1)/\YA a (fs.map (·.2)) (us.map (·.2))
def XD(a:Wd)(od:Option xB)(fs:List (Str×D)):Prop:=(fs=[]/\od=u8)\/∃dx o us,od=u7 dx/\a.H dx=u7 (.YN o (.xd us))/\ZI a fs us
def ZO(a:Wd):DO->Option HO->Prop
 |.lst ds,o=>∃vs,o=u7 .A5/\YA a ds vs
 |.dct WE,o=>∃us,o=u7 (.dK us)/\RepKV a WE us
 |.dcT WE,o=>∃us,o=u7 (.dT us)/\RepKV a WE us
 |.ins c fs,o=>∃C dx us,zb a.K vY c=u7 .JT/\o=u7 .FL/\ZI a fs us
 |.tab C m,_=>∃c P,TabAt a.K C m c P/\XU a.H P
 |.exc c fs,o=>∃C oe u vs,zb a.K vY c=u7 .JT/\o=u7 (.YN oe u)/\oe.cls=.ref C/\oe.data=.fields vs/\XD a oe.dict fs
 |.gone,_=>True
structure XF (a:Wd) (G:DH):Prop where
 len:G.length=a.n
 inj:∀i j,i<a.n->j<a.n->a.m i=a.m j->i=j
 obj:∀(i:Nat)(o:DO),G[i]?=u7 o->ZO a o (a.H .Ay)
 tr:∀i,i<a.n->a.H .Ay≠u8
structure YH (a:Wd) (S:ZK) (σ:St):Prop where
 len:S.length=σ.length
 get:∀(i:Nat)(d:D),S[i]?=u7 (u7 d)->∃v,σ[i]?=u7 .ED/\VG a d v
def YH.mono(x:Ext a b)(r:YH a S σ):YH b S σ:=#[r.len,λi d h=>let#[v,e,q]:=r.get i d h;#[v,e,q.mono x]]
def YH.set(r:YH a S σ)(i)(h:VG a d v):YH a (S.set i (u7 d)) (σ.set i .ED):=by
 refine#[by simpa using r.len,λj e b=>?_];rw[j8]at b⊢;by_cases c:i=j
 .subst c;rw[if_pos rfl]at b⊢;by_cases f:i<S.length
  .rw[if_pos f]at b;have g:d=e:=by simpa using b
   subst g;rw[if_pos (by rw[<-r.len];exact f)];exact#[v,rfl,h]
  rw[if_neg f]at b;cases b
 rw[if_neg c]at b⊢;exact r.get j e b
def s?(E:XK)(a:Wd)(x:Xn)(G:DH):Prop:=E≠E0/\∀(b:Wd)(C:xB)(od:Option xB),Ext a b->XF b G->zb b.K vY x.cls=u7 .JT->XD b od x.fs->E .AR od b.H
def out(E:XK)(a:Wd)(r:R D)(Q:VK):Prop:=match r with
 |.ok d G=>∀(b:Wd)(v:V),Ext a b->XF b G->VG b d v->Q v b.H
 |.err x G=>s? E a x G
 |.bad=>False
def Gd(E:XK)(a:Wd)(r:R Bool)(Q:Bool->Hp->Prop):Prop:=match r with
 |.ok k G=>∀(b:Wd),Ext a b->XF b G->Q k b.H
 |.err x G=>s? E a x G
 |.bad=>False
def Gr(E:XK)(a:Wd)(r:R .DT)(Q:List V->Hp->Prop):Prop:=match r with
 |.ok ds G=>∀(b:Wd)(vs:List V),Ext a b->XF b G->YA b ds vs->Q vs b.H
 |.err x G=>s? E a x G
 |.bad=>False
def Ck(E:XK)(a:Wd)(r:SR)(W:Ends):Prop:=match r with
 |.nx S G=>∀(b:Wd)(σ:St),Ext a b->XF b G->YH b S σ->W.nx σ b.H
 |.bk S G=>∀(b:Wd)(σ:St),Ext a b->XF b G->YH b S σ->W.bk σ b.H
 |.ct S G=>∀(b:Wd)(σ:St),Ext a b->XF b G->YH b S σ->W.ct σ b.H
 |.rt d G=>∀(b:Wd)(v:V),Ext a b->XF b G->VG b d v->W.rt v b.H
 |.err x G=>s? E a x G
 |.bad=>False
def s?.mono(x:Ext a b)(h:s? E a e G):s? E b e G:=#[h.1,λc C d y s n q=>h.2 c C d .Cs s n q]
def out.mono(x:Ext a b)(h:out E a r Q):out E b r Q:=by
 rcases r with⟨d,G⟩|⟨e,G⟩|_
 .exact λc v y s q=>h c v .Cs s q
 .exact s?.mono x h
 exact h
def Gd.mono(x:Ext a b)(h:Gd E a r Q):Gd E b r Q:=by
 rcases r with⟨d,G⟩|⟨e,G⟩|_
 .exact λc y s=>h c .Cs s
 .exact s?.mono x h
 exact h
def Gr.mono(x:Ext a b)(h:Gr E a r Q):Gr E b r Q:=by
 rcases r with⟨d,G⟩|⟨e,G⟩|_
 .exact λc f y s q=>h c f .Cs s q
 .exact s?.mono x h
 exact h
theorem Ck.mono(x:Ext a b)(h:Ck E a r W):Ck E b r W:=by
 cases r with
 |err e G=>exact s?.mono x h
 |bad=>exact h
 |_=>exact λc f y s q=>h c f .Cs s q
inductive PS3 (K:za) (σ:St) (H:Hp) (φ:Wd->ZK->DH->Prop):Prop|mk (a:Wd) (S:ZK) (G:DH) (hk:a.K=K) (hH:a.H=H) (s:XF a G) (r:YH a S σ) (h:φ a S G):PS3 K σ H φ inductive PR3 {α β:Type} (a:Wd) (H:Hp) (r:R α) (v:β) (ρ:Wd->α->β->Prop) (φ:Wd->α->DH->Prop):Prop|mk (b:Wd) (d:α) (G:DH) (hH:b.H=H) (x:Ext a b) (s:XF b G) (q:ρ b d v) (e:r=.ok d G) (h:φ b d G):PR3 a H r v ρ φ inductive PN3 {α β:Type} (K:za) (H:Hp) (v:β) (ρ:Wd->α->β->Prop) (φ:Wd->DH->α->Prop):Prop|mk (a:Wd) (G:DH) (d:α) (hk:a.K=K) (hH:a.H=H) (s:XF a G) (q:ρ a d v) (h:φ a G d):PN3 K H v ρ φ inductive PD3 {α β γ δ:Type} (K:za) (H:Hp) (v:β) (w:δ) (ρ:Wd->α->β->Prop) (τ:Wd->γ->δ->Prop) (φ:Wd->DH->α->γ->Prop):Prop|mk (a:Wd) (G:DH) (d:α) (e:γ) (hk:a.K=K) (hH:a.H=H) (s:XF a G) (q:ρ a d v) (q':τ a e w) (h:φ a G d e):PD3 K H v w ρ τ φ inductive PG3 {α β:Type} (K:za) (σ:St) (H:Hp) (v:β) (ρ:Wd->α->β->Prop) (φ:Wd->ZK->DH->α->Prop):Prop|mk (a:Wd) (S:ZK) (G:DH) (d:α) (hk:a.K=K) (hH:a.H=H) (s:XF a G) (r:YH a S σ) (q:ρ a d v) (h:φ a S G d):PG3 K σ H v ρ φ inductive PB3 {α:Type} (a:Wd) (H:Hp) (r:R α) (k:α) (φ:Wd->DH->Prop):Prop|mk (b:Wd) (G:DH) (hH:b.H=H) (x:Ext a b) (s:XF b G) (e:r=.ok k G) (h:φ b G):PB3 a H r k φ def lE (K:za) (E:XK) (t:DE):TE:=λσ H Q=>PS3 K σ H λa S G=>out E a .Dy Q
def lB(K:za)(E:XK)(t:DB):TT:=λσ H Q=>PS3 K σ H λa S G=>Gd E a .Dy Q
def lA(K:za)(E:XK)(t:DA):TA:=λσ H Q=>PS3 K σ H λa S G=>Gr E a .Dy Q
def lS(K:za)(E:XK)(t:DS):TS:=λW σ H=>PS3 K σ H λa S G=>Ck E a .Dy W
def XO(K:za)(E:XK)(f:D->D->DH->R D):R2:=λx y H Q=>PD3 K H x y VG VG λa G d e=>out E a (f d e G) Q
def lR1(K:za)(E:XK)(f:D->DH->R D):V->Hp->VK->Prop:=λx H Q=>PN3 K H x VG λa G d=>out E a (f d G) Q
def C?(K:za)(E:XK)(f:List D->DH->R D):List V->Hp->VK->Prop:=λxs H Q=>PN3 K H xs YA λa G ds=>out E a .Fe Q
def lF(K:za)(f:List D->DH->R D):Sp:=λxs H Q _=>PN3 K H xs YA λa G ds=>out E0 a .Fe Q
def lFx(K:za)(f:List D->DH->R D):Sp:=λxs H Q E=>PN3 K H xs YA λa G ds=>out E a .Fe Q
section
variable{X:Cx}{E:XK}
def QE(X:Cx)(E:XK)(e:xD)(t:DE):Prop:=PE X e (lE X.K E t)
def QT(X:Cx)(E:XK)(e:xD)(t:DB):Prop:=PT X e (lB X.K E t)
def QA(X:Cx)(E:XK)(es:List xD)(t:DA):Prop:=PA X es (lA X.K E t)
def QS(X:Cx)(E:XK)(st:xL)(t:DS):Prop:=PS X st (lS X.K E t)
def YZ(X:Cx)(E:XK)(st:List xL)(t:DS):Prop:=e? X st (lS X.K E t)
def _root_._L.PE.mono(h:PE X e t)(w:∀b H Q,t' b H Q->t b H Q):PE X e t':=λa s b H Q I q=>h a s b H Q I .Gr
def _root_._L.PT.mono(h:PT X e t)(w:∀b H Q,t' b H Q->t b H Q):PT X e t':=λa s b H Q I q=>h a s b H Q I .Gr
def _root_._L.PA.mono(h:PA X e t)(w:∀b H Q,t' b H Q->t b H Q):PA X e t':=λc a s b H Q I q=>h c a s b H Q I .Gr
def _root_._L.PS.mono(h:PS X e t)(w:∀W b H,t' W b H->t W b H):PS X e t':=λa s b H W I q=>h a s b H W I (w W b H q)
def _root_._L.e?.mono(h:e? X e t)(w:∀W b H,t' W b H->t W b H):e? X e t':=λa s b H W I q=>h a s b H W I (w W b H q)
def _root_._L.ZF.mono(h:ZF X f r)(w:∀x y H Q,r' x y H Q->r x y H Q):ZF X f r':=λa s d H x y v u Q I c b q=>h a s d H x y v u Q I c b .Fv
end
theorem Er(h:out E a .BI Q):
  out E a r (λv H=>PR3 a H r v VG λb d G=>out E b (f d G) Q):=by
 cases r with
 |ok d G=>exact λb v x s q=>#[b,d,G,rfl,x,s,q,rfl,out.mono x h]
 |_=>exact h
theorem M9(h:out E a .BI Q):
  Gr E a r (λvs H=>PR3 a H r vs YA λb ds G=>out E b .Fe Q):=by
 cases r with
 |ok d G=>exact λb v x s q=>#[b,d,G,rfl,x,s,q,rfl,out.mono x h]
 |_=>exact h
theorem eR(h:out E a .BI Q):
  Gd E a r (λk H=>PB3 a H r k λb G=>out E b .Ht Q):=by
 cases r with
 |ok d G=>exact λb x s=>#[b,G,rfl,x,s,rfl,out.mono x h]
 |_=>exact h
theorem zm(h:Gd E a .BI Q):
  out E a r (λv H=>PR3 a H r v VG λb d G=>Gd E b (f d G) Q):=by
 cases r with
 |ok d G=>exact λb v x s q=>#[b,d,G,rfl,x,s,q,rfl,Gd.mono x h]
 |_=>exact h
theorem aW(h:Gd E a .BI Q):
  Gd E a r (λk H=>PB3 a H r k λb G=>Gd E b .Ht Q):=by
 cases r with
 |ok d G=>exact λb x s=>#[b,G,rfl,x,s,rfl,Gd.mono x h]
 |_=>exact h
theorem zo(h:Gr E a .BI Q):
  out E a r (λv H=>PR3 a H r v VG λb d G=>Gr E b (f d G) Q):=by
 cases r with
 |ok d G=>exact λb v x s q=>#[b,d,G,rfl,x,s,q,rfl,Gr.mono x h]
 |_=>exact h
theorem zp(h:Gr E a .BI Q):
  Gr E a r (λvs H=>PR3 a H r vs YA λb ds G=>Gr E b .Fe Q):=by
 cases r with
 |ok d G=>exact λb v x s q=>#[b,d,G,rfl,x,s,q,rfl,Gr.mono x h]
 |_=>exact h
def R.toS{α:Type}(f:α->DH->SR)(_:Fx f:=())(r:R α):SR:=match r with
 |.ok a G=>f a G
 |.err x G=>.err x G
 |.bad=>.bad
@[simp]theorem R.Lh{b:Type}(a:b)(G)(f):(R.ok a G).toS f=f a G:=id rfl
theorem Gm(h:Ck E a .GE W):
  out E a r (λv H=>PR3 a H r v VG λb d G=>Ck E b (f d G) W):=by
 cases r with
 |ok d G=>exact λb v x s q=>#[b,d,G,rfl,x,s,q,rfl,Ck.mono x h]
 |_=>exact h
theorem eS(h:Ck E a .GE W):
  Gd E a r (λk H=>PB3 a H r k λb G=>Ck E b .Ht W):=by
 cases r with
 |ok d G=>exact λb x s=>#[b,G,rfl,x,s,rfl,Ck.mono x h]
 |_=>exact h
section
theorem out.imp(h:out E a r Q)(w:∀v H,Q v H->Q' v H):out E a r Q':=by
 cases r with
 |ok d G=>exact λb v x s q=>w _ _ .EN
 |_=>exact h
theorem Gr.imp(h:Gr E a r Q)(w:∀v H,Q v H->Q' v H):Gr E a r Q':=by
 cases r with
 |ok d G=>exact λb v x s q=>w _ _ .EN
 |_=>exact h
theorem Gd.imp(h:Gd E a r Q)(w:∀v H,Q v H->Q' v H):Gd E a r Q':=by
 cases r with
 |ok d G=>exact λb x s=>w _ _ (h b x s)
 |_=>exact h
def Wd.push(a:Wd)(p:xB)(ho:HO):Wd:=#[a.K,a.n+1,λk=>if k=a.n then p else a.m k,upd a.H p ho]
def Wd.put(a:Wd)(p:xB)(ho:HO):Wd:={a with H:=upd a.H p ho}
def Ext.put(h:a.H p=u8):Ext a (a.put p ho):=
 #[rfl,zX _,λ_ _=>rfl,λq c e=>by show upd a.H p ho q=_;rw[Aw .DU];exact e,λq o u e=>by show upd a.H p ho q=_;rw[Aw .DU];exact e,λ_ t=>t.mono (λq b e=>by show upd a.H p ho q=_;rw[Aw .DU];exact e) (λq o u e=>by show upd a.H p ho q=_;rw[Aw .DU];exact e)]
def Ext.push(h:a.H p=u8):Ext a (a.push p ho):=
 #[rfl,jG _,λi b=>by show(if i=a.n then p else a.m i)=a.m i;rw[if_neg (qQ b)],λq d e=>by show upd a.H p ho q=_;rw[Aw .DU];exact e,λq o u e=>by show upd a.H p ho q=_;rw[Aw .DU];exact e,λ_ t=>t.mono (λq c e=>by show upd a.H p ho q=_;rw[Aw .DU];exact e) (λq o u e=>by show upd a.H p ho q=_;rw[Aw .DU];exact e)]
def XD.mono(x:Ext a b)(h:XD a od fs):XD b od fs:=by
 rcases h with h|⟨d,o,c,e,f,k,r⟩
 .exact .inl h
 exact .inr #[d,o,c,e,x.YN _ _ _ f,k,r.mono x]
theorem ZO.mono{a b:Wd}(x:Ext a b){o:DO}{q:Option HO}(h:ZO a o q):ZO b o q:=by
 cases o with
 |lst ds=>let#[vs,e,r]:=h;exact#[vs,e,r.mono x]
 |dct WE=>let#[us,e,k,r]:=h;exact#[us,e,k,r.mono x]
 |dcT WE=>let#[us,e,k,r]:=h;exact#[us,e,k,r.mono x]
 |ins c fs=>let#[C,dx,us,n,e,k,r]:=h;exact#[C,dx,us,by rw[x.k];exact n,e,k,r.mono x]
 |tab C m=>let#[c,P,e,t]:=h;exact#[c,P,by rw[x.k];exact e,x.tab _ t]
 |exc c fs=>let#[C,oe,u,vs,n,e,k1,k2,z]:=h;exact#[C,oe,u,vs,by rw[x.k];exact n,e,k1,k2,z.mono x]
 |gone=>trivial
def XF.lt(s:XF a G)(h:G[i]?=u7 o):i<a.n:=by rw[<-s.len];exact(z9.mp h).1
def XF.put(s:XF a G)(h:a.H p=u8):XF (a.put p ho) G:=by
 refine#[s.len,s.inj,λi o e=>?_,λi b=>?_]
 .have z:=s.tr i .Ff;show ZO _ o .KP;rw[Aw (λq=>z (by rw[q];exact h))];exact(s.obj i o e).mono (.put h)
 have z:=s.tr i b;show upd a.H p ho .Ay≠u8;rw[Aw (λq=>z (by rw[q];exact h))];exact z
def XF.push(s:XF a G)(h:a.H p=u8)(r:ZO .Id o (u7 ho)):XF .Id (G++[o]):=by
 have f:∀i,i<a.n->a.m i≠p:=λi g q=>s.tr i g (q▸h)
 have b:∀i,i<a.n->(a.push p ho).m i=a.m i:=λi g=>by show(if i=a.n then p else a.m i)=_;rw[if_neg (qQ g)]
 have d:(a.push p ho).m a.n=p:=by show(if a.n=a.n then p else a.m a.n)=_;rw[if_pos rfl]
 refine#[by simp[s.len,Wd.push],λi j g v e=>?_,λi u e=>?_,λi g=>?_]
 .have l:i<a.n+1:=g;have w:j<a.n+1:=v;by_cases c:i<a.n
  .by_cases k:j<a.n
   .rw[b i c,b j k]at e;exact s.inj i j c k e
   have:j=a.n:=.a
   subst this;rw[b i c,d]at e;exact absurd e (f i c)
  have:i=a.n:=.a
  subst this;by_cases k:j<a.n
  .rw[b j k,d]at e;exact absurd e.symm (f j k)
  lia
 .by_cases c:i<a.n
  .rw[zE (s.len▸c)]at e;rw[b i c];show ZO _ u .KP;rw[Aw (f i c)];exact(s.obj i u e).mono (.push h)
  have t:=(z9.mp e).1;have:i=a.n:=by rw[qw,s.len]at t;simp at t;lia
  subst this;rw[zM (s.len▸zX _),s.len]at e;simp at e;subst e;rw[d];show ZO _ o (upd a.H p ho p);rw[Gg];exact r
 have l:i<a.n+1:=g;by_cases c:i<a.n
 .rw[b i c];show upd a.H p ho .Ay≠u8;rw[Aw (f i c)];exact s.tr i c
 .have:i=a.n:=.a
  subst this;rw[d];show upd a.H p ho p≠u8;simp[Gg]
def Ext.wr(h:a.H p=u7 .A5):Ext a (a.put p ho):=
 #[rfl,zX _,λ_ _=>rfl,λq c e=>by
  show upd a.H p ho q=_;rw[Aw (λz=>by subst z;rw[h]at e;cases e)];exact e,λq o u e=>by
  show upd a.H p ho q=_;rw[Aw (λz=>by subst z;rw[h]at e;cases e)];exact e,λ_ t=>t.mono (λq b e=>by show upd a.H p ho q=_;rw[Aw (λz=>by subst z;rw[h]at e;cases e)];exact e) (λq o u e=>by show upd a.H p ho q=_;rw[Aw (λz=>by subst z;rw[h]at e;cases e)];exact e)]
def XF.wr(s:XF a G)(c:i<a.n)(h:a.H .Ay=u7 .A5)(r:YA .Jp ds' vs'):XF .Jp (G.set i (.lst ds')):=by
 refine#[by rw[qV];exact s.len,s.inj,λj o e=>?_,λj d=>?_]
 .rw[j8]at e;show ZO _ o (upd a.H .Ay .Dj .Hv);by_cases b:i=j
  .subst b;rw[if_pos rfl,if_pos (s.len▸c)]at e;cases e;rw[Gg];exact#[vs',rfl,r]
  rw[if_neg b]at e;rw[Aw λz=>b (s.inj _ _ .Ff c z).symm];exact(s.obj j o e).mono (.wr h)
 show upd a.H .Ay .Dj .Hv≠u8;by_cases b:a.m j=a.m i
 .simp[b,Gg]
 rw[Aw b];exact s.tr j d
mutual
def XG(n:Nat):D->Bool
 |.ref i=>decide (i<n)
 |.tup ds=>ZA n ds
 |.fl ds=>ZA n ds
 |_=>u9
def ZA(n:Nat):List D->Bool
 |[]=>u9
 |d::ds=>XG n d&&ZA n ds
end
def K4(n:Nat):DO->Bool
 |.lst ds=>ZA n ds
 |.dct WE=>ZA n (WE.map (·.2))
 |.dcT WE=>ZA n (WE.map (·.2))
 |.ins _ fs=>ZA n (fs.map (·.2))
 |.tab _ _=>u9
 |.exc _ fs=>ZA n (fs.map (·.2))
 |.gone=>u9
mutual
theorem VG.XG:∀{d:D}{v:V},VG a d v->XG a.n d=u9
 |.WB,_,_=>by simp[_D.XG]
 |.bl _,_,_=>by simp[_D.XG]
 |.int _,_,_=>by simp[_D.XG]
 |.str _,_,_=>by simp[_D.XG]
 |.ty _,_,_=>by simp[_D.XG]
 |.tup b,v,h=>by let#[p,c,e,q,r]:=h;simp only[_D.XG];exact YA.ZA r
 |.fl b,v,h=>by let#[p,c,e,q,r]:=h;simp only[_D.XG];exact YA.ZA r
 |.ref i,v,h=>by let#[l,e]:=h;simp only[_D.XG];exact decide_eq_true l
theorem YA.ZA:∀{b:List D}{vs:List V},YA a b vs->ZA a.n b=u9
 |[],_,_=>by simp[_D.ZA]
 |d::b,vs,h=>by
  let#[v,r,e,f,c]:=h;simp only[_D.ZA];rw[VG.XG f,YA.ZA c]
  rfl
end
structure Cut (b c:Wd):Prop where
 k:c.K=b.K
 h:c.H=b.H
mutual
theorem VG.cut(x:Cut b c)(a:n<=c.n)(g:∀i,i<n->c.m i=b.m i):∀{d:D}{v:V},VG b d v->XG n d=u9->VG c d v
 |.WB,_,h,_=>h
 |.bl _,_,h,_=>h
 |.int _,_,h,_=>h
 |.str _,_,h,_=>h
 |.ty _,_,h,_=>h
 |.tup o,v,h,q=>by let#[p,f,e,t,r]:=h;simp only[_D.XG]at q;exact#[p,f,e,by rw[x.k,x.h];exact t,YA.cut x a g r q]
 |.fl o,v,h,q=>by let#[p,f,e,t,r]:=h;simp only[_D.XG]at q;exact#[p,f,e,by rw[x.k,x.h];exact t,YA.cut x a g r q]
 |.ref i,v,h,q=>by let#[l,e]:=h;simp only[_D.XG]at q;have j:=of_decide_eq_true q;exact#[zY j a,by rw[g i j];exact e]
theorem YA.cut(x:Cut b c)(f:n<=c.n)(g:∀i,i<n->c.m i=b.m i):∀{a:List D}{vs:List V},YA b a vs->ZA n a=u9->YA c a vs
 |[],_,h,_=>h
 |d::a,vs,h,q=>by let#[v,r,e,j,k]:=h;simp only[_D.ZA,zN]at q;exact#[v,r,e,VG.cut x f g j q.1,YA.cut x f g k q.2]
end
theorem ZO.cut{b c:Wd}(x:Cut b c){n:Nat}(hn:n<=c.n)(hm:∀i,i<n->c.m i=b.m i){o:DO}{q:Option HO}(h:ZO b o q)(l:K4 n o=u9):ZO c o q:=by
 cases o with
 |lst ds=>let#[vs,e,r]:=h;exact#[vs,e,YA.cut x hn hm r l]
 |dct WE=>let#[us,e,k,r]:=h;exact#[us,e,k,YA.cut x hn hm r l]
 |dcT WE=>let#[us,e,k,r]:=h;exact#[us,e,k,YA.cut x hn hm r l]
 |ins c fs=>let#[C,dx,us,n,e,k,r]:=h;exact#[C,dx,us,by rw[x.k];exact n,e,k,YA.cut x hn hm r l]
 |tab C m=>let#[c,P,e,t]:=h;exact#[c,P,by rw[x.k];exact e,by rw[x.h];exact t]
 |exc c fs=>
  let#[C,oe,u,vs,n,e,k1,k2,z]:=h;refine#[C,oe,u,vs,by rw[x.k];exact n,e,k1,k2,?_];rcases z with z|⟨dx,o,us,e,f,k,r⟩
  .exact .inl z
  .exact .inr #[dx,o,us,e,by rw[x.h];exact f,k,YA.cut x hn hm r l]
 |gone=>trivial
theorem ZO.K4{a:Wd}{o:DO}{q:Option HO}(h:ZO a o q):K4 a.n o=u9:=by
 cases o with
 |lst ds=>let#[vs,e,r]:=h;exact r.ZA
 |dct WE=>let#[us,e,k,r]:=h;exact r.ZA
 |dcT WE=>let#[us,e,k,r]:=h;exact r.ZA
 |ins c fs=>let#[C,dx,us,n,e,k,r]:=h;exact r.ZA
 |tab C m=>rfl
 |exc c fs=>
  let#[C,oe,u,vs,n,e,k1,k2,z]:=h;rcases z with⟨z,_⟩|⟨dx,o,us,e,f,k,r⟩
  .rw[z];rfl
  .exact r.ZA
 |gone=>rfl
open Classical in
def tidy (G:DH) (r:R D):R D:=match r with
 | .ok d G'=>if G'.take G.length=G then
   (if XG G.length d=u9 then .ok d G else match d with
    |.ref i=>match G'[i]? with
     |some o=>if K4 G.length o=u9 then .ok .AH (G++[o])else .ok d G'
     |none=>.ok d G'
    |_=>.ok d G')else .ok d G'
 |r=>r
theorem eT (s:XF a G) (h:out E a (tidy G r) Q):out E a r Q:=by
 cases r with
 | ok d M=>
  intro b v x f I;unfold tidy at h;dsimp only at h;split at h
  .rename_i S;have F:∀i o,G[i]?=u7 o->M[i]?=u7 o:=λi o e=>by have C:=(z9.mp e).1;rw[<-S,jK C]at e;exact e
   have t:∀c,Cut b c->a.n<=c.n->(∀i,i<a.n->c.m i=b.m i)->∀i o,G[i]?=u7 o->ZO c o (c.H (c.m i)):=λc q P N i o e=>by rw[q.h,N i .Ff];exact(f.obj i o (F i o e)).cut q P N (s.obj i o e).K4
   split at h
   .rename_i z;rw[s.len]at z;let c:Wd:=#[b.K,a.n,b.m,b.H];have q:Cut b c:=#[rfl,rfl];exact h c v #[x.k,zX _,x.m,x.tup,x.YN,x.tab] #[s.len,λi j C g=>f.inj i j (zY C x.n) (zY g x.n),t c q .AK (λ_ _=>rfl),λi C=>f.tr i (zY C x.n)] (I.cut q .AK (λ_ _=>rfl) z)
   rename_i z;split at h
   .rename_i i;let#[B,L]:=I;split at h
    .rename_i o T;split at h
     .rename_i A;rw[s.len]at A z h;simp[_D.XG]at z;let c:Wd:=#[b.K,a.n+1,λk=>if k=a.n then b.m i else b.m k,b.H];have q:Cut b c:=#[rfl,rfl];have w:∀j,j<a.n->c.m j=b.m j:=λj g=>by show(if j=a.n then b.m i else b.m j)=_;rw[if_neg (qQ g)]
      have cn:c.m a.n=b.m i:=by show(if a.n=a.n then b.m i else b.m a.n)=_;rw[if_pos rfl]
      have l:∀j,j<a.n->j<b.n:=λj g=>zY g x.n
      refine h c v #[x.k,jG _,λj g=>(w j g).trans (x.m j g),x.tup,x.YN,x.tab] #[by simp[s.len,c],λj k g hk e=>?_,λj u e=>?_,λj g=>?_] #[qA _,cn▸L]
      .have J:j<a.n+1:=g;have U:k<a.n+1:=hk;by_cases p:j<a.n
       .by_cases y:k<a.n
        .rw[w j p,w k y]at e;exact f.inj j k (l j p) (l k y) e
        .have:k=a.n:=.a
         subst this;rw[w j p,cn]at e;have:=f.inj j i (l j p) B e;lia
       .have:j=a.n:=.a
        subst this;by_cases y:k<a.n
        .rw[w k y,cn]at e;have:=f.inj i k B (l k y) e;lia
        lia
      .by_cases p:j<a.n
       .rw[zE (s.len▸p)]at e;exact t c q (jG _) w j u e
       .have O:=(z9.mp e).1;have:j=a.n:=by rw[qw,s.len]at O;simp at O;lia
        subst this;rw[zM (s.len▸zX _),s.len]at e;simp at e;subst e;rw[cn];exact(f.obj i o T).cut q (jG _) w A
      .have J:j<a.n+1:=g;by_cases p:j<a.n
       .rw[w j p];exact f.tr j (l j p)
       .have:j=a.n:=.a
        subst this;rw[cn];exact f.tr i B
     exact h b v x f #[B,L]
    exact h b v x f #[B,L]
   exact h b v x f I
  exact h b v x f I
 |_=>exact h
end
def dV(i:Nat):DE:=λS G=>match S[i]? with
 |some (u7 d)=>.ok d G
 |_=>.bad
def dC(d:D):DE:=λ_ G=>.ok d G
def ZC(f:D->D->DH->R D)(a b:DE):DE:=λS G=>(a S G).bind λx G1=>(b S G1).bind λy G2=>f x y G2
def dUn(f:D->DH->R D)(a:DE):DE:=λS G=>(a S G).bind f
def Bp:DA:=λ_ G=>.ok [] G
def Bg(a:DE)(r:DA):DA:=λS G=>(a S G).bind λx G1=>(r S G1).bind λxs G2=>.ok (x::xs) G2
def XA(f:List D->DH->R D)(t:DA):DE:=λS G=>(t S G).bind f
def Cq(t:DE):DE:=λS G=>tidy G .Dy
def asB:D->DH->R Bool
 |.bl k,G=>.ok k G
 |_,_=>.bad
def Aj(t:DE):DB:=λS G=>(t S G).bind asB
def Hm(t u:DB):DB:=λS G=>(t S G).bind λk G1=>if k=u9 then u S G1 else .ok uA G1
def UW(t u:DB):DB:=λS G=>(t S G).bind λk G1=>if k=u9 then .ok u9 G1 else u S G1
def Dl(t:DB):DB:=λS G=>(t S G).bind λk G1=>.ok (!k) G1
def Nx(t u:DE):DE:=λS G=>(t S G).bind λx G1=>(asB x G1).bind λk G2=>if k=u9 then u S G2 else .ok .Ap G2
def Ui(t u:DE):DE:=λS G=>(t S G).bind λx G1=>(asB x G1).bind λk G2=>if k=u9 then .ok .Ab G2 else u S G2
def Wn(t:DE):DE:=λS G=>(t S G).bind λx G1=>(asB x G1).bind λk G2=>.ok (.bl (!k)) G2
def dIf(c:DB)(t u:DE):DE:=λS G=>(c S G).bind λk G1=>if k=u9 then t S G1 else u S G1
def Hl(f g:D->D->DH->R D)(a b c:DE):DE:=λS G=>(a S G).bind λx G1=>(b S G1).bind λy G2=>(f x y G2).bind λz G3=>(asB z G3).bind λk G4=>
 if k=u9 then(c S G4).bind λw G5=>g y w G5 else .ok .Ap G4
def Ba(ds:List D)(G:DH):R D:=if ds.length<=1000000 then .ok .By G else .bad
def Aq(ds:List D)(G:DH):R D:=if ds.length<=1000000 then .ok .AH (G++[.lst ds])else .bad
def Bf(d:D)(G:DH):Option (List D):=match d with
 |.tup xs=>u7 xs
 |.fl xs=>u7 xs
 |.ref i=>match G[i]? with
  |some .AI=>u7 xs
  |_=>u8
 |_=>u8
def WH:(1000000:Nat)<=sizeLine:=.c
section
variable{X:Cx}{E:XK}{a b c:xD}{ta tb tc:DE}{pos:Pos}
def two{K:za}{f:D->D->DH->R D}{g:St}{H:Hp}{Q:VK}(h:lE K E (ZC f ta tb) g H Q):tOp (XO K E f) (lE K E ta) (lE K E tb) g H Q:=by let#[a,S,G,hk,rfl,s,r,h]:=h;refine#[a,S,G,hk,rfl,s,r,(Er h).imp ?_];rintro v _ ⟨b,d,i,rfl,x,z,q,_,j⟩;refine#[b,S,i,x.k.trans hk,rfl,z,r.mono x,(Er j).imp ?_];rintro w _ ⟨c,e,n,rfl,y,m,o,_,l⟩;exact#[c,n,d,e,y.k.trans .A3,rfl,m,q.mono y,o,l]
def Cp(i){pos:Pos}(j:X.N[i]?=u7 x:=by rfl)(k:Vis X.env.scope x:=by first|exact Or.inl rfl|exact Or.inr (Or.inl rfl)|exact Or.inr (Or.inr rfl))(l:(x==("__debug__":Str))=uA:=by decide)
  (f:(x==("__classdict__":Str))=uA:=by decide):QE X E .As (dV i):=by
 refine(sX j k l f).mono λm H Q h=>?_
 let#[a,S,G,hk,rfl,s,r,h]:=h;unfold dV at h;split at h
 .rename_i d e;let#[v,g,q]:=r.get i d e;exact#[v,g,h a v .AG s q]
 exact h.elim
def Qg{K:za}{d:D}{v:V}{f:St}{H:Hp}{Q:VK}(h:lE K E (dC d) f H Q)(r:∀a,a.K=K->VG a d v):Q v H:=by let#[a,S,G,hk,rfl,s,_,h]:=h;exact h a v .AG s (r a hk)
def Oc{i:Int}{j:Nat}:QE X E .KI (dC .AM):=sY.mono λd H Q h=>Qg h λ_ _=>rfl
def zr{i:Bool}{j:Nat}:QE X E (.Constant (.bool i) j pos) (dC (.bl i)):=sZ.mono λd H Q h=>Qg h λ_ _=>rfl
def zt{j:Nat}:QE X E .Ex (dC .WB):=s8.mono λd H Q h=>Qg h λ_ _=>rfl
def Lk{i:Str}{j:Nat}:QE X E (.Constant (.str i) j pos) (dC (.str i)):=s9.mono λd H Q h=>Qg h λ_ _=>rfl
def X4(g:Gl X x)(i:X.mg x=u7 u)(r:RelV v u)(f:∀a,a.K=X.K->VG a d v)(j:(x==("__debug__":Str))=uA:=by decide):QE X E .As (dC d):=
 (aJ g i r j).mono λk H Q h=>Qg h f
def zu(ho:ZF X (xU op) .B4)(g:QE X E a ta)(d:QE X E b tb):QE X E .Fy (ZC f ta tb):=
 (uC ho g d).mono λ_ _ _ h=>two h
def O9(ho:ZF X .Dx .B4)(g:QE X E a ta)(d:QE X E b tb)(i:xT op b=uA):QE X E (.Compare a [op] [b] pos) (ZC f ta tb):=
 (uU ho g d i).mono λ_ _ _ h=>two h
theorem V7{K:za}{t:DE}{f:St}{H:Hp}{Q:Bool->Hp->Prop}(h:lB K E (Aj t) f H Q):Sv (lE K E t) f H Q:=by
 let#[a,S,G,hk,rfl,s,r,h]:=h;refine#[a,S,G,hk,rfl,s,r,(zm h).imp ?_];rintro v _ ⟨b,d,j,rfl,x,i,q,_,g⟩;cases d with
 |bl k=>exact#[k,q,g b .BG i]
 |_=>exact g.elim
def aX(w:∀d H Q,t' d H Q->t d H Q)(d)(H)(Q)(h:Sv t' d H Q):Sv t d H Q:=w _ _ _ h
def Us(ho:ZF X .Dx .B4)(i:QE X E a ta)(g:QE X E b tb)(j:xT op b=uA):QT X E (.Compare a [op] [b] pos) (Aj (ZC f ta tb)):=
 (dq ho i g j).mono λd H Q h=>aX (λ_ _ _ z=>two z) d H Q (V7 h)
theorem chain{K:za}{f g:D->D->DH->R D}{n:St}{H:Hp}{Q:VK}(h:lE K E .Gj n H Q):aO (XO K E f) (XO K E g) (lE K E ta) (lE K E tb) (lE K E tc) n H Q:=by
 let#[a,S,G,hk,rfl,s,r,h]:=h;refine#[a,S,G,hk,rfl,s,r,(Er h).imp ?_];rintro v _ ⟨b,d,B,rfl,x,U,q,_,O⟩;refine#[b,S,B,x.k.trans hk,rfl,U,r.mono x,(Er O).imp ?_];rintro w _ ⟨c,e,J,rfl,y,P,l,_,C⟩;refine#[c,J,d,e,y.k.trans .A3,rfl,P,q.mono y,l,(Er C).imp ?_];rintro z _ ⟨o,F,T,rfl,i,A,Y,_,j⟩;cases F with
 |bl k=>
  refine#[k,Y,?_];rcases k with _|_
  .exact j o .Ap .IM A rfl
  refine#[o,S,T,.LW,rfl,A,((r.mono x).mono y).mono i,(Er j).imp ?_];rintro z4 _ ⟨M,e4,L,rfl,m,I,N,_,Z⟩;exact#[M,L,e,e4,m.k.trans .LW,rfl,I,(l.mono i).mono m,N,Z]
 |_=>exact j.elim
def eU(ho:ZF X .Dx .B4)(d:ZF X .G0 .GF)(j:QE X E a ta)(i:QE X E b tb)(l:QE X E c tc)
  (k:lastMarks [op,op'] [b,c]=uA:=by with_unfolding_all rfl):QE X E (.Compare a [op,op'] [b,c] pos) (Hl f g ta tb tc):=
 (ua ho d j i l k).mono λ_ _ _ h=>chain h
def AA(ho:ZF X .Dx .B4)(d:ZF X .G0 .GF)(k:QE X E a ta)(j:QE X E b tb)(m:QE X E c tc)
  (l:lastMarks [op,op'] [b,c]=uA:=by with_unfolding_all rfl):QT X E (.Compare a [op,op'] [b,c] pos) (Aj .Gj):=
 (uc ho d k j m l).mono λi H Q h=>aX (λ_ _ _ z=>chain z) i H Q (V7 h)
def R1(g:QE X E a ta)(f:∀d,isTrue a X.env d=(do let v<-d;standAt a.pos;holding [v] (truthy v)):=by rfl'):QT X E a (Aj ta):=
 (se g f).mono λi H Q h=>V7 h
def AB(d:QE X E a ta):QE X E a (Cq ta):=.mono d λf H Q h=>by let#[w,S,G,hk,rfl,s,r,h]:=h;exact#[w,S,G,hk,rfl,s,r,eT s h]
def QW(X:Cx)(E:XK)(e:xD)(t:DB):Prop:=PW X e (lB X.K E t)
def _root_._L.PW.mono(h:PW X e t)(w:∀d H Q,t' d H Q->t d H Q):PW X e t':=λg f s d H Q I q=>h g f s d H Q I (w d H Q q)
variable{u t:DB}{rest:List xD}
theorem AC{K:za}{d:St}{H:Hp}{Q:Bool->Hp->Prop}(h:lB K E (Hm t u) d H Q):tAnd (lB K E t) (lB K E u) d H Q:=by
 let#[a,S,G,hk,rfl,s,r,h]:=h;refine#[a,S,G,hk,rfl,s,r,(aW h).imp ?_];rintro k _ ⟨b,i,rfl,x,g,_,f⟩;cases k with
 |true=>exact#[b,S,i,x.k.trans hk,rfl,g,r.mono x,f]
 |false=>exact f b .BG g
theorem AD{K:za}{d:St}{H:Hp}{Q:Bool->Hp->Prop}(h:lB K E (UW t u) d H Q):tOr (lB K E t) (lB K E u) d H Q:=by
 let#[a,S,G,hk,rfl,s,r,h]:=h;refine#[a,S,G,hk,rfl,s,r,(aW h).imp ?_];rintro k _ ⟨b,i,rfl,x,g,_,f⟩;cases k with
 |true=>exact f b .BG g
 |false=>exact#[b,S,i,x.k.trans hk,rfl,g,r.mono x,f]
def AE(d:QT X E a t):QW X E (.BoolOp .And [a] pos) t:=pw_and1 d
def Y0(d:QT X E a t):QW X E (.BoolOp .Or [a] pos) t:=pw_or1 d
def aY(f:QT X E a t)(d:QW X E (.BoolOp .And (b::rest) pos) u):QW X E (.BoolOp .And (a::b::rest) pos) (Hm t u):=(pw_and f d).mono λ_ _ _ h=>AC h
def Y7(f:QT X E a t)(d:QW X E (.BoolOp .Or (b::rest) pos) u):QW X E (.BoolOp .Or (a::b::rest) pos) (UW t u):=(pw_or f d).mono λ_ _ _ h=>AD h
def Ur(h:QW X E a t):QT X E a t:=_L.PW.pt h
def Ry(f:QT X E a t):QT X E .CU (Dl t):=(sf f).mono λj H Q h=>by let#[a,S,G,hk,rfl,s,r,h]:=h;refine#[a,S,G,hk,rfl,s,r,(aW h).imp ?_];rintro k _ ⟨b,i,rfl,x,g,_,d⟩;exact d b .BG g
def Ua{op}(h:QE X E a ta):QE X E (.BoolOp op [a] pos) ta:=sk h
theorem aZ(l:QE X E a ta)(j:QE X E (.BoolOp .And (b::rest) pos) tb):QE X E (.BoolOp .And (a::b::rest) pos) (Nx ta tb):=(so l j).mono λm H Q h=>by
 let#[a,S,G,hk,rfl,s,r,h]:=h;refine#[a,S,G,hk,rfl,s,r,(Er h).imp ?_];rintro v _ ⟨b,d,i,rfl,x,g,q,_,f⟩;cases d with
 |bl k=>
  refine#[k,q,?_];cases k with
  |true=>exact#[b,S,i,x.k.trans hk,rfl,g,r.mono x,f]
  |false=>exact f b _ .BG g rfl
 |_=>exact f.elim
theorem eV(l:QE X E a ta)(j:QE X E (.BoolOp .Or (b::rest) pos) tb):QE X E (.BoolOp .Or (a::b::rest) pos) (Ui ta tb):=(su l j).mono λm H Q h=>by
 let#[a,S,G,hk,rfl,s,r,h]:=h;refine#[a,S,G,hk,rfl,s,r,(Er h).imp ?_];rintro v _ ⟨b,d,i,rfl,x,g,q,_,f⟩;cases d with
 |bl k=>
  refine#[k,q,?_];rcases k with _|_
  .exact#[b,S,i,x.k.trans hk,rfl,g,r.mono x,f]
  exact f b _ .BG g rfl
 |_=>exact f.elim
theorem AF(g:QE X E a ta):QE X E .CU (Wn ta):=(sv g).mono λl H Q h=>by
 let#[a,S,G,hk,rfl,s,r,h]:=h;refine#[a,S,G,hk,rfl,s,r,(Er h).imp ?_];rintro v _ ⟨b,d,j,rfl,x,i,q,_,f⟩;cases d with
 |bl k=>exact#[k,q,f b _ .BG i rfl]
 |_=>exact f.elim
theorem AG(l:QT X E c t)(j:QE X E a ta)(i:QE X E b tb):QE X E .F7 (dIf t ta tb):=(sx l j i).mono λm H Q h=>by
 let#[a,S,G,hk,rfl,s,r,h]:=h;refine#[a,S,G,hk,rfl,s,r,(eR h).imp ?_];rintro k _ ⟨b,d,rfl,x,g,_,f⟩;cases k with
 |_=>exact#[b,S,d,x.k.trans hk,rfl,g,r.mono x,f]
variable{es:List xD}{tr:DA}
def Jd:QA X E [] Bp:=wo.mono λd H Q h=>by let#[a,S,G,hk,rfl,s,r,h]:=h;exact h a [] .AG s rfl
def notStar:xD->Bool
 |.Starred _ _=>uA
 |_=>u9
def Nq(a)(es)(env)(h:notStar a=u9):vv (a::es) env=(uA,eval a env)::vv es env:=by
 cases a<;>first
  |exact absurd h zO
  |rfl
theorem Oo(pos)(env):∀es,es.all notStar=u9->(xR pos (vv es env)).any (·.1)=uA
 |[],_=>rfl
 |a::es,h=>by
  rw[jy,zN]at h;rw[Nq a es env h.1];have d:=Oo pos env es h.2;unfold xR at d⊢;rw[zk,List.any_cons,d]
  rfl
def Hn(m:QE X E a ta)(o:QA X E es tr)(i:notStar a=u9:=by rfl):QA X E (a::es) (Bg ta tr):=(wt m o (Nq a es X.env i)).mono λz H Q h=>by let#[a,S,G,hk,rfl,s,r,h]:=h;refine#[a,S,G,hk,rfl,s,r,(zo h).imp ?_];rintro v _ ⟨b,d,f,rfl,x,w,q,_,g⟩;refine#[b,S,f,x.k.trans hk,rfl,w,r.mono x,(zp g).imp ?_];rintro A _ ⟨c,C,B,rfl,y,l,n,_,j⟩;exact j c _ .EE l (.cons (q.mono y) n)
def eW{x1}(h:QA X E es tr):QE X E .F8 (XA Ba tr):=(wu h).mono λk H Q h=>by
 let#[a,S,G,hk,rfl,s,r,h]:=h;refine#[a,S,G,hk,rfl,s,r,(M9 h).imp ?_];rintro f _ ⟨b,l,j,rfl,x,i,q,_,d⟩;unfold Ba at d;split at d
 .rename_i g;exact#[by rw[<-q.length];exact zx g WH,λp hp=>(d (b.put p (.tup f)) .AL .EF (i.put hp) #[p,f,rfl,.of Gg,q.mono .EF])]
 exact d.elim
def AH(h:QA X E es tr):QE X E .Hq (XA Aq tr):=(xl h).mono λk H Q h=>by
 let#[a,S,G,hk,rfl,s,r,h]:=h;refine#[a,S,G,hk,rfl,s,r,(M9 h).imp ?_];rintro g _ ⟨b,l,j,rfl,x,f,q,_,d⟩;unfold Aq at d;split at d
 .rename_i i;refine#[by rw[<-q.length];exact zx i WH,λp hp=>?_];refine d (b.push p (.lst g)) .AL .Fg (f.push hp #[g,rfl,q.mono .Fg]) #[?_,?_]
  .rw[f.len];exact qA _
  rw[f.len];show V.ref p=.ref (if b.n=b.n then p else b.m b.n);rw[if_pos rfl]
 exact d.elim
variable{e:xD}{x:Str}{p:Pos}
def a0{K:za}{f:List D->DH->R D}{d:St}{H:Hp}{Q:VK}(h:lE K E (XA f tr) d H Q):lA K E tr d H (λvs g=>C? K E f vs g Q):=by let#[a,S,G,hk,rfl,s,r,h]:=h;refine#[a,S,G,hk,rfl,s,r,(M9 h).imp ?_];rintro vs _ ⟨b,l,i,rfl,x,m,q,_,j⟩;exact#[b,i,l,x.k.trans hk,rfl,m,q,j]
def Nm{id:String}{f:List D->DH->R D}(n:VE X .BO (C? X.K E f))(j:Gl X x)(m:X.mg x=u8)(l:vQ x=u7 .BO)(k:QA X E (e::es) tr)(i:x≠"__name__":=by decide)(g:(x==("__debug__":Str))=uA:=by decide)
  (o:notStar e=u9:=by rfl) (d:es.all notStar=u9:=by rfl):QE X E (.Call .CM (e::es) [] pos) (XA f tr):=
 (yD n j m l k i g .Gk (Oo pos X.env es d)).mono λq H Q h=>a0 h
def Rk{id:String}{f:List D->DH->R D}(n:VE X (.type id) (C? X.K E f))(j:Gl X x)(m:X.mg x=u8)(l:vQ x=u7 (.type id))(k:QA X E (e::es) tr)(i:x≠"__name__":=by decide)(g:(x==("__debug__":Str))=uA:=by decide)
  (o:notStar e=u9:=by rfl) (d:es.all notStar=u9:=by rfl):QE X E (.Call .CM (e::es) [] pos) (XA f tr):=
 (yE n j m l k i g .Gk (Oo pos X.env es d)).mono λq H Q h=>a0 h
def AI{CX:z?}{k:Nat}{f:xB}{i:xE}{ps:List Str}{F:List D->DH->R D}(m:WM X.prog X.w X.K X.mg X.base CX k f i ps .Dk)(C:VH k X.A)(n:Gl X x)(z:X.mg x=u7 .Ae)(hk:qh X.K .Ae=u9)(v:Binds X.K i ps [])
  (o:Passes CX X E0) (y:QA X E0 (e::es) tr) (g:(x==("__debug__":Str))=uA:=by decide) (J:notStar e=u9:=by rfl) (d:es.all notStar=u9:=by rfl):
  QE X E0 (.Call .CM (e::es) [] pos) (XA F tr):=
 (xn m C n z hk v .nil o y g (Nq e es X.env J) (Oo pos X.env es d)).mono λL H Q h=>by
  replace h:=a0 h;let#[a,S,G,hk,rfl,s,r,h]:=h
  refine#[a,S,G,hk,rfl,s,r,h.imp ?_];rintro M _ ⟨b,j,B,hk,rfl,I,q,l⟩;exact#[b,j,B,hk,rfl,I,by rw[qH];exact q,l]
def eX(g:UZ X .B4)(i:QE X E a ta)(j:QE X E b tb)(d:M' b:=by intro _ _;rfl):QE X E .Fd (ZC f ta tb):=
 (eM g i j d).mono λ_ _ _ h=>two h
end
noncomputable instance (i j:Int):Decidable (CMul i j):=by unfold CMul;infer_instance
noncomputable instance (i j:Int):Decidable (CPow i j):=by unfold CPow;infer_instance
def g?(j:Int):Prop:=0<j/\j.natAbs.log2<9000
noncomputable instance (j:Int):Decidable (g? j):=by unfold g?;infer_instance
def Oz:D->D->DH->R D
 |.int i,.int j,G=>.ok (.int (i-j)) G
 |_,_,_=>.bad
def Jx:D->D->DH->R D
 |.int i,.int j,G=>if g? j then .ok (.int (i/j)) G else .bad
 |_,_,_=>.bad
def Rm:D->D->DH->R D
 |.int i,.int j,G=>if 0<j then .ok (.int (i%j)) G else .bad
 |_,_,_=>.bad
def Uk:D->D->DH->R D
 |.int i,.int j,G=>if CPow i j then .ok (.int (i^j.toNat)) G else .bad
 |_,_,_=>.bad
def Nb:D->D->DH->R D
 |.int i,.int j,G=>.ok (.bl (decide (i<j))) G
 |.str i,.str j,G=>.ok (.bl (decide (i.cps.toList<j.cps.toList))) G
 |_,_,_=>.bad
def Dz:D->D->DH->R D
 |.int i,.int j,G=>.ok (.bl (decide (i<=j))) G
 |.str i,.str j,G=>.ok (.bl (!decide (j.cps.toList<i.cps.toList))) G
 |_,_,_=>.bad
def Uu:D->D->DH->R D
 |.int i,.int j,G=>.ok (.bl (decide (j<i))) G
 |.str i,.str j,G=>.ok (.bl (decide (j.cps.toList<i.cps.toList))) G
 |_,_,_=>.bad
def Ha(d:D)(G:DH):Option (List D):=match d with
 |.fl xs=>u7 xs
 |.ref i=>match G[i]? with
  |some .AI=>u7 xs
  |_=>u8
 |_=>u8
def Dw:D->D->DH->R D
 |.int i,.int j,G=>.ok (.int (i+j)) G
 |.str i,.str j,G=>if i.length+j.length<=1000000 then .ok (.str (i++j)) G else .bad
 |.tup xs,.tup ys,G=>if xs≠[]/\xs.length+ys.length<=1000000 then .ok (.tup (xs++ys)) G else .bad
 |d,e,G=>match Ha d G,Ha e G with
  |some xs,u7 ys=>if xs.length+ys.length<=1000000 then .ok .AH (G++[.lst (xs++ys)])else .bad
  |_,_=>.bad
section
variable{X:Cx}{E:XK}
def Gn(ho:ZF X f r)
  (h:∀a G d e x y Q,a.K=X.K->XF a G->VG a d x->VG a e y->out E a (F d e G) Q->r x y a.H Q):ZF X f (XO X.K E F):=
 ho.mono λx y H Q zz=>by let#[a,G,d,e,hk,g,s,b,c,q]:=zz;subst g;exact h a G d e x y Q hk s b c q
def AJ:ZF X (xU .Sub) (XO X.K E Oz):=Gn uF λa G d e x y Q hk s b c q=>by
 cases d<;>cases e<;>first
  |exact q.elim
  |exact#[_,_,b,c,q a _ .AG s rfl]
def AK:ZF X .Hx (rI (λ_ j=>g? j) λi j=>.int (i/j)):=opI λi j _ _ _ _ _ a q=>by refine floordiv_int (by have:=a.1;lia) (by rw[Int.fdiv_eq_ediv_of_nonneg _ (Int.le_of_lt a.1)];exact q) (.inl (PyProof.noPylong_of_log2 a.2))
def AL:ZF X .Hx (XO X.K E Jx):=Gn AK λa G d e x y Q hk s rd re q=>by
 cases d<;>cases e<;>first
  |exact q.elim
  | (
    rename_i i j;unfold Jx at q;dsimp only at q;split at q
    .exact#[_,_,rd,re,by assumption,q a _ .AG s rfl]
    exact q.elim)
def AM:ZF X (xU .Mod) (XO X.K E Rm):=Gn uG λa G d e x y Q hk s rd re q=>by
 cases d<;>cases e<;>first
  |exact q.elim
  | (
    rename_i i j;unfold Rm at q;dsimp only at q;split at q
    .exact#[_,_,rd,re,by assumption,q a _ .AG s rfl]
    exact q.elim)
def AN:ZF X (xU .Pow) (XO X.K E Uk):=Gn uH λa G d e x y Q hk s rd re q=>by
 cases d<;>cases e<;>first
  |exact q.elim
  | (
    rename_i i j;unfold Uk at q;dsimp only at q;split at q
    .exact#[_,_,rd,re,by assumption,q a _ .AG s rfl]
    exact q.elim)
def Yf:ZF X .Iz (XO X.K E Nb):=Gn (uL.or uO) λa G d e x y Q hk s b c q=>by
 cases d<;>cases e<;>first
  |exact q.elim
  |exact .inl #[_,_,b,c,q a _ .AG s rfl]
  |exact .inr #[_,_,b,c,q a _ .AG s rfl]
def AO:ZF X .IL (λx y H Q=>∃i j,x=.str i/\y=.str j/\Q (.bl (!decide (j.cps.toList<i.cps.toList))) H):=by intro a s d H x y v u Q I b c h;let#[i,j,rfl,rfl,q]:=h;let#[t,rfl]:=b;let#[e,rfl]:=c;exact PySem.P.le_str #[.bl _,H,I,rfl,q]
def AQ:ZF X .I0 (λx y H Q=>∃i j,x=.str i/\y=.str j/\Q (.bl (decide (j.cps.toList<i.cps.toList))) H):=by intro a s d H x y v u Q I b c h;let#[i,j,rfl,rfl,q]:=h;let#[t,rfl]:=b;let#[e,rfl]:=c;exact PySem.P.gt_str #[.bl _,H,I,rfl,q]
def Tg:ZF X .IL (XO X.K E Dz):=Gn (uM.or AO) λa G d e x y Q hk s b c q=>by
 cases d<;>cases e<;>first
  |exact q.elim
  |exact .inl #[_,_,b,c,q a _ .AG s rfl]
  |exact .inr #[_,_,b,c,q a _ .AG s rfl]
def Zl:ZF X .I0 (XO X.K E Uu):=Gn (uN.or AQ) λa G d e x y Q hk s b c q=>by
 cases d<;>cases e<;>first
  |exact q.elim
  |exact .inl #[_,_,b,c,q a _ .AG s rfl]
  |exact .inr #[_,_,b,c,q a _ .AG s rfl]
def XF.lst(s:XF a G)(h:G[i]?=u7 .AI):∃vs,a.H .Ay=u7 .A5/\YA a xs vs:=s.obj i _ h
def Ji{E:XK}(s:XF a G)(r:YA a ds vs)(h:out E a (.ok .AH (G++[.lst ds])) Q)(p)(hp:a.H p=u8):Q .AL (upd a.H p .A5):=by
 refine h (a.push p .A5) .AL .Fg (s.push hp #[vs,rfl,r.mono .Fg]) #[?_,?_]
 .rw[s.len];exact qA _
 rw[s.len];show V.ref p=.ref (if a.n=a.n then p else a.m a.n);rw[if_pos rfl]
def U8{E:XK}(s:XF a G)(r:YA a ds vs)(h:out E a (.ok .By G) Q)(p)(hp:a.H p=u8):Q .AL (upd a.H p (.tup vs)):=
 h (a.put p (.tup vs)) .AL .EF (s.put hp) #[p,vs,rfl,.of Gg,r.mono .EF]
theorem Rz(s:XF a G)(r:VG a d x)(h:Ha d G=u7 xs):∃p vs,x=.ref p/\WQ a.K a.H p vs/\YA a xs vs:=by
 cases d with
 |fl j=>
  have e:=w4 h;subst e;let#[p,vs,e,q,c]:=r;exact#[p,vs,e,q.sq,c]
 |ref i=>
  unfold Ha at h;dsimp only at h;split at h
  .rename_i j f;have e:=w4 h;subst e;let#[vs,b,g]:=s.lst f;exact#[a.m i,vs,r.2,.of b,g]
  cases h
 |_=>cases h
def eY(K:za):R2:=λx y H Q=>∃l b xs zs,x=.ref l/\y=.ref b/\WQ K H l xs/\WQ K H b zs/\xs.length+zs.length<=sizeLine/\∀p,H p=u8->Q .AL (upd H p (.lst (xs++zs)))
def AR:ZF X .Da (eY X.K):=by
 intro t s σ H x y v u Q I B U h;let#[l,b,Z,W,rfl,rfl,J,A,Y,q]:=h;cases B;cases U;let#[c,r,P,_]:=I.list J;let#[a,m,C,_]:=I.list A;let#[#[N,M,k,w],n,p,L,_,O]:=P;let#[#[o,j,e,f],z,d,g,_,i]:=C;cases L;cases O;cases g;cases i;have hl:=r.length;have S:=m.length;refine concat_meets #[_,p,rfl] #[_,d,rfl] noFill_list_add seq_list_add PySem.F.slot_list_add PySem.F.entry_list_add (PySem.F.args_list_add_2 _ _) (list_addW l b c.toArray a.toArray n z M j w f (by rw[z0,z0];lia)) #[p,d,?_]
 have T:c.toArray++a.toArray=(c++a).toArray:=.d
 rw[T];exact#[.ref _,_,I.lnew (r.append m) (by rw[qw];lia),rfl,q _ I.fresh]
def eZ:ZF X .Da (XO X.K E Dw):=Gn (uE.or (ud.or (AR.or yS))) λa G d e x y Q hk s rd re q=>by
 have lst:out E a (match Ha d G,Ha e G with
  |some xs,u7 ys=>if xs.length+ys.length<=1000000 then .ok .AH (G++[.lst (xs++ys)])else .bad
  |_,_=>.bad) Q->eY X.K x y a.H Q:=λq=>by
  split at q
  .rename_i xs ys h1 h2;split at q
   .rename_i hl;let#[p,vs,e1,q1,r1]:=Rz s rd h1;let#[p',vs',e2,q2,r2]:=Rz s re h2;rw[hk]at q1 q2;exact#[p,p',vs,vs',e1,e2,q1,q2,by rw[<-r1.length,<-r2.length];exact zx hl WH,λp hp=>Ji s .Hy q p hp]
   exact q.elim
  exact q.elim
 cases d<;>cases e<;>first
  |exact .inl #[_,_,rd,re,q a _ .AG s rfl]
  |exact(λq=>Or.inr (Or.inr (Or.inl (lst q)))) q
  |skip
 .rename_i i j;unfold Dw at q;dsimp only at q;split at q
  .rename_i hl;exact .inr (.inl #[_,_,rd,re,zx hl WH,q a _ .AG s rfl])
  exact q.elim
 .rename_i xs ys;unfold Dw at q;dsimp only at q;split at q
  .rename_i hl;let#[p,vs,e1,h1,r1]:=rd;let#[p',vs',e2,h2,r2]:=re;rw[hk]at h1 h2;refine .inr (.inr (.inr #[p,p',vs,vs',e1,e2,h1,h2,λz=>hl.1 (jz (by rw[r1.length,z];rfl)),by rw[<-r1.length,<-r2.length];exact zx hl.2 WH,λz=>?_,λ_ p0 hp=>(U8 s .Hy q p0 hp)]))
   .refine q a .AL .AG s #[p,vs,rfl,hk▸h1,?_];have e3:=jz (by rw[r2.length,z];rfl);rw[e3,qH];exact r1
  exact q.elim
inductive VD where
 |flat (v:V)
 |lst (xs:List D)
 |tup (xs:List D)
 |bad
def view(G:DH):D->VD
 |.WB=>.flat .WB
 |.bl b=>.flat .Dw
 |.int i=>.flat .AM
 |.str x=>.flat .Af
 |.ty _=>.bad
 |.tup xs=>.tup xs
 |.fl xs=>.lst xs
 |.ref i=>match G[i]? with
  |some .AI=>.lst xs
  |_=>.bad
def eqZ(f:D->D->Option Bool):List D->List D->Option Bool
 |x::xs,y::ys=>match f x y,eqZ f xs ys with
  |some a,u7 b=>u7 (a&&b)
  |_,_=>u8
 |_,_=>u7 u9
def eqD:Nat->DH->D->D->Option Bool
 |0=>λ_ _ _=>u8
 | n+1=>λG d e=>match view G d,view G e with
  |.flat a,.flat b=>u7 (r? a b)
  |.lst xs,.lst ys=>if xs.length=ys.length then eqZ .IN xs ys else u7 uA
  |.tup xs,.tup ys=>match eqZ .IN xs ys with
   |some b=>u7 (b&&xs.length==ys.length)
   |none=>u8
  |.bad,_=>u8
  |_,.bad=>u8
  |_,_=>u7 uA
theorem Vy:∀{xs ys:List D}{k:Bool},eqZ f xs ys=u7 k->∃e,(∀j x y,xs[j]?=u7 x->ys[j]?=u7 y->f x y=u7 (e j))/\k=(zV (min xs.length ys.length)).all e
 | [],ys,k,h=>#[λ_=>u9,λj x y c _=>by simp at c,by
   have d:u7 u9=u7 k:=by cases ys<;>exact h
   cases d;simp]
 |x::xs,[],k,h=>#[λ_=>u9,λj x y _ c=>by simp at c,by have d:=h;cases d;simp]
 | x::xs,y::ys,k,h=>by
  unfold eqZ at h;split at h
  .rename_i a b i l;let#[e,n,hk]:=Vy l
   refine#[λj=>match j with |0=>a|j+1=>e j,λj o m c g=>?_,?_]
   .rcases j with _|j
    .simp at c g;subst c;subst g;exact i
    exact n j o m (by simpa using c) (by simpa using g)
   rw[<-(w4 h),hk];have:min (x::xs).length (y::ys).length=min xs.length ys.length+1:=by simp only[q9];lia
   rw[this,jJ,jy,List.all_map]
   rfl
  cases h
theorem Xh(s:XF a G)(r:VG a d x):match view G d with
  |.flat v=>x=v/\Ej v=u9
  |.lst g=>∃p c,x=.ref p/\WQ a.K a.H p c/\YA a g c
  |.tup g=>∃p c,x=.ref p/\YO a.K a.H p c/\YA a g c
  |.bad=>True:=by
 cases d with
 |ty n=>trivial
 |tup g=>
  let#[p,c,e,h,q]:=r;exact#[p,c,e,h,q]
 |fl g=>
  let#[p,c,e,h,q]:=r;exact#[p,c,e,h.sq,q]
 | ref i=>
  unfold view;dsimp only;split
  .rename_i v f
   split at f<;>cases f
  .rename_i g f;split at f
   .rename_i o k;cases f;let#[c,j,l]:=s.lst k;exact#[a.m i,c,r.2,.of j,l]
   cases f
  .rename_i g f
   split at f<;>cases f
  trivial
 |_=>exact#[r,rfl]
theorem AS(f:RelV y u)(c:RelV x v)(g:Ej y=u9)(e:Ej x=u9):SeqAt.RcAt A s u v (r? y x):=by
 cases y with
 |WB=>
  cases f;cases x with
  |WB=>cases c;exact .none_none
  |bl b=>cases c;exact .none_bool b
  |int b=>let#[t,rfl]:=c;exact .none_int b t
  |str b=>let#[t,rfl]:=c;exact .none_str b t
  |_=>exact absurd (e) zO
 |bl a=>
  cases f;cases x with
  |WB=>cases c;exact .bool_none a
  |bl b=>cases c;exact .bool_bool a b
  |int b=>let#[t,rfl]:=c;exact .bool_int a b t
  |str b=>let#[t,rfl]:=c;exact .bool_str a b t
  |_=>exact absurd (e) zO
 |int a=>
  let#[d,rfl]:=f;cases x with
  |WB=>cases c;exact .int_none a d
  |bl b=>cases c;exact .int_bool a d b
  |int b=>let#[t,rfl]:=c;exact .int_int a d b t
  |str b=>let#[t,rfl]:=c;exact .int_str a d b t
  |_=>exact absurd (e) zO
 |str a=>
  let#[d,rfl]:=f;cases x with
  |WB=>cases c;exact .str_none a d
  |bl b=>cases c;exact .str_bool a d b
  |int b=>let#[t,rfl]:=c;exact .str_int a d b t
  |str b=>let#[t,rfl]:=c;exact .str_str a d b t
  |_=>exact absurd (e) zO
 |_=>exact absurd (g) zO
theorem AU(f:RelV y u)(c:RelV x v)(g:Ej y=u9)(e:Ej x=u9):SeqAt.RcNeAt A s u v (!r? y x):=by
 cases y with
 |WB=>
  cases f;cases x with
  |WB=>cases c;exact .none_none
  |bl b=>cases c;exact .none_bool b
  |int b=>let#[t,rfl]:=c;exact .none_int b t
  |str b=>let#[t,rfl]:=c;exact .none_str b t
  |_=>exact absurd (e) zO
 |bl a=>
  cases f;cases x with
  |WB=>cases c;exact .bool_none a
  |bl b=>cases c;exact .bool_bool a b
  |int b=>let#[t,rfl]:=c;exact .bool_int a b t
  |str b=>let#[t,rfl]:=c;exact .bool_str a b t
  |_=>exact absurd (e) zO
 |int a=>
  let#[d,rfl]:=f;cases x with
  |WB=>cases c;exact .int_none a d
  |bl b=>cases c;exact .int_bool a d b
  |int b=>let#[t,rfl]:=c;exact .int_int a d b t
  |str b=>let#[t,rfl]:=c;exact .int_str a d b t
  |_=>exact absurd (e) zO
 |str a=>
  let#[d,rfl]:=f;cases x with
  |WB=>cases c;exact .str_none a d
  |bl b=>cases c;exact .str_bool a d b
  |int b=>let#[t,rfl]:=c;exact .str_int a d b t
  |str b=>let#[t,rfl]:=c;exact .str_str a d b t
  |_=>exact absurd (e) zO
 |_=>exact absurd (g) zO
end
section
variable{X:Cx}{E:XK}{vT:List (xB×Obj)}{σ:St}{s:xI}
def AV(v)(h:Ej v=u9):r? v v=u9:=by cases v<;>first|rfl|exact absurd (h) zO|(simp[r?])
theorem e0(I:Inv X vT σ a.H s)(hk:a.K=X.K)(L:XF a G):∀n{d e:D}{x:V}{k:Bool},VG a d x->VG a e x->eqD n G d e=u7 k->k=u9
 |0,_,_,_,_,_,_,h=>by cases h
 | n+1,d,e,x,k,T,P,h=>by
  have m:=Xh L T;have o:=Xh L P;have r:∀{B A:List D}{q:List V}{b:Bool},YA a B q->YA a A q->eqZ .IN B A=u7 b->b=u9:=λ{B A q b}y t F=>by let#[f,Q,S]:=Vy F;rw[S,qE];intro j W;have N:=qx.mp W;have l:B[j]?=u7 (B[j]' .a):=zJ .a;have g:A[j]?=u7 (A[j]' .a):=zJ .a;let#[Z,c,M]:=y.get l;let#[v2,i,O]:=t.get g;rw[c]at i;cases i;exact e0 I hk L n M O (Q j _ _ l g)
  unfold eqD at h
  revert h m o
  cases view G d<;>cases view G e<;>intro m o h<;>dsimp only at h m o<;>first
   |cases h
   |skip
  .
   rename_i v w;let#[rfl,u]:=m;let#[rfl,Y]:=o;exact AV _ u
  .let#[rfl,u]:=m;let#[p,q,c,_]:=o;subst c;cases u
  .let#[rfl,u]:=m;let#[p,q,c,_]:=o;subst c;cases u
  .let#[rfl,u]:=o;let#[p,q,c,_]:=m;subst c;cases u
  .let#[p,q,c,l,y]:=m;let#[J,z,i,g,t]:=o;rw[c]at i;cases i;rw[hk]at l g;cases I.Zw l g;split at h
   .exact r y t h
   rename_i U;exact absurd (y.length.trans t.length.symm) U
  .let#[p,q,c,l,y]:=m;let#[J,z,i,g,t]:=o;rw[c]at i;cases i;rw[hk]at l g;let#[_,_,C,_]:=I.list l;let#[_,_,pt,_]:=I.tuple g;exact absurd rfl .G3
  .let#[rfl,u]:=o;let#[p,q,c,_]:=m;subst c;cases u
  .let#[p,q,c,l,y]:=m;let#[J,z,i,g,t]:=o;rw[c]at i;cases i;rw[hk]at l g;let#[_,_,C,_]:=I.list g;let#[_,_,pt,_]:=I.tuple l;exact absurd rfl .G3
  let#[p,q,c,l,y]:=m;let#[J,z,i,g,t]:=o;rw[c]at i;cases i;rw[hk]at l g;cases I.Zg l g;split at h
  .rename_i b F;simp[<-(w4 h),r y t F,y.length,t.length]
  cases h
def Wq(r:YA a xs vs)(q:Vals vs VB)(h:j<VB.toArray.size):∃d v,xs[j]?=u7 d/\VG a d v/\RelV v VB.toArray[j]:=by
 have b:j<VB.length:=by simpa using h
 have i:=q.length▸b;obtain⟨v,c⟩:∃v,vs[j]?=u7 v:=#[vs[j],zJ i];let#[d,l,f]:=r.get' c;let#[u,e,g]:=q.get c;have k:u=VB.toArray[j]:=by have:=zJ b;rw[this]at e;simpa using(w4 e).symm
 exact#[d,v,l,f,by rw[<-k];exact g]
theorem Uv(I:Inv X vT σ a.H s)(hk:a.K=X.K)(sm:XF a G):∀n{A:xC}{d e:D}{x y:V}{u w:xM}{k:Bool},A.units+n<cLine->VG a d x->VG a e y->RelV x u->RelV y w->eqD n G d e=u7 k->
  SeqAt.EqAt A s u w k/\SeqAt.RcAt A s u w k/\SeqAt.RcNeAt A s u w (!k)
 |0,_,_,_,_,_,_,_,_,_,_,_,_,_,h=>by cases h
 | n + 1,A,d,e,x,y,u,w,k,hu,rd,re,r,m,h=>by
  have L:=Xh sm rd;have M:=Xh sm re;have c:A.units<cLine:=.a
  have hu2:A.in1.units+n<cLine:=by show A.units+1+n<cLine;lia
  have F:∀{z:V},VG a d z->VG a e z->eqD (n+1) G d e=u7 k->k=u9:=λS C r3=>e0 I hk sm (n+1) S C r3
  have h0:=h;unfold eqD at h;have O:∀{p q:xB}{k:Bool},(p=q->k=u9)->SeqAt.RcAt A s .AL .Cf k->SeqAt.EqAt A s .AL .Cf k:=λ{p q k}hs hr=>by
   by_cases e:p=q
   .rw[hs e,e];exact .same _
   exact .of_refs e hr
  revert h L M
  cases hvd:view G d<;>cases hve:view G e<;>intro L M h<;>dsimp only at h L M<;>first
   |cases h
   |skip
  .
   let#[rfl,N]:=L;let#[rfl,f2]:=M;exact#[eN r m N f2,AS r m N f2,AU r m N f2]
  .
   let#[rfl,N]:=L;let#[q,Y,rfl,o,C]:=M;cases m;rw[hk]at o;let#[l,qv,g,_]:=I.list o;cases x with
   |WB=>cases r;exact#[.none_list g.isList c,.none_list g.isList c,.none_list g.isList c]
   |bl b=>cases r;exact#[.bool_list b g.isList c,.bool_list b g.isList c,.bool_list b g.isList c]
   |int b=>let#[t,rfl]:=r;exact#[.int_list b t g.isList c,.int_list b t g.isList c,.int_list b t g.isList c]
   |str b=>let#[t,rfl]:=r;exact#[.str_list b t g.isList c,.str_list b t g.isList c,.str_list b t g.isList c]
   |_=>exact absurd (N) zO
  .
   let#[rfl,N]:=L;let#[q,Y,rfl,o,C]:=M;cases m;rw[hk]at o;let#[l,qv,g,_]:=I.tuple o;cases x with
   |WB=>cases r;exact#[.none_tuple g c,.none_tuple g c,.none_tuple g c]
   |bl b=>cases r;exact#[.bool_tuple b g c,.bool_tuple b g c,.bool_tuple b g c]
   |int b=>let#[t,rfl]:=r;exact#[.int_tuple b t g c,.int_tuple b t g c,.int_tuple b t g c]
   |str b=>let#[t,rfl]:=r;exact#[.str_tuple b t g c,.str_tuple b t g c,.str_tuple b t g c]
   |_=>exact absurd (N) zO
  .
   let#[rfl,N]:=M;let#[q,Y,rfl,o,C]:=L;cases r;rw[hk]at o;let#[l,qv,g,_]:=I.list o;cases y with
   |WB=>cases m;exact#[.list_none g.isList c,.list_none g.isList c,.list_none g.isList c]
   |bl b=>cases m;exact#[.list_bool b g.isList c,.list_bool b g.isList c,.list_bool b g.isList c]
   |int b=>let#[t,rfl]:=m;exact#[.list_int b t g.isList c,.list_int b t g.isList c,.list_int b t g.isList c]
   |str b=>let#[t,rfl]:=m;exact#[.list_str b t g.isList c,.list_str b t g.isList c,.list_str b t g.isList c]
   |_=>exact absurd (N) zO
  .
   let#[p,Y,rfl,Q,S]:=L;let#[q,W,rfl,o,C]:=M;cases r;cases m;rw[hk]at Q o;let#[l,Z,B,_]:=I.list Q;let#[i,q2,v,_]:=I.list o;have P:=z0▸Z.length.symm;have U:=z0▸q2.length.symm;split at h
   .rename_i hl;let#[f,hf,hb]:=Vy h;have J:l.toArray.size=i.toArray.size:=by rw[P,U,<-S.length,<-C.length];exact hl
    have he:∀j g1(g2:j<i.toArray.size),SeqAt.EqAt A.in1 s l.toArray[j] i.toArray[j] (f j):=λj g1 g2=>by let#[d1,v1,e1,rd1,rv1]:=Wq S Z g1;let#[d2,v2,e2,rd2,rv2]:=Wq C q2 g2;exact(Uv I hk sm n hu2 rd1 rd2 rv1 rv2 .GG).1
    have T:k=(zV l.toArray.size).all f:=by
     rw[hb]
     congr 2
     rw[P,<-S.length,hl];lia
    have rc:SeqAt.RcAt A s .AL .Cf k:=T ▸ .lists B.isList v.isList J c he;refine#[O (λe=>?_) rc,rc,T ▸ .lists B.isList v.isList J c he];subst e;exact F rd re h0
   rename_i hl;have h':=w4 h;subst h';have J:(l.toArray.size != i.toArray.size)=u9:=by rw[bne_iff_ne,P,U,<-S.length,<-C.length];exact hl
   refine#[O (λe=>?_) (.lists_lengths B.isList v.isList J c),.lists_lengths B.isList v.isList J c,.lists_lengths B.isList v.isList J c];subst e;exact F rd re h0
  .
   let#[p,Y,rfl,Q,S]:=L;let#[q,W,rfl,o,C]:=M;cases r;cases m;rw[hk]at Q o;let#[l,Z,B,_]:=I.list Q;let#[i,q2,v,_]:=I.tuple o;exact#[.list_tuple B.isList v c,.list_tuple B.isList v c,.list_tuple B.isList v c]
  .
   let#[rfl,N]:=M;let#[q,Y,rfl,o,C]:=L;cases r;rw[hk]at o;let#[l,qv,g,_]:=I.tuple o;cases y with
   |WB=>cases m;exact#[.tuple_none g c,.tuple_none g c,.tuple_none g c]
   |bl b=>cases m;exact#[.tuple_bool b g c,.tuple_bool b g c,.tuple_bool b g c]
   |int b=>let#[t,rfl]:=m;exact#[.tuple_int b t g c,.tuple_int b t g c,.tuple_int b t g c]
   |str b=>let#[t,rfl]:=m;exact#[.tuple_str b t g c,.tuple_str b t g c,.tuple_str b t g c]
   |_=>exact absurd (N) zO
  .
   let#[p,Y,rfl,Q,S]:=L;let#[q,W,rfl,o,C]:=M;cases r;cases m;rw[hk]at Q o;let#[l,Z,B,_]:=I.tuple Q;let#[i,q2,v,_]:=I.list o;exact#[.tuple_list B v.isList c,.tuple_list B v.isList c,.tuple_list B v.isList c]
  rename_i xs ys;let#[p,Y,rfl,Q,S]:=L;let#[q,W,rfl,o,C]:=M;cases r;cases m;rw[hk]at Q o;let#[l,Z,B,_]:=I.tuple Q;let#[i,q2,v,_]:=I.tuple o;have P:l.toArray.size=xs.length:=by rw[z0,S.length];exact Z.length.symm
  have U:i.toArray.size=ys.length:=by rw[z0,C.length];exact q2.length.symm
  split at h
  .rename_i b hz;let#[f,hf,hb]:=Vy hz;have he:∀j g1(g2:j<i.toArray.size),SeqAt.EqAt A.in1 s l.toArray[j] i.toArray[j] (f j):=λj g1 g2=>by let#[d1,v1,e1,rd1,rv1]:=Wq S Z g1;let#[d2,v2,e2,rd2,rv2]:=Wq C q2 g2;exact(Uv I hk sm n hu2 rd1 rd2 rv1 rv2 .GG).1
   have T:k=((zV (min l.toArray.size i.toArray.size)).all f&&l.toArray.size==i.toArray.size):=by rw[<-(w4 h),hb,P,U]
   have rc:SeqAt.RcAt A s .AL .Cf k:=T ▸ .tuples B v c he;refine#[O (λe=>?_) rc,rc,T ▸ .tuples B v c he];subst e;exact F rd re h0
  cases h
def Kg(d e:D)(G:DH):R D:=match eqD 30 G d e with
 |some k=>.ok .Ge G
 |none=>.bad
def Ed(d e:D)(G:DH):R D:=match eqD 30 G d e with
 |some k=>.ok (.bl (!k)) G
 |none=>.bad
def Zp(n:X.A.units+64<cLine):ZF X (vX .Eq) (XO X.K E Kg):=by
 intro b s m H x y v u Q I g l #[a,G,d,e,hk,j,c,f,i,q];subst j;unfold Kg at q;split at q
 .rename_i k h;exact(Uv I hk c 30 .a f i g l h).2.1 _ _ _ _ #[.bl k,a.H,I,rfl,q a _ .AG c rfl]
 exact q.elim
def Xs(n:X.A.units+64<cLine):ZF X (vX .NotEq) (XO X.K E Ed):=by
 intro b s m H x y v u Q I g l #[a,G,d,e,hk,j,c,f,i,q];subst j;unfold Ed at q;split at q
 .rename_i k h;exact(Uv I hk c 30 .a f i g l h).2.2 _ _ _ _ #[.bl (!k),a.H,I,rfl,q a _ .AG c rfl]
 exact q.elim
end
abbrev DG:=D->ZK->DH->R ZK
def Fv(E:XK)(a:Wd)(r:R ZK)(Q:St->Hp->Prop):Prop:=match r with
 |.ok S G=>∀(b:Wd)(σ:St),Ext a b->XF b G->YH b S σ->Q σ b.H
 |.err x G=>s? E a x G
 |.bad=>False
def lG(K:za)(E:XK)(t:DG):TG:=λv σ H Q=>PG3 K σ H v VG λa S G d=>Fv E a (t d S G) Q
def QG(X:Cx)(E:XK)(tg:xD)(t:DG):Prop:=PG X tg (lG X.K E t)
abbrev DGs:=List D->ZK->DH->R ZK
def lGs(K:za)(E:XK)(t:DGs):TGs:=λvs σ H Q=>PG3 K σ H vs YA λa S G ds=>Fv E a (t ds S G) Q
def U2(X:Cx)(E:XK)(tg:List xD)(t:DGs):Prop:=PGs X tg (lGs X.K E t)
def gV(i:Nat):DG:=λd S G=>.ok (S.set i (u7 d)) G
def An:DGs:=λds S G=>match ds with
 |[]=>.ok S G
 |_=>.bad
def Ab(t:DG)(u:DGs):DGs:=λds S G=>match ds with
 |d::r=>(t d S G).bind λS1 G1=>u r S1 G1
 |[]=>.bad
def Am(n:Nat)(t:DGs):DG:=λd S G=>match d with
 |.tup ds=>if ds.length=n then t ds S G else .bad
 |_=>.bad
theorem Fv.imp(h:Fv E a r Q)(w:∀v H,Q v H->Q' v H):Fv E a r Q':=by
 cases r with
 |ok d G=>exact λb v x s q=>w _ _ .EN
 |_=>exact h
def Fv.mono(x:Ext a b)(h:Fv E a r Q):Fv E b r Q:=by
 rcases r with⟨d,G⟩|⟨e,G⟩|_
 .exact λc v y s q=>h c v .Cs s q
 .exact s?.mono x h
 exact h
theorem AW(h:Fv E a .BI Q):
  Fv E a r (λc H=>PR3 a H r c YH λb S G=>Fv E b (f S G) Q):=by
 cases r with
 |ok d G=>exact λb v x s q=>#[b,d,G,rfl,x,s,q,rfl,Fv.mono x h]
 |_=>exact h
theorem e7(h:Fv E a .BI Q):
  out E a r (λv H=>PR3 a H r v VG λb d G=>Fv E b (f d G) Q):=by
 cases r with
 |ok d G=>exact λb v x s q=>#[b,d,G,rfl,x,s,q,rfl,Fv.mono x h]
 |_=>exact h
theorem e8(h:Ck E a .GE W):
  Fv E a r (λc H=>PR3 a H r c YH λb S G=>Ck E b (f S G) W):=by
 cases r with
 |ok d G=>exact λb v x s q=>#[b,d,G,rfl,x,s,q,rfl,Ck.mono x h]
 |_=>exact h
section
variable{X:Cx}{E:XK}
def _root_._L.PG.mono(h:PG X e t)(w:∀v a H Q,t' v a H Q->t v a H Q):PG X e t':=λb s a H v u Q I r q=>h b s a H v u Q I r .Ie
def _root_._L.PGs.mono(h:PGs X e t)(w:∀v a H Q,t' v a H Q->t v a H Q):PGs X e t':=λb s a H v u Q I r q=>h b s a H v u Q I r .Ie
def Ig(i){x:Str}{pos:Pos}(b:X.N.Nodup)(c:X.N[i]?=u7 x:=by rfl)(g:Loc X.env.scope x:=by rfl')
  (f:X.fn x=u9\/X.env.scope.names.lookup x=u7 .local:=by rfl'):QG X E .As (gV i):=
 (tK b c g f).mono λv j H Q h=>by let#[a,S,G,d,hk,rfl,s,r,q,h]:=h;exact h a _ .AG s (r.set i q)
def AX:U2 X E [] An:=tM.mono λf c H Q h=>by
 let#[a,S,G,b,hk,rfl,s,r,q,h]:=h;rcases b with _|⟨d,b⟩
 .exact#[q,h a c .AG s r]
 exact h.elim
def AY(c:QG X E e t)(n:U2 X E es u)
  (l:(xO (e::es) X.env).map (·.2)=assign e X.env::(xO es X.env).map (·.2):=by rfl):U2 X E (e::es) (Ab t u):=(tN c n l).mono λA z H Q h=>by
 let#[a,S,G,f,hk,rfl,s,r,q,h]:=h;rcases f with _|⟨d,f⟩
 .exact h.elim
 let#[v,rest,j,i,p]:=q;refine#[v,rest,j,a,S,G,d,hk,rfl,s,r,i,(AW h).imp ?_];rintro m _ ⟨b,w,g,rfl,x,y,o,_,c⟩;exact#[b,w,g,f,x.k.trans hk,rfl,y,o,p.mono x,c]
theorem AZ{es:List xD}{k:Nat}{t:DGs}{n:Nat}{pos:Pos}(m:X.calm=u9)(h:U2 X E es t)
  (g:(xO es X.env).length=n:=by rfl) (b:(xO es X.env).findIdx? (·.1)=u8:=by rfl):QG X E .DH (Am n t):=(tO m h g b).mono λv o H Q h=>by
 let#[a,S,G,d,hk,rfl,s,r,q,h]:=h;cases d with
 |tup l=>
  let#[p,j,e,i,c]:=q;unfold Am at h;dsimp only at h;split at h
  .rename_i f;exact#[p,j,e,by rw[<-hk];exact i,by rw[<-c.length];exact f,a,S,G,l,hk,rfl,s,r,c,h]
  exact h.elim
 |_=>exact h.elim
def Ni(o i v:D)(G:DH):R D:=match o,i with
 | .ref p,.int k=>match G[p]? with
  |some .AI=>match ixN xs.length k with
   |some j=>.ok .WB (G.set p (.lst (xs.set j v)))
   |none=>.bad
  |_=>.bad
 |_,_=>.bad
def Y1(to ti:DE):DG:=λv S G=>(to S G).bind λo G1=>(ti S G1).bind λi G2=>(Ni o i v G2).bind λ_ G3=>.ok S G3
def Xj(s:XF a G)(b:i<a.n)(h:a.H .Ay=u7 .A5)(r:YA a ds' vs'):
  Ext a .Jp/\XF .Jp (G.set i (.lst ds')):=#[.wr h,s.wr b h (r.mono (.wr h))]
theorem A0(ho:QE X E o to)(N:QE X E i ti)
  (O:∀v,assign .Ce X.env v=(do
   let ov<-holding [v] .B0;let iv<-holding [v,ov] .Hp
   standAt pos
   holding [v,ov,iv] .Gi
   release [v,ov,iv] []):=by rfl'):QG X E .Ce (Y1 to ti):=(tP ho N set_list O).mono λv L H Q h=>by
 let#[a,S,G,d,hk,rfl,s,r,q,h]:=h;refine#[a,S,G,hk,rfl,s,r,(e7 h).imp ?_];rintro ov _ ⟨b,e,B,rfl,x,J,C,_,I⟩;refine#[b,S,B,x.k.trans hk,rfl,J,r.mono x,(e7 I).imp ?_];rintro iv _ ⟨c,f,U,rfl,y,w,F,_,g⟩;cases e with
 | ref p=>
  cases f with
  | int k=>
   unfold Ni at g;dsimp only at g;split at g
   .rename_i W T;split at g
    .rename_i j M;let#[K,n,A]:=w.lst T;have l:=C.mono y;let#[z,P]:=Xj w l.1 n (A.set ((q.mono x).mono y) j);exact#[c.m p,K,k,j,l.2,F,n,by rw[<-A.length];exact M,g _ L z P (((r.mono x).mono y).mono z)]
    exact g.elim
   exact g.elim
  |_=>exact g.elim
 |_=>exact g.elim
variable{st:xL}{rest:List xL}{t u:DS}{e:xD}{te:DE}{pos:Pos}
def VN:DS:=λS G=>.nx S G
def Ac(t u:DS):DS:=λS G=>match t S G with
 |.nx S1 G1=>u S1 G1
 |r=>r
def ZN(te:DE):DS:=λS G=>(te S G).toS λ_ G1=>.nx S G1
def XC(te:DE):DS:=λS G=>(te S G).toS λd G1=>.rt d G1
def WL(c:DB)(t u:DS):DS:=λS G=>(c S G).toS λk G1=>if k=u9 then t S G1 else u S G1
def VJ(te:DE)(g:DG):DS:=λS G=>(te S G).toS λd G1=>(g d S G1).toS λS2 G2=>.nx S2 G2
def X2(i:Nat)(te:DE)(f:D->D->DH->R D):DS:=λS G=>match S[i]? with
 |some .FI=>(te S G).toS λy G1=>(f x y G1).toS λz G2=>.nx (S.set i (u7 z)) G2
 |_=>.bad
def Cr:YZ X E [] VN:=tD.mono λW b H h=>by let#[a,S,G,hk,rfl,s,r,h]:=h;exact h a b .AG s r
def Ck.nxOf{E:XK}{a:Wd}{t u:DS}{S:ZK}{G:DH}{K:za}(hk:a.K=K){W:Ends}(h:Ck E a (Ac t u S G) W):Ck E a .Dy {W with nx:=lS K E u W}:=by
 unfold Ac at h
 revert h
 cases t S G<;>intro h
 .exact λb c x s r=>#[b,_,_,x.k.trans hk,rfl,s,r,Ck.mono x h]
 all_goals exact h
def Ak(c:QS X E st t)(b:YZ X E rest u):YZ X E (st::rest) (Ac t u):=(tE c b).mono λW d H h=>by let#[a,S,G,hk,rfl,s,r,h]:=h;exact#[a,S,G,hk,rfl,s,r,h.nxOf hk]
def Bh(a:QS X E st t):YZ X E [st] t:=tF a
def A1(j:QE X E e te)(g:swapsWith e u8 pos.line X.env=pure uA:=by rfl):QS X E .Ia (ZN te):=(tH j g).mono λW c H h=>by let#[a,S,G,hk,rfl,s,r,h]:=h;refine#[a,S,G,hk,rfl,s,r,(Gm h).imp ?_];rintro v _ ⟨b,d,k,rfl,x,i,q,_,f⟩;exact f b c .BG i .HU
def Gf(g:QE X E e te):QS X E .KR (XC te):=(tI g).mono λW j H h=>by let#[a,S,G,hk,rfl,s,r,h]:=h;refine#[a,S,G,hk,rfl,s,r,(Gm h).imp ?_];rintro v _ ⟨b,d,i,rfl,x,f,q,_,c⟩;exact c b v .BG f q
theorem Cm(l:QT X E c tc)(j:YZ X E a t)(i:YZ X E b u):QS X E .HP (WL tc t u):=(tJ l j i).mono λW m H h=>by
 let#[a,S,G,hk,rfl,s,r,h]:=h;refine#[a,S,G,hk,rfl,s,r,(eS h).imp ?_];rintro k _ ⟨b,d,rfl,x,g,_,f⟩;cases k with
 |_=>exact#[b,S,d,x.k.trans hk,rfl,g,r.mono x,f]
def A5{K:za}{g:DG}{W:Ends}{i:St}{H:Hp}(h:lS K E (VJ te g) W i H):aK (lE K E te) (lG K E g) W i H:=by let#[a,S,G,hk,rfl,s,r,h]:=h;refine#[a,S,G,hk,rfl,s,r,(Gm h).imp ?_];rintro v _ ⟨b,d,j,rfl,x,p,q,_,l⟩;refine#[b,S,j,d,x.k.trans hk,rfl,p,r.mono x,q,(e8 l).imp ?_];rintro f _ ⟨c,z,w,rfl,y,n,o,_,m⟩;exact m c f .EE n o
def Qi(a:QE X E e te)(d:QG X E tg g)(b:swapsWithSole [tg] e pos.line X.env=pure uA:=by rfl)(hw:swappedStores [tg] e X.env=pure u8:=by rfl)
  (c:(xO [tg] X.env).map (·.2)=[assign tg X.env]:=by rfl):QS X E (.Assign [tg] e pos) (VJ te g):=(tQ a d b hw c).mono λ_ _ _ h=>A5 h
def Jf(i){x:Str}{c:Pos}(g:X.N.Nodup)(n:QE X E e te)(k:X.N[i]?=u7 x:=by rfl)(o:Loc X.env.scope x:=by rfl')(j:swapsWith e (u7 (.Name x c)) pos.line X.env=pure uA:=by rfl)
  (m:X.fn x=u9\/X.env.scope.names.lookup x=u7 .local:=by rfl'):QS X E (.Assign [.Name x c] e pos) (VJ te .GH):=
 (tR g k o n j m).mono λW w H h=>by let#[a,S,G,hk,rfl,s,r,h]:=h;refine#[a,S,G,hk,rfl,s,r,(Gm h).imp ?_];rintro v _ ⟨b,d,p,rfl,x,l,q,_,f⟩;exact f b _ .BG l ((r.mono x).set i q)
def A6(i){x:Str}{op:Operator}{f:D->D->DH->R D}{g:Pos}(J:X.N.Nodup)(I:QE X E e te)(ho:ZF X .FM .B4)(M:X.N[i]?=u7 x:=by rfl)(O:Loc X.env.scope x:=by rfl')
  (o:X.fn x=u9\/X.env.scope.names.lookup x=u7 .local:=by rfl'):QS X E (.AugAssign (.Name x g) op e pos) (X2 i te f):=
 (tS J M O I ho o).mono λW Q H h=>by
  let#[a,S,G,hk,rfl,s,r,h]:=h;unfold X2 at h;split at h
  .rename_i d L;let#[v,A,q]:=r.get i d L;refine#[v,A,a,S,G,hk,rfl,s,r,(Gm h).imp ?_];rintro w _ ⟨b,C,j,rfl,x,F,l,_,p⟩;refine#[b,j,d,C,x.k.trans hk,rfl,F,q.mono x,l,(Gm p).imp ?_];rintro z _ ⟨c,T,P,rfl,y,B,n,_,m⟩;exact m c _ .EE B (((r.mono x).mono y).set i n)
  exact h.elim
def K5:D->D->DH->R D
 |.int i,.int j,G=>.ok (.int (i+j)) G
 |.str i,.str j,G=>if i.length+j.length<=1000000 then .ok (.str (i++j)) G else .bad
 |_,_,_=>.bad
def e9:ZF X .G1 (XO X.K E K5):=Gn (.or tT ue) λa G d e x y Q hk s rd re q=>by
 cases d<;>cases e<;>first
  |exact q.elim
  |exact .inl #[_,_,rd,re,q a _ .AG s rfl]
  | (
    unfold K5 at q;dsimp only at q;split at q
    .rename_i hl;exact .inr #[_,_,rd,re,zx hl WH,q a _ .AG s rfl]
    exact q.elim)
def A7:ZF X (inplaceOp .Sub) (XO X.K E Oz):=Gn tU λa G d e x y Q hk s b c q=>by
 cases d<;>cases e<;>first
  |exact q.elim
  |exact#[_,_,b,c,q a _ .AG s rfl]
end
def aft(r:SR)(k:ZK->DH->SR)(_:Fx k:=()):SR:=match r with
 |.nx S G=>k S G
 |.ct S G=>k S G
 |.bk S G=>.nx S G
 |r=>r
def Ar(g:DG)(b:DS):List D->DS
 |[],S,G=>.nx S G
 |x::xs,S,G=>(g x S G).toS λS1 G1=>aft .IO (Ar g b xs)
def forM(i:Nat)(g:DG)(b:DS):Nat->Nat->DS
 |0,j,S,G=>match G[i]? with
  |some .AI=>if xs.length<=j then .nx S G else .bad
  |_=>.bad
 | k+1,j,S,G=>match G[i]? with
  |some .AI=>match xs[j]? with
   |some x=>(g x S G).toS λS1 G1=>aft .IO (forM i g b k (j+1))
   |none=>.nx S G
  |_=>.bad
def Dr(f:Nat->DH->Option .CE)(g:DG)(b:DS):Nat->Nat->DS
 |0,j,S,G=>match f j G with
  |some u8=>.nx S G
  |_=>.bad
 |k+1,j,S,G=>match f j G with
  |some .FI=>(g x S G).toS λS1 G1=>aft .IO (Dr f g b k (j+1))
  |some u8=>.nx S G
  |none=>.bad
inductive ItD where
 |pure (xs:List D)
 |mt (i:Nat)
 |fn (n:Nat) (f:Nat->DH->Option .CE)
abbrev DI:=ZK->DH->R ItD
def Bw(it:DI)(g:DG)(b:DS):DS:=λS G=>(it S G).toS λJ G1=>match J with
 |.pure xs=>Ar g b xs S G1
 |.mt i=>match G1[i]? with
  |some .AI=>forM i g b xs.length 0 S G1
  |_=>.bad
 |.fn n f=>Dr f g b n 0 S G1
def WS(a:Wd):ItD->It->Prop
 |.pure xs,J=>∃vs:List V,YA a xs vs/\∀b:Wd,Ext a b->∀i,(∀v,vs[i]?=u7 v->J.go i b.H/\∀x H',J.yld i b.H x H'->x=v/\H'=b.H)/\(vs.length<=i->J.stop i b.H)
 |.mt k,J=>k<a.n/\∀b:Wd,Ext a b->∀vs,b.H (b.m k)=u7 .A5->∀i,(∀v,vs[i]?=u7 v->J.go i b.H/\∀x H',J.yld i b.H x H'->x=v/\H'=b.H)/\(vs.length<=i->J.stop i b.H)
 |.fn _ f,J=>∀b:Wd,Ext a b->∀G,XF b G->∀i,(∀d,f i G=u7 (u7 d)->J.go i b.H/\∀x H',J.yld i b.H x H'->∃c:Wd,c.H=H'/\Ext b c/\XF c G/\VG c d x)/\(f i G=u7 u8->J.stop i b.H)
def outI(E:XK)(a:Wd)(r:R ItD)(Q:It->Hp->Prop):Prop:=match r with
 |.ok J G=>∀(b:Wd)(JJ:It),Ext a b->XF b G->WS b J JJ->Q JJ b.H
 |.err x G=>s? E a x G
 |.bad=>False
def lI(K:za)(E:XK)(t:DI):TI:=λσ H Q=>PS3 K σ H λa S G=>outI E a .Dy Q
def QI(X:Cx)(E:XK)(tg iter:xD)(t:DI):Prop:=PI X tg iter (lI X.K E t)
theorem outI.imp(h:outI E a r Q)(w:∀v H,Q v H->Q' v H):outI E a r Q':=by
 cases r with
 |ok d G=>exact λb v x s q=>w _ _ .EN
 |_=>exact h
theorem A8(h:Ck E a .GE W):
  outI E a r (λJ H=>PR3 a H r J WS λb d G=>Ck E b (f d G) W):=by
 cases r with
 |ok d G=>exact λb v x s q=>#[b,d,G,rfl,x,s,q,rfl,Ck.mono x h]
 |_=>exact h
theorem ef (h:Ck E a (aft r k) W):
  Ck E a r {W with
            nx:=λc H=>∃b S G,b.H=H/\Ext a b/\XF b G/\YH b S c/\Ck E b (k S G) W,
            ct:=λc H=>∃b S G,b.H=H/\Ext a b/\XF b G/\YH b S c/\Ck E b (k S G) W,bk:=W.nx}:=by
 cases r with
 |nx S G|ct S G=>exact λb c x s q=>#[b,S,G,rfl,x,s,q,Ck.mono x h]
 |_=>exact h
def mtF(i j:Nat)(G:DH):Option (Option D):=match G[i]? with
 |some .AI=>u7 xs[j]?
 |_=>u8
def eh(r:WS a .HV J):WS a (.fn n λj _=>u7 xs[j]?) J:=by
 let#[p,c,h]:=r;refine λb x G o i=>#[λd e=>?_,λe=>((h b x i).2 (by rw[<-c.length];exact j9.mp .HO))]
 .let#[v,l,q]:=c.get .HO;let#[g,k]:=(h b x i).1 v l;refine#[g,λy f m=>?_];let#[rfl,rfl]:=k y f m;exact#[b,rfl,.refl b,o,q.mono x]
theorem eo(r:WS a (.mt k) J):WS a (.fn n (mtF k)) J:=by
 let#[hk,h]:=r;refine λb x G j i=>?_
 unfold mtF;rcases t:G[k]? with _|o
 .exact#[λd e=>(by cases e),λe=>(by cases e)]
 cases o with
 |lst w=>
  let#[f,c,g]:=j.lst t;refine#[λd e=>?_,λe=>((h b x f c i).2 (by rw[<-g.length];exact j9.mp .HO))]
  .let#[v,s,q]:=g.get .HO;let#[m,p]:=(h b x f c i).1 v s;refine#[m,λy l u=>?_];let#[rfl,rfl]:=p y l u;exact#[b,rfl,.refl b,j,q]
 |_=>exact#[λd e=>(by cases e),λe=>(by cases e)]
theorem er{g:DG}{b:DS}{xs:List D}:∀n j,j+n=xs.length->Ar g b .E7=Dr (λj _=>u7 xs[j]?) g b n j
 |0,j,h=>by
  funext S G;rw[qY .a]
  show SR.nx S G=(match u7 xs[j]? with |some u8=>.nx S G|_=>.bad)
  rw[zy .a]
 |n+1,j,h=>by
  funext S G;have d:j<xs.length:=.a
  rw[zH d]
  show(g xs[j] S G).toS (λa c=>aft (b a c) (Ar g b (xs.drop (j+1))))=(match u7 xs[j]? with |some .FI=>(g x S G).toS (λa c=>aft (b a c) (Dr (λj _=>u7 xs[j]?) g b n (j+1)))|some u8=>.nx S G|none=>.bad)
  rw[zJ d,er n (j+1) .a]
theorem et:∀n j,forM i g b n j=Dr (mtF i) g b n j
 | 0,j=>by
  funext S G;unfold forM Dr mtF;rcases G[i]? with _|o
  .rfl
  cases o with
  |lst a=>
   dsimp only;by_cases c:j<a.length
   .rw[if_neg .a,zJ c]
   rw[if_pos .a,zy .a]
  |_=>rfl
 | n+1,j=>by
  funext S G;unfold forM Dr;rw[et n (j+1)];unfold mtF;rcases G[i]? with _|o
  .rfl
  cases o with
  |lst a=>
   dsimp only
   cases a[j]?<;>rfl
  |_=>rfl
section
variable{X:Cx}{E:XK}{tg iter:xD}{pos:Pos}
def A9{K:za}{it:DI}{g:DG}{b:DS}{W:Ends}{N:St}{H:Hp}(h:lS K E (Bw it g b) W N H):tFor (lI K E it) (lG K E g) (lS K E b) W N H:=by
 let#[a,S,G,hk,rfl,s,r,h]:=h;refine#[a,S,G,hk,rfl,s,r,(A8 h).imp ?_];rintro J _ ⟨t,d,O,rfl,x1,s1,u,_,l⟩;have k1:=x1.k.trans hk
 suffices fnc:∃n f,WS t (.fn n f) J/\Ck E t (Dr f g b n 0 S O) W by
  let#[n,f,u,l]:=fnc;have walk:=u;refine#[λi m N H=>∃c S G,c.H=H/\Ext t c/\XF c G/\YH c S N/\Ck E c (Dr f g b m i S G) W,#[_,t,S,O,rfl,.refl _,s1,r.mono x1,l],?_];rintro i m C _ ⟨c,S2,F,rfl,p,x,Q,j⟩;rcases m with _|m
  .unfold Dr at j;split at j
   .rename_i v;exact .inl #[(walk c p F x i).2 v,j c C .EE x Q]
   exact j.elim
  unfold Dr at j;split at j
  .rename_i d v;let#[go,yl]:=(walk c p F x i).1 d v;refine .inr #[go,λB M=>∃c S G,c.H=M/\Ext t c/\XF c G/\YH c S B/\Ck E c (Dr f g b m (i+1) S G) W,λB M z=>#[m,qA _,z],λw M y=>?_];let#[cc,rfl,q,ss,rd]:=yl w M y;refine#[cc,S2,F,d,q.k.trans .Hz,rfl,ss,Q.mono q,rd,(e8 (Ck.mono q j)).imp ?_];rintro σ3 _ ⟨c3,S3,G3,rfl,x3,s3,r3,_,h3⟩;have e:=ef h3;refine#[c3,S3,G3,x3.k.trans (q.k.trans .Hz),rfl,s3,r3,?_]
   revert e
   cases b S3 G3 with
   | nx L I|ct L I=>
     intro e U o x4 P Y;let#[Z,S5,G5,hh,x5,s5,r5,T]:=e U o x4 P Y;exact#[Z,S5,G5,hh,p.trans (q.trans (x3.trans x5)),s5,r5,T]
   |_=>exact λe=>e
  .rename_i v;exact .inl #[(walk c p F x i).2 v,j c C .EE x Q]
  exact j.elim
 rcases d with xs|k|⟨n,f⟩
 .have A:Ck E t (Ar g b (xs.drop 0) S O) W:=l;rw[er xs.length 0 .a]at A;exact#[_,_,eh u,A]
 .dsimp only at l;split at l
  .rw[et]at l;exact#[_,_,eo u,l]
  exact l.elim
 exact#[n,f,u,l]
def My(hp:PassesOwn .AB X.A X.env X.xe)(f:X.calm=u9)(d:QI X E tg iter it)(a:QG X E tg g)(e:YZ X E body b)
  (c:∀x,foldedSetIterable iter X.env x=pure x:=by rfl'):QS X E (.For tg iter body [] pos) (Bw it g b):=(uB hp f d a e c).mono λ_ _ _ h=>A9 h
def _root_._L.PI.mono(h:PI X tg iter t)(w:∀a H Q,t' a H Q->t a H Q):PI X tg iter t':=λb s a H Q I q=>h b s a H Q I (w a H Q q)
def sgn(c:Nat):D:=.str #[[c].toArray]
def signs(x:Str):List D:=x.cps.toList.map sgn
def Its(x:Str):It:=#[λi _=>i<x.cps.size,λi H v H'=>H'=H/\∃c,x.cps[i]?=u7 c/\v=.str #[[c].toArray],λi _=>x.cps.size<=i]
def Ap{P:xG}{w:xN}{K:za}{tg:xD}(it)(x)(t):Turn P w K tg (Its x) [it] it (λi h=>h.IsStrIter it "str_ascii_iterator" x t i) where
 mem:=.d
 obj:=λi h a b f=>by
  have e:b=it:=by simpa using f
  subst e;let#[o,e,c,d]:=a;exact#[o,e,λv z=>by rw[d]at z;cases z]
 keep:=λi h J a k=>let#[o,N,r]:=a;#[o,k it .d o N,r]
 item:=by
  intro X n hw y F i j s O H E I l a u;subst n hw y;let#[B,p,L,A,q,C]:=l it .d;have m:i<x.cps.size:=u;refine wpAny_pyNext_ascii_item a (c:=x.cps[i]) .d λJ g Q=>?_
  let#[o,e,c,d]:=id g;exact#[_,rfl,Qm e c d .c #[.str #[[x.cps[i]].toArray],H,I.turned (λb o f e=>(Q.2 b f).trans e) B p A q C,#[_,rfl],#[rfl,_,.d,rfl],g,λb f=>(l b f).1]]
 done:=by intro X n hw y F i j s O H E I l a u;subst n hw y;let#[B,p,L,A,q,C]:=l it .d;have m:x.cps.size<=i:=u;exact wpAny_pyNext_ascii_end .Gq a (by simp[m]) λJ M=>#[rfl,I.turned (λb o f e=>M b o f e) B p A q C]
 self:=λ_ _ _ _ _ a h=>wpAny_pyIter_striter_ascii a h
def As{P:xG}{w:xN}{K:za}{tg:xD}(it)(x)(t):Turn P w K tg (Its x) [it] it (λi h=>h.IsStrIter it "str_iterator" x t i) where
 mem:=.d
 obj:=λi h a b f=>by
  have e:b=it:=by simpa using f
  subst e;let#[o,e,c,d]:=a;exact#[o,e,λv z=>by rw[d]at z;cases z]
 keep:=λi h J a k=>let#[o,N,r]:=a;#[o,k it .d o N,r]
 item:=by
  intro X n hw y F i j s O H E I l a u;subst n hw y;let#[B,p,L,A,q,C]:=l it .d;have m:i<x.cps.size:=u;refine wpAny_pyNext_wide_item a (c:=x.cps[i]) .d λJ g Q=>?_
  let#[o,e,c,d]:=id g;exact#[_,rfl,Qm e c d .c #[.str #[[x.cps[i]].toArray],H,I.turned (λb o f e=>(Q.2 b f).trans e) B p A q C,#[_,rfl],#[rfl,_,.d,rfl],g,λb f=>(l b f).1]]
 done:=by intro X n hw y F i j s O H E I l a u;subst n hw y;let#[B,p,L,A,q,C]:=l it .d;have m:x.cps.size<=i:=u;exact wpAny_pyNext_wide_end .Gq a (by simp[m]) λJ M=>#[rfl,I.turned (λb o f e=>M b o f e) B p A q C]
 self:=λ_ _ _ _ _ a h=>wpAny_pyIter_striter_wide a h
def iStr(tl:TE):TI:=λσ H R=>tl σ H λx H1=>∃z,x=.str z/\R (Its z) H1
def Au{l:xD}{g:TE}(m:PE X l g):PI X tg l (iStr g):=by
 intro a s n H R I h;refine ZD (m a s n H _ I h) λv c zz=>?_
 let#[x,f,d,r,k]:=zz;let#[z,e,q]:=k;subst e;let#[t,rfl]:=r;have j:∀b∈[c.heap.objs.size],ZQ X a f b:=λb p=>by
  have e:b=c.heap.objs.size:=by simpa using p
  subst e;exact d.K3 .AK (d.VF.fresh .AK)
 cases i:z.cps.all (· < 128)
 .exact wpAny_pyIter_wide i (#[c.heap.objs.size,[c.heap.objs.size],_,_,f,rfl,d.kept λb o e=>zQ _ e,As _ z t,#[_,zD _ rfl,rfl,rfl],j,q])
 .exact wpAny_pyIter_ascii i (#[c.heap.objs.size,[c.heap.objs.size],_,_,f,rfl,d.kept λb o e=>zQ _ e,Ap _ z t,#[_,zD _ rfl,rfl,rfl],j,q])
theorem YA.signs(x):YA a .IP (x.cps.toList.map λc=>V.str #[[c].toArray]):=by
 unfold _D.signs
 induction x.cps.toList with
 |nil=>exact rfl
 |cons c r b=>exact#[_,_,rfl,rfl,b]
def Em:D->DH->R ItD
 |.tup xs,G=>.ok .HV G
 |.str x,G=>.ok (.pure .IP) G
 |.fl xs,G=>.ok .HV G
 |.ref i,G=>match G[i]? with
  |some .Fa=>.ok (.mt i) G
  |_=>.bad
 |_,_=>.bad
def Bl(te:DE):DI:=λS G=>(te S G).bind Em
theorem O6(C:QE X E iter te):QI X E tg iter (Bl te):=by
 intro f s M H R I h;let#[a,S,G,hk,rfl,N,r,h]:=h;cases u:te S G with
 |bad=>
  have j:outI E a ((te S G).bind Em) R:=h;rw[u]at j;exact j.elim
 |err e W=>
  have j:outI E a ((te S G).bind Em) R:=h;rw[u]at j;refine aL C f s M a.H R I #[a,S,G,hk,rfl,N,r,?_];rw[u];exact j
 | ok d W=>
  have j:outI E a ((te S G).bind Em) R:=h;rw[u]at j;cases d with
  |tup Z=>
   refine tj C f s M a.H R I #[a,S,G,hk,rfl,N,r,?_];rw[u];rintro b v x t ⟨p,g,rfl,n,J⟩;have A:YO X.K b.H p g:=by rw[<-hk,<-x.k];exact n
   refine#[p,rfl,#[g,A],j b _ x t #[g,J,λc y i=>#[λv l=>#[#[g,v,?_,l],λw P z=>?_],λo=>#[g,?_,o]]]]
   .have:=y.sqT n;rw[y.k,x.k,hk]at this;exact this
   .have:=y.sqT n;rw[y.k,x.k,hk]at this;exact#[w4 ((z.2 g this).symm.trans l),z.1]
   have:=y.sqT n;rw[y.k,x.k,hk]at this;exact this
  |fl Z=>
   refine aL C f s M a.H R I #[a,S,G,hk,rfl,N,r,?_];rw[u];rintro b v x t ⟨p,g,rfl,n,J⟩;have A:WQ X.K b.H p g:=by rw[<-hk,<-x.k];exact n.sq
   refine#[p,rfl,#[g,A],j b _ x t #[g,J,λc y i=>#[λv l=>#[#[g,v,?_,l],λw P z=>?_],λo=>#[g,?_,o]]]]
   .have:=(y.fzL n).sq;rw[y.k,x.k,hk]at this;exact this
   .have:=(y.fzL n).sq;rw[y.k,x.k,hk]at this;exact#[w4 ((z.2 g this).symm.trans l),z.1]
   have:=(y.fzL n).sq;rw[y.k,x.k,hk]at this;exact this
  |ref k=>
   have B:outI E a (Em (.ref k) W) R:=j;unfold Em at B;dsimp only at B;split at B
   .rename_i Z U;refine aL C f s M a.H R I #[a,S,G,hk,rfl,N,r,?_];rw[u];rintro b v x t ⟨F,rfl⟩;let#[g,U,_]:=t.lst U;refine#[b.m k,rfl,#[g,.of U],B b _ x t #[F,λc y T O i=>?_]];rw[y.m k F]at O;exact#[λv l=>#[#[T,v,.of O,l],λw P z=>#[w4 ((z.2 T (.of O)).symm.trans l),z.1]],λo=>#[T,.of O,o]]
   exact B.elim
  | str z=>
   refine Au C f s M a.H R I #[a,S,G,hk,rfl,N,r,?_];rw[u];intro b v x t J;cases(J);refine#[z,rfl,j b _ x t #[_,.signs z,λc y i=>#[λv l=>?_,λo=>?_]]]
   .rw[zG,qK]at l;let#[k,Q,rfl]:=l;have L:z.cps[i]?=u7 k:=by rw[<-qT];exact Q
    refine#[(Array.getElem?_eq_some_iff.mp L).1,λw P q=>?_];let#[e1,k',Y,e3]:=q;rw[L]at Y;cases Y;exact#[e3,e1]
   rw[zq,jk]at o;exact o
  |_=>exact j.elim
end
def Bq(lo:Int)(n:Nat):List D:=(zV n).map λ(k:Nat)=>D.int (lo+(k:Int))
def inR(j:Int):Prop:= -(2^62)<=j/\j<2^62
noncomputable instance (j:Int):Decidable (inR j):=by unfold inR;infer_instance
def XM(ds:List D)(G:DH):R ItD:=match ds with
 |[.int j]=>if inR j then .ok (.pure .Dz) G else .bad
 |_=>.bad
def rng2(ds:List D)(G:DH):R ItD:=match ds with
 |[.int i,.int j]=>if inR i/\inR j then .ok (.pure (Bq i (j-i).toNat)) G else .bad
 |_=>.bad
def Br(f:List D->DH->R ItD)(ta:DA):DI:=λS G=>(ta S G).bind f
def ZZ(c:DB)(b:DS):Nat->DS
 |0,_,_=>.bad
 |n+1,S,G=>(c S G).toS λk G1=>if k=u9 then aft (b S G1) (ZZ c b n)else .nx S G1
def Ah(np nl:Nat)(b:DS):List D->DH->R D:=λds G=>if ds.length=np then tidy G (match b (ds.map u7++zK nl u8) G with
 |.nx _ G'=>.ok .WB G'
 |.rt d G'=>.ok d G'
 |.err x G'=>.err x G'
 |_=>.bad)else .bad
def outI.mono(x:Ext a b)(h:outI E a r Q):outI E b r Q:=by
 rcases r with⟨d,G⟩|⟨e,G⟩|_
 .exact λc v y s q=>h c v .Cs s q
 .exact s?.mono x h
 exact h
theorem T6(h:outI E a .BI Q):
  Gr E a r (λvs H=>PR3 a H r vs YA λb c G=>outI E b (f c G) Q):=by
 cases r with
 |ok d G=>exact λb v x s q=>#[b,d,G,rfl,x,s,q,rfl,outI.mono x h]
 |_=>exact h
section
variable{X:Cx}{E:XK}{tg iter:xD}{pos:Pos}
def BA(e)(n):WS a (.pure (Bq e n)) (Itr e n):=by
 refine#[(zV n).map λ(k:Nat)=>V.int (e+(k:Int)),?_,λb x i=>#[λv c=>?_,λf=>?_]]
 .unfold Bq;generalize zV n=l
  induction l with
  |nil=>exact rfl
  |cons k l g=>exact#[_,_,rfl,rfl,g]
 .rw[zG]at c;by_cases d:i<n
  .rw[qq d]at c;exact#[d,λw h y=>#[y.2.trans (by simpa using c),y.1]]
  rw[zy (by simpa using d)]at c;cases c
 show n<=i;simpa using f
def BB{p pos:Pos}(i:Gl X "range")(m:X.mg "range"=u8)(l:QA X E [e] ta)(k:vv [e] X.env=[(uA,eval e X.env)]:=by rfl):QI X E tg (.Call (.Name "range" p) [e] [] pos) (Br XM ta):=
 (tw i m l k).mono λu H Q h=>by
  let#[a,S,G,hk,rfl,s,r,h]:=h;refine#[a,S,G,hk,rfl,s,r,(T6 h).imp ?_];rintro w _ ⟨b,y,t,rfl,x,o,q,-,c⟩;unfold XM at c;split at c
  .rename_i j;split at c
   .rename_i d;let#[v,r,g,f,n]:=q;cases(f);cases(n);exact#[j,g,d.1,d.2,c b _ .BG o (BA 0 j.toNat)]
   exact c.elim
  exact c.elim
theorem BC(n)(hp:PassesOwn .AB X.A X.env X.xe)(hc:QT X E c tc)(Z:YZ X E body tb):QS X E (.While c body [] pos) (ZZ tc tb n):=(tW hp hc Z).mono λW Q H h=>by
 let#[a,S,G,hk,rfl,s,r,h]:=h;refine#[λm Q H=>∃b S G,b.H=H/\Ext a b/\XF b G/\YH b S Q/\Ck E b .G4 W,#[n,a,S,G,rfl,.refl a,s,r,h],?_];rintro m J _ ⟨b,v,Y,rfl,l,s2,p,N⟩;rcases m with _|m
 .exact N.elim
 refine#[b,v,Y,l.k.trans hk,rfl,s2,p,(eS N).imp ?_];rintro k _ ⟨L,O,rfl,f,U,_,T⟩;cases k with
 |false=>exact T L J (.refl L) U (p.mono f)
 | true=>
  refine#[λg P=>∃b S G,b.H=P/\Ext a b/\XF b G/\YH b S g/\Ck E b .G4 W,λg P z=>#[m,qA _,z],L,v,O,f.k.trans (l.k.trans hk),rfl,U,p.mono f,?_];have d:=ef T
  revert d
  cases tb v O with
  |nx j i|ct j i=>
   intro d u e B o y;let#[t,I,M,C,K,x,F,q]:=d u e B o y;exact#[t,I,M,C,l.trans (f.trans K),x,F,q]
  |_=>exact λd=>d
end
def BD(r:YA a ds vs)(n m)(h:n=m):YH a (ds.map u7++zK n u8) (vs.map u7++zK m u8):=by
 subst h;refine#[by simp[r.length],λi d b=>?_];by_cases c:i<ds.length
 .rw[zE (by simpa using c),zG]at b;rcases e:ds[i]? with _|j
  .rw[e]at b;cases b
  rw[e]at b;have f:j=d:=by simpa using b
  subst f;let#[v,g,q]:=r.get e;exact#[v,by rw[zE (by rw[zq,<-r.length];exact c),zG,g];rfl,q]
 rw[zM (by simpa using c),jw]at b
 split at b<;>cases b
def fA{K:za}{p:List Str}{n:Nat}{b:DS}{v:List V}{H:Hp}{Q:VK}{E:XK}(h:lFx K (Ah p.length n b) v H Q E):v.length=p.length:=by
 let#[a,G,q,hk,rfl,t,r,h]:=h;unfold Ah at h;split at h
 .rename_i l;rw[<-r.length];exact l
 exact h.elim
def BE{K:za}{N p:List Str}{b:DS}{v:List V}{H:Hp}{Q:VK}{E:XK}(h:lFx K (Ah p.length (N.length-p.length) b) v H Q E):lS K E b {nx:=λ_=>Q .WB,rt:=Q} (start N v) H:=by
 have l:=fA h;let#[a,G,q,hk,rfl,t,r,h]:=h;unfold Ah at h;split at h
 .have g:=eT t h;refine#[a,q.map u7++zK (N.length-p.length) u8,G,hk,rfl,t,BD r _ _ (by rw[l]),?_]
  revert g
  cases b (q.map u7++zK (N.length-p.length) u8) G with
  |nx v o=>exact λg c C x B _=>g c .WB x B rfl
  |bk v o|ct v o=>exact λg=>g.elim
  |_=>exact id
 exact h.elim
def Bm{P:xG}{w:xN}{K:za}{u:Str->Option xM}{j:Heap}{x qual:Str}{st:xL}{f:xB}{y:xE}{N ps:List Str}{k:Nat}{b:DS}(F:Fun K x qual st f y)(S:YD N ps .BN)
  (m:∀i A outer s H E,VH k (A.deeper (envOfC qual .BN s.heap.objs.size f i))->YZ (Qx CX0 P w K u j N qual .BN f i A outer s H E).nox E0 .Bs b):
  WM P w K u j CX0 (k+1) f y ps (lF K (Ah ps.length (N.length-ps.length) b)):=by
 exact F.ok S (λ_ _ _ _=>fA) λi A o s H n Q E z h=>#[_,m i A o s H E z,BE h]
theorem Ku(s:XF a G)(r:VG a d x)(h:Bf d G=u7 xs):∃p vs,x=.ref p/\(WQ a.K a.H p vs\/YO a.K a.H p vs)/\YA a xs vs:=by
 cases d with
 |tup c=>
  have e:=w4 h;subst e;let#[p,vs,e,q,b]:=r;exact#[p,vs,e,.inr q,b]
 |fl c=>
  have e:=w4 h;subst e;let#[p,vs,e,q,b]:=r;exact#[p,vs,e,.inl q.sq,b]
 |ref i=>
  unfold Bf at h;dsimp only at h;split at h
  .rename_i c j;have e:=w4 h;subst e;let#[vs,g,k]:=s.lst j;exact#[a.m i,vs,r.2,.inl (.of g),k]
  cases h
 |_=>cases h
def Cg (d e:D) (G:DH):R D:=match e with
 | .int i=>match d with
  | .str z=>if z.length<=1000000 then(match ZJ z.cps.toList i with
    |some c=>.ok (.str #[[c].toArray]) G
    |none=>.bad)else .bad
  | d=>match Bf d G with
   |some xs=>match ZJ xs i with
    |some v=>.ok v G
    |none=>.bad
   |none=>.bad
 |_=>.bad
def fC(r:YA a xs vs)(h:ZJ xs i=u7 d):∃v,ZJ vs i=u7 v/\VG a d v:=by
 unfold ZJ at h⊢;rw[<-r.length];rcases e:ixN xs.length i with _|j
 .rw[e]at h;cases h
 rw[e]at h;let#[v,b,q]:=r.get (h);exact#[v,b,q]
section
variable{X:Cx}{E:XK}
def _root_._L.UZ.mono(h:UZ X r)(w:∀x y H Q,r' x y H Q->r x y H Q):UZ X r':=λa b c s d H x y v u Q I i j q g=>h a b c s d H x y v u Q I i j .Fv g
def _root_._L.VE.mono(h:VE X f r)(w:∀xs H Q,r' xs H Q->r xs H Q):VE X f r':=λa s b H xs c Q I d q=>h a s b H xs c Q I d (w _ _ _ q)
def _root_._L.VZ.mono{id:String}{r b:V->List V->Hp->VK->Prop}(h:VZ X id r)(w:∀x xs H Q,b x xs H Q->r x xs H Q):VZ X id b:=λa s c H x xs v d Q I i g q=>h a s c H x xs v d Q I i g .Fv
theorem Y3:UZ X (XO X.K E Cg):=yW.mono λx y H Q h=>by
 let#[a,G,d,e,hk,rfl,s,r,m,q]:=h;cases e with
 | int i=>
  have n:∀{k:List D},Bf d G=u7 k->out E a (match ZJ k i with |some v=>.ok v G|none=>.bad) Q->rIx X.K x y a.H Q:=λ{k}l q=>by
   let#[p,B,w,g,I]:=Ku s r l;rw[hk]at g;split at q
   .rename_i v J;let#[u,A,F]:=fC I J;have z:=q a u .AG s F;rcases g with g|g
    .exact .inl #[p,B,i,u,w,m,g,A,z]
    exact .inr (.inl #[p,B,i,u,w,m,g,A,z])
   exact q.elim
  have b:out E a (match Bf d G with |some k=>(match ZJ k i with |some v=>.ok v G|none=>.bad)|none=>.bad) Q->rIx X.K x y a.H Q:=λq=>by
   rcases l:Bf d G with _|k
   .rw[l]at q;exact q.elim
   rw[l]at q;exact n l q
  cases d with
  | str z=>
   unfold Cg at q;dsimp only at q;split at q
   .rename_i C;split at q
    .rename_i c L;exact .inr (.inr #[z,i,c,r,m,zx C WH,L,q a _ .AG s rfl])
    exact q.elim
   exact q.elim
  |tup M|fl M|ref j|_=>exact b q
 |_=>exact q.elim
def Be(ds:List D)(G:DH):R D:=match ds with
 |[.str z]=>if z.length<=1000000 then .ok .HS G else .bad
 |[d]=>match Bf d G with
  |some xs=>.ok .G5 G
  |none=>.bad
 |_=>.bad
def XH(r:YA a [d] vs):∃v,vs=[v]/\VG a d v:=by let#[v,b,e,q,z]:=r;cases(z);exact#[v,e,q]
def S?(r:YA a [d,d'] vs):∃v b,vs=[v,b]/\VG a d v/\VG a d' b:=by let#[v,h,e,q,z]:=r;let#[b,g,c]:=XH z;subst g;exact#[v,b,e,q,c]
def BF:VE X (.builtin "len") (C? X.K E Be):=(ye.or yf).mono λl H Q h=>by
 let#[a,G,m,hk,rfl,s,r,q]:=h;unfold Be at q;split at q
 .rename_i z;split at q
  .rename_i g;let#[v,rfl,b]:=XH r;cases(b);exact .inr #[z,rfl,zx g WH,q a _ .AG s rfl]
  exact q.elim
 .rename_i d _;split at q
  .rename_i n j;let#[v,rfl,b]:=XH r;let#[p,i,rfl,c,k]:=Ku s b j;rw[hk]at c;exact .inl #[p,i,rfl,c,q a _ .AG s (by rw[<-k.length];exact rfl)]
  exact q.elim
 exact q.elim
def Dg(ds:List D)(G:DH):R D:=match ds with
 |[d]=>match Bf d G with
  |some xs=>.ok .Aj G
  |none=>.bad
 |_=>.bad
def R9:VE X (.type "tuple") (C? X.K E Dg):=yh.mono λm H Q h=>by
 let#[a,G,n,hk,rfl,s,r,q]:=h;unfold Dg at q;split at q
 .rename_i d;split at q
  .rename_i u j;let#[v,rfl,k]:=XH r;let#[p,c,rfl,b,g]:=Ku s k j;refine#[p,c,rfl,?_];rcases b with b|b
   .exact .inl #[by rw[<-hk];exact b,λl i=>U8 s g q l i]
   exact .inr #[by rw[<-hk];exact b,q a _ .AG s #[p,c,rfl,b,g]]
  exact q.elim
 exact q.elim
def Nv(ds:List D)(G:DH):R D:=match ds with
 |[.str z]=>if z.length<=1000000 then .ok .AH (G++[.lst .IQ])else .bad
 |[d]=>match Bf d G with
  |some xs=>.ok .AH (G++[.lst xs])
  |none=>.bad
 |_=>.bad
theorem ae:∀{vs:List V}{us:List xM},vs.length=us.length->(∀(i:Nat)v u,vs[i]?=u7 v->us[i]?=u7 u->RelV v u)->Vals vs us
 |[],[],_,_=>.nil
 |[],_::_,h,_|_::_,[],h,_=>by cases h
 |v::vs,u::us,h,f=>.cons (f 0 v u rfl rfl) (ae (by simpa using h) λi a d c b=>f (i+1) a d (by simpa using c) (by simpa using b))
def BG(x:X.calm=u9):VE X (.type "list") (λxs H Q=>∃z,xs=[.str z]/\z.length<=sizeLine/\∀l,H l=u8->Q (.ref l) (upd H l (.lst (z.cps.toList.map λc=>V.str #[[c].toArray])))):=by
 intro j s A H xs B Q I r h;let#[z,rfl,m,q]:=h;let#[u,rfl,t,rfl]:=vals1 r;refine PySem.call_list_str (I.ok.hd x) z t (λJ C b c hk p a=>?_) m;refine#[.ref s.heap.objs.size,upd H s.heap.objs.size (.lst (z.cps.toList.map λc=>V.str #[[c].toArray])),I.laid hk .AK ?_,rfl,q _ .JM];refine#[by rw[zq,jk];exact m,b.toList,c,ae ?_ λi v u d n=>?_,by simpa using p]
 .rw[zq,jk,jk];exact a.1.symm
 rw[zG,qK]at d;let#[k,g,rfl]:=d;let#[F,w,y,rfl]:=a.2 i u (by rw[<-qT];exact n);rw[qT,y]at g;cases g;exact#[w,rfl]
def BH(m:X.calm=u9):VE X (.type "list") (C? X.K E Nv):=(yg.or (BG m)).mono λn H Q h=>by
 let#[a,G,u,hk,rfl,s,r,q]:=h;unfold Nv at q;split at q
 .rename_i z;split at q
  .rename_i b;let#[v,rfl,c]:=XH r;cases(c);exact .inr #[z,rfl,zx b WH,λl b=>Ji s (.signs z) q l b]
  exact q.elim
 .rename_i d _;split at q
  .rename_i w j;let#[v,rfl,c]:=XH r;let#[p,i,rfl,g,k]:=Ku s c j;exact .inl #[p,i,rfl,by rw[<-hk];exact g,λl b=>Ji s k q l b]
  exact q.elim
 exact q.elim
def Tt(ds:List D)(G:DH):R D:=match ds with
 |[.int i,.int j]=>.ok (.int (if j>i then j else i)) G
 |_=>.bad
def Jp(ds:List D)(G:DH):R D:=match ds with
 |[.int i,.int j]=>.ok (.int (if j<i then j else i)) G
 |_=>.bad
def BI(d:X.calm=u9):VE X (.builtin "max") (C? X.K E Tt):=(uf d).mono λg H Q h=>by
 let#[a,G,i,hk,rfl,s,r,q]:=h;unfold Tt at q;split at q
 .let#[v,j,rfl,b,c]:=S? r;cases(b);cases(c);exact#[_,_,rfl,q a _ .AG s rfl]
 exact q.elim
def BJ(d:X.calm=u9):VE X (.builtin "min") (C? X.K E Jp):=(ug d).mono λg H Q h=>by
 let#[a,G,i,hk,rfl,s,r,q]:=h;unfold Jp at q;split at q
 .let#[v,j,rfl,b,c]:=S? r;cases(b);cases(c);exact#[_,_,rfl,q a _ .AG s rfl]
 exact q.elim
def Fb(ds:List D)(G:DH):R D:=match ds with
 |[.int i]=>if i.natAbs.log2<1920 then .ok (.str (toString i)) G else .bad
 |_=>.bad
def BK:VE X (.type "str") (C? X.K E Fb):=uh.mono λd H Q h=>by
 let#[a,G,c,hk,rfl,s,r,q]:=h;unfold Fb at q;split at q
 .let#[v,rfl,b]:=XH r;cases(b);split at q
  .exact#[_,rfl,by assumption,q a _ .AG s rfl]
  exact q.elim
 exact q.elim
def Dy(o:D)(ds:List D)(G:DH):R D:=match o,ds with
 |.ref i,[d]=>match G[i]? with
  |some .AI=>if xs.length<1000000 then .ok .WB (G.set i (.lst (xs++[d])))else .bad
  |_=>.bad
 |_,_=>.bad
def lRm(K:za)(E:XK)(f:D->List D->DH->R D):V->List V->Hp->VK->Prop:=λx xs H Q=>PD3 K H x xs VG YA λa G d ds=>out E a (f d ds G) Q
def XF.isList(s:XF a G)(h:G[i]?=u7 .AI):∃vs,WQ a.K a.H .Ay vs:=let#[vs,e,_]:=s.lst h;#[vs,.of e]
def BL:VZ X "list.append" (lRm X.K E Dy):=ym.mono λx y H Q h=>by
 let#[a,G,d,w,hk,rfl,s,b,r,q]:=h;unfold Dy at q;split at q
 .rename_i i d;let#[v,rfl,p]:=XH r;split at q
  .rename_i z k;split at q
   .rename_i j;let#[l,c,g]:=s.lst k;let#[n,u]:=Xj s b.1 c (g.append (.cons p YA.nil));exact#[a.m i,l,v,b.2,rfl,c,by rw[<-g.length];exact zY j WH,q _ .WB n u rfl]
   exact q.elim
  exact q.elim
 exact q.elim
variable{o e:xD}{es:List xD}{to:DE}{t:DA}{name:Str}{apos WG:Pos}{T id:String}{f:D->List D->DH->R D}
def isL(d:D)(G:DH):Bool:=match d with
 |.ref i=>match G[i]? with
  |some .Fa=>u9
  |_=>uA
 |.fl _=>u9
 |_=>uA
def Do(f:D->List D->DH->R D)(o:DE)(t:DA):DE:=λS G=>(o S G).bind λx G1=>if isL x G1=u9 then(t S G1).bind λxs G2=>f x xs G2 else .bad
theorem BM(s:XF a G)(r:VG a d x)(h:isL d G=u9):tyV a.K "list" x a.H:=by
 cases d with
 |ref i=>
  unfold isL at h;dsimp only at h;split at h
  .rename_i b g;cases r.2;exact .inl #[rfl,s.isList g]
  cases h
 |fl b=>
  let#[p,c,rfl,q,_]:=r;exact .inl #[rfl,c,q.sq]
 |_=>cases h
def BN(m:Slot "list" name id)(p:typeOf .BO=pure (.type "method_descriptor"))(L:VZ X id .Ih)(ho:QE X E o to)(N:QA X E (e::es) t)
  (i:xP o name X.env .B0=eval o X.env:=by rfl)
  (l:((xR WG (vv (e::es) X.env)).all (λx=> !x.1)&&(xS WG (vW [] X.env)).all (λx=>x.1.isSome)
   && decide ((e::es).length+([]:List Keyword).length+(if([]:List Keyword).isEmpty then 0 else 1)<30))=u9:=by rfl)
  (j:(apos.endLine==WG.line)=u9:=by rfl) (C:vv (e::es) X.env=(uA,eval e X.env)::vv es X.env:=by rfl) (g:(xR WG .BH).any (·.1)=uA:=by rfl):
  QE X E (.Call .C0 (e::es) [] WG) (Do f to t):=(eP PySem.F.plainAttrs_list m p L ho N i l j C g).mono λP H Q h=>by
 let#[a,S,G,hk,rfl,s,r,h]:=h;refine#[a,S,G,hk,rfl,s,r,(Er h).imp ?_];rintro v _ ⟨b,d,w,rfl,x,u,q,-,n⟩;split at n
 .rename_i M;have ty:=BM u q M;rw[x.k,hk]at ty;refine#[ty,b,S,w,x.k.trans hk,rfl,u,r.mono x,(M9 n).imp ?_];rintro O _ ⟨c,J,A,rfl,y,I,B,-,z⟩;exact#[c,A,d,J,y.k.trans .A3,rfl,I,q.mono y,B,z]
 exact n.elim
end
inductive Ty where|WB|bl|int|str|tup|lst
def Ty.name:Ty->String
 |.WB=>"NoneType" | .bl=>"bool" | .int=>"int" | .str=>"str" | .tup=>"tuple" | .lst=>"list"
def tyD(G:DH):D->Option Ty
 |.WB=>u7 .WB
 |.bl _=>u7 .bl
 |.int _=>u7 .int
 |.str _=>u7 .str
 |.tup _=>u7 .tup
 |.fl _=>u7 .lst
 |.ref i=>match G[i]? with
  |some .Fa=>u7 .lst
  |_=>u8
 |.ty _=>u8
def Ty.sub(t:Ty):String->Option Bool
 |"int"=>u7 (match t with | .int=>u9 | .bl=>u9|_=>uA)
 |"bool"=>u7 (match t with | .bl=>u9|_=>uA)
 |"str"=>u7 (match t with | .str=>u9|_=>uA)
 |"tuple"=>u7 (match t with | .tup=>u9|_=>uA)
 |"list"=>u7 (match t with | .lst=>u9|_=>uA)
 |_=>u8
def Q8(ds:List D)(G:DH):R D:=match ds with
 | [d,.ty T]=>match tyD G d with
  |some t=>match t.sub T with
   |some k=>.ok .Ge G
   |none=>.bad
  |none=>.bad
 |_=>.bad
def BO{K:za}{t:Ty}{T:String}{k:Bool}(h:t.sub T=u7 k):PySem.W.kitOne K (.type t.name) .CD=u7 k:=by
 unfold Ty.sub at h;split at h
 iterate 5 (cases t<;>cases h<;>rfl)
 cases h
section
variable{X:Cx}{E:XK}
def BP:VE X (.builtin "isinstance") (C? X.K E Q8):=by
 intro i s O H vs us Q I rs h;let#[a,G,ds,hk,rfl,P,r,q]:=h;unfold Q8 at q;split at q
 .rename_i d T;let#[v,v',rfl,j,S]:=S? r;cases(S);obtain⟨u,J,rfl,m,F⟩:∃u J,us=[u,J]/\RelV v u/\RelV (.ty T) J:=by
   cases rs with
   |cons p q=>cases q with
    |cons Z q'=>cases q';exact#[_,_,rfl,p,Z]
  cases(F);split at q
  .rename_i t g;split at q
   .rename_i k y;have f:∀B,EP X i O Q (.bool k) {s with toks:=B}:=λB=>#[.bl k,a.H,I.tok _,rfl,q a _ .AG P rfl]
    have e:=BO (K:=X.K) y;clear q y r;have L:∀p l,WQ X.K a.H p l->u=.ref p->t=.lst->vA .AB X.A (call (.builtin "isinstance") [u,.type T]) (EP X i O Q) X.xe s:=λp l x eu U=>by subst eu U;let#[M,_,C,_]:=I.list x;exact qg PySem.W.kitx_list I.YW (let#[o,e,c,_]:=C.isList;#[o,e,c]) e (nofun) f
    cases d with
    |WB=>cases g;cases(j);cases m;exact qg PySem.W.kitx_none I.YW True.intro e (nofun) f
    |bl b=>cases g;cases(j);cases m;exact qg PySem.W.kitx_bool I.YW True.intro e (nofun) f
    |int b=>cases g;cases(j);let#[B,rfl]:=m;exact qg PySem.W.kitx_int I.YW True.intro e (nofun) f
    |str b=>cases g;cases(j);let#[B,rfl]:=m;exact qg PySem.W.kitx_str I.YW True.intro e (nofun) f
    |tup b=>
     cases g;let#[p,l,rfl,x,_]:=j;cases m;rw[hk]at x;let#[M,_,C,_]:=I.tuple x;exact qg PySem.W.kitx_tuple I.YW (let#[o,e,c,_]:=C;#[o,e,c]) e (nofun) f
    |fl b=>
     cases g;let#[p,l,rfl,x,_]:=j;exact L p l (hk▸x.sq) m rfl
    |ref b=>
     unfold tyD at g;dsimp only at g;split at g
     .rename_i xs hx;cases g;let#[l,Y,_]:=P.lst hx;cases j.2;exact L _ l (.of Y) m rfl
     cases g
    |ty n=>cases g
   exact q.elim
  exact q.elim
 exact q.elim
end
def Lg:List D->Option .Cc
 |[]=>u7 []
 |.int i::r=>(Lg r).map (i::·)
 |_=>u8
def Nf:List D->Option (List Bool)
 |[]=>u7 []
 |.bl i::r=>(Nf r).map (i::·)
 |_=>u8
@[simp]theorem BQ(ns):Lg .A2=u7 ns:=by
 induction ns with
 |nil=>rfl
 |cons n ns a=>simp[Lg,a]
@[simp]theorem SJ(ns):Nf .Ii=u7 ns:=by
 induction ns with
 |nil=>rfl
 |cons n ns a=>simp[Nf,a]
theorem Vn:∀{xs:List D}{ns:List Int},Lg xs=u7 ns->xs=ns.map D.int
 |[],ns,h=>by cases h;rfl
 |.int i::r,ns,h=>by simp[Lg]at h;let#[b,a,rfl]:=h;rw[zk,Vn a]
 |.WB::r,ns,h | .bl _::r,ns,h | .str _::r,ns,h | .ty _::r,ns,h | .tup _::r,ns,h | .fl _::r,ns,h | .ref _::r,ns,h=>by simp[Lg]at h
theorem fD:∀{xs:List D}{ns:List Bool},Nf xs=u7 ns->xs=ns.map D.bl
 |[],ns,h=>by cases h;rfl
 |.bl i::r,ns,h=>by simp[Nf]at h;let#[b,a,rfl]:=h;rw[zk,fD a]
 |.WB::r,ns,h | .int _::r,ns,h | .str _::r,ns,h | .ty _::r,ns,h | .tup _::r,ns,h | .fl _::r,ns,h | .ref _::r,ns,h=>by simp[Nf]at h
def Dp(ds:List D)(G:DH):R D:=match ds with
 | [d]=>match Bf d G with
  |some xs=>match Lg xs with
   |some ns=>.ok (.int ns.sum) G
   |none=>.bad
  |none=>.bad
 |_=>.bad
def Ir(ds:List D)(G:DH):R D:=match ds with
 | [d]=>match Bf d G with
  |some xs=>match Nf xs with
   |some ns=>.ok (.bl (ns.all id)) G
   |none=>.bad
  |none=>.bad
 |_=>.bad
section
variable{X:Cx}{E:XK}{vT:List (xB×Obj)}{σ:St}{s:xI}{H:Hp}
def af(I:Inv X vT σ H s)(t:X.calm=u9)(h:WQ X.K H p vs\/YO X.K H p vs)
  (n:∀it fp wr VB St d,Vals vs VB->Walks X.prog X.w X.A.in1 it fp wr VB.toArray.size (λi v=>VB.toArray[i]?=u7 v) St->St 0 d.heap->(∀b∈fp,b<d.heap.objs.size)->
   (∀h' tk,(∀b o,b∉wr->d.heap.get? b=u7 o->h'.get? b=u7 o)->Inv X vT σ H {d with heap:=h',toks:=tk})->Q .Cz d):
  vA .AB X.A.in1 (pyIter .AL) Q E' s:=by
 have m:X.A.in1.handled=u8:=I.ok.hd t;rcases h with h|h
 .let#[VB,r,g,q]:=I.list h;refine wpAny_pyIter_list g.isList ?_;have hp:p<s.heap.objs.size:=by let#[o,e,_]:=g.isList;exact zA e
  refine n _ _ _ VB _ _ r (.list m _ p (qQ hp) VB.toArray) #[#[_,zD _ rfl,rfl,rfl],?_] (λb f=>?_) λh' tk k=>?_
  .let#[o,e,c]:=g.isList;exact#[o,zQ _ e,c]
  .rw[qI];rcases zj.mp f with rfl|f
   .exact qA _
   have e:b=p:=by simpa using f
   subst e;exact qN hp
  refine I.kept λb o e=>k b o (λf=>?_) .Fh
  have j:b=s.heap.objs.size:=by simpa using f
  subst j;exact absurd .Bb .CS
 let#[VB,r,g,q]:=I.tuple h;refine wpAny_pyIter_tuple (g) ?_;have hp:p<s.heap.objs.size:=by let#[o,e,_]:=g;exact zA e
 refine n _ _ _ VB _ _ r (.tuple m _ p (qQ hp) VB.toArray) #[#[_,zD _ rfl,rfl,rfl],?_] (λb f=>?_) λh' tk k=>?_
 .let#[o,e,c]:=g;exact#[o,zQ _ e,c]
 .rw[qI];rcases zj.mp f with rfl|f
  .exact qA _
  .have e:b=p:=by simpa using f
   subst e;exact qN hp
 .refine I.kept λb o e=>k b o (λf=>?_) .Fh
  have j:b=s.heap.objs.size:=by simpa using f
  subst j;exact absurd .Bb .CS
theorem fE(ns:List Int):∀n,n<=ns.length->preSum (λi=>ns.getD i 0) n=(ns.take n).sum
 |0,_=>by simp[preSum]
 |n+1,h=>by have a:n<ns.length:=h;rw[preSum,fE ns n .a,List.take_succ_eq_append_getElem a,List.sum_append];simp[a]
theorem ag:∀{ns:List Int}{vs:List V},YA a .A2 vs->vs=ns.map V.int
 |[],vs,h=>h
 |n::ns,vs,h=>by
  let#[v,r,e,c,b]:=h;cases(c);rw[e,ag b]
  rfl
theorem fF:∀{ns:List Bool}{vs:List V},YA a .Ii vs->vs=ns.map V.bl
 |[],vs,h=>h
 |n::ns,vs,h=>by
  let#[v,r,e,c,b]:=h;cases(c);rw[e,fF b]
  rfl
def ah(z:X.calm=u9):VE X (.builtin "sum") (C? X.K E Dp):=by
 intro l s S H O T Q I F h;let#[a,G,M,hk,rfl,m,r,q]:=h;unfold Dp at q;split at q
 .rename_i d;let#[v,rfl,B]:=XH r;split at q
  .rename_i P y;split at q
   .rename_i b n;cases Vn n;let#[p,N,rfl,j,J]:=Ku m B y;cases ag J;rw[hk]at j;let#[u,rfl,f]:=vals1 F;cases f;refine call_sum_walkG (af I z j λit fp wr VB St s₂ hv W st hfp fin=>#[it,fp,wr,VB.toArray.size,_,St,λi=>b.getD i 0,rfl,W,st,hfp,λi w hw=>?_,λC o A L=>?_])
    .have c:VB[i]?=u7 w:=by simpa using hw
     have g:i<(b.map V.int).length:=by rw[hv.length];exact(z9.mp c).1
     have e:i<b.length:=by simpa using g
     let#[u,k,f]:=hv.get (i:=i) (x:=V.int b[i]) .d;rw[c]at k;cases k;let#[t,rfl]:=f;exact#[t,by simp[e]]
    refine#[.int b.sum,a.H,fin C o L,#[A,?_],q a _ .AG m rfl];have g:VB.toArray.size=b.length:=by simp[<-hv.length]
    rw[g,fE b b.length .AK,List.take_length]
   exact q.elim
  exact q.elim
 exact q.elim
def all_range(ns:List Bool):(zV ns.length).all (λi=>ns.getD i u9)=ns.all id:=by
 rw[Bool.eq_iff_iff,qE,qE];constructor
 .intro h b d;let#[i,c,rfl]:=qO d;simpa[c]using h i (qx.mpr c)
 intro h i c;have a:=qx.mp c;simpa[a]using h ns[i] (qX a)
def V9(z:X.calm=u9):VE X (.builtin "all") (C? X.K E Ir):=by
 intro m s U H S Y Q I C h;let#[a,G,N,hk,rfl,n,r,q]:=h;unfold Ir at q;split at q
 .rename_i d;let#[v,rfl,A]:=XH r;split at q
  .rename_i T y;split at q
   .rename_i b o;cases fD o;let#[p,O,rfl,k,F]:=Ku n A y;cases fF F;rw[hk]at k;let#[u,rfl,f]:=vals1 C;cases f;refine call_all_walk (af I z k λit fp wr VB St s₂ hv W st hfp fin=>#[it,fp,wr,VB.toArray.size,_,St,λi=>b.getD i u9,rfl,W,st,λi w M L P hw j=>?_,λB t J=>?_])
    .have c:VB[i]?=u7 w:=by simpa using hw
     have g:i<(b.map V.bl).length:=by rw[hv.length];exact(z9.mp c).1
     have e:i<b.length:=by simpa using g
     let#[u,l,f]:=hv.get (i:=i) (x:=V.bl b[i]) .d;rw[c]at l;cases l;cases f;refine vO ?_;simpa[e]using j
    refine#[.bl (b.all id),a.H,fin B t J,?_,q a _ .AG n rfl];have g:VB.toArray.size=b.length:=by simp[<-hv.length]
    rw[g,all_range]
    rfl
   exact q.elim
  exact q.elim
 exact q.elim
end
section
variable{X:Cx}{vT:List (xB×Obj)}{σ:St}{H:Hp}{s:xI}
def ai(I:Inv X vT σ H s)(l:H a=u8)(v:X.s₀.heap.objs.size<=a)(t:a≠X.env.locals)(y:∀x c,X.env.cells.lookup x=u7 c->c≠a)(hp:∀p∈X.pn++vT,p.1≠a)
  (h:YJ X.prog X.w .Co s.heap a o):Inv X vT σ .Co s:=by
 have f:∀b u,H b=u7 u->b≠a:=λb u e z=>by rw[z,l]at e;cases e
 refine#[I.ok,I.os,I.bare,#[I.base.keep,I.base.slot,λb i q n C=>?_,I.base.there,λb j q=>?_,λb i u q=>?_,λb A q=>?_],I.loc,I.cell,?_,λx c e=>?_,λp d=>?_,λb u e=>?_,I.len]
 .rw[Aw (qQ (zY (zA q) v))];exact I.base.free b i q n C
 .have:=I.base.w? b j q;rw[Aw .GI];exact this
 .have:=I.base.d? b i u q;rw[Aw .GI];exact this
 .let#[g,this]:=I.base.x? b A q;exact#[g,by rw[Aw .GI];exact this]
 .rw[Aw (.symm t)];exact I.free
 .rw[Aw (y x c e)];exact I.Jj x c e
 .let#[m,B,r]:=I.pin p d;exact#[m,by rw[Aw (hp p d)];exact B,r]
 by_cases k:b=a
 .subst k;rw[Gg]at e;cases e;exact h
 .rw[Aw k]at e;exact(I.VF b u e).L' (λ_ _ _ q=>q) (λc q=>by rw[Aw (f _ _ q)];exact q) λc j q=>by rw[Aw (f _ _ q)];exact q
end
def Fe(env:Env):List (Str×xF)->List (Str×xB)->List (Str×xB)
 |[],cs=>cs
 |(n,k)::r,cs=>if(k==NameKind.free)=u9 then Fe env r ((n,(env.cells.lookup n).getD 0)::cs)else Fe env r cs
def fG(h:∀y∈scope.names,y.2=.free->∃c,env.cells.lookup y.1=u7 c):closureFor scope env=pure (Fe env scope.names []):=by
 let#[b,names,p,q]:=scope;have e:∀names a,(∀y∈names,y.2=.free->∃c,env.cells.lookup y.1=u7 c)->
   (forIn names a (λx r=>match x with
    |(name,b)=>if(b==NameKind.free)=u9 then(do let c<-cellOf env name;pure (.yield ((name,c)::r)))else pure (.yield r)):Sem (List (Str×xB)))=pure (Fe env names a):=by
  intro names
  induction names with
  |nil=>intro a _;rfl
  | cons y r j=>
   intro a f;let#[n,k]:=y;rw[j5];by_cases hk:(k==NameKind.free)=u9
   .let#[c,l]:=f (n,k) zW (by simpa using hk);have o:cellOf env n=pure c:=by unfold cellOf;rw[l]
    have i:Fe env ((n,k)::r) a=Fe env r ((n,c)::a):=by rw[Fe,if_pos hk,l];rfl
    simp only[i,<-j ((n,c)::a) λg d=>f g (zZ _ d),hk,o]
    rfl
   have i:Fe env ((n,k)::r) a=Fe env r a:=by rw[Fe,if_neg hk]
   simp only[i,<-j a λg d=>f g (zZ _ d),hk]
   rfl
 have:=e names [] h;exact congrArg (λm=>m >>=λr=>pure r) this
theorem aj:∀{names:List (Str×xF)}{cs:List (Str×xB)},(∀y∈names,y.2=.free->∃c,env.cells.lookup y.1=u7 c)->(∀p∈cs,env.cells.lookup p.1=u7 p.2)->∀p∈Fe env names cs,env.cells.lookup p.1=u7 p.2
 |[],cs,_,a,p,hp=>a p hp
 | (n,k)::r,cs,d,a,p,hp=>by
  rw[Fe]at hp;split at hp
  .rename_i hk;let#[c,e]:=d (n,k) zW (by simpa using hk);refine aj (λy b=>d y .DV) (λq f=>?_) p hp;rcases zj.mp f with rfl|f
   .rw[e];rfl
   exact a q f
  exact aj (λy b=>d y .DV) a p hp
theorem Wh:∀{names:List (Str×xF)}{cs:List (Str×xB)},((x,.free)∈names\/∃c,(x,c)∈cs)->∃c,(x,c)∈Fe env names cs
 |[],cs,h=>by
  rcases h with h|h
  .cases h
  exact h
 | (n,k)::r,cs,h=>by
  rw[Fe];split
  .refine Wh ?_;rcases h with h|⟨c,h⟩
   .rcases zj.mp h with e|h
    .cases e;exact .inr #[_,zW]
    exact .inl h
   exact .inr #[c,zZ _ h]
  rename_i hk;refine Wh ?_;rcases h with h|h
  .rcases zj.mp h with e|h
   .cases e;exact absurd rfl hk
   exact .inl h
  exact .inr h
theorem ak:∀{l:List (Str×xB)},(x,c)∈l->∃d,l.lookup x=u7 d
 |[],h=>by cases h
 |(y,d)::l,h=>by
  by_cases e:x=y
  .subst e;exact#[d,.d]
  rcases zj.mp h with z|h
  .cases z;exact absurd rfl e
  .let#[a,q]:=ak h;exact#[a,by rw[j1,beq_eq_false_iff_ne.mpr e];exact q]
theorem fH(x):(relabel scope env).names.lookup x=(scope.names.lookup x).map λk=>if(k==NameKind.free&&env.scope.kind == .function&&env.kindOf x==u7 .cell)=u9 then .cell else k:=by
 unfold relabel;generalize scope.names=l
 induction l with
 |nil=>rfl
 | cons y r b=>
  let#[n,k]:=y;by_cases e:x=n
  .subst e;simp only[zk]
   cases c:(k==NameKind.free&&env.scope.kind==ScopeKind.function&&env.kindOf x==u7 NameKind.cell) <;>
    simp only[c,if_true,j1,beq_self_eq_true,jR,Bool.false_eq_true,if_false]
  have a:=beq_eq_false_iff_ne.mpr e;simp only[zk];split
  .rw[j1,j1,a];exact b
  rw[j1,j1,a];exact b
def WX(X:Cx)(N:List Str)(scope:xH)(C:xB)(s₀:xI)(H₀:Hp)(ex:List xB):Cx where
 prog:=X.prog
 w:=X.w
 K:=X.K
 mg:=X.mg
 base:=X.base
 A:=X.A
 N:=N
 s₀:=s₀
 H₀:=H₀
 env:=compEnvC scope (Fe X.env scope.names []) C X.env
 outer:=X.stack
 stack:=X.stack
 ex:=ex
 fn:=λ_=>uA
 calm:=X.calm
 pn:=[]
 xe:=λ_ _=>False
structure YL (X:Cx) (N:List Str) (scope:xH) (nt:Nat) (caps:List Nat):Prop where
 kind:scope.kind=.function
 names:∀y∈scope.names,y.2=.local->scope.names.lookup y.1=u7 .local
 nocell:∀y∈scope.names,y.2≠ .cell
 free:∀y∈scope.names,y.2=.free->X.env.kindOf y.1=u7 .cell\/X.env.kindOf y.1=u7 .free
 nd:N.Nodup
 len:N.length=nt+caps.length
 cap:∀(k j:Nat),caps[k]?=u7 j->∃x,X.N[j]?=u7 x/\N[nt+k]?=u7 x/\scope.names.lookup x=u7 .free
section
variable{X:Cx}{vT:List (xB×Obj)}{σ:St}{H:Hp}{s:xI}{N:List Str}{scope:xH}{nt:Nat}{caps:List Nat}
def YL.cells(c:YL X N scope nt caps)(ok:X.Ok):∀y∈scope.names,y.2=.free->∃c,X.env.cells.lookup y.1=u7 c:=λy a hk=>ok.has y.1 (c.free y a hk)
def YL.cl(c:YL X N scope nt caps)(ok:X.Ok)(h:(Fe X.env scope.names []).lookup x=u7 d):X.env.cells.lookup x=u7 d:=
 aj (c.cells ok) (λp hp=>by cases hp) (x,d) (zf h)
def BR(c:YL X N scope nt caps)(I:Inv X vT σ H s){fp:List xB}(hf:∀b∈fp,ZQ X vT H b){C:xB}(hC:s.heap.objs.size<=C)(hCf:C∉fp):(WX X N scope C s H fp).Ok where
 mod:=I.ok.mod
 kind:=c.kind
 glob:=I.ok.glob
 blt:=I.ok.blt
 above:=hC
 inj:=λx y d h1 h2=>I.ok.inj x y d (c.cl I.ok h1) (c.cl I.ok h2)
 has:=λx h=>by
  have h':(relabel scope X.env).names.lookup x=u7 .cell\/(relabel scope X.env).names.lookup x=u7 .free:=h;rw[fH]at h';have hfree:scope.names.lookup x=u7 .free:=by
   rcases e:scope.names.lookup x with _|k
   .rw[e]at h';rcases h' with h'|h'<;>cases h'
   rw[e]at h';cases k with
   |free=>rfl
   |cell=>exact absurd rfl (c.nocell _ (zf e))
   |_=>rcases h' with h'|h'<;>(simp at h')
  let#[d,hd]:=Wh (.inl (zf hfree));exact ak hd
 cab:=λx d h=>by cases h
 hd:=I.ok.hd
 frames:=I.ok.frames
 stk:=.inl rfl
 exf:=λb hb=>#[λz=>hCf (by rw[<-show b=C from z];exact hb),λx d h=>(hf b hb).2.2.2.2.1 x d (c.cl I.ok h)]
 bs:=I.bs
 bsz:=zx I.ok.bsz I.sz
 X?:=λb o e hb=>by
  rcases(hf b hb).2.2.2.1 with h|h
  .exact I.ok.X? b o e h
  exact absurd (zY (zA (I.ok.bs b o e).1) h) .CS
 Y?:=λb hb hz=>by
  rcases zj.mp (I.Xe b hz)with z|z
  .exact(hf b hb).2.1 z
  exact(hf b hb).2.2.1 z
 YT:=I.stack
 frf:=I.dh
end
def Bj(g:DG)(c:DB)(te:DE)(S:ZK):List D->DH->R .DT
 |[],G=>.ok [] G
 | x::xs,G=>(g x S G).bind λS1 G1=>(c S1 G1).bind λk G2=>
   if k=u9 then(te S1 G2).bind λd G3=>(Bj g c te S xs G3).bind λds G4=>.ok (d::ds) G4 else Bj g c te S xs G2
def Ek(i:Nat)(g:DG)(c:DB)(te:DE)(S:ZK):Nat->Nat->DH->R .DT
 |0,j,G=>match G[i]? with
  |some .AI=>if xs.length<=j then .ok [] G else .bad
  |_=>.bad
 | n + 1,j,G=>match G[i]? with
  |some .AI=>match xs[j]? with
   | some x=>(g x S G).bind λS1 G1=>(c S1 G1).bind λk G2=>
     if k=u9 then(te S1 G2).bind λd G3=>(Ek i g c te S n (j+1) G3).bind λds G4=>.ok (d::ds) G4 else Ek i g c te S n (j+1) G2
   |none=>.ok [] G
  |_=>.bad
def By(f:Nat->DH->Option .CE)(g:DG)(c:DB)(te:DE)(S:ZK):Nat->Nat->DH->R .DT
 |0,j,G=>match f j G with
  |some u8=>.ok [] G
  |_=>.bad
 | n + 1,j,G=>match f j G with
  |some .FI=>(g x S G).bind λS1 G1=>(c S1 G1).bind λk G2=>
     if k=u9 then(te S1 G2).bind λd G3=>(By f g c te S n (j+1) G3).bind λds G4=>.ok (d::ds) G4 else By f g c te S n (j+1) G2
  |some u8=>.ok [] G
  |none=>.bad
def Al(nt:Nat)(caps:List Nat)(S:ZK):ZK:=zK nt u8++caps.map λj=>(S[j]?).join
def Bk(it:DI)(nt:Nat)(caps:List Nat)(g:DG)(c:DB)(te:DE):DE:=λS G=>(it S G).bind λJ G1=>(match J with
 |.pure xs=>Bj g c te .AY xs G1
 |.mt i=>match G1[i]? with
  |some .AI=>Ek i g c te .AY xs.length 0 G1
  |_=>.bad
 |.fn n f=>By f g c te .AY n 0 G1).bind Aq
def Ai:DB:=λ_ G=>.ok u9 G
def GK(nt:Nat)(g:DG):Prop:=∀d S G S1 G1,g d S G=.ok S1 G1->∀i e,nt<=i->S[i]?=u7 .Eg->S1[i]?=u7 .Eg
def X9(nt:Nat)(g:DGs):Prop:=∀d S G S1 G1,g d S G=.ok S1 G1->∀i e,nt<=i->S[i]?=u7 .Eg->S1[i]?=u7 .Eg
def BS(h:i<nt):GK nt (gV i):=λd S G b f e j x k a=>by cases e;rw[zP .a];exact a
def BU:X9 nt An:=λd S G b f e j x h a=>by
 rcases d with _|⟨_,_⟩
 .cases e;exact a
 cases e
theorem BV(l:GK nt t)(m:X9 nt u):X9 nt (Ab t u):=λd S G i h e j x k n=>by
 rcases d with _|⟨a,r⟩
 .cases e
 have b:(t a S G).bind (λi h=>u r i h)=.ok i h:=e;cases f:t a S G with
 |ok p o=>rw[f]at b;exact m _ _ _ _ _ b j x k (l _ _ _ _ _ f j x k n)
 |_=>rw[f]at b;cases b
theorem BW(h:X9 nt t):GK nt (Am n t):=λd S G k f e j x a b=>by
 cases d with
 |tup i=>
  unfold Am at e;dsimp only at e;split at e
  .exact h _ _ _ _ _ e j x a b
  cases e
 |_=>cases e
theorem BX(h:out E a .BI Q):
  Fv E a r (λi H=>PR3 a H r i YH λb S G=>out E b (f S G) Q):=by
 cases r with
 |ok d G=>exact λb v x s q=>#[b,d,G,rfl,x,s,q,rfl,out.mono x h]
 |_=>exact h
def R.bind_assoc{b d e:Type}(r:R b)(f)(g:d->DH->R e):(r.bind f).bind g=r.bind λa G=>(f a G).bind g:=by cases r<;>rfl
theorem fJ(h:out E a .BI Q):
  outI E a r (λJ H=>PR3 a H r J WS λb d G=>out E b (f d G) Q):=by
 cases r with
 |ok d G=>exact λb v x s q=>#[b,d,G,rfl,x,s,q,rfl,out.mono x h]
 |_=>exact h
section
variable{prog:xG}{w:xN}{A:xC}{R':Result->xI->Prop}{s:xI}
def CItem(prog:xG)(w:xN)(A:xC)(target elt:xD)(ifs:List xD)(acc:xM)(env:Env)(P:xI->Prop)(v:xM)(s:xI):Prop:=
 vA .AC A (assign target env v) (λ_ s₂=>
  vA .AC A (forIn ifs u9 λc r=>if r=u9 then do let ok<-isTrue c env (eval c env);pure (ForInStep.yield ok)else pure .F0) (λok s₃=>
   if ok=u9 then vA .AC A (eval elt env) (λx s₄=>vA .AC A (call (.builtin "list.append") [acc,x]) (λ_ s₅=>P s₅) (λ_ _=>False) s₄) (λ_ _=>False) s₃
   else P s₃) (λ_ _=>False) s₂) (λ_ _=>False) s
def CTurn(prog:xG)(w:xN)(A:xC)(target elt:xD)(ifs:List xD)(it acc:xM)(env:Env)(R' P:xI->Prop)(s:xI):Prop:=
 vA .AC A (pyNext it) (λr s₁=>match r with
  |none=>R' s₁
  |some v=>vA .AC A (vK target it v) (λ_ s₁=>CItem prog w A target elt ifs acc env P v s₁) (λ_ _=>False) s₁) (λ_ _=>False) s
theorem BY(I:Nat->xI->Prop)
  (i:∀n s,I n s->CTurn prog w A target elt ifs it acc env (R' .EA) (λs'=>∃m,m<n/\I m s') s)
  (n) (h:I n s):
  codeAny .AC A (.compLoop (.ListComp elt [#[target,iter,ifs,0]] scope pos) 0 it acc env) R' s:=by
 refine codeAny_loop rfl I (λn s u=>?_) n h
 show vA _ A ((compTurn (.ListComp elt [#[target,iter,ifs,0]] scope pos) 0 it acc env).onRaise (λx=>do noteFrame x env;theTreesLotGoes x)) _ _ s
 refine wpAny_noted ?_;rw[compTurn_list];refine vH ?_ (λ_ _ q=>q) (λ_ _(f:False)=>f.elim);refine vC (wpAny_standAt (vC (vH (i n s u) (λr p a=>?_) λ_ _ b=>b)));rcases r with _|v
 .exact vM a
 refine vC (vH a (λ_ k a=>?_) λ_ _ b=>b);refine vC (vH a (λ_ l j=>vC (vH j (λok s₃ h₃=>?_) λ_ _ b=>b)) λ_ _ b=>b);cases ok with
 |false=>exact vM #[rfl,h₃]
 |true=>
  exact vC (vC (vH h₃ (λx o d=>vC (vH d (λ_ t e=>vM (vM #[rfl,e])) λ_ _ b=>b)) λ_ _ b=>b))
end
def U1(X:Cx)(E:XK)(ifs:List xD)(t:DB):Prop:=
 ∀(vT:List (xB×Obj))(s:xI)(σ:St)(H:Hp)(Q:Bool->Hp->Prop),Inv X vT σ H s->lB X.K E t σ H Q->
  vA .AB X.A (forIn ifs u9 λc r=>if r=u9 then do let ok<-isTrue c X.env (eval c X.env);pure (ForInStep.yield ok)else pure .F0) (TP X vT σ Q) X.xe s
def Hw:U1 X E [] Ai:=λb s e H Q I h=>by let#[a,S,G,hk,rfl,d,r,h]:=h;exact wpAny_tests_nil #[a.H,I,h a .AG d]
def BZ(d:QT X E c t):U1 X E [c] t:=λa s b H Q I h=>wpAny_tests_one (d a s b H Q I h)
section
variable{X:Cx}{E:XK}{N:List Str}{scope:xH}{nt:Nat}{caps:List Nat}{tg elt iter:xD}{ifs:List xD}{pos:Pos}{it:DI}{g:DG}{c:DB}{te:DE}
def B0(r:YH a S σ):YH a .AY (zK nt u8++caps.map λj=>(σ[j]?).join):=by
 refine#[by simp[Al],λi d h=>?_];unfold Al at h;by_cases f:i<nt
 .rw[zE (by simpa using f),jw]at h
  split at h<;>cases h
 rw[zM (by simpa using f),zG]at h;rw[zM (by simpa using f),zG];rw[jV]at h⊢;rcases e:caps[i-nt]? with _|j
 .rw[e]at h;cases h
 rw[e]at h;have b:(S[j]?).join=u7 d:=by simpa using h
 have l:S[j]?=u7 (u7 d):=by
  cases q:S[j]? with
  |none=>rw[q]at b;cases b
  |some o=>
   rw[q]at b;have k:o=u7 d:=b;rw[k]
 let#[v,m,n]:=r.get j d l;exact#[v,by simp[m],n]
def B3(h:(Al nt caps S)[i]?=u7 (u7 d)):nt<=i:=by
 unfold Al at h;by_cases a:i<nt
 .rw[zE (by simpa using a),jw]at h
  split at h<;>cases h
 lia
def am(hc:X.calm=u9)(cs:YL X N t nt caps)
  (hg:∀C s₀ H₀ ex,QG .Db E0 tg g) (gk:GK nt g) (hts:∀C s₀ H₀ ex,U1 .Db E0 ifs c) (he:∀C s₀ H₀ ex,QE .Db E0 elt te)
  {vT:List (xB×Obj)} {σ:St} {s:xI} {a:Wd} {S:ZK} {G:DH} {J:It} {n0:Nat} {f:Nat->DH->Option .CE} {i0:xB} {fp:List xB} {tn:Nat->Heap->Prop} (I:Inv X vT σ a.H s) (hk:a.K=X.K) (sm:XF a G) (rS:YH a S σ)
  (T:Turn X.prog X.w X.K tg J fp i0 tn) (t0:tn 0 s.heap) (hf:∀b∈fp,ZQ X vT a.H b) (rJ:WS a (.fn n0 f) J) {Q:VK}
  (h:out E0 a ((By f g c te .AY n0 0 G).bind Aq) Q)
  {RR:xM->xB->Result->xI->Prop} {E':xM->xI->Prop}
  (hRR:∀(D C:xB)s'(b:Wd)vs,Inv X vT σ .Jq s'->b.H D=u8->s.heap.objs.size<=C->D≠C->(∃m,s'.heap.Ns C m)->b.H C=u8->Q .G6 .Jq->RR .G6 C .EA s'):
  vA .AB X.A (newList []) (λF s₃=>vA .AB X.A (newFunctionEnv t X.env.globals (Fe X.env t.names []) [] X.env.qual u8 .none (u7 X.env)) (λcenv s₄=>
   codeAny .AB X.A (.compStart (.ListComp elt [#[tg,iter,ifs,0]] t pos) 0 .GJ F {cenv with scope:=relabel t X.env}) (RR F cenv.locals) s₄) E' s₃) E' s:=by
 refine vI (wpAny_newFunctionEnv cs.nocell (by intro y hy;simp at hy) (λh₁ D? W=>?_) cs.kind);dsimp only at D? W⊢;generalize hH2:s.heap.push {cls:=.type "list",dict:=u8,data:=.seq ([]:List xM).toArray}=H2 at D? W⊢;have hC:H2.objs.size=s.heap.objs.size+1:=by rw[<-hH2,qI]
 have hDC:s.heap.objs.size≠H2.objs.size:=by rw[hC];exact qQ (qA _)
 have hCle:s.heap.objs.size<=H2.objs.size:=hC▸jG _;have fpOld:∀b∈fp,b<s.heap.objs.size:=λb hb=>by let#[o,e,_]:=T.obj 0 _ t0 b hb;exact zA e
 have hDf:s.heap.objs.size∉fp:=λhm=>q7 _ (fpOld _ hm)
 have hCf:H2.objs.size∉fp:=λhm=>by have:=fpOld _ hm;rw[hC]at this;exact q7 _ (Nat.lt_of_succ_lt this)
 have old:∀b o,s.heap.get? b=u7 o->h₁.get? b=u7 o:=λb o e=>
  W.extBut b o (by rw[hC];exact qQ .Kg) (zQ _ (hH2▸zQ _ e))
 have hacc:h₁.PlainList s.heap.objs.size ([]:List xM).toArray:=#[_,W.extBut _ _ hDC (zQ _ (hH2▸zD _ rfl))];generalize hCe:H2.objs.size=C at*;generalize hDe:s.heap.objs.size=M at*;let B:=WX X N t C s a.H fp;have okB:=BR cs I hf (hDe▸hCle) hCf;let σ0:St:=.replicate nt u8++caps.map λj=>(σ[j]?).join
 have start:∀tk,Inv B [] σ0 a.H {s with heap:=h₁,toks:=tk}:=λtk=>by
  refine#[okB,rfl,I.bare,Un.kept old,#[_,D?,λi x v e1 e2 e3=>?_],λx d' e=>?_,I.VF.fresh (hDe▸hCle),λx d' e=>?_,λp hp=>?_,I.VF.kept old,?_]
  .have hi:nt<=i:=by
    by_cases hi:i<nt
    .have e2':=e2;rw[zE (by simpa using hi),jw]at e2'
     split at e2'<;>cases e2'
    lia
   have e2':=e2;rw[zM (by simpa using hi),zG,jV]at e2';rcases ej:caps[i-nt]? with _|j
   .rw[ej]at e2';cases e2'
   rw[ej]at e2';have h1:(σ[j]?).join=u7 v:=by simpa using e2'
   have h2:σ[j]?=u7 (u7 v):=by
    cases q:σ[j]? with
    |none=>rw[q]at h1;cases h1
    |some o=>
     rw[q]at h1;have h1':o=u7 v:=h1;rw[h1']
   let#[y,ey,en,ek]:=cs.cap (i-nt) j ej;have exy:x=y:=by
    have:nt+(i-nt)=i:=.a
    rw[this]at en;have e1':N[i]?=u7 x:=e1;rw[e1']at en;exact w4 en
   subst exy;have kx:=cs.free (x,.free) (zf ek) rfl;have vis:Vis X.env.scope x:=by
    rcases kx with kx|kx
    .exact .inr (.inl kx)
    exact .inr (.inr kx)
   let#[m,hn,hl]:=I.loc;let#[u,ru,lk]:=hl j x v ey h2 vis;refine#[u,ru,?_];rcases lk with⟨k1,_⟩|⟨k1,c1,ec,hcell⟩
   .rcases kx with kx|kx
    .rw[k1]at kx;cases kx
    rw[k1]at kx;cases kx
   refine .inr #[?_,c1,?_,?_]
   .show(relabel t X.env).names.lookup x=u7 .cell\/(relabel t X.env).names.lookup x=u7 .free;simp only[fH,ek,jR];split
    .exact .inl rfl
    exact .inr rfl
   .let#[d1,hd1]:=Wh (.inl (zf ek));let#[d2,hd2]:=ak hd1;have:=cs.cl I.ok hd2;rw[ec]at this;cases this;exact hd2
   .let#[o,e,dd]:=hcell;exact#[o,old _ _ e,dd]
  .let#[v,o,e',dd]:=I.cell x d' .FN;exact#[v,o,old _ _ e',dd]
  .exact I.Jj x d' .FN
  .exact absurd hp (by simp[B,WX])
  show σ0.length=N.length;simp[cs.len,σ0]
 have young:∀b∈fp,b≠C:=λb hb z=>hCf (z▸hb)
 have fpB:∀{H':Hp}{ps:List (xB×Obj)},(∀b∈fp,H' b=u8)->(∀p∈ps,p.1∉fp)->∀b∈fp,ZQ B ps H' b:=λ{H' ps}hn hps b hb=>
  #[hn b hb,young b hb,okB.Y? b hb,.inl hb,λx d' e=>(hf b hb).2.2.2.2.1 x d' .FN,λp hp z=>by exact hps p (by simpa[B,WX]using hp) (z▸hb)]
 have nstk:M∉frs X.stack:=λz=>by
  rcases zj.mp (I.Xe M z)with z|z
  .have:=I.lt;rw[hDe,<-z]at this;exact q7 _ this
  exact I.nofs (hDe▸zX _) z
 have pinD:∀{L:St}{H':Hp}{s':xI}{l:List xM}{nD:Nat},Inv B [] L H' s'->s'.heap.get? M=u7 {cls:=.type "list",data:=.seq l.toArray nD}->H' M=u8->Inv B [(M,{cls:=.type "list",data:=.seq l.toArray nD})] L H' s':=λ{L H' s' l nD}J e n=>
  J.Lr λp hp=>by
   have ep:p=(M,{cls:=.type "list",data:=.seq l.toArray nD}):=by simpa using hp
   subst ep;exact#[e,n,hDC,nstk,λv' z=>by cases z]
 have fin:∀s' b L l U G',Inv B [] L b.H s'->Ext a b->XF b G'->s'.heap.PlainList M l.toArray->b.H M=u8->(∃vs,Vals vs l/\YA b U vs)->out E0 b (Aq U G') Q->RR .Ek C .EA s':=by
  intro s' b L l U G' IB x sb pl hD #[vs,hv,rv] hq;have hz:U.length<=1000000:=by
   unfold Aq at hq;split at hq
   .assumption
   exact hq.elim
  let#[n,eD]:=pl;have ylt:∀{q:xB}{o:Obj},s.heap.get? q=u7 o->q≠M:=λe z=>by rw[z,<-hDe]at e;exact absurd .Bb .CS
  have Ia:Inv X vT σ (upd b.H M .A5) s':=by
   refine ai (I.call' IB.os IB.base IB.VF IB.bare λb hb=>#[(hf b hb).2.2.2.1,(hf b hb).2.1,(hf b hb).2.2.2.2.1,(hf b hb).2.2.2.2.2]) hD (by rw[<-hDe];exact I.sz) ?_ (λy c' ec=>?_) (λp hp=>?_) #[?_,l,n,hv,eD]
   .rw[<-hDe];exact j3 I.lt
   .let#[v,o,e,_]:=I.cell y c' ec;exact ylt e
   .exact ylt (I.pin p hp).1
   rw[<-rv.length];exact zx hz WH
  refine hRR M C s' b vs Ia hD hCle hDC (let#[m,hn,_]:=IB.loc;#[m,hn]) IB.free ?_;unfold Aq at hq;rw[if_pos hz]at hq;exact Ji sb rv hq M hD
 have turnX:∀P(rest:DH->R .DT)s1 b G1 σ1 l F u v x i,Inv B [] σ1 b.H s1->Ext a b->XF b G1->YH b .AY σ1->tn i s1.heap->(∀q∈fp,b.H q=u8)->
   s1.heap.PlainList M l.toArray->b.H M=u8->(∃vs,Vals vs l/\YA b F vs)->RelV v u->VG b x v->
   out E0 b (((g x .AY G1).bind λS1 G1=>(c S1 G1).bind λk G2=>if k=u9 then(te S1 G2).bind λd G3=>(rest G3).bind λU G4=>.ok (d::U) G4 else rest G2).bind λU G=>Aq (F++U) G) Q->
   (∀s2 b2 G2 Z its2 acc2,Inv B [] Z b2.H s2->Ext a b2->XF b2 G2->YH b2 .AY Z->tn i s2.heap->(∀q∈fp,b2.H q=u8)->
    s2.heap.PlainList M its2.toArray->b2.H M=u8->(∃vs,Vals vs its2/\YA b2 acc2 vs)->out E0 b2 ((rest G2).bind λU G=>Aq (acc2++U) G) Q->P s2)->
   CItem X.prog X.w X.A tg elt ifs .Ek B.env P u s1:=by
  intro P rest s1 b G1 σ1 l F u v x i I1 x1 sb rSb t1 hfp pl hD hacc' ru rx hq next
  rw[R.bind_assoc]at hq;let#[nD,eD]:=id pl;let pinD:List (xB×Obj):=[(M,{cls:=.type "list",data:=.seq l.toArray nD})];have pinOk:∀{L:St}{H':Hp}{s':xI},Inv B (pinD++Qc fp s1.heap) L H' s'->s'.heap.PlainList M l.toArray/\H' M=u8/\tn i s'.heap/\∀q∈fp,H' q=u8:=λ{L H' s'}J=>by
   have p1:=J.pin (M,{cls:=.type "list",data:=.seq l.toArray nD}) (qZ _ (jD _ (by simp[pinD])));refine#[#[nD,p1.1],p1.2.1,T.keep _ _ _ t1 λq O o e=>(J.pin (q,o) (qZ _ (qZ _ (Vu O e)))).1,λq O=>?_];let#[o,e,_]:=T.obj _ _ t1 q O;exact(J.pin (q,o) (qZ _ (qZ _ (Vu O e)))).2.1
  have I2:Inv B (pinD++Qc fp s1.heap) σ1 b.H s1:=I1.Lr λp hp=>by
   rcases qW.mp hp with hp|hp
   .have e:p=(M,{cls:=.type "list",data:=.seq l.toArray nD}):=by simpa[pinD]using hp
    subst e;exact#[eD,hD,hDC,λz=>(nstk z),λv' z=>by cases z]
   let#[hb,e]:=dm hp;let#[f0,f1,f2,_]:=fpB (ps:=[]) hfp (λp hp=>by cases hp) p.1 hb;let#[o,e',dd]:=T.obj _ _ t1 p.1 hb;rw[e]at e';cases e';exact#[e,f0,f1,f2,dd]
  refine ZD (hg C s a.H fp _ s1 σ1 b.H v u _ I2 ru #[b,Al nt caps S,G1,x,x1.k.trans hk,rfl,sb,rSb,rx,(BX hq).imp λ_ _ z=>z]) ?_;rintro _ s2 ⟨Z,H2',J2,b2,S2,G2,rfl,y2,sb2,rS2,eg,hq2⟩;rw[R.bind_assoc]at hq2;have rS2':YH b2 .AY Z:=#[by rw[rSb.len,I1.len];exact J2.len.symm,λj e' hj=>rS2.get j e' (gk _ _ _ _ _ eg j e' (B3 hj) hj)]
  refine ZD (hts C s a.H fp _ s2 Z b2.H _ J2 #[b2,S2,G2,y2.k.trans .HW,rfl,sb2,rS2,(eR hq2).imp λ_ _ z=>z]) ?_;rintro k s3 ⟨H3,J3,b3,G3,rfl,y3,sb3,_,hq3⟩;rcases k with _|_
  .let#[p1,p2,p3,p4]:=pinOk J3;let#[vs,hv,rv]:=hacc'
   exact next s3 b3 G3 Z l F (J3.Lr λp hp=>by cases hp) (x1.trans (y2.trans y3)) sb3 (rS2'.mono y3) p3 p4 p1 p2 #[vs,hv,(rv.mono y2).mono y3] hq3
  have hq3':out E0 b3 (((te S2 G3).bind λd G3=>(rest G3).bind λU G4=>.ok (d::U) G4).bind λU G=>Aq (F++U) G) Q:=hq3;rw[R.bind_assoc]at hq3';refine ZD (he C s a.H fp _ s3 Z b3.H _ J3 #[b3,S2,G3,y3.k.trans (y2.k.trans .HW),rfl,sb3,rS2.mono y3,(Er hq3').imp λ_ _ z=>z]) ?_;rintro w s4 ⟨vw,H4,J4,rw',b4,d4,G4,rfl,y4,sb4,q4,_,hq4⟩;let#[p1,p2,p3,p4]:=pinOk J4;rw[R.bind_assoc]at hq4;have Y:out E0 b4 ((rest G4).bind λU G=>Aq ((F++[d4])++U) G) Q:=by
   have e:(λU G=>(R.ok (d4::U) G).bind λU G=>Aq (F++U) G)=λU G=>Aq ((F++[d4])++U) G:=by funext U G;simp
   rw[<-e];exact hq4
  let#[vs,hv,rv]:=hacc';have UX:l.toArray.size<=sizeLine:=by
   have:F.length<=1000000:=by
    cases hr:rest G4 with
    |ok U G5=>
     rw[hr]at Y;have hq5:out E0 b4 (Aq ((F++[d4])++U) G5) Q:=Y;unfold Aq at hq5;split at hq5
     .rename_i hl;simp at hl;lia
     exact hq5.elim
    |err e' G5=>rw[hr]at Y;exact(Y.1 rfl).elim
    |bad=>rw[hr]at Y;exact Y.elim
   rw[z0,<-hv.length,<-rv.length];exact zx this WH
  refine wpAny_list_append_plain p1 (λh' hpl hsb=>?_) UX;have J5:Inv B [] Z b4.H {s4 with heap:=h'}:=by refine(J4.Lr λp hp=>by cases hp).turned (λq o O e=>(hsb.2 q O).trans e) p2 hDC (.inr (by show s.heap.objs.size<=M;rw[hDe];exact zX _)) (λy c' ec=>?_) (λp hp=>absurd hp (by simp[WX]));let#[v',o,e,_]:=I.cell y c' (cs.cl I.ok ec);intro z;rw[z,<-hDe]at e;exact absurd .Bb .CS
  refine next _ b4 G4 Z (l++[w]) (F++[d4]) J5 (x1.trans (y2.trans (y3.trans y4))) sb4 ((rS2'.mono y3).mono y4) (T.keep _ _ _ p3 λq O o e=>(hsb.2 q (λz=>hDf (z▸O))).trans e) p4 (by simpa using hpl) p2 #[vs++[vw],hv.append (.cons rw' .nil),(((rv.mono y2).mono y3).mono y4).append (.cons q4 YA.nil)] Y
 have loop:∀s₃,s₃={s with heap:=h₁,toks:=s.toks+([]:List (Str×xM)).length}->
   codeAny .AB X.A (.compLoop (.ListComp elt [#[tg,iter,ifs,0]] t pos) 0 .GJ .Ek B.env) (RR .Ek C) s₃:=by
  rintro s₃ rfl;have walk:=rJ;obtain⟨Iv,hIv⟩:∃Iv:Nat->xI->Prop,∀m s',Iv m s'↔∃i b G' L l F,Inv B [] L b.H s'/\Ext a b/\XF b G'/\YH b .AY L/\tn i s'.heap/\(∀q∈fp,b.H q=u8)/\s'.heap.PlainList M l.toArray/\b.H M=u8/\(∃vs,Vals vs l/\YA b F vs)/\out E0 b ((By f g c te .AY m i G').bind λU G=>Aq (F++U) G) Q:=#[_,λ_ _=>Iff.rfl];refine BY Iv (λm s' h'=>?_) n0 ((hIv _ _).2 #[0,a,G,σ0,[],[],start _,Ext.refl a,sm,B0 rS,T.keep _ _ _ t0 λq _ o e=>old q o e,λq hq=>(hf q hq).1,hacc,I.VF.fresh (hDe▸zX _),#[[],.nil,rfl],by simpa using h])
  let#[i,b,G',L,l,F,IB,x,sb,rSb,ti,hfp,pl,hD,hac,hq]:=(hIv _ _).1 h';clear h';let#[nD,eD]:=pl;have I0:=pinD IB eD hD;have f0:=fpB (ps:=[(M,{cls:=.type "list",data:=.seq l.toArray nD})]) hfp (λp hp=>by
   have ep:p=(M,{cls:=.type "list",data:=.seq l.toArray nD}):=by simpa using hp
   subst ep;exact hDf)
  have stop:J.stop i b.H->out E0 b (Aq F G') Q->∀P,CTurn X.prog X.w X.A tg elt ifs .GJ .Ek B.env (RR .Ek C .EA) P s':=by intro st O P;refine ZD (T.done B rfl rfl rfl hc i _ s' L b.H _ I0 f0 ti st) ?_;rintro r s1 ⟨rfl,I2⟩;have pD:=(I2.pin (M,{cls:=.type "list",data:=.seq l.toArray nD}) (qZ _ .d)).1;exact fin s1 b L l F G' (I2.Lr λp hp=>by cases hp) x sb #[nD,pD] hD hac O
  rcases m with _|m
  .unfold By at hq;split at hq
   .rename_i hf;exact stop ((walk b x G' sb i).2 hf) (by have O:out E0 b (Aq (F++[]) G') Q:=hq;rw[qH]at O;exact O) _
   exact hq.elim
  unfold By at hq;split at hq
  .rename_i d1 hf;let#[go,yl]:=(walk b x G' sb i).1 d1 hf;refine ZD (T.item B rfl rfl rfl hc i _ s' L b.H _ I0 f0 ti go) ?_;rintro r s1 ⟨u,rfl,hgo⟩;refine ZD hgo ?_;rintro _ s2 ⟨v,H',I2,ru,y,t2,hfp2⟩;let#[cc,rfl,xx,ss,rd]:=yl v H' y;have pD:=I2.pin (M,{cls:=.type "list",data:=.seq l.toArray nD}) (qZ _ .d);let#[vs1,hv1,rv1]:=hac;refine turnX _ (λG3=>By f g c te .AY m (i+1) G3) s2 cc G' L l F u _ d1 (i+1) (I2.Lr λp hp=>by cases hp) (x.trans xx) ss (rSb.mono xx) t2 hfp2 #[nD,pD.1] pD.2.1 #[vs1,hv1,rv1.mono xx] ru rd (out.mono xx hq) ?_
   intro s3 b3 G3 σ3 its3 acc3 a1 a2 a3 a4 a5 a6 a7 a8 a9 a10;exact#[m,qA _,(hIv _ _).2 #[i+1,b3,G3,σ3,its3,acc3,a1,a2,a3,a4,a5,a6,a7,a8,a9,a10]]
  .rename_i hf;exact stop ((walk b x G' sb i).2 hf) (by have O:out E0 b (Aq (F++[]) G') Q:=hq;rw[qH]at O;exact O) _
  exact hq.elim
 exact codeAny_compStart_list (loop _ rfl) (T.self _ 0 _ _ _ (T.keep _ _ _ t0 λq _ o e=>old q o e) (loop _ rfl))
theorem ao{g:DG}{c:DB}{b:DE}{S:ZK}{xs:List D}:∀n j G,j+n=xs.length->Bj g c b S .E7 G=By (λj _=>u7 xs[j]?) g c b S n j G
 |0,j,G,h=>by
  rw[qY .a]
  show _=(match u7 xs[j]? with |some u8=>R.ok [] G|_=>.bad)
  rw[zy .a]
  rfl
 |n+1,j,G,h=>by
  have a:j<xs.length:=.a
  rw[zH a]
  show(g xs[j] S G).bind _=(match u7 xs[j]? with |some .FI=>_|some u8=>R.ok [] G|none=>.bad)
  rw[zJ a];dsimp only
  congr 1
  funext l i
  congr 1
  funext k f;rw[ao n (j+1) f .a]
  congr 1
  congr 1
  funext d e;rw[ao n (j+1) e .a]
theorem fK{g:DG}{c:DB}{a:DE}:∀n j G,Ek i g c a S n j G=By (mtF i) g c a S n j G
 | 0,j,G=>by
  unfold Ek By mtF;rcases G[i]? with _|o
  .rfl
  cases o with
  |lst b=>
   dsimp only;by_cases d:j<b.length
   .rw[if_neg .a,zJ d]
   rw[if_pos .a,zy .a]
  |_=>rfl
 | n+1,j,G=>by
  have e:(Ek i g c a S n (j+1))=By (mtF i) g c a S n (j+1):=funext λG=>fK n (j+1) G
  unfold Ek By;rw[e];unfold mtF;rcases G[i]? with _|o
  .rfl
  cases o with
  |lst b=>
   dsimp only
   cases b[j]?<;>rfl
  |_=>rfl
def fL(hc:X.calm=u9)(cs:YL X N scope nt caps)
  (hg:∀C s₀ H₀ ex,QG .Cv E0 tg g) (gk:GK nt g) (hts:∀C s₀ H₀ ex,U1 .Cv E0 ifs c) (he:∀C s₀ H₀ ex,QE .Cv E0 elt te)
  {vT:List (xB×Obj)} {σ:St} {s:xI} {a:Wd} {S:ZK} {G:DH} {J:It} {d:ItD} {i0:xB} {fp:List xB} {tn:Nat->Heap->Prop} (I:Inv X vT σ a.H s) (hk:a.K=X.K) (sm:XF a G) (rS:YH a S σ)
  (T:Turn X.prog X.w X.K tg J fp i0 tn) (t0:tn 0 s.heap) (hf:∀b∈fp,ZQ X vT a.H b) (rJ:WS a d J) {Q:VK}
  (h:out E0 a ((match d with
   |.pure xs=>Bj g c te .AY xs G
   |.mt i=>match G[i]? with
    |some .AI=>Ek i g c te .AY xs.length 0 G
    |_=>.bad
   |.fn n f=>By f g c te .AY n 0 G).bind Aq) Q)
  {RR:xM->xB->Result->xI->Prop} {E':xM->xI->Prop}
  (hRR:∀(D C:xB)s'(b:Wd)vs,Inv X vT σ .Jq s'->b.H D=u8->s.heap.objs.size<=C->D≠C->(∃m,s'.heap.Ns C m)->b.H C=u8->Q .G6 .Jq->RR .G6 C .EA s'):
  vA .AB X.A (newList []) (λacc s₃=>vA .AB X.A (newFunctionEnv scope X.env.globals (Fe X.env scope.names []) [] X.env.qual u8 .none (u7 X.env)) (λcenv s₄=>
   codeAny .AB X.A (.compStart (.ListComp elt [#[tg,iter,ifs,0]] scope pos) 0 .GJ acc {cenv with scope:=relabel scope X.env}) (RR acc cenv.locals) s₄) E' s₃) E' s:=by
 rcases d with xs|k|⟨n0,f⟩
 .have h':out E0 a ((Bj g c te .AY (xs.drop 0) G).bind Aq) Q:=h;rw[ao xs.length 0 G .a]at h';exact am hc cs hg gk hts he I hk sm rS T t0 hf (eh rJ) h' hRR
 .dsimp only at h;split at h
  .rename_i xs hx;rw[fK]at h;exact am hc cs hg gk hts he I hk sm rS T t0 hf (eo rJ) h hRR
  exact h.elim
 exact am hc cs hg gk hts he I hk sm rS T t0 hf rJ h hRR
end
section
variable{X:Cx}{N:List Str}{scope:xH}{nt:Nat}{caps:List Nat}{tg elt iter:xD}{ifs:List xD}{pos:Pos}{it:DI}{g:DG}{c:DB}{te:DE}
def letGo{vT:List (xB×Obj)}{l:St}{H:Hp}{j s':xI}{h':Heap}{C:xB}{t':Nat}{i:St}{t:Hp}(f:Inv X vT i t j)(u:Inv X vT l H s')(h:j.heap.objs.size<=C)(n:H C=u8)(k:qR C s'.heap h'):Inv X vT l H {s' with heap:=h',toks:=t'}:=by
 have a:∀{b:xB}{o:Obj},j.heap.get? b=u7 o->b≠C:=λe z=>by rw[z]at e;exact absurd (zY .Bb h) .CS
 refine u.turned (λb o r e=>(k.2 b r).trans e) n (j3 (zY f.lt h)) (.inr (zx f.sz h)) (λx s e=>?_) λp hp=>(a (f.pin p hp).1)
 .let#[v,o,q,_]:=f.cell x s e;exact a q
def J1(L:X.calm=u9)(cs:YL X N scope nt caps)(U:QI X E0 tg iter it)
  (F:∀C e f i,QG .DJ E0 tg g) (A:GK nt g) (n:∀C e f i,U1 .DJ E0 ifs c) (M:∀C e f i,QE .DJ E0 elt te)
  (K:∀x,foldedSetIterable iter X.env x=pure x:=by rfl'):QE X E0 (.ListComp elt [#[tg,iter,ifs,0]] scope pos) (Bk it nt caps g c te):=by
 intro j s O H Q I h;let#[a,S,G,hk,rfl,Y,r,h]:=h;refine wpAny_comprehension_free rfl K (fG .HX) cs.kind cs.names (ZD (U j s O a.H _ I #[a,S,G,hk,rfl,Y,r,(fJ h).imp λ_ _ z=>z]) λxv s1 o=>ZD o λw s2 y=>?_);let#[i0,fp,tn,J,H2,rfl,u,T,P,B,b,d,G1,rfl,x,W,Z,_,o]:=y;refine fL L cs F A n M u .A3 W .HU T P B Z o ?_;intro D C s' b vs Ia hD l p #[m,v] t E;refine#[m,v,λh' q=>#[.ref D,_,letGo u Ia l ?_ q,rfl,E]]
 rw[Aw (.symm p)];exact t
def fM(i){y:Str}{U n:Pos}(hc:X.calm=u9)(hN:X.N.Nodup)(cs:YL X N scope nt caps)(hi:QI X E0 tg iter it)
  (hg:∀C f j t,QG .DK E0 tg g) (gk:GK nt g) (A:∀C f j t,U1 .DK E0 ifs c) (he:∀C f j t,QE .DK E0 elt te)
  (hy:X.N[i]?=u7 y:=by rfl) (hx:Loc X.env.scope y:=by rfl') (hf:X.fn y=u9\/X.env.scope.names.lookup y=u7 .local:=by rfl')
  (Q:swapsWith (.ListComp elt [#[tg,iter,ifs,0]] scope pos) (u7 (.Name y U)) n.line X.env=pure u9:=by rfl)
  (hs:∀x,foldedSetIterable iter X.env x=pure x:=by rfl'):QS X E0 (.Assign [.Name y U] (.ListComp elt [#[tg,iter,ifs,0]] scope pos) n) (VJ .E8 .GH):=by
 intro u s σ H W I h;let#[a,S,G,hk,rfl,sm,r,h]:=h;have h0:=Gm h;rw[exec_Assign_Name_used _ _ _ _ Q];refine vC (wpAny_standAt (vC ?_));refine vC (vH (wpAny_comprehension_free rfl hs (fG .HX) cs.kind cs.names
  (ZD (hi u s σ a.H _ I #[a,S,G,hk,rfl,sm,r,(fJ h0).imp λ_ _ z=>z]) λxv s1 F=>ZD F λitv s2 h2=>?_)) (λ_ s' K=>vM (vM K)) λ_ _ e=>e)
 let#[i0,fp,tn,J,H2,rfl,w,T,t0,f2,b,d,G1,rfl,x,sb,rJ,_,F]:=h2;refine fL hc cs hg gk A he w .A3 sb .HU T t0 f2 rJ F ?_;intro D C s' b' vs Ia hD l M #[m,Z] P K;refine wpAny_assign_Name (dj Ia hN hy hx (v:=.ref D) rfl (λs'' B E=>?_) hf);let#[a',q,p]:=E;have L:C≠a':=by
  rintro rfl;rcases p with rfl|p
  .exact absurd (zY w.lt l) .CS
  let#[v,o,e',_]:=w.cell _ _ p;exact absurd (zY (zA e') l) .CS
 refine#[m,Z.sameBut q L,λh' O=>#[_,_,letGo w B l ?_ O,?_]]
 .rw[Aw (.symm M)];exact P
 let#[Y,d3,G3,e3,x3,s3,q3,_,h3]:=K;rw[<-e3];exact h3 Y _ (.refl Y) s3 ((r.mono x3).set i q3)
end
def Ob:D->DH->R D
 |.int i,G=>.ok (.int (-i)) G
 |_,_=>.bad
def Js:D->Bool
 |.WB=>u9
 |_=>uA
def Fl:D->D->DH->R D
 |d,.WB,G=>.ok (.bl (Js d)) G
 |_,_,_=>.bad
def Kr:D->D->DH->R D
 |d,.WB,G=>.ok (.bl (!Js d)) G
 |_,_,_=>.bad
def Mm:D->Option V
 |.WB=>u7 .WB
 |.bl b=>u7 .Dw
 |.int i=>u7 .AM
 |.str x=>u7 .Af
 |_=>u8
def Ko:List D->Option (List V)
 |[]=>u7 []
 |d::r=>match Mm d,Ko r with
  |some v,u7 vs=>u7 (v::vs)
  |_,_=>u8
def inD(d e:D)(G:DH):Option Bool:=match e with
 |.str j=>match d with
  |.str i=>u7 (!(zc j i 0 j.length 1).isEmpty)
  |_=>u8
 |e=>match Bf e G,Mm d with
  |some xs,u7 v=>(Ko xs).map λvs=>inV v vs
  |_,_=>u8
def Fd(d e:D)(G:DH):R D:=match inD d e G with
 |some k=>.ok .Ge G
 |none=>.bad
def Kv(d e:D)(G:DH):R D:=match inD d e G with
 |some k=>.ok (.bl (!k)) G
 |none=>.bad
section
variable{X:Cx}{E:XK}{a b:xD}{ta tb:DE}{pos:Pos}
theorem B4:Y2 X .HR (lR1 X.K E Ob):=λc s f H x v Q I g h=>by
 let#[a,G,d,hk,rfl,j,e,q]:=h;cases d with
 |int i=>exact uI c s f a.H x v Q I g #[i,e,q a _ .AG j rfl]
 |_=>exact q.elim
def B5(ho:Y2 X (unaryOp op) (lR1 X.K E f))(g:QE X E a ta):QE X E .Fz (dUn f ta):=(uD ho g).mono λj H Q h=>by let#[a,S,G,hk,rfl,s,r,h]:=h;refine#[a,S,G,hk,rfl,s,r,(Er h).imp ?_];rintro v _ ⟨b,d,c,rfl,x,i,q,-,e⟩;exact#[b,c,d,x.k.trans hk,rfl,i,q,e]
def B6(d:Gl X x)(f:X.mg x=u8)(e:vQ x=u7 (.type n))(c:x≠"__name__":=by decide)(g:(x==("__debug__":Str))=uA:=by decide):QE X E .As (dC (.ty n)):=
 (sd (v:=.ty n) d f e rfl c g).mono λi H Q h=>Qg h λ_ _=>rfl
theorem fN{a:Wd}(c:VG a d x):decide (x=V.WB)=Js d:=by
 cases d with
 |tup _|fl _=>let#[p,e,rfl,_]:=c;rfl
 |ref _=>rw[c.2];rfl
 |_=>rw[c];rfl
theorem Zs:ZF X (vX .Is) (XO X.K E Fl):=Gn uR λa G d e x y Q hk s c f q=>by
 cases e with
 |WB=>exact#[f,by rw[fN c];cases d<;>exact q a _ .AG s rfl]
 |_=>cases d<;>exact q.elim
theorem B7:ZF X (vX .IsNot) (XO X.K E Kr):=Gn uS λa G d e x y Q hk s c f q=>by
 cases e with
 |WB=>exact#[f,by rw[fN c];cases d<;>exact q a _ .AG s rfl]
 |_=>cases d<;>exact q.elim
def fO{a:Wd}(r:VG a d x)(h:Mm d=u7 v):x=v/\Ej v=u9:=by
 cases d<;>first
  |(cases h;exact#[r,rfl])
  |cases h
theorem fP{a:Wd}:∀{c:List D}{xs vs:List V},YA a c xs->Ko c=u7 vs->xs=vs/\vs.all Ej=u9
 |[],xs,vs,r,h=>by cases h;exact#[r,rfl]
 |d::c,xs,vs,r,h=>by
  let#[x,o,rfl,i,j]:=r;unfold Ko at h;split at h
  .rename_i v n e g;cases h;let#[f,k]:=fO i e;let#[l,m]:=fP j g;subst f;subst l;exact#[rfl,by rw[jy,k,m];rfl]
  cases h
theorem fQ{a:Wd}(s:XF a G)(c:VG a d x)(f:VG a e y)(h:inD d e G=u7 k):
  (∃i j,x=.str i/\y=.str j/\k= !(zc j i 0 j.length 1).isEmpty)\/(∃p xs,y=.ref p/\(WQ a.K a.H p xs\/YO a.K a.H p xs)/\Ej x=u9/\xs.all Ej=u9/\k=inV x xs):=by
 have seq:(match Bf e G,Mm d with |some xs,u7 v=>(Ko xs).map λt=>inV v t|_,_=>u8)=u7 k->(∃p xs,y=.ref p/\(WQ a.K a.H p xs\/YO a.K a.H p xs)/\Ej x=u9/\xs.all Ej=u9/\k=inV x xs):=λh=>by
  split at h
  .rename_i xs v l n;let#[p,g,m,q,r]:=Ku s f l;let#[A,B]:=fO c n;subst A;rw[qK]at h;let#[C,u,w]:=h;let#[o,z]:=fP r u;subst o;exact#[p,g,m,q,B,z,w.symm]
  cases h
 cases e with
 |str j=>
  cases d with
  |str i=>exact .inl #[i,j,c,f,(w4 h).symm]
  |_=>cases h
 |tup xs|fl xs|ref i|_=>exact .inr (seq h)
def O8:ZF X .I1 (XO X.K E Fd):=Gn (uP.or yc) λa G d e x y Q hk s f l q=>by
 unfold Fd at q;split at q
 .rename_i k h;have z:=q a _ .AG s rfl;rcases fQ s f l h with⟨i,j,c,o,rfl⟩|⟨p,n,c,g,m,r,rfl⟩
  .exact .inl #[i,j,c,o,z]
  exact .inr #[p,n,c,by rw[<-hk];exact g,m,r,z]
 exact q.elim
def fR:ZF X .E5 (XO X.K E Kv):=Gn (uT.or yd) λa G d e x y Q hk s f l q=>by
 unfold Kv at q;split at q
 .rename_i k h;have z:=q a _ .AG s rfl;rcases fQ s f l h with⟨i,j,c,o,rfl⟩|⟨p,n,c,g,m,r,rfl⟩
  .exact .inl #[i,j,c,o,z]
  exact .inr #[p,n,c,by rw[<-hk];exact g,m,r,z]
 exact q.elim
end
def B8:vQ "isinstance"=u7 (.builtin "isinstance"):=.f
def Wm:vQ "all"=u7 (.builtin "all"):=.f
def ap:vQ "sum"=u7 (.builtin "sum"):=.f
def B9:vQ "max"=u7 (.builtin "max"):=.f
def Bz:vQ "min"=u7 (.builtin "min"):=.f
def CA:vQ "len"=u7 (.builtin "len"):=.f
def CB:vQ "int"=u7 (.type "int"):=.f
def CC:vQ "str"=u7 (.type "str"):=.f
def Rj:vQ "tuple"=u7 (.type "tuple"):=.f
def fS:vQ "list"=u7 (.type "list"):=.f
def Ju:xF->Bool | .local=>u9|_=>uA
def Mf:xF->Bool | .cell=>u9|_=>uA
def Ln:xF->Bool | .free=>u9|_=>uA
def isK(p:xF->Bool):Option xF->Bool|some k=>p k|none=>uA
def fT(h:Ju k=u9):k=.local:=by cases k<;>first|rfl|cases h
def CD(h:Mf k=u9):k=.cell:=by cases k<;>first|rfl|cases h
def fU(h:Ln k=u9):k=.free:=by cases k<;>first|rfl|cases h
def S8(hp:∀a,p a=u9->a=k)(h:isK p o=u9):o=u7 k:=by
 rcases o with _|a
 .cases h
 rw[hp _ h]
def Xm(dn:List (Str×xF))(N0 N:List Str)(names:List (Str×xF))(nt:Nat)(caps:List Nat):Bool:=
 names.all (λy=>(!Ju y.2||isK Ju .GK) && !Mf y.2&&(!Ln y.2||isK Mf .Cw||isK Ln .Cw))&&decide N.Nodup&&decide (N.length=nt+caps.length) &&
 (zV caps.length).all λk=>match caps[k]? with
  |some j=>match N0[j]? with
   |some x=>decide (N[nt+k]?=u7 x)&&isK Ln (names.lookup x)
   |none=>uA
  |none=>u9
def Hz{X:Cx}{N0 N:List Str}{a:xH}{nt:Nat}{caps:List Nat}{dn:List (Str×xF)}(hk:a.kind=.function:=by rfl)(f:∀x,X.env.kindOf x=dn.lookup x:=by rfl')(m:X.N=N0:=by rfl)
  (h:Xm dn N0 N a.names nt caps=u9:=by rfl'):YL X N a nt caps:=by
 unfold Xm at h;rw[zN,zN,zN]at h;let#[#[#[g,n],o],l]:=h;rw[qE]at g l;have b:=λy(c:y∈a.names)=>(by have:=g y c;rw[zN,zN]at this;exact this:((!Ju y.2||isK Ju .Cg)=u9/\(!Mf y.2)=u9)/\(!Ln y.2||isK Mf .Cw||isK Ln .Cw)=u9)
 refine#[hk,λy c d=>?_,λy c d=>?_,λy c d=>?_,of_decide_eq_true n,of_decide_eq_true o,λk j i=>?_]
 .have:=(b y c).1.1;rw[d]at this;exact S8 (λ_ h=>fT h) (by have t:(uA||isK Ju .Cg)=u9:=this;simpa using t)
 .have:=(b y c).1.2;rw[d]at this;exact absurd this .c
 .have:=(b y c).2;rw[d,xw]at this;rw[f];rcases this with h|h
  .exact .inl (S8 (λ_ h=>CD h) (by have t:(uA||isK Mf .Cw)=u9:=h;simpa using t))
  exact .inr (S8 (λ_ h=>fU h) h)
 have:=l k (qx.mpr ((z9.mp i).1));rw[i]at this;dsimp only at this;rcases e:N0[j]? with _|x
 .rw[e]at this;cases this
 rw[e]at this;rw[zN]at this;exact#[x,m▸e,of_decide_eq_true this.1,S8 (λ_ h=>fU h) this.2]
section
section
variable{X:Cx}{vT:List (xB×Obj)}{σ:St}{H:Hp}{s:xI}
def CF(I:Inv X vT σ H s)(h:H p=u7 .AI):∃o,Inv X vT σ (upd H p .KW) s:=by
 let#[j,a,n,r,e]:=I.VF p _ h;have f:∀b u,H b=u7 u->u≠ .lst xs->b≠p:=λb u q d z=>by subst z;rw[h]at q;exact d (w4 q).symm
 refine#[_,I.un (H':=upd H p (.YN {cls:=.type "list",data:=.seq a.toArray n} .AI)) #[λb o q _ _ _=>q,λb o q _ _ _=>#[o.slots,q],λb o q z _=>?_,λb o q _=>#[o,q],λb i q=>?_,λb o u q=>?_,λb l q=>#[[].toArray,?_]] ?_]
 .rw[Aw (λk=>by subst k;rw[h]at z;cases z)];exact z
 .rw[Aw (f b _ q (by intro z;cases z))];exact q
 .rw[Aw (f b _ q (by intro z;cases z))];exact q
 .rw[Aw (f b _ q (by intro z;cases z)),Array.append_empty];exact q
 intro b u q;by_cases g:b=p
 .subst g;rw[Gg]at q;cases q;exact#[e,j,a,n,r,e]
 .rw[Aw g]at q;exact(I.VF b u q).L' (λc v _ z=>z) (λc z=>by rw[Aw (f c _ z (by intro z;cases z))];exact z) λc i z=>by rw[Aw (f c _ z (by intro z;cases z))];exact z
def Fz(P:xB->Prop)(H H':Hp):Prop:=∀p,(H' p=H p/\(∀vs,H p=u7 .A5->¬P p))\/∃o vs,P p/\H p=u7 .A5/\H' p=u7 (.YN o .A5)
theorem fV(I:Inv X vT σ H s)(m:Nat->xB)(n):∀k,∃H',Inv X vT σ H' s/\Fz (λp=>∃i,n<=i/\i<n+k/\p=m i) H H'
 |0=>#[H,I,λp=>.inl #[rfl,λ_ _ #[i,g,l,_]=>.a]]
 | k + 1=>by
  let#[H',r,F]:=fV I m n k;have f:(∀a,H' (m (n+k))≠u7 (.lst a))->Fz (λp=>∃i,n<=i/\i<n+(k+1)/\p=m i) H H':=λw p=>by
   rcases F p with⟨e,z⟩|⟨o,a,⟨i,g,l,d⟩,b,h⟩
   .refine .inl #[e,λa b #[i,g,l,d]=>?_];by_cases q:i<n+k
    .exact z a b #[i,g,q,d]
    have:i=n+k:=.a
    subst this;subst d;exact w a (e.trans b)
   exact .inr #[o,a,#[i,g,.a,d],b,h]
  rcases j:H' (m (n+k))with _|u
  .exact#[H',r,f λa z=>by rw[j]at z;cases z]
  cases u with
  | lst a=>
   let#[o,v]:=CF r j;refine#[_,v,λp=>?_];by_cases hp:p=m (n+k)
   .subst hp;rcases F (m (n+k))with⟨e,z⟩|⟨t,c,_,b,h⟩
    .exact .inr #[o,a,#[n+k,.a,.a,rfl],e.symm.trans j,Gg]
    rw[j]at h;cases h
   rcases F p with⟨e,z⟩|⟨t,c,⟨i,g,l,d⟩,b,h⟩
   .refine .inl #[(Aw hp)▸e,λc b #[i,g,l,d]=>?_];by_cases q:i<n+k
    .exact z c b #[i,g,q,d]
    .have:i=n+k:=.a
     subst this;exact hp d
   exact .inr #[t,c,#[i,g,.a,d],b,(Aw hp)▸h]
  |_=>exact#[H',r,f λa z=>by rw[j]at z;cases z]
end
def Mt(f:D->Option D):List D->Option .DT
 |[]=>u7 []
 |d::r=>match f d,Mt f r with
  |some d',u7 r'=>u7 (d'::r')
  |_,_=>u8
def Gp(G:DH)(n:Nat):Nat->D->Option D
 |0,_=>u8
 | k+1,d=>if XG n d=u9 then u7 d else match d with
  |.ref i=>match G[i]? with
   |some .AI=>(Mt .HY xs).map .fl
   |_=>u8
  |.tup xs=>(Mt .HY xs).map .tup
  |.fl xs=>(Mt .HY xs).map .fl
  |_=>u8
open Classical in
def freeze(G:DH)(r:R D):R D:=match r with
 | .ok d G'=>if G'.take G.length=G then(match Gp G' G.length 9 d with
   |some d'=>.ok d' G
   |none=>.ok d G')else .ok d G'
 |r=>r
def Ae(t:DE):DE:=λS G=>freeze G .Dy
structure N' (b c:Wd) (n:Nat):Prop where
 k:c.K=b.K
 n:c.n=n
 m:c.m=b.m
 tup:∀p xs,b.H p=u7 .Aj->c.H p=u7 .Aj
 YN:∀p o u,b.H p=u7 .Bx->c.H p=u7 .Bx
def N'.sqT{b c:Wd}{n:Nat}(x:N' b c n){p:xB}{xs:List V}(h:YO b.K b.H p xs):YO c.K c.H p xs:=by
 rcases h with(h|⟨o,h⟩)|h
 .exact .inl (.inl .Ic)
 .exact .inl (.inr #[o,x.YN _ _ _ h])
 exact .inr (x.k▸h)
def N'.fzL{b c:Wd}{n:Nat}(x:N' b c n){p:xB}{xs:List V}(h:FzL b.K b.H p xs):FzL c.K c.H p xs:=by
 rcases h with⟨o,h⟩|⟨e,h⟩
 .exact .inl #[o,x.YN _ _ _ h]
 exact .inr #[e,x.k▸h]
mutual
theorem VG.Jb(x:N' b c n):∀{d:D}{v:V},VG b d v->XG n d=u9->VG c d v
 |.WB,_,h,_=>h
 |.bl _,_,h,_=>h
 |.int _,_,h,_=>h
 |.str _,_,h,_=>h
 |.ty _,_,h,_=>h
 |.tup g,v,h,q=>by let#[p,a,e,t,r]:=h;simp only[_D.XG]at q;exact#[p,a,e,x.sqT t,YA.Jb x r q]
 |.fl g,v,h,q=>by let#[p,a,e,t,r]:=h;simp only[_D.XG]at q;exact#[p,a,e,x.fzL t,YA.Jb x r q]
 |.ref i,v,h,q=>by let#[l,e]:=h;simp only[_D.XG]at q;have f:=of_decide_eq_true q;exact#[by rw[x.n];exact f,by rw[x.m];exact e]
theorem YA.Jb(x:N' b c n):∀{ds:List D}{vs:List V},YA b ds vs->ZA n ds=u9->YA c ds vs
 |[],_,h,_=>h
 |d::ds,vs,h,q=>by let#[v,r,e,f,a]:=h;simp only[_D.ZA,zN]at q;exact#[v,r,e,VG.Jb x f q.1,YA.Jb x a q.2]
end
theorem Y9(g:∀d d' v,f d=u7 d'->VG b d v->VG c d' v):∀{ds a:List D}{vs:List V},Mt f ds=u7 a->YA b ds vs->YA c a vs
 |[],a,vs,e,h=>by cases e;exact h
 |d::ds,a,vs,e,h=>by
  let#[v,r,rfl,l,j]:=h;unfold Mt at e;split at e
  .rename_i d' m i k;cases e;exact#[v,r,rfl,g _ _ _ i l,Y9 g k j]
  cases e
theorem fW(s:XF b G')(x:N' b c n)(hz:∀i,n<=i->i<b.n->∀vs,b.H .Ec=u7 .A5->∃o,c.H .Ec=u7 (.YN o .A5)):∀k d d' v,Gp G' n k d=u7 d'->VG b d v->VG c d' v
 |0,d,d',v,e,h=>by cases e
 | k+1,d,d',v,e,h=>by
  have g:=fW s x hz k;unfold Gp at e;split at e
  .rename_i f;cases e;exact h.Jb x f
  rename_i f;cases d with
  | ref i=>
   dsimp only at e;split at e
   .rename_i l z;rw[qK]at e;let#[j,a,rfl]:=e;let#[vs,y,w]:=s.obj i _ z;let#[u,rfl]:=h;have q:n<=i:=by simp[_D.XG]at f;lia
    let#[o,A]:=hz i q u vs y;exact#[_,vs,rfl,.inl #[o,A],Y9 g a w]
   cases e
  |tup l=>
   rw[qK]at e;let#[j,a,rfl]:=e;let#[p,vs,rfl,t,r]:=h;exact#[p,vs,rfl,x.sqT t,Y9 g a r]
  |fl l=>
   rw[qK]at e;let#[j,a,rfl]:=e;let#[p,vs,rfl,t,r]:=h;exact#[p,vs,rfl,x.fzL t,Y9 g a r]
  |_=>cases e
def fX{X:Cx}{vT:List (xB×Obj)}{σ:St}{sh:xI}{a b:Wd}{G G':DH}(s:XF a G)(hG:G'.take G.length=G)(x:Ext a b)(sb:XF b G')(I:Inv X vT σ b.H sh):
  ∃c:Wd,Inv X vT σ c.H sh/\Ext a c/\XF c G/\N' b c a.n/\∀(k:Nat)(d d':D)(v:V),Gp G' G.length k d=u7 d'->VG b d v->VG c d' v:=by
 have hlen:∀i o,G[i]?=u7 o->G'[i]?=u7 o:=λi o e=>by have hi:i<G.length:=(z9.mp e).1;rw[<-hG,jK hi]at e;exact e
 let#[H',I',F]:=fV I b.m a.n (b.n-a.n);have hbn:a.n+(b.n-a.n)=b.n:=by have:=x.n;lia
 rw[hbn]at F;have ct:∀p(u:HO),(∀vs,u≠ .lst vs)->b.H p=u7 u->H' p=u7 u:=λp u nu e=>by
  rcases F p with⟨e1,_⟩|⟨o,vs,_,e1,_⟩
  .exact e1.trans e
  .rw[e]at e1;exact absurd (w4 e1) (nu vs)
 have tabs:∀p,XU b.H p->XU H' p:=λp t=>t.mono (λp ps e=>ct p _ (by intro _ z;cases z) e) λp o u e=>ct p _ (by intro _ z;cases z) e
 have cc:N' b #[b.K,a.n,b.m,H'] a.n:=#[rfl,rfl,rfl,λp xs e=>ct p _ (by intro _ z;cases z) e,λp o u e=>ct p _ (by intro _ z;cases z) e];have old:∀i,i<a.n->H' .Ec=b.H (b.m i):=λi hi=>by
  rcases F (b.m i)with⟨e1,_⟩|⟨o,vs,⟨j,h1,h2,h3⟩,e1,e2⟩
  .exact e1
  .have:=sb.inj i j .Gs h2 h3;lia
 refine#[#[b.K,a.n,b.m,H'],I',#[x.k,zX _,x.m,λp xs e=>cc.tup p xs (x.tup p xs e),λp o u e=>cc.YN p o u (x.YN p o u e),λp t=>tabs p (x.tab p t)],#[s.len,λi j hi hj=>sb.inj i j .Gs (zY hj x.n),λi o e=>?_,λi hi=>?_],cc,λk d d' v hd rb=>?_]
 .show ZO #[b.K,a.n,b.m,H'] o (H' .Ec);rw[old i .Ff];have q:=sb.obj i o (hlen i o e);have lb:=(s.obj i o e).K4;cases o with
  |lst ds=>let#[vs,e1,r1]:=q;exact#[vs,e1,r1.Jb cc lb]
  |dct WE=>let#[us,e1,k1,r1]:=q;exact#[us,e1,k1,r1.Jb cc lb]
  |dcT WE=>let#[us,e1,k1,r1]:=q;exact#[us,e1,k1,r1.Jb cc lb]
  |ins c fs=>let#[C,dx,us,n1,e1,k1,r1]:=q;exact#[C,dx,us,n1,e1,k1,r1.Jb cc lb]
  |tab C m=>let#[c1,P1,e1,t1]:=q;exact#[c1,P1,e1,tabs _ t1]
  |exc c fs=>
   let#[C,oe,u,vs,n1,e1,k1,k2,z]:=q;refine#[C,oe,u,vs,n1,e1,k1,k2,?_];rcases z with z|⟨dx,o,us,e2,f2,k3,r1⟩
   .exact .inl z
   .exact .inr #[dx,o,us,e2,cc.YN _ _ _ f2,k3,r1.Jb cc lb]
  |gone=>trivial
 .show H' .Ec≠u8;rw[old i hi];exact sb.tr i .Gs
 .rw[s.len]at hd;refine fW sb cc (λi h1 h2 vs e=>?_) k d d' v hd rb;rcases F (b.m i)with⟨e1,z⟩|⟨o,vs',_,e1,e2⟩
  .exact absurd #[i,h1,h2,rfl] (z vs e)
  .rw[e]at e1;cases e1;exact#[o,e2]
theorem CG(s:XF a G)(h:out E a (freeze G r) Q):
  out E a r λv H=>∀vT(g:St)j,Inv X vT g H j->∃H',Inv X vT g H' j/\Q v H':=by
 cases r with
 | ok d n=>
  intro b v x f i vT g j I;unfold freeze at h;dsimp only at h;split at h
  .rename_i m;split at h
   .rename_i t l;let#[c,k,q,p,u,o]:=fX s m x f I;exact#[c.H,k,h c v q p (o _ _ _ _ l i)]
   exact#[_,I,h b v x f i]
  exact#[_,I,h b v x f i]
 |_=>exact h
def Eg(k:QE X E e t):QE X E e (Ae t):=λb s d H Q I h=>by
 let#[a,S,G,hk,rfl,c,r,h]:=h;refine ZD (k b s d a.H _ I #[a,S,G,hk,rfl,c,r,CG (X:=X) c h]) λu j zz=>?_
 let#[v,m,g,rv,q]:=zz;let#[i,f,l]:=q b d j g;exact#[v,i,f,rv,l]
theorem fY{X:Cx}{E:XK}{st:xL}{t:DE}{i:Nat}(Y:QS X E st (VJ t .GH)):QS X E st (VJ (Ae t) .GH):=λg s o H W I h=>by
 let#[a,S,G,hk,rfl,J,r,h]:=h;have Q:Ck E a (VJ t .GH S G) {W with nx:=λo H=>∀g F,Inv X g o H F->∃C,Inv X g o C F/\W.nx o C}:=by
  unfold VJ Ae at h;unfold VJ;cases B:t S G with
  | ok d U=>
   rw[B]at h;intro b k x A n g F I;unfold freeze at h;dsimp only at h;split at h
   .rename_i hG;split at h
    .rename_i d' L;let#[c,K,xc,N,cc,M]:=fX J hG x A I;refine#[c.H,K,h c k xc N #[?_,λj e l=>?_]]
     .rw[qV,<-n.len,qV]
     rw[j8]at l;by_cases m:i=j
     .subst m;rw[if_pos rfl]at l;by_cases y:i<S.length
      .rw[if_pos y]at l;have Z:d'=e:=by simpa using l
       subst Z;let#[v,w,rv]:=n.get i d (by rw[j8,if_pos rfl,if_pos y]);exact#[v,w,M _ _ _ _ L rv]
      rw[if_neg y]at l;cases l
     .rw[if_neg m]at l;let#[v,w,rv]:=n.get j e (by rw[j8,if_neg m];exact l);let#[v',_,z]:=r.get j e l;exact#[v,w,rv.Jb cc z.XG]
    exact#[_,I,h b k x A n]
   exact#[_,I,h b k x A n]
  |_=>rw[B]at h;exact h
 refine ZD (Y g s o a.H _ I #[a,S,G,hk,rfl,J,r,Q]) λf T p=>?_
 cases f with
 |next=>
  let#[k,C,I',q]:=p;let#[H2,P,O]:=q g T I';exact#[k,H2,P,O]
 |_=>exact p
end
section
variable{S:ZK}{G:DH}
@[simp]theorem ev_C:dC d S G=.ok d G:=id rfl
@[simp]theorem ev_Op:ZC f a b S G=(a S G).bind λx e=>(b S e).bind λy d=>f x y d:=id rfl
@[simp]theorem ev_Un:dUn f a S G=(a S G).bind f:=id rfl
@[simp]theorem ev_Nil:Bp S G=.ok [] G:=id rfl
@[simp]theorem SK:Bg a r S G=(a S G).bind λx d=>(r S d).bind λxs b=>.ok (x::xs) b:=id rfl
@[simp]theorem ev_Fn:XA f t S G=(t S G).bind f:=id rfl
@[simp]theorem SL:Cq t S G=tidy G (t S G):=id rfl
@[simp]theorem ev_Frz:Ae t S G=freeze G (t S G):=id rfl
@[simp]theorem ev_asB:asB .Ge G=.ok k G:=id rfl
@[simp]theorem ev_Tst:Aj t S G=(t S G).bind asB:=id rfl
@[simp]theorem ev_And:Hm t u S G=(t S G).bind λk a=>if k=u9 then u S a else .ok uA a:=id rfl
@[simp]theorem ev_Or:UW t u S G=(t S G).bind λk a=>if k=u9 then .ok u9 a else u S a:=id rfl
@[simp]theorem ev_Not:Dl t S G=(t S G).bind λk a=>.ok (!k) a:=id rfl
@[simp]theorem SM:Nx t u S G=(t S G).bind λx b=>(asB x b).bind λk a=>if k=u9 then u S a else .ok .Ap a:=id rfl
@[simp]theorem ev_OrV:Ui t u S G=(t S G).bind λx b=>(asB x b).bind λk a=>if k=u9 then .ok .Ab a else u S a:=id rfl
@[simp]theorem SN:Wn t S G=(t S G).bind λx b=>(asB x b).bind λk a=>.ok (.bl (!k)) a:=id rfl
@[simp]theorem ev_If:dIf c t u S G=(c S G).bind λk a=>if k=u9 then t S a else u S a:=id rfl
@[simp]theorem SO:Hl f g a b c S G=(a S G).bind λx e=>(b S e).bind λy m=>(f x y m).bind λz h=>(asB z h).bind λk d=>
 if k=u9 then(c S d).bind λw o=>g y w o else .ok .Ap d:=id rfl
@[simp]theorem ev_sNx:VN S G=.nx S G:=id rfl
def SR.then(u:DS)(_:Fx u:=())(r:SR):SR:=match r with
 |.nx S1 G1=>u S1 G1
 |r=>r
@[simp]theorem fZ:Ac t u S G=(t S G).then u:=id rfl
@[simp]theorem f3:(SR.nx S G).then u=u S G:=id rfl
@[simp]theorem SQ:(SR.rt d G).then u=.rt d G:=id rfl
@[simp]theorem ev_sEx:ZN t S G=(t S G).toS λ_ a=>.nx S a:=id rfl
@[simp]theorem ev_sRt:XC t S G=(t S G).toS λd a=>.rt d a:=id rfl
@[simp]theorem ev_sIf:WL c t u S G=(c S G).toS λk a=>if k=u9 then t S a else u S a:=id rfl
@[simp]theorem ev_sAs:VJ t g S G=(t S G).toS λd b=>(g d S b).toS λe a=>.nx e a:=id rfl
@[simp]theorem ev_sAu:X2 i t f S G=(match S[i]? with
 |some .FI=>(t S G).toS λy b=>(f x y b).toS λz a=>.nx (S.set i (u7 z)) a
 |_=>.bad):=id rfl
@[simp]theorem SS:Bw it g b S G=(it S G).toS λJ a=>(match J with
 |.pure xs=>Ar g b xs S a
 |.mt i=>match a[i]? with
  |some .AI=>forM i g b xs.length 0 S a
  |_=>.bad
 |.fn n f=>Dr f g b n 0 S a):=id rfl
@[simp]theorem SU:Bl t S G=(t S G).bind Em:=id rfl
@[simp]theorem SV:Br f t S G=(t S G).bind f:=id rfl
@[simp]theorem Ie:gV i d S G=.ok (S.set i (u7 d)) G:=id rfl
@[simp]theorem aq:An [] S G=.ok S G:=id rfl
@[simp]theorem ar:Ab t u (d::r) S G=(t d S G).bind λb a=>u r b a:=id rfl
@[simp]theorem au:Am n t .By S G=if ds.length=n then t ds S G else .bad:=id rfl
@[simp]theorem ev_gIx:Y1 o i v S G=(o S G).bind λo b=>(i S b).bind λi a=>(Ni o i v a).bind λ_ d=>.ok S d:=id rfl
@[simp]theorem ev_MtL:Do f o t S G=(o S G).bind λx a=>if isL x a=u9 then(t S a).bind λxs b=>f x xs b else .bad:=id rfl
@[simp]theorem SW:Bk it nt caps g c te S G=(it S G).bind λJ a=>(match J with
 |.pure xs=>Bj g c te .AY xs a
 |.mt i=>match a[i]? with
  |some .AI=>Ek i g c te .AY xs.length 0 a
  |_=>.bad
 |.fn n f=>By f g c te .AY n 0 a).bind Aq:=id rfl
@[simp]theorem Pa:Ai S G=.ok u9 G:=id rfl
@[simp]theorem Ti:aft (.nx S G) k=k S G:=id rfl
@[simp]theorem aft_rt:aft (.rt d G) k=.rt d G:=id rfl
def Cz:Ar g b [] S G=.nx S G:=id rfl
def Cj:Ar g b (x::xs) S G=(g x S G).toS λd a=>aft (b d a) (Ar g b xs):=id rfl
def CH:Bj g c te S [] G=.ok [] G:=id rfl
def Li:Bj g c te S (x::xs) G=(g x S G).bind λb e=>(c b e).bind λk a=>
   if k=u9 then(te b a).bind λd f=>(Bj g c te S xs f).bind λh m=>.ok (d::h) m else Bj g c te S xs a:=id rfl
def SR.ret(r:SR):R D:=match r with
 |.nx _ G'=>.ok .WB G'
 |.rt d G'=>.ok d G'
 |.err x G'=>.err x G'
 |_=>.bad
@[simp]theorem ret_nx:(SR.nx S G).ret=.ok .WB G:=id rfl
@[simp]theorem ret_rt:(SR.rt d G).ret=.ok d G:=id rfl
def Ag:Ah np nl b ds G=if ds.length=np then tidy G (b (ds.map u7++zK nl u8) G).ret else .bad:=id rfl
end
section
variable{n:Nat}{G:DH}
@[simp]theorem SX:XG n .WB=u9:=by simp[_D.XG]
@[simp]theorem CI:XG n .Dw=u9:=by simp[_D.XG]
@[simp]theorem CJ:XG n .G7=u9:=by simp[_D.XG]
@[simp]theorem CK:XG n (.str b)=u9:=by simp[_D.XG]
@[simp]theorem f5:XG n (.tup b)=ZA n b:=by simp[_D.XG]
@[simp]theorem bel_fl:XG n (.fl b)=ZA n b:=by simp[_D.XG]
@[simp]theorem SY:XG n .A7=decide (b<n):=by simp[_D.XG]
@[simp]theorem SZ:ZA n []=u9:=by simp[_D.ZA]
@[simp]theorem S4:ZA n (d::ds)=(XG n d&&ZA n ds):=by simp[_D.ZA]
theorem Qs:ZA n ds=u9↔∀d∈ds,XG n d=u9:=by
 induction ds with
 |nil=>simp
 |cons d ds a=>simp[a]
@[simp]theorem Sa:ZA n (ds++es)=(ZA n ds&&ZA n es):=by
 induction ds with
 |nil=>simp
 |cons d ds a=>simp[a,Bool.and_assoc]
def Df{a:Type}{f:a->D}{xs:List a}(h:∀x∈xs,XG n (f x)=u9):ZA n (xs.map f)=u9:=by rw[Qs];intro d b;let#[x,e,rfl]:=zw.mp b;exact h x e
@[simp]theorem Jz{xs:List Int}:ZA n .H0=u9:=Df λ_ _=>CJ
@[simp]theorem f6{xs:List Bool}:ZA n (xs.map D.bl)=u9:=Df λ_ _=>CI
@[simp]theorem Hv{xs:List Str}:ZA n .B1=u9:=Df λ_ _=>CK
def Ao(h:XG G.length d=u9):tidy G (.ok d G)=.ok d G:=by unfold tidy;simp[h]
def Hx(h:XG G.length d=u9):tidy G (.ok d (G++L))=.ok d G:=by unfold tidy;simp[h]
def Zi(L)(hk:L[k]?=u7 (.lst ds))(h:ZA G.length ds=u9):tidy G (.ok (.ref (G.length+k)) (G++L))=.ok .AH (G++[.lst ds]):=by
 unfold tidy;have e:(G++L)[G.length+k]?=u7 (.lst ds):=by rw[zM .a];simpa using hk
 simp[e,K4,h]
def Ce{ds:List D}{L:DH}(h:ZA G.length ds=u9):tidy G (.ok .AH (G++ .lst ds::L))=.ok .AH (G++[.lst ds]):=Zi (.lst ds::L) (k:=0) rfl h
def Gk(h:XG G.length d=u9):freeze G (.ok d G)=.ok d G:=by unfold freeze;simp[h,Gp]
theorem f7{n:Nat}:∀{a:List D},ZA n a=u9->Mt (Gp G' n (k+1)) a=u7 a
 |[],_=>rfl
 |d::a,h=>by simp at h;unfold Mt;rw[f7 h.2];simp[Gp,h.1]
def f9(L)(hk:L[k]?=u7 (.lst ds))(h:ZA G.length ds=u9):freeze G (.ok (.ref (G.length+k)) (G++L))=.ok .CN G:=by
 unfold freeze;have e:(G++L)[G.length+k]?=u7 (.lst ds):=by rw[zM .a];simpa using hk
 have m:Gp (G++L) G.length 9 (.ref (G.length+k))=u7 (.fl ds):=by unfold Gp;simp[e,f7 h]
 simp[m]
def Bd{ds:List D}{L:DH}(h:ZA G.length ds=u9):freeze G (.ok .AH (G++ .lst ds::L))=.ok .CN G:=f9 (.lst ds::L) (k:=0) rfl h
def O3(L)(k):(G++L)[G.length+k]?=L[k]? :=by rw[zM .a];simp
def Kq(L):(G++L)[G.length]?=L[0]? :=O3 L 0
def Yi(L)(k)(o):(G++L).set (G.length+k) o=G++L.set k o:=by rw[xY _ _ .a];simp
def U3(L)(o):(G++L).set G.length o=G++L.set 0 o:=Yi L 0 o
def J9{a:Int}:Bq a 0=[]:=id rfl
def Je{a:Int}{n:Nat}:Bq a (n+1)=.int a::Bq (a+1) n:=by
 unfold Bq;rw[jJ,zk,qJ]
 congr 1
 .simp
 apply qk;intro k _;simp only[Function.comp]
 congr 1
 lia
end
section
variable{G:DH}{i j:Int}{x y:Str}{k l:Bool}
@[simp]theorem ev_add:Dw .AM .Bl G=.ok (.int (i+j)) G:=id rfl
@[simp]theorem Wo:Dw .Af .G8 G=if x.length+y.length<=1000000 then .ok (.str (x++y)) G else .bad:=id rfl
@[simp]theorem Sb:Dw .Aj .GA G=if xs≠[]/\xs.length+ys.length<=1000000 then .ok (.tup (xs++ys)) G else .bad:=id rfl
@[simp]theorem ev_ip:K5 .AM .Bl G=.ok (.int (i+j)) G:=id rfl
@[simp]theorem ev_sub:Oz .AM .Bl G=.ok (.int (i-j)) G:=id rfl
def CL:Jx .AM .Bl G=if g? j then .ok (.int (i/j)) G else .bad:=id rfl
def CM{n:Nat}(h:0<n)(a:n.log2<9000):Jx .AM (.int (n:Int)) G=.ok (.int (i/n)) G:=if_pos #[.a,a]
def log2_small(h:n<10^100):n.log2<9000:=by
 by_cases a:n=0
 .subst a;decide
 rw[Nat.log2_lt a];exact Nat.lt_trans h .c
@[simp]theorem Se{n:Nat}[NeZero n](h:n<10^100):Jx .AM (.int (no_index .E0)) G=.ok (.int (i/OfNat.ofNat n)) G:=
 if_pos #[Int.ofNat_lt.mpr (Nat.pos_of_ne_zero (NeZero.ne n)),log2_small h]
@[simp]theorem ev_mod:Rm .AM .Bl G=if 0<j then .ok (.int (i%j)) G else .bad:=id rfl
@[simp]theorem ev_pow:Uk .AM .Bl G=if 0<=j/\j<=1000000/\i.natAbs<18446744073709551616 then .ok (.int (i^j.toNat)) G else .bad:=id rfl
@[simp]theorem ev_lt:Nb .AM .Bl G=.ok (.bl (decide (i<j))) G:=id rfl
@[simp]theorem ev_le:Dz .AM .Bl G=.ok (.bl (decide (i<=j))) G:=id rfl
@[simp]theorem ev_gt:Uu .AM .Bl G=.ok (.bl (decide (j<i))) G:=id rfl
@[simp]theorem ev_eq:Kg .AM .Bl G=.ok (.bl (decide (i=j))) G:=id rfl
@[simp]theorem ev_ne:Ed .AM .Bl G=.ok (.bl (!decide (i=j))) G:=id rfl
@[simp]theorem ev_eqS:Kg .Af .G8 G=.ok (.bl (decide (x=y))) G:=id rfl
@[simp]theorem ev_neS:Ed .Af .G8 G=.ok (.bl (!decide (x=y))) G:=id rfl
@[simp]theorem ev_neg:Ob .AM G=.ok (.int (-i)) G:=id rfl
@[simp]theorem ev_is:Fl d .WB G=.ok (.bl (Js d)) G:=by cases d<;>exact id rfl
@[simp]theorem Sf:Kr d .WB G=.ok (.bl (!Js d)) G:=by cases d<;>exact id rfl
@[simp]theorem Si:Js .WB=u9:=id rfl
@[simp]theorem Sj:Js .AM=uA:=id rfl
@[simp]theorem Sk:Js .By=uA:=id rfl
@[simp]theorem Sl:Js .CN=uA:=id rfl
@[simp]theorem Sm:Js .Em=uA:=id rfl
@[simp]theorem ev_max:Tt [.int i,.int j] G=.ok (.int (max i j)) G:=by
 show R.ok (D.int (if j>i then j else i)) G=_
 congr 2
 split<;>lia
@[simp]theorem ev_min:Jp [.int i,.int j] G=.ok (.int (min i j)) G:=by
 show R.ok (D.int (if j<i then j else i)) G=_
 congr 2
 split<;>lia
@[simp]theorem Sn:Bf .By G=u7 ds:=id rfl
@[simp]theorem So:Bf .CN G=u7 ds:=id rfl
@[simp]theorem Sr:Bf .Em G=(match G[n]? with |some .AI=>u7 xs|_=>u8):=id rfl
@[simp]theorem Sz:Be [.str x] G=if x.length<=1000000 then .ok (.int x.length) G else .bad:=id rfl
@[simp]theorem TB:Be [.tup ds] G=.ok .G9 G:=id rfl
@[simp]theorem TC:Be [.fl ds] G=.ok .G9 G:=id rfl
@[simp]theorem TF:Be [.ref n] G=(match G[n]? with |some .AI=>.ok .G5 G|_=>.bad):=by
 unfold Be;simp;rcases G[n]? with _|o
 .rfl
 cases o<;>rfl
@[simp]theorem ev_ixT:Cg .By .AM G=(match ZJ ds i with |some v=>.ok v G|none=>.bad):=id rfl
@[simp]theorem ev_ixF:Cg .CN .AM G=(match ZJ ds i with |some v=>.ok v G|none=>.bad):=id rfl
@[simp]theorem ev_ixR:Cg .Em .AM G=(match G[n]? with |some .AI=>(match ZJ xs i with |some v=>.ok v G|none=>.bad)|_=>.bad):=by
 unfold Cg;simp;rcases G[n]? with _|o
 .rfl
 cases o<;>rfl
def Jg{n k:Nat}(h:k<n):ixN n (k:Int)=u7 k:=by unfold ixN;simp[if_pos (by omega)]
def CN{a:Type}{xs:List a}{k:Nat}{d:a}(h:xs[k]?=u7 d):ZJ xs (k:Int)=u7 d:=by unfold ZJ;rw[Jg (z9.mp h).1];exact h
def Ef{a:Type}{xs:List a}{j:Int}{k:Nat}{d:a}(e:j=k)(h:xs[k]?=u7 d):ZJ xs j=u7 d:=by subst e;exact CN h
def av{a:Type}{xs:List a}{j:Int}(b:0<=j)(h:j<xs.length):ZJ xs j=u7 (xs[j.toNat]' .a):=
 Ef .a (zJ .a)
def CO{a:Type}{xs:List a}{j:Int}(b:j<0)(h: -(xs.length:Int)<=j):ZJ xs j=u7 (xs[(j+xs.length).toNat]' .a):=by unfold ZJ ixN;rw[if_neg .a,if_pos h];exact zJ .a
@[simp]theorem atI_0{b:Type}{a:b}{xs:List b}:ZJ (a::xs) 0=u7 a:=Ef rfl rfl
@[simp]theorem atI_1{d:Type}{a b:d}{xs:List d}:ZJ (a::b::xs) 1=u7 b:=Ef rfl rfl
@[simp]theorem atI_2{d:Type}{a b c:d}{xs:List d}:ZJ (a::b::c::xs) 2=u7 c:=Ef rfl rfl
@[simp]theorem atI_3{e:Type}{a b c d:e}{xs:List e}:ZJ (a::b::c::d::xs) 3=u7 d:=Ef rfl rfl
@[simp]theorem atI_4{f:Type}{a b c d e:f}{xs:List f}:ZJ (a::b::c::d::e::xs) 4=u7 e:=Ef rfl rfl
@[simp]theorem atI_5{g:Type}{a b c d e f:g}{xs:List g}:ZJ (a::b::c::d::e::f::xs) 5=u7 f:=Ef rfl rfl
@[simp]theorem atI_6{h:Type}{a b c d e f g:h}{xs:List h}:ZJ (a::b::c::d::e::f::g::xs) 6=u7 g:=Ef rfl rfl
@[simp]theorem TH:Ba ds G=if ds.length<=1000000 then .ok .By G else .bad:=id rfl
@[simp]theorem TJ:Aq ds G=if ds.length<=1000000 then .ok .AH (G++[.lst ds])else .bad:=id rfl
@[simp]theorem TK:Dg [.tup ds] G=.ok .By G:=id rfl
@[simp]theorem TL:Dg [.fl ds] G=.ok .By G:=id rfl
@[simp]theorem TM:Dg [.ref n] G=(match G[n]? with |some .AI=>.ok .Aj G|_=>.bad):=by
 unfold Dg;simp;rcases G[n]? with _|o
 .rfl
 cases o<;>rfl
@[simp]theorem ev_itT:Em .By G=.ok (.pure ds) G:=id rfl
@[simp]theorem ev_itF:Em .CN G=.ok (.pure ds) G:=id rfl
@[simp]theorem TN:XM [.int j] G=if inR j then .ok (.pure .Dz) G else .bad:=id rfl
def Gj(a: -1000000000<=i)(h:i<=1000000000):inR i:=#[.a,.a]
@[simp]theorem TQ:isL .CN G=u9:=id rfl
@[simp]theorem TR:isL .Em G=(match G[n]? with |some .Fa=>u9|_=>uA):=id rfl
@[simp]theorem ev_app:Dy .Em [d] G=(match G[n]? with |some .AI=>if xs.length<1000000 then .ok .WB (G.set n (.lst (xs++[d])))else .bad|_=>.bad):=id rfl
@[simp]theorem TU:Ni .Em .AM d G=(match G[n]? with |some .AI=>(match ixN xs.length i with |some j=>.ok .WB (G.set n (.lst (xs.set j d)))|none=>.bad)|_=>.bad):=id rfl
@[simp]theorem Xa{ks:List Bool}:Ir [.fl (ks.map D.bl)] G=.ok (.bl (ks.all id)) G:=by simp[Ir]
@[simp]theorem Uh{ks:List Int}:Dp [.fl .H1] G=.ok .Ij G:=by simp[Dp]
@[simp]theorem CP{ks:List Int}:Dp [.tup .H1] G=.ok .Ij G:=by simp[Dp]
@[simp]theorem TV:Q8 [d,.ty "str"] G=(match tyD G d with |some .str=>.ok .Ab G|some _=>.ok .Ap G|none=>.bad):=by
 unfold Q8;dsimp only;rcases tyD G d with _|t
 .rfl
 cases t<;>rfl
@[simp]theorem TX:tyD G .Af=u7 .str:=id rfl
end
def Gb:D->Option Key
 |.int i=>u7 (.inl i)
 |.str x=>u7 (.inr x)
 |_=>u8
def cutD{α:Type}(xs:List α)(lo hi:Option Int):List α:=(xs.drop .E6).take (HT.YE xs.length xs.length hi-HT.YE xs.length 0 lo)
def Jr(z:Str)(lo hi:Option Int):Str:=#[(cutD z.cps.toList lo hi).toArray]
def CQ{b:Type}(xs:List b)(a c):(cutD xs a c).length<=xs.length:=by unfold cutD;rw[j0,jO];lia
def Mx(t:Option DE)(S:ZK)(G:DH):R (Option Int):=match t with
 |none=>.ok u8 G
 |some t=>(t S G).bind λd G1=>match d with
  |.int i=>.ok (u7 i) G1
  |_=>.bad
def M7(d:D)(lo hi:Option Int)(G:DH):R D:=match d with
 |.str z=>if z.length<=1000000 then .ok (.str (Jr z lo hi)) G else .bad
 |.tup xs=>.ok (.tup .HZ) G
 |d=>match Ha d G with
  |some xs=>.ok .AH (G++[.lst .HZ])
  |none=>.bad
def ZY(e:DE)(lo hi:Option DE):DE:=λS G=>(e S G).bind λd G1=>(Mx lo S G1).bind λl G2=>(Mx hi S G2).bind λh G3=>M7 d l h G3
def Mh(n)(v):((HT.YE n n (u7 v):Nat):Int)=max 0 (min (if v<0 then v+(n:Int)else v) n)/\((HT.YE n 0 (u7 v):Nat):Int)=max 0 (min (if v<0 then v+(n:Int)else v) n):=by
 unfold HT.YE;by_cases a:v<0
 .simp[if_pos a];lia
 simp[if_neg a];exact(sxb _ _ a).symm
theorem CS(xs:Array Nat)(i k):(zV k).filterMap (λm=>xs[i+m]?)=(xs.toList.drop i).take k:=by
 induction k generalizing i with
 |zero=>simp
 | succ k d=>
  rw[jJ,qD];have e:(List.map Nat.succ (.range k)).filterMap (λm=>xs[i+m]?)=(zV k).filterMap (λm=>xs[i+1+m]?):=by
   rw[qC]
   congr 1
   funext m;simp
   congr 1
   lia
  rw[e,d (i+1)];by_cases b:i<xs.size
  .have a:xs[i+0]?=u7 xs[i]:=.d
   rw[a];have c:xs.toList.drop i=xs[i]::xs.toList.drop (i+1):=by rw[zH (by simpa using b)];simp
   simp[c]
  have a:xs[i+0]?=u8:=.e
  rw[a];simp only;rw[qY .e,qY .e];simp
def CU(x)(c b):Txt.slice x c b=Jr x c b:=by
 have d:x.length=x.cps.toList.length:=by simp[Str.length]
 have m:(qd c b 1 x.length).filterMap (x.cps[·]?)=cutD x.cps.toList c b:=by
  have n:∀v,(match v with |none=>(0:Int)|some i=>max 0 (min (if i<0 then i+(x.length:Int)else i) x.length))=((HT.YE x.length 0 v:Nat):Int):=λv=>by
   rcases v with _|i
   .rfl
   exact(Mh x.length i).2.symm
  have p:∀v,(match v with |none=>(x.length:Int)|some i=>max 0 (min (if i<0 then i+(x.length:Int)else i) x.length))=((HT.YE x.length x.length v:Nat):Int):=λv=>by
   rcases v with _|i
   .rfl
   exact(Mh x.length i).1.symm
  have l:qd c b 1 x.length=sliceRange ((HT.YE x.length 0 c:Nat):Int) ((HT.YE x.length x.length b:Nat):Int) 1:=by
   rw[<-n c,<-p b];unfold qd
   cases c<;>cases b<;>simp
  rw[l];unfold sliceRange cutD;rw[qC,<-d];generalize HT.YE x.length 0 c=i;generalize HT.YE x.length x.length b=j;have s:((λa=>x.cps[a]?) ∘ λ(k:Nat)=>((i:Int)+1*(k:Int)).toNat)=λk=>x.cps[i+k]? :=by
   funext k;simp only[Function.comp]
   congr 1
   lia
  have q:(if(1:Int)>0 then if(i:Int)<(j:Int)then((j:Int)-i+1-1)/1 else 0 else if(i:Int)>(j:Int)then((i:Int)-j-1-1) / -1 else 0).toNat=j-i:=by
   rw[if_pos .a];split
   .rw[Int.ediv_one];lia
   lia
  rw[s,q];exact CS x.cps i (j-i)
 unfold Txt.slice Jr;split
 .rename_i h;have w:(qd c b 1 x.length).length=x.length:=by simpa using h
  have g:(cutD x.cps.toList c b).length=x.cps.toList.length:=by
   have l:(qd c b 1 x.length).length=HT.YE x.length x.length b-HT.YE x.length 0 c:=by
    have n:∀v,(match v with |none=>(0:Int)|some i=>max 0 (min (if i<0 then i+(x.length:Int)else i) x.length))=((HT.YE x.length 0 v:Nat):Int):=λv=>by
     rcases v with _|i
     .rfl
     exact(Mh x.length i).2.symm
    have p:∀v,(match v with |none=>(x.length:Int)|some i=>max 0 (min (if i<0 then i+(x.length:Int)else i) x.length))=((HT.YE x.length x.length v:Nat):Int):=λv=>by
     rcases v with _|i
     .rfl
     exact(Mh x.length i).1.symm
    have l:qd c b 1 x.length=sliceRange ((HT.YE x.length 0 c:Nat):Int) ((HT.YE x.length x.length b:Nat):Int) 1:=by
     rw[<-n c,<-p b];unfold qd
     cases c<;>cases b<;>simp
    rw[l];unfold sliceRange;rw[zq,List.length_range];generalize HT.YE x.length 0 c=i;generalize HT.YE x.length x.length b=j;rw[if_pos .a];split
    .rw[Int.ediv_one];lia
    lia
   have u:HT.YE x.length x.length b<=x.length:=HT.yG _ _ .AK b;unfold cutD;rw[j0,jO,<-d];lia
  have r:(cutD x.cps.toList c b).Sublist x.cps.toList:=(List.take_sublist _ _).trans (List.drop_sublist _ _);rw[r.eq_of_length g]
 rw[m]
section
variable{X:Cx}{E:XK}
theorem CV:SlR X (λx c n H Q=>∃z,x=.str z/\z.length<=sizeLine/\Q (.str (Jr z c n)) H):=by
 intro b s P H x v K O c n B Q I C M J r h;let#[z,rfl,N,q]:=h;let#[t,rfl]:=C;refine#["str",_,PySem.F.slot_str_getitem.lookup,typeIs_str _ _ _,?_]
 have a:∀l u,K=partValue l->O=partValue u->l.map (·.1)=c->u.map (·.1)=n->vA .AB X.A (getItem (.str z t) (.ref B)) (EP X b P Q) X.xe s:=by
  rintro l u rfl rfl rfl rfl;refine wpAny_getItem_str_slice (st:=u8) (M) rfl ?_
  have e:∀d,(Txt.slice z (l.map (·.1)) (u.map (·.1))).length<=sizeLine/\(∀m k,d (.str (Txt.slice z (l.map (·.1)) (u.map (·.1))) m) {s with toks:=k})->(sliceMade z t l u u8).post d s:=λd L=>post_val_or_str L
  refine e _ #[zx (Txt.slice_le z _ _) N,λm k=>?_];rw[CU];exact#[.str _,H,I.tok k,#[m,rfl],q]
 cases J with
 |none=>cases r with
  |none=>exact a u8 u8 rfl rfl rfl rfl
  |int j g=>exact a u8 (u7 (j,g)) rfl rfl rfl rfl
 |int i y=>cases r with
  |none=>exact a (u7 (i,y)) u8 rfl rfl rfl rfl
  |int j g=>exact a (u7 (i,y)) (u7 (j,g)) rfl rfl rfl rfl
def CW{prog:xG}{w:xN}{A:xC}{E:xM->xI->Prop}{s:xI}{t j:xB}{items:Array xM}{m l:xM}{a d:Option Int}{Q:xM->xI->Prop}(c:IsTup s.heap t items)(k:s.heap.IsSliceOf j m l .none)(pl:IsPart m a)(p:IsPart l d)
  (hw:HT.YE items.size 0 a=0/\HT.YE items.size items.size d=items.size) (h:Q .DS s):vA .AC A (getItem .DS (.ref j)) Q E s:=by
 let#[n,i,g,q]:=id k;unfold getItem
 try with_reducible refine vG ?_
 first|refine vC (vM ?_)|skip
 refine vC (wpAny_sequenceKey c.typeIs .c ?_);refine vC (vD c.typeIs jd
  (vE jd c.typeIs entry_tuple_getitem ?_ .Ej))
 show vA _ _ (Builtin.Tuple.tupleItemsOf .DS >>=_) _ _ s;refine vC (tupleItemsOf_ c ?_);refine vC (wpAny_typeOf #[n,i,g] ?_);rw[if_pos .c];refine vC (HT.eI k pl p ?_);have b:(((HT.YE items.size 0 a:Nat):Int)==0&&(1:Int)==1&&(HT.YE items.size items.size d-HT.YE items.size 0 a)==items.size)=u9:=by simp[hw.1,hw.2]
 show vA _ _ (if(((HT.YE items.size 0 a:Nat):Int)==0&&(1:Int)==1&&(HT.YE items.size items.size d-HT.YE items.size 0 a)==items.size)=u9 then _ else _) _ _ s;rw[if_pos b];refine vC ?_;unfold Builtin.Tuple.tupleIsExact;refine vC (wpAny_typeOf c.typeIs (vM ?_));rw[if_pos .c];exact vC (wpAny_rule (vM #[_,rfl,vM h]))
def CY:SlR X (λx i d H Q=>∃a xs,x=.ref a/\YO X.K H a xs/\(HT.YE xs.length 0 i=0/\HT.YE xs.length xs.length d=xs.length)/\Q .Aq H):=by intro g s w H x v A y i d u Q I m k n l h;let#[a,xs,rfl,p,hw,q]:=h;cases m;let#[c,r,j,z]:=I.tuple p;exact#["tuple",_,PyProof.Rows.slot_tuple_getitem.lookup,j.typeIs,CW j k n l ((z0▸r.length.symm)▸hw) #[.ref a,H,I,rfl,q]]
def Qh(E:XK)(a:Wd)(r:R (Option Int))(Q:Option Int->Hp->Prop):Prop:=match r with
 |.ok k G=>∀(b:Wd),Ext a b->XF b G->Q k b.H
 |.err x G=>s? E a x G
 |.bad=>False
def QO(X:Cx)(E:XK)(e:Option xD)(t:Option DE):Prop:=PO X e (λσ H Q=>PS3 X.K σ H λa S G=>Qh E a (Mx t S G) Q)
def _root_._L.PO.mono(h:PO X e t)(w:∀a H Q,t' a H Q->t a H Q):PO X e t':=λb s a H Q I q=>h b s a H Q I (w a H Q q)
def CZ:QO X E u8 u8:=yN.mono λb H Q h=>by let#[a,S,G,hk,rfl,s,r,h]:=h;exact h a .AG s
theorem C0(m:QE X E e t):QO X E .Eg (u7 t):=(yO m).mono λn H Q h=>by
 let#[a,S,G,hk,rfl,s,r,h]:=h;refine#[a,S,G,hk,rfl,s,r,?_]
 have c:Qh E a ((t S G).bind λd g=>match d with | .int i=>.ok (u7 i) g|_=>.bad) Q:=h
 cases j:t S G with
 |ok d g=>
  rw[j]at c;intro b v x k l;cases d with
  |int i=>exact#[i,l,c b x k]
  |_=>exact c.elim
 |_=>rw[j]at c;exact c
def YA.cutD(r:YA a ds vs)(b c):YA a (_D.cutD ds b c) (Pr vs b c):=by unfold _D.cutD Pr;rw[r.length];exact(r.drop _).take _
theorem Qh.imp(h:Qh E a r Q)(w:∀v H,Q v H->Q' v H):Qh E a r Q':=by
 cases r with
 |ok d G=>exact λb x s=>w _ _ (h b x s)
 |_=>exact h
theorem fb(h:out E a .BI Q):
  Qh E a r (λk H=>PB3 a H r k λb G=>out E b .Ht Q):=by
 cases r with
 |ok d G=>exact λb x s=>#[b,G,rfl,x,s,rfl,out.mono x h]
 |_=>exact h
theorem C1{e:xD}{N T:Option xD}{U:DE}{P th:Option DE}{p2 pos:Pos}(he:QE X E e U)(M:QO X E N P)(hu:QO X E T th):QE X E (.Subscript e (.Slice N T u8 p2) pos) (ZY U P th):=
 (yP (yb.or (yQ.or (CY.or CV))) he M hu).mono λσ H Q h=>by
 let#[a,S,G,hk,rfl,s,r,h]:=h;refine#[a,S,G,hk,rfl,s,r,(Er h).imp ?_];rintro v _ ⟨b,d,W,rfl,x,s1,q,_,h1⟩;refine#[b,S,W,x.k.trans hk,rfl,s1,r.mono x,(fb h1).imp ?_];rintro l _ ⟨c,Z,rfl,y,s2,_,Y⟩;refine#[c,S,Z,y.k.trans .A3,rfl,s2,(r.mono x).mono y,(fb Y).imp ?_];rintro u _ ⟨C,J,rfl,O,F,_,g⟩;have m:=O.k.trans .J9;have L:=(q.mono y).mono O
 have lst:out E C (match Ha d J with |some w=>.ok (.ref J.length) (J++[.lst (cutD w l u)])|none=>.bad) Q->rSlL X.K v l u C.H Q:=λg=>by
  split at g
  .rename_i w hx;let#[p,j,I,B,A]:=Rz F L hx;exact#[p,j,I,by rw[<-m];exact B,λp hp=>Ji F (.cutD A l u) g p hp]
  exact g.elim
 cases d with
 |str z=>
  have n:out E C (if z.length<=1000000 then .ok (.str (Jr z l u)) J else .bad) Q:=g;split at n
  .rename_i M;cases(L);exact .inr (.inr (.inr #[z,rfl,zx M WH,n C _ .IM F rfl]))
  exact n.elim
 | tup w=>
  have n:=g;let#[p,j,I,B,A]:=L;by_cases hw:HT.YE j.length 0 l=0/\HT.YE j.length j.length u=j.length
  .refine .inr (.inr (.inl #[p,j,I,by rw[<-m];exact B,hw,n C _ .IM F #[p,j,rfl,B,?_]]));have:cutD w l u=w:=by unfold cutD;rw[A.length,hw.1,hw.2,<-A.length];simp
   rw[this];exact A
  exact .inr (.inl #[p,j,I,by rw[<-m];exact B,hw,λp hp=>U8 F (.cutD A l u) n p hp])
 |fl w|ref i=>exact .inl (lst g)
 |_=>exact(g).elim
def isS:D->Bool
 |.str _=>u9
 |_=>uA
def De(f:D->List D->DH->R D)(o:DE)(t:DA):DE:=λS G=>(o S G).bind λx G1=>if isS x=u9 then(t S G1).bind λxs G2=>f x xs G2 else .bad
section
variable{name:Str}{id:String}{f:D->List D->DH->R D}{o e:xD}{es:List xD}{to:DE}{t:DA}{apos WG:Pos}
def Dj(m:Slot "str" name id)(p:typeOf .BO=pure (.type "method_descriptor"))(M:VZ X id .Ih)(ho:QE X E o to)(O:QA X E (e::es) t)
  (i:xP o name X.env .B0=eval o X.env:=by rfl)
  (l:((xR WG (vv (e::es) X.env)).all (λx=> !x.1)&&(xS WG (vW [] X.env)).all (λx=>x.1.isSome)
   && decide ((e::es).length+([]:List Keyword).length+(if([]:List Keyword).isEmpty then 0 else 1)<30))=u9:=by rfl)
  (j:(apos.endLine==WG.line)=u9:=by rfl) (C:vv (e::es) X.env=(uA,eval e X.env)::vv es X.env:=by rfl) (g:(xR WG .BH).any (·.1)=uA:=by rfl):
  QE X E (.Call .C0 (e::es) [] WG) (De f to t):=(eP PySem.F.plainAttrs_str m p M ho O i l j C g).mono λT H Q h=>by
 let#[a,S,G,hk,rfl,s,r,h]:=h;refine#[a,S,G,hk,rfl,s,r,(Er h).imp ?_];rintro v _ ⟨b,d,u,rfl,x,L,q,-,n⟩;split at n
 .rename_i N;have ty:tyV X.K "str" v b.H:=by
   cases d with
   |str z=>cases(q);exact rfl
   |_=>cases N
  refine#[ty,b,S,u,x.k.trans hk,rfl,L,r.mono x,(M9 n).imp ?_];rintro P _ ⟨c,J,A,rfl,y,I,B,-,w⟩;exact#[c,A,d,J,y.k.trans .A3,rfl,I,q.mono y,B,w]
 exact n.elim
end
def Pu:List D->Option .HM
 |[]=>u7 []
 |.str x::r=>(Pu r).map (x::·)
 |_=>u8
@[simp]theorem TY(ns):Pu .AN=u7 ns:=by
 induction ns with
 |nil=>rfl
 |cons n ns a=>simp[Pu,a]
theorem fc:∀{xs:List D}{ns:List Str},Pu xs=u7 ns->xs=ns.map D.str
 |[],ns,h=>by cases h;rfl
 |.str i::r,ns,h=>by
  unfold Pu at h;rw[qK]at h;let#[m,e,rfl]:=h;rw[fc e]
  rfl
 |.WB::_,_,h | .bl _::_,_,h | .int _::_,_,h | .ty _::_,_,h | .tup _::_,_,h | .fl _::_,_,h | .ref _::_,_,h=>by cases h
def Af(sep:List Nat):List .Bo->List Nat
 |[]=>[]
 |[x]=>x
 |x::y::r=>x++sep++Af sep (y::r)
def Hb(o:D)(ds:List D)(G:DH):R D:=match o,ds with
 | .str sep,[d]=>match Bf d G with
  |some xs=>match Pu xs with
   |some ys=>if(ys.map (·.length)).sum+ys.length*sep.length<=1000000 then .ok (.str .Gl) G else .bad
   |none=>.bad
  |none=>.bad
 |_,_=>.bad
theorem aw:∀{ys:List Str}{us:List xM},Vals (ys.map V.str) us->StrsAre us ys
 |[],us,r=>by cases r;exact .nil
 | y::ys,us,r=>by
  cases r with
  |cons h t=>
   let#[a,rfl]:=h;exact .cons _ _ (aw t)
theorem fe:∀{ys:List Str}{vs:List V},YA a .H2 vs->vs=ys.map V.str
 |[],vs,r=>r
 |y::ys,vs,r=>by
  let#[v,w,rfl,c,b]:=r;cases(c);rw[fe b]
  rfl
def Oj:VZ X "str.join" (lRm X.K E Hb):=λz s Y H x W v Z Q I A N h=>by
 let#[a,G,d,P,hk,rfl,m,J,r,q]:=h;unfold Hb at q;split at q
 .rename_i F e;let#[w,rfl,l]:=XH r;cases(J);let#[t,rfl]:=A;split at q
  .rename_i T B;split at q
   .rename_i O C;split at q
    .rename_i n;let#[p,U,rfl,b,y]:=Ku m l B;rw[fc C]at y;have M:=fe y;subst M;let#[u,rfl,L]:=vals1 N;cases L;rw[hk]at b;rcases b with b|b
     .let#[j,c,g,_]:=I.list b;exact join_list g.isList (by simpa using aw c) (zx n .c) λi k=>#[.str _,a.H,I.tok k,#[i,rfl],q a _ .AG m rfl]
     let#[j,c,g,_]:=I.tuple b;exact join_tuple g (by simpa using aw c) (zx n .c) λi k=>#[.str _,a.H,I.tok k,#[i,rfl],q a _ .AG m rfl]
    exact q.elim
   exact q.elim
  exact q.elim
 exact q.elim
def N7(o:D)(ds:List D)(G:DH):R D:=match o,ds with
 |.str x,[.str y]=>.ok (.bl .Fi) G
 |_,_=>.bad
def ax:VZ X "str.startswith" (lRm X.K E N7):=λc s l H x z v m Q I j i h=>by
 let#[a,G,d,n,hk,rfl,k,g,r,q]:=h;unfold N7 at q;split at q
 .rename_i A y;let#[w,rfl,b]:=XH r;cases(g);cases(b);let#[t,rfl]:=j;let#[u,rfl,p,rfl]:=vals1 i;exact SC.startswith #[.bl _,a.H,I,rfl,q a _ .AG k rfl]
 exact q.elim
end
section
variable{S:ZK}{G:DH}
@[simp]theorem ev_Sl{e:DE}{b a:Option DE}:ZY e b a S G=(e S G).bind λd c=>(Mx b S c).bind λl i=>(Mx a S i).bind λh g=>M7 d l h g:=id rfl
@[simp]theorem TZ:Mx u8 S G=.ok u8 G:=id rfl
@[simp]theorem Ta:Mx (u7 t) S G=(t S G).bind λd a=>match d with | .int i=>.ok (u7 i) a|_=>.bad:=id rfl
@[simp]theorem ff{z:Str}{b a:Option Int}:M7 .G2 b a G=if z.length<=1000000 then .ok (.str (Jr z b a)) G else .bad:=id rfl
@[simp]theorem ev_slT{xs:List D}{a b:Option Int}:M7 .Aj a b G=.ok (.tup .Ik) G:=id rfl
@[simp]theorem ev_slF{xs:List D}{a b:Option Int}:M7 .D0 a b G=.ok .AH (G++[.lst .Ik]):=id rfl
@[simp]theorem ev_MtS:De f o t S G=(o S G).bind λx b=>if isS x=u9 then(t S b).bind λxs a=>f x xs a else .bad:=id rfl
@[simp]theorem ev_isS:isS .Af=u9:=id rfl
@[simp]theorem Tb:N7 .Af [.str y] G=.ok (.bl .Fi) G:=id rfl
@[simp]theorem ev_itS:Em .Af G=.ok (.pure .IP) G:=id rfl
@[simp]theorem Tl:Nv [.tup xs] G=.ok .AH (G++[.lst xs]):=id rfl
@[simp]theorem C2:Dw .D0 (.fl ys) G=if xs.length+ys.length<=1000000 then .ok .AH (G++[.lst (xs++ys)])else .bad:=id rfl
@[simp]theorem C4:Cg .G2 .AM G=if z.length<=1000000 then(match ZJ z.cps.toList i with |some c=>.ok .D1 G|none=>.bad)else .bad:=id rfl
def C5(h:(ys.map (·.length)).sum+ys.length*sep.length<=1000000):Hb (.str sep) [.fl .H2] G=.ok (.str .Gl) G:=by simp[Hb,h]
end
section
open Builtin.Str
section
variable(p:Nat->Bool)(m:Nat)
def Kf(i:Nat)(st:Array Nat×Nat):Id (ForInStep (Array Nat×Nat)):=
 if(decide (st.1.size<1)&&decide (st.2<=i)&&p i)=u9 then pure (ForInStep.yield (st.1.push i,i+m))else pure (ForInStep.yield (st.1,st.2))
theorem fg:∀(l:List Nat)st,st.1.size=1->(forIn l st (Kf p m):Id _)=pure st
 |[],st,_=>rfl
 |i::l,st,h=>by
  rw[j5];have:Kf p m i st=pure (.yield st):=by unfold Kf;rw[if_neg (by simp[h])]
  rw[this];exact fg l st h
theorem occ_first(a):∀(l:List Nat),(∀i∈l,a<=i)->((forIn l ([].toArray,a) (Kf p m):Id (Array Nat×Nat))).run.1.toList=(l.find? p).toList
 |[],_=>rfl
 | i::l,h=>by
  rw[j5];by_cases hp:p i=u9
  .have:Kf p m i ([].toArray,a)=pure (.yield ([i].toArray,i+m)):=by
    unfold Kf;rw[if_pos (by simp[hp,h i .d])]
    rfl
   rw[this];show(Id.run (forIn l ([i].toArray,i+m) (Kf p m))).1.toList=_;simp[fg p m l ([i].toArray,i+m) rfl,hp]
  have:Kf p m i ([].toArray,a)=pure (.yield ([].toArray,a)):=by unfold Kf;rw[if_neg (by simp[hp])]
  rw[this];have:=occ_first a l (λj b=>h j .DV);rw[List.find?_cons_of_neg hp];exact this
end
def occ1(s sub)(a b):occurrences s sub a b 1=((qF a (b+1-a)).find? (λi=>decide (i+sub.length<=b)&&subAt s sub i)).toList:=by
 simp only[occurrences,Std.Legacy.Range.forIn_eq_forIn_range',Std.Legacy.Range.size,Nat.add_one_sub_one,Nat.div_one];have:=occ_first (λi=>decide (i+sub.length<=b)&&subAt s sub i) sub.length a (.range' a (b+1-a)) (λi c=>by rw[jZ]at c;exact c.1);rw[<-this];unfold Kf;simp only[<-Bool.and_assoc]
 rfl
def fh(s sub)(i)(h:i+sub.length<=s.length):subAt s sub i=u9↔(s.cps.toList.drop i).take sub.length=sub.cps.toList:=by unfold subAt;rw[beq_iff_eq,<-Array.toList_inj];simp
def contains1(s)(c):(!(occurrences s #[[c].toArray] 0 s.length 1).isEmpty)=decide (c∈s.cps.toList):=by
 rw[occ1];have a:(#[[c].toArray]:Str).length=1:=rfl;rw[a];by_cases h:c∈s.cps.toList
 .let#[i,d,e]:=List.mem_iff_getElem.mp h;have l:i<s.length:=by simpa[Str.length]using d
  have b:((qF 0 (s.length+1-0)).find? (λi=>decide (i+1<=s.length)&&subAt s #[[c].toArray] i)).isSome=u9:=by rw[List.find?_isSome];refine#[i,by rw[jZ];lia,?_];rw[zN];refine#[decide_eq_true .a,?_];simp[fh s #[[c].toArray] i (by rw[a];lia),a,zH d,e]
  rcases k:(qF 0 (s.length+1-0)).find? (λi=>decide (i+1<=s.length)&&subAt s #[[c].toArray] i)with _|j
  .rw[k]at b;cases b
  simp[h]
 have b:(qF 0 (s.length+1-0)).find? (λi=>decide (i+1<=s.length)&&subAt s #[[c].toArray] i)=u8:=by
  rw[List.find?_eq_none];intro i d hp;rw[zN]at hp;have g:i+1<=s.length:=by simpa using hp.1
  have f:=(fh s #[[c].toArray] i (by rw[a];lia)).mp hp.2;rw[a,zH (zY (qA i) (by simpa[Str.length]using g))]at f;simp at f;exact h (by simp[<-f])
 rw[b];simp[h]
theorem C6(a):∀xs,(Txt.join a xs).cps.toList=Af a.cps.toList (xs.map (·.cps.toList))
 |[]=>rfl
 |[x]=>by simp[Txt.join,glued,Af]
 | x::y::r=>by
  have c:∀(r:List Str)b,(r.foldl (λb p=>b++a.cps++p.cps) b).toList=b.toList++(r.map λp=>a.cps.toList++p.cps.toList).flatten:=by
   intro r
   induction r with
   |nil=>intro b;simp
   |cons p r d=>intro b;rw[List.foldl_cons,d];simp
  have j:∀(x:Str)r,Af a.cps.toList ((x::r).map (·.cps.toList))=x.cps.toList++(r.map λp=>a.cps.toList++p.cps.toList).flatten:=by
   intro x r
   induction r generalizing x with
   |nil=>simp[Af]
   |cons p r d=>
    have:=d p;simp at this⊢;simp[Af,this]
  rw[j];show(glued a (x::y::r)).cps.toList=_;simp only[glued,List.drop_one,List.tail_cons,List.headD_cons];rw[c]
def i?(g:DG)(c:DB)(te:DE)(S:ZK)(G:DH)(x:D)(r:Option D):Prop:=
 ∃S1,g x S G=.ok S1 G/\((c S1 G=.ok uA G/\r=u8)\/(c S1 G=.ok u9 G/\∃d,te S1 G=.ok d G/\r=u7 d))
theorem N8:∀{xs:List D},(∀x∈xs,i? g c te S G x (F x))->Bj g c te S xs G=.ok .En G
 |[],_=>rfl
 |x::xs,h=>by
  let#[k,f,a]:=h x .d;have e:=N8 (λy i=>h y .I2);rw[Li,f];rcases a with⟨a,b⟩|⟨a,d,b,j⟩
  .simp[a,b,e]
  simp[a,b,j,e]
theorem fi(e:G[i]?=u7 .AI)(h:∀x∈xs,i? g c te S G x (F x)):
  ∀n j,j+n=xs.length->Ek i g c te S n j G=.ok ((xs.drop j).filterMap F) G
 |0,j,o=>by
  unfold Ek;rw[e];simp only;rw[if_pos .a,qY .a]
  rfl
 |n+1,j,o=>by
  have a:j<xs.length:=.a
  have k:=fi e h n (j+1) .a;let#[r,l,b]:=h xs[j] (qX a);unfold Ek;rw[e];simp[zJ a,l];rw[zH a,qD];rcases b with⟨b,f⟩|⟨b,d,f,q⟩
  .simp[b,f,k]
  simp[b,f,q,k]
def fj(a:G[i]?=u7 .AI)(h:∀x∈xs,i? g c te S G x (F x)):
  Ek i g c te S xs.length 0 G=.ok .En G:=fi a h xs.length 0 .a
def U0{x y:Str}(h:x.cps.toList=y.cps.toList):x=y:=by let#[a]:=x;simp only at h;rw[Array.toList_inj.mp h]
def C7{x y:Str}:x=y↔x.cps.toList=y.cps.toList:=#[λh=>by rw[h],U0]
end
inductive Src where
 |l (a:xB)
 |t (a:xB)
def Src.t?:Src->String
 |.l _=>"list_iterator"
 |.t _=>"tuple_iterator"
def Src.WK:Src->xB
 |.l a=>a
 |.t a=>a
def Src.it(h:Heap)(p:xB)(k:Nat)(sr:Src):Prop:=∃o,h.get? p=u7 o/\o.cls=.type sr.t?/\o.data=.fields [.ref sr.WK,.int k 0].toArray
def Src.val(h:Heap)(xs:Array xM):Src->Prop
 |.l a=>h.IsList a xs
 |.t a=>h.IsTuple a xs
def Src.it.at{a:Src}{h h':Heap}{p:xB}{k:Nat}(x:a.it h p k)(e:∀o,h.get? p=u7 o->h'.get? p=u7 o):a.it h' p k:=let#[o,b,r]:=x;#[o,e o b,r]
theorem Src.val.at{b:Src}{h h':Heap}{xs:Array xM}(x:b.val h xs)(e:∀o,h.get? b.WK=u7 o->h'.get? b.WK=u7 o):b.val h' xs:=by
 cases b with
 |_=>let#[o,c,r]:=x;exact#[o,e o c,r]
def Src.it.lt{a:Src}{h:Heap}{p:xB}{k:Nat}(x:a.it h p k):p<h.objs.size:=let#[_,b,_]:=x;zA b
section
variable{prog:xG}{w:xN}{A:xC}{E:xM->xI->Prop}{s:xI}
theorem Src.val.obj{c:Src}{h:Heap}{xs:Array xM}(x:c.val h xs):∃o n,h.get? c.WK=u7 o/\o.data=.seq xs n:=by
 cases c with
 |_=>let#[o,d,_,n,b]:=x;exact#[o,n,d,b]
def Src.y'{f:Src}{p:xB}{k:Nat}{xs:Array xM}{x:xM}{Q:xM->xI->Prop}(d:f.it s.heap p k)(n:f.val s.heap xs)(r:xs[k]?=u7 x)
  (i:∀h',f.it h' p (k+1)->qR p s.heap h'->Q x {s with heap:=h'}):vA .AC A .Kz Q E s:=by
 rcases f with a|a
 .exact wpAny_nextOf_list_item (d) n r i
 let#[o,e,q,c]:=id d;let#[u,h,_,v,g]:=n;have j:s.TypeIs .AL "tuple_iterator":=#[o,e,q];refine vC (vD j je (vE je j wM ?_ (wO _)));refine vC (m:=field .AL 0) (vF e c (x:=.ref a) rfl ?_);refine vC (vF e c rfl (vC (wpAny_seqItems h g ?_)))
 simp[r];refine vC (wpAny_setField e c .d (vM #[x,rfl,vM (i _ #[_,xW _ e (Obj.isFreed_of_fields (Obj.data_mapFields c _)),(Obj.cls_mapFields ..).trans q,?_] (.update ..))]));simp[Obj.data_mapFields c,vz]
def Src.j?{f:Src}{p:xB}{k:Nat}{xs:Array xM}{Q:xM->xI->Prop}(j:A.handled=u8)(c:f.it s.heap p k)(q:f.val s.heap xs)(u:xs[k]?=u8)
  (r:∀h' e,Heap.ExtBut p s.heap h'->(∃o,h'.get? e=u7 o/\o.cls=.type "StopIteration")->E .BL {s with heap:=h'}):vA .AC A .Kz Q E s:=by
 rcases f with a|a
 .exact wpAny_nextOf_list_end j (c) q u r
 let#[o,d,v,g]:=id c;let#[y,i,_,z,h]:=q;have n:s.TypeIs .AL "tuple_iterator":=#[o,d,v];refine vC (vD n je (vE je n wM ?_ (wO _)));refine vC (m:=field .AL 0) (vF d g (x:=.ref a) rfl ?_);refine vC (vF d g rfl (vC (wpAny_seqItems i h ?_)))
 simp[u];refine vC (wpAny_rule (vC (wpAny_setField d g .d (vC ?_))))
 refine vC (vI (vC (wpAny_of_eq (by first|rfl|(simp;rfl)) (vI ?_ (by size_fits)))) (by size_fits))
 refine vC (wpAny_handled ?_)
 first|rw[j]|rw[j]
 exact vC (vM (wpAny_throw (r _ _ (((qR.update ..).extBut.push _).push _) #[_,zD _ rfl,rfl])))
def Src.iter{c:Src}{xs:Array xM}{Q:xM->xI->Prop}(e:c.val s.heap xs)
  (f:Q .AU {s with heap:=s.heap.push {cls:=.type c.t?,data:=.fields [.ref c.WK,.int 0 0].toArray}}):vA .AC A (pyIter (.ref c.WK)) Q E s:=by
 rcases c with a|a
 .exact wpAny_pyIter_list e f
 exact wpAny_pyIter_tuple e f
end
abbrev En(h:Heap)(e it:xB)(f0:xM)(i:Int)(g old:xM):Prop:=
 h.get? e=u7 {cls:=.type "enumerate",dict:=u8,data:=.fields [f0,.bool uA,.ref it,vz i,g,old].toArray,slots:= [].toArray}
def Gv(i:Int)(g:xM):Prop:=g=.none\/∃t,g=.int i t
section
variable{prog:xG}{w:xN}{A:xC}{E:xM->xI->Prop}{s:xI}
def C8{sr:Src}{e it:xB}{k:Nat}{i:Int}{xs:Array xM}{x g z:xM}{Q:xM->xI->Prop}(he:En s.heap e it .none i g z)(hg:Gv i g)(hit:sr.it s.heap it k)(hv:sr.val s.heap xs)(hx:xs[k]?=u7 x)(K:e≠it)
  (hQ:∀h' t tk,En h' e it .Dc (i+1) .none x->sr.it h' it (k+1)->h'.get? s.heap.objs.size=u7 {cls:=.type "tuple",data:=.seq [.int i t,x].toArray}->h'.objs.size=s.heap.objs.size+1->
   (∀b o,b≠e->b≠it->s.heap.get? b=u7 o->h'.get? b=u7 o)->Q .AU {s with heap:=h',toks:=tk}):
  vA .AC A (Builtin.«enumerate.__next__» #[[.ref e],[]]) (λO s'=>∃v,O=.done (.ret v)/\Q v s') E s:=by
 let#[hp,gg,d,tk,os]:=s;refine vC (m:=field .BL 2) (vF he rfl rfl (vC (Src.y' hit hv hx λU J p=>?_)));have n:=(p.2 e K).trans he;refine vC (vF n rfl rfl ?_);refine vC (vF n rfl (x:=g) rfl ?_)
 have rest:∀t P,vA .AC A (do
   setField .BL 3 (vz (i+1));setField .BL 4 .none
   let result<-newTuple [.int i t,x]
   if<-uw (.ref e)then
    rule "enumerate.__next__.owned-tuple-again"
    let z<-field .BL 5
    setField .BL 5 x
    uk .BL result
    PySem.letGo [z] [result]
   ret result) (λO s'=>∃v,O=.done (.ret v)/\Q v s') E #[U,gg,d,P,os]:=by
  intro t P;refine vC (vN n .d λh₂ S j=>?_);refine vC (vN S .d λH l h=>?_);have y:H.objs.size=hp.objs.size:=by rw[h.1,j.1];exact p.1
  refine vC (wpAny_newTuple ?_);generalize c:H.push {cls:=.type "tuple",data:=.seq [Value.int i t,x].toArray}=f;have u:En f e it .none (i+1) .none z:=by rw[<-c];exact zQ _ l
  have N:f.get? hp.objs.size=u7 {cls:=.type "tuple",data:=.seq [.int i t,x].toArray}:=by rw[<-c,<-y];exact zD _ rfl
  have z₄:f.objs.size=hp.objs.size+1:=by rw[<-c,qI,y]
  have k₄:∀b o,b≠e->b≠it->hp.get? b=u7 o->f.get? b=u7 o:=λb o M W q=>by rw[<-c];exact zQ _ ((λb o M W q=>h.extBut b o M (j.extBut b o M ((λb o _ Z q=>p.extBut b o Z q) b o M W q))) b o M W q)
  have X:sr.it f it (k+1):=((J.at λo q=>j.extBut it o .IR q).at λo q=>h.extBut it o .IR q).at λo q=>by rw[<-c];exact zQ _ q
  have ez:=zA he;refine vC ?_;refine vC (vF u rfl rfl (vM ?_));refine vC (wpAny_rule (vC (vF u rfl (x:=z) rfl (vC (vN u .d λY r B=>?_)))))
  replace r:En Y e it .none (i+1) .none x:=r
  refine vC ?_;refine vC (vN r .d λh₆ T C=>?_);refine vN T .d λL I F=>?_
  refine vC (wpAny_letGo (vM #[_,rfl,?_]));have up:∀b o,b≠e->f.get? b=u7 o->L.get? b=u7 o:=λb o Z q=>F.extBut b o Z (C.extBut b o Z (B.extBut b o Z q))
  rw[y];rw[y]at I;exact hQ L t P I (X.at λo q=>up it o .IR q) (up _ _ (j3 ez) N) (by rw[F.1];rw[C.1,B.1];exact z₄) λb o M W q=>up b o M (k₄ b o M W q)
 rcases hg with rfl|⟨t,rfl⟩
 .exact vC (wpAny_mkInt (rest tk (tk+1)))
 exact vC (vM (rest t tk))
def C9{c:Src}{e it:xB}{k:Nat}{i:Int}{xs:Array xM}{x g h:xM}{Q:Option xM->xI->Prop}(m:En s.heap e it .none i g h)(p:Gv i g)(d:c.it s.heap it k)(q:c.val s.heap xs)(B:xs[k]?=u7 x)(f:e≠it)
  (y:∀h' t tk,En h' e it .Dc (i+1) .none x->c.it h' it (k+1)->h'.get? s.heap.objs.size=u7 {cls:=.type "tuple",data:=.seq [.int i t,x].toArray}->h'.objs.size=s.heap.objs.size+1->
   (∀b o,b≠e->b≠it->s.heap.get? b=u7 o->h'.get? b=u7 o)->Q (u7 .AU) {s with heap:=h',toks:=tk}):
  vA .AC A (pyNext .BL) Q E s:=by
 have l:s.TypeIs .BL "enumerate":=#[_,m,rfl];exact vC (wpAny_attempt (vD l jg
  (vE jg l wS (C8 m p d q B f λh' t tk z u r n v=>vM (y h' t tk z u r n v)) (wa _))))
def Cb{l:Src}{e it:xB}{k:Nat}{i:Int}{xs:Array xM}{g c:xM}{Q:Option xM->xI->Prop}(r:A.handled=u8)(j:En s.heap e it .none i g c)(b:l.it s.heap it k)(p:l.val s.heap xs)(u:xs[k]?=u8)
  (n:∀h',Heap.ExtBut it s.heap h'->Q u8 {s with heap:=h'}):vA .AC A (pyNext .BL) Q E s:=by
 have h:s.TypeIs .BL "enumerate":=#[_,j,rfl];refine vC (wpAny_attempt (vD h jg
  (vE jg h wS (vC (m:=field .BL 2) (vF j rfl rfl (vC (Src.j? r b p u λh' x f d=>?_)))) (wa _))))
 let#[o,t,q]:=d;exact vC (wpAny_isInstance #[o,t,q] isSubtype_stop (vM (n _ f)))
def Cc{elts:List xD}{x1}{pos:Pos}{e it a:xB}{i:Int}{g c:xM}{Q:Unit->xI->Prop}(h:En s.heap e it (vz a) i g c)
  (j:∀h',En h' e it .none i g c->qR e s.heap h'->Q () {s with heap:=h'}):vA .AC A (vK .Dl .BL .Aq) Q E s:=by
 refine vC (wpAny_load h ?_);dsimp only;rw[if_pos .d];exact vC (wpAny_rule (vN h .d λh' d f=>j h' d f))
def ay(b:En s.heap e it f0 i g old)(h:Q .BL s):vA .AC A (pyIter .BL) Q E s:=by have a:s.TypeIs .BL "enumerate":=#[_,b,rfl];exact wpAny_pyIter_slot a wb (vE wb a PySem.F.entry_enumerate_iter (vM #[_,rfl,"enumerate",_,a,PySem.F.slot_enumerate_next.lookup,h]) (PySem.F.args_enumerate_iter_1 _))
end
abbrev Tp(h:Heap)(T:xB)(xs:List xM):Prop:=h.get? T=u7 {cls:=.type "tuple",data:=.seq xs.toArray}
inductive Drw (h:Heap) (i:Nat):List (Src×xB)->List xM->Prop where
 |nil:Drw h i [] []
 |cons {sr p r x us xs} (hit:Src.it h p i sr) (hv:sr.val h xs) (hx:xs[i]?=u7 x) (t:Drw h i r us):Drw h i ((sr,p)::r) (x::us)
theorem Drw.length(d:Drw h i l us):us.length=l.length:=by
 induction d with
 |nil=>rfl
 |cons _ _ _ _ a=>simp[a]
section
variable{prog:xG}{w:xN}{A:xC}{E:xM->xI->Prop}{s:xI}
def Cf(b:Tp s.heap T xs)(hz:xs.length<=1000000)
  (h:∀h',Tp h' T (xs.set k x)->qR T s.heap h'->Q () {s with heap:=h'}):vA .AC A (updateSeq T (·.setIfInBounds k x)) Q E s:=by
 have c:=z0▸zx hz WH;refine wpAny_updateSeq b rfl (h _ ?_ (.update ..)) c (by rw[Array.size_setIfInBounds];exact Nat.le_succ_of_le c);show(s.heap.update T _).get? T=_;rw[xW _ b rfl];simp[Obj.mapSeq]
def ZS(prog:xG)(w:xN)(A:xC)(E:xM->xI->Prop)(z TO p:xB)(k:Nat)(R:xI->Prop)(s:xI):Prop:=
 vA .AC A .Kz (λx s1=>∃os,Tp s1.heap TO os/\os.length<=1000000/\∀h',Tp h' TO (os.set k x)->qR TO s1.heap h'->R {s1 with heap:=h'})
  (λe s'=>vA .AC A .KA (λ_ s''=>E e s'') E s') s
def fm{z TO p:xB}{k i:Nat}{r:Src}{xs:Array xM}{x:xM}{q:List xM}{Q:xI->Prop}(l:Tp s.heap TO q)(hz:q.length<=1000000)(j:r.it s.heap p i)(y:r.val s.heap xs)(F:xs[i]?=u7 x)
  (h:∀h',Tp h' TO (q.set k x)->r.it h' p (i+1)->(∀b o,b≠TO->b≠p->s.heap.get? b=u7 o->h'.get? b=u7 o)->h'.objs.size=s.heap.objs.size->Q {s with heap:=h'}):ZS prog w A E z TO p k Q s:=by
 have m:TO≠p:=λe=>by
  let#[o,u,C,_]:=j;rw[<-e,l]at u;cases u
  cases r<;>(simp[Src.t?]at C)
 exact Src.y' j y F λt f d=>#[q,d.extBut _ _ m l,hz,λn g c=>(h n g (f.at λo e=>c.extBut _ _ (.symm m) e) (λb o B v e=>c.extBut b o B (d.extBut b o v e)) (by rw[c.1,d.1]))]
theorem fo{z TO:xB}{i:Nat}{m:xM×Nat->Option Fin×PUnit->Sem (ForInStep (Option Fin×PUnit))}{R:Option Fin×PUnit->xI->Prop}
  (hb:∀p k s R',ZS prog w A E z TO p k (λs'=>R' (.yield (u8,#[])) s') s->
   vA .AC A (m (.ref p,k) (u8,#[])) R' E s):
  ∀l us pre post s,Drw s.heap i l us->Tp s.heap TO (pre++post)->post.length=l.length->(pre++post).length<=1000000->(l.map (·.2)).Nodup->(∀q∈l,q.1.WK≠TO)->(∀q∈l,∀r∈l,q.1.WK≠r.2)->
   (∀h',Tp h' TO (pre++us)->(∀q∈l,q.1.it h' q.2 (i+1))->(∀b o,b≠TO->b∉l.map (·.2)->s.heap.get? b=u7 o->h'.get? b=u7 o)->h'.objs.size=s.heap.objs.size->R (u8,#[]) {s with heap:=h'})->
   vA .AC A (forIn ((l.map λq=>Value.ref q.2).zipIdx pre.length) (u8,#[]) m) R E s
 | [],us,pre,post,s,d,H,u,J,O,N,C,M=>by
  cases d;cases post with
  |cons _ _=>simp at u
  |nil=>
   exact vM (M s.heap H (λq a=>by cases a) (λb o _ _ e=>e) rfl)
 | (P,p)::l,us,pre,post,s,d,H,u,J,O,N,C,M=>by
  cases d with
  |@cons _ _ _ x us xs h hv hx d=>
  rcases post with _|⟨y,post⟩
  .simp at u
  rw[zk,List.zipIdx_cons,j5];refine vC (hb p pre.length s _ (fm H J h hv hx λh' g it' kp sz=>?_));have X:(pre++y::post).set pre.length x=(pre++[x])++post:=.d
  rw[X]at g;have W:pre.length+1=(pre++[x]).length:=.d
  rw[W]
  have f:p∉l.map (·.2)/\(l.map (·.2)).Nodup:=by simpa using O
  have j:∀q∈l,q.2≠TO:=λq a e=>by
   have:∃P k,Src.it s.heap q.2 k P:=by
    clear M N C O f X W u g J
    induction d with
    |nil=>cases a
    |cons h _ _ _ U=>
     rcases zj.mp a with rfl|a
     .exact#[_,_,h]
     exact U a
   let#[sr',k,o,L,Y,_]:=this;rw[e,H]at L;cases L
   cases sr'<;>(simp[Src.t?]at Y)
  have d':Drw h' i l us:=by
   have F:∀q∈l,q.1.WK≠TO:=λq a=>N q .Bm
   have I:∀q∈l,q.1.WK≠p:=λq a=>C q .Bm (P,p) zW
   have pp:∀q∈l,q.2≠p:=λq a e=>f.1 (zw.mpr #[q,a,e])
   clear M N C O f X W u g J
   induction d with
   |nil=>exact .nil
   |@cons sr1 p1 r1 x1 us1 xs1 B T Z t1 U=>
    exact .cons (B.at λo e=>kp _ o (j _ zW) (pp _ zW) e) (T.at λo e=>kp _ o (F _ zW) (I _ zW) e) Z (U (λq a=>j q .Bm) (λq a=>F q .Bm) (λq a=>I q .Bm) (λq a=>pp q .Bm))
  refine fo hb l us (pre++[x]) post {s with heap:=h'} d' g (by simpa using u) (by simpa using J) f.2 (λq a=>N q .Bm) (λq a r hr=>C q .Bm r (zZ _ hr)) λS Q t n v=>?_
  have K:p≠TO:=λe=>by
   let#[o,L,Y,_]:=h;rw[e,H]at L;cases L
   cases P<;>(simp[Src.t?]at Y)
  refine M S (by simpa using Q) (λq a=>?_) (λb o b1 b2 e=>?_) (v.trans sz)
  .rcases zj.mp a with rfl|a
   .exact it'.at λo e=>n _ o K f.1 e
   exact t q a
  simp only[zk,zj,not_or]at b2;exact n b o b1 b2.2 (kp b o b1 b2.1 e)
end
inductive j' (h:Heap) (i:Nat):List (Src×xB)->Prop where
 |here {sr p r xs} (hit:Src.it h p i sr) (hv:sr.val h xs) (hx:xs[i]?=u8):j' h i ((sr,p)::r)
 |there {sr p r x xs} (hit:Src.it h p i sr) (hv:sr.val h xs) (hx:xs[i]?=u7 x) (t:j' h i r):j' h i ((sr,p)::r)
structure ApZ (TO:xB) (l:List (Src×xB)):Prop where
 nd:(l.map (·.2)).Nodup
 na:∀q∈l,q.1.WK≠TO
 np:∀q∈l,∀r∈l,q.1.WK≠r.2
 to:∀q∈l,q.2≠TO
def ApZ.tail{TO:xB}{q:Src×xB}{l:List (Src×xB)}(a:ApZ TO (q::l)):ApZ TO l:=
 #[(qS.mp (by simpa using a.nd)).2,λq b=>a.na q .DV,λq b r c=>a.np q .DV r .Fj,λq b=>a.to q .DV]
section
variable{prog:xG}{w:xN}{A:xC}{E:xM->xI->Prop}{s:xI}
theorem j'.at{TO p:xB}{u:Src}{i:Nat}{h h':Heap}{l:List (Src×xB)}(a:ApZ TO ((u,p)::l))(j:∀b o,b≠TO->b≠p->h.get? b=u7 o->h'.get? b=u7 o)(d:j' h i l):j' h' i l:=by
 have n:∀q∈l,q.2≠p:=λq f e=>(qS.mp (by simpa using a.nd)).1 (zw.mpr #[q,f,e])
 have k:∀q∈l,q.1.WK≠p:=λq f=>a.np q .I4 (u,p) zW
 have g:=a.tail;clear a
 induction d with
 |here c m r=>exact .here (c.at λo e=>j _ o (g.to _ zW) (n _ zW) e) (m.at λo e=>j _ o (g.na _ zW) (k _ zW) e) r
 | there c m r t v=>
  exact .there (c.at λo e=>j _ o (g.to _ zW) (n _ zW) e) (m.at λo e=>j _ o (g.na _ zW) (k _ zW) e) r
   (v (λq f=>n q .I4) (λq f=>k q .I4) g.tail)
theorem fq{z TO:xB}{i:Nat}{f:xM×Nat->Option Fin×PUnit->Sem (ForInStep (Option Fin×PUnit))}{R:Option Fin×PUnit->xI->Prop}(M:A.handled=u8)
  (J:∀p k s K,ZS prog w A E z TO p k (λs'=>K (.yield (u8,#[])) s') s->
   vA .AC A (f (.ref p,k) (u8,#[])) K E s):
  ∀l m n s,j' s.heap i l->Tp s.heap TO m->m.length<=1000000->ApZ TO l->
   (∀h' e,(∀b o,b≠TO->b∉l.map (·.2)->s.heap.get? b=u7 o->h'.get? b=u7 o)->(∃o,h'.get? e=u7 o/\o.cls=.type "StopIteration")->vA .AC A .KA (λ_ F=>E .BL F) E {s with heap:=h'})->
   vA .AC A (forIn ((l.map λq=>Value.ref q.2).zipIdx n) (u8,#[]) f) R E s
 |[],m,n,s,d,I,B,a,y=>by cases d
 |(P,p)::l,m,n,s,d,I,B,a,y=>by
  rw[zk,List.zipIdx_cons,j5];refine vC (J p n s _ ?_);rcases d with⟨g,v,H⟩|⟨g,v,H,t⟩
  .exact Src.j? M g v H λh' e N x=>y h' e (λb o C h q=>N b o (λz=>h (by simp[z])) q) x
  refine fm I B g v H λh' u O L sz=>?_
  refine fq M J l _ (n+1) {s with heap:=h'} (t.at a L) u (by simpa using B) a.tail λr e j x=>?_
  refine y r e (λb o C h q=>?_) x;simp only[zk,zj,not_or]at h;exact j b o C h.2 (L b o C h.1 q)
def ft{z TI TO:xB}{l:List (Src×xB)}{R:Fin->xI->Prop}(hz:IsZip s.heap z TI TO .none)(F:Tp s.heap TI (l.map λq=>Value.ref q.2))(J:l≠[])
  (h:∀c,IsZip c z TI TO .ellipsis->qR z s.heap c->∀f:xM×Nat->Option Fin×PUnit->Sem (ForInStep (Option Fin×PUnit)),
   (∀p k s H,ZS prog w A E z TO p k (λs'=>H (.yield (u8,#[])) s') s->
    vA .AC A (f (.ref p,k) (u8,#[])) H E s)->
   vA .AC A (forIn ((l.map λq=>Value.ref q.2).zipIdx 0) (u8,#[]) f) (λr s'=>r.1=u8/\∃us,Tp s'.heap TO us/\us.length<=1000000/\IsZip s'.heap z TI TO .ellipsis/\
    ∀h',IsZip h' z TI TO (vz s'.heap.objs.size)->Tp h' s'.heap.objs.size us->h'.objs.size=s'.heap.objs.size+1->(∀b o,b≠z->s'.heap.get? b=u7 o->h'.get? b=u7 o)->R (.done (.ret (.ref s'.heap.objs.size))) {s' with heap:=h'}) E {s with heap:=c}):
  vA .AC A (Builtin.«zip.__next__» #[[.ref z],[]]) R E s:=by
 refine vC (m:=field .D2 2) (vF hz rfl (x:=.bool uA) rfl (vC (vF hz rfl rfl (vC (wpAny_seqItems F rfl ?_)))));dsimp only;have y:(l.map λq=>Value.ref q.2).toArray.isEmpty=uA:=by cases l with
  |nil=>exact absurd rfl J
  |cons _ _=>simp
 rw[y];refine vC ?_;refine vC (vF hz rfl rfl (vM ?_));refine vC (wpAny_rule (vC (vF hz rfl rfl (vC (vN hz .d λc j t=>?_)))));refine vC (vH (h c j t _ λp k s H C=>?_) (λr s' Q=>?_) λ_ _ x=>x)
 .refine vC (wpAny_onRaise ?_);refine vC (vH C (λx U T=>vM ?_) λ_ _ x=>x);let#[W,B,I,K]:=T;refine vC (wpAny_seqItems B rfl ?_);exact vC (Cf B I λh' P S=>vC (wpAny_letGo (vM (K h' P S))))
 .let#[N,us,B,I,v,K]:=Q;rw[N];refine vC (wpAny_seqItems B rfl ?_);refine vC (wpAny_newTuple ?_ (by simpa using zx I WH));have g:=zA v;refine vC ?_;have O:us.toArray.toList.toArray=us.toArray:=by simp
  refine vC (vN (zQ _ v) .d λL n e=>?_);refine vN n .d λu i d=>?_
  refine vM (K u i (d.extBut _ _ (j3 g) (e.extBut _ _ (j3 g) (zD _ rfl))) ?_ λb o M q=>d.extBut _ _ M (e.extBut _ _ M (zQ _ q)));rw[d.1,e.1,qI]
def Ch{z TI TO:xB}{i:Nat}{l:List (Src×xB)}{us W:List xM}{Q:Option xM->xI->Prop}(hz:IsZip s.heap z TI TO .none)(I:Tp s.heap TI (l.map λq=>Value.ref q.2))(U:Tp s.heap TO W)(n:W.length=l.length)(UX:l.length<=1000000)(N:l≠[])
  (a:ApZ TO l) (y:z≠TO/\(∀q∈l,q.2≠z/\q.1.WK≠z)) (d:Drw s.heap i l us)
  (Y:∀h',IsZip h' z TI TO .Dc->Tp h' TO us->(∀q∈l,q.1.it h' q.2 (i+1))->Tp h' s.heap.objs.size us->h'.objs.size=s.heap.objs.size+1->
   (∀b o,b≠z->b≠TO->b∉l.map (·.2)->s.heap.get? b=u7 o->h'.get? b=u7 o)->Q (u7 .AU) {s with heap:=h'}):vA .AC A (pyNext .D2) Q E s:=by
 have Z:s.TypeIs .D2 "zip":=#[_,hz,rfl];refine vC (wpAny_attempt (vD Z jh (vE jh Z wc ?_ (we _))));refine ft hz I N λh x m body T=>?_
 have g:∀b o,b≠z->s.heap.get? b=u7 o->h.get? b=u7 o:=λb o T q=>m.extBut b o T q
 have O:Drw h i l us:=by
  have S:=y.2;clear I n UX N a y Y
  induction d with
  |nil=>exact .nil
  |cons X hv hx t ih=>exact .cons (X.at λo e=>g _ o (S _ zW).1 e) (hv.at λo e=>g _ o (S _ zW).2 e) hx (ih λq C=>S q (zZ _ C))
 refine fo T l us [] W {s with heap:=h} O (g _ _ .Gu U) n (by simpa[n]using UX) a.nd a.na a.np λL r B u v=>#[rfl,us,r,d.length▸UX,?_,λM H J P K=>?_]
 .refine u _ _ y.1 (λhm=>?_) x;let#[q,C,e]:=zw.mp hm;exact(y.2 q C).1 e
 have e2:=v▸m.1;refine#[_,rfl,vM ?_];have p:=H;have k:=J;have j:=P;have f:=K;rw[e2]at p k j⊢;exact Y M p (f _ _ .Gu r) (λq C=>(B q C).at λo e=>f _ o (y.2 q C).1 e) k j λb o b1 b2 b3 q=>f b o b1 (u b o b2 b3 (g b o b1 q))
def Cn{z TI TO:xB}{i:Nat}{l:List (Src×xB)}{P:List xM}{Q:Option xM->xI->Prop}(hh:A.handled=u8)(hz:IsZip s.heap z TI TO .none)(u:Tp s.heap TI (l.map λq=>Value.ref q.2))(M:Tp s.heap TO P)(m:P.length=l.length)(UX:l.length<=1000000)(H:l≠[])
  (a:ApZ TO l) (y:z≠TO/\(∀q∈l,q.2≠z/\q.1.WK≠z)) (d:j' s.heap i l)
  (T:∀h',(∀b o,b≠z->b≠TO->b∉l.map (·.2)->s.heap.get? b=u7 o->h'.get? b=u7 o)->Q u8 {s with heap:=h'}):vA .AC A (pyNext .D2) Q E s:=by
 have U:s.TypeIs .D2 "zip":=#[_,hz,rfl];refine vC (wpAny_attempt (vD U jh (vE jh U wc ?_ (we _))));refine ft hz u H λg n p X L=>?_
 have f:∀b o,b≠z->s.heap.get? b=u7 o->g.get? b=u7 o:=λb o L q=>p.extBut b o L q
 have I:j' g i l:=by
  have v:=y.2;clear u m UX H a y T
  induction d with
  |here r J S=>exact .here (r.at λo e=>f _ o (v _ zW).1 e) (J.at λo e=>f _ o (v _ zW).2 e) S
  |there r J S t Z=>exact .there (r.at λo e=>f _ o (v _ zW).1 e) (J.at λo e=>f _ o (v _ zW).2 e) S (Z λq K=>v q (zZ _ K))
 refine fq (A:=A.in1) (hh) L l P 0 {s with heap:=g} I (f _ _ .Gu M) (m▸UX) a λB e k st=>?_
 have h:IsZip B z TI TO .ellipsis:=by refine k _ _ y.1 (λhm=>?_) n;let#[q,K,e]:=zw.mp hm;exact(y.2 q K).1 e
 let#[o,O,W]:=st;have N:e≠z:=λx=>by subst x;rw[h]at O;cases O;simp at W
 refine vN h .d λC _ j=>?_
 exact vC (wpAny_isInstance #[o,j.extBut _ _ N O,W] isSubtype_stop (vM (T C λb o Y b2 b3 q=>j.extBut _ _ Y (k b o b2 b3 (f b o Y q)))))
theorem fu:∀(c:List Src)pre s{Q:Array xM->xI->Prop},(∀d∈c,∃xs,d.val s.heap xs)->
  (∀h',(∀q∈c.zipIdx s.heap.objs.size,q.1.it h' q.2 0)->h'.objs.size=s.heap.objs.size+c.length->(∀b o,s.heap.get? b=u7 o->h'.get? b=u7 o)->Q (pre++((c.zipIdx s.heap.objs.size).map λq=>Value.ref q.2).toArray) {s with heap:=h'})->
  vA .AC A (forIn (c.map λd=>Value.ref d.WK) pre λx r=>do let v<-holding r.toList (pyIter x);pure (ForInStep.yield (r.push v))) Q E s
 |[],pre,s,Q,j,h=>by refine vM ?_;have:=h s.heap (λq f=>by cases f) rfl (λ_ _ e=>e);simpa using this
 | d::c,pre,s,Q,j,h=>by
  rw[zk,j5];let#[xs,y]:=j d zW;refine vC (vC (vG (Src.iter y (vM ?_))));refine fu c (pre.push .AU) {s with heap:=s.heap.push {cls:=.type d.t?,data:=.fields [.ref d.WK,.int 0 0].toArray}} (λl t=>?_) λh' i k g=>?_
  .let#[u,p]:=j l (zZ _ t);exact#[u,p.at λo e=>zQ _ e]
  rw[qI ..]at i k⊢;have:=h h' (λq f=>?_) (by rw[k,q9];lia) (λb o e=>g b o .Fh)
  .simpa using this
  .rcases zj.mp f with rfl|f
   .exact#[_,g _ _ (zD _ rfl),rfl,rfl]
   exact i q f
def Co{c:List Src}{Q:xM->xI->Prop}(r:∀d∈c,∃xs,d.val s.heap xs)(H:c.length<=1000000)
  (y:checkTypeCall "zip" #[c.map λd=>Value.ref d.WK,[]]=pure ()) (t:vZ "zip.__new__" #[.type "zip"::c.map λd=>Value.ref d.WK,[]]=pure ()) (VF:∀obj,argsOk "object.__init__" #[obj::c.map λd=>Value.ref d.WK,[]])
  (h:∀h' n,n=s.heap.objs.size+c.length->IsZip h' (n+2) n (n+1) .none->Tp h' n ((c.zipIdx s.heap.objs.size).map λq=>Value.ref q.2)->Tp h' (n+1) (c.map λ_=>Value.none)->(∀q∈c.zipIdx s.heap.objs.size,q.1.it h' q.2 0)->
   (∀b o,s.heap.get? b=u7 o->h'.get? b=u7 o)->Q (.ref (n+2)) {s with heap:=h'}):
  vA .AC A (call (.type "zip") (c.map λd=>Value.ref d.WK)) Q E s:=by
 have g:Meets (Builtin.«zip.__new__» #[.type "zip"::c.map λd=>.ref d.WK,[]]) (λ_ R s=>(∀d∈c,∃xs,d.val s.heap xs)/\
   ∀h' n,n=s.heap.objs.size+c.length->IsZip h' (n+2) n (n+1) .none->Tp h' n ((c.zipIdx s.heap.objs.size).map λq=>.ref q.2)->Tp h' (n+1) (c.map λ_=>.none)->(∀q∈c.zipIdx s.heap.objs.size,q.1.it h' q.2 0)->
    (∀b o,s.heap.get? b=u7 o->h'.get? b=u7 o)->R (.ok (.ret (.ref (n+2)))) {s with heap:=h'}):=
  .of_wp λprog w A R s M=>by
   let#[r,N]:=M;have C:=sub_zip
   wp_walk
   refine fu c [].toArray s r λk x j u=>vM ?_
   have L:([].toArray++((c.zipIdx s.heap.objs.size).map λq=>.ref q.2).toArray:Array xM).toList=(c.zipIdx s.heap.objs.size).map λq=>.ref q.2:=.d
   rw[L];have f:((c.zipIdx s.heap.objs.size).map λq=>Value.ref q.2).length=c.length:=.d
   refine vC (wpAny_newTuple ?_ (f▸zx H WH));refine vC (wpAny_newTuple ?_ (by rw[zq,f];exact zx H WH));refine vC ?_;unfold uy;refine vI (vM #[_,rfl,?_]) (by simp[sizeOk,u0,vj]);generalize P:s.heap.objs.size+c.length=n at*;have J:((c.zipIdx s.heap.objs.size).map λq=>Value.ref q.2).map (λ_=>.none)=c.map λ_=>Value.none:=by refine qB .d λi k O=>by simp
   dsimp only;rw[J];generalize((c.zipIdx s.heap.objs.size).map λq=>Value.ref q.2)=m at*;generalize(c.map λ_=>Value.none)=B at*;have l:(k.push {cls:=.type "tuple",data:=.seq m.toArray}).objs.size=n+1:=by rw[qI,j]
   have z:((k.push {cls:=.type "tuple",data:=.seq m.toArray}).push {cls:=.type "tuple",data:=.seq B.toArray}).objs.size=n+2:=by rw[qI,l]
   rw[z];refine N _ n rfl ?_ (zQ _ (zQ _ (by rw[<-j];exact zD _ rfl))) (zQ _ (by rw[<-l];exact zD _ rfl)) (λq K=>(x q K).at λo e=>zQ _ (zQ _ .Fh)) λb o e=>zQ _ (zQ _ (zQ _ (u b o e)))
   have:=zD ((k.push {cls:=.type "tuple",data:=.seq m.toArray}).push {cls:=.type "tuple",data:=.seq B.toArray}) (o:={cls:=.type "zip",data:=.fields [.none,.bool uA,.bool uA,.ref k.objs.size,.ref (k.push {cls:=.type "tuple",data:=.seq m.toArray}).objs.size].toArray}) rfl;rw[z]at this;rw[j,l]at this;rw[j,l];exact this
 refine callType_new PySem.F.called_zip .c y t VF PySem.F.entry_zip_new g #[r,λh' n I j p v x u=>#[#[_,j,rfl],h h' n I j p v x u]]
end
end _D
namespace _D
open PySem PySem.W PyProof.Rows
section
def Bx(lt:Nat->Nat->Bool){α:Type}:KasT α->α
 |.ret a=>a
 |.ask i j k=>Bx lt (k .D3)
theorem Qe(lt){a b:Type}(f:a->KasT b):∀t,Bx lt (t.bind f)=Bx lt (f .IS)
 |.ret _=>rfl
 |.ask i j k=>Qe lt f (k .D3)
structure WO (lt:Nat->Nat->Bool):Prop where
 asy:∀i j,lt i j=u9->lt j i=uA
 neg:∀i j k,lt i k=u9->lt i j=u9\/lt j k=u9
variable{lt:Nat->Nat->Bool}
def WO.refl(o:WO lt)(i):lt i i=uA:=by
 cases h:lt i i
 .rfl
 have:=o.asy i i h;rw[h]at this;exact this
def WO.tr(o:WO lt)(b:lt j i=uA)(a:lt k j=uA):lt k i=uA:=by
 cases h:lt k i
 .rfl
 rcases o.neg k j i h with z|z
 .rw[z]at a;cases a
 rw[z]at b;cases b
abbrev pt(p:Array Nat)(j:Nat):Nat:=p.getD j 0
def Qy(p)(j):pt p j=(p[j]?).getD 0:=.d
def Srt(lt:Nat->Nat->Bool)(p:Array Nat)(k:Nat):Prop:=∀i j,i<=j->j<k->lt .Fk .B5=uA
def NIn(lt:Nat->Nat->Bool)(p:Array Nat)(k:Nat):Prop:=∀i j,i<=j->j<k->lt .B5 .Fk=uA
def Jq(a:j<=p.size)(k):pt (vS p i j) k=if i<=k/\k<j then pt p (i+j-1-k)else pt p k:=by
 rw[Qy,vS,getElem?_mirror_all a]
 split<;>exact(Qy ..).symm
def Ct(e:src<p.size)(c:d<=src)(k):pt (bubble p src d) k=if k=src-d then pt p src else if src-d<k/\k<=src then pt p (k-1)else pt p k:=by
 rw[Qy,getElem?_bubble e d c];by_cases b:k=src-d
 .rw[if_pos b,if_pos b];exact(Qy ..).symm
 rw[if_neg b,if_neg b];by_cases a:src-d<k/\k<=src
 .rw[if_pos a,if_pos a];exact(Qy ..).symm
 rw[if_neg a,if_neg a];exact(Qy ..).symm
theorem az(o:WO lt)(p):∀f n,1<=n->Srt lt p n->∀m,Bx lt (kas_asc p f n)=m->n<=m/\m<=n+f/\Srt lt p m/\(m<n+f->lt (pt p m) (pt p (m-1))=u9)
 |0,n,r,h,m,e=>by have g:=e;subst g;exact#[zX _,zX _,h,λz=>absurd z .CS]
 | f+1,n,r,h,m,e=>by
  unfold kas_asc at e;have k:Bx lt (if lt .Ch (pt p (n-1))=u9 then KasT.ret n else kas_asc p f (n+1))=m:=e;cases l:lt .Ch (pt p (n-1))with
  |true=>
   rw[l,if_pos rfl]at k;have g:n=m:=k;subst g;exact#[zX _,.a,h,λ_=>l]
  | false=>
   rw[l,if_neg .d]at k;have s:Srt lt p (n+1):=λi j q u=>by
    by_cases e:j<n
    .exact h i j q e
    have g:j=n:=.a
    subst g;by_cases t:i=j
    .rw[t];exact o.refl _
    exact o.tr (h i (j-1) .a .a) l
   let#[a,b,c,d]:=az o p f (n+1) .a s m k;exact#[.a,.a,c,λz=>d .a]
structure Dn (lt:Nat->Nat->Bool) (p:Array Nat) (n q:Nat):Prop where
 ni:NIn lt p n
 al:∀i j,n-(q+1)<=i->i<n->n-(q+1)<=j->j<n->lt .B5 .Fk=uA
 qn:q+1<=n
def _root_.Nat.qA{a n j:Nat}(h:j<n)(g:a<=j):a+n-1-j<n:=by lia (splits:=9)
def _root_.Nat.qB{a n j:Nat}(h:j<n):a<=a+n-1-j:=by lia (splits:=9)
def NIn.rev(d:Dn lt p n q)(c:n<=p.size):NIn lt (vS p (n-(q+1)) n) n:=λi j b a=>by
 have k:=Nat.lt_of_le_of_lt b a;rw[Jq c,Jq c];by_cases e:n-(q+1)<=i
 .have m:=zx e b;rw[if_pos #[e,.a],if_pos #[.a,a]];exact d.al _ _ .a .a .a .a
 rw[if_neg .a];by_cases f:n-(q+1)<=j
 .rw[if_pos #[f,a]];exact d.ni _ _ .a .a
 .rw[if_neg .a];exact d.ni i j b a
theorem Vl(o:WO lt):∀f p n q,n+f<=p.size->Dn lt p n q->∀r,Bx lt (kas_desc f p n q)=r->r.1.Perm p/\r.2.1<=n+f/\n<=r.2.1/\Dn lt r.1 r.2.1 r.2.2
 |0,p,n,q,hz,d,r,e=>by have e':=e;subst e';exact#[.refl _,zX _,zX _,d]
 | f + 1,p,n,q,hz,d,r,e=>by
  have qn:=d.qn;have u:n-(q+1)<=n-1:=Nat.sub_le_sub_left (Nat.le_add_left 1 q) n;have v:=Nat.sub_one_lt_of_lt qn;unfold kas_desc at e;have e1:Bx lt (if lt .Ch (pt p (n-1))=u9 then(if q>0 then kas_desc f (vS p (n-(q+1)) n) (n+1) 0 else kas_desc f p (n+1) 0)
   else .ask (p.getD (n-1) 0) (p.getD n 0) λd=>if d=u9 then .ret (p,n,q)else kas_desc f p (n+1) (q+1))=r:=e
  cases hc:lt .Ch (pt p (n-1))with
  | true=>
   rw[hc,if_pos rfl]at e1;have ext:∀p',NIn lt p' n->pt p' n=pt p n->(∀k,k<n->lt .Ch (pt p' k)=u9\/k<n)->lt (pt p' (n-1)) (pt p' n)=uA->Dn lt p' (n+1) 0:=λp' hni _ _ hl=>by
    refine#[λi j hij hj=>?_,λi j h1 h2 h3 h4=>?_,.a]
    .by_cases e:j<n
     .exact hni i j hij e
     have e':j=n:=.a
     subst e';by_cases e2:i=j
     .rw[e2];exact o.refl _
     exact o.tr hl (hni i (j-1) .a .a)
    have e1:i=n:=.a
    have e2:j=n:=.a
    rw[e1,e2];exact o.refl _
   by_cases hq:q>0
   .rw[if_pos hq]at e1;have hl:lt (pt (vS p (n-(q+1)) n) (n-1)) (pt (vS p (n-(q+1)) n) n)=uA:=by
     rw[Jq .a,Jq .a,if_pos .a,if_neg .a];cases hx:lt (pt p (n-(q+1)+n-1-(n-1))) .Ch
     .rfl
     rcases o.neg _ (pt p (n-1)) _ hx with z|z
     .rw[d.al _ _ .a .a .a .a]at z;cases z
     rw[o.asy _ _ hc]at z;cases z
    let#[a,b,c,dd]:=Vl o f _ (n+1) 0 (by rw[vS,mirror_size];lia) (ext _ (.rev d .a) (by rw[Jq .a,if_neg .a]) (λk hk=>.inr hk) hl) r e1;exact#[a.trans (mirror_perm ..),.a,.a,dd]
   rw[if_neg hq]at e1;let#[a,b,c,dd]:=Vl o f p (n+1) 0 .a (ext p d.ni rfl (λk hk=>.inr hk) (o.asy _ _ hc)) r e1;exact#[a,.a,.a,dd]
  | false=>
   rw[hc,if_neg .d]at e1;have e2:Bx lt (if lt (pt p (n-1)) .Ch=u9 then .ret (p,n,q)else kas_desc f p (n+1) (q+1))=r:=e1;cases hd:lt (pt p (n-1)) (pt p n)with
   |true=>
    rw[hd,if_pos rfl]at e2;have e3:=e2;subst e3;exact#[.refl _,by show n<=_;lia,zX _,d]
   | false=>
    rw[hd,if_neg .d]at e2;have al':∀i,n-(q+1)<=i->i<n+1->lt .B5 .Ch=uA/\lt .Ch .B5=uA:=λi h1 h2=>by
     by_cases e:i=n
     .rw[e];exact#[o.refl _,o.refl _]
     exact#[o.tr hd (d.al i (n-1) h1 .a .a .a),o.tr (d.al (n-1) i .a .a h1 .a) hc]
    let#[a,b,c,dd]:=Vl o f p (n+1) (q+1) .a #[λi j hij hj=>by
     by_cases e:j<n
     .exact d.ni i j hij e
     .have e':j=n:=.a
      subst e';by_cases e2:i=j
      .rw[e2];exact o.refl _
      exact o.tr hd (d.ni i (j-1) .a .a),λi j h1 h2 h3 h4=>by
     by_cases ei:i=n
     .rw[ei];exact(al' j .a h4).2
     by_cases ej:j=n
     .rw[ej];exact(al' i .a h2).1
     exact d.al i j .a .a .a .a,.a] r e2
    exact#[a,.a,.a,dd]
def fv(o:WO lt)(g:1<=n)(l:n<=nrem)(hz:nrem<=p.size)(d:NIn lt p n):∀r,Bx lt (kas_tail3 n nrem p)=r->r.2.Perm p/\r.1<=nrem/\1<=r.1/\Srt lt r.2 r.1:=by
 intro r e;unfold kas_tail3 at e;rw[Qe]at e;have k:Srt lt .Fl n:=λi j h m=>by rw[Jq .a,Jq .a,if_pos .a,if_pos .a];exact d _ _ .a .a
 let#[a,b,c,_]:=az o .Fl (nrem-n) n g k _ rfl;have f:(Bx lt (kas_asc .Fl (nrem-n) n),vS p 0 n)=r:=e;subst f;exact#[mirror_perm ..,.a,.a,c]
def fw(o:WO lt)(z:1<=n)(w:n<nrem)(hz:nrem<=p.size)(m:∀i j,i<n->j<n->lt .B5 .Fk=uA)(q:lt .Ch (pt p (n-1))=u9):
  ∀r,Bx lt (kas_descPart n nrem p)=r->r.2.Perm p/\r.1<=nrem/\1<=r.1/\Srt lt r.2 r.1:=by
 intro r e;unfold kas_descPart at e;rw[Qe]at e;have v:Dn lt p (n+1) 0:=#[λi j u y=>by
  by_cases e:j<n
  .exact m i j .a e
  .have s:j=n:=.a
   subst s;by_cases l:i=j
   .rw[l];exact o.refl _
   exact o.tr (o.asy _ _ q) (m i (j-1) .a .a),λi j _ _ _ _=>by
  have t:i=n:=.a
  have l:j=n:=.a
  rw[t,l];exact o.refl _,.a]
 let#[a,b,c,d]:=Vl o (nrem-(n+1)) p (n+1) 0 .a v _ rfl
 revert a b c d e
 intro e a b c d;have A:=a.size_eq;split at e
 .let#[f,k,g,h]:=fv o .a .a (by rw[vS,mirror_size];lia) (.rev d .a) r e;exact#[(f.trans (mirror_perm ..)).trans a,k,g,h]
 let#[f,k,g,h]:=fv o .a .a .a d.ni r e;exact#[f.trans a,k,g,h]
def DC(o:WO lt)(C:1<=nrem)(hz:nrem<=p.size):∀r,Bx lt (kas_count nrem p)=r->r.2.Perm p/\r.1<=nrem/\1<=r.1/\Srt lt r.2 r.1:=by
 intro r e;unfold kas_count at e;rw[Qe]at e;let#[a,b,c,d]:=az o p (nrem-1) 1 .AK (λi j y k=>by
  have g:i=0:=.a
  have h:j=0:=.a
  rw[g,h];exact o.refl _) _ rfl
 revert a b c d e
 generalize Bx lt (kas_asc p (nrem-1) 1)=n;intro e a b c d;split at e
 .have f:(n,p)=r:=e;subst f;exact#[.refl _,.a,a,c]
 rename_i m;have t:n<nrem:=by
  have:n≠nrem:=by simpa using m
  lia
 have s:=d .a;split at e
 .rename_i B;have f:Bx lt (if lt (pt p 0) (pt p (n-1))=u9 then .ret (n,p)else kas_descPart n nrem .Fl)=r:=e;cases q:lt (pt p 0) (pt p (n-1))with
  |true=>
   rw[q,if_pos rfl]at f;have h:(n,p)=r:=f;subst h;exact#[.refl _,.a,a,c]
  | false=>
   rw[q,if_neg .d]at f;have u:∀i j,i<n->j<n->lt .B5 .Fk=uA:=λi j l k=>o.tr (c j (n-1) .a .a |> λz=>z) (o.tr q (c 0 i .a l) |> λz=>by exact z)
   let#[v,A,w,x]:=fw o a t (by rw[vS,mirror_size];lia) (λi j l k=>by
    rw[Jq .a,Jq .a,if_pos .a,if_pos .a];exact u _ _ .a .a) (by
    rw[Jq .a,Jq .a,if_neg .a,if_pos .a];rcases o.neg _ (pt p (0+n-1-(n-1))) _ s with z|z
    .exact z
    rw[u _ _ .a .a]at z;cases z) r f
   exact#[v.trans (mirror_perm ..),A,w,x]
 .have g:n=1:=.a
  subst g;exact fw o .AK t hz (λi j l k=>by
   have g:i=0:=.a
   have h:j=0:=.a
   rw[g,h];exact o.refl _) s r e
theorem Zo(o:WO lt)(p)(k)(c:Srt lt p k):∀f l r,r-l<=f->l<=r->r<=k->(∀i,i<l->lt .Eo .B5=uA)->(∀i,r<=i->i<k->lt .Eo .B5=u9)->
  ∀m,Bx lt (kas_place p k f l r)=m->m<=k/\(∀i,i<m->lt .Eo .B5=uA)/\(∀i,m<=i->i<k->lt .Eo .B5=u9)
 |0,l,r,q,j,n,b,g,m,e=>by have a:l=m:=e;subst a;exact#[.a,b,λi d hk=>g i .a hk]
 | f+1,l,r,q,j,n,b,g,m,e=>by
  unfold kas_place at e;split at e
  .have a:l=m:=e;subst a;exact#[.a,b,λi d hk=>g i .a hk]
  rename_i s;have a:Bx lt (if lt .Eo (pt p ((l+r)/2))=u9 then kas_place p k f l ((l+r)/2)else kas_place p k f ((l+r)/2+1) r)=m:=e;cases h:lt .Eo (pt p ((l+r)/2))with
  |true=>
   rw[h,if_pos rfl]at a;refine Zo o p k c f l ((l+r)/2) .a .a .a b (λi d hk=>?_) m a;rcases o.neg _ .B5 _ h with z|z
   .exact z
   rw[c _ i d hk]at z;cases z
  |false=>
   rw[h,if_neg .d]at a;exact Zo o p k c f ((l+r)/2+1) r .a .a n (λi d=>o.tr (c i ((l+r)/2) .a .a) h) g m a
theorem fx(o:WO lt):∀f p k,k+f=p.size->Srt lt p k->(Bx lt .E1).Perm p/\Srt lt (Bx lt .E1) p.size
 |0,p,k,t,c=>#[.refl _,by
  have:k=p.size:=.a
  rw[<-this];exact c]
 | f + 1,p,k,t,c=>by
  unfold kas_bin;rw[Qe];let#[q,g,h]:=Zo o p k c k 0 k .a .a .AK (λi s=>.a) (λi s hk=>.a) _ rfl
  revert q g h
  generalize Bx lt (kas_place p k k 0 k)=m;intro q g h;have sz:(bubble p k (k-m)).size=p.size:=bubble_size ..;have e:∀j,pt (bubble p k (k-m)) j=if j=m then pt p k else if m<j/\j<=k then pt p (j-1)else pt p j:=λj=>by
   rw[Ct .a .a];have:k-(k-m)=m:=.a
   rw[this]
  let#[a,b]:=fx o f (bubble p k (k-m)) (k+1) .a (λi j l v=>by
   rw[e i,e j];by_cases n:j=m
   .rw[if_pos n];by_cases d:i=m
    .rw[if_pos d];exact o.refl _
    rw[if_neg d,if_neg .a];exact g i .a
   rw[if_neg n];by_cases u:m<j
   .rw[if_pos #[u,.a]];by_cases d:i=m
    .rw[if_pos d];exact o.asy _ _ (h _ .a .a)
    .rw[if_neg d];by_cases r:m<i
     .rw[if_pos #[r,.a]];exact c _ _ .a .a
     .rw[if_neg .a];exact c _ _ .a .a
   .rw[if_neg .a,if_neg .a,if_neg .a];exact c i j l .a)
  rw[sz]at b;exact#[a.trans (bubble_perm ..),b]
def fy(o:WO lt)(h:1<=n):(Bx lt (kas_sort n)).toList.Perm (zV n)/\Srt lt (Bx lt (kas_sort n)) n:=by
 unfold kas_sort;rw[Qe];let#[a,b,c,d]:=DC o (p:=(zV n).toArray) h .d _ rfl
 revert a b c d
 generalize Bx lt (kas_count n (zV n).toArray)=x;intro a b c d;have i:x.2.size=n:=by simp[a.size_eq]
 split
 .have e:max x.1 1=x.1:=.a
  rw[e];let#[g,f]:=fx o (n-x.1) x.2 x.1 .a d;rw[i]at f;exact#[by simpa using(g.trans a).toList,f]
 have e:x.1=n:=.a
 rw[e]at d;exact#[by simpa[Bx]using a.toList,d]
end
end _D
namespace _D
open PySem PySem.Spec _L
open PyProof.Rows hiding St
variable{vT:List (xB×Obj)}{elts:List xD}
section
variable{X:Cx}{vT:List (xB×Obj)}{σ:St}{H:Hp}{s:xI}{h':Heap}
def bA{t':Nat}{fp:List xB}(I:Inv X vT σ H s)(k:∀b o,b∉fp->s.heap.get? b=u7 o->h'.get? b=u7 o)(g:∀b∈fp,ZQ X vT H b):Inv X vT σ H {s with heap:=h',toks:=t'}:=by
 have f:∀b u,H b=u7 u->b∉fp:=λb u e z=>by rw[(g b z).1]at e;cases e
 refine I.step (λb i=>?_) (λb o _ _ a e _=>k b o a e) (λb o _ _ a e _=>#[o.slots,k b o a e]) (λ_ _ _ _ n=>n)
  (λb o a e=>#[o,k b o a e]) (λ_ _ e=>e) (λ_ _ _ e=>e) (λb C e=>#[[].toArray,by rw[e];simp]) (λm l=>?_) (λb u e=>?_) I.bare
 .let#[B,x,F,t,A,j]:=g b i;exact#[t,x,A,j]
 .let#[o,p,w,y,r]:=l;exact#[o,p,w,k _ o (λz=>(g _ z).2.1 rfl) y,r]
 refine(I.VF b u e).L' (λc v a q=>k c v ?_ q) (λ_ q=>q) λ_ _ q=>q
 rcases a with z|z
 .rw[z];exact f b u e
 exact f c _ z
def gA{t':Nat}{fp:List xB}{p:xB}{xs:List V}{VB:List xM}(I:Inv X vT σ H s)(k:∀b o,b∉fp->s.heap.get? b=u7 o->h'.get? b=u7 o)(h:∀b∈fp,ZQ X vT H b)(hp:s.heap.objs.size<=p)
  (hz:xs.length<=sizeLine) (r:Vals xs VB) (i:Tp h' p VB):Inv X vT σ (upd H p .Aj) {s with heap:=h',toks:=t'}:=by
 let#[d,f,l,j,g,e]:=I.K3 hp (I.VF.fresh hp);exact ai (bA I k h) d (zx I.sz hp) f g e #[hz,VB,r,_,i,rfl,_,rfl]
end
def Src.sq(K:za)(H:Hp)(xs:List V):Src->Prop
 |.l a=>WQ K H a xs
 |.t a=>YO K H a xs
def Src.sq.val{X:Cx}{d:St}{H:Hp}{s:xI}{b:Src}{xs:List V}(I:Inv X vT d H s)(h:b.sq X.K H xs):∃VB,Vals xs VB/\b.val s.heap VB.toArray/\xs.length<=sizeLine:=by
 rcases b with a|a
 .let#[VB,r,p,c]:=I.list h;exact#[VB,r,p.isList,c]
 let#[VB,r,p,c]:=I.tuple h;exact#[VB,r,p,c]
def Src.sq.inj{X:Cx}{c:St}{H:Hp}{s:xI}{b:Src}{xs ys:List V}(I:Inv X vT c H s)(h:b.sq X.K H xs)(h':b.sq X.K H ys):xs=ys:=by
 rcases b with a|a
 .exact I.Zw h h'
 exact I.Zg h h'
def Ite(K:za)(sr:Src)(n:Int):It:=
 #[λi H=>∃xs x,sr.sq K H xs/\xs[i]?=u7 x,λi H v H'=>∃p x,v=.ref p/\H p=u8/\H'=upd H p (.tup [.int (n+i),x])/\∀xs,sr.sq K H xs->xs[i]?=u7 x,λi H=>∃xs,sr.sq K H xs/\xs.length<=i]
def gB{P:xG}{w:xN}{K:za}{x1}{pos:Pos}(Z)(n)(e it)(B:e≠it):
  Turn P w K .Dl (Ite K Z n) [e,it] e (λi h=>∃g a,En h e it .none (n+i) g a/\Gv (n+i) g/\Z.it h it i) where
 mem:=.d
 obj:=λi h f b j=>by
  let#[g,a,d,_,o,ho,_,hd]:=f;rcases(show b=e\/b=it by simpa using j)with rfl|rfl
  .exact#[_,d,λv z=>by cases z]
  exact#[o,ho,λv z=>by rw[hd]at z;cases z]
 keep:=λi h h' f k=>by let#[g,a,d,y,p]:=f;exact#[g,a,k e .d _ d,y,p.at λo q=>k it .d o q]
 item:=by
  intro X L hw N Y i m s σ H E I F f y;subst L hw N;let#[xs,x,J,Q]:=y;let#[S,O,M,hz]:=Src.sq.val I J;let#[u,hu,ru]:=O.get Q;let#[g,a,d,r,p]:=f;refine C9 d r p M (by simpa using hu) B λh1 t tk e1 i1 t1 z1 k1=>#[_,rfl,?_]
  refine Cc e1 λh2 e2 T=>?_
  have A:=j3 (zA d);have I2:Inv X m σ (upd H s.heap.objs.size (.tup [.int (n+i),x])) {s with heap:=h2,toks:=tk}:=
   gA I (λb o j q=>by
    have c:b≠e/\b≠it:=by simpa using j
    exact T.extBut b o c.1 (k1 b o c.1 c.2 q)) F .AK (by show 2<=sizeLine;decide) (.cons #[t,rfl] .HT) (T.extBut _ _ A t1)
  refine#[.ref s.heap.objs.size,_,I2,rfl,#[_,x,rfl,I.VF.fresh .AK,rfl,λys hy=>(Src.sq.inj I hy J)▸Q],#[.none,u,?_,.inl rfl,i1.at λo q=>T.extBut _ _ (.symm B) q],λb j=>?_]
  .have ee:n+(i:Int)+1=n+((i+1:Nat):Int):=.a
   rw[<-ee];exact e2
  have c:b=e\/b=it:=by simpa using j
  rw[Aw (λz=>?_)]
  .exact(F b j).1
  .rcases c with rfl|rfl
   .exact A z.symm
   .have C:=Src.it.lt p;rw[z]at C;exact q7 _ C
 done:=by intro X L hw N Y i m s σ H E I F f y;subst L hw N;let#[xs,J,Q]:=y;let#[S,O,M,hz]:=Src.sq.val I J;let#[g,a,d,r,p]:=f;have hl:=O.length;exact Cb (I.ok.hd Y) d p M .e λh1 xb=>#[rfl,bA I (λb o j q=>xb b o (λz=>j (by simp[z])) q) F]
 self:=λ_ _ _ _ _ f h=>by let#[g,a,d,_]:=f;exact ay d h
section
variable{X:Cx}{E:XK}
def DD{prog:xG}{w:xN}{A:xC}{E:xM->xI->Prop}{s:xI}{sr:Src}{xs:Array xM}{Q:xM->xI->Prop}(hv:sr.val s.heap xs)
  (h:∀h',En h' (s.heap.objs.size+1) s.heap.objs.size .none 0 .none .none->sr.it h' s.heap.objs.size 0->(∀b o,s.heap.get? b=u7 o->h'.get? b=u7 o)->Q (.ref (s.heap.objs.size+1)) {s with heap:=h'}):
  vA .AC A (call (.type "enumerate") [.ref sr.WK]) Q E s:=by
 have g:Meets (Builtin.«enumerate.__new__» #[[.type "enumerate",.ref sr.WK],[]]) (λ_ R s=>sr.val s.heap xs/\
   R (.ok (.ret (.ref (s.heap.push {cls:=.type sr.t?,data:=.fields [.ref sr.WK,.int 0 0].toArray}).objs.size)))
    {s with heap:=(s.heap.push {cls:=.type sr.t?,data:=.fields [.ref sr.WK,.int 0 0].toArray}).push {cls:=.type "enumerate",data:=.fields [.none,.bool uA,.ref s.heap.objs.size,vz 0,.none,.none].toArray}}):=
  .of_wp λprog w A R s h=>by
   let#[hl,h]:=h;have hsub:=sub_enumerate;have hL:=hl
   wp_walk
   refine wpAny_stack_any λst=>vM ?_
   split
   .rename_i c _ _ _ _ _
    cases(c==Value.type "enumerate")<;>(wp_walk using Src.iter hL;exact#[_,rfl,h])
   wp_walk using Src.iter hL
   exact#[_,rfl,h]
 refine callType_new wf .c (PySem.F.typeCall_enumerate_1 _) (PySem.F.newCall_enumerate_1 _) (λobj=>PySem.F.args_object_init_2 obj _) wg g #[hv,?_];have hz:(s.heap.push {cls:=.type sr.t?,data:=.fields [.ref sr.WK,.int 0 0].toArray}).objs.size=s.heap.objs.size+1:=qI ..;rw[hz];have he:En ((s.heap.push {cls:=.type sr.t?,data:=.fields [.ref sr.WK,.int 0 0].toArray}).push {cls:=.type "enumerate",data:=.fields [.none,.bool uA,.ref s.heap.objs.size,vz 0,.none,.none].toArray}) (s.heap.objs.size+1) s.heap.objs.size .none 0 .none .none:=by
  have:=zD (s.heap.push {cls:=.type sr.t?,data:=.fields [.ref sr.WK,.int 0 0].toArray}) (o:={cls:=.type "enumerate",data:=.fields [.none,.bool uA,.ref s.heap.objs.size,vz 0,.none,.none].toArray}) rfl;rw[hz]at this;exact this
 exact#[#[_,he,rfl],h _ he #[_,zQ _ (zD _ rfl),rfl,rfl] λb o x=>zQ _ (zQ _ x)]
def DF(K:za)(ta:TA):TI:=λσ H R=>ta σ H λvs H1=>∃sr xs,vs=[.ref (Src.WK sr)]/\sr.sq K H1 xs/\R (Ite K sr 0) H1
theorem DJ{x1}(o:Gl X "enumerate")(y:X.mg "enumerate"=u8)(F:PA X [a] ta)(v:vv [a] X.env=[(uA,eval a X.env)]:=by rfl):PI X .Az (.Call (.Name "enumerate" p) [a] [] pos) (DF X.K ta):=by
 intro f s z H R I h;refine Call_ (Jm I o y wh (qa (ZD (F pos f s z H _ I h) λP c zz=>?_) v rfl));let#[L,k,g,C,l]:=zz;let#[w,N,e,n,q]:=l;subst e;cases C with
 |cons r t=>
  cases t;cases r;let#[A,M,m,J]:=Src.sq.val g n;refine DD m λO j B x=>?_
  refine ay j ?_;refine#[c.heap.objs.size+1,[c.heap.objs.size+1,c.heap.objs.size],_,_,k,rfl,g.kept x,gB w 0 _ _ .Fm,#[.none,.none,by simpa using j,.inl rfl,B],λb u=>?_,q];have i:b=c.heap.objs.size+1\/b=c.heap.objs.size:=by simpa using u
  have d:c.heap.objs.size<=b:=by rcases i with rfl|rfl<;>lia
  exact g.K3 d (g.VF.fresh d)
end
inductive Z' (K:za) (H:Hp) (i:Nat):List Src->List V->Prop where
 |nil:Z' K H i [] []
 |cons {sr r v us xs} (hq:Src.sq K H xs sr) (hx:xs[i]?=u7 v) (t:Z' K H i r us):Z' K H i (sr::r) (v::us)
inductive StV (K:za) (H:Hp) (i:Nat):List Src->Prop where
 |here {sr r xs} (hq:Src.sq K H xs sr) (hx:xs.length<=i):StV K H i (sr::r)
 |there {sr r v xs} (hq:Src.sq K H xs sr) (hx:xs[i]?=u7 v) (t:StV K H i r):StV K H i (sr::r)
def Itz(K:za)(ls:List Src):It:=
 #[λi H=>∃us,Z' K H i ls us,λi H v H'=>∃p us,v=.ref p/\H p=u8/\H'=upd H p (.tup us)/\∀E?,Z' K H i ls E?->E?=us,λi H=>StV K H i ls]
theorem Z'.length{K:za}{H:Hp}{i:Nat}{a:List Src}{us:List V}(d:Z' K H i a us):us.length=a.length:=by
 induction d with
 |nil=>rfl
 |cons _ _ _ b=>simp[b]
section
variable{X:Cx}{vT:List (xB×Obj)}{σ:St}{H:Hp}{s:xI}
theorem Z'.inj(I:Inv X vT σ H s):∀{f:List Src}{us E?:List V},Z' X.K H i f us->Z' X.K H i f E?->us=E?
 |[],_,_,d,b=>by cases d;cases b;rfl
 | k::f,_,_,d,b=>by
  cases d with
  | cons g j t=>
   cases b with
   |cons c a h=>
    have e:=Src.sq.inj I g c;subst e;rw[j]at a;cases a;rw[Z'.inj I t h]
theorem Z'.drw(I:Inv X vT σ H s):∀{l:List (Src×xB)}{us:List V},Z' X.K H i (l.map (·.1)) us->(∀q∈l,q.1.it s.heap q.2 i)->∃a,Drw s.heap i l a/\Vals us a
 |[],us,d,h=>by cases d;exact#[[],.nil,.nil]
 | (n,p)::l,us,d,h=>by
  cases d with
  |cons b o t=>
   let#[c,m,g,r]:=Src.sq.val I b;let#[u,f,e]:=m.get o;let#[a,j,k]:=Z'.drw I t λq b=>h q .DV
   exact#[u::a,.cons (h (n,p) zW) g (by simpa using f) j,.cons e k]
theorem StV.drw(I:Inv X vT σ H s):∀{l:List (Src×xB)},StV X.K H i (l.map (·.1))->(∀q∈l,q.1.it s.heap q.2 i)->j' s.heap i l
 |[],d,h=>by cases d
 |(f,p)::l,d,h=>by
  rcases d with⟨a,g⟩|⟨a,g,t⟩
  .let#[b,e,c,k]:=Src.sq.val I a;have m:=e.length;exact .here (h (f,p) zW) c .e
  let#[b,e,c,k]:=Src.sq.val I a;let#[u,j,n]:=e.get g;exact .there (h (f,p) zW) c (by simpa using j) (StV.drw I t λq a=>h q .Bm)
end
def DK{P:xG}{w:xN}{K:za}{x1}{pos:Pos}(l)(z TI TO)(a:ApZ TO l)(A:z≠TO/\(∀q∈l,q.2≠z/\q.1.WK≠z))(M:TI≠z/\TI≠TO/\∀q∈l,q.2≠TI)(UX:l.length<=1000000)(x:l≠[]):
  Turn P w K .Dl (Itz K (l.map (·.1))) (z::TI::TO::l.map (·.2)) z
   (λi h=>IsZip h z TI TO .none/\Tp h TI (l.map λq=>Value.ref q.2)/\(∃r,Tp h TO r/\r.length=l.length)/\∀q∈l,q.1.it h q.2 i) where
 mem:=.d
 obj:=λi h j b c=>by
  let#[m,d,#[r,f,_],n]:=j;rcases zj.mp c with rfl|c
  .exact#[_,m,λv z=>by cases z]
  rcases zj.mp c with rfl|c
  .exact#[_,d,λv z=>by cases z]
  .rcases zj.mp c with rfl|c
   .exact#[_,f,λv z=>by cases z]
   .let#[q,g,rfl]:=zw.mp c;let#[o,p,_,Q]:=n q g;exact#[o,p,λv z=>by rw[Q]at z;cases z]
 keep:=λi h h' j k=>by let#[m,d,#[r,f,p],n]:=j;exact#[k z .d _ m,k TI .d _ d,#[r,k TO .d _ f,p],λq g=>(n q g).at λo e=>k q.2 (by simp only[zj];exact .inr (.inr (.inr (zw.mpr #[q,g,rfl])))) o e]
 item:=by
  intro X C hw L O i t s σ H E I y j J;subst C hw L;let#[T,F]:=J;let#[m,d,#[r,f,p],n]:=j;let#[ws,S,rv]:=Z'.drw I F n;refine Ch m d f p UX x a A S λh1 z1 t1 i1 p1 s1 B=>#[_,rfl,?_]
  refine wpAny_letOwnedTupleGo_zip z1 λh2 z2 u=>?_
  have N:T.length<=sizeLine:=by rw[F.length,zq];exact zx UX WH
  have I2:=
   gA (t':=s.toks) I (λb o c q=>by simp only[zj,not_or]at c;exact u.extBut b o c.1 (B b o c.1 c.2.2.1 c.2.2.2 q)) y .AK N rv (u.extBut _ _ (j3 (zA m)) p1)
  refine#[.ref s.heap.objs.size,_,I2,rfl,#[_,T,rfl,I.VF.fresh .AK,rfl,λE? Y=>Z'.inj I Y F],#[z2,(λb o U b2 Z q=>u.extBut b o U (B b o U b2 Z q)) TI _ M.1 M.2.1 (λhm=>?_) d,#[ws,u.extBut _ _ (.symm A.1) t1,S.length],λq g=>(i1 q g).at λo e=>u.extBut _ _ (A.2 q g).1 e],λb c=>?_]
  .let#[q,g,e]:=zw.mp hm;exact M.2.2 q g e
  rw[Aw (λe=>?_)]
  .exact(y b c).1
  .have lt:b<s.heap.objs.size:=by
    rcases zj.mp c with rfl|c
    .exact zA m
    .rcases zj.mp c with rfl|c
     .exact zA d
     .rcases zj.mp c with rfl|c
      .exact zA f
      .let#[q,g,rfl]:=zw.mp c;exact(n q g).lt
   rw[e]at lt;exact q7 _ lt
 done:=by
  intro X C hw L O i t s σ H E I y j J;subst C hw L;let#[m,d,#[r,f,p],n]:=j;refine Cn (I.ok.hd O) m d f p UX x a A (StV.drw I J n) λh1 B=>#[rfl,?_]
  exact bA I (λb o c q=>by simp only[zj,not_or]at c;exact B b o c.1 c.2.2.1 c.2.2.2 q) y
 self:=λ_ _ _ _ _ j h=>wpAny_pyIter_zip j.1 h
def Ii (G:DH) (j:Nat):List D->Option (Option .DT)
 |[]=>u7 (u7 [])
 | d::r=>match Bf d G with
  |none=>u8
  | some xs=>match xs[j]? with
   |none=>u7 u8
   |some x=>match Ii G j r with
    |some (u7 ys)=>u7 (u7 (x::ys))
    |o=>o
def Ex(ds:List D)(j:Nat)(G:DH):Option (Option D):=(Ii G j ds).map λo=>o.map D.tup
def lenOf(G:DH)(d:D):Nat:=match Bf d G with
 |some xs=>xs.length
 |none=>0
def Nk(G:DH)(d:D):Bool:=(Bf d G).isSome
def Ec(n:Int)(d:D)(j:Nat)(G:DH):Option (Option D):=match Bf d G with
 |none=>u8
 |some xs=>u7 (xs[j]?.map λx=>.tup [.int (n+j),x])
def Hf(ds:List D)(G:DH):R ItD:=match ds with
 |[d]=>if Nk G d=u9 then .ok (.fn (lenOf G d) (Ec 0 d)) G else .bad
 |_=>.bad
def Fy(n:Nat)(ds:List D)(G:DH):R ItD:=if ds.all (Nk G)=u9/\ds.length=n then .ok (.fn (lenOf G (ds.headD .WB)) (Ex ds)) G else .bad
section
variable{X:Cx}{E:XK}
theorem bB{a:Wd}{G:DH}{d:D}{v:V}{xs:List D}(s:XF a G)(r:VG a d v)(h:Bf d G=u7 xs):
  ∃j:Src,v=.ref j.WK/\(∃vs,j.sq a.K a.H vs)/\∀b,Ext a b->∀e,XF b e->∀ys,Bf d e=u7 ys->∃us,j.sq b.K b.H us/\YA b ys us:=by
 cases d with
 |tup B=>
  let#[p,vs,rfl,f,n]:=r;refine#[.t p,rfl,#[vs,f],λb x e k ys c=>?_];cases(c);exact#[vs,x.sqT f,n.mono x]
 |fl B=>
  let#[p,vs,rfl,f,n]:=r;refine#[.l p,rfl,#[vs,f.sq],λb x e k ys c=>?_];cases(c);exact#[vs,(x.fzL f).sq,n.mono x]
 | ref i=>
  let#[z,rfl]:=r;have C:∃g,G[i]?=u7 (.lst g):=by
   unfold Bf at h;dsimp only at h;split at h
   .rename_i g q;exact#[g,q]
   cases h
  let#[g,q]:=C;let#[vs,y,_]:=s.lst q;refine#[.l .Ay,rfl,#[vs,.of y],λb x e k ys c=>?_];unfold Bf at c;dsimp only at c;split at c
  .rename_i w o;cases c;let#[us,u,A]:=k.lst o;rw[x.m i z]at u;exact#[us,.of u,A]
  cases c
 |_=>cases h
def gC{a:Wd}{G:DH}{d:D}{v:V}{z:Src}(hk:a.K=X.K)(r:∀b,Ext a b->∀h,XF b h->∀ys,Bf d h=u7 ys->∃us,z.sq b.K b.H us/\YA b ys us){n0}(n):WS a (.fn n (Ec n0 d)) (Ite X.K z n0):=by
 intro b x h j i;have A:=x.k.trans hk;constructor
 .intro e f;unfold Ec at f;split at f
  .cases f
  rename_i ys m;let#[us,g,l]:=r b x h j ys m;rw[A]at g;rcases c:ys[i]? with _|y
  .rw[c]at f;cases f
  rw[c]at f;have q:D.tup [.int (n0+i),y]=e:=by simpa using f
  subst q;let#[u,t,B]:=l.get c;refine#[#[us,u,g,t],?_];rintro w F ⟨p,C,rfl,hp,rfl,o⟩;refine#[b.put p (.tup [.int (n0+i),C]),rfl,.put hp,j.put hp,p,_,rfl,.of Gg,?_];have s:=o us g;rw[t]at s;cases s;exact#[_,_,rfl,rfl,.cons (B.mono .EF) rfl]
 intro f;unfold Ec at f;split at f
 .cases f
 .rename_i ys m;let#[us,g,l]:=r b x h j ys m;rw[A]at g;rcases c:ys[i]? with _|y
  .exact#[us,g,by rw[<-l.length];exact j9.mp c]
  rw[c]at f;cases f
def DL{elts:List xD}{x1}{tp:Pos}{e:xD}{ta:DA}{p pos:Pos}(o:Gl X "enumerate")(y:X.mg "enumerate"=u8)(A:QA X E [e] ta)(t:vv [e] X.env=[(uA,eval e X.env)]:=by rfl):
  QI X E .Az (.Call (.Name "enumerate" p) [e] [] pos) (Br Hf ta):=(DJ o y A t).mono λJ H Q h=>by
 let#[a,S,G,hk,rfl,s,r,h]:=h;refine#[a,S,G,hk,rfl,s,r,(T6 h).imp ?_];rintro F _ ⟨b,C,i,rfl,x,f,q,-,c⟩;unfold Hf at c;split at c
 .rename_i d;split at c
  .rename_i VF;let#[v,r,n,j,l]:=q;cases(l);subst n;let#[I,B]:=jE.mp (VF);let#[u,rfl,#[z,m],w]:=bB f j B;have g:=x.k.trans hk;exact#[u,z,rfl,by rw[<-g];exact m,c b _ .BG f (gC (G:=i) (v:=.WB) g w _)]
  exact c.elim
 exact c.elim
theorem gD(s:XF a G):∀{l:List D}{vs:List V},YA a l vs->l.all (Nk G)=u9->∃j,vs=j.map (λm=>V.ref m.WK)/\(∀m∈j,∃us,m.sq a.K a.H us)/\
   ∀b,Ext a b->∀f,XF b f->∀i,(∀ys,Ii f i l=u7 (u7 ys)->∃us,Z' b.K b.H i j us/\YA b ys us)/\(Ii f i l=u7 u8->StV b.K b.H i j)
 |[],vs,r,_=>by
  cases(r)
  refine#[[],rfl,(λ_ h=>nomatch h),λb x f k i=>#[λys h=>?_,λh=>?_]]
  .cases h;exact#[[],.nil,rfl]
  cases h
 | d::l,vs,r,h=>by
  rw[jy,zN]at h;let#[v,U,rfl,M,O]:=r;let#[T,S]:=jE.mp (h.1);let#[m,rfl,P,L]:=bB s M S;let#[j,rfl,A,n]:=gD s O h.2;refine#[m::j,rfl,λF z=>?_,λb x f k i=>#[λys c=>?_,λc=>?_]]
  .rcases zj.mp z with rfl|z
   .exact P
   exact A F z
  .unfold Ii at c;split at c
   .cases c
   rename_i q t;let#[us,p,o]:=L b x f k q t;split at c
   .cases c
   .rename_i y e;let#[u,g,J]:=o.get e;split at c
    .rename_i w B;cases c;let#[I,N,Q]:=(n b x f k i).1 w B;exact#[u::I,.cons p g N,.cons J Q]
    .rename_i C;exact absurd c (C _)
  unfold Ii at c;split at c
  .cases c
  .rename_i q t;let#[us,p,o]:=L b x f k q t;split at c
   .rename_i e;exact .here p (by rw[<-o.length];exact j9.mp e)
   .rename_i y e;let#[u,g,J]:=o.get e;split at c
    .cases c
    exact .there p g ((n b x f k i).2 c)
theorem DM(hk:a.K=X.K)(m:∀b,Ext a b->∀f,XF b f->∀i,(∀ys,Ii f i ds=u7 (u7 ys)->∃us,Z' b.K b.H i ls us/\YA b ys us)/\(Ii f i ds=u7 u8->StV b.K b.H i ls))(n):
  WS a (.fn n (Ex ds)) (Itz X.K ls):=by
 intro b x f h i;have q:=x.k.trans hk;constructor
 .intro e c;unfold Ex at c;rcases g:Ii f i ds with _|o
  .rw[g]at c;cases c
  cases o with
  |none=>rw[g]at c;cases c
  |some ys=>
   rw[g]at c;have j:D.tup ys=e:=by simpa using c
   subst j;let#[us,d,r]:=(m b x f h i).1 ys g;rw[q]at d;refine#[#[us,d],?_];rintro w t ⟨p,s,rfl,hp,rfl,l⟩;cases l us d;exact#[b.put p (.tup us),rfl,.put hp,h.put hp,p,us,rfl,.of Gg,r.mono .EF]
 intro c;unfold Ex at c;rcases g:Ii f i ds with _|o
 .rw[g]at c;cases c
 cases o with
 |none=>
  have:=(m b x f h i).2 g;rw[q]at this;exact this
 |some ys=>rw[g]at c;cases c
def bC(n:Nat)(K:za)(ta:TA):TI:=λσ H R=>ta σ H λvs H1=>∃ls:List Src,vs=ls.map (λsr=>V.ref sr.WK)/\(∀sr∈ls,∃us,sr.sq K H1 us)/\ls.length=n/\R (Itz K ls) H1
theorem bD:∀{b:List Src}{us:List xM},Vals (b.map λa=>V.ref a.WK) us->us=b.map λa=>Value.ref a.WK
 |[],us,h=>by cases h;rfl
 | a::b,us,h=>by
  cases h with
  |cons r c=>
   cases r;rw[bD c]
   rfl
def Yr{a:List Src}{n:Nat}{q:Src×Nat}(h:q∈a.zipIdx n):q.1∈a/\n<=q.2/\q.2<n+a.length:=by let#[i,b,rfl]:=qO h;simp at b;simp only[List.getElem_zipIdx];exact#[qX b,.a,.a]
def gE{x1}{tp:Pos}{N:St}{H:Hp}{s:xI}{R:It->Hp->Prop}{d:List Src}(I:Inv X vT N H s)(p:∀c∈d,∃us,c.sq X.K H us)(u:d≠[])(M:d.length<=1000000)
  (x:checkTypeCall "zip" #[d.map λc=>Value.ref c.WK,[]]=pure ()) (m:vZ "zip.__new__" #[.type "zip"::d.map λc=>Value.ref c.WK,[]]=pure ()) (VF:∀obj,argsOk "object.__init__" #[obj::d.map λc=>Value.ref c.WK,[]])
  (q:R (Itz X.K d) H):vA .AB X.A (call (.type "zip") (d.map λc=>Value.ref c.WK)) (λv U=>vA .AB X.A (pyIter v) (PIE X vT N .Az R) X.xe U) X.xe s:=by
 have B:∀c∈d,∃J,c.val s.heap J:=λc a=>by let#[us,h]:=p c a;let#[VB,_,L,_]:=Src.sq.val I h;exact#[_,L]
 have y:∀c∈d,c.WK<s.heap.objs.size:=λc a=>by let#[J,h]:=B c a;let#[o,n,Z,_]:=h.obj;exact zA Z
 refine Co B M x m VF λL n z F l t hi W=>?_
 refine wpAny_pyIter_zip F ?_
 have C:(d.zipIdx s.heap.objs.size).map (·.1)=d:=by refine qB .d λi S O=>by simp
 have Q:(d.zipIdx s.heap.objs.size).map (·.2)=qF s.heap.objs.size d.length:=by refine qB .d λi S O=>by simp
 have g:∀q∈d.zipIdx s.heap.objs.size,q.1.WK<s.heap.objs.size/\s.heap.objs.size<=q.2/\q.2<n:=λq a=>#[y _ (Yr a).1,(Yr a).2.1,by rw[z];exact(Yr a).2.2]
 have f:=z▸xq _ _;have T:=DK (P:=X.prog) (w:=X.w) (K:=X.K) (elts:=elts) (x1:=x1) (pos:=tp) (d.zipIdx s.heap.objs.size) (n+2) n (n+1) #[Q▸List.nodup_range',λq a=>qQ (zY (g q a).1 (Nat.le_succ_of_le f)),λq a r Y=>qQ (zY (g q a).1 (g r Y).2.1),λq a=>qQ (qN (g q a).2.2)] #[Nat.succ_ne_self (n+1),λq a=>#[qQ (zY (g q a).2.2 .I5),qQ (zY (g q a).1 (zx f .I5))]]
  #[qQ (Nat.lt_add_of_pos_right .c),qQ (qA n),λq a=>qQ (g q a).2.2] (by simpa using M) (by intro e;apply u;rw[<-C,e];rfl)
 rw[C]at T;refine#[n+2,_,_,_,H,rfl,I.kept W,T,#[F,l,#[_,t,.d],hi],λb j=>?_,q];have k:s.heap.objs.size<=b:=by
  rcases zj.mp j with rfl|j
  .exact zx f .I5
  rcases zj.mp j with rfl|j
  .exact f
  .rcases zj.mp j with rfl|j
   .exact Nat.le_succ_of_le f
   .let#[q,p,rfl]:=zw.mp j;exact(Yr p).2.1
 exact I.K3 k (I.VF.fresh k)
def DN(a b c):checkTypeCall "zip" #[[a,b,c],[]]=pure ():=by kernel_rfl
def DP(a b c):vZ "zip.__new__" #[[.type "zip",a,b,c],[]]=pure ():=by kernel_rfl
def DQ(a b c d):argsOk "object.__init__" #[[a,b,c,d],[]]:=by kernel_rfl
theorem DR{elts:List xD}{x1}{tp:Pos}{a b:xD}{ta:TA}{p pos:Pos}(k:Gl X "zip")(o:X.mg "zip"=u8)(n:PA X [a,b] ta)(l:vv [a,b] X.env=[(uA,eval a X.env),(uA,eval b X.env)]:=by rfl)(d:vv [b] X.env=[(uA,eval b X.env)]:=by rfl):
  PI X .Az (.Call (.Name "zip" p) [a,b] [] pos) (bC 2 X.K ta):=by
 intro c s g H R I h;refine Call_ (Jm I k o uQ (qa (ZD (n pos c s g H _ I h) λu w zz=>?_) (by rw[l,d]) (by rw[d];rfl)));let#[v,t,i,m,f]:=zz;let#[r,rfl,j,e,q]:=f;cases bD m
 match r,e with
 |[x,y],_=>exact gE i j .d .d (PySem.F.typeCall_zip_2 _ _) (PySem.F.newCall_zip_2 _ _) (λobj=>PySem.F.args_object_init_3 obj _ _) q
theorem DT{elts:List xD}{x1}{tp:Pos}{a b c:xD}{ta:TA}{p pos:Pos}(l:Gl X "zip")(r:X.mg "zip"=u8)(o:PA X [a,b,c] ta)(m:vv [a,b,c] X.env=[(uA,eval a X.env),(uA,eval b X.env),(uA,eval c X.env)]:=by rfl)
  (e:vv [b,c] X.env=[(uA,eval b X.env),(uA,eval c X.env)]:=by rfl):PI X .Az (.Call (.Name "zip" p) [a,b,c] [] pos) (bC 3 X.K ta):=by
 intro d s i H R I h;refine Call_ (Jm I l r uQ (qa (ZD (o pos d s i H _ I h) λv A zz=>?_) (by rw[m,e]) (by rw[e];rfl)));let#[w,u,j,n,g]:=zz;let#[t,rfl,k,f,q]:=g;cases bD n
 match t,f with
 |[x,y,z],_=>exact gE j k .d .d (DN _ _ _) (DP _ _ _) (λobj=>DQ obj _ _ _) q
def gF{K:za}{n:Nat}{ta:DA}{d:St}{H:Hp}{Q:It->Hp->Prop}(l:K=X.K)(h:lI K E (Br (Fy n) ta) d H Q):bC n K (lA K E ta) d H Q:=by
 subst l;let#[a,S,G,hk,rfl,s,r,h]:=h;refine#[a,S,G,hk,rfl,s,r,(T6 h).imp ?_];rintro v _ ⟨b,w,u,rfl,x,g,q,-,c⟩;unfold Fy at c;split at c
 .rename_i VF;let#[f,e,o,j]:=gD g q VF.1;have i:=x.k.trans hk;have m:f.length=n:=by have:=q.length;rw[e,zq]at this;lia
  exact#[f,e,λt p=>by rw[<-i];exact o t p,m,c b _ .BG g (DM i j _)]
 exact c.elim
def gG{elts:List xD}{x1}{tp:Pos}{a b:xD}{ta:DA}{p pos:Pos}(d:Gl X "zip")(g:X.mg "zip"=u8)(f:QA X E [a,b] ta)(e:vv [a,b] X.env=[(uA,eval a X.env),(uA,eval b X.env)]:=by rfl)(c:vv [b] X.env=[(uA,eval b X.env)]:=by rfl):
  QI X E .Az (.Call (.Name "zip" p) [a,b] [] pos) (Br .GL ta):=(DR d g f e c).mono λi H Q h=>gF rfl h
def DU{elts:List xD}{x1}{tp:Pos}{a b c:xD}{ta:DA}{p pos:Pos}(e:Gl X "zip")(i:X.mg "zip"=u8)(g:QA X E [a,b,c] ta)(f:vv [a,b,c] X.env=[(uA,eval a X.env),(uA,eval b X.env),(uA,eval c X.env)]:=by rfl)
  (d:vv [b,c] X.env=[(uA,eval b X.env),(uA,eval c X.env)]:=by rfl):QI X E .Az (.Call (.Name "zip" p) [a,b,c] [] pos) (Br (Fy 3) ta):=(DT e i g f d).mono λj H Q h=>gF rfl h
end
def ixL:D->D->DH->R D
 | .ref p,.int k,G=>match G[p]? with
  |some .AI=>match ZJ xs k with
   |some v=>.ok v G
   |none=>.bad
  |_=>.bad
 |_,_,_=>.bad
def Ms(to ti te:DE)(f:D->D->DH->R D):DS:=λS G=>(to S G).toS λo G1=>(ti S G1).toS λi G2=>(ixL o i G2).toS λx G3=>(te S G3).toS λy G4=>(f x y G4).toS λz G5=>(Ni o i z G5).toS λ_ G6=>.nx S G6
def Cu:DS:=λ_ _=>.bad
section
variable{X:Cx}{E:XK}
def Dc{st:xL}:QS X E st Cu:=λb s c H W I h=>by let#[a,S,G,hk,rfl,d,r,h]:=h;exact h.elim
theorem DV(ho:QE X E o to)(hi:QE X E i ti)(he:QE X E e te)(U:ZF X .FM .B4)
  (ha:∀B F c,augStore i B F c=(do holding [c,B,F] (setItem B F c);release [c,B,F] [];pure .next):=by intros;rfl):QS X E (.AugAssign (.Subscript o i tpos) op e pos) (Ms to ti te f):=by
 intro b s l H W I h;let#[a,S,G,hk,rfl,sm,r,h]:=h;refine wpAny_AugAssign_SubscriptAny (ZD (ho b s l a.H _ I #[a,S,G,hk,rfl,sm,r,Gm h]) ?_) ha;rintro B s1 ⟨vo,H1,I1,ro,b1,o,G1,rfl,M,m1,q1,_,h1⟩;have k1:=M.k.trans hk;refine ZD (hi b s1 l b1.H _ I1 #[b1,S,G1,k1,rfl,m1,r.mono M,Gm h1]) ?_;rintro F s2 ⟨vi,H2,I2,ri,C,i,G2,rfl,J,m2,q2,_,g⟩;have k2:=J.k.trans k1;cases i with
 | int k=>
  cases o with
  | ref p=>
   let#[hp,rfl]:=q1.mono J;cases(q2);cases ro;let#[t,rfl]:=ri;unfold ixL at g;dsimp only at g;split at g
   .rename_i xs N;let#[vs,e1,r1]:=m2.lst N;split at g
    .rename_i d hd;let#[v,ev,rd]:=fC r1 hd;let#[VB,rv,pl,hz]:=I2.list (.of e1);let#[j,L,g2,g3,g4,g5]:=V8 ev;let#[w,ew,T]:=rv.get g2;have hl:=rv.length;have hn:=VR;have O:vA .AB X.A (getItem (.ref (C.m p)) .Ha) (λu Q=>u=w/\Q=s2) X.xe s2:=by
      by_cases h0:0<=k
      .have Z:k.toNat=j:=by rw[seqIndex_of h0 g5]at L;exact w4 L
       exact wpAny_getItem_list pl.isList h0 .a (by rw[Z];simpa using ew) #[rfl,rfl]
      have Z:(k+(VB.toArray.size:Int)).toNat=j:=by rw[seqIndex_neg .a g4]at L;rw[z0,<-hl];exact w4 L
      exact wpAny_getItem_list_neg pl.isList .a (by rw[z0]<;>lia) .a (by rw[Z];simpa using ew) #[rfl,rfl]
     refine ZD O ?_;rintro u Q ⟨rfl,rfl⟩;refine ZD (he b Q l C.H _ I2 #[C,S,G2,k2,rfl,m2,(r.mono M).mono J,Gm g]) ?_;rintro yv s4 ⟨vy,H4,I4,ry,b4,y,G4,rfl,x,m4,q4,_,h4⟩;refine ZD (U b s4 l b4.H v vy u yv _ I4 T ry #[b4,G4,d,y,x.k.trans k2,rfl,m4,rd.mono x,q4,Gm h4]) ?_;rintro c s5 ⟨vn,H5,I5,rn,b5,z,G5,rfl,Y,m5,q5,_,q⟩;unfold Ni at q;dsimp only at q;split at q
     .rename_i ys hy;split at q
      .rename_i jj P;let#[ws,e5,r5]:=m5.lst hy;let#[x6,m6]:=Xj m5 (zY hp (zx x.n Y.n)) e5 (r5.set q5 jj);refine ZD (set_list b s5 l b5.H (.ref (C.m p)) .B6 vn (.ref (C.m p)) .Ha c (λH'=>W.nx l H') I5 rfl #[t,rfl] rn #[b5.m p,ws,k,jj,by rw[(Y.m p (zY hp x.n)).trans (x.m p hp)],rfl,e5,by rw[<-r5.length];exact P,q _ l x6 m6 (((((r.mono M).mono J).mono x).mono Y).mono x6)]) ?_
       rintro _ s6 ⟨H6,I6,q6⟩;exact#[l,H6,I6,q6]
      exact q.elim
     exact q.elim
    exact g.elim
   exact g.elim
  |_=>exact(g).elim
 |_=>cases o<;>exact(g).elim
end
def Kp(ds:List D)(G:DH):R D:=match ds with
 | [d]=>match Bf d G with
  |some xs=>match Lg xs with
   |some (n::ns)=>.ok (.int .HA) G
   |_=>.bad
  |none=>.bad
 |_=>.bad
theorem Vr:∀(ns:List Int)n,ns.foldl min n<=n/\(∀x∈ns,ns.foldl min n<=x)/\(ns.foldl min n=n\/ns.foldl min n∈ns)
 |[],n=>#[zU _,λx h=>(by cases h),.inl rfl]
 | m::ns,n=>by
  let#[d,b,c]:=Vr ns (min n m);rw[List.foldl_cons];refine#[.a,λx a=>?_,?_]
  .rcases zj.mp a with rfl|a
   .lia
   exact b x a
  rcases c with h|h
  .by_cases e:n<=m
   .exact .inl (by rw[h];lia)
   exact .inr (by rw[h,show min n m=m by lia];exact zW)
  exact .inr (zZ _ h)
section
variable{X:Cx}{E:XK}
def intAt{ns:List Int}{VB:List xM}{i:Nat}{w:xM}(d:Vals .Bk VB)(hw:VB.toArray[i]?=u7 w):i<ns.length/\∃t,w=.int (ns.getD i 0) t:=by
 have b:VB[i]?=u7 w:=by simpa using hw
 have f:i<(ns.map V.int).length:=by rw[d.length];exact(z9.mp b).1
 have a:i<ns.length:=by simpa using f
 let#[u,c,e]:=d.get (i:=i) (x:=V.int ns[i]) .d;rw[b]at c;cases c;let#[t,rfl]:=e;exact#[a,t,by simp[a]]
def DX(T:X.calm=u9):VE X (.builtin "min") (C? X.K E Kp):=by
 intro y s σ H vs us Q I Z h;let#[a,G,ds,hk,rfl,o,r,q]:=h;unfold Kp at q;split at q
 .rename_i d;let#[v,rfl,rv]:=XH r;split at q
  .rename_i xs L;split at q
   .rename_i n b C;cases Vn C;let#[p,ws,rfl,z,M]:=Ku o rv L;cases ag M;rw[hk]at z;let#[u,rfl,F]:=vals1 Z;cases F;refine call_min_walk (af I T z λit fp wr VB St s₂ hv W st hfp fin=>#[it,fp,wr,VB.toArray.size,_,St,_,rfl,W,st,hfp,?_,.ints_lt (λi=>(n::b).getD i 0) (λi w hw=>(intAt hv hw).2),λw J A hw kk=>?_])
    .simp[<-hv.length]
    let#[l,t,rfl]:=intAt hv hw;let#[b1,Y]:=argBest_lt (λi=>(n::b).getD i 0) (VB.toArray.size-1);refine#[.int (b.foldl min n),a.H,fin J A kk,#[t,?_],q a _ .AG o rfl];have UX:VB.toArray.size=b.length+1:=by simp[<-hv.length]
    let#[U,O,P]:=Vr b n;have f:∀x∈n::b,b.foldl min n<=x:=λx g=>by
     rcases zj.mp g with rfl|g
     .exact U
     exact O x g
    have e:b.foldl min n∈n::b:=by
     rcases P with h|h
     .rw[h];exact zW
     exact zZ _ h
    let#[j,k,N]:=qO e;have m:=f _ (qX l);have S:(n::b).getD j 0=b.foldl min n:=by rw[q8,zJ k];exact N
    have B:(n::b).getD (argBest (λi j=>decide ((λi=>(n::b).getD i 0) i<(λi=>(n::b).getD i 0) j)) (VB.toArray.size-1)) 0=(n::b)[argBest (λi j=>decide ((λi=>(n::b).getD i 0) i<(λi=>(n::b).getD i 0) j)) (VB.toArray.size-1)]:=by rw[q8,zJ l];rfl
    have c:=Y j (by simp at k;lia);rw[S]at c;rw[<-B]at m
    congr 1
    exact Int.le_antisymm c m
   exact q.elim
  exact q.elim
 exact q.elim
def Jk:D->D->DH->R D
 |.ref p,.int k,G=>match G[p]? with
  |some .AI=>if -(2^63)<=k/\k<2^63/\xs.length*k.toNat<=1000000 then .ok .AH (G++[.lst (zK k.toNat xs).flatten])else .bad
  |_=>.bad
 |.fl (.tup t::xs),.int k,G=>(if -(2^63)<=k/\k<2^63/\(D.tup t::xs).length*k.toNat<=1000000 then .ok .AH (G++[.lst (zK k.toNat (.tup t::xs)).flatten])else .bad)|_,_,_=>.bad
theorem YA.rep(r:YA a ds vs):∀k,YA a (zK k ds).flatten (zK k vs).flatten
 |0=>rfl
 |k+1=>by exact r.append (.rep r k)
theorem DY:ZF X .C9 (XO X.K E Jk):=yp.mono λx y H Q h=>by
 let#[a,G,d,e,hk,rfl,s,j,n,q]:=h;cases d with
 | ref p=>
  cases e with
  | int k=>
   unfold Jk at q;dsimp only at q;split at q
   .rename_i g v;split at q
    .rename_i b;let#[i,r,c]:=s.lst v;let#[hp,rfl]:=j;refine#[a.m p,k,i,rfl,n,.inl r,b.1,b.2.1,?_,λp hp=>Ji s .HB q p hp];rw[<-c.length];exact zx b.2.2 WH
    exact q.elim
   exact q.elim
  |_=>exact(q).elim
 |fl g=>(cases g with |nil=>exact(q).elim|cons d g=>(cases d with |tup t=>(cases e with |int k=>(unfold Jk at q;dsimp only at q;split at q;(rename_i b;let#[l,i,rfl,f,c]:=j;rcases f with⟨o,f⟩|⟨⟨u,rfl⟩,_⟩;(exact#[l,k,i,rfl,n,.inr #[o,f],b.1,b.2.1,by rw[<-c.length];exact zx b.2.2 WH,λp hp=>Ji s .HB q p hp]);(let#[_,_,w,#[_,_,rfl,_],_]:=c;cases u<;>cases w));exact q.elim)|_=>exact(q).elim)|_=>exact(q).elim))|_=>exact(q).elim
end
end _D
namespace _D
open PySem PySem.W PyProof.Rows
def ZL(n:Nat){α:Type}(P:α->Prop):KasT α->Prop
 |.ret a=>P a
 |.ask i j k=>i<n/\j<n/\∀b,ZL n P (k b)
theorem ZL.bind{c e:Type}{f:c->KasT e}{P:c->Prop}{Q:e->Prop}(d:∀a,P a->ZL n Q (f a)):∀{t:KasT c},ZL n P t->ZL n Q (t.bind f)
 |.ret a,h=>d a h
 |.ask _ _ _,h=>#[h.1,h.2.1,λb=>.bind d (h.2.2 b)]
def YM(n:Nat)(p:Array Nat):Prop:=0<n/\p.Perm (zV n).toArray
def YM.lt(h:YM n p)(a:x∈p):x<n:=by have:=h.2.mem_iff.mp a;simpa using this
def YM.pt(h:YM n p)(k):p.getD k 0<n:=by
 by_cases hk:k<p.size
 .have:p.getD k 0=p[k]:=by simp[Array.getD,hk]
  rw[this];exact h.lt (Array.getElem_mem hk)
 have:p.getD k 0=0:=by simp[Array.getD,hk]
 rw[this];exact h.1
def YM.perm(h:YM n p)(e:q.Perm p):YM n q:=#[h.1,e.trans h.2]
theorem bE(h:YM n p):∀f m,ZL n (λ_=>True) (kas_asc p f m)
 |0,m=>trivial
 | f+1,m=>#[h.pt _,h.pt _,λb=>by
   cases b with
   |true=>exact trivial
   |false=>exact bE h f (m+1)]
theorem Zd:∀f{p:Array Nat}m q,YM n p->ZL n (λr=>YM n r.1) (kas_desc f p m q)
 |0,p,m,q,h=>h
 | f+1,p,m,q,h=>#[h.pt _,h.pt _,λb=>by
   cases b with
   |true=>
    by_cases a:q>0
    .simp only[if_pos a];exact Zd f _ _ (h.perm (mirror_perm ..))
    simp only[if_neg a];exact Zd f _ _ h
   |false=>
    refine#[h.pt _,h.pt _,λd=>?_];cases d with
    |true=>exact h
    |false=>exact Zd f _ _ h]
def gH(h:YM n p)(m k):ZL n (λr=>YM n r.2) (kas_tail3 m k p):=by refine .bind (λa _=>?_) (bE (h.perm (mirror_perm ..)) _ _);exact h.perm (mirror_perm ..)
def gI(h:YM n p)(m k):ZL n (λr=>YM n r.2) (kas_descPart m k p):=
 ZL.bind (λa b=>by
  split
  .exact gH (b.perm (mirror_perm ..)) _ _
  exact gH b _ _) (Zd _ _ _ h)
def gJ(h:YM n p)(k):ZL n (λr=>YM n r.2) (kas_count k p):=
 ZL.bind (λa _=>by
  split
  .exact h
  split
  .refine#[h.pt _,h.pt _,λc=>?_];cases c with
   |true=>exact h
   |false=>exact gI (h.perm (mirror_perm ..)) _ _
  exact gI h _ _) (bE h _ _)
theorem bF(h:YM n p)(k):∀f l r,ZL n (λ_=>True) (kas_place p k f l r)
 |0,l,r=>trivial
 |f+1,l,r=>by
  unfold kas_place;split
  .trivial
  refine#[h.pt _,h.pt _,λc=>?_];cases c with
  |_=>exact bF h k f _ _
theorem gK:∀f{p:Array Nat}k,YM n p->ZL n (λ_=>True) .E1
 |0,p,k,h=>trivial
 |f+1,p,k,h=>.bind (λa _=>gK f _ (h.perm (bubble_perm ..))) .H3
def DZ(c:0<n):ZL n (λ_=>True) (kas_sort n):=
 ZL.bind (λa b=>by
  split
  .exact gK _ _ b
  trivial) (gJ #[c,.refl _] _)
end _D
namespace _D
open PySem PySem.Spec _L
open PyProof.Rows hiding St
def F?:List D->List D->Option Bool
 |[],[]=>u7 uA
 |[],_::_=>u7 u9
 |_::_,[]=>u7 uA
 |.int a::r,.int b::r'=>if a=b then F? r r' else u7 (decide (a<b))
 |.str a::r,.str b::r'=>if a=b then F? r r' else u7 (decide (a.cps.toList<b.cps.toList))
 |_::_,_::_=>u8
def ltD:D->D->Option Bool
 |.tup xs,.tup ys=>F? xs ys
 |_,_=>u8
def ltI(xs:List D)(i j:Nat):Bool:=(ltD .Hb (xs.getD j .WB)).getD uA
def isIt:D->Bool
 |.tup (.int _::_)=>u9
 |_=>uA
def V3:D->Bool
 |.tup (.str _::_)=>u9
 |_=>uA
def Q3(xs:List D):Bool:=(xs.all isIt||xs.all V3)&&xs.all λx=>xs.all λy=>(ltD x y).isSome
def Mr(xs:List D):List D:=if xs.length<2 then xs else(Bx .I6 .H4).toList.map λi=>xs.getD i .WB
def Ov(ds:List D)(G:DH):R D:=match ds with
 |[d]=>match Ha d G with
  |some xs=>if(xs.length<64/\(Mr xs).length<64)/\Q3 xs=u9 then .ok .AH (G++[.lst (Mr xs)])else .bad
  |none=>.bad
 |_=>.bad
theorem gL(h:∀i j,i<n->j<n->∀C:Bool->xI->Prop,C .D3 s->cmp i j C s){b:Type}{P:b->Prop}{Q:b->xI->Prop}:
  ∀{t:wZ b},ZL n P t->Q .IS s->t.kasWp cmp Q s
 |.ret _,_,c=>c
 |.ask i j k,a,c=>h i j a.1 a.2.1 _ (gL h (a.2.2 .D3) c)
section
variable{prog:xG}{w:xN}{A:xC}{s:xI}
theorem D0(h:Q (decide (a<b)) s):vA .AC A (oneLt' c (.int a t) (.int b u)) Q E s:=by
 cases c with
 |true=>exact oneLt_int h
 |false=>exact uZ _ _ (lt_int h)
theorem D1(h:Q (decide (a.cps.toList<b.cps.toList)) s):vA .AC A (oneLt' c (.str a t) (.str b u)) Q E s:=by
 cases c with
 |true=>exact oneLt_str h
 |false=>exact uZ _ _ (lt_str h)
theorem Zr:∀{xs ys:List D}{vs q:List V}{us o:List xM}{i:Nat}{k:Bool},YA a xs vs->YA a ys q->Vals vs us->Vals q o->F? xs ys=u7 k->fin=decide (us.length<o.length)->Q k s->
  PySem.W.KatLex prog w A u9 fin Q (us.zip o) i s
 |[],[],vs,q,us,o,i,k,f,g,c,b,h,j,d=>by cases(f);cases(g);cases c;cases b;cases h;subst j;exact wW d
 |[],y::ys,vs,q,us,o,i,k,f,g,c,b,h,j,d=>by cases(f);cases c;let#[F,wr,rfl,_,_]:=g;cases b;cases h;subst j;exact wW (by simpa using d)
 |x::xs,[],vs,q,us,o,i,k,f,g,c,b,h,j,d=>by
  cases(g);cases b;let#[F,wr,rfl,_,_]:=f;cases c;have hk:k=uA:=by cases x<;>(simp[F?]at h;exact h)
  subst hk;subst j;exact wW (by simpa using d)
 | x::xs,y::ys,vs,q,us,o,i,k,f,g,c,b,h,j,d=>by
  have p:(∃m n,x=.int m/\y=.int n)\/(∃m n,x=.str m/\y=.str n):=by
   cases x<;>cases y<;>first
    |exact .inl #[_,_,rfl,rfl]
    |exact .inr #[_,_,rfl,rfl]
    |(exfalso;simp[F?]at h)
  let#[B,H,rfl,z,f]:=f;let#[C,wr,rfl,E,g]:=g;rcases p with⟨m,n,rfl,rfl⟩|⟨m,n,rfl,rfl⟩
  .cases(show B=V.int m from z)
   cases(show C=V.int n from E)
   cases c with
   | cons r c=>
    cases b with
    | cons v b=>
     let#[t,rfl]:=r;let#[u,rfl]:=v;refine uJ (wpAny_eqBool_int (uX (λl=>?_) λl=>?_))
     .have e:m=n:=by simpa using l
      rw[show F? (.int m::xs) (.int n::ys)=if m=n then F? xs ys else u7 (decide (m<n))from rfl,if_pos e]at h
      exact uV (Zr f g c b h (by simpa using j) d)
     have e:m≠n:=by simpa using l
     rw[show F? (.int m::xs) (.int n::ys)=if m=n then F? xs ys else u7 (decide (m<n))from rfl,if_neg e]at h
     cases h;exact uW (D0 d)
  cases(show B=V.str m from z)
  cases(show C=V.str n from E)
  cases c with
  | cons r c=>
   cases b with
   | cons v b=>
    let#[t,rfl]:=r;let#[u,rfl]:=v;refine uJ (wpAny_eqBool_str (uX (λl=>?_) λl=>?_))
    .rw[show F? (.str m::xs) (.str n::ys)=if m=n then F? xs ys else u7 (decide (m.cps.toList<n.cps.toList))from rfl,if_pos (by simpa using l)]at h
     exact uV (Zr f g c b h (by simpa using j) d)
    .rw[show F? (.str m::xs) (.str n::ys)=if m=n then F? xs ys else u7 (decide (m.cps.toList<n.cps.toList))from rfl,if_neg (by simpa using l)]at h
     cases h;exact uW (D1 d)
end
section
variable{X:Cx}{E:XK}{vT:List (xB×Obj)}{σ:St}{s:xI}{H:Hp}{h':Heap}
def gM(I:Inv X vT σ H s)(k:∀b o,b≠X.env.locals->s.heap.get? b=u7 o->h'.get? b=u7 o)(ns:∀m,s.heap.Ns X.env.locals m->h'.Ns X.env.locals m):Inv X vT σ H {s with heap:=h',toks:=t'}:=by
 refine I.step (ch:=[]) (nofun) (λb o f _ _ e _=>k b o f e) (λb o f _ _ e _=>#[o.slots,k b o f e]) (λ_ _ _ _ n=>n) (λb o _ e=>?_) (λ_ _ e=>e) (λ_ _ _ e=>e)
  (λb r e=>#[[].toArray,by rw[e];simp]) ns (λb u e=>?_) I.bare
 .by_cases i:b=X.env.locals
  .let#[m,j,_]:=I.loc;let#[l,_,_,d,_]:=ns m j;exact#[l,i▸d]
  exact#[o,k b o i e]
 have g:∀c w,H c=u7 w->c≠X.env.locals:=λc w e z=>by rw[z,I.free]at e;cases e
 refine(I.VF b u e).L' (λc v p q=>k c v ?_ q) (λ_ q=>q) λ_ _ q=>q
 rcases p with z|z
 .rw[z];exact g b u e
 exact g c _ z
end
section
variable{prog:xG}{w:xN}{A:xC}{E:xM->xI->Prop}{s:xI}
def D2{l:xB}{vs:List xM}{Q:xM->xI->Prop}(n:s.heap.IsList l vs.toArray)(hz:vs.length<64)
  (h:∀g,g.get? (s.heap.objs.size+1)=u7 (seqObj "list" vs.toArray 0)->(∀b o,s.heap.get? b=u7 o->g.get? b=u7 o)->
   vA .AC A.in1.in1 (Builtin.«list.sort» #[[.ref (s.heap.objs.size+1)],[]]) (λd s'=>d=.done .Dm/\Q (.ref (s.heap.objs.size+1)) s') E {s with heap:=g}):
  vA .AC A (call (.builtin "sorted") [.ref l]) Q E s:=by
 have c:vs.length<=sizeLine:=by rw[vj];lia
 refine Calls.call_function_entry kind_sorted plain_sorted entry_sorted (args_sorted1 _) ?_;refine vC (vM (vC (collect_list n (vC (wpAny_newList ?_ c)) c)))
 generalize m:(s.heap.push (seqObj "list" [].toArray 0)).update s.heap.objs.size (.mapSeq (·++vs.toArray))=f
 have i:f.objs.size=s.heap.objs.size+1:=by rw[<-m,Heap.size_update,size_push']
 have p:∀b o,s.heap.get? b=u7 o->f.get? b=u7 o:=λb o q=>by have e:=zA q;rw[<-m,Heap.get?_update_ne _ _ _ _ (qQ e),Heap.get?_push_ne _ _ _ (qQ e)];exact q
 have j:(f.push (seqObj "list" vs.toArray 0)).get? (s.heap.objs.size+1)=u7 (seqObj "list" vs.toArray 0):=by rw[<-i];exact zD _ rfl
 rw[i];refine vC (vG (vE slot_list_sort #[_,j,rfl] entry_list_sort ?_ (args_list_sort _)));exact vH (h (f.push (seqObj "list" vs.toArray 0)) j λb o q=>zQ _ (p b o q)) (λd s' k=>(#[_,k.1,vM #[_,rfl,k.2]])) λ_ _ x=>x
def D3{a:xB}{vs:List xM}{n:Nat}{P:Fin->xI->Prop}(ho:s.heap.get? a=u7 (seqObj "list" vs.toArray n))(v:vs.length<2)
  (h:∀h' c,h'.get? a=u7 (seqObj "list" vs.toArray c)->(∀b o,b≠a->s.heap.get? b=u7 o->h'.get? b=u7 o)->P (.done .Dm) {s with heap:=h'}):vA .AC A (Builtin.«list.sort» #[[.ref a],[]]) P E s:=by
 obtain⟨k,g⟩:∃k,(s.heap.update a (.mapSeq λ_=>([].toArray:Array xM))).get? a=u7 (seqObj "list" [].toArray k):=#[_,get?_update_seq ho λ_=> [].toArray];rw[list_sort_plain];refine vC (listItems_at ho rfl (vC (listUpdate_at ho rfl ?_ (by rw[z0,vj];lia) (xV _))));refine vC (seqEpoch_at g rfl (vC (wpAny_newTuple (vC (wpAny_newList (vG ?_) (xV _))) (by show vs.length<=_;rw[vj];lia))))
 have j:vs.toArray.size<2:=by rw[z0];lia
 rw[if_pos j,if_pos j];refine vC (vM (vC (wpAny_of_eq rfl ?_)));dsimp only
 have f:(arrOf (.mk' general' (vs.toArray.zip vs.toArray) [].toArray 7 u8)).map (·.2)=vs.toArray:=by
  show(vs.toArray.zip vs.toArray).map (·.2)=vs.toArray
  refine Array.ext .d λi x v=>by simp
 rw[f];generalize t:((s.heap.update a (.mapSeq λ_=>([].toArray:Array xM))).push {cls:=.type "tuple",data:=.seq vs.toArray.toList.toArray}).push {cls:=.type "list",data:=.seq ([]:List xM).toArray}=m;have e:m.get? a=u7 (seqObj "list" [].toArray k):=by rw[<-t];exact zQ _ (zQ _ g)
 have u:∀b o,b≠a->s.heap.get? b=u7 o->m.get? b=u7 o:=λb o l q=>by rw[<-t];exact zQ _ (zQ _ ((qR.update s.heap a (.mapSeq λ_=>([].toArray:Array xM))).extBut b o l q))
 refine vC (seqEpoch_at (o:=seqObj "list" [].toArray k) ?_ rfl ?_)
 .exact e
 obtain⟨r,p⟩:∃r,(m.update a (.mapSeq λ_=>vs.toArray)).get? a=u7 (seqObj "list" vs.toArray r):=#[_,get?_update_seq e λ_=>vs.toArray];refine vC (listUpdate_at e rfl ?_ (xV _) (by rw[z0,vj];lia));simp;exact vM (h _ r p λb o l q=>(qR.update m a (.mapSeq λ_=>vs.toArray)).extBut b o l (u b o l q))
end
def D4:vQ "sorted"=u7 (.builtin "sorted"):=.f
section
variable{X:Cx}{E:XK}{vT:List (xB×Obj)}{σ:St}{s:xI}{H:Hp}
def Y6(I:Inv X vT σ a.H s)(hk:a.K=X.K)(r:VG a d v)(e:RelV v u)(h:d=.tup xs):∃p o vs us n,u=.ref p/\s.heap.get? p=u7 o/\o.cls=.type "tuple"/\o.data=.seq us n/\Vals vs us.toList/\YA a xs vs:=by subst h;let#[p,vs,rfl,c,g]:=r;cases e;rw[hk]at c;let#[b,f,#[o,k,j,n,i],l]:=I.tuple c;exact#[p,o,vs,b.toArray,n,rfl,k,j,i,by simpa using f,g]
def D5(h:isIt d=u9):∃i r,d=.tup (.int i::r):=by
 unfold isIt at h;split at h
 .exact#[_,_,rfl]
 cases h
def D6(h:V3 d=u9):∃i r,d=.tup (.str i::r):=by
 unfold V3 at h;split at h
 .exact#[_,_,rfl]
 cases h
theorem gN(I:Inv X vT σ a.H s)(hk:a.K=X.K):∀{xs:List D}{vs:List V}{us:List xM},YA a xs vs->Vals vs us->xs.all isIt=u9->∃fs,uK s.heap us fs/\fs.length=us.length/\∀v∈fs,∃i t,v=.int i t
 |[],vs,us,r,v,h=>by
  cases(r);cases v
  exact#[[],.nil,rfl,λ_ c=>nomatch c]
 | d::xs,vs,us,r,v,h=>by
  rw[jy,zN]at h;let#[M,N,rfl,k,C]:=r;cases v with
  | cons g l=>
   let#[i,J,rfl]:=D5 h.1;let#[p,o,L,f,n,rfl,A,m,u,e,w]:=Y6 I hk k g rfl;let#[F,wr,rfl,j,O]:=w;cases(j);let#[fs,x,y,B]:=gN I hk C l h.2;have b:∃t,f[0]?=u7 (.int i t):=by
    rcases b:f.toList with _|⟨z,P⟩
    .rw[b]at e;cases e
    rw[b]at e;cases e with
    |cons q _=>
     let#[t,rfl]:=q;exact#[t,by rw[<-qT,b];rfl]
   let#[t,b]:=b;refine#[.int i t::fs,.cons A m u b x,by simp[y],λv c=>?_];rcases zj.mp c with rfl|c
   .exact#[i,t,rfl]
   exact B v c
theorem gO(I:Inv X vT σ a.H s)(hk:a.K=X.K):∀{xs:List D}{vs:List V}{us:List xM},YA a xs vs->Vals vs us->xs.all V3=u9->∃fs,uK s.heap us fs/\fs.length=us.length/\∀v∈fs,∃i t,v=.str i t
 |[],vs,us,r,v,h=>by
  cases(r);cases v
  exact#[[],.nil,rfl,λ_ c=>nomatch c]
 | d::xs,vs,us,r,v,h=>by
  rw[jy,zN]at h;let#[M,N,rfl,k,C]:=r;cases v with
  | cons g l=>
   let#[i,J,rfl]:=D6 h.1;let#[p,o,L,f,n,rfl,A,m,u,e,w]:=Y6 I hk k g rfl;let#[F,wr,rfl,j,O]:=w;cases(j);let#[fs,x,y,B]:=gO I hk C l h.2;have b:∃t,f[0]?=u7 (.str i t):=by
    rcases b:f.toList with _|⟨z,P⟩
    .rw[b]at e;cases e
    rw[b]at e;cases e with
    |cons q _=>
     let#[t,rfl]:=q;exact#[t,by rw[<-qT,b];rfl]
   let#[t,b]:=b;refine#[.str i t::fs,.cons A m u b x,by simp[y],λv c=>?_];rcases zj.mp c with rfl|c
   .exact#[i,t,rfl]
   exact B v c
def gP(I:Inv X vT σ a.H s)(l:XF a G)(q:out E a (.ok .AH (G++[.lst ys])) Q)(r:YA a ys ws)(v:Vals ws us)(hz:us.length<64)
  (h:f.get? (s.heap.objs.size+1)=u7 (seqObj "list" us.toArray c)) (k:∀b o,b≠X.env.locals->s.heap.get? b=u7 o->f.get? b=u7 o) (ns:∀m,s.heap.Ns X.env.locals m->f.Ns X.env.locals m):
  EP X vT σ Q (.ref (s.heap.objs.size+1)) {s with heap:=f}:=by
 have e:s.heap.objs.size<=s.heap.objs.size+1:=jG _;let#[g,j,t,p,n,i]:=I.K3 e (I.VF.fresh e);refine#[.ref (s.heap.objs.size+1),_,ai (gM I k ns) g (zx I.sz e) j n i (o:=.lst ws) #[?_,us,c,v,h],rfl,Ji l r q _ g];rw[v.length,vj];lia
end
section
variable{X:Cx}{E:XK}
def D7(h:Q3 xs=u9)(b:x∈xs)(a:y∈xs):∃k,ltD x y=u7 k:=by unfold Q3 at h;rw[zN]at h;exact jE.mp (qE.mp (qE.mp h.2 x b) y a)
def D8(h:ltD x y=u7 k):∃xs ys,x=.tup xs/\y=.tup ys/\F? xs ys=u7 k:=by
 unfold ltD at h;split at h
 .exact#[_,_,rfl,rfl,h]
 cases h
theorem gQ(r:YA a xs vs):∀l:List Nat,(∀i∈l,i<xs.length)->YA a (l.map λi=>xs.getD i .WB) (l.map λi=>vs.getD i .WB)
 |[],_=>rfl
 |i::l,h=>by
  have b:=h i zW;let#[v,e,f]:=r.get (zJ b);refine#[vs.getD i .WB,_,rfl,?_,gQ r l λj c=>h j .Fj];have d:xs.getD i .WB=xs[i]:=by simp[b]
  have g:vs.getD i .WB=v:=by rw[q8,e];rfl
  show VG a .Hb (vs.getD i .WB);rw[d,g];exact f
theorem gR(r:Vals vs us):∀l:List Nat,(∀i∈l,i<vs.length)->Vals (l.map λi=>vs.getD i .WB) (l.map λi=>us.getD i .none)
 |[],_=>.nil
 |i::l,h=>by
  have a:=h i zW;let#[u,f,d]:=r.get (zJ a);rw[zk,zk];have c:vs.getD i .WB=vs[i]:=by simp[a]
  have e:us.getD i .none=u:=by rw[q8,f];rfl
  rw[c,e];exact .cons d (gR r l λj b=>h j .DV)
theorem gS:∀{t:wZ (Array Nat)},ZL n P t->P .IS
 |.ret _,h=>h
 |.ask i j k,h=>gS (t:=k .D3) (h.2.2 .D3)
theorem gT:∀f{p:Array Nat}k,YM n p->ZL n (YM n) (PySem.W.kas_bin f p k)
 |0,p,k,h=>h
 |f+1,p,k,h=>.bind (λa _=>gT f _ (h.perm (bubble_perm ..))) .H3
def gU(c:0<n):ZL n (YM n) (qc n):=
 ZL.bind (λa b=>by
  split
  .exact gT _ _ b
  exact b) (gJ #[c,.refl _] _)
def D9:VE X (.builtin "sorted") (C? X.K E Ov):=by
 intro vT s σ H vs us Q I rs h;let#[a,G,ds,hk,rfl,sm,r,q]:=h;unfold Ov at q;split at q
 .rename_i d;let#[v,rfl,rv]:=XH r;split at q
  .rename_i xs hs;split at q
   .rename_i hc;let#[p,ws,rfl,h1,r1]:=Rz sm rv hs;rw[hk]at h1;let#[u,rfl,ru]:=vals1 rs;cases ru;let#[VB,hv,pl,hz]:=I.list h1;have hlx:=r1.length.trans hv.length;refine D2 pl.isList .a λh1 hD k1=>?_
    let#[m,hn,_]:=id I.loc;have hns1:=hn.keeps k1;have hDL:=j3 (qN I.lt);have nsAll:∀{h2:Heap},h2.Ns X.env.locals m->∀m',s.heap.Ns X.env.locals m'->h2.Ns X.env.locals m':=λ{h2}hh m' hm'=>by have e1:=hn.eq_nsMap;have e2:=hm'.eq_nsMap;rw[e2,<-e1];exact hh
    by_cases hlen:xs.length<2
    .refine D3 hD .a λh2 c hD2 k2=>#[rfl,?_]
     have es:Mr xs=xs:=by unfold Mr;rw[if_pos hlen]
     rw[es]at q;exact gP I sm q r1 hv .a hD2 (λb o hb e=>k2 b o (qQ .Kg) (k1 b o e)) (nsAll (hns1.at λo e=>k2 _ o (.symm hDL) e))
    .have es:Mr xs=(Bx .I6 .H4).toList.map λi=>xs.getD i .WB:=by unfold Mr;rw[if_neg hlen]
     rw[es]at q;refine PySem.W.kat_list_sort (Att.yy hns1) (news:=Att.ledger h1 X.env.locals (s.heap.objs.size+1)) ?_ hD hDL (Att.aU _ _) (λ#[_,_] hp=>(Att.Ug.mp hp).2.1) .a .a λe1 h2 F2 N2=>?_
     .rintro⟨b,o⟩ hp;let#[n1,n2,e]:=Att.Ug.mp hp;exact#[e,n1,Att.aU _ _]
     have I2:=gM (t':=s.toks) I (λb o hb e=>(N2 (b,o) (zZ _ (Att.Ug.mpr #[hb,qQ .Kg,k1 b o e]))).1) (nsAll F2.ns);have hpos:0<VB.length:=.a
     have fin:(qc VB.length).kasWp (uY X.prog X.w X.A.in1.in1 (tuples' u9) VB) (λp s''=>PySem.W.KasFin (Att.Ye h1) X.env.locals m (s.heap.objs.size+1) e1 (p.toList.map λi=>VB.getD i Value.none) (λs3=>.done .Dm=PySem.Fin.done .Dm/\EP X vT σ Q (.ref (s.heap.objs.size+1)) s3) s'') {s with heap:=h2}:=by
      refine gL (lt:=ltI xs) (λi j hi hj C hC=>?_) (gU hpos) ?_
      .have hxi:i<xs.length:=.a
       have hxj:j<xs.length:=.a
       let#[v1,ev1,rv1]:=r1.get (zJ hxi);let#[v2,ev2,rv2]:=r1.get (zJ hxj);let#[u1,eu1,ru1]:=hv.get ev1;let#[u2,eu2,ru2]:=hv.get ev2;let#[k,hlt]:=D7 hc.2 (qX hxi) (qX hxj);let#[as,bs,ea,eb,hlL]:=D8 hlt;let#[p1,o1,vs1,us1,n1,rfl,ho1,_,hd1,hv1,hr1]:=Y6 I2 hk rv1 ru1 ea;let#[p2,o2,vs2,us2,n2,rfl,ho2,_,hd2,hv2,hr2]:=Y6 I2 hk rv2 ru2 eb
       have hC':C k {s with heap:=h2}:=by
        have:ltI xs i j=k:=by
         unfold ltI;have e1:xs.getD i .WB=xs[i]:=by simp[hxi]
         have e2:xs.getD j .WB=xs[j]:=by simp[hxj]
         rw[e1,e2,hlt];rfl
        rw[<-this];exact hC
       unfold uY;have g1:VB.getD i Value.none=.ref p1:=by rw[q8,eu1];rfl
       have g2:VB.getD j Value.none=.ref p2:=by rw[q8,eu2];rfl
       rw[g1,g2];exact PySem.W.kat_lt ho1 hd1 ho2 hd2 (Zr hr1 hr2 hv1 hv2 hlL .d hC')
      .rw[hlx]at q;refine .intro F2 N2 (.head λ#[_,_] hp=>(Att.Ug.mp hp).2.1) λh3 c F3 N3=>#[rfl,?_]
       have hin:∀i∈(Bx .I6 (qc VB.length)).toList,i<VB.length:=λi hi=>(gS (gU hpos)).lt (by simpa using hi)
       refine gP I sm q (gQ r1 _ λi hi=>hlx▸hin i hi) (gR hv _ λi hi=>hv.length▸hin i hi) ?_ (N3 _ zW).1 (λb o hb e=>((N3 (b,o) (zZ _ (Att.Ug.mpr #[hb,qQ .Kg,k1 b o e]))).1)) (nsAll F3.ns)
       .rw[hlx]at es;have:=hc.1.2;rw[es]at this;simpa using this
     unfold Q3 at hc;rw[zN,xw]at hc;rcases hc.2.1 with hall|hall
     .let#[fs,t1,t2,t3]:=gN I2 hk r1 hv hall;refine uq (T:=.type "int") t1 .a (λv hm=>?_) .c fin
      .let#[i,t,rfl]:=t3 v hm;exact .now
     .let#[fs,t1,t2,t3]:=gO I2 hk r1 hv hall;refine uq (T:=.type "str") t1 .a (λv hm=>?_) .c fin
      .let#[i,t,rfl]:=t3 v hm;exact .now
   exact q.elim
  exact q.elim
 exact q.elim
end
section
variable{S:ZK}{G:DH}
@[simp]theorem To:Ms to ti te f S G=(to S G).toS λo a=>(ti S a).toS λi c=>(ixL o i c).toS λx b=>(te S b).toS λy g=>(f x y g).toS λz e=>(Ni o i z e).toS λ_ d=>.nx S d:=id rfl
def X6(h:G[p]?=u7 .AI)(e:ZJ xs k=u7 d):ixL .AL .B6 G=.ok d G:=by unfold ixL;simp only;rw[h];simp only;rw[e]
def Cw(xs:List D):List D:=xs.zipIdx.map λq=>.tup [.int q.2,q.1]
def Es(xs ys:List D):List D:=(xs.zip ys).map λq=>.tup [q.1,q.2]
theorem gW{f:Nat->DH->Option .CE}{g:DG}{b:DS}{xs:List D}(h:∀j G,f j G=u7 xs[j]?):∀n j,j+n=xs.length->∀S G,Dr f g b n j S G=Ar g b .E7 S G
 |0,j,e,S,G=>by
  unfold Dr;rw[h,zy .a,qY .a]
  rfl
 |n+1,j,e,S,G=>by
  have a:j<xs.length:=.a
  unfold Dr;rw[h,zJ a,zH a,Cj];have:Dr f g b n (j+1)=Ar g b (xs.drop (j+1)):=by funext S G;exact gW h n (j+1) .a S G
  rw[this]
def Tw(h:∀j G,f j G=u7 xs[j]?)(a:n=xs.length):Dr f g b n 0 S G=Ar g b xs S G:=by rw[gW h n 0 .a];rfl
def Yz(j)(G):Ec 0 .D0 j G=u7 (Cw xs)[j]? :=by
 simp[Ec,Cw,zG]
 cases xs[j]?<;>simp
def Da(j)(G):Ec 0 .Aj j G=u7 (Cw xs)[j]? :=by
 simp[Ec,Cw,Bf,zG]
 cases xs[j]?<;>simp
def Jl:(Cw xs).length=xs.length:=by simp[Cw]
@[simp]theorem Ts:Hf [.fl xs] G=.ok (.fn xs.length (Ec 0 .D0)) G:=by simp[Hf,Nk,Bf,lenOf]
@[simp]theorem Tx:Hf [.tup xs] G=.ok (.fn xs.length (Ec 0 .Aj)) G:=by simp[Hf,Nk,Bf,lenOf]
@[simp]theorem Dx:Dr (Ec 0 .D0) g b xs.length 0 S G=Ar g b (Cw xs) S G:=Tw Yz Jl.symm
@[simp]theorem UA:Dr (Ec 0 .Aj) g b xs.length 0 S G=Ar g b (Cw xs) S G:=Tw Da Jl.symm
theorem gX{f:Nat->DH->Option .CE}{g:DG}{c:DB}{l:DE}{F:D->Option D}{xs:List D}(i:∀j,f j G=u7 xs[j]?)(h:∀x∈xs,i? g c l S G x (F x)):
  ∀n j,xs.length<=j+n->By f g c l S n j G=.ok ((xs.drop j).filterMap F) G
 |0,j,m=>by
  unfold By;rw[i,zy .a];rw[qY .a]
  rfl
 | n+1,j,m=>by
  unfold By;rw[i];by_cases a:j<xs.length
  .have k:=gX i h n (j+1) .a;let#[q,o,b]:=h xs[j] (qX a);simp[zJ a,o];rw[zH a,qD];rcases b with⟨b,e⟩|⟨b,d,e,p⟩
   .simp[b,e,k]
   simp[b,e,p,k]
  rw[zy .a,qY .a]
  rfl
def Za{f:Nat->DH->Option .CE}{g:DG}{c:DB}{a:DE}{F:D->Option D}{xs:List D}{n:Nat}(b:∀j,f j G=u7 xs[j]?)(h:∀x∈xs,i? g c a S G x (F x))(d:xs.length<=n):
  By f g c a S n 0 G=.ok .En G:=gX b h n 0 .a
theorem Uo(b:Bf d G=u7 xs)(a:Bf e G=u7 ys)(j):Ex [d,e] j G=u7 (Es xs ys)[j]? :=by
 simp only[Ex,Es,Ii,b,a,zG]
 have c:(xs.zip ys)[j]?=match xs[j]?,ys[j]? with
  |some x,u7 y=>u7 (x,y)
  |_,_=>u8:=by
  rw[List.zip,List.getElem?_zipWith]
  cases xs[j]?<;>cases ys[j]?<;>rfl
 rw[c];rcases xs[j]? with _|x
 .rfl
 cases ys[j]? with
 |_=>rfl
def Rf(b:Bf d G=u7 xs)(a:Bf e G=u7 ys):Fy 2 [d,e] G=.ok (.fn xs.length (Ex [d,e])) G:=by simp[Fy,Nk,b,a,lenOf]
@[simp]theorem Py:Bf .D0 G=u7 xs:=id rfl
@[simp]theorem K7:Bf .Aj G=u7 xs:=id rfl
def EC(h:G[i]?=u7 .AI):Bf .Ar G=u7 xs:=by simp[Bf,h]
def gY(h:Bf d G=u7 ((n::ns).map D.int)):Kp [d] G=.ok (.int .HA) G:=by simp only[Kp,h,BQ]
def gZ{p:Nat}{k:Nat}{d:D}(h:G[p]?=u7 (.lst [d]))(hk:k<=1000000):Jk .AL (.int (k:Int)) G=.ok .AH (G++[.lst (zK k d)]):=by
 unfold Jk;simp only;rw[h];simp only;have e:(zK k [d]).flatten=zK k d:=by
  induction k with
  |zero=>rfl
  |succ k a=>rw[qz,j6,a .a,qz];rfl
 rw[if_pos #[.a,.a,by simpa using hk],Int.toNat_natCast,e]
end
def Bts(i:Int):Prop:=i.natAbs.log2<33554432
def MulB(i j:Int):Prop:=CMul i j\/(Bts i/\Bts j)
noncomputable instance (i:Int):Decidable (Bts i):=by unfold Bts;infer_instance
noncomputable instance (i j:Int):Decidable (MulB i j):=by unfold MulB;infer_instance
def MulB.ok(h:MulB i j):IntMulOk i j:=by
 rcases h with h|⟨c,a⟩
 .exact h.ok
 have b:∀k,Bts k->Builtin.Int.intBits k<=33554432:=λk hk=>by
  unfold Builtin.Int.intBits;split
  .exact xV _
  exact hk
 have e:=b i c;have d:=b j a;have h:Builtin.Int.intTooBig (Builtin.Int.intBits i+Builtin.Int.intBits j)=uA:=by unfold Builtin.Int.intTooBig bitsLine;exact decide_eq_false .a
 unfold IntMulOk;simp[h]
section
variable{X:Cx}{E:XK}
def ED:ZF X .C9 (rI MulB λi j=>.int (i*j)):=opI λ_ _ _ _ _ _ _ a q=>mul_int q a.ok
end
def Gu(f:Str)(v:D):List (Str×D)->List (Str×D)
 |[]=>[(f,v)]
 |(g,x)::r=>if g=f then(g,v)::r else(g,x)::Gu f v r
def ZI.mono(x:Ext a b)(h:ZI a fs us):ZI b fs us:=#[h.1,h.2.mono x]
def ZI.cons(h:VG a d v)(r:ZI a fs us):ZI a ((g,d)::fs) ((g,v)::us):=
 #[by simp[r.1],v,us.map (·.2),rfl,h,r.2]
def ZI.G?(h:ZI a ((g,d)::fs) us):∃v E?,us=(g,v)::E?/\VG a d v/\ZI a fs E?:=by
 let#[b,k]:=h;rcases us with _|⟨q,us⟩
 .simp at b
 let#[n,y]:=q;simp at b;let#[rfl,b]:=b;let#[v,r,i,j,l]:=k;simp at i;let#[rfl,rfl]:=i;exact#[y,us,rfl,j,b,l]
def ZI.nil'(h:ZI a [] us):us=[]:=by
 let#[b,_]:=h;rcases us with _|⟨q,us⟩
 .rfl
 simp at b
def lkc{a:Type}{f g:Str}{x:a}{fs:List (Str×a)}:j2 f ((g,x)::fs)=if(f==g)=u9 then u7 x else fs.lookup f:=by
 show(match f==g with
  |true=>u7 x
  |false=>j2 f fs)=_
 cases f==g<;>rfl
theorem ZI.look{a:Wd}{f:Str}{d:D}:∀{fs:List (Str×D)}{us:List (Str×V)},ZI a fs us->fs.lookup f=u7 d->∃u,us.lookup f=u7 u/\VG a d u
 |[],us,h,e=>by simp at e
 |(g,x)::fs,us,h,e=>by
  let#[v,j,rfl,i,b]:=h.G?;rw[lkc]at e⊢;by_cases q:(f==g)=u9
  .rw[if_pos q]at e⊢;cases e;exact#[v,rfl,i]
  rw[if_neg q]at e⊢;exact ZI.look b e
theorem ZI.bG{a:Wd}{f:Str}:∀{fs:List (Str×D)}{us:List (Str×V)},ZI a fs us->fs.lookup f=u8->us.lookup f=u8
 |[],us,h,e=>by rw[h.nil'];rfl
 |(g,x)::fs,us,h,e=>by
  let#[v,d,rfl,i,b]:=h.G?;rw[lkc]at e⊢;by_cases q:(f==g)=u9
  .rw[if_pos q]at e;cases e
  rw[if_neg q]at e⊢;exact ZI.bG b e
theorem ZI.put(q:VG a d v):∀{fs:List (Str×D)}{us:List (Str×V)},ZI a fs us->ZI a (Gu f d fs) (Ep f v us)
 |[],us,h=>by rw[h.nil'];exact .cons q #[rfl,rfl]
 |(g,x)::fs,us,h=>by
  let#[w,j,rfl,i,b]:=h.G?;unfold Gu Ep;by_cases e:g=f
  .rw[if_pos e,if_pos e];exact .cons q b
  rw[if_neg e,if_neg e];exact .cons i (.put q b)
def ZI.len(h:ZI a fs us):us.length=fs.length:=by have:=congrArg qG h.1;simpa using this.symm
def Ext.wrI(h:a.H p=u7 .FL):Ext a (a.put p ho):=
 #[rfl,zX _,λ_ _=>rfl,λq d e=>by
  show upd a.H p ho q=_;rw[Aw (λz=>by subst z;rw[h]at e;cases e)];exact e,λq o u e=>by
  show upd a.H p ho q=_;rw[Aw (λz=>by subst z;rw[h]at e;cases e)];exact e,λ_ t=>t.mono (λq b e=>by show upd a.H p ho q=_;rw[Aw (λz=>by subst z;rw[h]at e;cases e)];exact e) (λq o u e=>by show upd a.H p ho q=_;rw[Aw (λz=>by subst z;rw[h]at e;cases e)];exact e)]
def XF.wrI(s:XF a G)(d:i<a.n)(g:zb a.K vY c=u7 .JT)(h:a.H .Ay=u7 .FL)(r:ZI (a.put .Ay (.ins C dx E?)) fs' E?):
  XF (a.put .Ay (.ins C dx E?)) (G.set i (.ins c fs')):=by
 refine#[by rw[qV];exact s.len,s.inj,λj o e=>?_,λj k=>?_]
 .rw[j8]at e;show ZO _ o (upd a.H .Ay (.ins C dx E?) .Hv);by_cases b:i=j
  .subst b;rw[if_pos rfl,if_pos (s.len▸d)]at e;cases e;rw[Gg];exact#[C,dx,E?,g,rfl,r]
  rw[if_neg b]at e;rw[Aw λz=>b (s.inj _ _ .Ff d z).symm];exact(s.obj j o e).mono (.wrI h)
 show upd a.H .Ay (.ins C dx E?) .Hv≠u8;by_cases b:a.m j=a.m i
 .simp[b,Gg]
 rw[Aw b];exact s.tr j k
def Hc(c:Str)(d:D)(G:DH):Option (List (Str×D)):=match d with
 |.ref i=>match G[i]? with
  |some (.ins c' fs)=>if c'=c then u7 fs else u8
  |_=>u8
 |_=>u8
def XF.ins(s:XF a G)(r:VG a d x)(h:Hc c d G=u7 fs):
  ∃i C b us,d=.ref i/\i<a.n/\x=.ref .Ay/\G[i]?=u7 .EB/\zb a.K vY c=u7 .JT/\a.H .Ay=u7 (.ins C b us)/\ZI a fs us:=by
 unfold Hc at h;split at h
 .rename_i i;split at h
  .rename_i u q e;split at h
   .rename_i p;subst p;cases h;let#[l,k]:=r;let#[C,b,us,n,g,j]:=s.obj i _ e;exact#[i,C,b,us,rfl,l,k,e,n,g,j]
   cases h
  cases h
 cases h
def Bt(c:Str)(t:DE)(f:Str):DE:=λS G=>(t S G).bind λd G1=>match Hc c d G1 with
 |some fs=>match fs.lookup f with
  |some v=>.ok v G1
  |none=>.bad
 |none=>.bad
def Du(c:Str)(to tv:DE)(f:Str):DS:=λS G=>(tv S G).toS λd G1=>(to S G1).toS λo G2=>match o with
 |.ref i=>match Hc c o G2 with
  |some fs=>if fs.length<1000 then .nx S (G2.set i (.ins c (Gu f d fs)))else .bad
  |none=>.bad
 |_=>.bad
def Cy(c:Str)(m:Str)(F:List D->DH->R D)(to:DE)(t:DA):DE:=λS G=>(to S G).bind λo G1=>match Hc c o G1 with
 |some fs=>match fs.lookup m with
  |none=>(t S G1).bind λds G2=>F (o::ds) G2
  |some _=>.bad
 |none=>.bad
def O2(c:Str)(F:List D->DH->R D)(t:DA):DE:=λS G=>(t S G).bind λds G1=>(F (.ref G1.length::ds) (G1++[.ins c []])).bind λv G2=>match v with
 |.WB=>.ok .Ep G2
 |_=>.bad
section
variable{X:Cx}{E:XK}{c f m:Str}{C:xB}{e o:xD}{es:List xD}{t ta tv:DE}{tr:DA}{pos apos pos':Pos}
def EE(w:zb X.K vY c=u7 .JT)(F:q? X.K C)(y:XJ X.K C f)(P:QE X E e t)(A:xP e f X.env .C8=eval e X.env:=by rfl):QE X E .Dh (Bt c t f):=
 (vp P A).mono λY H Q h=>by
  let#[a,S,G,hk,rfl,s,r,h]:=h;refine#[a,S,G,hk,rfl,s,r,(Er h).imp ?_];rintro v _ ⟨b,d,T,rfl,x,n,q,-,g⟩;split at g
  .rename_i fs N;let#[i,p,B,M,rfl,_,rfl,_,l,z,O]:=n.ins q N;have j:p=C:=by
    rw[x.k,hk,w]at l;cases l
    rfl
   subst j;split at g
   .rename_i U J;let#[u,L,I]:=O.look J;exact#[b.m i,p,B,M,u,rfl,z,F,y,L,g b u .BG n I]
   exact g.elim
  exact g.elim
def EF(J:zb X.K vY c=u7 .JT)(T:q? X.K C)(N:XJ X.K C f)(ha:QE X E o ta)(L:QE X E e tv)(Q:swapsWith e (u7 .FJ) pos.line X.env=pure uA:=by rfl):
  QS X E (.Assign [.Attribute o f pos'] e pos) (Du c ta tv f):=
 (vr ha L Q).mono λW σ H h=>by
  let#[a,S,G,hk,rfl,s,r,h]:=h;refine#[a,S,G,hk,rfl,s,r,(Gm h).imp ?_];rintro v _ ⟨b,d,I,rfl,x,U,q,-,P⟩;refine#[b,S,I,x.k.trans hk,rfl,U,r.mono x,(Gm P).imp ?_];rintro v2 _ ⟨l,d2,G2,rfl,y,z,M,-,g⟩;split at g
  .rename_i i;split at g
   .rename_i fs hi;split at g
    .rename_i Z;let#[i',w,A,B,O,Y,rfl,eg,u,p,F]:=z.ins M hi;cases O;have n:w=C:=by
      rw[y.k,x.k,hk,J]at u;cases u
      rfl
     subst n;have j:Ext l (l.put (l.m i) (.ins w A (Ep f v B))):=.wrI p;exact#[l.m i,w,A,B,rfl,p,T,N,F.len▸Z,g _ σ j (z.wrI Y u p (.put ((q.mono y).mono j) (F.mono j))) (((r.mono x).mono y).mono j)]
    exact g.elim
   exact g.elim
  exact g.elim
def EG{sp F:List D->DH->R D}{p:St}{H:Hp}{Q:VK}(y:zb X.K vY c=u7 .JT)(h:lE X.K E0 (Cy c m F ta tr) p H Q):aR C m .Dk [] E0 (lE X.K E0 ta) (lA X.K E0 tr) p H Q:=by
 let#[a,S,G,hk,rfl,s,r,h]:=h;refine#[a,S,G,hk,rfl,s,r,(Er h).imp ?_];rintro v _ ⟨b,d,w,rfl,x,n,q,-,g⟩;split at g
 .rename_i fs Y;let#[i,P,L,U,rfl,_,rfl,_,l,I,Z]:=n.ins q Y;have j:P=C:=by
   rw[x.k,hk,y]at l;cases l
   rfl
  subst j;split at g
  .rename_i O;refine#[b.m i,L,U,rfl,I,Z.bG O,b,S,w,x.k.trans hk,rfl,n,r.mono x,(M9 g).imp ?_];rintro N _ ⟨T,M,A,rfl,u,J,B,-,z⟩;exact#[T,A,.ref i::M,(u.k.trans x.k).trans hk,rfl,J,#[.ref .Ec,N,by rw[qH],q.mono u,B],z]
  exact g.elim
 exact g.elim
def gb{CX:z?}{k:Nat}{g:xB}{b:xE}{ps:List Str}{F:List D->DH->R D}{pl:Sem Bool}(d:zb X.K vY c=u7 .JT)(r:q? X.K C)(p:Z? X.K C m g)(i:WM X.prog X.w X.K X.mg X.base CX k g b ps .Dk)(q:VH k X.A)(l:Binds X.K b ps [])
  (j:Passes CX X E0) (ho:QE X E0 o ta) (n:QA X E0 (e::es) tr) (s:notStar e=u9:=by rfl) (a:es.all notStar=u9:=by rfl)
  (u:eval (.Call .A1 (e::es) [] pos) X.env=(do
   let ov<-eval o X.env
   standAt apos.atName
   let(f,first)<-holding [ov] .Cu
   callWith pos f first (xR pos (vv (e::es) X.env)) (xS pos (vW [] X.env))):=by rfl):QE X E0 (.Call .A1 (e::es) [] pos) (Cy c m F ta tr):=
 (xo ho r p i q l .nil j n (Nq e es X.env s) (Oo pos X.env es a) u).mono λv H Q h=>EG (sp:=F) d h
def gc(z:zb X.K vY c=u7 .JT)(L:q? X.K C)(n:Z? X.K C m g)(O:WM X.prog X.w X.K X.mg X.base CX k g fd ps .Dk)(M:VH k X.A)(I:Binds X.K fd ps [])
  (Z:Passes CX X E0) (ho:QE X E0 o ta)
  (Y:eval (.Call .A1 [] [] pos) X.env=(do
   let ov<-eval o X.env
   standAt apos.atName
   let(f,first)<-holding [ov] .Cu
   callWith pos f first (xR pos (vv [] X.env)) (xS pos (vW [] X.env))):=by rfl):QE X E0 (.Call .A1 [] [] pos) (Cy c m F ta Bp):=
 (xp ho L n O M I .nil Z Y).mono λσ H Q h=>by
  let#[a,S,G,hk,rfl,s,r,h]:=h;refine#[a,S,G,hk,rfl,s,r,(Er h).imp ?_];rintro v _ ⟨b,d,y,rfl,x,u,q,-,j⟩;split at j
  .rename_i fs T;let#[i,N,J,P,rfl,_,rfl,_,p,B,U]:=u.ins q T;have l:N=C:=by
    rw[x.k,hk,z]at p;cases p
    rfl
   subst l;split at j
   .rename_i n;exact#[b.m i,J,P,rfl,B,U.bG n,b,y,[.ref i],x.k.trans hk,rfl,u,#[.ref .Ec,[],rfl,q,rfl],j]
   exact j.elim
  exact j.elim
def gf(hk:a.K=X.K)(A:zb X.K vY c=u7 .JT)(s:XF a G)(q:YA a ds vs)
  (h:out E0 a ((F (.ref G.length::ds) (G++[.ins c []])).bind λv J=>match v with
   |.WB=>.ok .AH J
   |_=>.bad) Q):∀x g,a.H x=u8->a.H g=u8->g≠x->lF X.K F (.ref x::(vs++[])) (upd (upd a.H g .Ef) x (.ins C g [])) (λv N=>v=.WB/\Q .Dv N) E:=λp g hp k r=>by
 have u:Ext a (a.put g .C1):=.put k;have j:(a.put g .C1).H p=u8:=by show upd a.H g .C1 p=u8;rw[Aw λz=>r z.symm];exact hp
 have y:Ext (a.put g .C1) ((a.put g .C1).push p (.ins C g [])):=.push j;have B:XF ((a.put g .C1).push p (.ins C g [])) (G++[.ins c []]):=(s.put k).push j #[C,g,[],by show zb a.K vY c=_;rw[hk];exact A,rfl,rfl,rfl];have i:((a.put g .C1).push p (.ins C g [])).m a.n=p:=by show(if a.n=a.n then p else a.m a.n)=p;rw[if_pos rfl]
 have w:VG ((a.put g .C1).push p (.ins C g [])) .AH (.ref p):=by rw[s.len];exact#[qA _,by rw[i]]
 refine#[(a.put g .C1).push p (.ins C g []),_,.ref G.length::ds,hk,rfl,B,#[.ref p,vs,by rw[qH],w,(q.mono u).mono y],(Er (out.mono (u.trans y) h)).imp ?_];rintro v _ ⟨b,d,O,rfl,I,M,L,-,l⟩;split at l
 .have:=L;exact#[this,l b _ .BG M (w.mono I)]
 exact l.elim
def EH{CX:z?}{k:Nat}{g:xB}{j:xE}{ps:List Str}{F:List D->DH->R D}{p:Pos}(n:zb X.K vY c=u7 .JT)(M:Mk X.K C g)(v:WM X.prog X.w X.K X.mg X.base CX k g j ps .Dk)(J:VH (k+1) X.A)(u:Gl X c)(I:X.mg c=u7 .AR)(z:Binds X.K j ps [])
  (y:Passes CX X E0) (B:QA X E0 (e::es) tr) (i:(c==("__debug__":Str))=uA:=by decide) (N:notStar e=u9:=by rfl) (d:es.all notStar=u9:=by rfl):QE X E0 (.Call (.Name c p) (e::es) [] pos) (O2 c F tr):=
 (xr M v J u I z .nil y B i (Nq e es X.env N) (Oo pos X.env es d)).mono λP H Q h=>by let#[a,S,G,hk,rfl,s,r,h]:=h;refine#[a,S,G,hk,rfl,s,r,(M9 h).imp ?_];rintro T _ ⟨b,U,O,rfl,x,L,q,-,l⟩;exact gf .A3 n L q l
end
def O1(d:D)(ds:List D)(G:DH):R D:=match ds with
 | [.int k]=>match Ha d G with
  |some xs=>match Lg xs with
   |some ns=>if k∈ns/\ns.length<=1000000 then .ok (.int (ns.idxOf k)) G else .bad
   |none=>.bad
  |none=>.bad
 |_=>.bad
theorem gh:∀{ns:List Int}{vs:List V},YA a .A2 vs->vs=ns.map V.int
 |[],vs,h=>h
 |n::ns,vs,h=>by
  let#[v,r,e,c,b]:=h;cases(c);rw[e,gh b]
  rfl
theorem Rh:∀{ns:List Int}{us:List xM},Vals .Bk us->us.length=ns.length/\∀j u,us[j]?=u7 u->∃t,∃h:j<ns.length,u=.int ns[j] t
 |[],us,h=>by cases h;exact#[rfl,λj u e=>by simp at e]
 | n::ns,us,h=>by
  cases h with
  |cons r d=>
   let#[b,f]:=Rh d;let#[t,rfl]:=r;refine#[by simp[b],λj u e=>?_];rcases j with _|j
   .exact#[t,.d,by simpa using e.symm]
   let#[g,c,a]:=f j u (by simpa using e);exact#[g,by simpa using c,by simpa using a]
section
variable{X:Cx}{E:XK}
def EI:VZ X "list.index" (lRm X.K E O1):=by
 intro vT s σ H x xs v us Q I rx B h;let#[a,G,d,ds,hk,rfl,sm,rd,L,q]:=h;unfold O1 at q;split at q
 .rename_i k;split at q
  .rename_i ys J;split at q
   .rename_i f T;split at q
    .rename_i S;let#[j,hlen]:=S;let#[p,vs,rfl,U,Z]:=Rz sm rd J;rw[Vn T]at Z;rw[gh Z,hk]at U;cases rx;let#[v1,rfl,M]:=XH L;cases(M);let#[u,rfl,ru]:=B.one;let#[t,rfl]:=ru;let#[b,l,#[o,n,O,W,hdi,hd],hz]:=I.list U;let#[w,c]:=Rh l;have z:=qy j;have P:f.idxOf k<b.toArray.size:=by simpa[w]using z
     have A:o={cls:=.type "list",dict:=o.dict,data:=.seq b.toArray n,slots:=o.slots}:=by
      let#[c1,c2,c3,c4]:=o;subst W;subst hd
      rfl
     rw[A]at O
     refine call_meets PySem.F.slot_list_index #[_,O,rfl] PySem.F.entry_list_index (PySem.F.args_list_index_2 _ _) (SeqAt.list_indexAt p b.toArray n o.dict o.slots .Ha (λy=>match y with | .int i _=>i==k|_=>uA) (f.idxOf k) P .a ?_ ?_) #[O,λy J=>?_,#[.int (f.idxOf k),a.H,I.tok _,#[_,rfl],q a _ .AG sm rfl]]
     .have C:b[f.idxOf k]?=u7 b.toArray[f.idxOf k]:=.d
      let#[Y,h3,g]:=c _ _ C;simp[g]
     .intro m N r;have C:b[m]?=u7 b.toArray[m]:=by simp
      let#[Y,h3,g]:=c _ _ C;rw[g];have:=List.not_of_lt_findIdx r;simpa using this
     .let#[m,N,e]:=qO (by simpa using J);let#[Y,h3,g]:=c m y (by rw[zJ N,e]);rw[g];exact .int_int _ _ _ _
    exact q.elim
   exact q.elim
  exact q.elim
 exact q.elim
def tLR(ta:TA):TE:=λσ H Q=>ta σ H λvs H1=>∃j:Int,vs=[.int j]/\ -(2^62)<=j/\j<=1000000/\∀l,H1 l=u8->Q (.ref l) (upd H1 l (.lst ((zV j.toNat).map λ(i:Nat)=>V.int (i:Int))))
def EJ(h:ItemsOf (λi v=>∃t,v=.int ((0:Int)+i*1) t) acc n):Vals ((zV n).map λ(i:Nat)=>V.int (i:Int)) acc.toList:=by
 let#[b,g]:=h;refine ae (by simp[b]) λi v u a c=>?_
 have d:i<n:=by have:=(z9.mp a).1;simpa using this
 rw[zG,qq d]at a;have f:v=V.int (i:Int):=by simpa using a.symm
 let#[t,e]:=g i u (by rw[<-qT];exact c);subst f;refine#[t,?_];rw[e]
 congr 1
 lia
def EK{e:xD}{ta:TA}{p r pos a:Pos}(B:X.calm=u9)(z:Gl X "list")(J:X.mg "list"=u8)(l:Gl X "range")(m:X.mg "range"=u8)(N:PA X [e] ta)(A:vv [e] X.env=[(uA,eval e X.env)]:=by rfl)
  (d:vv [.Call (.Name "range" r) [e] [] a] X.env=[(uA,eval (.Call (.Name "range" r) [e] [] a) X.env)]:=by rfl):PE X (.Call (.Name "list" p) [.Call (.Name "range" r) [e] [] a] [] pos) (tLR ta):=by
 intro g s L H Q I h;refine Call_ (Jm I z J fS (qa ?_ d rfl));refine Calls.spliced_cons (Call_ (Jm I l m uz (qa (ZD (N a g s L H _ I h) λW k zz=>?_) A rfl)));let#[T,P,y,M,x]:=zz;let#[j,rfl,O,U,q]:=x;let#[u,rfl,C]:=M.one;let#[t,rfl]:=C;refine call_range_1 (Calls.spliced_nil ?_)
 have n:Builtin.Range.rangeSize 0 j 1=(j.toNat:Int):=by rw[rangeSize_one];split<;>lia
 refine call_list_range (I.ok.hd B) (.new ..) (small_one .c .c O .a) n .a λK S f F hk v c=>?_
 have w:=y.kept (t':=k.toks+1+1) (h':=k.heap.push {cls:=.type "range",data:=.fields [.int 0 k.toks,.int j t,.int 1 (k.toks+1)].toArray}) λb o e=>zQ _ e
 refine#[.ref _,_,w.laid (o:=.lst ((zV j.toNat).map λ(i:Nat)=>V.int (i:Int))) hk .AK #[?_,f.toList,F,EJ c,by simpa using v],rfl,q _ (w.VF.fresh .AK)];rw[zq,List.length_range,vj];lia
def Ya(t:DA):DE:=λS G=>(t S G).bind λds G1=>match ds with
 |[.int j]=>if inR j/\j<=1000000 then .ok .Ep (G1++[.lst .Dz])else .bad
 |_=>.bad
def EL{e:xD}{ta:DA}{p m pos c:Pos}(w:X.calm=u9)(t:Gl X "list")(z:X.mg "list"=u8)(f:Gl X "range")(g:X.mg "range"=u8)(C:QA X E [e] ta)(u:vv [e] X.env=[(uA,eval e X.env)]:=by rfl)
  (i:vv [.Call (.Name "range" m) [e] [] c] X.env=[(uA,eval (.Call (.Name "range" m) [e] [] c) X.env)]:=by rfl):QE X E (.Call (.Name "list" p) [.Call (.Name "range" m) [e] [] c] [] pos) (Ya ta):=
 (EK w t z f g C u i).mono λK H Q h=>by
  let#[a,S,G,hk,rfl,s,r,h]:=h;refine#[a,S,G,hk,rfl,s,r,(M9 h).imp ?_];rintro J _ ⟨b,I,F,rfl,x,y,q,-,d⟩;split at d
  .rename_i j;split at d
   .rename_i n;let#[v,rfl,A]:=XH q;cases(A);refine#[j,rfl,n.1.1,n.2,λl B=>Ji y ?_ d l B];unfold Bq;generalize zV j.toNat=L
    induction L with
    |nil=>exact rfl
    |cons k L o=>exact#[_,_,rfl,(by show V.int (k:Int)=V.int (0+(k:Int));rw[Int.zero_add]),o]
   exact d.elim
  exact d.elim
def Itd(lo:Int)(n:Nat):It:=#[λi _=>i<n,λi H x H'=>H'=H/\x=.int (lo-i),λi _=>n<=i]
def EM{P:xG}{w:xN}{K:za}{tg:xD}(it)(g)(n):Turn P w K tg (Itd g n) [it] it (λi h=>IsRangeIter h it (g+(i:Nat)*(-1)) ((n:Int)-(i:Nat)) (-1)) where
 mem:=.d
 obj:=λi h a b c=>by
  have e:b=it:=by simpa using c
  subst e;exact#[_,a,λv z=>by have C:=z;cases C]
 keep:=λi h B a k=>k it .d _ a
 item:=by
  intro X l hw u r i f s M H E I j a q;let#[y,m,J,x,p,A]:=j it .d;refine(Walks.range (I.ok.hd r) it g (-1) n).item i s _ _ q a λv B O F d N=>?_
  let#[t,rfl]:=F;refine#[_,rfl,Qm d rfl rfl .c #[.int (g-i),H,I.turned (λb o c e=>N b o (by simpa using c) e) y m x p A,#[t,?_],#[rfl,rfl],d,λb c=>(j b c).1]]
  congr 1
  lia
 done:=by intro X l hw u r i f s M H E I j a q;let#[y,m,J,x,p,A]:=j it .d;exact wpAny_pyNext_range_end (I.ok.hd r) a (by have:n<=i:=q;lia) λB L=>#[rfl,I.turned (λb o c e=>L b o c e) y m x p A]
 self:=λ_ _ _ _ _ a h=>wpAny_pyIter_rangeiter a h
def VP(a b):Builtin.Range.rangeSize a b (-1)=if b<a then a-b else 0:=by
 unfold Builtin.Range.rangeSize;rw[if_neg .c];have e:(- (-1:Int))=1:=.c
 rw[e,Int.ediv_one]
 split<;>lia
def H?(f: -(2^62)<=a)(d:a<2^62)(e: -(2^62)<=b)(c:b<2^62):Builtin.Range.small a b (-1)=u9:=by
 simp[Builtin.Range.small,VP,Builtin.Range.rangeFitsLong,if_false]
 split<;>lia
def iDn(ta:TA):TI:=λσ H R=>ta σ H λvs H1=>∃i j:Int,vs=[.int i,.int j,.int (-1)]/\(-(2^62)<=i/\i<2^62/\ -(2^62)<=j/\j<2^62)/\R (Itd i (i-j).toNat) H1
theorem EN{tg a b c:xD}{ta:TA}{p pos:Pos}(M:Gl X "range")(S:X.mg "range"=u8)(U:PA X [a,b,c] ta)(O:vv [a,b,c] X.env=(uA,eval a X.env)::vv [b,c] X.env:=by rfl)(x:(xR pos (vv [b,c] X.env)).any (·.1)=uA:=by rfl):
  PI X tg (.Call (.Name "range" p) [a,b,c] [] pos) (iDn ta):=by
 intro k s B H R I h;refine Call_ (Jm I M S uz (qa (ZD (U pos k s B H _ I h) λY m zz=>?_) O x));let#[W,A,K,T,w]:=zz;let#[i,j,e,#[w,C,Q,J],q]:=w;subst e;cases T with
 | cons r u=>
  cases u with
  | cons P u=>
   cases u with
   | cons y u=>
    cases u;let#[t,rfl]:=r;let#[v,rfl]:=P;let#[g,rfl]:=y;refine call_range_3 .c ?_ (.inl (PyProof.noPylong_small .a));refine wpAny_pyIter_range (.new ..) (H? w C Q J) ?_;have z:Inv X k B A {m with heap:=m.heap.push {cls:=.type "range",data:=.fields [.int i t,.int j v,.int (-1) g].toArray},toks:=m.toks}:=K.kept λb o e=>zQ _ e
    refine#[(m.heap.push {cls:=.type "range",data:=.fields [.int i t,.int j v,.int (-1) g].toArray}).objs.size,[(m.heap.push {cls:=.type "range",data:=.fields [.int i t,.int j v,.int (-1) g].toArray}).objs.size],_,_,A,rfl,
     z.kept λb o e=>zQ _ e,EM _ i (i-j).toNat,?_,λb N=>?_,q]
    .have L:i+((0:Nat):Int)*(-1)=i:=.d
     have F:(((i-j).toNat:Nat):Int)-((0:Nat):Int)=Builtin.Range.rangeSize i j (-1):=by rw[VP];split<;>lia
     rw[L,F];exact zD _ rfl
    have e:b=(m.heap.push {cls:=.type "range",data:=.fields [.int i t,.int j v,.int (-1) g].toArray}).objs.size:=by simpa using N
    subst e;exact z.K3 .AK (z.VF.fresh .AK)
def Lj(lo:Int)(n:Nat):List D:=(zV n).map λ(k:Nat)=>D.int (lo-(k:Int))
def WZ(ds:List D)(G:DH):R ItD:=match ds with
 |[.int i,.int j,.int k]=>if inR i/\inR j/\k= -1 then .ok (.pure (Lj i (i-j).toNat)) G else .bad
 |_=>.bad
def EO(e)(n):WS a (.pure (Lj e n)) (Itd e n):=by
 refine#[(zV n).map λ(k:Nat)=>V.int (e-(k:Int)),?_,λb x i=>#[λv c=>?_,λf=>?_]]
 .unfold Lj;generalize zV n=l
  induction l with
  |nil=>exact rfl
  |cons k l g=>exact#[_,_,rfl,rfl,g]
 .rw[zG]at c;by_cases d:i<n
  .rw[qq d]at c;exact#[d,λw h y=>#[y.2.trans (by simpa using c),y.1]]
  rw[zy (by simpa using d)]at c;cases c
 show n<=i;simpa using f
def EQ{tg e f c:xD}{ta:DA}{p pos:Pos}(z:Gl X "range")(F:X.mg "range"=u8)(I:QA X E [e,f,c] ta)(A:vv [e,f,c] X.env=(uA,eval e X.env)::vv [f,c] X.env:=by rfl)(l:(xR pos (vv [f,c] X.env)).any (·.1)=uA:=by rfl):
  QI X E tg (.Call (.Name "range" p) [e,f,c] [] pos) (Br WZ ta):=
 (EN z F I A l).mono λT H Q h=>by
  let#[a,S,G,hk,rfl,s,r,h]:=h;refine#[a,S,G,hk,rfl,s,r,(T6 h).imp ?_];rintro P _ ⟨b,N,J,rfl,x,B,q,-,d⟩;unfold WZ at d;split at d
  .rename_i i j k;split at d
   .rename_i g;let#[m,g,rfl]:=g;let#[v,r,y,n,O,K,u,t,M,L,o,C,w]:=q;cases(n);cases(t);cases(C);cases(w);subst o;subst u;exact#[i,j,y,#[m.1,m.2,g.1,g.2],d b _ .BG B (EO i (i-j).toNat)]
   exact d.elim
  exact d.elim
end
def ER(a b):checkTypeCall "enumerate" #[[a],[("start",b)]]=pure ():=by kernel_rfl
def ES(a b):vZ "enumerate.__new__" #[[.type "enumerate",a],[("start",b)]]=pure ():=by kernel_rfl
def ET(o a b):argsOk "object.__init__" #[[o,a],[("start",b)]]:=by kernel_rfl
section
variable{prog:xG}{w:xN}{A:xC}{E:xM->xI->Prop}{s:xI}
def EU(f:typeLookup .CD "__init__"=pure (u7 (.builtin "object.__init__")))(h:Bind.madeBy .CD=pure (u7 newId))(e:(u7 newId != u7 "object.__new__")=u9):
  Meets (Builtin.«object.__init__» #[[self,a],kw]) (λ_ R s=>s.TypeIs self T/\R (.ok .Dm) s):=by
 refine .of_wp λb w A R s d=>?_
 let#[g,c]:=d
 repeat (any_goals (first|assumption|wp_step))
 exact#[_,rfl,c]
theorem EV(d:TypeCalled T newId I?)
  (C:checkTypeCall T #[args,kw]=pure ()) (n:vZ newId #[.type T::args,kw]=pure ())
  (i:entryFor table newId=u7 Bn) (f:entryFor table I?=u7 Bi) (g:Meets (Bn #[.type T::args,kw]) S) (h:S A.in1 (wants Q₁ E) s)
  (l:∀obj a,Q₁ obj a->a.TypeIs obj T/\argsOk I? #[obj::args,kw]/\∃p,Meets (Bi #[obj::args,kw]) p/\p A.in1 (wants (λr j=>r=.none/\Q obj j) E) a):
  vA .AC A (call .CD args kw) Q E s:=by
 let#[c,K,u]:=d.mro;have t:=d.made;have v:=d.sub;refine wpAny_call (codeAny_of_tree ?_);refine vM #[Code.quiet_builtin _ .f,codeAny_builtin PySem.F.entry_type_call ?_];have I:=d.notType;have H:=d.canCreate
 repeat (any_goals (first|assumption|wp_step))
 refine vJ (codeAny_call_builtin d.plain i (wpAny_of_eq n (g prog w A.in1 _ s h))) λr a q=>?_
 rcases r with e|fl
 .exact q
 cases fl with
 | ret obj=>
  let#[x,VF,p,y,o]:=l _ _ q;have B:=d.init.lookup;have z:=d.init.bind obj
  repeat (any_goals (first|assumption|wp_step))
  refine vJ (codeAny_call_builtin d.init.plain f (d.init.check _ _ _ _ _ _ _ _ x VF (y prog w A.in1 _ a o))) λm j b=>?_
  cases m with
  |error e=>exact b
  | ok k=>
   cases k with
   |ret r=>
    let#[rfl,J]:=b
    repeat (any_goals (first|assumption|wp_step))
   |_=>exact b.elim
 |_=>exact q.elim
def EW{sr:Src}{xs:Array xM}{n:Int}{t:Tok}{Q:xM->xI->Prop}(hv:sr.val s.heap xs)
  (h:∀h' tk g,Gv n g->En h' (s.heap.objs.size+1) s.heap.objs.size .none n g .none->sr.it h' s.heap.objs.size 0->(∀b o,s.heap.get? b=u7 o->h'.get? b=u7 o)->Q (.ref (s.heap.objs.size+1)) {s with heap:=h',toks:=tk}):
  vA .AC A (call (.type "enumerate") [.ref sr.WK] [("start",.int n t)]) Q E s:=by
 have g:Meets (Builtin.«enumerate.__new__» #[[.type "enumerate",.ref sr.WK],[("start",.int n t)]]) (λ_ R s=>sr.val s.heap xs/\∀g tk,Gv n g->
   R (.ok (.ret (.ref (s.heap.push {cls:=.type sr.t?,data:=.fields [.ref sr.WK,.int 0 0].toArray}).objs.size)))
    {s with heap:=(s.heap.push {cls:=.type sr.t?,data:=.fields [.ref sr.WK,.int 0 0].toArray}).push {cls:=.type "enumerate",data:=.fields [.none,.bool uA,.ref s.heap.objs.size,vz n,g,.none].toArray},toks:=tk}):=
  .of_wp λprog w A R s h=>by
   let#[hp,g,d,tk,os]:=s;let#[hl,h]:=h;have hsub:=sub_enumerate;have hL:sr.val (Shared.heap #[hp,g,d,tk,os]) xs:=hl
   wp_walk
   refine wpAny_stack_any λst=>vM ?_
   cases hf:u6 n
   .split
    .rename_i c _ _ _ _ _
     cases(c==Value.type "enumerate")<;>(wp_walk using Src.iter hL;exact#[_,rfl,h _ _ (.inr #[t,rfl])])
    wp_walk using Src.iter hL
    exact#[_,rfl,h _ _ (.inr #[t,rfl])]
   split
   .rename_i c _ _ _ _ _
    cases(c==Value.type "enumerate")<;>(wp_walk using Src.iter hL;exact#[_,rfl,h _ _ (.inl rfl)])
   .wp_walk using Src.iter hL
    exact#[_,rfl,h _ _ (.inl rfl)]
 refine EV (Q₁:=λobj s₁=>s₁.TypeIs obj "enumerate"/\Q obj s₁) wf (ER _ _) (ES _ _) wg PySem.F.entry_object_init g #[hv,λg tk hg=>?_] λobj s₁ hq=>#[hq.1,ET obj _ _,_,EU PySem.F.called_enumerate.init.lookup PySem.F.called_enumerate.made .c,hq.1,rfl,hq.2]
 have hz:(s.heap.push {cls:=.type sr.t?,data:=.fields [.ref sr.WK,.int 0 0].toArray}).objs.size=s.heap.objs.size+1:=qI ..;rw[hz];have he:En ((s.heap.push {cls:=.type sr.t?,data:=.fields [.ref sr.WK,.int 0 0].toArray}).push {cls:=.type "enumerate",data:=.fields [.none,.bool uA,.ref s.heap.objs.size,vz n,g,.none].toArray}) (s.heap.objs.size+1) s.heap.objs.size .none n g .none:=by
  have:=zD (s.heap.push {cls:=.type sr.t?,data:=.fields [.ref sr.WK,.int 0 0].toArray}) (o:={cls:=.type "enumerate",data:=.fields [.none,.bool uA,.ref s.heap.objs.size,vz n,g,.none].toArray}) rfl;rw[hz]at this;exact this
 exact#[#[_,he,rfl],h _ tk g hg he #[_,zQ _ (zD _ rfl),rfl,rfl] λb o x=>zQ _ (zQ _ x)]
def EX{M:Model}{A:xC}{E:xM->xI->Prop}{s:xI}{env:Env}{pos:Pos}{T:String}{e:xD}{rest:List xD}{c:List Keyword}{Q:xM->xI->Prop}
  (i:(xS pos .ES).all (·.1.isSome)=u9)
  (h:vA M A (spliced (xR pos (vv (e::rest) env))) (λvs b=>vA M A (evalAll ((xS pos .ES).map (·.2)))
   (λks f=>vA M A (call .CD vs (((xS pos .ES).filterMap (·.1)).zip ks)) Q E f) E b) E s)
  (d:(xR pos (vv (e::rest) env)).any (·.1)=uA) (j:(xS pos .ES).any (·.1.isNone)=uA) (l:vv (e::rest) env=(uA,eval e env)::vv rest env):
  vA M A (callWith pos .CD [] (xR pos (vv (e::rest) env)) (xS pos .ES)) Q E s:=by
 refine vC (vG (vH (PyProof.Rows.evalArgs_kw2 (Q:=λa b=>vA M A (call .CD ([]++a.pos) a.kw) Q E b) i h l) (λa b g=>vC (wpAny_standAt ?_)) λ_ _ x=>x));simp only[d,j];exact vC (vM (vC (vH g (λr f k=>vC (vG (wpAny_point (vM k)))) λ_ _ x=>x)))
end
section
variable{X:Cx}{E:XK}
def EY(K:za)(ta tk:TA):TI:=λσ H R=>ta σ H λvs H1=>tk σ H1 λws H2=>∃sr xs n,vs=[.ref (Src.WK sr)]/\ws=[.int n]/\sr.sq K H2 xs/\R (Ite K sr n) H2
theorem EZ{elts:List xD}{x1}{tp:Pos}{a b:xD}{ta tk:TA}{p pos i:Pos}(k:Gl X "enumerate")(S:X.mg "enumerate"=u8)(Z:PA X [a] ta)(hk:PK X [#[u7 "start",b,i]] tk)(m:vv [a] X.env=[(uA,eval a X.env)]:=by rfl):
  PI X .Az (.Call (.Name "enumerate" p) [a] [#[u7 "start",b,i]] pos) (EY X.K ta tk):=by
 intro c s v H R I h;refine vB (Jm I k S wh (EX rfl (ZD (Z pos c s v H _ I h) λus O #[vs,x,J,Y,y]=>ZD (hk pos c O v x _ J y) λus2 d zz=>?_) (by rw[m];rfl) rfl m));let#[ws,T,j,B,C]:=zz;let#[P,xs,n,e,F,L,q]:=C;subst e;subst F;cases Y with
 |cons r M=>
  cases M;cases r;let#[u,rfl,Q]:=B.one;let#[t,rfl]:=Q;let#[U,rv,z,hz]:=Src.sq.val j L;refine EW z λh' tk g k o W i=>?_
  refine ay o ?_;refine#[d.heap.objs.size+1,[d.heap.objs.size+1,d.heap.objs.size],_,_,T,rfl,j.kept i,gB P n _ _ .Fm,#[g,.none,by simpa using o,by simpa using k,W],λb N=>?_,q];have l:b=d.heap.objs.size+1\/b=d.heap.objs.size:=by simpa using N
  have f:d.heap.objs.size<=b:=by rcases l with rfl|rfl<;>lia
  exact j.K3 f (j.VF.fresh f)
def T5(ta:DA)(tb:DE):DI:=λS G=>(ta S G).bind λds G1=>(tb S G1).bind λk G2=>match ds,k with
 |[d],.int n=>match Bf d G2 with
  |some xs=>.ok (.fn xs.length (Ec n d)) G2
  |none=>.bad
 |_,_=>.bad
def E1(a:QE X E b tb):PK X [#[nm,b,kp]] (aQ (lE X.K E tb) Sg):=yA a xu
theorem E2{E:XK}(h:outI E a .BI Q):
  out E a r (λv H=>∃b d G,b.H=H/\Ext a b/\XF b G/\VG b d v/\outI E b (f d G) Q):=by
 cases r with
 |ok d G=>exact λb v x s q=>#[b,d,G,rfl,x,s,q,outI.mono x h]
 |_=>exact h
def E3{x1}(z:Gl X "enumerate")(L:X.mg "enumerate"=u8)(N:QA X E [e] ta)(C:QE X E b tb)(B:vv [e] X.env=[(uA,eval e X.env)]:=by rfl):
  QI X E .Az (.Call (.Name "enumerate" p) [e] [#[u7 "start",b,kp]] pos) (T5 ta tb):=(EZ z L N (E1 C) B).mono λY H Q h=>by
 let#[a,S,G,hk,rfl,s,r,h]:=h;refine#[a,S,G,hk,rfl,s,r,(T6 h).imp ?_];rintro U _ ⟨b,T,j,rfl,x,F,q,-,o⟩;refine#[b,S,j,x.k.trans hk,rfl,F,r.mono x,(E2 o).imp ?_];rintro v _ ⟨c,k,P,rfl,y,g,m,f⟩;split at f
 .rename_i d n;split at f
  .rename_i W O;let#[w,r,u,l,I]:=q;cases(I);subst u;cases(m);let#[J,rfl,#[M,t],K]:=bB g (l.mono y) O;have i:=(y.k.trans x.k).trans hk;exact#[J,M,n,rfl,rfl,by rw[<-i];exact t,f c _ .EE g (gC (G:=[]) (v:=.WB) i K _)]
  exact f.elim
 exact f.elim
end
end _D
namespace _D
open PySem PySem.Spec _L
def Gq(c f:Str)(d:D)(G:DH):R D:=match Hc c d G with
 |some fs=>match fs.lookup f with
  |some v=>.ok v G
  |none=>.bad
 |none=>.bad
def Ij(c f:Str)(o d:D)(S:ZK)(G:DH):SR:=match o with
 |.ref i=>match Hc c o G with
  |some fs=>if fs.length<1000 then .nx S (G.set i (.ins c (Gu f d fs)))else .bad
  |none=>.bad
 |_=>.bad
def Su(c m:Str)(F:List D->DH->R D)(t:DA)(S:ZK)(o:D)(G:DH):R D:=match Hc c o G with
 |some fs=>match fs.lookup m with
  |none=>(t S G).bind λds G2=>F (o::ds) G2
  |some _=>.bad
 |none=>.bad
def Tu(F:List D->DH->R D)(c:Str)(ds:List D)(G1:DH):R D:=(F (.ref G1.length::ds) (G1++[.ins c []])).bind λv G2=>match v with
 |.WB=>.ok .Ep G2
 |_=>.bad
section
variable{S:ZK}{G:DH}{c f m:Str}{t to tv:DE}{ta:DA}{F:List D->DH->R D}{i:Nat}{fs:List (Str×D)}{v d:D}
@[simp]theorem ev_fld:Bt c t f S G=(t S G).bind λd a=>Gq c f d a:=id rfl
@[simp]theorem UB:Du c to tv f S G=(tv S G).toS λd b=>(to S b).toS λo a=>Ij c f o d S a:=id rfl
@[simp]theorem UC:Cy c m F to ta S G=(to S G).bind λo a=>Su c m F ta S o a:=id rfl
@[simp]theorem UD:O2 c F ta S G=(ta S G).bind λa b=>Tu F c a b:=id rfl
def bH(h:G[i]?=u7 .EB):Hc c .Ar G=u7 fs:=by unfold Hc;simp[h]
def Hi(h:G[i]?=u7 .EB)(a:fs.lookup f=u7 v):Gq c f .Ar G=.ok v G:=by simp[Gq,bH h,a]
def Lx(h:G[i]?=u7 .EB)(a:fs.length<1000):Ij c f .Ar d S G=.nx S (G.set i (.ins c (Gu f d fs))):=by unfold Ij;simp[bH h,a]
def bI(h:G[i]?=u7 .EB)(e:fs.lookup m=u8):Su c m F ta S .Ar G=(ta S G).bind λb a=>F (.ref i::b) a:=by unfold Su;simp[bH h,e]
@[simp]theorem ev_LR:Ya ta S G=(ta S G).bind λb a=>match b with
 |[.int j]=>if inR j/\j<=1000000 then .ok (.ref a.length) (a++[.lst .Dz])else .bad
 |_=>.bad:=id rfl
@[simp]theorem UE{i j:Int}(a:inR i)(b:inR j):WZ [.int i,.int j,.int (-1)] G=.ok (.pure (Lj i (i-j).toNat)) G:=by simp[WZ,a,b]
theorem E4:Lj lo 0=[]:=rfl
def E5:Lj lo (n+1)=.int lo::Lj (lo-1) n:=by
 unfold Lj;rw[jJ,zk,qJ]
 congr 1
 .simp
 refine qk λk _=>?_
 simp only[Function.comp]
 congr 1
 lia
def E6{d:D}{ns:List Int}{k:Int}(h:Ha d G=u7 .A2)(b:k∈ns)(a:ns.length<=1000000):O1 d [.int k] G=.ok (.int (ns.idxOf k)) G:=by unfold O1;simp[h,b,a,if_true]
def Td{d:D}{G a:DH}(e:a.length=G.length)(b:XG G.length d=u9):tidy G (.ok d a)=.ok d a:=by
 unfold tidy;simp only[if_true];split
 .rename_i h;rw[qM .a]at h;rw[h]
 rfl
def bJ{d:D}{G a:DH}(h:a.take G.length≠G):tidy G (.ok d a)=.ok d a:=by unfold tidy;simp[h]
end
section
open PyProof.Rows hiding St
def Ff(x:Str)(n:Int):Str:=if n<1 then Str.empty else if(n==1||x.length==0)=u9 then x else#[(zK n.toNat x.cps).foldl (·++·) [].toArray]
theorem Wj:∀n(b:Array Nat),((zK n a).foldl (·++·) b).toList=b.toList++(zK n a.toList).flatten
 |0,b=>by simp
 |n+1,b=>by simp[Wj n (b++a),qz]
def E7{a:Array Nat}(n):((zK n a).foldl (·++·) [].toArray).size=n*a.size:=by simp[<-jk,Wj]
def E8:(Ff x n).cps.toList=(zK n.toNat x.cps.toList).flatten:=by
 unfold Ff;split
 .rename_i h;have e:n.toNat=0:=by lia
  rw[e];rfl
 rename_i h;split
 .rename_i a;rw[xw,beq_iff_eq,beq_iff_eq]at a;rcases a with rfl|a
  .simp
  .have e:x.cps.toList=[]:=by have:x.cps.size=0:=a;exact jz this
   simp[e]
 .simp[Wj]
def Fw:D->D->DH->R D
 |.int i,.int j,G=>if MulB i j then .ok (.int (i*j)) G else .bad
 |.str x,.int n,G=>if -1000<=n/\n<=1000/\x.length<=1000 then .ok (.str (Ff x n)) G else .bad
 |_,_,_=>.bad
section
variable{X:Cx}{E:XK}
def E9:ZF X .C9 (λx y H Q=>∃i n,x=.str i/\y=.int n/\(-1000<=n/\n<=1000/\i.length<=1000)/\Q (.str (Ff i n)) H):=by
 intro d s r H x y v u Q I k o h;let#[i,n,rfl,rfl,#[w,g,e],q]:=h;let#[t,rfl]:=k;let#[C,rfl]:=o;have b:∀m,m<=1000->i.length*m<=1000000:=λm l=>zx (Nat.mul_le_mul e l) .c
 refine P.mul_str ?_ (λa c=>?_) (λa c=>?_) ?_
 .rw[decide_eq_false .a,decide_eq_false .a];rfl
 .intro p;have:(i.length:Int)*n<=2^63-1:=by have A:(i.length:Int)*n<=1000*1000:=Int.mul_le_mul .a g .a .a;lia
  have B:=(Int.le_ediv_iff_mul_le .a).mpr this;lia
 .have:=b n.toNat .a;unfold Builtin.Str.tooLong;rw[vj];exact decide_eq_false .a
 unfold Ff at q;split
 .rename_i a;rw[if_pos a]at q;exact#[.c,.str Str.empty,H,I.tok _,#[_,rfl],q]
 .rename_i a;rw[if_neg a]at q;split
  .rename_i c;rw[if_pos c]at q;exact#[.str i,H,I,#[t,rfl],q]
  .rename_i c;rw[if_neg c]at q;refine#[?_,.str _,H,I.tok _,#[_,rfl],q]
   show((zK n.toNat i.cps).foldl (·++·) [].toArray).size<=sizeLine
   have f:i.cps.size<=1000:=e;have z:=Nat.mul_le_mul (show n.toNat<=1000 by lia) f;rw[E7,vj];lia
def Ee:ZF X .C9 (XO X.K E Fw):=Gn (ED.or E9) λa G d e x y Q hk s rd re q=>by
 cases d<;>cases e<;>first
  |exact q.elim
  | (
    rename_i i j;unfold Fw at q;dsimp only at q;split at q
    .first
     |exact .inl #[_,_,rd,re,by assumption,q a _ .AG s rfl]
     |exact .inr #[_,_,rd,re,by assumption,q a _ .AG s rfl]
    exact q.elim)
end
section
variable{i j:Int}{G:DH}
def Ga(b: -(2^64)<i)(a:i<2^64):Fw .AM .Bl G=.ok (.int (i*j)) G:=if_pos (.inl (.inl #[b,a]))
def FA(b: -(2^64)<j)(a:j<2^64):Fw .AM .Bl G=.ok (.int (i*j)) G:=if_pos (.inl (.inr #[b,a]))
@[simp]theorem UF(h:n<18446744073709551616):Fw (.int (no_index .E0)) .Bl G=.ok (.int (OfNat.ofNat n*j)) G:=
 Ga (by have:(0:Int)<=(OfNat.ofNat n:Int):=Int.natCast_nonneg n;lia) (by have:(OfNat.ofNat n:Int)<18446744073709551616:=Int.ofNat_lt.mpr h;lia)
@[simp]theorem UG(h:n<18446744073709551616):Fw .AM (.int (no_index .E0)) G=.ok (.int (i*OfNat.ofNat n)) G:=
 FA (by have:(0:Int)<=(OfNat.ofNat n:Int):=Int.natCast_nonneg n;lia) (by have:(OfNat.ofNat n:Int)<18446744073709551616:=Int.ofNat_lt.mpr h;lia)
def FB(h: -1000<=n/\n<=1000/\x.length<=1000):Fw .Af .Bn G=.ok (.str (Ff x n)) G:=if_pos h
end
def comp0(N:List Str)(names:List (Str×xF))(nt:Nat):Bool:=
 names.all (λy=>(!Ju y.2||isK Ju .GK) && !Mf y.2 && !Ln y.2)&&decide N.Nodup&&decide (N.length=nt)
def FC{X:Cx}{N:List Str}{a:xH}{nt:Nat}(hk:a.kind=.function:=by rfl)(h:comp0 N a.names nt=u9:=by rfl'):YL X N a nt []:=by
 unfold comp0 at h;rw[zN,zN]at h;let#[#[e,g],i]:=h;rw[qE]at e;have b:=λy(c:y∈a.names)=>(by have:=e y c;rw[zN,zN]at this;exact this:((!Ju y.2||isK Ju .Cg)=u9/\(!Mf y.2)=u9)/\(!Ln y.2)=u9)
 refine#[hk,λy c d=>?_,λy c d=>?_,λy c d=>?_,of_decide_eq_true g,by rw[of_decide_eq_true i];rfl,λk j f=>?_]
 .have:=(b y c).1.1;rw[d]at this;exact S8 (λ_ h=>fT h) (by have t:(uA||isK Ju .Cg)=u9:=this;simpa using t)
 .have:=(b y c).1.2;rw[d]at this;exact absurd this .c
 .have:=(b y c).2;rw[d]at this;exact absurd this .c
 cases f
def J?(h:n<=1000000):n<=sizeLine:=zx h .c
def Kc(ds:List D)(G:DH):R D:=match ds with
 |[.str x]=>match uj x with
  |some n=>if x.length<=640 then .ok .Bn G else .bad
  |none=>.bad
 |_=>.bad
section
variable{X:Cx}{E:XK}
def FD:VE X (.type "int") (C? X.K E Kc):=λb s i H l j Q I f h=>by
 let#[a,G,k,hk,rfl,g,r,q]:=h;unfold Kc at q;split at q
 .rename_i x;let#[v,rfl,d]:=XH r;cases(d);let#[u,rfl,t,rfl]:=vals1 f;split at q
  .rename_i n e;split at q
   .rename_i c;exact PySem.W.KIN.call_text e c #[.int n,a.H,I.tok _,#[_,rfl],q a _ .AG g rfl]
   exact q.elim
  exact q.elim
 exact q.elim
def part3(x y:Str):List D:=[.str (Txt.partition x y).1,.str (Txt.partition x y).2.1,.str (Txt.partition x y).2.2]
def Ky(o:D)(ds:List D)(G:DH):R D:=match o,ds with
 |.str x,[.str y]=>if y.length≠0/\x.length<=1000000 then .ok (.tup (part3 x y)) G else .bad
 |_,_=>.bad
def Z8:VZ X "str.partition" (lRm X.K E Ky):=λj s N H x U v W Q I C O h=>by
 let#[a,G,d,T,hk,rfl,P,J,r,q]:=h;unfold Ky at q;split at q
 .rename_i c y;let#[w,rfl,m]:=XH r;cases(J);cases(m);let#[t,rfl]:=C;let#[u,rfl,M,rfl]:=vals1 O;split at q
  .rename_i B;have g:YA a (part3 c y) [.str (Txt.partition c y).1,.str (Txt.partition c y).2.1,.str (Txt.partition c y).2.2]:=.cons (rfl) (.cons (rfl) (.cons (rfl) YA.nil));have e:∀p l n k,EP X j N Q .AU {s with toks:=k,heap:=s.heap.push {cls:=.type "tuple",data:=.seq [.str (Txt.partition c y).1 p,.str (Txt.partition c y).2.1 l,.str (Txt.partition c y).2.2 n].toArray}}:=λp l n k=>
    #[.ref s.heap.objs.size,_,I.laid (o:=.tup [.str (Txt.partition c y).1,.str (Txt.partition c y).2.1,.str (Txt.partition c y).2.2]) (λb Y q=>zQ _ q) .AK #[by show 3<=sizeLine;decide,_,.cons #[p,rfl] (.cons #[l,rfl] (.cons #[n,rfl] .nil)),.new _ _],rfl,U8 P g q _ .JM]
   refine call_meets F.slot_str_partition .BT F.entry_str_partition (F.args_str_partition_2 _ _) (meets_str_partition c y t M (by simpa using B.1) (J? B.2)) ?_
   revert e
   unfold Txt.partition;cases zc c y 0 c.length 1 with
   |_=>intro e;exact e _ _ _ _
  exact q.elim
 exact q.elim
def Eh(o:D)(ds:List D)(G:DH):R D:=match o,ds with
 |.str x,[.str y]=>if y.length≠0/\x.length<=1000000 then .ok .AH (G++[.lst ((Txt.split x y).map D.str)])else .bad
 |_,_=>.bad
theorem Zk:∀l,Vals ((l.map (·.1)).map V.str) (strValues l)
 |[]=>.nil
 |a::l=>.cons #[a.2,rfl] (Zk l)
theorem V2:∀(l:List Str),YA a .Ao .DP
 |[]=>.nil
 |x::l=>.cons (rfl) (V2 l)
def m_split:VZ X "str.split" (lRm X.K E Eh):=λvT s σ H x xs v us Q I rx rs h=>by
 let#[a,G,d,ds,hk,rfl,sm,rd,r,q]:=h;unfold Eh at q;split at q
 .rename_i x' y;let#[w,rfl,rw']:=XH r;cases(rd);cases(rw');let#[t,rfl]:=rx;let#[u,rfl,u',rfl]:=vals1 rs;split at q
  .rename_i hl;have hy:(y.length==0)=uA:=by simpa using hl.1
   have UX:(Txt.split x' y).length<=sizeLine:=zx (zx (split_le x' y) (Nat.add_le_add_right hl.2 2)) .c
   have key:∀l k,l.map (·.1)=Txt.split x' y->EP X vT σ Q .AU {s with toks:=k,heap:=s.heap.push {cls:=.type "list",data:=.seq (strValues l).toArray}}:=λl k e=>
    #[.ref s.heap.objs.size,_,I.laid (o:=.lst ((Txt.split x' y).map V.str)) (λb ob q=>zQ _ q) .AK #[by rw[zq];exact UX,_,0,by rw[<-e];exact Zk l,zD _ rfl],rfl,Ji sm (V2 _) q _ .JM]
   cases h1:(decide (x'.length<y.length)||decide (zg x'<zg y))
   .cases hf:(zc x' y 0 x'.length (x'.length+1)).isEmpty
    .have e:Txt.split x' y=ji x' (zc x' y 0 x'.length (x'.length+1)) y.length:=(if_neg .B7).trans (if_neg .Er);refine call_meets F.slot_str_split .BT F.entry_str_split .C2 (meets_str_split_sep x' y t u' h1 hy hf (J? hl.2) (by rw[<-e];exact UX)) ?_;rw[strsFrom_eq];exact key .F1 _ ((numbered_texts _ _).trans e.symm)
    exact call_meets F.slot_str_split .BT F.entry_str_split .C2 (meets_str_split_not_found x' y t u' h1 hy hf) (key [(x',t)] s.toks ((if_neg .B7).trans (if_pos hf)).symm)
   exact call_meets F.slot_str_split .BT F.entry_str_split .C2 (meets_str_split_cannot_occur x' y t u' h1) (key [(x',t)] s.toks (if_pos h1).symm)
  exact q.elim
 exact q.elim
def TupG(K:za)(mg:Str->Option xM)(n:Str)(ss:List Str):Prop:=∃(p:xB)(o:Obj)(VB:Array xM)(k:Nat),mg n=u7 .AL/\K.lookup p=u7 o/\o.cls=.type "tuple"/\o.data=.seq VB k/\VB.size<=sizeLine/\Vals .D4 VB.toList
def FE{K:za}{h:Heap}{b:Str->Option xM}{n:Str}{p:xB}{od:Option xB}{c:Array .DI}{k:Nat}{VB:List xM}{ss:List Str}(e:K.In h)(G:h.Ns vY b)(a:zb K vY n=u7 .Jv)
  (l:K.lookup p=u7 #[.type "tuple",od,.seq VB.toArray k,c]) (d:VB.length<=1000) (v:Vals .D4 VB):TupG K b n ss:=
 #[p,_,VB.toArray,k,ux e G a,l,rfl,rfl,by rw[z0];exact zx d .c,by simpa using v]
def FG(e:Gl X x)(h:TupG X.K X.mg x ss)(l:(x==("__debug__":Str))=uA:=by decide):QE X E .As (dC (.tup (ss.map D.str))):=by let#[p,o,b,k,c,f,i,j,m,d]:=h;exact X4 (v:=.ref p) e c rfl (λa g=>#[p,ss.map V.str,rfl,.inr #[o,b,k,g▸f,i,j,m,d],V2 ss]) l
end
def K?(ks:List Int)(i j:Nat):Bool:=decide (ks.getD i 0<ks.getD j 0)
structure KS (X:Cx) (vT:List (xB×Obj)) (σ:St) (D kS:xB) (e1:Nat) (m:Str->Option xM) (a b:Wd) (G:DH) (ks:List xM) (kz:List Int) (e:Nat) (s:xI):Prop where
 inv:Inv X vT σ b.H s
 ext:Ext a b
 sim:XF b G
 ns:s.heap.Ns X.env.locals m
 k:s.heap.get? kS=u7 (seqObj "list" ks.toArray e)
 d:s.heap.get? D=u7 (seqObj "list" [].toArray e1)
 fk:ZQ X vT b.H kS
 fd:ZQ X vT b.H D
 ne:D≠kS
 dge:X.s₀.heap.objs.size<=D
 iz:IntsAre ks kz
section
variable{X:Cx}{vT:List (xB×Obj)}{σ:St}{N:List Str}{scope:xH}{caps:List Nat}{x:Str}{f:xB}{A:xC}{a:Wd}{S:ZK}{body:xD}{te:DE}{params:Arguments}{pm ctv:xM}{c':xB}{ob oc:Obj}{vs0:Array xM}{t0:Tok}{E:XK}
 {Dd kS:xB} {e1:Nat} {m:Str->Option xM} {h₀:Heap} {Q:VK}
end
end
section
open PyProof.Rows hiding St
section
variable{X:Cx}{vT:List (xB×Obj)}{σ:St}{N:List Str}{scope:xH}{caps:List Nat}{x:Str}{f:xB}{A:xC}{a:Wd}{S:ZK}{body:xD}{te:DE}{params:Arguments}{pm ctv:xM}{c':xB}{ob oc:Obj}{vs0:Array xM}{t0:Tok}
 {Dd kS:xB} {e1:Nat} {m:Str->Option xM} {h₀:Heap} {Q:VK}
end
end
end _D
namespace _D
open PySem PySem.W _L
theorem gj:∀{l:List Obj}{n:Nat},(Mu l n).lookup a=u7 o->n<=a/\l[a-n]?=u7 o/\∀x y z,o≠#[x,y,.freed,z]
 |[],n,h=>by cases h
 | p::r,n,h=>by
  have next:(Mu r (n+1)).lookup a=u7 o->n<=a/\(p::r)[a-n]?=u7 o/\∀x y z,o≠#[x,y,.freed,z]:=λh=>by let#[b,c,f]:=gj h;let#[k,rfl]:=Nat.exists_eq_add_of_le b;rw[Nat.add_sub_cancel_left]at c;refine#[zx (jG n) b,?_,f];rw[show n+1+k-n=k+1 by rw[Nat.add_assoc,Nat.add_sub_cancel_left,Nat.add_comm],List.getElem?_cons_succ];exact c
  unfold Mu at h;split at h
  .exact next h
  .exact next h
  rename_i g i;rw[j1]at h;split at h
  .rename_i e;have d:a=n:=by simpa using e
   subst d;cases h;refine#[zX _,.d,λx y z q=>?_];subst q;exact g rfl
  exact next h
def FH(h):(Rp h).In h:=λa o e=>by
 let#[_,c,d]:=gj e;have b:h.objs[a]?=u7 o:=by simpa using c
 unfold Heap.get?;rw[b];split
 .rename_i q;cases q;exact absurd rfl (d _ _ _)
 rfl
def Le(p:xG)(N:Nat)(w:xN):Heap:=match openEnds vk p w N with
 |some s=>s.heap
 |none=>default
def k?(p:xG)(N:Nat)(w:xN)(h:Heap):Prop:=∀b o,(Le p N w).get? b=u7 o->h.get? b=u7 o
def k?.in(x:k? p N w h):(Rp (Le p N w)).In h:=λa o e=>x a o (FH _ a o e)
def Yb(p:xG)(N:Nat):Hook:=
 #[Heap,λs=>s.heap,Le p N,k? p N,λw s e b o q=>by rw[show s.heap=Le p N w from e];exact q,λw h h' x k b o q=>k b o (x b o q)]
section
variable{p q:xG}{loose:List Str}{Xt:xI->Bool}{N:Nat}{β:Type}{see:Heap->β}{val:β}
def FI(E:∀w,(openEnds vk p w N).map (λs=>(openSeen q loose .Ci Xt u9 s,see s.heap))=u7 (openGood q loose,val)):
  LeftO p q loose Xt (Yb p N).obs (Yb p N).val N:=λw=>by
 let#[s,b,a]:=qK.mp (E w);show Option.map _ _=u7 (openGood q loose,Le p N w);unfold Le;rw[b];show u7 (openSeen q loose .Ci Xt u9 s,s.heap)=_;rw[(Prod.mk.inj a).1]
def FJ(E:∀w,(openEnds vk p w N).map (λs=>(openSeen q loose .Ci Xt u9 s,see s.heap))=u7 (openGood q loose,val))(w):see (Le p N w)=val:=by let#[s,b,a]:=qK.mp (E w);unfold Le;rw[b];exact(Prod.mk.inj a).2
end
def holds_top{l:OpenLaw}{q:xG}{loose:List Str}{N:Nat}{b:Type}{see:Heap->b}{val:b}{d:DefRec}(well:l.wellSaid=u9)
  (E:∀w,(openEnds vk l.prog w N).map (λs=>(openSeen q loose (vV l.prog.main.body) (v? l q) u9 s,see s.heap))=u7 (openGood q loose,val))
  (hdef:defOf q l.row.name=u7 (d,[])) (hp:l.row.prog.theDef l.row.name=u7 (d.params,d.body,d.scope)) (hk:kwWritten? d.params.kwonlyargs d.params.kw_defaults=u7 []) (a:(!l.row.writes||l.row.records.isEmpty)=u9)
  (ok:(chainsOk q&&opensWell l.row.prog&&(frees l.row.toRowW&&l.row.within.isEmpty))=u9) (c:l.row.prog.bare) (hw:l.row.toRowW.promised)
  (call:WalkO q loose (XL q []) (k? l.prog N) l.row.toRowW d [] λf vs=>qi f vs):l.Holds:=
 holds_law well λsaid=>holds_open (FI E) (Yb l.prog N).of (Yb l.prog N).keeps
  (λs e=>xl_of s (jq.mp e).1) XL.keeps hdef hp hk (λs e=>recFacts_of (jq.mp e).2) a said ok c hw call
def bK(h:gOk K n=u9):nsIn K vY n=u7 (u7 .J6):=by
 unfold gOk at h;unfold Ay;split at h
 .rename_i e;rw[e]
 cases h
def gm(h:mOk K C m=u9):findIn K .AR m=u7 (u7 (.ref (Gz K C m)))/\isFn K (.ref (Gz K C m))=u9:=by
 unfold mOk at h;unfold Gz;split at h
 .rename_i e;rw[e];exact#[rfl,h]
 cases h
def FK(h:noF K C m=u9):findIn K .AR m=u7 u8:=by
 unfold noF at h;split at h
 .assumption
 cases h
def FO(h:zOk K n=u9):nsIn K vY n=u7 u8:=by
 unfold zOk at h;split at h
 .assumption
 cases h
def FP(h:aA K C=u9):findIn K .AR "__setattr__"=u7 (u7 (.builtin "object.__setattr__")):=by
 unfold aA at h;split at h
 .rename_i e;rw[e,beq_iff_eq.mp h]
 cases h
def M6(K:vP)(n:Str):Tok:=match nsIn K vY n with
 |some (u7 (.int _ t))=>t
 |some (u7 (.str _ t))=>t
 |_=>0
def FQ(h:iOk K n v=u9):nsIn K vY n=u7 (u7 (.int v .HC)):=by
 unfold iOk at h;unfold M6;split at h
 .rename_i e;rw[e,of_decide_eq_true h]
 cases h
def FR(h:sOk K n v=u9):nsIn K vY n=u7 (u7 (.str v .HC)):=by
 unfold sOk at h;unfold M6;split at h
 .rename_i e;rw[e,of_decide_eq_true h]
 cases h
abbrev XX(K:vP)(x q:Str)(st:xL)(f:xB):Prop:=
 K.lookup f=u7 #[(Iw K f).cls,(Iw K f).dict,.func (fnOf x q .CV .Bs .BN .none (Bv K f).kwdefaults (Bv K f).doc (Bv K f).pyModule (Bv K f).annotations (Bv K f).code (Bv K f).closureTuple),(Iw K f).slots]/\
  codeIn K (Bv K f).code q=u9/\keepIn K .Ae=u9
def gp(h:Xq K x q f=u9)(t:Ny K f=Nj st):XX K x q st f:=by
 unfold Xq at h;split at h
 .rename_i j l a i e;have k:Iw K f=#[j,l,.func a,i]:=by unfold Iw;rw[e]
  have m:Bv K f=a:=by unfold Bv;rw[k]
  unfold Ny Nj at t;rw[m]at t;let#[E,b]:=Prod.mk.inj t;let#[b,C]:=Prod.mk.inj b;simp at h;let#[#[#[s,n],#[#[B,y],o],g],u,v]:=h;unfold XX;rw[m,k,e];refine#[?_,u,v];have d:a.defaults=.none:=by
   revert g
   generalize a.defaults=A;intro g
   cases A<;>first|rfl|cases g
  have w:a.body=.stmts (Fj st):=by
   revert b
   generalize a.body=r;intro b
   cases r<;>first|(cases b;rfl)|(cases b)
  have c:a=fnOf x q .CV .Bs .BN .none a.kwdefaults a.doc a.pyModule a.annotations a.code a.closureTuple:=by show FuncData.mk a.name a.qualname a.params a.body a.scope a.globals a.closure a.defaults a.kwdefaults a.doc a.pyModule a.annotations a.code a.closureTuple a.builtins=_;rw[s,n,E,w,C,B,o,d,y]
  exact congrArg (λz=>u7 (Obj.mk j l (.func z) i)) c
 cases h
abbrev DfSaid(K:vP)(d:xM)(v:Int):Prop:=∃T o t n,d=.ref T/\K.lookup T=u7 o/\o.data=.seq [.int v t].toArray n
def FS(h:X' K d v=u9):DfSaid K d v:=by
 unfold X' at h;split at h
 .rename_i T;split at h
  .rename_i o e;split at h
   .rename_i a n b;split at h
    .rename_i i t c;cases of_decide_eq_true h;refine#[T,o,t,n,rfl,e,?_];rw[b]
     congr 1
     rw[<-Array.toList_inj,c]
    cases h
   cases h
  cases h
 cases h
abbrev O'(K:vP)(x q:Str)(st:xL)(f:xB)(v:Int):Prop:=
 K.lookup f=u7 #[(Iw K f).cls,(Iw K f).dict,.func (fnOf x q .CV .Bs .BN (Bv K f).defaults (Bv K f).kwdefaults (Bv K f).doc (Bv K f).pyModule (Bv K f).annotations (Bv K f).code (Bv K f).closureTuple),(Iw K f).slots]/\
  codeIn K (Bv K f).code q=u9/\keepIn K .Ae=u9/\DfSaid K (Bv K f).defaults v
def FU(h:aB K x q f v=u9)(t:Ny K f=Nj st):O' K x q st f v:=by
 unfold aB at h;split at h
 .rename_i g j a d e;have i:Iw K f=#[g,j,.func a,d]:=by unfold Iw;rw[e]
  have k:Bv K f=a:=by unfold Bv;rw[i]
  unfold Ny Nj at t;rw[k]at t;let#[C,b]:=Prod.mk.inj t;let#[b,B]:=Prod.mk.inj b;simp at h;let#[#[#[o,l],#[#[A,w],m],y],r,s]:=h;unfold O';rw[k,i,e];refine#[?_,r,s,FS y];have u:a.body=.stmts (Fj st):=by
   revert b
   generalize a.body=n;intro b
   cases n<;>first|(cases b;rfl)|(cases b)
  have c:a=fnOf x q .CV .Bs .BN a.defaults a.kwdefaults a.doc a.pyModule a.annotations a.code a.closureTuple:=by show FuncData.mk a.name a.qualname a.params a.body a.scope a.globals a.closure a.defaults a.kwdefaults a.doc a.pyModule a.annotations a.code a.closureTuple a.builtins=_;rw[o,l,C,u,B,A,m,w]
  exact congrArg (λz=>u7 (Obj.mk g j (.func z) d)) c
 cases h
theorem Qp:∀{l:List xM}{ss:List Str},strsOf l=u7 ss->Vals .D4 l
 |[],ss,h=>by cases h;exact .nil
 |v::r,ss,h=>by
  unfold strsOf at h;split at h
  .rename_i q;cases q
  .rename_i s t c q;cases q;let#[a,b,rfl]:=qK.mp h;exact .cons #[_,rfl] (Qp b)
  cases h
abbrev L?(K:vP)(n:Str)(vs:List Str):Prop:=∃(p:xB)(od:Option xB)(sl:Array .DI)(k:Nat)(VB:List xM),nsIn K vY n=u7 .Jv/\K.lookup p=u7 #[.type "tuple",od,.seq VB.toArray k,sl]/\VB.length<=1000/\Vals (vs.map V.str) VB
def FV(h:aC K n vs=u9):L? K n vs:=by
 unfold aC at h;split at h
 .rename_i p e;split at h
  .rename_i t c a k b g;simp only[zN,beq_iff_eq,decide_eq_true_eq]at h;let#[#[rfl,d],f]:=h;exact#[p,c,b,k,a.toList,e,by rw[g],jN f,Qp d]
  cases h
 cases h
def FW(X:K.In h)(G:h.Ns vY mg)(s:L? K n vs):TupG K mg n vs:=by let#[p,g,f,k,b,a,c,d,e]:=s;exact FE X G a c d e
abbrev GdSaid(K:vP)(n:Str)(WE:List (Str×Str)):Prop:=∃(p:xB)(od:Option xB)(sl:Array .DI)(k:Nat)(es:Array DictEntry),nsIn K vY n=u7 .Jv/\K.lookup p=u7 #[.type "dict",od,.dict es k,sl]/\(p==sysModules)=uA/\Vals ((WE.map (·.1)).map V.str) (es.toList.map (·.key))/\Vals ((WE.map (·.2)).map V.str) (es.toList.map (·.val))
def FX(h:aD K n WE=u9):GdSaid K n WE:=by
 unfold aD at h;split at h
 .rename_i p e;split at h
  .rename_i t b f k a i;simp only[zN,beq_iff_eq,decide_eq_true_eq,Bool.not_eq_true']at h;let#[#[#[rfl,c],d],g]:=h;exact#[p,b,a,k,f,e,by rw[i],c,Qp d,Qp g]
  cases h
 cases h
def Ask.WV(K:vP):Ask->Prop
 |.fn n st=>nsIn K vY n=u7 (u7 .J6)/\XX K n n st .BE
 |.mt c m q st=>findIn K .Je m=u7 (u7 (.ref .JO))/\isFn K (.ref .JO)=u9/\XX K m q st .JO
 | .cl c=>nsIn K vY c=u7 (u7 .Je)/\plainGet K .AV Str.empty=u9/\hasDictIn K .AV=u9/\plainOver K .AV=u9/\
   findIn K .Je "__setattr__"=u7 (u7 (.builtin "object.__setattr__"))/\makesIn K .AV=u9/\keepIn K .Je=u9
 |.no c x=>findIn K .Je x=u7 u8
 |.z n=>nsIn K vY n=u7 u8
 |.gi n v=>nsIn K vY n=u7 (u7 (.int v .HC))
 |.gs n v=>nsIn K vY n=u7 (u7 (.str v .HC))
 |.gt n vs=>L? K n vs
 |.gd n WE=>GdSaid K n WE
 |.ck φ=>φ K=u9
 |.fd n st v=>nsIn K vY n=u7 (u7 .J6)/\O' K n n st .BE v
theorem Ask.said:∀{a:Ask},a.chk K=u9->a.VV K=a.want->a.WV K
 |.fn n e,h,t=>by let#[b,d]:=jq.mp h;exact#[bK b,gp d (w4 t)]
 |.mt c m q e,h,t=>by let#[b,d]:=jq.mp h;exact#[(gm b).1,(gm b).2,gp d (w4 t)]
 |.cl c,h,_=>by simp[Ask.chk]at h;let#[#[b,#[d,j],k],#[l,g],i]:=h;exact#[bK b,d,j,k,FP l,g,i]
 |.no c x,h,_=>FK h
 |.z n,h,_=>FO h
 |.gi n v,h,_=>FQ h
 |.gs n v,h,_=>FR h
 |.gt n o,h,_=>FV h
 |.gd n f,h,_=>FX h
 |.ck _,h,_=>h
 |.fd n e v,h,t=>by let#[b,d]:=jq.mp h;exact#[bK b,FU d (w4 t)]
def XS(K:vP):List Ask->Prop
 |[]=>True
 |a::r=>a.WV K/\XS K r
theorem gq:∀{l:List Ask},(l.all (Ask.chk K),l.map (Ask.VV K))=(u9,l.map Ask.want)->XS K l
 |[],_=>trivial
 |a::r,h=>by let#[b,c]:=Prod.mk.inj h;let#[e,f]:=jq.mp b;let#[g,d]:=List.cons.inj c;exact#[Ask.said e g,gq (by rw[f,d])]
def FY(F:Fun K x q st f fd)
  (h:∀kV b g e c d u,bindArgs (fnOf x q .CV .Bs .BN .none kV b g e c d) #[[u],[]]=pure [(a,u)]):BindsTo s fd #[[v],[]] [(a,v)]:=by
 let#[l,k,kV,b,g,e,c,d,j,rfl,m,i]:=F.ex;exact .of_eq (h kV b g e c d v)
theorem gr:∀{n:Nat}{s s':SharedT}{t:Thread},W9 p w n₀ ann n s t=u7 s'->topRun vk p w n₀ ann n s.abs t=u7 s'.abs
 |0,_,_,_,h=>by cases h
 | n+1,s,s',t,h=>by
  unfold W9 at h;unfold topRun;rw[<-PySem.W.Fast.te6613529449190102663,<-PySem.W.Fast.te10156331382660048174,<-PySem.W.Fast.te11892475500146522536,<-PySem.W.Fast.te14364793385576792824]at h;cases b:through t with
  |true=>
   rw[b]at h;cases h
   rfl
  |false=>
   rw[b]at h;rcases a:stepOk n₀ ann t with _|_
   .rw[a]at h;cases h
   rw[a]at h;dsimp only at h⊢;split at h
   .rename_i c d e;rw[stepT_spec e];exact gr h
   cases h
def boot_abs:∀w a,(df w a).abs=#[vR w.params,Array.mk [],boot_drawn,boot_toks,a]:=λw a=>by kernel_rfl
def FZ:∀w:xN,((vR w.params).isNs vY&&(Array.mk []:Array GenState).size==0)=u9:=λw=>by kernel_rfl
def F0{p q:xG}{loose:List Str}{Xt:xI->Bool}{i:Type}{see:Heap->i}{val:i}(e:opening p=plainProg p.main.scope.names)(f:∀s,fenceModules? p s=u7 s)
  (R:∀w a,(Kh p w a).map (λs=>(O4 p w s.abs,cu q loose .Gy Xt u9 s.abs,see s.abs.heap))=u7 (u9,openGood q loose,val)):
  ∀w,(openEnds vk p w 100000).map (λs=>(openSeen q loose .Ci Xt u9 s,see s.heap))=u7 (openGood q loose,val):=λw=>by
 let#[#[h,o,d,k,a],n,j]:=qK.mp (boot_open (N:=100000) e rfl f w);obtain⟨rfl,rfl,rfl,rfl⟩:h=vR w.params/\o=Array.mk []/\d=boot_drawn/\k=boot_toks:=by simpa using j
 let#[s,g,l]:=qK.mp (R w a);let#[c,b]:=Prod.mk.inj l;let#[b,m]:=Prod.mk.inj b;have r:=gr g;rw[boot_abs,<-PySem.W.Fast.te8920871248978507458]at r;rw[<-PySem.W.Fast.te4187177175401517315,<-PySem.W.Fast.te5923862056798008813]at b;unfold O4 at c;rw[<-PySem.W.Fast.te5923862056798008813]at c;have t:topFrom vk p w 100000 #[vR w.params,.mk [],boot_drawn,boot_toks,a]=u7 s.abs:=by
  unfold topFrom;rw[FZ,r]
  show(match staticsOk .Ci .DO s.abs.heap&&namesBound p s.abs.heap&&gensDone s.abs&&laidKept .DO s.abs.heap with |true=>_|false=>_)=_
  rw[c]
 unfold openEnds;rw[n];show(topFrom vk p w 100000 _).map _=_;rw[t];exact congrArg u7 (Prod.ext b m)
structure FT (K:vP) (mg:Str->Option xM) (n:Str) (st:xL) (ps:List Str):Prop where
 F:Fun K n n st .BE .KJ
 b:Binds K .KJ ps []
 m:mg n=u7 .J6
 k:keepIn K .J6=u9
structure MT (K:vP) (c m q:Str) (st:xL) (ps:List Str):Prop where
 F:Fun K m q st .JO .LX
 b:Binds K .LX ps []
 me:Z? K .AV m .JO
structure CT (K:vP) (mg:Str->Option xM) (c:Str):Prop where
 N:nsIn K vY c=u7 (u7 .Je)
 cl:q? K .AV
 g:mg c=u7 .Je
 mK:Mk K .AV (Gz K .AV "__init__")
def V4(s:XX K x q st f):Fun K x q st f (Bv K f):=by
 have e:Bv K f=fnOf x q .CV .Bs .BN .none (Bv K f).kwdefaults (Bv K f).doc (Bv K f).pyModule (Bv K f).annotations (Bv K f).code (Bv K f).closureTuple:=by unfold Bv Iw;rw[s.1]
 exact#[#[_,_,_,_,_,_,_,_,_,e,by rw[e];exact s.1,s.2.1],s.2.2]
def F1(X:K.In h)(G:h.Ns vY mg)(s:Ask.WV K (.fn n st))
  (d:∀kV a f e b c us,us.length=ps.length->bindArgs (fnOf n n .CV .Bs .BN .none kV a f e b c) #[us,[]]=pure .CL):FT K mg n st ps:=
 #[V4 s.2,(V4 s.2).binds d,mg_of X G s.1,s.2.2.2]
def F4(s:Ask.WV K (.mt c m q st))
  (e:∀kV a g f b d us,us.length=ps.length->bindArgs (fnOf m q .CV .Bs .BN .none kV a g f b d) #[us,[]]=pure .CL):MT K c m q st ps:=
 #[V4 s.2.2,(V4 s.2.2).binds e,s.1,s.2.1,s.2.2.2.2]
def F5(X:K.In h)(G:h.Ns vY mg)(s:Ask.WV K (.cl c))(i:Ask.WV K (.mt c "__init__" q st)):CT K mg c:=
 #[s.1,#[s.2.1,s.2.2.1,s.2.2.2.1,s.2.2.2.2.1],mg_of X G s.1,s.2.2.2.2.2.1,i.1,i.2.1,s.2.2.2.2.2.2]
abbrev FnO(P:xG)(w:xN)(K:vP)(mg:Str->Option xM)(base:Heap)(k:Nat)(n:Str)(ps:List Str)(F:List D->DH->R D):Prop:=WM P w K mg base CX0 k .BE .KJ ps .I7
abbrev MtO(P:xG)(w:xN)(K:vP)(mg:Str->Option xM)(base:Heap)(k:Nat)(c m:Str)(ps:List Str)(F:List D->DH->R D):Prop:=WM P w K mg base CX0 k .JO .LX ps .I7
def F6(F:Fun K x q st f fd)
  (h:∀kV b g e c d u,bindArgs (fnOf x q .CV .Bs .BN .none kV b g e c d) #[[u],[]]=pure [(a,u)]:=by intros;rfl):BindsTo s fd #[[v],[]] [(a,v)]:=FY F h
end _D
namespace _D
open PySem PySem.Spec _L
open PyProof.Rows hiding St
section
variable{prog:xG}{w:xN}{A:xC}{E:xM->xI->Prop}{s:xI}
def strAt(es:Array DictEntry)(x:Str):Option xM:=(es.findIdx? λe=>e.key.isStr x).bind λi=>es[i]?.map (·.val)
def gu{v:xM}{x:Str}(h:v.isStr x=u9):∃t,v=.str x t:=by
 cases v<;>first
  |(rename_i y t;exact#[t,by rw[b h]])
  |(rename_i y t;simp[Value.isStr]at h;exact#[t,by rw[h]])
  |cases h
theorem gv{d:xB}{o:Obj}{es:Array DictEntry}{ep}{x:Str}{t:Tok}{Q:Option xM->xI->Prop}(ho:s.heap.get? d=u7 o)(g:o.data=.dict es ep)
  (c:(es.all λe=>isExactStrKey e.key)=u9) (h:Q (strAt es x) {s with toks:=s.toks+1}):
  vA .AC A (dictGet d .ET) Q E s:=by
 unfold strAt at h;refine vC (wpAny_pyHash_str (vC ?_));refine vC (wpAny_dictEntries ho g ?_);dsimp only;rw[if_pos c];unfold foundByValue;cases j:es.findIdx? (λe=>e.key.isStr x)with
 |none=>rw[j]at h;exact vM (vM h)
 |some i=>
  rw[j]at h;let#[f,l,_]:=Array.findIdx?_eq_some_iff_getElem.mp j;let#[u,k]:=gu l;simp only[Array.getElem?_eq_getElem f]at h⊢;rw[k];refine vC (wpAny_dictEpoch ho g (vC (wpAny_eqBool_str (vC (wpAny_dictEpoch ho g ?_)))));rw[if_neg .d,decide_eq_true rfl];exact vC (wpAny_rule (vM (vC (wpAny_dictEntries ho g (vM (by simpa using h))))))
def F7{ep}(ho:s.heap.get? d=u7 o)(j:o.cls=.type "dict")(i:o.data=.dict es ep)
  (c:(es.all λe=>isExactStrKey e.key)=u9) (g:strAt es x=u7 v) (h:Q v {s with toks:=s.toks+1}):vA .AC A (getItem (.ref d) .ET) Q E s:=by
 have f:s.TypeIs (.ref d) "dict":=#[o,ho,j];unfold getItem
 try with_reducible refine vG ?_
 refine vC (wpAny_sequenceKey f .c ?_);refine vC (vD f slot_dict_getitem
  (vE slot_dict_getitem f entry_dict_getitem ?_ (args_dict_getitem _ _)))
 show vA _ _ (dictGet d .ET >>=_) _ _ s;refine vC (gv ho i c ?_);rw[g];exact vM #[v,rfl,vM h]
theorem F8{ep}(g:(d==sysModules)=uA)(ho:s.heap.get? d=u7 o)(k:o.cls=.type "dict")(j:o.data=.dict es ep)
  (c:(es.all λe=>isExactStrKey e.key)=u9) (h:Q (.bool (!(strAt es x).isSome)) {s with toks:=s.toks+1}):vA .AC A (vX .NotIn .ET (.ref d)) Q E s:=by
 have f:s.TypeIs (.ref d) "dict":=#[o,ho,k];refine vC ?_;unfold contains
 try with_reducible refine vG ?_
 refine vC (wpAny_specialOf f slot_dict_contains.lookup ?_);refine vC (wpAny_callSpecialUnlessNone?_slot f slot_dict_contains
  (vE slot_dict_contains f entry_dict_contains ?_ (args_dict_contains _ _)))
 show vA _ _ (dictGet d .ET >>=_) _ _ s;refine vC (gv ho j c ?_);cases i:strAt es x with
 |some v=>
  rw[i]at h;exact vM #[_,rfl,vO (vM h)]
 |none=>
  rw[i]at h;exact vC (wpAny_pendingKey_other g (vM #[_,rfl,vO (vM h)]))
end
def strAt_eq:strAt es x=(es.toList.find? λe=>e.key.isStr x).map (·.val):=by
 let#[l]:=es;have e:=findBy_of_findIdx? (λx v=>v.isStr x) #[l] x;unfold findBy at e;rw[<-Array.find?_toList]at e;unfold strAt;rw[e]
 cases(Array.findIdx? (λe=>e.key.isStr x) #[l])<;>rfl
def Ej:D->Option V
 |.int i=>u7 .AM
 |.str x=>u7 .Af
 |_=>u8
def F9{X:Cx}{k j:Nat}{n:Str}{st:xL}{ps:List Str}{F:List D->DH->R D}{p pos:Pos}{e:xD}{es:List xD}{tr:DA}(c:FnO X.prog X.w X.K X.mg X.base k n ps F)(T:FT X.K X.mg n st ps)(i:VH j X.A)(g:QA X E0 (e::es) tr)
  (d:k<=j:=by decide) (f:Gl X n:=by exact rfl) (h:(n==("__debug__":Str))=uA:=by decide) (l:notStar e=u9:=by exact rfl) (hp:es.all notStar=u9:=by exact rfl):QE X E0 (.Call (.Name n p) (e::es) [] pos) (XA F tr):=
 AI c (i.mono d) f T.m T.k T.b VX g h l hp
abbrev vmro:List xM:=[.type "ValueError",.type "Exception",.type "BaseException",.type "object"]
def excC(K:za)(C:xB):Bool:=match K.lookup C with
 |some #[c,_,.cls d,s]=>c == .type "type"&&d.mro == .ref C::d.mro.tail&&s.toList == [s.toList.getD 0 u8,s.toList.getD 1 u8,s.toList.getD 2 u8,s.toList.getD 3 u8,u7 (.builtin "ValueError.__new__"),s.toList.getD 5 u8] && !d.hasDel&&d.hasDict&&PySem.W.tailIn K vmro d.mro.tail&&PySem.W.nsOkIn K d.ns
 |_=>uA
section
variable{X:Cx}{f W:xB}{fn x n:Str}{fp cp ep np hp pos:Pos}{a:xD}{es:List xD}{ta:TA}{sp:Sp}{k i:Nat}{fd:xE}{ps:List Str}{b₀:xL}{suite:List xL}{th:TS}
def takes(K:za)(C W:xB):Bool:=excC K C&&excC K W&&match K.lookup C with
 |some #[_,_,.cls cd,_]=>cd.mro.contains (.ref W)
 |_=>uA
end
structure RoomH (k:Nat) (A:xC):Prop where
 dp:A.depth+3*k+5<recursionLimit
 un:A.units+16*k+200<cLine
structure FnOkH (P:xG) (w:xN) (K:za) (mg:Str->Option xM) (base:Heap) (k:Nat) (f:xB) (fd:xE) (ps:List Str) (sp:Sp):Prop where
 len:∀vs H Q E,sp vs H Q E->vs.length=ps.length
 run:∀(A:xC)(outer:List Env)(s:xI)(H:Hp)(args:Args)(us:List xM)(vs:List V)(Q:VK)(E:XK),RoomH k A->A? P w K mg base A outer s H->BindsTo s fd args .CL->Vals vs us->sp vs H Q E->
  codeAny .Cy A .Kf (CR CX0 outer P w H s Q E) s
section
open PySem.W
abbrev FnH(P:xG)(w:xN)(K:vP)(mg:Str->Option xM)(base:Heap)(k:Nat)(n:Str)(ps:List Str)(F:List D->DH->R D):Prop:=FnOkH P w K mg base k .BE .KJ ps .I7
def TupI(K:vP)(mg:Str->Option xM)(n:Str)(ss:List Int):Prop:=∃(p:xB)(o:Obj)(VB:Array xM)(k:Nat),mg n=u7 .AL/\K.lookup p=u7 o/\o.cls=.type "tuple"/\o.data=.seq VB k/\VB.size<=sizeLine/\Vals .H5 VB.toList
def Fa(e:Gl X x)(h:TupI X.K X.mg x ss)(l:(x==("__debug__":Str))=uA:=by decide):QE X E .As (dC (.tup (ss.map D.int))):=by let#[p,o,b,k,c,f,i,j,m,d]:=h;exact X4 (v:=.ref p) e c rfl (λa g=>#[p,ss.map V.int,rfl,.inr #[o,b,k,g▸f,i,j,m,d],.ints ss]) l
theorem gw:∀{l:List xM}{ss:List Int},intsOf l=u7 ss->Vals .H5 l
 |[],ss,h=>by cases h;exact .nil
 |v::r,ss,h=>by
  unfold intsOf at h;split at h
  .rename_i q;cases q
  .rename_i s t c q;cases q;let#[a,b,rfl]:=qK.mp h;exact .cons #[_,rfl] (gw b)
  cases h
def Fc{K:vP}{h:Heap}{b:Str->Option xM}{n:Str}{vs:List Int}(X:K.In h)(G:h.Ns vY b)(s:aE n vs K=u9):TupI K b n vs:=by
 unfold aE at s;split at s
 .rename_i p e;split at s
  .rename_i t i a k g f;simp only[zN,beq_iff_eq,decide_eq_true_eq]at s;let#[#[rfl,c],d]:=s;exact#[p,_,a,k,mg_of X G e,f,rfl,rfl,by rw[vj];have:=jN d;simp at this;lia,gw c]
  cases s
 cases s
section
variable{prog:xG}{w:xN}{A:xC}{E:xM->xI->Prop}{s:xI}
def Fh{t b:xB}{i:List xM}{Q:xM->xI->Prop}(v:IsTup s.heap t [].toArray)(u:IsTup s.heap b i.toArray)(h:Q .A7 s):vA .AC A .KT Q E s:=by let#[#[q,x,k,p],o,m,n,l]:=id v;let#[#[j,g,f,e],a,d,r,c]:=id u;simp only at m l d c;subst m l d c;exact concat_meets #[_,o,rfl] #[_,a,rfl] noFill_tuple_add seq_tuple_add vd ve .I3 (tuple_addW0 t b [].toArray i.toArray n r x g p e rfl) #[o,a,h]
def Fk:fillsNumberSlot (.type "tuple") "mul"=pure uA:=
 PySem.fillsNumberSlot_seq PySem.F.slot_tuple_mul.lookup .f PySem.F.slot_tuple_rmul.lookup .f
def Fm:seqRepeat? (.type "tuple")=pure (u7 (.builtin "tuple.__mul__")):=by
 unfold seqRepeat?;rw[uv (name:="__mul__") PySem.F.slot_tuple_mul.lookup .f,uv (name:="__rmul__") PySem.F.slot_tuple_rmul.lookup .f]
 rfl
def Fn(a)(t)(l)(items)(n)(f)(c):
  Meets (Builtin.«int.__rmul__» #[[.int a t,.ref l],[]]) (λ_ R s=>s.heap.get? l=u7 {cls:=.type "tuple",dict:=f,data:=.seq items n,slots:=c}/\R (.ok (.ret Value.notImplemented)) s):=
 .of_wp λb w A R s h=>by let#[hp,g,d,j,i]:=s;let#[e,h]:=h;wp_walk using wpAny_loadPart' e;exact#[_,rfl,h]
def Fs(l)(items)(n)(e)(b)(t):
  Meets (Builtin.«tuple.__mul__» #[[.ref l,.int 1 t],[]]) (λ_ R s=>s.heap.get? l=u7 {cls:=.type "tuple",dict:=e,data:=.seq items n,slots:=b}/\R (.ok (.ret (Value.ref l))) s):=
 .of_wp λa w A R s h=>by let#[hp,g,d,i,f]:=s;let#[c,h]:=h;wp_walk using wpAny_loadPart' c;exact#[_,rfl,h]
def Fu(l)(x)(n)(dd)(sl)(k)(t)(h2:2<=k)(h3:k<=1000):
  Meets (Builtin.«tuple.__mul__» #[[.ref l,.int k t],[]]) (λ_ R s=>s.heap.get? l=u7 {cls:=.type "tuple",dict:=dd,data:=.seq [x].toArray n,slots:=sl}/\R (.ok (.ret (Value.ref s.heap.objs.size))) {s with heap:=s.heap.push {cls:=Value.type "tuple",data:=Data.seq (zK k.toNat x).toArray}}):=
 .of_wp λprog w A R s h=>by
  let#[hl,h]:=h;have c1:(decide (k < -(2^63))||decide (k ≥ 2^63))=uA:=by rw[decide_eq_false .a,decide_eq_false .a];rfl
  have c2:(([x].toArray:Array xM).isEmpty||k==1)=uA:=by
   have:(k==1)=uA:=.e
   rw[this];rfl
  have c3:(decide (k<=0)||([x].toArray:Array xM).isEmpty)=uA:=by rw[decide_eq_false .a];rfl
  have c4:¬((([x].toArray:Array xM).size:Int)*k>(2^63-1)/8):=by have:((([x].toArray:Array xM).size:Nat):Int)=1:=rfl;rw[this];lia
  have c5:Builtin.Tuple.tupleTooMany ((([x].toArray:Array xM).size:Int)*k)=uA:=by have:((([x].toArray:Array xM).size:Nat):Int)=1:=rfl;rw[this];exact decide_eq_false (by rw[vj];lia)
  have e:(zK k.toNat ([x].toArray:Array xM)).foldl (·++·) [].toArray=(zK k.toNat x).toArray:=by
   have:=foldl_rep [x] k.toNat [];rw[show(.replicate k.toNat x)=(zK k.toNat [x]).flatten by
    induction k.toNat with
    |zero=>rfl
    |succ m ih=>rw[qz,qz,j6,<-ih];rfl]
   exact this
  wp_walk using wpAny_loadPart' hl
  rw[if_neg (by rw[c1];decide)]
  wp_walk using wpAny_loadPart' hl
  rw[if_neg (by rw[c2];decide),if_neg (by rw[c3];decide),if_neg c4,if_neg (by rw[c5];decide),e]
  wp_walk
  rw[if_neg (by rw[z0,jV,vj];lia)]
  wp_walk
  exact#[_,rfl,h]
end
section
variable{X:Cx}{E:XK}
def GA:ZF X .Da (λx y H Q=>∃a b ys,x=.ref a/\y=.ref b/\YO X.K H a []/\YO X.K H b ys/\Q .A7 H):=by intro d s n H x y v u Q I i m h;let#[a,b,ys,rfl,rfl,g,f,q]:=h;cases i;cases m;let#[e,j,l,_]:=I.tuple g;let#[c,o,k,_]:=I.tuple f;cases j;exact Fh l k #[.ref b,H,I,rfl,q]
def Ly:D->D->DH->R D
 |.tup [],.tup ys,G=>.ok .GA G
 |d,e,G=>Dw d e G
def GB:ZF X .Da (XO X.K E Ly):=λb s j H x y v u Q I l o h=>by
 let#[a,G,d,e,hk,n,r,i,m,q]:=h;unfold Ly at q;split at q
 .rename_i J;subst n;let#[p,B,t,k,C]:=i;let#[g,c,F,f,z]:=m;rw[hk]at k f;obtain rfl:B=[]:=jz (by rw[<-C.length];rfl);exact GA b s j a.H x y v u Q I l o #[p,g,c,t,F,k,f,q a (.ref g) .AG r #[g,c,rfl,hk▸f,z]]
 exact eZ b s j H x y v u Q I l o #[a,G,d,e,hk,n,r,i,m,q]
def GC:ZF X .C9 (λx y H Q=>∃a z k,x=.ref a/\y=.int k/\YO X.K H a [z]/\1<=k/\k<=1000/\(k=1->Q .Aq H)/\∀p,H p=u8->Q .AL (upd H p (.tup (zK k.toNat z)))):=by
 intro r s Z H x y v u Q I J W h;let#[a,z,k,rfl,rfl,U,Y,C,B,M]:=h;cases J;let#[t,rfl]:=W;let#[g,o,T,_]:=I.tuple U;obtain⟨u,rfl⟩:∃u,g=[u]:=by
  cases o with
  |cons _ b=>cases b;exact#[_,rfl]
 let#[#[P,f,i,d],c,j,n,l]:=id T;subst j l;refine wpAny_binaryOp_repeat_ref .c #[_,c,rfl] (λN=>typeIs_int N k t) Fk F.fills_int_mul F.slot_int_rmul Fm F.slot_int_index.lookup
  (call_meets F.slot_int_rmul .GB F.entry_int_rmul .Ey (Fn k t a [u].toArray n f d) #[c,rfl,#[_,c,rfl],?_])
 by_cases e:k=1
 .subst e;exact call_meets F.slot_tuple_mul #[_,c,rfl] F.entry_tuple_mul .Es (Fs a [u].toArray n f d t) #[c,.ref a,H,I,rfl,B rfl]
 refine call_meets F.slot_tuple_mul #[_,c,rfl] F.entry_tuple_mul .Es (Fu a u n f d k t .a C) #[c,?_];have O:Vals (.replicate k.toNat z) (.replicate k.toNat u):=by
  cases o with
  |cons S _=>
   induction k.toNat with
   |zero=>exact .nil
   |succ m L=>rw[qz,qz];exact .cons S L
 refine#[.ref s.heap.objs.size,_,I.laid (λb ob q=>zQ _ q) .AK ?_,rfl,M _ .JM];exact#[by rw[jV,vj];lia,_,O,.new _ _]
def Ub:D->D->DH->R D
 |.tup [x],.int k,G=>if 1<=k/\k<=1000 then .ok (.tup (zK k.toNat x)) G else .bad
 |_,_,_=>.bad
def GD:ZF X .C9 (XO X.K E Ub):=Gn GC λa G d e x y Q hk s g n q=>by
 unfold Ub at q;split at q
 .rename_i x k;split at q
  .rename_i f;let#[p,u,h,b,i]:=g;rw[hk]at b;let#[v,r,rfl,l,t]:=i;obtain rfl:r=[]:=t;have c:∀m,YA a (.replicate m x) (.replicate m v):=λm=>by
    induction m with
    |zero=>exact .nil
    |succ m j=>rw[qz,qz];exact .cons l j
   refine#[p,v,k,h,n,b,f.1,f.2,λz=>?_,λo hp=>U8 s (c k.toNat) q o hp];subst z;exact q a .AL .AG s #[p,[v],rfl,hk▸b,c 1]
  exact q.elim
 exact q.elim
theorem YA.eraseIdx:∀{b:List D}{vs:List V}k,YA a b vs->YA a (b.eraseIdx k) (vs.eraseIdx k)
 |[],_,k,h=>by cases(h);exact rfl
 |d::b,_,0,#[v,r,rfl,_,h]=>h
 |d::b,_,k+1,#[v,r,rfl,c,h]=>#[v,_,rfl,c,.eraseIdx k h]
def Pk(o:D)(ds:List D)(G:DH):R D:=match o,ds with
 | .ref i,[.int j]=>match G[i]? with
  |some .AI=>if 0<=j/\j<1000000 then(match xs[j.toNat]? with
   |some d=>.ok d (G.set i (.lst (xs.eraseIdx j.toNat)))
   |none=>.bad)else .bad
  |_=>.bad
 |_,_=>.bad
def GE:VZ X "list.pop" (lRm X.K E Pk):=yo.mono λx B H Q h=>by
 let#[a,G,d,A,hk,rfl,s,c,r,q]:=h;unfold Pk at q;split at q
 .rename_i i j;let#[z,rfl,b]:=XH r;cases(b);split at q
  .rename_i C n;split at q
   .rename_i y;split at q
    .rename_i e u;let#[o,f,k]:=s.lst n;let#[l,t]:=Xj s c.1 f (k.eraseIdx j.toNat);let#[v,g,p]:=k.get u;have w:=(z9.mp g).1;refine#[a.m i,o,j,j.toNat,v,c.2,rfl,f,.a,.a,?_,g,q _ v l t (p.mono l)];simp only[seqIndex?]
     split<;>simp<;>lia
    exact q.elim
   exact q.elim
  exact q.elim
 exact q.elim
end
end
def tgN:xD->List Str
 |.Name x _=>[x]
 |.Tuple es _ _=>es.flatMap λe=>match e with
  |.Name x _=>[x]
  |_=>[]
 |_=>[]
def Ka(tg:xD)(caps:List Nat)(N:List Str):List Str:=tgN tg++caps.map λj=>N.getD j ""
section
variable{X:Cx}{scope:xH}{nt:Nat}{caps:List Nat}{tg elt iter:xD}{ifs:List xD}{pos:Pos}{it:DI}{g:DG}{c:DB}{te:DE}
def GF(m:QI X E0 tg iter it)(j:∀C b a d,(Ka tg caps X.N).Nodup->QG (WX X .BR scope C b a d) E0 tg g)(o:GK nt g)(e:∀C b a d,U1 (WX X .BR scope C b a d) E0 ifs c)
  (k:∀C b a d,QE (WX X .BR scope C b a d) E0 elt te) (n:X.calm=u9:=by rfl) (hk:scope.kind=.function:=by rfl) (f:∀x,X.env.kindOf x=X.env.scope.names.lookup x:=by rfl')
  (h:Xm X.env.scope.names X.N .BR scope.names nt caps=u9:=by kernel_rfl) (l:∀x,foldedSetIterable iter X.env x=pure x:=by rfl'):QE X E0 (.ListComp elt [#[tg,iter,ifs,0]] scope pos) (Bk it nt caps g c te):=
 have i:=Hz hk f rfl h
 J1 n i m (λC b a d=>j C b a d i.nd) o e k l
def GG(i){y:Str}{l d:Pos}(u:X.N.Nodup)(v:QI X E0 tg iter it)(p:∀C a b e,(Ka tg caps X.N).Nodup->QG .Ji E0 tg g)(o:GK nt g)(f:∀C a b e,U1 .Ji E0 ifs c)
  (t:∀C a b e,QE .Ji E0 elt te) (s:X.calm=u9:=by rfl) (hk:scope.kind=.function:=by rfl) (j:∀x,X.env.kindOf x=X.env.scope.names.lookup x:=by rfl')
  (h:Xm X.env.scope.names X.N .BR scope.names nt caps=u9:=by kernel_rfl)
  (r:X.N[i]?=u7 y:=by rfl) (w:Loc X.env.scope y:=by rfl') (n:X.fn y=u9\/X.env.scope.names.lookup y=u7 .local:=by rfl')
  (k:swapsWith (.ListComp elt [#[tg,iter,ifs,0]] scope pos) (u7 (.Name y l)) d.line X.env=pure u9:=by rfl)
  (q:∀x,foldedSetIterable iter X.env x=pure x:=by rfl'):QS X E0 (.Assign [.Name y l] (.ListComp elt [#[tg,iter,ifs,0]] scope pos) d) (VJ .E8 .GH):=
 have m:=Hz hk j rfl h
 fM i s u m v (λC a b e=>p C a b e m.nd) o f t r w n k q
end
def M?{p:List xM->Prop}(h:p [])(us)(e:us.length=0):p us:=by cases us with |nil=>exact h|cons a r=>cases e
def Cv{n:Nat}{p:List xM->Prop}(h:∀a r,r.length=n->p (a::r))(us)(e:us.length=n+1):p us:=by cases us with |nil=>cases e|cons a r=>exact h a r (Nat.succ.inj e)
def bnd1{p:List xM->Prop}(h:∀a,p [a]):∀us,us.length=1->p us:=Cv λa=>M? (h a)
def bnd2{p:List xM->Prop}(h:∀a b,p [a,b]):∀us,us.length=2->p us:=
 Cv λa=>Cv λb=>M? (h a b)
def bnd3{p:List xM->Prop}(h:∀a b c,p [a,b,c]):∀us,us.length=3->p us:=
 Cv λa=>Cv λb=>Cv λc=>M? (h a b c)
def bnd4{p:List xM->Prop}(h:∀a b c d,p [a,b,c,d]):∀us,us.length=4->p us:=
 Cv λa=>Cv λb=>Cv λc=>Cv λd=>M? (h a b c d)
def bnd5{p:List xM->Prop}(h:∀a b c d e,p [a,b,c,d,e]):∀us,us.length=5->p us:=
 Cv λa=>Cv λb=>Cv λc=>Cv λd=>Cv λe=>M? (h a b c d e)
def bnd6{p:List xM->Prop}(h:∀a b c d e f,p [a,b,c,d,e,f]):∀us,us.length=6->p us:=
 Cv λa=>Cv λb=>Cv λc=>Cv λd=>Cv λe=>Cv λf=>M? (h a b c d e f)
def bnd7{p:List xM->Prop}(h:∀a b c d e f g,p [a,b,c,d,e,f,g]):∀us,us.length=7->p us:=
 Cv λa=>Cv λb=>Cv λc=>Cv λd=>Cv λe=>Cv λf=>Cv λg=>M? (h a b c d e f g)
def fsc{N P:List Str}{h:xH}(a:h.kind=.function:=by rfl)(b:h.isCoroutine=uA:=by rfl)(c:h.isGenerator=uA:=by rfl)(d:N.Nodup:=by rfl')(e:N.take P.length=P:=by rfl)
  (f:∀x∈P,h.names.lookup x=u7 .local\/h.names.lookup x=u7 .cell:=by rfl') (g:∀y∈h.names,y.2≠ .free:=by rfl'):YD N P h:=#[a,b,c,d,e,f,g]
end _D
namespace _D
open PySem PySem.W _L
def GI{X:Cx}{E:XK}{x:Str}{n:Int}{t:Tok}{pos:Pos}(hg:Gl X x)(hm:X.mg x=u7 (.int n t))(hd:(x==("__debug__":Str))=uA:=by decide):QE X E .As (dC .Bn):=
 X4 (v:=.int n) hg hm #[_,rfl] (λ_ _=>rfl) hd
def GJ{X:Cx}{E:XK}{x:Str}{n:Str}{t:Tok}{pos:Pos}(hg:Gl X x)(hm:X.mg x=u7 (.str n t))(hd:(x==("__debug__":Str))=uA:=by decide):QE X E .As (dC (.str n)):=
 X4 (v:=.str n) hg hm #[_,rfl] (λ_ _=>rfl) hd
end _D
namespace _D
open PySem PySem.Spec _L
open PyProof.Rows hiding St
def G8:List D->Option (List Key)
 |[]=>u7 []
 |d::r=>match Gb d,G8 r with
  |some k,u7 ks=>u7 (k::ks)
  |_,_=>u8
section
variable{X:Cx}{E:XK}
def Qd(o:D)(ds:List D)(G:DH):R D:=match o,ds with
 |.str x,[.str y,.int k]=>if(y.length≠0/\x.length<=1000000)/\0<=k/\k<=1000 then .ok .AH (G++[.lst ((Txt.splitMax x y k).map D.str)])else .bad
 |_,_=>.bad
def GL(a:0<=k):(Txt.splitMax x y k).length<=k.toNat+1:=by
 unfold Txt.splitMax;split
 .show 1<=_;lia
 split
 .show 1<=_;lia
 have h:=StrLaws.occ_length_le x y 0 x.length (limitOf x k);have e:limitOf x k=k.toNat:=by unfold limitOf;rw[if_neg .a]
 rw[e]at h⊢;have:(ji x (zc x y 0 x.length k.toNat) y.length).length=(zc x y 0 x.length k.toNat).length+1:=by simp[ji]
 lia
def GN:VZ X "str.split" (lRm X.K E Qd):=λvT s σ H x xs v us Q I rx rs h=>by
 let#[a,G,d,ds,hk,rfl,sm,rd,r,q]:=h;unfold Qd at q;split at q
 .rename_i x' y k;let#[w,w2,rfl,rw',rw2]:=S? r;cases(rd);cases(rw');cases(rw2);let#[t,rfl]:=rx;obtain⟨u1,u2,rfl,⟨u',rfl⟩,⟨u3,rfl⟩⟩:∃u1 u2,us=[u1,u2]/\RelV .G8 u1/\RelV .B6 u2:=by
   cases rs with
   |cons p q=>cases q with
    |cons p' q'=>cases q';exact#[_,_,rfl,p,p']
  split at q
  .rename_i hl;let#[#[hy0,hx0],k0,k1]:=hl;have hy:(y.length==0)=uA:=by simpa using hy0
   have hkk:(decide (k < -(2^63:Int))||decide (k ≥ 2^63))=uA:=by
    rw[decide_eq_false .a,decide_eq_false .a]
    rfl
   have hsl:=GL (x:=x') (y:=y) k0;have UX:(Txt.splitMax x' y k).length<=sizeLine:=by rw[vj];lia
   have key:∀l tk,l.map (·.1)=Txt.splitMax x' y k->EP X vT σ Q .AU {s with toks:=tk,heap:=s.heap.push {cls:=.type "list",data:=.seq (strValues l).toArray}}:=λl tk e=>
    #[.ref s.heap.objs.size,_,I.laid (o:=.lst ((Txt.splitMax x' y k).map V.str)) (λb ob q=>zQ _ q) .AK #[by rw[zq];exact UX,_,0,by rw[<-e];exact Zk l,zD _ rfl],rfl,Ji sm (V2 _) q _ .JM]
   cases h1:(decide (x'.length<y.length)||decide (zg x'<zg y))
   .cases hf:(zc x' y 0 x'.length .H6).isEmpty
    .have e:Txt.splitMax x' y k=ji x' (zc x' y 0 x'.length .H6) y.length:=(if_neg .B7).trans (if_neg .Er);refine call_meets F.slot_str_split .BT F.entry_str_split .Cn (meets_str_split_sep_max x' y k t u' u3 hkk h1 hy hf (J? hx0) (by rw[<-e];exact UX)) ?_;rw[strsFrom_eq]
     exact key .F1 _ ((numbered_texts _ _).trans e.symm)
    exact call_meets F.slot_str_split .BT F.entry_str_split .Cn (meets_str_split_max_not_found x' y k t u' u3 hkk h1 hy hf) (key [(x',t)] s.toks ((if_neg .B7).trans (if_pos hf)).symm)
   exact call_meets F.slot_str_split .BT F.entry_str_split .Cn (meets_str_split_max_cannot_occur x' y k t u' u3 hkk h1) (key [(x',t)] s.toks (if_pos h1).symm)
  exact q.elim
 exact q.elim
end
section
variable{prog:xG}{w:xN}{A:xC}{E:xM->xI->Prop}
theorem gx(e:l≠it):∀m j s Q,s.heap.IsListIter it l j->s.heap.IsList l VB->j+m<=VB.size->
  (∀h',h'.IsListIter it l (j+m)->qR it s.heap h'->Q ((VB.toList.drop j).take m) {s with heap:=h'})->vA .AC A (draw .Cz m) Q E s
 |0,j,s,Q,a,_,_,k=>vM (by simpa using k s.heap a (.refl ..))
 |m+1,j,s,Q,a,b,c,k=>by
  have lt:j<VB.size:=.a
  apply vC;refine wpAny_pyNext_list_item a b (x:=VB[j]) .d λp o f=>?_
  apply vC;apply vG;refine gx e m (j+1) _ _ o (b.extBut f.extBut e) .a λg i n=>vM ?_
  have z:=k g (by rw[show j+(m+1)=j+1+m by lia];exact i) (f.trans n);have h:VB.toList.drop j=VB[j]::VB.toList.drop (j+1):=by simp[zH,lt]
  rwa[h,List.take_succ_cons]at z
def GP(i:A.handled=u8)(c:s.heap.IsList l VB)
  (k:∀h',Heap.ExtBut s.heap.objs.size s.heap h'->Q VB.toList {s with heap:=h'}):vA .AC A (unpackItems (.ref l) VB.size u8) Q E s:=by
 have d:l≠s.heap.objs.size:=by let#[o,m,_]:=c;exact qQ (zA m)
 refine vC (vC (wpAny_specialOf c.typeIs slot_list_iter.lookup (vM ?_)));apply vC;apply vG;refine wpAny_pyIter_list c ?_;apply vC;apply vG;refine gx d VB.size 0 _ _ #[_,zD _ rfl,rfl,rfl] (c.push _) .a λp n f=>?_
 have all:List.take VB.size (.drop 0 VB.toList)=VB.toList:=by exact qM .d
 rw[all,if_neg .d];apply vC;apply vG;exact wpAny_pyNext_list_end i n ((c.push _).extBut f.extBut d) .d λh j=>(vM (k h λb o g e=>j b o g (f.extBut b o g .Fh)))
end
section
variable{X:Cx}{E:XK}
def gLs(K:za)(n:Nat)(t:TGs):TG:=λv σ H Q=>∃a xs,v=.ref a/\WQ K H a xs/\xs.length=n/\t xs σ H Q
def GQ{es:List xD}{k:Nat}{t:TGs}{n:Nat}{pos:Pos}(q:X.calm=u9)(h:PGs X es t)
  (l:(xO es X.env).length=n:=by rfl) (d:(xO es X.env).findIdx? (·.1)=u8:=by rfl):PG X .DH (gLs X.K n t):=by
 intro c s j H v u Q I r #[a,x,p,m,i,hw];subst p;cases r;let#[f,g,z,C]:=I.list m;apply vC;apply wpAny_standAt;unfold unpack;rw[d,l];apply vC;apply vG;have y:n=f.toArray.size:=by rw[z0,<-g.length,i]
 rw[y];exact GP (I.ok.hd q) z.isList λF B=>(h c _ j H x _ Q (I.kept λb o e=>B b o (qQ .Bb) e) (by simpa using g) hw)
def Px(n:Nat)(t:DGs):DG:=λd S G=>match d with
 |.fl ds=>if ds.length=n then t ds S G else .bad
 |_=>.bad
theorem gy{es:List xD}{k:Nat}{t:DGs}{n:Nat}{pos:Pos}(m:X.calm=u9)(h:U2 X E es t)
  (g:(xO es X.env).length=n:=by rfl) (b:(xO es X.env).findIdx? (·.1)=u8:=by rfl):QG X E .DH (Px n t):=(GQ m h g b).mono λv o H Q h=>by
 let#[a,S,G,d,hk,rfl,s,r,q,h]:=h;cases d with
 |fl l=>
  let#[p,j,e,i,c]:=q;unfold Px at h;dsimp only at h;split at h
  .rename_i f;exact#[p,j,e,by rw[<-hk];exact i.sq,by rw[<-c.length];exact f,a,S,G,l,hk,rfl,s,r,c,h]
  exact h.elim
 |_=>exact h.elim
@[simp]theorem UH:Px n t .CN S G=if ds.length=n then t ds S G else .bad:=id rfl
end
end _D
namespace _D
open PySem PySem.W _L
def lcl(s:xL):List Str:=(Bc s).names.filterMap λp=>match p.2 with
 |.local=>u7 p.1
 |.cell=>u7 p.1
 |_=>u8
def UU(s:xL):List Str:=(lcl s).take (Hd s).args.length
def N?:xL->Str
 |.FunctionDef n _ _ _ _ _ _ _ _ _=>n
 |_=>Str.empty
structure Ev where
 P:xG
 w:xN
 K:vP
 mg:Str->Option xM
 base:Heap
def Ask.nm:Ask->Str
 |.z n=>n
 |.gi n _=>n
 |.gs n _=>n
 |.no c x=>c++"."++x
 |_=>Str.empty
def fnd(b:List xL)(ex:List Ask)(n:Str):Option Ask:=(aF b ex).find? λx=>x.nm==n
theorem gz:∀{l:List Ask},XS K l->∀a∈l,a.WV K
 |[],_,_,h=>nomatch h
 |b::r,h,a,m=>by
  rcases zj.mp m with rfl|m
  .exact h.1
  exact gz h.2 a m
abbrev clM(b:List xL)(i:Nat):Str:=(clN .B8).1
abbrev Eo(b:List xL)(i j:Nat):xL:=(clN .B8).2.getD j pss
abbrev qlM(b:List xL)(i j:Nat):Str:=clM b i++"."++N? .BJ
structure Gx (b:List xL) (ex:List Ask) (U:Ev):Prop where
 h:∃h,U.K.In h/\h.Ns vY U.mg
 S:∀a∈aF b ex,a.WV U.K
section
variable{b:List xL}{ex:List Ask}{U:Ev}(T:Gx b ex U)
include T
def Gx.has(e:fnd b ex n=u7 a):a.WV U.K:=T.S _ (List.mem_of_find?_eq_some e)
def Gx.z(e:fnd b ex n=u7 (.z n):=by kernel_rfl):U.mg n=u8:=by let#[h,X,G]:=T.h;exact mg_none_of X G .IT
def Gx.gi(e:fnd b ex n=u7 (.gi n v):=by kernel_rfl):U.mg n=u7 (.int v (M6 U.K n)):=by let#[h,X,G]:=T.h;exact mg_of X G .IT
def Gx.gs(e:fnd b ex n=u7 (.gs n v):=by kernel_rfl):U.mg n=u7 (.str v (M6 U.K n)):=by let#[h,X,G]:=T.h;exact mg_of X G .IT
def Gx.no(e:fnd b ex (c++"."++x)=u7 (.no c x):=by kernel_rfl):XJ U.K (Ay U.K c) x:=T.has e
def Gx.at (i):(Xi .B8).WV U.K:=by
 unfold Y' List.getD;rcases h:b[i]? with _|s
 .exact rfl
 exact T.S _ (qZ _ (qZ _ (qZ _ (List.mem_map_of_mem (jY h)))))
def Gx.mat(i j):(mtA .Dd .BJ).WV U.K:=by
 unfold Eo clM Y' List.getD;rcases h:b[i]? with _|s
 .exact rfl
 show(mtA (clN s).1 ((clN s).2[j]?.getD pss)).WV U.K;rcases a:(clN s).2[j]? with _|f
 .exact rfl
 exact T.S _ (qZ _ (qZ _ (jD _ (List.mem_flatMap.mpr #[s,jY h,jD _ (List.mem_map_of_mem (jY a))]))))
end
def scB(s:xL):Bool:=decide ((Bc s).kind=.function/\(Bc s).isCoroutine=uA/\(Bc s).isGenerator=uA/\(lcl s).Nodup/\(∀x∈UU s,(Bc s).names.lookup x=u7 .local\/(Bc s).names.lookup x=u7 .cell)/\∀y∈(Bc s).names,y.2≠ .free)
def sck(h:scB s=u9):YD (lcl s) (UU s) (Bc s):=by let#[d,e,c,g,f,a]:=of_decide_eq_true h;exact#[d,e,c,g,by unfold UU;rw[j0,<-List.take_eq_take_min],f,a]
def YX(n q:Str)(st:xL):Prop:=∀(kV doc pm:xM)(an:Option xB)(YK ct:xM)(us:List xM),us.length=(UU st).length->bindArgs (fnOf n q .CV .Bs .BN .none kV doc pm an YK ct) #[us,[]]=pure ((UU st).zip us)
def YX.mk(h:YX n q st:=by intro _ _ _ _ _ _;first|exact bnd1 λ_=>rfl|exact bnd2 λ_ _=>rfl|exact bnd3 λ_ _ _=>rfl|exact bnd4 λ_ _ _ _=>rfl|exact bnd5 λ_ _ _ _ _=>rfl|exact bnd6 λ_ _ _ _ _ _=>rfl|exact bnd7 λ_ _ _ _ _ _ _=>rfl|exact Cv λ_=>bnd7 λ_ _ _ _ _ _ _=>rfl):YX n q st:=h
abbrev FN:=List D->DH->R D
def GO(U:Ev)(st:xL)(k:Nat)(F:FN):Prop:=FT U.K U.mg (N? st) st .Gf/\FnO U.P U.w U.K U.mg U.base k (N? st) .Gf F
def GH(U:Ev)(st:xL)(k:Nat)(F:FN):Prop:=FT U.K U.mg (N? st) st .Gf/\FnH U.P U.w U.K U.mg U.base k (N? st) .Gf F
def GM(U:Ev)(b:List xL)(i j:Nat)(k:Nat)(F:FN):Prop:=MT U.K .Dd (N? .BJ) .E9 .BJ .K0/\MtO U.P U.w U.K U.mg U.base k .Dd (N? .BJ) .K0 F
abbrev SC(st:xL):Prop:=YD (lcl st) .Gf .BN
section
variable{b:List xL}{ex:List Ask}{U:Ev}(T:Gx b ex U)
include T
def Gx.fs(i)(e:Xi .B8=.fn (N? .B8) (Y' b i):=by rfl)(S:scB .B8=u9:=by kernel_rfl)(a:YX (N? .B8) (N? .B8) (Y' b i):=by exact YX.mk):FT U.K U.mg (N? .B8) .B8 (UU .B8)/\SC (Y' b i):=by let#[h,X,G]:=T.h;have h:=T.at i;rw[e]at h;exact#[F1 X G h a,sck S]
def Gx.ms(i j)(e:mtA .Dd .BJ=.mt .Dd (N? .BJ) .E9 (Eo b i j):=by rfl)(S:scB .BJ=u9:=by kernel_rfl)
  (a:YX (N? .BJ) .E9 (Eo b i j):=by exact YX.mk):MT U.K .Dd (N? .BJ) .E9 .BJ .K0/\SC (Eo b i j):=by
 have h:=T.mat i j;rw[e]at h;exact#[F4 h a,sck S]
def Gx.ct(i)(e:Xi .B8=.cl c:=by rfl)(f:mtA .Dd (Eo b i 0)=.mt c "__init__" (c++"."++"__init__") (Eo b i 0):=by rfl):CT U.K U.mg c:=by let#[h,X,G]:=T.h;have a:=T.at i;have d:=T.mat i 0;rw[e]at a;rw[f]at d;exact F5 X G a d
end
def _root_._L.Cx.ev(X:Cx):Ev:=#[X.prog,X.w,X.K,X.mg,X.base]
def GR{X:Cx}{k j:Nat}{n:Str}{st:xL}{F:FN}{p pos:Pos}{e:xD}{es:List xD}{tr:DA}(I:GO X.ev st k F)(d:VH j X.A)(h:QA X E0 (e::es) tr)(a:N? st=n:=by rfl)
  (c:Nat.ble k j=u9:=by rfl) (i:Gl X n:=by rfl) (f:(n==("__debug__":Str))=uA:=by decide) (g:notStar e=u9:=by rfl) (hp:es.all notStar=u9:=by rfl):QE X E0 (.Call (.Name n p) (e::es) [] pos) (XA F tr):=by
 subst a;exact F9 I.2 I.1 d h (jN c) i f g hp
end _D
namespace _D
open PySem PySem.Spec _L
open PyProof.Rows hiding St
def R8 (c:Str) (to tv:DE) (f:Str) (g:D->D->DH->R D):DS:=λS G=>(to S G).toS λo G1=>match Hc c o G1 with
 | some fs=>match fs.lookup f with
  | some x=>(tv S G1).toS λy G2=>(g x y G2).toS λz G3=>match o with
   |.ref i=>match Hc c o G3 with
    |some fs'=>if fs'.length<1000 then .nx S (G3.set i (.ins c (Gu f z fs')))else .bad
    |none=>.bad
   |_=>.bad
  |none=>.bad
 |none=>.bad
section
variable{X:Cx}{E:XK}{c f:Str}{C:xB}{e o:xD}{ta tv:DE}{pos tpos:Pos}
def GS{op:Operator}{g:D->D->DH->R D}(hn:zb X.K vY c=u7 .JT)(hc:q? X.K C)(hf:XJ X.K C f)(ha:QE X E o ta)(hv:QE X E e tv)(hop:ZF X .FM .GF):
  QS X E (.AugAssign .FK op e pos) (R8 c ta tv f g):=
 (vt ha hv hop).mono λW σ H h=>by
  let#[a,S,G,hk,rfl,s,r,h]:=h;refine#[a,S,G,hk,rfl,s,r,(Gm h).imp ?_];rintro v _ ⟨b,d,G1,rfl,x,s1,q,-,h1⟩;split at h1
  .rename_i fs hi;split at h1
   .rename_i d1 hd;let#[i,C',dx,us,rfl,li,rfl,eg,n',e1,r1]:=s1.ins q hi;have hCC:C'=C:=by
     rw[x.k,hk,hn]at n';cases n'
     rfl
    subst hCC;let#[u,eu,ru]:=r1.look hd;refine#[b.m i,C',dx,us,u,rfl,e1,hc,hf,eu,b,S,G1,x.k.trans hk,rfl,s1,r.mono x,(Gm h1).imp ?_];rintro v2 _ ⟨b2,d2,G2,rfl,x2,s2,q2,-,h2⟩;refine#[b2,G2,d1,d2,x2.k.trans .A3,rfl,s2,ru.mono x2,q2,(Gm h2).imp ?_];rintro v3 _ ⟨b3,d3,G3,rfl,x3,s3,q3,-,h3⟩;dsimp only at h3;split at h3
    .rename_i fs' hi';split at h3
     .rename_i hl;let#[i',C3,dx3,us3,ei,li3,em,eg3,n3,e3,r3]:=s3.ins ((q.mono x2).mono x3) hi';cases ei;have hC3:C3=C':=by
       rw[x3.k,x2.k,x.k,hk,hn]at n3;cases n3
       rfl
      subst hC3;have x4:Ext b3 (b3.put (b3.m i) (.ins C3 dx3 (Ep f v3 us3))):=Ext.wrI e3;have em':b.m i=b3.m i:=by injection em
      rw[em'];exact#[dx3,us3,e3,r3.len▸hl,h3 _ σ x4 (s3.wrI (fs':=Gu f d3 fs') li3 n3 e3 (ZI.put (q3.mono x4) (r3.mono x4))) ((((r.mono x).mono x2).mono x3).mono x4)]
     exact h3.elim
    exact h3.elim
   exact h1.elim
  exact h1.elim
def GT{CX:z?}{k:Nat}{g:xB}{fd:xE}{ps:List Str}{F:List D->DH->R D}{p:Pos}(hn:zb X.K vY c=u7 .JT)(M:Mk X.K C g)(FF:WM X.prog X.w X.K X.mg X.base CX k g fd ps .Dk)(hr:VH (k+1) X.A)(hg:Gl X c)(hm:X.mg c=u7 .AR)(hb:Binds X.K fd ps [])
  (hx:Passes CX X E0) (hdb:(c==("__debug__":Str))=uA:=by decide):QE X E0 (.Call (.Name c p) [] [] pos) (O2 c F Bp):=
 (xt M FF hr hg hm hb .nil hx hdb).mono λσ H Q h=>by let#[a,S,G,hk,rfl,s,r,h]:=h;exact gf hk hn s YA.nil h
end
def TupK(K:za)(q:xB)(ss:List Str):Prop:=∃(o:Obj)(VB:Array xM)(k:Nat),K.lookup q=u7 o/\o.cls=.type "tuple"/\o.data=.seq VB k/\VB.size<=sizeLine/\Vals .D4 VB.toList
theorem hE{K:za}:∀{WE:List (Str×List Str)}{es:List DictEntry},Vals ((WE.map (·.1)).map V.str) (es.map (·.key))->Rt K (es.map (·.val)) (WE.map (·.2))=u9->(es.all λe=>isExactStrKey e.key)=u9/\
  ∀x,(WE.lookup x=u8/\(es.find? λe=>e.key.isStr x).map (·.val)=u8)\/∃ss q,WE.lookup x=u7 ss/\(es.find? λe=>e.key.isStr x).map (·.val)=u7 .Cf/\TupK K q ss
 |[],[],_,_=>#[rfl,λ_=>.inl #[rfl,rfl]]
 |[],e::es,h,_|(k,v)::WE,[],h,_=>by cases h
 | (k,v)::WE,#[hs,ke,va]::es,h1,h2=>by
  cases h1 with
  | cons p1 q1=>
   let#[t1,rfl]:=p1;cases va with
   | ref q=>
    simp[Rt]at h2;let#[p2,q2]:=h2;let#[ih1,ih2]:=hE q1 q2;refine#[by rw[jy,ih1];rfl,λx=>?_];by_cases hx:x=k
    .subst hx;refine .inr #[v,q,.d,by simp[Value.isStr],?_];split at p2
     .rename_i t od VB kk sl e;simp only[zN,beq_iff_eq,decide_eq_true_eq]at p2;let#[#[rfl,b],c]:=p2;exact#[_,VB,kk,e,rfl,rfl,zx (jN c) (zx .c WH),Qp b]
     cases p2
    have b1:(x==k)=uA:=by simpa using hx
    have b2:(Value.str k t1).isStr x=uA:=by
     rcases h:(Value.str k t1).isStr x with _|_
     .rfl
     let#[t,e]:=gu h;cases e;exact absurd rfl (λz=>hx z.symm)
    simp only[j2,b1,List.find?_cons,b2];exact ih2 x
   |_=>simp[Rt]at h2
structure O? (K:za) (p:xB) (WE:List (Str×List Str)):Prop where
 ex:∃(o:Obj)(es:Array DictEntry)(ep:Nat),(p==sysModules)=uA/\K.lookup p=u7 o/\o.cls=.type "dict"/\o.data=.dict es ep/\(es.all λe=>isExactStrKey e.key)=u9/\
  ∀x,(WE.lookup x=u8/\strAt es x=u8)\/∃ss q,WE.lookup x=u7 ss/\strAt es x=u7 .Cf/\TupK K q ss
def T?(K:za)(mg:Str->Option xM)(n:Str)(WE:List (Str×List Str)):Prop:=∃p,mg n=u7 .AL/\O? K p WE
def GU{K:za}{h:Heap}{mg:Str->Option xM}{n:Str}{WE:List (Str×List Str)}(X:K.In h)(G:h.Ns vY mg)(s:aG n WE K=u9):T? K mg n WE:=by
 unfold aG at s;split at s
 .rename_i p e;split at s
  .rename_i t od es k sl e2;simp only[zN,beq_iff_eq,decide_eq_true_eq,Bool.not_eq_true']at s;let#[#[#[rfl,h2],h3],h4]:=s;let#[q1,q2]:=hE (Qp h3) h4;exact#[p,ux X G e,#[_,es,k,h2,e2,rfl,rfl,by rw[<-Array.all_toList];exact q1,λx=>strAt_eq▸q2 x]]
  cases s
 cases s
def Nz(WE:List (Str×List Str)):D->DH->R D
 |.str x,G=>match WE.lookup x with
  |some v=>.ok (.tup .Il) G
  |none=>.bad
 |_,_=>.bad
def Q6(WE:List (Str×List Str)):D->DH->R D
 |.str x,G=>.ok (.bl (!(WE.lookup x).isSome)) G
 |_,_=>.bad
theorem YA.strs{a:Wd}:∀(ns:List Str),YA a .AN (ns.map V.str)
 |[]=>rfl
 |n::ns=>#[.str n,ns.map V.str,rfl,rfl,YA.strs ns]
section
variable{X:Cx}{E:XK}{p:xB}{WE:List (Str×List Str)}{x:Str}{a:xD}{ta:DE}{np pos:Pos}
def GV(D:O? X.K p WE):UZ X (λx y H Q=>∃k v,x=.ref p/\y=.str k/\WE.lookup k=u7 v/\∀q,YO X.K H q (v.map V.str)->Q .Cf H):=by
 intro value slice vT s σ H x y v u Q I rx ry h hs;let#[k,w,rfl,rfl,hl,q]:=h;obtain rfl:v=Value.ref p:=rx;let#[t,rfl]:=ry;let#[o,es,ep,hds,hK,hc,hd,ha,hat]:=D.ex;have ho:=I.YW _ _ hK;have hT:s.TypeIs .AL "dict":=#[o,ho,hc];obtain⟨v',hv,hq⟩:∃v',strAt es k=u7 (.ref v')/\TupK X.K v' w:=by
  rcases hat k with⟨z,_⟩|⟨v',t',z,z',z2⟩
  .rw[hl]at z;cases z
  rw[hl]at z;cases z;exact#[_,z',z2]
 unfold subscriptTail;refine vC ?_;rw[getitemInPython_of_ne hT.not_modules];refine vC (wpAny_specialOf hT PySem.F.slot_dict_getitem.lookup ?_);have fin:vA .AB X.A (subscripted slice uA .AL (.str k t)) (λr s₃=>vA .AB X.A (letTemporaryGo value .AL r >>=λ_=>pure r) (EP X vT σ Q) X.xe s₃) X.xe s:=by rw[hs];exact wpAny_operating (F7 ho hc hd ha hv (vC (wpAny_letTemporaryGo (vM #[.ref v',H,I.tok _,rfl,q v' (.inr hq)]))))
 first
  |exact vM (vC fin)
  |exact vC (vM (vC fin))
  |exact vC fin
def GW(D:O? X.K p WE):ZF X .E5 (λy x H Q=>∃k,x=.ref p/\y=.str k/\Q (.bl (!(WE.lookup k).isSome)) H):=by
 intro vT s σ H y x v u Q I ry rx #[k,ex,ey,q];subst ex ey;obtain rfl:u=Value.ref p:=rx;let#[t,rfl]:=ry;let#[o,es,ep,hds,hK,hc,hd,ha,hat]:=D.ex;refine F8 hds (I.YW _ _ hK) hc hd ha #[.bl (!(WE.lookup k).isSome),H,I.tok _,?_,q];rcases hat k with⟨z,z'⟩|⟨v',t',z,z',_⟩
 .rw[z,z'];rfl
 rw[z,z'];rfl
theorem hI(hg:Gl X x)(h:T? X.K X.mg x WE)(ha:QE X E a ta)(hs:M' a:=by intro _ _;rfl)(hd:(x==("__debug__":Str))=uA:=by decide):QE X E (.Subscript (.Name x np) a pos) (dUn (Nz WE) ta):=by
 let#[p,hm,D]:=h;refine(eM (GV D) (aJ (v:=.ref p) hg hm rfl hd) ha hs).mono λσ H Q h=>?_
 let#[a,S,G,hk,rfl,s,r,h]:=h;refine#[a,S,G,hk,rfl,s,r,(Er h).imp ?_];rintro v _ ⟨b,d,G1,rfl,y,s1,q1,_,h1⟩;cases d with
 |str k=>
  cases(q1);unfold Nz at h1;dsimp only at h1;split at h1
  .rename_i w hw;exact#[k,w,rfl,rfl,hw,λq hq=>h1 b _ (Ext.refl b) s1 #[q,_,rfl,by rw[y.k,hk];exact hq,YA.strs w]]
  exact h1.elim
 |_=>exact h1.elim
theorem GX{σ:St}{H:Hp}{Q:VK}(h:lE X.K E (dUn (Q6 WE) ta) σ H Q):tOp (λy x H Q=>∃k,x=.ref p/\y=.str k/\Q (.bl (!(WE.lookup k).isSome)) H) (lE X.K E ta) (tC .AL) σ H Q:=by
 let#[a,S,G,hk,rfl,s,r,h]:=h;refine#[a,S,G,hk,rfl,s,r,(Er h).imp ?_];rintro v _ ⟨b,d,G1,rfl,y,s1,q1,_,h1⟩;cases d with
 |str k=>
  cases(q1);exact#[k,rfl,rfl,h1 b _ (Ext.refl b) s1 rfl]
 |_=>exact h1.elim
def GY(hg:Gl X x)(h:T? X.K X.mg x WE)(ha:QE X E a ta)(hm:xT .NotIn (.Name x np)=uA)(hd:(x==("__debug__":Str))=uA:=by decide):QT X E (.Compare a [.NotIn] [.Name x np] pos) (Aj (dUn (Q6 WE) ta)):=by let#[p,hp,D]:=h;exact(dq (GW D) ha (aJ (v:=.ref p) hg hp rfl hd) hm).mono λσ H Q h=>aX (λ_ _ _ z=>GX z) σ H Q (V7 h)
end
end _D
namespace _W
open PySem _L _D
def fuel:Nat:=100000 abbrev FN:=List D->DH->R D abbrev cI (n:Int):DE:=dC .Bn abbrev cS (n:Str):DE:=dC (.str n) abbrev d1 (a:DE):DA:=Bg a Bp abbrev d2 (a b:DE):DA:=Bg a (Bg b Bp) abbrev d3 (a b c:DE):DA:=Bg a (Bg b (Bg c Bp)) abbrev d4 (a b c d:DE):DA:=Bg a (Bg b (Bg c (Bg d Bp))) abbrev oI (a b:DE):DE:=ZC Cg a b abbrev oA (a b:DE):DE:=ZC Dw a b abbrev oM (a b:DE):DE:=ZC Rm a b abbrev oX (a b:DE):DE:=ZC Fw a b abbrev oS (a b:DE):DE:=ZC Oz a b abbrev oD (a b:DE):DE:=ZC Jx a b abbrev oE (a b:DE):DE:=ZC Kg a b abbrev oL (a b:DE):DE:=ZC Nb a b abbrev oG (a b:DE):DE:=ZC Uu a b abbrev oP (a b:DE):DE:=ZC Uk a b abbrev sL (k:Nat) (a:DE) (b:DS):DS:=Ac (VJ a (gV k)) b abbrev sC (a:DE) (b:DS):DS:=WL (Aj a) b VN abbrev v0:DE:=dV 0 abbrev v1:DE:=dV 1 abbrev v2:DE:=dV 2 abbrev v3:DE:=dV 3 abbrev v4:DE:=dV 4 abbrev v5:DE:=dV 5 abbrev v6:DE:=dV 6 abbrev v7:DE:=dV 7 abbrev v8:DE:=dV 8 abbrev v9:DE:=dV 9 abbrev v10:DE:=dV 10 abbrev v11:DE:=dV 11 abbrev v12:DE:=dV 12 abbrev g0:DG:=gV 0 abbrev g1:DG:=gV 1 abbrev g2:DG:=gV 2 abbrev g3:DG:=gV 3 abbrev g4:DG:=gV 4 abbrev g5:DG:=gV 5 abbrev g6:DG:=gV 6 abbrev g7:DG:=gV 7 abbrev g8:DG:=gV 8 abbrev g9:DG:=gV 9 abbrev g10:DG:=gV 10 abbrev c0:DE:=cI 0 abbrev c1:DE:=cI 1 abbrev c2:DE:=cI 2 abbrev c3:DE:=cI 3 abbrev c4:DE:=cI 4 abbrev c5:DE:=cI 5 abbrev c6:DE:=cI 6
abbrev hJ:List Str:=["house","state","floods","pages","behind","came","took"]
def bL:YD hJ (UU .HD) (Bc .HD):=fsc
abbrev hP:List Str:=["house","levels","number","place","highest"]
def hR:YD hP (UU .HE) (Bc .HE):=fsc
abbrev GZ:List Str:=["rows","takes","passing","row","number"]
def hU:YD GZ (UU .I8) (Bc .I8):=fsc
abbrev G0:List Str:=["rows","takes","passing","number","way","take","below"]
def hV:YD G0 (UU .I9) (Bc .I9):=fsc
abbrev hW:List Str:=["thing"]
def hX:YD hW (UU .HF) (Bc .HF):=fsc
abbrev hZ:List Str:=["text"]
def h6:YD hZ (UU .GM) (Bc .GM):=fsc
abbrev h8:List Str:=["text","row"]
def h9:YD h8 (UU .GN) (Bc .GN):=fsc
abbrev iA:List Str:=["text","row"]
def iB:YD iA (UU .GO) (Bc .GO):=fsc
abbrev iC:List Str:=["text","row"]
def iD:YD iC (UU .GP) (Bc .GP):=fsc
abbrev iE:List Str:=["word"]
def iF:YD iE (UU .GQ) (Bc .GQ):=fsc
abbrev iG:List Str:=["word","kind"]
def iH:YD iG (UU .GR) (Bc .GR):=fsc
abbrev iI:List Str:=["_law_text","_law_between","_law_found","_law_word"]
def iJ:YD iI (UU .GS) (Bc .GS):=fsc
abbrev iK:List Str:=["_law_text","_law_many","_law_rows","_law_row"]
def bM:YD iK (UU .GT) (Bc .GT):=fsc
def bN:DE:=oA (oI v1 c2) (oI v1 c3)
def bO:DB:=(Aj (ZC Kg (ZC Cg .FO (dC (.int 2))) (dC (.str "sea"))))
def iL:DS:=XC (XA Dp (d1 (Ae (Bk (Br .GL (d2 .Ag v1)) 2 [] .LF bO bN))))
def Vk:FN:=Ah 2 0 iL
def bP:DE:=XA Dp .Au
def iM:DS:=Ac (VJ v0 (Am 2 .KB)) (XC (oA (XA Dp .A6) (XA Dp (d1 (Ae (Bk (Bl v2) 1 [] g0 Ai bP))))))
def R4:FN:=Ah 1 2 iM
def bQ:DE:=XA Dp .Au
def bR:DE:=oI v0 c1
def Zm:DE:=XA Dp (d1 (Ae (Bk .B2 1 [] g0 Ai bR)))
def bS:DE:=XA Vk (d2 v1 v0)
def iN:DS:=sL 5 (XA Dp (d1 (Ae (Bk (Bl v2) 1 [] g0 Ai bQ)))) (sL 6 (XA Dp (d1 (Ae (Bk .H8 1 [] g0 Ai Zm)))) (XC (XA Ba (Bg (XA R4 .A6) (d4 v5 v6 (XA Dp (d1 (Ae (Bk .H8 1 [0] g0 Ai bS)))) (XA R4 .FP))))))
def Ym:FN:=Ah 5 2 iN
def iO:DE:=XA Fb .Au
def iP:DS:=XC (De Hb v1 (d1 (Ae (Bk .B2 1 [] g0 Ai iO))))
def Sy:FN:=Ah 2 0 iP
def iQ:DS:=sL 1 (XA Ym (Bg (Bt "Desk" v0 "house") (d4 (Bt "Desk" v0 "state_at_begin") (Bt "Desk" v0 "floods") (Bt "Desk" v0 "pages") (Bt "Desk" v0 "state")))) (XC (XA Sy (d2 v1 (cS " "))))
def Ot:FN:=Ah 1 1 iQ
def bT:DS:=Ac (Du "Desk" v0 (Bt "Desk" v0 "state") "state_at_begin") (Ac (Du "Desk" v0 .AO "state_ahead") (Ac (Du "Desk" v0 .JU "floods") (Du "Desk" v0 .JU "pages")))
def Jh:FN:=Ah 1 0 bT
def R0:DS:=sC (oE .Hc v1) .Ed
def iR:DS:=Ac (Bw (Br Hf .KK) .LJ R0) Cu
def Qt:FN:=Ah 2 2 iR
def Yk:DS:=sL 4 (dIf (Aj (oE .EU (cS "basin"))) (oI v3 c4) c0) (WL (Dl (Aj (Hl Dz Dz c0 (oI v1 v2) v4))) Cu VN)
def iS:DE:=dC (.tup [.int 0,.int 0,.int 0,.int 0,.int 0])
def iT:DS:=Ac (Bw (Br Hf .KK) .LJ Yk) (XC (XA Ba (d2 (XA Dg .A6) (XA Dg (d1 (Ae (Bk .H9 1 [] g0 Ai iS)))))))
def U6:FN:=Ah 2 3 iT
def iU:DS:=Ac (VJ v1 (Px 2 .Jk)) (sL 4 (XA Qt (d2 (Bt "Desk" v0 "house") v2)) (Ac (VJ (Bt "Desk" v0 "state") (Am 2 .Jz)) (sL 7 (XA U6 (d2 (Bt "Desk" v0 "house") (Ae (ZC Ly (Ae (ZC Ly (Ae (ZY v5 u8 (u7 v4))) (XA Ba .CC))) (Ae (ZY v5 (u7 (ZC Ly v4 c1)) u8)))))) (Ac (Du "Desk" v0 (XA Ba (d2 (oI v7 c0) v6)) "state") (Ac (ZN (Cy "Desk" "begin_books" Jh v0 Bp)) (XC (cS "ok")))))))
def Q0:FN:=Ah 2 6 iU
def bU:DE:=XA Sy (d2 v0 (cS " "))
def iV:DS:=XC (De Hb (cS " | ") (d1 (Ae (Bk .B2 1 [] g0 Ai bU))))
def Wg:FN:=Ah 1 0 iV
def bV:DE:=oA v0 .Ck
def Vb:DE:=Cq (oA (Ae (XA Nv (d1 (Ae .Ko)))) (Ae (XA Aq (d1 c0))))
def iW:DS:=Ac (VJ v2 (Am 2 .Jz)) (Ac (Du "Course" v0 v1 "house") (Ac (Du "Course" v0 v5 "levels") (Ac (Du "Course" v0 (oM v3 .Ck) "year_turn") (Ac (Du "Course" v0 (Bk (Br .GL (d2 v4 v6)) 2 [] .LF Ai bV) "came") (Ac (Du "Course" v0 (Bk (Bl v6) 1 [] g0 Ai Vb) "coming") (Ac (Du "Course" v0 (Cq (ZC Jk (XA Aq (d1 .AO)) (XA Be .IB))) "page") (Du "Course" v0 .JU "reaches")))))))
def Rg:FN:=Ah 5 2 iW
def iX:DS:=WL (Aj (oE v2 c0)) (Ms (Bt "Course" v0 "came") v1 v3 K5) (Ms (oI (Bt "Course" v0 "coming") v1) (oS v2 c1) v3 K5)
def Ue:FN:=Ah 4 0 iX
def iY:DS:=sL 2 (oI (oI .Ag v1) c2) (Ac (sC (oE v2 (cS "sea")) .JW) (XC (XA Qt .Fo)))
def Tz:FN:=Ah 2 1 iY
def iZ:DS:=sL 3 (XA Tz (d2 (Bt "Course" v0 "house") v1)) (sC .Kp (ZN (Cy "Course" "send" Ue v0 (d3 v3 (oI (oI (oI (Bt "Course" v0 "house") c1) v1) c3) v2))))
def R7:FN:=Ah 3 1 iZ
def Ze:DS:=sL 7 (XA Tt (d2 c0 (XA Jp (d2 v5 (oS v1 v4))))) (WL (Aj (oE v6 (cS "river"))) (X2 2 v7 K5) (X2 3 v7 K5))
def i3:DS:=sL 2 c0 (sL 3 c0 (Ac (Bw .B2 .Lm Ze) (XC (XA Ba (d3 v2 v3 (oS (oS v1 v2) v3))))))
def Yg:FN:=Ah 2 6 i3
def Ws:DS:=sC (ZC Dz v3 v1) (VJ v4 g2)
def i8:DS:=sL 2 (XA Ba Bp) (Ac (Bw .B2 .LK Ws) .Ed)
def Xr:FN:=Ah 2 3 i8
def ic:DS:=sL 2 (oI (oI (Bt "Course" v0 "house") c1) v1) (sL 3 (oI (Bt "Course" v0 "came") v1) (Ac (VJ (XA Yg (d2 (XA Xr (d2 (oI v2 c5) (Bt "Course" v0 "year_turn"))) (oA (oI (Bt "Course" v0 "levels") v1) v3))) .Lm) (sL 7 (XA Jp (d2 v6 (oI v2 c4))) (sL 8 (oS v6 v7) (Ac (VJ (XA Ba (Bg v3 (Bg c0 (d4 v8 v4 v5 v7)))) (Y1 (Bt "Course" v0 "page") v1)) (Ac (ZN (Cy "Course" "send_down" R7 v0 (d2 v1 (oA v4 v8)))) (sC (ZC Kr .Hd .AO) (ZN (Cy "Course" "send" Ue v0 (d3 (XA Qt (d2 (Bt "Course" v0 "house") (oI .Hd c0))) (oI .Hd c1) v5))))))))))
def Uw:FN:=Ah 2 7 ic
def bW:DE:=oS .Ag v1
def Qj:DS:=sC (ZC Kr .EU .AO) (Ms v2 .EU .He K5)
def ig:DS:=sL 2 (Bk (Br .GL .CF) 2 [] .LF Ai bW) (Ac (Bw (Br Hf .Au) (Am 2 (Ab g4 .DA)) Qj) .Ed)
def Q7:FN:=Ah 2 3 ig
def ii:DS:=sL 2 .Ag (sL 3 (XA Tz .CF) (Ac (WL (UW (Aj .Kq) (Aj (oG (oI .EW c3) c0))) .JW VN) (Ac (WL (UW (Aj (oE (oI .EW c0) (cS "basin"))) (Aj (oE (oI (oI v2 v3) c0) (cS "basin")))) .JW VN) .Gg)))
def T4:FN:=Ah 2 2 ii
def Rw:DS:=sL 5 (oI .Ag v4) (sL 6 (XA T4 (d2 v0 v4)) (sL 7 (dIf (Aj .Kr) .AO (Do O1 v1 (d1 v6))) (WL (Aj (oE (oI v5 c0) (cS "town"))) (ZN (Do Dy v3 (d1 (XA Ba (d4 v7 .He (oI v5 c4) (oI v5 c5)))))) (ZN (Do Dy v3 (d1 (XA Ba (d4 v7 .He c0 c0))))))))
def ij:DS:=sL 3 .JU (Ac (Bw .H9 g4 Rw) .Gg)
def Wu:FN:=Ah 3 5 ij
def Zv:DE:=XA Ba (d2 (oI v1 c3) v0)
def bX:DE:=v1
def ik:DS:=sL 1 (Ae (XA Ov (d1 (Ae (Bk (Br Hf .Au) 2 [] .LF Ai Zv))))) (XC (Bk .H9 2 [] .LF Ai bX))
def Wt:FN:=Ah 1 1 ik
def Ul:DS:=Ac (ZN (Do Dy v2 .CC)) (VJ (oI (oI v0 v3) c0) g3)
def Oi:DB:=(Aj (ZC Kr .EG .AO))
def il:DS:=sL 2 (Cq (XA Aq .A6)) (sL 3 (oI (oI v0 v1) c0) (Ac (ZZ Oi Ul fuel) .Ed))
def Vh:FN:=Ah 2 2 il
def Zu:DE:=oI v1 v0
def W2:DS:=Ms v2 v6 v5 Oz
def Rb:DS:=sL 4 (Ae (XA Vh (d2 v0 v3))) (sL 5 (XA Jp (d2 (oI (oI v0 v3) c2) (XA Kp (d1 (Ae (Bk (Bl v4) 1 [2] g0 Ai Zu)))))) (Ac (VJ v5 (Y1 v1 v3)) (Bw (Bl v4) g6 W2)))
def io:DS:=sL 1 (Cq (ZC Jk (XA Aq (d1 c0)) .Jl)) (sL 2 (Cq (XA Q7 .CF)) (Ac (Bw (Bl (Ae (XA Wt .Au))) g3 Rb) (XC v1)))
def Xl:FN:=Ah 1 6 io
def Mj:DS:=Ac (VJ (XA Ba (Bg (oA v5 v6) (Bg v5 (d4 c0 v6 c0 c0)))) (Y1 (Bt "Course" v0 "page") v4)) (sC (oE v4 (oI v1 .FA)) (ZN (Cy "Course" "send_down" R7 v0 (d2 v4 v6))))
def ip:DS:=sL 2 (Ae (XA Wu (d3 (Bt "Course" v0 "house") v1 (Bt "Course" v0 "came")))) (sL 3 (Ae (XA Xl .BV)) (Ac (Bw (Br (Fy 3) (d3 v1 v3 (Ae (XA Q7 (d2 v2 v3))))) .Lm Mj) (ZN (Do Dy (Bt "Course" v0 "reaches") (d1 (Cq (XA Ba (d2 v1 v2))))))))
def Y8:FN:=Ah 2 5 ip
def V5:DS:=sL 3 (XA T4 .Fo) (sC .Kp (VJ .Hf (Y1 v1 v2)))
def iq:DS:=sL 1 (Cq (Ya (d1 .LS))) (Ac (Bw (Br WZ (d3 (oS .LS c1) .FA .FA)) g2 V5) (XC v1))
def Yc:FN:=Ah 1 3 iq
def Vf:DE:=v0
def Tj:DB:=(Aj (ZC Kg .Hg .Et))
def Qq:DS:=WL (Aj (oE (oI (oI (oI (Bt "Course" v0 "house") c1) v2) c0) (cS "basin"))) (ZN (Cy "Course" "go_basin" Uw v0 .BV)) (sC (oE v3 v2) (ZN (Cy "Course" "go_reach" Y8 v0 (d1 (Ae (Bk (Br Hf .A6) 2 [2] .LF Tj Vf))))))
def ir:DS:=sL 1 (Ae (XA Yc (d1 (Bt "Course" v0 "house")))) (Bw (Br Hf .A6) .LJ Qq)
def Xd:FN:=Ah 1 3 ir
def Yy:DE:=oI v0 c5
def X8:DE:=XA Dg .Au
def iu:DS:=XC (XA Ba (d2 (XA Dg (d1 (Ae (Bk (Bl (Bt "Course" v0 "page")) 1 [] g0 Ai Yy)))) (XA Dg (d1 (Ae (Bk (Bl (Bt "Course" v0 "coming")) 1 [] g0 Ai X8))))))
def X5:FN:=Ah 1 0 iu
def iw:DS:=sL 4 (O2 "Course" Rg (d4 v0 v1 v2 v3)) (Ac (ZN (Cy "Course" "go" Xd v4 Bp)) (XC (XA Ba (d2 (XA Dg (d1 (Bt "Course" v4 "page"))) (Cy "Course" "state_behind" X5 v4 Bp)))))
def Z9:FN:=Ah 4 1 iw
def ix:DS:=sL 2 .Ck (Ac (VJ (XA Z9 (d4 (Bt "Desk" v0 "house") (Bt "Desk" v0 "state") (Bt "Desk" v0 "at") v2)) .LK) (Ac (Du "Desk" v0 (Bt "Desk" v0 "state") "state_ahead") (Ac (Du "Desk" v0 v4 "state") (Ac (R8 "Desk" v0 c1 "at" K5) (Ac (ZN (Do Dy (Bt "Desk" v0 "floods") (d1 (Cq v2)))) (Ac (ZN (Do Dy (Bt "Desk" v0 "pages") (d1 (Cq v3)))) (XC (XA Wg .CC))))))))
def Q4:FN:=Ah 2 3 ix
def W8:DS:=Ac (sC (oE v1 (cS "show")) Cu) (Ac (sC (oE v1 (cS "fill")) (XC (Cy "Desk" "say_fill" Q0 v0 .BV))) (Ac (sC (oE v1 (cS "turn")) (XC (Cy "Desk" "say_turn" Q4 v0 .BV))) (Ac (sC (oE v1 (cS "books")) (XC (Cy "Desk" "say_books" Ot v0 Bp))) (Ac (sC (oE v1 (cS "rights")) Cu) (Ac (sC (oE v1 (cS "look")) Cu) Cu)))))
def Kl:FN:=Ah 3 0 W8
def Yj:DE:=ZC Fd v0 (cS "abcdefghijklmnopqrstuvwxyz")
def iy:DS:=Ac (WL (UW (Aj (oE v0 (cS "sea"))) (Dl (Aj (Hl Dz Dz c1 .Jl (cI 8))))) .LD VN) (XC (XA Ir (d1 (Ae (Bk .B2 1 [] g0 Ai Yj)))))
def Xw:FN:=Ah 1 0 iy
def jl:DS:=Ac (sC (ZC Fl v0 .AO) .LN) (XC (Nx (ZC Fd .BB v1) (Hl Dz Dz c1 .Ag c5)))
def We:FN:=Ah 2 0 jl
def jm:DS:=XC (Nx (Ui (oE .CG (cS "sea")) (ZC Fd .CG v1)) (Hl Dz Dz c0 (oI v0 c3) c5))
def Zb:FN:=Ah 2 0 jm
def Uz:DS:=Ac (WL (Dl (Aj (Hl Nb Nb v2 v3 v1))) .LD VN) (VJ v3 g2)
def jn:DS:=Ac (WL (UW (Aj (oE .Jl c0)) (Aj (ZC Ed (oI .BB c0) c0))) .LD VN) (sL 2 .FA (Ac (Bw .B2 .LK Uz) .LN))
def U7:FN:=Ah 2 3 jn
def Wb:DS:=Ac (WL (UW (Aj (oL v2 v1)) (Aj (oL v3 c1))) .LD VN) (VJ (oA v2 v3) g1)
def jo:DS:=sL 1 c0 (Ac (Bw .B2 .Ln Wb) .LN)
def Ql:FN:=Ah 1 4 jo
def bY:DE:=v1
def bZ:DB:=(Aj (ZC Kg .Et (dC (.str "pump"))))
def b0:DS:=sL 2 (Ae (Bk .B2 3 [] (Am 3 (Ab g0 .KB)) bZ bY)) (Ac (sC (ZC Fl v1 .AO) (XC (oE .JP c0))) (XC (ZC Dz (XA Dp .BV) (oI v1 c2))))
def Mp:FN:=Ah 2 1 b0
def Z2:DS:=WL (UW (Dl (Aj (XA Ql .FP))) (Dl (Aj (XA Mp .Hh)))) .LD VN
def jp:DS:=Ac (WL (Dl (Aj (XA U7 .Fo))) .LD VN) (Ac (Bw .B2 .LK Z2) .LN)
def Ve:FN:=Ah 3 2 jp
def jr:DS:=Ac (sC (oE .BB (cS "town")) (XC (XA Aq (d2 .EX .Hi)))) (Ac (sC (oE .BB (cS "mill")) (XC (XA Aq .K2))) (Ac (sC (ZC Fl .Dn .AO) (XC (XA Aq .K2))) (XC (XA Aq (d2 .EX (oI .Dn c2))))))
def Wc:FN:=Ah 1 0 jr
def ba:DE:=oI v0 c1
def js:DE:=oI v0 c1
def Yd:DS:=sC (oE .EU (cS "basin")) (Ac (WL (Dl (Aj (XA We (d2 (oI v3 c6) (oA v4 v5))))) Cu VN) (WL (Dl (Aj (XA Ve (d3 (oI v3 c5) (oI v3 c6) .BB)))) Cu VN))
def jt:DS:=Ac (sC (oL (XA Kp (d1 (Ae (XA Wc .CC)))) c0) Cu) Yd
def ju:DS:=Ac (WL (Dl (Aj (XA Zb (d2 v3 v5)))) Cu VN) jt
def kA:DS:=Ac (WL (UW (Dl (Aj (XA Xw (d1 .Hc)))) (Aj (ZC Fd .Hc v4))) Cu VN) ju
def kB:DS:=sL 5 (Ae (Bk (Bl (Ae (ZY v2 (u7 .EY) u8))) 1 [] g0 Ai js)) kA
def kC:DS:=sL 4 (Ae (Bk (Bl (Ae (ZY v2 u8 (u7 v1)))) 1 [] g0 Ai ba)) kB
def kD:DS:=sL 3 .EW kC
def kE:DS:=sL 2 .Ag kD
def N5:FN:=Ah 2 4 kE
def Uc:DS:=ZN (XA N5 .Fo)
def kF:DS:=sL 1 .Ag (Ac (WL (UW (Dl (Aj (Hl Dz Dz c1 .BB (cI 24)))) (Dl (Aj (Hl Dz Dz c1 .J1 (cI 12))))) Cu VN) (Ac (Bw .Li g2 Uc) (XC v0)))
def Qu:FN:=Ah 1 2 kF
def bc:DE:=ZC Fd v0 (cS "0123456789")
def kG:DS:=Ac (WL (UW (Dl (Aj (Hl Dz Dz c1 .Jl (cI 40)))) (Dl (Aj (XA Ir (d1 (Ae (Bk .B2 1 [] g0 Ai bc))))))) .LD VN) (XC (Ui (oE v0 (cS "0")) (Wn (De N7 v0 (d1 (cS "0"))))))
def T9:FN:=Ah 1 0 kG
def kH:DS:=Ac (WL (Dl (Aj (XA T9 .Au))) Cu VN) (XC (XA Kc .Au))
def Iz:FN:=Ah 2 0 kH
def Vp:DE:=ZC Fd v0 (cS "abcdefghijklmnopqrstuvwxyz")
def kI:DS:=Ac (WL (UW (Aj (oE v0 (cS ""))) (Dl (Aj (XA Ir (d1 (Ae (Bk .B2 1 [] g0 Ai Vp))))))) Cu VN) (XC v0)
def Mq:FN:=Ah 2 0 kI
def be:DS:=Ac (sC (oE v0 (cS "none")) .JW) (sL 2 (Ae (De Eh v0 (d1 (cS ",")))) (Ac (sC (ZC Ed .JP c3) Cu) (XC (XA Ba (d3 (XA Mq (d2 (oI v2 c0) v1)) (XA Iz (d2 .Hj v1)) (XA Iz (d2 (oI v2 c2) v1)))))))
def Sx:FN:=Ah 2 1 be
def kJ:DS:=Ac (VJ (De Ky v0 (d1 (cS "+"))) .Ln) (Ac (VJ (De Ky v4 (d1 (cS " "))) (Am 3 (Ab g5 (Ab g6 (Ab g7 An))))) (Ac (sC (ZC Kv v7 (dC (.tup [.str "river",.str "pump"]))) Cu) (XC (XA Ba (d3 (XA Iz (d2 v2 v1)) (XA Iz (d2 v5 v1)) v7)))))
def Yt:FN:=Ah 2 6 kJ
def bf:DE:=XA Yt .CF
def bg:DS:=Ac (sC (oE v0 (cS "")) (XC (XA Ba Bp))) (Ac (WL (Dl (Aj (De N7 v0 (d1 (cS " "))))) Cu VN) (XC (XA Dg (d1 (Ae (Bk (Bl (Ae (De Eh (Ae .Ko) (d1 (cS ", "))))) 1 [1] g0 Ai bf))))))
def T8:FN:=Ah 2 0 bg
def kK:DS:=Ac (VJ (De Ky v0 (d1 (cS ":"))) .Ln) (Ac (sC (oE v3 (cS "")) Cu) (XC (XA Ba (d2 (XA Iz (d2 v2 v1)) (XA T8 .Hh)))))
def Vc:FN:=Ah 2 3 kK
def bh:DE:=XA Vc .CF
def kL:DS:=XC (XA Dg (d1 (Ae (Bk (Bl (Ae (De Eh v0 (d1 (cS "; "))))) 1 [1] g0 Ai bh))))
def Wk:FN:=Ah 2 0 kL
def kM:DS:=XC (oA (oA (XA Ba .CC) v10) (XA Ba (d3 (XA Iz (d2 v7 v1)) (XA Wk (d2 v9 v1)) (XA Sx (d2 v8 v1)))))
def kN:DS:=sL 10 (XA Ba (d3 (XA Mq .Hh) (XA Mq (d2 v5 v1)) (XA Iz .Hk))) kM
def kO:DS:=Ac (VJ v2 (Px 7 (Ab g3 (Ab g4 (Ab g5 (Ab g6 (Ab g7 (Ab g8 (Ab g9 An))))))))) kN
def kP:DS:=Ac (sC (ZC Ed .JP (cI 7)) Cu) kO
def kQ:DS:=sL 2 (Ae (De Qd v0 (d2 (cS " ") (oS (cI 7) c1)))) kP
def W3:FN:=Ah 2 9 kQ
def bi:DE:=XA Iz .CF
def kR:DS:=sL 2 (XA Ba (d2 (XA Mq (d2 .Ag v1)) (XA Mq (d2 .CG v1)))) (XC (oA (oA (XA Ba (d1 .BB)) v2) (XA Dg (d1 (Ae (Bk (Bl (Ae (ZY v0 (u7 c3) u8))) 1 [1] g0 Ai bi))))))
def Up:FN:=Ah 2 1 kR
def kT:DS:=sL 3 (Ae (De Eh v0 (d1 (cS " ")))) (Ac (sC (ZC Ed .KC v1) Cu) .Gg)
def Om:FN:=Ah 3 1 kT
def bj:DS:=sL 2 (oI (De Ky v0 (d1 (cS " "))) c0) (Ac (sC (oE v2 (cS "basin")) (XC (XA W3 .CF))) (Ac (sC (oE v2 (cS "town")) (XC (XA Up (d2 (Ae (XA Om (d3 v0 c6 v1))) v1)))) (Ac (sC (oE v2 (cS "mill")) (XC (XA Up (d2 (Ae (XA Om (d3 v0 c5 v1))) v1)))) Cu)))
def Pq:FN:=Ah 2 1 bj
def kU:DS:=sL 1 (Ae (XA Om (d3 v0 c2 c0))) (Ac (sC (ZC Ed .Ck (cS "year")) Cu) (XC (XA Iz (d2 .DB c0))))
def Wf:FN:=Ah 1 1 kU
def Xu:DE:=XA Pq (d2 v1 v0)
def kW:DS:=sL 1 (Ae (De Eh v0 (d1 (cS "\n")))) (sL 2 (XA Wf (d1 .Ck)) (sL 3 (Ae (Bk (T5 (d1 (Ae .Ks)) c1) 2 [] .LF Ai Xu)) (XC (XA Qu (d1 (XA Ba (d2 v2 .KX)))))))
def Rr:FN:=Ah 1 3 kW
def kX:DS:=sL 2 (XA Rr .A6) (Ac (Du "Desk" v0 v2 "house") (Ac (Du "Desk" v0 (XA U6 (d2 v2 (ZC Ub (XA Ba (d1 c0)) (XA Be (d1 .Hj))))) "state") (Ac (Du "Desk" v0 c0 "at") (Ac (ZN (Cy "Desk" "begin_books" Jh v0 Bp)) (XC (cS "ok"))))))
def R5:FN:=Ah 2 1 kX
def Vs:DS:=sC (ZC Ed .JP .LS) Cu
def kY:DS:=Bw .H9 g2 Vs
def Ss:FN:=Ah 2 1 kY
def O5:DS:=WL (Aj (oE v3 (cS "cubes"))) (ZN (XA Ss (d2 v0 (Ae (XA Aq .FP))))) (sC (oE v3 (cS "floods")) (ZN (XA Ss (d2 v0 v4))))
def kZ:DS:=Ac (Bw (Br .GL (d2 (dUn (Nz [("show",[]),("fill",["word","number"]),("turn",["cubes"]),("books",[]),("rights",[]),("look",["word","word","word","number","floods","floods"]),("plan",["floods","floods","cubes"])]) v1) v2)) .LK O5) (WL (Hm (Aj (oE v1 (cS "plan"))) (Aj (ZC Ed (XA Be (d1 (oI v2 c0))) (XA Be (d1 .Hj))))) Cu VN)
def Tf:FN:=Ah 3 2 kZ
def k4:DS:=Ac (WL (Dl (Aj (XA T9 .Au))) Cu VN) (XC (XA Kc .Au))
def Q9:FN:=Ah 1 0 k4
def bo:DE:=XA Q9 .Au
def k6:DS:=XC (XA Dg (d1 (Ae (Bk (Bl (Ae (De Eh v0 (d1 (cS ","))))) 1 [] g0 Ai bo))))
def Ng:FN:=Ah 1 0 k6
def Gc:DE:=XA Ng .Au
def W6:DS:=Ac (sC (oE v1 (cS "number")) (XC (XA Q9 .Au))) (Ac (sC (oE v1 (cS "cubes")) (XC (XA Ng .Au))) (Ac (sC (oE v1 (cS "floods")) (XC (Bk (Bl (Ae (De Eh v0 (d1 (cS "/"))))) 1 [] g0 Ai Gc))) (XC v0)))
def Ks:FN:=Ah 2 0 W6
def Ud:DE:=Ae (XA Ks .CF)
def k7:DS:=sL 1 (Ae (De Eh v0 (d1 (cS " ")))) (Ac (sC (dUn (Q6 [("show",[]),("fill",["word","number"]),("turn",["cubes"]),("books",[]),("rights",[]),("look",["word","word","word","number","floods","floods"]),("plan",["floods","floods","cubes"])]) .Ck) Cu) (sL 2 (dUn (Nz [("show",[]),("fill",["word","number"]),("turn",["cubes"]),("books",[]),("rights",[]),("look",["word","word","word","number","floods","floods"]),("plan",["floods","floods","cubes"])]) .Ck) (Ac (sC (ZC Ed .J1 (oA c1 .JP)) Cu) (XC (XA Ba (d2 .Ck (Ae (Bk (Br .GL (d2 (Ae .Ks) v2)) 2 [] .LF Ai Ud))))))))
def Ri:FN:=Ah 1 2 k7
def bp:DS:=Ac (sC (De N7 v1 (d1 (cS "house\n"))) (XC (Cy "Desk" "say_house" R5 v0 (d1 (Ae (ZY v1 (u7 (XA Be (d1 (cS "house\n")))) u8)))))) (Ac (VJ (Ae (XA Ri .A6)) .LJ) (Ac (sC (ZC Fl (Bt "Desk" v0 "house") .AO) Cu) (Ac (ZN (XA Tf (d3 (Bt "Desk" v0 "house") v2 v3))) (XC (Cy "Desk" "answer" Kl v0 (d2 v2 v3))))))
def Eb:FN:=Ah 2 2 bp
def k8:DS:=Ac (sC (oL v1 .Jl) (XC (oI v0 v1))) (XC c0)
def Fo:FN:=Ah 2 0 k8
def k9:DE:=XA Fb .Au
def ka:DS:=XC (De Hb (cS ",") (d1 (Ae (Bk .B2 1 [] g0 Ai k9))))
def Ph:FN:=Ah 1 0 ka
def kb:DS:=Ac (Du "Desk" v0 .AO "house") (Ac (Du "Desk" v0 .AO "state") (Ac (Du "Desk" v0 c0 "at") (ZN (Cy "Desk" "begin_books" Jh v0 Bp))))
def Rn:FN:=Ah 1 0 kb
def bq:DE:=oA (oA (oA (oA (XA Fb .Au) (cS "+")) (XA Fb .A6)) (cS " ")) v2
def Um:DS:=sL 4 (De Hb (cS ", ") (d1 (Ae (Bk .H8 3 [] (Am 3 (Ab g0 .KB)) Ai bq)))) (Ac (sC (ZC Ed v4 (cS "")) (VJ (oA (cS " ") v4) g4)) (ZN (Do Dy v1 (d1 (oA (oA (XA Fb .BV) (cS ":")) v4)))))
def kc:DS:=sL 1 .JU (Ac (Bw .B2 .LJ Um) (XC (De Hb (cS "; ") .A6)))
def Xp:FN:=Ah 1 4 kc
def kf:DS:=sL 1 (Cq (XA Aq (Bg .BB (d4 .Ag .CG (XA Fb (d1 (oI v0 c3))) (XA Fb .K2))))) (Ac (sC (oE .BB (cS "town")) (ZN (Do Dy v1 (d1 (XA Fb (d1 .Hi)))))) (Ac (sC (oE .BB (cS "basin")) (sL 2 (cS "none") (Ac (sC (ZC Kr .Dn .AO) (VJ (oA (oA (oA (oA (oI .Dn c0) (cS ",")) (XA Fb (d1 (oI .Dn c1)))) (cS ",")) (XA Fb (d1 (oI .Dn c2)))) g2)) (VJ (Cq (oA v1 (Ae (XA Aq (d2 v2 (XA Xp (d1 .Hi))))))) g1)))) (XC (De Hb (cS " ") .A6))))
def Wv:FN:=Ah 1 2 kf
def Yp:DE:=XA Wv .Au
def kg:DS:=XC (De Hb (cS "\n") (d1 (Ae (oA (Ae (XA Aq (d1 (oA (cS "year ") (XA Fb (d1 .BB)))))) (Ae (Bk (Bl .Ag) 1 [] g0 Ai Yp))))))
def Zc:FN:=Ah 1 0 kg
def R6:DS:=sL 4 (oA (oA (oA (cS "fill ") (oI .KD c1)) (cS " ")) (XA Fb (d1 .Hf))) (WL (Hm (Aj (oE .LU (cS "basin"))) (Aj (ZC Ed (Cy "Desk" "say" Eb v2 .FP) (cS "ok")))) .JW VN)
def kh:DS:=sL 2 (O2 "Desk" Rn Bp) (Ac (sC (ZC Ed (Cy "Desk" "say" Eb v2 (d1 (oA (cS "house\n") (XA Zc .Au)))) (cS "ok")) .JW) (Ac (Bw .Li g3 R6) .Ed))
def Sw:FN:=Ah 2 3 kh
def ki:DE:=oA (cS "sea") (oI (cS "fghijk") v0)
def br:DE:=Ae (ZY (cS "aaaaaa") (u7 v0) u8)
def kj:DE:=oA (oI (cS "fghijk") v0) (cS "lake")
def Vx:DS:=sL 2 (oM v0 c3) (Ac (sC (oE v2 c0) (XC (Bk .Jm 1 [] g0 Ai ki))) (Ac (sC (oE v2 c1) (XC (Bk .Jm 1 [] g0 Ai br))) (XC (Bk .Jm 1 [] g0 Ai kj))))
def Mi:FN:=Ah 2 1 Vx
def bt:DS:=XC (oM (oM (oX v0 (cI 48271)) v1) v2)
def Dv:FN:=Ah 3 0 bt
def Q5:DS:=sL 6 (oX (oA c1 (XA Dv (d3 .Hl (cI 10243) c4))) v2) (sL 7 (cS "river") (Ac (WL (Hm (Aj (oG v1 c0)) (Aj (oE (XA Dv (d3 .Hl (cI 10247) c2)) c0))) (sL 7 (cS "pump") (sL 6 (XA Jp .Hk) (VJ (oS v1 v6) g1))) VN) (Ac (ZN (Do Dy v3 (d1 (XA Ba .Im)))) (VJ (oA (oA v4 v6) (oX (XA Dv (d3 .Hl (cI 10253) c3)) v2)) g4))))
def kl:DS:=sL 3 .JU (sL 4 (oX (XA Dv (d3 v0 (cI 10211) c4)) v2) (Ac (Bw (Br XM (d1 (XA Dv (d3 v0 (cI 10223) c4)))) g5 Q5) (XC .KX)))
def Ru:FN:=Ah 3 5 kl
def bu:DS:=sL 4 (Cq (XA Aq (d1 (XA Ba (d2 c0 (XA Ru .Io)))))) (Ac (sC (oG v3 c1) (ZN (Do Dy v4 (d1 (XA Ba (d2 (oS v3 c1) (XA Ru (d3 (oA (oD v0 c3) c1) v1 v2)))))))) (XC (XA Dg .FP)))
def T7:FN:=Ah 4 1 bu
def bv:DS:=XC (oA (oA (XA Ba (d1 (cS "basin"))) v7) (XA Ba (d3 v8 (XA T7 (d4 .CG v11 v3 v4)) v10)))
def bw:DS:=Ac (WL (Hm (Aj (oG v5 c1)) (Aj (oE (XA Dv (d3 .CG (cI 10067) c2)) c0))) (sL 12 (oI v2 (oM (oA .EY (XA Dv (d3 .CG (cI 10069) (oS v5 c1)))) v5)) (sL 11 (oX (XA Dv (d3 .CG (cI 10079) c6)) v3) (VJ (XA Ba (d3 v12 (oI (Ae (XA Aq (Bg c1 (Bg c1 .Eu)))) (XA Dv (d3 .CG (cI 10091) c6))) v11)) g10))) VN) bv
def bx:DS:=sL 11 c0 bw
def bz:DS:=sL 10 .AO bx
def Wy:DS:=Ac (sC (oE v9 c4) (XC (oA (oA (XA Ba (d1 (cS "mill"))) v7) (XA Ba .IC)))) bz
def Pg:DS:=Ac (WL (UW (Aj (oE v9 c2)) (Aj (oE v9 c3))) (XC (oA (oA (XA Ba (d1 (cS "town"))) v7) (XA Ba (d2 v8 (XA Dv (d3 .Ag (cI 10061) c3)))))) VN) Wy
def km:DS:=sL 9 (XA Dv (d3 .BB (cI 10039) c5)) Pg
def kn:DS:=sL 8 (oX (XA Dv (d3 .Ag (cI 10037) (cI 8))) v3) km
def ko:DS:=sL 7 (XA Ba (d3 .EW v6 (oI (Ae (XA Aq (Bg c0 (Bg c0 (Bg c0 (Bg c1 (Bg c1 .Eu))))))) (XA Dv (d3 .BB (cI 10009) (cI 9)))))) kn
def kq:DS:=sL 6 (oI (Ae (oA v2 (Ae (XA Aq (d1 (cS "sea")))))) (oA .EY (XA Dv (d3 .BB (cI 10007) (oS v5 v1))))) ko
def kr:DS:=sL 5 .JP kq
def Oq:FN:=Ah 5 8 kr
def kt:DS:=sL 2 .BB (Ac (VJ (oD v2 v1) (Y1 v0 c0)) (XC (oM v2 v1)))
def Dh:FN:=Ah 2 1 kt
def Qw:DS:=sL 6 (oX (oA c1 .KE) v2) (sL 7 (cS "river") (Ac (WL (Hm .Lj (Aj (oG v1 c0))) (sL 7 (cS "pump") (sL 6 (XA Jp .Hk) (VJ (oS v1 v6) g1))) VN) (Ac (ZN (Do Dy v3 (d1 (XA Ba .Im)))) (VJ (oA (oA v4 v6) (oX .J2 v2)) g4))))
def ku:DS:=sL 3 .JU (sL 4 (oX .KE v2) (Ac (Bw (Br XM (d1 .KE)) g5 Qw) (XC .KX)))
def Lp:FN:=Ah 3 5 ku
def cA:DS:=XC (oA v7 (XA Ba (d3 v8 (XA Dg (d1 v12)) v9)))
def cB:DS:=Ac (WL (Hm .Lj (Aj (oG v4 c1))) (ZN (Do Dy v12 (d1 (XA Ba (d2 (oA c1 (XA Dh (d2 v0 (oS v4 c1)))) (XA Lp .ID)))))) VN) cA
def Z0:DS:=sL 12 (Cq (XA Aq (d1 (XA Ba (d2 c0 (XA Lp .ID)))))) cB
def cC:DS:=Ac (WL (Hm .Lj (Aj (oG .JP c1))) (sL 11 (oI v2 (oM (oA .EY (XA Dh (d2 v0 (oS .JP c1)))) .JP)) (sL 10 (oX (XA Dh (d2 v0 c6)) v3) (VJ (XA Ba (d3 v11 (oA c1 (XA Dh (d2 v0 c5))) v10)) g9))) VN) Z0
def cD:DS:=sL 10 c0 cC
def Zq:DS:=sL 9 .AO cD
def Vq:DS:=Ac (sC (oE v5 (cS "mill")) (XC (oA v7 (XA Ba .IC)))) Zq
def Ol:DS:=Ac (sC (oE v5 (cS "town")) (XC (oA v7 (XA Ba (d2 v8 .J2))))) Vq
def kv:DS:=sL 8 (oX (XA Dh (d2 v0 (cI 8))) v3) Ol
def ky:DS:=sL 7 (XA Ba (d4 v5 .EW v6 (XA Dh (d2 v0 c6)))) kv
def lC:DS:=sL 6 (oI (Ae (oA v2 (Ae (XA Aq (d1 (cS "sea")))))) (oA .EY (XA Dh (d2 v0 (oS .JP v1))))) ky
def lD:DS:=sL 5 (oI (Ae (XA Aq (d4 (cS "basin") (cS "basin") (cS "town") (cS "mill")))) .KE) lC
def Oe:FN:=Ah 5 8 lD
def Ml:DS:=sL 7 (Do Pk v5 (d1 (XA Dh (d2 v0 (XA Be .IB))))) (sL 8 (oA (oI (Ae (XA Aq (d3 (cS "") (cS "none") (cS "sea")))) .J2) (oX v7 (oA c1 .J2))) (Ac (WL (Hm (Aj (oE (Ae (ZY v8 u8 (u7 c4))) (cS "none"))) (Hm (Aj (ZC Kv (cS "none") v4)) .Lj)) (VJ (cS "none") g8) VN) (ZN (Do Dy v4 .IC))))
def Te:DE:=Ae (XA Oe (Bg v1 (d4 v0 v4 v2 v3)))
def lH:DS:=XC (XA Ba (d2 v3 (XA Dg (d1 (Ae (Bk .Jm 1 [0,2,3,4] g0 Ai Te))))))
def lJ:DS:=Ac (Bw .Jm g6 Ml) lH
def lK:DS:=sL 5 (Cq (XA Nv (d1 (cS "abcdefghijklmnopqrstuvwxyz")))) lJ
def lL:DS:=sL 4 .JU lK
def lM:DS:=sL 3 (oA c1 .J2) lL
def U9:FN:=Ah 3 6 lM
def cE:DE:=XA Fo (d2 v1 (oA (oA c4 (oX c3 v2)) v0))
def Va:DS:=Ac (VJ (Ae (Bk (Br XM (d1 c3)) 1 [0,6] g0 Ai cE)) g7) (ZN (Do Dy v5 (d1 (Ae (XA Oq (Bg v7 (d4 v6 v3 v2 v4)))))))
def lO:DS:=XC (XA Ba (d2 v4 (XA Dg .IB)))
def lP:DS:=Ac (Bw .Jm g6 Va) lO
def lQ:DS:=sL 5 .JU lP
def lR:DS:=sL 4 (oA c1 (oM (oD (XA Fo (d2 v0 c1)) c3) c3)) lQ
def cF:DS:=sL 3 (Ae (XA Mi (d2 (XA Fo (d2 v0 c1)) v1))) lR
def cG:DS:=Ac (WL (Dl (Aj (Hl Dz Nb c0 (XA Fo .Do) (oP (cI 10) (cI 18))))) (XC (XA U9 (d3 (Cq (XA Aq (d1 (XA Fo .Do)))) v1 v2))) VN) cF
def Qv:FN:=Ah 3 5 cG
def lT:DS:=sL 1 (XA Fo (d2 v0 c0)) (sL 2 (oI (Ae (XA Aq (d4 c1 c1 (oA (oP (cI 10) (cI 9)) (cI 7)) (oP (cI 10) (cI 30))))) (oM (oD v1 c5) c4)) (XC (XA Ba (d2 (XA Qv (d3 v0 (oA c1 (oM v1 c5)) v2)) v2))))
def Z7:FN:=Ah 1 2 lT
def lU:DS:=XC (oA (oX (XA Dv (d3 v0 (cI 10103) (cI 8))) v1) (XA Dv (d3 v0 (cI 10133) c3)))
def Xf:FN:=Ah 2 0 lU
def Wa:DE:=XA Xf .CF
def Ra:DS:=ZN (Do Dy v5 (d1 (Ae (Bk (Bl (Ae (ZY v4 (u7 (oX v6 v2)) (u7 (oA (oX v6 v2) v2))))) 1 [3] g0 Ai Wa))))
def lV:DS:=sL 4 (Ae (ZY v0 (u7 v1) (u7 (cI 63)))) (sL 5 .JU (Ac (Bw (Br XM (d1 (oD (XA Be .FP) v2))) g6 Ra) (XC v5)))
def Xb:FN:=Ah 4 3 lV
def Ro:DS:=sL 6 c0 (Ac (sC (oE (oI (oI .DB v5) c0) (cS "basin")) (VJ (XA Jp (d2 (oI (oI .DB v5) c4) (oA (oI v2 v5) (oX (XA Dv (d3 (oA (XA Fo .DC) v5) (cI 10177) c3)) v3)))) g6)) (ZN (Do Dy v4 (d1 v6))))
def lW:DS:=sL 4 .JU (Ac (Bw (Br XM (d1 .JP)) g5 Ro) (XC v4))
def W5:FN:=Ah 4 3 lW
def Sd:DS:=sL 5 c0 (Ac (sC (oE (oI (oI .DB v4) c0) (cS "basin")) (VJ (XA Jp (d2 (oI (oI .DB v4) c4) (oX (XA Dv (d3 (oA (XA Fo .EZ) (oX v4 v4)) (cI 10093) (cI 9))) v2))) g5)) (ZN (Do Dy v3 .IB)))
def lX:DS:=sL 3 .JU (Ac (Bw (Br XM (d1 (XA Be (d1 .DB)))) g4 Sd) .Gg)
def Vz:FN:=Ah 3 3 lX
def T3:DS:=sL 5 (XA Dv (d3 (oA v1 (oX v4 v4)) (cI 10193) c5)) (ZN (Do Dy v3 (d1 (oA (oI v0 v4) (oI (Ae (XA Aq (Bg c0 (d4 c0 c1 v2 (oX c2 v2))))) v5)))))
def lY:DS:=sL 3 .JU (Ac (Bw (Br XM (d1 .Jl)) g4 T3) .Gg)
def Xv:FN:=Ah 3 3 lY
def P0:DS:=sC (oL (oI (oI v2 v3) v5) (oI .Hf v5)) .LD
def Mv:DS:=sL 4 (Ae .BA) (Ac (sC (oE .LU (cS "basin")) (VJ (Ae (XA Aq .Eu)) g4)) (Ac (sC (oE .LU (cS "town")) (VJ (Ae (XA Aq (d1 c1))) g4)) (Bw (Bl v4) g5 P0)))
def lZ:DS:=Ac (Bw .Li g3 Mv) .LN
def W7:FN:=Ah 3 3 lZ
def l0:DE:=ZC Fd v0 (cS "0123456789")
def Rv:DS:=Ac (WL (UW (Aj (oE v3 (cS ""))) (Aj (oG .KC (cI 60)))) .JW VN) (Ac (WL (Dl (Aj (XA Ir (d1 (Ae (Bk .H8 1 [] g0 Ai l0)))))) .JW VN) (Ac (WL (Hm (Aj (oG .KC c1)) (Aj (oE .EU (cS "0")))) .JW VN) (ZN (Do Dy v2 (d1 (XA Kc .CC))))))
def l4:DS:=sL 2 .JU (Ac (Bw (Bl (Ae (De Eh v0 .A6))) g3 Rv) .Ed)
def Od:FN:=Ah 2 2 l4
def Vo:DE:=Ae (XA Od (d2 v0 (cS " ")))
def Wz:DS:=WL (UW (Aj .Kq) (Aj (ZC Ed .KC c6))) .JW VN
def l5:DS:=Ac (WL (Dl (Aj (XA Q8 (d2 v0 (dC (.ty "str")))))) .JW VN) (sL 2 (Ae (Bk (Bl (Ae (De Eh v0 (d1 (cS " | "))))) 1 [] g0 Ai Vo)) (Ac (sC (ZC Ed .JP v1) .JW) (Ac (Bw (Bl v2) g3 Wz) .Ed)))
def Qo:FN:=Ah 2 2 l5
def Vv:DS:=sL 7 (oA (oA v7 c1) (oM (oI v8 c0) (cI 1000))) (sL 9 (Ae (XA Qo (d2 (Cy "Desk" "say" Eb v5 (d1 (oA (cS "turn ") (XA Ph .IC)))) v3))) (sL 10 (Ae (XA Qo (d2 (Cy "Desk" "say" Eb v6 (d1 (oA (cS "turn ") (XA Ph (d1 (Ae (XA Xv (d3 v8 v7 v2)))))))) v3))) (WL (UW (Aj (ZC Fl v9 .AO)) (UW (Aj (ZC Fl v10 .AO)) (Dl (Aj (XA W7 (d3 v1 v9 v10)))))) .LD VN)))
def l6:DS:=XC (Nx (ZC Dz (oI v11 c2) (oI v12 c2)) (Nx (ZC Dz (oI v11 c3) (oI v12 c3)) (ZC Dz (oI v11 c4) (oI v12 c4))))
def l7:DS:=Ac (WL (UW (Aj (ZC Ed (oA (oI v11 c0) (oI v11 c1)) (oA (oA (oI v11 c2) (oI v11 c3)) (oI v11 c4)))) (Aj (ZC Ed (oA (oI v12 c0) (oI v12 c1)) (oA (oA (oI v12 c2) (oI v12 c3)) (oI v12 c4))))) .LD VN) l6
def l8:DS:=Ac (WL (UW (Aj (ZC Fl v11 .AO)) (UW (Aj (ZC Fl v12 .AO)) (UW (Aj (ZC Ed (XA Be (d1 v11)) c5)) (Aj (ZC Ed (XA Be (d1 v12)) c5))))) .LD VN) l7
def l9:DS:=sL 12 (Ae (XA Od (d2 (Cy "Desk" "say" Eb v6 (d1 (cS "books"))) (cS " ")))) l8
def lc:DS:=sL 11 (Ae (XA Od (d2 (Cy "Desk" "say" Eb v5 (d1 (cS "books"))) (cS " ")))) l9
def lg:DS:=Ac (Bw (Bl (Ae (XA Xb (d4 v0 (cI 19) v3 v2)))) g8 Vv) lc
def lh:DS:=sL 7 (XA Fo .DC) lg
def lj:DS:=Ac (WL (UW (Aj (ZC Fl v5 .AO)) (Aj .Kr)) .LD VN) lh
def lm:DS:=sL 6 (XA Sw (d2 v1 (Ae (XA W5 (d4 v0 v1 v4 v2))))) lj
def lq:DS:=sL 5 (XA Sw (d2 v1 v4)) lm
def lu:DS:=sL 4 (Ae (XA Vz .Io)) lq
def lw:DS:=sL 3 (XA Be (d1 .DB)) lu
def lx:DS:=Ac (VJ (Ae (XA Z7 .Au)) (Am 2 .KB)) lw
def Np:FN:=Ah 1 12 lx
def Holds:Prop:=∀ns:List Int,ns.length<=63->∃G,Np [.fl .A2] []=.ok .Ab G
seal QE QT QA QS YZ QG U2 QI U1 QW QO
structure Txt (U:Ev):Prop extends Gx body exs U where
 cH:TupG U.K U.mg "WAYS" ["river","pump"]
 S6:T? U.K U.mg "FORMS" [("show",[]),("fill",["word","number"]),("turn",["cubes"]),("books",[]),("rights",[]),("look",["word","word","word","number","floods","floods"]),("plan",["floods","floods","cubes"])]
 cJ:TupI U.K U.mg "NOTHING_ON_ITS_WAY" [0,0,0,0,0]
section
seal Hm Nx dC Hl Bk Bg Bt XA Ae dIf Ya O2 Cy Do De Bp Dl Wn ZC UW Ui ZY Cq Aj dUn dV Ir Kc Q8 Be Nv Tt Jp Kp Ov Fb Dp Dg Ab Y1 Px An Am gV T5 Hf Br Bl Fy Dy O1 Hb Ky Pk Eh Qd N7 Dw Ly Jx Kg Nz Q6 Uu Fd Fl Kr Cg Dz Nb Rm Fw Ed Ob Kv Uk Jk Ub Oz XM WZ VJ X2 Ms Cu ZN R8 Du Bw WL VN XC Ac ZZ
local macro_rules|`(tactic|trivial)=>`(tactic|first|refine' (_:String)|refine' (_:Str)|refine' (_:xB))
local macro_rules|`(tactic|trivial)=>pure (wR "QS _ _|_ (VJ (Ae _) _):-fY ?|(Stmt.Assign (List.cons (Expr.Name .) List.nil) (Expr.ListComp .) .) _:-GG _ nd ? L ? l l|(Stmt.Assign (List.cons (Expr.Name .) List.nil) .) (VJ _ (gV _)):-Jf _ nd ?|_ (ZN _):-A1 ?|_ (VJ _ _):-Qi ? ?|_ (Du _ _ _ _):-EF ? ? ? ? ?|_ (Bw _ _ _):-My PassesOwn.never rfl ? ? ?|_ (Ms _ _ _ _):-DV ? ? ? ?|_ (X2 _ _ _):-A6 _ nd ? ?|_ (ZZ _ _ _):-BC fuel PassesOwn.never ? ?|@Gf,@Cm#QE _ _|_ (dV _):.Cp _|(Expr.Subscript .) (ZC _ _ _):-eX ? ? ?|(Expr.Compare .) _:-O9 ? ? ? (XZ _)|(Expr.Call (Expr.Name .) .) (XA _ _):<Nm ? rfl ? ? ?,<Rk ? rfl ? ? ?,^GR ($ T) hr ?^Go HA HB HC HD HF HI HJ HK HL HM HN HP HQ HR HS HU HV HW HX HY HZ H0 He IA IC ID IE IF IG IH II IJ IK IL IM IP IQ IR IS IT IU IV IW IX IY IZ Ic Iq Iy JA JB JC JD JE JF JG JH JI JK JL JM JN JO JP JQ JR JS JT JU JV JW JX|_ (Do _ _ _):-BN ? ? ? ? ?|_ (Bt _ _ _):-EE ? ? ? ?|(Expr.Name .) (dC (D.ty .)):-B6 rfl ? ?|_ (ZY _ _ _):-C1 ? ? ?|_ (Ya _):-EL rfl rfl ? rfl ? ?|_ (Bk _ _ _ _ _ _):-GF ? L ? l l|(Expr.Name .) (dC _):<GI rfl ?,<GJ rfl ?|(Expr.Call _ (List.cons .) .) (Cy _ _ _ _ _):^gb (CT.N (T.ct 145)) (CT.cl (T.ct 145)) (MT.me (And.left ($ T))) (And.right ($ T)) (hr.mono d) (MT.b (And.left ($ T))) VX ? ?^JY JZ Jn KA KB,^gb (CT.N (T.ct 69)) (CT.cl (T.ct 69)) (MT.me (And.left ($ T))) (And.right ($ T)) (hr.mono d) (MT.b (And.left ($ T))) VX ? ?^KC KD KF KH|_ (Cy _ _ _ _ _):^gc (CT.N (T.ct 145)) (CT.cl (T.ct 145)) (MT.me (And.left ($ T))) (And.right ($ T)) (hr.mono d) (MT.b (And.left ($ T))) VX ?^KI KJ,^gc (CT.N (T.ct 69)) (CT.cl (T.ct 69)) (MT.me (And.left ($ T))) (And.right ($ T)) (hr.mono d) (MT.b (And.left ($ T))) VX ?^KL KM|_ (O2 _ _ _):-EH (CT.N (T.ct 69)) (CT.mK (T.ct 69)) (And.right (ly T)) (hr.mono d) rfl (CT.g (T.ct 69)) (MT.b (And.left (ly T))) VX ?|.Oc,.Lk,.zt,.zr,@zu,@Eg,@AB,@eW,@AH,@Ua,@aZ,@B5,@AG#QA _ _|.Jd,-Hn ? ?#YZ _ _|@Ak,.Cr,@Bh#QG _ _|_ (gV _):.Ig _ nd|_ (Am _ _):-AZ rfl ?|_ (Y1 _ _):-A0 ? ?#U2 _ _|.AX,-AY ? ?#U1 _ _|.Hw,-BZ ?#QT _ _|(Expr.Compare _ (List.cons _ List.nil) .) (Aj _):-Us ? ? ? (XZ _)|_ (Aj _):-R1 ?|(Expr.BoolOp .) _:-Ur ?|(Expr.Compare _ (List.cons _ (List.cons _ List.nil)) .) _:-AA ? ? ? ? ?|@Ry#QI _ _ _|(Expr.Call _ (List.cons _ List.nil) .) (Br XM _):-BB rfl ? ?|_ (Br WZ _):-EQ rfl ? ?|_ (Br Hf _):-DL rfl ? ?|_ (T5 _ _):-E3 rfl ? ? ?|_ (Br (Fy 2) _):-gG rfl ? ?|_ (Br (Fy 3) _):-DU rfl ? ?|@O6#QW _ _|@Y7,@Y0,@aY,@AE#QO _ _|.CZ,@C0#GK|_ (gV _):.BS d|@BW#X9|.BU,@BV#=UZ _ _|!Y3#=ZF _ _ _|!eZ,!Ee,!Tg,!AJ,!Zs,!AM,!Zl,!Yf,!B7,!e9,!AL,!GB,!AN,!DY,!A7,!GD,.Zp hr.units,.Xs hr.units#=VE _ _ _|.BF,.R9,.BK,=ah ?,=BJ ?,.FD,=BH ?,=DX ?,=BI ?,.D9,.BP#=Eq _ none|.T.z#=Eq (bootBuiltins _) _|!CA,!CC,!Rj,!Bz,!ap,!CB,!fS,!B9,!D4,!B8#=Slot _ _ _|!PySem.F.slot_list_append,!PySem.F.slot_list_index,!PySem.F.slot_list_pop#=Eq (typeOf _) _|!PySem.F.type_list_append,!PySem.F.type_list_index,!PySem.F.type_list_pop#=VZ _ _ _|!BL,!EI,!GE#=Eq _ (some _)|.T.gi,.T.gs#=XJ _ _ _|.T.no#=Y2 _ _ _|!B4#*|.CT.N (T.ct 145),.CT.cl (T.ct 145),.CT.N (T.ct 69),.CT.cl (T.ct 69),.hr.mono d")
set_option hygiene false in
local macro_rules|`(tactic|exists $a)=>`(tactic|exists $a,0,0,.b)
set_option hygiene false in
local macro_rules|`(tactic|exists $a,$b)=>`(tactic|exists $a,$b,.b)
set_option hygiene false in
local macro_rules|`(tactic|exists $a,$_,$_,$c)=>`(tactic|(have F:=T.fs $a;refine⟨F.1,Bm F.1.F F.2 λYK A outer s H E hr=>?_⟩;have nd:=F.2.nd;exact $c))
set_option hygiene false in
local macro_rules|`(tactic|exists $a,$b,$c)=>`(tactic|(have F:=T.ms $a $b;refine⟨F.1,Bm F.1.F F.2 λYK A outer s H E hr=>?_⟩;have nd:=F.2.nd;exact $c))
variable{U:Ev}(T:Txt U)
include T
def IA:GO U (top 75) 1 Vk:=by exists 75
def HK:GO U (top 74) 1 R4:=by exists 74
def IC:GO U .HD 2 Ym:=by
 refine#[(T.fs 76).1,Bm (T.fs 76).1.F bL λYK A outer s H E hr=>?_];have nd:=bL.nd;exact(Ak .b (Ak (Jf 6 bL.nd (Nm (ah rfl) rfl T.z ap (Hn (Eg (J1 rfl (Hz (dn:=(Bc .HD).names) (N0:=hJ) (N:=["page"]) (nt:=1) (caps:=[])) .b (λC s₀ H₀ ex=>(Ig 0 (show(["page"]:List Str).Nodup by decide +kernel))) .b (λC s₀ H₀ ex=>Hw) (λC s₀ H₀ ex=>(Nm (ah rfl) rfl T.z ap (Hn (Eg (J1 rfl (FC (N:=["row"]) (nt:=1)) .b (λC s₀ H₀ ex=>(Ig 0 (show(["row"]:List Str).Nodup by decide +kernel))) .b (λC s₀ H₀ ex=>Hw) (λC s₀ H₀ ex=>.b))) Jd))))) Jd))) .b))
def HL:GO U (top 125) 1 Sy:=by exists 125,0,0,Bh (Gf (Dj qe qf Oj .GU .b))
def KJ:GM U body 145 7 3 Ot:=by exists 145,7
def KI:GM U body 145 1 1 Jh:=by exists 145,1
def HF:GO U (top 42) 1 Qt:=by exists 42,0,0,Ak .b .An
def HM:GO U .HE 1 U6:=by refine#[(T.fs 65).1,Bm (T.fs 65).1.F hR λYK A outer s H E hr=>?_];have nd:=hR.nd;exact(Ak (My PassesOwn.never rfl .b .b (Ak .b .LV)) (Bh (Gf (eW (Hn .b (Hn (Rk R9 rfl T.z Rj (Hn (Eg (J1 rfl (Hz (dn:=(Bc .HE).names) (N0:=hP) (N:=["level"]) (nt:=1) (caps:=[])) .b (λC s₀ H₀ ex=>(Ig 0 (show(["level"]:List Str).Nodup by decide +kernel))) .b (λC s₀ H₀ ex=>Hw) (λC s₀ H₀ ex=>(Fa (ss:=[0,0,0,0,0]) rfl T.cJ)))) Jd)) Jd))))))
def JZ:GM U body 145 5 2 Q0:=by exists 145,5,Ak (Qi .GU (gy rfl .b)) .b
def IL:GO U (top 126) 2 Wg:=by exists 126,0,0,Bh .KM
def ly:GM U body 69 0 1 Rg:=by exists 69,0
def KC:GM U body 69 5 1 Ue:=by exists 69,5
def HN:GO U (top 43) 2 Tz:=by exists 43
def KD:GM U body 69 4 3 R7:=by exists 69,4
def IE:GO U (top 57) 1 Yg:=by exists 57
def ID:GO U (top 56) 1 Xr:=by exists 56
def KF:GM U body 69 2 4 Uw:=by exists 69,2
def HQ:GO U .I8 1 Q7:=by
 refine#[(T.fs 50).1,Bm (T.fs 50).1.F hU λYK A outer s H E hr=>?_];have nd:=hU.nd
 trivial
def HP:GO U (top 71) 3 T4:=by exists 71
def IH:GO U (top 72) 4 Wu:=by exists 72
def IF:GO U (top 53) 1 Wt:=by exists 53
def IG:GO U (top 54) 1 Vh:=by exists 54
def II:GO U .I9 2 Xl:=by
 refine#[(T.fs 49).1,Bm (T.fs 49).1.F hV λYK A outer s H E hr=>?_];have nd:=hV.nd
 trivial
def KH:GM U body 69 3 5 Y8:=by exists 69,3
def IJ:GO U (top 70) 4 Yc:=by exists 70
def KL:GM U body 69 1 6 Xd:=by exists 69,1
def KM:GM U body 69 6 1 X5:=by exists 69,6
def IK:GO U (top 66) 7 Z9:=by exists 66
def Jn:GM U body 145 6 8 Q4:=by exists 145,6,Ak .b (Ak .b (Ak .b (Ak .b (Ak (GS (T.ct 145).N (T.ct 145).cl T.no .Bc Oc e9) .b))))
def KB:GM U body 145 3 9 Kl:=by exists 145,3,Ak .JH (Ak .b (Ak .b (Ak .b (Ak .JH (Ak .JH .An)))))
def IR:GO U .HF 1 Xw:=by
 refine#[(T.fs 32).1,Bm (T.fs 32).1.F hX λYK A outer s H E hr=>?_];have nd:=hX.nd
 exact(Ak .b (Bh (Gf (Nm (V9 rfl) rfl T.z Wm (Hn (Eg (J1 rfl (Hz (dn:=(Bc .HF).names) (N0:=hW) (N:=["sign"]) (nt:=1) (caps:=[])) .b (λC s₀ H₀ ex=>(Ig 0 (show(["sign"]:List Str).Nodup by decide +kernel))) .b (λC s₀ H₀ ex=>Hw) (λC s₀ H₀ ex=>(O9 O8 .Bc .b (by with_unfolding_all rfl))))) Jd)))))
def IU:GO U (top 37) 1 We:=by
 have F:=T.fs 37;refine#[F.1,Bm F.1.F F.2 λYK A outer s H E hr=>?_];have nd:=F.2.nd
 exact(Ak .b (Bh (Gf (aZ (O9 O8 .b .GU (by with_unfolding_all rfl)) (Ua .F2)))))
def IS:GO U (top 35) 1 Zb:=by
 have F:=T.fs 35;refine#[F.1,Bm F.1.F F.2 λYK A outer s H E hr=>?_];have nd:=F.2.nd
 exact(Bh (Gf (aZ (eV .b (Ua (O9 O8 .b .GU (by with_unfolding_all rfl)))) (Ua .F2))))
def IM:GO U (top 39) 1 U7:=by exists 39
def IP:GO U (top 40) 1 Ql:=by exists 40
def IQ:GO U (top 41) 1 Mp:=by exists 41
def IV:GO U (top 38) 2 Ve:=by exists 38
def IT:GO U (top 36) 1 Wc:=by exists 36
def IW:GO U (top 34) 3 N5:=by
 have F:=T.fs 34;refine#[F.1,Bm F.1.F F.2 λYK A outer s H E hr=>?_];have nd:=F.2.nd
 exact(Ak .b (Ak .b (Ak .b (Ak .b (Ak (Cm (Ur (Y7 .b (Y0 (Us O8 .b (Cp 4) (by with_unfolding_all rfl))))) .An Cr) (Ak .JH (Ak .JH (Bh (Cm .b (Ak .JH .LV) Cr)))))))))
def JC:GO U (top 33) 4 Qu:=by exists 33,0,0,Ak .b .LG
def HR:GO U .GM 1 T9:=by
 refine#[(T.fs 116).1,Bm (T.fs 116).1.F h6 λYK A outer s H E hr=>?_];have nd:=h6.nd
 exact(Ak (Cm (Ur (Y7 .b (Y0 (Ry (R1 (Nm (V9 rfl) rfl T.z Wm (Hn (Eg (J1 rfl (Hz (dn:=(Bc .GM).names) (N0:=hZ) (N:=["sign"]) (nt:=1) (caps:=[])) .b (λC s₀ H₀ ex=>(Ig 0 (show(["sign"]:List Str).Nodup by decide +kernel))) .b (λC s₀ H₀ ex=>Hw) (λC s₀ H₀ ex=>(O9 O8 .Bc .b (by with_unfolding_all rfl))))) Jd))))))) .b Cr) (Bh (Gf (eV .b (Ua (AF .KN))))))
def HB:GO U (top 115) 2 Iz:=by exists 115,0,0,Ak .JH .b
def HD:GO U .GN 1 Mq:=by
 refine#[(T.fs 114).1,Bm (T.fs 114).1.F h9 λYK A outer s H E hr=>?_];have nd:=h9.nd
 exact(Ak (Cm (Ur (Y7 .b (Y0 (Ry (R1 (Nm (V9 rfl) rfl T.z Wm (Hn (Eg (J1 rfl (Hz (dn:=(Bc .GN).names) (N0:=h8) (N:=["sign"]) (nt:=1) (caps:=[])) .b (λC s₀ H₀ ex=>(Ig 0 (show(["sign"]:List Str).Nodup by decide +kernel))) .b (λC s₀ H₀ ex=>Hw) (λC s₀ H₀ ex=>(O9 O8 .Bc .b (by with_unfolding_all rfl))))) Jd))))))) .An Cr) .b)
def Iq:GO U (top 112) 3 Sx:=by exists 112,0,0,Ak .b (Ak (Jf 2 nd .LH) .LG)
def IX:GO U (top 107) 3 Yt:=by
 have F:=T.fs 107;refine#[F.1,Bm F.1.F F.2 λYK A outer s H E hr=>?_];have nd:=F.2.nd
 exact(Ak (Qi .Jr .b) (Ak (Qi (Dj xa xf Z8 (Cp 4) .b) .b) (Ak (Cm (Us fR (Cp 7) (FG (ss:=["river","pump"]) rfl T.cH) (by with_unfolding_all rfl)) .An Cr) .b)))
def IY:GO U .GO 4 T8:=by
 refine#[(T.fs 106).1,Bm (T.fs 106).1.F iB λYK A outer s H E hr=>?_];have nd:=iB.nd;exact(Ak .b (Ak (Cm (Ry (R1 .KN)) .An Cr) (Bh (Gf (Rk R9 rfl T.z Rj (Hn (Eg (J1 rfl (Hz (dn:=(Bc .GO).names) (N0:=iA) (N:=["part","row"]) (nt:=1) (caps:=[1])) (O6 (Eg (Dj zd ze m_split .b .b))) (λC s₀ H₀ ex=>(Ig 0 (show(["part","row"]:List Str).Nodup by decide +kernel))) .b (λC s₀ H₀ ex=>Hw) (λC s₀ H₀ ex=>.b))) Jd))))))
def IZ:GO U (top 105) 5 Vc:=by exists 105,0,0,Ak (Qi .Jr .b) .LG
def Ic:GO U .GP 6 Wk:=by refine#[(T.fs 104).1,Bm (T.fs 104).1.F iD λYK A outer s H E hr=>?_];have nd:=iD.nd;exact(Bh (Gf (Rk R9 rfl T.z Rj (Hn (Eg (J1 rfl (Hz (dn:=(Bc .GP).names) (N0:=iC) (N:=["part","row"]) (nt:=1) (caps:=[1])) .Ll (λC s₀ H₀ ex=>(Ig 0 (show(["part","row"]:List Str).Nodup by decide +kernel))) .b (λC s₀ H₀ ex=>Hw) (λC s₀ H₀ ex=>.b))) Jd))))
def Iy:GO U (top 110) 7 W3:=by exists 110,0,0,Ak (Jf 2 nd (Eg (Dj zd ze GN .Bc .b))) (Ak .JH (Ak (Qi (Cp 2) (gy rfl .b)) .b))
def HS:GO U (top 111) 3 Up:=by exists 111
def HI:GO U (top 113) 1 Om:=by exists 113,0,0,Ak (Jf 3 nd .LH) .LG
def JB:GO U (top 109) 8 Pq:=by exists 109,0,0,Ak (Jf 2 nd (eX Y3 .Jr Oc)) (Ak .b (Ak .b (Ak .b .An)))
def JA:GO U (top 108) 3 Wf:=by exists 108,0,0,Ak .b .LG
def JD:GO U (top 99) 9 Rr:=by exists 99,0,0,Ak .Lo .b
def KA:GM U body 145 4 10 R5:=by exists 145,4
def HU:GO U (top 124) 1 Ss:=by exists 124,0,0,Bh (My PassesOwn.never rfl .b .b .LV)
def JG:GO U (top 123) 2 Tf:=by exists 123,0,0,Ak (My PassesOwn.never rfl (gG rfl T.z (Hn (hI rfl T.S6 .GU) .b)) .b .b) .LV
def HV:GO U (top 122) 2 Q9:=by exists 122,0,0,Ak .JH .b
def HW:GO U .GQ 3 Ng:=by refine#[(T.fs 121).1,Bm (T.fs 121).1.F iF λYK A outer s H E hr=>?_];have nd:=iF.nd;exact(Bh (Gf (Rk R9 rfl T.z Rj (Hn (Eg (J1 rfl (Hz (dn:=(Bc .GQ).names) (N0:=iE) (N:=["number"]) (nt:=1) (caps:=[])) .Ll (λC s₀ H₀ ex=>(Ig 0 (show(["number"]:List Str).Nodup by decide +kernel))) .b (λC s₀ H₀ ex=>Hw) (λC s₀ H₀ ex=>.b))) Jd))))
def JE:GO U .GR 4 Ks:=by refine#[(T.fs 120).1,Bm (T.fs 120).1.F iH λYK A outer s H E hr=>?_];have nd:=iH.nd;exact(Ak .b (Ak .b (Ak (Cm .b (Bh (Gf (J1 rfl (Hz (dn:=(Bc .GR).names) (N0:=iG) (N:=["cubes"]) (nt:=1) (caps:=[])) .Ll (λC s₀ H₀ ex=>(Ig 0 (show(["cubes"]:List Str).Nodup by decide +kernel))) .b (λC s₀ H₀ ex=>Hw) (λC s₀ H₀ ex=>.b)))) Cr) .b)))
def JF:GO U (top 119) 5 Ri:=by
 have F:=T.fs 119;refine#[F.1,Bm F.1.F F.2 λYK A outer s H E hr=>?_];have nd:=F.2.nd
 exact(Ak .Lo (Ak (Cm (GY rfl T.S6 .b (by with_unfolding_all rfl)) .An Cr) (Ak (Jf 2 nd (hI rfl T.S6 .b)) .LG)))
def JY:GM U body 145 2 11 Eb:=by exists 145,2,Ak (Cm (R1 (Dj wK wq ax .GU .b)) .b Cr) (Ak .b .LG)
def HC:GO U (top 147) 1 Fo:=by exists 147
def H0:GO U (top 166) 1 Ph:=by exists 166,0,0,Bh .KM
def lz:GM U body 145 0 2 Rn:=by exists 145,0
def JH:GO U (top 159) 1 Xp:=by exists 159,0,0,Ak .b (Ak (My PassesOwn.never rfl .b .b (Ak (Jf 4 nd .Bi) .b)) (Bh .KM))
def JI:GO U (top 160) 2 Wv:=by exists 160,0,0,Ak .b (Ak .b (Ak .b (Bh .KM)))
def JK:GO U (top 161) 3 Zc:=by exists 161,0,0,Bh .KM
def HZ:GO U (top 167) 12 Sw:=by exists 167,0,0,Ak (Jf 2 nd (GT (T.ct 145).N (T.ct 145).mK (And.right (lz T)) (hr.mono .c) rfl (T.ct 145).g (MT.b (And.left (lz T))) VX)) .b
def JO:GO U (top 150) 1 Mi:=by exists 150
def HA:GO U (top 149) 1 Dv:=by exists 149
def HX:GO U (top 151) 2 Ru:=by exists 151
def JL:GO U (top 152) 3 T7:=by exists 152
def JP:GO U (top 153) 4 Oq:=by exists 153
def Go:GO U (top 154) 1 Dh:=by exists 154
def HY:GO U (top 155) 2 Lp:=by exists 155
def JM:GO U (top 156) 3 Oe:=by exists 156
def JN:GO U (top 157) 4 U9:=by
 have F:=T.fs 157;refine#[F.1,Bm F.1.F F.2 λYK A outer s H E hr=>?_];have nd:=F.2.nd
 exact(Ak .b (Ak .b (Ak .b (Ak (My PassesOwn.never rfl .b .b (Ak .b (Ak .b (Ak (Cm (Ur (aY .b (aY (Us fR Lk (Cp 4) (by with_unfolding_all rfl)) .b))) .b Cr) .b)))) .b))))
def JQ:GO U (top 158) 5 Qv:=by exists 158
def JS:GO U (top 162) 6 Z7:=by exists 162
def JR:GO U (top 164) 2 Xf:=by exists 164
def JV:GO U (top 165) 3 Xb:=by exists 165
def JU:GO U (top 171) 2 W5:=by exists 171
def JT:GO U (top 163) 2 Vz:=by exists 163
def JW:GO U (top 170) 2 Xv:=by exists 170
def JX:GO U (top 172) 1 W7:=by exists 172
def HJ:GO U .GS 1 Od:=by
 refine#[(T.fs 168).1,Bm (T.fs 168).1.F iJ λYK A outer s H E hr=>?_];have nd:=iJ.nd
 exact(Ak .b (Ak (My PassesOwn.never rfl (O6 .LH) .b (Ak .b (Ak (Cm (Ry (R1 (Nm (V9 rfl) rfl T.z Wm (Hn (Eg (J1 rfl (Hz (dn:=(Bc .GS).names) (N0:=iI) (N:=["_law_sign"]) (nt:=1) (caps:=[])) .b (λC s₀ H₀ ex=>(Ig 0 (show(["_law_sign"]:List Str).Nodup by decide +kernel))) .b (λC s₀ H₀ ex=>Hw) (λC s₀ H₀ ex=>(O9 O8 .Bc Lk (by with_unfolding_all rfl))))) Jd)))) .b Cr) .b))) .b))
def He:GO U .GT 2 Qo:=by refine#[(T.fs 169).1,Bm (T.fs 169).1.F bM λYK A outer s H E hr=>?_];have nd:=bM.nd;exact(Ak .b (Ak (fY (fM 2 rfl bM.nd (Hz (dn:=(Bc .GT).names) (N0:=iK) (N:=["_law_part"]) (nt:=1) (caps:=[])) .Ll (λC s₀ H₀ ex=>(Ig 0 (show(["_law_part"]:List Str).Nodup by decide +kernel))) .b (λC s₀ H₀ ex=>Hw) (λC s₀ H₀ ex=>.b))) .b))
def cK:GO U (top 173) 13 Np:=by exists 173
end
def KN{U:Ev}{h:Heap}(X:U.K.In h)(G:h.Ns vY U.mg)(S:XS U.K asks):Txt U:=by
 have A:Gx body exs U:=#[#[h,X,G],gz S];obtain⟨cH,S6,cJ,-⟩:=S
 constructor<;>first|assumption|exact FW X G cH|exact GU X G S6|exact Fc X G cJ
def all_mk{l:vh}{w:xN}{K:za}{h:Heap}{mg:Str->Option xM}{fa:xB}(X:K.In h)(G:h.Ns vY mg)(hfa:mg "law"=u7 .GD)(S:XS K asks):
  ∃fd:xE,(∀(s:xI)(v:xM),BindsTo s fd #[[v],[]] [("_law_script",v)])/\∀base:Heap,K.In base->base.Ns vY mg->WM l.prog w K mg base CX0 13 fa fd ["_law_script"] (lF K Np):=by
 have T:∀base,Txt #[l.prog,w,K,mg,base]:=λbase=>KN X G S
 have eL:mg "law"=u7 (.ref (Ay K "law")):=(cK (T h)).1.m;obtain rfl:fa=Ay K "law":=by rw[hfa]at eL;cases eL;rfl
 exact#[_,λs v=>F6 (cK (T h)).1.F,λbase _ _=>(cK (T base)).2]
def walk{l:vh}{q:xG}{loose:List Str}{XP:(Str->Option xM)->Heap->Prop}{YP:xN->Heap->Prop}{d:DefRec}{K:xN->za}(hn:l.most=u7 63)(hdf:d.params.defaults=[])(HH:Holds)
  (hY:∀(w:xN)(h:Heap),YP w h->(K w).In h)
  (F:∀(w:xN)(mg:Str->Option xM)(fa:xB)(h:Heap),(K w).In h->h.Ns vY mg->mg d.name=u7 .GD->
   ∃fd:xE,(∀(s:xI)(u:xM),BindsTo s fd #[[u],[]] [("_law_script",u)])/\∀base:Heap,(K w).In base->base.Ns vY mg->WM l.prog w (K w) mg base CX0 13 fa fd ["_law_script"] (lF (K w) Np)):
  wD q loose XP YP l.row.toRowW d [] (λf vs=>qi f vs):=
 _L.zl (n:=63) (k:=13) (x:="_law_script") (CX:=λ_=>CX0) (sp:=λw=>lF (K w) Np) hn .c hdf #[rfl,.c,.c] hY F
  (λw H a ns hl hO hS=>by
   let#[G,hG]:=HH ns hl;refine#[#[K w,0,λ_=>0,H],[],[.fl .A2],rfl,rfl,#[rfl,λi j h=>absurd h .Dt,λi o h=>by simp at h,λi h=>absurd h .Dt],YA.cons #[a,ns.map V.int,rfl,?_,YA.ints ns] YA.nil,?_]
   .rcases hS with(hS|hS)|hS
    .rcases hO a with z|⟨o,xs,z⟩
     .rw[z]at hS;cases hS
     .rw[z]at hS;cases hS
    .exact .inl hS
    .exact .inr #[#[ns,rfl],hS]
   .rw[hG];exact λb v _ _ r=>r) λ_ _ _ _ _ z=>z
section
variable{G L H:DH}{F T P W ca fl lv ca':Nat->Int}{m i d k b j c:Nat}{v t w a at_ x yr y M scale year B:Int}{A o:DO}{ds NS vs:List D}{ws l l' sep:List Nat}{q:Option (Nat×Nat×Int)}{LV r:D}{pg:Nat->List Int}{S:ZK}{co:Nat->Nat->Int}{f X:Str}{te:DE}{ls:List .Bo}{s1 s2 s0:Option D}{ns xs ks:List Str}{sc:List Int}
abbrev zI(i:Int):Option D:=u7 .AM
abbrev zR(i:Nat):Option D:=u7 .Ar
abbrev zF(xs:List D):Option D:=u7 .D0
abbrev zT(xs:List D):Option D:=u7 .Aj
abbrev zS(x:Str):Option D:=u7 .Af
abbrev zB(b:Bool):Option D:=u7 .Dw
section
variable{S:ZK}{G:DH}{d v:D}{o:D->D->DH->R D}{t:DE}{r:DA}{a b c e f g h i j k l m n:Option D}
@[simp high]theorem rV0:dV 0 (u7 d::S) G=.ok d G:=id rfl
@[simp high]theorem rV1:dV 1 (a::u7 d::S) G=.ok d G:=id rfl
@[simp high]theorem rV2:dV 2 (a::b::u7 d::S) G=.ok d G:=id rfl
@[simp high]theorem rV3:dV 3 (a::b::c::u7 d::S) G=.ok d G:=id rfl
@[simp high]theorem rV4:dV 4 (a::b::c::e::u7 d::S) G=.ok d G:=id rfl
@[simp high]theorem rV5:dV 5 (a::b::c::e::f::u7 d::S) G=.ok d G:=id rfl
@[simp high]theorem rV6:dV 6 (a::b::c::e::f::g::u7 d::S) G=.ok d G:=id rfl
@[simp high]theorem rV7:dV 7 (a::b::c::e::f::g::h::u7 d::S) G=.ok d G:=id rfl
@[simp high]theorem rV8:dV 8 (a::b::c::e::f::g::h::i::u7 d::S) G=.ok d G:=id rfl
@[simp high]theorem rV10:dV 10 (a::b::c::e::f::g::h::i::j::k::u7 d::S) G=.ok d G:=id rfl
@[simp high]theorem rV12:dV 12 (a::b::c::e::f::g::h::i::j::k::l::m::u7 d::S) G=.ok d G:=id rfl
@[simp 10002]theorem rOC0:ZC o .FO .B9 (u7 d::S) G=o d v G:=id rfl
@[simp 10002]theorem rOC1:ZC o .Hg .B9 (a::u7 d::S) G=o d v G:=id rfl
@[simp 10002]theorem rOC2:ZC o .Et .B9 (a::b::u7 d::S) G=o d v G:=id rfl
@[simp 10002]theorem rOC3:ZC o .EG .B9 (a::b::c::u7 d::S) G=o d v G:=id rfl
@[simp 10002]theorem rOC4:ZC o (dV 4) .B9 (a::b::c::e::u7 d::S) G=o d v G:=id rfl
@[simp 10002]theorem rOC5:ZC o (dV 5) .B9 (a::b::c::e::f::u7 d::S) G=o d v G:=id rfl
@[simp 10002]theorem rOC6:ZC o (dV 6) .B9 (a::b::c::e::f::g::u7 d::S) G=o d v G:=id rfl
@[simp 10002]theorem rOC7:ZC o (dV 7) .B9 (a::b::c::e::f::g::h::u7 d::S) G=o d v G:=id rfl
@[simp 10002]theorem rOC8:ZC o (dV 8) .B9 (a::b::c::e::f::g::h::i::u7 d::S) G=o d v G:=id rfl
@[simp 10002]theorem rOC9:ZC o (dV 9) .B9 (a::b::c::e::f::g::h::i::j::u7 d::S) G=o d v G:=id rfl
@[simp 10002]theorem rOC10:ZC o (dV 10) .B9 (a::b::c::e::f::g::h::i::j::k::u7 d::S) G=o d v G:=id rfl
@[simp 10002]theorem rOC11:ZC o (dV 11) .B9 (a::b::c::e::f::g::h::i::j::k::l::u7 d::S) G=o d v G:=id rfl
@[simp 10002]theorem rOC12:ZC o (dV 12) .B9 (a::b::c::e::f::g::h::i::j::k::l::m::u7 d::S) G=o d v G:=id rfl
@[simp high]theorem rOV0:ZC o .FO t (u7 d::S) G=(t (u7 d::S) G).bind λy q=>o d y q:=id rfl
@[simp high]theorem rOV1:ZC o .Hg t (a::u7 d::S) G=(t (a::u7 d::S) G).bind λy q=>o d y q:=id rfl
@[simp high]theorem rOV2:ZC o .Et t (a::b::u7 d::S) G=(t (a::b::u7 d::S) G).bind λy q=>o d y q:=id rfl
@[simp high]theorem rOV3:ZC o .EG t (a::b::c::u7 d::S) G=(t (a::b::c::u7 d::S) G).bind λy q=>o d y q:=id rfl
@[simp high]theorem rOV4:ZC o (dV 4) t (a::b::c::e::u7 d::S) G=(t (a::b::c::e::u7 d::S) G).bind λy q=>o d y q:=id rfl
@[simp high]theorem rOV5:ZC o (dV 5) t (a::b::c::e::f::u7 d::S) G=(t (a::b::c::e::f::u7 d::S) G).bind λy q=>o d y q:=id rfl
@[simp high]theorem rOV6:ZC o (dV 6) t (a::b::c::e::f::g::u7 d::S) G=(t (a::b::c::e::f::g::u7 d::S) G).bind λy q=>o d y q:=id rfl
@[simp high]theorem rOV7:ZC o (dV 7) t (a::b::c::e::f::g::h::u7 d::S) G=(t (a::b::c::e::f::g::h::u7 d::S) G).bind λy q=>o d y q:=id rfl
@[simp high]theorem rCV0:Bg .FO r (u7 d::S) G=(r (u7 d::S) G).bind λxs q=>.ok (d::xs) q:=id rfl
@[simp high]theorem rCV1:Bg .Hg r (a::u7 d::S) G=(r (a::u7 d::S) G).bind λxs q=>.ok (d::xs) q:=id rfl
@[simp high]theorem rCV2:Bg .Et r (a::b::u7 d::S) G=(r (a::b::u7 d::S) G).bind λxs q=>.ok (d::xs) q:=id rfl
@[simp high]theorem rCV3:Bg .EG r (a::b::c::u7 d::S) G=(r (a::b::c::u7 d::S) G).bind λxs q=>.ok (d::xs) q:=id rfl
@[simp high]theorem rCV4:Bg (dV 4) r (a::b::c::e::u7 d::S) G=(r (a::b::c::e::u7 d::S) G).bind λxs q=>.ok (d::xs) q:=id rfl
@[simp high]theorem rCV5:Bg (dV 5) r (a::b::c::e::f::u7 d::S) G=(r (a::b::c::e::f::u7 d::S) G).bind λxs q=>.ok (d::xs) q:=id rfl
@[simp high]theorem rCV6:Bg (dV 6) r (a::b::c::e::f::g::u7 d::S) G=(r (a::b::c::e::f::g::u7 d::S) G).bind λxs q=>.ok (d::xs) q:=id rfl
@[simp high]theorem rCV7:Bg (dV 7) r (a::b::c::e::f::g::h::u7 d::S) G=(r (a::b::c::e::f::g::h::u7 d::S) G).bind λxs q=>.ok (d::xs) q:=id rfl
@[simp high]theorem rCV8:Bg (dV 8) r (a::b::c::e::f::g::h::i::u7 d::S) G=(r (a::b::c::e::f::g::h::i::u7 d::S) G).bind λxs q=>.ok (d::xs) q:=id rfl
@[simp high]theorem rCV9:Bg (dV 9) r (a::b::c::e::f::g::h::i::j::u7 d::S) G=(r (a::b::c::e::f::g::h::i::j::u7 d::S) G).bind λxs q=>.ok (d::xs) q:=id rfl
@[simp high]theorem rCV10:Bg (dV 10) r (a::b::c::e::f::g::h::i::j::k::u7 d::S) G=(r (a::b::c::e::f::g::h::i::j::k::u7 d::S) G).bind λxs q=>.ok (d::xs) q:=id rfl
@[simp high]theorem rCV11:Bg (dV 11) r (a::b::c::e::f::g::h::i::j::k::l::u7 d::S) G=(r (a::b::c::e::f::g::h::i::j::k::l::u7 d::S) G).bind λxs q=>.ok (d::xs) q:=id rfl
@[simp high]theorem rCV12:Bg (dV 12) r (a::b::c::e::f::g::h::i::j::k::l::m::u7 d::S) G=(r (a::b::c::e::f::g::h::i::j::k::l::m::u7 d::S) G).bind λxs q=>.ok (d::xs) q:=id rfl
@[simp high]theorem rCC:Bg .B9 r S G=(r S G).bind λxs q=>.ok (v::xs) q:=id rfl
@[simp 10001]theorem rOtC:ZC o t .B9 S G=(t S G).bind λx q=>o x v q:=id rfl
@[simp 10001]theorem rOCt:ZC o .B9 t S G=(t S G).bind λy q=>o v y q:=id rfl
end
def cellAt(ns:List Int)(k:Int):Int:=ns.getD k.toNat 0
def Oh{ns:List Int}{k:Int}(hk:0<=k):Fo [.fl .A2,.int k] G=.ok (.int (cellAt ns k)) G:=by
 unfold Fo k8 cellAt;rw[Ag];by_cases h:k<lN ns
 .simp[h];rw[Ef (k:=k.toNat) .a (by rw[zG,zJ .a];rfl)];simp[Ao,zJ (show k.toNat<lN ns by lia)]
 simp[h,Ao,zy (show lN ns<=k.toNat by lia)]
structure Row where
 down:Option Nat
 YC:Int
 need:Int
 rank:Int
variable{rs:List Row}
def WR:Option Nat->D
 |none=>.WB
 |some d=>.int d
def Row.enc(r:Row):D:=.tup [WR r.down,.int r.YC,.int r.need,.int r.rank]
@[simp]theorem UI{n:Nat}{o:Option Nat}:XG n (WR o)=u9:=by cases o<;>rfl
@[simp]theorem KO{n:Nat}{r:Row}:XG n r.enc=u9:=by simp[Row.enc]
@[simp]theorem UJ{n:Nat}:ZA n .AD=u9:=Df λr _=>KO
@[simp]theorem Jz{n:Nat}{xs:List Int}:ZA n .H0=u9:=Df λr _=>rfl
structure Fine (k n:Nat) (r:Row):Prop where
 dn:∀d,r.down=u7 d->k<d/\d<n
 w0:0<=r.YC
 n0:0<=r.need
 r0:0<=r.rank
def Reach(rs:List Row):Prop:=∀k r,rs[k]?=u7 r->Fine k .AE r
def tab(n:Nat)(F:Nat->Int):List D:=(zV n).map λi=>D.int (F i)
def WD(F:Nat->Int)(d:Nat)(v:Int):Nat->Int:=λi=>if i=d then v else F i
@[simp]theorem Qa{n:Nat}:lN .EH=n:=by simp[tab]
@[simp]theorem I8{n:Nat}:ZA m .EH=u9:=Df λ_ _=>rfl
def Th{n:Nat}(h:i<n):(tab n F)[i]?=zI (F i):=by unfold tab;rw[zG,qq h];rfl
def H8{n:Nat}(h:i<n):ZJ .EH i=zI (F i):=Ef rfl (Th h)
def Qf{n:Nat}:(tab n F).set d .FZ=tab n (WD F d v):=by
 refine jA λi=>?_
 by_cases q:i<n
 .by_cases e:d=i
  .subst e;rw[q0 (by simpa using q),Th q];simp[WD]
  rw[zP e,Th q,Th q];have:i≠d:=λz=>e z.symm
  simp[WD,this]
 rw[zy .e,zy .e]
def mB{n:Nat}{F':Nat->Int}(h:∀i,i<n->F i=F' i):tab n F=tab n F':=by
 refine qk λi q=>?_
 rw[h i (qx.mp q)]
def col(g:Row->Int)(rs:List Row)(i:Nat):Int:=match rs[i]? with
 |some r=>g r
 |none=>0
def Av(rs:List Row)(i:Nat):Option Nat:=rs[i]?.bind Row.down
def Gy(h:Reach rs)(e:Av rs k=u7 d):k<d/\d<lN rs:=by
 unfold Av at e;rcases q:rs[k]? with _|r
 .rw[q]at e;cases e
 rw[q]at e;exact(h k r q).dn d e
def Yo(hk):Av rs k=rs[k].down:=by unfold Av;rw[zJ hk];rfl
def Wl(hk:¬k<lN rs):Av rs k=u8:=by unfold Av;rw[zy .a];rfl
def YF(F:Nat->Int)(k:Nat)(o:Option Nat):Nat->Int:=match o with
 |none=>F
 |some d=>WD F d (F d+F k)
def YS(rs:List Row):Nat->Nat->(Nat->Int)->Nat->Int
 |0,_,F=>F
 |m+1,k,F=>YS rs m (k+1) .JQ
abbrev WI(rs:List Row)(F:Nat->Int):Nat->Int:=YS rs .AE 0 F
def cL(hk:k<lN rs):ZJ .AD k=zT [WR .BW,.int (col Row.YC rs k),.int .Du,.int .F3]:=
 Ef rfl (by simp[Yo hk,col,zJ hk,Row.enc])
theorem mC(A:Reach rs){t:D}:∀m k F x y,k+m=lN rs->∃w u,
  Ar (Am 2 .LQ) Qj ((Cw .AD).drop k) [zF .AD,u7 t,zR .AA,x,y] (G++[.lst .KG])=
   .nx [zF .AD,u7 t,zR .AA,w,u] (G++[.lst (tab .AE (YS rs m k F))])
 |0,k,F,x,y,h=>#[x,y,by rw[qY (by rw[Jl];simp;lia),Cz];rfl]
 | m+1,k,F,x,y,h=>by
  have hk:k<lN rs:=.a
  have C:(Cw .AD).drop k=.tup [.int k,rs[k].enc]::(Cw .AD).drop (k+1):=by rw[zH (by rw[Jl];simpa using hk)];simp[Cw]
  let#[w,u,B]:=mC A m (k+1) .JQ (u7 rs[k].enc) .DL .a;refine#[w,u,?_];have E:Qj [zF .AD,u7 t,zR .AA,u7 rs[k].enc,zI k] (G++[.lst .KG])=
    .nx [zF .AD,u7 t,zR .AA,u7 rs[k].enc,zI k] (G++[.lst (tab .AE .JQ)]):=by
   unfold Qj;rcases z:Av rs k with _|d
   .have:rs[k].down=u8:=by rw[<-Yo hk];exact z
    simp[Row.enc,this,WR,YF]
   have e:rs[k].down=u7 d:=by rw[<-Yo hk];exact z
   have q:=Gy A z;have I:(G++[DO.lst .KG])[lN G]?=u7 (.lst .KG):=.d
   simp[Row.enc,e,WR,YF,X6 I (H8 q.2),H8 hk,Jg,q.2,Qf]
  simp[C,Cj,E];exact B
def Lz(rs:List Row)(i:Nat):D:=.tup [WR (Av rs i),.int (col Row.YC rs i),.int (col Row.need rs i),.int .F4]
def mD:rs.map Row.enc=(zV .AE).map (Lz rs):=by
 refine jA λi=>?_
 by_cases q:i<lN rs
 .simp[qq q,Lz,Row.enc,Yo q,col,zJ q]
 rw[zy .e,zy .e]
def mE(J:Reach rs)(K:lN rs<=40){t:D}(y:Bf t G=u7 .J3):Q7 [.fl .AD,t] G=.ok .JG (G++[.lst (tab .AE (WI rs λi=>col Row.YC rs i-T i))]):=by
 let#[C,A,I]:=mC J .AE 0 (λi=>col Row.YC rs i-T i) u8 u8 .a;have z:∀j,Ex [.fl .AD,t] j G=u7 ((zV .AE).map λi=>D.tup [Lz rs i,.int .Ea])[j]? :=λj=>by
  rw[Uo Py y,Es,mD,tab,List.zip_map',qJ]
  rfl
 let F:D->Option D:=λd=>match d with
  |.tup [.tup [_,.int w,_,_],.int v]=>zI (w-v)
  |_=>u8
 have E:By (Ex [.fl .AD,t]) .Ld Ai bW (Al 2 [] [zF .AD,u7 t,u8,u8,u8]) .AE 0 G=.ok (tab .AE λi=>col Row.YC rs i-T i) G:=by
  rw[Za (F:=F) z (λx B=>?_) .d]
  .congr 1
   rw[qC];show(zV .AE).filterMap (λi=>zI (col Row.YC rs i-T i))=_;rw[jX]
   rfl
  let#[i,_,rfl]:=zw.mp B;refine#[[u7 (Lz rs i),zI .Ea],by simp[Al],.inr #[rfl,.int (col Row.YC rs i-T i),?_,rfl]];simp[bW,Lz]
 have u:lN rs<=1000000:=.a
 unfold Q7 ig;rw[Ag];have q:Dr (Ec 0 .Ku) (Am 2 .LQ) Qj .AE 0 [zF .AD,u7 t,zR .AA,u8,u8] (G++[.lst (tab .AE λi=>col Row.YC rs i-T i)])=.nx [zF .AD,u7 t,zR .AA,C,A] (G++[.lst (tab .AE (WI rs λi=>col Row.YC rs i-T i))]):=by have:=Dx (S:=[zF .AD,u7 t,zR .AA,u8,u8]) (G:=G++[.lst (tab .AE λi=>col Row.YC rs i-T i)]) (g:=Am 2 .LQ) (b:=Qj) (xs:=rs.map Row.enc);rw[zq]at this;rw[this];exact I
 simp[Rf (Py) y,E,u,q,Ce]
def mF{g:Row->Int}(h:∀r∈rs,0<=g r)(k):0<=col g rs k:=by
 unfold col;split
 .rename_i r q;exact h r (jY q)
 exact zU _
def Reach.need(h:Reach rs)(k):0<=col Row.need rs k:=mF (λr q=>by let#[i,u,rfl]:=qO q;exact(h i _ (zJ u)).n0) k
def Reach.YC(h:Reach rs)(k):0<=col Row.YC rs k:=mF (λr q=>by let#[i,u,rfl]:=qO q;exact(h i _ (zJ u)).w0) k
def Lq(h:ZA (lN G+1) ds=u9):freeze (G++[A]) (.ok (.ref (lN G+1)) (G++A:: .lst ds::L))=.ok .CN (G++[A]):=by have:=Bd (G:=G++[A]) (L:=L) (by simpa using h);simpa using this
def Tq(h:ZA (lN G+1) ds=u9):tidy (G++[A]) (.ok (.ref (lN G+1)) (G++A:: .lst ds::L))=.ok (.ref (lN G+1)) (G++[A,.lst ds]):=by have:=Ce (G:=G++[A]) (L:=L) (by simpa using h);simpa using this
def cN{B:DO}(h:ZA (lN G+2) ds=u9):freeze (G++[A,B]) (.ok (.ref (lN G+2)) (G++A::B:: .lst ds::L))=.ok .CN (G++[A,B]):=by have:=Bd (G:=G++[A,B]) (L:=L) (by simpa using h);simpa using this
def KP{B:DO}(h:ZA (lN G+2) ds=u9):tidy (G++[A,B]) (.ok (.ref (lN G+2)) (G++A::B:: .lst ds::L))=.ok (.ref (lN G+2)) (G++[A,B,.lst ds]):=by have:=Ce (G:=G++[A,B]) (L:=L) (by simpa using h);simpa using this
def Im(rs:List Row):Nat->Nat->List Nat
 |0,k=>[k]
 |m+1,k=>k::(match Av rs k with
  |none=>[]
  |some d=>Im rs m d)
def way(rs:List Row)(k:Nat):List Nat:=Im rs .AE k
theorem mG(w:Reach rs):∀m q k,lN rs<=m+k+1->lN rs<=q+k+1->Im rs m k=Im rs q k
 | 0,q,k,h,y=>by
  have x:Av rs k=u8:=by
   rcases u:Av rs k with _|d
   .rfl
   have:=Gy w u;lia
  rcases q with _|q<;>simp[Im,x]
 | m+1,0,k,h,y=>by
  have x:Av rs k=u8:=by
   rcases u:Av rs k with _|d
   .rfl
   have:=Gy w u;lia
  simp[Im,x]
 |m+1,q+1,k,h,y=>by
  rcases u:Av rs k with _|d
  .simp[Im,u]
  have:=Gy w u;simp[Im,u,mG w m q d (by omega) (by omega)]
def Ip(rs:List Row):Option Nat->List Nat
 |none=>[]
 |some d=>way rs d
theorem Fi(q:Reach rs)(k):way rs k=k::Ip rs (Av rs k):=by
 unfold way;rw[mG q .AE (lN rs+1) k .a .a];show k::_=_;cases u:Av rs k with
 |_=>rfl
@[simp]theorem UK:WR (u7 d)=.int d:=id rfl
def Ax(ws:List Nat):List D:=ws.map λ(i:Nat)=>D.int (i:Int)
@[simp]theorem mH:ZA m (Ax ws)=u9:=Df λ_ _=>rfl
@[simp]theorem UL:lN (Ax ws)=lN ws:=by simp[Ax]
theorem mI(w:Reach rs)(z:lN rs<=40){x:Option D}:∀m o acc,0<m->(∀d,o=u7 d->d<lN rs/\lN rs-d<m/\lN acc+(lN rs-d)<=100)->
  ZZ Oi Ul m [zF .AD,x,zR .AA,u7 (WR o)] (G++[.lst .Ev])=.nx [zF .AD,x,zR .AA,u7 .WB] (G++[.lst (Ax (acc++Ip rs o))])
 |0,o,acc,y,h=>by lia
 |m+1,u8,acc,y,h=>by
  have u:Oi [zF .AD,x,zR .AA,u7 (WR u8)] (G++[.lst .Ev])=.ok uA (G++[.lst .Ev]):=by simp[Oi,WR]
  unfold ZZ;rw[u];simp[Ip,WR]
 |m+1,u7 d,acc,y,h=>by
  let#[B,F,E]:=h d rfl;have u:Oi [zF .AD,x,zR .AA,u7 (WR (u7 d))] (G++[.lst .Ev])=.ok u9 (G++[.lst .Ev]):=by simp[Oi]
  have q:lN acc<1000000:=.a
  have A:Ul [zF .AD,x,zR .AA,u7 (WR (u7 d))] (G++[.lst .Ev])=.nx [zF .AD,x,zR .AA,u7 (WR (Av rs d))] (G++[.lst (Ax (acc++[d]))]):=by simp[Ul,q,cL B,Ax]
  simp only[ZZ,u,R.Lh,A,Ti];rw[mI w z m (Av rs d) (acc++[d]) .a (λe C=>by have:=Gy w C;simp;lia)]
  have:Ip rs (u7 d)=d::Ip rs (Av rs d):=Fi w d;simp[this]
def KQ(u:Reach rs)(w:lN rs<=40)(hk:k<lN rs)(G):Vh [.fl .AD,.int k] G=.ok .JG (G++[.lst .J7]):=by
 have z:=mI u w (x:=zI k) (G:=G) fuel .BW [k] (by unfold fuel;lia) (λd y=>by have:=Gy u y;simp[fuel];lia)
 have q:ZZ Oi Ul fuel [zF .AD,zI k,zR .AA,u7 (WR .BW)] (G++[.lst [.int k]])=_:=z;simp[Fi u,Vh,il,Ag,Ce,cL hk,q]
def K?(rs:List Row)(i j:Nat):Bool:=decide (col Row.rank rs i<col Row.rank rs j\/(col Row.rank rs i=col Row.rank rs j/\i<j))
def mJ(rs):WO (K? rs) where
 asy:=λi j h=>by simp only[K?,decide_eq_true_eq,decide_eq_false_iff_not]at h⊢;lia
 neg:=λi j k h=>by simp only[K?,decide_eq_true_eq]at h⊢;lia
def ord(rs:List Row):List Nat:=if lN rs<2 then zV (lN rs)else(Bx (K? rs) (qc .AE)).toList
def cO(rs):(ord rs).Perm (zV .AE):=by
 unfold ord;split
 .exact .refl _
 exact(fy (mJ rs) .a).1
def cP(h:k∈ord rs):k<lN rs:=by have:=(cO rs).mem_iff.mp h;simpa using this
def mL(rs):lN .CO=lN rs:=by simp[(cO rs).length_eq]
theorem mM{n:Nat}{lt q:Nat->Nat->Bool}(h:∀i j,i<n->j<n->lt i j=q i j){u:Type}{P:u->Prop}:∀{t:wZ u},ZL n P t->Bx lt t=Bx q t
 |.ret _,_=>rfl
 |.ask i j k,hs=>by show Bx lt (k .D3)=Bx q (k (q i j));rw[h i j hs.1 hs.2.1];exact mM h (hs.2.2 _)
def Gb(rs:List Row)(k:Nat):D:=.tup [.int .F3,.int k]
def mN(i j):ltD .IU (Gb rs j)=u7 (K? rs i j):=by
 have e:ltD .IU (Gb rs j)=if col Row.rank rs i=col Row.rank rs j then(if(i:Int)=j then u7 uA else u7 (decide ((i:Int)<j)))else u7 (decide (col Row.rank rs i<col Row.rank rs j)):=rfl
 rw[e];by_cases h:col Row.rank rs i=col Row.rank rs j
 .rw[if_pos h];by_cases q:(i:Int)=j
  .rw[if_pos q]
   congr 1
   simp only[K?]
   symm
   simp only[decide_eq_false_iff_not];lia
  rw[if_neg q]
  congr 1
  simp only[K?];rw[decide_eq_decide];lia
 rw[if_neg h]
 congr 1
 simp only[K?];rw[decide_eq_decide];lia
def G8(rs:List Row):List D:=(zV .AE).map .IE
def cQ(h:i<lN rs):(G8 rs).getD i .WB=Gb rs i:=by unfold G8;rw[q8,zG,qq h];rfl
def mO(rs):Mr .De=(ord rs).map (Gb rs):=by
 have w:lN .De=lN rs:=by simp[G8]
 unfold Mr ord;rw[w];split
 .rfl
 rename_i h;have e:Bx (ltI .De) (qc .AE)=Bx (K? rs) (qc .AE):=
  mM (λi j q u=>by unfold ltI;rw[cQ q,cQ u,mN];rfl) (DZ .a)
 rw[e];exact qk λi q=>(cQ (by simpa using((fy (mJ rs) .a).1).mem_iff.mp q))
def KR(rs):Q3 .De=u9:=by
 unfold Q3 G8;rw[zN,xw];refine#[.inl ?_,?_]
 .rw[qE];intro x q;let#[i,_,rfl]:=zw.mp q
  rfl
 rw[qE];intro x q;rw[qE];intro y u;let#[i,_,rfl]:=zw.mp q;let#[j,_,rfl]:=zw.mp u;rw[mN];rfl
@[simp]theorem KT:ZA m (ws.map .IE)=u9:=Df λ_ _=>by simp[Gb]
def KU(J:lN rs<=40)(G):Wt [.fl .AD] G=.ok .JG (G++[.lst .K5]):=by
 have I:∀j,Ec 0 .Ku j G=u7 ((zV .AE).map λ(k:Nat)=>D.tup [.int k,Lz rs k])[j]? :=λj=>by
  rw[Yz,Cw,mD,List.zipIdx_map,qJ]
  congr 2
  refine qB .d λi A K=>by simp
 let F:D->Option D:=λd=>match d with
  |.tup [.int k,.tup [_,_,_,.int r]]=>zT [.int r,.int k]
  |_=>u8
 have C:By (Ec 0 .Ku) .Ld Ai Zv (Al 2 [] [zF .AD,u8]) .AE 0 G=.ok .De G:=by
  rw[Za (F:=F) I (λx u=>?_) .d]
  .congr 1
   rw[qC];show(zV .AE).filterMap (λi=>u7 .IU)=_;rw[jX]
   rfl
  let#[i,_,rfl]:=zw.mp u;refine#[[zI i,u7 (Lz rs i)],by simp[Al],.inr #[rfl,Gb rs i,?_,rfl]];simp[Zv,Lz,Gb]
 let B:D->Option D:=λd=>match d with
  |.tup [_,k]=>u7 k
  |_=>u8
 have z:∀S,Bj .Ld Ai bX (Al 2 [] S) ((ord rs).map .IE) G=.ok .K5 G:=λS=>by
  rw[N8 (F:=B) (λx u=>?_)]
  .congr 1
   rw[qC];show(ord rs).filterMap (λ(i:Nat)=>zI i)=_;rw[jX]
   rfl
  let#[i,_,rfl]:=zw.mp u;refine#[[zI .F4,zI i],by simp[Al,Gb],.inr #[rfl,.int i,?_,rfl]];simp[bX]
 have q:lN .De=lN rs:=by simp[G8]
 have w:lN rs<=1000000:=.a
 have hs:∀G,Ov [.fl .De] G=.ok .JG (G++[.lst ((ord rs).map .IE)]):=λG=>by have A:Ha (.fl .De) G=u7 (G8 rs):=rfl;simp[Ov,A];rw[if_pos #[#[by rw[q];lia,by rw[mO];simp[mL];lia],KR rs],mO]
 have y:ZA .AA .De=u9:=KT;have E:=mL rs;simp[Wt,ik,Ag,C,q,w,Bd,y,hs,z,by omega,Ce]
def l?(P:Nat->Int):List Nat->Int
 |[]=>0
 |k::r=>(r.map P).foldl min (P k)
def Wr(h:b∈ws):l? P ws<=P b:=by
 rcases ws with _|⟨k,r⟩
 .cases h
 let#[u,q,_]:=Vr (r.map P) (P k);rcases zj.mp h with rfl|h
 .exact u
 exact q _ (zw.mpr #[b,h,rfl])
def cT(h:ws≠[]):∃b∈ws,l? P ws=P b:=by
 rcases ws with _|⟨k,r⟩
 .exact absurd rfl h
 let#[_,_,q]:=Vr (r.map P) (P k);rcases q with q|q
 .exact#[k,zW,q]
 let#[b,u,e]:=zw.mp q;exact#[b,zZ _ u,e.symm]
def KW{Q:Nat->Int}(h:∀b∈ws,P b=Q b):l? P ws=l? Q ws:=by
 rcases ws with _|⟨k,r⟩
 .rfl
 show(r.map P).foldl min (P k)=(r.map Q).foldl min (Q k);rw[qk λb q=>h b (zZ _ q),h k zW]
def Ez(P:Nat->Int)(ws:List Nat)(t:Int):Nat->Int:=λi=>if i∈ws then P i-t else P i
def Vj(P:Nat->Int)(t:Int)(ws:List Nat):Nat->Int:=ws.foldl (λP b=>WD P b (P b-t)) P
theorem mP:∀{ws:List Nat}{P:Nat->Int},ws.Nodup->Vj P t ws=Ez P ws t
 |[],P,_=>by funext i;simp[Vj,Ez]
 |b::ws,P,h=>by
  let#[u,q]:=qS.mp h;show Vj (WD P b (P b-t)) t ws=_;rw[mP q];funext i;by_cases e:i=b
  .subst e;simp[Ez,WD,u]
  simp[Ez,WD,e]
theorem mQ(w:Reach rs):∀m k,lN rs<=m+k->k<lN rs->∀b∈way rs k,k<=b/\b<lN rs
 |0,k,h,hk,b,q=>by lia
 |m+1,k,h,hk,b,q=>by
  rw[Fi w]at q;rcases zj.mp q with rfl|q
  .lia
  rcases u:Av rs k with _|d
  .rw[u]at q;cases q
  have:=Gy w u;rw[u]at q;have:=mQ w m d .a .a b q;lia
def Qn(u:Reach rs)(hk:k<lN rs)(q:b∈way rs k):k<=b/\b<lN rs:=mQ u .AE k .a hk b q
theorem mR(q:Reach rs):∀m k,lN rs<=m+k->(way rs k).Nodup
 |0,k,h=>by rw[Fi q,Wl .a];simp[Ip]
 |m+1,k,h=>by
  rw[Fi q];rcases w:Av rs k with _|d
  .simp[Ip]
  have u:=Gy q w;refine qS.mpr #[λx=>?_,mR q m d .a];have:=Qn q u.2 x;lia
def KY(q:Reach rs)(k):(way rs k).Nodup:=mR q .AE k .a
theorem mS(q:Reach rs):∀m k,lN rs<=m+k->lN .AZ<=m+1
 |0,k,h=>by rw[Fi q,Wl .a];simp[Ip]
 |m+1,k,h=>by
  rw[Fi q];rcases u:Av rs k with _|d
  .simp[Ip]
  have w:=Gy q u;have:=mS q m d .a;show lN (way rs d)+1<=_;lia
def KZ(q:Reach rs)(k):k∈way rs k:=by rw[Fi q];exact zW
def take1(rs:List Row)(P:Nat->Int)(k:Nat):Int:=min .Du (l? P .AZ)
def P?(rs:List Row):List Nat->(Nat->Int)->(Nat->Int)->(Nat->Int)×(Nat->Int)
 |[],P,T=>(P,T)
 |k::ks,P,T=>P? rs ks .Jw .J8
def shr(rs:List Row):Nat->Int:=(P? rs .CO .Jg λ_=>0).2
def pD(P:Nat->Int)(ws:List Nat):List D:=ws.map λi=>D.int (P i)
@[simp]theorem UM:lN (pD P ws)=lN ws:=by simp[pD]
@[simp]theorem K0:ZA m (pD P ws)=u9:=Df λ_ _=>rfl
theorem mT{a b c d e:Option D}:∀ws P x,(∀b∈ws,b<lN rs)->∃u,
  Ar .DM W2 (Ax ws) [a,b,zR (lN G+1),c,d,zI t,x] (G++[A,.lst .Jc])=.nx [a,b,zR (lN G+1),c,d,zI t,u] (G++[A,.lst (tab .AE (Vj P t ws))])
 |[],P,x,h=>#[x,rfl]
 |w::ws,P,x,h=>by
  let#[u,z]:=mT (e:=e) ws (WD P w (P w-t)) (zI w) λb q=>h b (zZ _ q)
  refine#[u,?_];have hw:=h w zW;have y:(G++[A,DO.lst .Jc])[lN G+1]?=u7 (.lst .Jc):=O3 _ 1;have q:W2 [a,b,zR (lN G+1),c,d,zI t,zI w] (G++[A,.lst .Jc])=.nx [a,b,zR (lN G+1),c,d,zI t,zI w] (G++[A,.lst (tab .AE (WD P w (P w-t)))]):=by simp[W2,X6 y (H8 hw),Jg,hw,Qf]
  show Ar _ _ (.int w::Ax ws) _ _=_;simp[Cj,q];exact z
theorem mU(C:Reach rs)(U:lN rs<=40){G:DH}:∀ks P T x y z w,(∀k∈ks,k<lN rs)->∃M O N K,
  Ar .BC Rb (Ax ks) [zF .AD,zR .AA,zR (lN G+1),x,y,z,w] (G++[.lst .J3,.lst .Jc])=
   .nx [zF .AD,zR .AA,zR (lN G+1),M,O,N,K] (G++[.lst (tab .AE (P? rs ks P T).2),.lst (tab .AE (P? rs ks P T).1)])
 |[],P,T,x,y,z,w,h=>#[x,y,z,w,rfl]
 | k::ks,P,T,x,y,z,w,h=>by
  have hk:=h k zW;have I:∀b∈way rs k,b<lN rs:=λb Q=>(Qn C hk Q).2
  let#[W,u]:=mT (a:=zF .AD) (b:=zR .AA) (c:=zI k) (d:=zF .J7) (e:=u8) (t:=take1 rs P k) (A:=.lst .LY) (G:=G) .AZ P w I;rw[mP (KY C k)]at u;let#[M,O,N,K,X]:=mU C U ks .Jw .J8 .DL (zF .J7) (zI .A4) W λj hj=>h j (zZ _ hj)
  refine#[M,O,N,K,?_];have B:Bj .AQ Ai Zu (Al 1 [2] [zF .AD,zR .AA,zR (lN G+1),zI k,zF .J7,z,w]) .J7 (G++[DO.lst .J3,DO.lst .Jc])=.ok (pD P .AZ) (G++[DO.lst .J3,DO.lst .Jc]):=by
   rw[N8 (F:=λd=>match d with | .int i=>zI (P i.toNat)|_=>u8) (λq Z=>?_)]
   .congr 1
    unfold Ax;rw[qC];show(way rs k).filterMap (λ(i:Nat)=>zI (P ((i:Int).toNat)))=_;simp[pD]
   let#[i,Y,rfl]:=zw.mp Z;refine#[[zI i,zR (lN G+1)],by simp[Al],.inr #[rfl,.int (P i),?_,.d]];simp[Zu,H8 (I i Y)]
  have J:lN .AZ<=1000000:=by have h1:=mS C .AE k .a;lia
  have E:∀G,Kp [.fl (pD P .AZ)] G=.ok (.int (l? P .AZ)) G:=λG=>by rw[Fi C];exact gY (by simp[pD])
  have Q:Rb [zF .AD,zR .AA,zR (lN G+1),zI k,y,z,w] (G++[.lst .J3,.lst .Jc])=
    .nx [zF .AD,zR .AA,zR (lN G+1),zI k,zF .J7,zI .A4,W] (G++[.lst .LY,.lst (tab .AE .Jw)]):=by
   unfold Rb;have L:min .Du (l? P .AZ)=take1 rs P k:=rfl;simp[KQ C U hk,cN mH,cL hk,B,J,cN K0,E,L,Jg,hk,Qf,u]
  show Ar _ _ (.int k::Ax ks) _ _=_;simp[Cj,Q];exact X
def K2(z:Reach rs)(x:lN rs<=40)(G):Xl [.fl .AD] G=.ok .JG (G++[.lst (tab .AE (shr rs))]):=by
 have B:zK .AE (D.int 0)=tab .AE λ_=>0:=by unfold tab;refine qB .d λi L K=>by simp
 have q:Jk .JG (.int .AE) (G++[.lst [.int 0]])=.ok (.ref (lN G+1)) (G++[.lst [.int 0],.lst (tab .AE λ_=>0)]):=by rw[gZ (by rw[Kq];rfl) .a,B];simp
 have w:tidy G (.ok (.ref (lN G+1)) (G++[.lst [.int 0],.lst (tab .AE λ_=>0)]))=.ok .JG (G++[.lst (tab .AE λ_=>0)]):=Zi _ rfl I8;have hp:Q7 [.fl .AD,.ref .AA] (G++[.lst (tab .AE λ_=>0)])=.ok (.ref (lN G+1)) (G++[.lst (tab .AE λ_=>0),.lst .LZ]):=by rw[mE z x (EC (by rw[Kq];rfl))];simp
 let#[E,C,F,I,J]:=mU z x .CO .Jg (λ_=>0) u8 u8 u8 u8 λk hk=>cP hk
 have y:Ar .BC Rb .K5 [zF .AD,zR .AA,zR (lN G+1),u8,u8,u8,u8] (G++[.lst (tab .AE λ_=>0),.lst .LZ])=
   .nx [zF .AD,zR .AA,zR (lN G+1),E,C,F,I] (G++[.lst (tab .AE (shr rs)),.lst (tab .AE (P? rs .CO .Jg λ_=>0).1)]):=J
 simp[Xl,io,Ag,q,w,hp,Tq I8,KU x,cN mH,y,Ce]
def ind(t:Int)(ws:List Nat):Nat->Int:=λi=>if i∈ws then t else 0
theorem cV(q:Reach rs):∀m j A,k<j->YS rs m j (λi=>A i+ind t [k] i)=λi=>YS rs m j A i+ind t [k] i
 |0,j,A,h=>rfl
 | m+1,j,A,h=>by
  unfold YS;have e:YF (λi=>A i+ind t [k] i) j .GV=λi=>YF A j .GV i+ind t [k] i:=by
   rcases y:Av rs j with _|d
   .rfl
   have:=Gy q y;funext i;simp only[YF,WD,ind];have x:j≠k:=.a
   have w:d≠k:=.a
   by_cases u:i=d
   .subst u;simp[x,w]
   simp[u]
  rw[e,cV q m (j+1) _ .a]
theorem Yw(u:Reach rs):∀m j k A,j+m=lN rs->j<=k->k<lN rs->YS rs m j (λi=>A i+ind t [k] i)=λi=>YS rs m j A i+ind t .AZ i
 |0,j,k,A,h,F,B=>by lia
 | m+1,j,k,A,h,F,B=>by
  unfold YS;by_cases E:j<k
  .have e:YF (λi=>A i+ind t [k] i) j .GV=λi=>YF A j .GV i+ind t [k] i:=by
    rcases x:Av rs j with _|d
    .rfl
    funext i;simp[YF,WD,ind];have y:j≠k:=.a
    by_cases q:i=d
    .subst q;split<;>lia
    simp[q]
   rw[e,Yw u m (j+1) k _ .a .a B]
  have C:j=k:=.a
  subst C;rcases x:Av rs j with _|d
  .have hw:way rs j=[j]:=by rw[Fi u,x];rfl
   show YS rs m (j+1) (λi=>A i+ind t [j] i)=_;rw[cV u m (j+1) A .a,hw]
   rfl
  have w:=Gy u x;have hw:way rs j=j::way rs d:=by rw[Fi u,x];rfl
  have e:YF (λi=>A i+ind t [j] i) j (u7 d)=λi=>(YF A j (u7 d) i+ind t [d] i)+ind t [j] i:=by
   funext i;simp[YF,WD,ind];by_cases q:i=d
   .subst q;simp[];lia
   simp[q]
  rw[e,cV u m (j+1) _ .a,Yw u m (j+1) d _ .a .a w.2];funext i;have z:j∉way rs d:=λI=>by have:=Qn u w.2 I;lia
  simp[ind,hw,zj];by_cases q:i=j
  .subst q;simp[z]
  simp[q]
def Kb(w:Reach rs)(hk:k<lN rs)(u:T k=0):WI rs (λi=>W i-WD T k t i)=Ez (WI rs λi=>W i-T i) .AZ t:=by
 have e:(λi=>W i-WD T k t i)=λi=>(W i-T i)+ind (-t) [k] i:=by
  funext i;simp[WD,ind];by_cases q:i=k
  .subst q;simp[u];lia
  simp[q]
 rw[e];show YS rs .AE 0 _=_;rw[Yw w .AE 0 k _ .a .a hk];funext i;simp[ind,Ez,WI]
 split<;>lia
theorem cW:∀m k F,(∀i,0<=F i)->∀i,0<=YS rs m k F i
 |0,k,F,h,i=>h i
 |m+1,k,F,h,i=>by
  refine cW m (k+1) _ (λj=>?_) i;rcases Av rs k with _|d
  .exact h j
  simp[YF,WD];have:=h d;have:=h k;have:=h j
  split<;>lia
structure SI (rs:List Row) (P T:Nat->Int):Prop where
 pg:P=WI rs λi=>col Row.YC rs i-T i
 t0:∀i,0<=T i
 tn:∀i,T i<=col Row.need rs i
 p0:∀i,i<lN rs->0<=P i
def mV(h:∀b∈ws,0<=P b):0<=l? P ws:=by
 rcases ws with _|⟨k,r⟩
 .exact zU _
 let#[b,q,e]:=cT (ws:=k::r) .d;rw[e];exact h b q
def SI.take(u:Reach rs)(s:SI rs P T)(hk:k<lN rs):0<=take1 rs P k/\take1 rs P k<=col Row.need rs k/\∀b∈way rs k,take1 rs P k<=P b:=by
 have x:=mV λb q=>s.p0 b (Qn u hk q).2
 have w:=u.need k;unfold take1;refine#[.a,.a,λb q=>?_];have:=Wr (P:=P) q;lia
def SI.step(q:Reach rs)(s:SI rs P T)(hk:k<lN rs)(x:T k=0):SI rs .Jw (WD T k .A4):=by
 let#[a,b,c]:=s.take q hk;refine#[?_,λi=>?_,λi=>?_,λi u=>?_]
 .rw[Kb q hk x,<-s.pg]
 .simp[WD];split
  .exact a
  exact s.t0 i
 .simp[WD];split
  .rename_i e;rw[e];exact b
  exact s.tn i
 simp[Ez];split
 .rename_i w;have:=c i w;lia
 exact s.p0 i u
theorem SI.run(x:Reach rs):∀ks P T,SI rs P T->ks.Nodup->(∀k∈ks,k<lN rs/\T k=0)->SI rs (P? rs ks P T).1 (P? rs ks P T).2
 |[],P,T,s,_,_=>s
 |k::ks,P,T,s,z,h=>by
  let#[A,y]:=qS.mp z;let#[hk,B]:=h k zW;refine SI.run x ks _ _ (s.step x hk B) y λj w=>?_
  let#[q,u]:=h j (zZ _ w);have:j≠k:=λe=>A (e▸w)
  exact#[q,by simp[WD,this,u]]
def mW(rs):(ord rs).Nodup:=(cO rs).nodup_iff.mpr List.nodup_range
def SI.first(q:Reach rs):SI rs .Jg λ_=>0:=
 #[.d,λ_=>zU _,q.need,λi _=>cW _ _ _ q.YC i]
def Vd(q:Reach rs):SI rs (P? rs .CO .Jg λ_=>0).1 (shr rs):=
 SI.run q .CO _ _ (SI.first q) (mW rs) λk hk=>#[cP hk,rfl]
def rp:¬(("pump":Str)="river"):=.c
def pr:¬(("river":Str)="pump"):=.c
structure VC where
 h:Int
 m:Int
 r:Bool
variable{st:List VC}
def wy(r:Bool):Str:=if r then "river" else "pump"
def VC.enc(s:VC):D:=.tup [.int s.h,.int s.m,.str .CP]
@[simp]theorem Ki{n:Nat}:ZA n .AT=u9:=Df λs _=>by simp[VC.enc]
@[simp]theorem UN{r:Bool}:(wy r="river")=(r=u9):=by
 cases r
 .exact propext #[λh=>absurd h rp,λh=>by cases h]
 exact propext #[λh=>rfl,λ_=>rfl]
@[simp]theorem UO{r:Bool}:(wy r="pump")=(r=uA):=by
 cases r
 .exact propext #[λh=>rfl,λ_=>rfl]
 exact propext #[λh=>absurd h pr,λh=>by cases h]
abbrev VU:=Int×List VC
variable{ss:List VU}
def Bb(s:VU):D:=.tup [.int s.1,.tup .AS]
@[simp]theorem Kj{n:Nat}:ZA n .Bp=u9:=Df λs _=>by simp[Bb]
def held(t:Int):List VU->List VC->List VC
 |[],h=>h
 |s::r,h=>held t r (if s.1<=t then s.2 else h)
theorem mX{c:D}:∀{ss:List VU}{h:List VC}{a b:Option D},∃q u,Ar .Lf Ws .Bp [u7 c,zI t,zT .IF,a,b] G=
  .nx [u7 c,zI t,zT ((held t ss h).map VC.enc),q,u] G
 |[],h,a,b=>#[a,b,by rw[qL,Cz];rfl]
 | s::r,h,a,b=>by
  let#[q,u,y]:=mX;refine#[q,u,?_];have w:Ws [u7 c,zI t,zT .IF,zI s.1,zT .AS] G=.nx [u7 c,zI t,zT ((if s.1<=t then s.2 else h).map VC.enc),zI s.1,zT .AS] G:=by
   unfold Ws
   by_cases x:s.1<=t<;>simp[x]
  simp[Cj,Bb,w,if_true];exact y
def c_at:Xr [.tup .Bp,.int t] G=.ok (.tup ((held t ss []).map VC.enc)) G:=by let#[a,b,h]:=mX (c:=.tup .Bp) (t:=t) (G:=G) (ss:=ss) (h:=[]) (a:=u8) (b:=u8);unfold Xr i8;rw[Ag];simp at h;simp[h,Ao]
def VW(w:Int)(s:VC):Int:=max 0 (min s.m (w-s.h))
def rv(w:Int):List VC->Int
 |[]=>0
 |s::r=>(if s.r then VW w s else 0)+rv w r
def pm(w:Int):List VC->Int
 |[]=>0
 |s::r=>(if s.r then 0 else VW w s)+pm w r
theorem mY{c:D}:∀{st:List VC}{a b:Int}{e f g h:Option D},∃q u g' h',Ar .Lp Ze .AT [u7 c,zI w,zI a,zI b,e,f,g,h] G=
  .nx [u7 c,zI w,zI (a+rv w st),zI (b+pm w st),q,u,g',h'] G
 |[],a,b,e,f,g,h=>#[e,f,g,h,by simp[Cz,rv,pm]]
 | s::r,a,b,e,f,g,h=>by
  let#[q,u,g',h',x]:=mY;refine#[q,u,g',h',?_];have y:Ze [u7 c,zI w,zI a,zI b,zI s.h,zI s.m,zS .CP,h] G=.nx [u7 c,zI w,zI (a+(if s.r then VW w s else 0)),zI (b+(if s.r then 0 else VW w s)),zI s.h,zI s.m,zS .CP,zI (VW w s)] G:=by
   unfold Ze VW
   cases s.r<;>simp
  simp[Cj,VC.enc,y];rw[x];simp[rv,pm,Int.add_assoc]
def mZ:Yg [.tup .AT,.int w] G=.ok (.tup [.int (rv w st),.int (pm w st),.int (w-rv w st-pm w st)]) G:=by let#[e,f,g,h,q]:=mY (c:=.tup .AT) (w:=w) (G:=G) (st:=st) (a:=0) (b:=0) (e:=u8) (f:=u8) (g:=u8) (h:=u8);simp[Yg,i3,Ag,q,Ao]
inductive Kd where
 |VA (XR:Int) (rule:List VU) (ZP:Option (Nat×Nat×Int))
 |XE (need rank:Int)
 |YG (most:Int)
structure Pl where
 nm:Str
 dn:Option Nat
 dl:Nat
 kd:Kd
variable{p:Pl}
def noPl:Pl:=#["",u8,0,.YG 0]
structure Hs where
 yr:Int
 ps:List Pl
variable{h:Hs}
def Kd.VV:Kd->Str
 |.VA ..=>"basin"
 |.XE ..=>"town"
 |.YG ..=>"mill"
@[simp]theorem kd_ne:¬(("basin":Str)="town")/\¬(("basin":Str)="mill")/\¬(("town":Str)="basin")/\¬(("town":Str)="mill")/\¬(("mill":Str)="basin")/\¬(("mill":Str)="town"):=.c
def Kd.ZH:Kd->Bool
 |.VA ..=>u9
 |_=>uA
def Hs.pl(h:Hs)(k:Nat):Pl:=h.ps.getD k noPl
def Hs.n(h:Hs):Nat:=lN h.ps
def Hs.YR(h:Hs):Option Nat->Str
 |none=>"sea"
 |some d=>(h.pl d).nm
def Hs.El(h:Hs):Option (Nat×Nat×Int)->D
 |none=>.WB
 |some (to,dl,m)=>.tup [.str (h.pl to).nm,.int dl,.int m]
def Hs.ZB(h:Hs)(p:Pl):D:=match p.kd with
 |.VA b r q=>.tup [.str "basin",.str p.nm,.str .A9,.int p.dl,.int b,.tup .BQ,h.El q]
 |.XE a b=>.tup [.str "town",.str p.nm,.str .A9,.int p.dl,.int a,.int b]
 |.YG a=>.tup [.str "mill",.str p.nm,.str .A9,.int p.dl,.int a]
def Hs.Cd(h:Hs):List D:=h.ps.map h.ZB
def Hs.enc(h:Hs):D:=.tup [.int h.yr,.tup h.Cd]
def Good:Int->List VC->Prop
 |_,[]=>True
 |t,s::r=>t<=s.h/\1<=s.m/\Good (s.h+s.m) r
structure XB (h:Hs):Prop where
 yr:0<h.yr
 len:h.n<=12
 inj:∀i j,i<h.n->j<h.n->(h.pl i).nm=(h.pl j).nm->i=j
 sea:∀i,i<h.n->(h.pl i).nm≠"sea"
 dn:∀k d,k<h.n->(h.pl k).dn=u7 d->k<d/\d<h.n
 dl:∀k,k<h.n->(h.pl k).dl<=5
 ZP:∀k b r to dl m,k<h.n->(h.pl k).kd=.VA b r (u7 (to,dl,m))->to<h.n/\1<=dl/\dl<=5
 XR:∀k b r q,k<h.n->(h.pl k).kd=.VA b r q->0<=b/\∀s∈r,Good 0 s.2
 XE:∀k a b,k<h.n->(h.pl k).kd=.XE a b->0<=a/\0<=b
def Hs.H7:lN h.Cd=h.n:=by simp[Hs.Cd,Hs.n]
def Hs.M5(hk:k<h.n):h.Cd[k]?=u7 (h.ZB .Ac):=by simp[Hs.Cd,Hs.pl,zJ hk]
def Hs.Hu(hk:k<h.n):ZJ h.Cd k=u7 (h.ZB .Ac):=Ef rfl .Eb
def Hs.Kk{n:Nat}:XG n .JA=u9:=by rcases q with _|x<;>rfl
@[simp]theorem Hs.Z1{n:Nat}:XG n .CQ=u9:=by
 unfold Hs.ZB
 cases p.kd<;>simp[Hs.Kk]
@[simp]theorem Hs.Kn{n:Nat}:ZA n h.Cd=u9:=Df λ_ _=>Hs.Z1
@[simp]theorem Hs.Kt{n:Nat}:XG n h.enc=u9:=by simp[Hs.enc]
section
variable{h:Hs}{p:Pl}{G:DH}
@[simp]theorem encP0:Cg .CQ .Be G=.ok (.str p.kd.VV) G:=by
 unfold Hs.ZB
 cases p.kd<;>simp[Kd.VV]
@[simp]theorem encP1:Cg .CQ .DW G=.ok (.str p.nm) G:=by
 unfold Hs.ZB
 cases p.kd<;>simp
@[simp]theorem encP2:Cg .CQ (.int 2) G=.ok (.str .A9) G:=by
 unfold Hs.ZB
 cases p.kd<;>simp
@[simp]theorem encP3:Cg .CQ (.int 3) G=.ok (.int p.dl) G:=by
 unfold Hs.ZB
 cases p.kd<;>simp
def Ci:Cg h.enc .DW G=.ok .EC G:=by simp[Hs.enc]
def Vm:Cg h.enc .Be G=.ok (.int h.yr) G:=by simp[Hs.enc]
def Jv{k:Kd}:(k.VV="basin")=(k.ZH=u9):=by cases k<;>simp[Kd.VV,Kd.ZH]<;>decide
end
theorem m7(g:XB h)(hd:d<h.n):∀m k a b,k+m=d->
  Ar .Le R0 ((Cw h.Cd).drop k) [u7 h.enc,zS (h.pl d).nm,a,b] G=.rt (.int d) G
 | m,k,a,b,e=>by
  have hk:k<h.n:=.a
  have w:(Cw h.Cd).drop k=.tup [.int k,h.ZB .Ac]::(Cw h.Cd).drop (k+1):=by rw[zH (by rw[Jl,Hs.H7];exact hk)];have:=Hs.M5 hk;rw[zJ (Hs.H7▸hk)]at this;simp[Cw,w4 this]
  rw[w,Cj];cases m with
  |zero=>
   have x:k=d:=.a
   subst x;have q:R0 [u7 h.enc,zS (h.pl k).nm,zI k,u7 .JK] G=.rt .B6 G:=by simp[R0]
   simp[q]
  |succ m=>
   have u:(h.pl k).nm≠(h.pl d).nm:=λz=>by have:=g.inj k d hk hd z;lia
   have q:R0 [u7 h.enc,zS (h.pl d).nm,zI k,u7 .JK] G=.nx [u7 h.enc,zS (h.pl d).nm,zI k,u7 .JK] G:=by simp[R0,u]
   simp[q];exact m7 g hd m (k+1) _ _ .a
def cX(g:XB h)(hd:d<h.n)(G):Qt [h.enc,.str (h.pl d).nm] G=.ok (.int d) G:=by have q:=m7 g hd (G:=G) d 0 u8 u8 .a;rw[xJ]at q;simp[Qt,iR,Ag,Ci,q,Ao]
def Hs.dn(h:Hs)(k:Nat):Option Nat:=(h.pl k).dn
def Qk(g:XB h)(hk:k<h.n)(G):Tz [h.enc,.int k] G=.ok (WR (h.dn k)) G:=by
 unfold Tz iY;rw[Ag];rcases q:h.dn k with _|d
 .have e:(h.pl k).dn=u8:=q;simp[Ci,Hs.Hu hk,e,Hs.YR,WR,Ao]
 have e:(h.pl k).dn=u7 d:=q;have u:=g.dn k d hk e;simp[Ci,Hs.Hu hk,e,Hs.YR,g.sea d u.2,cX g u.2,Ao]
def Hs.dir(h:Hs)(k:Nat):Option Nat:=match h.dn k with
 |none=>u8
 |some d=>if 0<(h.pl k).dl\/(h.pl k).kd.ZH=u9\/(h.pl d).kd.ZH=u9 then u8 else u7 d
def cY(g:XB h)(hk:k<h.n)(G):T4 [h.enc,.int k] G=.ok .K6 G:=by
 unfold T4 ii;rw[Ag];rcases q:h.dn k with _|d
 .simp[Ci,Qk g hk,q,Hs.dir,WR,Ao]
 by_cases u:0<(h.pl k).dl
 .simp[Ci,Qk g hk,q,Hs.dir,WR,Ao,Hs.Hu hk,u]
 by_cases w:(h.pl k).kd.ZH=u9
 .simp[Ci,Qk g hk,q,Hs.dir,WR,Ao,Hs.Hu hk,u,Jv,w]
 by_cases x:(h.pl d).kd.ZH=u9<;>simp[Ci,Qk g hk,q,Hs.dir,WR,Ao,Hs.Hu hk,Hs.Hu (g.dn k d hk q).2,u,Jv,w,x]
def Kx(g:XB h)(hk:k<h.n)(e:h.dir k=u7 d):k<d/\d<h.n:=by
 unfold Hs.dir at e;rcases q:h.dn k with _|u
 .rw[q]at e;cases e
 rw[q]at e;simp only at e;split at e
 .cases e
 cases e;exact g.dn k d hk q
def LA(hk:¬k<h.n):h.pl k=noPl:=by
 unfold Hs.pl;rw[q8,zy (by unfold Hs.n at hk;lia)]
 rfl
def Ox(hk:¬k<h.n):h.dir k=u8:=by
 have e:h.dn k=u8:=by unfold Hs.dn;rw[LA hk];rfl
 unfold Hs.dir;rw[e]
def Ld(g:XB h)(e:h.dir k=u7 d):k<d/\d<h.n/\k<h.n:=by
 by_cases hk:k<h.n
 .have:=Kx g hk e;lia
 rw[Ox hk]at e;cases e
def Hs.K1(h:Hs):Nat->Nat->Nat
 |0,k=>k
 |m+1,k=>match h.dir k with
  |none=>k
  |some d=>h.K1 m d
def Hs.last(h:Hs)(k:Nat):Nat:=h.K1 h.n k
theorem cZ(g:XB h):∀m q k,h.n<=m+k->h.n<=q+k->h.K1 m k=h.K1 q k
 |0,q,k,e,x=>by
  have w:h.dir k=u8:=Ox .a
  rcases q with _|q<;>simp[Hs.K1,w]
 |m+1,0,k,e,x=>by have w:h.dir k=u8:=Ox .a;simp[Hs.K1,w]
 |m+1,q+1,k,e,x=>by
  rcases u:h.dir k with _|d
  .simp[Hs.K1,u]
  have:=Ld g u;simp[Hs.K1,u,cZ g m q d (by omega) (by omega)]
def Il(g:XB h)(e:h.dir k=u8):h.last k=k:=by simp[Hs.last,cZ g h.n (h.n+1) k (by omega) (by omega),Hs.K1,e]
def K6(g:XB h)(e:h.dir k=u7 d):h.last k=h.last d:=by simp[Hs.last,cZ g h.n (h.n+1) k (by omega) (by omega),Hs.K1,e]
theorem m9(g:XB h):∀m k,h.n<=m+k->k<=h.last k/\(k<h.n->h.last k<h.n)
 |0,k,e=>by rw[Il g (Ox .a)];lia
 |m+1,k,e=>by
  rcases q:h.dir k with _|d
  .rw[Il g q];lia
  have:=Ld g q;rw[K6 g q];have:=m9 g m d .a;lia
def Hy(g:XB h)(k):k<=h.last k/\(k<h.n->h.last k<h.n):=m9 g h.n k .a
def Hs.Gw(h:Hs)(j:Nat):Nat->Int:=λi=>if j<=i then h.last i else i
theorem ma(g:XB h){G:DH}:∀j x y,j<=h.n->∃A z,
  Ar .CX V5 (Lj (j-1) j) [u7 h.enc,zR .AA,x,y] (G++[.lst (tab h.n (h.Gw j))])=.nx [u7 h.enc,zR .AA,A,z] (G++[.lst (tab h.n (h.Gw 0))])
 |0,x,y,e=>#[x,y,by rw[E4,Cz]]
 | j + 1,x,y,e=>by
  have C:j<h.n:=.a
  let#[A,z,F]:=ma g (G:=G) j .GW (u7 (WR (h.dir j))) .a;refine#[A,z,?_];have I:V5 [u7 h.enc,zR .AA,zI j,y] (G++[.lst (tab h.n (h.Gw (j+1)))])=.nx [u7 h.enc,zR .AA,zI j,u7 (WR (h.dir j))] (G++[.lst (tab h.n (h.Gw j))]):=by
   unfold V5;rcases u:h.dir j with _|d
   .have B:tab h.n (h.Gw (j+1))=tab h.n (h.Gw j):=mB λi K=>by
     unfold Hs.Gw;by_cases w:i=j
     .subst w;simp[Il g u]
     by_cases q:j<=i<;>first|rw[if_pos q,if_pos .a]|rw[if_neg q,if_neg .a]
    simp[cY g C,u,WR,B]
   have E:=Ld g u;have B:tab h.n (WD (h.Gw (j+1)) j (h.Gw (j+1) d))=tab h.n (h.Gw j):=mB λi K=>by
    unfold Hs.Gw WD;by_cases w:i=j
    .subst w;rw[if_pos rfl,if_pos .a,if_pos .a,K6 g u]
    rw[if_neg w];dsimp only;by_cases q:j<=i
    .rw[if_pos q,if_pos .a]
    rw[if_neg q,if_neg .a]
   simp[cY g C,u,H8 E.2.1,Jg,C,Qf,B]
  simp[E5,Cj,I];exact F
def LB(g:XB h)(G):Yc [h.enc] G=.ok .JG (G++[.lst (tab h.n λi=>.AW)]):=by
 let#[F,E,u]:=ma g (G:=G) h.n u8 u8 .AK;have y:tab h.n (h.Gw h.n)=Bq 0 h.n:=by
  refine qk λi C=>?_
  have:=qx.mp C;unfold Hs.Gw;rw[if_neg .a];simp
 have x:h.Gw 0=λi=>(h.last i:Int):=by funext i;simp[Hs.Gw]
 rw[y,x]at u;have I:=g.len;have B:inR h.n:=Gj .a .a;have A:inR (h.n-1):=Gj .a .a;have w:inR (-1):=Gj .a .a;have z:(h.n:Int)<=1000000:=.a
 have q:ZA .AA .Dp=u9:=Df λ_ _=>rfl
 simp[Yc,iq,Ag,Ci,Hs.H7,B,z,A,w,by omega,u,Ce]
def Hs.mem(h:Hs)(m:Nat):List Nat:=(zV h.n).filter λk=>decide (h.last k=m)
def mem_iff:k∈h.mem m↔k<h.n/\h.last k=m:=by simp[Hs.mem]
def U5:(h.mem m).Pairwise (· < ·):=List.Pairwise.filter _ List.pairwise_lt_range
def md:lN .AF<=h.n:=by have:=xz (λk=>decide (h.last k=m)) (zV h.n);simpa[Hs.mem]using this
def LC{ms:List Nat}(hs:ms.Pairwise (· < ·))(u)(q:j<lN ms)(h:ms[i]<ms[j]):i<j:=by
 rcases jB i j with z|z|z
 .exact z
 .subst z;lia
 have:=qP.mp hs j i q u z;lia
def mf(g:XB h)(x:m<h.n)(e:h.last m=m):(h.mem m).getLast?=u7 m:=by
 have q:=mem_iff.mpr #[x,e];have u:h.mem m≠[]:=λz=>by rw[z]at q;cases q
 rw[List.getLast?_eq_some_getLast u]
 congr 1
 have E:=mem_iff.mp (List.getLast_mem u);have C:=(Hy g ((h.mem m).getLast u)).1;let#[i,y,B]:=qO q;have A:m<=(h.mem m).getLast u:=by
  rw[List.getLast_eq_getElem];by_cases w:i=lN .AF-1
  .subst w;lia
  have:=qP.mp (U5) i (lN .AF-1) y .a .a;lia
 lia
def Hs.need(h:Hs)(k:Nat):Int:=match(h.pl k).kd with
 |.XE a _=>a
 |_=>0
def Hs.rank(h:Hs)(k:Nat):Int:=match(h.pl k).kd with
 |.XE _ b=>b
 |_=>0
def Hs.row(h:Hs)(ms:List Nat)(ca:Nat->Int)(k:Nat):Row:=#[(h.dir k).map λd=>ms.idxOf d,ca k,h.need k,h.rank k]
def Hs.rows(h:Hs)(ms:List Nat)(ca:Nat->Int):List Row:=ms.map .Ip
theorem idx_map(d:Nat):∀ms:List Nat,(ms.map λ(i:Nat)=>(i:Int)).idxOf (d:Int)=ms.idxOf d
 |[]=>rfl
 |m::ms=>by
  rw[zk,List.idxOf_cons,List.idxOf_cons,idx_map d ms];by_cases e:m=d
  .subst e;simp
  have w:¬((m:Int)=d):=.a
  have q:(m==(d:Int))=uA:=by simp[w]
  have u:(m==d)=uA:=by simp[e]
  rw[q,u]
theorem mh(g:XB h){ms:List Nat}(Q:∀k∈ms,k<h.n/\∀d,h.dir k=u7 d->d∈ms)(X:lN ms<=40){p:Nat}(hp:G[p]?=u7 (.lst .GX)):∀ks acc x1 C F x4,(∀k∈ks,k∈ms)->lN acc+lN ks<=40->∃M P N O,
  Ar .Bd Rw (Ax ks) [u7 h.enc,zF .Bh,zR p,zR .AA,x1,C,F,x4] (G++[.lst .Gm])=
   .nx [u7 h.enc,zF .Bh,zR p,zR .AA,M,P,N,O] (G++[.lst ((acc++ks.map .Ip).map Row.enc)])
 |[],acc,x1,C,F,x4,_,_=>#[x1,C,F,x4,by simp[Ax,Cz]]
 | k::ks,acc,x1,C,F,x4,hk,W=>by
  let#[q,K]:=Q k (hk k zW);let#[M,P,N,O,Y]:=mh g Q X hp ks (acc++[h.row ms ca k]) .DL (u7 .JK) (u7 .K6) (u7 (WR ((h.dir k).map λd=>ms.idxOf d))) (λj hj=>hk j (zZ _ hj)) (by simp at W⊢;lia);refine#[M,P,N,O,?_];have y:∀L,(G++L)[p]?=u7 (.lst .GX):=λL=>by rw[zE ((z9.mp hp).1)];exact hp
  have x:lN acc<1000000:=by simp at W;lia
  have Z:Rw [u7 h.enc,zF .Bh,zR p,zR .AA,zI k,C,F,x4] (G++[.lst .Gm])=
    .nx [u7 h.enc,zF .Bh,zR p,zR .AA,zI k,u7 .JK,u7 .K6,u7 (WR ((h.dir k).map λd=>ms.idxOf d))] (G++[.lst ((acc++[h.row ms ca k]).map Row.enc)]):=by
   have E:∀d,h.dir k=u7 d->∀u,O1 (.fl .Bh) [.int (d:Int)] u=.ok (.int (ms.idxOf d:Nat)) u:=λd z u=>by
    have e:Ax ms=(ms.map λ(i:Nat)=>(i:Int)).map D.int:=by simp[Ax]
    rw[e,E6 (by simp[Ha]) (zw.mpr #[d,K d z,rfl]) .e,idx_map]
   cases e:(h.pl k).kd<;>cases z:h.dir k<;>simp[Rw,Hs.ZB,Hs.row,Hs.need,Hs.rank,e,Ci,Hs.Hu q,cY g q,z,WR,E,Kd.VV,y,H8 q,Ba,Kq,U3,x,Row.enc]
  show Ar _ _ (.int k::Ax ks) _ _=_;simp only[Cj,Ie,R.Lh,jI,Z,Ti];rw[Y];simp
def LD(g:XB h){ms:List Nat}(B:∀k∈ms,k<h.n/\∀d,h.dir k=u7 d->d∈ms)(u:lN ms<=40){p:Nat}(hp:G[p]?=u7 (.lst .GX)):
  Wu [h.enc,.fl .Bh,.ref p] G=.ok .JG (G++[.lst ((h.rows ms ca).map Row.enc)]):=by
 let#[w,z,y,x,A]:=mh g B u hp ms [] u8 u8 u8 u8 (λk hk=>hk) (by simpa using u);have q:Ar .Bd Rw .Bh [u7 h.enc,zF .Bh,zR p,zR .AA,u8,u8,u8,u8] (G++[.lst []])=.nx [u7 h.enc,zF .Bh,zR p,zR .AA,w,z,y,x] (G++[.lst ((h.rows ms ca).map Row.enc)]):=A;simp[Wu,ij,Ag,Ce,q]
theorem Mw(g:XB h)(C:∀k,k<h.n->0<=ca k):Reach (h.rows .AF ca):=λi r z=>by
 have w:i<lN (h.mem m):=by have:=(z9.mp z).1;simpa[Hs.rows]using this
 have e:r=h.row .AF ca (h.mem m)[i]:=by unfold Hs.rows at z;rw[zG,zJ w]at z;simpa using z.symm
 let#[hk,u]:=mem_iff.mp (qX w);subst e;refine#[λd E=>?_,C _ hk,?_,?_]
 .have q:(h.dir (h.mem m)[i]).map (λd=>(h.mem m).idxOf d)=u7 d:=E;rcases e:h.dir (h.mem m)[i]with _|B
  .rw[e]at q;cases q
  rw[e]at q;have F:(h.mem m).idxOf B=d:=by simpa using q
  have A:=Ld g e;have y:B∈h.mem m:=mem_iff.mpr #[A.2.1,by rw[<-K6 g e];exact u];have x:=qy y;subst F;refine#[LC U5 w x (by rw[jW x];exact A.1),by simpa[Hs.rows]using x]
 .show 0<=h.need _;unfold Hs.need;cases e:(h.pl (h.mem m)[i]).kd with
  |XE a b=>exact(g.XE _ a b hk e).1
  |_=>exact zU _
 show 0<=h.rank _;unfold Hs.rank;cases e:(h.pl (h.mem m)[i]).kd with
 |XE a b=>exact(g.XE _ a b hk e).2
 |_=>exact zU _
structure Cs where
 WC:Nat->Int
 YB:Nat->Nat->Int
 WA:Nat->List Int
 XV:List D
variable{s s':Cs}
def Jt(l:List Int):D:=match l with
 |[]=>.WB
 |_=>.tup .A0
@[simp]theorem LF{n:Nat}{l:List Int}:XG n (Jt l)=u9:=by
 rcases l with _|⟨a,l⟩
 .rfl
 exact Jz
def cfl(ds:List D):List (Str×D):=(["house","levels","year_turn","came","coming","page","reaches"]:List Str).zip ds
def VQ(i n:Nat)(H LV:D)(yt:Int):List (Str×D):=cfl [H,LV,.int yt,.ref (i+1),.ref (i+(2+n)),.ref (i+(3+n)),.ref (i+(4+n))]
def Dt(n:Nat)(pg:Nat->List Int):List D:=(zV n).map λk=>Jt .FQ
def Iu(i n:Nat):List D:=(zV n).map λk=>D.ref (i+(2+k))
def csT(i n:Nat)(H LV:D)(yt:Int)(s:Cs):DH:=.ins "Course" (VQ i n H LV yt):: .lst (tab n s.WC)::((zV n).map (λk=>DO.lst .J4)++[.lst .HG,.lst .FB,.lst s.XV])
def ZE(G:DH)(n:Nat)(H LV:D)(yt:Int)(s:Cs):DH:=G++csT .AA n H LV yt s
def LG{n:Nat}{H:D}{yt:Int}:lN (csT i n H LV yt s)=n+5:=by simp[csT]
def mi{n:Nat}{H:D}{yt:Int}:lN .Aa=lN G+(n+5):=by unfold ZE;rw[qw,LG]
section
variable{G:DH}{n:Nat}{H LV:D}{yt:Int}{s:Cs}
def Qz(j):(ZE G n H LV yt s)[lN G+j]?=(csT .AA n H LV yt s)[j]? :=O3 _ j
def Lw:(ZE G n H LV yt s)[lN G]?=u7 (.ins "Course" (VQ .AA n H LV yt)):=Qz 0
def Tr:(ZE G n H LV yt s)[lN G+1]?=u7 (.lst (tab n s.WC)):=Qz 1
def Xk:(csT i n H LV yt s)[2+j]?=((zV n).map (λk=>DO.lst .J4)++[.lst .HG,.lst .FB,.lst s.XV])[j]? :=by
 have e:2+j=j+1+1:=.a
 rw[e]
 rfl
def c7(hk:k<n):(ZE G n H LV yt s)[lN G+(2+k)]?=u7 (.lst .J4):=by
 rw[Qz,Xk,zE (by simpa using hk),zG,qq hk]
 rfl
def Z6:(ZE G n H LV yt s)[lN G+(2+n)]?=u7 (.lst (Iu .AA n)):=by rw[Qz,Xk,zM .d];simp
def M3:(ZE G n H LV yt s)[lN G+(3+n)]?=u7 (.lst .FB):=by
 have e:3+n=2+(n+1):=.a
 rw[e,Qz,Xk,zM .d];simp
def csHe:(ZE G n H LV yt s)[lN G+(4+n)]?=u7 (.lst s.XV):=by
 have e:4+n=2+(n+2):=.a
 rw[e,Qz,Xk,zM .d];simp
def W0(j)(o):(ZE G n H LV yt s).set (lN G+j) o=G++(csT .AA n H LV yt s).set j o:=Yi _ j o
def csS1:(ZE G n H LV yt s).set (lN G+1) (.lst (tab n ca))=ZE G n H LV yt {s with WC:=ca}:=W0 1 _
def upd2(co:Nat->Nat->Int)(k:Nat)(r:Nat->Int):Nat->Nat->Int:=λi=>if i=k then r else co i
def c8:(csT i n H LV yt s).set (2+j) o=.ins "Course" (VQ i n H LV yt):: .lst (tab n s.WC)::((zV n).map (λk=>DO.lst .J4)++[DO.lst .HG,DO.lst .FB,DO.lst s.XV]).set j o:=by
 have e:2+j=j+1+1:=.a
 rw[e]
 rfl
def csSr(hk:k<n){r:Nat->Int}:(ZE G n H LV yt s).set (lN G+(2+k)) (.lst (tab 5 r))=ZE G n H LV yt {s with YB:=upd2 s.YB k r}:=by
 rw[W0,c8,List.set_append_left _ _ (by simpa using hk)]
 congr 3
 congr 1
 refine jA λi=>?_
 by_cases u:i<n
 .by_cases e:k=i
  .subst e;rw[q0 (by simpa using u),zG,qq u];simp[upd2]
  rw[zP e,zG,qq u,zG,qq u];have:i≠k:=λz=>e z.symm
  simp[upd2,this]
 rw[zy .e,zy .e]
def Vt:(ZE G n H LV yt s).set (lN G+(3+n)) (.lst .GY)=ZE G n H LV yt {s with WA:=pg}:=by
 have e:3+n=2+(n+1):=.a
 rw[e,W0,c8,xY _ _ .d];unfold ZE csT;simp
def csSe{q:List D}:(ZE G n H LV yt s).set (lN G+(4+n)) (.lst q)=ZE G n H LV yt {s with XV:=q}:=by
 have e:4+n=2+(n+2):=.a
 rw[e,W0,c8,xY _ _ .d];unfold ZE csT;simp
def Kz:Gq "Course" "house" .JG .Aa=.ok H (ZE G n H LV yt s):=Hi Lw rfl
def mj:Gq "Course" "levels" .JG .Aa=.ok LV (ZE G n H LV yt s):=Hi Lw rfl
def ml:Gq "Course" "year_turn" .JG .Aa=.ok (.int yt) (ZE G n H LV yt s):=Hi Lw rfl
def Xy:Gq "Course" "came" .JG .Aa=.ok (.ref (lN G+1)) (ZE G n H LV yt s):=Hi Lw rfl
def mq:Gq "Course" "coming" .JG .Aa=.ok (.ref (lN G+(2+n))) (ZE G n H LV yt s):=Hi Lw rfl
def Pj:Gq "Course" "page" .JG .Aa=.ok (.ref (lN G+(3+n))) (ZE G n H LV yt s):=Hi Lw rfl
def LH:Gq "Course" "reaches" .JG .Aa=.ok (.ref (lN G+(4+n))) (ZE G n H LV yt s):=Hi Lw rfl
def La{m:Str}{F:List D->DH->R D}{t:DA}(q:∀i,(VQ i n H LV yt).lookup m=u8):Su "Course" m F t S .JG .Aa=(t S .Aa).bind λds u=>F (.ref (lN G)::ds) u:=bI Lw (q _)
def mr:∀i,(VQ i n H LV yt).lookup ("send":Str)=u8:=λ_=>rfl
def c9:∀i,(VQ i n H LV yt).lookup ("send_down":Str)=u8:=λ_=>rfl
def LI:∀i,(VQ i n H LV yt).lookup ("go_basin":Str)=u8:=λ_=>rfl
def LJ:∀i,(VQ i n H LV yt).lookup ("go_reach":Str)=u8:=λ_=>rfl
def LK:∀i,(VQ i n H LV yt).lookup ("go":Str)=u8:=λ_=>rfl
def LM:∀i,(VQ i n H LV yt).lookup ("state_behind":Str)=u8:=λ_=>rfl
def Mg{d:D}(q:∀m,XG m d=u9):tidy .Aa (.ok d (ZE G n H LV yt s'))=.ok d (ZE G n H LV yt s'):=Td (by rw[mi,mi]) (q _)
def LN(hk:k<n):ZJ .HG k=zR (i+(2+k)):=Ef rfl (by unfold Iu;rw[zG,qq hk];rfl)
def LO{l:List Int}:(Dt n pg).set k (Jt l)=Dt n λi=>if i=k then l else pg i:=by
 unfold Dt;refine jA λi=>?_
 by_cases q:i<n
 .by_cases e:k=i
  .subst e;rw[q0 (by simpa using q),zG,qq q];simp
  rw[zP e,zG,qq q,zG,qq q];have:i≠k:=λz=>e z.symm
  simp[this]
 rw[zy .e,zy .e]
@[simp]theorem LP:lN .GY=n:=by simp[Dt]
def Cs.send(s:Cs)(to dl:Nat)(c:Int):Cs:=if dl=0 then{s with WC:=WD s.WC to (s.WC to+c)}else{s with YB:=upd2 s.YB to (WD (s.YB to) (dl-1) (s.YB to (dl-1)+c))}
def mv{w q:Nat}{c:Int}(u:w<n)(hd:q<=5):Ue [.ref .AA,.int w,.int q,.int c] .Aa=.ok .WB (ZE G n H LV yt (s.send w q c)):=by
 unfold Ue iX;rw[Ag];by_cases y:q=0
 .subst y;simp[Xy,X6 Tr (H8 u),Tr,Jg,u,Qf,csS1,Cs.send,Mg]
 have e:(q-1)=((q-1:Nat):Int):=.a
 have x:q-1<5:=.a
 simp[y,mq,Z6,LN u,e,X6 (c7 u) (H8 x),c7 u,Jg,x,Qf,csSr u,Cs.send,Mg]
end
def Hs.Ew(h:Hs)(s:Cs)(k:Nat)(c:Int):Cs:=match h.dn k with
 |none=>s
 |some d=>s.send d (h.pl k).dl c
section
variable{G:DH}{h:Hs}{lv:Nat->Int}{yt:Int}{s:Cs}
def cf(g:XB h)(hk:k<h.n){c:Int}:R7 [.ref .AA,.int k,.int c] .Ak=.ok .WB (ZE G h.n h.enc LV yt (h.Ew s k c)):=by
 unfold R7 iZ;rw[Ag];rcases q:h.dn k with _|d
 .simp[Kz,Qk g hk,q,WR,Hs.Ew,Mg]
 simp[Kz,Qk g hk,q,La mr,Ci,Hs.Hu hk,mv (g.dn k d hk q).2 (g.dl k hk),Hs.Ew,Mg]
def Vg{n:Nat}{b c d e f:Int}:(Dt n pg).set k (.tup [.int a,.int b,.int c,.int d,.int e,.int f])=Dt n λi=>if i=k then[a,b,c,d,e,f]else pg i:=LO (l:=[a,b,c,d,e,f])
def Hs.VA(h:Hs)(yt:Int)(lv:Nat->Int)(s:Cs)(k:Nat):Cs:=match(h.pl k).kd with
 |.VA XR rule ZP=>
  let w:=lv k+s.WC k;let st:=held yt rule [];let stays:=w-rv w st-pm w st;let XI:=min stays XR;let s1:Cs:={s with WA:=λi=>if i=k then[s.WC k,0,stays-XI,rv w st,pm w st,XI]else s.WA i};let s2:=h.Ew s1 k (rv w st+(stays-XI))
  match ZP with
  |none=>s2
  |some (to,dl,_)=>s2.send to dl (pm w st)
 |_=>s
def LQ(g:XB h)(hk:k<h.n)(C:(h.pl k).kd.ZH=u9):Uw [.ref .AA,.int k] .LC=.ok .WB (ZE G h.n h.enc .JS yt (h.VA yt lv s k)):=by
 obtain⟨x,y,w,z⟩:∃a b c,(h.pl k).kd=.VA a b c:=by
  cases e:(h.pl k).kd with
  |VA a b c=>exact#[a,b,c,rfl]
  |_=>rw[e]at C;cases C
 have B:∀u,Cg .JK .HH u=.ok (.int x) u:=λu=>by simp[Hs.ZB,z]
 have F:∀u,Cg .JK (.int 5) u=.ok (.tup (y.map Bb)) u:=λu=>by simp[Hs.ZB,z]
 have E:∀u,Cg .JK (.int 6) u=.ok (h.El w) u:=λu=>by simp[Hs.ZB,z]
 simp[Hs.VA,z];unfold Uw ic;rw[Ag];rcases hp:w with _|q
 .simp[Kz,Ci,Hs.Hu hk,Xy,Tr,H8 hk,F,ml,c_at,mj,mZ,B,Pj,M3,Jg,hk,Vg,Vt,La c9,cf g hk,E,hp,Hs.El,Mg]
 let#[J,I,mo]:=q;have A:=g.ZP k x y J I mo hk (by rw[z,hp]);simp[Kz,Ci,Hs.Hu hk,Xy,Tr,H8 hk,F,ml,c_at,mj,mZ,B,Pj,M3,Jg,hk,Vg,Vt,La c9,cf g hk,E,hp,Hs.El,La mr,cX g A.1,mv A.1 A.2.2,Mg]
end
def z3(ms:List Nat)(T L:Nat->Int):List D:=(zV .FR).map λi=>D.tup [.int (ms.getD i 0:Nat),.int .Ea,.int (L i)]
def LR{ms:List Nat}{L:Nat->Int}(j)(G):Ex [.fl .Bh,.fl (tab .FR T),.fl (tab .FR L)] j G=u7 (z3 ms T L)[j]? :=by
 unfold Ex z3;by_cases q:j<lN ms
 .have u:(Ax ms)[j]?=zI (ms.getD j 0):=by simp[Ax,zJ q]
  simp[Ii,u,Th q,qq q]
 have u:(Ax ms)[j]?=u8:=zy .e;have w:(zV .FR)[j]?=u8:=zy .e;simp[Ii,u,w]
def P'(T L:Nat->Int)(i:Nat):List Int:=[T i+L i,T i,0,L i,0,0]
def m?(ms:List Nat)(T L:Nat->Int)(pg:Nat->List Int)(i:Nat):Nat->List Int:=λk=>if k∈ms.take i then P' T L (ms.idxOf k)else pg k
def LS{ms:List Nat}{L:Nat->Int}:m? ms T L pg 0=pg:=by funext k;simp[m?]
def mw{ms:List Nat}(q:ms.Nodup)(w)(u:j<lN ms)(e:ms[i]=ms[j]):i=j:=by
 rcases jB i j with z|z|z
 .exact absurd e (qP.mp q i j w u z)
 .exact z
 exact absurd e.symm (qP.mp q j i u w z)
def cg{ms:List Nat}(w:ms.Nodup)(u):ms.idxOf ms[i]=i:=by have q:=qy (qX u);exact mw w q u (jW q)
def LU{ms:List Nat}(u:ms.Nodup){L:Nat->Int}(q:i<lN ms):m? ms T L pg (i+1)=λk=>if k=ms.getD i 0 then P' T L i else m? ms T L pg i k:=by
 have w:ms.getD i 0=ms[i]:=by simp[zJ q]
 funext k;rw[w];unfold m?;rw[List.take_succ_eq_append_getElem q];by_cases e:k=ms[i]
 .subst e;rw[if_pos rfl,if_pos (qW.mpr (.inr (qU.mpr rfl))),cg u q]
 rw[if_neg e];have:(k∈ms.take i++[ms[i]])↔k∈ms.take i:=by rw[qW,qU];exact#[λh=>h.elim id λz=>absurd z e,.inl]
 simp only[this]
section
variable{G:DH}{h:Hs}{LV:D}{yt:Int}
theorem mx(g:XB h){ms:List Nat}(C:∀k∈ms,k<h.n)(J:ms.Nodup)(u:ms.getLast?=u7 m){L:Nat->Int}{t:D}:∀q i x y z,i+q=lN ms->0<q->∃F M I,
  Ar .Lp Mj ((z3 ms T L).drop i) [zR .AA,zF .Bh,u7 r,u7 t,x,y,z] (ZE G h.n h.enc LV yt {s with WA:=m? ms T L s.WA i})=
   .nx [zR .AA,zF .Bh,u7 r,u7 t,F,M,I] (ZE G h.n h.enc LV yt (h.Ew {s with WA:=m? ms T L s.WA .FR} m (L (lN ms-1))))
 |0,i,x,y,z,e,X=>by lia
 | q + 1,i,x,y,z,e,X=>by
  have E:i<lN ms:=.a
  have K:ms.getD i 0=ms[i]:=by simp[zJ E]
  have hk:ms.getD i 0<h.n:=by rw[K];exact C _ (qX E)
  have Q:(z3 ms T L).drop i=.tup [.int .Bv,.int .Ea,.int (L i)]::(z3 ms T L).drop (i+1):=by rw[zH (by simp[z3];exact E)];simp[z3]
  have A:ZJ .Bh (-1)=zI m:=by
   have hl:0<lN ms:=.a
   rw[CO .c .e];have e3:((-1)+(lN (Ax ms):Int)).toNat=lN ms-1:=.e
   simp only[e3];unfold Ax;rw[xj];have e4:ms[lN ms-1]' .a=m:=by have:=jC (l:=ms);rw[u,zJ .a]at this;exact(w4 this).symm
   rw[e4]
  have w:(λk=>if k=ms.getD i 0 then[T i+L i,T i,0,L i,0,0]else m? ms T L s.WA i k)=m? ms T L s.WA (i+1):=(LU J E).symm;rw[Q,Cj];rcases q with _|q
  .have O:i=lN ms-1:=.a
   have W:ms.getD i 0=m:=by have:=jC (l:=ms);rw[u,zJ .a]at this;rw[K];subst O;exact(w4 this).symm
   have N:Mj [zR .AA,zF .Bh,u7 r,u7 t,zI .Bv,zI .Ea,zI (L i)] (ZE G h.n h.enc LV yt {s with WA:=m? ms T L s.WA i})=
     .nx [zR .AA,zF .Bh,u7 r,u7 t,zI .Bv,zI .Ea,zI (L i)] (ZE G h.n h.enc LV yt (h.Ew {s with WA:=m? ms T L s.WA .FR} m (L (lN ms-1)))):=by
    have Z:i+1=lN ms:=.a
    rw[Z]at w;simp only[Mj,W]at hk w⊢;simp[Pj,M3,Jg,hk,Vg,w,Vt,A,La c9,cf g (C m (List.mem_of_getLast? u)),<-O]
   refine#[zI .Bv,zI .Ea,zI (L i),?_];rw[qY (by simp[z3];lia)];simp only[au,ar,aq,Ie,R.Jy,R.Lh,jI,N,Ti,q9,jx,if_true,Cz]
  have U:ms.getD i 0≠m:=λz=>by have P:=jC (l:=ms);rw[u,zJ .a]at P;rw[K,w4 P]at z;have:=mw J E .a z;lia
  have B:¬((ms.getD i 0):Int)=m:=.a
  have N:Mj [zR .AA,zF .Bh,u7 r,u7 t,zI .Bv,zI .Ea,zI (L i)] (ZE G h.n h.enc LV yt {s with WA:=m? ms T L s.WA i})=
    .nx [zR .AA,zF .Bh,u7 r,u7 t,zI .Bv,zI .Ea,zI (L i)] (ZE G h.n h.enc LV yt {s with WA:=m? ms T L s.WA (i+1)}):=by
   unfold Mj;generalize ms.getD i 0=a at hk w B;simp[Pj,M3,Jg,hk,Vg,w,Vt,A,B]
  let#[F,M,I,Y]:=mx g C J u (q+1) (i+1) (zI .Bv) (zI .Ea) (zI (L i)) .a .a;refine#[F,M,I,?_];simp only[au,ar,aq,Ie,R.Jy,R.Lh,jI,N,q9,jx,if_true];exact Y
def Hs.K9(h:Hs)(s:Cs)(m:Nat):Nat->Int:=shr .JN
def Hs.J0(h:Hs)(s:Cs)(m:Nat):Nat->Int:=WI .JN λi=>col Row.YC .JN i-h.K9 s m i
def Hs.reach(h:Hs)(s:Cs)(m:Nat):Cs:=
 let s1:=h.Ew {s with WA:=m? .AF .DD .Dq s.WA .Jf} m (h.J0 s m (lN .AF-1))
 {s1 with XV:=s1.XV++[.tup [.fl .K7,.fl ((h.rows .AF s.WC).map Row.enc)]]}
def Wx{n:Nat}{H:D}(q:∀m,ZA m ds=u9):freeze .Aa (.ok (.ref (lN .Aa)) (ZE G n H LV yt s++[.lst ds]))=.ok .CN (ZE G n H LV yt s):=Bd (q _)
def J6{ms:List Nat}:lN .D6=lN ms:=by simp[Hs.rows]
def LX(g:XB h)(F:m<h.n)(E:h.last m=m)(K:∀k,k<h.n->0<=s.WC k)(L:lN s.XV<=100):Y8 [.ref .AA,.fl .K7] .Ak=.ok .WB (ZE G h.n h.enc LV yt (h.reach s m)):=by
 have I:=Mw g (m:=m) K;have q:lN .JN<=40:=by have:=md (h:=h) (m:=m);have:=g.len;rw[J6];lia
 have N:=LD g (ms:=h.mem m) (λk hk=>#[(mem_iff.mp hk).1,λd J=>by exact mem_iff.mpr #[(Ld g J).2.1,by rw[<-K6 g J];exact(mem_iff.mp hk).2]]) (by rw[<-J6];exact q) (G:=ZE G h.n h.enc LV yt s) Tr
 have cs:=K2 I q .Ak;have cp:=mE I q (t:=.fl (tab (lN .JN) (shr .JN))) (G:=ZE G h.n h.enc LV yt s) rfl;rw[J6]at cs cp;let#[U,X,W,C]:=mx (G:=G) (LV:=LV) (yt:=yt) g (λk hk=>(mem_iff.mp hk).1) ((U5).imp λB=>qQ B) (mf g F E) (r:=.fl ((h.rows .AF s.WC).map Row.enc)) (t:=.fl .La) .Jf 0 u8 u8 u8 .a (xX (mem_iff.mpr #[F,E]))
 rw[LS,xJ]at C;have O:∀S u,Dr (Ex [.fl .K7,.fl .La,.fl (tab .Jf .Dq)]) .Lp Mj .Jf 0 S u=Ar .Lp Mj (z3 .AF .DD .Dq) S u:=λS u=>Tw LR (by simp[z3])
 have Q:shr .JN=h.K9 s m:=rfl;have M:WI .JN (λi=>col Row.YC .JN i-h.K9 s m i)=h.J0 s m:=rfl;rw[Q]at cs cp;rw[M]at cp;have y:∀w:Cs,w.XV=s.XV->lN w.XV<1000000:=λw e=>by rw[e];lia
 have A:∀w,∀k c,(h.Ew w k c).XV=w.XV:=λw k c=>by
  unfold Hs.Ew;rcases h.dn k with _|d
  .rfl
  simp[Cs.send];split<;>rfl
 have z:=y _ (A {s with WA:=m? .AF .DD .Dq s.WA .Jf} m (h.J0 s m (lN .AF-1)));simp[Hs.reach];generalize h.Ew {s with WA:=m? .AF .DD .Dq s.WA .Jf} m (h.J0 s m (lN .AF-1))=T at C z;simp[Y8,ip,Ag,Kz,Xy,N,Wx,cs,cp,Fy,Nk,lenOf,O,C,LH,csHe,z,csSe,Mg]
end
def Cs.NN(n:Nat)(s:Cs):Prop:=(∀k,k<n->0<=s.WC k)/\∀k j,k<n->j<5->0<=s.YB k j
def Cs.NN.send{n:Nat}(h:s.NN n){x u:Nat}{c:Int}(y:0<=c):(s.send x u c).NN n:=by
 unfold Cs.send;split
 .refine#[λk hk=>?_,h.2];simp[WD];split
  .rename_i e;subst e;have:=h.1 k hk;lia
  exact h.1 k hk
 refine#[h.1,λk j hk q=>?_];simp[upd2];split
 .rename_i e;subst e;simp[WD];split
  .rename_i w;subst w;have:=h.2 k _ hk q;lia
  exact h.2 k j hk q
 exact h.2 k j hk q
def Cs.NN.down{n:Nat}(h:s.NN n){hs:Hs}{c:Int}(q:0<=c):(hs.Ew s k c).NN n:=by
 unfold Hs.Ew;rcases hs.dn k with _|d
 .exact h
 exact h.send q
def my{s:VC}:0<=VW w s:=Int.le_max_left ..
theorem ci{w:Int}:∀{st:List VC},0<=rv w st
 |[]=>zU _
 |s::r=>by
  have u:=ci (w:=w) (st:=r);have q:=my (w:=w) (s:=s);unfold rv
  split<;>lia
theorem cq{w:Int}:∀{st:List VC},0<=pm w st
 |[]=>zU _
 |s::r=>by
  have u:=cq (w:=w) (st:=r);have q:=my (w:=w) (s:=s);unfold pm
  split<;>lia
def Cs.NN.WA{n:Nat}(h:s.NN n):({s with WA:=pg}).NN n:=h
def W4{q u:Nat}{c:Int}:(s.send q u c).XV=s.XV/\(s.send q u c).WA=s.WA:=by
 unfold Cs.send
 split<;>exact#[rfl,rfl]
def Nr{c:Int}:(h.Ew s k c).XV=s.XV/\(h.Ew s k c).WA=s.WA:=by
 unfold Hs.Ew;rcases h.dn k with _|d
 .exact#[rfl,rfl]
 exact W4
section
variable{h:Hs}{yt:Int}{lv:Nat->Int}{s:Cs}
theorem LY(hs:s.NN h.n):(h.VA yt lv s k).NN h.n:=by
 unfold Hs.VA;cases(h.pl k).kd with
 |VA y u x=>
  have z:=ci (w:=lv k+s.WC k) (st:=held yt u []);rcases x with _|q
  .exact hs.WA.down .a
  exact Cs.NN.send (hs.WA.down .a) (cq)
 |_=>exact hs
theorem LZ:(h.VA yt lv s k).XV=s.XV:=by
 unfold Hs.VA;cases(h.pl k).kd with
 |VA w x u=>
  rcases u with _|q
  .rw[Nr.1]
  rw[W4.1,Nr.1]
 |_=>rfl
theorem Zy(x:(h.pl k).kd.ZH=u9):lN ((h.VA yt lv s k).WA k)=6/\∀i,i≠k->(h.VA yt lv s k).WA i=s.WA i:=by
 unfold Hs.VA;cases e:(h.pl k).kd with
 |VA y z u=>
  rcases u with _|q
  .rw[Nr.2];exact#[.d,λi w=>by simp[w]]
  rw[W4.2,Nr.2];exact#[.d,λi w=>by simp[w]]
 |_=>rw[e]at x;cases x
def L2(g:XB h)(hs:s.NN h.n)(u:i<lN .AF):0<=h.J0 s m i:=by have q:=Vd (Mw g (m:=m) hs.1);have:=q.p0 i (J6▸u);rw[q.pg]at this;exact this
def L3(g:XB h)(w:m<h.n)(u:h.last m=m)(hs:s.NN h.n):(h.reach s m).NN h.n:=by have q:=xX (mem_iff.mpr #[w,u]);exact Cs.NN.down hs.WA (L2 g hs .a)
def L4:lN (h.reach s m).XV=lN s.XV+1:=by simp only[Hs.reach,qw,xK];rw[Nr.1]
def Pn:(h.reach s m).WA k=if k∈h.mem m then P' .DD .Dq ((h.mem m).idxOf k)else s.WA k:=by unfold Hs.reach;rw[Nr.2];unfold m?;rw[qM .AK]
def Hs.step(h:Hs)(yt:Int)(lv:Nat->Int)(s:Cs)(k:Nat):Cs:=if(h.pl k).kd.ZH=u9 then h.VA yt lv s k else if h.last k=k then h.reach s k else s
def Hs.goF(h:Hs)(yt:Int)(lv:Nat->Int):Nat->Nat->Cs->Cs
 |0,_,s=>s
 |m+1,k,s=>h.goF yt lv m (k+1) .EI
def mz(g:XB h)(hk:k<h.n)(hs:s.NN h.n):(h.step yt lv s k).NN h.n:=by
 unfold Hs.step;split
 .exact LY hs
 split
 .rename_i e;exact L3 g hk e hs
 exact hs
def L5:lN (h.step yt lv s k).XV<=lN s.XV+1:=by
 unfold Hs.step;split
 .rw[LZ];lia
 split
 .rw[L4];lia
 lia
end
section
variable{G:DH}{h:Hs}{yt:Int}{lv:Nat->Int}
theorem Yq{w z:Type}{f u:w->Option z}:∀{l:List w},(∀x∈l,f x=u x)->l.filterMap f=l.filterMap u
 |[],_=>rfl
 |x::l,q=>by rw[qD,qD,q x zW,Yq λy A=>q y (zZ _ A)]
def L6(y:Al 2 [2] S=[u8,u8,zI k])(G):By (Ec 0 (.fl (tab h.n λi=>.AW))) .Ld Tj Vf (Al 2 [2] S) h.n 0 G=.ok (Ax .GZ) G:=by
 have w:Cw (tab h.n λi=>.AW)=(zV h.n).map λ(i:Nat)=>D.tup [.int i,.int .AW]:=by refine qB (by simp[Cw]) λi A z=>by simp[Cw,tab]
 rw[Za (F:=λd=>match d with | .tup [.int i,.int e]=>if e=k then zI i else u8|_=>u8) (λj=>Yz j G) (λx u=>?_) (by rw[Jl];simp)]
 .congr 1
  rw[w,qC];unfold Hs.mem Ax;rw[<-List.filterMap_eq_filter,List.map_filterMap];refine Yq λi _=>?_
  by_cases e:h.last i=k
  .subst e;simp
  have q:¬(.AW=(k:Int)):=.a
  simp[Option.guard,e,q]
 rw[w]at u;let#[i,_,rfl]:=zw.mp u;refine#[[zI i,zI .AW,zI k],by rw[y];simp,?_];by_cases e:h.last i=k
 .refine .inr #[by simp[Tj,e],.int i,by unfold Vf;simp,by simp[e]]
 have q:¬(.AW=(k:Int)):=.a
 exact .inl #[by simp[Tj,q],by simp[q]]
theorem nA(g:XB h):∀m k s x y,k+m=h.n->s.NN h.n->lN s.XV<=k->∃A w,
  Ar .Le Qq ((Cw (tab h.n λi=>.AW)).drop k) [zR .AA,zF (tab h.n λi=>.AW),x,y] .LC=
   .nx [zR .AA,zF (tab h.n λi=>.AW),A,w] (ZE G h.n h.enc .JS yt .F5)
 |0,k,s,x,y,e,_,_=>#[x,y,by rw[qY (by rw[Jl];simp;lia),Cz];rfl]
 | m+1,k,s,x,y,e,hs,I=>by
  have hk:k<h.n:=.a
  have L:=g.len;have C:=L5 (h:=h) (yt:=yt) (lv:=lv) (s:=s) (k:=k);let#[A,w,K]:=nA g m (k+1) .EI .DL (zI .Am) .a (mz g hk hs) .a;refine#[A,w,?_];have E:(Cw (tab h.n λi=>.AW)).drop k=.tup [.int k,.int .Am]::(Cw (tab h.n λi=>.AW)).drop (k+1):=by rw[zH (by rw[Jl];simpa using hk)];simp[Cw,tab]
  have B:lN .GZ<=1000000:=by have:=md (h:=h) (m:=k);lia
  have F:Qq [zR .AA,zF (tab h.n λi=>.AW),zI k,zI .Am] .LC=
    .nx [zR .AA,zF (tab h.n λi=>.AW),zI k,zI .Am] (ZE G h.n h.enc .JS yt .EI):=by
   unfold Qq Hs.step;by_cases q:(h.pl k).kd.ZH=u9
   .simp[Kz,Ci,Hs.Hu hk,Jv,q,La LI,LQ g hk q]
   by_cases z:h.last k=k
   .have J:By (Ec 0 (.fl (tab h.n λi=>.AW))) .Ld Tj Vf (Al 2 [2] [zR .AA,zF (tab h.n λi=>.AW),zI k,zI k]) h.n 0 .LC=.ok (Ax .GZ) (ZE G h.n h.enc .JS yt s):=L6 rfl _;simp[Kz,Ci,Hs.Hu hk,Jv,q,z,La LJ,J,B,Wx,LX g hk z hs.1 (by omega)]
   have u:¬(.Am=(k:Int)):=.a
   simp[Kz,Ci,Hs.Hu hk,Jv,q,z,u]
  simp[E,Cj,F,if_true];exact K
def L7(g:XB h)(hs:s.NN h.n)(u:s.XV=[]):Xd [.ref .AA] .LC=.ok .WB (ZE G h.n h.enc .JS yt (h.goF yt lv h.n 0 s)):=by
 let#[z,y,w]:=nA (G:=G) (yt:=yt) (lv:=lv) g h.n 0 s u8 u8 .a hs (by simp[u]);rw[xJ]at w;unfold Xd ir;rw[Ag];have x:∀S q,Dr (Ec 0 (.fl (tab h.n λi=>.AW))) .Le Qq h.n 0 S q=Ar .Le Qq (Cw (tab h.n λi=>.AW)) S q:=λS q=>Tw Yz (by simp[Jl])
 simp[Kz,LB g,Wx,x,w,Mg]
end
def Fq(n:Nat)(co:Nat->Nat->Int):List D:=(zV n).map λk=>D.tup .KY
def ZG(n:Nat)(lv:Nat->Int)(co:Nat->Nat->Int):D:=.tup [.tup (tab n lv),.tup .EJ]
@[simp]theorem UP{n:Nat}:ZA m .EJ=u9:=Df λk _=>by simp
@[simp]theorem L8{n:Nat}:ZA m .GY=u9:=Df λk _=>LF
@[simp]theorem UQ{n:Nat}:lN .EJ=n:=by simp[Fq]
def H9(co:Nat->Nat->Int):Nat->Nat->Int:=λk j=>if j<4 then co k (j+1)else 0
def cs0(co:Nat->Nat->Int)(fl:Nat->Int):Cs:=#[λk=>fl k+co k 0,H9 co,λ_=>[],[]]
theorem tab5:tab 5 F=[.int (F 0),.int (F 1),.int (F 2),.int (F 3),.int (F 4)]:=rfl
def nB{c:Str}{fs:List (Str×D)}{d:D}(q:lN fs<1000):Ij c f .JG d S (G++ .ins c fs::L)=.nx S (G++ .ins c (Gu f d fs)::L):=by
 rw[Lx (by rw[Kq];rfl) q,U3]
 rfl
def L9{n:Nat}(G):By (Ex [.tup .Bw,.tup .EJ]) .Ld Ai bV (Al 2 [] S) n 0 G=.ok (tab n λk=>fl k+co k 0) G:=by
 have q:Es .Bw .EJ=(zV n).map λi=>D.tup [.int (fl i),.tup (tab 5 (co i))]:=by refine qB (by simp[Es]) λi y w=>by simp[Es,tab,Fq]
 rw[Za (F:=λd=>match d with | .tup [.int c,.tup (.int a::_)]=>zI (c+a)|_=>u8) (λj=>Uo (K7) (K7) j) (λx u=>?_) (by rw[q];simp)]
 .congr 1
  rw[q,qC];show(zV n).filterMap (λi=>zI (fl i+co i 0))=_;rw[jX]
  rfl
 rw[q]at u;let#[i,_,rfl]:=zw.mp u;refine#[[zI (fl i),zT (tab 5 (co i))],by simp[Al],.inr #[rfl,.int (fl i+co i 0),?_,by simp[tab5]]];simp[bV,tab5]
def Lc(G):Vb [zT .KY] G=.ok .JG (G++[.lst .KZ]):=by have q:cutD .KY .Ga u8=[.int (co k 1),.int (co k 2),.int (co k 3),.int (co k 4)]:=rfl;have w:Dw (.fl [.int (co k 1),.int (co k 2),.int (co k 3),.int (co k 4)]) (.fl [.int 0]) G=.ok .JG (G++[.lst .KZ]):=rfl;simp[Vb,q,Gk,Bd,w,Ce]
theorem nC{n:Nat}:∀m k G,k+m=n->Bj .AQ Ai Vb [u8] ((Fq n co).drop k) G=.ok ((zV m).map λj=>D.ref (lN G+j)) (G++(zV m).map λj=>DO.lst (tab 5 (H9 co (k+j))))
 |0,k,G,e=>by rw[qY .e];simp[Bj]
 | m+1,k,G,e=>by
  have q:(Fq n co).drop k=.tup (tab 5 .C4)::(Fq n co).drop (k+1):=by rw[zH .e];simp[Fq]
  simp only[q,Li,Ie,R.Jy,jI,Pa,if_true,Lc,nC (n:=n) m (k+1) (G++[.lst .KZ]) (by omega)]
  congr 1
  .rw[jJ,zk,qJ]
   congr 1
   refine qk λj _=>?_
   simp only[qw,xK]
   congr 1
   lia
  rw[jJ,zk,qJ,j7]
  congr 1
  show _::_=_::_
  congr 1
  refine qk λj _=>?_
  congr 3
  lia
def Ll{d:D}(j:(["house","levels","year_turn","came","coming","page","reaches"]:List Str)[lN ds]?=u7 f):Ij "Course" f .JG d S (G++ .ins "Course" (cfl ds)::L)=.nx S (G++ .ins "Course" (cfl (ds++[d]))::L):=by
 rw[nB (by unfold cfl;rw[List.length_zip];exact Nat.lt_of_le_of_lt (Nat.min_le_left ..) .c)]
 rcases ds with _|⟨a,_|⟨b,_|⟨c,_|⟨e,_|⟨i,_|⟨k,_|⟨m,ds⟩⟩⟩⟩⟩⟩⟩<;>cases j<;>rfl
def Lm(g:XB h):
  Rg [.ref .AA,h.enc,ZG h.n lv co,.int at_,.tup .Ax] (G++[.ins "Course" []])=.ok .WB (ZE G h.n h.enc .JS (at_%h.yr) .FC):=by
 have hn:=g.len;have E:h.n<=1000000:=.a
 have hz:∀y,Fy 2 [.tup .Ax,.tup (Fq h.n co)] y=.ok (.fn h.n (Ex [.tup .Ax,.tup (Fq h.n co)])) y:=λy=>by simp[Rf K7 K7]
 have K:=λy=>nC (n:=h.n) (co:=co) h.n 0 y .a
 simp at K;have P:∀S:ZK,Al 1 [] S=[u8]:=λ_=>rfl
 have T:zK h.n D.WB=Dt h.n λ_=>[]:=qB .d λi I h2=>by simp[Jt,Dt]
 have M:∀(a b c:DO)w,lN w=h.n->tidy (G++a::b::(w++[c])) (Jk (.ref (lN G+(h.n+1+1+1))) .Fq (G++a::b::(w++[c,.lst [.WB]])))=.ok (.ref (lN G+(h.n+1+1+1))) (G++a::b::(w++[c,.lst (Dt h.n λ_=>[])])):=λa b c w e=>by
  have:∀Q:DH,tidy Q (Jk (.ref (lN Q)) .Fq (Q++[.lst [.WB]]))=.ok (.ref (lN Q)) (Q++[.lst (Dt h.n λ_=>[])]):=λQ=>by rw[gZ (by rw[Kq];rfl) .a,T];simpa using Zi _ rfl L8
  simpa[e]using this (G++a::b::(w++[c]))
 have N:∀(a b c d:DO)w,lN w=h.n->tidy (G++a::b::(w++[c,d])) (.ok (.ref (lN G+(h.n+1+1+1+1))) (G++a::b::(w++[c,d,.lst []])))=.ok (.ref (lN G+(h.n+1+1+1+1))) (G++a::b::(w++[c,d,.lst []])):=λa b c d w e=>by simpa[e]using Ce (G:=G++a::b::(w++[c,d])) rfl
 rw[show G++[DO.ins "Course" []]=G++DO.ins "Course" (cfl [])::[]from rfl]
 simp[Rg,iW,Ag,ZG,Vm,g.yr,Ll,hz,L9,Aq,E,P,K,M,N];rw[bJ λz=>?_]
 .simp[ZE,csT,VQ,show 2+h.n=h.n+1+1 by lia,show 3+h.n=h.n+1+1+1 by lia,show 4+h.n=h.n+1+1+1+1 by lia,Iu,cs0,Nat.add_assoc]
 have I:=congrArg (λl:DH=>l[lN G]?) z;simp[List.take_append]at I;cases I
section
variable{h:Hs}{yt:Int}{lv:Nat->Int}
theorem cw(g:XB h):∀m k,h.n<=m+k->h.last k=k\/(h.pl .Am).kd.ZH=uA
 |0,k,e=>.inl (Il g (Ox .a))
 | m+1,k,e=>by
  rcases q:h.dir k with _|d
  .exact .inl (Il g q)
  have y:=Ld g q;rw[K6 g q];rcases cw g m d .a with z|z
  .refine .inr ?_;rw[z];unfold Hs.dir at q;cases u:h.dn k with
   |none=>rw[u]at q;cases q
   |some A=>
    rw[u]at q;simp only at q;split at q
    .cases q
    rename_i x;cases q;cases w:(h.pl d).kd.ZH with
    |false=>rfl
    |true=>exact absurd (.inr (.inr w)) x
  exact .inr z
theorem cx(g:XB h):∀m k,h.n<=m+k->h.last .Am=h.last k
 |0,k,e=>by have u:=Il g (k:=k) (Ox .a);rw[u,u]
 |m+1,k,e=>by
  rcases q:h.dir k with _|d
  .rw[Il g q,Il g q]
  have w:=Ld g q;rw[K6 g q];exact cx g m d .a
def Hs.done(h:Hs)(j k:Nat):Prop:=if(h.pl k).kd.ZH=u9 then k<j else h.last k<j
def Lo(g:XB h)(hk:k<h.n)(B:∀i,i<h.n->h.done k i->lN (s.WA i)=6):∀i,i<h.n->h.done (k+1) i->lN ((h.step yt lv s k).WA i)=6:=λi A w=>by
 unfold Hs.step;split
 .rename_i x;by_cases e:i=k
  .subst e;exact(Zy x).1
  rw[(Zy x).2 i e];refine B i A ?_;unfold Hs.done at w⊢;by_cases q:(h.pl i).kd.ZH=u9
  .rw[if_pos q]at w⊢;lia
  rw[if_neg q]at w⊢;rcases xy .AW k with z|z
  .exact z
  .have u:h.last i=k:=.a
   rcases cw g h.n i .a with y|y
   .rw[y]at u;exact absurd u e
   rw[u,x]at y;cases y
 rename_i x;split
 .rename_i C;rw[Pn];split
  .rfl
  rename_i E;refine B i A ?_;unfold Hs.done at w⊢;by_cases q:(h.pl i).kd.ZH=u9
  .rw[if_pos q]at w⊢;rcases xy i k with z|z
   .exact z
   .have u:i=k:=.a
    rw[u]at q;exact absurd q x
  .rw[if_neg q]at w⊢;rcases xy .AW k with z|z
   .exact z
   exact absurd (mem_iff.mpr #[A,.a]) E
 rename_i C;refine B i A ?_;unfold Hs.done at w⊢;by_cases q:(h.pl i).kd.ZH=u9
 .rw[if_pos q]at w⊢;rcases xy i k with z|z
  .exact z
  .have u:i=k:=.a
   rw[u]at q;exact absurd q x
 .rw[if_neg q]at w⊢;rcases xy .AW k with z|z
  .exact z
  .have u:h.last i=k:=.a
   have:=cx g h.n i .a;rw[u]at this;exact absurd this C
theorem nE(g:XB h):∀m k s,k+m=h.n->(∀i,i<h.n->h.done k i->lN (s.WA i)=6)->∀i,i<h.n->lN ((h.goF yt lv m k s).WA i)=6
 | 0,k,s,e,u,i,q=>u i q (by
   unfold Hs.done;split
   .lia
   have:=(Hy g i).2 q;lia)
 |m+1,k,s,e,u,i,q=>nE g m (k+1) _ .a (Lo g .a u) i q
theorem nF(g:XB h):∀m k s,k+m=h.n->s.NN h.n->(h.goF yt lv m k s).NN h.n
 |0,k,s,e,hs=>hs
 |m+1,k,s,e,hs=>nF g m (k+1) _ .a (mz g .a hs)
end
def XI(pg:Nat->List Int):Nat->Int:=λk=>(pg k).getD 5 0
theorem row6{l:List Int}(h:lN l=6):∃a b c d e f,l=[a,b,c,d,e,f]:=by
 match l,h with
 |[a,b,c,d,e,f],_=>exact#[a,b,c,d,e,f,rfl]
section
variable{G:DH}{h:Hs}{LV:D}{yt:Int}{s:Cs}
def Lu(w:∀k,k<h.n->lN (s.WA k)=6):Ek (lN G+(3+h.n)) .AQ Ai Yy (Al 1 [] S) h.n 0 .Ak=.ok (tab h.n .E2) (ZE G h.n h.enc LV yt s):=by
 have q:=fj (g:=gV 0) (c:=Ai) (te:=Yy) (S:=Al 1 [] S) (G:=ZE G h.n h.enc LV yt s) (F:=λd=>match d with | .tup [_,_,_,_,_,x]=>u7 x|_=>u8) M3 (λx q=>by let#[k,hk,rfl]:=zw.mp q;let#[a,b,c,d,e,f,u]:=row6 (w k .CH);rw[u];refine#[[u7 (Jt [a,b,c,d,e,f])],by simp[Al],.inr #[rfl,.int f,?_,rfl]];simp[Yy,Jt])
 rw[LP]at q;rw[q]
 congr 1
 unfold Dt;rw[qC];unfold tab;rw[<-jX];refine Yq λk hk=>?_
 let#[a,b,c,d,e,f,u]:=row6 (w k .CH);simp[Function.comp,u,Jt,XI]
def MA:Ek (lN G+(2+h.n)) .AQ Ai X8 (Al 1 [] S) h.n 0 .Ak=.ok (Fq h.n s.YB) (ZE G h.n h.enc LV yt s):=by
 have q:lN (Iu .AA h.n)=h.n:=by simp[Iu]
 have u:=fj (g:=gV 0) (c:=Ai) (te:=X8) (S:=Al 1 [] S) (G:=ZE G h.n h.enc LV yt s) (F:=λd=>match d with | .ref j=>zT (tab 5 (s.YB (j-(lN G+2))))|_=>u8) Z6 (λx u=>by
  let#[k,hk,rfl]:=zw.mp u;refine#[[zR (lN G+(2+k))],by simp[Al],.inr #[rfl,.tup .J4,?_,?_]]
  .simp[X8,c7 .CH]
  have e:lN G+(2+k)-(lN G+2)=k:=.a
  simp[e])
 rw[q]at u;rw[u]
 congr 1
 unfold Iu;rw[qC];unfold Fq;rw[<-jX];refine Yq λk hk=>?_
 have e:lN G+(2+k)-(lN G+2)=k:=.a
 simp[Function.comp,e]
def MB(g:XB h)(z:∀k,k<h.n->lN (s.WA k)=6):X5 [.ref .AA] .Ak=.ok .KU (ZE G h.n h.enc LV yt s):=by
 have A:=g.len;have q:h.n<=1000000:=.a
 have u:lN (Iu .AA h.n)=h.n:=by simp[Iu]
 have x:XG (lN .Ak) .KU=u9:=by simp[ZG]
 unfold X5 iu;rw[Ag];unfold ZG at x⊢;have w:Em (.ref (lN G+(3+h.n))) .Ak=.ok (.mt (lN G+(3+h.n))) (ZE G h.n h.enc LV yt s):=by simp[Em,M3]
 have y:Em (.ref (lN G+(2+h.n))) .Ak=.ok (.mt (lN G+(2+h.n))) (ZE G h.n h.enc LV yt s):=by simp[Em,Z6]
 simp[w,y,Pj,M3,Lu z,Aq,q,Wx,Ba,mq,Z6,u,MA,Ao]
def Hs.cs(h:Hs)(lv:Nat->Int)(co:Nat->Nat->Int)(at_:Int)(fl:Nat->Int):Cs:=h.goF (at_%h.yr) lv h.n 0 .FC
def nG{n:Nat}(q:∀k j,k<n->j<5->0<=co k j)(u:∀k,k<n->0<=fl k):(cs0 co fl).NN n:=by
 refine#[λk hk=>?_,λk j hk w=>?_]
 .have:=q k 0 hk .a;have:=u k hk;show 0<=fl k+co k 0;lia
 show 0<=if j<4 then co k (j+1)else 0
 split
 .exact q k (j+1) hk .a
 exact zU _
def Sq(g:XB h):∀k,k<h.n->lN ((h.cs lv co at_ fl).WA k)=6:=nE g h.n 0 _ .a λi u q=>by
 unfold Hs.done at q
 split at q<;>lia
def MC(g:XB h)(y:∀k j,k<h.n->j<5->0<=co k j)(z:∀k,k<h.n->0<=fl k)(G):
  Z9 [h.enc,ZG h.n lv co,.int at_,.tup .Ax] G=.ok (.tup [.tup (Dt h.n (h.cs lv co at_ fl).WA),ZG h.n (XI (h.cs lv co at_ fl).WA) (h.cs lv co at_ fl).YB]) G:=by
 have q:=L7 (G:=G) (lv:=lv) (yt:=at_%h.yr) g (nG y z) rfl;have u:Tu Rg "Course" [h.enc,ZG h.n lv co,.int at_,.tup .Ax] G=.ok .JG (ZE G h.n h.enc .JS (at_%h.yr) .FC):=by
  unfold Tu;rw[Lm g]
  rfl
 have x:h.goF (at_%h.yr) lv h.n 0 .FC=h.cs lv co at_ fl:=rfl;rw[x]at q;simp[Z9,iw,Ag,u,La LK,q,Pj,M3,La LM,MB g (Sq g),Ba];exact Hx (by simp[ZG])
end
abbrev St2:=(Nat->Int)×(Nat->Nat->Int)
def Hs.nxt(h:Hs)(s:St2)(a:Int)(fl:Nat->Int):St2:=(XI (h.cs s.1 s.2 a fl).WA,(h.cs s.1 s.2 a fl).YB)
def S'(n:Nat)(pg:Nat->List Int):D:=.tup .GY
@[simp]theorem MD{n:Nat}:XG m (S' n pg)=u9:=by simp[S']
@[simp]theorem UR{n:Nat}:XG m (ZG n lv co)=u9:=by simp[ZG]
def V0(g:XB h)(u:∀k j,k<h.n->j<5->0<=co k j)(q:∀k,k<h.n->0<=fl k):(h.cs lv co a fl).NN h.n:=nF g h.n 0 _ .a (nG u q)
structure WJ (rs rs':List Row):Prop where
 len:lN rs'=lN rs
 dn:∀k,Av rs' k=Av rs k
 rk:∀k,col Row.rank rs' k=col Row.rank rs k
theorem nH{a:List Row}(h:WJ rs a):∀m k,Im a m k=Im rs m k
 |0,k=>rfl
 |m+1,k=>by
  show k::_=k::_;rw[h.dn k];rcases Av rs k with _|d
  .rfl
  show k::Im a m d=k::Im rs m d;rw[nH h m d]
def WJ.way{a:List Row}(h:WJ rs a)(k):way a k=way rs k:=by unfold _W.way;rw[h.len,nH h]
def WJ.K?{a:List Row}(h:WJ rs a):K? a=K? rs:=by funext i j;unfold _W.K?;rw[h.rk,h.rk]
def WJ.ord{a:List Row}(h:WJ rs a):ord a=ord rs:=by unfold _W.ord;rw[h.len,h.K?]
theorem WJ.YS{a:List Row}(h:WJ rs a):∀m k F,YS a m k F=YS rs m k F
 |0,k,F=>rfl
 |m+1,k,F=>by show _W.YS a m (k+1) (YF F k (Av a k))=_W.YS rs m (k+1) .JQ;rw[h.dn k,WJ.YS h]
def WJ.WI{a:List Row}(h:WJ rs a)(F):WI a F=WI rs F:=by show _W.YS a (lN a) 0 F=_;rw[h.len,h.YS]
theorem nI{a:List Row}(h:WJ rs a):∀ks P T,(∀k∈ks,col Row.need a k=col Row.need rs k)->P? a ks P T=P? rs ks P T
 |[],P,T,_=>rfl
 |k::ks,P,T,b=>by
  have e:take1 a P k=take1 rs P k:=by unfold take1;rw[b k zW,h.way]
  show P? a ks (Ez P (way a k) .Iq) (WD T k .Iq)=_;rw[e,h.way,nI h ks _ _ λj c=>b j .Fj]
  rfl
theorem nJ(g:Reach rs):∀m k,lN rs<=m+k->∀b∈way rs k,∀c∈way rs b,c∈way rs k
 |0,k,h,b,a,c,f=>by
  rw[Fi g,Wl .a]at a;have e:b=k:=by simpa[Ip]using a
  rw[e]at f;exact f
 |m+1,k,h,b,a,c,f=>by
  rw[Fi g]at a⊢;rcases zj.mp a with rfl|a
  .rw[Fi g]at f;exact f
  rcases i:Av rs k with _|d
  .rw[i]at a;cases a
  rw[i]at a;have:=Gy g i;exact zZ _ (nJ g m d .a b a c f)
def Tn(e:Reach rs)(a:b∈way rs k)(d:c∈way rs b):c∈way rs k:=nJ e .AE k .a b a c d
theorem nK(g:Reach rs):∀m k,lN rs<=m+k->∀b∈way rs k,∀c∈way rs k,c∈way rs b\/b∈way rs c
 |0,k,h,b,a,c,f=>by
  rw[Fi g,Wl .a]at a f;have e:b=k:=by simpa[Ip]using a
  have n:c=k:=by simpa[Ip]using f
  subst e;subst n;exact .inl (KZ g _)
 |m+1,k,h,b,a,c,f=>by
  have i:=a;have j:=f;rw[Fi g]at a f;rcases zj.mp a with rfl|a
  .exact .inl j
  rcases zj.mp f with rfl|f
  .exact .inr i
  rcases l:Av rs k with _|d
  .rw[l]at a;cases a
  rw[l]at a f;have:=Gy g l;exact nK g m d .a b a c f
def cy(e:Reach rs)(a:b∈way rs k)(d:c∈way rs k):c∈way rs b\/b∈way rs c:=nK e .AE k .a b a c d
def ME(a:Reach rs)(h:Av rs k=u8):way rs k=[k]:=by rw[Fi a,h];rfl
def MW(rs:List Row)(one:Nat)(ks:List Nat)(A B:(Nat->Int)×(Nat->Int)):Prop:=
 ((∀i,B.1 i=A.1 i+ind 1 .C5 i)/\∀i,B.2 i=A.2 i)\/
 ∃k c,k∉ks/\(∀i,B.1 i=A.1 i+ind 1 .C5 i-ind 1 .AZ i)/\(∀i,B.2 i=A.2 i+ind 1 [k] i)/\c∈way rs one/\c∈way rs k/\c<lN rs/\A.1 c=0
def cz(c:Reach rs)(d:∀i,i<lN rs->0<=P i)(hk:k<lN rs):0<=take1 rs P k/\∀b∈way rs k,take1 rs P k<=P b:=by
 have f:=mV λb a=>d b (Qn c hk a).2
 have e:=c.need k;unfold take1;refine#[.a,λb a=>?_];have:=Wr (P:=P) a;lia
def nL(d:Reach rs)(a:∀i,i<lN rs->0<=P i)(hk:k<lN rs):∀i,i<lN rs->0<=Ez P .AZ .A4 i:=λi b=>by
 simp[Ez];split
 .rename_i c;have:=(cz d a hk).2 i c;lia
 exact a i b
def O7(a:0<=t):0<=ind t ws i/\ind t ws i<=t:=by
 unfold ind
 split<;>lia
theorem nM(a:Reach rs){one:Nat}:∀ks P T d w,ks.Nodup->(∀k∈ks,k<lN rs)->(∀i,i<lN rs->0<=P i)->(∀i,i<lN rs->0<=d i)->MW rs one ks (P,T) (d,w)->MW rs one [] (P? rs ks P T) (P? rs ks d w)
 |[],P,T,d,w,_,_,_,_,h=>h
 | k::ks,P,T,d,w,S,u,H,v,h=>by
  let#[L,I]:=qS.mp S;have hk:=u k zW;refine nM a ks _ _ _ _ I (λj Y=>u j (zZ _ Y)) (nL a H hk) (nL a v hk) ?_;have p:way rs k≠[]:=by simp[Fi a]
  rcases h with⟨f,m⟩|⟨q,c,B,f,m,c1,x,cn,F⟩
  .simp only at f m;let#[b,l,eb]:=cT (P:=P) p;let#[J,C,E]:=cT (P:=d) p;have Q:=Wr (P:=d) l;have Z:=Wr (P:=P) C;rw[f]at Q E;have i1:=O7 (t:=1) (ws:=way rs one) (i:=b) .c;have i2:=O7 (t:=1) (ws:=way rs one) (i:=J) .c;by_cases g:take1 rs d k=take1 rs P k
   .refine .inl #[λi=>?_,λi=>?_]
    .simp[g,Ez,f]
     split<;>lia
    simp[g,WD,m]
   have r:take1 rs d k=take1 rs P k+1:=by unfold take1 at g⊢;lia
   have N:take1 rs P k=P b:=by unfold take1 at r⊢;lia
   have A:b∈way rs one:=by apply Classical.byContradiction;intro M;have:ind 1 .C5 b=0:=if_neg M;unfold take1 at r;lia
   refine .inr #[k,b,L,λi=>?_,λi=>?_,A,l,(Qn a hk l).2,?_]
   .simp[r,Ez,f];by_cases n:i∈way rs k
    .have:ind 1 .AZ i=1:=if_pos n;rw[if_pos n,if_pos n];lia
    have:ind 1 .AZ i=0:=if_neg n;rw[if_neg n,if_neg n];lia
   .simp[WD,m,ind]
    split<;>lia
   simp[Ez,l];lia
  simp only at f m F;simp at B;have O:d c=0:=by rw[f];have r:ind 1 .C5 c=1:=if_pos c1;have N:ind 1 .Fr c=1:=if_pos x;lia
  have g:take1 rs d k=take1 rs P k/\(c∈way rs k->take1 rs P k=0):=by
   by_cases o:c∈way rs k
   .let#[a1,W]:=cz a H hk;let#[a3,X]:=cz a v hk;have:=W c o;have:=X c o;exact#[.a,λ_=>.a]
   refine#[?_,λh=>absurd h o];unfold take1;rw[KW λb l=>?_];rw[f];have:ind 1 .C5 b=ind 1 .Fr b:=by
    unfold ind;by_cases y:b∈way rs one
    .by_cases s:b∈way rs q
     .rw[if_pos y,if_pos s]
     .exfalso
      rcases cy a y c1 with z|z<;>first|exact o (Tn a l z)|exact s (Tn a x z)
    .by_cases s:b∈way rs q
     .exfalso
      rcases cy a s x with z|z<;>first|exact o (Tn a l z)|exact y (Tn a c1 z)
     rw[if_neg y,if_neg s]
   lia
  refine .inr #[q,c,B.2,λi=>?_,λi=>?_,c1,x,cn,?_]
  .simp[g.1,Ez,f]
   split<;>lia
  .simp[WD,m];split
   .rename_i e;have:ind 1 [q] i=0:=if_neg (by rw[e];simpa using(λe=>B.1 e.symm));lia
   rfl
  simp[Ez];split
  .rename_i K;rw[g.2 K];lia
  exact F
def Sh(rs:List Row)(W:Nat->Int):(Nat->Int)×(Nat->Int):=P? rs .CO (WI rs W) λ_=>0
def LeS(rs:List Row)(A B:(Nat->Int)×(Nat->Int)):Prop:=(∀i,A.2 i<=B.2 i)/\∀i,Av rs i=u8->A.1 i<=B.1 i
def MF(b:Reach rs)(d:∀i,0<=W i)(hk:k<lN rs):MW rs k [] .Gb (Sh rs λi=>W i+ind 1 [k] i):=by
 have e:WI rs (λi=>W i+ind 1 [k] i)=λi=>WI rs W i+ind 1 .AZ i:=Yw b .AE 0 k W .a .a hk
 unfold Sh;rw[e];have a:=λi=>cW (rs:=rs) .AE 0 W d i
 exact nM b .CO _ _ _ _ (mW rs) (λj c=>cP c) (λi _=>a i) (λi _=>by have:=O7 (t:=1) (ws:=way rs k) (i:=i) .c;have:=a i;show 0<=YS rs .AE 0 W i+ind 1 .AZ i;lia) (.inl #[λi=>rfl,λi=>rfl])
def MW.le(g:Reach rs){one:Nat}{A B:(Nat->Int)×(Nat->Int)}(h:MW rs one [] A B):LeS rs A B:=by
 rcases h with⟨b,f⟩|⟨q,c,_,b,f,c1,k,cn,m⟩
 .refine#[λi=>by rw[f];exact zU _,λi _=>?_];have:=O7 (t:=1) (ws:=way rs one) (i:=i) .c;rw[b];lia
 refine#[λi=>?_,λi l=>?_]
 .have:=O7 (t:=1) (ws:=[q]) (i:=i) .c;rw[f];lia
 rw[b];by_cases d:i∈way rs q
 .have a:i∈way rs one:=by
   rcases cy g d k with z|z
   .rw[ME g l]at z;have e:c=i:=by simpa using z
    rw[<-e];exact c1
   exact Tn g c1 z
  have n:ind 1 .C5 i=1:=if_pos a;have j:ind 1 .Fr i=1:=if_pos d;lia
 .have j:ind 1 .Fr i=0:=if_neg d;have:=O7 (t:=1) (ws:=way rs one) (i:=i) .c;lia
def LeS.trans{A B C:(Nat->Int)×(Nat->Int)}(b:LeS rs A B)(a:LeS rs B C):LeS rs A C:=#[λi=>jU (b.1 i) (a.1 i),λi c=>jU (b.2 i c) (a.2 i c)]
def LeS.refl{A:(Nat->Int)×(Nat->Int)}:LeS rs A A:=#[λ_=>zU _,λ_ _=>zU _]
theorem nN(b:Reach rs)(hk:k<lN rs):∀(m:Nat)W,(∀i,0<=W i)->LeS rs .Gb (Sh rs λi=>W i+ind m [k] i)
 | 0,W,a=>by
  have e:(λi=>W i+ind ((0:Nat)) [k] i)=W:=by
   funext i;unfold ind
   split<;>simp
  rw[e];exact .refl
 | m+1,W,a=>by
  have c:=(MF b (W:=λi=>W i+ind m [k] i) (λi=>by have:=O7 (t:=m) (ws:=[k]) (i:=i) .a;have:=a i;lia) hk).le b
  have e:(λi=>(W i+ind m [k] i)+ind 1 [k] i)=λi=>W i+ind ((m+1):Int) [k] i:=by
   funext i;unfold ind
   split<;>lia
  rw[e]at c;exact(nN b hk m W a).trans c
theorem nO(l:Reach rs){W':Nat->Int}(g:∀i,0<=W i)(a:∀i,W i<=W' i):∀j,j<=lN rs->LeS rs .Gb (Sh rs λi=>if i<j then W' i else W i)
 |0,_=>by simp;exact .refl
 | j+1,h=>by
  have f:=nN l (k:=j) .a (W' j-W j).toNat (λi=>if i<j then W' i else W i) λi=>by
   have:=g i;have:=a i
   split<;>lia
  have e:(λi=>(if i<j then W' i else W i)+ind ((W' j-W j).toNat) [j] i)=λi=>if i<j+1 then W' i else W i:=by
   funext i;simp[ind];by_cases c:i=j
   .subst c;have:=a i;simp;lia
   by_cases d:i<j
   .have b:i<j+1:=.a
    simp[c,d,b]
   have b:¬i<j+1:=.a
   simp[c,d,b]
  rw[e]at f;exact(nO l g a j .a).trans f
def MG(d:Reach rs){W':Nat->Int}(c:∀i,0<=W i)(a:∀i,W i<=W' i)(ho:∀i,¬i<lN rs->W' i=W i):LeS rs .Gb (Sh rs W'):=by
 have h:=nO d c a .AE .AK;have e:(λi=>if i<lN rs then W' i else W i)=W':=by
  funext i;split
  .rfl
  rename_i b;exact(ho i b).symm
 rw[e]at h;exact h
def nP{a:List Row}(b:WJ rs a)(c:∀k,col Row.need a k=col Row.need rs k):P? a (ord a) (WI a .FS) (λ_=>0)=Sh rs (col Row.YC a):=by unfold Sh;rw[b.ord,b.WI,nI b _ _ _ λk _=>c k]
def nQ{a:List Row}(b:WJ rs a)(c:∀k,col Row.need a k=col Row.need rs k):shr a=(Sh rs .FS).2:=by unfold shr;rw[nP b c]
def nR{a:List Row}(d:Reach a)(b:WJ rs a)(c:∀k,col Row.need a k=col Row.need rs k):WI a (λi=>col Row.YC a i-shr a i)=(Sh rs .FS).1:=by rw[<-(Vd d).pg,nP b c]
def Ad:Nat->(Nat->Int)->Int
 |0,_=>0
 |n+1,F=>Ad n F+F n
theorem Hk:∀{n:Nat}{F F':Nat->Int},(∀i,i<n->F i=F' i)->Ad n F=Ad n F'
 |0,_,_,_=>rfl
 |n+1,F,F',h=>by show Ad n F+F n=Ad n F'+F' n;rw[Hk λi a=>h i .a,h n .a]
theorem G7:∀{n:Nat}{F F':Nat->Int},Ad n (λi=>F i+F' i)=Ad n F+Ad n F'
 |0,_,_=>rfl
 |n+1,F,F'=>by show Ad n (λi=>F i+F' i)+(F n+F' n)=(Ad n F+F n)+(Ad n F'+F' n);rw[G7];lia
theorem M8:∀{n:Nat}{F:Nat->Int},(∀i,i<n->F i=0)->Ad n F=0
 |0,_,_=>rfl
 |n+1,F,h=>by show Ad n F+F n=0;rw[M8 λi a=>h i .a,h n .a];rfl
def Az(pg:Nat->List Int)(j:Nat):Int:=(pg j).getD 2 0+(pg j).getD 3 0
def Dm(pg:Nat->List Int)(j:Nat):Int:=(pg j).getD 4 0
def Hs.YV(h:Hs)(k:Nat):Option (Nat×Nat):=match(h.pl k).kd with
 |.VA _ _ (u7 (to,dl,_))=>u7 (to,dl)
 |_=>u8
def Hs.c1(h:Hs)(pg:Nat->List Int)(i j:Nat):Int:=if h.dir j=u8/\h.dn j=u7 i/\(h.pl j).dl=0 then Az pg j else 0
def Hs.o1(h:Hs)(pg:Nat->List Int)(i a j:Nat):Int:=(if h.dn j=u7 i/\(h.pl j).dl=a+1 then Az pg j else 0)+(if h.YV j=u7 (i,a+1)then Dm pg j else 0)
def Hs.VM(h:Hs)(yt:Int)(lv:Nat->Int)(k:Nat)(c:Int):List Int:=match(h.pl k).kd with
 |.VA XR rule _=>
  let w:=lv k+c;let st:=held yt rule [];let stays:=w-rv w st-pm w st
  [c,0,stays-min stays XR,rv w st,pm w st,min stays XR]
 |_=>[]
def Hs.Fp(h:Hs)(ca:Nat->Int)(m:Nat):Nat->Int:=shr .JL
def Hs.Ei(h:Hs)(ca:Nat->Int)(m:Nat):Nat->Int:=WI .JL λi=>col Row.YC .JL i-h.Fp ca m i
def MH{ms:List Nat}(e:∀k∈ms,ca k=ca' k):h.rows ms ca=h.rows ms ca':=by
 refine qk λk hk=>?_
 unfold Hs.row;rw[e k hk]
def nS{a:Nat}{c:Int}:(s.send a b c).WC i=s.WC i+(if a=i/\b=0 then c else 0):=by
 unfold Cs.send;by_cases d:b=0
 .simp[d,WD];by_cases e:i=a
  .subst e;simp
  rw[if_neg e,if_neg (λz=>e z.symm)];lia
 simp[d]
def nT{c:Int}{a:Nat}:(s.send d b c).YB i a=s.YB i a+(if d=i/\b=a+1 then c else 0):=by
 unfold Cs.send;by_cases g:b=0
 .simp[g]
 simp[g,upd2];by_cases e:i=d
 .subst e;simp[WD];by_cases f:a=b-1
  .rw[if_pos f,if_pos .a,f]
  rw[if_neg f,if_neg .a];lia
 rw[if_neg e,if_neg (λz=>e z.1.symm)];lia
def dA{c:Int}:(h.Ew s k c).WC i=s.WC i+(if h.dn k=u7 i/\(h.pl k).dl=0 then c else 0):=by
 unfold Hs.Ew
 rcases e:h.dn k with _|d<;>simp[nS]
def nU{c:Int}{a:Nat}:(h.Ew s k c).YB i a=s.YB i a+(if h.dn k=u7 i/\(h.pl k).dl=a+1 then c else 0):=by
 unfold Hs.Ew
 rcases e:h.dn k with _|d<;>simp[nT]
def nV(a:(h.pl k).kd.ZH=u9):h.dir k=u8:=by
 unfold Hs.dir
 rcases h.dn k with _|d<;>simp[a]
theorem Rq(e:h.dir k=u7 d):h.dn k=u7 d/\(h.pl k).dl=0/\(h.pl k).kd.ZH=uA/\(h.pl d).kd.ZH=uA:=by
 unfold Hs.dir at e;rcases a:h.dn k with _|c
 .rw[a]at e;cases e
 rw[a]at e;simp only at e;split at e
 .cases e
 rename_i b;cases e;refine#[rfl,.a,?_,?_]
 .cases z:(h.pl k).kd.ZH with
  |false=>rfl
  |true=>exact absurd (.inr (.inl z)) b
 cases z:(h.pl d).kd.ZH with
 |false=>rfl
 |true=>exact absurd (.inr (.inr z)) b
theorem Yx(d:(h.pl k).kd.ZH=uA):h.YV k=u8:=by
 unfold Hs.YV;cases e:(h.pl k).kd with
 |VA a b c=>rw[e]at d;cases d
 |_=>rfl
def nW(g:XB h)(e:h.last k=k):h.dir k=u8:=by
 rcases a:h.dir k with _|d
 .rfl
 have c:=Ld g a;have b:=K6 g a;have f:=(Hy g d).1;lia
def MI(g:XB h)(f:m<h.n)(e:h.last m=m):(h.mem m).idxOf m=lN .AF-1:=by have c:=mf g f e;have b:=xX (mem_iff.mpr #[f,e]);rw[jC,zJ .a]at c;have d:=cg ((U5 (h:=h) (m:=m)).imp λa=>qQ a) (i:=lN .AF-1) .a;rw[w4 c]at d;exact d
structure TI (h:Hs) (yt:Int) (lv:Nat->Int) (co:Nat->Nat->Int) (fl:Nat->Int) (k:Nat) (s:Cs):Prop where
 WC:∀i,i<h.n->s.WC i=fl i+co i 0+Ad k (h.c1 s.WA i)
 YB:∀i a,i<h.n->a<5->s.YB i a=H9 co i a+Ad k (h.o1 s.WA i a)
 VA:∀i,i<k->i<h.n->(h.pl i).kd.ZH=u9->s.WA i=h.VM yt lv i (s.WC i)
 reach:∀i,i<h.n->(h.pl i).kd.ZH=uA->h.last i<k->s.WA i=P' (h.Fp s.WC .AW) (h.Ei s.WC .AW) ((h.mem .AW).idxOf i)
section
variable{h:Hs}{yt:Int}{lv:Nat->Int}{co:Nat->Nat->Int}{fl:Nat->Int}
def dB(e:∀k∈h.mem m,ca k=ca' k):h.Fp ca m=h.Fp ca' m/\h.Ei ca m=h.Ei ca' m:=by
 have a:=MH (h:=h) e;have b:h.Fp ca m=h.Fp ca' m:=by unfold Hs.Fp;rw[a]
 refine#[b,?_];unfold Hs.Ei;rw[a,b]
def Ux(g:XB h)(hk:k∈h.mem m):k<=m:=by have b:=mem_iff.mp hk;have a:=(Hy g k).1;lia
def TI.next(t:TI h yt lv co fl k s)(r:∀i,s'.WC i=s.WC i+h.c1 s'.WA i k)(A:∀i a,s'.YB i a=s.YB i a+h.o1 s'.WA i a k)(u:∀i j,j<k->h.c1 s'.WA i j=h.c1 s.WA i j/\∀a,h.o1 s'.WA i a j=h.o1 s.WA i a j)
  (B:∀i,i<k+1->i<h.n->(h.pl i).kd.ZH=u9->s'.WA i=h.VM yt lv i (s'.WC i)) (R:∀i,i<h.n->(h.pl i).kd.ZH=uA->h.last i<k+1->s'.WA i=P' (h.Fp s'.WC .AW) (h.Ei s'.WC .AW) ((h.mem .AW).idxOf i)):TI h yt lv co fl (k+1) s':=
 #[λi l=>by
  show _=_+(Ad k (h.c1 s'.WA i)+_);rw[r,t.WC i l,Hk λj w=>(u i j w).1];lia,λi a l T=>by
  show _=_+(Ad k (h.o1 s'.WA i a)+_);rw[A,t.YB i a l T,Hk λj w=>(u i j w).2 a];lia,B,R]
def MJ(g:XB h)(hk:k<h.n)(t:TI h yt lv co fl k s):TI h yt lv co fl (k+1) (h.step yt lv s k):=by
 have ltk:∀{i},¬(h.last i=k)->h.last i<k+1->h.last i<k:=λa b=>by lia
 unfold Hs.step;by_cases B:(h.pl k).kd.ZH=u9
 .rw[if_pos B];have N:=nV B;have u:=(Zy (yt:=yt) (lv:=lv) (s:=s) B).2;obtain⟨H,o,y,M⟩:∃a b c,(h.pl k).kd=.VA a b c:=by
   cases e:(h.pl k).kd with
   |VA a b c=>exact#[a,b,c,rfl]
   |_=>rw[e]at B;cases B
  have J:(h.VA yt lv s k).WA k=h.VM yt lv k (s.WC k):=by
   unfold Hs.VA Hs.VM
   rcases y with _|⟨X,I,m⟩<;>simp[M,Nr.2,W4.2]
  have r:∀i,(h.VA yt lv s k).WC i=s.WC i+h.c1 (h.VA yt lv s k).WA i k:=λi=>by
   unfold Hs.c1 Az;rw[J];unfold Hs.VA Hs.VM;rcases y with _|⟨X,I,m⟩
   .simp[M,N,dA];split<;>lia
   have C:=g.ZP k H o X I m hk M;simp[M,N,nS,dA];rw[if_neg (show¬(X=i/\I=0) by lia)]
   split<;>lia
  have A:∀i a,(h.VA yt lv s k).YB i a=s.YB i a+h.o1 (h.VA yt lv s k).WA i a k:=λi a=>by
   unfold Hs.o1 Az Dm;rw[J];unfold Hs.VA Hs.VM Hs.YV
   rcases y with _|⟨X,I,m⟩<;>simp[M,nT,nU]<;>(repeat' split)<;>lia
  have p:∀i,i<=k->(h.VA yt lv s k).WC i=s.WC i:=λi l=>by rw[r];unfold Hs.c1;rw[if_neg λz=>by have:=g.dn k i hk z.2.1;lia];lia
  refine t.next r A (λi j w=>?_) (λi P l f=>?_) (λi l f F=>?_)
  .unfold Hs.c1 Hs.o1 Az Dm;rw[u j .a];exact#[rfl,λ_=>rfl]
  .by_cases x:i=k
   .subst x;rw[J,p i .AK]
   rw[u i x,p i .a];exact t.VA i .a l f
  have Z:=ltk (λx=>by
   rcases cw g h.n i .a with W|W
   .rw[<-x,W,f]at B;cases B
   rw[x,B]at W;cases W) F
  have hle:=(Hy g i).1;rw[u i .a,t.reach i l f Z];have:=dB (m:=h.last i) λj w=>(p j (by have:=Ux g w;lia)).symm
  rw[this.1,this.2]
 have L:(h.pl k).kd.ZH=uA:=by simpa using B
 rw[if_neg B];by_cases F:h.last k=k
 .rw [if_pos F];have v:Az (h.reach s k).WA k=h.J0 s k (lN .GZ-1):=by simp[Az,Pn,if_pos (mem_iff.mpr #[hk,F]),MI g hk F,P']
  have r:∀i,(h.reach s k).WC i=s.WC i+h.c1 (h.reach s k).WA i k:=λi=>by unfold Hs.c1;rw[v];simp[nW g F,Hs.reach,dA]
  have A:∀i a,(h.reach s k).YB i a=s.YB i a+h.o1 (h.reach s k).WA i a k:=λi a=>by unfold Hs.o1;rw[v,Yx L];simp[Hs.reach,nU]
  have p:∀i,i<=k->(h.reach s k).WC i=s.WC i:=λi l=>by rw[r];unfold Hs.c1;rw[if_neg λz=>by have:=g.dn k i hk z.2.1;lia];lia
  refine t.next r A (λi j w=>?_) (λi P l f=>?_) (λi l f Y=>?_)
  .by_cases E:j∈h.mem k
   .obtain⟨d,C⟩:∃d,h.dir j=u7 d:=by
     cases C:h.dir j with
     |some d=>exact#[d,rfl]
     |none=>
      have h1:=Il g C;have h2:=(mem_iff.mp E).2;lia
    have hs:=Rq C;simp[Hs.c1,Hs.o1,C,hs.2.1,Yx hs.2.2.1]
   unfold Hs.c1 Hs.o1 Az Dm;rw[Pn,if_neg E];exact#[rfl,λ_=>rfl]
  .have x:i≠k:=λx=>by rw[x,L]at f;cases f
   have E:i∉h.mem k:=λz=>by have h1:=(mem_iff.mp z).2;have h2:=Il g (nV f);lia
   rw[Pn,if_neg E,p i .a];exact t.VA i .a l f
  by_cases x:h.last i=k
  .rw[Pn,if_pos (mem_iff.mpr #[l,x]),x];have:=dB λj w=>(p j (Ux g w)).symm
   rw[<-this.1,<-this.2]
   rfl
  rw[Pn,if_neg λz=>x (mem_iff.mp z).2,t.reach i l f (ltk x Y)];have:=dB (m:=h.last i) λj w=>(p j (by have:=Ux g w;lia)).symm
  rw[this.1,this.2]
 rw[if_neg F];obtain⟨d,C⟩:∃d,h.dir k=u7 d:=by
  cases C:h.dir k with
  |some d=>exact#[d,rfl]
  |none=>exact absurd (Il g C) F
 have hs:=Rq C
 refine t.next (λi=>by simp[Hs.c1,C]) (λi a=>by simp[Hs.o1,hs.2.1,Yx hs.2.2.1]) (λi j w=>#[rfl,λ_=>rfl]) (λi P l f=>t.VA i ?_ l f) λi l f Y=>t.reach i l f (ltk (λx=>?_) Y)
 .have x:i≠k:=λx=>by rw[x,L]at f;cases f
  lia
 have:=cx g h.n i .a;rw[x]at this;exact F this
theorem nX(g:XB h):∀m k s,k+m=h.n->TI h yt lv co fl k s->TI h yt lv co fl h.n .F5
 |0,k,s,e,t=>by
  have a:k=h.n:=.a
  rw[a]at t;exact t
 |m+1,k,s,e,t=>nX g m (k+1) _ .a (MJ g .a t)
def Yv(g:XB h):TI h (at_%h.yr) lv co fl h.n (h.cs lv co at_ fl):=by
 refine nX g h.n 0 _ .a #[λi b=>?_,λi a b c=>?_,(λi b=>absurd b .a),(λi _ _ b=>absurd b .a)]
 .show fl i+co i 0=fl i+co i 0+0;lia
 show H9 co i a=H9 co i a+0;lia
end
theorem dD:∀{m:Nat}{F:Nat->Int},Ad (m+1) F=F 0+Ad m λj=>F (j+1)
 |0,F=>by show 0+F 0=F 0+0;lia
 |m+1,F=>by show Ad (m+1) F+F (m+1)=F 0+(Ad m (λj=>F (j+1))+F (m+1));rw[dD];lia
theorem dE:∀{n:Nat}{F:Nat->Int},Ad n F=((zV n).map F).sum
 |0,F=>rfl
 |n+1,F=>by show Ad n F+F n=_;simp[xk,dE]
theorem ZX{p:Nat->Bool}:∀{l:List Nat},((l.filter p).map F).sum=(l.map λi=>if p i=u9 then F i else 0).sum
 |[]=>rfl
 |a::l=>by by_cases h:p a=u9<;>simp[ZX,h]
theorem nY:∀{l:List Nat},Ad (lN l) (λj=>F (l.getD j 0))=(l.map F).sum
 |[]=>rfl
 |a::l=>by
  show Ad (lN l+1) _=_;rw[dD,zk,List.sum_cons,<-nY]
  rfl
theorem nZ(a:Reach rs):∀m k F i,YS rs m k F i=F i+Ad m λj=>if Av rs (k+j)=u7 i then YS rs m k F (k+j)else 0
 |0,k,F,i=>by show F i=F i+0;lia
 | m+1,k,F,i=>by
  have c:=nZ a m (k+1) .JQ;show YS rs m (k+1) .JQ i=F i+Ad (m+1) λj=>if Av rs (k+j)=u7 i then YS rs m (k+1) .JQ (k+j)else 0
  rw[dD];have hk:YS rs m (k+1) .JQ k=F k:=by
   rw[c k,M8]
   .unfold YF;rcases b:Av rs k with _|d
    .simp
    have:=Gy a b;simp[WD,show¬k=d by lia]
   intro j g;rw[if_neg];intro z;have:=Gy a z;lia
  have f:(λj=>if Av rs (k+(j+1))=u7 i then YS rs m (k+1) .JQ (k+(j+1))else 0)=λj=>if Av rs (k+1+j)=u7 i then YS rs m (k+1) .JQ (k+1+j)else 0:=by funext j;rw[show k+(j+1)=k+1+j by lia]
  rw[f];show _=F i+((if Av rs k=u7 i then YS rs m (k+1) .JQ k else 0)+_);rw[hk,c i];generalize Ad m _=X;unfold YF;rcases b:Av rs k with _|d
  .simp
  simp[WD];by_cases e:i=d
  .subst e;simp;lia
  rw[if_neg e,if_neg (λz=>e z.symm)];lia
def MK(a:Reach rs)(F)(i):WI rs F i=F i+Ad .AE λj=>if Av rs j=u7 i then WI rs F j else 0:=by have:=nZ a .AE 0 F i;simpa using this
section
variable{h:Hs}{yt:Int}{lv:Nat->Int}{co:Nat->Nat->Int}{fl:Nat->Int}
def ML:(h.mem m).Nodup:=(U5).imp λa=>qQ a
def Og{ms:List Nat}(a):(h.rows ms ca)[i]?=u7 (h.row ms ca ms[i]):=by
 unfold Hs.rows;rw[zG,zJ a]
 rfl
def n4{ms:List Nat}{q:Row->Int}(hk:k∈ms):col q .D6 (ms.idxOf k)=q (h.row ms ca k):=by have a:=qy hk;unfold col;rw[Og a,jW a]
def n8(g:XB h)(c)(hk:k∈h.mem m):(Av .JL i=u7 ((h.mem m).idxOf k))↔h.dir (h.mem m)[i]=u7 k:=by
 unfold Av;rw[Og c];show(h.dir (h.mem m)[i]).map _=_↔_;rcases b:h.dir (h.mem m)[i]with _|d
 .simp
 have a:d∈h.mem m:=mem_iff.mpr #[(Ld g b).2.1,by rw[<-K6 g b];exact(mem_iff.mp (qX c)).2];simp;constructor
 .intro z;rw[<-(jW (qy a)),<-(jW (qy hk))];simp only[z]
 intro z;rw[z]
def MN(g:XB h)(f:∀k,k<h.n->0<=ca k)(hk:k∈h.mem m):h.Ei ca m ((h.mem m).idxOf k)=ca k-h.Fp ca m ((h.mem m).idxOf k)+Ad h.n λj=>if h.dir j=u7 k then h.Ei ca m ((h.mem m).idxOf j)else 0:=by
 show WI .JL (λi=>col Row.YC .JL i-h.Fp ca m i) ((h.mem m).idxOf k)=_;rw[MK (Mw g (m:=m) f) (λi=>col Row.YC .JL i-h.Fp ca m i) ((h.mem m).idxOf k)];show col Row.YC .JL ((h.mem m).idxOf k)-h.Fp ca m ((h.mem m).idxOf k)+Ad _ (λj=>if Av .JL j=u7 ((h.mem m).idxOf k)then h.Ei ca m j else 0)=_
 rw[n4 hk]
 congr 1
 rw[J6];have o:Ad .Jf (λj=>if Av .JL j=u7 ((h.mem m).idxOf k)then h.Ei ca m j else 0)=Ad .Jf λj=>(λi=>if h.dir i=u7 k then h.Ei ca m ((h.mem m).idxOf i)else 0) ((h.mem m).getD j 0):=Hk λj b=>by
  have c:(h.mem m).getD j 0=(h.mem m)[j]:=by simp[zJ b]
  show _=(if h.dir ((h.mem m).getD j 0)=u7 k then _ else _);rw[c,cg ML b];by_cases a:h.dir (h.mem m)[j]=u7 k
  .rw[if_pos a,if_pos ((n8 g b hk).mpr a)]
  rw[if_neg a,if_neg λz=>a ((n8 g b hk).mp z)]
 rw[o,nY (F:=λi=>if h.dir i=u7 k then h.Ei ca m ((h.mem m).idxOf i)else 0),dE];have d:((h.mem m).map λi=>if h.dir i=u7 k then h.Ei ca m ((h.mem m).idxOf i)else 0).sum=((zV h.n).map λi=>if decide (h.last i=m)=u9 then(if h.dir i=u7 k then h.Ei ca m ((h.mem m).idxOf i)else 0)else 0).sum:=ZX;rw[d]
 congr 1
 refine qk λi r=>?_
 by_cases a:h.dir i=u7 k
 .have q:=(mem_iff.mp hk).2;have p:=K6 g a;rw[if_pos .e]
 simp[a]
theorem n9(g:XB h)(t:TI h yt lv co fl h.n s)(u:s.NN h.n)(hk:k<h.n):(s.WA k).getD 0 0=fl k+co k 0+Ad h.n λj=>if h.dn j=u7 k/\(h.pl j).dl=0 then Az s.WA j else 0:=by
 cases f:(h.pl k).kd.ZH with
 | true=>
  rw[t.VA k hk hk f];have p:(h.VM yt lv k (s.WC k)).getD 0 0=s.WC k:=by
   unfold Hs.VM;cases e:(h.pl k).kd with
   |VA a b c=>rfl
   |_=>rw[e]at f;cases f
  rw[p,t.WC k hk]
  congr 1
  refine Hk λj o=>?_
  unfold Hs.c1;by_cases i:h.dn j=u7 k/\(h.pl j).dl=0
  .have:h.dir j=u8:=by
    rcases l:h.dir j with _|d
    .rfl
    have hs:=Rq l;rw[i.1]at hs;have:=w4 hs.1;rw[<-this,f]at hs;cases hs.2.2.2
   rw[if_pos #[this,i],if_pos i]
  rw[if_neg i,if_neg λz=>i z.2]
 | false=>
  have p:(s.WA k).getD 0 0=h.Fp s.WC .Am ((h.mem .Am).idxOf k)+h.Ei s.WC .Am ((h.mem .Am).idxOf k):=by rw[t.reach k hk f ((Hy g k).2 hk)];rfl
  rw[p,MN g u.1 (mem_iff.mpr #[hk,rfl]),t.WC k hk];have q:(Ad h.n λj=>if h.dn j=u7 k/\(h.pl j).dl=0 then Az s.WA j else 0)=Ad h.n .Ir+Ad h.n λj=>if h.dir j=u7 k then h.Ei s.WC .Am ((h.mem .Am).idxOf j)else 0:=by
   rw[<-G7];refine Hk λj o=>?_
   unfold Hs.c1;rcases l:h.dir j with _|d
   .simp
   have hs:=Rq l;by_cases e:d=k
   .subst e;have ho:Az s.WA j=h.Ei s.WC (h.last d) ((h.mem (h.last d)).idxOf j):=by simp[Az,t.reach j o hs.2.2.1 ((Hy g j).2 o),K6 g l,P']
    rw[if_pos #[hs.1,hs.2.1],if_neg (λz=>nomatch z.1),if_pos rfl,ho]
    lia
   have v:¬(h.dn j=u7 k/\(h.pl j).dl=0):=λz=>by rw[hs.1]at z;exact e (w4 z.1)
   rw[if_neg v,if_neg (λz=>nomatch z.1),if_neg (λz=>e (w4 z))]
   lia
  rw[q];lia
end
theorem dF:∀{n m:Nat}{X:Nat->Nat->Int},Ad n (λk=>Ad m (X k))=Ad m λj=>Ad n λk=>X k j
 |0,m,X=>(M8 λ_ _=>rfl).symm
 |n+1,m,X=>by
  show Ad n (λk=>Ad m (X k))+Ad m (X n)=Ad m λj=>Ad n (λk=>X k j)+X n j
  rw[dF,<-G7]
theorem X7:∀{n:Nat},Ad n (λk=>if d=k then x else 0)=if d<n then x else 0
 |0=>rfl
 |n+1=>by
  show Ad n _+(if d=n then x else 0)=_;rw[X7];by_cases h:d=n
  .rw[if_neg (show¬d<n by lia),if_pos h,if_pos (show d<n+1 by lia)];lia
  rw[if_neg h];by_cases a:d<n
  .rw[if_pos a,if_pos (show d<n+1 by lia)];lia
  rw[if_neg a,if_neg (show¬d<n+1 by lia)];lia
def YI(F:Nat->Int):Int:=F 0+F 1+F 2+F 3+F 4
def Bu(n:Nat)(lv:Nat->Int)(co:Nat->Nat->Int):Int:=Ad n lv+Ad n λk=>YI .C4
def Uy(h:Hs)(pg:Nat->List Int)(k:Nat):Int:=(pg k).getD 1 0+(if h.dn k=u8 then Az pg k else 0)
def T'(h:Hs):Prop:=∀k b r,k<h.n->(h.pl k).kd=.VA b r u8->∀s∈r,∀t∈s.2,t.r=u9
theorem nc:∀{st:List VC},(∀t∈st,t.r=u9)->pm w st=0
 |[],_=>rfl
 |t::st,h=>by show(if t.r then 0 else VW w t)+pm w st=0;rw[if_pos (h t .d),nc λx a=>h x .Bm];rfl
theorem Zj:∀{r:List VU}{x:List VC},held t r x=x\/∃s∈r,held t r x=s.2
 |[],x=>.inl rfl
 | s::r,x=>by
  show held t r (if s.1<=t then s.2 else x)=x\/_;rcases Zj (x:=if s.1<=t then s.2 else x)with z|⟨b,hs,z⟩
  .by_cases a:s.1<=t
   .rw[if_pos a]at z;exact .inr #[s,.d,by show held t r (if s.1<=t then s.2 else x)=_;rw[if_pos a];exact z]
   exact .inl ((if_neg a)▸z)
  exact .inr #[b,zZ _ hs,z]
def add10{b c d e i g c' d' f:Int}:(a+i)+(b+g)+(c+c')+(d+d')+(e+f)=(a+b+c+d+e)+(i+g+c'+d'+f):=.a
section
variable{h:Hs}{yt:Int}{lv:Nat->Int}{co:Nat->Nat->Int}{fl:Nat->Int}
def U'(hp:T' h){b:Int}{r:List VU}(hk:k<h.n)(e:(h.pl k).kd=.VA b r u8):pm w (held yt r [])=0:=by
 refine nc λt a=>?_
 rcases Zj with z|⟨s,hs,z⟩
 .rw[z]at a;cases a
 rw[z]at a;exact hp k b r hk e s hs t a
theorem dG(g:XB h)(hp:T' h)(t:TI h yt lv co fl h.n s)(f:∀k,k<h.n->(h.pl k).kd.ZH=uA->lv k=0)(hk:k<h.n):
  lv k+(s.WA k).getD 0 0=(s.WA k).getD 1 0+Az s.WA k+Dm s.WA k+XI s.WA k/\(h.YV k=u8->Dm s.WA k=0):=by
 cases d:(h.pl k).kd.ZH with
 | true=>
  unfold Az Dm XI;rw[t.VA k hk hk d];unfold Hs.VM Hs.YV;cases e:(h.pl k).kd with
  |VA a b c=>
   refine#[by simp[List.getD];lia,λz=>?_];cases c with
   |some q=>cases z
   |none=>exact U' hp hk e
  |_=>rw[e]at d;cases d
 |false=>
  unfold Az Dm XI;rw[t.reach k hk d ((Hy g k).2 hk),f k hk d];refine#[?_,λ_=>rfl];simp[P',List.getD]
def MO(g:XB h)(l:j<h.n):Ad h.n (λk=>YI λa=>h.o1 pg k a j)=(if h.dn j≠u8/\0<(h.pl j).dl then Az pg j else 0)+(if h.YV j≠u8 then Dm pg j else 0):=by
 have A:∀k,YI (λa=>h.o1 pg k a j)=(if h.dn j=u7 k then(if 0<(h.pl j).dl then Az pg j else 0)else 0)+(match h.YV j with |some (f,_)=>if f=k then Dm pg j else 0|none=>0):=λk=>by
  have o:=g.dl j l;have t:((if h.dn j=u7 k/\(h.pl j).dl=0+1 then Az pg j else 0)+(if h.dn j=u7 k/\(h.pl j).dl=1+1 then Az pg j else 0)+(if h.dn j=u7 k/\(h.pl j).dl=2+1 then Az pg j else 0)+(if h.dn j=u7 k/\(h.pl j).dl=3+1 then Az pg j else 0)+(if h.dn j=u7 k/\(h.pl j).dl=4+1 then Az pg j else 0))=if h.dn j=u7 k then(if 0<(h.pl j).dl then Az pg j else 0)else 0:=by
   by_cases i:h.dn j=u7 k
   .simp[i,if_true]
    rcases(by lia:(h.pl j).dl=0\/(h.pl j).dl=1\/(h.pl j).dl=2\/(h.pl j).dl=3\/(h.pl j).dl=4\/(h.pl j).dl=5)with z|z|z|z|z|z<;>simp[z]
   simp[i]
  have s:((if h.YV j=u7 (k,0+1)then Dm pg j else 0)+(if h.YV j=u7 (k,1+1)then Dm pg j else 0)+(if h.YV j=u7 (k,2+1)then Dm pg j else 0)+(if h.YV j=u7 (k,3+1)then Dm pg j else 0)+(if h.YV j=u7 (k,4+1)then Dm pg j else 0))=match h.YV j with |some (f,_)=>if f=k then Dm pg j else 0|none=>0:=by
   rcases c:h.YV j with _|q
   .simp
   let#[f,dl]:=q;have v:1<=dl/\dl<=5:=by
    unfold Hs.YV at c;cases e:(h.pl j).kd with
    | VA b r p=>
     rw[e]at c;cases p with
     |none=>cases c
     |some p=>
      let#[x,y,w]:=p;cases c;exact(g.ZP j b r f dl w l e).2
    |_=>rw[e]at c;cases c
   simp;by_cases i:f=k
   .rcases(by lia:dl=1\/dl=2\/dl=3\/dl=4\/dl=5)with z|z|z|z|z<;>simp[z]
   simp[i]
  rw[<-t,<-s];exact add10
 rw[Hk (λk _=>A k),G7]
 congr 1
 .rcases o:h.dn j with _|d
  .exact M8 λ_ _=>rfl
  simp[X7,if_pos (g.dn j d l o).2]
 rcases c:h.YV j with _|q
 .exact M8 λ_ _=>rfl
 let#[f,dl]:=q;have m:f<h.n:=by
  unfold Hs.YV at c;cases e:(h.pl j).kd with
  | VA b r p=>
   rw[e]at c;cases p with
   |none=>cases c
   |some p=>
    let#[x,y,w]:=p;cases c;exact(g.ZP j b r f dl w l e).1
  |_=>rw[e]at c;cases c
 simp[X7,if_pos m]
def MP(g:XB h)(hp:T' h)(t:TI h yt lv co fl h.n s)(o:s.NN h.n)(c:∀k,k<h.n->(h.pl k).kd.ZH=uA->lv k=0):
  Bu h.n .E2 s.YB=Bu h.n lv co+Ad h.n fl-Ad h.n (Uy h s.WA):=by
 have w:Ad h.n (λk=>(s.WA k).getD 0 0)=Ad h.n fl+Ad h.n (λk=>co k 0)+Ad h.n λj=>if h.dn j≠u8/\(h.pl j).dl=0 then Az s.WA j else 0:=by
  rw[Hk (λk hk=>n9 g t o hk),G7,G7,dF]
  congr 1
  refine Hk λj e=>?_
  rcases p:h.dn j with _|d
  .exact M8 λ_ _=>rfl
  by_cases b:(h.pl j).dl=0
  .simp[X7,if_pos (g.dn j d e p).2,b]
  rw[M8 λk _=>by simp[b]];simp[b]
 have q:Ad h.n (λk=>YI .D5)=Ad h.n (λk=>YI .EK)+Ad h.n λj=>(if h.dn j≠u8/\0<(h.pl j).dl then Az s.WA j else 0)+(if h.YV j≠u8 then Dm s.WA j else 0):=by
  have m:∀k,k<h.n->YI .D5=YI .EK+Ad h.n λj=>YI λa=>h.o1 s.WA k a j:=λk hk=>by unfold YI;rw[t.YB k 0 hk .a,t.YB k 1 hk .a,t.YB k 2 hk .a,t.YB k 3 hk .a,t.YB k 4 hk .a,G7,G7,G7,G7];show _=_+(Ad h.n (h.o1 s.WA k 0)+Ad h.n (h.o1 s.WA k 1)+Ad h.n (h.o1 s.WA k 2)+Ad h.n (h.o1 s.WA k 3)+Ad h.n (h.o1 s.WA k 4));lia
  rw[Hk m,G7,dF]
  congr 1
  exact Hk λj e=>MO g e
 have i:=Hk λk hk=>(dG g hp t c hk).1
 have x:Ad h.n (λk=>YI .EK)+Ad h.n (λk=>co k 0)=Ad h.n λk=>YI (co k):=by
  rw[<-G7];refine Hk λk _=>?_
  simp[YI,H9];lia
 have r:Ad h.n (Uy h s.WA)+(Ad h.n (λj=>if h.dn j≠u8/\(h.pl j).dl=0 then Az s.WA j else 0)+Ad h.n λj=>(if h.dn j≠u8/\0<(h.pl j).dl then Az s.WA j else 0)+(if h.YV j≠u8 then Dm s.WA j else 0))=Ad h.n λk=>(s.WA k).getD 1 0+Az s.WA k+Dm s.WA k:=by
  rw[<-G7,<-G7];refine Hk λk hk=>?_
  unfold Uy;have v:(if h.YV k≠u8 then Dm s.WA k else 0)=Dm s.WA k:=by
   by_cases b:h.YV k=u8
   .simp[((dG g hp t c hk).2) b]
   rw[if_pos b]
  have u:(if h.dn k=u8 then Az s.WA k else 0)+((if h.dn k≠u8/\(h.pl k).dl=0 then Az s.WA k else 0)+(if h.dn k≠u8/\0<(h.pl k).dl then Az s.WA k else 0))=Az s.WA k:=by
   by_cases b:h.dn k=u8
   .simp[b]
   by_cases f:(h.pl k).dl=0
   .simp[b,f]
   simp[b,f]
   try lia
  lia
 rw[G7,G7]at i;unfold Bu;lia
end
theorem Ls:∀{n:Nat}{F F':Nat->Int},(∀i,i<n->F i<=F' i)->Ad n F<=Ad n F'
 |0,_,_,_=>zU _
 |n+1,F,F',h=>by
  have b:=Ls (n:=n) λi c=>h i .a
  have a:=h n .a;show Ad n F+F n<=Ad n F'+F' n;lia
def nh(h:w<=a){s:VC}:VW w s<=VW a s:=Int.max_le.mpr #[Int.le_max_left ..,jU (Int.le_min.mpr #[Int.min_le_left ..,jU (Int.min_le_right ..) (Int.sub_le_sub_right h _)]) (Int.le_max_right ..)]
theorem nj(h:w<=a):∀{st:List VC},rv w st<=rv a st
 |[]=>zU _
 |s::st=>by
  have c:=nj h (st:=st);have b:=nh h (s:=s);show(if s.r then VW w s else 0)+rv w st<=(if s.r then VW a s else 0)+rv a st
  split<;>lia
theorem nk(h:w<=a):∀{st:List VC},pm w st<=pm a st
 |[]=>zU _
 |s::st=>by
  have c:=nk h (st:=st);have b:=nh h (s:=s);show(if s.r then 0 else VW w s)+pm w st<=(if s.r then 0 else VW a s)+pm a st
  split<;>lia
def cXa{w h m:Int}(d:0<=m):max 0 (min m (w-h))=max w h-max w (h+m)+m:=by
 by_cases a:w<=h
 .rw[Int.max_eq_right a,Int.max_eq_right (jU a (Int.le_add_of_nonneg_right d)),Int.max_eq_left (jU (Int.min_le_right ..) (Int.sub_nonpos_of_le a))];lia
 rw[Int.max_eq_left (by lia:h<=w),Int.max_eq_right (Int.le_min.mpr #[d,.a])];clear d a;lia
theorem nq(h:w<=a):∀{st:List VC}{t:Int},Good t st->rv a st+pm a st-(rv w st+pm w st)<=max a t-max w t
 |[],t,_=>by show 0+0-(0+0)<=_;lia
 | s::st,t,b=>by
  let#[f,d,c]:=b;have g:=nq h c;have e:∀w,rv w (s::st)+pm w (s::st)=VW w s+(rv w st+pm w st):=λw=>by
   show(if s.r then VW w s else 0)+rv w st+((if s.r then 0 else VW w s)+pm w st)=_
   split<;>lia
  have k:=nh h (s:=#[t,s.h-t,u9]);simp only[VW,cXa (Int.sub_nonneg_of_le f)]at k;rw[show t+(s.h-t)=s.h by lia]at k
  rw[e,e];unfold VW;rw[cXa .a,cXa .a];lia
theorem nr{w:Int}:∀{st:List VC}{t:Int},Good t st->rv w st+pm w st<=max 0 (w-t)
 |[],t,_=>by show 0+0<=_;lia
 | s::st,t,a=>by
  let#[d,c,b]:=a;have f:=nr (w:=w) b;have e:rv w (s::st)+pm w (s::st)=VW w s+(rv w st+pm w st):=by
   show(if s.r then VW w s else 0)+rv w st+((if s.r then 0 else VW w s)+pm w st)=_
   split<;>lia
  rw[e];unfold VW;lia
section
variable{h:Hs}{yt:Int}{lv lv':Nat->Int}{co co':Nat->Nat->Int}{fl U?:Nat->Int}
def nv(g:XB h)(hk:k<h.n){b:Int}{r:List VU}(e:(h.pl k).kd=.VA b r q):Good 0 (held yt r []):=by
 rcases Zj with z|⟨s,hs,z⟩
 .rw[z];trivial
 rw[z];exact(g.XR k b r q hk e).2 s hs
end
structure ZR (h:Hs) (pg:Nat->List Int):Prop where
 row:∀k,k<h.n->∃a b c d e f,pg k=[a,b,c,d,e,f]/\0<=a/\0<=b/\0<=c/\0<=d/\0<=e/\0<=f
 XR:∀k b r q,k<h.n->(h.pl k).kd=.VA b r q->(pg k).getD 5 0<=b/\(0<(pg k).getD 2 0->(pg k).getD 5 0=b)
 XE:∀k a b,k<h.n->(h.pl k).kd=.XE a b->(pg k).getD 1 0<=a
 idleB:∀k,k<h.n->(h.pl k).kd.ZH=u9->(pg k).getD 1 0=0
 MQ:∀k,k<h.n->(h.pl k).kd.ZH=uA->(pg k).getD 2 0=0/\(pg k).getD 4 0=0/\(pg k).getD 5 0=0
structure StOk (h:Hs) (lv:Nat->Int) (co:Nat->Nat->Int):Prop where
 XQ:∀k,k<h.n->0<=lv k
 lvR:∀k,k<h.n->(h.pl k).kd.ZH=uA->lv k=0
 co0:∀k a,k<h.n->a<5->0<=co k a
section
variable{h:Hs}{yt:Int}{lv:Nat->Int}{co:Nat->Nat->Int}{fl:Nat->Int}
def dH(g:XB h)(t:TI h yt lv co fl h.n s)(i:s.NN h.n)(x:∀k,k<h.n->0<=lv k):ZR h s.WA:=by
 refine#[λk hk=>?_,λk b r q hk e=>?_,λk a b hk e=>?_,λk hk c=>?_,λk hk c=>?_]
 .cases c:(h.pl k).kd.ZH with
  | true=>
   rw[t.VA k hk hk c];unfold Hs.VM;cases e:(h.pl k).kd with
   |VA b r q=>
    have B:=x k hk;have o:=i.1 k hk;have A:=nr (w:=lv k+s.WC k) (nv (yt:=yt) g hk e);have z:=(g.XR k b r q hk e).1;exact#[_,_,_,_,_,_,rfl,o,zU _,.a,ci,cq,.a]
   |_=>rw[e]at c;cases c
  |false=>
   have f:=(Hy g k).2 hk;rw[t.reach k hk c f];have d:=Vd (Mw g (m:=h.last k) i.1);have l:0<=h.Fp s.WC .Am ((h.mem .Am).idxOf k):=d.t0 _;have u:0<=h.Ei s.WC .Am ((h.mem .Am).idxOf k):=by have:=d.p0 ((h.mem .Am).idxOf k) (J6▸qy (mem_iff.mpr #[hk,rfl]));rw[d.pg]at this;exact this
   exact#[_,_,_,_,_,_,rfl,.a,l,zU _,u,zU _,zU _]
 .have c:(h.pl k).kd.ZH=u9:=by rw[e];rfl
  simp[t.VA k hk hk c,Hs.VM,e,List.getD_cons_zero];lia
 .have c:(h.pl k).kd.ZH=uA:=by rw[e];rfl
  rw[t.reach k hk c ((Hy g k).2 hk)];have j:=(Vd (Mw g (m:=h.last k) i.1)).tn ((h.mem .Am).idxOf k);rw[n4 (mem_iff.mpr #[hk,rfl])]at j;have p:(h.row (h.mem .Am) s.WC k).need=a:=by show h.need k=a;unfold Hs.need;rw[e]
  rw[p]at j;exact j
 .rw[t.VA k hk hk c];unfold Hs.VM
  cases e:(h.pl k).kd<;>rfl
 rw[t.reach k hk c ((Hy g k).2 hk)];exact#[rfl,rfl,rfl]
def MR(g:XB h)(t:TI h yt lv co fl h.n s)(i:s.NN h.n)(p:∀k,k<h.n->0<=lv k):StOk h .E2 s.YB:=by have j:=dH g t i p;refine#[λk hk=>?_,λk hk l=>(j.MQ k hk l).2.2,i.2];let#[a,b,c,d,e,f,o,m]:=j.row k hk;unfold XI;rw[o];exact m.2.2.2.2.2
end
section
variable{h:Hs}{yt:Int}{lv lv':Nat->Int}{co co':Nat->Nat->Int}{fl U?:Nat->Int}
theorem nw(g:XB h)(hk:k<h.n)(d:(h.pl k).kd.ZH=u9){c c':Int}(l:0<=lv k+c)(a:lv k+c<=lv' k+c'):
  (h.VM yt lv k c).getD 2 0<=(h.VM yt lv' k c').getD 2 0/\(h.VM yt lv k c).getD 3 0<=(h.VM yt lv' k c').getD 3 0/\(h.VM yt lv k c).getD 4 0<=(h.VM yt lv' k c').getD 4 0/\(h.VM yt lv k c).getD 5 0<=(h.VM yt lv' k c').getD 5 0:=by
 unfold Hs.VM;cases e:(h.pl k).kd with
 |VA b r q=>
  have j:=nj a (st:=held yt r []);have i:=nk a (st:=held yt r []);have f:=nq a (nv (yt:=yt) g hk e);rw[Int.max_eq_left (jU l a),Int.max_eq_left l]at f;simp
  have k:∀D E:Int,D<=E->D-min D b<=E-min E b/\min D b<=min E b:=λ_ _ _=>.a
  refine#[(k _ _ ?_).1,j,i,(k _ _ ?_).2]<;>lia
 |_=>rw[e]at d;cases d
def ny{ms:List Nat}:WJ .D6 .Hm/\∀k,col Row.need .Hm k=col Row.need .D6 k:=by
 have e:∀i,(h.rows ms ca')[i]?=(h.rows ms ca)[i]?.map λ(r:Row)=>{r with YC:=ca' .Bv}:=λi=>by
  by_cases a:i<lN ms
  .have b:ms.getD i 0=ms[i]:=by simp[zJ a]
   rw[Og a,Og a,b]
   rfl
  rw[zy (by rw[J6];lia),zy (by rw[J6];lia)]
  rfl
 refine#[#[by rw[J6,J6],λk=>?_,λk=>?_],λk=>?_]
 .unfold Av;rw[e]
  cases(h.rows ms ca)[k]?<;>rfl
 .unfold col;rw[e]
  cases(h.rows ms ca)[k]?<;>rfl
 unfold col;rw[e]
 cases(h.rows ms ca)[k]?<;>rfl
def nz(g:XB h)(s:∀k,k<h.n->0<=ca k)(f:∀k,k<h.n->0<=ca' k)(e:∀k∈h.mem m,ca k<=ca' k):
  (∀i,h.Fp ca m i<=h.Fp ca' m i)/\(m<h.n->h.last m=m->h.Ei ca m ((h.mem m).idxOf m)<=h.Ei ca' m ((h.mem m).idxOf m)):=by
 have j:=Mw g (m:=m) s;have d:=ny (h:=h) (ms:=h.mem m) (ca:=ca) (ca':=ca');have c:=ny (h:=h) (ms:=h.mem m) (ca:=ca) (ca':=ca);have a:∀ca i,¬i<lN .AF->col Row.YC .JL i=0:=λca i b=>by unfold col;rw[zy (by rw[J6];lia)]
 have hw:=MG j (W':=col Row.YC (h.rows .AF ca')) j.YC (λi=>by
  by_cases b:i<lN .AF
  .unfold col;rw[Og b,Og b];exact e _ (qX b)
  .rw[a ca i b,a ca' i b];exact zU _) (λi b=>by
  rw[J6]at b;rw[a ca i b,a ca' i b])
 have r:h.Fp ca m=_:=nQ c.1 c.2;have o:h.Fp ca' m=_:=nQ d.1 d.2;have q:h.Ei ca m=_:=nR j c.1 c.2;have p:h.Ei ca' m=_:=nR (Mw g f) d.1 d.2;refine#[λi=>?_,λt l=>?_]
 .rw[r,o];exact hw.1 i
 rw[q,p];refine hw.2 _ ?_;have b:=qy (mem_iff.mpr #[t,l]);unfold Av;rw[Og b,jW b];show(h.dir m).map _=u8;rw[nW g l]
 rfl
theorem oB(g:XB h)(t:TI h yt lv co fl h.n s)(t':TI h yt lv' co' U? h.n s')(p:s.NN h.n)(i:s'.NN h.n)(v:∀k,k<h.n->0<=lv k)(d:∀k,k<h.n->lv k<=lv' k)(b:∀k,k<h.n->co k 0<=co' k 0)(l:∀k,k<h.n->fl k<=U? k):
  ∀m k,k<m->k<h.n->s.WC k<=s'.WC k/\(h.dir k=u8->Az s.WA k<=Az s'.WA k)
 |0,k,u,_=>absurd u .a
 | m+1,k,u,hk=>by
  have w:=oB g t t' p i v d b l m;have r:s.WC k<=s'.WC k:=by
   rw[t.WC k hk,t'.WC k hk];have y:=b k hk;have B:=l k hk;have C:Ad h.n .Ir<=Ad h.n (h.c1 s'.WA k):=Ls λj o=>by
    unfold Hs.c1;by_cases a:h.dir j=u8/\h.dn j=u7 k/\(h.pl j).dl=0
    .have z:=g.dn j k o a.2.1;rw[if_pos a,if_pos a];exact(w j .a o).2 a.1
    rw[if_neg a,if_neg a];exact zU _
   lia
  refine#[r,λA=>?_];unfold Az;cases f:(h.pl k).kd.ZH with
  |true=>
   rw[t.VA k hk hk f,t'.VA k hk hk f];have:=d k hk;have:=v k hk;have:=p.1 k hk;have:=nw (yt:=yt) (lv:=lv) (lv':=lv') g hk f (c:=s.WC k) (c':=s'.WC k) .a .a;lia
  | false=>
   have q:=Il g A;rw[t.reach k hk f .a,t'.reach k hk f .a,q];have x:=(nz g p.1 i.1 λj o=>by
    have y:=Ux g o;by_cases e:j=k
    .subst e;exact r
    exact(w j .a (mem_iff.mp o).1).1).2 hk q
   simp[P',List.getD_cons_zero];lia
structure V? (h:Hs) (pg VO:Nat->List Int):Prop where
 took:∀k,k<h.n->(pg k).getD 1 0<=(VO k).getD 1 0
 VA:∀k,k<h.n->(h.pl k).kd.ZH=u9->(pg k).getD 2 0<=(VO k).getD 2 0/\(pg k).getD 3 0<=(VO k).getD 3 0/\(pg k).getD 4 0<=(VO k).getD 4 0
 XI:∀k,k<h.n->XI pg k<=XI VO k
 out:∀k,k<h.n->h.dir k=u8->Az pg k<=Az VO k
def MS(g:XB h)(t:TI h yt lv co fl h.n s)(t':TI h yt lv' co' U? h.n s')(u:s.NN h.n)(p:s'.NN h.n)(y:∀k,k<h.n->0<=lv k)(m:∀k,k<h.n->lv k<=lv' k)(i:∀k a,k<h.n->a<5->co k a<=co' k a)(w:∀k,k<h.n->fl k<=U? k):
  V? h s.WA s'.WA/\∀k a,k<h.n->a<5->s.YB k a<=s'.YB k a:=by
 have v:=λk hk=>oB g t t' u p y m (λk hk=>i k 0 hk .a) w h.n k hk hk
 have o:∀k,k<h.n->(h.pl k).kd.ZH=u9->_:=λk hk b=>by have C:=m k hk;have B:=y k hk;have F:=u.1 k hk;have E:=(v k hk).1;exact nw (yt:=yt) (lv:=lv) (lv':=lv') g hk b (c:=s.WC k) (c':=s'.WC k) .a .a
 have q:V? h s.WA s'.WA:=by
  refine#[λk hk=>?_,λk hk b=>?_,λk hk=>?_,λk hk x=>(v k hk).2 x]
  .cases b:(h.pl k).kd.ZH with
   |true=>
    rw[t.VA k hk hk b,t'.VA k hk hk b];unfold Hs.VM
    cases e:(h.pl k).kd<;>exact zU _
   |false=>
    have l:=(Hy g k).2 hk;rw[t.reach k hk b l,t'.reach k hk b l];exact(nz g u.1 p.1 λj r=>(v j (mem_iff.mp r).1).1).1 _
  .rw[t.VA k hk hk b,t'.VA k hk hk b];have:=o k hk b;exact#[this.1,this.2.1,this.2.2.1]
  unfold _W.XI;cases b:(h.pl k).kd.ZH with
  |true=>
   rw[t.VA k hk hk b,t'.VA k hk hk b];exact(o k hk b).2.2.2
  |false=>
   have l:=(Hy g k).2 hk;rw[t.reach k hk b l,t'.reach k hk b l];exact zU _
 refine#[q,λk a hk A=>?_];rw[t.YB k a hk A,t'.YB k a hk A];have C:H9 co k a<=H9 co' k a:=by
  unfold H9;split
  .exact i k (a+1) hk .a
  exact zU _
 have B:Ad h.n (h.o1 s.WA k a)<=Ad h.n (h.o1 s'.WA k a):=Ls λj r=>by
  unfold Hs.o1;have I:(if h.dn j=u7 k/\(h.pl j).dl=a+1 then Az s.WA j else 0)<=(if h.dn j=u7 k/\(h.pl j).dl=a+1 then Az s'.WA j else 0):=by
   by_cases f:h.dn j=u7 k/\(h.pl j).dl=a+1
   .rw[if_pos f,if_pos f];refine q.out j r ?_;rcases x:h.dir j with _|d
    .rfl
    have:=(Rq x).2.1;lia
   rw[if_neg f,if_neg f];exact zU _
  have H:(if h.YV j=u7 (k,a+1)then Dm s.WA j else 0)<=(if h.YV j=u7 (k,a+1)then Dm s'.WA j else 0):=by
   by_cases f:h.YV j=u7 (k,a+1)
   .rw[if_pos f,if_pos f];have b:(h.pl j).kd.ZH=u9:=by
     cases z:(h.pl j).kd.ZH with
     |true=>rfl
     |false=>rw[Yx z]at f;cases f
    exact(q.VA j r b).2.2
   rw[if_neg f,if_neg f];exact zU _
  lia
 lia
end
def sxa{a n Z:Nat}(h:a<=n)(e:(Z:Int)=max 0 (min (if(a:Int)<0 then(a:Int)+n else a) n)):Z=a:=.a
def oC{b:Type}{xs:List b}{a:Nat}(h:a<=lN xs):cutD xs u8 (u7 a)=xs.take a:=by
 unfold cutD;rw[sxa h (Mh .Ee a).1];simp[HT.YE]
def Nu{b:Type}{xs:List b}{a:Nat}(h:a<=lN xs):cutD xs (u7 a) u8=xs.drop a:=by
 unfold cutD;rw[sxa h (Mh .Ee a).2];simp[HT.YE];exact qM .d
theorem Zx{c:Type}{g:DG}{E F:c->D}:∀{l:List c},(∀a∈l,∃T,g (E a) S G=.ok T G/\te T G=.ok (F a) G)->Bj g Ai te S .IW G=.ok (l.map F) G
 |[],_=>rfl
 |a::l,h=>by let#[T,p,q]:=h a .d;simp[Li,p,q,Zx λb d=>h b (zZ _ d)]
def J8{c:Type}{E F:c->D}{l:List c}(h:∀a∈l,te (S.set 0 (u7 (E a))) G=.ok (F a) G):Bj .AQ Ai te S .IW G=.ok (l.map F) G:=Zx λa b=>#[_,rfl,h a b]
theorem rng2{b:DS}{A:ZK}{n:Nat}{H:Nat->DH}(u:∀k x,k<n->∃c,b (A++[zI k,x]) (H k)=.nx (A++[zI k,c]) (H (k+1))):∀m k x a,k+m=n->∃d c,Ar (gV (lN A)) b .Fs (A++[x,a]) (H k)=.nx (A++[d,c]) (H n)
 |0,k,x,a,e=>#[x,a,by rw[J9,Cz,show k=n by lia]]
 |m+1,k,x,a,e=>by let#[c,p]:=u k a .a;let#[d,f,q]:=rng2 u m (k+1) .DL c .a;refine#[d,f,?_];simp[Je,Cj,p];exact q
def MU{n:Nat}{F:Nat->D}(h:∀k,k<n->te (S.set 0 .DL) G=.ok (F k) G):Bj .AQ Ai te S .DX G=.ok ((zV n).map F) G:=by
 have e:Bq 0 n=(zV n).map λ(i:Nat)=>D.int i:=by
  refine jA λi=>?_
  simp[Bq]
 rw[N8 (F:=λd=>match d with | .int i=>u7 (F i.toNat)|_=>u8) (λq a=>?_)]
 .congr 1
  rw[e,qC];show(zV n).filterMap (λ(i:Nat)=>u7 (F ((i:Int).toNat)))=_;simp
 rw[e]at a;let#[i,b,rfl]:=zw.mp a;exact#[S.set 0 (zI i),.d,.inr #[rfl,F i,h i (qx.mp b),.d]]
def Aa(l:List Nat):Str:=#[l.toArray]
@[simp]theorem Jc:(Aa l).cps.toList=l:=by simp[Aa]
@[simp]theorem Di:(Aa l).length=l.length:=by simp[Aa,Str.length]
def MV:Aa l++Aa l'=Aa (l++l'):=by show Str.append _ _=_;simp[Str.append,Aa]
def Pb{s:Str}:s=Aa s.cps.toList:=_D.U0 .d
def dI:(Aa l=Aa l')=(l=l'):=propext #[λh=>by simpa using(congrArg (λs=>s.cps.toList) h),λh=>by rw[h]]
def Uq{L S:List Nat}:StrLaws.At (Aa L) (Aa S) (Aa L).length i↔i+S.length<=L.length/\(L.drop i).take S.length=S:=by simp[StrLaws.At,StrLaws.subAt_eq]
def Vw{L:List Nat}{a:Nat}:wz (Aa L) a b=Aa ((L.drop a).take (b-a)):=_D.U0 (by simp[StrLaws.strSub_toList])
def MX{r s:List Nat}(a:i<lN l)(h:((l++r).drop i).take (m+1)=c::s):c∈l:=by rw[jL .a,zH a,List.cons_append,List.take_succ_cons]at h;have:=(List.cons.inj h).1;rw[<-this];exact qX a
def MY{p q:List Nat}(hp:c∉p):Txt.partition (Aa (p++c::q)) (Aa [c])=(Aa p,Aa [c],Aa q):=by
 have a:StrLaws.At (Aa (p++c::q)) (Aa [c]) (Aa (p++c::q)).length p.length:=Uq.mpr #[.d,.d];have b:∀k,k<p.length->¬StrLaws.At (Aa (p++c::q)) (Aa [c]) (Aa (p++c::q)).length k:=λk hk h=>by exact hp (MX hk (Uq.mp h).2)
 rcases PyProof.Rows.partition_whole (Aa (p++c::q)) (Aa [c])with⟨_,h⟩|⟨i,e,h,g⟩
 .exact absurd a (h _)
 have l:i=p.length:=by
  rcases jB i p.length with z|z|z
  .exact absurd h (b i z)
  .exact z
  exact absurd a (g _ z)
 subst l;rw[e,Vw,Vw,Di,Di];have j:((p++c::q).drop 0).take (p.length-0)=p:=.d
 have d:((p++c::q).drop (p.length + [c].length)).take ((p++c::q).length-(p.length + [c].length))=q:=by
  have f:(p++c::q).drop (p.length + [c].length)=q:=by
   rw[<-List.drop_drop,jL .AK,List.drop_length]
   rfl
  rw[f];exact qM .e
 rw[j,d]
def Mk(s:List Nat)(c i:Nat):Prop:=s[i]?=u7 c/\∀j,j<i->s[j]? ≠u7 c
def Mk.at{s r L:List Nat}{a:Nat}(m:Mk s c i)(n:c∉l)(d:L.drop a=l++r)(hr:r=[]\/∃q,r=s++q)(x:a<=k)(y:k<a+l.length\/r=[])(h:StrLaws.At (Aa L) .C6 (Aa L).length k):False:=by
 have e:=congrArg (λl:List Nat=>l[i]?) (Uq.mp h).2;have z:=(z9.mp m.1).1;have g:L[k+i]?=(l++r)[k+i-a]? :=by rw[<-d,List.getElem?_drop];congr 1;lia
 simp[jK z,g,m.1]at e;by_cases o:k+i-a<l.length
 .rw[zE o]at e;exact n (jY e)
 rw[zM .a]at e;rcases hr with rfl|⟨q,rfl⟩
 .simp at e
 have o:k+i-a-l.length<i:=by
  rcases y with y|y
  .lia
  simp at y;simp[y.1]at z
 rw[zE .a]at e;exact m.2 _ o e
def oF{s x r:List Nat}{w:List .Bo}:Af s (x::(w++[r]))=x++(s++Af s (w++[r])):=by cases w<;>simp[Af]
theorem dJ{s L rest:List Nat}{p:Nat}(M:Mk s c p):∀(ws:List .Bo)(a f)b,(∀x∈ws,c∉x)->L.drop a=Af s (ws++[rest])->a<=L.length->b.length<=ws.length\/c∉rest->
  StrLaws.ChainG (Aa L) .C6 (Aa L).length a b f->(b.length<ws.length->∀k,f<=k->¬StrLaws.At (Aa L) .C6 (Aa L).length k)->StrLaws.partsFrom (Aa L) s.length a b=(ws++[rest]).map Aa
 |[],a,f,[],q,v,J,j,i,o=>by have v:L.drop a=rest:=v;show[wz (Aa L) a (Aa L).length]=[Aa rest];rw[Vw,Di,v,qM (by rw[<-v];simp)]
 |[],a,f,k::r,q,v,J,j,i,o=>(j.elim .d λj=>M.at j (by simpa[Af]using v) (.inl rfl) i.1 (.inr rfl) i.2.1).elim
 | l::g,a,f,b,q,v,J,j,i,o=>by
  rw[List.cons_append,oF]at v;have E:=congrArg qG v;simp at E;have C:L.drop (a+l.length)=s++Af s (g++[rest]):=by simp[<-List.drop_drop,v]
  have m:StrLaws.At (Aa L) .C6 (Aa L).length (a+l.length):=Uq.mpr #[.a,by rw[C];simp];cases b with
  |nil=>exact absurd m (o .d _ (by have:f=a:=i;lia))
  |cons k r=>
   have hk:k=a+l.length:=by rcases jB k (a+l.length)with z|z|z<;>first|exact(M.at (q l .d) v (.inr #[_,rfl]) i.1 (.inl z) i.2.1).elim|exact z|exact absurd m (i.2.2.1 _ .a z)
   subst hk;show wz (Aa L) a (a+l.length)::StrLaws.partsFrom (Aa L) s.length (a+l.length+s.length) r=Aa l::_;simp[dJ (rest:=rest) M g (a+l.length+s.length) f r (λx I=>q x (zZ _ I)) (by rw[<-List.drop_drop,C];simp) (by omega) (by simpa using j) i.2.2.2 (λz=>o (by simpa using z)),Vw,v]
def dM{s x r:List Nat}{w:List .Bo}:StrLaws.At (Aa (Af s (x::w++[r]))) .C6 (Aa (Af s (x::w++[r]))).length x.length:=Uq.mpr (by simp[oF])
def knd{s x r:List Nat}{w:List .Bo}(h:∀x∈s,x<256):¬((Aa s).length>(Aa (Af s (x::w++[r]))).length||zg .C6>zg (Aa (Af s (x::w++[r]))))=u9:=by
 have l:=(dM (s:=s) (x:=x) (w:=w) (r:=r)).1;generalize Af s (x::w++[r])=L at*;have a:zg .C6=1:=by unfold zg Aa;rw[if_pos];simpa using h
 have:1<=zg (Aa L):=by
  unfold zg
  split<;>(try split)<;>lia
 rw[a];simp at l⊢;lia
theorem MZ{s:List Nat}{p:Nat}(M:Mk s c p)(h:∀x∈l::ls,c∉x)(g:∀x∈s,x<256):Txt.split (Aa (Af s (l::ls))) .C6=(l::ls).map Aa:=by
 have z:=(z9.mp M.1).1;obtain⟨ws,rest,e⟩:∃ws rest,l::ls=ws++[rest]:=#[_,_,(List.dropLast_concat_getLast .d).symm];rw[e]at h⊢;let#[f,d,o]:=StrLaws.occ_tight (Aa (Af s (ws++[rest]))) .C6 .e;have hp:=dJ M ws 0 f _ (λx a=>h x (by simp[a])) rfl .a (.inr (h rest .d)) d λ_=>o
 unfold Txt.split;cases ws with
 |nil=>
  split
  .rfl
  split
  .rfl
  rw[StrLaws.partsBetween_eq];exact hp
 |cons x w=>
  rw[if_neg (knd g),if_neg]
  .rw[StrLaws.partsBetween_eq];exact hp
  intro i;rw[List.isEmpty_iff.mp i]at d;exact o x.length (by have:f=0:=d;lia) dM
def M0:Txt.join .JB (ls.map Aa)=Aa (Af sep ls):=_D.U0 (by
 rw[C6,Jc,Jc,qJ];have:((λx=>x.cps.toList)∘Aa)=id:=by funext l;simp
 rw[this,List.map_id])
theorem Nh{sep:List Nat}{B:Nat}:∀ls,(∀l∈ls,lN l<=B)->lN .Gv<=lN ls*(B+lN sep)
 |[],_=>by simp[Af]
 |[x],h=>by have:=h x .d;show lN x<=1*(B+lN sep);lia
 |x::y::r,h=>by
  have b:=h x .d;have c:=Nh (sep:=sep) (y::r) λl a=>h l .Bm
  show lN (x++sep++Af sep (y::r))<=(y::r).length.succ*(B+lN sep);rw[qw,qw,Nat.succ_mul];lia
def num(n:Int):List Nat:=(j4 10 n.toNat).map Char.toNat
def Mb{n:Int}(h:0<=n):Str.ofString (toString n)=Aa (num n):=by let#[m,rfl]:=xQ h;exact _D.U0 (PySem.W.KIN.signs_num m)
def Y5{n:Int}:∀c∈num n,48<=c/\c<=57:=λc d=>by
 let#[b,a,e]:=zw.mp d;have r:=Nat.isDigit_of_mem_toDigits .c .c a;rw[<-e];have f:48<=b.toNat/\b.toNat<=57:=by unfold Char.isDigit at r;simp at r;exact#[r.1,r.2]
 exact f
def Mc(n:Nat):NumText.digitsVal .AP=n:=by exact PySem.W.KIN.val_back n
def oH(h:¬m<10):j4 10 m=j4 10 (m/10)++[Nat.digitChar (m%10)]:=by have a:m%10<10:=Nat.mod_lt m .c;have t:j4 10 (m/10)++j4 10 (m%10)=j4 10 (10*(m/10)+m%10):=Nat.toDigits_append_toDigits .c .a a;rw[Nat.div_add_mod]at t;rw[<-t,xZ a]
theorem oJ:∀k m,1<=k->m<10^k->lN (j4 10 m)<=k
 |0,m,h,_=>by lia
 | k+1,m,_,h=>by
  by_cases a:m<10
  .simp[xZ a]
  rw[oH a,qw];have hk:1<=k:=by
   cases k with
   |_=>lia
  have b:m/10<10^k:=.a
  have:=oJ k (m/10) hk b;simp;lia
def Md(m):j4 10 m≠[]:=by by_cases a:m<10<;>simp
def Me:∀d,d<10->(Nat.digitChar d).toNat=48+d:=.c
theorem Mn(m):m≠0->∃c r,j4 10 m=c::r/\c.toNat≠48:=by
 induction m using Nat.strongRecOn with
 |_ m d=>
  intro f;by_cases a:m<10
  .rw[xZ a];refine#[_,[],rfl,?_];rw[Me m a];lia
  let#[c,r,e,b]:=d (m/10) .a .a;rw[oH a,e];exact#[c,r++[Nat.digitChar (m%10)],rfl,b]
def Zt{n:Int}:num n≠[]:=by intro e;exact Md _ (List.map_eq_nil_iff.mp e)
def Ey{n:Int}(b:n<10^40):lN .AP<=40:=by unfold num;rw[zq];refine oJ 40 n.toNat .c ?_;lia
def oK{n:Int}(b:0<=n):n=0\/∃c r,num n=c::r/\c≠48:=by
 by_cases h:n=0
 .exact .inl h
 let#[c,r,e,a]:=Mn n.toNat .a;refine .inr #[c.toNat,r.map Char.toNat,?_,a];unfold num;rw[e]
 rfl
def oN{n:Int}(b:0<=n)(a:n<10^40):uj .JJ=u7 n:=by have c:=Ey a;have:=intText_digits (x:=Aa .AP) (Jc▸Y5) (Jc▸Zt) (by rw[Di];lia);rw[Jc]at this;rw[this];let#[m,rfl]:=xQ b;rw[Mc]
def Mo{n:Int}(f:0<=n)(e:n<10^40):n.natAbs.log2<1920:=by
 by_cases a:n.natAbs=0
 .rw[a];decide
 rw[Nat.log2_lt a];have b:10^40<2^200:=.c
 have d:n.natAbs<10^40:=.a
 exact zY (Nat.lt_trans d b) (Nat.pow_le_pow_right .c .c)
def Ht{n:Int}(a:0<=n)(b:n<10^40)(G):Fb [.int n] G=.ok .LO G:=by
 have e:Fb [.int n] G=if n.natAbs.log2<1920 then .ok (.str (Str.ofString (toString n))) G else .bad:=rfl
 rw[e,if_pos (Mo a b),Mb a]
def NA:∀c∈qF 48 10,inD .D1 (.str "0123456789") []=u7 u9:=.f
def NB(a:48<=c)(b:c<=57)(G):Fd .D1 (.str "0123456789") G=.ok .Ab G:=by have e:inD .D1 (.str "0123456789") G=inD .D1 (.str "0123456789") []:=rfl;unfold Fd;rw[e,NA c (jZ.mpr #[a,.a])]
def oO{x:Nat}:Txt.startswith (Aa (c::l)) (Aa [x])=decide (c=x):=by
 unfold Txt.startswith;rw[StrLaws.subAt_eq,Jc,Jc,Di,Di];by_cases h:c=x
 .subst h;simp
 simp[h]
theorem dN(s sub)(c a f)(hw:1<=sub.length):∀m b st,StrLaws.ChainG s sub c f st.fst.toList st.snd->(st.fst.size<a->∀k,st.snd<=k->k<b->¬StrLaws.At s sub c k)->st.fst.size<=a->
  StrLaws.ChainG s sub c f (forIn .HI st .Bq).run.fst.toList (forIn .HI st .Bq).run.snd/\
  ((forIn .HI st .Bq).run.fst.size<a->∀k,(forIn .HI st .Bq).run.snd<=k->k<b+m->¬StrLaws.At s sub c k)
 |0,b,st,h,g,_=>#[h,g]
 | m+1,b,st,h,g,l=>by
  rw[jP,j5];unfold StrLaws.occBody;have e:b+(m+1)=(b+1)+m:=.a
  rw[e];split
  .rename_i d;refine dN s sub c a f hw m (b+1) (st.fst.push b,b+sub.length) ?_ ?_ ?_
   .rw[Array.toList_push];exact StrLaws.chainG_snoc h d.1.1.2 #[d.1.2,d.2] (g d.1.1.1)
   .intro _ k i n;lia
   rw[Array.size_push];lia
  rename_i d;refine dN s sub c a f hw m (b+1) (st.fst,st.snd) h ?_ l;intro hs k i n j;by_cases hk:k<b
  .exact g hs k i hk j
  have o:k=b:=.a
  subst o;exact d #[#[#[hs,i],j.1],j.2]
def NC(x y)(a)(hw:1<=y.length):∃f,StrLaws.ChainG x y x.length 0 (zc x y 0 x.length a) f/\((zc x y 0 x.length a).length<a->∀k,f<=k->¬StrLaws.At x y x.length k):=by rw[StrLaws.occ_eq];have b:=dN x y x.length a 0 hw (x.length+1-0) 0 (([].toArray),0) rfl (λ_ k _ h=>.a) .d;exact#[_,b.1,λhs k hk c=>(b.2 (by simpa using hs) k hk (by have:=c.1;lia) c)]
theorem ND{ws:List .Bo}{rest:List Nat}(n:∀x∈ws,c∉x)(i:c<256)(hw:ws≠[]):Txt.splitMax (Aa (Af [c] (ws++[rest]))) (Aa [c]) ws.length=(ws++[rest]).map Aa:=by
 let#[f,h,g]:=NC (Aa (Af [c] (ws++[rest]))) (Aa [c]) ws.length .d;have hp:=dJ (p:=0) #[rfl,.d] ws 0 f _ n rfl .a (.inl (StrLaws.occ_length_le ..)) h g;have m:limitOf (Aa (Af [c] (ws++[rest]))) ws.length=ws.length:=by unfold limitOf;rw[if_neg .a];lia
 unfold Txt.splitMax;cases ws with
 |nil=>exact absurd rfl hw
 |cons x w=>
  rw[m,if_neg (knd (by simpa)),if_neg]
  .rw[StrLaws.partsBetween_eq];exact hp
  intro i;rw[List.isEmpty_iff.mp i]at h g;exact g .d x.length (by have:f=0:=h;lia) dM
def LL(l:List Nat):Prop:=1<=lN l/\lN l<=8/\∀c∈l,97<=c/\c<123
def Wd(z:Str):Prop:=∃l:List Nat,z=Aa l/\LL l
def ZM(st:List VC):List Int:=(st.filter λs=> !s.r).map VC.m
structure PlG (n k:Nat) (p:Pl):Prop where
 dn:∀d,p.dn=u7 d->k<d/\d<n
 dl:p.dl<=5
 ZP:∀b r to dl m,p.kd=.VA b r (u7 (to,dl,m))->to<n/\1<=dl/\dl<=5
 XR:∀b r q,p.kd=.VA b r q->0<=b/\∀s∈r,Good 0 s.2
 XE:∀a b,p.kd=.XE a b->0<=a/\0<=b
 nop:∀b r,p.kd=.VA b r u8->∀s∈r,∀t∈s.2,t.r=u9
def Asc(yr:Int):Int->List VU->Prop
 |_,[]=>True
 |a,s::r=>a<s.1/\s.1<yr/\Asc yr s.1 r
def Stp40(s:VC):Prop:=(0<=s.h/\s.h<10^40)/\(0<=s.m/\s.m<=10^38)
structure PlW (yr:Int) (k:Nat) (p:Pl):Prop where
 ub:match p.kd with
  |.YG a=>a<10^40
  |.XE a b=>a<10^40/\b<10^40
  |.VA b r q=>b<10^40/\(lN r<=3/\∀s∈r,lN s.2<=3/\∀t∈s.2,Stp40 t)/\∀to dl m,q=u7 (to,dl,m)->m<10^40
 YG:∀a,p.kd=.YG a->0<=a
 asc:∀b r q,p.kd=.VA b r q->Asc yr (-1) r/\(∃st r',r=(0,st)::r')/\(∀s∈r,lN s.2<=1000)
 pq:∀b r to dl m,p.kd=.VA b r (u7 (to,dl,m))->to≠k/\0<=m/\∀s∈r,(ZM s.2).sum<=m
theorem oQ:∀{st:List VC}{t:Int},Good t st->0<=(ZM st).sum
 |[],_,_=>zU _
 |s::st,t,h=>by
  have a:=oQ h.2.2;unfold ZM at a⊢;rw[List.filter_cons];split
  .rw[zk,List.sum_cons];have:=h.2.1;lia
  exact a
theorem dO:∀l:List Str,Ko .Ao=u7 .DP
 |[]=>rfl
 |a::l=>by
  rw[zk,Ko,dO l]
  rfl
theorem dP(x):∀l:List Str,inV .Af .DP=decide (x∈l)
 |[]=>by simp[inV]
 |a::l=>by
  show(r? (.str a) .Af||inV .Af .DP)=_;rw[dP x l];show((a==x)||decide (x∈l))=_;by_cases e:a=x
  .subst e;simp
  have b:¬x=a:=λz=>e z.symm
  simp[e,b]
def Hv{l:List Str}:ZA m .Ao=u9:=Df λ_ _=>rfl
def oR:List Nat:=("abcdefghijklmnopqrstuvwxyz":Str).cps.toList
def NE(c):c∈oR↔97<=c/\c<=122:=by
 have e:oR=qF 97 26:=.f
 rw[e,jZ];lia
def small(c:Nat):Bool:=decide (97<=c/\c<=122)
def oT:Fd .D1 (.str "abcdefghijklmnopqrstuvwxyz") G=.ok (.bl .IX) G:=by
 unfold Fd inD sgn;simp only;rw[contains1 "abcdefghijklmnopqrstuvwxyz" c]
 congr 3
 exact propext (NE c)
def V6:List Nat:=[115,101,97]
def isN(cs:List Nat):Bool:=decide (¬cs=V6)&&decide (1<=lN cs/\lN cs<=8)&&cs.all small
def NF{z:Str}(hz:z.length<=1000):Xw [.str z] G=.ok (.bl (isN z.cps.toList)) G:=by
 have v:z.length=z.cps.toList.length:=by simp[Str.length]
 have a:z.length<=1000000:=.a
 have s:Bj .AQ Ai Yj [u8] .IQ G=.ok ((z.cps.toList.map small).map D.bl) G:=by
  have:=N8 (g:=gV 0) (c:=Ai) (te:=Yj) (S:=[u8]) (G:=G) (F:=λd=>match d with | .str x=>zB (small .HJ)|_=>u8) (xs:=signs z) (λx n=>by let#[c,_,rfl]:=zw.mp n;refine#[[u7 .D1],rfl,.inr #[rfl,.bl .IX,?_,rfl]];simp[Yj,oT])
  rw[this]
  congr 1
  unfold signs
  induction z.cps.toList with
  |nil=>rfl
  |cons c r o=>simp only[zk,qD,o];rfl
 have b:((z.cps.toList.map small).map D.bl).length<=1000000:=by simp;simpa[Str.length]using a
 have t:ZA G.length ((z.cps.toList.map small).map D.bl)=u9:=f6;have p:= @Xa G (z.cps.toList.map small);unfold Xw iy;rw[Ag];have hs:decide (z="sea")=decide (z.cps.toList=V6):=by exact decide_eq_decide.mpr C7
 generalize w:((z.cps.toList.map small).map D.bl)=bs at*;by_cases e:z.cps.toList=V6
 .simp[hs,e,Ao,isN]
 by_cases f:1<=z.length/\z.length<=8
 .have l:(1:Int)<=z.length/\(z.length:Int)<=8:=.a
  have k:1<=z.cps.toList.length/\z.cps.toList.length<=8:=.a
  simp[hs,e,a,l.1,l.2,Al,s,b,Bd,t,p,Ao];simp only[isN,e,k];simp
 have k:¬(1<=z.cps.toList.length/\z.cps.toList.length<=8):=.a
 have u:isN z.cps.toList=uA:=by simp only[isN,k,decide_false,Bool.and_false,Bool.false_and]
 rw[u];by_cases i:1<=z.length
 .have m:¬(z.length:Int)<=8:=.a
  simp[a,m,Ao]
 .have j:¬(1:Int)<=z.length:=.a
  simp[a,j,Ao]
def oU{z:Str}(h:Wd z)(hs:z≠"sea"):isN z.cps.toList=u9/\z.length<=8/\1<=z.length:=by
 let#[l,rfl,f,d,a]:=h;have e:(Aa l).cps.toList=l:=.d
 have j:(Aa l).length=l.length:=.d
 refine#[?_,.a,.a];rw[e];unfold isN;have i:¬l=V6:=λz=>hs (by rw[z];decide +kernel)
 have b:l.all small=u9:=qE.mpr λc g=>by have:=a c g;exact decide_eq_true .a
 simp[i,f,d,b]
def oV(l:List Pl):Bj .AQ Ai ba [u8] .Gc G=.ok ((l.map Pl.nm).map D.str) G:=by rw[qJ];exact J8 λp _=>by simp[ba]
def NH:∀l:List Pl,Bj .AQ Ai js [u8] .Gc G=.ok ((l.map Pl.nm).map D.str) G:=oV
def oW{x:Str}{l:List Str}:Fd .Af (.fl .Ao) G=.ok (.bl (decide (x∈l))) G:=by
 unfold Fd inD;dsimp only
 rw[show Bf (.fl .Ao) G=u7 (l.map D.str)from rfl,show Mm .Af=u7 (V.str x)from rfl]
 dsimp only;rw[dO,jR,dP]
def NI{x:Str}{l:List Str}(h:G[i]?=u7 (.lst .Ao)):Fd .Af .Ar G=.ok (.bl (decide (x∈l))) G:=by
 unfold Fd inD;dsimp only
 rw[show Bf .Ar G=u7 .Ao by simp[Bf,h],show Mm .Af=u7 (V.str x)from rfl]
 dsimp only;rw[dO,jR,dP]
def NJ{l:List Str}(hd:p.dn=u8\/∃d,p.dn=u7 d/\(h.pl d).nm∈l/\(h.pl d).nm≠"sea")(g:p.dl<=5)(G):Zb [h.ZB p,.fl .Ao] G=.ok .Ab G:=by
 have b:(p.dl:Int)<=5:=.a
 unfold Zb jm;rw[Ag];rcases hd with e|⟨d,e,f,hs⟩
 .have a:h.YR p.dn="sea":=by rw[e];rfl
  simp[a,b,Ao]
 have a:h.YR p.dn=(h.pl d).nm:=by rw[e];rfl
 have c:=oW (x:=(h.pl d).nm) (l:=l) (G:=G);rw[decide_eq_true f]at c;simp[a,hs,c,b,Ao]
theorem oY{s0:Option D}{G:DH}:∀r a x y,Asc yr a r->∃b d c,Ar .Lf Uz .BQ [s0,zI yr,zI a,x,y] G=.nx [s0,zI yr,b,d,c] G
 |[],a,x,y,_=>#[zI a,x,y,by rw[qL,Cz]]
 |s::r,a,x,y,h=>by
  let#[b,d,c,g]:=oY (s0:=s0) (G:=G) r s.1 .JC .K8 h.2.2;refine#[b,d,c,?_];have f:Uz [s0,zI yr,zI a,zI s.1,zT .AS] G=.nx [s0,zI yr,zI s.1,zI s.1,zT .AS] G:=by simp[Uz,h.1,h.2.1]
  have e:Bb s=.tup [.int s.1,.tup .AS]:=rfl;simp[Cj,e,f,g]
def NK{r:List VU}(h:Asc yr (-1) r)(hz:∃st b,r=(0,st)::b)(G):U7 [.tup .BQ,.int yr] G=.ok .Ab G:=by
 let#[i,k,j,f]:=oY (s0:=zT .BQ) (G:=G) r (-1) u8 u8 h;let#[st,b,e]:=hz;have c:¬r.map Bb=[]:=by simp[e]
 have a:¬((lN (r.map Bb):Int)=0):=by simp[e];lia
 have g:ZJ .BQ 0=u7 (Bb (0,st)):=e▸Ef rfl rfl;have d:∀G,Cg (Bb (0,st)) .Be G=.ok .Be G:=λG=>by simp[Bb]
 generalize Bb (0,st)=Z,r.map Bb=R at*;simp[U7,jn,Ag,c,g,d,f,Ao]
theorem oZ{s0:Option D}{G:DH}:∀st a x y z,Good a st->∃b d c e,Ar (Am 3 (Ab .CX .LI)) Wb .AT [s0,zI a,x,y,z] G=.nx [s0,b,d,c,e] G
 |[],a,x,y,z,_=>#[zI a,x,y,z,by rw[qL,Cz]]
 |s::st,a,x,y,z,h=>by
  let#[b,d,c,e,k]:=oZ (s0:=s0) (G:=G) st (s.h+s.m) (zI s.h) (zI s.m) (zS .CP) h.2.2;refine#[b,d,c,e,?_];have j:¬s.h<a:=by have:=h.1;lia
  have g:¬s.m<1:=by have:=h.2.1;lia
  have i:Wb [s0,zI a,zI s.h,zI s.m,zS .CP] G=.nx [s0,zI (s.h+s.m),zI s.h,zI s.m,zS .CP] G:=by simp[Wb,j,g]
  have f:VC.enc s=.tup [.int s.h,.int s.m,.str .CP]:=rfl;simp[Cj,f,i,k]
def NM(h:Good 0 st)(G):Ql [.tup .AT] G=.ok .Ab G:=by let#[b,d,c,e,a]:=oZ (s0:=zT .AT) (G:=G) st 0 u8 u8 u8 h;simp[Ql,jo,Ag,a,Ao]
theorem o3:Bj (Am 3 (Ab .AQ (Ab .CW (Ab .CX An)))) bZ bY [u8,u8,u8] .AT G=.ok ((ZM st).map D.int) G:=by
 rw[N8 (F:=λd=>match d with | .tup [_,m,.str w]=>if w="pump" then u7 m else u8|_=>u8) λy b=>?_]
 .congr 1
  unfold ZM
  induction st with
  |nil=>rfl
  |cons s st c=>
   rw[zk,qD,c,List.filter_cons];have a:VC.enc s=.tup [.int s.h,.int s.m,.str .CP]:=rfl;rw[a];cases e:s.r with
   |true=>simp
   |false=>simp
 let#[s,_,rfl]:=zw.mp b;have a:VC.enc s=.tup [.int s.h,.int s.m,.str .CP]:=rfl;rw[a];refine#[[zI s.h,zI s.m,zS .CP],.d,?_];unfold bZ bY;cases e:s.r with
 |true=>exact .inl #[.d,.d]
 |false=>exact .inr #[.d,.int s.m,.d,.d]
def NO:lN (ZM st)<=lN st:=by unfold ZM;rw[zq];exact xz _ _
def NQ(g:lN st<=1000)(f:∀t∈st,t.r=u9)(G):Mp [.tup .AT,.WB] G=.ok .Ab G:=by
 have b:=o3 (st:=st) (G:=G);have d:ZM st=[]:=by unfold ZM;rw[List.map_eq_nil_iff,List.filter_eq_nil_iff];intro t c;simp[f t c]
 rw[d]at b;simp[Mp,b0,Ag,Al,b,Bd,Ao]
def NR{a b m:D}(h:lN st<=1000)(hs:(ZM st).sum<=v)(G):Mp [.tup .AT,.tup [a,b,.int v]] G=.ok .Ab G:=by
 have f:=o3 (st:=st) (G:=G);have g:∀m,ZA m (((ZM st).map D.int))=u9:=λ_=>Jz
 have c:lN ((ZM st).map D.int)<=1000000:=by have:=NO (st:=st);rw[zq];lia
 have e:Dp [.fl ((ZM st).map D.int)] G=.ok (.int (ZM st).sum) G:=Uh;generalize(ZM st).map D.int=P,st.map VC.enc=Z at*;simp[Mp,b0,Ag,Al,f,c,g,Bd,e,hs,Ao]
theorem o4{s0 s2:Option D}{q:D}{G:DH}:∀(r:List VU)x y,(∀s∈r,(∀G,Ql [.tup .AS] G=.ok .Ab G)/\∀G,Mp [.tup .AS,q] G=.ok .Ab G)->∃b a,Ar .Lf Z2 .BQ [s0,u7 q,s2,x,y] G=.nx [s0,u7 q,s2,b,a] G
 |[],x,y,_=>#[x,y,by rw[qL,Cz]]
 |s::r,x,y,h=>by
  let#[b,a,i]:=o4 (s0:=s0) (s2:=s2) (G:=G) r .JC .K8 λz c=>h z .Fj
  refine#[b,a,?_];let#[g,e]:=h s zW;have f:Z2 [s0,u7 q,s2,zI s.1,zT .AS] G=.nx [s0,u7 q,s2,zI s.1,zT .AS] G:=by simp[Z2,g,e]
  have d:Bb s=.tup [.int s.1,.tup .AS]:=rfl;simp[Cj,d,f,i]
def NT{r:List VU}{q:D}(b:∀G,U7 [.tup .BQ,.int yr] G=.ok .Ab G)(a:∀s∈r,(∀G,Ql [.tup .AS] G=.ok .Ab G)/\∀G,Mp [.tup .AS,q] G=.ok .Ab G)(G):Ve [.tup .BQ,q,.int yr] G=.ok .Ab G:=by let#[e,d,c]:=o4 (s0:=zT .BQ) (s2:=zI yr) (G:=G) r u8 u8 a;simp[Ve,jp,Ag,b,c,Ao]
def Uj(a:i<h.n):h.pl i=h.ps[i]'a:=by
 unfold Hs.pl;rw[q8,zJ a]
 rfl
def o5{x:Str}:(x∈(h.ps.take k).map Pl.nm)↔∃i,i<k/\i<h.n/\(h.pl i).nm=x:=by
 rw[zw];constructor
 .rintro⟨p,hp,rfl⟩;let#[j,b,rfl]:=List.mem_take_iff_getElem.mp hp;have a:j<h.n:=zY b (Nat.min_le_right _ _);exact#[j,zY b (Nat.min_le_left _ _),a,by rw[Uj a];rfl]
 rintro⟨i,c,a,rfl⟩;exact#[h.pl i,List.mem_take_iff_getElem.mpr #[i,Nat.lt_min.mpr #[c,a],(Uj a).symm],rfl]
def NU{x:Str}:(x∈(h.ps.drop k).map Pl.nm)↔∃i,k<=i/\i<h.n/\(h.pl i).nm=x:=by
 rw[zw];constructor
 .rintro⟨p,hp,rfl⟩;let#[j,b,rfl]:=List.mem_drop_iff_getElem.mp hp;have a:k+j<h.n:=by show k+j<lN h.ps;lia
  exact#[k+j,.a,a,by rw[Uj a];rfl]
 rintro⟨i,c,a,rfl⟩;have d:i<lN h.ps:=a;exact#[h.pl i,List.mem_drop_iff_getElem.mpr #[i-k,.a,by rw[Uj a];congr 1;lia],rfl]
theorem NV{n:Nat}(g:PlG n k p)(w:PlW yr k p):∃a l,0<=l.foldl min a/\lN l<=10/\∀G,Wc [h.ZB p] G=.ok .JG (G++[.lst ((a::l).map D.int)]):=by
 unfold Hs.ZB Wc jr;cases e:p.kd with
 |XE a b=>
  have j:=g.XE a b e;exact#[a,[b],.e,.d,λG=>by simp[Ag,Ce]]
 |YG a=>exact#[a,[],by simpa using w.YG a e,.d,λG=>by simp[Ag,Ce]]
 |VA b r q=>
  have j:=(g.XR b r q e).1;rcases q with _|⟨t,s,m⟩
  .exact#[b,[],by simpa using j,.d,λG=>by simp[Ag,Ce,Hs.El]]
  have v:=(w.pq b r t s m e).2.1;exact#[b,[m],.e,.d,λG=>by simp[Ag,Ce,Hs.El]]
def NW{l:List Str}(d:G[i]?=u7 (.lst .Ao))(e:∀b a m,q=u7 (b,a,m)->(h.pl b).nm∈l/\1<=a/\a<=5):We [h.El q,.ref i] G=.ok .Ab G:=by
 unfold We jl;rw[Ag];rcases q with _|z
 .simp[Hs.El,Ao]
 let#[j,f,n]:=e z.1 z.2.1 z.2.2 rfl;have c:=NI (x:=(h.pl z.1).nm) d;rw[decide_eq_true j]at c;have k:1<=(z.2.1:Int):=.a
 have g:(z.2.1:Int)<=5:=.a
 simp[Hs.El,c,k,g,Ao]
theorem NX(g:XB h)(pw:∀k,k<h.n->PlG h.n k .Ac/\PlW h.yr k .Ac)(O:∀k,k<h.n->Wd (h.pl k).nm)(hk:k<h.n)(G):N5 [h.enc,.int k] G=.ok .WB G:=by
 have hn:=g.len;have Q:lN h.ps=h.n:=rfl;let#[t,c]:=pw k hk;have c1:cutD h.Cd u8 (u7 k)=(h.ps.take k).map h.ZB:=by rw[oC (by rw[Hs.H7];lia)];unfold Hs.Cd;rw[List.map_take]
 have Y:cutD h.Cd (u7 (k+1)) u8=(h.ps.drop (k+1)).map h.ZB:=by rw[show k+1=((k+1:Nat):Int) by lia,Nu (by rw[Hs.H7];lia)];unfold Hs.Cd;rw[List.map_drop]
 have M:∀m(l:List Pl),ZA m .Gc=u9:=λm l=>Df λ_ _=>Hs.Z1
 have f1:freeze G (.ok (.tup ((h.ps.take k).map h.ZB)) G)=.ok (.tup ((h.ps.take k).map h.ZB)) G:=Gk (f5▸M _ _);have f2:freeze G (.ok (.tup ((h.ps.drop (k+1)).map h.ZB)) G)=.ok (.tup ((h.ps.drop (k+1)).map h.ZB)) G:=Gk (f5▸M _ _);have m1:=oV (h:=h) (G:=G) (h.ps.take k);have m2:=NH (h:=h) (G:=G) (h.ps.drop (k+1));have hA:(h.pl k).nm∉(h.ps.take k).map Pl.nm:=λz=>by let#[i,w,j,h3]:=o5.mp z;have:=g.inj i k j hk h3;lia
 have lA:lN ((h.ps.take k).map Pl.nm)<=12:=by rw[zq,j0];lia
 have lB:lN ((h.ps.drop (k+1)).map Pl.nm)<=12:=by rw[zq,jO];lia
 have L:∀i,k<i->i<h.n->(h.pl i).nm∈(h.ps.drop (k+1)).map Pl.nm:=λi w j=>NU.mpr #[i,w,j,rfl]
 have C:∀i,i≠k->i<h.n->(h.pl i).nm∈(h.ps.take k).map Pl.nm++(h.ps.drop (k+1)).map Pl.nm:=λi w j=>by
  rw[qW];by_cases z:i<k
  .exact .inl (o5.mpr #[i,z,j,rfl])
  exact .inr (L i .a j)
 have J:=NF (z:=(h.pl k).nm) (G:=G) (by have:=(oU (O k hk) (g.sea k hk)).2.1;lia);rw[(oU (O k hk) (g.sea k hk)).1]at J;generalize(h.ps.take k).map h.ZB=EA,(h.ps.drop (k+1)).map h.ZB=EB,(h.ps.take k).map Pl.nm=A,(h.ps.drop (k+1)).map Pl.nm=B at*;have K:=oW (x:=(h.pl k).nm) (l:=A) (G:=G);rw[decide_eq_false hA]at K;have cR:=NJ (by
  rcases ed:(h.pl k).dn with _|d
  .exact .inl rfl
  let#[d1,I]:=g.dn k d hk ed;exact .inr #[d,rfl,L d d1 I,g.sea d I]) (g.dl k hk) G
 let#[a,f,n1,n2,cM]:=NV (h:=h) t c;have T:∀m,ZA m .DQ=u9:=λ_=>Hv
 have fB:∀m,ZA m .DR=u9:=λ_=>Hv
 have Z:∀m,ZA m (((a::f).map D.int))=u9:=λ_=>Jz
 have mn:Kp [.fl ((a::f).map D.int)] G=.ok (.int (f.foldl min a)) G:=gY rfl;have P:¬f.foldl min a<0:=.a
 generalize(a::f).map D.int=MM,f.foldl min a=mm at*;have v:lN .DQ<=1000000:=by rw[zq];lia
 have u:lN .DR<=1000000:=by rw[zq];lia
 have H:lN .DQ+lN .DR<=1000000:=by rw[zq,zq];lia
 have t0:N5 [h.enc,.int k] G=tidy G (Yd [u7 h.enc,zI k,zT h.Cd,u7 .JK,zF .DQ,zF .DR] G).ret:=by generalize A.map D.str=F,B.map D.str=y at*;simp[N5,kE,kD,kC,kB,kA,ju,jt,Ag,Ci,Hs.Hu hk,c1,f1,Al,m1,v,T,Y,f2,m2,u,fB,J,K,cR,cM,Z,Bd,mn,P]
 rw[t0];cases e:(h.pl k).kd with
 |XE a b|YG a=>
  simp[Yd,Jv,e,Kd.ZH,Ao]
 | VA b r q=>
  have e5:∀G,Cg .JK (.int 5) G=.ok (.tup .BQ) G:=λG=>by simp[Hs.ZB,e]
  have e6:∀G,Cg .JK (.int 6) G=.ok .JA G:=λG=>by simp[Hs.ZB,e]
  let#[w1,w2,N]:=c.asc b r q e;have hG:(G++[DO.lst ((A++B).map D.str)])[lN G]?=u7 (.lst ((A++B).map D.str)):=.d
  have U:=NW (q:=q) hG λp o m eq=>by subst eq;let#[p1,p2,X]:=t.ZP b r p o m e;exact#[C p (c.pq b r p o m e).1 p1,p2,X]
  have cU:=NT (q:=h.El q) (NK w1 w2) λs hs=>#[NM (((t.XR b r q e).2) s hs),by
   rcases q with _|z
   .exact NQ (zx (N s hs) .c) (t.nop b r e s hs)
   exact NR (m:=.WB) (zx (N s hs) .c) ((c.pq b r z.1 z.2.1 z.2.2 e).2.2 s hs)]
  have W:Dw (.fl .DQ) (.fl .DR) G=.ok .JG (G++[.lst ((A++B).map D.str)]):=by rw[C2,if_pos H,jv]
  have tp:tidy G (.ok .WB (G++[.lst ((A++B).map D.str)]))=.ok .WB G:=Hx rfl;generalize G++[DO.lst ((A++B).map D.str)]=G2,A.map D.str=F,B.map D.str=y,r.map Bb=RR at*;simp[Yd,Jv,e,Kd.ZH,e5,e6,W,U,Vm,cU,tp]
theorem o6(b:∀k,k<h.n->∀G,N5 [h.enc,.int k] G=.ok .WB G):∀m k x,k+m=h.n->∃a,Ar .CX Uc .Fs [u7 h.enc,s1,x] G=.nx [u7 h.enc,s1,a] G
 |0,k,x,e=>#[x,by rw[J9,Cz]]
 |m+1,k,x,e=>by
  let#[a,f]:=o6 b m (k+1) .DL .a;refine#[a,?_];have c:Uc [u7 h.enc,s1,zI k] G=.nx [u7 h.enc,s1,zI k] G:=by simp[Uc,b k (by omega) G]
  simp[Je,Cj,c];exact f
def NY(g:XB h)(f:1<=h.n)(d:h.yr<=24)(i:∀k,k<h.n->∀G,N5 [h.enc,.int k] G=.ok .WB G)(G):Qu [h.enc] G=.ok h.enc G:=by
 let#[p,j]:=o6 i h.n 0 u8 .a;have a:Ar .CX Uc .Dp [u7 h.enc,zT h.Cd,u8] G=_:=j;have m:=g.len;have e:=g.yr;have b:1<=h.yr:=.a
 have l:1<=(h.n:Int):=.a
 have c:(h.n:Int)<=12:=.a
 have o:inR h.n:=Gj .a .a;simp[Qu,kF,Ag,Ci,Vm,Hs.H7,b,d,l,c,o,a,Ao]
def o7 G(l:List Nat)(h:∀c∈l,48<=c/\c<=57):Bj .AQ Ai bc [u8] (l.map sgn) G=.ok ((l.map λ_=>u9).map D.bl) G:=by
 rw[qJ];exact J8 λc z=>by have:=NB (h c z).1 (h c z).2 G;unfold bc;simp[this]
def o8{n:Int}(u:0<=n)(t:n<10^40)(G):T9 [.str .JJ] G=.ok .Ab G:=by
 have w:=Ey t;have s:1<=(num n).length:=List.length_pos_iff.mpr Zt;have d:=o7 G .AP λc d=>Y5 c d
 have o:freeze G (.ok .AH (G++[.lst (((num n).map λ_=>u9).map D.bl)]))=.ok (.fl (((num n).map λ_=>u9).map D.bl)) G:=Bd (Df λ_ _=>rfl);have p:Ir [.fl (((num n).map λ_=>u9).map D.bl)] G=.ok .Ab G:=by rw[Xa];simp
 have l:(((num n).map λ_=>u9).map D.bl).length<=1000000:=.e
 have hs:Em .LO G=.ok (.pure ((num n).map sgn)) G:=by show R.ok (ItD.pure (signs .JJ)) G=_;unfold signs;rw[Jc]
 have q:(Aa .AP).length<=1000000:=by rw[Di];lia
 have m:1<=((Aa .AP).length:Int):=by rw[Di];lia
 have k:((Aa .AP).length:Int)<=40:=by rw[Di];lia
 have i:(Aa .AP).length<=40:=by rw[Di];lia
 have h:1<=(Aa .AP).length:=by rw[Di];lia
 have v:Txt.startswith .JJ "0"=uA\/Aa .AP="0":=by
  have j:"0"=Aa [48]:=.f
  rcases oK u with rfl|⟨c,r,e,d⟩
  .refine .inr ?_
   decide +kernel
  refine .inl ?_;simp[e,j,oO,d]
 generalize((num n).map λ_=>u9).map D.bl=Z,Aa .AP=X at*;unfold T9 kG;rw[Ag];by_cases a:X="0"
 .have b:(X="0")=True:=by simp[a]
  simp[q,m,k,hs,Al,d,l,o,p,b,Ao]
 have g:Txt.startswith X "0"=uA:=by
  rcases v with z|z
  .exact z
  exact absurd z a
 simp[q,m,k,hs,Al,d,l,o,p,g,Ao]
def Lb{n:Int}(c:0<=n)(b:n<10^40)(G):Iz [.str .JJ,r] G=.ok .Bn G:=by
 have e:=Ey b;have a:Kc [.str .JJ] G=.ok .Bn G:=by unfold Kc;simp only[oN c b];rw[if_pos (by rw[Di];lia)]
 simp[Iz,kH,Ag,o8 c b G,a,Ao]
def wyL(r:Bool):List Nat:=if r then[114,105,118,101,114]else[112,117,109,112]
def wy_L{r:Bool}:wy r=Aa (wyL r):=by cases r<;>decide +kernel
def WN(s:VC):List Nat:=num s.h++43::(num s.m++32::wyL s.r)
def Hh:List VC->List Nat
 |[]=>[]
 |s::r=>32::Af [44,32] ((s::r).map WN)
def YU(s:VU):List Nat:=num s.1++58::Hh s.2
def u?(r:List VU):List Nat:=Af [59,32] (r.map YU)
def UY(s:VC):Prop:=(0<=s.h/\s.h<10^40)/\(0<=s.m/\s.m<10^40)
def n?(s:VU):Prop:=(0<=s.1/\s.1<10^40)/\lN s.2<=4/\∀t∈s.2,UY t
structure RuOk (r:List VU):Prop where
 ne:r≠[]
 len:lN r<=5
 ok:∀s∈r,n? s
def Et{n:Int}(h:c<48\/57<c):c∉num n:=λa=>by have:=Y5 c a;lia
def dQ{r:Bool}:lN .Gh<=5:=by cases r<;>decide
def o9{r:Bool}(h:c<97):c∉wyL r:=λa=>by cases r<;>simp[wyL]at a<;>lia
def oa{s:VC}(h:UY s):lN (WN s)<=87:=by have b:=Ey h.1.2;have a:=Ey h.2.2;have c:=dQ (r:=s.r);simp[WN];lia
def og{s:VC}(h:c=44\/c=59):c∉WN s:=λb=>by
 rcases qW.mp b with a|a
 .exact Et .a a
 rcases zj.mp a with a|a
 .lia
 rcases qW.mp a with a|a
 .exact Et .a a
 .rcases zj.mp a with a|a
  .lia
  exact o9 .a a
theorem Mz:∀ls,c∈Af sep ls->c∈sep\/∃l∈ls,c∈l
 |[],h=>by cases h
 |[x],h=>.inr #[x,.d,h]
 | x::y::r,h=>by
  rcases qW.mp h with a|a
  .rcases qW.mp a with a|a
   .exact .inr #[x,.d,a]
   exact .inl a
  rcases Mz (y::r) a with b|⟨l,d,b⟩
  .exact .inl b
  exact .inr #[l,zZ _ d,b]
def NZ:59∉Hh st:=λa=>by
 rcases st with _|⟨s,r⟩
 .cases a
 rcases zj.mp a with h|h
 .lia
 rcases Mz _ h with h|⟨l,b,h⟩
 .simp at h
 let#[t,_,rfl]:=zw.mp b;exact og (.inr rfl) h
def N1{s:VU}:59∉YU s:=λb=>by
 rcases qW.mp b with a|a
 .exact Et .a a
 rcases zj.mp a with a|a
 .lia
 exact NZ a
def Yl(a:lN st<=4)(h:∀t∈st,UY t):lN (Hh st)<=400:=by
 rcases st with _|⟨s,r⟩
 .simp[Hh]
 have:=Nh (sep:=[44,32]) ((s::r).map WN) λl a=>by let#[t,c,rfl]:=zw.mp a;exact oa (h t c)
 rw[zq]at this;have b:lN (s::r)*(87+lN [44,32])<=4*(87+lN [44,32]):=jQ _ a;show lN (Af [44,32] ((s::r).map WN))+1<=400;simp only[q9,jx]at b this;lia
def oh{s:VU}(h:n? s):lN (YU s)<=450:=by have b:=Ey h.1.2;have a:=Yl h.2.1 h.2.2;simp[YU];lia
def oi{r:List VU}(h:RuOk r):lN (u? r)<=2260:=by
 have:=Nh (sep:=[59,32]) (r.map YU) λl b=>by let#[t,c,rfl]:=zw.mp b;exact oh (h.ok t c)
 have a:lN r*(450+lN [59,32])<=5*(450+lN [59,32]):=jQ _ h.len;unfold u?;simp at a this;lia
def Tv{p q:List Nat}(hp:c∉p)(a:(p++c::q).length<=1000000)(G):Ky (.str (Aa (p++c::q))) [.str (Aa [c])] G=.ok (.tup [.str (Aa p),.str (Aa [c]),.str (Aa q)]) G:=by
 have e:Ky (.str (Aa (p++c::q))) [.str (Aa [c])] G=if(Aa [c]).length≠0/\(Aa (p++c::q)).length<=1000000 then .ok (.tup (part3 (Aa (p++c::q)) (Aa [c]))) G else .bad:=rfl
 rw[e,if_pos #[.d,Di▸a]];unfold part3;rw[MY hp]
def N4{r:Bool}(G):Kv .LP (.tup [.str "river",.str "pump"]) G=.ok .Ap G:=by
 have:∀r,inD .LP (.tup [.str "river",.str "pump"]) []=u7 u9:=.f
 have e:inD .LP (.tup [.str "river",.str "pump"]) G=inD .LP (.tup [.str "river",.str "pump"]) []:=rfl;unfold Kv;rw[e,this]
 rfl
def N9{s:VC}(h:UY s)(G):Yt [.str (Aa (WN s)),r] G=.ok s.enc G:=by
 have v:=Ey h.1.2;have u:=Ey h.2.2;have n:=dQ (r:=s.r);have a:=λG=>Tv (p:=num s.h) (q:=num s.m++32::wyL s.r) (c:=43) (Et .a) .e G
 have b:=λG=>Tv (p:=num s.m) (q:=wyL s.r) (c:=32) (Et .a) .e G
 have i:"+"=Aa [43]:=.f
 have f:" "=Aa [32]:=.f
 rw[<-i]at a;rw[<-f]at b;have d:WN s=num s.h++43::(num s.m++32::wyL s.r):=rfl;rw[d];simp[VC.enc,wy_L,Yt,kJ,Ag,a,b,λG=>N4 (r:=s.r) G,λG=>Lb h.1.1 h.1.2 (r:=r) G,λG=>Lb h.2.1 h.2.2 (r:=r) G,Ao]
def Na G(st:List VC)(h:∀s∈st,UY s):Bj .AQ Ai bf [u8,u7 r] ((st.map λs=>Aa (WN s)).map D.str) G=.ok .AT G:=by rw[qJ];exact J8 λs hs=>by simp[bf,N9 (h s hs)]
def dR{s:List Nat}{p:Nat}(M:Mk s c p)(f:∀x∈l::ls,c∉x)(a:∀x∈s,x<256)(b:(Af s (l::ls)).length<=1000000)G:freeze G (Eh (.str (Aa (Af s (l::ls)))) [.str .C6] G)=.ok (.fl (((l::ls).map Aa).map D.str)) G:=by
 have e:Eh (.str (Aa (Af s (l::ls)))) [.str .C6] G=if(Aa s).length≠0/\(Aa (Af s (l::ls))).length<=1000000 then .ok .AH (G++[.lst ((Txt.split (Aa (Af s (l::ls))) .C6).map D.str)])else .bad:=rfl
 rw[e,if_pos #[by have:=(z9.mp M.1).1;simp;intro z;simp[z]at this,Di▸b],MZ M f a];exact Bd Hv
def oj(f:∀x∈l::ls,c∉x)(a:c<256/\d<256)(b:lN (Af [c,d] (l::ls))<=1000000)G:freeze G (Eh (.str (Aa (Af [c,d] (l::ls)))) [.str (Aa [c,d])] G)=.ok (.fl (((l::ls).map Aa).map D.str)) G:=dR (p:=0) #[rfl,.d] f (by simpa using a) b G
def Nc(p:lN st<=4)(h:∀s∈st,UY s)(G):T8 [.str (Aa (Hh st)),r] G=.ok .Kl G:=by
 have o:""=Aa []:=.f
 rcases st with _|⟨s,st⟩
 .have l:Hh []=[]:=rfl;simp[l,<-o,T8,bg,Ag,Ao]
 have f:=Yl p h;have l:Hh (s::st)=32::Af [44,32] ((s::st).map WN):=rfl;rw[l]at f⊢;have g:¬Aa (32::Af [44,32] ((s::st).map WN))="":=by simp[o,dI]
 have w:" "=Aa [32]:=.f
 have m:Txt.startswith (Aa (32::Af [44,32] ((s::st).map WN))) " "=u9:=by simp[w,oO]
 have k:M7 (.str (Aa (32::Af [44,32] ((s::st).map WN)))) .Ga u8 G=.ok (.str (Aa (Af [44,32] ((s::st).map WN)))) G:=by
  rw[ff,if_pos (by rw[Di];lia)];show R.ok (D.str (Aa (cutD (Aa (32::Af [44,32] ((s::st).map WN))).cps.toList .Ga u8))) G=_;rw[Jc];have:=Nu (xs:=32::Af [44,32] ((s::st).map WN)) (a:=1) .d;have e:cutD (32::Af [44,32] ((s::st).map WN)) .Ga u8=(32::Af [44,32] ((s::st).map WN)).drop 1:=this;rw[e]
  rfl
 have c:=oj (d:=32) (λx B=>by
  have n:x∈(s::st).map WN:=B;let#[t,_,rfl]:=zw.mp n;exact og (.inl rfl)) .c (by
  have:=f;simp only[q9]at this;have e:Af [44,32] (WN s::st.map WN)=Af [44,32] ((s::st).map WN):=rfl;rw[e];lia) G
 have v:", "=Aa [44,32]:=.f
 rw[<-v]at c;have C:(WN s::st.map WN).map Aa=(s::st).map λs=>Aa (WN s):=.d
 have A:Af [44,32] (WN s::st.map WN)=Af [44,32] ((s::st).map WN):=rfl;rw[C,A]at c;have q:=Na (r:=r) G (s::st) h;have y:lN ((s::st).map VC.enc)<=1000000:=by rw[zq];lia
 have u:ZA .AA ((s::st).map VC.enc)=u9:=Ki;generalize Aa (32::Af [44,32] ((s::st).map WN))=F,Aa (Af [44,32] ((s::st).map WN))=E,((s::st).map λs=>Aa (WN s)).map D.str=H,(s::st).map VC.enc=I at*;simp[T8,bg,Ag,g,m,k,Gk,c,Al,q,y,Bd,u,Ao]
def Nd{s:VU}(h:n? s)(G):Vc [.str (Aa (YU s)),r] G=.ok (Bb s) G:=by
 have o:=Ey h.1.2;have n:=Yl h.2.1 h.2.2;have b:=λG=>Tv (p:=num s.1) (q:=Hh s.2) (c:=58) (Et .a) .e G
 have i:":"=Aa [58]:=.f
 rw[<-i]at b;have a:¬":"=("":Str):=.f
 have e:YU s=num s.1++58::Hh s.2:=rfl;rw[e];simp[Bb,Vc,kK,Ag,b,a,λG=>Lb h.1.1 h.1.2 (r:=r) G,λG=>Nc h.2.1 h.2.2 (r:=r) G,Ao]
def Nl G(ss:List VU)(h:∀s∈ss,n? s):Bj .AQ Ai bh [u8,u7 r] ((ss.map λs=>Aa (YU s)).map D.str) G=.ok .Bp G:=by rw[qJ];exact J8 λs hs=>by simp[bh,Nd (h s hs)]
def N6(h:l.length+l'.length<=1000000)(G):Dw (.str (Aa l)) (.str (Aa l')) G=.ok (.str (Aa (l++l'))) G:=by
 have e:Dw (.str (Aa l)) (.str (Aa l')) G=if(Aa l).length+(Aa l').length<=1000000 then .ok (.str (Aa l++Aa l')) G else .bad:=rfl
 rw[e,if_pos (by rw[Di,Di];exact h),MV]
def Ou(h:(ls.map qG).sum+lN ls*lN sep<=1000000)(G):Hb (.str .JB) [.fl ((ls.map Aa).map D.str)] G=.ok (.str (Aa .Gv)) G:=by
 have e:(ls.map Aa).map (·.length)=ls.map qG:=by rw[qJ];exact qk λl _=>by simp
 rw[C5 (by rw[e,zq,Di];exact h),M0]
theorem Nt{B:Nat}:∀(ls:List .Bo),(∀l∈ls,lN l<=B)->(ls.map qG).sum<=lN ls*B
 |[],_=>by simp
 |x::r,h=>by
  have b:=h x .d;have c:=Nt r λl a=>h l .Bm
  rw[zk,List.sum_cons,q9,Nat.succ_mul];lia
def Nn(h:RuOk ss):((ss.map YU).map qG).sum+lN .Gx*lN [59,32]<=1000000:=by
 have c:=Nt .Gx λl b=>by let#[u,a,rfl]:=zw.mp b;exact oh (h.ok u a)
 rw[zq]at c⊢;have e:lN ss*450<=5*450:=jQ _ h.len;have d:lN ss*lN [59,32]<=5*2:=jQ _ h.len;lia
def wl(s:Str):List Nat:=s.cps.toList
def J7{s:Str}:Aa (wl s)=s:=Pb.symm
structure LW (z:Str):Prop where
 ge:1<=lN (wl z)
 le:lN (wl z)<=8
 le':∀c∈wl z,97<=c/\c<=122
def LW.of{z:Str}(h:Wd z):LW z:=by
 let#[l,rfl,d,b,f]:=h;have e:wl (Aa l)=l:=by simp[wl]
 exact#[e▸d,e▸b,λc a=>by rw[e]at a;have:=f c a;lia]
def LW.sea:LW "sea":=#[.f,.f,.f]
def LW.no{z:Str}(h:LW z)(a:c<97):c∉wl z:=λz=>by have:=h.le' c z;lia
def LW.len{z:Str}(h:LW z):z.length<=8/\1<=z.length:=by
 have:z.length=(wl z).length:=by simp[wl,Str.length]
 exact#[h.le,h.ge]
def U4{z:Str}(h:LW z)(G):Mq [.str z,r] G=.ok .G2 G:=by
 have k:z.length<=1000000:=by have:=h.len;lia
 have j:¬z="":=λe=>by have:=h.len.2;rw[e]at this;exact absurd this .c
 have a:z.cps.toList.all small=u9:=qE.mpr λc i=>by have:=h.le' c i;exact decide_eq_true .a
 have i:Bj .AQ Ai Vp [u8] .IQ G=.ok ((z.cps.toList.map small).map D.bl) G:=by
  have:=N8 (g:=gV 0) (c:=Ai) (te:=Vp) (S:=[u8]) (G:=G) (F:=λd=>match d with | .str x=>zB (small .HJ)|_=>u8) (xs:=signs z) (λx l=>by let#[c,_,rfl]:=zw.mp l;refine#[[u7 .D1],rfl,.inr #[rfl,.bl .IX,?_,rfl]];simp[Vp,oT])
  rw[this]
  congr 1
  unfold signs
  induction z.cps.toList with
  |nil=>rfl
  |cons c r o=>simp only[zk,qD,sgn,o];rfl
 have b:((z.cps.toList.map small).map D.bl).length<=1000000:=by simp;simpa[Str.length]using k
 have n:∀m,ZA m (((z.cps.toList.map small).map D.bl))=u9:=λ_=>f6
 have m:Ir [.fl ((z.cps.toList.map small).map D.bl)] G=.ok .Ab G:=by
  rw[Xa]
  congr 2
  rw[List.all_map];exact a
 generalize(z.cps.toList.map small).map D.bl=bs at*;simp[Mq,kI,Ag,j,Al,i,b,n,Bd,m,Ao]
def Gs(h:Hs):Option (Nat×Nat×Int)->List Nat
 |none=>wl "none"
 |some (to,dl,m)=>Af [44] [wl (h.pl to).nm,num dl,num m]
def Ft(h:Hs)(p:Pl):List (List Nat):=match p.kd with
 |.XE a b=>[wl "town",wl p.nm,wl .A9,num p.dl,num a,num b]
 |.YG a=>[wl "mill",wl p.nm,wl .A9,num p.dl,num a]
 |.VA b r q=>[wl "basin",wl p.nm,wl .A9,num p.dl,num b,Gs h q,u? r]
def Bs(h:Hs)(p:Pl):List Nat:=Af [32] .D7
structure PO (h:Hs) (p:Pl):Prop where
 nm:LW p.nm
 dn:LW .A9
 dl:p.dl<=5
 XE:∀a b,p.kd=.XE a b->(0<=a/\a<10^40)/\0<=b/\b<10^40
 YG:∀a,p.kd=.YG a->0<=a/\a<10^40
 VA:∀b r q,p.kd=.VA b r q->(0<=b/\b<10^40)/\RuOk r
 ZP:∀b r to dl m,p.kd=.VA b r (u7 (to,dl,m))->LW (h.pl to).nm/\(1<=dl/\dl<=5)/\0<=m/\m<10^40
def Ho{n:Nat}(h:n<=5):0<=(n:Int)/\(n:Int)<10^40:=.a
def Hj{n:Int}(h:n<10^40):lN .AP<=40:=Ey h
def Nw(i:∀f d m,q=u7 (f,d,m)->LW (h.pl f).nm/\(1<=d/\d<=5)/\0<=m/\m<10^40):lN .JD<=200:=by
 rcases q with _|z
 .show lN (wl "none")<=200
  decide +kernel
 let#[f,d,m]:=z;let#[k,j,g]:=i f d m rfl;have a:=k.le;have b:=Hj (Ho j.2).2;have c:=Hj g.2;show lN (Af [44] [wl (h.pl f).nm,num d,num m])<=200;have e:Af [44] [wl (h.pl f).nm,num d,num m]=wl (h.pl f).nm++[44]++(num d++[44]++num m):=rfl;simp[e];lia
def ol(f:∀d b m,q=u7 (d,b,m)->LW (h.pl d).nm/\(1<=b/\b<=5)/\0<=m/\m<10^40)(i:c=32\/c=10):c∉Gs h q:=by
 rcases q with _|z
 .show c∉wl "none"
  rcases i with rfl|rfl<;>decide +kernel
 let#[d,b,m]:=z;let#[g,n,k]:=f d b m rfl;intro j;rcases Mz _ j with z|⟨l,e,a⟩
 .rw[qU]at z;lia
 simp at e
 rcases e with rfl|rfl|rfl<;>first|exact g.no .a a|exact Et .a a
def OA{r:List VU}:10∉u? r:=λc=>by
 rcases Mz _ c with z|⟨l,b,a⟩
 .simp at z
 let#[s,_,rfl]:=zw.mp b;rcases qW.mp a with z|z
 .exact Et .a z
 rcases zj.mp z with z|z
 .cases z
 .rcases hs:s.2 with _|⟨t,d⟩
  .rw[hs]at z;cases z
  rw[hs]at z;rcases zj.mp z with z|z
  .cases z
  .rcases Mz _ z with z|⟨l,b,a⟩
   .simp at z
   .let#[u,_,rfl]:=zw.mp b;rcases qW.mp a with z|z
    .exact Et .a z
    .rcases zj.mp z with z|z
     .cases z
     .rcases qW.mp z with z|z
      .exact Et .a z
      rcases zj.mp z with z|z<;>first|cases z|exact o9 .a z
theorem OB(o:PO h p):∀l∈Ft h p,10∉l:=λl d=>by
 have c:∀n,10∉num n:=λn=>Et .a
 unfold Ft at d;cases e:p.kd with
 |XE a b=>
  rw[e]at d;simp at d;rcases d with rfl|rfl|rfl|rfl|rfl|rfl
  .exact .f
  .exact o.nm.no .a
  .exact o.dn.no .a
  .exact c _
  .exact c _
  exact c _
 |YG a=>
  rw[e]at d;simp at d;rcases d with rfl|rfl|rfl|rfl|rfl
  .exact .f
  .exact o.nm.no .a
  .exact o.dn.no .a
  .exact c _
  exact c _
 |VA b r q=>
  rw[e]at d;simp at d;rcases d with rfl|rfl|rfl|rfl|rfl|rfl|rfl
  .exact .f
  .exact o.nm.no .a
  .exact o.dn.no .a
  .exact c _
  .exact c _
  .exact ol (λg f m i=>o.ZP b r g f m (by rw[e,i])) (.inr rfl)
  exact OA
def OC(o:PO h p):10∉Bs h p:=λb=>by
 rcases Mz _ b with z|⟨l,a,c⟩
 .simp at z
 exact OB o l a c
theorem X3(o:PO h p):(∀l∈Ft h p,lN l<=2260)/\lN .D7<=7:=by
 have y:lN (wl "town")<=2260:=.f
 have u:lN (wl "mill")<=2260:=.f
 have t:lN (wl "basin")<=2260:=.f
 have w:=o.nm.le;have v:=o.dn.le;have s:=Hj (Ho o.dl).2;unfold Ft;cases e:p.kd with
 |XE a b=>
  let#[f,d]:=o.XE a b e;have i:=Hj f.2;have j:=Hj d.2;refine#[λl c=>?_,.d];simp at c
  rcases c with rfl|rfl|rfl|rfl|rfl|rfl<;>lia
 |YG a=>
  have i:=Hj (o.YG a e).2;refine#[λl c=>?_,.d];simp at c
  rcases c with rfl|rfl|rfl|rfl|rfl<;>lia
 |VA b r q=>
  let#[f,d]:=o.VA b r q e;have i:=Hj f.2;have j:=oi d;have x:=Nw (q:=q) (λk g m n=>o.ZP b r k g m (by rw[e,n]));refine#[λl c=>?_,.d];simp at c
  rcases c with rfl|rfl|rfl|rfl|rfl|rfl|rfl<;>lia
def Xz(o:PO h p):lN .BM<=16000:=by have a:=Nh (sep:=[32]) .D7 (X3 o).1;have b:lN .D7*(2260+lN [32])<=7*(2260+1):=jQ _ ((X3 o).2);unfold Bs;lia
def sum7(o:PO h p):((Ft h p).map qG).sum+lN .D7*lN [32]<=1000000:=by have b:=Nt .D7 (X3 o).1;have a:=(X3 o).2;simp;lia
def Jo:" "=Aa [32]:=.f
def cm_L:","=Aa [44]:=.f
def nl_L:"\n"=Aa [10]:=.f
def OD(h:RuOk ss)(G):Wk [.str (Aa (u? ss)),r] G=.ok (.tup .Bp) G:=by
 have y:=oi h;rcases ss with _|⟨s,ss⟩
 .exact absurd rfl h.ne
 have c:=λG=>oj (d:=32) (λx n=>by
  have i:x∈(s::ss).map YU:=n;let#[t,_,rfl]:=zw.mp i;exact N1) .c (by
  have e:Af [59,32] (YU s::ss.map YU)=u? (s::ss):=rfl;rw[e];lia) G
 have m:"; "=Aa [59,32]:=.f
 have p:(YU s::ss.map YU).map Aa=(s::ss).map λs=>Aa (YU s):=.d
 have j:Af [59,32] (YU s::ss.map YU)=u? (s::ss):=rfl;rw[<-m,p,j]at c;have q:=λG=>Nl (r:=r) G (s::ss) h.ok
 have l:lN ((s::ss).map Bb)<=1000000:=by rw[zq];have:=h.len;lia
 have k:ZA .AA ((s::ss).map Bb)=u9:=Kj;generalize Aa (u? (s::ss))=u,((s::ss).map λs=>Aa (YU s)).map D.str=v,(s::ss).map Bb=w at*;simp[Wk,kL,Ag,c,Al,q,l,Bd,k,Ao]
def R3(d:∀x∈l::ls,c∉x)(a:c<256)(b:lN (Af [c] (l::ls))<=1000000)G:freeze G (Eh (.str (Aa (Af [c] (l::ls)))) [.str (Aa [c])] G)=.ok (.fl (((l::ls).map Aa).map D.str)) G:=dR (p:=0) #[rfl,.d] d (by simpa using a) b G
def OE{ws:List .Bo}{rest:List Nat}(d:∀x∈ws,c∉x)(a:c<256)(hw:ws≠[])(f:ws.length<=1000)(b:(Af [c] (ws++[rest])).length<=1000000)(G):freeze G (Qd (.str (Aa (Af [c] (ws++[rest])))) [.str (Aa [c]),.int ws.length] G)=.ok (.fl (((ws++[rest]).map Aa).map D.str)) G:=by
 have e:Qd (.str (Aa (Af [c] (ws++[rest])))) [.str (Aa [c]),.int ws.length] G=if((Aa [c]).length≠0/\(Aa (Af [c] (ws++[rest]))).length<=1000000)/\0<=(ws.length:Int)/\(ws.length:Int)<=1000 then .ok .AH (G++[.lst ((Txt.splitMax (Aa (Af [c] (ws++[rest]))) (Aa [c]) ws.length).map D.str)])else .bad:=rfl
 rw[e,if_pos #[#[.d,Di▸b],.a,.a],ND d a hw];exact Bd Hv
def ne_L{s:Str}(h:c∈l)(hs:c∉wl s):¬Aa l=s:=λe=>by
 have:wl s=l:=by simp[<-e,wl]
 rw[this]at hs;exact hs h
def OF(o:∀f d m,q=u7 (f,d,m)->LW (h.pl f).nm/\(1<=d/\d<=5)/\0<=m/\m<10^40)(G):Sx [.str (Aa .JD),r] G=.ok .JA G:=by
 rcases q with _|z
 .have e:Aa (Gs h u8)="none":=J7;simp[e,Sx,be,Ag,Hs.El,Ao]
 let#[f,d,m]:=z;let#[j,i,g]:=o f d m rfl;have a:=j.le;have b:=Hj (Ho i.2).2;have c:=Hj g.2;have n:Af [44] [wl (h.pl f).nm,num d,num m]=wl (h.pl f).nm++[44]++(num d++[44]++num m):=rfl;have e:Gs h (u7 (f,d,m))=Af [44] [wl (h.pl f).nm,num d,num m]:=rfl;have k:¬Aa (Af [44] [wl (h.pl f).nm,num d,num m])="none":=ne_L (c:=44) (by simp[n]) .f;have hs:=R3 (c:=44) (ls:=[num d,num m]) (λx l=>by
  simp at l
  rcases l with rfl|rfl|rfl<;>first|exact j.no (by lia)|exact Et .a) .a (by simp[n];lia) G
 rw[<-cm_L,zk,zk,zk,zk,zk,zk,qL,qL,J7]at hs;have s:h.El (u7 (f,d,m))=.tup [.str (h.pl f).nm,.int d,.int m]:=rfl;simp[e,s,Sx,be,Ag,k,hs,U4 j G,Lb (Ho i.2).1 (Ho i.2).2 (r:=r) G,Lb g.1 g.2 (r:=r) G,Ao]
def om(d:∀x∈l::ls,32∉x)(a:lN (Af [32] (l::ls))<=1000000)(G):Om [.str (Aa (Af [32] (l::ls))),.int (lN ls+1),r] G=.ok (.fl (((l::ls).map Aa).map D.str)) G:=by
 have hs:=R3 d .a a G;rw[<-Jo]at hs;have c:(lN (((l::ls).map Aa).map D.str))=lN ls+1:=.d
 have b:ZA .AA (((l::ls).map Aa).map D.str)=u9:=Hv;generalize Aa (Af [32] (l::ls))=X,((l::ls).map Aa).map D.str=Z at*;simp[Om,kT,Ag,hs,c,b,Ao]
def OG(g:0<=y)(c:y<10^40)(G):Wf [.str (Aa (Af [32] [wl "year",num y]))] G=.ok (.int y) G:=by
 have a:=Hj c;have e:Af [32] [wl "year",num y]=wl "year"++[32]++num y:=rfl;have h:lN (wl "year")=4:=.f
 have hw:=om (l:=wl "year") (ls:=[num y]) (r:=.int 0) (λx b=>by
  simp at b;rcases b with rfl|rfl
  .decide +kernel
  exact Et .a) (by simp[e];lia) G
 have d:((lN [num y]:Int)+1)=2:=rfl;rw[d,zk,zk,zk,zk,qL,qL,J7]at hw;simp[Wf,kU,Ag,hw,Gk,Lb g c (r:=.int 0) G,Ao]
def OH G(ns:List Int)(h:∀n∈ns,0<=n/\n<10^40):Bj .AQ Ai bi [u8,u7 r] (ns.map λn=>D.str .JJ) G=.ok .A2 G:=J8 λn z=>by simp[bi,Lb (h n z).1 (h n z).2]
def c_tm{k nm dn:Str}(i:LW nm)(h:LW dn){ns:List Int}(p:∀n∈ns,0<=n/\n<10^40)(q:lN ns<=10)(G):Up [.fl (.str k:: .str nm:: .str dn::ns.map λn=>D.str .JJ),r] G=.ok (.tup (.str k:: .str nm:: .str dn::ns.map D.int)) G:=by
 have j:=λG=>OH (r:=r) G ns p
 have ct:cutD (.str k:: .str nm:: .str dn::ns.map λn=>D.str .JJ) (u7 3) u8=ns.map λn=>D.str (Aa .AP):=by have:=Nu (xs:=(.str k:: .str nm:: .str dn::ns.map λn=>D.str .JJ)) (a:=3) .d;exact this
 have f:∀m,ZA m .A2=u9:=λm=>Df λ_ _=>rfl
 have o:∀G,freeze G (.ok .JG (G++[.lst (ns.map λn=>D.str .JJ)]))=.ok (.fl (ns.map λn=>D.str .JJ)) G:=λG=>Bd ((λm=>Df λ_ _=>rfl) _)
 have g:lN .A2<=1000000:=by rw[zq];lia
 have l:3+lN .A2<=1000000:=by rw[zq];lia
 generalize(ns.map λn=>D.str .JJ)=X,ns.map D.int=Y at*;simp[Up,kR,Ag,λG=>U4 i (r:=r) G,λG=>U4 h (r:=r) G,ct,o,Al,j,g,Bd,l,f .AA,Ao]
def OI(o:PO h p){b:Int}{d:List VU}(e:p.kd=.VA b d q)(G):W3 [.str .Ki,r] G=.ok .CQ G:=by
 let#[i,u]:=o.VA b d q e;have k:∀f a m,q=u7 (f,a,m)->LW (h.pl f).nm/\(1<=a/\a<=5)/\0<=m/\m<10^40:=λf a m v=>o.ZP b d f a m (by rw[e,v])
 have n:=Xz o;have g:Bs h p=Af [32] ([wl "basin",wl p.nm,wl .A9,num p.dl,num b,Gs h q]++[u? d]):=by unfold Bs Ft;rw[e];rfl
 have hs:=OE (c:=32) (ws:=[wl "basin",wl p.nm,wl .A9,num p.dl,num b,Gs h q]) (λx l=>by
  simp at l;rcases l with rfl|rfl|rfl|rfl|rfl|rfl
  .decide +kernel
  .exact o.nm.no .a
  .exact o.dn.no .a
  .exact Et .a
  .exact Et .a
  exact ol k (.inl rfl)) .a .d .d (by rw[<-g];lia) G
 have y:((lN [wl "basin",wl p.nm,wl .A9,num p.dl,num b,Gs h q]):Int)=6:=rfl;have B:([wl "basin",wl p.nm,wl .A9,num p.dl,num b,Gs h q]++[u? d]).map Aa=[("basin":Str),p.nm,h.YR p.dn,Aa (num p.dl),Aa (num b),Aa .JD,Aa (u? d)]:=by simp[J7]
 rw[<-g,<-Jo,y,B]at hs;have z:h.ZB p=.tup [.str "basin",.str p.nm,.str .A9,.int p.dl,.int b,.tup (d.map Bb),h.El q]:=by unfold Hs.ZB;rw[e]
 have j:XG .AA .CQ=u9:=Hs.Z1;rw[z]at j⊢;simp[W3,kQ,kP,kO,kN,kM,Ag,hs,λG=>U4 o.nm (r:=r) G,λG=>U4 o.dn (r:=r) G,λG=>Lb (Ho o.dl).1 (Ho o.dl).2 (r:=r) G,λG=>Lb i.1 i.2 (r:=r) G,λG=>OD u (r:=r) G,λG=>OF k (r:=r) G,Ao j]
def oo(o:PO h p){k:Str}{ns:List Int}(hn:∀n∈ns,0<=n/\n<10^40)(z:k="town"/\lN ns=3\/k="mill"/\lN ns=2)(e:Ft h p=wl k::wl p.nm::wl (h.YR p.dn)::ns.map num)(w:h.ZB p=.tup (.str k:: .str p.nm:: .str (h.YR p.dn)::ns.map D.int))G:Pq [.str .Ki,r] G=.ok .CQ G:=by
 have E:=Xz o;have t:tidy G (.ok .CQ G)=_:=Ao Hs.Z1;have hw:=λG=>om (l:=wl k) (ls:=wl p.nm::wl (h.YR p.dn)::ns.map num) (r:=r) (λx j=>by
  rcases zj.mp j with rfl|j
  .rcases z with⟨rfl,_⟩|⟨rfl,_⟩<;>decide +kernel
  rcases zj.mp j with rfl|j
  .exact o.nm.no .a
  rcases zj.mp j with rfl|j
  .exact o.dn.no .a
  let#[n,_,rfl]:=zw.mp j;exact Et .a) (by rw[<-e];unfold Bs at E;lia) G
 have hp:=λG=>Tv (c:=32) (p:=wl k) (q:=Af [32] (wl p.nm::wl (h.YR p.dn)::ns.map num)) (by rcases z with⟨rfl,_⟩|⟨rfl,_⟩<;>decide +kernel) (by unfold Bs at E;rw[e]at E;simp[Af]at E⊢;lia) G
 have g:wl k++32::Af [32] (wl p.nm::wl (h.YR p.dn)::ns.map num)=Bs h p:=by simp[Bs,e,Af]
 have ct:=λG=>c_tm (k:=k) o.nm o.dn hn .a (r:=r) G
 have A:∀m,ZA m (.str k:: .str p.nm:: .str (h.YR p.dn)::ns.map λn=>D.str .JJ)=u9:=λm=>Df λ_ _=>rfl
 rw[g,<-Jo,J7]at hp
 rw[<-e,show Af [32] .D7=Bs h p from rfl,e]at hw
 simp[J7,Function.comp_def]at hw;rw[<-w]at ct;unfold Pq bj;rw[Ag]
 rcases z with⟨rfl,z⟩|⟨rfl,z⟩<;>simp[z]at hw<;>simp[hp,hw,λf G z=>Gk (d:=.fl f) (G:=G) z,A,ct,t]
theorem OJ(o:PO h p)G:Pq [.str .Ki,r] G=.ok .CQ G:=by
 cases e:p.kd with
 |XE a b=>
  have B:=o.XE a b e;exact oo o (ns:=[p.dl,a,b]) (by have:=Ho o.dl;simp;lia) (.inl #[rfl,rfl]) (by unfold Ft;rw[e];rfl) (by unfold Hs.ZB;rw[e];rfl) G
 |YG a=>
  have B:=o.YG a e;exact oo o (ns:=[p.dl,a]) (by have:=Ho o.dl;simp;lia) (.inr #[rfl,rfl]) (by unfold Ft;rw[e];rfl) (by unfold Hs.ZB;rw[e];rfl) G
 |VA b C q=>
  have g:Bs h p=wl "basin"++32::Af [32] [wl p.nm,wl .A9,num p.dl,num b,Gs h q,u? C]:=by simp[Bs,Ft,e,Af]
  have hp:=λG=>Tv (c:=32) (p:=wl "basin") .f (by have:=Xz o;rw[<-g];lia) G
  rw[<-g,<-Jo,J7]at hp;have cb:=λG=>OI o e (r:=r) G
  simp[Pq,bj,Ag,hp,cb,Ao]
def Gh(y:Int):List Nat:=Af [32] [wl "year",num y]
def Ja(h:Hs):List (List Nat):=Gh h.yr::h.ps.map .Dr
def Hq(h:Hs):List Nat:=Af [10] .FT
structure HO (h:Hs):Prop where
 yr:0<=h.yr/\h.yr<10^40
 len:lN h.ps<=12
 po:∀p∈h.ps,PO h p
def OK(h:y<10^40):lN (Gh y)<=16000:=by
 have a:=Hj h;have e:Gh y=wl "year"++[32]++num y:=rfl;have b:lN (wl "year")=4:=.f
 simp[e];lia
def OL:10∉Gh y:=λa=>by
 have e:Gh y=wl "year"++[32]++num y:=rfl;rw[e]at a;simp only[qW,qU]at a;rcases a with(z|z)|z
 .exact absurd z .f
 .lia
 exact Et .a z
def Y4(o:HO h):(∀l∈Ja h,lN l<=16000)/\lN .FT<=13:=by
 refine#[λl a=>?_,?_]
 .rcases zj.mp a with rfl|a
  .exact OK o.yr.2
  let#[p,hp,rfl]:=zw.mp a;exact Xz (o.po p hp)
 have:=o.len;simp[Ja];lia
def OM(o:HO h):∀l∈Ja h,10∉l:=λl a=>by
 rcases zj.mp a with rfl|a
 .exact OL
 let#[p,hp,rfl]:=zw.mp a;exact OC (o.po p hp)
def dS(o:HO h):lN .FU<=210000:=by have a:=Nh (sep:=[10]) .FT (Y4 o).1;have b:lN .FT*(16000+lN [10])<=13*(16000+1):=jQ _ ((Y4 o).2);unfold Hq;lia
def ON(o:HO h):((Ja h).map qG).sum+lN .FT*lN [10]<=1000000:=by have b:=Nt .FT (Y4 o).1;have a:=(Y4 o).2;simp;lia
theorem oq{ps:List Pl}(o:∀p∈ps,PO h p):∀n j,j+n=lN ps->
  By (Ec 1 (.fl ((ps.map λp=>Aa .BM).map D.str))) .Ld Ai Xu [u8,u8] n j G=.ok ((ps.drop j).map h.ZB) G
 | 0,j,b=>by
  have e:Ec 1 (.fl ((ps.map λp=>Aa .BM).map D.str)) j G=u7 u8:=by
   show u7 ((((ps.map λp=>Aa .BM).map D.str)[j]?).map _)=_;rw[zy .e]
   rfl
  unfold By;rw[e,qY .a]
  rfl
 |n+1,j,b=>by
  have a:j<lN ps:=.a
  have e:Ec 1 (.fl ((ps.map λp=>Aa .BM).map D.str)) j G=u7 (zT [.int (1+j),.str (Aa (Bs h ps[j]))]):=by show u7 ((((ps.map λp=>Aa .BM).map D.str)[j]?).map _)=_;simp[zJ (by simpa using a)]
  have d:Xu [zI (1+j),zS (Aa (Bs h ps[j]))] G=.ok (h.ZB ps[j]) G:=by simp[Xu,OJ (o ps[j] (qX a)) (r:=.int (1+j)) G]
  unfold By;rw[e,zH a,zk];generalize Aa (Bs h ps[j])=X,h.ZB ps[j]=Y at*;have c:(Am 2 .LB) (.tup [.int (1+j),.str X]) [u8,u8] G=.ok [zI (1+j),zS X] G:=.d
  simp only[c,R.Jy,Pa,if_true,d,oq o n (j+1) (by omega)]
def OO(o:HO h)(i:∀G,Qu [h.enc] G=.ok h.enc G)(G):Rr [.str .KO] G=.ok h.enc G:=by
 have r:=dS o;have hs:=R3 (OM o) .a (by have e:Af [10] (Gh h.yr::h.ps.map .Dr)=Hq h:=rfl;rw[e];lia) G
 have q:Af [10] (Gh h.yr::h.ps.map .Dr)=Hq h:=rfl;have l:((Gh h.yr::h.ps.map .Dr).map Aa).map D.str=.str (Aa .EL)::(h.ps.map λp=>Aa .BM).map D.str:=.d
 rw[q,l,<-nl_L]at hs;have g:=λG=>OG o.yr.1 o.yr.2 G
 have n:Af [32] [wl "year",num h.yr]=Gh h.yr:=rfl;rw[n]at g;have ct:cutD (.str (Aa .EL)::(h.ps.map λp=>Aa .BM).map D.str) .Ga u8=(h.ps.map λp=>Aa .BM).map D.str:=by have:=Nu (xs:=(.str (Aa .EL)::(h.ps.map λp=>Aa .BM).map D.str)) (a:=1) .d;exact this
 have m:∀m,ZA m (((h.ps.map λp=>Aa .BM).map D.str))=u9:=λ_=>Hv
 have b:=λG=>oq o.po (G:=G) (lN h.ps) 0 .a
 have j:(h.ps.drop 0).map h.ZB=h.Cd:=rfl;rw[j]at b;have d:lN ((h.ps.map λp=>Aa .BM).map D.str)=lN h.ps:=.d
 rw[<-d]at b;have f:∀m,ZA m h.Cd=u9:=λ_=>Hs.Kn
 have k:lN h.Cd<=1000000:=by have:=o.len;simp[Hs.Cd];lia
 have t:tidy G (.ok h.enc G)=.ok h.enc G:=Ao Hs.Kt;unfold Hs.enc at t i⊢;generalize Aa .FU=X,Aa .EL=Y,(h.ps.map λp=>Aa .BM).map D.str=Z,h.Cd=W at*;simp[Rr,kW,Ag,hs,g,ct,m,T5,Al,b,k,f,Bd,i,t]
inductive RK where
 |VA (b:Int) (r:List VU) (q:Option (Str×Int×Int))
 |XE (a b:Int)
 |YG (a:Int)
structure RP where
 nm:Str
 dn:Str
 dl:Int
 kd:RK
def pmD:Option (Str×Int×Int)->D
 |none=>.WB
 |some (t,d,m)=>.tup [.str t,.int d,.int m]
def RK.VV:RK->Str
 |.VA ..=>"basin"
 |.XE ..=>"town"
 |.YG ..=>"mill"
def RK.rest:RK->List D
 |.VA b r q=>[.int b,.tup .BQ,pmD q]
 |.XE a b=>[.int a,.int b]
 |.YG a=>[.int a]
def RP.row(p:RP):List D:=.str p.kd.VV:: .str p.nm:: .str p.dn:: .int p.dl::p.kd.rest
def RP.enc(p:RP):D:=.tup p.row
structure RH where
 yr:Int
 ps:List RP
def RH.enc(h:RH):D:=.tup [.int h.yr,.tup .Gn]
@[simp]theorem US{n:Nat}{q:Option (Str×Int×Int)}:XG n (pmD q)=u9:=by rcases q with _|x<;>rfl
@[simp]theorem UT{n:Nat}{p:RP}:ZA n p.row=u9:=by
 unfold RP.row RK.rest
 cases p.kd<;>simp
@[simp]theorem dU{n:Nat}{p:RP}:XG n p.enc=u9:=by simp[RP.enc]
@[simp]theorem OP{n:Nat}{l:List RP}:ZA n (l.map RP.enc)=u9:=Df λ_ _=>dU
@[simp]theorem Zh{n:Nat}{h:RH}:XG n h.enc=u9:=by simp[RH.enc]
def Hg(c){p m:Int}(hp:0<p)(b:0<m):∃i,(0<=i/\i<m)/\∀G,Dv [.int c,.int p,.int m] G=.ok .AM G:=by refine#[c*48271%p%m,#[jS _ .a,jH _ b],λG=>?_];simp[Dv,bt,Ag,hp,b,Ao]
def Ww{l:List Str}:ZA m .Ao=u9:=Df λ_ _=>rfl
def fsT(x)(G):freeze G (.ok .Af G)=.ok .Af G:=Gk rfl
structure NG (ns:List Str):Prop where
 nd:ns.Nodup
 sea:("sea":Str)∉ns
 wd:∀z∈ns,Wd z
def tab0:List Str:=["seaf","seag","seah","seai","seaj","seak"]
def tab1:List Str:=["aaaaaa","aaaaa","aaaa","aaa","aa","a"]
def tab2:List Str:=["flake","glake","hlake","ilake","jlake","klake"]
theorem ot{f:Nat->Str}:∀(n j:Nat),(∀k,j<=k->k<j+n->∀G,te [zI k] G=.ok (.str (f k)) G)->∀G,Bj .AQ Ai te [u8] (Bq j n) G=.ok (((qF j n).map f).map D.str) G
 |0,j,_,G=>by rw[J9];rfl
 |n+1,j,h,G=>by
  have a:(j+1)=((j+1:Nat):Int):=.a
  simp only[Je,Li,a,Ie,R.Jy,jI,Pa,h j (by omega) (by omega)];rw[ot n (j+1) λk c b=>h k .a .a];simp[jP]
def dW{t:List Str}{n:Nat}(g:n<=6)(h:∀a,a<6->t.getD a ""≠"sea"/\LL (t.getD a "").cps.toList/\∀b,b<6->t.getD a ""=t.getD b ""->a=b):NG ((qF 0 n).map λk=>t.getD k ""):=by
 refine#[?_,λz=>?_,λz f=>?_]
 .rw[List.Nodup,List.pairwise_map];refine List.Pairwise.imp_of_mem (λ{a b}c d q z=>?_) List.nodup_range';have c:=jZ.mp c;have d:=jZ.mp d;exact q ((h a .a).2.2 b .a z)
 .let#[a,c,e]:=zw.mp z;have c:=jZ.mp c;exact(h a .a).1 e
 let#[a,c,rfl]:=zw.mp f;have c:=jZ.mp c;exact#[_,Pb,(h a .a).2.1]
def OQ c{n:Nat}(r:n<=6):∃ns:List Str,ns.length=n/\NG ns/\∀G,freeze G (Mi [.int c,.int n] G)=.ok (.fl .AN) G:=by
 have s:inR n:=Gj .a .a;have K:∀(te:DE)(t:List Str),(∀{n},n<=6->NG ((qF 0 n).map λk=>t.getD k ""))->(∀k,k<6->∀G,te [zI (k:Nat)] G=.ok (.str (t.getD k "")) G)->(∀G X,(∀G,Bj .AQ Ai te [u8] .DX G=.ok X G)->X.length<=1000000->Mi [.int c,.int n] G=tidy G (.ok .AH (G++[.lst X])))->∃ns:List Str,ns.length=n/\NG ns/\∀G,freeze G (Mi [.int c,.int n] G)=.ok (.fl .AN) G:=λte t a b d=>
  #[_,.d,a r,λG=>by rw[d G _ (ot n 0 λk _ hk G=>b k .a G) .e,Ce Ww,Bd Ww]]
 rcases(by lia:c%3=0\/c%3=1\/c%3=2)with q|q|q
 .exact K ki tab0 (λh=>dW h (by unfold LL;decide +kernel)) (λk hk G=>by rcases(by lia:k=0\/k=1\/k=2\/k=3\/k=4\/k=5)with rfl|rfl|rfl|rfl|rfl|rfl<;>kernel_rfl) λG X h j=>by simp[Mi,Vx,Ag,q,s,Al,h,j]
 .exact K br tab1 (λh=>dW h (by unfold LL;decide +kernel)) (λk hk G=>by
   have v:Jr "aaaaaa" (u7 k) u8=tab1.getD k "":=by rcases(by lia:k=0\/k=1\/k=2\/k=3\/k=4\/k=5)with rfl|rfl|rfl|rfl|rfl|rfl<;>decide +kernel
   simp[br,show("aaaaaa":Str).length<=1000000 by decide +kernel,fsT,v]) λG X h j=>by simp[Mi,Vx,Ag,q,s,Al,h,j]
 exact K kj tab2 (λh=>dW h (by unfold LL;decide +kernel)) (λk hk G=>by rcases(by lia:k=0\/k=1\/k=2\/k=3\/k=4\/k=5)with rfl|rfl|rfl|rfl|rfl|rfl<;>kernel_rfl) λG X h j=>by simp[Mi,Vx,Ag,q,s,Al,h,j]
structure Q? (M:Int) (acc:List VC) (hgt most:Int):Prop where
 good:Good 0 acc
 top:∀t∈acc,t.h+t.m<=hgt
 pm:(ZM acc).sum+most=M
 m0:0<=most
 riv:M<=0->∀t∈acc,t.r=u9
 h0:0<=hgt
 hb:hgt<=((lN acc:Int)+1)*10^31
 ub:∀t∈acc,Stp40 t
def StG(M:Int)(st:List VC):Prop:=Good 0 st/\lN st<=3/\(∀t∈st,Stp40 t)/\(ZM st).sum<=M/\(M<=0->∀t∈st,t.r=u9)
theorem ou{s:VC}:∀{acc:List VC}{a:Int},Good a acc->(∀t∈acc,t.h+t.m<=s.h)->a<=s.h->1<=s.m->Good a (acc++[s])
 |[],a,_,_,c,b=>#[c,b,trivial]
 |t::acc,a,h,d,c,b=>#[h.1,h.2.1,ou h.2.2 (λx e=>d x (zZ _ e)) (d t zW) b]
def OR{acc:List VC}{s:VC}:(ZM (acc++[s])).sum=(ZM acc).sum+(if s.r=u9 then 0 else s.m):=by
 unfold ZM
 cases h:s.r<;>simp[h]
def Q?.snoc{d c m g b:Int}{acc:List VC}{r:Bool}(h:Q? M acc d c)(u:lN acc<=10)(n:1<=m)(v:m<=4*10^30)(y:0<=g)(A:g<=3*10^30)
  (e:(r=u9/\b=c)\/(r=uA/\m<=c/\b=c-m)):Q? M (acc++[#[d,m,r]]) (d+m+g) b:=by
 let#[i,f,w,x,q,j,s,k]:=h;have l:(lN (acc++[(#[d,m,r]:VC)]))=lN acc+1:=.d
 refine#[ou i f j n,λt a=>?_,?_,?_,λz t a=>?_,.a,by rw[l];lia,λt a=>?_]
 .rcases qW.mp a with a|a
  .have:=f t a;lia
  rw[qU.mp a];show d+m<=_;lia
 .rw[OR]
  rcases e with⟨rfl,rfl⟩|⟨rfl,_,rfl⟩<;>simp<;>lia
 .rcases e with⟨_,rfl⟩|⟨_,o,rfl⟩<;>lia
 .rcases qW.mp a with a|a
  .exact q z t a
  rw[qU.mp a];rcases e with⟨rfl,_⟩|⟨_,o,_⟩
  .rfl
  have:=oQ i;lia
 rcases qW.mp a with a|a
 .exact k t a
 rw[qU.mp a];exact#[#[j,by show d<_;lia],by show 0<=m;lia,by show m<=_;lia]
def Q?.nil(d:0<=M)(c:0<=a)(b:a<=10^31):Q? M [] a M:=#[trivial,.d,by simp[ZM],d,.d,c,by simpa using b,.d]
def Q?.sg{b:Int}(h:Q? M st b a)(c:lN st<=3):StG M st:=#[h.good,c,h.ub,by have:=h.pm;have:=h.m0;lia,h.riv]
def Ke{i k s:Int}(c:0<=i)(b:i<=k)(s0:0<=s)(s1:s<=10^30)(a:0<=k):0<=i*s/\i*s<=k*10^30:=
 #[xA c s0,jU (qj b s0) (jM s1 a)]
def oy{i s:Int}(a:0<=i)(s1:1<=s):1<=(1+i)*s:=by have:=qj (show 1<=1+i by lia) (show 0<=s by lia);lia
def qm:Option (Str×Int×Int)->Int
 |none=>0
 |some (_,_,m)=>m
def RuG(yr:Int)(M:Int)(r:List VU):Prop:=Asc yr (-1) r/\(∃st r',r=(0,st)::r')/\lN r<=3/\∀s∈r,StG M s.2
def RuG.one(a:0<yr)(h:StG M st):RuG yr M [(0,st)]:=#[#[by show(-1)<0;decide,a,trivial],#[_,_,rfl],.d,by simpa using h]
def RuG.two{b:List VC}(d:0<a)(c:a<yr)(h:StG M st)(h':StG M b):RuG yr M [(0,st),(a,b)]:=#[#[by show(-1)<0;decide,.a,d,c,trivial],#[_,_,rfl],.d,by simp[h,h']]
theorem oz{cell:Int}(o:1<=scale)(g:scale<=10^30):∀(m j:Nat)(a b)acc(v t q),lN acc+m<=3->Q? M acc b a->∃(st:List VC)(c d:Int)(Q r n:Option D),Q? M st d c/\lN st=lN acc+m/\∀G:DH,
  Ar .C3 Q5 .Ft [zI cell,zI a,zI scale,zR .AA,zI b,v,t,q] (G++[.lst .DY])=
   .nx [zI cell,zI c,zI scale,zR .AA,zI d,Q,r,n] (G++[.lst .AT])
 |0,j,a,b,acc,v,t,q,_,u=>#[acc,a,b,v,t,q,u,rfl,λG=>by rw[J9,Cz]]
 | m+1,j,a,b,acc,v,t,q,h,u=>by
  let#[e,S,N]:=Hg (cell+j) (p:=10243) (m:=4) .c .c;let#[P,b2,L]:=Hg (cell+j) (p:=10247) (m:=2) .c .c;let#[l,b3,E]:=Hg (cell+j) (p:=10253) (m:=3) .c .c;have C:=λG=>Ga (i:=1+e) (j:=scale) (G:=G) .a .a
  have K:=λG=>Ga (i:=l) (j:=scale) (G:=G) .a .a
  have f:lN acc<1000000:=.a
  have q1:=Ke (i:=1+e) (k:=4) .a .a .a g .c;have q2:=oy S.1 o;have q3:=Ke (i:=l) (k:=2) .a .a .a g .c;generalize(1+e)*scale=w at*;generalize l*scale=x at*;have H:∃(s:VC)(c d:Int)(r n:Option D),Q? M (acc++[s]) d c/\∀G:DH,Q5 [zI cell,zI a,zI scale,zR .AA,zI b,zI j,t,q] (G++[.lst .DY])=
    .nx [zI cell,zI c,zI scale,zR .AA,zI d,zI j,r,n] (G++[.lst ((acc++[s]).map VC.enc)]):=by
   by_cases B:0<a/\P=0
   .exact#[#[b,min w a,uA],a-min w a,b+min w a+x,_,_,u.snoc .a .a .a .a .a (.inr #[rfl,.a,rfl]),λG=>by simp[Q5,VC.enc,wy,N,L,E,C,K,B,f];exact#[rfl,rfl]]
   exact#[#[b,w,u9],a,b+w+x,_,_,u.snoc .a .a .a .a .a (.inl #[rfl,rfl]),λG=>by by_cases y:0<a<;>simp at B<;>simp[Q5,VC.enc,wy,N,L,E,C,K,y,B,f]<;>exact#[rfl,rfl]]
  let#[s,mo,W,r,n,F,hb]:=H;let#[st,y,O,Z,z6,Y,J,I,U]:=oz o g m (j+1) mo W (acc++[s]) .GW r n .e F;refine#[st,y,O,Z,z6,Y,J,by simp[I];lia,λG=>?_];simp only[Je,Cj,Ie,R.Lh,jI,hb];exact U G
def pA(cell)(s:0<=a)(d:1<=scale)(c:scale<=10^30):∃st,StG a st/\∀G,Ru [.int cell,.int a,.int scale] G=.ok .Kl G:=by
 let#[b,A,w]:=Hg cell (p:=10211) (m:=4) .c .c;let#[f,E,v]:=Hg cell (p:=10223) (m:=4) .c .c;obtain⟨n,l⟩:∃n:Nat,f=n:=#[f.toNat,.a];have x:=Ke (i:=b) (k:=3) .a .a .a c .c;let#[st,mo,C,z,F,B,r,j,y]:=oz d c n 0 a (b*scale) [] u8 u8 u8 .e (Q?.nil s x.1 .a);refine#[st,r.sg (by simp[j];lia),λG=>?_]
 have o:∀G,Fw .G7 .Ds G=.ok (.int (b*scale)) G:=λG=>Ga .a .a
 have t:inR n:=Gj .a .a;have e:Ar .C3 Q5 .DX [zI cell,zI a,zI scale,zR .AA,zI (b*scale),u8,u8,u8] (G++[.lst []])=_:=y G;have q:ZA .AA .AT=u9:=.d
 generalize st.map VC.enc=Z at*;have g:tidy G (.ok .JE (G++[.lst Z]))=.ok .JE G:=Hx (by simpa using q);simp[Ru,kl,Ag,Ce,w,o,v,l,t,e,g]
def pB(cell)(q:0<=a)(d:1<=scale)(f:scale<=10^30)(s:0<year):∃r,RuG year a r/\∀G,T7 [.int cell,.int a,.int scale,.int year] G=.ok (.tup .BQ) G:=by
 let#[c,m,o]:=pA cell q d f;let#[g,u,t]:=pA (cell/3+1) q d f;have b:∀n,ZA n .FV=u9:=λn=>by simp
 have k:∀n,ZA n .IG=u9:=λn=>by simp
 by_cases l:1<year
 .refine#[[(0,c),(year-1,g)],RuG.two .a .a m u,λG=>?_];have e: [(0,c),(year-1,g)].map Bb=[.tup [.int 0,.tup .FV],.tup [.int (year-1),.tup .IG]]:=rfl;rw[e];generalize c.map VC.enc=A,g.map VC.enc=B at*;have i:tidy G (.ok .JG (G++[.lst [.tup [.int 0,.tup A]]]))=.ok .JG (G++[.lst [.tup [.int 0,.tup A]]]):=Ce (by simp[b]);have j:∀L,tidy G (.ok (.tup [.tup [.int 0,.tup A],.tup [.int (year-1),.tup B]]) (G++L))=.ok (.tup [.tup [.int 0,.tup A],.tup [.int (year-1),.tup B]]) G:=λL=>Hx (by simp[b,k])
  simp[T7,bu,Ag,o,i,l,t,j]
 refine#[[(0,c)],RuG.one s m,λG=>?_];have e: [(0,c)].map Bb=[.tup [.int 0,.tup .FV]]:=rfl;rw[e];generalize c.map VC.enc=A at*;have i:tidy G (.ok .JG (G++[.lst [.tup [.int 0,.tup A]]]))=.ok .JG (G++[.lst [.tup [.int 0,.tup A]]]):=Ce (by simp[b]);have j:∀L,tidy G (.ok (.tup [.tup [.int 0,.tup A]]) (G++L))=.ok (.tup [.tup [.int 0,.tup A]]) G:=λL=>Hx (by simp[b])
 simp[T7,bu,Ag,o,i,l,j]
def divS{i k:Int}(h:0<k)(a:k<1000000):Jx .AM .B6 G=.ok (.int (i/k)) G:=by let#[n,rfl]:=xQ (Int.le_of_lt h);exact CM .a (log2_small (Nat.lt_trans (show n<1000000 by lia) .c))
def OS{k:Int}(hk:0<k)(a:k<1000000)(G L:DH):Dh [.ref .AA,.int k] (G++ .lst [.int x]::L)=.ok (.int (x%k)) (G++ .lst [.int (x/k)]::L):=by
 have d:tidy (G++ .lst [.int x]::L) (.ok (.int (x%k)) (G++ .lst [.int (x/k)]::L))=.ok (.int (x%k)) (G++ .lst [.int (x/k)]::L):=Td .d rfl;have g:∀o,(G++o::L)[lN G]?=u7 o:=λo=>by rw[Kq];rfl
 have c:∀o b,(G++o::L).set .AA b=G++b::L:=λo b=>by rw[U3];rfl
 have e:∀H,Jx (.int x) .B6 H=.ok (.int (x/k)) H:=λH=>divS hk a
 unfold Dh kt;rw[Ag];have f:ixN 1 0=u7 0:=.c
 simp[c,hk,e,d,f]
def tk(x){k:Int}(hk:0<k)(a:k<1000000):∃i y,(0<=i/\i<k)/\∀G L:DH,Dh [.ref .AA,.int k] (G++ .lst [.int x]::L)=.ok .AM (G++ .lst [.int y]::L):=
 #[x%k,x/k,#[jS _ .a,jH _ hk],λG L=>OS hk a G L]
def pC{d:D}(hd:XG .AA d=u9):tidy G (.ok d H)=.ok d G\/tidy G (.ok d H)=.ok d H:=by
 unfold tidy;by_cases h:H.take .AA=G
 .left
  simp[h,hd]
 right
 simp[h]
def PoL(G L:DH)(r:R D)(d:D):Prop:=∃(y:Int)(M:DH),r=.ok d (G++ .lst [.int y]::(L++M))
def pE{M:DH}{d:D}(hd:∀n,XG n d=u9):PoL G L (tidy (G++ .lst [.int x]::L) (.ok d (G++ .lst [.int y]::(L++M)))) d:=by
 rcases pC (hd _)with h|h
 .exact#[x,[],by rw[h,qH]]
 exact#[y,M,h]
theorem pF{G:DH}(o:1<=scale)(g:scale<=10^30):∀(m j:Nat)(x a b)acc(u r p),lN acc+m<=3->Q? M acc b a->∃(st:List VC)(I c d:Int)(U q n:Option D),(Q? M st d c/\lN st=lN acc+m)/\
  Ar .C3 Qw .Ft [zR .AA,zI a,zI scale,zR (lN G+(lN L+1)),zI b,u,r,p] (G++ .lst [.int x]::(L++[.lst .DY]))=
   .nx [zR .AA,zI c,zI scale,zR (lN G+(lN L+1)),zI d,U,q,n] (G++ .lst [.int I]::(L++[.lst .AT]))
 |0,j,x,a,b,acc,u,r,p,_,t=>#[acc,x,a,b,u,r,p,#[t,rfl],by rw[J9,Cz]]
 | m+1,j,x,a,b,acc,u,r,p,h,t=>by
  let#[e,W,X,P]:=tk x (k:=4) .c .c;let#[S,y2,b2,O]:=tk W (k:=2) .c .c;let#[l,T,b3,E]:=tk y2 (k:=3) .c .c;have C:=λG=>Ga (i:=1+e) (j:=scale) (G:=G) .a .a
  have N:=λG=>Ga (i:=l) (j:=scale) (G:=G) .a .a
  have f:lN acc<1000000:=.a
  have q1:=Ke (i:=1+e) (k:=4) .a .a .a g .c;have q2:=oy X.1 o;have q3:=Ke (i:=l) (k:=2) .a .a .a g .c;generalize(1+e)*scale=w at*;generalize l*scale=z at*;have H:∃(s:VC)(c d:Int)(q n:Option D),Q? M (acc++[s]) d c/\Qw [zR .AA,zI a,zI scale,zR (lN G+(lN L+1)),zI b,zI j,r,p] (G++ .lst [.int x]::(L++[.lst .DY]))=
    .nx [zR .AA,zI c,zI scale,zR (lN G+(lN L+1)),zI d,zI j,q,n] (G++ .lst [.int T]::(L++[.lst ((acc++[s]).map VC.enc)])):=by
   by_cases B:S=1/\0<a
   .exact#[#[b,min w a,uA],a-min w a,b+min w a+z,_,_,t.snoc .a .a .a .a .a (.inr #[rfl,.a,rfl]),by simp[Qw,VC.enc,wy,P,O,E,C,N,B,f];exact#[rfl,rfl]]
   exact#[#[b,w,u9],a,b+w+z,_,_,t.snoc .a .a .a .a .a (.inl #[rfl,rfl]),by by_cases y:S=1<;>simp at B<;>simp[Qw,VC.enc,wy,P,O,E,C,N,y,Int.not_lt.mpr,B,f]<;>exact#[rfl,rfl]]
  let#[s,mo,hg,q,n,F,hb]:=H;let#[st,I,y,Q,z5,z6,z7,#[K,J],Z]:=pF o g m (j+1) T mo hg (acc++[s]) .GW q n .e F;refine#[st,I,y,Q,z5,z6,z7,#[K,by simp[J];lia],?_];simp only[Je,Cj,Ie,R.Lh,jI,hb];exact Z
def W?(x)(s:0<=a)(d:1<=scale)(c:scale<=10^30)(G L):∃st,StG a st/\PoL G L (Lp [.ref .AA,.int a,.int scale] (G++ .lst [.int x]::L)) (.tup .AT):=by
 let#[b,o,B,w]:=tk x (k:=4) .c .c;let#[g,h,F,v]:=tk o (k:=4) .c .c;obtain⟨n,l⟩:∃n:Nat,g=n:=#[g.toNat,.a];have y:=Ke (i:=b) (k:=3) .a .a .a c .c;let#[st,q,mo,E,A,H,C,#[r,j],z]:=pF d c n 0 h a (b*scale) [] u8 u8 u8 .e (Q?.nil s y.1 .a);refine#[st,r.sg (by simp[j];lia),?_];have m:∀G,Fw .G7 .Ds G=.ok (.int (b*scale)) G:=λG=>Ga .a .a
 have t:inR n:=Gj .a .a;have u:tidy (G++ .lst [.int x]::L) (.ok (.ref (lN G+(lN L+1))) (G++ .lst [.int x]::(L++[.lst []])))=.ok (.ref (lN G+(lN L+1))) (G++ .lst [.int x]::(L++[.lst []])):=by have:=Ce (G:=G++ .lst [.int x]::L) (ds:=[]) (L:=[]) rfl;simpa using this
 have f:Ar .C3 Qw .DX [zR .AA,zI a,zI scale,zR (lN G+(lN L+1)),zI (b*scale),u8,u8,u8] (G++ .lst [.int h]::(L++[.lst []]))=_:=z;have p:∀n,XG n .Kl=u9:=λn=>by simp
 generalize st.map VC.enc=Z at*;have e:Lp [.ref .AA,.int a,.int scale] (G++ .lst [.int x]::L)=tidy (G++ .lst [.int x]::L) (.ok .JE (G++ .lst [.int q]::(L++[.lst Z]))):=by simp[Lp,ku,Ag,u,w,m,v,l,t,f]
 rw[e];exact pE p
def pG{l:List Str}{i:Int}(c:0<=i)(b:i<lN l):∃v∈l,ZJ .Ao i=zS v:=by
 have a:i<(lN .Ao):=by rw[zq];exact b
 have e:=av c a;rw[xj]at e;exact#[_,qX _,e]
def KG(ns:List Str)(yr:Int)(k:Nat):RK->Prop
 |.VA b r q=>(0<=b/\b<10^40)/\RuG yr (qm q) r/\∀t d m,q=u7 (t,d,m)->(∃j,j≠k/\ns[j]?=u7 t)/\(1<=d/\d<=5)/\0<=m/\m<10^40
 |.XE a b=>(0<=a/\a<10^40)/\0<=b/\b<10^40
 |.YG a=>0<=a/\a<10^40
structure PG (ns:List Str) (yr:Int) (k:Nat) (p:RP):Prop where
 dn:∃j,k<j/\(ns++[("sea":Str)])[j]?=u7 p.dn
 dl:0<=p.dl/\p.dl<=5
 kd:KG ns yr k p.kd
def pH{k n i:Int}(hk:0<=k/\k<n)(b:0<=i/\i<n-1):(k+1+i)%n≠k:=λz=>by
 have e:=Int.mul_ediv_add_emod (k+1+i) n;rw[z]at e;rcases Int.lt_or_le ((k+1+i)/n) 1 with h|h
 .rcases Int.lt_or_le ((k+1+i)/n) 0 with a|a
  .have:=jM (show(k+1+i)/n<= -1 by lia) (show 0<=n by lia);lia
  rw[show(k+1+i)/n=0 by lia]at e;lia
 have:=jM h (show 0<=n by lia);lia
def pI{l:List Int}{i:Int}(c:0<=i)(b:i<lN l):∃v∈l,∀G,Cg .Kv .AM G=.ok .FZ G:=by
 have a:i<(lN .A0):=by rw[zq];exact b
 exact#[_,qX _,λG=>by simp[av c a];rfl]
def Z4{l:List Str}{i:Int}(c:0<=i)(b:i<lN l):∃v,l[i.toNat]?=u7 v/\ZJ .Ao i=zS v:=by
 have a:i<(lN .Ao):=by rw[zq];exact b
 have e:=av c a;rw[xj]at e;exact#[_,zJ .a,e]
def OT{n:Nat}(hn:lN ns=n)(hk:k<n)(hn6:n<=6)(y c1 o)(L:1<=scale)(w:scale<=10^30)(y0:0<year):∃p:RP,p.nm=ns.getD k ""/\PG ns year k p/\∀G,freeze G (Oq [.fl [.int y,.int c1,.int o],.int k,.fl .AN,.int scale,.int year] G)=.ok p.enc G:=by
 let#[i1,b1,t1]:=Hg y (p:=10007) (m:=n-k) .c .a;let#[i2,b2,t2]:=Hg y (p:=10009) (m:=9) .c .c;let#[e,b3,t3]:=Hg c1 (p:=10037) (m:=8) .c .c;let#[A,b4,t4]:=Hg y (p:=10039) (m:=5) .c .c;let#[i5,b5,t5]:=Hg c1 (p:=10061) (m:=3) .c .c;let#[i6,b6,t6]:=Hg o (p:=10067) (m:=2) .c .c;let#[dn,hdn,E]:=Z4 (l:=ns++[("sea":Str)]) (i:=k+1+i1) .a .e
 have c:∃j,k<j/\(ns++[("sea":Str)])[j]?=u7 dn:=#[_,.a,hdn];have z3:=Ke (i:=e) (k:=7) .a .a .a w .c;let#[s,hdm,J]:=pI (l:=[0,0,0,1,1,2,3,4,5]) .a b2.2;have x:0<=s/\s<=5:=by simp at hdm;lia
 have ank:ZJ .AN k=zS (ns.getD k ""):=Ef rfl (by simp[hn,hk]);have m3:=λG=>Ga (i:=e) (j:=scale) (G:=G) .a .a
 generalize e*scale=z at*;have q:0<=z/\z<10^40:=.a
 have hN:∀m,ZA m .AN=u9:=λ_=>Ww
 have ll:lN .AN=n:=by simp[hn]
 simp at E J;generalize ns.getD k ""=nm at*;have v:∀(p:RP),(∀G,Pg [zF [.int y,.int c1,.int o],zI k,zF .AN,zI scale,zI year,zI n,zS dn,zT [.str nm,.str dn,.int s],zI z,zI A,u8,u8,u8] G=.rt p.enc G)->∀G,freeze G (Oq [.fl [.int y,.int c1,.int o],.int k,.fl .AN,.int scale,.int year] G)=.ok p.enc G:=λp h G=>by simp[Oq,Ag,kr,kq,ko,kn,km,Bd,hN,ll,t1,E,ank,t2,J,t3,m3,t4,h,Ao,Gk,show n<=999999 by lia]
 have g:((1:Int)<n)=(1<n):=propext #[.a,.a];have en:∀a b,RP.enc #[nm,dn,s,.VA z a b]=.tup [.str "basin",.str nm,.str dn,.int s,.int z,.tup (a.map Bb),pmD b]:=λ_ _=>rfl
 rcases(by lia:(A=2\/A=3)\/A=4\/(¬A=2/\¬A=3/\¬A=4))with h|h|⟨h2,h3,h4⟩
 .exact#[#[_,dn,s,.XE z i5],rfl,#[c,x,q,.a],v _ λG=>by rcases h with h|h<;>simp[Pg,RP.enc,RP.row,RK.rest,RK.VV,h,t5]]
 .exact#[#[_,dn,s,.YG z],rfl,#[c,x,q],v _ λG=>by simp[Pg,Wy,RP.enc,RP.row,RK.rest,RK.VV,h]]
 by_cases hp:1<n/\i6=0
 .let#[i7,b7,t7]:=Hg o (p:=10069) (m:=n-1) .c .a;let#[B,b8,t8]:=Hg o (p:=10079) (m:=6) .c .c;let#[i9,b9,t9]:=Hg o (p:=10091) (m:=6) .c .c;have hne:=pH (k:=k) .a b7;have X:=jS (k+1+i7) (show(n:Int)≠0 by lia);let#[to,hto,S]:=Z4 X (by rw[hn];exact jH _ .a);let#[P,H,hdy]:=pI (l:=[1,1,2,3,4,5]) .a b9.2
  have M:1<=P/\P<=5:=by simp at H;lia
  have z8:=Ke (i:=B) (k:=5) .a .a .a w .c;have m8:=λG=>Ga (i:=B) (j:=scale) (G:=G) .a .a
  generalize B*scale=W at*;let#[r,Q,O]:=pB o z8.1 L w y0;refine#[#[_,dn,s,.VA z r (u7 (to,P,W))],rfl,#[c,x,q,Q,λt d m y=>by cases y;exact#[#[_,.a,hto],M,.a]],v _ λG=>?_];simp at hdy;rw[en];simp[Pg,Wy,bz,bx,bw,bv,h2,h3,h4,g,hp,t6,t7,show 0<n by lia,S,t8,m8,Bd,t9,hdy,O,pmD]
 let#[r,Q,O]:=pB o (zU 0) L w y0;refine#[#[_,dn,s,.VA z r u8],rfl,#[c,x,q,Q,λt d m z=>by cases z],v _ λG=>?_];rw[en]
 by_cases f:1<n<;>simp at hp<;>simp[Pg,Wy,bz,bx,bw,bv,h2,h3,h4,g,f,t6,hp,O,pmD]
def pJ{p:RP}{ps:List RP}(h:PG ns yr j p)(b:∀i q,ps[i]?=u7 q->PG ns yr (j+1+i) q):∀i q,(p::ps)[i]?=u7 q->PG ns yr (j+i) q:=λi q a=>by
 rcases i with _|i
 .cases a;exact h
 have:=b i q a;rwa[show j+1+i=j+(i+1) by lia]at this
structure HG (h:RH):Prop where
 ng:NG .DZ
 pg:∀i p,h.ps[i]?=u7 p->PG .DZ h.yr i p
 yr:0<h.yr/\h.yr<=24
theorem pK{n:Nat}(x:lN ns=n)(l:n<=6){sc:List Int}(q:1<=scale)(o:scale<=10^30)(B:0<year){s1:Option D}:∀(m j:Nat)acc(s r),j+m=n->lN acc+m<=100->∃(ps:List RP)(T L:Option D),ps.map RP.nm=(qF j m).map (λk=>ns.getD k "")/\(∀i p,ps[i]?=u7 p->PG ns year (j+i) p)/\∀G:DH,
  Ar .DM Va .Ft [zF .AJ,s1,zI scale,zF .AN,zI year,zR .AA,s,r] (G++[.lst (acc.map RP.enc)])=
   .nx [zF .AJ,s1,zI scale,zF .AN,zI year,zR .AA,T,L] (G++[.lst ((acc++ps).map RP.enc)])
 |0,j,acc,s,r,_,_=>#[[],s,r,rfl,λi p h=>by simp at h,λG=>by rw[J9,Cz,qH]]
 |m+1,j,acc,s,r,e,Z=>by
  let F:Nat->D:=λk=>.int (cellAt sc (4+3*j+k))
  let#[p,J,I,E]:=OT x (k:=j) .a l (cellAt sc (4+3*j+0)) (cellAt sc (4+3*j+1)) (cellAt sc (4+3*j+2)) q o B;have E:∀G,freeze G (Oq [.fl [F 0,F 1,F 2],.int j,.fl .AN,.int scale,.int year] G)=.ok p.enc G:=E;let#[ps,S,P,K,V,N]:=pK (sc:=sc) x l q o B (s1:=s1) m (j+1) (acc++[p]) .GW (zF [F 0,F 1,F 2]) .a .e;refine#[p::ps,S,P,?_,pJ I V,λG=>?_]
  .rw[zk,K,J,jP,zk]
  have H:∀G,Bj .AQ Ai cE [u8,zF .AJ,zI j] (Bq 0 3) G=.ok [F 0,F 1,F 2] G:=λG=>MU λk _=>by simp[cE,Oh (k:=4+3*j+k) (by omega),F]
  have n:∀m,ZA m [F 0,F 1,F 2]=u9:=λ_=>rfl
  have O:inR 3:=Gj .c .c;have t:lN acc<1000000:=.a
  rw[Je,Cj];specialize N G;simp at N;simp[Va,O,Al,H,n,Lq,E,t];exact N
def pL:(qF 0 (lN ns)).map (λk=>ns.getD k "")=ns:=by
 apply jA;intro i;rw[zG];by_cases h:i<lN ns
 .simp[h]
 rw[zy .e,zy .a]
 rfl
def OU{n:Nat}(b:n<=6)(f:1<=scale)(e:scale<=10^30):∃h,lN h.ps=n/\HG h/\∀G(k x4 r w v:Option D),cF [zF .AJ,zI n,zI scale,k,x4,u8,u8,u8] G=.rt h.enc (G++[.lst .Gn]):=by
 let#[c,g,ng,l]:=OQ .It b;let#[ps,z,y,q,o,m]:=pK g b (year:=1+cellAt sc 1/3%3) f e .a n 0 [] u8 u8 .a .e;have a:ps.map RP.nm=c:=by rw[q,<-g];exact pL
 refine#[#[1+cellAt sc 1/3%3,ps],?_,#[by rw[show RH.ps #[1+cellAt sc 1/3%3,ps]=ps from rfl,a];exact ng,λi p s=>by rw[show RH.ps #[1+cellAt sc 1/3%3,ps]=ps from rfl,a];have:=o i p s;rwa[Nat.zero_add]at this,by show 0<1+cellAt sc 1/3%3/\1+cellAt sc 1/3%3<=24;lia],λG k x4 r w v=>?_]
 .have:=congrArg qG a;rw[zq]at this;show lN ps=n;lia
 have d:∀G,Fo [.fl .AJ,.int 1] G=.ok (.int .It) G:=λG=>Oh .c
 have t:inR n:=Gj .a .a;have j:Ar .DM Va .DX [zF .AJ,zI n,zI scale,zF (c.map D.str),zI (1+cellAt sc 1/3%3),zR .AA,u8,u8] (G++[.lst []])=_:=m G;simp[RH.enc,cF,lR,lQ,lP,lO,d,l,Ce,t,j]
def OV{a M:DH}(b:a=L++M)(e:∀n,ZA n ds=u9):∃c N z,c=L++N/\
  tidy (G++ .lst [.int x]:: .lst NS::L) (.ok (.ref (lN G+(lN a+1+1))) (G++ .lst [.int y]:: .lst NS::(a++[.lst ds])))=.ok (.ref (lN G+(lN c+1+1))) (G++ .lst [.int z]:: .lst NS::(c++[.lst ds])):=by
 have d:(G++ .lst [.int y]:: .lst NS::(a++[.lst ds]))[lN G+(lN a+1+1)]?=u7 (.lst ds):=by rw[O3];simp
 have f:XG (lN (G++ .lst [.int x]:: .lst NS::L)) (.ref (lN G+(lN a+1+1)))=uA:=by simp[b]
 by_cases hp:(G++DO.lst [.int y]::DO.lst NS::(a++[DO.lst ds])).take (lN (G++DO.lst [.int x]::DO.lst NS::L))=G++DO.lst [.int x]::DO.lst NS::L
 .refine#[L,[],x,.d,?_];unfold tidy;simp only[hp,f,d,K4,e];simp
 refine#[a,M,y,b,?_];unfold tidy;simp only[hp,if_false]
def pM(x){c:Int}(H:0<=c)(p:1<=scale)(o:scale<=10^30)(S:0<year)(Z:year<1000000)(L:DH){s5 s6:Option D}{hd:List D}(d:¬hd=[])(f:lN hd<=999997){sz:Int}{pm:D}{s11:Option D}:∃(r:List VU)(y:Int)(M:DH),RuG year c r/\
  Z0 [zR .AA,s1,zR (lN G+1),zI scale,zI year,s5,s6,zT hd,zI sz,u7 pm,zI c,s11,u8] (G++ .lst [.int x]:: .lst NS::L)=.rt (.tup (hd++[.int sz,.tup .BQ,pm])) (G++ .lst [.int y]:: .lst NS::(L++M)):=by
 let#[a,K,F,M1,P]:=W? x H p o G (.lst NS::L);have g:Lp [.ref .AA,.int c,.int scale] (G++ .lst [.int x]:: .lst NS::L)=.ok (.tup .Al) (G++ .lst [.int F]:: .lst NS::(L++M1)):=P;generalize t:L++M1=Y at*;let#[h,q,U,m,w]:=OV (G:=G) (NS:=NS) (ds:=[.tup [.int 0,.tup .Al]]) (x:=x) (y:=F) t.symm (λn=>.d);let#[E,N,b2,T]:=tk U (k:=2) .c .c;have i:=T G (.lst NS::(h++[.lst [.tup [.int 0,.tup .Al]]]))
 by_cases s:E=1/\1<year
 .let#[j,I,X,O]:=tk N (k:=year-1) .a .a;let#[b,W,J,M2,l]:=W? I H p o G (.lst NS::(h++[.lst [.tup [.int 0,.tup .Al]]]));have v:Lp [.ref .AA,.int c,.int scale] (G++ .lst [.int I]:: .lst NS::(h++[.lst [.tup [.int 0,.tup .Al]]]))=.ok (.tup .DE) (G++ .lst [.int J]:: .lst NS::(h++ .lst [.tup [.int 0,.tup .Al]]::M2)):=by simp[l]
  refine#[[(0,a),(1+j,b)],J,q++ .lst [.tup [.int 0,.tup .Al],.tup [.int (1+j),.tup .DE]]::M2,RuG.two .a .a K W,?_];have e: [(0,a),(1+j,b)].map Bb=[.tup [.int 0,.tup .Al],.tup [.int (1+j),.tup .DE]]:=rfl;have u:L++(q++ .lst [.tup [.int 0,.tup .Al],.tup [.int (1+j),.tup .DE]]::M2)=h++ .lst [.tup [.int 0,.tup .Al],.tup [.int (1+j),.tup .DE]]::M2:=by simp[m]
  simp[e,u,Z0,cB,cA,g,w,i,s.1,s.2,O G (.lst NS::(h++[.lst [.tup [.int 0,.tup .Al]]])),v,d,f]
 refine#[[(0,a)],N,q++[.lst [.tup [.int 0,.tup .Al]]],RuG.one S K,?_];have e: [(0,a)].map Bb=[.tup [.int 0,.tup .Al]]:=rfl;have u:L++(q++[.lst [.tup [.int 0,.tup .Al]]])=h++[.lst [.tup [.int 0,.tup .Al]]]:=by simp[m]
 rw[e,u];unfold Z0 cB cA;by_cases l:E=1
 .have Q:¬1<year:=λz=>s #[l,z]
  simp[g,w,i,Q,d,f]
 simp[g,w,i,l,d,f]
def nsG(G L:DH)(A)(NS):(G++A:: .lst NS::L)[lN G+1]?=u7 (.lst NS):=by rw[O3];rfl
def rplace{n:Nat}(hn:lN ns=n)(hk:k<n)(hn6:n<=6)x(U:1<=scale)(v:scale<=10^30)(y0:0<year)(hy:year<1000000)(G L:DH):∃p:RP,p.nm=ns.getD k ""/\PG ns year k p/\
  PoL G (.lst (ns.map D.str)::L) (Oe [.ref .AA,.int k,.ref (lN G+1),.int scale,.int year] (G++ .lst [.int x]:: .lst (ns.map D.str)::L)) p.enc:=by
 obtain⟨a,c⟩:∃a:Int->DH,∀x,a x=G++ .lst [.int x]:: .lst (ns.map D.str)::L:=#[_,λ_=>rfl];have T:∀(x:Int){m:Int},0<m->m<1000000->∃i y:Int,(0<=i/\i<m)/\Dh [.ref .AA,.int m] (a x)=.ok .AM (a y):=λx m h0 h1=>by let#[i,y,b,t]:=tk x h0 h1;exact#[i,y,b,by rw[c,c];exact t G _]
 have E:∀x,(a x)[lN G+1]?=u7 (.lst .AN):=λx=>by rw[c];exact nsG _ _ _ _
 let#[i1,x1,b1,t1]:=T x (m:=4) .c .c;let#[i2,x2,b2,t2]:=T x1 (m:=n-k) .a .a;let#[o,x3,b3,t3]:=T x2 (m:=6) .c .c;let#[g,N,b4,t4]:=T x3 (m:=8) .c .c;let#[i5,x5,b5,t5]:=T N (m:=3) .c .c;let#[i6,x6,b6,t6]:=T N (m:=2) .c .c;let#[A,I,K]:=pG (l:=["basin","basin","town","mill"]) .a b1.2
 let#[dn,hdn,J]:=Z4 (l:=ns++[("sea":Str)]) (i:=k+1+i2) .a .e;have f:∃j,k<j/\(ns++[("sea":Str)])[j]?=u7 dn:=#[_,.a,hdn];have z4:=Ke (i:=g) (k:=7) .a .a .a v .c;have ank:ZJ .AN k=zS (ns.getD k ""):=Ef rfl (by simp[hn,hk]);have m4:=λG=>Ga (i:=g) (j:=scale) (G:=G) .a .a
 generalize g*scale=z at*;have b3:0<=o/\o<=5:=.a
 have q:0<=z/\z<10^40:=.a
 have hN:∀m,ZA m .AN=u9:=λ_=>Ww
 have W:lN .AN=n:=by simp[hn]
 simp at J K;generalize ns.getD k ""=nm at*;have u:∀(p:RP)y M,Ol [zR .AA,zI k,zR (lN G+1),zI scale,zI year,zS A,zS dn,zT [.str A,.str nm,.str dn,.int o],zI z,u8,u8,u8,u8] (a N)=.rt p.enc (G++ .lst [.int y]::(.lst (ns.map D.str)::L++M))->PoL G (.lst (ns.map D.str)::L) (Oe [.ref .AA,.int k,.ref (lN G+1),.int scale,.int year] (G++ .lst [.int x]:: .lst (ns.map D.str)::L)) p.enc:=λp y M e=>by
  have q:=pE (G:=G) (L:=.lst (ns.map D.str)::L) (x:=x) (y:=y) (M:=M) λ_=>dU (p:=p)
  rw[<-c]at q⊢;rw[show Oe [.ref .AA,.int k,.ref (lN G+1),.int scale,.int year] (a x)=tidy (a x) (.ok p.enc (G++ .lst [.int y]::(.lst (ns.map D.str)::L++M))) by generalize ns.map D.str=NS at*;simp[Oe,Ag,lD,lC,ky,kv,t1,Bd,hN,K,E,Ha,Dw,W,show n<=999999 by lia,t2,J,ank,t3,t4,m4,e]]
  exact q
 have h3:A="town"\/A="mill"\/A="basin":=by
  simp at I
  rcases I with h|h|h<;>simp[h]
 have h1:(1<(n:Int))=(1<n):=propext #[.a,.a];have ps:∀a b c d,RP.enc #[nm,dn,o,.VA a b (u7 (c,d))]=.tup ([.str "basin",.str nm,.str dn,.int o]++[.int a,.tup (b.map Bb),.tup [.str c,.int d.1,.int d.2]])/\RP.enc #[nm,dn,o,.VA a b u8]=.tup ([.str "basin",.str nm,.str dn,.int o]++[.int a,.tup (b.map Bb),.WB]):=λ_ _ _ _=>#[rfl,rfl]
 rcases h3 with rfl|rfl|rfl
 .exact#[#[_,dn,o,.XE z i5],rfl,#[f,b3,q,.a],u _ x5 [] (by simp[<-c,Ol,RP.enc,RP.row,RK.rest,RK.VV,t5])]
 .exact#[#[_,dn,o,.YG z],rfl,#[f,b3,q],u _ N [] (by simp[<-c,Ol,Vq,RP.enc,RP.row,RK.rest,RK.VV])]
 by_cases hp:i6=1/\1<n
 .let#[i7,x7,b7,t7]:=T x6 (m:=n-1) .a .a;let#[C,x8,b8,t8]:=T x7 (m:=6) .c .c;let#[i9,x9,b9,t9]:=T x8 (m:=5) .c .c;have hne:=pH (k:=k) .a b7;have hge:=jS (k+1+i7) (show(n:Int)≠0 by lia);let#[to,hto,ato]:=Z4 hge (by rw[hn];exact jH _ .a);have z8:=Ke (i:=C) (k:=5) .a .a .a v .c
  have m8:=λG=>Ga (i:=C) (j:=scale) (G:=G) .a .a
  generalize C*scale=w at*;let#[r,y,M,Y,F]:=pM x9 z8.1 U v y0 hy L (s1:=zI k) (s5:=zS "basin") (s6:=zS dn) (hd:=[.str "basin",.str nm,.str dn,.int o]) .d .d (sz:=z) (pm:=.tup [.str to,.int (1+i9),.int w]) (s11:=zS to);rw[<-c]at F;refine#[#[_,dn,o,.VA z r (u7 (to,1+i9,w))],rfl,#[f,b3,q,Y,λt d m z=>by cases z;exact#[#[_,.a,hto],.a,.a]],u _ y M ?_];rw[(ps _ _ _ _).1]
  generalize r.map Bb=RR at*;generalize ns.map D.str=NS at*;simp[Ol,Vq,Zq,cD,cC,t6,hp,h1,E,W,t7,show 0<n by lia,ato,t8,m8,t9,F]
 let#[r,y,M,Y,F]:=pM x6 (zU 0) U v y0 hy L (s1:=zI k) (s5:=zS "basin") (s6:=zS dn) (hd:=[.str "basin",.str nm,.str dn,.int o]) .d .d (sz:=z) (pm:=.WB) (s11:=u8);rw[<-c]at F;refine#[#[_,dn,o,.VA z r u8],rfl,#[f,b3,q,Y,λt d m z=>by cases z],u _ y M ?_];rw[(ps _ _ "" (0,0)).2];generalize r.map Bb=RR at*;generalize ns.map D.str=NS at*
 by_cases Z:i6=1<;>simp at hp<;>simp[Ol,Vq,Zq,cD,cC,t6,Z,h1,Nat.not_lt.mpr,hp,E,W,F]
def cp(s:Str):List Nat:=s.cps.toList
def OW{a b:Str}:cp (a++b)=cp a++cp b:=by show(Str.append a b).cps.toList=_;simp[Str.append,cp]
def OX{n:Int}(a:1<=n):cp (Ff #[[c].toArray] n)=zK n.toNat c:=by
 unfold Ff;rw[if_neg .a];by_cases h:n=1
 .subst h
  rfl
 have e:(n==1||Str.length #[[c].toArray]==0)=uA:=by simp[h,Str.length]
 rw[e]
 show((zK n.toNat [c].toArray).foldl (·++·) [].toArray).toList=_
 simp[Wj]
def Own(c:Nat)(nm:Str):Prop:=∃(pre:Str)(k:Nat),pre∈[("":Str),"none","sea"]/\1<=k/\k<=3/\cp nm=cp pre++zK k c/\97<=c/\c<123
def pN{nm:Str}(h:Own c nm):(cp nm).getLast?=u7 c:=by let#[pre,k,_,a,_,e,_]:=h;obtain⟨m,rfl⟩:∃m,k=m+1:=#[k-1,.a];rw[e,List.replicate_succ',<-j7,List.getLast?_concat]
def pO{nm:Str}(h:Own c nm):nm≠"none"/\nm≠"sea":=by
 let#[pre,k,hp,g,f,e,_]:=h;have d:cp ""=[]:=.f
 have a:cp "none"=[110,111,110,101]:=.f
 have b:cp "sea"=[115,101,97]:=.f
 have hk:k=1\/k=2\/k=3:=.a
 simp at hp;refine#[λz=>?_,λz=>?_]
 .rw[z,a]at e;rcases hp with rfl|rfl|rfl
  .rw[d]at e
   rcases hk with rfl|rfl|rfl<;>simp at e
  .rw[a]at e
   rcases hk with rfl|rfl|rfl<;>simp at e
  rw[b]at e
  rcases hk with rfl|rfl|rfl<;>simp at e
 rw[z,b]at e;rcases hp with rfl|rfl|rfl
 .rw[d]at e
  rcases hk with rfl|rfl|rfl<;>simp at e
  lia
 .rw[a]at e
  rcases hk with rfl|rfl|rfl<;>simp at e
 rw[b]at e
 rcases hk with rfl|rfl|rfl<;>simp at e
def OY{nm:Str}(h:Own c nm):Wd nm:=by
 let#[pre,k,hp,l,j,e,c1,f]:=h;have d:lN (cp pre)<=4/\∀x∈cp pre,97<=x/\x<123:=by
  simp at hp
  rcases hp with rfl|rfl|rfl<;>decide
 refine#[cp nm,Pb,?_,?_,λx a=>?_]
 .simp[e];lia
 .simp[e];lia
 rw[e]at a;rcases qW.mp a with a|a
 .exact d.2 x a
 rw[(List.mem_replicate.mp a).2];exact#[c1,f]
structure NL (ns:List Str) (lt:List Nat):Prop where
 nd:ns.Nodup
 ld:lt.Nodup
 lr:∀c∈lt,97<=c/\c<123
 ow:∀nm∈ns,nm=("none":Str)\/∃c,c∉lt/\Own c nm
def NL.ng{lt:List Nat}(h:NL ns lt):NG ns:=#[h.nd,λz=>by
 rcases h.ow _ z with e|⟨c,_,o⟩
 .exact absurd e .f
 .exact(pO o).2 rfl,λz a=>by
 rcases h.ow _ a with e|⟨c,_,o⟩
 .rw[e];exact#[_,Pb,by unfold LL;decide +kernel]
 exact OY o]
def NL.own{lt:List Nat}(h:NL ns lt)(l){nm:Str}(o:Own lt[j] nm):NL (ns++[nm]) (lt.eraseIdx j):=by
 have r:lt[j]∉lt.eraseIdx j:=λz=>by
  let#[i,s,e]:=List.mem_eraseIdx_iff_getElem?.mp z;let#[n,m]:=z9.mp e;rcases jB i j with q|q|q
  .exact qP.mp h.ld i j n l q m
  .exact s q
  exact qP.mp h.ld j i l n q m.symm
 refine#[List.nodup_append.mpr #[h.nd,.d,λa p b g z=>?_],h.ld.sublist (List.eraseIdx_sublist ..),λc f=>h.lr c (jF f),λx d=>?_]
 .have g:b=nm:=by simpa using g
  subst g;subst z;rcases h.ow _ p with e|⟨c,f,k⟩
  .exact(pO o).1 e
  have:=(pN k).symm.trans (pN o);cases this;exact f (qX l)
 rcases qW.mp d with d|d
 .rcases h.ow _ d with e|⟨c,f,k⟩
  .exact .inl e
  exact .inr #[c,(λc f z=>f (jF z)) c f,k]
 have d:x=nm:=by simpa using d
 subst d;exact .inr #[_,r,o]
def NL.none{lt:List Nat}(h:NL ns lt)(l:("none":Str)∉ns):NL (ns++[("none":Str)]) (lt.eraseIdx j):=by
 refine#[List.nodup_append.mpr #[h.nd,.d,λa i b f z=>?_],h.ld.sublist (List.eraseIdx_sublist ..),λc g=>h.lr c (jF g),λx d=>?_]
 .have f:b="none":=by simpa using f
  subst f;subst z;exact l i
 rcases qW.mp d with d|d
 .rcases h.ow _ d with e|⟨c,g,k⟩
  .exact .inl e
  exact .inr #[c,λz=>g (jF z),k]
 exact .inl (by simpa using d)
def OZ{q:Nat}(h:H[q]?=u7 (.lst .AN)):∃b,(b=u9->("none":Str)∉ns)/\Kv (.str "none") .Cf H=.ok .Dw H:=by
 have hs:Bf .Cf H=u7 (ns.map D.str):=by simp[h]
 have d:∀l:List Str,Ko .Ao=u7 (l.map V.str):=λl=>by
  induction l with
  |nil=>rfl
  |cons s l a=>simp[Ko,Mm,a]
 have c:∀l:List Str,inV (.str "none") .DP=decide (("none":Str)∈l):=λl=>by
  unfold inV
  induction l with
  |nil=>rfl
  |cons s l a=>
   rw[zk,List.any_cons,a];by_cases e:s="none"
   .subst e;simp[r?]
   have f:¬"none"=s:=λz=>e z.symm
   simp[r?,e,f]
 refine#[!decide (("none":Str)∈ns),λz=>by simpa using z,?_];unfold Kv;rw[show inD (.str "none") .Cf H=u7 (decide (("none":Str)∈ns)) by simp[inD,hs,Mm,d,c]]
def O0{x:Str}{n:Int}(b:x.length<=10)(f:0<=n)(d:n<=10):(Ff x n).length<=100:=by
 have a:(Ff x n).length=(Ff x n).cps.toList.length:=by simp[Str.length]
 have c:x.length=x.cps.toList.length:=by simp[Str.length]
 rw[a,congrArg qG (E8 (x:=x) (n:=n)),List.length_flatten,List.map_replicate,List.sum_replicate_nat,<-c];have:n.toNat<=10:=.a
 exact Nat.mul_le_mul this b
theorem pP{a b:Type}(f:a->b):∀(l:List a)j,(l.map f).eraseIdx j=(l.eraseIdx j).map f
 |[],_|x::l,0=>by simp
 |x::l,j+1=>by simp[pP f l j]
def one(c:Nat):Str:=#[[c].toArray]
def Of{d:List Nat}(nl:NL ns d)(hns:ns.length<=20)(hlt:1<=d.length/\d.length<=26)(x:Int)(s1 s2 s3 s6 x7 x8:Option D):∃(nm:Str)(r:List Nat)(y:Int)(I H:Option D),r.length+1=d.length/\NL (ns++[nm]) r/\
  Ml [zR G.length,s1,s2,s3,zR (G.length+1),zR (G.length+2),s6,x7,x8] (G++[.lst [.int x],.lst .AN,.lst (d.map (D.str∘one))])=
   .nx [zR G.length,s1,s2,s3,zR (G.length+1),zR (G.length+2),s6,I,H] (G++[.lst [.int y],.lst ((ns++[nm]).map D.str),.lst (r.map (D.str∘one))]):=by
 obtain⟨p,g⟩:∃p:Int->List D->List D->DH,∀x a b,p x a b=G++[.lst [.int x],.lst a,.lst b]:=#[_,λ_ _ _=>rfl];have T:∀(x:Int){m:Int},0<m->m<1000000->∃i y:Int,(0<=i/\i<m)/\∀a b,Dh [.ref G.length,.int m] (p x a b)=.ok .AM (p y a b):=λx m h0 h1=>by let#[i,y,c,t]:=tk x h0 h1;exact#[i,y,c,λa b=>by rw[g,g];exact t G _]
 have M:∀x a b,(p x a b)[G.length+1]?=u7 (.lst a):=λx a b=>by rw[g,O3];rfl
 have K:∀x a b,(p x a b)[G.length+2]?=u7 (.lst b):=λx a b=>by rw[g,O3];rfl
 have sN:∀x a b c,(p x a b).set (G.length+1) (.lst c)=p x c b:=λx a b c=>by rw[g,g,Yi];rfl
 have sL:∀x a b c,(p x a b).set (G.length+2) (.lst c)=p x a c:=λx a b c=>by rw[g,g,Yi];rfl
 let#[i1,X,b1,Z]:=T x (m:=(d.length:Int)) .a .a;obtain⟨j,rfl⟩:∃j:Nat,i1=j:=#[i1.toNat,.a];have hj:j<d.length:=.a
 have B:(d.map (D.str∘one)).length=d.length:=zq ..;have v:∀a,Pk (.ref (G.length+2)) [.int (j:Int)] (p X a (d.map (D.str∘one)))=.ok (.str (one d[j])) (p X a ((d.eraseIdx j).map (D.str∘one))):=λa=>by
  have e1:(d.map (D.str∘one))[(j:Int).toNat]?=zS (one d[j]):=by simp[hj]
  have e2:(d.map (D.str∘one)).eraseIdx (j:Int).toNat=(d.eraseIdx j).map (D.str∘one):=pP _ _ _;unfold Pk;simp only[K,e1,e2,sL];rw[if_pos .a]
 have O:(one d[j]).length<=10:=by show 1<=10;decide
 have ow:=λnm(o:Own d[j] nm)=>nl.own hj o
 have on:=λh=>nl.none h (j:=j)
 have J:(d.eraseIdx j).length+1=d.length:=by rw[List.length_eraseIdx_of_lt hj];lia
 have hcl:=nl.lr _ (qX hj);generalize d.eraseIdx j=f at*;generalize d[j]=cc at*;obtain⟨q,P⟩:∃q,q=one cc:=#[_,rfl];rw[<-P]at O v;let#[i2,x2,b2,Y]:=T X (m:=3) .c .c;let#[u,S,b3,t3]:=T x2 (m:=3) .c .c;let#[i4,x4,b4,t4]:=T S (m:=2) .c .c;let#[pre,z,k]:=pG (l:=[("":Str),"none","sea"]) .a b2.2;have hprel:pre.length<=10:=by
  simp at z
  rcases z with rfl|rfl|rfl<;>decide +kernel
 have mu:=λG=>FB (x:=q) (n:=1+u) (G:=G) #[.a,.a,.a]
 have hrl:=O0 (n:=1+u) O .a .a;have N:Own cc (pre++Ff q (1+u)):=#[pre,(1+u).toNat,z,.a,.a,by rw[OW,P];exact congrArg _ (OX .a),hcl];have U:∀G,Dw (.str pre) (.str (Ff q (1+u))) G=.ok (.str (pre++Ff q (1+u))) G:=λG=>if_pos .a
 have hnl:(pre++Ff q (1+u)).length<=1000000:=by
  have:(pre++Ff q (1+u)).length=pre.length+(Ff q (1+u)).length:=by show(Str.append _ _).length=_;simp[Str.append,Str.length]
  lia
 have F:=ow _ N;generalize pre++Ff q (1+u)=nm at*;have W:∀G,M7 (.str nm) u8 (u7 4) G=.ok (.str (Jr nm u8 (u7 4))) G:=λG=>by rw[ff,if_pos hnl]
 let#[bb,hbn,E]:=OZ (M S .AN (f.map (D.str∘one)));have C:(ns.map D.str).length<1000000:=by rw[zq];lia
 suffices h:∃A y I H,NL (ns++[A]) f/\Ml [zR G.length,s1,s2,s3,zR (G.length+1),zR (G.length+2),s6,x7,x8] (p x .AN (d.map (D.str∘one)))=.nx [zR G.length,s1,s2,s3,zR (G.length+1),zR (G.length+2),s6,I,H] (p y (ns.map D.str++[.str A]) (f.map (D.str∘one))) by let#[A,y,I,H,h,e]:=h;rw[g,g]at e;exact#[A,f,y,I,H,J,h,by rw[e];simp]
 simp at k;generalize f.map (D.str∘one)=LT2,d.map (D.str∘one)=LT at*;generalize ns.map D.str=NS at*;generalize d.length=ln at*;by_cases c3:Jr nm u8 (u7 4)=("none":Str)/\bb=u9/\i4=1
 .exact#["none",x4,zS q,zS "none",on (hbn c3.2.1),by simp[Ml,K,B,Z,v,Y,Bd,Gk,k,t3,mu,U,W,c3,E,t4,M,sN,C]]
 by_cases c1:Jr nm u8 (u7 4)=("none":Str)<;>cases bb<;>simp at c3<;>first
  |refine#[nm,S,zS q,zS nm,F,?_];simp[Ml,K,B,Z,v,Y,Bd,Gk,k,t3,mu,U,W,c1,E,M,sN,C];done
  |refine#[nm,x4,zS q,zS nm,F,?_];simp[Ml,K,B,Z,v,Y,Bd,Gk,k,t3,mu,U,W,c1,c3,E,t4,M,sN,C]
theorem pQ{G:DH}{s3:Option D}:∀(m j:Nat)ns b x e d c,lN ns+m<=20->m<=lN b->lN b<=26->NL ns b->∃(a:List Str)(l:List Nat)(y:Int)(w i g:Option D),lN a=lN ns+m/\NG a/\
  Ar .DM Ml .Ft [zR .AA,s1,s2,s3,zR (lN G+1),zR (lN G+2),e,d,c] (G++[.lst [.int x],.lst .AN,.lst (b.map (D.str∘one))])=
   .nx [zR .AA,s1,s2,s3,zR (lN G+1),zR (lN G+2),w,i,g] (G++[.lst [.int y],.lst (a.map D.str),.lst (l.map (D.str∘one))])
 |0,j,ns,b,x,e,d,c,_,_,_,h=>#[ns,b,x,e,d,c,rfl,h.ng,by rw[J9,Cz]]
 |m+1,j,ns,b,x,e,d,c,C,B,t,p=>by let#[nm,k,y,i,g,E,q,A]:=Of (G:=G) p .a #[.a,t] x s1 s2 s3 .GW d c;let#[a,f,z,v,u,o,n,ng,s]:=pQ m (j+1) (ns++[nm]) k y .GW i g .e .a .a q;refine#[a,f,z,v,u,o,by simp[n];lia,ng,?_];simp only[Je,Cj,Ie,R.Lh,jI,A];exact s
def On{d:D}(hd:XG .AA d=u9):freeze G (.ok d H)=.ok d G\/freeze G (.ok d H)=.ok d H:=by
 unfold freeze;have e:Gp H .AA 9 d=u7 d:=by unfold Gp;rw[if_pos hd]
 by_cases h:H.take .AA=G
 .left
  simp[h,e]
 right
 simp[h]
theorem pR{n:Nat}(s:lN ns=n)(a:n<=6)(b:1<=scale)(c:scale<=10^30)(o:0<year)(q:year<1000000):∀m j x(L:DH),j+m=n->∃(ps:List RP)(y:Int)(M:DH),ps.map RP.nm=(qF j m).map (λk=>ns.getD k "")/\(∀i p,ps[i]?=u7 p->PG ns year (j+i) p)/\
  Bj .AQ Ai Te [u8,zR .AA,zI scale,zI year,zR (lN G+1)] .Ft (G++ .lst [.int x]:: .lst (ns.map D.str)::L)=.ok .E3 (G++ .lst [.int y]:: .lst (ns.map D.str)::(L++M))
 |0,j,x,L,_=>#[[],x,[],rfl,λi p h=>by simp at h,by rw[J9,qH];rfl]
 | m+1,j,x,L,e=>by
  let#[p,t,C,f,M1,w]:=rplace s (k:=j) .a a x b c o q G L;have g:Oe [.ref .AA,.int j,.ref (lN G+1),.int scale,.int year] (G++ .lst [.int x]:: .lst (ns.map D.str)::L)=.ok p.enc (G++ .lst [.int f]:: .lst (ns.map D.str)::(L++M1)):=w;obtain⟨l,M2,B⟩:∃l M2,Te [zI j,zR .AA,zI scale,zI year,zR (lN G+1)] (G++ .lst [.int x]:: .lst (ns.map D.str)::L)=.ok p.enc (G++ .lst [.int l]:: .lst (ns.map D.str)::(L++M2)):=by
   have r:Te [zI j,zR .AA,zI scale,zI year,zR (lN G+1)] (G++ .lst [.int x]:: .lst (ns.map D.str)::L)=freeze (G++ .lst [.int x]:: .lst (ns.map D.str)::L) (.ok p.enc (G++ .lst [.int f]:: .lst (ns.map D.str)::(L++M1))):=by
    rw[<-g]
    rfl
   rcases On dU with h|h
   .exact#[x,[],by rw[r,h,qH]]
   exact#[f,M1,by rw[r,h]]
  let#[ps,y,M,A,v,u]:=pR s a b c o q m (j+1) l (L++M2) .a;refine#[p::ps,y,M2++M,?_,pJ C v,?_]
  .rw[zk,A,t,jP,zk]
  have z:(j+1)=((j+1:Nat):Int):=.a
  simp only[Je,Li,z,Ie,R.Jy,jI,Pa,B];rw[u,R.Jy,j7]
  rfl
def Os{M:DH}(c:∀n,ZA n ds=u9):∃(z:Int)(N:DH),(freeze (G++ .lst [.int x]:: .lst NS::L) (.ok (.ref (lN G+(lN L+lN M+1+1))) (G++ .lst [.int y]:: .lst NS::(L++(M++[.lst ds]))))).bind (λd j=>Dg [d] j)=.ok .By (G++ .lst [.int z]:: .lst NS::(L++N)):=by
 by_cases hp:(G++DO.lst [.int y]::DO.lst NS::(L++(M++[DO.lst ds]))).take (lN (G++DO.lst [.int x]::DO.lst NS::L))=G++DO.lst [.int x]::DO.lst NS::L
 .refine#[x,[],?_];have f:(G++DO.lst [.int y]::DO.lst NS::(L++(M++[DO.lst ds])))=(G++DO.lst [.int x]::DO.lst NS::L)++(M++[DO.lst ds]):=by
   have a:=List.take_append_drop (lN (G++DO.lst [.int x]::DO.lst NS::L)) (G++DO.lst [.int y]::DO.lst NS::(L++(M++[DO.lst ds])));rw[hp]at a;have g:(G++DO.lst [.int y]::DO.lst NS::(L++(M++[DO.lst ds]))).drop (lN (G++DO.lst [.int x]::DO.lst NS::L))=M++[DO.lst ds]:=by
    have e:(G++DO.lst [.int y]::DO.lst NS::(L++(M++[DO.lst ds])))=(G++DO.lst [.int y]::DO.lst NS::L)++(M++[DO.lst ds]):=.d
    have h:lN (G++DO.lst [.int x]::DO.lst NS::L)=lN (G++DO.lst [.int y]::DO.lst NS::L):=.d
    rw[e,h,jL .AK,List.drop_length]
    rfl
   rw[g]at a;exact a.symm
  have i:lN G+(lN L+lN M+1+1)=lN (G++DO.lst [.int x]::DO.lst NS::L)+lN M:=.e
  rw[f,i,f9 (M++[DO.lst ds]) .d (c _),qH]
  rfl
 refine#[y,M++[.lst ds],?_];have e:freeze (G++ .lst [.int x]:: .lst NS::L) (.ok (.ref (lN G+(lN L+lN M+1+1))) (G++ .lst [.int y]:: .lst NS::(L++(M++[.lst ds]))))=.ok (.ref (lN G+(lN L+lN M+1+1))) (G++ .lst [.int y]:: .lst NS::(L++(M++[.lst ds]))):=by unfold freeze;simp only[hp,if_false]
 simp[e]
def alph:∃a,lN a=26/\NL [] a/\signs "abcdefghijklmnopqrstuvwxyz"=a.map (D.str∘one):=by
 refine#[("abcdefghijklmnopqrstuvwxyz":Str).cps.toList,.f,#[.d,.f,.f,.d],?_]
 rfl
def rhouse(x)(P:1<=scale)(K:scale<=10^30){n:Nat}(hn1:1<=n)(J:n<=6)(G):∃h,lN h.ps=n/\HG h/\∃L,U9 [.ref .AA,.int n,.int scale] (G++[.lst [.int x]])=.ok h.enc (G++L):=by
 let#[l,q,b1,t1]:=tk x (k:=3) .c .c;let#[lt,lt1,t,B]:=alph;let#[o,j,F,y6,y7,y8,Y,ng,hL]:=pQ n 0 [] lt q u8 u8 u8 .e .a .a t;have s:lN o=n:=by simpa using Y
 let#[ps,y,M,p1,Z,X]:=pR s J (year:=1+l) P K .a .a n 0 F [.lst (j.map (D.str∘one))] .a;have m:ps.map RP.nm=o:=by rw[p1,<-s];exact pL
 let#[z,N,Q]:=Os (G:=G) (L:=[.lst (j.map (D.str∘one))]) (M:=M) (NS:=o.map D.str) (x:=F) (y:=y) (λ_=>OP);have w:lN .E3<=1000000:=by have:=congrArg qG m;rw[zq]at this⊢;lia
 refine#[#[1+l,ps],?_,#[by rw[show RH.ps #[1+l,ps]=ps from rfl,m];exact ng,λi p hi=>by rw[show RH.ps #[1+l,ps]=ps from rfl,m];have:=Z i p hi;rwa[Nat.zero_add]at this,by show 0<1+l/\1+l<=24;lia],?_]
 .have:=congrArg qG m;rw[zq]at this;show lN ps=n;lia
 have hr:inR n:=Gj .a .a;have A:tidy (G++[.lst [.int q],.lst []]) (.ok (.ref (lN G+2)) (G++[.lst [.int q],.lst [],.lst (lt.map (D.str∘one))]))=.ok (.ref (lN G+2)) (G++[.lst [.int q],.lst [],.lst (lt.map (D.str∘one))]):=KP (Df λ_ _=>rfl);have T:∀G,Nv [.str "abcdefghijklmnopqrstuvwxyz"] G=.ok .JG (G++[.lst (lt.map (D.str∘one))]):=λG=>by
  rw[<-B]
  rfl
 have U:Ar .DM Ml .DX [zR .AA,zI n,zI scale,zI (1+l),zR (lN G+1),zR (lN G+2),u8,u8,u8] (G++[.lst [.int q],.lst [],.lst (lt.map (D.str∘one))])=_:=hL;have u:Bj .AQ Ai Te [u8,zR .AA,zI scale,zI (1+l),zR (lN G+1)] .DX (G++[.lst [.int F],.lst (o.map D.str),.lst (j.map (D.str∘one))])=.ok .E3 (G++ .lst [.int y]:: .lst (o.map D.str):: .lst (j.map (D.str∘one))::M):=X
 have e:U9 [.ref .AA,.int n,.int scale] (G++[.lst [.int x]])=tidy (G++[.lst [.int x]]) (.ok (RH.enc #[1+l,ps]) (G++ .lst [.int z]:: .lst (o.map D.str)::([.lst (j.map (D.str∘one))]++N))):=by
  unfold RH.enc;generalize ps.map RP.enc=PS,o.map D.str=NS,lt.map (D.str∘one)=LT,j.map (D.str∘one)=LT' at*;unfold U9 lM lL lK lJ lH;rw[Ag];simp at Q;simp[t1 G [],Tq,T,A,hr,U,Al,u,w];have W:1+lN M+1+1=lN M+1+1+1:=.a
  rw[W]at Q
  have v:∀(r:R D)S,((r.bind λx E=>(Bp S E).bind λxs G2=>R.ok (x::xs) G2).bind Dg)=r.bind λd E=>Dg [d] E:=λr S=>by cases r<;>rfl
  simp[v,Q]
 rcases pC Zh with h|h<;>exact#[_,by rw[e,h]]
def Oy{n:Nat}(o:1<=n)(d:n<=6)(e:1<=scale)(f:scale<=10^30)(G):∃h,lN h.ps=n/\HG h/\Qv [.fl .AJ,.int n,.int scale] G=.ok h.enc G:=by
 have a:∀G,Fo [.fl .AJ,.int 4] G=.ok (.int .Iu) G:=λG=>Oh .c
 by_cases j:0<=cellAt sc 4/\cellAt sc 4<10^18
 .let#[h,p,l,g]:=OU (sc:=sc) d e f;refine#[h,p,l,?_];have m:=g G u8 u8 u8 u8 u8;have k:XG .AA h.enc=u9:=Zh;have i:∀L,tidy G (.ok h.enc (G++L))=.ok h.enc G:=λL=>Hx k
  have q:cellAt sc 4<1000000000000000000:=j.2;simp[Qv,cG,Ag,a,j.1,q,m,i]
 let#[h,p,l,L,g]:=rhouse .Iu e f o d G;refine#[h,p,l,?_];have i:∀L,tidy G (.ok h.enc (G++L))=.ok h.enc G:=λL=>Hx Zh
 generalize h.enc=t,cellAt sc 4=V,sc.map D.int=SC at*;unfold Qv cG;rw[Ag];by_cases r:0<=V
 .have c:¬V<10^18:=λz=>j #[r,z]
  have b:¬V<1000000000000000000:=c;simp[a,b,Ce,g,i]
 simp[a,r,Ce,g,i]
def RP.pl(ns:List Str)(p:RP):Pl:=#[p.nm,if p.dn="sea" then u8 else u7 (ns.idxOf p.dn),p.dl.toNat,match p.kd with
 |.VA b r q=>.VA b r (q.map λx=>(ns.idxOf x.1,x.2.1.toNat,x.2.2))
 |.XE a b=>.XE a b
 |.YG a=>.YG a]
def RH.VY(h:RH):List Str:=h.ps.map RP.nm
def RH.hs(h:RH):Hs:=#[h.yr,h.ps.map (RP.pl h.VY)]
structure GH (h:Hs):Prop where
 g:XB h
 pw:∀k,k<h.n->PlG h.n k .Ac/\PlW h.yr k .Ac
 wd:∀k,k<h.n->Wd (h.pl k).nm
 yr:h.yr<=24
 n1:1<=h.n
 n6:h.n<=6
section
variable{h:RH}
def K8:h.hs.n=lN h.ps:=by simp[Hs.n,RH.hs]
def Xc(hk):h.hs.pl k=RP.pl h.VY h.ps[k]:=by simp[Hs.pl,RH.hs,hk]
def Xx:lN h.VY=lN h.ps:=by simp[RH.VY]
def S9(hk):(h.hs.pl k).nm=h.VY[k]'(by rw[Xx];exact hk):=by rw[Xc hk];simp[RP.pl,RH.VY]
def Yn{t:Str}(c:t∈h.VY):h.VY.idxOf t<lN h.ps/\(h.hs.pl (h.VY.idxOf t)).nm=t:=by
 have b:=qy c;have a:h.VY.idxOf t<lN h.ps:=by rw[<-Xx];exact b
 exact#[a,by rw[S9 a];exact jW b]
def dX(g:HG h){t:Str}(b:h.VY[j]?=u7 t):t∈h.VY/\h.VY.idxOf t=j:=by let#[a,rfl]:=z9.mp b;exact#[qX a,List.Nodup.idxOf_getElem g.ng.nd j a]
def pS(g:HG h)(hk):(h.ps[k].dn="sea")\/(h.ps[k].dn≠"sea"/\h.ps[k].dn∈h.VY/\k<h.VY.idxOf h.ps[k].dn):=by
 let#[j,c,a]:=(g.pg k _ (zJ hk)).dn;by_cases b:j<lN h.VY
 .rw[zE (show j<lN (h.ps.map RP.nm)from b)]at a
  let#[m,e]:=dX g a;exact .inr #[λz=>g.ng.sea (by rw[<-z];exact m),m,.a]
 rw[zM (show lN .DZ<=j by have:lN .DZ=lN h.VY:=rfl;lia)]at a;let#[_,e]:=z9.mp a
 left
 simp[<-e]
theorem PB(g:HG h)(hk):h.hs.ZB (RP.pl h.VY h.ps[k])=h.ps[k].enc:=by
 have p:=g.pg k _ (zJ hk);have l:h.hs.YR (RP.pl h.VY h.ps[k]).dn=h.ps[k].dn:=by
  rcases pS g hk with e|⟨e,m,_⟩
  .simp[RP.pl,e,Hs.YR]
  simp[RP.pl,e,Hs.YR,(Yn m).2]
 have f:(((RP.pl h.VY h.ps[k]).dl):Int)=h.ps[k].dl:=by have:=p.dl;show((h.ps[k].dl.toNat):Int)=_;lia
 have a:=p.kd;unfold Hs.ZB RP.enc RP.row;rw[l,f];cases e:h.ps[k].kd with
 |VA b r q=>
  rw[e]at a;rcases q with _|x
  .simp[RP.pl,e,RK.VV,RK.rest,Hs.El,pmD]
  let#[t,d,m]:=x;let#[#[j,_,i],#[n,_],_]:=a.2.2 t d m rfl;have c:(d.toNat:Int)=d:=.a
  simp[RP.pl,e,RK.VV,RK.rest,Hs.El,pmD,(Yn (dX g i).1).2,c]
 |_=>simp[RP.pl,e,RK.VV,RK.rest]
def PC(g:HG h):h.hs.enc=h.enc:=by
 unfold Hs.enc RH.enc Hs.Cd;have e:h.hs.ps.map h.hs.ZB=h.ps.map RP.enc:=by
  refine qB (by simp[RH.hs]) λk a b=>?_
  have:=PB g (by simpa[RH.hs]using a);simpa[RH.hs]using this
 rw[e]
 rfl
def PD(hk):(h.hs.pl k).kd=match h.ps[k].kd with
  |.VA b r q=>.VA b r (q.map λx=>(h.VY.idxOf x.1,x.2.1.toNat,x.2.2))
  |.XE a b=>.XE a b
  |.YG a=>.YG a:=by rw[Xc hk];rfl
def PF(g:HG h)(hk:k<lN h.ps):PlG h.hs.n k (h.hs.pl k)/\PlW h.hs.yr k (h.hs.pl k):=by
 have p:=g.pg k _ (zJ hk);have L:h.hs.yr=h.yr:=rfl;have i:=PD hk;have f:=p.kd;have o:∀b r v l m,(h.hs.pl k).kd=.VA b r (u7 (v,l,m))->(v<h.hs.n/\1<=l/\l<=5)/\v≠k/\0<=m/\m<10^40/\RuG h.yr m r:=λb r v l m e=>by
  rw[i]at e;cases c:h.ps[k].kd with
  |VA y I w=>
   rw[c]at e f;rcases w with _|x
   .cases e
   let#[t,d,X]:=x;cases e;let#[#[j,C,S],#[W,U],H,T]:=f.2.2 _ _ _ rfl;let#[O,F]:=dX g S;refine#[#[by rw[K8];exact(Yn O).1,by show 1<=d.toNat;lia,by show d.toNat<=5;lia],F▸C,H,T,f.2.1]
  |_=>rw[c]at e;cases e
 have VA:∀b r q,(h.hs.pl k).kd=.VA b r q->(0<=b/\b<10^40)/\∃M,RuG h.yr M r/\(q=u8->M=0):=λb r q e=>by
  rw[i]at e;cases c:h.ps[k].kd with
  |VA y I w=>
   rw[c]at e f;cases e;refine#[f.1,qm w,f.2.1,λz=>?_];rcases w with _|x
   .rfl
   cases z
  |_=>rw[c]at e;cases e
 refine#[#[λd e=>?_,?_,λb r v l m e=>(o b r v l m e).1,λb r q e=>?_,λa b e=>?_,λb r e s hs t P=>?_],#[?_,λa e=>?_,λb r q e=>?_,λb r v l m e=>?_]]
 .rw[Xc hk]at e;rcases pS g hk with z|⟨z,m,lt⟩
  .simp[RP.pl,z]at e
  simp[RP.pl,z]at e;rw[K8,<-e];exact#[lt,(Yn m).1]
 .rw[Xc hk];have:=p.dl;show h.ps[k].dl.toNat<=5;lia
 .let#[A,M,u,_]:=VA b r q e;exact#[A.1,λs hs=>(u.2.2.2 s hs).1]
 .rw[i]at e;cases c:h.ps[k].kd with
  |XE B y=>
   rw[c]at e f;cases e;exact#[f.1.1,f.2.1]
  |_=>rw[c]at e;cases e
 .let#[_,M,u,Q]:=VA b r u8 e;exact(u.2.2.2 s hs).2.2.2.2 ((Q rfl)▸zU _) t P
 .cases e:(h.hs.pl k).kd with
  | YG a=>
   rw[i]at e;cases c:h.ps[k].kd with
   |YG B=>
    rw[c]at e f;cases e;exact f.2
   |_=>rw[c]at e;cases e
  | XE a b=>
   rw[i]at e;cases c:h.ps[k].kd with
   |XE B y=>
    rw[c]at e f;cases e;exact#[f.1.2,f.2.2]
   |_=>rw[c]at e;cases e
  |VA b r q=>
   let#[A,M,u,_]:=VA b r q e;exact#[A.2,#[u.2.2.1,λs hs=>#[(u.2.2.2 s hs).2.1,(u.2.2.2 s hs).2.2.1]],λv l m J=>by subst J;exact(o b r v l m e).2.2.2.1]
 .rw[i]at e;cases c:h.ps[k].kd with
  |YG B=>
   rw[c]at e f;cases e;exact f.1
  |_=>rw[c]at e;cases e
 .let#[_,M,u,_]:=VA b r q e;exact#[L▸u.1,u.2.1,λs hs=>zx (u.2.2.2 s hs).2.1 .c]
 let#[_,K,E,_,N]:=o b r v l m e;exact#[K,E,λs hs=>(N.2.2.2 s hs).2.2.2.1]
def PH(g:HG h)(y:1<=lN h.ps)(x:lN h.ps<=6):GH h.hs:=by
 have s:=g.yr;have u:h.hs.yr=h.yr:=rfl;have c:=λk(hk:k<h.hs.n)=>PF g (by rw[K8]at hk;exact hk)
 have t:∀k,k<h.hs.n->Wd (h.hs.pl k).nm:=λk hk=>by rw[S9 (by rw[K8]at hk;exact hk)];exact g.ng.wd _ (qX _)
 refine#[#[u▸s.1,by rw[K8];lia,λi j f l e=>?_,λi f e=>?_,λk d hk e=>(c k hk).1.dn d e,λk hk=>(c k hk).1.dl,λk b r w p m hk e=>(c k hk).1.ZP b r w p m e,λk b r q hk e=>(c k hk).1.XR b r q e,λk a b hk e=>(c k hk).1.XE a b e],c,t,u▸s.2,K8▸y,K8▸x]
 .rw[K8]at f l;rw[S9 f,S9 l]at e;have o:i<lN h.VY:=Xx▸f;have v:j<lN h.VY:=Xx▸l;exact(List.getElem?_inj o g.ng.nd).mp (by rw[zJ o,zJ v,e])
 rw[K8]at f;rw[S9 f]at e;exact g.ng.sea (by rw[<-e];exact qX _)
end
def PJ{n:Nat}(d:1<=n)(a:n<=6)(b:1<=scale)(c:scale<=10^30)(G):∃h,h.n=n/\GH h/\Qv [.fl .AJ,.int n,.int scale] G=.ok h.enc G:=by let#[h,g,e,f]:=Oy d a b c G;exact#[h.hs,by rw[K8,g],PH e .a .a,(PC e)▸f]
theorem pT:∀r a,-1<=a->Asc yr a r->∀s∈r,0<=s.1/\s.1<yr
 |[],_,_,_,s,hs=>by cases hs
 |t::r,a,d,h,s,hs=>by
  let#[e,c,b]:=h;rcases zj.mp hs with rfl|hs
  .lia
  exact pT r t.1 .a b s hs
def pU(hy:h.yr<=24)(wd:∀k,k<h.n->Wd (h.pl k).nm)(hk:k<h.n)(pg:PlG h.n k .Ac)(pw:PlW h.yr k .Ac):PO h .Ac where
 nm:=LW.of (wd k hk)
 dn:=by
  rcases e:(h.pl k).dn with _|d
  .exact LW.sea
  exact LW.of (wd d (pg.dn d e).2)
 dl:=pg.dl
 XE:=λa b e=>by have u:=pw.ub;rw[e]at u;have g:=pg.XE a b e;exact#[#[g.1,u.1],g.2,u.2]
 YG:=λa e=>by have u:=pw.ub;rw[e]at u;exact#[pw.YG a e,u]
 VA:=λb r q e=>by have u:=pw.ub;rw[e]at u;let#[u1,#[u2,u3],_]:=u;let#[a1,#[st,r',a2],_]:=pw.asc b r q e;refine#[#[(pg.XR b r q e).1,u1],#[by rw[a2];simp,.a,λs hs=>?_]];have h1:=pT r (-1) .a a1 s hs;let#[h2,h3]:=u3 s hs;refine#[#[h1.1,.a],.a,λt ht=>?_];have h4:=h3 t ht;exact#[h4.1,h4.2.1,Int.lt_of_le_of_lt h4.2.2 .c]
 ZP:=λb r to dl m e=>by have u:=pw.ub;rw[e]at u;let#[p1,p2,p3]:=pg.ZP b r to dl m e;exact#[LW.of (wd to p1),#[p2,p3],(pw.pq b r to dl m e).2.1,u.2.2 to dl m rfl]
def pV(h:(ls.map qG).sum+lN ls*lN sep<=1000000)(G:DH):Hb (.str .JB) [.ref .AA] (G++[.lst ((ls.map Aa).map D.str)])=.ok (.str (Aa .Gv)) (G++[.lst ((ls.map Aa).map D.str)]):=by
 have a:=Ou h (G++[.lst ((ls.map Aa).map D.str)]);rw[<-a];have b:(G++[DO.lst ((ls.map Aa).map D.str)])[lN G]?=u7 (.lst ((ls.map Aa).map D.str)):=by rw[Kq];rfl
 simp only[Hb,Bf,b]
def PL G(st:List VC)(h:∀s∈st,UY s):Bj (Am 3 (Ab .AQ (Ab .CW (Ab .CX An)))) Ai bq [u8,u8,u8] .AT G=.ok (((st.map WN).map Aa).map D.str) G:=by
 rw[qJ,qJ];refine Zx λs z=>#[[zI s.h,zI s.m,zS .CP],by simp[VC.enc],?_]
 have hs:=h s z;have t:=Ey hs.1.2;have p:=Ey hs.2.2;have u:=dQ (r:=s.r);simp(disch:=(simp;lia)) [-Wo,bq,Ht hs.1.1 hs.1.2,Ht hs.2.1 hs.2.2,show "+"=Aa [43] by decide +kernel,Jo,wy_L,N6,WN]
theorem pW{s0:Option D}{G:DH}:∀(ss:List VU)acc(m o x4),(∀s∈ss,n? s)->lN acc+lN ss<=100->∃F w E,
  Ar .Le Um .Bp [s0,zR .AA,m,o,x4] (G++[.lst ((acc.map Aa).map D.str)])=
   .nx [s0,zR .AA,F,w,E] (G++[.lst (((acc++ss.map YU).map Aa).map D.str)])
 |[],acc,m,o,x4,_,_=>#[m,o,x4,by rw[qL,Cz];simp]
 | s::ss,acc,m,o,x4,h,p=>by
  have hs:=h s .d;have h1:=Ey hs.1.2;simp at p;have d:=Yl hs.2.1 hs.2.2;have k:=λG=>PL G s.2 hs.2.2
  have h7:=hs.2.1;have U:=Nt .Gd λl p=>by let#[u,I,rfl]:=zw.mp p;exact oa (hs.2.2 u I)
  rw[zq]at U;have a:=λG=>Ou (sep:=[44,32]) (ls:=s.2.map WN) (by simp only[zq,q9,jx];lia) G
  let#[F,w,E,X]:=pW (s0:=s0) (G:=G) ss (acc++[YU s]) .JC .K8 (zS (Aa (Hh s.2))) (λx hx=>h x (zZ _ hx)) .e;refine#[F,w,E,?_];have hb:Um [s0,zR .AA,zI s.1,zT .AS,x4] (G++[.lst ((acc.map Aa).map D.str)])=.nx [s0,zR .AA,zI s.1,zT .AS,zS (Aa (Hh s.2))] (G++[.lst (((acc++[YU s]).map Aa).map D.str)]):=by
   have P:":"=Aa [58]:=.f
   have O:", "=Aa [44,32]:=.f
   have J:""=Aa []:=.f
   have n:∀m,ZA m (((s.2.map WN).map Aa).map D.str)=u9:=λ_=>Hv
   have b:lN (((s.2.map WN).map Aa).map D.str)<=1000000:=.e
   have t:Af [44,32] .Gd=[]/\Hh s.2=[]\/¬Af [44,32] .Gd=[]/\Hh s.2=[32]++Af [44,32] (s.2.map WN):=by rcases s.2 with _|⟨u,_|⟨v,r⟩⟩<;>simp[Af,Hh,WN]
   rw[jv,jv];have f:lN ((acc.map Aa).map D.str)<1000000:=.e
   generalize(acc.map Aa).map D.str=A at*;generalize((s.2.map WN).map Aa).map D.str=C at*;unfold YU
   rcases t with⟨e,g⟩|⟨e,g⟩<;>rw[g]at d⊢<;> simp at d<;>simp(disch:=first|exact n _|(simp<;>lia)|lia) [-Wo,Um,Al,k,Aq,b,n,Lq,O,a,J,P,Jo,dI,e,N6,Ht hs.1.1 hs.1.2,Kq,U3,f]
  simp only[zk,Cj,Bb,au,ar,aq,Ie,R.Jy,R.Lh,jI,q9,jx,if_true,hb,Ti];rw[X,j7]
  rfl
def pX(h:RuOk ss)(G):Xp [.tup .Bp] G=.ok (.str (Aa (u? ss))) G:=by
 let#[j,i,g,f]:=pW ss [] u8 u8 u8 h.ok (by have:=h.len;simp;lia);have a:Ar .Le Um .Bp [zT .Bp,zR .AA,u8,u8,u8] (G++[.lst []])=_:=f;have b:=pV (Nn h) G;have e:"; "=Aa [59,32]:=.f
 rw[<-e]at b;have c:∀L,tidy G (.ok (.str (Aa (u? ss))) (G++L))=.ok (.str (Aa (u? ss))) G:=λL=>Hx rfl
 rw[List.nil_append]at a;unfold u? at c⊢;generalize Aa (Af [59,32] .Gx)=R,((ss.map YU).map Aa).map D.str=Z,ss.map Bb=Y at*;simp[Xp,kc,Ag,Ce,a,b,c]
def PM:"year "=Aa (wl "year"++[32]):=.f
theorem row1:((Ja h).map Aa).map D.str=.str (Aa .EL)::((h.ps.map .Dr).map Aa).map D.str:=rfl
theorem PN(o:PO h p)G:Wv [h.ZB p] G=.ok (.str .Ki) G:=by
 have f:=λG=>pV (sum7 o) G
 have v:=λG=>Ht (Ho o.dl).1 (Ho o.dl).2 G
 rw[<-Jo]at f;unfold Bs Wv kf;rw[Ag];unfold Ft Hs.ZB at*;cases e:p.kd with
 |XE a b=>
  let#[i,x]:=o.XE a b e;simp[e,J7]at f;simp[v,Ht i.1 i.2,Ht x.1 x.2,Ce,f,Hx]
 |YG a=>
  have i:=o.YG a e;simp[e,J7]at f;simp[v,Ht i.1 i.2,Ce,f,Hx,show¬(("mill":Str)="town") by decide]
 | VA b r q=>
  let#[i,x]:=o.VA b r q e;have f:=λA:DO=>f (G++[A])
  have J:∀(w l:List D),lN w+lN l<=1000000->Dw .JG (.fl l) (G++[.lst w])=.ok (.ref (lN G+1)) (G++[.lst w,.lst (w++l)]):=λw l I=>by simp[Dw,Ha,I]
  simp[e,J7]at f;cases q with
  |none=>
   simp[Gs,J7]at f;simp[Gs,v,Ht i.1 i.2,Ce,Tq,Lq,pX x,J,f,Hx,Hs.El]
  |some z=>
   let#[d,c,m]:=z;let#[p1,C,B]:=o.ZP b r d c m e;have l1:=p1.le;have l2:=Hj (Ho C.2).2;have l3:=Hj B.2;have hN:(h.pl d).nm=Aa (wl (h.pl d).nm):=J7.symm;simp[Gs,Af]at f;unfold Gs;generalize wl (h.pl d).nm=N at*
   simp(disch:=first|(simp;done)|(simp;lia)) [-Wo,e,Aq,v,Ht i.1 i.2,Ce,Tq,Lq,Js,pX x,Kq,U3,J,f,Hx,Hs.El,show¬(("basin":Str)="town") by decide,hN,cm_L,N6,Ht (Ho C.2).1 (Ho C.2).2,Ht B.1 B.2,Af,show wl (Aa N)=N by simp[wl]]
def PP(ps:List Pl)(o:∀p∈ps,PO h p):Bj .AQ Ai Yp [u8] (ps.map h.ZB) G=.ok (((ps.map .Dr).map Aa).map D.str) G:=by rw[qJ,qJ];exact J8 λp z=>by simp[Yp,PN (o p z)]
def PQ(o:HO h)(G):Zc [h.enc] G=.ok (.str .KO) G:=by
 have k:∀G,Bj .AQ Ai Yp [u8] h.Cd G=.ok (((h.ps.map .Dr).map Aa).map D.str) G:=λG=>PP h.ps o.po
 have p:=λG=>Ht o.yr.1 o.yr.2 G
 have r:=Hj o.yr.2;have t:lN (wl "year")=4:=.f
 have d:=λG=>N6 (l:=wl "year"++[32]) (l':=num h.yr) .e G
 have n:wl "year"++[32]++num h.yr=Gh h.yr:=rfl;have f:=λG=>Ou (ON o) G
 rw[<-nl_L,row1]at f;rw[<-PM,n]at d;have q:lN (((h.ps.map .Dr).map Aa).map D.str)<=12:=by have:=o.len;simp;lia
 have e:∀m,ZA m (((h.ps.map .Dr).map Aa).map D.str)=u9:=λm=>Hv
 unfold Hq;generalize Aa (Af [10] .FT)=T,Aa .EL=Y,Aa (num h.yr)=s,((h.ps.map .Dr).map Aa).map D.str=Z at*;have b:lN Z<=1000000:=.a
 have c:lN Z+1<=1000000:=.a
 have i:∀G,freeze G (.ok .JG (G++[.lst Z]))=.ok (.fl Z) G:=λG=>Bd (e _)
 have g:∀G,freeze G (.ok .JG (G++[.lst (.str Y::Z)]))=.ok (.fl (.str Y::Z)) G:=λG=>Bd (by simp[e])
 simp[Zc,kg,Ag,Vm,Ci,p,d,Bd,Al,k,b,i,c,Nat.add_comm 1,g,f,Ao]
def WU(l:List Int):Prop:=∀x∈l,0<=x/\x<10^40
def WU.tl{l:List Int}(h:WU (x::l)):(0<=x/\x<10^40)/\WU l:=#[h x .d,λy a=>h y .Bm]
def Bo(c:Nat)(l:List Int):List Nat:=Af [c] .DN
def pY{l:List Int}(h:WU l)(e:lN l<=1000):((l.map num).map qG).sum+lN .DN*lN [c]<=41000:=by
 have d:=Nt .DN λx a=>by let#[n,b,rfl]:=zw.mp a;exact Ey (h n b).2
 simp at d⊢;lia
def Yh{l:List Int}(h:WU l)(e:lN l<=1000):lN (Bo c l)<=41000:=by
 have d:=Nh (sep:=[c]) .DN λx a=>by let#[n,b,rfl]:=zw.mp a;exact Ey (h n b).2
 simp at d;unfold Bo;lia
def pZ{l:List Int}(f:c<48\/57<c)(hd:c≠d):c∉Bo d l:=λe=>by
 rcases Mz _ e with z|⟨x,b,a⟩
 .exact hd (by simpa using z)
 let#[n,_,rfl]:=zw.mp b;exact Et f a
def p5(a:te=XA Fb (Bg .FO Bp))l(h:WU l):Bj .AQ Ai te [u8] .A0 G=.ok (((l.map num).map Aa).map D.str) G:=by rw[qJ,qJ];exact J8 λx z=>by simp[a,Ht (h x z).1 (h x z).2]
def PR{l:List Int}(h:WU l)(f:lN l<=1000)(G):Ph [.fl .A0] G=.ok (.str (Aa (Bo 44 l))) G:=by
 have g:=λG=>p5 (te:=k9) rfl (G:=G) l h
 have b:=λG=>Ou (sep:=[44]) (ls:=l.map num) (by have:=pY (c:=44) h f;lia) G
 have e:","=Aa [44]:=.f
 rw[<-e]at b;have d:lN (((l.map num).map Aa).map D.str)<=1000000:=.e
 have i:∀m,ZA m ((((l.map num).map Aa).map D.str))=u9:=λ_=>Hv
 unfold Bo;generalize((l.map num).map Aa).map D.str=Z,l.map D.int=L,Aa (Af [44] .DN)=T at*;simp[Ph,ka,Ag,Al,g,d,i,Bd,b,Ao]
def p6{sp:Str}(hs:sp=Aa [c]){l:List Int}(h:WU l)(e:lN l<=1000)(G):Sy [.tup .A0,.str sp] G=.ok (.str (Aa (Bo c l))) G:=by
 have f:=λG=>p5 (te:=iO) rfl (G:=G) l h
 have b:=λG=>Ou (sep:=[c]) (ls:=l.map num) (by have:=pY (c:=c) h e;lia) G
 rw[<-hs]at b;have d:lN (((l.map num).map Aa).map D.str)<=1000000:=.e
 have g:∀m,ZA m ((((l.map num).map Aa).map D.str))=u9:=λ_=>Hv
 unfold Bo;generalize((l.map num).map Aa).map D.str=Z,l.map D.int=L,Aa (Af [c] .DN)=T at*;simp[Sy,iP,Ag,Al,f,d,g,Bd,b,Ao]
def I9(rs:List .Cc):List Nat:=Af [32,124,32] .KQ
def PU(rs:List .Cc)(h:∀r∈rs,WU r/\lN r<=1000):Bj .AQ Ai bU [u8] (rs.map λr=>D.tup .Av) G=.ok (((rs.map .CY).map Aa).map D.str) G:=by rw[qJ,qJ];exact J8 λr z=>by simp[bU,p6 Jo (h r z).1 (h r z).2]
def p7{rs:List .Cc}(h:∀r∈rs,WU r/\lN r<=6)(f:lN rs<=20):((rs.map .CY).map qG).sum+lN .KQ*lN [32,124,32]<=1000000/\lN (I9 rs)<=1000000:=by
 have a:∀x∈rs.map .CY,lN x<=41000:=λx c=>by let#[r,b,rfl]:=zw.mp c;exact Yh (h r b).1 (zx (h r b).2 .c)
 have e:=Nt _ a;have d:=Nh (sep:=[32,124,32]) _ a;simp at e d⊢;unfold I9;lia
def PV{rs:List .Cc}(h:∀r∈rs,WU r/\lN r<=6)(f:lN rs<=20)(G):Wg [.tup (rs.map λr=>D.tup .Av)] G=.ok (.str (Aa (I9 rs))) G:=by
 have g:=λG=>PU (G:=G) rs λr c=>#[(h r c).1,zx (h r c).2 .c]
 have b:=λG=>Ou (p7 h f).1 G
 have e:" | "=Aa [32,124,32]:=.f
 rw[<-e]at b;have d:lN (((rs.map .CY).map Aa).map D.str)<=1000000:=.e
 have i:∀m,ZA m ((((rs.map .CY).map Aa).map D.str))=u9:=λ_=>Hv
 unfold I9;generalize((rs.map .CY).map Aa).map D.str=Z,rs.map (λr=>D.tup .Av)=L,Aa (Af [32,124,32] .KQ)=T at*;simp[Wg,iV,Ag,Al,g,d,i,Bd,b,Ao]
def o?{n:Int}(b:0<=n)(a:n<10^40)(G):Kc [.str .JJ] G=.ok .Bn G:=by have c:=Ey a;unfold Kc;simp only[oN b a];rw[if_pos (by rw[Di];lia)]
def p8{n:Int}(c:0<=n)(b:n<10^40)(G):Q9 [.str .JJ] G=.ok .Bn G:=by simp[Q9,k4,Ag,o8 c b G,o? c b G,Ao]
def p9(d:c<48){l:List Int}(h:WU (x::l))(a:lN (x::l)<=1000)(G):freeze G (Eh (.str (Aa (Bo c (x::l)))) [.str (Aa [c])] G)=.ok (.fl ((((x::l).map num).map Aa).map D.str)) G:=
 R3 (λy b=>by
  let#[n,_,rfl]:=zw.mp (show y∈(x::l).map num from b)
  exact Et (.inl d)) .a (by
  have:=Yh (c:=c) h a;unfold Bo at this;rw[zk]at this;lia) G
def PX l(h:WU l):Bj .AQ Ai bo [u8] (((l.map num).map Aa).map D.str) G=.ok .A0 G:=by rw[qJ,qJ];exact J8 λx z=>by simp[bo,p8 (h x z).1 (h x z).2]
def PY{l:List Int}(h:WU (x::l))(g:lN (x::l)<=1000)(G):Ng [.str (Aa (Bo 44 (x::l)))] G=.ok (.tup ((x::l).map D.int)) G:=by
 have hs:=λG=>p9 (c:=44) .c h g G
 have i:=λG=>PX (G:=G) (x::l) h
 have f:","=Aa [44]:=.f
 rw[<-f]at hs;have d:lN ((x::l).map D.int)<=1000000:=by rw[zq];lia
 have j:∀m,ZA m (((x::l).map D.int))=u9:=λ_=>Jz
 generalize(((x::l).map num).map Aa).map D.str=Z,(x::l).map D.int=L,Aa (Bo 44 (x::l))=T at*;simp[Ng,k6,Ag,hs,Al,i,d,j,Bd,Ao]
def PZ G:∀l:List Nat,(∀c∈l,48<=c/\c<=57)->Bj .AQ Ai l0 [u8] (l.map sgn) G=.ok ((l.map λ_=>u9).map D.bl) G:=o7 G
def P2{n:Int}(o:0<=n)(m:n<10^40){acc:List Int}(C:acc.length<1000000):Rv [s0,s1,zR G.length,zS .JJ] (G++[.lst .Hn])=.nx [s0,s1,zR G.length,zS .JJ] (G++[.lst ((acc++[n]).map D.int)]):=by
 have F:=Ey m;have b:=λG=>PZ G .AP λc b=>Y5 c b
 have s:∀A,freeze (G++[A]) (.ok (.ref (G.length+1)) (G++[A,.lst (((num n).map λ_=>u9).map D.bl)]))=.ok (.fl (((num n).map λ_=>u9).map D.bl)) (G++[A]):=λA=>Lq (Df λ_ _=>rfl)
 have t:∀G,Ir [.fl (((num n).map λ_=>u9).map D.bl)] G=.ok .Ab G:=λG=>by rw[Xa];simp
 have p:(((num n).map λ_=>u9).map D.bl).length<=1000000:=.e
 have hs:∀G,Em .LO G=.ok (.pure ((num n).map sgn)) G:=λG=>by show R.ok (ItD.pure (signs .JJ)) G=_;unfold signs;rw[Jc]
 have k:(Aa .AP).length<=1000000:=by rw[Di];lia
 have q:¬60<((Aa .AP).length:Int):=by rw[Di];lia
 have l:¬60<(Aa .AP).length:=by rw[Di];lia
 have f:¬Aa .AP="":=λz=>by
  have u:""=Aa []:=.f
  rw[u,dI]at z;exact Zt z
 have B:(1<(Aa .AP).length)->∃w,(∀G,Cg .LO .Be G=.ok (.str w) G)/\¬w="0":=λj=>by
  rcases oK o with rfl|⟨c,r,e,b⟩
  .have:(num 0).length=1:=by decide +kernel
   rw[Di]at j;lia
  refine#[#[[c].toArray],λG=>?_,λz=>?_]
  .have y:ZJ (c::r) 0=u7 c:=Ef rfl rfl;rw[C4,if_pos k,Jc,e,y]
   rfl
  have v:("0":Str)=#[[48].toArray]:=.f
  rw[v]at z;simp at z;exact b z
 have h:=λG=>o? o m G
 have d:(acc.map D.int).length<1000000:=by rw[zq];exact C
 rw[jv,zk,qL];generalize((num n).map λ_=>u9).map D.bl=Z,acc.map D.int=A,Aa .AP=X at*;unfold Rv;by_cases i:1<X.length
 .let#[w,E,x]:=B i;simp[f,k,q,hs,Al,b,p,s,t,E,x,h,d]
 have a:¬1<(X.length:Int):=.a
 simp[f,k,q,hs,Al,b,p,s,t,a,h,d]
theorem pb:∀l acc a,WU l->lN acc+lN l<1000000->∃b,Ar .BC Rv (((l.map num).map Aa).map D.str) [s0,s1,zR .AA,a] (G++[.lst .Hn])=.nx [s0,s1,zR .AA,b] (G++[.lst ((acc++l).map D.int)])
 |[],acc,a,_,_=>#[a,by simp[Cz]]
 |x::l,acc,a,h,d=>by
  let#[c,e]:=h.tl;simp at d;let#[b,f]:=pb l (acc++[x]) (zS (Aa (num x))) e .e;refine#[b,?_];simp only[zk,Cj,Ie,R.Lh,jI,P2 c.1 c.2 (acc:=acc) (by omega),Ti];rw[f,j7]
  rfl
def pd{l:List Int}(h:WU (x::l))(e:lN (x::l)<=1000)(G):Od [.str (Aa (Bo 32 (x::l))),.str " "] G=.ok .JG (G++[.lst ((x::l).map D.int)]):=by
 have hs:=λG=>p9 (c:=32) .c h e G
 rw[<-Jo]at hs;let#[g,f]:=pb (x::l) [] u8 h (by simp only[jx];lia);have a:Ar .BC Rv ((((x::l).map num).map Aa).map D.str) [zS (Aa (Bo 32 (x::l))),zS " ",zR .AA,u8] (G++[.lst []])=_:=f;rw[List.nil_append]at a;have d:∀n,ZA n ((x::l).map D.int)=u9:=λn=>Jz
 generalize(((x::l).map num).map Aa).map D.str=Z,(x::l).map D.int=L,Aa (Bo 32 (x::l))=T at*;simp[Od,l4,Ag,Ce,hs,a,d]
def Eu(rs:List .Cc):List D:=rs.map λr=>D.fl .Av
theorem pe:∀rs,(∀r∈rs,WU r/\lN r=6)->Bj .AQ Ai Vo [u8] (((rs.map .CY).map Aa).map D.str) G=.ok (Eu rs) G
 |[],_=>rfl
 |r::rs,h=>by
  let#[c,b]:=h r .d;rcases r with _|⟨x,l⟩
  .simp at b
  have e:=pd c .a G;have d:∀m,ZA m (((x::l).map D.int))=u9:=λ_=>Jz
  have f:Vo [zS (Aa (Bo 32 (x::l)))] G=.ok (.fl ((x::l).map D.int)) G:=by generalize(x::l).map D.int=L,Aa (Bo 32 (x::l))=T at*;simp[Vo,e,d,Bd]
  simp only[zk,Li,Ie,R.Jy,jI,Pa,f,pe rs λx a=>h x .Bm]
  rfl
theorem ph:∀rs a,(∀r∈rs,lN r=6)->∃b,Ar .BC Wz (Eu rs) [s0,s1,s2,a] G=.nx [s0,s1,s2,b] G
 |[],a,_=>#[a,by rw[show Eu []=[]from rfl,Cz]]
 |r::rs,a,h=>by
  have e:lN .Av=6:=by rw[zq];exact h r .d
  let#[b,f]:=ph rs (zF .Av) λx c=>h x .Fj
  refine#[b,?_];have d:Wz [s0,s1,s2,zF .Av] G=.nx [s0,s1,s2,zF .Av] G:=by simp[Wz,e]
  simp[show Eu (r::rs)=.fl (r.map D.int)::Eu rs from rfl,Cj,d]
  exact f
def P3{r:List Int}{rs:List .Cc}(h:∀x∈r::rs,WU x/\lN x=6)(g:lN (r::rs)<=20){n:Nat}(o:lN (r::rs)=n)(G):Qo [.str (Aa (I9 (r::rs))),.int n] G=.ok (.fl (Eu (r::rs))) G:=by
 have hs:freeze G (Eh (.str (Aa (I9 (r::rs)))) [.str " | "] G)=.ok (.fl ((((r::rs).map .CY).map Aa).map D.str)) G:=by
  have d:" | "=Aa [32,124,32]:=.f
  exact dR (p:=1) #[rfl,.d] (λx a=>by
   let#[q,_,rfl]:=zw.mp (show x∈(r::rs).map (Bo 32)from a)
   exact pZ (.inr .c) .c) .c (p7 (λx a=>#[(h x a).1,by rw[(h x a).2];exact zX _]) g).2 G
 have k:=pe (G:=G) (r::rs) h;let#[p,l]:=ph (s0:=zS (Aa (I9 (r::rs)))) (s1:=zI n) (s2:=zF (Eu (r::rs))) (G:=G) (r::rs) u8 λx a=>(h x a).2
 have j:lN (Eu (r::rs))=n:=by unfold Eu;rw[zq];exact o
 have i:n<=1000000:=.a
 have c:∀m,ZA m (Eu (r::rs))=u9:=λm=>Df λx _=>by simp
 generalize(((r::rs).map .CY).map Aa).map D.str=Z,Eu (r::rs)=L,Aa (I9 (r::rs))=T at*;have f:tidy G (.ok (.fl L) G)=.ok (.fl L) G:=Ao (by simpa using c _);simp[Qo,l5,Ag,hs,Al,k,i,Bd (c _),j,l,f]
def mo(h:Hs)(k:Nat):Int:=match(h.pl k).kd with
 |.VA b _ _=>b
 |_=>0
theorem Zf(g:XB h)(hk:k<h.n):0<=mo h k:=by
 unfold mo;cases e:(h.pl k).kd with
 |VA b r q=>exact(g.XR k b r q hk e).1
 |_=>exact zU _
def P4(hk:k<h.n):(Cw h.Cd).drop k=.tup [.int k,h.ZB .Ac]::(Cw h.Cd).drop (k+1):=by rw[zH (by rw[Jl,Hs.H7];exact hk)];have:=Hs.M5 hk;rw[zJ (Hs.H7▸hk)]at this;simp[Cw,w4 this]
def P5{L:Nat->Int}(hk:k<h.n)(ok:0<=L k/\L k<=mo h k){x4:Option D}(G):
  Yk [u7 h.enc,zT (tab h.n L),zI k,u7 .JK,x4] G=.nx [u7 h.enc,zT (tab h.n L),zI k,u7 .JK,zI .D8] G:=by
 have c:(VJ (dIf (Aj (ZC Kg (ZC Cg .EG (dC .Be)) (dC (.str "basin")))) (ZC Cg .EG (dC .HH)) (dC .Be)) .Bd) [u7 h.enc,zT (tab h.n L),zI k,u7 .JK,x4] G=.nx [u7 h.enc,zT (tab h.n L),zI k,u7 .JK,zI .D8] G:=by
  unfold mo;cases e:(h.pl k).kd with
  |VA b r q=>
   have a:∀G,Cg .JK .HH G=.ok .G7 G:=λG=>by unfold Hs.ZB;simp[e]
   simp[Jv,e,Kd.ZH,a]
  |_=>simp[Jv,e,Kd.ZH]
 unfold Yk sL;rw[fZ,c,f3];simp[H8 hk,ok.1,ok.2]
theorem pj(g:h.n<=12){L:Nat->Int}{G:DH}:∀m k a b x4,k+m=h.n->(∀j,k<=j->j<h.n->0<=L j/\L j<=mo h j)->∃f d c,
  Ar .Le Yk ((Cw h.Cd).drop k) [u7 h.enc,zT (tab h.n L),a,b,x4] G=.nx [u7 h.enc,zT (tab h.n L),f,d,c] G
 |0,k,a,b,x4,e,_=>#[a,b,x4,by rw[List.drop_eq_nil_of_le (by rw[Jl,Hs.H7];lia),Cz]]
 |m+1,k,a,b,x4,e,ok=>by
  have hk:k<h.n:=.a
  let#[f,d,c,l]:=pj g (G:=G) m (k+1) .DL (u7 .JK) (zI .D8) .a λj o=>ok j .a
  refine#[f,d,c,?_];simp[P4 hk,Cj,P5 hk (ok k .AK hk) (x4:=x4) G,l]
theorem px{v:D}(h:∀a,te a G=.ok v G):∀xs,Bj .AQ Ai te S xs G=.ok (zK .Ee v) G
 |[]=>by rw[CH];rfl
 |x::xs=>by simp[Li,h,px h xs,qz]
abbrev Z5:D:=.tup [.int 0,.int 0,.int 0,.int 0,.int 0]
def pz{n:Nat}:ZA m (zK n Z5)=u9:=Qs.mpr λd a=>by simp[(List.mem_replicate.mp a).2]
def ql(g:h.n<=12){L:Nat->Int}(ok:∀j,j<h.n->0<=L j/\L j<=mo h j)(G):U6 [h.enc,.tup (tab h.n L)] G=.ok (.tup [.tup (tab h.n L),.tup .Ct]) G:=by
 let#[m,l,k,e]:=pj g (G:=G) h.n 0 u8 u8 u8 .a λj _ f=>ok j f
 rw[xJ]at e;have b:∀S,Bj .AQ Ai iS S (tab h.n L) G=.ok .Ct G:=λS=>by have:=px (S:=S) (G:=G) (v:=Z5) (λo=>rfl) (tab h.n L);rwa[Qa]at this
 have c:freeze G (.ok .JG (G++[.lst .Ct]))=.ok (.fl .Ct) G:=Bd pz;have d:tidy G (.ok (.tup [.tup (tab h.n L),.tup .Ct]) G)=.ok (.tup [.tup (tab h.n L),.tup .Ct]) G:=Ao (by simp[pz]);have a:lN .Ct<=1000000:=by rw[jV];lia
 generalize zK h.n Z5=R at b c d a;simp[U6,iT,Ag,Ci,e,b,a,c,d]
def XY(hs st at_ sb sa fl pg:D):List (Str×D):=[("house",hs),("state",st),("at",at_),("state_at_begin",sb),("state_ahead",sa),("floods",fl),("pages",pg)]
def VL(hs st at_ sb sa fl pg:D):DO:=.ins "Desk" .Ad
section
variable{hs st at_ sb sa fl pg x:D}{G:DH}{i:Nat}{S:ZK}
def G9(h:G[i]?=u7 o):i<lN G:=(z9.mp h).1
theorem pu0:Gu "house" x .Ad=XY x st at_ sb sa fl pg:=rfl
theorem pu1:Gu "state" x .Ad=XY hs x at_ sb sa fl pg:=rfl
theorem pu2:Gu "at" x .Ad=XY hs st x sb sa fl pg:=rfl
theorem pu3:Gu "state_at_begin" x .Ad=XY hs st at_ x sa fl pg:=rfl
theorem pu4:Gu "state_ahead" x .Ad=XY hs st at_ sb x fl pg:=rfl
theorem pu5:Gu "floods" x .Ad=XY hs st at_ sb sa x pg:=rfl
theorem pu6:Gu "pages" x .Ad=XY hs st at_ sb sa fl x:=rfl
def Oa:lN .Ad<1000:=by show 7<1000;decide
section
variable(hq:G[i]?=u7 .EO)
include hq
theorem fd0:Gq "Desk" "house" .Ar G=.ok hs G:=Hi hq rfl
theorem fd1:Gq "Desk" "state" .Ar G=.ok st G:=Hi hq rfl
theorem fd2:Gq "Desk" "at" .Ar G=.ok at_ G:=Hi hq rfl
theorem fd3:Gq "Desk" "state_at_begin" .Ar G=.ok sb G:=Hi hq rfl
theorem fd5:Gq "Desk" "floods" .Ar G=.ok fl G:=Hi hq rfl
theorem fd6:Gq "Desk" "pages" .Ar G=.ok pg G:=Hi hq rfl
theorem sd0:Ij "Desk" "house" .Ar x S G=.nx S (G.set i (VL x st at_ sb sa fl pg)):=by rw[Lx hq Oa,pu0];rfl
theorem sd1:Ij "Desk" "state" .Ar x S G=.nx S (G.set i (VL hs x at_ sb sa fl pg)):=by rw[Lx hq Oa,pu1];rfl
theorem sd2:Ij "Desk" "at" .Ar x S G=.nx S (G.set i (VL hs st x sb sa fl pg)):=by rw[Lx hq Oa,pu2];rfl
theorem sd3:Ij "Desk" "state_at_begin" .Ar x S G=.nx S (G.set i (VL hs st at_ x sa fl pg)):=by rw[Lx hq Oa,pu3];rfl
theorem sd4:Ij "Desk" "state_ahead" .Ar x S G=.nx S (G.set i (VL hs st at_ sb x fl pg)):=by rw[Lx hq Oa,pu4];rfl
theorem sd5:Ij "Desk" "floods" .Ar x S G=.nx S (G.set i (VL hs st at_ sb sa x pg)):=by rw[Lx hq Oa,pu5];rfl
theorem sd6:Ij "Desk" "pages" .Ar x S G=.nx S (G.set i (VL hs st at_ sb sa fl x)):=by rw[Lx hq Oa,pu6];rfl
theorem Jw:(G.set i o)[i]?=u7 o:=by rw[q0 (G9 hq)]
theorem Ih{m:Str}{F:List D->DH->R D}{t:DA}(a:(XY hs st at_ sb sa fl pg).lookup m=u8):Su "Desk" m F t S .Ar G=(t S G).bind λds b=>F (.ref i::ds) b:=bI hq a
end
def P6{n k:Int}(h:G[i]?=u7 (VL hs st .Bn sb sa fl pg))(c:S[0]?=u7 (zR i)):R8 "Desk" .FO (dC .B6) "at" K5 S G=.nx S (G.set i (VL hs st (.int (n+k)) sb sa fl pg)):=by
 have a:Hc "Desk" .Ar G=u7 (XY hs st .Bn sb sa fl pg):=by unfold Hc;simp[h,VL]
 unfold R8;have d:dV 0 S G=.ok .Ar G:=by unfold dV;rw[c]
 simp only[d,a];have b:(XY hs st .Bn sb sa fl pg).lookup ("at":Str)=zI n:=rfl;simp[b,a]
 rfl
def WW(G:DH)(i:Nat)(hs st at_:D):DH:=G.set i (VL hs st at_ st .WB .JG (.ref (lN G+1)))++[.lst [],.lst []]
def qo{d:D}(b:i<lN G)(h:H[i]?=u7 o)(a:G[i]? ≠u7 o):tidy G (.ok d H)=.ok d H:=bJ λz=>by rw[<-z,jK b]at a;exact a h
def qp(h:G[i]?=u7 .EO)(j:fl≠ .ref .AA):Jh [.ref i] G=.ok .WB (WW G i hs st at_):=by
 have a:=G9 h;have k:(G.set i (VL hs st at_ st .WB fl pg)++[DO.lst []])[i]?=u7 (VL hs st at_ st .WB fl pg):=by rw[zE (by rw[qV];exact a)];exact Jw h (o:=VL hs st at_ st .WB fl pg)
 have f:(G.set i (VL hs st at_ st .WB .JG pg)++[DO.lst [],DO.lst []])[i]?=u7 (VL hs st at_ st .WB .JG pg):=by rw[zE (by rw[qV];exact a)];exact Jw h
 have b:=sd5 k (S:=[zR i]) (x:=.ref .AA);have d:=sd6 f (S:=[zR i]) (x:=.ref (lN G+1));rw[List.set_append_left _ _ (by rw[qV];exact a),List.set_set]at b d;have g:∀o,tidy (G.set i o) (.ok .JG (G.set i o++[.lst []]))=.ok .JG (G.set i o++[.lst []]):=λo=>by have:=Ce (G:=G.set i o) (ds:=[]) (L:=[]) rfl;rwa[qV]at this
 have e:∀o p,tidy (G.set i o++[p]) (.ok (.ref (lN G+1)) (G.set i o++[p,.lst []]))=.ok (.ref (lN G+1)) (G.set i o++[p,.lst []]):=λo p=>by have:=Tq (G:=G.set i o) (A:=p) (ds:=[]) (L:=[]) rfl;rwa[qV]at this
 have c:tidy G (.ok .WB (WW G i hs st at_))=.ok .WB (WW G i hs st at_):=qo a (by
  unfold WW;rw[zE (by rw[qV];exact a)];exact Jw h) (by
  rw[h];intro z;simp[VL,XY,true_and]at z;exact j z.2.2.1)
 unfold WW at c⊢;simp[Jh,bT,Ag,fd1 h,sd3 h,sd4 (Jw h (o:=VL hs st at_ st sa fl pg)),g,e,b,d,c]
end
def P7{tc:DB}{n:Nat}{b c F:Nat->D}{T:Nat->Bool}{d e:D}(hd:Bf d G=u7 ((zV n).map b))(s:Bf e G=u7 ((zV n).map c))(p:∀k,k<n->tc [u7 (b k),u7 (c k)] G=.ok (T k) G)(h:∀k,k<n->te [u7 (b k),u7 (c k)] G=.ok (F k) G):
  By (Ex [d,e]) .Ld tc te (Al 2 [] S) n 0 G=.ok (((zV n).filter T).map F) G:=by
 have g:∀j,Ex [d,e] j G=u7 ((zV n).map λi=>D.tup [b i,c i])[j]? :=λj=>by
  rw[Uo hd s,Es,List.zip_map',qJ]
  rfl
 have q:Al 2 [] S=[u8,u8]:=rfl;rw[q];have f:∀m j,j+m=n->By (Ex [d,e]) .Ld tc te [u8,u8] m j G=.ok (((qF j m).filter T).map F) G:=by
  intro m
  induction m with
  |zero=>
   intro j r;unfold By;rw[g,zy .e]
   rfl
  |succ m l=>
   intro j r;have a:j<n:=.a
   unfold By;rw[g,zG,qq a];simp[jP,List.filter_cons,p j a]
   cases t:T j<;>simp[h j a,l (j+1) (by omega)]
 have:=f n 0 .a;rw[this,List.range_eq_range']
def Ow{n:Nat}:tab n F=((zV n).map F).map D.int:=by
 rw[qJ]
 rfl
def dY{n:Nat}:((zV n).map F).sum=Ad n F:=dE.symm
def Zz{n:Nat}(G):Dp [.tup .EH] G=.ok (.int (Ad n F)) G:=by rw[Ow,CP,dY]
def P8(F):Ad 5 F=YI F:=by show((((0+F 0)+F 1)+F 2)+F 3)+F 4=_;unfold YI;lia
def qr{n:Nat}(e:n<=12)(G):R4 [ZG n lv co] G=.ok (.int (Bu n lv co)) G:=by
 have a:Dp [.tup (tab n lv)] G=.ok (.int (Ad n lv)) G:=Zz G;have c1:Bj .AQ Ai bP [u8] .EJ G=.ok (tab n λk=>YI .C4) G:=J8 λk _=>by simp[bP,Zz,P8]
 have b:freeze G (.ok .JG (G++[.lst (tab n λk=>YI .C4)]))=.ok (.fl (tab n λk=>YI .C4)) G:=Bd I8;have c:Dp [.fl (tab n λk=>YI .C4)] G=.ok (.int (Ad n λk=>YI .C4)) G:=by rw[Ow,Uh,dY]
 unfold ZG;have d:lN (tab n λk=>YI .C4)<=1000000:=.e
 generalize(tab n λk=>YI .C4)=T at c1 b c d;simp[R4,iM,Ag,d,a,Al,c1,b,c,Ao,Bu]
def XW(h:Hs)(pg:Nat->List Int):Int:=Ad h.n λk=>if h.dn k=u8 then Az pg k else 0
theorem qs{T:Nat->Bool}:∀n,(((zV n).filter T).map F).sum=Ad n λk=>if T k then F k else 0
 |0=>rfl
 |n+1=>by
  rw[xk,List.filter_append,jv,List.sum_append,qs n]
  congr 1
  cases h:T n<;>simp[h]
section
variable{h:Hs}
def seaP(g:XB h)(hk:k<h.n):(h.YR (h.pl k).dn="sea")=(h.dn k=u8):=by
 rcases e:(h.pl k).dn with _|d
 .have a:h.dn k=u8:=e;simp[a,Hs.YR]
 have a:h.dn k=u7 d:=e;have:=g.sea d (g.dn k d hk e).2;simp[a,Hs.YR,this]
def P9:h.Cd=(zV h.n).map λk=>h.ZB (h.pl k):=by
 refine qB (by simp[Hs.H7]) λi a b=>?_
 have:=Hs.M5 (by rwa[Hs.H7]at a);rw[zJ a]at this;simpa using this
def Pc(g:XB h)(p:ZR h pg)(G):Vk [h.enc,S' h.n pg] G=.ok (.int (XW h pg)) G:=by
 have z:=g.len;have j:Bf .EC G=u7 ((zV h.n).map λk=>h.ZB .Ac):=by rw[K7,P9]
 have i:Bf (S' h.n pg) G=u7 ((zV h.n).map λk=>Jt .FQ):=by unfold S' Dt;rw[K7]
 have l:=P7 (te:=bN) (tc:=bO) (S:=[u7 h.enc,u7 (S' h.n pg)]) (T:=λk=>decide (h.dn k=u8)) (F:=λk=>.int (Az pg k)) j i (λk hk=>by
  simp[bO,seaP g hk]) (λk hk=>by
  let#[a,b,c,d,u,f,q,_]:=p.row k hk;unfold bN Az Jt;simp[q])
 have e:=Rf j i;have s:lN ((zV h.n).map λk=>h.ZB .Ac)=h.n:=.d
 have m:((zV h.n).filter λk=>decide (h.dn k=u8)).map (λk=>D.int (Az pg k))=(((zV h.n).filter λk=>decide (h.dn k=u8)).map .IH).map D.int:=by rw[qJ];rfl
 rw[m]at l;have o:lN (((zV h.n).filter λk=>decide (h.dn k=u8)).map .IH)<=1000000:=by rw[zq];have:=xz (λk=>decide (h.dn k=u8)) (zV h.n);rw[List.length_range]at this;lia
 have r:Dp [.fl ((((zV h.n).filter λk=>decide (h.dn k=u8)).map .IH).map D.int)] G=.ok (.int (XW h pg)) G:=by rw[Uh,qs];simp[XW]
 generalize((zV h.n).filter λk=>decide (h.dn k=u8)).map .IH=y at*;have t:∀G,Cg h.enc .DW G=.ok .EC G:=λG=>Ci
 simp[Vk,iL,Ag,t,e,l,o,Bd Jz,r,Ao]
def YY(h:Hs)(pg:Nat->List Int):Int:=Ad h.n λk=>(pg k).getD 1 0
def Pd(p:ZR h pg)(G):Bj .AQ Ai bR [u8] (Dt h.n pg) G=.ok (tab h.n λk=>(pg k).getD 1 0) G:=by
 exact J8 (F:=λk=>.int ((pg k).getD 1 0)) λk hk=>by let#[a,b,c,d,g,f,e,_]:=p.row k .CH;unfold bR Jt;simp[e]
def Hr(n:Nat)(WT:List (Nat->Int)):List D:=WT.map λfl=>.tup .Bw
def Pe{n:Nat}{a:List (Nat->Int)}:lN (Hr n a)=lN a:=by simp[Hr]
theorem Vi{d:Type}{E:d->D}{F:d->D}{l:List d}(c:G[i]?=u7 (.lst .IW))(h:∀a∈l,te (S.set 0 (u7 (E a))) G=.ok (F a) G):∀m j,j+m=lN l->Ek i .AQ Ai te S m j G=.ok ((l.drop j).map F) G
 |0,j,e=>by unfold Ek;rw[c,List.drop_eq_nil_of_le .a];exact if_pos .e
 |m+1,j,e=>by
  have b:j<lN l:=.a
  have f:(l.map E)[j]?=u7 (E l[j]):=by simp[b]
  unfold Ek;simp only[c,f,Ie,R.Jy,Pa,if_true,h l[j] (qX b),Vi c h m (j+1) (by omega)];rw[zH b,zk]
def Pf(g:XB h){lv':Nat->Int}{co':Nat->Nat->Int}{i:List (Nat->Int)}{f:List (Nat->List Int)}(Y:lN i<=1000)(hp:lN f<=1000)(v:∀pg∈f,ZR h pg){o:Nat}(s:G[o]?=u7 (.lst (Hr h.n i)))(q:G[j]?=u7 (.lst (f.map .C7))):
  Ym [h.enc,ZG h.n lv co,.ref o,.ref j,ZG h.n lv' co'] G=.ok (.tup [.int (Bu h.n lv co),.int (i.map .Bf).sum,.int (f.map .CA).sum,.int (f.map .CB).sum,.int (Bu h.n lv' co')]) G:=by
 have w:=g.len;have W:=qr w (lv:=lv) (co:=co) G;have A:=qr w (lv:=lv') (co:=co') G;have c1:Ek o .AQ Ai bQ [u8] (lN i) 0 G=.ok ((i.map .Bf).map D.int) G:=by
  rw[qJ];refine Vi s (λfl _=>by simp[bQ,Zz]) (lN i) 0 .a
 have E:Ek j .AQ Ai Zm [u8] (lN f) 0 G=.ok ((f.map .CA).map D.int) G:=by
  rw[qJ];refine Vi q (λpg r=>by
   have H:=Pd (v pg r) G;have m:freeze G (.ok .JG (G++[.lst (tab h.n λk=>(pg k).getD 1 0)]))=.ok (.fl (tab h.n λk=>(pg k).getD 1 0)) G:=Bd I8;have p:Dp [.fl (tab h.n λk=>(pg k).getD 1 0)] G=.ok (.int (YY h pg)) G:=by rw[Ow,Uh,dY];rfl
   have B:lN (tab h.n λk=>(pg k).getD 1 0)<=1000000:=.e
   unfold S';generalize(tab h.n λk=>(pg k).getD 1 0)=T,Dt h.n pg=Q at*;simp[Zm,Al,H,B,m,p]) (lN f) 0 .a
 have X:Ek j .AQ Ai bS [u8,u7 h.enc] (lN f) 0 G=.ok ((f.map .CB).map D.int) G:=by
  rw[qJ];refine Vi q (λpg r=>by simp[bS,Pc g (v pg r) G]) (lN f) 0 .a
 have m:∀l:List Int,freeze G (.ok .JG (G++[.lst .A0]))=.ok .Kv G:=λl=>Bd Jz
 have p:∀l:List Int,Dp [.fl .A0] G=.ok (.int l.sum) G:=λl=>Uh
 have P:lN ((i.map .Bf).map D.int)<=1000000:=.e
 have M:lN ((f.map .CA).map D.int)<=1000000:=.e
 have I:lN ((f.map .CB).map D.int)<=1000000:=.e
 have F:=m (i.map .Bf);have x:=m (f.map .CA);have N:=m (f.map .CB);have y:=p (i.map .Bf);have O:=p (f.map .CA);have L:=p (f.map .CB);generalize(i.map .Bf).map D.int=Z,(f.map .CA).map D.int=A3,(f.map .CB).map D.int=A4 at*;have K:lN (Hr h.n i)=lN i:=by simp[Hr]
 have J:Em (.ref o) G=.ok (.mt o) G:=by simp[Em,s]
 have z:Em (.ref j) G=.ok (.mt j) G:=by simp[Em,q]
 simp[Ym,iN,Ag,J,z,s,q,K,Al,c1,E,X,P,M,I,F,x,N,y,O,L,W,A,Ao]
end
structure Dk where
 st:St2
 at_:Int
 sb:St2
 sa:D
 WT:List (Nat->Int)
 XN:List (Nat->List Int)
def Dk.obj(h:Hs)(d:Dk)(a b:Nat):DO:=VL h.enc .Ah .Bg .Ai d.sa .Aq .A7
structure VS (G:DH) (h:Hs) (i a b:Nat) (d:Dk):Prop where
 o:G[i]?=u7 .Iv
 f:G[a]?=u7 (.lst .EP)
 p:G[b]?=u7 (.lst .Jx)
 ia:i≠a
 ib:i≠b
 ab:a≠b
def Dk.turn(h:Hs)(d:Dk)(fl:Nat->Int):Dk:=#[h.nxt d.st d.at_ fl,d.at_+1,d.sb,ZG h.n d.st.1 d.st.2,d.WT++[fl],d.XN++[(h.cs d.st.1 d.st.2 d.at_ fl).WA]]
def Ea(G:DH)(h:Hs)(i a b:Nat)(d:Dk):DH:=((G.set i .Iv).set a (.lst .EP)).set b (.lst .Jx)
def Dq(n:Nat)(pg:Nat->List Int):List (List Int):=(zV n).map pg
def Pi{n:Nat}(h:∀k,k<n->lN .FQ=6):S' n pg=.tup ((Dq n pg).map λr=>D.tup .Av):=by
 unfold S' Dt Dq;rw[qJ]
 congr 1
 refine qk λk hk=>?_
 have:=h k .CH;let#[a,b,c,d,e,f,g]:=row6 this;simp[g,Jt]
section
variable{G:DH}{h:Hs}{i a b:Nat}{d:Dk}
def Ys:lN (Ea G h i a b d)=lN G:=by simp[Ea]
def VS.turned(A:VS G h i a b d)(d'):VS (Ea G h i a b d') h i a b d':=by
 have j:=G9 A.o;have l:=G9 A.f;have k:=G9 A.p;let#[o,f,p,c,e,g]:=A;refine#[?_,?_,?_,c,e,g]
 .unfold Ea;rw[zP (Ne.symm e),zP (Ne.symm c),q0 j]
 .unfold Ea;rw[zP (Ne.symm g),q0 (by rw[qV];exact l)]
 unfold Ea;rw[q0 (by rw[qV,qV];exact k)]
def VS.other(A:VS G h i a b d){h':Hs}{e f:Nat}{d':Dk}(k:i≠j/\i≠e/\i≠f)(g:a≠j/\a≠e/\a≠f)(c:b≠j/\b≠e/\b≠f):VS (Ea G h' j e f d') h i a b d:=by
 let#[o,u,p,l,m,n]:=A;refine#[?_,?_,?_,l,m,n]
 .unfold Ea;rw[zP (Ne.symm k.2.2),zP (Ne.symm k.2.1),zP (Ne.symm k.1)];exact o
 .unfold Ea;rw[zP (Ne.symm g.2.2),zP (Ne.symm g.2.1),zP (Ne.symm g.1)];exact u
 unfold Ea;rw[zP (Ne.symm c.2.2),zP (Ne.symm c.2.1),zP (Ne.symm c.1)];exact p
def Pm(g:XB h)(A:VS G h i a b d)(w:∀k j,k<h.n->j<5->0<=d.st.2 k j)(M:∀k,k<h.n->0<=fl k)(l1:lN d.WT<=1000)(Y:lN d.XN<=1000)(O:∀k,k<h.n->WU ((h.cs d.st.1 d.st.2 d.at_ fl).WA k)):
  Q4 [.ref i,.fl [.tup .Ax]] G=.ok (.str (Aa (I9 (Dq h.n (h.cs d.st.1 d.st.2 d.at_ fl).WA)))) (Ea G h i a b .A8):=by
 have U:=g.len;have ct:=λG=>MC g (lv:=d.st.1) (at_:=d.at_) w M G
 have c:=Sq g (lv:=d.st.1) (fl:=fl) (co:=d.st.2) (at_:=d.at_);have q:=Pi c;unfold S' at q;rw[q]at ct;have P:=λG=>PV (rs:=Dq h.n (h.cs d.st.1 d.st.2 d.at_ fl).WA) (λr L=>by let#[k,hk,rfl]:=zw.mp L;have hk:=qx.mp hk;exact#[O k hk,(c k hk)▸zX _]) (by simp[Dq];lia) G
 have l:G[i]?=u7 (VL h.enc .Ah .Bg .Ai d.sa .Aq .A7):=A.o;have N:=Jw l (o:=VL h.enc .Ah .Bg .Ai .Ah .Aq .A7);have Q:=Jw l (o:=VL h.enc (ZG h.n (XI (h.cs d.st.1 d.st.2 d.at_ fl).WA) (h.cs d.st.1 d.st.2 d.at_ fl).YB) .Bg .Ai .Ah .Aq .A7)
 have s:=Jw l (o:=VL h.enc (ZG h.n (XI (h.cs d.st.1 d.st.2 d.at_ fl).WA) (h.cs d.st.1 d.st.2 d.at_ fl).YB) (.int (d.at_+1)) .Ai .Ah .Aq .A7);have E:∀o,(G.set i o)[a]?=u7 (.lst .EP):=λo=>by rw[zP A.ia];exact A.f
 have F:∀o p,((G.set i o).set a p)[b]?=u7 (.lst .Jx):=λo p=>by rw[zP A.ab,zP A.ib];exact A.p
 have u:∀o p,(G.set i o)[i]?=u7 o->((G.set i o).set a p)[i]?=u7 o:=λo p z=>by rw[zP (Ne.symm A.ia)];exact z
 have B:∀m,XG m (.tup ((Dq h.n (h.cs d.st.1 d.st.2 d.at_ fl).WA).map λr=>D.tup .Av))=u9:=λm=>by rw[<-q];exact MD
 have I:lN .EP<1000000:=by rw[Pe];lia
 have y:lN .Jx<1000000:=by rw[zq];lia
 have K:Hr h.n (d.WT++[fl])=Hr h.n d.WT++[.tup .Ax]:=by simp[Hr]
 have C:(d.XN++[(h.cs d.st.1 d.st.2 d.at_ fl).WA]).map .C7=d.XN.map .C7++[.tup ((Dq h.n (h.cs d.st.1 d.st.2 d.at_ fl).WA).map λr=>D.tup .Av)]:=by
  rw[jv,zk,qL]
  congr 2
 have t:∀x H,lN H=lN G->tidy G (.ok .Af H)=.ok .Af H:=λx H e=>Td e rfl
 have v:Ea G h i a b .A8=((G.set i (VL h.enc (ZG h.n (XI (h.cs d.st.1 d.st.2 d.at_ fl).WA) (h.cs d.st.1 d.st.2 d.at_ fl).YB) (.int (d.at_+1)) .Ai .Ah .Aq .A7)).set a (.lst (Hr h.n d.WT++[.tup .Ax]))).set b (.lst (d.XN.map .C7++[.tup ((Dq h.n (h.cs d.st.1 d.st.2 d.at_ fl).WA).map λr=>D.tup .Av)])):=by
  rw[<-K,<-C]
  rfl
 have J:∀m,ZA m .Ax=u9:=λm=>I8
 rw[v];generalize Aa (I9 (Dq h.n (h.cs d.st.1 d.st.2 d.at_ fl).WA))=T,(Dq h.n (h.cs d.st.1 d.st.2 d.at_ fl).WA).map (λr=>D.tup .Av)=PG,ZG h.n (XI (h.cs d.st.1 d.st.2 d.at_ fl).WA) (h.cs d.st.1 d.st.2 d.at_ fl).YB=X,ZG h.n d.st.1 d.st.2=S1,ZG h.n d.sb.1 d.sb.2=S0,Hr h.n d.WT=FL,d.XN.map .C7=Z,tab h.n fl=W at*;simp[Q4,ix,Ag,fd0 l,fd1 l,fd2 l,ct,sd4 l,sd1 N,λS=>P6 (S:=S) (k:=1) Q,fd5 s,E,F,I,y,fd6 ((λp=>u _ p s) _),P,t,J,Ao,B]
def Gi(h:Hs)(d:Dk):List Int:=[Bu h.n d.sb.1 d.sb.2,(d.WT.map .Bf).sum,(d.XN.map .CA).sum,(d.XN.map .CB).sum,Bu h.n d.st.1 d.st.2]
def Po(g:XB h)(A:VS G h i a b d)(k:lN d.WT<=1000)(m:lN d.XN<=1000)(l:∀pg∈d.XN,ZR h pg)(q:WU (Gi h d)):Ot [.ref i] G=.ok (.str (Aa (Bo 32 (Gi h d)))) G:=by
 have e:=Pf g (lv:=d.sb.1) (co:=d.sb.2) (lv':=d.st.1) (co':=d.st.2) k m l A.f A.p;have hs:=λG=>p6 Jo q (by show 5<=1000;decide) G
 have j:(D.tup [.int .FE,.int (d.WT.map .Bf).sum,.int (d.XN.map .CA).sum,.int (d.XN.map .CB).sum,.int .FF])=.tup ((Gi h d).map D.int):=rfl;rw[j]at e;have c:G[i]?=u7 (VL h.enc .Ah .Bg .Ai d.sa .Aq .A7):=A.o;simp[Ot,iQ,Ag,fd0 c,fd1 c,fd3 c,fd5 c,fd6 c,e,hs,Ao]
end
def FM:List (Str×List Str):=[("show",[]),("fill",["word","number"]),("turn",["cubes"]),("books",[]),("rights",[]),("look",["word","word","word","number","floods","floods"]),("plan",["floods","floods","cubes"])]
def qt:FM.lookup ("turn":Str)=u7 (["cubes"]:List Str):=.f
def qu:FM.lookup ("fill":Str)=u7 (["word","number"]:List Str):=.f
def rA:FM.lookup ("books":Str)=u7 ([]):=.f
def rB{a:List (Str×List Str)}{x:Str}{v:List Str}(h:a.lookup x=u7 v):Nz a .Af G=.ok (.tup .Il) G:=by unfold Nz;simp[h]
def Pp{a:List (Str×List Str)}{x:Str}{v:List Str}(h:a.lookup x=u7 v):Q6 a .Af G=.ok .Ap G:=by
 unfold Q6;simp only[h]
 rfl
def rC:¬(("cubes":Str)="number")/\¬(("cubes":Str)="floods")/\¬(("word":Str)="number")/\¬(("word":Str)="cubes")/\¬(("word":Str)="floods")/\¬(("number":Str)="cubes")/\¬(("number":Str)="floods"):=.c
theorem rD{f:Nat->DH->Option .CE}{g:DG}{c:DB}{xs:List D}(b:∀j G,f j G=u7 xs[j]?):∀m j G,j+m=lN xs->By f g c te S m j G=Bj g c te S .E7 G
 |0,j,G,h=>by
  unfold By;rw[b,zy .a,qY .a]
  rfl
 |m+1,j,G,h=>by
  have a:j<lN xs:=.a
  have d:By f g c te S m (j+1)=Bj g c te S (xs.drop (j+1)):=funext λG=>rD b m (j+1) G .a
  unfold By;rw[b,zJ a,zH a,Li,d]
section
variable{G:DH}
def Ps{v:List D}(h:∀G,Ng [.str X] G=.ok .HK G)(a:∀n,ZA n v=u9):Ks [.str X,.str "cubes"] G=.ok .HK G:=by let#[b,_]:=rC;have c:tidy G (.ok .HK G)=.ok .HK G:=Ao (by simpa using a _);simp[Ks,W6,Ag,b,h,c]
def Pt(h:∀G,Q9 [.str X] G=.ok .FZ G):Ks [.str X,.str "number"] G=.ok .FZ G:=by simp[Ks,W6,Ag,h,Ao]
def Pv:Ks [.str X,.str "word"] G=.ok (.str X) G:=by let#[_,_,b,c,a,_]:=rC;simp[Ks,W6,Ag,b,c,a,Ao]
inductive Parts:List Str->List Str->List D->Prop
 |nil:Parts [] [] []
 |cons {x k:Str} {v:D} {xs ks:List Str} {vs:List D}:(∀G,Ks [.str x,.str k] G=.ok v G)->(∀n,XG n v=u9)->Parts xs ks vs->Parts (x::xs) (k::ks) (v::vs)
theorem Parts.len(h:Parts xs ks vs):lN xs=lN vs/\lN ks=lN vs:=by
 induction h with
 |nil=>exact#[rfl,rfl]
 |cons _ _ _ a=>exact#[by simp[a.1],by simp[a.2]]
theorem Parts.ZA(h:Parts xs ks vs):∀n,ZA n vs=u9:=by
 induction h with
 |nil=>exact λn=>rfl
 |cons _ a _ b=>exact λn=>by simp[a,b]
theorem Pw(h:Parts xs ks vs)(G):Bj .Ld Ai Ud [u8,u8] (Es .B1 .BX) G=.ok vs G:=by
 induction h with
 |nil=>rfl
 |@cons x k v xs ks vs c b _ e=>
  have d:Ud [zS x,zS k] G=.ok v G:=by simp[Ud,c,Gk (b _)]
  have a:Es ((x::xs).map D.str) ((k::ks).map D.str)=.tup [.str x,.str k]::Es .B1 (ks.map D.str):=rfl;rw[a,Li];simp[d,e]
def dZ{T w:Str}(hs:∀G,freeze G (Eh (.str T) [.str " "] G)=.ok (.fl ((w::xs).map D.str)) G)(hw:FM.lookup w=u7 ks)(hp:Parts xs ks vs)(r:lN xs<=100)(G):Ri [.str T] G=.ok (.tup [.str w,.fl vs]) G:=by
 have o:=λG=>rB (G:=G) hw
 let#[q,t]:=hp.len;have h:By (Ex [.fl .B1,.tup .BX]) .Ld Ai Ud [u8,u8] .Ee 0 G=.ok vs G:=by
  have s:lN (Es .B1 .BX)=lN xs:=by simp[Es];lia
  rw[rD (λj G=>Uo Py K7 j) .Ee 0 G .a,xJ,Pw hp G]
 have b:cutD ((w::xs).map D.str) .Ga u8=xs.map D.str:=by have:=Nu (xs:=(w::xs).map D.str) (a:=1) .d;simpa using this
 have f:=hp.ZA;have n:∀m,ZA m .B1=u9:=λ_=>Hv
 have i:lN vs<=1000000:=.a
 have k:tidy G (.ok (.tup [.str w,.fl vs]) G)=.ok (.tup [.str w,.fl vs]) G:=Ao (by simp[f]);have g:lN ((w::xs).map D.str)=lN .BX+1:=.e
 have p:lN .B1=lN xs:=.d
 have l:(w::xs).map D.str=.str w::xs.map D.str:=rfl;rw[l]at hs b g;unfold Ri k7
 rw[show([("show",[]),("fill",["word","number"]),("turn",["cubes"]),("books",[]),("rights",[]),("look",["word","word","word","number","floods","floods"]),("plan",["floods","floods","cubes"])]:List (Str×List Str))=FM from rfl,Ag]
 have c:=λG=>Rf (Py (xs:=xs.map D.str)) (K7 (xs:=ks.map D.str) (G:=G))
 rw[p]at c;generalize xs.map D.str=m,ks.map D.str=KS at*;have e:(lN m+1=1+lN KS):=by simp at g;lia
 simp[hs,o,λG=>Pp (G:=G) hw,b,n,Bd,c,Al,h,i,Bd (f _),k,e]
end
inductive VT (n:Nat):List Str->List D->Prop
 |nil:VT n [] []
 |cubes {ks:List Str} {l vs:List D}:lN l=n->(∀m,ZA m l=u9)->VT n ks vs->VT n ("cubes"::ks) (.tup l::vs)
 |other {k:Str} {ks:List Str} {v:D} {vs:List D}:¬k=("cubes":Str)->¬k=("floods":Str)->VT n ks vs->VT n (k::ks) (v::vs)
theorem VT.len{n:Nat}(h:VT n ks vs):lN ks=lN vs:=by
 induction h with
 |nil=>rfl
 |cubes _ _ _ c|other _ _ _ c=>simp[c]
def QB{l:List D}(f:lN l=h.n)(G):Ss [h.enc,.fl [.tup l]] G=.ok .WB G:=by
 have e:Vs [u7 h.enc,zF [.tup l],zT l] G=.nx [u7 h.enc,zF [.tup l],zT l] G:=by simp[Vs,Ci,f,Hs.H7]
 have c:Ar .CX Vs [.tup l] [u7 h.enc,zF [.tup l],u8] G=.nx [u7 h.enc,zF [.tup l],zT l] G:=by simp[Cj,e,Cz]
 simp[Ss,kY,Ag,c,Ao]
theorem QC(c:VT h.n ks vs):∀x3 x4,∃y3 y4,Ar .Lf O5 (Es .BX vs) [u7 h.enc,s1,s2,x3,x4] G=.nx [u7 h.enc,s1,s2,y3,y4] G:=by
 induction c with
 |nil=>exact λx3 x4=>#[x3,x4,by rw[show Es (([]).map D.str) []=[]from rfl,Cz]]
 |@cubes ks l vs hl hbl _ ih=>
  intro x3 x4;let#[y3,y4,ih]:=ih (zS "cubes") (zT l);refine#[y3,y4,?_];have fz:freeze G (.ok .JG (G++[.lst [.tup l]]))=.ok (.fl [.tup l]) G:=Bd (by simp[hbl]);have hb:O5 [u7 h.enc,s1,s2,zS "cubes",zT l] G=.nx [u7 h.enc,s1,s2,zS "cubes",zT l] G:=by simp[O5,fz,QB hl G]
  have ez:Es (("cubes"::ks:List Str).map D.str) (.tup l::vs)=.tup [.str "cubes",.tup l]::Es .BX vs:=rfl;rw[ez,Cj];simp[hb,ih]
 |@other k ks v vs n1 n2 _ ih=>
  intro x3 x4;let#[y3,y4,ih]:=ih (zS k) .ED;refine#[y3,y4,?_];have hb:O5 [u7 h.enc,s1,s2,zS k,u7 v] G=.nx [u7 h.enc,s1,s2,zS k,u7 v] G:=by simp[O5,n1,n2]
  have ez:Es ((k::ks).map D.str) (v::vs)=.tup [.str k,v]::Es .BX vs:=rfl;rw[ez,Cj];simp[hb,ih]
def d0{w:Str}(hw:FM.lookup w=u7 ks)(hp:¬w="plan")(c:VT h.n ks vs)(G):Tf [h.enc,.str w,.fl vs] G=.ok .WB G:=by
 have m:=λG=>rB (G:=G) hw
 let#[g,f,l]:=QC c u8 u8;have p:=c.len;have k:lN (Es .BX vs)=lN ks:=by simp[Es];lia
 have o:Dr (Ex [.tup .BX,.fl vs]) .Lf O5 (lN ks) 0 [u7 h.enc,zS w,zF vs,u8,u8] G=.nx [u7 h.enc,zS w,zF vs,g,f] G:=by rw[Tw (λj G=>Uo K7 Py j) k.symm];exact l
 have e:=λG=>Rf (K7 (xs:=ks.map D.str)) (Py (xs:=vs) (G:=G))
 unfold Tf kZ
 rw[show([("show",[]),("fill",["word","number"]),("turn",["cubes"]),("books",[]),("rights",[]),("look",["word","word","word","number","floods","floods"]),("plan",["floods","floods","cubes"])]:List (Str×List Str))=FM from rfl]
 simp[Ag,m,e,o,hp,Ao]
section
variable{G:DH}{h:Hs}{i a b:Nat}{d:Dk}
def QD:∃l,h.enc=.tup l:=#[_,rfl]
def d5(A:VS G h i a b d){T w:Str}(c:Txt.startswith T "house\n"=uA)(s:∀G,Ri [.str T] G=.ok (.tup [.str w,.fl vs]) G)(j:∀n,ZA n vs=u9)(f:∀G,Tf [h.enc,.str w,.fl vs] G=.ok .WB G)(g:Kl [.ref i,.str w,.fl vs] G=.ok r H):
  Eb [.ref i,.str T] G=tidy G (.ok r H):=by
 have e:G[i]?=u7 (VL h.enc .Ah .Bg .Ai d.sa .Aq .A7):=A.o;have p:freeze G (.ok (.tup [.str w,.fl vs]) G)=.ok (.tup [.str w,.fl vs]) G:=Gk (by simp[j]);let#[l,k]:=QD;have q:=λS=>Ih e (S:=S) (m:="answer") (F:=Kl) (t:=Bg .Et (Bg .EG Bp)) (by rfl)
 rw[k]at e f;simp[Eb,bp,Ag,c,s,p,fd0 e,f,q,g]
def d6:¬(("turn":Str)="show")/\¬(("turn":Str)="fill")/\¬(("fill":Str)="show")/\¬(("books":Str)="show")/\¬(("books":Str)="fill")/\¬(("books":Str)="turn"):=.c
def QF(A:VS G h i a b d){r:Str}(j:Q4 [.ref i,.fl vs] G=.ok .Cm H)(g:lN H=lN G):Kl [.ref i,.str "turn",.fl vs] G=.ok .Cm H:=by
 have c:=λS=>Ih A.o (S:=S) (m:="say_turn") (F:=Q4) (t:=Bg .Et Bp) (by rfl)
 let#[k,f,_]:=d6;have e:tidy G (.ok .Cm H)=.ok .Cm H:=Td g rfl;simp[Kl,W8,Ag,k,f,c,j,e]
def QH(A:VS G h i a b d){r:Str}(g:Ot [.ref i] G=.ok .Cm G):Kl [.ref i,.str "books",.fl []] G=.ok .Cm G:=by
 have e:=λS=>Ih A.o (S:=S) (m:="say_books") (F:=Ot) (t:=Bp) (by rfl)
 let#[_,_,_,j,f,c]:=d6;simp[Kl,W8,Ag,j,f,c,e,g,Ao]
def QJ(A:VS G h i a b d){r:Str}(e:Q0 [.ref i,.fl vs] G=.ok .Cm H)(g:tidy G (.ok .Cm H)=.ok .Cm H):Kl [.ref i,.str "fill",.fl vs] G=.ok .Cm H:=by
 have f:=λS=>Ih A.o (S:=S) (m:="say_fill") (F:=Q0) (t:=Bg .Et Bp) (by rfl)
 let#[_,_,c,_]:=d6;simp[Kl,W8,Ag,c,f,e,g]
end
def rE{xs ys:List D}(h:lN xs+lN ys<=1000000)(G):Ly .Aj .GA G=.ok (.tup (xs++ys)) G:=by
 rcases xs with _|⟨x,xs⟩
 .rfl
 show(if(x::xs)≠[]/\lN (x::xs)+lN ys<=1000000 then R.ok (D.tup ((x::xs)++ys)) G else .bad)=_;rw[if_pos #[.d,h]]
def QK{n:Nat}(hk:k<n):(tab n lv).take k++[.int v]++(tab n lv).drop (k+1)=tab n (WD lv k v):=by
 refine qB .e λj g f=>?_
 have e:(tab n (WD lv k v))[j]=.int (WD lv k v j):=by simp[tab]
 rw[e];unfold WD;rcases jB j k with z|z|z
 .rw[jT .e,jT .e,if_neg .a];simp[tab]
 .subst z;rw[jT .e,List.getElem_append_right .e,if_pos rfl];simp
 rw[List.getElem_append_right .e,if_neg .a];have c:k+1+(j-(min k n+1))=j:=.a
 simp[tab,c]
def Dk.begun(s:St2)(at_:Int):Dk:=#[s,at_,s,.WB,[],[]]
section
variable{G:DH}{h:Hs}{i a b:Nat}{d:Dk}
def rF{x y z:D}:WW (G.set i o) i x y z=WW G i x y z:=by simp[WW]
def rG(c:i<lN G)(s)(t):VS (WW G i h.enc (ZG h.n s.1 s.2) (.int t)) h i .AA (lN G+1) (Dk.begun s t):=by
 refine#[?_,?_,?_,.a,.a,.a]
 .unfold WW;rw[zE (by rw[qV];exact c),q0 c]
  rfl
 .unfold WW;rw[zM (by rw[qV];exact zX _),qV,Nat.sub_self]
  rfl
 unfold WW;rw[zM (by rw[qV];lia),qV,show lN G+1-lN G=1 by lia]
 rfl
def Ut{x y z:D}(c:G[i]?=u7 o)(e:o≠VL x y z y .WB .JG (.ref (lN G+1))):tidy G (.ok r (WW G i x y z))=.ok r (WW G i x y z):=qo (G9 c) (by
 unfold WW;rw[zE (by rw[qV];exact G9 c),q0 (G9 c)]) (by
 rw[c];intro q;exact e (w4 q))
def Z3{hs st at_ c f fl pg x y z u v w:D}(g:fl≠w):VL hs st at_ c f fl pg≠VL x y z u v w pg/\∀q,VL hs st at_ c f fl pg≠VL x y z u v w q:=by
 have:∀q,VL hs st at_ c f fl pg≠VL x y z u v w q:=λq e=>by simp[VL,XY,true_and]at e;exact g e.2.2.2.2.2.1
 exact#[this _,this]
def QL(g:XB h)(A:VS G h i a b d)(hk:k<h.n)(P:0<=v/\v<=mo h k)(E:∀j,j<h.n->0<=d.st.1 j/\d.st.1 j<=mo h j):
  Q0 [.ref i,.fl [.str (h.pl k).nm,.int v]] G=.ok (.str "ok") (WW G i h.enc .Ju .Bg):=by
 have I:=g.len;have c:G[i]?=u7 (VL h.enc .Ah .Bg .Ai d.sa .Aq .A7):=A.o;have Z:=G9 A.f;have cs:=λG=>ql I (L:=WD d.st.1 k v) (λj U=>by
  unfold WD;split
  .rename_i z;subst z;exact P
  exact E j U) G
 have c1:cutD .HL u8 (u7 k)=(tab h.n d.st.1).take k:=oC .e;have H:cutD .HL (u7 (k+1)) u8=(tab h.n d.st.1).drop (k+1):=by rw[show k+1=((k+1:Nat):Int) by lia,Nu .e]
 have Q:=λG=>rE (xs:=(tab h.n d.st.1).take k) (ys:=[.int v]) .e G
 have C:=λG=>rE (xs:=(tab h.n d.st.1).take k++[.int v]) (ys:=(tab h.n d.st.1).drop (k+1)) .e G
 have J:∀G,Ly .B6 .DW G=.ok (.int (k+1)) G:=λG=>rfl
 rw[QK hk]at C;have e:∀m F,ZA m (tab h.n F)=u9:=λm F=>I8
 have B:∀m,ZA m ((tab h.n d.st.1).take k)=u9:=λm=>Qs.mpr λx p=>Qs.mp (e m _) x (List.mem_of_mem_take p)
 have N:∀m,ZA m ((tab h.n d.st.1).drop (k+1))=u9:=λm=>Qs.mpr λx p=>Qs.mp (e m _) x (List.mem_of_mem_drop p)
 have q:=Jw c (o:=VL h.enc .Ju .Bg .Ai d.sa .Aq .A7);have cb:=qp q (by rw[qV];intro z;cases z;lia);rw[rF]at cb;have s:=Ut (r:=.str "ok") (x:=h.enc) (y:=ZG h.n .CI d.st.2) (z:=.int d.at_) c ((Z3 (by intro z;cases z;lia)).2 _);have u:=λS=>Ih q (S:=S) (m:="begin_books") (F:=Jh) (t:=Bp) (by rfl)
 have w:=λS=>sd1 c (S:=S) (x:=ZG h.n .CI d.st.2)
 unfold ZG at c q cb s u w⊢;simp[Q0,iU,Ag,fd0 c,fd1 c,λG=>cX g hk G,c1,H,Q,C,J,B,N,Gk,cs,w,u,cb,s]
end
def GH.ho(g:GH h):HO h:=by refine#[#[by have:=g.g.yr;lia,Int.lt_of_le_of_lt g.yr .c],g.g.len,λp hp=>?_];let#[k,hk,rfl]:=qO hp;have:=pU g.yr g.wd hk (g.pw k hk).1 (g.pw k hk).2;rw[Uj hk]at this;exact this
def GH.chk(g:GH h)(G):Qu [h.enc] G=.ok h.enc G:=NY g.g g.n1 g.yr (λk hk G=>NX g.g g.pw g.wd hk G) G
def GH.read(g:GH h)(G):Rr [.str .KO] G=.ok h.enc G:=OO g.ho g.chk G
abbrev zL:Nat->Int:=λ_=>0
abbrev zC:Nat->Nat->Int:=λ_ _=>0
def QM{n:Nat}:Fq n zC=zK n Z5:=by
 refine qB .d λk d c=>?_
 simp only[Fq,xj,List.getElem_replicate]
 rfl
def QN{n:Nat}:tab n zL=zK n (.int 0):=by
 refine qB .d λk d c=>?_
 simp[tab]
def Io(G:DH):DH:=G++[VL .WB .WB .Be .WB .WB (.ref (lN G+1)) (.ref (lN G+2)),.lst [],.lst []]
def X'(ds:List D):List (Str×D):=(["house","state","at","state_at_begin","state_ahead","floods","pages"]:List Str).zip ds
section
variable{G:DH}
def app0:(G++o::L)[lN G]?=u7 o:=by rw[zM .AK,Nat.sub_self];rfl
def rH{d:D}(j:(["house","state","at","state_at_begin","state_ahead","floods","pages"]:List Str)[lN ds]?=u7 f):Ij "Desk" f .JG d S (G++ .ins "Desk" (X' ds)::L)=.nx S (G++ .ins "Desk" (X' (ds++[d]))::L):=by
 rw[nB (by unfold X';rw[List.length_zip];exact Nat.lt_of_le_of_lt (Nat.min_le_left ..) .c)]
 rcases ds with _|⟨a,_|⟨b,_|⟨c,_|⟨e,_|⟨i,_|⟨k,_|⟨m,ds⟩⟩⟩⟩⟩⟩⟩<;>cases j<;>rfl
def aV{es:List D}{v:D}(h:X' ds≠X' es):tidy (G++[.ins "Desk" (X' ds)]) (.ok v (G++ .ins "Desk" (X' es)::L))=.ok v (G++ .ins "Desk" (X' es)::L):=bJ λz=>h (by have:=congrArg (λl=>l[lN G]?) z;simpa using this.symm)
def QP:Jh [.ref .AA] (G++[.ins "Desk" (X' [.WB,.WB,.int 0])])=.ok .WB (Io G):=by
 have m:=λo=>Ce (G:=G++[o]) (ds:=[]) (L:=[]) rfl
 have n:=λo p=>Ce (G:=G++[o,p]) (ds:=[]) (L:=[]) rfl
 simp at m n;simp[Jh,bT,Ag,λH:DH=>Hi (f:="state") (G:=G++ .ins "Desk" (X' [.WB,.WB,.int 0])::H) app0 rfl,rH,m,n];exact aV (by simp[X'])
def QQ:Rn [.ref .AA] (G++[.ins "Desk" []])=.ok .WB (Io G):=by
 unfold Rn kb;rw[Ag]
 simp[show G++[DO.ins "Desk" []]=G++DO.ins "Desk" (X' [])::[]from rfl,rH,λ(S:ZK)=>bI (G:=G++[.ins "Desk" (X' [.WB,.WB,.int 0])]) (m:="begin_books") (F:=Jh) (ta:=Bp) app0 rfl,QP]
 exact aV (es:=[.WB,.WB,.int 0,.WB,.WB,.ref _,.ref _]) (by simp[X'])
def QR:Tu Rn "Desk" [] G=.ok .JG (Io G):=by
 unfold Tu;rw[QQ]
 rfl
end
section
variable{G:DH}{h:Hs}{i a b:Nat}{x0 x1 x2 x3 x4:D}
def QU(g:GH h)(o:G[i]?=u7 .J5)(C:a<lN G):
  R5 [.ref i,.str .KO] G=.ok (.str "ok") (WW G i h.enc .Ca .Be):=by
 have u:=g.g.len;have s:=g.n1;have cs:=λG=>ql u (λj q=>#[zU _,Zf g.g q]) G
 rw[<-QM]at cs;have k:∀G,Be [.tup h.Cd] G=.ok .Fq G:=λG=>by have:lN h.Cd=h.n:=Hs.H7;simp[this]
 have f:∀G,Ub (.tup [.int 0]) .Fq G=.ok (.tup (tab h.n zL)) G:=λG=>by
  show(if 1<=(h.n:Int)/\(h.n:Int)<=1000 then R.ok (D.tup (zK (h.n:Int).toNat .Be)) G else .bad)=_;rw[if_pos #[.a,.a],QN]
  rfl
 have v:=Jw o (o:=VL h.enc .Ca x2 x3 x4 .Aq .A7);have c:=Jw o (o:=VL h.enc .Ca .Be x3 x4 .Aq .A7);have cb:=qp c (by rw[qV];intro z;cases z;lia);rw[rF]at cb;have e:=Ut (r:=.str "ok") (x:=h.enc) (y:=ZG h.n zL zC) (z:=.int 0) o ((Z3 (by intro z;cases z;lia)).2 _);have p:=λS=>sd1 (Jw o (o:=VL h.enc x1 x2 x3 x4 .Aq .A7)) (S:=S) (x:=ZG h.n zL zC)
 have w:∀G,Cg h.enc .DW G=.ok .EC G:=λG=>Ci
 unfold ZG at*;simp[R5,kX,Ag,λG=>g.read G,λS=>sd0 o (S:=S) (x:=h.enc),p,λS=>sd2 v (x:=.int 0),w,k,f,cs,λS=>Ih c (m:="begin_books") (F:=Jh) (t:=Bp) (by rfl),cb,e]
end
def hsW:List Nat:=[104,111,117,115,101,10]
def hs_W:"house\n"=Aa hsW:=.f
def starts_app{p q:List Nat}:Txt.startswith (Aa (p++q)) (Aa p)=u9:=by unfold Txt.startswith;simp[StrLaws.subAt_eq,Di]
def rK{p q:List Nat}(h:c≠d):Txt.startswith (Aa (c::q)) (Aa (d::p))=uA:=by simp[Txt.startswith,StrLaws.subAt_eq,h]
def QV{p q:List Nat}(c:(p++q).length<=1000000)(G):M7 (.str (Aa (p++q))) .Fw u8 G=.ok (.str (Aa q)) G:=by show(if(Aa (p++q)).length<=1000000 then R.ok (D.str (Jr (Aa (p++q)) .Fw u8)) G else .bad)=_;rw[if_pos (Di▸c)];show R.ok (D.str (Aa (cutD (Aa (p++q)).cps.toList .Fw u8))) G=_;rw[Jc];have:=Nu (xs:=p++q) (a:=p.length) .d;rw[this,List.drop_left]
def QX:Af [32] [l]=l:=by simp[Af]
theorem rL:∀ls,∃r,Af [32] ((c::l)::ls)=c::r
 |[]=>#[l,by simp[Af]]
 |m::ls=>#[_,by simp[Af];rfl]
def Ge(w:List Nat)(xs:List .Bo):List Nat:=Af [32] (w::xs)
section
variable{G:DH}{h:Hs}{i a b:Nat}{d:Dk}{x0 x1 x2 x3 x4:D}
def QY(g:GH h)(o:G[i]?=u7 .J5)(j:a<lN G):
  Eb [.ref i,.str (Aa (hsW++Hq h))] G=.ok (.str "ok") (WW G i h.enc .Ca .Be):=by
 have s:=dS g.ho;have k:=λG=>QV (p:=hsW) (q:=Hq h) (by rw[qw];show 6+_<=_;lia) G
 have c:=QU g o j;have e:=Ut (r:=.str "ok") (x:=h.enc) (y:=ZG h.n zL zC) (z:=.int 0) o ((Z3 (by intro z;cases z;lia)).2 _);have f:∀G,Be [.str (Aa hsW)] G=.ok (.int (lN hsW)) G:=λG=>rfl
 unfold Eb bp;rw[Ag,hs_W];simp[starts_app,λS t=>Ih o (S:=S) (m:="say_house") (F:=R5) (t:=t) (by rfl),f,k,Gk,c,e]
def d7{w:List Nat}{xs:List .Bo}(hw:32∉w)(e:∀x∈xs,32∉x)(f:lN (Ge w xs)<=1000000)(G):freeze G (Eh (.str (Aa (Ge w xs))) [.str " "] G)=.ok (.fl ((Aa w::xs.map Aa).map D.str)) G:=by
 have:=R3 (λx c=>by
  rcases zj.mp c with rfl|c
  .exact hw
  exact e x c) .c f G
 exact this
def QZ(g:GH h)(A:VS G h i a b d)(hk:k<h.n)(u:0<=v/\v<=mo h k)(l:v<10^40)(B:∀j,j<h.n->0<=d.st.1 j/\d.st.1 j<=mo h j):
  Eb [.ref i,.str (Aa (Ge (wl "fill") [wl (h.pl k).nm,num v]))] G=.ok (.str "ok") (WW G i h.enc .Ju .Bg):=by
 have p:=LW.of (g.wd k hk);have m:Aa (wl (h.pl k).nm)=(h.pl k).nm:=Pb.symm;have F:=p.le;have H:=Ey l;have I:lN (wl "fill")=4:=.f
 have C:Aa (wl "fill")="fill":=.f
 have c:lN (Ge (wl "fill") [wl (h.pl k).nm,num v])<=1000000:=by simp[Ge,Af,jx];lia
 have hs:=λG=>d7 .f (λx s=>by
  simp at s;rcases s with rfl|rfl
  .exact p.no .a
  exact Et .a) c G
 have q:=Ut (r:=.str "ok") (x:=h.enc) (y:=ZG h.n .CI d.st.2) (z:=.int d.at_) A.o ((Z3 (by intro z;cases z;have:=G9 A.f;lia)).2 _);have:=d5 A (by
  let#[t,E]:=rL [wl (h.pl k).nm,num v];have e:Ge (wl "fill") [wl (h.pl k).nm,num v]=102::t:=by rw[<-E];rfl
  exact rK .c) (λG=>dZ hs qu (.cons (v:=.str (h.pl k).nm) (λG=>m▸Pv) (λ_=>rfl) (.cons (v:=.int v) (λG=>Pt λG=>p8 u.1 l G) (λ_=>rfl) .nil)) .d G) (λn=>.d) (λG=>d0 (h:=h) (w:="fill") qu .c (.other (v:=.str (h.pl k).nm) .c .c (.other (v:=.int v) .c .c .nil)) G) (QJ A (QL g.g A hk u B) q)
 rw[this,q]
def Q1(g:GH h)(A:VS G h i a b d)(C:∀k j,k<h.n->j<5->0<=d.st.2 k j)(s:∀k,k<h.n->0<=fl k/\fl k<10^40)(y:lN d.WT<=1000)(u:lN d.XN<=1000)(E:∀k,k<h.n->WU ((h.cs d.st.1 d.st.2 d.at_ fl).WA k)):
  Eb [.ref i,.str (Aa (Ge (wl "turn") [Bo 44 ((zV h.n).map fl)]))] G=.ok (.str (Aa (I9 (Dq h.n (h.cs d.st.1 d.st.2 d.at_ fl).WA)))) (Ea G h i a b .A8):=by
 have I:=g.g.len;have F:=g.n1;have J:lN (wl "turn")=4:=.f
 have z:Aa (wl "turn")="turn":=.f
 have f:WU ((zV h.n).map fl):=λx p=>by let#[k,hk,rfl]:=zw.mp p;exact s k .CH
 have q:lN ((zV h.n).map fl)<=1000:=.e
 have H:=Yh (c:=44) f q;have o:lN (Ge (wl "turn") [Bo 44 ((zV h.n).map fl)])<=1000000:=by simp[Ge,Af,jx];lia
 have hs:=λG=>d7 .f (λx p=>by simp at p;rw[p];exact pZ .a .a) o G
 have B:∀G,Ng [.str (Aa (Bo 44 ((zV h.n).map fl)))] G=.ok (.tup .Ax) G:=λG=>by
  rw[Ow];rcases e:(zV h.n).map fl with _|⟨x,l⟩
  .have:=congrArg qG e;simp at this;lia
  rw[e]at f q;exact PY f q G
 have r:=Pm g.g A C (λk hk=>(s k hk).1) y u E;have:=d5 A (by
  let#[t,r]:=rL [Bo 44 ((zV h.n).map fl)];have e:Ge (wl "turn") [Bo 44 ((zV h.n).map fl)]=116::t:=by rw[<-r];rfl
  exact rK .c) (λG=>dZ hs qt (.cons (v:=.tup .Ax) (λG=>Ps B (λn=>I8)) (λn=>.d) .nil) .d G) (λn=>.d) (λG=>d0 (h:=h) (w:="turn") qt .c (.cubes (l:=tab h.n fl) .d (λm=>I8) .nil) G) (QF A r Ys)
 rw[this];exact Td Ys rfl
def Q2(g:GH h)(A:VS G h i a b d)(f:lN d.WT<=1000)(m:lN d.XN<=1000)(k:∀pg∈d.XN,ZR h pg)(o:WU (Gi h d)):Eb [.ref i,.str "books"] G=.ok (.str (Aa (Bo 32 (Gi h d)))) G:=by
 have l:32∉wl "books":=.f
 have j:Aa (wl "books")="books":=.f
 have c:Ge (wl "books") []=wl "books":=QX;have hs:=λG=>d7 l (xs:=[]) (λx e=>by cases e) (by rw[c];decide +kernel) G
 rw[c,j]at hs;have:=d5 A .f (λG=>dZ hs rA .nil .d G) (λn=>rfl) (λG=>d0 (h:=h) (w:="books") rA .c .nil G) (QH A (Po g.g A f m k o));rw[this];exact Ao rfl
end
def pre(k:Nat)(lv:Nat->Int):Nat->Int:=λj=>if j<k then lv j else 0
def Qb:pre 0 lv=zL:=funext λj=>by simp[pre]
def rM:WD (pre k lv) k (lv k)=pre (k+1) lv:=funext λj=>by
 unfold WD pre;by_cases e:j=k
 .subst e;simp
 rw[if_neg e];by_cases z:j<k
 .rw[if_pos z,if_pos .a]
 rw[if_neg z,if_neg .a]
def Qr(h:lv k=0):pre k lv=pre (k+1) lv:=by
 rw[<-rM,h];funext j;unfold WD pre;by_cases e:j=k
 .subst e;simp
 rw[if_neg e]
theorem d8(a:(h.pl k).kd.ZH=uA):mo h k=0:=by
 unfold mo;cases e:(h.pl k).kd with
 |VA b r q=>rw[e]at a;cases a
 |_=>rfl
theorem RA(g:GH h)(hk:k<h.n):mo h k<10^40:=by
 unfold mo;cases e:(h.pl k).kd with
 |VA b r q=>exact((pU g.yr g.wd hk (g.pw k hk).1 (g.pw k hk).2).VA b r q e).1.2
 |_=>exact(by decide:(0:Int)<10^40)
def Lv(h:Hs)(lv:Nat->Int):Prop:=∀j,j<h.n->0<=lv j/\lv j<=mo h j
def Lv.pre(g:GH h)(o:Lv h lv)(k):Lv h (pre k lv):=λj a=>by
 unfold _W.pre;split
 .exact o j a
 exact#[zU _,Zf g.g a]
def Old(m:Nat)(G G':DH):Prop:=lN G<=lN G'/\∀j,j<m->G'[j]?=G[j]?
def Old.refl:Old m G G:=#[zX _,λ_ _=>rfl]
def Old.trans{e c:DH}(a:Old m G e)(b:Old m e c):Old m G c:=#[zx a.1 b.1,λj d=>(b.2 j d).trans (a.2 j d)]
def rN{x y z:D}(b:m<=i)(c:i<lN G):Old m G (WW G i x y z):=by refine#[by unfold WW;simp,λj a=>?_];unfold WW;rw[zE (by rw[qV];lia),zP .a]
def RB:Old .AA G (Io G):=by refine#[by unfold Io;simp,λj a=>?_];unfold Io;rw[zE a]
def VS.old{c:DH}{a:Nat}{d:Dk}(A:VS G h i a b d)(o:Old m G c)(j:i<m)(g:a<m)(e:b<m):VS c h i a b d:=
 #[(o.2 i j)▸A.o,(o.2 a g)▸A.f,(o.2 b e)▸A.p,A.ia,A.ib,A.ab]
section
variable{h:Hs}{i:Nat}{lv:Nat->Int}
abbrev B'(h:Hs)(lv:Nat->Int):D:=.fl .Aw
theorem RC(g:GH h)(ok:Lv h lv)(hk:k<h.n){a:Nat}(A:VS G h i a b (Dk.begun (pre k lv,zC) 0))(U:i<a)(L:i<b)(x4:Option D):∃(l:DH)(J E:Nat)(W:Option D),
  R6 [u7 h.enc,u7 .Br,zR i,zI (k:Nat),x4] G=.nx [u7 h.enc,u7 .Br,zR i,zI (k:Nat),W] l/\VS l h i J E (Dk.begun (pre (k+1) lv,zC) 0)/\i<J/\i<E/\Old i G l:=by
 have B:=Ef rfl .Eb;have l1:=(LW.of (g.wd k hk)).le;let#[I,C]:=ok k hk;have u:=Int.lt_of_le_of_lt C (RA g hk);have l2:=Ey u;have c:(h.pl k).nm=Aa (wl (h.pl k).nm):=Pb;have w:("fill ":Str)=Aa (wl "fill"++[32]):=.f
 have v:lN (wl "fill")=4:=.f
 have Y:∀x4,(VJ (ZC Dw (ZC Dw (ZC Dw (dC (.str "fill ")) (ZC Cg (ZC Cg (ZC Cg .FO (dC .DW)) .EG) (dC .DW))) (dC (.str " "))) (XA Fb (Bg (ZC Cg .Hg .EG) Bp))) .Bd) [u7 h.enc,u7 .Br,zR i,zI (k:Nat),x4] G=.nx [u7 h.enc,u7 .Br,zR i,zI (k:Nat),zS (Aa (Ge (wl "fill") [wl (h.pl k).nm,num (lv k)]))] G:=λx4=>by
  generalize wl (h.pl k).nm=N at*
  simp(disch:=first|(simp;done)|(simp;lia)) [-Wo,Ci,B,H8 hk,c,w,Jo,N6,Ht I u,Ge,Af]
 unfold R6 sL;rw[fZ,Y,f3];cases p:(h.pl k).kd.ZH with
 |false=>
  have z:lv k=0:=by rw[d8 p]at C;lia
  exact#[G,a,b,_,by simp[Ci,B,Jv,p];rfl,Qr z▸A,U,L,Old.refl]
 |true=>
  have P:=QZ g A hk #[I,C] u (ok.pre g k)
  rw[show WD (Dk.begun (pre k lv,zC) 0).st.1 k (lv k)=pre (k+1) lv from rM]at P
  exact#[_,_,_,_,by simp[Ci,B,Jv,p,λS t=>Ih A.o (S:=S) (m:="say") (F:=Eb) (t:=t) (by rfl),P];exact#[rfl,rfl],rG .JF (pre (k+1) lv,zC) 0,G9 A.o,qN .JF,rN .AK .JF]
theorem rO(g:GH h)(ok:Lv h lv):∀m k G a b d x4,k+m=h.n->VS G h i a b (Dk.begun (pre k lv,zC) 0)->i<a->i<b->∃c t s C q,
  Ar .BC R6 .Fs [u7 h.enc,u7 .Br,zR i,d,x4] G=.nx [u7 h.enc,u7 .Br,zR i,C,q] c/\VS c h i t s (Dk.begun (pre h.n lv,zC) 0)/\i<t/\i<s/\Old i G c
 |0,k,G,a,b,d,x4,e,A,r,o=>#[G,a,b,d,x4,by rw[J9,Cz],by rw[<-show k=h.n by lia];exact A,r,o,Old.refl]
 |m+1,k,G,a,b,d,x4,e,A,r,o=>by let#[y,H,x,q,J,v,j,l,o1]:=RC g ok .a A r o x4;let#[c,F,E,z3,w,B,I,f,p,u]:=rO g ok m (k+1) y H x .DL q .a v j l;refine#[c,F,E,z3,w,?_,I,f,p,o1.trans u];simp[Je,Cj,J];exact B
def Dk.RD{a:Nat}{l l':Nat->Int}(e:∀j,j<h.n->l j=l' j)(A:VS G h i a b (Dk.begun (l,zC) 0)):VS G h i a b (Dk.begun (l',zC) 0):=by
 have d:ZG h.n l zC=ZG h.n l' zC:=by
  unfold ZG
  rw[show tab h.n l=tab h.n l' from qk λj k=>by rw[e j (qx.mp k)]]
 let#[o,f,p,c,g,m]:=A;refine#[?_,f,p,c,g,m];rw[o];show u7 (VL _ (ZG h.n l zC) _ (ZG h.n l zC) _ _ _)=u7 (VL _ .II _ .II _ _ _);rw[d]
 rfl
end
def rP(g:GH h)(ok:Lv h lv)(G):∃c a b,Sw [h.enc,B' h lv] G=.ok .JG c/\VS c h .AA a b (Dk.begun (lv,zC) 0)/\lN G<a/\lN G<b/\Old .AA G c:=by
 have N:=g.g.len;have q:(Io G)[lN G]?=u7 (VL .WB .WB .Be .WB .WB (.ref (lN G+1)) (.ref (lN G+2))):=app0;have d:lN (Io G)=lN G+3:=by simp[Io]
 have x:Old .AA (Io G) (WW (Io G) .AA h.enc .Ca .Be):=rN .AK (by rw[d];lia);let#[c,l,r,z3,z,I,s,e,k,w]:=rO g ok h.n 0 _ _ _ u8 u8 .a (by rw[Qb];exact(rG (i:=lN G) (by rw[d];lia) (zL,zC) 0)) (by rw[d];lia) (by rw[d];lia);have p:Ar .BC R6 .Dp [u7 h.enc,u7 .Br,zR .AA,u8,u8] (WW (Io G) .AA h.enc .Ca .Be)=.nx [u7 h.enc,u7 .Br,zR .AA,z3,z] c:=I
 refine#[c,l,r,?_,Dk.RD (λj J=>by unfold pre;rw[if_pos J]) s,e,k,(RB.trans x).trans w];have K:=dS g.ho;have u:∀G,Dw (.str "house\n") (.str .KO) G=.ok (.str (Aa (hsW++Hq h))) G:=λG=>by exact N6 (by show 6+_<=_;lia) G
 have E:inR h.n:=Gj .a .a;have v:tidy G (.ok .JG c)=.ok .JG c:=by
  unfold tidy;have B:XG .AA .JG=uA:=.d
  have C:K4 .AA ((Dk.begun (pre h.n lv,zC) 0).obj h l r)=uA:=by
   have:¬l<lN G:=.a
   simp[Dk.obj,VL,XY,K4,this]
  simp only[B,s.o,C]
  split<;>rfl
 simp[Sw,kh,Ag,QR (G:=G),λS t=>Ih q (S:=S) (m:="say") (F:=Eb) (t:=t) (by rfl),λG=>PQ g.ho G,u,QY g q (by rw[d];lia),E,p,v]
def VI(c p m:Int):Int:=c*48271%p%m
def Ma{c p m:Int}(a:0<m):0<=VI c p m/\VI c p m<m:=#[jS _ .a,jH _ a]
def Rx(c){p m:Int}(hp:0<p)(b:0<m)(G):Dv [.int c,.int p,.int m] G=.ok (.int (VI c p m)) G:=by simp[Dv,bt,VI,Ag,hp,b,Ao]
def d9{n:Nat}:tab n F++[.int (F n)]=tab (n+1) F:=by simp[tab,xk]
theorem Xo{k:Kd}:k.VV="basin"↔k.ZH=u9:=by
 cases k with
 |VA _ _ _=>exact#[λ_=>rfl,λ_=>rfl]
 |_=>exact#[λz=>absurd z (by simp[Kd.VV]),λz=>by cases z]
theorem rQ(a:p.kd.ZH=u9)(G):Cg .CQ .HH G=.ok (.int (match p.kd with | .VA b _ _=>b|_=>0)) G:=by
 unfold Hs.ZB;cases e:p.kd with
 |VA b r q=>simp
 |_=>rw[e]at a;cases a
section
variable{h:Hs}{sc:List Int}{scale:Int}{G:DH}
def XQ(h:Hs)(sc:List Int)(scale:Int)(k:Nat):Int:=if(h.pl k).kd.ZH=u9 then min .D8 (VI (cellAt sc 2+(k:Int)*k) 10093 9*scale)else 0
def D'(h:Hs)(sc:List Int)(scale:Int)(lv:Nat->Int)(k:Nat):Int:=if(h.pl k).kd.ZH=u9 then min .D8 (lv k+VI (cellAt sc 3+k) 10177 3*scale)else 0
def RE(hk:k<h.n)(v:h.n<=12)(o):∃j,
  Sd [zF .AJ,u7 h.enc,zI scale,zR .AA,zI k,o] (G++[.lst (tab k .Bu)])=.nx [zF .AJ,u7 h.enc,zI scale,zR .AA,zI k,j] (G++[.lst (tab (k+1) .Bu)]):=by
 have f:=Ef rfl .Eb;have e:∀G,Fo [.fl .AJ,.int 2] G=.ok (.int (cellAt sc 2)) G:=λG=>Oh .c
 have s:∀G,Fw .B6 .B6 G=.ok (.int (k*k)) G:=λG=>Ga .a .a
 have u:=λG=>Rx (cellAt sc 2+k*k) (p:=10093) (m:=9) .c .c G
 have r:=Ma (c:=cellAt sc 2+k*k) (p:=10093) (m:=9) .c;have t:∀G,Fw (.int (VI (cellAt sc 2+k*k) 10093 9)) .Ds G=.ok (.int (VI (cellAt sc 2+k*k) 10093 9*scale)) G:=λG=>Ga .a .a
 have lt:lN (tab k .Bu)<1000000:=by rw[Qa];lia
 have d:=rQ (h:=h) (p:=h.pl k);rw[<-(d9)];rcases a:(h.pl k).kd.ZH with _|_
 .have l:¬(h.pl k).kd.VV="basin":=λz=>by rw[Xo.mp z]at a;cases a
  have ev:XQ h sc scale k=0:=by unfold XQ;rw[a];rfl
  rw[ev];refine#[zI 0,?_];have i:k<1000000:=.a
  simp[Sd,Ci,f,l,i]
 have d:=d a;have ev:XQ h sc scale k=min .D8 (VI (cellAt sc 2+k*k) 10093 9*scale):=by unfold XQ;rw[a];rfl
 have g:(match(h.pl k).kd with | .VA b _ _=>b|_=>0)=mo h k:=by
  unfold mo
  cases(h.pl k).kd<;>rfl
 rw[g]at d;rw[ev];generalize VI (cellAt sc 2+k*k) 10093 9=M at*;generalize cellAt sc 2=C,sc.map D.int=SC,tab k .Bu=T,mo h k=q at*;refine#[zI (min q (M*scale)),?_];simp[Sd,Ci,f,Xo.mpr a,lt,d,e,s,u,t]
def RF(e:h.n<=12)G:Vz [.fl .AJ,h.enc,.int scale] G=.ok .JG (G++[.lst .Kx]):=by
 let#[g,i,d]:=rng2 (A:=[zF .AJ,u7 h.enc,zI scale,zR .AA]) (λk x hk=>RE hk e x) h.n 0 u8 u8 .a;have a:Ar .Bd Sd .Dp [zF .AJ,u7 h.enc,zI scale,zR .AA,u8,u8] (G++[.lst []])=_:=d;have f:inR h.n:=Gj .a .a;have b:∀m,ZA m .Kx=u9:=λ_=>I8
 simp[Vz,lX,Ag,Ce,Ci,Hs.H7,f,a,b]
variable{lv:Nat->Int}
def RG(hk:k<h.n)(w:h.n<=12)(s):∃o,
  Ro [zF .AJ,u7 h.enc,u7 .Br,zI scale,zR .AA,zI k,s] (G++[.lst (tab k .BY)])=.nx [zF .AJ,u7 h.enc,u7 .Br,zI scale,zR .AA,zI k,o] (G++[.lst (tab (k+1) .BY)]):=by
 have f:=Ef rfl .Eb;have j:ZJ .Aw k=zI (lv k):=H8 hk;have e:∀G,Fo [.fl .AJ,.int 3] G=.ok (.int .Fx) G:=λG=>Oh .c
 have u:=λG=>Rx (cellAt sc 3+k) (p:=10177) (m:=3) .c .c G
 have r:=Ma (c:=cellAt sc 3+k) (p:=10177) (m:=3) .c;have t:∀G,Fw (.int (VI (cellAt sc 3+k) 10177 3)) .Ds G=.ok (.int (VI (cellAt sc 3+k) 10177 3*scale)) G:=λG=>Ga .a .a
 have lt:lN (tab k .BY)<1000000:=by rw[Qa];lia
 have d:=rQ (h:=h) (p:=h.pl k);rw[<-(d9)];rcases a:(h.pl k).kd.ZH with _|_
 .have l:¬(h.pl k).kd.VV="basin":=λz=>by rw[Xo.mp z]at a;cases a
  have ev:D' h sc scale lv k=0:=by unfold D';rw[a];rfl
  rw[ev];refine#[zI 0,?_];have i:k<1000000:=.a
  simp[Ro,Ci,f,l,i]
 have d:=d a;have ev:D' h sc scale lv k=min .D8 (lv k+VI (cellAt sc 3+k) 10177 3*scale):=by unfold D';rw[a];rfl
 have g:(match(h.pl k).kd with | .VA b _ _=>b|_=>0)=mo h k:=by
  unfold mo
  cases(h.pl k).kd<;>rfl
 rw[g]at d;rw[ev];unfold B';generalize VI (cellAt sc 3+k) 10177 3=M at*;generalize cellAt sc 3=C,sc.map D.int=SC,tab k .BY=T,tab h.n lv=v,mo h k=q,lv k=L at*;refine#[zI (min q (L+M*scale)),?_];simp[Ro,Ci,f,j,Xo.mpr a,lt,d,e,u,t]
def RI(f:h.n<=12)G:W5 [.fl .AJ,h.enc,B' h lv,.int scale] G=.ok .JG (G++[.lst .Ky]):=by
 let#[i,j,e]:=rng2 (A:=[zF .AJ,u7 h.enc,u7 .Br,zI scale,zR .AA]) (λk x hk=>RG hk f x) h.n 0 u8 u8 .a;have a:Ar .C3 Ro .Dp [zF .AJ,u7 h.enc,u7 .Br,zI scale,zR .AA,u8,u8] (G++[.lst []])=_:=e;have g:inR h.n:=Gj .a .a;have b:∀m,ZA m .Ky=u9:=λ_=>I8
 have d:lN .Aw=h.n:=Qa;simp[W5,lW,Ag,Ce,d,g,a,b]
def RJ(g:GH h)(s0:1<=scale):Lv h .Bu/\∀k,XQ h sc scale k<=8*scale:=by
 have a:∀k,0<=VI (cellAt sc 2+k*k) 10093 9*scale/\VI (cellAt sc 2+k*k) 10093 9*scale<=8*scale:=λk=>by have r:=Ma (c:=cellAt sc 2+k*k) (p:=10093) (m:=9) .c;exact#[xA r.1 .a,qj .a .a]
 refine#[λk hk=>?_,λk=>?_]
 .have b:=Zf g.g hk;have:=a k;unfold XQ
  split<;>lia
 have:=a k;unfold XQ
 split<;>lia
def RL(g:GH h)(s0:1<=scale)(o:Lv h lv):Lv h .BY/\(∀k,k<h.n->lv k<=D' h sc scale lv k)/\∀k,k<h.n->D' h sc scale lv k<=lv k+2*scale:=by
 have a:∀k,0<=VI (cellAt sc 3+k) 10177 3*scale/\VI (cellAt sc 3+k) 10177 3*scale<=2*scale:=λk=>by have r:=Ma (c:=cellAt sc 3+k) (p:=10177) (m:=3) .c;exact#[xA r.1 .a,qj .a .a]
 have b:∀k,k<h.n->¬(h.pl k).kd.ZH=u9->lv k=0:=λk hk z=>by have:=o k hk;rw[d8 (by simpa using z)]at this;lia
 refine#[λk hk=>?_,λk hk=>?_,λk hk=>?_]
 .have d:=Zf g.g hk;have:=a k;have:=o k hk;unfold D'
  split<;>lia
 .have:=a k;have:=o k hk;unfold D';split
  .lia
  rename_i z;rw[b k hk z];lia
 have:=a k;have:=o k hk;unfold D'
 split<;>lia
end
def fld(scale c:Int):Int:=VI c 10103 8*scale+VI c 10133 3
def RM{c:Int}(s1:1<=scale):0<=fld scale c/\fld scale c<=7*scale+2:=by have a:=Ma (c:=c) (p:=10103) (m:=8) .c;have b:=Ma (c:=c) (p:=10133) (m:=3) .c;have e:0<=VI c 10103 8*scale:=xA a.1 .a;have d:VI c 10103 8*scale<=7*scale:=qj .a .a;unfold fld;lia
def RN(c)(G):Xf [.int c,.int scale] G=.ok (.int (fld scale c)) G:=by
 have d:=Ma (c:=c) (p:=10103) (m:=8) .c;have b:∀G,Fw (.int (VI c 10103 8)) .Ds G=.ok (.int (VI c 10103 8*scale)) G:=λG=>Ga .a .a
 simp[fld,Xf,lU,Ag,λG=>Rx c (p:=10103) (m:=8) .c .c G,λG=>Rx c (p:=10133) (m:=3) .c .c G,b,Ao]
def RO{f:Int->Int}(h:∀x:Int,te (S.set 0 (zI x)) G=.ok (.int (f x)) G)(l:List Int):Bj .AQ Ai te S .A0 G=.ok ((l.map f).map D.int) G:=by rw[qJ];exact J8 λx _=>h x
def rR{c d:Type}{f:c->d}{l:List c}{a b:Option Int}:cutD (l.map f) a b=(cutD l a b).map f:=by unfold cutD;rw[List.map_take,List.map_drop,zq]
def RQ{d:Type}{xs:List d}{a:Nat}(h:a<=b)(g:b<=lN xs):cutD xs (u7 a) (u7 b)=(xs.drop a).take (b-a):=by
 unfold cutD;rw[sxa (zx h g) (Mh .Ee a).2,sxa g (Mh .Ee b).1]
def flF(scale:Int)(cs:List Int)(n i k:Nat):Int:=fld scale (cs.getD (i*n+k) 0)
def RS{cs:List Int}{n:Nat}(h:i*n+n<=lN cs):((cs.drop (i*n)).take n).map (fld scale)=(zV n).map (flF scale cs n i):=by
 refine qB .e λk b a=>?_
 have hk:k<n:=by simpa using a
 have:i*n+k<lN cs:=.a
 simp[flF,this]
def Fg(scale:Int)(cs:List Int)(n m:Nat):List D:=(zV m).map λi=>D.fl .Ka
def RT{cs:List Int}{n:Nat}:Fg scale cs n m++[.fl (tab n (flF scale cs n m))]=Fg scale cs n (m+1):=by simp[Fg,xk]
section
variable{scale:Int}{cs:List Int}{n:Nat}{G:DH}{s0 s1:Option D}
def RU(u:1<=n/\n<=12)(k:i*n+n<=lN cs)(z:lN cs<=100)(C:Option D):
  Ra [s0,s1,zI n,zI scale,zF .B3,zR .AA,zI i] (G++[.lst .EQ])=.nx [s0,s1,zI n,zI scale,zF .B3,zR .AA,zI i] (G++[.lst (Fg scale cs n (i+1))]):=by
 have w:i<=100:=zx (Nat.le_mul_of_pos_right i u.1) .a;have t:∀G,Fw .AM .Bn G=.ok (.int ((i*n:Nat))) G:=λG=>by
  rw[Ga .a .a]
  rfl
 have p:∀G,Dw (.int ((i*n:Nat))) .Bn G=.ok (.int ((i*n+n:Nat))) G:=λG=>rfl
 have r:cutD .B3 (u7 ((i*n:Nat))) (u7 ((i*n+n:Nat)))=((cs.drop (i*n)).take n).map D.int:=by rw[rR,RQ .a k,show i*n+n-i*n=n by lia]
 have m:∀G,Bj .AQ Ai Wa [u8,zI scale] (((cs.drop (i*n)).take n).map D.int) G=.ok .Ka G:=λG=>by
  have:=RO (te:=Wa) (S:=[u8,zI scale]) (f:=fld scale) (G:=G) (λx=>by simp[Wa,λG=>RN (scale:=scale) x G]) ((cs.drop (i*n)).take n)
  rw[this,RS k,Ow]
 have q:∀A F,freeze (G++[A]) (.ok (.ref (lN G+1)) (G++[A,.lst .EH]))=.ok (.fl .EH) (G++[A]):=λA F=>Lq I8
 have o:lN .EQ<1000000:=by simp[Fg];lia
 have lt:lN .Ka<=1000000:=by rw[Qa];lia
 have j:=λA=>q A .CJ
 rw[<-RT];generalize tab n .CJ=T,Fg scale cs n i=L,cs.map D.int=v,(cs.drop (i*n)).take n=P,((i*n:Nat):Int)=y,((i*n+n:Nat))=B at*;simp[Ra,t,p,r,Lq,Al,m,lt,j,o]
theorem rT(c:1<=n/\n<=12)(b:lN cs<=100):∀m i a,(i+m)*n<=lN cs->∃g,
  Ar .DM Ra (Bq i m) [s0,s1,zI n,zI scale,zF .B3,zR .AA,a] (G++[.lst .EQ])=.nx [s0,s1,zI n,zI scale,zF .B3,zR .AA,g] (G++[.lst (Fg scale cs n (i+m))])
 |0,i,a,e=>#[a,by rw[J9,Cz];rfl]
 |m+1,i,a,e=>by
  have f:i*n+n<=lN cs:=by have:(i+1)*n<=(i+(m+1))*n:=jQ _ .a;rw[Nat.add_mul,Nat.one_mul]at this;lia
  let#[d,h]:=rT c b m (i+1) (zI i) (by rw[show i+1+m=i+(m+1) by lia];exact e);refine#[d,?_];simp[Je,Cj,RU c f b a];have j:(i+1)=((i+1:Nat):Int):=.a
  rw[j,h,show i+1+m=i+(m+1) by lia]
def rV:ZA k .Go=u9:=Df λi _=>by simp
def RV(l:lN sc<=63)(i:1<=n/\n<=12):∃cs m,m<=63/\∀G,Xb [.fl .AJ,.int 19,.int n,.int scale] G=.ok .JG (G++[.lst .Go]):=by
 have cl:=CQ sc .FW .FX;refine#[cutD sc .FW .FX,lN (cutD sc .FW .FX)/n,zx .FY .a,λG=>?_];have hs:cutD .AJ .FW .FX=(cutD sc .FW .FX).map D.int:=rR;generalize cutD sc .FW .FX=cs at*;let#[o,b]:=rT (cs:=cs) i .a (lN cs/n) 0 u8 (by rw[Nat.zero_add];exact Nat.div_mul_le_self _ _)
 have a:Ar .DM Ra (Bq 0 (lN cs/n)) [zF .AJ,zI 19,zI n,zI scale,zF .B3,zR .AA,u8] (G++[.lst []])=_:=b;have g:∀G,Jx (.int (lN cs)) .Bn G=.ok (.int ((lN cs/n:Nat))) G:=λG=>by
  rw[CL,if_pos #[.a,Nat.lt_of_le_of_lt (Nat.log2_le_self _) .a]]
  rfl
 have j:inR ((lN cs/n:Nat)):=(λQ h=>Gj .a .a:∀Q:Nat,Q<=63->inR Q) _ (zx .FY .a);have c:∀m,ZA m ((Fg scale cs n (lN cs/n)))=u9:=λ_=>rV
 generalize Fg scale cs n (lN cs/n)=p,lN cs/n=Q at*;simp[Xb,lV,Ag,hs,Bd,g,j,a,c,Ce]
end
def V'(scale i:Int):Int:=if i=2 then 1 else if i=3 then scale else if i=4 then 2*scale else 0
def RW{i:Int}(s1:1<=scale):0<=V' scale i/\V' scale i<=2*scale:=by
 unfold V';split
 .lia
 split
 .lia
 split<;>lia
def ZU(scale cell:Int)(fl:Nat->Int)(k:Nat):Int:=fl k+V' scale (VI (cell+(k:Int)*k) 10193 5)
section
variable{scale cell:Int}{n:Nat}{fl:Nat->Int}{G:DH}
def RX(hk:k<n)(t:n<=12)(e):∃d,
  T3 [zF .Bw,zI cell,zI scale,zR .AA,zI k,e] (G++[.lst .Kb])=.nx [zF .Bw,zI cell,zI scale,zR .AA,zI k,d] (G++[.lst (tab (k+1) .BZ)]):=by
 have b:ZJ .Bw k=zI (fl k):=H8 hk;have i:∀G,Fw .B6 .B6 G=.ok (.int (k*k)) G:=λG=>Ga .a .a
 have o:=λG=>Rx (cell+k*k) (p:=10193) (m:=5) .c .c G
 have lt:lN .Kb<1000000:=by rw[Qa];lia
 have ev:ZU scale cell fl k=fl k+V' scale (VI (cell+k*k) 10193 5):=rfl;have a:∀M,0<=M/\M<5->ZJ [D.int 0,.int 0,.int 1,.int scale,.int (2*scale)] M=zI (V' scale M):=λM r=>by rcases(by lia:M=0\/M=1\/M=2\/M=3\/M=4)with z|z|z|z|z<;>subst z<;>rfl
 have a:=a _ (Ma (c:=cell+k*k) (p:=10193) (m:=5) .c);rw[<-(d9 (n:=k) (F:=ZU scale cell fl)),ev];generalize V' scale (VI (cell+k*k) 10193 5)=q,VI (cell+k*k) 10193 5=M,tab k .BZ=T,tab n fl=s,fl k=u at*;refine#[zI M,?_];simp[T3,i,o,b,Lq,a,lt]
theorem rW(c:n<=12):∀m k x4 a,k+m=n->∃d b,
  Ar .Bd T3 .Fs [zF .Bw,zI cell,zI scale,zR .AA,x4,a] (G++[.lst .Kb])=.nx [zF .Bw,zI cell,zI scale,zR .AA,d,b] (G++[.lst (tab n .BZ)])
 |0,k,x4,a,e=>#[x4,a,by rw[J9,Cz,show k=n by lia]]
 |m+1,k,x4,a,e=>by let#[b,i]:=RX (scale:=scale) (cell:=cell) (fl:=fl) (G:=G) (k:=k) .a c a;let#[l,f,g]:=rW c m (k+1) .DL b .a;refine#[l,f,?_];simp[Je,Cj,i];exact g
def RY(f:n<=12)(G):Xv [.fl .Bw,.int cell,.int scale] G=.ok .JG (G++[.lst (tab n .BZ)]):=by let#[i,j,e]:=rW f n 0 u8 u8 .a;have a:Ar .Bd T3 .DX [zF .Bw,zI cell,zI scale,zR .AA,u8,u8] (G++[.lst []])=_:=e;have g:inR n:=Gj .a .a;simp[Xv,lY,Ag,g,a,Ce]
end
section
variable{h:Hs}{pg VO:Nat->List Int}{G:DH}
abbrev YQ(h:Hs)(pg:Nat->List Int):D:=.fl .LA
def rX(hk:k<h.n):ZJ .LA k=zF ((pg k).map D.int):=Ef rfl (by simp[Eu,Dq,hk])
def rY{r:List Int}(g:lN r=6):∀c,1<=c/\c<=5->ZJ .Av c=zI (r.getD c.toNat 0):=λc j=>by
 let#[a,b,i,d,e,f,rfl]:=row6 g
 rcases(by lia:c=1\/c=2\/c=3\/c=4\/c=5)with z|z|z|z|z<;>subst z<;>rfl
theorem da(hk:k<h.n)(g:lN .FQ=6)(f:lN (VO k)=6){s4:Option D}:∀(cs:List Int)b,(∀c∈cs,(1<=c/\c<=5)/\(pg k).getD c.toNat 0<=(VO k).getD c.toNat 0)->∃d,
  Ar .C3 P0 .B3 [u7 h.enc,u7 .CK,u7 .Cb,zI k,s4,b] G=.nx [u7 h.enc,u7 .CK,u7 .Cb,zI k,s4,d] G
 |[],b,_=>#[b,by rw[qL,Cz]]
 | c::cs,b,e=>by
  let#[d,m]:=da hk g f (s4:=s4) cs (zI c) λx r=>e x (zZ _ r)
  refine#[d,?_];let#[a,t]:=e c .d;have q:=rX (pg:=pg) hk;have p:=rX (pg:=VO) hk;have l:=rY g c a;have o:=rY f c a;have s:P0 [u7 h.enc,u7 .CK,u7 .Cb,zI k,s4,zI c] G=.nx [u7 h.enc,u7 .CK,u7 .Cb,zI k,s4,zI c] G:=by
   unfold YQ;generalize Eu .FG=y,Eu (Dq h.n VO)=v,(pg k).getD c.toNat 0=j,(VO k).getD c.toNat 0=u,(pg k).map D.int=w,(VO k).map D.int=R2 at*;have i:¬u<j:=.a
   simp[P0,q,p,l,o,i]
  simp[Cj,s,m]
def RZ(hk:k<h.n)(t:lN .FQ=6)(s:lN (VO k)=6)(B:(h.pl k).kd.ZH=u9->(pg k).getD 2 0<=(VO k).getD 2 0/\(pg k).getD 3 0<=(VO k).getD 3 0/\(pg k).getD 4 0<=(VO k).getD 4 0/\(pg k).getD 5 0<=(VO k).getD 5 0)(w:(pg k).getD 1 0<=(VO k).getD 1 0)(x4 i):∃E d,
  Mv [u7 h.enc,u7 .CK,u7 .Cb,zI k,x4,i] G=.nx [u7 h.enc,u7 .CK,u7 .Cb,zI k,E,d] G:=by
 have o:=Ef rfl .Eb;rcases e:(h.pl k).kd with⟨b,r,q⟩|⟨b,r⟩|b
 .have g:(h.pl k).kd.VV="basin":=by rw[e];rfl
  let#[u,A,x,y]:=B (by rw[e];rfl);let#[d,p]:=da (s4:=zF [.int 2,.int 3,.int 4,.int 5]) hk t s [2,3,4,5] i (λc f=>by
   simp at f;rcases f with rfl|rfl|rfl|rfl
   .exact#[.c,u]
   .exact#[.c,A]
   .exact#[.c,x]
   exact#[.c,y])
  have a:Ar .C3 P0 [.int 2,.int 3,.int 4,.int 5] _ G=_:=p;refine#[zF [.int 2,.int 3,.int 4,.int 5],d,?_];simp[Mv,Bd,Ci,o,g,a]
 .have g:(h.pl k).kd.VV="town":=by rw[e];rfl
  let#[d,p]:=da (s4:=zF [.int 1]) hk t s [1] i (λc f=>by simp at f;rw[f];exact#[.c,w])
  have a:Ar .C3 P0 [.int 1] _ G=_:=p;refine#[zF [.int 1],d,?_];simp[Mv,Bd,Ci,o,g,a]
 have g:(h.pl k).kd.VV="mill":=by rw[e];rfl
 refine#[zF [],i,?_];simp[Mv,Bd,Ci,o,g,Cz]
theorem rZ(g:∀k,k<h.n->lN .FQ=6)(i:∀k,k<h.n->lN (VO k)=6)(f:∀k,k<h.n->(h.pl k).kd.ZH=u9->(pg k).getD 2 0<=(VO k).getD 2 0/\(pg k).getD 3 0<=(VO k).getD 3 0/\(pg k).getD 4 0<=(VO k).getD 4 0/\(pg k).getD 5 0<=(VO k).getD 5 0)(j:∀k,k<h.n->(pg k).getD 1 0<=(VO k).getD 1 0):∀m k b x4 a,k+m=h.n->∃o c d,
  Ar .BC Mv .Fs [u7 h.enc,u7 .CK,u7 .Cb,b,x4,a] G=.nx [u7 h.enc,u7 .CK,u7 .Cb,o,c,d] G
 |0,k,b,x4,a,e=>#[b,x4,a,by rw[J9,Cz]]
 |m+1,k,b,x4,a,e=>by
  have hk:k<h.n:=.a
  let#[c,d,r]:=RZ (G:=G) hk (g k hk) (i k hk) (f k hk) (j k hk) x4 a;let#[z3,s,l,q]:=rZ g i f j m (k+1) .DL c d .a;refine#[z3,s,l,?_];simp[Je,Cj,r];exact q
def Re(q:h.n<=12)(c:∀k,k<h.n->lN .FQ=6)(e:∀k,k<h.n->lN (VO k)=6)(m:V? h pg VO)(G):W7 [h.enc,YQ h pg,YQ h VO] G=.ok .Ab G:=by
 let#[l,j,o,f]:=rZ c e (λk hk a=>#[(m.VA k hk a).1,(m.VA k hk a).2.1,(m.VA k hk a).2.2,m.XI k hk]) m.took h.n 0 u8 u8 u8 .a;have b:Ar .BC Mv .Dp [u7 h.enc,u7 .CK,u7 .Cb,u8,u8,u8] G=_:=f;have d:lN .LA=h.n:=by simp[Eu,Dq]
 have g:inR h.n:=Gj .a .a;simp[W7,lZ,Ag,d,g,b,Ao]
end
def Rl(sc:List Int)(G):∃h scale,GH h/\h.n<=5/\1<=scale/\scale<=10^30/\Z7 [.fl .AJ] G=.ok (.tup [h.enc,.int scale]) G:=by
 have b:∀G,Fo [.fl .AJ,.int 0] G=.ok (.int (cellAt sc 0)) G:=λG=>Oh .c
 obtain⟨scale,c,d,hs⟩:∃scale,1<=scale/\scale<=10^30/\ZJ [D.int 1,.int 1,.int (10^9+7),.int (10^30)] (cellAt sc 0/5%4)=zI scale:=by
  rcases(by lia:cellAt sc 0/5%4=0\/cellAt sc 0/5%4=1\/cellAt sc 0/5%4=2\/cellAt sc 0/5%4=3)with z|z|z|z<;>rw[z]
  .exact#[1,.c,.c,rfl]
  .exact#[1,.c,.c,rfl]
  .exact#[10^9+7,.c,.c,rfl]
  exact#[10^30,.c,.c,rfl]
 obtain⟨n,k⟩:∃n:Nat,1+cellAt sc 0%5=n:=#[(1+cellAt sc 0%5).toNat,.a];let#[h,o,g,e]:=PJ (n:=n) .a .a c d G;refine#[h,scale,g,.a,c,d,?_];have a:ZJ [D.int 1,.int 1,.int 1000000007,.int 1000000000000000000000000000000] (cellAt sc 0/5%4)=zI scale:=hs;generalize sc.map D.int=SC,cellAt sc 0=C at*;simp[Z7,lT,Ag,b,Bd,a,k,e,Ao]
theorem Lf:∀{n:Nat}{F:Nat->Int},(∀i,i<n->0<=F i)->0<=Ad n F
 |0,_,_=>zU _
 |n+1,F,h=>by
  have b:=Lf (n:=n) λi c=>h i .a
  have a:=h n .a;show 0<=Ad n F+F n;lia
theorem Yu:∀{n:Nat}{F:Nat->Int},(∀i,i<n->0<=F i)->∀k,k<n->F k<=Ad n F
 |n+1,F,h,k,hk=>by
  have c:=Lf (n:=n) λi a=>h i .a
  have b:=h n .a;show F k<=Ad n F+F n;by_cases e:k=n
  .subst e;lia
  have:=Yu (n:=n) (λi a=>h i .a) k .a;lia
theorem r6:∀m,(∀j,k<=j->j<k+m->F j=0)->Ad (k+m) F=Ad k F
 |0,_=>rfl
 |m+1,h=>by show Ad (k+m) F+F (k+m)=_;rw[r6 m λj a b=>h j a .a,h (k+m) .a .a];lia
theorem Xg:∀{n:Nat},(∀i,i<n->F i<=M)->Ad n F<=n*M
 |0,_=>by simp[Ad]
 |n+1,h=>by
  have b:=Xg (n:=n) λi c=>h i .a
  have a:=h n .a;show Ad n F+F n<=_;have:((n+1:Nat))*M=n*M+M:=by push_cast;rw[Int.add_mul,Int.one_mul]
  lia
def GH.U'(g:GH h):T' h:=λk b r hk e s hs t a=>(g.pw k hk).1.nop b r e s hs t a
section
variable{h:Hs}{lv fl:Nat->Int}{co:Nat->Nat->Int}{at_:Int}
def dc(h:∀a,a<5->0<=F a):0<=YI F/\F 0<=YI F:=by have f:=h 0 .a;have e:=h 1 .a;have c:=h 2 .a;have b:=h 3 .a;have g:=h 4 .a;unfold YI;lia
def V1(o:StOk h lv co):0<=Bu h.n lv co/\Ad h.n lv<=Bu h.n lv co:=by
 have e:=Lf λk hk=>o.XQ k hk
 have c:=Lf λk hk=>(dc λa b=>o.co0 k a hk b).1
 unfold Bu;lia
def SA(o:StOk h lv co)(c:∀k,k<h.n->0<=fl k)(hk:k<h.n):lv k+co k 0+fl k<=Bu h.n lv co+Ad h.n fl:=by have g:=Yu (λk hk=>o.XQ k hk) k hk;have f:=Yu (λk hk=>(dc λa b=>o.co0 k a hk b).1) k hk;have e:=Yu c k hk;have i:=(dc λa b=>o.co0 k a hk b).2;unfold Bu;lia
def SB(g:GH h)(o:StOk h lv co)(q:∀k,k<h.n->0<=fl k)(hk:k<h.n):∀x∈(h.cs lv co at_ fl).WA k,0<=x/\x<=64*(Bu h.n lv co+Ad h.n fl):=by
 have t:=Yv g.g (lv:=lv) (co:=co) (fl:=fl) (at_:=at_);have u:=V0 g.g (lv:=lv) (a:=at_) o.co0 q;have v:=dH g.g t u o.XQ;generalize h.cs lv co at_ fl=s at*;have l:=λk hk=>(dG g.g g.U' t o.lvR (k:=k) hk).1
 have K:=g.n6;have L:0<=Bu h.n lv co+Ad h.n fl:=by have:=(V1 o).1;have:=Lf q;lia
 have H:=λk hk=>SA o q (k:=k) hk
 generalize Bu h.n lv co+Ad h.n fl=W at*;have A:∀k,k<h.n->0<=Az s.WA k/\Az s.WA k<=lv k+(s.WA k).getD 0 0:=λk hk=>by let#[a,b,c,d,e,f,p,T,N,M,O,J,I]:=v.row k hk;have i:=l k hk;unfold Az Dm XI at*;rw[p]at i⊢;simp at i⊢;lia
 have m:∀k,k<=h.n->Ad k (λj=>lv j+(s.WA j).getD 0 0)+W<=2^k*W:=λk=>by
  induction k with
  |zero=>intro _;show 0+W<=2^0*W;simp
  | succ k Y=>
   intro hk;have e:=(λk hk=>n9 g.g t u (k:=k) hk) k .a;have hs:Ad h.n (λj=>if h.dn j=u7 k/\(h.pl j).dl=0 then Az s.WA j else 0)<=Ad k (λj=>lv j+(s.WA j).getD 0 0):=by
    have P:∀j,k<=j->j<k+(h.n-k)->(if h.dn j=u7 k/\(h.pl j).dl=0 then Az s.WA j else 0)=0:=λj E Q=>by
     by_cases C:h.dn j=u7 k
     .have:=(g.g.dn j k .a C).1;lia
     rw[if_neg λz=>C z.1]
    have r:=r6 _ P;rw[show k+(h.n-k)=h.n by lia]at r;rw[r];refine Ls λj E=>?_
    have Z:=A j .a
    split<;>lia
   have X:=H k .a;show Ad k _+(lv k+(s.WA k).getD 0 0)+W<=_;have S:2^(k+1)*W=2*(2^k*W):=by rw[Int.pow_succ];rw[Int.mul_comm (2^k) 2,Int.mul_assoc]
   lia
 have hp:(2:Int)^(k+1)<=64:=by rcases(by lia:k=0\/k=1\/k=2\/k=3\/k=4\/k=5)with z|z|z|z|z|z<;>subst z<;>decide
 have pk:0<=Ad k (λj=>lv j+(s.WA j).getD 0 0):=Lf λj E=>by have:=A j .a;lia
 have w:Ad k (λj=>lv j+(s.WA j).getD 0 0)+(lv k+(s.WA k).getD 0 0)+W<=64*W:=jU (m (k+1) .a) (qj hp L);let#[a,b,c,d,e,f,p,T,N,M,O,J,I]:=v.row k hk;have i:=l k hk;have U:=o.XQ k hk;unfold Az Dm XI at i;rw[p]at i w⊢;simp only[List.getD_cons_succ,List.getD_cons_zero]at i w;have z:b+(c+d)+e+f<=64*W:=.a
 clear w pk L;intro x y;simp at y
 rcases y with rfl|rfl|rfl|rfl|rfl|rfl<;>lia
end
structure DW (h:Hs) (d:Dk) (B:Int):Prop where
 ok:StOk h d.st.1 d.st.2
 sb:0<=Bu h.n d.sb.1 d.sb.2
 fl:0<=(d.WT.map .Bf).sum
 tk:0<=(d.XN.map .CA).sum
 gn:0<=(d.XN.map .CB).sum
 cons:Bu h.n d.sb.1 d.sb.2+(d.WT.map .Bf).sum=(d.XN.map .CA).sum+(d.XN.map .CB).sum+Bu h.n d.st.1 d.st.2
 all:Bu h.n d.sb.1 d.sb.2+(d.WT.map .Bf).sum<=B
 po:∀pg∈d.XN,ZR h pg
def DW.small{d:Dk}(w:DW h d B):Bu h.n d.st.1 d.st.2<=B:=by have:=w.cons;have:=w.all;have:=w.tk;have:=w.gn;lia
def DW.book{d:Dk}(w:DW h d B)(e:B<10^40):WU (Gi h d):=λx a=>by
 have j:=w.cons;have f:=w.all;have c:=w.tk;have k:=w.gn;have g:=w.sb;have i:=w.fl;have b:=(V1 w.ok).1;simp[Gi,or_false]at a
 rcases a with rfl|rfl|rfl|rfl|rfl<;>lia
def Pz{l:List Int}:(l++[x]).sum=l.sum+x:=.d
section
variable{h:Hs}{d d':Dk}{B F:Int}{fl U?:Nat->Int}
def DW.turned(g:GH h)(w:DW h d B)(p:∀k,k<h.n->0<=fl k/\fl k<=F)(x:0<=F):DW h .A8 (B+6*F):=by
 have j:=λk hk=>(p k hk).1
 have t:=Yv g.g (lv:=d.st.1) (co:=d.st.2) (fl:=fl) (at_:=d.at_);have m:=V0 g.g (lv:=d.st.1) (a:=d.at_) w.ok.co0 j;have l:=dH g.g t m w.ok.XQ;have E:=MP g.g g.U' t m w.ok.lvR;have i:Ad h.n (Uy h (h.cs d.st.1 d.st.2 d.at_ fl).WA)=YY h (h.cs d.st.1 d.st.2 d.at_ fl).WA+XW h (h.cs d.st.1 d.st.2 d.at_ fl).WA:=by
  unfold YY XW;rw[<-G7]
  rfl
 have I:0<=YY h (h.cs d.st.1 d.st.2 d.at_ fl).WA:=Lf λk hk=>by let#[a,b,c,d,e,f,i,J,o,y,C,u,s]:=l.row k hk;rw[i];exact o
 have A:0<=XW h (h.cs d.st.1 d.st.2 d.at_ fl).WA:=Lf λk hk=>by
  let#[a,b,c,d,e,f,i,J,o,y,C,u,s]:=l.row k hk;split
  .unfold Az;rw[i];show 0<=c+d;lia
  exact zU _
 have r:=Lf j;have q:Ad h.n fl<=6*F:=by
  have:=Xg λk hk=>(p k hk).2
  have v:=g.n6;have:h.n*F<=6*F:=qj .a x;lia
 have N:=w.cons;have K:=w.all;have O:=w.tk;have M:=w.gn;have L:=w.fl;refine#[MR g.g t m w.ok.XQ,w.sb,?_,?_,?_,?_,?_,λH hp=>?_]
 .simp[Dk.turn,Pz];lia
 .simp[Dk.turn,Pz];lia
 .simp[Dk.turn,Pz];lia
 .simp[Dk.turn,Hs.nxt];lia
 .simp[Dk.turn,Pz];lia
 rcases qW.mp hp with z|z
 .exact w.po H z
 rw[qU.mp z];exact l
def DW.WA(g:GH h)(w:DW h d B)(a:∀k,k<h.n->0<=fl k/\fl k<=F)(e:0<=F)(i:64*(B+6*F)<10^40):∀k,k<h.n->WU ((h.cs d.st.1 d.st.2 d.at_ fl).WA k):=λk hk x c=>by
 have:=SB g w.ok (λk hk=>(a k hk).1) hk x c;have s:=w.small;have b:Ad h.n fl<=6*F:=by
  have:=Xg λk hk=>(a k hk).2
  have f:=g.n6;have:h.n*F<=6*F:=qj .a e;lia
 lia
structure Two (h:Hs) (d d':Dk):Prop where
 at_:d.at_=d'.at_
 lv:∀k,k<h.n->d.st.1 k<=d'.st.1 k
 co:∀k a,k<h.n->a<5->d.st.2 k a<=d'.st.2 k a
 tk:(d.XN.map .CA).sum<=(d'.XN.map .CA).sum
 gn:(d.XN.map .CB).sum<=(d'.XN.map .CB).sum
def Two.turned{q:Int}(g:GH h)(w:DW h d B)(o:DW h d' q)(p:Two h d d')(f:∀k,k<h.n->0<=fl k/\fl k<=U? k):
  Two h .A8 (d'.turn h U?)/\V? h (h.cs d.st.1 d.st.2 d.at_ fl).WA (h.cs d'.st.1 d'.st.2 d'.at_ U?).WA:=by
 have l:=V0 g.g (lv:=d.st.1) (a:=d.at_) w.ok.co0 (λk hk=>(f k hk).1);have i:=Yv g.g (lv:=d'.st.1) (co:=d'.st.2) (fl:=U?) (at_:=d'.at_);have c:=V0 g.g (lv:=d'.st.1) (a:=d'.at_) o.ok.co0 (λk hk=>jU (f k hk).1 (f k hk).2);have b:h.cs d'.st.1 d'.st.2 d'.at_ U?=h.cs d'.st.1 d'.st.2 d.at_ U?:=by rw[p.at_]
 rw[<-p.at_]at i c;have m:=MS g.g (Yv g.g (lv:=d.st.1) (co:=d.st.2) (fl:=fl) (at_:=d.at_)) i l c w.ok.XQ p.lv p.co λk hk=>(f k hk).2
 rw[b];refine#[#[by simp[Dk.turn];rw[p.at_],?_,?_,?_,?_],m.1]
 .intro k hk;simp[Dk.turn,Hs.nxt];rw[b];exact m.1.XI k hk
 .intro k a hk j;simp[Dk.turn,Hs.nxt];rw[b];exact m.2 k a hk j
 .simp[Dk.turn,Pz];rw[b];have:YY h (h.cs d.st.1 d.st.2 d.at_ fl).WA<=YY h (h.cs d'.st.1 d'.st.2 d.at_ U?).WA:=Ls m.1.took;have:=p.tk;lia
 simp[Dk.turn,Pz];rw[b];have:XW h (h.cs d.st.1 d.st.2 d.at_ fl).WA<=XW h (h.cs d'.st.1 d'.st.2 d.at_ U?).WA:=Ls λk hk=>by
  by_cases e:h.dn k=u8
  .rw[if_pos e,if_pos e];refine m.1.out k hk ?_;unfold Hs.dir;rw[e]
  rw[if_neg e,if_neg e];exact zU _
 have:=p.gn;lia
end
def r8{d:D}(g:lN H=lN G)(c:XG .AA d=u9):freeze G (.ok d H)=.ok d H:=by
 have e:Gp H .AA 9 d=u7 d:=by unfold Gp;rw[if_pos c]
 unfold freeze;simp only[e];split
 .rename_i h;rw[qM .a]at h;rw[h]
 rfl
def SD:"turn "=Aa (wl "turn"++[32]):=.f
def flB(h:Hs)(scale:Int)(f:Nat->Int):Prop:=∀k,k<h.n->0<=f k/\f k<=7*scale+2
section
variable{h:Hs}{scale:Int}{G:DH}{d:Dk}{i a b:Nat}
def r9(g:GH h)(A:VS G h i a b d){f:Nat->Int}{F:Int}(w:DW h d B)(q:∀k,k<h.n->0<=f k/\f k<=F)(z:0<=F)(v:64*(B+6*F)<10^40)(l:lN d.WT<=1000/\lN d.XN<=1000):
  (∀G,Ph [.fl (tab h.n f)] G=.ok (.str (Aa (Bo 44 ((zV h.n).map f)))) G)/\
  (∀G,Dw (.str "turn ") (.str (Aa (Bo 44 ((zV h.n).map f)))) G=.ok (.str (Aa (Ge (wl "turn") [Bo 44 ((zV h.n).map f)]))) G)/\
  Eb [.ref i,.str (Aa (Ge (wl "turn") [Bo 44 ((zV h.n).map f)]))] G=.ok (.str (Aa (I9 (Dq h.n (h.cs d.st.1 d.st.2 d.at_ f).WA)))) (Ea G h i a b (d.turn h f))/\
  (∀G,Qo [.str (Aa (I9 (Dq h.n (h.cs d.st.1 d.st.2 d.at_ f).WA))),.int h.n] G=.ok (YQ h (h.cs d.st.1 d.st.2 d.at_ f).WA) G):=by
 have E:=g.n1;have C:=g.n6;have K:0<=B:=by have:=w.small;have:=(V1 w.ok).1;lia
 have o:∀k,k<h.n->0<=f k/\f k<10^40:=λk hk=>by have:=q k hk;lia
 have m:WU ((zV h.n).map f):=λx y=>by let#[k,hk,rfl]:=zw.mp y;exact o k .CH
 have u:lN ((zV h.n).map f)<=1000:=.e
 have I:=Yh (c:=44) m u;have s:=w.WA g q z v;refine#[λG=>?_,λG=>?_,Q1 g A w.ok.co0 o l.1 l.2 s,λG=>?_]
 .rw[Ow];exact PR m u G
 .have H:lN (wl "turn"++[32])=5:=by decide +kernel
  rw[SD,N6 (by rw[H];lia)];simp[Ge,Af]
 have p:∀r∈Dq h.n (h.cs d.st.1 d.st.2 d.at_ f).WA,WU r/\lN r=6:=λr p=>by let#[k,hk,rfl]:=zw.mp p;exact#[s k .CH,(Sq g.g (lv:=d.st.1) (co:=d.st.2) (at_:=d.at_) (fl:=f)) k .CH]
 have l:lN (Dq h.n (h.cs d.st.1 d.st.2 d.at_ f).WA)=h.n:=by simp[Dq]
 unfold YQ;rcases e:Dq h.n (h.cs d.st.1 d.st.2 d.at_ f).WA with _|⟨r,J⟩
 .rw[e]at l;simp at l;lia
 rw[e]at p l;exact P3 p (by rw[l];lia) l G
def ra:XG m .CK=u9:=by simp[Eu,Df]
def SE(g:GH h)(s1:1<=scale){f:Nat->Int}{cell:Int}(l:flB h scale f):(∀k,k<h.n->0<=f k/\f k<=ZU scale cell f k)/\∀k,k<h.n->0<=ZU scale cell f k/\ZU scale cell f k<=9*scale+2:=by
 have c:∀k,0<=V' scale (VI (cell+k*k) 10193 5)/\V' scale (VI (cell+k*k) 10193 5)<=2*scale:=λk=>RW s1
 refine#[λk hk=>?_,λk hk=>?_]
 .have:=l k hk;have:=c k;unfold ZU;lia
 have:=l k hk;have:=c k;unfold ZU;lia
end
structure p? (h:Hs) (G:DH) (i a b j e f:Nat) (d d':Dk) (t:Nat):Prop where
 A:VS G h i a b d
 A':VS G h j e f d'
 n1:i≠j/\i≠e/\i≠f
 n2:a≠j/\a≠e/\a≠f
 n3:b≠j/\b≠e/\b≠f
 w:DW h d (10^32*(t+1))
 w':DW h d' (10^32*(t+1))
 two:Two h d d'
 l:lN d.WT=t/\lN d.XN=t
 l':lN d'.WT=t/\lN d'.XN=t
section
variable{h:Hs}{scale:Int}{G:DH}{d d':Dk}{i a b j e f t:Nat}{s0 s4 s11 s12:Option D}
def SF(g:GH h)(s1:1<=scale)(s2:scale<=10^30)(Ds:p? h G i a b j e f d d' t)(ht:t<=70)(hf:flB h scale fl)(cell)(x9 O):∃G' e1 e2 r y9 P,
  Vv [s0,u7 h.enc,zI scale,zI h.n,s4,zR i,zR j,zI cell,zF .Ax,x9,O,s11,s12] G=.nx [s0,u7 h.enc,zI scale,zI h.n,s4,zR i,zR j,zI r,zF .Ax,y9,P,s11,s12] G'/\p? h G' i a b j e f e1 e2 (t+1):=by
 have n1:=g.n1;have n6:=g.n6;let#[A,A',s,y,C,w,J,two,l,W]:=Ds;obtain⟨c,L⟩:∃c,c=cell+1+fl 0%1000:=#[_,rfl];have Y:=SE (cell:=c) g s1 hf;have I:(0:Int)<=10^31:=.c
 have x:∀k,k<h.n->0<=fl k/\fl k<=10^31:=λk hk=>by have:=hf k hk;lia
 have v:∀k,k<h.n->0<=ZU scale c fl k/\ZU scale c fl k<=10^31:=λk hk=>by have:=Y.2 k hk;lia
 have hB:64*(10^32*((t:Int)+1)+6*10^31)<10^40:=.a
 have u:10^32*(t+1)+6*10^31<=10^32*(((t+1):Int)+1):=.a
 let#[p1,p2,p3,U]:=r9 g A w x I hB .a;have A2:=A.turned .A8;have q:=A'.other (h':=h) (d':=d.turn h fl) #[Ne.symm s.1,Ne.symm y.1,Ne.symm C.1] #[Ne.symm s.2.1,Ne.symm y.2.1,Ne.symm C.2.1] #[Ne.symm s.2.2,Ne.symm y.2.2,Ne.symm C.2.2];let#[q1,q2,q3,q4]:=r9 g q J v I hB .a;let#[E,more]:=two.turned g w J Y.1;have p:∀{d:Dk}{B Z:Int},DW h d B->B<=Z->DW h d Z:=λw hb=>#[w.ok,w.sb,w.fl,w.tk,w.gn,w.cons,jU w.all hb,w.po]
 refine#[Ea .JY h j e f .Js,d.turn h fl,d'.turn h .BD,c,u7 (YQ h (h.cs d.st.1 d.st.2 d.at_ fl).WA),u7 (YQ h (h.cs d'.st.1 d'.st.2 d'.at_ .BD).WA),?_,#[A2.other (h':=h) (j:=j) (e:=e) (f:=f) (d':=d'.turn h .BD) s y C,q.turned .Js,s,y,C,p ((w.turned g x I)) u,p ((J.turned g v I)) u,E,#[by simp[Dk.turn,l.1],by simp[Dk.turn,l.2]],#[by simp[Dk.turn,W.1],by simp[Dk.turn,W.2]]]]
 have K:ZJ .Ax 0=zI (fl 0):=H8 (i:=0) .a;have cm:=λG=>RY (n:=h.n) (fl:=fl) (cell:=c) (scale:=scale) .a G
 have N:=λG=>Re g.g.len (Sq g.g) (Sq g.g) more G
 have z1:freeze G (.ok (YQ h (h.cs d.st.1 d.st.2 d.at_ fl).WA) .JY)=.ok (YQ h (h.cs d.st.1 d.st.2 d.at_ fl).WA) (Ea G h i a b .A8):=r8 Ys ra;have X:freeze .JY (.ok (YQ h (h.cs d'.st.1 d'.st.2 d'.at_ .BD).WA) (Ea .JY h j e f .Js))=.ok (YQ h (h.cs d'.st.1 d'.st.2 d'.at_ .BD).WA) (Ea .JY h j e f .Js):=r8 Ys ra
 obtain⟨Q,z⟩:∃Q,Q=YQ h (h.cs d.st.1 d.st.2 d.at_ fl).WA:=#[_,rfl];obtain⟨M,H⟩:∃M,M=YQ h (h.cs d'.st.1 d'.st.2 d'.at_ .BD).WA:=#[_,rfl];have i1:∀G,Fl Q .WB G=.ok .Ap G:=λG=>by rw[z];rfl
 have i2:∀G,Fl M .WB G=.ok .Ap G:=λG=>by rw[H];rfl
 simp[Vv,K,<-L,λS t=>Ih A.o (S:=S) (m:="say") (F:=Eb) (t:=t) (by rfl),λS t=>Ih q.o (S:=S) (m:="say") (F:=Eb) (t:=t) (by rfl),p1,p2,p3,U,z1,cm,Bd,q1,q2,q3,q4,X,i1,i2,N]
theorem rf(g:GH h)(s1:1<=scale)(s2:scale<=10^30):∀(fs:List (Nat->Int))t G d d' cell m l c,t+lN fs<=70->(∀f∈fs,flB h scale f)->p? h G i a b j e f d d' t->∃y r q t' F C u k,
  Ar (gV 8) Vv (fs.map λf=>.fl (tab h.n f)) [s0,u7 h.enc,zI scale,zI h.n,s4,zR i,zR j,zI cell,m,l,c,s11,s12] G=.nx [s0,u7 h.enc,zI scale,zI h.n,s4,zR i,zR j,F,C,u,k,s11,s12] y/\t'<=70/\p? h y i a b j e f r q t'
 |[],t,G,d,d',cell,m,l,c,s,_,p=>#[G,d,d',t,zI cell,m,l,c,by rw[qL,Cz],by simpa using s,p]
 |fl::fs,t,G,d,d',cell,m,l,c,s,x,p=>by simp at s;let#[E,r,q,c1,u,k,M,B]:=SF (s0:=s0) (s4:=s4) (s11:=s11) (s12:=s12) g s1 s2 p .a (x fl .d) cell l c;let#[J,L,N,t',K,A,z,v,H,w,I]:=rf g s1 s2 fs (t+1) E r q c1 (zF .Ax) u k .a (λf o=>x f (zZ _ o)) B;refine#[J,L,N,t',K,A,z,v,?_,w,I];simp[Cj,M,H]
end
def SG{cs:List Int}:Fg scale cs h.n m=((zV m).map (flF scale cs h.n)).map λf=>D.fl (tab h.n f):=by
 rw[qJ]
 rfl
def rg(g:GH h)(o:Lv h lv)(c:∀k,k<h.n->lv k<=M)(i:6*M<=10^32)(b:0<=M):DW h (Dk.begun (lv,zC) 0) (10^32*((0:Nat)+1)):=by
 have a:StOk h lv zC:=#[λk hk=>(o k hk).1,λk hk d=>by have:=o k hk;rw[d8 d]at this;lia,λ_ _ _ _=>zU _]
 have e:Bu h.n lv zC=Ad h.n lv:=by unfold Bu;rw[M8 (F:=λk=>YI (zC k)) λ_ _=>rfl];lia
 have hs:Ad h.n lv<=6*M:=by have:=Xg c;have f:=g.n6;have:h.n*M<=6*M:=qj .a b;lia
 refine#[a,(V1 a).1,zU _,zU _,zU _,?_,?_,λj hp=>by cases hp]
 .show Bu h.n lv zC+0=0+0+Bu h.n lv zC;lia
 show Bu h.n lv zC+0<=_;rw[e];lia
def rh{a t:Nat}{d:Dk}(g:GH h)(A:VS G h i a b d)(w:DW h d (10^32*(t+1)))(e:t<=70)(l:lN d.WT=t/\lN d.XN=t):Eb [.ref i,.str "books"] G=.ok (.str (Aa (Bo 32 (Gi h d)))) G/\Od [.str (Aa (Bo 32 (Gi h d))),.str " "] G=.ok .JG (G++[.lst ((Gi h d).map D.int)]):=by have c:=w.book .a;refine#[Q2 g A .a .a w.po c,pd c .d G]
def SH(hl:lN sc<=63):∃G,Np [.fl .AJ] []=.ok .Ab G:=by
 let#[h,c,g,n5,z,s2,hd]:=Rl sc [];let#[J,P]:=RJ (sc:=sc) g z;let#[o1,I,b1]:=RL g z J;have N:=RF (sc:=sc) (scale:=c) g.g.len [];let#[r,a,b,k1,B,ia,ib,X]:=rP g J [];have C:=RI (sc:=sc) (scale:=c) (lv:=XQ h sc c) g.g.len r;let#[s,e,f,k2,A2,ie,jf,v]:=rP g o1 r;have la:=G9 B.f;have lb:=G9 B.p;have E:=G9 B.o;let#[cs,m,hm,H]:=RV hl #[g.n1,.a];have Ds:p? h s 0 a b (lN r) e f _ _ 0:=#[B.old v E la lb,A2,#[.a,.a,.a],#[.a,.a,.a],#[.a,.a,.a],rg g J (λk _=>P k) .a .a,rg g o1 (M:=10*c) (λk hk=>by have:=P k;have:=b1 k hk;lia) .a .a,#[rfl,I,λ_ _ _ _=>zU _,zU _,zU _],#[rfl,rfl],#[rfl,rfl]]
 let#[K,d,i,t,y7,y8,y9,y10,Z,T,q]:=rf (s0:=zF .AJ) (s4:=u7 (B' h .Bz)) (s11:=u8) (s12:=u8) g z s2 ((zV m).map (flF c cs h.n)) 0 s _ _ .Fx u8 u8 u8 .e (λx hx=>by let#[k,_,rfl]:=zw.mp hx;exact λj _=>RM z) Ds
 rw[<-SG]at Z;let#[B1,U]:=rh g q.A q.w T q.l;let#[B2,Q]:=rh g q.A' q.w' T q.l';have w1:=q.w.cons;have w2:=q.w'.cons;have tk:=q.two.tk;have Y:=q.two.gn;have E:Bu h.n d.st.1 d.st.2<=Bu h.n i.st.1 i.st.2:=by
  have q1:=Ls q.two.lv;have q2:Ad h.n (λk=>YI (d.st.2 k))<=Ad h.n (λk=>YI (i.st.2 k)):=Ls λk hk=>by have h0:=q.two.co k 0 hk .a;have h1:=q.two.co k 1 hk .a;have h2:=q.two.co k 2 hk .a;have h3:=q.two.co k 3 hk .a;have h4:=q.two.co k 4 hk .a;unfold YI;lia
  unfold Bu;lia
 have W:∀G(l:List Int),freeze G (.ok .JG (G++[.lst .A0]))=.ok .Kv G:=λG l=>Bd Jz
 have f0:freeze [] (.ok (.ref 0) [.lst (tab h.n .Bz)])=.ok (B' h .Bz) []:=Bd I8;have f1:freeze r (.ok (.ref (lN r)) (r++[.lst (tab h.n .Jt)]))=.ok (B' h .Jt) r:=Bd I8;have f2:freeze s (.ok (.ref (lN s)) (s++[.lst .Ho]))=.ok (.fl .Ho) s:=Bd rV;have fd:freeze [] (.ok (.tup [h.enc,.int c]) [])=.ok (.tup [h.enc,.int c]) []:=Gk .d
 have hh:∀G,Cg h.enc .DW G=.ok .EC G:=λG=>Ci
 have el:lN h.Cd=h.n:=Hs.H7;have O:∀G,Fo [.fl .AJ,.int 3] G=.ok (.int .Fx) G:=λG=>Oh .c
 have eb:(Gi h d).map D.int=[.int .FE,.int (d.WT.map .Bf).sum,.int (d.XN.map .CA).sum,.int (d.XN.map .CB).sum,.int .FF]:=rfl;have L:(Gi h i).map D.int=[.int (Bu h.n i.sb.1 i.sb.2),.int (i.WT.map .Bf).sum,.int (i.XN.map .CA).sum,.int (i.XN.map .CB).sum,.int (Bu h.n i.st.1 i.st.2)]:=rfl;have y:=W K (Gi h d);have u:=W K (Gi h i);rw[eb]at y U
 rw[L]at u Q;have td:tidy [] (.ok .Ab K)=.ok .Ab []:=Hx rfl;refine#[[],?_];generalize Bu h.n d.sb.1 d.sb.2=u1,(d.WT.map .Bf).sum=u2,(d.XN.map .CA).sum=u3,(d.XN.map .CB).sum=u4,Bu h.n d.st.1 d.st.2=u5,Bu h.n i.sb.1 i.sb.2=v1,(i.WT.map .Bf).sum=v2,(i.XN.map .CA).sum=v3,(i.XN.map .CB).sum=v4,Bu h.n i.st.1 i.st.2=v5,Aa (Bo 32 (Gi h d))=T1,Aa (Bo 32 (Gi h i))=T2,Fg c cs h.n m=FL,B' h .Jt=L1,B' h .Bz=L0,tab h.n .Jt=X1,tab h.n .Bz=X0,cellAt sc 3=C3,h.Cd=PS,h.enc=HE,sc.map D.int=SC at*
 simp[Np,lx,lw,lu,lq,lm,lj,lh,lg,lc,l9,l8,l7,l6,Ag,hd,fd,hh,el,N,f0,k1,C,f1,k2,O,H,f2,Z,λS t=>Ih q.A.o (S:=S) (m:="say") (F:=Eb) (t:=t) (by rfl),λS t=>Ih q.A'.o (S:=S) (m:="say") (F:=Eb) (t:=t) (by rfl),B1,B2,U,Q,y,u,w1,w2,tk,Y,E,td]
def holds:Holds:=λb a=>SH a
end
end _W
namespace _W
open PySem PySem.W _L _D
def rj:∀w,(openEnds vk pw w 100000).map (λs=>(openSeen vw _W.lo (vV pw.main.body) (v? J' vw) u9 s,Ib asks s.heap))=u7 (openGood vw _W.lo,I7 asks):=F0 (by kernel_rfl) (λs=>rfl) sO
def walked:WalkO vw _W.lo (XL vw []) (k? J'.prog 100000) J'.row.toRowW (dOf Km) [] λf vs=>qi f vs:=
 walk (l:=J') (K:=λw=>Rp (Le pw 100000 w)) rfl hdf holds (λw h Y=>Y.in) λw mg fa h KX G hmg=>all_mk KX G (show mg "law"=_ from hmg) (gq (FJ rj w))
end _W
open PySem PySem.W PyProof.Rows _D
theorem PySem.Challenge.cw_sluiceway_k91_whole_more_water_holds : PySem.Challenge.rw_sluiceway_k91_whole_more_water.Holds := by
 refine holds_top (l:=_W.J') (q:=_W.vw) (loose:=_W.lo) (N:=100000) (see:=Ib _W.asks) (val:=I7 _W.asks) (d:=dOf _W.Km) ?_ ?_ ?_ ?_ ?_ ?_ ?_ ?_ ?_ ?_
 .exact _W.well
 .exact _W.rj
 .exact _W.hdef
 .exact _W.hp
 .exact _W.hk
 .rfl
 .exact _W.VF
 .exact _W.hbare
 .exact _W.hw
 .exact _W.walked
