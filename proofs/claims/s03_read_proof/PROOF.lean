import PyProof.Rows.All
import Wide.All
import OpenK.AllK
import Wide.FinOn
import PyProof.EqAt
import PyProof.EqKinds
import PyProof.TupleCall
import KE.BitLaws
import KE.OsHead
import KE.OsGo
import Open.SpecLaws
import GlaPage
import PySem.Challenge.RW_glasspages_s03_read
open List renaming length_map->xD,getElem?_eq_getElem->xF,length_append->xG,getElem?_map->xL,range->xP,length_cons->xQ,getElem_mem->xR,size_toArray->xS,mem_cons_of_mem->xT,replicate->xU,map_cons->xV,mem_of_getElem?->x6,length_drop->Gd,mem_cons_self->Gn,length_take->Go,map_append->Gs,getD_eq_getElem?_getD->Gv,flatten_cons->Gw,take_length->GC,not_mem_nil->GD,drop_eq_getElem_cons->GH,drop_eq_nil_of_le->GK,mem_append_right->GP,length_singleton->GQ,replicate_succ->GS,drop_succ_cons->GT,append_assoc->GV,mem_cons->GW,getElem?_append_left->GY,mem_singleton->G0,drop_zero->G6,drop_drop->G7,getElem?_eq_none->Ue,length_erase_of_mem->Uf,take_append_getElem->Ug,take_succ->Uh,getElem?_set_ne->Uo,mem_of_mem_take->Up,getElem?_set_self->Us,getElem?_append_right->Ut,append_nil->Ux,find?_cons->Uy,mem_of_mem_erase->UA,find?_eq_none->UB,any_eq_false->UI,foldl_cons->UJ,map_congr_left->UN,all_cons->UP,lookup_cons->US,any_eq_true->UT,contains_iff_mem->UW,pairwise_iff_getElem->UY,getElem_append_right->UZ,length_nil->U0,range_succ->U1,nodup_cons->U3,length_range->U6,getElem_of_mem->Ve,find?_eq_some_iff_getElem->Vf,map_nil->Vm,length_pos_of_mem->Vn,map_take->Vs,length_replicate->Vt,take_append_drop->Vu,lookup->Vv,map_map->VA,filterMap_cons->VE,any_cons->VH,getElem_append_left->VI,mem_filter->VL,zip_cons_cons->VN,filter_cons_of_pos->VP,any_map->VU,nodup_append->VW,getElem_take->VX,flatMap_cons->VY,take_eq_take_iff->V8,getElem_inj->V9,all_eq_true->Qaa,flatMap_def->Qab,map_drop->Qaf,sum_cons->Qag,mem_append_left->Qak,mem_zipIdx_iff_getElem?->Qam,flatMap_append->Qap,filter_append->Qau,length->Qay,getElem_drop->Qaz,getElem?_take_of_lt->Qa7,filter_cons->Qba,filter_cons_of_neg->Qbb,ext_getElem->Qbc,getElem_map->Qbd,nodup_range->Qbe,flatten_nil->Qbf,range_succ_eq_map->Qbi,getElem_cons_succ->Qbj,take_of_length_le->Qbk,of_mem_zip->Qbs,length_set->Qbt,drop_left'->Qbu,find?_nil->Qbz
open Nat renaming le_trans->xM,le_refl->xO,ne_of_lt->xY,lt_of_le_of_lt->xZ,lt_of_lt_of_le->x3,zero_le->x9,add_assoc->Gx,add_le_add->Gz,ne_of_gt->G9,lt_or_ge->Ul,lt_irrefl->Ur,lt_trichotomy->Uu,add_zero->UO,le_add_right->UU,add_comm->U7,lt_succ_of_lt->U8,zero_add->U9,lt_trans->VB,le_of_lt->VZ,le_of_succ_le->V0,min_le_right->Qac,min_eq_left->Qan,le_of_eq->Qar,add_sub_cancel->Qav,one_mul->Qa0,lt_succ_self->Qbg,succ_ne_self->Qbh,mul_succ->Qbl
open Int renaming mul_nonpos_of_nonneg_of_nonpos->Gr,mul_neg_of_pos_of_neg->Gy,mul_nonneg_of_nonpos_of_nonpos->GE,mul_neg_of_neg_of_pos->Ub,toNat_natCast->Uc,mul_nonneg->UF,mul_pos->UQ,mul_nonpos_of_nonpos_of_nonneg->UV,zero_mul->Va,mul_le_mul_of_nonneg_left->Vk,lt_or_gt_of_ne->Vo,mul_zero->VC,mul_assoc->VJ,mul_left_comm->V1,mul_le_mul_of_nonneg_right->Qad,neg_mul->Qal,mul_comm->Qas,le_of_mul_le_mul_left->Qax,sub_mul->Qa1,le_refl->Qa2,mul_sub->Qa3,le_total->Qbm,natCast_add->Qbv
open Bool renaming false_ne_true->xW,and_eq_true->Ga,eq_iff_iff->Gu,noConfusion->GJ,false_eq_true->UC,true_and->UD,or_eq_true->VM,false_and->V2,not_not->Qbn,false_or->Qb2,and_true->Qb3
open Option renaming map_none->Uz,getD_none->Vg,getD_some->Vh,map_eq_none_iff->V3,isSome_map->Qa4
open Array renaming getD_eq_getD_getElem?->Gc,getElem?_eq_getElem->GZ,length_toList->VF,setIfInBounds->VG,getElem?_eq_none->V4,getElem?_replicate->Qa8,contains_iff_mem->Qbo,toList->Qb8
open Gla renaming Bytes->xC,partsAt->xH,num->xI,dir->xK,turn->xN,oneOf->Gb,firstAt->Ge,within->Gf,noneSeen->Gg,readLines->Gh,ascii->Gi,agree->Gj,le->Gk,rowsOf_->Gm,edgePts->Gq,dx->GF,dy->GG,chained->GR,coatBytes->GX,crosses->G3,WORKSHOP->G5,lineBelow->Ui,shopParts->Uj,firstBad->Um,isOn->Uq,spread->Uv,behind->Uw,linePlace->UE,frameOk->UG,wordOf->UK,someNumbers->UL,judgePlan->UR,clear->U4,parts->U5,touches->Vb,ptPlace->Vc,markPlace->Vd,MAGIC->Vi,badCoat->Vl,sooner->Vp,seenFrom->Vq,half->Vr,between->Vw,Kind->Vx,isDigit->Vy,oneRow->Vz,onLines->VQ,FRONT->VR,numbers->VS,cuts->V5,Workshop->V6,twice->Qae,judgeShop->Qah,pageBytes->Qai,writeShop->Qa9,insideOf->Qbp,readPage->Qbq,sheetAt->Qb0,numLe->Qb1,fromLeast->Qb4,twiceArea->Qb5,kindAt->Qb6,bounds->Qb7,HEAD->Qb9
open PySem.W renaming Frag->xB,nsIn->x4,mg_none_of->GL,keepIn->GU,findIn->G1,KeysLit->G8,fnOf->Ua,emptyDict->Ud,mg_of->Uk,instObj->UM,codeIn->Vj,plainGet->VD,callWith_K->VO,hasDictIn->V7,kHook->Qaj,length_le_weightAllW->Qao,plainGet_of->Qaq,isFn->Qat,lookIn->Qaw,methodObj->Qa5,plainOver->Qa6,cellsFrom_some->Qbr,takerIn->Qbw,makesIn->Qbx,methodCall_KW->Qby
open PySem.F renaming plainAttrs_list->xX,slot_list_append->GA,type_list_append->GB,slot_list_extend->GM,type_list_extend->GO
open Classical renaming byContradiction->xJ,choose_spec->UX,propDecidable->VT
open PySem.Str renaming ofString->xE
open Or renaming inl->G4,inr->UH
set_option compiler.extract_closed false
set_option Elab.async false
set_option linter.all false
set_option maxRecDepth 100000
set_option maxHeartbeats 0
abbrev WA:=Nat×Nat
theorem L{p:Prop}(h:p:=by lia):p:=h
theorem Wa{p:Prop}(h:p:=by decide):p:=h
theorem Wb{p:Prop}(h:p:=by decide +kernel):p:=h
theorem We{p:Prop}(h:p:=by simp):p:=h
theorem Wg{p:Prop}(h:p:=by rfl):p:=h
abbrev Wh:=@if_neg
abbrev Wi:=@if_pos
abbrev Wj:=@of_decide_eq_true
abbrev Wk:=@decide_eq_true
abbrev Wl:=@decide_eq_false
abbrev Wm:=@absurd
abbrev Wn:=@congrArg
abbrev Wo:=@Option.some.inj
abbrev Wp:=@decide_eq_true_eq
abbrev Wq:=@if_true
abbrev Wr:=@if_false
abbrev Ws:=@or_false
abbrev Wt:=@PySem.Heap.get?_push_of_some
abbrev Wu:=@PySem.Heap.lt_size
abbrev Wv:=@PySem.Heap.get?_push_size
abbrev Ww:=@PySem.Heap.size_push
abbrev Wx:=@PySem.boot_len
abbrev Wy:=@PySem.mem_of_lookup
theorem Z{α:Sort _}{a:α}:a=a:=rfl
noncomputable section
namespace L2
open PySem PySem.Spec PyProof.Rows
def inClass(s:Stmt)(j:Nat):Stmt:=match s with
 |.ClassDef _ _ _ n _ _ _ _ _ _ _=>n.getD j (.Pass ⟨0,0,0,0⟩)
 |_=>.Pass ⟨0,0,0,0⟩
def bZ(s:Stmt):Arguments:=match s with
 |.FunctionDef _ a _ _ _ _ _ _ _ _=>a
 |_=>{ posonlyargs:=[],args:=[],vararg:=none,kwonlyargs:=[],kw_defaults:=[],kwarg:=none,defaults:=[] }
def bR(s:Stmt):List Stmt:=match s with
 |.FunctionDef _ _ b _ _ _ _ _ _ _=>b
 |_=>[]
def a6(s:Stmt):Scope:=match s with
 |.FunctionDef _ _ _ _ _ _ sc _ _ _=>sc
 |_=>{ kind:=.function,names:=[],isGenerator:=false,isCoroutine:=false }
end L2
namespace Gp
open PySem PySem.Spec PyProof.Rows
noncomputable def top(i:Nat):Stmt:=PySem.Challenge.pw_glasspages_s03_read.main.body.getD i (.Pass ⟨0,0,0,0⟩)
end Gp
namespace Hd
open PySem PySem.W PyProof.Rows Gp
open PySem.Challenge renaming pw_glasspages_s03_read->pw
open PySem.W.Fast renaming te14082659384304107361->t1,te14364793385576792824->t2,te4187177175401517315->t3
def q:Program:=PySem.W.view pw [115]
noncomputable def ls:List Str:=(["LARGEST","number_at","octets_of","joined","CARTOON_SIGN","HEAD_BYTES_drawing","POINT_BYTES","LINE_BYTES","MARK_BYTES","Drawing","pairs_at","row_places","drawing_of","turn","is_between","is_on","parts","crosses","comes_behind","wrong_point","line_comes_behind","wrong_line","lacks_corner","edge_rows","open_frame","holds_point","crosses_earlier","entangled_line","is_within_frame","is_on_some_line","wrong_mark","is_step_below","is_higher","step_under","side","is_further_left","step_after","outline","crowding_mark","unmarked_pane","NO_POINT","loose_point","reached","unreached_point","parting_point","HEAD_BOUNDS_cartoon","head_fault","head_fault_cartoon","drawing_fault","cartoon_fault","NUMBER_RUNS","FOLLOWERS","MOST_LINES","number_sizes","WORKSHOP_SIGN","HEAD_BYTES_workshop","SHEET_BYTES","KIND_BYTES","GLASS_BYTES","PAINTING_BYTES","BANDS_BYTES","MOST_COATS","HEAD_BOUNDS_workshop","SHEET_BOUNDS","KIND_BOUNDS","out_of_bounds","part_places","cartoon_within","wrong_sheet","wrong_kind","is_right_coat","wrong_coat","wrong_painting","head_fault_workshop","parts_fault","workshop_fault","LINE_END","BLANK","ZERO","NINE","Scan","agreeing_count","words_behind","word_octets","take_word","take_number","take_numbers","take_coats","take_line","scan_of","count_octets","row_octets","cartoon_told","paintings_told","workshop_told","MOST_PAGE_BYTES","TOO_LONG","BROKEN_RULE","NO_PAGE","TOLD_RULES","refusal","counted"]:List String).map xE
def Xt (s:Shared):Bool:=xlAt q [] s&&recOk [] s
def en(P:Params)(k:Str)(t:Nat)(v:Value):DictEntry:=⟨PyData.keyHash P k,.str k t,v⟩
def co(n q:Str)(t:Nat)(i j fl:Int)(k u:Nat):Obj:=⟨.type "code",none,.fields #[.str n t,.str q (t+1),.str "/claim/cut.py" (t+2),.int i 0,.int j 0,.int 0 0,.int 0 0,.int fl 0,.ref k,.bool true,.int 181 0,.ref (k+1),.none,.ref (k+2),.ref (k+3),.ref (k+4),.int u 0,.int i 0,.str "/claim/cut.py" (u+1)],#[]⟩
def c2(n q:Str)(t:Nat)(i j:Int)(a:Nat):Obj:=⟨.type "code",none,.fields #[.str n t,.str q (t+1),.str "/claim/cut.py" (t+2),.int i 0,.int j 0,.int 0 0,.int 0 0,.int 3 0,.ref (a-3),.bool true,.int 181 0,.ref (a-2),.none,.none,.none,.ref (a-1),.int (t+3:Nat) 0,.int i 0,.str "/claim/cut.py" (t+4)],#[]⟩
def c1(n:Str)(t:Nat)(i j:Int)(c u:Nat):Obj:=co n n t i j 3 (c-5) u
def fo (n q:Str) (s:Stmt) (m:Value) (c:Nat):Obj:=⟨.type "function",none,.func (Ua n q (L2.bZ s) (L2.bR s) (L2.a6 s) .none .none .none m none (.ref c) .none),#[]⟩
def f1 (n:Str) (s:Nat) (m:Value) (c:Nat):Obj:=fo n n (top s) m c
def m0:Value:=.str "glasspages.octets" 187
def m1:Value:=.str "glasspages.drawing" 232
def m2:Value:=.str "glasspages.geometry" 352
def m3:Value:=.str "glasspages.layout" 412
def m4:Value:=.str "glasspages.panes" 496
def m5:Value:=.str "glasspages.ways" 624
def m6:Value:=.str "glasspages.cartoon" 670
def m7:Value:=.str "glasspages.forms" 726
def m8:Value:=.str "glasspages.workshop" 884
def m9:Value:=.str "glasspages.reading" 1078
def vW:Value:=.str "glasspages.telling" 1235
def Bv:Value:=.str "glasspages.pages" 1277
def tu(x:Array Value):Obj:=⟨.type "tuple",none,.seq x 0,#[]⟩
def K (P:Params):Frag:=
(nat_lit 2,⟨.none,none,.dict #[] 0,#[]⟩)::
(nat_lit 3,⟨.type "dict",none,.dict #[en P "__name__" 165 (.str "glasspages.pages" 1277),en P "__doc__" 166 .none,en P "__package__" 167 .none,en P "__loader__" 168 (.builtin "__main__.__loader__#opaque"),en P "__spec__" 169 .none,en P "__annotations__" 170 (.ref 6),en P "__builtins__" 171 (.ref 4),en P "__file__" 173 (.str "/claim/cut.py" 172),en P "__cached__" 174 .none,en P "LARGEST" 201 (.ref 15),en P "number_at" 212 (.ref 22),en P "octets_of" 222 (.ref 29),en P "joined" 231 (.ref 36),en P "CARTOON_SIGN" 238 (.ref 37),en P "HEAD_BYTES_drawing" 240 (.int 20 239),en P "POINT_BYTES" 242 (.int 8 241),en P "LINE_BYTES" 244 (.int 4 243),en P "MARK_BYTES" 246 (.int 12 245),en P "Drawing" 320 (.ref 87),en P "pairs_at" 334 (.ref 98),en P "row_places" 343 (.ref 105),en P "drawing_of" 351 (.ref 112),en P "turn" 363 (.ref 119),en P "is_between" 372 (.ref 126),en P "is_on" 381 (.ref 133),en P "parts" 393 (.ref 140),en P "crosses" 403 (.ref 147),en P "comes_behind" 411 (.ref 154),en P "wrong_point" 422 (.ref 161),en P "line_comes_behind" 430 (.ref 168),en P "wrong_line" 439 (.ref 175),en P "lacks_corner" 445 (.ref 180),en P "edge_rows" 451 (.ref 185),en P "open_frame" 463 (.ref 192),en P "holds_point" 474 (.ref 199),en P "crosses_earlier" 486 (.ref 206),en P "entangled_line" 495 (.ref 213),en P "is_within_frame" 505 (.ref 220),en P "is_on_some_line" 514 (.ref 227),en P "wrong_mark" 523 (.ref 234),en P "is_step_below" 534 (.ref 241),en P "is_higher" 547 (.ref 248),en P "step_under" 559 (.ref 255),en P "side" 566 (.ref 262),en P "is_further_left" 580 (.ref 269),en P "step_after" 591 (.ref 276),en P "outline" 602 (.ref 283),en P "crowding_mark" 615 (.ref 290),en P "unmarked_pane" 623 (.ref 297),en P "NO_POINT" 628 (.int (-1) 627),en P "loose_point" 637 (.ref 304),en P "reached" 650 (.ref 311),en P "unreached_point" 659 (.ref 318),en P "parting_point" 669 (.ref 325),en P "HEAD_BOUNDS_cartoon" 696 (.ref 332),en P "head_fault" 705 (.ref 498),en P "head_fault_cartoon" 706 (.ref 339),en P "drawing_fault" 717 (.ref 346),en P "cartoon_fault" 725 (.ref 353),en P "NUMBER_RUNS" 790 (.ref 354),en P "FOLLOWERS" 864 (.ref 386),en P "MOST_LINES" 874 (.ref 404),en P "number_sizes" 883 (.ref 411),en P "WORKSHOP_SIGN" 890 (.ref 412),en P "HEAD_BYTES_workshop" 892 (.int 80 891),en P "SHEET_BYTES" 894 (.int 16 893),en P "KIND_BYTES" 896 (.int 8 895),en P "GLASS_BYTES" 898 (.int 64 897),en P "PAINTING_BYTES" 900 (.int 69 899),en P "BANDS_BYTES" 902 (.int 64 901),en P "MOST_COATS" 904 (.int 4 903),en P "HEAD_BOUNDS_workshop" 953 (.ref 429),en P "SHEET_BOUNDS" 966 (.ref 434),en P "KIND_BOUNDS" 973 (.ref 437),en P "out_of_bounds" 984 (.ref 444),en P "part_places" 996 (.ref 451),en P "cartoon_within" 1003 (.ref 458),en P "wrong_sheet" 1012 (.ref 465),en P "wrong_kind" 1021 (.ref 472),en P "is_right_coat" 1032 (.ref 479),en P "wrong_coat" 1042 (.ref 486),en P "wrong_painting" 1048 (.ref 491),en P "head_fault_workshop" 1057 (.ref 498),en P "parts_fault" 1069 (.ref 505),en P "workshop_fault" 1077 (.ref 512),en P "LINE_END" 1081 (.int 10 1080),en P "BLANK" 1083 (.int 32 1082),en P "ZERO" 1085 (.int 48 1084),en P "NINE" 1087 (.int 57 1086),en P "Scan" 1142 (.ref 550),en P "agreeing_count" 1151 (.ref 561),en P "words_behind" 1161 (.ref 568),en P "word_octets" 1167 (.ref 573),en P "take_word" 1179 (.ref 580),en P "take_number" 1190 (.ref 587),en P "take_numbers" 1202 (.ref 594),en P "take_coats" 1214 (.ref 601),en P "take_line" 1225 (.ref 608),en P "scan_of" 1234 (.ref 615),en P "count_octets" 1242 (.ref 620),en P "row_octets" 1248 (.ref 625),en P "cartoon_told" 1257 (.ref 632),en P "paintings_told" 1267 (.ref 639),en P "workshop_told" 1276 (.ref 646),en P "MOST_PAGE_BYTES" 1280 (.int 4194304 1279),en P "TOO_LONG" 1283 (.int (-6) 1282),en P "BROKEN_RULE" 1286 (.int (-5) 1285),en P "NO_PAGE" 1288 (.int 1 1287),en P "TOLD_RULES" 1290 (.int 16 1289),en P "refusal" 1298 (.ref 653),en P "counted" 1305 (.ref 660),en P "read" 1315 (.ref 667)] 112,#[]⟩)::
(nat_lit 15,⟨.type "dict",none,.dict #[⟨1,.int 1 189,.int 255 190⟩,⟨2,.int 2 191,.int 65535 192⟩,⟨4,.int 4 193,.int 4294967295 194⟩,⟨8,.int 8 195,.int 18446744073709551615 196⟩] 4,#[]⟩)::
(nat_lit 21,c1 "number_at" 202 3 3 21 210)::
(nat_lit 22,f1 "number_at" 2 m0 21)::
(nat_lit 28,c1 "octets_of" 213 8 2 28 220)::
(nat_lit 29,f1 "octets_of" 3 m0 28)::
(nat_lit 35,c1 "joined" 223 15 1 35 229)::
(nat_lit 36,f1 "joined" 4 m0 35)::
(nat_lit 37,tu #[.int 71 234,.int 76 235,.int 65 236,.int 49 237])::
(nat_lit 50,co "__init__" "Drawing.__init__" 259 28 6 3 45 268)::
(nat_lit 51,fo "__init__" "Drawing.__init__" (L2.inClass (top 11) 0) m1 50)::
(nat_lit 57,co "point_place" "Drawing.point_place" 271 35 2 3 52 276)::
(nat_lit 58,fo "point_place" "Drawing.point_place" (L2.inClass (top 11) 1) m1 57)::
(nat_lit 64,co "line_place" "Drawing.line_place" 279 38 2 3 59 284)::
(nat_lit 65,fo "line_place" "Drawing.line_place" (L2.inClass (top 11) 2) m1 64)::
(nat_lit 71,co "mark_place" "Drawing.mark_place" 287 41 2 3 66 292)::
(nat_lit 72,fo "mark_place" "Drawing.mark_place" (L2.inClass (top 11) 3) m1 71)::
(nat_lit 78,co "byte_count" "Drawing.byte_count" 295 44 1 3 73 299)::
(nat_lit 79,fo "byte_count" "Drawing.byte_count" (L2.inClass (top 11) 4) m1 78)::
(nat_lit 83,c2 "neighbours" "Drawing.neighbours" 302 47 1 83)::
(nat_lit 84,fo "neighbours" "Drawing.neighbours" (L2.inClass (top 11) 5) m1 83)::
(nat_lit 85,tu #[.str "height" 308,.str "lines" 309,.str "marks" 310,.str "points" 311,.str "width" 312])::
(nat_lit 86,⟨.type "dict",none,.dict #[en P "__module__" 254 (.str "glasspages.drawing" 232),en P "__firstlineno__" 258 (.int 26 257),en P "__init__" 270 (.ref 51),en P "point_place" 278 (.ref 58),en P "line_place" 286 (.ref 65),en P "mark_place" 294 (.ref 72),en P "byte_count" 301 (.ref 79),en P "neighbours" 307 (.ref 84),en P "__static_attributes__" 313 (.ref 85),en P "__dict__" 315 (.ref 88),en P "__weakref__" 317 (.ref 89),en P "__doc__" 318 .none] 4,#[]⟩)::
(nat_lit 87,⟨.type "type",none,.cls { name := "Drawing",bases:=[(.type "object")],mro:=[(.ref 87),(.type "object")],ns:=86,qualname := "Drawing" },#[none,none,(some (.str "Drawing" 247)),(some (.str "Drawing" 255)),(some (.builtin "object.__new__")),(some (.bool true))]⟩)::
(nat_lit 88,⟨.type "getset_descriptor",none,.fields #[.str "__dict__" 314,.ref 87,.builtin "function.__dict__",.builtin "function.__dict__#set"],#[]⟩)::
(nat_lit 89,⟨.type "getset_descriptor",none,.fields #[.str "__weakref__" 316,.ref 87,.builtin "ExceptionGroup.__weakref__",.none],#[]⟩)::
(nat_lit 97,c1 "pairs_at" 321 53 5 97 332)::
(nat_lit 98,f1 "pairs_at" 12 m1 97)::
(nat_lit 104,c1 "row_places" 335 59 1 104 341)::
(nat_lit 105,f1 "row_places" 13 m1 104)::
(nat_lit 111,c1 "drawing_of" 344 63 1 111 349)::
(nat_lit 112,f1 "drawing_of" 14 m1 111)::
(nat_lit 118,c1 "turn" 354 67 3 118 361)::
(nat_lit 119,f1 "turn" 16 m2 118)::
(nat_lit 125,c1 "is_between" 364 70 3 125 370)::
(nat_lit 126,f1 "is_between" 17 m2 125)::
(nat_lit 132,c1 "is_on" 373 74 3 132 379)::
(nat_lit 133,f1 "is_on" 18 m2 132)::
(nat_lit 139,c1 "parts" 382 78 4 139 391)::
(nat_lit 140,f1 "parts" 19 m2 139)::
(nat_lit 146,c1 "crosses" 394 84 4 146 401)::
(nat_lit 147,f1 "crosses" 20 m2 146)::
(nat_lit 153,c1 "comes_behind" 404 86 2 153 409)::
(nat_lit 154,f1 "comes_behind" 21 m2 153)::
(nat_lit 160,c1 "wrong_point" 414 91 1 160 420)::
(nat_lit 161,f1 "wrong_point" 23 m3 160)::
(nat_lit 167,c1 "line_comes_behind" 423 98 2 167 428)::
(nat_lit 168,f1 "line_comes_behind" 24 m3 167)::
(nat_lit 174,c1 "wrong_line" 431 102 1 174 437)::
(nat_lit 175,f1 "wrong_line" 25 m3 174)::
(nat_lit 179,c2 "lacks_corner" "lacks_corner" 440 109 1 179)::
(nat_lit 180,f1 "lacks_corner" 26 m3 179)::
(nat_lit 184,c2 "edge_rows" "edge_rows" 446 112 1 184)::
(nat_lit 185,f1 "edge_rows" 27 m3 184)::
(nat_lit 191,c1 "open_frame" 452 115 1 191 461)::
(nat_lit 192,f1 "open_frame" 28 m3 191)::
(nat_lit 198,c1 "holds_point" 464 126 2 198 472)::
(nat_lit 199,f1 "holds_point" 29 m3 198)::
(nat_lit 205,c1 "crosses_earlier" 475 133 2 205 484)::
(nat_lit 206,f1 "crosses_earlier" 30 m3 205)::
(nat_lit 212,c1 "entangled_line" 487 141 1 212 493)::
(nat_lit 213,f1 "entangled_line" 31 m3 212)::
(nat_lit 219,c1 "is_within_frame" 498 147 2 219 503)::
(nat_lit 220,f1 "is_within_frame" 33 m4 219)::
(nat_lit 226,c1 "is_on_some_line" 506 151 2 226 512)::
(nat_lit 227,f1 "is_on_some_line" 34 m4 226)::
(nat_lit 233,c1 "wrong_mark" 515 156 1 233 521)::
(nat_lit 234,f1 "wrong_mark" 35 m4 233)::
(nat_lit 240,c1 "is_step_below" 524 163 3 240 532)::
(nat_lit 241,f1 "is_step_below" 36 m4 240)::
(nat_lit 247,c1 "is_higher" 535 167 3 247 545)::
(nat_lit 248,f1 "is_higher" 37 m4 247)::
(nat_lit 254,c1 "step_under" 548 177 2 254 557)::
(nat_lit 255,f1 "step_under" 38 m4 254)::
(nat_lit 261,c1 "side" 560 185 1 261 564)::
(nat_lit 262,f1 "side" 39 m4 261)::
(nat_lit 268,c1 "is_further_left" 567 189 4 268 578)::
(nat_lit 269,f1 "is_further_left" 40 m4 268)::
(nat_lit 275,c1 "step_after" 581 197 3 275 589)::
(nat_lit 276,f1 "step_after" 41 m4 275)::
(nat_lit 282,c1 "outline" 592 203 3 282 600)::
(nat_lit 283,f1 "outline" 42 m4 282)::
(nat_lit 289,c1 "crowding_mark" 603 210 1 289 613)::
(nat_lit 290,f1 "crowding_mark" 43 m4 289)::
(nat_lit 296,c1 "unmarked_pane" 616 220 1 296 621)::
(nat_lit 297,f1 "unmarked_pane" 44 m4 296)::
(nat_lit 303,c1 "loose_point" 629 227 1 303 635)::
(nat_lit 304,f1 "loose_point" 47 m5 303)::
(nat_lit 310,c1 "reached" 638 232 3 310 648)::
(nat_lit 311,f1 "reached" 48 m5 310)::
(nat_lit 317,c1 "unreached_point" 651 242 1 317 657)::
(nat_lit 318,f1 "unreached_point" 49 m5 317)::
(nat_lit 324,c1 "parting_point" 660 248 1 324 667)::
(nat_lit 325,f1 "parting_point" 50 m5 324)::
(nat_lit 326,tu #[.int 4 672,.int 4 673,.int 16 674,.int 1048575 675])::
(nat_lit 327,tu #[.int 8 676,.int 4 677,.int 16 678,.int 1048575 679])::
(nat_lit 328,tu #[.int 12 680,.int 2 681,.int 4 682,.int 4096 683])::
(nat_lit 329,tu #[.int 14 684,.int 2 685,.int 4 686,.int 8192 687])::
(nat_lit 330,tu #[.int 16 688,.int 2 689,.int 1 690,.int 2048 691])::
(nat_lit 331,tu #[.int 18 692,.int 2 693,.int 0 694,.int 0 695])::
(nat_lit 332,tu #[.ref 326,.ref 327,.ref 328,.ref 329,.ref 330,.ref 331])::
(nat_lit 338,c1 "head_fault" 697 257 1 338 703)::
(nat_lit 339,f1 "head_fault" 53 m6 338)::
(nat_lit 345,c1 "drawing_fault" 707 270 1 345 715)::
(nat_lit 346,f1 "drawing_fault" 55 m6 345)::
(nat_lit 352,c1 "cartoon_fault" 718 277 1 352 723)::
(nat_lit 353,f1 "cartoon_fault" 56 m6 352)::
(nat_lit 354,⟨.type "dict",none,.dict #[en P "workshop" 728 (.ref 355),en P "window" 730 (.ref 357),en P "point" 734 (.ref 359),en P "line" 738 (.ref 361),en P "pane" 742 (.ref 364),en P "cut" 748 (.ref 366),en P "lead" 752 (.ref 368),en P "margin" 756 (.ref 370),en P "ways" 760 (.ref 372),en P "shelf" 764 (.ref 374),en P "sheet" 768 (.ref 376),en P "kind" 772 (.ref 378),en P "glass" 776 (.ref 380),en P "paint" 780 (.ref 382),en P "coats" 784 (.ref 384),en P "end" 788 (.ref 385)] 16,#[]⟩)::
(nat_lit 355,tu #[])::
(nat_lit 356,tu #[.int 2 731,.int 4 732])::
(nat_lit 357,tu #[.ref 356])::
(nat_lit 358,tu #[.int 2 735,.int 4 736])::
(nat_lit 359,tu #[.ref 358])::
(nat_lit 360,tu #[.int 2 739,.int 2 740])::
(nat_lit 361,tu #[.ref 360])::
(nat_lit 362,tu #[.int 2 743,.int 4 744])::
(nat_lit 363,tu #[.int 2 745,.int 2 746])::
(nat_lit 364,tu #[.ref 362,.ref 363])::
(nat_lit 365,tu #[.int 5 749,.int 4 750])::
(nat_lit 366,tu #[.ref 365])::
(nat_lit 367,tu #[.int 5 753,.int 4 754])::
(nat_lit 368,tu #[.ref 367])::
(nat_lit 369,tu #[.int 1 757,.int 4 758])::
(nat_lit 370,tu #[.ref 369])::
(nat_lit 371,tu #[.int 1 761,.int 4 762])::
(nat_lit 372,tu #[.ref 371])::
(nat_lit 373,tu #[.int 1 765,.int 8 766])::
(nat_lit 374,tu #[.ref 373])::
(nat_lit 375,tu #[.int 4 769,.int 4 770])::
(nat_lit 376,tu #[.ref 375])::
(nat_lit 377,tu #[.int 2 773,.int 4 774])::
(nat_lit 378,tu #[.ref 377])::
(nat_lit 379,tu #[.int 32 777,.int 2 778])::
(nat_lit 380,tu #[.ref 379])::
(nat_lit 381,tu #[.int 32 781,.int 2 782])::
(nat_lit 382,tu #[.ref 381])::
(nat_lit 383,tu #[.int 4 785,.int 1 786])::
(nat_lit 384,tu #[.ref 383])::
(nat_lit 385,tu #[])::
(nat_lit 386,⟨.type "dict",none,.dict #[en P "" 791 (.ref 387),en P "workshop" 794 (.ref 388),en P "window" 797 (.ref 389),en P "point" 803 (.ref 390),en P "line" 809 (.ref 391),en P "pane" 814 (.ref 392),en P "cut" 818 (.ref 393),en P "lead" 821 (.ref 394),en P "margin" 824 (.ref 395),en P "ways" 827 (.ref 396),en P "shelf" 830 (.ref 397),en P "sheet" 837 (.ref 398),en P "kind" 844 (.ref 399),en P "glass" 850 (.ref 400),en P "paint" 855 (.ref 401),en P "coats" 858 (.ref 402),en P "end" 862 (.ref 403)] 17,#[]⟩)::
(nat_lit 387,tu #[.str "workshop" 792])::
(nat_lit 388,tu #[.str "window" 795])::
(nat_lit 389,tu #[.str "point" 798,.str "line" 799,.str "pane" 800,.str "cut" 801])::
(nat_lit 390,tu #[.str "point" 804,.str "line" 805,.str "pane" 806,.str "cut" 807])::
(nat_lit 391,tu #[.str "line" 810,.str "pane" 811,.str "cut" 812])::
(nat_lit 392,tu #[.str "pane" 815,.str "cut" 816])::
(nat_lit 393,tu #[.str "lead" 819])::
(nat_lit 394,tu #[.str "margin" 822])::
(nat_lit 395,tu #[.str "ways" 825])::
(nat_lit 396,tu #[.str "shelf" 828])::
(nat_lit 397,tu #[.str "sheet" 831,.str "kind" 832,.str "glass" 833,.str "paint" 834,.str "end" 835])::
(nat_lit 398,tu #[.str "sheet" 838,.str "kind" 839,.str "glass" 840,.str "paint" 841,.str "end" 842])::
(nat_lit 399,tu #[.str "kind" 845,.str "glass" 846,.str "paint" 847,.str "end" 848])::
(nat_lit 400,tu #[.str "glass" 851,.str "paint" 852,.str "end" 853])::
(nat_lit 401,tu #[.str "coats" 856])::
(nat_lit 402,tu #[.str "paint" 859,.str "end" 860])::
(nat_lit 403,tu #[])::
(nat_lit 404,⟨.type "dict",none,.dict #[en P "point" 865 (.int 65535 866),en P "line" 867 (.int 65535 868),en P "pane" 869 (.int 65535 870)] 3,#[]⟩)::
(nat_lit 410,c1 "number_sizes" 875 286 1 410 881)::
(nat_lit 411,f1 "number_sizes" 61 m7 410)::
(nat_lit 412,tu #[.int 71 886,.int 76 887,.int 65 888,.int 87 889])::
(nat_lit 413,tu #[.int 8 905,.int 0 906,.int 1000 907])::
(nat_lit 414,tu #[.int 12 908,.int 1 909,.int 1000 910])::
(nat_lit 415,tu #[.int 16 911,.int 0 912,.int 1000 913])::
(nat_lit 416,tu #[.int 20 914,.int 1 915,.int 1000 916])::
(nat_lit 417,tu #[.int 24 917,.int 0 918,.int 65535 919])::
(nat_lit 418,tu #[.int 28 920,.int 0 921,.int 1000 922])::
(nat_lit 419,tu #[.int 32 923,.int 1 924,.int 1000 925])::
(nat_lit 420,tu #[.int 36 926,.int 1 927,.int 16777215 928])::
(nat_lit 421,tu #[.int 40 929,.int 0 930,.int 65535 931])::
(nat_lit 422,tu #[.int 44 932,.int 0 933,.int 65535 934])::
(nat_lit 423,tu #[.int 48 935,.int 0 936,.int 65535 937])::
(nat_lit 424,tu #[.int 52 938,.int 1 939,.int 255 940])::
(nat_lit 425,tu #[.int 56 941,.int 0 942,.int 1024 943])::
(nat_lit 426,tu #[.int 60 944,.int 0 945,.int 16 946])::
(nat_lit 427,tu #[.int 64 947,.int 0 948,.int 256 949])::
(nat_lit 428,tu #[.int 68 950,.int 0 951,.int 256 952])::
(nat_lit 429,tu #[.ref 413,.ref 414,.ref 415,.ref 416,.ref 417,.ref 418,.ref 419,.ref 420,.ref 421,.ref 422,.ref 423,.ref 424,.ref 425,.ref 426,.ref 427,.ref 428])::
(nat_lit 430,tu #[.int 0 954,.int 0 955,.int 65535 956])::
(nat_lit 431,tu #[.int 4 957,.int 1 958,.int 16777215 959])::
(nat_lit 432,tu #[.int 8 960,.int 1 961,.int 16777215 962])::
(nat_lit 433,tu #[.int 12 963,.int 0 964,.int 1 965])::
(nat_lit 434,tu #[.ref 430,.ref 431,.ref 432,.ref 433])::
(nat_lit 435,tu #[.int 0 967,.int 1 968,.int 1400 969])::
(nat_lit 436,tu #[.int 4 970,.int 0 971,.int 9999 972])::
(nat_lit 437,tu #[.ref 435,.ref 436])::
(nat_lit 443,c1 "out_of_bounds" 974 303 3 443 982)::
(nat_lit 444,f1 "out_of_bounds" 74 m8 443)::
(nat_lit 450,c1 "part_places" 985 309 1 450 994)::
(nat_lit 451,f1 "part_places" 75 m8 450)::
(nat_lit 457,c1 "cartoon_within" 997 316 1 457 1001)::
(nat_lit 458,f1 "cartoon_within" 76 m8 457)::
(nat_lit 464,c1 "wrong_sheet" 1004 318 2 464 1010)::
(nat_lit 465,f1 "wrong_sheet" 77 m8 464)::
(nat_lit 471,c1 "wrong_kind" 1013 323 2 471 1019)::
(nat_lit 472,f1 "wrong_kind" 78 m8 471)::
(nat_lit 478,c1 "is_right_coat" 1022 328 4 478 1030)::
(nat_lit 479,f1 "is_right_coat" 79 m8 478)::
(nat_lit 485,c1 "wrong_coat" 1033 335 3 485 1040)::
(nat_lit 486,f1 "wrong_coat" 80 m8 485)::
(nat_lit 490,c2 "wrong_painting" "wrong_painting" 1043 342 2 490)::
(nat_lit 491,f1 "wrong_painting" 81 m8 490)::
(nat_lit 497,c1 "head_fault" 1049 349 1 497 1054)::
(nat_lit 498,f1 "head_fault" 82 m8 497)::
(nat_lit 504,c1 "parts_fault" 1058 361 2 504 1067)::
(nat_lit 505,f1 "parts_fault" 84 m8 504)::
(nat_lit 511,c1 "workshop_fault" 1070 370 1 511 1075)::
(nat_lit 512,f1 "workshop_fault" 85 m8 511)::
(nat_lit 525,co "__init__" "Scan.__init__" 1100 382 2 3 520 1106)::
(nat_lit 526,fo "__init__" "Scan.__init__" (L2.inClass (top 91) 0) m9 525)::
(nat_lit 532,co "octet_ahead" "Scan.octet_ahead" 1109 389 2 3 527 1114)::
(nat_lit 533,fo "octet_ahead" "Scan.octet_ahead" (L2.inClass (top 91) 1) m9 532)::
(nat_lit 539,co "takes" "Scan.takes" 1117 394 2 3 534 1122)::
(nat_lit 540,fo "takes" "Scan.takes" (L2.inClass (top 91) 2) m9 539)::
(nat_lit 546,co "is_page" "Scan.is_page" 1125 400 1 3 541 1129)::
(nat_lit 547,fo "is_page" "Scan.is_page" (L2.inClass (top 91) 3) m9 546)::
(nat_lit 548,tu #[.str "place" 1132,.str "rows" 1133,.str "text" 1134])::
(nat_lit 549,⟨.type "dict",none,.dict #[en P "__module__" 1095 (.str "glasspages.reading" 1078),en P "__firstlineno__" 1099 (.int 380 1098),en P "__init__" 1108 (.ref 526),en P "octet_ahead" 1116 (.ref 533),en P "takes" 1124 (.ref 540),en P "is_page" 1131 (.ref 547),en P "__static_attributes__" 1135 (.ref 548),en P "__dict__" 1137 (.ref 551),en P "__weakref__" 1139 (.ref 552),en P "__doc__" 1140 .none] 4,#[]⟩)::
(nat_lit 550,⟨.type "type",none,.cls { name := "Scan",bases:=[(.type "object")],mro:=[(.ref 550),(.type "object")],ns:=549,qualname := "Scan" },#[none,none,(some (.str "Scan" 1088)),(some (.str "Scan" 1096)),(some (.builtin "object.__new__")),(some (.bool true))]⟩)::
(nat_lit 551,⟨.type "getset_descriptor",none,.fields #[.str "__dict__" 1136,.ref 550,.builtin "function.__dict__",.builtin "function.__dict__#set"],#[]⟩)::
(nat_lit 552,⟨.type "getset_descriptor",none,.fields #[.str "__weakref__" 1138,.ref 550,.builtin "ExceptionGroup.__weakref__",.none],#[]⟩)::
(nat_lit 560,c1 "agreeing_count" 1143 402 2 560 1149)::
(nat_lit 561,f1 "agreeing_count" 92 m9 560)::
(nat_lit 567,c1 "words_behind" 1152 407 2 567 1159)::
(nat_lit 568,f1 "words_behind" 93 m9 567)::
(nat_lit 572,c2 "word_octets" "word_octets" 1162 413 1 572)::
(nat_lit 573,f1 "word_octets" 94 m9 572)::
(nat_lit 579,c1 "take_word" 1168 416 2 579 1177)::
(nat_lit 580,f1 "take_word" 95 m9 579)::
(nat_lit 586,c1 "take_number" 1180 427 2 586 1188)::
(nat_lit 587,f1 "take_number" 96 m9 586)::
(nat_lit 593,c1 "take_numbers" 1191 438 2 593 1200)::
(nat_lit 594,f1 "take_numbers" 97 m9 593)::
(nat_lit 600,c1 "take_coats" 1203 446 2 600 1212)::
(nat_lit 601,f1 "take_coats" 98 m9 600)::
(nat_lit 607,c1 "take_line" 1215 458 2 607 1223)::
(nat_lit 608,f1 "take_line" 99 m9 607)::
(nat_lit 614,c1 "scan_of" 1226 468 1 614 1232)::
(nat_lit 615,f1 "scan_of" 100 m9 614)::
(nat_lit 619,c2 "count_octets" "count_octets" 1237 475 3 619)::
(nat_lit 620,f1 "count_octets" 102 vW 619)::
(nat_lit 624,c2 "row_octets" "row_octets" 1243 477 2 624)::
(nat_lit 625,f1 "row_octets" 103 vW 624)::
(nat_lit 631,c1 "cartoon_told" 1249 479 1 631 1255)::
(nat_lit 632,f1 "cartoon_told" 104 vW 631)::
(nat_lit 638,c1 "paintings_told" 1258 483 1 638 1265)::
(nat_lit 639,f1 "paintings_told" 105 vW 638)::
(nat_lit 645,c1 "workshop_told" 1268 489 1 645 1274)::
(nat_lit 646,f1 "workshop_told" 106 vW 645)::
(nat_lit 652,c1 "refusal" 1291 502 2 652 1296)::
(nat_lit 653,f1 "refusal" 113 Bv 652)::
(nat_lit 659,c1 "counted" 1299 504 1 659 1303)::
(nat_lit 660,f1 "counted" 114 Bv 659)::
(nat_lit 666,c1 "read" 1306 506 1 666 1313)::
(nat_lit 667,f1 "read" 115 Bv 666)::
[]
noncomputable def as:List Addr:=[2,3,15,21,22,28,29,35,36,37,50,51,57,58,64,65,71,72,78,79,83,84,85,86,87,88,89,97,98,104,105,111,112,118,119,125,126,132,133,139,140,146,147,153,154,160,161,167,168,174,175,179,180,184,185,191,192,198,199,205,206,212,213,219,220,226,227,233,234,240,241,247,248,254,255,261,262,268,269,275,276,282,283,289,290,296,297,303,304,310,311,317,318,324,325,326,327,328,329,330,331,332,338,339,345,346,352,353,354,355,356,357,358,359,360,361,362,363,364,365,366,367,368,369,370,371,372,373,374,375,376,377,378,379,380,381,382,383,384,385,386,387,388,389,390,391,392,393,394,395,396,397,398,399,400,401,402,403,404,410,411,412,413,414,415,416,417,418,419,420,421,422,423,424,425,426,427,428,429,430,431,432,433,434,435,436,437,443,444,450,451,457,458,464,465,471,472,478,479,485,486,490,491,497,498,504,505,511,512,525,526,532,533,539,540,546,547,548,549,550,551,552,560,561,567,568,572,573,579,580,586,587,593,594,600,601,607,608,614,615,619,620,624,625,631,632,638,639,645,646,652,653,659,660,666,667]
theorem ae:∀P,as=(K P).map (·.1):=fun _=>by kernel_rfl
abbrev hk:Hook:=kHook K as ae
theorem we{p q:Program}{loose:List Str}{Xt:Shared->Bool}{α:Type}{Yf:Shared->α}{Ya:World->α}{N:Nat}{H:Params->Heap}{j:Array GenState}{d:Drawn}{k:Nat}
  (o:∀w:World,(fencedOpening treeTable p w N).map (fun s=>(s.heap,s.gens,s.drawn,s.toks))=some (H w.params,j,d,k))
  (h:∀(w:World)(os:OsState),(topFrom treeTable p w N ⟨H w.params,j,d,k,os⟩).map (fun s=>(openSeen q loose (importedModules p.main.body) Xt true s,Yf s))=some (openGood q loose,Ya w)):LeftO p q loose Xt Yf Ya N:=by
 intro w;obtain⟨⟨a,b,c,e,os⟩,z,n⟩:=Option.map_eq_some_iff.mp (o w);simp only[Prod.mk.injEq]at n;obtain⟨rfl,rfl,rfl,rfl⟩:=n;unfold openEnds;rw[z];exact h w os
theorem op:∀w:World,(fencedOpening treeTable pw w 8502).map (fun s=>(s.heap,s.gens,s.drawn,s.toks))=some (boot_heap w.params,Array.mk [],boot_drawn,boot_toks):=
 boot_open (by kernel_rfl) Wa (fun s=>by kernel_rfl)
variable (w:World) (os:OsState)
abbrev x0:Shared:=⟨boot_heap w.params,Array.mk [],boot_drawn,boot_toks,os⟩
abbrev sn:=openSeen q ls (importedModules pw.main.body) Xt true
abbrev wf(b:Bool):World:=w.withFollow "special-get-raises" b
def Ha(x:Shared):Prop:=(topFrom treeTable pw w 8502 x).map sn=some (openGood q ls)
def Hb(x:Shared):Prop:=(topRun treeTable pw w x.heap.objs.size (x.heap.nsMap mainGlobals "__annotations__") 8502 x (topStub pw)).map (Hook.obs hk)=some (Hook.val hk w)
theorem Ls:Ha (wf w false) (x0 (wf w false) os):=by
 unfold Ha sn topFrom;rw[t1,t2,t3]
 kernel_rfl
theorem Cz:Ha (wf w true) (x0 (wf w true) os):=by
 unfold Ha sn topFrom;rw[t1,t2,t3]
 kernel_rfl
theorem Lz:Hb (wf w false) (x0 (wf w false) os):=by
 unfold Hb;rw[t1,t2]
 kernel_rfl
theorem uY:Hb (wf w true) (x0 (wf w true) os):=by
 unfold Hb;rw[t1,t2]
 kernel_rfl
def Hr(x:Shared):Prop:=(topFrom treeTable pw w 8502 x).map (fun s=>(sn s,Hook.obs hk s))=some (openGood q ls,Hook.val hk w)
theorem hr{w x}(b:Ha w x)(d:Hb w x):Hr w x:=by
 unfold Ha at b;unfold Hb at d;unfold Hr;cases e:topFrom treeTable pw w 8502 x with
 |none=>rw[e]at b;cases b
 | some s=>
  rw[e]at b;unfold topFrom at e;split at e
  ·obtain⟨x,h,k⟩:=Option.bind_eq_some_iff.mp e;rw[h]at d;split at k<;>cases k;exact Wn some (Prod.ext (Wo b) (Wo d))
  ·cases e
theorem hl:LeftO pw q ls Xt (Hook.obs hk) (Hook.val hk) 8502:=we op fun w os=>byRow2 "special-get-raises" (P:=fun w=>Hr w (x0 w os)) (fun w=>hr (Ls w os) (Lz w os)) (fun w=>hr (Cz w os) (uY w os)) w
end Hd
namespace L2
open PySem PySem.Spec PyProof.Rows
abbrev Key:=Sum Int Str
def jh:Key->Value->Bool
 |.inl k,v=>Value.isInt k v
 |.inr x,v=>Value.isStrOf x v
def IC(w:World):Key->Int
 |.inl k=>hashInt k
 |.inr x=>hashStr w x
theorem Zg:∀{k:Key} {v:Value},jh k v=true->(∃i t,k=Sum.inl i/\v=Value.int i t)\/(∃x t,k=Sum.inr x/\v=Value.str x t)
 | .inl i,v,h=>by
  obtain⟨t,e⟩:=Value.isInt_shape (k:=i) (v:=v) h;exact .inl ⟨i,t,Z,e⟩
 | .inr x,v,h=>by
  obtain⟨t,e⟩:=Value.isStrOf_shape (x:=x) (v:=v) h;exact .inr ⟨x,t,Z,e⟩
theorem om(i:Int)(t:Tok):jh (.inl i) (.int i t)=true:=by simp[jh,Value.isInt]
theorem nE(x:Str)(t:Tok):jh (.inr x) (.str x t)=true:=by simp[jh,Value.isStrOf]
theorem Cv(a b:Int):decide ((Sum.inl a:Key)=Sum.inl b)=(a==b):=by
 by_cases e:a=b
 ·subst e;simp
 ·have h:¬(Sum.inl a:Key)=Sum.inl b:=fun q=>e (Sum.inl.inj q);rw[Wl h];exact(beq_eq_false_iff_ne.mpr e).symm
theorem Cu(a b:Str):decide ((Sum.inr a:Key)=Sum.inr b)=decide (a=b):=by
 by_cases e:a=b
 ·subst e;simp
 ·have h:¬(Sum.inr a:Key)=Sum.inr b:=fun q=>e (Sum.inr.inj q);rw[Wl h,Wl e]
theorem Ca(a:Int)(b:Str):decide ((Sum.inl a:Key)=Sum.inr b)=false:=Wl (fun q=>nomatch q)
theorem Bz(a:Str)(b:Int):decide ((Sum.inr a:Key)=Sum.inl b)=false:=Wl (fun q=>nomatch q)
def Zp(prog : Program)(w : World) : PySem.KeyKind prog w Key where
  is := jh
  hash := IC w
  inj := fun v a b F B => by
    rcases Zg F with⟨i, t, rfl, rfl⟩|⟨x, t, rfl, rfl⟩
    · rcases Zg B with ⟨j, u, rfl, e⟩ | ⟨y, u, rfl, e⟩
      · injection e with n _; rw [n]
      · exact nomatch e
    · rcases Zg B with ⟨j, u, rfl, e⟩ | ⟨y, u, rfl, e⟩
      · exact nomatch e
      · injection e with n _; rw [n]
  byValue := fun k v h => by
    rcases Zg h with⟨i, t, rfl, rfl⟩|⟨x, t, rfl, rfl⟩<;>rfl
  pyHash := fun z h => by
    rcases Zg z with⟨i, t, rfl, rfl⟩|⟨x, t, rfl, rfl⟩
    · exact wpAny_pyHash_int h
    · exact wpAny_pyHash_str h
  eqBool := fun G z h => by
    rcases Zg G with⟨i, t, rfl, rfl⟩|⟨x, t, rfl, rfl⟩
    · rcases Zg z with ⟨j, u, rfl, rfl⟩ | ⟨y, u, rfl, rfl⟩
      · rw [Cv]at h; exact wpAny_eqBool_int h
      · rw [Ca]at h; exact SeqAt.EqAt.int_str i t y u _ _ _ _ h
    · rcases Zg z with ⟨j, u, rfl, rfl⟩ | ⟨y, u, rfl, rfl⟩
      · rw [Bz]at h; exact SeqAt.EqAt.str_int x t j u _ _ _ _ h
      · rw [Cu]at h; exact wpAny_eqBool_str h
  «strs» := fun k x t v h => by
    rcases Zg h with⟨i, u, rfl, e⟩|⟨y, u, rfl, e⟩
    · exact nomatch e
    · injection e with n _
      subst n; cases v<;>rfl
theorem gF(prog:Program)(w:World)(i:Int)(t:Tok):(Zp prog w).is (.inl i) (.int i t)=true:=om i t
theorem fe(prog:Program)(w:World)(x:Str)(t:Tok):(Zp prog w).is (.inr x) (.str x t)=true:=nE x t
inductive V where
 |bQ|bl (b:Bool)|int (i:Int)|str (x:Str)|byt (b:Array UInt8)|flt (b:UInt64)|ref (a:Addr)|ty (n:String)
 deriving DecidableEq
def QR:V->Value->Prop
 |.bQ,u=>u=Value.none
 |.bl b,u=>u=Value.bool b
 |.int i,u=>∃t,u=Value.int i t
 |.str x,u=>∃t,u=Value.str x t
 |.byt b,u=>∃t,u=Value.bytes b t
 |.flt b,u=>∃t,u=Value.float b t
 |.ref a,u=>u=Value.ref a
 |.ty n,u=>u=Value.type n
abbrev QH:List V->List Value->Prop:=Paired QR
theorem QH.length{xs:List V}{us:List Value}(r:QH xs us):xs.length=us.length:=Paired.length r
theorem QH.get:∀{xs:List V} {us:List Value} {i:Nat} {x:V},QH xs us->xs[i]?=some x->∃u,us[i]?=some u/\QR x u
 |_,_,_,_,.nil,e=>by simp at e
 |_,_,0,_,.cons r _,e=>by simp at e;subst e;exact⟨_,Z,r⟩
 | _,_,i+1,x,.cons _ t,e=>by
  obtain⟨u,h1,h2⟩:=QH.get (i:=i) (x:=x) t (by simpa using e);exact⟨u,by simpa using h1,h2⟩
theorem QH.append:∀{xs ys:List V} {us ws:List Value},QH xs us->QH ys ws->QH (xs++ys) (us++ws)
 |_,_,_,_,.nil,s=>s
 |_,_,_,_,.cons r t,s=>.cons r (QH.append t s)
theorem QH.take:∀{xs:List V} {us:List Value} (n:Nat),QH xs us->QH (xs.take n) (us.take n)
 |_,_,0,_=>.nil
 |_,_,_+1,.nil=>.nil
 |_,_,n+1,.cons r t=>.cons r (QH.take n t)
theorem QH.drop:∀{xs:List V} {us:List Value} (n:Nat),QH xs us->QH (xs.drop n) (us.drop n)
 |_,_,0,r=>r
 |_,_,_+1,.nil=>.nil
 |_,_,n+1,.cons _ t=>QH.drop n t
theorem QH.none_of:∀{xs:List V} {us:List Value} {i:Nat},QH xs us->xs[i]?=none->us[i]?=none:=fun {xs us i} r e=>by
 have h1:=r.length;have h2:xs.length<=i:=List.getElem?_eq_none_iff.mp e;exact List.getElem?_eq_none_iff.mpr (by omega)
def YN:Option V->Option Value->Prop
 |some v,some u=>QR v u
 |none,none=>True
 |_,_=>False
def KV{κ:Type}:List (κ×V)->List (κ×Value)->Prop:=Paired fun(p:κ×V) (q:κ×Value)=>p.1=q.1/\QR p.2 q.2
def kV:Key->V
 |.inl i=>.int i
 |.inr x=>.str x
inductive HO where
 |lst (xs:List V)
 |tup (xs:List V)
 |dK (a':List (Key×V))|dT (a':List (List Key×V))
 |set (S:Int->Bool) (n:Nat)
 |ins (C dx:Addr) (fs:List (Str×V))
 |own (x:Addr)
 |xd (fs:List (Str×V))
 |met (f x:Addr)
 |rng (lo hi:Int)
 |frz (o:Obj) (u:HO)
 |tbl (ps:Array Value)
 |ext (φ:Heap->Prop)
abbrev Hp:=Addr->Option HO
def upd(H:Hp)(a:Addr)(o:HO):Hp:=fun b=>if b=a then some o else H b
theorem Qe{H:Hp}{a:Addr}{o:HO}:upd H a o a=some o:=by unfold upd;rw[Wi Z]
theorem Qh{H:Hp}{a b:Addr}{o:HO}(h:b≠a):upd H a o b=H b:=by unfold upd;rw[Wh h]
theorem YI{H:Hp}{a b:Addr}{o u:HO}(h:H a=some o)(h':H b=some u)(d:o≠u):a≠b:=by intro e;subst e;rw[h]at h';exact d (Wo h')
theorem Qg{H:Hp}{a b:Addr}{o:HO}(h:H a=some o)(h':H b=none):a≠b:=by intro e;subst e;rw[h]at h';cases h'
section
variable (P:Program) (w:World)
def Zh(H:Hp)(h:Heap)(a:Addr):HO->Prop
 |.lst xs=>xs.length<=sizeLine/\∃(a8:List Value)(n:Nat),QH xs a8/\h.get? a=some { cls:=.type "list",data:=.seq a8.toArray n }
 |.tup xs=>xs.length<=sizeLine/\∃a8:List Value,QH xs a8/\IsTup h a a8.toArray
 |.dK a'=>a'.length<=sizeLine/\(a==sysModules)=false/\∃vs,KV a' vs/\h.DictOf (Zp P w) a vs
 | .dT a'=>a'.length<=sizeLine/\(a==sysModules)=false/\∃ xs:List (List Key×Addr×Value),
   Paired (fun(p:List Key×V) (q:List Key×Addr×Value)=>p.1=q.1/\H q.2.1=some (.tup (p.1.map kV))/\QR p.2 q.2.2) a' xs/\
   ∃o es ep,h.get? a=some o/\o.ExactDict/\o.data=.dict es ep/\es.toList=xs.map (entryOfKey (tupleKind (Zp P w)))/\(xs.map (·.1)).Nodup
 |.set S n=>h.SetOf (intKind P w) a S n
 | .ins C dx fs=>H dx=some (.own a)/\fs.length<=1000/\dx≠a/\h.get? a=some (UM C dx)/\
   ∃mA,h.Ns1 dx mA/\(∀f,YN (fs.lookup f) (mA f))/\PySem.Within mA (fs.map (·.1))
 |.own _=>∃o,h.get? a=some o
 |.xd fs=>∃mA,h.Ns1 a mA/\∀f,YN (fs.lookup f) (mA f)
 |.rng lo hi=>∃t u v,h.get? a=some { cls:=.type "range",data:=.fields #[.int lo t,.int hi u,.int 1 v] }
 |.frz o u=>h.get? a=some o/\Zh H h a u
 |.tbl ps=>h.get? a=some { cls:=.none,data:=.fields ps }
 |.met f x=>h.get? a=some (Qa5 (.ref f) (.ref x))
 |.ext φ=>φ h/\(∃o,h.get? a=some o)/\∀h1 h2:Heap,φ h1->(∀o,h1.get? a=some o->h2.get? a=some o)->φ h2
def dg(H:Hp)(h:Heap):Prop:=∀a o,H a=some o->Zh P w H h a o
end
section
variable {P:Program} {w:World} {H H':Hp} {h h':Heap} {a:Addr} {o:HO}
theorem Zh.lt(x:Zh P w H h a o):a<h.objs.size:=by
 cases o with
 |lst xs=>obtain⟨_,_,_,_,e⟩:=x;exact Wu e
 |tup xs=>obtain⟨_,_,_,p⟩:=x;exact p.lt
 |dK a'=>obtain⟨_,_,_,_,o,_,_,e,_⟩:=x;exact Wu e
 |dT a'=>obtain⟨_,_,_,_,o,_,_,e,_⟩:=x;exact Wu e
 |set S n=>obtain⟨o,_,_,_,e,_⟩:=x;exact Wu e
 |ins C dx fs=>obtain⟨_,_,_,e,_⟩:=x;exact Wu e
 |own y=>obtain⟨_,e⟩:=x;exact Wu e
 |xd fs=>obtain⟨_,⟨_,_,_,e,_⟩,_⟩:=x;exact Wu e
 |rng lo hi=>obtain⟨_,_,_,e⟩:=x;exact Wu e
 |frz j u=>obtain⟨e,_⟩:=x;exact Wu e
 |tbl ps=>exact Wu (show h.get? a=some _ from x)
 |met f y=>exact Wu (show h.get? a=some _ from x)
 |ext φ=>obtain⟨_,⟨_,e⟩,_⟩:=x;exact Wu e
theorem Paired.AS{α β:Type}{F G:α->β->Prop}:∀{j:List α} {n:List β},Paired F j n->(∀a b,F a b->G a b)->Paired G j n
 |_,_,.nil,_=>.nil
 |_,_,.cons r t,f=>.cons (f _ _ r) (Paired.AS t f)
theorem Zh.ig(x:Zh P w H h a o) (k:∀b u,(b=a\/H b=some (.own a))->h.get? b=some u->h'.get? b=some u)
  (F:∀b,H b=some (.own a)->H' b=some (.own a)) (G:∀b xs,H b=some (.tup xs)->H' b=some (.tup xs)):Zh P w H' h' a o:=by
 induction o with
 |lst xs=>obtain⟨z,a8,n,r,e⟩:=x;exact⟨z,a8,n,r,k _ _ (.inl Z) e⟩
 |tup xs=>obtain⟨z,a8,r,j,e,c⟩:=x;exact⟨z,a8,r,j,k _ _ (.inl Z) e,c⟩
 |dK a'=>obtain⟨z,y,vs,r,j,es,ep,e,c⟩:=x;exact⟨z,y,vs,r,j,es,ep,k _ _ (.inl Z) e,c⟩
 | dT a'=>
  obtain⟨z,y,xs,r,j,es,ep,e,c⟩:=x;exact⟨z,y,xs,Paired.AS r fun p q z=>⟨z.1,G _ _ z.2.1,z.2.2⟩,j,es,ep,k _ _ (.inl Z) e,c⟩
 |set S n=>obtain⟨j,es,ep,t,e,c⟩:=x;exact⟨j,es,ep,t,k _ _ (.inl Z) e,c⟩
 | ins C dx fs=>
  obtain⟨d,z,ne,e,mA,⟨B,es,ep,I,c⟩,r⟩:=x;exact⟨F _ d,z,ne,k _ _ (.inl Z) e,mA,⟨B,es,ep,k _ _ (.inr d) I,c⟩,r⟩
 |own y=>obtain⟨j,e⟩:=x;exact⟨j,k _ _ (.inl Z) e⟩
 |xd fs=>obtain⟨mA,⟨B,es,ep,e,c⟩,r⟩:=x;exact⟨mA,⟨B,es,ep,k _ _ (.inl Z) e,c⟩,r⟩
 |rng lo hi=>obtain⟨t,u,v,e⟩:=x;exact⟨t,u,v,k _ _ (.inl Z) e⟩
 |frz j u J=>obtain⟨e,q⟩:=x;exact⟨k _ _ (.inl Z) e,J q⟩
 | tbl ps=>
  have e:h.get? a=some { cls:=.none,data:=.fields ps }:=x;show h'.get? a=some { cls:=.none,data:=.fields ps };exact k a _ (.inl Z) e
 | met f y=>
  have e:h.get? a=some (Qa5 (.ref f) (.ref y)):=x;show h'.get? a=some (Qa5 (.ref f) (.ref y));exact k a _ (.inl Z) e
 |ext φ=>obtain⟨p,⟨o,e⟩,st⟩:=x;exact⟨st _ _ p fun o q=>k _ _ (.inl Z) q,⟨o,k _ _ (.inl Z) e⟩,st⟩
theorem dg.lt(x:dg P w H h)(e:H a=some o):a<h.objs.size:=(x a o e).lt
theorem dg.fresh(x:dg P w H h)(e:h.objs.size<=a):H a=none:=by
 cases q:H a with
 |none=>rfl
 |some u=>exact Wm (x3 (x.lt q) e) (Ur _)
theorem dg.kept(x:dg P w H h)(k:∀b u,h.get? b=some u->h'.get? b=some u):dg P w H h':=fun a o e=>
 (x a o e).ig (fun b u _ q=>k b u q) (fun _ q=>q) fun _ _ q=>q
theorem dg.laid(x:dg P w H h)(k:∀b u,h.get? b=some u->h'.get? b=some u)(B:h.objs.size<=a) (j:Zh P w (upd H a o) h' a o):dg P w (upd H a o) h':=fun b u e=>by
 have n:=x.fresh B;by_cases z:b=a
 ·subst z;rw[Qe]at e;cases e;exact j
 ·rw[Qh z]at e;exact(x b u e).ig (fun c v _ q=>k c v q) (fun c q=>by rw[Qh (Qg q n)];exact q) fun c xs q=>by rw[Qh (Qg q n)];exact q
end
def Rd(H:Hp)(a:Addr)(u:HO):Prop:=H a=some u\/∃o,H a=some (.frz o u)
theorem Rd.ok{P:Program}{w:World}{H:Hp}{h:Heap}{a:Addr}{u:HO}(r:Rd H a u)(x:dg P w H h):Zh P w H h a u:=by
 rcases r with r|⟨o,r⟩
 ·exact x a u r
 ·obtain⟨_,q⟩:=x a _ r;exact q
def DT:Option HO->Prop
 |some (.lst _)=>True
 |some (.dK _)=>True
 |some (.dT _)=>True
 |some (.set _ _)=>True
 |some (.ins _ _ _)=>True
 |some (.ext _)=>True
 |_=>False
section
variable {P:Program} {w:World} {H:Hp} {h h':Heap} {x e:Addr} {o':HO}
theorem dg.write(ok:dg P w H h) (F:DT (H x)) (O:e=x\/H e=some (.own x)) (k:∀b u,b≠e->h.get? b=some u->h'.get? b=some u) (I:∃u,h'.get? e=some u)
  (J:Zh P w (upd H x o') h' x o'):dg P w (upd H x o') h':=fun b u q=>by
 have n:∀c y,H c=some (.own y)->c≠x:=fun c y r z=>by subst z;rw[r]at F;exact F
 have B:∀c xs,H c=some (.tup xs)->c≠x:=fun c xs r z=>by subst z;rw[r]at F;exact F
 by_cases G:b=x
 ·subst G;rw[Qe]at q;cases q;exact J
 ·rw[Qh G] at q;by_cases j:b=e
  ·have U:H b=some (.own x):=by
    rcases O with z|z
    ·exact Wm (j.trans z) G
    ·rw[j];exact z
   rw[q]at U;cases U;obtain⟨v,hv⟩:=I;exact⟨v,by rw[j];exact hv⟩
  ·refine (ok b u q).ig (fun c v hc r=>k c v ?_ r) (fun c r=>by rw[Qh (n c b r)];exact r) fun c xs r=>by rw[Qh (B c xs r)];exact r
   rcases hc with rfl|hc
   ·exact j
   ·rintro rfl;rcases O with z | z
    ·exact n c b hc z
    ·rw[hc]at z;cases z;exact G rfl
end
structure Un(fs ex:List Addr)(H H':Hp)(h h':Heap):Prop where
 keep:∀b o,h.get? b=some o->H b=none->b∉fs->b∉ex->h'.get? b=some o
 slot:∀b o,h.get? b=some o->H b=none->b∈fs->b∉ex->∃sl,h'.get? b=some { o with slots:=sl }
 free:∀b o,h.get? b=some o->H b=none->b∉ex->H' b=none
 there:∀b o,h.get? b=some o->b∉ex->∃o',h'.get? b=some o'
 d6:∀b xs,H b=some (.tup xs)->H' b=some (.tup xs)
 dR:∀b o u,H b=some (.frz o u)->H' b=some (.frz o u)
 d5:∀b ps,H b=some (.tbl ps)->∃more,H' b=some (.tbl (ps++more))
section
variable {fs x' ex Lb:List Addr} {H H1 H2:Hp} {h h1 h2 h':Heap} {a x e:Addr} {o:HO}
theorem Un.any(u:Un fs ex H H1 h h1){b:Addr}{j:Obj}(q:h.get? b=some j)(n:H b=none)(z:b∉ex):∃F,h1.get? b=some { j with slots:=F }:=by
 by_cases B:b∈fs
 ·exact u.slot b j q n B z
 ·exact⟨j.slots,u.keep b j q n B z⟩
theorem Un.trans(a:Un fs ex H H1 h h1)(b:Un fs ex H1 H2 h1 h2):Un fs ex H H2 h h2 where
 keep:=fun c j q n hc z=>b.keep c j (a.keep c j q n hc z) (a.free c j q n z) hc z
 slot:=fun c j q n hc z=>by
  obtain⟨I,B⟩:=a.slot c j q n hc z;obtain⟨F,G⟩:=b.slot c _ B (a.free c j q n z) hc z;exact⟨F,G⟩
 free:=fun c j q n z=>by
  obtain⟨o',B⟩:=a.there c j q z;exact b.free c o' B (a.free c j q n z) z
 there:=fun c j q z=>by
  obtain⟨o',B⟩:=a.there c j q z;exact b.there c o' B z
 d6:=fun c xs q=>b.d6 c xs (a.d6 c xs q)
 dR:=fun c j xs q=>b.dR c j xs (a.dR c j xs q)
 d5:=fun c ps q=>by
  obtain⟨m1,B⟩:=a.d5 c ps q;obtain⟨m2,G⟩:=b.d5 c _ B;exact⟨m1++m2,by rw[G,Array.append_assoc]⟩
theorem Un.kept(k:∀b u,h.get? b=some u->h'.get? b=some u):Un fs ex H H h h':=
 ⟨fun b j q _ _ _=>k b j q,fun b j q _ _ _=>⟨j.slots,k b j q⟩,fun _ _ _ n _=>n,fun b j q _=>⟨j,k b j q⟩,fun _ _ q=>q,fun _ _ _ q=>q,fun _ ps q=>⟨#[],by rw[q];simp⟩⟩
theorem Un.refl:Un fs ex H H h h:=Un.kept fun _ _ q=>q
theorem Un.laid(k:∀b u,h.get? b=some u->h'.get? b=some u)(z:h.objs.size<=a)(j:H a=none):Un fs ex H (upd H a o) h h' where
 keep:=fun b u q _ _ _=>k b u q
 slot:=fun b u q _ _ _=>⟨u.slots,k b u q⟩
 free:=fun b u q n _=>by rw[Qh (xY (x3 (Wu q) z))];exact n
 there:=fun b u q _=>⟨u,k b u q⟩
 d6:=fun b xs q=>by rw[Qh (Qg q j)];exact q
 dR:=fun b u xs q=>by rw[Qh (Qg q j)];exact q
 d5:=fun b ps q=>⟨#[],by rw[Qh (Qg q j),q];simp⟩
theorem Un.write (B:DT (H x)) (O:e=x\/H e=some (.own x)) (k:∀b u,b≠e->h.get? b=some u->h'.get? b=some u) (F:∃u,h'.get? e=some u):Un fs ex H (upd H x o) h h':=by
 have I:∀b,H b=none->b≠x:=fun b n z=>by subst z;rw[n]at B;exact B
 have J:∀b,H b=none->b≠e:=fun b n z=>by
  subst z;rcases O with r|r
  ·exact I b n r
  ·rw[n]at r;cases r
 have G:∀b u,H b=some u->¬DT (some u)->b≠x:=fun b u q nm z=>by subst z;rw[q]at B;exact nm B
 refine⟨fun b u q n _ _=>k b u (J b n) q,fun b u q n _ _=>⟨u.slots,k b u (J b n) q⟩,fun b u q n _=>by rw[Qh (I b n)];exact n,fun b u q _=>?_,
  fun b xs q=>by rw[Qh (G b _ q fun z=>z)];exact q,fun b u xs q=>by rw[Qh (G b _ q fun z=>z)];exact q,fun b ps q=>⟨#[],by rw[Qh (G b _ q fun z=>z),q];simp⟩⟩
 by_cases j:b=e
 ·subst j;exact F
 ·exact⟨u,k b u j q⟩
theorem Un.mono(u:Un fs ex H H1 h h1)(G:∀b∈fs,b∈x')(F:∀b∈ex,b∈Lb):Un x' Lb H H1 h h1:=
 ⟨fun b B q n I j=>u.keep b B q n (fun z=>I (G b z)) fun z=>j (F b z),fun _ _ q n _ j=>u.any q n fun z=>j (F _ z),fun b B q n j=>u.free b B q n fun z=>j (F b z),fun b B q j=>u.there b B q fun z=>j (F b z),u.d6,u.dR,u.d5⟩
end
def Hy(h:Heap)(H:Hp):List Addr:=(xP h.objs.size).filter fun a=>(H a).isSome
def xc(h:Heap)(H:Hp):Heap:=PySem.W.hideAll h (Hy h H)
theorem nG(h:Heap)(H:Hp):(xc h H).objs.size=h.objs.size:=PySem.W.hideAll_size _ _
theorem uF{h:Heap}{H:Hp}{b:Addr}{o:Obj}(e:h.get? b=some o)(n:H b=none):(xc h H).get? b=some o:=
 PySem.W.hideAll_get _ e fun j=>by
  have q:(H b).isSome=true:=(List.mem_filter.mp j).2;rw[n]at q;simp at q
theorem wB{h:Heap}{H:Hp}{b:Addr}{o:Obj} (e:(xc h H).get? b=some o):h.get? b=some o/\H b=none:=by
 have j:h.get? b=some o:=PySem.W.of_hideAll (Hy h H) e;refine⟨j,?_⟩;cases q:H b with
 |none=>rfl
 | some x=>
  have n:b∈Hy h H:=List.mem_filter.mpr ⟨List.mem_range.mpr (Wu j),by simp[q]⟩;have z:(xc h H).get? b=none:=PySem.W.hideAll_none (Hy h H) n;rw[z]at e;cases e
def vf(g h:Heap)(j:Addr):List (Addr×Obj):=(xP h.objs.size).filterMap fun a=>if a=j\/(g.get? a).isSome=true then none else(h.get? a).map fun o=>(a,o)
def JS(g h:Heap)(j d:Addr):List (Addr×Obj):=(vf g h j).filter fun p=>decide (p.1≠d)
structure Mod(K:xB)(mg:Str->Option Value)(base:Heap):Prop where
 kin:K.In base
 glob:base.Ns mainGlobals mg
 blt:∃mb,base.Ns builtinsNs mb/\∀x:Str,x ≠ "__name__" -> mb x=bootBuiltins x
 nolimit:base.NoLimit
structure Cx where
 prog:Program
 w:World
 K:xB
 mg:Str->Option Value
 base:Heap
 A:Around
 N:List Str
 eM:Shared
 H_0:Hp
 env:Env
 outer:List Env
 stack:List Env
 ex:List Addr
 fn:Str->Bool
 calm:Bool
 pn:List (Addr×Obj)
 xe:Value->Shared->Prop
def pN(l:List Env):List Addr:=l.filterMap (·.frame)
abbrev Cx.fs(X:Cx):List Addr:=pN X.outer
def vJ(sc:Scope)(x:Str):Prop:=sc.names.lookup x=some .local\/sc.names.lookup x=some .cell\/sc.names.lookup x=some .free
def Loc(sc:Scope)(x:Str):Prop:=sc.names.lookup x=some .local\/sc.names.lookup x=some .cell
def Look(env:Env)(h:Heap)(m:Str->Option Value)(x:Str)(u:Value):Prop:=
 (env.kindOf x=some .local/\m x=some u)\/((env.kindOf x=some .cell\/env.kindOf x=some .free)/\∃c,env.cells.lookup x=some c/\h.IsCell c (some u))
structure Cx.Ok(X:Cx):Prop where
 mod:Mod X.K X.mg X.base
 kind:X.env.scope.kind=.function
 glob:X.env.globals=mainGlobals
 blt:X.env.builtins=builtinsNs
 above:X.eM.heap.objs.size<=X.env.locals
 inj:∀x y c,X.env.cells.lookup x=some c->X.env.cells.lookup y=some c->x=y
 has:∀x,(X.env.kindOf x=some .cell\/X.env.kindOf x=some .free)->∃c,X.env.cells.lookup x=some c
 A6:∀x c,X.fn x=true->X.env.cells.lookup x=some c->X.eM.heap.objs.size<=c
 hd:X.calm=true->X.A.handled=none
 frames:X.A.frames=some X.stack
 EV:X.stack=X.outer\/(X.stack=X.env::X.outer/\X.env.frame=some X.env.locals)
 exf:∀b∈X.ex,b≠X.env.locals/\∀x c,X.env.cells.lookup x=some c->c≠b
 bs:∀b o,X.base.get? b=some o->X.eM.heap.get? b=some o/\X.H_0 b=none
 bsz:X.base.objs.size<=X.eM.heap.objs.size
 noex:∀b o,X.base.get? b=some o->b∉X.ex
 exfs:∀b∈X.ex,b∉X.fs
 d3:X.eM.heap.FunFrames X.base X.outer
 frf:∀b∈X.fs,X.H_0 b=none
structure Inv(X:Cx) (aZ:List (Addr×Obj)) (σ:List (Option V)) (H:Hp) (s:Shared):Prop where
 ok:X.Ok
 os:s.os=X.eM.os
 bare:AllBare s.gens
 base:Un X.fs X.ex X.H_0 H X.eM.heap s.heap
 loc:∃m,s.heap.Ns X.env.locals m/\∀(i:Nat)(x:Str)(v:V),X.N[i]?=some x->σ[i]?=some (some v)->vJ X.env.scope x->∃u,QR v u/\Look X.env s.heap m x u
 cell:∀x c,X.env.cells.lookup x=some c->∃v,s.heap.IsCell c v
 free:H X.env.locals=none
 freeC:∀x c,X.env.cells.lookup x=some c->H c=none
 pin:∀p∈X.pn++aZ,s.heap.get? p.1=some p.2/\H p.1=none/\p.1≠X.env.locals/\p.1∉X.fs/\∀v,p.2.data≠.cell v
 bp:dg X.prog X.w H s.heap
 len:σ.length=X.N.length
section
variable {X:Cx} {aZ:List (Addr×Obj)} {σ:List (Option V)} {H H':Hp} {s:Shared} {h':Heap}
theorem Cx.Ok.IF(ok:X.Ok){b:Addr}{o:Obj}(e:X.base.get? b=some o):b∉X.fs:=fun j=>by
 have:=(ok.d3.mem j).1;rw[e]at this;cases this
theorem Inv.bs(I:Inv X aZ σ H s):∀b o,X.base.get? b=some o->s.heap.get? b=some o/\H b=none:=fun b o e=>
 ⟨I.base.keep b o (I.ok.bs b o e).1 (I.ok.bs b o e).2 (I.ok.IF e) (I.ok.noex b o e),I.base.free b o (I.ok.bs b o e).1 (I.ok.bs b o e).2 (I.ok.noex b o e)⟩
theorem Inv.bk(I:Inv X aZ σ H s):∀b o,X.base.get? b=some o->s.heap.get? b=some o:=fun b o e=>(I.bs b o e).1
theorem Inv.mod(I:Inv X aZ σ H s):Mod X.K X.mg X.base:=I.ok.mod
theorem Inv.eK(I:Inv X aZ σ H s):X.K.In s.heap:=I.ok.mod.kin.keeps I.bk
theorem Inv.nolimit(I:Inv X aZ σ H s):s.heap.NoLimit:=I.ok.mod.nolimit.keeps I.bk
theorem Inv.lt(I:Inv X aZ σ H s):X.env.locals<s.heap.objs.size:=let ⟨_,j,_⟩:=I.loc;j.lt
theorem Inv.sz(I:Inv X aZ σ H s):X.eM.heap.objs.size<=s.heap.objs.size:=xM I.ok.above (VZ I.lt)
theorem Inv.KC(I:Inv X aZ σ H s){a:Addr}(h:s.heap.objs.size<=a):a∉X.fs:=fun j=>by
 obtain⟨_,o,n,_⟩:=I.ok.d3.mem j;exact Wm (x3 (Wu n) (xM I.sz h)) (Ur _)
theorem Inv.BK(I:Inv X aZ σ H s):∀x c,X.env.cells.lookup x=some c->c≠X.env.locals:=fun x c e z=>by
 obtain⟨v,o,B,hd⟩:=I.cell x c e;obtain⟨m,⟨o',es,ep,j,n,_⟩,_⟩:=I.loc;rw[z,j]at B;cases B;rw[n]at hd;cases hd
theorem Inv.d3(I:Inv X aZ σ H s):s.heap.FunFrames X.base X.outer:=by
 have all:∀(l:List Env),(∀b∈pN l,b∈X.fs)->X.eM.heap.FunFrames X.base l->s.heap.FunFrames X.base l:=by
  intro l;induction l with
  |nil=>intro _ _;trivial
  | cons env r F=>
   intro B hl;obtain⟨hk,⟨U,o,hf,G,J,hd⟩,hr⟩:=hl;have j:U∈X.fs:=B U (by unfold pN;rw[VE,hf];exact Gn);obtain⟨O,e⟩:=I.base.slot U o J (I.ok.frf U j) j fun z=>I.ok.exfs U z j;exact⟨hk,⟨U,_,hf,G,e,hd⟩,F (fun b n=>B b (by unfold pN;rw[VE,hf];exact xT _ n)) hr⟩
 exact all X.outer (fun _ n=>n) I.ok.d3
theorem Inv.stack(I:Inv X aZ σ H s):s.heap.FunFrames X.base X.stack:=by
 rcases I.ok.EV with e|⟨e,hf⟩
 ·rw[e];exact I.d3
 ·rw[e];obtain⟨m,j,_⟩:=I.loc;refine .cons (by rw[I.ok.kind];decide) hf j ?_ I.d3;exact Heap.get?_none_of_le (xM I.ok.bsz I.ok.above)
theorem Inv.kh(I:Inv X aZ σ H s):∀b∈pN X.stack,b∈X.env.locals::X.fs:=fun b j=>by
 rcases I.ok.EV with e|⟨e,hf⟩
 ·rw[e]at j;exact xT _ j
 ·rw[e]at j;unfold pN at j;rw[VE,hf]at j;exact j
theorem Inv.ml(I:Inv X aZ σ H s):∀b∈pN X.stack,H b=none:=fun b j=>by
 rcases List.mem_cons.mp (I.kh b j) with e|j
 ·rw[e];exact I.free
 ·obtain⟨_,o,n,_⟩:=I.ok.d3.mem j;exact I.base.free b o n (I.ok.frf b j) fun z=>I.ok.exfs b z j
theorem Inv.step{g':Array GenState}{t':Nat}{d':Drawn}{ch:List Addr}(I:Inv X aZ σ H s)
  (B:∀b∈ch,(b∈X.ex\/X.eM.heap.objs.size<=b)/\b≠X.env.locals/\(∀x c,X.env.cells.lookup x=some c->c≠b)/\∀p∈X.pn++aZ,p.1≠b)
  (keep:∀b o,b≠X.env.locals->b∉X.fs->b∉ch->s.heap.get? b=some o->H b=none->h'.get? b=some o)
  (slot:∀b o,b≠X.env.locals->b∈X.fs->b∉ch->s.heap.get? b=some o->H b=none->∃sl,h'.get? b=some { o with slots:=sl }) (free:∀b o,b∉ch->s.heap.get? b=some o->H b=none->H' b=none)
  (there:∀b o,b∉ch->s.heap.get? b=some o->∃o',h'.get? b=some o')
  (d6:∀b xs,H b=some (.tup xs)->H' b=some (.tup xs)) (dR:∀b o u,H b=some (.frz o u)->H' b=some (.frz o u)) (d5:∀b ps,H b=some (.tbl ps)->∃aa,H' b=some (.tbl (ps++aa)))
  (ns:∀m,s.heap.Ns X.env.locals m->h'.Ns X.env.locals m) (bp:dg X.prog X.w H' h') (hg:AllBare g') :
  Inv X aZ σ H' { s with heap:=h',gens:=g',drawn:=d',toks:=t' }:=by
 have ab:∀b o,X.eM.heap.get? b=some o->b≠X.env.locals:=fun b o e=>xY (x3 (Wu e) I.ok.above)
 have J:∀b o,X.eM.heap.get? b=some o->b∉X.ex->b∉ch:=fun b o e j U=>by
  rcases(B b U).1 with z|z
  ·exact j z
  ·exact Wm (x3 (Wu e) z) (Ur _)
 have F:∀x c,X.env.cells.lookup x=some c->∀v,s.heap.IsCell c v->h'.IsCell c v:=fun x c e v ⟨o,ho,hd⟩=>by
  have G:c∉ch:=fun z=>(B c z).2.2.1 x c e rfl;by_cases hc:c∈X.fs
  ·obtain⟨sl,q⟩:=slot c o (I.BK x c e) hc G ho (I.freeC x c e);exact⟨_,q,hd⟩
  ·exact⟨o,keep c o (I.BK x c e) hc G ho (I.freeC x c e),hd⟩
 refine⟨I.ok,I.os,hg,⟨fun b o e n U j=>?_,fun b o e n U j=>?_,fun b o e n j=>?_,fun b o e j=>?_,fun b xs e=>d6 b xs (I.base.d6 b xs e),fun b o xs e=>dR b o xs (I.base.dR b o xs e),fun b ps e=>?_⟩,?_,fun x c e=>?_,?_,fun x c e=>?_,fun p hp=>?_,bp,I.len⟩
 ·exact keep b o (ab b o e) U (J b o e j) (I.base.keep b o e n U j) (I.base.free b o e n j)
 ·obtain⟨sl,O⟩:=I.base.slot b o e n U j;obtain⟨ac,e2⟩:=slot b _ (ab b o e) U (J b o e j) O (I.base.free b o e n j);exact⟨ac,e2⟩
 ·obtain⟨o',O⟩:=I.base.there b o e j;exact free b o' (J b o e j) O (I.base.free b o e n j)
 ·obtain⟨o',O⟩:=I.base.there b o e j;exact there b o' (J b o e j) O
 ·obtain⟨m1,O⟩:=I.base.d5 b ps e;obtain⟨m2,e2⟩:=d5 b _ O;exact⟨m1++m2,by rw[e2,Array.append_assoc]⟩
 ·obtain⟨m,hn,hl⟩:=I.loc;refine⟨m,ns m hn,fun i x v O e2 e3=>?_⟩;obtain⟨u,r,l⟩:=hl i x v O e2 e3;refine⟨u,r,?_⟩;rcases l with l | ⟨k,c,e,z⟩
  ·exact .inl l
  ·exact .inr ⟨k,c,e,F x c e _ z⟩
 ·obtain⟨v,z⟩:=I.cell x c e;exact⟨v,F x c e v z⟩
 ·obtain⟨m,⟨o,_,_,ho,_⟩,_⟩:=I.loc;exact free _ o (fun z=>(B _ z).2.1 Z) ho I.free
 ·obtain⟨v,o,ho,hd⟩:=I.cell x c e;exact free c o (fun z=>(B c z).2.2.1 x c e Z) ho (I.freeC x c e)
 ·obtain⟨e,n,ne,nf,d⟩:=I.pin p hp;have G:p.1∉ch:=fun z=>(B p.1 z).2.2.2 p hp rfl;exact⟨keep p.1 p.2 ne nf G e n,free p.1 p.2 G e n,ne,nf,d⟩
theorem Inv.un{t':Nat}(I:Inv X aZ σ H s)(u:Un X.fs [] H H' s.heap h')(bp:dg X.prog X.w H' h'):Inv X aZ σ H' { s with heap:=h',toks:=t' }:=by
 obtain⟨m,⟨o,es,ep,J,r⟩,_⟩:=id I.loc;obtain⟨sl,O⟩:=u.any J I.free We
 exact I.step (g':=s.gens) (d':=s.drawn) (ch:=[]) (fun _ z=>nomatch z) (fun b o _ B _ e n=>u.keep b o e n B We) (fun b o _ B _ e n=>u.slot b o e n B We) (fun b o _ e n=>u.free b o e n We) (fun b o _ e=>u.there b o e We) u.d6 u.dR u.d5 (fun m' U=>by
  obtain⟨o',F,G,j,r'⟩:=U;rw[J]at j;cases j;exact⟨_,F,G,O,r'⟩) bp I.bare
theorem Inv.call{g':Array GenState}{t':Nat}{d':Drawn}{ch:List Addr}(I:Inv X aZ σ H s) (u:Un (pN X.stack) ch H H' s.heap h') (bp:dg X.prog X.w H' h') (U:AllBare g')
  (j:∀b∈ch,(b∈X.ex\/X.eM.heap.objs.size<=b)/\b≠X.env.locals/\(∀x c,X.env.cells.lookup x=some c->c≠b)/\∀p∈X.pn++aZ,p.1≠b) :
  Inv X aZ σ H' { s with heap:=h',gens:=g',drawn:=d',toks:=t' }:=by
 obtain⟨m,⟨o,es,ep,O,r⟩,_⟩:=id I.loc;obtain⟨sl,F⟩:=u.any O I.free fun z=>(j _ z).2.1 rfl
 exact I.step (ch:=ch) j (fun b o F hb hc e n=>u.keep b o e n (fun z=>(List.mem_cons.mp (I.kh b z)).elim F hb) hc) (fun b o _ _ hc e n=>u.any e n hc) (fun b o hc e n=>u.free b o e n hc) (fun b o hc e=>u.there b o e hc) u.d6 u.dR u.d5 (fun m' hm=>by
  obtain⟨o',G,J,B,r'⟩:=hm;rw[O]at B;cases B;exact⟨_,G,J,F,r'⟩) bp U
theorem Inv.turned{t':Nat}{it:Addr}(I:Inv X aZ σ H s)(k:∀b o,b≠it->s.heap.get? b=some o->h'.get? b=some o)(F:H it=none)(B:it≠X.env.locals)
  (h1:it∈X.ex\/X.eM.heap.objs.size<=it) (h2:∀x c,X.env.cells.lookup x=some c->c≠it) (G:∀p∈X.pn++aZ,p.1≠it):Inv X aZ σ H { s with heap:=h',toks:=t' }:=by
 have j:∀b u,H b=some u->b≠it:=fun b u e z=>by rw[z,F]at e;cases e
 refine I.step (g':=s.gens) (d':=s.drawn) (ch:=[it]) (fun b J=>?_) (fun b o _ _ hc e _=>k b o (fun z=>hc (by simp[z])) e) (fun b o _ _ hc e _=>⟨o.slots,k b o (fun z=>hc (by simp[z])) e⟩) (fun _ _ _ _ n=>n)
  (fun b o hc e=>⟨o,k b o (fun z=>hc (by simp[z])) e⟩) (fun _ _ e=>e) (fun _ _ _ e=>e) (fun b ps e=>⟨#[],by rw[e];simp⟩) (fun m O=>?_) (fun b u e=>?_) I.bare
 ·have e:b=it:=by simpa using J
  subst e;exact⟨h1,B,h2,G⟩
 ·obtain⟨o,es,ep,U,r⟩:=O;exact⟨o,es,ep,k _ o (Ne.symm B) U,r⟩
 ·refine (I.bp b u e).ig (fun c v hc q=>k c v ?_ q) (fun _ q=>q) fun _ _ q=>q;rcases hc with z | z
  ·rw[z];exact j b u e
  ·exact j c _ z
theorem Inv.tok(I:Inv X aZ σ H s)(t:Nat):Inv X aZ σ H { s with toks:=t }:=I.un (h':=s.heap) (t':=t) Un.refl I.bp
theorem Inv.kept{t':Nat}(I:Inv X aZ σ H s)(k:∀b u,s.heap.get? b=some u->h'.get? b=some u):Inv X aZ σ H { s with heap:=h',toks:=t' }:=I.un (Un.kept k) (I.bp.kept k)
theorem Inv.laid{a:Addr}{o:HO}{t':Nat}(I:Inv X aZ σ H s)(k:∀b u,s.heap.get? b=some u->h'.get? b=some u)(j:s.heap.objs.size<=a) (n:Zh X.prog X.w (upd H a o) h' a o) :
  Inv X aZ σ (upd H a o) { s with heap:=h',toks:=t' }:=I.un (Un.laid k j (I.bp.fresh j)) (I.bp.laid k j n)
theorem Inv.write{x e:Addr}{o:HO}{t':Nat}(I:Inv X aZ σ H s) (z:DT (H x)) (B:e=x\/H e=some (.own x)) (k:∀b u,b≠e->s.heap.get? b=some u->h'.get? b=some u) (j:∃u,h'.get? e=some u)
  (n:Zh X.prog X.w (upd H x o) h' x o):Inv X aZ σ (upd H x o) { s with heap:=h',toks:=t' }:=I.un (Un.write z B k j) (I.bp.write z B k j n)
theorem Inv.weak {j:List (Option V)} (I:Inv X aZ σ H s) (hl:j.length=σ.length) (w:∀(i:Nat) v,j[i]?=some (some v)->σ[i]?=some (some v)):Inv X aZ j H s:=
 ⟨I.ok,I.os,I.bare,I.base,let ⟨m,z,n⟩:=I.loc;⟨m,z,fun i x v B F G=>n i x v B (w i v F) G⟩,I.cell,I.free,I.freeC,I.pin,I.bp,hl.trans I.len⟩
theorem Inv.lS {j:List (Addr×Obj)} (I:Inv X aZ σ H s) (h:∀p∈j,s.heap.get? p.1=some p.2/\H p.1=none/\p.1≠X.env.locals/\p.1∉X.fs/\∀v,p.2.data≠.cell v):Inv X j σ H s:=
 ⟨I.ok,I.os,I.bare,I.base,I.loc,I.cell,I.free,I.freeC,fun p n=>(List.mem_append.mp n).elim (fun z=>I.pin p (Qak _ z)) (h p),I.bp,I.len⟩
theorem ye{N:List Str}(n:N.Nodup){i j:Nat}{x:Str}(a:N[i]?=some x)(b:N[j]?=some x):i=j:=by obtain⟨h1,z⟩:=List.getElem?_eq_some_iff.mp a;obtain⟨h2,B⟩:=List.getElem?_eq_some_iff.mp b;exact(V9 n).mp (z.trans B.symm)
theorem yU{M:Model}{A:Around}{E:Value->Shared->Prop}{i:Nat}{x:Str}{v:V}{u:Value}{Q:Unit->Shared->Prop}(I:Inv X aZ σ H s)(hN:X.N.Nodup)(hi:X.N[i]?=some x)(J:Loc X.env.scope x)(r:QR v u)
  (h:∀s',Inv X aZ (σ.set i (some v)) H s'->(∃a,Heap.SameBut a s.heap s'.heap/\(a=X.env.locals\/X.env.cells.lookup x=some a))->Q () s') (hf:X.fn x=true\/X.env.scope.names.lookup x=some .local:=by first|exact .inl rfl|exact .inr rfl|assumption):wpAny M A (storeName X.env x u) Q E s:=by
 obtain⟨m,hn,hl⟩:=id I.loc;have ab:(X.env.scope.kind==.class||(X.env.scope.kind==.module&&X.env.locals != X.env.globals))=false:=by rw[I.ok.kind];rfl
 have ac:i<σ.length:=by rw[I.len];exact(List.getElem?_eq_some_iff.mp hi).1
 have BK:=I.BK
 have F:∀{a:Addr} {h':Heap},(∃o,s.heap.get? a=some o/\H a=none)->Heap.SameBut a s.heap h'->dg X.prog X.w H h':=fun {a h'} ha B b ob e=>by
  obtain⟨_,_,O⟩:=ha;refine(I.bp b ob e).ig (fun c w' hc q=>(B.2 c ?_).trans q) (fun _ q=>q) fun _ _ q=>q;rintro rfl;rcases hc with rfl|hc
  ·rw[O]at e;cases e
  ·rw[O]at hc;cases hc
 rcases J with hk|hk
 ·refine wpAny_storeName_local hk hn (fun h' ai B=>?_) ab;obtain⟨oL,_,_,aj,_⟩:=id hn;refine h _ ⟨I.ok,I.os,I.bare,⟨fun b o e n hb J=>?_,fun b o e n hb J=>?_,I.base.free,fun b o e J=>?_,I.base.d6,I.base.dR,I.base.d5⟩,⟨_,ai,fun j y v' G U e3=>?_⟩,fun y c e=>?_,I.free,I.freeC,fun p hp=>?_,F ⟨oL,aj,I.free⟩ B,by simpa using I.len⟩ ⟨_,B,.inl Z⟩
  ·exact(B.2 b (xY (x3 (Wu e) I.ok.above))).trans (I.base.keep b o e n hb J)
  ·obtain⟨sl,G⟩:=I.base.slot b o e n hb J;exact⟨sl,(B.2 b (xY (x3 (Wu e) I.ok.above))).trans G⟩
  ·obtain⟨o',G⟩:=I.base.there b o e J;exact⟨o',(B.2 b (xY (x3 (Wu e) I.ok.above))).trans G⟩
  ·by_cases hj:j=i
   ·subst hj;rw[hi]at G;cases G;rw[Us ac]at U;cases U;exact⟨u,r,.inl ⟨hk,by simp⟩⟩
   ·rw[Uo (Ne.symm hj)] at U;obtain⟨u',r',q⟩:=hl j y v' G U e3;refine⟨u',r',?_⟩;rcases q with ⟨k,e⟩ | ⟨k,c,e,z⟩
    ·refine .inl ⟨k,?_⟩;have:y≠x:=fun e=>hj (ye hN G (e▸hi));simp[this,e]
    ·exact .inr ⟨k,c,e,z.sameBut B (BK y c e)⟩
  ·obtain⟨w',z⟩:=I.cell y c e;exact⟨w',z.sameBut B (BK y c e)⟩
  ·obtain⟨e,n,ne,nf,d⟩:=I.pin p hp;exact⟨(B.2 p.1 ne).trans e,n,ne,nf,d⟩
 ·have aa:X.fn x=true:=by
   rcases hf with z|z
   ·exact z
   ·rw[z]at hk;cases hk
  obtain⟨c,hc⟩:=I.ok.has x (.inl hk);obtain⟨w',z⟩:=I.cell x c hc;refine wpAny_storeName_cell I.ok.kind hk hc z (fun h' ad B=>?_);obtain⟨oc,af,ag⟩:=id z;refine h { s with heap:=h' } ⟨I.ok,I.os,I.bare,⟨fun b o e n hb J=>?_,fun b o e n hb J=>?_,I.base.free,fun b o e J=>?_,I.base.d6,I.base.dR,I.base.d5⟩,⟨m,hn.sameBut B (Ne.symm (BK x c hc)),fun j y v' G U e3=>?_⟩,fun y c' e=>?_,I.free,I.freeC,fun p hp=>?_,F ⟨oc,af,I.freeC x c hc⟩ B,by simpa using I.len⟩ ⟨c,B,.inr hc⟩
  ·exact(B.2 b (xY (x3 (Wu e) (I.ok.A6 x c aa hc)))).trans (I.base.keep b o e n hb J)
  ·obtain⟨sl,G⟩:=I.base.slot b o e n hb J;exact⟨sl,(B.2 b (xY (x3 (Wu e) (I.ok.A6 x c aa hc)))).trans G⟩
  ·obtain⟨o',G⟩:=I.base.there b o e J;exact⟨o',(B.2 b (xY (x3 (Wu e) (I.ok.A6 x c aa hc)))).trans G⟩
  ·by_cases hj:j=i
   ·subst hj;rw[hi]at G;cases G;rw[Us ac]at U;cases U;exact⟨u,r,.inr ⟨.inl hk,c,hc,ad⟩⟩
   ·rw[Uo (Ne.symm hj)] at U;obtain⟨u',r',q⟩:=hl j y v' G U e3;refine⟨u',r',?_⟩;rcases q with q | ⟨k,c',e,z'⟩
    ·exact .inl q
    ·refine .inr ⟨k,c',e,z'.sameBut B ?_⟩;rintro rfl;exact hj (ye hN G (I.ok.inj _ _ _ e hc▸hi))
  ·by_cases ah:c'=c
   ·subst ah;exact⟨_,ad⟩
   ·obtain⟨w2,z2⟩:=I.cell y c' e;exact⟨w2,z2.sameBut B ah⟩
  ·obtain⟨e,n,ne,nf,d⟩:=I.pin p hp;refine⟨(B.2 p.1 ?_).trans e,n,ne,nf,d⟩;intro q;rw[q,af]at e;have q':oc=p.2:=Wo e;exact d w' (by rw[<-q'];exact ag)
theorem zK{M:Model}{A:Around}{E:Value->Shared->Prop}{i:Nat}{x:Str}{v:V}{u:Value}{Q:Unit->Shared->Prop}(I:Inv X aZ σ H s)(j:X.N.Nodup)(hi:X.N[i]?=some x)(n:Loc X.env.scope x)(r:QR v u)
  (h:∀s',Inv X aZ (σ.set i (some v)) H s'->Q () s') (hf:X.fn x=true\/X.env.scope.names.lookup x=some .local:=by first|exact .inl rfl|exact .inr rfl|assumption):wpAny M A (storeName X.env x u) Q E s:=
 yU I j hi n r (fun s' z _=>h s' z) hf
theorem Inv.DD{s':Shared}{ch:List Addr}(I:Inv X aZ σ H s)(n:s'.os=s.os) (u:Un (pN X.stack) ch H H' s.heap s'.heap) (bp:dg X.prog X.w H' s'.heap) (z:AllBare s'.gens)
  (j:∀b∈ch,(b∈X.ex\/X.eM.heap.objs.size<=b)/\b≠X.env.locals/\(∀x c,X.env.cells.lookup x=some c->c≠b)/\∀p∈X.pn++aZ,p.1≠b):Inv X aZ σ H' s':=by
 obtain⟨h',g',d',t',o'⟩:=s';have e:o'=s.os:=n;subst e;exact I.call (g':=g') (t':=t') (d':=d') u bp z j
end
abbrev XK:=Value->Option Addr->Hp->Prop
abbrev St:=List (Option V)
abbrev VK:=V->Hp->Prop
variable {X:Cx} {s:Shared} {H:Hp} {w:World} {aZ:List (Addr×Obj)} {σ:St} {A:Around} {P:Program} {prog:Program} {pos:Pos} {E:Value->Shared->Prop} {us:List Value} {u:Value} {xs:List V} {x:Str} {M:Model}
abbrev TE:=St->Hp->VK->Prop
abbrev TT:=St->Hp->(Bool->Hp->Prop)->Prop
abbrev TA:=St->Hp->(List V->Hp->Prop)->Prop
structure JE where
 nx:St->Hp->Prop
 rt:VK
 bk:St->Hp->Prop:=fun _ _=>False
 ct:St->Hp->Prop:=fun _ _=>False
abbrev TS:=JE->St->Hp->Prop
inductive EP(X:Cx) (aZ:List (Addr×Obj)) (σ:St) (Q:VK) (u:Value) (s':Shared):Prop
 |mk (v H':_):Inv X aZ σ H' s'->QR v u->Q v H'->EP X aZ σ Q u s'
def TP(X:Cx) (aZ:List (Addr×Obj)) (σ:St) (Q:Bool->Hp->Prop) (b:Bool) (s':Shared):Prop:=∃H',Inv X aZ σ H' s'/\Q b H'
inductive AP(X:Cx) (aZ:List (Addr×Obj)) (σ:St) (Q:List V->Hp->Prop) (us:List Value) (s':Shared):Prop
 |mk (vs H':_):Inv X aZ σ H' s'->QH vs us->Q vs H'->AP X aZ σ Q us s'
def SP(X:Cx) (aZ:List (Addr×Obj)) (D:JE) (f:Flow) (s':Shared):Prop:=
 match f with
 |.next=>∃j H',Inv X aZ j H' s'/\D.nx j H'
 |.brk=>∃j H',Inv X aZ j H' s'/\D.bk j H'
 |.cont=>∃j H',Inv X aZ j H' s'/\D.ct j H'
 |.ret u=>∃v j H',Inv X aZ j H' s'/\QR v u/\D.rt v H'
def PE(X:Cx)(e:Expr)(t:TE):Prop:=
 ∀(aZ:List (Addr×Obj)) (s:Shared) (σ:St) (H:Hp) (Q:VK),Inv X aZ σ H s->t σ H Q->wpAny (model X.prog X.w) X.A (eval e X.env) (EP X aZ σ Q) X.xe s
def PT(X:Cx)(e:Expr)(t:TT):Prop:=
 ∀(aZ:List (Addr×Obj)) (s:Shared) (σ:St) (H:Hp) (Q:Bool->Hp->Prop),Inv X aZ σ H s->t σ H Q->wpAny (model X.prog X.w) X.A (isTrue e X.env (eval e X.env)) (TP X aZ σ Q) X.xe s
def PW(X:Cx)(e:Expr)(t:TT):Prop:=
 ∀(j:Sem Value) (aZ:List (Addr×Obj)) (s:Shared) (σ:St) (H:Hp) (Q:Bool->Hp->Prop),Inv X aZ σ H s->t σ H Q->wpAny (model X.prog X.w) X.A (isTrue e X.env j) (TP X aZ σ Q) X.xe s
theorem PW.pt{e:Expr}{t:TT}(h:PW X e t):PT X e t:=h _
def PA(X:Cx)(es:List Expr)(t:TA):Prop:=
 ∀(pos:Pos) (aZ:List (Addr×Obj)) (s:Shared) (σ:St) (H:Hp) (Q:List V->Hp->Prop),Inv X aZ σ H s->t σ H Q->wpAny (model X.prog X.w) X.A (spliced (backTo pos (starEach es X.env))) (AP X aZ σ Q) X.xe s
def PS(X:Cx)(st:Stmt)(t:TS):Prop:=
 ∀(aZ:List (Addr×Obj)) (s:Shared) (σ:St) (H:Hp) (D:JE),Inv X aZ σ H s->t D σ H->wpAny (model X.prog X.w) X.A (exec st X.env) (SP X aZ D) X.xe s
def mr(X:Cx)(st:List Stmt)(t:TS):Prop:=
 ∀(aZ:List (Addr×Obj)) (s:Shared) (σ:St) (H:Hp) (D:JE),Inv X aZ σ H s->t D σ H->wpAny (model X.prog X.w) X.A (execs st X.env) (SP X aZ D) X.xe s
theorem bz{α:Type}{t:Sem α}{Q j:α->Shared->Prop}(h:wpAny M A t Q E s)(n:∀a s,Q a s->j a s):wpAny M A t j E s:=wpAny_mono h n fun _ _ x=>x
section
inductive ZH(i:Nat)(σ:St)(H:Hp)(Q:VK):Prop
 |mk (v:_):σ[i]?=some (some v)->Q v H->ZH i σ H Q
def tC(v:V):TE:=fun _ H Q=>Q v H
theorem jV{i:Nat}(z:X.N[i]?=some x)(B:vJ X.env.scope x) (hd:(x==("__debug__" : Str))=false:=by decide) (n:(x==("__classdict__" : Str))=false:=by decide):PE X (.Name x pos) (ZH i):=by
 intro aZ s σ H Q I h;obtain⟨v,e,h⟩:=h;obtain⟨m,F,hl⟩:=I.loc;obtain⟨u,r,l⟩:=hl i x v z e B;have fin:EP X aZ σ Q u s:=⟨v,H,I,r,h⟩;rcases l with⟨hk,G⟩|⟨hk,c,hc,j⟩
 ·exact wpAny_Name (wpAny_loadName_local I.ok.kind hk F G fin) hd
 ·rcases hk with hk | hk
  ·exact wpAny_Name (wpAny_loadName_cell I.ok.kind hk hc j fin) hd
  ·exact wpAny_Name (wpAny_loadName_free I.ok.kind hk hc j fin n) hd
theorem Qi{i j pos}:PE X (.Constant (.int i) j pos) (tC (.int i)):=fun _ _ _ H _ I h=>wpAny_Constant_int ⟨.int i,H,I.tok _,⟨_,Z⟩,h⟩
theorem Xh{b j pos}:PE X (.Constant (.bool b) j pos) (tC (.bl b)):=fun _ _ _ H _ I h=>Constant_bool ⟨.bl b,H,I,Z,h⟩
theorem QT{j pos}:PE X (.Constant .none j pos) (tC .bQ):=fun _ _ _ H _ I h=>Constant_none ⟨.bQ,H,I,Z,h⟩
theorem Zi{x j pos}:PE X (.Constant (.str x) j pos) (tC (.str x)):=fun _ _ _ H _ I h=>Calls.Constant_str ⟨.str x,H,I.tok _,⟨_,Z⟩,h⟩
def Gl(X:Cx)(x:Str):Prop:=X.env.kindOf x=some .globalImplicit
theorem j0{Q:Value->Shared->Prop}(I:Inv X aZ σ H s)(j:Gl X x)(n:X.mg x=some u)(h:Q u s)
  (hd:(x==("__debug__" : Str))=false:=by decide):wpAny (model X.prog X.w) X.A (eval (.Name x pos) X.env) Q E s:=
 Calls.Name_function_global I.ok.kind j (Calls.loadGlobal_global (by rw[I.ok.glob];exact I.mod.glob.keeps I.bk) n h) hd
theorem X8{Q:Value->Shared->Prop}(I:Inv X aZ σ H s)(j:Gl X x)(n:X.mg x=none)(z:bootBuiltins x=some u)(h:Q u s)
  (B:x ≠ "__name__" := by decide) (hd:(x==("__debug__" : Str))=false:=by decide):wpAny (model X.prog X.w) X.A (eval (.Name x pos) X.env) Q E s:=by
 obtain⟨F,h1,h2⟩:=I.mod.blt;exact Calls.Name_function_global I.ok.kind j (Calls.loadGlobal_builtin (by rw[I.ok.glob];exact I.mod.glob.keeps I.bk) n (by rw[I.ok.blt];exact h1.keeps I.bk) ((h2 x B).trans z) h) hd
theorem Zo{v:V}(j:Gl X x)(n:X.mg x=some u)(r:QR v u) (hd:(x==("__debug__" : Str))=false:=by decide):PE X (.Name x pos) (tC v):=
 fun _ _ _ H _ I h=>j0 I j n ⟨v,H,I,r,h⟩ hd
variable {a b:Expr} {ta tb:TE}
def PC(X:Cx)(op:CmpOp)(a b:Expr)(t:TE):Prop:=
 ∀(aZ:List (Addr×Obj)) (s:Shared) (σ:St) (H:Hp) (Q:VK),Inv X aZ σ H s->t σ H Q->
  wpAny (model X.prog X.w) X.A (eval a X.env) (fun v j=>wpAny (model X.prog X.w) X.A (eval b X.env) (fun u n=>wpAny (model X.prog X.w) X.A (compareOp op v u) (EP X aZ σ Q) X.xe n) X.xe j) X.xe s
theorem rG(b:Expr){op:CmpOp}(h:op≠.In)(h2:op≠.NotIn):behindInMarks op b=false:=by
 have j:(op==CmpOp.In)=false:=by cases op<;>first|rfl|exact Wm Z h
 have n:(op==CmpOp.NotIn)=false:=by cases op<;>first|rfl|exact Wm Z h2
 cases b<;>first|rfl|(show(_&&(op==.In||op==.NotIn)&&_)=false;simp[j,n])
def DP(ta:TE):TE:=fun σ H Q=>ta σ H fun x H1=>Q (.bl (decide (x=.bQ))) H1
def Fz(ta:TE):TE:=fun σ H Q=>ta σ H fun x H1=>Q (.bl (!decide (x=.bQ))) H1
theorem QR.fE{x:V}{v:Value}(r:QR x v):(v==Value.none)=decide (x=.bQ):=by
 cases x with
 |bQ=>cases r;rfl
 |bl _=>cases r;rfl
 |int _=>obtain⟨t,rfl⟩:=r;rfl
 |str _=>obtain⟨t,rfl⟩:=r;rfl
 |byt _=>obtain⟨t,rfl⟩:=r;rfl
 |flt _=>obtain⟨t,rfl⟩:=r;rfl
 |ref _=>cases r;rfl
 |ty _=>cases r;rfl
theorem Y7{j cq}(n:PE X a ta):PC X .Is a (.Constant .none j cq) (DP ta):=by intro aZ s σ H Q I h;refine bz (n aZ s σ H _ I h) fun v J z=>?_;obtain⟨x,H1,B,F,G⟩:=z;exact Constant_none (is_none_gen ⟨.bl _,H1,B,by rw[F.fE];rfl,G⟩)
theorem ZW{j cq}(n:PE X a ta):PC X .IsNot a (.Constant .none j cq) (Fz ta):=by intro aZ s σ H Q I h;refine bz (n aZ s σ H _ I h) fun v J z=>?_;obtain⟨x,H1,B,F,G⟩:=z;exact Constant_none (isnot_none_gen ⟨.bl _,H1,B,by rw[F.fE];rfl,G⟩)
inductive Le(Q:Bool->Hp->Prop)(x:V)(H1:Hp):Prop
 |mk (c:_):x=.bl c->Q c H1->Le Q x H1
def tB(t:TE):TT:=fun σ H Q=>t σ H (Le Q)
theorem Q7{op:CmpOp}{t:TE}(h:PC X op a b t) (h1:behindInMarks op b=false:=by first|exact rG _ Wa (by decide)|rfl):PT X (.Compare a [op] [b] pos) (tB t):=by intro aZ s σ H Q I hw;refine wpAny_isTrue_Compare1 (bz (h aZ s σ H _ I hw) fun v B h1=>bz h1 fun u F h2=>bz h2 fun c G ⟨x,H1,j,n,z⟩=>?_) h1;obtain⟨d,rfl,q⟩:=z;cases n;exact wpAny_truthy_bool ⟨H1,j,q⟩
theorem Zd{e:Expr}{t:TE}(h:PE X e t) (n:∀j,isTrue e X.env j=(do let v <- j;standAt e.pos;holding [v] (truthy v)):=by intro _;rfl):PT X e (tB t):=by intro aZ s σ H Q I hw;refine isTrue_plain (bz (h aZ s σ H _ I hw) fun v G ⟨x,H1,z,B,F⟩=>?_) (n _);obtain⟨d,rfl,q⟩:=F;cases B;exact wpAny_truthy_bool ⟨H1,z,q⟩
variable {tA Hq:TT} {JS:List Expr}
def E8(t u:TT):TT:=fun σ H Q=>t σ H fun c H1=>if c=true then u σ H1 Q else Q false H1
def KY(t u:TT):TT:=fun σ H Q=>t σ H fun c H1=>if c=true then Q true H1 else u σ H1 Q
def IH(t:TT):TT:=fun σ H Q=>t σ H fun c H1=>Q (!c) H1
theorem XY(j:PT X a tA):PW X (.BoolOp .And [a] pos) tA:=by
 intro n aZ s σ H Q I h;refine isTrue_and (bz (j aZ s σ H Q I h) fun c z e=>?_);cases c with
 |true=>exact isTrue_and_nil e
 |false=>exact e
theorem ZM(j:PT X a tA):PW X (.BoolOp .Or [a] pos) tA:=by
 intro n aZ s σ H Q I h;refine isTrue_or (bz (j aZ s σ H Q I h) fun c z e=>?_);cases c with
 |false=>exact isTrue_or_nil e
 |true=>exact e
theorem Y2(z:PT X a tA) (B:PW X (.BoolOp .And (b::JS) pos) Hq):PW X (.BoolOp .And (a::b::JS) pos) (E8 tA Hq):=by
 intro F aZ s σ H Q I h;refine isTrue_and (bz (z aZ s σ H _ I h) fun c G ⟨H1,j,n⟩=>?_);cases c with
 |true=>exact B F aZ G σ H1 Q j n
 |false=>exact⟨H1,j,n⟩
theorem Xq(z:PT X a tA) (B:PW X (.BoolOp .Or (b::JS) pos) Hq):PW X (.BoolOp .Or (a::b::JS) pos) (KY tA Hq):=by
 intro F aZ s σ H Q I h;refine isTrue_or (bz (z aZ s σ H _ I h) fun c G ⟨H1,j,n⟩=>?_);cases c with
 |true=>exact⟨H1,j,n⟩
 |false=>exact B F aZ G σ H1 Q j n
theorem X7(j:PT X a tA):PT X (.UnaryOp .Not a pos) (IH tA):=by intro aZ s σ H Q I h;exact isTrue_not (j aZ s σ H (fun c H1=>Q (!c) H1) I h)
def Ey(ta tb:TE):TE:=fun σ H Q=>ta σ H fun x H1=>∃c,x=.bl c/\if c=true then tb σ H1 Q else Q (.bl false) H1
def Kp(ta tb:TE):TE:=fun σ H Q=>ta σ H fun x H1=>∃c,x=.bl c/\if c=true then Q (.bl true) H1 else tb σ H1 Q
theorem Y5{op}{t:TE}(h:PE X a t):PE X (.BoolOp op [a] pos) t:=fun aZ s σ H Q I hw=>BoolOp_one (h aZ s σ H Q I hw)
theorem Y6(z:PE X a ta) (B:PE X (.BoolOp .And (b::JS) pos) tb):PE X (.BoolOp .And (a::b::JS) pos) (Ey ta tb):=by
 intro aZ s σ H Q I h;refine BoolOp_and (bz (z aZ s σ H _ I h) fun v F G=>?_);obtain⟨x,H1,n,J,j⟩:=G;obtain⟨c,rfl,j⟩:=j;cases J;refine wpAny_truthy_bool ?_;cases c with
 |true=>exact B aZ F σ H1 Q n j
 |false=>exact⟨.bl false,H1,n,Z,j⟩
theorem Eu(z:PE X a ta) (B:PE X (.BoolOp .Or (b::JS) pos) tb):PE X (.BoolOp .Or (a::b::JS) pos) (Kp ta tb):=by
 intro aZ s σ H Q I h;refine BoolOp_or (bz (z aZ s σ H _ I h) fun v F G=>?_);obtain⟨x,H1,n,J,j⟩:=G;obtain⟨c,rfl,j⟩:=j;cases J;refine wpAny_truthy_bool ?_;cases c with
 |false=>exact B aZ F σ H1 Q n j
 |true=>exact⟨.bl true,H1,n,Z,j⟩
def Lg(t:TT)(ta tb:TE):TE:=fun σ H Q=>t σ H fun c H1=>if c=true then ta σ H1 Q else tb σ H1 Q
theorem XI{c:Expr}(hc:PT X c tA)(B:PE X a ta)(F:PE X b tb):PE X (.IfExp c a b pos) (Lg tA ta tb):=by
 intro aZ s σ H Q I h;refine wpAny_IfExp (bz (hc aZ s σ H _ I h) fun d j ⟨H1,n,z⟩=>?_);cases d with
 |true=>exact B aZ j σ H1 Q n z
 |false=>exact F aZ j σ H1 Q n z
end
def ba(K:xB)(H:Hp)(a:Addr)(xs:List V):Prop:=
 Rd H a (.lst xs)\/
  ∃(o:Obj)(a8:Array Value)(n:Nat),K.lookup a=some o/\o.cls=.type "list" /\ o.dict=none/\o.data=.seq a8 n/\a8.size<=sizeLine/\QH xs a8.toList
def bY(K:xB)(H:Hp)(a:Addr)(xs:List V):Prop:=
 Rd H a (.tup xs)\/
  ∃(o:Obj)(a8:Array Value)(n:Nat),K.lookup a=some o/\o.cls=.type "tuple" /\ o.data=.seq a8 n/\a8.size<=sizeLine/\QH xs a8.toList
def KH:Value->Option V
 |.none=>some .bQ
 |.bool b=>some (.bl b)
 |.int i _=>some (.int i)
 |.str x _=>some (.str x)
 |.bytes b _=>some (.byt b)
 |.float b _=>some (.flt b)
 |.ref a=>some (.ref a)
 |.type n=>some (.ty n)
 |_=>none
theorem QR.abs{x:V}(r:QR x u):KH u=some x:=by
 cases x with
 |bQ=>cases r;rfl
 |bl _=>cases r;rfl
 |int _=>obtain⟨t,rfl⟩:=r;rfl
 |str _=>obtain⟨t,rfl⟩:=r;rfl
 |byt _=>obtain⟨t,rfl⟩:=r;rfl
 |flt _=>obtain⟨t,rfl⟩:=r;rfl
 |ref _=>cases r;rfl
 |ty _=>cases r;rfl
theorem QR.inj{x y:V}(r:QR x u)(q:QR y u):x=y:=Wo (r.abs.symm.trans q.abs)
theorem QH.inj:∀{xs ys:List V} {us:List Value},QH xs us->QH ys us->xs=ys
 |_,_,_,.nil,.nil=>rfl
 |_,_,_,.cons r t,.cons j t'=>by rw[r.inj j,QH.inj t t']
section
variable {a:Addr} {ys:List V}
theorem ba.of{K:xB} (h:H a=some (.lst xs)):ba K H a xs:=.inl (.inl h)
theorem bY.of{K:xB} (h:H a=some (.tup xs)):bY K H a xs:=.inl (.inl h)
theorem Inv.list(I:Inv X aZ σ H s)(h:ba X.K H a xs):∃a8:List Value,QH xs a8/\PlainL s.heap a a8.toArray/\xs.length<=sizeLine:=by
 rcases h with h|⟨o,a8,n,hk,hc,hd,j,hz,r⟩
 ·obtain⟨z,a8,n,r,e⟩:=h.ok I.bp;exact⟨a8,r,⟨_,n,e,Z,Z,Z⟩,z⟩
 ·refine⟨a8.toList,r,⟨o,n,I.eK a o hk,hc,hd,by simpa using j⟩,?_⟩;have e:=r.length;simp only[VF]at e;omega
theorem Inv.tuple(I:Inv X aZ σ H s)(h:bY X.K H a xs):∃a8:List Value,QH xs a8/\IsTup s.heap a a8.toArray/\xs.length<=sizeLine:=by
 rcases h with h|⟨o,a8,n,hk,hc,j,hz,r⟩
 ·obtain⟨z,a8,r,p⟩:=h.ok I.bp;exact⟨a8,r,p,z⟩
 ·refine⟨a8.toList,r,⟨o,I.eK a o hk,hc,n,by simpa using j⟩,?_⟩;have e:=r.length;simp only[VF]at e;omega
theorem Inv.cP(I:Inv X aZ σ H s)(h:ba X.K H a xs)(h':ba X.K H a ys):xs=ys:=by
 obtain⟨a8,r,⟨o,n,e,_,_,d⟩,_⟩:=I.list h;obtain⟨its',z,⟨o',F,j,_,_,d'⟩,_⟩:=I.list h';rw[e]at j;cases j;rw[d]at d';injection d' with B _
 have:a8=its':=by simpa using Wn Qb8 B
 subst this;exact r.inj z
theorem Inv.oy(I:Inv X aZ σ H s)(h:bY X.K H a xs)(h':bY X.K H a ys):xs=ys:=by
 obtain⟨a8,r,⟨o,e,_,n,d⟩,_⟩:=I.tuple h;obtain⟨its',z,⟨o',j,_,F,d'⟩,_⟩:=I.tuple h';rw[e]at j;cases j;rw[d]at d';injection d' with B _
 have:a8=its':=by simpa using Wn Qb8 B
 subst this;exact r.inj z
end
abbrev Cx.eJ(X:Cx)(E:Value->Shared->Prop):Cx:={ X with xe:=E }
abbrev Cx.EG(X:Cx):Cx:=X.eJ fun _ _=>False
theorem Cx.Ok.eJ(ok:X.Ok)(E:Value->Shared->Prop):(X.eJ E).Ok:=
 ⟨ok.mod,ok.kind,ok.glob,ok.blt,ok.above,ok.inj,ok.has,ok.A6,ok.hd,ok.frames,ok.EV,ok.exf,ok.bs,ok.bsz,ok.noex,ok.exfs,ok.d3,ok.frf⟩
theorem Cx.Ok.cY (ok:(X.eJ E).Ok):X.Ok:=
 ⟨ok.mod,ok.kind,ok.glob,ok.blt,ok.above,ok.inj,ok.has,ok.A6,ok.hd,ok.frames,ok.EV,ok.exf,ok.bs,ok.bsz,ok.noex,ok.exfs,ok.d3,ok.frf⟩
theorem Inv.eJ(I:Inv X aZ σ H s)(E:Value->Shared->Prop):Inv (X.eJ E) aZ σ H s:=⟨I.ok.eJ E,I.os,I.bare,I.base,I.loc,I.cell,I.free,I.freeC,I.pin,I.bp,I.len⟩
theorem Inv.cY (I:Inv (X.eJ E) aZ σ H s):Inv X aZ σ H s:=⟨I.ok.cY,I.os,I.bare,I.base,I.loc,I.cell,I.free,I.freeC,I.pin,I.bp,I.len⟩
theorem SP.cY{D:JE}{f:Flow}{s':Shared} (h:SP (X.eJ E) aZ D f s'):SP X aZ D f s':=by
 cases f with
 |next=>obtain⟨j,H',I,q⟩:=h;exact⟨j,H',I.cY,q⟩
 |brk=>obtain⟨j,H',I,q⟩:=h;exact⟨j,H',I.cY,q⟩
 |cont=>obtain⟨j,H',I,q⟩:=h;exact⟨j,H',I.cY,q⟩
 |ret u=>obtain⟨v,j,H',I,r,q⟩:=h;exact⟨v,j,H',I.cY,r,q⟩
theorem mr.EG{st:List Stmt}{t:TS}(h:mr X.EG st t):mr X st t:=fun aZ s σ H D I hw=>
 wpAny_mono (h aZ s σ H D (I.eJ _) hw) (fun _ _ q=>q.cY) fun _ _ z=>False.elim z
section
variable {st:Stmt} {JS:List Stmt} {t u:TS} {e:Expr} {te:TE}
def Af:TS:=fun D σ H=>D.nx σ H
def AB(t u:TS):TS:=fun D σ H=>t { D with nx:=u D } σ H
theorem Qq:mr X [] Af:=fun _ _ σ H _ I h=>wpAny_execs_nil ⟨σ,H,I,h⟩
theorem Qb(h1:PS X st t)(h2:mr X JS u):mr X (st::JS) (AB t u):=by
 intro aZ s σ H D I h;refine wpAny_execs_cons (bz (h1 aZ s σ H { D with nx:=u D } I h) fun f j q=>?_);cases f with
 | next=>
  obtain⟨n,H',z,q⟩:=q;exact h2 aZ j n H' D z q
 |ret v=>exact q
 |brk=>exact q
 |cont=>exact q
theorem Qd(h1:PS X st t):mr X [st] t:=by
 intro aZ s σ H D I h;refine wpAny_execs_cons (bz (h1 aZ s σ H D I h) fun f j q=>?_);cases f with
 |next=>exact wpAny_execs_nil q
 |ret v=>exact q
 |brk=>exact q
 |cont=>exact q
theorem Inv.quiet(I:Inv X aZ σ H s):interactive X.env=false:=by simp[interactive,I.ok.kind]
def F1(te:TE):TS:=fun D σ H=>te σ H fun _ H1=>D.nx σ H1
theorem Zf(j:PE X e te)(n:swapsWith e none pos.line X.env=pure false:=by rfl):PS X (.Expr e pos) (F1 te):=by intro aZ s σ H D I h;exact wpAny_Expr_any (bz (j aZ s σ H _ I h) fun v F ⟨x,H1,z,G,B⟩=>⟨σ,H1,z,B⟩) I.quiet n
def pF(te:TE):TS:=fun D σ H=>te σ H D.rt
theorem Qj(j:PE X e te):PS X (.Return (some e) pos) (pF te):=by intro aZ s σ H D I h;exact wpAny_Return_some (bz (j aZ s σ H _ I h) fun v F ⟨x,H1,n,z,B⟩=>⟨x,σ,H1,n,z,B⟩)
def ES(c:TT)(t u:TS):TS:=fun D σ H=>c σ H fun b H1=>if b=true then t D σ H1 else u D σ H1
theorem QD{c:Expr}{a b:List Stmt}{tc:TT}(hc:PT X c tc)(B:mr X a t)(F:mr X b u):PS X (.If c a b pos) (ES tc t u):=by
 intro aZ s σ H D I h;refine wpAny_If (bz (hc aZ s σ H _ I h) fun d j ⟨H1,n,z⟩=>?_);cases d with
 |true=>exact B aZ j σ H1 D n z
 |false=>exact F aZ j σ H1 D n z
end
abbrev TG:=V->St->Hp->(St->Hp->Prop)->Prop
abbrev Dk:=List V->St->Hp->(St->Hp->Prop)->Prop
def PG(X:Cx)(j:Expr)(t:TG):Prop:=
 ∀(aZ:List (Addr×Obj)) (s:Shared) (σ:St) (H:Hp) (v:V) (u:Value) (Q:St->Hp->Prop),Inv X aZ σ H s->QR v u->t v σ H Q->
  wpAny (model X.prog X.w) X.A (assign j X.env u) (fun _ s'=>∃n H',Inv X aZ n H' s'/\Q n H') X.xe s
def HB(X:Cx)(n:List Expr)(t:Dk):Prop:=
 ∀(aZ:List (Addr×Obj)) (s:Shared) (σ:St) (H:Hp) (vs:List V) (us:List Value) (Q:St->Hp->Prop),Inv X aZ σ H s->QH vs us->t vs σ H Q->
  wpAny (model X.prog X.w) X.A (assignInOrder ((assignEach n X.env).map (·.2)) us) (fun _ s'=>∃j H',Inv X aZ j H' s'/\Q j H') X.xe s
abbrev Hk:=V->V->Hp->VK->Prop
def K4(X:Cx)(op:Operator)(t:Hk):Prop:=
 ∀(aZ:List (Addr×Obj)) (s:Shared) (σ:St) (H:Hp) (x y:V) (v u:Value) (Q:VK),Inv X aZ σ H s->QR x v->QR y u->t x y H Q->
  wpAny (model X.prog X.w) X.A (inplaceOp op v u) (EP X aZ σ Q) X.xe s
def Zz(i:Nat):TG:=fun v σ H Q=>Q (σ.set i (some v)) H
theorem wI{i:Nat}(j:X.N.Nodup)(hi:X.N[i]?=some x)(n:Loc X.env.scope x)(hf:X.fn x=true\/X.env.scope.names.lookup x=some .local:=by first|exact .inl rfl|exact .inr rfl|assumption):PG X (.Name x pos) (Zz i):=by intro aZ s σ H v u Q I r h;exact wpAny_assign_Name (zK I j hi n r (fun s' z=>⟨_,H,z,h⟩) hf)
def xg:Dk:=fun vs σ H Q=>vs=[]/\Q σ H
inductive Z8(t:TG)(u:Dk)(vs:List V)(σ:St)(H:Hp)(Q:St->Hp->Prop):Prop
 |mk (v r:_):vs=v::r->(t v σ H fun dA H'=>u r dA H' Q)->Z8 t u vs σ H Q
theorem Zl:HB X [] xg:=by intro aZ s σ H vs us Q I r h;obtain⟨e,h⟩:=h;subst e;cases r;exact assignInOrder_nil ⟨σ,H,I,h⟩
theorem QF{e:Expr}{es:List Expr}{t:TG}{u:Dk}(h1:PG X e t)(h2:HB X es u)
  (j:(assignEach (e::es) X.env).map (·.2)=assign e X.env::(assignEach es X.env).map (·.2):=by rfl):HB X (e::es) (Z8 t u):=by
 intro aZ s σ H vs us Q I r h;obtain⟨v,O,n,h⟩:=h;subst n;cases r with
 | cons r z=>
  rw[j];refine assignInOrder_cons (bz (h1 aZ s σ H _ _ _ I r h) fun _ B ⟨F,H1,G,J⟩=>?_);exact h2 aZ B F H1 _ _ Q G z J
inductive yK(K:xB)(n:Nat)(t:Dk)(v:V)(σ:St)(H:Hp)(Q:St->Hp->Prop):Prop
 |mk (a xs:_):v=.ref a->bY K H a xs->xs.length=n->t xs σ H Q->yK K n t v σ H Q
theorem ZF{es:List Expr}{k:Nat}{t:Dk}{n:Nat}(hc:X.calm=true)(h:HB X es t)
  (B:(assignEach es X.env).length=n:=by rfl) (j:(assignEach es X.env).findIdx? (·.1)=none:=by rfl):PG X (.Tuple es k pos) (yK X.K n t):=by
 intro aZ s σ H v u Q I r hw;obtain⟨a,xs,F,G,hl,hw⟩:=hw;subst F;cases r;obtain⟨a8,z,J,hz⟩:=I.tuple G;refine assign_Tuple_tuple (I.ok.hd hc) J (by simp[B,<-hl,z.length]) j fun h' O=>?_;have U:Inv X aZ σ H { s with heap:=h' }:=I.kept (t':=s.toks) fun b o e=>O b o (xY (Wu e)) e;exact h aZ _ σ H xs _ Q U (by simpa using z) hw
def va(te:TE)(g:TG):TS:=fun D σ H=>te σ H fun x H1=>g x σ H1 D.nx
theorem C9{i:Nat}{e:Expr}{te:TE}{cq:Pos}(j:X.N.Nodup)(hi:X.N[i]?=some x)(n:Loc X.env.scope x)(z:PE X e te) (B:swapsWith e (some (.Name x cq)) pos.line X.env=pure false:=by rfl) (hf:X.fn x=true\/X.env.scope.names.lookup x=some .local:=by first|exact .inl rfl|exact .inr rfl|assumption) :
  PS X (.Assign [.Name x cq] e pos) (va te (Zz i)):=by
 intro aZ s σ H D I h;refine wpAny_Assign_Name (bz (z aZ s σ H _ I h) fun v U ⟨y,H1,F,G,J⟩=>?_) B;exact zK F j hi n G (fun s2 O=>⟨_,H1,O,J⟩) hf
inductive DR(i:Nat)(te:TE)(ti:Hk)(D:JE)(σ:St)(H:Hp):Prop
 |mk (x:_):σ[i]?=some (some x)->(te σ H fun y H1=>ti x y H1 fun z H2=>D.nx (σ.set i (some z)) H2)->DR i te ti D σ H
theorem Bg{i:Nat}{e:Expr}{te:TE}{op:Operator}{G:Hk}{cq:Pos}(J:X.N.Nodup)(hi:X.N[i]?=some x)(n:Loc X.env.scope x)(O:PE X e te)(U:K4 X op G)(hf:X.fn x=true\/X.env.scope.names.lookup x=some .local:=by first|exact .inl rfl|exact .inr rfl|assumption) :
  PS X (.AugAssign (.Name x cq) op e pos) (DR i te G):=by
 intro aZ s σ H D I h;obtain⟨v,e1,h⟩:=h;obtain⟨m,hn,hl⟩:=I.loc;have B:vJ X.env.scope x:=by rcases n with k|k;exact .inl k;exact .inr (.inl k)
 obtain⟨u,r,l⟩:=hl i x v hi e1 B;refine wpAny_AugAssign_Name ?_
 have go:wpAny (model X.prog X.w) X.A (eval e X.env) (fun w J'=>wpAny (model X.prog X.w) X.A (inplaceOp op u w) (fun r I0=>wpAny (model X.prog X.w) X.A (storeName X.env x r) (fun _=>SP X aZ D .next) X.xe I0) X.xe J') X.xe s:=by refine bz (O aZ s σ H _ I h) fun w s1 F=>?_;obtain⟨y,H1,I1,r1,q1⟩:=F;refine bz (U aZ s1 σ H1 v y u w _ I1 r r1 q1) fun z s2 F=>?_;obtain⟨zv,H2,I2,r2,q2⟩:=F;exact zK I2 J hi n r2 (fun s3 I3=>⟨_,H2,I3,q2⟩) hf
 rcases l with⟨hk,hm⟩|⟨hk,c,hc,j⟩
 ·exact wpAny_loadName_local I.ok.kind hk hn hm go
 ·rcases hk with hk | hk
  ·exact wpAny_loadName_cell I.ok.kind hk hc j go
  ·rcases n with k | k
   ·have:X.env.scope.names.lookup x=some .free:=hk;rw[k]at this;cases this
   ·have:X.env.scope.names.lookup x=some .free:=hk;rw[k]at this;cases this
def Ln(f:Int->Int->Int):Hk:=fun x y H Q=>∃i j,x=.int i/\y=.int j/\Q (.int (f i j)) H
theorem Bm:K4 X .Add (Ln fun i j=>i+j):=by intro aZ s σ H x y v u Q I n z h;obtain⟨i,j,B,F,q⟩:=h;subst B;subst F;obtain⟨t,rfl⟩:=n;obtain⟨t',rfl⟩:=z;exact iadd_int ⟨.int _,H,I.tok _,⟨_,Z⟩,q⟩
def B'(c:TT)(tb:TS):TS:=fun D σ H=>∃W:Nat->St->Hp->Prop,(∃m,W m σ H)/\∀m σ H,W m σ H->
 c σ H fun b H1=>if b=true then ∃N:St->Hp->Prop,(∀j H',N j H'->∃n,n<m/\W n j H')/\tb { D with nx:=N,ct:=N,bk:=D.nx } σ H1 else D.nx σ H1
theorem Yn{c:Expr}{j:List Stmt}{tc:TT}{tb:TS} (hp:PassesOwn (model X.prog X.w) X.A X.env X.xe) (hc:PT X c tc) (hb:mr X j tb):PS X (.While c j [] pos) (B' tc tb):=by
 intro aZ s σ H D I h;obtain⟨W,⟨m0,w0⟩,turn⟩:=h;refine wpAny_While (codeAny_whileLoop (fun n s'=>∃dA H',Inv X aZ dA H' s'/\W n dA H') ?_ m0 ⟨σ,H,I,w0⟩);rintro n s1 ⟨F,H1,I1,w1⟩;refine wpAny_passesOwn hp (bz (hc aZ s1 F H1 _ I1 (turn n F H1 w1)) fun b s2 ⟨H2,I2,G⟩=>?_);cases b with
 | true=>
  obtain⟨N,hN,G⟩:=G;rw[Wi Z];refine wpAny_passesOwn hp (bz (hb aZ s2 F H2 _ I2 G) fun f s3 J=>?_);cases f with
  | next=>
   obtain⟨z,B,O,U⟩:=J;obtain⟨m',hm,w3⟩:=hN z B U;exact⟨m',hm,z,B,O,w3⟩
  | cont=>
   obtain⟨z,B,O,U⟩:=J;obtain⟨m',hm,w3⟩:=hN z B U;exact⟨m',hm,z,B,O,w3⟩
  |brk=>exact J
  |ret v=>exact J
 | false=>
  rw[Wh xW];exact wpAny_execs_nil ⟨F,H2,I2,G⟩
structure It where
 go:Nat->Hp->Prop
 yld:Nat->Hp->V->Hp->Prop
 stop:Nat->Hp->Prop
def zi(X:Cx) (aZ:List (Addr×Obj)) (H:Hp) (b:Addr):Prop:=
 H b=none/\b≠X.env.locals/\b∉X.fs/\(b∈X.ex\/X.eM.heap.objs.size<=b)/\(∀x c,X.env.cells.lookup x=some c->c≠b)/\∀p∈X.pn++aZ,p.1≠b
theorem Inv.fv{H H':Hp}{b:Addr}(I:Inv X aZ σ H s)(j:s.heap.objs.size<=b)(n:H' b=none):zi X aZ H' b:=by
 refine⟨n,G9 (x3 I.lt j),I.KC j,.inr (xM I.sz j),fun x c e z=>?_,fun p B z=>?_⟩
 ·obtain⟨v,q⟩:=I.cell x c e;exact Wm (x3 q.lt (by rw[z];exact j)) (Ur _)
 ·exact Wm (x3 (Wu (I.pin p B).1) (by rw[z];exact j)) (Ur _)
structure zh(P:Program)(w:World)(K:xB)(tg:Expr)(J:It)(fp:List Addr)(it:Addr)(tn:Nat->Heap->Prop):Prop where
 mem:it∈fp
 obj:∀i h,tn i h->∀b∈fp,∃o,h.get? b=some o/\∀v,o.data≠.cell v
 keep:∀i h h',tn i h->(∀b∈fp,∀o,h.get? b=some o->h'.get? b=some o)->tn i h'
 item:∀(X:Cx),X.prog=P->X.w=w->X.K=K->X.calm=true->∀(i:Nat) (aZ:List (Addr×Obj)) (s:Shared) (σ:St) (H:Hp) (E:Value->Shared->Prop),Inv X aZ σ H s->(∀b∈fp,zi X aZ H b)->tn i s.heap->J.go i H->
  wpAny (model P w) X.A (pyNext (.ref it)) (fun r s1=>∃u,r=some u/\
   wpAny (model P w) X.A (letOwnedTupleGo tg (.ref it) u) (fun _ s2=>∃x H',Inv X aZ σ H' s2/\QR x u/\J.yld i H x H'/\tn (i+1) s2.heap/\∀b∈fp,H' b=none) E s1) E s
 done:∀(X:Cx),X.prog=P->X.w=w->X.K=K->X.calm=true->∀(i:Nat) (aZ:List (Addr×Obj)) (s:Shared) (σ:St) (H:Hp) (E:Value->Shared->Prop),Inv X aZ σ H s->(∀b∈fp,zi X aZ H b)->tn i s.heap->J.stop i H->
  wpAny (model P w) X.A (pyNext (.ref it)) (fun r s1=>r=none/\Inv X aZ σ H s1) E s
 self:∀(A:Around)(i:Nat)(s:Shared)(Q:Value->Shared->Prop)(E:Value->Shared->Prop),tn i s.heap->Q (.ref it) s->wpAny (model P w) A (pyIter (.ref it)) Q E s
abbrev TI:=St->Hp->(It->Hp->Prop)->Prop
def IU(X:Cx) (aZ:List (Addr×Obj)) (σ:St) (tg:Expr) (R:It->Hp->Prop) (j:Value) (n:Shared):Prop:=
 ∃(it:Addr)(z:List Addr)(B:Nat->Heap->Prop)(J:It)(H':Hp),j=.ref it/\Inv X aZ σ H' n/\zh X.prog X.w X.K tg J z it B/\B 0 n.heap/\(∀b∈z,zi X aZ H' b)/\R J H'
def PI(X:Cx)(tg j:Expr)(n:TI):Prop:=
 ∀(aZ:List (Addr×Obj)) (s:Shared) (σ:St) (H:Hp) (R:It->Hp->Prop),Inv X aZ σ H s->n σ H R->
  wpAny (model X.prog X.w) X.A (eval j X.env) (fun v z=>wpAny (model X.prog X.w) X.A (pyIter v) (IU X aZ σ tg R) X.xe z) X.xe s
theorem yi{tg : Expr}{it : Addr}{o : Obj}{n : String}{vs : Array Value}{Q : Unit->Shared->Prop}(z : s.heap.get? it=some o)(hc : o.cls = .type n)(hd : o.data = .fields vs)
    (B : ["enumerate", "zip", "dict_itemiterator", "dict_reverseitemiterator", "odict_iterator", "itertools.zip_longest", "itertools.pairwise"].contains n=false) (j : Q () s) : wpAny M A (letOwnedTupleGo tg (.ref it) u) Q E s := by
  unfold letOwnedTupleGo
  cases tg<;>first
    |exact wpAny_pure j
    |(cases u<;>first
        |exact wpAny_pure j
        | (refine wpAny_bind (wpAny_load z ?_)
           rw [hc, hd]; show wpAny M A (if(["enumerate", "zip", "dict_itemiterator", "dict_reverseitemiterator", "odict_iterator", "itertools.zip_longest", "itertools.pairwise"].contains n&&vs[0]? == some (rawInt _))=true then _ else _) Q E s; rw [Wh (by intro h; rw [B, V2]at h; cases h)]; exact wpAny_pure j))
def sL(K:xB)(a:Addr):It:=
 ⟨fun i H=>∃xs x,ba K H a xs/\xs[i]?=some x,fun i H x H'=>H'=H/\∀xs,ba K H a xs->xs[i]?=some x,fun i H=>∃xs,ba K H a xs/\xs.length<=i⟩
def DI(K:xB)(a:Addr):It:=
 ⟨fun i H=>∃xs x,bY K H a xs/\xs[i]?=some x,fun i H x H'=>H'=H/\∀xs,bY K H a xs->xs[i]?=some x,fun i H=>∃xs,bY K H a xs/\xs.length<=i⟩
def Dq(lo:Int)(n:Nat):It:=⟨fun i _=>i<n,fun i H x H'=>H'=H/\x=.int (lo+i),fun i _=>n<=i⟩
theorem pA{K:xB}{tg:Expr}(a it:Addr):zh P w K tg (sL K a) [it] it (fun i h=>h.IsListIter it a i) where
 mem:=by simp
 obj:=fun i h st b j=>by
  have e:b=it:=by simpa using j
  subst e;obtain⟨o,e,c,d⟩:=st;exact⟨o,e,fun v z=>by rw[d]at z;cases z⟩
 keep:=fun i h h' st k=>st.at fun o e=>k it We o e
 item:=by intro X F hw G hc i aZ s σ H E I hf st J;subst F hw G;obtain⟨xs,x,B,O⟩:=J;obtain⟨a8,U,p,hz⟩:=I.list B;obtain⟨u,hu,ru⟩:=U.get O;obtain⟨f0,f1,f2,f3,f4,f5⟩:=hf it We;refine wpAny_pyNext_list_item st p.isList (x:=u) (by simpa using hu) fun h' n sb=>?_;have I1:Inv X aZ σ H { s with heap:=h' }:=I.turned (t':=s.toks) (fun b o j e=>(sb.2 b j).trans e) f0 f1 f3 f4 f5;obtain⟨o,e,c,d⟩:=id n;exact⟨u,rfl,yi (s:={ s with heap:=h' }) e c d Wa ⟨x,H,I1,ru,⟨rfl,fun ys hy=>by rw[I.cP hy B];exact O⟩,n,fun b j=>(hf b j).1⟩⟩
 done:=by intro X F hw G hc i aZ s σ H E I hf st J;subst F hw G;obtain⟨xs,B,O⟩:=J;obtain⟨a8,U,p,hz⟩:=I.list B;obtain⟨f0,f1,f2,f3,f4,f5⟩:=hf it We;have hl:=U.length;exact wpAny_pyNext_list_end (I.ok.hd hc) st p.isList (by simp;omega) fun h' eb=>⟨Z,I.turned (t':=s.toks) (fun b o j e=>eb b o j e) f0 f1 f3 f4 f5⟩
 self:=fun _ _ _ _ _ st h=>wpAny_pyIter_listiter st h
theorem i'{K:xB}{tg:Expr}(a it:Addr):zh P w K tg (DI K a) [it] it (fun i h=>h.IsTupleIter it a i) where
 mem:=by simp
 obj:=fun i h st b j=>by
  have e:b=it:=by simpa using j
  subst e;obtain⟨o,e,c,d⟩:=st;exact⟨o,e,fun v z=>by rw[d]at z;cases z⟩
 keep:=fun i h h' st k=>st.at fun o e=>k it We o e
 item:=by intro X F hw G hc i aZ s σ H E I hf st J;subst F hw G;obtain⟨xs,x,B,O⟩:=J;obtain⟨a8,U,p,hz⟩:=I.tuple B;obtain⟨u,hu,ru⟩:=U.get O;obtain⟨f0,f1,f2,f3,f4,f5⟩:=hf it We;refine wpAny_pyNext_tuple_item st (show s.heap.IsTuple a a8.toArray from p) (x:=u) (by simpa using hu) fun h' n sb=>?_;have I1:Inv X aZ σ H { s with heap:=h' }:=I.turned (t':=s.toks) (fun b o j e=>(sb.2 b j).trans e) f0 f1 f3 f4 f5;obtain⟨o,e,c,d⟩:=id n;exact⟨u,rfl,yi (s:={ s with heap:=h' }) e c d Wa ⟨x,H,I1,ru,⟨rfl,fun ys hy=>by rw[I.oy hy B];exact O⟩,n,fun b j=>(hf b j).1⟩⟩
 done:=by intro X F hw G hc i aZ s σ H E I hf st J;subst F hw G;obtain⟨xs,B,O⟩:=J;obtain⟨a8,U,p,hz⟩:=I.tuple B;obtain⟨f0,f1,f2,f3,f4,f5⟩:=hf it We;have hl:=U.length;exact wpAny_pyNext_tuple_end (I.ok.hd hc) st (show s.heap.IsTuple a a8.toArray from p) (by simp;omega) fun h' eb=>⟨Z,I.turned (t':=s.toks) (fun b o j e=>eb b o j e) f0 f1 f3 f4 f5⟩
 self:=fun _ _ _ _ _ st h=>wpAny_pyIter_tupleiter st h
theorem kK{w:World}{K:xB}{tg:Expr}(it:Addr)(lo:Int)(n:Nat):zh P w K tg (Dq lo n) [it] it (fun i h=>IsRangeIter h it (lo+(i:Nat)*1) ((n:Int)-(i:Nat)) 1) where
 mem:=by simp
 obj:=fun i h st b j=>by
  have e:b=it:=by simpa using j
  subst e
  exact⟨_,st,fun v z=>by
   have z':Data.fields _=Data.cell v:=z;cases z'⟩
 keep:=fun i h h' st k=>k it We _ st
 item:=by intro X F hw G hc i aZ s σ H E I hf st J;subst F hw G;obtain⟨O,f1,f2,U,f4,f5⟩:=hf it We;have W:=Walks.range (prog:=X.prog) (w:=X.w) (I.ok.hd hc) it lo 1 n;refine W.item i s _ _ J st fun v h' tk hv B kk=>?_;obtain⟨t,rfl⟩:=hv;have I1:Inv X aZ σ H { s with heap:=h',toks:=tk }:=I.turned (fun b o j e=>kk b o (by simpa using j) e) O f1 U f4 f5;refine⟨_,rfl,yi (s:={ s with heap:=h',toks:=tk }) (n := "range_iterator") B rfl rfl Wa ⟨.int (lo+i),H,I1,⟨t,?_⟩,⟨rfl,rfl⟩,B,fun b j=>(hf b j).1⟩⟩;rw[Int.mul_one]
 done:=by intro X F hw G hc i aZ s σ H E I hf st J;subst F hw G;obtain⟨O,f1,f2,U,f4,f5⟩:=hf it We;exact wpAny_pyNext_range_end (I.ok.hd hc) st (by have:n<=i:=J;omega) fun h' eb=>⟨Z,I.turned (t':=s.toks) (fun b o j e=>eb b o j e) O f1 U f4 f5⟩
 self:=fun _ _ _ _ _ st h=>wpAny_pyIter_rangeiter st h
section
variable {tg:Expr}
inductive tX(K:xB)(R:It->Hp->Prop)(x:V)(H1:Hp):Prop
 |mk (a:_):x=.ref a->((∃xs,ba K H1 a xs))->R (sL K a) H1->tX K R x H1
def DA(K:xB)(tl:TE):TI:=fun σ H R=>tl σ H (tX K R)
inductive Aa(K:xB)(R:It->Hp->Prop)(x:V)(H1:Hp):Prop
 |mk (a:_):x=.ref a->((∃xs,bY K H1 a xs))->R (DI K a) H1->Aa K R x H1
def HR(K:xB)(tl:TE):TI:=fun σ H R=>tl σ H (Aa K R)
theorem Q4{l:Expr}{tl:TE}(hl:PE X l tl):PI X tg l (DA X.K tl):=by
 intro aZ s σ H R I h;refine bz (hl aZ s σ H _ I h) fun v j z=>?_;obtain⟨x,H1,n,B,F⟩:=z;obtain⟨a,e,⟨xs,z⟩,q⟩:=F;subst e;cases B;obtain⟨a8,J,p,hz⟩:=n.list z;refine wpAny_pyIter_list p.isList ?_;refine⟨j.heap.objs.size,[j.heap.objs.size],_,_,H1,Z,n.kept (t':=j.toks) fun b o e=>Wt _ e,pA a _,⟨_,Wv _ Z,Z,Z⟩,fun b G=>?_,q⟩;have e:b=j.heap.objs.size:=by simpa using G
 subst e;exact n.fv (xO _) (n.bp.fresh (xO _))
theorem jU{l:Expr}{tl:TE}(hl:PE X l tl):PI X tg l (HR X.K tl):=by
 intro aZ s σ H R I h;refine bz (hl aZ s σ H _ I h) fun v j z=>?_;obtain⟨x,H1,n,B,F⟩:=z;obtain⟨a,e,⟨xs,z⟩,q⟩:=F;subst e;cases B;obtain⟨a8,J,p,hz⟩:=n.tuple z;refine wpAny_pyIter_tuple (show j.heap.IsTuple a a8.toArray from p) ?_;refine⟨j.heap.objs.size,[j.heap.objs.size],_,_,H1,Z,n.kept (t':=j.toks) fun b o e=>Wt _ e,i' a _,⟨_,Wv _ Z,Z,Z⟩,fun b G=>?_,q⟩;have e:b=j.heap.objs.size:=by simpa using G
 subst e;exact n.fv (xO _) (n.bp.fresh (xO _))
theorem tZ{R:It->Hp->Prop}{lo hi:Int}{t u v:Tok}{tk:Nat}(I:Inv X aZ σ H s) (h1 : -(2 ^ 62)<=lo) (h2:lo<2 ^ 62) (n : -(2 ^ 62)<=hi) (z:hi<2 ^ 62)
  (q:R (Dq lo (hi-lo).toNat) H):wpAny (model X.prog X.w) X.A (pyIter (.ref s.heap.objs.size)) (IU X aZ σ tg R) E { s with heap:=s.heap.push { cls:=.type "range",data:=.fields #[.int lo t,.int hi u,.int 1 v] },toks:=tk }:=by
 refine wpAny_pyIter_range (IsRange.new ..) (small_one h1 h2 n z) ?_;have j:Inv X aZ σ H { s with heap:=s.heap.push { cls:=.type "range",data:=.fields #[.int lo t,.int hi u,.int 1 v] },toks:=tk }:=I.kept fun b o e=>Wt _ e
 refine⟨(s.heap.push { cls:=.type "range",data:=.fields #[.int lo t,.int hi u,.int 1 v] }).objs.size,[(s.heap.push { cls:=.type "range",data:=.fields #[.int lo t,.int hi u,.int 1 v] }).objs.size],_,_,H,Z,
  j.kept (t':=tk) fun b o e=>Wt _ e,kK _ lo (hi-lo).toNat,?_,fun b B=>?_,q⟩
 ·have F:lo+((0:Nat):Int)*1=lo:=by simp
  have G:(((hi-lo).toNat:Nat):Int)-((0:Nat):Int)=Builtin.Range.rangeSize lo hi 1:=by rw[rangeSize_one];split<;>omega
  show IsRangeIter _ _ (lo+((0:Nat):Int)*1) ((((hi-lo).toNat:Nat):Int)-((0:Nat):Int)) 1;rw[F,G];exact Wv _ rfl
 ·have e:b=(s.heap.push { cls:=.type "range",data:=.fields #[.int lo t,.int hi u,.int 1 v] }).objs.size:=by simpa using B
  subst e;exact j.fv (xO _) (j.bp.fresh (xO _))
inductive tL(R:It->Hp->Prop)(vs:List V)(H1:Hp):Prop
 |mk (j:Int):vs=[.int j]->-(2 ^ 62)<=j->j<2 ^ 62->R (Dq 0 j.toNat) H1->tL R vs H1
def Fb(ta:TA):TI:=fun σ H R=>ta σ H (tL R)
theorem Jq{a:Expr}{ta:TA}{p pos:Pos}(z:Gl X "range")(B:X.mg "range" = none)(F:PA X [a] ta) (G:starEach [a] X.env=[(false,eval a X.env)]:=by rfl):PI X tg (.Call (.Name "range" p) [a] [] pos) (Fb ta):=by
 intro aZ s σ H R I h;refine Call_ (X8 I z B boot_range (PyProof.Rows.callWith_type1 (bz (F pos aZ s σ H _ I h) fun us s1 ⟨vs,H1,J,O,n⟩=>?_) G Z));obtain⟨j,e,n,U,q⟩:=n;subst e;cases O with
 | cons r rr=>
  cases rr;obtain⟨t,rfl⟩:=r;exact call_range_1 (tZ J (by omega) (by omega) n U (by simpa using q))
def HK(z:TI)(g:TG)(tb:TS):TS:=fun D σ H=>z σ H fun J H1=>∃W:Nat->Nat->St->Hp->Prop,(∃m,W 0 m σ H1)/\∀i m σ H,W i m σ H->
 (J.stop i H/\D.nx σ H)\/(J.go i H/\∃N:St->Hp->Prop,(∀j H',N j H'->∃n,n<m/\W (i+1) n j H')/\∀x H',J.yld i H x H'->g x σ H' fun B H2=>tb { D with nx:=N,ct:=N,bk:=D.nx } B H2)
def zZ(j:List Addr)(h:Heap):List (Addr×Obj):=j.filterMap fun b=>(h.get? b).map fun o=>(b,o)
theorem JT{j:List Addr}{h:Heap}{b:Addr}{o:Obj}(n:b∈j)(e:h.get? b=some o):(b,o)∈zZ j h:=List.mem_filterMap.mpr ⟨b,n,by rw[e];rfl⟩
theorem nt{j:List Addr}{h:Heap}{p:Addr×Obj}(n:p∈zZ j h):p.1∈j/\h.get? p.1=some p.2:=by
 obtain⟨b,z,e⟩:=List.mem_filterMap.mp n;cases q:h.get? b with
 |none=>rw[q]at e;cases e
 | some o=>
  rw[q]at e;have B:(b,o)=p:=Wo e;subst B;exact⟨z,q⟩
theorem Inv.pinned{j:List Addr}(I:Inv X aZ σ H s)(hf:∀b∈j,zi X aZ H b)(F:∀b∈j,∃o,s.heap.get? b=some o/\∀v,o.data≠.cell v):Inv X (aZ++zZ j s.heap) σ H s:=
 I.lS fun p G=>(List.mem_append.mp G).elim (fun z=>I.pin p (GP _ z)) fun z=>by
  obtain⟨n,e⟩:=nt z;obtain⟨J,f1,O,_⟩:=hf p.1 n;obtain⟨o,B,d⟩:=F p.1 n;rw[e]at B;cases B;exact⟨e,J,f1,O,d⟩
theorem Inv.dE {aZ pl:List (Addr×Obj)} (I:Inv X (aZ++pl) σ H s):Inv X aZ σ H s:=I.lS fun p j=>I.pin p (GP _ (Qak _ j))
theorem QL{j:Expr}{aa:List Stmt}{wi:TI}{g:TG}{tb:TS} (hp:PassesOwn (model X.prog X.w) X.A X.env X.xe) (hc:X.calm=true) (hi:PI X tg j wi) (hg:PG X tg g) (z:mr X aa tb)
  (hs:∀x,foldedSetIterable j X.env x=pure x:=by intro _;rfl):PS X (.For tg j aa [] pos) (HK wi g tb):=by
 intro aZ s σ H D I h;refine wpAny_For (bz (hi aZ s σ H _ I h) fun v s1 h1=>bz h1 fun ai s2 h2=>?_) hs;obtain⟨it,fp,tn,J,H2,e,I2,T,af,f2,W,⟨m0,w0⟩,turn⟩:=h2;subst e;have B:∀{H':Hp},(∀b∈fp,H' b=none)->∀b∈fp,zi X aZ H' b:=fun hn b z=>⟨hn b z,(f2 b z).2⟩;refine codeAny_forLoop_any (fun n s'=>∃i dA H',Inv X aZ dA H' s'/\tn i s'.heap/\(∀b∈fp,H' b=none)/\W i n dA H') ?_ m0 ⟨0,σ,H2,I2,af,fun b z=>(f2 b z).1,w0⟩;rintro n s3 ⟨i,FR,H3,I3,ac,ad,w3⟩;rcases turn i n FR H3 w3 with⟨stop,qn⟩|⟨go,N,hN,step⟩
 ·refine wpAny_passesOwn hp (bz (T.done X Z Z Z hc i aZ s3 FR H3 X.xe I3 (B ad) ac stop) fun r s4 ⟨hr,I4⟩=>?_);subst hr;exact wpAny_execs_nil ⟨FR,H3,I4,qn⟩
 ·refine wpAny_passesOwn hp (bz (T.item X Z Z Z hc i aZ s3 FR H3 X.xe I3 (B ad) ac go) fun r s4 ⟨u,hr,h4⟩=>?_);subst hr;refine wpAny_passesOwn hp (bz h4 fun _ s5 hq=>?_);obtain⟨x,H5,I5,r5,y5,ab,ag⟩:=hq;have ah:=I5.pinned (B ag) (T.obj _ _ ab);refine wpAny_passesOwn hp (bz (hg _ s5 FR H5 x u _ ah r5 (step x H5 y5)) fun _ s6 ⟨Lu,H6,I6,q6⟩=>?_);refine wpAny_passesOwn hp (bz (z _ s6 Lu H6 _ I6 q6) fun f s7 q7=>?_)
  have F:∀{G:St} {O:Hp},Inv X (aZ++zZ fp s5.heap) G O s7->N G O->∃m,m<n/\∃i dA H',Inv X aZ dA H' s7/\tn i s7.heap/\(∀b∈fp,H' b=none)/\W i m dA H':=fun {G O} U n7=>by
   obtain⟨m',hm,w7⟩:=hN G O n7;refine⟨m',hm,i+1,G,O,U.dE,T.keep _ _ _ ab fun b z o e=>(U.pin (b,o) (GP _ (GP _ (JT z e)))).1,fun b z=>?_,w7⟩;obtain⟨o,e,d⟩:=T.obj _ _ ab b z;exact(U.pin (b,o) (GP _ (GP _ (JT z e)))).2.1
  cases f with
  |next=>obtain⟨G,O,U,n7⟩:=q7;exact F U n7
  |cont=>obtain⟨G,O,U,n7⟩:=q7;exact F U n7
  |brk=>obtain⟨G,O,U,q7⟩:=q7;exact⟨G,O,U.dE,q7⟩
  |ret v=>obtain⟨x7,G,O,U,r7,q7⟩:=q7;exact⟨x7,G,O,U.dE,r7,q7⟩
end
theorem Zs{K:xB}{a:Addr}{g:TG}{tb:TS}{D:JE}(j:Nat->St->Hp->Prop)(h0:j 0 σ H)(hl:∀i σ H,i<=xs.length->j i σ H->ba K H a xs)
  (G:∀i x σ H,xs[i]?=some x->j i σ H->g x σ H fun z H2=>tb { D with nx:=j (i+1),ct:=j (i+1),bk:=D.nx } z H2) (hd:∀σ H,j xs.length σ H->D.nx σ H) :
  ∃W:Nat->Nat->St->Hp->Prop,(∃m,W 0 m σ H)/\∀i m σ H,W i m σ H->
   ((sL K a).stop i H/\D.nx σ H)\/((sL K a).go i H/\∃N:St->Hp->Prop,(∀B H',N B H'->∃F,F<m/\W (i+1) F B H')/\∀x H',(sL K a).yld i H x H'->g x σ H' fun z H2=>tb { D with nx:=N,ct:=N,bk:=D.nx } z H2):=by
 refine⟨fun i m σ H=>m=xs.length-i/\i<=xs.length/\j i σ H,⟨xs.length,by simp,x9 _,h0⟩,?_⟩;rintro i m σ H ⟨rfl,hi,p⟩;have q:=hl i σ H hi p;by_cases n:i<xs.length
 ·refine .inr ⟨⟨xs,xs[i],q,by simp[n]⟩,j (i+1),fun B H' I=>⟨xs.length-(i+1),by omega,Z,n,I⟩,fun x H' y=>?_⟩;obtain⟨e,y⟩:=y;subst e;exact G i x σ _ (y xs q) p
 ·have e:i=xs.length:=by omega
  subst e;exact .inl ⟨⟨xs,q,xO _⟩,hd σ H p⟩
theorem zy{K:xB}{a:Addr}{g:TG}{tb:TS}{D:JE}(j:Nat->St->Hp->Prop)(h0:j 0 σ H)(hl:∀i σ H,i<=xs.length->j i σ H->bY K H a xs)
  (G:∀i x σ H,xs[i]?=some x->j i σ H->g x σ H fun z H2=>tb { D with nx:=j (i+1),ct:=j (i+1),bk:=D.nx } z H2) (hd:∀σ H,j xs.length σ H->D.nx σ H) :
  ∃W:Nat->Nat->St->Hp->Prop,(∃m,W 0 m σ H)/\∀i m σ H,W i m σ H->
   ((DI K a).stop i H/\D.nx σ H)\/((DI K a).go i H/\∃N:St->Hp->Prop,(∀B H',N B H'->∃F,F<m/\W (i+1) F B H')/\∀x H',(DI K a).yld i H x H'->g x σ H' fun z H2=>tb { D with nx:=N,ct:=N,bk:=D.nx } z H2):=by
 refine⟨fun i m σ H=>m=xs.length-i/\i<=xs.length/\j i σ H,⟨xs.length,by simp,x9 _,h0⟩,?_⟩;rintro i m σ H ⟨rfl,hi,p⟩;have q:=hl i σ H hi p;by_cases n:i<xs.length
 ·refine .inr ⟨⟨xs,xs[i],q,by simp[n]⟩,j (i+1),fun B H' I=>⟨xs.length-(i+1),by omega,Z,n,I⟩,fun x H' y=>?_⟩;obtain⟨e,y⟩:=y;subst e;exact G i x σ _ (y xs q) p
 ·have e:i=xs.length:=by omega
  subst e;exact .inl ⟨⟨xs,q,xO _⟩,hd σ H p⟩
theorem Jv{lo:Int}{n:Nat}{g:TG}{tb:TS}{D:JE}(j:Nat->St->Hp->Prop)(h0:j 0 σ H)
  (I:∀i σ H,i<n->j i σ H->g (.int (lo+i)) σ H fun B H2=>tb { D with nx:=j (i+1),ct:=j (i+1),bk:=D.nx } B H2) (hd:∀σ H,j n σ H->D.nx σ H) :
  ∃W:Nat->Nat->St->Hp->Prop,(∃m,W 0 m σ H)/\∀i m σ H,W i m σ H->
   ((Dq lo n).stop i H/\D.nx σ H)\/((Dq lo n).go i H/\∃N:St->Hp->Prop,(∀F H',N F H'->∃G,G<m/\W (i+1) G F H')/\∀x H',(Dq lo n).yld i H x H'->g x σ H' fun B H2=>tb { D with nx:=N,ct:=N,bk:=D.nx } B H2):=by
 refine⟨fun i m σ H=>m=n-i/\i<=n/\j i σ H,⟨n,by simp,x9 _,h0⟩,?_⟩;rintro i m σ H ⟨rfl,hi,p⟩;by_cases z:i<n
 ·refine .inr ⟨z,j (i+1),fun F H' J=>⟨n-(i+1),by omega,Z,z,J⟩,fun x H' y=>?_⟩;obtain⟨e,y⟩:=y;subst e y;exact I i σ _ z p
 ·have e:i=n:=by omega
  subst e;exact .inl ⟨xO _,hd σ H p⟩
abbrev R2:=V->V->Hp->VK->Prop
def eF(X:Cx)(f:Value->Value->Sem Value)(r:R2):Prop:=
 ∀(aZ:List (Addr×Obj)) (s:Shared) (σ:St) (H:Hp) (x y:V) (v u:Value) (Q:VK),Inv X aZ σ H s->QR x v->QR y u->r x y H Q->
  wpAny (model X.prog X.w) X.A (f v u) (EP X aZ σ Q) X.xe s
def Iq(X:Cx)(f:Value->Sem Value)(r:V->Hp->VK->Prop):Prop:=
 ∀(aZ:List (Addr×Obj)) (s:Shared) (σ:St) (H:Hp) (x:V) (v:Value) (Q:VK),Inv X aZ σ H s->QR x v->r x H Q->
  wpAny (model X.prog X.w) X.A (f v) (EP X aZ σ Q) X.xe s
def qw(X:Cx)(f:Value)(r:List V->Hp->VK->Prop):Prop:=
 ∀(aZ:List (Addr×Obj)) (s:Shared) (σ:St) (H:Hp) (xs:List V) (us:List Value) (Q:VK),Inv X aZ σ H s->QH xs us->r xs H Q->
  wpAny (model X.prog X.w) X.A (call f us) (EP X aZ σ Q) X.xe s
def n9(r:R2)(ta tb:TE):TE:=fun σ H Q=>ta σ H fun x H1=>tb σ H1 fun y H2=>r x y H2 Q
def Lj(r:V->Hp->VK->Prop)(ta:TE):TE:=fun σ H Q=>ta σ H fun x H1=>r x H1 Q
inductive rI(C:Int->Int->Prop)(g:Int->Int->V)(x:V)(y:V)(H:Hp)(Q:VK):Prop
 |mk (i j:_):x=.int i->y=.int j->C i j->Q (g i j) H->rI C g x y H Q
inductive wJ(g:Int->Int->V)(x:V)(y:V)(H:Hp)(Q:VK):Prop
 |mk (i j:_):x=.int i->y=.int j->Q (g i j) H->wJ g x y H Q
inductive rU(g:Int->V)(x:V)(H:Hp)(Q:VK):Prop
 |mk (i:_):x=.int i->Q (g i) H->rU g x H Q
section
variable {a b c:Expr} {ta tb tc:TE}
theorem BF(z:PE X a ta)(B:PE X b tb){R:V->V->Hp->Prop}(I:Inv X aZ σ H s)
  (h:ta σ H fun x H1=>tb σ H1 fun y H2=>R x y H2) {Q:Value->Shared->Prop} {f:Value->Value->Sem Value}
  (hf:∀v u j x y H2,Inv X aZ σ H2 j->QR x v->QR y u->R x y H2->wpAny (model X.prog X.w) X.A (f v u) Q X.xe j) :
  wpAny (model X.prog X.w) X.A (eval a X.env) (fun v F=>wpAny (model X.prog X.w) X.A (eval b X.env) (fun u G=>wpAny (model X.prog X.w) X.A (f v u) Q X.xe G) X.xe F) X.xe s:=by
 refine bz (z aZ s σ H _ I h) fun v J n=>?_;obtain⟨x,H1,O,U,q1⟩:=n;refine bz (B aZ J σ H1 _ O q1) fun u j n=>?_;obtain⟨y,H2,I2,r2,q2⟩:=n;exact hf v u j x y H2 I2 U r2 q2
theorem QA{op:Operator}{r:R2} (j:eF X (binaryOp op) r) (n:PE X a ta) (z:PE X b tb):PE X (.BinOp a op b pos) (n9 r ta tb):=by intro aZ s σ H Q I h;exact wpAny_BinOp (BF n z I h fun v u B x y H2 F G J q=>j aZ B σ H2 x y v u Q F G J q)
theorem Ec{op:UnaryOp}{r:V->Hp->VK->Prop} (j:Iq X (unaryOp op) r) (n:PE X a ta):PE X (.UnaryOp op a pos) (Lj r ta):=by intro aZ s σ H Q I h;exact UnaryOp_ (bz (n aZ s σ H _ I h) fun v z ⟨x,H1,B,F,G⟩=>j aZ z σ H1 x v Q B F G)
theorem Iu{f:Value->Value->Sem Value}{C:Int->Int->Prop}{g:Int->Int->Int}
  (n:∀(i j:Int)(t u:Tok)(s:Shared)(Q:Value->Shared->Prop)(E:Value->Shared->Prop),C i j->Q (.int (g i j) s.toks) { s with toks:=s.toks+1 }->wpAny (model X.prog X.w) X.A (f (.int i t) (.int j u)) Q E s) :
  eF X f (rI C fun i j=>.int (g i j)):=by
 intro aZ s σ H x y v u Q I z B h;obtain⟨i,j,rfl,rfl,hc,q⟩:=h;obtain⟨t,rfl⟩:=z;obtain⟨t',rfl⟩:=B;exact n i j t t' s _ _ hc ⟨.int (g i j),H,I.tok _,⟨_,Z⟩,q⟩
theorem DM{f:Value->Value->Sem Value}{g:Int->Int->Int}
  (n:∀(i j:Int)(t u:Tok)(s:Shared)(Q:Value->Shared->Prop)(E:Value->Shared->Prop),Q (.int (g i j) s.toks) { s with toks:=s.toks+1 }->wpAny (model X.prog X.w) X.A (f (.int i t) (.int j u)) Q E s) :
  eF X f (wJ fun i j=>.int (g i j)):=by
 intro aZ s σ H x y v u Q I z B h;obtain⟨i,j,rfl,rfl,q⟩:=h;obtain⟨t,rfl⟩:=z;obtain⟨t',rfl⟩:=B;exact n i j t t' s _ _ ⟨.int (g i j),H,I.tok _,⟨_,Z⟩,q⟩
theorem vB{f:Value->Value->Sem Value}{g:Int->Int->Bool}
  (n:∀(i j:Int)(t u:Tok)(s:Shared)(Q:Value->Shared->Prop)(E:Value->Shared->Prop),Q (.bool (g i j)) s->wpAny (model X.prog X.w) X.A (f (.int i t) (.int j u)) Q E s) :
  eF X f (wJ fun i j=>.bl (g i j)):=by
 intro aZ s σ H x y v u Q I z B h;obtain⟨i,j,rfl,rfl,q⟩:=h;obtain⟨t,rfl⟩:=z;obtain⟨t',rfl⟩:=B;exact n i j t t' s _ _ ⟨.bl (g i j),H,I,Z,q⟩
def IA(i j:Int):Prop:=0<j/\j<1073741824
def AX(i j:Int):Prop:=(-(2 ^ 64)<i/\i<2 ^ 64)\/(-(2 ^ 64)<j/\j<2 ^ 64)
theorem AX.ok{i j:Int}(h:AX i j):IntMulOk i j:=by
 rcases h with⟨h1,h2⟩|⟨h1,h2⟩
 ·exact .of_left (intBits_le_64 h1 h2)
 ·exact .of_right (intBits_le_64 h1 h2)
theorem QV:eF X (binaryOp .Add) (wJ fun i j=>.int (i+j)):=DM fun _ _ _ _ _ _ _ q=>add_int q
theorem Xl:eF X (binaryOp .Sub) (wJ fun i j=>.int (i-j)):=DM fun _ _ _ _ _ _ _ q=>sub_int q
theorem ZN:eF X (binaryOp .Mult) (rI AX fun i j=>.int (i*j)):=Iu fun _ _ _ _ _ _ _ hc q=>mul_int q hc.ok
theorem wo:eF X (binaryOp .FloorDiv) (rI IA fun i j=>.int (i/j)):=Iu fun i j _ _ _ _ _ hc q=>by
 have h1:(0:Int)<j:=hc.1;have h2:j<1073741824:=hc.2;exact floordiv_int (by omega) (by rw[Int.fdiv_eq_ediv_of_nonneg i (by omega)];exact q) (.inl (PyProof.noPylong_small (by omega)))
theorem CS:eF X (binaryOp .Mod) (rI (fun _ j=>0<j) fun i j=>.int (i%j)):=Iu fun i j _ _ _ _ _ hc q=>by
 have h1:(0:Int)<j:=hc;exact mod_int' (by omega) (by rw[Int.fmod_eq_emod_of_nonneg i (by omega)];exact q)
theorem Li{f:Value->Sem Value}{g:Int->Int}
  (j:∀(i:Int)(t:Tok)(s:Shared)(Q:Value->Shared->Prop)(E:Value->Shared->Prop),Q (.int (g i) s.toks) { s with toks:=s.toks+1 }->wpAny (model X.prog X.w) X.A (f (.int i t)) Q E s) :
  Iq X f (rU fun i=>.int (g i)):=by
 intro aZ s σ H x v Q I n h;obtain⟨i,rfl,q⟩:=h;obtain⟨t,rfl⟩:=n;exact j i t s _ _ ⟨.int (g i),H,I.tok _,⟨_,Z⟩,q⟩
theorem Cg:Iq X (unaryOp .USub) (rU fun i=>.int (-i)):=Li fun _ _ _ _ _ q=>neg_int q
end
def DQ:V->V->Bool
 |.bQ,.bQ=>true|.bQ,.int _=>true|.int _,.bQ=>true|.bQ,.bl _=>true|.bl _,.bQ=>true|.bQ,.str _=>true|.str _,.bQ=>true
 |.int _,.int _=>true|.bl _,.bl _=>true|.str _,.str _=>true|.byt _,.byt _=>true
 |.int _,.str _=>true|.str _,.int _=>true|.bl _,.str _=>true|.str _,.bl _=>true
 |_,_=>false
def FH:R2:=fun x y H Q=>DQ x y=true/\Q (.bl (decide (x=y))) H
def Lm:R2:=fun x y H Q=>DQ x y=true/\Q (.bl (!decide (x=y))) H
theorem mE{i j:Int}:decide (V.int i=V.int j)=(i==j):=by rw[Gu];simp
theorem tE{i j:Bool}:decide (V.bl i=V.bl j)=(i==j):=by rw[Gu];simp
theorem mH{i j:Str}:decide (V.str i=V.str j)=(i==j):=by rw[Gu];simp
theorem mz{i j:Array UInt8}:decide (V.byt i=V.byt j)=(i.toList==j.toList):=by rw[Gu];cases i;cases j;simp
section
variable {a b c:Expr} {ta tb tc:TE}
theorem QW{Q:VK}{k j:Bool}(I:Inv X aZ σ H s) (q:Q (.bl k) H) (e:k=j):EP X aZ σ Q (.bool j) s:=by subst e;exact⟨.bl k,H,I,Z,q⟩
theorem XM:eF X (compareOp .Eq) FH:=by
 intro aZ s σ H x y v u Q I B n h;obtain⟨z,q⟩:=h;cases x with
 | bQ=>
  cases B;cases y with
  |bQ=>cases n;exact PySem.EqNone.eq_none_none (QW I q We)
  |bl j=>cases n;exact PySem.EqNone.eq_none_bool (QW I q We)
  |int j=>obtain⟨t',rfl⟩:=n;exact PySem.EqNone.eq_none_int (QW I q We)
  |str j=>obtain⟨t',rfl⟩:=n;exact PySem.EqNone.eq_none_str (QW I q We)
  |_=>exact Wm (show false=true from z) xW
 | bl i=>
  cases B;cases y with
  |bQ=>cases n;exact PySem.EqNone.eq_bool_none (QW I q We)
  |bl j=>cases n;exact eq_bool (QW I q tE)
  |str j=>obtain⟨t',rfl⟩:=n;exact PySem.EqMixed.eq_bool_str (QW I q We)
  |_=>exact Wm (show false=true from z) xW
 | int i=>
  obtain⟨t,rfl⟩:=B;cases y with
  |bQ=>cases n;exact PySem.EqNone.eq_int_none (QW I q We)
  |int j=>obtain⟨t',rfl⟩:=n;exact eq_int (QW I q mE)
  |str j=>obtain⟨t',rfl⟩:=n;exact PySem.EqMixed.eq_int_str (QW I q We)
  |_=>exact Wm (show false=true from z) xW
 | str i=>
  obtain⟨t,rfl⟩:=B;cases y with
  |bQ=>cases n;exact PySem.EqNone.eq_str_none (QW I q We)
  |bl j=>cases n;exact PySem.EqMixed.eq_str_bool (QW I q We)
  |int j=>obtain⟨t',rfl⟩:=n;exact PySem.EqMixed.eq_str_int (QW I q We)
  |str j=>obtain⟨t',rfl⟩:=n;exact eq_str (QW I q mH)
  |_=>exact Wm (show false=true from z) xW
 | byt i=>
  obtain⟨t,rfl⟩:=B;cases y with
  |byt j=>obtain⟨t',rfl⟩:=n;exact PySem.W.eq_bytes (QW I q mz)
  |_=>exact Wm (show false=true from z) xW
 |_=>cases y<;>exact Wm (show false=true from z) xW
theorem qb:eF X (compareOp .NotEq) Lm:=by
 intro aZ s σ H x y v u Q I B n h;obtain⟨z,q⟩:=h;cases x with
 | bQ=>
  cases B;cases y with
  |bQ=>cases n;exact PySem.EqNone.ne_none_none (QW I q We)
  |bl j=>cases n;exact PySem.EqNone.ne_none_bool (QW I q We)
  |int j=>obtain⟨t',rfl⟩:=n;exact PySem.EqNone.ne_none_int (QW I q We)
  |str j=>obtain⟨t',rfl⟩:=n;exact PySem.EqNone.ne_none_str (QW I q We)
  |_=>exact Wm (show false=true from z) xW
 | bl i=>
  cases B;cases y with
  |bQ=>cases n;exact PySem.EqNone.ne_bool_none (QW I q We)
  |bl j=>cases n;exact ne_bool (QW I q (Wn not tE))
  |str j=>obtain⟨t',rfl⟩:=n;exact PySem.EqMixed.ne_bool_str (QW I q We)
  |_=>exact Wm (show false=true from z) xW
 | int i=>
  obtain⟨t,rfl⟩:=B;cases y with
  |bQ=>cases n;exact PySem.EqNone.ne_int_none (QW I q We)
  |int j=>obtain⟨t',rfl⟩:=n;exact ne_int (QW I q (Wn not mE))
  |str j=>obtain⟨t',rfl⟩:=n;exact PySem.EqMixed.ne_int_str (QW I q We)
  |_=>exact Wm (show false=true from z) xW
 | str i=>
  obtain⟨t,rfl⟩:=B;cases y with
  |bQ=>cases n;exact PySem.EqNone.ne_str_none (QW I q We)
  |bl j=>cases n;exact PySem.EqMixed.ne_str_bool (QW I q We)
  |int j=>obtain⟨t',rfl⟩:=n;exact PySem.EqMixed.ne_str_int (QW I q We)
  |str j=>obtain⟨t',rfl⟩:=n;exact ne_str (QW I q (Wn not mH))
  |_=>exact Wm (show false=true from z) xW
 | byt i=>
  obtain⟨t,rfl⟩:=B;cases y with
  |byt j=>obtain⟨t',rfl⟩:=n;exact PySem.W.ne_bytes (QW I q (Wn not mz))
  |_=>exact Wm (show false=true from z) xW
 |_=>cases y<;>exact Wm (show false=true from z) xW
theorem ZE:eF X (compareOp .Lt) (wJ fun i j=>.bl (decide (i<j))):=vB fun _ _ _ _ _ _ _ q=>lt_int q
theorem jc:eF X (compareOp .LtE) (wJ fun i j=>.bl (decide (i<=j))):=vB fun _ _ _ _ _ _ _ q=>le_int q
theorem Zn:eF X (compareOp .Gt) (wJ fun i j=>.bl (decide (j<i))):=vB fun _ _ _ _ _ _ _ q=>gt_int q
theorem fM:eF X (compareOp .GtE) (wJ fun i j=>.bl (decide (j<=i))):=vB fun _ _ _ _ _ _ _ q=>ge_int q
theorem Qo(b:Expr){op:CmpOp}(h:op≠.In:=by decide)(h2:op≠.NotIn:=by decide):behindInMarks op b=false:=by
 have j:(op==CmpOp.In)=false:=by cases op<;>first|rfl|exact Wm Z h
 have n:(op==CmpOp.NotIn)=false:=by cases op<;>first|rfl|exact Wm Z h2
 cases b<;>first|rfl|(show(_&&(op==.In||op==.NotIn)&&_)=false;simp[j,n])
theorem QM{op:CmpOp}{r:R2} (j:eF X (compareOp op) r) (n:PE X a ta) (z:PE X b tb) (B:behindInMarks op b=false):PE X (.Compare a [op] [b] pos) (n9 r ta tb):=by intro aZ s σ H Q I h;exact wpAny_Compare1 (BF n z I h fun v u F x y H2 G J O q=>j aZ F σ H2 x y v u Q G J O q) B
inductive uy(Q:Bool->Hp->Prop)(x:V)(H':Hp):Prop
 |mk (k:_):x=.bl k->Q k H'->uy Q x H'
def gj(t:TE):TT:=fun σ H Q=>t σ H (uy Q)
theorem Qt{op:CmpOp}{r:R2} (j:eF X (compareOp op) r) (n:PE X a ta) (B:PE X b tb) (F:behindInMarks op b=false):PT X (.Compare a [op] [b] pos) (gj (n9 r ta tb)):=by
 intro aZ s σ H Q I h
 refine wpAny_isTrue_Compare1 (bz (n aZ s σ H _ I h) fun v G ⟨x,H1,J,O,U⟩=>bz (B aZ G σ H1 _ J U) fun u s2 ⟨y,H2,I2,r2,q2⟩=>
  bz (j aZ s2 σ H2 x y v u _ I2 O r2 q2) fun c s3 ⟨z,H3,I3,r3,k,e,q3⟩=>?_) F
 subst e;cases r3;exact wpAny_truthy_bool ⟨H3,I3,q3⟩
theorem iZ:(sizeLine:Nat)<2 ^ 63:=by rw[sizeLine_eq];decide
theorem vals1{x:V}(r:QH [x] us):∃u,us=[u]/\QR x u:=by
 cases r with
 |cons j n=>cases n;exact⟨_,Z,j⟩
theorem vals2{x y:V}(r:QH [x,y] us):∃u j,us=[u,j]/\QR x u/\QR y j:=by
 cases r with
 | cons n z=>
  cases z with
  |cons B F=>cases F;exact⟨_,_,Z,n,B⟩
theorem nU(hc:X.calm=true):qw X (.builtin "max") (fun xs H Q=>∃i j,xs=[.int i,.int j]/\Q (.int (if j>i then j else i)) H):=by
 intro aZ s σ H xs us Q I r h;obtain⟨i,j,rfl,q⟩:=h;obtain⟨u,z,rfl,⟨t,rfl⟩,⟨t',rfl⟩⟩:=vals2 r;refine max_two_ints (I.ok.hd hc) fun h' tk k=>⟨_,H,I.kept k,?_,q⟩;by_cases n:j>i
 ·rw[Wi n,Wi n];exact⟨_,Z⟩
 ·rw[Wh n,Wh n];exact⟨_,Z⟩
theorem uv:qw X (.builtin "ord") (fun xs H Q=>∃x,xs=[.str x]/\x.length=1/\Q (.int (x.cps.getD 0 0:Nat)) H):=by intro aZ s σ H xs us Q I r h;obtain⟨x,rfl,hz,q⟩:=h;obtain⟨u,rfl,t,rfl⟩:=vals1 r;exact ord_of_one hz ⟨.int _,H,I.tok _,⟨_,Z⟩,q⟩
end
structure kB(h:Heap)(x dx C:Addr)(mA:Str->Option Value):Prop where
 obj:h.get? x=some (UM C dx)
 ns:h.Ns1 dx mA
 ne:dx≠x
theorem mZ{h:Heap}{dx:Addr}{mA:Str->Option Value}(n:h.Ns1 dx mA):∃B,h.get? dx=some B/\∀name,Qaw name B=some (mA name):=by
 obtain⟨o,es,ep,F,hd,hk,_,G⟩:=n;refine⟨o,F,fun name=>?_⟩;have e:=G name;unfold nsFind findBy at e;rw[<-Array.find?_toList]at e;unfold Qaw;rw[hd];dsimp only;split
 ·rename_i y q;rw[q]at e;exact Wn some e
 ·rename_i q;rw[q] at e
  have a:es.toList.any (·.refKey)=false:=by rw[UI];intro y I;obtain⟨z,t,j⟩:=hk y (Array.mem_toList_iff.mp I);simp[DictEntry.refKey,j]
  have J:¬es.toList.any (·.refKey)=true:=by rw[a];exact xW
  rw[Wh J];exact Wn some e
theorem kB.look{h:Heap}{x dx C:Addr}{mA:Str->Option Value}(I:kB h x dx C mA):∃j,PySem.W.InstAt h x (UM C dx) C (some j)/\∀name,Qaw name j=some (mA name):=
 let ⟨j,n,hl⟩:=mZ I.ns
 ⟨j,⟨I.obj,Z,Z,n⟩,hl⟩
section
variable {K:xB} {x dx C f:Addr} {mA:Str->Option Value} {name:Str} {v:Value}
theorem get_map{j:Bool}{Q:Value->Shared->Prop}(X:K.In s.heap)(I:kB s.heap x dx C mA)(z:VD K C name=true)(B:V7 K C=true)
  (F:G1 K (.ref C) name=some none) (G:mA name=some v) (n:PySem.W.handedIn v=true) (h:Q v { s with toks:=s.toks+1 }) :
  wpAny (model prog w) A (getAttr (.ref x) name j) Q E s:=by
 obtain⟨O,J,hl⟩:=I.look;exact PySem.W.get_value X J (Qaq z).1 (PySem.W.findObj_own B F Z (by rw[hl,G])) n h
theorem rq{pl:Sem Bool}{Q:Value×List Value->Shared->Prop}(X:K.In s.heap)(I:kB s.heap x dx C mA)(j:VD K C name=true)
  (hf:G1 K (.ref C) name=some (some (.ref f))) (n:Qat K (.ref f)=true) (z:mA name=none) (h:Q (.ref f,[.ref x]) s) :
  wpAny (model prog w) A (getMethod (.ref x) name pl) Q E s:=by
 obtain⟨B,J,hl⟩:=I.look;exact PySem.W.method_fn X J (Qaq j).1 (Qaq j).2 hf (beq_iff_eq.mp n) (by show(Qaw name B).map (·.isSome)=some false;rw[hl,z];rfl) h
theorem vu{ns:List Str}{Q:Unit->Shared->Prop}(X:K.In s.heap)(I:kB s.heap x dx C mA)
  (O:G1 K (.ref C) "__setattr__" = some (some (.builtin "object.__setattr__"))) (U:Qa6 K C=true) (ht:Qbw K C name=some none) (hh:V7 K C=true)
  (hw:PySem.Within mA ns) (hsz:ns.length<=sizeLine)
  (h:∀h',kB h' x dx C (fun y=>if y=name then some v else mA y)->Heap.SameBut dx s.heap h'->Q () { s with heap:=h',toks:=s.toks+2 }) :
  wpAny (model prog w) A (setAttr (.ref x) name v) Q E s:=by
 obtain⟨od,J,hl⟩:=I.look;refine PySem.W.set_plain X J O (PySem.W.osa_open (s:={ s with toks:=s.toks+1 }) (r:=none) X J U ht fun b=>?_);obtain⟨cd,hc,z⟩:=PySem.W.any_some hh;have hx:s.heap.get? x=some ⟨.ref C,some dx,.plain,#[]⟩:=I.obj;refine wpAny_bind (wpAny_pure (wpAny_bind (wpAny_bind (wpAny_loadPart hx (wpAny_bind (PySem.W.Looks.here (s:={ s with toks:=s.toks+1 }) (PySem.W.looks_clsIn X hc) ?_))))));rw[z];refine wpAny_pure (a:=some dx) (wpAny_bind (wpAny_pure (wpAny_bind ?_)));refine wpAny_nsSet1 (s:={ s with toks:=s.toks+1 }) I.ns fun h' j n=>?_;obtain⟨oD,aa,ab,B,F,G⟩:=j.count (PySem.Within.cons name v hw);refine wpAny_bind (wpAny_lookBehind B (by rw[F];exact pastItsLine_dict (xM G (by rw[xQ];omega))) ?_);exact wpAny_pure (h _ ⟨(n.2 _ (Ne.symm I.ne)).trans I.obj,j,I.ne⟩ n)
theorem uh{R:Result->Shared->Prop}{vs:List Value} {j:List (Str×Value)} (X:K.In s.heap) (n:Qbx K C=true)
  (hi:G1 K (.ref C) "__init__" = some (some (.ref f))) (hf:PySem.W.typeIn K (.ref f)=some (.type "function"))
  (h:codeAny (model prog w) (A.under (.builtin "type.__call__" ⟨.ref C::vs,j⟩)) (.call (.ref f) ⟨.ref (s.heap.objs.size+1)::vs,j⟩) (PySem.W.InitBack (s.heap.objs.size+1) R)
   { s with heap:=(s.heap.push Ud).push (UM C s.heap.objs.size) }) :
  codeAny (model prog w) A (.call (.ref C) ⟨vs,j⟩) R s:=by
 obtain⟨z,g,d,t,os⟩:=s;exact PySem.W.make_core (PySem.W.makes_of X n) (PySem.W.looks_findIn X hi) (fun self=>PySem.W.bind_fn X self hf) (.inl Z) h
end
def Zu(f:Str)(v:V):List (Str×V)->List (Str×V)
 |[]=>[(f,v)]
 |(g,x)::r=>if g=f then(g,v)::r else(g,x)::Zu f v r
theorem Qu(f g:Str)(v:V):∀fs:List (Str×V),(Zu f v fs).lookup g=if g=f then some v else fs.lookup g
 | []=>by
  show Vv g [(f,v)]=_;by_cases h:g=f
  ·have j:(g==f)=true:=beq_iff_eq.mpr h;simp only[Vv,j,Wi h]
  ·have j:(g==f)=false:=beq_eq_false_iff_ne.mpr h;simp only[Vv,j,Wh h]
 | (k,x)::r=>by
  have n:=Qu f g v r;rw[show Zu f v ((k,x)::r)=(if k=f then(k,v)::r else(k,x)::Zu f v r) from Z];by_cases hk:k=f
  ·rw[Wi hk];by_cases h:g=k
   ·have j:(g==k)=true:=beq_iff_eq.mpr h;simp only[Vv,j,Wi (h.trans hk)]
   ·have j:(g==k)=false:=beq_eq_false_iff_ne.mpr h;simp only[Vv,j,Wh (fun e:g=f=>h (e.trans hk.symm))]
  ·rw[Wh hk];by_cases h:g=k
   ·have j:(g==k)=true:=beq_iff_eq.mpr h;simp only[Vv,j,Wh (fun e:g=f=>hk (h.symm.trans e))]
   ·have j:(g==k)=false:=beq_eq_false_iff_ne.mpr h;simp only[Vv,j];exact n
theorem qE(f:Str)(v:V):∀fs:List (Str×V),f∈(Zu f v fs).map (·.1)/\∀g,g∈fs.map (·.1)->g∈(Zu f v fs).map (·.1)
 |[]=>⟨by simp[Zu],fun g h=>by simp at h⟩
 | (k,x)::r=>by
  obtain⟨i1,j⟩:=qE f v r;rw[show Zu f v ((k,x)::r)=(if k=f then(k,v)::r else(k,x)::Zu f v r) from Z];by_cases hk:k=f
  ·rw[Wi hk];subst hk;exact⟨by simp,fun g h=>by simpa using h⟩
  ·rw[Wh hk];refine⟨?_,fun g h=>?_⟩
   ·rw[xV];exact xT _ i1
   ·rw[xV] at h ⊢;rcases List.mem_cons.mp h with e | e
    ·exact List.mem_cons.mpr (.inl e)
    ·exact xT _ (j g e)
theorem qU(f:Str)(v:V):∀fs:List (Str×V),(Zu f v fs).length<=fs.length+1
 |[]=>by simp[Zu]
 | (k,x)::r=>by
  have j:=qU f v r;rw[show Zu f v ((k,x)::r)=(if k=f then(k,v)::r else(k,x)::Zu f v r) from Z];by_cases hk:k=f
  ·rw[Wi hk,xQ,xQ];omega
  ·rw[Wh hk,xQ,xQ];omega
theorem YN.some_of{v:V}{o:Option Value} (r:YN (some v) o):∃u,o=some u/\QR v u:=by
 cases o with
 |none=>exact(show False from r).elim
 |some u=>exact⟨u,Z,r⟩
theorem YN.none_of{o:Option Value}(r:YN none o):o=none:=by
 cases o with
 |none=>rfl
 |some u=>exact(show False from r).elim
theorem ng{v:V}(r:QR v u):PySem.W.handedIn u=true:=by
 cases v with
 |bQ=>cases(show u=Value.none from r);rfl
 |bl b=>cases(show u=Value.bool b from r);rfl
 |int i=>obtain⟨t,e⟩:=(show ∃t,u=Value.int i t from r);cases e;rfl
 |str x=>obtain⟨t,e⟩:=(show ∃t,u=Value.str x t from r);cases e;rfl
 |byt b=>obtain⟨t,e⟩:=(show ∃t,u=Value.bytes b t from r);cases e;rfl
 |flt b=>obtain⟨t,e⟩:=(show ∃t,u=Value.float b t from r);cases e;rfl
 |ref a=>cases(show u=Value.ref a from r);rfl
 |ty n=>cases(show u=Value.type n from r);rfl
section
variable {H':Hp} {h h':Heap} {a C dx:Addr} {fs x':List (Str×V)}
theorem j7(bp:dg P w H h) (e:H a=some (.ins C dx fs)):∃mA,kB h a dx C mA/\(∀f,YN (fs.lookup f) (mA f))/\PySem.Within mA (fs.map (·.1))/\fs.length<=1000/\H dx=some (.own a):=by obtain⟨d,z,ne,j,mA,n,r,q⟩:=(show Zh P w H h a (.ins C dx fs) from bp a _ e);exact⟨mA,⟨j,n,ne⟩,r,q,z,d⟩
end
structure pC(K:xB)(C:Addr):Prop where
 pg:VD K C Str.empty=true
 hd:V7 K C=true
 po:Qa6 K C=true
 sa:G1 K (.ref C) "__setattr__" = some (some (.builtin "object.__setattr__"))
theorem pC.get{K:xB}{C:Addr}(c:pC K C)(f:Str):VD K C f=true:=c.pg
def Q8(K:xB)(C:Addr)(f:Str):Prop:=G1 K (.ref C) f=some none
theorem Q8.DN{K:xB}{C:Addr}{f:Str}(n:Q8 K C f):Qbw K C f=some none:=by unfold Qbw;rw[show G1 K (.ref C) f=some none from n];rfl
structure Meth(K:xB)(C:Addr)(m:Str)(f:Addr):Prop where
 at_:G1 K (.ref C) m=some (some (.ref f))
 fn:Qat K (.ref f)=true
 kp:GU K (.ref f)=true
section
variable {a C dx:Addr} {fs:List (Str×V)} {f:Str} {v:V}
theorem yk{b:Bool}{Q:Value->Shared->Prop}(I:Inv X aZ σ H s) (e:H a=some (.ins C dx fs)) (c:pC X.K C) (n:Q8 X.K C f) (l:fs.lookup f=some v)
  (h:∀u s',Inv X aZ σ H s'->QR v u->Q u s'):wpAny (model X.prog X.w) A (getAttr (.ref a) f b) Q E s:=by
 obtain⟨mA,O,r,_,_,_⟩:=j7 I.bp e;obtain⟨u,z,j⟩:=YN.some_of (v:=v) (o:=mA f) (by rw[<-l];exact r f);exact get_map I.eK O (c.get f) c.hd n z (ng j) (h u _ (I.tok _) j)
theorem yj{m:Str}{g:Addr}{pl:Sem Bool}{Q:Value×List Value->Shared->Prop}(I:Inv X aZ σ H s) (e:H a=some (.ins C dx fs)) (c:pC X.K C) (k:Meth X.K C m g) (l:fs.lookup m=none)
  (h:Q (.ref g,[.ref a]) s):wpAny (model X.prog X.w) A (getMethod (.ref a) m pl) Q E s:=by
 obtain⟨mA,O,r,_,_,_⟩:=j7 I.bp e;have j:mA m=none:=YN.none_of (by rw[<-l];exact r m);exact rq I.eK O (c.get m) k.at_ k.fn j h
theorem zS{y:V}{Q:Unit->Shared->Prop}(I:Inv X aZ σ H s) (e:H a=some (.ins C dx fs)) (c:pC X.K C) (n:Q8 X.K C f) (hl:fs.length<1000) (G:QR y u)
  (h:∀s',Inv X aZ σ (upd H a (.ins C dx (Zu f y fs))) s'->Q () s'):wpAny (model X.prog X.w) A (setAttr (.ref a) f u) Q E s:=by
 obtain⟨mA,O,r,B,_,F⟩:=j7 I.bp e;have hz:(fs.map (·.1)).length<=sizeLine:=by rw[xD,sizeLine_eq];omega
 refine vu I.eK O c.sa c.po n.DN c.hd B hz fun h' j J=>h _ ?_;have hd:∃o,h'.get? dx=some o:=let ⟨o,_,_,U,_⟩:=j.ns;⟨o,U⟩
 refine I.write (x:=a) (e:=dx) (by rw[e];exact True.intro) (.inr F) (fun b q hb z=>(J.2 b hb).trans z) hd ?_;refine⟨by rw[Qh O.ne];exact F,?_,O.ne,j.obj,_,j.ns,fun g=>?_,fun g hg=>?_⟩
 ·have:=qU f y fs;omega
 ·show YN ((Zu f y fs).lookup g) (if g=f then some u else mA g);rw[Qu];by_cases q:g=f
  ·rw[Wi q,Wi q];exact G
  ·rw[Wh q,Wh q];exact r g
 ·by_cases q:g=f
  ·rw[q];exact(qE f y fs).1
  ·refine(qE f y fs).2 g (B g fun z=>hg ?_);show(if g=f then some u else mA g)=none;rw[Wh q];exact z
theorem Inv.made(I:Inv X aZ σ H s):Inv X aZ σ (upd (upd H s.heap.objs.size (.own (s.heap.objs.size+1))) (s.heap.objs.size+1) (.ins C s.heap.objs.size []))
  { s with heap:=(s.heap.push Ud).push (UM C s.heap.objs.size) }:=by
 have j:(s.heap.push Ud).get? s.heap.objs.size=some Ud:=Wv s.heap rfl
 have n:((s.heap.push Ud).push (UM C s.heap.objs.size)).get? (s.heap.objs.size+1)=some (UM C s.heap.objs.size):=by
  have:=Wv (s.heap.push Ud) (o:=UM C s.heap.objs.size) rfl
  rwa [Ww]at this
 have z:(s.heap.push Ud).Ns s.heap.objs.size (fun _=>none):=⟨Ud,#[],_,j,Z,(fun e B=>Wm B We),fun _=>rfl⟩;have F:=I.laid (a:=s.heap.objs.size) (o:=.own (s.heap.objs.size+1)) (h':=s.heap.push Ud) (t':=s.toks) (fun b u q=>Wt _ q) (xO _) ⟨_,j⟩;refine F.laid (a:=s.heap.objs.size+1) (o:=.ins C s.heap.objs.size []) (t':=s.toks) (fun b u q=>Wt _ q) (Qar (Ww _ _)) ?_;have ne:s.heap.objs.size≠s.heap.objs.size+1:=xY (Qbg _);refine⟨by rw[Qh ne,Qe],x9 _,ne,n,fun _=>none,(Heap.Ns1.of_empty z).at fun o q=>Wt _ q,fun _=>True.intro,fun y G=>Wm rfl G⟩
theorem wH{env:Env}{e:Expr}{f:Str}{Q:Value->Shared->Prop} (j:attributeBase e f env (eval e env)=eval e env)
  (h:wpAny (model prog w) A (eval e env) (fun o n=>wpAny (model prog w) A (getAttr o f true) Q E n) E s):wpAny (model prog w) A (eval (.Attribute e f pos) env) Q E s:=
 Attribute_any_ h (by rw[arm_eval_Attribute,j])
end
inductive Ag(K:xB)(f:Str)(Q:VK)(x:V)(H1:Hp):Prop
 |mk (a C dx fs v:_):x=.ref a->H1 a=some (.ins C dx fs)->pC K C->Q8 K C f->fs.lookup f=some v->Q v H1->Ag K f Q x H1
def vc(K:xB)(ta:TE)(f:Str):TE:=fun σ H Q=>ta σ H (Ag K f Q)
inductive wY(K:xB)(f:Str)(D:JE)(σ:St)(y:V)(x:V)(H2:Hp):Prop
 |mk (a C dx fs:_):x=.ref a->H2 a=some (.ins C dx fs)->pC K C->Q8 K C f->fs.length<1000->D.nx σ (upd H2 a (.ins C dx (Zu f y fs)))->wY K f D σ y x H2
def IK(K:xB)(ta tv:TE)(f:Str):TS:=fun D σ H=>tv σ H fun y H1=>ta σ H1 (wY K f D σ y)
def D8(X:Cx)(op:Operator)(rd:V->V->Hp->VK->Prop):Prop:=
 ∀(aZ:List (Addr×Obj)) (s:Shared) (σ:St) (H:Hp) (x y:V) (u v:Value) (Q:VK),Inv X aZ σ H s->QR x u->QR y v->rd x y H Q->wpAny (model X.prog X.w) X.A (inplaceOp op u v) (EP X aZ σ Q) X.xe s
def uP(K:xB)(ta tv:TE)(rd:V->V->Hp->VK->Prop)(f:Str):TS:=fun D σ H=>ta σ H fun x H1=>∃a C dx fs v,x=.ref a/\H1 a=some (.ins C dx fs)/\pC K C/\Q8 K C f/\fs.lookup f=some v/\
 tv σ H1 fun y H2=>rd v y H2 fun z n=>∃j x',n a=some (.ins C j x')/\x'.length<1000/\D.nx σ (upd n a (.ins C j (Zu f z x')))
section
variable {o e value:Expr} {f:Str} {cq dH:Pos} {ta tv:TE}
theorem Qw(j:PE X e ta) (z:attributeBase e f X.env (eval e X.env)=eval e X.env):PE X (.Attribute e f pos) (vc X.K ta f):=by intro aZ s σ H Q I h;refine wH z (bz (j aZ s σ H _ I h) fun u s1 B=>?_);obtain⟨x,H1,F,G,a,C,dx,fs,v,ex,J,c,n,l,q⟩:=B;subst ex;obtain rfl:u=Value.ref a:=G;exact yk F J c n l fun u' s2 O U=>⟨v,H1,O,U,q⟩
theorem Y3(j:PE X o ta)(z:PE X value tv) (B:swapsWith value (some (.Attribute o f cq)) pos.line X.env=pure false):PS X (.Assign [.Attribute o f cq] value pos) (IK X.K ta tv f):=by intro aZ s σ H D I h;refine plainObj_wpAny_Assign_Attribute (bz (z aZ s σ H _ I h) fun u F ⟨y,H1,G,J,q⟩=>bz (j aZ F σ H1 _ G q) fun O s2 ⟨x,H2,U,rx,a,C,dx,fs,ex,ea,c,n,l,q2⟩=>?_) B;subst ex;obtain rfl:O=Value.ref a:=rx;exact zS U ea c n l J fun s3 I3=>⟨σ,_,I3,q2⟩
theorem Jo{op:Operator}{rd:V->V->Hp->VK->Prop}(G:PE X o ta)(J:PE X value tv)(j:D8 X op rd):PS X (.AugAssign (.Attribute o f dH) op value pos) (uP X.K ta tv rd f):=by intro aZ s σ H D I h;refine wpAny_AugAssign_AttributeAny (bz (G aZ s σ H _ I h) fun O s1 B=>?_);obtain⟨x,H1,U,rx,a,C,dx,fs,v,ex,ea,c,n,l,q⟩:=B;subst ex;obtain rfl:O=Value.ref a:=rx;refine yk U ea c n l fun u s2 I2 ru=>bz (J aZ s2 σ H1 _ I2 q) fun w3 s3 ⟨y,H2,I3,ry,q3⟩=>bz (j aZ s3 σ H2 v y u w3 _ I3 ru ry q3) fun w4 s4 B=>?_;obtain⟨z,H3,I4,rz,aa,x',F,l',q4⟩:=B;exact zS I4 F c n l' rz fun s5 I5=>⟨σ,_,I5,q4⟩
def Kh:V->V->Hp->VK->Prop:=fun x y H Q=>∃i j,x=.int i/\y=.int j/\Q (.int (i+j)) H
theorem j8:D8 X .Add Kh:=by rintro aZ s σ H x y u v Q I n z ⟨i,j,rfl,rfl,q⟩;obtain⟨t,rfl⟩:=(show ∃t,u=Value.int i t from n);obtain⟨t',rfl⟩:=(show ∃t',v=Value.int j t' from z);exact PyProof.Rows.iadd_int ⟨.int (i+j),H,I.tok _,⟨_,Z⟩,q⟩
end
section
variable {Q:Value->Shared->Prop} {c:Value} {b:Bool}
end
structure ZJ(k:Nat)(A:Around):Prop where
 hd:A.handled=none
 dp:A.depth+3*k+5<recursionLimit
 un:A.units+16*k+200<cLine
theorem ZJ.mono{j k:Nat}(r:ZJ k A)(h:j<=k):ZJ j A:=⟨r.hd,by have:=r.dp;omega,by have:=r.un;omega⟩
theorem ZJ.deeper{k:Nat} (r:ZJ (k+1) A) (env:Env):ZJ k (A.deeper env):=
 ⟨r.hd,by have:=r.dp;show A.depth+1+3*k+5<_;omega,by have:=r.un;show A.units+3+16*k+200<_;omega⟩
theorem kE{C:Addr} {j:List (Str×Value)}:(A.under (.builtin "type.__call__" ⟨.ref C::us,j⟩)).depth=A.depth+1:=by first|rfl|simp[Around.under,Code.weight,Code.isCreation,Code.isGuard,Code.isCaller,Code.frames,Code.isFrame,guardIds]
theorem iE{C:Addr} {j:List (Str×Value)}:(A.under (.builtin "type.__call__" ⟨.ref C::us,j⟩)).units=A.units+1:=by first|rfl|simp[Around.under,Code.cUnits,Code.frames,Code.isFrame]
theorem ZJ.make{k:Nat} (r:ZJ (k+1) A) (C:Addr) (us:List Value) (j:List (Str×Value)):ZJ k (A.under (.builtin "type.__call__" ⟨.ref C::us,j⟩)):=
 ⟨r.hd,by have:=r.dp;rw[kE];omega,by have:=r.un;rw[iE];omega⟩
theorem ZJ.depth{k:Nat}(r:ZJ k A):A.depth<recursionLimit:=by have:=r.dp;omega
theorem ZJ.units{k:Nat}(r:ZJ k A):A.units+64<cLine:=by have:=r.un;omega
def jA:TA:=fun _ H Q=>Q [] H
def YF(ta:TE)(j:TA):TA:=fun σ H Q=>ta σ H fun x H1=>j σ H1 fun xs H2=>Q (x::xs) H2
section
variable {e:Expr} {es:List Expr} {te:TE} {t:TA}
theorem Qc:PA X [] jA:=fun _ _ _ _ H Q I h=>Calls.spliced_nil ⟨[],H,I,.nil,h⟩
theorem Qa(j:PE X e te)(hr:PA X es t) (n:starEach (e::es) X.env=(false,eval e X.env)::starEach es X.env:=by rfl):PA X (e::es) (YF te t):=by intro pos aZ s σ H Q I h;rw[n];show wpAny _ _ (spliced ((false,eval e X.env)::backTo pos (starEach es X.env))) _ _ s;refine Calls.spliced_cons (bz (j aZ s σ H _ I h) fun u z B=>?_);obtain⟨x,H1,F,G,J⟩:=B;exact bz (hr pos aZ z σ H1 _ F J) fun us s2 ⟨xs,H2,O,U,q2⟩=>⟨x::xs,H2,O,.cons G U,q2⟩
def HY(t:TA):TE:=fun σ H Q=>t σ H fun xs H1=>xs.length<=sizeLine/\∀p,H1 p=none->Q (.ref p) (upd H1 p (.tup xs))
def HV(t:TA):TE:=fun σ H Q=>t σ H fun xs H1=>xs.length<=sizeLine/\∀p,H1 p=none->Q (.ref p) (upd H1 p (.lst xs))
theorem Ze{x1}(h:PA X es t):PE X (.Tuple es x1 pos) (HY t):=by intro aZ s σ H Q I B;refine wpAny_Tuple_spliced (bz (h pos aZ s σ H _ I B) fun us j ⟨xs,H1,n,r,z,q⟩=>⟨by rw[<-r.length];exact z,?_⟩);have hf:H1 j.heap.objs.size=none:=n.bp.fresh (xO _);refine⟨.ref j.heap.objs.size,upd H1 j.heap.objs.size (.tup xs),n.laid (t':=j.toks) (fun b u e=>Wt _ e) (xO _) ?_,Z,q _ hf⟩;exact⟨z,us,r,⟨_,Wv _ Z,Z,_,Z⟩⟩
theorem QU(h:PA X es t):PE X (.List es pos) (HV t):=by intro aZ s σ H Q I B;refine wpAny_List_spliced (bz (h pos aZ s σ H _ I B) fun us j ⟨xs,H1,n,r,z,q⟩=>⟨by rw[<-r.length];exact z,?_⟩);have hf:H1 j.heap.objs.size=none:=n.bp.fresh (xO _);refine⟨.ref j.heap.objs.size,upd H1 j.heap.objs.size (.lst xs),n.laid (t':=j.toks) (fun b u e=>Wt _ e) (xO _) ?_,Z,q _ hf⟩;exact⟨z,us,0,r,Wv _ Z⟩
end
abbrev Sp:=List V->Hp->VK->XK->Prop
abbrev oq:=List Env->Hp->Shared->XK->Value->Shared->Prop
structure iM(P:Program)(w:World)(K:xB)(mg:Str->Option Value)(base:Heap)(A:Around)(outer:List Env)(s:Shared)(H:Hp):Prop where
 frames:A.frames=some outer
 mod:Mod K mg base
 bs:∀b o,base.get? b=some o->s.heap.get? b=some o/\H b=none
 bsz:base.objs.size<=s.heap.objs.size
 d3:s.heap.FunFrames base outer
 frf:∀b∈pN outer,H b=none
 bp:dg P w H s.heap
 bare:AllBare s.gens
def CE(outer:List Env)(P:Program)(w:World)(H:Hp)(s:Shared)(Q:VK)(u:Value)(s':Shared):Prop:=
 ∃v H',s'.os=s.os/\AllBare s'.gens/\Un (pN outer) [] H H' s.heap s'.heap/\dg P w H' s'.heap/\QR v u/\Q v H'
def CR(CX:oq)(outer:List Env)(P:Program)(w:World)(H:Hp)(s:Shared)(Q:VK)(E:XK)(r:Result)(s':Shared):Prop:=
 match r with
 |.ok (.ret u)=>CE outer P w H s Q u s'
 |.ok _=>False
 |.error e=>CX outer H s E e s'
structure QC(P:Program)(w:World)(K:xB)(mg:Str->Option Value)(base:Heap)(CX:oq)(k:Nat)(f:Addr)(fd:FuncData)(ps:List Str)(sp:Sp):Prop where
 len:∀vs H Q E,sp vs H Q E->vs.length=ps.length
 run:∀(A:Around)(outer:List Env)(s:Shared)(H:Hp)(args:Args)(us:List Value)(vs:List V)(Q:VK)(E:XK),ZJ k A->iM P w K mg base A outer s H->BindsTo s fd args (ps.zip us)->QH vs us->sp vs H Q E->
  codeAny (model P w) A (.call (.ref f) args) (CR CX outer P w H s Q E) s
theorem QC.mono{K:xB}{mg:Str->Option Value}{base:Heap}{CX:oq}{j k:Nat}{f:Addr}{fd:FuncData}{ps:List Str}{sp:Sp}(F:QC P w K mg base CX j f fd ps sp)(h:j<=k) :
  QC P w K mg base CX k f fd ps sp:=⟨F.len,fun A outer s H args us vs Q E hr=>F.run A outer s H args us vs Q E (hr.mono h)⟩
theorem iM.make{K:xB}{mg:Str->Option Value}{base:Heap}{outer:List Env}(e:iM P w K mg base A outer s H)(C:Addr)(us:List Value) (j:List (Str×Value)) :
  iM P w K mg base (A.under (.builtin "type.__call__" ⟨.ref C::us,j⟩)) outer s H:=⟨by first|exact e.frames|(simpa [Around.under,Code.envs,Code.isFrame,pushEnvs] using e.frames),e.mod,e.bs,e.bsz,e.d3,e.frf,e.bp,e.bare⟩
section
variable {s':Shared}
theorem Inv.DW(I:Inv X aZ σ H s):iM X.prog X.w X.K X.mg X.base X.A X.stack s H:=
 ⟨I.ok.frames,I.ok.mod,I.bs,xM I.ok.bsz I.sz,I.stack,I.ml,I.bp,I.bare⟩
theorem Inv.after{Q:VK}(I:Inv X aZ σ H s)(h:CE X.stack X.prog X.w H s Q u s'):EP X aZ σ Q u s':=by obtain⟨v,H',os,bare,un,bp,r,q⟩:=h;obtain⟨n,g,d,t,j⟩:=s';obtain rfl:j=s.os:=os;exact⟨v,H',I.call (h':=n) (g':=g) (d':=d) (t':=t) (ch:=[]) un bp bare (fun b z=>Wm z We),r,q⟩
end
def mf(sp:Sp)(dvs:List V)(E:XK)(t:TA):TE:=fun σ H Q=>t σ H fun vs H1=>sp (vs++dvs) H1 Q E
inductive sA(C:Addr)(m:Str)(sp:Sp)(dvs:List V)(E:XK)(t:TA)(σ:St)(Q:VK)(x:V)(H1:Hp):Prop
 |mk (a dx fs:_):x=.ref a->H1 a=some (.ins C dx fs)->fs.lookup m=none->(t σ H1 fun vs H2=>sp (x::(vs++dvs)) H2 Q E)->sA C m sp dvs E t σ Q x H1
def yQ(C:Addr)(m:Str)(sp:Sp)(dvs:List V)(E:XK)(ta:TE)(t:TA):TE:=fun σ H Q=>ta σ H (sA C m sp dvs E t σ Q)
def FZ(C:Addr)(sp:Sp)(dvs:List V)(E:XK)(t:TA):TE:=fun σ H Q=>t σ H fun vs H1=>∀x dx,H1 x=none->H1 dx=none->dx≠x->
 sp (.ref x::(vs++dvs)) (upd (upd H1 dx (.own x)) x (.ins C dx [])) (fun v H2=>v=.bQ/\Q (.ref x) H2) E
def Xu(K:xB)(fd:FuncData)(ps:List Str)(ds:List Value):Prop:=
 ∀(s:Shared)(us:List Value),K.In s.heap->(us++ds).length=ps.length->BindsTo s fd ⟨us,[]⟩ (ps.zip (us++ds))
theorem Xu.all{K:xB}{fd:FuncData}{ps:List Str} (h:∀us:List Value,us.length=ps.length->bindArgs fd ⟨us,[]⟩=pure (ps.zip us)):Xu K fd ps []:=fun s us _ hl=>by
 rw[Ux]at hl ⊢;exact .of_eq (h us hl)
def J0(CX:oq)(X:Cx)(E:XK):Prop:=∀(aZ:List (Addr×Obj)) (σ:St) (H:Hp) (s:Shared) (e:Value) (s':Shared),Inv X aZ σ H s->CX X.stack H s E e s'->X.xe e s'
section
variable {CX:oq} {k:Nat} {f C:Addr} {fd:FuncData} {ps:List Str} {sp:Sp} {dvs:List V} {ds:List Value} {E:XK} {m:Str} {p dC:Pos} {e o:Expr} {es:List Expr} {ta:TE} {t:TA}
theorem jQ{Q:VK}{vs:List V}(F:QC X.prog X.w X.K X.mg X.base CX k f fd ps sp)(hr:ZJ k X.A)(z:Xu X.K fd ps ds)(hd:QH dvs ds)(B:J0 CX X E)
  (I:Inv X aZ σ H s) (r:QH vs us) (h:sp (vs++dvs) H Q E):wpAny (model X.prog X.w) X.A (call (.ref f) us) (EP X aZ σ Q) X.xe s:=by
 have n:QH (vs++dvs) (us++ds):=r.append hd;have hl:(us++ds).length=ps.length:=by rw[<-n.length];exact F.len _ _ _ _ h
 refine wpAny_call (codeAny_mono (F.run X.A X.stack s H ⟨us,[]⟩ (us++ds) (vs++dvs) Q E hr I.DW (z s us I.eK hl) n h) fun r s' j=>?_);cases r with
 |error e=>exact B aZ σ H s e s' I j
 | ok fl=>
  cases fl with
  |ret u=>exact I.after j
  |next=>exact False.elim j
  |brk=>exact False.elim j
  |cont=>exact False.elim j
theorem wx(F:QC X.prog X.w X.K X.mg X.base CX k f fd ps sp)(hr:ZJ k X.A)(B:Gl X x) (G:X.mg x=some (.ref f)) (hk:GU X.K (.ref f)=true) (J:Xu X.K fd ps ds) (hd:QH dvs ds) (O:J0 CX X E)
  (U:PA X (e::es) t) (j:(x==("__debug__" : Str))=false:=by decide) (he:starEach (e::es) X.env=(false,eval e X.env)::starEach es X.env:=by rfl) (n:(backTo pos (starEach es X.env)).any (·.1)=false:=by rfl) :
  PE X (.Call (.Name x p) (e::es) [] pos) (mf sp dvs E t):=by
 intro aZ s σ H Q I h;refine wpAny_Call_Name_kw (j0 I B G ?_ j);refine VO (h₀:=X.base) I.ok.mod.kin hk (bz (U pos aZ s σ H _ I h) fun us s1 ⟨vs,H1,z,r,q⟩=>⟨z.eK,?_⟩) he n;exact jQ F hr J hd O z r q
theorem Q5{pl:Sem Bool}(O:PE X o ta)(c:pC X.K C)(z:Meth X.K C m f)(F:QC X.prog X.w X.K X.mg X.base CX k f fd ps sp)(hr:ZJ k X.A)(U:Xu X.K fd ps ds)(hd:QH dvs ds)(hx:J0 CX X E) (ha:PA X (e::es) t)
  (j:starEach (e::es) X.env=(false,eval e X.env)::starEach es X.env:=by rfl) (n:(backTo pos (starEach es X.env)).any (·.1)=false:=by rfl)
  (ht:eval (.Call (.Attribute o m dC) (e::es) [] pos) X.env=(do
   let B <- eval o X.env
   standAt dC.atName
   let (f,first) <- holding [B] (getMethod B m pl)
   callWith pos f first (backTo pos (starEach (e::es) X.env)) (backToKw pos (keywordEach [] X.env))):=by rfl) :
  PE X (.Call (.Attribute o m dC) (e::es) [] pos) (yQ C m sp dvs E ta t):=by
 intro aZ s σ H Q I h;refine Qby (pl:=pl) (bz (O aZ s σ H _ I h) fun u s1 ⟨x,H1,G,rx,a,dx,fs,ex,ea,l,q⟩=>?_) ht;subst ex;obtain rfl:u=Value.ref a:=rx;refine yj G ea c z l ?_;refine VO (first:=[.ref a]) (h₀:=X.base) I.ok.mod.kin z.kp (bz (ha pos aZ s1 σ H1 _ G q) fun us s2 ⟨vs,H2,J,r,q2⟩=>⟨J.eK,?_⟩) j n;exact jQ (us:=.ref a::us) (vs:=.ref a::vs) F hr U hd hx J (.cons Z r) q2
theorem Yo{pl:Sem Bool}(B:PE X o ta)(c:pC X.K C)(n:Meth X.K C m f)(F:QC X.prog X.w X.K X.mg X.base CX k f fd ps sp)(hr:ZJ k X.A)(G:Xu X.K fd ps ds)(hd:QH dvs ds)(J:J0 CX X E)
  (O:eval (.Call (.Attribute o m dC) [] [] pos) X.env=(do
   let z <- eval o X.env
   standAt dC.atName
   let (f,first) <- holding [z] (getMethod z m pl)
   callWith pos f first (backTo pos (starEach [] X.env)) (backToKw pos (keywordEach [] X.env))):=by rfl) :
  PE X (.Call (.Attribute o m dC) [] [] pos) (yQ C m sp dvs E ta jA):=by
 intro aZ s σ H Q I h;refine Qby (pl:=pl) (bz (B aZ s σ H _ I h) fun u s1 ⟨x,H1,j,U,a,dx,fs,ex,ea,l,q⟩=>?_) O;subst ex;obtain rfl:u=Value.ref a:=U;refine yj j ea c n l ?_;exact PySem.W.callWith_K0 (first:=[.ref a]) j.eK n.kp (jQ (us:=[.ref a]) (vs:=[.ref a]) F hr G hd J j (.cons Z .nil) q)
structure Mk(K:xB)(C f:Addr):Prop where
 makes:Qbx K C=true
 init:G1 K (.ref C) "__init__" = some (some (.ref f))
 fn:Qat K (.ref f)=true
 kp:GU K (.ref C)=true
theorem pS{Q:VK}{vs:List V}(M:Mk X.K C f)(F:QC X.prog X.w X.K X.mg X.base CX k f fd ps sp) (hr:ZJ (k+1) X.A) (G:Xu X.K fd ps ds) (hd:QH dvs ds)
  (J:J0 CX X E) (I:Inv X aZ σ H s) (r:QH vs us)
  (h:∀x dx,H x=none->H dx=none->dx≠x->sp (.ref x::(vs++dvs)) (upd (upd H dx (.own x)) x (.ins C dx [])) (fun v H2=>v=.bQ/\Q (.ref x) H2) E) :
  wpAny (model X.prog X.w) X.A (call (.ref C) us) (EP X aZ σ Q) X.xe s:=by
 have z:=h (s.heap.objs.size+1) s.heap.objs.size (I.bp.fresh (Nat.le_succ _)) (I.bp.fresh (xO _)) (xY (Qbg _));have n:=Inv.made (C:=C) I;have B:QH (V.ref (s.heap.objs.size+1)::(vs++dvs)) (Value.ref (s.heap.objs.size+1)::(us++ds)):=.cons Z (r.append hd)
 have hl:(Value.ref (s.heap.objs.size+1)::us++ds).length=ps.length:=by have e:=B.length;rw[F.len _ _ _ _ z]at e;exact e.symm
 refine wpAny_call (uh (f:=f) I.eK M.makes M.init (beq_iff_eq.mp M.fn) (codeAny_mono (F.run _ X.stack _ _ ⟨Value.ref (s.heap.objs.size+1)::us,[]⟩ (Value.ref (s.heap.objs.size+1)::(us++ds)) _ _ E (hr.make C us [])
  (n.DW.make C us []) (G _ (Value.ref (s.heap.objs.size+1)::us) n.eK hl) B z) fun r s' j=>?_))
 cases r with
 |error e=>exact J aZ σ _ _ e s' n j
 | ok fl=>
  cases fl with
  | ret u=>
   obtain⟨v,H',O,U,ev,q3⟩:=n.after j;subst ev;exact⟨U,⟨V.ref (s.heap.objs.size+1),H',O,Z,q3⟩⟩
  |next=>exact False.elim j
  |brk=>exact False.elim j
  |cont=>exact False.elim j
theorem lT(M:Mk X.K C f)(F:QC X.prog X.w X.K X.mg X.base CX k f fd ps sp) (hr:ZJ (k+1) X.A) (B:Gl X x) (G:X.mg x=some (.ref C)) (J:Xu X.K fd ps ds) (hd:QH dvs ds) (O:J0 CX X E)
  (U:PA X (e::es) t) (j:(x==("__debug__" : Str))=false:=by decide) (he:starEach (e::es) X.env=(false,eval e X.env)::starEach es X.env:=by rfl) (n:(backTo pos (starEach es X.env)).any (·.1)=false:=by rfl) :
  PE X (.Call (.Name x p) (e::es) [] pos) (FZ C sp dvs E t):=by
 intro aZ s σ H Q I h;refine wpAny_Call_Name_kw (j0 I B G ?_ j);refine VO (h₀:=X.base) I.ok.mod.kin M.kp (bz (U pos aZ s σ H _ I h) fun us s1 ⟨vs,H1,z,r,q⟩=>⟨z.eK,?_⟩) he n;exact pS M F hr J hd O z r q
end
def PK(X:Cx)(wD:List Keyword)(t:TA):Prop:=
 ∀(pos:Pos) (aZ:List (Addr×Obj)) (s:Shared) (σ:St) (H:Hp) (Q:List V->Hp->Prop),Inv X aZ σ H s->t σ H Q->wpAny (model X.prog X.w) X.A (evalAll ((backToKw pos (keywordEach wD X.env)).map (·.2))) (AP X aZ σ Q) X.xe s
section
variable {CX:oq} {k:Nat} {f C:Addr} {fd:FuncData} {ps ks:List Str} {sp:Sp} {E:XK} {m:Str} {p dC vj:Pos} {e o:Expr} {es:List Expr} {wD:List Keyword} {te ta:TE} {t tk:TA} {nm:Option Str}
theorem jT:PK X [] jA:=fun _ _ _ _ H Q I h=>wpAny_evalAll_nil ⟨[],H,I,.nil,h⟩
theorem zt(j:PE X e te)(hr:PK X wD t):PK X (⟨nm,e,vj⟩::wD) (YF te t):=by intro pos aZ s σ H Q I h;show wpAny _ _ (evalAll ((do let v <- eval e X.env;standAt pos;pure v)::(backToKw pos (keywordEach wD X.env)).map (·.2))) _ _ s;refine wpAny_evalAll_cons (wpAny_bind (bz (j aZ s σ H _ I h) fun u n ⟨x,H1,z,B,F⟩=>wpAny_bind (wpAny_standAt (wpAny_pure ?_))));exact bz (hr pos aZ n σ H1 _ z F) fun us U ⟨xs,H2,G,J,O⟩=>⟨x::xs,H2,G,.cons B J,O⟩
variable {g:List Value->List Value->List Value} {gV:List V->List V->List V}
end
structure a7(N P:List Str)(sc:Scope):Prop where
 kind:sc.kind=.function
 co:sc.isCoroutine=false
 gen:sc.isGenerator=false
 nd:N.Nodup
 pre:N.take P.length=P
 par:∀x∈P,sc.names.lookup x=some .local\/sc.names.lookup x=some .cell
 nofree:∀y∈sc.names,y.2≠.free
theorem jr{j:Str->Option NameKind}:∀{binds:List (Str×Value)} {m:Str->Option Value},(∀v,(x,v)∉binds)->bindL j binds m x=m x
 |[],_,_=>rfl
 | (n,v)::r,m,h=>by
  unfold bindL;rw[jr fun w hw=>h w (xT _ hw)];split
  ·have:x≠n:=by rintro rfl;exact h v Gn
   simp[this]
  ·rfl
theorem jt{j:Str->Option NameKind}:∀{binds:List (Str×Value)} {m:Str->Option Value},(∀v,(x,v)∉binds)->bindC j binds m x=m x
 |[],_,_=>rfl
 | (n,v)::r,m,h=>by
  unfold bindC;rw[jt fun w hw=>h w (xT _ hw)];split
  ·rfl
  ·have:x≠n:=by rintro rfl;exact h v Gn
   simp[this]
theorem js{j:Str->Option NameKind}{v:Value}:∀{P:List Str} {vs:List Value} {i:Nat} {m:Str->Option Value},P.Nodup->P[i]?=some x->vs[i]?=some v->j x=some .local->
  bindL j (P.zip vs) m x=some v
 |[],_,_,_,_,h,_,_=>by simp at h
 |_::_,[],_,_,_,_,h,_=>by simp at h
 | p::P,w::vs,0,m,nd,h1,h2,hk=>by
  simp at h1 h2;subst h1;subst h2;show bindL j ((p,w)::P.zip vs) m p=_;unfold bindL;rw[jr fun v n=>(List.nodup_cons.mp nd).1 (Qbs n).1,Wi hk];simp
 | p::P,w::vs,i+1,m,nd,h1,h2,hk=>by
  show bindL j ((p,w)::P.zip vs) m x=_;unfold bindL;exact js (i:=i) (List.nodup_cons.mp nd).2 (by simpa using h1) (by simpa using h2) hk
theorem ju{j:Str->Option NameKind}{v:Value}:∀{P:List Str} {vs:List Value} {i:Nat} {m:Str->Option Value},P.Nodup->P[i]?=some x->vs[i]?=some v->j x≠some .local->
  bindC j (P.zip vs) m x=some v
 |[],_,_,_,_,h,_,_=>by simp at h
 |_::_,[],_,_,_,_,h,_=>by simp at h
 | p::P,w::vs,0,m,nd,h1,h2,hk=>by
  simp at h1 h2;subst h1;subst h2;show bindC j ((p,w)::P.zip vs) m p=_;unfold bindC;rw[jt fun v n=>(List.nodup_cons.mp nd).1 (Qbs n).1,Wh hk];simp
 | p::P,w::vs,i+1,m,nd,h1,h2,hk=>by
  show bindC j ((p,w)::P.zip vs) m x=_;unfold bindC;exact ju (i:=i) (List.nodup_cons.mp nd).2 (by simpa using h1) (by simpa using h2) hk
def YR(N:List Str)(vs:List V):St:=vs.map some++xU (N.length-vs.length) none
def kI(CX:oq)(P:Program)(w:World)(K:xB)(mg:Str->Option Value)(base:Heap)(N:List Str)(j:Str)(scope:Scope)(f:Addr)(z:Value)(A:Around)(outer:List Env)(s:Shared)(H:Hp)(E:XK):Cx where
 prog:=P
 w:=w
 K:=K
 mg:=mg
 base:=base
 A:=A.deeper (envOfC j scope s.heap.objs.size f z)
 N:=N
 eM:=s
 H_0:=H
 env:=envOfC j scope s.heap.objs.size f z
 outer:=outer
 stack:=envOfC j scope s.heap.objs.size f z::outer
 ex:=[]
 calm:=true
 fn:=fun _=>true
 pn:=[]
 xe:=fun e s'=>wpAny (model P w) (A.deeper (envOfC j scope s.heap.objs.size f z)) (leaving (envOfC j scope s.heap.objs.size f z) e) (fun _ n=>CX outer H s E e n) (fun B n=>CX outer H s E B n) s'
theorem fS{sc:Scope}{n:Nat}(h:sc.names.lookup x=some .cell):∃c,(cellsFrom n sc.names []).lookup x=some c:=by have q:=Qbr sc.names n [] (.inl h);exact Option.isSome_iff_exists.mp q
theorem nv{CX:oq}{K:xB}{mg:Str->Option Value}{base:Heap}{N ps:List Str}{j:Str}{scope:Scope}{f:Addr}{O:Value}{outer:List Env}{s U:Shared}{E:XK}{vs:List V}
  (S:a7 N ps scope) (hd:A.handled=none) (B:iM P w K mg base A outer s H) (hl:vs.length=ps.length) (r:QH vs us)
  (x:InCallC s s.heap.objs.size (bindL (envOfC j scope s.heap.objs.size f O).kindOf (ps.zip us) fun _=>none) (cellsFrom (s.heap.objs.size+1) scope.names []) (bindC (envOfC j scope s.heap.objs.size f O).kindOf (ps.zip us) fun _=>none) U) :
  Inv (kI CX P w K mg base N j scope f O A outer s H E) [] (YR N vs) H U:=by
 have aa:ps.length<=N.length:=by have:=Wn Qay S.pre;rw[Go]at this;omega
 obtain⟨h1,tk,rfl,hk⟩:=x.done;have F:∀b:Addr,b∉(kI CX P w K mg base N j scope f O A outer s H E).ex:=fun b z=>Wm (show b∈([]:List Addr) from z) We
 refine⟨⟨B.mod,S.kind,Z,Z,xO _,fun y z c h1 h2=>?_,fun y G=>?_,fun y c _ h=>?_,fun _=>hd,Around.frames_deeper B.frames,.inr ⟨Z,Z⟩,fun b z=>Wm z (F b),B.bs,B.bsz,fun b _ _=>F b,fun b z=>Wm z (F b),B.d3,B.frf⟩,
  rfl,B.bare,Un.kept hk,⟨_,x.toInCall.ns,fun i y v h1 h2 h3=>?_⟩,fun y c h=>⟨_,x.cell y c h⟩,B.bp.fresh (xO _),fun y c h=>?_,fun p I=>Wm (show p∈([]:List (Addr×Obj)) from I) We,B.bp.kept hk,?_⟩
 ·exact name_of_addr x.apart (Wy h1) (Wy h2)
 ·have G:scope.names.lookup y=some .cell\/scope.names.lookup y=some .free:=G;rcases G with G | G
  ·exact fS G
  ·exact Wm Z (S.nofree _ (Wy G))
 ·exact VZ (x.above y c (Wy h))
 ·have hi:i<vs.length:=by
   unfold YR at h2;by_cases hi:i<vs.length
   ·exact hi
   ·rw[Ut (by simpa using hi)]at h2;rw[List.getElem?_replicate]at h2;split at h2<;>cases h2
  have ha:vs[i]?=some v:=by
   unfold YR at h2;rw[GY (by simpa using hi),xL]at h2;cases e:vs[i]? with
   |none=>rw[e]at h2;cases h2
   |some a=>rw[e]at h2;cases h2;rfl
  obtain⟨u,hu,rv⟩:=r.get ha
  have I:ps[i]?=some y:=by rw[<-S.pre,Qa7 (by omega)];exact h1
  have J:ps.Nodup:=by rw[<-S.pre];exact S.nd.sublist (List.take_sublist _ _)
  refine⟨u,rv,?_⟩;rcases S.par y (x6 I) with k|k
  ·exact .inl ⟨k,js J I hu k⟩
  ·obtain⟨c,e⟩:=fS (n:=s.heap.objs.size+1) k;refine .inr ⟨.inl k,c,e,?_⟩;have q:=x.cell y c e;rw[ju J I hu (by show scope.names.lookup y≠_;rw[k];decide)]at q;exact q
 ·exact B.bp.fresh (VZ (x.above y c (Wy h)))
 ·unfold YR;show _=N.length;rw[xG,xD,Vt];omega
theorem FG{CX:oq}{K:xB}{mg:Str->Option Value}{base:Heap}{k:Nat}{f:Addr}{name j:Str}{B:Arguments}{F:List Stmt}{scope:Scope}{dV kV aa pm z ct oc:Value}{an od:Option Addr}
  {ac:Array (Option Value)} {N ps:List Str} {sp:Sp} (lk:K.lookup f=some ⟨oc,od,.func (Ua name j B F scope dV kV aa pm an z ct),ac⟩) (ad:Vj K z j=true) (S:a7 N ps scope)
  (len:∀vs H Q E,sp vs H Q E->vs.length=ps.length)
  (G:∀(A:Around)(outer:List Env)(s:Shared)(H:Hp)(vs:List V)(Q:VK)(E:XK),ZJ k (A.deeper (envOfC j scope s.heap.objs.size f z))->sp vs H Q E->
   ∃t,mr (kI CX P w K mg base N j scope f z A outer s H E) F t/\t { nx:=fun _ H'=>Q .bQ H',rt:=Q } (YR N vs) H) :
  QC P w K mg base CX (k+1) f (Ua name j B F scope dV kV aa pm an z ct) ps sp:=by
 refine⟨len,fun A outer s H args us vs Q E hr e0 hb r ab=>?_⟩;have hl:=len _ _ _ _ ab;have KX:K.In s.heap:=e0.mod.kin.keeps fun b o e=>(e0.bs b o e).1;have af:s.heap.NoLimit:=e0.mod.nolimit.keeps fun b o e=>(e0.bs b o e).1
 have O:∀y∈ps.zip us,scope.names.lookup y.1=some .local\/(scope.names.lookup y.1=some .cell/\((cellsFrom (s.heap.objs.size+1) scope.names []).lookup y.1).isSome=true):=fun⟨n,v⟩ hy=>by
  rcases S.par n (Qbs hy).1 with q|q
  ·exact .inl q
  ·exact .inr ⟨q,Qbr _ _ _ (.inl q)⟩
 refine codeAny_call_function hr.depth (KX _ _ lk) Z S.co S.gen Z (PySem.W.codeRec_of KX ad) (hb _ _ _ _ ?_);refine wpAny_newFunctionEnv_cells S.kind O fun env he s1 x=>?_;subst he;refine⟨af.keeps x.toInCall.keep,codeAny_func ?_⟩;obtain⟨t,ht,hq⟩:=G A outer s H vs Q E (hr.deeper _) ab;have I:Inv (kI CX P w K mg base N j scope f z A outer s H E) [] (YR N vs) H s1:=nv S hr.hd e0 hl r x;refine wpAny_mono (ht [] s1 (YR N vs) H _ I hq) (fun fl s' U=>?_) fun e s' U=>U
 have fin:∀{dA:St} {H':Hp} {v:V} {u:Value},Inv (kI CX P w K mg base N j scope f z A outer s H E) [] dA H' s'->QR v u->Q v H'->CE outer P w H s Q u s':=
  fun {dA H' v u} J rv q=>⟨v,H',J.os,J.bare,J.base,J.bp,rv,q⟩
 cases fl with
 | ret u=>
  obtain⟨v,dA,H',J,rv,q⟩:=U;exact fin J rv q
 | next=>
  obtain⟨dA,H',J,q⟩:=U;exact fin (v:=V.bQ) (u:=Value.none) J Z q
 | brk=>
  obtain⟨_,_,_,q⟩:=U;exact False.elim q
 | cont=>
  obtain⟨_,_,_,q⟩:=U;exact False.elim q
section
variable {p:Pos} {e:Expr} {es:List Expr} {t:TA} {id T:String} {r:List V->Hp->VK->Prop}
def K7(r:List V->Hp->VK->Prop)(t:TA):TE:=fun σ H Q=>t σ H fun vs H1=>r vs H1 Q
theorem Qx (hc:qw X (.builtin id) r) (z:Gl X x) (B:X.mg x=none) (F:bootBuiltins x=some (.builtin id)) (G:PA X (e::es) t) (J:x ≠ "__name__" := by decide) (j:(x==("__debug__" : Str))=false:=by decide)
  (O:starEach (e::es) X.env=(false,eval e X.env)::starEach es X.env:=by rfl) (n:(backTo pos (starEach es X.env)).any (·.1)=false:=by rfl):PE X (.Call (.Name x p) (e::es) [] pos) (K7 r t):=by
 intro aZ s σ H Q I h;refine wpAny_Call_Name_kw (X8 I z B F ?_ J j);exact PyProof.Rows.callWith_builtin1 (bz (G pos aZ s σ H _ I h) fun us U ⟨vs,H1,I1,r1,q1⟩=>hc aZ U σ H1 vs us Q I1 r1 q1) O n
theorem Js (hc:qw X (.type T) r) (z:Gl X x) (B:X.mg x=none) (F:bootBuiltins x=some (.type T)) (G:PA X (e::es) t) (J:x ≠ "__name__" := by decide) (j:(x==("__debug__" : Str))=false:=by decide)
  (O:starEach (e::es) X.env=(false,eval e X.env)::starEach es X.env:=by rfl) (n:(backTo pos (starEach es X.env)).any (·.1)=false:=by rfl):PE X (.Call (.Name x p) (e::es) [] pos) (K7 r t):=by
 intro aZ s σ H Q I h;refine wpAny_Call_Name_kw (X8 I z B F ?_ J j);exact PyProof.Rows.callWith_type1 (bz (G pos aZ s σ H _ I h) fun us U ⟨vs,H1,I1,r1,q1⟩=>hc aZ U σ H1 vs us Q I1 r1 q1) O n
end
end L2
variable {X:L2.Cx} {s:PySem.Shared} {H:L2.Hp} {w:PySem.World} {aZ:List (PySem.Addr×PySem.Obj)} {σ:L2.St} {A:PySem.Around} {P:PySem.Program} {prog:PySem.Program} {pos:PySem.Pos} {E:PySem.Value->PySem.Shared->Prop} {us:List PySem.Value} {u:PySem.Value} {xs:List L2.V} {x:PySem.Str} {M:PySem.Model}
namespace HT
open PySem PyProof.Rows
section
open PySem.SeqAt
open PySem.AutoSeq1 (wpAny_loadPart')
open PySem.MeetsSeq PySem.MeetsSeq2 PySem.MeetsSeq3
end
def eZ(n d:Nat):Option Int->Nat
 |none=>d
 |some v=>if v<0 then(v+(n:Int)).toNat else min v.toNat n
theorem tQ(n d:Nat):eZ n d none=d:=rfl
theorem dn(n d k:Nat):eZ n d (some (k:Int))=min k n:=by show(if(k:Int)<0 then((k:Int)+(n:Int)).toNat else min (k:Int).toNat n)=min k n;rw[Wh (by omega),Uc]
end HT
namespace L2
open PySem PySem.Spec PyProof.Rows
abbrev TO:=St->Hp->(Option Int->Hp->Prop)->Prop
def PO(X:Cx)(e:Option Expr)(t:TO):Prop:=
 ∀(aZ:List (Addr×Obj)) (s:Shared) (σ:St) (H:Hp) (Q:Option Int->Hp->Prop),Inv X aZ σ H s->t σ H Q->
  wpAny (model X.prog X.w) X.A (evalPart e X.env) (fun u s'=>∃o H',Inv X aZ σ H' s'/\IsPart u o/\Q o H') X.xe s
def uZ:TO:=fun _ H Q=>Q none H
def Fh(t:TE):TO:=fun σ H Q=>t σ H fun x H1=>∃i,x=.int i/\Q (some i) H1
section
variable {e:Expr} {te:TE} {lo hi:Option Expr} {tl th:TO} {p2:Pos}
theorem zq:PO X none uZ:=by intro aZ s σ H Q I h;rw[evalPart_none];exact wpAny_pure ⟨none,H,I,.none,h⟩
theorem Xe(h:PE X e te):PO X (some e) (Fh te):=by intro aZ s σ H Q I hw;rw[evalPart_some];refine bz (h aZ s σ H _ I hw) fun u F j=>?_;obtain⟨x,H1,n,z,B⟩:=j;obtain⟨i,rfl,q⟩:=B;obtain⟨t,rfl⟩:=z;exact⟨some i,H1,n,.int i t,q⟩
def Ld(X:Cx)(r:V->Option Int->Option Int->Hp->VK->Prop):Prop:=
 ∀(aZ:List (Addr×Obj)) (s:Shared) (σ:St) (H:Hp) (x:V) (v j n:Value) (lo hi:Option Int) (z:Addr) (Q:VK),Inv X aZ σ H s->QR x v->s.heap.IsSliceOf z j n .none->IsPart j lo->IsPart n hi->r x lo hi H Q->
  ∃T id,typeLookup (.type T) "__getitem__" = pure (some (.builtin id))/\s.TypeIs v T/\wpAny (model X.prog X.w) X.A (getItem v (.ref z)) (EP X aZ σ Q) X.xe s
def Ll(r:V->Option Int->Option Int->Hp->VK->Prop)(te:TE)(tl th:TO):TE:=fun σ H Q=>te σ H fun x H1=>tl σ H1 fun l H2=>th σ H2 fun u j=>r x l u j Q
theorem XH{r:V->Option Int->Option Int->Hp->VK->Prop}(hr:Ld X r)(G:PE X e te)(hl:PO X lo tl)(J:PO X hi th):PE X (.Subscript e (.Slice lo hi none p2) pos) (Ll r te tl th):=by intro aZ s σ H Q I h;refine Subscript_ (bz (G aZ s σ H _ I h) fun v O B=>?_);obtain⟨x,H1,U,r1,q1⟩:=B;refine wpAny_Slice (bz (hl aZ O σ H1 _ U q1) fun n s2 ⟨l,H2,I2,pl,q2⟩=>bz (J aZ s2 σ H2 _ I2 q2) fun z j B=>?_);obtain⟨u,F,I3,pu,q3⟩:=B;rw[evalPart_none];refine wpAny_pure ?_;have I4:Inv X aZ σ F { j with heap:=j.heap.push { cls:=.type "slice",data:=.fields #[n,z,.none] } }:=I3.kept (t':=j.toks) fun b ob q=>Wt _ q;obtain⟨T,id,hT,ht,hg⟩:=hr aZ { j with heap:=j.heap.push { cls:=.type "slice",data:=.fields #[n,z,.none] } } σ F x v n z l u j.heap.objs.size Q I4 r1 (Heap.IsSliceOf.new ..) pl pu q3;show wpAny (model X.prog X.w) X.A (subscriptTail e (.Slice lo hi none p2) v (.ref j.heap.objs.size)) (EP X aZ σ Q) X.xe { j with heap:=j.heap.push { cls:=.type "slice",data:=.fields #[n,z,.none] } };exact tail_any (ops:=[.ref j.heap.objs.size,v]) ht hT hg (by with_unfolding_all rfl)
def X9(xs:List V)(lo hi:Option Int):List V:=(xs.drop (HT.eZ xs.length 0 lo)).take (HT.eZ xs.length xs.length hi-HT.eZ xs.length 0 lo)
theorem fA(xs:List V)(lo hi:Option Int):(X9 xs lo hi).length<=xs.length:=by unfold X9;rw[Go,Gd];omega
end
def Du(n:Nat)(i:Int):Option Nat:=if 0<=i then(if i<n then some i.toNat else none) else if -(n:Int)<=i then some (i+n).toNat else none
def Cr{α:Type}(xs:List α)(i:Int):Option α:=(Du xs.length i).bind fun j=>xs[j]?
theorem wc{n:Nat}{i:Int}{j:Nat}(h:Du n i=some j):seqIndex? i n=some j/\j<n/\-(n:Int)<=i/\i<n:=by
 unfold Du at h;by_cases h0:0<=i
 ·rw[Wi h0] at h;by_cases h1:i<n
  ·rw[Wi h1]at h;have e:i.toNat=j:=Wo h;exact⟨by rw[seqIndex_of h0 h1,e],by omega,by omega,h1⟩
  ·rw[Wh h1]at h;cases h
 ·rw[Wh h0] at h;by_cases h1 : -(n:Int)<=i
  ·rw[Wi h1]at h;have e:(i+n).toNat=j:=Wo h;exact⟨by rw[seqIndex_neg (by omega) h1,e],by omega,h1,by omega⟩
  ·rw[Wh h1]at h;cases h
theorem lY{α:Type}{xs:List α}{i:Int}{v:α}(h:Cr xs i=some v):∃j,seqIndex? i xs.length=some j/\xs[j]?=some v/\j<xs.length/\-(xs.length:Int)<=i/\i<xs.length:=by
 unfold Cr at h;cases e:Du xs.length i with
 |none=>rw[e]at h;cases h
 | some j=>
  rw[e]at h;obtain⟨h1,h2,n,z⟩:=wc e;exact⟨j,h1,h,h2,n,z⟩
theorem Qm{α:Type}{xs:List α}{j:Nat}{v:α}(h:xs[j]?=some v):Cr xs (j:Int)=some v:=by
 have n:j<xs.length:=(List.getElem?_eq_some_iff.mp h).1
 have e:Du xs.length (j:Int)=some j:=by unfold Du;rw[Wi (by omega),Wi (by omega)];simp
 unfold Cr;rw[e];exact h
def vl(b:Expr):Prop:=∀o i,subscripted b false o i=operate [o,i] (getItem o i)
def Ii(X:Cx)(r:R2):Prop:=
 ∀(value j:Expr) (aZ:List (Addr×Obj)) (s:Shared) (σ:St) (H:Hp) (x y:V) (v u:Value) (Q:VK),Inv X aZ σ H s->QR x v->QR y u->r x y H Q->
  subscripted j false v u=operate [v,u] (getItem v u)->wpAny (model X.prog X.w) X.A (subscriptTail value j v u) (EP X aZ σ Q) X.xe s
def KZ(X:Cx)(id:String)(r:V->List V->Hp->VK->Prop):Prop:=
 ∀(aZ:List (Addr×Obj)) (s:Shared) (σ:St) (H:Hp) (x:V) (xs:List V) (v:Value) (us:List Value) (Q:VK),Inv X aZ σ H s->QR x v->QH xs us->r x xs H Q->
  wpAny (model X.prog X.w) X.A (call (.builtin id) (v::us)) (EP X aZ σ Q) X.xe s
section
variable {a b:Expr} {ta tb:TE}
theorem Qy{r:R2}(hr:Ii X r)(j:PE X a ta)(n:PE X b tb)(z:vl b):PE X (.Subscript a b pos) (n9 r ta tb):=by intro aZ s σ H Q I h;exact Subscript_ (BF j n I h fun v u B x y H2 F G J q=>hr a b aZ B σ H2 x y v u Q F G J q (z _ _))
inductive EO(K:xB)(x:V)(y:V)(H:Hp)(Q:VK):Prop
 |mk (p xs i v:_):x=.ref p->y=.int i->ba K H p xs->Cr xs i=some v->Q v H->EO K x y H Q
inductive nQ(K:xB)(x:V)(y:V)(H:Hp)(Q:VK):Prop
 |mk (p xs i v:_):x=.ref p->y=.int i->bY K H p xs->Cr xs i=some v->Q v H->nQ K x y H Q
theorem QE:Ii X (EO X.K):=by
 intro value n aZ s σ H x y v u Q I O U h G;obtain⟨p,xs,i,z,rfl,rfl,hq,he,q⟩:=h;cases O;obtain⟨t,rfl⟩:=U;obtain⟨a8,r,pl,hz⟩:=I.list hq;obtain⟨j,h1,h2,h3,h4,h5⟩:=lY he;obtain⟨w,J,B⟩:=r.get h2;have hl:=r.length;have hn:=iZ;have fin:EP X aZ σ Q w s:=⟨z,H,I,B,q⟩;by_cases h0:0<=i
 ·have F:i.toNat=j:=by rw[seqIndex_of h0 h5] at h1;exact Wo h1
  exact item_listR pl.isList h0 (by omega) (by rw[F];simpa using J) fin G
 ·have F:(i+(a8.toArray.size:Int)).toNat=j:=by rw[seqIndex_neg (by omega) h4] at h1;rw[xS,<-hl];exact Wo h1
  exact subscriptTail_builtinR (x:=w) pl.isList.typeIs slot_list_getitem.lookup
   (wpAny_getItem_list_neg (Q:=fun r s'=>r=w/\EP X aZ σ Q r s') pl.isList (by omega) (by rw[xS]<;>omega) (by omega) (by rw[F];simpa using J) ⟨Z,fin⟩) G
theorem QO:Ii X (nQ X.K):=by
 intro value n aZ s σ H x y v u Q I F G h J;obtain⟨p,xs,i,z,rfl,rfl,O,U,q⟩:=h;cases F;obtain⟨t,rfl⟩:=G;obtain⟨a8,r,pl,hz⟩:=I.tuple O;obtain⟨j,h1,h2,h3,h4,h5⟩:=lY U;obtain⟨w,ew,B⟩:=r.get h2;have hl:=r.length;have hn:=iZ;have fin:EP X aZ σ Q w s:=⟨z,H,I,B,q⟩
 exact subscriptTail_builtinR (x:=w) pl.typeIs slot_tuple_getitem.lookup
  (getItem_tuple (j:=j) (Q:=fun r s'=>r=w/\EP X aZ σ Q r s') pl (by omega) (by omega) (by rw[xS,<-hl];exact h1) (by simpa using ew) ⟨Z,fin⟩) J
theorem jI(lo hi:Option Int)(n:Nat):(sliceBounds lo hi none n).1=((HT.eZ n 0 lo:Nat):Int)/\(sliceBounds lo hi none n).2.1=((HT.eZ n n hi:Nat):Int)/\(sliceBounds lo hi none n).2.2=1:=by
 refine⟨?_,?_,Z⟩
 ·cases lo with
  |none=>simp[sliceBounds,HT.eZ]
  | some i=>
   simp only[sliceBounds,HT.eZ,Vg,show(1:Int)>0 by decide,Wq];by_cases h:i<0
   ·simp only[h,Wq]<;>omega
   ·simp only[h,Wr]<;>omega
 ·cases hi with
  |none=>simp[sliceBounds,HT.eZ]
  | some i=>
   simp only[sliceBounds,HT.eZ,Vg,show(1:Int)>0 by decide,Wq];by_cases h:i<0
   ·simp only[h,Wq]<;>omega
   ·simp only[h,Wr]<;>omega
theorem yF(a8:List Value)(lo hi:Option Int):slicePick a8.toArray lo hi none=((a8.drop (HT.eZ a8.length 0 lo)).take (HT.eZ a8.length a8.length hi-HT.eZ a8.length 0 lo)).toArray:=by obtain⟨h1,h2,j⟩:=jI lo hi a8.toArray.size;unfold slicePick;rw[h1,h2,j];simp only[sliceRange_one,pick_run,xS]<;>rfl
inductive FA(K:xB)(x:V)(lo:Option Int)(hi:Option Int)(H:Hp)(Q:VK):Prop
 |mk (a xs:_):x=.ref a->ba K H a xs->(∀p,H p=none->Q (.ref p) (upd H p (.lst (X9 xs lo hi))))->FA K x lo hi H Q
theorem Yu:Ld X (FA X.K):=by intro aZ s σ H x v J O lo hi U Q I z B pl F h;obtain⟨a,xs,rfl,G,q⟩:=h;cases z;obtain⟨a8,r,n,hz⟩:=I.list G;have j:=r.length;refine⟨"list",_,slot_list_getitem.lookup,n.isList.typeIs,?_⟩;refine wpAny_getItem_list_slice n.isList B pl F .none We ?_ (by rw[xS]<;>omega);rw[yF,<-j];refine⟨.ref s.heap.objs.size,_,I.laid (t':=s.toks) (o:=.lst (X9 xs lo hi)) (fun b ob q=>Wt _ q) (xO _) ?_,Z,q _ (I.bp.fresh (xO _))⟩;exact⟨xM (fA xs lo hi) hz,_,0,(r.drop (HT.eZ xs.length 0 lo)).take (HT.eZ xs.length xs.length hi-HT.eZ xs.length 0 lo),Wv _ Z⟩
theorem Qp:qw X (.builtin "len") (fun xs H Q=>∃p ys,xs=[.ref p]/\(ba X.K H p ys\/bY X.K H p ys)/\Q (.int ys.length) H):=by
 intro aZ s σ H xs us Q I r h;obtain⟨p,ys,rfl,n,q⟩:=h;obtain⟨u,rfl,B⟩:=vals1 r;cases B;have F:=iZ;rcases n with n|n
 ·obtain⟨a8,z,pl,hz⟩:=I.list n;have j:=z.length;exact Calls.call_len_list pl.isList (by simp only[xS]<;>omega) ⟨.int ys.length,H,I.tok _,⟨s.toks+1,by rw[xS,j]⟩,q⟩
 ·obtain⟨a8,z,pl,hz⟩:=I.tuple n;have j:=z.length;exact len_tuple pl (by simp only[xS]<;>omega) ⟨.int ys.length,H,I.tok _,⟨s.toks+1,by rw[xS,j]⟩,q⟩
theorem Xz:qw X (.type "list") (fun xs H Q=>∃p ys,xs=[.ref p]/\(ba X.K H p ys\/bY X.K H p ys)/\∀l,H l=none->Q (.ref l) (upd H l (.lst ys))):=by
 intro aZ s σ H xs us Q I r h;obtain⟨p,ys,rfl,B,q⟩:=h;obtain⟨u,rfl,J⟩:=vals1 r;cases J
 have fin:∀(a8:List Value),QH ys a8->ys.length<=sizeLine->∀(h':Heap)(j:Nat),(∀b o',s.heap.get? b=some o'->h'.get? b=some o')->
   h'.get? s.heap.objs.size=some { cls:=.type "list",dict:=none,data:=.seq a8.toArray j,slots:=#[] }->EP X aZ σ Q (.ref s.heap.objs.size) { s with heap:=h' }:=fun a8 z hz h' j kp e=>
  ⟨.ref s.heap.objs.size,_,I.laid (t':=s.toks) kp (xO _) (show Zh X.prog X.w _ h' _ (.lst ys) from⟨hz,a8,j,z,e⟩),Z,q _ (I.bp.fresh (xO _))⟩
 rcases B with B|B
 ·obtain⟨a8,z,pl,hz⟩:=I.list B;have F:=z.length;obtain⟨o,G,hc,n,hd⟩:=pl.isList;exact call_list_seq p (.inl Z) G hc hd (fun h' j kp e=>fin a8 z hz h' j kp e) (by simp only[xS]<;>omega)
 ·obtain⟨a8,z,pl,hz⟩:=I.tuple B;have F:=z.length;obtain⟨o,G,hc,n,hd⟩:=pl;exact call_list_seq p (.inr Z) G hc hd (fun h' j kp e=>fin a8 z hz h' j kp e) (by simp only[xS]<;>omega)
def KD(K:xB)(T:String)(x:V)(H:Hp):Prop:=match x with
 |.str _=>T = "str"
 |.int _=>T = "int"
 | .ref p=>(T = "list" /\ ∃ xs,ba K H p xs)\/(T = "tuple" /\ ∃ o,K.lookup p=some o/\o.cls=.type "tuple" /\ o.dict=none)\/
   (T = "dict" /\ ((∃a',H p=some (.dK a'))\/∃a',H p=some (.dT a')))\/(T = "set" /\ ∃S n,H p=some (.set S n))
 |_=>False
theorem ro{T:String}{x:V}{v:Value}(I:Inv X aZ σ H s)(r:QR x v)(ty:KD X.K T x H) :
  s.TypeIs v T/\∀a,v=.ref a->∃B,s.heap.get? a=some B/\B.dict=none:=by
 cases x with
 | str z=>
  obtain⟨t,rfl⟩:=r;cases(show T = "str" from ty);exact⟨typeIs_str s z t,fun _ e=>nomatch e⟩
 | int i=>
  obtain⟨t,rfl⟩:=r;cases(show T = "int" from ty);exact⟨typeIs_int s i t,fun _ e=>nomatch e⟩
 | ref p=>
  cases r;rcases ty with⟨rfl,xs,F⟩|⟨rfl,o,hk,hc,hd⟩|⟨rfl,hk⟩|⟨rfl,S,n,hk⟩
  ·obtain⟨a8,_,pl,_⟩:=I.list F;refine⟨pl.isList.typeIs,fun a e=>?_⟩;cases e;obtain⟨o,n,e,c,hd,_⟩:=pl;exact⟨o,e,hd⟩
  ·refine⟨⟨o,I.eK p o hk,hc⟩,fun a e=>?_⟩;cases e;exact⟨o,I.eK _ o hk,hd⟩
  ·have z:∃o,s.heap.get? p=some o/\o.ExactDict:=by
    rcases hk with⟨a',hk⟩|⟨a',hk⟩
    ·obtain⟨_,_,_,_,o,_,_,e,ex,_⟩:=I.bp p _ hk;exact⟨o,e,ex⟩
    ·obtain⟨_,_,_,_,o,_,_,e,ex,_⟩:=I.bp p _ hk;exact⟨o,e,ex⟩
   obtain⟨o,e,ex⟩:=z;refine⟨⟨o,e,ex.1⟩,fun a j=>?_⟩;cases j;exact⟨o,e,ex.2.1⟩
  ·obtain⟨o,_,_,_,e,ex,_⟩:=I.bp p _ hk;refine⟨⟨o,e,ex.1⟩,fun a j=>?_⟩;cases j;exact⟨o,e,ex.2.1⟩
 |_=>exact False.elim ty
def Im(K:xB)(T:String)(r:V->List V->Hp->VK->Prop)(to:TE):TE:=fun σ H Q=>to σ H fun x H1=>KD K T x H1/\r x [] H1 Q
def Lp(K:xB)(T:String)(r:V->List V->Hp->VK->Prop)(to:TE)(t:TA):TE:=fun σ H Q=>to σ H fun x H1=>KD K T x H1/\t σ H1 fun xs H2=>r x xs H2 Q
variable {o e:Expr} {es:List Expr} {to:TE} {t:TA} {name:Str} {dC eB:Pos} {T id:String} {r:V->List V->Hp->VK->Prop}
theorem C7(G:PlainAttrs T)(slot:Slot T name id) (z:typeOf (.builtin id)=pure (.type "method_descriptor")) (J:KZ X id r) (O:PE X o to)
  (j:attributeBase o name X.env (eval o X.env)=eval o X.env:=by rfl) (n:(dC.endLine==eB.line)=true:=by rfl):PE X (.Call (.Attribute o name dC) [] [] eB) (Im X.K T r to):=by
 intro aZ s σ H Q I h;refine wpAny_Call_method0_late j n (bz (O aZ s σ H _ I h) fun v U hq=>?_);obtain⟨x,H1,B,F,ty,q1⟩:=hq;obtain⟨h1,h2⟩:=ro B F ty;exact⟨T,id,G,slot,z,h1,h2,Calls.callWith_builtin Z (PySem.evalArgs_none (J aZ U σ H1 x [] v [] Q B F .nil q1))⟩
theorem Xg(U:PlainAttrs T)(slot:Slot T name id) (F:typeOf (.builtin id)=pure (.type "method_descriptor")) (hm:KZ X id r) (ho:PE X o to) (ha:PA X (e::es) t)
  (n:attributeBase o name X.env (eval o X.env)=eval o X.env:=by rfl)
  (B:((backTo eB (starEach (e::es) X.env)).all (fun x=>!x.1)&&(backToKw eB (keywordEach [] X.env)).all (fun x=>x.1.isSome)
   && decide ((e::es).length+([]:List Keyword).length+(if([]:List Keyword).isEmpty then 0 else 1)<30))=true:=by rfl)
  (z:(dC.endLine==eB.line)=true:=by rfl) (hs:starEach (e::es) X.env=(false,eval e X.env)::starEach es X.env:=by rfl) (j:(backTo eB (starEach es X.env)).any (·.1)=false:=by rfl) :
  PE X (.Call (.Attribute o name dC) (e::es) [] eB) (Lp X.K T r to t):=by
 intro aZ s σ H Q I h;refine wpAny_Call_method_late n B z Z (bz (ho aZ s σ H _ I h) fun v s1 hq=>?_);obtain⟨x,H1,G,J,ty,q1⟩:=hq;obtain⟨h1,h2⟩:=ro G J ty;refine⟨T,id,U,slot,F,h1,h2,?_⟩;have O:=ha eB aZ s1 σ H1 _ G q1;rw[hs]at O ⊢;refine Calls.callWith_builtin (by show(false||(backTo eB (starEach es X.env)).any (·.1))=false;rw[j]<;>rfl) (Calls.evalArgs_plain ?_);exact bz O fun us s2 ⟨vs,H2,I2,r2,q2⟩=>hm aZ s2 σ H2 x vs v us Q I2 J r2 q2
end
def KA(X:Cx)(id:String)(r:V->List V->Hp->VK->Prop):Prop:=
 ∀(aZ:List (Addr×Obj)) (s:Shared) (σ:St) (H:Hp) (x:V) (xs:List V) (v:Value) (us:List Value) (Q:VK),Inv X aZ σ H s->QR x v->QH xs us->r x xs H Q->
  wpAny (model X.prog X.w) X.A (call (.builtin id) (v::us)) (EP X aZ σ Q) X.xe s
theorem QH.one:∀{x:V} {us:List Value},QH [x] us->∃u,us=[u]/\QR x u
 |_,_,.cons r .nil=>⟨_,Z,r⟩
theorem QH.zero:∀{us:List Value},QH [] us->us=[]
 |_,.nil=>rfl
theorem QH.dropLast(h:QH xs us):QH xs.dropLast us.dropLast:=by
 induction h with
 |nil=>exact .nil
 | cons r t j=>
  cases t with
  |nil=>exact .nil
  |cons q t'=>exact .cons r j
theorem QH.eraseIdx:∀{xs:List V} {us:List Value} (i:Nat),QH xs us->QH (xs.eraseIdx i) (us.eraseIdx i)
 |_,_,_,.nil=>.nil
 |_,_,0,.cons _ t=>t
 |_,_,i+1,.cons r t=>.cons r (QH.eraseIdx i t)
theorem QH.reverse(h:QH xs us):QH xs.reverse us.reverse:=by
 induction h with
 |nil=>exact .nil
 |cons r t j=>rw[List.reverse_cons,List.reverse_cons];exact QH.append j (.cons r .nil)
theorem QH.rep(h:QH xs us):∀k:Nat,QH (xU k xs).flatten (xU k us).flatten
 |0=>.nil
 | k+1=>by
  rw[GS,GS,Gw,Gw];exact QH.append h (QH.rep h k)
theorem iS{α:Type}(l:List α):l.eraseIdx (l.length-1)=l.dropLast:=by
 induction l with
 |nil=>rfl
 | cons a r j=>
  cases r with
  |nil=>rfl
  | cons b r=>
   have e:(a::b::r).length-1=((b::r).length-1)+1:=by have h1:(a::b::r).length=r.length+2:=rfl;have h2:(b::r).length=r.length+1:=rfl;omega
   rw[e,List.eraseIdx_cons_succ,j];all_goals rfl
theorem jm(a8:List Value):∀(k:Nat)(acc:List Value),
  List.foldl (fun x1 j=>x1++j) acc.toArray (xU k a8.toArray)=(acc++(xU k a8).flatten).toArray
 |0,acc=>by simp
 | k+1,acc=>by
  have e:acc.toArray++a8.toArray=(acc++a8).toArray:=by simp
  have n:(acc++a8)++(xU k a8).flatten=acc++(xU (k+1) a8).flatten:=by rw[GS,Gw,GV]
  rw[<-n,<-jm a8 k (acc++a8),<-e,GS,UJ]
section
variable {l b:Addr} {ys zs:List V}
theorem Inv.C0{a8 its':List Value}{n:Nat}{f:Array Value->Array Value}{t':Nat}(I:Inv X aZ σ H s) (j:H l=some (.lst xs))
  (e:s.heap.get? l=some { cls:=.type "list",data:=.seq a8.toArray n }) (hf:f a8.toArray=its'.toArray) (z:QH ys its') (hz:ys.length<=sizeLine) :
  Inv X aZ σ (upd H l (.lst ys)) { s with heap:=s.heap.update l (Obj.mapSeq f),toks:=t' }:=by
 have q:=PySem.IsL.update e f;rw[hf]at q;refine I.write (x:=l) (e:=l) (by rw[j];exact trivial) (.inl Z) (fun G u B F=>(Heap.get?_update_other s.heap (Obj.mapSeq f) (Ne.symm B)).trans F) ⟨_,q⟩ ?_;exact⟨hz,its',_,z,q⟩
theorem Inv.EJ{a8:List Value}{t':Nat}(I:Inv X aZ σ H s)(j:QH ys a8)(hz:ys.length<=sizeLine) :
  Inv X aZ σ (upd H s.heap.objs.size (.lst ys)) { s with heap:=s.heap.push { cls:=.type "list",data:=.seq a8.toArray },toks:=t' }:=
 I.laid (fun _ _ q=>Wt _ q) (xO _) ⟨hz,a8,0,j,Wv _ Z⟩
theorem Inv.fresh(I:Inv X aZ σ H s):H s.heap.objs.size=none:=I.bp.fresh (xO _)
theorem Inv.iG(I:Inv X aZ σ H s) (j:H l=some (.lst xs)):xs.length<=sizeLine/\∃(a8:List Value)(n:Nat),QH xs a8/\xs.length=a8.length/\s.heap.get? l=some { cls:=.type "list",data:=.seq a8.toArray n }:=by obtain⟨z,a8,n,r,e⟩:=I.bp l _ j;exact⟨z,a8,n,r,r.length,e⟩
theorem fB{n:Nat}(h:n<=sizeLine):Builtin.List.listTooLong n=false:=by unfold Builtin.List.listTooLong;exact Wl (by omega)
end
inductive mJ(x:V)(vs:List V)(H:Hp)(Q:VK):Prop
 |mk (l xs y:_):x=.ref l->vs=[y]->H l=some (.lst xs)->xs.length<sizeLine->Q .bQ (upd H l (.lst (xs++[y])))->mJ x vs H Q
theorem ZD:KA X "list.append" mJ:=by intro aZ s σ H x vs v us Q I B G h;obtain⟨l,xs,y,rfl,rfl,j,hz,q⟩:=h;cases B;obtain⟨u,rfl,J⟩:=G.one;obtain⟨z,a8,n,r,hl,e⟩:=I.iG j;refine call_meets F.slot_list_append ⟨_,e,Z⟩ F.entry_list_append (F.args_list_append_2 _ _) (PySem.list_append l a8.toArray n u (by rw[xS];omega)) ⟨e,?_⟩;refine⟨.bQ,_,I.C0 (its':=a8++[u]) j e We (r.append (.cons J .nil)) ?_,Z,q⟩;rw[xG,GQ];omega
inductive mU(x:V)(vs:List V)(H:Hp)(Q:VK):Prop
 |mk (l b xs zs:_):x=.ref l->vs=[.ref b]->H l=some (.lst xs)->H b=some (.lst zs)->xs.length+zs.length<=sizeLine->Q .bQ (upd H l (.lst (xs++zs)))->mU x vs H Q
theorem ZR:KA X "list.extend" mU:=by
 intro aZ s σ H x vs v us Q I J O h;obtain⟨l,b,xs,zs,rfl,rfl,G,U,hz,q⟩:=h;cases J;obtain⟨u,rfl,ru⟩:=O.one;cases ru;obtain⟨z,a8,n,r,hl,e⟩:=I.iG G;obtain⟨z2,j,n2,r2,aa,e2⟩:=I.iG U;have hsz:a8.toArray.size+j.toArray.size<=sizeLine:=by rw[xS,xS];omega
 have B:¬(!a8.toArray.isEmpty&&Builtin.List.listTooLong (a8.toArray.size+j.toArray.size))=true:=by rw[fB hsz,Bool.and_false];exact xW
 refine call_meets F.slot_list_extend ⟨_,e,Z⟩ F.entry_list_extend (F.args_list_extend_2 _ _)
  (AutoSeq1.list_extend_list_list_0 l a8.toArray n b j.toArray n2 B (by rw[xS];omega) (by omega)) ⟨e,e2,?_⟩
 refine⟨.bQ,_,I.C0 (its':=a8++j) G e We (r.append r2) ?_,Z,q⟩;rw[xG];omega
inductive Fc(x:V)(vs:List V)(H:Hp)(Q:VK):Prop
 |mk (l xs y:_):x=.ref l->vs=[]->H l=some (.lst xs)->xs[xs.length-1]?=some y->Q y (upd H l (.lst xs.dropLast))->Fc x vs H Q
theorem BA:KA X "list.pop" Fc:=by
 intro aZ s σ H x vs v us Q I J O h;obtain⟨l,xs,y,rfl,rfl,G,U,q⟩:=h;cases J;have j:=O.zero;subst j;obtain⟨z,a8,n,r,hl,e⟩:=I.iG G;obtain⟨u,hu,ru⟩:=r.get U
 have B:a8.toArray[a8.toArray.size-1]?=some u:=by show a8.toArray[a8.length-1]?=some u;rw[<-Array.getElem?_toList,<-hl];exact hu
 refine call_meets F.slot_list_pop ⟨_,e,Z⟩ F.entry_list_pop (F.args_list_pop_1 _) (MeetsSeq.list_pop_last l a8.toArray n u B (by rw[xS];omega)) ⟨e,?_⟩;refine⟨y,_,I.C0 (its':=a8.dropLast) G e ?_ r.dropLast ?_,ru,q⟩
 ·show a8.toArray.eraseIdxIfInBounds (a8.toArray.size-1)=a8.dropLast.toArray;rw[xS,List.eraseIdxIfInBounds_toArray,iS]
 ·rw[List.length_dropLast];omega
inductive F3(x:V)(y:V)(H:Hp)(Q:VK):Prop
 |mk (l b xs zs:_):x=.ref l->y=.ref b->H l=some (.lst xs)->H b=some (.lst zs)->xs.length+zs.length<=sizeLine->(∀p,H p=none->Q (.ref p) (upd H p (.lst (xs++zs))))->F3 x y H Q
theorem Xm:eF X (binaryOp .Add) F3:=by
 intro aZ s σ H x y v u Q I B F h;obtain⟨l,b,xs,zs,rfl,rfl,G,J,hz,q⟩:=h;cases B;cases F;obtain⟨z,a8,n,r,hl,e⟩:=I.iG G;obtain⟨z2,j,n2,O,U,e2⟩:=I.iG J;refine PySem.P.add_list e e2 ?_ (by rw[xS,xS];omega);have ea:a8.toArray++j.toArray=(a8++j).toArray:=by simp
 rw[ea];exact⟨.ref _,_,I.EJ (t':=s.toks) (r.append O) (by rw[xG];omega),Z,q _ I.fresh⟩
def Iw:R2:=fun x y H Q=>∃l k xs,x=.ref l/\y=.int k/\H l=some (.lst xs)/\-(2 ^ 63)<=k/\k<2 ^ 63/\xs.length*k.toNat<=sizeLine/\
 ∀p,H p=none->Q (.ref p) (upd H p (.lst (xU k.toNat xs).flatten))
theorem len_rep{α:Type}(xs:List α)(k:Nat):(xU k xs).flatten.length=k*xs.length:=by
 induction k with
 |zero=>simp
 |succ k j=>rw[GS,Gw,xG,j,Nat.succ_mul,U7]
theorem rV:eF X (binaryOp .Mult) Iw:=by
 intro aZ s σ H x y v u Q I rx ry h;obtain⟨l,k,xs,rfl,rfl,hH,h1,h2,hz,q⟩:=h;cases rx;obtain⟨t,rfl⟩:=ry;obtain⟨z,a8,n,r,hl,e⟩:=I.iG hH;have B:a8.toArray.size*k.toNat<=sizeLine:=by rw[xS,<-hl];exact hz
 have G:¬a8.toArray.size*k.toNat>(2 ^ 63-1)/8:=by
  have:(sizeLine:Nat)<=(2 ^ 63-1)/8:=by decide
  omega
 have J:¬(!Builtin.List.listFitsIndex k)=true:=by rw[fitsIndex_both h1 h2];exact xW
 have j:¬Builtin.List.listTooLong (a8.toArray.size*k.toNat)=true:=by rw[fB B];exact xW
 have O:List.foldl (fun x1 x2=>x1++x2) #[] (xU (if a8.toArray.isEmpty=true then 0 else k.toNat) a8.toArray)=(xU k.toNat a8).flatten.toArray:=by
  have f0:∀m:Nat,List.foldl (fun x1 x2=>x1++x2) #[] (xU m a8.toArray)=(xU m a8).flatten.toArray:=fun m=>by
   have:=jm a8 m [];rw[List.nil_append]at this;exact this
  rw[f0];cases a8 with
  |nil=>simp
  |cons a r'=>rw[Wh We]
 refine wpAny_binaryOp_repeat_ref (T := "list") (U := "int") Wa ⟨_,e,Z⟩ (fun s'=>typeIs_int s' k t) noFill_list_mul F.fills_int_mul F.slot_int_rmul repeat_list F.slot_int_index.lookup
  (call_meets F.slot_int_rmul (typeIs_int s k t) F.entry_int_rmul (F.args_int_rmul_2 _ _) (int___rmul___int_list k t l a8.toArray n)
   ⟨e,Z,⟨_,e,Z⟩,call_meets F.slot_list_mul ⟨_,e,Z⟩ F.entry_list_mul (F.args_list_mul_2 _ _) (AutoListH.list___mul___list_int_3 l a8.toArray n k t J G j) ⟨e,?_⟩⟩)
 rw[O];exact⟨.ref _,_,I.EJ (t':=s.toks) (r.rep k.toNat) (by rw[len_rep,Nat.mul_comm];exact hz),Z,q _ I.fresh⟩
theorem QH.strs:∀{xs:List Str} {us:List Value},QH (xs.map V.str) us->StrsAre us xs
 | [],us,h=>by
  rw[Vm]at h;cases h;exact StrsAre.nil
 | x::xs,us,h=>by
  rw[xV]at h;cases h with
  | cons r t=>
   obtain⟨k,rfl⟩:=r;exact StrsAre.cons x k (QH.strs t)
theorem QH.K3:∀{bs:List Bool} {us:List Value},QH (bs.map V.bl) us->us=bs.map Value.bool
 | [],us,h=>by
  rw[Vm]at h;cases h;rfl
 | b::bs,us,h=>by
  rw[xV]at h;cases h with
  | cons r t=>
   cases r;rw[QH.K3 t,xV]
theorem QH.IW{a:Addr}(r:QH [V.ref a] us):us=[Value.ref a]:=by
 cases r with
 | cons r t=>
  cases t;cases r;rfl
section
variable {l:Addr} {a8:List Value} {ns:List Int} {Q:Value->Shared->Prop}
end
theorem uD{s:Shared}{l:Addr}{j:Array Value}{Q:Value->Shared->Prop}(hl:s.heap.IsList l j)
  (h:∀ n:Shared,n={ s with heap:=s.heap.push { cls:=.type "list_iterator",data:=.fields #[.ref l,.int 0 0] } }->
   (n.heap.IsListIter s.heap.objs.size l 0/\n.heap.IsList l j)->l≠s.heap.objs.size->Q (.ref s.heap.objs.size) n):wpAny (model prog w) A (pyIter (.ref l)) Q E s:=by
 have z:l<s.heap.objs.size:=by obtain⟨_,e,_⟩:=hl;exact Wu e
 exact wpAny_pyIter_list hl (h _ Z ⟨⟨_,Wv _ Z,Z,Z⟩,hl.push _⟩ (xY z))
theorem gf{bs:List Bool}{a8:List Value}(e:a8=bs.map Value.bool) :
  TruthOf prog w A (fun i v=>a8.toArray[i]?=some v) (fun i=>bs.getD i false):=fun i v s Q E z B=>by
 have j:a8[i]?=some v:=by simpa using z
 rw[e,xL]at j;obtain⟨b,F,rfl⟩:=Option.map_eq_some_iff.mp j;have G:bs.getD i false=b:=by rw[Gv,F]<;>rfl
 have n:Q (bs.getD i false) s:=B;rw[G]at n;exact wpAny_truthy_bool n
theorem jv:∀bs:List Bool,(xP bs.length).any (fun i=>bs.getD i false)=bs.any id
 |[]=>rfl
 | b::bs=>by
  rw[xQ,Qbi,VH,VU,VH,<-jv bs];all_goals rfl
inductive ET(K:xB)(vs:List V)(H:Hp)(Q:VK):Prop
 |mk (a:Addr) (bs:List Bool):vs=[V.ref a]->ba K H a (bs.map V.bl)->Q (.bl (bs.any id)) H->ET K vs H Q
theorem CF(hc:X.calm=true):qw X (.builtin "any") (ET X.K):=by
 intro aZ s σ H vs us Q I r h;obtain⟨a,bs,rfl,F,q⟩:=h;obtain⟨a8,G,hl,_⟩:=I.list F;rw[QH.IW r];have z:=G.K3;refine call_any_walk (uD hl.isList fun U J st n=>?_);subst J;refine⟨_,_,_,_,_,_,_,Z,Walks.list (A:=X.A.in1) (I.ok.hd hc) _ a n a8.toArray,st,gf z,fun h' tk hk=>?_⟩;refine⟨.bl _,H,I.kept fun b o B=>hk b o (fun j=>?_) (Wt _ B),?_,q⟩
 ·rcases List.mem_cons.mp j with O | j
  ·exact Wm (O▸Wu B) (Ur _)
  ·cases j
 ·show Value.bool _=Value.bool _;rw[<-jv,z,xS,xD]
mutual
inductive Dp(K:xB)(H:Hp):V->PyData->Prop
 |bQ:Dp K H .bQ .none
 |bl (b:Bool):Dp K H (.bl b) (.bool b)
 |int (i:Int):Dp K H (.int i) (.int i)
 |str (x:Str):Dp K H (.str x) (.str x)
 |lst {a:Addr} {xs:List V} {ds:List PyData}:ba K H a xs->qv K H xs ds->Dp K H (.ref a) (.list ds)
 |tup {a:Addr} {xs:List V} {ds:List PyData}:bY K H a xs->qv K H xs ds->Dp K H (.ref a) (.tuple ds)
inductive qv(K:xB)(H:Hp):List V->List PyData->Prop
 |nil:qv K H [] []
 |cons {v:V} {vs:List V} {d:PyData} {ds:List PyData}:Dp K H v d->qv K H vs ds->qv K H (v::vs) (d::ds)
end
mutual
theorem Dp.reads(I:Inv X aZ σ H s):∀(d:PyData)(v:V)(u:Value),Dp X.K H v d->QR v u->∃as,Reads s.heap u d as
 | .none,_,_,h,r=>by
  cases h;cases r;exact⟨_,Reads.none⟩
 | .bool b,_,_,h,r=>by
  cases h;cases r;exact⟨_,Reads.bool b⟩
 | .int i,_,_,h,r=>by
  cases h;obtain⟨t,rfl⟩:=r;exact⟨_,Reads.int i t⟩
 | .str x,_,_,h,r=>by
  cases h;obtain⟨t,rfl⟩:=r;exact⟨_,Reads.str x t⟩
 | .list ds,_,_,h,r=>by
  cases h with
  | lst j z=>
   cases r;obtain⟨a8,B,⟨o,n,F,hc,_,hd⟩,_⟩:=I.list j;obtain⟨as,hr⟩:=Dp.readsAll I ds _ a8 z B;exact⟨_,Reads.list F hc hd hr⟩
 | .tuple ds,_,_,h,r=>by
  cases h with
  | tup j z=>
   cases r;obtain⟨a8,B,⟨o,F,hc,n,hd⟩,_⟩:=I.tuple j;obtain⟨as,hr⟩:=Dp.readsAll I ds _ a8 z B;exact⟨_,Reads.tuple F hc hd hr⟩
 |.dict _,_,_,h,_=>by cases h
theorem Dp.readsAll(I:Inv X aZ σ H s):∀(ds:List PyData)(vs:List V)(us:List Value),qv X.K H vs ds->QH vs us->∃as,ReadsAll s.heap us ds as
 | [],_,_,h,r=>by
  cases h;cases r;exact⟨_,ReadsAll.nil⟩
 | d::ds,_,_,h,r=>by
  cases h with
  | cons h1 h2=>
   cases r with
   | cons j n=>
    obtain⟨as,z⟩:=Dp.reads I d _ _ h1 j;obtain⟨bs,B⟩:=Dp.readsAll I ds _ _ h2 n;exact⟨_,ReadsAll.cons z B⟩
end
inductive Fn(K:xB)(x:V)(y:V)(H:Hp)(Q:VK):Prop
 |mk (d e:_):Dp K H x d->Dp K H y e->SeqAt.shaped d=true->SeqAt.shaped e=true->Q (.bl (PyData.eqv d e)) H->Fn K x y H Q
inductive ER(K:xB)(x:V)(y:V)(H:Hp)(Q:VK):Prop
 |mk (d e:_):Dp K H x d->Dp K H y e->SeqAt.shaped d=true->SeqAt.shaped e=true->Q (.bl (!PyData.eqv d e)) H->ER K x y H Q
theorem rX(j:X.A.units+64<cLine):eF X (compareOp .Eq) (Fn X.K):=by intro aZ s σ H x y v u Q I n z h;obtain⟨d,e,hd,B,F,G,q⟩:=h;obtain⟨as,J⟩:=Dp.reads I d x v hd n;obtain⟨bs,O⟩:=Dp.reads I e y u B z;exact SeqAt.compareEq_shaped J O F G j ⟨.bl _,H,I,Z,q⟩
theorem jX(j:X.A.units+64<cLine):eF X (compareOp .NotEq) (ER X.K):=by intro aZ s σ H x y v u Q I n z h;obtain⟨d,e,hd,B,F,G,q⟩:=h;obtain⟨as,J⟩:=Dp.reads I d x v hd n;obtain⟨bs,O⟩:=Dp.reads I e y u B z;exact SeqAt.compareNe_shaped J O F G j ⟨.bl _,H,I,Z,q⟩
end L2
namespace L2
open PySem PySem.Spec PyProof.Rows
abbrev ui(h:Heap)(c:Addr)(v:Option Value):Prop:=h.IsCell c v
def IX(scope sc:Scope):Scope:=
 { scope with names:=scope.names.map fun(n,k)=>if(k==.free&&sc.kind==.function&&sc.names.lookup n==some .cell) then(n,.cell) else(n,k) }
def Q0 (cells:List (Str×Addr)):List (Str×NameKind)->List (Str×Addr)->List (Str×Addr)
 |[],acc=>acc
 |(n,k)::r,acc=>if k==.free then Q0 cells r ((n,(cells.lookup n).getD 0)::acc) else Q0 cells r acc
theorem qm(env:Env) (f:Str×NameKind->List (Str×Addr)->Sem (ForInStep (List (Str×Addr))))
  (hf:∀n k c,f (n,k) c=if k==.free then(do let a <- cellOf env n;pure (.yield ((n,a)::c))) else pure (.yield c)) :
  ∀(names:List (Str×NameKind)) (acc:List (Str×Addr)),(∀y∈names,y.2=.free->∃c,env.cells.lookup y.1=some c)->forIn names acc f=pure (Q0 env.cells names acc)
 |[],acc,_=>by rw[List.forIn_nil];rfl
 | (n,k)::r,acc,h=>by
  rw[List.forIn_cons,hf];have j:=fun acc=>qm env f hf r acc fun y z=>h y (xT _ z);unfold Q0;by_cases hk:(k==NameKind.free)=true
  ·rw[Wi hk,Wi hk];obtain⟨c,hc⟩:=h (n,k) Gn (by simpa using hk);have e:cellOf env n=pure c:=by unfold cellOf;rw[hc]
   rw[e];have B:(env.cells.lookup n).getD 0=c:=by rw[hc];rfl
   rw[B];exact j _
  ·rw[Wh hk,Wh hk];exact j _
theorem ko{scope:Scope}{env:Env}(h:∀y∈scope.names,y.2=.free->∃c,env.cells.lookup y.1=some c):closureFor scope env=pure (Q0 env.cells scope.names []):=by simp only[closureFor];rw[qm env _ (fun n k c=>rfl) scope.names [] h];rfl
theorem JU{α:Type}:∀{l:List (Str×α)} {n:Str} {c:α},(n,c)∈l->∃j,l.lookup n=some j
 | (k,v)::r,n,c,h=>by
  rw[US];cases z:n==k with
  |true=>exact⟨_,Z⟩
  | false=>
   rcases List.mem_cons.mp h with e|h
   ·cases e;simp at z
   ·exact JU h
theorem X4 {cells:List (Str×Addr)}:∀{names:List (Str×NameKind)} {acc:List (Str×Addr)} {n:Str} {c:Addr},(n,c)∈Q0 cells names acc->(n,c)∈acc\/((n,.free)∈names/\c=(cells.lookup n).getD 0)
 |[],_,_,_,h=>.inl h
 | (m,k)::r,acc,n,c,h=>by
  unfold Q0 at h;split at h
  ·rename_i hk;have hk:k=.free:=by simpa using hk
   rcases X4 h with h|⟨h1,h2⟩
   ·rcases List.mem_cons.mp h with e | h
    ·cases e;exact .inr ⟨hk▸Gn,Z⟩
    ·exact .inl h
   ·exact .inr ⟨xT _ h1,h2⟩
  ·rcases X4 h with h | ⟨h1,h2⟩
   ·exact .inl h
   ·exact .inr ⟨xT _ h1,h2⟩
theorem Jg {cells:List (Str×Addr)}:∀{names:List (Str×NameKind)} {acc:List (Str×Addr)} {p:Str×Addr},p∈acc->p∈Q0 cells names acc
 |[],_,_,h=>h
 | (m,k)::r,acc,p,h=>by
  unfold Q0;split
  ·exact Jg (xT _ h)
  ·exact Jg h
theorem Jf {cells:List (Str×Addr)}:∀{names:List (Str×NameKind)} {acc:List (Str×Addr)} {n:Str},(n,.free)∈names->(n,(cells.lookup n).getD 0)∈Q0 cells names acc
 | (m,k)::r,acc,n,h=>by
  unfold Q0;rcases List.mem_cons.mp h with e|h
  ·cases e;exact Jg Gn
  ·split
   ·exact Jf h
   ·exact Jf h
theorem Yq:∀{names:List (Str×NameKind)} {h:Heap} {acc:List (Str×Addr)} {x:Str} {c:Addr},(x,c)∈cellsFrom h.objs.size names acc->
  (x,c)∈acc\/((x,.cell)∈names/\h.objs.size<=c/\ui (pushCells h names) c none)
 |[],_,_,_,_,h=>.inl h
 | (n,k)::r,h,acc,x,c,j=>by
  unfold cellsFrom at j;unfold pushCells;split at j
  ·rename_i hk;rw[Wi hk];have hk:k=.cell:=by simpa using hk
   rw[<-Ww h { cls:=.type "cell",data:=.cell none }]at j;rcases Yq j with j|⟨h1,h2,z⟩
   ·rcases List.mem_cons.mp j with e | j
    ·cases e;exact .inr ⟨hk▸Gn,xO _,_,pushCells_keeps r _ _ _ (Wv _ Z),Z⟩
    ·exact .inl j
   ·rw[Ww]at h2;exact .inr ⟨xT _ h1,V0 h2,z⟩
  ·rename_i hk;rw[Wh hk];rcases Yq j with j | ⟨h1,h2,z⟩
   ·exact .inl j
   ·exact .inr ⟨xT _ h1,h2,z⟩
theorem Jz:∀{names:List (Str×NameKind)} {n:Nat} {acc:List (Str×Addr)} {p:Str×Addr},p∈acc->p∈cellsFrom n names acc
 |[],_,_,_,h=>h
 | (m,k)::r,n,acc,p,h=>by
  unfold cellsFrom;split
  ·exact Jz (xT _ h)
  ·exact Jz h
theorem qJ:∀{names:List (Str×NameKind)} {n:Nat} {acc:List (Str×Addr)} {x:Str},(x,.cell)∈names->∃c,(x,c)∈cellsFrom n names acc
 | (m,k)::r,n,acc,x,h=>by
  unfold cellsFrom;rcases List.mem_cons.mp h with e|h
  ·cases e;exact⟨n,Jz Gn⟩
  ·split
   ·exact qJ h
   ·exact qJ h
theorem qI:∀{names:List (Str×NameKind)} {h:Heap} {acc:List (Str×Addr)} {x y:Str} {c:Addr},(∀p∈acc,p.2<h.objs.size)->(∀x y c,(x,c)∈acc->(y,c)∈acc->x=y)->
  (x,c)∈cellsFrom h.objs.size names acc->(y,c)∈cellsFrom h.objs.size names acc->x=y
 |[],_,_,_,_,_,_,hi,h1,h2=>hi _ _ _ h1 h2
 | (n,k)::r,h,acc,x,y,c,hl,hi,h1,h2=>by
  unfold cellsFrom at h1 h2;split at h1
  ·rename_i hk;rw[Wi hk] at h2;rw[<-Ww h { cls:=.type "cell",data:=.cell none }] at h1 h2;refine qI (h:=h.push _) (fun p j=>?_) (fun x y c a b=>?_) h1 h2
   ·rw[Ww];rcases List.mem_cons.mp j with rfl | j
    ·exact Qbg _
    ·exact U8 (hl p j)
   ·rcases List.mem_cons.mp a with e | a <;> rcases List.mem_cons.mp b with z | b
    ·cases e;cases z;rfl
    ·cases e;exact Wm (hl _ b) (Ur _)
    ·cases z;exact Wm (hl _ a) (Ur _)
    ·exact hi _ _ _ a b
  ·rename_i hk;rw[Wh hk]at h2;exact qI hl hi h1 h2
theorem gE{s:Shared}{scope:Scope}{B:Addr} {j:List (Str×Addr)} {F:Str} {G:Option Addr} {I:Value} {around:Env} {z:Addr} {Q:Env->Shared->Prop}
  (h:Q (newEnv scope s.heap.objs.size B (cellsFrom (s.heap.objs.size+1) scope.names j) F G I (some around) z)
   { s with heap:=pushCells (s.heap.push { cls:=.type "dict",data:=.dict #[] }) scope.names }) :
  wpAny M A (newFunctionEnv scope B j [] F G I (some around) z) Q E s:=by
 simp only[newFunctionEnv,Option.isSome_some,Wq];refine wpAny_bind (wpAny_alloc ?_);refine wpAny_bind (wpAny_layCells _ (fun n k c=>rfl) scope.names j _ _ ?_);rw[show({ s with heap:=s.heap.push { cls:=.type "dict",data:=.dict #[] } }:Shared).heap.objs.size=s.heap.objs.size+1 from Ww ..];rw[List.forIn_nil];exact wpAny_bind (wpAny_pure (wpAny_pure h))
theorem Y9{sc:Scope}:∀{names:List (Str×NameKind)} {x:Str} {k:NameKind},
  (names.map fun(n,k)=>if(k==NameKind.free&&sc.kind==.function&&sc.names.lookup n==some .cell) then(n,NameKind.cell) else(n,k)).lookup x=some k->
  ∃B,names.lookup x=some B/\(k=B\/(B=.free/\k=.cell))
 |[],_,_,h=>by simp at h
 | (n,z)::r,x,k,h=>by
  have F:=@Y9 sc r x k;have h':Vv x ((if(z==NameKind.free&&sc.kind==.function&&sc.names.lookup n==some .cell)=true then(n,NameKind.cell) else(n,z))::(r.map _))=some k:=h;cases j:x==n with
  | true=>
   simp only[US,j];by_cases hc:(z==NameKind.free&&sc.kind==.function&&sc.names.lookup n==some .cell)=true
   ·rw[Wi hc]at h';simp only[US,j]at h';cases h';simp only[Ga,beq_iff_eq]at hc;exact⟨z,Z,.inr ⟨hc.1.1,Z⟩⟩
   ·rw[Wh hc]at h';simp only[US,j]at h';cases h';exact⟨_,Z,.inl Z⟩
  | false=>
   simp only[US,j];by_cases hc:(z==NameKind.free&&sc.kind==.function&&sc.names.lookup n==some .cell)=true
   ·rw[Wi hc]at h';simp only[US,j]at h';exact F h'
   ·rw[Wh hc]at h';simp only[US,j]at h';exact F h'
structure gT(N:List Str)(sc scope:Scope) (own:List (Str×Nat)):Prop where
 kind:scope.kind=.function
 uniq:∀y∈scope.names,scope.names.lookup y.1=some y.2
 ix:∀p∈own,N[p.2]?=some p.1
 free:∀y∈scope.names,y.2=.free->sc.names.lookup y.1=some .cell\/sc.names.lookup y.1=some .free
 own:∀y∈scope.names,y.2=.local\/y.2=.cell->y.1∈own.map (·.1)\/y.1∉N
def ZB(σ:St):List Nat->St
 |[]=>σ
 |v::vs=>(ZB σ vs).set v none
theorem YO(σ:St):∀vs:List Nat,(ZB σ vs).length=σ.length
 |[]=>rfl
 |v::vs=>by unfold ZB;rw[Qbt,YO σ vs]
theorem qx{i:Nat}{x:V}:∀{vs:List Nat},(ZB σ vs)[i]?=some (some x)->σ[i]?=some (some x)/\i∉vs
 |[],h=>⟨h,by simp⟩
 | v::vs,h=>by
  unfold ZB at h;by_cases hi:v=i
  ·subst hi;by_cases j:v<(ZB σ vs).length
   ·rw[Us j]at h;cases h
   ·rw[Ue (by simpa using j)]at h;cases h
  ·rw[Uo hi]at h;obtain⟨h1,h2⟩:=qx h;exact⟨h1,by simp only[GW,not_or];exact⟨fun e=>hi e.symm,h2⟩⟩
abbrev Cx.eX(X:Cx)(s:Shared)(H:Hp)(scope:Scope)(j:Env)(n:List Addr):Cx:={ X with eM:=s,H_0:=H,env:=j,outer:=X.stack,ex:=n,fn:=fun x=>scope.names.lookup x==some .cell,pn:=[],xe:=fun _ _=>False }
theorem gQ{scope:Scope} {own:List (Str×Nat)} {fp:List Addr} (I:Inv X aZ σ H s) (ok:gT X.N X.env.scope scope own) (hN:X.N.Nodup) (F:∀b∈fp,zi X aZ H b/\b<s.heap.objs.size) :
  Inv (X.eX s H scope (compEnvC scope (cellsFrom (s.heap.objs.size+1) scope.names (Q0 X.env.cells scope.names [])) s.heap.objs.size X.env) fp) [] (ZB σ (own.map (·.2))) H { s with heap:=pushCells (s.heap.push { cls:=.type "dict",data:=.dict #[] }) scope.names }:=by
 have ab:∀y∈scope.names,y.2=.free->∃c,X.env.cells.lookup y.1=some c:=fun y U e=>by
  rcases ok.free y U e with k|k
  ·exact I.ok.has _ (.inl k)
  ·exact I.ok.has _ (.inr k)
 generalize j:compEnvC scope (cellsFrom (s.heap.objs.size+1) scope.names (Q0 X.env.cells scope.names [])) s.heap.objs.size X.env=cenv;have kp:∀b o,s.heap.get? b=some o->(pushCells (s.heap.push { cls:=.type "dict",data:=.dict #[] }) scope.names).get? b=some o:=fun b o e=>pushCells_keeps _ _ _ _ (Wt _ e);have hL:cenv.locals=s.heap.objs.size:=by rw[<-j];rfl
 have B:cenv.cells=cellsFrom (s.heap.objs.size+1) scope.names (Q0 X.env.cells scope.names []):=by rw[<-j];rfl
 have ac:cenv.scope=IX scope X.env.scope:=by rw[<-j];rfl
 rw[<-Ww s.heap { cls:=.type "dict",data:=.dict #[] }]at B
 have cm:∀{y c},(y,c)∈Q0 X.env.cells scope.names []->X.env.cells.lookup y=some c/\c<s.heap.objs.size:=fun {y c} G=>by
  rcases X4 G with G|⟨h1,rfl⟩
  ·cases G
  ·obtain⟨c,hc⟩:=ab _ h1 rfl;rw[hc];obtain⟨w,z⟩:=I.cell _ _ hc;exact⟨Z,z.lt⟩
 have mem:∀{y c},cenv.cells.lookup y=some c->(X.env.cells.lookup y=some c/\c<s.heap.objs.size)\/(s.heap.objs.size+1<=c/\ui (pushCells (s.heap.push { cls:=.type "dict",data:=.dict #[] }) scope.names) c none):=fun {y c} e=>by
  rw[B]at e;rcases Yq (Wy e) with G|⟨_,h2,h3⟩
  ·exact .inl (cm G)
  ·rw[Ww]at h2;exact .inr ⟨h2,h3⟩
 have look:∀{y},scope.names.lookup y=some .free->∃c,cenv.cells.lookup y=some c/\X.env.cells.lookup y=some c:=fun {y} hl=>by
  have U:(y,NameKind.free)∈scope.names:=Wy hl;obtain⟨c',J⟩:=JU (Jz (names:=scope.names) (n:=(s.heap.push { cls:=.type "dict",data:=.dict #[] }).objs.size) (Jf (cells:=X.env.cells) (acc:=[]) U));rw[<-B]at J;refine⟨c',J,?_⟩;rw[B]at J;rcases Yq (Wy J) with G|⟨h1,_,_⟩
  ·exact(cm G).1
  ·have:=ok.uniq _ h1;rw[hl]at this;cases this
 have ah:(X.eX s H scope cenv fp).Ok:=by
  refine⟨I.ok.mod,by show cenv.scope.kind=_;rw[ac];exact ok.kind,by show cenv.globals=_;rw[<-j];exact I.ok.glob,by show cenv.builtins=_;rw[<-j];exact I.ok.blt,by show s.heap.objs.size<=cenv.locals;rw[hL];exact xO _,
   fun y z c e1 e2=>?_,fun y U=>?_,fun y c z e=>?_,I.ok.hd,I.ok.frames,.inl Z,fun b hb=>⟨?_,fun y c e z=>?_⟩,I.bs,xM I.ok.bsz I.sz,fun b o e hb=>?_,fun b hb z=>?_,I.stack,I.ml⟩
  ·have e1:cenv.cells.lookup y=some c:=e1;have e2:cenv.cells.lookup z=some c:=e2;rw[B]at e1 e2;refine qI (fun p hp=>?_) (fun y z c a b=>I.ok.inj y z c (cm a).1 (cm b).1) (Wy e1) (Wy e2);rw[Ww];exact U8 (cm (y:=p.1) (c:=p.2) hp).2
  ·show ∃ c,cenv.cells.lookup y=some c
   have key:∀k,cenv.kindOf y=some k->(k=.cell\/k=.free)->∃c,cenv.cells.lookup y=some c:=fun k hk ad=>by
    unfold Env.kindOf at hk;rw[ac]at hk;obtain⟨k',e,r⟩:=Y9 hk
    have:k'=.cell\/k'=.free:=by
     rcases r with rfl|⟨rfl,_⟩
     ·exact ad
     ·exact .inr rfl
    rcases this with rfl|rfl
    ·obtain⟨c,G⟩:=qJ (n:=(s.heap.push { cls:=.type "dict",data:=.dict #[] }).objs.size) (acc:=Q0 X.env.cells scope.names []) (Wy e);obtain⟨c',J⟩:=JU G;exact⟨c',by rw[B];exact J⟩
    ·obtain⟨c,h1,_⟩:=look e;exact⟨c,h1⟩
   rcases U with U|U
   ·exact key _ U (.inl Z)
   ·exact key _ U (.inr Z)
  ·have z:(scope.names.lookup y==some NameKind.cell)=true:=z;have z:scope.names.lookup y=some .cell:=by simpa using z
   have e:cenv.cells.lookup y=some c:=e;rw[B]at e;rcases Yq (Wy e) with G|⟨_,h2,_⟩
   ·rcases X4 G with G | ⟨h1,_⟩
    ·cases G
    ·have q:=ok.uniq _ h1;rw[z]at q;cases q
   ·rw[Ww]at h2;exact V0 h2
  ·show b≠cenv.locals;rw[hL];exact xY (F b hb).2
  ·have e:cenv.cells.lookup y=some c:=e;rcases mem e with ⟨h1,_⟩ | ⟨h1,_⟩
   ·exact(F b hb).1.2.2.2.2.1 y c h1 z
   ·have h2:s.heap.objs.size+1<=b:=by rw[<-z];exact h1
    exact Wm (x3 (F b hb).2 (V0 h2)) (Ur _)
  ·rcases (F b hb).1.2.2.2.1 with z | z
   ·exact I.ok.noex b o e z
   ·exact Wm (x3 (Wu e) (xM I.ok.bsz z)) (Ur _)
  ·rcases List.mem_cons.mp (I.kh b z) with z | z
   ·exact(F b hb).1.2.1 z
   ·exact(F b hb).1.2.2.1 z
 refine⟨ah,Z,I.bare,Un.kept kp,⟨fun _=>none,?_,fun i y av e1 e2 O=>?_⟩,fun y c e=>?_,?_,fun y c e=>?_,fun p hp=>?_,I.bp.kept kp,by rw[YO];exact I.len⟩
 ·show Heap.Ns _ cenv.locals _;rw[hL];exact Heap.Ns.keeps (Heap.Ns.new ..) fun b o e=>pushCells_keeps _ _ _ _ e
 ·obtain⟨e2,ai⟩:=qx e2
  have aa:scope.names.lookup y=some .free/\(cenv.kindOf y=some .cell\/cenv.kindOf y=some .free):=by
   have key:∀k,cenv.scope.names.lookup y=some k->k=.local\/k=.cell\/k=.free->scope.names.lookup y=some .free/\(cenv.kindOf y=some .cell\/cenv.kindOf y=some .free):=fun k hk ad=>by
    have af:=hk;rw[ac]at hk;obtain⟨k',e,r⟩:=Y9 hk
    have no:¬(k'=.local\/k'=.cell):=fun hh=>by
     rcases ok.own _ (Wy e) hh with J|J
     ·obtain⟨p,hp,aj⟩:=List.mem_map.mp J;have O:=ok.ix p hp;have:p.1=y:=aj;rw[this]at O;exact ai (List.mem_map.mpr ⟨p,hp,ye hN O e1⟩)
     ·exact J (x6 e1)
    rcases r with rfl|⟨rfl,rfl⟩
    ·rcases ad with rfl | rfl | rfl
     ·exact Wm (.inl Z) no
     ·exact Wm (.inr Z) no
     ·exact⟨e,.inr af⟩
    ·exact⟨e,.inl af⟩
   have O:vJ cenv.scope y:=O;rcases O with O|O|O
   ·exact key _ O (.inl Z)
   ·exact key _ O (.inr (.inl Z))
   ·exact key _ O (.inr (.inr Z))
  obtain⟨m,hn,hl⟩:=I.loc;have ag:vJ X.env.scope y:=(ok.free _ (Wy aa.1) Z).elim (fun k=>.inr (.inl k)) (fun k=>.inr (.inr k));obtain⟨w,r,q⟩:=hl i y av e1 e2 ag;refine⟨w,r,.inr ⟨aa.2,?_⟩⟩;obtain⟨c,h1,h2⟩:=look aa.1;rcases q with⟨k,_⟩|⟨_,c',J,z⟩
  ·have k:X.env.scope.names.lookup y=some .local:=k;rcases ok.free _ (Wy aa.1) rfl with k' | k'<;>rw[show X.env.scope.names.lookup y=_ from k']at k<;>cases k
  ·rw[h2]at J;cases J;exact⟨c,h1,z.keeps kp⟩
 ·have e:cenv.cells.lookup y=some c:=e;rcases mem e with ⟨h1,_⟩ | ⟨_,z⟩
  ·obtain⟨w,z⟩:=I.cell y c h1;exact⟨w,z.keeps kp⟩
  ·exact⟨_,z⟩
 ·show H cenv.locals=none;rw[hL];exact I.bp.fresh (xO _)
 ·have e:cenv.cells.lookup y=some c:=e;rcases mem e with ⟨h1,_⟩ | ⟨h1,_⟩
  ·exact I.freeC y c h1
  ·exact I.bp.fresh (V0 h1)
 ·exact Wm (show p∈([]:List (Addr×Obj))++[] from hp) We
theorem Bb{D:Addr}{y:V}{v:Value}{Q:Value->Shared->Prop}(I:Inv X aZ σ H s) (z:H D=some (.lst xs)) (hz:xs.length<sizeLine) (r:QR y v)
  (h:∀s',Inv X aZ σ (upd H D (.lst (xs++[y]))) s'->Q .none s'):wpAny (model X.prog X.w) X.A (call (.builtin "list.append") [.ref D,v]) Q E s:=by
 obtain⟨F,a8,n,B,e⟩:=I.bp D _ z;have hl:=B.length;refine append_at (hsz:=by rw[xS];omega) e fun h' G j=>?_;refine h { s with heap:=h' } (I.write (t':=s.toks) (by rw[z];trivial) (.inl rfl) (fun b u J q=>(G.2 b J).trans q) ⟨_,j⟩ ⟨by rw[xG];exact hz,a8++[v],n+1,B.append (.cons r .nil),?_⟩);rw[j];simp
def Ek(X:Cx)(j:List Expr)(t:TT):Prop:=
 ∀(aZ:List (Addr×Obj)) (s:Shared) (σ:St) (H:Hp) (Q:Bool->Hp->Prop),Inv X aZ σ H s->t σ H Q->
  wpAny (model X.prog X.w) X.A (forIn j true fun c r=>if r=true then do let ok <- isTrue c X.env (eval c X.env);pure (ForInStep.yield ok) else pure (ForInStep.yield r)) (TP X aZ σ Q) X.xe s
def Ip:TT:=fun _ H Q=>Q true H
theorem Jn:Ek X [] Ip:=fun _ _ _ H _ I h=>wpAny_tests_nil ⟨H,I,h⟩
theorem zn{c:Expr}{t:TT}(h:PT X c t):Ek X [c] t:=fun aZ s σ H Q I hw=>wpAny_tests_one (h aZ s σ H Q I hw)
theorem pf{α:Type}{t:Sem α}{Q j:α->Shared->Prop} (h:wpAny M A t Q (fun _ _=>False) s) (n:∀a s,Q a s->j a s):wpAny M A t j E s:=wpAny_mono h n fun _ _ z=>False.elim z
theorem xt{R:Result->Shared->Prop}{eQ j z:Expr}{B:List Expr}{scope:Scope}{it acc:Value}{env:Env}(I:Nat->Shared->Prop)
  (turn:∀ n s,I n s->wpAny (model prog w) A (pyNext it) (fun r G=>match r with
   |none=>R (.ok .next) G
   | some v=>wpAny (model prog w) A (letOwnedTupleGo j it v) (fun _ F=>wpAny (model prog w) A (assign j env v) (fun _ U=>
     wpAny (model prog w) A (forIn B true fun c r=>if r=true then do let ok <- isTrue c env (eval c env);pure (ForInStep.yield ok) else pure (ForInStep.yield r)) (fun ok J=>
      if ok=true then wpAny (model prog w) A (eval eQ env) (fun x Eb=>
       wpAny (model prog w) A (call (.builtin "list.append") [acc,x]) (fun _ EU=>∃m,m<n/\I m EU) (notedBy (model prog w) A env fun e s'=>R (.error e) s') Eb) (notedBy (model prog w) A env fun e s'=>R (.error e) s') J
      else ∃m,m<n/\I m J) (notedBy (model prog w) A env fun e s'=>R (.error e) s') U) (notedBy (model prog w) A env fun e s'=>R (.error e) s') F) (notedBy (model prog w) A env fun e s'=>R (.error e) s') G) (notedBy (model prog w) A env fun e s'=>R (.error e) s') s)
  (n:Nat) (h:I n s) :
  codeAny (model prog w) A (.compLoop (.ListComp eQ [⟨j,z,B,0⟩] scope pos) 0 it acc env) R s:=by
 refine codeAny_loop Z I (fun n s hI=>?_) n h;show wpAny _ A ((compTurn (.ListComp eQ [⟨j,z,B,0⟩] scope pos) 0 it acc env).onRaise (fun x=>do noteFrame x env;theTreesLotGoes x)) _ _ s;refine wpAny_noted ?_;rw[compTurn_list];refine wpAny_bind (wpAny_standAt (wpAny_bind (wpAny_mono (turn n s hI) (fun r G vi=>?_) fun _ _ h'=>h')));cases r with
 |none=>exact wpAny_pure vi
 | some v=>
  refine wpAny_bind (wpAny_mono vi (fun _ F O=>?_) fun _ _ h'=>h');refine wpAny_bind (wpAny_mono O (fun _ U KW=>wpAny_bind (wpAny_mono KW (fun ok J Eg=>?_) fun _ _ h'=>h')) fun _ _ h'=>h');cases ok with
  |false=>exact wpAny_pure ⟨Z,Eg⟩
  | true=>
   exact wpAny_bind (wpAny_bind (wpAny_mono Eg (fun x Eb Ir=>wpAny_bind (wpAny_mono Ir (fun _ EU KG=>wpAny_pure (wpAny_pure ⟨Z,KG⟩)) fun _ _ h'=>h')) fun _ _ h'=>h'))
def Hl(G:TI)(g:TG)(tt:TT)(te:TE)(vs:List Nat):TE:=fun σ H Q=>G σ H fun J H1=>∀D,H1 D=none->∃W:Nat->Nat->Hp->Prop,(∃m,W 0 m (upd H1 D (.lst [])))/\∀i m H,W i m H->
 (J.stop i H/\Q (.ref D) H)\/(J.go i H/\∃ j:Hp->Prop,(∀ H',j H'->∃ z,z<m/\W (i+1) z H')/\∀ x H',J.yld i H x H'->g x (ZB σ vs) H' fun n H2=>ZB n vs=ZB σ vs/\tt n H2 fun b B=>
  if b=true then te n B fun y F=>∃acc,F D=some (.lst acc)/\acc.length<sizeLine/\j (upd F D (.lst (acc++[y]))) else j B)
theorem lC {aZ:List (Addr×Obj)} {s:Shared} {H:Hp} {Q:VK} {eQ tg G:Expr} {U:List Expr} {scope:Scope} {own:List (Str×Nat)} {pos cq:Pos} {wi:TI} {g:TG} {tt:TT} {te:TE} {use:Option (Value->Sem Unit)} {Qf:Value->Shared->Prop}
  (hc:X.calm=true) (hN:X.N.Nodup) (I:Inv X aZ σ H s) (hi:PI X tg G wi) (ok:gT X.N X.env.scope scope own)
  (hg:∀(s:Shared) (H:Hp) (C:Addr) (cl:List (Str×Addr)) (B:List Addr),PG (X.eX s H scope (compEnvC scope cl C X.env) B) tg g) (ht:∀(s:Shared) (H:Hp) (C:Addr) (cl:List (Str×Addr)) (B:List Addr),Ek (X.eX s H scope (compEnvC scope cl C X.env) B) U tt)
  (he:∀(s:Shared) (H:Hp) (C:Addr) (cl:List (Str×Addr)) (B:List Addr),PE (X.eX s H scope (compEnvC scope cl C X.env) B) eQ te) (hs:∀x,foldedSetIterable G X.env x=pure x)
  (h:Hl wi g tt te (own.map (·.2)) σ H Q)
  (au:∀D C s' m H',Inv X aZ σ H' s'->Q (.ref D) H'->s'.heap.Ns C m->zi X aZ H' C->compPost (model X.prog X.w) X.A X.xe use Qf (.ref D) C (.ok .next) s') :
  wpAny (model X.prog X.w) X.A (comprehension (.ListComp eQ [⟨tg,G,U,0⟩] scope pos) scope X.env cq (newList []) false (eval G X.env) use) Qf X.xe s:=by
 have ac:∀y∈scope.names,y.2=.free->∃c,X.env.cells.lookup y.1=some c:=fun y hy e=>by
  rcases ok.free y hy e with k|k
  ·exact I.ok.has _ (.inl k)
  ·exact I.ok.has _ (.inr k)
 refine wpAny_comprehension_free (use:=use) Z hs (ko ac) ok.kind (fun y hy e=>by rw[ok.uniq y hy,e])
  (bz (hi aZ s σ H _ I h) fun xv s1 hx=>bz hx fun aE s2 h2=>?_)
 obtain⟨it,B,tn,J,H2,e,I2,T,af,f2,q⟩:=h2;subst e;refine wpAny_newObj_type (gE ?_) (by show 0<=sizeLine;decide);generalize hD:s2.heap.objs.size=D;have av:H2 D=none:=I2.bp.fresh (Qar hD);obtain⟨W,⟨m0,w0⟩,turn⟩:=q D av;generalize ag:({ s2 with heap:=s2.heap.push { cls:=.type "list",data:=.seq ([]:List Value).toArray } }:Shared)=s3
 have I3:Inv X aZ σ (upd H2 D (.lst [])) s3:=by rw[<-ag];refine I2.laid (t':=s2.toks) (fun b o e=>Wt _ e) (Qar hD) ⟨x9 _,[],0,.nil,?_⟩;rw[<-hD];exact Wv _ rfl
 have h3:s3.heap=s2.heap.push { cls:=.type "list",data:=.seq ([]:List Value).toArray }:=by rw[<-ag]
 have sz:∀b∈B,b<s2.heap.objs.size:=fun b F=>by
  obtain⟨o,e,_⟩:=T.obj _ _ af b F;exact Wu e
 have f3:∀b∈B,zi X aZ (upd H2 D (.lst [])) b/\b<s3.heap.objs.size:=fun b F=>by
  have ah:=sz b F;refine⟨⟨?_,(f2 b F).2⟩,by rw[h3,Ww];exact U8 ah⟩;rw[Qh (by rw[<-hD];exact xY ah)];exact(f2 b F).1
 have aw:tn 0 s3.heap:=T.keep _ _ _ af fun b _ o e=>by rw[h3];exact Wt _ e
 have I4:=gQ I3 ok hN f3;have pg:=hg s3 (upd H2 D (.lst [])) s3.heap.objs.size (cellsFrom (s3.heap.objs.size+1) scope.names (Q0 X.env.cells scope.names [])) B;have pt:=ht s3 (upd H2 D (.lst [])) s3.heap.objs.size (cellsFrom (s3.heap.objs.size+1) scope.names (Q0 X.env.cells scope.names [])) B;have pe:=he s3 (upd H2 D (.lst [])) s3.heap.objs.size (cellsFrom (s3.heap.objs.size+1) scope.names (Q0 X.env.cells scope.names [])) B;show codeAny _ _ (.compStart (.ListComp eQ [⟨tg,G,U,0⟩] scope pos) 0 (.ref it) (.ref D) (compEnvC scope (cellsFrom (s3.heap.objs.size+1) scope.names (Q0 X.env.cells scope.names [])) s3.heap.objs.size X.env)) (compPost (model X.prog X.w) X.A X.xe use Qf (.ref D) s3.heap.objs.size) { s3 with heap:=pushCells (s3.heap.push { cls:=.type "dict",data:=.dict #[] }) scope.names };have ai:∀b∈B,(upd H2 D (.lst [])) b=none:=fun b F=>(f3 b F).1.1;generalize ax:compEnvC scope (cellsFrom (s3.heap.objs.size+1) scope.names (Q0 X.env.cells scope.names [])) s3.heap.objs.size X.env=ce at I4 pg pt pe ⊢;have cL:ce.locals=s3.heap.objs.size:=by subst ax;rfl
 generalize aF:upd H2 D (.lst [])=H3 at I3 I4 pg pt pe w0 ai f3;generalize ay:({ s3 with heap:=pushCells (s3.heap.push { cls:=.type "dict",data:=.dict #[] }) scope.names }:Shared)=s4 at I4 ⊢;have aj:tn 0 s4.heap:=T.keep _ _ _ aw fun b _ o e=>by rw[<-ay];exact pushCells_keeps _ _ _ _ (Wt _ e)
 have O:∀{dA:St} {H':Hp} {s':Shared},Inv (X.eX s3 H3 scope ce B) [] dA H' s'->(∀b∈B,H' b=none)->∀b∈B,zi (X.eX s3 H3 scope ce B) [] H' b:=fun {dA H' s'} I' hn b F=>
  ⟨hn b F,(I'.ok.exf b F).1,I'.ok.exfs b F,.inl F,fun x c e=>(I'.ok.exf b F).2 x c e,fun p hp=>Wm (show p∈([]:List (Addr×Obj))++[] from hp) We⟩
 have aa:codeAny (model X.prog X.w) X.A (.compLoop (.ListComp eQ [⟨tg,G,U,0⟩] scope pos) 0 (.ref it) (.ref D) ce) (compPost (model X.prog X.w) X.A X.xe use Qf (.ref D) s3.heap.objs.size) s4:=by
  refine xt (fun n s'=>∃i H',Inv (X.eX s3 H3 scope ce B) [] (ZB σ (own.map (·.2))) H' s'/\tn i s'.heap/\(∀b∈B,H' b=none)/\W i n H') ?_ m0 ⟨0,H3,I4,aj,ai,w0⟩;rintro n s5 ⟨i,H5,I5,ak,n5,w5⟩;rcases turn i n H5 w5 with⟨stop,qq⟩|⟨go,Nx,az,step⟩
  ·have td:=T.done (X.eX s3 H3 scope ce B) Z Z Z hc i [] s5 _ H5 (fun _ _=>False) I5 (O I5 n5) ak stop;refine pf td fun r s6 ⟨hr,I6⟩=>?_;subst hr;have I7:Inv X aZ σ H5 s6:=I3.DD (ch:=B) I6.os I6.base I6.bp I6.bare fun b F=>⟨(f3 b F).1.2.2.2.1,(f3 b F).1.2.1,(f3 b F).1.2.2.2.2.1,(f3 b F).1.2.2.2.2.2⟩
   have nC:H5 s3.heap.objs.size=none:=by have z:H5 ce.locals=none:=I6.free;rw[cL]at z;exact z
   obtain⟨m,hn,_⟩:=I6.loc;have hn:s6.heap.Ns ce.locals m:=hn;rw[cL]at hn;exact au D s3.heap.objs.size s6 m H5 I7 qq hn (I3.fv (xO _) nC)
  ·have ti:=T.item (X.eX s3 H3 scope ce B) Z Z Z hc i [] s5 _ H5 (fun _ _=>False) I5 (O I5 n5) ak go;refine pf ti fun r s6 ⟨u,hr,h6⟩=>?_;subst hr;refine pf h6 fun _ s7 hq=>?_;obtain⟨x,H7,I7,r7,y7,ad,n7⟩:=hq;have aA:=I7.pinned (O I7 n7) (T.obj _ _ ad);refine pf (pg _ s7 _ H7 x u _ aA r7 (step x H7 y7)) fun _ s8 hq=>?_;obtain⟨HA,H8,I8,an,q8⟩:=hq;refine pf (pt _ s8 HA H8 _ I8 q8) fun b s9 ⟨H9,I9,q9⟩=>?_
   have fin:∀{s':Shared} {H':Hp},Inv (X.eX s3 H3 scope ce B) ([]++zZ B s7.heap) HA H' s'->Nx H'->∃m,m<n/\∃i H',Inv (X.eX s3 H3 scope ce B) [] (ZB σ (own.map (·.2))) H' s'/\tn i s'.heap/\(∀b∈B,H' b=none)/\W i m H':=fun {s' H'} I' nx=>by
    obtain⟨m',hm,w'⟩:=az H' nx
    have ab:∀b∈B,∀o,s7.heap.get? b=some o->s'.heap.get? b=some o/\H' b=none:=fun b F o e=>
     let z:=I'.pin (b,o) (GP _ (GP _ (JT F e)))
     ⟨z.1,z.2.1⟩
    have hl:(ZB σ (own.map (·.2))).length=HA.length:=by rw[<-an,YO]
    refine⟨m',hm,i+1,H',(I'.dE (aZ:=[])).weak hl (fun j v e=>?_),T.keep _ _ _ ad fun b F o e=>(ab b F o e).1,fun b F=>?_,w'⟩
    ·rw[<-an]at e;exact(qx e).1
    ·obtain⟨o,e,_⟩:=T.obj _ _ ad b F;exact(ab b F o e).2
   cases b with
   | false=>
    simp only[UC,Wr]at q9 ⊢;exact fin I9 q9
   | true=>
    simp only[Wq]at q9 ⊢;refine pf (pe _ s9 HA H9 _ I9 q9) fun z aG hq=>?_;obtain⟨yv,aH,aB,aC,acc,ao,aq,nx⟩:=hq;exact Bb (X:=X.eX s3 H3 scope ce B) aB ao aq aC fun aI aD=>fin aD nx
 exact codeAny_compStart_list aa (T.self X.A 0 _ _ _ aj aa)
theorem qR{eQ tg j:Expr}{n:List Expr}{scope:Scope} {own:List (Str×Nat)} {B:TI} {g:TG} {tt:TT} {te:TE} (hc:X.calm=true) (F:X.N.Nodup) (hi:PI X tg j B) (ok:gT X.N X.env.scope scope own)
  (G:∀(s:Shared) (H:Hp) (C:Addr) (cl:List (Str×Addr)) (z:List Addr),PG (X.eX s H scope (compEnvC scope cl C X.env) z) tg g) (J:∀(s:Shared) (H:Hp) (C:Addr) (cl:List (Str×Addr)) (z:List Addr),Ek (X.eX s H scope (compEnvC scope cl C X.env) z) n tt)
  (O:∀(s:Shared) (H:Hp) (C:Addr) (cl:List (Str×Addr)) (z:List Addr),PE (X.eX s H scope (compEnvC scope cl C X.env) z) eQ te) (U:∀x,foldedSetIterable j X.env x=pure x:=by intro _;rfl) :
  PE X (.ListComp eQ [⟨tg,j,n,0⟩] scope pos) (Hl B g tt te (own.map (·.2))):=by
 intro aZ s σ H Q I h;rw[eval_ListComp];refine lC hc F I hi ok G J O U h fun D C s' m H' I' q hn f=>⟨m,hn,fun aa sb=>?_⟩;obtain⟨f0,f1,f2,f3,f4,f5⟩:=f;exact⟨.ref D,H',I'.turned (t':=s'.toks) (fun b o hb e=>(sb.2 b hb).trans e) f0 f1 f3 f4 f5,Z,q⟩
theorem gx{i:Nat}{y:Str}{J:Pos}{eQ tg j:Expr}{n:List Expr}{scope:Scope} {own:List (Str×Nat)} {pos B:Pos} {O:TI} {g:TG} {tt:TT} {te:TE} (hc:X.calm=true) (hN:X.N.Nodup) (hy:X.N[i]?=some y) (F:X.env.scope.names.lookup y=some .local)
  (U:swapsWith (.ListComp eQ [⟨tg,j,n,0⟩] scope pos) (some (.Name y J)) B.line X.env=pure true) (hi:PI X tg j O) (ok:gT X.N X.env.scope scope own)
  (hg:∀(s:Shared) (H:Hp) (C:Addr) (cl:List (Str×Addr)) (G:List Addr),PG (X.eX s H scope (compEnvC scope cl C X.env) G) tg g) (ht:∀(s:Shared) (H:Hp) (C:Addr) (cl:List (Str×Addr)) (G:List Addr),Ek (X.eX s H scope (compEnvC scope cl C X.env) G) n tt)
  (he:∀(s:Shared) (H:Hp) (C:Addr) (cl:List (Str×Addr)) (G:List Addr),PE (X.eX s H scope (compEnvC scope cl C X.env) G) eQ te) (hs:∀x,foldedSetIterable j X.env x=pure x:=by intro _;rfl) :
  PS X (.Assign [.Name y J] (.ListComp eQ [⟨tg,j,n,0⟩] scope pos) B) (va (Hl O g tt te (own.map (·.2))) (Zz i)):=by
 intro aZ s σ H D I h;rw[exec_Assign_Name_used _ _ _ _ U];refine wpAny_bind (wpAny_standAt (wpAny_bind ?_));show wpAny _ X.A (do let _ <- comprehension (.ListComp eQ [⟨tg,j,n,0⟩] scope pos) scope X.env (firstIterPos [⟨tg,j,n,0⟩] pos) (newList []) false (eval j X.env) (some (assign (.Name y J) X.env))) _ _ s;have h:Hl O g tt te (own.map (·.2)) σ H (fun x H1=>Zz i x σ H1 D.nx):=h;refine wpAny_bind (bz (lC (Qf:=fun _ s'=>SP X aZ D .next s') hc hN I hi ok hg ht he hs h fun ac C s' m H' I' q hn f=>?_) fun _ s' hq=>wpAny_pure (wpAny_pure hq));show wpAny _ _ (assign (.Name y J) X.env (.ref ac)) _ _ _;refine wpAny_assign_Name (yU (v:=V.ref ac) I' hN hy (.inl F) Z (fun s2 I2 ⟨a,sb,ha⟩=>?_) (.inr F));obtain⟨f0,f1,f2,f3,f4,f5⟩:=f
 have aa:C≠a:=by
  rcases ha with z|z
  ·rw[z];exact f1
  ·exact fun e=>f4 y a z e.symm
 refine⟨m,hn.sameBut sb aa,fun h3 ab=>?_⟩;exact⟨_,H',I2.turned (t':=s2.toks) (fun b o hb e=>(ab.2 b hb).trans e) f0 f1 f3 f4 f5,q⟩
theorem lG{eQ:Expr}{j:List Comprehension}{scope:Scope}{pos z:Pos}{y:Str}{l:Nat}{env:Env}(hk:env.scope.kind=.function)(B:env.scope.names.lookup y=some .local) (hl:(z.line==pos.line)=true)
  (F:(scope.names.any fun(n,k)=>n==y&&(k==.local||k==.cell))=false):swapsWith (.ListComp eQ j scope pos) (some (.Name y z)) l env=pure true:=by
 have ky:env.kindOf y=some .local:=B;have G:env.blockKind=.function:=by unfold Env.blockKind;rw[hk];rfl
 unfold swapsWith;have e:(Expr.ListComp eQ j scope pos).pos=pos:=rfl;simp only[G,ky,F,e,hl];rfl
theorem qe{K:xB}{a:Addr}{g:TG}{tt:TT}{te:TE}{vs:List Nat}{H1:Hp}{D:Addr}{I:Hp->Prop}(j:Nat->Hp->Prop) (h0:j 0 (upd H1 D (.lst []))) (hl:∀i H,i<=xs.length->j i H->ba K H a xs)
  (O:∀ i x H,xs[i]?=some x->j i H->g x (ZB σ vs) H fun n H2=>ZB n vs=ZB σ vs/\tt n H2 fun b z=>
   if b=true then te n z fun y B=>∃acc,B D=some (.lst acc)/\acc.length<sizeLine/\j (i+1) (upd B D (.lst (acc++[y]))) else j (i+1) z) (hd:∀H,j xs.length H->I H) :
  ∃W:Nat->Nat->Hp->Prop,(∃m,W 0 m (upd H1 D (.lst [])))/\∀i m H,W i m H->
   ((sL K a).stop i H/\I H)\/((sL K a).go i H/\∃ G:Hp->Prop,(∀ H',G H'->∃ J,J<m/\W (i+1) J H')/\∀ x H',(sL K a).yld i H x H'->g x (ZB σ vs) H' fun n H2=>ZB n vs=ZB σ vs/\tt n H2 fun b z=>
    if b=true then te n z fun y B=>∃acc,B D=some (.lst acc)/\acc.length<sizeLine/\G (upd B D (.lst (acc++[y]))) else G z):=by
 refine⟨fun i m H=>m=xs.length-i/\i<=xs.length/\j i H,⟨xs.length,by simp,x9 _,h0⟩,?_⟩;rintro i m H ⟨rfl,hi,p⟩;have q:=hl i H hi p;by_cases F:i<xs.length
 ·refine .inr ⟨⟨xs,xs[i],q,by simp[F]⟩,j (i+1),fun H' U=>⟨xs.length-(i+1),by omega,Z,F,U⟩,fun x H' y=>?_⟩;obtain⟨e,y⟩:=y;subst e;exact O i x _ (y xs q) p
 ·have e:i=xs.length:=by omega
  subst e;exact .inl ⟨⟨xs,q,xO _⟩,hd H p⟩
noncomputable def EL(N:List Str)(sc scope:Scope) (own:List (Str×Nat)):Bool:=
 (match scope.kind with | .function=>true | _=>false)&&(scope.names.all fun y=>decide (scope.names.lookup y.1=some y.2))&&(own.all fun p=>decide (N[p.2]?=some p.1))&&
  (scope.names.all fun y=>match y.2 with
   |.free=>(match sc.names.lookup y.1 with|some .cell=>true|some .free=>true|_=>false)
   |.local=>decide (y.1∈own.map (·.1))||decide (y.1∉N)
   |.cell=>decide (y.1∈own.map (·.1))||decide (y.1∉N)
   |_=>true)
theorem ZI{N:List Str}{sc scope:Scope} {own:List (Str×Nat)} (h:EL N sc scope own=true):gT N sc scope own:=by
 unfold EL at h;simp only[Ga,Qaa,Wp]at h;obtain⟨⟨⟨h1,h2⟩,z⟩,n⟩:=h;refine⟨?_,h2,z,fun y j e=>?_,fun y j e=>?_⟩
 ·split at h1
  ·assumption
  ·cases h1
 ·have q:=n y j;simp only[e]at q;split at q<;>first|exact .inl (by assumption)|exact .inr (by assumption)|cases q
 ·have q:=n y j;rcases e with e|e<;>(simp only[e,VM,Wp]at q;exact q)
section
variable {R:Result->Shared->Prop} {eQ t0 i0 t1 i1:Expr} {Lk LB:List Expr} {scope:Scope} {it acc:Value} {env:Env}
end
section
variable {κ:Type} [DecidableEq κ]
def Xv (a':List (κ×V)) (k:κ):Option V:=(a'.find? fun kv=>decide (kv.1=k)).map (·.2)
noncomputable def XU (a':List (κ×V)) (k:κ) (v:V):List (κ×V):=
 if(a'.any fun kv=>decide (kv.1=k))=true then a'.map (fun kv=>if kv.1=k then(kv.1,v) else kv) else a'++[(k,v)]
def wR (a':List (κ×V)) (k:κ):List (κ×V):=a'.filter fun kv=>decide (kv.1≠k)
theorem J2{p:κ×V} {r:List (κ×V)} {k:κ} (e:p.1=k):Xv (p::r) k=some p.2:=by simp[Xv,Uy,e]
theorem J3{p:κ×V} {r:List (κ×V)} {k:κ} (e:¬p.1=k):Xv (p::r) k=Xv r k:=by simp[Xv,Uy,e]
theorem YQ(k:κ):∀a':List (κ×V),(a'.any fun kv=>decide (kv.1=k))=(Xv a' k).isSome
 |[]=>rfl
 | p::r=>by
  rw[VH];by_cases e:p.1=k
  ·simp only[J2 e,Wk e,Bool.true_or,Option.isSome_some]
  ·rw[J3 e,Wl e,Qb2];exact YQ k r
theorem Ja (a':List (κ×V)) (k:κ) (v:V):(XU a' k v).length<=a'.length+1:=by
 unfold XU;split
 ·rw[xD];omega
 ·rw[xG,xQ,U0];omega
theorem dM {a':List (κ×V)} {k:κ} (v:V) (h:Xv a' k=none):XU a' k v=a'++[(k,v)]:=by unfold XU;rw[YQ,h];exact Wh Wa
theorem YN.cS{o:Option V}{u:Option Value}(r:YN o u):o.isSome=u.isSome:=by
 cases o with
 | none=>cases u with
  |none=>rfl
  |some _=>exact(show False from r).elim
 | some _=>cases u with
  |none=>exact(show False from r).elim
  |some _=>rfl
theorem YN.getD{o:Option V}{u:Option Value}{d:V}{d':Value}(r:YN o u)(rd:QR d d'):QR (o.getD d) (u.getD d'):=by
 cases o with
 | none=>cases u with
  |none=>exact rd
  |some _=>exact(show False from r).elim
 | some _=>cases u with
  |none=>exact(show False from r).elim
  |some _=>exact r
theorem KV.val {a':List (κ×V)} {vs:List (κ×Value)} (r:KV a' vs) (k:κ):YN (Xv a' k) (valueAt vs k):=by
 unfold KV at r;induction r with
 |nil=>exact True.intro
 | @cons p q ps j h t B=>
  obtain⟨h1,h2⟩:=h;by_cases e:p.1=k
  ·have n:q.1=k:=h1.symm.trans e;have b:valueAt (q::j) k=some q.2:=by simp[valueAt,Uy,n]
   rw[J2 e,b];exact h2
  ·have n:¬ q.1=k:=fun z=>e (h1.trans z);have b:valueAt (q::j) k=valueAt j k:=by simp[valueAt,Uy,n]
   rw[J3 e,b];exact B
theorem KV.any {a':List (κ×V)} {vs:List (κ×Value)} (r:KV a' vs) (k:κ):(a'.any fun kv=>decide (kv.1=k))=vs.any fun kv=>decide (kv.1=k):=by
 unfold KV at r;induction r with
 |nil=>rfl
 |cons h t j=>rw[VH,VH,j,h.1]
theorem KV.Bq {a':List (κ×V)} {vs:List (κ×Value)} (r:KV a' vs) (k:κ) {y:V} (j:QR y u) :
  KV (a'.map fun kv=>if kv.1=k then(kv.1,y) else kv) (vs.map fun kv=>if kv.1=k then(kv.1,u) else kv):=by
 unfold KV at r ⊢;induction r with
 |nil=>exact .nil
 | @cons p q ps B h t n=>
  rw[xV,xV];refine .cons ?_ n;obtain⟨h1,h2⟩:=h;by_cases e:p.1=k
  ·rw[Wi e,Wi (h1.symm.trans e)];exact⟨h1,j⟩
  ·rw[Wh e,Wh (fun z=>e (h1.trans z))];exact⟨h1,h2⟩
theorem KV.put {a':List (κ×V)} {vs:List (κ×Value)} (r:KV a' vs) (k:κ) {y:V} (j:QR y u):KV (XU a' k y) (stored vs k u):=by
 unfold XU stored;rw[r.any k];by_cases e:(vs.any fun kv=>decide (kv.1=k))=true
 ·rw[Wi e,Wi e];exact r.Bq k j
 ·rw[Wh e,Wh e];exact Paired.snoc r ⟨Z,j⟩
theorem KV.drop {a':List (κ×V)} {vs:List (κ×Value)} (r:KV a' vs) (k:κ):KV (wR a' k) (without vs k):=by
 unfold KV at r ⊢;unfold wR without;induction r with
 |nil=>exact .nil
 | @cons p q ps B h t j=>
  obtain⟨h1,h2⟩:=h;rw[Qba,Qba];by_cases e:p.1=k
  ·have a:¬ decide (p.1≠k)=true:=by simp[e]
   have b:¬decide (q.1≠k)=true:=by simp[h1.symm.trans e]
   rw[Wh a,Wh b];exact j
  ·have n:¬ q.1=k:=fun z=>e (h1.trans z);have a:decide (p.1≠k)=true:=by simp[e]
   have b:decide (q.1≠k)=true:=by simp[n]
   rw[Wi a,Wi b];exact .cons ⟨h1,h2⟩ j
theorem KV.keys {a':List (κ×V)} {vs:List (κ×Value)} (r:KV a' vs):a'.map (·.1)=vs.map (·.1):=by
 unfold KV at r;induction r with
 |nil=>rfl
 |cons h t j=>rw[xV,xV,j,h.1]
theorem KV.length {a':List (κ×V)} {vs:List (κ×Value)} (r:KV a' vs):a'.length=vs.length:=Paired.length r
end
theorem ji{k:Key} (r:QR (kV k) u):(Zp P w).is k u=true:=by
 cases k with
 |inl i=>obtain⟨t,e⟩:=(show ∃t,u=Value.int i t from r);subst e;exact gF P w i t
 |inr x=>obtain⟨t,e⟩:=(show ∃t,u=Value.str x t from r);subst e;exact fe P w x t
theorem jj:∀{ks:List Key} {us:List Value},QH (ks.map kV) us->ItemsAre (Zp P w) ks us
 |[],_,r=>by rw[Vm]at r;cases r;exact .nil
 | k::ks,_,r=>by
  rw[xV]at r;cases r with
  |cons h t=>exact .cons (ji h) (jj t)
abbrev KT(H:Hp):List (List Key×V)->List (List Key×Addr×Value)->Prop:=Paired fun p q=>p.1=q.1/\H q.2.1=some (.tup (p.1.map kV))/\QR p.2 q.2.2
theorem KT.val {a':List (List Key×V)} {xs:List (List Key×Addr×Value)} (r:KT H a' xs) (k:List Key):YN (Xv a' k) ((atKey xs k).map (·.2)):=by
 induction r with
 |nil=>exact True.intro
 | @cons p q ps j h t B=>
  obtain⟨h1,_,h2⟩:=h;by_cases e:p.1=k
  ·have n:q.1=k:=h1.symm.trans e;have b:atKey (q::j) k=some q.2:=by simp[atKey,Uy,n]
   rw[J2 e,b];exact h2
  ·have n:¬ q.1=k:=fun z=>e (h1.trans z);have b:atKey (q::j) k=atKey j k:=by simp[atKey,Uy,n]
   rw[J3 e,b];exact B
theorem KT.Bq {a':List (List Key×V)} {xs:List (List Key×Addr×Value)} (r:KT H a' xs) (k:List Key) {y:V} (j:QR y u) :
  KT H (a'.map fun kv=>if kv.1=k then(kv.1,y) else kv) (xs.map (putAt k u)):=by
 induction r with
 |nil=>exact .nil
 | @cons p q ps F h t n=>
  rw[xV,xV];refine .cons ?_ n;obtain⟨h1,h2,B⟩:=h;unfold putAt;by_cases e:p.1=k
  ·rw[Wi e,Wi (h1.symm.trans e)];exact⟨h1,h2,j⟩
  ·rw[Wh e,Wh (fun z=>e (h1.trans z))];exact⟨h1,h2,B⟩
theorem KT.put {a':List (List Key×V)} {xs:List (List Key×Addr×Value)} (r:KT H a' xs) (k:List Key) {b:Addr} {y:V} (n:H b=some (.tup (k.map kV))) (j:QR y u) :
  KT H (XU a' k y) (storedH xs k b u):=by
 have e:(a'.any fun kv=>decide (kv.1=k))=(atKey xs k).isSome:=by rw[YQ,(r.val k).cS,Qa4]
 unfold XU storedH;rw[e];by_cases q:(atKey xs k).isSome=true
 ·rw[Wi q,Wi q];exact r.Bq k j
 ·rw[Wh q,Wh q];exact Paired.snoc r ⟨Z,n,j⟩
theorem KT.keeps{H H':Hp} {a':List (List Key×V)} {xs:List (List Key×Addr×Value)} (r:KT H a' xs) (j:∀b ys,H b=some (.tup ys)->H' b=some (.tup ys)):KT H' a' xs:=
 Paired.AS r fun _ _ z=>⟨z.1,j _ _ z.2.1,z.2.2⟩
section
variable {h:Heap} {a:Addr}
theorem wX{u:HO}(ok:dg P w H h)(e:Rd H a u):Zh P w H h a u:=e.ok ok
theorem jp {a':List (Key×V)} (ok:dg P w H h) (e:Rd H a (.dK a')):a'.length<=sizeLine/\(a==sysModules)=false/\∃vs,KV a' vs/\h.DictOf (Zp P w) a vs:=
 show Zh P w H h a (.dK a') from wX ok e
theorem As {a':List (Key×V)} (ok:dg P w H h) (e:H a=some (.dK a')):a'.length<=sizeLine/\(a==sysModules)=false/\∃vs,KV a' vs/\h.DictOf (Zp P w) a vs:=jp ok (.inl e)
theorem yg{ks:List Key}(ok:dg P w H h) (e:H a=some (.tup (ks.map kV))):(tupleKind (Zp P w)).is h ks a:=by obtain⟨_,a8,r,o,h1,h2,n,j⟩:=(show Zh P w H h a (.tup (ks.map kV)) from ok a _ e);exact⟨o,a8.toArray,n,h1,h2,j,by simpa using jj r⟩
theorem gp {a':List (List Key×V)} (ok:dg P w H h) (e:Rd H a (.dT a')):a'.length<=sizeLine/\(a==sysModules)=false/\
  ∃xs,KT H a' xs/\h.DictOfH (tupleKind (Zp P w)) a xs:=by
 obtain⟨z,y,xs,r,o,es,ep,h1,h2,B,F,G⟩:=(show Zh P w H h a (.dT a') from wX ok e);refine⟨z,y,xs,r,o,es,ep,h1,h2,B,F,fun x j=>?_,G⟩
 have all:∀{l:List (List Key×V)} {m:List (List Key×Addr×Value)},KT H l m->∀x∈m,(tupleKind (Zp P w)).is h x.1 x.2.1:=by
  intro l m q;induction q with
  |nil=>intro x j;exact nomatch j
  | @cons p q ps J n t I=>
   intro x j;rcases List.mem_cons.mp j with e|j
   ·subst e;exact yg ok (by rw[<-n.1];exact n.2.1)
   ·exact I x j
 exact all r x j
theorem FL {a':List (List Key×V)} (ok:dg P w H h) (e:H a=some (.dT a')):a'.length<=sizeLine/\(a==sysModules)=false/\
  ∃xs,KT H a' xs/\h.DictOfH (tupleKind (Zp P w)) a xs:=gp ok (.inl e)
end
def Z6(H:Hp)(a:Addr)(y:V)(r:Option V):Prop:=
 (∃a' k,Rd H a (.dK a')/\y=kV k/\r=Xv a' k)\/∃a' k b,Rd H a (.dT a')/\y=.ref b/\H b=some (.tup (k.map kV))/\r=Xv a' k
def yM(H:Hp)(a:Addr)(y v:V)(H':Hp):Prop:=
 (∃a' k,H a=some (.dK a')/\y=kV k/\a'.length<sizeLine/\H'=upd H a (.dK (XU a' k v)))\/
 ∃a' k b,H a=some (.dT a')/\y=.ref b/\H b=some (.tup (k.map kV))/\a'.length<sizeLine/\H'=upd H a (.dT (XU a' k v))
theorem Z6.k{a:Addr} {a':List (Key×V)} {k:Key} (e:H a=some (.dK a')):Z6 H a (kV k) (Xv a' k):=.inl ⟨a',k,.inl e,Z,Z⟩
theorem Z6.t{a b:Addr} {a':List (List Key×V)} {k:List Key} (e:H a=some (.dT a')) (j:H b=some (.tup (k.map kV))):Z6 H a (.ref b) (Xv a' k):=.inr ⟨a',k,b,.inl e,Z,j,Z⟩
theorem yM.k{a:Addr} {a':List (Key×V)} {k:Key} {v:V} (e:H a=some (.dK a')) (hl:a'.length<sizeLine):yM H a (kV k) v (upd H a (.dK (XU a' k v))):=.inl ⟨a',k,e,Z,hl,Z⟩
theorem yM.t{a b:Addr} {a':List (List Key×V)} {k:List Key} {v:V} (e:H a=some (.dT a')) (j:H b=some (.tup (k.map kV))) (hl:a'.length<sizeLine) :
  yM H a (.ref b) v (upd H a (.dT (XU a' k v))):=.inr ⟨a',k,b,e,Z,j,hl,Z⟩
section
variable {a:Addr} {y v:V} {r:Value} {o:Option V}
theorem Inv.big(I:Inv X aZ σ H s):sysModules<s.heap.objs.size:=by have h:mainGlobals<s.heap.objs.size:=(I.mod.glob.keeps I.bk).lt;exact VB Wa h
theorem oS{Q:Value->Shared->Prop}(U:A.units+1<cLine)(I:Inv X aZ σ H s) (g:Z6 H a y (some v)) (O:QR y u) (h:∀B s',Inv X aZ σ H s'->QR v B->Q B s') :
  wpAny (model X.prog X.w) A (getItem (.ref a) u) Q E s:=by
 rcases g with⟨a',k,e,F,l⟩|⟨a',k,b,e,F,eb,l⟩
 ·subst F;obtain⟨z,hd,vs,j,G⟩:=jp I.bp e;obtain⟨B,hw,n⟩:=YN.some_of (v:=v) (o:=valueAt vs k) (by rw[l];exact j.val k);exact wpAny_getItem_of (ji O) G.mapOf hw (h B _ (I.tok _) n)
 ·subst F;cases(show u=Value.ref b from O);obtain⟨z,hd,xs,j,G⟩:=gp I.bp e;obtain⟨B,hw,n⟩:=YN.some_of (v:=v) (o:=(atKey xs k).map (·.2)) (by rw[l];exact j.val k);obtain⟨p,hp,J⟩:=Option.map_eq_some_iff.mp hw;refine wpAny_getItem_heap (tupleKind_room_in1 U) (yg I.bp eb) G hp ?_;rw[J];exact h B _ (I.tok _) n
theorem Ky{Q:Value->Shared->Prop}(G:A.units+1<cLine)(I:Inv X aZ σ H s)(g:Z6 H a y o)(F:QR y u) (h:∀s',Inv X aZ σ H s'->Q (.bool o.isSome) s') :
  wpAny (model X.prog X.w) A (compareOp .In u (.ref a)) Q E s:=by
 rcases g with⟨a',k,e,n,l⟩|⟨a',k,b,e,n,J,l⟩
 ·subst n;obtain⟨z,hd,vs,j,B⟩:=jp I.bp e;refine wpAny_in_of (ji F) hd B.mapOf ?_;rw[<-(j.val k).cS,<-l];exact h _ (I.tok _)
 ·subst n;cases(show u=Value.ref b from F);obtain⟨z,hd,xs,j,B⟩:=gp I.bp e;refine wpAny_in_heap (tupleKind_room_in1 G) (yg I.bp J) hd B ?_;have q:=(j.val k).cS;rw[Qa4]at q;rw[<-q,<-l];exact h _ (I.tok _)
theorem vy{Q:Value->Shared->Prop}(G:A.units+1<cLine)(I:Inv X aZ σ H s)(g:Z6 H a y o)(F:QR y u) (h:∀s',Inv X aZ σ H s'->Q (.bool (!o.isSome)) s') :
  wpAny (model X.prog X.w) A (compareOp .NotIn u (.ref a)) Q E s:=by
 rcases g with⟨a',k,e,n,l⟩|⟨a',k,b,e,n,J,l⟩
 ·subst n;obtain⟨z,hd,vs,j,B⟩:=jp I.bp e;refine wpAny_notIn_of (ji F) hd B.mapOf ?_;rw[<-(j.val k).cS,<-l];exact h _ (I.tok _)
 ·subst n;cases(show u=Value.ref b from F);obtain⟨z,hd,xs,j,B⟩:=gp I.bp e;refine wpAny_notIn_heap (tupleKind_room_in1 G) (yg I.bp J) hd B ?_;have q:=(j.val k).cS;rw[Qa4]at q;rw[<-q,<-l];exact h _ (I.tok _)
theorem xq{h':Heap}{t':Nat}{j:HO}(I:Inv X aZ σ H s) (B:DT (H a)) (F:Heap.SameBut a s.heap h') (G:∃q,h'.get? a=some q) (n:Zh X.prog X.w (upd H a j) h' a j) :
  Inv X aZ σ (upd H a j) { s with heap:=h',toks:=t' }:=
 I.write (x:=a) (e:=a) B (.inl Z) (fun b q J z=>(F.2 b J).trans z) G n
theorem uw{H':Hp}{h':Heap} {a':List (Key×V)} {vs:List (Key×Value)} (z:a'.length<=sizeLine) (hd:(a==sysModules)=false) (j:KV a' vs) (n:h'.DictOf (Zp P w) a vs) :
  Zh P w H' h' a (.dK a'):=⟨z,hd,vs,j,n⟩
theorem nk{H':Hp}{Q:Unit->Shared->Prop}(hu:A.units+1<cLine)(I:Inv X aZ σ H s)(g:yM H a y v H')(U:QR y u)(rv:QR v r) (h:∀s',Inv X aZ σ H' s'->Q () s') :
  wpAny (model X.prog X.w) A (setItem (.ref a) u r) Q E s:=by
 rcases g with⟨a',k,e,F,l,G⟩|⟨a',k,b,e,F,eb,l,G⟩
 ·subst F G;obtain⟨z,hd,vs,j,J⟩:=As I.bp e;have hz:vs.length<=sizeLine:=by rw[<-j.length];exact z
  have hl:(XU a' k v).length<=sizeLine:=by have:=Ja a' k v;omega
  refine wpAny_setItem_pairs (hsz:=hz) (ji U) J fun h' n O=>h _ ?_;have he:∃q,h'.get? a=some q:=let ⟨q,_,_,B,_⟩:=n;⟨q,B⟩
  exact xq I (by rw[e];exact True.intro) O he (uw hl hd (j.put k rv) n)
 ·subst F G;cases (show u=Value.ref b from U);obtain⟨z,hd,xs,j,J⟩:=FL I.bp e;have hz:xs.length<=sizeLine:=by rw[<-Paired.length j];exact z
  have hl:(XU a' k v).length<=sizeLine:=by have:=Ja a' k v;omega
  refine wpAny_setItem_heap (hsz:=hz) (tupleKind_room_in1 hu) (yg I.bp eb) J fun h' n O=>h _ ?_;obtain⟨q,es,ep,B,h2,h3,h4,_,h5⟩:=n;refine xq I (by rw[e];exact True.intro) O ⟨q,B⟩ ⟨hl,hd,_,(j.put k eb rv).keeps fun c ys ec=>?_,q,es,ep,B,h2,h3,h4,h5⟩;rw[Qh (YI ec e (fun z=>nomatch z))];exact ec
end
section
variable {a:Addr} {a':List (Key×V)} {k:Key}
theorem Ff{Q:Value->Shared->Prop}(I:Inv X aZ σ H s) (e:Rd H a (.dK a')) (h:∀t s',Inv X aZ σ H s'->Q (.int a'.length t) s'):wpAny (model X.prog X.w) A (call (.builtin "len") [.ref a]) Q E s:=by obtain⟨z,hd,vs,j,n⟩:=jp I.bp e;refine call_len_dict hd n (by rw[<-j.length];rw[sizeLine_eq]at z;omega) ?_;rw[<-j.length];exact h _ _ (I.tok _)
end
def vN(i:Expr):Prop:=∀j n,subscripted i false j n=operate [j,n] (getItem j n)
theorem jB{env:Env}{value j:Expr}{T id:String}{Q:Value->Shared->Prop}
  (hl:typeLookup (.type T) "__getitem__" = pure (some (.builtin id))) (I:vN j)
  (h:wpAny (model prog w) A (eval value env) (fun o B=>wpAny (model prog w) A (eval j env) (fun i n=>n.TypeIs o T/\wpAny (model prog w) A (getItem o i) Q E n) E B) E s) :
  wpAny (model prog w) A (eval (.Subscript value j pos) env) Q E s:=by
 refine Subscript_ (wpAny_mono h (fun o B J=>wpAny_mono J (fun i n z=>?_) fun _ _ x=>x) fun _ _ x=>x);obtain⟨F,z⟩:=z;unfold subscriptTail;refine wpAny_bind ?_;rw[getitemInPython_of_ne F.not_modules];refine wpAny_bind (wpAny_specialOf F hl ?_)
 have fin:wpAny (model prog w) A (subscripted j false o i) (fun r G=>wpAny (model prog w) A (letTemporaryGo value o r >>= fun _=>pure r) Q E G) E n:=by rw[I o i];exact wpAny_operating (wpAny_mono z (fun r G O=>wpAny_bind (wpAny_letTemporaryGo (wpAny_pure O))) fun _ _ x=>x)
 first
  |exact wpAny_pure (wpAny_bind fin)
  |exact wpAny_bind (wpAny_pure (wpAny_bind fin))
  |exact wpAny_bind fin
theorem gI{a:Addr}{y:V}{o:Option V}(I:Inv X aZ σ H s)(g:Z6 H a y o):s.TypeIs (.ref a) "dict" := by
 rcases g with⟨a',k,e,_,_⟩|⟨a',k,b,e,_,_,_⟩
 ·obtain⟨_,_,vs,_,j⟩:=jp I.bp e;exact j.typeIs
 ·obtain⟨_,_,xs,_,j⟩:=gp I.bp e;exact j.typeIs
def Ez(td ty:TE):TE:=fun σ H Q=>td σ H fun x H1=>ty σ H1 fun y H2=>∃a v,x=.ref a/\Z6 H2 a y (some v)/\Q v H2
def Kf(ty td:TE):TE:=fun σ H Q=>ty σ H fun y H1=>td σ H1 fun x H2=>∃a o,x=.ref a/\Z6 H2 a y o/\Q (.bl o.isSome) H2
def vn(ty td:TE):TE:=fun σ H Q=>ty σ H fun y H1=>td σ H1 fun x H2=>∃a o,x=.ref a/\Z6 H2 a y o/\Q (.bl (!o.isSome)) H2
def E9(td ty tv:TE):TS:=fun D σ H=>tv σ H fun v H1=>td σ H1 fun x H2=>ty σ H2 fun y n=>∃a j,x=.ref a/\yM n a y v j/\D.nx σ j
section
variable {o i e value:Expr} {cq dH:Pos} {td ty tv:TE}
theorem Yw(z:X.A.units+1<cLine)(B:PE X o td)(hi:PE X i ty)(F:vN i):PE X (.Subscript o i pos) (Ez td ty):=by intro aZ s σ H Q I h;refine jB PySem.F.slot_dict_getitem.lookup F (bz (B aZ s σ H _ I h) fun u G ⟨x,H1,J,O,U⟩=>bz (hi aZ G σ H1 _ J U) fun iv s2 hq=>?_);obtain⟨y,H2,n,ry,a,v,ex,g,q2⟩:=hq;subst ex;obtain rfl:u=Value.ref a:=O;exact⟨gI n g,oS z n g ry fun w' s3 I3 j=>⟨v,H2,I3,j,q2⟩⟩
theorem Br(j:X.A.units+1<cLine)(hi:PE X i ty)(n:PE X o td):PC X .In i o (Kf ty td):=by intro aZ s σ H Q I h;refine bz (hi aZ s σ H _ I h) fun iv z ⟨y,H1,B,F,G⟩=>bz (n aZ z σ H1 _ B G) fun u s2 J=>?_;obtain⟨x,H2,O,U,a,ov,ex,g,q2⟩:=J;subst ex;obtain rfl:u=Value.ref a:=U;exact Ky j O g F fun s3 I3=>⟨.bl ov.isSome,H2,I3,Z,q2⟩
theorem qB(j:X.A.units+1<cLine)(hi:PE X i ty)(n:PE X o td):PC X .NotIn i o (vn ty td):=by intro aZ s σ H Q I h;refine bz (hi aZ s σ H _ I h) fun iv z ⟨y,H1,B,F,G⟩=>bz (n aZ z σ H1 _ B G) fun u s2 J=>?_;obtain⟨x,H2,O,U,a,ov,ex,g,q2⟩:=J;subst ex;obtain rfl:u=Value.ref a:=U;exact vy j O g F fun s3 I3=>⟨.bl (!ov.isSome),H2,I3,Z,q2⟩
theorem zo(j:X.A.units+1<cLine)(n:PE X o td)(hi:PE X i ty)(z:PE X value tv) (B:swapsWith value (some (.Subscript o i cq)) pos.line X.env=pure false) :
  PS X (.Assign [.Subscript o i cq] value pos) (E9 td ty tv):=by
 intro aZ s σ H D I h;refine wpAny_Assign_Subscript (bz (z aZ s σ H _ I h) fun r F ⟨v,H1,G,J,O⟩=>bz (n aZ F σ H1 _ G O) fun u U ⟨x,H2,I2,rx,q2⟩=>bz (hi aZ U σ H2 _ I2 q2) fun iv s3 ⟨y,H3,I3,ry,a,H4,ex,g,q3⟩=>?_) B;subst ex;obtain rfl:u=Value.ref a:=rx;exact nk j I3 g ry J fun s4 I4=>⟨σ,H4,I4,q3⟩
end
theorem ft(h:Heap)(j:sysModules<h.objs.size):Zh P w H (h.push { cls:=.type "dict",data:=.dict #[] }) h.objs.size (.dK []):=
 ⟨x9 _,beq_eq_false_iff_ne.mpr (Ne.symm (xY j)),[],.nil,Heap.DictOf.new h⟩
theorem rp(h:Heap)(j:sysModules<h.objs.size):Zh P w H (h.push { cls:=.type "dict",data:=.dict #[] }) h.objs.size (.dT []):=
 ⟨x9 _,beq_eq_false_iff_ne.mpr (Ne.symm (xY j)),[],.nil,_,#[],0,Wv _ Z,⟨Z,Z,Z⟩,Z,Z,List.nodup_nil⟩
def CB:TE:=fun _ H Q=>∀p,H p=none->Q (.ref p) (upd H p (.dK []))
def B0:TE:=fun _ H Q=>∀p,H p=none->Q (.ref p) (upd H p (.dT []))
theorem rT:PE X (.Dict [] [] pos) CB:=fun aZ s σ H Q I h=>
 wpAny_Dict_empty ⟨.ref s.heap.objs.size,_,I.laid (a:=s.heap.objs.size) (o:=.dK []) (t':=s.toks) (fun _ _ q=>Wt _ q) (xO _) (ft s.heap I.big),Z,h _ (I.bp.fresh (xO _))⟩
theorem gu:PE X (.Dict [] [] pos) B0:=fun aZ s σ H Q I h=>
 wpAny_Dict_empty ⟨.ref s.heap.objs.size,_,I.laid (a:=s.heap.objs.size) (o:=.dT []) (t':=s.toks) (fun _ _ q=>Wt _ q) (xO _) (rp s.heap I.big),Z,h _ (I.bp.fresh (xO _))⟩
def ir:List (TE×TE)->St->Hp->(List (V×V)->Hp->Prop)->Prop
 |[],_,H,Q=>Q [] H
 |(tk,tv)::r,σ,H,Q=>tk σ H fun x H1=>tv σ H1 fun y H2=>ir r σ H2 fun ps j=>Q ((x,y)::ps) j
abbrev VV:List (V×V)->List (Value×Value)->Prop:=Paired fun p q=>QR p.1 q.1/\QR p.2 q.2
def Hz(X:Cx)(pos:Pos) (keys:List (Option Expr)) (j:List Expr) (n:List (TE×TE)):Prop:=
 ∀(aZ:List (Addr×Obj)) (s:Shared) (σ:St) (H:Hp) (Q:List (V×V)->Hp->Prop),Inv X aZ σ H s->ir n σ H Q->
  wpAny (model X.prog X.w) X.A (evalPairs (pairTrees keys j X.env pos)) (fun vs s'=>∃ps H',Inv X aZ σ H' s'/\VV ps vs/\Q ps H') X.xe s
theorem vX:Hz X pos [] [] []:=fun aZ s σ H Q I h=>pairTrees_nil_walk ⟨[],H,I,.nil,h⟩
theorem rB{k v:Expr} {ks:List (Option Expr)} {vs:List Expr} {tk tv:TE} {j:List (TE×TE)} (hk:PE X k tk) (z:PE X v tv) (hr:Hz X pos ks vs j) :
  Hz X pos (some k::ks) (v::vs) ((tk,tv)::j):=fun aZ s σ H Q I h=>
 pairTrees_cons_walk (bz (hk aZ s σ H _ I h) fun u B ⟨x,H1,F,G,J⟩=>bz (z aZ B σ H1 _ F J) fun w2 O ⟨y,H2,U,ry,q2⟩=>
  bz (hr aZ O σ H2 _ U q2) fun ws s3 ⟨ps,H3,I3,n,q3⟩=>⟨(x,y)::ps,H3,I3,.cons ⟨G,ry⟩ n,q3⟩)
def qD (a' j:List (Key×V)):List (Key×V):=j.foldl (fun acc kv=>XU acc kv.1 kv.2) a'
theorem KV.merge:∀{j:List (Key×V)} {rs:List (Key×Value)} {a':List (Key×V)} {vs:List (Key×Value)},KV j rs->KV a' vs->KV (qD a' j) (merged vs rs):=by
 intro j rs a' vs r;unfold KV at r;induction r generalizing a' vs with
 |nil=>intro q;exact q
 | @cons p q ps B h t n=>
  intro z
  have e:KV (XU a' p.1 p.2) (stored vs q.1 q.2):=by have:=z.put p.1 h.2;rw[<-h.1];exact this
  exact n e
theorem JI:∀(j a':List (Key×V)),(qD a' j).length<=a'.length+j.length
 |[],a'=>by show a'.length<=a'.length+0;omega
 | p::r,a'=>by
  have h1:=JI r (XU a' p.1 p.2);have h2:=Ja a' p.1 p.2;show(qD (XU a' p.1 p.2) r).length<=_;rw[xQ];omega
theorem yx{P:Program}{w:World}:∀{a':List (Key×V)} {ws:List (Value×Value)},VV (a'.map fun kv=>(kV kv.1,kv.2)) ws->∃rs,Carries (Zp P w) ws rs/\KV a' rs
 |[],_,r=>by rw[Vm]at r;cases r;exact⟨[],True.intro,.nil⟩
 | p::a',_,r=>by
  rw[xV]at r;cases r with
  | @cons a b as bs h t=>
   obtain⟨rs,c,q⟩:=yx (P:=P) (w:=w) t;obtain⟨n,j⟩:=b;exact⟨(p.1,j)::rs,⟨ji h.1,Z,c⟩,.cons ⟨Z,h.2⟩ q⟩
def Ea (j:List (TE×TE)):TE:=fun σ H Q=>∀p,H p=none->ir j σ (upd H p (.dK [])) fun ps H2=>H2 p=some (.dK [])/\∃a':List (Key×V),ps=a'.map (fun kv=>(kV kv.1,kv.2))/\a'.length<=15/\Q (.ref p) (upd H2 p (.dK (qD [] a')))
theorem vO {keys:List (Option Expr)} {j:List Expr} {n:List (TE×TE)} (h:Hz X pos keys j n) (B:keys.all (·.isSome)=true) (hl:keys.length=j.length) (h0:keys≠[])
  (G:keys.length<=15):PE X (.Dict keys j pos) (Ea n):=by
 intro aZ s σ H Q I q;have hn:=I.bp.fresh (xO s.heap.objs.size);have I1:=I.laid (a:=s.heap.objs.size) (o:=.dK []) (h':=s.heap.push { cls:=.type "dict",data:=.dict #[] }) (t':=s.toks) (fun _ _ q=>Wt _ q) (xO _) (ft s.heap I.big);refine wpAny_Dict_walk (knd:=Zp X.prog X.w) B hl h0 G (bz (h aZ _ σ _ _ I1 (q _ hn)) fun ws s2 J=>?_);obtain⟨ps,H2,U,O,e,a',ep,lk,q2⟩:=J;subst ep;obtain⟨rs,c,rk⟩:=yx (P:=X.prog) (w:=X.w) O;obtain⟨z,hd,aa,r0,dd⟩:=As U.bp e;cases r0;refine⟨rs,c,dd,fun h' F hs=>⟨.ref s.heap.objs.size,_,?_,Z,q2⟩⟩
 have hz:(qD [] a').length<=sizeLine:=by have h1:=JI a' [];rw[U0]at h1;rw[sizeLine_eq];omega
 have he:∃q,h'.get? s.heap.objs.size=some q:=let ⟨q,_,_,J,_⟩:=F;⟨q,J⟩
 exact xq U (by rw[e];exact True.intro) hs he (uw hz hd (rk.merge .nil) F)
section
variable {a:Addr} {y d:V} {r:Value} {o:Option V}
end
section
variable {o e f:Expr} {dC eB:Pos} {td ty tx:TE}
end
section
variable {a:Addr} {a':List (Key×V)}
end
section
variable {a:Addr} {y:V}
end
theorem yz:bootBuiltins "reversed" = some (.type "reversed"):=by decide +kernel
section
variable {h':Heap}
theorem Inv.u9{t':Nat}{ch:List Addr}(I:Inv X aZ σ H s)(k:∀b o,b∉ch->s.heap.get? b=some o->h'.get? b=some o)(hf:∀b∈ch,zi X aZ H b):Inv X aZ σ H { s with heap:=h',toks:=t' }:=by
 have j:∀b u,H b=some u->b∉ch:=fun b u e z=>by
  have q:=(hf b z).1;rw[q]at e;cases e
 refine I.step (g':=s.gens) (d':=s.drawn) (ch:=ch) (fun b B=>⟨(hf b B).2.2.2.1,(hf b B).2.1,(hf b B).2.2.2.2.1,(hf b B).2.2.2.2.2⟩) (fun b o _ _ hc e _=>k b o hc e) (fun b o _ _ hc e _=>⟨o.slots,k b o hc e⟩)
  (fun _ _ _ _ n=>n) (fun b o hc e=>⟨o,k b o hc e⟩) (fun _ _ e=>e) (fun _ _ _ e=>e) (fun b ps e=>⟨#[],by rw[e];simp⟩) (fun m F=>?_) (fun b u e=>?_) I.bare
 ·obtain⟨o,es,ep,G,r⟩:=F;exact⟨o,es,ep,k _ o (fun z=>(hf _ z).2.1 Z) G,r⟩
 ·refine (I.bp b u e).ig (fun c v hc q=>k c v ?_ q) (fun _ q=>q) fun _ _ q=>q;rcases hc with z | z
  ·rw[z];exact j b u e
  ·exact j c _ z
theorem Inv.dO{t':Nat}{ch:List Addr}{T:Addr}{G:HO}(I:Inv X aZ σ H s)(k:∀b o,b∉ch->s.heap.get? b=some o->h'.get? b=some o)(hf:∀b∈ch,zi X aZ H b)(O:s.heap.objs.size<=T)
  (J:Zh X.prog X.w (upd H T G) h' T G):Inv X aZ σ (upd H T G) { s with heap:=h',toks:=t' }:=by
 have B:H T=none:=I.bp.fresh O
 have F:∀b u,H b=some u->b∉ch:=fun b u e z=>by
  have q:=(hf b z).1;rw[q]at e;cases e
 refine I.step (g':=s.gens) (d':=s.drawn) (ch:=ch) (fun b j=>⟨(hf b j).2.2.2.1,(hf b j).2.1,(hf b j).2.2.2.2.1,(hf b j).2.2.2.2.2⟩) (fun b o _ _ hc e _=>k b o hc e) (fun b o _ _ hc e _=>⟨o.slots,k b o hc e⟩)
  (fun b o _ e n=>?_) (fun b o hc e=>⟨o,k b o hc e⟩) (fun b xs e=>?_) (fun b o u e=>?_) (fun b ps e=>⟨#[],?_⟩) (fun m U=>?_) (fun b u e=>?_) I.bare
 ·rw[Qh (xY (x3 (Wu e) O))];exact n
 ·rw[Qh (Qg e B)];exact e
 ·rw[Qh (Qg e B)];exact e
 ·rw[Qh (Qg e B),e];simp
 ·obtain⟨o,es,ep,ho,r⟩:=U;exact⟨o,es,ep,k _ o (fun z=>(hf _ z).2.1 Z) ho,r⟩
 ·by_cases j:b=T
  ·subst j;rw[Qe]at e;cases e;exact J
  ·rw[Qh j] at e;refine (I.bp b u e).ig (fun c v hc q=>k c v ?_ q) (fun c q=>by rw[Qh (Qg q B)];exact q) fun c xs q=>by rw[Qh (Qg q B)];exact q
   rcases hc with z|z
   ·rw[z];exact F b u e
   ·exact F c _ z
end
theorem z5{tg:Expr}{R:It->Hp->Prop}{J:It}{j:Nat->Heap->Prop}{tk:Nat}(I:Inv X aZ σ H s)(o:Obj)
  (T:zh X.prog X.w X.K tg J [s.heap.objs.size] s.heap.objs.size j) (st:j 0 (s.heap.push o)) (q:R J H):IU X aZ σ tg R (.ref s.heap.objs.size) { s with heap:=s.heap.push o,toks:=tk }:=by
 refine⟨s.heap.objs.size,[s.heap.objs.size],j,J,H,Z,I.kept fun b z e=>Wt _ e,T,st,fun b n=>?_,q⟩;have e:b=s.heap.objs.size:=by simpa using n
 subst e;exact I.fv (xO _) (I.bp.fresh (xO _))
def wW(lo c:Int)(n:Nat):It:=⟨fun i _=>i<n,fun i H x H'=>H'=H/\x=.int (lo+(i:Nat)*c),fun i _=>n<=i⟩
theorem gd{w:World}{K:xB}{tg:Expr}(it:Addr)(lo c:Int)(n:Nat):zh P w K tg (wW lo c n) [it] it (fun i h=>IsRangeIter h it (lo+(i:Nat)*c) ((n:Int)-(i:Nat)) c) where
 mem:=by simp
 obj:=fun i h st b j=>by
  have e:b=it:=by simpa using j
  subst e;exact⟨_,st,fun v z=>nomatch z⟩
 keep:=fun i h h' st k=>k it We _ st
 item:=by intro X F hw G hc i aZ s σ H E I hf st J;subst F hw G;obtain⟨O,f1,f2,U,f4,f5⟩:=hf it We;have W:=Walks.range (prog:=X.prog) (w:=X.w) (I.ok.hd hc) it lo c n;refine W.item i s _ _ J st fun v h' tk hv B kk=>?_;obtain⟨t,rfl⟩:=hv;have I1:Inv X aZ σ H { s with heap:=h',toks:=tk }:=I.turned (fun b o j e=>kk b o (by simpa using j) e) O f1 U f4 f5;exact⟨_,rfl,yi (s:={ s with heap:=h',toks:=tk }) (n := "range_iterator") B rfl rfl Wa ⟨.int (lo+(i:Nat)*c),H,I1,⟨t,rfl⟩,⟨rfl,rfl⟩,B,fun b j=>(hf b j).1⟩⟩
 done:=by intro X F hw G hc i aZ s σ H E I hf st J;subst F hw G;obtain⟨O,f1,f2,U,f4,f5⟩:=hf it We;exact wpAny_pyNext_range_end (I.ok.hd hc) st (by have:n<=i:=J;omega) fun h' eb=>⟨Z,I.turned (t':=s.toks) (fun b o j e=>eb b o j e) O f1 U f4 f5⟩
 self:=fun A i s Q E st h=>wpAny_pyIter_rangeiter st h
def Di(i j c:Int)(n:Nat):Prop:=c≠0/\c.natAbs<1073741824/\Builtin.Range.small i j c=true/\Builtin.Range.rangeSize i j c=n
def DV(ta:TA):TI:=fun σ H R=>ta σ H fun vs H1=>∃(i j c:Int)(n:Nat),vs=[.int i,.int j,.int c]/\Di i j c n/\R (wW i c n) H1
section
variable {tg:Expr}
theorem Jp{a b c:Expr}{ta:TA}{p pos:Pos}(O:Gl X "range")(U:X.mg "range" = none)(ha:PA X [a,b,c] ta)
  (hs:starEach [a,b,c] X.env=(false,eval a X.env)::starEach [b,c] X.env:=by rfl) (F:(backTo pos (starEach [b,c] X.env)).any (·.1)=false:=by rfl) :
  PI X tg (.Call (.Name "range" p) [a,b,c] [] pos) (DV ta):=by
 intro aZ s σ H R I h;refine Call_ (X8 I O U boot_range (PyProof.Rows.callWith_type1 (bz (ha pos aZ s σ H _ I h) fun us B ⟨vs,H1,I1,r1,q1⟩=>?_) hs F));obtain⟨i,j,k,n,e,⟨c0,c1,c2,c3⟩,q⟩:=q1;subst e;cases r1 with
 | cons r z=>
  cases z with
  | cons r' z=>
   cases z with
   | cons G z=>
    cases z;obtain⟨t,rfl⟩:=r;obtain⟨t',rfl⟩:=r';obtain⟨J,rfl⟩:=G;refine call_range_3 c0 ?_ (.inl (PyProof.noPylong_small c1));refine wpAny_pyIter_range (IsRange.new ..) c2 ?_;have I2:Inv X aZ σ H1 { B with heap:=B.heap.push { cls:=.type "range",data:=.fields #[.int i t,.int j t',.int k J] } }:=I1.kept (t':=B.toks) fun b o e=>Wt _ e;refine z5 (tk:=B.toks) I2 _ (gd _ i k n) ?_ q;have e1:i+((0:Nat):Int)*k=i:=by simp
    have e2:(n:Int)-((0:Nat):Int)=Builtin.Range.rangeSize i j k:=by rw[c3];simp
    show IsRangeIter _ _ (i+((0:Nat):Int)*k) ((n:Int)-((0:Nat):Int)) k;rw[e1,e2];exact Wv _ rfl
end
theorem JW{lo c:Int}{n:Nat}{g:TG}{tb:TS}{D:JE}(j:Nat->St->Hp->Prop)(h0:j 0 σ H)
  (I:∀i σ H,i<n->j i σ H->g (.int (lo+(i:Nat)*c)) σ H fun B H2=>tb { D with nx:=j (i+1),ct:=j (i+1),bk:=D.nx } B H2) (hd:∀σ H,j n σ H->D.nx σ H) :
  ∃W:Nat->Nat->St->Hp->Prop,(∃m,W 0 m σ H)/\∀i m σ H,W i m σ H->
   ((wW lo c n).stop i H/\D.nx σ H)\/((wW lo c n).go i H/\∃N:St->Hp->Prop,(∀F H',N F H'->∃G,G<m/\W (i+1) G F H')/\∀x H',(wW lo c n).yld i H x H'->g x σ H' fun B H2=>tb { D with nx:=N,ct:=N,bk:=D.nx } B H2):=by
 refine⟨fun i m σ H=>m=n-i/\i<=n/\j i σ H,⟨n,by simp,x9 _,h0⟩,?_⟩;rintro i m σ H ⟨rfl,hi,p⟩;by_cases z:i<n
 ·refine .inr ⟨z,j (i+1),fun F H' J=>⟨n-(i+1),by omega,Z,z,J⟩,fun x H' y=>?_⟩;obtain⟨e,y⟩:=y;subst e y;exact I i σ _ z p
 ·have e:i=n:=by omega
  subst e;exact .inl ⟨xO _,hd σ H p⟩
def FW(K:xB)(a:Addr)(n:Nat):It:=
 ⟨fun i H=>i<n/\∃(xs:List V)(x:V),ba K H a xs/\xs[n-1-i]?=some x,fun i H x H'=>H'=H/\∀xs,ba K H a xs->xs[n-1-i]?=some x,fun i _=>n<=i⟩
theorem tW{K:xB}{tg:Expr}(a it:Addr)(n:Nat):zh P w K tg (FW K a n) [it] it (fun i h=>i<=n/\h.IsRevIter it a ((n:Int)-1-(i:Nat))) where
 mem:=by simp
 obj:=fun i h st b B=>by
  have e:b=it:=by simpa using B
  subst e;obtain⟨_,o,e,c,d⟩:=st;exact⟨o,e,fun v z=>by rw[d]at z;cases z⟩
 keep:=fun i h h' st k=>⟨st.1,st.2.at fun o e=>k it We o e⟩
 item:=by
  intro X J hw O hc i aZ s σ H E I hf st U;subst J hw O;obtain⟨G,xs,x,hq,hx⟩:=U;obtain⟨a8,rv,p,hz⟩:=I.list hq;obtain⟨u,hu,ru⟩:=rv.get hx;obtain⟨f0,f1,f2,f3,f4,f5⟩:=hf it We;obtain⟨_,j⟩:=st;have e1:(n:Int)-1-((i:Nat):Int)=((n-1-i:Nat):Int):=by omega
  rw[e1]at j;refine wpAny_pyNext_rev_item j p.isList (x:=u) (by simpa using hu) fun h' F sb=>?_;have e2:((n-1-i:Nat):Int)-1=(n:Int)-1-((i+1:Nat):Int):=by omega
  rw[e2]at F;have I1:Inv X aZ σ H { s with heap:=h' }:=I.turned (t':=s.toks) (fun b o B e=>(sb.2 b B).trans e) f0 f1 f3 f4 f5;obtain⟨o,e,c,d⟩:=id F;exact⟨u,rfl,yi (s:={ s with heap:=h' }) e c d Wa ⟨x,H,I1,ru,⟨rfl,fun ys hy=>by rw[I.cP hy hq];exact hx⟩,⟨G,F⟩,fun b B=>(hf b B).1⟩⟩
 done:=by
  intro X J hw O hc i aZ s σ H E I hf st U;subst J hw O;obtain⟨f0,f1,f2,f3,f4,f5⟩:=hf it We;obtain⟨G,j⟩:=st;have aa:n<=i:=U;have e1:(n:Int)-1-((i:Nat):Int) = -1:=by omega
  rw[e1]at j;exact wpAny_pyNext_rev_end (I.ok.hd hc) j fun h' eb=>⟨Z,I.turned (t':=s.toks) (fun b o B e=>eb b o B e) f0 f1 f3 f4 f5⟩
 self:=fun A i s Q E st h=>wpAny_pyIter_revIter st.2 h
inductive Au(K:xB)(R:It->Hp->Prop)(vs:List V)(H1:Hp):Prop
 |mk (a:Addr) (xs:List V):vs=[.ref a]->ba K H1 a xs->R (FW K a xs.length) H1->Au K R vs H1
def Kn(K:xB)(ta:TA):TI:=fun σ H R=>ta σ H (Au K R)
section
variable {tg:Expr}
theorem hW{e:Expr}{ta:TA}{p pos:Pos}(n:Gl X "reversed")(z:X.mg "reversed" = none)(B:PA X [e] ta) (F:starEach [e] X.env=[(false,eval e X.env)]:=by rfl):PI X tg (.Call (.Name "reversed" p) [e] [] pos) (Kn X.K ta):=by
 intro aZ s σ H R I h;refine Call_ (X8 I n z yz (PyProof.Rows.callWith_type1 (bz (B pos aZ s σ H _ I h) fun us G ⟨vs,H1,j,J,O⟩=>?_) F Z));obtain⟨a,xs,e,U,q⟩:=O;subst e;cases J with
 | cons r rr=>
  cases rr;cases r;obtain⟨a8,rv,p',hz⟩:=j.list U;have hl:=rv.length;have e1:((a8.toArray.size:Nat):Int)-1=(xs.length:Int)-1-((0:Nat):Int):=by simp only[xS];omega
  refine call_reversed_list p'.isList (wpAny_pyIter_revIter (l:=a) (i:=((a8.toArray.size:Nat):Int)-1) ⟨_,Wv _ Z,Z,Z⟩ ?_);refine z5 (tk:=G.toks) j _ (tW a _ xs.length) ⟨x9 _,?_⟩ q;rw[<-e1];exact⟨_,Wv _ Z,Z,Z⟩
end
def E4(x:Str):It:=⟨fun i _=>i<x.cps.size,fun i H v H'=>H'=H/\∃c,x.cps[i]?=some c/\v=.str ⟨#[c]⟩,fun i _=>x.cps.size<=i⟩
theorem gZ{K:xB}{tg:Expr}(it:Addr)(x:Str)(t:Tok)(ty:String)(j:ty = "str_ascii_iterator" \/ ty = "str_iterator") :
  zh P w K tg (E4 x) [it] it (fun i h=>h.IsStrIter it ty x t i) where
 mem:=by simp
 obj:=fun i h st b n=>by
  have e:b=it:=by simpa using n
  subst e;obtain⟨o,e,c,d⟩:=st;exact⟨o,e,fun v z=>by rw[d]at z;cases z⟩
 keep:=fun i h h' st k=>let ⟨o,ho,r⟩:=st;⟨o,k it We o ho,r⟩
 item:=by
  intro X U hw hK hc i aZ s σ H E I hf st hg;subst U hw hK;obtain⟨F,f1,f2,G,J,O⟩:=hf it We
  have W:Walks X.prog X.w X.A it [it] [it] x.cps.size (SignAt x) (fun i h=>h.IsStrIter it ty x t i):=by
   rcases j with e|e
   ·rw[e];exact Walks.strAscii (I.ok.hd hc) it x t
   ·rw[e];exact Walks.strWide (I.ok.hd hc) it x t
  have aa:["enumerate","zip","dict_itemiterator","dict_reverseitemiterator","odict_iterator","itertools.zip_longest","itertools.pairwise"].contains ty=false:=by
   rcases j with e|e
   ·rw[e];decide
   ·rw[e];decide
  refine W.item i s _ _ hg st fun v h' tk hv B kk=>?_;obtain⟨c,u,ab,rfl⟩:=hv;have I1:Inv X aZ σ H { s with heap:=h',toks:=tk }:=I.turned (fun b o n e=>kk b o (by simpa using n) e) F f1 G J O;obtain⟨oi,e,cc,dd⟩:=id B;exact⟨_,rfl,yi (s:={ s with heap:=h',toks:=tk }) e cc dd aa ⟨.str ⟨#[c]⟩,H,I1,⟨u,rfl⟩,⟨rfl,c,ab,rfl⟩,B,fun b n=>(hf b n).1⟩⟩
 done:=by
  intro X U hw hK hc i aZ s σ H E I hf st hg;subst U hw hK;obtain⟨F,f1,f2,G,J,O⟩:=hf it We;have hx:x.cps[i]?=none:=V4 hg;rcases j with e|e
  ·rw[e]at st;exact wpAny_pyNext_ascii_end (I.ok.hd hc) st hx fun h' eb=>⟨Z,I.turned (t':=s.toks) (fun b o n e=>eb b o n e) F f1 G J O⟩
  ·rw[e]at st;exact wpAny_pyNext_wide_end (I.ok.hd hc) st hx fun h' eb=>⟨Z,I.turned (t':=s.toks) (fun b o n e=>eb b o n e) F f1 G J O⟩
 self:=fun A i s Q E st h=>by
  rcases j with e|e
  ·rw[e]at st;exact wpAny_pyIter_striter_ascii st h
  ·rw[e]at st;exact wpAny_pyIter_striter_wide st h
def IB(te:TE):TI:=fun σ H R=>te σ H fun v H1=>∃x,v=.str x/\R (E4 x) H1
theorem AI{tg e:Expr}{te:TE}(B:PE X e te):PI X tg e (IB te):=by
 intro aZ s σ H R I h;refine bz (B aZ s σ H _ I h) fun v j F=>?_;obtain⟨y,H1,n,G,x,ex,q⟩:=F;subst ex;obtain⟨t,rfl⟩:=G;cases z:x.cps.all (· < 128)
 ·exact wpAny_pyIter_wide z (z5 (tk:=j.toks) n _ (gZ _ x t "str_iterator" (.inr Z)) ⟨_,Wv _ Z,Z,Z⟩ q)
 ·exact wpAny_pyIter_ascii z (z5 (tk:=j.toks) n _ (gZ _ x t "str_ascii_iterator" (.inl Z)) ⟨_,Wv _ Z,Z,Z⟩ q)
theorem nN{d:Addr}{o:Obj}{es:Array DictEntry}{ep:Nat}{Q:Value->Shared->Prop} (hd:(d==sysModules)=false) (n:s.heap.get? d=some o) (hc:o.ExactDict) (j:o.data=.dict es ep)
  (B:Q (.ref s.heap.objs.size) { s with heap:=s.heap.push { cls:=.type "dict_keyiterator",data:=.fields #[.ref d,.int 0 0,.int es.size 0,.int ep 0] } }) :
  wpAny (model prog w) A (pyIter (.ref d)) Q E s:=by
 have z:s.TypeIs (.ref d) "dict" := ⟨o,n,hc.1⟩;refine wpAny_pyIter_slot z F.slot_dict_iter (wpAny_call_entry F.slot_dict_iter z F.entry_dict_iter ?_ (F.args_dict_iter_1 _));unfold Builtin.«dict.__iter__»;refine wpAny_bind ?_;unfold Builtin.Dict.dictSlotNone;refine wpAny_bind (wpAny_notOrdered_dict z ?_);show wpAny _ _ (pure (Value.ref d)) _ _ s;refine wpAny_pure ?_;show wpAny _ _ (Builtin.Dict.showsAll d >>= _) _ _ s;unfold Builtin.Dict.showsAll;rw[Wh (by rw[hd];exact xW)];refine wpAny_bind (wpAny_pure ?_);refine wpAny_bind (wpAny_dictEntries n j ?_);refine wpAny_bind (wpAny_dictEpoch n j ?_);refine wpAny_bind (wpAny_newObj_type (wpAny_pure ⟨_,Z,"dict_keyiterator",_,⟨_,Wv _ Z,Z⟩,F.slot_dict_keyiterator_next.lookup,?_⟩));simpa [rawInt] using B
theorem yH{it d:Addr}{i n ep:Nat}{od:Obj}{es:Array DictEntry}{en:DictEntry}{Q:Option Value->Shared->Prop}(j:s.heap.IsKeyIter it d i n ep)(B:s.heap.get? d=some od)(G:od.data=.dict es ep)
  (hsz:es.size=n) (hx:es[i]?=some en) (hQ:∀h',h'.IsKeyIter it d (i+1) n ep->Heap.SameBut it s.heap h'->Q (some en.key) { s with heap:=h' }):wpAny (model prog w) A (pyNext (.ref it)) Q E s:=by
 obtain⟨o,O,hc,hd⟩:=id j;unfold pyNext
 refine wpAny_bind (wpAny_attempt (wpAny_callSpecial?_slot (name:=xE "__next__") j.typeIs F.slot_dict_keyiterator_next
  (wpAny_call_entry F.slot_dict_keyiterator_next j.typeIs F.entry_dict_keyiterator_next ?_ (F.args_dict_keyiterator_next_1 _))))
 refine wpAny_bind (wpAny_pure ?_);refine wpAny_bind ?_;refine wpAny_bind ?_;first|refine wpAny_bind (wpAny_typeNameOfWhole_keyiter j.typeIs (wpAny_pure ?_))|refine wpAny_bind (wpAny_typeNameOf_keyiter j.typeIs (wpAny_pure ?_))
 refine wpAny_bind (wpAny_fieldsOf O hd ?_);have I:Builtin.Dict_items.ownsTuple "dict_keyiterator" = false:=by decide
 rw[I,Wh xW];show wpAny _ _ (if(Value.ref d==Value.none)=true then _ else _) _ _ s;rw[Wh (show ¬((Value.ref d==Value.none)=true) from xW)];refine wpAny_bind (wpAny_pure ?_);refine wpAny_bind (wpAny_dictEntries B G ?_);rw[Wh (by rw[hsz];simp)];refine wpAny_bind (wpAny_pure ?_);refine wpAny_bind (wpAny_dictEpoch B G ?_);rw[Wh We];refine wpAny_pure ?_;obtain⟨J,U⟩:=Array.getElem?_eq_some_iff.mp hx;dsimp only;rw[Wh (by omega:¬(i:Int)<0),Uc,GZ J];refine wpAny_bind ?_;first|refine wpAny_bind (wpAny_typeNameOfWhole_keyiter j.typeIs (wpAny_pure ?_))|refine wpAny_bind (wpAny_typeNameOf_keyiter j.typeIs (wpAny_pure ?_))
 refine wpAny_bind (wpAny_isOneOf_keyiter j.typeIs ?_);show wpAny _ _ (setField (.ref it) 1 (rawInt ((i:Int)+1)) >>= _) _ _ s;refine wpAny_bind (wpAny_setField O hd We ?_)
 have z:(s.heap.update it (Obj.mapFields (·.setIfInBounds 1 (rawInt ((i:Int)+1))))).IsKeyIter it d (i+1) n ep:=
  ⟨_,Heap.get?_update_self _ O (Obj.isFreed_of_fields (Obj.data_mapFields hd _)),(Obj.cls_mapFields ..).trans hc,by rw[Obj.data_mapFields hd];simp[rawInt]⟩
 refine wpAny_bind (wpAny_holding ?_);refine wpAny_bind (wpAny_isOneOf_keyiter (s:={ s with heap:=s.heap.update it (Obj.mapFields (·.setIfInBounds 1 (rawInt ((i:Int)+1)))) }) z.typeIs ?_);show wpAny _ _ (pure es[i].key) _ _ _;rw[U];exact wpAny_pure (wpAny_pure ⟨_,rfl,wpAny_pure (hQ _ z (Heap.SameBut.update ..))⟩)
theorem jZ{it d:Addr}{i n ep:Nat}{O:Obj}{es:Array DictEntry}{Q:Option Value->Shared->Prop}(hh:A.handled=none)(j:s.heap.IsKeyIter it d i n ep)(z:s.heap.get? d=some O)(B:O.data=.dict es ep)
  (hsz:es.size=n) (J:n<=i) (hQ:∀h',Heap.ExtBut it s.heap h'->Q none { s with heap:=h' }):wpAny (model prog w) A (pyNext (.ref it)) Q E s:=by
 obtain⟨o,U,hc,hd⟩:=id j;unfold pyNext
 refine wpAny_bind (wpAny_attempt (wpAny_callSpecial?_slot (name:=xE "__next__") j.typeIs F.slot_dict_keyiterator_next
  (wpAny_call_entry F.slot_dict_keyiterator_next j.typeIs F.entry_dict_keyiterator_next ?_ (F.args_dict_keyiterator_next_1 _))))
 refine wpAny_bind (wpAny_pure ?_);refine wpAny_bind ?_;refine wpAny_bind ?_;first|refine wpAny_bind (wpAny_typeNameOfWhole_keyiter j.typeIs (wpAny_pure ?_))|refine wpAny_bind (wpAny_typeNameOf_keyiter j.typeIs (wpAny_pure ?_))
 refine wpAny_bind (wpAny_fieldsOf U hd ?_);have G:Builtin.Dict_items.ownsTuple "dict_keyiterator" = false:=by decide
 rw[G,Wh xW];show wpAny _ _ (if(Value.ref d==Value.none)=true then _ else _) _ _ s;rw[Wh (show ¬((Value.ref d==Value.none)=true) from xW)];refine wpAny_bind (wpAny_pure ?_);refine wpAny_bind (wpAny_dictEntries z B ?_);rw[Wh (by rw[hsz];simp)];refine wpAny_bind (wpAny_pure ?_);refine wpAny_bind (wpAny_dictEpoch z B ?_);rw[Wh We];refine wpAny_pure ?_;have I:es.size<=i:=by rw[hsz];exact J
 dsimp only;rw[Wh (by omega:¬(i:Int)<0),Uc,V4 I];refine wpAny_bind ?_;first|refine wpAny_bind (wpAny_typeNameOfWhole_keyiter j.typeIs (wpAny_pure ?_))|refine wpAny_bind (wpAny_typeNameOf_keyiter j.typeIs (wpAny_pure ?_))
 show wpAny _ _ (setField (.ref it) 0 .none >>= _) _ _ s;refine wpAny_bind (wpAny_setField U hd We ?_);show wpAny _ _ (newExc (.type "StopIteration") [] >>= _) _ _ _;refine wpAny_bind ?_;simp only[newExc,newTuple];refine wpAny_bind (wpAny_newObj_type ?_ (by size_fits));refine wpAny_bind (m:=firstArgMember _ _) (wpAny_of_eq (a:=Value.none) (by first|rfl|(simp only[firstArgMember];rfl)) ?_);refine wpAny_newObj_type ?_ (by size_fits);unfold raiseNew;refine wpAny_bind (wpAny_handled ?_);rw[show A.in1.handled=none from hh];refine wpAny_bind (wpAny_pure (wpAny_throw ?_));refine wpAny_bind (wpAny_isInstance (T := "StopIteration") (b:=true) ⟨_,Wv _ Z,Z⟩ isSubtype_stop ?_);exact wpAny_pure (hQ _ (((Heap.SameBut.update ..).extBut.push _).push _))
section
variable {d:Addr} {o:Obj}
end
section
variable {K:xB} {tg:Expr} {d:Addr} {o:Obj} {es:Array DictEntry} {ep:Nat}
end
section
variable {tg e:Expr} {td:TE} {dC eB:Pos}
end
def FD(K:xB)(a:Addr):It:=
 ⟨fun i H=>∃(xs:List V)(x:V),ba K H a xs/\xs[i]?=some x,fun i H v H'=>∃T x,v=.ref T/\H T=none/\H'=upd H T (.tup [.int (i:Nat),x])/\∀xs,ba K H a xs->xs[i]?=some x,fun i H=>∃xs:List V,ba K H a xs/\xs.length<=i⟩
theorem oT{K:xB}{O:List Expr}{kk:Nat}{dH:Pos}(a e it:Addr) :
  zh P w K (.Tuple O kk dH) (FD K a) [e,it] e (fun i h=>(∃j,IsEnum h e it ((i:Nat):Int) j)/\h.IsListIter it a i/\e≠it) where
 mem:=by simp
 obj:=fun i h st b B=>by
  obtain⟨⟨j,F⟩,⟨o,ho,hc,hd⟩,_⟩:=st;have e':b=e\/b=it:=by simpa using B
  rcases e' with z|z
  ·rw[z];exact⟨_,F,fun v q=>nomatch q⟩
  ·rw[z];exact⟨o,ho,fun v q=>by rw[hd]at q;cases q⟩
 keep:=fun i h h' st k=>let ⟨⟨j,F⟩,hi,n⟩:=st;⟨⟨j,k e We _ F⟩,hi.at fun o q=>k it We o q,n⟩
 item:=by
  intro X hP hw hK hc i aZ s σ H E I hf st hg;subst hP hw hK;obtain⟨⟨j,F⟩,G,n⟩:=st;obtain⟨xs,x,hq,hx⟩:=hg;obtain⟨a8,rv,p,hz⟩:=I.list hq;obtain⟨u,hu,ru⟩:=rv.get hx;have U:e<s.heap.objs.size:=Wu F;have ab:it<s.heap.objs.size:=by obtain⟨_,q,_⟩:=G;exact Wu q
  refine wpAny_pyNext_enum_item F G p.isList (x:=u) (by simpa using hu) n fun h' ho aa hT hsz hk=>?_;refine⟨_,Z,wpAny_letOwnedTupleGo_enum (s:={ s with heap:=h',toks:=s.toks+1 }) ho fun J ac sb=>?_⟩;have ad:J.get? s.heap.objs.size=some { cls:=.type "tuple",data:=.seq #[.int i s.toks,u] }:=(sb.2 _ (G9 U)).trans hT
  have af:Zh X.prog X.w (upd H s.heap.objs.size (.tup [.int (i:Nat),x])) J s.heap.objs.size (.tup [.int (i:Nat),x]):=
   ⟨by show 2<=sizeLine;decide,[.int i s.toks,u],.cons ⟨_,Z⟩ (.cons ru .nil),⟨_,ad,Z,_,Z⟩⟩
  have I1:Inv X aZ σ (upd H s.heap.objs.size (.tup [.int (i:Nat),x])) { s with heap:=J,toks:=s.toks+1 }:=
   I.dO (ch:=[e,it]) (fun b ob B q=>(sb.2 b (fun z=>B (by simp[z]))).trans (hk b ob (fun z=>B (by simp[z])) (fun z=>B (by simp[z])) q)) hf (xO _) af
  refine⟨.ref s.heap.objs.size,_,I1,Z,⟨_,x,Z,I.bp.fresh (xO _),Z,fun ys hy=>by rw[I.cP hy hq];exact hx⟩,⟨⟨u,?_⟩,aa.at fun o q=>(sb.2 it (Ne.symm n)).trans q,n⟩,fun b B=>?_⟩
  ·have e1:((i+1:Nat):Int)=(i:Int)+1:=by omega
   rw[e1];exact ac
  ·have ag:b<s.heap.objs.size:=by
    have e':b=e\/b=it:=by simpa using B
    rcases e' with z|z
    ·rw[z];exact U
    ·rw[z];exact ab
   rw[Qh (xY ag)];exact(hf b B).1
 done:=by intro X hP hw hK hc i aZ s σ H E I hf st hg;subst hP hw hK;obtain⟨⟨j,F⟩,G,n⟩:=st;obtain⟨xs,hq,hx⟩:=hg;obtain⟨a8,rv,p,hz⟩:=I.list hq;obtain⟨f0,f1,f2,f3,f4,f5⟩:=hf it We;have hl:=rv.length;exact wpAny_pyNext_enum_end (I.ok.hd hc) F G p.isList (by simp;omega) fun h' eb=>⟨Z,I.turned (t':=s.toks) (fun b o B q=>eb b o B q) f0 f1 f3 f4 f5⟩
 self:=fun A i s Q E st h=>let ⟨⟨_,F⟩,_⟩:=st;wpAny_pyIter_enum F h
inductive uL(K:xB)(R:It->Hp->Prop)(vs:List V)(H1:Hp):Prop
 |mk (a xs:_):vs=[.ref a]->ba K H1 a xs->R (FD K a) H1->uL K R vs H1
def FE(K:xB)(ta:TA):TI:=fun σ H R=>ta σ H (uL K R)
theorem Jr{e:Expr}{ta:TA}{p pos dH:Pos}{n:List Expr}{kk:Nat}(O:Gl X "enumerate")(U:X.mg "enumerate" = none)(ha:PA X [e] ta) (hs:starEach [e] X.env=[(false,eval e X.env)]:=by rfl) :
  PI X (.Tuple n kk dH) (.Call (.Name "enumerate" p) [e] [] pos) (FE X.K ta):=by
 intro aZ s σ H R I h;refine Call_ (X8 I O U boot_enumerate (PyProof.Rows.callWith_type1 (bz (ha pos aZ s σ H _ I h) fun us j ⟨vs,H1,F,r1,q1⟩=>?_) hs Z));obtain⟨a,xs,ex,hq,q⟩:=q1;subst ex;cases r1 with
 | cons r rr=>
  cases rr;cases r;obtain⟨a8,rv,p',hz⟩:=F.list hq;refine call_enumerate_list p'.isList fun h' J G hsz hk=>wpAny_pyIter_enum J ?_;have I2:Inv X aZ σ H1 { j with heap:=h' }:=F.kept (t':=j.toks) hk;refine⟨j.heap.objs.size+1,[j.heap.objs.size+1,j.heap.objs.size],_,_,H1,rfl,I2,oT a (j.heap.objs.size+1) j.heap.objs.size,⟨⟨.none,J⟩,G,Qbh _⟩,fun b hb=>?_,q⟩;have e':b=j.heap.objs.size+1\/b=j.heap.objs.size:=by simpa using hb
  have B:j.heap.objs.size<=b:=by
   rcases e' with z|z
   ·rw[z];exact UU _ _
   ·rw[z];exact xO _
  exact F.fv B (F.bp.fresh B)
theorem nD:bootBuiltins "zip" = some (.type "zip"):=by decide +kernel
def EK(K:xB)(a b:Addr):It:=
 ⟨fun i H=>∃(xs ys:List V)(x y:V),ba K H a xs/\ba K H b ys/\xs[i]?=some x/\ys[i]?=some y,
  fun i H v H'=>∃T x y,v=.ref T/\H T=none/\H'=upd H T (.tup [x,y])/\(∀xs,ba K H a xs->xs[i]?=some x)/\∀ys,ba K H b ys->ys[i]?=some y,
  fun i H=>∃xs ys:List V,ba K H a xs/\ba K H b ys/\(xs.length<=i\/ys.length<=i)⟩
theorem uz{K:xB}{ac:List Expr}{kk:Nat}{dH:Pos}{a b z TI TO i1 G:Addr}(D:ZipApart z TI TO i1 G a b) :
  zh P w K (.Tuple ac kk dH) (EK K a b) [z,TI,TO,i1,G] z (fun i h=>IsZip h z TI TO .none/\IsPair h TI (.ref i1) (.ref G)/\(∃x y,IsPair h TO x y)/\h.IsListIter i1 a i/\h.IsListIter G b i) where
 mem:=by simp
 obj:=fun i h st c hc=>by
  obtain⟨hz,j,⟨x,y,n⟩,⟨o1,e1,_,d1⟩,⟨o2,e2,_,d2⟩⟩:=st;have e':c=z\/c=TI\/c=TO\/c=i1\/c=G:=by simpa using hc
  rcases e' with q|q|q|q|q
  ·rw[q];exact⟨_,hz,fun v q=>nomatch q⟩
  ·rw[q];exact⟨_,j,fun v q=>nomatch q⟩
  ·rw[q];exact⟨_,n,fun v q=>nomatch q⟩
  ·rw[q];exact⟨o1,e1,fun v q=>by rw[d1]at q;cases q⟩
  ·rw[q];exact⟨o2,e2,fun v q=>by rw[d2]at q;cases q⟩
 keep:=fun i h h' st k=>by
  obtain⟨hz,j,⟨x,y,n⟩,h1,h2⟩:=st;exact⟨k z We _ hz,k TI We _ j,⟨x,y,k TO We _ n⟩,h1.at fun o q=>k i1 We o q,h2.at fun o q=>k G We o q⟩
 item:=by
  intro X hP hw hK hc i aZ s σ H E I hf st hg;subst hP hw hK;obtain⟨hz,j,⟨x0,y0,n⟩,h1,h2⟩:=st;obtain⟨xs,ys,x,y,J,O,hx,hy⟩:=hg;obtain⟨a8,rv,p,_⟩:=I.list J;obtain⟨U,aa,p2,_⟩:=I.list O;obtain⟨u,hu,ru⟩:=rv.get hx;obtain⟨u2,ah,ai⟩:=aa.get hy;have ad:z<s.heap.objs.size:=Wu hz;refine wpAny_pyNext_zip_item D hz j n h1 h2 p.isList p2.isList (x:=u) (y:=u2) (by simpa using hu) (by simpa using ah) fun h' z' aj ak an hT hsz hk=>?_;refine⟨_,Z,wpAny_letOwnedTupleGo_zip (s:={ s with heap:=h' }) z' fun ab ao sb=>?_⟩;have aq:ab.get? s.heap.objs.size=some { cls:=.type "tuple",data:=.seq #[u,u2] }:=(sb.2 _ (G9 ad)).trans hT
  have au:Zh X.prog X.w (upd H s.heap.objs.size (.tup [x,y])) ab s.heap.objs.size (.tup [x,y]):=
   ⟨by show 2<=sizeLine;decide,[u,u2],.cons ru (.cons ai .nil),⟨_,aq,Z,_,Z⟩⟩
  have I1:Inv X aZ σ (upd H s.heap.objs.size (.tup [x,y])) { s with heap:=ab }:=
   I.dO (t':=s.toks) (ch:=[z,TI,TO,i1,G]) (fun c o F q=>(sb.2 c (fun B=>F (by simp[B]))).trans (hk c o (fun B=>F (by simp[B])) (fun B=>F (by simp[B])) (fun B=>F (by simp[B])) (fun B=>F (by simp[B])) q)) hf (xO _) au
  refine⟨.ref s.heap.objs.size,_,I1,Z,⟨_,x,y,Z,I.bp.fresh (xO _),Z,fun l hl=>by rw[I.cP hl J];exact hx,fun l hl=>by rw[I.cP hl O];exact hy⟩,⟨ao,?_,⟨u,u2,?_⟩,?_,?_⟩,fun c af=>?_⟩
  ·exact(sb.2 _ D.TIz).trans (hk _ _ D.TIz D.TITO D.TIi1 D.TIi2 j)
  ·exact(sb.2 _ D.TOz).trans aj
  ·exact ak.at fun o q=>(sb.2 _ D.i1z).trans q
  ·exact an.at fun o q=>(sb.2 _ D.i2z).trans q
  ·have av:c<s.heap.objs.size:=by
    have e':c=z\/c=TI\/c=TO\/c=i1\/c=G:=by simpa using af
    rcases e' with q|q|q|q|q
    ·rw[q];exact ad
    ·rw[q];exact Wu j
    ·rw[q];exact Wu n
    ·rw[q];obtain⟨_,e1,_⟩:=h1;exact Wu e1
    ·rw[q];obtain⟨_,e2,_⟩:=h2;exact Wu e2
   rw[Qh (xY av)];exact(hf c af).1
 done:=by
  intro X hP hw hK hc i aZ s σ H E I hf st hg;subst hP hw hK;obtain⟨hz,j,⟨x0,y0,n⟩,h1,h2⟩:=st;obtain⟨xs,ys,J,O,ag⟩:=hg;obtain⟨a8,rv,p,_⟩:=I.list J;obtain⟨U,aa,p2,_⟩:=I.list O;have l1:=rv.length;have l2:=aa.length
  have he:a8.toArray[i]?=none\/U.toArray[i]?=none:=by
   rcases ag with q|q
   ·exact .inl (by simp;omega)
   ·exact .inr (by simp;omega)
  exact wpAny_pyNext_zip_end (I.ok.hd hc) D hz j n h1 h2 p.isList p2.isList he fun h' hk=>⟨Z,I.u9 (t':=s.toks) (ch:=[z,TI,TO,i1,G]) (fun c o F q=>
   hk c o (fun B=>F (by simp[B])) (fun B=>F (by simp[B])) (fun B=>F (by simp[B])) (fun B=>F (by simp[B])) q) hf⟩
 self:=fun A i s Q E st h=>wpAny_pyIter_zip st.1 h
def Iy(K:xB)(ta:TA):TI:=fun σ H R=>ta σ H fun vs H1=>∃a b xs ys,vs=[.ref a,.ref b]/\ba K H1 a xs/\ba K H1 b ys/\R (EK K a b) H1
theorem rQ{e n:Expr}{ta:TA}{p pos dH:Pos}{B:List Expr}{kk:Nat}(hg:Gl X "zip")(hm:X.mg "zip" = none)(ha:PA X [e,n] ta)
  (hs:starEach [e,n] X.env=(false,eval e X.env)::starEach [n] X.env:=by rfl) (J:(backTo pos (starEach [n] X.env)).any (·.1)=false:=by rfl) :
  PI X (.Tuple B kk dH) (.Call (.Name "zip" p) [e,n] [] pos) (Iy X.K ta):=by
 intro aZ s σ H R I h;refine Call_ (X8 I hg hm nD (PyProof.Rows.callWith_type1 (bz (ha pos aZ s σ H _ I h) fun us j ⟨vs,H1,F,r1,q1⟩=>?_) hs J));obtain⟨a,b,xs,ys,ex,O,U,q⟩:=q1;subst ex;cases r1 with
 | cons r rr=>
  cases rr with
  | cons r' rr=>
   cases rr;cases r;cases r';obtain⟨a8,rv,p1,_⟩:=F.list O;obtain⟨ad,af,p2,_⟩:=F.list U;have la:a<j.heap.objs.size:=p1.lt;have lb:b<j.heap.objs.size:=p2.lt;refine call_zip_2 p1.isList p2.isList fun h' hz aa ab h1 h2 hsz hk=>wpAny_pyIter_zip hz ?_;have I2:Inv X aZ σ H1 { j with heap:=h' }:=F.kept (t':=j.toks) hk;refine⟨j.heap.objs.size+4,[j.heap.objs.size+4,j.heap.objs.size+2,j.heap.objs.size+3,j.heap.objs.size,j.heap.objs.size+1],_,_,H1,rfl,I2,uz (PySem.W.ktu_apart j.heap.objs.size a b la lb),⟨hz,aa,⟨_,_,ab⟩,h1,h2⟩,fun c ac=>?_,q⟩;have e':c=j.heap.objs.size+4\/c=j.heap.objs.size+2\/c=j.heap.objs.size+3\/c=j.heap.objs.size\/c=j.heap.objs.size+1:=by simpa using ac
   have G:j.heap.objs.size<=c:=by
    rcases e' with z|z|z|z|z
    ·rw[z];exact UU _ _
    ·rw[z];exact UU _ _
    ·rw[z];exact UU _ _
    ·rw[z];exact xO _
    ·rw[z];exact UU _ _
   exact F.fv G (F.bp.fresh G)
end L2
section
namespace Bits
open PySem PyProof.Rows
end Bits
end
section
namespace TL
open PySem PySem.Builtin PySem.Builtin.Str PySem.StrLaws
abbrev tl(x:Str):List Nat:=x.cps.toList
theorem hG(s:String):tl (xE s)=s.toList.map Char.toNat:=PyProof.Rows.signs_ofString s
theorem lM{x y:Str} (h:y.cps.all (· < 256)=true):¬Builtin.Str.strKind x<Builtin.Str.strKind y:=by
 have e:Builtin.Str.strKind y=1:=by unfold PySem.Builtin.Str.strKind;rw[Wi h]
 rw[e];unfold PySem.Builtin.Str.strKind;split
 ·omega
 ·split<;>omega
end TL
end
namespace L2
open PySem PySem.Spec PyProof.Rows
section
variable {Q:VK}
end
section
variable {o e:Expr} {to te:TE}
end
end L2
namespace Att
open PySem PySem.W PySem.Calls PyProof.Rows
section
variable {K:Frag}
end
end Att
namespace L2
open PySem PySem.Spec PyProof.Rows
abbrev bD:oq:=fun _ _ _ _ _ _=>False
abbrev E0:XK:=fun _ _ _=>False
theorem Zc:J0 bD X E0:=fun _ _ _ _ _ _ _ h=>h.elim
structure bG(K:xB)(x qual:Str)(st:Stmt)(f:Addr)(fd:FuncData):Prop where
 ex:∃(oc:Value) (od:Option Addr) (kV doc pm:Value) (an:Option Addr) (K5 ct:Value) (Lh:Array (Option Value)),
  fd=Ua x qual (bZ st) (bR st) (a6 st) .none kV doc pm an K5 ct/\K.lookup f=some ⟨oc,od,.func fd,Lh⟩/\Vj K K5 qual=true
 kp:GU K (.ref f)=true
section
variable {K:xB} {mg:Str->Option Value} {base:Heap}
theorem bG.ok{x j:Str}{st:Stmt}{f:Addr}{fd:FuncData}{N ps:List Str}{k:Nat}{sp:Sp}(F:bG K x j st f fd) (S:a7 N ps (a6 st)) (len:∀vs H Q E,sp vs H Q E->vs.length=ps.length)
  (z:∀(n:Value)(A:Around)(outer:List Env)(s:Shared)(H:Hp)(vs:List V)(Q:VK)(E:XK),ZJ k (A.deeper (envOfC j (a6 st) s.heap.objs.size f n))->sp vs H Q E->
   ∃t,mr (kI bD P w K mg base N j (a6 st) f n A outer s H E).EG (bR st) t/\t { nx:=fun _ H'=>Q .bQ H',rt:=Q } (YR N vs) H):QC P w K mg base bD (k+1) f fd ps sp:=by
 obtain⟨U,od,kV,I,pm,an,n,ct,J,rfl,O,B⟩:=F.ex;refine FG O B S len fun A outer s H vs Q E hr G=>?_;obtain⟨t,h,q⟩:=z n A outer s H vs Q E hr G;exact⟨t,h.EG,q⟩
theorem bG.binds{x j:Str}{st:Stmt}{f:Addr}{fd:FuncData}{ps:List Str}(F:bG K x j st f fd)
  (h:∀(kV n B:Value)(G:Option Addr)(z ct:Value)(us:List Value),us.length=ps.length->bindArgs (Ua x j (bZ st) (bR st) (a6 st) .none kV n B G z ct) ⟨us,[]⟩=pure (ps.zip us)):Xu K fd ps []:=by
 obtain⟨O,U,kV,n,B,G,z,ct,I,rfl,lk,J⟩:=F.ex;exact .all (h kV n B G z ct)
theorem yl{x j:Str}{st:Stmt}{f:Addr}{I:Value}{J F:Option Addr} {B:Array (Option Value)} {kV z G n ct:Value} (l:K.lookup f=some ⟨I,J,.func (Ua x j (bZ st) (bR st) (a6 st) .none kV z G F n ct),B⟩)
  (c:Vj K n j=true) (k:GU K (.ref f)=true):bG K x j st f (Ua x j (bZ st) (bR st) (a6 st) .none kV z G F n ct):=⟨⟨I,J,kV,z,G,F,n,ct,B,Z,l,c⟩,k⟩
end
theorem Jd{k:Nat}(hr:ZJ k A):A.units+1<cLine:=xZ (Nat.add_le_add_left (by decide:1<=64) _) hr.units
theorem pv(i:Nat)(n:X.N[i]?=some x:=by rfl) (z:vJ X.env.scope x:=by first|exact G4 rfl|exact UH (G4 Z)|exact UH (UH Z)) (hd:(x==("__debug__" : Str))=false:=by decide)
  (j:(x==("__classdict__" : Str))=false:=by decide):PE X (.Name x pos) (ZH i):=jV n z hd j
theorem oH:qw X (.builtin "len") (fun xs H Q=>∃a a',xs=[V.ref a]/\H a=some (.dK a')/\Q (.int a'.length) H):=by intro aZ s σ H xs us Q I r h;obtain⟨a,a',rfl,j,q⟩:=h;obtain⟨u,rfl,n⟩:=vals1 r;cases n;exact Ff I (.inl j) fun t s' z=>⟨.int a'.length,H,z,⟨t,Z⟩,q⟩
theorem Jc{A B:Prop}(h:B):if false=true then A else B:=by rw[Wh xW];exact h
theorem ZG{A B:Prop}(h:A):if true=true then A else B:=by rw[Wi Z];exact h
theorem Qz{c A B:Prop} [Decidable c] (h1:c->A) (h2:¬c->B):if c then A else B:=by
 by_cases h:c
 ·rw[Wi h];exact h1 h
 ·rw[Wh h];exact h2 h
def Qn(H H':Hp):Prop:=∀b o,H b=some o->H' b=some o
theorem Qn.refl(H:Hp):Qn H H:=fun _ _ h=>h
theorem Qn.trans{H H1 H2:Hp}(a:Qn H H1)(b:Qn H1 H2):Qn H H2:=fun c o h=>b c o (a c o h)
theorem Qn.free{H H':Hp}(e:Qn H H'){l:Addr}(h:H' l=Option.none):H l=Option.none:=by
 cases q:H l with
 |none=>rfl
 | some o=>
  rw[e l o q]at h;cases h
theorem Qn.seq{K:xB}{H H':Hp}{a:Addr}(e:Qn H H')(h:ba K H a xs):ba K H' a xs:=by
 rcases h with(h|⟨o,h⟩)|h
 ·exact .inl (.inl (e _ _ h))
 ·exact .inl (.inr ⟨o,e _ _ h⟩)
 ·exact .inr h
section
variable {κ:Type} [DecidableEq κ]
theorem mG:∀{l:List κ} {k:κ},l.Nodup->¬k∈l->(l++[k]).Nodup
 |[],k,_,_=>by simp
 | a::r,k,h,hk=>by
  obtain⟨h1,h2⟩:=List.nodup_cons.mp h;show(a::(r++[k])).Nodup;refine List.nodup_cons.mpr ⟨fun m=>?_,mG h2 fun m=>hk (List.mem_cons.mpr (UH m))⟩;rcases List.mem_append.mp m with q|q
  ·exact h1 q
  ·exact hk (List.mem_cons.mpr (G4 (List.mem_singleton.mp q).symm))
end
theorem at_of{z:Int}{j:Nat}{v:V} (e:z=(j:Int)) (h:xs[j]?=some v):Cr xs z=some v:=by rw[e];exact Qm h
theorem EX{α:Type}{l:List α}(n:l.Nodup){i j:Nat}{x:α}(a:l[i]?=some x)(b:l[j]?=some x):i=j:=by obtain⟨h1,z⟩:=List.getElem?_eq_some_iff.mp a;obtain⟨h2,B⟩:=List.getElem?_eq_some_iff.mp b;exact(V9 n).mp (z.trans B.symm)
theorem Qn.made{H H1:Hp}{x dx C:Addr}(nx:H x=Option.none)(nd:H dx=Option.none) (k:∀b o,(upd (upd H dx (.own x)) x (.ins C dx [])) b=some o->b≠x->H1 b=some o):Qn H H1:=fun b o e=>
 k b o (by rw[Qh (Qg e nx),Qh (Qg e nd)];exact e) (Qg e nx)
end L2
section
namespace L2
open PySem PySem.Spec PyProof.Rows
open PySem.W (WData Codec OpenSpec Well WellAll ReadsW ReadsAllW)
mutual
inductive Dw(K:xB)(H:Hp):V->WData->Prop
 |bQ:Dw K H .bQ .none
 |bl (b:Bool):Dw K H (.bl b) (.bool b)
 |int (i:Int):Dw K H (.int i) (.int i)
 |str (x:Str):Dw K H (.str x) (.str x)
 |byt (b:Array UInt8):Dw K H (.byt b) (.bytes b.toList)
 |lst {a:Addr} {xs:List V} {ds:List WData}:ba K H a xs->YK K H xs ds->Dw K H (.ref a) (.list ds)
 |tup {a:Addr} {xs:List V} {ds:List WData}:bY K H a xs->YK K H xs ds->Dw K H (.ref a) (.tuple ds)
inductive YK(K:xB)(H:Hp):List V->List WData->Prop
 |nil:YK K H [] []
 |cons {v:V} {vs:List V} {d:WData} {ds:List WData}:Dw K H v d->YK K H vs ds->YK K H (v::vs) (d::ds)
end
theorem lB{K:xB}:∀ns:List Int,YK K H (ns.map V.int) (ns.map WData.int)
 |[]=>.nil
 |n::r=>.cons (.int n) (lB r)
theorem mn{K:xB}:∀(ns:List Int)(xs:List V),YK K H xs (ns.map WData.int)->xs=ns.map V.int
 | [],xs,h=>by
  cases h;rfl
 | n::r,xs,h=>by
  cases h with
  | cons h1 h2=>
   cases h1;rw[mn r _ h2]<;>rfl
section
variable {K:xB} {h:Heap} {R:PySem.W.WRecords} {cl:Str->Option Addr}
theorem Bj{a:Addr}(bp:dg P w H h)(z:K.In h)(q:ba K H a xs):∃(a8:List Value)(o:Obj)(n:Nat),QH xs a8/\h.get? a=some o/\o.cls=.type "list" /\ o.data=.seq a8.toArray n:=by
 rcases q with q|⟨o,a8,n,e,hc,_,hd,_,j⟩
 ·obtain⟨_,a8,n,j,e⟩:=(show Zh P w H h a (.lst xs) from q.ok bp);exact⟨a8,_,n,j,e,Z,Z⟩
 ·exact⟨a8.toList,o,n,j,z _ _ e,hc,by simp[hd]⟩
theorem BM{a:Addr}(bp:dg P w H h)(z:K.In h)(q:bY K H a xs):∃(a8:List Value)(o:Obj)(n:Nat),QH xs a8/\h.get? a=some o/\o.cls=.type "tuple" /\ o.data=.seq a8.toArray n:=by
 rcases q with q|⟨o,a8,n,e,hc,hd,_,j⟩
 ·obtain⟨_,a8,j,o,e,hc,n,hd⟩:=(show Zh P w H h a (.tup xs) from q.ok bp);exact⟨a8,o,n,j,e,hc,hd⟩
 ·exact⟨a8.toList,o,n,j,z _ _ e,hc,by simp[hd]⟩
mutual
theorem Dw.reads(bp:dg P w H h)(j:K.In h):∀(d:WData)(v:V)(u:Value),Dw K H v d->QR v u->∃as,ReadsW R cl h u d as
 | .none,_,_,x,r=>by
  cases x;cases r;exact⟨_,ReadsW.none⟩
 | .bool b,_,_,x,r=>by
  cases x;cases r;exact⟨_,ReadsW.bool b⟩
 | .int i,_,_,x,r=>by
  cases x;obtain⟨t,rfl⟩:=r;exact⟨_,ReadsW.int i t⟩
 | .str s,_,_,x,r=>by
  cases x;obtain⟨t,rfl⟩:=r;exact⟨_,ReadsW.str s t⟩
 | .bytes b,_,_,x,r=>by
  cases x;obtain⟨t,rfl⟩:=r;exact⟨_,ReadsW.bytes _ t⟩
 | .list ds,_,_,x,r=>by
  cases x with
  | lst z B=>
   cases r;obtain⟨a8,o,n,F,G,hc,hd⟩:=Bj bp j z;obtain⟨as,hr⟩:=Dw.readsAll bp j ds _ a8 B F;exact⟨_,ReadsW.list G hc hd hr⟩
 | .tuple ds,_,_,x,r=>by
  cases x with
  | tup z B=>
   cases r;obtain⟨a8,o,n,F,G,hc,hd⟩:=BM bp j z;obtain⟨as,hr⟩:=Dw.readsAll bp j ds _ a8 B F;exact⟨_,ReadsW.tuple G hc hd hr⟩
 |.float _,_,_,x,_=>by cases x
 |.dict _,_,_,x,_=>by cases x
 |.bytearray _,_,_,x,_=>by cases x
 |.set _,_,_,x,_=>by cases x
 |.frozenset _,_,_,x,_=>by cases x
 |.obj _ _,_,_,x,_=>by cases x
theorem Dw.readsAll(bp:dg P w H h)(j:K.In h):∀(ds:List WData)(vs:List V)(us:List Value),YK K H vs ds->QH vs us->∃as,ReadsAllW R cl h us ds as
 | [],_,_,x,r=>by
  cases x;cases r;exact⟨_,ReadsAllW.nil⟩
 | d::ds,_,_,x,r=>by
  cases x with
  | cons h1 h2=>
   cases r with
   | cons n z=>
    obtain⟨as,B⟩:=Dw.reads bp j d _ _ h1 n;obtain⟨bs,F⟩:=Dw.readsAll bp j ds _ _ h2 z;exact⟨_,ReadsAllW.cons B F⟩
end
end
mutual
def l6:WData->Bool
 |.none=>true
 |.bool _=>true
 |.int _=>true
 |.str _=>true
 |.bytes _=>true
 |.list xs=>za xs
 |.tuple xs=>za xs
 |_=>false
def za:List WData->Bool
 |[]=>true
 |x::r=>l6 x&&za r
end
theorem gJ{α:Type}{f:α->WData} (h:∀a,l6 (f a)=true):∀l:List α,za (l.map f)=true
 |[]=>rfl
 | x::r=>by
  show(l6 (f x)&&za (r.map f))=true;rw[h x,gJ h r]<;>rfl
theorem Y4:∀(c:Codec)(a:c.denote),l6 (c.enc a)=true
 |.unit,_=>rfl
 |.bool,_=>rfl
 |.int _ _,_=>rfl
 |.nat _ _,_=>rfl
 |.u8,_=>rfl
 |.bytes _ _,_=>rfl
 |.text _ _ _ _,_=>rfl
 |.list _ _ c,a=>gJ (fun x=>Y4 c x) a
 | .pair c d,a=>by
  show(l6 (c.enc a.1)&&(l6 (d.enc a.2)&&true))=true;rw[Y4 c a.1,Y4 d a.2]<;>rfl
 | .triple c d e,a=>by
  show(l6 (c.enc a.1)&&(l6 (d.enc a.2.1)&&(l6 (e.enc a.2.2)&&true)))=true;rw[Y4 c a.1,Y4 d a.2.1,Y4 e a.2.2]<;>rfl
 |.option c,none=>rfl
 |.option c,some x=>Y4 c x
theorem ja:∀(j:List Codec)(a:Codec.denoteAll j),za (Codec.encAll j a)=true
 |[],_=>rfl
 | c::j,a=>by
  show(l6 (c.enc a.1)&&za (Codec.encAll j a.2))=true;rw[Y4 c a.1,ja j a.2]<;>rfl
theorem JK:∀{xs:List WData} {d:WData},d∈xs->d.weight<=WData.weightAll xs
 |[],d,h=>Wm h We
 | x::r,d,h=>by
  show d.weight<=x.weight+1+WData.weightAll r;rcases List.mem_cons.mp h with e|m
  ·rw[e];omega
  ·have z:=JK m;omega
def toV:Value->V
 |.none=>.bQ
 |.bool b=>.bl b
 |.int i _=>.int i
 |.str x _=>.str x
 |.bytes b _=>.byt b
 |.ref a=>.ref a
 |_=>.bQ
def oQ(A:List Addr):Value->Prop
 |.none=>True
 |.bool _=>True
 |.int _ _=>True
 |.str _ _=>True
 |.bytes _ _=>True
 |.ref a=>a∈A
 |_=>False
theorem oQ.mono{A B:List Addr}(h:∀a∈A,a∈B):∀{u:Value},oQ A u->oQ B u:=fun {u} x=>by
 cases u with
 |ref a=>exact h a x
 |none=>trivial
 |bool b=>trivial
 |int i t=>trivial
 |str s t=>trivial
 |bytes b t=>trivial
 |_=>exact False.elim x
theorem p8{A:List Addr}(x:oQ A u):QR (toV u) u:=by
 cases u with
 |ref a=>rfl
 |none=>rfl
 |bool b=>rfl
 |int i t=>exact⟨t,Z⟩
 |str s t=>exact⟨t,Z⟩
 |bytes b t=>exact⟨t,Z⟩
 |_=>exact False.elim x
theorem Yd{A:List Addr}:∀{vs:List Value},(∀u∈vs,oQ A u)->QH (vs.map toV) vs
 |[],_=>.nil
 |u::r,h=>.cons (p8 (h u (Gn ..))) (Yd fun x j=>h x (xT _ j))
def YL(h:Heap)(A:List Addr)(a:Addr):Prop:=∃vs:List Value,vs.length<=sizeLine/\(∀u∈vs,oQ A u)/\
 (h.get? a=some { cls:=.type "list",data:=.seq vs.toArray }\/h.get? a=some { cls:=.type "tuple",data:=.seq vs.toArray })
theorem YL.mono{h:Heap}{A B:List Addr}{a:Addr}(k:∀a∈A,a∈B)(x:YL h A a):YL h B a:=by obtain⟨vs,h1,h2,j⟩:=x;exact⟨vs,h1,fun u n=>(h2 u n).mono k,j⟩
theorem XV{P:Params}{h:Heap}:∀{vs:List Value} {ds:List WData},WellAll P h vs ds->vs.length=ds.length
 |_,_,.nil=>rfl
 | _,_,.cons _ b=>by
  show _+1=_+1;rw[XV b]
theorem yN{P:Params}{h:Heap}{v:Value}{ds:List WData} (x:Well P h v (.list ds)):∃(a:Addr)(vs:List Value),v=.ref a/\h.get? a=some { cls:=.type "list",data:=.seq vs.toArray }/\WellAll P h vs ds:=by
 cases x with
 |list n j=>exact⟨_,_,Z,n,j⟩
theorem zE{P:Params}{h:Heap}{v:Value}{ds:List WData} (x:Well P h v (.tuple ds)):∃(a:Addr)(vs:List Value),v=.ref a/\h.get? a=some { cls:=.type "tuple",data:=.seq vs.toArray }/\WellAll P h vs ds:=by
 cases x with
 |tuple n j=>exact⟨_,_,Z,n,j⟩
theorem yO{P:Params}{h:Heap}{d:WData}{ds:List WData} (x:WellAll P h us (d::ds)):∃(v:Value)(vs:List Value),us=v::vs/\Well P h v d/\WellAll P h vs ds:=by
 cases x with
 |cons a b=>exact⟨_,_,Z,a,b⟩
theorem mD{n:Nat}(h:n<=1048576):n<=sizeLine:=xM h Wa
section
variable {P:Params} {h:Heap}
mutual
theorem uf:∀(d:WData)(v:Value),Well P h v d->l6 d=true->d.weight<=1048576->∃A:List Addr,oQ A v/\∀a∈A,YL h A a
 | .none,_,x,_,_=>by
  cases x;exact⟨[],trivial,fun a m=>Wm m We⟩
 | .bool b,_,x,_,_=>by
  cases x;exact⟨[],trivial,fun a m=>Wm m We⟩
 | .int i,_,x,_,_=>by
  cases x;exact⟨[],trivial,fun a m=>Wm m We⟩
 | .str s,_,x,_,_=>by
  cases x;exact⟨[],trivial,fun a m=>Wm m We⟩
 | .bytes b,_,x,_,_=>by
  cases x;exact⟨[],trivial,fun a m=>Wm m We⟩
 | .list ds,_,x,p,z=>by
  obtain⟨a,vs,rfl,F,j⟩:=yN x;have B:WData.weightAll ds<=1048576:=z;obtain⟨A,h1,h2⟩:=qp ds _ j p fun d hd=>xM (JK hd) B;have k:∀b∈A,b∈a::A:=fun b n=>xT _ n;refine⟨a::A,Gn ..,fun b n=>?_⟩;rcases List.mem_cons.mp n with e|m
  ·rw[e];exact⟨vs,mD (by rw[XV j];exact xM (Qao ds) B),fun u G=>(h1 u G).mono k,.inl F⟩
  ·exact(h2 b m).mono k
 | .tuple ds,_,x,p,z=>by
  obtain⟨a,vs,rfl,F,j⟩:=zE x;have B:WData.weightAll ds<=1048576:=z;obtain⟨A,h1,h2⟩:=qp ds _ j p fun d hd=>xM (JK hd) B;have k:∀b∈A,b∈a::A:=fun b n=>xT _ n;refine⟨a::A,Gn ..,fun b n=>?_⟩;rcases List.mem_cons.mp n with e|m
  ·rw[e];exact⟨vs,mD (by rw[XV j];exact xM (Qao ds) B),fun u G=>(h1 u G).mono k,.inr F⟩
  ·exact(h2 b m).mono k
 |.float _,_,_,p,_=>GJ (show false=true from p)
 |.dict _,_,_,p,_=>GJ (show false=true from p)
 |.bytearray _,_,_,p,_=>GJ (show false=true from p)
 |.set _,_,_,p,_=>GJ (show false=true from p)
 |.frozenset _,_,_,p,_=>GJ (show false=true from p)
 |.obj _ _,_,_,p,_=>GJ (show false=true from p)
theorem qp:∀(ds:List WData)(vs:List Value),WellAll P h vs ds->za ds=true->(∀d∈ds,d.weight<=1048576)->∃A:List Addr,(∀u∈vs,oQ A u)/\∀a∈A,YL h A a
 | [],_,x,_,_=>by
  cases x;exact⟨[],fun u m=>Wm m We,fun a m=>Wm m We⟩
 | d::ds,_,x,p,z=>by
  obtain⟨v,vs,rfl,x1,G⟩:=yO x;have q:l6 d=true/\za ds=true:=Bool.and_eq_true_iff.mp p;obtain⟨A,I,J⟩:=uf d v x1 q.1 (z d (Gn ..));obtain⟨B,O,U⟩:=qp ds vs G q.2 fun e he=>z e (xT _ he);have n:∀b∈A,b∈A++B:=fun b j=>List.mem_append.mpr (.inl j);have F:∀b∈B,b∈A++B:=fun b j=>List.mem_append.mpr (.inr j);refine⟨A++B,fun u hu=>?_,fun b j=>?_⟩
  ·rcases List.mem_cons.mp hu with e | m
   ·rw[e];exact I.mono n
   ·exact(O u m).mono F
  ·rcases List.mem_append.mp j with m | m
   ·exact(J b m).mono n
   ·exact(U b m).mono F
end
end
def vm(o:Obj):Option HO:=match o.data with
 |.seq vs _=>if(o.cls==Value.type "list")=true then some (.frz o (.lst (vs.toList.map toV))) else some (.frz o (.tup (vs.toList.map toV)))
 |_=>none
def YC(K:xB)(h:Heap)(A:List Addr):Hp:=fun b=>if b∈A then(if(K.lookup b).isNone=true then(h.get? b).bind vm else none) else none
def gO(H:Hp):Prop:=∀b,H b=none\/∃o u,H b=some (.frz o u)
theorem fV(vs:List Value):vm { cls:=.type "list",data:=.seq vs.toArray }=some (.frz { cls:=.type "list",data:=.seq vs.toArray } (.lst (vs.map toV))):=by show(if(Value.type "list" == Value.type "list")=true then some (HO.frz { cls:=.type "list",data:=.seq vs.toArray } (.lst (vs.toArray.toList.map toV))) else some (HO.frz { cls:=.type "list",data:=.seq vs.toArray } (.tup (vs.toArray.toList.map toV))))=_;rw[Wi (beq_self_eq_true _)]
theorem fH(vs:List Value):vm { cls:=.type "tuple",data:=.seq vs.toArray }=some (.frz { cls:=.type "tuple",data:=.seq vs.toArray } (.tup (vs.map toV))):=by show(if(Value.type "tuple" == Value.type "list")=true then some (HO.frz { cls:=.type "tuple",data:=.seq vs.toArray } (.lst (vs.toArray.toList.map toV))) else some (HO.frz { cls:=.type "tuple",data:=.seq vs.toArray } (.tup (vs.toArray.toList.map toV))))=_;rw[Wh Wa]
section
variable {K:xB} {h:Heap} {A:List Addr}
theorem zC{b:Addr}{o:Obj}(j:b∈A)(hk:K.lookup b=none)(e:h.get? b=some o):YC K h A b=vm o:=by unfold YC;rw[Wi j,hk,Wi (show(none:Option Obj).isNone=true from Z),e]<;>rfl
theorem vg{b:Addr}{u:HO}(q:YC K h A b=some u):b∈A/\K.lookup b=none:=by
 unfold YC at q;by_cases j:b∈A
 ·rw[Wi j] at q;cases hk:K.lookup b with
  |none=>exact⟨j,Z⟩
  | some o=>
   rw[hk,Wh We]at q;cases q
 ·rw[Wh j]at q;cases q
theorem zB(ar : ∀a∈A, YL h A a){b : Addr}{u : HO}(q : YC K h A b=some u) : K.lookup b=none /\ ∃vs : List Value, vs.length<=sizeLine/\(∀u∈vs, oQ A u) /\
    ((h.get? b = some { cls := .type "list", data := .seq vs.toArray } /\ u = .frz { cls := .type "list", data := .seq vs.toArray } (.lst (vs.map toV))) \/
     (h.get? b=some { cls := .type "tuple", data := .seq vs.toArray } /\ u = .frz { cls := .type "tuple", data := .seq vs.toArray } (.tup (vs.map toV)))) := by
  obtain ⟨j, hk⟩ := vg q; obtain ⟨vs, h1, h2, n⟩ := ar b j; refine⟨hk, vs, h1, h2, ?_⟩; rcases n with e|e
  · rw [zC j hk e, fV]at q; exact .inl ⟨e, (Wo q).symm⟩
  · rw [zC j hk e, fH]at q; exact .inr ⟨e, (Wo q).symm⟩
theorem px(ar:∀a∈A,YL h A a):gO (YC K h A):=fun b=>by
 cases q:YC K h A b with
 |none=>exact .inl rfl
 | some u=>
  obtain⟨_,vs,_,_,⟨_,e⟩|⟨_,e⟩⟩:=zB ar q
  ·exact .inr ⟨_,_,by rw[e]⟩
  ·exact .inr ⟨_,_,by rw[e]⟩
theorem wF(ar:∀a∈A,YL h A a):dg P w (YC K h A) h:=fun b u q=>by
 obtain⟨_,vs,h1,h2,⟨e,rfl⟩|⟨e,rfl⟩⟩:=zB ar q
 ·exact⟨e,by rw[xD];exact h1,vs,_,Yd h2,e⟩
 ·exact⟨e,by rw[xD];exact h1,vs,Yd h2,_,e,Z,_,Z⟩
theorem zl{c j:Value}{vs us:List Value} (e:(some { cls:=c,data:=.seq vs.toArray }:Option Obj)=some { cls:=j,data:=.seq us.toArray }):c=j/\vs=us:=by
 have n:=Wo e;have z:c=j:=Wn Obj.cls n;have B:Data.seq vs.toArray=Data.seq us.toArray:=Wn Obj.data n;injection B with F
 refine⟨z,?_⟩;have G:=Wn Qb8 F;simpa using G
theorem IY(z:K.In h)(ar:∀a∈A,YL h A a){a:Addr}{vs:List Value}(j:a∈A) (e:h.get? a=some { cls:=.type "list",data:=.seq vs.toArray }):(∀u∈vs,oQ A u)/\ba K (YC K h A) a (vs.map toV):=by
 obtain⟨us,h1,h2,B⟩:=ar a j
 have F:us=vs:=by
  rcases B with q|q
  ·rw[e]at q;exact(zl q).2.symm
  ·rw[e]at q;exact Wm (Value.type.inj (zl q).1) Wa
 subst F;refine⟨h2,?_⟩;cases hk:K.lookup a with
 |none=>exact .inl (.inr ⟨_,by rw[zC j hk e,fV]⟩)
 | some o=>
  have n:=z a o hk;rw[e]at n;obtain rfl:=Wo n;exact .inr ⟨_,us.toArray,_,hk,Z,Z,Z,by rw[xS];exact h1,by simpa using Yd h2⟩
theorem KN(z:K.In h)(ar:∀a∈A,YL h A a){a:Addr}{vs:List Value}(j:a∈A) (e:h.get? a=some { cls:=.type "tuple",data:=.seq vs.toArray }):(∀u∈vs,oQ A u)/\bY K (YC K h A) a (vs.map toV):=by
 obtain⟨us,h1,h2,B⟩:=ar a j
 have F:us=vs:=by
  rcases B with q|q
  ·rw[e]at q;exact Wm (Value.type.inj (zl q).1) Wa
  ·rw[e]at q;exact(zl q).2.symm
 subst F;refine⟨h2,?_⟩;cases hk:K.lookup a with
 |none=>exact .inl (.inr ⟨_,by rw[zC j hk e,fH]⟩)
 | some o=>
  have n:=z a o hk;rw[e]at n;obtain rfl:=Wo n;exact .inr ⟨_,us.toArray,_,hk,Z,Z,by rw[xS];exact h1,by simpa using Yd h2⟩
mutual
theorem BI{I:Params}(n:K.In h)(ar:∀a∈A,YL h A a):∀(d:WData)(v:Value),Well I h v d->l6 d=true->oQ A v->Dw K (YC K h A) (toV v) d
 | .none,_,x,_,_=>by
  cases x;exact .bQ
 | .bool b,_,x,_,_=>by
  cases x;exact .bl b
 | .int i,_,x,_,_=>by
  cases x;exact .int i
 | .str s,_,x,_,_=>by
  cases x;exact .str s
 | .bytes b,_,x,_,_=>by
  cases x;have z:=Dw.byt (K:=K) (H:=YC K h A) b.toArray;exact z
 | .list ds,_,x,p,B=>by
  obtain⟨a,vs,rfl,F,j⟩:=yN x;obtain⟨h2,G⟩:=IY n ar B F;exact .lst G (xp n ar ds _ j p h2)
 | .tuple ds,_,x,p,B=>by
  obtain⟨a,vs,rfl,F,j⟩:=zE x;obtain⟨h2,G⟩:=KN n ar B F;exact .tup G (xp n ar ds _ j p h2)
 |.float _,_,_,p,_=>GJ (show false=true from p)
 |.dict _,_,_,p,_=>GJ (show false=true from p)
 |.bytearray _,_,_,p,_=>GJ (show false=true from p)
 |.set _,_,_,p,_=>GJ (show false=true from p)
 |.frozenset _,_,_,p,_=>GJ (show false=true from p)
 |.obj _ _,_,_,p,_=>GJ (show false=true from p)
theorem xp{n:Params}(j:K.In h)(ar:∀a∈A,YL h A a):∀(ds:List WData)(vs:List Value),WellAll n h vs ds->za ds=true->(∀u∈vs,oQ A u)->YK K (YC K h A) (vs.map toV) ds
 | [],_,x,_,_=>by
  cases x;exact .nil
 | d::ds,_,x,p,hu=>by
  obtain⟨v,vs,rfl,x1,z⟩:=yO x;have q:l6 d=true/\za ds=true:=Bool.and_eq_true_iff.mp p;exact .cons (BI j ar d v x1 q.1 (hu _ (Gn ..))) (xp j ar ds vs z q.2 fun u m=>hu u (xT _ m))
end
end
theorem oz{K:xB}{mg mb:Str->Option Value}{CX:oq}{k:Nat}{fa:Addr}{fd:FuncData}{ps:List Str}{sp:Sp}{j:Shared}{B:List Value}{ds:List WData}{R:PySem.W.WRecords}{cl:Str->Option Addr}{d0:WData}
  (KX:K.In j.heap) (aa:j.heap.Ns mainGlobals mg) (hb:j.heap.Ns builtinsNs mb) (ah:∀x:Str,x ≠ "__name__" -> mb x=bootBuiltins x) (ab:j.heap.NoLimit) (hg:j.gens=#[])
  (O:WellAll w.params j.heap B ds) (ac:za ds=true) (ai:∀d∈ds,d.weight<=1048576) (hr:ZJ k callerA)
  (F:∀base:Heap,K.In base->base.Ns mainGlobals mg->QC P w K mg base CX k fa fd ps sp) (U:∀(s:Shared)(us:List Value),us.length=ps.length->BindsTo s fd ⟨us,[]⟩ (ps.zip us)) (ad:ds.length=ps.length)
  (aj:∀(H:Hp)(xs:List V),gO H->YK K H xs ds->sp xs H (fun v H'=>Dw K H' v d0) fun _ _ _=>False)
  (ak:∀H e s',CX [] H j (fun _ _ _=>False) e s'->False) :
  codeAny (model P w) callerA (.call (.ref fa) ⟨B,[]⟩) (fun r s'=>∃u as,r=.ok (.ret u)/\ReadsW R cl s'.heap u d0 as/\OldK j.heap s'.heap/\s'.os=j.os/\AllBare s'.gens) j:=by
 obtain⟨A,ho,ar⟩:=qp ds B O ac ai;have hO:gO (YC K j.heap A):=px ar;have bp:dg P w (YC K j.heap A) j.heap:=wF ar;have hS:=xp KX ar ds B O ac ho;have hV:=Yd ho;have hK:∀b u,YC K j.heap A b=some u->K.lookup b=none:=fun b u q=>(zB ar q).1
 have af:∀{b:Addr} {o:Obj} {es:Array DictEntry} {ep:Nat},j.heap.get? b=some o->o.data=.dict es ep->YC K j.heap A b=none:=fun {b o es ep} e d=>by
  cases q:YC K j.heap A b with
  |none=>rfl
  | some u=>
   obtain⟨_,vs,_,_,⟨e2,_⟩|⟨e2,_⟩⟩:=zB ar q
   ·rw[e2]at e;cases e;have d':Data.seq vs.toArray _=Data.dict es ep:=d;cases d'
   ·rw[e2]at e;cases e;have d':Data.seq vs.toArray _=Data.dict es ep:=d;cases d'
 generalize YC K j.heap A=H at hO bp hS hK af;have G:∀{b:Addr} {o:Obj},j.heap.get? b=some o->H b=none->(xc j.heap H).get? b=some o:=fun e n=>uF e n;have I:∀{b:Addr} {m:Str->Option Value},j.heap.Ns b m->(xc j.heap H).Ns b m:=fun {b m} ⟨o,es,ep,e,d,r⟩=>⟨o,es,ep,G e (af e d),d,r⟩
 have nK:∀b o,K.lookup b=some o->H b=none:=fun b o e=>by
  cases q:H b with
  |none=>rfl
  | some u=>
   rw[hK b u q]at e;cases e
 have ag:K.In (xc j.heap H):=fun b o e=>G (KX b o e) (nK b o e);have hM:Mod K mg (xc j.heap H):=⟨ag,I aa,⟨mb,I hb,ah⟩,let ⟨mc,h1,h2⟩:=ab;⟨mc,I h1,h2⟩⟩;have e0:iM P w K mg (xc j.heap H) callerA [] j H:=⟨Z,hM,fun b o e=>wB e,Qar (nG _ _),trivial,fun b hb=>Wm (show b∈([]:List Addr) from hb) We,bp,.of_eq hg⟩;have hl:B.length=ps.length:=by rw[XV O];exact ad
 refine codeAny_mono ((F _ ag (I aa)).run callerA [] j H ⟨B,[]⟩ B (B.map toV) _ _ hr e0 (U j B hl) hV (aj H _ hO hS)) fun r s' x=>?_;cases r with
 |error e=>exact(ak H e s' x).elim
 | ok fl=>
  cases fl with
  |next=>exact False.elim x
  |brk=>exact False.elim x
  |cont=>exact False.elim x
  | ret u=>
   obtain⟨v,H',os,bare,un,J,r',q⟩:=x
   have kept:∀b o,j.heap.get? b=some o->s'.heap.get? b=some o:=fun b o e=>by
    cases q2:H b with
    |none=>exact un.keep b o e q2 (by intro z;exact Wm (show b∈([]:List Addr) from z) We) We
    | some u2=>
     rcases hO b with z|⟨ob,u3,z⟩
     ·rw[q2]at z;cases z
     ·have z2:=un.dR b ob _ z;obtain⟨e1,_⟩:=bp b _ z;obtain⟨e2,_⟩:=J b _ z2;rw[e]at e1;cases e1;exact e2
   have an:K.In s'.heap:=fun b o e=>kept b o (KX b o e);obtain⟨as,ao⟩:=Dw.reads (R:=R) (cl:=cl) J an d0 v u q r';exact⟨u,as,Z,ao,OldK.of_keep kept,os,bare⟩
theorem yf{ds:List WData}(h:WData.layableAll ds=true):∀d∈ds,d.weight<=1048576:=fun d hd=>
 (PySem.W.layableW_iff.mp (List.all_eq_true.mp h d hd)).2.2
theorem yo:∀(j:List Codec)(a:Codec.denoteAll j),(Codec.encAll j a).length=j.length
 |[],_=>rfl
 | c::j,a=>by
  show(Codec.encAll j a.2).length+1=j.length+1;rw[yo j a.2]
theorem oX{r:OpenSpec}{k:Nat}{q:Program}{loose:List Str} {XP:(Str->Option Value)->Heap->Prop} {YP:World->Heap->Prop} {d:DefRec} {K:Params->xB} {CX:World->oq} {ps:List Str} {sp:World->Sp}
  (j:r.wellSaid=true) (ag:d.params.defaults=[]) (n:r.args.length=ps.length) (hr:ZJ k callerA)
  (hY:∀(w:World)(h:Heap),YP w h->(K w.params).In h)
  (F:∀(w:World)(mg:Str->Option Value)(O:Addr)(h:Heap),YP w h->(K w.params).In h->h.Ns mainGlobals mg->mg d.name=some (.ref O)->
   ∃fd:FuncData,(∀(s:Shared)(us:List Value),us.length=ps.length->BindsTo s fd ⟨us,[]⟩ (ps.zip us))/\
    ∀base:Heap,(K w.params).In base->base.Ns mainGlobals mg->QC r.prog w (K w.params) mg base (CX w) k O fd ps (sp w))
  (U:∀(w:World)(H:Hp)(xs:List V)(a:Codec.denoteAll r.args),gO H->Codec.withinAll r.args a=true->Codec.app r.args r.asked a=true->YK (K w.params) H xs (Codec.encAll r.args a)->
   sp w xs H (fun v H'=>Dw (K w.params) H' v (r.ret.enc (Codec.app r.args r.f a))) fun _ _ _=>False)
  (aa:∀(w:World)(H:Hp)(s:Shared)(e:Value)(s':Shared),CX w [] H s (fun _ _ _=>False) e s'->False) :
  PySem.W.WalkOS q loose XP YP r d [] (fun f vs=>PySem.call f vs):=by
 intro w eM vC mg mb G Y O o pm cd ah dV kV ho hd ai hD ab hg args af as B I aj ac ak;obtain⟨a,e1,e2⟩:=PySem.W.os_pre_some B;obtain⟨e3,J⟩:=Codec.encAll_of_decAll r.args args a e1;subst e3;have KX:=hY w _ Y;obtain⟨fd,hb,hF⟩:=F w mg O _ Y KX G.T.g ab
 refine PySem.W.enter_call (codeAny_mono (oz (R:=[]) (cl:=classAt eM.heap) (d0:=r.ret.enc (Codec.app r.args r.f a)) KX G.T.g G.T.b G.T.builtins G.T.nolimit hg ac (ja _ _) (yf I) hr hF hb (by rw[yo];exact n)
  (fun H xs hO hS=>U w H xs a hO J e2 hS) fun H e s'=>aa w H vC e s') fun r' s' hq=>?_)
 obtain⟨u,ad,rfl,h1,h2,h3,h4⟩:=hq;exact⟨.inl ⟨u,_,ad,Z,fun _=>rfl,h1,(OpenSpec.post_iff j J _ _).mpr Z,fun z=>GJ (show false=true from z)⟩,h2,h3,h4⟩
theorem kX{r:OpenSpec}{k:Nat}{q:Program}{loose:List Str} {XP:(Str->Option Value)->Heap->Prop} {YP:World->Heap->Prop} {d:DefRec} {K:Params->xB} {CX:oq} {ps:List Str} {sp:xB->Sp}
  (j:r.wellSaid=true) (z:d.params.defaults=[]) (n:r.args.length=ps.length) (hr:ZJ k callerA)
  (J:∀(w:World)(h:Heap),YP w h->(K w.params).In h)
  (F:∀(w:World)(mg:Str->Option Value)(I:Addr)(h:Heap),YP w h->(K w.params).In h->h.Ns mainGlobals mg->mg d.name=some (.ref I)->
   ∃fd:FuncData,(∀(s:Shared)(us:List Value),us.length=ps.length->BindsTo s fd ⟨us,[]⟩ (ps.zip us))/\
    ∀base:Heap,(K w.params).In base->base.Ns mainGlobals mg->QC r.prog w (K w.params) mg base CX k I fd ps (sp (K w.params)))
  (B:∀(K:xB)(H:Hp)(xs:List V)(a:Codec.denoteAll r.args),gO H->Codec.withinAll r.args a=true->Codec.app r.args r.asked a=true->YK K H xs (Codec.encAll r.args a)->
   sp K xs H (fun v H'=>Dw K H' v (r.ret.enc (Codec.app r.args r.f a))) fun _ _ _=>False)
  (G:∀(H:Hp)(s:Shared)(e:Value)(s':Shared),CX [] H s (fun _ _ _=>False) e s'->False) :
  PySem.W.WalkOS q loose XP YP r d [] (fun f vs=>PySem.call f vs):=
 oX (K:=K) (CX:=fun _=>CX) (sp:=fun w=>sp (K w.params)) j z n hr J F (fun w H xs a h1 h2 O U=>B (K w.params) H xs a h1 h2 O U) fun _ H s e s'=>G H s e s'
end L2
end
namespace L2
open PySem PySem.Spec PyProof.Rows
inductive eC(a b c:Prop):Prop
 |mk:a->b->c->eC a b c
inductive Dx(a b c d:Prop):Prop
 |mk:a->b->c->d->Dx a b c d
inductive K9(a b c d e f:Prop):Prop
 |mk:a->b->c->d->e->f->K9 a b c d e f
inductive K1(a b c d e f g:Prop):Prop
 |mk:a->b->c->d->e->f->g->K1 a b c d e f g
inductive IJ(a b c d e f g h:Prop):Prop
 |mk:a->b->c->d->e->f->g->h->IJ a b c d e f g h
inductive uk{α β:Type}(p:α->β->Prop):Prop
 |mk (a:α) (b:β):p a b->uk p
inductive Ds{α β γ:Type}(p:α->β->γ->Prop):Prop
 |mk (a:α) (b:β) (c:γ):p a b c->Ds p
inductive HH{α β γ δ ε:Type}(p:α->β->γ->δ->ε->Prop):Prop
 |mk (a:α) (b:β) (c:γ) (d:δ) (e:ε):p a b c d e->HH p
theorem uU{K:xB}{a:Addr}{g:TG}{tb:TS}{D:JE}(j:Nat->St->Hp->Prop)(h0:j 0 σ H)(hl:∀i σ H,i<=xs.length->j i σ H->ba K H a xs)
  (G:∀i x σ H,i<xs.length->xs[xs.length-1-i]?=some x->j i σ H->g x σ H fun z H2=>tb { D with nx:=j (i+1),ct:=j (i+1),bk:=D.nx } z H2) (hd:∀σ H,j xs.length σ H->D.nx σ H) :
  ∃W:Nat->Nat->St->Hp->Prop,(∃m,W 0 m σ H)/\∀i m σ H,W i m σ H->
   ((FW K a xs.length).stop i H/\D.nx σ H)\/((FW K a xs.length).go i H/\∃N:St->Hp->Prop,(∀B H',N B H'->∃F,F<m/\W (i+1) F B H')/\∀x H',(FW K a xs.length).yld i H x H'->g x σ H' fun z H2=>tb { D with nx:=N,ct:=N,bk:=D.nx } z H2):=by
 refine⟨fun i m σ H=>m=xs.length-i/\i<=xs.length/\j i σ H,⟨xs.length,by simp,x9 _,h0⟩,?_⟩;rintro i m σ H ⟨rfl,hi,p⟩;have q:=hl i σ H hi p;by_cases n:i<xs.length
 ·have I:xs[xs.length-1-i]?=some (xs[xs.length-1-i]'(by lia)):=by rw[xF]
  refine .inr ⟨⟨n,xs,_,q,I⟩,j (i+1),fun B H' J=>⟨xs.length-(i+1),by lia,Z,n,J⟩,fun x H' y=>?_⟩;obtain⟨e,y⟩:=y;subst e;exact G i x σ _ n (y xs q) p
 ·have e:i=xs.length:=by lia
  subst e;exact .inl ⟨xO _,hd σ H p⟩
theorem bG.bM{K:xB}{mg:Str->Option Value}{base:Heap}{x j:Str}{st:Stmt}{f:Addr}{fd:FuncData}{N ps:List Str}{k:Nat}{sp:Sp}(F:bG K x j st f fd) (S:a7 N ps (a6 st))
  (h:∀(vs:List V)(H:Hp)(Q:VK)(E:XK),sp vs H Q E->vs.length=ps.length/\∀(n:Value)(A:Around)(outer:List Env)(s:Shared),ZJ k (A.deeper (envOfC j (a6 st) s.heap.objs.size f n))->
   ∃t,mr (kI bD P w K mg base N j (a6 st) f n A outer s H E).EG (bR st) t/\t { nx:=fun _ H'=>Q .bQ H',rt:=Q } (YR N vs) H):QC P w K mg base bD (k+1) f fd ps sp:=
 F.ok S (fun vs H Q E e=>(h vs H Q E e).1) fun n A outer s H vs Q E r e=>(h vs H Q E e).2 n A outer s r
theorem bA(i:Nat){e:Expr}{te:TE}{pos cq:Pos}(j:X.N.Nodup)(n:PE X e te)(hi:X.N[i]?=some x:=by rfl)(z:Loc X.env.scope x:=by exact G4 Z) (B:swapsWith e (some (.Name x cq)) pos.line X.env=pure false:=by rfl) (hf:X.fn x=true\/X.env.scope.names.lookup x=some .local:=by first|exact .inl rfl|exact .inr Z) :
  PS X (.Assign [.Name x cq] e pos) (va te (Zz i)):=C9 j hi z n B hf
theorem b0(i:Nat)(j:X.N.Nodup)(hi:X.N[i]?=some x:=by rfl)(n:Loc X.env.scope x:=by exact G4 Z)(hf:X.fn x=true\/X.env.scope.names.lookup x=some .local:=by first|exact .inl rfl|exact .inr Z) :
  PG X (.Name x pos) (Zz i):=wI j hi n hf
end L2
namespace Gp
open PySem PySem.Spec PyProof.Rows L2
open PySem.W (Codec)
abbrev CL:Stmt:=top 2
def bl(b:xC):List V:=b.map (fun c=>V.int (c.toNat:Int))
theorem Ql(b:xC):(bl b).length=b.length:=by simp[bl]
theorem C3(b:xC)(p w:Nat):X9 (bl b) (some (p:Int)) (some ((p:Int)+(w:Int)))=bl ((b.drop p).take w):=by
 unfold X9;rw[show(p:Int)+(w:Int)=((p+w:Nat):Int) by lia,HT.dn,HT.dn,Ql];unfold bl;rw[<-Qaf,<-Vs];congr 1;by_cases h:p<=b.length
 ·rw[Qan h];rw[V8,Gd];lia
 ·rw[GK (as:=b) (i:=min p b.length) L,GK (as:=b) (i:=p) L];simp
theorem kj(b:xC)(i:Nat)(h:i<b.length):Qb1 (b.drop i)=(b[i]).toNat+256*Qb1 (b.drop (i+1)):=by rw[GH h];rfl
structure Txt(K:xB)(mg:Str->Option Value):Prop where
 rev:mg "reversed" = none
 len:mg "len" = none
 range:mg "range" = none
 enum:mg "enumerate" = none
 lst:mg "list" = none
 any:mg "any" = none
 zip:mg "zip" = none
 str:mg "str" = none
 sum:mg "sum" = none
 ord:mg "ord" = none
 max:mg "max" = none
inductive JF(K:xB)(vs:List V)(H:Hp)(Q:VK)(E:XK):Prop
 |mk (a:Addr) (b:xC) (p w:Nat) (i j:Int):vs=[.ref a,.int i,.int j]->i=(p:Int)->j=(w:Int)->ba K H a (bl b)->(∀H',Qn H H'->Q (.int ((xI b p w:Nat):Int)) H')->JF K vs H Q E
section
variable {K:xB} {mg:Str->Option Value} {base:Heap}
theorem _root_.L2.a7.mk'{N P:List Str}{sc:Scope}(a:sc.kind=.function:=by rfl)(b:sc.isCoroutine=false:=by rfl)(c:sc.isGenerator=false:=by rfl)(d:N.Nodup:=by decide +kernel)(e:N.take P.length=P:=by rfl)(f:∀x∈P,sc.names.lookup x=some .local\/sc.names.lookup x=some .cell:=by decide +kernel)(g:∀y∈sc.names,y.2≠.free:=by decide +kernel):a7 N P sc:=⟨a,b,c,d,e,f,g⟩
theorem mS:a7 ["octets","place","size","number","octet"] ["octets","place","size"] (a6 CL):=.mk'
theorem CU{f:Addr}{fd:FuncData}(F:bG K "number_at" "number_at" CL f fd)(T:Txt K mg):QC P w K mg base bD 1 f fd ["octets","place","size"] (JF K):=by
 apply F.bM mS;rintro _ H Q E ⟨a,b,p,w,i,j,rfl,rfl,rfl,I,k⟩;refine⟨Z,fun _ _ _ _ _=>?_⟩
 refine⟨_,Qb (bA 3 mS.nd Qi)
  (Qb (QL PassesOwn.never Z (hW Z T.rev (Qa (XH Yu (pv 0) (Xe (pv 1)) (Xe (QA QV (pv 1) (pv 2)))) Qc)) (b0 4 mS.nd)
   (Qd (bA 3 mS.nd (QA QV (QA ZN (pv 3) Qi) (pv 4)))))
  (Qd (Qj (pv 3)))),?_⟩
 refine⟨_,Z,_,Z,_,Z,_,Z,_,Z,_,_,Z,Z,_,Z,a,_,Z,I,fun l hl=>?_⟩;have e:=C3 b p w;rw[e]
 have J:Qn H (upd H l (.lst (bl ((b.drop p).take w)))):=fun c o h=>by
  rw[Qh (Qg h hl)];exact h
 generalize hc:(b.drop p).take w=c at *
 refine⟨l,_,Z,ba.of Qe,uU (K:=K) (a:=l) (xs:=bl c) (fun i σ H'=>∃B:Option V,eC (σ=[some (.ref a),some (.int p),some (.int w),some (.int ((Qb1 (c.drop (c.length-i)):Nat):Int)),B]) (Qn H H') (H' l=some (.lst (bl c))))
  ⟨none,?_,J,Qe⟩ (fun i σ H' _ ⟨_,_,_,h⟩=>ba.of h) ?_ ?_⟩
 ·rw[Nat.sub_zero,List.drop_length];rfl
 ·rintro i x σ H' hi z ⟨B,rfl,G,n⟩;rw[Ql] at hi z
  obtain⟨rfl⟩:x=V.int ((c[c.length-1-i]'(by lia)).toNat:Int):=by unfold bl at z;rw[xL,xF L]at z;exact(Wo z).symm
  refine⟨_,Z,_,_,Z,Z,.inr ⟨by decide,by decide⟩,_,Z,_,_,Z,Z,?_⟩;refine⟨some (V.int ((c[c.length-1-i]'(by lia)).toNat:Int)),?_,G,n⟩;have O:=kj c (c.length-1-i) L;grind
 ·rintro σ H' ⟨B,rfl,G,n⟩;rw[Ql,Nat.sub_self,G6];refine⟨_,Z,?_⟩;have:=k H' G;unfold xI at this;lia
end
end Gp
namespace Pl
def su{α:Type}(l:List α)(f:α->Int):Int:=l.foldr (fun a b=>f a+b) 0
theorem ZV{α:Type}(f:α->Int):su [] f=0:=rfl
theorem QQ{α:Type}(a:α)(l:List α)(f:α->Int):su (a::l) f=f a+su l f:=rfl
theorem Yh{α:Type}(l m:List α)(f:α->Int):su (l++m) f=su l f+su m f:=by
 induction l with
 |nil=>simp[ZV]
 |cons a l j=>simp only[List.cons_append,QQ,j];lia
theorem Qr{α:Type}{l:List α}{f g:α->Int}(h:∀a∈l,f a=g a):su l f=su l g:=by
 induction l with
 |nil=>rfl
 |cons a l j=>rw[QQ,QQ,h a We,j (fun x n=>h x (by simp[n]))]
theorem ZL{α:Type}(l:List α)(f g:α->Int):su l (fun a=>f a+g a)=su l f+su l g:=by
 induction l with
 |nil=>rfl
 |cons a l j=>simp only[QQ,j];lia
theorem XE{α:Type}(l:List α)(f g:α->Int):su l (fun a=>f a-g a)=su l f-su l g:=by
 induction l with
 |nil=>rfl
 |cons a l j=>simp only[QQ,j];lia
theorem jD{α:Type}(l:List α)(f:α->Int):su l (fun a=>- f a) = - su l f:=by
 induction l with
 |nil=>rfl
 |cons a l j=>simp only[QQ,j];lia
theorem XF{α:Type}(l:List α)(c:Int)(f:α->Int):su l (fun a=>c*f a)=c*su l f:=by
 induction l with
 |nil=>simp[ZV]
 |cons a l j=>simp only[QQ,j,Int.mul_add]
theorem jC{α:Type}(l:List α):su l (fun _=>0)=0:=by
 induction l with
 |nil=>rfl
 |cons a l j=>simp only[QQ,j];lia
theorem Q1{α:Type}{l:List α}{f:α->Int}(h:∀a∈l,f a=0):su l f=0:=by rw[Qr h,jC]
theorem XX{α β:Type}(l:List α)(m:List β)(f:α->β->Int) :
  su l (fun a=>su m (fun b=>f a b))=su m (fun b=>su l (fun a=>f a b)):=by
 induction l with
 |nil=>simp only[ZV];exact(jC m).symm
 |cons a l j=>simp only[QQ,j];exact(ZL m _ _).symm
theorem yT{α:Type}{l:List α}{f:α->Int}(h:∀a∈l,0<=f a):0<=su l f:=by
 induction l with
 |nil=>simp[ZV]
 | cons a l j=>
  have h1:=h a We;have h2:=j (fun x n=>h x (by simp[n]));rw[QQ];lia
theorem uo{α:Type}{l:List α}{f:α->Int}(h:∀a∈l,0<=f a){x:α}(j:x∈l)(z:0<f x):0<su l f:=by
 induction l with
 |nil=>simp at j
 | cons a l n=>
  have h1:=h a We;have h2:=yT (l:=l) (f:=f) (fun x j=>h x (by simp[j]));rw[QQ];rcases List.mem_cons.1 j with rfl|j
  ·lia
  ·have:=n (fun x j=>h x (by simp[j])) j;lia
theorem iC{α:Type}{l:List α}{f:α->Int}(h:∀a∈l,0<=f a)(h0:su l f=0):∀x∈l,f x=0:=by
 intro x j;have h1:=h x j;rcases Int.lt_or_eq_of_le h1 with h2|h2
 ·have:=uo h j h2;lia
 lia
theorem vZ{α:Type}{l m:List α}(h:l.Perm m)(f:α->Int):su l f=su m f:=by
 induction h with
 |nil=>rfl
 |cons a _ j=>simp only[QQ,j]
 |swap a b l=>simp only[QQ];lia
 |trans _ _ h1 h2=>rw[h1,h2]
theorem sg{α β:Type}(l:List α)(g:α->β)(f:β->Int):su (l.map g) f=su l (fun a=>f (g a)):=by
 induction l with
 |nil=>rfl
 |cons a l j=>simp only[xV,QQ,j]
theorem Yg{α:Type} [DecidableEq α] {l:List α} {x:α} (j:x∈l) (f:α->Int):su l f=f x+su (l.erase x) f:=by rw[vZ (List.perm_cons_erase j) f,QQ]
theorem ZU{α:Type} [DecidableEq α] {l:List α} (n:l.Nodup) {x:α} (j:x∈l) (f:α->Int) :
  su l (fun a=>if a=x then f a else 0)=f x:=by
 rw[Yg j,Wi Z,Q1 (fun a z=>?_)];all_goals grind
theorem mL{α:Type} [DecidableEq α] {l:List α} {x:α} (j:x∉l) (f:α->Int) :
  su l (fun a=>if a=x then f a else 0)=0:=by
 apply Q1;lia
theorem n0{α:Type}(l:List α)(p:α->Bool)(f:α->Int):su (l.filter p) f=su l (fun a=>if p a=true then f a else 0):=by
 induction l with
 |nil=>rfl
 | cons a l j=>
  by_cases h:p a=true
  ·rw[VP h,QQ,QQ,j,Wi h]
  ·rw[Qbb h,QQ,j,Wh h];lia
theorem solve{α:Type} [DecidableEq α]:∀(I:List (α->Int)) (J:List α),J.Nodup->I.length<J.length->
  ∃c:α->Int,(∃j∈J,c j≠0)/\∀r∈I,su J (fun j=>r j*c j)=0:=by
 intro I;generalize hk:I.length=k;induction k generalizing I with
 | zero=>
  intro J F hl;have:I=[]:=by cases I<;>simp_all
  subst this;refine⟨fun _=>1,?_,by simp⟩;cases J with
  |nil=>simp at hl
  |cons j J=>exact⟨j,by simp,by simp⟩
 | succ k ih=>
  intro J F hl
  obtain⟨r,B,rfl⟩:∃r B,I=r::B:=by cases I with
   |nil=>simp at hk
   |cons r B=>exact⟨r,B,Z⟩
  simp only[xQ,Nat.add_right_cancel_iff]at hk;by_cases hz:∀j∈J,r j=0
  ·obtain⟨c,h1,h2⟩:=ih B hk J F L;refine⟨c,h1,?_⟩;intro q z;rcases List.mem_cons.1 z with rfl | z
   ·exact Q1 (fun j G=>by rw[hz j G,Va])
   ·exact h2 q z
  ·obtain⟨n,O,ab⟩:∃ n,n∈J/\r n≠0:=by apply xJ;intro hc;apply hz;intro j G;apply xJ;intro ac;exact hc ⟨j,G,ac⟩
   have af:(J.erase n).length=J.length-1:=Uf O;obtain⟨c,⟨j1,U,ad⟩,h2⟩:=ih (B.map (fun q j=>r n*q j-r j*q n)) (by simp[hk]) (J.erase n) (F.erase n) L
   have aa:j1≠n:=by intro e;subst e;exact(List.Nodup.not_mem_erase F) U
   refine⟨fun j=>if j=n then-su (J.erase n) (fun j=>r j*c j) else r n*c j,⟨j1,UA U,?_⟩,?_⟩
   ·simp only[Wh aa];exact Int.mul_ne_zero ab ad
   ·intro q z
    have key:su J (fun j=>q j*(if j=n then-su (J.erase n) (fun j=>r j*c j) else r n*c j))
      = q n*(- su (J.erase n) (fun j=>r j*c j))+su (J.erase n) (fun j=>q j*(r n*c j)):=by
     rw[Yg O];simp only[Wq];congr 1;apply Qr;intro j G
     have:j≠n:=by intro e;subst e;exact(List.Nodup.not_mem_erase F) G
     rw[Wh this]
    show su J _=0;rw[key];rcases List.mem_cons.1 z with rfl|z
    ·have:su (J.erase n) (fun j=>q j*(q n*c j))=q n*su (J.erase n) (fun j=>q j*c j):=by rw[<-XF];apply Qr;intro j _;rw[V1]
     rw[this,Int.mul_neg];lia
    ·have h3:=h2 (fun j=>r n*q j-r j*q n) (List.mem_map.2 ⟨q,z,Z⟩)
     have:su (J.erase n) (fun j=>q j*(r n*c j))-q n*su (J.erase n) (fun j=>r j*c j)=0:=by rw[<-h3,<-XF,<-XE];apply Qr;intro j _;rw[Qa1,<-VJ,Qas (q j) (r n),<-VJ,Qas (q n) (r j)]
     rw[Int.mul_neg];lia
structure Dr where
 X:Nat->Int
 Y:Nat->Int
 E:List WA
 s:Nat×Nat->Int
 D:Int
noncomputable def Dr.h(K:Dr)(e:WA)(t:Int):Int:=2*(K.D*K.Y e.1)+K.s e*(t-2*K.X e.1)
abbrev Dr.act(K:Dr)(e:WA)(t:Int):Prop:=K.X e.1<=t/\t<K.X e.2
def Dr.below(K : Dr)(e f : Nat × Nat) : Prop :=
  K.h e (2*max (K.X e.1) (K.X f.1))<=K.h f (2*max (K.X e.1) (K.X f.1)) /\
  K.h e (2*min (K.X e.2) (K.X f.2))<=K.h f (2*min (K.X e.2) (K.X f.2)) /\
  (K.h e (2 * max (K.X e.1) (K.X f.1)) < K.h f (2 * max (K.X e.1) (K.X f.1)) \/
   K.h e (2*min (K.X e.2) (K.X f.2))<K.h f (2*min (K.X e.2) (K.X f.2)))
structure Dr.Ok(K:Dr):Prop where
 iK:0<K.D
 nodup:K.E.Nodup
 left:∀e∈K.E,K.X e.1<K.X e.2
 slope:∀e∈K.E,K.D*K.Y e.2=K.D*K.Y e.1+K.s e*(K.X e.2-K.X e.1)
 inj:∀e∈K.E,∀f∈K.E,(K.X e.1=K.X f.1->e.1=f.1)/\(K.X e.1=K.X f.2->e.1=f.2)/\(K.X e.2=K.X f.2->e.2=f.2)
 cross:∀e∈K.E,∀f∈K.E,e≠f->max (K.X e.1) (K.X f.1)<min (K.X e.2) (K.X f.2)->K.below e f\/K.below f e
 clear:∀e∈K.E,∀f∈K.E,(K.X e.1<K.X f.1->K.X f.1<K.X e.2->K.h e (2*K.X f.1)≠2*(K.D*K.Y f.1))/\
  (K.X e.1<K.X f.2->K.X f.2<K.X e.2->K.h e (2*K.X f.2)≠2*(K.D*K.Y f.2))
theorem Cs{A B p q t:Int}(n:p<t)(z:t<q)(h1:A+B*p<=0)(h2:A+B*q<=0)(j:A+B*p<0\/A+B*q<0):A+B*t<0:=by
 have e:(q-p)*(A+B*t)=(q-t)*(A+B*p)+(t-p)*(A+B*q):=by grind
 have F:(q-t)*(A+B*p)<=0:=Gr L h1;have G:(t-p)*(A+B*q)<=0:=Gr L h2
 have I:(q-p)*(A+B*t)<0:=by
  rcases j with j|j
  ·have:(q-t)*(A+B*p)<0:=Gy L j;lia
  ·have:(t-p)*(A+B*q)<0:=Gy L j;lia
 apply xJ;intro hc;have:0<=(q-p)*(A+B*t):=UF L L;lia
theorem Dr.du(K:Dr)(e f:WA)(t:Int):K.h e t-K.h f t=(K.h e 0-K.h f 0)+(K.s e-K.s f)*t:=by unfold Dr.h;grind
theorem Dr.bN{K:Dr}{e f:WA}(h:K.below e f){t:Int}
  (h1:2*K.X e.1<t) (h2:2*K.X f.1<t) (j:t<2*K.X e.2) (n:t<2*K.X f.2):K.h e t<K.h f t:=by
 obtain⟨a,b,c⟩:=h;have z:=K.du e f t;have F:=K.du e f (2*max (K.X e.1) (K.X f.1));have G:=K.du e f (2*min (K.X e.2) (K.X f.2))
 have:=Cs (A:=K.h e 0-K.h f 0) (B:=K.s e-K.s f) (p:=2*max (K.X e.1) (K.X f.1)) (q:=2*min (K.X e.2) (K.X f.2)) (t:=t)
  L L L L L
 lia
theorem Dr.uK(K:Dr)(e:WA):K.h e (2*K.X e.1)=2*(K.D*K.Y e.1):=by unfold Dr.h;grind
theorem Dr.Ok.vG{K:Dr}(O:K.Ok){e:WA}(j:e∈K.E):K.h e (2*K.X e.2)=2*(K.D*K.Y e.2):=by have:=O.slope e j;unfold Dr.h;grind
theorem Dr.Ok.order{K:Dr}(O:K.Ok){e f:WA}(F:e∈K.E)(hf:f∈K.E){t u:Int}
  (h1:2*K.X e.1<t) (h2:2*K.X f.1<t) (z:t<2*K.X e.2) (B:t<2*K.X f.2)
  (k1:2*K.X e.1<u) (k2:2*K.X f.1<u) (k3:u<2*K.X e.2) (k4:u<2*K.X f.2) :
  (K.h e t<K.h f t↔K.h e u<K.h f u):=by
 by_cases j:e=f
 ·subst j;lia
 ·rcases O.cross e F f hf j L with n | n
  ·have:=Dr.bN n h1 h2 z B;have:=Dr.bN n k1 k2 k3 k4;lia
  ·have:=Dr.bN n h2 h1 B z;have:=Dr.bN n k2 k1 k4 k3;lia
theorem Dr.Ok.distinct{K:Dr}(O:K.Ok){e f:WA}(F:e∈K.E)(hf:f∈K.E)(j:e≠f){t:Int}
  (h1:2*K.X e.1<t) (h2:2*K.X f.1<t) (z:t<2*K.X e.2) (B:t<2*K.X f.2):K.h e t≠K.h f t:=by
 rcases O.cross e F f hf j L with n|n
 ·have:=Dr.bN n h1 h2 z B;lia
 ·have:=Dr.bN n h2 h1 B z;lia
theorem tF{A B p q t:Int}(j:p<t)(n:t<q)(h1:A+B*p<=0)(h2:A+B*q<=0):A+B*t<=0:=by
 have e:(q-p)*(A+B*t)=(q-t)*(A+B*p)+(t-p)*(A+B*q):=by grind
 have z:(q-t)*(A+B*p)<=0:=Gr L h1;have F:(t-p)*(A+B*q)<=0:=Gr L h2;apply xJ;intro hc;have:0<(q-p)*(A+B*t):=UQ L L;lia
theorem Dr.Ok.f'{K:Dr}(O:K.Ok){i e:WA}(hi:i∈K.E)(z:e∈K.E)
  (F:K.X e.1<K.X i.2) (p2:K.X i.2<K.X e.2) {t:Int}
  (h1:2*K.X i.1<t) (h2:2*K.X e.1<t) (B:t<2*K.X i.2) :
  (K.h i t<K.h e t↔2*(K.D*K.Y i.2)<K.h e (2*K.X i.2)):=by
 have n:i≠e:=by intro h;subst h;lia
 have hl:=O.left i hi;have I:=(O.clear e z i hi).2 F p2;have hr:=O.vG hi;have J:min (K.X i.2) (K.X e.2)=K.X i.2:=by lia
 have G:min (K.X e.2) (K.X i.2)=K.X i.2:=by lia
 rcases O.cross i hi e z n L with j|j
 ·have a:=Dr.bN j h1 h2 B L;have b:=j.2.1;lia
 ·have a:=Dr.bN j h2 h1 L B;have b:=j.2.1;lia
theorem Dr.Ok.eL{K:Dr}(O:K.Ok){o e:WA}(n:o∈K.E)(B:e∈K.E)
  (G:K.X e.1<K.X o.1) (p2:K.X o.1<K.X e.2) {t:Int}
  (h1:t<2*K.X o.2) (h2:t<2*K.X e.2) (F:2*K.X o.1<t) :
  (K.h o t<K.h e t↔2*(K.D*K.Y o.1)<K.h e (2*K.X o.1)):=by
 have z:o≠e:=by intro h;subst h;lia
 have hl:=O.left o n;have J:=(O.clear e B o n).1 G p2;have hr:=K.uK o;have U:max (K.X o.1) (K.X e.1)=K.X o.1:=by lia
 have I:max (K.X e.1) (K.X o.1)=K.X o.1:=by lia
 rcases O.cross o n e B z L with j|j
 ·have a:=Dr.bN j F L h1 h2;have b:=j.1;lia
 ·have a:=Dr.bN j L F h2 h1;have b:=j.1;lia
def Dr.Cons(K:Dr)(N:Nat×Nat->Int):Prop:=∀v:Nat,
 su K.E (fun m=>if m.2=v then N m else 0)=su K.E (fun m=>if m.1=v then N m else 0)
def Dr.bl(K:Dr)(N:Nat×Nat->Int)(e:WA)(t:Int):Int:=
 su K.E (fun m=>if K.act m t/\K.h m (2*t+1)<K.h e (2*t+1) then N m else 0)
theorem Dr.Ok.Am{K:Dr}(O:K.Ok){e f:WA}(j:e∈K.E)(hf:f∈K.E):K.X e.1=K.X f.2↔e.1=f.2:=
 ⟨(O.inj e j f hf).2.1,fun h=>by rw[h]⟩
theorem Dr.Ok.Aj{K:Dr}(O:K.Ok){e f:WA}(j:e∈K.E)(hf:f∈K.E):K.X e.1=K.X f.1↔e.1=f.1:=
 ⟨(O.inj e j f hf).1,fun h=>by rw[h]⟩
theorem Dr.Ok.wZ{K:Dr}(O:K.Ok){e f:WA}(j:e∈K.E)(hf:f∈K.E):K.X e.2=K.X f.2↔e.2=f.2:=
 ⟨(O.inj e j f hf).2.2,fun h=>by rw[h]⟩
def Dr.mm(K:Dr)(v:Nat):Prop:=∃m∈K.E,m.1=v\/m.2=v
theorem Dr.Ok.DK{K:Dr}(O:K.Ok){v:Nat}(n:K.mm v){m:WA}(j:m∈K.E):K.X m.1=K.X v↔m.1=v:=by
 obtain⟨f,hf,rfl|rfl⟩:=n
 ·exact O.Aj j hf
 ·exact O.Am j hf
theorem Dr.Ok.FX{K:Dr}(O:K.Ok){v:Nat}(n:K.mm v){m:WA}(j:m∈K.E):K.X m.2=K.X v↔m.2=v:=by
 obtain⟨f,hf,rfl|rfl⟩:=n
 ·have:=O.Am hf j;lia
 ·exact O.wZ j hf
theorem Dr.Ok.vh{K:Dr}(O:K.Ok){N:Nat×Nat->Int}(C:K.Cons N){e:WA}(G:e∈K.E){t:Int}
  (h1:K.act e t) (h2:K.act e (t+1)):K.bl N e t=K.bl N e (t+1):=by
 have same:∀m∈K.E,K.X m.1≠t+1->K.X m.2≠t+1->
   ((K.act m t/\K.h m (2*t+1)<K.h e (2*t+1))↔(K.act m (t+1)/\K.h m (2*(t+1)+1)<K.h e (2*(t+1)+1))):=by
  intro m z n1 F;unfold Dr.act at *;by_cases ha:K.X m.1<=t/\t<K.X m.2
  ·have:=O.order z G (t:=2*t+1) (u:=2*(t+1)+1) L L L L L L L L;lia
  ·lia
 by_cases B:∃v,K.mm v/\K.X v=t+1
 ·obtain⟨v,B,I⟩:=B;have hc:=C v;let U:Bool:=decide (2*(K.D*K.Y v)<K.h e (2*K.X v))
  have key:∀m∈K.E,(if K.act m t/\K.h m (2*t+1)<K.h e (2*t+1) then N m else 0) =
    (if K.act m (t+1)/\K.h m (2*(t+1)+1)<K.h e (2*(t+1)+1) then N m else 0)
    + (if U then 1 else 0)*((if m.2=v then N m else 0)-(if m.1=v then N m else 0)):=by
   intro m z;have hl:=O.left m z;by_cases j:m.2=v
   ·have n:m.1≠v:=by intro h;rw[h,j] at hl;lia
    have i:=O.f' (i:=m) (e:=e) z G (by rw[j];unfold Dr.act at *;lia) (by rw[j];unfold Dr.act at *;lia) (t:=2*t+1)
     (by rw[j]at hl;lia) (by unfold Dr.act at *;lia) (by rw[j];lia)
    rw[j]at i hl
    have F:¬(K.act m (t+1)/\K.h m (2*(t+1)+1)<K.h e (2*(t+1)+1)):=by intro h;have:=h.1;unfold Dr.act at this;rw[j]at this;lia
    have a:K.act m t:=by unfold Dr.act;rw[j];lia
    rw[Wh F,Wi j,Wh n];by_cases u:2*(K.D*K.Y v)<K.h e (2*K.X v)
    ·rw[Wi ⟨a,i.2 u⟩];simp[U,u]
    ·rw[Wh (fun h=>u (i.1 h.2))];simp[U,u]
   ·by_cases n:m.1=v
    ·have i:=O.eL (o:=m) (e:=e) z G (by rw[n];unfold Dr.act at *;lia) (by rw[n];unfold Dr.act at *;lia) (t:=2*(t+1)+1)
      (by rw[n]at hl;lia) (by unfold Dr.act at *;lia) (by rw[n];lia)
     rw[n]at i hl
     have F:¬(K.act m t/\K.h m (2*t+1)<K.h e (2*t+1)):=by intro h;have:=h.1;unfold Dr.act at this;rw[n]at this;lia
     have a:K.act m (t+1):=by unfold Dr.act;rw[n];lia
     rw[Wh F,Wh j,Wi n];by_cases u:2*(K.D*K.Y v)<K.h e (2*K.X v)
     ·rw[Wi ⟨a,i.2 u⟩];simp[U,u];lia
     ·rw[Wh (fun h=>u (i.1 h.2))];simp[U,u]
    ·have J:K.X m.1≠t+1:=by rw[<-I];exact fun h=>n ((O.DK B z).1 h)
     have a2:K.X m.2≠t+1:=by rw[<-I];exact fun h=>j ((O.FX B z).1 h)
     grind
  unfold Dr.bl;rw[Qr key,ZL,XF,XE,hc];omega
 ·unfold Dr.bl;apply Qr;intro m z;have J:K.X m.1≠t+1:=fun h=>B ⟨m.1,⟨m,z,G4 Z⟩,h⟩;have a2:K.X m.2≠t+1:=fun h=>B ⟨m.2,⟨m,z,UH Z⟩,h⟩;grind
theorem Dr.Ok.sF{K:Dr}(O:K.Ok){N:Nat×Nat->Int}(C:K.Cons N){e:WA}(n:e∈K.E){t:Int}
  (h1:K.act e t) (k:Nat) (h2:K.act e (t+k)):K.bl N e t=K.bl N e (t+k):=by
 induction k with
 |zero=>simp
 | succ k z=>
  have j:K.act e (t+k):=by unfold Dr.act at *;lia
  rw[z j];have:=O.vh C n j (by unfold Dr.act at *;lia);rw[this];congr 1;lia
theorem Dr.Ok.dj{K:Dr}(O:K.Ok){N:Nat×Nat->Int}(C:K.Cons N){e:WA}(j:e∈K.E){t u:Int}
  (h1:K.act e t) (h2:K.act e u):K.bl N e t=K.bl N e u:=by
 rcases Qbm t u with h|h
 ·have:=O.sF C j h1 (u-t).toNat (by rw[Int.toNat_of_nonneg L];rwa [show t+(u-t)=u by lia]);grind
 ·have:=O.sF C j h2 (t-u).toNat (by rw[Int.toNat_of_nonneg L];rwa [show u+(t-u)=t by lia]);grind
def Dr.base(K:Dr)(N:Nat×Nat->Int)(v:Nat):Int:=
 su K.E (fun m=>if K.X m.1<K.X v/\K.X v<K.X m.2/\K.h m (2*K.X v)<2*(K.D*K.Y v) then N m else 0)
theorem Dr.dB{K:Dr}(O:K.Ok){e:WA}(j:e∈K.E)(k:Int):K.h e (2*K.X e.2-k)=2*(K.D*K.Y e.2)-K.s e*k:=by have:=O.slope e j;unfold Dr.h;grind
theorem Dr.dF(K:Dr)(e:WA)(k:Int):K.h e (2*K.X e.1+k)=2*(K.D*K.Y e.1)+K.s e*k:=by unfold Dr.h;grind
theorem Dr.Ok.Ad{K:Dr}(O:K.Ok)(N:Nat×Nat->Int){i:WA}(hi:i∈K.E) :
  K.bl N i (K.X i.2-1)=K.base N i.2+su K.E (fun m=>if m.2=i.2/\K.s i<K.s m then N m else 0):=by
 unfold Dr.bl Dr.base;rw[<-ZL];apply Qr;intro m j;have hl:=O.left m j;have n:=O.left i hi;have z:=Dr.dB O hi 1;by_cases q:m.2=i.2
 ·have B:=Dr.dB O j 1;lia
 ·have F:K.X m.2≠K.X i.2:=fun h=>q ((O.wZ j hi).1 h);rw[Wh (c:=m.2=i.2/\K.s i<K.s m) (by simp[q])];by_cases a:K.X m.1<K.X i.2/\K.X i.2<K.X m.2
  ·have G:=O.f' (i:=i) (e:=m) hi j a.1 a.2 (t:=2*(K.X i.2-1)+1) L L L;have cl:=(O.clear m j i hi).2 a.1 a.2;have I:=O.distinct hi j (by intro h;subst h;exact q Z) (t:=2*(K.X i.2-1)+1) L L L L;lia
  lia
theorem Dr.Ok.sR{K:Dr}(O:K.Ok)(N:Nat×Nat->Int){o:WA}(j:o∈K.E) :
  K.bl N o (K.X o.1)=K.base N o.1+su K.E (fun m=>if m.1=o.1/\K.s m<K.s o then N m else 0):=by
 unfold Dr.bl Dr.base;rw[<-ZL];apply Qr;intro m n;have hl:=O.left m n;have z:=O.left o j;have B:=Dr.dF K o 1;by_cases q:m.1=o.1
 ·have F:=Dr.dF K m 1;lia
 ·have G:K.X m.1≠K.X o.1:=fun h=>q ((O.Aj n j).1 h);rw[Wh (c:=m.1=o.1/\K.s m<K.s o) (by simp[q])];by_cases a:K.X m.1<K.X o.1/\K.X o.1<K.X m.2
  ·have I:=O.eL (o:=o) (e:=m) j n a.1 a.2 (t:=2*K.X o.1+1) L L L;have cl:=(O.clear m n o j).1 a.1 a.2;have J:=O.distinct j n (by intro h;subst h;exact q Z) (t:=2*K.X o.1+1) L L L L;lia
  lia
def Dr.a5(K:Dr)(d:WA):Prop:=d∈K.E\/(d.2,d.1)∈K.E
def Dr.ln(K:Dr)(d:WA):WA:=if K.X d.1<K.X d.2 then d else(d.2,d.1)
def Dr.Wd(K:Dr)(N:Nat×Nat->Int)(d:WA):Int:=
 if K.X d.1<K.X d.2 then K.bl N d (K.X d.1)+N d else K.bl N (d.2,d.1) (K.X d.2)
def Dr.fl(K:Dr)(N:Nat×Nat->Int)(d:WA):Int:=
 if K.X d.1<K.X d.2 then N d else-N (d.2,d.1)
theorem Dr.Ok.cJ{K:Dr}(O:K.Ok){d:WA}(h:K.a5 d):(K.X d.1<K.X d.2/\d∈K.E)\/(K.X d.2<K.X d.1/\(d.2,d.1)∈K.E):=by
 rcases h with h|h
 ·exact G4 ⟨O.left d h,h⟩
 ·exact UH ⟨O.left _ h,h⟩
theorem Dr.a5.rev{K:Dr}{d:WA}(h:K.a5 d):K.a5 (d.2,d.1):=h.symm
theorem Dr.Ok.W1{K:Dr}(O:K.Ok)(N:Nat×Nat->Int){d:WA}(h:K.a5 d) :
  K.Wd N d-K.Wd N (d.2,d.1)=K.fl N d:=by
 unfold Dr.Wd Dr.fl;rcases O.cJ h with⟨a,_⟩|⟨a,_⟩;all_goals lia
theorem Dr.Ok.fQ{K:Dr}(O:K.Ok){e f:WA}(j:e∈K.E)(hf:f∈K.E)(h:e.2=f.2)(z:K.s e=K.s f):e=f:=by apply xJ;intro n;have h1:=Dr.dB O j 1;have h2:=Dr.dB O hf 1;have B:=O.left e j;have F:=O.left f hf;rw[h]at h1 B;exact O.distinct j hf n (t:=2*K.X f.2-1) L L (by rw[h];lia) L (by rw[h1,h2,z])
theorem Dr.Ok.eP{K:Dr}(O:K.Ok){e f:WA}(n:e∈K.E)(hf:f∈K.E)(h:e.1=f.1)(z:K.s e=K.s f):e=f:=by apply xJ;intro j;have h1:=Dr.dF K e 1;have h2:=Dr.dF K f 1;have B:=O.left e n;have F:=O.left f hf;rw[h]at h1 B;exact O.distinct n hf j (t:=2*K.X f.1+1) (by rw[h];lia) L L L (by rw[h1,h2,z])
theorem Dr.Ok.tI{K:Dr}(O:K.Ok){N:Nat×Nat->Int}(C:K.Cons N){u v:Nat} (h:(u,v)∈K.E) :
  K.Wd N (u,v)=K.base N v+su K.E (fun m=>if m.2=v/\K.s (u,v)<=K.s m then N m else 0):=by
 have hl:=O.left _ h;unfold Dr.Wd;rw[Wi hl,O.dj C h (t:=K.X (u,v).1) (u:=K.X (u,v).2-1) (by constructor<;>lia) (by constructor<;>lia),O.Ad N h];show K.base N v+su K.E _+N (u,v)=_
 have:su K.E (fun m=>if m.2=v/\K.s (u,v)<=K.s m then N m else 0) =
   su K.E (fun m=>if m.2=v/\K.s (u,v)<K.s m then N m else 0)+N (u,v):=by
  rw[<-ZU O.nodup h N,<-ZL];apply Qr;intro m j;by_cases q:m=(u,v)
  ·subst q;simp
  ·rw[Wh q];by_cases c:m.2=v
   ·have:K.s (u,v)≠K.s m:=fun n=>q (O.fQ j h c n.symm);lia
   ·simp[c]
 lia
theorem Dr.Ok.nh{K:Dr}(O:K.Ok)(N:Nat×Nat->Int){u v:Nat} (h:(v,u)∈K.E) :
  K.Wd N (u,v)=K.base N v+su K.E (fun m=>if m.1=v/\K.s m<K.s (v,u) then N m else 0):=by
 have hl:=O.left _ h;unfold Dr.Wd;rw[Wh (by show ¬K.X u<K.X v;have:K.X v<K.X u:=hl;lia)];exact O.sR N h
theorem Dr.Ok.gw{K:Dr}(O:K.Ok)(N:Nat×Nat->Int){v b:Nat} (h:(v,b)∈K.E) :
  K.Wd N (v,b)=K.base N v+su K.E (fun m=>if m.1=v/\K.s m<=K.s (v,b) then N m else 0):=by
 have hl:=O.left _ h;unfold Dr.Wd;rw[Wi hl,O.sR N h];show K.base N v+su K.E (fun m=>if m.1=v/\K.s m<K.s (v,b) then N m else 0)+N (v,b)=_
 have:su K.E (fun m=>if m.1=v/\K.s m<=K.s (v,b) then N m else 0) =
   su K.E (fun m=>if m.1=v/\K.s m<K.s (v,b) then N m else 0)+N (v,b):=by
  rw[<-ZU O.nodup h N,<-ZL];apply Qr;intro m j;by_cases q:m=(v,b)
  ·subst q;simp
  ·rw[Wh q];by_cases c:m.1=v
   ·have:K.s m≠K.s (v,b):=fun n=>q (O.eP j h c n);lia
   ·simp[c]
 lia
theorem Dr.Ok.lP{K:Dr}(O:K.Ok){N:Nat×Nat->Int}(C:K.Cons N){v b:Nat} (h:(b,v)∈K.E) :
  K.Wd N (v,b)=K.base N v+su K.E (fun m=>if m.2=v/\K.s (b,v)<K.s m then N m else 0):=by
 have hl:K.X b<K.X v:=O.left _ h;unfold Dr.Wd;rw[Wh (by show ¬K.X v<K.X b;lia)];show K.bl N (b,v) (K.X b)=_;rw[O.dj C h (t:=K.X b) (u:=K.X (b,v).2-1) (by constructor<;>(try show K.X b<=K.X b)<;>(try exact hl)<;>lia) (by constructor<;>(try show K.X b<=K.X v-1)<;>(try show K.X v-1<K.X v)<;>lia),O.Ad N h]
def cr(a b:Bool×Int):Int:=if a.1=b.1 then b.2-a.2 else a.2-b.2
def hf(r d:Bool×Int):Int:=if cr r d<0 then 0 else if 0<cr r d then 2 else if r.1=d.1 then 3 else 1
def sn(r a b:Bool×Int):Prop:=hf r a<hf r b\/(hf r a=hf r b/\cr a b<0)
def Dr.ky(K:Dr)(v c:Nat):Bool×Int:=(decide (K.X v<K.X c),K.s (K.ln (v,c)))
def Dr.dS(K:Dr)(u v b:Nat):Prop:=K.a5 (v,b)/\∀c,K.a5 (v,c)->¬sn (K.ky v u) (K.ky v c) (K.ky v b)
theorem Dr.Ok.ck{K:Dr}(O:K.Ok){v c:Nat} (h:(v,c)∈K.E):K.ky v c=(true,K.s (v,c)):=by have hl:K.X v<K.X c:=O.left _ h;unfold Dr.ky Dr.ln;simp[hl]
theorem Dr.Ok.cH{K:Dr}(O:K.Ok){v c:Nat} (h:(c,v)∈K.E):K.ky v c=(false,K.s (c,v)):=by
 have hl:K.X c<K.X v:=O.left _ h;unfold Dr.ky Dr.ln;have:¬K.X v<K.X c:=by lia
 simp[this]
theorem k1{x y z:Int} (h:¬sn (false,x) (false,y) (true,z)):x<=y:=by simp only[sn,hf,cr]at h;lia
theorem k2{x y z:Int} (h:¬sn (false,x) (true,y) (true,z)):y<=z:=by simp only[sn,hf,cr]at h;lia
theorem k3{x y z:Int} (h:¬sn (false,x) (false,y) (false,z)) (hz:z<x):(x<=y↔z<y):=by simp only[sn,hf,cr]at h;lia
theorem k4{x y z:Int} (h:¬sn (false,x) (false,y) (false,z)) (hz:x<=z):x<=y/\y<=z:=by simp only[sn,hf,cr]at h;lia
theorem k5{x y z:Int} (h:¬sn (false,x) (true,y) (false,z)) (hz:x<=z):False:=by simp only[sn,hf,cr]at h;lia
theorem k6{x y z:Int} (h:¬sn (true,x) (true,y) (true,z)) (hz:z<x):(y<x↔y<=z):=by simp only[sn,hf,cr]at h;lia
theorem k7{x y z:Int} (h:¬sn (true,x) (true,y) (true,z)) (hz:x<=z):x<=y/\y<=z:=by simp only[sn,hf,cr]at h;simp at h;split at h<;>(try split at h)<;>(try split at h)<;>(try split at h)<;>(try split at h)<;>lia
theorem k8{x y z:Int} (h:¬sn (true,x) (false,y) (true,z)) (hz:x<=z):False:=by simp only[sn,hf,cr]at h;simp at h;split at h<;>(try split at h)<;>(try split at h)<;>(try split at h)<;>(try split at h)<;>lia
theorem k9{x y z:Int} (h:¬sn (true,x) (true,y) (false,z)):x<=y:=by simp only[sn,hf,cr]at h;simp at h;split at h<;>(try split at h)<;>(try split at h)<;>(try split at h)<;>(try split at h)<;>lia
theorem Dv{x y z:Int} (h:¬sn (true,x) (false,y) (false,z)):y<=z:=by simp only[sn,hf,cr]at h;simp at h;split at h<;>(try split at h)<;>(try split at h)<;>(try split at h)<;>(try split at h)<;>lia
theorem Dr.Ok.W2{K:Dr}(O:K.Ok){N:Nat×Nat->Int}(C:K.Cons N){u v b:Nat} (h:K.a5 (u,v)) (hb:K.dS u v b) :
  K.Wd N (u,v)=K.Wd N (v,b):=by
 obtain⟨hd,hn⟩:=hb
 have n:∀m∈K.E,m.2=v->¬sn (K.ky v u) (false,K.s m) (K.ky v b):=by
  intro m j e;have:(m.1,v)∈K.E:=by rw[<-e];exact j
  have k:=hn m.1 (UH this);rw[O.cH this]at k;rw[show m=(m.1,v) by rw[<-e]];exact k
 have out:∀m∈K.E,m.1=v->¬sn (K.ky v u) (true,K.s m) (K.ky v b):=by
  intro m j e;have:(v,m.2)∈K.E:=by rw[<-e];exact j
  have k:=hn m.2 (G4 this);rw[O.ck this]at k;rw[show m=(v,m.2) by rw[<-e]];exact k
 have hc:=C v
 have I:∀(p:Nat×Nat->Prop) [DecidablePred p],(∀m∈K.E,m.2=v->p m)->
   su K.E (fun m=>if m.2=v/\p m then N m else 0)=su K.E (fun m=>if m.2=v then N m else 0):=by
  intro p _ B;apply Qr;intro m j;by_cases q:m.2=v
  ·simp[q,B m j q]
  ·simp[q]
 have J:∀(p:Nat×Nat->Prop) [DecidablePred p],(∀m∈K.E,m.1=v->p m)->
   su K.E (fun m=>if m.1=v/\p m then N m else 0)=su K.E (fun m=>if m.1=v then N m else 0):=by
  intro p _ B;apply Qr;intro m j;by_cases q:m.1=v
  ·simp[q,B m j q]
  ·simp[q]
 have F:∀(p:Nat×Nat->Prop) [DecidablePred p],(∀m∈K.E,m.2=v->¬p m)->
   su K.E (fun m=>if m.2=v/\p m then N m else 0)=0:=by
  intro p _ B;apply Q1;intro m j;rw[Wh (fun h=>B m j h.1 h.2)]
 have G:∀(p:Nat×Nat->Prop) [DecidablePred p],(∀m∈K.E,m.1=v->¬p m)->
   su K.E (fun m=>if m.1=v/\p m then N m else 0)=0:=by
  intro p _ B;apply Q1;intro m j;rw[Wh (fun h=>B m j h.1 h.2)]
 have U:∀(p q:Nat×Nat->Prop) [DecidablePred p] [DecidablePred q],(∀m∈K.E,m.2=v->(p m↔q m))->
   su K.E (fun m=>if m.2=v/\p m then N m else 0)=su K.E (fun m=>if m.2=v/\q m then N m else 0):=by
  intro p q _ _ B;apply Qr;intro m j;by_cases c:m.2=v
  ·simp[c,B m j c]
  ·simp[c]
 have aa:∀(p q:Nat×Nat->Prop) [DecidablePred p] [DecidablePred q],(∀m∈K.E,m.1=v->(p m↔q m))->
   su K.E (fun m=>if m.1=v/\p m then N m else 0)=su K.E (fun m=>if m.1=v/\q m then N m else 0):=by
  intro p q _ _ B;apply Qr;intro m j;by_cases c:m.1=v
  ·simp[c,B m j c]
  ·simp[c]
 rcases h with h|h
 ·rw[O.cH h] at n out;rw[O.tI C h];rcases hd with hd | hd
  ·rw[O.ck hd] at n out
   rw[O.gw N hd,I (fun m=>K.s (u,v)<=K.s m) (fun m j q=>k1 (n m j q)),
    J (fun m=>K.s m<=K.s (v,b)) (fun m j q=>k2 (out m j q)),hc]
  ·have hd:(b,v)∈K.E:=hd;rw[O.cH hd] at n out;rw[O.lP C hd];by_cases z:K.s (b,v)<K.s (u,v)
   ·rw[U (fun m=>K.s (u,v)<=K.s m) (fun m=>K.s (b,v)<K.s m) (fun m j q=>k3 (n m j q) z)]
   ·have z:K.s (u,v)<=K.s (b,v):=by lia
    rw[I (fun m=>K.s (u,v)<=K.s m) (fun m j q=>(k4 (n m j q) z).1),
     F (fun m=>K.s (b,v)<K.s m) (fun m j q=>by have:=(k4 (n m j q) z).2;lia),hc]
    congr 1;apply Q1;intro m j;by_cases q:m.1=v
    ·exact(k5 (out m j q) z).elim
    ·simp[q]
 ·have h:(v,u)∈K.E:=h;rw[O.ck h] at n out;rw[O.nh N h];rcases hd with hd | hd
  ·rw[O.ck hd] at n out;rw[O.gw N hd];by_cases z:K.s (v,b)<K.s (v,u)
   ·rw[aa (fun m=>K.s m<K.s (v,u)) (fun m=>K.s m<=K.s (v,b)) (fun m j q=>k6 (out m j q) z)]
   ·have z:K.s (v,u)<=K.s (v,b):=by lia
    rw[J (fun m=>K.s m<=K.s (v,b)) (fun m j q=>(k7 (out m j q) z).2),
     G (fun m=>K.s m<K.s (v,u)) (fun m j q=>by have:=(k7 (out m j q) z).1;lia),<-hc]
    congr 1;symm;apply Q1;intro m j;by_cases q:m.2=v
    ·exact(k8 (n m j q) z).elim
    ·simp[q]
  ·have hd:(b,v)∈K.E:=hd;rw[O.cH hd] at n out
   rw[O.lP C hd,G (fun m=>K.s m<K.s (v,u)) (fun m j q=>by have:=k9 (out m j q);lia),
    F (fun m=>K.s (b,v)<K.s m) (fun m j q=>by have:=Dv (n m j q);lia)]
theorem rH(a b:Bool)(x y:Int):cr (a,x) (b,y)=if a=b then y-x else x-y:=rfl
theorem lX(r d:Bool×Int):(cr r d<0/\hf r d=0)\/(0<cr r d/\hf r d=2)\/(cr r d=0/\r.1=d.1/\hf r d=3)\/(cr r d=0/\r.1≠d.1/\hf r d=1):=by unfold hf;lia
def kk(M:Int)(a:Bool×Int):Int:=if a.1=true then a.2 else M+a.2
def Bd(M:Int)(a:Bool×Int):Prop:=-M<2*a.2/\2*a.2<M
theorem JA{M N:Int}{a:Bool×Int}(h:Bd M a)(l:M<=N):Bd N a:=⟨by have:=h.1;lia,by have:=h.2;lia⟩
theorem sO(x:Bool×Int):∃M,0<=M/\Bd M x:=by refine⟨if 0<=x.2 then 2*x.2+1 else 1-2*x.2,?_⟩;unfold Bd;split<;>lia
theorem tH {P Q:(Bool×Int)}:∃M,0<=M/\Bd M P/\Bd M Q:=by obtain⟨m,z,p⟩:=sO P;obtain⟨n,y,q⟩:=sO Q;exact⟨m+n,by lia,JA p L,JA q L⟩
theorem gq(a b c d:Bool×Int):∃M,Bd M a/\Bd M b/\Bd M c/\Bd M d:=by obtain⟨m,z,p,q⟩:=@tH a b;obtain⟨n,y,r,s⟩:=@tH c d;exact⟨m+n,JA p L,JA q L,JA r L,JA s L⟩
theorem kW{M:Int}{a b:Bool×Int}(j:Bd M a)(n:Bd M b)(h:kk M a=kk M b):a=b:=by obtain⟨f,x⟩:=a;obtain⟨g,y⟩:=b;unfold Bd at *;cases f<;>cases g<;>simp[kk]at *<;>lia
theorem i4{M:Int}{a b:Bool×Int}(j:Bd M a)(n:Bd M b):(cr a b<0↔if kk M b<kk M a then kk M a<kk M b+M else kk M a+M<kk M b):=by obtain⟨f,x⟩:=a;obtain⟨g,y⟩:=b;obtain⟨h1,h2⟩:=j;obtain⟨z,B⟩:=n;cases f<;>cases g<;>simp[kk,rH]at *<;>lia
theorem FF(a b:Bool×Int):cr b a = - cr a b:=by unfold cr;lia
theorem ve{M:Int}{a b:Bool×Int}(j:Bd M a)(n:Bd M b)(h:cr a b=0):(a.1=b.1↔kk M a=kk M b):=by obtain⟨f,x⟩:=a;obtain⟨g,y⟩:=b;obtain⟨h1,h2⟩:=j;obtain⟨z,B⟩:=n;cases f<;>cases g<;>simp[kk,rH]at *<;>lia
theorem rL{M:Int}{r d:Bool×Int}(hr:Bd M r)(hd:Bd M d) :
  hf r d=(if kk M d<kk M r then(if kk M r<kk M d+M then 0 else if kk M d+M<kk M r then 2 else 1) else if kk M d=kk M r then 3 else if kk M r+M<kk M d then 0 else if kk M d<kk M r+M then 2 else 1):=by
 have n:=i4 hr hd;have j:=i4 hd hr;have z:=ve hr hd;rw[FF r d]at j;unfold hf;lia
theorem rJ{M:Int}{a:Bool×Int}(j:Bd M a) : -M<2*kk M a/\2*kk M a<3*M:=by obtain⟨h1,h2⟩:=j;unfold kk;split<;>lia
theorem Xk{M:Int}{r a b:Bool×Int}(hr:Bd M r)(j:Bd M a)(n:Bd M b) :
  sn r a b↔(kk M a<kk M r/\kk M r<=kk M b)\/((kk M a<kk M r↔kk M b<kk M r)/\kk M b<kk M a):=by
 unfold sn;rw[i4 j n,rL hr j,rL hr n];have z:=rJ hr;have B:=rJ j;have F:=rJ n;grind
theorem CG{a b c x:Bool×Int}(h1:¬sn a c b)(h2:¬sn a x b)(z:b≠c)(G:sn b x c):sn a x c:=by obtain⟨M,B,j,n,F⟩:=gq a b c x;rw[Xk B n j]at h1;rw[Xk B F j]at h2;rw[Xk j F n]at G;rw[Xk B F n];have I:=fun e=>z (kW j n e);lia
theorem gB{r a b c:Bool×Int}(h1:sn r a b)(h2:sn r b c):sn r a c:=by obtain⟨M,j,n,z,B⟩:=gq r a b c;rw[Xk j n z]at h1;rw[Xk j z B]at h2;rw[Xk j n B];lia
theorem AK{x y z:Bool×Int}(h1:¬sn x y z)(h2:¬sn y x z):x=y:=by obtain⟨M,j,b,n,_⟩:=gq x y z z;rw[Xk j b n]at h1;rw[Xk b j n]at h2;refine kW j b ?_;lia
theorem iJ{a b c:Bool×Int}(h1:¬sn a c b)(j:b≠c):sn a b c:=by obtain⟨M,B,n,z,_⟩:=gq a b c c;rw[Xk B z n]at h1;rw[Xk B n z];have F:=fun e=>j (kW n z e);lia
theorem mC{b c:Bool×Int}:¬sn b b c:=by obtain⟨M,j,n,_⟩:=gq b c c c;rw[Xk j j n];lia
structure Dr.dY(K:Dr)(nx:Nat×Nat->WA):Prop where
 fst:∀d,K.a5 d->(nx d).1=d.2
 next:∀d,K.a5 d->K.dS d.1 d.2 (nx d).2
theorem Dr.dY.dD{K:Dr}{nx:Nat×Nat->WA}(R:K.dY nx){d:WA}(h:K.a5 d):K.a5 (nx d):=by have:=(R.next d h).1;rw[<-R.fst d h]at this;exact this
theorem Dr.Ok.dP{K:Dr}(O:K.Ok){v a b:Nat} (j:K.a5 (v,a)) (n:K.a5 (v,b)) (h:K.ky v a=K.ky v b):a=b:=by
 rcases j with j|j<;>rcases n with n|n
 ·rw[O.ck j,O.ck n]at h;have:=O.eP j n Z (by simpa using h);lia
 ·have n:(b,v)∈K.E:=n;rw[O.ck j,O.cH n]at h;simp at h
 ·have j:(a,v)∈K.E:=j;rw[O.cH j,O.ck n]at h;simp at h
 ·have j:(a,v)∈K.E:=j;have n:(b,v)∈K.E:=n;rw[O.cH j,O.cH n]at h;have:=O.fQ j n Z (by simpa using h);lia
theorem Dr.Ok.i8{K:Dr}(O:K.Ok){nx:Nat×Nat->WA}(R:K.dY nx){d e:WA}(hd:K.a5 d)(j:K.a5 e)(h:nx d=nx e):d=e:=by
 have h2:d.2=e.2:=by rw[<-R.fst d hd,<-R.fst e j,h]
 have n:=R.next d hd;have F:=R.next e j;rw[h2,h]at n;have z:K.a5 (e.2,d.1):=by rw[<-h2];exact hd.rev
 have B:K.a5 (e.2,e.1):=j.rev;have:=AK (n.2 _ B) (F.2 _ z);have:=O.dP z B this;exact Prod.ext this h2
def Dr.nb(K:Dr)(v:Nat):List Nat:=(K.E.filter (fun m=>m.1=v)).map (·.2)++(K.E.filter (fun m=>m.2=v)).map (·.1)
theorem Dr.kr{K:Dr}{v c:Nat}:c∈K.nb v↔K.a5 (v,c):=by unfold Dr.nb Dr.a5;simp only[List.mem_append,List.mem_map,VL,Wp];grind
open Classical in
theorem Dr.Ok.rA{K:Dr}(O:K.Ok){nx:Nat×Nat->WA}(R:K.dY nx)(v:Nat)(P:Nat->Prop)
  (hP:∀a,K.a5 (v,a)->P a->P (nx (a,v)).2) {c:Nat} (hc:K.a5 (v,c)) :
  ∀(n:Nat)(a:Nat),K.a5 (v,a)->P a->((K.nb v).filter (fun x=>decide (sn (K.ky v a) (K.ky v x) (K.ky v c)))).length<=n->P c:=by
 intro n;induction n with
 | zero=>
  intro a U I hn;apply xJ;intro aa;have hb:=hP a U I;have j:=R.next (a,v) U.rev;have J:(nx (a,v)).2≠c:=by intro e;rw[e]at hb;exact aa hb
  have t:=iJ (j.2 c hc) (fun e=>J (O.dP j.1 hc e))
  have:(nx (a,v)).2∈(K.nb v).filter (fun x=>decide (sn (K.ky v a) (K.ky v x) (K.ky v c))):=by rw[VL];exact⟨Dr.kr.2 j.1,by simpa using t⟩
  have:0<((K.nb v).filter (fun x=>decide (sn (K.ky v a) (K.ky v x) (K.ky v c)))).length:=Vn this;lia
 | succ n ih=>
  intro a U I hn;have hb:=hP a U I;have j:=R.next (a,v) U.rev;by_cases J:(nx (a,v)).2=c
  ·lia
  ·have F:K.ky v (nx (a,v)).2≠K.ky v c:=fun e=>J (O.dP j.1 hc e);have t:=iJ (j.2 c hc) F;apply ih (nx (a,v)).2 j.1 hb
   have ad:((K.nb v).filter (fun x=>decide (sn (K.ky v (nx (a,v)).2) (K.ky v x) (K.ky v c)))).length
     < ((K.nb v).filter (fun x=>decide (sn (K.ky v a) (K.ky v x) (K.ky v c)))).length:=by
    have G:∀x∈K.nb v,sn (K.ky v (nx (a,v)).2) (K.ky v x) (K.ky v c)->sn (K.ky v a) (K.ky v x) (K.ky v c):=by intro x hx h3;exact CG (j.2 c hc) (j.2 x (Dr.kr.1 hx)) F h3
    have B:=Dr.kr.2 j.1;show _<_;generalize K.nb v=l at *;clear ih hn;induction l with
    |nil=>simp at B
    | cons y l ac=>
     have step:∀x∈l,sn (K.ky v (nx (a,v)).2) (K.ky v x) (K.ky v c)->sn (K.ky v a) (K.ky v x) (K.ky v c):=
      fun x hx=>G x (xT _ hx)
     have le:((l.filter (fun x=>decide (sn (K.ky v (nx (a,v)).2) (K.ky v x) (K.ky v c)))).length
       <= (l.filter (fun x=>decide (sn (K.ky v a) (K.ky v x) (K.ky v c)))).length):=by
      clear ac G B;induction l with
      |nil=>simp
      | cons z l ab=>
       have:=ab (fun x hx=>step x (xT _ hx));have hz:=step z We;by_cases q1:sn (K.ky v (nx (a,v)).2) (K.ky v z) (K.ky v c)
       ·grind
       ·grind
     rcases List.mem_cons.1 B with e|B
     ·subst e;rw[Qbb (by simpa using mC),VP (by simpa using t)];grind
     ·grind
   lia
theorem Dr.Ok.turn{K:Dr}(O:K.Ok){nx:Nat×Nat->WA}(R:K.dY nx)(v:Nat)(P:Nat->Prop)
  (j:∀a,K.a5 (v,a)->P a->P (nx (a,v)).2) {a c:Nat} (n:K.a5 (v,a)) (hc:K.a5 (v,c)) (h:P a):P c:=
 O.rA R v P j hc _ a n h (xO _)
abbrev Dt:=Nat×Nat
variable {S:Plan} {K:Dr} {nx:Dt->Dt} {d:Dt} {α:Type} {k:Nat}
def it(nx:Dt->Dt):Nat->Dt->Dt
 |0,d=>d
 |k+1,d=>nx (it nx k d)
theorem Yz(nx:Dt->Dt)(k:Nat)(d:Dt):it nx (k+1) d=nx (it nx k d):=rfl
theorem Xb(nx:Dt->Dt)(j k:Nat)(d:Dt):it nx (j+k) d=it nx j (it nx k d):=by
 induction j with
 |zero=>simp[it]
 |succ j n=>rw[Nat.succ_add,Yz,Yz,n]
theorem Dr.dY.bE(R:K.dY nx)(h:K.a5 d)(k:Nat):K.a5 (it nx k d):=by
 induction k with
 |zero=>exact h
 |succ k j=>exact R.dD j
theorem Dr.Ok.kZ(O:K.Ok)(R:K.dY nx){d e:Dt}(hd:K.a5 d)(j:K.a5 e)(k:Nat)(h:it nx k d=it nx k e):d=e:=by
 induction k with
 |zero=>exact h
 |succ k n=>exact n (O.i8 R (R.bE hd k) (R.bE j k) h)
def wk(nx:Dt->Dt)(d:Dt)(k:Nat):List Dt:=(xP k).map (fun j=>it nx j d)
theorem Zv{d x:Dt}:x∈wk nx d k↔∃j,j<k/\it nx j d=x:=by simp[wk]
theorem bc(nx:Dt->Dt)(d:Dt)(k:Nat):(wk nx d k).length=k:=by simp[wk]
theorem lF(nx:Dt->Dt)(d:Dt)(k:Nat):wk nx d (k+1)=wk nx d k++[it nx k d]:=by simp[wk,U1]
theorem least{P:Nat->Prop}(h:∃n,P n):∃n,P n/\∀m,m<n->¬P m:=by
 apply xJ;intro hc;obtain⟨n,j⟩:=h
 have:∀n,¬P n:=by
  intro n;induction n using Nat.strongRecOn with
  |ind n z=>exact fun B=>hc ⟨n,B,z⟩
 exact this n j
theorem bP [DecidableEq α]:∀{l m:List α},l.Nodup->(∀x∈l,x∈m)->l.length<=m.length
 |[],m,_,_=>by simp
 | a::l,m,hn,hs=>by
  have j:=hs a We;rw[U3]at hn
  have:=bP (l:=l) (m:=m.erase a) hn.2 (fun x n=>by
   grind)
  rw[Uf j]at this;have:=Vn j;simp only[xQ];lia
def Dr.ej(K:Dr):List Dt:=K.E++K.E.map (fun m=>(m.2,m.1))
theorem Dr.dN:d∈K.ej↔K.a5 d:=by unfold Dr.ej Dr.a5;grind
theorem Dr.cW(K:Dr):K.ej.length=2*K.E.length:=by simp[Dr.ej];lia
structure eG(nx:Dt->Dt)(d:Dt)(k:Nat):Prop where
 pos:0<k
 back:it nx k d=d
 first:∀j,0<j->j<k->it nx j d≠d
theorem zd{f:Nat->α}(h:∀i j,i<j->j<k->f i≠f j):((xP k).map f).Nodup:=by
 unfold List.Nodup;rw[List.pairwise_map]
 have:(xP k).Pairwise (fun a b=>a<b/\b<k):=by rw[UY];intro i j hi z B;simp at hi z;simp;lia
 exact this.imp (fun {a b} n=>h a b n.1 n.2)
theorem Dr.Ok.cK(O:K.Ok)(R:K.dY nx)(hd:K.a5 d)(h:∀j,0<j->j<k->it nx j d≠d):(wk nx d k).Nodup:=by
 apply zd;intro i j n B e
 have z:it nx i d=it nx i (it nx (j-i) d):=by rw[<-Xb,show i+(j-i)=j by lia];exact e
 have:=O.kZ R hd (R.bE hd _) i z;exact h (j-i) L L this.symm
theorem Dr.Ok.Bk(O:K.Ok)(R:K.dY nx)(hd:K.a5 d):∃k,eG nx d k/\k<=2*K.E.length:=by
 have ex:∃k,0<k/\it nx k d=d:=by
  apply xJ;intro hc;have n:(wk nx d (2*K.E.length+1)).Nodup:=O.cK R hd (fun j h0 _ e=>hc ⟨j,h0,e⟩)
  have:=bP (m:=K.ej) n (fun x z=>by
   obtain⟨j,_,rfl⟩:=Zv.1 z;exact Dr.dN.2 (R.bE hd j))
  rw[bc,Dr.cW]at this;lia
 obtain⟨k,⟨h0,h1⟩,h2⟩:=least ex;have hf:∀j,0<j->j<k->it nx j d≠d:=fun j F B e=>h2 j B ⟨F,e⟩;refine⟨k,⟨h0,h1,hf⟩,?_⟩;have n:(wk nx d k).Nodup:=O.cK R hd hf
 have:=bP (m:=K.ej) n (fun x z=>by
  obtain⟨j,_,rfl⟩:=Zv.1 z;exact Dr.dN.2 (R.bE hd j))
 rw[bc,Dr.cW]at this;exact this
theorem eG.nodup(O:K.Ok)(R:K.dY nx)(hd:K.a5 d)(p:eG nx d k):(wk nx d k).Nodup:=
 O.cK R hd p.first
theorem AM(h:it nx k d=d)(n:Nat):it nx (k*n) d=d:=by
 induction n with
 |zero=>rfl
 |succ n j=>rw[Qbl,Xb,h,j]
theorem eG.mod(p:eG nx d k)(n:Nat):it nx n d=it nx (n%k) d:=by
 have h:=Nat.div_add_mod n k;have:it nx n d=it nx (n%k+k*(n/k)) d:=by rw[U7,h]
 rw[this,Xb,AM p.back]
theorem eG.mem{d x:Dt}(p:eG nx d k):x∈wk nx d k↔∃j,it nx j d=x:=by
 rw[Zv];constructor
 ·rintro⟨j,_,h⟩;exact⟨j,h⟩
 ·rintro⟨j,h⟩;exact⟨j%k,Nat.mod_lt _ p.pos,by rw[<-p.mod];exact h⟩
theorem eG.Bc(O:K.Ok)(R:K.dY nx){d x:Dt}(hd:K.a5 d)(n:K.a5 x)(p:eG nx d k) :
  nx x∈wk nx d k↔x∈wk nx d k:=by
 rw[p.mem,p.mem];constructor
 ·rintro⟨j,h⟩;have:it nx (j+k) d=nx x:=by rw[Xb,p.back,h]
  rw[show j+k=(j+k-1)+1 by have:=p.pos;lia,Yz]at this;exact⟨_,O.i8 R (R.bE hd _) n this⟩
 ·rintro⟨j,h⟩;exact⟨j+1,by rw[Yz,h]⟩
def Q3(C:List Dt)(e:Dt):Int:=(if e∈C then 1 else 0)-(if(e.2,e.1)∈C then 1 else 0)
theorem Dr.Ok.gh(O:K.Ok)(h1:d∈K.E) (h2:(d.2,d.1)∈K.E):False:=by have a:=O.left _ h1;have b:=O.left _ h2;lia
theorem Dr.Ok.dI(O:K.Ok){C:List Dt}(n:C.Nodup)(z:∀d∈C,K.a5 d)(f:Dt->Int) :
  su C f=su K.E (fun m=>(if m∈C then f m else 0)+(if(m.2,m.1)∈C then f (m.2,m.1) else 0)):=by
 rw[ZL]
 have B:∀m∈K.E,(if m∈C then f m else 0)=su C (fun d=>if d=m then f d else 0):=by
  intro m _;by_cases h:m∈C
  ·rw[Wi h,ZU n h]
  ·rw[Wh h,mL h]
 have F:∀m∈K.E,(if(m.2,m.1)∈C then f (m.2,m.1) else 0)=su C (fun d=>if d=(m.2,m.1) then f d else 0):=by
  intro m _;by_cases h:(m.2,m.1)∈C
  ·rw[Wi h,ZU n h]
  ·rw[Wh h,mL h]
 rw[Qr B,Qr F,XX,XX (l:=K.E),<-ZL];apply Qr;intro d hd;rcases z d hd with h|h
 ·have a:su K.E (fun m=>if d=m then f d else 0)=f d:=by
   refine(Qr ?_).trans (ZU O.nodup h (fun _=>f d));intro m _;by_cases q:d=m
   ·simp[q]
   ·lia
  have b:su K.E (fun m=>if d=(m.2,m.1) then f d else 0)=0:=by apply Q1;intro m j;apply Wh;intro e;apply O.gh h;lia
  lia
 ·have a:su K.E (fun m=>if d=m then f d else 0)=0:=by apply Q1;intro m j;apply Wh;intro e;rw[<-e] at j;exact O.gh j h
  have b:su K.E (fun m=>if d=(m.2,m.1) then f d else 0)=f d:=by refine(Qr ?_).trans (ZU O.nodup h (fun _=>f d));lia
  lia
theorem Dr.Ok.cO(O : K.Ok){C : List Dt}(j : C.Nodup)(n : ∀d∈C, K.a5 d)
    (hc : ∀v : Nat, su C (fun d => if d.2=v then 1 else 0)=su C (fun d => if d.1=v then 1 else 0)) : K.Cons (Q3 C) := by
  intro v; have h := hc v; rw [O.dI j n, O.dI j n]at h
  have : su K.E (fun m => if m.2=v then Q3 C m else 0)-su K.E (fun m => if m.1=v then Q3 C m else 0)=0 := by
    rw [<- XE]
    have h' : su K.E (fun m => (((if m∈C then(if m.2=v then 1 else 0) else 0)+(if(m.2, m.1)∈C then(if(m.2, m.1).2=v then 1 else 0) else 0)) : Int)
      - ((if m∈C then(if m.1=v then 1 else 0) else 0)+(if(m.2, m.1)∈C then(if(m.2, m.1).1=v then 1 else 0) else 0)))=0 := by
      rw [XE, h]; lia
    refine(Qr ?_).trans h'; intro m _; unfold Q3
    by_cases a : m ∈ C <;> by_cases b : (m.2, m.1) ∈ C <;> simp only [a, b, Wq, Wr] <;>
      by_cases c : m.1=v<;>by_cases d : m.2=v<;>simp only [c, d, Wq, Wr]<;>lia
  lia
theorem Dr.dY.nV(R:K.dY nx)(hd:K.a5 d)(v:Nat)(k:Nat) :
  su (wk nx d k) (fun d=>if d.2=v then 1 else 0)+(if d.1=v then 1 else 0) =
  su (wk nx d k) (fun d=>if d.1=v then 1 else 0)+(if(it nx k d).1=v then 1 else 0):=by
 induction k with
 |zero=>rfl
 | succ k j=>
  rw[lF,Yh,Yh,QQ,ZV,QQ,ZV];have:(it nx (k+1) d).1=(it nx k d).2:=R.fst _ (R.bE hd k);rw[this];lia
theorem Dr.Ok.cM(O:K.Ok)(R:K.dY nx)(hd:K.a5 d)
  (n:(wk nx d k).Nodup) (z:(it nx k d).1=d.1):K.Cons (Q3 (wk nx d k)):=by
 apply O.cO n
 ·intro x B;obtain⟨j,_,rfl⟩:=Zv.1 B;exact R.bE hd j
 ·intro v;have:=R.nV hd v k;rw[z]at this;lia
theorem Dr.Ok.lI(O:K.Ok)(C:List Dt)(hd:K.a5 d) :
  K.fl (Q3 C) d=(if d∈C then 1 else 0)-(if(d.2,d.1)∈C then 1 else 0):=by
 unfold Dr.fl Q3;lia
def Dr.oW(K:Dr):Prop:=∀(Q:Nat->Prop)(d e:Dt),K.a5 d->K.a5 e->(∀x,K.a5 x->Q x.1->Q x.2)->Q d.1->Q e.1
def Dr.mi(K:Dr)(v:Nat):Prop:=∀(Q:Nat->Prop)(d e:Dt),K.a5 d->K.a5 e->d.1≠v->e.1≠v->
 (∀x,K.a5 x->x.1≠v->x.2≠v->Q x.1->Q x.2)->Q d.1->Q e.1
theorem Dr.Ok.spread(O:K.Ok)(R:K.dY nx)(hc:K.oW){P:Dt->Prop}
  (h1:∀d,K.a5 d->P d->P (d.2,d.1)) (h2:∀d,K.a5 d->P d->P (nx d)) {d e:Dt} (hd:K.a5 d) (F:K.a5 e) (h:P d):P e:=by
 have eI:∀v a c,K.a5 (v,a)->K.a5 (v,c)->P (v,a)->P (v,c):=by intro v a c j hc G;refine O.turn R v (fun a=>P (v,a)) ?_ j hc G;intro a j z;have:=h2 (a,v) j.rev (h1 (v,a) j z);have e:nx (a,v)=(v,(nx (a,v)).2):=Prod.ext (R.fst (a,v) j.rev) rfl;lia
 have:=hc (fun v=>∀x,K.a5 (v,x)->P (v,x)) d e hd F (fun x n I c B=>by
  have:=h1 x n (I x.2 n);exact eI x.2 x.1 c n.rev B this) (fun x n=>eI d.1 d.2 x hd n h)
 exact this e.2 F
theorem Dr.Ok.vD(O:K.Ok)(R:K.dY nx){v:Nat}(hc:K.mi v){P:Dt->Prop}
  (h1:∀d,K.a5 d->P d->P (d.2,d.1)) (h2:∀d,K.a5 d->d.2≠v->P d->P (nx d)) {d e:Dt} (hd:K.a5 d) (F:K.a5 e)
  (nd:d.1≠v) (ne:e.1≠v) (h:P d):P e:=by
 have eI:∀w a c,w≠v->K.a5 (w,a)->K.a5 (w,c)->P (w,a)->P (w,c):=by intro w a c hw j hc G;refine O.turn R w (fun a=>P (w,a)) ?_ j hc G;intro a j z;have:=h2 (a,w) j.rev hw (h1 (w,a) j z);have e:nx (a,w)=(w,(nx (a,w)).2):=Prod.ext (R.fst (a,w) j.rev) rfl;lia
 have:=hc (fun w=>∀x,K.a5 (w,x)->P (w,x)) d e hd F nd ne (fun x n U I J c B=>by
  have:=h1 x n (J x.2 n);exact eI x.2 x.1 c I n.rev B this) (fun x n=>eI d.1 d.2 x nd hd n h)
 exact this e.2 F
theorem Dr.Ok.around(O:K.Ok)(R:K.dY nx)(hc:K.oW)(hd:K.a5 d)(p:eG nx d k)
  {e:Dt} (B:K.a5 e):K.Wd (Q3 (wk nx d k)) e=K.Wd (Q3 (wk nx d k)) d-1+(if e∈wk nx d k then 1 else 0):=by
 have C:=O.cM R hd (p.nodup O R hd) (by rw[p.back]);refine O.spread R hc (P:=fun e=>K.Wd (Q3 (wk nx d k)) e=K.Wd (Q3 (wk nx d k)) d-1+(if e∈wk nx d k then 1 else 0)) ?_ ?_ hd B ?_
 ·intro x j n;have F:=O.W1 (Q3 (wk nx d k)) j;rw[O.lI _ j]at F;show K.Wd (Q3 (wk nx d k)) (x.2,x.1)=_;lia
 ·intro x j n;have z:=O.W2 C (u:=x.1) (v:=x.2) (b:=(nx x).2) j (R.next x j);have e:nx x=(x.2,(nx x).2):=Prod.ext (R.fst x j) rfl;rw[<-e]at z;have m:=p.Bc O R hd j;show K.Wd (Q3 (wk nx d k)) (nx x)=_;rw[<-z];simp only[m];exact n
 ·have:d∈wk nx d k:=p.mem.2 ⟨0,Z⟩;rw[Wi this];lia
theorem Dr.Ok.AA(O:K.Ok)(R:K.dY nx){N:Dt->Int}(C:K.Cons N)(hd:K.a5 d)(j:Nat) :
  K.Wd N (it nx j d)=K.Wd N d:=by
 induction j with
 |zero=>rfl
 | succ j B=>
  have n:=R.bE hd j;have z:=O.W2 C (u:=(it nx j d).1) (v:=(it nx j d).2) (b:=(nx (it nx j d)).2) n (R.next _ n);have e:nx (it nx j d)=((it nx j d).2,(nx (it nx j d)).2):=Prod.ext (R.fst _ n) rfl;rw[<-e]at z;rw[Yz,<-z];exact B
theorem Dr.Ok.once(O:K.Ok)(R:K.dY nx){d:Dt}(hd:K.a5 d)(hc:K.mi d.1)(p:eG nx d k)
  {j:Nat} (h0:0<j) (hj:j<k):(it nx j d).1≠d.1:=by
 intro G;have hn:(wk nx d j).Nodup:=O.cK R hd (fun i h1 h2=>p.first i h1 L);have C:=O.cM R hd hn G;have I:=R.bE hd j
 have n:∀x,K.a5 x->x.1≠x.2:=by intro x z e;rcases O.cJ z with⟨a,_⟩|⟨a,_⟩<;>rw[e]at a<;>lia
 have J:it nx j d∉wk nx d j:=by
  intro h;obtain⟨i,hi,e⟩:=Zv.1 h;have:=p.nodup O R hd;have e2:it nx i d=it nx i (it nx (j-i) d):=by rw[<-Xb,show i+(j-i)=j by lia];exact e
  exact p.first (j-i) L L (O.kZ R hd (R.bE hd _) i e2).symm
 have wy:=O.AA R C hd j
 have B:∀x,K.a5 x->K.Wd (Q3 (wk nx d j)) x=K.Wd (Q3 (wk nx d j)) d-1+(if x∈wk nx d j then 1 else 0)->
   K.Wd (Q3 (wk nx d j)) (x.2,x.1)=K.Wd (Q3 (wk nx d j)) d-1+(if(x.2,x.1)∈wk nx d j then 1 else 0):=by
  intro x z U;have w1:=O.W1 (Q3 (wk nx d j)) z;rw[O.lI _ z]at w1;lia
 have YR:K.Wd (Q3 (wk nx d j)) d=K.Wd (Q3 (wk nx d j)) d-1+(if d∈wk nx d j then 1 else 0):=by have:d∈wk nx d j:=Zv.2 ⟨0,h0,Z⟩;rw[Wi this];lia
 have fin:K.Wd (Q3 (wk nx d j)) ((it nx j d).2,(it nx j d).1)=K.Wd (Q3 (wk nx d j)) d-1+(if((it nx j d).2,(it nx j d).1)∈wk nx d j then 1 else 0):=by
  refine O.vD R hc (P:=fun e=>K.Wd (Q3 (wk nx d j)) e=K.Wd (Q3 (wk nx d j)) d-1+(if e∈wk nx d j then 1 else 0)) B ?_ (d:=(d.2,d.1)) hd.rev I.rev (fun e=>n d hd e.symm) (fun e=>n _ I (by rw[G];exact e.symm)) (B d hd YR);intro x z hv U;have w2:=O.W2 C (u:=x.1) (v:=x.2) (b:=(nx x).2) z (R.next x z);have e:nx x=(x.2,(nx x).2):=Prod.ext (R.fst x z) rfl;rw[<-e]at w2
  have m:nx x∈wk nx d j↔x∈wk nx d j:=by
   rw[Zv,Zv];constructor
   ·rintro⟨i,hi,h⟩;cases i with
    | zero=>
     exfalso;apply hv;rw[<-R.fst x z,<-h];rfl
    |succ i=>exact⟨i,by lia,O.i8 R (R.bE hd _) z h⟩
   ·rintro⟨i,hi,h⟩;by_cases q:i+1<j
    ·exact⟨i+1,q,by rw[Yz,h]⟩
    ·exfalso;apply hv;rw[<-R.fst x z,<-h,<-Yz nx i d,show i+1=j by lia,G]
  show K.Wd (Q3 (wk nx d j)) (nx x)=_;rw[<-w2];simp only[m];exact U
 have F:K.Wd (Q3 (wk nx d j)) (it nx j d)=K.Wd (Q3 (wk nx d j)) d-1+(if it nx j d∈wk nx d j then 1 else 0):=B _ I.rev fin;rw[Wh J]at F;lia
def Dr.cw(K:Dr)(d m:Dt):Int:=
 if K.X d.1<K.X d.2 then(if K.act m (K.X d.1)/\K.h m (2*K.X d.1+1)<K.h d (2*K.X d.1+1) then 1 else 0)+(if m=d then 1 else 0)
 else(if K.act m (K.X d.2)/\K.h m (2*K.X d.2+1)<K.h (d.2,d.1) (2*K.X d.2+1) then 1 else 0)
theorem ZS(p:Prop) [Decidable p] (x:Int):(if p then 1 else 0)*x=if p then x else 0:=by lia
theorem Dr.Ok.mT(O:K.Ok)(N:Dt->Int)(hd:K.a5 d):K.Wd N d=su K.E (fun m=>K.cw d m*N m):=by
 unfold Dr.Wd Dr.cw Dr.bl;rcases O.cJ hd with⟨a,b⟩|⟨a,b⟩
 ·rw[Wi a];have:=ZU O.nodup b N;rw[<-this,<-ZL];apply Qr;intro m _;rw[Wi a,Int.add_mul,ZS,ZS]
 ·rw[Wh L];apply Qr;intro m _;rw[Wh (c:=K.X d.1<K.X d.2) L,ZS]
theorem Dr.Ok.wC(O:K.Ok){N:Dt->Int}(h:∀e∈K.E,N e=0)(hd:K.a5 d):K.Wd N d=0:=by rw[O.mT N hd];apply Q1;intro m j;rw[h m j,VC]
theorem Dr.Ok.sW(O:K.Ok)(l:List α)(c:α->Int)(F:α->Dt->Int)(hd:K.a5 d) :
  K.Wd (fun e=>su l (fun r=>c r*F r e)) d=su l (fun r=>c r*K.Wd (F r) d):=by
 rw[O.mT _ hd]
 have:∀m∈K.E,K.cw d m*su l (fun r=>c r*F r m)=su l (fun r=>c r*(K.cw d m*F r m)):=by intro m _;rw[<-XF];apply Qr;intro r _;rw[V1]
 rw[Qr this,XX];apply Qr;intro r _;rw[XF,O.mT _ hd]
theorem gA(l:List α)(c:α->Int)(F:α->Dt->Int) (h:∀r∈l,K.Cons (F r)):K.Cons (fun e=>su l (fun r=>c r*F r e)):=by
 intro v
 have a:∀(p:Dt->Prop) [DecidablePred p],su K.E (fun m=>if p m then su l (fun r=>c r*F r m) else 0)=su l (fun r=>c r*su K.E (fun m=>if p m then F r m else 0)):=by
  intro p _
  have:∀m∈K.E,(if p m then su l (fun r=>c r*F r m) else 0)=su l (fun r=>c r*(if p m then F r m else 0)):=by
   intro m _;by_cases q:p m
   ·simp only[Wi q]
   ·simp only[Wh q,VC];exact(jC l).symm
  rw[Qr this,XX];apply Qr;intro r _;rw[XF]
 rw[a (fun m=>m.2=v),a (fun m=>m.1=v)];apply Qr;intro r hr;rw[h r hr v]
theorem nY{V:List Nat}(n:V.Nodup)(z:∀e∈K.E,e.1∈V/\e.2∈V){M:Dt->Int}(B:K.Cons M)(f:Nat->Int) :
  su K.E (fun e=>M e*(f e.2-f e.1))=0:=by
 have F:su K.E (fun e=>M e*f e.2)=su V (fun v=>f v*su K.E (fun m=>if m.2=v then M m else 0)):=by
  have:∀e∈K.E,M e*f e.2=su V (fun v=>f v*(if e.2=v then M e else 0)):=by intro e j;have:=ZU n (z e j).2 (fun v=>f v*M e);grind
  rw[Qr this,XX];apply Qr;intro v _;rw[XF]
 have G:su K.E (fun e=>M e*f e.1)=su V (fun v=>f v*su K.E (fun m=>if m.1=v then M m else 0)):=by
  have:∀e∈K.E,M e*f e.1=su V (fun v=>f v*(if e.1=v then M e else 0)):=by intro e j;have:=ZU n (z e j).1 (fun v=>f v*M e);grind
  rw[Qr this,XX];apply Qr;intro v _;rw[XF]
 have:su K.E (fun e=>M e*(f e.2-f e.1))=su K.E (fun e=>M e*f e.2)-su K.E (fun e=>M e*f e.1):=by rw[<-XE];grind
 rw[this,G,F]
 have:su V (fun v=>f v*su K.E (fun m=>if m.2=v then M m else 0))=su V (fun v=>f v*su K.E (fun m=>if m.1=v then M m else 0)):=by apply Qr;intro v _;rw[B v]
 lia
structure YD(K:Dr)(nx:Dt->Dt)(pr:Dt->Nat)(d0:Dt)(Rp:List Dt):Prop where
 dw:∀d,K.a5 d->eG nx d (pr d)
 out:K.a5 d0
 zero:∀N,K.Wd N d0=0
 dD:∀r∈Rp,K.a5 r
 nodup:Rp.Nodup
 sep:∀r∈Rp,∀q∈Rp,q∈wk nx r (pr r)->q=r
 inner:∀r∈Rp,d0∉wk nx r (pr r)
 all:∀d,K.a5 d->d∈wk nx d0 (pr d0)\/∃r∈Rp,d∈wk nx r (pr r)
theorem YD.W{pr:Dt->Nat}{d0:Dt}{j:List Dt}(z:YD K nx pr d0 j)(O:K.Ok)(R:K.dY nx)(hc:K.oW)
  {r:Dt} (hr:K.a5 r) (h0:d0∉wk nx r (pr r)) {e:Dt} (n:K.a5 e):K.Wd (Q3 (wk nx r (pr r))) e=if e∈wk nx r (pr r) then 1 else 0:=by
 have a:=O.around R hc hr (z.dw r hr) n;have b:=O.around R hc hr (z.dw r hr) z.out;rw[z.zero,Wh h0]at b;lia
theorem YD.cons{K:Dr}{nx:Dt->Dt}{pr:Dt->Nat}{d0:Dt}{j:List Dt}(n:YD K nx pr d0 j)(O:K.Ok)(R:K.dY nx)
  {r:Dt} (hr:K.a5 r):K.Cons (Q3 (wk nx r (pr r))):=
 O.cM R hr ((n.dw r hr).nodup O R hr) (by rw[(n.dw r hr).back])
theorem JH{α β:Type}{f:α->β}(hf:∀a b,f a=f b->a=b){l:List α}(h:l.Nodup):(l.map f).Nodup:=by grind
theorem YD.uJ{pr:Dt->Nat}{d0:Dt}{B:List Dt}(af:YD K nx pr d0 B)(O:K.Ok)(R:K.dY nx)(hc:K.oW)
  {V:List Nat} (hV:V.Nodup) (hE:∀e∈K.E,e.1∈V/\e.2∈V) (hD:∀v∈V,∃x,K.a5 (v,x)):B.length+V.length<=K.E.length+1:=by
 apply xJ;intro ad
 have I:d0.1∈V:=by
  rcases af.out with h|h
  ·exact(hE _ h).1
  ·exact(hE _ h).2
 have hl:(V.erase d0.1).length=V.length-1:=Uf I;have oZ:=Vn I
 have hJ:(B.map (Sum.inl (β:=Nat))++(V.erase d0.1).map (Sum.inr (α:=Dt))).Nodup:=by rw[VW];refine⟨JH (fun a b h=>by simpa using h) af.nodup,JH (fun a b h=>by simpa using h) (hV.erase _),?_⟩;intro a ha b hb e;obtain⟨x,_,rfl⟩:=List.mem_map.1 ha;obtain⟨y,_,rfl⟩:=List.mem_map.1 hb;simp at e
 obtain⟨c,⟨j,hj,J⟩,hs⟩:=solve (K.E.map (fun e (z:Dt ⊕ Nat)=>match z with
  |.inl r=>Q3 (wk nx r (pr r)) e
  |.inr v=>(if e.2=v then 1 else 0)-(if e.1=v then 1 else 0)))
  (B.map (Sum.inl (β:=Nat))++(V.erase d0.1).map (Sum.inr (α:=Dt))) hJ (by simp[hl];lia)
 let f:Nat->Int:=fun v=>if v∈V.erase d0.1 then c (.inr v) else 0
 let M:Dt->Int:=fun e=>su B (fun r=>c (.inl r)*Q3 (wk nx r (pr r)) e)
 have n:∀w,su (V.erase d0.1) (fun v=>(if w=v then 1 else 0)*c (.inr v))=f w:=by
  intro w;show _=if w∈V.erase d0.1 then c (.inr w) else 0
  by_cases q:w∈V.erase d0.1
  ·rw[Wi q,<-ZU (hV.erase _) q (fun v=>c (.inr v))];apply Qr;intro v _;rw[ZS];by_cases z:w=v
   ·simp[z]
   ·have:¬v=w:=fun h=>z h.symm;simp[z,this]
  ·rw[Wh q];apply Q1;intro v hv;have:w≠v:=by intro e;subst e;exact q hv
   rw[Wh this,Va]
 have hM:∀e∈K.E,M e+(f e.2-f e.1)=0:=by
  intro e U;have:=hs _ (List.mem_map.2 ⟨e,U,Z⟩);rw[Yh,sg,sg]at this;simp only at this
  have h1:su B (fun r=>Q3 (wk nx r (pr r)) e*c (.inl r))=M e:=by apply Qr;intro r _;rw[Qas]
  have h2:su (V.erase d0.1) (fun v=>((if e.2=v then 1 else 0)-(if e.1=v then 1 else 0))*c (.inr v))=f e.2-f e.1:=by rw[<-n e.2,<-n e.1,<-XE];apply Qr;intro v _;rw[Qa1]
  rw[h1,h2]at this;exact this
 have aa:K.Cons M:=gA B (fun r=>c (.inl r)) (fun r=>Q3 (wk nx r (pr r))) (fun r hr=>af.cons O R (af.dD r hr));have hz:=nY hV hE aa f
 have ab:su K.E (fun e=>M e*M e)=0:=by
  have:su K.E (fun e=>M e*M e) = - su K.E (fun e=>M e*(f e.2-f e.1)):=by
   rw[<-jD];apply Qr;intro e U;have:=hM e U;have h:f e.2-f e.1 = - M e:=by lia
   rw[h,Int.mul_neg,Int.neg_neg]
  lia
 have G:∀e∈K.E,M e=0:=by
  intro e U
  have:=iC (l:=K.E) (f:=fun e=>M e*M e) (fun e _=>by
   rcases Qbm 0 (M e) with h|h
   ·exact UF h h
   ·exact GE h h) ab e U
  rcases Int.mul_eq_zero.1 this with h|h<;>exact h
 have ac:∀r∈B,c (.inl r)=0:=by
  intro r hr;have w:=O.wC G (af.dD r hr);rw[O.sW B (fun r=>c (.inl r)) (fun r=>Q3 (wk nx r (pr r))) (af.dD r hr)]at w;refine(ZU af.nodup hr (fun r=>c (.inl r))).symm.trans ((Qr ?_).trans w);intro q hq;rw[af.W O R hc (af.dD q hq) (af.inner q hq) (af.dD r hr)];by_cases z:q=r
  ·subst z;have:q∈wk nx q (pr q):=(af.dw q (af.dD q hq)).mem.2 ⟨0,Z⟩;rw[Wi this];simp
  ·have:r∉wk nx q (pr q):=fun h=>z (af.sep q hq r hr h).symm;rw[Wh this];simp[z]
 have hf:∀x,K.a5 x->f x.1=0->f x.2=0:=by
  intro x F h;rcases F with F|F
  ·have a:=hM _ F;rw[G _ F]at a;lia
  ·have a:=hM _ F;rw[G _ F]at a;simp only at a;lia
 rcases List.mem_append.1 hj with h|h
 ·obtain⟨r,hr,rfl⟩:=List.mem_map.1 h;exact J (ac r hr)
 ·obtain⟨v,hv,rfl⟩:=List.mem_map.1 h;obtain⟨x,F⟩:=hD v (UA hv);have f0:f d0.1=0:=Wh (List.Nodup.not_mem_erase hV);have:=hc (fun w=>f w=0) d0 (v,x) af.out F hf f0;have e:f v=c (.inr v):=Wi hv;exact J (by rw[<-e];exact this)
theorem YD.pM{pr:Dt->Nat}{d0:Dt}{I:List Dt}(ac:YD K nx pr d0 I)(O:K.Ok)(R:K.dY nx)
  {V:List Nat} (hV:V.Nodup) (z:∀e∈K.E,e.1∈V/\e.2∈V):K.E.length+1<=I.length+V.length:=by
 apply xJ;intro aa
 have n:d0.1∈V:=by
  rcases ac.out with h|h
  ·exact(z _ h).1
  ·exact(z _ h).2
 have hl:(V.erase d0.1).length=V.length-1:=Uf n;have oZ:=Vn n
 obtain⟨N,⟨j,G,ab⟩,hs⟩:=solve ((V.erase d0.1).map (fun v (e:Dt)=>(if e.2=v then 1 else 0)-(if e.1=v then 1 else 0))++I.map (fun r e=>K.cw r e))
  K.E O.nodup (by simp[hl];lia)
 have h1:∀v∈V.erase d0.1,su K.E (fun m=>if m.2=v then N m else 0)=su K.E (fun m=>if m.1=v then N m else 0):=by
  intro v B;have:=hs _ (Qak _ (List.mem_map.2 ⟨v,B,Z⟩))
  have e:su K.E (fun m=>((if m.2=v then 1 else 0)-(if m.1=v then 1 else 0))*N m)=su K.E (fun m=>if m.2=v then N m else 0)-su K.E (fun m=>if m.1=v then N m else 0):=by rw[<-XE];apply Qr;intro m _;rw[Qa1,ZS,ZS]
  rw[e]at this;lia
 have ek:∀(g:Dt->Nat),(∀e∈K.E,g e∈V)->su V (fun v=>su K.E (fun m=>if g m=v then N m else 0))=su K.E N:=by
  intro g hg;rw[XX];apply Qr;intro m F;refine(Qr ?_).trans (ZU hV (hg m F) (fun _=>N m));intro v _;by_cases q:g m=v
  ·simp[q]
  ·have:¬v=g m:=fun h=>q h.symm;simp[q,this]
 have t2:=ek (fun m=>m.2) (fun e J=>(z e J).2);have t1:=ek (fun m=>m.1) (fun e J=>(z e J).1)
 have C:K.Cons N:=by
  intro v;by_cases B:v∈V
  ·by_cases q:v=d0.1
   ·subst q;rw[Yg n] at t1 t2
    have:su (V.erase d0.1) (fun v=>su K.E (fun m=>if m.2=v then N m else 0))=su (V.erase d0.1) (fun v=>su K.E (fun m=>if m.1=v then N m else 0)):=
     Qr h1
    lia
   ·exact h1 v ((List.mem_erase_of_ne q).2 B)
  ·rw[Q1 (fun m F=>Wh (fun(e:m.2=v)=>B (by rw[<-e];exact(z m F).2))),
    Q1 (fun m F=>Wh (fun(e:m.1=v)=>B (by rw[<-e];exact(z m F).1)))]
 have W0:∀d,K.a5 d->K.Wd N d=0:=by
  intro d hd;rcases ac.all d hd with h|⟨r,hr,h⟩
  ·obtain⟨i,_,rfl⟩:=Zv.1 h;rw[O.AA R C ac.out,ac.zero]
  ·obtain⟨i,_,rfl⟩:=Zv.1 h;rw[O.AA R C (ac.dD r hr),O.mT N (ac.dD r hr)];exact hs _ (GP _ (List.mem_map.2 ⟨r,hr,Z⟩))
 have U:=O.W1 N (d:=j) (G4 G);rw[W0 j (G4 G),W0 (j.2,j.1) (UH G)]at U;unfold Dr.fl at U;rw[Wi (O.left j G)]at U;lia
theorem iz(h:α->Int):∀(l:List α),l≠[]->∃m∈l,∀x∈l,h x<=h m
 |[],j=>Wm Z j
 |[a],_=>⟨a,by simp,by simp⟩
 | a::b::l,_=>by
  obtain⟨m,n,z⟩:=iz h (b::l) We;by_cases q:h a<=h m
  ·grind
  ·grind
theorem II [DecidableEq α] (h N:α->Int):∀(n:Nat)(l:List α),l.length=n->l.Nodup->(∀x∈l,∀y∈l,h x=h y->x=y)->
  (∀m∈l,0<=su l (fun x=>if h x<=h m then N x else 0))->∀H,(∀m∈l,h m<=H)->
  su l (fun x=>N x*h x)<=su l N*H/\((∃y,y<H/\0<su l (fun x=>if h x<=y then N x else 0))->su l (fun x=>N x*h x)<su l N*H):=by
 intro n;induction n with
 | zero=>
  intro l hl _ _ _ H _;have:l=[]:=by cases l<;>simp_all
  subst this;refine⟨by simp[ZV],?_⟩;rintro⟨y,_,h⟩;simp[ZV]at h
 | succ n ih=>
  intro l hl hn I oZ H hH;obtain⟨m,F,aa⟩:=iz h l (by intro e;subst e;simp at hl)
  have ab:∀x∈l.erase m,x≠m:=by grind
  have J:∀x∈l.erase m,h x<h m:=by grind
  have z:∀y,y<h m->su l (fun x=>if h x<=y then N x else 0)=su (l.erase m) (fun x=>if h x<=y then N x else 0):=by intro y O;rw[Yg F,Wh L];lia
  have j:∀y,h m<=y->su l (fun x=>if h x<=y then N x else 0)=su l N:=by intro y O;apply Qr;grind
  have key:=ih (l.erase m) (by rw[Uf F];lia) (hn.erase m)
   (fun x G y O=>I x (UA G) y (UA O))
   (fun x G=>by rw[<-z (h x) (J x G)];exact oZ x (UA G))
   (h m) (fun x G=>by have:=J x G;lia)
  have e1:su l (fun x=>N x*h x)=N m*h m+su (l.erase m) (fun x=>N x*h x):=Yg F _;have e2:su l N=N m+su (l.erase m) N:=Yg F _;have ek:0<=su l N:=by rw[<-j (h m) (Qa2 _)];exact oZ m F
  have U:=hH m F;have e3:su l N*h m=N m*h m+su (l.erase m) N*h m:=by rw[e2,Int.add_mul]
  have ac:su l N*h m<=su l N*H:=Vk U ek;constructor
  ·lia
  ·rintro⟨y,O,B⟩;by_cases q:y<h m
   ·have:=key.2 ⟨y,q,by rw[<-z y q];exact B⟩;lia
   ·rw[j y L]at B;have ad:su l N*h m<su l N*H:=Int.mul_lt_mul_of_pos_left L B;lia
def Dr.ek(K:Dr)(N:Dt->Int)(t:Int):Int:=su K.E (fun m=>if K.act m t then N m else 0)
theorem Dr.Ok.r6(O:K.Ok){N:Dt->Int}(C:K.Cons N)(t:Int):K.ek N (t+1)=K.ek N t:=by
 have hc:su K.E (fun m=>if K.X m.2=t+1 then N m else 0)=su K.E (fun m=>if K.X m.1=t+1 then N m else 0):=by
  by_cases n:∃v,K.mm v/\K.X v=t+1
  ·obtain⟨v,n,z⟩:=n;have:=C v;rw[<-z];refine Eq.trans (Qr fun m j=>?_) (this.trans (Qr fun m j=>?_))
   ·simp only[O.FX n j]
   ·simp only[O.DK n j]
  ·rw[Q1,Q1]
   ·intro m j;exact Wh (fun h=>n ⟨m.1,⟨m,j,G4 Z⟩,h⟩)
   ·intro m j;exact Wh (fun h=>n ⟨m.2,⟨m,j,UH Z⟩,h⟩)
 have:∀m∈K.E,(if K.act m (t+1) then N m else 0)=(if K.act m t then N m else 0)+((if K.X m.1=t+1 then N m else 0)-(if K.X m.2=t+1 then N m else 0)):=by intro m j;have:=O.left m j;lia
 unfold Dr.ek;rw[Qr this,ZL,XE,hc];lia
theorem Dr.Ok.sX(O:K.Ok){N:Dt->Int}(C:K.Cons N){lo:Int}(j:∀e∈K.E,lo<=K.X e.1)(i:Nat):K.ek N (lo-1+i)=0:=by
 induction i with
 | zero=>
  apply Q1;intro m n;have:=j m n;apply Wh;unfold Dr.act;lia
 | succ i z=>
  have:=O.r6 C (lo-1+i);rw[z]at this;rw[<-this];congr 1;lia
theorem Dr.Ok.Fx(O:K.Ok){N:Dt->Int}(C:K.Cons N)(hp:∀m∈K.E,0<=K.Wd N m){t:Int}(h0:K.ek N t=0) :
  su K.E (fun m=>if K.act m t then N m*K.h m (2*t+1) else 0)<=0/\
  ((∃m∈K.E,K.act m t/\(0<K.Wd N m\/0<K.Wd N (m.2,m.1)))->su K.E (fun m=>if K.act m t then N m*K.h m (2*t+1) else 0)<0):=by
 let l:=K.E.filter (fun m=>decide (K.act m t))
 have j:∀m,m∈l↔m∈K.E/\K.act m t:=by intro m;simp[l]
 have U:∀f:Dt->Int,su K.E (fun m=>if K.act m t then f m else 0)=su l f:=by intro f;show _=su (K.E.filter (fun m=>decide (K.act m t))) f;rw[n0];lia
 have hb:∀(e:Dt)(y:Int),(∀m∈K.E,K.act m t->(K.h m (2*t+1)<=y↔K.h m (2*t+1)<K.h e (2*t+1)))->
   su l (fun x=>if K.h x (2*t+1)<=y then N x else 0)=K.bl N e t:=by
  intro e y J;rw[<-U];unfold Dr.bl;apply Qr;intro m n;by_cases a:K.act m t
  ·grind
  ·lia
 have hr:∀m∈l,su l (fun x=>if K.h x (2*t+1)<=K.h m (2*t+1) then N x else 0)=K.Wd N m:=by
  intro m n;obtain⟨n,F⟩:=(j m).1 n;have hl:=O.left m n
  have e1:su l (fun x=>if K.h x (2*t+1)<=K.h m (2*t+1) then N x else 0)=su l (fun x=>if K.h x (2*t+1)<K.h m (2*t+1) then N x else 0)+N m:=by
   have hn:l.Nodup:=O.nodup.filter _;rw[<-ZU hn ((j m).2 ⟨n,F⟩) N,<-ZL];apply Qr;intro x z;obtain⟨z,aa⟩:=(j x).1 z;by_cases q:x=m
   ·subst q;simp
   ·have d:=O.distinct z n q (t:=2*t+1) (by unfold Dr.act at *;lia) (by unfold Dr.act at *;lia) (by unfold Dr.act at *;lia) (by unfold Dr.act at *;lia);lia
  have e2:su l (fun x=>if K.h x (2*t+1)<K.h m (2*t+1) then N x else 0)=K.bl N m t:=by rw[<-hb m (K.h m (2*t+1)-1) (fun x _ _=>by lia)];lia
  rw[e1,e2];unfold Dr.Wd;rw[Wi hl,O.dj C n F (u:=K.X m.1) (by unfold Dr.act;lia)]
 have G:∀x∈l,∀y∈l,K.h x (2*t+1)=K.h y (2*t+1)->x=y:=by intro x z y J e;obtain⟨z,aa⟩:=(j x).1 z;obtain⟨J,ab⟩:=(j y).1 J;apply xJ;intro q;exact O.distinct z J q (t:=2*t+1) (by unfold Dr.act at *;lia) (by unfold Dr.act at *;lia) (by unfold Dr.act at *;lia) (by unfold Dr.act at *;lia) e
 have I:∃H,∀m∈l,K.h m (2*t+1)<H:=by
  by_cases q:l=[]
  ·exact⟨0,by simp[q]⟩
  ·obtain⟨m,_,n⟩:=iz (fun m=>K.h m (2*t+1)) l q;exact⟨K.h m (2*t+1)+1,fun x z=>by have:=n x z;lia⟩
 obtain⟨H,I⟩:=I
 have A:=II (fun m=>K.h m (2*t+1)) N l.length l Z (O.nodup.filter _) G (fun m n=>by
  have:=hr m n;rw[this];exact hp m ((j m).1 n).1) H (fun m n=>by have:=I m n;lia)
 have t0:su l N=0:=by rw[<-U];exact h0
 rw[t0,Va]at A;rw[U (fun m=>N m*K.h m (2*t+1))];refine⟨A.1,?_⟩;rintro⟨m,n,F,hw⟩;apply A.2;have B:=(j m).2 ⟨n,F⟩;have hl:=O.left m n;rcases hw with hw|hw
 ·exact⟨K.h m (2*t+1),I m B,by have:=hr m B;rw[this];exact hw⟩
 ·refine⟨K.h m (2*t+1)-1,by have:=I m B;lia,?_⟩;have e:=hb m (K.h m (2*t+1)-1) (fun x _ _=>by lia);rw[e];unfold Dr.Wd at hw;rw[Wh (by show ¬K.X m.2<K.X m.1;lia)]at hw;have hw:0<K.bl N m (K.X m.1):=hw;rw[O.dj C n F (u:=K.X m.1) (by unfold Dr.act;lia)];exact hw
theorem Dr.Ok.strip(O:K.Ok){m:Dt}(j:m∈K.E){lo:Int}(z:lo<=K.X m.1)(n:Nat) :
  su (xP n) (fun i=>if K.act m (lo+i) then K.h m (2*(lo+i)+1) else 0) =
   2*(K.D*K.Y m.1)*(min (max (lo+n) (K.X m.1)) (K.X m.2)-K.X m.1)+K.s m*((min (max (lo+n) (K.X m.1)) (K.X m.2)-K.X m.1)*(min (max (lo+n) (K.X m.1)) (K.X m.2)-K.X m.1)):=by
 have hl:=O.left m j;induction n with
 | zero=>
  rw[show min (max (lo+(0:Nat)) (K.X m.1)) (K.X m.2)=K.X m.1 by lia];simp[ZV]
 | succ n B=>
  rw[U1,Yh,QQ,ZV,B];by_cases a:K.act m (lo+n)
  ·rw[Wi a];unfold Dr.act at a;rw[show min (max (lo+(n:Nat)) (K.X m.1)) (K.X m.2)=lo+n by lia,show min (max (lo+((n+1:Nat):Int)) (K.X m.1)) (K.X m.2)=lo+n+1 by lia];unfold Dr.h;grind
  ·grind
def Dr.ar(K:Dr)(m:Dt):Int:=(K.X m.2-K.X m.1)*(K.Y m.1+K.Y m.2)
theorem Dr.Ok.oE(O:K.Ok){m:Dt}(j:m∈K.E){lo:Int}(z:lo<=K.X m.1){n:Nat}(B:K.X m.2<=lo+n) :
  su (xP n) (fun i=>if K.act m (lo+i) then K.h m (2*(lo+i)+1) else 0)=K.D*K.ar m:=by
 have hl:=O.left m j;rw[O.strip j z,show min (max (lo+(n:Nat)) (K.X m.1)) (K.X m.2)=K.X m.2 by lia];have:=O.slope m j;unfold Dr.ar;grind
theorem jq(f:Dt->Int):∀l:List Dt,∃lo,∀m∈l,lo<=f m
 |[]=>⟨0,by simp⟩
 | a::l=>by
  obtain⟨lo,h⟩:=jq f l;refine⟨min lo (f a),?_⟩;intro m j;rcases List.mem_cons.1 j with rfl|j
  ·lia
  ·grind
theorem yy(f:Dt->Int):∀l:List Dt,∃hi,∀m∈l,f m<=hi
 |[]=>⟨0,by simp⟩
 | a::l=>by
  obtain⟨lo,h⟩:=yy f l;refine⟨max lo (f a),?_⟩;intro m j;rcases List.mem_cons.1 j with rfl|j
  ·lia
  ·have:=h m j;lia
theorem Dr.Ok.FC(O:K.Ok){N:Dt->Int}(C:K.Cons N)(B:∀m∈K.E,0<=K.Wd N m) :
  su K.E (fun m=>N m*K.ar m)<=0/\((∃m∈K.E,0<K.Wd N m\/0<K.Wd N (m.2,m.1))->su K.E (fun m=>N m*K.ar m)<0):=by
 obtain⟨lo,z⟩:=jq (fun m=>K.X m.1) K.E;obtain⟨hi,I⟩:=yy (fun m=>K.X m.2) K.E;let n:=(hi-lo).toNat
 have F:∀m∈K.E,K.X m.2<=lo+n:=by grind
 have e:K.D*su K.E (fun m=>N m*K.ar m)=su (xP n) (fun i=>su K.E (fun m=>if K.act m (lo+i) then N m*K.h m (2*(lo+i)+1) else 0)):=by rw[<-XF,XX];apply Qr;intro m j;rw[show K.D*(N m*K.ar m)=N m*(K.D*K.ar m) by rw[V1],<-O.oE j (z m j) (F m j),<-XF];grind
 have h0:∀i:Nat,K.ek N (lo+i)=0:=by intro i;have:=O.sX C z (i+1);lia
 have G:∀i∈xP n,su K.E (fun m=>if K.act m (lo+(i:Nat)) then N m*K.h m (2*(lo+i)+1) else 0)<=0:=fun i _=>(O.Fx C B (h0 i)).1;have hd:=O.iK;constructor
 ·have:0<=- su (xP n) (fun i=>su K.E (fun m=>if K.act m (lo+i) then N m*K.h m (2*(lo+i)+1) else 0)):=by rw[<-jD];exact yT (fun i hi=>by have:=G i hi;lia)
  rw[<-e]at this;apply xJ;intro hc;have:0<K.D*su K.E (fun m=>N m*K.ar m):=UQ hd L;lia
 ·rintro⟨m,j,hw⟩;have hl:=O.left m j;have h1:=z m j;have h2:=F m j
  have:0 < - su (xP n) (fun i=>su K.E (fun m=>if K.act m (lo+i) then N m*K.h m (2*(lo+i)+1) else 0)):=by
   rw[<-jD];have J:lo+((K.X m.1-lo).toNat:Nat)=K.X m.1:=by lia
   refine uo (fun i hi=>by have:=G i hi;lia) (x:=(K.X m.1-lo).toNat) (by rw[List.mem_range];lia) ?_;have:=(O.Fx C B (h0 (K.X m.1-lo).toNat)).2 ⟨m,j,by unfold Dr.act;lia,hw⟩;lia
  rw[<-e]at this;apply xJ;intro hc;have:0<=K.D*su K.E (fun m=>N m*K.ar m):=UF L L;lia
open Gla (Pt Plan)
theorem bx{p:Nat->α->Bool}{l:List α}:Ge p l=none↔∀(i:Nat)(h:i<l.length),p i l[i]=false:=by
 unfold Ge;simp only[V3,UB];constructor
 ·intro h i hi;have:=h (l[i],i) (by rw[Qam];simp[hi]);simpa using this
 ·rintro h ⟨x,i⟩ j;rw[Qam]at j;simp only at j;obtain⟨hi,e⟩:=List.getElem?_eq_some_iff.1 j;have:=h i hi;rw[e]at this;simp[this]
theorem bO{ok:α->Bool}{j:α->α->Bool}{l:List α}(h:Um ok j l=none) :
  (∀x∈l,ok x=true)/\(∀(i:Nat)(hi:i+1<l.length),j l[i] l[i+1]=true):=by
 unfold Um at h;rw[bx]at h;constructor
 ·intro x n;obtain⟨i,hi,rfl⟩:=List.mem_iff_getElem.1 n;grind
 grind
theorem dq{n:α->α->Bool}(F:∀a b c,n a b=true->n b c=true->n a c=true){l:List α}
  (h:∀(i:Nat)(hi:i+1<l.length),n l[i] l[i+1]=true):∀(i j:Nat)(z:i<j)(B:j<l.length),n l[i] l[j]=true:=by
 intro i j z;induction j with
 |zero=>lia
 | succ j G=>
  intro B;by_cases q:i=j
  ·subst q;exact h i B
  ·exact F _ _ _ (G L L) (h j B)
theorem dX(a b c:Pt)(h1:a.below b=true)(h2:b.below c=true):a.below c=true:=by unfold Pt.below at *;lia
theorem cX(a b c:WA)(h1:Ui a b=true)(h2:Ui b c=true):Ui a c=true:=by unfold Ui at *;lia
structure a9(S:Plan):Prop where
 w:S.w<=1048575
 h:S.h<=1048575
 box:∀p∈S.pts,p.x<=S.w/\p.y<=S.h
 pts:∀(i j:Nat)(_:i<j)(hj:j<S.pts.length),(S.pts[i]).below S.pts[j]=true
 lines:∀l∈S.lines,l.1<l.2/\l.2<S.pts.length
 sorted:∀(i j:Nat)(_:i<j)(hj:j<S.lines.length),Ui S.lines[i] S.lines[j]=true
 on:∀l∈S.lines,∀k,k<S.pts.length->k≠l.1->k≠l.2->Uq (S.pt l.1) (S.pt l.2) (S.pt k)=false
 cross:∀l∈S.lines,∀m∈S.lines,l≠m->G3 (S.pt l.1) (S.pt l.2) (S.pt m.1) (S.pt m.2)=false
theorem Z1(p q r s:Pt):G3 p q r s=G3 r s p q:=by unfold G3;rw[Bool.and_comm]
theorem wA(hw:S.w<=1048575)(F:S.h<=1048575)
  (G:Um (fun(p:Pt)=>decide (p.x<=S.w)&&decide (p.y<=S.h)) Pt.below S.pts=none)
  (I:Um (fun(l:WA)=>decide (l.1<l.2)&&decide (l.2<S.pts.length)) Ui S.lines=none)
  (z:Ge (Vb S) S.lines=none):a9 S:=by
 obtain⟨J,O⟩:=bO G;obtain⟨U,b5⟩:=bO I;rw[bx]at z;refine⟨hw,F,?_,dq dX O,?_,dq cX b5,?_,?_⟩
 ·intro p hp;have:=J p hp;simpa using this
 ·intro l hl;have:=U l hl;simpa using this
 ·intro l hl k hk h1 h2;obtain⟨i,hi,rfl⟩:=List.mem_iff_getElem.1 hl;have:=z i hi;unfold Vb at this;rw[Bool.or_eq_false_iff]at this;have:=this.1;rw[UI]at this;have:=this k (List.mem_range.2 hk);simpa [h1,h2] using this
 ·intro l hl m hm B;obtain⟨i,hi,rfl⟩:=List.mem_iff_getElem.1 hl;obtain⟨j,n,rfl⟩:=List.mem_iff_getElem.1 hm
  have key:∀(i j:Nat)(hi:i<S.lines.length)(n:j<S.lines.length),j<i->G3 (S.pt S.lines[i].1) (S.pt S.lines[i].2) (S.pt S.lines[j].1) (S.pt S.lines[j].2)=false:=by
   intro i j hi n aa;have:=z i hi;unfold Vb at this;rw[Bool.or_eq_false_iff]at this;have:=this.2;rw[UI]at this
   have:=this S.lines[j] (by
    rw[List.mem_iff_getElem];exact⟨j,by simp;lia,by simp⟩)
   simpa using this
  rcases Uu i j with h|h|h
  ·rw[Z1];exact key j i n hi h
  ·subst h;exact Wm Z B
  ·exact key i j hi n h
theorem a9.nodup(F:a9 S):S.lines.Nodup:=by unfold List.Nodup;rw[UY];intro i j hi z n e;have:=F.sorted i j n z;rw[e]at this;unfold Ui at this;simp at this
theorem bF{i:Nat}(h:i<S.pts.length):S.pt i=S.pts[i]:=by unfold Plan.pt;simp[h]
theorem a9.Bi(F:a9 S){i j:Nat}(hi:i<S.pts.length)(n:j<S.pts.length)(h:S.pt i=S.pt j):i=j:=by
 rw[bF hi,bF n]at h;rcases Uu i j with q|q|q
 ·have:=F.pts i j q n;rw[h]at this;unfold Pt.below at this;simp at this
 ·exact q
 ·have:=F.pts j i q hi;rw[h]at this;unfold Pt.below at this;simp at this
theorem a9.cE(F:a9 S){i:Nat}(hi:i<S.pts.length):(S.pt i).x<=S.w/\(S.pt i).y<=S.h:=by rw[bF hi];exact F.box _ (xR hi)
noncomputable def XP(p:Pt):Int:=1048576*(p.x:Int)+(p.y:Int)
def YP(p:Pt):Int:=(p.y:Int)
theorem kC{p q:Pt}(j:p.y<=1048575)(n:q.y<=1048575)(h:XP p=XP q):p=q:=by
 unfold XP at h;have:p.x=q.x/\p.y=q.y:=by lia
 cases p;cases q;simp_all
def dZ(S:Plan)(l:WA):WA:=if XP (S.pt l.1)<XP (S.pt l.2) then l else(l.2,l.1)
def gc(S:Plan):List WA->Int
 |[]=>1
 |e::r=>(XP (S.pt e.2)-XP (S.pt e.1))*gc S r
theorem y9(S:Plan):∀(l:List WA) (e:WA),e∈l->(XP (S.pt e.2)-XP (S.pt e.1)) ∣ gc S l
 |[],e,h=>by simp at h
 | a::r,e,h=>by
  rcases List.mem_cons.1 h with rfl|h
  ·exact Int.dvd_mul_right _ _
  ·exact Int.dvd_trans (y9 S r e h) (Int.dvd_mul_left _ _)
theorem y8(S:Plan):∀(l:List WA),(∀e∈l,XP (S.pt e.1)<XP (S.pt e.2))->0<gc S l
 |[],_=>by show(0:Int)<1;decide
 |a::r,h=>UQ (by have:=h a We;lia) (y8 S r (fun e j=>h e (by simp[j])))
def dr(S:Plan):Dr where
 X:=fun i=>XP (S.pt i)
 Y:=fun i=>YP (S.pt i)
 E:=S.lines.map (dZ S)
 D:=gc S (S.lines.map (dZ S))
 s:=fun e=>(YP (S.pt e.2)-YP (S.pt e.1))*(gc S (S.lines.map (dZ S))/(XP (S.pt e.2)-XP (S.pt e.1)))
theorem a9.mw(F:a9 S){i j:Nat}(hi:i<S.pts.length)(n:j<S.pts.length) (h:XP (S.pt i)=XP (S.pt j)):i=j:=by have a:=F.cE hi;have b:=F.cE n;have:=F.h;exact F.Bi hi n (kC L L h)
theorem a9.bL(F:a9 S){l:WA}(h:l∈S.lines) :
  (XP (S.pt l.1)<XP (S.pt l.2)/\dZ S l=l)\/(XP (S.pt l.2)<XP (S.pt l.1)/\dZ S l=(l.2,l.1)):=by
 have⟨a,b⟩:=F.lines l h;unfold dZ;by_cases q:XP (S.pt l.1)<XP (S.pt l.2)
 ·exact G4 ⟨q,Wi q⟩
 ·right;refine⟨?_,Wh q⟩
  have:XP (S.pt l.1)≠XP (S.pt l.2):=fun e=>by
   have:=F.mw L L e;lia
  lia
theorem a9.bU(F:a9 S){e:WA} (j:e∈(dr S).E):XP (S.pt e.1)<XP (S.pt e.2):=by
 obtain⟨l,hl,rfl⟩:=List.mem_map.1 j;rcases F.bL hl with⟨a,b⟩|⟨a,b⟩
 ·rw[b];exact a
 ·rw[b];exact a
theorem a9.d7(F:a9 S){e:WA} (j:e∈(dr S).E):e.1<S.pts.length/\e.2<S.pts.length:=by
 obtain⟨l,hl,rfl⟩:=List.mem_map.1 j;have:=F.lines l hl;rcases F.bL hl with⟨a,b⟩|⟨a,b⟩
 ·rw[b];lia
 ·rw[b];simp only;lia
theorem a9.iK(F:a9 S):0<(dr S).D:=y8 S _ (fun _ j=>F.bU j)
theorem a9.En(F:a9 S){e:WA} (j:e∈(dr S).E) :
  (dr S).D=((dr S).D/(XP (S.pt e.2)-XP (S.pt e.1)))*(XP (S.pt e.2)-XP (S.pt e.1))/\0<(dr S).D/(XP (S.pt e.2)-XP (S.pt e.1)):=by
 have h:=y9 S _ e j;have hl:=F.bU j;have n:=(Int.ediv_mul_cancel h).symm;refine⟨n,?_⟩;apply xJ;intro hc;have:=F.iK;have h2:((dr S).D/(XP (S.pt e.2)-XP (S.pt e.1)))*(XP (S.pt e.2)-XP (S.pt e.1))<=0:=UV L L;have z:(dr S).D=((dr S).D/(XP (S.pt e.2)-XP (S.pt e.1)))*(XP (S.pt e.2)-XP (S.pt e.1)):=n;lia
theorem JL(p q r:Pt):1048576*xN p q r=(XP q-XP p)*(YP r-YP p)-(YP q-YP p)*(XP r-XP p):=by unfold xN GF GG XP YP;grind
theorem a9.side(F:a9 S){e:WA} (j:e∈(dr S).E) (z:Pt) :
  ∃c:Int,0<c/\2*((dr S).D*YP z)-(dr S).h e (2*XP z)=c*xN (S.pt e.1) (S.pt e.2) z:=by
 obtain⟨h1,h2⟩:=F.En j;refine⟨2*((dr S).D/(XP (S.pt e.2)-XP (S.pt e.1)))*1048576,by lia,?_⟩;have n:=JL (S.pt e.1) (S.pt e.2) z;rw[VJ,n];unfold Dr.h;show 2*((dr S).D*YP z)-(2*((dr S).D*YP (S.pt e.1))+(YP (S.pt e.2)-YP (S.pt e.1))*((dr S).D/(XP (S.pt e.2)-XP (S.pt e.1)))*(2*XP z-2*XP (S.pt e.1)))=_;grind
theorem Yi{c x y:Int}(hc:0<c)(h:y=c*x):(0<y↔0<x)/\(y=0↔x=0)/\(y<0↔x<0):=by
 rcases Int.lt_trichotomy x 0 with q|q|q
 ·have:c*x<0:=Gy hc q;lia
 ·subst q;rw[VC]at h;lia
 ·have:0<c*x:=UQ hc q;lia
theorem a9.di(F:a9 S){e:WA} (j:e∈(dr S).E) (z:Pt) :
  (0<xN (S.pt e.1) (S.pt e.2) z↔(dr S).h e (2*XP z)<2*((dr S).D*YP z))/\
  (xN (S.pt e.1) (S.pt e.2) z=0↔(dr S).h e (2*XP z)=2*((dr S).D*YP z))/\
  (xN (S.pt e.1) (S.pt e.2) z<0↔2*((dr S).D*YP z)<(dr S).h e (2*XP z)):=by
 obtain⟨c,hc,h⟩:=F.side j z;have:=Yi hc h;lia
theorem Ye(p q r:Pt):xN q p r = - xN p q r:=by unfold xN GF GG;grind
theorem qo(a b c:Nat):Vw a b c=Vw b a c:=by unfold Vw;rw[Nat.min_comm,Nat.max_comm]
theorem qG(p q r:Pt):Uq q p r=Uq p q r:=by unfold Uq;rw[Ye p q r,qo q.x,qo q.y];lia
theorem qT{d a b m:Int}(hd:0<d)(j:0<=m)(n:m<=d)(h:d*a=m*b):(0<=b->0<=a/\a<=b)/\(b<=0->b<=a/\a<=0):=by
 constructor
 ·intro z;have h1:0<=m*b:=UF j z;have h2:m*b<=d*b:=Qad n z;rw[<-h] at h1 h2;constructor
  ·apply xJ;intro hc;have:d*a<0:=Gy hd L;lia
  ·exact Qax h2 hd
 ·intro z;have h1:m*b<=0:=Gr j z;have h2:d*b<=m*b:=Int.mul_le_mul_of_nonpos_right n z;rw[<-h] at h1 h2;constructor
  ·exact Qax h2 hd
  ·apply xJ;intro hc;have:0<d*a:=UQ hd L;lia
theorem Xw{p q r:Pt}(h:xN p q r=0)(z:XP p<XP q)(h1:XP p<=XP r)(h2:XP r<=XP q):Uq p q r=true:=by
 have B:=JL p q r;rw[h,VC]at B
 have n:(XP q-XP p)*(YP r-YP p)=(XP r-XP p)*(YP q-YP p):=by grind
 have ex:(XP q-XP p)*((r.x:Int)-p.x)=(XP r-XP p)*((q.x:Int)-p.x):=by
  have F:1048576*((XP q-XP p)*((r.x:Int)-p.x))=(XP q-XP p)*((XP r-XP p)-(YP r-YP p)):=by unfold XP YP;grind
  have G:1048576*((XP r-XP p)*((q.x:Int)-p.x))=(XP r-XP p)*((XP q-XP p)-(YP q-YP p)):=by unfold XP YP;grind
  have I:(XP q-XP p)*((XP r-XP p)-(YP r-YP p))=(XP r-XP p)*((XP q-XP p)-(YP q-YP p)):=by rw[Qa3,Qa3 (XP r-XP p),n,Qas (XP q-XP p) (XP r-XP p)]
  omega
 have j:=qT L L L n;have J:=qT L L L ex;unfold Uq Vw;unfold YP at j;grind
theorem a9.iu(F:a9 S){e:WA} (j:e∈(dr S).E) (hk:k<S.pts.length) (h1:k≠e.1) (h2:k≠e.2) :
  Uq (S.pt e.1) (S.pt e.2) (S.pt k)=false:=by
 obtain⟨l,hl,rfl⟩:=List.mem_map.1 j;rcases F.bL hl with⟨a,b⟩|⟨a,b⟩
 ·rw[b]at h1 h2 ⊢;exact F.on l hl k hk h1 h2
 ·rw[b]at h1 h2 ⊢;rw[qG];exact F.on l hl k hk h2 h1
theorem Xx(p q r s:Pt):G3 q p r s=G3 p q r s:=by unfold G3;rw[Ye p q r,Ye p q s,Int.neg_mul_neg,Qas (xN r s q)]
theorem a9.lE(F:a9 S){e f:WA} (B:e∈(dr S).E) (hf:f∈(dr S).E) (j:e≠f) :
  G3 (S.pt e.1) (S.pt e.2) (S.pt f.1) (S.pt f.2)=false:=by
 obtain⟨l,hl,rfl⟩:=List.mem_map.1 B;obtain⟨m,z,rfl⟩:=List.mem_map.1 hf;have n:l≠m:=fun e=>j (by rw[e]);have:=F.cross l hl m z n;rcases F.bL hl with⟨_,b⟩|⟨_,b⟩<;>rcases F.bL z with⟨_,d⟩|⟨_,d⟩<;>rw[b,d]
 ·exact this
 ·rw[Z1,Xx,Z1];exact this
 ·rw[Xx];exact this
 ·rw[Xx,Z1,Xx,Z1];exact this
theorem Yy{α β:Type}{f:α->β}:∀{l:List α},(∀a∈l,∀b∈l,f a=f b->a=b)->l.Nodup->(l.map f).Nodup
 |[],_,_=>by simp
 | a::l,h,hn=>by
  rw[U3]at hn;rw[xV,U3];refine⟨?_,Yy (fun x n y z=>h x (by simp[n]) y (by simp[z])) hn.2⟩;intro B;obtain⟨b,j,e⟩:=List.mem_map.1 B;have:=h b (by simp[j]) a We e;subst this;exact hn.1 j
theorem lH{A B p q:Int}(n:p<q)(h1:A+B*p<0)(h2:0<A+B*q):(∀t,t<=p->A+B*t<0)/\(∀t,q<=t->0<A+B*t):=by
 have z:0<B:=by apply xJ;intro hc;have:B*q<=B*p:=Int.mul_le_mul_of_nonpos_left L L;lia
 constructor
 ·intro t j;have:B*t<=B*p:=Vk j L;lia
 ·intro t j;have:B*q<=B*t:=Vk j L;lia
theorem p5{A B p q:Int}(j:p<q)(h1:A+B*p=0)(h2:A+B*q=0)(t:Int):A+B*t=0:=by
 have n:B=0:=by
  have:B*(q-p)=0:=by rw[Qa3];lia
  rcases Int.mul_eq_zero.1 this with h|h
  ·exact h
  ·lia
 subst n;lia
theorem kH{p q r s:Pt}(h1:xN r s p<0)(h2:0<xN r s q)(j:0<xN p q r)(n:xN p q s<0):G3 p q r s=true:=by unfold G3;simp only[Ga,Wp];exact⟨Gy j n,Ub h1 h2⟩
theorem fy{p q r s:Pt}(h1:0<xN r s p)(h2:xN r s q<0)(j:xN p q r<0)(n:0<xN p q s):G3 p q r s=true:=by unfold G3;simp only[Ga,Wp];exact⟨Ub j n,Gy h1 h2⟩
theorem a9.eT(F:a9 S){e:WA} (j:e∈(dr S).E):(dr S).D*(dr S).Y e.2=(dr S).D*(dr S).Y e.1+(dr S).s e*((dr S).X e.2-(dr S).X e.1):=by obtain⟨h1,_⟩:=F.En j;show(dr S).D*YP (S.pt e.2)=(dr S).D*YP (S.pt e.1)+(YP (S.pt e.2)-YP (S.pt e.1))*((dr S).D/(XP (S.pt e.2)-XP (S.pt e.1)))*(XP (S.pt e.2)-XP (S.pt e.1));rw[VJ,<-h1];grind
theorem a9.Hu(F:a9 S){e:WA} (j:e∈(dr S).E):(dr S).h e (2*XP (S.pt e.2))=2*((dr S).D*YP (S.pt e.2)):=by have:=F.eT j;have n:(dr S).X e.2=XP (S.pt e.2):=rfl;have z:(dr S).Y e.2=YP (S.pt e.2):=rfl;rw[<-n,<-z];unfold Dr.h;grind
theorem a9.uO(e:WA):(dr S).h e (2*XP (S.pt e.1))=2*((dr S).D*YP (S.pt e.1)):=(dr S).uK e
theorem nB{A B x1 j y1 n:Int}(U:max x1 y1<min j n)
  (c1:¬(A+B*(2*x1)<0/\0<A+B*(2*j)/\A+B*(2*y1)<0/\0<A+B*(2*n)))
  (c2:¬(0<A+B*(2*x1)/\A+B*(2*j)<0/\0<A+B*(2*y1)/\A+B*(2*n)<0))
  (O:¬(A+B*(2*x1)=0/\A+B*(2*j)=0/\A+B*(2*y1)=0/\A+B*(2*n)=0)) :
  ((A+B*(2*max x1 y1)<=0/\A+B*(2*min j n)<=0/\(A+B*(2*max x1 y1)<0\/A+B*(2*min j n)<0))\/
   (0<=A+B*(2*max x1 y1)/\0<=A+B*(2*min j n)/\(0<A+B*(2*max x1 y1)\/0<A+B*(2*min j n)))):=by
 generalize ha:max x1 y1=a at *;generalize hb:min j n=b at *;apply xJ;intro z
 have XW:(A+B*(2*a)<0/\0<A+B*(2*b))\/(0<A+B*(2*a)/\A+B*(2*b)<0)\/(A+B*(2*a)=0/\A+B*(2*b)=0):=by clear c1 c2 O;generalize A+B*(2*a)=u at *;generalize A+B*(2*b)=v at *;lia
 clear z;rcases XW with⟨I,J⟩|⟨I,J⟩|⟨I,J⟩
 ·obtain⟨F,G⟩:=lH L I J;exact c1 ⟨F _ L,G _ L,F _ L,G _ L⟩
 ·have n1:(-A)+(-B)*(2*a)<0:=by rw[Qal];lia
  have n2:0<(-A)+(-B)*(2*b):=by rw[Qal];lia
  obtain⟨F,G⟩:=lH L n1 n2;have r1:=F (2*x1) L;have r2:=G (2*j) L;have r3:=F (2*y1) L;have r4:=G (2*n) L;rw[Qal]at r1 r2 r3 r4;exact c2 ⟨by lia,by lia,by lia,by lia⟩
 ·have o:=p5 L I J;exact O ⟨o _,o _,o _,o _⟩
theorem a9.eo(F:a9 S){e f:WA} (hf:f∈(dr S).E) (k:Nat) (hk:(dr S).h e (2*XP (S.pt k))=2*((dr S).D*YP (S.pt k))) :
  ((dr S).h e 0-(dr S).h f 0+((dr S).s e-(dr S).s f)*(2*XP (S.pt k))<0↔xN (S.pt f.1) (S.pt f.2) (S.pt k)<0)/\
  ((dr S).h e 0-(dr S).h f 0+((dr S).s e-(dr S).s f)*(2*XP (S.pt k))=0↔xN (S.pt f.1) (S.pt f.2) (S.pt k)=0)/\
  (0<(dr S).h e 0-(dr S).h f 0+((dr S).s e-(dr S).s f)*(2*XP (S.pt k))↔0<xN (S.pt f.1) (S.pt f.2) (S.pt k)):=by
 have s:=F.di hf (S.pt k);have d:=(dr S).du e f (2*XP (S.pt k));rw[<-d,hk];lia
theorem a9.eh(F:a9 S){e f:WA} (j:e∈(dr S).E) (k:Nat) (hk:(dr S).h f (2*XP (S.pt k))=2*((dr S).D*YP (S.pt k))) :
  ((dr S).h e 0-(dr S).h f 0+((dr S).s e-(dr S).s f)*(2*XP (S.pt k))<0↔0<xN (S.pt e.1) (S.pt e.2) (S.pt k))/\
  ((dr S).h e 0-(dr S).h f 0+((dr S).s e-(dr S).s f)*(2*XP (S.pt k))=0↔xN (S.pt e.1) (S.pt e.2) (S.pt k)=0)/\
  (0<(dr S).h e 0-(dr S).h f 0+((dr S).s e-(dr S).s f)*(2*XP (S.pt k))↔xN (S.pt e.1) (S.pt e.2) (S.pt k)<0):=by
 have s:=F.di j (S.pt k);have d:=(dr S).du e f (2*XP (S.pt k));rw[<-d,hk];lia
theorem a9.fF(F:a9 S){e f:WA} (z:e∈(dr S).E) (hf:f∈(dr S).E) (I:e≠f)
  (J:max ((dr S).X e.1) ((dr S).X f.1)<min ((dr S).X e.2) ((dr S).X f.2)):(dr S).below e f\/(dr S).below f e:=by
 have O:=F.bU z;have U:=F.bU hf;have aa:=F.d7 z;have ab:=F.d7 hf;have k1:=F.eo (e:=e) hf e.1 (a9.uO e);have k2:=F.eo (e:=e) hf e.2 (F.Hu z);have k3:=F.eh (f:=f) z f.1 (a9.uO f);have k4:=F.eh (f:=f) z f.2 (F.Hu hf);have j:max (XP (S.pt e.1)) (XP (S.pt f.1))<min (XP (S.pt e.2)) (XP (S.pt f.2)):=J
 have G:=nB (A:=(dr S).h e 0-(dr S).h f 0) (B:=(dr S).s e-(dr S).s f) j (by
   rintro⟨z1,z2,z3,z4⟩;have:=kH (p:=S.pt e.1) (q:=S.pt e.2) (r:=S.pt f.1) (s:=S.pt f.2) (k1.1.1 z1) (k2.2.2.1 z2) (k3.1.1 z3) (k4.2.2.1 z4);rw[F.lE z hf I]at this;cases this) (by
   rintro⟨z1,z2,z3,z4⟩;have:=fy (p:=S.pt e.1) (q:=S.pt e.2) (r:=S.pt f.1) (s:=S.pt f.2) (k1.2.2.1 z1) (k2.1.1 z2) (k3.2.2.1 z3) (k4.1.1 z4);rw[F.lE z hf I]at this;cases this) (by
   rintro⟨z1,z2,z3,z4⟩;have t1:=k1.2.1.1 z1;have t2:=k2.2.1.1 z2;have t3:=k3.2.1.1 z3;have t4:=k4.2.1.1 z4;clear k1 k2 k3 k4 z1 z2 z3 z4 J
   have left:e.1=f.1:=by
    by_cases q:XP (S.pt e.1)<=XP (S.pt f.1)
    ·have on:=Xw t3 O q L;apply xJ;intro hc;have n:f.1≠e.2:=by intro h;rw[h] at j;lia
     rw[F.iu z ab.1 (fun h=>hc h.symm) n]at on;cases on
    ·have on:=Xw t1 U L L;apply xJ;intro hc;have n:e.1≠f.2:=by intro h;rw[h] at j;lia
     rw[F.iu hf aa.1 hc n]at on;cases on
   have right:e.2=f.2:=by
    by_cases q:XP (S.pt f.2)<=XP (S.pt e.2)
    ·have on:=Xw t4 O L q;apply xJ;intro hc;have n:f.2≠e.1:=by intro h;rw[h] at j;lia
     rw[F.iu z ab.2 n (fun h=>hc h.symm)]at on;cases on
    ·have on:=Xw t2 U L L;apply xJ;intro hc;have n:e.2≠f.1:=by intro h;rw[h] at j;lia
     rw[F.iu hf aa.2 n hc]at on;cases on
   exact I (Prod.ext left right))
 clear k1 k2 k3 k4;have ea:max ((dr S).X e.1) ((dr S).X f.1)=max (XP (S.pt e.1)) (XP (S.pt f.1)):=rfl;have eb:min ((dr S).X e.2) ((dr S).X f.2)=min (XP (S.pt e.2)) (XP (S.pt f.2)):=rfl;have ac:max ((dr S).X f.1) ((dr S).X e.1)=max (XP (S.pt e.1)) (XP (S.pt f.1)):=Int.max_comm _ _;have ad:min ((dr S).X f.2) ((dr S).X e.2)=min (XP (S.pt e.2)) (XP (S.pt f.2)):=Int.min_comm _ _;unfold Dr.below;rw[ea,eb,ac,ad];generalize max (XP (S.pt e.1)) (XP (S.pt f.1))=a at *;generalize min (XP (S.pt e.2)) (XP (S.pt f.2))=b at *;have da:=(dr S).du e f (2*a);have db:=(dr S).du e f (2*b);rw[<-da,<-db]at G;clear J j ea eb ac ad O U aa ab da db;generalize (dr S).h e (2*a)=p1 at *;generalize (dr S).h e (2*b)=p2 at *;generalize (dr S).h f (2*a)=p3 at *;generalize (dr S).h f (2*b)=p4 at *;rcases G with⟨g1,g2,g3⟩|⟨g1,g2,g3⟩
 ·left;refine⟨by lia,by lia,by lia⟩
 ·right;refine⟨by lia,by lia,by lia⟩
theorem a9.ok(F:a9 S):(dr S).Ok where
 iK:=F.iK
 nodup:=by
  apply Yy _ F.nodup;intro a B b G e;have J:=F.lines a B;have O:=F.lines b G;rcases F.bL B with⟨_,p⟩|⟨_,p⟩<;>rcases F.bL G with⟨_,q⟩|⟨_,q⟩<;>rw[p,q]at e
  ·exact e
  ·lia
  ·lia
  ·lia
 left:=fun e j=>F.bU j
 slope:=fun e j=>F.eT j
 inj:=fun e j f hf=>by
  have a:=F.d7 j;have b:=F.d7 hf;exact⟨fun h=>F.mw a.1 b.1 h,fun h=>F.mw a.1 b.2 h,fun h=>F.mw a.2 b.2 h⟩
 cross:=fun e j f hf n z=>F.fF j hf n z
 clear:=fun e j f hf=>by
  have a:=F.bU j;have b:=F.d7 hf
  have key:∀k,k<S.pts.length->XP (S.pt e.1)<XP (S.pt k)->XP (S.pt k)<XP (S.pt e.2)->(dr S).h e (2*XP (S.pt k))≠2*((dr S).D*YP (S.pt k)):=by intro k hk h1 h2 I;have t:=(F.di j (S.pt k)).2.1.2 I;have on:=Xw t a L L;rw[F.iu j hk (by intro h;rw[h]at h1;lia) (by intro h;rw[h]at h2;lia)]at on;cases on
  exact⟨fun h1 h2=>key f.1 b.1 h1 h2,fun h1 h2=>key f.2 b.2 h1 h2⟩
theorem a9.dG(F:a9 S){d:WA}:(dr S).a5 d↔d∈S.lines\/(d.2,d.1)∈S.lines:=by
 unfold Dr.a5;show d∈S.lines.map (dZ S)\/(d.2,d.1)∈S.lines.map (dZ S)↔_;constructor
 ·rintro (h | h)
  ·obtain⟨l,hl,e⟩:=List.mem_map.1 h;rcases F.bL hl with⟨_,p⟩|⟨_,p⟩<;>rw[p]at e;all_goals lia
  ·obtain⟨l,hl,e⟩:=List.mem_map.1 h;rcases F.bL hl with⟨_,p⟩|⟨_,p⟩<;>rw[p]at e;all_goals lia
 ·have key:∀l∈S.lines,l∈S.lines.map (dZ S)\/(l.2,l.1)∈S.lines.map (dZ S):=by
   intro l hl;rcases F.bL hl with⟨_,p⟩|⟨_,p⟩
   ·grind
   ·grind
  grind
theorem a9.cp(F:a9 S){v c:Nat}:c∈S.near v↔(dr S).a5 (v,c):=by rw[F.dG];unfold Plan.near;grind
theorem a9.cV(F:a9 S){v c:Nat} (h:(dr S).a5 (v,c)) :
  (dr S).D*(YP (S.pt c)-YP (S.pt v))=((dr S).ky v c).2*(XP (S.pt c)-XP (S.pt v))/\XP (S.pt c)≠XP (S.pt v)/\((dr S).ky v c).1=decide (XP (S.pt v)<XP (S.pt c)):=by
 have O:=F.ok;rcases h with h|h
 ·have hl:=F.bU h;simp only at hl;have:=F.eT h;rw[O.ck h];refine⟨?_,by lia,by simp[hl]⟩;have e:(dr S).D*YP (S.pt c)=(dr S).D*YP (S.pt v)+(dr S).s (v,c)*(XP (S.pt c)-XP (S.pt v)):=this;grind
 ·have h:(c,v)∈(dr S).E:=h;have hl:=F.bU h;simp only at hl;have:=F.eT h;rw[O.cH h];refine⟨?_,by lia,by simp;lia⟩;have e:(dr S).D*YP (S.pt v)=(dr S).D*YP (S.pt c)+(dr S).s (c,v)*(XP (S.pt v)-XP (S.pt c)):=this;grind
theorem fZ{k m x y:Int}(hk:0<k)(h:k*x=m*y):(0<m->(0<x↔0<y)/\(x<0↔y<0))/\(m<0->(0<x↔y<0)/\(x<0↔0<y)):=by
 have a:=Yi (x:=x) hk rfl;constructor
 ·intro j;have b:=Yi (x:=y) j rfl;rw[h]at a;lia
 ·intro j;have b:=Yi (c:=-m) (x:=y) L rfl;rw[Qal]at b;rw[h]at a;lia
theorem a9.cI(F:a9 S){v a b:Nat} (z:(dr S).a5 (v,a)) (B:(dr S).a5 (v,b)) :
  (((xK S v a).1*(xK S v b).2-(xK S v a).2*(xK S v b).1<0↔cr ((dr S).ky v a) ((dr S).ky v b)<0)/\
  (0<(xK S v a).1*(xK S v b).2-(xK S v a).2*(xK S v b).1↔0<cr ((dr S).ky v a) ((dr S).ky v b))):=by
 obtain⟨sa,G,I⟩:=F.cV z;obtain⟨J,nb,O⟩:=F.cV B;have dp:=F.iK
 have key:((dr S).D*1048576)*((xK S v a).1*(xK S v b).2-(xK S v a).2*(xK S v b).1) =
   ((XP (S.pt a)-XP (S.pt v))*(XP (S.pt b)-XP (S.pt v)))*(((dr S).ky v b).2-((dr S).ky v a).2):=by
  have U:1048576*((xK S v a).1*(xK S v b).2-(xK S v a).2*(xK S v b).1) =
    (XP (S.pt a)-XP (S.pt v))*(YP (S.pt b)-YP (S.pt v))-(YP (S.pt a)-YP (S.pt v))*(XP (S.pt b)-XP (S.pt v)):=by
   unfold xK GF GG XP YP;grind
  rw[VJ,U,Qa3,V1,J,<-VJ (dr S).D,sa];grind
 have t:=fZ (k:=(dr S).D*1048576) L key;unfold cr;rw[I,O];rcases Vo G with q|q<;>rcases Vo nb with r|r
 ·have m:=Int.mul_pos_of_neg_of_neg (a:=XP (S.pt a)-XP (S.pt v)) (b:=XP (S.pt b)-XP (S.pt v)) L L;have j:¬ XP (S.pt v)<XP (S.pt a):=by lia
  have n:¬XP (S.pt v)<XP (S.pt b):=by lia
  simp only[j,n,decide_false,Wq];have:=t.1 m;lia
 ·have m:=Ub (a:=XP (S.pt a)-XP (S.pt v)) (b:=XP (S.pt b)-XP (S.pt v)) L L;have j:¬ XP (S.pt v)<XP (S.pt a):=by lia
  have n:XP (S.pt v)<XP (S.pt b):=by lia
  simp only[j,n,decide_false,decide_true,UC,Wr];have:=t.2 m;lia
 ·have m:=Gy (a:=XP (S.pt a)-XP (S.pt v)) (b:=XP (S.pt b)-XP (S.pt v)) L L;have j:XP (S.pt v)<XP (S.pt a):=by lia
  have n:¬XP (S.pt v)<XP (S.pt b):=by lia
  simp only[j,n,decide_false,decide_true,Bool.true_eq_false,Wr];have:=t.2 m;lia
 ·have m:=UQ (a:=XP (S.pt a)-XP (S.pt v)) (b:=XP (S.pt b)-XP (S.pt v)) L L;have j:XP (S.pt v)<XP (S.pt a):=by lia
  have n:XP (S.pt v)<XP (S.pt b):=by lia
  simp only[j,n,decide_true,Wq];have:=t.1 m;lia
theorem a9.uj(F:a9 S){v a b:Nat} (j:(dr S).a5 (v,a)) (n:(dr S).a5 (v,b))
  (h0:(xK S v a).1*(xK S v b).2-(xK S v a).2*(xK S v b).1=0) :
  ((xK S v a).1*(xK S v b).1+(xK S v a).2*(xK S v b).2<0↔((dr S).ky v a).1≠((dr S).ky v b).1):=by
 obtain⟨sa,z,B⟩:=F.cV j;obtain⟨O,nb,G⟩:=F.cV n;rw[B,G]
 have U:XP (S.pt a)-XP (S.pt v)=1048576*(xK S v a).1+(xK S v a).2:=by unfold xK GF GG XP;grind
 have xb:XP (S.pt b)-XP (S.pt v)=1048576*(xK S v b).1+(xK S v b).2:=by unfold xK GF GG XP;grind
 generalize (xK S v a).1=p at *;generalize (xK S v a).2=q at *;generalize (xK S v b).1=r at *;generalize (xK S v b).2=s at *
 have key:(XP (S.pt a)-XP (S.pt v))*(p*r+q*s)=(p*p+q*q)*(XP (S.pt b)-XP (S.pt v)):=by grind
 have pos:0<p*p+q*q:=by
  have h1:0<=p*p:=by
   rcases Qbm 0 p with h|h
   ·exact UF h h
   ·exact GE h h
  have h2:0<=q*q:=by
   rcases Qbm 0 q with h|h
   ·exact UF h h
   ·exact GE h h
  apply xJ;intro hc;have I:p*p=0:=by omega
  have J:q*q=0:=by omega
  have p0:p=0:=by rcases Int.mul_eq_zero.1 I with h|h<;>exact h
  have q0:q=0:=by rcases Int.mul_eq_zero.1 J with h|h<;>exact h
  lia
 have t:=fZ (k:=p*p+q*q) (m:=XP (S.pt a)-XP (S.pt v)) (x:=XP (S.pt b)-XP (S.pt v)) (y:=p*r+q*s) pos key.symm;rcases Vo z with u|u
 ·lia
 ·lia
theorem a9.lO(F:a9 S){v a b:Nat} (j:(dr S).a5 (v,a)) (n:(dr S).a5 (v,b)) :
  (Vr (xK S v a) (xK S v b):Int)=hf ((dr S).ky v a) ((dr S).ky v b):=by
 have c:=F.cI j n;have d:=F.uj j n;unfold Vr hf;lia
theorem a9.dz(F:a9 S){v u a b:Nat} (j:(dr S).a5 (v,u)) (n:(dr S).a5 (v,a)) (z:(dr S).a5 (v,b)) :
  Vp (xK S v u) (xK S v a) (xK S v b)=true↔sn ((dr S).ky v u) ((dr S).ky v a) ((dr S).ky v b):=by
 have h1:=F.lO j n;have h2:=F.lO j z;have c:=(F.cI n z).1;unfold Vp sn;rw[<-h1,<-h2,<-c];simp only[VM,Ga,Wp,beq_iff_eq];lia
theorem jH{r a:Bool×Int}:¬sn r a a:=by
 unfold sn;have:cr a a=0:=by unfold cr;simp
 lia
theorem a9.eY(F:a9 S){u v:Nat} (h:(dr S).a5 (u,v)):(dr S).dS u v (S.next u v):=by
 have B:(dr S).a5 (v,u):=h.rev;have j:u∈S.near v:=F.cp.2 B;unfold Plan.next
 have gen:∀(r:List Nat)(k:Nat)(seen:List Nat),(∀c∈r,(dr S).a5 (v,c))->(dr S).a5 (v,k)->(∀c∈seen,(dr S).a5 (v,c)/\¬sn ((dr S).ky v u) ((dr S).ky v c) ((dr S).ky v k))->
   (dr S).a5 (v,r.foldl (fun(a b:Nat)=>if Vp (xK S v u) (xK S v b) (xK S v a)=true then b else a) k)/\
   ∀c,c∈r\/c∈seen->¬sn ((dr S).ky v u) ((dr S).ky v c) ((dr S).ky v (r.foldl (fun(a b:Nat)=>if Vp (xK S v u) (xK S v b) (xK S v a)=true then b else a) k)):=by
  intro r;induction r with
  | nil=>
   intro k seen _ hk G;refine⟨hk,?_⟩;rintro c (hc|hc)
   ·simp at hc
   ·grind
  | cons b r J=>
   intro k seen hr hk G;have z:=hr b We;have n:∀c∈r,(dr S).a5 (v,c):=fun c hc=>hr c (by simp[hc]);rw[UJ];by_cases q:Vp (xK S v u) (xK S v b) (xK S v k)=true
   ·rw[Wi q];have O:=(F.dz B z hk).1 q
    have:=J b (b::seen) n z (fun c hc=>by
     rcases List.mem_cons.1 hc with rfl|hc
     ·exact⟨z,jH⟩
     ·exact⟨(G c hc).1,fun h=>(G c hc).2 (gB h O)⟩)
    grind
   ·rw[Wh q];have O:¬ sn ((dr S).ky v u) ((dr S).ky v b) ((dr S).ky v k):=fun h=>q ((F.dz B z hk).2 h)
    have:=J k (b::seen) n hk (fun c hc=>by
     grind)
    grind
 cases I:S.near v with
 |nil=>rw[I]at j;simp at j
 | cons k r=>
  simp only;have all:∀c∈k::r,(dr S).a5 (v,c):=fun c hc=>F.cp.1 (by rw[I];exact hc)
  have:=gen r k [k] (fun c hc=>all c (by simp[hc])) (all k We) (fun c hc=>by
   rcases List.mem_cons.1 hc with rfl|hc
   ·exact⟨all _ We,jH⟩
   grind)
  refine⟨this.1,?_⟩;intro c hc;apply this.2;have:=F.cp.2 hc;rw[I]at this;rcases List.mem_cons.1 this with rfl|h
  ·right;simp
  ·left;exact h
def cZ(S:Plan)(d:Dt):Dt:=(d.2,S.next d.1 d.2)
theorem a9.eI(F:a9 S):(dr S).dY (cZ S) where
 fst:=fun _ _=>rfl
 next:=fun _ h=>F.eY h
theorem Zy(a:Array Bool)(i j:Nat)(b d:Bool):(a.setIfInBounds i b).getD j d=if i=j/\i<a.size then b else a.getD j d:=by
 simp only[Gc,Array.getElem?_setIfInBounds];by_cases h:i=j
 ·subst h;by_cases h2:i<a.size
  ·simp[h2]
  ·simp[h2]
 ·simp[h]
def XG(a:List Nat×Array Bool)(j:Nat):List Nat×Array Bool:=if a.2.getD j true=true then a else(j::a.1,a.2.setIfInBounds j true)
theorem de (near:Array (List Nat)) (n k:Nat) (r:List Nat) (seen:Array Bool) :
  Uv near (n+1) (k::r) seen=Uv near n ((near.getD k []).foldl XG (r,seen)).1 ((near.getD k []).foldl XG (r,seen)).2:=rfl
structure oG(T:Nat->Prop)(v:Nat)(a:List Nat×Array Bool):Prop where
 bar:a.2.getD v true=true
 todo:∀k∈a.1,T k
 seen:∀j,a.2.getD j false=true->j=v\/T j
theorem oP{T:Nat->Prop}{v:Nat}{a:List Nat×Array Bool}(h:oG T v a){j:Nat}(z:j≠v->T j):oG T v (XG a j):=by
 unfold XG;by_cases q:a.2.getD j true=true
 ·rw[Wi q];exact h
 ·rw[Wh q];have n:j≠v:=by intro e;subst e;exact q h.bar
  refine⟨?_,?_,?_⟩
  ·show(a.2.setIfInBounds j true).getD v true=true;rw[Zy,Wh (by simp[n])];exact h.bar
  ·intro k hk;rcases List.mem_cons.1 hk with rfl | hk
   ·exact z n
   ·exact h.todo k hk
  ·intro i hi;have hi:(a.2.setIfInBounds j true).getD i false=true:=hi;rw[Zy] at hi;by_cases c:j=i/\j<a.2.size
   ·rw[<-c.1];exact UH (z n)
   ·rw[Wh c]at hi;exact h.seen i hi
theorem yX{T:Nat->Prop}{v:Nat}:∀(l:List Nat) {a:List Nat×Array Bool},oG T v a->(∀j∈l,j≠v->T j)->oG T v (l.foldl XG a)
 |[],_,h,_=>h
 | j::l,_,h,hl=>by
  rw[UJ];exact yX l (oP h (hl j We)) (fun i hi=>hl i (by simp[hi]))
theorem JO {near:Array (List Nat)} {T:Nat->Prop} {v:Nat} (B:∀k,T k->∀j∈near.getD k [],j≠v->T j) :
  ∀(n:Nat)(todo:List Nat)(seen:Array Bool),oG T v (todo,seen)->∀j,(Uv near n todo seen).getD j false=true->j=v\/T j
 |0,_,_,h,j,z=>h.seen j z
 |n+1,[],_,h,j,z=>h.seen j z
 | n+1,k::r,seen,h,j,z=>by
  rw[de]at z;have hr:oG T v (r,seen):=⟨h.bar,fun x F=>h.todo x (by simp[F]),h.seen⟩;have:=yX (near.getD k []) hr (B k (h.todo k We));exact JO B n _ _ this j z
theorem kR(a:List Nat×Array Bool)(j:Nat):(XG a j).2.size=a.2.size:=by unfold XG;grind
theorem zO:∀(l:List Nat)(a:List Nat×Array Bool),(l.foldl XG a).2.size=a.2.size
 |[],_=>rfl
 |j::l,a=>by rw[UJ,zO l,kR]
theorem qO (near:Array (List Nat)):∀(n:Nat)(todo:List Nat)(seen:Array Bool),(Uv near n todo seen).size=seen.size
 |0,_,_=>rfl
 |n+1,[],_=>rfl
 |n+1,k::r,seen=>by rw[de,qO near n,zO]
theorem dv(S:Plan)(k:Nat):S.nears.getD k []=if k<S.pts.length then S.near k else []:=by
 unfold Plan.nears;by_cases h:k<S.pts.length
 ·rw[Wi h];simp[Gc,h]
 ·rw[Wh h];simp[Gc,h]
theorem a9.cC(F:a9 S) (h:(dr S).a5 d):d.1<S.pts.length/\d.2<S.pts.length:=by
 rcases h with h|h
 ·exact F.d7 h
 ·exact(F.d7 h).symm
theorem a9.conn(F:a9 S)
  (I:(xP S.pts.length).find? (fun(i:Nat)=>!((Vq S.nears S.pts.length 0 (Gg S.pts.length)).getD i false))=none):(dr S).oW:=by
 intro Q d e hd O z U;have B:∀x,(dr S).a5 x->(Q x.1↔Q x.2):=fun x J=>⟨z x J,z (x.2,x.1) J.rev⟩
 have all:∀i,i<S.pts.length->(Q i↔Q 0):=by
  intro i hi;rw[UB]at I;have:=I i (List.mem_range.2 hi);simp only[Bool.not_eq_true,Bool.not_eq_false']at this;unfold Vq at this
  have G:=JO (near:=S.nears) (T:=fun w=>(Q w↔Q 0)) (v:=S.pts.length) (fun k hk j n _=>by
   rw[dv]at n;by_cases q:k<S.pts.length
   ·rw[Wi q]at n;have:=B (k,j) (F.cp.1 n);lia
   ·rw[Wh q] at n;simp at n) _ _ _ ⟨by
    show(VG _ _ _).getD _ _=_;rw[Zy];simp[Gg,Gc],by simp,by
    intro j n;have n:(VG (Gg S.pts.length) 0 true).getD j false=true:=n;rw[Zy]at n;by_cases c:0=j/\0<(Gg S.pts.length).size
    ·right;rw[<-c.1]
    ·rw[Wh c]at n;simp[Gg,Gc,Qa8]at n;split at n<;>simp at n⟩ i this
  rcases G with h|h
  ·lia
  ·exact h
 have h1:=all d.1 (F.cC hd).1;have h2:=all e.1 (F.cC O).1;exact h2.2 (h1.1 U)
theorem a9.tq(F:a9 S){v:Nat}(hv:v<S.pts.length)(hn:2<=S.pts.length)(z:V5 S.nears S.pts.length v=false):(dr S).mi v:=by
 intro Q d e hd he nd ne B hQ;have G:∀x,(dr S).a5 x->x.1≠v->x.2≠v->(Q x.1↔Q x.2):=fun x hx h1 h2=>⟨B x hx h1 h2,B (x.2,x.1) hx.rev h2 h1⟩;unfold V5 at z;generalize J:(if v=0 then 1 else 0)=st at z;have I:st≠v:=by rw[<-J];by_cases q:v=0<;>simp[q]<;>lia
 have all:∀i,i<S.pts.length->i≠v->(Q i↔Q st):=by
  intro i hi O;unfold Vq at z
  have sz:(Uv S.nears (S.pts.length+1) [st] (((Gg S.pts.length).setIfInBounds v true).setIfInBounds st true)).size=S.pts.length:=by rw[qO];simp[Gg]
  have U:(Uv S.nears (S.pts.length+1) [st] (((Gg S.pts.length).setIfInBounds v true).setIfInBounds st true)).getD i false=true:=by
   generalize Uv S.nears (S.pts.length+1) [st] (((Gg S.pts.length).setIfInBounds v true).setIfInBounds st true)=A at *
   have:¬false∈A:=by grind
   rw[Gc,GZ L];grind
  have aa:=JO (near:=S.nears) (T:=fun w=>w≠v/\(Q w↔Q st)) (v:=v) (fun k hk j n ab=>by
   rw[dv]at n;by_cases q:k<S.pts.length
   ·rw[Wi q]at n;have:=G (k,j) (F.cp.1 n) hk.1 ab;lia
   ·rw[Wh q] at n;simp at n) _ _ _ ⟨by
    show(VG _ _ _).getD _ _=_;rw[Zy];by_cases c:st=v/\st<((Gg S.pts.length).setIfInBounds v true).size
    ·rw[Wi c]
    ·rw[Wh c,Zy,Wi ⟨Z,by simpa [Gg] using hv⟩],by
    intro k hk;simp only[G0]at hk;subst hk;exact⟨I,Iff.rfl⟩,by
    intro j n;have n:(VG ((Gg S.pts.length).setIfInBounds v true) st true).getD j false=true:=n;rw[Zy]at n;by_cases c:st=j/\st<((Gg S.pts.length).setIfInBounds v true).size
    ·right;rw[<-c.1];exact⟨I,Iff.rfl⟩
    ·rw[Wh c,Zy] at n;by_cases c2:v=j/\v<(Gg S.pts.length).size
     ·left;exact c2.1.symm
     ·rw[Wh c2]at n;simp[Gg,Gc,Qa8]at n;split at n<;>simp at n⟩ i U
  rcases aa with h|h
  ·exact Wm h O
  ·exact h.2
 have h1:=all d.1 (F.cC hd).1 nd;have h2:=all e.1 (F.cC he).1 ne;exact h2.2 (h1.1 hQ)
theorem a9.ra{S:Plan}(F:a9 S){m:Dt} (j:m∈(dr S).E) {t:Int} (n:(dr S).act m t):0<=(dr S).h m (2*t+1):=by
 have hl:=F.bU j;have G:=a9.uO (S:=S) m;have I:=F.Hu j;have dp:=F.iK;have y1:0<=(dr S).D*YP (S.pt m.1):=UF L (by unfold YP;lia);have J:0<=(dr S).D*YP (S.pt m.2):=UF L (by unfold YP;lia);have cG:∀t,(dr S).h m t=(dr S).h m 0+(dr S).s m*t:=by intro t;unfold Dr.h;grind
 have O:=cG (2*XP (S.pt m.1));have U:=cG (2*XP (S.pt m.2));have a3:=cG (2*t+1);have Cz:XP (S.pt m.1)<=t:=n.1;have z:t<XP (S.pt m.2):=n.2
 have:=tF (A:=- (dr S).h m 0) (B:=- (dr S).s m) (p:=2*XP (S.pt m.1)) (q:=2*XP (S.pt m.2)) (t:=2*t+1) L L
  (by rw[Qal];lia) (by rw[Qal];lia)
 lia
theorem a9.dW(F:a9 S){a b:Nat} (h:(a,b)∈(dr S).E) (j:(S.pt a).y=0) (n:(S.pt b).y=0) (N:Dt->Int):(dr S).Wd N (b,a)=0:=by
 have hl:=F.bU h;simp only at hl
 have h0:∀t,(dr S).h (a,b) t=0:=by
  intro t;unfold Dr.h;show 2*((dr S).D*YP (S.pt a))+(YP (S.pt b)-YP (S.pt a))*_*_=0;have z:YP (S.pt a)=0:=by unfold YP;rw[j];rfl
  have B:YP (S.pt b)=0:=by unfold YP;rw[n];rfl
  rw[z,B];simp
 unfold Dr.Wd;rw[Wh (by show ¬XP (S.pt b)<XP (S.pt a);lia)];show(dr S).bl N (a,b) ((dr S).X a)=0;unfold Dr.bl;apply Q1;intro m G;apply Wh;rintro⟨c1,c2⟩;rw[h0]at c2;have:=F.ra G c1;lia
theorem Q9(F:a9 S){i j:Nat}(h:S.joined i j=true):(dr S).a5 (i,j):=by unfold Plan.joined at h;rw[UW]at h;rw[F.dG];lia
theorem QG{on:Pt->Bool}{i:Nat}:i∈Gq S on↔i<S.pts.length/\on (S.pt i)=true:=by unfold Gq;rw[VL,List.mem_range]
theorem a9.outer(F:a9 S)(hw:0<S.w)(G:UG S=true):∃d0:Dt,(dr S).a5 d0/\(∀N,(dr S).Wd N d0=0)/\(S.pt d0.1).y=0/\(S.pt d0.2).y=0/\(S.pt d0.2).x<(S.pt d0.1).x:=by
 unfold UG at G;simp only[Ga]at G;obtain⟨c1,c2,_,_,n,_⟩:=G;rw[UW]at c1 c2;obtain⟨i,hi,I⟩:=List.mem_iff_getElem.1 c1;obtain⟨j,hj,J⟩:=List.mem_iff_getElem.1 c2;have pi:S.pt i=⟨0,0⟩:=by rw[bF hi,I]
 have O:S.pt j=⟨S.w,0⟩:=by rw[bF hj,J]
 have aa:i≠j:=by intro e;subst e;rw[pi]at O;simp at O;lia
 have z:i∈Gq S (fun(p:Pt)=>p.y==0):=QG.2 ⟨hi,by rw[pi];rfl⟩;have U:j∈Gq S (fun(p:Pt)=>p.y==0):=QG.2 ⟨hj,by rw[O];rfl⟩
 have all:∀k∈Gq S (fun(p:Pt)=>p.y==0),(S.pt k).y=0:=by intro k hk;have:=(QG.1 hk).2;lia
 generalize Gq S (fun(p:Pt)=>p.y==0)=l at *;match l,z,U,all,n with
 |[],z,_,_,_=>simp at z
 | [x],z,U,_,_=>
  simp at z U;lia
 | x::y::r,_,_,all,n=>
  unfold GR at n;simp only[GT,G6,VN,UP,Ga]at n;have hd:=Q9 F n.1;have y1:=all x We;have B:=all y We;rcases hd with hd|hd
  ·refine⟨(y,x),UH hd,fun N=>F.dW hd y1 B N,B,y1,?_⟩;have hl:=F.bU hd;unfold XP at hl;lia
  ·refine⟨(x,y),UH hd,fun N=>F.dW hd B y1 N,y1,B,?_⟩;have hl:=F.bU hd;unfold XP at hl;lia
def rd(nx:Dt->Dt):Nat->Dt->Dt->List Dt
 |0,_,_=>[]
 |n+1,s,e=>e::(if nx e=s then [] else rd nx n s (nx e))
theorem gg(S:Plan):∀(n:Nat)(s e:Dt),S.round n s e=(rd (cZ S) n s e).map (·.1)
 |0,_,_=>rfl
 | n+1,s,e=>by
  unfold Plan.round rd;show e.1::(if cZ S e=s then [] else S.round n s (cZ S e))=_;rw[xV];by_cases h:cZ S e=s
  ·rw[Wi h,Wi h];rfl
  ·rw[Wh h,Wh h,gg S n]
theorem DU(p:eG nx d k):∀(j n:Nat),j<k->k<=n+j->rd nx n d (it nx j d)=(xP (k-j)).map (fun i=>it nx (j+i) d):=by
 intro j n;induction n generalizing j with
 |zero=>intro h1 h2;lia
 | succ n z=>
  intro h1 h2;unfold rd;rw[show nx (it nx j d)=it nx (j+1) d from Z];by_cases q:j+1=k
  ·rw[q,Wi p.back,show k-j=1 by lia];simp
  ·rw[Wh (p.first (j+1) L L),z (j+1) L L];rw[show k-j=(k-(j+1))+1 by lia,Qbi,xV,VA];congr 1;apply UN;lia
theorem Cp(p:eG nx d k){n:Nat}(h:k<=n):rd nx n d d=wk nx d k:=by have:=DU p 0 n p.pos L;rw[show it nx 0 d=d from Z]at this;rw[this];unfold wk;lia
theorem b'(nx:Dt->Dt)(d:Dt)(k i:Nat) (h:i<(wk nx d k).length):(wk nx d k)[i]=it nx i d:=by simp[wk]
theorem AE(p:eG nx d k){j:Nat}(n:j<=k):wk nx (it nx j d) k=(wk nx d k).drop j++(wk nx d k).take j:=by
 apply Qbc
 ·simp[bc];lia
 ·intro i h1 h2;rw[bc] at h1;rw[b',<-Xb];by_cases q:i<k-j
  ·rw[VI (by simp[bc];lia),Qaz,b'];congr 1;lia
  ·rw[UZ (by simp[bc];lia),VX,b'];simp only[Gd,bc];rw[show i+j=(i-(k-j))+k by lia,Xb,p.back]
theorem vk(p:eG nx d k) (hf:∀j,(it nx (j+1) d).1=(it nx j d).2) :
  ((wk nx d k).map (·.1)).zip (((wk nx d k).map (·.1)).drop 1++((wk nx d k).map (·.1)).take 1)=wk nx d k:=by
 have pos:=p.pos;apply Qbc
 ·simp[bc];lia
 ·intro i h1 h2;rw[bc] at h2;rw[List.getElem_zip,Qbd,b'];apply Prod.ext
  ·rfl
  ·show _=(it nx i d).2;rw[<-hf];by_cases q:i<k-1
   ·rw[VI (by simp[bc];lia),Qaz,Qbd,b'];rw[U7]
   ·rw[UZ (by simp[bc];lia),VX,Qbd,b'];simp only[Gd,xD,bc];rw[show i-(k-1)=0 by lia,show i+1=k by lia,p.back];rfl
theorem jn:∀(r:List Nat)(a:Nat),(r.foldl min a=a\/r.foldl min a∈r)/\r.foldl min a<=a/\∀x∈r,r.foldl min a<=x
 |[],a=>by simp
 | b::r,a=>by
  rw[UJ];obtain⟨h1,h2,j⟩:=jn r (min a b);refine⟨?_,by lia,?_⟩
  ·grind
  ·grind
def XZ(l:List Nat):Nat:=match l with
 |[]=>0
 |a::r=>l.idxOf (r.foldl min a)
theorem xh(l:List Nat):Qb4 l=l.drop (XZ l)++l.take (XZ l):=by
 cases l with
 |nil=>rfl
 |cons a r=>rfl
theorem kD{l:List Nat}(h:l≠[]):∃hi:XZ l<l.length,∀x∈l,l[XZ l]<=x:=by
 cases l with
 |nil=>exact Wm Z h
 | cons a r=>
  obtain⟨h1,h2,n⟩:=jn r a
  have z:r.foldl min a∈a::r:=by grind
  have hi:(a::r).idxOf (r.foldl min a)<(a::r).length:=List.idxOf_lt_length_of_mem z;refine⟨hi,?_⟩;intro x j;show(a::r)[(a::r).idxOf (r.foldl min a)]<=x;rw[List.getElem_idxOf];rcases List.mem_cons.1 j with rfl|j
  ·exact h2
  ·exact n x j
structure Good(S:Plan):Prop where
 fine:a9 S
 conn:(dr S).oW
 tq:∀v,v<S.pts.length->(dr S).mi v
 Dj:∀v,v<S.pts.length->∃x,(dr S).a5 (v,x)
 wpos:0<S.w
 oZ:0<S.h
 frame:UG S=true
theorem Good.iI(G:Good S)(d:Dt):∃k,(dr S).a5 d->eG (cZ S) d k/\k<=2*S.lines.length:=by
 by_cases h:(dr S).a5 d
 ·obtain⟨k,h1,h2⟩:=G.fine.ok.Bk G.fine.eI h;refine⟨k,fun _=>⟨h1,?_⟩⟩;have:(dr S).E.length=S.lines.length:=by show (S.lines.map (dZ S)).length=_;simp
  lia
 ·exact⟨0,fun h'=>Wm h' h⟩
noncomputable def Good.pr {S:Plan} (G:Good S) (d:Dt):Nat:=Classical.choose (G.iI d)
theorem Good.dw(G:Good S) (h:(dr S).a5 d):eG (cZ S) d (G.pr d):=(UX (G.iI d) h).1
theorem Good.uI(G:Good S) (h:(dr S).a5 d):G.pr d<=2*S.lines.length:=(UX (G.iI d) h).2
theorem kg{j k:Nat}(h1:eG nx d j)(h2:eG nx d k):j=k:=by
 rcases Uu j k with h|h|h
 ·exact Wm h1.back (h2.first j h1.pos h)
 ·exact h
 ·exact Wm h2.back (h1.first k h2.pos h)
theorem Cq(O:K.Ok)(R:K.dY nx)(hd:K.a5 d)(p:eG nx d k)(j:Nat):eG nx (it nx j d) k where
 pos:=p.pos
 back:=by rw[<-Xb,U7,Xb,p.back]
 first:=fun i h0 hi e=>by
  rw[<-Xb,U7,Xb]at e;exact p.first i h0 hi (O.kZ R (R.bE hd i) hd j e)
noncomputable def Good.bH {S:Plan} (G:Good S) (d:Dt):List Dt:=wk (cZ S) d (G.pr d)
noncomputable def Good.vs {S:Plan} (G:Good S) (d:Dt):List Nat:=(G.bH d).map (·.1)
theorem Good.bw(G:Good S){d x:Dt} (h:(dr S).a5 d) (n:x∈G.bH d):(dr S).a5 x:=by obtain⟨j,_,rfl⟩:=Zv.1 n;exact G.fine.eI.bE h j
theorem Good.A9(G:Good S){d x:Dt} (h:(dr S).a5 d) (n:x∈G.bH d):G.pr x=G.pr d:=by obtain⟨j,_,rfl⟩:=Zv.1 n;exact kg (G.dw (G.fine.eI.bE h j)) (Cq G.fine.ok G.fine.eI h (G.dw h) j)
theorem Good.tV(G:Good S) (h:(dr S).a5 d):d∈G.bH d:=(G.dw h).mem.2 ⟨0,Z⟩
theorem Good.bJ(G:Good S){d x y:Dt} (h:(dr S).a5 d) (n:x∈G.bH d) (z:y∈G.bH x):y∈G.bH d:=by obtain⟨i,_,rfl⟩:=Zv.1 n;obtain⟨j,_,rfl⟩:=Zv.1 z;exact(G.dw h).mem.2 ⟨j+i,by rw[Xb]⟩
theorem Good.cj(G:Good S){d x:Dt} (h:(dr S).a5 d) (j:x∈G.bH d):d∈G.bH x:=by obtain⟨i,hi,rfl⟩:=Zv.1 j;refine(G.dw (G.fine.eI.bE h i)).mem.2 ⟨G.pr d-i,?_⟩;rw[<-Xb,show G.pr d-i+i=G.pr d by lia,(G.dw h).back]
theorem Good.BC(G:Good S){d x y:Dt} (h:(dr S).a5 d) (B:x∈G.bH d) (F:y∈G.bH d) (e:x.1=y.1):x=y:=by
 have n:=G.bw h B;have z:y∈G.bH x:=G.bJ n (G.cj h B) F;obtain⟨j,I,rfl⟩:=Zv.1 z;by_cases q:j=0
 ·subst q;rfl
 ·exfalso;exact G.fine.ok.once G.fine.eI n (G.tq _ (G.fine.cC n).1) (G.dw n) L I e.symm
theorem Good.EZ(G:Good S) (h:(dr S).a5 d):G.vs d≠[]:=by intro e;have:=Wn Qay e;simp[Good.vs,Good.bH,bc]at this;have:=(G.dw h).pos;lia
theorem Good.kQ(G:Good S)(d:Dt)(i:Nat) (h:i<(G.vs d).length):(G.vs d)[i]=(it (cZ S) i d).1:=by simp[Good.vs,Good.bH,wk]
noncomputable def Good.lead {S:Plan} (G:Good S) (d:Dt):Dt:=it (cZ S) (XZ (G.vs d)) d
theorem Good.bB(G:Good S) (h:(dr S).a5 d):G.lead d∈G.bH d/\(∀x∈G.bH d,(G.lead d).1<=x.1)/\Qb4 (G.vs d)=G.vs (G.lead d):=by
 obtain⟨hi,n⟩:=kD (G.EZ h);have hl:XZ (G.vs d)<G.pr d:=by simpa [Good.vs,Good.bH,bc] using hi
 have j:G.lead d∈G.bH d:=Zv.2 ⟨_,hl,Z⟩;refine⟨j,?_,?_⟩
 ·intro x z;have:=n x.1 (List.mem_map.2 ⟨x,z,Z⟩);have e:(G.vs d)[XZ (G.vs d)]=(G.lead d).1:=G.kQ d _ hi;rw[e]at this;exact this
 ·rw[xh];show _=(wk (cZ S) (G.lead d) (G.pr (G.lead d))).map (·.1);rw[G.A9 h j];show _=(wk (cZ S) (it (cZ S) (XZ (G.vs d)) d) (G.pr d)).map (·.1);rw[AE (G.dw h) L,Gs,Qaf,Vs];rfl
theorem Good.cQ(G:Good S){d x:Dt} (h:(dr S).a5 d) (z:x∈G.bH d):G.lead x=G.lead d:=by have j:=G.bw h z;obtain⟨F,I,_⟩:=G.bB h;obtain⟨J,O,_⟩:=G.bB j;have n:G.lead x∈G.bH d:=G.bJ h z J;have B:G.lead d∈G.bH x:=G.bJ j (G.cj h z) F;apply G.BC h n F;have:=I _ n;have:=O _ B;lia
theorem Good.ur(G:Good S) (h:(dr S).a5 d):S.round (2*S.lines.length+1) d d=G.vs d:=by rw[gg,Cp (G.dw h) (by have:=G.uI h;lia)];rfl
theorem Good.turned(G:Good S) (h:(dr S).a5 d):Qb4 (S.round (2*S.lines.length+1) d d)=G.vs (G.lead d):=by rw[G.ur h,(G.bB h).2.2]
theorem Good.two(G:Good S) (h:(dr S).a5 d):2<=G.pr d:=by
 have p:=G.dw h;have:=p.pos;apply xJ;intro hc;have:G.pr d=1:=by lia
 have b:=p.back;rw[this]at b;have:(cZ S d).1=d.1:=by rw[show cZ S d=d from b]
 have e:d.2=d.1:=this;rcases G.fine.ok.cJ h with⟨a,_⟩|⟨a,_⟩<;>rw[e]at a<;>lia
def mq(l:List Nat):Dt:=(l.getD 0 0,l.getD 1 0)
theorem Good.cU(G:Good S) (h:(dr S).a5 d):mq (G.vs d)=d:=by
 have h2:=G.two h
 have j:(G.vs d).getD 0 0=d.1:=by
  have hl:0<(G.vs d).length:=by simp[Good.vs,Good.bH,bc];lia
  rw[Gv,xF hl,Vh,G.kQ];rfl
 have n:(G.vs d).getD 1 0=d.2:=by
  have hl:1<(G.vs d).length:=by simp[Good.vs,Good.bH,bc];lia
  rw[Gv,xF hl,Vh,G.kQ];rfl
 unfold mq;rw[j,n]
theorem Good.pairs(G:Good S) (h:(dr S).a5 d):(G.vs d).zip ((G.vs d).drop 1++(G.vs d).take 1)=G.bH d:=
 vk (G.dw h) (fun _=>rfl)
theorem Good.cO(G:Good S) (h:(dr S).a5 d):(dr S).Cons (Q3 (G.bH d)):=
 G.fine.ok.cM G.fine.eI h ((G.dw h).nodup G.fine.ok G.fine.eI h) (by rw[(G.dw h).back])
theorem Good.dU(G:Good S) (h:(dr S).a5 d):(G.bH d).Nodup:=(G.dw h).nodup G.fine.ok G.fine.eI h
theorem Ew(g:Nat->Int) (hf:∀j,(it nx (j+1) d).1=(it nx j d).2) (k:Nat) :
  su (wk nx d k) (fun x=>g x.2-g x.1)=g (it nx k d).1-g d.1:=by
 induction k with
 |zero=>simp[wk,ZV,it]
 |succ k n=>rw[lF,Yh,QQ,ZV,n,<-hf];lia
theorem tm(l:List α)(f:α->Int):(l.map f).foldr (fun(a b:Int)=>a+b) 0=su l f:=by
 induction l with
 |nil=>rfl
 |cons a l j=>rw[xV,List.foldr_cons,j,QQ]
theorem Good.wN(G:Good S){d:Dt} (h:(dr S).a5 d) :
  1048576*Qb5 S (G.vs d) = - su (dr S).E (fun m=>Q3 (G.bH d) m*(dr S).ar m):=by
 unfold Qb5;rw[G.pairs h,tm,<-XF];have t:=Ew (nx:=cZ S) (d:=d) (fun i=>XP (S.pt i)*YP (S.pt i)) (fun _=>rfl) (G.pr d);rw[(G.dw h).back]at t
 have e:su (G.bH d) (fun x=>1048576*(((S.pt x.1).x:Int)*((S.pt x.2).y:Int)-((S.pt x.2).x:Int)*((S.pt x.1).y:Int))) =
   su (G.bH d) (fun x=>XP (S.pt x.2)*YP (S.pt x.2)-XP (S.pt x.1)*YP (S.pt x.1))-su (G.bH d) (fun x=>(dr S).ar x):=by
  rw[<-XE];apply Qr;intro x _;show _=_-(XP (S.pt x.2)-XP (S.pt x.1))*(YP (S.pt x.1)+YP (S.pt x.2));unfold XP YP;grind
 rw[e]
 have t':su (G.bH d) (fun x=>XP (S.pt x.2)*YP (S.pt x.2)-XP (S.pt x.1)*YP (S.pt x.1))=0:=by show su (wk (cZ S) d (G.pr d)) _=0;lia
 rw[t',G.fine.ok.dI (G.dU h) (fun x j=>G.bw h j)]
 have:su (dr S).E (fun m=>(if m∈G.bH d then(dr S).ar m else 0)+(if(m.2,m.1)∈G.bH d then(dr S).ar (m.2,m.1) else 0))=su (dr S).E (fun m=>Q3 (G.bH d) m*(dr S).ar m):=by
  apply Qr;intro m _
  have:(dr S).ar (m.2,m.1) = - (dr S).ar m:=by show(XP (S.pt m.1)-XP (S.pt m.2))*(YP (S.pt m.2)+YP (S.pt m.1)) = - ((XP (S.pt m.2)-XP (S.pt m.1))*(YP (S.pt m.1)+YP (S.pt m.2)));grind
  rw[this];unfold Q3;by_cases a:m∈G.bH d<;>by_cases b:(m.2,m.1)∈G.bH d<;>simp only[a,b,Wq,Wr]<;>grind
 rw[this];lia
noncomputable def Good.d0 {S:Plan} (G:Good S):Dt:=Classical.choose (G.fine.outer G.wpos G.frame)
theorem Good.eU(G:Good S):(dr S).a5 G.d0:=(UX (G.fine.outer G.wpos G.frame)).1
theorem Good.mx(G:Good S)(N:Dt->Int):(dr S).Wd N G.d0=0:=(UX (G.fine.outer G.wpos G.frame)).2.1 N
theorem Good.Em(G:Good S):(S.pt G.d0.1).y=0/\(S.pt G.d0.2).y=0/\(S.pt G.d0.2).x<(S.pt G.d0.1).x:=(UX (G.fine.outer G.wpos G.frame)).2.2
theorem Good.W(G:Good S){r:Dt} (hr:(dr S).a5 r) {e:Dt} (j:(dr S).a5 e) :
  (dr S).Wd (Q3 (G.bH r)) e=(if e∈G.bH r then 1 else 0)-(if G.d0∈G.bH r then 1 else 0):=by
 have a:=G.fine.ok.around G.fine.eI G.conn hr (G.dw hr) j;have b:=G.fine.ok.around G.fine.eI G.conn hr (G.dw hr) G.eU;rw[G.mx]at b;show(dr S).Wd (Q3 (wk (cZ S) r (G.pr r))) e=(if e∈wk (cZ S) r (G.pr r) then 1 else 0)-(if G.d0∈wk (cZ S) r (G.pr r) then 1 else 0);lia
theorem Good.g9(G:Good S){r:Dt} (hr:(dr S).a5 r):0<Qb5 S (G.vs r)↔G.d0∉G.bH r:=by
 have e:=G.wN hr;have O:=G.fine.ok;constructor
 ·intro h h0
  have n:∀m∈(dr S).E,0<=(dr S).Wd (fun e=>su [()] (fun _=>(-1)*Q3 (G.bH r) e)) m:=by intro m j;rw[O.sW [()] (fun _=>-1) (fun _=>Q3 (G.bH r)) (G4 j),QQ,ZV,G.W hr (G4 j),Wi h0];lia
  have C:(dr S).Cons (fun e=>su [()] (fun _=>(-1)*Q3 (G.bH r) e)):=gA [()] (fun _=>-1) (fun _=>Q3 (G.bH r)) (fun _ _=>G.cO hr);have:=(O.FC C n).1
  have I:su (dr S).E (fun m=>su [()] (fun _=>(-1)*Q3 (G.bH r) m)*(dr S).ar m) = - su (dr S).E (fun m=>Q3 (G.bH r) m*(dr S).ar m):=by rw[<-jD];apply Qr;intro m _;rw[QQ,ZV];grind
  lia
 ·intro h0
  have F:∀m,(dr S).a5 m->(dr S).Wd (Q3 (G.bH r)) m=if m∈G.bH r then 1 else 0:=by intro m j;rw[G.W hr j,Wh h0];lia
  have n:∀m∈(dr S).E,0<=(dr S).Wd (Q3 (G.bH r)) m:=by intro m j;rw[F m (G4 j)];lia
  have:=(O.FC (G.cO hr) n).2 (by
   have s:=G.tV hr;have z:=hr;rcases z with B|B
   ·grind
   ·grind)
  lia
theorem Good.eN(G:Good S){e:Dt}:e∈Gla.ways S↔(dr S).a5 e:=by rw[G.fine.dG];unfold Gla.ways;grind
theorem Good.bV(G:Good S){l:List Nat}:l∈S.outlines↔∃e,(dr S).a5 e/\G.d0∉G.bH e/\l=G.vs (G.lead e):=by
 unfold Plan.outlines;rw[VL,List.mem_eraseDups,List.mem_map];constructor
 ·rintro⟨⟨e,j,rfl⟩,z⟩;have j:=G.eN.1 j;have hl:=(G.bB j).1;have n:=G.bw j hl;rw[G.turned j]at z ⊢;refine⟨e,j,?_,Z⟩;have:=(G.g9 n).1 (by simpa using z);intro h;exact this (G.bJ n (G.cj j hl) h)
 ·rintro⟨e,j,h0,rfl⟩;have hl:=(G.bB j).1;have n:=G.bw j hl;refine⟨⟨e,G.eN.2 j,G.turned j⟩,?_⟩;have:=(G.g9 n).2 (fun h=>h0 (G.bJ j hl h));simpa using this
theorem YH [BEq α] [LawfulBEq α]:∀(n:Nat)(l:List α),l.length<=n->l.eraseDups.Nodup
 |_,[],_=>by simp
 |0,a::l,h=>by simp at h
 | n+1,a::l,h=>by
  rw[List.eraseDups_cons,U3];refine⟨?_,YH n _ ?_⟩
  ·rw[List.mem_eraseDups,VL];simp
  ·grind
theorem Good.ed(_:Good S):S.outlines.Nodup:=by unfold Plan.outlines;exact(YH _ _ (xO _)).filter _
noncomputable def Good.uH {S:Plan} (_:Good S):List Dt:=S.outlines.map mq
theorem Good.dh(G:Good S){r:Dt}:r∈G.uH↔(dr S).a5 r/\G.d0∉G.bH r/\G.lead r=r:=by
 unfold Good.uH;rw[List.mem_map];constructor
 ·rintro⟨l,hl,rfl⟩;obtain⟨e,n,h0,rfl⟩:=G.bV.1 hl;have hl:=(G.bB n).1;have j:=G.bw n hl;rw[G.cU j];exact⟨j,fun h=>h0 (G.bJ n hl h),G.cQ n hl⟩
 ·rintro⟨hr,h0,hl⟩;exact⟨G.vs r,G.bV.2 ⟨r,hr,h0,by rw[hl]⟩,G.cU hr⟩
theorem Good.rS(G:Good S):YD (dr S) (cZ S) G.pr G.d0 G.uH where
 dw:=fun d h=>G.dw h
 out:=G.eU
 zero:=G.mx
 dD:=fun r hr=>(G.dh.1 hr).1
 nodup:=by apply Yy _ G.ed;intro a B b F e;obtain⟨x,n,_,rfl⟩:=G.bV.1 B;obtain⟨y,z,_,rfl⟩:=G.bV.1 F;rw[G.cU (G.bw n (G.bB n).1),G.cU (G.bw z (G.bB z).1)]at e;rw[e]
 sep:=fun r hr q I h=>by
  have a:=G.dh.1 hr;have b:=G.dh.1 I;rw[<-a.2.2,<-b.2.2];exact G.cQ a.1 h
 inner:=fun r hr=>(G.dh.1 hr).2.1
 all:=fun d hd=>by
  by_cases h:G.d0∈G.bH d
  ·left;exact G.cj hd h
  ·right;have hl:=(G.bB hd).1;have j:=G.bw hd hl;exact⟨G.lead d,G.dh.2 ⟨j,fun h'=>h (G.bJ hd hl h'),G.cQ hd hl⟩,G.cj hd hl⟩
theorem Good.EA(G:Good S):S.outlines.length+S.pts.length=S.lines.length+1:=by
 have j:∀e∈(dr S).E,e.1∈xP S.pts.length/\e.2∈xP S.pts.length:=by intro e n;have:=G.fine.d7 n;simp[this]
 have h1:=G.rS.uJ G.fine.ok G.fine.eI G.conn (V:=xP S.pts.length) Qbe j (fun v z=>G.Dj v (List.mem_range.1 z));have h2:=G.rS.pM G.fine.ok G.fine.eI (V:=xP S.pts.length) Qbe j;have B:G.uH.length=S.outlines.length:=by simp[Good.uH]
 have F:(dr S).E.length=S.lines.length:=by show(S.lines.map (dZ S)).length=_;simp
 grind
theorem md{l:List α}{f:α->Int}(h:∀x∈l,f x%2=0):su l f%2=0:=by
 induction l with
 |nil=>rfl
 | cons a l j=>
  have h1:=h a We;have h2:=j (fun x n=>h x (by simp[n]));rw[QQ];lia
theorem qc(x y : Int) : (0<x->(0<y->0<x*y)/\(y<=0->x*y<=0))/\(x<0->(0<y->x*y<0)/\(y<=0->0<=x*y)) :=
  ⟨fun n => ⟨fun j => UQ n j, fun j => Gr L j⟩,
   fun n => ⟨fun j => Ub n j, fun j => GE L j⟩⟩
def cR(p q z:Pt):Bool:=(decide (p.y<=z.y)&&(decide (z.y<q.y)&&decide (0<xN p q z)))||(decide (q.y<=z.y)&&(decide (z.y<p.y)&&decide (xN p q z<0)))
def cD(p q z:Pt):Bool:=(decide (XP p<XP z)&&(decide (XP z<XP q)&&decide (0<xN p q z)))||(decide (XP q<XP z)&&(decide (XP z<XP p)&&decide (xN p q z<0)))
def Ak(p z:Pt):Bool:=decide (XP z<XP p)&&decide (p.y<=z.y)
def b2i(b:Bool):Int:=if b=true then 1 else 0
theorem Df{p q z:Pt}(n:XP p≠XP z)(B:XP q≠XP z)(j:Uq p q z=false) :
  (b2i (cR p q z)+b2i (cD p q z)+(b2i (Ak p z)+b2i (Ak q z)))%2=0:=by
 have F:1048576*xN p q z=(XP p-XP z)*(YP q-YP z)-(XP q-XP z)*(YP p-YP z):=by rw[JL];grind
 have J:(XP p<XP z->XP z<XP q->xN p q z≠0)/\(XP q<XP z->XP z<XP p->xN p q z≠0):=by
  constructor
  ·intro h1 h2 h0;rw[Xw h0 L L L]at j;cases j
  ·intro h1 h2 h0;have:Uq q p z=true:=Xw (by rw[Ye,h0];rfl) L L L;rw[qG,j]at this;cases this
 have G:=qc (XP p-XP z) (YP q-YP z);have I:=qc (XP q-XP z) (YP p-YP z);unfold YP at F G I;unfold cR cD Ak b2i;simp only[VM,Ga,Wp];generalize (XP p-XP z)*((q.y:Int)-(z.y:Int))=u at *;generalize (XP q-XP z)*((p.y:Int)-(z.y:Int))=w at *;generalize xN p q z=T at *
 rcases Vo n with a|a<;>rcases Vo B with b|b<;>
  rcases Ul z.y p.y with c|c<;>rcases Ul z.y q.y with d|d<;>
  simp only[a,b,c,d,Int.not_lt.2 (Int.le_of_lt a),Int.not_lt.2 (Int.le_of_lt b),Nat.not_le.2,Nat.not_lt.2,true_and,false_and,and_true,and_false,Ws,false_or,Wq,Wr]<;>
  (first|lia|(split<;>(first|lia|(split<;>lia))))
structure uM(S:Plan)(z:Pt):Prop where
 x0:0<z.x
 x1:z.x<S.w
 y0:0<z.y
 y1:z.y<S.h
 off:∀l∈S.lines,Uq (S.pt l.1) (S.pt l.2) z=false
theorem km{z:Pt}(h:U4 S z=true):uM S z:=by unfold U4 at h;simp only[Ga,Wp,Bool.not_eq_true',VQ]at h;obtain⟨a,b,c,d,e⟩:=h;rw[UI]at e;exact⟨a,b,c,d,fun l hl=>by simpa using e l hl⟩
theorem uM.gR(F:a9 S){z:Pt}(c:uM S z) (hd:(dr S).a5 d):Uq (S.pt d.1) (S.pt d.2) z=false:=by
 rcases F.dG.1 hd with h|h
 ·exact c.off d h
 ·exact(qG (S.pt d.1) (S.pt d.2) z).symm.trans (c.off (d.2,d.1) h)
theorem uM.ne(F:a9 S){z:Pt}(c:uM S z) (hd:(dr S).a5 d):XP (S.pt d.1)≠XP z:=by
 intro e;have b:=F.cE (F.cC hd).1;have:=F.h;have hz:=c.y1;have:S.pt d.1=z:=kC L L e;have off:=c.gR F hd;rw[<-this]at off
 have:Uq (S.pt d.1) (S.pt d.2) (S.pt d.1)=true:=by
  unfold Uq Vw;have:xN (S.pt d.1) (S.pt d.2) (S.pt d.1)=0:=by unfold xN GF GG;grind
  grind
 lia
def Wz(S:Plan)(N:Dt->Int)(z:Pt):Int:=
 su (dr S).E (fun m=>if XP (S.pt m.1)<XP z/\XP z<XP (S.pt m.2)/\0<xN (S.pt m.1) (S.pt m.2) z then N m else 0)
theorem kO(l:List α)(p:α->Bool):((l.filter p).length:Int)=su l (fun x=>b2i (p x)):=by
 induction l with
 |nil=>rfl
 | cons a l j=>
  rw[QQ,<-j];unfold b2i;by_cases h:p a=true
  ·grind
  ·grind
theorem Good.inside(G:Good S){z:Pt}(c:uM S z){r:Dt} (hr:(dr S).a5 r) :
  Qbp S (G.vs r) z=true↔Wz S (Q3 (G.bH r)) z%2=1:=by
 have F:=G.fine
 have n:Qbp S (G.vs r) z=decide (((G.bH r).filter (fun(x:WA)=>cR (S.pt x.1) (S.pt x.2) z)).length%2=1):=by unfold Qbp;rw[G.pairs hr];rfl
 rw[n,Wp];have O:=kO (G.bH r) (fun(x:WA)=>cR (S.pt x.1) (S.pt x.2) z)
 have par:=md (l:=G.bH r) (f:=fun x=>b2i (cR (S.pt x.1) (S.pt x.2) z)+b2i (cD (S.pt x.1) (S.pt x.2) z)+(b2i (Ak (S.pt x.1) z)+b2i (Ak (S.pt x.2) z))) (fun x j=>by
  have hd:=G.bw hr j;exact Df (c.ne F hd) (c.ne F (d:=(x.2,x.1)) hd.rev) (c.gR F hd))
 rw[ZL,ZL,ZL]at par;have t:=Ew (nx:=cZ S) (d:=r) (fun i=>b2i (Ak (S.pt i) z)) (fun _=>rfl) (G.pr r);rw[(G.dw hr).back,XE]at t
 have t':su (G.bH r) (fun x=>b2i (Ak (S.pt x.2) z))=su (G.bH r) (fun x=>b2i (Ak (S.pt x.1) z)):=by show su (wk (cZ S) r (G.pr r)) _=su (wk (cZ S) r (G.pr r)) _;lia
 rw[t']at par
 have U:(su (G.bH r) (fun x=>b2i (cD (S.pt x.1) (S.pt x.2) z))-Wz S (Q3 (G.bH r)) z)%2=0:=by
  rw[F.ok.dI (G.dU hr) (fun x j=>G.bw hr j)];unfold Wz;rw[<-XE];apply md;intro m B;have hl:=F.bU B;have ts:=Ye (S.pt m.1) (S.pt m.2) z
  have I:b2i (cD (S.pt m.1) (S.pt m.2) z)=if XP (S.pt m.1)<XP z/\XP z<XP (S.pt m.2)/\0<xN (S.pt m.1) (S.pt m.2) z then 1 else 0:=by unfold b2i cD;lia
  have J:b2i (cD (S.pt (m.2,m.1).1) (S.pt (m.2,m.1).2) z)=if XP (S.pt m.1)<XP z/\XP z<XP (S.pt m.2)/\0<xN (S.pt m.1) (S.pt m.2) z then 1 else 0:=by unfold b2i cD;lia
  rw[I,J];unfold Q3;lia
 lia
structure Under(S:Plan)(z:Pt)(e:Dt):Prop where
 mem:e∈(dr S).E
 l:XP (S.pt e.1)<XP z
 r:XP z<XP (S.pt e.2)
 up:0<xN (S.pt e.1) (S.pt e.2) z
 top:∀m∈(dr S).E,XP (S.pt m.1)<XP z->XP z<XP (S.pt m.2)->0<xN (S.pt m.1) (S.pt m.2) z->(dr S).h m (2*XP z)<=(dr S).h e (2*XP z)
theorem Under.W(F:a9 S){z:Pt}(c:uM S z){e:Dt}(u:Under S z e){N:Dt->Int} (C:(dr S).Cons N):Wz S N z=(dr S).Wd N e:=by
 have O:=F.ok;have hl:=F.bU u.mem;unfold Dr.Wd;rw[Wi (by exact hl),O.dj C u.mem (u:=XP z) ⟨Qa2 _,hl⟩ ⟨by show XP (S.pt e.1)<=XP z;have:=u.l;lia,u.r⟩];unfold Wz Dr.bl;rw[<-ZU O.nodup u.mem N,<-ZL];apply Qr;intro m j;have n:=F.bU j;have G:=c.ne F (d:=m) (G4 j);have I:=u.l;have J:=u.r;by_cases q:m=e
 ·subst q;rw[Wi ⟨u.l,u.r,u.up⟩,Wh L,Wi Z];lia
 ·rw[Wh q];have B:=(F.di u.mem z).1;have sm:=(F.di j z).1;by_cases a:XP (S.pt m.1)<XP z/\XP z<XP (S.pt m.2)
  ·have d:=O.distinct j u.mem q (t:=2*XP z) (by show 2*XP (S.pt m.1)<_;lia) (by show 2*XP (S.pt e.1)<_;lia) (by show _<2*XP (S.pt m.2);lia) (by show _<2*XP (S.pt e.2);lia)
   have o:=O.order j u.mem (t:=2*XP z) (u:=2*XP z+1) (by show 2*XP (S.pt m.1)<_;lia) (by show 2*XP (S.pt e.1)<_;lia) (by show _<2*XP (S.pt m.2);lia) (by show _<2*XP (S.pt e.2);lia)
    (by show 2*XP (S.pt m.1)<_;lia) (by show 2*XP (S.pt e.1)<_;lia) (by show _<2*XP (S.pt m.2);lia) (by show _<2*XP (S.pt e.2);lia)
   have act:(dr S).act m (XP z):=⟨by show XP (S.pt m.1)<=XP z;lia,a.2⟩;have U:=B.1 u.up;by_cases w:0<xN (S.pt m.1) (S.pt m.2) z
   ·have tp:=u.top m j a.1 a.2 w;rw[Wi ⟨a.1,a.2,w⟩,Wi ⟨act,o.1 L⟩];lia
   ·rw[Wh L,Wh (fun h=>w (sm.2 (by have:=o.2 h.2;lia)))];lia
  ·rw[Wh L,Wh (fun h=>a (by
    have h1:XP (S.pt m.1)<=XP z:=h.1.1;have h2:XP z<XP (S.pt m.2):=h.1.2;lia))];lia
theorem Good.er(G:Good S){z:Pt}(c:uM S z){e:Dt}(u:Under S z e){r:Dt} (hr:(dr S).a5 r) (h0:G.d0∉G.bH r) :
  Qbp S (G.vs r) z=true↔e∈G.bH r:=by
 rw[G.inside c hr,u.W G.fine c (G.cO hr),G.W hr (G4 u.mem),Wh h0];by_cases q:e∈G.bH r
 ·simp[q]
 ·simp[q]
theorem Q2(S:Plan)(on:Pt->Bool):(Gq S on).Pairwise (·<·):=by unfold Gq;apply List.Pairwise.filter;rw[UY];intro i j hi z n;simpa using n
theorem XO:∀{l:List Nat},GR S l=true->l.Pairwise (·<·)->∀{v w:Nat},v∈l->w∈l->v<w->∃x∈l,v<x/\S.joined v x=true
 |[],_,_,_,_,z,_,_=>by simp at z
 |[a],_,_,_,_,z,hw,B=>by simp at z hw;lia
 | a::b::r,hc,hp,v,w,z,hw,B=>by
  have j:=hc;unfold GR at j;simp only[GT,G6,VN,UP,Ga]at j;have n:=List.pairwise_cons.1 hp;rcases List.mem_cons.1 z with e|F
  ·subst e;exact⟨b,by simp,n.1 b We,j.1⟩
  ·have I:w∈b::r:=by
    rcases List.mem_cons.1 hw with e|J
    ·have:=n.1 v F;lia
    ·exact J
   have G:GR S (b::r)=true:=by unfold GR;simpa using j.2
   obtain⟨x,O,h1,h2⟩:=XO G n.2 F I B;exact⟨x,by simp[O],h1,h2⟩
theorem XQ:∀{l:List Nat},GR S l=true->l.Pairwise (·<·)->∀{v w:Nat},v∈l->w∈l->w<v->∃x∈l,x<v/\S.joined x v=true
 |[],_,_,_,_,n,_,_=>by simp at n
 |[a],_,_,_,_,n,hw,G=>by simp at n hw;lia
 | a::b::r,hc,hp,v,w,n,hw,G=>by
  have j:=hc;unfold GR at j;simp only[GT,G6,VN,UP,Ga]at j;have z:=List.pairwise_cons.1 hp;rcases List.mem_cons.1 n with e|B
  ·grind
  ·have F:GR S (b::r)=true:=by unfold GR;simpa using j.2
   by_cases q:v=b
   ·grind
   ·have J:b<v:=by
     rcases List.mem_cons.1 B with e|I
     ·lia
     ·exact(List.pairwise_cons.1 z.2).1 v I
    obtain⟨x,O,h1,h2⟩:=XQ F z.2 B (w:=b) We J;grind
theorem X0(S:Plan)(i j:Nat):S.joined i j=S.joined j i:=by unfold Plan.joined;rw[Nat.min_comm,Nat.max_comm]
structure Frame(S:Plan):Prop where
 c00:∃i,i<S.pts.length/\S.pt i=⟨0,0⟩
 cw0:∃i,i<S.pts.length/\S.pt i=⟨S.w,0⟩
 c0h:∃i,i<S.pts.length/\S.pt i=⟨0,S.h⟩
 cwh:∃i,i<S.pts.length/\S.pt i=⟨S.w,S.h⟩
 bot:GR S (Gq S (fun(p:Pt)=>p.y==0))=true
 top:GR S (Gq S (fun(p:Pt)=>p.y==S.h))=true
 lef:GR S (Gq S (fun(p:Pt)=>p.x==0))=true
 rig:GR S (Gq S (fun(p:Pt)=>p.x==S.w))=true
theorem eA(j:UG S=true):Frame S:=by
 unfold UG at j;simp only[Ga]at j;obtain⟨c1,c2,z,B,F,G,I,J⟩:=j
 have ex:∀p,S.pts.contains p=true->∃i,i<S.pts.length/\S.pt i=p:=by intro p n;rw[UW]at n;obtain⟨i,hi,h⟩:=List.mem_iff_getElem.1 n;exact⟨i,hi,by rw[bF hi,h]⟩
 exact⟨ex _ c1,ex _ c2,ex _ z,ex _ B,F,G,I,J⟩
theorem a9.lt_iff(F:a9 S){i j:Nat}(hi:i<S.pts.length)(n:j<S.pts.length):i<j↔(S.pt i).y<(S.pt j).y\/((S.pt i).y=(S.pt j).y/\(S.pt i).x<(S.pt j).x):=by
 have key:∀i j,i<S.pts.length->j<S.pts.length->i<j->(S.pt i).y<(S.pt j).y\/((S.pt i).y=(S.pt j).y/\(S.pt i).x<(S.pt j).x):=by intro i j hi n z;have:=F.pts i j z n;rw[bF hi,bF n];unfold Pt.below at this;simpa using this
 constructor
 ·exact key i j hi n
 ·intro h;rcases Uu i j with q | q | q
  ·exact q
  ·subst q;lia
  ·have:=key j i n hi q;lia
def Fr(S:Plan)(d:Dt):Prop:=
 ((S.pt d.1).y=0/\(S.pt d.2).y=0/\(S.pt d.2).x<(S.pt d.1).x)\/
 ((S.pt d.1).x=0/\(S.pt d.2).x=0/\(S.pt d.1).y<(S.pt d.2).y)\/
 ((S.pt d.1).y=S.h/\(S.pt d.2).y=S.h/\(S.pt d.1).x<(S.pt d.2).x)\/
 ((S.pt d.1).x=S.w/\(S.pt d.2).x=S.w/\(S.pt d.2).y<(S.pt d.1).y)
theorem half_lt{r c b:Int×Int}(h:¬Vp r c b=true):Vr r b<=Vr r c/\(Vr r b=Vr r c->0<=c.1*b.2-c.2*b.1):=by unfold Vp at h;lia
structure Dm(f g:Int×Int->Int):Prop where
 cross:∀a b:Int×Int,a.1*b.2-a.2*b.1=g a*f b-f a*g b
 dot:∀a b:Int×Int,a.1*b.1+a.2*b.2=f a*f b+g a*g b
theorem J4{f g:Int×Int->Int}(K:Dm f g){r c b:Int×Int}(h:¬Vp r c b=true)(z:f r<0)(j:g r=0)
  (c1:0<f c) (c2:g c=0) (B:0<=g b):0<f b/\g b=0:=by
 obtain⟨h1,_⟩:=half_lt h
 have hc:Vr r c=1:=by unfold Vr;simp only;rw[K.cross,K.dot,j,c2];have:f r*f c<0:=Ub z c1;rw[Wh We,Wh We,Wi L]
 rw[hc]at h1;unfold Vr at h1;simp only at h1;rw[K.cross,K.dot,j]at h1
 have p:0<=- (f r*g b):=by have:=UV (a:=f r) (b:=g b) L B;lia
 rw[Va,Va]at h1;rw[Wh L]at h1;by_cases q:0<0-f r*g b
 ·rw[Wi q]at h1;lia
 ·rw[Wh q] at h1
  have F:g b=0:=by
   have:f r*g b=0:=by lia
   rcases Int.mul_eq_zero.1 this with h|h
   ·lia
   ·exact h
  refine⟨?_,F⟩;by_cases w:f r*f b+0<0
  ·apply xJ;intro n;have:=GE (a:=f r) (b:=f b) L L;lia
  ·rw[Wh w]at h1;lia
theorem xr{f g:Int×Int->Int}(K:Dm f g){r c b:Int×Int}(h:¬Vp r c b=true)(z:f r<0)(j:g r=0)
  (c1:f c=0) (c2:0<g c) (B:f b<=0) (F:0<=g b):f b=0/\0<g b:=by
 obtain⟨h1,h2⟩:=half_lt h
 have hc:Vr r c=2:=by unfold Vr;simp only;rw[K.cross,K.dot,j,c1];have:f r*g c<0:=Ub z c2;lia
 rw[hc]at h1 h2;have p:f r*g b<=0:=UV (a:=f r) (b:=g b) L F;have p2:0<=f r*f b:=GE L B
 have G:Vr r b=2/\f r*g b<0:=by unfold Vr at h1 ⊢;simp only at h1 ⊢;rw[K.cross,K.dot,j]at h1 ⊢;lia
 have I:=h2 G.1;rw[K.cross,c1,Va]at I;refine⟨?_,?_⟩
 ·apply xJ;intro n;have:=Gy (a:=g c) (b:=f b) c2 L;lia
 lia
theorem a9.kz(F:a9 S){u v c:Nat} (h:(dr S).a5 (u,v)) (hc:(dr S).a5 (v,c)) :
  ¬Vp (xK S v u) (xK S v c) (xK S v (S.next u v))=true:=by
 have n:=F.eY h;intro j;exact n.2 c hc ((F.dz h.rev hc n.1).1 j)
theorem Ei:Dm (fun d=>- d.1) (fun d=>d.2):=⟨fun a b=>by grind,fun a b=>by grind⟩
theorem Fl:Dm (fun d=>d.2) (fun d=>d.1):=⟨fun a b=>by grind,fun a b=>by grind⟩
theorem EN:Dm (fun d=>d.1) (fun d=>- d.2):=⟨fun a b=>by grind,fun a b=>by grind⟩
theorem FY:Dm (fun d=>- d.2) (fun d=>- d.1):=⟨fun a b=>by grind,fun a b=>by grind⟩
theorem Fr.next(F:a9 S)(A:Frame S)(hw:0<S.w)(hh:0<S.h) (hd:(dr S).a5 d) (h:Fr S d):Fr S (cZ S d):=by
 obtain⟨u,v⟩:=d;have lt:=F.cC hd;simp only at lt;have nd:(dr S).a5 (v,S.next u v):=F.eI.dD hd;have J:=(F.cC nd).2;simp only at J;have U:=F.cE lt.2;have aa:=F.cE lt.1;have ab:=F.cE J;show Fr S (v,S.next u v);unfold Fr at h ⊢;simp only at h ⊢;have ns:=fun c (hc:(dr S).a5 (v,c))=>F.kz hd hc;generalize S.next u v=b at *;rcases h with⟨h1,h2,O⟩|⟨h1,h2,O⟩|⟨h1,h2,O⟩|⟨h1,h2,O⟩
 ·-- the lower zf,to the left
  by_cases q:(S.pt v).x=0
  ·obtain⟨i,hi,n⟩:=A.c0h
   obtain⟨c,hc,z,B⟩:=XO A.lef (Q2 S _) (v:=v) (w:=i) (QG.2 ⟨lt.2,by simp[q]⟩) (QG.2 ⟨hi,by simp[n]⟩)
    ((F.lt_iff lt.2 hi).2 (by rw[n];simp only;lia))
   have j:=(QG.1 hc);have G:(S.pt c).x=0:=by simpa using j.2
   have I:=(F.lt_iff lt.2 j.1).1 z
   have:=xr Ei (ns c (Q9 F B)) (by unfold xK GF;simp only;lia) (by unfold xK GG;simp only;lia)
    (by unfold xK GF;simp only;lia) (by unfold xK GG;simp only;lia) (by unfold xK GF;simp only;lia) (by unfold xK GG;simp only;lia)
   unfold xK GF GG at this;lia
  ·obtain⟨i,hi,n⟩:=A.c00
   obtain⟨c,hc,z,B⟩:=XQ A.bot (Q2 S _) (v:=v) (w:=i) (QG.2 ⟨lt.2,by simp[h2]⟩) (QG.2 ⟨hi,by simp[n]⟩)
    ((F.lt_iff hi lt.2).2 (by rw[n];simp only;lia))
   have j:=(QG.1 hc);have I:(S.pt c).y=0:=by simpa using j.2
   have G:=(F.lt_iff j.1 lt.2).1 z
   have:=J4 Ei (ns c (Q9 F (by rw[X0];exact B))) (by unfold xK GF;simp only;lia) (by unfold xK GG;simp only;lia)
    (by unfold xK GF;simp only;lia) (by unfold xK GG;simp only;lia) (by unfold xK GG;simp only;lia)
   unfold xK GF GG at this;lia
 ·-- the left zf,up
  by_cases q:(S.pt v).y=S.h
  ·obtain⟨i,hi,n⟩:=A.cwh
   obtain⟨c,hc,z,B⟩:=XO A.top (Q2 S _) (v:=v) (w:=i) (QG.2 ⟨lt.2,by simp[q]⟩) (QG.2 ⟨hi,by simp[n]⟩)
    ((F.lt_iff lt.2 hi).2 (by rw[n];simp only;lia))
   have j:=(QG.1 hc);have G:(S.pt c).y=S.h:=by simpa using j.2
   have I:=(F.lt_iff lt.2 j.1).1 z
   have:=xr Fl (ns c (Q9 F B)) (by unfold xK GG;simp only;lia) (by unfold xK GF;simp only;lia)
    (by unfold xK GG;simp only;lia) (by unfold xK GF;simp only;lia) (by unfold xK GG;simp only;lia) (by unfold xK GF;simp only;lia)
   unfold xK GF GG at this;lia
  ·obtain⟨i,hi,n⟩:=A.c0h
   obtain⟨c,hc,z,B⟩:=XO A.lef (Q2 S _) (v:=v) (w:=i) (QG.2 ⟨lt.2,by simp[h2]⟩) (QG.2 ⟨hi,by simp[n]⟩)
    ((F.lt_iff lt.2 hi).2 (by rw[n];simp only;lia))
   have j:=(QG.1 hc);have G:(S.pt c).x=0:=by simpa using j.2
   have I:=(F.lt_iff lt.2 j.1).1 z
   have:=J4 Fl (ns c (Q9 F B)) (by unfold xK GG;simp only;lia) (by unfold xK GF;simp only;lia)
    (by unfold xK GG;simp only;lia) (by unfold xK GF;simp only;lia) (by unfold xK GF;simp only;lia)
   unfold xK GF GG at this;lia
 ·-- the upper zf,to the right
  by_cases q:(S.pt v).x=S.w
  ·obtain⟨i,hi,n⟩:=A.cw0
   obtain⟨c,hc,z,B⟩:=XQ A.rig (Q2 S _) (v:=v) (w:=i) (QG.2 ⟨lt.2,by simp[q]⟩) (QG.2 ⟨hi,by simp[n]⟩)
    ((F.lt_iff hi lt.2).2 (by rw[n];simp only;lia))
   have j:=(QG.1 hc);have G:(S.pt c).x=S.w:=by simpa using j.2
   have I:=(F.lt_iff j.1 lt.2).1 z
   have:=xr EN (ns c (Q9 F (by rw[X0];exact B))) (by unfold xK GF;simp only;lia) (by unfold xK GG;simp only;lia)
    (by unfold xK GF;simp only;lia) (by unfold xK GG;simp only;lia) (by unfold xK GF;simp only;lia) (by unfold xK GG;simp only;lia)
   unfold xK GF GG at this;lia
  ·obtain⟨i,hi,n⟩:=A.cwh
   obtain⟨c,hc,z,B⟩:=XO A.top (Q2 S _) (v:=v) (w:=i) (QG.2 ⟨lt.2,by simp[h2]⟩) (QG.2 ⟨hi,by simp[n]⟩)
    ((F.lt_iff lt.2 hi).2 (by rw[n];simp only;lia))
   have j:=(QG.1 hc);have G:(S.pt c).y=S.h:=by simpa using j.2
   have I:=(F.lt_iff lt.2 j.1).1 z
   have:=J4 EN (ns c (Q9 F B)) (by unfold xK GF;simp only;lia) (by unfold xK GG;simp only;lia)
    (by unfold xK GF;simp only;lia) (by unfold xK GG;simp only;lia) (by unfold xK GG;simp only;lia)
   unfold xK GF GG at this;lia
 ·-- the right zf,down
  by_cases q:(S.pt v).y=0
  ·obtain⟨i,hi,n⟩:=A.c00
   obtain⟨c,hc,z,B⟩:=XQ A.bot (Q2 S _) (v:=v) (w:=i) (QG.2 ⟨lt.2,by simp[q]⟩) (QG.2 ⟨hi,by simp[n]⟩)
    ((F.lt_iff hi lt.2).2 (by rw[n];simp only;lia))
   have j:=(QG.1 hc);have G:(S.pt c).y=0:=by simpa using j.2
   have I:=(F.lt_iff j.1 lt.2).1 z
   have:=xr FY (ns c (Q9 F (by rw[X0];exact B))) (by unfold xK GG;simp only;lia) (by unfold xK GF;simp only;lia)
    (by unfold xK GG;simp only;lia) (by unfold xK GF;simp only;lia) (by unfold xK GG;simp only;lia) (by unfold xK GF;simp only;lia)
   unfold xK GF GG at this;lia
  ·obtain⟨i,hi,n⟩:=A.cw0
   obtain⟨c,hc,z,B⟩:=XQ A.rig (Q2 S _) (v:=v) (w:=i) (QG.2 ⟨lt.2,by simp[h2]⟩) (QG.2 ⟨hi,by simp[n]⟩)
    ((F.lt_iff hi lt.2).2 (by rw[n];simp only;lia))
   have j:=(QG.1 hc);have G:(S.pt c).x=S.w:=by simpa using j.2
   have I:=(F.lt_iff j.1 lt.2).1 z
   have:=J4 FY (ns c (Q9 F (by rw[X0];exact B))) (by unfold xK GG;simp only;lia) (by unfold xK GF;simp only;lia)
    (by unfold xK GG;simp only;lia) (by unfold xK GF;simp only;lia) (by unfold xK GF;simp only;lia)
   unfold xK GF GG at this;lia
theorem Good.sE(G:Good S){e:Dt}(h:e∈G.bH G.d0):Fr S e:=by
 obtain⟨j,n,rfl⟩:=Zv.1 h;clear h n;induction j with
 |zero=>exact G4 G.Em
 |succ j z=>exact Fr.next G.fine (eA G.frame) G.wpos G.oZ (G.fine.eI.bE G.eU j) z
theorem Good.gX(G:Good S){z:Pt}(c:uM S z){e:Dt}(u:Under S z e):G.d0∉G.bH e:=by
 intro h;have fr:=G.sE (G.cj (G4 u.mem) h);have hl:=u.l;have hr:=u.r;have j:=u.up;have J:=G.fine.cE (G.fine.d7 u.mem).1;have O:=G.fine.cE (G.fine.d7 u.mem).2;have U:=G.fine.h;have cx:=c.x0;have B:=c.x1;have cy:=c.y0;have F:=c.y1;unfold XP at hl hr;rcases fr with⟨h1,h2,n⟩|⟨h1,h2,n⟩|⟨h1,h2,n⟩|⟨h1,h2,n⟩
 ·lia
 ·lia
 ·unfold xN GF GG at j;rw[h1,h2] at j;have I:((S.h:Int)-S.h)=0:=by lia
  rw[I,Va]at j;have:=Gy (a:=((S.pt e.2).x:Int)-(S.pt e.1).x) (b:=(z.y:Int)-S.h) L L;lia
 ·lia
theorem cover(f:Nat->Int)(x:Int):∀{l:List Nat},GR S l=true->(∀i∈l,f i≠x)->∀{a:Nat},l.head?=some a->f a<x->(∃b∈l,x<f b)->
  ∃p q,p∈l/\q∈l/\f p<x/\x<f q/\S.joined p q=true
 |[],_,_,_,h,_,_=>by simp at h
 | [a],_,_,_,h,F,⟨b,G,I⟩=>by
  simp at h G;subst h;subst G;lia
 | a::b::r,hc,hn,_,h,F,⟨w,hw,I⟩=>by
  simp at h;subst h;have j:=hc;unfold GR at j;simp only[GT,G6,VN,UP,Ga]at j;by_cases q:x<f b
  ·exact⟨a,b,by simp,by simp,F,q,j.1⟩
  ·have n:GR S (b::r)=true:=by unfold GR;simpa using j.2
   have z:w∈b::r:=by
    rcases List.mem_cons.1 hw with e|B
    ·subst e;lia
    ·exact B
   have:=hn b We;obtain⟨p,q,h1,h2,J⟩:=cover f x n (fun i hi=>hn i (by simp[hi])) (a:=b) Z L ⟨w,z,I⟩;exact⟨p,q,by simp[h1],by simp[h2],J⟩
theorem Good.rf(G:Good S){z:Pt}(c:uM S z):∃m∈(dr S).E,XP (S.pt m.1)<XP z/\XP z<XP (S.pt m.2)/\0<xN (S.pt m.1) (S.pt m.2) z:=by
 have A:=eA G.frame;have F:=G.fine;obtain⟨i,hi,pi⟩:=A.c00;obtain⟨j,hj,pj⟩:=A.cw0;have B:i∈Gq S (fun(p:Pt)=>p.y==0):=QG.2 ⟨hi,by rw[pi];rfl⟩;have mj:j∈Gq S (fun(p:Pt)=>p.y==0):=QG.2 ⟨hj,by rw[pj];rfl⟩;have hh:=F.h;have cx:=c.x0;have ab:=c.x1;have cy:=c.y0;have ac:=c.y1
 have hn:∀k∈Gq S (fun(p:Pt)=>p.y==0),XP (S.pt k)≠XP z:=by
  intro k hk e;have I:=QG.1 hk;have:(S.pt k).y=0:=by simpa using I.2
  have:S.pt k=z:=kC L L e;lia
 have hy:∀k∈Gq S (fun(p:Pt)=>p.y==0),(S.pt k).y=0:=by intro k hk;simpa using(QG.1 hk).2
 have ad:XP (S.pt i)<XP z:=by rw[pi];unfold XP;simp only;lia
 have J:XP z<XP (S.pt j):=by rw[pj];unfold XP;simp only;lia
 have so:=Q2 S (fun(p:Pt)=>p.y==0);have ch:=A.bot;have O:∀k∈Gq S (fun(p:Pt)=>p.y==0),k<S.pts.length:=fun k hk=>(QG.1 hk).1;generalize Gq S (fun(p:Pt)=>p.y==0)=l at *
 obtain⟨a,n⟩:∃a,l.head?=some a:=by
  cases l with
  |nil=>simp at B
  |cons a r=>exact⟨a,Z⟩
 have U:XP (S.pt a)<XP z:=by
  have aa:a∈l:=List.mem_of_mem_head? (by rw[n];rfl);cases l with
  |nil=>simp at B
  | cons b r=>
   simp at n;subst n;rcases List.mem_cons.1 B with e|h
   ·lia
   ·have lt:=(List.pairwise_cons.1 so).1 i h;have:=(F.lt_iff (O _ aa) hi).1 lt;lia
 obtain⟨p,q,hp,hq,h1,h2,h3⟩:=cover (fun k=>XP (S.pt k)) (XP z) ch hn n U ⟨j,mj,J⟩;have yp:=hy p hp;have yq:=hy q hq
 have hE:(p,q)∈(dr S).E:=by
  rcases F.ok.cJ (Q9 F h3) with⟨_,h⟩|⟨h,_⟩
  ·exact h
  ·exfalso;have h:XP (S.pt q)<XP (S.pt p):=h;lia
 refine⟨(p,q),hE,h1,h2,?_⟩;have h1:XP (S.pt p)<XP z:=h1;have h2:XP z<XP (S.pt q):=h2;unfold XP at h1 h2;unfold xN GF GG;show 0<(((S.pt q).x:Int)-(S.pt p).x)*((z.y:Int)-(S.pt q).y)-(((S.pt q).y:Int)-(S.pt p).y)*((z.x:Int)-(S.pt q).x);rw[yp,yq];have:=UQ (a:=((S.pt q).x:Int)-(S.pt p).x) (b:=(z.y:Int)) L L;simp;lia
theorem gs{l:List α}{p:α->Bool}{a:α}(j:a∈l)(n:p a=true)(z:∀x∈l,p x=true->x=a):l.find? p=some a:=by
 cases h:l.find? p with
 | none=>
  rw[UB]at h;exact Wm n (h a j)
 |some x=>rw[z x (List.mem_of_find?_eq_some h) (List.find?_some h)]
theorem Good.sV(G:Good S){z:Pt}(hz:U4 S z=true){e:Dt}(u:Under S z e):S.among S.outlines z=some (G.vs (G.lead e)):=by
 have c:=km hz;have j:(dr S).a5 e:=G4 u.mem;have h0:=G.gX c u;unfold Plan.among;rw[Wi hz];apply gs
 ·exact G.bV.2 ⟨e,j,h0,Z⟩
 ·have hl:=(G.bB j).1;exact(G.er c u (G.bw j hl) (fun h=>h0 (G.bJ j hl h))).2 (G.cj j hl)
 ·intro x I B;obtain⟨d,hd,F,rfl⟩:=G.bV.1 I;have hl:=(G.bB hd).1;have n:=G.bw hd hl;have:=(G.er c u n (fun h=>F (G.bJ hd hl h))).1 B;rw[G.cQ n this,G.cQ hd hl]
theorem Good.kL(G:Good S){d e:Dt} (hd:(dr S).a5 d) (j:(dr S).a5 e):some (G.vs (G.lead d))=some (G.vs (G.lead e))↔d∈G.bH e:=by
 have n:=(G.bB hd).1;have le:=(G.bB j).1;constructor
 ·intro h;have:=Wn mq (Wo h);rw[G.cU (G.bw hd n),G.cU (G.bw j le)] at this;have h1:G.lead d∈G.bH e:=by rw[this];exact le
  exact G.bJ j h1 (G.cj hd n)
 ·intro h;rw[G.cQ j h]
def cA(n a b:Int):Bool:=if a<b then decide (a<=n)&&decide (n<=b) else decide (b<=n)&&decide (n<=a)
theorem J9(n a b:Nat):cA n a b=Vw a b n:=by
 unfold cA Vw;by_cases h:(a:Int)<b
 ·rw[Wi h,Gu];simp only[Ga,Wp];lia
 ·rw[Wh h,Gu];simp only[Ga,Wp];lia
theorem u6(p q r:Pt):Uq p q r=if !cA r.y p.y q.y || !cA r.x p.x q.x then false else decide (xN p q r=0):=by rw[J9,J9];unfold Uq;lia
def dm(a b:Int):Bool:=if a=0 then false else if b=0 then false else decide (0<a) != decide (0<b)
theorem zX(a b:Int):dm a b=decide (a*b<0):=by unfold dm;have s:=qc a b;have j:=qc b a;lia
theorem eR(p q r s:Pt):G3 p q r s=(dm (xN p q r) (xN p q s)&&dm (xN r s p) (xN r s q)):=by rw[zX,zX];rfl
theorem kA (G:∀(i j:Nat)(_:i<j)(z:j<S.pts.length),(S.pts[i]).below S.pts[j]=true) {l:WA} (h1:l.1<l.2) (h2:l.2<S.pts.length)
  (hk:k<S.pts.length) (n:Uq (S.pt l.1) (S.pt l.2) (S.pt k)=true):l.1<=k/\k<=l.2:=by
 have lt:∀i j,i<S.pts.length->j<S.pts.length->i<j->(S.pt i).y<(S.pt j).y\/((S.pt i).y=(S.pt j).y/\(S.pt i).x<(S.pt j).x):=by intro i j hi z B;have:=G i j B z;rw[bF hi,bF z];unfold Pt.below at this;simpa using this
 have I:=lt l.1 l.2 L h2 h1;unfold Uq Vw at n;simp only[Ga,beq_iff_eq,Wp]at n;obtain⟨t,⟨x1,U⟩,y1,y2⟩:=n;unfold xN GF GG at t;have J:k<l.1->(S.pt k).y<(S.pt l.1).y\/((S.pt k).y=(S.pt l.1).y/\(S.pt k).x<(S.pt l.1).x):=fun h=>lt k l.1 hk L h;have O:l.2<k->(S.pt l.2).y<(S.pt k).y\/((S.pt l.2).y=(S.pt k).y/\(S.pt l.2).x<(S.pt k).x):=fun h=>lt l.2 k h2 hk h;generalize S.pt l.1=p at *;generalize S.pt l.2=q at *;generalize S.pt k=r at *;constructor
 ·apply xJ;intro hc;have a:=J L;have F:(r.y:Int)=p.y:=by lia
  rw[F]at t
  have f:((q.y:Int)-p.y)*((r.x:Int)-p.x)=0:=by
   have:((q.y:Int)-p.y)*((r.x:Int)-p.x) = - (((q.x:Int)-p.x)*((p.y:Int)-q.y)-((q.y:Int)-p.y)*((r.x:Int)-q.x)):=by grind
   rw[this,t];rfl
  rcases Int.mul_eq_zero.1 f with h|h<;>lia
 ·apply xJ;intro hc;have a:=O L;have F:(r.y:Int)=q.y:=by lia
  rw[F]at t
  have f:((q.y:Int)-p.y)*((r.x:Int)-q.x)=0:=by
   have:((q.y:Int)-p.y)*((r.x:Int)-q.x) = - (((q.x:Int)-p.x)*((q.y:Int)-q.y)-((q.y:Int)-p.y)*((r.x:Int)-q.x)):=by grind
   rw[this,t];rfl
  rcases Int.mul_eq_zero.1 f with h|h<;>lia
def bh(S:Plan)(l:WA):WA:=if(S.pt l.1).x<(S.pt l.2).x then l else(l.2,l.1)
def bf(S:Plan)(s:WA)(z:Pt):Bool:=decide ((S.pt s.1).x<=z.x)&&(decide (z.x<(S.pt s.2).x)&&decide (0<xN (S.pt s.1) (S.pt s.2) z))
def bT(S:Plan)(s o:WA):Bool:=
 if s.1=o.1 then decide (0<xN (S.pt o.1) (S.pt o.2) (S.pt s.2))
 else if(S.pt s.1).x<(S.pt o.1).x then decide (xN (S.pt s.1) (S.pt s.2) (S.pt o.1)<0)
 else decide (0<xN (S.pt o.1) (S.pt o.2) (S.pt s.1))
def bb(S:Plan)(z:Pt) (j:Option WA) (l:WA):Option WA:=
 if bf S (bh S l) z&&(match j with|none=>true|some b=>bT S (bh S l) b) then some (bh S l) else j
theorem a9.d9(F:a9 S){z:Pt}(hz:z.y<=1048575){l:WA}(hl:l∈S.lines) :
  (bf S (bh S l) z=true↔XP (S.pt (dZ S l).1)<XP z/\XP z<XP (S.pt (dZ S l).2)/\0<xN (S.pt (dZ S l).1) (S.pt (dZ S l).2) z)/\
  (bf S (bh S l) z=true->bh S l=dZ S l):=by
 have lt:=F.lines l hl;have b1:=F.cE (i:=l.1) L;have b2:=F.cE (i:=l.2) L;have hh:=F.h;have B:=F.bL hl
 have key:∀(p q:Pt),p.y<=1048575->q.y<=1048575->p.x<=q.x->((p.x<=z.x/\z.x<q.x/\0<xN p q z)↔(XP p<XP z/\XP z<XP q/\0<xN p q z)):=by
  intro p q hp hq U;constructor
  ·rintro⟨h1,h2,j⟩;refine⟨?_,by unfold XP;lia,j⟩;by_cases e:p.x=z.x
   ·unfold xN GF GG at j
    have:((q.x:Int)-p.x)*((z.y:Int)-q.y)-((q.y:Int)-p.y)*((z.x:Int)-q.x)=((q.x:Int)-p.x)*((z.y:Int)-p.y):=by rw[<-e];grind
    rw[this]at j;have s:=qc ((q.x:Int)-p.x) ((z.y:Int)-p.y);unfold XP;generalize ((q.x:Int)-p.x)*((z.y:Int)-p.y)=u at *;lia
   ·unfold XP;lia
  ·rintro⟨h1,h2,j⟩;unfold XP at h1 h2;refine⟨by lia,?_,j⟩;apply xJ;intro hc;have e:z.x=q.x:=by lia
   unfold xN GF GG at j;have n:((z.x:Int)-q.x)=0:=by lia
   rw[n,VC]at j;have:=Gr (a:=(q.x:Int)-p.x) (b:=(z.y:Int)-q.y) L L;lia
 by_cases O:(S.pt l.1).x<(S.pt l.2).x
 ·have G:bh S l=l:=Wi O
  have n:dZ S l=l:=by
   rcases B with⟨_,b⟩|⟨a,_⟩
   ·exact b
   ·exfalso;unfold XP at a;lia
  rw[G,n];refine⟨?_,fun _=>rfl⟩;unfold bf;simp only[Ga,Wp];exact key _ _ L L L
 ·have G:bh S l=(l.2,l.1):=Wh O;rw[G];by_cases he:(S.pt l.1).x=(S.pt l.2).x
  ·have f:bf S (l.2,l.1) z=false:=by unfold bf;rw[Bool.eq_false_iff];simp only[ne_eq,Ga,Wp];lia
   rw[f];refine⟨⟨fun h=>(by cases h),?_⟩,fun h=>(by cases h)⟩;rintro⟨h1,h2,j⟩;exfalso;rcases B with⟨a,b⟩|⟨a,b⟩
   ·rw[b] at h1 h2 j;unfold XP at h1 h2;unfold xN GF GG at j;have I:((S.pt l.2).x:Int)-(S.pt l.1).x=0:=by lia
    have J:(z.x:Int)-(S.pt l.2).x=0:=by lia
    rw[I,J,Va,VC]at j;lia
   ·rw[b] at h1 h2 j;unfold XP at h1 h2;unfold xN GF GG at j;simp only at h1 h2 j;have I:((S.pt l.1).x:Int)-(S.pt l.2).x=0:=by lia
    have J:(z.x:Int)-(S.pt l.1).x=0:=by lia
    rw[I,J,Va,VC]at j;lia
  ·have n:dZ S l=(l.2,l.1):=by
    rcases B with⟨a,_⟩|⟨_,b⟩
    ·exfalso;unfold XP at a;lia
    ·exact b
   rw[n];refine⟨?_,fun _=>rfl⟩;unfold bf;simp only[Ga,Wp];exact key _ _ L L L
theorem rO{A B p t u:Int}(h0:A+B*p=0)(G:p<t)(I:p<u):(0<A+B*t↔0<A+B*u):=by
 have j:A+B*t=(t-p)*B:=by rw[Qa1];grind
 have n:A+B*u=(u-p)*B:=by rw[Qa1];grind
 rw[j,n];have z:=Yi (c:=t-p) (x:=B) L rfl;have F:=Yi (c:=u-p) (x:=B) L rfl;rw[z.1,F.1]
theorem a9.ee(F:a9 S){z:Pt}(hz:z.y<=1048575){s o:Dt} (B:s∈(dr S).E) (G:o∈(dr S).E) (aa:s≠o)
  (s1:XP (S.pt s.1)<XP z) (s2:XP z<XP (S.pt s.2)) (s3:0<xN (S.pt s.1) (S.pt s.2) z)
  (o1:XP (S.pt o.1)<XP z) (o2:XP z<XP (S.pt o.2)) (o3:0<xN (S.pt o.1) (S.pt o.2) z) (ad:(S.pt s.1).x<(S.pt s.2).x) (ac:(S.pt o.1).x<(S.pt o.2).x) :
  bT S s o=true↔(dr S).h o (2*XP z)<(dr S).h s (2*XP z):=by
 have O:=F.ok;have ls:=F.d7 B;have lo:=F.d7 G;have d:=(dr S).du s o (2*XP z);have J:((dr S).h o (2*XP z)<(dr S).h s (2*XP z)↔0<(dr S).h s 0-(dr S).h o 0+((dr S).s s-(dr S).s o)*(2*XP z)):=by lia
 rw[J];have bl:=F.fF B G aa (by show max (XP (S.pt s.1)) (XP (S.pt o.1))<min (XP (S.pt s.2)) (XP (S.pt o.2));lia)
 have inner:((dr S).below o s->0<(dr S).h s 0-(dr S).h o 0+((dr S).s s-(dr S).s o)*(2*XP z))/\((dr S).below s o->¬0<(dr S).h s 0-(dr S).h o 0+((dr S).s s-(dr S).s o)*(2*XP z)):=by
  constructor
  ·intro b;have:=Dr.bN b (t:=2*XP z) (by show 2*XP (S.pt o.1)<_;lia) (by show 2*XP (S.pt s.1)<_;lia) (by show _<2*XP (S.pt o.2);lia) (by show _<2*XP (S.pt s.2);lia);lia
  ·intro b;have:=Dr.bN b (t:=2*XP z) (by show 2*XP (S.pt s.1)<_;lia) (by show 2*XP (S.pt o.1)<_;lia) (by show _<2*XP (S.pt s.2);lia) (by show _<2*XP (S.pt o.2);lia);lia
 unfold bT;by_cases q:s.1=o.1
 ·rw[Wi q,Wp];have k:=(F.eo (e:=s) G s.2 (F.Hu B)).2.2;rw[<-k]
  have z0:(dr S).h s 0-(dr S).h o 0+((dr S).s s-(dr S).s o)*(2*XP (S.pt s.1))=0:=by have d0:=(dr S).du s o (2*XP (S.pt s.1));rw[<-d0,a9.uO,q,a9.uO];lia
  exact rO z0 L L
 ·rw[Wh q]
  have j:∀(k:Nat),k<S.pts.length->(k=o.1\/k=s.1)->XP (S.pt s.1)<=XP (S.pt k)->XP (S.pt o.1)<=XP (S.pt k)->
    (0<(dr S).h s 0-(dr S).h o 0+((dr S).s s-(dr S).s o)*(2*XP (S.pt k))↔0<(dr S).h s 0-(dr S).h o 0+((dr S).s s-(dr S).s o)*(2*XP z))/\
    (dr S).h s 0-(dr S).h o 0+((dr S).s s-(dr S).s o)*(2*XP (S.pt k))≠0:=by
   intro k hk U k1 k2;have hm:max (XP (S.pt s.1)) (XP (S.pt o.1))=XP (S.pt k):=by rcases U with rfl|rfl<;>lia
   have ab:max (XP (S.pt o.1)) (XP (S.pt s.1))=XP (S.pt k):=by rw[Int.max_comm];exact hm
   have dk:=(dr S).du s o (2*XP (S.pt k))
   have nz:(dr S).h s 0-(dr S).h o 0+((dr S).s s-(dr S).s o)*(2*XP (S.pt k))≠0:=by
    rcases U with e|e
    ·subst e;intro h0;have t:=(F.eh (f:=o) B o.1 (a9.uO o)).2.1.1 h0;have on:=Xw t (F.bU B) k1 L;rw[F.iu B lo.1 (fun e=>q e.symm) (by intro e;rw[e]at o1;lia)]at on;cases on
    ·subst e;intro h0;have t:=(F.eo (e:=s) G s.1 (a9.uO s)).2.1.1 h0;have on:=Xw t (F.bU G) k2 L;rw[F.iu G ls.1 q (by intro e;rw[e]at s1;lia)]at on;cases on
   refine⟨?_,nz⟩;rcases bl with b|b
   ·have I:=b.1;have I:(dr S).h s (2*max (XP (S.pt s.1)) (XP (S.pt o.1)))<=(dr S).h o (2*max (XP (S.pt s.1)) (XP (S.pt o.1))):=I;rw[hm]at I;have:=inner.2 b;lia
   ·have I:=b.1;have I:(dr S).h o (2*max (XP (S.pt o.1)) (XP (S.pt s.1)))<=(dr S).h s (2*max (XP (S.pt o.1)) (XP (S.pt s.1))):=I;rw[ab]at I;have:=inner.1 b;lia
  have bs:=F.cE ls.1;have bo:=F.cE lo.1;have hh:=F.h;by_cases hx:(S.pt s.1).x<(S.pt o.1).x
  ·rw[Wi hx,Wp];have k:=(F.eh (f:=o) B o.1 (a9.uO o)).2.2;rw[<-k];exact(j o.1 lo.1 (G4 Z) (by unfold XP;lia) (Qa2 _)).1
  ·rw[Wh hx,Wp];by_cases hX:XP (S.pt o.1)<=XP (S.pt s.1)
   ·have k:=(F.eo (e:=s) G s.1 (a9.uO s)).2.2;rw[<-k];exact(j s.1 ls.1 (UH Z) (Qa2 _) hX).1
   ·-- one abscissa,s below o
    have ex:(S.pt s.1).x=(S.pt o.1).x:=by unfold XP at hX;lia
    have ey:(S.pt s.1).y<(S.pt o.1).y:=by unfold XP at hX;lia
    have e:=j o.1 lo.1 (G4 Z) L (Qa2 _);have k:=(F.eh (f:=o) B o.1 (a9.uO o))
    have t1:0<xN (S.pt s.1) (S.pt s.2) (S.pt o.1):=by
     unfold xN GF GG
     have:((S.pt s.2).x-(S.pt s.1).x:Int)*((S.pt o.1).y-(S.pt s.2).y)-((S.pt s.2).y-(S.pt s.1).y)*((S.pt o.1).x-(S.pt s.2).x)=((S.pt s.2).x-(S.pt s.1).x:Int)*((S.pt o.1).y-(S.pt s.1).y):=by rw[<-ex];grind
     rw[this];exact UQ L L
    have t2:¬0<xN (S.pt o.1) (S.pt o.2) (S.pt s.1):=by
     unfold xN GF GG
     have:((S.pt o.2).x-(S.pt o.1).x:Int)*((S.pt s.1).y-(S.pt o.2).y)-((S.pt o.2).y-(S.pt o.1).y)*((S.pt s.1).x-(S.pt o.2).x) = - (((S.pt o.2).x-(S.pt o.1).x:Int)*((S.pt o.1).y-(S.pt s.1).y)):=by rw[ex];grind
     rw[this];have:=UQ (a:=((S.pt o.2).x-(S.pt o.1).x:Int)) (b:=((S.pt o.1).y-(S.pt s.1).y:Int)) L L;lia
    have n:=k.1.2 t1;constructor
    ·intro h;exact Wm h t2
    ·intro h;have:=e.1.2 h;lia
theorem gU{s:Dt}{z:Pt}(h:bf S s z=true):(S.pt s.1).x<(S.pt s.2).x:=by unfold bf at h;lia
structure pQ(S:Plan)(z:Pt) (seen:List WA) (best:Option WA):Prop where
 none_:best=none->∀l∈seen,bf S (bh S l) z=false
 some_:∀b,best=some b->b∈(dr S).E/\(S.pt b.1).x<(S.pt b.2).x/\XP (S.pt b.1)<XP z/\XP z<XP (S.pt b.2)/\0<xN (S.pt b.1) (S.pt b.2) z/\
  ∀l∈seen,bf S (bh S l) z=true->(dr S).h (dZ S l) (2*XP z)<=(dr S).h b (2*XP z)
theorem a9.kl(F:a9 S){z:Pt}(hz:z.y<=1048575) {seen:List WA} {B:Option WA} (I:pQ S z seen B) {l:WA} (hl:l∈S.lines) :
  pQ S z (seen++[l]) (bb S z B l):=by
 have st:=F.d9 hz hl;have J:dZ S l∈(dr S).E:=List.mem_map.2 ⟨l,hl,Z⟩;unfold bb;by_cases h:bf S (bh S l) z=true
 ·have e:=st.2 h;have hc:=st.1.1 h;have G:=gU h;rw[e] at G;cases B with
  | none=>
   simp only[h,Bool.and_self,Wq];refine⟨fun q=>(by cases q),?_⟩;intro b j;simp only[Option.some.injEq]at j;subst j;rw[e];refine⟨J,G,hc.1,hc.2.1,hc.2.2,?_⟩;intro m n j;rcases List.mem_append.1 n with n|n
   ·rw[I.none_ Z m n]at j;cases j
   ·grind
  | some o=>
   obtain⟨O,U,o3,o4,o5,o6⟩:=I.some_ o rfl;simp only[h,UD];by_cases q:bT S (bh S l) o=true
   ·rw[Wi q];refine⟨fun q=>(by cases q),?_⟩;intro b j;simp only[Option.some.injEq] at j;subst j;rw[e] at q ⊢;refine⟨J,G,hc.1,hc.2.1,hc.2.2,?_⟩
    have hi:(dr S).h o (2*XP z)<=(dr S).h (dZ S l) (2*XP z):=by
     by_cases ne:dZ S l=o
     ·lia
     ·have:=(F.ee hz J O ne hc.1 hc.2.1 hc.2.2 o3 o4 o5 G U).1 q;lia
    grind
   ·rw[Wh q];refine⟨fun q=>(by cases q),?_⟩;intro b j;simp only[Option.some.injEq] at j;subst j;refine⟨O,U,o3,o4,o5,?_⟩;intro m n j;rcases List.mem_append.1 n with n | n
    ·grind
    ·simp only[G0] at n;subst n;rw[e] at q;by_cases ne:dZ S m=o
     ·lia
     ·have:=F.ee hz J O ne hc.1 hc.2.1 hc.2.2 o3 o4 o5 G U;lia
 ·have h':bf S (bh S l) z=false:=by simpa using h
  simp only[h',V2,UC,Wr];refine⟨?_,?_⟩
  ·intro j m n;rcases List.mem_append.1 n with n | n
   ·exact I.none_ j m n
   grind
  ·intro b j;obtain⟨O,U,o3,o4,o5,o6⟩:=I.some_ b j;grind
theorem Good.nq(G:Good S){z:Pt}(hz:U4 S z=true) {j:Option WA} (I:pQ S z S.lines j):∃e,j=some e/\Under S z e:=by
 have c:=km hz;have F:=G.fine;have J:z.y<=1048575:=by have:=c.y1;have:=F.h;lia
 cases j with
 | none=>
  exfalso;obtain⟨m,n,h1,h2,B⟩:=G.rf c;obtain⟨l,hl,rfl⟩:=List.mem_map.1 n;have:=I.none_ Z l hl;rw[(F.d9 J hl).1.2 ⟨h1,h2,B⟩]at this;cases this
 | some b=>
  obtain⟨O,_,U,o4,o5,o6⟩:=I.some_ b rfl;refine⟨b,Z,O,U,o4,o5,?_⟩;intro m n h1 h2 B;obtain⟨l,hl,rfl⟩:=List.mem_map.1 n;exact o6 l hl ((F.d9 J hl).1.2 ⟨h1,h2,B⟩)
def cn(n:Int):Int:=if 0<n then 1 else if n<0 then -1 else 0
def cf(S:Plan)(s:Dt)(one j:Nat):Bool:=
 if cn (xN (S.pt s.1) (S.pt s.2) (S.pt one))≠cn (xN (S.pt s.1) (S.pt s.2) (S.pt j))
 then decide (cn (xN (S.pt s.1) (S.pt s.2) (S.pt j))<cn (xN (S.pt s.1) (S.pt s.2) (S.pt one)))
 else decide (0<xN (S.pt s.2) (S.pt j) (S.pt one))
def cz(S:Plan)(s:Dt)(j:Option Nat)(n:Nat):Option Nat:=
 if n≠s.1/\(match j with|none=>true|some b=>cf S s n b)=true then some n else j
theorem a9.fG(F:a9 S){u v a b:Nat} (n:(dr S).a5 (v,u)) (z:(dr S).a5 (v,a)) (B:(dr S).a5 (v,b)) (na:a≠u) (nb:b≠u) :
  cf S (u,v) a b=true↔sn ((dr S).ky v u) ((dr S).ky v a) ((dr S).ky v b):=by
 have ca:=F.cI n z;have cb:=F.cI n B;have A6:=F.cI z B
 have ta:xN (S.pt u) (S.pt v) (S.pt a) = - ((xK S v u).1*(xK S v a).2-(xK S v u).2*(xK S v a).1):=by unfold xN xK GF GG;grind
 have tb:xN (S.pt u) (S.pt v) (S.pt b) = - ((xK S v u).1*(xK S v b).2-(xK S v u).2*(xK S v b).1):=by unfold xN xK GF GG;grind
 have j:xN (S.pt v) (S.pt b) (S.pt a) = - ((xK S v a).1*(xK S v b).2-(xK S v a).2*(xK S v b).1):=by unfold xN xK GF GG;grind
 have O:=lX ((dr S).ky v u) ((dr S).ky v a);have U:=lX ((dr S).ky v u) ((dr S).ky v b)
 have da:¬(cr ((dr S).ky v u) ((dr S).ky v a)=0/\((dr S).ky v u).1=((dr S).ky v a).1):=by rintro⟨h1,h2⟩;apply na;apply F.ok.dP z n;unfold cr at h1;grind
 have db:¬(cr ((dr S).ky v u) ((dr S).ky v b)=0/\((dr S).ky v u).1=((dr S).ky v b).1):=by rintro⟨h1,h2⟩;apply nb;apply F.ok.dP B n;unfold cr at h1;grind
 unfold cf sn;simp only;rw[ta,tb,j];generalize (xK S v u).1*(xK S v a).2-(xK S v u).2*(xK S v a).1=x at *;generalize (xK S v u).1*(xK S v b).2-(xK S v u).2*(xK S v b).1=y at *;generalize (xK S v a).1*(xK S v b).2-(xK S v a).2*(xK S v b).1=w at *;generalize cr ((dr S).ky v u) ((dr S).ky v a)=p at *;generalize cr ((dr S).ky v u) ((dr S).ky v b)=q at *;generalize cr ((dr S).ky v a) ((dr S).ky v b)=r at *;generalize hf ((dr S).ky v u) ((dr S).ky v a)=f at *;generalize hf ((dr S).ky v u) ((dr S).ky v b)=g at *
 have sa:cn (-x)=if p<0 then 1 else if 0<p then -1 else 0:=by unfold cn;lia
 have sb:cn (-y)=if q<0 then 1 else if 0<q then -1 else 0:=by unfold cn;lia
 rw[sa,sb]
 have fa:f=if p<0 then 0 else if 0<p then 2 else 1:=by
  rcases O with⟨h,e⟩|⟨h,e⟩|⟨h,h2,e⟩|⟨h,h2,e⟩
  ·rw[Wi h];exact e
  ·rw[Wh L,Wi h];exact e
  ·exact Wm ⟨h,h2⟩ da
  ·rw[Wh L,Wh L];exact e
 have fb:g=if q<0 then 0 else if 0<q then 2 else 1:=by
  rcases U with⟨h,e⟩|⟨h,e⟩|⟨h,h2,e⟩|⟨h,h2,e⟩
  ·rw[Wi h];exact e
  ·rw[Wh L,Wi h];exact e
  ·exact Wm ⟨h,h2⟩ db
  ·rw[Wh L,Wh L];exact e
 clear O U da db sa sb ta tb j;rw[fa,fb];have aa:=A6.1;have P:(p<0/\¬0<p)\/(¬p<0/\0<p)\/(¬p<0/\¬0<p):=by lia
 have Q:(q<0/\¬0<q)\/(¬q<0/\0<q)\/(¬q<0/\¬0<q):=by lia
 rcases P with⟨G,p2⟩|⟨G,p2⟩|⟨G,p2⟩<;>rcases Q with⟨I,J⟩|⟨I,J⟩|⟨I,J⟩<;>
  simp only[G,p2,I,J,Wq,Wr]<;>simp<;>lia
theorem yJ(O:K.Ok){u v a b:Nat}(j:K.dS u v a)(n:K.dS u v b):a=b:=by apply xJ;intro z;have h1:=j.2 b n.1;have h2:=n.2 a j.1;exact h2 (iJ h1 (fun e=>z (O.dP j.1 n.1 e)))
structure sJ(S:Plan)(u v:Nat)(seen:List Nat)(best:Option Nat):Prop where
 none_:best=none->∀c∈seen,c=u
 some_:∀b,best=some b->(dr S).a5 (v,b)/\b≠u/\∀c∈seen,c≠u->¬sn ((dr S).ky v u) ((dr S).ky v c) ((dr S).ky v b)
theorem a9.iY(F:a9 S){u v:Nat} (U:(dr S).a5 (v,u)) {seen:List Nat} {j:Option Nat} (G:∀c∈seen,(dr S).a5 (v,c)) (I:sJ S u v seen j) {n:Nat} (J:(dr S).a5 (v,n)) :
  sJ S u v (seen++[n]) (cz S (u,v) j n):=by
 unfold cz;simp only;by_cases q:n=u
 ·rw[Wh (fun h=>h.1 q)];refine⟨?_,?_⟩
  ·intro z c hc;rcases List.mem_append.1 hc with hc | hc
   ·exact I.none_ z c hc
   grind
  ·intro b z;obtain⟨h1,h2,O⟩:=I.some_ b z;grind
 ·cases j with
  | none=>
   rw[Wi ⟨q,Z⟩];refine⟨fun h=>(by cases h),?_⟩;intro b z;simp only[Option.some.injEq]at z;subst z;refine⟨J,q,?_⟩;intro c hc B;rcases List.mem_append.1 hc with hc|hc
   ·exact Wm (I.none_ Z c hc) B
   ·simp only[G0]at hc;subst hc;exact jH
  | some o=>
   obtain⟨h1,h2,O⟩:=I.some_ o rfl;have fi:=F.fG U J h1 q h2;by_cases w:cf S (u,v) n o=true
   ·rw[Wi ⟨q,w⟩];refine⟨fun h=>(by cases h),?_⟩;intro b z;simp only[Option.some.injEq] at z;subst z;refine⟨J,q,?_⟩;intro c hc B;rcases List.mem_append.1 hc with hc | hc
    ·exact fun h=>O c hc B (gB h (fi.1 w))
    ·simp only[G0]at hc;subst hc;exact jH
   ·rw[Wh (fun h=>w h.2)];refine⟨fun h=>(by cases h),?_⟩;grind
theorem a9.iP(F:a9 S)(v:Nat):(S.near v).Nodup:=by
 unfold Plan.near
 have key:∀(l:List WA),l.Nodup->(∀x∈l,x.1<x.2)->(l.filterMap fun(l:WA)=>if l.1=v then some l.2 else if l.2=v then some l.1 else none).Nodup:=by
  intro l;induction l with
  |nil=>intro _ _;simp
  | cons a l z=>
   intro n hl;rw[U3]at n;have B:=z n.2 (fun x j=>hl x (by simp[j]));have G:=hl a We;rw[VE];by_cases q:a.1=v
   ·grind
   ·grind
 exact key S.lines F.nodup (fun x j=>(F.lines x j).1)
theorem a9.pq(F:a9 S){u v:Nat} (h:(dr S).a5 (u,v)) (j:2<=(S.near v).length) {n:Option Nat} (I:sJ S u v (S.near v) n):n=some (S.next u v):=by
 have B:(dr S).a5 (v,u):=h.rev;cases n with
 | none=>
  exfalso;have all:=I.none_ rfl;have nd:=F.iP v;match G:S.near v,j,nd,all with
  | a::b::r,_,nd,all=>
   have h1:=all a We;have h2:=all b We;rw[U3]at nd;apply nd.1;rw[h1,h2];simp
  |[a],j,_,_=>simp at j
  |[],j,_,_=>simp at j
 | some b=>
  obtain⟨h1,h2,z⟩:=I.some_ b rfl
  have nb:(dr S).dS u v b:=by
   refine⟨h1,?_⟩;intro c hc;by_cases q:c=u
   ·rw[q];exact mC
   ·exact z c (F.cp.2 hc) q
  rw[yJ F.ok nb (F.eY h)]
open Gla (Pt Plan Mark)
theorem zH(S:Plan) (all:List (List Nat)):∀(B:List Mark) (k:Nat) (n:List (Option (List Nat))),
  (∀ i (h:i<B.length),(∀ j (I:j<i),¬ (S.among all (B[j]'(by lia)).at_∈n\/∃ z,∃ _:z<j,S.among all (B[z]'(by lia)).at_=S.among all (B[j]'(by lia)).at_))->
   (S.among all (B[i]).at_∈n\/∃j,∃_:j<i,S.among all (B[j]'(by lia)).at_=S.among all (B[i]).at_)->Qae S all k n B=some (k+i))/\
  ((∀i (h:i<B.length),¬(S.among all (B[i]).at_∈n\/∃j,∃_:j<i,S.among all (B[j]'(by lia)).at_=S.among all (B[i]).at_))->Qae S all k n B=none)
 |[],k,n=>⟨fun i h=>by simp at h,fun _=>rfl⟩
 | m::r,k,n=>by
  have O:=zH S all r (k+1) (S.among all m.at_::n);have F:Qae S all k n (m::r)=if n.contains (S.among all m.at_)=true then some k else Qae S all (k+1) (S.among all m.at_::n) r:=rfl
  have conv:∀j (I:j<r.length),(S.among all (r[j]).at_∈S.among all m.at_::n\/∃z,∃_:z<j,S.among all (r[z]'(by lia)).at_=S.among all (r[j]).at_)↔
    (S.among all ((m::r)[j+1]'(by simp;lia)).at_∈n\/∃z,∃_:z<j+1,S.among all ((m::r)[z]'(by simp;lia)).at_=S.among all ((m::r)[j+1]'(by simp;lia)).at_):=by
   intro j I;constructor
   ·rintro (h | ⟨z,J,e⟩)
    ·rcases List.mem_cons.1 h with e | h
     ·exact UH ⟨0,by lia,by simpa using e.symm⟩
     ·exact G4 (by simpa using h)
    ·exact UH ⟨z+1,by lia,by simpa using e⟩
   ·rintro (h | ⟨z,J,e⟩)
    ·left;simp only[Qbj]at h;simp[h]
    ·cases z with
     |zero=>left;simp only[List.getElem_cons_zero,Qbj]at e;simp[e]
     |succ z=>right;exact⟨z,by lia,by simpa using e⟩
  constructor
  ·intro i hi U hd;rw[F];cases i with
   | zero=>
    rcases hd with h|⟨j,I,_⟩
    ·rw[Wi (List.contains_iff_mem.2 (by simpa using h))];rfl
    ·lia
   | succ i=>
    have h0:=U 0 L;rw[Wh (fun h=>h0 (G4 (by simpa using List.contains_iff_mem.1 h)))];have G:i<r.length:=by simp at hi;lia
    rw[O.1 i G (fun j I h=>U (j+1) L ((conv j L).1 h)) ((conv i G).2 hd)];congr 1;lia
  ·intro h;rw[F];have h0:=h 0 We;rw[Wh (fun q=>h0 (G4 (by simpa using List.contains_iff_mem.1 q)))];exact O.2 (fun i hi q=>h (i+1) (by simp;lia) ((conv i hi).1 q))
theorem Good.ph(G:Good S){es:List Dt}(hl:es.length=S.marks.length)(hc:∀m∈S.marks,U4 S m.at_=true)
  (z:∀i (h:i<S.marks.length),Under S (S.marks[i]).at_ (es[i]'(by lia))) :
  (∀ i (h:i<S.marks.length),(∀ j (n:j<i),∀ k (hk:k<j),es[j]'(by lia)∉G.bH (es[k]'(by lia)))->(∃ j,∃(n:j<i),es[i]'(by lia)∈G.bH (es[j]'(by lia)))->
   Qae S S.outlines 0 [] S.marks=some i)/\
  ((∀i (h:i<S.marks.length),∀k (hk:k<i),es[i]'(by lia)∉G.bH (es[k]'(by lia)))->Qae S S.outlines 0 [] S.marks=none):=by
 have t:=zH S S.outlines S.marks 0 []
 have am:∀i (h:i<S.marks.length),S.among S.outlines (S.marks[i]).at_=some (G.vs (G.lead (es[i]'(by lia)))):=
  fun i h=>G.sV (hc _ (xR h)) (z i h)
 have conv:∀i (h:i<S.marks.length) j (n:j<i),S.among S.outlines (S.marks[j]'(by lia)).at_=S.among S.outlines (S.marks[i]).at_↔es[i]'(by lia)∈G.bH (es[j]'(by lia)):=by intro i h j n;rw[am i h,am j L,eq_comm];exact G.kL (G4 (z i h).mem) (G4 (z j L).mem)
 constructor
 ·intro i h B hd
  have:=t.1 i h (fun j n=>by
   rintro(q|⟨k,hk,e⟩)
   ·simp at q
   ·exact B j n k hk ((conv j L k hk).1 e)) (by
   obtain⟨j,n,e⟩:=hd;exact UH ⟨j,n,(conv i h j n).2 e⟩)
  rw[this];congr 1;lia
 ·intro h;apply t.2;intro i hi;rintro (q | ⟨k,hk,e⟩)
  ·simp at q
  ·exact h i hi k hk ((conv i hi k hk).1 e)
def cv(bar:Int)(a:List Nat×List Nat)(j:Nat):List Nat×List Nat:=if(j:Int)≠bar/\j∉a.2 then(a.1++[j],a.2++[j]) else a
structure eD(n:Nat)(bar:Int)(ws fk todo:List Nat)(seen:Array Bool):Prop where
 size:seen.size=n
 ws:ws=todo.reverse
 nd:fk.Nodup
 lt:∀j∈fk,j<n
 nb:∀j∈fk,(j:Int)≠bar
 sub:∀j∈todo,j<n
 iff_:∀j,j<n->(seen.getD j true=true↔(j∈fk\/(j:Int)=bar))
theorem oA{n:Nat}{bar:Int}{ws z todo:List Nat}{seen:Array Bool}(R:eD n bar ws z todo seen){j:Nat}(U:j<n) :
  eD n bar (cv bar (ws,z) j).1 (cv bar (ws,z) j).2 (XG (todo,seen) j).1 (XG (todo,seen) j).2/\
  (XG (todo,seen) j).1.length+(n-(cv bar (ws,z) j).2.length)=todo.length+(n-z.length):=by
 unfold cv XG;simp only;have e:=R.iff_ j U;have len:=bP (l:=z) (m:=xP n) R.nd (fun x I=>List.mem_range.2 (R.lt x I));rw[U6]at len;by_cases q:seen.getD j true=true
 ·rw[Wi q,Wh (fun h=>by rcases e.1 q with h1|h1<;>simp_all)];exact⟨R,rfl⟩
 ·have J:(j:Int)≠bar/\j∉z:=⟨fun h=>q (e.2 (UH h)),fun h=>q (e.2 (G4 h))⟩;rw[Wh q,Wi J]
  have B:(z++[j]).Nodup:=by rw[VW];refine⟨R.nd,by simp,?_⟩;intro a ha b O;simp only[G0]at O;subst O;intro e;subst e;exact J.2 ha
  have F:∀i∈z++[j],i<n:=by
   intro i hi;rcases List.mem_append.1 hi with h|h
   ·exact R.lt i h
   ·simp only[G0]at h;lia
  have G:=bP (l:=z++[j]) (m:=xP n) B (fun x I=>List.mem_range.2 (F x I));rw[U6,xG,GQ]at G;refine⟨⟨by simp[R.size],by simp[R.ws],B,F,?_,?_,?_⟩,by simp only[xQ,xG,U0];lia⟩
  ·intro i hi;rcases List.mem_append.1 hi with h | h
   ·exact R.nb i h
   ·simp only[G0]at h;subst h;exact J.1
  ·intro i hi;rcases List.mem_cons.1 hi with h | h
   ·lia
   ·exact R.sub i h
  ·intro i hi;rw[Zy];by_cases c:j=i
   ·subst c;rw[Wi ⟨Z,by rw[R.size];exact hi⟩];simp
   ·rw[Wh (fun h=>c h.1),R.iff_ i hi];have:¬i=j:=fun h=>c h.symm;simp[this]
theorem dQ{n:Nat}{bar:Int}:∀(l:List Nat) {ws z todo:List Nat} {seen:Array Bool},eD n bar ws z todo seen->(∀j∈l,j<n)->
  eD n bar (l.foldl (cv bar) (ws,z)).1 (l.foldl (cv bar) (ws,z)).2 (l.foldl XG (todo,seen)).1 (l.foldl XG (todo,seen)).2/\
  (l.foldl XG (todo,seen)).1.length+(n-(l.foldl (cv bar) (ws,z)).2.length)=todo.length+(n-z.length)
 |[],_,_,_,_,R,_=>⟨R,Z⟩
 | j::l,ws,z,todo,seen,R,h=>by
  obtain⟨B,F⟩:=oA R (h j We);have:=dQ l B (fun i hi=>h i (by simp[hi]));rw[UJ,UJ];exact⟨this.1,this.2.trans F⟩
theorem kf{n:Nat}{bar:Int}{st:Nat}(F:st<n) (G:(st:Int)≠bar) :
  eD n bar [st] [st] [st] ((if 0<=bar then(Gg n).setIfInBounds bar.toNat true else Gg n).setIfInBounds st true) where
 size:=by by_cases q:0<=bar<;>simp[q,Gg]
 ws:=rfl
 nd:=by simp
 lt:=by intro j z;simp only[G0]at z;lia
 nb:=by intro j z;simp only[G0]at z;subst z;exact G
 sub:=by intro j z;simp only[G0]at z;lia
 iff_:=by
  intro j z;have none_:(Gg n).getD j true=false:=by simp[Gg,Gc,z]
  rw[Zy];by_cases c:st=j
  ·subst c;rw[Wi ⟨Z,by by_cases q:0<=bar<;>simp[q,Gg]<;>lia⟩];simp
  ·rw[Wh (fun h=>c h.1)];have B:¬ j=st:=fun h=>c h.symm;by_cases q:0<=bar
   ·rw[Wi q,Zy,none_];by_cases d:bar.toNat=j
    ·rw[Wi ⟨d,by simp[Gg];lia⟩];have:(j:Int)=bar:=by lia
     simp[this]
    ·rw[Wh (fun h=>d h.1)];have:¬ (j:Int)=bar:=by lia
     simp[B,this]
   ·rw[Wh q,none_];have:¬ (j:Int)=bar:=by lia
    simp[B,this]
theorem pY{n:Nat}{bar:Int}{ws j:List Nat}{seen:Array Bool}(R:eD n bar ws j [] seen)(i:Nat)(hi:i<n) (z:(i:Int)≠bar):seen.getD i false=true↔i∈j:=by
 have:=R.iff_ i hi
 have e:seen.getD i false=seen.getD i true:=by rw[Gc,Gc,GZ (by rw[R.size];exact hi)];rfl
 rw[e,this];simp[z]
theorem eO{n v:Nat}(J:v<n){ws j:List Nat}{seen:Array Bool}(R:eD n v ws j [] seen):seen.contains false=true↔j.length<n-1:=by
 have B:∀x∈j,x∈(xP n).erase v:=by intro x z;have h1:=R.lt x z;have h2:=R.nb x z;grind
 have len:=bP R.nd B;have O:((xP n).erase v).length=n-1:=by rw[Uf (List.mem_range.2 J),U6]
 rw[O]at len;constructor
 ·intro h;rw[Qbo] at h;obtain⟨i,hi,e⟩:=Array.mem_iff_getElem.1 h;have G:i<n:=by rw[<-R.size];exact hi
  have g:seen.getD i true=false:=by rw[Gc,GZ hi,e];rfl
  have I:=R.iff_ i G;have U:i∉j:=fun h=>by rw[I.2 (G4 h)]at g;cases g
  have n2:i≠v:=fun h=>by rw[I.2 (UH L)]at g;cases g
  have:=bP (l:=i::j) (m:=(xP n).erase v) (List.nodup_cons.2 ⟨U,R.nd⟩) (fun x z=>by
   grind)
  grind
 ·intro h;apply xJ;intro hc
  have all:∀x∈(xP n).erase v,x∈j:=by
   intro x z;have F:=List.mem_range.1 (UA z);have aa:x≠v:=by intro e;subst e;exact(List.Nodup.not_mem_erase Qbe) z
   apply xJ;intro hn;apply hc;rw[Qbo]
   have g:¬seen.getD x true=true:=fun q=>by
    rcases(R.iff_ x F).1 q with h|h;all_goals lia
   rw[Gc,GZ (by rw[R.size];exact F)]at g;grind
  have:=bP (l:=(xP n).erase v) (m:=j) (List.nodup_range.erase v) all;lia
open Gla
def seg(b:Bytes)(p n:Nat):Bytes:=(b.drop p).take n
theorem lQ{b:Bytes}{p n:Nat}(h:p+n<=b.length):(seg b p n).length=n:=by unfold seg;grind
theorem ZK(b:Bytes)(p m n:Nat):seg b p m++seg b (p+m) n=seg b p (m+n):=by unfold seg;rw[List.take_add,G7]
theorem Yk(b:Bytes)(p m n:Nat)(r:Bytes):seg b p m++(seg b (p+m) n++r)=seg b p (m+n)++r:=by rw[<-GV,ZK]
theorem lD(b:Bytes){n:Nat}(h:n=b.length):seg b 0 n=b:=by unfold seg;grind
theorem v9(b:Bytes)(p:Nat):seg b p 0=[]:=by simp[seg]
theorem gm:∀l:Bytes,le l.length (numLe l)=l
 |[]=>rfl
 | c::r=>by
  have h:=c.toNat_lt;show UInt8.ofNat ((c.toNat+256*numLe r)%256)::le r.length ((c.toNat+256*numLe r)/256)=c::r;rw[show(c.toNat+256*numLe r)%256=c.toNat by lia,show(c.toNat+256*numLe r)/256=numLe r by lia,gm r,UInt8.ofNat_toNat]
theorem QZ{b:Bytes}{p w:Nat}(h:p+w<=b.length):le w (num b p w)=seg b p w:=by have:=gm (seg b p w);rw[lQ h]at this;exact this
theorem Zr(b:Bytes)(p k:Nat){f:Nat->Bytes}:∀n,(∀i,i<n->f i=seg b (p+k*i) k)->(xP n).flatMap f=seg b p (k*n)
 |0,_=>by rw[Nat.mul_zero,v9];rfl
 | n+1,h=>by
  rw[U1,Qap,Zr b p k n fun i hi=>h i L];simp only[VY,List.flatMap_nil,Ux];rw[h n L,ZK,Qbl]
theorem ZZ{α β:Type}(f:Nat->α)(g:α->List β)(n:Nat):((xP n).map f).flatMap g=(xP n).flatMap fun i=>g (f i):=by rw[List.flatMap_map]
theorem iH{c:Bytes}(h1:c.take 4=MAGIC)(h2:num c 18 2=0)(h3:c.length=20+8*num c 12 2+4*num c 14 2+12*num c 16 2):writePlan (parts c)=c:=by
 unfold writePlan;have B:(parts c).pts.length=num c 12 2:=by unfold parts;simp
 have F:(parts c).lines.length=num c 14 2:=by unfold parts;simp
 have G:(parts c).marks.length=num c 16 2:=by unfold parts;simp
 have I:MAGIC=seg c 0 4:=by rw[<-h1];simp[seg]
 have z:le 2 0=seg c 18 2:=by rw[<-h2,QZ L]
 have J:(parts c).pts.flatMap (fun(p:Pt)=>le 4 p.x++le 4 p.y)=seg c 20 (8*num c 12 2):=by show((xP (num c 12 2)).map _).flatMap _=_;rw[ZZ];refine Zr c 20 8 _ fun i hi=>?_;show le 4 (num c (20+8*i) 4)++le 4 (num c (20+8*i+4) 4)=_;rw[QZ L,QZ L,ZK]
 have p2:(parts c).lines.flatMap (fun(l:WA)=>le 2 l.1++le 2 l.2)=seg c (20+8*num c 12 2) (4*num c 14 2):=by show((xP (num c 14 2)).map _).flatMap _=_;rw[ZZ];refine Zr c (20+8*num c 12 2) 4 _ fun i hi=>?_;show le 2 (num c (20+8*num c 12 2+4*i) 2)++le 2 (num c (20+8*num c 12 2+4*i+2) 2)=_;rw[QZ L,QZ L,ZK]
 have O:(parts c).marks.flatMap (fun(m:Mark)=>le 4 m.at_.x++(le 4 m.at_.y++(le 2 m.glass++le 2 m.painting)))=seg c (20+8*num c 12 2+4*num c 14 2) (12*num c 16 2):=by
  show((xP (num c 16 2)).map _).flatMap _=_;rw[ZZ];refine Zr c (20+8*num c 12 2+4*num c 14 2) 12 _ fun i hi=>?_;generalize j:20+8*num c 12 2+4*num c 14 2+12*i=q;have U:q+12<=c.length:=by lia
  show le 4 (num c (HEAD+8*num c 12 2+4*num c 14 2+12*i) 4)++(le 4 (num c (HEAD+8*num c 12 2+4*num c 14 2+12*i+4) 4)++(le 2 (num c (HEAD+8*num c 12 2+4*num c 14 2+12*i+8) 2)++le 2 (num c (HEAD+8*num c 12 2+4*num c 14 2+12*i+10) 2)))=_;rw[show HEAD+8*num c 12 2+4*num c 14 2+12*i=q from j,QZ L,QZ L,QZ L,QZ L,Yk,Yk,show q+10=q+(4+4+2) by lia,ZK]
 rw[B,F,G,J,p2,O,z,I];show seg c 0 4++(le 4 (num c 4 4)++(le 4 (num c 8 4)++(le 2 (num c 12 2)++(le 2 (num c 14 2)++(le 2 (num c 16 2)++(seg c 18 2++(seg c 20 (8*num c 12 2)++(seg c (20+8*num c 12 2) (4*num c 14 2)++seg c (20+8*num c 12 2+4*num c 14 2) (12*num c 16 2)))))))))=c;rw[QZ L,QZ L,QZ (b:=c) (p:=12) L,QZ (b:=c) (p:=14) L,QZ (b:=c) (p:=16) L];have s:∀(p m n:Nat)(r:Bytes)(q:Nat),q=p+m->seg c p m++(seg c q n++r)=seg c p (m+n)++r:=fun p m n r q j=>by rw[j,Yk]
 rw[s 0 4 4 _ 4 Z,s 0 8 4 _ 8 Z,s 0 12 2 _ 12 Z,s 0 14 2 _ 14 Z,s 0 16 2 _ 16 Z,s 0 18 2 _ 18 Z,s 0 20 _ _ 20 Z,s 0 _ _ _ _ L];have t:∀(p m n q:Nat),q=p+m->seg c p m++seg c q n=seg c p (m+n):=fun p m n q j=>by rw[j,ZK]
 rw[t 0 _ _ _ L];exact lD c L
theorem jd{b:Bytes}{p:Nat}(h:p+64<=b.length):lightBytes (lightAt b p)=seg b p 64:=by unfold lightBytes lightAt BANDS;rw[ZZ];exact Zr b p 2 32 fun i hi=>QZ L
theorem p9{ks:List Kind}{b:Bytes}{p:Nat}(h:p+69<=b.length)(j:badCoat ks b p=none):coatBytes (coatsAt b p)=seg b (p+64) 5:=by
 unfold badCoat at j;simp only at j;split at j
 ·cases j
 ·rename_i q
  have q:1<=num b (p+64) 1/\num b (p+64) 1<=4:=by unfold within at q;simpa using q
  rw[V3,UB]at j;have e:(coatsAt b p).length=num b (p+64) 1:=by unfold coatsAt;simp
  unfold coatBytes;rw[e,QZ L]
  have c1:(coatsAt b p).flatMap (le 1)=seg b (p+65) (1*num b (p+64) 1):=by unfold coatsAt;rw[ZZ];refine Zr b (p+65) 1 _ fun i hi=>?_;rw[Qa0];exact QZ L
  have z:∀i,num b (p+64) 1<=i->i<4->seg b (p+65+i) 1=[0]:=by
   intro i h1 h2;have:=j i (List.mem_range.2 h2);rw[Wh L]at this;have:num b (p+65+i) 1=0:=by simpa using this
   rw[<-QZ L,this];rfl
  have c2:xU (4-num b (p+64) 1) (0:UInt8)=seg b (p+65+num b (p+64) 1) (1*(4-num b (p+64) 1)):=by
   rw[<-Zr b (p+65+num b (p+64) 1) 1 (f:=fun _=>[0]) (4-num b (p+64) 1) (fun i hi=>by
    rw[Qa0,Gx,z _ L L])]
   generalize 4-num b (p+64) 1=k;induction k with
   |zero=>rfl
   |succ k n=>rw[List.replicate_succ',n,U1,Qap];rfl
  rw[c1,c2,Qa0,Qa0,ZK,show p+65=p+64+1 by lia,ZK];congr 1;lia
theorem lr{b:Bytes}{ks:List Kind}(h1:b.take 4=WORKSHOP) (h2:b.length=(partsAt b).2.2.2.2) (z:writePlan S=seg b 80 (num b 4 4)) (B:∀i,i<num b 68 4->badCoat ks b ((partsAt b).2.2.2.1+69*i)=none) :
  writeShop (shopParts b S)=b:=by
 have hl:b.length=80+num b 4 4+16*num b 56 4+8*num b 60 4+64*num b 64 4+69*num b 68 4:=h2;have F:WORKSHOP=seg b 0 4:=by rw[<-h1];simp[seg]
 have G:(writePlan S).length=num b 4 4:=by rw[z,lQ L]
 have I:(shopParts b S).sheets.length=num b 56 4:=by unfold shopParts;simp
 have J:(shopParts b S).kinds.length=num b 60 4:=by unfold shopParts;simp
 have O:(shopParts b S).glass.length=num b 64 4:=by unfold shopParts;simp
 have U:(shopParts b S).paint.length=num b 68 4:=by unfold shopParts;simp
 have n1:(shopParts b S).numbers.flatMap (le 4)=seg b 8 64:=by unfold Workshop.numbers;rw[I,J,O,U];show [num b 8 4,num b 12 4,num b 16 4,num b 20 4,num b 24 4,num b 28 4,num b 32 4,num b 36 4,num b 40 4,num b 44 4,num b 48 4,num b 52 4,num b 56 4,num b 60 4,num b 64 4,num b 68 4].flatMap (le 4)=_;have:=Zr b 8 4 (f:=fun i=>le 4 (num b (8+4*i) 4)) 16 fun i hi=>QZ L;rw[<-this];rfl
 have s1:(shopParts b S).sheets.flatMap (fun(s:Sheet)=>le 4 s.glass++(le 4 s.w++(le 4 s.h++le 4 s.turns)))=seg b (80+num b 4 4) (16*num b 56 4):=by
  show((xP (num b 56 4)).map _).flatMap _=_;rw[ZZ];refine Zr b _ 16 _ fun i hi=>?_;generalize j:80+num b 4 4+16*i=q;have:q+16<=b.length:=by lia
  show le 4 (num b (FRONT+num b 4 4+16*i) 4)++(le 4 (num b (FRONT+num b 4 4+16*i+4) 4)++(le 4 (num b (FRONT+num b 4 4+16*i+8) 4)++le 4 (num b (FRONT+num b 4 4+16*i+12) 4)))=_;rw[show FRONT+num b 4 4+16*i=q from j,QZ L,QZ L,QZ L,QZ L,Yk,Yk,show q+12=q+(4+4+4) by lia,ZK]
 have s2:(shopParts b S).kinds.flatMap (fun(k:Kind)=>le 4 k.heat++le 4 k.hold)=seg b (80+num b 4 4+16*num b 56 4) (8*num b 60 4):=by show((xP (num b 60 4)).map _).flatMap _=_;rw[ZZ];refine Zr b _ 8 _ fun i hi=>?_;show le 4 (num b (80+num b 4 4+16*num b 56 4+8*i) 4)++le 4 (num b (80+num b 4 4+16*num b 56 4+8*i+4) 4)=_;rw[QZ L,QZ L,ZK]
 have s3:(shopParts b S).glass.flatMap lightBytes=seg b (80+num b 4 4+16*num b 56 4+8*num b 60 4) (64*num b 64 4):=by show((xP (num b 64 4)).map _).flatMap _=_;rw[ZZ];have q:(partsAt b).2.2.1=80+num b 4 4+16*num b 56 4+8*num b 60 4:=rfl;exact Zr b _ 64 _ fun i hi=>jd (by rw[q];lia)
 have s4:(shopParts b S).paint.flatMap (fun(p:Light×Coats)=>lightBytes p.1++coatBytes p.2)=seg b (80+num b 4 4+16*num b 56 4+8*num b 60 4+64*num b 64 4) (69*num b 68 4):=by show((xP (num b 68 4)).map _).flatMap _=_;rw[ZZ];refine Zr b _ 69 _ fun i hi=>?_;have:=B i hi;have q:(partsAt b).2.2.2.1=80+num b 4 4+16*num b 56 4+8*num b 60 4+64*num b 64 4:=rfl;show lightBytes (lightAt b ((partsAt b).2.2.2.1+69*i))++coatBytes (coatsAt b ((partsAt b).2.2.2.1+69*i))=_;rw[jd L,p9 L this,ZK,q]
 unfold writeShop;rw[n1,s1,s2,s3,s4];show WORKSHOP++(le 4 (writePlan S).length++(seg b 8 64++(le 8 (num b 72 8)++(writePlan S++_))))=b;rw[G,z,F,QZ L,QZ L];have s:∀(p m n:Nat)(r:Bytes)(q:Nat),q=p+m->seg b p m++(seg b q n++r)=seg b p (m+n)++r:=fun p m n r q j=>by rw[j,Yk]
 rw[s 0 4 4 _ 4 Z,s 0 8 64 _ 8 Z,s 0 72 8 _ 72 Z,s 0 80 _ _ 80 Z,s 0 _ _ _ _ L,s 0 _ _ _ _ L,s 0 _ _ _ _ L];have t:∀(p m n q:Nat),q=p+m->seg b p m++seg b q n=seg b p (m+n):=fun p m n q j=>by rw[j,ZK]
 rw[t 0 _ _ _ L];exact lD b L
theorem gr(c:UInt8)(t:Bytes):oneOf [[c]] t=if t.head?=some c then .ok (0,1) else .error 0:=by
 unfold oneOf firstAt;cases t with
 |nil=>simp[agree]
 | cons d r=>
  by_cases h:d=c
  ·subst h;simp
  ·have h':¬c=d:=fun e=>h e.symm;simp[h,h',agree]
noncomputable def cg(most:Nat):Option Nat->Bytes->Option Nat×Nat
 |v,[]=>(v,0)
 | v,c::r=>if isDigit c=false then (v,0) else
  let u:=10*v.getD 0+(c.toNat-48)
  if v=some 0\/most<u then(v,0) else
   let x:=cg most (some u) r
   (x.1,x.2+1)
def cB(most:Nat)(t:Bytes):Option Nat×Nat:=cg most none t
theorem yR(most:Nat):∀(t:Bytes)(v k:Nat),0<v->match moreDigits most v k t with
  |.ok x=>cg most (some v) t=(some x.1,x.2-k)/\k<=x.2/\0<x.1
  |.error e=>∃u,cg most (some v) t=(some u,e-k)/\k<=e/\∃c,(t.drop (e-k)).head?=some c/\isDigit c=true
 |[],v,k,_=>by simp[moreDigits,cg];assumption
 | c::r,v,k,hv=>by
  unfold moreDigits;by_cases h:isDigit c=true
  ·rw[Wi h];simp only;have G:¬ isDigit c=false:=by rw[h];simp
   by_cases m:most<10*v+(c.toNat-48)
   ·rw[Wi m];refine⟨v,?_,xO _,c,by simp,h⟩;unfold cg;grind
   ·rw[Wh m];have j:=yR most r (10*v+(c.toNat-48)) (k+1) L
    have e:cg most (some v) (c::r)=((cg most (some (10*v+(c.toNat-48))) r).1,(cg most (some (10*v+(c.toNat-48))) r).2+1):=by
     conv=>lhs;unfold cg
     grind
    cases q:moreDigits most (10*v+(c.toNat-48)) (k+1) r with
    | ok x=>
     rw[q]at j;obtain⟨i1,z,n⟩:=j;refine⟨?_,by lia,n⟩;rw[e,i1];simp only[Prod.mk.injEq,true_and];lia
    | error x=>
     rw[q]at j;obtain⟨u,i1,z,B,n,F⟩:=j;refine⟨u,?_,by lia,B,?_,F⟩
     ·grind
     ·rw[show x-k=(x-(k+1))+1 by lia];grind
  ·rw[Wh h];have hf:isDigit c=false:=by simpa using h
   refine⟨?_,xO _,hv⟩;unfold cg;lia
theorem fP{c:UInt8}(h:isDigit c=true):48<=c.toNat/\c.toNat<=57:=by unfold isDigit at h;simpa using h
theorem jz{most:Nat}(n:9<=most)(t:Bytes):match number most t with
  |.ok x=>cB most t=(some x.1,x.2)
  |.error 0=>cB most t=(none,0)
  |.error (k+1)=>∃u,cB most t=(some u,k+1)/\∃c,(t.drop (k+1)).head?=some c/\isDigit c=true:=by
 cases t with
 |nil=>simp[number,cB,cg]
 | cons c r=>
  unfold number;simp only;by_cases h:isDigit c=false
  ·rw[Wi h];simp only[cB];unfold cg;lia
  ·rw[Wh h];have hd:isDigit c=true:=by simpa using h
   have B:=fP hd
   have e:cB most (c::r)=((cg most (some (c.toNat-48)) r).1,(cg most (some (c.toNat-48)) r).2+1):=by
    unfold cB
    conv=>lhs;unfold cg
    grind
   by_cases z:c=48
   ·rw[Wi z];subst z;rw[e]
    have:cg most (some ((48:UInt8).toNat-48)) r=(some 0,0):=by
     cases r with
     |nil=>rfl
     | cons d r=>
      unfold cg;by_cases q:isDigit d=false
      ·lia
      ·lia
    rw[this]
   ·rw[Wh z]
    have j:0<c.toNat-48:=by
     have:c.toNat≠48:=fun q=>z (by
      have:c.toNat=(48:UInt8).toNat:=q;exact UInt8.toNat_inj.1 this)
     lia
    have F:=yR most r (c.toNat-48) 1 j;grind
def bg:List Nat->Bytes->Option (List Nat)×Nat
 |[],_=>(some [],0)
 | m::r,t=>match cB m t with
  |(none,k)=>(none,k)
  | (some v,k)=>if (t.drop k).head?=some (if r=[] then 10 else 32) then
    match bg r (t.drop (k+1)) with
    |(none,j)=>(none,k+1+j)
    |(some l,j)=>(some (v::l),k+1+j)
   else(none,k)
theorem jY{c:UInt8}(h:isDigit c=true):c≠10/\c≠32:=by
 have:=fP h;constructor
 ·intro e;subst e;revert this;decide
 ·intro e;subst e;revert this;decide
theorem fu:∀(z:List Nat)(t:Bytes),z≠[]->(∀m∈z,9<=m)->numbers z (32::t)=match bg z t with
  |(some l,j)=>.ok (l,1+j)
  |(none,j)=>.error (1+j)
 |[],_,h,_=>Wm Z h
 | m::r,t,_,hm=>by
  have n:=jz (hm m We) t;unfold numbers bg;rw[gr,Wi Wg];simp only[GT,G6];cases q:number m t with
  | error k=>
   rw[q]at n;match k,n with
   | 0,n=>
    rw[n]
   | k+1,n=>
    obtain⟨u,h1,c,h2,F⟩:=n;rw[h1];simp only;rw[Wh];rw[h2];have:=jY F;intro e;have e:c=if r=[] then 10 else 32:=Wo e
    split at e
    ·lia
    ·lia
  | ok x=>
   rw[q]at n;simp only at n;rw[n];simp only;rw[show 1+x.2=x.2+1 by lia,GT];by_cases hr:r=[]
   ·subst hr;simp only[Wq];unfold numbers bg;rw[gr];by_cases h:(t.drop x.2).head?=some 10
    ·rw[Wi h,Wi h];simp[Except.map];lia
    ·rw[Wh h,Wh h];simp[Except.map];lia
   ·rw[Wh hr];by_cases h:(t.drop x.2).head?=some 32
    ·rw[Wi h]
     have e:t.drop x.2=32::t.drop (x.2+1):=by
      cases d:t.drop x.2 with
      |nil=>rw[d]at h;cases h
      | cons a b=>
       rw[d]at h;cases h;rw[<-G7,d];rfl
     rw[e,fu r _ hr fun B h'=>hm B (xT _ h')];lia
    ·rw[Wh h];match r,hr with
     | B::r',_=>
      unfold numbers;rw[gr,Wh h];simp only[Except.error.injEq];lia
def bq:Nat->Bytes->Option (List Nat)×Nat
 |0,_=>(none,0)
 | n+1,t=>match cB 255 t with
  |(none,k)=>(none,k)
  | (some v,k)=>if (t.drop k).head?=some 10 then (some [v],k+1)
   else if n=0 then(none,k)
   else if(t.drop k).head?=some 32 then
    match bq n (t.drop (k+1)) with
    |(none,j)=>(none,k+1+j)
    |(some l,j)=>(some (v::l),k+1+j)
   else(none,k)
theorem head_drop{t:Bytes}{c:UInt8} (h:(t.drop k).head?=some c):t.drop k=c::t.drop (k+1):=by
 cases d:t.drop k with
 |nil=>rw[d]at h;cases h
 | cons a b=>
  rw[d]at h;cases h;rw[<-G7,d];rfl
theorem oF:∀(n:Nat)(t:Bytes),someNumbers (n+1) (32::t)=match bq (n+1) t with
  |(some l,j)=>.ok (l,1+j)
  |(none,j)=>.error (1+j):=by
 intro n;induction n with
 | zero=>
  intro t;have z:=jz (most:=255) Wa t;unfold someNumbers bq;rw[gr,Wi Wg];simp only[GT,G6];cases q:number 255 t with
  | error k=>
   rw[q]at z;match k,z with
   |0,z=>rw[z]
   | k+1,z=>
    obtain⟨u,h1,c,h2,B⟩:=z;rw[h1];simp only;have:=jY B;rw[Wh (by rw[h2];intro e;exact this.1 (Wo e)),Wi trivial]
  | ok x=>
   rw[q]at z;simp only at z;rw[z];simp only;rw[show 1+x.2=x.2+1 by lia,GT];by_cases h:(t.drop x.2).head?=some 10
   ·lia
   ·rw[Wh h,Wh h,Wi trivial,Wi trivial,gr,Wh h];simp[Except.map];lia
 | succ n F=>
  intro t;have z:=jz (most:=255) Wa t;unfold someNumbers bq;rw[gr,Wi Wg];simp only[GT,G6];cases q:number 255 t with
  | error k=>
   rw[q]at z;match k,z with
   |0,z=>rw[z]
   | k+1,z=>
    obtain⟨u,h1,c,h2,B⟩:=z;rw[h1];simp only;have:=jY B;rw[Wh (by rw[h2];intro e;exact this.1 (Wo e)),Wh L,Wh (by rw[h2];intro e;exact this.2 (Wo e))]
  | ok x=>
   rw[q]at z;simp only at z;rw[z];simp only;rw[show 1+x.2=x.2+1 by lia,GT];by_cases h:(t.drop x.2).head?=some 10
   ·lia
   ·rw[Wh h,Wh h,Wh L,Wh L];by_cases h2:(t.drop x.2).head?=some 32
    ·rw[Wi h2,head_drop h2,F];lia
    ·rw[Wh h2];unfold someNumbers;rw[gr,Wh h2];lia
end Pl
namespace L2
open PySem PySem.Spec PyProof.Rows
theorem PE.imp{X:Cx}{e:Expr}{t t':TE}(h:PE X e t)(f:∀σ H Q,t' σ H Q->t σ H Q):PE X e t':=fun aZ s σ H Q I q=>h aZ s σ H Q I (f σ H Q q)
inductive La(K:xB)(i:Nat)(σ:St)(H:Hp)(Q:VK):Prop
 |mk (a:_) (x:_) (y:_):σ[i]?=some (some (.ref a))->bY K H a [.int x,.int y]->Q (.int x) H->La K i σ H Q
inductive K2(K:xB)(i:Nat)(σ:St)(H:Hp)(Q:VK):Prop
 |mk (a:_) (x:_) (y:_):σ[i]?=some (some (.ref a))->bY K H a [.int x,.int y]->Q (.int y) H->K2 K i σ H Q
theorem QX{X:Cx}(i:Nat){x:Str}{pos cq n:Pos}{B:Nat}(F:X.N[i]?=some x:=by rfl) (G:vJ X.env.scope x:=by first|exact G4 rfl|exact UH (G4 Z)|exact UH (UH Z)) (hd:(x==("__debug__" : Str))=false:=by decide)
  (z:(x==("__classdict__" : Str))=false:=by decide):PE X (.Subscript (.Name x pos) (.Constant (.int 0) B n) cq) (La X.K i):=
 (Qy QO (jV F G hd z) Qi (fun _ _=>rfl)).imp fun σ H Q ⟨a,p,q,h1,h2,I⟩=>⟨_,h1,a,_,_,_,Z,Z,h2,Qm (j:=0) Z,I⟩
theorem Q6{X:Cx}(i:Nat){x:Str}{pos cq n:Pos}{B:Nat}(F:X.N[i]?=some x:=by rfl) (G:vJ X.env.scope x:=by first|exact G4 rfl|exact UH (G4 Z)|exact UH (UH Z)) (hd:(x==("__debug__" : Str))=false:=by decide)
  (z:(x==("__classdict__" : Str))=false:=by decide):PE X (.Subscript (.Name x pos) (.Constant (.int 1) B n) cq) (K2 X.K i):=
 (Qy QO (jV F G hd z) Qi (fun _ _=>rfl)).imp fun σ H Q ⟨a,p,q,h1,h2,I⟩=>⟨_,h1,a,_,_,_,Z,Z,h2,Qm (j:=1) Z,I⟩
end L2
variable {P:PySem.Program} {w:PySem.World} {K:xB} {mg:PySem.Str->Option PySem.Value} {base:PySem.Heap} {C f a:PySem.Addr} {fd:PySem.FuncData} {c:String->List xC} {t b:xC}
namespace Gp
open PySem PySem.Spec PyProof.Rows L2
open Gla (Pt Plan)
def Xj(K:xB)(H:Hp)(a:Addr)(p:Pt):Prop:=bY K H a [.int (p.x:Int),.int (p.y:Int)]
def Sm(p:Pt):Prop:=p.x<4294967296/\p.y<4294967296
inductive JP(K:xB)(vs:List V)(H:Hp)(Q:VK)(E:XK):Prop
 |mk (a b c:Addr) (p q r:Pt):vs=[.ref a,.ref b,.ref c]->Xj K H a p->Xj K H b q->Xj K H c r->Sm p->Sm q->Sm r->Q (.int (xN p q r)) H->JP K vs H Q E
inductive sS(vs:List V)(H:Hp)(Q:VK)(E:XK):Prop
 |mk (n a b:Int):vs=[.int n,.int a,.int b]->Q (.bl (Pl.cA n a b)) H->sS vs H Q E
inductive uT(K:xB)(vs:List V)(H:Hp)(Q:VK)(E:XK):Prop
 |mk (a b c:Addr) (r p q:Pt):vs=[.ref a,.ref b,.ref c]->Xj K H a r->Xj K H b p->Xj K H c q->Sm p->Sm q->Sm r->Q (.bl (Uq p q r)) H->uT K vs H Q E
inductive jE(K:xB)(vs:List V)(H:Hp)(Q:VK)(E:XK):Prop
 |mk (a b c d:Addr) (p q r s:Pt):vs=[.ref a,.ref b,.ref c,.ref d]->Xj K H a p->Xj K H b q->Xj K H c r->Xj K H d s->Sm p->Sm q->Sm r->Sm s->Q (.bl (Pl.dm (xN p q r) (xN p q s))) H->jE K vs H Q E
inductive jG(K:xB)(vs:List V)(H:Hp)(Q:VK)(E:XK):Prop
 |mk (a b c d:Addr) (p q r s:Pt):vs=[.ref a,.ref b,.ref c,.ref d]->Xj K H a p->Xj K H b q->Xj K H c r->Xj K H d s->Sm p->Sm q->Sm r->Sm s->Q (.bl (G3 p q r s)) H->jG K vs H Q E
inductive J5(K:xB)(vs:List V)(H:Hp)(Q:VK)(E:XK):Prop
 |mk (a b:Addr) (p q:Pt):vs=[.ref a,.ref b]->Xj K H a p->Xj K H b q->Q (.bl (q.below p)) H->J5 K vs H Q E
abbrev tM:Stmt:=top 16
abbrev B8:Stmt:=top 17
abbrev ID:Stmt:=top 18
abbrev lu:Stmt:=top 19
abbrev kU:Stmt:=top 20
abbrev jO:Stmt:=top 21
theorem uE:a7 ["first","second","third","right"] ["first","second","third"] (a6 tM):=.mk'
theorem DE:a7 ["number","one","other"] ["number","one","other"] (a6 B8):=.mk'
theorem KO:a7 ["point","start","end"] ["point","start","end"] (a6 ID):=.mk'
theorem jL:a7 ["start","end","one","other","one_turn","other_turn"] ["start","end","one","other"] (a6 lu):=.mk'
theorem u7:a7 ["start","end","other_start","other_end"] ["start","end","other_start","other_end"] (a6 kU):=.mk'
theorem sY:a7 ["later","earlier"] ["later","earlier"] (a6 jO):=.mk'
section
theorem wa(F:bG K "turn" "turn" tM f fd):QC P w K mg base bD 1 f fd ["first","second","third"] (JP K):=by
 apply F.bM uE;rintro _ H Q E ⟨a,b,c,p,q,r,rfl,n,j,hc,sp,sq,z,k⟩;refine⟨Z,fun _ _ _ _ _=>?_⟩
 refine⟨_,Qb (bA 3 uE.nd (QA ZN (QA Xl (QX 1) (QX 0)) (QA Xl (Q6 2) (Q6 1))))
  (Qd (Qj (QA Xl (pv 3) (QA ZN (QA Xl (Q6 1) (Q6 0)) (QA Xl (QX 2) (QX 1)))))),?_⟩
 unfold Sm at sp sq z;refine⟨b,_,_,Z,j,a,_,_,Z,n,_,_,Z,Z,c,_,_,Z,hc,b,_,_,Z,j,_,_,Z,Z,_,_,Z,Z,.inl ⟨by lia,by lia⟩,?_⟩;refine⟨_,Z,b,_,_,Z,j,a,_,_,Z,n,_,_,Z,Z,c,_,_,Z,hc,b,_,_,Z,j,_,_,Z,Z,_,_,Z,Z,.inl ⟨by lia,by lia⟩,_,_,Z,Z,?_⟩;exact k
theorem A5(F:bG K "is_between" "is_between" B8 f fd):QC P w K mg base bD 1 f fd ["number","one","other"] sS:=by
 apply F.bM DE;rintro _ H Q E ⟨n,a,b,rfl,k⟩;refine⟨Z,fun _ _ _ _ _=>?_⟩
 refine⟨_,Qb (QD (Qt ZE (pv 1) (pv 2) (Qo _))
   (Qd (Qj (Y6 (QM jc (pv 1) (pv 0) (Qo _)) (Y5 (QM jc (pv 0) (pv 2) (Qo _)))))) Qq)
  (Qd (Qj (Y6 (QM jc (pv 2) (pv 0) (Qo _)) (Y5 (QM jc (pv 0) (pv 1) (Qo _)))))),?_⟩
 refine⟨_,Z,_,Z,_,_,Z,Z,_,Z,?_⟩;unfold Pl.cA at k;refine Qz (fun h=>?_) (fun h=>?_)
 ·have h:a<b:=Wj h;rw[Wi h] at k;refine⟨_,Z,_,Z,_,_,Z,Z,_,Z,Qz (fun h1=>?_) (fun h1=>?_)⟩
  ·refine⟨_,Z,_,Z,_,_,Z,Z,?_⟩;lia
  lia
 ·have h:¬ a<b:=fun z=>h (Wk z);rw[Wh h] at k;refine⟨_,Z,_,Z,_,_,Z,Z,_,Z,Qz (fun h1=>?_) (fun h1=>?_)⟩
  ·refine⟨_,Z,_,Z,_,_,Z,Z,?_⟩;lia
  lia
structure bu(P:Program)(w:World)(K:xB)(mg:Str->Option Value)(base:Heap)(k:Nat)(x:Str)(ps:List Str)(sp:Sp):Prop where
 ex:∃(f:Addr)(fd:FuncData),mg x=some (.ref f)/\GU K (.ref f)=true/\Xu K fd ps []/\QC P w K mg base bD k f fd ps sp
theorem Qs{X:Cx}{k:Nat}{x:Str}{ps:List Str}{sp:Sp}{p pos:Pos}{e:Expr}{es:List Expr}{t:TA}(D:bu X.prog X.w X.K X.mg X.base k x ps sp)(hr:ZJ k X.A) (z:PA X (e::es) t) (B:Gl X x:=by rfl)
  (j:(x==("__debug__" : Str))=false:=by decide) (G:starEach (e::es) X.env=(false,eval e X.env)::starEach es X.env:=by rfl) (n:(backTo pos (starEach es X.env)).any (·.1)=false:=by rfl) :
  PE X (.Call (.Name x p) (e::es) [] pos) (mf sp [] E0 t):=by
 obtain⟨f,fd,I,hk,J,F⟩:=D.ex;exact wx F hr B I hk J .nil Zc z j G n
theorem mX(F:bG K "comes_behind" "comes_behind" jO f fd):QC P w K mg base bD 1 f fd ["later","earlier"] (J5 K):=by
 apply F.bM sY;rintro _ H Q E ⟨a,b,p,q,rfl,j,n,k⟩;refine⟨Z,fun _ _ _ _ _=>?_⟩
 refine⟨_,Qb (QD (Qt qb (Q6 0) (Q6 1) (Qo _)) (Qd (Qj (QM Zn (Q6 0) (Q6 1) (Qo _)))) Qq)
  (Qd (Qj (QM Zn (QX 0) (QX 1) (Qo _)))),?_⟩
 refine⟨a,_,_,Z,j,b,_,_,Z,n,Z,_,Z,?_⟩;unfold Pt.below at k;refine Qz (fun h=>?_) (fun h=>?_)
 ·have h:¬ (p.y:Int)=q.y:=by simpa using h
  refine⟨a,_,_,Z,j,b,_,_,Z,n,_,_,Z,Z,?_⟩
  have e:(decide (q.y<p.y)||q.y==p.y&&decide (q.x<p.x))=decide ((q.y:Int)<p.y):=by rw[Gu];simp;lia
  rw[e]at k;exact k
 ·have h:(p.y:Int)=q.y:=by simpa using h
  refine⟨a,_,_,Z,j,b,_,_,Z,n,_,_,Z,Z,?_⟩
  have e:(decide (q.y<p.y)||q.y==p.y&&decide (q.x<p.x))=decide ((q.x:Int)<p.x):=by rw[Gu];simp;lia
  rw[e]at k;exact k
theorem El(F:bG K "is_on" "is_on" ID f fd)(B:bu P w K mg base 1 "is_between" ["number","one","other"] sS) (T:bu P w K mg base 1 "turn" ["first","second","third"] (JP K)) :
  QC P w K mg base bD 2 f fd ["point","start","end"] (uT K):=by
 apply F.bM KO;rintro _ H Q E ⟨a,b,c,r,p,q,rfl,j,n,hc,sp,sq,z,k⟩;refine⟨Z,fun _ _ _ _ hr=>?_⟩
 refine⟨_,Qb (QD (Xq (X7 (Zd (Qs B hr (Qa (Q6 0) (Qa (Q6 1) (Qa (Q6 2) Qc))))))
   (ZM (X7 (Zd (Qs B hr (Qa (QX 0) (Qa (QX 1) (Qa (QX 2) Qc)))))))).pt
   (Qd (Qj Xh)) Qq)
  (Qd (Qj (QM XM (Qs T hr (Qa (pv 1) (Qa (pv 2) (Qa (pv 0) Qc)))) Qi (Qo _)))),?_⟩
 rw[Pl.u6]at k;refine⟨a,_,_,Z,j,b,_,_,Z,n,c,_,_,Z,hc,_,_,_,Z,_,Z,Qz (fun h1=>ZG ?_) (fun h1=>?_)⟩
 ·rw[h1,Bool.true_or,Wi Z]at k;exact k
 ·have h1:(!Pl.cA r.y p.y q.y)=false:=by simpa using h1
  rw[h1,Qb2]at k;refine⟨a,_,_,Z,j,b,_,_,Z,n,c,_,_,Z,hc,_,_,_,Z,_,Z,Qz (fun h2=>?_) (fun h2=>?_)⟩
  ·rw[Wi h2]at k;exact k
  ·rw[Wh h2] at k;refine⟨_,Z,_,Z,_,Z,b,c,a,p,q,r,Z,n,hc,j,sp,sq,z,Z,?_⟩
   have e:decide (V.int (xN p q r)=V.int 0)=decide (xN p q r=0):=by lia
   lia
theorem p7(F:bG K "parts" "parts" lu f fd) (T:bu P w K mg base 1 "turn" ["first","second","third"] (JP K)) :
  QC P w K mg base bD 2 f fd ["start","end","one","other"] (jE K):=by
 apply F.bM jL;rintro _ H Q E ⟨a,b,c,d,p,q,r,z,rfl,j,n,hc,hd,sp,sq,B,sz,k⟩;refine⟨Z,fun _ _ _ _ hr=>?_⟩
 refine⟨_,Qb (bA 4 jL.nd (Qs T hr (Qa (pv 0) (Qa (pv 1) (Qa (pv 2) Qc)))))
  (Qb (QD (Qt XM (pv 4) Qi (Qo _)) (Qd (Qj Xh)) Qq)
  (Qb (bA 5 jL.nd (Qs T hr (Qa (pv 0) (Qa (pv 1) (Qa (pv 3) Qc)))))
  (Qd (Qj (Y6 (QM qb (pv 5) Qi (Qo _)) (Y5 (QM qb (QM Zn (pv 4) Qi (Qo _)) (QM Zn (pv 5) Qi (Qo _)) (Qo _)))))))),?_⟩
 unfold Pl.dm at k;refine⟨_,Z,_,Z,_,Z,a,b,c,p,q,r,Z,j,n,hc,sp,sq,B,?_⟩;refine⟨_,Z,Z,_,Z,Qz (fun h1=>?_) (fun h1=>?_)⟩
 ·have h1:xN p q r=0:=by simpa using h1
  rw[Wi h1]at k;exact k
 ·have h1:¬ xN p q r=0:=by simpa using h1
  rw[Wh h1]at k;refine⟨_,Z,_,Z,_,Z,a,b,d,p,q,z,Z,j,n,hd,sp,sq,sz,?_⟩;refine⟨_,Z,Z,_,Z,Qz (fun h2=>?_) (fun h2=>?_)⟩
  ·have h2:¬ xN p q z=0:=by simpa using h2
   rw[Wh h2]at k;refine⟨_,Z,_,_,Z,Z,_,Z,_,_,Z,Z,Z,?_⟩
   have e:(!decide (V.bl (decide (0<xN p q r))=V.bl (decide (0<xN p q z))))=(decide (0<xN p q r) != decide (0<xN p q z)):=by cases decide (0<xN p q r)<;>cases decide (0<xN p q z)<;>rfl
   rw[<-e]at k;exact k
  ·have h2:xN p q z=0:=by simpa using h2
   rw[Wi h2]at k;exact k
theorem rm(F:bG K "crosses" "crosses" kU f fd) (T:bu P w K mg base 2 "parts" ["start","end","one","other"] (jE K)) :
  QC P w K mg base bD 3 f fd ["start","end","other_start","other_end"] (jG K):=by
 apply F.bM u7;rintro _ H Q E ⟨a,b,c,d,p,q,r,z,rfl,j,n,hc,hd,sp,sq,B,sz,k⟩;refine⟨Z,fun _ _ _ _ hr=>?_⟩;refine⟨_,Qd (Qj (Y6 (Qs T hr (Qa (pv 0) (Qa (pv 1) (Qa (pv 2) (Qa (pv 3) Qc))))) (Y5 (Qs T hr (Qa (pv 2) (Qa (pv 3) (Qa (pv 0) (Qa (pv 1) Qc)))))))),?_⟩;rw[Pl.eR]at k;refine⟨_,Z,_,Z,_,Z,_,Z,a,b,c,d,p,q,r,z,Z,j,n,hc,hd,sp,sq,B,sz,_,Z,Qz (fun h1=>?_) (fun h1=>?_)⟩
 ·rw[h1,UD]at k;exact⟨_,Z,_,Z,_,Z,_,Z,c,d,a,b,r,z,p,q,Z,hc,hd,j,n,B,sz,sp,sq,k⟩
 lia
end
theorem Qn.tup{H H':Hp}{xs:List V}(e:Qn H H')(h:bY K H a xs):bY K H' a xs:=by
 rcases h with(h|⟨o,h⟩)|h
 ·exact .inl (.inl (e _ _ h))
 ·exact .inl (.inr ⟨o,e _ _ h⟩)
 ·exact .inr h
theorem Qk{H:Hp}{l:Addr}(o:HO)(h:H l=none):Qn H (upd H l o):=fun b u e=>by rw[Qh (Qg e h)];exact e
def cF(l:Addr)(H H':Hp):Prop:=∀b o,H b=some o->b≠l->H' b=some o
theorem cF.same{j H H':Hp}{l:Addr}(k:cF l H H')(hl:j l=none)(s:Qn j H):Qn j H':=fun b o e=>k b o (s b o e) (Qg e hl)
def GI(mg:Str->Option Value)(x:Str)(n:Int):Prop:=∃t,mg x=some (Value.int n t)
theorem QP{X:Cx}{x:Str}{n:Int}{pos:Pos}(h:GI X.mg x n)(j:Gl X x:=by rfl) (hd:(x==("__debug__" : Str))=false:=by decide):PE X (.Name x pos) (tC (.int n)):=by obtain⟨t,h⟩:=h;exact Zo j h ⟨t,Z⟩ hd
structure qZ(K:xB)(H:Hp)(l:Addr)(as:List Addr) (ps:List WA):Prop where
 lst:ba K H l (as.map V.ref)
 len:as.length=ps.length
 at_:∀(i:Nat)(a:Addr)(p:WA),as[i]?=some a->ps[i]?=some p->H a=some (.tup [.int (p.1:Int),.int (p.2:Int)])
theorem qZ.same{H H':Hp}{l:Addr}{as:List Addr} {ps:List WA} (h:qZ K H l as ps) (e:Qn H H'):qZ K H' l as ps:=
 ⟨e.seq h.lst,h.len,fun i a p h1 h2=>e _ _ (h.at_ i a p h1 h2)⟩
def Xf(b:xC)(p st n j:Nat):List WA:=(xP n).map (fun i=>(xI b (p+st*i) j,xI b (p+st*i+j) j))
theorem jW(b:xC)(p st n j:Nat):Xf b p st (n+1) j=Xf b p st n j++[(xI b (p+st*n) j,xI b (p+st*n+j) j)]:=by simp[Xf,U1]
theorem XJ(b:xC)(p st n j:Nat):(Xf b p st n j).length=n:=by simp[Xf]
abbrev iT:Stmt:=top 12
inductive jF(K:xB)(vs:List V)(H:Hp)(Q:VK)(E:XK):Prop
 |mk (a:Addr) (b:xC) (p st n wd:Nat) (i0 i1 i2 i3:Int):vs=[.ref a,.int i0,.int i1,.int i2,.int i3]->i0=(p:Int)->i1=(st:Int)->i2=(n:Int)->i3=(wd:Int)->ba K H a (bl b)->n<=65536->st<=1000->(∀H' l as,Qn H H'->qZ K H' l as (Xf b p st n wd)->Q (.ref l) H')->jF K vs H Q E
theorem zm:a7 ["octets","place","step","count","size","pairs","number","start"] ["octets","place","step","count","size"] (a6 iT):=.mk'
theorem qh{α:Type}{l:List α}{x y:α}{i:Nat} (h:(l++[x])[i]?=some y):(i<l.length/\l[i]?=some y)\/(i=l.length/\y=x):=by grind
section
theorem rY(F:bG K "pairs_at" "pairs_at" iT f fd)(T:Txt K mg) (N:bu P w K mg base 1 "number_at" ["octets","place","size"] (JF K)) :
  QC P w K mg base bD 2 f fd ["octets","place","step","count","size"] (jF K):=by
 apply F.bM zm;rintro _ H Q E ⟨a,b,p,st,n,I,i0,i1,i2,i3,rfl,rfl,rfl,rfl,rfl,hS,hn,ad,k⟩;refine⟨Z,fun _ _ _ _ hr=>?_⟩
 refine⟨_,Qb (bA 5 zm.nd (QU Qc))
  (Qb (QL PassesOwn.never Z (Jq Z T.range (Qa (pv 3) Qc)) (b0 6 zm.nd)
   (Qb (bA 7 zm.nd (QA QV (pv 1) (QA ZN (pv 2) (pv 6))))
   (Qd (Zf (Xg xX GA GB ZD (pv 5)
    (Qa (Ze (Qa (Qs N hr (Qa (pv 0) (Qa (pv 7) (Qa (pv 4) Qc)))) (Qa (Qs N hr (Qa (pv 0) (Qa (QA QV (pv 7) (pv 4)) (Qa (pv 4) Qc)))) Qc))) Qc))))))
  (Qd (Qj (pv 5)))),?_⟩
 refine⟨x9 _,fun l hl=>?_⟩;have s0:=Qk (.lst []) hl
 refine⟨_,Z,_,Z,by lia,by lia,Jv (lo:=0) (n:=((n:Nat):Int).toNat) (fun i σ H'=>Ds fun(v6 v7:Option V) (as:List Addr)=>K9 (σ=[some (.ref a),some (.int p),some (.int st),some (.int n),some (.int I),some (.ref l),v6,v7]) (Qn H H') (i<=n) (H' l=some (.lst (as.map V.ref))) (as.length=i) (∀(j:Nat)(c:Addr)(q:WA),as[j]?=some c->(Xf b p st i I)[j]?=some q->H' c=some (.tup [.int (q.1:Int),.int (q.2:Int)])))
  ⟨none,none,[],Z,s0,x9 _,Qe,Z,fun j c q h=>by simp at h⟩ ?_ ?_⟩
 ·rintro i σ H1 hi ⟨v6,v7,as,rfl,U,aa,G,B,J⟩;rw[Uc] at hi;refine⟨_,Z,_,Z,_,Z,_,_,Z,Z,.inl ⟨by lia,by lia⟩,_,_,Z,Z,?_⟩;have ep:(p:Int)+(st:Int)*(0+(i:Int))=((p+st*i:Nat):Int):=by rw[Qbv,Int.natCast_mul,Int.zero_add]
  refine⟨_,Z,.inl ⟨Z,_,ba.of G⟩,_,Z,_,Z,_,Z,a,b,p+st*i,I,_,_,Z,ep,Z,U.seq hS,fun H2 s2=>?_⟩;refine⟨_,Z,_,Z,_,Z,_,_,Z,Z,_,Z,a,b,p+st*i+I,I,_,_,Z,(by show(p:Int)+(st:Int)*(0+(i:Int))+(I:Int)=_;rw[ep,Qbv (p+st*i)]),Z,s2.seq (U.seq hS),fun H3 s3=>?_⟩;refine⟨(by show 2<=sizeLine;decide),fun t ht=>?_⟩;have O:=s2.trans s3;have ab:l≠t:=Qg (O _ _ G) ht;have s4:=Qk (.tup [.int ((xI b (p+st*i) I:Nat):Int),.int ((xI b (p+st*i+I) I:Nat):Int)]) ht;refine⟨l,_,_,Z,Z,(by rw[Qh ab];exact O _ _ G),(by rw[xD,B];exact xZ (xM aa hn) Wa),?_⟩
  have kp:cF l H1 (upd (upd H3 t (.tup [.int ((xI b (p+st*i) I:Nat):Int),.int ((xI b (p+st*i+I) I:Nat):Int)])) l (.lst (as.map V.ref++[V.ref t]))):=fun c o e ac=>by
   rw[Qh ac,Qh (Qg (O _ _ e) ht)];exact O _ _ e
  refine⟨_,_,as++[t],Z,kp.same hl U,hi,?_,by simp[B],?_⟩
  ·rw[Qe,Gs];rfl
  ·intro j c q hj hq;rw[jW] at hq;rcases qh hj with ⟨h1,h2⟩ | ⟨h1,h2⟩
   ·rw[GY (by rw[XJ];lia)]at hq;exact kp _ _ (J j c q h2 hq) (YI (J j c q h2 hq) G (by intro z;cases z))
   ·subst h2;rcases qh hq with ⟨h3,_⟩ | ⟨_,h4⟩
    ·rw[XJ]at h3;lia
    ·subst h4;rw[Qh (fun e=>ab e.symm),Qe]
 ·rintro σ H1 ⟨v6,v7,as,rfl,U,aa,G,B,J⟩;rw[Uc]at B J;refine⟨_,Z,?_⟩;exact k H1 l as U ⟨ba.of G,by rw[B,XJ],J⟩
end
def df(w h:Nat)(lp ll lm:Addr):List (Str×V):=Zu "marks" (.ref lm) (Zu "lines" (.ref ll) (Zu "points" (.ref lp) (Zu "height" (.int (h:Int)) (Zu "width" (.int (w:Int)) []))))
theorem tY(w h:Nat)(lp ll lm:Addr):(df w h lp ll lm).lookup ("width" : Str)=some (.int (w:Int)):=by unfold df;rw[Qu,Wh Wb,Qu,Wh Wb,Qu,Wh Wb,Qu,Wh Wb,Qu,Wi Z]
theorem rK(w h:Nat)(lp ll lm:Addr):(df w h lp ll lm).lookup ("height" : Str)=some (.int (h:Int)):=by unfold df;rw[Qu,Wh Wb,Qu,Wh Wb,Qu,Wh Wb,Qu,Wi Z]
theorem XN(w h:Nat)(lp ll lm:Addr):(df w h lp ll lm).lookup ("points" : Str)=some (.ref lp):=by unfold df;rw[Qu,Wh Wb,Qu,Wh Wb,Qu,Wi Z]
theorem yr(w h:Nat)(lp ll lm:Addr):(df w h lp ll lm).lookup ("lines" : Str)=some (.ref ll):=by unfold df;rw[Qu,Wh Wb,Qu,Wi Z]
theorem sQ(w h:Nat)(lp ll lm:Addr):(df w h lp ll lm).lookup ("marks" : Str)=some (.ref lm):=by unfold df;rw[Qu,Wi Z]
theorem Xs(w h:Nat)(lp ll lm:Addr){m:Str}(h1:¬m = "marks")(h2:¬m = "lines")(j:¬m = "points")(n:¬m = "height")(z:¬m = "width"):(df w h lp ll lm).lookup m=none:=by unfold df;rw[Qu,Wh h1,Qu,Wh h2,Qu,Wh j,Qu,Wh n,Qu,Wh z];all_goals rfl
def xy(p:Pt):WA:=(p.x,p.y)
structure Dw(K:xB)(C:Addr)(H:Hp)(d:Addr)(S:Plan)(dx lp ll lm:Addr)(ap al am:List Addr):Prop where
 ins:H d=some (.ins C dx (df S.w S.h lp ll lm))
 pts:qZ K H lp ap (S.pts.map xy)
 cG:qZ K H ll al S.lines
 mrk:qZ K H lm am (S.marks.map fun m=>xy m.at_)
theorem Dw.same{H H':Hp}{d:Addr}{S:Plan}{dx lp ll lm:Addr}{ap al am:List Addr}(D:Dw K C H d S dx lp ll lm ap al am)(e:Qn H H'):Dw K C H' d S dx lp ll lm ap al am:=
 ⟨e _ _ D.ins,D.pts.same e,D.cG.same e,D.mrk.same e⟩
structure Xc(K:xB)(mg:Str->Option Value)(C:Addr):Prop where
 cl:pC K C
 nW:Q8 K C "width"
 nH:Q8 K C "height"
 nP:Q8 K C "points"
 nL:Q8 K C "lines"
 nM:Q8 K C "marks"
 mgC:mg "Drawing" = some (.ref C)
 g20:GI mg "HEAD_BYTES_drawing" 20
 g8:GI mg "POINT_BYTES" 8
 g4:GI mg "LINE_BYTES" 4
 g12:GI mg "MARK_BYTES" 12
abbrev mB:Stmt:=inClass (top 11) 0
abbrev Ib:Stmt:=inClass (top 11) 1
abbrev HE:Stmt:=inClass (top 11) 2
abbrev KL:Stmt:=inClass (top 11) 3
abbrev HM:Stmt:=inClass (top 11) 4
abbrev Hv:Stmt:=inClass (top 11) 5
inductive i9(C:Addr)(vs:List V)(H:Hp)(Q:VK)(E:XK):Prop
 |mk (p dx:Addr) (i j:Int) (w h:Nat) (lp ll lm:Addr):vs=[.ref p,.int i,.int j,.ref lp,.ref ll,.ref lm]->i=(w:Int)->j=(h:Int)->H p=some (.ins C dx [])->(∀H':Hp,H' p=some (.ins C dx (df w h lp ll lm))->cF p H H'->Q .bQ H')->i9 C vs H Q E
inductive gW(vs:List V)(H:Hp)(Q:VK)(E:XK):Prop
 |mk (d:V) (i:Int) (n:Nat):vs=[d,.int i]->i=(n:Int)->Q (.int ((20+8*n:Nat):Int)) H->gW vs H Q E
inductive lq(K:xB)(C:Addr)(vs:List V)(H:Hp)(Q:VK)(E:XK):Prop
 |mk (d:Addr) (i:Int) (n:Nat) (S:Plan) (dx lp ll lm:Addr) (ap al am:List Addr):vs=[.ref d,.int i]->i=(n:Int)->Dw K C H d S dx lp ll lm ap al am->Q (.int ((UE S n:Nat):Int)) H->lq K C vs H Q E
inductive nO(K:xB)(C:Addr)(vs:List V)(H:Hp)(Q:VK)(E:XK):Prop
 |mk (d:Addr) (i:Int) (n:Nat) (S:Plan) (dx lp ll lm:Addr) (ap al am:List Addr):vs=[.ref d,.int i]->i=(n:Int)->Dw K C H d S dx lp ll lm ap al am->Q (.int ((Vd S n:Nat):Int)) H->nO K C vs H Q E
inductive BO(K:xB)(C:Addr)(vs:List V)(H:Hp)(Q:VK)(E:XK):Prop
 |mk (d:Addr) (S:Plan) (dx lp ll lm:Addr) (ap al am:List Addr):vs=[.ref d]->Dw K C H d S dx lp ll lm ap al am->Q (.int ((S.size:Nat):Int)) H->BO K C vs H Q E
theorem BP:a7 ["self","width","height","points","lines","marks"] ["self","width","height","points","lines","marks"] (a6 mB):=.mk'
theorem HL:a7 ["self","number"] ["self","number"] (a6 Ib):=.mk'
theorem IE:a7 ["self","number"] ["self","number"] (a6 HE):=.mk'
theorem HN:a7 ["self","number"] ["self","number"] (a6 KL):=.mk'
theorem Kt:a7 ["self"] ["self"] (a6 HM):=.mk'
structure XS(P:Program)(w:World)(K:xB)(mg:Str->Option Value)(base:Heap)(C:Addr)(k:Nat)(m:Str)(ps:List Str)(sp:Sp):Prop where
 ex:∃(f:Addr)(fd:FuncData),Meth K C m f/\Xu K fd ps []/\QC P w K mg base bD k f fd ps sp
theorem wq(F:bG K "__init__" "Drawing.__init__" mB f fd)(T:Xc K mg C):QC P w K mg base bD 1 f fd ["self","width","height","points","lines","marks"] (i9 C):=by apply F.bM BP;rintro _ H Q E ⟨p,dx,i,j,w,h,lp,ll,lm,rfl,rfl,rfl,z,k⟩;refine⟨Z,fun _ _ _ _ _=>?_⟩;refine⟨_,Qb (Y3 (pv 0) (pv 1) Z) (Qb (Y3 (pv 0) (pv 2) Z) (Qb (Y3 (pv 0) (pv 3) Z) (Qb (Y3 (pv 0) (pv 4) Z) (Qd (Y3 (pv 0) (pv 5) Z))))),?_⟩;refine⟨_,Z,_,Z,p,C,dx,_,Z,z,T.cl,T.nW,(by show 0<1000;decide),?_⟩;refine⟨_,Z,_,Z,p,C,dx,_,Z,Qe,T.cl,T.nH,(by show 1<1000;decide),?_⟩;refine⟨_,Z,_,Z,p,C,dx,_,Z,Qe,T.cl,T.nP,(by show 2<1000;decide),?_⟩;refine⟨_,Z,_,Z,p,C,dx,_,Z,Qe,T.cl,T.nL,(by show 3<1000;decide),?_⟩;refine⟨_,Z,_,Z,p,C,dx,_,Z,Qe,T.cl,T.nM,(by show 4<1000;decide),?_⟩;refine k _ Qe fun b o e n=>?_;rw[Qh n,Qh n,Qh n,Qh n,Qh n];exact e
theorem D0(F:bG K "point_place" "Drawing.point_place" Ib f fd)(T:Xc K mg C):QC P w K mg base bD 1 f fd ["self","number"] gW:=by apply F.bM HL;rintro _ H Q E ⟨d,i,n,rfl,rfl,k⟩;refine⟨Z,fun _ _ _ _ _=>?_⟩;refine⟨_,Qd (Qj (QA QV (QP T.g20) (QA ZN (QP T.g8) (pv 1)))),?_⟩;refine⟨_,Z,_,_,Z,Z,.inl ⟨by decide,by decide⟩,_,_,Z,Z,?_⟩;lia
theorem EI(F:bG K "line_place" "Drawing.line_place" HE f fd)(T:Xc K mg C)(U:Txt K mg)(M:XS P w K mg base C 1 "point_place" ["self","number"] gW):QC P w K mg base bD 2 f fd ["self","number"] (lq K C):=by
 obtain⟨I,j,z,B,G⟩:=M.ex;apply F.bM IE;rintro _ H Q E ⟨d,i,n,S,dx,lp,ll,lm,ap,al,am,rfl,rfl,D,k⟩;refine⟨Z,fun _ _ _ _ hr=>?_⟩;refine⟨_,Qd (Qj (QA QV (Q5 (pv 0) T.cl z G hr B .nil Zc (Qa (Qx Qp Wg U.len Wx (Qa (Qw (pv 0) Z) Qc)) Qc)) (QA ZN (QP T.g4) (pv 1)))),?_⟩
 refine⟨_,Z,d,dx,_,Z,D.ins,Xs _ _ _ _ _ Wb Wb Wb Wb Wb,_,Z,d,C,dx,_,_,Z,D.ins,T.cl,T.nP,XN _ _ _ _ _,lp,_,Z,.inl D.pts.lst,
  _,_,S.pts.length,Z,(by rw[xD,D.pts.len,xD]),_,Z,_,_,Z,Z,.inl ⟨by decide,by decide⟩,_,_,Z,Z,?_⟩
 have e:((UE S n:Nat):Int)=((20+8*S.pts.length:Nat):Int)+4*(n:Int):=by unfold UE Qb9;lia
 rw[e]at k;exact k
theorem Dz(F:bG K "mark_place" "Drawing.mark_place" KL f fd)(T:Xc K mg C)(U:Txt K mg) (M:XS P w K mg base C 2 "line_place" ["self","number"] (lq K C)):QC P w K mg base bD 3 f fd ["self","number"] (nO K C):=by
 obtain⟨I,j,z,B,G⟩:=M.ex;apply F.bM HN;rintro _ H Q E ⟨d,i,n,S,dx,lp,ll,lm,ap,al,am,rfl,rfl,D,k⟩;refine⟨Z,fun _ _ _ _ hr=>?_⟩;refine⟨_,Qd (Qj (QA QV (Q5 (pv 0) T.cl z G hr B .nil Zc (Qa (Qx Qp Wg U.len Wx (Qa (Qw (pv 0) Z) Qc)) Qc)) (QA ZN (QP T.g12) (pv 1)))),?_⟩
 refine⟨_,Z,d,dx,_,Z,D.ins,Xs _ _ _ _ _ Wb Wb Wb Wb Wb,_,Z,d,C,dx,_,_,Z,D.ins,T.cl,T.nL,yr _ _ _ _ _,ll,_,Z,.inl D.cG.lst,
  d,_,S.lines.length,S,dx,lp,ll,lm,ap,al,am,Z,(by rw[xD,D.cG.len]),D,_,Z,_,_,Z,Z,.inl ⟨by decide,by decide⟩,_,_,Z,Z,?_⟩
 have e:((Vd S n:Nat):Int)=((UE S S.lines.length:Nat):Int)+12*(n:Int):=by unfold Vd UE Qb9;lia
 rw[e]at k;exact k
theorem Eo(F:bG K "byte_count" "Drawing.byte_count" HM f fd)(T:Xc K mg C)(U:Txt K mg) (M:XS P w K mg base C 3 "mark_place" ["self","number"] (nO K C)):QC P w K mg base bD 4 f fd ["self"] (BO K C):=by
 obtain⟨B,j,n,z,G⟩:=M.ex;apply F.bM Kt;rintro _ H Q E ⟨d,S,dx,lp,ll,lm,ap,al,am,rfl,D,k⟩;refine⟨Z,fun _ _ _ _ hr=>?_⟩;refine⟨_,Qd (Qj (Q5 (pv 0) T.cl n G hr z .nil Zc (Qa (Qx Qp Wg U.len Wx (Qa (Qw (pv 0) Z) Qc)) Qc))),?_⟩
 exact⟨_,Z,d,dx,_,Z,D.ins,Xs _ _ _ _ _ Wb Wb Wb Wb Wb,_,Z,d,C,dx,_,_,Z,D.ins,T.cl,T.nM,sQ _ _ _ _ _,lm,_,Z,.inl D.mrk.lst,
  d,_,S.marks.length,S,dx,lp,ll,lm,ap,al,am,Z,(by rw[xD,D.mrk.len,xD]),D,k⟩
def ni(l:List Nat):List V:=l.map (fun(n:Nat)=>V.int (n:Int))
def ZO (ls:List WA) (v:Nat):List Nat:=ls.filterMap fun(l:WA)=>if l.1=v then some l.2 else if l.2=v then some l.1 else none
structure Bs(H0 H:Hp)(b:Addr)(as:List Addr) (ns:List (List Nat)):Prop where
 lst:H b=some (.lst (as.map V.ref))
 nd:as.Nodup
 len:as.length=ns.length
 at_:∀(i:Nat)(a:Addr)(l:List Nat),as[i]?=some a->ns[i]?=some l->H a=some (.lst (ni l))
 fr:∀a∈as,H0 a=none
 nb:b∉as
theorem Bs.app{F H:Hp}{b:Addr}{as:List Addr} {ns:List (List Nat)} (B:Bs F H b as ns) {j:Nat} {l:List Nat} (z:as[j]?=some a) (hl:ns[j]?=some l) (x:Nat) :
  Bs F (upd H a (.lst (ni l++[V.int (x:Int)]))) b as (ns.set j (l++[x])):=by
 have G:a∈as:=x6 z;have I:j<ns.length:=(List.getElem?_eq_some_iff.1 hl).1;refine⟨?_,B.nd,by rw[Qbt];exact B.len,?_,B.fr,B.nb⟩
 ·rw[Qh (fun e=>B.nb (by rw[e];exact G))];exact B.lst
 ·intro i c m hi n;by_cases q:i=j
  ·subst q;have e:c=a:=Wo (hi.symm.trans z);subst e;rw[Us I]at n;rw[<-Wo n,Qe];simp[ni]
  ·rw[Uo (fun e=>q e.symm)]at n;have ne:c≠a:=fun e=>q (EX B.nd hi (by rw[e];exact z));rw[Qh ne];exact B.at_ i c m hi n
theorem Bs.same{n H:Hp}{b:Addr}{as:List Addr} {ns:List (List Nat)} (B:Bs n H b as ns) {j:Nat} (z:as[j]?=some a) (o:HO) (s:Qn n H):Qn n (upd H a o):=fun c u e=>by
 rw[Qh (Qg e (B.fr a (x6 z)))];exact s c u e
def nears(n:Nat) (ls:List WA):List (List Nat):=(xP n).map (ZO ls)
theorem ZC{n v:Nat} (ls:List WA) (h:v<n):(nears n ls)[v]?=some (ZO ls v):=by simp[nears,h]
theorem ZY(n:Nat) (ls:List WA):(nears n ls).length=n:=by simp[nears]
theorem kS{n:Nat} {ls:List WA} {l:WA} (h1:l.1<l.2) :
  ((nears n ls).set l.1 (ZO ls l.1++[l.2])).set l.2 (ZO ls l.2++[l.1])=nears n (ls++[l]):=by
 apply List.ext_getElem?;intro v;by_cases j:v<n
 ·rw[ZC (ls++[l]) j]
  have e:ZO (ls++[l]) v=ZO ls v++(if l.1=v then [l.2] else if l.2=v then [l.1] else []):=by unfold ZO;grind
  rw[e];by_cases z:l.2=v
  ·subst z;rw[Us (by rw[Qbt,ZY];exact j),Wh L,Wi Z]
  ·rw[Uo z];by_cases q:l.1=v
   ·subst q;rw[Us (by rw[ZY];exact j),Wi Z]
   ·rw[Uo q,ZC ls j,Wh q,Wh z];simp
 ·rw[Ue (by simp[nears];lia),Ue (by simp[nears];lia)]
structure yE(K:xB)(H:Hp)(b:Addr)(as:List Addr)(S:Plan):Prop where
 lst:ba K H b (as.map V.ref)
 len:as.length=S.pts.length
 at_:∀(v:Nat)(a:Addr),as[v]?=some a->ba K H a (ni (S.near v))
theorem yE.same{H H':Hp}{b:Addr}{as:List Addr}{S:Plan}(h:yE K H b as S)(e:Qn H H'):yE K H' b as S:=
 ⟨e.seq h.lst,h.len,fun v a j=>e.seq (h.at_ v a j)⟩
def X5(S:Plan):Prop:=∀l∈S.lines,l.1<l.2/\l.2<S.pts.length
def Jj(S:Plan):Prop:=S.pts.length<=65536/\S.lines.length<=65536/\S.marks.length<=65536
inductive oh(K:xB)(C:Addr)(vs:List V)(H:Hp)(Q:VK)(E:XK):Prop
 |mk (d:Addr) (S:Plan) (dx lp ll lm:Addr) (ap al am:List Addr):vs=[.ref d]->Dw K C H d S dx lp ll lm ap al am->X5 S->Jj S->(∀H' b as,Qn H H'->yE K H' b as S->Q (.ref b) H')->oh K C vs H Q E
theorem wg:a7 ["self","beside","line","point"] ["self"] (a6 Hv):=.mk'
theorem vV (ls:List WA) (v:Nat):(ZO ls v).length<=ls.length:=by unfold ZO;grind
theorem Dy(F:bG K "neighbours" "Drawing.neighbours" Hv f fd)(T:Xc K mg C):QC P w K mg base bD 1 f fd ["self"] (oh K C):=by
 apply F.bM wg;rintro _ H Q E ⟨d,S,dx,lp,ll,lm,ap,al,am,rfl,D,hL,hZ,k⟩;refine⟨Z,fun _ _ _ _ _=>?_⟩
 refine⟨_,Qb (gx (i:=1) (own:=[("point",3)]) Z wg.nd Z Z (lG Z Z Z Z) (Q4 (Qw (pv 0) Z)) (ZI (N:=["self","beside","line","point"]) (sc:=a6 Hv) Wb) (fun _ _ _ _ _=>b0 3 wg.nd) (fun _ _ _ _ _=>Jn) (fun _ _ _ _ _=>QU Qc))
  (Qb (QL PassesOwn.never Z (Q4 (Qw (pv 0) Z)) (b0 2 wg.nd)
   (Qb (Zf (Xg xX GA GB ZD (Qy QE (pv 1) (QX 2) (fun _ _=>rfl)) (Qa (Q6 2) Qc)))
   (Qd (Zf (Xg xX GA GB ZD (Qy QE (pv 1) (Q6 2) (fun _ _=>rfl)) (Qa (QX 2) Qc))))))
  (Qd (Qj (pv 1)))),?_⟩
 refine⟨_,Z,d,C,dx,_,_,Z,D.ins,T.cl,T.nP,XN _ _ _ _ _,lp,Z,⟨_,D.pts.lst⟩,fun b hb=>qe (K:=K) (a:=lp) (xs:=ap.map V.ref) (fun i H'=>∃as:List Addr,eC (Qn H H') (as.length=i) (Bs H H' b as (nears i [])))
  ⟨[],Qk _ hb,Z,Qe,by simp,by simp[nears],fun i a l h=>by simp at h,by simp,by simp⟩ (fun i H' _ ⟨_,U,_,_⟩=>(D.pts.same U).lst) ?_ ?_⟩
 ·rintro i x H1 hx ⟨as,U,n,B⟩;refine⟨Z,x9 _,fun c hc=>?_⟩;have ab:b≠c:=Qg B.lst hc;refine⟨as.map V.ref,by rw[Qh ab];exact B.lst,?_,?_⟩
  ·rw[xD,n]
   have:i<ap.length:=by grind
   have e:=D.pts.len;rw[xD]at e;exact x3 this (by rw[e];exact xM hZ.1 Wa)
  ·have fc:H c=none:=U.free hc
   have ac:c∉as:=fun m=>by
    obtain⟨j,hj⟩:=List.mem_iff_getElem?.1 m;have ai:=(List.getElem?_eq_some_iff.1 hj).1;have:=B.at_ j c (ZO [] j) hj (ZC [] L);lia
   refine⟨as++[c],fun z o e=>?_,by simp[n],?_,mG B.nd ac,by simp[ZY,n],?_,?_,?_⟩
   ·rw[Qh (Qg e hb),Qh (Qg e fc)];exact U z o e
   ·rw[Qe,Gs];rfl
   ·intro j a l hj hl;rcases qh hj with ⟨h1,h2⟩ | ⟨h1,h2⟩
    ·have ad:(nears i [])[j]?=some l:=by rw[ZC [] L] at hl ⊢;exact hl
     have:=B.at_ j a l h2 ad;rw[Qh (fun e=>B.nb (by rw[<-e];exact x6 h2)),Qh (fun e=>ac (by rw[<-e];exact x6 h2))];exact this
    ·subst h2;rw[ZC [] L]at hl;rw[<-Wo hl,Qh (fun e=>ab e.symm),Qe];rfl
   ·intro a ha;rcases List.mem_append.1 ha with h | h
    ·exact B.fr a h
    grind
   ·intro m;rcases List.mem_append.1 m with h | h
    ·exact B.nb h
    grind
 ·rintro H1 ⟨as,U,n,B⟩;have D1:=D.same U
  refine⟨_,Z,d,C,dx,_,_,Z,D1.ins,T.cl,T.nL,yr _ _ _ _ _,ll,Z,⟨_,D1.cG.lst⟩,Zs (K:=K) (a:=ll) (xs:=al.map V.ref) (fun i σ H'=>∃v2:Option V,eC (σ=[some (.ref d),some (.ref b),v2,none]) (Qn H H') (Bs H H' b as (nears S.pts.length (S.lines.take i))))
   ⟨none,Z,U,?_⟩ (fun i σ H' _ ⟨_,_,O,_⟩=>(D.same O).cG.lst) ?_ ?_⟩
  ·have e:(ap.map V.ref).length=S.pts.length:=by have e:=D.pts.len;rw[xD] at e;rw[xD,e]
   grind
  ·rintro i x σ H2 hx ⟨v2,rfl,O,I⟩
   obtain⟨c,hc,rfl⟩:∃c,al[i]?=some c/\x=V.ref c:=by
    rw[xL]at hx;cases e:al[i]? with
    |none=>rw[e]at hx;cases hx
    |some c=>rw[e]at hx;exact⟨c,Z,(Wo hx).symm⟩
   have D2:=D.same O;have aa:i<S.lines.length:=by rw[<-D.cG.len];exact(List.getElem?_eq_some_iff.1 hc).1
   have af:S.lines[i]?=some S.lines[i]:=xF aa;obtain⟨o1,o2⟩:=hL S.lines[i] (xR aa);have cT:=fun(H':Hp) (e:Qn H H')=>bY.of (K:=K) ((D.same e).cG.at_ i c _ hc af);have ah:as.length=S.pts.length:=by rw[I.len,ZY]
   obtain⟨a1,Cz⟩:∃a1,as[S.lines[i].1]?=some a1:=⟨as[S.lines[i].1]'(by lia),xF _⟩;obtain⟨a2,J⟩:∃a2,as[S.lines[i].2]?=some a2:=⟨as[S.lines[i].2]'(by lia),xF _⟩;have n1:=I.at_ _ a1 _ Cz (ZC _ L)
   have G:∀v,(ni (ZO (S.lines.take i) v)).length<sizeLine:=fun v=>by
    unfold ni;rw[xD];refine xZ (vV _ v) ?_;rw[Go];exact xZ (xM (Qac _ _) hZ.2.1) Wa
   refine⟨_,Z,c,_,_,Z,cT H2 O,b,_,_,_,Z,Z,ba.of I.lst,Qm (j:=S.lines[i].1) (v:=V.ref a1) (by rw[xL,Cz];rfl),.inl ⟨Z,_,ba.of n1⟩,c,_,_,Z,cT H2 O,a1,_,_,Z,Z,n1,G _,?_⟩;have B3:=I.app Cz (ZC _ L) S.lines[i].2;have s3:=I.same Cz (.lst (ni (ZO (S.lines.take i) S.lines[i].1)++[V.int (S.lines[i].2:Int)])) O
   have g2:((nears S.pts.length (S.lines.take i)).set S.lines[i].1 (ZO (S.lines.take i) S.lines[i].1++[S.lines[i].2]))[S.lines[i].2]?=some (ZO (S.lines.take i) S.lines[i].2):=by rw[Uo L,ZC _ o2]
   have n2:=B3.at_ _ a2 _ J g2;refine⟨_,Z,c,_,_,Z,cT _ s3,b,_,_,_,Z,Z,ba.of B3.lst,Qm (j:=S.lines[i].2) (v:=V.ref a2) (by rw[xL,J];rfl),.inl ⟨Z,_,ba.of n2⟩,c,_,_,Z,cT _ s3,a2,_,_,Z,Z,n2,G _,?_⟩;have B4:=B3.app J g2 S.lines[i].1;have s4:=B3.same J (.lst (ni (ZO (S.lines.take i) S.lines[i].2)++[V.int (S.lines[i].1:Int)])) s3;refine⟨_,Z,s4,?_⟩;rw[kS o1]at B4;have et:S.lines.take (i+1)=S.lines.take i++[S.lines[i]]:=by rw[Ug aa]
   lia
  ·rintro σ H2 ⟨v2,rfl,O,I⟩;refine⟨_,Z,?_⟩;have e:(al.map V.ref).length=S.lines.length:=by rw[xD,D.cG.len]
   rw[e,GC]at I;have ag:as.length=S.pts.length:=by rw[I.len,ZY]
   exact k H2 b as O ⟨ba.of I.lst,ag,fun v a hv=>ba.of (I.at_ v a _ hv (ZC _ (by have:=(List.getElem?_eq_some_iff.1 hv).1;lia)))⟩
theorem gz:∀(l:xC),Qb1 l<256 ^ l.length
 |[]=>by show 0<1;decide
 | c::r=>by
  have:=gz r;have h:=c.toNat_lt;show c.toNat+256*Qb1 r<256 ^ (r.length+1);rw[Nat.pow_succ];lia
theorem sI(b:xC)(p w:Nat):xI b p w<256 ^ w:=by unfold xI;refine x3 (gz _) (Nat.pow_le_pow_right Wa ?_);grind
theorem AZ(b:xC)(p:Nat):xI b p 2<65536:=sI b p 2
theorem FO(b:xC)(p:Nat):xI b p 4<4294967296:=sI b p 4
abbrev Bh:Stmt:=top 13
abbrev Bx:Stmt:=top 14
def ri(b:xC):List V:=[.int ((20:Nat):Int),.int ((20+8*xI b 12 2:Nat):Int),.int ((20+8*xI b 12 2+4*xI b 14 2:Nat):Int),.int ((20+8*xI b 12 2+4*xI b 14 2+12*xI b 16 2:Nat):Int)]
inductive gv(K:xB)(vs:List V)(H:Hp)(Q:VK)(E:XK):Prop
 |mk (a:Addr) (b:xC):vs=[.ref a]->ba K H a (bl b)->(∀H' t,Qn H H'->H' t=some (.tup (ri b))->Q (.ref t) H')->gv K vs H Q E
inductive l7(K:xB)(C:Addr)(vs:List V)(H:Hp)(Q:VK)(E:XK):Prop
 |mk (a:Addr) (b:xC):vs=[.ref a]->ba K H a (bl b)->(∀H' d dx lp ll lm ap al am,Qn H H'->Dw K C H' d (U5 b) dx lp ll lm ap al am->Q (.ref d) H')->l7 K C vs H Q E
theorem r8:a7 ["octets","lines","marks"] ["octets"] (a6 Bh):=.mk'
theorem Ah:a7 ["octets","places"] ["octets"] (a6 Bx):=.mk'
theorem mW(b:xC):(U5 b).pts.map xy=Xf b 20 8 (xI b 12 2) 4:=by show((xP (xI b 12 2)).map _).map xy=_;rw[VA];rfl
theorem fR(b:xC):(U5 b).lines=Xf b (20+8*xI b 12 2) 4 (xI b 14 2) 2:=rfl
theorem gG(b:xC):((U5 b).marks.map fun m=>xy m.at_)=Xf b (20+8*xI b 12 2+4*xI b 14 2) 12 (xI b 16 2) 4:=by show((xP (xI b 16 2)).map _).map _=_;rw[VA];rfl
theorem BW(F:bG K "row_places" "row_places" Bh f fd)(T:Xc K mg C) (N:bu P w K mg base 1 "number_at" ["octets","place","size"] (JF K)) :
  QC P w K mg base bD 2 f fd ["octets"] (gv K):=by
 apply F.bM r8;rintro _ H Q E ⟨a,b,rfl,n,k⟩;refine⟨Z,fun _ _ _ _ hr=>?_⟩
 refine⟨_,Qb (bA 1 r8.nd (QA QV (QP T.g20) (QA ZN (QP T.g8) (Qs N hr (Qa (pv 0) (Qa Qi (Qa Qi Qc)))))))
  (Qb (bA 2 r8.nd (QA QV (pv 1) (QA ZN (QP T.g4) (Qs N hr (Qa (pv 0) (Qa Qi (Qa Qi Qc)))))))
  (Qd (Qj (Ze (Qa (QP T.g20) (Qa (pv 1) (Qa (pv 2) (Qa (QA QV (pv 2) (QA ZN (QP T.g12) (Qs N hr (Qa (pv 0) (Qa Qi (Qa Qi Qc)))))) Qc)))))))),?_⟩
 refine⟨_,Z,a,b,12,2,_,_,Z,Z,Z,n,fun H1 z=>⟨_,_,Z,Z,.inl ⟨by decide,by decide⟩,_,_,Z,Z,?_⟩⟩;refine⟨_,Z,_,Z,a,b,14,2,_,_,Z,Z,Z,z.seq n,fun H2 B=>⟨_,_,Z,Z,.inl ⟨by decide,by decide⟩,_,_,Z,Z,?_⟩⟩;have j:=z.trans B;refine⟨_,Z,_,Z,_,Z,_,Z,a,b,16,2,_,_,Z,Z,Z,j.seq n,fun J G=>⟨_,_,Z,Z,.inl ⟨by decide,by decide⟩,_,_,Z,Z,(by show 4<=sizeLine;decide),fun t I=>?_⟩⟩;refine k _ t ((j.trans G).trans (Qk _ I)) ?_;rw[Qe];unfold ri;lia
theorem A'{f fI:Addr}{fd U:FuncData}(F:bG K "drawing_of" "drawing_of" Bx f fd)(T:Xc K mg C) (N:bu P w K mg base 1 "number_at" ["octets","place","size"] (JF K)) (Rw:bu P w K mg base 2 "row_places" ["octets"] (gv K))
  (R:bu P w K mg base 2 "pairs_at" ["octets","place","step","count","size"] (jF K)) (M:Mk K C fI) (bI:Xu K U ["self","width","height","points","lines","marks"] []) (G:QC P w K mg base bD 1 fI U ["self","width","height","points","lines","marks"] (i9 C)) :
  QC P w K mg base bD 3 f fd ["octets"] (l7 K C):=by
 apply F.bM Ah;rintro _ H Q E ⟨a,b,rfl,z,k⟩;refine⟨Z,fun _ _ _ _ hr=>?_⟩;have n:=hr.mono (j:=1) Wa
 refine⟨_,Qb (bA 1 Ah.nd (Qs Rw hr (Qa (pv 0) Qc)))
  (Qd (Qj (lT M G hr Z T.mgC bI .nil Zc
   (Qa (Qs N n (Qa (pv 0) (Qa Qi (Qa Qi Qc))))
   (Qa (Qs N n (Qa (pv 0) (Qa Qi (Qa Qi Qc))))
   (Qa (Qs R hr (Qa (pv 0) (Qa (Qy QO (pv 1) Qi (fun _ _=>rfl)) (Qa (QP T.g8) (Qa (Qs N n (Qa (pv 0) (Qa Qi (Qa Qi Qc)))) (Qa Qi Qc))))))
   (Qa (Qs R hr (Qa (pv 0) (Qa (Qy QO (pv 1) Qi (fun _ _=>rfl)) (Qa (QP T.g4) (Qa (Qs N n (Qa (pv 0) (Qa Qi (Qa Qi Qc)))) (Qa Qi Qc))))))
   (Qa (Qs R hr (Qa (pv 0) (Qa (Qy QO (pv 1) Qi (fun _ _=>rfl)) (Qa (QP T.g12) (Qa (Qs N n (Qa (pv 0) (Qa Qi (Qa Qi Qc)))) (Qa Qi Qc)))))) Qc)))))))),?_⟩
 have q1:=AZ b 12;have q2:=AZ b 14;have q3:=AZ b 16;refine⟨_,Z,a,b,Z,z,fun H2 t s2 ht=>?_⟩;refine⟨_,Z,a,b,4,4,_,_,Z,Z,Z,s2.seq z,fun H3 aa=>?_⟩;have s3:=s2.trans aa;refine⟨_,Z,a,b,8,4,_,_,Z,Z,Z,s3.seq z,fun H4 ab=>?_⟩;have s4:=s3.trans ab;have t4:=ab _ _ (aa _ _ ht);refine⟨_,Z,_,Z,t,_,_,_,Z,Z,bY.of t4,Qm (j:=0) Z,_,Z,a,b,12,2,_,_,Z,Z,Z,s4.seq z,fun ai ac=>?_⟩;have ad:=s4.trans ac;refine⟨a,b,20,8,xI b 12 2,4,_,_,_,_,Z,Z,Z,Z,Z,ad.seq z,by lia,by decide,fun H5 lp ap af A1=>?_⟩;have s5:=ad.trans af;have t5:=af _ _ (ac _ _ t4);refine⟨_,Z,_,Z,t,_,_,_,Z,Z,bY.of t5,Qm (j:=1) Z,_,Z,a,b,14,2,_,_,Z,Z,Z,s5.seq z,fun aj B=>?_⟩;have ag:=s5.trans B;refine⟨a,b,20+8*xI b 12 2,4,xI b 14 2,2,_,_,_,_,Z,Z,Z,Z,Z,ag.seq z,by lia,by decide,fun H6 ll al I A2=>?_⟩;have s6:=ag.trans I;have t6:=I _ _ (B _ _ t5);refine⟨_,Z,_,Z,t,_,_,_,Z,Z,bY.of t6,Qm (j:=2) Z,_,Z,a,b,16,2,_,_,Z,Z,Z,s6.seq z,fun H7 J=>?_⟩;have s7:=s6.trans J;refine⟨a,b,20+8*xI b 12 2+4*xI b 14 2,12,xI b 16 2,4,_,_,_,_,Z,Z,Z,Z,Z,s7.seq z,by lia,by decide,fun H8 lm am O A3=>?_⟩;have s8:=s7.trans O;intro x dx nx ah ne;refine⟨x,dx,_,_,xI b 4 4,xI b 8 4,lp,ll,lm,Z,Z,Z,Qe,fun H9 hx kp=>⟨Z,?_⟩⟩;have s9:Qn H8 H9:=Qn.made nx ah kp;refine k H9 x dx lp ll lm ap al am (s8.trans s9) ⟨hx,?_,?_,?_⟩
 ·rw[mW];exact A1.same ((((B.trans I).trans J).trans O).trans s9)
 ·rw[fR];exact A2.same ((J.trans O).trans s9)
 ·rw[gG];exact A3.same s9
end Gp
namespace L2
open PySem PySem.Spec PyProof.Rows
theorem Yp{K:xB}{a:Addr}{xs:List V}{p q:Nat}{tb:TS}{D:JE}{σ:St}{H:Hp}(j:Nat->St->Hp->Prop)(h0:j 0 σ H)(hl:∀i σ H,i<=xs.length->j i σ H->ba K H a xs)
  (I:∀i x σ H H',xs[i]?=some x->j i σ H->Qn H H'->tb { D with nx:=j (i+1),ct:=j (i+1),bk:=D.nx } ((σ.set p (some (.int (i:Int)))).set q (some x)) H') (hd:∀σ H,j xs.length σ H->D.nx σ H) :
  ∃W:Nat->Nat->St->Hp->Prop,(∃m,W 0 m σ H)/\∀i m σ H,W i m σ H->
   ((FD K a).stop i H/\D.nx σ H)\/((FD K a).go i H/\∃N:St->Hp->Prop,(∀B H',N B H'->∃G,G<m/\W (i+1) G B H')/\∀x H',(FD K a).yld i H x H'->yK K 2 (Z8 (Zz p) (Z8 (Zz q) xg)) x σ H' fun J H2=>tb { D with nx:=N,ct:=N,bk:=D.nx } J H2):=by
 refine⟨fun i m σ H=>m=xs.length-i/\i<=xs.length/\j i σ H,⟨xs.length,by simp,x9 _,h0⟩,?_⟩;rintro i m σ H ⟨rfl,hi,pv⟩;have F:=hl i σ H hi pv;by_cases n:i<xs.length
 ·refine .inr ⟨⟨xs,xs[i],F,by simp[n]⟩,j (i+1),fun B H' O=>⟨xs.length-(i+1),by lia,Z,n,O⟩,fun x H' y=>?_⟩;obtain⟨T,z,rfl,U,rfl,y⟩:=y;refine⟨T,_,Z,bY.of Qe,Z,_,_,Z,_,_,Z,Z,?_⟩;exact I i z σ H _ (y xs F) pv fun b o e=>by rw[Qh (Qg e U)];exact e
 ·have e:i=xs.length:=by lia
  subst e;exact .inl ⟨⟨xs,F,xO _⟩,hd σ H pv⟩
end L2
namespace Gp
open PySem PySem.Spec PyProof.Rows L2
open Gla (Pt Plan)
theorem Zq{α:Type}{p:Nat->α->Bool}{l:List α}{i:Nat}(hi:i<l.length)(h:p i l[i]=true) (z:∀j (n:j<i),p j (l[j]'(by lia))=false):Ge p l=some i:=by
 unfold Ge
 have:l.zipIdx.find? (fun(x:α×Nat)=>p x.2 x.1)=some (l[i],i):=by rw[Vf];refine⟨h,i,by simpa using hi,by simp,?_⟩;intro j n;have:=z j n;simp[this]
 rw[this];rfl
def JD:Option Nat->V
 |none=>.bQ
 |some n=>.int (n:Int)
theorem Zm{as:List Addr}{i:Nat}{x:V} (h:(as.map V.ref)[i]?=some x):∃c,as[i]?=some c/\x=V.ref c:=by grind
section
variable {H:Hp} {d:Addr} {S:Plan} {dx lp ll lm:Addr} {ap al am:List Addr}
theorem Dw.pt(D:Dw K C H d S dx lp ll lm ap al am){i:Nat}(j:ap[i]?=some a):∃h:i<S.pts.length,Xj K H a S.pts[i]:=by
 have hl:=D.pts.len;rw[xD]at hl;have hi:i<S.pts.length:=by rw[<-hl];exact(List.getElem?_eq_some_iff.1 j).1
 exact⟨hi,bY.of (D.pts.at_ i a (xy S.pts[i]) j (by rw[xL,xF hi];rfl))⟩
theorem Dw.eV(D:Dw K C H d S dx lp ll lm ap al am){i:Nat}(hi:i<S.pts.length):∃a,ap[i]?=some a/\Xj K H a S.pts[i]:=by have hl:=D.pts.len;rw[xD]at hl;obtain⟨a,j⟩:∃a,ap[i]?=some a:=⟨ap[i]'(by lia),xF _⟩;obtain⟨_,h⟩:=D.pt j;exact⟨a,j,h⟩
theorem Dw.ln(D:Dw K C H d S dx lp ll lm ap al am){i:Nat}(j:al[i]?=some a):∃h:i<S.lines.length,bY K H a [.int (S.lines[i].1:Int),.int (S.lines[i].2:Int)]:=by
 have hl:=D.cG.len;have hi:i<S.lines.length:=by rw[<-hl];exact(List.getElem?_eq_some_iff.1 j).1
 exact⟨hi,bY.of (D.cG.at_ i a S.lines[i] j (xF hi))⟩
theorem Dw.Ft(D:Dw K C H d S dx lp ll lm ap al am){i:Nat}(hi:i<S.lines.length):∃a,al[i]?=some a/\bY K H a [.int (S.lines[i].1:Int),.int (S.lines[i].2:Int)]:=by have hl:=D.cG.len;obtain⟨a,j⟩:∃a,al[i]?=some a:=⟨al[i]'(by lia),xF _⟩;obtain⟨_,h⟩:=D.ln j;exact⟨a,j,h⟩
theorem Dw.IV(D:Dw K C H d S dx lp ll lm ap al am){i:Nat}(j:am[i]?=some a):∃h:i<S.marks.length,Xj K H a S.marks[i].at_:=by
 have hl:=D.mrk.len;rw[xD]at hl;have hi:i<S.marks.length:=by rw[<-hl];exact(List.getElem?_eq_some_iff.1 j).1
 exact⟨hi,bY.of (D.mrk.at_ i a (xy S.marks[i].at_) j (by rw[xL,xF hi];rfl))⟩
theorem Dw.Kg(D:Dw K C H d S dx lp ll lm ap al am){i:Nat}(hi:i<S.marks.length):∃a,am[i]?=some a/\Xj K H a S.marks[i].at_:=by have hl:=D.mrk.len;rw[xD]at hl;obtain⟨a,j⟩:∃a,am[i]?=some a:=⟨am[i]'(by lia),xF _⟩;obtain⟨_,h⟩:=D.IV j;exact⟨a,j,h⟩
end
inductive XT(K:xB)(C:Addr)(ok:Plan->Prop)(f:Plan->Option Nat)(vs:List V)(H:Hp)(Q:VK)(E:XK):Prop
 |mk (d:Addr) (S:Plan) (dx lp ll lm:Addr) (ap al am:List Addr):vs=[.ref d]->Dw K C H d S dx lp ll lm ap al am->ok S->(∀H',Qn H H'->Q (JD (f S)) H')->XT K C ok f vs H Q E
def YG(S:Plan):Option Nat:=(Um (fun(p:Pt)=>decide (p.x<=S.w)&&decide (p.y<=S.h)) Pt.below S.pts).map Vc
def Yl(S:Plan):Option Nat:=(Um (fun(l:WA)=>decide (l.1<l.2)&&decide (l.2<S.pts.length)) Ui S.lines).map (UE S)
abbrev IP:Stmt:=top 23
abbrev Kc:Stmt:=top 24
abbrev Iv:Stmt:=top 25
theorem Cm:a7 ["drawing","number","point"] ["drawing"] (a6 IP):=.mk'
theorem Ka:a7 ["later","earlier"] ["later","earlier"] (a6 Kc):=.mk'
theorem CZ:a7 ["drawing","number","line"] ["drawing"] (a6 Iv):=.mk'
inductive Bp(K:xB)(vs:List V)(H:Hp)(Q:VK)(E:XK):Prop
 |mk (a b:Addr) (p q:WA):vs=[.ref a,.ref b]->bY K H a [.int (p.1:Int),.int (p.2:Int)]->bY K H b [.int (q.1:Int),.int (q.2:Int)]->Q (.bl (Ui q p)) H->Bp K vs H Q E
def qL(S:Plan)(i:Nat)(p:Pt):Bool:=!(decide (p.x<=S.w)&&decide (p.y<=S.h))||(decide (0<i)&&(match S.pts[i-1]? with
 |some y=>!y.below p
 |none=>false))
def qK(S:Plan)(i:Nat)(l:WA):Bool:=!(decide (l.1<l.2)&&decide (l.2<S.pts.length))||(decide (0<i)&&(match S.lines[i-1]? with
 |some y=>!Gla.lineBelow y l
 |none=>false))
theorem fD(S:Plan):YG S=(Ge (qL S) S.pts).map Vc:=by unfold YG Um;congr 2;funext i x;unfold qL;cases S.pts[i-1]?<;>rfl
theorem fY(S:Plan):Yl S=(Ge (qK S) S.lines).map (UE S):=by unfold Yl Um;congr 2;funext i x;unfold qK;cases S.lines[i-1]?<;>rfl
theorem D7(F:bG K "wrong_point" "wrong_point" IP f fd)(T:Xc K mg C)(U:Txt K mg)(M:XS P w K mg base C 1 "point_place" ["self","number"] gW) (B:bu P w K mg base 1 "comes_behind" ["later","earlier"] (J5 K)) :
  QC P w K mg base bD 2 f fd ["drawing"] (XT K C (fun _=>True) YG):=by
 obtain⟨fm,ah,hm,bm,G⟩:=M.ex;apply F.bM Cm;rintro _ H Q E ⟨d,S,dx,lp,ll,lm,ap,al,am,rfl,D,_,k⟩;refine⟨Z,fun _ _ _ _ hr=>?_⟩
 refine⟨_,Qb (QL PassesOwn.never Z (Jr Z U.enum (Qa (Qw (pv 0) Z) Qc)) (ZF (n:=2) Z (QF (b0 1 Cm.nd) (QF (b0 2 Cm.nd) Zl)))
   (Qb (QD (Xq (Qt Zn (QX 2) (Qw (pv 0) Z) (Qo _)) (ZM (Qt Zn (Q6 2) (Qw (pv 0) Z) (Qo _)))).pt
    (Qd (Qj (Q5 (pv 0) T.cl hm G hr bm .nil Zc (Qa (pv 1) Qc)))) Qq)
   (Qd (QD (Y2 (Qt Zn (pv 1) Qi (Qo _)) (XY (X7 (Zd (Qs B hr (Qa (pv 2) (Qa (Qy QE (Qw (pv 0) Z) (QA Xl (pv 1) Qi) (fun _ _=>rfl)) Qc))))))).pt
    (Qd (Qj (Q5 (pv 0) T.cl hm G hr bm .nil Zc (Qa (pv 1) Qc)))) Qq))))
  (Qd (Qj QT)),?_⟩
 have ab:=Xs S.w S.h lp ll lm (m := "point_place") Wb Wb Wb Wb Wb
 refine⟨_,Z,d,C,dx,_,_,Z,D.ins,T.cl,T.nP,XN _ _ _ _ _,lp,_,Z,D.pts.lst,Yp (K:=K) (a:=lp) (xs:=ap.map V.ref) (fun i σ H'=>∃J O:Option V,σ=[some (.ref d),J,O]/\Qn H H'/\∀j (hj:j<i) (hl:j<S.pts.length),qL S j S.pts[j]=false)
  ⟨none,none,Z,Qn.refl H,fun j hj=>by lia⟩ (fun i σ H' _ ⟨_,_,_,s1,_⟩=>(D.same s1).pts.lst) ?_ ?_⟩
 ·rintro i x σ H1 H2 hx ⟨J,O,rfl,s1,hb⟩ ac;obtain⟨c,hc,rfl⟩:=Zm hx;have s2:=s1.trans ac;have I:=D.same s2;obtain⟨hi,hp⟩:=I.pt hc
  have ret:qL S i S.pts[i]=true->pF (yQ C "point_place" gW [] E0 (ZH 0) (YF (ZH 1) jA)) { nx:=fun _ H'=>Q V.bQ H',rt:=Q } [some (.ref d),some (.int (i:Int)),some (.ref c)] H2:=fun aa=>by
   refine⟨_,Z,d,dx,_,Z,I.ins,ab,_,Z,_,_,i,Z,Z,?_⟩
   have e:YG S=some (Vc i):=by rw[fD,Zq (p:=qL S) (l:=S.pts) hi aa (fun j hj=>hb j hj L)];rfl
   have:=k H2 s2;rw[e]at this;exact this
  have good:qL S i S.pts[i]=false->∃J O:Option V,[some (V.ref d),some (V.int (i:Int)),some (V.ref c)]=[some (.ref d),J,O]/\Qn H H2/\∀j (hj:j<i+1) (hl:j<S.pts.length),qL S j S.pts[j]=false:=fun hg=>by
   grind
  refine⟨c,_,_,Z,hp,_,Z,d,C,dx,_,_,Z,I.ins,T.cl,T.nW,tY _ _ _ _ _,_,_,Z,Z,_,Z,Qz (fun h1=>ZG (ret ?_)) (fun h1=>?_)⟩
  ·have h1:(S.w:Int)<S.pts[i].x:=Wj h1;unfold qL;lia
  ·have h1:¬ (S.w:Int)<S.pts[i].x:=fun z=>h1 (Wk z);refine⟨c,_,_,Z,hp,_,Z,d,C,dx,_,_,Z,I.ins,T.cl,T.nH,rK _ _ _ _ _,_,_,Z,Z,_,Z,Qz (fun h2=>ret ?_) (fun h2=>?_)⟩
   ·have h2:(S.h:Int)<S.pts[i].y:=Wj h2;unfold qL;lia
   ·have h2:¬ (S.h:Int)<S.pts[i].y:=fun z=>h2 (Wk z);have x1:S.pts[i].x<=S.w:=by lia
    have x2:S.pts[i].y<=S.h:=by lia
    refine⟨_,Z,_,_,Z,Z,_,Z,Qz (fun h3=>?_) (fun h3=>?_)⟩
    ·have h3:(0:Int)<i:=Wj h3;obtain⟨c',ad,af⟩:=I.eV (i:=i-1) L;have ag:S.pts[i-1]?=some (S.pts[i-1]'(by lia)):=xF _;refine⟨_,Z,_,Z,d,C,dx,_,_,Z,I.ins,T.cl,T.nP,XN _ _ _ _ _,_,Z,_,_,Z,Z,lp,_,_,_,Z,Z,I.pts.lst,at_of (j:=i-1) (v:=V.ref c') L (by rw[xL,ad];rfl),c,c',_,_,Z,hp,af,_,Z,Qz (fun h4=>ret ?_) (fun h4=>good ?_)⟩
     ·unfold qL;lia
     ·unfold qL;lia
    ·have h3:¬(0:Int)<i:=fun z=>h3 (Wk z);refine good ?_;unfold qL;lia
 ·rintro σ H1 ⟨J,O,rfl,s1,hb⟩
  have e:YG S=none:=by have:Ge (qL S) S.pts=none:=Pl.bx.2 fun i hi=>hb i (by rw[xD,D.pts.len,xD];exact hi) hi;rw[fD,this];rfl
  have:=k H1 s1;rw[e]at this;exact this
theorem Fq(F:bG K "line_comes_behind" "line_comes_behind" Kc f fd):QC P w K mg base bD 1 f fd ["later","earlier"] (Bp K):=by
 apply F.bM Ka;rintro _ H Q E ⟨a,b,p,q,rfl,j,n,k⟩;refine⟨Z,fun _ _ _ _ _=>?_⟩
 refine⟨_,Qb (QD (Qt qb (QX 0) (QX 1) (Qo _)) (Qd (Qj (QM Zn (QX 0) (QX 1) (Qo _)))) Qq)
  (Qd (Qj (QM Zn (Q6 0) (Q6 1) (Qo _)))),?_⟩
 refine⟨a,_,_,Z,j,b,_,_,Z,n,Z,_,Z,?_⟩;unfold Ui at k;refine Qz (fun h=>?_) (fun h=>?_)
 ·have h:¬ (p.1:Int)=q.1:=by simpa using h
  refine⟨a,_,_,Z,j,b,_,_,Z,n,_,_,Z,Z,?_⟩
  have e:(decide (q.1<p.1)||q.1==p.1&&decide (q.2<p.2))=decide ((q.1:Int)<p.1):=by rw[Gu];simp;lia
  rw[e]at k;exact k
 ·have h:(p.1:Int)=q.1:=by simpa using h
  refine⟨a,_,_,Z,j,b,_,_,Z,n,_,_,Z,Z,?_⟩
  have e:(decide (q.1<p.1)||q.1==p.1&&decide (q.2<p.2))=decide ((q.2:Int)<p.2):=by rw[Gu];simp;lia
  rw[e]at k;exact k
theorem DH(F:bG K "wrong_line" "wrong_line" Iv f fd)(T:Xc K mg C)(U:Txt K mg) (M:XS P w K mg base C 2 "line_place" ["self","number"] (lq K C)) (B:bu P w K mg base 1 "line_comes_behind" ["later","earlier"] (Bp K)) :
  QC P w K mg base bD 3 f fd ["drawing"] (XT K C (fun _=>True) Yl):=by
 obtain⟨fm,ah,hm,bm,G⟩:=M.ex;apply F.bM CZ;rintro _ H Q E ⟨d,S,dx,lp,ll,lm,ap,al,am,rfl,D,_,k⟩;refine⟨Z,fun _ _ _ _ hr=>?_⟩
 refine⟨_,Qb (QL PassesOwn.never Z (Jr Z U.enum (Qa (Qw (pv 0) Z) Qc)) (ZF (n:=2) Z (QF (b0 1 CZ.nd) (QF (b0 2 CZ.nd) Zl)))
   (Qb (QD (Xq (Qt fM (QX 2) (Q6 2) (Qo _)) (ZM (Qt fM (Q6 2) (Qx Qp Wg U.len Wx (Qa (Qw (pv 0) Z) Qc)) (Qo _)))).pt
    (Qd (Qj (Q5 (pv 0) T.cl hm G hr bm .nil Zc (Qa (pv 1) Qc)))) Qq)
   (Qd (QD (Y2 (Qt Zn (pv 1) Qi (Qo _)) (XY (X7 (Zd (Qs B (hr.mono Wa) (Qa (pv 2) (Qa (Qy QE (Qw (pv 0) Z) (QA Xl (pv 1) Qi) (fun _ _=>rfl)) Qc))))))).pt
    (Qd (Qj (Q5 (pv 0) T.cl hm G hr bm .nil Zc (Qa (pv 1) Qc)))) Qq))))
  (Qd (Qj QT)),?_⟩
 have ab:=Xs S.w S.h lp ll lm (m := "line_place") Wb Wb Wb Wb Wb
 refine⟨_,Z,d,C,dx,_,_,Z,D.ins,T.cl,T.nL,yr _ _ _ _ _,ll,_,Z,D.cG.lst,Yp (K:=K) (a:=ll) (xs:=al.map V.ref) (fun i σ H'=>∃O v2:Option V,σ=[some (.ref d),O,v2]/\Qn H H'/\∀j (hj:j<i) (hl:j<S.lines.length),qK S j S.lines[j]=false)
  ⟨none,none,Z,Qn.refl H,fun j hj=>by lia⟩ (fun i σ H' _ ⟨_,_,_,s1,_⟩=>(D.same s1).cG.lst) ?_ ?_⟩
 ·rintro i x σ H1 H2 hx ⟨O,v2,rfl,s1,hb⟩ ac;obtain⟨c,hc,rfl⟩:=Zm hx;have s2:=s1.trans ac;have I:=D.same s2;obtain⟨hi,hp⟩:=I.ln hc
  have ret:qK S i S.lines[i]=true->pF (yQ C "line_place" (lq K C) [] E0 (ZH 0) (YF (ZH 1) jA)) { nx:=fun _ H'=>Q V.bQ H',rt:=Q } [some (.ref d),some (.int (i:Int)),some (.ref c)] H2:=fun aa=>by
   refine⟨_,Z,d,dx,_,Z,I.ins,ab,_,Z,d,_,i,S,dx,lp,ll,lm,ap,al,am,Z,Z,I,?_⟩
   have e:Yl S=some (UE S i):=by rw[fY,Zq (p:=qK S) (l:=S.lines) hi aa (fun j hj=>hb j hj L)];rfl
   have:=k H2 s2;rw[e]at this;exact this
  have good:qK S i S.lines[i]=false->∃O v2:Option V,[some (V.ref d),some (V.int (i:Int)),some (V.ref c)]=[some (.ref d),O,v2]/\Qn H H2/\∀j (hj:j<i+1) (hl:j<S.lines.length),qK S j S.lines[j]=false:=fun hg=>by
   grind
  have J:((ap.map V.ref).length:Int)=S.pts.length:=by rw[xD,D.pts.len,xD]
  refine⟨c,_,_,Z,hp,c,_,_,Z,hp,_,_,Z,Z,_,Z,Qz (fun h1=>ZG (ret ?_)) (fun h1=>?_)⟩
  ·have h1:(S.lines[i].2:Int)<=S.lines[i].1:=Wj h1;unfold qK;lia
  ·have h1:¬ (S.lines[i].2:Int)<=S.lines[i].1:=fun z=>h1 (Wk z);refine⟨c,_,_,Z,hp,_,Z,d,C,dx,_,_,Z,I.ins,T.cl,T.nP,XN _ _ _ _ _,lp,_,Z,.inl I.pts.lst,_,_,Z,Z,_,Z,Qz (fun h2=>ret ?_) (fun h2=>?_)⟩
   ·have h2:((ap.map V.ref).length:Int)<=S.lines[i].2:=Wj h2;rw[J]at h2;unfold qK;lia
   ·have h2:¬ ((ap.map V.ref).length:Int)<=S.lines[i].2:=fun z=>h2 (Wk z);rw[J] at h2;have x1:S.lines[i].1<S.lines[i].2:=by lia
    have x2:S.lines[i].2<S.pts.length:=by lia
    refine⟨_,Z,_,_,Z,Z,_,Z,Qz (fun h3=>?_) (fun h3=>?_)⟩
    ·have h3:(0:Int)<i:=Wj h3;obtain⟨c',ad,af⟩:=I.Ft (i:=i-1) L;have ag:S.lines[i-1]?=some (S.lines[i-1]'(by lia)):=xF _;refine⟨_,Z,_,Z,d,C,dx,_,_,Z,I.ins,T.cl,T.nL,yr _ _ _ _ _,_,Z,_,_,Z,Z,ll,_,_,_,Z,Z,I.cG.lst,at_of (j:=i-1) (v:=V.ref c') L (by rw[xL,ad];rfl),c,c',_,_,Z,hp,af,_,Z,Qz (fun h4=>ret ?_) (fun h4=>good ?_)⟩
     ·unfold qK;lia
     ·unfold qK;lia
    ·have h3:¬(0:Int)<i:=fun z=>h3 (Wk z);refine good ?_;unfold qK;lia
 ·rintro σ H1 ⟨O,v2,rfl,s1,hb⟩
  have e:Yl S=none:=by have:Ge (qK S) S.lines=none:=Pl.bx.2 fun i hi=>hb i (by rw[xD,D.cG.len];exact hi) hi;rw[fY,this];rfl
  have:=k H1 s1;rw[e]at this;exact this
structure nX(S:Plan):Prop where
 cG:X5 S
 siz:Jj S
 srt:∀(i j:Nat)(_:i<j)(hj:j<S.pts.length),(S.pts[i]).below S.pts[j]=true
 sm:∀p∈S.pts,Sm p
 smm:∀m∈S.marks,Sm m.at_
theorem hC{xs:List V}{p q:Nat}:X9 xs (some (p:Int)) (some (q:Int))=(xs.drop p).take (q-p):=by
 unfold X9;rw[HT.dn,HT.dn];by_cases h:p<=xs.length
 ·rw[Qan h,V8,Gd];lia
 ·rw[GK (as:=xs) (i:=min p xs.length) L,GK (as:=xs) (i:=p) L];simp
theorem yt{xs:List V}{q:Nat}:X9 xs none (some (q:Int))=xs.take q:=by unfold X9;rw[HT.dn,HT.tQ,G6,Nat.sub_zero,V8];lia
def jl(S:Plan)(l:WA):Bool:=(xP S.pts.length).any fun(k:Nat)=>k != l.1&&(k != l.2&&Uq (S.pt l.1) (S.pt l.2) (S.pt k))
def nc(S:Plan)(i:Nat)(l:WA):Bool:=(S.lines.take i).any fun(m:WA)=>G3 (S.pt l.1) (S.pt l.2) (S.pt m.1) (S.pt m.2)
theorem JM(S:Plan)(i:Nat)(l:WA):Vb S i l=(jl S l||nc S i l):=rfl
def Y0(S:Plan):Option Nat:=(Ge (Vb S) S.lines).map (UE S)
inductive De(K:xB)(C:Addr)(vs:List V)(H:Hp)(Q:VK)(E:XK):Prop
 |mk (d a:Addr) (l:WA) (S:Plan) (dx lp ll lm:Addr) (ap al am:List Addr):vs=[.ref d,.ref a]->Dw K C H d S dx lp ll lm ap al am->bY K H a [.int (l.1:Int),.int (l.2:Int)]->l.1<l.2->l.2<S.pts.length->nX S->(∀H',Qn H H'->Q (.bl (jl S l)) H')->De K C vs H Q E
inductive C6(K:xB)(C:Addr)(vs:List V)(H:Hp)(Q:VK)(E:XK):Prop
 |mk (d:Addr) (n:Int) (i:Nat) (S:Plan) (dx lp ll lm:Addr) (ap al am:List Addr):vs=[.ref d,.int n]->n=(i:Int)->Dw K C H d S dx lp ll lm ap al am->nX S->(∃h:i<S.lines.length,∀H',Qn H H'->Q (.bl (nc S i S.lines[i])) H')->C6 K C vs H Q E
abbrev KR:Stmt:=top 29
abbrev Kb:Stmt:=top 30
abbrev HS:Stmt:=top 31
theorem vM:a7 ["drawing","line","start","end","point"] ["drawing","line"] (a6 KR):=.mk'
theorem rE:a7 ["drawing","number","line","start","end","other"] ["drawing","number"] (a6 Kb):=.mk'
theorem Bu:a7 ["drawing","number","line"] ["drawing"] (a6 HS):=.mk'
theorem DL(F:bG K "holds_point" "holds_point" KR f fd)(T:Xc K mg C) (B:bu P w K mg base 2 "is_on" ["point","start","end"] (uT K)) :
  QC P w K mg base bD 3 f fd ["drawing","line"] (De K C):=by
 apply F.bM vM;rintro _ H Q E ⟨d,a,l,S,dx,lp,ll,lm,ap,al,am,rfl,D,G,h1,h2,O,k⟩;refine⟨Z,fun _ _ _ _ hr=>?_⟩
 refine⟨_,Qb (bA 2 vM.nd (Qy QE (Qw (pv 0) Z) (QX 1) (fun _ _=>rfl)))
  (Qb (bA 3 vM.nd (Qy QE (Qw (pv 0) Z) (Q6 1) (fun _ _=>rfl)))
  (Qb (QL PassesOwn.never Z (Q4 (XH Yu (Qw (pv 0) Z) (Xe (QA QV (QX 1) Qi)) (Xe (Q6 1)))) (b0 4 vM.nd)
   (Qd (QD (Zd (Qs B hr (Qa (pv 4) (Qa (pv 2) (Qa (pv 3) Qc))))) (Qd (Qj Xh)) Qq)))
  (Qd (Qj Xh)))),?_⟩
 obtain⟨c1,I,J⟩:=D.eV (i:=l.1) L;obtain⟨c2,U,aa⟩:=D.eV (i:=l.2) h2;refine⟨_,Z,d,C,dx,_,_,Z,D.ins,T.cl,T.nP,XN _ _ _ _ _,a,_,_,Z,G,lp,_,_,_,Z,Z,D.pts.lst,Qm (j:=l.1) (v:=V.ref c1) (by rw[xL,I];rfl),?_⟩;refine⟨_,Z,d,C,dx,_,_,Z,D.ins,T.cl,T.nP,XN _ _ _ _ _,a,_,_,Z,G,lp,_,_,_,Z,Z,D.pts.lst,Qm (j:=l.2) (v:=V.ref c2) (by rw[xL,U];rfl),?_⟩;refine⟨_,Z,d,C,dx,_,_,Z,D.ins,T.cl,T.nP,XN _ _ _ _ _,a,_,_,Z,G,_,_,Z,Z,_,Z,a,_,_,Z,G,_,Z,lp,_,Z,D.pts.lst,fun q hq=>?_⟩
 have ec:X9 (ap.map V.ref) (some ((l.1:Int)+1)) (some (l.2:Int))=((ap.drop (l.1+1)).take (l.2-(l.1+1))).map V.ref:=by rw[show(l.1:Int)+1=((l.1+1:Nat):Int) by lia,hC,Vs,Qaf]
 rw[ec];have s0:=Qk (.lst (((ap.drop (l.1+1)).take (l.2-(l.1+1))).map V.ref)) hq;have ad:ap.length=S.pts.length:=by have:=D.pts.len;rwa [xD]at this
 have xl:(((ap.drop (l.1+1)).take (l.2-(l.1+1))).map V.ref).length=l.2-(l.1+1):=by grind
 refine⟨q,Z,⟨_,ba.of Qe⟩,Zs (K:=K) (a:=q) (xs:=((ap.drop (l.1+1)).take (l.2-(l.1+1))).map V.ref) (fun i σ H'=>∃v4:Option V,Dx (σ=[some (.ref d),some (.ref a),some (.ref c1),some (.ref c2),v4]) (Qn H H') (H' q=some (.lst (((ap.drop (l.1+1)).take (l.2-(l.1+1))).map V.ref))) (∀j,j<i->l.1+1+j<l.2->Uq (S.pt l.1) (S.pt l.2) (S.pt (l.1+1+j))=false))
  ⟨none,Z,s0,Qe,fun j hj=>by lia⟩ (fun i σ H' _ ⟨_,_,_,h,_⟩=>ba.of h) ?_ ?_⟩
 ·rintro i x σ H1 hx ⟨v4,rfl,n,z,hb⟩;obtain⟨c,hc,rfl⟩:=Zm hx
  have af:i<l.2-(l.1+1):=by grind
  have ab:ap[l.1+1+i]?=some c:=by grind
  have D1:=D.same n;obtain⟨hk,hp⟩:=D1.pt ab;refine⟨_,Z,_,Z,_,Z,c,c1,c2,S.pts[l.1+1+i],S.pts[l.1]'(by lia),S.pts[l.2],Z,hp,Qn.tup n J,Qn.tup n aa,O.sm _ (xR _),O.sm _ (xR _),O.sm _ (xR _),_,Z,Qz (fun h3=>?_) (fun h3=>?_)⟩
  ·have e:jl S l=true:=by
    unfold jl;rw[UT];refine⟨l.1+1+i,List.mem_range.2 hk,?_⟩;rw[Pl.bF (i:=l.1) L,Pl.bF h2,Pl.bF hk,h3];have x1:(l.1+1+i != l.1)=true:=by simp;lia
    have x2:(l.1+1+i != l.2)=true:=by simp;lia
    rw[x1,x2];rfl
   have:=k H1 n;rw[e]at this;exact this
  ·refine⟨_,Z,n,z,fun j hj ag=>?_⟩;by_cases qj:j=i
   ·subst qj;rw[Pl.bF (i:=l.1) L,Pl.bF h2,Pl.bF hk];lia
   grind
 ·rintro σ H1 ⟨v4,rfl,n,z,hb⟩;rw[xl] at hb
  have e:jl S l=false:=by
   unfold jl;rw[UI];intro m hm;have hm:=List.mem_range.1 hm;by_cases x1:m=l.1
   ·simp[x1]
   ·by_cases x2:m=l.2
    ·simp[x2]
    ·simp only[Ga,not_and];intro _ _ ac;have bt:=Pl.kA O.srt h1 h2 hm ac;have:=hb (m-(l.1+1)) L L;grind
  have:=k H1 n;rw[e]at this;exact this
theorem Et(F:bG K "crosses_earlier" "crosses_earlier" Kb f fd)(T:Xc K mg C) (B:bu P w K mg base 3 "crosses" ["start","end","other_start","other_end"] (jG K)) :
  QC P w K mg base bD 4 f fd ["drawing","number"] (C6 K C):=by
 apply F.bM rE;rintro _ H Q E ⟨d,n,i,S,dx,lp,ll,lm,ap,al,am,rfl,rfl,D,O,hi,k⟩;refine⟨Z,fun _ _ _ _ hr=>?_⟩
 refine⟨_,Qb (bA 2 rE.nd (Qy QE (Qw (pv 0) Z) (pv 1) (fun _ _=>rfl)))
  (Qb (bA 3 rE.nd (Qy QE (Qw (pv 0) Z) (QX 2) (fun _ _=>rfl)))
  (Qb (bA 4 rE.nd (Qy QE (Qw (pv 0) Z) (Q6 2) (fun _ _=>rfl)))
  (Qb (QL PassesOwn.never Z (Q4 (XH Yu (Qw (pv 0) Z) zq (Xe (pv 1)))) (b0 5 rE.nd)
   (Qd (QD (Zd (Qs B hr (Qa (pv 3) (Qa (pv 4) (Qa (Qy QE (Qw (pv 0) Z) (QX 5) (fun _ _=>rfl)) (Qa (Qy QE (Qw (pv 0) Z) (Q6 5) (fun _ _=>rfl)) Qc)))))) (Qd (Qj Xh)) Qq)))
  (Qd (Qj Xh))))),?_⟩
 obtain⟨a,ha,hL⟩:=D.Ft hi;obtain⟨h1,h2⟩:=O.cG S.lines[i] (xR hi);obtain⟨c1,ab,ac⟩:=D.eV (i:=S.lines[i].1) L;obtain⟨c2,ad,af⟩:=D.eV (i:=S.lines[i].2) h2;refine⟨_,Z,d,C,dx,_,_,Z,D.ins,T.cl,T.nL,yr _ _ _ _ _,_,Z,ll,_,_,_,Z,Z,D.cG.lst,Qm (j:=i) (v:=V.ref a) (by rw[xL,ha];rfl),?_⟩;refine⟨_,Z,d,C,dx,_,_,Z,D.ins,T.cl,T.nP,XN _ _ _ _ _,a,_,_,Z,hL,lp,_,_,_,Z,Z,D.pts.lst,Qm (j:=S.lines[i].1) (v:=V.ref c1) (by rw[xL,ab];rfl),?_⟩;refine⟨_,Z,d,C,dx,_,_,Z,D.ins,T.cl,T.nP,XN _ _ _ _ _,a,_,_,Z,hL,lp,_,_,_,Z,Z,D.pts.lst,Qm (j:=S.lines[i].2) (v:=V.ref c2) (by rw[xL,ad];rfl),?_⟩;refine⟨_,Z,d,C,dx,_,_,Z,D.ins,T.cl,T.nL,yr _ _ _ _ _,_,Z,_,Z,ll,_,Z,D.cG.lst,fun q hq=>?_⟩;have ec:X9 (al.map V.ref) none (some (i:Int))=(al.take i).map V.ref:=by rw[yt,Vs]
 rw[ec];have s0:=Qk (.lst ((al.take i).map V.ref)) hq;have all:al.length=S.lines.length:=D.cG.len;have xl:((al.take i).map V.ref).length=i:=by rw[xD,Go];lia
 refine⟨q,Z,⟨_,ba.of Qe⟩,Zs (K:=K) (a:=q) (xs:=(al.take i).map V.ref) (fun j σ H'=>∃v5:Option V,Dx (σ=[some (.ref d),some (.int (i:Int)),some (.ref a),some (.ref c1),some (.ref c2),v5]) (Qn H H') (H' q=some (.lst ((al.take i).map V.ref))) (∀m,m<j->(I:m<S.lines.length)->G3 (S.pt S.lines[i].1) (S.pt S.lines[i].2) (S.pt S.lines[m].1) (S.pt S.lines[m].2)=false))
  ⟨none,Z,s0,Qe,fun j hj=>by lia⟩ (fun i σ H' _ ⟨_,_,_,h,_⟩=>ba.of h) ?_ ?_⟩
 ·rintro j x σ H1 hx ⟨v5,rfl,z,J,hb⟩;obtain⟨c,hc,rfl⟩:=Zm hx
  have hj:j<i:=by have:=(List.getElem?_eq_some_iff.1 hx).1;rw[xl]at this;exact this
  have ag:al[j]?=some c:=by rw[Qa7 hj]at hc;exact hc
  have G:=D.same z;obtain⟨hk,I⟩:=G.ln ag;obtain⟨g1,g2⟩:=O.cG S.lines[j] (xR hk);obtain⟨e1,ah,U⟩:=G.eV (i:=S.lines[j].1) L;obtain⟨e2,ai,aa⟩:=G.eV (i:=S.lines[j].2) g2
  refine⟨_,Z,_,Z,_,Z,d,C,dx,_,_,Z,G.ins,T.cl,T.nP,XN _ _ _ _ _,c,_,_,Z,I,lp,_,_,_,Z,Z,G.pts.lst,Qm (j:=S.lines[j].1) (v:=V.ref e1) (by rw[xL,ah];rfl),
   _,Z,d,C,dx,_,_,Z,G.ins,T.cl,T.nP,XN _ _ _ _ _,c,_,_,Z,I,lp,_,_,_,Z,Z,G.pts.lst,Qm (j:=S.lines[j].2) (v:=V.ref e2) (by rw[xL,ai];rfl),
   c1,c2,e1,e2,S.pts[S.lines[i].1]'(by lia),S.pts[S.lines[i].2],S.pts[S.lines[j].1]'(by lia),S.pts[S.lines[j].2],Z,Qn.tup z ac,Qn.tup z af,U,aa,O.sm _ (xR _),O.sm _ (xR _),O.sm _ (xR _),O.sm _ (xR _),_,Z,Qz (fun h3=>?_) (fun h3=>?_)⟩
  ·have e:nc S i S.lines[i]=true:=by unfold nc;rw[UT];refine⟨S.lines[j],List.mem_iff_getElem.2 ⟨j,by rw[Go];lia,by simp⟩,?_⟩;rw[Pl.bF (i:=S.lines[i].1) L,Pl.bF h2,Pl.bF (i:=S.lines[j].1) L,Pl.bF g2];exact h3
   have:=k H1 z;rw[e]at this;exact this
  ·refine⟨_,Z,z,J,fun m I aj=>?_⟩;by_cases qj:m=j
   ·subst qj;rw[Pl.bF (i:=S.lines[i].1) L,Pl.bF h2,Pl.bF (i:=S.lines[m].1) L,Pl.bF g2];simpa using h3
   ·exact hb m L aj
 ·rintro σ H1 ⟨v5,rfl,z,J,hb⟩;rw[xl] at hb
  have e:nc S i S.lines[i]=false:=by unfold nc;rw[UI];intro m I;obtain⟨j,hj,rfl⟩:=List.mem_iff_getElem.1 I;rw[Go]at hj;have:=hb j L L;simpa using this
  have:=k H1 z;rw[e]at this;exact this
theorem DS(F:bG K "entangled_line" "entangled_line" HS f fd)(T:Xc K mg C)(U:Txt K mg) (M:XS P w K mg base C 2 "line_place" ["self","number"] (lq K C)) (B1:bu P w K mg base 3 "holds_point" ["drawing","line"] (De K C)) (B2:bu P w K mg base 4 "crosses_earlier" ["drawing","number"] (C6 K C)) :
  QC P w K mg base bD 5 f fd ["drawing"] (XT K C nX Y0):=by
 obtain⟨fm,af,hm,bm,G⟩:=M.ex;apply F.bM Bu;rintro _ H Q E ⟨d,S,dx,lp,ll,lm,ap,al,am,rfl,D,O,k⟩;refine⟨Z,fun _ _ _ _ hr=>?_⟩
 refine⟨_,Qb (QL PassesOwn.never Z (Jr Z U.enum (Qa (Qw (pv 0) Z) Qc)) (ZF (n:=2) Z (QF (b0 1 Bu.nd) (QF (b0 2 Bu.nd) Zl)))
   (Qd (QD (Xq (Zd (Qs B1 (hr.mono Wa) (Qa (pv 0) (Qa (pv 2) Qc)))) (ZM (Zd (Qs B2 hr (Qa (pv 0) (Qa (pv 1) Qc)))))).pt
    (Qd (Qj (Q5 (pv 0) T.cl hm G (hr.mono Wa) bm .nil Zc (Qa (pv 1) Qc)))) Qq)))
  (Qd (Qj QT)),?_⟩
 have ac:=Xs S.w S.h lp ll lm (m := "line_place") Wb Wb Wb Wb Wb
 refine⟨_,Z,d,C,dx,_,_,Z,D.ins,T.cl,T.nL,yr _ _ _ _ _,ll,_,Z,D.cG.lst,Yp (K:=K) (a:=ll) (xs:=al.map V.ref) (fun i σ H'=>uk fun(v1 v2:Option V)=>eC (σ=[some (.ref d),v1,v2]) (Qn H H') (∀j (hj:j<i) (hl:j<S.lines.length),Vb S j S.lines[j]=false))
  ⟨none,none,Z,Qn.refl H,fun j hj=>by lia⟩ (fun i σ H' _ ⟨_,_,_,I,_⟩=>(D.same I).cG.lst) ?_ ?_⟩
 ·rintro i x σ H1 H2 hx ⟨v1,v2,rfl,I,hb⟩ ad;obtain⟨c,hc,rfl⟩:=Zm hx;have s2:=I.trans ad;have D2:=D.same s2;obtain⟨hi,hp⟩:=D2.ln hc;obtain⟨h1,h2⟩:=O.cG S.lines[i] (xR hi)
  have ret:∀z,Qn H z->Vb S i S.lines[i]=true->pF (yQ C "line_place" (lq K C) [] E0 (ZH 0) (YF (ZH 1) jA)) { nx:=fun _ H'=>Q V.bQ H',rt:=Q } [some (.ref d),some (.int (i:Int)),some (.ref c)] z:=fun z B J=>by
   have D3:=D.same B;refine⟨_,Z,d,dx,_,Z,D3.ins,ac,_,Z,d,_,i,S,dx,lp,ll,lm,ap,al,am,Z,Z,D3,?_⟩
   have e:Y0 S=some (UE S i):=by unfold Y0;rw[Zq (p:=Vb S) (l:=S.lines) hi J (fun j hj=>hb j hj L)];rfl
   have:=k z B;rw[e]at this;exact this
  refine⟨_,Z,_,Z,d,c,S.lines[i],S,dx,lp,ll,lm,ap,al,am,Z,D2,hp,h1,h2,O,fun z aa=>⟨_,Z,Qz (fun h3=>ZG (ret z (s2.trans aa) ?_)) (fun h3=>?_)⟩⟩
  ·rw[JM,h3];rfl
  ·have B:=s2.trans aa;refine⟨_,Z,_,Z,d,_,i,S,dx,lp,ll,lm,ap,al,am,Z,Z,D.same B,O,hi,fun H4 ab=>⟨_,Z,Qz (fun h4=>ret H4 (B.trans ab) ?_) (fun h4=>?_)⟩⟩
   ·rw[JM,h4];simp
   ·refine⟨_,_,Z,B.trans ab,fun j hj hl=>?_⟩;by_cases qj:j=i
    ·subst qj;rw[JM];lia
    grind
 ·rintro σ H1 ⟨v1,v2,rfl,I,hb⟩
  have e:Y0 S=none:=by have:Ge (Vb S) S.lines=none:=Pl.bx.2 fun i hi=>hb i (by rw[xD,D.cG.len];exact hi) hi;unfold Y0;grind
  have:=k H1 I;rw[e]at this;exact this
theorem Zt{n i:Nat}{p:Nat->Bool}(hi:i<n)(h:p i=true)(z:∀j,j<i->p j=false):(xP n).find? p=some i:=by rw[Vf];refine⟨h,i,by simpa using hi,by simp,?_⟩;intro j B;simp[z j B]
theorem ze{n:Nat}{p:Nat->Bool}(h:∀i,i<n->p i=false):(xP n).find? p=none:=by grind
def YZ(S:Plan):Option Nat:=((xP S.pts.length).find? fun(i:Nat)=>decide ((S.near i).length<2)).map Vc
def YY(S:Plan):Option Nat:=((xP S.pts.length).find? fun(i:Nat)=>!((Vq S.nears S.pts.length 0 (Gg S.pts.length)).getD i false)).map Vc
def Z9(S:Plan):Option Nat:=((xP S.pts.length).find? (V5 S.nears S.pts.length)).map Vc
def a'(j:List Nat):List (Key×V):=j.map (fun(n:Nat)=>(Sum.inl (n:Int),V.bl true))
theorem qg(j:List Nat)(n:Nat):(Xv (a' j) (Sum.inl (n:Int))).isSome=decide (n∈j):=by rw[<-YQ];unfold a';rw[VU,Gu,UT,Wp];grind
theorem vR{j:List Nat}{n:Nat}(h:n∉j):XU (a' j) (Sum.inl (n:Int)) (V.bl true)=a' (j++[n]):=by
 have z:Xv (a' j) (Sum.inl (n:Int))=none:=by
  have:=qg j n;rw[Wl h]at this;cases e:Xv (a' j) (Sum.inl (n:Int)) with
  |none=>rfl
  |some v=>rw[e]at this;cases this
 rw[dM _ z];simp[a']
theorem zw{S:Plan}(n:X5 S){v j:Nat}(h:j∈S.near v):j<S.pts.length:=by unfold Plan.near at h;obtain⟨l,hl,e⟩:=List.mem_filterMap.1 h;obtain⟨h1,h2⟩:=n l hl;lia
def JV(n:Nat)(j:Int)(st:Nat):Array Bool:=(if 0<=j then(Gg n).setIfInBounds j.toNat true else Gg n).setIfInBounds st true
inductive zk(K:xB)(vs:List V)(H:Hp)(Q:VK)(E:XK):Prop
 |mk (b:Addr) (as:List Addr) (S:Plan) (i br:Int) (st:Nat):vs=[.ref b,.int i,.int br]->i=(st:Int)->yE K H b as S->X5 S->Jj S->st<S.pts.length->(st:Int)≠br->(∀H' g fk seen,Qn H H'->H' g=some (.dK (a' fk))->Pl.eD S.pts.length br [] fk [] seen->seen=Uv S.nears (S.pts.length+1) [st] (JV S.pts.length br st)->Q (.ref g) H')->zk K vs H Q E
abbrev iA:Stmt:=top 47
abbrev kJ:Stmt:=top 48
abbrev AO:Stmt:=top 49
abbrev tN:Stmt:=top 50
theorem jN:a7 ["drawing","number","others"] ["drawing"] (a6 iA):=.mk'
theorem J7:a7 ["beside","start","barred","found","waiting","here","there"] ["beside","start","barred"] (a6 kJ):=.mk'
theorem sG:a7 ["drawing","found","number"] ["drawing"] (a6 AO):=.mk'
theorem jM:a7 ["drawing","beside","number","start"] ["drawing"] (a6 tN):=.mk'
theorem kd (near:Array (List Nat)):∀(m:Nat)(seen:Array Bool),Uv near m [] seen=seen
 |0,_=>rfl
 |_+1,_=>rfl
theorem rC(F:bG K "loose_point" "loose_point" iA f fd)(T:Xc K mg C)(U:Txt K mg)(M:XS P w K mg base C 1 "point_place" ["self","number"] gW) (N:XS P w K mg base C 1 "neighbours" ["self"] (oh K C)) :
  QC P w K mg base bD 2 f fd ["drawing"] (XT K C (fun S=>X5 S/\Jj S) YZ):=by
 obtain⟨fm,ab,hm,bm,G⟩:=M.ex;obtain⟨fn,ac,hn,bn,GN⟩:=N.ex;apply F.bM jN;rintro _ H Q E ⟨d,S,dx,lp,ll,lm,ap,al,am,rfl,D,⟨hL,hZ⟩,k⟩;refine⟨Z,fun _ _ _ _ hr=>?_⟩
 refine⟨_,Qb (QL PassesOwn.never Z (Jr Z U.enum (Qa (Yo (pv 0) T.cl hn GN hr bn .nil Zc) Qc)) (ZF (n:=2) Z (QF (b0 1 jN.nd) (QF (b0 2 jN.nd) Zl)))
   (Qd (QD (Qt ZE (Qx Qp Wg U.len Wx (Qa (pv 2) Qc)) Qi (Qo _))
    (Qd (Qj (Q5 (pv 0) T.cl hm G hr bm .nil Zc (Qa (pv 1) Qc)))) Qq)))
  (Qd (Qj QT)),?_⟩
 have O:=Xs S.w S.h lp ll lm (m := "point_place") Wb Wb Wb Wb Wb;have I:=Xs S.w S.h lp ll lm (m := "neighbours") Wb Wb Wb Wb Wb;refine⟨_,Z,d,dx,_,Z,D.ins,I,d,S,dx,lp,ll,lm,ap,al,am,Z,D,hL,hZ,fun H1 b as s1 B=>?_⟩;have Lx:(as.map V.ref).length=S.pts.length:=by rw[xD,B.len]
 refine⟨b,_,Z,B.lst,Yp (K:=K) (a:=b) (xs:=as.map V.ref) (fun i σ H'=>uk fun(v1 v2:Option V)=>eC (σ=[some (.ref d),v1,v2]) (Qn H1 H') (∀j,j<i->decide ((S.near j).length<2)=false))
  ⟨none,none,Z,Qn.refl _,fun j hj=>by lia⟩ (fun i σ H' _ ⟨_,_,_,J,_⟩=>J.seq B.lst) ?_ ?_⟩
 ·rintro i x σ H2 H3 hx ⟨v1,v2,rfl,J,hb⟩ aa;obtain⟨c,hc,rfl⟩:=Zm hx;have s3:=J.trans aa;have hi:i<S.pts.length:=by rw[<-B.len];exact (List.getElem?_eq_some_iff.1 hc).1
  have hl:=s3.seq (B.at_ i c hc);have nl:((ni (S.near i)).length:Int)=(S.near i).length:=by simp[ni]
  refine⟨_,Z,c,_,Z,.inl hl,_,_,Z,Z,_,Z,Qz (fun h1=>?_) (fun h1=>?_)⟩
  ·have h1:((ni (S.near i)).length:Int)<2:=Wj h1;rw[nl] at h1;have s4:=s1.trans s3;refine⟨_,Z,d,dx,_,Z,(D.same s4).ins,O,_,Z,_,_,i,Z,Z,?_⟩
   have e:YZ S=some (Vc i):=by unfold YZ;rw[Zt hi (Wk L) hb];rfl
   have:=k H3 s4;rw[e]at this;exact this
  ·have h1:¬((ni (S.near i)).length:Int)<2:=fun z=>h1 (Wk z);rw[nl]at h1;refine⟨_,_,Z,s3,fun j hj=>?_⟩;grind
 ·rintro σ H2 ⟨v1,v2,rfl,J,hb⟩;rw[Lx] at hb
  have e:YZ S=none:=by unfold YZ;grind
  have:=k H2 (s1.trans J);rw[e]at this;exact this
theorem sv(F:bG K "reached" "reached" kJ f fd)(U:Txt K mg):QC P w K mg base bD 1 f fd ["beside","start","barred"] (zk K):=by
 apply F.bM J7;rintro _ H Q E ⟨b,as,S,i,n,st,rfl,rfl,B,hL,hZ,an,ao,k⟩;refine⟨Z,fun _ _ _ _ hr=>?_⟩;have hu:=Jd hr
 refine⟨_,Qb (bA 3 J7.nd (vO (rB (pv 1) Xh vX) Z Z We Wa))
  (Qb (bA 4 J7.nd (QU (Qa (pv 1) Qc)))
  (Qb (Yn PassesOwn.never (Qt Zn (Qx Qp Wg U.len Wx (Qa (pv 4) Qc)) Qi (Qo _))
   (Qb (bA 5 J7.nd (C7 xX PySem.F.slot_list_pop PySem.F.type_list_pop BA (pv 4)))
   (Qd (QL PassesOwn.never Z (Q4 (Qy QE (pv 0) (pv 5) (fun _ _=>rfl))) (b0 6 J7.nd)
    (Qd (QD (Y2 (Qt qb (pv 6) (pv 2) (Qo _)) (XY (Q7 (qB hu (pv 6) (pv 3))))).pt
     (Qb (zo hu (pv 3) (pv 6) Xh Z)
     (Qd (Zf (Xg xX GA GB ZD (pv 4) (Qa (pv 6) Qc))))) Qq))))))
  (Qd (Qj (pv 3))))),?_⟩
 intro g hg;refine⟨_,Z,Qe,[(Sum.inl (st:Int),V.bl true)],Z,(by show 1<=15;decide),?_⟩;have eg:qD [] [((Sum.inl (st:Int):Key),V.bl true)]=a' [st]:=rfl;rw[eg];generalize ad:upd (upd H g (.dK [])) g (.dK (a' [st]))=H1;have g1:H1 g=some (.dK (a' [st])):=by rw[<-ad];exact Qe
 have s1:Qn H H1:=fun c o e=>by rw[<-ad,Qh (Qg e hg),Qh (Qg e hg)];exact e
 refine⟨_,Z,(by show 1<=sizeLine;decide),fun l hl=>?_⟩;have aa:g≠l:=Qg g1 hl;have fl:H l=none:=s1.free hl;have s2:Qn H (upd H1 l (.lst (ni [st]))):=fun c o e=>by rw[Qh (Qg e fl)];exact s1 c o e
 refine⟨fun m σ H'=>∃(v5 v6:Option V)(ws I todo:List Nat)(seen:Array Bool),σ=[some (.ref b),some (.int (st:Int)),some (.int n),some (.ref g),some (.ref l),v5,v6]/\Qn H H'/\H' g=some (.dK (a' I))/\H' l=some (.lst (ni ws))/\
   Pl.eD S.pts.length n ws I todo seen/\Uv S.nears m todo seen=Uv S.nears (S.pts.length+1) [st] (JV S.pts.length n st)/\todo.length+(S.pts.length-I.length)<=m/\m<=S.pts.length+1,
  ⟨S.pts.length+1,none,none,[st],[st],[st],_,Z,s2,(by rw[Qh aa];exact g1),Qe,Pl.kf an ao,Z,(by simp;lia),xO _⟩,?_⟩
 rintro m σ H2 ⟨v5,v6,ws,I,todo,seen,rfl,s3,af,ab,R,hR,hm,ag⟩;refine⟨_,Z,l,_,Z,.inl (ba.of ab),_,_,Z,Z,_,Z,Qz (fun h1=>?_) (fun h1=>?_)⟩
 ·have h1:(0:Int)<((ni ws).length:Int):=Wj h1;have wl:(ni ws).length=ws.length:=by simp[ni]
  rw[wl]at h1;have tl:ws.length=todo.length:=by rw[R.ws];simp
  match todo,R,hR,hm,tl with
  |[],_,_,_,tl=>exact Wm (show ws.length=0 from tl) L
  | t::r,R,hR,hm,tl=>
   match m,hR,hm,ag with
   |0,_,hm,_=>simp at hm
   | m'+1,hR,hm,ag=>
    have ah:ws=r.reverse++[t]:=by rw[R.ws];simp
    have ai:t<S.pts.length:=R.sub t We
    refine⟨fun dA H'=>∃(v5 v6:Option V)(ws I todo:List Nat)(seen:Array Bool),dA=[some (.ref b),some (.int (st:Int)),some (.int n),some (.ref g),some (.ref l),v5,v6]/\Qn H H'/\H' g=some (.dK (a' I))/\H' l=some (.lst (ni ws))/\
      Pl.eD S.pts.length n ws I todo seen/\Uv S.nears m' todo seen=Uv S.nears (S.pts.length+1) [st] (JV S.pts.length n st)/\todo.length+(S.pts.length-I.length)<=m'/\m'<=S.pts.length+1,fun dA H' h=>⟨m',by lia,h⟩,?_⟩
    have aj:(ni ws)[(ni ws).length-1]?=some (V.int (t:Int)):=by rw[ah];simp[ni]
    have aq:(ni ws).dropLast=ni r.reverse:=by rw[ah];simp[ni]
    refine⟨_,Z,.inl ⟨Z,_,ba.of ab⟩,l,_,_,Z,Z,ab,aj,?_⟩;rw[aq];obtain⟨a,ha⟩:∃a,as[t]?=some a:=⟨as[t]'(by rw[B.len];exact ai),xF _⟩;have s4:Qn H (upd H2 l (.lst (ni r.reverse))):=fun c o e=>by rw[Qh (Qg e fl)];exact s3 c o e
    have B4:=B.same s4;have R0:Pl.eD S.pts.length n r.reverse I r seen:=⟨R.size,Z,R.nd,R.lt,R.nb,fun j hj=>R.sub j (by simp[hj]),R.iff_⟩
    refine⟨_,Z,_,Z,b,_,_,_,Z,Z,B4.lst,Qm (j:=t) (v:=V.ref a) (by rw[xL,ha];rfl),a,Z,⟨_,B4.at_ t a ha⟩,Zs (K:=K) (a:=a) (xs:=ni (S.near t)) (fun i σ H'=>∃v6:Option V,Dx (σ=[some (.ref b),some (.int (st:Int)),some (.int n),some (.ref g),some (.ref l),some (.int (t:Int)),v6]) (Qn H H') (H' g=some (.dK (a' (((S.near t).take i).foldl (Pl.cv n) (r.reverse,I)).2))) (H' l=some (.lst (ni (((S.near t).take i).foldl (Pl.cv n) (r.reverse,I)).1))))
     ⟨_,Z,s4,(by rw[Qh aa];exact af),Qe⟩ (fun i σ H' _ ⟨_,_,s5,_,_⟩=>(B.same s5).at_ t a ha) ?_ ?_⟩
    ·rintro i x σ H3 hx ⟨au,rfl,s5,G,J⟩
     have hi:i<(S.near t).length:=by have:=(List.getElem?_eq_some_iff.1 hx).1;simpa [ni] using this
     obtain⟨rfl⟩:x=V.int ((S.near t)[i]:Int):=by unfold ni at hx;rw[xL,xF hi]at hx;exact(Wo hx).symm
     have et:(S.near t).take (i+1)=(S.near t).take i++[(S.near t)[i]]:=by rw[Ug hi]
     have az:=zw hL (xR hi);obtain⟨Ri,ei⟩:=Pl.dQ ((S.near t).take i) R0 (fun j hj=>zw hL (Up hj));have av:=Wn Qay Ri.ws;rw[List.length_reverse]at av;generalize aw:((S.near t).take i).foldl (Pl.cv n) (r.reverse,I)=ac at *
     have step:((S.near t).take (i+1)).foldl (Pl.cv n) (r.reverse,I)=Pl.cv n ac (S.near t)[i]:=by rw[et,List.foldl_append,aw];rfl
     have ax:ac.2.length<=S.pts.length:=by
      have:=Pl.bP (l:=ac.2) (m:=xP S.pts.length) Ri.nd (fun x hx=>List.mem_range.2 (Ri.lt x hx))
      rwa [U6]at this
     have ay:ac.1.length<=200000:=by have z:=hZ.1;simp at hm;lia
     refine⟨_,Z,_,Z,Z,_,Z,Qz (fun h2=>?_) (fun h2=>?_)⟩
     ·have h2:¬ ((S.near t)[i]:Int)=n:=by simpa using h2
      refine⟨_,Z,_,Z,g,_,Z,Z6.k (k:=Sum.inl ((S.near t)[i]:Int)) G,_,Z,Qz (fun O=>?_) (fun O=>?_)⟩
      ·rw[qg] at O;have O:(S.near t)[i]∉ac.2:=by simpa using O
       refine⟨_,Z,_,Z,g,_,Z,yM.k (k:=Sum.inl ((S.near t)[i]:Int)) G (by simp[a'];exact xZ (xM ax hZ.1) Wa),?_⟩;rw[vR O];have ak:(upd H3 g (.dK (a' (ac.2++[(S.near t)[i]])))) l=some (.lst (ni ac.1)):=by rw[Qh (fun e=>aa e.symm)];exact J
       refine⟨_,Z,.inl ⟨Z,_,ba.of ak⟩,_,Z,l,_,_,Z,Z,ak,(by simp[ni];exact xZ ay Wa),?_⟩;refine⟨_,Z,fun c o e=>?_,?_,?_⟩
       ·rw[Qh (Qg e fl),Qh (Qg e hg)];exact s5 c o e
       ·rw[Qh aa,Qe,step];unfold Pl.cv;rw[Wi ⟨h2,O⟩]
       ·rw[Qe,step];unfold Pl.cv;rw[Wi ⟨h2,O⟩];simp[ni]
      ·rw[qg] at O;have O:(S.near t)[i]∈ac.2:=by simpa using O
       refine⟨_,Z,s5,?_,?_⟩
       ·rw[step];unfold Pl.cv;rw[Wh (fun z=>z.2 O)];exact G
       ·rw[step];unfold Pl.cv;rw[Wh (fun z=>z.2 O)];exact J
     ·have h2:((S.near t)[i]:Int)=n:=by simpa using h2
      refine⟨_,Z,s5,?_,?_⟩
      ·rw[step];unfold Pl.cv;rw[Wh (fun z=>z.1 h2)];exact G
      ·rw[step];unfold Pl.cv;rw[Wh (fun z=>z.1 h2)];exact J
    ·rintro σ H3 ⟨au,rfl,s5,G,J⟩;have e:(ni (S.near t)).length=(S.near t).length:=by simp[ni]
     rw[e,GC]at G J;obtain⟨R1,e1⟩:=Pl.dQ (S.near t) R0 (fun j hj=>zw hL hj);refine⟨_,_,_,_,_,_,Z,s5,G,J,R1,?_,?_⟩
     ·rw[<-hR,Pl.de,Pl.dv,Wi ai]
     ·refine⟨?_,by lia⟩;rw[e1];simp at hm;lia
 ·have h1:¬ (0:Int)<((ni ws).length:Int):=fun z=>h1 (Wk z);have wl:(ni ws).length=ws.length:=by simp[ni]
  rw[wl]at h1;have w0:ws=[]:=List.eq_nil_of_length_eq_zero L
  have t0:todo=[]:=by have:=R.ws;rw[w0]at this;exact List.reverse_eq_nil_iff.1 this.symm
  subst w0 t0;rw[kd]at hR;refine⟨_,Z,?_⟩;exact k H2 g I seen s3 af R hR
def Ht(S:Plan):Prop:=X5 S/\Jj S/\2<=S.pts.length
theorem sD(n:Nat):Vq S n 0 (Gg n)=Uv S (n+1) [0] (JV n (-1) 0):=by unfold Vq JV;lia
theorem gk (near:Array (List Nat)) (n i:Nat):V5 near n i=(Uv near (n+1) [if i=0 then 1 else 0] (JV n (i:Int) (if i=0 then 1 else 0))).contains false:=by unfold V5 Vq JV;rw[Wi (c:=0<=(i:Int)) L,Uc]
theorem CH(F:bG K "unreached_point" "unreached_point" AO f fd)(T:Xc K mg C)(U:Txt K mg) (gn:GI mg "NO_POINT" (-1)) (M:XS P w K mg base C 1 "point_place" ["self","number"] gW) (N:XS P w K mg base C 1 "neighbours" ["self"] (oh K C))
  (R:bu P w K mg base 1 "reached" ["beside","start","barred"] (zk K)):QC P w K mg base bD 2 f fd ["drawing"] (XT K C Ht YY):=by
 obtain⟨fm,ac,hm,bm,G⟩:=M.ex;obtain⟨fn,ad,hn,bn,GN⟩:=N.ex;apply F.bM sG;rintro _ H Q E ⟨d,S,dx,lp,ll,lm,ap,al,am,rfl,D,⟨hL,hZ,h2⟩,k⟩;refine⟨Z,fun _ _ _ _ hr=>?_⟩;have hu:=Jd hr
 refine⟨_,Qb (bA 1 sG.nd (Qs R hr (Qa (Yo (pv 0) T.cl hn GN hr bn .nil Zc) (Qa Qi (Qa (QP gn) Qc)))))
  (Qb (QL PassesOwn.never Z (Jq Z U.range (Qa (Qx Qp Wg U.len Wx (Qa (Qw (pv 0) Z) Qc)) Qc)) (b0 2 sG.nd)
   (Qd (QD (Q7 (qB hu (pv 2) (pv 1)))
    (Qd (Qj (Q5 (pv 0) T.cl hm G hr bm .nil Zc (Qa (pv 2) Qc)))) Qq)))
  (Qd (Qj QT))),?_⟩
 have aa:=Xs S.w S.h lp ll lm (m := "point_place") Wb Wb Wb Wb Wb;have J:=Xs S.w S.h lp ll lm (m := "neighbours") Wb Wb Wb Wb Wb;refine⟨_,Z,d,dx,_,Z,D.ins,J,d,S,dx,lp,ll,lm,ap,al,am,Z,D,hL,hZ,fun H1 b as s1 B=>?_⟩;refine⟨b,as,S,_,_,0,Z,Z,B,hL,hZ,by lia,by decide,fun H2 g fk seen ab hg SR z=>?_⟩;have s2:=s1.trans ab;have D2:=D.same s2;have I:((ap.map V.ref).length:Int)=S.pts.length:=by rw[xD,D.pts.len,xD]
 rw[<-sD]at z;have hz:=hZ.1
 refine⟨_,Z,d,C,dx,_,_,Z,D2.ins,T.cl,T.nP,XN _ _ _ _ _,lp,_,Z,.inl D2.pts.lst,_,Z,by rw[I];lia,by rw[I];lia,Jv (lo:=0) (n:=(((ap.map V.ref).length:Nat):Int).toNat) (fun i σ H'=>∃v2:Option V,eC (σ=[some (.ref d),some (.ref g),v2]) (Qn H2 H') (∀j,j<i->(!(seen.getD j false))=false))
  ⟨none,Z,Qn.refl _,fun j hj=>by lia⟩ ?_ ?_⟩
 ·rintro i σ H3 hi ⟨v2,rfl,O,hb⟩
  have hi:i<S.pts.length:=by lia
  have ei:(0:Int)+(i:Int)=(i:Int):=by lia
  rw[ei];have en:=Pl.pY SR i hi L;refine⟨_,Z,_,Z,g,_,Z,Z6.k (k:=Sum.inl (i:Int)) (O _ _ hg),_,Z,Qz (fun h1=>?_) (fun h1=>?_)⟩
  ·rw[qg] at h1;have h1:i∉fk:=by simpa using h1
   have s4:=s2.trans O;refine⟨_,Z,d,dx,_,Z,(D.same s4).ins,aa,_,Z,_,_,i,Z,Z,?_⟩
   have hf:seen.getD i false=false:=by lia
   have e:YY S=some (Vc i):=by unfold YY;rw[<-z,Zt hi (by rw[hf];rfl) hb];rfl
   have:=k H3 s4;rw[e]at this;exact this
  ·rw[qg] at h1;have h1:i∈fk:=by simpa using h1
   refine⟨_,Z,O,fun j hj=>?_⟩;grind
 ·rintro σ H3 ⟨v2,rfl,O,hb⟩;have:((ap.map V.ref).length:Int).toNat=S.pts.length:=by rw[I];simp
  rw[this]at hb
  have e:YY S=none:=by unfold YY;grind
  have:=k H3 (s2.trans O);rw[e]at this;exact this
theorem vI(F:bG K "parting_point" "parting_point" tN f fd)(T:Xc K mg C)(U:Txt K mg)(M:XS P w K mg base C 1 "point_place" ["self","number"] gW) (N:XS P w K mg base C 1 "neighbours" ["self"] (oh K C))
  (R:bu P w K mg base 1 "reached" ["beside","start","barred"] (zk K)):QC P w K mg base bD 2 f fd ["drawing"] (XT K C Ht Z9):=by
 obtain⟨fm,af,hm,bm,G⟩:=M.ex;obtain⟨fn,ag,hn,bn,GN⟩:=N.ex;apply F.bM jM;rintro _ H Q E ⟨d,S,dx,lp,ll,lm,ap,al,am,rfl,D,⟨hL,hZ,h2⟩,k⟩;refine⟨Z,fun _ _ _ _ hr=>?_⟩
 refine⟨_,Qb (bA 1 jM.nd (Yo (pv 0) T.cl hn GN hr bn .nil Zc))
  (Qb (QL PassesOwn.never Z (Jq Z U.range (Qa (Qx Qp Wg U.len Wx (Qa (Qw (pv 0) Z) Qc)) Qc)) (b0 2 jM.nd)
   (Qb (bA 3 jM.nd (XI (Qt XM (pv 2) Qi (Qo _)) Qi Qi))
   (Qd (QD (Qt ZE (Qx oH Wg U.len Wx (Qa (Qs R hr (Qa (pv 1) (Qa (pv 3) (Qa (pv 2) Qc)))) Qc)) (QA Xl (Qx Qp Wg U.len Wx (Qa (Qw (pv 0) Z) Qc)) Qi) (Qo _))
    (Qd (Qj (Q5 (pv 0) T.cl hm G hr bm .nil Zc (Qa (pv 2) Qc)))) Qq))))
  (Qd (Qj QT))),?_⟩
 have ac:=Xs S.w S.h lp ll lm (m := "point_place") Wb Wb Wb Wb Wb;have ad:=Xs S.w S.h lp ll lm (m := "neighbours") Wb Wb Wb Wb Wb;refine⟨_,Z,d,dx,_,Z,D.ins,ad,d,S,dx,lp,ll,lm,ap,al,am,Z,D,hL,hZ,fun H1 b as s1 B=>?_⟩;have D1:=D.same s1;have I:((ap.map V.ref).length:Int)=S.pts.length:=by rw[xD,D.pts.len,xD]
 have hz:=hZ.1
 refine⟨_,Z,d,C,dx,_,_,Z,D1.ins,T.cl,T.nP,XN _ _ _ _ _,lp,_,Z,.inl D1.pts.lst,_,Z,by rw[I];lia,by rw[I];lia,Jv (lo:=0) (n:=(((ap.map V.ref).length:Nat):Int).toNat) (fun i σ H'=>uk fun(v2 v3:Option V)=>eC (σ=[some (.ref d),some (.ref b),v2,v3]) (Qn H1 H') (∀j,j<i->V5 S.nears S.pts.length j=false))
  ⟨none,none,Z,Qn.refl _,fun j hj=>by lia⟩ ?_ ?_⟩
 ·rintro i σ H2 hi ⟨v2,v3,rfl,s2,hb⟩
  have hi:i<S.pts.length:=by lia
  have ei:(0:Int)+(i:Int)=(i:Int):=by lia
  rw[ei];refine⟨_,Z,Z,_,Z,Qz (fun h0=>?_) (fun h0=>?_)⟩
  ·have h0:(i:Int)=0:=by simpa using h0
   have aa:i=0:=by lia
   refine⟨_,Z,_,Z,_,Z,b,as,S,_,_,1,Z,Z,B.same s2,hL,hZ,by lia,by lia,fun H3 g O seen ab hg SR J=>?_⟩;have s3:=s2.trans ab;have D3:=D1.same s3;have cu:=Pl.eO hi SR
   have ec:V5 S.nears S.pts.length i=seen.contains false:=by rw[gk,J,Wi aa]
   refine⟨g,_,Z,hg,_,Z,d,C,dx,_,_,Z,D3.ins,T.cl,T.nP,XN _ _ _ _ _,lp,_,Z,.inl D3.pts.lst,_,_,Z,Z,_,_,Z,Z,_,Z,Qz (fun h1=>?_) (fun h1=>?_)⟩
   ·have h1:((a' O).length:Int)<((ap.map V.ref).length:Int)-1:=Wj h1;rw[I,show (a' O).length=O.length by simp[a']] at h1;have s4:=s1.trans s3;refine⟨_,Z,d,dx,_,Z,(D.same s4).ins,ac,_,Z,_,_,i,Z,Z,?_⟩
    have e:Z9 S=some (Vc i):=by unfold Z9;rw[Zt hi (by rw[ec];exact cu.2 L) hb];rfl
    have:=k H3 s4;rw[e]at this;exact this
   ·have h1:¬((a' O).length:Int)<((ap.map V.ref).length:Int)-1:=fun z=>h1 (Wk z);rw[I,show(a' O).length=O.length by simp[a']]at h1;refine⟨_,_,Z,s3,fun j hj=>?_⟩;grind
  ·have h0:¬ (i:Int)=0:=by simpa using h0
   have aa:¬i=0:=by lia
   refine⟨_,Z,_,Z,_,Z,b,as,S,_,_,0,Z,Z,B.same s2,hL,hZ,by lia,by lia,fun H3 g O seen ab hg SR J=>?_⟩;have s3:=s2.trans ab;have D3:=D1.same s3;have cu:=Pl.eO hi SR
   have ec:V5 S.nears S.pts.length i=seen.contains false:=by rw[gk,J,Wh aa]
   refine⟨g,_,Z,hg,_,Z,d,C,dx,_,_,Z,D3.ins,T.cl,T.nP,XN _ _ _ _ _,lp,_,Z,.inl D3.pts.lst,_,_,Z,Z,_,_,Z,Z,_,Z,Qz (fun h1=>?_) (fun h1=>?_)⟩
   ·have h1:((a' O).length:Int)<((ap.map V.ref).length:Int)-1:=Wj h1;rw[I,show (a' O).length=O.length by simp[a']] at h1;have s4:=s1.trans s3;refine⟨_,Z,d,dx,_,Z,(D.same s4).ins,ac,_,Z,_,_,i,Z,Z,?_⟩
    have e:Z9 S=some (Vc i):=by unfold Z9;rw[Zt hi (by rw[ec];exact cu.2 L) hb];rfl
    have:=k H3 s4;rw[e]at this;exact this
   ·have h1:¬((a' O).length:Int)<((ap.map V.ref).length:Int)-1:=fun z=>h1 (Wk z);rw[I,show(a' O).length=O.length by simp[a']]at h1;refine⟨_,_,Z,s3,fun j hj=>?_⟩;grind
 ·rintro σ H2 ⟨v2,v3,rfl,s2,hb⟩;have:((ap.map V.ref).length:Int).toNat=S.pts.length:=by rw[I];simp
  rw[this]at hb
  have e:Z9 S=none:=by unfold Z9;grind
  have:=k H2 (s1.trans s2);rw[e]at this;exact this
open Gla (Pt Plan Mark)
def Dn(S:Plan)(z:Pt):Bool:=(decide (0<z.x)&&decide (z.x<S.w))&&(decide (0<z.y)&&decide (z.y<S.h))
theorem yu(S:Plan)(z:Pt):U4 S z=(Dn S z&&!Gla.onLines S z):=by unfold U4 Dn;lia
def X6(S:Plan):Option Nat:=(Um (Gla.markOk S) Gla.markBelow S.marks).map (Vd S)
def Yr(S:Plan)(i:Nat)(m:Mark):Bool:=!(U4 S m.at_)||(decide (0<i)&&(match S.marks[i-1]? with
 |some y=>!(y.at_.below m.at_)
 |none=>false))
theorem yZ(S:Plan):X6 S=(Ge (Yr S) S.marks).map (Vd S):=by unfold X6 Um;congr 2;funext i x;unfold Yr;cases S.marks[i-1]?<;>rfl
inductive C4(K:xB)(C:Addr)(vs:List V)(H:Hp)(Q:VK)(E:XK):Prop
 |mk (d a:Addr) (z:Pt) (S:Plan) (dx lp ll lm:Addr) (ap al am:List Addr):vs=[.ref d,.ref a]->Dw K C H d S dx lp ll lm ap al am->Xj K H a z->Q (.bl (Dn S z)) H->C4 K C vs H Q E
inductive sh(K:xB)(C:Addr)(vs:List V)(H:Hp)(Q:VK)(E:XK):Prop
 |mk (d a:Addr) (z:Pt) (S:Plan) (dx lp ll lm:Addr) (ap al am:List Addr):vs=[.ref d,.ref a]->Dw K C H d S dx lp ll lm ap al am->Xj K H a z->Sm z->nX S->(∀H',Qn H H'->Q (.bl (VQ S z)) H')->sh K C vs H Q E
abbrev Kv:Stmt:=top 33
abbrev BL:Stmt:=top 34
abbrev Ic:Stmt:=top 35
theorem Kk:a7 ["drawing","mark"] ["drawing","mark"] (a6 Kv):=.mk'
theorem wU:a7 ["drawing","mark","line"] ["drawing","mark"] (a6 BL):=.mk'
theorem AN:a7 ["drawing","number","mark"] ["drawing"] (a6 Ic):=.mk'
theorem Fg(F:bG K "is_within_frame" "is_within_frame" Kv f fd)(T:Xc K mg C):QC P w K mg base bD 1 f fd ["drawing","mark"] (C4 K C):=by
 apply F.bM Kk;rintro _ H Q E ⟨d,a,z,S,dx,lp,ll,lm,ap,al,am,rfl,D,hz,k⟩;refine⟨Z,fun _ _ _ _ _=>?_⟩
 refine⟨_,Qb (QD (Xq (Qt jc (QX 1) Qi (Qo _)) (ZM (Qt fM (QX 1) (Qw (pv 0) Z) (Qo _)))).pt (Qd (Qj Xh)) Qq)
  (Qd (Qj (Y6 (QM Zn (Q6 1) Qi (Qo _)) (Y5 (QM ZE (Q6 1) (Qw (pv 0) Z) (Qo _)))))),?_⟩
 unfold Dn at k;refine⟨a,_,_,Z,hz,_,_,Z,Z,_,Z,Qz (fun h1=>ZG ?_) (fun h1=>?_)⟩
 ·have h1:(z.x:Int)<=0:=Wj h1;rw[Wl (show ¬0<z.x by lia),V2,V2]at k;exact k
 ·have h1:¬ (z.x:Int)<=0:=fun q=>h1 (Wk q);rw[Wk (show 0<z.x by lia),UD] at k;refine⟨a,_,_,Z,hz,_,Z,d,C,dx,_,_,Z,D.ins,T.cl,T.nW,tY _ _ _ _ _,_,_,Z,Z,_,Z,Qz (fun h2=>?_) (fun h2=>?_)⟩
  ·have h2:(S.w:Int)<=z.x:=Wj h2;rw[Wl (show ¬z.x<S.w by lia),V2]at k;exact k
  ·have h2:¬ (S.w:Int)<=z.x:=fun q=>h2 (Wk q);rw[Wk (show z.x<S.w by lia),UD] at k;refine⟨a,_,_,Z,hz,_,_,Z,Z,_,Z,Qz (fun j=>?_) (fun j=>?_)⟩
   ·have j:(0:Int)<z.y:=Wj j;rw[Wk (show 0<z.y by lia),UD]at k;refine⟨a,_,_,Z,hz,_,Z,d,C,dx,_,_,Z,D.ins,T.cl,T.nH,rK _ _ _ _ _,_,_,Z,Z,?_⟩;rw[show decide (z.y<S.h)=decide ((z.y:Int)<(S.h:Int)) by rw[decide_eq_decide];lia]at k;exact k
   grind
theorem AG(F:bG K "is_on_some_line" "is_on_some_line" BL f fd)(T:Xc K mg C) (B:bu P w K mg base 2 "is_on" ["point","start","end"] (uT K)):QC P w K mg base bD 3 f fd ["drawing","mark"] (sh K C):=by
 apply F.bM wU;rintro _ H Q E ⟨d,a,z,S,dx,lp,ll,lm,ap,al,am,rfl,D,hz,sz,O,k⟩;refine⟨Z,fun _ _ _ _ hr=>?_⟩
 refine⟨_,Qb (QL PassesOwn.never Z (Q4 (Qw (pv 0) Z)) (b0 2 wU.nd)
   (Qd (QD (Zd (Qs B hr (Qa (pv 1) (Qa (Qy QE (Qw (pv 0) Z) (QX 2) (fun _ _=>rfl)) (Qa (Qy QE (Qw (pv 0) Z) (Q6 2) (fun _ _=>rfl)) Qc))))) (Qd (Qj Xh)) Qq)))
  (Qd (Qj Xh)),?_⟩
 refine⟨_,Z,d,C,dx,_,_,Z,D.ins,T.cl,T.nL,yr _ _ _ _ _,ll,Z,⟨_,D.cG.lst⟩,Zs (K:=K) (a:=ll) (xs:=al.map V.ref) (fun i σ H'=>∃G:Option V,σ=[some (.ref d),some (.ref a),G]/\H'=H/\∀m,m<i->(hm:m<S.lines.length)->Uq (S.pt S.lines[m].1) (S.pt S.lines[m].2) z=false)
  ⟨none,Z,Z,fun j I=>by lia⟩ (fun i σ H' _ ⟨_,_,e,_⟩=>by rw[e];exact D.cG.lst) ?_ ?_⟩
 ·rintro i x σ H1 hx ⟨G,rfl,rfl,n⟩;obtain⟨c,hc,rfl⟩:=Zm hx;obtain⟨hi,hp⟩:=D.ln hc;obtain⟨g1,J⟩:=O.cG S.lines[i] (xR hi);obtain⟨e1,U,aa⟩:=D.eV (i:=S.lines[i].1) L;obtain⟨e2,ab,ac⟩:=D.eV (i:=S.lines[i].2) J
  refine⟨_,Z,_,Z,d,C,dx,_,_,Z,D.ins,T.cl,T.nP,XN _ _ _ _ _,c,_,_,Z,hp,lp,_,_,_,Z,Z,D.pts.lst,Qm (j:=S.lines[i].1) (v:=V.ref e1) (by rw[xL,U];rfl),
   _,Z,d,C,dx,_,_,Z,D.ins,T.cl,T.nP,XN _ _ _ _ _,c,_,_,Z,hp,lp,_,_,_,Z,Z,D.pts.lst,Qm (j:=S.lines[i].2) (v:=V.ref e2) (by rw[xL,ab];rfl),
   a,e1,e2,z,S.pts[S.lines[i].1]'(by lia),S.pts[S.lines[i].2],Z,hz,aa,ac,O.sm _ (xR _),O.sm _ (xR _),sz,_,Z,Qz (fun h3=>?_) (fun h3=>?_)⟩
  ·have e:VQ S z=true:=by unfold VQ;rw[UT];refine⟨S.lines[i],xR _,?_⟩;rw[Pl.bF (i:=S.lines[i].1) L,Pl.bF J];exact h3
   have:=k _ (Qn.refl _);rw[e]at this;exact this
  ·refine⟨_,Z,Z,fun m hm ad=>?_⟩;by_cases q:m=i
   ·subst q;rw[Pl.bF (i:=S.lines[m].1) L,Pl.bF J];simpa using h3
   ·exact n m L ad
 ·rintro σ H1 ⟨G,rfl,rfl,n⟩;rw[xD,D.cG.len] at n
  have e:VQ S z=false:=by unfold VQ;rw[UI];intro l hl;obtain⟨j,I,rfl⟩:=List.mem_iff_getElem.1 hl;simpa using n j I I
  have:=k _ (Qn.refl _);rw[e]at this;exact this
theorem E5(F:bG K "wrong_mark" "wrong_mark" Ic f fd)(T:Xc K mg C)(U:Txt K mg) (M:XS P w K mg base C 3 "mark_place" ["self","number"] (nO K C)) (B1:bu P w K mg base 1 "is_within_frame" ["drawing","mark"] (C4 K C)) (B2:bu P w K mg base 3 "is_on_some_line" ["drawing","mark"] (sh K C))
  (B3:bu P w K mg base 1 "comes_behind" ["later","earlier"] (J5 K)):QC P w K mg base bD 4 f fd ["drawing"] (XT K C nX X6):=by
 obtain⟨fm,aj,hm,bm,G⟩:=M.ex;apply F.bM AN;rintro _ H Q E ⟨d,S,dx,lp,ll,lm,ap,al,am,rfl,D,O,k⟩;refine⟨Z,fun _ _ _ _ hr=>?_⟩
 refine⟨_,Qb (QL PassesOwn.never Z (Jr Z U.enum (Qa (Qw (pv 0) Z) Qc)) (ZF (n:=2) Z (QF (b0 1 AN.nd) (QF (b0 2 AN.nd) Zl)))
   (Qb (QD (Xq (X7 (Zd (Qs B1 (hr.mono Wa) (Qa (pv 0) (Qa (pv 2) Qc))))) (ZM (Zd (Qs B2 hr (Qa (pv 0) (Qa (pv 2) Qc)))))).pt
    (Qd (Qj (Q5 (pv 0) T.cl hm G hr bm .nil Zc (Qa (pv 1) Qc)))) Qq)
   (Qd (QD (Y2 (Qt Zn (pv 1) Qi (Qo _)) (XY (X7 (Zd (Qs B3 (hr.mono Wa) (Qa (pv 2) (Qa (Qy QE (Qw (pv 0) Z) (QA Xl (pv 1) Qi) (fun _ _=>rfl)) Qc))))))).pt
    (Qd (Qj (Q5 (pv 0) T.cl hm G hr bm .nil Zc (Qa (pv 1) Qc)))) Qq))))
  (Qd (Qj QT)),?_⟩
 have ac:=Xs S.w S.h lp ll lm (m := "mark_place") Wb Wb Wb Wb Wb
 refine⟨_,Z,d,C,dx,_,_,Z,D.ins,T.cl,T.nM,sQ _ _ _ _ _,lm,_,Z,D.mrk.lst,Yp (K:=K) (a:=lm) (xs:=am.map V.ref) (fun i σ H'=>∃v1 v2:Option V,σ=[some (.ref d),v1,v2]/\Qn H H'/\∀j (hj:j<i) (hl:j<S.marks.length),Yr S j S.marks[j]=false)
  ⟨none,none,Z,Qn.refl H,fun j hj=>by lia⟩ (fun i σ H' _ ⟨_,_,_,s1,_⟩=>(D.same s1).mrk.lst) ?_ ?_⟩
 ·rintro i x σ H1 H2 hx ⟨v1,v2,rfl,s1,hb⟩ ad;obtain⟨c,hc,rfl⟩:=Zm hx;have s2:=s1.trans ad;have D2:=D.same s2;obtain⟨hi,hp⟩:=D2.IV hc
  have ret:∀B,Qn H B->Yr S i S.marks[i]=true->pF (yQ C "mark_place" (nO K C) [] E0 (ZH 0) (YF (ZH 1) jA)) { nx:=fun _ H'=>Q V.bQ H',rt:=Q } [some (.ref d),some (.int (i:Int)),some (.ref c)] B:=fun B I aa=>by
   have J:=D.same I;refine⟨_,Z,d,dx,_,Z,J.ins,ac,_,Z,d,_,i,S,dx,lp,ll,lm,ap,al,am,Z,Z,J,?_⟩
   have e:X6 S=some (Vd S i):=by rw[yZ,Zq (p:=Yr S) (l:=S.marks) hi aa (fun j hj=>hb j hj L)];rfl
   have:=k B I;rw[e]at this;exact this
  have good:∀B,Qn H B->Yr S i S.marks[i]=false->∃v1 v2:Option V,[some (V.ref d),some (V.int (i:Int)),some (V.ref c)]=[some (.ref d),v1,v2]/\Qn H B/\∀j (hj:j<i+1) (hl:j<S.marks.length),Yr S j S.marks[j]=false:=fun B I hg=>by
   grind
  refine⟨_,Z,_,Z,d,c,S.marks[i].at_,S,dx,lp,ll,lm,ap,al,am,Z,D2,hp,_,Z,Qz (fun h1=>ZG (ret H2 s2 ?_)) (fun h1=>?_)⟩
  ·have h1:Dn S S.marks[i].at_=false:=by simpa using h1
   unfold Yr;rw[yu,h1];rfl
  ·have h1:Dn S S.marks[i].at_=true:=by simpa using h1
   refine⟨_,Z,_,Z,d,c,S.marks[i].at_,S,dx,lp,ll,lm,ap,al,am,Z,D2,hp,O.smm _ (xR _),O,fun B ab=>⟨_,Z,?_⟩⟩;have I:=s2.trans ab;have J:=D.same I;have af:Xj K B c S.marks[i].at_:=Qn.tup ab hp;refine Qz (fun h2=>ret B I ?_) (fun h2=>?_)
   ·unfold Yr;rw[yu,h1,h2];rfl
   ·have h2:VQ S S.marks[i].at_=false:=by simpa using h2
    have ak:U4 S S.marks[i].at_=true:=by rw[yu,h1,h2];rfl
    refine⟨_,Z,_,_,Z,Z,_,Z,Qz (fun h3=>?_) (fun h3=>?_)⟩
    ·have h3:(0:Int)<i:=Wj h3;obtain⟨c',ag,ah⟩:=J.Kg (i:=i-1) L;have ai:S.marks[i-1]?=some (S.marks[i-1]'(by lia)):=xF _;refine⟨_,Z,_,Z,d,C,dx,_,_,Z,J.ins,T.cl,T.nM,sQ _ _ _ _ _,_,Z,_,_,Z,Z,lm,_,_,_,Z,Z,J.mrk.lst,at_of (j:=i-1) (v:=V.ref c') L (by rw[xL,ag];rfl),c,c',_,_,Z,af,ah,_,Z,Qz (fun h4=>ret B I ?_) (fun h4=>good B I ?_)⟩
     ·unfold Yr;lia
     ·unfold Yr;lia
    ·have h3:¬(0:Int)<i:=fun z=>h3 (Wk z);refine good B I ?_;unfold Yr;lia
 ·rintro σ H1 ⟨v1,v2,rfl,s1,hb⟩
  have e:X6 S=none:=by have:Ge (Yr S) S.marks=none:=Pl.bx.2 fun i hi=>hb i (by rw[xD,D.mrk.len,xD];exact hi) hi;rw[yZ,this];rfl
  have:=k H1 s1;rw[e]at this;exact this
def Pr(H:Hp)(a:Addr)(s:WA):Prop:=H a=some (.tup [.int (s.1:Int),.int (s.2:Int)])
theorem Pr.sq{H:Hp}{s:WA}(h:Pr H a s):bY K H a [.int (s.1:Int),.int (s.2:Int)]:=bY.of h
structure yC(K:xB)(H:Hp)(l:Addr)(ap:List Addr)(S:Plan):Prop where
 prs:qZ K H l ap (S.pts.map xy)
theorem yC.same{H H':Hp}{l:Addr}{ap:List Addr}{S:Plan}(h:yC K H l ap S)(e:Qn H H'):yC K H' l ap S:=⟨h.prs.same e⟩
theorem yC.at'{H:Hp}{l:Addr}{ap:List Addr}{S:Plan}(h:yC K H l ap S){i:Nat}(hi:i<S.pts.length):∃a,(ap.map V.ref)[i]?=some (V.ref a)/\Xj K H a (S.pt i):=by have hl:=h.prs.len;rw[xD]at hl;obtain⟨a,j⟩:∃a,ap[i]?=some a:=⟨ap[i]'(by lia),xF _⟩;refine⟨a,by rw[xL,j];rfl,?_⟩;rw[Pl.bF hi];exact bY.of (h.prs.at_ i a (xy S.pts[i]) j (by rw[xL,xF hi];rfl))
theorem ZQ{S:Plan}(h:∀p∈S.pts,Sm p)(i:Nat):Sm (S.pt i):=by
 by_cases hi:i<S.pts.length
 ·rw[Pl.bF hi];exact h _ (xR hi)
 ·unfold Plan.pt;rw[Gv,Ue L];exact⟨by decide,by decide⟩
inductive vt(K:xB)(vs:List V)(H:Hp)(Q:VK)(E:XK):Prop
 |mk (l a c:Addr) (ap:List Addr) (S:Plan) (s:WA) (z:Pt):vs=[.ref l,.ref a,.ref c]->yC K H l ap S->Pr H a s->Xj K H c z->Sm z->((∀p∈S.pts,Sm p))->s.1<S.pts.length->s.2<S.pts.length->Q (.bl (Pl.bf S s z)) H->vt K vs H Q E
inductive wO(K:xB)(vs:List V)(H:Hp)(Q:VK)(E:XK):Prop
 |mk (l a c:Addr) (ap:List Addr) (S:Plan) (s o:WA):vs=[.ref l,.ref a,.ref c]->yC K H l ap S->Pr H a s->Pr H c o->((∀p∈S.pts,Sm p))->s.1<S.pts.length->s.2<S.pts.length->o.1<S.pts.length->o.2<S.pts.length->Q (.bl (Pl.bT S s o)) H->wO K vs H Q E
def Yc(H:Hp)(v:V) (b:Option WA):Prop:=match b with
 |none=>v=.bQ
 |some s=>∃a,v=.ref a/\Pr H a s
inductive Cd(K:xB)(C:Addr)(vs:List V)(H:Hp)(Q:VK)(E:XK):Prop
 |mk (d a:Addr) (z:Pt) (S:Plan) (dx lp ll lm:Addr) (ap al am:List Addr):vs=[.ref d,.ref a]->Dw K C H d S dx lp ll lm ap al am->Xj K H a z->Sm z->nX S->(∀H' v,Qn H H'->Yc H' v (S.lines.foldl (Pl.bb S z) none)->Q v H')->Cd K C vs H Q E
abbrev HU:Stmt:=top 36
abbrev IT:Stmt:=top 37
abbrev KS:Stmt:=top 38
abbrev ud:Stmt:=top 39
theorem CN:a7 ["points","step","mark","left","right"] ["points","step","mark"] (a6 HU):=.mk'
theorem uC:a7 ["points","step","other","left","right","other_left","other_right"] ["points","step","other"] (a6 IT):=.mk'
theorem mV:a7 ["drawing","mark","points","best","line","step"] ["drawing","mark"] (a6 KS):=.mk'
theorem Bf:a7 ["number"] ["number"] (a6 ud):=.mk'
inductive iR(vs:List V)(H:Hp)(Q:VK)(E:XK):Prop
 |mk (n:Int):vs=[.int n]->Q (.int (Pl.cn n)) H->iR vs H Q E
theorem wu(F:bG K "side" "side" ud f fd):QC P w K mg base bD 1 f fd ["number"] iR:=by
 apply F.bM Bf;rintro _ H Q E ⟨n,rfl,k⟩;refine⟨Z,fun _ _ _ _ _=>?_⟩
 refine⟨_,Qb (QD (Qt Zn (pv 0) Qi (Qo _)) (Qd (Qj Qi)) Qq)
  (Qd (Qj (XI (Qt ZE (pv 0) Qi (Qo _)) (Ec Cg Qi) Qi))),?_⟩
 unfold Pl.cn at k;refine⟨_,Z,_,_,Z,Z,_,Z,Qz (fun h1=>?_) (fun h1=>?_)⟩
 ·have h1:0<n:=Wj h1;rw[Wi h1]at k;exact k
 ·have h1:¬ 0<n:=fun q=>h1 (Wk q);rw[Wh h1] at k;refine⟨_,Z,_,_,Z,Z,_,Z,Qz (fun h2=>?_) (fun h2=>?_)⟩
  ·have h2:n<0:=Wj h2;rw[Wi h2]at k;exact⟨_,Z,k⟩
  ·have h2:¬n<0:=fun q=>h2 (Wk q);rw[Wh h2]at k;exact k
theorem Fv(F:bG K "is_step_below" "is_step_below" HU f fd) (T:bu P w K mg base 1 "turn" ["first","second","third"] (JP K)):QC P w K mg base bD 2 f fd ["points","step","mark"] (vt K):=by
 apply F.bM CN;rintro _ H Q E ⟨l,a,c,ap,S,s,z,rfl,B,I,hz,sz,n,h1,h2,k⟩;refine⟨Z,fun _ _ _ _ hr=>?_⟩
 refine⟨_,Qb (bA 3 CN.nd (Qy QE (pv 0) (QX 1) (fun _ _=>rfl)))
  (Qb (bA 4 CN.nd (Qy QE (pv 0) (Q6 1) (fun _ _=>rfl)))
  (Qd (Qj (Y6 (QM jc (QX 3) (QX 2) (Qo _)) (Y6 (QM ZE (QX 2) (QX 4) (Qo _)) (Y5 (QM Zn (Qs T hr (Qa (pv 3) (Qa (pv 4) (Qa (pv 2) Qc)))) Qi (Qo _)))))))),?_⟩
 obtain⟨c1,O,J⟩:=B.at' h1;obtain⟨c2,U,p2⟩:=B.at' h2;refine⟨_,Z,a,_,_,Z,I.sq,l,_,_,_,Z,Z,B.prs.lst,Qm (j:=s.1) O,?_⟩;refine⟨_,Z,a,_,_,Z,I.sq,l,_,_,_,Z,Z,B.prs.lst,Qm (j:=s.2) U,?_⟩;unfold Pl.bf at k;refine⟨c1,_,_,Z,J,c,_,_,Z,hz,_,_,Z,Z,_,Z,Qz (fun g1=>?_) (fun g1=>?_)⟩
 ·have g1:((S.pt s.1).x:Int)<=z.x:=Wj g1;rw[Wk (show (S.pt s.1).x<=z.x by lia),UD] at k;refine⟨c,_,_,Z,hz,c2,_,_,Z,p2,_,_,Z,Z,_,Z,Qz (fun G=>?_) (fun G=>?_)⟩
  ·have G:(z.x:Int)<(S.pt s.2).x:=Wj G;rw[Wk (show z.x<(S.pt s.2).x by lia),UD]at k;exact⟨_,Z,_,Z,_,Z,c1,c2,c,_,_,_,Z,J,p2,hz,ZQ n _,ZQ n _,sz,_,_,Z,Z,k⟩
  grind
 grind
theorem DX(F:bG K "is_higher" "is_higher" IT f fd) (T:bu P w K mg base 1 "turn" ["first","second","third"] (JP K)):QC P w K mg base bD 2 f fd ["points","step","other"] (wO K):=by
 apply F.bM uC;rintro _ H Q E ⟨l,a,c,ap,S,s,o,rfl,z,J,hc,n,h1,h2,h3,h4,k⟩;refine⟨Z,fun _ _ _ _ hr=>?_⟩
 refine⟨_,Qb (bA 3 uC.nd (Qy QE (pv 0) (QX 1) (fun _ _=>rfl)))
  (Qb (bA 4 uC.nd (Qy QE (pv 0) (Q6 1) (fun _ _=>rfl)))
  (Qb (bA 5 uC.nd (Qy QE (pv 0) (QX 2) (fun _ _=>rfl)))
  (Qb (bA 6 uC.nd (Qy QE (pv 0) (Q6 2) (fun _ _=>rfl)))
  (Qb (QD (Qt XM (QX 1) (QX 2) (Qo _)) (Qd (Qj (QM Zn (Qs T hr (Qa (pv 5) (Qa (pv 6) (Qa (pv 4) Qc)))) Qi (Qo _)))) Qq)
  (Qb (QD (Qt ZE (QX 3) (QX 5) (Qo _)) (Qd (Qj (QM ZE (Qs T hr (Qa (pv 3) (Qa (pv 4) (Qa (pv 5) Qc)))) Qi (Qo _)))) Qq)
  (Qd (Qj (QM Zn (Qs T hr (Qa (pv 5) (Qa (pv 6) (Qa (pv 3) Qc)))) Qi (Qo _))))))))),?_⟩
 obtain⟨c1,e1,O⟩:=z.at' h1;obtain⟨c2,e2,p2⟩:=z.at' h2;obtain⟨G,e3,I⟩:=z.at' h3;obtain⟨U,e4,p4⟩:=z.at' h4;refine⟨_,Z,a,_,_,Z,J.sq,l,_,_,_,Z,Z,z.prs.lst,Qm (j:=s.1) e1,?_⟩;refine⟨_,Z,a,_,_,Z,J.sq,l,_,_,_,Z,Z,z.prs.lst,Qm (j:=s.2) e2,?_⟩;refine⟨_,Z,c,_,_,Z,hc.sq,l,_,_,_,Z,Z,z.prs.lst,Qm (j:=o.1) e3,?_⟩;refine⟨_,Z,c,_,_,Z,hc.sq,l,_,_,_,Z,Z,z.prs.lst,Qm (j:=o.2) e4,?_⟩;unfold Pl.bT at k;refine⟨a,_,_,Z,J.sq,c,_,_,Z,hc.sq,Z,_,Z,Qz (fun g1=>?_) (fun g1=>?_)⟩
 ·have g1:(s.1:Int)=o.1:=by simpa using g1
  rw[Wi (show s.1=o.1 by lia)]at k;exact⟨_,Z,_,Z,_,Z,G,U,c2,_,_,_,Z,I,p4,p2,ZQ n _,ZQ n _,ZQ n _,_,_,Z,Z,k⟩
 ·have g1:¬ (s.1:Int)=o.1:=by simpa using g1
  rw[Wh (show ¬s.1=o.1 by lia)]at k;refine⟨c1,_,_,Z,O,G,_,_,Z,I,_,_,Z,Z,_,Z,Qz (fun B=>?_) (fun B=>?_)⟩
  ·have B:((S.pt s.1).x:Int)<(S.pt o.1).x:=Wj B;rw[Wi (show(S.pt s.1).x<(S.pt o.1).x by lia)]at k;exact⟨_,Z,_,Z,_,Z,c1,c2,G,_,_,_,Z,O,p2,I,ZQ n _,ZQ n _,ZQ n _,_,_,Z,Z,k⟩
  ·have B:¬((S.pt s.1).x:Int)<(S.pt o.1).x:=fun q=>B (Wk q);rw[Wh (show ¬(S.pt s.1).x<(S.pt o.1).x by lia)]at k;exact⟨_,Z,_,Z,_,Z,G,U,c1,_,_,_,Z,I,p4,O,ZQ n _,ZQ n _,ZQ n _,_,_,Z,Z,k⟩
theorem Yc.same{H H':Hp}{v:V} {b:Option WA} (h:Yc H v b) (e:Qn H H'):Yc H' v b:=by
 cases b with
 |none=>exact h
 |some s=>obtain⟨a,j,n⟩:=h;exact⟨a,j,e _ _ n⟩
theorem yV{S:Plan}{l:WA}{n:Nat}(h1:l.1<n)(h2:l.2<n):(Pl.bh S l).1<n/\(Pl.bh S l).2<n:=by unfold Pl.bh;lia
theorem tw(S:Plan)(z:Pt) (b:Option WA) (l:WA):Pl.bb S z b l=some (Pl.bh S l)\/Pl.bb S z b l=b:=by
 cases b with
 | none=>
  by_cases q:(Pl.bf S (Pl.bh S l) z&&true)=true
  ·left;exact Wi q
  ·right;exact Wh q
 | some o=>
  by_cases q:(Pl.bf S (Pl.bh S l) z&&Pl.bT S (Pl.bh S l) o)=true
  ·left;exact Wi q
  ·right;exact Wh q
theorem lN{S:Plan}(B:X5 S){z:Pt}:∀(ls:List WA) (b:Option WA),(∀l∈ls,l∈S.lines)->(∀s,b=some s->s.1<S.pts.length/\s.2<S.pts.length)->∀s,ls.foldl (Pl.bb S z) b=some s->s.1<S.pts.length/\s.2<S.pts.length
 |[],b,_,n=>n
 | l::ls,b,hl,n=>by
  rw[UJ];refine lN B ls _ (fun x F=>hl x (by simp[F])) ?_;intro s j;have h:=B l (hl l We);rcases tw S z b l with e|e
  ·rw[e]at j;rw[<-Wo j];exact yV L h.2
  ·rw[e]at j;exact n s j
theorem F2(F:bG K "step_under" "step_under" KS f fd)(T:Xc K mg C) (B1:bu P w K mg base 2 "is_step_below" ["points","step","mark"] (vt K)) (B2:bu P w K mg base 2 "is_higher" ["points","step","other"] (wO K)):QC P w K mg base bD 3 f fd ["drawing","mark"] (Cd K C):=by
 apply F.bM mV;rintro _ H Q E ⟨d,a,z,S,dx,lp,ll,lm,ap,al,am,rfl,D,hz,sz,O,k⟩;refine⟨Z,fun _ _ _ s hr=>?_⟩
 refine⟨_,Qb (bA 2 mV.nd (Qw (pv 0) Z))
  (Qb (bA 3 mV.nd QT)
  (Qb (QL PassesOwn.never Z (Q4 (Qw (pv 0) Z)) (b0 4 mV.nd)
   (Qb (bA 5 mV.nd (XI (Qt ZE (Qy QO (Qy QE (pv 2) (QX 4) (fun _ _=>rfl)) Qi (fun _ _=>rfl)) (Qy QO (Qy QE (pv 2) (Q6 4) (fun _ _=>rfl)) Qi (fun _ _=>rfl)) (Qo _)) (pv 4) (Ze (Qa (Q6 4) (Qa (QX 4) Qc)))))
   (Qd (QD (Y2 (Zd (Qs B1 hr (Qa (pv 2) (Qa (pv 5) (Qa (pv 1) Qc))))) (XY (Xq (Q7 (Y7 (pv 3))) (ZM (Zd (Qs B2 hr (Qa (pv 2) (Qa (pv 5) (Qa (pv 3) Qc))))))).pt)).pt
    (Qd (bA 3 mV.nd (pv 5))) Qq))))
  (Qd (Qj (pv 3))))),?_⟩
 refine⟨_,Z,d,C,dx,_,_,Z,D.ins,T.cl,T.nP,XN _ _ _ _ _,?_⟩
 refine⟨_,Z,d,C,dx,_,_,Z,D.ins,T.cl,T.nL,yr _ _ _ _ _,ll,Z,⟨_,D.cG.lst⟩,Zs (K:=K) (a:=ll) (xs:=al.map V.ref) (fun i σ H'=>∃(B:V)(J U:Option V),σ=[some (.ref d),some (.ref a),some (.ref lp),some B,J,U]/\Qn H H'/\Yc H' B ((S.lines.take i).foldl (Pl.bb S z) none))
  ⟨_,none,none,Z,Qn.refl _,Z⟩ (fun i σ H' _ ⟨_,_,_,_,s1,_⟩=>(D.same s1).cG.lst) ?_ ?_⟩
 ·rintro i x σ H1 hx ⟨B,J,U,rfl,s1,hb⟩;obtain⟨c,hc,rfl⟩:=Zm hx;have D1:=D.same s1;obtain⟨hi,I⟩:=D1.ln hc;have ag:Pr H1 c S.lines[i]:=D1.cG.at_ i c S.lines[i] hc (xF hi);obtain⟨g1,g2⟩:=O.cG S.lines[i] (xR hi);have P1:yC K H1 lp ap S:=⟨D1.pts⟩;obtain⟨e1,ah,q1⟩:=P1.at' (i:=S.lines[i].1) L;obtain⟨e2,ai,q2⟩:=P1.at' (i:=S.lines[i].2) g2;have et:S.lines.take (i+1)=S.lines.take i++[S.lines[i]]:=by rw[Ug hi]
  have aa:(S.lines.take (i+1)).foldl (Pl.bb S z) none=Pl.bb S z ((S.lines.take i).foldl (Pl.bb S z) none) S.lines[i]:=by rw[et,List.foldl_append];rfl
  have blt:=lN O.cG (z:=z) (S.lines.take i) none (fun l hl=>Up hl) (fun s h=>by cases h);generalize (S.lines.take i).foldl (Pl.bb S z) none=best at *;obtain⟨ad,af⟩:=yV (S:=S) (l:=S.lines[i]) (n:=S.pts.length) L g2
  have JS:∀(H2:Hp)(t:Addr),Qn H1 H2->Pr H2 t (Pl.bh S S.lines[i])->
    ES (E8 (tB (mf (vt K) [] E0 (YF (ZH 2) (YF (ZH 5) (YF (ZH 1) jA))))) (KY (tB (DP (ZH 3))) (tB (mf (wO K) [] E0 (YF (ZH 2) (YF (ZH 5) (YF (ZH 3) jA))))))) (va (ZH 5) (Zz 3)) Af
     { nx:=fun σ H'=>∃(B:V)(J U:Option V),σ=[some (.ref d),some (.ref a),some (.ref lp),some B,J,U]/\Qn H H'/\Yc H' B ((S.lines.take (i+1)).foldl (Pl.bb S z) none),rt:=Q,bk:=fun _ _=>False,ct:=fun σ H'=>∃(B:V)(J U:Option V),σ=[some (.ref d),some (.ref a),some (.ref lp),some B,J,U]/\Qn H H'/\Yc H' B ((S.lines.take (i+1)).foldl (Pl.bb S z) none) }
     [some (.ref d),some (.ref a),some (.ref lp),some B,some (.ref c),some (.ref t)] H2:=by
   intro H2 t s2 ht;have G:=s1.trans s2;have P2:=P1.same s2;have ab:=hb.same s2;rw[aa];refine⟨_,Z,_,Z,_,Z,lp,t,a,ap,S,_,z,Z,P2,ht,Qn.tup G hz,sz,O.sm,ad,af,_,Z,Qz (fun h1=>?_) (fun h1=>?_)⟩
   ·cases best with
    | none=>
     have hv:B=.bQ:=ab;subst hv;refine⟨_,Z,_,Z,Qz (fun h2=>ZG ?_) (fun h2=>Wm Z h2)⟩;refine⟨_,Z,_,_,_,Z,G,?_⟩
     have e:Pl.bb S z none S.lines[i]=some (Pl.bh S S.lines[i]):=by unfold Pl.bb;simp[h1]
     rw[e];exact⟨t,Z,ht⟩
    | some o=>
     obtain⟨ao,rfl,ho⟩:=ab;obtain⟨o1,o2⟩:=blt o rfl;refine⟨_,Z,_,Z,Qz (fun h2=>Wm h2 We) (fun h2=>?_)⟩;refine⟨_,Z,_,Z,_,Z,lp,t,ao,ap,S,_,o,Z,P2,ht,ho,O.sm,ad,af,o1,o2,_,Z,Qz (fun h3=>?_) (fun h3=>?_)⟩
     ·refine⟨_,Z,_,_,_,Z,G,?_⟩
      have e:Pl.bb S z (some o) S.lines[i]=some (Pl.bh S S.lines[i]):=by unfold Pl.bb;simp[h1,h3]
      rw[e];exact⟨t,Z,ht⟩
     ·refine⟨_,_,_,Z,G,?_⟩;have h3:Pl.bT S (Pl.bh S S.lines[i]) o=false:=by simpa using h3
      have e:Pl.bb S z (some o) S.lines[i]=some o:=by unfold Pl.bb;simp[h1,h3]
      rw[e];exact⟨ao,Z,ho⟩
   ·refine⟨_,_,_,Z,G,?_⟩;have h1:Pl.bf S (Pl.bh S S.lines[i]) z=false:=by simpa using h1
    have e:Pl.bb S z best S.lines[i]=best:=by unfold Pl.bb;simp[h1]
    rw[e];exact ab
  refine⟨_,Z,c,_,_,Z,I,lp,_,_,_,Z,Z,D1.pts.lst,Qm (j:=S.lines[i].1) ah,e1,_,_,_,Z,Z,q1,Qm (j:=0) Z,
   _,Z,c,_,_,Z,I,lp,_,_,_,Z,Z,D1.pts.lst,Qm (j:=S.lines[i].2) ai,e2,_,_,_,Z,Z,q2,Qm (j:=0) Z,_,_,Z,Z,_,Z,Qz (fun h1=>?_) (fun h1=>?_)⟩
  ·have h1:((S.pt S.lines[i].1).x:Int)<(S.pt S.lines[i].2).x:=Wj h1;have ac:Pl.bh S S.lines[i]=S.lines[i]:=Wi L;exact⟨_,Z,JS H1 c (Qn.refl _) (by rw[ac];exact ag)⟩
  ·have h1:¬((S.pt S.lines[i].1).x:Int)<(S.pt S.lines[i].2).x:=fun q=>h1 (Wk q);have ac:Pl.bh S S.lines[i]=(S.lines[i].2,S.lines[i].1):=Wh L;refine⟨c,_,_,Z,I,c,_,_,Z,I,(by show 2<=sizeLine;decide),fun t ht=>?_⟩;exact JS _ t (Qk _ ht) (by rw[ac];exact Qe)
 ·rintro σ H1 ⟨B,J,U,rfl,s1,hb⟩;rw[xD,D.cG.len,GC]at hb;exact⟨_,Z,k H1 B s1 hb⟩
def Dh(s:WA):PyData:=.tuple [.int (s.1:Int),.int (s.2:Int)]
theorem Pr.dp{H:Hp}{s:WA}(h:Pr H a s):Dp K H (.ref a) (Dh s):=.tup h.sq (.cons (.int _) (.cons (.int _) .nil))
theorem zY(s:WA):SeqAt.shaped (Dh s)=true:=by unfold Dh SeqAt.shaped;rfl
theorem lK(s t:WA):PyData.eqv (Dh s) (Dh t)=decide (s=t):=by unfold Dh;rw[PyData.eqv,PyData.eqvAll,PyData.eqvAll,PyData.eqvAll,PyData.eqv,PyData.eqv,Gu];grind
inductive Ce(K:xB)(vs:List V)(H:Hp)(Q:VK)(E:XK):Prop
 |mk (l a:Addr) (ap:List Addr) (S:Plan) (s:WA) (i j:Int) (m n:Nat):vs=[.ref l,.ref a,.int i,.int j]->i=(m:Int)->j=(n:Int)->yC K H l ap S->Pr H a s->((∀p∈S.pts,Sm p))->s.1<S.pts.length->s.2<S.pts.length->m<S.pts.length->n<S.pts.length->Q (.bl (Pl.cf S s m n)) H->Ce K vs H Q E
structure nJ(S:Plan):Prop where
 good:Pl.Good S
 Dj:∀v,v<S.pts.length->2<=(S.near v).length
 sm:∀p∈S.pts,Sm p
 ok5:nX S
inductive Be(K:xB)(vs:List V)(H:Hp)(Q:VK)(E:XK):Prop
 |mk (l b a:Addr) (ap as:List Addr) (S:Plan) (s:WA):vs=[.ref l,.ref b,.ref a]->yC K H l ap S->yE K H b as S->Pr H a s->nJ S->(Pl.dr S).a5 s->(∀H' t,Qn H H'->Pr H' t (Pl.cZ S s)->Q (.ref t) H')->Be K vs H Q E
abbrev Ke:Stmt:=top 40
abbrev IM:Stmt:=top 41
abbrev CA:Stmt:=top 42
theorem sH:a7 ["points","step","one","other","back","here","one_side","other_side"] ["points","step","one","other"] (a6 Ke):=.mk'
theorem uX:a7 ["points","beside","step","best","number"] ["points","beside","step"] (a6 IM):=.mk'
theorem l5:a7 ["points","beside","first","steps","step"] ["points","beside","first"] (a6 CA):=.mk'
theorem Ep(F:bG K "is_further_left" "is_further_left" Ke f fd) (T:bu P w K mg base 1 "turn" ["first","second","third"] (JP K)) (aa:bu P w K mg base 1 "side" ["number"] iR):QC P w K mg base bD 2 f fd ["points","step","one","other"] (Ce K):=by
 apply F.bM sH;rintro _ H Q E ⟨l,a,ap,S,s,i,j,m,n,rfl,rfl,rfl,G,I,B,h1,h2,h3,h4,k⟩;refine⟨Z,fun _ _ _ _ hr=>?_⟩
 refine⟨_,Qb (bA 4 sH.nd (Qy QE (pv 0) (QX 1) (fun _ _=>rfl)))
  (Qb (bA 5 sH.nd (Qy QE (pv 0) (Q6 1) (fun _ _=>rfl)))
  (Qb (bA 6 sH.nd (Qs aa hr (Qa (Qs T hr (Qa (pv 4) (Qa (pv 5) (Qa (Qy QE (pv 0) (pv 2) (fun _ _=>rfl)) Qc)))) Qc)))
  (Qb (bA 7 sH.nd (Qs aa hr (Qa (Qs T hr (Qa (pv 4) (Qa (pv 5) (Qa (Qy QE (pv 0) (pv 3) (fun _ _=>rfl)) Qc)))) Qc)))
  (Qb (QD (Qt qb (pv 6) (pv 7) (Qo _)) (Qd (Qj (QM Zn (pv 6) (pv 7) (Qo _)))) Qq)
  (Qd (Qj (QM Zn (Qs T hr (Qa (pv 5) (Qa (Qy QE (pv 0) (pv 3) (fun _ _=>rfl)) (Qa (Qy QE (pv 0) (pv 2) (fun _ _=>rfl)) Qc)))) Qi (Qo _)))))))),?_⟩
 obtain⟨c1,e1,J⟩:=G.at' h1;obtain⟨c2,e2,p2⟩:=G.at' h2;obtain⟨O,U,p3⟩:=G.at' h3;obtain⟨c4,e4,p4⟩:=G.at' h4;refine⟨_,Z,a,_,_,Z,I.sq,l,_,_,_,Z,Z,G.prs.lst,Qm (j:=s.1) e1,?_⟩;refine⟨_,Z,a,_,_,Z,I.sq,l,_,_,_,Z,Z,G.prs.lst,Qm (j:=s.2) e2,?_⟩;refine⟨_,Z,_,Z,_,Z,_,Z,l,_,_,_,Z,Z,G.prs.lst,Qm (j:=m) U,c1,c2,O,_,_,_,Z,J,p2,p3,ZQ B _,ZQ B _,ZQ B _,_,Z,?_⟩;refine⟨_,Z,_,Z,_,Z,_,Z,l,_,_,_,Z,Z,G.prs.lst,Qm (j:=n) e4,c1,c2,c4,_,_,_,Z,J,p2,p4,ZQ B _,ZQ B _,ZQ B _,_,Z,?_⟩;unfold Pl.cf at k;refine⟨_,Z,_,Z,Z,_,Z,Qz (fun g1=>?_) (fun g1=>?_)⟩
 ·have g1:¬ Pl.cn (xN (S.pt s.1) (S.pt s.2) (S.pt m))=Pl.cn (xN (S.pt s.1) (S.pt s.2) (S.pt n)):=by simpa using g1
  rw[Wi g1]at k;exact⟨_,Z,_,Z,_,_,Z,Z,k⟩
 ·have g1:Pl.cn (xN (S.pt s.1) (S.pt s.2) (S.pt m))=Pl.cn (xN (S.pt s.1) (S.pt s.2) (S.pt n)):=by simpa using g1
  rw[Wh (fun z=>z g1)]at k;exact⟨_,Z,_,Z,_,Z,l,_,_,_,Z,Z,G.prs.lst,Qm (j:=n) e4,_,Z,_,Z,l,_,_,_,Z,Z,G.prs.lst,Qm (j:=m) U,c2,c4,O,_,_,_,Z,p2,p4,p3,ZQ B _,ZQ B _,ZQ B _,_,_,Z,Z,k⟩
theorem Ee(F:bG K "step_after" "step_after" IM f fd) (B:bu P w K mg base 2 "is_further_left" ["points","step","one","other"] (Ce K)):QC P w K mg base bD 3 f fd ["points","beside","step"] (Be K):=by
 apply F.bM uX;rintro _ H Q E ⟨l,b,a,ap,as,S,s,rfl,hP,G,J,O,hd,k⟩;refine⟨Z,fun _ _ _ _ hr=>?_⟩
 refine⟨_,Qb (bA 3 uX.nd QT)
  (Qb (QL PassesOwn.never Z (Q4 (Qy QE (pv 1) (Q6 2) (fun _ _=>rfl))) (b0 4 uX.nd)
   (Qd (QD (Y2 (Qt qb (pv 4) (QX 2) (Qo _)) (XY (Xq (Q7 (Y7 (pv 3))) (ZM (Zd (Qs B hr (Qa (pv 0) (Qa (pv 2) (Qa (pv 4) (Qa (pv 3) Qc)))))))).pt)).pt
    (Qd (bA 3 uX.nd (pv 4))) Qq)))
  (Qd (Qj (Ze (Qa (Q6 2) (Qa (pv 3) Qc)))))),?_⟩
 obtain⟨d1,d2⟩:=O.good.fine.cC hd;obtain⟨c,hc⟩:∃c,as[s.2]?=some c:=⟨as[s.2]'(by rw[G.len];exact d2),xF _⟩;have hu:=hd.rev
 refine⟨_,Z,a,_,_,Z,J.sq,b,_,_,_,Z,Z,G.lst,Qm (j:=s.2) (v:=V.ref c) (by rw[xL,hc];rfl),c,Z,⟨_,G.at_ s.2 c hc⟩,Zs (K:=K) (a:=c) (xs:=ni (S.near s.2)) (fun i σ H'=>uk fun(n:Option Nat) (v4:Option V)=>eC (σ=[some (.ref l),some (.ref b),some (.ref a),some (JD n),v4]) (H'=H) (Pl.sJ S s.1 s.2 ((S.near s.2).take i) n))
  ⟨none,none,Z,Z,⟨fun _ c hc=>by simp at hc,fun b hb=>by cases hb⟩⟩ (fun i σ H' _ ⟨_,_,_,e,_⟩=>by rw[e];exact G.at_ s.2 c hc) ?_ ?_⟩
 ·rintro i x σ H1 U ⟨n,v4,rfl,rfl,I⟩
  have hi:i<(S.near s.2).length:=by have:=(List.getElem?_eq_some_iff.1 U).1;simpa [ni] using this
  obtain⟨rfl⟩:x=V.int ((S.near s.2)[i]:Int):=by unfold ni at U;rw[xL,xF hi]at U;exact(Wo U).symm
  have et:(S.near s.2).take (i+1)=(S.near s.2).take i++[(S.near s.2)[i]]:=by rw[Ug hi]
  have hn:=O.good.fine.cp.1 (xR hi);have aa:=zw O.ok5.cG (xR hi);have st:=O.good.fine.iY hu (fun c hc=>O.good.fine.cp.1 (Up hc)) I hn;rw[et];have fin:∀z,z=Pl.cz S (s.1,s.2) n (S.near s.2)[i]->Pl.sJ S s.1 s.2 ((S.near s.2).take i++[(S.near s.2)[i]]) z:=fun z e=>by rw[e];exact st
  refine⟨_,Z,a,_,_,Z,J.sq,Z,_,Z,Qz (fun g1=>?_) (fun g1=>?_)⟩
  ·have g1:¬ ((S.near s.2)[i]:Int)=s.1:=by simpa using g1
   have ab:(S.near s.2)[i]≠s.1:=by lia
   cases n with
   | none=>
    refine⟨_,Z,_,Z,Qz (fun h2=>ZG ?_) (fun h2=>Wm Z h2)⟩;refine⟨_,Z,some (S.near s.2)[i],_,Z,Z,fin _ ?_⟩;unfold Pl.cz;rw[Wi ⟨ab,Z⟩]
   | some o=>
    have ol:o<S.pts.length:=(O.good.fine.cC (I.some_ o Z).1).2;refine⟨_,Z,_,Z,Qz (fun h2=>Wm h2 (by simp[JD])) (fun h2=>?_)⟩;refine⟨_,Z,_,Z,_,Z,_,Z,l,a,ap,S,s,_,_,(S.near s.2)[i],o,Z,Z,Z,hP,J,O.sm,d1,d2,aa,ol,_,Z,Qz (fun h3=>?_) (fun h3=>?_)⟩
    ·refine⟨_,Z,some (S.near s.2)[i],_,Z,Z,fin _ ?_⟩;unfold Pl.cz;lia
    ·refine⟨some o,_,Z,Z,fin _ ?_⟩;unfold Pl.cz;lia
  ·have g1:((S.near s.2)[i]:Int)=s.1:=by simpa using g1
   refine⟨n,_,Z,Z,fin _ ?_⟩;unfold Pl.cz;lia
 ·rintro σ H1 ⟨n,v4,rfl,rfl,I⟩;have e:(ni (S.near s.2)).length=(S.near s.2).length:=by simp[ni]
  rw[e,GC]at I;have:=O.good.fine.pq (u:=s.1) (v:=s.2) hd (O.Dj s.2 d2) I;subst this;refine⟨a,_,_,Z,J.sq,_,Z,(by show 2<=sizeLine;decide),fun t ht=>?_⟩;exact k _ t (Qk _ ht) Qe
abbrev Kl:Stmt:=top 43
abbrev Ku:Stmt:=top 44
theorem kM:a7 ["drawing","beside","taken","number","mark","first","step"] ["drawing"] (a6 Kl):=.mk'
theorem Fe:a7 ["drawing","panes"] ["drawing"] (a6 Ku):=.mk'
structure u0(K:xB)(H:Hp)(t:Addr)(ts:List Addr) (ds:List WA):Prop where
 lst:ba K H t (ts.map V.ref)
 len:ts.length=ds.length
 at_:∀(i:Nat)(a:Addr)(x:WA),ts[i]?=some a->ds[i]?=some x->Pr H a x
theorem u0.same{H H':Hp}{t:Addr}{j:List Addr} {ds:List WA} (h:u0 K H t j ds) (e:Qn H H'):u0 K H' t j ds:=⟨e.seq h.lst,h.len,fun i a x h1 h2=>e _ _ (h.at_ i a x h1 h2)⟩
inductive tr(K:xB)(vs:List V)(H:Hp)(Q:VK)(E:XK):Prop
 |mk (l b a:Addr) (ap as:List Addr) (S:Plan) (s:WA) (O:nJ S):vs=[.ref l,.ref b,.ref a]->yC K H l ap S->yE K H b as S->Pr H a s->(Pl.dr S).a5 s->(∀H' t ts,Qn H H'->u0 K H' t ts (O.good.bH s)->Q (.ref t) H')->tr K vs H Q E
theorem AJ{nx:Pl.Dt->Pl.Dt}{d:Pl.Dt}{k i:Nat}(h:i<k):(Pl.wk nx d k)[i]?=some (Pl.it nx i d):=by rw[xF (by rw[Pl.bc];exact h),Pl.b']
theorem AQ(F : bG K "outline" "outline" CA f fd) (B : bu P w K mg base 3 "step_after" ["points", "beside", "step"] (Be K)) : QC P w K mg base bD 4 f fd ["points", "beside", "first"] (tr K) := by
  apply F.bM l5; rintro _ H Q E ⟨l, b, a, ap, as, S, s, O, rfl, hP, hB, ha, hd, k⟩; refine⟨Z, fun _ _ _ _ hr => ?_⟩
  refine⟨_, Qb (bA 3 l5.nd (QU (Qa (pv 2) Qc)))
    (Qb (bA 4 l5.nd (Qs B hr (Qa (pv 0) (Qa (pv 1) (Qa (pv 2) Qc)))))
    (Qb (Yn PassesOwn.never (Qt (jX hr.units) (pv 4) (pv 2) (Qo _))
      (Qb (Zf (Xg xX GA GB ZD (pv 3) (Qa (pv 4) Qc)))
      (Qd (bA 4 l5.nd (Qs B hr (Qa (pv 0) (Qa (pv 1) (Qa (pv 4) Qc))))))))
    (Qd (Qj (pv 3))))), ?_⟩
  have dw := O.good.dw hd; have two := O.good.two hd; have ac := O.good.uI hd; have dD := O.good.fine.eI.bE hd; refine⟨_, rfl, (by show 1<=sizeLine; decide), fun t ht => ?_⟩; have s0 := Qk (.lst [V.ref a]) ht; refine⟨_, rfl, _, rfl, _, rfl, l, b, a, ap, as, S, s, rfl, hP.same s0, hB.same s0, s0 _ _ ha, O, hd, fun H1 c s1 hc => ?_⟩; have t1 : H1 t=some (.lst [V.ref a]) := s1 _ _ Qe; have aa : Qn H H1 := s0.trans s1
  refine⟨fun m σ H' => ∃(c : Addr)(G : List Addr)(j : Nat), σ=[some (.ref l), some (.ref b), some (.ref a), some (.ref t), some (.ref c)]/\Qn H H'/\H' t=some (.lst (G.map V.ref))/\G.length=j/\1<=j/\j<=O.good.pr s/\m=O.good.pr s-j/\Pr H' c (Pl.it (Pl.cZ S) j s) /\
      (∀(i : Nat)(x : Addr), G[i]? = some x->Pr H' x (Pl.it (Pl.cZ S) i s)),
    ⟨O.good.pr s-1, c, [a], 1, rfl, aa, t1, rfl, xO _, by lia, rfl, hc, fun i x hx => ?_⟩, ?_⟩
  · cases i with
    | zero => have e : a = x := Wo hx
              subst e; exact aa _ _ ha
    |succ i => simp at hx
  · rintro m σ H2 ⟨c, G, j, rfl, s2, I, n, j1, jk, rfl, J, ad⟩; refine ⟨_, rfl, _, rfl, _, _, J.dp, Pr.dp (s := s) (show Pr H2 a s from s2 _ _ ha), zY _, zY _, _, rfl, Qz (fun h1 => ?_) (fun h1 => ?_)⟩
    · rw [lK] at h1; have h1 : ¬ Pl.it (Pl.cZ S) j s = s := by simpa using h1
      have af : j<O.good.pr s := by
        rcases Ul j (O.good.pr s) with q|q
        · exact q
        · exact Wm (by rw [show j=O.good.pr s by lia]; exact dw.back) h1
      refine⟨fun dA H' => ∃(c : Addr)(G : List Addr)(j' : Nat), dA=[some (.ref l), some (.ref b), some (.ref a), some (.ref t), some (.ref c)]/\Qn H H'/\H' t=some (.lst (G.map V.ref))/\G.length=j'/\1<=j'/\j'<=O.good.pr s/\O.good.pr s-(j+1)=O.good.pr s-j'/\Pr H' c (Pl.it (Pl.cZ S) j' s) /\
        (∀(i : Nat)(x : Addr), G[i]? = some x->Pr H' x (Pl.it (Pl.cZ S) i s)), fun dA H' h => ⟨O.good.pr s-(j+1), by lia, h⟩, ?_⟩
      have ag : (G.map V.ref).length<sizeLine := by
        rw [xD, n]; have := O.ok5.siz.2.1; exact x3 af (xM ac (xM (Nat.mul_le_mul_left 2 this) Wa))
      refine⟨_, rfl, .inl ⟨Z, _, ba.of I⟩, _, rfl, t, _, _, rfl, rfl, I, ag, ?_⟩; generalize ab : upd H2 t (.lst (G.map V.ref++[V.ref c]))=H3; have kp : cF t H2 H3 := fun x o e ah => by rw [<- ab, Qh ah]; exact e
      have t3 : H3 t=some (.lst (G.map V.ref++[V.ref c])) := by rw [<- ab]; exact Qe
      have s3 : Qn H H3 := kp.same ht s2; have U : ∀{x : Addr} {y : Nat × Nat}, Pr H2 x y->Pr H3 x y := fun {x y} h => kp _ _ h (YI h I (by intro z; cases z)); refine⟨_, rfl, _, rfl, _, rfl, l, b, c, ap, as, S, Pl.it (Pl.cZ S) j s, rfl, hP.same s3, hB.same s3, U J, O, dD j, fun H4 c4 s4 ai => ?_⟩; refine⟨c4, G++[c], j+1, rfl, s3.trans s4, ?_, by simp [n], by lia, by lia, rfl, ai, fun i x hx => ?_⟩
      · rw [s4 _ _ t3, Gs]; rfl
      · rcases qh hx with ⟨_, h2⟩ | ⟨h2, h3⟩
        · exact s4 _ _ (U (ad i x h2))
        · subst h3; rw [h2, n]; exact s4 _ _ (U J)
    · rw [lK] at h1; have h1 : Pl.it (Pl.cZ S) j s = s := by simpa using h1
      have je : j=O.good.pr s := by
        rcases Ul j (O.good.pr s) with q|q
        · exact Wm h1 (dw.first j L q)
        · lia
      refine⟨_, rfl, ?_⟩; refine k H2 t G s2 ⟨ba.of I, ?_, fun i x y hx hy => ?_⟩
      · rw [n, je]; exact(Pl.bc _ _ _).symm
      · have hi : i < O.good.pr s := by rw [<- je, <- n]; exact (List.getElem?_eq_some_iff.1 hx).1
        have e : y=Pl.it (Pl.cZ S) i s := by
          have : (Pl.wk (Pl.cZ S) s (O.good.pr s))[i]? = some y := hy; rw [AJ hi]at this; lia
        grind
def qF(x:WA):List Key:=[Sum.inl (x.1:Int),Sum.inl (x.2:Int)]
def kT (ds:List WA):List (List Key×V):=ds.map (fun x=>(qF x,V.bl true))
theorem pH{x y:WA}(h:qF x=qF y):x=y:=by unfold qF at h;grind
theorem yh (ds:List WA) (x:WA):(Xv (kT ds) (qF x)).isSome=decide (x∈ds):=by
 rw[<-YQ];unfold kT;rw[VU,Gu,UT,Wp];constructor
 ·rintro⟨m,j,e⟩;have e:qF m=qF x:=Wj e;rw[<-pH e];exact j
 lia
theorem pW {ds:List WA} {x:WA} (h:x∉ds):XU (kT ds) (qF x) (V.bl true)=kT (ds++[x]):=by
 have j:Xv (kT ds) (qF x)=none:=by
  have:=yh ds x;rw[Wl h]at this;cases e:Xv (kT ds) (qF x) with
  |none=>rfl
  |some v=>rw[e]at this;cases this
 rw[dM _ j];simp[kT]
theorem Pr.key{H:Hp}{x:WA}(h:Pr H a x):H a=some (.tup ((qF x).map kV)):=h
def Y1(S:Plan):Option Nat:=(Qae S S.outlines 0 [] S.marks).map (Vd S)
def qz(S:Plan):Option Nat:=if S.marks.length<S.outlines.length then some S.size else none
theorem DJ(F:bG K "unmarked_pane" "unmarked_pane" Ku f fd)(T:Xc K mg C)(U:Txt K mg) (M:XS P w K mg base C 4 "byte_count" ["self"] (BO K C)):QC P w K mg base bD 5 f fd ["drawing"] (XT K C (fun S=>Pl.Good S) qz):=by
 obtain⟨fm,I,J,bm,G⟩:=M.ex;apply F.bM Fe;rintro _ H Q E ⟨d,S,dx,lp,ll,lm,ap,al,am,rfl,D,O,k⟩;refine⟨Z,fun _ _ _ _ hr=>?_⟩
 refine⟨_,Qb (bA 1 Fe.nd (QA QV (QA Xl (Qx Qp Wg U.len Wx (Qa (Qw (pv 0) Z) Qc)) (Qx Qp Wg U.len Wx (Qa (Qw (pv 0) Z) Qc))) Qi))
  (Qb (QD (Qt ZE (Qx Qp Wg U.len Wx (Qa (Qw (pv 0) Z) Qc)) (pv 1) (Qo _)) (Qd (Qj (Yo (pv 0) T.cl J G hr bm .nil Zc))) Qq)
  (Qd (Qj QT))),?_⟩
 have j:=Xs S.w S.h lp ll lm (m := "byte_count") Wb Wb Wb Wb Wb;have n:((al.map V.ref).length:Int)=S.lines.length:=by rw[xD,D.cG.len]
 have z:((ap.map V.ref).length:Int)=S.pts.length:=by rw[xD,D.pts.len,xD]
 have B:((am.map V.ref).length:Int)=S.marks.length:=by rw[xD,D.mrk.len,xD]
 have eu:=O.EA;refine⟨_,Z,d,C,dx,_,_,Z,D.ins,T.cl,T.nL,yr _ _ _ _ _,ll,_,Z,.inl D.cG.lst,_,Z,d,C,dx,_,_,Z,D.ins,T.cl,T.nP,XN _ _ _ _ _,lp,_,Z,.inl D.pts.lst,_,_,Z,Z,_,_,Z,Z,?_⟩;refine⟨_,Z,d,C,dx,_,_,Z,D.ins,T.cl,T.nM,sQ _ _ _ _ _,lm,_,Z,.inl D.mrk.lst,_,Z,_,_,Z,Z,_,Z,Qz (fun h1=>?_) (fun h1=>?_)⟩
 ·have h1:((am.map V.ref).length:Int)<((al.map V.ref).length:Int)-((ap.map V.ref).length:Int)+1:=Wj h1;rw[n,z,B]at h1;refine⟨_,Z,d,dx,_,Z,D.ins,j,d,S,dx,lp,ll,lm,ap,al,am,Z,D,?_⟩;have e:qz S=some S.size:=Wi L;have:=k H (Qn.refl _);rw[e]at this;exact this
 ·have h1:¬((am.map V.ref).length:Int)<((al.map V.ref).length:Int)-((ap.map V.ref).length:Int)+1:=fun q=>h1 (Wk q);rw[n,z,B]at h1;have e:qz S=none:=Wh L;have:=k H (Qn.refl _);rw[e]at this;exact this
noncomputable def under {S:Plan} (G:Pl.Good S) (z:Pt):WA:=(S.lines.foldl (Pl.bb S z) none).getD (0,0)
theorem zG{S:Plan}(F:Pl.a9 S){z:Pt}(hz:z.y<=1048575):∀(ls seen:List WA) (b:Option WA),(∀l∈ls,l∈S.lines)->Pl.pQ S z seen b->Pl.pQ S z (seen++ls) (ls.foldl (Pl.bb S z) b)
 |[],seen,b,_,I=>by rw[Ux];exact I
 | l::ls,seen,b,hl,I=>by
  have:=zG F hz ls (seen++[l]) (Pl.bb S z b l) (fun x j=>hl x (by simp[j])) (F.kl hz I (hl l We));rw[GV]at this;exact this
theorem zF{S:Plan}(G:Pl.Good S){z:Pt}(hc:U4 S z=true):S.lines.foldl (Pl.bb S z) none=some (under G z)/\Pl.Under S z (under G z):=by
 have c:=Pl.km hc;have j:z.y<=1048575:=by have:=c.y1;have:=G.fine.h;lia
 have I:=zG G.fine j S.lines [] none (fun l hl=>hl) ⟨fun _ l hl=>by simp at hl,fun b n=>by cases n⟩;rw[List.nil_append]at I;obtain⟨e,B,F⟩:=G.nq hc I;unfold under;grind
noncomputable def cN {S:Plan} (G:Pl.Good S):List WA:=S.marks.map (fun m=>under G m.at_)
theorem EY(F:bG K "crowding_mark" "crowding_mark" Kl f fd)(T:Xc K mg C)(U:Txt K mg) (M:XS P w K mg base C 3 "mark_place" ["self","number"] (nO K C)) (N:XS P w K mg base C 1 "neighbours" ["self"] (oh K C))
  (B1:bu P w K mg base 3 "step_under" ["drawing","mark"] (Cd K C)) (B2:bu P w K mg base 4 "outline" ["points","beside","first"] (tr K)) :
  QC P w K mg base bD 5 f fd ["drawing"] (XT K C (fun S=>nJ S/\∀m∈S.marks,U4 S m.at_=true) Y1):=by
 obtain⟨fm,aU,hm,bm,G⟩:=M.ex;obtain⟨fn,aV,hn,bn,GN⟩:=N.ex;apply F.bM kM;rintro _ H Q E ⟨d,S,dx,lp,ll,lm,ap,al,am,rfl,D,⟨O,ah⟩,k⟩;refine⟨Z,fun _ _ _ _ hr=>?_⟩;have hu:=Jd hr
 refine⟨_,Qb (bA 1 kM.nd (Yo (pv 0) T.cl hn GN (hr.mono Wa) bn .nil Zc))
  (Qb (bA 2 kM.nd gu)
  (Qb (QL PassesOwn.never Z (Jr Z U.enum (Qa (Qw (pv 0) Z) Qc)) (ZF (n:=2) Z (QF (b0 3 kM.nd) (QF (b0 4 kM.nd) Zl)))
   (Qb (bA 5 kM.nd (Qs B1 (hr.mono Wa) (Qa (pv 0) (Qa (pv 4) Qc))))
   (Qb (QD (Q7 (Br hu (pv 5) (pv 2))) (Qd (Qj (Q5 (pv 0) T.cl hm G (hr.mono Wa) bm .nil Zc (Qa (pv 3) Qc)))) Qq)
   (Qd (QL PassesOwn.never Z (Q4 (Qs B2 hr (Qa (Qw (pv 0) Z) (Qa (pv 1) (Qa (pv 5) Qc))))) (b0 6 kM.nd)
    (Qd (zo hu (pv 2) (pv 6) Xh Z)))))))
  (Qd (Qj QT)))),?_⟩
 have aF:=Xs S.w S.h lp ll lm (m := "mark_place") Wb Wb Wb Wb Wb;have av:=Xs S.w S.h lp ll lm (m := "neighbours") Wb Wb Wb Wb Wb;have aG:(cN O.good).length=S.marks.length:=by simp[cN]
 have ai:∀i (h:i<S.marks.length),(cN O.good)[i]'(by lia)=under O.good S.marks[i].at_:=fun i h=>by simp[cN]
 have hU:∀i (h:i<S.marks.length),Pl.Under S S.marks[i].at_ ((cN O.good)[i]'(by lia)):=fun i h=>by
  rw[ai i h];exact(zF O.good (ah _ (xR h))).2
 have aw:∀i (h:i<S.marks.length),(Pl.dr S).a5 ((cN O.good)[i]'(by lia)):=fun i h=>G4 (hU i h).mem;obtain⟨aH,aI⟩:=O.good.ph aG ah hU;refine⟨_,Z,d,dx,_,Z,D.ins,av,d,S,dx,lp,ll,lm,ap,al,am,Z,D,O.ok5.cG,O.ok5.siz,fun H1 b as s1 B=>?_⟩;intro g hg;have s2:Qn H (upd H1 g (.dT [])):=s1.trans (Qk _ hg);have fg:H g=none:=s1.free hg;have aJ:H1 g=none:=hg;have D2:=D.same s2
 refine⟨_,Z,d,C,dx,_,_,Z,D2.ins,T.cl,T.nM,sQ _ _ _ _ _,lm,_,Z,D2.mrk.lst,Yp (K:=K) (a:=lm) (xs:=am.map V.ref) (fun i σ H'=>HH fun(v3 v4 v5 v6:Option V) (ds:List WA)=>K1 (σ=[some (.ref d),some (.ref b),some (.ref g),v3,v4,v5,v6]) (Qn H1 H') (H' g=some (.dT (kT ds))) ds.Nodup ((∀x∈ds,(Pl.dr S).a5 x)) ((∀x,x∈ds↔∃j,∃(hj:j<i)(hl:j<S.marks.length),x∈O.good.bH ((cN O.good)[j]'(by lia)))) (∀j (hj:j<i) (hl:j<S.marks.length) k (hk:k<j),(cN O.good)[j]'(by lia)∉O.good.bH ((cN O.good)[k]'(by lia))))
  ⟨none,none,none,none,[],Z,Qk _ hg,Qe,by simp,by simp,fun x=>by simp,fun j hj=>by lia⟩ (fun i σ H' _ ⟨_,_,_,_,_,_,s3,_,_,_,_,_⟩=>((D.same s1).same s3).mrk.lst) ?_ ?_⟩
 ·rintro i x σ H3 H4 J ⟨v3,v4,v5,v6,ds,rfl,s3,ax,aj,ak,I,hb⟩ ay;obtain⟨c,hc,rfl⟩:=Zm J;have s4:=s3.trans ay;have aK:=s1.trans s4;have D4:=D.same aK;obtain⟨hi,hp⟩:=D4.IV hc;obtain⟨ef,aW⟩:=zF O.good (ah _ (xR hi));refine⟨_,Z,_,Z,d,c,S.marks[i].at_,S,dx,lp,ll,lm,ap,al,am,Z,D4,hp,O.ok5.smm _ (xR _),O.ok5,fun H5 v az aa=>?_⟩;rw[ef] at aa;obtain⟨a,rfl,an⟩:=aa;have s5:=s4.trans az;have aA:H5 g=some (.dT (kT ds)):=az _ _ (ay _ _ ax);have D5:=D.same (s1.trans s5);refine⟨_,Z,_,Z,g,_,Z,Z6.t aA an.key,_,Z,Qz (fun h1=>?_) (fun h1=>?_)⟩
  ·rw[yh] at h1;have h1:under O.good S.marks[i].at_∈ds:=Wj h1;rw[<-ai i hi] at h1;obtain⟨j,hj,hl,J⟩:=(I _).1 h1;refine⟨_,Z,d,dx,_,Z,D5.ins,aF,_,Z,d,_,i,S,dx,lp,ll,lm,ap,al,am,Z,Z,D5,?_⟩
   have e:Y1 S=some (Vd S i):=by unfold Y1;rw[aH i hi (fun j hj k hk=>hb j hj L k hk) ⟨j,hj,J⟩];rfl
   have:=k H5 (s1.trans s5);rw[e]at this;exact this
  ·rw[yh] at h1;have ao:under O.good S.marks[i].at_∉ds:=by simpa using h1
   clear h1;rw[<-ai i hi]at ao an;generalize he:(cN O.good)[i]'(by lia)=e at *;have ad:(Pl.dr S).a5 e:=by rw[<-he];exact aw i hi
   have ab:∀x∈O.good.bH e,x∉ds:=fun x J aM=>by
    obtain⟨j,hj,hl,aN⟩:=(I x).1 aM;apply ao;exact(I e).2 ⟨j,hj,hl,O.good.bJ (aw j hl) aN (O.good.cj ad J)⟩
   have ac:∀x∈O.good.bH e,(Pl.dr S).a5 x:=fun x J=>O.good.bw ad J;have aq:=O.good.dU ad;refine⟨_,Z,d,C,dx,_,_,Z,D5.ins,T.cl,T.nP,XN _ _ _ _ _,_,Z,_,Z,lp,b,a,ap,as,S,e,O,Z,⟨D5.pts⟩,B.same s5,an,ad,fun H6 t ts aB St=>?_⟩;have s6:=s5.trans aB;have af:H6 g=some (.dT (kT ds)):=aB _ _ aA
   refine⟨t,Z,⟨_,St.lst⟩,Zs (K:=K) (a:=t) (xs:=ts.map V.ref) (fun j σ H'=>∃v6:Option V,eC (σ=[some (.ref d),some (.ref b),some (.ref g),some (.int (i:Int)),some (.ref c),some (.ref a),v6]) (cF g H6 H') (H' g=some (.dT (kT (ds++(O.good.bH e).take j)))))
    ⟨_,Z,fun x o h _=>h,(by rw[List.take_zero,Ux];exact af)⟩ (fun j σ H' _ ⟨_,_,kp,_⟩=>?_) ?_ ?_⟩
   ·rcases St.lst with (h | ⟨o,h⟩) | h
    ·exact .inl (.inl (kp _ _ h (YI h af (by intro z;cases z))))
    ·exact .inl (.inr ⟨o,kp _ _ h (YI h af (by intro z;cases z))⟩)
    ·exact .inr h
   ·rintro j x σ H7 J ⟨aO,rfl,kp,ag⟩;obtain⟨c7,aC,rfl⟩:=Zm J;have hj:j<(O.good.bH e).length:=by rw[<-St.len];exact (List.getElem?_eq_some_iff.1 aC).1
    have aP:(O.good.bH e)[j]?=some (O.good.bH e)[j]:=xF hj;have aD:=St.at_ j c7 _ aC aP;have aQ:Pr H7 c7 (O.good.bH e)[j]:=kp _ _ aD (YI aD af (by intro z;cases z))
    have aR:(O.good.bH e)[j]∉ds++(O.good.bH e).take j:=fun h=>by
     rcases List.mem_append.1 h with h|h
     ·exact ab _ (xR hj) h
     ·obtain⟨m,hm,em⟩:=List.mem_iff_getElem.1 h;rw[Go]at hm;rw[VX]at em;have:=(V9 aq).1 em;lia
    have len:(kT (ds++(O.good.bH e).take j)).length<sizeLine:=by
     have aS:(ds++(O.good.bH e).take j).Nodup:=by rw[VW];refine⟨aj,aq.sublist (List.take_sublist _ _),fun x J y hy au=>?_⟩;subst au;exact ab x (Up hy) J
     have:=Pl.bP (m:=(Pl.dr S).ej) aS (fun x J=>Pl.Dr.dN.2 (by
      rcases List.mem_append.1 J with h|h
      ·exact ak x h
      ·exact ac x (Up h)))
     rw[Pl.Dr.cW]at this;have e2:(Pl.dr S).E.length=S.lines.length:=by show(S.lines.map (Pl.dZ S)).length=_;simp
     rw[e2]at this;have z:=O.ok5.siz.2.1;unfold kT;rw[xD];exact xZ (xM this (Nat.mul_le_mul_left 2 z)) Wa
    refine⟨_,Z,_,Z,g,_,Z,yM.t ag aQ.key len,?_⟩;rw[pW aR];refine⟨_,Z,fun x o h aE=>by rw[Qh aE];exact kp x o h aE,?_⟩;rw[Qe,GV,Ug hj]
   ·rintro σ H7 ⟨aO,rfl,kp,ag⟩;rw[xD,St.len,GC] at ag;refine⟨_,_,_,_,ds++O.good.bH e,Z,?_,ag,?_,?_,?_,?_⟩
    ·exact kp.same aJ s6
    ·rw[VW];exact⟨aj,aq,fun x J y hy au=>by subst au;exact ab x hy J⟩
    ·intro x J;rcases List.mem_append.1 J with h | h
     ·exact ak x h
     ·exact ac x h
    ·intro x;rw[List.mem_append,I];constructor
     ·rintro (⟨j,hj,hl,h⟩ | h)
      ·exact⟨j,by lia,hl,h⟩
      ·exact⟨i,by lia,hi,by rw[he];exact h⟩
     ·rintro⟨j,hj,hl,h⟩;by_cases q:j=i
      ·subst q;right;rw[he]at h;exact h
      ·exact G4 ⟨j,by lia,hl,h⟩
    ·intro j hj hl k hk;by_cases q:j=i
     ·subst q;rw[he];intro aT;exact ao ((I e).2 ⟨k,hk,by lia,aT⟩)
     ·exact hb j L hl k hk
 ·rintro σ H3 ⟨v3,v4,v5,v6,ds,rfl,s3,ax,aj,ak,I,hb⟩
  have e:Y1 S=none:=by unfold Y1;rw[aI (fun i hi k hk=>hb i (by rw[xD,D.mrk.len,xD];exact hi) hi k hk)];rfl
  have:=k H3 (s1.trans s3);rw[e]at this;exact this
structure uG(K:xB)(mg:Str->Option Value)(x:Str) (rows:List (List Int)):Prop where
 ex:∃(q:Addr)(as:List Addr),mg x=some (.ref q)/\(∀H,bY K H q (as.map V.ref))/\as.length=rows.length/\∀(i:Nat)(a:Addr)(r:List Int),as[i]?=some a->rows[i]?=some r->∀H,bY K H a (r.map V.int)
theorem Xr{X:Cx}{x:Str}{pos:Pos} (h:X.mg x=some (.ref a)) (j:Gl X x:=by rfl) (hd:(x==("__debug__" : Str))=false:=by decide):PE X (.Name x pos) (tC (.ref a)):=Zo j h Z hd
def zb(b:xC)(r:Nat×Nat×Nat)(s:Nat):Bool:=decide (xI b (s+r.1) 4<r.2.1)||decide (r.2.2<xI b (s+r.1) 4)
def Yv (l:List (Nat×Nat×Nat)):List (List Int):=l.map fun r=>[(r.1:Int),(r.2.1:Int),(r.2.2:Int)]
def eW(b:xC)(s:Nat) (l:List (Nat×Nat×Nat)):Option Nat:=(l.find? fun r=>zb b r s).map fun r=>s+r.1
abbrev Dc:Stmt:=top 74
abbrev CJ:Stmt:=top 75
abbrev Ko:Stmt:=top 77
abbrev HX:Stmt:=top 78
inductive ff(K:xB)(vs:List V)(H:Hp)(Q:VK)(E:XK):Prop
 |mk (a q:Addr) (b:xC) (s:Nat) (i:Int) (as:List Addr) (l:List (Nat×Nat×Nat)):vs=[.ref a,.int i,.ref q]->i=(s:Int)->ba K H a (bl b)->((∀H,bY K H q (as.map V.ref)))->as.length=l.length->((∀(i:Nat)(c:Addr)(r:Nat×Nat×Nat),as[i]?=some c->l[i]?=some r->∀H,bY K H c [.int (r.1:Int),.int (r.2.1:Int),.int (r.2.2:Int)]))->(∀H',Qn H H'->Q (JD (eW b s l)) H')->ff K vs H Q E
theorem pU:a7 ["workshop","start","bounds","bound","number"] ["workshop","start","bounds"] (a6 Dc):=.mk'
theorem l8{α:Type}{l:List α}{p:α->Bool}{i:Nat}(hi:i<l.length)(h:p l[i]=true) (z:∀j (n:j<i),p (l[j]'(by lia))=false):l.find? p=some l[i]:=by rw[Vf];exact⟨h,i,hi,Z,fun j n=>by rw[z j n];rfl⟩
theorem lz{α:Type}{l:List α}{p:α->Bool} (h:∀i (hi:i<l.length),p l[i]=false):l.find? p=none:=by rw[UB];intro x j;obtain⟨i,hi,rfl⟩:=List.mem_iff_getElem.1 j;rw[h i hi];simp
theorem BV(F:bG K "out_of_bounds" "out_of_bounds" Dc f fd) (N:bu P w K mg base 1 "number_at" ["octets","place","size"] (JF K)):QC P w K mg base bD 2 f fd ["workshop","start","bounds"] (ff K):=by
 apply F.bM pU;rintro _ H Q E ⟨a,q,b,s,i,as,l,rfl,rfl,hS,hq,B,J,k⟩;refine⟨Z,fun _ _ _ _ hr=>?_⟩
 refine⟨_,Qb (QL PassesOwn.never Z (jU (pv 2)) (b0 3 pU.nd)
   (Qb (bA 4 pU.nd (Qs N hr (Qa (pv 0) (Qa (QA QV (pv 1) (Qy QO (pv 3) Qi (fun _ _=>rfl))) (Qa Qi Qc)))))
   (Qd (QD (Xq (Qt ZE (pv 4) (Qy QO (pv 3) Qi (fun _ _=>rfl)) (Qo _)) (ZM (Qt Zn (pv 4) (Qy QO (pv 3) Qi (fun _ _=>rfl)) (Qo _)))).pt
    (Qd (Qj (QA QV (pv 1) (Qy QO (pv 3) Qi (fun _ _=>rfl))))) Qq))))
  (Qd (Qj QT)),?_⟩
 refine⟨_,Z,q,Z,⟨_,hq H⟩,zy (K:=K) (a:=q) (xs:=as.map V.ref) (fun j σ H'=>uk fun(O U:Option V)=>eC (σ=[some (.ref a),some (.int (s:Int)),some (.ref q),O,U]) (Qn H H') (∀m (G:m<j) (hl:m<l.length),zb b l[m] s=false))
  ⟨none,none,Z,Qn.refl _,fun m G=>by lia⟩ (fun i σ H' _ _=>hq H') ?_ ?_⟩
 ·rintro j x σ H1 hx ⟨O,U,rfl,I,hb⟩;obtain⟨c,hc,rfl⟩:=Zm hx;have hj:j<l.length:=by rw[<-B];exact (List.getElem?_eq_some_iff.1 hc).1
  have n:=J j c l[j] hc (xF hj);refine⟨_,Z,_,Z,_,Z,c,_,_,_,Z,Z,n _,Qm (j:=0) Z,_,_,Z,Z,a,b,s+l[j].1,4,_,_,Z,(by show(s:Int)+(l[j].1:Int)=_;lia),Z,I.seq hS,fun H2 aa=>?_⟩;have s2:=I.trans aa
  have ret:zb b l[j] s=true->Q (.int ((s:Int)+(l[j].1:Int))) H2:=fun h=>by
   have e:eW b s l=some (s+l[j].1):=by unfold eW;rw[l8 (p:=fun r=>zb b r s) hj h (fun m G=>hb m G L)];rfl
   have:=k H2 s2;rw[e]at this;have e2:((s+l[j].1:Nat):Int)=(s:Int)+(l[j].1:Int):=by lia
   have this:Q (.int ((s+l[j].1:Nat):Int)) H2:=this;lia
  refine⟨_,Z,_,Z,c,_,_,_,Z,Z,n _,Qm (j:=1) Z,_,_,Z,Z,_,Z,Qz (fun h1=>ZG ?_) (fun h1=>?_)⟩
  ·have h1:((xI b (s+l[j].1) 4:Nat):Int)<(l[j].2.1:Int):=Wj h1;refine⟨_,Z,_,Z,c,_,_,_,Z,Z,n _,Qm (j:=0) Z,_,_,Z,Z,ret ?_⟩;unfold zb;lia
  ·have h1:¬ ((xI b (s+l[j].1) 4:Nat):Int)<(l[j].2.1:Int):=fun z=>h1 (Wk z);refine⟨_,Z,_,Z,c,_,_,_,Z,Z,n _,Qm (j:=2) Z,_,_,Z,Z,_,Z,Qz (fun h2=>?_) (fun h2=>?_)⟩
   ·have h2:(l[j].2.2:Int)<((xI b (s+l[j].1) 4:Nat):Int):=Wj h2;refine⟨_,Z,_,Z,c,_,_,_,Z,Z,n _,Qm (j:=0) Z,_,_,Z,Z,ret ?_⟩;unfold zb;lia
   ·have h2:¬ (l[j].2.2:Int)<((xI b (s+l[j].1) 4:Nat):Int):=fun z=>h2 (Wk z);refine⟨_,_,Z,s2,fun m G hl=>?_⟩;by_cases e:m=j
    ·subst e;unfold zb;lia
    grind
 ·rintro σ H1 ⟨O,U,rfl,I,hb⟩
  have e:eW b s l=none:=by unfold eW;rw[lz (p:=fun r=>zb b r s) fun m G=>hb m (by rw[xD,B];exact G) G];rfl
  have:=k H1 I;rw[e]at this;exact this
noncomputable def cb:List (Nat×Nat×Nat×Nat):=[(4,4,16,1048575),(8,4,16,1048575),(12,2,4,4096),(14,2,4,8192),(16,2,1,2048),(18,2,0,0)]
def zg(b:xC)(r:Nat×Nat×Nat×Nat):Bool:=decide (xI b r.1 r.2.1<r.2.2.1)||decide (r.2.2.2<xI b r.1 r.2.1)
def JJ(b:xC):Option WA:=
 if b.length<20 then some (1,b.length) else if b.take 4≠Vi then some (1,0) else match cb.find? (zg b) with
  |some r=>some (2,r.1)
  |none=>if b.length≠20+8*xI b 12 2+4*xI b 14 2+12*xI b 16 2 then some (3,20) else none
theorem fL(b:xC)(p w lo hi:Nat):zg b (p,w,lo,hi)=!(Gf lo hi (xI b p w)):=by unfold zg Gf;lia
theorem j6(b:xC):UR b=match JJ b with
  |some f=>.error ⟨f.1,f.2⟩
  | none=>match (U5 b).fault with
   |some e=>.error e
   |none=>.ok (U5 b):=by
 unfold UR JJ cb Qb9 Gla.SMALLEST Gla.LARGEST Gla.POINTS Gla.LINES Gla.MARKS;by_cases h1:b.length<20
 ·lia
 ·simp only[h1,Wr];by_cases h2:b.take 4≠Vi
  ·lia
  ·simp only[h2,Wr];have key:∀ p w lo hi,zg b (p,w,lo,hi)=!(Gf lo hi (xI b p w)):=fL b;simp only[Uy,key,Qbz];cases j:Gf 16 1048575 (xI b 4 4) <;> simp;cases n:Gf 16 1048575 (xI b 8 4) <;> simp;cases z:Gf 4 4096 (xI b 12 2) <;> simp;cases w4:Gf 4 8192 (xI b 14 2) <;> simp;cases B:Gf 1 2048 (xI b 16 2) <;> simp
   have F:Gf 0 0 (xI b 18 2)=decide (xI b 18 2=0):=by unfold Gf;lia
   lia
def iD(l:List Int):PyData:=.list (l.map PyData.int)
theorem tf:∀l:List Int,PyData.canLayAll0 (l.map PyData.int)=true
 |[]=>rfl
 |x::l=>by rw[xV,PyData.canLayAll0,tf l];rfl
theorem fT:∀l:List Int,PyData.depthAll (l.map PyData.int)=0
 |[]=>rfl
 |x::l=>by rw[xV,PyData.depthAll,fT l];rfl
theorem Ju(l:List Int):SeqAt.shaped (iD l)=true:=by unfold iD SeqAt.shaped;rw[PyData.canLay0,tf,PyData.depth,fT];rfl
theorem uu:∀l m:List Int,PyData.eqvAll (l.map PyData.int) (m.map PyData.int)=decide (l=m)
 |[],[]=>rfl
 |[],_::_=>by simp[PyData.eqvAll]
 |_::_,[]=>by simp[PyData.eqvAll]
 | x::l,y::m=>by
  rw[xV,xV,PyData.eqvAll,PyData.eqv,uu l m,Gu];simp
theorem j9(l m:List Int):PyData.eqv (iD l) (iD m)=decide (l=m):=by unfold iD;rw[PyData.eqv];exact uu l m
theorem YA(K:xB)(H:Hp):∀l:List Int,qv K H (l.map V.int) (l.map PyData.int)
 |[]=>.nil
 |x::l=>.cons (.int x) (YA K H l)
def bi(b:xC):List Int:=b.map (fun c=>(c.toNat:Int))
theorem F0(b:xC):bl b=(bi b).map V.int:=by simp[bl,bi]
theorem i6:∀{a b:xC},bi a=bi b->a=b
 |[],[],_=>rfl
 |[],_::_,h=>by simp[bi]at h
 |_::_,[],h=>by simp[bi]at h
 | x::a,y::b,h=>by
  simp only[bi,xV,List.cons.injEq]at h;have j:x.toNat=y.toNat:=by lia
  rw[UInt8.toNat_inj.1 j,i6 (a:=a) (b:=b) h.2]
theorem Ao{H:Hp} (h:ba K H a (bl b)):Dp K H (.ref a) (iD (bi b)):=by rw[F0]at h;exact .lst h (YA K H _)
abbrev HI:Stmt:=top 53
abbrev Kz:Stmt:=top 82
theorem C1:a7 ["octets","bound","number"] ["octets"] (a6 HI):=.mk'
theorem yY:a7 ["workshop","sheets","kinds","glasses","paintings","end"] ["workshop"] (a6 CJ):=.mk'
theorem E7:a7 ["workshop","places","place"] ["workshop","places"] (a6 Ko):=.mk'
theorem Hf:a7 ["workshop","places","place"] ["workshop","places"] (a6 HX):=.mk'
inductive zL(K:xB) (f:xC->Option WA) (vs:List V) (H:Hp) (Q:VK) (E:XK):Prop
 |mk (a:Addr) (b:xC):vs=[.ref a]->ba K H a (bl b)->b.length<=100000->(∀H' v,Qn H H'->Yc H' v (f b)->Q v H')->zL K f vs H Q E
structure EM(K:xB)(mg:Str->Option Value)(x:Str)(vs:List V):Prop where
 ex:∃q:Addr,mg x=some (.ref q)/\∀H,bY K H q vs
theorem YB:bootBuiltins "list" = some (.type "list"):=by decide +kernel
def yw:List (List Int):=cb.map fun r=>[(r.1:Int),(r.2.1:Int),(r.2.2.1:Int),(r.2.2.2:Int)]
theorem EE(F:bG K "head_fault" "head_fault" HI f fd)(T:Xc K mg C)(U:Txt K mg)(Bd:uG K mg "HEAD_BOUNDS_cartoon" yw) (N:bu P w K mg base 1 "number_at" ["octets","place","size"] (JF K))
  (Sg:EM K mg "CARTOON_SIGN" [.int 71,.int 76,.int 65,.int 49]) (Rw:bu P w K mg base 2 "row_places" ["octets"] (gv K)):QC P w K mg base bD 3 f fd ["octets"] (zL K JJ):=by
 obtain⟨q,as,ab,hq,G,ac⟩:=Bd.ex;obtain⟨qs,ad,af⟩:=Sg.ex;apply F.bM C1;rintro _ H Q E ⟨a,b,rfl,hS,aj,k⟩;refine⟨Z,fun _ _ _ _ hr=>?_⟩
 refine⟨_,Qb (QD (Qt ZE (Qx Qp Wg U.len Wx (Qa (pv 0) Qc)) (QP T.g20) (Qo _)) (Qd (Qj (Ze (Qa Qi (Qa (Qx Qp Wg U.len Wx (Qa (pv 0) Qc)) Qc))))) Qq)
  (Qb (QD (Qt (jX hr.units) (XH Yu (pv 0) zq (Xe Qi)) (Js Xz Wg U.lst YB (Qa (Xr ad) Qc)) (Qo _)) (Qd (Qj (Ze (Qa Qi (Qa Qi Qc))))) Qq)
  (Qb (QL PassesOwn.never Z (jU (Xr ab)) (b0 1 C1.nd)
   (Qb (bA 2 C1.nd (Qs N (hr.mono Wa) (Qa (pv 0) (Qa (Qy QO (pv 1) Qi (fun _ _=>rfl)) (Qa (Qy QO (pv 1) Qi (fun _ _=>rfl)) Qc)))))
   (Qd (QD (Xq (Qt ZE (pv 2) (Qy QO (pv 1) Qi (fun _ _=>rfl)) (Qo _)) (ZM (Qt Zn (pv 2) (Qy QO (pv 1) Qi (fun _ _=>rfl)) (Qo _)))).pt
    (Qd (Qj (Ze (Qa Qi (Qa (Qy QO (pv 1) Qi (fun _ _=>rfl)) Qc))))) Qq))))
  (Qb (QD (Qt qb (Qx Qp Wg U.len Wx (Qa (pv 0) Qc)) (Qy QO (Qs Rw hr (Qa (pv 0) Qc)) Qi (fun _ _=>rfl)) (Qo _)) (Qd (Qj (Ze (Qa Qi (Qa (QP T.g20) Qc))))) Qq)
  (Qd (Qj QT))))),?_⟩
 unfold JJ at k;refine⟨_,Z,a,_,Z,.inl hS,_,_,Z,Z,_,Z,Qz (fun h1=>?_) (fun h1=>?_)⟩
 ·have h1:((bl b).length:Int)<20:=Wj h1;rw[Ql]at h1;rw[Wi (show b.length<20 by lia)]at k;refine⟨_,Z,a,_,Z,.inl hS,(by show 2<=sizeLine;decide),fun t B=>k _ _ (Qk _ B) ⟨t,Z,?_⟩⟩;show upd H t _ t=_;rw[Qe,Ql];rfl
 ·have h1:¬ ((bl b).length:Int)<20:=fun z=>h1 (Wk z);rw[Ql] at h1;rw[Wh (show ¬ b.length<20 by lia)] at k;refine⟨_,Z,_,Z,a,_,Z,hS,fun l hl=>⟨qs,_,Z,.inr (af _),fun l2 I=>?_⟩⟩
  have ec:X9 (bl b) none (some ((4:Nat):Int))=bl (b.take 4):=by rw[yt];unfold bl;rw[Vs]
  have ag:X9 (bl b) none (some 4)=bl (b.take 4):=ec;rw[ag]at I ⊢;have nl:l≠l2:=Qg (Qe) I;have hA:ba K (upd (upd H l (.lst (bl (b.take 4)))) l2 (.lst [.int 71,.int 76,.int 65,.int 49])) l (bl (b.take 4)):=ba.of (by rw[Qh nl,Qe]);have hB:ba K (upd (upd H l (.lst (bl (b.take 4)))) l2 (.lst [.int 71,.int 76,.int 65,.int 49])) l2 (([71,76,65,49]:List Int).map V.int):=ba.of Qe;have s0:Qn H (upd (upd H l (.lst (bl (b.take 4)))) l2 (.lst [.int 71,.int 76,.int 65,.int 49])):=(Qk _ hl).trans (Qk _ I);refine⟨_,_,Ao hA,Dp.lst (ds:=([71,76,65,49]:List Int).map PyData.int) hB (YA K _ _),Ju _,Ju [71,76,65,49],_,Z,Qz (fun h2=>?_) (fun h2=>?_)⟩
  ·have h2:(!PyData.eqv (iD (bi (b.take 4))) (iD [71,76,65,49]))=true:=h2;rw[j9] at h2;have h2:¬ bi (b.take 4)=[71,76,65,49]:=by simpa using h2
   have ah:b.take 4≠Vi:=fun e=>h2 (by rw[e];rfl);rw[Wi ah]at k;exact⟨(by show 2<=sizeLine;decide),fun t B=>k _ _ (s0.trans (Qk _ B)) ⟨t,Z,Qe⟩⟩
  ·have h2:¬ (!PyData.eqv (iD (bi (b.take 4))) (iD [71,76,65,49]))=true:=h2;rw[j9] at h2;have h2:bi (b.take 4)=[71,76,65,49]:=by simpa using h2
   have ai:¬b.take 4≠Vi:=fun e=>e (i6 (h2.trans Z));rw[Wh ai]at k;generalize upd (upd H l (.lst (bl (b.take 4)))) l2 (.lst [.int 71,.int 76,.int 65,.int 49])=H0 at *;have cl:cb.length=6:=rfl
   refine⟨q,Z,⟨_,hq H0⟩,zy (K:=K) (a:=q) (xs:=as.map V.ref) (fun j σ H'=>uk fun(v1 v2:Option V)=>eC (σ=[some (.ref a),v1,v2]) (Qn H H') (∀m (J:m<j) (hl:m<cb.length),zg b cb[m]=false))
    ⟨none,none,Z,s0,fun m J=>by lia⟩ (fun i σ H' _ _=>hq H') ?_ ?_⟩
   ·rintro j x σ H1 hx ⟨v1,v2,rfl,s1,hb⟩;obtain⟨c,hc,rfl⟩:=Zm hx
    have hj:j<cb.length:=by have:=(List.getElem?_eq_some_iff.1 hc).1;rw[G]at this;simpa [yw] using this
    have n:∀H,bY K H c [.int (cb[j].1:Int),.int (cb[j].2.1:Int),.int (cb[j].2.2.1:Int),.int (cb[j].2.2.2:Int)]:=fun H=>by
     have:=ac j c [(cb[j].1:Int),(cb[j].2.1:Int),(cb[j].2.2.1:Int),(cb[j].2.2.2:Int)] hc (by unfold yw;rw[xL,xF hj];rfl) H;exact this
    refine⟨_,Z,_,Z,c,_,_,_,Z,Z,n _,Qm (j:=0) Z,_,Z,c,_,_,_,Z,Z,n _,Qm (j:=1) Z,a,b,cb[j].1,cb[j].2.1,_,_,Z,Z,Z,s1.seq hS,fun H2 O=>?_⟩;have s2:=s1.trans O
    have ret:zg b cb[j]=true->∀t,H2 t=none->Q (.ref t) (upd H2 t (.tup [.int 2,.int (cb[j].1:Int)])):=fun aa t B=>by
     rw[l8 (p:=zg b) hj aa (fun m J=>hb m J L)]at k;exact k _ _ (s2.trans (Qk _ B)) ⟨t,Z,Qe⟩
    refine⟨_,Z,_,Z,c,_,_,_,Z,Z,n _,Qm (j:=2) Z,_,_,Z,Z,_,Z,Qz (fun h3=>ZG ?_) (fun h3=>?_)⟩
    ·have h3:((xI b cb[j].1 cb[j].2.1:Nat):Int)<(cb[j].2.2.1:Int):=Wj h3;refine⟨_,Z,c,_,_,_,Z,Z,n _,Qm (j:=0) Z,(by show 2<=sizeLine;decide),ret ?_⟩;unfold zg;lia
    ·have h3:¬ ((xI b cb[j].1 cb[j].2.1:Nat):Int)<(cb[j].2.2.1:Int):=fun z=>h3 (Wk z);refine⟨_,Z,_,Z,c,_,_,_,Z,Z,n _,Qm (j:=3) Z,_,_,Z,Z,_,Z,Qz (fun h4=>?_) (fun h4=>?_)⟩
     ·have h4:(cb[j].2.2.2:Int)<((xI b cb[j].1 cb[j].2.1:Nat):Int):=Wj h4;refine⟨_,Z,c,_,_,_,Z,Z,n _,Qm (j:=0) Z,(by show 2<=sizeLine;decide),ret ?_⟩;unfold zg;lia
     ·have h4:¬ (cb[j].2.2.2:Int)<((xI b cb[j].1 cb[j].2.1:Nat):Int):=fun z=>h4 (Wk z);refine⟨_,_,Z,s2,fun m J hl=>?_⟩;by_cases e:m=j
      ·subst e;unfold zg;lia
      grind
   ·rintro σ H1 ⟨v1,v2,rfl,s1,hb⟩;rw[lz (p:=zg b) fun m J=>hb m (by rw[xD,G];simpa [yw] using J) J] at k;refine⟨_,Z,a,_,Z,.inl (s1.seq hS),_,Z,a,b,Z,s1.seq hS,fun H2 t O B=>⟨t,_,_,_,Z,Z,bY.of B,Qm (j:=3) Z,Z,_,Z,?_⟩⟩;have s2:=s1.trans O;refine Qz (fun h5=>?_) (fun h5=>?_)
    ·have h5:¬ ((bl b).length:Int)=((20+8*xI b 12 2+4*xI b 14 2+12*xI b 16 2:Nat):Int):=by simpa using h5
     rw[Ql]at h5;have k2:=k;simp only at k2;rw[Wi (show b.length≠20+8*xI b 12 2+4*xI b 14 2+12*xI b 16 2 by lia)]at k2;exact⟨(by show 2<=sizeLine;decide),fun t B=>k2 _ _ (s2.trans (Qk _ B)) ⟨t,Z,Qe⟩⟩
    ·have h5:((bl b).length:Int)=((20+8*xI b 12 2+4*xI b 14 2+12*xI b 16 2:Nat):Int):=by simpa using h5
     rw[Ql]at h5;have k2:=k;simp only at k2;rw[Wh (show ¬b.length≠20+8*xI b 12 2+4*xI b 14 2+12*xI b 16 2 by lia)]at k2;exact k2 _ _ s2 rfl
open Gla (Pt Plan Mark Sheet)
def Hx(b:xC):List V:=[.int ((xH b).1:Int),.int ((xH b).2.1:Int),.int ((xH b).2.2.1:Int),.int ((xH b).2.2.2.1:Int),.int ((xH b).2.2.2.2:Int)]
inductive yW(K:xB)(vs:List V)(H:Hp)(Q:VK)(E:XK):Prop
 |mk (a:Addr) (b:xC):vs=[.ref a]->ba K H a (bl b)->(∀H' t,Qn H H'->H' t=some (.tup (Hx b))->Q (.ref t) H')->yW K vs H Q E
structure xu(K:xB)(mg:Str->Option Value):Prop where
 g80:GI mg "HEAD_BYTES_workshop" 80
 g16:GI mg "SHEET_BYTES" 16
 g8:GI mg "KIND_BYTES" 8
 g64:GI mg "GLASS_BYTES" 64
 g69:GI mg "PAINTING_BYTES" 69
 g64b:GI mg "BANDS_BYTES" 64
 g4:GI mg "MOST_COATS" 4
def wQ:List (Nat×Nat×Nat):=[(0,0,65535),(4,1,16777215),(8,1,16777215),(12,0,1)]
def Aq:List (Nat×Nat×Nat):=[(0,1,1400),(4,0,9999)]
def sheets(b:xC):List Sheet:=(xP (xI b 56 4)).map (fun(i:Nat)=>Qb0 b ((xH b).1+16*i))
def kinds(b:xC):List Vx:=(xP (xI b 60 4)).map (fun(i:Nat)=>Qb6 b ((xH b).2.1+8*i))
def YX(b:xC):Option Nat:=(Ge (fun(_:Nat) (s:Sheet)=>!s.ok) (sheets b)).map fun i=>(xH b).1+16*i
def YW(b:xC):Option Nat:=(Ge (fun(_:Nat) (k:Vx)=>!k.ok) (kinds b)).map fun i=>(xH b).2.1+8*i
theorem Y8(b:xC)(p lo hi s:Nat):zb b (p,lo,hi) s=!(Gf lo hi (xI b (s+p) 4)):=by unfold zb Gf;lia
theorem gC{s:Nat} {l:List (Nat×Nat×Nat)}:(eW b s l=none)↔l.all (fun r=>!zb b r s)=true:=by unfold eW;rw[V3,UB,Qaa];grind
theorem rD(b:xC)(p:Nat):(eW b p wQ=none)↔(Qb0 b p).ok=true:=by rw[gC];unfold wQ Gla.Sheet.ok Qb0;simp only[UP,List.all_nil,Y8,Qbn,Qb3,UO,Gla.SIDE,Gf,x9,decide_true,UD];exact Iff.rfl
theorem lM(b:xC)(p:Nat):(eW b p Aq=none)↔(Qb6 b p).ok=true:=by rw[gC];unfold Aq Gla.Kind.ok Qb6;simp only[UP,List.all_nil,Y8,Qbn,Qb3,UO,Gla.HOTTEST,Gf,x9,decide_true,UD];exact Iff.rfl
inductive qP(K:xB)(f:xC->Option Nat)(vs:List V)(H:Hp)(Q:VK)(E:XK):Prop
 |mk (a t:Addr) (b:xC):vs=[.ref a,.ref t]->ba K H a (bl b)->bY K H t (Hx b)->b.length=(xH b).2.2.2.2->b.length<=100000->(∀H',Qn H H'->Q (JD (f b)) H')->qP K f vs H Q E
theorem AF(F:bG K "part_places" "part_places" CJ f fd)(T:xu K mg) (N:bu P w K mg base 1 "number_at" ["octets","place","size"] (JF K)):QC P w K mg base bD 2 f fd ["workshop"] (yW K):=by
 apply F.bM yY;rintro _ H Q E ⟨a,b,rfl,j,k⟩;refine⟨Z,fun _ _ _ _ hr=>?_⟩
 refine⟨_,Qb (bA 1 yY.nd (QA QV (QP T.g80) (Qs N hr (Qa (pv 0) (Qa Qi (Qa Qi Qc))))))
  (Qb (bA 2 yY.nd (QA QV (pv 1) (QA ZN (QP T.g16) (Qs N hr (Qa (pv 0) (Qa Qi (Qa Qi Qc)))))))
  (Qb (bA 3 yY.nd (QA QV (pv 2) (QA ZN (QP T.g8) (Qs N hr (Qa (pv 0) (Qa Qi (Qa Qi Qc)))))))
  (Qb (bA 4 yY.nd (QA QV (pv 3) (QA ZN (QP T.g64) (Qs N hr (Qa (pv 0) (Qa Qi (Qa Qi Qc)))))))
  (Qb (bA 5 yY.nd (QA QV (pv 4) (QA ZN (QP T.g69) (Qs N hr (Qa (pv 0) (Qa Qi (Qa Qi Qc)))))))
  (Qd (Qj (Ze (Qa (pv 1) (Qa (pv 2) (Qa (pv 3) (Qa (pv 4) (Qa (pv 5) Qc)))))))))))),?_⟩
 refine⟨_,Z,a,b,4,4,_,_,Z,Z,Z,j,fun H1 I=>⟨_,_,Z,Z,?_⟩⟩;refine⟨_,Z,_,Z,a,b,56,4,_,_,Z,Z,Z,I.seq j,fun H2 n=>⟨_,_,Z,Z,.inl ⟨by decide,by decide⟩,_,_,Z,Z,?_⟩⟩;have J:=I.trans n;refine⟨_,Z,_,Z,a,b,60,4,_,_,Z,Z,Z,J.seq j,fun H3 z=>⟨_,_,Z,Z,.inl ⟨by decide,by decide⟩,_,_,Z,Z,?_⟩⟩;have O:=J.trans z;refine⟨_,Z,_,Z,a,b,64,4,_,_,Z,Z,Z,O.seq j,fun H4 B=>⟨_,_,Z,Z,.inl ⟨by decide,by decide⟩,_,_,Z,Z,?_⟩⟩;have U:=O.trans B;refine⟨_,Z,_,Z,a,b,68,4,_,_,Z,Z,Z,U.seq j,fun H5 G=>⟨_,_,Z,Z,.inl ⟨by decide,by decide⟩,_,_,Z,Z,?_⟩⟩;have s5:=U.trans G;refine⟨_,Z,_,Z,_,Z,_,Z,_,Z,(by show 5<=sizeLine;decide),fun t ht=>k _ t (s5.trans (Qk _ ht)) ?_⟩;rw[Qe];unfold Hx xH VR;simp only[Qbv,Int.natCast_mul];rfl
theorem jR{i:Int}{c n:Nat}(hc:0<c)(B:c<1000)(hi:0<=i)(F:i<2 ^ 40)(I:n<2 ^ 20):Di i (i+(c:Int)*(n:Int)) (c:Int) n:=by
 have J:(c:Int)*(n:Int)<=1000*2 ^ 20:=by have h1:(c:Int)*(n:Int)<=1000*(n:Int):=Qad L L;lia
 have G:0<=(c:Int)*(n:Int):=UF L L
 have z:Builtin.Range.rangeSize i (i+(c:Int)*(n:Int)) (c:Int)=(n:Int):=by
  unfold Builtin.Range.rangeSize;rw[Wi L];by_cases h:n=0
  ·subst h;simp
  ·have O:0<(c:Int)*(n:Int):=UQ L L;rw[Wi L];have e:(i+(c:Int)*(n:Int)-i-1)=((c:Int)-1)+(c:Int)*((n:Int)-1):=by rw[Qa3];lia
   rw[e,Int.add_mul_ediv_left _ _ L,Int.ediv_eq_zero_of_lt L L];lia
 refine⟨by lia,by lia,?_,z⟩;unfold Builtin.Range.small;rw[z];have j:(c:Int)>0:=by lia
 simp only[Builtin.Range.rangeFitsLong,Ga,VM,Wp,beq_iff_eq,j,Wq];lia
theorem zM(b:xC):(sheets b).length=xI b 56 4:=by simp[sheets]
theorem zN(b:xC)(i:Nat) (h:i<(sheets b).length):(sheets b)[i]=Qb0 b ((xH b).1+16*i):=by simp[sheets]
theorem G'(F:bG K "wrong_sheet" "wrong_sheet" Ko f fd)(T:xu K mg)(U:Txt K mg) (Bd:uG K mg "SHEET_BOUNDS" (Yv wQ)) (O:bu P w K mg base 2 "out_of_bounds" ["workshop","start","bounds"] (ff K)) :
  QC P w K mg base bD 3 f fd ["workshop","places"] (qP K YX):=by
 obtain⟨q,as,J,hq,z,aa⟩:=Bd.ex;apply F.bM E7;rintro _ H Q E ⟨a,t,b,rfl,hS,ht,ab,ag,k⟩;refine⟨Z,fun _ _ _ _ hr=>?_⟩
 refine⟨_,Qb (QL PassesOwn.never Z (Jp Z U.range (Qa (Qy QO (pv 1) Qi (fun _ _=>rfl)) (Qa (Qy QO (pv 1) Qi (fun _ _=>rfl)) (Qa (QP T.g16) Qc)))) (b0 2 E7.nd)
   (Qd (QD (Q7 (ZW (Qs O hr (Qa (pv 0) (Qa (pv 2) (Qa (Xr J) Qc)))))) (Qd (Qj (pv 2))) Qq)))
  (Qd (Qj QT)),?_⟩
 have ah:(xH b).1+16*xI b 56 4+8*xI b 60 4<=b.length:=by rw[ab];unfold xH;lia
 have e1:(xH b).2.1=(xH b).1+16*xI b 56 4:=rfl;have k0:(xH b).2.1=(xH b).1+16*xI b 56 4:=rfl
 have rg:Di (((xH b).1:Nat):Int) (((xH b).2.1:Nat):Int) 16 (xI b 56 4):=by have:=jR (i:=(((xH b).1:Nat):Int)) (c:=16) (n:=xI b 56 4) Wa Wa L L L;grind
 refine⟨_,Z,t,_,_,_,Z,Z,ht,Qm (j:=0) Z,_,Z,t,_,_,_,Z,Z,ht,Qm (j:=1) Z,_,_,_,_,Z,rg,JW (lo:=(((xH b).1:Nat):Int)) (c:=16) (n:=xI b 56 4) (fun i σ H'=>∃v2:Option V,eC (σ=[some (.ref a),some (.ref t),v2]) (Qn H H') (∀j (G:j<i) (hl:j<(sheets b).length),(!((sheets b)[j]).ok)=false))
  ⟨none,Z,Qn.refl _,fun j G=>by lia⟩ ?_ ?_⟩
 ·rintro i σ H1 hi ⟨v2,rfl,I,hb⟩;have ac:i<(sheets b).length:=by rw[zM];exact hi
  have ei:(((xH b).1:Nat):Int)+((i:Nat):Int)*16=(((xH b).1+16*i:Nat):Int):=by lia
  refine⟨_,Z,_,Z,a,q,b,(xH b).1+16*i,_,as,wQ,Z,ei,I.seq hS,hq,(by rw[z];rfl),(fun m c r hm hr H=>by
   have:=aa m c [(r.1:Int),(r.2.1:Int),(r.2.2:Int)] hm (by unfold Yv;rw[xL,hr];rfl) H;exact this),fun H2 ad=>⟨_,Z,?_⟩⟩
  have s2:=I.trans ad;have ok:=rD b ((xH b).1+16*i);refine Qz (fun h1=>?_) (fun h1=>?_)
  ·have ai:¬eW b ((xH b).1+16*i) wQ=none:=fun e=>by
    rw[e]at h1;exact Wm h1 (by simp[JD])
   have B:(!((sheets b)[i]).ok)=true:=by rw[zN];lia
   have e:YX b=some ((xH b).1+16*i):=by unfold YX;rw[Zq (l:=sheets b) ac B (fun j G=>hb j G L)];rfl
   have:=k H2 s2;rw[e]at this;refine⟨_,Z,?_⟩;show Q (.int ((((xH b).1:Nat):Int)+((i:Nat):Int)*16)) H2;rw[ei];exact this
  ·have af:eW b ((xH b).1+16*i) wQ=none:=by
    cases hh:eW b ((xH b).1+16*i) wQ with
    |none=>rfl
    |some m=>rw[hh]at h1;exact Wm Z h1
   refine⟨_,Z,s2,fun j G hl=>?_⟩;by_cases qq:j=i
   ·subst qq;rw[zN,ok.1 af];rfl
   grind
 ·rintro σ H1 ⟨v2,rfl,I,hb⟩
  have e:YX b=none:=by unfold YX;have:Ge (fun(_:Nat) (x:Sheet)=>!x.ok) (sheets b)=none:=Pl.bx.2 fun i hi=>hb i (by rw[zM]at hi;exact hi) hi;grind
  have:=k H1 I;rw[e]at this;exact this
theorem jf(b:xC):(kinds b).length=xI b 60 4:=by simp[kinds]
theorem jg(b:xC)(i:Nat) (h:i<(kinds b).length):(kinds b)[i]=Qb6 b ((xH b).2.1+8*i):=by simp[kinds]
theorem EH(F:bG K "wrong_kind" "wrong_kind" HX f fd)(T:xu K mg)(U:Txt K mg) (Bd:uG K mg "KIND_BOUNDS" (Yv Aq)) (O:bu P w K mg base 2 "out_of_bounds" ["workshop","start","bounds"] (ff K)) :
  QC P w K mg base bD 3 f fd ["workshop","places"] (qP K YW):=by
 obtain⟨q,as,J,hq,z,aa⟩:=Bd.ex;apply F.bM Hf;rintro _ H Q E ⟨a,t,b,rfl,hS,ht,ab,ag,k⟩;refine⟨Z,fun _ _ _ _ hr=>?_⟩
 refine⟨_,Qb (QL PassesOwn.never Z (Jp Z U.range (Qa (Qy QO (pv 1) Qi (fun _ _=>rfl)) (Qa (Qy QO (pv 1) Qi (fun _ _=>rfl)) (Qa (QP T.g8) Qc)))) (b0 2 Hf.nd)
   (Qd (QD (Q7 (ZW (Qs O hr (Qa (pv 0) (Qa (pv 2) (Qa (Xr J) Qc)))))) (Qd (Qj (pv 2))) Qq)))
  (Qd (Qj QT)),?_⟩
 have ah:(xH b).1+16*xI b 56 4+8*xI b 60 4<=b.length:=by rw[ab];unfold xH;lia
 have e1:(xH b).2.2.1=(xH b).2.1+8*xI b 60 4:=rfl;have k0:(xH b).2.1=(xH b).1+16*xI b 56 4:=rfl
 have rg:Di (((xH b).2.1:Nat):Int) (((xH b).2.2.1:Nat):Int) 8 (xI b 60 4):=by have:=jR (i:=(((xH b).2.1:Nat):Int)) (c:=8) (n:=xI b 60 4) Wa Wa L L L;grind
 refine⟨_,Z,t,_,_,_,Z,Z,ht,Qm (j:=1) Z,_,Z,t,_,_,_,Z,Z,ht,Qm (j:=2) Z,_,_,_,_,Z,rg,JW (lo:=(((xH b).2.1:Nat):Int)) (c:=8) (n:=xI b 60 4) (fun i σ H'=>∃v2:Option V,eC (σ=[some (.ref a),some (.ref t),v2]) (Qn H H') (∀j (G:j<i) (hl:j<(kinds b).length),(!((kinds b)[j]).ok)=false))
  ⟨none,Z,Qn.refl _,fun j G=>by lia⟩ ?_ ?_⟩
 ·rintro i σ H1 hi ⟨v2,rfl,I,hb⟩;have ac:i<(kinds b).length:=by rw[jf];exact hi
  have ei:(((xH b).2.1:Nat):Int)+((i:Nat):Int)*8=(((xH b).2.1+8*i:Nat):Int):=by lia
  refine⟨_,Z,_,Z,a,q,b,(xH b).2.1+8*i,_,as,Aq,Z,ei,I.seq hS,hq,(by rw[z];rfl),(fun m c r hm hr H=>by
   have:=aa m c [(r.1:Int),(r.2.1:Int),(r.2.2:Int)] hm (by unfold Yv;rw[xL,hr];rfl) H;exact this),fun H2 ad=>⟨_,Z,?_⟩⟩
  have s2:=I.trans ad;have ok:=lM b ((xH b).2.1+8*i);refine Qz (fun h1=>?_) (fun h1=>?_)
  ·have ai:¬eW b ((xH b).2.1+8*i) Aq=none:=fun e=>by
    rw[e]at h1;exact Wm h1 (by simp[JD])
   have B:(!((kinds b)[i]).ok)=true:=by rw[jg];lia
   have e:YW b=some ((xH b).2.1+8*i):=by unfold YW;rw[Zq (l:=kinds b) ac B (fun j G=>hb j G L)];rfl
   have:=k H2 s2;rw[e]at this;refine⟨_,Z,?_⟩;show Q (.int ((((xH b).2.1:Nat):Int)+((i:Nat):Int)*8)) H2;rw[ei];exact this
  ·have af:eW b ((xH b).2.1+8*i) Aq=none:=by
    cases hh:eW b ((xH b).2.1+8*i) Aq with
    |none=>rfl
    |some m=>rw[hh]at h1;exact Wm Z h1
   refine⟨_,Z,s2,fun j G hl=>?_⟩;by_cases qq:j=i
   ·subst qq;rw[jg,ok.1 af];rfl
   grind
 ·rintro σ H1 ⟨v2,rfl,I,hb⟩
  have e:YW b=none:=by unfold YW;have:Ge (fun(_:Nat) (x:Vx)=>!x.ok) (kinds b)=none:=Pl.bx.2 fun i hi=>hb i (by rw[jf]at hi;exact hi) hi;grind
  have:=k H1 I;rw[e]at this;exact this
theorem Kx{p:Nat}(h:p<b.length):xI b p 1=(b[p]).toNat:=by unfold xI;rw[GH h];show(b[p]).toNat+256*0=_;lia
theorem ma{p:Nat}(h:p<b.length):(bl b)[p]?=some (V.int ((xI b p 1:Nat):Int)):=by rw[Kx h];unfold bl;grind
def qV(ks:List Vx)(k:Nat):Nat:=((ks[k]?).map Gla.Kind.heat).getD 0
def X3(ks:List Vx)(b:xC)(p i:Nat):Bool:=
 if i<xI b (p+64) 1 then !decide (xI b (p+65+i) 1<ks.length)||(decide (0<i)&&!decide (qV ks (xI b (p+65+i) 1)<qV ks (xI b (p+65+(i-1)) 1))) else xI b (p+65+i) 1 != 0
theorem ip(ks:List Vx)(b:xC)(p:Nat):Vl ks b p=if Gf 1 4 (xI b (p+64) 1)=false then some (p+64) else((xP 4).find? (X3 ks b p)).map fun i=>p+65+i:=rfl
abbrev KI:Stmt:=top 79
abbrev Ik:Stmt:=top 80
theorem Fp:a7 ["workshop","place","coat","heats","kind"] ["workshop","place","coat","heats"] (a6 KI):=.mk'
theorem Hc:a7 ["workshop","place","heats","coat"] ["workshop","place","heats"] (a6 Ik):=.mk'
inductive Ay(K:xB)(vs:List V)(H:Hp)(Q:VK)(E:XK):Prop
 |mk (a h:Addr) (b:xC) (ks:List Vx) (p c:Nat) (i j:Int):vs=[.ref a,.int i,.int j,.ref h]->i=((p+64:Nat):Int)->j=(c:Int)->c<4->ba K H a (bl b)->ba K H h (ni (ks.map Gla.Kind.heat))->p+69<=b.length->((0<c->c<xI b (p+64) 1->xI b (p+65+(c-1)) 1<ks.length))->Q (.bl (!X3 ks b p c)) H->Ay K vs H Q E
inductive Bn(K:xB)(vs:List V)(H:Hp)(Q:VK)(E:XK):Prop
 |mk (a h:Addr) (b:xC) (ks:List Vx) (p:Nat) (i:Int):vs=[.ref a,.int i,.ref h]->i=((p+64:Nat):Int)->ba K H a (bl b)->ba K H h (ni (ks.map Gla.Kind.heat))->p+69<=b.length->(∀H',Qn H H'->Q (JD (Vl ks b p)) H')->Bn K vs H Q E
theorem lV{ks:List Vx}{k:Nat}(h:k<ks.length):(ni (ks.map Gla.Kind.heat))[k]?=some (V.int ((qV ks k:Nat):Int)):=by unfold ni qV;rw[xL,xL,xF h];rfl
theorem FV(F:bG K "is_right_coat" "is_right_coat" KI f fd)(U:Txt K mg):QC P w K mg base bD 1 f fd ["workshop","place","coat","heats"] (Ay K):=by
 apply F.bM Fp;rintro _ H Q E ⟨a,h,b,ks,p,c,i,j,rfl,rfl,rfl,O,B,G,hp,n,k⟩;refine⟨Z,fun _ _ _ _ _=>?_⟩
 refine⟨_,Qb (bA 4 Fp.nd (Qy QE (pv 0) (QA QV (QA QV (pv 1) Qi) (pv 2)) (fun _ _=>rfl)))
  (Qb (QD (Qt fM (pv 2) (Qy QE (pv 0) (pv 1) (fun _ _=>rfl)) (Qo _)) (Qd (Qj (QM XM (pv 4) Qi (Qo _)))) Qq)
  (Qb (QD (Qt fM (pv 4) (Qx Qp Wg U.len Wx (Qa (pv 3) Qc)) (Qo _)) (Qd (Qj Xh)) Qq)
  (Qd (Qj (Eu (QM XM (pv 2) Qi (Qo _)) (Y5 (QM ZE (Qy QE (pv 3) (pv 4) (fun _ _=>rfl)) (Qy QE (pv 3) (Qy QE (pv 0) (QA QV (pv 1) (pv 2)) (fun _ _=>rfl)) (fun _ _=>rfl)) (Qo _)))))))),?_⟩
 have i1:((p+64:Nat):Int)+1+(c:Int)=((p+65+c:Nat):Int):=by lia
 refine⟨_,Z,_,Z,_,_,Z,Z,_,Z,_,_,Z,Z,a,_,_,_,Z,Z,B,at_of (j:=p+65+c) i1 (ma L),?_⟩;refine⟨_,Z,_,Z,_,Z,a,_,_,_,Z,Z,B,Qm (j:=p+64) (ma L),_,_,Z,Z,_,Z,Qz (fun h1=>?_) (fun h1=>?_)⟩
 ·have h1:((xI b (p+64) 1:Nat):Int)<=(c:Int):=Wj h1;unfold X3 at k;rw[Wh L] at k;refine⟨_,Z,Z,?_⟩
  have e:(!(xI b (p+65+c) 1 != 0))=decide (V.int ((xI b (p+65+c) 1:Nat):Int)=V.int 0):=by grind
  lia
 ·have h1:¬ ((xI b (p+64) 1:Nat):Int)<=(c:Int):=fun z=>h1 (Wk z);unfold X3 at k;rw[Wi L] at k;have hl:((ni (ks.map Gla.Kind.heat)).length:Int)=ks.length:=by simp[ni]
  refine⟨_,Z,_,Z,h,_,Z,.inl G,_,_,Z,Z,_,Z,Qz (fun h2=>?_) (fun h2=>?_)⟩
  ·have h2:((ni (ks.map Gla.Kind.heat)).length:Int)<=((xI b (p+65+c) 1:Nat):Int):=Wj h2;rw[hl]at h2;rw[Wl (show ¬xI b (p+65+c) 1<ks.length by lia)]at k;exact k
  ·have h2:¬ ((ni (ks.map Gla.Kind.heat)).length:Int)<=((xI b (p+65+c) 1:Nat):Int):=fun z=>h2 (Wk z);rw[hl] at h2;rw[Wk (show xI b (p+65+c) 1<ks.length by lia),Bool.not_true,Qb2] at k;refine⟨_,Z,Z,_,Z,Qz (fun I=>?_) (fun I=>?_)⟩
   ·lia
   ·have I:¬ (c:Int)=0:=by simpa using I
    rw[Wk (show 0<c by lia),UD,Qbn]at k;have J:=n L L;have i2:((p+64:Nat):Int)+(c:Int)=((p+65+(c-1):Nat):Int):=by lia
    refine⟨_,Z,_,Z,h,_,_,_,Z,Z,G,Qm (lV L),_,Z,_,Z,_,Z,_,Z,_,_,Z,Z,a,_,_,_,Z,Z,B,at_of (j:=p+65+(c-1)) i2 (ma L),h,_,_,_,Z,Z,G,Qm (lV J),_,_,Z,Z,?_⟩
    have e:decide (qV ks (xI b (p+65+c) 1)<qV ks (xI b (p+65+(c-1)) 1))=decide (((qV ks (xI b (p+65+c) 1):Nat):Int)<((qV ks (xI b (p+65+(c-1)) 1):Nat):Int)):=by lia
    lia
theorem DO(F:bG K "wrong_coat" "wrong_coat" Ik f fd)(T:xu K mg)(U:Txt K mg) (R:bu P w K mg base 1 "is_right_coat" ["workshop","place","coat","heats"] (Ay K)):QC P w K mg base bD 2 f fd ["workshop","place","heats"] (Bn K):=by
 apply F.bM Hc;rintro _ H Q E ⟨a,h,b,ks,p,i,rfl,rfl,J,hh,hp,k⟩;refine⟨Z,fun _ _ _ _ hr=>?_⟩
 refine⟨_,Qb (QD (Xq (Qt ZE (Qy QE (pv 0) (pv 1) (fun _ _=>rfl)) Qi (Qo _)) (ZM (Qt Zn (Qy QE (pv 0) (pv 1) (fun _ _=>rfl)) (QP T.g4) (Qo _)))).pt (Qd (Qj (pv 1))) Qq)
  (Qb (QL PassesOwn.never Z (Jq Z U.range (Qa (QP T.g4) Qc)) (b0 3 Hc.nd)
   (Qd (QD (X7 (Zd (Qs R hr (Qa (pv 0) (Qa (pv 1) (Qa (pv 3) (Qa (pv 2) Qc))))))) (Qd (Qj (QA QV (QA QV (pv 1) Qi) (pv 3)))) Qq)))
  (Qd (Qj QT))),?_⟩
 rw[ip]at k;have B:=ma (b:=b) (p:=p+64) L;refine⟨_,Z,_,Z,a,_,_,_,Z,Z,J,Qm (j:=p+64) B,_,_,Z,Z,_,Z,Qz (fun h1=>ZG ?_) (fun h1=>?_)⟩
 ·have h1:((xI b (p+64) 1:Nat):Int)<1:=Wj h1;have e:Gf 1 4 (xI b (p+64) 1)=false:=by unfold Gf;simp;lia
  rw[Wi e]at k;exact⟨_,Z,k H (Qn.refl _)⟩
 ·have h1:¬ ((xI b (p+64) 1:Nat):Int)<1:=fun z=>h1 (Wk z);refine⟨_,Z,_,Z,a,_,_,_,Z,Z,J,Qm (j:=p+64) B,_,_,Z,Z,_,Z,Qz (fun h2=>?_) (fun h2=>?_)⟩
  ·have h2:(4:Int)<((xI b (p+64) 1:Nat):Int):=Wj h2;have e:Gf 1 4 (xI b (p+64) 1)=false:=by unfold Gf;simp;lia
   rw[Wi e]at k;exact⟨_,Z,k H (Qn.refl _)⟩
  ·have h2:¬ (4:Int)<((xI b (p+64) 1:Nat):Int):=fun z=>h2 (Wk z);have e:¬ Gf 1 4 (xI b (p+64) 1)=false:=by unfold Gf;simp;lia
   rw[Wh e]at k
   refine⟨_,Z,by decide,by decide,Jv (lo:=0) (n:=(4:Int).toNat) (fun i σ H'=>∃O:Option V,eC (σ=[some (.ref a),some (.int ((p+64:Nat):Int)),some (.ref h),O]) (H'=H) (∀j,j<i->X3 ks b p j=false))
    ⟨none,Z,Z,fun j hj=>by lia⟩ ?_ ?_⟩
   ·rintro i σ H1 hi ⟨O,rfl,rfl,I⟩;have hi:i<4:=hi;have ei:(0:Int)+(i:Int)=(i:Int):=by lia
    rw[ei];refine⟨_,Z,_,Z,_,Z,_,Z,a,h,b,ks,p,i,_,_,Z,Z,Z,hi,J,hh,hp,(fun h0 hn=>?_),_,Z,Qz (fun G=>?_) (fun G=>?_)⟩
    ·have:=I (i-1) L;unfold X3 at this;lia
    ·have G:X3 ks b p i=true:=by simpa using G
     rw[Zt (n:=4) hi G I]at k;refine⟨_,Z,_,_,Z,Z,_,Z,_,_,Z,Z,?_⟩;have:=k H1 (Qn.refl _);have e2:((p+64:Nat):Int)+1+(i:Int)=((p+65+i:Nat):Int):=by lia
     show Q (.int (((p+64:Nat):Int)+1+(i:Int))) H1;rw[e2];exact this
    ·have G:X3 ks b p i=false:=by simpa using G
     refine⟨_,Z,Z,fun j hj=>?_⟩;grind
   ·rintro σ H1 ⟨O,rfl,rfl,I⟩;rw[ze (n:=4) (fun i hi=>I i hi)]at k;exact k H1 (Qn.refl _)
noncomputable def wb:List (Nat×Nat×Nat):=[(8,0,1000),(12,1,1000),(16,0,1000),(20,1,1000),(24,0,65535),(28,0,1000),(32,1,1000),(36,1,16777215),(40,0,65535),(44,0,65535),(48,0,65535),(52,1,255),(56,0,1024),(60,0,16),(64,0,256),(68,0,256)]
def qi(b:xC):Option WA:=
 if b.length<80 then some (1,b.length) else if b.take 4≠G5 then some (1,0) else match eW b 0 wb with
  |some p=>some (2,p)
  |none=>if b.length≠(xH b).2.2.2.2 then some (3,4) else none
theorem FN:a7 ["workshop","place"] ["workshop"] (a6 Kz):=.mk'
theorem EC(F:bG K "head_fault" "head_fault" Kz f fd)(T:xu K mg)(U:Txt K mg) (Bd:uG K mg "HEAD_BOUNDS_workshop" (Yv wb)) (O:bu P w K mg base 2 "out_of_bounds" ["workshop","start","bounds"] (ff K))
  (Sg:EM K mg "WORKSHOP_SIGN" [.int 71,.int 76,.int 65,.int 87]) (ao:bu P w K mg base 2 "part_places" ["workshop"] (yW K)):QC P w K mg base bD 3 f fd ["workshop"] (zL K qi):=by
 obtain⟨q,as,ab,hq,aa,ac⟩:=Bd.ex;obtain⟨qs,ad,af⟩:=Sg.ex;apply F.bM FN;rintro _ H Q E ⟨a,b,rfl,I,an,k⟩;refine⟨Z,fun _ _ _ _ hr=>?_⟩
 refine⟨_,Qb (QD (Qt ZE (Qx Qp Wg U.len Wx (Qa (pv 0) Qc)) (QP T.g80) (Qo _)) (Qd (Qj (Ze (Qa Qi (Qa (Qx Qp Wg U.len Wx (Qa (pv 0) Qc)) Qc))))) Qq)
  (Qb (QD (Qt (jX hr.units) (XH Yu (pv 0) zq (Xe Qi)) (Js Xz Wg U.lst YB (Qa (Xr ad) Qc)) (Qo _)) (Qd (Qj (Ze (Qa Qi (Qa Qi Qc))))) Qq)
  (Qb (bA 1 FN.nd (Qs O hr (Qa (pv 0) (Qa Qi (Qa (Xr ab) Qc)))))
  (Qb (QD (Q7 (ZW (pv 1))) (Qd (Qj (Ze (Qa Qi (Qa (pv 1) Qc))))) Qq)
  (Qb (QD (Qt qb (Qx Qp Wg U.len Wx (Qa (pv 0) Qc)) (Qy QO (Qs ao hr (Qa (pv 0) Qc)) Qi (fun _ _=>rfl)) (Qo _)) (Qd (Qj (Ze (Qa Qi (Qa Qi Qc))))) Qq)
  (Qd (Qj QT)))))),?_⟩
 unfold qi at k;refine⟨_,Z,a,_,Z,.inl I,_,_,Z,Z,_,Z,Qz (fun h1=>?_) (fun h1=>?_)⟩
 ·have h1:((bl b).length:Int)<80:=Wj h1;rw[Ql]at h1;rw[Wi (show b.length<80 by lia)]at k;refine⟨_,Z,a,_,Z,.inl I,(by show 2<=sizeLine;decide),fun t n=>k _ _ (Qk _ n) ⟨t,Z,?_⟩⟩;show upd H t _ t=_;rw[Qe,Ql];rfl
 ·have h1:¬ ((bl b).length:Int)<80:=fun z=>h1 (Wk z);rw[Ql] at h1;rw[Wh (show ¬ b.length<80 by lia)] at k;refine⟨_,Z,_,Z,a,_,Z,I,fun l hl=>⟨qs,_,Z,.inr (af _),fun J B=>?_⟩⟩
  have ec:X9 (bl b) none (some ((4:Nat):Int))=bl (b.take 4):=by rw[yt];unfold bl;rw[Vs]
  have ag:X9 (bl b) none (some 4)=bl (b.take 4):=ec;rw[ag]at B ⊢;have nl:l≠J:=Qg (Qe) B;have hA:ba K (upd (upd H l (.lst (bl (b.take 4)))) J (.lst [.int 71,.int 76,.int 65,.int 87])) l (bl (b.take 4)):=ba.of (by rw[Qh nl,Qe]);have hB:ba K (upd (upd H l (.lst (bl (b.take 4)))) J (.lst [.int 71,.int 76,.int 65,.int 87])) J (([71,76,65,87]:List Int).map V.int):=ba.of Qe;have s0:Qn H (upd (upd H l (.lst (bl (b.take 4)))) J (.lst [.int 71,.int 76,.int 65,.int 87])):=(Qk _ hl).trans (Qk _ B);refine⟨_,_,Ao hA,Dp.lst (ds:=([71,76,65,87]:List Int).map PyData.int) hB (YA K _ _),Ju _,Ju [71,76,65,87],_,Z,Qz (fun h2=>?_) (fun h2=>?_)⟩
  ·have h2:(!PyData.eqv (iD (bi (b.take 4))) (iD [71,76,65,87]))=true:=h2;rw[j9] at h2;have h2:¬ bi (b.take 4)=[71,76,65,87]:=by simpa using h2
   have ah:b.take 4≠G5:=fun e=>h2 (by rw[e];rfl);rw[Wi ah]at k;exact⟨(by show 2<=sizeLine;decide),fun t n=>k _ _ (s0.trans (Qk _ n)) ⟨t,Z,Qe⟩⟩
  ·have h2:¬ (!PyData.eqv (iD (bi (b.take 4))) (iD [71,76,65,87]))=true:=h2;rw[j9] at h2;have h2:bi (b.take 4)=[71,76,65,87]:=by simpa using h2
   have ai:¬b.take 4≠G5:=fun e=>e (i6 (h2.trans Z));rw[Wh ai]at k;generalize upd (upd H l (.lst (bl (b.take 4)))) J (.lst [.int 71,.int 76,.int 65,.int 87])=H0 at *
   refine⟨_,Z,a,q,b,0,_,as,wb,Z,Z,s0.seq I,hq,(by rw[aa];rfl),(fun m c r hm hr H=>by
    have:=ac m c [(r.1:Int),(r.2.1:Int),(r.2.2:Int)] hm (by unfold Yv;rw[xL,hr];rfl) H;exact this),fun H1 aj=>?_⟩
   have s1:=s0.trans aj;cases ho:eW b 0 wb with
   | some p=>
    rw[ho]at k;refine⟨_,Z,_,Z,Qz (fun h3=>?_) (fun h3=>Wm (by simp[JD]) h3)⟩;exact⟨_,Z,(by show 2<=sizeLine;decide),fun t n=>k _ _ (s1.trans (Qk _ n)) ⟨t,Z,Qe⟩⟩
   | none=>
    rw[ho]at k;refine⟨_,Z,_,Z,Qz (fun h3=>Wm h3 (by simp[JD])) (fun h3=>?_)⟩;refine⟨_,Z,a,_,Z,.inl (s1.seq I),_,Z,a,b,Z,s1.seq I,fun H2 t ak n=>?_⟩;have s2:=s1.trans ak;refine⟨t,_,_,_,Z,Z,bY.of n,Qm (j:=4) Z,Z,_,Z,Qz (fun G=>?_) (fun G=>?_)⟩
    ·have G:¬ ((bl b).length:Int)=(((xH b).2.2.2.2:Nat):Int):=by simpa using G
     rw[Ql]at G;have k2:=k;simp only at k2;rw[Wi (show b.length≠(xH b).2.2.2.2 by lia)]at k2;exact⟨(by show 2<=sizeLine;decide),fun t n=>k2 _ _ (s2.trans (Qk _ n)) ⟨t,Z,Qe⟩⟩
    ·have G:((bl b).length:Int)=(((xH b).2.2.2.2:Nat):Int):=by simpa using G
     rw[Ql]at G;have k2:=k;simp only at k2;rw[Wh (show ¬b.length≠(xH b).2.2.2.2 by lia)]at k2;exact k2 _ _ s2 rfl
end Gp
namespace L2
open PySem PySem.Spec PyProof.Rows
theorem pz{lo c:Int}{n:Nat}{g:TG}{tt:TT}{te:TE}{vs:List Nat}{σ:St}{H1:Hp}{D:Addr}{J:Hp->Prop}(j:Nat->Hp->Prop) (h0:j 0 (upd H1 D (.lst [])))
  (U:∀ i H,i<n->j i H->g (.int (lo+(i:Nat)*c)) (ZB σ vs) H fun z H2=>ZB z vs=ZB σ vs/\tt z H2 fun b F=>
   if b=true then te z F fun y G=>∃acc,G D=some (.lst acc)/\acc.length<sizeLine/\j (i+1) (upd G D (.lst (acc++[y]))) else j (i+1) F) (hd:∀H,j n H->J H) :
  ∃W:Nat->Nat->Hp->Prop,(∃m,W 0 m (upd H1 D (.lst [])))/\∀i m H,W i m H->
   ((wW lo c n).stop i H/\J H)\/((wW lo c n).go i H/\∃ I:Hp->Prop,(∀ H',I H'->∃ O,O<m/\W (i+1) O H')/\∀ x H',(wW lo c n).yld i H x H'->g x (ZB σ vs) H' fun z H2=>ZB z vs=ZB σ vs/\tt z H2 fun b F=>
    if b=true then te z F fun y G=>∃acc,G D=some (.lst acc)/\acc.length<sizeLine/\I (upd G D (.lst (acc++[y]))) else I F):=by
 refine⟨fun i m H=>m=n-i/\i<=n/\j i H,⟨n,by simp,x9 _,h0⟩,?_⟩;rintro i m H ⟨rfl,hi,p⟩;by_cases B:i<n
 ·refine .inr ⟨B,j (i+1),fun H' p'=>⟨n-(i+1),by lia,Z,B,p'⟩,fun x H' y=>?_⟩;obtain⟨e,y⟩:=y;subst e y;exact U i _ B p
 ·have e:i=n:=by lia
  subst e;exact .inl ⟨xO _,hd H p⟩
end L2
namespace Gp
open PySem PySem.Spec PyProof.Rows L2
abbrev vT:Stmt:=top 81
theorem g7:a7 ["workshop","places","heats","painting","place"] ["workshop","places"] (a6 vT):=.mk'
def YV(b:xC):Option Nat:=(xP (xI b 68 4)).findSome? fun(i:Nat)=>Vl (kinds b) b ((xH b).2.2.2.1+69*i)
theorem yn{n i:Nat}{f:Nat->Option Nat}{x:Nat}(hi:i<n)(h:f i=some x)(z:∀j,j<i->f j=none):(xP n).findSome? f=some x:=by
 rw[List.findSome?_eq_some_iff];refine⟨xP i,i,(xP n).drop (i+1),?_,h,?_⟩
 ·apply Qbc
  ·simp;lia
  ·intro m h1 h2;rcases Uu m i with q | q | q
   ·rw[VI (by simpa using q)];simp
   ·subst q;rw[UZ We];simp
   ·rw[UZ (by simp;lia)];simp only[U6,List.getElem_range];rw[List.getElem_cons];rw[dif_neg L];simp;lia
 ·intro j B;exact z j (List.mem_range.1 B)
theorem iL(b:xC):(kinds b).map Gla.Kind.heat=(xP (xI b 60 4)).map fun i=>xI b ((xH b).2.1+8*i) 4:=by unfold kinds;rw[VA];rfl
theorem B9(F:bG K "wrong_painting" "wrong_painting" vT f fd)(T:xu K mg)(U:Txt K mg) (N:bu P w K mg base 1 "number_at" ["octets","place","size"] (JF K)) (Wc:bu P w K mg base 2 "wrong_coat" ["workshop","place","heats"] (Bn K)) :
  QC P w K mg base bD 3 f fd ["workshop","places"] (qP K YV):=by
 apply F.bM g7;rintro _ H Q E ⟨a,t,b,rfl,hS,J,ac,ad,k⟩;refine⟨Z,fun _ _ _ _ hr=>?_⟩
 refine⟨_,Qb (gx (i:=2) (own:=[("place",4)]) Z g7.nd Z Z (lG Z Z Z Z) (Jp Z U.range (Qa (Qy QO (pv 1) Qi (fun _ _=>rfl)) (Qa (Qy QO (pv 1) Qi (fun _ _=>rfl)) (Qa (QP T.g8) Qc))))
   (ZI (N:=["workshop","places","heats","painting","place"]) (sc:=a6 vT) Wb) (fun _ _ _ _ _=>b0 4 g7.nd) (fun _ _ _ _ _=>Jn) (fun _ _ _ _ _=>Qs N (hr.mono Wa) (Qa (pv 0) (Qa (pv 4) (Qa Qi Qc)))))
  (Qb (QL PassesOwn.never Z (Jp Z U.range (Qa (Qy QO (pv 1) Qi (fun _ _=>rfl)) (Qa (Qy QO (pv 1) Qi (fun _ _=>rfl)) (Qa (QP T.g69) Qc)))) (b0 3 g7.nd)
   (Qb (bA 4 g7.nd (Qs Wc hr (Qa (pv 0) (Qa (QA QV (pv 3) (QP T.g64b)) (Qa (pv 2) Qc)))))
   (Qd (QD (Q7 (ZW (pv 4))) (Qd (Qj (pv 4))) Qq))))
  (Qd (Qj QT))),?_⟩
 have e1:(xH b).2.2.1=(xH b).2.1+8*xI b 60 4:=rfl;have e3:(xH b).2.2.2.1=(xH b).2.2.1+64*xI b 64 4:=rfl;have e2:(xH b).2.2.2.2=(xH b).2.2.2.1+69*xI b 68 4:=rfl
 have af:(xH b).2.1+8*xI b 60 4<=b.length/\(xH b).2.2.2.1+69*xI b 68 4=b.length:=by lia
 have O:Di (((xH b).2.1:Nat):Int) (((xH b).2.2.1:Nat):Int) 8 (xI b 60 4):=by have:=jR (i:=(((xH b).2.1:Nat):Int)) (c:=8) (n:=xI b 60 4) Wa Wa L L L;grind
 have aa:Di (((xH b).2.2.2.1:Nat):Int) (((xH b).2.2.2.2:Nat):Int) 69 (xI b 68 4):=by have:=jR (i:=(((xH b).2.2.2.1:Nat):Int)) (c:=69) (n:=xI b 68 4) Wa Wa L L L;grind
 refine⟨_,Z,t,_,_,_,Z,Z,J,Qm (j:=1) Z,_,Z,t,_,_,_,Z,Z,J,Qm (j:=2) Z,_,_,_,_,Z,O,fun h hh=>pz (lo:=(((xH b).2.1:Nat):Int)) (c:=8) (n:=xI b 60 4) (fun i H'=>Qn H H'/\H' h=some (.lst (ni ((xP i).map fun i=>xI b ((xH b).2.1+8*i) 4))))
  ⟨Qk _ hh,Qe⟩ ?_ ?_⟩
 ·rintro i H1 hi ⟨z,h1⟩;have ei:(((xH b).2.1:Nat):Int)+((i:Nat):Int)*8=(((xH b).2.1+8*i:Nat):Int):=by lia
  refine⟨Z,_,Z,_,Z,a,b,(xH b).2.1+8*i,4,_,_,Z,ei,Z,z.seq hS,fun H2 B=>?_⟩;have h2:H2 h=some (.lst (ni ((xP i).map fun i=>xI b ((xH b).2.1+8*i) 4))):=B _ _ h1;refine⟨_,h2,?_,?_,?_⟩
  ·simp[ni];exact x3 hi (xM (show xI b 60 4<=100000 by lia) Wa)
  ·intro c o e;rw[Qh (Qg e hh)];exact B _ _ (z _ _ e)
  ·rw[Qe,U1];simp[ni]
 ·rintro H1 ⟨z,h1⟩;rw[<-iL] at h1
  refine⟨_,Z,t,_,_,_,Z,Z,Qn.tup z J,Qm (j:=3) Z,_,Z,t,_,_,_,Z,Z,Qn.tup z J,Qm (j:=4) Z,_,_,_,_,Z,aa,JW (lo:=(((xH b).2.2.2.1:Nat):Int)) (c:=69) (n:=xI b 68 4) (fun i σ H'=>uk fun(v3 v4:Option V)=>eC (σ=[some (.ref a),some (.ref t),some (.ref h),v3,v4]) (Qn H1 H') (∀j,j<i->Vl (kinds b) b ((xH b).2.2.2.1+69*j)=none))
   ⟨none,none,Z,Qn.refl _,fun j hj=>by lia⟩ ?_ ?_⟩
  ·rintro i σ H2 hi ⟨v3,v4,rfl,G,hb⟩;have ei:(((xH b).2.2.2.1:Nat):Int)+((i:Nat):Int)*69+64=(((xH b).2.2.2.1+69*i+64:Nat):Int):=by lia
   refine⟨_,Z,_,Z,_,_,Z,Z,_,Z,a,h,b,kinds b,(xH b).2.2.2.1+69*i,_,Z,ei,(z.trans G).seq hS,ba.of (G _ _ h1),by lia,fun H3 ab=>?_⟩;have s3:=G.trans ab;cases hc:Vl (kinds b) b ((xH b).2.2.2.1+69*i) with
   | some x=>
    refine⟨_,Z,_,Z,Qz (fun I=>?_) (fun I=>Wm (by simp[JD]) I)⟩;refine⟨_,Z,?_⟩
    have e:YV b=some x:=by unfold YV;exact yn hi hc hb
    have:=k H3 (z.trans s3);rw[e]at this;exact this
   | none=>
    refine⟨_,Z,_,Z,Qz (fun I=>Wm I (by simp[JD])) (fun I=>?_)⟩;refine⟨_,_,Z,s3,fun j hj=>?_⟩;by_cases qq:j=i
    ·lia
    ·grind
  ·rintro σ H2 ⟨v3,v4,rfl,G,hb⟩
   have e:YV b=none:=by unfold YV;grind
   have:=k H2 (z.trans G);rw[e]at this;exact this
end Gp
namespace L2
open PySem PySem.Spec PyProof.Rows
def Ig(K:xB)(j:Nat->Prop)(Ok:Nat->Addr->FuncData->List Str->Sp->Prop)(i:Nat)(t:TA):TE:=fun σ H Q=>∃(f:Addr)(fd:FuncData)(ps:List Str)(k:Nat)(sp:Sp),σ[i]?=some (some (.ref f))/\GU K (.ref f)=true/\Xu K fd ps []/\Ok k f fd ps sp/\j k/\t σ H fun vs H1=>sp vs H1 Q E0
theorem uq{X:Cx}(i:Nat){x:Str}{p pos:Pos}{e:Expr}{es:List Expr}{t:TA} (G:PA X (e::es) t) (J:X.N[i]?=some x:=by rfl) (O:vJ X.env.scope x:=by first|exact G4 rfl|exact UH (G4 Z)|exact UH (UH Z)) (hd:(x==("__debug__" : Str))=false:=by decide)
  (j:(x==("__classdict__" : Str))=false:=by decide) (U:starEach (e::es) X.env=(false,eval e X.env)::starEach es X.env:=by rfl) (n:(backTo pos (starEach es X.env)).any (·.1)=false:=by rfl) :
  PE X (.Call (.Name x p) (e::es) [] pos) (Ig X.K (fun k=>ZJ k X.A) (fun k f fd ps sp=>QC X.prog X.w X.K X.mg X.base bD k f fd ps sp) i t):=by
 intro aZ s σ H Q I h;obtain⟨f,fd,ps,k,sp,h1,hk,hb,F,hr,h⟩:=h;refine wpAny_Call_Name_kw (bz (jV (pos:=p) J O hd j aZ s σ H (fun v H'=>v=.ref f/\H'=H) I ⟨_,h1,Z,Z⟩) fun u s0 ⟨v,H0,z,r0,ev,eH⟩=>?_);subst ev eH;cases r0;refine VO (h₀:=X.base) z.ok.mod.kin hk (bz (G pos aZ s0 σ _ _ z h) fun us s1 ⟨vs,H1,B,r,q⟩=>⟨B.eK,?_⟩) U n;exact jQ (dvs:=[]) (ds:=[]) F hr hb .nil Zc B r (by rw[Ux];exact q)
end L2
namespace Gp
open Gla (Pt Plan Mark)
def JG(S:Plan):Option Nat:=if UG S=false then some 20 else none
def rules:List (Plan->Option Nat):=[YG,Yl,JG,Y0,YZ,YY,Z9,X6,Y1,qz]
def X2(S:Plan):Nat->List (Plan->Option Nat)->Option WA
 |_,[]=>none
 | n,f::r=>match f S with
  |some p=>some (n,p)
  |none=>X2 S (n+1) r
def qH(S:Plan):Option WA:=X2 S 4 rules
theorem tG(S:Plan):(S.fault).map (fun e=>(e.rule,e.place))=qH S:=by
 unfold Plan.fault qH rules;simp only[X2,YG,Yl,JG,Y0,YZ,YY,Z9,X6,Y1,qz];cases G:Um (fun(p:Pt)=>decide (p.x<=S.w)&&decide (p.y<=S.h)) Pt.below S.pts with
 |some i=>rfl
 | none=>
  simp only[Uz];cases I:Um (fun(l:WA)=>decide (l.1<l.2)&&decide (l.2<S.pts.length)) Ui S.lines with
  |some i=>rfl
  | none=>
   simp only[Uz];by_cases n:UG S=false
   ·simp[n,Qb9]
   ·simp only[n,Wr];cases J:Ge (Vb S) S.lines with
    |some i=>rfl
    | none=>
     simp only[Uz];cases O:(xP S.pts.length).find? (fun(i:Nat)=>decide ((S.near i).length<2)) with
     |some i=>rfl
     | none=>
      simp only[Uz];cases U:(xP S.pts.length).find? (fun(i:Nat)=>!((Vq S.nears S.pts.length 0 (Gg S.pts.length)).getD i false)) with
      |some i=>rfl
      | none=>
       simp only[Uz];cases z:(xP S.pts.length).find? (V5 S.nears S.pts.length) with
       |some i=>rfl
       | none=>
        simp only[Uz];cases B:Um (Gla.markOk S) Gla.markBelow S.marks with
        |some i=>rfl
        | none=>
         simp only[Uz];cases F:Qae S S.outlines 0 [] S.marks with
         |some i=>rfl
         | none=>
          simp only[Uz];by_cases j:S.marks.length<S.outlines.length
          ·simp[j]
          ·simp[j]
theorem map_none{α β:Type}{f:α->β}{o:Option α}(h:o.map f=none):o=none:=by cases o<;>simp_all
theorem vP{S:Plan}(hw:16<=S.w/\S.w<=1048575)(G:16<=S.h/\S.h<=1048575)(I:YG S=none)(J:Yl S=none)(O:JG S=none)(U:Y0 S=none)(h8:YZ S=none)(h9:YY S=none)(z:Z9 S=none) :
  Pl.Good S/\∀v,v<S.pts.length->2<=(S.near v).length:=by
 have F:Pl.a9 S:=Pl.wA hw.2 G.2 (map_none I) (map_none J) (map_none U)
 have hf:UG S=true:=by unfold JG at O;lia
 have Dj:∀v,v<S.pts.length->2<=(S.near v).length:=by have:=map_none h8;grind
 have c2:∀v,v<S.pts.length->V5 S.nears S.pts.length v=false:=by have:=map_none z;grind
 have A:=Pl.eA hf;obtain⟨i,hi,pi⟩:=A.c00;obtain⟨j,hj,B⟩:=A.cw0;have aa:i≠j:=by intro e;subst e;rw[pi]at B;simp at B;lia
 refine⟨⟨F,F.conn (map_none h9),fun v n=>F.tq n L (c2 v n),fun v n=>?_,by lia,by lia,hf⟩,Dj⟩;have:=Dj v n;match hn:S.near v,this with
 |a::_,_=>exact⟨a,F.cp.1 (by rw[hn];simp)⟩
 |[],this=>simp at this
end Gp
namespace PySem
open Sem (wp)
section
variable {prog:Program} {w:World} {A:Around} {E:Value->Shared->Prop} {s:Shared}
theorem rb{T j:String}{self:Value}{av:List Value} {kv:List (Str×Value)} (hl:typeLookup (.type T) "__init__" = pure (some (.builtin "object.__init__"))) (B:Bind.madeBy (.type T)=pure (some j)) (z:(some j != some "object.__new__")=true) :
  Meets (Builtin.«object.__init__» ⟨self::av,kv⟩) (fun _ R s=>s.TypeIs self T/\R (.ok (.ret .none)) s):=by
 refine Meets.of_wp fun prog w A R s ⟨F,n⟩=>?_;match av,kv with
 |[],[]=>exact wpAny_pure ⟨_,Z,n⟩
 | a::av,kv=>
  repeat (any_goals (first|assumption|wp_step))
  exact⟨_,Z,n⟩
 | [],k::kv=>
  repeat (any_goals (first|assumption|wp_step))
  exact⟨_,Z,n⟩
theorem oo{T z:String}{O:Builtin}{av:List Value} {kv:List (Str×Value)} {S:Spec} {Q:Value->Shared->Prop} (tc:TypeCalled T z "object.__init__")
  (B:(some z != some "object.__new__")=true) (c1:checkTypeCall T ⟨av,kv⟩=pure ()) (c2:checkBuiltinCall z ⟨.type T::av,kv⟩=pure ())
  (c3:∀o,argsOk "object.__init__" ⟨o::av,kv⟩) (en:entryFor table z=some O) (mt:Meets (O ⟨.type T::av,kv⟩) S)
  (hq:S A.in1 (wants (fun o I=>I.TypeIs o T/\Q o I) E) s):wpAny (model prog w) A (call (.type T) av kv) Q E s:=by
 obtain⟨c,tl,em⟩:=tc.mro;have m1:=tc.made;have m2:=tc.sub;refine wpAny_call (codeAny_of_tree ?_);show wpAny _ _ (callAny (.type T) _) _ _ _;refine wpAny_pure ⟨Code.quiet_builtin _ Wb,codeAny_builtin F.entry_type_call ?_⟩;rw[Around.under_plain (weight_type_call_type T av kv) (units_type_call_type T av kv)];have n1:=tc.notType;have n2:=tc.canCreate;repeat (any_goals (first|assumption|wp_step))
 refine codeAny_mono (codeAny_call_builtin tc.plain en (wpAny_of_eq c2 (mt prog w A.in1 _ s hq))) fun J I n=>?_;match J,n with
 |.error e,n=>exact n
 | .ok (.ret o),n=>
  obtain⟨U,hQ⟩:=n;have l1:=tc.init.lookup;have l2:=tc.init.bind o;repeat (any_goals (first|assumption|wp_step))
  refine codeAny_mono (codeAny_call_builtin tc.init.plain F.entry_object_init (tc.init.check _ _ _ _ _ _ _ _ U (c3 o) ((rb (av:=av) (kv:=kv) l1 tc.made B) prog w A.in1 (wants (fun r s2=>r=.none/\Q o s2) E) I ?hi))) fun G s2 j=>?_;case hi=>exact⟨U,Z,hQ⟩
  match G,j with
  |.error e,j=>exact j
  | .ok (.ret r),j=>
   obtain⟨rfl,aa⟩:=j;repeat (any_goals (first|assumption|wp_step))
  |.ok .next,j=>exact j.elim
  |.ok .brk,j=>exact j.elim
  |.ok .cont,j=>exact j.elim
 |.ok .next,n=>exact n.elim
 |.ok .brk,n=>exact n.elim
 |.ok .cont,n=>exact n.elim
end
open AutoSeq1 (wpAny_loadPart')
theorem sx(l:Addr)(a8:Array Value)(n:Nat)(F:Option Addr) (G:Array (Option Value)) (k:Int) (tk:Tok) (I:Builtin.SmallTypes.fitsIndex k=true) :
  Meets (Builtin.«enumerate.__new__» ⟨[.type "enumerate",.ref l],[("start",.int k tk)]⟩) (fun _ R s=>s.heap.get? l=some { cls:=.type "list",dict:=F,data:=.seq a8 n,slots:=G }/\
   R (.ok (.ret (.ref ((s.heap.push { cls:=.type "list_iterator",data:=.fields #[.ref l,.int 0 0] }).objs.size))))
    { s with heap:=(s.heap.push { cls:=.type "list_iterator",data:=.fields #[.ref l,.int 0 0] }).push { cls:=.type "enumerate",data:=.fields #[.none,.bool false,.ref s.heap.objs.size,rawInt k,.none,.none] } }):=by
 refine .of_wp fun prog w A R s q=>?_;obtain⟨J,g,d,z,os⟩:=s;obtain⟨j,q⟩:=q;have es:=sub_enumerate;have B:Heap.IsList (Shared.heap ⟨J,g,d,z,os⟩) l a8:=⟨_,j,Z,n,Z⟩
 wp_walk using wpAny_loadPart' j
 refine wpAny_stack_any fun EV=>wpAny_pure ?_;split
 ·rename_i O _ _ _ _ _;cases (O==Value.type "enumerate")
  ·wp_walk using wpAny_loadPart' j,wpAny_pyIter_list B
   exact⟨_,Z,q⟩
  ·wp_walk using wpAny_loadPart' j,wpAny_pyIter_list B
   exact⟨_,Z,q⟩
 ·wp_walk using wpAny_loadPart' j,wpAny_pyIter_list B
  exact⟨_,Z,q⟩
theorem Draws.shift{prog:Program}{w:World}{A:Around}{it:Addr}{z:List Addr}{n:Nat}{P:Nat->Value->Prop}{St:Nat->Heap->Prop}(D:Draws prog w A it z n P St)(c:Nat) :
  Draws prog w A it z (n+c) (fun i x=>c<=i/\P (i-c) x) (fun i h=>c<=i/\St (i-c) h) where
 live:=fun i h st=>D.live _ h st.2
 frame:=fun i h h' st k=>⟨st.1,D.frame _ h h' st.2 k⟩
 item:=fun i s Q E hi st B=>D.item (i-c) s Q E (by have:=st.1;lia) st.2 fun x h' tk p j F=>B x h' tk ⟨st.1,p⟩ ⟨by have:=st.1;lia,by rw[show i+1-c=i-c+1 by have:=st.1;lia];exact j⟩ F
 done:=fun s Q E st G=>D.done s Q E (by have:=st.2;rw[Qav]at this;exact this) G
end PySem
namespace L2
open PySem PySem.Spec PyProof.Rows
def rW(K:xB)(a:Addr)(c:Nat):It:=
 ⟨fun i H=>∃(xs:List V)(x:V),ba K H a xs/\xs[i]?=some x,fun i H v H'=>∃T x,v=.ref T/\H T=none/\H'=upd H T (.tup [.int ((i+c:Nat):Int),x])/\∀xs,ba K H a xs->xs[i]?=some x,fun i H=>∃xs:List V,ba K H a xs/\xs.length<=i⟩
theorem iQ{P : Program}{w : World}{K : xB}{O : List Expr}{kk : Nat}{dH : Pos}(a e it : Addr)(c : Nat)(af : a≠it)(ag : a≠e) :
    zh P w K (.Tuple O kk dH) (rW K a c) [e, it] e (fun i h => (∃B, IsEnum h e it ((i+c : Nat) : Int) B)/\h.IsListIter it a i/\e≠it) where
  mem := by simp
  obj := fun i h st b F => by
    obtain ⟨⟨B, G⟩, ⟨o, U, hc, hd⟩, _⟩ := st; have e' : b=e\/b=it := by simpa using F
    rcases e' with z|z
    · rw [z]; exact⟨_, G, fun v q => nomatch q⟩
    · rw [z]; exact⟨o, U, fun v q => by rw [hd]at q; cases q⟩
  keep := fun i h h' st k => let ⟨⟨B, G⟩, hi, n⟩ := st; ⟨⟨B, k e We _ G⟩, hi.at fun o q => k it We o q, n⟩
  item := by
    intro X hP hw hK hc i aZ s σ H E I hf st hg; subst hP hw hK; obtain ⟨⟨B, G⟩, J, n⟩ := st; obtain ⟨xs, x, hq, hx⟩ := hg; obtain ⟨a8, rv, p, hz⟩ := I.list hq; obtain ⟨u, hu, ru⟩ := rv.get hx; have aa : e<s.heap.objs.size := Wu G; have ah : it<s.heap.objs.size := by obtain ⟨_, q, _⟩ := J; exact Wu q
    have D := (Draws.list (prog := X.prog) (w := X.w) (A := X.A.in1) (I.ok.hd hc) it a af a8.toArray).shift c; have ai : c<=i+c/\(s.heap.IsListIter it a (i+c-c)/\s.heap.IsList a a8.toArray) := ⟨by lia, by rw [Qav]; exact J, p.isList⟩; have av : i<a8.length := by rw [<- rv.length]; exact(List.getElem?_eq_some_iff.1 hx).1
    refine wpAny_pyNext_enum_itemD D (i := i+c) G ai (by rw [xS]; lia) n (by simp only [GW, GD, Ws, not_or]; exact⟨n, fun z => ag z.symm⟩) fun y h' tk hy U ab hT hsz hk => ?_
    have aj : y=u := by
      have h1 := hy.2; rw [Qav]at h1; rw [List.getElem?_toArray]at h1; exact Wo (h1.symm.trans hu)
    subst aj; refine⟨_, rfl, wpAny_letOwnedTupleGo_enum (s := { s with heap := h', toks := tk+1 }) U fun ac ak sb => ?_⟩; have an := (sb.2 s.heap.objs.size (G9 aa)).trans hT
    have ao : Zh X.prog X.w (upd H s.heap.objs.size (.tup [.int ((i+c : Nat) : Int), x])) ac s.heap.objs.size (.tup [.int ((i+c : Nat) : Int), x]) :=
      ⟨by show 2<=sizeLine; decide, [.int ((i+c : Nat) : Int) tk, y], .cons ⟨_, rfl⟩ (.cons ru .nil), ⟨_, an, rfl, _, rfl⟩⟩
    have I1 : Inv X aZ σ (upd H s.heap.objs.size (.tup [.int ((i+c : Nat) : Int), x])) { s with heap := ac, toks := tk+1 } :=
      I.dO (ch := [e, it]) (fun b ob F q => (sb.2 b (fun z => F (by simp [z]))).trans (hk b ob (fun z => F (by simp [z])) (fun z => F (by simp [z])) q)) hf (xO _) ao
    have ad : h'.IsListIter it a (i+1) := by
      have := ab.2.1; rw [show i+c+1-c=i+1 by lia]at this; exact this
    refine⟨.ref s.heap.objs.size, _, I1, rfl, ⟨_, x, rfl, I.bp.fresh (xO _), rfl, fun ys hy => by rw [I.cP hy hq]; exact hx⟩, ⟨⟨y, ?_⟩, ad.at fun o q => (sb.2 it (Ne.symm n)).trans q, n⟩, fun b F => ?_⟩
    · have e1 : ((i + 1 + c : Nat) : Int) = ((i + c : Nat) : Int) + 1 := by lia
      rw [e1]; exact ak
    · have aq : b<s.heap.objs.size := by
        have e' : b=e\/b=it := by simpa using F
        rcases e' with z|z
        · rw [z]; exact aa
        · rw [z]; exact ah
      rw [Qh (xY aq)]; exact(hf b F).1
  done := by
    intro X hP hw hK hc i aZ s σ H E I hf st hg; subst hP hw hK; obtain ⟨⟨B, G⟩, J, n⟩ := st; obtain ⟨xs, hq, hx⟩ := hg; obtain ⟨a8, rv, p, hz⟩ := I.list hq; obtain ⟨f0, f1, f2, f3, f4, f5⟩ := hf it We; have hl := rv.length; have au : a8.toArray[i]? = none := by simp; lia
    have D : Draws X.prog X.w X.A.in1 it [it, a] i (fun _ _ => False) (fun j h => j=i/\h.IsListIter it a i/\h.IsList a a8.toArray) :=
      { live := fun _ _ st => let ⟨o, U, _⟩ := st.2.1; ⟨o, U⟩
        frame := fun _ _ _ st hk => ⟨st.1, st.2.1.at fun o z => hk it We o z, st.2.2.at fun o z => hk a We o z⟩
        item := fun j s Q E hj st _ => Wm st.1 L
        done := fun s Q E st hE => wpAny_nextOf_list_end (I.ok.hd hc) st.2.1 st.2.2 au hE }
    exact wpAny_pyNext_enum_endD D G ⟨Z, J, p.isList⟩ fun h' eb => ⟨Z, I.turned (t' := s.toks) (fun b o F q => eb b o F q) f0 f1 f3 f4 f5⟩
  self := fun A i s Q E st h => let ⟨⟨_, G⟩, _⟩ := st; wpAny_pyIter_enum G h
theorem Jw{K:xB}{a:Addr}{c:Nat}{xs:List V}{p q:Nat}{tb:TS}{D:JE}{σ:St}{H:Hp}(j:Nat->St->Hp->Prop)(h0:j 0 σ H)(hl:∀i σ H,i<=xs.length->j i σ H->ba K H a xs)
  (I:∀i x σ H H',xs[i]?=some x->j i σ H->Qn H H'->tb { D with nx:=j (i+1),ct:=j (i+1),bk:=D.nx } ((σ.set p (some (.int ((i+c:Nat):Int)))).set q (some x)) H') (hd:∀σ H,j xs.length σ H->D.nx σ H) :
  ∃W:Nat->Nat->St->Hp->Prop,(∃m,W 0 m σ H)/\∀i m σ H,W i m σ H->
   ((rW K a c).stop i H/\D.nx σ H)\/((rW K a c).go i H/\∃N:St->Hp->Prop,(∀B H',N B H'->∃G,G<m/\W (i+1) G B H')/\∀x H',(rW K a c).yld i H x H'->yK K 2 (Z8 (Zz p) (Z8 (Zz q) xg)) x σ H' fun J H2=>tb { D with nx:=N,ct:=N,bk:=D.nx } J H2):=by
 refine⟨fun i m σ H=>m=xs.length-i/\i<=xs.length/\j i σ H,⟨xs.length,by simp,x9 _,h0⟩,?_⟩;rintro i m σ H ⟨rfl,hi,pv⟩;have F:=hl i σ H hi pv;by_cases n:i<xs.length
 ·refine .inr ⟨⟨xs,xs[i],F,by simp[n]⟩,j (i+1),fun B H' O=>⟨xs.length-(i+1),by lia,Z,n,O⟩,fun x H' y=>?_⟩;obtain⟨T,z,rfl,U,rfl,y⟩:=y;refine⟨T,_,Z,bY.of Qe,Z,_,_,Z,_,_,Z,Z,?_⟩;exact I i z σ H _ (y xs F) pv fun b o e=>by rw[Qh (Qg e U)];exact e
 ·have e:i=xs.length:=by lia
  subst e;exact .inl ⟨⟨xs,F,xO _⟩,hd σ H pv⟩
end L2
namespace PySem
open PySem.F
theorem ue(a:Value)(v:Value):checkTypeCall "enumerate" ⟨[a],[("start",v)]⟩=pure ():=by kernel_rfl
theorem rP(a:Value)(v:Value):checkBuiltinCall "enumerate.__new__" ⟨[.type "enumerate",a],[("start",v)]⟩=pure ():=by kernel_rfl
theorem ux(o a:Value)(v:Value):argsOk "object.__init__" ⟨[o,a],[("start",v)]⟩:=by kernel_rfl
theorem iy{prog:Program}{w:World}{A:Around}{E:Value->Shared->Prop}{s:Shared}{l:Addr}{j:Array Value}{Q:Value->Shared->Prop}{k:Int}{tk:Tok}(z:Builtin.SmallTypes.fitsIndex k=true)(hL:s.heap.IsList l j)
  (h:∀h',IsEnum h' (s.heap.objs.size+1) s.heap.objs.size k .none->h'.IsListIter s.heap.objs.size l 0->(∀b o,s.heap.get? b=some o->h'.get? b=some o)->Q (.ref (s.heap.objs.size+1)) { s with heap:=h' }) :
  wpAny (model prog w) A (call (.type "enumerate") [.ref l] [("start",.int k tk)]) Q E s:=by
 obtain⟨⟨c,ij,dt,sl⟩,hl,B,n,G⟩:=hL
 replace B:c=.type "list" := B
 replace G:dt=.seq j n:=G
 subst B G;refine oo F.called_enumerate Wa (ue _ _) (rP _ _) (fun o=>ux o _ _) F.entry_enumerate_new (sx l j n ij sl k tk z) ⟨hl,?_⟩;show _/\_;generalize I:s.heap.push { cls:=.type "list_iterator",data:=.fields #[.ref l,.int 0 0] }=g;have hz:g.objs.size=s.heap.objs.size+1:=by rw[<-I];exact Ww ..
 have J:g.get? s.heap.objs.size=some { cls:=.type "list_iterator",data:=.fields #[.ref l,.int 0 0] }:=by rw[<-I];exact Wv _ rfl
 have O:∀b o,s.heap.get? b=some o->g.get? b=some o:=fun b o x=>by rw[<-I];exact Wt _ x
 have U:IsEnum (g.push { cls:=.type "enumerate",data:=.fields #[.none,.bool false,.ref s.heap.objs.size,rawInt k,.none,.none] }) (s.heap.objs.size+1) s.heap.objs.size k .none:=by have q:=Wv g (o:={ cls:=.type "enumerate",data:=.fields #[.none,.bool false,.ref s.heap.objs.size,rawInt k,.none,.none] }) rfl;lia
 rw[hz];exact⟨⟨_,U,Z⟩,h _ U ⟨_,Wt _ J,Z,Z⟩ fun b o x=>Wt _ (O b o x)⟩
theorem gD{M:Model}{A:Around}{E:Value->Shared->Prop}{s:Shared}{pos:Pos}{T:String} {args:List (Bool×Sem Value)} {wD:List (Option Str×Sem Value)} {Q:Value->Shared->Prop}
  (pl:(args.any (·.1)||wD.any (·.1.isNone))=false) (h:wpAny M A (evalArgs (.type T) true args wD) (fun a j=>wpAny M A (call (.type T) a.pos a.kw) Q E j) E s):wpAny M A (callWith pos (.type T) [] args wD) Q E s:=by
 unfold callWith;refine wpAny_bind (wpAny_holding (wpAny_mono h (fun a j h1=>wpAny_bind (wpAny_standAt ?_)) fun _ _ z=>z));rw[pl];refine wpAny_bind (wpAny_pure ?_);exact wpAny_bind (wpAny_mono h1 (fun r n hr=>wpAny_bind (wpAny_holding (wpAny_point (wpAny_pure hr)))) fun _ _ z=>z)
end PySem
namespace L2
open PySem PySem.Spec PyProof.Rows
inductive mv(K:xB)(R:It->Hp->Prop)(vs zs:List V)(H2:Hp):Prop
 |mk (a:Addr) (c:Nat) (xs:List V):vs=[.ref a]->zs=[.int (c:Int)]->c<65536->ba K H2 a xs->R (rW K a c) H2->mv K R vs zs H2
def CM(K:xB)(ta tk:TA):TI:=fun σ H R=>ta σ H fun vs H1=>tk σ H1 (mv K R vs)
theorem qa{X:Cx}{e O:Expr}{ta tk:TA}{p pos dH vj:Pos}{n:List Expr}{kk:Nat}(hg:Gl X "enumerate")(hm:X.mg "enumerate" = none)(ha:PA X [e] ta)(hk:PK X [⟨some "start",O,vj⟩] tk) (U:starEach [e] X.env=[(false,eval e X.env)]:=by rfl) :
  PI X (.Tuple n kk dH) (.Call (.Name "enumerate" p) [e] [⟨some "start",O,vj⟩] pos) (CM X.K ta tk):=by
 intro aZ s σ H R I h;refine wpAny_Call_Name_kw (X8 I hg hm boot_enumerate ?_);refine gD (by rw[U];rfl) (evalArgs_kw2 Wg (bz (ha pos aZ s σ H _ I h) fun us s1 ⟨vs,H1,I1,r1,q1⟩=>?_) U);refine bz (hk pos aZ s1 σ H1 _ I1 q1) fun ws j ⟨zs,H2,B,r2,q2⟩=>?_;obtain⟨a,c,xs,ex,ez,hc,hq,q⟩:=q2;subst ex ez;cases r1 with
 | cons r F=>
  cases F;cases r;cases r2 with
  | cons r' F=>
   cases F;obtain⟨t,rfl⟩:=r';obtain⟨a8,rv,p',hz⟩:=B.list hq;have la:a<j.heap.objs.size:=p'.lt
   have G:Builtin.SmallTypes.fitsIndex (c:Int)=true:=by unfold Builtin.SmallTypes.fitsIndex;grind
   refine iy G p'.isList fun h' he J hk=>wpAny_pyIter_enum he ?_;have I3:Inv X aZ σ H2 { j with heap:=h' }:=B.kept (t':=j.toks) hk;refine⟨j.heap.objs.size+1,[j.heap.objs.size+1,j.heap.objs.size],_,_,H2,rfl,I3,iQ a (j.heap.objs.size+1) j.heap.objs.size c (xY la) (xY (U8 la)),⟨⟨.none,by rw[U9];exact he⟩,J,Qbh _⟩,fun b hb=>?_,q⟩;have e':b=j.heap.objs.size+1\/b=j.heap.objs.size:=by simpa using hb
   have z:j.heap.objs.size<=b:=by lia
   exact B.fv z (B.bp.fresh z)
end L2
namespace Gp
open PySem PySem.Spec PyProof.Rows L2
open Gla (Plan)
structure Dl(S:Plan):Prop where
 w:16<=S.w/\S.w<=1048575
 h:16<=S.h/\S.h<=1048575
 siz:Jj S
 pts:4<=S.pts.length
 smm:∀m∈S.marks,Sm m.at_
theorem CY(h:JJ b=none):Dl (U5 b):=by
 unfold JJ at h;split at h
 ·cases h
 ·split at h
  ·cases h
  ·split at h
   ·cases h
   ·rename_i hf;rw[UB] at hf
    have g:∀r∈cb,r.2.2.1<=xI b r.1 r.2.1/\xI b r.1 r.2.1<=r.2.2.2:=by intro r hr;have:=hf r hr;unfold zg at this;lia
    have g1:=g (4,4,16,1048575) (by simp[cb]);have j:=g (8,4,16,1048575) (by simp[cb]);have n:=g (12,2,4,4096) (by simp[cb]);have g4:=g (14,2,4,8192) (by simp[cb]);have g5:=g (16,2,1,2048) (by simp[cb]);simp only at g1 j n g4 g5;refine⟨g1,j,⟨?_,?_,?_⟩,?_,?_⟩
    ·show((xP _).map _).length<=_;grind
    ·show((xP _).map _).length<=_;grind
    ·show((xP _).map _).length<=_;grind
    ·show 4<=((xP _).map _).length;grind
    ·intro m z;obtain⟨i,_,rfl⟩:=List.mem_map.1 z;exact⟨FO _ _,FO _ _⟩
inductive vS(K:xB)(C:Addr)(vs:List V)(H:Hp)(Q:VK)(E:XK):Prop
 |mk (d:Addr) (S:Plan) (dx lp ll lm:Addr) (ap al am:List Addr):vs=[.ref d]->Dw K C H d S dx lp ll lm ap al am->Dl S->(∀H' v,Qn H H'->Yc H' v (qH S)->Q v H')->vS K C vs H Q E
def Je(b:xC):Option WA:=match JJ b with
 |some x=>some x
 |none=>qH (U5 b)
inductive Bl(K:xB) (f:xC->Option WA) (vs:List V) (H:Hp) (Q:VK) (E:XK):Prop
 |mk (a t:Addr) (b:xC):vs=[.ref a,.ref t]->ba K H a (bl b)->bY K H t (Hx b)->qi b=none->b.length<=100000->(∀H' v,Qn H H'->Yc H' v (f b)->Q v H')->Bl K f vs H Q E
def pT (f:xC->Option WA) (b:xC):Option WA:=match qi b with
 |some x=>some x
 |none=>f b
abbrev KJ:Stmt:=top 56
abbrev Az:Stmt:=top 85
theorem Fy:a7 ["octets","fault"] ["octets"] (a6 KJ):=.mk'
theorem Ac:a7 ["workshop","fault"] ["workshop"] (a6 Az):=.mk'
theorem EF(F:bG K "cartoon_fault" "cartoon_fault" KJ f fd) (G:bu P w K mg base 3 "head_fault_cartoon" ["octets"] (zL K JJ)) (Dr:bu P w K mg base 3 "drawing_of" ["octets"] (l7 K C))
  (I:bu P w K mg base 6 "drawing_fault" ["drawing"] (vS K C)):QC P w K mg base bD 7 f fd ["octets"] (zL K Je):=by
 apply F.bM Fy;rintro _ H Q E ⟨a,b,rfl,B,hl,k⟩;refine⟨Z,fun _ _ _ _ hr=>?_⟩
 refine⟨_,Qb (bA 1 Fy.nd (Qs G (hr.mono Wa) (Qa (pv 0) Qc)))
  (Qb (QD (Q7 (ZW (pv 1))) (Qd (Qj (pv 1))) Qq)
  (Qd (Qj (Qs I (hr.mono Wa) (Qa (Qs Dr (hr.mono Wa) (Qa (pv 0) Qc)) Qc))))),?_⟩
 refine⟨_,Z,a,b,Z,B,hl,fun H1 v z j=>?_⟩;cases e:JJ b with
 | some x=>
  rw[e]at j;obtain⟨q,rfl,J⟩:=j;refine⟨_,Z,_,Z,Qz (fun n=>?_) (fun n=>Wm We n)⟩;refine⟨_,Z,k H1 _ z ?_⟩;unfold Je;rw[e];exact⟨q,Z,J⟩
 | none=>
  rw[e]at j;have O:v=.bQ:=j;subst O;refine⟨_,Z,_,Z,Qz (fun n=>Wm n We) (fun n=>?_)⟩;refine⟨_,Z,a,b,Z,z.seq B,fun H2 d dx lp ll lm ap al am U D=>?_⟩;refine⟨d,_,dx,lp,ll,lm,ap,al,am,Z,D,CY e,fun H3 v s3 j=>k H3 v ((z.trans U).trans s3) ?_⟩;unfold Je;rw[e];exact j
theorem CP {g:xC->Option WA} (F:bG K "workshop_fault" "workshop_fault" Az f fd) (I:bu P w K mg base 3 "head_fault_workshop" ["workshop"] (zL K qi)) (J:bu P w K mg base 2 "part_places" ["workshop"] (yW K))
  (O:bu P w K mg base 8 "parts_fault" ["workshop","places"] (Bl K g)):QC P w K mg base bD 9 f fd ["workshop"] (zL K (pT g)):=by
 apply F.bM Ac;rintro _ H Q E ⟨a,b,rfl,B,hl,k⟩;refine⟨Z,fun _ _ _ _ hr=>?_⟩
 refine⟨_,Qb (bA 1 Ac.nd (Qs I (hr.mono Wa) (Qa (pv 0) Qc)))
  (Qb (QD (Q7 (ZW (pv 1))) (Qd (Qj (pv 1))) Qq)
  (Qd (Qj (Qs O (hr.mono Wa) (Qa (pv 0) (Qa (Qs J (hr.mono Wa) (Qa (pv 0) Qc)) Qc)))))),?_⟩
 refine⟨_,Z,a,b,Z,B,hl,fun H1 v z j=>?_⟩;cases e:qi b with
 | some x=>
  rw[e]at j;obtain⟨q,rfl,U⟩:=j;refine⟨_,Z,_,Z,Qz (fun n=>?_) (fun n=>Wm We n)⟩;refine⟨_,Z,k H1 _ z ?_⟩;unfold pT;rw[e];exact⟨q,Z,U⟩
 | none=>
  rw[e]at j;have hv:v=.bQ:=j;subst hv;refine⟨_,Z,_,Z,Qz (fun n=>Wm n We) (fun n=>?_)⟩;refine⟨_,Z,_,Z,a,b,Z,z.seq B,fun H2 t G ht=>?_⟩;refine⟨a,t,b,Z,(z.trans G).seq B,bY.of ht,e,hl,fun H3 v s3 j=>k H3 v ((z.trans G).trans s3) ?_⟩;unfold pT;rw[e];exact j
open Gla (Pt Plan Mark)
theorem qk{S:Plan}{p:Nat}:∀{l:List (Plan->Option Nat)} {n i:Nat} {f:Plan->Option Nat},l[i]?=some f->f S=some p->(∀(j:Nat)(g:Plan->Option Nat),j<i->l[j]?=some g->g S=none)->X2 S n l=some (n+i,p)
 |[],_,_,_,h,_,_=>by simp at h
 | g::l,n,0,f,h,hf,_=>by
  have e:g=f:=by simpa using h
  subst e;simp[X2,hf]
 | g::l,n,i+1,f,h,hf,hb=>by
  have B:=hb 0 g L rfl;have:=qk (n:=n+1) (l:=l) (i:=i) (f:=f) (by simpa using h) hf (fun j g' F z=>hb (j+1) g' L (by simpa using z));simp only[X2,B,this];rw[show n+1+i=n+(i+1) by lia]
theorem ql{S:Plan}:∀{l:List (Plan->Option Nat)} {n:Nat},(∀(j:Nat)(g:Plan->Option Nat),l[j]?=some g->g S=none)->X2 S n l=none
 |[],_,_=>rfl
 | g::l,n,hb=>by
  have z:=hb 0 g rfl;simp only[X2,z];exact ql fun j g' B=>hb (j+1) g' (by simpa using B)
theorem iO{S:Plan}(O:Dl S)(j:YG S=none)(n:Yl S=none):nX S:=by
 obtain⟨z,B⟩:=Pl.bO (map_none j);obtain⟨F,I⟩:=Pl.bO (map_none n);refine⟨fun l hl=>by simpa using F l hl,O.siz,Pl.dq Pl.dX B,fun p G=>?_,O.smm⟩;have q:p.x<=S.w/\p.y<=S.h:=by simpa using z p G
 have:=O.w;have:=O.h;exact⟨by lia,by lia⟩
theorem fO{S:Plan}(z:Yl S=none):S.lines.Nodup:=by obtain⟨_,B⟩:=Pl.bO (map_none z);have st:=Pl.dq Pl.cX B;rw[List.nodup_iff_pairwise_ne,UY];intro i j hi F n e;have q:=st i j n F;rw[e]at q;unfold Ui at q;simp at q
theorem vv{S:Plan}(O:Dl S)(j:YG S=none)(n:Yl S=none)(B:JG S=none)(F:Y0 S=none)(G:YZ S=none)(I:YY S=none)(z:Z9 S=none):nJ S:=
 have g:=vP O.w O.h j n B F G I z
 ⟨g.1,g.2,(iO O j n).sm,iO O j n⟩
theorem sj{S:Plan}(h:X6 S=none):∀m∈S.marks,U4 S m.at_=true:=by obtain⟨a,_⟩:=Pl.bO (map_none h);exact fun m j=>a m j
def Lv(P:Program)(w:World)(K:xB)(mg:Str->Option Value)(base:Heap)(C:Addr)(S:Plan)(f:Addr)(pre:Prop)(r:Plan->Option Nat):Prop:=
 ∃(fd:FuncData)(k:Nat)(ok:Plan->Prop),k<=5/\GU K (.ref f)=true/\Xu K fd ["drawing"] []/\QC P w K mg base bD k f fd ["drawing"] (XT K C ok r)/\(pre->ok S)
abbrev HD:Stmt:=top 55
theorem rN:a7 ["drawing","checks","rule","check","place"] ["drawing"] (a6 HD):=.mk'
theorem E3(F:bG K "drawing_fault" "drawing_fault" HD f fd)(U:Txt K mg) (c4:bu P w K mg base 2 "wrong_point" ["drawing"] (XT K C (fun _=>True) YG)) (c5:bu P w K mg base 3 "wrong_line" ["drawing"] (XT K C (fun _=>True) Yl))
  (c6:bu P w K mg base 5 "open_frame" ["drawing"] (XT K C (fun S=>Dl S/\nX S/\S.lines.Nodup) JG)) (c7:bu P w K mg base 5 "entangled_line" ["drawing"] (XT K C nX Y0)) (c8:bu P w K mg base 2 "loose_point" ["drawing"] (XT K C (fun S=>X5 S/\Jj S) YZ))
  (c9:bu P w K mg base 2 "unreached_point" ["drawing"] (XT K C Ht YY)) (ak:bu P w K mg base 2 "parting_point" ["drawing"] (XT K C Ht Z9)) (an:bu P w K mg base 4 "wrong_mark" ["drawing"] (XT K C nX X6))
  (ao:bu P w K mg base 5 "crowding_mark" ["drawing"] (XT K C (fun S=>nJ S/\∀m∈S.marks,U4 S m.at_=true) Y1)) (aq:bu P w K mg base 5 "unmarked_pane" ["drawing"] (XT K C (fun S=>Pl.Good S) qz)) :
  QC P w K mg base bD 6 f fd ["drawing"] (vS K C):=by
 obtain⟨f4,au,m4,k4,b4,F4⟩:=c4.ex;obtain⟨f5,av,m5,k5,b5,F5⟩:=c5.ex;obtain⟨f6,aw,m6,k6,b6,F6⟩:=c6.ex;obtain⟨f7,ax,m7,k7,b7,F7⟩:=c7.ex;obtain⟨f8,ay,m8,k8,b8,F8⟩:=c8.ex;obtain⟨f9,az,m9,k9,b9,F9⟩:=c9.ex;obtain⟨G,ab,vW,Dv,aA,aB⟩:=ak.ex;obtain⟨I,ac,Bv,aC,aD,aE⟩:=an.ex;obtain⟨J,ad,aF,aG,aH,aI⟩:=ao.ex;obtain⟨aa,af,aJ,aK,aM,aN⟩:=aq.ex;apply F.bM rN;rintro _ H Q E ⟨d,S,dx,lp,ll,lm,ap,al,am,rfl,D,O,k⟩;refine⟨Z,fun _ _ _ _ hr=>?_⟩
 refine⟨_,Qb (bA 1 rN.nd (QU (Qa (Zo Z m4 (v:=.ref f4) Z) (Qa (Zo Z m5 (v:=.ref f5) Z) (Qa (Zo Z m6 (v:=.ref f6) Z) (Qa (Zo Z m7 (v:=.ref f7) Z) (Qa (Zo Z m8 (v:=.ref f8) Z)
   (Qa (Zo Z m9 (v:=.ref f9) Z) (Qa (Zo Z vW (v:=.ref G) Z) (Qa (Zo Z Bv (v:=.ref I) Z) (Qa (Zo Z aF (v:=.ref J) Z) (Qa (Zo Z aJ (v:=.ref aa) Z) Qc))))))))))))
  (Qb (QL PassesOwn.never Z (qa Z U.enum (Qa (pv 1) Qc) (zt Qi jT)) (ZF (n:=2) Z (QF (b0 2 rN.nd) (QF (b0 3 rN.nd) Zl)))
   (Qb (bA 4 rN.nd (uq 3 (Qa (pv 0) Qc)))
   (Qd (QD (Q7 (ZW (pv 4))) (Qd (Qj (Ze (Qa (pv 2) (Qa (pv 4) Qc))))) Qq))))
  (Qd (Qj QT))),?_⟩
 have ag:∀(i:Nat)(x:V),[V.ref f4,.ref f5,.ref f6,.ref f7,.ref f8,.ref f9,.ref G,.ref I,.ref J,.ref aa][i]?=some x->(∀j g,j<i->rules[j]?=some g->g S=none)->
   ∃g r,x=.ref g/\rules[i]?=some r/\Lv P w K mg base C S g True r:=by
  intro i x z B;have e4:0<i->YG S=none:=fun q=>B 0 _ q rfl;have e5:1<i->Yl S=none:=fun q=>B 1 _ q rfl;have e6:2<i->JG S=none:=fun q=>B 2 _ q rfl;have e7:3<i->Y0 S=none:=fun q=>B 3 _ q rfl;have e8:4<i->YZ S=none:=fun q=>B 4 _ q rfl;have e9:5<i->YY S=none:=fun q=>B 5 _ q rfl;have aO:6<i->Z9 S=none:=fun q=>B 6 _ q rfl;have aP:7<i->X6 S=none:=fun q=>B 7 _ q rfl;have o5:1<i->nX S:=fun q=>iO O (e4 L) (e5 q);have ah:6<i->nJ S:=fun q=>vv O (e4 L) (e5 L) (e6 L) (e7 L) (e8 L) (e9 L) (aO q);have hp:=O.pts;match i,z with
  |0,z=>exact⟨f4,_,(Wo z).symm,Z,au,2,_,by decide,k4,b4,F4,fun _=>trivial⟩
  |1,z=>exact⟨f5,_,(Wo z).symm,Z,av,3,_,by decide,k5,b5,F5,fun _=>trivial⟩
  |2,z=>exact⟨f6,_,(Wo z).symm,Z,aw,5,_,by decide,k6,b6,F6,fun _=>⟨O,o5 Wa,fO (e5 Wa)⟩⟩
  |3,z=>exact⟨f7,_,(Wo z).symm,Z,ax,5,_,by decide,k7,b7,F7,fun _=>o5 Wa⟩
  |4,z=>exact⟨f8,_,(Wo z).symm,Z,ay,2,_,by decide,k8,b8,F8,fun _=>⟨(o5 Wa).cG,O.siz⟩⟩
  |5,z=>exact⟨f9,_,(Wo z).symm,Z,az,2,_,by decide,k9,b9,F9,fun _=>⟨(o5 Wa).cG,O.siz,by lia⟩⟩
  |6,z=>exact⟨G,_,(Wo z).symm,Z,ab,2,_,by decide,Dv,aA,aB,fun _=>⟨(o5 Wa).cG,O.siz,by lia⟩⟩
  |7,z=>exact⟨I,_,(Wo z).symm,Z,ac,4,_,by decide,aC,aD,aE,fun _=>o5 Wa⟩
  |8,z=>exact⟨J,_,(Wo z).symm,Z,ad,5,_,by decide,aG,aH,aI,fun _=>⟨ah Wa,sj (aP Wa)⟩⟩
  |9,z=>exact⟨aa,_,(Wo z).symm,Z,af,5,_,by decide,aK,aM,aN,fun _=>(ah Wa).good⟩
  |n+10,z=>simp at z
 refine⟨(by show 10<=sizeLine;decide),fun l hl=>⟨_,Z,l,4,_,Z,Z,by decide,ba.of Qe,Jw (K:=K) (a:=l) (c:=4) (xs:=_) (fun i σ H'=>Ds fun(v2 v3 v4:Option V)=>Dx (σ=[some (.ref d),some (.ref l),v2,v3,v4]) (Qn H H') (H' l=some (.lst [V.ref f4,.ref f5,.ref f6,.ref f7,.ref f8,.ref f9,.ref G,.ref I,.ref J,.ref aa])) (∀(j:Nat)(g:Plan->Option Nat),j<i->rules[j]?=some g->g S=none))
  ⟨none,none,none,Z,Qk _ hl,Qe,fun j g hj=>by lia⟩ (fun i σ H' _ ⟨_,_,_,_,_,h1,_⟩=>ba.of h1) ?_ ?_⟩⟩
 ·rintro i x σ H1 H2 z ⟨v2,v3,v4,rfl,s1,h1,B⟩ ai;obtain⟨g,r,rfl,aQ,aR,k',ok,aU,aS,aT,Fi,bp⟩:=ag i x z B;have s2:=s1.trans ai;refine⟨g,aR,["drawing"],k',_,Z,aS,aT,Fi,hr.mono L,_,Z,d,S,dx,lp,ll,lm,ap,al,am,Z,D.same s2,bp trivial,fun H3 aj=>?_⟩;have s3:=s2.trans aj;cases hc:r S with
  | some p=>
   refine⟨_,Z,_,Z,Qz (fun h3=>?_) (fun h3=>Wm (by simp[JD]) h3)⟩;refine⟨_,Z,_,Z,(by show 2<=sizeLine;decide),fun q hq=>k _ _ (s3.trans (Qk _ hq)) ?_⟩;have e:qH S=some (4+i,p):=qk aQ hc B;rw[e];refine⟨q,Z,?_⟩;rw[U7 4 i];exact Qe
  | none=>
   refine⟨_,Z,_,Z,Qz (fun h3=>Wm h3 (by simp[JD])) (fun h3=>?_)⟩;refine⟨_,_,_,Z,s3,aj _ _ (ai _ _ h1),fun j g' hj hg=>?_⟩;by_cases qq:j=i
   ·lia
   ·grind
 ·rintro σ H1 ⟨v2,v3,v4,rfl,s1,h1,B⟩
  have e:qH S=none:=ql fun j g hg=>B j g (by
   have:=(List.getElem?_eq_some_iff.1 hg).1;exact this) hg
  refine k _ _ s1 ?_;rw[e];rfl
def Xp(b:xC):Nat->List (xC->Option Nat)->Option WA
 |_,[]=>none
 | n,f::r=>match f b with
  |some p=>some (n,p)
  |none=>Xp b (n+1) r
theorem qW{p:Nat}:∀{l:List (xC->Option Nat)} {n i:Nat} {f:xC->Option Nat},l[i]?=some f->f b=some p->(∀(j:Nat)(g:xC->Option Nat),j<i->l[j]?=some g->g b=none)->Xp b n l=some (n+i,p)
 |[],_,_,_,h,_,_=>by simp at h
 | g::l,n,0,f,h,hf,_=>by
  have e:g=f:=by simpa using h
  subst e;simp[Xp,hf]
 | g::l,n,i+1,f,h,hf,hb=>by
  have B:=hb 0 g L rfl;have:=qW (n:=n+1) (l:=l) (i:=i) (f:=f) (by simpa using h) hf (fun j g' F z=>hb (j+1) g' L (by simpa using z));simp only[Xp,B,this];rw[show n+1+i=n+(i+1) by lia]
theorem qX:∀{l:List (xC->Option Nat)} {n:Nat},(∀(j:Nat)(g:xC->Option Nat),l[j]?=some g->g b=none)->Xp b n l=none
 |[],_,_=>rfl
 | g::l,n,hb=>by
  have z:=hb 0 g rfl;simp only[Xp,z];exact qX fun j g' B=>hb (j+1) g' (by simpa using B)
def YU:List (xC->Option Nat):=[YX,YW,YV]
def QI(b:xC):xC:=(b.drop 80).take ((xH b).1-80)
def ZX(b:xC):Option WA:=match Je (QI b) with
 |some f=>some (4,80+f.2)
 |none=>Xp b 5 YU
theorem nA(h:qi b=none):b.length=(xH b).2.2.2.2:=by unfold qi at h;lia
theorem gL(b:xC):X9 (bl b) (some 80) (some (((xH b).1:Nat):Int))=bl (QI b):=by have:=hC (xs:=bl b) (p:=80) (q:=(xH b).1);rw[show((80:Nat):Int)=80 from Z]at this;rw[this];unfold QI bl;rw[Vs,Qaf]
inductive wt(K:xB)(vs:List V)(H:Hp)(Q:VK)(E:XK):Prop
 |mk (a:Addr) (b:xC):vs=[.ref a]->ba K H a (bl b)->(∀H' l,Qn H H'->H' l=some (.lst (bl (QI b)))->Q (.ref l) H')->wt K vs H Q E
abbrev Ih:Stmt:=top 76
theorem KQ:a7 ["workshop"] ["workshop"] (a6 Ih):=.mk'
abbrev By:Stmt:=top 84
theorem fW:a7 ["workshop","places","fault","rule","check","place"] ["workshop","places"] (a6 By):=.mk'
theorem DY(F:bG K "cartoon_within" "cartoon_within" Ih f fd)(T:xu K mg) (B:bu P w K mg base 2 "part_places" ["workshop"] (yW K)):QC P w K mg base bD 3 f fd ["workshop"] (wt K):=by apply F.bM KQ;rintro _ H Q E ⟨a,b,rfl,n,k⟩;refine⟨Z,fun _ _ _ _ hr=>?_⟩;refine⟨_,Qd (Qj (XH Yu (pv 0) (Xe (QP T.g80)) (Xe (Qy QO (Qs B hr (Qa (pv 0) Qc)) Qi (fun _ _=>rfl))))),?_⟩;refine⟨_,Z,_,Z,_,Z,a,b,Z,n,fun H1 t z G=>⟨t,_,_,_,Z,Z,bY.of G,Qm (j:=0) Z,_,Z,a,_,Z,z.seq n,fun l hl=>?_⟩⟩;rw[gL];exact k _ _ (z.trans (Qk _ hl)) Qe
theorem BS(F:bG K "parts_fault" "parts_fault" By f fd)(T:xu K mg)(U:Txt K mg) (Cw:bu P w K mg base 3 "cartoon_within" ["workshop"] (wt K)) (Cf:bu P w K mg base 7 "cartoon_fault" ["octets"] (zL K Je)) (c5:bu P w K mg base 3 "wrong_sheet" ["workshop","places"] (qP K YX))
  (c6:bu P w K mg base 3 "wrong_kind" ["workshop","places"] (qP K YW)) (c7:bu P w K mg base 3 "wrong_painting" ["workshop","places"] (qP K YV)) :
  QC P w K mg base bD 8 f fd ["workshop","places"] (Bl K ZX):=by
 obtain⟨f5,ad,m5,k5,b5,F5⟩:=c5.ex;obtain⟨f6,af,m6,k6,b6,F6⟩:=c6.ex;obtain⟨f7,ag,m7,k7,b7,F7⟩:=c7.ex;apply F.bM fW;rintro _ H Q E ⟨a,t,b,rfl,hS,ht,hw,ah,k⟩;refine⟨Z,fun _ _ _ _ hr=>?_⟩
 refine⟨_,Qb (bA 2 fW.nd (Qs Cf hr (Qa (Qs Cw (hr.mono Wa) (Qa (pv 0) Qc)) Qc)))
  (Qb (QD (Q7 (ZW (pv 2))) (Qd (Qj (Ze (Qa Qi (Qa (QA QV (QP T.g80) (Qy QO (pv 2) Qi (fun _ _=>rfl))) Qc))))) Qq)
  (Qb (QL PassesOwn.never Z (qa Z U.enum (Qa (QU (Qa (Zo Z m5 (v:=.ref f5) Z) (Qa (Zo Z m6 (v:=.ref f6) Z) (Qa (Zo Z m7 (v:=.ref f7) Z) Qc)))) Qc) (zt Qi jT))
    (ZF (n:=2) Z (QF (b0 3 fW.nd) (QF (b0 4 fW.nd) Zl)))
   (Qb (bA 5 fW.nd (uq 4 (Qa (pv 0) (Qa (pv 1) Qc))))
   (Qd (QD (Q7 (ZW (pv 5))) (Qd (Qj (Ze (Qa (pv 3) (Qa (pv 5) Qc))))) Qq))))
  (Qd (Qj QT)))),?_⟩
 have O:=nA hw
 have ai:(QI b).length<=100000:=by unfold QI;grind
 refine⟨_,Z,a,b,Z,hS,fun H0 l s0 hl=>?_⟩;refine⟨l,QI b,Z,ba.of hl,ai,fun H1 v aj J=>?_⟩;have s1:=s0.trans aj;cases e:Je (QI b) with
 | some x=>
  rw[e]at J;obtain⟨q,rfl,hq⟩:=J;refine⟨_,Z,_,Z,Qz (fun B=>?_) (fun B=>Wm We B)⟩;refine⟨_,Z,q,_,_,_,Z,Z,bY.of hq,Qm (j:=1) Z,_,_,Z,Z,(by show 2<=sizeLine;decide),fun z hz=>k _ _ (s1.trans (Qk _ hz)) ?_⟩;unfold ZX;rw[e];exact⟨z,Z,Qe⟩
 | none=>
  rw[e]at J;have hv:v=.bQ:=J;subst hv;refine⟨_,Z,_,Z,Qz (fun B=>Wm B We) (fun B=>?_)⟩;have ak:ZX b=Xp b 5 YU:=by unfold ZX;rw[e]
  rw[ak]at k
  have aa:∀(i:Nat)(x:V),[V.ref f5,.ref f6,.ref f7][i]?=some x->∃g r I,x=.ref g/\YU[i]?=some r/\GU K (.ref g)=true/\Xu K I ["workshop","places"] []/\QC P w K mg base bD 3 g I ["workshop","places"] (qP K r):=by
   intro i x G;match i,G with
   |0,G=>exact⟨f5,_,ad,(Wo G).symm,Z,k5,b5,F5⟩
   |1,G=>exact⟨f6,_,af,(Wo G).symm,Z,k6,b6,F6⟩
   |2,G=>exact⟨f7,_,ag,(Wo G).symm,Z,k7,b7,F7⟩
   |n+3,G=>simp at G
  refine⟨(by show 3<=sizeLine;decide),fun l2 an=>⟨l2,5,_,Z,Z,by decide,ba.of Qe,Jw (K:=K) (a:=l2) (c:=5) (xs:=_) (fun i σ H'=>Ds fun(v3 v4 v5:Option V)=>Dx (σ=[some (.ref a),some (.ref t),some .bQ,v3,v4,v5]) (Qn H H') (H' l2=some (.lst [V.ref f5,.ref f6,.ref f7])) (∀(j:Nat)(g:xC->Option Nat),j<i->YU[j]?=some g->g b=none))
   ⟨none,none,none,Z,s1.trans (Qk _ an),Qe,fun j g hj=>by lia⟩ (fun i σ H' _ ⟨_,_,_,_,_,h1,_⟩=>ba.of h1) ?_ ?_⟩⟩
  ·rintro i x σ H2 H3 G ⟨v3,v4,v5,rfl,s2,h1,J⟩ ab;obtain⟨g,r,I,rfl,ao,aq,au,Fi⟩:=aa i x G;have s3:=s2.trans ab;refine⟨g,I,["workshop","places"],3,_,Z,aq,au,Fi,hr.mono Wa,_,Z,_,Z,a,t,b,Z,s3.seq hS,Qn.tup s3 ht,O,ah,fun H4 ac=>?_⟩;have s4:=s3.trans ac;cases hc:r b with
   | some p=>
    refine⟨_,Z,_,Z,Qz (fun B=>?_) (fun B=>Wm (by simp[JD]) B)⟩;refine⟨_,Z,_,Z,(by show 2<=sizeLine;decide),fun q hq=>k _ _ (s4.trans (Qk _ hq)) ?_⟩;have e2:Xp b 5 YU=some (5+i,p):=qW ao hc J;rw[e2];refine⟨q,Z,?_⟩;rw[U7 5 i];exact Qe
   | none=>
    refine⟨_,Z,_,Z,Qz (fun B=>Wm B (by simp[JD])) (fun B=>?_)⟩;refine⟨_,_,_,Z,s4,ac _ _ (ab _ _ h1),fun j g' hj hg=>?_⟩;by_cases qq:j=i
    ·lia
    ·grind
  ·rintro σ H2 ⟨v3,v4,v5,rfl,s2,h1,J⟩
   have e2:Xp b 5 YU=none:=qX fun j g hg=>J j g (by
    have:=(List.getElem?_eq_some_iff.1 hg).1;exact this) hg
   refine k _ _ s2 ?_;rw[e2];rfl
theorem il(b:xC):(Ge (fun(i:Nat) (x:WA)=>!Gla.within x.1 x.2 (xI b (8+4*i) 4)) Qb7).map (fun i=>8+4*i)=eW b 0 wb:=by
 unfold Ge Qb7 eW wb;have key:∀p lo hi,zb b (p,lo,hi) 0=!(Gf lo hi (xI b p 4)):=fun p lo hi=>by rw[Y8,U9]
 simp only[List.zipIdx_cons,List.zipIdx_nil,Uy,Qbz,key];cases F:Gf 0 1000 (xI b 8 4)<;>simp[F];cases G:Gf 1 1000 (xI b 12 4)<;>simp[G];cases I:Gf 0 1000 (xI b 16 4)<;>simp[I];cases w4:Gf 1 1000 (xI b 20 4)<;>simp[w4];cases J:Gf 0 65535 (xI b 24 4)<;>simp[J];cases O:Gf 0 1000 (xI b 28 4)<;>simp[O];cases U:Gf 1 1000 (xI b 32 4)<;>simp[U];cases w8:Gf 1 16777215 (xI b 36 4)<;>simp[w8];cases w9:Gf 0 65535 (xI b 40 4)<;>simp[w9];cases j:Gf 0 65535 (xI b 44 4)<;>simp[j];cases n:Gf 0 65535 (xI b 48 4)<;>simp[n];cases z:Gf 1 255 (xI b 52 4)<;>simp[z];cases B:Gf 0 1024 (xI b 56 4)<;>simp[B];grind
def iN:Except Gla.Fault V6->Option WA
 |.error e=>some (e.rule,e.place)
 |.ok _=>none
theorem JY(b:xC):(b.drop VR).take (xI b 4 4)=QI b:=by
 unfold QI
 have e:(xH b).1-80=xI b 4 4:=by show 80+xI b 4 4-80=_;lia
 rw[e];rfl
noncomputable def fJ(b:xC)(S:Plan):Except Gla.Fault V6:=match Ge (fun(_:Nat) (s:Gla.Sheet)=>!s.ok) (Uj b S).sheets with
 |some i=>.error ⟨5,(xH b).1+16*i⟩
 | none=>match Ge (fun (_:Nat) (k:Vx)=>!k.ok) (Uj b S).kinds with
  |some i=>.error ⟨6,(xH b).2.1+8*i⟩
  | none=>match (xP (xI b 68 4)).findSome? fun (i:Nat)=>Vl (Uj b S).kinds b ((xH b).2.2.2.1+69*i) with
   |some p=>.error ⟨7,p⟩
   |none=>.ok (Uj b S)
theorem uc(b:xC)(S:Plan):iN (fJ b S)=Xp b 5 YU:=by have j:YX b=(Ge (fun(_:Nat) (s:Gla.Sheet)=>!s.ok) (Uj b S).sheets).map fun i=>(xH b).1+16*i:=rfl;have n:YW b=(Ge (fun(_:Nat) (k:Vx)=>!k.ok) (Uj b S).kinds).map fun i=>(xH b).2.1+8*i:=rfl;have z:YV b=(xP (xI b 68 4)).findSome? fun(i:Nat)=>Vl (Uj b S).kinds b ((xH b).2.2.2.1+69*i):=rfl;unfold fJ;simp only[YU,Xp];rw[j,n,z];generalize Ge (fun(_:Nat) (s:Gla.Sheet)=>!s.ok) (Uj b S).sheets=o5;generalize Ge (fun(_:Nat) (k:Vx)=>!k.ok) (Uj b S).kinds=o6;generalize ((xP (xI b 68 4)).findSome? fun(i:Nat)=>Vl (Uj b S).kinds b ((xH b).2.2.2.1+69*i))=o7;cases o5<;>cases o6<;>cases o7<;>rfl
theorem uA(b:xC):iN (match UR (QI b) with
  |.error e=>.error ⟨4,VR+e.place⟩
  |.ok S=>fJ b S)=ZX b:=by
 unfold ZX Je;rw[j6,<-tG];have j:=uc b (U5 (QI b));generalize JJ (QI b)=o;generalize (U5 (QI b)).fault=o2;cases o with
 |some f=>rfl
 | none=>cases o2 with
  |some e=>rfl
  |none=>exact j
theorem u4(b:xC):Qah b=if b.length<VR then .error ⟨1,b.length⟩ else if b.take 4≠G5 then .error ⟨1,0⟩
  else match Ge (fun(i:Nat) (x:WA)=>!Gla.within x.1 x.2 (xI b (8+4*i) 4)) Qb7 with
  |some i=>.error ⟨2,8+4*i⟩
  | none=>if b.length≠(xH b).2.2.2.2 then .error ⟨3,4⟩ else match UR ((b.drop VR).take (xI b 4 4)) with
   |.error e=>.error ⟨4,VR+e.place⟩
   |.ok S=>fJ b S:=rfl
theorem j4(b:xC):iN (Qah b)=pT ZX b:=by
 rw[u4,JY];have j:=il b;have n:=uA b;unfold pT qi;rw[<-j];generalize Ge (fun(i:Nat) (x:WA)=>!Gla.within x.1 x.2 (xI b (8+4*i) 4)) Qb7=o
 generalize (match UR (QI b) with
  |.error e=>.error ⟨4,VR+e.place⟩
  |.ok S=>fJ b S:Except Gla.Fault V6)=pl at n
 generalize ZX b=pw at n;by_cases h1:b.length<80
 ·rw[Wi (show b.length<VR from h1),Wi h1];rfl
 ·rw[Wh (show ¬ b.length<VR from h1),Wh h1];by_cases h2:b.take 4≠G5
  ·rw[Wi h2,Wi h2];rfl
  ·rw[Wh h2,Wh h2];cases o with
   |some i=>rfl
   | none=>
    rw[Uz];dsimp only;by_cases z:b.length≠(xH b).2.2.2.2
    ·rw[Wi z,Wi z];rfl
    ·lia
end Gp
namespace L2
open PySem PySem.Spec PyProof.Rows
theorem my{K:xB}{a b:Addr}{xs ys:List V}{p q n:Nat}{tb:TS}{D:JE}{σ:St}{H:Hp}(j:Nat->St->Hp->Prop)(hn:n=min xs.length ys.length)(h0:j 0 σ H)(hl:∀i σ H,i<=n->j i σ H->ba K H a xs/\ba K H b ys)
  (J:∀i x y σ H H',xs[i]?=some x->ys[i]?=some y->j i σ H->Qn H H'->tb { D with nx:=j (i+1),ct:=j (i+1),bk:=D.nx } ((σ.set p (some x)).set q (some y)) H') (hd:∀σ H,j n σ H->D.nx σ H) :
  ∃W:Nat->Nat->St->Hp->Prop,(∃m,W 0 m σ H)/\∀i m σ H,W i m σ H->
   ((EK K a b).stop i H/\D.nx σ H)\/((EK K a b).go i H/\∃N:St->Hp->Prop,(∀z H',N z H'->∃I,I<m/\W (i+1) I z H')/\∀x H',(EK K a b).yld i H x H'->yK K 2 (Z8 (Zz p) (Z8 (Zz q) xg)) x σ H' fun O H2=>tb { D with nx:=N,ct:=N,bk:=D.nx } O H2):=by
 refine⟨fun i m σ H=>m=n-i/\i<=n/\j i σ H,⟨n,by simp,x9 _,h0⟩,?_⟩;rintro i m σ H ⟨rfl,hi,pv⟩;obtain⟨B,F⟩:=hl i σ H hi pv;by_cases G:i<n
 ·have U:i<xs.length:=by lia
  have l2:i<ys.length:=by lia
  refine .inr ⟨⟨xs,ys,xs[i],ys[i],B,F,by simp[U],by simp[l2]⟩,j (i+1),fun z H' p'=>⟨n-(i+1),by lia,Z,G,p'⟩,fun x H' y=>?_⟩;obtain⟨T,z1,z2,rfl,hT,rfl,y1,y2⟩:=y;refine⟨T,_,Z,bY.of Qe,Z,_,_,Z,_,_,Z,Z,?_⟩;exact J i z1 z2 σ H _ (y1 xs B) (y2 ys F) pv fun c o e=>by rw[Qh (Qg e hT)];exact e
 ·have e:i=n:=by lia
  subst e;exact .inl ⟨⟨xs,ys,B,F,by lia⟩,hd σ H pv⟩
noncomputable def DZ (h:Heap) (d:PyData) (u:Value):Bool:=@decide (∃e as,Reads h u e as/\e.canLay0=true/\PyData.eqv e d=true) (VT _)
theorem CD{h:Heap}{d e:PyData}{u:Value}{as:List Addr}(r:Reads h u e as)(l:e.canLay0=true):DZ h d u=PyData.eqv e d:=by
 unfold DZ;cases q:PyData.eqv e d with
 |true=>exact @decide_eq_true _ (VT _) ⟨e,as,r,l,q⟩
 | false=>
  refine @decide_eq_false _ (VT _) ?_;rintro⟨z,j,B,F,n⟩;have:=SeqAt.Reads.unique e z u as j l r B;subst this;rw[q]at n;cases n
theorem mF{A:Around}{s:Shared}{d:PyData}{v:Value}{bs:List Addr}(z:Reads s.heap v d bs)(B:d.canLay0=true)(F:A.units+d.depth<cLine):∀(ds:List PyData)(us:List Value)(as:List Addr),ReadsAll s.heap us ds as->PyData.canLayAll0 ds=true->
  (∀u∈us,SeqAt.EqAt A s u v (DZ s.heap d u))/\us.any (DZ s.heap d)=ds.any fun e=>PyData.eqv e d
 | [],us,_,h,_=>by
  cases h;exact⟨fun u G=>(by cases G),Z⟩
 | e::ds,us,_,h,l=>by
  cases h with
  | cons r rs=>
   have n:e.canLay0=true/\PyData.canLayAll0 ds=true:=by simpa [PyData.canLayAll0] using l
   obtain⟨i1,I⟩:=mF z B F ds _ _ rs n.2;have q:=CD (d:=d) r n.1;refine⟨fun u j=>?_,?_⟩
   ·rcases List.mem_cons.mp j with rfl | j
    ·rw[q];exact SeqAt.eqAt_reads e d A s _ _ _ _ r z n.1 B (by have:=Qac e.depth d.depth;lia)
    grind
   ·grind
inductive jS(K:xB)(x:V)(y:V)(H:Hp)(Q:VK):Prop
 |mk (p:_) (xs:_) (d:_) (ds:_):y=.ref p->ba K H p xs->Dp K H x d->qv K H xs ds->d.canLay0=true->d.depth<=8->PyData.canLayAll0 ds=true->(Q (.bl (!(ds.any fun e=>PyData.eqv e d))) H)->jS K x y H Q
theorem nZ{X:Cx}(hu:X.A.units+64<cLine):eF X (compareOp .NotIn) (jS X.K):=by intro aZ s σ H x y v u Q I z B h;obtain⟨p,xs,d,ds,rfl,F,hd,j,G,dd,n,q⟩:=h;cases B;obtain⟨a8,r,pl,hz⟩:=I.list F;obtain⟨as,J⟩:=Dp.reads I d x v hd z;obtain⟨bs,O⟩:=Dp.readsAll I ds xs a8 j r;obtain⟨U,e2⟩:=mF (A:=X.A.in1) J G (by show X.A.units+1+d.depth<cLine;lia) ds a8 bs O n;refine SeqAt.notIn_listAt (DZ s.heap d) pl.isList (fun w hw=>U w (by simpa using hw)) ⟨.bl _,H,I,Z,?_⟩;grind
end L2
namespace Gp
open PySem PySem.Spec PyProof.Rows L2
open Gla (Pt Plan)
def tD(p:WA):PyData:=.tuple [.int (p.1:Int),.int (p.2:Int)]
theorem C8(p q:WA):PyData.eqv (tD p) (tD q)=decide (p=q):=by unfold tD;rw[PyData.eqv,PyData.eqvAll,PyData.eqvAll,PyData.eqvAll,PyData.eqv,PyData.eqv,Gu];grind
theorem pO(p:WA):(tD p).canLay0=true:=by unfold tD;simp[PyData.canLay0,PyData.canLayAll0]
theorem sy(p:WA):(tD p).depth<=8:=by unfold tD;simp[PyData.depth,PyData.depthAll]
theorem yS:∀ps:List WA,PyData.canLayAll0 (ps.map tD)=true
 |[]=>rfl
 |p::ps=>by rw[xV,PyData.canLayAll0,pO,yS ps];rfl
theorem Ar{H:Hp}{p:WA} (h:H a=some (.tup [.int (p.1:Int),.int (p.2:Int)])):Dp K H (.ref a) (tD p):=
 .tup (bY.of h) (.cons (.int _) (.cons (.int _) .nil))
theorem ia{H:Hp}:∀(as:List Addr) (ps:List WA),as.length=ps.length->(∀(i:Nat)(a:Addr)(p:WA),as[i]?=some a->ps[i]?=some p->H a=some (.tup [.int (p.1:Int),.int (p.2:Int)]))->qv K H (as.map V.ref) (ps.map tD)
 |[],[],_,_=>.nil
 |[],_::_,h,_=>by simp at h
 |_::_,[],h,_=>by simp at h
 |a::as,p::ps,h,k=>.cons (Ar (k 0 a p Z Z)) (ia as ps (by simpa using h) fun i a p h1 h2=>k (i+1) a p (by simpa using h1) (by simpa using h2))
def Xy(S:Plan):List WA:=[(0,0),(S.w,0),(0,S.h),(S.w,S.h)]
def qf(S:Plan)(c:WA):Bool:=!((S.pts.map xy).any fun p=>decide (p=c))
abbrev Hi:Stmt:=top 26
inductive AY(K:xB)(C:Addr)(vs:List V)(H:Hp)(Q:VK)(E:XK):Prop
 |mk (d:Addr) (S:Plan) (dx lp ll lm:Addr) (ap al am:List Addr):vs=[.ref d]->Dw K C H d S dx lp ll lm ap al am->(∀H',Qn H H'->Q (.bl ((Xy S).any (qf S))) H')->AY K C vs H Q E
theorem vY:a7 ["drawing","corners","corner"] ["drawing"] (a6 Hi):=.mk'
theorem oO:bootBuiltins "any" = some (.builtin "any"):=by decide +kernel
theorem Ej(F:bG K "lacks_corner" "lacks_corner" Hi f fd)(T:Xc K mg C)(U:Txt K mg):QC P w K mg base bD 4 f fd ["drawing"] (AY K C):=by
 apply F.bM vY;rintro _ H Q E ⟨d,S,dx,lp,ll,lm,ap,al,am,rfl,D,k⟩;refine⟨Z,fun _ _ _ _ hr=>?_⟩
 refine⟨_,Qb (bA 1 vY.nd (QU (Qa (Ze (Qa Qi (Qa Qi Qc))) (Qa (Ze (Qa (Qw (pv 0) Z) (Qa Qi Qc))) (Qa (Ze (Qa Qi (Qa (Qw (pv 0) Z) Qc))) (Qa (Ze (Qa (Qw (pv 0) Z) (Qa (Qw (pv 0) Z) Qc))) Qc))))))
  (Qd (Qj (Qx (CF Z) Wg U.any oO (Qa (qR (own:=[("corner",2)]) (te:=n9 (jS K) (ZH 2) (vc K (ZH 0) "points")) Z vY.nd (Q4 (pv 1)) (ZI (N:=["drawing","corners","corner"]) (sc:=a6 Hi) Wb) (fun _ _ _ _ _=>b0 2 vY.nd) (fun _ _ _ _ _=>Jn)
   (fun _ _ _ _ _=>by exact QM (nZ hr.units) (pv 2) (Qw (pv 0) Z) (by with_unfolding_all rfl))) Qc)))),?_⟩
 refine⟨(by show 2<=sizeLine;decide),fun t1 ac=>?_⟩;have s1:=Qk (.tup [.int 0,.int 0]) ac;generalize e1:upd H t1 (.tup [.int 0,.int 0])=H1 at s1 ⊢;have g1:H1 t1=some (.tup [.int 0,.int 0]):=by rw[<-e1];exact Qe
 refine⟨_,Z,d,C,dx,_,_,Z,(D.same s1).ins,T.cl,T.nW,tY _ _ _ _ _,(by show 2<=sizeLine;decide),fun G ad=>?_⟩;have aa:=Qk (.tup [.int (S.w:Int),.int 0]) ad;have s2:=s1.trans aa;generalize e2:upd H1 G (.tup [.int (S.w:Int),.int 0])=H2 at s2 aa ⊢;have g2:H2 G=some (.tup [.int (S.w:Int),.int 0]):=by rw[<-e2];exact Qe
 refine⟨_,Z,d,C,dx,_,_,Z,(D.same s2).ins,T.cl,T.nH,rK _ _ _ _ _,(by show 2<=sizeLine;decide),fun I af=>?_⟩;have J:=Qk (.tup [.int 0,.int (S.h:Int)]) af;have s3:=s2.trans J;generalize e3:upd H2 I (.tup [.int 0,.int (S.h:Int)])=H3 at s3 J ⊢;have g3:H3 I=some (.tup [.int 0,.int (S.h:Int)]):=by rw[<-e3];exact Qe
 refine⟨_,Z,d,C,dx,_,_,Z,(D.same s3).ins,T.cl,T.nW,tY _ _ _ _ _,_,Z,d,C,dx,_,_,Z,(D.same s3).ins,T.cl,T.nH,rK _ _ _ _ _,(by show 2<=sizeLine;decide),fun O ag=>?_⟩;have B:=Qk (.tup [.int (S.w:Int),.int (S.h:Int)]) ag;have s4:=s3.trans B;generalize e4:upd H3 O (.tup [.int (S.w:Int),.int (S.h:Int)])=H4 at s4 B ⊢;have g4:H4 O=some (.tup [.int (S.w:Int),.int (S.h:Int)]):=by rw[<-e4];exact Qe
 refine⟨(by show 4<=sizeLine;decide),fun l hl=>?_⟩;have j:=Qk (.lst [V.ref t1,.ref G,.ref I,.ref O]) hl;have s5:=s4.trans j;generalize e5:upd H4 l (.lst [V.ref t1,.ref G,.ref I,.ref O])=H5 at s5 j ⊢;have g5:H5 l=some (.lst [V.ref t1,.ref G,.ref I,.ref O]):=by rw[<-e5];exact Qe
 have a1:H5 t1=some (.tup [.int 0,.int 0]):=j _ _ (B _ _ (J _ _ (aa _ _ g1)));have a2:H5 G=some (.tup [.int (S.w:Int),.int 0]):=j _ _ (B _ _ (J _ _ g2));have a3:H5 I=some (.tup [.int 0,.int (S.h:Int)]):=j _ _ (B _ _ g3);have a4:H5 O=some (.tup [.int (S.w:Int),.int (S.h:Int)]):=j _ _ g4
 have ah:∀(i:Nat)(x:V),[V.ref t1,.ref G,.ref I,.ref O][i]?=some x->∃(a:Addr)(c:WA),x=.ref a/\(Xy S)[i]?=some c/\H5 a=some (.tup [.int (c.1:Int),.int (c.2:Int)]):=by
  intro i x z;match i,z with
  |0,z=>exact⟨t1,_,(Wo z).symm,Z,a1⟩
  |1,z=>exact⟨G,_,(Wo z).symm,Z,a2⟩
  |2,z=>exact⟨I,_,(Wo z).symm,Z,a3⟩
  |3,z=>exact⟨O,_,(Wo z).symm,Z,a4⟩
  |n+4,z=>simp at z
 refine⟨_,Z,l,Z,⟨_,ba.of g5⟩,fun r ab=>qe (K:=K) (a:=l) (xs:=[V.ref t1,.ref G,.ref I,.ref O]) (fun i H'=>Qn H5 H'/\H' r=some (.lst (((Xy S).take i).map fun c=>V.bl (qf S c))))
  ⟨Qk _ ab,Qe⟩ (fun i H' _ ⟨s6,_⟩=>ba.of (s6 _ _ g5)) ?_ ?_⟩
 ·rintro i x H6 z ⟨s6,h6⟩;obtain⟨a,c,rfl,hc,ha⟩:=ah i x z;have D6:=D.same (s5.trans s6);refine⟨Z,_,Z,_,Z,d,C,dx,_,_,Z,D6.ins,T.cl,T.nP,XN _ _ _ _ _,lp,_,tD c,_,Z,D6.pts.lst,Ar (s6 _ _ ha),ia _ _ D6.pts.len D6.pts.at_,pO _,sy _,yS _,?_⟩;refine⟨_,h6,?_,?_,?_⟩
  ·have:((Xy S).take i).length<=4:=by rw[Go];show min i 4<=4;lia
   rw[xD];exact xZ this Wa
  ·intro b o e;rw[Qh (Qg e ab)];exact s6 _ _ e
  ·rw[Qe,Uh,hc,Gs]
   have:(!((S.pts.map xy).map tD).any fun e=>PyData.eqv e (tD c))=qf S c:=by unfold qf;rw[VU];congr 2;funext p;exact C8 p c
   rw[this];rfl
 ·rintro H6 ⟨s6,h6⟩;refine⟨r,(Xy S).map (qf S),Z,ba.of (by rw[h6];simp[Xy]),?_⟩;have:=k H6 (s5.trans s6);rw[VU];exact this
end Gp
namespace PySem
open PySem.F
abbrev Yb(h:Heap)(e j:Addr)(i:Int)(kept:Value)(a:Addr)(f:Bool):Prop:=
 h.get? e=some { cls:=.type "enumerate",dict:=none,data:=.fields #[rawInt a,.bool f,.ref j,rawInt i,.none,kept],slots:=#[] }
section
variable {prog:Program} {w:World} {A:Around} {E:Value->Shared->Prop} {s:Shared}
theorem se{a:Addr}{o:Obj}{Q:Option Obj->Shared->Prop}(x:s.heap.get? a=some o) (q:Q (some o) s):wpAny (model prog w) A (loadIfAlive a) Q E s:=by
 have j:Q (s.heap.get? a) s:=by rw[x];exact q
 exact fun _ _ _=>j
theorem fK{e j l a:Addr}{f:Bool}{i:Nat}{a8:Array Value}{x kept:Value}{oa:Obj}{Q:Option Value->Shared->Prop}(xe:Yb s.heap e j i kept a f)(xa:s.heap.get? a=some oa)(aa:a≠e)(ab:a≠j)
  (xj:s.heap.IsListIter j l i) (xl:s.heap.IsList l a8) (xi:a8[i]?=some x) (J:e≠j)
  (q:∀ h',Yb h' e j ((i:Int)+1) kept a true->h'.IsListIter j l (i+1)->h'.get? s.heap.objs.size=some { cls:=.type "tuple",data:=.seq #[.int i s.toks,x] }->h'.objs.size=s.heap.objs.size+1->
   (∀b o,b≠e->b≠j->s.heap.get? b=some o->h'.get? b=some o)->Q (some (.ref s.heap.objs.size)) { s with heap:=h',toks:=s.toks+1 }) :
  wpAny (model prog w) A (pyNext (.ref e)) Q E s:=by
 obtain⟨G,z,B,n,F⟩:=s;have ty:Shared.TypeIs ⟨G,z,B,n,F⟩ (.ref e) "enumerate" := ⟨_,xe,Z⟩;unfold pyNext;refine wpAny_bind (wpAny_attempt (wpAny_callSpecial?_slot (name:=xE "__next__") ty slot_enumerate_next (wpAny_call_entry slot_enumerate_next ty entry_enumerate_next ?_ (args_enumerate_next_1 _))));show wpAny _ _ (field (.ref e) 2 >>= _) _ _ (Shared.mk G z B n F);refine wpAny_bind (wpAny_field xe Z (x:=.ref j) Z ?_);refine wpAny_bind (wpAny_nextOf_list_item xj xl xi fun U y1 z1=>?_)
 replace z1:Heap.SameBut j G U:=z1
 have w1:Yb U e j i kept a f:=(z1.2 e J).trans xe;show wpAny _ _ (field (.ref e) 3 >>= _) _ _ (Shared.mk U z B n F);refine wpAny_bind (wpAny_field w1 Z (x:=rawInt i) Z ?_);show wpAny _ _ (field (.ref e) 4 >>= _) _ _ (Shared.mk U z B n F);refine wpAny_bind (wpAny_field w1 Z (x:=.none) Z ?_);show wpAny _ _ (mkInt i >>= _) _ _ (Shared.mk U z B n F);refine wpAny_bind (wpAny_mkInt ?_);show wpAny _ _ (setField (.ref e) 3 (rawInt ((i:Int)+1)) >>= _) _ _ (Shared.mk U z B (n+1) F);refine wpAny_bind (wpAny_setField_rec w1 We fun p2 w2 z2=>?_)
 replace z2:Heap.SameBut e U p2:=z2
 replace w2:Yb p2 e j ((i:Int)+1) kept a f:=w2
 show wpAny _ _ (setField (.ref e) 4 .none >>= _) _ _ (Shared.mk p2 z B (n+1) F);refine wpAny_bind (wpAny_setField_rec w2 We fun p3 w3 z3=>?_)
 replace z3:Heap.SameBut e p2 p3:=z3
 replace w3:Yb p3 e j ((i:Int)+1) kept a f:=w3
 show wpAny _ _ (newTuple [.int i n,x] >>= _) _ _ (Shared.mk p3 z B (n+1) F);refine wpAny_bind (wpAny_newTuple ?_);have w4:Yb (p3.push { cls:=.type "tuple",data:=.seq #[.int i n,x] }) e j ((i:Int)+1) kept a f:=Wt _ w3;generalize eg:p3.push { cls:=.type "tuple",data:=.seq #[.int i n,x] }=p4 at w4;have sz:p3.objs.size=G.objs.size:=by rw[z3.1,z2.1,z1.1]
 have el:e<G.objs.size:=Wu xe;have t4:p4.get? G.objs.size=some { cls:=.type "tuple",data:=.seq #[.int i n,x] }:=by rw[<-eg,<-sz];exact Wv _ rfl
 have n4:p4.objs.size=G.objs.size+1:=by rw[<-eg,Ww,sz]
 have k4:∀b o,b≠e->b≠j->G.get? b=some o->p4.get? b=some o:=fun b o be bj hb=>by
  rw[<-eg];exact Wt _ (z3.extBut b o be (z2.extBut b o be (z1.extBut b o bj hb)))
 have y4:p4.IsListIter j l (i+1):=by rw[<-eg];obtain⟨o,ho,r⟩:=(y1.extBut z2.extBut J.symm).extBut z3.extBut J.symm;exact⟨o,Wt _ ho,r⟩
 show wpAny _ _ (Builtin.SmallTypes.ownedTupleIsFree (.ref e) >>= _) _ _ (Shared.mk p4 z B (n+1) F);rw[sz];clear eg w3 z3 w2 z2 w1 z1 y1 sz;have a4:p4.get? a=some oa:=k4 a oa aa ab xa;refine wpAny_bind ?_;unfold Builtin.SmallTypes.ownedTupleIsFree;refine wpAny_bind (wpAny_field w4 Z (x:=rawInt a) Z ?_);show wpAny _ _ (loadIfAlive ((a:Int).toNat) >>= _) _ _ (Shared.mk p4 z B (n+1) F);rw[Uc];refine wpAny_bind (se a4 ?_);simp only[Option.isNone_some,UC,Wr];refine wpAny_bind (wpAny_field w4 Z (x:=.bool f) Z ?_)
 have fin:∀I:Heap,Yb I e j ((i:Int)+1) kept a true->Heap.SameBut e p4 I->Q (some (.ref G.objs.size)) (Shared.mk I z B (n+1) F):=fun I w5 O=>
  q I w5 (y4.extBut O.extBut J.symm) (O.extBut _ _ (G9 el) t4) (by show I.objs.size=G.objs.size+1;rw[O.1,n4]) fun b o be bj hb=>O.extBut b o be (k4 b o be bj hb)
 cases f with
 | true=>
  rw[Wh (show ¬((Value.bool true != Value.bool true)=true) from xW)];refine wpAny_pure ?_;simp only[UC,Wr];exact wpAny_pure ⟨_,Z,wpAny_pure (fin p4 w4 (Heap.SameBut.refl _ _))⟩
 | false=>
  rw[Wi (show(Value.bool false != Value.bool true)=true from Z)];refine wpAny_bind (wpAny_setField_rec w4 We fun I w5 O=>?_)
  replace O:Heap.SameBut e p4 I:=O
  replace w5:Yb I e j ((i:Int)+1) kept a true:=w5
  refine wpAny_pure ?_;simp only[UC,Wr];exact wpAny_pure ⟨_,Z,wpAny_pure (fin I w5 O)⟩
theorem iB{e j l a:Addr}{f:Bool}{i:Nat}{a8:Array Value}{kept:Value}{Q:Option Value->Shared->Prop}(n:A.handled=none)(xe:Yb s.heap e j i kept a f)(z:s.heap.IsListIter j l i)(B:s.heap.IsList l a8)(F:a8[i]?=none)
  (q:∀h',Heap.ExtBut j s.heap h'->Q none { s with heap:=h' }):wpAny (model prog w) A (pyNext (.ref e)) Q E s:=by
 have ty:s.TypeIs (.ref e) "enumerate" := ⟨_,xe,Z⟩;unfold pyNext;refine wpAny_bind (wpAny_attempt (wpAny_callSpecial?_slot (name:=xE "__next__") ty slot_enumerate_next (wpAny_call_entry slot_enumerate_next ty entry_enumerate_next ?_ (args_enumerate_next_1 _))));show wpAny _ _ (field (.ref e) 2 >>= _) _ _ s;refine wpAny_bind (wpAny_field xe Z (x:=.ref j) Z ?_);refine wpAny_bind (wpAny_nextOf_list_end n z B F fun O y G I=>?_);obtain⟨o,J,hc⟩:=I;exact wpAny_bind (wpAny_isInstance (T := "StopIteration") (b:=true) ⟨o,J,hc⟩ isSubtype_stop (wpAny_pure (q _ G)))
def yD(h:Heap)(e j S:Addr)(i:Nat):Prop:=(i=0/\∃n,IsEnum h e j 0 n)\/∃kept a f z,Yb h e j i kept a f/\h.get? a=some z/\a≠e/\a≠j/\a≠S
theorem yD.keep{h h':Heap}{e j S:Addr}{i:Nat}(x:yD h e j S i)(k:∀b o,b≠S->h.get? b=some o->h'.get? b=some o)(n:e≠S):yD h' e j S i:=by
 rcases x with⟨z,B,y⟩|⟨kept,a,f,G,y,I,J,O,F⟩
 ·exact .inl ⟨z,B,k _ _ n y⟩
 ·exact .inr ⟨kept,a,f,G,k _ _ n y,k _ _ F I,J,O,F⟩
structure zD(a8:Array Value)(lo:Addr)(h:Heap)(as:List Addr):Prop where
 rise:as.Pairwise (·<·)
 above:∀a∈as,lo<a
 at_:∀(m:Nat)(a:Addr),as[m]?=some a->∃t x,a8[m]?=some x/\h.get? a=some { cls:=.type "tuple",data:=.seq #[.int m t,x] }
end
section
variable {prog:Program} {w:World} {A:Around} {s:Shared} {R:Result->Shared->Prop} {a8:Array Value}
theorem gP{S e j l:Addr}(hh:A.handled=none)(n1:e≠S)(n2:j≠S)(n3:e≠j)(n4:l≠S)(n5:l≠e)(n6:l≠j)(lo:Addr)(l1:e<=lo)(l2:j<=lo)(l3:S<=lo)(sz:a8.size<=sizeLine)(B:Value){h0:Heap}
  (hR:∀ h' tk acc c as,(∀ b o,b≠S->b≠e->b≠j->h0.get? b=some o->h'.get? b=some o)->h'.get? S=some { cls:=.type "list",dict:=none,data:=.seq acc c,slots:=#[] }->as.length=a8.size->zD a8 lo h' as->
   acc.toList=as.map Value.ref->R (.ok (.ret B)) { s with heap:=h',toks:=tk }) :
  ∀(k i:Nat)(h:Heap)(tk c:Nat)(acc:Array Value)(as:List Addr),a8.size-i=k->i<=a8.size->yD h e j S i->h.IsListIter j l i->h.IsList l a8->(∀b o,b≠S->b≠e->b≠j->h0.get? b=some o->h.get? b=some o)->
   h.get? S=some { cls:=.type "list",dict:=none,data:=.seq acc c,slots:=#[] }->acc.toList=as.map Value.ref->as.length=i->zD a8 lo h as->lo<h.objs.size->
   codeAny (model prog w) A (.builtin "list.extend.loop" ⟨[.ref S,.ref e,B],[]⟩) R { s with heap:=h,toks:=tk }:=by
 intro k;induction k with
 | zero=>
  intro i h tk c acc as hk hi st O J keep hS ea U G gl;have ie:i=a8.size:=by lia
  refine codeAny_builtin entry_extend_loop ?_;rw[Around.under_plainId plain_extend_loop _];show wpAny _ A.in1 (pyNext (.ref e) >>= _) _ _ _
  have fin:∀h',Heap.ExtBut j h h'->R (.ok (.ret B)) { s with heap:=h',toks:=tk }:=fun h' z=>by
   refine hR h' tk acc c as (fun b o b1 b2 b3 x=>z b o b3 (keep b o b1 b2 b3 x)) (z S _ n2.symm hS) L ⟨G.rise,G.above,fun m a n=>?_⟩ ea;obtain⟨t,x,x1,x2⟩:=G.at_ m a n;exact⟨t,x,x1,z a _ (G9 (xZ l2 (G.above a (x6 n)))) x2⟩
  have none:a8[i]?=none:=V4 L;rcases st with⟨z,ab,y⟩|⟨kept,a,f,oa,y,ya,_⟩
  ·subst z;exact wpAny_bind (wpAny_pyNext_enum_end (s:={ s with heap:=h,toks:=tk }) (A:=A.in1) hh y O J none fun h' z=>wpAny_pure (fin h' z))
  ·exact wpAny_bind (iB (s:={ s with heap:=h,toks:=tk }) (A:=A.in1) hh y O J none fun h' z=>wpAny_pure (fin h' z))
 | succ k ih=>
  intro i h tk c acc as hk hi st O J keep hS ea U G gl;have lt:i<a8.size:=by lia
  have xi:a8[i]?=some a8[i]:=GZ lt;have sa:acc.size=i:=by rw[<-VF,ea,xD,U]
  have eS:S<h.objs.size:=Wu hS;have le:e<h.objs.size:=xZ l1 gl;have lj:j<h.objs.size:=xZ l2 gl;refine codeAny_builtin entry_extend_loop ?_;rw[Around.under_plainId plain_extend_loop _];show wpAny _ A.in1 (pyNext (.ref e) >>= _) _ _ _
  have go:∀h',yD h' e j S (i+1)->h'.IsListIter j l (i+1)->h'.get? h.objs.size=some { cls:=.type "tuple",data:=.seq #[.int i tk,a8[i]] }->(∀b o,b≠e->b≠j->h.get? b=some o->h'.get? b=some o)->
    wpAny (model prog w) A.in1 (updateSeq S (·.push (Value.ref h.objs.size)) >>= fun _=>again (.builtin "list.extend.loop" ⟨[.ref S,.ref e,B],[]⟩))
     (fun fin s'=>match fin with|.done f=>R (.ok f) s' | .again c'=>c'.quiet=true/\codeAny (model prog w) A c' R s') (fun x s'=>R (.error x) s') { s with heap:=h',toks:=tk+1 }:=by
   intro h' ac ad ht kp;have aa:=kp S _ n1.symm n2.symm hS;have up:∀b o,b≠S->h'.get? b=some o->(h'.update S (Obj.mapSeq (·.push (Value.ref h.objs.size)))).get? b=some o:=fun b o nb x=>(Heap.get?_update_other _ _ nb.symm).trans x;refine wpAny_bind ?_
   refine wpAny_updateSeq aa Z (wpAny_pure ⟨plainId_quiet plain_extend_loop _,ih (i+1) _ (tk+1) _ (acc.push (Value.ref h.objs.size)) (as++[h.objs.size]) L lt (ac.keep up n1) (ad.at fun o x=>up j o n2 x) (J.at fun o x=>up l o n4 (kp l o n5 n6 x))
    (fun b o b1 b2 b3 x=>up b o b1 (kp b o b2 b3 (keep b o b1 b2 b3 x))) (Heap.get?_update_self _ aa Z) (by rw[Array.toList_push,ea,Gs];rfl) (by rw[xG,U];rfl) ⟨?_,?_,?_⟩ ?_⟩) (by rw[sa];lia) (by show(acc.push (Value.ref h.objs.size)).size<=sizeLine+1;rw[Array.size_push,sa];lia)
   ·refine List.pairwise_append.mpr ⟨G.rise,List.pairwise_singleton _ _,fun a F b I=>?_⟩;rw[List.mem_singleton.mp I];obtain⟨m,n⟩:=List.mem_iff_getElem?.mp F;obtain⟨_,_,_,x⟩:=G.at_ m a n;exact Wu x
   ·intro a F;rcases List.mem_append.mp F with F | F
    ·exact G.above a F
    ·rw[List.mem_singleton.mp F];exact gl
   ·intro m b n;rcases Uu m as.length with z | z | z
    ·rw[GY z]at n;obtain⟨t,x,x1,x2⟩:=G.at_ m b n;have I:=G.above b (x6 n);exact⟨t,x,x1,up b _ (G9 (xZ l3 I)) (kp b _ (G9 (xZ l1 I)) (G9 (xZ l2 I)) x2)⟩
    ·subst z;have I:h.objs.size=b:=by simpa using n
     subst I;exact⟨tk,a8[i],by rw[U];exact xi,up _ _ (G9 eS) (by rw[U];exact ht)⟩
    ·have no:(as++[h.objs.size])[m]?=none:=Ue (by rw[xG,GQ];lia);rw[no]at n;cases n
   ·have x:(h'.update S (Obj.mapSeq (·.push (Value.ref h.objs.size)))).get? h.objs.size=_:=up _ _ (G9 eS) ht;exact VB gl (Wu x)
  rcases st with⟨z,ab,y⟩|⟨kept,a,f,oa,y,ya,m1,m2,m3⟩
  ·subst z;refine wpAny_bind (wpAny_pyNext_enum_item (s:={ s with heap:=h,toks:=tk }) y O J xi n3 fun h' y1 y2 y3 y4 y5=>?_);exact go h' (.inr ⟨_,_,false,_,y1,y3,G9 le,G9 lj,G9 eS⟩) y2 y3 y5
  ·refine wpAny_bind (fK (s:={ s with heap:=h,toks:=tk }) y ya m1 m2 O J xi n3 fun h' y1 y2 y3 y4 y5=>?_);exact go h' (.inr ⟨kept,a,true,oa,y1,y5 a oa m1 m2 ya,m1,m2,m3⟩) y2 y3 y5
end
theorem gK:typeLookup (.type "enumerate") "__len__" = pure none:=by rw[typeLookup_type,builtinLookup_eq_fast];kernel_rfl
theorem xm:typeLookup (.type "enumerate") "__length_hint__" = pure none:=by rw[typeLookup_type,builtinLookup_eq_fast];kernel_rfl
section
variable {prog:Program} {w:World} {A:Around} {E:Value->Shared->Prop} {s:Shared} {a8:Array Value}
theorem yL{R:Result->Shared->Prop}{S e j l:Addr}{z:Value}(hh:A.handled=none)(xe:IsEnum s.heap e j 0 z)(xj:s.heap.IsListIter j l 0)(xl:s.heap.IsList l a8)(B:e≠S)(J:j≠S)(n3:e≠j)(O:l≠S)(n5:l≠e)(n6:l≠j)(lo:Addr)(l1:e<=lo)(l2:j<=lo)(l3:S<=lo)(l4:lo<s.heap.objs.size)
  (n:Value) (c0:Nat) (U:s.heap.get? S=some { cls:=.type "list",data:=.seq #[] c0 }) (sz:a8.size<=sizeLine)
  (hR:∀ h' tk acc c as,(∀ b o,b≠S->b≠e->b≠j->s.heap.get? b=some o->h'.get? b=some o)->h'.get? S=some { cls:=.type "list",dict:=none,data:=.seq acc c,slots:=#[] }->as.length=a8.size->zD a8 lo h' as->
   acc.toList=as.map Value.ref->R (.ok (.ret n)) { s with heap:=h',toks:=tk }) :
  wpAny (model prog w) A.in1 (Builtin.List.listExtendWith (.ref S) (.ref e) n)
   (fun fin s'=>match fin with|.done f=>R (.ok f) s' | .again c'=>c'.quiet=true/\codeAny (model prog w) A c' R s') (fun x s'=>R (.error x) s') s:=by
 have ty:s.TypeIs (.ref e) "enumerate" := ⟨_,xe,Z⟩
 have key:∀(h:Heap)(F tk:Nat),(∀b o,b≠S->s.heap.get? b=some o->h.get? b=some o)->h.get? S=some { cls:=.type "list",data:=.seq #[] F }->lo<h.objs.size->codeAny (model prog w) A (.builtin "list.extend.loop" ⟨[.ref S,.ref e,n],[]⟩) R { s with heap:=h,toks:=tk }:=by
  intro h F tk hk G I
  exact gP (s:=s) (h0:=s.heap) hh B J n3 O n5 n6 lo l1 l2 l3 sz n hR a8.size 0 h tk F #[] [] (Nat.sub_zero _) (x9 _) (.inl ⟨Z,z,hk _ _ B xe⟩) (xj.at fun o x=>hk j o J x) (xl.at fun o x=>hk l o O x) (fun b o b1 _ _ x=>hk b o b1 x) G Z rfl
   ⟨List.Pairwise.nil,(fun _ ha=>nomatch ha),(fun m a hm=>by simp at hm)⟩ I
 unfold Builtin.List.listExtendWith;refine wpAny_bind (wpAny_typeOf ty ?_);have r1:Builtin.List.listSameRef (.ref S) (.ref e)=false:=by simp[Builtin.List.listSameRef,B.symm]
 have r2:(Value.type "enumerate" == Value.type "list")=false:=by decide
 have r3:(Value.type "enumerate" == Value.type "tuple")=false:=by decide
 simp only[r1,r2,r3,Bool.or_false,UC,Wr];refine wpAny_bind (wpAny_pyIter_enum xe ?_);refine wpAny_bind (wpAny_holding ?_);unfold Builtin.List.listLengthHint;refine wpAny_bind (wpAny_specialOf ty gK ?_);show wpAny _ A.in1 (specialOf (Value.ref e) (xE "__length_hint__") >>= _) _ _ _;refine wpAny_bind (wpAny_specialOf ty xm ?_);refine wpAny_pure ?_;show wpAny _ A.in1 (rule "list.extend.makes-room" >>= fun _=>Builtin.List.listTouch (.ref S) >>= fun _=>again (.builtin "list.extend.loop" ⟨[.ref S,.ref e,n],[]⟩)) _ _ _;refine wpAny_bind (wpAny_rule ?_);refine wpAny_bind ?_;show wpAny _ A.in1 (updateSeq S (·.push .none) >>= fun _=>updateSeq S (·.pop)) _ _ s;refine wpAny_bind (wpAny_updateSeq U Z ?_);have g2:=Heap.get?_update_self (Obj.mapSeq (·.push Value.none)) U rfl;refine wpAny_updateSeq (hz:=by seq_fits) g2 Z ?_;have g3:=Heap.get?_update_self (Obj.mapSeq (·.pop)) g2 rfl;refine wpAny_pure ⟨plainId_quiet plain_extend_loop _,key _ _ _ (fun b o nb x=>?_) g3 ?_⟩
 ·exact(Heap.get?_update_other _ _ nb.symm).trans ((Heap.get?_update_other _ _ nb.symm).trans x)
 ·obtain⟨oe,aa⟩:∃o,s.heap.get? e=some o:=⟨_,xe⟩;simpa [Heap.size_update] using l4
theorem gy{e j l:Addr}{B:Value}{Q:Value->Shared->Prop}(hh:A.handled=none)(xe:IsEnum s.heap e j 0 B)(O:s.heap.IsListIter j l 0)(U:s.heap.IsList l a8)(n3:e≠j)(n5:l≠e)(n6:l≠j)(sz:a8.size<=sizeLine)
  (hQ:∀ h' tk acc c as,(∀ b o,b≠e->b≠j->s.heap.get? b=some o->h'.get? b=some o)->h'.get? s.heap.objs.size=some { cls:=.type "list",dict:=none,data:=.seq acc c,slots:=#[] }->as.length=a8.size->zD a8 s.heap.objs.size h' as->
   acc.toList=as.map Value.ref->Q (.ref s.heap.objs.size) { s with heap:=h',toks:=tk }) :
  wpAny (model prog w) A (call (.type "list") [.ref e]) Q E s:=by
 have le:e<s.heap.objs.size:=Wu xe;have F:j<s.heap.objs.size:=by obtain⟨_,x,_⟩:=O;exact Wu x
 have ll:l<s.heap.objs.size:=by obtain⟨_,x,_⟩:=U;exact Wu x
 refine callType_codes (Q₁:=fun z vC=>z=.ref s.heap.objs.size/\vC={ s with heap:=s.heap.push { cls:=.type "list",data:=.seq #[] } }) called_list (typeCall_list_1 _) entry_list_init (code_list_new _ ⟨rfl,rfl⟩) fun z vC vi=>?_;obtain⟨rfl,rfl⟩:=vi;generalize n:s.heap.objs.size=S at *;have g1:(s.heap.push { cls:=.type "list",data:=.seq #[] }).get? S=some { cls:=.type "list",data:=.seq #[] }:=by rw[<-n];exact Wv _ rfl
 have up:∀b o,s.heap.get? b=some o->(s.heap.push { cls:=.type "list",data:=.seq #[] }).get? b=some o:=fun b o x=>Wt _ x;have zs:(s.heap.push { cls:=.type "list",data:=.seq #[] }).objs.size=S+1:=by rw[Ww,n]
 generalize s.heap.push { cls:=.type "list",data:=.seq #[] }=hp at *;refine⟨⟨_,g1,Z⟩,args_list_init_2 _ _,?_⟩;show wpAny _ A.in1.in1 (do let I <- Builtin.List.listItems (.ref S);Builtin.List.listUpdate (.ref S) (fun _=>#[]);letGo I.toList.reverse;Builtin.List.listExtendWith (.ref S) (.ref e) .none) _ _ _;refine wpAny_bind ?_;unfold Builtin.List.listItems;refine wpAny_bind (wpAny_seqItems g1 Z (wpAny_pure ?_));show wpAny _ A.in1.in1 (updateSeq S (fun _=>#[]) >>= fun _=>letGo (#[]:Array Value).toList.reverse >>= fun _=>Builtin.List.listExtendWith (.ref S) (.ref e) .none) _ _ _;refine wpAny_bind (wpAny_updateSeq g1 Z ?_);have g2:=Heap.get?_update_self (Obj.mapSeq (fun _=>(#[]:Array Value))) g1 rfl;have k2:∀b o,b≠S->hp.get? b=some o->(hp.update S (Obj.mapSeq (fun _=>(#[]:Array Value)))).get? b=some o:=fun b o nb x=>(Heap.get?_update_other _ _ nb.symm).trans x;refine wpAny_bind (wpAny_letGo ?_);refine yL (A:=A.in1) hh (k2 _ _ (xY le) (up _ _ xe)) (O.at fun o x=>k2 _ _ (xY F) (up _ _ x)) (U.at fun o x=>k2 _ _ (xY ll) (up _ _ x)) (xY le) (xY F) n3 (xY ll) n5 n6 S (VZ le) (VZ F) (xO _) ?_ .none _ g2 sz ?_
 ·simp[Heap.size_update,zs]
 ·intro h' tk acc c as kp J hl G ha;exact⟨Z,hQ h' tk acc c as (fun b o b1 b2 x=>kp b o (xY (n▸Wu x)) b1 b2 (k2 _ _ (xY (n▸Wu x)) (up _ _ x))) J hl G ha⟩
end
end PySem
namespace L2
open PySem PySem.Spec PyProof.Rows
theorem Inv.grow{X:Cx} {aZ:List (Addr×Obj)} {σ:St} {H H':Hp} {s:Shared} {h':Heap} {t':Nat} (I:Inv X aZ σ H s) (k:∀b u,s.heap.get? b=some u->h'.get? b=some u) (same:∀b,b<s.heap.objs.size->H' b=H b)
  (B:∀b o,s.heap.objs.size<=b->H' b=some o->Zh X.prog X.w H' h' b o):Inv X aZ σ H' { s with heap:=h',toks:=t' }:=by
 have fr:∀b,s.heap.objs.size<=b->H b=none:=fun b F=>I.bp.fresh F
 have j:∀b o,H b=some o->H' b=some o:=fun b o e=>by
  grind
 refine I.un ⟨fun b u q _ _ _=>k b u q,fun b u q _ _ _=>⟨u.slots,k b u q⟩,fun b u q n _=>?_,fun b u q _=>⟨u,k b u q⟩,fun b xs q=>j b _ q,fun b u xs q=>j b _ q,fun b ps q=>⟨#[],by rw[j b _ q];simp⟩⟩ fun b o e=>?_
 ·rw[same b (Wu q)];exact n
 ·rcases Ul b s.heap.objs.size with z | z
  ·rw[same b z]at e;exact(I.bp b o e).ig (fun c v _ q=>k c v q) (fun c q=>j c _ q) fun c xs q=>j c _ q
  grind
def yG(H:Hp)(l:Addr)(as:List Addr)(xs:List V):Hp:=fun b=>if b=l then some (.lst (as.map V.ref)) else if b∈as then some (.tup [.int ((as.idxOf b:Nat):Int),(xs[as.idxOf b]?).getD .bQ]) else H b
def Ly(K:xB)(ta:TA):TE:=fun σ H Q=>ta σ H fun vs H1=>∃(a:Addr)(xs:List V),vs=[.ref a]/\ba K H1 a xs/\∀(l:Addr)(as:List Addr)(H2:Hp),Qn H1 H2->H1 l=none->H2 l=some (.lst (as.map V.ref))->as.length=xs.length->
 (∀(i:Nat)(c:Addr)(x:V),as[i]?=some c->xs[i]?=some x->H2 c=some (.tup [.int (i:Int),x]))->Q (.ref l) H2
theorem Jk:∀as:List Addr,QH (as.map V.ref) (as.map Value.ref)
 |[]=>.nil
 |a::as=>.cons Z (Jk as)
theorem CI{as:List Addr}(nd:as.Nodup){i:Nat}{a:Addr}(h:as[i]?=some a):as.idxOf a=i:=by obtain⟨hi,e⟩:=List.getElem?_eq_some_iff.1 h;rw[<-e];exact nd.idxOf_getElem i hi
theorem kb:bootBuiltins "list" = some (.type "list"):=by decide +kernel
theorem gH{X:Cx}{e:Expr}{ta:TA}{p p' pos cq:Pos}(hc:X.calm=true)(aa:Gl X "list")(ab:X.mg "list" = none)(ac:Gl X "enumerate")(ad:X.mg "enumerate" = none)(ha:PA X [e] ta) (hs:starEach [e] X.env=[(false,eval e X.env)]:=by rfl)
  (J:starEach [.Call (.Name "enumerate" p') [e] [] cq] X.env=[(false,eval (.Call (.Name "enumerate" p') [e] [] cq) X.env)]:=by rfl):PE X (.Call (.Name "list" p) [.Call (.Name "enumerate" p') [e] [] cq] [] pos) (Ly X.K ta):=by
 intro aZ s σ H Q I h;refine wpAny_Call_Name_kw (X8 I aa ab kb ?_);refine callWith_type1 ?_ (by exact J) rfl;rw[J];refine Calls.spliced_cons ?_;refine Call_ (X8 I ac ad boot_enumerate (callWith_type1 (bz (ha cq aZ s σ H _ I h) fun us F ⟨vs,H1,O,r1,q1⟩=>?_) hs Z));obtain⟨a,xs,ex,hq,q⟩:=q1;subst ex;cases r1 with
 | cons r rr=>
  cases rr;cases r;obtain⟨a8,rv,pl,hz⟩:=O.list hq;have la:a<F.heap.objs.size:=pl.lt;have hl:=rv.length;refine call_enumerate_list pl.isList fun h' he af hsz hk=>?_;refine Calls.spliced_nil ?_;refine gy (s:={ F with heap:=h' }) (I.ok.hd hc) he af (pl.isList.at fun o x=>hk _ _ x) (Qbh _) (xY (U8 la)) (xY la) (by simp only[xS];lia) fun h2 tk acc c as kp hS j G n=>?_;dsimp only at kp hS j G n ⊢;have nd:as.Nodup:=G.rise.imp fun z=>xY z;have U:F.heap.objs.size<h'.objs.size:=by rw[hsz];lia
  have hi:∀a∈as,F.heap.objs.size<a:=fun a m=>VB U (G.above a m);have nS:h'.objs.size∉as:=fun m=>Ur _ (G.above _ m);have nl:as.length=xs.length:=by rw[j,xS,hl]
  have at_:∀(i:Nat)(c:Addr)(x:V),as[i]?=some c->xs[i]?=some x->yG H1 h'.objs.size as xs c=some (.tup [.int (i:Int),x]):=fun i c x hc hx=>by
   have m:c∈as:=x6 hc;unfold yG;rw[Wh (fun z:c=h'.objs.size=>nS (z▸m)),Wi m,CI nd hc,hx];rfl
  refine⟨.ref _,yG H1 h'.objs.size as xs,?_,Z,q h'.objs.size as _ ?_ (O.bp.fresh (VZ U)) ?_ nl at_⟩
  ·have G2:=O.grow (H':=yG H1 h'.objs.size as xs) (h':=h2) (t':=tk) (fun b u e=>?_) (fun b hb=>?_) (fun b o hb e=>?_)
   ·exact G2
   ·have:=Wu e;exact kp b u (xY (U8 this)) (xY this) (hk _ _ e)
   ·unfold yG;rw[Wh (xY (VB hb U)),Wh (fun m=>Nat.lt_asymm hb (hi b m))]
   ·by_cases z:b=h'.objs.size
    ·subst z;have e2:yG H1 h'.objs.size as xs h'.objs.size=some (.lst (as.map V.ref)):=by unfold yG;rw[Wi Z]
     rw[e2]at e;cases e;refine⟨by rw[xD];lia,as.map Value.ref,c,Jk as,?_⟩;rw[hS,<-n]
    ·by_cases m:b∈as
     ·obtain⟨i,B⟩:=List.mem_iff_getElem?.mp m;obtain⟨t,v,hv,hg⟩:=G.at_ i b B;have li:i<xs.length:=by rw[<-nl];exact (List.getElem?_eq_some_iff.1 B).1
      have ex:xs[i]?=some xs[i]:=xF li;rw[at_ i b _ B ex]at e;cases e;obtain⟨u,hu,ru⟩:=rv.get ex
      have:v=u:=by
       have:a8.toArray[i]?=a8[i]?:=by simp
       rw[this,hu]at hv;exact(Wo hv).symm
      subst this;exact⟨by show 2<=sizeLine;decide,[.int i t,v],.cons ⟨t,Z⟩ (.cons ru .nil),⟨_,hg,Z,_,Z⟩⟩
     ·unfold yG at e;rw[Wh z,Wh m,O.bp.fresh hb]at e;cases e
  ·intro b o e
   have lb:b<F.heap.objs.size:=by
    rcases Ul b F.heap.objs.size with z|z
    ·exact z
    ·rw[O.bp.fresh z]at e;cases e
   unfold yG;rw[Wh (xY (VB lb U)),Wh (fun m=>Nat.lt_asymm lb (hi b m))];exact e
  ·unfold yG;rw[Wi Z]
end L2
namespace Gp
open PySem PySem.Spec PyProof.Rows L2
open Gla (Pt Plan)
def zf(S:Plan)(on:Pt->Bool)(n:Nat):List Nat:=(xP n).filter fun i=>on (S.pt i)
theorem rh(S:Plan)(on:Pt->Bool):zf S on S.pts.length=Gq S on:=rfl
theorem jo(S:Plan)(on:Pt->Bool)(n:Nat):zf S on (n+1)=zf S on n++(if on (S.pt n)=true then [n] else []):=by unfold zf;rw[U1,Qau];grind
theorem pK(S:Plan)(on:Pt->Bool)(n:Nat):(zf S on n).length<=n:=by have:=List.length_filter_le (fun i=>on (S.pt i)) (xP n);rw[U6]at this;exact this
structure E'(H:Hp)(q:Addr)(as ap:List Addr):Prop where
 lst:H q=some (.lst (as.map V.ref))
 len:as.length=ap.length
 at_:∀(i:Nat)(c a:Addr),as[i]?=some c->ap[i]?=some a->H c=some (.tup [.int (i:Int),.ref a])
theorem E'.same{H H':Hp}{q:Addr}{as ap:List Addr}(h:E' H q as ap)(e:Qn H H'):E' H' q as ap:=⟨e _ _ h.lst,h.len,fun i c a h1 h2=>e _ _ (h.at_ i c a h1 h2)⟩
theorem zz{K:xB}{C d q D dx lp ll lm:Addr}{S:Plan}{as ap al am:List Addr}{H:Hp}{on:Pt->Bool}{tt:TT}{I:Hp->Prop}(Dr:Dw K C H d S dx lp ll lm ap al am)(n:E' H q as ap)(sz:S.pts.length<=65536)(J:H D=none)
  (hT:∀(i:Nat)(a:Addr)(H':Hp)(Q:Bool->Hp->Prop),Dw K C H' d S dx lp ll lm ap al am->ap[i]?=some a->Q (on (S.pt i)) H'->tt [some (.ref d),some (.ref q),some (.int (i:Int)),some (.ref a)] H' Q)
  (hQ:∀H',Qn H H'->H' D=some (.lst (ni (Gq S on)))->I H') :
  ∃W:Nat->Nat->Hp->Prop,(∃m,W 0 m (upd H D (.lst [])))/\∀i m H,W i m H->
   ((sL K q).stop i H/\I H)\/((sL K q).go i H/\∃ B:Hp->Prop,(∀ H',B H'->∃ O,O<m/\W (i+1) O H')/\∀ x H',(sL K q).yld i H x H'->yK K 2 (Z8 (Zz 2) (Z8 (Zz 3) xg)) x (ZB [some (.ref d),some (.ref q),none,none] [2,3]) H' fun F H2=>ZB F [2,3]=ZB [some (.ref d),some (.ref q),none,none] [2,3]/\tt F H2 fun b U=>
    if b=true then ZH 2 F U fun y H4=>∃acc,H4 D=some (.lst acc)/\acc.length<sizeLine/\B (upd H4 D (.lst (acc++[y]))) else B U):=by
 have la:ap.length=S.pts.length:=by have:=Dr.pts.len;rw[xD]at this;exact this
 refine qe (K:=K) (a:=q) (xs:=as.map V.ref) (fun i H'=>Qn H H'/\H' D=some (.lst (ni (zf S on i)))) ⟨Qk _ J,Qe⟩ (fun i H' _ ⟨j,_⟩=>ba.of (j _ _ n.lst)) ?_ ?_
 ·rintro i x H1 hx ⟨j,h1⟩;obtain⟨c,hc,rfl⟩:=Zm hx;have hi:i<ap.length:=by rw[<-n.len];exact (List.getElem?_eq_some_iff.1 hc).1
  have ha:ap[i]?=some ap[i]:=xF hi;have G:=j _ _ (n.at_ i c _ hc ha);refine⟨c,_,Z,bY.of G,Z,_,_,Z,_,_,Z,Z,Z,?_⟩;refine hT i ap[i] H1 _ (Dr.same j) ha ?_;by_cases z:on (S.pt i)=true
  ·rw[Wi z];refine⟨_,Z,_,h1,?_,?_,?_⟩
   ·rw[show(ni (zf S on i)).length=(zf S on i).length by simp[ni]];exact xZ (xM (pK S on i) (show i<=65536 by lia)) Wa
   ·intro b o e;rw[Qh (Qg e J)];exact j _ _ e
   ·rw[Qe,jo,Wi z];simp[ni]
  ·rw[Wh z];refine⟨j,?_⟩;rw[h1,jo,Wh z,Ux]
 ·rintro H1 ⟨j,h1⟩;refine hQ H1 j ?_;rw[h1,xD,n.len,la,rh]
def qQ(S:Plan):List (List Nat):=[Gq S fun p=>p.y==0,Gq S fun p=>p.y==S.h,Gq S fun p=>p.x==0,Gq S fun p=>p.x==S.w]
abbrev BD:Stmt:=top 27
inductive A0(K:xB)(C:Addr)(vs:List V)(H:Hp)(Q:VK)(E:XK):Prop
 |mk (d:Addr) (S:Plan) (dx lp ll lm:Addr) (ap al am:List Addr):vs=[.ref d]->Dw K C H d S dx lp ll lm ap al am->Jj S->(∀(H':Hp)(r:Addr)(rs:List Addr),Qn H H'->H' r=some (.lst (rs.map V.ref))->rs.length=4->(∀(i:Nat)(a:Addr)(l:List Nat),rs[i]?=some a->(qQ S)[i]?=some l->H' a=some (.lst (ni l)))->Q (.ref r) H')->A0 K C vs H Q E
theorem J8:a7 ["drawing","places","number","point"] ["drawing"] (a6 BD):=.mk'
theorem uW{S:Plan}{i:Nat}(h:i<S.pts.length):S.pt i=S.pts[i]:=by unfold Plan.pt;simp[List.getD,h]
theorem zA(a b:Nat):decide (V.int (a:Int)=V.int (b:Int))=(a==b):=by lia
theorem Dw.Hj{H:Hp}{d:Addr}{S:Plan}{dx lp ll lm:Addr}{ap al am:List Addr}(D:Dw K C H d S dx lp ll lm ap al am){i:Nat}(h:ap[i]?=some a):H a=some (.tup [.int ((S.pt i).x:Int),.int ((S.pt i).y:Int)]):=by
 have j:ap.length=S.pts.length:=by have:=D.pts.len;rw[xD]at this;exact this
 have hi:i<S.pts.length:=by rw[<-j];exact(List.getElem?_eq_some_iff.1 h).1
 have:=D.pts.at_ i a (xy S.pts[i]) h (by rw[xL,xF hi];rfl);rw[uW hi];exact this
theorem E2(F:bG K "edge_rows" "edge_rows" BD f fd)(T:Xc K mg C)(U:Txt K mg):QC P w K mg base bD 4 f fd ["drawing"] (A0 K C):=by
 apply F.bM J8;rintro _ H Q E ⟨d,S,dx,lp,ll,lm,ap,al,am,rfl,D,sz,k⟩;refine⟨Z,fun _ _ _ _ _=>?_⟩
 refine⟨_,Qb (bA 1 J8.nd (gH Z Z U.lst Z U.enum (Qa (Qw (pv 0) Z) Qc)))
  (Qd (Qj (QU
   (Qa (qR (own:=[("number",2),("point",3)]) (g:=yK K 2 (Z8 (Zz 2) (Z8 (Zz 3) xg))) (tt:=gj (n9 FH (n9 (nQ K) (ZH 3) (tC (.int 1))) (tC (.int 0)))) (te:=ZH 2) Z J8.nd (Q4 (pv 1)) (ZI (N:=["drawing","places","number","point"]) (sc:=a6 BD) Wb)
    (fun _ _ _ _ _=>by exact ZF (n:=2) Z (QF (b0 2 J8.nd) (QF (b0 3 J8.nd) Zl))) (fun _ _ _ _ _=>by exact zn (Qt XM (Qy QO (pv 3) Qi (fun _ _=>rfl)) Qi (Qo _))) (fun _ _ _ _ _=>by exact pv 2))
   (Qa (qR (own:=[("number",2),("point",3)]) (g:=yK K 2 (Z8 (Zz 2) (Z8 (Zz 3) xg))) (tt:=gj (n9 FH (n9 (nQ K) (ZH 3) (tC (.int 1))) (vc K (ZH 0) "height"))) (te:=ZH 2) Z J8.nd (Q4 (pv 1)) (ZI (N:=["drawing","places","number","point"]) (sc:=a6 BD) Wb)
    (fun _ _ _ _ _=>by exact ZF (n:=2) Z (QF (b0 2 J8.nd) (QF (b0 3 J8.nd) Zl))) (fun _ _ _ _ _=>by exact zn (Qt XM (Qy QO (pv 3) Qi (fun _ _=>rfl)) (Qw (pv 0) Z) (Qo _))) (fun _ _ _ _ _=>by exact pv 2))
   (Qa (qR (own:=[("number",2),("point",3)]) (g:=yK K 2 (Z8 (Zz 2) (Z8 (Zz 3) xg))) (tt:=gj (n9 FH (n9 (nQ K) (ZH 3) (tC (.int 0))) (tC (.int 0)))) (te:=ZH 2) Z J8.nd (Q4 (pv 1)) (ZI (N:=["drawing","places","number","point"]) (sc:=a6 BD) Wb)
    (fun _ _ _ _ _=>by exact ZF (n:=2) Z (QF (b0 2 J8.nd) (QF (b0 3 J8.nd) Zl))) (fun _ _ _ _ _=>by exact zn (Qt XM (Qy QO (pv 3) Qi (fun _ _=>rfl)) Qi (Qo _))) (fun _ _ _ _ _=>by exact pv 2))
   (Qa (qR (own:=[("number",2),("point",3)]) (g:=yK K 2 (Z8 (Zz 2) (Z8 (Zz 3) xg))) (tt:=gj (n9 FH (n9 (nQ K) (ZH 3) (tC (.int 0))) (vc K (ZH 0) "width"))) (te:=ZH 2) Z J8.nd (Q4 (pv 1)) (ZI (N:=["drawing","places","number","point"]) (sc:=a6 BD) Wb)
    (fun _ _ _ _ _=>by exact ZF (n:=2) Z (QF (b0 2 J8.nd) (QF (b0 3 J8.nd) Zl))) (fun _ _ _ _ _=>by exact zn (Qt XM (Qy QO (pv 3) Qi (fun _ _=>rfl)) (Qw (pv 0) Z) (Qo _))) (fun _ _ _ _ _=>by exact pv 2))
   Qc))))))),?_⟩
 refine⟨_,Z,d,C,dx,_,_,Z,D.ins,T.cl,T.nP,XN _ _ _ _ _,lp,_,Z,D.pts.lst,fun q as H1 s1 _ hq ad ah=>?_⟩;have Pq:E' H1 q as ap:=⟨hq,by rw[ad,xD],fun i c a h1 h2=>ah i c (.ref a) h1 (by rw[xL,h2];rfl)⟩;have D1:=D.same s1;refine⟨_,Z,q,Z,⟨_,ba.of Pq.lst⟩,fun r1 ai=>zz (on:=fun p=>p.y==0) D1 Pq sz.1 ai (fun i a H' Q' I z B=>?_) fun H2 af g1=>?_⟩
 ·refine⟨_,Z,a,_,_,_,Z,Z,bY.of (I.Hj z),Qm (j:=1) Z,Z,_,Z,?_⟩;have e:=zA (S.pt i).y 0;lia
 have s2:=s1.trans af;have aa:=Pq.same af;refine⟨_,Z,q,Z,⟨_,ba.of aa.lst⟩,fun r2 aj=>zz (on:=fun p=>p.y==S.h) (D.same s2) aa sz.1 aj (fun i a H' Q' I z B=>?_) fun H3 ab g2=>?_⟩
 ·refine⟨_,Z,a,_,_,_,Z,Z,bY.of (I.Hj z),Qm (j:=1) Z,_,Z,d,C,dx,_,_,Z,I.ins,T.cl,T.nH,rK _ _ _ _ _,Z,_,Z,?_⟩;rw[<-zA]at B;exact B
 have s3:=s2.trans ab;have ac:=aa.same ab;refine⟨_,Z,q,Z,⟨_,ba.of ac.lst⟩,fun r3 ak=>zz (on:=fun p=>p.x==0) (D.same s3) ac sz.1 ak (fun i a H' Q' I z B=>?_) fun H4 J g3=>?_⟩
 ·refine⟨_,Z,a,_,_,_,Z,Z,bY.of (I.Hj z),Qm (j:=0) Z,Z,_,Z,?_⟩;have e:=zA (S.pt i).x 0;lia
 have s4:=s3.trans J;have ag:=ac.same J;refine⟨_,Z,q,Z,⟨_,ba.of ag.lst⟩,fun r4 an=>zz (on:=fun p=>p.x==S.w) (D.same s4) ag sz.1 an (fun i a H' Q' I z B=>?_) fun H5 O g4=>?_⟩
 ·refine⟨_,Z,a,_,_,_,Z,Z,bY.of (I.Hj z),Qm (j:=0) Z,_,Z,d,C,dx,_,_,Z,I.ins,T.cl,T.nW,tY _ _ _ _ _,Z,_,Z,?_⟩;rw[<-zA]at B;exact B
 have s5:=s4.trans O;refine⟨(by show 4<=sizeLine;decide),fun r ao=>?_⟩;have G:=Qk (.lst [V.ref r1,.ref r2,.ref r3,.ref r4]) ao;refine k _ r [r1,r2,r3,r4] (s5.trans G) Qe Z fun i a l z hl=>?_;match i,z,hl with
 | 0,z,hl=>
  cases z;cases hl;exact G _ _ (O _ _ (J _ _ (ab _ _ g1)))
 | 1,z,hl=>
  cases z;cases hl;exact G _ _ (O _ _ (J _ _ g2))
 | 2,z,hl=>
  cases z;cases hl;exact G _ _ (O _ _ g3)
 | 3,z,hl=>
  cases z;cases hl;exact G _ _ g4
 |n+4,z,hl=>simp at z
theorem sC(xs:List V)(p:Nat):X9 xs (some (p:Int)) none=xs.drop p:=by
 unfold X9;simp only[HT.dn,show HT.eZ xs.length xs.length none=xs.length from Z];by_cases h:p<=xs.length
 ·rw[Qan h];rw[Qbk (Qar Gd)]
 ·rw[GK (i:=min p xs.length) L,GK (i:=p) L];simp
theorem vb(S:Plan)(x y:Nat):qf S (x,y)=!S.pts.contains ⟨x,y⟩:=by
 unfold qf;congr 1;rw[VU,Gu,UT,UW];constructor
 ·rintro⟨p,j,e⟩;have e:xy p=(x,y):=Wj e
  have:p=⟨x,y⟩:=by cases p;simp only[xy,Prod.mk.injEq]at e;lia
  lia
 ·intro h;exact⟨⟨x,y⟩,h,Wk Z⟩
def Jh(S:Plan)(l:List Nat):Bool:=(l.zip (l.drop 1)).all fun x=>decide (x∈S.lines)
theorem Q2(S:Plan)(on:Pt->Bool):(Gq S on).Pairwise (·<·):=List.Pairwise.filter _ List.pairwise_lt_range
theorem AR{l:List Nat} (h:l.Pairwise (·<·)):∀x∈l.zip (l.drop 1),x.1<x.2:=by intro x j;obtain⟨i,hi,e⟩:=List.mem_iff_getElem.1 j;rw[List.getElem_zip]at e;subst e;simp only[Qaz];rw[List.length_zip,Gd]at hi;exact List.pairwise_iff_getElem.1 h _ _ L L L
theorem pI(S:Plan){l:List Nat} (h:l.Pairwise (·<·)):GR S l=Jh S l:=by
 unfold GR Jh;have z:=AR h;generalize l.zip (l.drop 1)=m at z;induction m with
 |nil=>rfl
 | cons x m j=>
  rw[UP,UP,j fun y n=>z y (xT _ n)];congr 1;have:=z x (Gn ..);unfold Plan.joined;rw[Qan L,Nat.max_eq_right L,Gu,UW,Wp]
theorem ym(S:Plan):UG S=(!(Xy S).any (qf S)&&(qQ S).all (Jh S)):=by unfold UG Xy qQ;simp only[VH,List.any_nil,UP,List.all_nil,vb,<-pI S (Q2 S _),Bool.or_false,Qb3,Bool.not_or,Qbn];lia
abbrev HG:Stmt:=top 28
theorem mY:a7 ["drawing","joined","line","row","one","other"] ["drawing"] (a6 HG):=.mk'
theorem D'(F:bG K "open_frame" "open_frame" HG f fd)(T:Xc K mg C)(U:Txt K mg) (Lc:bu P w K mg base 4 "lacks_corner" ["drawing"] (AY K C)) (Er:bu P w K mg base 4 "edge_rows" ["drawing"] (A0 K C)) :
  QC P w K mg base bD 5 f fd ["drawing"] (XT K C (fun S=>Dl S/\nX S/\S.lines.Nodup) JG):=by
 apply F.bM mY;rintro _ H Q E ⟨d,S,dx,lp,ll,lm,ap,al,am,rfl,D,⟨OH,O5,nd⟩,k⟩;refine⟨Z,fun _ _ _ _ hr=>?_⟩;have hu:=Jd hr
 refine⟨_,Qb (QD (Zd (Qs Lc hr (Qa (pv 0) Qc))) (Qd (Qj (QP T.g20))) Qq)
  (Qb (bA 1 mY.nd gu)
  (Qb (QL PassesOwn.never Z (Q4 (Qw (pv 0) Z)) (b0 2 mY.nd) (Qd (zo hu (pv 1) (pv 2) Xh Z)))
  (Qb (QL PassesOwn.never Z (Q4 (Qs Er hr (Qa (pv 0) Qc))) (b0 3 mY.nd)
   (Qd (QL PassesOwn.never Z (rQ Z U.zip (Qa (pv 3) (Qa (XH Yu (pv 3) (Xe Qi) zq) Qc))) (ZF (n:=2) Z (QF (b0 4 mY.nd) (QF (b0 5 mY.nd) Zl)))
    (Qd (QD (Q7 (qB hu (Ze (Qa (pv 4) (Qa (pv 5) Qc))) (pv 1))) (Qd (Qj (QP T.g20))) Qq)))))
  (Qd (Qj QT))))),?_⟩
 have ac:∀H',Qn H H'->UG S=false->Q (.int 20) H':=fun H' s1 e=>by
  have:=k H' s1;unfold JG at this;rw[Wi e]at this;exact this
 refine⟨_,Z,d,S,dx,lp,ll,lm,ap,al,am,Z,D,fun H1 s1=>⟨_,Z,Qz (fun h1=>?_) (fun h1=>?_)⟩⟩
 ·exact ac H1 s1 (by rw[ym,h1];rfl)
 have h1:(Xy S).any (qf S)=false:=by simpa using h1
 intro g hg;have fg:H g=none:=s1.free hg;have s2:Qn H (upd H1 g (.dT [])):=s1.trans (Qk _ hg);have D2:=D.same s2;have ad:al.length=S.lines.length:=D.cG.len
 refine⟨_,Z,d,C,dx,_,_,Z,D2.ins,T.cl,T.nL,yr _ _ _ _ _,ll,Z,⟨_,D2.cG.lst⟩,Zs (K:=K) (a:=ll) (xs:=al.map V.ref) (fun j σ H'=>∃v2:Option V,eC (σ=[some (.ref d),some (.ref g),v2,none,none,none]) (cF g H1 H') (H' g=some (.dT (kT (S.lines.take j)))))
  ⟨none,Z,fun x o h I=>by rw[Qh I];exact h,Qe⟩ (fun j σ H' _ ⟨_,_,kp,az⟩=>(D.same (kp.same fg s1)).cG.lst) ?_ ?_⟩
 ·rintro j x σ H3 hx ⟨v2,rfl,kp,J⟩;obtain⟨c,hc,rfl⟩:=Zm hx;have hj:j<S.lines.length:=by rw[<-ad];exact (List.getElem?_eq_some_iff.1 hc).1
  have D3:=D.same (kp.same fg s1);have hp:Pr H3 c S.lines[j]:=D3.cG.at_ j c _ hc (xF hj)
  have an:S.lines[j]∉S.lines.take j:=fun h=>by
   obtain⟨m,O,em⟩:=List.mem_iff_getElem.1 h;rw[Go]at O;rw[VX]at em;have:=(V9 nd).1 em;lia
  have len:(kT (S.lines.take j)).length<sizeLine:=by have z:=O5.siz.2.1;unfold kT;rw[xD,Go];exact xZ (show min j S.lines.length<=65536 by lia) Wa
  refine⟨_,Z,_,Z,g,_,Z,yM.t J hp.key len,?_⟩;rw[pW an];refine⟨_,Z,fun x o h I=>by rw[Qh I];exact kp x o h I,?_⟩;rw[Qe,Ug hj]
 ·rintro σ H3 ⟨v2,rfl,kp,J⟩;rw[xD,ad,GC] at J;have s3:=kp.same fg s1;refine⟨_,Z,d,S,dx,lp,ll,lm,ap,al,am,Z,D.same s3,O5.siz,fun H4 r rs af ag rl ao=>?_⟩;have s4:=s3.trans af;have aq:=af _ _ J
  refine⟨r,Z,⟨_,ba.of ag⟩,Zs (K:=K) (a:=r) (xs:=rs.map V.ref) (fun j σ H'=>Ds fun(v3 v4 v5:Option V)=>eC (σ=[some (.ref d),some (.ref g),v2,v3,v4,v5]) (Qn H4 H') (∀m l,m<j->(qQ S)[m]?=some l->Jh S l=true))
   ⟨none,none,none,Z,Qn.refl _,fun m l O=>by lia⟩ (fun j σ H' _ ⟨_,_,_,_,s5,_⟩=>ba.of (s5 _ _ ag)) ?_ ?_⟩
  ·rintro j x σ H5 hx ⟨v3,v4,v5,rfl,s5,hb⟩;obtain⟨c,hc,rfl⟩:=Zm hx;have hj:j<(qQ S).length:=by show j<4;rw[<-rl];exact (List.getElem?_eq_some_iff.1 hc).1
   obtain⟨l,hl⟩:∃l,(qQ S)[j]?=some l:=⟨_,xF hj⟩;have ah:=s5 _ _ (ao j c l hc hl);have e1:X9 (ni l) (some ((1:Nat):Int)) none=ni (l.drop 1):=by rw[sC];unfold ni;rw[Qaf]
   refine⟨_,Z,_,Z,_,Z,c,_,Z,ba.of ah,fun y hy=>?_⟩;have au:X9 (ni l) (some 1) none=ni (l.drop 1):=e1;rw[au];have ab:=Qk (.lst (ni (l.drop 1))) hy;have B:=ab _ _ ah;generalize e6:upd H5 y (.lst (ni (l.drop 1)))=H6 at ab B ⊢;have ai:H6 y=some (.lst (ni (l.drop 1))):=by rw[<-e6];exact Qe
   have s6:=s5.trans ab;have aa:(ni l).length=l.length:=by simp[ni]
   have aj:(ni (l.drop 1)).length=l.length-1:=by simp[ni]
   refine⟨c,y,_,_,Z,ba.of B,ba.of ai,my (K:=K) (a:=c) (b:=y) (xs:=ni l) (ys:=ni (l.drop 1)) (p:=4) (q:=5) (n:=l.length-1) (fun i σ H'=>uk fun(v4 v5:Option V)=>eC (σ=[some (.ref d),some (.ref g),v2,some (.ref c),v4,v5]) (Qn H6 H') (∀m z,m<i->(l.zip (l.drop 1))[m]?=some z->z∈S.lines))
    (by rw[aa,aj];lia) ⟨_,_,Z,Qn.refl _,fun m z O=>by lia⟩ (fun i σ H' _ ⟨_,_,_,s7,_⟩=>⟨ba.of (s7 _ _ B),ba.of (s7 _ _ ai)⟩) ?_ ?_⟩
   ·rintro i a b σ H7 H8 ha av ⟨w4,w5,rfl,s7,O⟩ aw;have ga:i<l.length:=by rw[<-aa];exact (List.getElem?_eq_some_iff.1 ha).1
    have gb:i<(l.drop 1).length:=by grind
    have ea:a=V.int ((l[i]:Nat):Int):=by unfold ni at ha;grind
    have eb:b=V.int (((l.drop 1)[i]:Nat):Int):=by unfold ni at av;grind
    subst ea eb
    have ez:(l.zip (l.drop 1))[i]?=some (l[i],(l.drop 1)[i]):=by grind
    have s8:=s7.trans aw;refine⟨_,Z,_,Z,(by show 2<=sizeLine;decide),fun t ht=>?_⟩;have ax:=Qk (.tup [V.int ((l[i]:Nat):Int),V.int (((l.drop 1)[i]:Nat):Int)]) ht;have s9:=s8.trans ax;have hp:Pr (upd H8 t (.tup [V.int ((l[i]:Nat):Int),V.int (((l.drop 1)[i]:Nat):Int)])) t (l[i],(l.drop 1)[i]):=Qe;have ay:=s9 _ _ (s6 _ _ aq);refine⟨_,Z,g,_,Z,Z6.t ay hp.key,_,Z,Qz (fun G=>?_) (fun G=>?_)⟩
    ·have G:(!(Xv (kT S.lines) (qF (l[i],(l.drop 1)[i]))).isSome)=true:=G;rw[yh] at G;have G:(l[i],(l.drop 1)[i])∉S.lines:=by simpa using G
     refine ac _ ((s4.trans s6).trans s9) ?_;rw[ym]
     have:(qQ S).all (Jh S)=false:=by rw[List.all_eq_false];refine⟨l,x6 hl,?_⟩;unfold Jh;grind
     lia
    ·have G:¬ (!(Xv (kT S.lines) (qF (l[i],(l.drop 1)[i]))).isSome)=true:=G;rw[yh] at G;have G:(l[i],(l.drop 1)[i])∈S.lines:=by simpa using G
     refine⟨_,_,Z,s9,fun m z hz aA=>?_⟩;grind
   ·rintro σ H7 ⟨w4,w5,rfl,s7,O⟩;refine⟨_,_,_,Z,s6.trans s7,fun m l' aB ak=>?_⟩;by_cases q:m=j
    ·subst q;rw[hl]at ak;cases ak;unfold Jh;rw[Qaa];intro z hz;obtain⟨i,hi,e⟩:=List.mem_iff_getElem.1 hz;refine Wk (O i z ?_ ?_);all_goals grind
    grind
  ·rintro σ H5 ⟨v3,v4,v5,rfl,s5,hb⟩
   have fo:UG S=true:=by
    rw[ym,h1]
    have:(qQ S).all (Jh S)=true:=by rw[Qaa];intro l hl;obtain⟨m,O⟩:=List.mem_iff_getElem?.1 hl;refine hb m l ?_ O;rw[xD,rl];exact(List.getElem?_eq_some_iff.1 O).1
    lia
   have:=k H5 (s4.trans s5);unfold JG at this;rw[Wh (by rw[fo];simp)]at this;exact this
structure QB(K:xB)(y x:Str)(st:Stmt):Prop where
 ex:∃(f:Addr) (oc:Value) (od:Option Addr) (kV dc pm:Value) (an:Option Addr) (cd ct:Value) (sl:Array (Option Value)),x4 K mainGlobals y=some (some (.ref f))/\
  K.lookup f=some ⟨oc,od,.func (Ua x x (bZ st) (bR st) (a6 st) .none kV dc pm an cd ct),sl⟩/\Vj K cd x=true/\GU K (.ref f)=true
structure Xd(K:xB)(C:Addr)(m q:Str)(st:Stmt):Prop where
 ex:∃(f:Addr) (oc:Value) (od:Option Addr) (kV dc pm:Value) (an:Option Addr) (cd ct:Value) (sl:Array (Option Value)),G1 K (.ref C) m=some (some (.ref f))/\Qat K (.ref f)=true/\
  K.lookup f=some ⟨oc,od,.func (Ua m q (bZ st) (bR st) (a6 st) .none kV dc pm an cd ct),sl⟩/\Vj K cd q=true/\GU K (.ref f)=true
structure ua(K:xB)(x:Str)(C:Addr):Prop where
 ns:x4 K mainGlobals x=some (some (.ref C))
 pg:VD K C Str.empty=true
 hd:V7 K C=true
 po:Qa6 K C=true
 sa:G1 K (.ref C) "__setattr__" = some (some (.builtin "object.__setattr__"))
 mak:Qbx K C=true
 kc:GU K (.ref C)=true
def Zx(K:xB)(x:Str)(n:Int):Prop:=∃t,x4 K mainGlobals x=some (some (.int n t))
def NotIn(K:xB)(x:Str):Prop:=x4 K mainGlobals x=some none
def Ji(K:xB)(a:Addr)(vs:List V):Prop:=∃(j:Option Addr) (a8:Array Value) (n:Nat) (z:Array (Option Value)),K.lookup a=some ⟨.type "tuple",j,.seq a8 n,z⟩/\a8.size<=sizeLine/\QH vs a8.toList
theorem Ji.sq{vs:List V}(h:Ji K a vs)(H:Hp):bY K H a vs:=by obtain⟨j,a8,n,B,l,z,r⟩:=h;exact .inr ⟨_,a8,n,l,Z,Z,z,r⟩
inductive qu(K:xB):List Value->List (List Int)->Prop
 |nil:qu K [] []
 |cons {a:Addr} {r:List Int} {us:List Value} {rs:List (List Int)}:Ji K a (r.map V.int)->qu K us rs->qu K (Value.ref a::us) (r::rs)
theorem qu.rows:∀{us:List Value} {rs:List (List Int)},qu K us rs->∃as:List Addr,us=as.map Value.ref/\as.length=rs.length/\∀(i:Nat)(a:Addr)(r:List Int),as[i]?=some a->rs[i]?=some r->∀H,bY K H a (r.map V.int)
 |_,_,.nil=>⟨[],Z,Z,fun i a r h _=>by simp at h⟩
 | _,_,.cons (a:=a) h t=>by
  obtain⟨as,e,l,k⟩:=t.rows;subst e;refine⟨a::as,Z,by rw[xQ,xQ,l],fun i b r h1 h2=>?_⟩;cases i with
  |zero=>cases h1;cases h2;exact h.sq
  |succ i=>exact k i b r (by simpa using h1) (by simpa using h2)
def J1(K:xB)(x:Str) (rs:List (List Int)):Prop:=∃(q:Addr) (j:Option Addr) (a8:Array Value) (n:Nat) (z:Array (Option Value)),x4 K mainGlobals x=some (some (.ref q))/\K.lookup q=some ⟨.type "tuple",j,.seq a8 n,z⟩/\a8.size<=sizeLine/\qu K a8.toList rs
def fw(K:xB)(x:Str)(vs:List V):Prop:=∃q:Addr,x4 K mainGlobals x=some (some (.ref q))/\Ji K q vs
theorem fj{y x:Str}{st:Stmt}{n:Value}{z:Option Addr}{kV B F:Value}{G:Option Addr}{j ct:Value} {I:Array (Option Value)} (a:x4 K mainGlobals y=some (some (.ref f)))
  (b:K.lookup f=some ⟨n,z,.func (Ua x x (bZ st) (bR st) (a6 st) .none kV B F G j ct),I⟩) (c:Vj K j x=true) (d:GU K (.ref f)=true):QB K y x st:=⟨f,n,z,kV,B,F,G,j,ct,I,a,b,c,d⟩
theorem oJ{m q:Str}{st:Stmt}{n:Value}{z:Option Addr}{kV B F:Value}{G:Option Addr}{j ct:Value} {I:Array (Option Value)} (a:G1 K (.ref C) m=some (some (.ref f))) (i:Qat K (.ref f)=true)
  (b:K.lookup f=some ⟨n,z,.func (Ua m q (bZ st) (bR st) (a6 st) .none kV B F G j ct),I⟩) (c:Vj K j q=true) (d:GU K (.ref f)=true):Xd K C m q st:=⟨f,n,z,kV,B,F,G,j,ct,I,a,i,b,c,d⟩
theorem sN{x:Str}{n:Int}{t:Tok} (a:x4 K mainGlobals x=some (some (.int n t))):Zx K x n:=⟨t,a⟩
theorem sU{x:Str}(a:x4 K mainGlobals x=some none):NotIn K x:=a
theorem oU{x:Str} (a:G1 K (.ref C) x=some none):Q8 K C x:=a
theorem dJ{vs:List V}{j:Option Addr}{a8:Array Value}{n:Nat} {B:Array (Option Value)} (l:K.lookup a=some ⟨.type "tuple",j,.seq a8 n,B⟩) (z:a8.size<=sizeLine) (v:QH vs a8.toList):Ji K a vs:=⟨j,a8,n,B,l,z,v⟩
theorem tR{x:Str}{vs:List V}{q:Addr} (n:x4 K mainGlobals x=some (some (.ref q))) (t:Ji K q vs):fw K x vs:=⟨q,n,t⟩
theorem oN{x:Str} {rs:List (List Int)} {q:Addr} {j:Option Addr} {a8:Array Value} {m:Nat} {B:Array (Option Value)} (n:x4 K mainGlobals x=some (some (.ref q))) (l:K.lookup q=some ⟨.type "tuple",j,.seq a8 m,B⟩) (z:a8.size<=sizeLine) (r:qu K a8.toList rs):J1 K x rs:=⟨q,j,a8,m,B,n,l,z,r⟩
theorem tK{r:List Int}{us:List Value} {rs:List (List Int)} (h:Ji K a (r.map V.int)) (t:qu K us rs):qu K (Value.ref a::us) (r::rs):=.cons h t
theorem eE{i:Int}{t:Tok}{vs:List V}{us:List Value}(h:QH vs us):QH (.int i::vs) (.int i t::us):=.cons ⟨t,Z⟩ h
section
variable {h:Heap}
theorem J1.vH{x:Str} {rs:List (List Int)} (j:K.In h) (G:h.Ns mainGlobals mg) (b:J1 K x rs):uG K mg x rs:=by obtain⟨q,B,a8,m,F,n,l,z,r⟩:=b;obtain⟨as,e,h1,h2⟩:=r.rows;refine⟨q,as,Uk j G n,fun H=>.inr ⟨_,a8,m,l,Z,Z,z,?_⟩,h1,h2⟩;rw[e];exact Jk as
theorem fw.sgn{x:Str}{vs:List V}(j:K.In h)(G:h.Ns mainGlobals mg)(b:fw K x vs):EM K mg x vs:=by obtain⟨q,n,t⟩:=b;exact⟨q,Uk j G n,t.sq⟩
theorem Zx.gi{x:Str}{n:Int}(j:K.In h)(G:h.Ns mainGlobals mg)(b:Zx K x n):GI mg x n:=by obtain⟨t,e⟩:=b;exact⟨t,Uk j G e⟩
theorem Ie{α:Type}{p:List α->Prop}(h:∀a,p [a]):∀us:List α,us.length=1->p us
 |[a],_=>h a
theorem Hs{α:Type}{p:List α->Prop}(h:∀a b,p [a,b]):∀us:List α,us.length=2->p us
 |a::r,e=>Ie (p:=fun r=>p (a::r)) (h a) r (Nat.succ.inj e)
theorem K8{α:Type}{p:List α->Prop}(h:∀a b c,p [a,b,c]):∀us:List α,us.length=3->p us
 |a::r,e=>Hs (p:=fun r=>p (a::r)) (h a) r (Nat.succ.inj e)
theorem K0{α:Type}{p:List α->Prop}(h:∀a b c d,p [a,b,c,d]):∀us:List α,us.length=4->p us
 |a::r,e=>K8 (p:=fun r=>p (a::r)) (h a) r (Nat.succ.inj e)
theorem K6{α:Type}{p:List α->Prop}(h:∀a b c d e,p [a,b,c,d,e]):∀us:List α,us.length=5->p us
 |a::r,e=>K0 (p:=fun r=>p (a::r)) (h a) r (Nat.succ.inj e)
theorem LC{α:Type}{p:List α->Prop}(h:∀a b c d e f,p [a,b,c,d,e,f]):∀us:List α,us.length=6->p us
 |a::r,e=>K6 (p:=fun r=>p (a::r)) (h a) r (Nat.succ.inj e)
def AU(x:Str)(st:Stmt)(ps:List Str):Prop:=∀(kV j z:Value)(B:Option Addr)(n ct:Value)(us:List Value),us.length=ps.length->bindArgs (Ua x x (bZ st) (bR st) (a6 st) .none kV j z B n ct) ⟨us,[]⟩=pure (ps.zip us)
def wM(x q:Str)(st:Stmt)(ps:List Str):Prop:=∀(kV j z:Value)(B:Option Addr)(n ct:Value)(us:List Value),us.length=ps.length->bindArgs (Ua x q (bZ st) (bR st) (a6 st) .none kV j z B n ct) ⟨us,[]⟩=pure (ps.zip us)
theorem QB.has{y x:Str}{st:Stmt}{ps:List Str}{k:Nat}{sp:Sp}(D:QB K y x st)(P:Program)(w:World)(base:Heap)(j:K.In h)(G:h.Ns mainGlobals mg) (ok:∀{f:Addr} {fd:FuncData},bG K x x st f fd->QC P w K mg base bD k f fd ps sp) (z:AU x st ps:=by first|exact fun _ _ _ _ _ _=>Ie fun _=>rfl|exact fun _ _ _ _ _ _=>Hs fun _ _=>rfl|exact fun _ _ _ _ _ _=>K8 fun _ _ _=>rfl|exact fun _ _ _ _ _ _=>K0 fun _ _ _ _=>rfl|exact fun _ _ _ _ _ _=>K6 fun _ _ _ _ _=>rfl):bu P w K mg base k y ps sp:=by obtain⟨f,B,I,kV,J,O,U,cd,ct,sl,n,l,c,kp⟩:=D.ex;have F:=yl (st:=st) l c kp;exact⟨f,_,Uk j G n,kp,F.binds z,ok F⟩
theorem Xd.has{m q:Str}{st:Stmt}{ps:List Str}{k:Nat}{sp:Sp}(D:Xd K C m q st)(P:Program)(w:World)(base:Heap) (ok:∀{f:Addr} {fd:FuncData},bG K m q st f fd->QC P w K mg base bD k f fd ps sp) (j:wM m q st ps:=by first|exact fun _ _ _ _ _ _=>Ie fun _=>rfl|exact fun _ _ _ _ _ _=>Hs fun _ _=>rfl):XS P w K mg base C k m ps sp:=by obtain⟨f,z,B,kV,G,I,J,O,ct,U,n,i,l,c,kp⟩:=D.ex;have F:=yl (st:=st) l c kp;exact⟨f,_,⟨n,i,kp⟩,F.binds j,ok F⟩
end
structure XR(K:xB)(C:Addr):Prop where
 cl:ua K "Drawing" C
 nW:Q8 K C "width"
 nH:Q8 K C "height"
 nP:Q8 K C "points"
 nL:Q8 K C "lines"
 nM:Q8 K C "marks"
 mI:Xd K C "__init__" "Drawing.__init__" mB
 mPP:Xd K C "point_place" "Drawing.point_place" Ib
 mLP:Xd K C "line_place" "Drawing.line_place" HE
 mMP:Xd K C "mark_place" "Drawing.mark_place" KL
 mBC:Xd K C "byte_count" "Drawing.byte_count" HM
 mNb:Xd K C "neighbours" "Drawing.neighbours" Hv
 rev:NotIn K "reversed"
 len:NotIn K "len"
 range:NotIn K "range"
 enum:NotIn K "enumerate"
 lst:NotIn K "list"
 any:NotIn K "any"
 zip:NotIn K "zip"
 str:NotIn K "str"
 sum:NotIn K "sum"
 ord:NotIn K "ord"
 max:NotIn K "max"
 g20:Zx K "HEAD_BYTES_drawing" 20
 g8:Zx K "POINT_BYTES" 8
 g4:Zx K "LINE_BYTES" 4
 g12:Zx K "MARK_BYTES" 12
 gN:Zx K "NO_POINT" (-1)
 w80:Zx K "HEAD_BYTES_workshop" 80
 w16:Zx K "SHEET_BYTES" 16
 w8:Zx K "KIND_BYTES" 8
 w64:Zx K "GLASS_BYTES" 64
 w69:Zx K "PAINTING_BYTES" 69
 w64b:Zx K "BANDS_BYTES" 64
 w4:Zx K "MOST_COATS" 4
 sgC:fw K "CARTOON_SIGN" [.int 71,.int 76,.int 65,.int 49]
 sgW:fw K "WORKSHOP_SIGN" [.int 71,.int 76,.int 65,.int 87]
 bC:J1 K "HEAD_BOUNDS_cartoon" yw
 bW:J1 K "HEAD_BOUNDS_workshop" (Yv wb)
 bS:J1 K "SHEET_BOUNDS" (Yv wQ)
 bK:J1 K "KIND_BOUNDS" (Yv Aq)
 dNum:QB K "number_at" "number_at" CL
 dPairs:QB K "pairs_at" "pairs_at" iT
 dRow:QB K "row_places" "row_places" Bh
 dDrw:QB K "drawing_of" "drawing_of" Bx
 dTurn:QB K "turn" "turn" tM
 dBet:QB K "is_between" "is_between" B8
 dOn:QB K "is_on" "is_on" ID
 dParts:QB K "parts" "parts" lu
 dCross:QB K "crosses" "crosses" kU
 dBehind:QB K "comes_behind" "comes_behind" jO
 dWP:QB K "wrong_point" "wrong_point" IP
 dLB:QB K "line_comes_behind" "line_comes_behind" Kc
 dWL:QB K "wrong_line" "wrong_line" Iv
 dLC:QB K "lacks_corner" "lacks_corner" Hi
 dER:QB K "edge_rows" "edge_rows" BD
 dOF:QB K "open_frame" "open_frame" HG
 dHP:QB K "holds_point" "holds_point" KR
 dCE:QB K "crosses_earlier" "crosses_earlier" Kb
 dEL:QB K "entangled_line" "entangled_line" HS
 dWF:QB K "is_within_frame" "is_within_frame" Kv
 dOSL:QB K "is_on_some_line" "is_on_some_line" BL
 dWM:QB K "wrong_mark" "wrong_mark" Ic
 dSB:QB K "is_step_below" "is_step_below" HU
 dHi:QB K "is_higher" "is_higher" IT
 dSU:QB K "step_under" "step_under" KS
 dSide:QB K "side" "side" ud
 dFL:QB K "is_further_left" "is_further_left" Ke
 dSA:QB K "step_after" "step_after" IM
 dOut:QB K "outline" "outline" CA
 dCM:QB K "crowding_mark" "crowding_mark" Kl
 dUP:QB K "unmarked_pane" "unmarked_pane" Ku
 dLoose:QB K "loose_point" "loose_point" iA
 dReach:QB K "reached" "reached" kJ
 dUnr:QB K "unreached_point" "unreached_point" AO
 dPart:QB K "parting_point" "parting_point" tN
 dHC:QB K "head_fault_cartoon" "head_fault" HI
 dDF:QB K "drawing_fault" "drawing_fault" HD
 dCF:QB K "cartoon_fault" "cartoon_fault" KJ
 dOob:QB K "out_of_bounds" "out_of_bounds" Dc
 dPP2:QB K "part_places" "part_places" CJ
 dWS:QB K "wrong_sheet" "wrong_sheet" Ko
 dWK:QB K "wrong_kind" "wrong_kind" HX
 dRC:QB K "is_right_coat" "is_right_coat" KI
 dWC:QB K "wrong_coat" "wrong_coat" Ik
 dWPa:QB K "wrong_painting" "wrong_painting" vT
 dHW:QB K "head_fault_workshop" "head_fault" Kz
 dCW:QB K "cartoon_within" "cartoon_within" Ih
 dPaF:QB K "parts_fault" "parts_fault" By
 dWF2:QB K "workshop_fault" "workshop_fault" Az
section
variable {h:Heap}
theorem XR.txt(T:XR K C)(j:K.In h)(G:h.Ns mainGlobals mg):Txt K mg:=
 ⟨GL j G T.rev,GL j G T.len,GL j G T.range,GL j G T.enum,GL j G T.lst,GL j G T.any,GL j G T.zip,GL j G T.str,GL j G T.sum,GL j G T.ord,GL j G T.max⟩
theorem XR.v8(T:XR K C)(j:K.In h)(G:h.Ns mainGlobals mg):Xc K mg C:=
 ⟨⟨T.cl.pg,T.cl.hd,T.cl.po,T.cl.sa⟩,T.nW,T.nH,T.nP,T.nL,T.nM,Uk j G T.cl.ns,T.g20.gi j G,T.g8.gi j G,T.g4.gi j G,T.g12.gi j G⟩
theorem XR.BX(T:XR K C)(j:K.In h)(G:h.Ns mainGlobals mg):xu K mg:=
 ⟨T.w80.gi j G,T.w16.gi j G,T.w8.gi j G,T.w64.gi j G,T.w69.gi j G,T.w64b.gi j G,T.w4.gi j G⟩
theorem XR.iV(T:XR K C)(j:K.In h)(G:h.Ns mainGlobals mg):bu P w K mg base 1 "number_at" ["octets","place","size"] (JF K):=T.dNum.has _ _ _ j G fun F=>CU F (T.txt j G)
theorem XR.Ed(T:XR K C)(j:K.In h)(G:h.Ns mainGlobals mg):bu P w K mg base 2 "row_places" ["octets"] (gv K):=T.dRow.has _ _ _ j G fun F=>BW F (T.v8 j G) (T.iV j G)
theorem XR.BU(T:XR K C)(j:K.In h)(G:h.Ns mainGlobals mg):bu P w K mg base 2 "part_places" ["workshop"] (yW K):=T.dPP2.has _ _ _ j G fun F=>AF F (T.BX j G) (T.iV j G)
theorem XR.Lw(T:XR K C)(j:K.In h)(G:h.Ns mainGlobals mg):bu P w K mg base 3 "cartoon_within" ["workshop"] (wt K):=T.dCW.has _ _ _ j G fun F=>DY F (T.BX j G) (T.BU j G)
theorem XR.Iz(T:XR K C)(j:K.In h)(G:h.Ns mainGlobals mg):bu P w K mg base 3 "drawing_of" ["octets"] (l7 K C):=by have U:=T.txt j G;have D:=T.v8 j G;have z:=T.dPairs.has P w base j G fun F=>rY F U (T.iV j G);obtain⟨f,J,O,kV,dc,pm,an,cd,ct,sl,n,i,l,c,kp⟩:=T.mI.ex;have F:=yl (st:=mB) l c kp;have B:=F.binds (ps:=["self","width","height","points","lines","marks"]) fun _ _ _ _ _ _=>LC fun _ _ _ _ _ _=>rfl;exact T.dDrw.has _ _ _ j G fun I=>A' I D (T.iV j G) (T.Ed j G) z ⟨T.cl.mak,n,i,T.cl.kc⟩ B (wq F D)
theorem XR.Lo(T:XR K C)(j:K.In h)(G:h.Ns mainGlobals mg):bu P w K mg base 6 "drawing_fault" ["drawing"] (vS K C):=by have U:=T.txt j G;have D:=T.v8 j G;have I:=T.mPP.has P w base (mg:=mg) fun F=>D0 F D;have ab:=T.mLP.has P w base (mg:=mg) fun F=>EI F D U I;have ac:=T.mMP.has P w base (mg:=mg) fun F=>Dz F D U ab;have aj:=T.mBC.has P w base (mg:=mg) fun F=>Eo F D U ac;have J:=T.mNb.has P w base (mg:=mg) fun F=>Dy F D;have n:=T.dTurn.has P w base j G wa;have af:=T.dBet.has P w base j G A5;have ag:=T.dOn.has P w base j G fun F=>El F af n;have O:=T.dParts.has P w base j G fun F=>p7 F n;have aa:=T.dCross.has P w base j G fun F=>rm F O;have z:=T.dBehind.has P w base j G mX;have ak:=T.dLB.has P w base j G Fq;have c4:=T.dWP.has P w base j G fun F=>D7 F D U I z;have c5:=T.dWL.has P w base j G fun F=>DH F D U ab ak;have an:=T.dLC.has P w base j G fun F=>Ej F D U;have ao:=T.dER.has P w base j G fun F=>E2 F D U;have c6:=T.dOF.has P w base j G fun F=>D' F D U an ao;have aq:=T.dHP.has P w base j G fun F=>DL F D ag;have au:=T.dCE.has P w base j G fun F=>Et F D aa;have c7:=T.dEL.has P w base j G fun F=>DS F D U ab aq au;have c8:=T.dLoose.has P w base j G fun F=>rC F D U I J;have B:=T.dReach.has P w base j G fun F=>sv F U;have c9:=T.dUnr.has P w base j G fun F=>CH F D U (T.gN.gi j G) I J B;have av:=T.dPart.has P w base j G fun F=>vI F D U I J B;have aw:=T.dWF.has P w base j G fun F=>Fg F D;have ah:=T.dOSL.has P w base j G fun F=>AG F D ag;have ax:=T.dWM.has P w base j G fun F=>E5 F D U ac aw ah z;have ay:=T.dSB.has P w base j G fun F=>Fv F n;have az:=T.dHi.has P w base j G fun F=>DX F n;have aA:=T.dSU.has P w base j G fun F=>F2 F D ay az;have ad:=T.dSide.has P w base j G wu;have aB:=T.dFL.has P w base j G fun F=>Ep F n ad;have aC:=T.dSA.has P w base j G fun F=>Ee F aB;have ai:=T.dOut.has P w base j G fun F=>AQ F aC;have aD:=T.dCM.has P w base j G fun F=>EY F D U ac J aA ai;have aE:=T.dUP.has P w base j G fun F=>DJ F D U aj;exact T.dDF.has _ _ _ j G fun F=>E3 F U c4 c5 c6 c7 c8 c9 av ax aD aE
theorem XR.Lf(T:XR K C)(j:K.In h)(G:h.Ns mainGlobals mg):bu P w K mg base 7 "cartoon_fault" ["octets"] (zL K Je):=by have n:=T.dHC.has P w base j G fun F=>EE F (T.v8 j G) (T.txt j G) (T.bC.vH j G) (T.iV j G) (T.sgC.sgn j G) (T.Ed j G);exact T.dCF.has _ _ _ j G fun F=>EF F n (T.Iz j G) (T.Lo j G)
theorem XR.LA(T:XR K C)(j:K.In h)(G:h.Ns mainGlobals mg):bu P w K mg base 9 "workshop_fault" ["workshop"] (zL K (pT ZX)):=by have U:=T.txt j G;have W:=T.BX j G;have n:=T.dOob.has P w base j G fun F=>BV F (T.iV j G);have B:=T.dHW.has P w base j G fun F=>EC F W U (T.bW.vH j G) n (T.sgW.sgn j G) (T.BU j G);have O:=T.dWS.has P w base j G fun F=>G' F W U (T.bS.vH j G) n;have c6:=T.dWK.has P w base j G fun F=>EH F W U (T.bK.vH j G) n;have I:=T.dRC.has P w base j G fun F=>FV F U;have J:=T.dWC.has P w base j G fun F=>DO F W U I;have c7:=T.dWPa.has P w base j G fun F=>B9 F W U (T.iV j G) J;have z:=T.dPaF.has P w base j G fun F=>BS F W U (T.Lw j G) (T.Lf j G) O c6 c7;exact T.dWF2.has _ _ _ j G fun F=>CP F B (T.BU j G) z
end
def pB(l:List Int):xC:=l.map fun(z:Int)=>UInt8.ofNat z.toNat
theorem pZ:∀l:List Int,(∀z∈l,0<=z/\z<=255)->bl (pB l)=l.map V.int
 |[],_=>rfl
 | z::l,h=>by
  have q:=h z (Gn ..);have j:=pZ l fun y n=>h y (xT _ n);show V.int ((UInt8.ofNat z.toNat).toNat:Int)::bl (pB l)=V.int z::l.map V.int;rw[j,UInt8.toNat_ofNat'];congr 2;lia
theorem lR(l:List Int):(pB l).length=l.length:=by simp[pB]
theorem yI{l:List Int}(h:∀z∈l,0<=z/\z<=255):PageNeutral.bytes l=some (pB l):=by
 unfold PageNeutral.bytes;rw[Wi]
 ·rfl
 ·unfold NeutralIO.bytes;grind
theorem CQ{lo hi:Int}:∀{l:List Int},l.all (PySem.W.Codec.inInt lo hi)=true->∀z∈l,lo<=z/\z<=hi:=by intro l h z hz;have:=List.all_eq_true.1 h z hz;unfold PySem.W.Codec.inInt at this;simpa using this
inductive BE(K:xB)(vs:List V)(H:Hp)(Q:VK)(E:XK):Prop
 |mk (q:Addr) (x:WA) (m:Nat):vs=[.ref q,.int (m:Int)]->H q=some (.tup [.int (x.1:Int),.int (x.2:Int)])->(∀H' l,Qn H H'->H' l=some (.lst [.int (-5),.int ((x.1+m:Nat):Int),.int (x.2:Int)])->Q (.ref l) H')->BE K vs H Q E
abbrev IG:Stmt:=top 113
theorem IL:a7 ["fault","more"] ["fault","more"] (a6 IG):=.mk'
theorem Fw(F:bG K "refusal" "refusal" IG f fd) (g5:GI mg "BROKEN_RULE" (-5)):QC P w K mg base bD 1 f fd ["fault","more"] (BE K):=by apply F.bM IL;rintro _ H Q E ⟨q,x,m,rfl,n,k⟩;refine⟨Z,fun _ _ _ _ _=>?_⟩;refine⟨_,Qd (Qj (QU (Qa (QP g5) (Qa (QA QV (Qy QO (pv 0) Qi (fun _ _=>rfl)) (pv 1)) (Qa (Qy QO (pv 0) Qi (fun _ _=>rfl)) Qc))))),?_⟩;exact⟨_,Z,q,_,_,_,Z,Z,bY.of n,Qm (j:=0) Z,_,Z,_,_,Z,Z,_,Z,q,_,_,_,Z,Z,bY.of n,Qm (j:=1) Z,(by show 3<=sizeLine;decide),fun z hz=>k _ _ (Qk _ hz) (by rw[Qe];rfl)⟩
inductive t8(K:xB)(vs:List V)(H:Hp)(Q:VK)(E:XK):Prop
 |mk (a:Addr) (x:xC):vs=[.ref a]->H a=some (.lst (bl x))->x.length<=16000000->(∀H' l,Qn H H'->H' l=some (.lst (.int 0::.int (x.length:Int)::bl x))->Q (.ref l) H')->t8 K vs H Q E
abbrev BH:Stmt:=top 114
theorem DB:a7 ["octets"] ["octets"] (a6 BH):=.mk'
theorem Cy(F:bG K "counted" "counted" BH f fd)(U:Txt K mg):QC P w K mg base bD 1 f fd ["octets"] (t8 K):=by
 apply F.bM DB;rintro _ H Q E ⟨a,x,rfl,n,hl,k⟩;refine⟨Z,fun _ _ _ _ _=>?_⟩;refine⟨_,Qd (Qj (QA Xm (QU (Qa Qi (Qa (Qx Qp Wg U.len Wx (Qa (pv 0) Qc)) Qc))) (pv 0))),?_⟩;refine⟨_,Z,a,_,Z,.inl (ba.of n),(by show 2<=sizeLine;decide),fun q z=>⟨_,Z,q,a,_,_,Z,Z,Qe,Qk _ z _ _ n,?_,fun l j=>?_⟩⟩
 ·rw[Ql];exact xM (show 2+x.length<=16000002 by lia) Wa
 ·refine k _ l ((Qk _ z).trans (Qk _ j)) ?_;rw[Qe,Ql];rfl
theorem j5{S:Gla.Plan}(h:UR b=.ok S):S=U5 b:=by
 unfold UR at h;repeat (split at h;cases h)
 cases h;rfl
structure um(b:xC)(x:V6):Prop where
 eq:x=Uj b (U5 (QI b))
 len:b.length=(xH b).2.2.2.2
 mag:b.take 4=G5
 plan:UR (QI b)=.ok (U5 (QI b))
 coat:∀i,i<xI b 68 4->Vl (kinds b) b ((xH b).2.2.2.1+69*i)=none
theorem j3{x:V6}(h:Qah b=.ok x):um b x:=by
 unfold Qah at h;split at h
 ·cases h
 ·split at h
  ·cases h
  ·rename_i z;split at h
   ·cases h
   ·simp only at h;split at h
    ·cases h
    ·rename_i hl;split at h
     ·cases h
     ·rename_i S j;have n:=j5 j;rw[JY] at j n;split at h
      ·cases h
      ·split at h
       ·cases h
       ·split at h
        ·cases h
        ·rename_i hf;have e:Uj b S=x:=by injection h
         refine⟨by rw[<-e,n],by lia,by simpa using z,by rw[j,n],fun i hi=>?_⟩;have:=List.findSome?_eq_none_iff.1 hf i (List.mem_range.2 hi);exact this
open PySem PySem.Spec PyProof.Rows L2 TL
def nb(b:xC):List Nat:=b.map UInt8.toNat
theorem u8{n:Nat}(h:n<256):(UInt8.ofNat n).toNat=n:=by rw[UInt8.toNat_ofNat'];lia
theorem gS{s:String}(h:∀c∈s.toList,c.toNat<256):nb (Gi s)=tl (xE s):=by rw[hG];unfold nb Gi;rw[VA];refine UN fun c hc=>?_;exact u8 (h c hc)
end Gp
namespace L2
open PySem PySem.Spec PyProof.Rows
inductive pV(K:xB)(Pm:Params)(Q:VK)(x:V)(y:V)(H2:Hp):Prop
 |mk (a:Addr) (es:Array DictEntry) (n:Nat) (z:Str) (v:V) (u:Value):x=.ref a->y=.str z->K.lookup a=some ⟨.type "dict",none,.dict es n,#[]⟩->G8 Pm es.toList->x4 K a z=some (some u)->QR v u->Q v H2->pV K Pm Q x y H2
def Ef(K:xB)(j:Params)(td ty:TE):TE:=fun σ H Q=>td σ H fun x H1=>ty σ H1 (pV K j Q x)
theorem zu{X:Cx}{o i:Expr}{pos:Pos}{td ty:TE}(F:PE X o td)(hi:PE X i ty)(G:vN i):PE X (.Subscript o i pos) (Ef X.K X.w.params td ty):=by intro aZ s σ H Q I h;refine jB PySem.F.slot_dict_getitem.lookup G (bz (F aZ s σ H _ I h) fun u J ⟨x,H1,O,U,q1⟩=>bz (hi aZ J σ H1 _ O q1) fun iv s2 h2=>?_);obtain⟨y,H2,j,ry,a,es,n,z,v,u',rfl,rfl,hl,hk,e,rv,q2⟩:=h2;obtain rfl:u=Value.ref a:=U;obtain⟨t,rfl⟩:=ry;have B:=PySem.W.mapOf_K (prog:=X.prog) (w:=X.w) j.eK hl hk;exact⟨B.typeIs,wpAny_getItem_of (strKind_is X.prog X.w z t) B (PySem.W.find_K hl e) ⟨v,H2,j.tok _,rv,q2⟩⟩
end L2
namespace Gp
open PySem PySem.Spec PyProof.Rows L2 TL
noncomputable def QN:List (String×List WA):=[("workshop",[]),("window",[(2,4)]),("point",[(2,4)]),("line",[(2,2)]),("pane",[(2,4),(2,2)]),("cut",[(5,4)]),("lead",[(5,4)]),("margin",[(1,4)]),("ways",[(1,4)]),("shelf",[(1,8)]),("sheet",[(4,4)]),("kind",[(2,4)]),("glass",[(32,2)]),("paint",[(32,2)]),("coats",[(4,1)]),("end",[])]
def Qv (rs:List WA):List Nat:=rs.flatMap fun r=>xU r.1 r.2
theorem jJ (rs:List WA) (r:WA):Qv (rs++[r])=Qv rs++xU r.1 r.2:=by simp[Qv]
structure sZ(K:xB)(Pm:Params)(mg:Str->Option Value):Prop where
 ex:∃(a:Addr)(es:Array DictEntry)(n:Nat),mg "NUMBER_RUNS" = some (.ref a)/\K.lookup a=some ⟨.type "dict",none,.dict es n,#[]⟩/\G8 Pm es.toList/\
  ∀(s:String) (rs:List WA),(s,rs)∈QN->∃(q:Addr)(as:List Addr),x4 K a (xE s)=some (some (.ref q))/\(∀H,bY K H q (as.map V.ref))/\as.length=rs.length/\
   ∀(i:Nat)(c:Addr)(r:WA),as[i]?=some c->rs[i]?=some r->∀H,bY K H c [.int (r.1:Int),.int (r.2:Int)]
theorem zU:∀s rs,(s,rs)∈QN->(Qv rs).length<=32/\(∀r∈rs,r.1<=32):=by intro s rs h;simp only[QN,GW,Prod.mk.injEq,GD,Ws]at h;rcases h with⟨_,rfl⟩|⟨_,rfl⟩|⟨_,rfl⟩|⟨_,rfl⟩|⟨_,rfl⟩|⟨_,rfl⟩|⟨_,rfl⟩|⟨_,rfl⟩|⟨_,rfl⟩|⟨_,rfl⟩|⟨_,rfl⟩|⟨_,rfl⟩|⟨_,rfl⟩|⟨_,rfl⟩|⟨_,rfl⟩|⟨_,rfl⟩<;>decide
theorem i7 (rs:List WA) (i:Nat):(Qv (rs.take i)).length<=(Qv rs).length:=by
 conv=>rhs;rw[<-Vu i rs]
 unfold Qv;grind
abbrev Kd:Stmt:=top 61
inductive CC(K:xB)(vs:List V)(H:Hp)(Q:VK)(E:XK):Prop
 |mk (s:String) (rs:List WA):vs=[.str (xE s)]->(s,rs)∈QN->(∀H' l,Qn H H'->H' l=some (.lst (ni (Qv rs)))->Q (.ref l) H')->CC K vs H Q E
theorem Aw:a7 ["word","sizes","run"] ["word"] (a6 Kd):=.mk'
theorem l0(c:Nat)(x:Nat):(xU ((c:Int).toNat) [V.int (x:Int)]).flatten=ni (xU c x):=by
 rw[Uc];induction c with
 |zero=>rfl
 |succ c j=>rw[GS,Gw,j,GS];rfl
theorem FT(F:bG K "number_sizes" "number_sizes" Kd f fd)(R:sZ K w.params mg):QC P w K mg base bD 1 f fd ["word"] (CC K):=by
 obtain⟨ad,es,nd,I,J,O,hR⟩:=R.ex;apply F.bM Aw;rintro _ H Q E ⟨sw,rs,rfl,hm,k⟩;refine⟨Z,fun _ _ _ _ _=>?_⟩;obtain⟨q,as,hn,hq,n,U⟩:=hR sw rs hm;obtain⟨aa,ab⟩:=zU sw rs hm
 refine⟨_,Qb (bA 1 Aw.nd (QU Qc))
  (Qb (QL PassesOwn.never Z (jU (zu (Xr I) (pv 0) (fun _ _=>rfl))) (b0 2 Aw.nd)
   (Qd (Zf (Xg xX GM GO ZR (pv 1) (Qa (QA rV (QU (Qa (Qy QO (pv 2) Qi (fun _ _=>rfl)) Qc)) (Qy QO (pv 2) Qi (fun _ _=>rfl))) Qc)))))
  (Qd (Qj (pv 1)))),?_⟩
 refine⟨x9 _,fun l hl=>?_⟩
 refine⟨_,Z,ad,es,nd,_,.ref q,_,Z,Z,J,O,hn,Z,q,Z,⟨_,hq _⟩,zy (K:=K) (a:=q) (xs:=as.map V.ref) (fun i σ H'=>∃v2:Option V,eC (σ=[some (.str (xE sw)),some (.ref l),v2]) (Qn H H') (H' l=some (.lst (ni (Qv (rs.take i))))))
  ⟨none,Z,Qk _ hl,Qe⟩ (fun i σ H' _ _=>hq H') ?_ ?_⟩
 ·rintro i x σ H1 hx ⟨v2,rfl,z,h1⟩;obtain⟨c,hc,rfl⟩:=Zm hx;have hi:i<rs.length:=by rw[<-n];exact (List.getElem?_eq_some_iff.1 hc).1
  have B:rs[i]?=some rs[i]:=xF hi;have G:=U i c rs[i] hc B;have sm:=ab rs[i] (xR hi);refine⟨_,Z,.inl ⟨Z,_,ba.of h1⟩,_,Z,c,_,_,_,Z,Z,G _,Qm (j:=1) Z,(by show 1<=sizeLine;decide),fun p hp=>?_⟩;refine⟨_,Z,c,_,_,_,Z,Z,G _,Qm (j:=0) Z,p,_,_,Z,Z,Qe,?_,?_,?_,fun t ht=>?_⟩
  ·lia
  ·lia
  ·rw[Uc,GQ,Qa0];exact xM sm Wa
  have lt:l≠p:=Qg h1 hp;have l2:l≠t:=Qg (by rw[Qh lt];exact h1) ht
  have ac:upd (upd H1 p (.lst [V.int ((rs[i].2:Nat):Int)])) t (.lst (xU ((rs[i].1:Nat):Int).toNat [V.int ((rs[i].2:Nat):Int)]).flatten) l=some (.lst (ni (Qv (rs.take i)))):=by rw[Qh l2,Qh lt];exact h1
  have et:Qv (rs.take (i+1))=Qv (rs.take i)++xU rs[i].1 rs[i].2:=by rw[Uh,B];exact jJ _ _
  have lb:(Qv (rs.take (i+1))).length<=32:=xM (i7 rs (i+1)) aa;refine⟨l,t,_,_,Z,Z,ac,Qe,?_,?_⟩
  ·rw[l0]
   have e2:(ni (Qv (rs.take i))).length+(ni (xU rs[i].1 rs[i].2)).length=(Qv (rs.take (i+1))).length:=by rw[et,xG];simp[ni]
   rw[e2];exact xM lb Wa
  ·refine⟨_,Z,fun b o e=>?_,?_⟩
   ·rw[Qh (Qg e hl),Qh (Qg (by rw[Qh (Qg (z _ _ e) hp)];exact z _ _ e) ht),Qh (Qg (z _ _ e) hp)];exact z _ _ e
   ·rw[Qe,l0,et];simp[ni]
 ·rintro σ H1 ⟨v2,rfl,z,h1⟩;rw[xD,n,GC]at h1;exact⟨_,Z,k H1 l z h1⟩
end Gp
namespace L2
open PySem PySem.Spec PyProof.Rows
theorem Cj{x:Str}{g:TG}{tt:TT}{te:TE}{vs:List Nat}{σ:St}{H1:Hp}{D:Addr}{I:Hp->Prop}(j:Nat->Hp->Prop) (h0:j 0 (upd H1 D (.lst [])))
  (O:∀ i c H,x.cps[i]?=some c->j i H->g (.str ⟨#[c]⟩) (ZB σ vs) H fun n H2=>ZB n vs=ZB σ vs/\tt n H2 fun b z=>
   if b=true then te n z fun y B=>∃acc,B D=some (.lst acc)/\acc.length<sizeLine/\j (i+1) (upd B D (.lst (acc++[y]))) else j (i+1) z) (hd:∀H,j x.cps.size H->I H) :
  ∃W:Nat->Nat->Hp->Prop,(∃m,W 0 m (upd H1 D (.lst [])))/\∀i m H,W i m H->
   ((E4 x).stop i H/\I H)\/((E4 x).go i H/\∃ G:Hp->Prop,(∀ H',G H'->∃ J,J<m/\W (i+1) J H')/\∀ y H',(E4 x).yld i H y H'->g y (ZB σ vs) H' fun n H2=>ZB n vs=ZB σ vs/\tt n H2 fun b z=>
    if b=true then te n z fun y B=>∃acc,B D=some (.lst acc)/\acc.length<sizeLine/\G (upd B D (.lst (acc++[y]))) else G z):=by
 refine⟨fun i m H=>m=x.cps.size-i/\i<=x.cps.size/\j i H,⟨x.cps.size,by simp,x9 _,h0⟩,?_⟩;rintro i m H ⟨rfl,hi,p⟩;by_cases F:i<x.cps.size
 ·refine .inr ⟨F,j (i+1),fun H' U=>⟨x.cps.size-(i+1),by lia,Z,F,U⟩,fun y H' q=>?_⟩;obtain⟨e,c,hc,rfl⟩:=q;subst e;exact O i c _ hc p
 ·have e:i=x.cps.size:=by lia
  subst e;exact .inl ⟨xO _,hd H p⟩
end L2
namespace Gp
open PySem PySem.Spec PyProof.Rows L2 TL
theorem An(b:xC):bl b=ni (nb b):=by simp[bl,ni,nb]
theorem oY:bootBuiltins "ord" = some (.builtin "ord"):=by decide +kernel
open PySem PySem.Spec PyProof.Rows L2
inductive qt(K:xB):List Value->List WA->Prop
 |nil:qt K [] []
 |cons {a:Addr} {r:WA} {us:List Value} {rs:List WA}:Ji K a [.int (r.1:Int),.int (r.2:Int)]->qt K us rs->qt K (Value.ref a::us) (r::rs)
theorem qt.rows:∀{us:List Value} {rs:List WA},qt K us rs->∃as:List Addr,us=as.map Value.ref/\as.length=rs.length/\∀(i:Nat)(a:Addr)(r:WA),as[i]?=some a->rs[i]?=some r->∀H,bY K H a [.int (r.1:Int),.int (r.2:Int)]
 |_,_,.nil=>⟨[],Z,Z,fun i a r h _=>by simp at h⟩
 | _,_,.cons (a:=a) h t=>by
  obtain⟨as,e,l,k⟩:=t.rows;subst e;refine⟨a::as,Z,by rw[xQ,xQ,l],fun i b r h1 h2=>?_⟩;cases i with
  |zero=>cases h1;cases h2;exact h.sq
  |succ i=>exact k i b r (by simpa using h1) (by simpa using h2)
def mh(K:xB)(a:Addr)(s:String) (rs:List WA):Prop:=∃(q:Addr) (j:Option Addr) (a8:Array Value) (n:Nat) (z:Array (Option Value)),x4 K a (xE s)=some (some (.ref q))/\K.lookup q=some ⟨.type "tuple",j,.seq a8 n,z⟩/\a8.size<=sizeLine/\qt K a8.toList rs
theorem t7{s:String} {rs:List WA} {q:Addr} {j:Option Addr} {a8:Array Value} {n:Nat} {B:Array (Option Value)} (e:x4 K a (xE s)=some (some (.ref q))) (l:K.lookup q=some ⟨.type "tuple",j,.seq a8 n,B⟩) (z:a8.size<=sizeLine) (r:qt K a8.toList rs):mh K a s rs:=⟨q,j,a8,n,B,e,l,z,r⟩
theorem pR{r:WA}{us:List Value} {rs:List WA} (h:Ji K a [.int (r.1:Int),.int (r.2:Int)]) (t:qt K us rs):qt K (Value.ref a::us) (r::rs):=.cons h t
inductive XB(K:xB)(a:Addr):List (String×List WA)->Prop
 |nil:XB K a []
 |cons {s:String} {rs:List WA} {l:List (String×List WA)}:mh K a s rs->XB K a l->XB K a ((s,rs)::l)
theorem XB.mem:∀{l:List (String×List WA)},XB K a l->∀s rs,(s,rs)∈l->mh K a s rs
 |_,.nil,s,rs,h=>by cases h
 | _,.cons h t,s,rs,m=>by
  rcases List.mem_cons.1 m with e|m
  ·lia
  ·exact t.mem s rs m
def xw(K:xB)(j:Params):Prop:=∃(a:Addr)(es:Array DictEntry)(n:Nat),x4 K mainGlobals "NUMBER_RUNS" = some (some (.ref a))/\K.lookup a=some ⟨.type "dict",none,.dict es n,#[]⟩/\G8 j es.toList/\XB K a QN
theorem pa{j:Params}{es:Array DictEntry}{n:Nat} (e:x4 K mainGlobals "NUMBER_RUNS" = some (some (.ref a))) (l:K.lookup a=some ⟨.type "dict",none,.dict es n,#[]⟩) (k:G8 j es.toList) (r:XB K a QN):xw K j:=⟨a,es,n,e,l,k,r⟩
theorem ku{s:String} {rs:List WA} {l:List (String×List WA)} (h:mh K a s rs) (t:XB K a l):XB K a ((s,rs)::l):=.cons h t
theorem xw.g{j:Params}{h:Heap}(B:K.In h)(G:h.Ns mainGlobals mg)(R:xw K j):sZ K j mg:=by obtain⟨a,es,n,e,l,k,r⟩:=R;refine⟨a,es,n,Uk B G e,l,k,fun s rs F=>?_⟩;obtain⟨q,od,a8,m,sl,I,J,z,O⟩:=r.mem s rs F;obtain⟨as,U,h1,h2⟩:=O.rows;refine⟨q,as,I,fun H=>.inr ⟨_,a8,m,J,Z,Z,z,?_⟩,h1,h2⟩;rw[U];exact Jk as
def sf(a:Addr)(i:Nat)(d:Addr):List (Str×V):=Zu "rows" (.ref d) (Zu "place" (.int (i:Int)) (Zu "text" (.ref a) []))
theorem B5(a:Addr)(i:Nat)(d:Addr):(sf a i d).lookup ("text" : Str)=some (.ref a):=by unfold sf;rw[Qu,Wh Wb,Qu,Wh Wb,Qu,Wi Z]
theorem jK(a:Addr)(i:Nat)(d:Addr):(sf a i d).lookup ("place" : Str)=some (.int (i:Int)):=by unfold sf;rw[Qu,Wh Wb,Qu,Wi Z]
theorem pk(a:Addr)(i:Nat)(d:Addr):(sf a i d).lookup ("rows" : Str)=some (.ref d):=by unfold sf;rw[Qu,Wi Z]
theorem zQ(a:Addr)(i:Nat)(d:Addr){m:Str}(h1:¬m = "rows")(h2:¬m = "place")(j:¬m = "text"):(sf a i d).lookup m=none:=by unfold sf;rw[Qu,Wh h1,Qu,Wh h2,Qu,Wh j];rfl
theorem zR(a:Addr)(i:Nat)(d:Addr):(sf a i d).length<1000:=by
 have e:(sf a i d).length=3:=by kernel_rfl
 rw[e];decide
theorem zP(a:Addr)(i j:Nat)(d:Addr):Zu "place" (.int (j:Int)) (sf a i d)=sf a j d:=by kernel_rfl
structure JZ(K:xB)(mg:Str->Option Value)(C:Addr):Prop where
 cl:pC K C
 nT:Q8 K C "text"
 nP:Q8 K C "place"
 nR:Q8 K C "rows"
 mgC:mg "Scan" = some (.ref C)
 g10:GI mg "LINE_END" 10
 g32:GI mg "BLANK" 32
 g48:GI mg "ZERO" 48
 g57:GI mg "NINE" 57
abbrev vz:Stmt:=inClass (top 91) 0
abbrev HZ:Stmt:=inClass (top 91) 1
abbrev Kq:Stmt:=inClass (top 91) 2
abbrev KP:Stmt:=inClass (top 91) 3
abbrev Kw:Stmt:=top 92
structure YM(K:xB)(C:Addr)(H:Hp)(p dx a d:Addr)(t:xC)(i:Nat):Prop where
 ins:H p=some (.ins C dx (sf a i d))
 txt:ba K H a (bl t)
def uR(t:xC)(i:Nat):V:=match t[i]? with|some c=>.int (c.toNat:Int)|none=>.bQ
inductive sd(K:xB)(C:Addr)(vs:List V)(H:Hp)(Q:VK)(E:XK):Prop
 |mk (p dx a d:Addr) (t:xC) (i n:Nat) (z:Int):vs=[.ref p,.int z]->z=(n:Int)->YM K C H p dx a d t i->Q (uR t (i+n)) H->sd K C vs H Q E
inductive wK(K:xB)(C:Addr)(vs:List V)(H:Hp)(Q:VK)(E:XK):Prop
 |mk (p dx a d:Addr) (t:xC) (i:Nat) (c:UInt8) (z:Int):vs=[.ref p,.int z]->z=(c.toNat:Int)->YM K C H p dx a d t i->(if t[i]?=some c then Q (.bl true) (upd H p (.ins C dx (sf a (i+1) d))) else Q (.bl false) H)->wK K C vs H Q E
theorem Kj:a7 ["self","distance"] ["self","distance"] (a6 HZ):=.mk'
theorem KU:a7 ["self","octet"] ["self","octet"] (a6 Kq):=.mk'
theorem DF(F:bG K "octet_ahead" "Scan.octet_ahead" HZ f fd)(T:JZ K mg C)(U:Txt K mg):QC P w K mg base bD 1 f fd ["self","distance"] (sd K C):=by
 apply F.bM Kj;rintro _ H Q E ⟨p,dx,a,d,t,i,n,z,rfl,rfl,D,k⟩;refine⟨Z,fun _ _ _ _ _=>?_⟩
 refine⟨_,Qb (QD (Qt ZE (QA QV (Qw (pv 0) Z) (pv 1)) (Qx Qp Wg U.len Wx (Qa (Qw (pv 0) Z) Qc)) (Qo _))
  (Qd (Qj (Qy QE (Qw (pv 0) Z) (QA QV (Qw (pv 0) Z) (pv 1)) (fun _ _=>rfl)))) Qq) (Qd (Qj QT)),?_⟩
 refine⟨_,Z,p,C,dx,_,_,Z,D.ins,T.cl,T.nP,jK _ _ _,_,Z,_,_,Z,Z,_,Z,p,C,dx,_,_,Z,D.ins,T.cl,T.nT,B5 _ _ _,a,_,Z,.inl D.txt,_,_,Z,Z,_,Z,?_⟩;refine Qz (fun h=>?_) (fun h=>?_)
 ·have hl:i+n<t.length:=by have:=Wj h;rw[Ql] at this;lia
  refine⟨_,Z,p,C,dx,_,_,Z,D.ins,T.cl,T.nT,B5 _ _ _,_,Z,p,C,dx,_,_,Z,D.ins,T.cl,T.nP,jK _ _ _,_,Z,_,_,Z,Z,a,_,_,_,Z,Z,D.txt,Qm (j:=i+n) (v:=.int ((t[i+n]'hl).toNat:Int)) ?_,?_⟩
  ·unfold bl;rw[xL,xF hl];rfl
  ·unfold uR at k;rw[xF hl]at k;exact k
 ·have hl:¬ i+n<t.length:=by intro q;apply h;rw[Ql];exact Wk L
  unfold uR at k;rw[Ue L]at k;exact k
def oj(t:xC)(i:Nat):PyData:=match t[i]? with|some c=>.int (c.toNat:Int)|none=>.none
theorem rF(K:xB)(H:Hp)(t:xC)(i:Nat):Dp K H (uR t i) (oj t i):=by
 unfold uR oj;cases t[i]? with
 |none=>exact .bQ
 |some c=>exact .int _
theorem lW(t:xC)(i:Nat):SeqAt.shaped (oj t i)=true:=by
 unfold oj;cases t[i]? with
 |none=>rfl
 |some c=>rfl
theorem lZ(t:xC)(i:Nat)(c:UInt8):PyData.eqv (oj t i) (.int (c.toNat:Int))=decide (t[i]?=some c):=by
 unfold oj;cases t[i]? with
 |none=>rfl
 | some b=>
  show decide ((b.toNat:Int)=(c.toNat:Int))=_;refine decide_eq_decide.2 ⟨fun e=>?_,fun e=>?_⟩
  ·rw[UInt8.toNat_inj.1 (Int.ofNat.inj e)]
  ·cases e;rfl
theorem FQ(F:bG K "takes" "Scan.takes" Kq f fd)(T:JZ K mg C) (M:XS P w K mg base C 1 "octet_ahead" ["self","distance"] (sd K C)):QC P w K mg base bD 2 f fd ["self","octet"] (wK K C):=by
 obtain⟨I,j,n,B,G⟩:=M.ex;apply F.bM KU;rintro _ H Q E ⟨p,dx,a,d,t,i,c,z,rfl,rfl,D,k⟩;refine⟨Z,fun _ _ _ _ hr=>?_⟩
 refine⟨_,Qb (QD (Qt (jX hr.units) (Q5 (pv 0) T.cl n G hr B .nil Zc (Qa Qi Qc)) (pv 1) (Qo _))
  (Qd (Qj Xh)) Qq) (Qb (Jo (pv 0) Qi j8) (Qd (Qj Xh))),?_⟩
 refine⟨_,Z,p,dx,_,Z,D.ins,zQ _ _ _ Wb Wb Wb,p,dx,a,d,t,i,0,_,Z,Z,D,_,Z,_,_,rF _ _ _ _,.int _,lW _ _,Z,_,Z,?_⟩;rw[lZ];by_cases h:t[i]?=some c
 ·rw[Wi h]at k;rw[UO,Wk h];refine Jc ?_;refine⟨_,Z,p,C,dx,_,_,Z,D.ins,T.cl,T.nP,jK _ _ _,_,_,Z,Z,dx,_,D.ins,zR _ _ _,?_⟩;rw[show((i:Int)+1)=((i+1:Nat):Int) by lia,zP];exact k
 ·rw[Wh h]at k;rw[UO,Wl h];exact ZG k
theorem tO{ws t:xC}{i j:Nat}{c:UInt8}(h1:ws[j]?=some c)(h2:t[i]?=some c):Gj (ws.drop j) (t.drop i)=Gj (ws.drop (j+1)) (t.drop (i+1))+1:=by obtain⟨n,z⟩:=List.getElem?_eq_some_iff.1 h1;obtain⟨B,F⟩:=List.getElem?_eq_some_iff.1 h2;rw[GH n,GH B,z,F];show(if c=c then _ else _)=_;lia
theorem yA{ws t:xC}{i j:Nat}(h:∀c,ws[j]?=some c->¬t[i]?=some c):Gj (ws.drop j) (t.drop i)=0:=by
 rcases Ul j ws.length with n|n
 ·rcases Ul i t.length with z | z
  ·rw[GH n,GH z];show(if ws[j]=t[i] then _ else _)=_;rw[Wh];intro e;apply h _ (xF n);grind
  ·rw[GK z];cases ws.drop j<;>rfl
 ·rw[GK n];rfl
theorem Cc{i:Nat}{c:UInt8}(h:b[i]?=some c):(bl b)[i]?=some (.int (c.toNat:Int)):=by unfold bl;rw[xL,h];rfl
inductive A8(K:xB)(C:Addr)(vs:List V)(H:Hp)(Q:VK)(E:XK):Prop
 |mk (p dx a d l:Addr) (t ws:xC) (i:Nat):vs=[.ref p,.ref l]->YM K C H p dx a d t i->ba K H l (bl ws)->Q (.int (Gj ws (t.drop i):Int)) H->A8 K C vs H Q E
theorem BN:a7 ["scan","octets","count"] ["scan","octets"] (a6 Kw):=.mk'
theorem Fm(F:bG K "agreeing_count" "agreeing_count" Kw f fd)(T:JZ K mg C)(U:Txt K mg) (M:XS P w K mg base C 1 "octet_ahead" ["self","distance"] (sd K C)):QC P w K mg base bD 2 f fd ["scan","octets"] (A8 K C):=by
 obtain⟨fm,J,O,bm,G⟩:=M.ex;apply F.bM BN;rintro _ H Q E ⟨p,dx,a,d,l,t,ws,i,rfl,D,hl,k⟩;refine⟨Z,fun _ _ _ _ hr=>?_⟩
 refine⟨_,Qb (bA 2 BN.nd Qi)
  (Qb (Yn PassesOwn.never (Y2 (Qt ZE (pv 2) (Qx Qp Wg U.len Wx (Qa (pv 1) Qc)) (Qo _))
    (XY (Qt (rX hr.units) (Q5 (pv 0) T.cl O G hr bm .nil Zc (Qa (pv 2) Qc)) (Qy QE (pv 1) (pv 2) (fun _ _=>rfl)) (Qo _)))).pt
   (Qd (Bg (i:=2) BN.nd Z (G4 Z) Qi Bm)))
  (Qd (Qj (pv 2)))),?_⟩
 refine⟨fun m σ H'=>H'=H/\∃j:Nat,σ=[some (.ref p),some (.ref l),some (.int (j:Int))]/\m=ws.length-j/\Gj ws (t.drop i)=j+Gj (ws.drop j) (t.drop (i+j)),⟨ws.length,Z,0,Z,Z,by simp⟩,?_⟩;rintro m σ H2 ⟨rfl,j,rfl,rfl,z⟩;refine⟨_,Z,_,Z,l,_,Z,.inl hl,_,_,Z,Z,_,Z,Qz (fun h1=>?_) (fun h1=>?_)⟩
 ·have B:j<ws.length:=by have:=Wj h1;rw[Ql] at this;lia
  have hw:=xF B;refine⟨_,Z,p,dx,_,Z,D.ins,zQ _ _ _ Wb Wb Wb,_,Z,p,dx,a,d,t,i,j,_,Z,Z,D,_,Z,_,Z,l,_,_,_,Z,Z,hl,Qm (j:=j) (Cc hw),_,_,rF _ _ _ _,.int _,lW _ _,Z,_,Z,?_⟩;rw[lZ];by_cases h:t[i+j]?=some (ws[j])
  ·rw[Wk h];refine ZG ?_;refine⟨fun I H'=>H'=H2/\∃n:Nat,I=[some (.ref p),some (.ref l),some (.int (n:Int))]/\ws.length-(j+1)=ws.length-n/\Gj ws (t.drop i)=n+Gj (ws.drop n) (t.drop (i+n)),fun I H' h=>⟨ws.length-(j+1),by lia,h⟩,?_⟩;refine⟨_,Z,_,_,Z,Z,Z,j+1,Z,Z,?_⟩;rw[z,tO hw h,Gx i j 1];lia
  ·rw[Wl h];refine Jc ?_;rw[z,yA (fun c hc=>by rw[hw]at hc;cases hc;exact h),UO]at k;exact⟨_,Z,k⟩
 ·have B:ws.length<=j:=by
   rcases Ul j ws.length with q|q
   ·refine Wm (Wk ?_) h1;rw[Ql];lia
   ·exact q
  rw[z,yA (fun c hc=>by rw[Ue B]at hc;cases hc),UO]at k;exact Jc ⟨_,Z,k⟩
theorem ba.oI{H H':Hp}{p dx C a:Addr} {fs:List (Str×V)} {xs:List V} (k:cF p H H') (j:H p=some (.ins C dx fs)) (h:ba K H a xs):ba K H' a xs:=by
 rcases h with(h|⟨o,h⟩)|h
 ·exact .inl (.inl (k _ _ h (YI h j (by intro z;cases z))))
 ·exact .inl (.inr ⟨o,k _ _ h (YI h j (by intro z;cases z))⟩)
 ·exact .inr h
theorem YM.go{C p dx a d:Addr}{H H':Hp}{i j:Nat}(D:YM K C H p dx a d t i)(k:cF p H H') (e:H' p=some (.ins C dx (sf a j d))):YM K C H' p dx a d t j:=
 ⟨e,ba.oI k D.ins D.txt⟩
theorem cF.refl(p:Addr)(H:Hp):cF p H H:=fun _ _ e _=>e
theorem cF.trans{p:Addr}{H H1 H2:Hp}(a:cF p H H1)(b:cF p H1 H2):cF p H H2:=fun x o e n=>b _ _ (a _ _ e n) n
theorem cF.upd{p:Addr}{H:Hp}{o:HO}:cF p H (upd H p o):=fun x o' e n=>by rw[Qh n];exact e
def vF:Option Nat->V|none=>.bQ|some n=>.int (n:Int)
def Io:Option Nat->PyData|none=>.none|some n=>.int (n:Int)
theorem pG(K:xB)(H:Hp)(v:Option Nat):Dp K H (vF v) (Io v):=by
 cases v with
 |none=>exact .bQ
 |some n=>exact .int _
theorem rZ(v:Option Nat):SeqAt.shaped (Io v)=true:=by cases v<;>rfl
theorem Av(v:Option Nat):PyData.eqv (Io v) (.int 0)=decide (v=some 0):=by
 cases v with
 |none=>rfl
 | some n=>
  show decide ((n:Int)=0)=_;refine decide_eq_decide.2 ⟨fun e=>?_,fun e=>?_⟩
  ·grind
  ·cases e;rfl
abbrev Km:Stmt:=top 96
inductive vU(K:xB)(C:Addr)(vs:List V)(H:Hp)(Q:VK)(E:XK):Prop
 |mk (p dx a d:Addr) (t:xC) (i m:Nat) (z:Int):vs=[.ref p,.int z]->z=(m:Int)->YM K C H p dx a d t i->(∀H',H' p=some (.ins C dx (sf a (i+(Pl.cB m (t.drop i)).2) d))->cF p H H'->Q (vF (Pl.cB m (t.drop i)).1) H')->vU K C vs H Q E
theorem uB:a7 ["scan","largest","number","octet","longer"] ["scan","largest"] (a6 Km):=.mk'
theorem tS{m:Nat}{v:Option Nat}{i:Nat}(h:t[i]?=none):Pl.cg m v (t.drop i)=(v,0):=by rw[GK (List.getElem?_eq_none_iff.1 h)];rfl
theorem ow{m:Nat}{v:Option Nat}{i:Nat}{c:UInt8}(h:t[i]?=some c):Pl.cg m v (t.drop i)=if Vy c=false then(v,0) else
  if v=some 0\/m<10*v.getD 0+(c.toNat-48) then(v,0) else((Pl.cg m (some (10*v.getD 0+(c.toNat-48))) (t.drop (i+1))).1,(Pl.cg m (some (10*v.getD 0+(c.toNat-48))) (t.drop (i+1))).2+1):=by
 obtain⟨l,e⟩:=List.getElem?_eq_some_iff.1 h;rw[GH l,e];rfl
theorem F'(F:bG K "take_number" "take_number" Km f fd)(T:JZ K mg C) (M:XS P w K mg base C 1 "octet_ahead" ["self","distance"] (sd K C)):QC P w K mg base bD 2 f fd ["scan","largest"] (vU K C):=by
 obtain⟨fm,aa,hm,bm,G⟩:=M.ex;apply F.bM uB;rintro _ H Q E ⟨p,dx,a,d,t,i,m,z,rfl,rfl,D,k⟩;refine⟨Z,fun _ _ _ _ hr=>?_⟩
 refine⟨_,Qb (bA 2 uB.nd QT)
  (Qd (Yn PassesOwn.never (Zd Xh)
   (Qb (bA 3 uB.nd (Q5 (pv 0) T.cl hm G hr bm .nil Zc (Qa Qi Qc)))
   (Qb (QD (Xq (Q7 (Y7 (pv 3))) (Xq (Qt ZE (pv 3) (QP T.g48) (Qo _)) (ZM (Qt Zn (pv 3) (QP T.g57) (Qo _))))).pt (Qd (Qj (pv 2))) Qq)
   (Qb (bA 4 uB.nd (QA Xl (QA QV (XI (Q7 (Y7 (pv 2))) Qi (QA ZN (pv 2) Qi)) (pv 3)) (QP T.g48)))
   (Qb (QD (Xq (Qt (rX hr.units) (pv 2) Qi (Qo _)) (ZM (Qt Zn (pv 4) (pv 1) (Qo _)))).pt (Qd (Qj (pv 2))) Qq)
   (Qb (bA 2 uB.nd (pv 4))
   (Qd (Jo (pv 0) Qi j8))))))))),?_⟩
 refine⟨fun q σ H'=>∃(n:Nat)(v:Option Nat)(O U:Option V),σ=[some (.ref p),some (.int (m:Int)),some (vF v),O,U]/\H' p=some (.ins C dx (sf a (i+n) d))/\cF p H H'/\q=t.length-(i+n)/\
   Pl.cB m (t.drop i)=((Pl.cg m v (t.drop (i+n))).1,n+(Pl.cg m v (t.drop (i+n))).2),⟨_,0,none,none,none,Z,D.ins,cF.refl _ _,Z,by simp[Pl.cB]⟩,?_⟩
 rintro q σ H2 ⟨n,v,O,U,rfl,hp,hb,rfl,tn⟩;have D2:=D.go hb hp;refine⟨_,Z,ZG ?_⟩
 refine⟨fun dA H'=>∃(J:Nat)(v:Option Nat)(O U:Option V),dA=[some (.ref p),some (.int (m:Int)),some (vF v),O,U]/\H' p=some (.ins C dx (sf a (i+J) d))/\cF p H H'/\t.length-(i+n+1)=t.length-(i+J)/\i+n<t.length/\
   Pl.cB m (t.drop i)=((Pl.cg m v (t.drop (i+J))).1,J+(Pl.cg m v (t.drop (i+J))).2),fun dA H' ⟨J,v,O,U,e1,e2,e3,e4,e5,e6⟩=>⟨t.length-(i+n+1),by lia,J,v,O,U,e1,e2,e3,e4,e6⟩,?_⟩
 refine⟨_,Z,p,dx,_,Z,hp,zQ _ _ _ Wb Wb Wb,p,dx,a,d,t,i+n,0,_,Z,Z,D2,?_⟩
 have stop:Pl.cg m v (t.drop (i+n))=(v,0)->Q (vF v) H2:=fun e=>by
  grind
 cases hc:t[i+n]? with
 | none=>
  have st:=stop (tS hc);have e:uR t (i+n+0)=.bQ:=by unfold uR;rw[UO,hc]
  rw[e];refine⟨_,Z,_,Z,?_⟩;exact ZG (ZG ⟨_,Z,st⟩)
 | some c=>
  have e:uR t (i+n+0)=.int (c.toNat:Int):=by unfold uR;rw[UO,hc]
  rw[e];refine⟨_,Z,_,Z,Jc ?_⟩;have j:=ow (m:=m) (v:=v) hc;have lt:i+n<t.length:=(List.getElem?_eq_some_iff.1 hc).1;refine⟨_,Z,_,_,Z,Z,_,Z,Qz (fun h1=>?_) (fun h1=>?_)⟩
  ·have h1:=Wj h1
   have nd:Vy c=false:=by unfold Vy;lia
   rw[Wi nd]at j;exact ZG ⟨_,Z,stop j⟩
  ·have h1:¬ ((c.toNat:Int)<48):=fun q=>h1 (Wk q);refine⟨_,Z,_,_,Z,Z,_,Z,Qz (fun h2=>?_) (fun h2=>?_)⟩
   ·have h2:=Wj h2
    have nd:Vy c=false:=by unfold Vy;lia
    rw[Wi nd]at j;exact⟨_,Z,stop j⟩
   ·have h2:¬ ((57:Int)<(c.toNat:Int)):=fun q=>h2 (Wk q)
    have yd:Vy c=true:=by unfold Vy;grind
    rw[Wh (by rw[yd];simp)]at j;cases v with
    | none=>
     refine⟨_,Z,_,Z,ZG ⟨_,Z,_,_,Z,Z,_,_,Z,Z,?_⟩⟩;refine⟨_,Z,_,_,pG _ _ none,.int _,rZ _,Z,_,Z,?_⟩;rw[Av];refine Qz (fun I=>?_) (fun I=>?_)
     ·lia
     ·have I:¬ (none:Option Nat)=some 0:=fun q=>I (Wk q);refine⟨_,Z,_,Z,_,_,Z,Z,_,Z,Qz (fun B=>?_) (fun B=>?_)⟩
      ·have B:=Wj B;rw[Wi (.inr (by simp only[Vg];lia))]at j;exact⟨_,Z,stop j⟩
      ·have B:¬ ((m:Int)<0+(c.toNat:Int)-48):=fun q=>B (Wk q)
       rw[Wh (by
        intro q;rcases q with q|q
        ·exact I q
        ·exact B (by simp only[Vg]at q;lia))]at j
       refine⟨_,Z,_,Z,p,C,dx,_,_,Z,hp,T.cl,T.nP,jK _ _ _,_,_,Z,Z,dx,_,hp,zR _ _ _,?_⟩;refine⟨n+1,some (0+(c.toNat-48)),some (.int (c.toNat:Int)),some (.int (0+(c.toNat:Int)-48)),?_,?_,hb.trans cF.upd,Z,lt,?_⟩
       ·rw[show(vF (some (0+(c.toNat-48))))=.int (0+(c.toNat:Int)-48) from Wn V.int L];rfl
       ·rw[Qe,show(((i+n:Nat):Int)+1)=((i+(n+1):Nat):Int) by lia,zP]
       ·rw[tn,j];simp only[Vg,Vh,Nat.mul_zero,U9,Gx];rw[U7 1]
    | some u=>
     refine⟨_,Z,_,Z,Jc ⟨_,Z,_,_,Z,Z,.inr ⟨by decide,by decide⟩,_,Z,_,_,Z,Z,_,_,Z,Z,?_⟩⟩;refine⟨_,Z,_,_,pG _ _ (some u),.int _,rZ _,Z,_,Z,?_⟩;rw[Av];refine Qz (fun I=>?_) (fun I=>?_)
     ·rw[Wi (.inl (Wj I))]at j;exact ZG ⟨_,Z,stop j⟩
     ·have I:¬ ((some u):Option Nat)=some 0:=fun q=>I (Wk q);refine⟨_,Z,_,Z,_,_,Z,Z,_,Z,Qz (fun B=>?_) (fun B=>?_)⟩
      ·have B:=Wj B;rw[Wi (.inr (by simp only[Vh];lia))]at j;exact⟨_,Z,stop j⟩
      ·have B:¬ ((m:Int)<(u:Int)*10+(c.toNat:Int)-48):=fun q=>B (Wk q)
       rw[Wh (by
        intro q;rcases q with q|q
        ·exact I q
        ·exact B (by simp only[Vh]at q;lia))]at j
       refine⟨_,Z,_,Z,p,C,dx,_,_,Z,hp,T.cl,T.nP,jK _ _ _,_,_,Z,Z,dx,_,hp,zR _ _ _,?_⟩;refine⟨n+1,some (10*u+(c.toNat-48)),some (.int (c.toNat:Int)),some (.int ((u:Int)*10+(c.toNat:Int)-48)),?_,?_,hb.trans cF.upd,Z,lt,?_⟩
       ·rw[show(vF (some (10*u+(c.toNat-48))))=.int ((u:Int)*10+(c.toNat:Int)-48) from Wn V.int L];rfl
       ·rw[Qe,show(((i+n:Nat):Int)+1)=((i+(n+1):Nat):Int) by lia,zP]
       ·rw[tn,j];simp only[Vg,Vh,Nat.mul_zero,U9,Gx];rw[U7 1]
end Gp
namespace L2
open PySem PySem.Spec PyProof.Rows
def XC:List DictEntry->Prop
 |[]=>True
 |e::r=>(∃x t,e.key=.int x t/\e.hash=hashInt x)/\XC r
theorem XC.all{l:List DictEntry}(h:XC l):∀e∈l,∃x t,e.key=.int x t/\e.hash=hashInt x:=by
 induction l with
 |nil=>intro e m;cases m
 | cons a l j=>
  intro e m;rcases List.mem_cons.1 m with rfl|m
  ·exact h.1
  ·exact j h.2 e m
inductive mK(K:xB)(Q:VK)(x:V)(y:V)(H2:Hp):Prop
 |mk (a:Addr) (es:Array DictEntry) (n:Nat) (z:Int) (v:V) (u:Value):x=.ref a->y=.int z->K.lookup a=some ⟨.type "dict",none,.dict es n,#[]⟩->XC es.toList->findBy Value.isInt es z=some u->QR v u->Q v H2->mK K Q x y H2
def AH(K:xB)(td ty:TE):TE:=fun σ H Q=>td σ H fun x H1=>ty σ H1 (mK K Q x)
theorem fU{X:Cx}{o i:Expr}{pos:Pos}{td ty:TE}(F:PE X o td)(hi:PE X i ty)(G:vN i):PE X (.Subscript o i pos) (AH X.K td ty):=by
 intro aZ s σ H Q I h;refine jB PySem.F.slot_dict_getitem.lookup G (bz (F aZ s σ H _ I h) fun u J ⟨x,H1,O,U,q1⟩=>bz (hi aZ J σ H1 _ O q1) fun iv s2 h2=>?_);obtain⟨y,H2,j,ry,a,es,n,z,v,u',rfl,rfl,hl,hk,e,rv,q2⟩:=h2;obtain rfl:u=Value.ref a:=U;obtain⟨t,rfl⟩:=ry
 have B:s2.heap.MapOf (intKind X.prog X.w) a (fun k=>findBy Value.isInt es k):=⟨_,es,n,j.eK _ _ hl,⟨Z,Z,Z⟩,Z,fun e he=>by
  obtain⟨x,t,e1,e2⟩:=hk.all e (Array.mem_toList_iff.mpr he);exact⟨x,by rw[e1];exact intKind_is X.prog X.w x t,e2⟩,fun _=>rfl⟩
 exact⟨B.typeIs,wpAny_getItem_of (intKind_is X.prog X.w z t) B e ⟨v,H2,j.tok _,rv,q2⟩⟩
end L2
namespace Gp
open PySem PySem.Spec PyProof.Rows L2
abbrev HP:Stmt:=top 3
inductive rR(vs:List V)(H:Hp)(Q:VK)(E:XK):Prop
 |mk (n s:Nat) (y z:Int):vs=[.int y,.int z]->y=(n:Int)->z=(s:Int)->s<=1000->(∀H' l,Qn H H'->H l=none->H' l=some (.lst (bl (Gk s n)))->Q (.ref l) H')->rR vs H Q E
theorem vo:a7 ["number","size","octets","rest"] ["number","size"] (a6 HP):=.mk'
theorem FU(F:bG K "octets_of" "octets_of" HP f fd)(U:Txt K mg):QC P w K mg base bD 1 f fd ["number","size"] rR:=by
 apply F.bM vo;rintro _ H Q E ⟨n,sz,y,z,rfl,rfl,rfl,sm,k⟩;refine⟨Z,fun _ _ _ _ _=>?_⟩
 refine⟨_,Qb (bA 2 vo.nd (QU Qc))
  (Qb (bA 3 vo.nd (pv 0))
  (Qb (Yn PassesOwn.never (Qt ZE (Qx Qp Wg U.len Wx (Qa (pv 2) Qc)) (pv 1) (Qo _))
   (Qb (Zf (Xg xX GA GB ZD (pv 2) (Qa (QA CS (pv 3) Qi) Qc)))
   (Qd (bA 3 vo.nd (QA wo (pv 3) Qi)))))
  (Qd (Qj (pv 2))))),?_⟩
 refine⟨x9 _,fun l hl=>?_⟩;have J:=Qk (.lst []) hl;refine⟨_,Z,?_⟩
 refine⟨fun m σ H'=>∃(b:xC)(r:Nat),σ=[some (.int (n:Int)),some (.int (sz:Int)),some (.ref l),some (.int (r:Int))]/\Qn H H'/\H' l=some (.lst (bl b))/\b.length<=sz/\m=sz-b.length/\Gk sz n=b++Gk (sz-b.length) r,
  ⟨_,[],n,Z,J,Qe,x9 _,Z,by simp⟩,?_⟩
 rintro m σ H2 ⟨b,r,rfl,B,h2,O,rfl,e⟩;refine⟨_,Z,l,_,Z,.inl (ba.of h2),_,Z,_,_,Z,Z,_,Z,Qz (fun h1=>?_) (fun h1=>?_)⟩
 ·have h1:b.length<sz:=by have:=Wj h1;rw[Ql] at this;lia
  refine⟨fun G H'=>∃(j:xC)(r:Nat),G=[some (.int (n:Int)),some (.int (sz:Int)),some (.ref l),some (.int (r:Int))]/\Qn H H'/\H' l=some (.lst (bl j))/\j.length<=sz/\sz-(b.length+1)=sz-j.length/\Gk sz n=j++Gk (sz-j.length) r,
   fun G H' h=>⟨sz-(b.length+1),by lia,h⟩,?_⟩
  have I:(((UInt8.ofNat (r%256)).toNat:Nat):Int)=(r:Int)%256:=by rw[UInt8.toNat_ofNat'];lia
  refine⟨_,Z,.inl ⟨Z,_,ba.of h2⟩,_,Z,_,_,Z,Z,(by show(0:Int)<256;decide),l,_,_,Z,Z,h2,?_,?_⟩
  ·rw[Ql];exact x3 h1 (xM sm Wa)
  ·refine⟨_,Z,_,_,Z,Z,⟨by decide,by decide⟩,b++[UInt8.ofNat (r%256)],r/256,Z,?_,?_,?_,?_,?_⟩
   ·intro x o q;rw[Qh (Qg q hl)];exact B _ _ q
   ·rw[Qe];unfold bl;grind
   ·grind
   ·grind
   ·rw[e,xG,GQ,show sz-b.length=(sz-(b.length+1))+1 by lia];simp[Gk]
 ·have h1:b.length=sz:=by
   rcases Ul b.length sz with q|q
   ·refine Wm (Wk ?_) h1;rw[Ql];lia
   ·lia
  refine⟨_,Z,k _ _ B hl ?_⟩;rw[e,h1,Nat.sub_self,h2];simp[Gk]
def lg(s:Nat):Nat:=256 ^ s-1
structure r9(K:xB)(mg:Str->Option Value):Prop where
 ex:∃(a:Addr)(es:Array DictEntry)(n:Nat),mg "LARGEST" = some (.ref a)/\K.lookup a=some ⟨.type "dict",none,.dict es n,#[]⟩/\XC es.toList/\∀s∈[1,2,4,8],∃k,findBy Value.isInt es ((s:Nat):Int)=some (.int (lg s:Int) k)
def enc:List Nat->List Nat->xC
 |s::ss,x::xs=>Gk s x++enc ss xs
 |_,_=>[]
def uN(xs:List Nat)(n:Nat):Option (List Nat)×Nat->Option (List Nat)×Nat
 |(some ys,j)=>(some (xs++ys),n+j)
 |(none,j)=>(none,n+j)
abbrev Bw:Stmt:=top 97
inductive sk(K : xB)(C : Addr)(vs : List V)(H : Hp)(Q : VK)(E : XK) : Prop
  | mk (p dx a d l : Addr) (t : xC) (i : Nat) (ss : List Nat) : vs = [.ref p, .ref l] -> YM K C H p dx a d t i -> ba K H l (ni ss) -> ((∀ s ∈ ss, s ∈ [1, 2, 4, 8])) -> ss.length <= 32 -> (∀ H', H' p = some (.ins C dx (sf a (i + (Pl.bg (ss.map lg) (t.drop i)).2) d)) -> cF p H H' ->
    match (Pl.bg (ss.map lg) (t.drop i)).1 with
    |some xs => ∀o, H o=none->H' o=some (.lst (bl (enc ss xs)))->Q (.ref o) H'
    |none => Q .bQ H')->sk K C vs H Q E
theorem ib:a7 ["scan","sizes","octets","index","size","number"] ["scan","sizes"] (a6 Bw):=.mk'
theorem fN:∀{j xs:List Nat} (s x:Nat),xs.length=j.length->enc (j++[s]) (xs++[x])=enc j xs++Gk s x
 |[],[],s,x,_=>by simp[enc]
 | a::j,b::xs,s,x,h=>by
  simp only[xQ]at h;show Gk a b++enc (j++[s]) (xs++[x])=(Gk a b++enc j xs)++Gk s x;rw[fN s x L,GV]
theorem Xn:∀(s n:Nat),(Gk s n).length=s
 |0,_=>rfl
 | s+1,n=>by
  show(_::Gk s (n/256)).length=s+1;rw[xQ,Xn s]
theorem xo:∀(j xs:List Nat),(∀s∈j,s<=8)->(enc j xs).length<=8*j.length
 |[],_,_=>by simp[enc]
 |s::j,[],_=>by simp[enc]
 | s::j,x::xs,h=>by
  show(Gk s x++enc j xs).length<=_;rw[xG,Xn,xQ];have h1:=h s We;have h2:=xo j xs fun z hz=>h z (by simp[hz]);lia
theorem ke(m:Nat)(r:List Nat)(t:xC):Pl.bg (m::r) t=match Pl.cB m t with
  |(none,k)=>(none,k)
  |(some v,k)=>if(t.drop k).head?=some (if r=[] then 10 else 32) then uN [v] (k+1) (Pl.bg r (t.drop (k+1))) else(none,k):=by
 conv=>lhs;unfold Pl.bg
 rcases Pl.cB m t with⟨v|v,k⟩
 ·rfl
 ·simp only;by_cases q:(t.drop k).head?=some (if r=[] then 10 else 32)
  ·rw[Wi q,Wi q];rcases Pl.bg r (t.drop (k+1)) with⟨v|v,j⟩<;>rfl
  lia
theorem mO(xs ys:List Nat)(n m:Nat) (r:Option (List Nat)×Nat):uN xs n (uN ys m r)=uN (xs++ys) (n+m) r:=by
 rcases r with⟨v|v,j⟩
 ·show(none,n+(m+j))=(none,n+m+j);lia
 ·show(some (xs++(ys++v)),n+(m+j))=(some (xs++ys++v),n+m+j);grind
theorem Ap{n:List Nat}{j:Nat}{x:V} (h:(ni n)[j]?=some x):∃s,n[j]?=some s/\x=.int (s:Int):=by unfold ni at h;grind
theorem A4(F:bG K "take_numbers" "take_numbers" Bw f fd)(T:JZ K mg C)(U:Txt K mg)(aB:r9 K mg) (M:XS P w K mg base C 2 "takes" ["self","octet"] (wK K C))
  (TN:bu P w K mg base 2 "take_number" ["scan","largest"] (vU K C)) (OO:bu P w K mg base 1 "octets_of" ["number","size"] rR):QC P w K mg base bD 3 f fd ["scan","sizes"] (sk K C):=by
 obtain⟨fm,aA,hm,bm,G⟩:=M.ex;obtain⟨aL,es,nL,av,aw,ax,hL⟩:=aB.ex;apply F.bM ib;rintro _ H Q E ⟨p,dx,a,d,l,t,i,B,rfl,D,hl,h8,ah,k⟩;refine⟨Z,fun _ _ _ _ hr=>?_⟩
 refine⟨_,Qb (bA 2 ib.nd (QU Qc))
  (Qb (QL PassesOwn.never Z (qa Z U.enum (Qa (pv 1) Qc) (zt Qi jT)) (ZF (n:=2) Z (QF (b0 3 ib.nd) (QF (b0 4 ib.nd) Zl)))
   (Qb (bA 5 ib.nd (Qs TN hr (Qa (pv 0) (Qa (fU (Xr av) (pv 4) (fun _ _=>rfl)) Qc))))
   (Qb (QD (Xq (Q7 (Y7 (pv 5))) (ZM (X7 (Zd (Q5 (pv 0) T.cl hm G hr bm .nil Zc (Qa (XI (Qt XM (pv 3) (Qx Qp Wg U.len Wx (Qa (pv 1) Qc)) (Qo _)) (QP T.g10) (QP T.g32)) Qc)))))).pt (Qd (Qj QT)) Qq)
   (Qd (Zf (Xg xX GM GO ZR (pv 2) (Qa (Qs OO (hr.mono Wa) (Qa (pv 5) (Qa (pv 4) Qc))) Qc)))))))
  (Qd (Qj (pv 2)))),?_⟩
 refine⟨x9 _,fun o ho=>?_⟩;have s0:=Qk (.lst []) ho;have po:p≠o:=Qg D.ins ho
 refine⟨_,Z,l,1,_,Z,Z,by decide,s0.seq hl,Jw (K:=K) (a:=l) (c:=1) (xs:=ni B) (fun j σ H'=>∃(xs:List Nat)(n:Nat)(v3 v4 v5:Option V),σ=[some (.ref p),some (.ref l),some (.ref o),v3,v4,v5]/\H' p=some (.ins C dx (sf a (i+n) d))/\cF p H H'/\
   H' o=some (.lst (bl (enc (B.take j) xs)))/\ba K H' l (ni B)/\xs.length=j/\Pl.bg (B.map lg) (t.drop i)=uN xs n (Pl.bg ((B.drop j).map lg) (t.drop (i+n))))
  ⟨[],0,none,none,none,Z,by rw[Qh po];exact D.ins,fun b u e _=>s0 _ _ e,by rw[Qe];rfl,s0.seq hl,Z,?_⟩ (fun _ _ _ _ ⟨_,_,_,_,_,_,_,_,_,q,_⟩=>q) ?_ ?_⟩
 ·rw[UO,G6];rcases Pl.bg (B.map lg) (t.drop i) with ⟨v | v,j⟩
  ·show _=(none,0+j);rw[U9]
  ·show _=(some ([]++v),0+j);rw[U9];rfl
 ·rintro j x σ H1 H2 hx ⟨xs,n,v3,v4,v5,rfl,ai,uY,ab,an,af,e⟩ sm;obtain⟨sz,hsz,rfl⟩:=Ap hx;have hj:j<B.length:=(List.getElem?_eq_some_iff.1 hsz).1;have ac:sz∈[1,2,4,8]:=h8 _ (x6 hsz);obtain⟨kk,ay⟩:=hL sz ac;have ao:cF p H H2:=fun b u q nb=>sm _ _ (uY _ _ q nb);have D2:YM K C H2 p dx a d t (i+n):=D.go ao (sm _ _ ai);refine⟨_,Z,_,Z,aL,es,nL,_,.int (lg sz:Int),_,Z,Z,aw,ax,ay,⟨kk,Z⟩,p,dx,a,d,t,i+n,lg sz,_,Z,Z,D2,fun H3 J aj=>?_⟩
  have I:Pl.bg ((B.drop j).map lg) (t.drop (i+n))=match Pl.cB (lg sz) (t.drop (i+n)) with
    |(none,k)=>(none,k)
    |(some v,k)=>if((t.drop (i+n)).drop k).head?=some (if j+1=B.length then 10 else 32) then uN [v] (k+1) (Pl.bg ((B.drop (j+1)).map lg) ((t.drop (i+n)).drop (k+1))) else(none,k):=by
   rw[GH hj,xV,(List.getElem?_eq_some_iff.1 hsz).2,ke]
   have ie:((B.drop (j+1)).map lg=[])=(j+1=B.length):=by rw[List.map_eq_nil_iff,List.drop_eq_nil_iff];lia
   simp only[ie]
  have O:cF p H H3:=ao.trans aj;have aq:H3 o=some (.lst (bl (enc (B.take j) xs))):=aj _ _ (sm _ _ ab) po.symm;have az:ba K H3 l (ni B):=ba.oI aj D2.ins (sm.seq an);rcases hq:Pl.cB (lg sz) (t.drop (i+n)) with⟨v|v,c⟩
  ·rw[hq]at J I;simp only at J I;rw[I]at e;have e':Pl.bg (B.map lg) (t.drop i)=(none,n+c):=e;have kk:=k H3 (by rw[e',<-Gx];exact J) O;rw[e']at kk;exact⟨_,Z,_,Z,ZG (ZG kk)⟩
  ·rw[hq] at J I;simp only at J I;have D3:YM K C H3 p dx a d t (i+n+c):=D.go O J
   have hd:((t.drop (i+n)).drop c).head?=t[i+n+c]?:=by rw[G7,List.head?_drop]
   rw[hd]at I;refine⟨_,Z,_,Z,Jc ?_⟩;refine⟨_,Z,p,dx,_,Z,J,zQ _ _ _ Wb Wb Wb,_,Z,_,Z,l,_,Z,.inl az,Z,_,Z,?_⟩;have ag:(ni B).length=B.length:=by unfold ni;rw[xD]
   have au:Pl.bg ((B.drop j).map lg) (t.drop (i+n))=uN [v] (c+1) (Pl.bg ((B.drop (j+1)).map lg) ((t.drop (i+n)).drop (c+1)))->∀H5 b,Qn (upd H3 p (.ins C dx (sf a (i+n+c+1) d))) H5->H5 b=some (.lst (bl (Gk sz v)))->
     ∃(ak:List Nat)(n':Nat)(v3 v4 v5:Option V),[some (V.ref p),some (V.ref l),some (V.ref o),some (V.int ((j+1:Nat):Int)),some (V.int (sz:Int)),some (vF (some v))]=[some (.ref p),some (.ref l),some (.ref o),v3,v4,v5]/\upd H5 o (.lst (bl (enc (B.take j) xs)++bl (Gk sz v))) p=some (.ins C dx (sf a (i+n') d))/\cF p H (upd H5 o (.lst (bl (enc (B.take j) xs)++bl (Gk sz v))))/\
      upd H5 o (.lst (bl (enc (B.take j) xs)++bl (Gk sz v))) o=some (.lst (bl (enc (B.take (j+1)) ak)))/\ba K (upd H5 o (.lst (bl (enc (B.take j) xs)++bl (Gk sz v)))) l (ni B)/\ak.length=j+1/\Pl.bg (B.map lg) (t.drop i)=uN ak n' (Pl.bg ((B.drop (j+1)).map lg) (t.drop (i+n'))):=fun I H5 b s5 aa=>by
    have but:cF p H (upd H5 o (.lst (bl (enc (B.take j) xs)++bl (Gk sz v)))):=fun x u q nx=>by
     rw[Qh (Qg q ho)];exact s5 _ _ (by rw[Qh nx];exact O _ _ q nx)
    refine⟨xs++[v],n+(c+1),_,_,_,Z,?_,but,?_,ba.oI but D.ins hl,by rw[xG,af];rfl,?_⟩
    ·rw[Qh po,<-Gx,<-Gx];exact s5 _ _ Qe
    ·have lt:(B.take j).length=j:=by rw[Go];lia
     rw[Qe,Uh,hsz];show _=some (HO.lst (bl (enc (B.take j++[sz]) (xs++[v]))));rw[fN sz v (by rw[lt];exact af)];unfold bl;grind
    ·rw[e,I,mO,G7,Gx i n (c+1)]
   have s8:∀z∈[1,2,4,8],z<=8:=by decide
   have bQ:Pl.bg ((B.drop j).map lg) (t.drop (i+n))=(none,c)->Q .bQ H3:=fun I=>by
    rw[I]at e;have e':Pl.bg (B.map lg) (t.drop i)=(none,n+c):=e;have kk:=k H3 (by rw[e',<-Gx];exact J) O;lia
   refine Qz (fun hz=>?_) (fun hz=>?_)
   ·have hz:j+1=B.length:=by have:=Wj hz;rw[ag] at this;have:=V.int.inj this;lia
    refine⟨p,dx,a,d,t,i+n+c,10,_,Z,Z,D3,?_⟩;by_cases ht:t[i+n+c]?=some 10
    ·rw[Wi ht];rw[Wi hz,Wi ht] at I;refine⟨_,Z,Jc ?_⟩;have ad:upd H3 p (.ins C dx (sf a (i+n+c+1) d)) o=some (.lst (bl (enc (B.take j) xs))):=by rw[Qh po.symm];exact aq
     refine⟨_,Z,.inl ⟨Z,_,ba.of ad⟩,_,Z,_,Z,v,sz,_,_,Z,Z,Z,xM (s8 _ ac) Wa,fun H5 b s5 _ aa=>?_⟩;refine⟨o,b,_,_,Z,Z,s5 _ _ ad,aa,?_,?_⟩
     ·rw[Ql,Ql,Xn];have q1:=xo (B.take j) xs fun z hz=>s8 _ (h8 z (Up hz));have q2:(B.take j).length<=32:=xM (by rw[Go];exact Qac _ _) ah;have q3:=s8 _ ac;exact xM (show _<=264 by lia) Wa
     ·exact au I H5 b s5 aa
    ·rw[Wh ht];rw[Wi hz,Wh ht]at I;exact⟨_,Z,ZG (bQ I)⟩
   ·have hz:¬ j+1=B.length:=by intro q;apply hz;rw[ag,q];exact Wk rfl
    refine⟨p,dx,a,d,t,i+n+c,32,_,Z,Z,D3,?_⟩;by_cases ht:t[i+n+c]?=some 32
    ·rw[Wi ht];rw[Wh hz,Wi ht] at I;refine⟨_,Z,Jc ?_⟩;have ad:upd H3 p (.ins C dx (sf a (i+n+c+1) d)) o=some (.lst (bl (enc (B.take j) xs))):=by rw[Qh po.symm];exact aq
     refine⟨_,Z,.inl ⟨Z,_,ba.of ad⟩,_,Z,_,Z,v,sz,_,_,Z,Z,Z,xM (s8 _ ac) Wa,fun H5 b s5 _ aa=>?_⟩;refine⟨o,b,_,_,Z,Z,s5 _ _ ad,aa,?_,?_⟩
     ·rw[Ql,Ql,Xn];have q1:=xo (B.take j) xs fun z hz=>s8 _ (h8 z (Up hz));have q2:(B.take j).length<=32:=xM (by rw[Go];exact Qac _ _) ah;have q3:=s8 _ ac;exact xM (show _<=264 by lia) Wa
     ·exact au I H5 b s5 aa
    ·rw[Wh ht];rw[Wh hz,Wh ht]at I;exact⟨_,Z,ZG (bQ I)⟩
 ·rintro σ H1 ⟨xs,n,v3,v4,v5,rfl,ai,uY,ab,an,af,e⟩;have ag:(ni B).length=B.length:=by unfold ni;rw[xD]
  rw[ag]at ab af e;rw[List.drop_length,Vm]at e
  have e':Pl.bg (B.map lg) (t.drop i)=(some xs,n):=by rw[e];show(some (xs++[]),n+0)=_;grind
  have kk:=k H1 (by rw[e'];exact ai) uY;rw[e']at kk;rw[GC]at ab;exact⟨_,Z,kk o ho ab⟩
theorem mR{m:Nat}:∀(t:xC)(v:Option Nat),(∀u,v=some u->u<=m)->∀x,(Pl.cg m v t).1=some x->x<=m
 |[],v,h,x,e=>h x e
 | c::r,v,h,x,e=>by
  unfold Pl.cg at e;by_cases h1:Vy c=false
  ·rw[Wi h1]at e;exact h x e
  ·rw[Wh h1] at e;simp only at e;by_cases h2:v=some 0\/m<10*v.getD 0+(c.toNat-48)
   ·rw[Wi h2]at e;exact h x e
   ·rw[Wh h2]at e;exact mR r _ (fun u q=>by cases q;have:=fun z=>h2 (.inr z);lia) x e
theorem cF.none{p b:Addr}{H H':Hp}{u:HO}(k:cF p H H')(n:H' p=some u)(j:H' b=none):H b=none:=by
 cases e:H b with
 |none=>rfl
 | some o=>
  have nb:b≠p:=fun q=>by rw[q,n]at j;cases j
  rw[k _ _ e nb]at j;cases j
theorem uS{xs:List Nat}(h:∀x∈xs,x<=255)(hl:xs.length<=4):bl (GX xs)=[V.int (xs.length:Int)]++ni xs++xU (4-xs.length) (V.int 0):=by
 have one:∀n,n<=255->(UInt8.ofNat (n%256)).toNat=n:=fun n F=>by
  rw[UInt8.toNat_ofNat'];lia
 have j:∀xs:List Nat,(∀x∈xs,x<=255)->bl (xs.flatMap (Gk 1))=ni xs:=by
  intro xs;induction xs with
  |nil=>intro _;rfl
  | cons x xs B=>
   intro h;show V.int ((UInt8.ofNat (x%256)).toNat:Int)::bl (xs.flatMap (Gk 1))=V.int (x:Int)::ni xs;rw[one x (h x We),B fun z hz=>h z (by simp[hz])]
 have e:bl (GX xs)=[V.int ((UInt8.ofNat (xs.length%256)).toNat:Int)]++(bl (xs.flatMap (Gk 1))++bl (xU (4-xs.length) 0)):=by unfold GX bl;rw[Gs,Gs];rfl
 rw[e,one _ L,j xs h,<-GV];congr 1;unfold bl;rw[List.map_replicate];rfl
abbrev Ki:Stmt:=top 98
inductive BZ(K : xB)(C : Addr)(vs : List V)(H : Hp)(Q : VK)(E : XK) : Prop
  | mk (p dx a d l : Addr) (t : xC) (i : Nat) : vs = [.ref p, .ref l] -> YM K C H p dx a d t i -> ba K H l (ni [1, 1, 1, 1]) -> (∀ H', H' p = some (.ins C dx (sf a (i + (Pl.bq 4 (t.drop i)).2) d)) -> cF p H H' ->
    match (Pl.bq 4 (t.drop i)).1 with
    |some xs => ∀o, H o=none->H' o=some (.lst (bl (GX xs)))->Q (.ref o) H'
    |none => Q .bQ H')->BZ K C vs H Q E
theorem tU:a7 ["scan","sizes","kinds","index","size","kind"] ["scan","sizes"] (a6 Ki):=.mk'
theorem fX(n:Nat)(t:xC):Pl.bq (n+1) t=match Pl.cB 255 t with
  |(none,k)=>(none,k)
  |(some v,k)=>if(t.drop k).head?=some 10 then(some [v],k+1) else if n=0 then(none,k) else if(t.drop k).head?=some 32 then uN [v] (k+1) (Pl.bq n (t.drop (k+1))) else(none,k):=by
 conv=>lhs;unfold Pl.bq
 rcases Pl.cB 255 t with⟨v|v,k⟩
 ·rfl
 ·simp only;by_cases q:(t.drop k).head?=some 10
  ·lia
  ·rw[Wh q,Wh q];by_cases z:n=0
   ·lia
   ·rw[Wh z,Wh z];by_cases q:(t.drop k).head?=some 32
    ·rw[Wi q,Wi q];rcases Pl.bq n (t.drop (k+1)) with⟨v|v,j⟩<;>rfl
    lia
theorem DC(F:bG K "take_coats" "take_coats" Ki f fd)(T:JZ K mg C)(U:Txt K mg)(aM:r9 K mg) (M:XS P w K mg base C 2 "takes" ["self","octet"] (wK K C))
  (TN:bu P w K mg base 2 "take_number" ["scan","largest"] (vU K C)):QC P w K mg base bD 3 f fd ["scan","sizes"] (BZ K C):=by
 obtain⟨fm,aK,hm,bm,G⟩:=M.ex;obtain⟨aL,es,nL,aD,aE,aF,hL⟩:=aM.ex;obtain⟨kk,aG⟩:=hL 1 Wa;apply F.bM tU;rintro _ H Q E ⟨p,dx,a,d,l,t,i,rfl,D,hl,k⟩;refine⟨Z,fun _ _ _ _ hr=>?_⟩
 refine⟨_,Qb (bA 2 tU.nd (QU Qc))
  (Qb (QL PassesOwn.never Z (qa Z U.enum (Qa (pv 1) Qc) (zt Qi jT)) (ZF (n:=2) Z (QF (b0 3 tU.nd) (QF (b0 4 tU.nd) Zl)))
   (Qb (bA 5 tU.nd (Qs TN hr (Qa (pv 0) (Qa (fU (Xr aD) (pv 4) (fun _ _=>rfl)) Qc))))
   (Qb (QD (Q7 (Y7 (pv 5))) (Qd (Qj QT)) Qq)
   (Qb (Zf (Xg xX GA GB ZD (pv 2) (Qa (pv 5) Qc)))
   (Qb (QD (Zd (Q5 (pv 0) T.cl hm G hr bm .nil Zc (Qa (QP T.g10) Qc))) (Qd (Qj (QA Xm (QA Xm (QU (Qa (pv 3) Qc)) (pv 2)) (QA rV (QU (Qa Qi Qc)) (QA Xl (Qx Qp Wg U.len Wx (Qa (pv 1) Qc)) (pv 3)))))) Qq)
   (Qd (QD (Y2 (Qt ZE (pv 3) (Qx Qp Wg U.len Wx (Qa (pv 1) Qc)) (Qo _)) (XY (X7 (Zd (Q5 (pv 0) T.cl hm G hr bm .nil Zc (Qa (QP T.g32) Qc)))))).pt (Qd (Qj QT)) Qq)))))))
  (Qd (Qj QT))),?_⟩
 refine⟨x9 _,fun o ho=>?_⟩;have s0:=Qk (.lst []) ho;have po:p≠o:=Qg D.ins ho
 refine⟨_,Z,l,1,_,Z,Z,by decide,s0.seq hl,Jw (K:=K) (a:=l) (c:=1) (xs:=ni [1,1,1,1]) (fun j σ H'=>HH fun(xs:List Nat) (n:Nat) (v3 v4 v5:Option V)=>IJ (σ=[some (.ref p),some (.ref l),some (.ref o),v3,v4,v5]) (H' p=some (.ins C dx (sf a (i+n) d))) (cF p H H') (H' o=some (.lst (ni xs))) (ba K H' l (ni [1,1,1,1])) (xs.length=j) ((∀x∈xs,x<=255)) (Pl.bq 4 (t.drop i)=uN xs n (Pl.bq (4-j) (t.drop (i+n)))))
  ⟨[],0,none,none,none,Z,by rw[Qh po];exact D.ins,fun b u e _=>s0 _ _ e,by rw[Qe];rfl,s0.seq hl,Z,by simp,?_⟩ (fun _ _ _ _ ⟨_,_,_,_,_,_,_,_,_,q,_,_,_⟩=>q) ?_ ?_⟩
 ·rw[UO];rcases Pl.bq 4 (t.drop i) with ⟨v | v,j⟩
  ·show _=(none,0+j);rw[U9]
  ·show _=(some ([]++v),0+j);rw[U9];rfl
 ·rintro j x σ H1 H2 hx ⟨xs,n,v3,v4,v5,rfl,ad,uY,an,aH,af,ao,e⟩ sm;have hj:j<4:=(List.getElem?_eq_some_iff.1 hx).1
  have aI:x=.int ((1:Nat):Int):=by obtain⟨z,hz,rfl⟩:=Ap hx;have:=x6 hz;simp only[GW,GD,Ws,or_self]at this;rw[this]
  subst aI;have aq:cF p H H2:=fun b u q nb=>sm _ _ (uY _ _ q nb);have D2:YM K C H2 p dx a d t (i+n):=D.go aq (sm _ _ ad);refine⟨_,Z,_,Z,aL,es,nL,_,.int (lg 1:Int),_,Z,Z,aE,aF,aG,⟨kk,Z⟩,p,dx,a,d,t,i+n,lg 1,_,Z,Z,D2,fun H3 I au=>?_⟩;have B:=fX (3-j) (t.drop (i+n));rw[show 3-j+1=4-j by lia]at B;have ac:cF p H H3:=aq.trans au;have av:H3 o=some (.lst (ni xs)):=au _ _ (sm _ _ an) po.symm;have l1:lg 1=255:=rfl;rw[l1]at I;rcases hq:Pl.cB 255 (t.drop (i+n)) with⟨v|v,c⟩
  ·rw[hq]at I B;simp only at I B;rw[B]at e;have e':Pl.bq 4 (t.drop i)=(none,n+c):=e;have kk:=k H3 (by rw[e',<-Gx];exact I) ac;rw[e']at kk;rw[l1,hq];exact⟨_,Z,_,Z,ZG kk⟩
  ·have hv:v<=255:=mR (t.drop (i+n)) none (by intro u q;cases q) v (by show (Pl.cB 255 (t.drop (i+n))).1=_;rw[hq]);rw[hq] at I B;simp only at I B;rw[l1,hq]
   have hd:((t.drop (i+n)).drop c).head?=t[i+n+c]?:=by rw[G7,List.head?_drop]
   rw[hd]at B;have lx:(ni xs).length=j:=by unfold ni;rw[xD];exact af
   refine⟨_,Z,_,Z,Jc ?_⟩;refine⟨_,Z,.inl ⟨Z,_,ba.of av⟩,_,Z,o,_,_,Z,Z,av,VB (show(ni xs).length<4 by rw[lx];exact hj) Wa,?_⟩;generalize ag:upd H3 o (.lst (ni xs++[vF (some v)]))=H4
   have ah:H4 o=some (.lst (ni (xs++[v]))):=by rw[<-ag,Qe];unfold ni;rw[Gs];rfl
   have aa:H4 p=some (.ins C dx (sf a (i+n+c) d)):=by rw[<-ag,Qh po];exact I
   have J:cF p H H4:=fun b u q nb=>by rw[<-ag,Qh (Qg q ho)];exact ac _ _ q nb
   have D4:YM K C H4 p dx a d t (i+n+c):=D.go J aa;have aw:ba K H4 l (ni [1,1,1,1]):=ba.oI J D.ins hl
   have ab:∀x∈xs++[v],x<=255:=by
    intro x hx;rcases List.mem_append.1 hx with h|h
    ·exact ao x h
    ·rw[List.mem_singleton.1 h];exact hv
   have O:(xs++[v]).length=j+1:=by rw[xG,af];rfl
   refine⟨_,Z,p,dx,_,Z,aa,zQ _ _ _ Wb Wb Wb,p,dx,a,d,t,i+n+c,10,_,Z,Z,D4,?_⟩;by_cases ht:t[i+n+c]?=some 10
   ·rw[Wi ht];rw[Wi ht] at B;rw[B] at e;have e':Pl.bq 4 (t.drop i)=(some (xs++[v]),n+(c+1)):=e;refine⟨_,Z,ZG ?_⟩;generalize ai:upd H4 p (.ins C dx (sf a (i+n+c+1) d))=H5;have ax:H5 o=some (.lst (ni (xs++[v]))):=by rw[<-ai,Qh po.symm];exact ah
    have ay:H5 p=some (.ins C dx (sf a (i+n+c+1) d)):=by rw[<-ai,Qe]
    have aj:cF p H H5:=fun b u q nb=>by rw[<-ai,Qh nb];exact J _ _ q nb
    refine⟨_,Z,(by show 1<=sizeLine;decide),fun q1 h1=>⟨_,Z,q1,o,_,ni (xs++[v]),Z,Z,Qe,?_,?_,fun q2 h2=>?_⟩⟩
    ·rw[Qh (Qg ax h1)];exact ax
    ·show 1+(ni (xs++[v])).length<=sizeLine;unfold ni;rw[xD,O];exact xM (show 1+(j+1)<=8 by lia) Wa
    refine⟨(by show 1<=sizeLine;decide),fun q3 h3=>?_⟩
    have az:∀b u,H5 b=some u->upd (upd (upd H5 q1 (.lst [V.int ((j+1:Nat):Int)])) q2 (.lst ([V.int ((j+1:Nat):Int)]++ni (xs++[v])))) q3 (.lst [V.int 0]) b=some u:=fun b u q=>by
     have n1:=Qg q h1;have aA:upd H5 q1 (.lst [V.int ((j+1:Nat):Int)]) b=some u:=by rw[Qh n1];exact q
     have n2:=Qg aA h2;have aB:upd (upd H5 q1 (.lst [V.int ((j+1:Nat):Int)])) q2 (.lst ([V.int ((j+1:Nat):Int)]++ni (xs++[v]))) b=some u:=by rw[Qh n2];exact aA
     rw[Qh (Qg aB h3)];exact aB
    have aJ:ba K H5 l (ni [1,1,1,1]):=ba.oI aj D.ins hl;refine⟨_,Z,l,_,Z,.inl (Qn.seq az aJ),_,Z,_,_,Z,Z,q3,_,_,Z,Z,Qe,?_,?_,?_,fun q4 h4=>?_⟩
    ·show -(2 ^ 63)<=((4:Int)-((j+1:Nat):Int));lia
    ·show((4:Int)-((j+1:Nat):Int))<2 ^ 63;lia
    ·show 1*((4:Int)-((j+1:Nat):Int)).toNat<=sizeLine;exact xM (show _<=4 by lia) Wa
    have zr:(xU (((ni [1,1,1,1]).length:Int)-((j+1:Nat):Int)).toNat [V.int 0]).flatten=xU (4-(xs++[v]).length) (V.int 0):=by
     rw[O,show(((ni [1,1,1,1]).length:Int)-((j+1:Nat):Int)).toNat=4-(j+1) by(show((4:Int)-((j+1:Nat):Int)).toNat=4-(j+1));lia];induction 4-(j+1) with
     |zero=>rfl
     |succ m ih=>rw[GS,Gw,ih,GS];rfl
    have g2:upd (upd (upd H5 q1 (.lst [V.int ((j+1:Nat):Int)])) q2 (.lst ([V.int ((j+1:Nat):Int)]++ni (xs++[v])))) q3 (.lst [V.int 0]) q2=some (.lst ([V.int ((j+1:Nat):Int)]++ni (xs++[v]))):=by rw[Qh (Qg Qe h3),Qe]
    refine⟨q2,q4,[V.int ((j+1:Nat):Int)]++ni (xs++[v]),_,Z,Z,?_,Qe,?_,fun q5 h5=>?_⟩
    ·rw[Qh (Qg g2 h4)];exact g2
    ·rw[zr,xG,Vt];unfold ni;rw[xD,O,GQ];exact xM (show _<=8 by lia) Wa
    have ak:∀b u,H5 b=some u->upd (upd (upd (upd H5 q1 (.lst [V.int ((j+1:Nat):Int)])) q2 (.lst ([V.int ((j+1:Nat):Int)]++ni (xs++[v])))) q3 (.lst [V.int 0])) q4 (.lst (xU (((ni [1,1,1,1]).length:Int)-((j+1:Nat):Int)).toNat [V.int 0]).flatten) b=some u:=fun b u q=>by
     have q':=az b u q;rw[Qh (Qg q' h4)];exact q'
    have n5:H5 q5=none:=by
     cases z:H5 q5 with
     |none=>rfl
     |some u=>have:=ak _ _ z;rw[show _=none from h5]at this;cases this
    have fin:∀H6:Hp,(∀b u,H5 b=some u->H6 b=some u)->H6 q5=some (.lst (bl (GX (xs++[v]))))->Q (.ref q5) H6:=fun H6 s6 h6=>by
     have kk:=k H6 (by rw[e',<-Gx,<-Gx];exact s6 _ _ ay) (fun b u q nb=>s6 _ _ (aj _ _ q nb));rw[e']at kk;exact kk q5 (aj.none ay n5) h6
    refine fin _ (fun b u q=>(Qh (Qg (ak _ _ q) h5)).trans (ak _ _ q)) ?_;rw[Qe,zr,uS ab (by rw[O];lia),O]
   ·rw[Wh ht];rw[Wh ht] at B;refine⟨_,Z,Jc ?_⟩;have aC:(ni [1,1,1,1]).length=4:=rfl;refine⟨_,Z,_,Z,l,_,Z,.inl aw,_,_,Z,Z,_,Z,Qz (fun hz=>?_) (fun hz=>?_)⟩
    ·have hz:j+1<4:=by have:=Wj hz;rw[aC] at this;lia
     rw[Wh L]at B;refine⟨_,Z,p,dx,_,Z,aa,zQ _ _ _ Wb Wb Wb,p,dx,a,d,t,i+n+c,32,_,Z,Z,D4,?_⟩;by_cases hs:t[i+n+c]?=some 32
     ·rw[Wi hs];rw[Wi hs] at B;refine⟨_,Z,Jc ?_⟩;refine⟨xs++[v],n+(c+1),_,_,_,Z,?_,?_,?_,?_,O,ab,?_⟩
      ·rw[Qe,<-Gx,<-Gx]
      ·exact fun b u q nb=>by rw[Qh nb];exact J _ _ q nb
      ·rw[Qh po.symm];exact ah
      ·exact ba.oI (fun b u q nb=>by rw[Qh nb];exact J _ _ q nb) D.ins hl
      ·rw[e,B,mO,G7,Gx i n (c+1),show 3-j=4-(j+1) by lia]
     ·rw[Wh hs];rw[Wh hs]at B;rw[B]at e;have e':Pl.bq 4 (t.drop i)=(none,n+c):=e;have kk:=k H4 (by rw[e',<-Gx];exact aa) J;rw[e']at kk;exact⟨_,Z,ZG kk⟩
    ·have hz:¬ j+1<4:=fun q=>hz (Wk (by rw[aC];lia));rw[Wi L] at B;refine Jc ⟨xs++[v],n+c,_,_,_,Z,?_,J,ah,aw,O,ab,?_⟩
     ·rw[<-Gx];exact aa
     ·rw[e,B,show 4-(j+1)=0 by lia];rfl
 ·rintro σ H1 ⟨xs,n,v3,v4,v5,rfl,ad,uY,an,aH,af,ao,e⟩;have e':Pl.bq 4 (t.drop i)=(none,n):=e;have kk:=k H1 (by rw[e'];exact ad) uY;rw[e']at kk;exact kk
open PySem PySem.Spec PyProof.Rows L2 TL
theorem oK:∀s rs,(s,rs)∈QN->(∀c∈s.toList,c.toNat<256)/\(Gi s).length<=20:=by intro s rs h;simp only[QN,GW,Prod.mk.injEq,GD,Ws]at h;rcases h with⟨rfl,_⟩|⟨rfl,_⟩|⟨rfl,_⟩|⟨rfl,_⟩|⟨rfl,_⟩|⟨rfl,_⟩|⟨rfl,_⟩|⟨rfl,_⟩|⟨rfl,_⟩|⟨rfl,_⟩|⟨rfl,_⟩|⟨rfl,_⟩|⟨rfl,_⟩|⟨rfl,_⟩|⟨rfl,_⟩|⟨rfl,_⟩<;>decide
def ZP(s:String) (rs:List WA):xC:=Gi s++[if rs.length>0 then 32 else 10]
abbrev Ho:Stmt:=top 94
inductive Ba(vs:List V)(H:Hp)(Q:VK)(E:XK):Prop
 |mk (s:String) (rs:List WA):vs=[.str (xE s)]->(s,rs)∈QN->(∀H' l,Qn H H'->H' l=some (.lst (bl (ZP s rs)))->Q (.ref l) H')->Ba vs H Q E
theorem uQ:a7 ["word","behind","sign"] ["word"] (a6 Ho):=.mk'
theorem D9(F:bG K "word_octets" "word_octets" Ho f fd)(T:JZ K mg C)(U:Txt K mg)(R:sZ K w.params mg):QC P w K mg base bD 1 f fd ["word"] Ba:=by
 obtain⟨ad,es,nd,O,aa,ab,hR⟩:=R.ex;apply F.bM uQ;rintro _ H Q E ⟨sw,rs,rfl,hm,k⟩;refine⟨Z,fun _ _ _ _ _=>?_⟩;obtain⟨q,as,hn,hq,G,af⟩:=hR sw rs hm;obtain⟨wk,wl⟩:=oK sw rs hm
 refine⟨_,Qb (bA 1 uQ.nd (XI (Qt Zn (Qx Qp Wg U.len Wx (Qa (zu (Xr O) (pv 0) (fun _ _=>rfl)) Qc)) Qi (Qo _)) (QP T.g32) (QP T.g10)))
  (Qd (Qj (QA Xm (qR (own:=[("sign",2)]) Z uQ.nd (AI (pv 0)) (ZI (N:=["word","behind","sign"]) (sc:=a6 Ho) Wb) (fun _ _ _ _ _=>b0 2 uQ.nd) (fun _ _ _ _ _=>Jn)
   (fun _ _ _ _ _=>by exact Qx uv Wg U.ord oY (Qa (pv 2) Qc))) (QU (Qa (pv 1) Qc))))),?_⟩
 have n:∀c:UInt8,c=(if rs.length>0 then 32 else 10)->∀(r:Addr)(H2:Hp),Qn H H2->H2 r=some (.lst (bl (Gi sw)))->
   ∀j,H2 j=none->∀z,upd H2 j (.lst [V.int (c.toNat:Int)]) z=none->Q (.ref z) (upd (upd H2 j (.lst [V.int (c.toNat:Int)])) z (.lst (bl (Gi sw)++[V.int (c.toNat:Int)]))):=fun c hc r H2 B h2 j h1 z hz=>by
  refine k _ z (fun b u e=>?_) ?_
  ·have e2:=B _ _ e;have e3:upd H2 j (.lst [V.int (c.toNat:Int)]) b=some u:=by rw[Qh (Qg e2 h1)];exact e2
   rw[Qh (Qg e3 hz)];exact e3
  ·rw[Qe];unfold ZP bl;rw[Gs,<-hc];rfl
 have I:(as.map V.ref).length=rs.length:=by rw[xD];exact G
 refine⟨_,Z,ad,es,nd,_,.ref q,_,Z,Z,aa,ab,hn,Z,q,_,Z,.inr (hq _),_,_,Z,Z,_,Z,Qz (fun h1=>?_) (fun h1=>?_)⟩
 all_goals
  refine⟨_,Z,_,Z,fun r J=>Cj (fun i H'=>Qn H H'/\H' r=some (.lst ((bl (Gi sw)).take i))) ⟨Qk _ J,Qe⟩ ?_ ?_⟩
  ·rintro i c' H2 ac ⟨B,h2⟩
   have hi:(bl (Gi sw))[i]?=some (V.int ((c':Nat):Int)):=by
    rw[An];unfold ni
    have:(nb (Gi sw))[i]?=some c':=by rw[gS wk];unfold tl;simpa using ac
    rw[xL,this];rfl
   refine⟨Z,_,Z,_,Z,Z,_,h2,?_,?_,?_⟩
   ·rw[Go,Ql];exact xZ (show min i (Gi sw).length<=20 by lia) Wa
   ·exact fun b u e'=>by rw[Qh (Qg e' J)];exact B _ _ e'
   ·rw[Qe,Uh,hi];rfl
  ·rintro H2 ⟨B,h2⟩
   rw[show(xE sw).cps.size=(bl (Gi sw)).length by
    rw[An];unfold ni;rw[xD,gS wk];unfold tl;simp,GC]at h2
   refine⟨_,Z,(by show 1<=sizeLine;decide),fun j h3=>⟨r,j,bl (Gi sw),_,Z,Z,?_,Qe,?_,fun z hz=>?_⟩⟩
   ·rw[Qh (Qg h2 h3)];exact h2
   ·rw[Ql];exact xM (show(Gi sw).length+1<=21 by lia) Wa
   ·first
     |exact n 32 (by rw[Wi];have:=Wj h1;rw[I]at this;lia) r H2 B h2 j h3 z hz
     |exact n 10 (by rw[Wh];intro q;apply h1;rw[I];exact Wk L) r H2 B h2 j h3 z hz
theorem si:∀(w t:xC),Gj w t<=w.length
 |[],_=>by simp[Gj]
 |a::r,[]=>by simp[Gj]
 | a::r,b::s=>by
  unfold Gj;have:=si r s;split
  ·grind
  ·lia
theorem JB:∀(w t:xC),(w==t.take w.length)=decide (Gj w t=w.length)
 |[],_=>by simp[Gj]
 |a::r,[]=>by simp[Gj]
 | a::r,b::s=>by
  have j:=JB r s;unfold Gj;by_cases h:a=b
  ·grind
  ·grind
def QS (ws:List (String×List WA)):List xC:=ws.map fun x=>ZP x.1 x.2
def most(bs:List xC)(t:xC):Nat:=(bs.map fun w=>Gj w t).foldl max 0
theorem ny(bs:List xC)(w t:xC):most (bs++[w]) t=max (most bs t) (Gj w t):=by unfold most;grind
theorem og{bs:List xC}{j:Nat}(n:j<bs.length) (h:Gj bs[j] t=(bs[j]).length) (z:∀i (hi:i<j),¬Gj (bs[i]'(by lia)) t=(bs[i]'(by lia)).length):Gb bs t=.ok (j,(bs[j]).length):=by unfold Gb;rw[Zq (i:=j) n (by rw[JB];exact Wk h) fun i hi=>by rw[JB];exact Wl (z i hi)];grind
theorem kF{bs:List xC} (j:∀i (hi:i<bs.length),¬Gj bs[i] t=(bs[i]).length):Gb bs t=.error (most bs t):=by unfold Gb;rw[Pl.bx.2 fun i hi=>by rw[JB];exact Wl (j i hi)];rfl
abbrev HW:Stmt:=top 95
def Fj(K:xB)(C:Addr):Sp:=fun vs H Q _=>∃(p dx a d l:Addr) (t:xC) (i:Nat) (ws:List (String×List WA)),vs=[.ref p,.ref l]/\YM K C H p dx a d t i/\ba K H l (ws.map fun x=>V.str (xE x.1))/\(∀x∈ws,x∈QN)/\
 ∀H',cF p H H'->match Gb (QS ws) (t.drop i) with
  |.ok (k,n)=>H' p=some (.ins C dx (sf a (i+n) d))->Q (.str (xE (ws.getD k ("",[])).1)) H'
  |.error n=>H' p=some (.ins C dx (sf a (i+n) d))->Q .bQ H'
theorem nu:a7 ["scan","words","most","word","octets","count"] ["scan","words"] (a6 HW):=.mk'
theorem oR:bootBuiltins "max" = some (.builtin "max"):=by decide +kernel
theorem DG(F:bG K "take_word" "take_word" HW f fd)(T:JZ K mg C)(U:Txt K mg)(WO:bu P w K mg base 1 "word_octets" ["word"] Ba) (AC:bu P w K mg base 2 "agreeing_count" ["scan","octets"] (A8 K C)) :
  QC P w K mg base bD 3 f fd ["scan","words"] (Fj K C):=by
 apply F.bM nu;rintro _ H Q E ⟨p,dx,a,d,l,t,i,ws,rfl,D,hl,hw,k⟩;refine⟨Z,fun _ _ _ _ hr=>?_⟩
 refine⟨_,Qb (bA 2 nu.nd Qi)
  (Qb (QL PassesOwn.never Z (Q4 (pv 1)) (b0 3 nu.nd)
   (Qb (bA 4 nu.nd (Qs WO (hr.mono Wa) (Qa (pv 3) Qc)))
   (Qb (bA 5 nu.nd (Qs AC hr (Qa (pv 0) (Qa (pv 4) Qc))))
   (Qb (QD (Qt XM (pv 5) (Qx Qp Wg U.len Wx (Qa (pv 4) Qc)) (Qo _)) (Qb (Jo (pv 0) (pv 5) j8) (Qd (Qj (pv 3)))) Qq)
   (Qd (bA 2 nu.nd (Qx (nU Z) Wg U.max oR (Qa (pv 2) (Qa (pv 5) Qc)))))))))
  (Qb (Jo (pv 0) (pv 2) j8) (Qd (Qj QT)))),?_⟩
 have wl:(QS ws).length=ws.length:=by unfold QS;rw[xD]
 refine⟨_,Z,l,Z,⟨_,hl⟩,Zs (K:=K) (a:=l) (xs:=ws.map fun x=>V.str (xE x.1)) (fun j σ H'=>Ds fun(v3 v4 v5:Option V)=>eC (σ=[some (.ref p),some (.ref l),some (.int (most ((QS ws).take j) (t.drop i):Int)),v3,v4,v5]) (Qn H H') (∀m (G:m<(QS ws).length),m<j->¬Gj (QS ws)[m] (t.drop i)=((QS ws)[m]).length)) ⟨none,none,none,Z,fun _ _ e=>e,fun m _ q=>Wm q (Nat.not_lt_zero _)⟩ (fun j σ H' _ ⟨_,_,_,_,z,_⟩=>z.seq hl) ?_ ?_⟩
 ·rintro j x σ H1 I ⟨v3,v4,v5,rfl,z,no⟩;rw[xL] at I;cases B:ws[j]? with
  |none=>rw[B]at I;cases I
  | some n=>
   rw[B]at I;have I:V.str (xE n.1)=x:=Wo I;subst I;have hj:j<ws.length:=(List.getElem?_eq_some_iff.1 B).1;have aa:j<(QS ws).length:=by rw[wl];exact hj
   have J:(QS ws)[j]?=some (ZP n.1 n.2):=by unfold QS;grind
   have wj:(QS ws)[j]=ZP n.1 n.2:=(List.getElem?_eq_some_iff.1 J).2;refine⟨_,Z,n.1,n.2,Z,hw _ (x6 B),fun H2 o s2 ho=>?_⟩;have D2:YM K C H2 p dx a d t i:=⟨s2 _ _ (z _ _ D.ins),(z.trans s2).seq D.txt⟩;refine⟨_,Z,_,Z,p,dx,a,d,o,t,ZP n.1 n.2,i,Z,D2,ba.of ho,_,Z,_,Z,o,_,Z,.inl (ba.of ho),Z,_,Z,Qz (fun h1=>?_) (fun h1=>?_)⟩
   ·have h1:Gj (ZP n.1 n.2) (t.drop i)=(ZP n.1 n.2).length:=by have:=V.int.inj (Wj h1);rw[Ql] at this;lia
    refine⟨_,Z,p,C,dx,_,_,Z,D2.ins,T.cl,T.nP,jK _ _ _,_,Z,_,_,Z,Z,dx,_,D2.ins,zR _ _ _,_,Z,?_⟩;rw[show((i:Int)+(Gj (ZP n.1 n.2) (t.drop i):Int))=((i+(ZP n.1 n.2).length:Nat):Int) by rw[h1];lia,zP];have kk:=k (upd H2 p (.ins C dx (sf a (i+(ZP n.1 n.2).length) d))) (fun b u q nb=>by rw[Qh nb];exact s2 _ _ (z _ _ q));rw[og aa (by rw[wj];exact h1) (fun m G=>no m L G),wj]at kk;have kk:=kk Qe;grind
   ·have h1:¬ Gj (ZP n.1 n.2) (t.drop i)=(ZP n.1 n.2).length:=fun q=>h1 (by rw[Ql,q];exact Wk Z);refine⟨_,Z,_,Z,_,_,Z,some (.str (xE n.1)),some (.ref o),some (.int (Gj (ZP n.1 n.2) (t.drop i):Int)),?_,z.trans s2,fun m G lt=>?_⟩
    ·rw[Uh,J];show _=[_,_,some (V.int (most ((QS ws).take j++[ZP n.1 n.2]) (t.drop i):Int)),_,_,_];rw[ny];grind
    grind
 ·rintro σ H1 ⟨v3,v4,v5,rfl,z,no⟩;rw[xD]at no;have O:=kF (bs:=QS ws) (t:=t.drop i) fun m G=>no m G (by rw[wl]at G;exact G);have D1:YM K C H1 p dx a d t i:=⟨z _ _ D.ins,z.seq D.txt⟩;refine⟨_,Z,p,C,dx,_,_,Z,D1.ins,T.cl,T.nP,jK _ _ _,_,Z,_,_,Z,Z,dx,_,D1.ins,zR _ _ _,?_⟩;rw[xD,<-wl,GC,show((i:Int)+(most (QS ws) (t.drop i):Int))=((i+most (QS ws) (t.drop i):Nat):Int) by lia,zP];have kk:=k (upd H1 p (.ins C dx (sf a (i+most (QS ws) (t.drop i)) d))) (fun b u q nb=>by rw[Qh nb];exact z _ _ q);rw[O]at kk;exact kk Qe
end Gp
namespace L2
open PySem PySem.Spec PyProof.Rows
def rM(es:Array DictEntry):It:=
 ⟨fun i _=>i<es.size,fun i H x H'=>H'=H/\∃(en:DictEntry)(z:Str)(t:Tok),es[i]?=some en/\en.key=.str z t/\x=.str z,fun i _=>es.size<=i⟩
theorem ik{P:Program}{w:World}{K:xB}{tg:Expr}{d:Addr}{es:Array DictEntry}{ep:Nat}(it:Addr)(hl:K.lookup d=some ⟨.type "dict",none,.dict es ep,#[]⟩) (hk:∀(i:Nat)(en:DictEntry),es[i]?=some en->∃(z:Str)(t:Tok),en.key=.str z t) :
  zh P w K tg (rM es) [it] it (fun i h=>h.IsKeyIter it d i es.size ep) where
 mem:=by simp
 obj:=fun i h st b j=>by
  have e:b=it:=by simpa using j
  subst e;obtain⟨F,e,c,G⟩:=st;exact⟨F,e,fun v z=>by rw[G]at z;cases z⟩
 keep:=fun i h h' st k=>st.at fun F e=>k it We F e
 item:=by intro X J hw O hc i aZ s σ H E I hf st U;subst J hw O;obtain⟨f0,f1,f2,f3,f4,f5⟩:=hf it We;have n:es[i]?=some es[i]:=GZ U;obtain⟨z,t,hz⟩:=hk i _ n;refine yH st (I.eK _ _ hl) Z Z n fun h' B sb=>?_;have I1:Inv X aZ σ H { s with heap:=h' }:=I.turned (t':=s.toks) (fun b ob j e=>(sb.2 b j).trans e) f0 f1 f3 f4 f5;obtain⟨F,e,c,G⟩:=id B;exact⟨es[i].key,rfl,yi (s:={ s with heap:=h' }) e c G Wa ⟨.str z,H,I1,⟨t,hz⟩,⟨rfl,_,z,t,n,hz,rfl⟩,B,fun b j=>(hf b j).1⟩⟩
 done:=by intro X J hw O hc i aZ s σ H E I hf st U;subst J hw O;obtain⟨f0,f1,f2,f3,f4,f5⟩:=hf it We;exact jZ (I.ok.hd hc) st (I.eK _ _ hl) Z Z U fun h' eb=>⟨Z,I.turned (t':=s.toks) (fun b ob j e=>eb b ob j e) f0 f1 f3 f4 f5⟩
 self:=fun A i s Q E st h=>wpAny_pyIter_keyiter st h
inductive mu(K:xB)(R:It->Hp->Prop)(x:V)(H1:Hp):Prop
 |mk (d:Addr) (es:Array DictEntry) (ep:Nat):x=.ref d->(d==sysModules)=false->K.lookup d=some ⟨.type "dict",none,.dict es ep,#[]⟩->((∀(i:Nat)(en:DictEntry),es[i]?=some en->∃(z:Str)(t:Tok),en.key=.str z t))->R (rM es) H1->mu K R x H1
def Bo(K:xB)(td:TE):TI:=fun σ H R=>td σ H (mu K R)
theorem p6{X:Cx}{tg e:Expr}{td:TE}(n:PE X e td):PI X tg e (Bo X.K td):=by intro aZ s σ H R I h;refine bz (n aZ s σ H _ I h) fun u z ⟨x,H1,j,B,d,es,ep,ex,F,hl,hk,q⟩=>?_;subst ex;obtain rfl:u=Value.ref d:=B;exact nN F (j.eK _ _ hl) ⟨Z,Z,Z⟩ Z (z5 (tk:=z.toks) j _ (ik _ hl hk) ⟨_,Wv _ Z,Z,Z⟩ q)
inductive g0(K:xB)(Pm:Params)(Q:VK)(y:V)(x:V)(H2:Hp):Prop
 |mk (a:Addr) (es:Array DictEntry) (n:Nat) (z:Str) (r:Option Value):x=.ref a->y=.str z->(a==sysModules)=false->K.lookup a=some ⟨.type "dict",none,.dict es n,#[]⟩->G8 Pm es.toList->x4 K a z=some r->Q (.bl (!r.isSome)) H2->g0 K Pm Q y x H2
def vp(K:xB)(j:Params)(ty td:TE):TE:=fun σ H Q=>ty σ H fun y H1=>td σ H1 (g0 K j Q y)
theorem ou{X:Cx}{o i:Expr}{ty td:TE}(hi:PE X i ty)(B:PE X o td):PC X .NotIn i o (vp X.K X.w.params ty td):=by intro aZ s σ H Q I h;refine bz (hi aZ s σ H _ I h) fun iv F ⟨y,H1,G,J,O⟩=>bz (B aZ F σ H1 _ G O) fun u s2 h2=>?_;obtain⟨x,H2,j,U,a,es,n,z,r,rfl,rfl,hs,hl,hk,e,q2⟩:=h2;obtain rfl:u=Value.ref a:=U;obtain⟨t,rfl⟩:=J;have hm:=PySem.W.mapOf_K (prog:=X.prog) (w:=X.w) j.eK hl hk;refine wpAny_notIn_of (strKind_is X.prog X.w z t) hs hm ?_;rw[PySem.W.find_K hl e];exact⟨.bl _,H2,j.tok _,Z,q2⟩
theorem nI{es:Array DictEntry}{g:TG}{tb:TS}{D:JE}{σ:St}{H:Hp}(j:Nat->St->Hp->Prop)(h0:j 0 σ H)
  (I:∀(i:Nat) (en:DictEntry) (z:Str) (t:Tok) σ H,es[i]?=some en->en.key=.str z t->j i σ H->g (.str z) σ H fun B H2=>tb { D with nx:=j (i+1),ct:=j (i+1),bk:=D.nx } B H2) (hd:∀σ H,j es.size σ H->D.nx σ H) :
  ∃W:Nat->Nat->St->Hp->Prop,(∃m,W 0 m σ H)/\∀i m σ H,W i m σ H->
   ((rM es).stop i H/\D.nx σ H)\/((rM es).go i H/\∃N:St->Hp->Prop,(∀F H',N F H'->∃G,G<m/\W (i+1) G F H')/\∀x H',(rM es).yld i H x H'->g x σ H' fun B H2=>tb { D with nx:=N,ct:=N,bk:=D.nx } B H2):=by
 refine⟨fun i m σ H=>m=es.size-i/\i<=es.size/\j i σ H,⟨es.size,by simp,x9 _,h0⟩,?_⟩;rintro i m σ H ⟨rfl,hi,p⟩;by_cases n:i<es.size
 ·refine .inr ⟨n,j (i+1),fun F H' J=>⟨es.size-(i+1),by lia,Z,n,J⟩,fun x H' y=>?_⟩;obtain⟨e,en,z,t,h1,h2,rfl⟩:=y;subst e;exact I i en z t σ _ h1 h2 p
 ·have e:i=es.size:=by lia
  subst e;exact .inl ⟨xO _,hd σ H p⟩
end L2
namespace Gp
open PySem PySem.Spec PyProof.Rows L2 TL
def Jb (rw:List (String×Addr)):List (Key×V):=rw.map fun x=>(Sum.inr (xE x.1),V.ref x.2)
structure XA(H:Hp)(d:Addr) (rw:List (String×Addr)) (ad:String->List Addr) (c:String->List xC):Prop where
 ij:H d=some (.dK (Jb rw))
 pP:(rw.map (·.2)).Nodup
 row:∀x∈rw,H x.2=some (.lst ((ad x.1).map V.ref))
 len:∀x∈rw,(ad x.1).length=(c x.1).length
 oct:∀x∈rw,∀(i:Nat)(a:Addr)(b:xC),(ad x.1)[i]?=some a->(c x.1)[i]?=some b->H a=some (.lst (bl b))
 off:∀x∈rw,∀a∈ad x.1,∀y∈rw,a≠y.2
structure Al(K:xB)(mg:Str->Option Value):Prop where
 ex:∃(a:Addr)(es:Array DictEntry)(n:Nat),mg "NUMBER_RUNS" = some (.ref a)/\(a==sysModules)=false/\K.lookup a=some ⟨.type "dict",none,.dict es n,#[]⟩/\es.size=QN.length/\∀(i:Nat)(en:DictEntry),es[i]?=some en->∃(s:String×List WA) (t:Tok),QN[i]?=some s/\en.key=.str (xE s.1) t
inductive tP(C:Addr)(vs:List V)(H:Hp)(Q:VK)(E:XK):Prop
 |mk (p dx a:Addr):vs=[.ref p,.ref a]->H p=some (.ins C dx [])->(∀(H':Hp) (d:Addr) (rw:List (String×Addr)),H' p=some (.ins C dx (sf a 0 d))->cF p H H'->rw.map (·.1)=QN.map (·.1)->XA H' d rw (fun _=>[]) (fun _=>[])->H d=none->(∀x∈rw,H x.2=none)->Q .bQ H')->tP C vs H Q E
theorem wV:a7 ["self","text","word"] ["self","text"] (a6 vz):=.mk'
theorem dM {rw:List (String×Addr)} {s:String} {v:V} (h:∀x∈rw,xE x.1≠xE s):XU (Jb rw) (Sum.inr (xE s)) v=Jb rw++[(Sum.inr (xE s),v)]:=by unfold XU;rw[Wh];intro q;rw[UT]at q;obtain⟨y,j,e⟩:=q;unfold Jb at j;grind
theorem zV:((QN.map (·.1)).map xE).Nodup:=by decide +kernel
theorem IS(a d:Addr):Zu "rows" (.ref d) (Zu "place" (.int 0) (Zu "text" (.ref a) []))=sf a 0 d:=rfl
theorem Ck(F:bG K "__init__" "Scan.__init__" vz f fd)(T:JZ K mg C)(R:Al K mg):QC P w K mg base bD 1 f fd ["self","text"] (tP C):=by
 obtain⟨aR,es,nR,aa,ab,ac,ad,O⟩:=R.ex;apply F.bM wV;rintro _ H Q E ⟨p,dx,a,rfl,hp,k⟩;refine⟨Z,fun _ _ _ s hr=>?_⟩;have hu:=Jd hr
 refine⟨_,Qb (Y3 (pv 0) (pv 1) Z) (Qb (Y3 (pv 0) Qi Z) (Qb (Y3 (pv 0) rT Z)
  (Qd (QL PassesOwn.never Z (p6 (Xr aa)) (b0 2 wV.nd) (Qd (zo hu (Qw (pv 0) Z) (pv 2) (QU Qc) Z)))))),?_⟩
 refine⟨_,Z,_,Z,p,C,dx,_,Z,hp,T.cl,T.nT,(by show 0<1000;decide),?_⟩;refine⟨_,Z,p,C,dx,_,Z,Qe,T.cl,T.nP,(by show 1<1000;decide),?_⟩;refine fun d hd=>⟨_,Z,p,C,dx,Zu "place" (.int 0) (Zu "text" (.ref a) []),Z,?_,T.cl,T.nR,(by show 2<1000;decide),?_⟩
 ·rw[Qh (Qg Qe hd),Qe]
 rw[IS];generalize G:upd (upd (upd (upd H p (.ins C dx (Zu "text" (.ref a) []))) p (.ins C dx (Zu "place" (.int 0) (Zu "text" (.ref a) [])))) d (.dK [])) p (.ins C dx (sf a 0 d))=H4;have pd:p≠d:=Qg Qe hd;have p4:H4 p=some (.ins C dx (sf a 0 d)):=by rw[<-G,Qe]
 have b4:cF p H H4:=fun b u q nb=>by
  have q2:upd (upd H p (.ins C dx (Zu "text" (.ref a) []))) p (.ins C dx (Zu "place" (.int 0) (Zu "text" (.ref a) []))) b=some u:=by rw[Qh nb,Qh nb];exact q
  rw[<-G,Qh nb,Qh (Qg q2 hd)];exact q2
 have d4:H4 d=some (.dK []):=by rw[<-G,Qh pd.symm,Qe]
 have fd:H d=none:=by rw[Qh pd.symm,Qh pd.symm]at hd;exact hd
 refine⟨aR,es,nR,Z,ab,ac,fun i en q=>(let ⟨s,t,_,e⟩:=O i en q;⟨_,t,e⟩),nI (fun i σ H'=>uk fun(v2:Option V) (rw:List (String×Addr))=>IJ (σ=[some (.ref p),some (.ref a),v2]) (H' p=some (.ins C dx (sf a 0 d))) (cF p H H') (H' d=some (.dK (Jb rw))) (rw.map (·.1)=(QN.map (·.1)).take i) ((rw.map (·.2)).Nodup) ((∀x∈rw,H' x.2=some (.lst []))) (∀x∈rw,H x.2=none)) ⟨none,[],Z,p4,b4,d4,by simp,by simp,by simp,by simp⟩ ?_ ?_⟩
 ·rintro i en z t σ H5 af hz ⟨v2,j,rfl,n,b5,I,nm,pP,J,fr⟩;obtain⟨s,t',hs,hk⟩:=O i en af;rw[hk] at hz;cases hz;have hi:i<QN.length:=(List.getElem?_eq_some_iff.1 hs).1
  have B:j.length=i:=by have:=Wn Qay nm;grind
  refine⟨x9 _,fun l hl=>⟨_,Z,p,C,dx,_,_,Z,?_,T.cl,T.nR,pk a 0 d,_,Z,d,_,Z,yM.k (k:=Sum.inr (xE s.1)) (a':=Jb j) ?_ ?_,?_⟩⟩
  ·exact(Qh (Qg n hl)).trans n
  ·exact(Qh (Qg I hl)).trans I
  ·unfold Jb;rw[xD,B];exact VB hi Wa
  ·have ld:l≠d:=fun q=>by rw[q,I] at hl;cases hl
   have lp:l≠p:=fun q=>by rw[q,n]at hl;cases hl
   have ag:H l=none:=b5.none n hl
   have ah:∀x∈j,xE x.1≠xE s.1:=by
    intro x U e;obtain⟨m,hm,rfl⟩:=Ve U;have ai:m<i:=by rw[B]at hm;exact hm
    have e1:((QN.map (·.1)).map xE)[m]?=some (xE (j[m]).1):=by
     have:(j.map (·.1))[m]?=some (j[m]).1:=by rw[xL,xF hm];rfl
     grind
    have e2:((QN.map (·.1)).map xE)[i]?=some (xE s.1):=by grind
    obtain⟨g1,e1⟩:=List.getElem?_eq_some_iff.1 e1;obtain⟨g2,e2⟩:=List.getElem?_eq_some_iff.1 e2;exact List.pairwise_iff_getElem.1 zV m i g1 g2 ai (by rw[e1,e2,e])
   refine⟨some (.str (xE s.1)),j++[(s.1,l)],Z,?_,?_,?_,?_,?_,?_,?_⟩
   ·rw[Qh (fun q=>by rw[q,I]at n;cases n),Qh lp.symm];exact n
   ·intro b u q nb;rw[Qh (Qg q fd),Qh (Qg q ag)];exact b5 _ _ q nb
   ·rw[Qe,Gp.dM ah];unfold Jb;grind
   ·rw[Gs,nm,Uh,xL,hs];rfl
   ·grind
   ·intro x U;rcases List.mem_append.1 U with h | h
    ·have e:=J x h;rw[Qh (fun q=>by rw[q,I]at e;cases e),Qh (Qg e hl)];exact e
    ·rw[List.mem_singleton.1 h];show upd (upd H5 l (.lst [])) d _ l=_;rw[Qh ld,Qe]
   grind
 ·rintro σ H5 ⟨v2,j,rfl,n,b5,I,nm,pP,J,fr⟩;refine k H5 d j n b5 ?_ ⟨I,pP,J,fun _ _=>rfl,(fun x U i a b h=>by cases h),(fun x U a h=>by cases h)⟩ fd fr;rw[nm,ad,Qbk (by rw[xD];exact xO _)]
theorem mM:∀{rw:List (String×Addr)} {s:String} {l:Addr},(s,l)∈rw->((rw.map (·.1)).map xE).Nodup->Xv (Jb rw) (Sum.inr (xE s))=some (.ref l)
 | x::r,s,l,h,nd=>by
  have j:(xE x.1::(r.map (·.1)).map xE).Nodup:=nd;rw[U3]at j;rcases List.mem_cons.1 h with e|e
  ·subst e;exact J2 rfl
  ·show Xv ((Sum.inr (xE x.1),V.ref x.2)::Jb r) _=_;rw[J3,mM e j.2];grind
theorem JR {rw:List (String×Addr)} {s:String} {rs:List WA} (nm:rw.map (·.1)=QN.map (·.1)) (h:(s,rs)∈QN):∃l,(s,l)∈rw/\Xv (Jb rw) (Sum.inr (xE s))=some (.ref l):=by
 have:s∈rw.map (·.1):=by rw[nm];exact List.mem_map.2 ⟨_,h,Z⟩
 obtain⟨x,j,rfl⟩:=List.mem_map.1 this;exact⟨x.2,j,mM j (by rw[nm];exact zV)⟩
structure C5(K:xB)(C:Addr)(H:Hp)(p dx a d:Addr)(t:xC)(i:Nat) (rw:List (String×Addr)) (ad:String->List Addr) (c:String->List xC):Prop where
 sc:YM K C H p dx a d t i
 rws:XA H d rw ad c
 nm:rw.map (·.1)=QN.map (·.1)
 sml:∀s,(c s).length<=1000000
inductive Bt(K:xB)(C:Addr)(vs:List V)(H:Hp)(Q:VK)(E:XK):Prop
 |mk (p dx a d:Addr) (t:xC) (i:Nat) (rw:List (String×Addr)) (ad:String->List Addr) (c:String->List xC):vs=[.ref p]->C5 K C H p dx a d t i rw ad c->Q (.bl (decide ((c "end").length=1)&&decide (i=t.length))) H->Bt K C vs H Q E
theorem Ia:a7 ["self"] ["self"] (a6 KP):=.mk'
theorem Fu(F:bG K "is_page" "Scan.is_page" KP f fd)(T:JZ K mg C)(U:Txt K mg):QC P w K mg base bD 1 f fd ["self"] (Bt K C):=by
 apply F.bM Ia;rintro _ H Q E ⟨p,dx,a,d,t,i,j,n,c,rfl,S,k⟩;refine⟨Z,fun _ _ _ _ hr=>?_⟩;have z:=Jd hr;obtain⟨l,hl,B⟩:=JR S.nm (show("end",[])∈QN by decide);have D:=S.sc
 refine⟨_,Qd (Qj (Y6 (QM XM (Qx Qp Wg U.len Wx (Qa (Yw z (Qw (pv 0) Z) Zi (fun _ _=>rfl)) Qc)) Qi (Qo _))
  (Y5 (QM XM (Qw (pv 0) Z) (Qx Qp Wg U.len Wx (Qa (Qw (pv 0) Z) Qc)) (Qo _))))),?_⟩
 have g:Z6 H d (.str (xE "end")) (some (.ref l)):=by have:=Z6.k (k:=Sum.inr (xE "end")) S.rws.ij;rw[B]at this;exact this
 refine⟨_,Z,p,C,dx,_,_,Z,D.ins,T.cl,T.nR,pk _ _ _,d,_,Z,g,l,_,Z,.inl (ba.of (S.rws.row _ hl)),Z,_,Z,?_⟩
 have G:decide (V.int ((((n "end").map V.ref).length:Nat):Int)=V.int 1)=decide ((c "end").length=1):=by rw[xD,S.rws.len _ hl];grind
 rw[G];by_cases h:(c "end").length=1
 ·rw[Wk h] at k ⊢;refine ZG ⟨_,Z,p,C,dx,_,_,Z,D.ins,T.cl,T.nP,jK _ _ _,_,Z,p,C,dx,_,_,Z,D.ins,T.cl,T.nT,B5 _ _ _,a,_,Z,.inl D.txt,Z,?_⟩
  have I:decide (V.int (i:Int)=V.int ((bl t).length:Int))=decide (i=t.length):=by rw[Ql];lia
  lia
 lia
noncomputable def Z5:List (String×List String):=[("",["workshop"]),("workshop",["window"]),("window",["point","line","pane","cut"]),("point",["point","line","pane","cut"]),("line",["line","pane","cut"]),("pane",["pane","cut"]),("cut",["lead"]),("lead",["margin"]),("margin",["ways"]),("ways",["shelf"]),
 ("shelf",["sheet","kind","glass","paint","end"]),("sheet",["sheet","kind","glass","paint","end"]),("kind",["kind","glass","paint","end"]),("glass",["glass","paint","end"]),("paint",["coats"]),("coats",["paint","end"]),("end",[])]
def XW(s:String):Bool:=s == "point" || s == "line" || s == "pane"
structure Ai(K:xB)(Pm:Params)(mg:Str->Option Value):Prop where
 ex:∃(a:Addr)(es:Array DictEntry)(n:Nat),mg "FOLLOWERS" = some (.ref a)/\K.lookup a=some ⟨.type "dict",none,.dict es n,#[]⟩/\G8 Pm es.toList/\
  ∀(s:String)(l:List String),(s,l)∈Z5->∃q:Addr,x4 K a (xE s)=some (some (.ref q))/\∀H,bY K H q (l.map fun x=>V.str (xE x))
structure Ab(K:xB)(Pm:Params)(mg:Str->Option Value):Prop where
 ex:∃(a:Addr)(es:Array DictEntry)(n:Nat),mg "MOST_LINES" = some (.ref a)/\(a==sysModules)=false/\K.lookup a=some ⟨.type "dict",none,.dict es n,#[]⟩/\G8 Pm es.toList/\
  (∀s rs,(s,rs)∈QN->XW s=false->x4 K a (xE s)=some none)/\∀s,XW s=true->∃t,x4 K a (xE s)=some (some (.int 65535 t))
theorem X1:∀s l,(s,l)∈Z5->l.length<=5/\∀x∈l,∃rs,(x,rs)∈QN:=by
 have h:Z5.all (fun x=>decide (x.2.length<=5)&&x.2.all fun y=>(QN.map (·.1)).contains y)=true:=by decide
 grind
def Xa(c:String->List xC)(s:String):Bool:=!XW s||decide ((c s).length<65535)
abbrev HJ:Stmt:=top 93
inductive Dg(K:xB)(C:Addr)(vs:List V)(H:Hp)(Q:VK)(E:XK):Prop
 |mk (p dx a d:Addr) (t:xC) (i:Nat) (rw:List (String×Addr)) (ad:String->List Addr) (c:String->List xC) (s:String) (l:List String):vs=[.ref p,.str (xE s)]->C5 K C H p dx a d t i rw ad c->(s,l)∈Z5->(∀H' o,Qn H H'->H' o=some (.lst ((l.filter (Xa c)).map fun x=>V.str (xE x)))->H o=none->Q (.ref o) H')->Dg K C vs H Q E
theorem AW:a7 ["scan","word","words","other"] ["scan","word"] (a6 HJ):=.mk'
theorem E1(F:bG K "words_behind" "words_behind" HJ f fd)(T:JZ K mg C)(U:Txt K mg)(Fo:Ai K w.params mg)(Mo:Ab K w.params mg):QC P w K mg base bD 1 f fd ["scan","word"] (Dg K C):=by
 obtain⟨aF,ai,nF,aj,ak,an,hF⟩:=Fo.ex;obtain⟨aM,B,nM,aa,ab,G,I,ao,aq⟩:=Mo.ex;apply F.bM AW;rintro _ H Q E ⟨p,dx,a,d,t,i,au,ad,c,s,l,rfl,S,hm,k⟩;refine⟨Z,fun _ _ _ _ hr=>?_⟩;have hu:=Jd hr;obtain⟨q,hq,hS⟩:=hF s l hm;obtain⟨av,ac⟩:=X1 s l hm
 refine⟨_,Qb (bA 2 AW.nd (QU Qc))
  (Qb (QL PassesOwn.never Z (jU (zu (Xr aj) (pv 1) (fun _ _=>rfl))) (b0 3 AW.nd)
   (Qd (QD (Xq (Q7 (ou (pv 3) (Xr aa))) (ZM (Qt ZE (Qx Qp Wg U.len Wx (Qa (Yw hu (Qw (pv 0) Z) (pv 3) (fun _ _=>rfl)) Qc)) (zu (Xr aa) (pv 3) (fun _ _=>rfl)) (Qo _)))).pt
    (Qd (Zf (Xg xX GA GB ZD (pv 2) (Qa (pv 3) Qc)))) Qq)))
  (Qd (Qj (pv 2)))),?_⟩
 refine⟨x9 _,fun o ho=>?_⟩
 refine⟨_,Z,aF,ai,nF,_,.ref q,_,Z,Z,ak,an,hq,Z,q,Z,⟨_,hS _⟩,zy (K:=K) (a:=q) (xs:=l.map fun x=>V.str (xE x)) (fun j σ H'=>∃v3:Option V,σ=[some (.ref p),some (.str (xE s)),some (.ref o),v3]/\Qn H H'/\H' o=some (.lst (((l.take j).filter (Xa c)).map fun x=>V.str (xE x))))
  ⟨none,Z,Qk _ ho,Qe⟩ (fun j σ H' _ _=>hS H') ?_ ?_⟩
 ·rintro j x σ H1 J ⟨v3,rfl,O,h1⟩;rw[xL] at J;cases n:l[j]? with
  |none=>rw[n]at J;cases J
  | some y=>
   rw[n]at J;have J:V.str (xE y)=x:=Wo J;subst J;obtain⟨rs,af⟩:=ac y (x6 n)
   have put:Xa c y=true->∃v3:Option V,[some (V.ref p),some (V.str (xE s)),some (V.ref o),some (V.str (xE y))]=[some (.ref p),some (.str (xE s)),some (.ref o),v3]/\Qn H (upd H1 o (.lst (((l.take j).filter (Xa c)).map (fun x=>V.str (xE x))++[V.str (xE y)])))/\
     upd H1 o (.lst (((l.take j).filter (Xa c)).map (fun x=>V.str (xE x))++[V.str (xE y)])) o=some (.lst (((l.take (j+1)).filter (Xa c)).map fun x=>V.str (xE x))):=fun z=>by
    refine⟨_,Z,fun b u e=>by rw[Qh (Qg e ho)];exact O _ _ e,?_⟩;rw[Qe,Uh,n,Qau];show _=some (HO.lst (((l.take j).filter (Xa c)++[y].filter (Xa c)).map _));rw[VP z,Gs];rfl
   have sz:(((l.take j).filter (Xa c)).map fun x=>V.str (xE x)).length<sizeLine:=by rw[xD];refine xZ (List.length_filter_le _ _) (xZ (show _<=5 from ?_) Wa);grind
   cases h3:XW y with
   | false=>
    have z:Xa c y=true:=by unfold Xa;rw[h3];rfl
    refine⟨_,Z,aM,B,nM,_,none,Z,Z,ab,G,I,ao y rs af h3,_,Z,ZG (ZG ?_)⟩;exact⟨_,Z,.inl ⟨Z,_,ba.of h1⟩,_,Z,o,_,_,Z,Z,h1,sz,put z⟩
   | true=>
    obtain⟨tk,ag⟩:=aq y h3;obtain⟨ly,ah,hv⟩:=JR S.nm af
    have g:Z6 H1 d (.str (xE y)) (some (.ref ly)):=by have:=Z6.k (k:=Sum.inr (xE y)) (O _ _ S.rws.ij);rw[hv]at this;exact this
    refine⟨_,Z,aM,B,nM,_,some _,Z,Z,ab,G,I,ag,_,Z,Jc ?_⟩;refine⟨_,Z,p,C,dx,_,_,Z,O _ _ S.sc.ins,T.cl,T.nR,pk _ _ _,_,Z,d,_,Z,g,ly,_,Z,.inl (ba.of (O _ _ (S.rws.row _ ah))),_,Z,aM,B,nM,_,.int 65535,_,Z,Z,G,I,ag,⟨tk,Z⟩,_,_,Z,Z,_,Z,?_⟩
    have e1:decide (((((ad y).map V.ref).length:Nat):Int)<65535)=decide ((c y).length<65535):=by rw[xD,S.rws.len _ ah];lia
    rw[e1];refine Qz (fun z=>?_) (fun z=>?_)
    ·have z:Xa c y=true:=by unfold Xa;rw[z,Bool.or_true]
     exact⟨_,Z,.inl ⟨Z,_,ba.of h1⟩,_,Z,o,_,_,Z,Z,h1,sz,put z⟩
    ·have z:¬ Xa c y=true:=by unfold Xa;rw[h3];simpa using z
     refine⟨_,Z,O,?_⟩;rw[Uh,n,Qau];grind
 ·rintro σ H1 ⟨v3,rfl,O,h1⟩;rw[xD,GC]at h1;exact⟨_,Z,k H1 o O h1 ho⟩
theorem XA.but{H H':Hp}{p d C dx:Addr} {fs:List (Str×V)} {rw:List (String×Addr)} {B:String->List Addr} (r:XA H d rw B c) (k:cF p H H') (n:H p=some (.ins C dx fs)):XA H' d rw B c where
 ij:=k _ _ r.ij (YI r.ij n (by intro z;cases z))
 pP:=r.pP
 row:=fun x j=>k _ _ (r.row x j) (YI (r.row x j) n (by intro z;cases z))
 len:=r.len
 oct:=fun x j i a b h1 h2=>k _ _ (r.oct x j i a b h1 h2) (YI (r.oct x j i a b h1 h2) n (by intro z;cases z))
 off:=r.off
def Cb(p:Addr) (rw:List (String×Addr)) (H H':Hp):Prop:=∀b u,H b=some u->b≠p->(∀x∈rw,b≠x.2)->H' b=some u
def QK(s:String){α:Type}(v:α)(f:String->List α):String->List α:=fun x=>if x=s then f x++[v] else f x
theorem XA.app{H:Hp}{d o l:Addr} {rw:List (String×Addr)} {B:String->List Addr} {s:String} (r:XA H d rw B c) (hl:(s,l)∈rw) (O:(rw.map (·.1)).Nodup) (ho:H o=some (.lst (bl b))) (hf:∀x∈rw,o≠x.2) :
  XA (upd H l (.lst ((B s).map V.ref++[V.ref o]))) d rw (QK s o B) (QK s b c):=by
 have uniq:∀x∈rw,x.2=l->x=(s,l):=by
  intro x n e;obtain⟨i,hi,rfl⟩:=Ve n;obtain⟨j,I,e2⟩:=Ve hl
  have:i=j:=by
   rcases Uu i j with q|q|q
   ·have:=List.pairwise_iff_getElem.1 r.pP i j (by rw[xD];exact hi) (by rw[xD];exact I) q;grind
   ·exact q
   ·have:=List.pairwise_iff_getElem.1 r.pP j i (by rw[xD];exact I) (by rw[xD];exact hi) q;grind
  lia
 have F:∀x∈rw,x.1=s->x=(s,l):=by
  intro x n e;obtain⟨i,hi,rfl⟩:=Ve n;obtain⟨j,I,e2⟩:=Ve hl
  have:i=j:=by
   rcases Uu i j with q|q|q
   ·have:=List.pairwise_iff_getElem.1 O i j (by rw[xD];exact hi) (by rw[xD];exact I) q;grind
   ·exact q
   ·have:=List.pairwise_iff_getElem.1 O j i (by rw[xD];exact I) (by rw[xD];exact hi) q;grind
  lia
 refine⟨?_,r.pP,?_,?_,?_,?_⟩
 ·rw[Qh (YI r.ij (r.row _ hl) (by intro z;cases z))];exact r.ij
 ·intro x n;by_cases e:x.1=s
  ·have:=F x n e;subst this;show upd H l _ l=some (HO.lst ((QK s o B s).map V.ref));rw[Qe];unfold QK;grind
  ·have ne:x.2≠l:=fun q=>e (by rw[uniq x n q]);rw[Qh ne];unfold QK;rw[Wh e];exact r.row x n
 ·intro x n;unfold QK;by_cases e:x.1=s
  ·rw[Wi e,Wi e,xG,xG,r.len x n];rfl
  ·rw[Wh e,Wh e];exact r.len x n
 ·intro x n i a U h1 h2;have J:∀ a,a∈B x.1->a≠l:=fun a G=>r.off x n a G (s,l) hl;unfold QK at h1 h2;by_cases e:x.1=s
  ·rw[Wi e] at h1 h2;rcases Ul i (B x.1).length with q | q
   ·rw[GY q]at h1;rw[GY (by rw[<-r.len x n];exact q)]at h2;rw[Qh (J a (x6 h1))];exact r.oct x n i a U h1 h2
   ·rw[Ut q] at h1;rw[Ut (by rw[<-r.len x n];exact q)] at h2;cases z:i-(B x.1).length with
    | zero=>
     rw[z]at h1;rw[<-r.len x n,z]at h2;cases h1;cases h2;rw[Qh (hf _ hl)];exact ho
    |succ m=>rw[z]at h1;cases h1
  ·rw[Wh e]at h1 h2;rw[Qh (J a (x6 h1))];exact r.oct x n i a U h1 h2
 ·intro x n a G y hy;unfold QK at G;by_cases e:x.1=s
  ·rw[Wi e] at G;rcases List.mem_append.1 G with h | h
   ·exact r.off x n a h y hy
   grind
  ·rw[Wh e]at G;exact r.off x n a G y hy
def Z7 (w:String×List WA) (t:xC):Option xC×Nat:=
 if w.1 = "coats" then((Pl.bq 4 t).1.map GX,(Pl.bq 4 t).2) else((Pl.bg ((Qv w.2).map lg) t).1.map (enc (Qv w.2)),(Pl.bg ((Qv w.2).map lg) t).2)
def Za (ws:List (String×List WA)) (t:xC):Option (String×xC)×Nat:=match Gb (QS ws) t with
 |.error n=>(none,n)
 |.ok (k,n)=>((Z7 (ws.getD k ("",[])) (t.drop n)).1.map fun b=>((ws.getD k ("",[])).1,b),n+(Z7 (ws.getD k ("",[])) (t.drop n)).2)
theorem yc{bs:List xC}{k n:Nat} (h:Gb bs t=.ok (k,n)):k<bs.length:=by
 unfold Gb at h;split at h
 ·rename_i i e;cases h;unfold Ge at e;obtain⟨x,j,rfl⟩:=Option.map_eq_some_iff.1 e;grind
 ·cases h
theorem zW:(QN.map (·.1)).Nodup:=by decide
abbrev HQ:Stmt:=top 99
def FK(K:xB)(C:Addr):Sp:=fun vs H Q _=>∃(p dx a d l:Addr) (t:xC) (i:Nat) (rw:List (String×Addr)) (j:String->List Addr) (c:String->List xC) (ws:List (String×List WA)),vs=[.ref p,.ref l]/\C5 K C H p dx a d t i rw j c/\ba K H l (ws.map fun x=>V.str (xE x.1))/\(∀x∈ws,x∈QN)/\
 ∀H',H' p=some (.ins C dx (sf a (i+(Za ws (t.drop i)).2) d))->Cb p rw H H'->match (Za ws (t.drop i)).1 with
  |some (s,b)=>∀o,XA H' d rw (QK s o j) (QK s b c)->Q (.str (xE s)) H'
  |none=>XA H' d rw j c->Q .bQ H'
theorem vA:a7 ["scan","words","word","sizes","octets"] ["scan","words"] (a6 HQ):=.mk'
theorem cF.Fd{p:Addr} {rw:List (String×Addr)} {H H':Hp} (k:cF p H H'):Cb p rw H H':=fun b u q nb _=>k _ _ q nb
theorem iF:∀s rs,(s,rs)∈QN->(∀z∈Qv rs,z∈[1,2,4,8])/\(s = "coats" -> Qv rs=[1,1,1,1]):=by intro s rs h;simp only[QN,GW,Prod.mk.injEq,GD,Ws]at h;rcases h with h|h|h|h|h|h|h|h|h|h|h|h|h|h|h|h<;>obtain⟨rfl,rfl⟩:=h<;>decide
theorem kG:∀s rs,(s,rs)∈QN->xE s=xE "coats" -> s = "coats" := by
 intro s rs h;simp only[QN,GW,Prod.mk.injEq,GD,Ws]at h;rcases h with h|h|h|h|h|h|h|h|h|h|h|h|h|h|h|h<;>obtain⟨rfl,rfl⟩:=h<;>decide +kernel
theorem Eh(F:bG K "take_line" "take_line" HQ f fd)(T:JZ K mg C) (TW:bu P w K mg base 3 "take_word" ["scan","words"] (Fj K C)) (NS:bu P w K mg base 1 "number_sizes" ["word"] (CC K)) (TC:bu P w K mg base 3 "take_coats" ["scan","sizes"] (BZ K C))
  (af:bu P w K mg base 3 "take_numbers" ["scan","sizes"] (sk K C)):QC P w K mg base bD 4 f fd ["scan","words"] (FK K C):=by
 apply F.bM vA;rintro _ H Q E ⟨p,dx,a,d,l,t,i,G,ad,c,ws,rfl,S,hl,hw,k⟩;refine⟨Z,fun _ _ _ _ hr=>?_⟩;have hu:=Jd hr
 refine⟨_,Qb (bA 2 vA.nd (Qs TW hr (Qa (pv 0) (Qa (pv 1) Qc))))
  (Qb (QD (Q7 (Y7 (pv 2))) (Qd (Qj QT)) Qq)
  (Qb (bA 3 vA.nd (Qs NS (hr.mono Wa) (Qa (pv 2) Qc)))
  (Qb (bA 4 vA.nd (XI (Qt XM (pv 2) Zi (Qo _)) (Qs TC hr (Qa (pv 0) (Qa (pv 3) Qc))) (Qs af hr (Qa (pv 0) (Qa (pv 3) Qc)))))
  (Qb (QD (Q7 (Y7 (pv 4))) (Qd (Qj QT)) Qq)
  (Qb (Zf (Xg xX GA GB ZD (Yw hu (Qw (pv 0) Z) (pv 2) (fun _ _=>rfl)) (Qa (pv 4) Qc)))
  (Qd (Qj (pv 2)))))))),?_⟩
 refine⟨_,Z,_,Z,p,dx,a,d,l,t,i,ws,Z,S.sc,hl,hw,fun H1 b1=>?_⟩;unfold Za at k;cases ho:Gb (QS ws) (t.drop i) with
 | error n=>
  intro O;rw[ho]at k;exact⟨_,Z,_,Z,ZG (k H1 O b1.Fd (S.rws.but b1 S.sc.ins))⟩
 | ok kn=>
  obtain⟨kx,n⟩:=kn;intro O;rw[ho]at k;simp only at k;have hk:kx<ws.length:=by have:=yc ho;unfold QS at this;rw[xD]at this;exact this
  generalize aj:ws.getD kx ("",[])=wd at k ⊢
  have J:(wd.1,wd.2)∈QN:=by grind
  obtain⟨ag,ah⟩:=iF _ _ J;refine⟨_,Z,_,Z,Jc ?_⟩;refine⟨_,Z,wd.1,wd.2,Z,J,fun H2 z s2 hz=>?_⟩;have b2:cF p H H2:=fun b u q nb=>s2 _ _ (b1 _ _ q nb);have D2:YM K C H2 p dx a d t (i+n):=S.sc.go b2 (s2 _ _ O);have dd:t.drop (i+n)=(t.drop i).drop n:=by rw[G7]
  have kN:∀m,Z7 wd ((t.drop i).drop n)=(none,m)->∀H',H' p=some (.ins C dx (sf a (i+n+m) d))->cF p H H'->XA H' d G ad c->Q .bQ H':=fun m e H' hp I rr=>by
   rw[e]at k;exact k H' (by rw[<-Gx];exact hp) I.Fd rr
  have fin:∀b m,Z7 wd ((t.drop i).drop n)=(some b,m)->∀H' o,XA H' d G (QK wd.1 o ad) (QK wd.1 b c)->H' p=some (.ins C dx (sf a (i+n+m) d))->Cb p G H H'->Q (.str (xE wd.1)) H':=fun b m e H' o rr hp I=>by
   grind
  refine⟨_,Z,Z,_,Z,Qz (fun hc=>?_) (fun hc=>?_)⟩
  ·have hc:wd.1 = "coats" := kG _ _ J (V.str.inj (Wj hc));have ai:H2 z=some (.lst (ni [1,1,1,1])):=by rw[hz,ah hc]
   refine⟨_,Z,_,Z,p,dx,a,d,z,t,i+n,Z,D2,ba.of ai,fun U B aa=>?_⟩;rcases hq:Pl.bq 4 (t.drop (i+n)) with⟨v|xs,m⟩
   ·rw[hq]at B;have I:cF p H U:=b2.trans aa;exact⟨_,Z,_,Z,ZG (kN m (by unfold Z7;rw[Wi hc,<-dd,hq];rfl) U B I (S.rws.but I S.sc.ins))⟩
   ·rw[hq] at B;intro o fo hO;have I:cF p H U:=b2.trans aa;have S3:XA U d G ad c:=S.rws.but I S.sc.ins;obtain⟨lw,j,hv⟩:=JR S.nm J
    have g:Z6 U d (.str (xE wd.1)) (some (.ref lw)):=by have:=Z6.k (k:=Sum.inr (xE wd.1)) S3.ij;rw[hv]at this;exact this
    have ab:H o=none:=b2.none (s2 _ _ O) fo;have ac:∀x∈G,o≠x.2:=fun x hx q=>by rw[q,S.rws.row x hx]at ab;cases ab
    refine⟨_,Z,_,Z,Jc ?_⟩;refine⟨_,Z,p,C,dx,_,_,Z,B,T.cl,T.nR,pk _ _ _,_,Z,d,_,Z,g,.inl ⟨Z,_,ba.of (S3.row _ j)⟩,_,Z,lw,_,_,Z,Z,S3.row _ j,?_,_,Z,?_⟩
    ·rw[xD,S.rws.len _ j];exact xZ (S.sml _) Wa
    ·have rr:=S3.app j (by rw[S.nm];exact zW) hO ac
     have np:p≠lw:=fun q=>by
      have e:=S3.row _ j;lia
     refine fin _ m (by unfold Z7;rw[Wi hc,<-dd,hq];rfl) _ o rr ?_ ?_
     ·rw[Qh np];exact B
     ·intro b u q nb nr;rw[Qh (nr _ j)];exact I _ _ q nb
  ·have hc:¬ wd.1 = "coats" := fun q=>hc (by rw[q];exact Wk Z);refine⟨_,Z,_,Z,p,dx,a,d,z,t,i+n,Qv wd.2,Z,D2,ba.of hz,ag,(zU _ _ J).1,fun U B aa=>?_⟩;rcases hq:Pl.bg ((Qv wd.2).map lg) (t.drop (i+n)) with ⟨v | xs,m⟩
   ·rw[hq]at B;have I:cF p H U:=b2.trans aa;exact⟨_,Z,_,Z,ZG (kN m (by unfold Z7;rw[Wh hc,<-dd,hq];rfl) U B I (S.rws.but I S.sc.ins))⟩
   ·rw[hq] at B;intro o fo hO;have I:cF p H U:=b2.trans aa;have S3:XA U d G ad c:=S.rws.but I S.sc.ins;obtain⟨lw,j,hv⟩:=JR S.nm J
    have g:Z6 U d (.str (xE wd.1)) (some (.ref lw)):=by have:=Z6.k (k:=Sum.inr (xE wd.1)) S3.ij;rw[hv]at this;exact this
    have ab:H o=none:=b2.none (s2 _ _ O) fo;have ac:∀x∈G,o≠x.2:=fun x hx q=>by rw[q,S.rws.row x hx]at ab;cases ab
    refine⟨_,Z,_,Z,Jc ?_⟩;refine⟨_,Z,p,C,dx,_,_,Z,B,T.cl,T.nR,pk _ _ _,_,Z,d,_,Z,g,.inl ⟨Z,_,ba.of (S3.row _ j)⟩,_,Z,lw,_,_,Z,Z,S3.row _ j,?_,_,Z,?_⟩
    ·rw[xD,S.rws.len _ j];exact xZ (S.sml _) Wa
    ·have rr:=S3.app j (by rw[S.nm];exact zW) hO ac
     have np:p≠lw:=fun q=>by
      have e:=S3.row _ j;lia
     refine fin _ m (by unfold Z7;rw[Wh hc,<-dd,hq];rfl) _ o rr ?_ ?_
     ·rw[Qh np];exact B
     ·intro b u q nb nr;rw[Qh (nr _ j)];exact I _ _ q nb
theorem nj{bs:List xC}{k n:Nat}(j:∀b∈bs,b≠[]) (h:Gb bs t=.ok (k,n)):1<=n/\t≠[]:=by
 have hk:=yc h;unfold Gb at h;split at h
 ·rename_i i e;cases h;unfold Ge at e;grind
 ·cases h
theorem oV (ws:List (String×List WA)):∀b∈QS ws,b≠[]:=by intro b j;unfold QS at j;obtain⟨x,_,rfl⟩:=List.mem_map.1 j;unfold ZP;simp
theorem qy {ws:List (String×List WA)} {x:String×xC} {n:Nat} (h:Za ws t=(some x,n)):1<=n/\t≠[]:=by
 unfold Za at h;cases e:Gb (QS ws) t with
 |error m=>rw[e]at h;cases h
 | ok j=>
  obtain⟨k,m⟩:=j;rw[e]at h;have:=nj (oV ws) e;have h2:m+_=n:=Wn Prod.snd h;exact⟨by lia,this.2⟩
theorem zI {ws:List (String×List WA)} {s:String} {n:Nat} (h:Za ws t=(some (s,b),n)):s∈ws.map (·.1):=by
 unfold Za at h;cases e:Gb (QS ws) t with
 |error m=>rw[e]at h;cases h
 | ok j=>
  obtain⟨k,m⟩:=j;rw[e]at h;have hk:k<ws.length:=by have:=yc e;unfold QS at this;rw[xD]at this;exact this
  have h1:((Z7 (ws.getD k ("",[])) (t.drop m)).1.map fun b=>((ws.getD k ("",[])).1,b))=some (s,b):=Wn Prod.fst h;obtain⟨B,_,z⟩:=Option.map_eq_some_iff.1 h1;have:(ws.getD k ("",[])).1=s:=Wn Prod.fst z;rw[<-this,Gv,xF hk];exact List.mem_map.2 ⟨_,xR hk,Z⟩
def Z0(s:String):List String:=((Z5.find? fun x=>x.1==s).map (·.2)).getD []
def ZT(l:List String):List (String×List WA):=l.map fun s=>(s,((QN.find? fun x=>x.1==s).map (·.2)).getD [])
def QY(s:String)(c:String->List xC):List (String×List WA):=ZT ((Z0 s).filter (Xa c))
def J6:Nat->String->(String->List xC)->xC->(String->List xC)×Nat
 |0,_,c,_=>(c,0)
 | f+1,s,c,t=>match Za (QY s c) t with
  |(none,n)=>(c,n)
  |(some (s',b),n)=>((J6 f s' (QK s' b c) (t.drop n)).1,n+(J6 f s' (QK s' b c) (t.drop n)).2)
theorem zT:∀(f g:Nat)(s:String)(c:String->List xC)(t:xC),t.length<f->t.length<g->J6 f s c t=J6 g s c t
 | f+1,g+1,s,c,t,h1,h2=>by
  unfold J6;rcases e:Za (QY s c) t with⟨v|⟨s',b⟩,n⟩
  ·rfl
  ·have:=qy e;have hl:0<t.length:=List.length_pos_iff.2 this.2;have hd:(t.drop n).length<t.length:=by rw[Gd];lia
   simp only;rw[zT f g s' (QK s' b c) (t.drop n) L L]
def QJ(s:String)(c:String->List xC)(t:xC):(String->List xC)×Nat:=J6 (t.length+1) s c t
theorem JQ(s:String)(c:String->List xC)(t:xC):QJ s c t=match Za (QY s c) t with
  |(none,n)=>(c,n)
  |(some (s',b),n)=>((QJ s' (QK s' b c) (t.drop n)).1,n+(QJ s' (QK s' b c) (t.drop n)).2):=by
 unfold QJ
 conv=>lhs;unfold J6
 rcases e:Za (QY s c) t with⟨v|⟨s',b⟩,n⟩
 ·rfl
 ·have:=qy e;have hl:0<t.length:=List.length_pos_iff.2 this.2;have hd:(t.drop n).length<t.length:=by rw[Gd];lia
  simp only;rw[zT t.length ((t.drop n).length+1) s' (QK s' b c) (t.drop n) hd L]
theorem Ax:∀s l,(s,l)∈Z5->Z0 s=l:=by intro s l h;simp only[Z5,GW,Prod.mk.injEq,GD,Ws]at h;rcases h with h|h|h|h|h|h|h|h|h|h|h|h|h|h|h|h|h<;>obtain⟨rfl,rfl⟩:=h<;>decide
theorem Ys{l:List String} (h:∀x∈l,∃rs,(x,rs)∈QN):∀x∈ZT l,x∈QN:=by
 intro x j;unfold ZT at j;obtain⟨s,n,rfl⟩:=List.mem_map.1 j;obtain⟨rs,hr⟩:=h s n
 have key:∀s rs,(s,rs)∈QN->((QN.find? fun x=>x.1==s).map (·.2)).getD []=rs:=by intro s rs h;simp only[QN,GW,Prod.mk.injEq,GD,Ws]at h;rcases h with h|h|h|h|h|h|h|h|h|h|h|h|h|h|h|h<;>obtain⟨rfl,rfl⟩:=h<;>decide
 rw[key s rs hr];exact hr
theorem YT:∀s rs,(s,rs)∈QN->(s,Z0 s)∈Z5:=by intro s rs h;simp only[QN,GW,Prod.mk.injEq,GD,Ws]at h;rcases h with h|h|h|h|h|h|h|h|h|h|h|h|h|h|h|h<;>obtain⟨rfl,rfl⟩:=h<;>decide
abbrev IZ:Stmt:=top 100
def c0:String->List xC:=fun _=>[]
inductive AL(K:xB)(C:Addr)(vs:List V)(H:Hp)(Q:VK)(E:XK):Prop
 |mk (a:Addr) (t:xC):vs=[.ref a]->ba K H a (bl t)->t.length<=1000000->(∀(H':Hp) (p dx d:Addr) (rw:List (String×Addr)) (ad:String->List Addr),Qn H H'->C5 K C H' p dx a d t (QJ "" c0 t).2 rw ad (QJ "" c0 t).1->Q (.ref p) H')->AL K C vs H Q E
theorem vr:a7 ["text","scan","word"] ["text"] (a6 IZ):=.mk'
def K':Option String->V|none=>.bQ|some s=>.str (xE s)
theorem Fs{f fI:Addr}{fd ab:FuncData}(F:bG K "scan_of" "scan_of" IZ f fd)(T:JZ K mg C)(M:Mk K C fI)(bI:Xu K ab ["self","text"] []) (G:QC P w K mg base bD 1 fI ab ["self","text"] (tP C))
  (TL:bu P w K mg base 4 "take_line" ["scan","words"] (FK K C)) (WB:bu P w K mg base 1 "words_behind" ["scan","word"] (Dg K C)):QC P w K mg base bD 5 f fd ["text"] (AL K C):=by
 apply F.bM vr;rintro _ H Q E ⟨a,t,rfl,hS,hz,k⟩;refine⟨Z,fun _ _ _ s hr=>?_⟩
 refine⟨_,Qb (bA 1 vr.nd (lT M G (hr.mono Wa) Z T.mgC bI .nil Zc (Qa (pv 0) Qc)))
  (Qb (bA 2 vr.nd Zi)
  (Qb (Yn PassesOwn.never (Q7 (ZW (pv 2))) (Qd (bA 2 vr.nd (Qs TL hr (Qa (pv 1) (Qa (Qs WB (hr.mono Wa) (Qa (pv 1) (Qa (pv 2) Qc))) Qc))))))
  (Qd (Qj (pv 1))))),?_⟩
 refine⟨_,Z,?_⟩;intro p dx np nd ne;refine⟨p,dx,a,Z,Qe,fun H1 d j ag b1 nm rr pP fr=>⟨Z,?_⟩⟩;have s1:Qn H H1:=fun b u q=>b1 _ _ (by rw[Qh (Qg q np),Qh (Qg q nd)];exact q) (Qg q np)
 have ah:∀x∈j,H x.2=none:=fun x J=>by
  have e:=fr x J;have n1:x.2≠p:=fun q=>by rw[q,Qe]at e;cases e
  rw[Qh n1]at e;have n2:x.2≠dx:=fun q=>by rw[q,Qe]at e;cases e
  rw[Qh n2]at e;exact e
 refine⟨fun m σ H'=>∃(U:Option String)(n:Nat)(B:String->List Addr)(c:String->List xC),σ=[some (.ref a),some (.ref p),some (K' U)]/\Qn H H'/\C5 K C H' p dx a d t n j B c/\(∀s,(c s).length+(t.drop n).length<=t.length)/\
   (match U with|none=>QJ "" c0 t=(c,n)/\m=0|some s=>(s,Z0 s)∈Z5/\QJ "" c0 t=((QJ s c (t.drop n)).1,n+(QJ s c (t.drop n)).2)/\m=(t.drop n).length+1),
  ⟨_,some "",0,fun _=>[],c0,Z,s1,⟨⟨ag,s1.seq hS⟩,rr,nm,fun _=>x9 _⟩,fun _=>by show 0+_<=_;rw[G6];lia,by decide,by rw[G6,U9],Z⟩,?_⟩
 rintro m σ H2 ⟨U,n,B,c,rfl,s2,S,cnt,im⟩;refine⟨_,Z,_,Z,?_⟩;cases U with
 | none=>
  obtain⟨e,rfl⟩:=im;refine Jc ⟨_,Z,k H2 p dx d j B s2 ?_⟩;rw[e];exact S
 | some s=>
  obtain⟨hf,e,rfl⟩:=im;refine ZG ?_
  refine⟨fun dA H'=>∃(I:Nat) (_:I<(t.drop n).length+1) (U:Option String) (n:Nat) (B:String->List Addr) (c:String->List xC),dA=[some (.ref a),some (.ref p),some (K' U)]/\Qn H H'/\C5 K C H' p dx a d t n j B c/\(∀s,(c s).length+(t.drop n).length<=t.length)/\
   (match U with|none=>QJ "" c0 t=(c,n)/\I=0|some s=>(s,Z0 s)∈Z5/\QJ "" c0 t=((QJ s c (t.drop n)).1,n+(QJ s c (t.drop n)).2)/\I=(t.drop n).length+1),fun dA H' ⟨I,hm,h⟩=>⟨I,hm,h⟩,?_⟩
  have all:=(X1 _ _ hf).2;refine⟨_,Z,_,Z,_,Z,p,dx,a,d,t,n,j,B,c,s,Z0 s,Z,S,hf,fun H3 o s3 h3 f3=>?_⟩;have S3:C5 K C H3 p dx a d t n j B c:=⟨⟨s3 _ _ S.sc.ins,s3.seq S.sc.txt⟩,⟨s3 _ _ S.rws.ij,S.rws.pP,fun x J=>s3 _ _ (S.rws.row x J),S.rws.len,fun x J i a b q1 q2=>s3 _ _ (S.rws.oct x J i a b q1 q2),S.rws.off⟩,S.nm,S.sml⟩;have wm:∀l:List String,(ZT l).map (fun x=>V.str (xE x.1))=l.map fun x=>V.str (xE x):=by intro l;simp[ZT]
  refine⟨p,dx,a,d,o,t,n,j,B,c,QY s c,Z,S3,?_,Ys (fun x J=>all x (List.mem_filter.1 J).1),fun H4 z b4=>?_⟩
  ·unfold QY;rw[wm];exact ba.of h3
  have s4:Qn H H4:=fun b u q=>b4 _ _ (s3 _ _ (s2 _ _ q)) (Qg q np) (fun x J=>Qg q (ah x J));have st:=JQ s c (t.drop n);rcases et:Za (QY s c) (t.drop n) with⟨v|⟨s',b⟩,I⟩
  ·rw[et]at z st;simp only at z st;intro aa;refine⟨0,Nat.succ_pos _,none,n+I,B,c,Z,s4,⟨⟨z,s4.seq hS⟩,aa,S.nm,S.sml⟩,fun x=>?_,?_,Z⟩;all_goals grind
  ·have pos:=qy et;have ac:=zI et;rw[et] at z st;simp only at z st;have ai:0<(t.drop n).length:=List.length_pos_iff.2 pos.2
   have aj:∃rs,(s',rs)∈QN:=by unfold QY ZT at ac;grind
   obtain⟨ak,af⟩:=aj;intro o' aa
   have O:∀x,(QK s' b c x).length+(t.drop (n+I)).length<=t.length:=fun x=>by
    have:=cnt x;rw[Gd]at this ai ⊢;unfold QK;grind
   refine⟨(t.drop (n+I)).length+1,?_,some s',n+I,QK s' o' B,QK s' b c,Z,s4,⟨⟨z,s4.seq hS⟩,aa,S.nm,fun x=>xM (xM (UU _ _) (O x)) hz⟩,O,YT _ _ af,?_,Z⟩
   ·grind
   ·rw[e,st,G7,Gx]
structure iq(K:xB)(H:Hp)(l:Addr)(as:List Addr)(bs:List xC):Prop where
 lst:ba K H l (as.map V.ref)
 len:as.length=bs.length
 oct:∀(i:Nat)(a:Addr)(b:xC),as[i]?=some a->bs[i]?=some b->H a=some (.lst (bl b))
theorem iq.same{H H':Hp}{l:Addr}{as:List Addr}{bs:List xC}(r:iq K H l as bs)(s:Qn H H'):iq K H' l as bs:=⟨s.seq r.lst,r.len,fun i a b h1 h2=>s _ _ (r.oct i a b h1 h2)⟩
abbrev HC:Stmt:=top 4
inductive wG(K:xB)(vs:List V)(H:Hp)(Q:VK)(E:XK):Prop
 |mk (l:Addr) (as:List Addr) (bs:List xC):vs=[.ref l]->iq K H l as bs->bs.flatten.length<=15000000->(∀H' o,Qn H H'->H o=none->H' o=some (.lst (bl bs.flatten))->Q (.ref o) H')->wG K vs H Q E
theorem Dd:a7 ["rows","octets","row"] ["rows"] (a6 HC):=.mk'
theorem Xo{α:Type} (bs:List (List α)) (j:Nat):(bs.take j).flatten.length<=bs.flatten.length:=by
 conv=>rhs;rw[<-Vu j bs]
 grind
theorem Es(F:bG K "joined" "joined" HC f fd):QC P w K mg base bD 1 f fd ["rows"] (wG K):=by
 apply F.bM Dd;rintro _ H Q E ⟨l,as,bs,rfl,aa,hz,k⟩;refine⟨Z,fun _ _ _ _ _=>?_⟩
 refine⟨_,Qb (bA 1 Dd.nd (QU Qc))
  (Qb (QL PassesOwn.never Z (Q4 (pv 0)) (b0 2 Dd.nd)
   (Qd (Zf (Xg xX GM GO ZR (pv 1) (Qa (pv 2) Qc)))))
  (Qd (Qj (pv 1)))),?_⟩
 refine⟨x9 _,fun o z=>?_⟩;have G:=Qk (.lst []) z;refine⟨_,Z,l,Z,⟨_,G.seq aa.lst⟩,Zs (K:=K) (a:=l) (xs:=as.map V.ref) (fun j σ H'=>∃B:Option V,eC (σ=[some (.ref l),some (.ref o),B]) (Qn H H') (H' o=some (.lst (bl (bs.take j).flatten)))) ⟨none,Z,G,by rw[Qe];rfl⟩ (fun j σ H' _ ⟨_,_,n,_⟩=>n.seq aa.lst) ?_ ?_⟩
 ·rintro j x σ H1 hx ⟨B,rfl,n,h1⟩;obtain⟨a,I,rfl⟩:=Zm hx;have J:j<as.length:=(List.getElem?_eq_some_iff.1 I).1;have O:bs[j]?=some (bs[j]'(by rw[<-aa.len];exact J)):=xF _;have hA:=n _ _ (aa.oct j a _ I O)
  have U:(bs.take (j+1)).flatten=(bs.take j).flatten++bs[j]'(by rw[<-aa.len];exact J):=by rw[Uh,O,List.flatten_append];simp
  refine⟨_,Z,.inl ⟨Z,_,ba.of h1⟩,_,Z,o,a,_,_,Z,Z,h1,hA,?_,_,Z,?_,?_⟩
  ·have:=Xo bs (j+1);rw[U,xG]at this;rw[Ql,Ql];exact xM (show _<=15000000 by lia) Wa
  ·exact fun b u e=>by rw[Qh (Qg e z)];exact n _ _ e
  ·rw[Qe,U];unfold bl;rw[Gs]
 ·rintro σ H1 ⟨B,rfl,n,h1⟩;rw[xD,aa.len,GC]at h1;exact⟨_,Z,k H1 o n z h1⟩
theorem XA.same{H H':Hp}{d:Addr} {rw:List (String×Addr)} {n:String->List Addr} (r:XA H d rw n c) (s:Qn H H'):XA H' d rw n c:=
 ⟨s _ _ r.ij,r.pP,fun x j=>s _ _ (r.row x j),r.len,fun x j i a b z B=>s _ _ (r.oct x j i a b z B),r.off⟩
theorem XA.get{H:Hp}{d:Addr} {rw:List (String×Addr)} {j:String->List Addr} {s:String} {rs:List WA} (K:xB) (r:XA H d rw j c) (nm:rw.map (·.1)=QN.map (·.1)) (h:(s,rs)∈QN) :
  ∃l,Z6 H d (.str (xE s)) (some (.ref l))/\iq K H l (j s) (c s):=by
 obtain⟨l,hl,n⟩:=JR nm h;refine⟨l,?_,ba.of (r.row _ hl),r.len _ hl,r.oct _ hl⟩;have:=Z6.k (k:=Sum.inr (xE s)) r.ij;rw[n]at this;exact this
def Hg(K:xB):List V->Hp->VK->Prop:=fun xs H Q=>∃(p:Addr)(ys:List V),xs=[V.ref p]/\(ba K H p ys\/bY K H p ys)/\Q (V.int (ys.length:Int)) H
theorem ox{X:Cx}(h:X.K=K):qw X (.builtin "len") (Hg K):=by subst h;exact Qp
structure Hh(H:Hp)(r:Addr)(as:List Addr)(bs:List xC):Prop where
 lst:H r=some (.lst (as.map V.ref))
 len:as.length=bs.length
 oct:∀(i:Nat)(a:Addr)(b:xC),as[i]?=some a->bs[i]?=some b->a≠r/\H a=some (.lst (bl b))
theorem Hh.snoc{H H':Hp}{r o:Addr}{as:List Addr}{bs:List xC}(m:Hh H r as bs)(s:Qn H H')(fo:H o=none) (F:H' o=some (.lst (bl b))):Hh (upd H' r (.lst (as.map V.ref++[V.ref o]))) r (as++[o]) (bs++[b]):=by
 have j:o≠r:=fun q=>by rw[q,m.lst]at fo;cases fo
 refine⟨by rw[Qe,Gs];rfl,by rw[xG,xG,m.len];rfl,fun i a G h1 h2=>?_⟩;rcases Ul i as.length with q|q
 ·rw[GY q]at h1;rw[GY (by rw[<-m.len];exact q)]at h2;obtain⟨B,e⟩:=m.oct i a G h1 h2;exact⟨B,by rw[Qh B];exact s _ _ e⟩
 ·rw[Ut q] at h1;rw[Ut (by rw[<-m.len];exact q),<-m.len] at h2;cases z:i-as.length with
  | zero=>
   rw[z]at h1 h2;cases h1;cases h2;exact⟨j,by rw[Qh j];exact F⟩
  |succ n=>rw[z]at h1;cases h1
abbrev Hn:Stmt:=top 103
abbrev Hm:Stmt:=top 102
inductive u5(K:xB)(vs:List V)(H:Hp)(Q:VK)(E:XK):Prop
 |mk (d l:Addr) (rw:List (String×Addr)) (ad:String->List Addr) (c:String->List xC) (ws:List String):vs=[.ref d,.ref l]->XA H d rw ad c->rw.map (·.1)=QN.map (·.1)->(ba K H l (ws.map fun s=>V.str (xE s)))->((∀s∈ws,∃rs,(s,rs)∈QN))->ws.length<=20->((ws.map fun s=>(c s).flatten).flatten.length<=15000000)->(∀H' o,Qn H H'->H o=none->H' o=some (.lst (bl (ws.map fun s=>(c s).flatten).flatten))->Q (.ref o) H')->u5 K vs H Q E
inductive vw(K:xB)(vs:List V)(H:Hp)(Q:VK)(E:XK):Prop
 |mk (d l:Addr) (rw:List (String×Addr)) (ad:String->List Addr) (c:String->List xC) (ws:List String) (z:Nat) (y:Int):vs=[.ref d,.ref l,.int y]->y=(z:Int)->XA H d rw ad c->rw.map (·.1)=QN.map (·.1)->(ba K H l (ws.map fun s=>V.str (xE s)))->((∀s∈ws,∃rs,(s,rs)∈QN))->ws.length<=20->z<=8->(∀H' o,Qn H H'->H o=none->H' o=some (.lst (bl (ws.map fun s=>Gk z (c s).length).flatten))->Q (.ref o) H')->vw K vs H Q E
theorem BB:a7 ["rows","words","word"] ["rows","words"] (a6 Hn):=.mk'
theorem BG:a7 ["rows","words","size","word"] ["rows","words","size"] (a6 Hm):=.mk'
theorem lU{ws:List String}{j:Nat}{x:V} (h:(ws.map fun s=>V.str (xE s))[j]?=some x):∃s,ws[j]?=some s/\x=.str (xE s):=by grind
theorem E6(F:bG K "row_octets" "row_octets" Hn f fd) (J:bu P w K mg base 1 "joined" ["rows"] (wG K)):QC P w K mg base bD 2 f fd ["rows","words"] (u5 K):=by
 apply F.bM BB;rintro _ H Q E ⟨d,l,aa,ad,c,ws,rfl,R,nm,hl,hw,hz,O,k⟩;refine⟨Z,fun _ _ _ s hr=>?_⟩;have hu:=Jd hr
 refine⟨_,Qd (Qj (Qs J hr (Qa (qR (own:=[("word",2)]) Z BB.nd (Q4 (pv 1)) (ZI (N:=["rows","words","word"]) (sc:=a6 Hn) Wb) (fun _ _ _ _ _=>b0 2 BB.nd) (fun _ _ _ _ _=>Jn)
  (fun _ _ _ _ _=>by exact Qs J hr (Qa (Yw hu (pv 0) (pv 2) (fun _ _=>rfl)) Qc))) Qc))),?_⟩
 refine⟨_,Z,l,Z,⟨_,hl⟩,fun r n=>qe (K:=K) (a:=l) (xs:=ws.map fun s=>V.str (xE s)) (fun i H'=>Qn H H'/\∃as,Hh H' r as ((ws.take i).map fun s=>(c s).flatten)) ⟨Qk _ n,[],by rw[Qe];rfl,Z,fun i a b h=>by cases h⟩ (fun i H' _ ⟨j,_⟩=>j.seq hl) ?_ ?_⟩
 ·rintro i x H2 hx ⟨j,as,m⟩;obtain⟨y,B,rfl⟩:=lU hx;obtain⟨rs,G⟩:=hw y (x6 B);obtain⟨ly,g,ab⟩:=(R.same j).get K nm G;have hi:i<ws.length:=(List.getElem?_eq_some_iff.1 B).1
  have bd:(c y).flatten.length<=15000000:=by refine xM ?_ O;have:(c y).flatten∈ws.map fun s=>(c s).flatten:=List.mem_map.2 ⟨y,x6 B,Z⟩;exact(List.sublist_flatten_of_mem this).length_le
  refine⟨Z,_,Z,_,Z,d,_,Z,g,ly,ad y,c y,Z,ab,bd,fun U o z fo I=>?_⟩;refine⟨_,z _ _ m.lst,?_,?_,as++[o],?_⟩
  ·rw[xD,m.len,xD,Go];exact xZ (show _<=20 by lia) Wa
  ·exact fun b u e=>by rw[Qh (Qg e n)];exact z _ _ (j _ _ e)
  ·rw[Uh,B,Gs];exact m.snoc z fo I
 ·rintro H2 ⟨j,as,m⟩;rw[xD,GC] at m;refine⟨r,as,_,Z,⟨ba.of m.lst,m.len,fun i a b h1 h2=>(m.oct i a b h1 h2).2⟩,O,fun U o z fo I=>?_⟩;refine k U o (j.trans z) ?_ I;cases e:H o with
  |none=>rfl
  |some u=>rw[j _ _ e]at fo;cases fo
theorem EB(F:bG K "count_octets" "count_octets" Hm f fd)(U:Txt K mg) (JN:bu P w K mg base 1 "joined" ["rows"] (wG K)) (OO:bu P w K mg base 1 "octets_of" ["number","size"] rR):QC P w K mg base bD 2 f fd ["rows","words","size"] (vw K):=by
 apply F.bM BG;rintro _ H Q E ⟨d,l,aa,ad,c,ws,z,y,rfl,rfl,R,nm,hl,hw,hz,O,k⟩;refine⟨Z,fun _ _ _ s hr=>?_⟩;have hu:=Jd hr
 refine⟨_,Qd (Qj (Qs JN hr (Qa (qR (own:=[("word",3)]) Z BG.nd (Q4 (pv 1)) (ZI (N:=["rows","words","size","word"]) (sc:=a6 Hm) Wb) (fun _ _ _ _ _=>b0 3 BG.nd) (fun _ _ _ _ _=>Jn)
  (fun _ _ _ _ _=>by exact Qs OO hr (Qa (Qx (ox Z) Wg U.len Wx (Qa (Yw hu (pv 0) (pv 3) (fun _ _=>rfl)) Qc)) (Qa (pv 2) Qc)))) Qc))),?_⟩
 refine⟨_,Z,l,Z,⟨_,hl⟩,fun r n=>qe (K:=K) (a:=l) (xs:=ws.map fun s=>V.str (xE s)) (fun i H'=>Qn H H'/\∃as,Hh H' r as ((ws.take i).map fun s=>Gk z (c s).length)) ⟨Qk _ n,[],by rw[Qe];rfl,Z,fun i a b h=>by cases h⟩ (fun i H' _ ⟨j,_⟩=>j.seq hl) ?_ ?_⟩
 ·rintro i x H2 hx ⟨j,as,m⟩;obtain⟨y,G,rfl⟩:=lU hx;obtain⟨rs,I⟩:=hw y (x6 G);obtain⟨ly,g,ab⟩:=(R.same j).get K nm I;have hi:i<ws.length:=(List.getElem?_eq_some_iff.1 G).1;refine⟨Z,_,Z,_,Z,d,_,Z,g,ly,_,Z,.inl ab.lst,_,Z,(c y).length,z,_,_,Z,by rw[xD,ab.len],Z,xM O Wa,fun H3 o B fo J=>?_⟩;refine⟨_,B _ _ m.lst,?_,?_,as++[o],?_⟩
  ·rw[xD,m.len,xD,Go];exact xZ (show _<=20 by lia) Wa
  ·exact fun b u e=>by rw[Qh (Qg e n)];exact B _ _ (j _ _ e)
  ·rw[Uh,G,Gs];exact m.snoc B fo J
 ·rintro H2 ⟨j,as,m⟩;rw[xD,GC] at m;refine⟨r,as,_,Z,⟨ba.of m.lst,m.len,fun i a b h1 h2=>(m.oct i a b h1 h2).2⟩,?_,fun H3 o B fo J=>?_⟩
  ·have:∀l:List String,(l.map fun s=>Gk z (c s).length).flatten.length=z*l.length:=by
    intro l;induction l with
    |nil=>simp
    |cons a l ih=>rw[xV,Gw,xG,ih,Xn,xQ,Qbl];lia
   rw[this];exact xM (Nat.mul_le_mul O hz) Wa
  ·refine k H3 o (j.trans B) ?_ J;cases e:H o with
   |none=>rfl
   |some u=>rw[j _ _ e]at fo;cases fo
noncomputable def Zk(c:String->List xC):xC:=Vi++(["window"].map fun s=>(c s).flatten).flatten++(["point","line","pane"].map fun s=>Gk 2 (c s).length).flatten++[0,0]++(["point","line","pane"].map fun s=>(c s).flatten).flatten
def BR(c:String->List xC):Prop:=∀s rs,(s,rs)∈QN->(c s).flatten.length<=700000
abbrev Ij:Stmt:=top 104
inductive CW(K:xB)(vs:List V)(H:Hp)(Q:VK)(E:XK):Prop
 |mk (d:Addr) (rw:List (String×Addr)) (ad:String->List Addr) (c:String->List xC):vs=[.ref d]->XA H d rw ad c->rw.map (·.1)=QN.map (·.1)->BR c->(∀H' o,Qn H H'->H o=none->H' o=some (.lst (bl (Zk c)))->Q (.ref o) H')->CW K vs H Q E
theorem Co:a7 ["rows","octets","words"] ["rows"] (a6 Ij):=.mk'
theorem Z3(a b:xC):bl a++bl b=bl (a++b):=by unfold bl;rw[Gs]
theorem Jx(h:BR c):∀ws:List String,(∀s∈ws,∃rs,(s,rs)∈QN)->(ws.map fun s=>(c s).flatten).flatten.length<=700000*ws.length
 |[],_=>by simp
 | s::ws,hw=>by
  obtain⟨rs,hr⟩:=hw s We;have h1:=h s rs hr;have h2:=Jx h ws fun z hz=>hw z (by simp[hz]);rw[xV,Gw,xG,xQ];lia
theorem Jy(c:String->List xC)(z:Nat):∀ws:List String,(ws.map fun s=>Gk z (c s).length).flatten.length=z*ws.length
 |[]=>by simp
 | s::ws=>by
  rw[xV,Gw,xG,Jy c z ws,Xn,xQ,Qbl];lia
theorem Qn.free{H H':Hp}{o:Addr}(s:Qn H H')(h:H' o=none):H o=none:=by
 cases e:H o with
 |none=>rfl
 |some u=>rw[s _ _ e]at h;cases h
theorem IQ:∀s∈["window"],∃rs,(s,rs)∈QN:=by intro s h;rw[List.mem_singleton.1 h];exact⟨[(2,4)],by decide⟩
theorem Hw:∀s∈["point","line","pane"],∃rs,(s,rs)∈QN:=by
 intro s h;simp only[GW,GD,Ws]at h;rcases h with rfl|rfl|rfl
 ·exact⟨[(2,4)],by decide⟩
 ·exact⟨[(2,2)],by decide⟩
 ·exact⟨[(2,4),(2,2)],by decide⟩
theorem EW(F:bG K "cartoon_told" "cartoon_told" Ij f fd)(U:Txt K mg)(Sg:EM K mg "CARTOON_SIGN" [.int 71,.int 76,.int 65,.int 49]) (RO:bu P w K mg base 2 "row_octets" ["rows","words"] (u5 K)) (CO:bu P w K mg base 2 "count_octets" ["rows","words","size"] (vw K)) :
  QC P w K mg base bD 3 f fd ["rows"] (CW K):=by
 obtain⟨qs,ac,af⟩:=Sg.ex;apply F.bM Co;rintro _ H Q E ⟨d,j,ad,c,rfl,R,nm,J,k⟩;refine⟨Z,fun _ _ _ s hr=>?_⟩
 refine⟨_,Qb (bA 1 Co.nd (QA Xm (Js Xz Wg U.lst YB (Qa (Xr ac) Qc)) (Qs RO hr (Qa (pv 0) (Qa (QU (Qa Zi Qc)) Qc)))))
  (Qb (bA 2 Co.nd (QU (Qa Zi (Qa Zi (Qa Zi Qc)))))
  (Qd (Qj (QA Xm (QA Xm (QA Xm (pv 1) (Qs CO hr (Qa (pv 0) (Qa (pv 2) (Qa Qi Qc))))) (QU (Qa Qi (Qa Qi Qc)))) (Qs RO hr (Qa (pv 0) (Qa (pv 2) Qc))))))),?_⟩
 have b1:=Jx J ["window"] IQ;have b3:=Jx J ["point","line","pane"] Hw;refine⟨qs,_,Z,.inr (af _),fun l1 h1=>⟨_,Z,(by show 1<=sizeLine;decide),fun w1 O=>?_⟩⟩;have s1:=Qk (.lst [V.int 71,V.int 76,V.int 65,V.int 49]) h1;have s2:=s1.trans (Qk (.lst [V.str (xE "window")]) O);refine⟨d,w1,j,ad,c,["window"],Z,R.same s2,nm,ba.of Qe,IQ,by decide,xM b1 Wa,fun H2 o2 s3 f2 h2=>?_⟩;have ag:=s2.trans s3;have l2:H2 l1=some (.lst (bl Vi)):=s3 _ _ (by rw[Qh (Qg Qe O),Qe];rfl);refine⟨l1,o2,_,_,Z,Z,l2,h2,?_,fun q hq=>?_⟩
 ·rw[Ql,Ql];exact xM (show _<=700004 from Gz (show Gla.MAGIC.length<=4 by decide) b1) Wa
 have s4:=ag.trans (Qk (.lst (bl Vi++bl (["window"].map fun s=>(c s).flatten).flatten)) hq);generalize ah:upd H2 q (.lst (bl Vi++bl (["window"].map fun s=>(c s).flatten).flatten))=H3 at s4 ⊢;have q3:H3 q=some (.lst (bl (Vi++(["window"].map fun s=>(c s).flatten).flatten))):=by rw[<-ah,Qe,Z3]
 refine⟨(by show 3<=sizeLine;decide),fun w3 ai=>?_⟩;have n:=Qk (.lst [V.str (xE "point"),V.str (xE "line"),V.str (xE "pane")]) ai;generalize aj:upd H3 w3 (.lst [V.str (xE "point"),V.str (xE "line"),V.str (xE "pane")])=H4 at n ⊢;have s5:=s4.trans n;have w4:H4 w3=some (.lst (["point","line","pane"].map fun s=>V.str (xE s))):=by rw[<-aj,Qe];rfl
 have q4:=n _ _ q3;refine⟨_,Z,_,Z,_,Z,d,w3,j,ad,c,["point","line","pane"],2,_,Z,Z,R.same s5,nm,ba.of w4,Hw,by decide,by decide,fun H5 o5 B f5 h5=>?_⟩;have s6:=s5.trans B;refine⟨q,o5,_,_,Z,Z,B _ _ q4,h5,?_,fun q5 ak=>?_⟩
 ·rw[Ql,Ql,Jy,xG];exact xM (show _<=700010 from Gz (Gz (show Gla.MAGIC.length<=4 by decide) b1) (show 2*3<=6 by decide)) Wa
 rw[Z3];generalize hA:Vi++(["window"].map fun s=>(c s).flatten).flatten++(["point","line","pane"].map fun s=>Gk 2 (c s).length).flatten=A1
 have la:A1.length<=700010:=by rw[<-hA,xG,xG,Jy];exact Gz (Gz (show Gla.MAGIC.length<=4 by decide) b1) (show 2*3<=6 by decide)
 have aa:=Qk (.lst (bl A1)) ak;generalize an:upd H5 q5 (.lst (bl A1))=H6 at aa ⊢;have q6:H6 q5=some (.lst (bl A1)):=by rw[<-an,Qe]
 refine⟨(by show 2<=sizeLine;decide),fun z hz=>?_⟩;have G:=Qk (.lst [V.int 0,V.int 0]) hz;generalize ao:upd H6 z (.lst [V.int 0,V.int 0])=H7 at G ⊢;have z7:H7 z=some (.lst (bl [0,0])):=by rw[<-ao,Qe];rfl
 refine⟨q5,z,_,_,Z,Z,G _ _ q6,z7,?_,fun q8 aq=>?_⟩
 ·rw[Ql,Ql];exact xM (Gz la (show([0,0]:xC).length<=2 by decide)) Wa
 rw[Z3];have ab:=Qk (.lst (bl (A1++[0,0]))) aq;generalize au:upd H7 q8 (.lst (bl (A1++[0,0])))=H8 at ab ⊢;have av:H8 q8=some (.lst (bl (A1++[0,0]))):=by rw[<-au,Qe]
 have s8:=B.trans (aa.trans (G.trans ab));have s9:=s5.trans s8;refine⟨_,Z,_,Z,d,w3,j,ad,c,["point","line","pane"],Z,R.same s9,nm,ba.of (s8 _ _ w4),Hw,by decide,xM b3 Wa,fun H9 o9 I f9 h9=>?_⟩;refine⟨q8,o9,_,_,Z,Z,I _ _ av,h9,?_,fun u hu=>?_⟩
 ·rw[Ql,Ql,xG];exact xM (Gz (Gz la (show([0,0]:xC).length<=2 by decide)) b3) Wa
 rw[Z3];refine k _ u ((s9.trans I).trans (Qk _ hu)) ((s9.trans I).free hu) ?_;rw[Qe,<-hA];rfl
def Zb:List xC->List xC->xC
 |x::xs,y::ys=>x++y++Zb xs ys
 |_,_=>[]
theorem qS:∀{xs ys:List xC} {j:Nat} {x y:xC},xs[j]?=some x->ys[j]?=some y->Zb (xs.take (j+1)) (ys.take (j+1))=Zb (xs.take j) (ys.take j)++x++y
 |a::xs,b::ys,0,x,y,h1,h2=>by cases h1;cases h2;simp[Zb]
 | a::xs,b::ys,j+1,x,y,h1,h2=>by
  show a++b++Zb (xs.take (j+1)) (ys.take (j+1))=(a++b++Zb (xs.take j) (ys.take j))++x++y;rw[qS (xs:=xs) (ys:=ys) h1 h2];simp only[GV]
theorem Yx:∀(xs ys:List xC),(Zb xs ys).length<=xs.flatten.length+ys.flatten.length
 |[],_=>by simp[Zb]
 |x::xs,[]=>by simp[Zb]
 | x::xs,y::ys=>by
  have:=Yx xs ys;show(x++y++Zb xs ys).length<=_;rw[xG,xG,Gw,Gw,xG,xG];lia
theorem z8:∀(xs ys:List xC),Zb (xs.take (min xs.length ys.length)) (ys.take (min xs.length ys.length))=Zb xs ys
 |[],_=>by simp[Zb]
 |x::xs,[]=>by simp[Zb]
 | x::xs,y::ys=>by
  rw[xQ,xQ,Nat.succ_min_succ];show x++y++Zb (xs.take _) (ys.take _)=x++y++Zb xs ys;rw[z8 xs ys]
abbrev Ks:Stmt:=top 105
inductive BY(K:xB)(vs:List V)(H:Hp)(Q:VK)(E:XK):Prop
 |mk (d:Addr) (rw:List (String×Addr)) (ad:String->List Addr) (c:String->List xC):vs=[.ref d]->XA H d rw ad c->rw.map (·.1)=QN.map (·.1)->BR c->(∀H' o,Qn H H'->H o=none->H' o=some (.lst (bl (Zb (c "paint") (c "coats"))))->Q (.ref o) H')->BY K vs H Q E
theorem vd:a7 ["rows","octets","bands","coats"] ["rows"] (a6 Ks):=.mk'
theorem ED(F:bG K "paintings_told" "paintings_told" Ks f fd)(U:Txt K mg):QC P w K mg base bD 1 f fd ["rows"] (BY K):=by
 apply F.bM vd;rintro _ H Q E ⟨d,aa,ad,c,rfl,R,nm,B,k⟩;refine⟨Z,fun _ _ _ _ hr=>?_⟩;have hu:=Jd hr;have m1:("paint",[(32,2)])∈QN:=by decide
 have m2:("coats",[(4,1)])∈QN:=by decide
 have lb:∀j,(Zb ((c "paint").take j) ((c "coats").take j)).length<=1400000:=fun j=>by
  have h1:=B _ _ m1;have h2:=B _ _ m2;have h3:=Yx ((c "paint").take j) ((c "coats").take j);have h4:=Xo (c "paint") j;have h5:=Xo (c "coats") j;lia
 refine⟨_,Qb (bA 1 vd.nd (QU Qc))
  (Qb (QL PassesOwn.never Z (rQ Z U.zip (Qa (Yw hu (pv 0) Zi (fun _ _=>rfl)) (Qa (Yw hu (pv 0) Zi (fun _ _=>rfl)) Qc))) (ZF (n:=2) Z (QF (b0 2 vd.nd) (QF (b0 3 vd.nd) Zl)))
   (Qb (Zf (Xg xX GM GO ZR (pv 1) (Qa (pv 2) Qc)))
   (Qd (Zf (Xg xX GM GO ZR (pv 1) (Qa (pv 3) Qc))))))
  (Qd (Qj (pv 1)))),?_⟩
 refine⟨x9 _,fun o G=>?_⟩;have I:=Qk (.lst []) G;obtain⟨l1,k1,v1⟩:=JR nm m1;obtain⟨l2,k2,J⟩:=JR nm m2;have O:iq K H l1 (ad "paint") (c "paint"):=⟨ba.of (R.row _ k1),R.len _ k1,R.oct _ k1⟩;have L2:iq K H l2 (ad "coats") (c "coats"):=⟨ba.of (R.row _ k2),R.len _ k2,R.oct _ k2⟩
 have g1:Z6 (upd H o (.lst [])) d (.str (xE "paint")) (some (.ref l1)):=by have:=Z6.k (k:=Sum.inr (xE "paint")) (R.same I).ij;rw[v1]at this;exact this
 have g2:Z6 (upd H o (.lst [])) d (.str (xE "coats")) (some (.ref l2)):=by have:=Z6.k (k:=Sum.inr (xE "coats")) (R.same I).ij;rw[J]at this;exact this
 refine⟨_,Z,d,_,Z,g1,_,Z,d,_,Z,g2,l1,l2,_,_,Z,I.seq O.lst,I.seq L2.lst,my (K:=K) (a:=l1) (b:=l2) (xs:=(ad "paint").map V.ref) (ys:=(ad "coats").map V.ref) (p:=2) (q:=3) (n:=min (c "paint").length (c "coats").length) (fun j σ H'=>uk fun(J v3:Option V)=>eC (σ=[some (.ref d),some (.ref o),J,v3]) (Qn H H') (H' o=some (.lst (bl (Zb ((c "paint").take j) ((c "coats").take j))))))
  (by rw[xD,xD,O.len,L2.len]) ⟨none,none,Z,I,by rw[Qe];rfl⟩ (fun j σ H' _ ⟨_,_,_,z,_⟩=>⟨z.seq O.lst,z.seq L2.lst⟩) ?_ ?_⟩
 ·rintro j x y σ H1 H2 hx hy ⟨J,v3,rfl,z,h1⟩ sm;obtain⟨a,ha,rfl⟩:=Zm hx;obtain⟨b,hb,rfl⟩:=Zm hy;have j1:j<(c "paint").length:=by rw[<-O.len];exact (List.getElem?_eq_some_iff.1 ha).1
  have j2:j<(c "coats").length:=by rw[<-L2.len];exact(List.getElem?_eq_some_iff.1 hb).1
  have e1:=xF j1;have e2:=xF j2;have s2:=z.trans sm;have hA:=s2 _ _ (O.oct j a _ ha e1);have hB:=s2 _ _ (L2.oct j b _ hb e2);have h2:=sm _ _ h1;have bo:b≠o:=Qg (L2.oct j b _ hb e2) G;have et:=qS e1 e2;have lt:=lb (j+1);rw[et,xG,xG]at lt;refine⟨_,Z,.inl ⟨Z,_,ba.of h2⟩,_,Z,o,a,_,_,Z,Z,h2,hA,?_,?_⟩
  ·rw[Ql,Ql];exact xM (show _<=1400000 by lia) Wa
  refine⟨_,Z,.inl ⟨Z,_,ba.of Qe⟩,_,Z,o,b,_,bl ((c "coats")[j]),Z,Z,Qe,?_,?_,?_⟩
  ·exact .trans (Qh bo) hB
  ·rw[Z3,Ql,Ql,xG];exact xM lt Wa
  ·refine⟨_,_,Z,fun x u e=>?_,?_⟩
   ·rw[Qh (Qg e G),Qh (Qg e G)];exact s2 _ _ e
   ·rw[Qe,Z3,Z3,et]
 ·rintro σ H1 ⟨J,v3,rfl,z,h1⟩;rw[z8]at h1;exact⟨_,Z,k H1 o z G h1⟩
def d8(c:String->List xC)(ws:List String):xC:=(ws.map fun s=>(c s).flatten).flatten
def pD(c:String->List xC)(z:Nat)(ws:List String):xC:=(ws.map fun s=>Gk z (c s).length).flatten
def YJ(c:String->List xC):xC:=G5++Gk 4 (Zk c).length++d8 c ["cut","lead","margin","ways"]++pD c 4 ["sheet","kind","glass","paint"]++d8 c ["shelf"]
def Yj(c:String->List xC):xC:=YJ c++Zk c++d8 c ["sheet","kind","glass"]++Zb (c "paint") (c "coats")
theorem zx:∀ws:List String,(ws.all fun y=>(QN.map (·.1)).contains y)=true->∀s∈ws,∃rs,(s,rs)∈QN:=by grind
theorem jP(h:BR c){ws:List String} (hw:∀s∈ws,∃rs,(s,rs)∈QN):(d8 c ws).length<=700000*ws.length:=Jx h ws hw
theorem wL(c:String->List xC)(z:Nat)(ws:List String):(pD c z ws).length=z*ws.length:=Jy c z ws
theorem oB(h:BR c):(Zk c).length<=2800012:=by have j:=Jx h ["window"] IQ;have n:=Jx h ["point","line","pane"] Hw;unfold Zk;rw[xG,xG,xG,xG,Jy];have:Gla.MAGIC.length=4:=rfl;simp only[xQ,U0]at j n ⊢;lia
abbrev Il:Stmt:=top 106
inductive C'(K:xB)(vs:List V)(H:Hp)(Q:VK)(E:XK):Prop
 |mk (d:Addr) (rw:List (String×Addr)) (ad:String->List Addr) (c:String->List xC):vs=[.ref d]->XA H d rw ad c->rw.map (·.1)=QN.map (·.1)->BR c->(∀H' o,Qn H H'->H o=none->H' o=some (.lst (bl (Yj c)))->Q (.ref o) H')->C' K vs H Q E
theorem C2:a7 ["rows","cartoon","head"] ["rows"] (a6 Il):=.mk'
theorem zj{H H':Hp}{q:Addr}{o:HO}(s:Qn H H')(j:H q=none):Qn H (upd H' q o):=fun b u e=>by rw[Qh (Qg e j)];exact s _ _ e
theorem Ex(F:bG K "workshop_told" "workshop_told" Il f fd)(U:Txt K mg)(Sg:EM K mg "WORKSHOP_SIGN" [.int 71,.int 76,.int 65,.int 87]) (RO:bu P w K mg base 2 "row_octets" ["rows","words"] (u5 K)) (CO:bu P w K mg base 2 "count_octets" ["rows","words","size"] (vw K))
  (OO:bu P w K mg base 1 "octets_of" ["number","size"] rR) (CT:bu P w K mg base 3 "cartoon_told" ["rows"] (CW K)) (PT:bu P w K mg base 1 "paintings_told" ["rows"] (BY K)):QC P w K mg base bD 4 f fd ["rows"] (C' K):=by
 obtain⟨qs,aC,aD⟩:=Sg.ex;apply F.bM C2;rintro _ H Q E ⟨d,z,ad,c,rfl,R,nm,j,k⟩;refine⟨Z,fun _ _ _ s hr=>?_⟩;have an:ZJ 1 _:=hr.mono Wa;have G:ZJ 2 _:=hr.mono Wa
 refine⟨_,Qb (bA 1 C2.nd (Qs CT hr (Qa (pv 0) Qc)))
  (Qb (bA 2 C2.nd (QA Xm (Js Xz Wg U.lst YB (Qa (Xr aC) Qc)) (Qs OO an (Qa (Qx Qp Wg U.len Wx (Qa (pv 1) Qc)) (Qa Qi Qc)))))
  (Qb (Zf (Xg xX GM GO ZR (pv 2) (Qa (Qs RO G (Qa (pv 0) (Qa (QU (Qa Zi (Qa Zi (Qa Zi (Qa Zi Qc))))) Qc))) Qc)))
  (Qb (Zf (Xg xX GM GO ZR (pv 2) (Qa (Qs CO G (Qa (pv 0) (Qa (QU (Qa Zi (Qa Zi (Qa Zi (Qa Zi Qc))))) (Qa Qi Qc)))) Qc)))
  (Qb (Zf (Xg xX GM GO ZR (pv 2) (Qa (Qs RO G (Qa (pv 0) (Qa (QU (Qa Zi Qc)) Qc))) Qc)))
  (Qd (Qj (QA Xm (QA Xm (QA Xm (pv 2) (pv 1)) (Qs RO G (Qa (pv 0) (Qa (QU (Qa Zi (Qa Zi (Qa Zi Qc)))) Qc)))) (Qs PT an (Qa (pv 0) Qc))))))))),?_⟩
 have w4:=zx ["cut","lead","margin","ways"] Wa;have w5:=zx ["sheet","kind","glass","paint"] Wa;have w6:=zx ["shelf"] Wa;have w7:=zx ["sheet","kind","glass"] Wa;have z4:=jP j w4;have z6:=jP j w6;have z7:=jP j w7;have zc:=oB j;simp only[xQ,U0]at z4 z6 z7;refine⟨_,Z,d,z,ad,c,Z,R,nm,j,fun H1 k1 s1 f1 h1=>?_⟩;refine⟨qs,_,Z,.inr (aD _),fun l1 ao=>?_⟩;have s2:=s1.trans (Qk (.lst [V.int 71,V.int 76,V.int 65,V.int 87]) ao);have k2:upd H1 l1 (.lst [V.int 71,V.int 76,V.int 65,V.int 87]) k1=some (.lst (bl (Zk c))):=by rw[Qh (Qg h1 ao)];exact h1
 refine⟨_,Z,k1,_,Z,.inl (ba.of k2),(Zk c).length,4,_,_,Z,by rw[Ql],Z,by decide,fun H3 o3 s3 f3 h3=>?_⟩;have l3:H3 l1=some (.lst (bl G5)):=s3 _ _ (by rw[Qe];rfl);refine⟨l1,o3,_,_,Z,Z,l3,h3,?_,fun q hq=>?_⟩
 ·rw[Ql,Ql,Xn];exact(by decide:Gla.WORKSHOP.length+4<=sizeLine)
 rw[Z3];have aq:=s2.trans s3;have fq:H q=none:=aq.free hq;have s4:Qn H (upd H3 q (.lst (bl (G5++Gk 4 (Zk c).length)))):=zj aq fq
 have k4:upd H3 q (.lst (bl (G5++Gk 4 (Zk c).length))) k1=some (.lst (bl (Zk c))):=by have e:=s3 _ _ k2;rw[Qh (Qg e hq)];exact e
 have q4:upd H3 q (.lst (bl (G5++Gk 4 (Zk c).length))) q=some (.lst (bl (G5++Gk 4 (Zk c).length))):=Qe;generalize upd H3 q (.lst (bl (G5++Gk 4 (Zk c).length)))=H4 at s4 k4 q4 ⊢;have kq:k1≠q:=Qg (s3 _ _ k2) hq;have lh:(G5++Gk 4 (Zk c).length).length=8:=by rw[xG,Xn];rfl
 generalize aE:G5++Gk 4 (Zk c).length=B1 at q4 lh ⊢;refine⟨_,Z,.inl ⟨Z,_,ba.of q4⟩,_,Z,(by show 4<=sizeLine;decide),fun x5 aF=>?_⟩;have s5:=Qk (.lst [V.str (xE "cut"),V.str (xE "lead"),V.str (xE "margin"),V.str (xE "ways")]) aF;refine⟨d,x5,z,ad,c,["cut","lead","margin","ways"],Z,R.same (s4.trans s5),nm,ba.of Qe,w4,by decide,xM z4 Wa,fun H6 o6 s6 f6 h6=>?_⟩;have aa:=s5.trans s6;refine⟨q,o6,_,_,Z,Z,aa _ _ q4,h6,?_,?_⟩
 ·rw[Ql,Ql,lh];exact xM (Gz (xO 8) z4) Wa
 rw[Z3];have s7:Qn H (upd H6 q (.lst (bl (B1++d8 c ["cut","lead","margin","ways"])))):=zj (s4.trans aa) fq;have k7:upd H6 q (.lst (bl (B1++d8 c ["cut","lead","margin","ways"]))) k1=some (.lst (bl (Zk c))):=by rw[Qh kq];exact aa _ _ k4
 have q7:upd H6 q (.lst (bl (B1++d8 c ["cut","lead","margin","ways"]))) q=some (.lst (bl (B1++d8 c ["cut","lead","margin","ways"]))):=Qe;show _;have au:(B1++d8 c ["cut","lead","margin","ways"]).length<=2800008:=by rw[xG,lh];lia
 change AB _ _ _ _ (upd H6 q (.lst (bl (B1++d8 c ["cut","lead","margin","ways"]))));generalize upd H6 q (.lst (bl (B1++d8 c ["cut","lead","margin","ways"])))=H7 at s7 k7 q7 ⊢;generalize aG:B1++d8 c ["cut","lead","margin","ways"]=B2 at q7 au ⊢;refine⟨_,Z,.inl ⟨Z,_,ba.of q7⟩,_,Z,(by show 4<=sizeLine;decide),fun x8 aH=>?_⟩;have s8:=Qk (.lst [V.str (xE "sheet"),V.str (xE "kind"),V.str (xE "glass"),V.str (xE "paint")]) aH;refine⟨d,x8,z,ad,c,["sheet","kind","glass","paint"],4,_,Z,Z,R.same (s7.trans s8),nm,ba.of Qe,w5,by decide,by decide,fun H9 o9 s9 f9 h9=>?_⟩;have ab:=s8.trans s9;refine⟨q,o9,_,_,Z,Z,ab _ _ q7,h9,?_,?_⟩
 ·rw[Ql,Ql,Jy];exact xM (Gz au (show 4*4<=16 by decide)) Wa
 rw[Z3];have ac:Qn H (upd H9 q (.lst (bl (B2++pD c 4 ["sheet","kind","glass","paint"])))):=zj (s7.trans ab) fq;have Dv:upd H9 q (.lst (bl (B2++pD c 4 ["sheet","kind","glass","paint"]))) k1=some (.lst (bl (Zk c))):=by rw[Qh kq];exact ab _ _ k7
 have I:upd H9 q (.lst (bl (B2++pD c 4 ["sheet","kind","glass","paint"]))) q=some (.lst (bl (B2++pD c 4 ["sheet","kind","glass","paint"]))):=Qe;have av:(B2++pD c 4 ["sheet","kind","glass","paint"]).length<=2800024:=by rw[xG,wL];simp only[xQ,U0];lia
 change AB _ _ _ _ (upd H9 q (.lst (bl (B2++pD c 4 ["sheet","kind","glass","paint"]))));generalize upd H9 q (.lst (bl (B2++pD c 4 ["sheet","kind","glass","paint"])))=H10 at ac Dv I ⊢;generalize aI:B2++pD c 4 ["sheet","kind","glass","paint"]=B3 at I av ⊢;refine⟨_,Z,.inl ⟨Z,_,ba.of I⟩,_,Z,(by show 1<=sizeLine;decide),fun aJ aw=>?_⟩;have ax:=Qk (.lst [V.str (xE "shelf")]) aw;refine⟨d,aJ,z,ad,c,["shelf"],Z,R.same (ac.trans ax),nm,ba.of Qe,w6,by decide,xM z6 Wa,fun J aK aM aY aN=>?_⟩;have n:=ax.trans aM;refine⟨q,aK,_,_,Z,Z,n _ _ I,aN,?_,?_⟩
 ·rw[Ql,Ql];exact xM (Gz av z6) Wa
 rw[Z3];have af:Qn H (upd J q (.lst (bl (B3++d8 c ["shelf"])))):=zj (ac.trans n) fq;have ag:upd J q (.lst (bl (B3++d8 c ["shelf"]))) k1=some (.lst (bl (Zk c))):=by rw[Qh kq];exact n _ _ Dv
 have ah:upd J q (.lst (bl (B3++d8 c ["shelf"]))) q=some (.lst (bl (B3++d8 c ["shelf"]))):=Qe;have O:(B3++d8 c ["shelf"]).length<=3500024:=by rw[xG];lia
 have eH:B3++d8 c ["shelf"]=YJ c:=by rw[<-aI,<-aG,<-aE];rfl
 rw[eH]at af ag ah O;rw[show(List.map (fun s=>(c s).flatten) ["shelf"]).flatten=d8 c ["shelf"] from Z,eH];generalize upd J q (.lst (bl (YJ c)))=H13 at af ag ah ⊢;refine⟨_,Z,_,Z,q,k1,_,_,Z,Z,ah,ag,?_,fun u1 aO=>?_⟩
 ·rw[Ql,Ql];exact xM (Gz O zc) Wa
 rw[Z3];have ai:=af.trans (Qk (.lst (bl (YJ c++Zk c))) aO);have ay:upd H13 u1 (.lst (bl (YJ c++Zk c))) u1=some (.lst (bl (YJ c++Zk c))):=Qe;generalize upd H13 u1 (.lst (bl (YJ c++Zk c)))=H14 at ai ay ⊢;refine⟨_,Z,(by show 3<=sizeLine;decide),fun aP az=>?_⟩;have aA:=Qk (.lst [V.str (xE "sheet"),V.str (xE "kind"),V.str (xE "glass")]) az;refine⟨d,aP,z,ad,c,["sheet","kind","glass"],Z,R.same (ai.trans aA),nm,ba.of Qe,w7,by decide,xM z7 Wa,fun aQ aR aS a0 aT=>?_⟩;have B:=aA.trans aS;refine⟨u1,aR,_,_,Z,Z,B _ _ ay,aT,?_,fun u2 aU=>?_⟩
 ·rw[Ql,Ql,xG];exact xM (Gz (Gz O zc) z7) Wa
 rw[Z3];have aj:=(ai.trans B).trans (Qk (.lst (bl (YJ c++Zk c++d8 c ["sheet","kind","glass"]))) aU);have aV:upd aQ u2 (.lst (bl (YJ c++Zk c++d8 c ["sheet","kind","glass"]))) u2=some (.lst (bl (YJ c++Zk c++d8 c ["sheet","kind","glass"]))):=Qe;refine⟨_,Z,d,z,ad,c,Z,R.same aj,nm,j,fun a1 aW ak a2 aX=>?_⟩;have zp:=Yx (c "paint") (c "coats");have a3:=j "paint" [(32,2)] Wa;have a4:=j "coats" [(4,1)] Wa;refine⟨u2,aW,_,_,Z,Z,ak _ _ aV,aX,?_,fun u3 aB=>?_⟩
 ·rw[Ql,Ql,xG,xG];exact xM (Gz (Gz (Gz O zc) z7) (show _<=1400000 by lia)) Wa
 rw[Z3];exact k _ u3 ((aj.trans ak).trans (Qk _ aB)) ((aj.trans ak).free aB) Qe
def nm(k:Nat):String:=(Gla.shapes.getD k ("",[])).1
def rn(k:Nat):List WA:=[[(2,4)],[(2,4)],[(2,2)],[(2,4),(2,2)],[(5,4)],[(5,4)],[(1,4)],[(1,4)],[(1,8)],[(4,4)],[(2,4)],[(32,2)],[(32,2)],[]].getD k []
def sw(k:Nat):String:=if k=12 then "coats" else if k=14 then "workshop" else nm k
def Xi(j many:Nat):List Nat:=if j=14 then [0] else Uw j many
structure St(sort many:Nat)(c:String->List xC):Prop where
 le:sort<=12\/sort=14
 cnt:1<=sort->sort<=3->many=(c (nm sort)).length
 later:∀k,1<=k->k<=3->(sort<k\/sort=14)->c (nm k)=[]
 fin:c "end" = []
theorem qd(c:String->List xC){s:String}(h:XW s=false):Xa c s=true:=by unfold Xa;rw[h];rfl
theorem Jt{s:String}(h:c s=[]):Xa c s=true:=by unfold Xa;rw[h];simp
theorem JX:∀{l:List String},(∀x∈l,Xa c x=true)->l.filter (Xa c)=l:=fun h=>List.filter_eq_self.2 h
theorem lL{j many:Nat}(h:St j many c):QY (sw j) c=(Xi j many).map fun k=>(nm k,rn k):=by
 have U:=h.later 1 Wa Wa;have O:=h.later 2 Wa Wa;have F:=h.later 3 Wa Wa;have G:=h.cnt
 have all:∀{l:List String} {o:List Nat},(∀x∈l,Xa c x=true)->Z0 (sw j)=l->Xi j many=o->ZT l=o.map (fun k=>(nm k,rn k))->QY (sw j) c=(Xi j many).map fun k=>(nm k,rn k):=by intro l o h1 h2 I J;unfold QY;rw[h2,JX h1,I,J]
 have n:∀{l:List String},(l.all fun x=>!XW x)=true->∀x∈l,Xa c x=true:=fun h x z=>qd c (by simpa using List.all_eq_true.1 h x z)
 have B:∀{s:String} {l m:List String} {o p:List Nat} {k:Nat},Z0 (sw j)=s::l->XW s=true->(∀x∈l,Xa c x=true)->many=(c s).length->(Xi j many=if Gla.U2<=many then o else k::o)->ZT l=o.map (fun k=>(nm k,rn k))->ZT (s::l)=(k::o).map (fun k=>(nm k,rn k))->QY (sw j) c=(Xi j many).map fun k=>(nm k,rn k):=by
  intro s l m o p k h1 h2 I J h5 h6 h7;unfold QY;rw[h1,h5,Qba,JX I];have:Xa c s=decide ((c s).length<65535):=by unfold Xa;rw[h2];simp
  rw[this,<-J];by_cases q:Gla.U2<=many
  ·rw[Wi q,Wh (by have:65535<=many:=q;simp;lia),h6]
  ·rw[Wh q,Wi (by have:¬65535<=many:=q;simp;lia),h7]
 have q:j=0\/j=1\/j=2\/j=3\/j=4\/j=5\/j=6\/j=7\/j=8\/j=9\/j=10\/j=11\/j=12\/j=14:=by have:=h.le;lia
 rcases q with rfl|rfl|rfl|rfl|rfl|rfl|rfl|rfl|rfl|rfl|rfl|rfl|rfl|rfl
 ·refine all (l:=["point","line","pane","cut"]) (o:=[1,2,3,4]) ?_ Wa Z Wa;intro x z;simp only[GW,GD,Ws] at z;rcases z with rfl | rfl | rfl | rfl
  ·exact Jt (U Wa)
  ·exact Jt (O Wa)
  ·exact Jt (F Wa)
  ·exact qd c Wa
 ·refine B (s := "point") (l:=["line","pane","cut"]) (m:=[]) (p:=[]) (k:=1) (o:=[2,3,4]) Wa Wa ?_ (G Wa Wa) ?_ Wa Wa
  ·intro x z;simp only[GW,GD,Ws] at z;rcases z with rfl | rfl | rfl
   ·exact Jt (O Wa)
   ·exact Jt (F Wa)
   ·exact qd c Wa
  ·show(if Gla.U2<=many then [] else [1])++[2,3,4]=_;split<;>rfl
 ·refine B (s := "line") (l:=["pane","cut"]) (m:=[]) (p:=[]) (k:=2) (o:=[3,4]) Wa Wa ?_ (G Wa Wa) ?_ Wa Wa
  ·intro x z;simp only[GW,GD,Ws] at z;rcases z with rfl | rfl
   ·exact Jt (F Wa)
   ·exact qd c Wa
  ·show(if Gla.U2<=many then [] else [2])++[3,4]=_;split<;>rfl
 ·refine B (s := "pane") (l:=["cut"]) (m:=[]) (p:=[]) (k:=3) (o:=[4]) Wa Wa ?_ (G Wa Wa) ?_ Wa Wa
  ·exact n Wa
  ·show(if Gla.U2<=many then [] else [3])++[4]=_;split<;>rfl
 ·exact all (l:=["lead"]) (o:=[5]) (n Wa) Wa Z Wa
 ·exact all (l:=["margin"]) (o:=[6]) (n Wa) Wa Z Wa
 ·exact all (l:=["ways"]) (o:=[7]) (n Wa) Wa Z Wa
 ·exact all (l:=["shelf"]) (o:=[8]) (n Wa) Wa Z Wa
 ·exact all (l:=["sheet","kind","glass","paint","end"]) (o:=[9,10,11,12,13]) (n Wa) Wa Z Wa
 ·exact all (l:=["sheet","kind","glass","paint","end"]) (o:=[9,10,11,12,13]) (n Wa) Wa Z Wa
 ·exact all (l:=["kind","glass","paint","end"]) (o:=[10,11,12,13]) (n Wa) Wa Z Wa
 ·exact all (l:=["glass","paint","end"]) (o:=[11,12,13]) (n Wa) Wa Z Wa
 ·exact all (l:=["paint","end"]) (o:=[12,13]) (n Wa) Wa Z Wa
 ·exact all (l:=["window"]) (o:=[0]) (n Wa) Wa Z Wa
def YS(s:Nat):Bool:=s==0||(decide (4<=s)&&decide (s<=8))
theorem lA{j many:Nat}(h:j<=12\/j=14):∀k∈Xi j many,k<=13/\(j=14\/(j<=k/\(YS j=true->j≠k))):=by
 intro k hk;unfold Xi at hk;split at hk
 ·grind
 ·rename_i ne;unfold Uw at hk;unfold YS;split at hk
  ·simp at hk;simp;lia
  ·split at hk
   ·rcases List.mem_append.1 hk with hk | hk
    ·split at hk
     ·cases hk
     ·simp at hk;simp;lia
    ·simp at hk;obtain⟨i,h1,rfl⟩:=hk;simp;lia
   ·split at hk
    ·simp at hk;simp;lia
    ·split at hk
     ·simp at hk;simp;lia
     ·simp at hk;obtain⟨i,h1,rfl⟩:=hk;simp;lia
theorem BQ:∀k:Fin 14,ZP (nm k) (rn k)=UK k++[if k.val=13 then 10 else 32]:=by decide +kernel
theorem Ae{j many:Nat}(h:St j many c):QS (QY (sw j) c)=(Xi j many).map fun(k:Nat)=>UK k++[if k=13 then 10 else 32]:=by rw[lL h];unfold QS;rw[VA];refine UN fun k hk=>?_;have:=(lA h.le k hk).1;exact BQ ⟨k,by lia⟩
theorem iW:∀k:Fin 13,(Gla.shapes.getD k ("",[])).2=(Qv (rn k)).map lg/\(Gla.shapes.getD k ("",[])).2≠[]/\((Gla.shapes.getD k ("",[])).2.all fun m=>decide (9<=m))=true:=by decide +kernel
theorem yb{bs:List xC}{i w:Nat} (h:Gb bs t=.ok (i,w)):i<bs.length/\w=(bs.getD i []).length/\bs.getD i []=t.take w:=by
 unfold Gb at h;split at h
 ·rename_i j e;cases h;unfold Ge at e;obtain⟨x,n,rfl⟩:=Option.map_eq_some_iff.1 e;grind
 ·cases h
theorem He:∀j k:Fin 14,j≠k->nm j≠nm k:=by decide +kernel
theorem ic:∀j:Fin 14,nm j ≠ "coats" := by decide +kernel
theorem qC{j k:Nat}(h1:j<=13)(h2:k<=13)(h:j≠k):nm j≠nm k:=He ⟨j,by lia⟩ ⟨k,by lia⟩ (fun e=>h (Wn Fin.val e))
theorem yP:∀{n:List Nat} {t:xC} {l:List Nat} {j:Nat},Pl.bg n t=(some l,j)->l.length=n.length
 |[],t,l,j,h=>by cases h;rfl
 | m::r,t,l,j,h=>by
  unfold Pl.bg at h;rcases e:Pl.cB m t with⟨_|v,k⟩
  ·lia
  ·rw[e] at h;simp only at h;by_cases q:(t.drop k).head?=some (if r=[] then 10 else 32)
   ·rw[Wi q] at h;rcases z:Pl.bg r (t.drop (k+1)) with ⟨_ | B,F⟩
    ·lia
    ·rw[z]at h;cases h;rw[xQ,xQ,yP z]
   lia
def Zj(k:Nat)(r:List Nat)(c:String->List xC):String->List xC:=if k=12 then QK "coats" (GX (r.drop 32)) (QK "paint" (enc (xU 32 2) (r.take 32)) c) else QK (nm k) (enc (Qv (rn k)) r) c
def Zw:List (Nat×List Nat)->(String->List xC)->String->List xC
 |[],c=>c
 |x::l,c=>Zw l (Zj x.1 x.2 c)
def qY(k:Nat)(r:List Nat):Prop:=if k=12 then 32<=r.length else r.length=(Qv (rn k)).length
def Rows:Nat->List (Nat×List Nat)->Prop
 |_,[]=>True
 |s,x::l=>x.1<=12/\(s=14\/(s<=x.1/\(YS s=true->s≠x.1)))/\qY x.1 x.2/\Rows x.1 l
theorem ZA{s x:String}(h:x≠s):QK s b c x=c x:=by unfold QK;rw[Wh h]
theorem qr(s:String)(b:xC)(c:String->List xC):QK s b c s=c s++[b]:=by unfold QK;rw[Wi Z]
theorem JC{k:Nat}{r:List Nat}{s:String}(h1:s≠nm k)(h2:s ≠ "coats"):Zj k r c s=c s:=by
 unfold Zj;split
 ·rename_i e;subst e;rw[ZA h2,ZA (show s ≠ "paint" from h1)]
 ·rw[ZA h1]
theorem jy{k:Nat}{r:List Nat}(h:k<=11):Zj k r c (nm k)=c (nm k)++[enc (Qv (rn k)) r]:=by unfold Zj;rw[Wh L,qr]
theorem St.step{n many k:Nat}{r:List Nat}(h:St n many c)(hk:k<=12) (F:n=14\/(n<=k/\(YS n=true->n≠k))):St k (if k=n then many+1 else 1) (Zj k r c):=by
 refine⟨.inl hk,fun h1 h2=>?_,fun j h1 h2 z=>?_,?_⟩
 ·rw[jy L,xG,GQ];by_cases e:k=n
  ·subst e;rw[Wi Z,h.cnt h1 h2]
  ·rw[Wh e,h.later k h1 h2 L];rfl
 ·rcases z with z | z
  ·rw[JC (qC L L L) (ic ⟨j,by lia⟩)];exact h.later j h1 h2 L
  ·lia
 ·have B : "end" = nm 13:=rfl;rw[B,JC (qC L L L) (ic ⟨13,by decide⟩)];exact h.fin
theorem XD{s:String}{n:Nat} (h:Za (QY s c) t=(none,n)):QJ s c t=(c,n):=by rw[JQ,h]
theorem Jl{s s':String}{t b:xC}{n:Nat} (h:Za (QY s c) t=(some (s',b),n)):QJ s c t=((QJ s' (QK s' b c) (t.drop n)).1,n+(QJ s' (QK s' b c) (t.drop n)).2):=by rw[JQ,h]
abbrev OB(j many:Nat):List xC:=(Xi j many).map fun(k:Nat)=>UK k++[if k=13 then 10 else 32]
theorem pX{j many n:Nat}(h:St j many c) (e:Gb (OB j many) t=.error n):Za (QY (sw j) c) t=(none,n):=by unfold Za;rw[Ae h,e]
structure qM(sort many:Nat)(c:String->List xC)(t:xC)(k w:Nat):Prop where
 le:k<=13
 ord:sort=14\/(sort<=k/\(YS sort=true->sort≠k))
 eq:Za (QY (sw sort) c) t=((Z7 (nm k,rn k) (t.drop w)).1.map fun b=>(nm k,b),w+(Z7 (nm k,rn k) (t.drop w)).2)
 tk:t=(UK k++[if k=13 then 10 else 32])++t.drop w
 wl:w=(UK k).length+1
theorem wh{j many i w:Nat}(h:St j many c) (e:Gb (OB j many) t=.ok (i,w)):qM j many c t ((Xi j many).getD i 0) w:=by
 obtain⟨h1,h2,z⟩:=yb e;have hi:i<(Xi j many).length:=by simpa [OB] using h1
 have n:(Xi j many).getD i 0=(Xi j many)[i]:=by rw[Gv,xF hi];rfl
 have F:(Xi j many).getD i 0∈Xi j many:=by rw[n];exact xR hi
 obtain⟨G,I⟩:=lA h.le _ F
 have B:(OB j many).getD i []=UK ((Xi j many).getD i 0)++[if(Xi j many).getD i 0=13 then 10 else 32]:=by rw[n,Gv,xL,xF hi];rfl
 refine⟨G,I,?_,?_,?_⟩
 ·unfold Za;rw[Ae h,e]
  have:(QY (sw j) c).getD i ("",[])=(nm ((Xi j many).getD i 0),rn ((Xi j many).getD i 0)):=by rw[lL h,n,Gv,xL,xF hi];rfl
  simp only[this]
 ·rw[B]at z;rw[z,Vu]
 ·rw[h2,B,xG,GQ]
theorem qM.blank{j many k w:Nat}(h:qM j many c t k w)(hk:k≠13):t.drop (w-1)=32::t.drop w:=by have e:=Wn (List.drop (w-1)) h.tk;rw[Wh hk,GV,Qbu (by rw[h.wl];rfl)]at e;exact e
theorem qM.len{j many k w:Nat}(h:qM j many c t k w):w<=t.length:=by have e:=Wn Qay h.tk;rw[xG,xG,GQ,<-h.wl]at e;lia
theorem pL(t:xC):Z7 (nm 13,rn 13) t=(some [],0):=rfl
theorem tj{k:Nat}(h:k<=12)(t:xC):Z7 (nm k,rn k) t=((Pl.bg (Gla.shapes.getD k ("",[])).2 t).1.map (enc (Qv (rn k))),(Pl.bg (Gla.shapes.getD k ("",[])).2 t).2):=by unfold Z7;rw[Wh (ic ⟨k,by lia⟩),(iW ⟨k,by lia⟩).1]
theorem BJ{n j many m:Nat} (e:Gb (OB j many) t=.error m):Gh (n+1) j many t=.error m:=by have z:Gb (List.map (fun(k:Nat)=>UK k++[if k=13 then 10 else 32]) (if j=14 then [0] else Uw j many)) t=.error m:=e;unfold Gh;simp only[z]
theorem B7{n j many i w:Nat} (e:Gb (OB j many) t=.ok (i,w)) (hk:(Xi j many).getD i 0=13):Gh (n+1) j many t=if t.length=w then .ok ([],w) else .error w:=by have B:Gb (List.map (fun(k:Nat)=>UK k++[if k=13 then 10 else 32]) (if j=14 then [0] else Uw j many)) t=.ok (i,w):=e;have z:(if j=14 then [0] else Uw j many).getD i 0=13:=hk;unfold Gh;simp only[B,z,Wq]
theorem AD{n j many i w k m:Nat} (e:Gb (OB j many) t=.ok (i,w)) (hk:(Xi j many).getD i 0=k) (z:k≠13) (q:VS (Gla.shapes.getD k ("",[])).2 (t.drop (w-1))=.error m):Gh (n+1) j many t=.error (w-1+m):=by have F:Gb (List.map (fun(k:Nat)=>UK k++[if k=13 then 10 else 32]) (if j=14 then [0] else Uw j many)) t=.ok (i,w):=e;have B:(if j=14 then [0] else Uw j many).getD i 0=k:=hk;unfold Gh;simp only[F,B,Wh z,q]
theorem CV{n j many i w k:Nat}{x:List Nat×Nat} (e:Gb (OB j many) t=.ok (i,w)) (hk:(Xi j many).getD i 0=k) (z:k≠13) (B:k≠12) (q:VS (Gla.shapes.getD k ("",[])).2 (t.drop (w-1))=.ok x) :
  Gh (n+1) j many t=match Gh n k (if k=j then many+1 else 1) (t.drop (w-1+x.2)) with
   |.error e=>.error (w-1+x.2+e)
   |.ok r=>.ok ((k,x.1++[])::r.1,w-1+x.2+r.2):=by
 have G:Gb (List.map (fun(k:Nat)=>UK k++[if k=13 then 10 else 32]) (if j=14 then [0] else Uw j many)) t=.ok (i,w):=e;have F:(if j=14 then [0] else Uw j many).getD i 0=k:=hk
 conv=>lhs;unfold Gh
 simp only[G,F,Wh z,Wh B,q];cases Gh n k (if k=j then many+1 else 1) (List.drop (w-1+x.snd) t)<;>rfl
theorem AV{n j many i w m:Nat}{x:List Nat×Nat} (e:Gb (OB j many) t=.ok (i,w)) (hk:(Xi j many).getD i 0=12) (q:VS (Gla.shapes.getD 12 ("",[])).2 (t.drop (w-1))=.ok x)
  (o:Gb [Gi "coats"] (t.drop (w-1+x.2))=.error m):Gh (n+1) j many t=.error (w-1+x.2+m):=by
 have B:Gb (List.map (fun(k:Nat)=>UK k++[if k=13 then 10 else 32]) (if j=14 then [0] else Uw j many)) t=.ok (i,w):=e;have z:(if j=14 then [0] else Uw j many).getD i 0=12:=hk
 conv=>lhs;unfold Gh
 simp only[B,z,Wh (show ¬12=13 by decide),Wq,q,o]
theorem Ci{n j many i w m:Nat}{x:List Nat×Nat}{z:WA} (e:Gb (OB j many) t=.ok (i,w)) (hk:(Xi j many).getD i 0=12) (q:VS (Gla.shapes.getD 12 ("",[])).2 (t.drop (w-1))=.ok x)
  (o:Gb [Gi "coats"] (t.drop (w-1+x.2))=.ok z) (y:UL 4 (t.drop (w-1+x.2+5))=.error m):Gh (n+1) j many t=.error (w-1+x.2+5+m):=by
 have F:Gb (List.map (fun(k:Nat)=>UK k++[if k=13 then 10 else 32]) (if j=14 then [0] else Uw j many)) t=.ok (i,w):=e;have B:(if j=14 then [0] else Uw j many).getD i 0=12:=hk
 conv=>lhs;unfold Gh
 simp only[F,B,Wh (show ¬12=13 by decide),Wq,q,o,y]
theorem CK{n j many i w:Nat}{x y:List Nat×Nat}{z:WA} (e:Gb (OB j many) t=.ok (i,w)) (hk:(Xi j many).getD i 0=12) (q:VS (Gla.shapes.getD 12 ("",[])).2 (t.drop (w-1))=.ok x)
  (o:Gb [Gi "coats"] (t.drop (w-1+x.2))=.ok z) (F:UL 4 (t.drop (w-1+x.2+5))=.ok y) :
  Gh (n+1) j many t=match Gh n 12 (if 12=j then many+1 else 1) (t.drop (w-1+x.2+5+y.2)) with
   |.error e=>.error (w-1+x.2+5+y.2+e)
   |.ok r=>.ok ((12,x.1++y.1)::r.1,w-1+x.2+5+y.2+r.2):=by
 have G:Gb (List.map (fun(k:Nat)=>UK k++[if k=13 then 10 else 32]) (if j=14 then [0] else Uw j many)) t=.ok (i,w):=e;have B:(if j=14 then [0] else Uw j many).getD i 0=12:=hk
 conv=>lhs;unfold Gh
 simp only[G,B,Wh (show ¬12=13 by decide),Wq,q,o,F];cases Gh n 12 (if 12=j then many+1 else 1) (List.drop (w-1+x.snd+5+y.snd) t)<;>rfl
theorem jx:∀(a x t:xC),a≠t.take a.length->Gj (a++x) t=Gj a t
 |[],x,t,h=>Wm Z h
 |b::a,x,[],h=>by cases x<;>rfl
 | b::a,x,d::t,h=>by
  show(if b=d then Gj (a++x) t+1 else 0)=if b=d then Gj a t+1 else 0
  by_cases e:b=d
  ·rw[Wi e,Wi e,jx a x t];grind
  ·lia
theorem jw:∀(a x t:xC),Gj (a++x) (a++t)=a.length+Gj x t
 |[],x,t=>by simp
 | b::a,x,t=>by
  show(if b=b then Gj (a++x) (a++t)+1 else 0)=_;rw[Wi Z,jw a x t,xQ];lia
theorem z9(a t:xC):Gb [a] t=if a=t.take a.length then .ok (0,a.length) else .error (Gj a t):=by
 unfold Gb Ge;simp only[List.zipIdx_cons,List.zipIdx_nil,Uy,Qbz];by_cases h:a=t.take a.length
 ·have h':(a==t.take a.length)=true:=by simpa using h
  rw[Wi h];simp[h']
 ·have h':(a==t.take a.length)=false:=by simpa using h
  rw[Wh h];simp[h']
theorem kY(c:String->List xC)(t:xC):match Gb [Gi "coats"] t with
  |.error e=>Za (QY "paint" c) t=(none,e)
  | .ok _=>match UL 4 (t.drop 5) with
   |.error e=>Za (QY "paint" c) t=(none,5+e)
   |.ok y=>Za (QY "paint" c) t=(some ("coats",GX y.1),5+y.2):=by
 have hw:QY "paint" c=[("coats",[(4,1)])]:=by unfold QY;rw[show Z0 "paint" = ["coats"] by decide,JX (l:=["coats"]) (fun x G=>by simp at G;subst G;exact qd c Wa)];decide
 have I:QS [("coats",[(4,1)])]=[Gi "coats" ++ [32]]:=by decide +kernel
 have hl:(Gi "coats").length=5:=by decide +kernel
 have tl:∀q,Gb [Gi "coats" ++ [32]] t=q->Za (QY "paint" c) t=match q with
   |.error n=>(none,n)
   |.ok (k,n)=>((Z7 (([("coats",[(4,1)])]:List (String×List WA)).getD k ("",[])) (t.drop n)).1.map fun b=>((([("coats",[(4,1)])]:List (String×List WA)).getD k ("",[])).1,b),n+(Z7 (([("coats",[(4,1)])]:List (String×List WA)).getD k ("",[])) (t.drop n)).2):=by
  intro q J;unfold Za;rw[hw,I,J];all_goals rcases q with _|⟨_,_⟩<;>rfl
 have F:(Gi "coats" ++ [32]).length=6:=by rw[xG,hl];rfl
 rw[z9];by_cases h:Gi "coats" = t.take (Gi "coats").length
 ·rw[Wi h]
  have O:t=Gi "coats" ++ t.drop 5:=by
   rw[hl]at h
   conv=>lhs;rw[<-Vu 5 t,<-h]
  simp only;by_cases j:(t.drop 5).head?=some 32
  ·have hd:=Pl.head_drop j;rw[hd,Pl.oF 3]
   have B:Gi "coats" ++ [32]=t.take (Gi "coats" ++ [32]).length:=by grind
   have T:=tl _ (z9 _ t);rw[Wi B,F]at T;have bd:Z7 ("coats",[(4,1)]) (t.drop 6)=((Pl.bq 4 (t.drop 6)).1.map GX,(Pl.bq 4 (t.drop 6)).2):=rfl;grind
  ·have U:UL 4 (t.drop 5)=.error 0:=by unfold UL;rw[Pl.gr,Wh j]
   rw[U]
   have B:¬Gi "coats" ++ [32]=t.take (Gi "coats" ++ [32]).length:=by
    intro q;rw[F]at q;apply j;have z:=Wn (List.drop 5) q;rw[Qbu hl,List.drop_take]at z;cases hd:t.drop 5 with
    |nil=>rw[hd]at z;simp at z
    | cons a b=>
     rw[hd]at z;simp at z;rw[<-z];rfl
   have T:=tl _ (z9 _ t);rw[Wh B]at T;rw[T]
   have:Gj (Gi "coats" ++ [32]) t=5:=by
    conv=>lhs;rw[O]
    rw[jw,hl];cases hd:t.drop 5 with
    |nil=>rfl
    | cons a b=>
     rw[hd]at j;show 5+(if 32=a then Gj [] b+1 else 0)=5;rw[Wh];intro e;exact j (by rw[<-e];rfl)
   rw[this]
 ·rw[Wh h]
  have B:¬Gi "coats" ++ [32]=t.take (Gi "coats" ++ [32]).length:=by intro q;rw[F]at q;apply h;have z:=Wn (List.take 5) q;grind
  have T:=tl _ (z9 _ t);rw[Wh B,jx _ _ _ h]at T;exact T
theorem fz{m:Nat}{v k:Nat} (h:Pl.cB m t=(some v,k)):1<=k:=by
 unfold Pl.cB at h;cases t with
 |nil=>cases h
 | cons c r=>
  unfold Pl.cg at h;split at h
  ·cases h
  ·lia
theorem xf{k:Nat}{c:UInt8} (h:(t.drop k).head?=some c):k<t.length:=by
 rcases Ul k t.length with q|q
 ·exact q
 ·rw[List.drop_of_length_le q]at h;cases h
theorem Yt:∀{n:List Nat} {t:xC} {l:List Nat} {j:Nat},Pl.bg n t=(some l,j)->2*n.length<=j/\j<=t.length
 |[],t,l,j,h=>by cases h;exact⟨xO _,x9 _⟩
 | m::r,t,l,j,h=>by
  unfold Pl.bg at h;rcases e:Pl.cB m t with⟨_|v,k⟩
  ·lia
  ·rw[e] at h;simp only at h;by_cases q:(t.drop k).head?=some (if r=[] then 10 else 32)
   ·rw[Wi q] at h;have B:=fz e;have p2:=xf q;rcases z:Pl.bg r (t.drop (k+1)) with ⟨_ | F,G⟩
    ·lia
    ·rw[z]at h;cases h;have:=Yt z;grind
   lia
theorem qN:∀{n:Nat} {t:xC} {l:List Nat} {j:Nat},Pl.bq n t=(some l,j)->2<=j/\j<=t.length/\l.length<=n
 |0,t,l,j,h=>by cases h
 | n+1,t,l,j,h=>by
  unfold Pl.bq at h;rcases e:Pl.cB 255 t with⟨_|v,k⟩
  ·lia
  ·rw[e] at h;simp only at h;have G:=fz e;by_cases q:(t.drop k).head?=some 10
   ·rw[Wi q]at h;have p2:=xf q;grind
   ·rw[Wh q] at h;by_cases F:n=0
    ·lia
    ·rw[Wh F] at h;by_cases z:(t.drop k).head?=some 32
     ·rw[Wi z] at h;have p2:=xf z;rcases B:Pl.bq n (t.drop (k+1)) with ⟨_ | I,J⟩
      ·lia
      ·rw[B]at h;cases h;have:=qN B;grind
     lia
theorem lJ:∀(j xs:List Nat),(enc j xs).length<=j.sum
 |[],xs=>by cases xs<;>exact x9 _
 |s::j,[]=>x9 _
 | s::j,x::xs=>by
  have:=lJ j xs;show(Gk s x++enc j xs).length<=_;rw[xG,Xn,Qag];lia
theorem t9{l:List Nat}(h:l.length<=4):(GX l).length=5:=by
 unfold GX;rw[xG,xG,Xn,Vt]
 have:∀l:List Nat,(l.flatMap (Gk 1)).length=l.length:=by
  intro l;induction l with
  |nil=>rfl
  |cons a l j=>rw[VY,xG,j,Xn,xQ];lia
 rw[this];lia
theorem sT:∀x∈QN,(Qv x.2).sum<=2*((ZP x.1 x.2).length+2*(Qv x.2).length)/\(x.1 = "coats" -> (ZP x.1 x.2).length=6):=by decide +kernel
theorem zJ {ws:List (String×List WA)} {x:String×xC} {n:Nat} (hw:∀x∈ws,x∈QN) (h:Za ws t=(some x,n)):n<=t.length/\x.2.length<=2*n:=by
 unfold Za at h;cases e:Gb (QS ws) t with
 |error m=>rw[e]at h;cases h
 | ok B=>
  obtain⟨k,w⟩:=B;rw[e]at h;simp only at h;obtain⟨h1,h2,U⟩:=yb e;have hk:k<ws.length:=by unfold QS at h1;rw[xD]at h1;exact h1
  have F:ws.getD k ("",[])=ws[k]:=by rw[Gv,xF hk];rfl
  have hr:=hw _ (xR hk)
  have G:(QS ws).getD k []=ZP (ws[k]).1 (ws[k]).2:=by unfold QS;grind
  have I:w<=t.length:=by grind
  obtain⟨J,O⟩:=sT _ hr;rw[<-G,<-h2]at J O;rw[F]at h;generalize ws[k]=z at *;unfold Z7 at h;by_cases hc:z.1 = "coats"
  ·rw[Wi hc] at h;simp only at h;rcases q:Pl.bq 4 (t.drop w) with ⟨_ | l,j⟩
   ·grind
   ·rw[q]at h;cases h;have:=qN q;rw[Gd]at this;have:=t9 this.2.2;lia
  ·rw[Wh hc] at h;simp only at h;rcases q:Pl.bg ((Qv z.2).map lg) (t.drop w) with ⟨_ | l,j⟩
   ·grind
   ·rw[q]at h;cases h;have u:=Yt q;rw[Gd,xD]at u;have:=lJ (Qv z.2) l;lia
theorem iX{s:String} {rs:List WA} (h:(s,rs)∈QN):∀x∈QY s c,x∈QN:=by unfold QY;refine Ys fun x j=>?_;exact(X1 s (Z0 s) (YT s rs h)).2 x (List.mem_filter.1 j).1
theorem FP{k:Nat}(h:k<=13)(h2:k≠12):sw k=nm k:=by unfold sw;lia
theorem tJ(c:String->List xC)(t:xC):QJ "end" c t=(c,0):=by
 refine XD ?_
 have:QY "end" c=[]:=by unfold QY;rw[show Z0 "end" = [] by decide];rfl
 rw[this];rfl
theorem sP{k w:Nat}{n many:Nat}(B:qM n many c t k w)(hk:k<=12):VS (Gla.shapes.getD k ("",[])).2 (t.drop (w-1))=match Pl.bg (Gla.shapes.getD k ("",[])).2 (t.drop w) with
  |(some l,j)=>.ok (l,1+j)
  |(none,j)=>.error (1+j):=by
 obtain⟨_,m2,m3⟩:=iW ⟨k,by lia⟩;rw[B.blank L];exact Pl.fu _ _ m2 fun m z=>Wj (List.all_eq_true.1 m3 m z)
theorem qA:∀(n B many:Nat)(c:String->List xC)(t:xC),t.length<n->St B many c->match Gh n B many t with
  |.error e=>(QJ (sw B) c t).2=e/\(((QJ (sw B) c t).1 "end").length=1->e≠t.length)
  |.ok x=>QJ (sw B) c t=(QK "end" [] (Zw x.1 c),x.2)/\x.2=t.length/\Rows B x.1
 |0,_,_,_,t,h,_=>Wm h L
 | n+1,B,many,c,t,hn,S=>by
  have F:∀{e:Nat} {c':String->List xC},c' "end" = []->QJ (sw B) c t=(c',e)->(QJ (sw B) c t).2=e/\(((QJ (sw B) c t).1 "end").length=1->e≠t.length):=by intro e c' h0 h1;rw[h1];grind
  cases e:Gb (OB B many) t with
  | error m=>
   rw[BJ e];exact F S.fin (XD (pX S e))
  | ok iw=>
   obtain⟨i,w⟩:=iw;have ag:=wh S e;have ac:=ag.wl;have ad:=ag.len;generalize hk:(Xi B many).getD i 0=k at ag;by_cases U:k=13
   ·subst U;rw[B7 e hk];have T:=ag.eq;rw[pL] at T;have T:Za (QY (sw B) c) t=(some ("end",[]),w+0):=T;have ah:=Jl T;rw[tJ] at ah;by_cases hl:t.length=w
    ·rw[Wi hl];exact⟨ah,hl.symm,trivial⟩
    lia
   ·have G:k<=12:=by have:=ag.le;lia
    have N:=sP ag G;have T:=ag.eq;rw[tj G]at T;have af:(Gla.shapes.getD k ("",[])).2.length=(Qv (rn k)).length:=by rw[(iW ⟨k,by lia⟩).1,xD]
    rcases q:Pl.bg (Gla.shapes.getD k ("",[])).2 (t.drop w) with⟨_|l,j⟩
    ·rw[q]at N T;rw[AD e hk U N];have T:Za (QY (sw B) c) t=(none,w+j):=T;rw[show w-1+(1+j)=w+j by lia];exact F S.fin (XD T)
    ·rw[q] at N T;have N:VS (Gla.shapes.getD k ("",[])).2 (t.drop (w-1))=.ok (l,1+j):=N;have T:Za (QY (sw B) c) t=(some (nm k,enc (Qv (rn k)) l),w+j):=T;have ll:=yP q;have J:w-1+(1+j)=w+j:=by lia
     have ah:=Jl T;by_cases O:k=12
     ·subst O;have C:=kY (QK (nm 12) (enc (Qv (rn 12)) l) c) (t.drop (w+j));have f1:QK (nm 12) (enc (Qv (rn 12)) l) c "end" = []:=by rw[ZA (show "end" ≠ nm 12 by decide)];exact S.fin
      have aa:l.length=32:=by rw[ll];rfl
      cases o:Gb [Gi "coats"] (t.drop (w+j)) with
      | error m=>
       rw[o]at C;rw[AV e hk N (by show Gb _ (t.drop (w-1+(1+j)))=_;rw[J];exact o)];show _=w-1+(1+j)+m/\_;rw[J];have Z2:QJ (nm 12) (QK (nm 12) (enc (Qv (rn 12)) l) c) (t.drop (w+j))=_:=XD C;rw[Z2]at ah;exact F f1 ah
      | ok z=>
       rw[o]at C;simp only at C;cases y:UL 4 ((t.drop (w+j)).drop 5) with
       | error m=>
        rw[y]at C;have y':UL 4 (t.drop (w-1+(1+j)+5))=.error m:=by rw[J,<-G7];exact y
        rw[Ci e hk N (by show Gb _ (t.drop (w-1+(1+j)))=_;rw[J];exact o) y'];show _=w-1+(1+j)+5+m/\_;rw[J];have Z2:QJ (nm 12) (QK (nm 12) (enc (Qv (rn 12)) l) c) (t.drop (w+j))=_:=XD C;rw[Z2]at ah;rw[show w+j+5+m=w+j+(5+m) by lia];exact F f1 ah
       | ok y0=>
        rw[y]at C;have y':UL 4 (t.drop (w-1+(1+j)+5))=.ok y0:=by rw[J,<-G7];exact y
        rw[CK e hk N (by show Gb _ (t.drop (w-1+(1+j)))=_;rw[J];exact o) y'];have Z2:QJ (nm 12) (QK (nm 12) (enc (Qv (rn 12)) l) c) (t.drop (w+j))=_:=Jl C
        have ea:QK "coats" (GX y0.1) (QK (nm 12) (enc (Qv (rn 12)) l) c)=Zj 12 (l++y0.1) c:=by unfold Zj;rw[Wi Z,List.take_left' aa,Qbu aa];rfl
        rw[ea,G7,show w+j+(5+y0.2)=w+j+5+y0.2 by lia]at Z2
        show match (match Gh n 12 (if 12=B then many+1 else 1) (t.drop (w-1+(1+j)+5+y0.2)) with
         |.error e=>.error (w-1+(1+j)+5+y0.2+e)
         |.ok r=>.ok ((12,l++y0.1)::r.1,w-1+(1+j)+5+y0.2+r.2):Gla.Read (List (Nat×List Nat))) with
         |.error e=>(QJ (sw B) c t).2=e/\(((QJ (sw B) c t).1 "end").length=1->e≠t.length)
         |.ok x=>QJ (sw B) c t=(QK "end" [] (Zw x.1 c),x.2)/\x.2=t.length/\Rows B x.1
        rw[J];have I:=qA n 12 (if 12=B then many+1 else 1) (Zj 12 (l++y0.1) c) (t.drop (w+j+5+y0.2)) (by rw[Gd];lia) (S.step Wa ag.ord);rw[Z2]at ah;have ab:sw 12 = "coats" := rfl;rw[ab]at I;rcases rr:Gh n 12 (if 12=B then many+1 else 1) (t.drop (w+j+5+y0.2)) with m|r
        ·rw[rr]at I;obtain⟨i1,i2⟩:=I;simp only;rw[ah];grind
        ·rw[rr] at I;obtain⟨i1,i2,i3⟩:=I;simp only;rw[ah,i1];rw[Gd] at i2
         have lb:w+j+5+y0.2<=t.length:=by have u1:=(Yt q).2;rw[Gd]at u1;have u2:=(zJ (iX (s := "paint") (rs:=[(32,2)]) Wa) C).1;grind
         refine⟨?_,by show w+j+5+y0.2+r.2=_;lia,G,ag.ord,?_,i3⟩
         ·show(QK "end" [] (Zw r.1 (Zj 12 (l++y0.1) c)),w+j+(5+y0.2+r.2))=(QK "end" [] (Zw r.1 (Zj 12 (l++y0.1) c)),w+j+5+y0.2+r.2);lia
         ·unfold qY;grind
     ·have ea:QK (nm k) (enc (Qv (rn k)) l) c=Zj k l c:=by unfold Zj;rw[Wh O]
      rw[CV e hk U O N];rw[ea]at ah
      show match (match Gh n k (if k=B then many+1 else 1) (t.drop (w-1+(1+j))) with
       |.error e=>.error (w-1+(1+j)+e)
       |.ok r=>.ok ((k,l++[])::r.1,w-1+(1+j)+r.2):Gla.Read (List (Nat×List Nat))) with
       |.error e=>(QJ (sw B) c t).2=e/\(((QJ (sw B) c t).1 "end").length=1->e≠t.length)
       |.ok x=>QJ (sw B) c t=(QK "end" [] (Zw x.1 c),x.2)/\x.2=t.length/\Rows B x.1
      rw[J,Ux];have I:=qA n k (if k=B then many+1 else 1) (Zj k l c) (t.drop (w+j)) (by rw[Gd];lia) (S.step G ag.ord);rw[FP L O]at I;rcases rr:Gh n k (if k=B then many+1 else 1) (t.drop (w+j)) with m|r
      ·rw[rr]at I;obtain⟨i1,i2⟩:=I;simp only;rw[ah];grind
      ·rw[rr] at I;obtain⟨i1,i2,i3⟩:=I;simp only;rw[ah,i1];rw[Gd] at i2;have lb:w+j<=t.length:=by have:=(Yt q).2;rw[Gd] at this;lia
       refine⟨Z,by show w+j+r.2=_;lia,G,ag.ord,?_,i3⟩;unfold qY;lia
def ek(c:String->List xC):Nat:=(QN.map fun x=>(c x.1).flatten.length).sum
theorem vQ(s x:String)(b:xC)(c:String->List xC):(QK s b c x).flatten.length=(c x).flatten.length+if x=s then b.length else 0:=by unfold QK;grind
theorem vE{s:String} {rs:List WA} (h:(s,rs)∈QN):ek (QK s b c)=ek c+b.length:=by
 unfold ek;simp only[vQ]
 have key:∀l:List (String×List WA),(l.map fun x=>(c x.1).flatten.length+if x.1=s then b.length else 0).sum=(l.map fun x=>(c x.1).flatten.length).sum+(l.countP fun x=>x.1==s)*b.length:=by
  intro l;induction l with
  |nil=>simp
  | cons x l j=>
   rw[xV,Qag,j,xV,Qag,List.countP_cons];by_cases q:x.1=s
   ·lia
   ·lia
 rw[key];have one:∀x∈QN,(QN.countP fun y=>y.1==x.1)=1:=by decide +kernel
 grind
theorem fx{s:String} (h:(s,Z0 s)∈Z5):∀x∈QY s c,x∈QN:=by unfold QY;refine Ys fun x j=>?_;exact(X1 s (Z0 s) h).2 x (List.mem_filter.1 j).1
theorem fh:∀(f:Nat)(s:String)(c:String->List xC)(t:xC),(s,Z0 s)∈Z5->ek (J6 f s c t).1<=ek c+2*t.length
 |0,_,c,_,_=>UU _ _
 | f+1,s,c,t,h=>by
  unfold J6;rcases e:Za (QY s c) t with⟨_|⟨s',b⟩,n⟩
  ·lia
  ·have hw:=fx (c:=c) h;obtain⟨B,F⟩:=zJ hw e;obtain⟨x,j,rfl⟩:=List.mem_map.1 (zI e);have hr:=hw x j;have z:=fh f x.1 (QK x.1 b c) (t.drop n) (YT x.1 x.2 hr);rw[vE hr,Gd]at z;lia
theorem me{c:String->List xC}:∀{l:List (String×List WA)} {x:String×List WA},x∈l->(c x.1).flatten.length<=(l.map fun x=>(c x.1).flatten.length).sum
 | y::l,x,h=>by
  rw[xV,Qag];rcases List.mem_cons.1 h with rfl|h
  ·lia
  ·have:=me (c:=c) h;lia
theorem pJ(t:xC)(h:t.length<=40000):ek (QJ "" c0 t).1<=80000:=by
 have:=fh (t.length+1) "" c0 t Wa;have e:ek c0=0:=by decide
 unfold QJ;lia
theorem Cn{c:String->List xC}(h:ek c<=80000):BR c:=fun s rs j=>by
 have:=me (c:=c) j;unfold ek at h;show(c s).flatten.length<=_;have this:(c s).flatten.length<=_:=this;lia
theorem tT(c:String->List xC):(Yj c).length<=200+ek c:=by have p:=Yx (c "paint") (c "coats");unfold Yj YJ Zk d8 pD ek QN;simp only[xG,xV,Vm,Gw,Qbf,U0,Xn,Qag,List.sum_nil,xQ];have j:Gla.WORKSHOP.length=4:=rfl;have n:Gla.MAGIC.length=4:=rfl;lia
theorem xn:∀{n s:Nat} {r:List Nat},r.length=n->enc (xU n s) r=r.flatMap (Gk s)
 |0,s,[],_=>rfl
 | n+1,s,x::r,h=>by
  rw[GS,VY,<-xn (n:=n) (by simpa using h)];rfl
theorem Ym(k:Nat)(x:Nat×List Nat) (l:List (Nat×List Nat)):Gm k (x::l)=if x.1=k then x.2::Gm k l else Gm k l:=by unfold Gm;grind
theorem Jm{k:Nat}:∀{s:Nat} {l:List (Nat×List Nat)},Rows s l->∀r∈Gm k l,qY k r
 |s,[],_,r,h=>by cases h
 | s,x::l,R,r,h=>by
  rw[Ym]at h;split at h
  ·rename_i e;rcases List.mem_cons.1 h with rfl | h
   ·rw[<-e];exact R.2.2.1
   ·exact Jm R.2.2.2 r h
  ·exact Jm R.2.2.2 r h
theorem y6{k:Nat}(hk:YS k=true):∀{s:Nat} {l:List (Nat×List Nat)},Rows s l->s≠14->k<=s->Gm k l=[]
 |s,[],_,_,_=>rfl
 | s,x::l,R,h1,h2=>by
  obtain⟨a,b,_,d⟩:=R;rcases b with b|b
  ·lia
  ·rw[Ym,Wh]
   ·exact y6 hk d L L
   grind
theorem gY{k:Nat}(hk:YS k=true):∀{s:Nat} {l:List (Nat×List Nat)},Rows s l->Gm k l=[]\/∃r,Gm k l=[r]
 |s,[],_=>.inl rfl
 | s,x::l,R=>by
  obtain⟨a,b,_,d⟩:=R;rw[Ym];split
  ·rename_i e;exact .inr ⟨x.2,by rw[y6 hk d L L]⟩
  ·exact gY hk d
theorem ub{k:Nat}(hk:k<=11):∀{s:Nat} {l:List (Nat×List Nat)} {c:String->List xC},Rows s l->Zw l c (nm k)=c (nm k)++(Gm k l).map (enc (Qv (rn k)))
 |s,[],c,_=>by rw[show Gm k []=[] from Z];simp[Zw]
 | s,x::l,c,R=>by
  obtain⟨a,b,_,d⟩:=R;show Zw l (Zj x.1 x.2 c) (nm k)=_;rw[ub hk d,Ym];by_cases e:x.1=k
  ·rw[Wi e,e,jy hk,xV,GV];rfl
  ·rw[Wh e,JC (qC L L (fun q=>e q.symm)) (ic ⟨k,by lia⟩)]
theorem iU:∀{s:Nat} {l:List (Nat×List Nat)} {c:String->List xC},Rows s l->Zw l c "paint" = c "paint" ++ (Gm 12 l).map (fun r=>enc (xU 32 2) (r.take 32))/\Zw l c "coats" = c "coats" ++ (Gm 12 l).map fun r=>GX (r.drop 32)
 |s,[],c,_=>by rw[show Gm 12 []=[] from Z];simp[Zw]
 | s,x::l,c,R=>by
  obtain⟨a,b,_,d⟩:=R;show Zw l (Zj x.1 x.2 c) "paint" = _/\Zw l (Zj x.1 x.2 c) "coats" = _;obtain⟨i1,n⟩:=iU (c:=Zj x.1 x.2 c) d;rw[i1,n,Ym];by_cases e:x.1=12
  ·rw[Wi e,e];unfold Zj;rw[Wi Z,qr,ZA (show "coats" ≠ "paint" by decide),ZA (show "paint" ≠ "coats" by decide),qr];simp
  ·rw[Wh e];unfold Zj;rw[Wh e];have B : "coats" ≠ nm x.1:=fun q=>ic ⟨x.1,by lia⟩ q.symm;have F : "paint" ≠ nm x.1:=fun q=>qC (j:=12) Wa L (fun z=>e z.symm) q;rw[ZA B,ZA F];exact⟨Z,Z⟩
theorem jb(f g:List Nat->xC):∀R:List (List Nat),Zb (R.map f) (R.map g)=R.flatMap fun r=>f r++g r
 |[]=>rfl
 | r::R=>by
  show f r++g r++Zb (R.map f) (R.map g)=_;rw[jb f g R,VY]
theorem fC{k n s:Nat} {R:List (List Nat)} (z:Qv (rn k)=xU n s) (j:k≠12) (h:∀r∈R,qY k r):(R.map (enc (Qv (rn k)))).flatten=R.flatMap fun r=>r.flatMap (Gk s):=by rw[Qab];congr 1;refine UN fun r hr=>?_;have:=h r hr;unfold qY at this;rw[Wh j,z,Vt]at this;rw[z,xn this]
structure yB(c:String->List xC) (l:List (Nat×List Nat)):Prop where
 rows:Rows 14 l
 at_:∀k,k<=11->c (nm k)=(Gm k l).map (enc (Qv (rn k)))
 pt:c "paint" = (Gm 12 l).map (fun r=>enc (xU 32 2) (r.take 32))
 co:c "coats" = (Gm 12 l).map fun r=>GX (r.drop 32)
theorem yB.one {l:List (Nat×List Nat)} (T:yB c l) {k n s:Nat} (hk:k<=11) (j:YS k=true) (z:Qv (rn k)=xU n s):(c (nm k)).flatten=(Vz k l).flatMap (Gk s):=by
 rw[T.at_ k hk,fC z L (Jm T.rows)];unfold Vz;rcases gY j T.rows with e|⟨r,e⟩
 ·rw[e];rfl
 ·rw[e];simp
theorem yB.many {l:List (Nat×List Nat)} (T:yB c l) {k n s:Nat} (hk:k<=11) (j:Qv (rn k)=xU n s):(c (nm k)).flatten=(Gm k l).flatMap fun r=>r.flatMap (Gk s):=by rw[T.at_ k hk,fC j L (Jm T.rows)]
theorem yB.len {l:List (Nat×List Nat)} (T:yB c l) {k:Nat} (hk:k<=11):(c (nm k)).length=(Gm k l).length:=by rw[T.at_ k hk,xD]
theorem yB.pane {l:List (Nat×List Nat)} (T:yB c l):(c "pane").flatten=(Gm 3 l).flatMap fun(r:List Nat)=>(r.take 2).flatMap (Gk 4)++(r.drop 2).flatMap (Gk 2):=by
 rw[show c "pane" = _ from T.at_ 3 Wa,Qab];congr 1;refine UN fun r hr=>?_;have:=Jm T.rows r hr;unfold qY at this;rw[Wh Wa,show(Qv (rn 3)).length=4 from Z]at this;match r,this with
 |[a,b,d,e],_=>simp[Qv,rn,enc]
theorem yB.eq {l:List (Nat×List Nat)} (T:yB c l):Yj c=Qai l:=by
 have G:(c "window").flatten=(Vz 0 l).flatMap (Gk 4):=T.one (k:=0) (n:=2) Wa Wa rfl;have I:(c "cut").flatten=(Vz 4 l).flatMap (Gk 4):=T.one (k:=4) (n:=5) Wa Wa rfl;have J:(c "lead").flatten=(Vz 5 l).flatMap (Gk 4):=T.one (k:=5) (n:=5) Wa Wa rfl;have O:(c "margin").flatten=(Vz 6 l).flatMap (Gk 4):=T.one (k:=6) (n:=1) Wa Wa rfl;have U:(c "ways").flatten=(Vz 7 l).flatMap (Gk 4):=T.one (k:=7) (n:=1) Wa Wa rfl;have o8:(c "shelf").flatten=(Vz 8 l).flatMap (Gk 8):=T.one (k:=8) (n:=1) Wa Wa rfl;have m1:(c "point").flatten=_:=T.many (k:=1) (n:=2) (s:=4) Wa rfl;have m2:(c "line").flatten=_:=T.many (k:=2) (n:=2) (s:=2) Wa rfl;have m3:=T.pane;have m9:(c "sheet").flatten=_:=T.many (k:=9) (n:=4) (s:=4) Wa rfl;have vW:(c "kind").flatten=_:=T.many (k:=10) (n:=2) (s:=4) Wa rfl;have Bv:(c "glass").flatten=_:=T.many (k:=11) (n:=32) (s:=2) Wa rfl;have l1:(c "point").length=_:=T.len (k:=1) Wa;have l2:(c "line").length=_:=T.len (k:=2) Wa;have l3:(c "pane").length=_:=T.len (k:=3) Wa;have l9:(c "sheet").length=_:=T.len (k:=9) Wa;have j:(c "kind").length=_:=T.len (k:=10) Wa;have z:(c "glass").length=_:=T.len (k:=11) Wa;have B:(c "paint").length=(Gm 12 l).length:=by rw[T.pt,xD]
 have F:Zb (c "paint") (c "coats")=(Gm 12 l).flatMap fun(r:List Nat)=>Gla.lightBytes (r.take 32)++GX (r.drop 32):=by rw[T.pt,T.co,jb,Qab,Qab];congr 1;refine UN fun r hr=>?_;have:=Jm T.rows r hr;unfold qY at this;rw[Wi Z]at this;rw[xn (by rw[Go];lia)];rfl
 have z2:Gk 2 0=[0,0]:=by decide
 have ec:Zk c=Vi++((Vz 0 l).flatMap (Gk 4)++(Gk 2 (Gm 1 l).length++(Gk 2 (Gm 2 l).length++(Gk 2 (Gm 3 l).length++(Gk 2 0++((Gm 1 l).flatMap (fun(r:List Nat)=>r.flatMap (Gk 4))++((Gm 2 l).flatMap (fun(r:List Nat)=>r.flatMap (Gk 2))++
  (Gm 3 l).flatMap fun(r:List Nat)=>(r.take 2).flatMap (Gk 4)++(r.drop 2).flatMap (Gk 2)))))))):=by
  unfold Zk;simp only[xV,Vm,Gw,Qbf,Ux,GV,G,m1,m2,m3,l1,l2,l3,z2]
 unfold Yj YJ d8 pD Qai;simp only[xV,Vm,Gw,Qbf,Ux,GV,I,J,O,U,o8,m9,vW,Bv,F,l9,j,z,B,ec,Qap];rfl
theorem vL {l:List (Nat×List Nat)} (R:Rows 14 l):yB (QK "end" [] (Zw l (QK "workshop" [] c0))) l:=by
 refine⟨R,fun k hk=>?_,?_,?_⟩
 ·rw[ZA (show nm k ≠ "end" from qC (j:=k) (k:=13) L Wa L),ub hk R];have:∀ k:Fin 12,QK "workshop" [] c0 (nm k)=[]:=by decide +kernel
  rw[this ⟨k,by lia⟩];rfl
 ·rw[ZA Wa,(iU R).1];rfl
 ·rw[ZA Wa,(iU R).2];rfl
def pE(t:xC):Bool:=decide (((QJ "" c0 t).1 "end").length=1)&&decide ((QJ "" c0 t).2=t.length)
def mN(t:xC):List V:=if pE t=true then(match pT ZX (Yj (QJ "" c0 t).1) with
  |some x=>[.int (-5),.int ((x.1+16:Nat):Int),.int (x.2:Int)]
  |none=>.int 0::.int ((Yj (QJ "" c0 t).1).length:Int)::bl (Yj (QJ "" c0 t).1)) else [.int (-5),.int 1,.int ((QJ "" c0 t).2:Int)]
theorem i5{x:V6}(h:um b x):Qa9 x=b:=by
 have k:(QI b).take 4=Vi/\xI (QI b) 18 2=0/\(QI b).length=20+8*xI (QI b) 12 2+4*xI (QI b) 14 2+12*xI (QI b) 16 2:=by
  have h:=h.plan;generalize QI b=c at *;unfold UR at h;split at h
  ·cases h
  ·split at h
   ·cases h
   ·rename_i h1;split at h
    ·cases h
    ·split at h
     ·cases h
     ·split at h
      ·cases h
      ·split at h
       ·cases h
       ·split at h
        ·cases h
        ·split at h
         ·cases h
         ·rename_i h2;split at h
          ·lia
          ·rename_i j;exact⟨by simpa using h1,by simpa using h2,by simpa [Qb9] using j⟩
 rw[h.eq];refine Pl.lr h.mag h.len ?_ h.coat;rw[Pl.iH k.1 k.2.1 k.2.2,<-JY];rfl
theorem mQ:∀{s:Nat} {l:List (Nat×List Nat)} {c:String->List xC},Rows s l->Zw l c "end" = c "end"
 |s,[],c,_=>rfl
 | s,x::l,c,R=>by
  obtain⟨a,b,_,d⟩:=R;show Zw l (Zj x.1 x.2 c) "end" = _;rw[mQ d,JC (show "end" ≠ nm x.1 from qC (j:=13) Wa L L) Wa]
theorem ki(t:xC):Za (QY "" c0) t=match Gb [Gi "workshop" ++ [10]] t with
  |.error n=>(none,n)
  |.ok (_,n)=>(some ("workshop",[]),n):=by
 have hw:QY "" c0=[("workshop",[])]:=by decide
 have j:QS [("workshop",[])]=[Gi "workshop" ++ [10]]:=by decide +kernel
 unfold Za;rw[hw,j,z9];by_cases h:Gi "workshop" ++ [10]=t.take (Gi "workshop" ++ [10]).length
 ·rw[Wi h];rfl
 ·rw[Wh h]
theorem ot(t:xC):match Qbq t with
  |.error e=>(pE t=false/\e=⟨1,(QJ "" c0 t).2⟩)\/(pE t=true/\∃x,pT ZX (Yj (QJ "" c0 t).1)=some x/\e=⟨x.1+16,x.2⟩)
  |.ok x=>pE t=true/\pT ZX (Yj (QJ "" c0 t).1)=none/\Qa9 x=Yj (QJ "" c0 t).1:=by
 have F:=ki t
 have no:((QJ "" c0 t).1 "end").length=1->(QJ "" c0 t).2≠t.length->pE t=false:=fun h1 h2=>by
  unfold pE;lia
 have j:((QJ "" c0 t).1 "end").length≠1->pE t=false:=fun h=>by
  unfold pE;lia
 unfold Qbq;cases e:Gb [Gi "workshop" ++ [10]] t with
 | error k=>
  rw[e]at F;have aa:=XD F;simp only;refine .inl ⟨j ?_,?_⟩
  ·rw[aa];show([]:List xC).length≠1;decide
  ·rw[aa]
 | ok I=>
  obtain⟨i,w⟩:=I;rw[e]at F;have aa:=Jl F;obtain⟨o1,o2,o3⟩:=yb e
  have O:w<=t.length:=by grind
  have S:St 14 0 (QK "workshop" [] c0):=by
   have:∀k:Fin 14,QK "workshop" [] c0 (nm k)=[]:=by decide +kernel
   exact⟨.inr Z,fun _ h=>by lia,fun k h1 h2 _=>this ⟨k,by lia⟩,this ⟨13,by decide⟩⟩
  have R:=qA (t.length+1) 14 0 (QK "workshop" [] c0) (t.drop w) (by rw[Gd];lia) S;rw[show sw 14 = "workshop" from Z]at R;simp only;cases r:Gh (t.length+1) 14 0 (t.drop w) with
  | error m=>
   rw[r]at R;obtain⟨n,z⟩:=R;simp only;refine .inl ⟨?_,?_⟩
   ·by_cases q:((QJ "" c0 t).1 "end").length=1
    ·refine no q ?_;rw[aa]at q ⊢;grind
    lia
   ·lia
  | ok x=>
   rw[r]at R;obtain⟨n,z,B⟩:=R;simp only;rw[n]at aa;have U:=vL B
   have hB:Yj (QJ "" c0 t).1=Qai x.1:=by rw[aa];exact U.eq
   have G:pE t=true:=by
    unfold pE;rw[aa];rw[Gd]at z
    have e1:(QK "end" [] (Zw x.1 (QK "workshop" [] c0)) "end").length=1:=by rw[qr,mQ B];decide
    lia
   rw[hB];have J:=j4 (Qai x.1);cases q:Qah (Qai x.1) with
   | error f=>
    rw[q]at J;simp only;exact .inr ⟨G,(f.rule,f.place),J.symm,Z⟩
   | ok s=>
    rw[q]at J;simp only;exact⟨G,J.symm,i5 (j3 q)⟩
theorem A7(b:xC):(PageNeutral.told (.bytes b)).map V.int=.int 0::.int (b.length:Int)::bl b:=by show List.map V.int (0::PageNeutral.bytesN b)=_;unfold PageNeutral.bytesN PageNeutral.rowN;show V.int 0::V.int _::_=_;rw[xD];congr 2;unfold bl;rw[VA];rfl
theorem sM{l:List Int}(h:∀z∈l,0<=z/\z<=255)(hl:l.length<=40000):mN (pB l)=(PyYqglia.read l).map V.int:=by
 have e:PyYqglia.read l=PageNeutral.told (GlaPages.answer (.read (pB l))):=by have c:PageNeutral.callOf [[3],l]=(PageNeutral.bytes l).bind fun b=>some (.read b):=rfl;unfold PyYqglia.read PageNeutral.f;rw[c,yI h];rfl
 rw[e]
 show _=(PageNeutral.told (if GlaPages.TEXT<(pB l).length then GlaPages.LARGE else match Qbq (pB l) with
  |.error e=>GlaPages.fault 0 e
  |.ok x=>.bytes (Qa9 x))).map V.int
 rw[Wh (by rw[lR];show ¬4194304<l.length;lia)];have P:=ot (pB l);unfold mN;cases q:Qbq (pB l) with
 | error f=>
  rw[q]at P;rcases P with⟨j,p2⟩|⟨j,x,p2,n⟩
  ·rw[j,p2];rfl
  ·rw[j,p2,n];rfl
 | ok x=>
  rw[q]at P;obtain⟨j,p2,n⟩:=P;rw[j,p2];show _=(PageNeutral.told (.bytes (Qa9 x))).map V.int;rw[A7,n];rfl
inductive vx(K:xB)(vs:List V)(H:Hp)(Q:VK)(E:XK):Prop
 |mk (a:Addr) (t:xC):vs=[.ref a]->ba K H a (bl t)->t.length<=40000->(∀H' l,Qn H H'->H' l=some (.lst (mN t))->Q (.ref l) H')->vx K vs H Q E
abbrev B6:Stmt:=top 115
theorem wz:a7 ["text","scan","workshop","fault"] ["text"] (a6 B6):=.mk'
structure HF(mg:Str->Option Value):Prop where
 gM:GI mg "MOST_PAGE_BYTES" 4194304
 g6:GI mg "TOO_LONG" (-6)
 g1:GI mg "NO_PAGE" 1
 g16:GI mg "TOLD_RULES" 16
theorem FJ(F:bG K "read" "read" B6 f fd)(T:JZ K mg C)(R:HF mg)(U:Txt K mg) (SO:bu P w K mg base 5 "scan_of" ["text"] (AL K C)) (M:XS P w K mg base C 1 "is_page" ["self"] (Bt K C)) (Rf:bu P w K mg base 1 "refusal" ["fault","more"] (BE K))
  (WT:bu P w K mg base 4 "workshop_told" ["rows"] (C' K)) (Wf:bu P w K mg base 9 "workshop_fault" ["workshop"] (zL K (pT ZX))) (Ct:bu P w K mg base 1 "counted" ["octets"] (t8 K)):QC P w K mg base bD 10 f fd ["text"] (vx K):=by
 obtain⟨fm,ab,hm,bm,G⟩:=M.ex;apply F.bM wz;rintro _ H Q E ⟨a,t,rfl,hS,hl,k⟩;refine⟨Z,fun _ _ _ _ hr=>?_⟩;have n:ZJ 1 _:=hr.mono Wa
 refine⟨_,Qb (QD (Qt Zn (Qx Qp Wg U.len Wx (Qa (pv 0) Qc)) (QP R.gM) (Qo _)) (Qd (Qj (QU (Qa (QP R.g6) Qc)))) Qq)
  (Qb (bA 1 wz.nd (Qs SO (hr.mono Wa) (Qa (pv 0) Qc)))
  (Qb (QD (X7 (Zd (Yo (pv 1) T.cl hm G n bm .nil Zc))) (Qd (Qj (Qs Rf n (Qa (Ze (Qa (QP R.g1) (Qa (Qw (pv 1) Z) Qc))) (Qa Qi Qc))))) Qq)
  (Qb (bA 2 wz.nd (Qs WT (hr.mono Wa) (Qa (Qw (pv 1) Z) Qc)))
  (Qb (bA 3 wz.nd (Qs Wf hr (Qa (pv 2) Qc)))
  (Qb (QD (Q7 (ZW (pv 3))) (Qd (Qj (Qs Rf n (Qa (pv 3) (Qa (QP R.g16) Qc))))) Qq)
  (Qd (Qj (Qs Ct n (Qa (pv 2) Qc))))))))),?_⟩
 refine⟨_,Z,a,_,Z,.inl hS,_,_,Z,Z,_,Z,Qz (fun h1=>?_) (fun h1=>?_)⟩
 ·exfalso;have h1:(4194304:Int)<((bl t).length:Int):=Wj h1;rw[Ql]at h1;lia
 refine⟨_,Z,a,t,Z,hS,by lia,fun H1 p dx d I ad s1 S=>?_⟩;have D:=S.sc;refine⟨_,Z,p,dx,_,Z,D.ins,zQ _ _ _ Wb Wb Wb,p,dx,a,d,t,_,I,ad,_,Z,S,?_⟩;unfold mN pE at k;cases hp:(decide (((QJ "" c0 t).1 "end").length=1)&&decide ((QJ "" c0 t).2=t.length)) with
 | false=>
  rw[hp,Wh Wa]at k;refine⟨_,Z,Qz (fun j=>?_) (fun j=>Wm Z j)⟩;refine⟨_,Z,p,C,dx,_,_,Z,D.ins,T.cl,T.nP,jK _ _ _,(by show 2<=sizeLine;decide),fun q hq=>?_⟩;refine⟨q,(1,(QJ "" c0 t).2),0,Z,Qe,fun H2 l O h2=>k _ _ ((s1.trans (Qk _ hq)).trans O) h2⟩
 | true=>
  rw[hp,Wi Z]at k;refine⟨_,Z,Qz (fun j=>Wm j Wa) (fun j=>?_)⟩;have ht:=pJ t hl;have ac:=tT (QJ "" c0 t).1;refine⟨_,Z,p,C,dx,_,_,Z,D.ins,T.cl,T.nR,pk _ _ _,d,I,ad,_,Z,S.rws,S.nm,Cn ht,fun H2 o aa _ h2=>?_⟩;have O:=s1.trans aa;generalize Yj (QJ "" c0 t).1=b at *;refine⟨_,Z,o,b,Z,ba.of h2,by lia,fun H3 v J B=>?_⟩;have s3:=O.trans J;cases e2:pT ZX b with
  | some x=>
   rw[e2]at B k;obtain⟨z,rfl,hz⟩:=B;refine⟨_,Z,_,Z,Qz (fun j=>?_) (fun j=>Wm We j)⟩;exact⟨_,Z,z,x,16,Z,hz,fun H4 l4 s4 h4=>k _ _ (s3.trans s4) h4⟩
  | none=>
   rw[e2]at B k;have B:v=.bQ:=B;subst B;refine⟨_,Z,_,Z,Qz (fun j=>Wm j We) (fun j=>?_)⟩;exact⟨_,Z,o,b,Z,J _ _ h2,by lia,fun H4 l4 s4 h4=>k _ _ (s3.trans s4) h4⟩
theorem rj{s:Str}{t:Tok}{vs:List V}{us:List Value}(h:QH vs us):QH (.str s::vs) (.str s t::us):=.cons ⟨t,Z⟩ h
def mP(K:xB)(a:Addr)(s:String)(l:List String):Prop:=∃q:Addr,x4 K a (xE s)=some (some (.ref q))/\Ji K q (l.map fun x=>V.str (xE x))
theorem ug{s:String}{l:List String}{q:Addr} (e:x4 K a (xE s)=some (some (.ref q))) (t:Ji K q (l.map fun x=>V.str (xE x))):mP K a s l:=⟨q,e,t⟩
inductive YE(K:xB)(a:Addr):List (String×List String)->Prop
 |nil:YE K a []
 |cons {s:String} {r:List String} {l:List (String×List String)}:mP K a s r->YE K a l->YE K a ((s,r)::l)
theorem YE.mem:∀{l:List (String×List String)},YE K a l->∀s r,(s,r)∈l->mP K a s r
 |_,.nil,s,r,h=>by cases h
 | _,.cons h t,s,r,m=>by
  rcases List.mem_cons.1 m with e|m
  ·lia
  ·exact t.mem s r m
theorem oC{s:String}{r:List String} {l:List (String×List String)} (h:mP K a s r) (t:YE K a l):YE K a ((s,r)::l):=.cons h t
def xA(K:xB)(j:Params):Prop:=∃(a:Addr)(es:Array DictEntry)(n:Nat),x4 K mainGlobals "FOLLOWERS" = some (some (.ref a))/\K.lookup a=some ⟨.type "dict",none,.dict es n,#[]⟩/\G8 j es.toList/\YE K a Z5
theorem pb{j:Params}{es:Array DictEntry}{n:Nat} (e:x4 K mainGlobals "FOLLOWERS" = some (some (.ref a))) (l:K.lookup a=some ⟨.type "dict",none,.dict es n,#[]⟩) (k:G8 j es.toList) (r:YE K a Z5):xA K j:=⟨a,es,n,e,l,k,r⟩
inductive Z4:List DictEntry->List (String×List WA)->Prop
 |nil:Z4 [] []
 |cons {en:DictEntry} {s:String×List WA} {es:List DictEntry} {l:List (String×List WA)}:(∃t,en.key=.str (xE s.1) t)->Z4 es l->Z4 (en::es) (s::l)
theorem Z4.len{es:List DictEntry} {l:List (String×List WA)} (h:Z4 es l):es.length=l.length:=by
 induction h with
 |nil=>rfl
 |cons _ _ j=>rw[xQ,xQ,j]
theorem Z4.at_{es:List DictEntry} {l:List (String×List WA)} (h:Z4 es l):∀(i:Nat)(en:DictEntry),es[i]?=some en->∃(s:String×List WA) (t:Tok),l[i]?=some s/\en.key=.str (xE s.1) t:=by
 induction h with
 |nil=>intro i en h;simp at h
 | cons h _ j=>
  intro i en e;cases i with
  | zero=>
   cases e;obtain⟨t,h⟩:=h;exact⟨_,t,Z,h⟩
  |succ i=>exact j i en (by simpa using e)
theorem kP{en:DictEntry} {s:String×List WA} {es:List DictEntry} {l:List (String×List WA)} {t:Tok} (h:en.key=.str (xE s.1) t) (k:Z4 es l):Z4 (en::es) (s::l):=.cons ⟨t,h⟩ k
def vK(K:xB):Prop:=∃(a:Addr)(es:Array DictEntry)(n:Nat),x4 K mainGlobals "NUMBER_RUNS" = some (some (.ref a))/\(a==sysModules)=false/\K.lookup a=some ⟨.type "dict",none,.dict es n,#[]⟩/\Z4 es.toList QN
theorem vq{es:Array DictEntry}{n:Nat} (e:x4 K mainGlobals "NUMBER_RUNS" = some (some (.ref a))) (o:(a==sysModules)=false) (l:K.lookup a=some ⟨.type "dict",none,.dict es n,#[]⟩) (k:Z4 es.toList QN):vK K:=⟨a,es,n,e,o,l,k⟩
inductive bX(K:xB)(a:Addr):List (String×List WA)->Prop
 |nil:bX K a []
 |no {s:String} {r:List WA} {l:List (String×List WA)}:XW s=false->x4 K a (xE s)=some none->bX K a l->bX K a ((s,r)::l)
 |yes {s:String} {r:List WA} {l:List (String×List WA)} {t:Tok}:XW s=true->x4 K a (xE s)=some (some (.int 65535 t))->bX K a l->bX K a ((s,r)::l)
theorem bX.none {l:List (String×List WA)} (h:bX K a l):∀s rs,(s,rs)∈l->XW s=false->x4 K a (xE s)=some none:=by
 induction h with
 |nil=>intro s rs h;cases h
 | no h1 h2 _ j=>
  intro s rs m q;rcases List.mem_cons.1 m with e|m
  ·lia
  ·grind
 | yes h1 h2 _ j=>
  intro s rs m q;rcases List.mem_cons.1 m with e|m
  ·lia
  ·grind
theorem bX.some {l:List (String×List WA)} (h:bX K a l):∀s rs,(s,rs)∈l->XW s=true->∃t,x4 K a (xE s)=.some (.some (.int 65535 t)):=by
 induction h with
 |nil=>intro s rs h;cases h
 | no h1 h2 _ j=>
  intro s rs m q;rcases List.mem_cons.1 m with e|m
  ·lia
  ·grind
 | yes h1 h2 _ j=>
  intro s rs m q;rcases List.mem_cons.1 m with e|m
  ·grind
  ·grind
def xx(K:xB)(j:Params):Prop:=∃(a:Addr)(es:Array DictEntry)(n:Nat),x4 K mainGlobals "MOST_LINES" = some (some (.ref a))/\(a==sysModules)=false/\K.lookup a=some ⟨.type "dict",none,.dict es n,#[]⟩/\G8 j es.toList/\bX K a QN
theorem oM{j:Params}{es:Array DictEntry}{n:Nat} (e:x4 K mainGlobals "MOST_LINES" = some (some (.ref a))) (o:(a==sysModules)=false) (l:K.lookup a=some ⟨.type "dict",none,.dict es n,#[]⟩) (k:G8 j es.toList) (r:bX K a QN):xx K j:=⟨a,es,n,e,o,l,k,r⟩
def xz(K:xB):Prop:=∃(a:Addr)(es:Array DictEntry)(n:Nat),x4 K mainGlobals "LARGEST" = some (some (.ref a))/\K.lookup a=some ⟨.type "dict",none,.dict es n,#[]⟩/\XC es.toList/\∀s∈[1,2,4,8],∃k,findBy Value.isInt es ((s:Nat):Int)=some (.int (lg s:Int) k)
theorem n8{es:Array DictEntry}{n:Nat} (e:x4 K mainGlobals "LARGEST" = some (some (.ref a))) (l:K.lookup a=some ⟨.type "dict",none,.dict es n,#[]⟩) (k:XC es.toList) (r:∀s∈[1,2,4,8],∃k,findBy Value.isInt es ((s:Nat):Int)=some (.int (lg s:Int) k)):xz K:=⟨a,es,n,e,l,k,r⟩
theorem xk{es:Array DictEntry}{z:Int}{v:Value} (h:(es.toList.find? fun e=>Value.isInt z e.key).map (fun e=>e.val)=some v):findBy Value.isInt es z=some v:=by unfold findBy;grind
theorem uV{es:Array DictEntry}{k1 k2 k4 k8:Tok} (h1:(es.toList.find? fun e=>Value.isInt 1 e.key).map (fun e=>e.val)=some (.int 255 k1)) (h2:(es.toList.find? fun e=>Value.isInt 2 e.key).map (fun e=>e.val)=some (.int 65535 k2)) (n:(es.toList.find? fun e=>Value.isInt 4 e.key).map (fun e=>e.val)=some (.int 4294967295 k4)) (z:(es.toList.find? fun e=>Value.isInt 8 e.key).map (fun e=>e.val)=some (.int 18446744073709551615 k8)):∀s∈[1,2,4,8],∃k,findBy Value.isInt es ((s:Nat):Int)=some (.int (lg s:Int) k):=by
 intro s j;simp only[GW,GD,Ws]at j;rcases j with rfl|rfl|rfl|rfl
 ·exact⟨k1,xk h1⟩
 ·exact⟨k2,xk h2⟩
 ·exact⟨k4,xk n⟩
 ·exact⟨k8,xk z⟩
theorem ka{e:DictEntry}{r:List DictEntry}{x:Int}{t:Tok}(h1:e.key=.int x t)(h2:e.hash=hashInt x)(k:XC r):XC (e::r):=⟨⟨x,t,h1,h2⟩,k⟩
structure Kr(K:xB)(C:Addr)(Pm:Params):Prop where
 cl:ua K "Scan" C
 nT:Q8 K C "text"
 nP:Q8 K C "place"
 nR:Q8 K C "rows"
 mI:Xd K C "__init__" "Scan.__init__" vz
 mOA:Xd K C "octet_ahead" "Scan.octet_ahead" HZ
 mTk:Xd K C "takes" "Scan.takes" Kq
 mIP:Xd K C "is_page" "Scan.is_page" KP
 g10:Zx K "LINE_END" 10
 g32:Zx K "BLANK" 32
 g48:Zx K "ZERO" 48
 g57:Zx K "NINE" 57
 gM:Zx K "MOST_PAGE_BYTES" 4194304
 g6:Zx K "TOO_LONG" (-6)
 g5:Zx K "BROKEN_RULE" (-5)
 g1:Zx K "NO_PAGE" 1
 g16:Zx K "TOLD_RULES" 16
 runs:xw K Pm
 rk:vK K
 foll:xA K Pm
 most:xx K Pm
 larg:xz K
 dNs:QB K "number_sizes" "number_sizes" Kd
 dAC:QB K "agreeing_count" "agreeing_count" Kw
 dTN:QB K "take_number" "take_number" Km
 dOO:QB K "octets_of" "octets_of" HP
 dTNs:QB K "take_numbers" "take_numbers" Bw
 dTC:QB K "take_coats" "take_coats" Ki
 dWO:QB K "word_octets" "word_octets" Ho
 dTW:QB K "take_word" "take_word" HW
 dWB:QB K "words_behind" "words_behind" HJ
 dTL:QB K "take_line" "take_line" HQ
 dSO:QB K "scan_of" "scan_of" IZ
 dJn:QB K "joined" "joined" HC
 dRO:QB K "row_octets" "row_octets" Hn
 dCO:QB K "count_octets" "count_octets" Hm
 dCT:QB K "cartoon_told" "cartoon_told" Ij
 dPT:QB K "paintings_told" "paintings_told" Ks
 dWT:QB K "workshop_told" "workshop_told" Il
 dRf:QB K "refusal" "refusal" IG
 dCtd:QB K "counted" "counted" BH
theorem vK.g{h:Heap}(j:K.In h)(G:h.Ns mainGlobals mg)(R:vK K):Al K mg:=by
 obtain⟨a,es,n,e,o,l,k⟩:=R;refine⟨a,es,n,Uk j G e,o,l,?_,fun i en h=>?_⟩
 ·rw[<-VF];exact k.len
 ·exact k.at_ i en (by simpa using h)
theorem xA.g{j:Params}{h:Heap}(z:K.In h)(G:h.Ns mainGlobals mg)(R:xA K j):Ai K j mg:=by obtain⟨a,es,n,e,l,k,r⟩:=R;refine⟨a,es,n,Uk z G e,l,k,fun s x B=>?_⟩;obtain⟨q,F,t⟩:=r.mem s x B;exact⟨q,F,t.sq⟩
theorem xx.g{z:Params}{h:Heap}(B:K.In h)(G:h.Ns mainGlobals mg)(R:xx K z):Ab K z mg:=by
 obtain⟨a,es,n,e,o,l,k,r⟩:=R;refine⟨a,es,n,Uk B G e,o,l,k,fun s rs h1 h2=>r.none s rs h1 h2,fun s j=>?_⟩
 have:∃rs,(s,rs)∈QN:=by
  unfold XW at j;simp only[VM,beq_iff_eq]at j;rcases j with(rfl|rfl)|rfl
  ·exact⟨[(2,4)],by decide⟩
  ·exact⟨[(2,2)],by decide⟩
  ·exact⟨[(2,4),(2,2)],by decide⟩
 obtain⟨rs,F⟩:=this;exact r.some s rs F j
theorem xz.g{h:Heap}(j:K.In h)(G:h.Ns mainGlobals mg)(R:xz K):r9 K mg:=by obtain⟨a,es,n,e,l,k,r⟩:=R;exact⟨a,es,n,Uk j G e,l,k,r⟩
theorem sr{mg:Str->Option Value}{h:Heap}{C D fa:Addr}(z:K.In h)(G:h.Ns mainGlobals mg) (ag:mg "read" = some (.ref fa)) (T:XR K C) (Dr:QB K "read" "read" B6) (j:Kr K D w.params) :
  ∃fd:FuncData,(∀(s:Shared)(us:List Value),us.length=(["text"]:List Str).length->BindsTo s fd ⟨us,[]⟩ ((["text"]:List Str).zip us))/\∀base:Heap,K.In base->base.Ns mainGlobals mg->QC P w K mg base bD 10 fa fd ["text"] (vx K):=by
 obtain⟨f,oc,od,kV,dc,pm,an,cd,ct,sl,n,l,c,kp⟩:=Dr.ex;have e:=ag.symm.trans (Uk z G n);cases e;have F:=yl (st:=B6) l c kp;refine⟨Ua "read" "read" (bZ B6) (bR B6) (a6 B6) .none kV dc pm an cd ct,fun s us hu=>match us,hu with | [_],_=>.of_eq rfl,fun base _ _=>?_⟩;have U:=T.txt z G;have S:JZ K mg D:=⟨⟨j.cl.pg,j.cl.hd,j.cl.po,j.cl.sa⟩,j.nT,j.nP,j.nR,Uk z G j.cl.ns,j.g10.gi z G,j.g32.gi z G,j.g48.gi z G,j.g57.gi z G⟩;have aM:=j.larg.g z G;have R:=j.runs.g z G;have B:=j.mOA.has P w base (mg:=mg) fun F=>DF F S U;have J:=j.mTk.has P w base (mg:=mg) fun F=>FQ F S B;have ah:=j.mIP.has P w base (mg:=mg) fun F=>Fu F S U;have ai:=j.dNs.has P w base z G fun F=>FT F R;have aj:=j.dAC.has P w base z G fun F=>Fm F S U B;have O:=j.dTN.has P w base z G fun F=>F' F S B;have I:=j.dOO.has P w base z G fun F=>FU F U;have aa:=j.dTNs.has P w base z G fun F=>A4 F S U aM J O I;have ak:=j.dTC.has P w base z G fun F=>DC F S U aM J O;have ao:=j.dWO.has P w base z G fun F=>D9 F S U R;have aq:=j.dTW.has P w base z G fun F=>DG F S U ao aj;have au:=j.dWB.has P w base z G fun F=>E1 F S U (j.foll.g z G) (j.most.g z G);have av:=j.dTL.has P w base z G fun F=>Eh F S aq ai ak aa;obtain⟨fi,aC,aD,aE,aF,aG,aH,aI,aJ,aK,ni,ii,li,ci,aw⟩:=j.mI.ex;have FI:=yl (st:=vz) li ci aw;have bI:=FI.binds (ps:=["self","text"]) fun _ _ _ _ _ _=>Hs fun _ _=>rfl;have ax:=j.dSO.has P w base z G fun F=>Fs F S ⟨j.cl.mak,ni,ii,j.cl.kc⟩ bI (Ck FI S (j.rk.g z G)) av au;have ab:=j.dJn.has P w base z G Es;have ac:=j.dRO.has P w base z G fun F=>E6 F ab;have ad:=j.dCO.has P w base z G fun F=>EB F U ab I;have ay:=j.dCT.has P w base z G fun F=>EW F U (T.sgC.sgn z G) ac ad;have az:=j.dPT.has P w base z G fun F=>ED F U;have aA:=j.dWT.has P w base z G fun F=>Ex F U (T.sgW.sgn z G) ac ad I ay az;have aB:=j.dRf.has P w base z G fun F=>Fw F (j.g5.gi z G);have af:=j.dCtd.has P w base z G fun F=>Cy F U;exact FJ F S ⟨j.gM.gi z G,j.g6.gi z G,j.g1.gi z G,j.g16.gi z G⟩ U ax ah aB aA (T.LA z G) af
end Gp
open PySem PySem.W PyProof.Rows
theorem PySem.Challenge.cw_glasspages_s03_read_holds : PySem.Challenge.rw_glasspages_s03_read.Holds := by
 w_on
 refine PySem.W.holds_os (q:=Hd.q) (loose:=Hd.ls) (Xt:=Hd.Xt) (XP:=PySem.W.XL Hd.q []) (Yf:=PySem.W.Hook.obs (Qaj Hd.K Hd.as Hd.ae)) (Ya:=PySem.W.Hook.val (Qaj Hd.K Hd.as Hd.ae)) (YP:=PySem.W.Hook.says (Qaj Hd.K Hd.as Hd.ae)) (N:=8502) Hd.hl (PySem.W.Hook.of (Qaj Hd.K Hd.as Hd.ae)) (PySem.W.Hook.keeps (Qaj Hd.K Hd.as Hd.ae)) (fun s e=>PySem.W.xl_of s (Bool.and_eq_true_iff.mp e).1) PySem.W.XL.keeps Wg Wg Wg (fun s e=>PySem.W.recFacts_of (Bool.and_eq_true_iff.mp e).2) (PySem.W.os_shapes) (by first|assumption|decide +kernel) Wb ⟨Z,Z,Z,Z,Z,by decide +kernel⟩ ?hw ?hc
 (case hw=>exact⟨[.list []],by decide +kernel,by decide +kernel⟩)
 k_fillS
 refine L2.kX (r:=PySem.Challenge.rw_glasspages_s03_read) (k:=10) (CX:=L2.bD) (ps:=["text"]) (sp:=fun K=>Gp.vx K) Wb Z Z ⟨Z,by decide,by decide⟩ (fun w h Y=>PySem.W.kIn_of Y) ?F ?S (fun _ _ _ _ z=>z)
 case F=>
  intro w mg fa h Y KX G LD;refine' Gp.sr KX G LD ?T ?D ?P
  (case D=>(refine' Gp.fj ?a ?b ?c ?d;(case a=>k_is);(case b=>k_is);(case c=>k_is);(case d=>k_is)))
  case T|P=>
   constructor
   all_goals first
    |((with_reducible refine' Gp.fj ?a ?b ?c ?d);(case a=>k_is);(case b=>k_is);(case c=>k_is);(case d=>k_is))
    |((with_reducible refine' Gp.sN ?a);(case a=>k_is))
    |((with_reducible refine' Gp.sU ?a);(case a=>k_is))
    |((with_reducible refine' Gp.oU ?a);(case a=>k_is))
    |((with_reducible refine' Gp.oJ ?a ?i ?b ?c ?d);(case a=>k_is);(case i=>k_is);(case b=>k_is);(case c=>k_is);(case d=>k_is))
    |((with_reducible refine' Gp.ua.mk ?a ?b ?c ?d ?e ?f ?g);(case a=>k_is);(case b=>k_is);(case c=>k_is);(case d=>k_is);(case e=>k_is);(case f=>k_is);(case g=>k_is))
    |((with_reducible refine' Gp.tR ?n ?t);(case n=>k_is);(case t=>(refine' Gp.dJ ?l ?z ?v;(case l=>k_is);(case z=>decide);(case v=>repeat first|exact .nil|refine' Gp.eE ?_))))
    |((with_reducible refine' Gp.oN ?n ?l ?z ?r);(case n=>k_is);(case l=>k_is);(case z=>decide);(case r=>(repeat (refine' Gp.tK ?h ?_;(case h=>(refine' Gp.dJ ?l ?z ?v;(case l=>k_is);(case z=>decide);(case v=>repeat first|exact .nil|refine' Gp.eE ?_)))));exact .nil))
    |((with_reducible refine' Gp.pa ?e ?l ?k ?r);(case e=>k_is);(case l=>k_is);(case k=>k_keys);(case r=>(repeat (refine' Gp.ku ?h ?_;(case h=>(refine' Gp.t7 ?x ?y ?z ?s;(case x=>k_is);(case y=>k_is);(case z=>decide);(case s=>(repeat (refine' Gp.pR ?f ?_;(case f=>(refine' Gp.dJ ?l ?z ?v;(case l=>k_is);(case z=>decide);(case v=>repeat first|exact .nil|refine' Gp.eE ?_)))));exact .nil)))));exact .nil))
    |((with_reducible refine' Gp.vq ?e ?o ?l ?k);(case e=>k_is);(case l=>k_is);(case o=>decide);(case k=>((repeat (refine' Gp.kP ?h ?_;(case h=>exact rfl)));exact .nil)))
    |((with_reducible refine' Gp.pb ?e ?l ?k ?r);(case e=>k_is);(case l=>k_is);(case k=>k_keys);(case r=>((repeat (refine' Gp.oC ?h ?_;(case h=>(refine' Gp.ug ?x ?y;(case x=>k_is);(case y=>(refine' Gp.dJ ?l ?z ?v;(case l=>k_is);(case z=>decide);(case v=>repeat first|exact .nil|refine' Gp.rj ?_)))))));exact .nil)))
    |((with_reducible refine' Gp.oM ?e ?o ?l ?k ?r);(case e=>k_is);(case l=>k_is);(case o=>decide);(case k=>k_keys);(case r=>((repeat first|(refine' Gp.bX.no ?a ?b ?_;(case a=>decide);(case b=>k_is))|(refine' Gp.bX.yes ?a ?b ?_;(case a=>decide);(case b=>k_is)));exact .nil)))
    |((with_reducible refine' Gp.n8 ?e ?l ?k ?r);(case e=>k_is);(case l=>k_is);(case k=>((repeat (refine' Gp.ka ?a ?b ?_;(case a=>exact rfl);(case b=>decide +kernel)));exact trivial));(case r=>(refine' Gp.uV ?a ?b ?c ?d;(case a=>exact rfl);(case b=>exact rfl);(case c=>exact rfl);(case d=>exact rfl))))
 case S=>
  intro K H xs a hO Lr Lq hx;cases hx with
  | cons h1 h2=>
   cases h2;cases h1 with
   | lst hs ha=>
    have e:=L2.mn a.1 _ ha;subst e;have q:((Codec.inLen 0 40000 a.1&&a.1.all (Codec.inInt 0 255))&&true)=true:=Lr;rw[Ga,Ga]at q;have hb:=Gp.CQ q.1.2;have hl:a.1.length<=40000:=(Codec.inNat_iff.mp q.1.1).2;refine⟨_,Gp.pB a.1,Z,by rw[Gp.pZ _ hb];exact hs,by rw[Gp.lR];exact hl,fun H' l _ hp=>?_⟩;rw[Gp.sM hb hl]at hp;exact .lst (L2.ba.of hp) (L2.lB _)

